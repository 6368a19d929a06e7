import Derived.Test.YtijehnelcbdlgaaGreatW0
import Derived.Test.YtijehnelcbdlgaaGreatW4
namespace Go.Proofs.aE
open Go.Proofs Ab
noncomputable section
set_option maxRecDepth 100000
set_option maxHeartbeats 4000000
set_option linter.unusedVariables false
set_option linter.unusedSimpArgs false
def jl:Code:=(Tryz.f109.body).getD .skip
theorem vV:Tryz.f109.body=some jl:=by kernel_rfl
def Gj:Code:=(bz jl).getD 0 .skip
def rF:Code:=(jU jl).getD 1 .skip
def rG:Code:=(jU jl).getD 6 .skip
def n9:Code:=(jU jl).getD 7 .skip
def oa:Code:=(jU jl).getD 8 .skip
def iL (bN:List UInt8):Nat→Nat→Option (Bool)
 | 0,_=>none
 | c7+1,i0=>(bif (bif (!(bif (decide (97≤(((bN.g i0).toNat:Nat):Int))) then (decide ((((bN.g i0).toNat:Nat):Int)≤122)) else false)) then (bif (decide (((i0:Nat):Int)=0)) then true else (!(bif (decide (48≤(((bN.g i0).toNat:Nat):Int))) then (bif (decide ((((bN.g i0).toNat:Nat):Int)≤57)) then true else (decide ((((bN.g i0).toNat:Nat):Int)=45))) else (decide ((((bN.g i0).toNat:Nat):Int)=45))))) else false) then some false else iL bN c7 (i0+1))
theorem pW {d:Nat} {h:ak} (bN:List UInt8) (aO:bN.length<2^60):∀(k_ i_:Nat) (_:i_+k_=(List.length bN)) (x:Nat→AV) (hh:ak) (az:Tidy hh) (aw:Has h hh),aA (cA (d)) Gj ⟨((AV.str bN)::rx x 1 13 ((Zn (List.length bN))::(Zn i_)::rx x 16 39 [])),hh,[],.no⟩ (.exit 0) hh (fun y=>((AV.str bN)::rx y 1 13 ((Zn (List.length bN))::rx y 15 40 []))) (fun r y=>((AV.str bN)::(y 1)::(AV.bool r)::rx y 3 11 ((Zn (List.length bN))::rx y 15 40 []))) (iL bN k_ i_)
 | 0,i0,fK,x,hh,az,aw=>by
   have q1:(decide (((i0:Nat):Int)<((List.length bN:Nat):Int)))=false:=d!
   exact aA.out rfl (pk (d) _ _ hh _ hh (VV (aQ 3 false false .i64 ((i0:Nat):Int) ((List.length bN:Nat):Int))<|BB q1<|ZZ) k!) (bC.refl az) k!
 | c7+1,i0,fK,x,hh,az,aw=>by
   have q1:(decide (((i0:Nat):Int)<((List.length bN:Nat):Int)))=true:=d!
   obtain ⟨JN,B3⟩:∃JN:Nat→AV,Ev env (cA (d)) rG ⟨((AV.str bN)::(x 1)::(x 2)::(Zn i0)::rx x 4 10 ((Zn (List.length bN))::(Zn i0)::(AV.bool (decide (((i0:Nat):Int)<((List.length bN:Nat):Int))))::(Zn i0)::rx x 18 37 [])),hh,[],.no⟩ .normal ⟨((AV.str bN)::(x 1)::(x 2)::(Zn i0)::(AV.bool (bif (decide (97≤(((bN.g i0).toNat:Nat):Int))) then (decide ((((bN.g i0).toNat:Nat):Int)≤122)) else false))::rx x 5 9 ((Zn (List.length bN))::(Zn i0)::(AV.bool (decide (((i0:Nat):Int)<((List.length bN:Nat):Int))))::(Zn i0)::rx JN 18 10 (rx x 28 27 []))),hh,[],.no⟩:=by
    have jE:vH env (some .string) (some (AV.str bN)) (some (Zn i0))=some (AV.int .u8 (((bN.g i0).toNat:Nat):Int)):=nZ (j:=i0) o!
    rcases Bool.eq_false_or_eq_true (decide (97≤(((bN.g i0).toNat:Nat):Int))) with f0 | f0
    · have fw:=of_decide_eq_true f0
      have OG:vH env (some .string) (some (AV.str bN)) (some (Zn i0))=some (AV.int .u8 (((bN.g i0).toNat:Nat):Int)):=nZ (j:=i0) o!
      have ev:=pk (d) rG ((AV.str bN)::(x 1)::(x 2)::(Zn i0)::rx x 4 10 ((Zn (List.length bN))::(Zn i0)::(AV.bool (decide (((i0:Nat):Int)<((List.length bN:Nat):Int))))::(Zn i0)::rx x 18 37 [])) hh .normal hh (CN 2<|VV jE<|VV (jf 5 false true .u8 (((bN.g i0).toNat:Nat):Int) 97)<|CC<|BC f0<|BC f0<|BV f0 OG<|BV f0 (kI 5 false true .u8 (((bN.g i0).toNat:Nat):Int) 122)<|VV (nK (decide ((((bN.g i0).toNat:Nat):Int)≤122)) false f0)<|CC<|ZZ) k!
      rw[show (bif (decide (97≤(((bN.g i0).toNat:Nat):Int))) then (decide ((((bN.g i0).toNat:Nat):Int)≤122)) else false)=(decide ((((bN.g i0).toNat:Nat):Int)≤122)) by simp only[f0,aj,af]]
      exact jJ ev k!
    · have fw:=of_decide_eq_false f0
      have ev:=pk (d) rG ((AV.str bN)::(x 1)::(x 2)::(Zn i0)::rx x 4 10 ((Zn (List.length bN))::(Zn i0)::(AV.bool (decide (((i0:Nat):Int)<((List.length bN:Nat):Int))))::(Zn i0)::rx x 18 37 [])) hh .normal hh (CN 2<|VV jE<|VV (jf 5 false true .u8 (((bN.g i0).toNat:Nat):Int) 97)<|CC<|BB f0<|BB f0<|BB f0<|BV f0 (vK false f0)<|CC<|ZZ) k!
      rw[show (bif (decide (97≤(((bN.g i0).toNat:Nat):Int))) then (decide ((((bN.g i0).toNat:Nat):Int)≤122)) else false)=false by simp only[f0,aj,af]]
      exact jJ ev k!
   obtain ⟨Ds,ze⟩:∃Ds:Nat→AV,Ev env (cA (d)) n9 ⟨((AV.str bN)::(x 1)::(x 2)::(Zn i0)::(AV.bool (bif (decide (97≤(((bN.g i0).toNat:Nat):Int))) then (decide ((((bN.g i0).toNat:Nat):Int)≤122)) else false))::rx x 5 9 ((Zn (List.length bN))::(Zn i0)::(AV.bool (decide (((i0:Nat):Int)<((List.length bN:Nat):Int))))::(Zn i0)::rx JN 18 10 (rx x 28 27 []))),hh,[],.no⟩ .normal ⟨((AV.str bN)::(x 1)::(x 2)::(Zn i0)::(AV.bool (bif (decide (97≤(((bN.g i0).toNat:Nat):Int))) then (decide ((((bN.g i0).toNat:Nat):Int)≤122)) else false))::(AV.bool (bif (decide (48≤(((bN.g i0).toNat:Nat):Int))) then (bif (decide ((((bN.g i0).toNat:Nat):Int)≤57)) then true else (decide ((((bN.g i0).toNat:Nat):Int)=45))) else (decide ((((bN.g i0).toNat:Nat):Int)=45))))::rx x 6 8 ((Zn (List.length bN))::(Zn i0)::(AV.bool (decide (((i0:Nat):Int)<((List.length bN:Nat):Int))))::(Zn i0)::rx JN 18 10 (rx Ds 28 16 (rx x 44 11 [])))),hh,[],.no⟩:=by
    have kV:vH env (some .string) (some (AV.str bN)) (some (Zn i0))=some (AV.int .u8 (((bN.g i0).toNat:Nat):Int)):=nZ (j:=i0) o!
    rcases Bool.eq_false_or_eq_true (decide (48≤(((bN.g i0).toNat:Nat):Int))) with f0 | f0
    · have fw:=of_decide_eq_true f0
      have R4:vH env (some .string) (some (AV.str bN)) (some (Zn i0))=some (AV.int .u8 (((bN.g i0).toNat:Nat):Int)):=nZ (j:=i0) o!
      rcases Bool.eq_false_or_eq_true (decide ((((bN.g i0).toNat:Nat):Int)≤57)) with f1 | f1
      · have ea:=of_decide_eq_true f1
        have ev:=pk (d) n9 ((AV.str bN)::(x 1)::(x 2)::(Zn i0)::(AV.bool (bif (decide (97≤(((bN.g i0).toNat:Nat):Int))) then (decide ((((bN.g i0).toNat:Nat):Int)≤122)) else false))::rx x 5 9 ((Zn (List.length bN))::(Zn i0)::(AV.bool (decide (((i0:Nat):Int)<((List.length bN:Nat):Int))))::(Zn i0)::rx JN 18 10 (rx x 28 27 []))) hh .normal hh (CN 2<|VV kV<|VV (jf 5 false true .u8 (((bN.g i0).toNat:Nat):Int) 48)<|CC<|BC f0<|BC f0<|BV f0 R4<|BV f0 (kI 5 false true .u8 (((bN.g i0).toNat:Nat):Int) 57)<|VV (nK (decide ((((bN.g i0).toNat:Nat):Int)≤57)) false f0)<|CC<|BB f1<|BB f1<|BB f1<|BV f1 (qI true f1)<|CC<|ZZ) k!
        rw[show (bif (decide (48≤(((bN.g i0).toNat:Nat):Int))) then (bif (decide ((((bN.g i0).toNat:Nat):Int)≤57)) then true else (decide ((((bN.g i0).toNat:Nat):Int)=45))) else (decide ((((bN.g i0).toNat:Nat):Int)=45)))=true by simp only[f0,f1,aj,af]]
        exact jJ ev k!
      · have ea:=of_decide_eq_false f1
        have JP:vH env (some .string) (some (AV.str bN)) (some (Zn i0))=some (AV.int .u8 (((bN.g i0).toNat:Nat):Int)):=nZ (j:=i0) o!
        have ev:=pk (d) n9 ((AV.str bN)::(x 1)::(x 2)::(Zn i0)::(AV.bool (bif (decide (97≤(((bN.g i0).toNat:Nat):Int))) then (decide ((((bN.g i0).toNat:Nat):Int)≤122)) else false))::rx x 5 9 ((Zn (List.length bN))::(Zn i0)::(AV.bool (decide (((i0:Nat):Int)<((List.length bN:Nat):Int))))::(Zn i0)::rx JN 18 10 (rx x 28 27 []))) hh .normal hh (CN 2<|VV kV<|VV (jf 5 false true .u8 (((bN.g i0).toNat:Nat):Int) 48)<|CC<|BC f0<|BC f0<|BV f0 R4<|BV f0 (kI 5 false true .u8 (((bN.g i0).toNat:Nat):Int) 57)<|VV (nK (decide ((((bN.g i0).toNat:Nat):Int)≤57)) false f0)<|CC<|BC f1<|BC f1<|BV f1 JP<|BV f1 (f_ 5 false true .u8 (((bN.g i0).toNat:Nat):Int) 45)<|VV (bf (a:=some (AV.bool true)) (b:=some (AV.bool (decide ((((bN.g i0).toNat:Nat):Int)=45)))) f1)<|CC<|ZZ) k!
        rw[show (bif (decide (48≤(((bN.g i0).toNat:Nat):Int))) then (bif (decide ((((bN.g i0).toNat:Nat):Int)≤57)) then true else (decide ((((bN.g i0).toNat:Nat):Int)=45))) else (decide ((((bN.g i0).toNat:Nat):Int)=45)))=(decide ((((bN.g i0).toNat:Nat):Int)=45)) by simp only[f0,f1,aj,af]]
        exact jJ ev k!
    · have fw:=of_decide_eq_false f0
      have R4:vH env (some .string) (some (AV.str bN)) (some (Zn i0))=some (AV.int .u8 (((bN.g i0).toNat:Nat):Int)):=nZ (j:=i0) o!
      have ev:=pk (d) n9 ((AV.str bN)::(x 1)::(x 2)::(Zn i0)::(AV.bool (bif (decide (97≤(((bN.g i0).toNat:Nat):Int))) then (decide ((((bN.g i0).toNat:Nat):Int)≤122)) else false))::rx x 5 9 ((Zn (List.length bN))::(Zn i0)::(AV.bool (decide (((i0:Nat):Int)<((List.length bN:Nat):Int))))::(Zn i0)::rx JN 18 10 (rx x 28 27 []))) hh .normal hh (CN 2<|VV kV<|VV (jf 5 false true .u8 (((bN.g i0).toNat:Nat):Int) 48)<|CC<|BB f0<|BB f0<|BB f0<|BV f0 (vK false f0)<|CC<|FF<|CC<|FF<|CC<|FF<|VV R4<|FF<|VV (f_ 5 false true .u8 (((bN.g i0).toNat:Nat):Int) 45)<|CN 2<|ZZ) k!
      rw[show (bif (decide (48≤(((bN.g i0).toNat:Nat):Int))) then (bif (decide ((((bN.g i0).toNat:Nat):Int)≤57)) then true else (decide ((((bN.g i0).toNat:Nat):Int)=45))) else (decide ((((bN.g i0).toNat:Nat):Int)=45)))=(decide ((((bN.g i0).toNat:Nat):Int)=45)) by simp only[f0,aj,af]]
      exact jJ ev k!
   obtain ⟨yj4,Sc⟩:∃yj4:Nat→AV,Ev env (cA (d)) oa ⟨((AV.str bN)::(x 1)::(x 2)::(Zn i0)::(AV.bool (bif (decide (97≤(((bN.g i0).toNat:Nat):Int))) then (decide ((((bN.g i0).toNat:Nat):Int)≤122)) else false))::(AV.bool (bif (decide (48≤(((bN.g i0).toNat:Nat):Int))) then (bif (decide ((((bN.g i0).toNat:Nat):Int)≤57)) then true else (decide ((((bN.g i0).toNat:Nat):Int)=45))) else (decide ((((bN.g i0).toNat:Nat):Int)=45))))::rx x 6 8 ((Zn (List.length bN))::(Zn i0)::(AV.bool (decide (((i0:Nat):Int)<((List.length bN:Nat):Int))))::(Zn i0)::rx JN 18 10 (rx Ds 28 16 (rx x 44 11 [])))),hh,[],.no⟩ .normal ⟨((AV.str bN)::(x 1)::(x 2)::(Zn i0)::(AV.bool (bif (decide (97≤(((bN.g i0).toNat:Nat):Int))) then (decide ((((bN.g i0).toNat:Nat):Int)≤122)) else false))::(AV.bool (bif (decide (48≤(((bN.g i0).toNat:Nat):Int))) then (bif (decide ((((bN.g i0).toNat:Nat):Int)≤57)) then true else (decide ((((bN.g i0).toNat:Nat):Int)=45))) else (decide ((((bN.g i0).toNat:Nat):Int)=45))))::rx x 6 8 ((Zn (List.length bN))::(Zn i0)::(AV.bool (decide (((i0:Nat):Int)<((List.length bN:Nat):Int))))::(Zn i0)::rx JN 18 10 (rx Ds 28 16 (rx yj4 44 9 ((AV.bool (bif (!(bif (decide (97≤(((bN.g i0).toNat:Nat):Int))) then (decide ((((bN.g i0).toNat:Nat):Int)≤122)) else false)) then (bif (decide (((i0:Nat):Int)=0)) then true else (!(bif (decide (48≤(((bN.g i0).toNat:Nat):Int))) then (bif (decide ((((bN.g i0).toNat:Nat):Int)≤57)) then true else (decide ((((bN.g i0).toNat:Nat):Int)=45))) else (decide ((((bN.g i0).toNat:Nat):Int)=45))))) else false))::(x 54)::[]))))),hh,[],.no⟩:=by
    rcases Bool.eq_false_or_eq_true (!(bif (decide (97≤(((bN.g i0).toNat:Nat):Int))) then (decide ((((bN.g i0).toNat:Nat):Int)≤122)) else false)) with f0 | f0
    · rcases Bool.eq_false_or_eq_true (decide (((i0:Nat):Int)=0)) with f1 | f1
      · have ea:=of_decide_eq_true f1
        have ev:=pk (d) oa ((AV.str bN)::(x 1)::(x 2)::(Zn i0)::(AV.bool (bif (decide (97≤(((bN.g i0).toNat:Nat):Int))) then (decide ((((bN.g i0).toNat:Nat):Int)≤122)) else false))::(AV.bool (bif (decide (48≤(((bN.g i0).toNat:Nat):Int))) then (bif (decide ((((bN.g i0).toNat:Nat):Int)≤57)) then true else (decide ((((bN.g i0).toNat:Nat):Int)=45))) else (decide ((((bN.g i0).toNat:Nat):Int)=45))))::rx x 6 8 ((Zn (List.length bN))::(Zn i0)::(AV.bool (decide (((i0:Nat):Int)<((List.length bN:Nat):Int))))::(Zn i0)::rx JN 18 10 (rx Ds 28 16 (rx x 44 11 [])))) hh .normal hh (CN 3<|BC f0<|BV f0 (f_ 3 false true .i64 ((i0:Nat):Int) 0)<|BC f0<|BB f1<|BB f1<|BV f0 (qI true f1)<|VV (nK true false f0)<|ZZ) k!
        rw[show (bif (!(bif (decide (97≤(((bN.g i0).toNat:Nat):Int))) then (decide ((((bN.g i0).toNat:Nat):Int)≤122)) else false)) then (bif (decide (((i0:Nat):Int)=0)) then true else (!(bif (decide (48≤(((bN.g i0).toNat:Nat):Int))) then (bif (decide ((((bN.g i0).toNat:Nat):Int)≤57)) then true else (decide ((((bN.g i0).toNat:Nat):Int)=45))) else (decide ((((bN.g i0).toNat:Nat):Int)=45))))) else false)=true by simp only[f0,f1,aj,af]]
        exact jJ ev k!
      · have ea:=of_decide_eq_false f1
        have ev:=pk (d) oa ((AV.str bN)::(x 1)::(x 2)::(Zn i0)::(AV.bool (bif (decide (97≤(((bN.g i0).toNat:Nat):Int))) then (decide ((((bN.g i0).toNat:Nat):Int)≤122)) else false))::(AV.bool (bif (decide (48≤(((bN.g i0).toNat:Nat):Int))) then (bif (decide ((((bN.g i0).toNat:Nat):Int)≤57)) then true else (decide ((((bN.g i0).toNat:Nat):Int)=45))) else (decide ((((bN.g i0).toNat:Nat):Int)=45))))::rx x 6 8 ((Zn (List.length bN))::(Zn i0)::(AV.bool (decide (((i0:Nat):Int)<((List.length bN:Nat):Int))))::(Zn i0)::rx JN 18 10 (rx Ds 28 16 (rx x 44 11 [])))) hh .normal hh (CN 3<|BC f0<|BV f0 (f_ 3 false true .i64 ((i0:Nat):Int) 0)<|BC f0<|BC f1<|BC f1<|BV f0 (bf (a:=some (AV.bool true)) (b:=some (AV.bool (!(bif (decide (48≤(((bN.g i0).toNat:Nat):Int))) then (bif (decide ((((bN.g i0).toNat:Nat):Int)≤57)) then true else (decide ((((bN.g i0).toNat:Nat):Int)=45))) else (decide ((((bN.g i0).toNat:Nat):Int)=45)))))) f1)<|VV (nK (!(bif (decide (48≤(((bN.g i0).toNat:Nat):Int))) then (bif (decide ((((bN.g i0).toNat:Nat):Int)≤57)) then true else (decide ((((bN.g i0).toNat:Nat):Int)=45))) else (decide ((((bN.g i0).toNat:Nat):Int)=45)))) false f0)<|ZZ) k!
        rw[show (bif (!(bif (decide (97≤(((bN.g i0).toNat:Nat):Int))) then (decide ((((bN.g i0).toNat:Nat):Int)≤122)) else false)) then (bif (decide (((i0:Nat):Int)=0)) then true else (!(bif (decide (48≤(((bN.g i0).toNat:Nat):Int))) then (bif (decide ((((bN.g i0).toNat:Nat):Int)≤57)) then true else (decide ((((bN.g i0).toNat:Nat):Int)=45))) else (decide ((((bN.g i0).toNat:Nat):Int)=45))))) else false)=(!(bif (decide (48≤(((bN.g i0).toNat:Nat):Int))) then (bif (decide ((((bN.g i0).toNat:Nat):Int)≤57)) then true else (decide ((((bN.g i0).toNat:Nat):Int)=45))) else (decide ((((bN.g i0).toNat:Nat):Int)=45)))) by simp only[f0,f1,aj,af]]
        exact jJ ev k!
    · have ev:=pk (d) oa ((AV.str bN)::(x 1)::(x 2)::(Zn i0)::(AV.bool (bif (decide (97≤(((bN.g i0).toNat:Nat):Int))) then (decide ((((bN.g i0).toNat:Nat):Int)≤122)) else false))::(AV.bool (bif (decide (48≤(((bN.g i0).toNat:Nat):Int))) then (bif (decide ((((bN.g i0).toNat:Nat):Int)≤57)) then true else (decide ((((bN.g i0).toNat:Nat):Int)=45))) else (decide ((((bN.g i0).toNat:Nat):Int)=45))))::rx x 6 8 ((Zn (List.length bN))::(Zn i0)::(AV.bool (decide (((i0:Nat):Int)<((List.length bN:Nat):Int))))::(Zn i0)::rx JN 18 10 (rx Ds 28 16 (rx x 44 11 [])))) hh .normal hh (CN 3<|BB f0<|BB f0<|BB f0<|BV f0 (vK false f0)<|ZZ) k!
      rw[show (bif (!(bif (decide (97≤(((bN.g i0).toNat:Nat):Int))) then (decide ((((bN.g i0).toNat:Nat):Int)≤122)) else false)) then (bif (decide (((i0:Nat):Int)=0)) then true else (!(bif (decide (48≤(((bN.g i0).toNat:Nat):Int))) then (bif (decide ((((bN.g i0).toNat:Nat):Int)≤57)) then true else (decide ((((bN.g i0).toNat:Nat):Int)=45))) else (decide ((((bN.g i0).toNat:Nat):Int)=45))))) else false)=false by simp only[f0,aj,af]]
      exact jJ ev k!
   rcases Bool.eq_false_or_eq_true (bif (!(bif (decide (97≤(((bN.g i0).toNat:Nat):Int))) then (decide ((((bN.g i0).toNat:Nat):Int)≤122)) else false)) then (bif (decide (((i0:Nat):Int)=0)) then true else (!(bif (decide (48≤(((bN.g i0).toNat:Nat):Int))) then (bif (decide ((((bN.g i0).toNat:Nat):Int)≤57)) then true else (decide ((((bN.g i0).toNat:Nat):Int)=45))) else (decide ((((bN.g i0).toNat:Nat):Int)=45))))) else false) with f1 | f1
   · exact aA.ret false (by simp only[iL,f1,aj,af]) (pk (d) _ _ hh _ hh (VV (aQ 3 false false .i64 ((i0:Nat):Int) ((List.length bN:Nat):Int))<|BB q1<|CN 2<|LL B3<|LL ze<|LL Sc<|BC f1<|ZZ) k!) (bC.refl az) k!
   · have u6:=ew 3 false true i0 1 o!
     exact aA.round (by simp only[iL,f1,aj,af]) (pk (d) _ _ hh _ hh (VV (aQ 3 false false .i64 ((i0:Nat):Int) ((List.length bN:Nat):Int))<|BB q1<|CN 2<|LL B3<|LL ze<|LL Sc<|BV f1 u6<|CC<|ZZ) k!) (bC.refl az) _ k! (fun x=>pW bN aO c7 (i0+1) o! x hh az aw)
def fV (bN:List UInt8):Bool:=(bif (bif (decide (bN=[])) then true else (decide (16<((List.length bN:Nat):Int)))) then false else (match (iL bN (List.length bN) 0) with | none=>true | some vL=>vL))
theorem Cr {d:Nat} {h:ak} (bN:List UInt8) (Gk:bN.length<2^60) (bM:Tidy h):cA (d+1) (.fn 109) [(AV.str bN)] h= .ret (AV.bool (fV bN)) h:=by
 obtain ⟨yj1,K5⟩:∃yj1:Nat→AV,Ev env (cA (d)) rF ⟨((AV.str bN)::AV.undef::(AV.bool false)::gB 52),h,[],.no⟩ .normal ⟨((AV.str bN)::AV.undef::(AV.bool false)::AV.undef::AV.undef::AV.undef::rx yj1 6 6 ((AV.bool (bif (decide (bN=[])) then true else (decide (16<((List.length bN:Nat):Int)))))::gB 42)),h,[],.no⟩:=by
  rcases Bool.eq_false_or_eq_true (decide (bN=[])) with f0 | f0
  · have fw:=of_decide_eq_true f0
    have ev:=pk (d) rF ((AV.str bN)::AV.undef::(AV.bool false)::gB 52) h .normal h (CC<|VV (Iy 9 false true bN [])<|CC<|BB f0<|BB f0<|BV f0 (qI true f0)<|ZZ) k!
    rw[show (bif (decide (bN=[])) then true else (decide (16<((List.length bN:Nat):Int))))=true by simp only[f0,aj,af]]
    exact jJ ev k!
  · have fw:=of_decide_eq_false f0
    have sn2:bN.length<2^60:=Gk
    have ev:=pk (d) rF ((AV.str bN)::AV.undef::(AV.bool false)::gB 52) h .normal h (CC<|VV (Iy 9 false true bN [])<|CC<|BC f0<|BC f0<|BV f0 (bK 3 false true .i64 ((List.length bN:Nat):Int) 16)<|VV (bf (a:=some (AV.bool true)) (b:=some (AV.bool (decide (16<((List.length bN:Nat):Int))))) f0)<|ZZ) k!
    rw[show (bif (decide (bN=[])) then true else (decide (16<((List.length bN:Nat):Int))))=(decide (16<((List.length bN:Nat):Int))) by simp only[f0,aj,af]]
    exact jJ ev k!
 rcases Bool.eq_false_or_eq_true (bif (decide (bN=[])) then true else (decide (16<((List.length bN:Nat):Int)))) with f0 | f0
 · have e:fV bN=false:=by simp only[fV,f0,aj,af]
   rw[e]
   exact ax rfl (aR Tryz.func109 vV rfl (.inr rfl) (pk (d) _ _ h _ h (CC<|LL K5<|BC f0<|ZZ) k!) k!) (Has.refl _) rfl
 · have sn3:bN.length<2^60:=Gk
   cases cQ:iL bN (List.length bN) 0 with
   | none=>
     obtain ⟨tp,h5,cC,b4⟩:=aA.n cQ (pW (d:=d) (h:=h) bN Gk (List.length bN) 0 o! (fun k_=>(((AV.str bN)::AV.undef::(AV.bool false)::AV.undef::AV.undef::AV.undef::rx yj1 6 6 ((AV.bool (bif (decide (bN=[])) then true else (decide (16<((List.length bN:Nat):Int)))))::(AV.str bN)::(Zn (List.length bN))::(Zi 0)::gB 39)):List AV).getD k_ AV.undef) h bM (Has.refl _))
     have js:=b4.y
     have ph:h.nx≤h5.nx:=b4.n
     have eV:Has h h5:=b4.a
     have e:fV bN=true:=by simp only[fV,f0,cQ,aj,af]
     rw[e]
     exact ax rfl (aR Tryz.func109 vV rfl (.inr rfl) (pk (d) _ _ h _ h5 (CC<|LL K5<|BB f0<|CN 3<|LL cC<|CC<|ZZ) k!) k!) eV rfl
   | some vL=>
     obtain ⟨tp,h5,cC,b4⟩:=aA.r cQ (pW (d:=d) (h:=h) bN Gk (List.length bN) 0 o! (fun k_=>(((AV.str bN)::AV.undef::(AV.bool false)::AV.undef::AV.undef::AV.undef::rx yj1 6 6 ((AV.bool (bif (decide (bN=[])) then true else (decide (16<((List.length bN:Nat):Int)))))::(AV.str bN)::(Zn (List.length bN))::(Zi 0)::gB 39)):List AV).getD k_ AV.undef) h bM (Has.refl _))
     have js:=b4.y
     have ph:h.nx≤h5.nx:=b4.n
     have eV:Has h h5:=b4.a
     have e:fV bN=vL:=by simp only[fV,f0,cQ,aj,af]
     rw[e]
     exact ax rfl (aR Tryz.func109 vV rfl (.inr rfl) (pk (d) _ _ h _ h5 (CC<|LL K5<|BB f0<|CN 3<|LL cC<|ZZ) k!) k!) eV rfl
def Dt:Code:=(Tryz.f117.body).getD .skip
theorem Cs:Tryz.f117.body=some Dt:=by kernel_rfl
def hL (x_:Int) (cc:Int):Bool:=(bif (decide (0≤x_)) then (decide (x_≤cc)) else false)
theorem Ct {d:Nat} {h:ak} (x_:Int) (cc:Int) (bM:Tidy h):cA (d+1) (.fn 117) [(Zi x_),(Zi cc)] h= .ret (AV.bool (hL x_ cc)) h:=by
 rcases Bool.eq_false_or_eq_true (decide (0≤x_)) with f0 | f0
 · have fw:=of_decide_eq_true f0
   have e:hL x_ cc=(decide (x_≤cc)):=by simp only[hL,f0,aj,af]
   rw[e]
   exact ax rfl (aR Tryz.func117 Cs rfl (.inr rfl) (pk (d) _ _ h _ h (CN 2<|VV (jf 3 false true .i64 x_ 0)<|CC<|BC f0<|BC f0<|BV f0 (kI 3 false false .i64 x_ cc)<|VV (nK (decide (x_≤cc)) false f0)<|CC<|ZZ) k!) k!) (Has.refl _) rfl
 · have fw:=of_decide_eq_false f0
   have e:hL x_ cc=false:=by simp only[hL,f0,aj,af]
   rw[e]
   exact ax rfl (aR Tryz.func117 Cs rfl (.inr rfl) (pk (d) _ _ h _ h (CN 2<|VV (jf 3 false true .i64 x_ 0)<|CC<|BB f0<|BB f0<|BV f0 (vK false f0)<|CC<|ZZ) k!) k!) (Has.refl _) rfl
def Du:Code:=(Tryz.f59.body).getD .skip
theorem K6:Tryz.f59.body=some Du:=by kernel_rfl
def fW (t:Int):Bool:=(hL t 100000)
theorem vW {d:Nat} {h:ak} (t:Int) (bM:Tidy h):cA (d+2) (.fn 59) [(Zi t)] h= .ret (AV.bool (fW t)) h:=by
 have k1:=Ct (d:=d) t 100000 bM
 have e:fW t=(hL t 100000):=by simp only[fW,aj,af]
 rw[e]
 exact ax rfl (aR Tryz.func59 K6 rfl (.inr rfl) (pk (d+1) _ _ h _ h (CN 2<|EE k1<|CC<|ZZ) k!) k!) (Has.refl _) rfl
def zf:Code:=(Tryz.f64.body).getD .skip
theorem kY:Tryz.f64.body=some zf:=by kernel_rfl
def cR (j:cF) (jM:List Task) (t:Task):Int:=(bif (!(fV t.name)) then 5 else (bif (eJ jM (fun y=>hH y t)) then 6 else (bif (!(fW t.aL)) then 1 else (bif (!decide ((b8 t.aq ((t.aq.length:Nat):Int) (fun jx=>cK (List.take jx t.aq) (List.g t.aq jx) j))=0)) then (b8 t.aq ((t.aq.length:Nat):Int) (fun jx=>cK (List.take jx t.aq) (List.g t.aq jx) j)) else (dv t.aF ((t.aF.length:Nat):Int) (fun jx=>fh (List.take jx t.aF) (List.g t.aF jx) j))))))
theorem Dv {d:Nat} {h:ak} {l8:AV} (j:cF) (jM:List Task) (t:Task) (bF:aB.ok h j) (ir:aH h l8 jM) (OW:aB.ok h t) (bM:Tidy h):cA (d+8) (.fn 64) [(AV.agg [j.ah,j.ag]),l8,(AV.agg [(AV.str t.name),(Zi t.aL),t.aG,t.bq])] h= .ret (Zi (cR j jM t)) h:=by
 have zg:=ir.small
 have eS:=bF.1.small
 have eT:=bF.2.small
 have Es:=OW.2.2.small
 obtain ⟨h1,bD,cb,ib,aI,cf⟩:=ik bM (aK.cells [j.ah,j.ag] 25 false)
 have bx:Has h h1:=cf
 obtain ⟨h2,fA,eW,xw,bS,cx⟩:=ik cb (aK.cells [(AV.str t.name),(Zi t.aL),t.aG,t.bq] 48 false)
 have cD:Has h h2:=bx.trans cx
 have k3:=Cr (d:=d+6) t.name OW.1 eW
 rcases Bool.eq_false_or_eq_true (!(fV t.name)) with f0 | f0
 · have e:cR j jM t=5:=by simp only[cR,f0,aj,af]
   rw[e]
   exact ax rfl (aR Tryz.func64 kY rfl (.inr rfl) (pk (d+7) _ _ h _ h2 (NN bD (fun i=>(Pt i))<|NN fA (fun i=>(Pt i))<|CN 2<|MM (ao 9 0 (AV.str t.name) bS k!)<|EE k3<|CN 2<|BC f0<|ZZ) k!) k!) cD rfl
 · have k5:=zd (d:=d+5) jM (fun y=>hH y t) (ir.has cD) (fun y hy hh yy aa=>Ck (d:=d+4) y t h1.nx (aB.mono aa ((ir.has cD).oks y hy)) (aB.mono aa (aB.mono cD OW)) (aa _ _ bS) yy) eW
   rcases Bool.eq_false_or_eq_true (eJ jM (fun y=>hH y t)) with f1 | f1
   · have e:cR j jM t=6:=by simp only[cR,f0,f1,aj,af]
     rw[e]
     exact ax rfl (aR Tryz.func64 kY rfl (.inr rfl) (pk (d+7) _ _ h _ h2 (NN bD (fun i=>(Pt i))<|NN fA (fun i=>(Pt i))<|CN 2<|MM (ao 9 0 (AV.str t.name) bS k!)<|EE k3<|CN 2<|BB f0<|CN 2<|EE k5<|CC<|BC f1<|ZZ) k!) k!) cD rfl
   · have k7:=vW (d:=d+5) t.aL eW
     rcases Bool.eq_false_or_eq_true (!(fW t.aL)) with f2 | f2
     · have e:cR j jM t=1:=by simp only[cR,f0,f1,f2,aj,af]
       rw[e]
       exact ax rfl (aR Tryz.func64 kY rfl (.inr rfl) (pk (d+7) _ _ h _ h2 (NN bD (fun i=>(Pt i))<|NN fA (fun i=>(Pt i))<|CN 2<|MM (ao 9 0 (AV.str t.name) bS k!)<|EE k3<|CN 2<|BB f0<|CN 2<|EE k5<|CC<|BC f1<|MM (ao 3 1 (Zi t.aL) bS k!)<|EE k7<|CN 2<|BC f2<|ZZ) k!) k!) cD rfl
     · have ln9:bJ (some (.slice 3)) (some t.aG)=some (Zn t.aq.length):=OW.2.1.len
       have VJ:=yY (d:=d+6) t.aq ((t.aq.length:Nat):Int) (fun jx=>cK (List.take jx t.aq) (List.g t.aq jx) j) (OW.2.1.has cD) (fun jx hj aV hh yy aa fa=>Cn (d:=d+2) (List.take jx t.aq) (List.g t.aq jx) j h.nx fa (aB.mono aa (aB.mono cD bF)) (aa _ _ (cx _ _ aI)) yy) eW
       rcases Bool.eq_false_or_eq_true (!decide ((b8 t.aq ((t.aq.length:Nat):Int) (fun jx=>cK (List.take jx t.aq) (List.g t.aq jx) j))=0)) with f3 | f3
       · have mu:=C2 f3
         have e:cR j jM t=(b8 t.aq ((t.aq.length:Nat):Int) (fun jx=>cK (List.take jx t.aq) (List.g t.aq jx) j)):=by simp only[cR,f0,f1,f2,f3,aj,af]
         rw[e]
         exact ax rfl (aR Tryz.func64 kY rfl (.inr rfl) (pk (d+7) _ _ h _ h2 (NN bD (fun i=>(Pt i))<|NN fA (fun i=>(Pt i))<|CN 2<|MM (ao 9 0 (AV.str t.name) bS k!)<|EE k3<|CN 2<|BB f0<|CN 2<|EE k5<|CC<|BC f1<|MM (ao 3 1 (Zi t.aL) bS k!)<|EE k7<|CN 2<|BC f2<|MM (ao 26 2 t.aG bS k!)<|CC<|MM (ao 26 2 t.aG bS k!)<|VV ln9<|CC<|EE VJ<|CN 2<|VV (eC 31 false true .i64 (b8 t.aq ((t.aq.length:Nat):Int) (fun jx=>cK (List.take jx t.aq) (List.g t.aq jx) j)) 0)<|BB f3<|CN 2<|ZZ) k!) k!) cD rfl
       · have mu:=C3 f3
         have KL:bJ (some (.slice 50)) (some t.bq)=some (Zn t.aF.length):=OW.2.2.len
         have Xu:=yZ (d:=d+6) t.aF ((t.aF.length:Nat):Int) (fun jx=>fh (List.take jx t.aF) (List.g t.aF jx) j) (OW.2.2.has cD) (fun jx hj aV hh yy aa fa=>Cq (d:=d+1) (List.take jx t.aF) (List.g t.aF jx) j h.nx fa (aB.mono aa ((OW.2.2.has cD).ok hj)) (aB.mono aa (aB.mono cD bF)) (aa _ _ (cx _ _ aI)) yy) eW
         have e:cR j jM t=(dv t.aF ((t.aF.length:Nat):Int) (fun jx=>fh (List.take jx t.aF) (List.g t.aF jx) j)):=by simp only[cR,f0,f1,f2,f3,aj,af]
         rw[e]
         exact ax rfl (aR Tryz.func64 kY rfl (.inr rfl) (pk (d+7) _ _ h _ h2 (NN bD (fun i=>(Pt i))<|NN fA (fun i=>(Pt i))<|CN 2<|MM (ao 9 0 (AV.str t.name) bS k!)<|EE k3<|CN 2<|BB f0<|CN 2<|EE k5<|CC<|BC f1<|MM (ao 3 1 (Zi t.aL) bS k!)<|EE k7<|CN 2<|BC f2<|MM (ao 26 2 t.aG bS k!)<|CC<|MM (ao 26 2 t.aG bS k!)<|VV ln9<|CC<|EE VJ<|CN 2<|VV (eC 31 false true .i64 (b8 t.aq ((t.aq.length:Nat):Int) (fun jx=>cK (List.take jx t.aq) (List.g t.aq jx) j)) 0)<|BC f3<|MM (ao 46 3 t.bq bS k!)<|CC<|MM (ao 46 3 t.bq bS k!)<|VV KL<|CC<|EE Xu<|CC<|ZZ) k!) k!) cD rfl
def Dw:Code:=(Tryz.f63.body).getD .skip
theorem K7:Tryz.f63.body=some Dw:=by kernel_rfl
def ef (jM:List Task) (t:Task) (j:cF):Int:=(cR j jM t)
theorem K8 {d:Nat} {h:ak} {l8:AV} (jM:List Task) (t:Task) (j:cF) (jB:Nat) (ir:aH h l8 jM) (OW:aB.ok h t) (bF:aB.ok h j) (ZK:h.get jB=some (.cells (aB.c j) 25 false)) (bM:Tidy h):cA (d+9) (.fn 63) [l8,(AV.agg [(AV.str t.name),(Zi t.aL),t.aG,t.bq]),(Pt jB)] h= .ret (Zi (ef jM t j)) h:=by
 have zg:=ir.small
 have Es:=OW.2.2.small
 have eS:=bF.1.small
 have eT:=bF.2.small
 obtain ⟨h1,bD,cb,ib,aI,cf⟩:=ik bM (aK.cells [(AV.str t.name),(Zi t.aL),t.aG,t.bq] 48 false)
 have bx:Has h h1:=cf
 have k2:=Dv (d:=d) j jM t (aB.mono bx bF) (ir.has bx) (aB.mono bx OW) cb
 have e:ef jM t j=(cR j jM t):=by simp only[ef,aj,af]
 rw[e]
 exact ax rfl (aR Tryz.func63 K7 rfl (.inr rfl) (pk (d+8) _ _ h _ h1 (NN bD (fun i=>(Pt i))<|CC<|MM (ao 25 0 (AV.agg [j.ah,j.ag]) (cf _ _ ZK) k!)<|CC<|MM (ao 48 0 (AV.agg [(AV.str t.name),(Zi t.aL),t.aG,t.bq]) aI k!)<|EE k2<|CC<|ZZ) k!) k!) bx rfl
def kZ:Code:=(Tryz.f60.body).getD .skip
theorem jv:Tryz.f60.body=some kZ:=by kernel_rfl
def qA:Code:=(bz kZ).getD 0 .skip
def cL (P:Nat→Int) (bn:List aZ):Nat→Nat→Option (Int)
 | 0,_=>none
 | c7+1,i0=>(bif (!decide ((P i0)=0)) then some (P i0) else cL P bn c7 (i0+1))
theorem ie {d:Nat} {h:ak} (bk:AV) (g:FuncId) (cap:List AV) (bn:List aZ) (P:Nat→Int) (aO:aH h bk bn) (hP:∀j,j<bn.length→∀aV hh,Tidy hh→Has h hh→aH hh aV (bn.take j)→cA d (.fn g) (aV:: .agg (aB.c (bn.g j))::cap) hh= .ret (.int .i64 (P j)) hh):∀(k_ i_:Nat) (_:i_+k_=bn.length) (x:Nat→AV) (hh:ak) (az:Tidy hh) (aw:Has h hh),aA (cA (d)) qA ⟨(bk::(x 1)::(AV.func g [] cap)::rx x 3 11 (bk::(Zn bn.length)::(Zn i_)::rx x 17 14 [])),hh,[],.no⟩ (.exit 0) hh (fun y=>(bk::(y 1)::(AV.func g [] cap)::rx y 3 11 (bk::(Zn bn.length)::rx y 16 15 []))) (fun r y=>(bk::(y 1)::(AV.func g [] cap)::rx y 3 3 ((Zi r)::rx y 7 7 (bk::(Zn bn.length)::rx y 16 15 [])))) (cL P bn k_ i_)
 | 0,i0,fK,x,hh,az,aw=>by
   have bY:=aO.small
   have q1:(decide (((i0:Nat):Int)<((bn.length:Nat):Int)))=false:=d!
   exact aA.out rfl (pk (d) _ _ hh _ hh (VV (aQ 3 false false .i64 ((i0:Nat):Int) ((bn.length:Nat):Int))<|BB q1<|ZZ) k!) (bC.refl az) k!
 | c7+1,i0,fK,x,hh,az,aw=>by
   have bY:=aO.small
   have q1:(decide (((i0:Nat):Int)<((bn.length:Nat):Int)))=true:=d!
   obtain ⟨p3,q4,eb⟩:=(aO.has aw).elem (i:=i0) o!
   have jE:b_ env (some (.slice 45)) (some bk) (some (Zn i0))=some (AV.ptr p3 q4):=eb
   have jK:bm env hh 45 (AV.ptr p3 q4)=some (AV.agg [(AV.str (bn.g i0).name),(Zi (bn.g i0).aC),(bn.g i0).cE]):=(aO.has aw).load o! eb
   obtain ⟨h6,oX,mD,IY,tC,kX⟩:=ik az (aK.cells [(AV.str []),(Zi 0),AV.aD] 45 false)
   have kW:Has hh h6:=kX
   have ZM:AV.scalar (bn.g i0).cE=true:=(((aO.has aw).ok (i:=i0) o!).2).scalar
   obtain ⟨h7,mF,eP,xq,gT,hG⟩:=nJ (t:=45) (n:=3) (i:=hh.nx) (L:=[(AV.str (bn.g i0).name),(Zi (bn.g i0).aC),(bn.g i0).cE]) mD tC k! rfl rfl (by simp only[AV.cells,List.all_cons,List.all_nil,Bool.and_true,Bool.and_self,fp,dV,fq,ft,db,iF,iG,iH,iI,iJ,fu,ZM])
   have er:Has hh h7:=Has.cI kW hG az o!
   obtain ⟨r9,abO,aeg⟩:=(aO.has aw).pre (t:=23) k! (i:=i0) o!
   have abP:fm env 23 bk (none) (some (Zn i0)) (none)=some r9:=abO
   have k12:=hP i0 o! r9 h7 eP (aw.trans er) (aeg.has er)
   have IE:AV.same 20 (AV.agg [(AV.str (bn.g i0).name),(Zi (bn.g i0).aC),(bn.g i0).cE]) (AV.agg [(AV.str (bn.g i0).name),(Zi (bn.g i0).aC),(bn.g i0).cE])=true:=iC 18 (th (fun n=>fT n _) (th (fun n=>aJ n _ _) (th ((aO.has aw).ok (i:=i0) o!).2.same OA)))
   rcases Bool.eq_false_or_eq_true (!decide ((P i0)=0)) with f1 | f1
   · have ea:=C2 f1
     exact aA.ret (P i0) (by simp only[cL,f1,aj,af]) (pk (d) _ _ hh _ h7 (VV (aQ 3 false false .i64 ((i0:Nat):Int) ((bn.length:Nat):Int))<|BC q1<|VV jE<|MM jK<|NN oX (fun i=>(Pt i))<|CC<|SS mF<|CN 3<|QQ abP<|MM (ao 45 0 (AV.agg [(AV.str (bn.g i0).name),(Zi (bn.g i0).aC),(bn.g i0).cE]) gT k!)<|EE k12<|CC<|HH (ao 45 0 (AV.agg [(AV.str (bn.g i0).name),(Zi (bn.g i0).aC),(bn.g i0).cE]) gT k!)<|HH IE<|CC<|VV (eC 31 false true .i64 (P i0) 0)<|BB f1<|CN 2<|ZZ) k!) (⟨eP,er,by omega⟩) k!
   · have ea:=C3 f1
     have T':=ew 3 false true i0 1 o!
     exact aA.round (by simp only[cL,f1,aj,af]) (pk (d) _ _ hh _ h7 (VV (aQ 3 false false .i64 ((i0:Nat):Int) ((bn.length:Nat):Int))<|BC q1<|VV jE<|MM jK<|NN oX (fun i=>(Pt i))<|CC<|SS mF<|CN 3<|QQ abP<|MM (ao 45 0 (AV.agg [(AV.str (bn.g i0).name),(Zi (bn.g i0).aC),(bn.g i0).cE]) gT k!)<|EE k12<|CC<|HH (ao 45 0 (AV.agg [(AV.str (bn.g i0).name),(Zi (bn.g i0).aC),(bn.g i0).cE]) gT k!)<|HH IE<|CC<|VV (eC 31 false true .i64 (P i0) 0)<|BV f1 T'<|CC<|ZZ) k!) (⟨eP,er,by omega⟩) _ k! (fun x=>ie bk g cap bn P aO hP c7 (i0+1) o! x h7 eP (aw.trans er))
def bl (bn:List aZ) (cc:Int) (P:Nat→Int):Int:=(bif (decide (cc<((bn.length:Nat):Int))) then 3 else (match (cL P bn bn.length 0) with | none=>0 | some vL=>vL))
theorem sw {d:Nat} {h:ak} {bk:AV} {g:FuncId} {cap:List AV} (bn:List aZ) (cc:Int) (P:Nat→Int) (eH:aH h bk bn) (hP:∀j,j<bn.length→∀aV hh,Tidy hh→Has h hh→aH hh aV (bn.take j)→cA d (.fn g) (aV:: .agg (aB.c (bn.g j))::cap) hh= .ret (.int .i64 (P j)) hh) (bM:Tidy h):cA (d+1) (.fn 60) [bk,(Zi cc),(AV.func g [] cap)] h= .ret (Zi (bl bn cc P)) h:=by
 have xB:=eH.small
 have dx:bJ (some (.slice 45)) (some bk)=some (Zn bn.length):=eH.len
 rcases Bool.eq_false_or_eq_true (decide (cc<((bn.length:Nat):Int))) with f0 | f0
 · have fw:=of_decide_eq_true f0
   have e:bl bn cc P=3:=by simp only[bl,f0,aj,af]
   rw[e]
   exact ax rfl (aR Tryz.func60 jv rfl (.inr rfl) (pk (d) _ _ h _ h (CN 2<|VV dx<|CC<|VV (bK 3 false false .i64 ((bn.length:Nat):Int) cc)<|BC f0<|ZZ) k!) k!) (Has.refl _) rfl
 · have fw:=of_decide_eq_false f0
   have yh:bJ (some (.slice 45)) (some bk)=some (Zn bn.length):=eH.len
   cases cQ:cL P bn bn.length 0 with
   | none=>
     obtain ⟨tp,h5,cC,b4⟩:=aA.n cQ (ie (d:=d) (h:=h) bk g cap bn P eH hP bn.length 0 o! (fun k_=>((bk::(Zi cc)::(AV.func g [] cap)::AV.undef::AV.undef::AV.undef::(Zi 0)::AV.undef::AV.undef::AV.undef::bk::(Zn bn.length)::(Zi cc)::(AV.bool (decide (cc<((bn.length:Nat):Int))))::bk::(Zn bn.length)::(Zi 0)::gB 14):List AV).getD k_ AV.undef) h bM (Has.refl _))
     have js:=b4.y
     have ph:h.nx≤h5.nx:=b4.n
     have eV:Has h h5:=b4.a
     have e:bl bn cc P=0:=by simp only[bl,f0,cQ,aj,af]
     rw[e]
     exact ax rfl (aR Tryz.func60 jv rfl (.inr rfl) (pk (d) _ _ h _ h5 (CN 2<|VV dx<|CC<|VV (bK 3 false false .i64 ((bn.length:Nat):Int) cc)<|BC f0<|VV yh<|CC<|LL cC<|CC<|ZZ) k!) k!) eV rfl
   | some vL=>
     obtain ⟨tp,h5,cC,b4⟩:=aA.r cQ (ie (d:=d) (h:=h) bk g cap bn P eH hP bn.length 0 o! (fun k_=>((bk::(Zi cc)::(AV.func g [] cap)::AV.undef::AV.undef::AV.undef::(Zi 0)::AV.undef::AV.undef::AV.undef::bk::(Zn bn.length)::(Zi cc)::(AV.bool (decide (cc<((bn.length:Nat):Int))))::bk::(Zn bn.length)::(Zi 0)::gB 14):List AV).getD k_ AV.undef) h bM (Has.refl _))
     have js:=b4.y
     have ph:h.nx≤h5.nx:=b4.n
     have eV:Has h h5:=b4.a
     have e:bl bn cc P=vL:=by simp only[bl,f0,cQ,aj,af]
     rw[e]
     exact ax rfl (aR Tryz.func60 jv rfl (.inr rfl) (pk (d) _ _ h _ h5 (CN 2<|VV dx<|CC<|VV (bK 3 false false .i64 ((bn.length:Nat):Int) cc)<|BC f0<|VV yh<|CC<|LL cC<|ZZ) k!) k!) eV rfl
def nm:Code:=(Tryz.f62.body).getD .skip
theorem l9:Tryz.f62.body=some nm:=by kernel_rfl
def uN:Code:=(bz nm).getD 0 .skip
def dI (P:Nat→Int) (bn:List Task):Nat→Nat→Option (Int)
 | 0,_=>none
 | c7+1,i0=>(bif (!decide ((P i0)=0)) then some (P i0) else dI P bn c7 (i0+1))
theorem j2 {d:Nat} {h:ak} (bk:AV) (g:FuncId) (cap:List AV) (bn:List Task) (P:Nat→Int) (aO:aH h bk bn) (hP:∀j,j<bn.length→∀aV hh,Tidy hh→Has h hh→aH hh aV (bn.take j)→cA d (.fn g) (aV:: .agg (aB.c (bn.g j))::cap) hh= .ret (.int .i64 (P j)) hh):∀(k_ i_:Nat) (_:i_+k_=bn.length) (x:Nat→AV) (hh:ak) (az:Tidy hh) (aw:Has h hh),aA (cA (d)) uN ⟨(bk::(x 1)::(AV.func g [] cap)::rx x 3 11 (bk::(Zn bn.length)::(Zn i_)::rx x 17 14 [])),hh,[],.no⟩ (.exit 0) hh (fun y=>(bk::(y 1)::(AV.func g [] cap)::rx y 3 11 (bk::(Zn bn.length)::rx y 16 15 []))) (fun r y=>(bk::(y 1)::(AV.func g [] cap)::rx y 3 3 ((Zi r)::rx y 7 7 (bk::(Zn bn.length)::rx y 16 15 [])))) (dI P bn k_ i_)
 | 0,i0,fK,x,hh,az,aw=>by
   have bY:=aO.small
   have q1:(decide (((i0:Nat):Int)<((bn.length:Nat):Int)))=false:=d!
   exact aA.out rfl (pk (d) _ _ hh _ hh (VV (aQ 3 false false .i64 ((i0:Nat):Int) ((bn.length:Nat):Int))<|BB q1<|ZZ) k!) (bC.refl az) k!
 | c7+1,i0,fK,x,hh,az,aw=>by
   have bY:=aO.small
   have q1:(decide (((i0:Nat):Int)<((bn.length:Nat):Int)))=true:=d!
   obtain ⟨p3,q4,eb⟩:=(aO.has aw).elem (i:=i0) o!
   have jE:b_ env (some (.slice 48)) (some bk) (some (Zn i0))=some (AV.ptr p3 q4):=eb
   have jK:bm env hh 48 (AV.ptr p3 q4)=some (AV.agg [(AV.str (bn.g i0).name),(Zi (bn.g i0).aL),(bn.g i0).aG,(bn.g i0).bq]):=(aO.has aw).load o! eb
   obtain ⟨h6,oX,mD,IY,tC,kX⟩:=ik az (aK.cells [(AV.str []),(Zi 0),AV.aD,AV.aD] 48 false)
   have kW:Has hh h6:=kX
   have ZM:AV.scalar (bn.g i0).aG=true:=(((aO.has aw).ok (i:=i0) o!).2.1).scalar
   have sc9:AV.scalar (bn.g i0).bq=true:=(((aO.has aw).ok (i:=i0) o!).2.2).scalar
   obtain ⟨h7,mF,eP,xq,gT,hG⟩:=nJ (t:=48) (n:=4) (i:=hh.nx) (L:=[(AV.str (bn.g i0).name),(Zi (bn.g i0).aL),(bn.g i0).aG,(bn.g i0).bq]) mD tC k! rfl rfl (by simp only[AV.cells,List.all_cons,List.all_nil,Bool.and_true,Bool.and_self,fp,dV,fq,ft,db,iF,iG,iH,iI,iJ,fu,ZM,sc9])
   have er:Has hh h7:=Has.cI kW hG az o!
   obtain ⟨r10,abQ,aeh⟩:=(aO.has aw).pre (t:=22) k! (i:=i0) o!
   have abR:fm env 22 bk (none) (some (Zn i0)) (none)=some r10:=abQ
   have Xu:=hP i0 o! r10 h7 eP (aw.trans er) (aeh.has er)
   have RL:AV.same 20 (AV.agg [(AV.str (bn.g i0).name),(Zi (bn.g i0).aL),(bn.g i0).aG,(bn.g i0).bq]) (AV.agg [(AV.str (bn.g i0).name),(Zi (bn.g i0).aL),(bn.g i0).aG,(bn.g i0).bq])=true:=iC 18 (th (fun n=>fT n _) (th (fun n=>aJ n _ _) (th ((aO.has aw).ok (i:=i0) o!).2.1.same (th ((aO.has aw).ok (i:=i0) o!).2.2.same OA))))
   rcases Bool.eq_false_or_eq_true (!decide ((P i0)=0)) with f1 | f1
   · have ea:=C2 f1
     exact aA.ret (P i0) (by simp only[dI,f1,aj,af]) (pk (d) _ _ hh _ h7 (VV (aQ 3 false false .i64 ((i0:Nat):Int) ((bn.length:Nat):Int))<|BC q1<|VV jE<|MM jK<|NN oX (fun i=>(Pt i))<|CC<|SS mF<|CN 3<|QQ abR<|MM (ao 48 0 (AV.agg [(AV.str (bn.g i0).name),(Zi (bn.g i0).aL),(bn.g i0).aG,(bn.g i0).bq]) gT k!)<|EE Xu<|CC<|HH (ao 48 0 (AV.agg [(AV.str (bn.g i0).name),(Zi (bn.g i0).aL),(bn.g i0).aG,(bn.g i0).bq]) gT k!)<|HH RL<|CC<|VV (eC 31 false true .i64 (P i0) 0)<|BB f1<|CN 2<|ZZ) k!) (⟨eP,er,by omega⟩) k!
   · have ea:=C3 f1
     have u16:=ew 3 false true i0 1 o!
     exact aA.round (by simp only[dI,f1,aj,af]) (pk (d) _ _ hh _ h7 (VV (aQ 3 false false .i64 ((i0:Nat):Int) ((bn.length:Nat):Int))<|BC q1<|VV jE<|MM jK<|NN oX (fun i=>(Pt i))<|CC<|SS mF<|CN 3<|QQ abR<|MM (ao 48 0 (AV.agg [(AV.str (bn.g i0).name),(Zi (bn.g i0).aL),(bn.g i0).aG,(bn.g i0).bq]) gT k!)<|EE Xu<|CC<|HH (ao 48 0 (AV.agg [(AV.str (bn.g i0).name),(Zi (bn.g i0).aL),(bn.g i0).aG,(bn.g i0).bq]) gT k!)<|HH RL<|CC<|VV (eC 31 false true .i64 (P i0) 0)<|BV f1 u16<|CC<|ZZ) k!) (⟨eP,er,by omega⟩) _ k! (fun x=>j2 bk g cap bn P aO hP c7 (i0+1) o! x h7 eP (aw.trans er))
def bA (bn:List Task) (cc:Int) (P:Nat→Int):Int:=(bif (decide (cc<((bn.length:Nat):Int))) then 3 else (match (dI P bn bn.length 0) with | none=>0 | some vL=>vL))
theorem xI {d:Nat} {h:ak} {bk:AV} {g:FuncId} {cap:List AV} (bn:List Task) (cc:Int) (P:Nat→Int) (eH:aH h bk bn) (hP:∀j,j<bn.length→∀aV hh,Tidy hh→Has h hh→aH hh aV (bn.take j)→cA d (.fn g) (aV:: .agg (aB.c (bn.g j))::cap) hh= .ret (.int .i64 (P j)) hh) (bM:Tidy h):cA (d+1) (.fn 62) [bk,(Zi cc),(AV.func g [] cap)] h= .ret (Zi (bA bn cc P)) h:=by
 have xB:=eH.small
 have dx:bJ (some (.slice 48)) (some bk)=some (Zn bn.length):=eH.len
 rcases Bool.eq_false_or_eq_true (decide (cc<((bn.length:Nat):Int))) with f0 | f0
 · have fw:=of_decide_eq_true f0
   have e:bA bn cc P=3:=by simp only[bA,f0,aj,af]
   rw[e]
   exact ax rfl (aR Tryz.func62 l9 rfl (.inr rfl) (pk (d) _ _ h _ h (CN 2<|VV dx<|CC<|VV (bK 3 false false .i64 ((bn.length:Nat):Int) cc)<|BC f0<|ZZ) k!) k!) (Has.refl _) rfl
 · have fw:=of_decide_eq_false f0
   have yh:bJ (some (.slice 48)) (some bk)=some (Zn bn.length):=eH.len
   cases cQ:dI P bn bn.length 0 with
   | none=>
     obtain ⟨tp,h5,cC,b4⟩:=aA.n cQ (j2 (d:=d) (h:=h) bk g cap bn P eH hP bn.length 0 o! (fun k_=>((bk::(Zi cc)::(AV.func g [] cap)::AV.undef::AV.undef::AV.undef::(Zi 0)::AV.undef::AV.undef::AV.undef::bk::(Zn bn.length)::(Zi cc)::(AV.bool (decide (cc<((bn.length:Nat):Int))))::bk::(Zn bn.length)::(Zi 0)::gB 14):List AV).getD k_ AV.undef) h bM (Has.refl _))
     have js:=b4.y
     have ph:h.nx≤h5.nx:=b4.n
     have eV:Has h h5:=b4.a
     have e:bA bn cc P=0:=by simp only[bA,f0,cQ,aj,af]
     rw[e]
     exact ax rfl (aR Tryz.func62 l9 rfl (.inr rfl) (pk (d) _ _ h _ h5 (CN 2<|VV dx<|CC<|VV (bK 3 false false .i64 ((bn.length:Nat):Int) cc)<|BC f0<|VV yh<|CC<|LL cC<|CC<|ZZ) k!) k!) eV rfl
   | some vL=>
     obtain ⟨tp,h5,cC,b4⟩:=aA.r cQ (j2 (d:=d) (h:=h) bk g cap bn P eH hP bn.length 0 o! (fun k_=>((bk::(Zi cc)::(AV.func g [] cap)::AV.undef::AV.undef::AV.undef::(Zi 0)::AV.undef::AV.undef::AV.undef::bk::(Zn bn.length)::(Zi cc)::(AV.bool (decide (cc<((bn.length:Nat):Int))))::bk::(Zn bn.length)::(Zi 0)::gB 14):List AV).getD k_ AV.undef) h bM (Has.refl _))
     have js:=b4.y
     have ph:h.nx≤h5.nx:=b4.n
     have eV:Has h h5:=b4.a
     have e:bA bn cc P=vL:=by simp only[bA,f0,cQ,aj,af]
     rw[e]
     exact ax rfl (aR Tryz.func62 l9 rfl (.inr rfl) (pk (d) _ _ h _ h5 (CN 2<|VV dx<|CC<|VV (bK 3 false false .i64 ((bn.length:Nat):Int) cc)<|BC f0<|VV yh<|CC<|LL cC<|ZZ) k!) k!) eV rfl
def np:Code:=(Tryz.f120.body).getD .skip
theorem l_:Tryz.f120.body=some np:=by kernel_rfl
def uO:Code:=(bz np).getD 0 .skip
def dJ (P:Nat→Int) (bn:List Span):Nat→Nat→Option (Int)
 | 0,_=>none
 | c7+1,i0=>(bif (!decide ((P i0)=0)) then some (P i0) else dJ P bn c7 (i0+1))
theorem j3 {d:Nat} {h:ak} (bk:AV) (g:FuncId) (cap:List AV) (bn:List Span) (P:Nat→Int) (aO:aH h bk bn) (hP:∀j,j<bn.length→∀aV hh,Tidy hh→Has h hh→aH hh aV (bn.take j)→cA d (.fn g) (aV:: .agg (aB.c (bn.g j))::cap) hh= .ret (.int .i64 (P j)) hh):∀(k_ i_:Nat) (_:i_+k_=bn.length) (x:Nat→AV) (hh:ak) (az:Tidy hh) (aw:Has h hh),aA (cA (d)) uO ⟨(bk::(x 1)::(AV.func g [] cap)::rx x 3 11 (bk::(Zn bn.length)::(Zn i_)::rx x 17 14 [])),hh,[],.no⟩ (.exit 0) hh (fun y=>(bk::(y 1)::(AV.func g [] cap)::rx y 3 11 (bk::(Zn bn.length)::rx y 16 15 []))) (fun r y=>(bk::(y 1)::(AV.func g [] cap)::rx y 3 3 ((Zi r)::rx y 7 7 (bk::(Zn bn.length)::rx y 16 15 [])))) (dJ P bn k_ i_)
 | 0,i0,fK,x,hh,az,aw=>by
   have bY:=aO.small
   have q1:(decide (((i0:Nat):Int)<((bn.length:Nat):Int)))=false:=d!
   exact aA.out rfl (pk (d) _ _ hh _ hh (VV (aQ 3 false false .i64 ((i0:Nat):Int) ((bn.length:Nat):Int))<|BB q1<|ZZ) k!) (bC.refl az) k!
 | c7+1,i0,fK,x,hh,az,aw=>by
   have bY:=aO.small
   have q1:(decide (((i0:Nat):Int)<((bn.length:Nat):Int)))=true:=d!
   obtain ⟨p3,q4,eb⟩:=(aO.has aw).elem (i:=i0) o!
   have jE:b_ env (some (.slice 52)) (some bk) (some (Zn i0))=some (AV.ptr p3 q4):=eb
   have jK:bm env hh 52 (AV.ptr p3 q4)=some (AV.agg [(Zi (bn.g i0).bt),(Zi (bn.g i0).aP)]):=(aO.has aw).load o! eb
   obtain ⟨h6,oX,mD,IY,tC,kX⟩:=ik az (aK.cells [(Zi 0),(Zi 0)] 52 false)
   have kW:Has hh h6:=kX
   obtain ⟨h7,mF,eP,xq,gT,hG⟩:=nJ (t:=52) (n:=2) (i:=hh.nx) (L:=[(Zi (bn.g i0).bt),(Zi (bn.g i0).aP)]) mD tC k! rfl rfl (by simp only[AV.cells,List.all_cons,List.all_nil,Bool.and_true,Bool.and_self,fp,dV,fq,ft,db,iF,iG,iH,iI,iJ,fu])
   have er:Has hh h7:=Has.cI kW hG az o!
   obtain ⟨r8,ZI,ZJ⟩:=(aO.has aw).pre (t:=43) k! (i:=i0) o!
   have sl9:fm env 43 bk (none) (some (Zn i0)) (none)=some r8:=ZI
   have Ix:=hP i0 o! r8 h7 eP (aw.trans er) (ZJ.has er)
   have R9:AV.same 20 (AV.agg [(Zi (bn.g i0).bt),(Zi (bn.g i0).aP)]) (AV.agg [(Zi (bn.g i0).bt),(Zi (bn.g i0).aP)])=true:=iC 18 (th (fun n=>aJ n _ _) (th (fun n=>aJ n _ _) OA))
   rcases Bool.eq_false_or_eq_true (!decide ((P i0)=0)) with f1 | f1
   · have ea:=C2 f1
     exact aA.ret (P i0) (by simp only[dJ,f1,aj,af]) (pk (d) _ _ hh _ h7 (VV (aQ 3 false false .i64 ((i0:Nat):Int) ((bn.length:Nat):Int))<|BC q1<|VV jE<|MM jK<|NN oX (fun i=>(Pt i))<|CC<|SS mF<|CN 3<|QQ sl9<|MM (ao 52 0 (AV.agg [(Zi (bn.g i0).bt),(Zi (bn.g i0).aP)]) gT k!)<|EE Ix<|CC<|HH (ao 52 0 (AV.agg [(Zi (bn.g i0).bt),(Zi (bn.g i0).aP)]) gT k!)<|HH R9<|CC<|VV (eC 31 false true .i64 (P i0) 0)<|BB f1<|CN 2<|ZZ) k!) (⟨eP,er,by omega⟩) k!
   · have ea:=C3 f1
     have Ub:=ew 3 false true i0 1 o!
     exact aA.round (by simp only[dJ,f1,aj,af]) (pk (d) _ _ hh _ h7 (VV (aQ 3 false false .i64 ((i0:Nat):Int) ((bn.length:Nat):Int))<|BC q1<|VV jE<|MM jK<|NN oX (fun i=>(Pt i))<|CC<|SS mF<|CN 3<|QQ sl9<|MM (ao 52 0 (AV.agg [(Zi (bn.g i0).bt),(Zi (bn.g i0).aP)]) gT k!)<|EE Ix<|CC<|HH (ao 52 0 (AV.agg [(Zi (bn.g i0).bt),(Zi (bn.g i0).aP)]) gT k!)<|HH R9<|CC<|VV (eC 31 false true .i64 (P i0) 0)<|BV f1 Ub<|CC<|ZZ) k!) (⟨eP,er,by omega⟩) _ k! (fun x=>j3 bk g cap bn P aO hP c7 (i0+1) o! x h7 eP (aw.trans er))
def cT (bn:List Span) (cc:Int) (P:Nat→Int):Int:=(bif (decide (cc<((bn.length:Nat):Int))) then 3 else (match (dJ P bn bn.length 0) with | none=>0 | some vL=>vL))
theorem xJ {d:Nat} {h:ak} {bk:AV} {g:FuncId} {cap:List AV} (bn:List Span) (cc:Int) (P:Nat→Int) (eH:aH h bk bn) (hP:∀j,j<bn.length→∀aV hh,Tidy hh→Has h hh→aH hh aV (bn.take j)→cA d (.fn g) (aV:: .agg (aB.c (bn.g j))::cap) hh= .ret (.int .i64 (P j)) hh) (bM:Tidy h):cA (d+1) (.fn 120) [bk,(Zi cc),(AV.func g [] cap)] h= .ret (Zi (cT bn cc P)) h:=by
 have xB:=eH.small
 have dx:bJ (some (.slice 52)) (some bk)=some (Zn bn.length):=eH.len
 rcases Bool.eq_false_or_eq_true (decide (cc<((bn.length:Nat):Int))) with f0 | f0
 · have fw:=of_decide_eq_true f0
   have e:cT bn cc P=3:=by simp only[cT,f0,aj,af]
   rw[e]
   exact ax rfl (aR Tryz.func120 l_ rfl (.inr rfl) (pk (d) _ _ h _ h (CN 2<|VV dx<|CC<|VV (bK 3 false false .i64 ((bn.length:Nat):Int) cc)<|BC f0<|ZZ) k!) k!) (Has.refl _) rfl
 · have fw:=of_decide_eq_false f0
   have yh:bJ (some (.slice 52)) (some bk)=some (Zn bn.length):=eH.len
   cases cQ:dJ P bn bn.length 0 with
   | none=>
     obtain ⟨tp,h5,cC,b4⟩:=aA.n cQ (j3 (d:=d) (h:=h) bk g cap bn P eH hP bn.length 0 o! (fun k_=>((bk::(Zi cc)::(AV.func g [] cap)::AV.undef::AV.undef::AV.undef::(Zi 0)::AV.undef::AV.undef::AV.undef::bk::(Zn bn.length)::(Zi cc)::(AV.bool (decide (cc<((bn.length:Nat):Int))))::bk::(Zn bn.length)::(Zi 0)::gB 14):List AV).getD k_ AV.undef) h bM (Has.refl _))
     have js:=b4.y
     have ph:h.nx≤h5.nx:=b4.n
     have eV:Has h h5:=b4.a
     have e:cT bn cc P=0:=by simp only[cT,f0,cQ,aj,af]
     rw[e]
     exact ax rfl (aR Tryz.func120 l_ rfl (.inr rfl) (pk (d) _ _ h _ h5 (CN 2<|VV dx<|CC<|VV (bK 3 false false .i64 ((bn.length:Nat):Int) cc)<|BC f0<|VV yh<|CC<|LL cC<|CC<|ZZ) k!) k!) eV rfl
   | some vL=>
     obtain ⟨tp,h5,cC,b4⟩:=aA.r cQ (j3 (d:=d) (h:=h) bk g cap bn P eH hP bn.length 0 o! (fun k_=>((bk::(Zi cc)::(AV.func g [] cap)::AV.undef::AV.undef::AV.undef::(Zi 0)::AV.undef::AV.undef::AV.undef::bk::(Zn bn.length)::(Zi cc)::(AV.bool (decide (cc<((bn.length:Nat):Int))))::bk::(Zn bn.length)::(Zi 0)::gB 14):List AV).getD k_ AV.undef) h bM (Has.refl _))
     have js:=b4.y
     have ph:h.nx≤h5.nx:=b4.n
     have eV:Has h h5:=b4.a
     have e:cT bn cc P=vL:=by simp only[cT,f0,cQ,aj,af]
     rw[e]
     exact ax rfl (aR Tryz.func120 l_ rfl (.inr rfl) (pk (d) _ _ h _ h5 (CN 2<|VV dx<|CC<|VV (bK 3 false false .i64 ((bn.length:Nat):Int) cc)<|BC f0<|VV yh<|CC<|LL cC<|ZZ) k!) k!) eV rfl
def AH:Code:=(Tryz.f121.body).getD .skip
theorem ko:Tryz.f121.body=some AH:=by kernel_rfl
def cm (jM:List Span) (s:Span):Int:=(bif (!(fW s.bt)) then 1 else (bif (!(fW s.aP)) then 1 else (bif (decide (s.aP<s.bt)) then 1 else (bif (decide (0<((jM.length:Nat):Int))) then (bif (decide (s.bt≤((jM.g (jM.length - 1)).aP))) then 1 else 0) else 0))))
theorem Gl {d:Nat} {h:ak} {l8:AV} (jM:List Span) (s:Span) (ir:aH h l8 jM) (pD:aB.ok h s) (bM:Tidy h):cA (d+3) (.fn 121) [l8,(AV.agg [(Zi s.bt),(Zi s.aP)])] h= .ret (Zi (cm jM s)) h:=by
 have zg:=ir.small
 obtain ⟨h1,bD,cb,ib,aI,cf⟩:=ik bM (aK.cells [(Zi s.bt),(Zi s.aP)] 52 false)
 have bx:Has h h1:=cf
 have k2:=vW (d:=d) s.bt cb
 rcases Bool.eq_false_or_eq_true (!(fW s.bt)) with f0 | f0
 · have e:cm jM s=1:=by simp only[cm,f0,aj,af]
   rw[e]
   exact ax rfl (aR Tryz.func121 ko rfl (.inr rfl) (pk (d+2) _ _ h _ h1 (NN bD (fun i=>(Pt i))<|CN 2<|MM (ao 3 0 (Zi s.bt) aI k!)<|EE k2<|CN 2<|BB f0<|BC f0<|ZZ) k!) k!) bx rfl
 · have k4:=vW (d:=d) s.aP cb
   rcases Bool.eq_false_or_eq_true (!(fW s.aP)) with f1 | f1
   · have e:cm jM s=1:=by simp only[cm,f0,f1,aj,af]
     rw[e]
     exact ax rfl (aR Tryz.func121 ko rfl (.inr rfl) (pk (d+2) _ _ h _ h1 (NN bD (fun i=>(Pt i))<|CN 2<|MM (ao 3 0 (Zi s.bt) aI k!)<|EE k2<|CN 2<|BC f0<|MM (ao 3 1 (Zi s.aP) aI k!)<|EE k4<|CN 2<|BB f1<|BC f1<|ZZ) k!) k!) bx rfl
   · rcases Bool.eq_false_or_eq_true (decide (s.aP<s.bt)) with f2 | f2
     · have jX:=of_decide_eq_true f2
       have e:cm jM s=1:=by simp only[cm,f0,f1,f2,aj,af]
       rw[e]
       exact ax rfl (aR Tryz.func121 ko rfl (.inr rfl) (pk (d+2) _ _ h _ h1 (NN bD (fun i=>(Pt i))<|CN 2<|MM (ao 3 0 (Zi s.bt) aI k!)<|EE k2<|CN 2<|BC f0<|MM (ao 3 1 (Zi s.aP) aI k!)<|EE k4<|CN 2<|BC f1<|MM (ao 3 0 (Zi s.bt) aI k!)<|CC<|MM (ao 3 1 (Zi s.aP) aI k!)<|VV (bK 3 false false .i64 s.bt s.aP)<|CC<|BC f2<|ZZ) k!) k!) bx rfl
     · have jX:=of_decide_eq_false f2
       have T_:bJ (some (.slice 52)) (some l8)=some (Zn jM.length):=ir.len
       rcases Bool.eq_false_or_eq_true (decide (0<((jM.length:Nat):Int))) with f3 | f3
       · have mu:=of_decide_eq_true f3
         have ln9:bJ (some (.slice 52)) (some l8)=some (Zn jM.length):=ir.len
         have u10:=RB 3 false true jM.length 1 o! o!
         obtain ⟨IV,IW,ni⟩:=ir.elem (i:=(jM.length - 1)) o!
         have vQ:b_ env (some (.slice 52)) (some l8) (some (Zn (jM.length - 1)))=some (AV.ptr IV IW):=ni
         have rC:bm env h1 3 (AV.ptr IV (IW+1))=some (Zi (jM.g (jM.length - 1)).aP):=(ir.has bx).part (t:=3) (j:=1) o! ni k! rfl
         rcases Bool.eq_false_or_eq_true (decide (s.bt≤((jM.g (jM.length - 1)).aP))) with f4 | f4
         · have tj:=of_decide_eq_true f4
           have e:cm jM s=1:=by simp only[cm,f0,f1,f2,f3,f4,aj,af]
           rw[e]
           exact ax rfl (aR Tryz.func121 ko rfl (.inr rfl) (pk (d+2) _ _ h _ h1 (NN bD (fun i=>(Pt i))<|CN 2<|MM (ao 3 0 (Zi s.bt) aI k!)<|EE k2<|CN 2<|BC f0<|MM (ao 3 1 (Zi s.aP) aI k!)<|EE k4<|CN 2<|BC f1<|MM (ao 3 0 (Zi s.bt) aI k!)<|CC<|MM (ao 3 1 (Zi s.aP) aI k!)<|VV (bK 3 false false .i64 s.bt s.aP)<|CC<|BC f2<|VV T_<|VV (bK 3 false true .i64 ((jM.length:Nat):Int) 0)<|CC<|BC f3<|BM f3 (ao 3 0 (Zi s.bt) aI k!)<|BC f3<|BC f3<|BV f3 ln9<|BV f3 u10<|BV f3 vQ<|BC f3<|BM f3 rC<|BV f3 (kI 3 false false .i64 s.bt (jM.g (jM.length - 1)).aP)<|VV (nK (decide (s.bt≤((jM.g (jM.length - 1)).aP))) false f3)<|CC<|HH (ao 3 0 (Zi s.bt) aI k!)<|HH (show AV.same 20 (Zi s.bt) (Zi s.bt)=true from aJ 19 _ _)<|HH rC<|HH (show AV.same 20 (Zi (jM.g (jM.length - 1)).aP) (Zi (jM.g (jM.length - 1)).aP)=true from aJ 19 _ _)<|BC f4<|ZZ) k!) k!) bx rfl
         · have tj:=of_decide_eq_false f4
           have e:cm jM s=0:=by simp only[cm,f0,f1,f2,f3,f4,aj,af]
           rw[e]
           exact ax rfl (aR Tryz.func121 ko rfl (.inr rfl) (pk (d+2) _ _ h _ h1 (NN bD (fun i=>(Pt i))<|CN 2<|MM (ao 3 0 (Zi s.bt) aI k!)<|EE k2<|CN 2<|BC f0<|MM (ao 3 1 (Zi s.aP) aI k!)<|EE k4<|CN 2<|BC f1<|MM (ao 3 0 (Zi s.bt) aI k!)<|CC<|MM (ao 3 1 (Zi s.aP) aI k!)<|VV (bK 3 false false .i64 s.bt s.aP)<|CC<|BC f2<|VV T_<|VV (bK 3 false true .i64 ((jM.length:Nat):Int) 0)<|CC<|BC f3<|BM f3 (ao 3 0 (Zi s.bt) aI k!)<|BC f3<|BC f3<|BV f3 ln9<|BV f3 u10<|BV f3 vQ<|BC f3<|BM f3 rC<|BV f3 (kI 3 false false .i64 s.bt (jM.g (jM.length - 1)).aP)<|VV (nK (decide (s.bt≤((jM.g (jM.length - 1)).aP))) false f3)<|CC<|HH (ao 3 0 (Zi s.bt) aI k!)<|HH (show AV.same 20 (Zi s.bt) (Zi s.bt)=true from aJ 19 _ _)<|HH rC<|HH (show AV.same 20 (Zi (jM.g (jM.length - 1)).aP) (Zi (jM.g (jM.length - 1)).aP)=true from aJ 19 _ _)<|BC f4<|ZZ) k!) k!) bx rfl
       · have mu:=of_decide_eq_false f3
         have e:cm jM s=0:=by simp only[cm,f0,f1,f2,f3,aj,af]
         rw[e]
         exact ax rfl (aR Tryz.func121 ko rfl (.inr rfl) (pk (d+2) _ _ h _ h1 (NN bD (fun i=>(Pt i))<|CN 2<|MM (ao 3 0 (Zi s.bt) aI k!)<|EE k2<|CN 2<|BC f0<|MM (ao 3 1 (Zi s.aP) aI k!)<|EE k4<|CN 2<|BC f1<|MM (ao 3 0 (Zi s.bt) aI k!)<|CC<|MM (ao 3 1 (Zi s.aP) aI k!)<|VV (bK 3 false false .i64 s.bt s.aP)<|CC<|BC f2<|VV T_<|VV (bK 3 false true .i64 ((jM.length:Nat):Int) 0)<|CC<|BB f3<|BB f3<|BB f3<|BB f3<|BB f3<|BB f3<|BB f3<|BB f3<|BB f3<|BV f3 (vK false f3)<|CC<|FF<|CC<|ZZ) k!) k!) bx rfl
def sx:Code:=(Tryz.f119.body).getD .skip
theorem vX:Tryz.f119.body=some sx:=by kernel_rfl
def fb (other:aZ) (r:aZ):Bool:=(decide (other.name=r.name))
theorem vY {d:Nat} {h:ak} (other:aZ) (r:aZ) (rB:Nat) (AZ:aB.ok h other) (ZN:aB.ok h r) (g_r:h.get rB=some (.cells (aB.c r) 45 false)) (bM:Tidy h):cA (d+1) (.fn 119) [(AV.agg [(AV.str other.name),(Zi other.aC),other.cE]),(Pt rB)] h= .ret (AV.bool (fb other r)) h:=by
 have XD:=AZ.2.small
 have V0:=ZN.2.small
 obtain ⟨h1,bD,cb,ib,aI,cf⟩:=ik bM (aK.cells [(AV.str other.name),(Zi other.aC),other.cE] 45 false)
 have bx:Has h h1:=cf
 have e:fb other r=(decide (other.name=r.name)):=by simp only[fb,aj,af]
 rw[e]
 exact ax rfl (aR Tryz.func119 vX rfl (.inr rfl) (pk (d) _ _ h _ h1 (NN bD (fun i=>(Pt i))<|CN 2<|MM (ao 9 0 (AV.str other.name) aI k!)<|CC<|MM (ao 9 0 (AV.str r.name) (cf _ _ g_r) k!)<|VV (Iy 9 false false other.name r.name)<|CC<|ZZ) k!) k!) bx rfl
def nq:Code:=(Tryz.f157.body).getD .skip
theorem pG:Tryz.f157.body=some nq:=by kernel_rfl
def uP:Code:=(bz nq).getD 0 .skip
def dp (s:List aZ) (P:aZ→Bool):Nat→Nat→Option (Int)
 | 0,_=>none
 | c7+1,i0=>(bif (P (s.g i0)) then some ((i0:Nat):Int) else dp s P c7 (i0+1))
theorem j4 {d:Nat} {h:ak} (sV:AV) (g:FuncId) (cap:List AV) (s:List aZ) (P:aZ→Bool) (aO:aH h sV s) (hP:∀y∈s,∀hh,Tidy hh→Has h hh→cA d (.fn g) (.agg (aB.c y)::cap) hh= .ret (.bool (P y)) hh):∀(k_ i_:Nat) (_:i_+k_=s.length) (x:Nat→AV) (hh:ak) (az:Tidy hh) (aw:Has h hh),aA (cA (d)) uP ⟨(sV::(AV.func g [] cap)::rx x 2 5 ((Zn s.length)::(Zn i_)::rx x 9 10 [])),hh,[],.no⟩ (.exit 0) hh (fun y=>(sV::(AV.func g [] cap)::rx y 2 5 ((Zn s.length)::rx y 8 11 []))) (fun r y=>(sV::(AV.func g [] cap)::(y 2)::(y 3)::(Zi r)::(y 5)::(y 6)::(Zn s.length)::rx y 8 11 [])) (dp s P k_ i_)
 | 0,i0,fK,x,hh,az,aw=>by
   have bY:=aO.small
   have q1:(decide (((i0:Nat):Int)<((s.length:Nat):Int)))=false:=d!
   exact aA.out rfl (pk (d) _ _ hh _ hh (VV (aQ 3 false false .i64 ((i0:Nat):Int) ((s.length:Nat):Int))<|BB q1<|ZZ) k!) (bC.refl az) k!
 | c7+1,i0,fK,x,hh,az,aw=>by
   have bY:=aO.small
   have q1:(decide (((i0:Nat):Int)<((s.length:Nat):Int)))=true:=d!
   obtain ⟨p3,q4,eb⟩:=(aO.has aw).elem (i:=i0) o!
   have jE:b_ env (some (.slice 45)) (some sV) (some (Zn i0))=some (AV.ptr p3 q4):=eb
   have jK:bm env hh 45 (AV.ptr p3 q4)=some (AV.agg [(AV.str (s.g i0).name),(Zi (s.g i0).aC),(s.g i0).cE]):=(aO.has aw).load o! eb
   have k6:=hP (s.g i0) (MQ o!) hh az aw
   rcases Bool.eq_false_or_eq_true (P (s.g i0)) with f1 | f1
   · exact aA.ret ((i0:Nat):Int) (by simp only[dp,f1,aj,af]) (pk (d) _ _ hh _ hh (VV (aQ 3 false false .i64 ((i0:Nat):Int) ((s.length:Nat):Int))<|BB q1<|CN 5<|VV jE<|MM jK<|EE k6<|BB f1<|CN 2<|ZZ) k!) (bC.refl az) k!
   · have u8:=ew 3 false true i0 1 o!
     exact aA.round (by simp only[dp,f1,aj,af]) (pk (d) _ _ hh _ hh (VV (aQ 3 false false .i64 ((i0:Nat):Int) ((s.length:Nat):Int))<|BB q1<|CN 5<|VV jE<|MM jK<|EE k6<|BV f1 u8<|CC<|ZZ) k!) (bC.refl az) _ k! (fun x=>j4 sV g cap s P aO hP c7 (i0+1) o! x hh az aw)
def eh (s:List aZ) (P:aZ→Bool):Int:=(match (dp s P s.length 0) with | none=>(-1) | some uK=>uK)
theorem xK {d:Nat} {h:ak} {sV:AV} {g:FuncId} {cap:List AV} (s:List aZ) (P:aZ→Bool) (pD:aH h sV s) (hP:∀y∈s,∀hh,Tidy hh→Has h hh→cA d (.fn g) (.agg (aB.c y)::cap) hh= .ret (.bool (P y)) hh) (bM:Tidy h):cA (d+1) (.fn 157) [sV,(AV.func g [] cap)] h= .ret (Zi (eh s P)) h:=by
 have xD:=pD.small
 have dx:bJ (some (.slice 45)) (some sV)=some (Zn s.length):=pD.len
 cases dk:dp s P s.length 0 with
 | none=>
   obtain ⟨Eo,h3,cW,dE⟩:=aA.n dk (j4 (d:=d) (h:=h) sV g cap s P pD hP s.length 0 o! (fun k_=>((sV::(AV.func g [] cap)::AV.undef::AV.undef::(Zi 0)::AV.undef::sV::(Zn s.length)::(Zi 0)::gB 10):List AV).getD k_ AV.undef) h bM (Has.refl _))
   have j0:=dE.y
   have oU:h.nx≤h3.nx:=dE.n
   have fB:Has h h3:=dE.a
   have e:eh s P=(-1):=by simp only[eh,dk,aj,af]
   rw[e]
   exact ax rfl (aR Tryz.func157 pG rfl (.inr rfl) (pk (d) _ _ h _ h3 (CN 2<|VV dx<|CC<|LL cW<|CC<|ZZ) k!) k!) fB rfl
 | some uK=>
   obtain ⟨Eo,h3,cW,dE⟩:=aA.r dk (j4 (d:=d) (h:=h) sV g cap s P pD hP s.length 0 o! (fun k_=>((sV::(AV.func g [] cap)::AV.undef::AV.undef::(Zi 0)::AV.undef::sV::(Zn s.length)::(Zi 0)::gB 10):List AV).getD k_ AV.undef) h bM (Has.refl _))
   have j0:=dE.y
   have oU:h.nx≤h3.nx:=dE.n
   have fB:Has h h3:=dE.a
   have e:eh s P=uK:=by simp only[eh,dk,aj,af]
   rw[e]
   exact ax rfl (aR Tryz.func157 pG rfl (.inr rfl) (pk (d) _ _ h _ h3 (CN 2<|VV dx<|CC<|LL cW<|ZZ) k!) k!) fB rfl
def qB:Code:=(Tryz.f118.body).getD .skip
theorem tE:Tryz.f118.body=some qB:=by kernel_rfl
def dK (s:List aZ) (P:aZ→Bool):Bool:=(decide (0≤(eh s P)))
theorem tF {d:Nat} {h:ak} {sV:AV} {g:FuncId} {cap:List AV} (s:List aZ) (P:aZ→Bool) (pD:aH h sV s) (hP:∀y∈s,∀hh,Tidy hh→Has h hh→cA d (.fn g) (.agg (aB.c y)::cap) hh= .ret (.bool (P y)) hh) (bM:Tidy h):cA (d+2) (.fn 118) [sV,(AV.func g [] cap)] h= .ret (AV.bool (dK s P)) h:=by
 have xD:=pD.small
 have k1:=xK (d:=d) s P pD hP bM
 have e:dK s P=(decide (0≤(eh s P))):=by simp only[dK,aj,af]
 rw[e]
 exact ax rfl (aR Tryz.func118 tE rfl (.inr rfl) (pk (d+1) _ _ h _ h (CN 3<|EE k1<|VV (jf 3 false true .i64 (eh s P) 0)<|CC<|ZZ) k!) k!) (Has.refl _) rfl
end
end Go.Proofs.aE
