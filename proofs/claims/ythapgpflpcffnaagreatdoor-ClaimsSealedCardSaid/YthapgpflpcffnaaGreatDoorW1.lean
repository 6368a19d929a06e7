import Derived.Test.YthapgpflpcffnaaGreatDoorW0
import Derived.Test.YthapgpflpcffnaaGreatDoorA8
import Derived.Test.YthapgpflpcffnaaGreatDoorEnv
namespace Go.Proofs.aP
open Go.Proofs Ab
noncomputable section
set_option maxRecDepth 100000
set_option maxHeartbeats 4000000
set_option linter.unusedVariables false
set_option linter.unusedSimpArgs false
def eb:Code:=(Tryz.f31.body).getD .skip
theorem nY:Tryz.f31.body=some eb:=by kernel_rfl
def yv:Code:=(dj eb).getD 0 .skip
def kM:Code:=(gH eb).getD 1 .skip
def kN:Code:=(gH eb).getD 6 .skip
def iz:Code:=(gH eb).getD 7 .skip
def iA:Code:=(gH eb).getD 8 .skip
def bS (aZ:List UInt8):Nat→Nat→Option (Bool)
 | 0,_=>none
 | tF+1,i0=>(bif (bif (!(bif (decide (97≤(((aZ.g i0).toNat:Nat):Int))) then (decide ((((aZ.g i0).toNat:Nat):Int)≤122)) else false)) then (bif (decide (((i0:Nat):Int)=0)) then true else (!(bif (decide (48≤(((aZ.g i0).toNat:Nat):Int))) then (bif (decide ((((aZ.g i0).toNat:Nat):Int)≤57)) then true else (decide ((((aZ.g i0).toNat:Nat):Int)=45))) else (decide ((((aZ.g i0).toNat:Nat):Int)=45))))) else false) then some false else bS aZ tF (i0+1))
theorem nw {d:Nat} {h:ah} (aZ:List UInt8) (c8:aZ.length<2^60):∀(k_ i_:Nat) (_:i_+k_=(List.length aZ)) (x:Nat→AV) (hh:ah) (c_:Tidy hh) (b7:Has h hh),bu (dJ (d)) yv ⟨((AV.str aZ)::rx x 1 13 ((Zn (List.length aZ))::(Zn i_)::rx x 16 39 [])),hh,[],.no⟩ (.exit 0) hh (fun y=>((AV.str aZ)::rx y 1 13 ((Zn (List.length aZ))::rx y 15 40 []))) (fun r y=>((AV.str aZ)::(y 1)::(AV.bool r)::rx y 3 11 ((Zn (List.length aZ))::rx y 15 40 []))) (bS aZ k_ i_)
 | 0,i0,E2,x,hh,c_,b7=>by
   have q1:(decide (((i0:Nat):Int)<((List.length aZ:Nat):Int)))=false:=d!
   exact bu.out rfl (pk (d) _ _ hh _ hh (VV (jt 3 false false .i64 ((i0:Nat):Int) ((List.length aZ:Nat):Int))<|BB q1<|ZZ) k!) (dB.refl c_) k!
 | tF+1,i0,E2,x,hh,c_,b7=>by
   have q1:(decide (((i0:Nat):Int)<((List.length aZ:Nat):Int)))=true:=d!
   obtain ⟨FU,Ok⟩:∃FU:Nat→AV,Ev env (dJ (d)) kN ⟨((AV.str aZ)::(x 1)::(x 2)::(Zn i0)::rx x 4 10 ((Zn (List.length aZ))::(Zn i0)::(AV.bool (decide (((i0:Nat):Int)<((List.length aZ:Nat):Int))))::(Zn i0)::rx x 18 37 [])),hh,[],.no⟩ .normal ⟨((AV.str aZ)::(x 1)::(x 2)::(Zn i0)::(AV.bool (bif (decide (97≤(((aZ.g i0).toNat:Nat):Int))) then (decide ((((aZ.g i0).toNat:Nat):Int)≤122)) else false))::rx x 5 9 ((Zn (List.length aZ))::(Zn i0)::(AV.bool (decide (((i0:Nat):Int)<((List.length aZ:Nat):Int))))::(Zn i0)::rx FU 18 10 (rx x 28 27 []))),hh,[],.no⟩:=by
    have J1:gX env (some .string) (some (AV.str aZ)) (some (Zn i0))=some (AV.int .u8 (((aZ.g i0).toNat:Nat):Int)):=m_ (j:=i0) o!
    rcases Bool.eq_false_or_eq_true (decide (97≤(((aZ.g i0).toNat:Nat):Int))) with f0 | f0
    · have kK:=of_decide_eq_true f0
      have YR:gX env (some .string) (some (AV.str aZ)) (some (Zn i0))=some (AV.int .u8 (((aZ.g i0).toNat:Nat):Int)):=m_ (j:=i0) o!
      have ev:=pk (d) kN ((AV.str aZ)::(x 1)::(x 2)::(Zn i0)::rx x 4 10 ((Zn (List.length aZ))::(Zn i0)::(AV.bool (decide (((i0:Nat):Int)<((List.length aZ:Nat):Int))))::(Zn i0)::rx x 18 37 [])) hh .normal hh (CN 2<|VV J1<|VV (cq 5 false true .u8 (((aZ.g i0).toNat:Nat):Int) 97)<|CC<|BC f0<|BC f0<|BV f0 YR<|BV f0 (yq 5 false true .u8 (((aZ.g i0).toNat:Nat):Int) 122)<|VV (Bu (decide ((((aZ.g i0).toNat:Nat):Int)≤122)) false f0)<|CC<|ZZ) k!
      rw[show (bif (decide (97≤(((aZ.g i0).toNat:Nat):Int))) then (decide ((((aZ.g i0).toNat:Nat):Int)≤122)) else false)=(decide ((((aZ.g i0).toNat:Nat):Int)≤122)) by simp only[f0,ar,ao]]
      exact kI ev k!
    · have kK:=of_decide_eq_false f0
      have ev:=pk (d) kN ((AV.str aZ)::(x 1)::(x 2)::(Zn i0)::rx x 4 10 ((Zn (List.length aZ))::(Zn i0)::(AV.bool (decide (((i0:Nat):Int)<((List.length aZ:Nat):Int))))::(Zn i0)::rx x 18 37 [])) hh .normal hh (CN 2<|VV J1<|VV (cq 5 false true .u8 (((aZ.g i0).toNat:Nat):Int) 97)<|CC<|BB f0<|BB f0<|BB f0<|BV f0 (FT false f0)<|CC<|ZZ) k!
      rw[show (bif (decide (97≤(((aZ.g i0).toNat:Nat):Int))) then (decide ((((aZ.g i0).toNat:Nat):Int)≤122)) else false)=false by simp only[f0,ar,ao]]
      exact kI ev k!
   obtain ⟨Ol,Om⟩:∃Ol:Nat→AV,Ev env (dJ (d)) iz ⟨((AV.str aZ)::(x 1)::(x 2)::(Zn i0)::(AV.bool (bif (decide (97≤(((aZ.g i0).toNat:Nat):Int))) then (decide ((((aZ.g i0).toNat:Nat):Int)≤122)) else false))::rx x 5 9 ((Zn (List.length aZ))::(Zn i0)::(AV.bool (decide (((i0:Nat):Int)<((List.length aZ:Nat):Int))))::(Zn i0)::rx FU 18 10 (rx x 28 27 []))),hh,[],.no⟩ .normal ⟨((AV.str aZ)::(x 1)::(x 2)::(Zn i0)::(AV.bool (bif (decide (97≤(((aZ.g i0).toNat:Nat):Int))) then (decide ((((aZ.g i0).toNat:Nat):Int)≤122)) else false))::(AV.bool (bif (decide (48≤(((aZ.g i0).toNat:Nat):Int))) then (bif (decide ((((aZ.g i0).toNat:Nat):Int)≤57)) then true else (decide ((((aZ.g i0).toNat:Nat):Int)=45))) else (decide ((((aZ.g i0).toNat:Nat):Int)=45))))::rx x 6 8 ((Zn (List.length aZ))::(Zn i0)::(AV.bool (decide (((i0:Nat):Int)<((List.length aZ:Nat):Int))))::(Zn i0)::rx FU 18 10 (rx Ol 28 16 (rx x 44 11 [])))),hh,[],.no⟩:=by
    have On:gX env (some .string) (some (AV.str aZ)) (some (Zn i0))=some (AV.int .u8 (((aZ.g i0).toNat:Nat):Int)):=m_ (j:=i0) o!
    rcases Bool.eq_false_or_eq_true (decide (48≤(((aZ.g i0).toNat:Nat):Int))) with f0 | f0
    · have kK:=of_decide_eq_true f0
      have PD:gX env (some .string) (some (AV.str aZ)) (some (Zn i0))=some (AV.int .u8 (((aZ.g i0).toNat:Nat):Int)):=m_ (j:=i0) o!
      rcases Bool.eq_false_or_eq_true (decide ((((aZ.g i0).toNat:Nat):Int)≤57)) with f1 | f1
      · have mn:=of_decide_eq_true f1
        have ev:=pk (d) iz ((AV.str aZ)::(x 1)::(x 2)::(Zn i0)::(AV.bool (bif (decide (97≤(((aZ.g i0).toNat:Nat):Int))) then (decide ((((aZ.g i0).toNat:Nat):Int)≤122)) else false))::rx x 5 9 ((Zn (List.length aZ))::(Zn i0)::(AV.bool (decide (((i0:Nat):Int)<((List.length aZ:Nat):Int))))::(Zn i0)::rx FU 18 10 (rx x 28 27 []))) hh .normal hh (CN 2<|VV On<|VV (cq 5 false true .u8 (((aZ.g i0).toNat:Nat):Int) 48)<|CC<|BC f0<|BC f0<|BV f0 PD<|BV f0 (yq 5 false true .u8 (((aZ.g i0).toNat:Nat):Int) 57)<|VV (Bu (decide ((((aZ.g i0).toNat:Nat):Int)≤57)) false f0)<|CC<|BB f1<|BB f1<|BB f1<|BV f1 (LC true f1)<|CC<|ZZ) k!
        rw[show (bif (decide (48≤(((aZ.g i0).toNat:Nat):Int))) then (bif (decide ((((aZ.g i0).toNat:Nat):Int)≤57)) then true else (decide ((((aZ.g i0).toNat:Nat):Int)=45))) else (decide ((((aZ.g i0).toNat:Nat):Int)=45)))=true by simp only[f0,f1,ar,ao]]
        exact kI ev k!
      · have mn:=of_decide_eq_false f1
        have Q7:gX env (some .string) (some (AV.str aZ)) (some (Zn i0))=some (AV.int .u8 (((aZ.g i0).toNat:Nat):Int)):=m_ (j:=i0) o!
        have ev:=pk (d) iz ((AV.str aZ)::(x 1)::(x 2)::(Zn i0)::(AV.bool (bif (decide (97≤(((aZ.g i0).toNat:Nat):Int))) then (decide ((((aZ.g i0).toNat:Nat):Int)≤122)) else false))::rx x 5 9 ((Zn (List.length aZ))::(Zn i0)::(AV.bool (decide (((i0:Nat):Int)<((List.length aZ:Nat):Int))))::(Zn i0)::rx FU 18 10 (rx x 28 27 []))) hh .normal hh (CN 2<|VV On<|VV (cq 5 false true .u8 (((aZ.g i0).toNat:Nat):Int) 48)<|CC<|BC f0<|BC f0<|BV f0 PD<|BV f0 (yq 5 false true .u8 (((aZ.g i0).toNat:Nat):Int) 57)<|VV (Bu (decide ((((aZ.g i0).toNat:Nat):Int)≤57)) false f0)<|CC<|BC f1<|BC f1<|BV f1 Q7<|BV f1 (et 5 false true .u8 (((aZ.g i0).toNat:Nat):Int) 45)<|VV (aW (a:=some (AV.bool true)) (b:=some (AV.bool (decide ((((aZ.g i0).toNat:Nat):Int)=45)))) f1)<|CC<|ZZ) k!
        rw[show (bif (decide (48≤(((aZ.g i0).toNat:Nat):Int))) then (bif (decide ((((aZ.g i0).toNat:Nat):Int)≤57)) then true else (decide ((((aZ.g i0).toNat:Nat):Int)=45))) else (decide ((((aZ.g i0).toNat:Nat):Int)=45)))=(decide ((((aZ.g i0).toNat:Nat):Int)=45)) by simp only[f0,f1,ar,ao]]
        exact kI ev k!
    · have kK:=of_decide_eq_false f0
      have PD:gX env (some .string) (some (AV.str aZ)) (some (Zn i0))=some (AV.int .u8 (((aZ.g i0).toNat:Nat):Int)):=m_ (j:=i0) o!
      have ev:=pk (d) iz ((AV.str aZ)::(x 1)::(x 2)::(Zn i0)::(AV.bool (bif (decide (97≤(((aZ.g i0).toNat:Nat):Int))) then (decide ((((aZ.g i0).toNat:Nat):Int)≤122)) else false))::rx x 5 9 ((Zn (List.length aZ))::(Zn i0)::(AV.bool (decide (((i0:Nat):Int)<((List.length aZ:Nat):Int))))::(Zn i0)::rx FU 18 10 (rx x 28 27 []))) hh .normal hh (CN 2<|VV On<|VV (cq 5 false true .u8 (((aZ.g i0).toNat:Nat):Int) 48)<|CC<|BB f0<|BB f0<|BB f0<|BV f0 (FT false f0)<|CC<|FF<|CC<|FF<|CC<|FF<|VV PD<|FF<|VV (et 5 false true .u8 (((aZ.g i0).toNat:Nat):Int) 45)<|CN 2<|ZZ) k!
      rw[show (bif (decide (48≤(((aZ.g i0).toNat:Nat):Int))) then (bif (decide ((((aZ.g i0).toNat:Nat):Int)≤57)) then true else (decide ((((aZ.g i0).toNat:Nat):Int)=45))) else (decide ((((aZ.g i0).toNat:Nat):Int)=45)))=(decide ((((aZ.g i0).toNat:Nat):Int)=45)) by simp only[f0,ar,ao]]
      exact kI ev k!
   obtain ⟨WT,Oo⟩:∃WT:Nat→AV,Ev env (dJ (d)) iA ⟨((AV.str aZ)::(x 1)::(x 2)::(Zn i0)::(AV.bool (bif (decide (97≤(((aZ.g i0).toNat:Nat):Int))) then (decide ((((aZ.g i0).toNat:Nat):Int)≤122)) else false))::(AV.bool (bif (decide (48≤(((aZ.g i0).toNat:Nat):Int))) then (bif (decide ((((aZ.g i0).toNat:Nat):Int)≤57)) then true else (decide ((((aZ.g i0).toNat:Nat):Int)=45))) else (decide ((((aZ.g i0).toNat:Nat):Int)=45))))::rx x 6 8 ((Zn (List.length aZ))::(Zn i0)::(AV.bool (decide (((i0:Nat):Int)<((List.length aZ:Nat):Int))))::(Zn i0)::rx FU 18 10 (rx Ol 28 16 (rx x 44 11 [])))),hh,[],.no⟩ .normal ⟨((AV.str aZ)::(x 1)::(x 2)::(Zn i0)::(AV.bool (bif (decide (97≤(((aZ.g i0).toNat:Nat):Int))) then (decide ((((aZ.g i0).toNat:Nat):Int)≤122)) else false))::(AV.bool (bif (decide (48≤(((aZ.g i0).toNat:Nat):Int))) then (bif (decide ((((aZ.g i0).toNat:Nat):Int)≤57)) then true else (decide ((((aZ.g i0).toNat:Nat):Int)=45))) else (decide ((((aZ.g i0).toNat:Nat):Int)=45))))::rx x 6 8 ((Zn (List.length aZ))::(Zn i0)::(AV.bool (decide (((i0:Nat):Int)<((List.length aZ:Nat):Int))))::(Zn i0)::rx FU 18 10 (rx Ol 28 16 (rx WT 44 9 ((AV.bool (bif (!(bif (decide (97≤(((aZ.g i0).toNat:Nat):Int))) then (decide ((((aZ.g i0).toNat:Nat):Int)≤122)) else false)) then (bif (decide (((i0:Nat):Int)=0)) then true else (!(bif (decide (48≤(((aZ.g i0).toNat:Nat):Int))) then (bif (decide ((((aZ.g i0).toNat:Nat):Int)≤57)) then true else (decide ((((aZ.g i0).toNat:Nat):Int)=45))) else (decide ((((aZ.g i0).toNat:Nat):Int)=45))))) else false))::(x 54)::[]))))),hh,[],.no⟩:=by
    rcases Bool.eq_false_or_eq_true (!(bif (decide (97≤(((aZ.g i0).toNat:Nat):Int))) then (decide ((((aZ.g i0).toNat:Nat):Int)≤122)) else false)) with f0 | f0
    · rcases Bool.eq_false_or_eq_true (decide (((i0:Nat):Int)=0)) with f1 | f1
      · have mn:=of_decide_eq_true f1
        have ev:=pk (d) iA ((AV.str aZ)::(x 1)::(x 2)::(Zn i0)::(AV.bool (bif (decide (97≤(((aZ.g i0).toNat:Nat):Int))) then (decide ((((aZ.g i0).toNat:Nat):Int)≤122)) else false))::(AV.bool (bif (decide (48≤(((aZ.g i0).toNat:Nat):Int))) then (bif (decide ((((aZ.g i0).toNat:Nat):Int)≤57)) then true else (decide ((((aZ.g i0).toNat:Nat):Int)=45))) else (decide ((((aZ.g i0).toNat:Nat):Int)=45))))::rx x 6 8 ((Zn (List.length aZ))::(Zn i0)::(AV.bool (decide (((i0:Nat):Int)<((List.length aZ:Nat):Int))))::(Zn i0)::rx FU 18 10 (rx Ol 28 16 (rx x 44 11 [])))) hh .normal hh (CN 3<|BC f0<|BV f0 (et 3 false true .i64 ((i0:Nat):Int) 0)<|BC f0<|BB f1<|BB f1<|BV f0 (LC true f1)<|VV (Bu true false f0)<|ZZ) k!
        rw[show (bif (!(bif (decide (97≤(((aZ.g i0).toNat:Nat):Int))) then (decide ((((aZ.g i0).toNat:Nat):Int)≤122)) else false)) then (bif (decide (((i0:Nat):Int)=0)) then true else (!(bif (decide (48≤(((aZ.g i0).toNat:Nat):Int))) then (bif (decide ((((aZ.g i0).toNat:Nat):Int)≤57)) then true else (decide ((((aZ.g i0).toNat:Nat):Int)=45))) else (decide ((((aZ.g i0).toNat:Nat):Int)=45))))) else false)=true by simp only[f0,f1,ar,ao]]
        exact kI ev k!
      · have mn:=of_decide_eq_false f1
        have ev:=pk (d) iA ((AV.str aZ)::(x 1)::(x 2)::(Zn i0)::(AV.bool (bif (decide (97≤(((aZ.g i0).toNat:Nat):Int))) then (decide ((((aZ.g i0).toNat:Nat):Int)≤122)) else false))::(AV.bool (bif (decide (48≤(((aZ.g i0).toNat:Nat):Int))) then (bif (decide ((((aZ.g i0).toNat:Nat):Int)≤57)) then true else (decide ((((aZ.g i0).toNat:Nat):Int)=45))) else (decide ((((aZ.g i0).toNat:Nat):Int)=45))))::rx x 6 8 ((Zn (List.length aZ))::(Zn i0)::(AV.bool (decide (((i0:Nat):Int)<((List.length aZ:Nat):Int))))::(Zn i0)::rx FU 18 10 (rx Ol 28 16 (rx x 44 11 [])))) hh .normal hh (CN 3<|BC f0<|BV f0 (et 3 false true .i64 ((i0:Nat):Int) 0)<|BC f0<|BC f1<|BC f1<|BV f0 (aW (a:=some (AV.bool true)) (b:=some (AV.bool (!(bif (decide (48≤(((aZ.g i0).toNat:Nat):Int))) then (bif (decide ((((aZ.g i0).toNat:Nat):Int)≤57)) then true else (decide ((((aZ.g i0).toNat:Nat):Int)=45))) else (decide ((((aZ.g i0).toNat:Nat):Int)=45)))))) f1)<|VV (Bu (!(bif (decide (48≤(((aZ.g i0).toNat:Nat):Int))) then (bif (decide ((((aZ.g i0).toNat:Nat):Int)≤57)) then true else (decide ((((aZ.g i0).toNat:Nat):Int)=45))) else (decide ((((aZ.g i0).toNat:Nat):Int)=45)))) false f0)<|ZZ) k!
        rw[show (bif (!(bif (decide (97≤(((aZ.g i0).toNat:Nat):Int))) then (decide ((((aZ.g i0).toNat:Nat):Int)≤122)) else false)) then (bif (decide (((i0:Nat):Int)=0)) then true else (!(bif (decide (48≤(((aZ.g i0).toNat:Nat):Int))) then (bif (decide ((((aZ.g i0).toNat:Nat):Int)≤57)) then true else (decide ((((aZ.g i0).toNat:Nat):Int)=45))) else (decide ((((aZ.g i0).toNat:Nat):Int)=45))))) else false)=(!(bif (decide (48≤(((aZ.g i0).toNat:Nat):Int))) then (bif (decide ((((aZ.g i0).toNat:Nat):Int)≤57)) then true else (decide ((((aZ.g i0).toNat:Nat):Int)=45))) else (decide ((((aZ.g i0).toNat:Nat):Int)=45)))) by simp only[f0,f1,ar,ao]]
        exact kI ev k!
    · have ev:=pk (d) iA ((AV.str aZ)::(x 1)::(x 2)::(Zn i0)::(AV.bool (bif (decide (97≤(((aZ.g i0).toNat:Nat):Int))) then (decide ((((aZ.g i0).toNat:Nat):Int)≤122)) else false))::(AV.bool (bif (decide (48≤(((aZ.g i0).toNat:Nat):Int))) then (bif (decide ((((aZ.g i0).toNat:Nat):Int)≤57)) then true else (decide ((((aZ.g i0).toNat:Nat):Int)=45))) else (decide ((((aZ.g i0).toNat:Nat):Int)=45))))::rx x 6 8 ((Zn (List.length aZ))::(Zn i0)::(AV.bool (decide (((i0:Nat):Int)<((List.length aZ:Nat):Int))))::(Zn i0)::rx FU 18 10 (rx Ol 28 16 (rx x 44 11 [])))) hh .normal hh (CN 3<|BB f0<|BB f0<|BB f0<|BV f0 (FT false f0)<|ZZ) k!
      rw[show (bif (!(bif (decide (97≤(((aZ.g i0).toNat:Nat):Int))) then (decide ((((aZ.g i0).toNat:Nat):Int)≤122)) else false)) then (bif (decide (((i0:Nat):Int)=0)) then true else (!(bif (decide (48≤(((aZ.g i0).toNat:Nat):Int))) then (bif (decide ((((aZ.g i0).toNat:Nat):Int)≤57)) then true else (decide ((((aZ.g i0).toNat:Nat):Int)=45))) else (decide ((((aZ.g i0).toNat:Nat):Int)=45))))) else false)=false by simp only[f0,ar,ao]]
      exact kI ev k!
   have tG:=fun {al ps} (k:Pk al _ ps)=>(VV (jt 3 false false .i64 ((i0:Nat):Int) ((List.length aZ:Nat):Int))<|BB q1<|CN 2<|LL Ok<|LL Om<|LL Oo<|k:Pk _ [] ps)
   rcases Bool.eq_false_or_eq_true (bif (!(bif (decide (97≤(((aZ.g i0).toNat:Nat):Int))) then (decide ((((aZ.g i0).toNat:Nat):Int)≤122)) else false)) then (bif (decide (((i0:Nat):Int)=0)) then true else (!(bif (decide (48≤(((aZ.g i0).toNat:Nat):Int))) then (bif (decide ((((aZ.g i0).toNat:Nat):Int)≤57)) then true else (decide ((((aZ.g i0).toNat:Nat):Int)=45))) else (decide ((((aZ.g i0).toNat:Nat):Int)=45))))) else false) with f1 | f1
   · exact bu.ret false (by simp only[bS,f1,ar,ao]) (pk (d) _ _ hh _ hh (tG<|BC f1<|ZZ) k!) (dB.refl c_) k!
   · have u6:=Ch 3 false true i0 1 o!
     exact bu.round (by simp only[bS,f1,ar,ao]) (pk (d) _ _ hh _ hh (tG<|BV f1 u6<|CC<|ZZ) k!) (dB.refl c_) _ k! (fun x=>nw aZ c8 tF (i0+1) o! x hh c_ b7)
def bn (aZ:List UInt8):Bool:=(bif (bif (decide (aZ=[])) then true else (decide (16<((List.length aZ:Nat):Int)))) then false else (match (bS aZ (List.length aZ) 0) with | none=>true | some H8=>H8))
theorem nZ {d:Nat} {h:ah} (aZ:List UInt8) (Cj:aZ.length<2^60) (dL:Tidy h):dJ (d+1) (.fn 31) [(AV.str aZ)] h= .ret (AV.bool (bn aZ)) h:=by
 obtain ⟨UJ,Ck⟩:∃UJ:Nat→AV,Ev env (dJ (d)) kM ⟨((AV.str aZ)::AV.undef::(AV.bool false)::dE 52),h,[],.no⟩ .normal ⟨((AV.str aZ)::AV.undef::(AV.bool false)::AV.undef::AV.undef::AV.undef::rx UJ 6 6 ((AV.bool (bif (decide (aZ=[])) then true else (decide (16<((List.length aZ:Nat):Int)))))::dE 42)),h,[],.no⟩:=by
  rcases Bool.eq_false_or_eq_true (decide (aZ=[])) with f0 | f0
  · have kK:=of_decide_eq_true f0
    have ev:=pk (d) kM ((AV.str aZ)::AV.undef::(AV.bool false)::dE 52) h .normal h (CC<|VV (Q0 9 false true aZ [])<|CC<|BB f0<|BB f0<|BV f0 (LC true f0)<|ZZ) k!
    rw[show (bif (decide (aZ=[])) then true else (decide (16<((List.length aZ:Nat):Int))))=true by simp only[f0,ar,ao]]
    exact kI ev k!
  · have kK:=of_decide_eq_false f0
    have sn2:aZ.length<2^60:=Cj
    have ev:=pk (d) kM ((AV.str aZ)::AV.undef::(AV.bool false)::dE 52) h .normal h (CC<|VV (Q0 9 false true aZ [])<|CC<|BC f0<|BC f0<|BV f0 (fK 3 false true .i64 ((List.length aZ:Nat):Int) 16)<|VV (aW (a:=some (AV.bool true)) (b:=some (AV.bool (decide (16<((List.length aZ:Nat):Int))))) f0)<|ZZ) k!
    rw[show (bif (decide (aZ=[])) then true else (decide (16<((List.length aZ:Nat):Int))))=(decide (16<((List.length aZ:Nat):Int))) by simp only[f0,ar,ao]]
    exact kI ev k!
 rcases Bool.eq_false_or_eq_true (bif (decide (aZ=[])) then true else (decide (16<((List.length aZ:Nat):Int)))) with f0 | f0
 · have e:bn aZ=false:=by simp only[bn,f0,ar,ao]
   rw[e]
   exact aA rfl (aX Tryz.func31 nY rfl (.inr rfl) (pk (d) _ _ h _ h (CC<|LL Ck<|BC f0<|ZZ) k!) k!) (Has.refl _) rfl
 · have sn3:aZ.length<2^60:=Cj
   have WU:=nw (d:=d) (h:=h) aZ Cj (List.length aZ) 0 o! (fun k_=>(((AV.str aZ)::AV.undef::(AV.bool false)::AV.undef::AV.undef::AV.undef::rx UJ 6 6 ((AV.bool (bif (decide (aZ=[])) then true else (decide (16<((List.length aZ:Nat):Int)))))::(AV.str aZ)::(Zn (List.length aZ))::(Zi 0)::dE 39)):List AV).getD k_ AV.undef) h dL (Has.refl _)
   cases fY:bS aZ (List.length aZ) 0 with
   | none=>
     obtain ⟨PE,h5,gI,gJ⟩:=bu.n fY WU
     have Cl:=gJ.y
     have E3:h.nx≤h5.nx:=gJ.n
     have qo:Has h h5:=gJ.a
     have e:bn aZ=true:=by simp only[bn,f0,fY,ar,ao]
     rw[e]
     exact aA rfl (aX Tryz.func31 nY rfl (.inr rfl) (pk (d) _ _ h _ h5 (CC<|LL Ck<|BB f0<|CN 3<|LL gI<|CC<|ZZ) k!) k!) qo rfl
   | some H8=>
     obtain ⟨PE,h5,gI,gJ⟩:=bu.r fY WU
     have Cl:=gJ.y
     have E3:h.nx≤h5.nx:=gJ.n
     have qo:Has h h5:=gJ.a
     have e:bn aZ=H8:=by simp only[bn,f0,fY,ar,ao]
     rw[e]
     exact aA rfl (aX Tryz.func31 nY rfl (.inr rfl) (pk (d) _ _ h _ h5 (CC<|LL Ck<|BB f0<|CN 3<|LL gI<|ZZ) k!) k!) qo rfl
def vr:Code:=(Tryz.f29.body).getD .skip
theorem tH:Tryz.f29.body=some vr:=by kernel_rfl
def eG (n:Int):Bool:=(bif (decide (0≤n)) then (decide (n≤100000)) else false)
theorem Cm {d:Nat} {h:ah} (n:Int) (dL:Tidy h):dJ (d+1) (.fn 29) [(Zi n)] h= .ret (AV.bool (eG n)) h:=by
 rcases Bool.eq_false_or_eq_true (decide (0≤n)) with f0 | f0
 · have kK:=of_decide_eq_true f0
   have e:eG n=(decide (n≤100000)):=by simp only[eG,f0,ar,ao]
   rw[e]
   exact aA rfl (aX Tryz.func29 tH rfl (.inr rfl) (pk (d) _ _ h _ h (CN 2<|VV (cq 3 false true .i64 n 0)<|CC<|BC f0<|BV f0 (yq 3 false true .i64 n 100000)<|VV (Bu (decide (n≤100000)) false f0)<|CC<|ZZ) k!) k!) (Has.refl _) rfl
 · have kK:=of_decide_eq_false f0
   have e:eG n=false:=by simp only[eG,f0,ar,ao]
   rw[e]
   exact aA rfl (aX Tryz.func29 tH rfl (.inr rfl) (pk (d) _ _ h _ h (CN 2<|VV (cq 3 false true .i64 n 0)<|CC<|BB f0<|BV f0 (FT false f0)<|CC<|ZZ) k!) k!) (Has.refl _) rfl
def qp:Code:=(Tryz.f17.body).getD .skip
theorem cG:Tryz.f17.body=some qp:=by kernel_rfl
def a_ (aq:List Fact) (f:Fact):Int:=(bif (!(eG f.time)) then 1 else (bif (!(cR f.number)) then 1 else (bif (!(bn f.kind)) then 5 else (bif (!(bn f.item)) then 5 else (bif (!(bn f.ag)) then 5 else (bif (decide (0<((aq.length:Nat):Int))) then (bif (decide (f.time<((aq.g (aq.length - 1)).time))) then 8 else 0) else 0))))))
theorem vt {d:Nat} {h:ah} {tI:AV} (aq:List Fact) (f:Fact) (pe:bh h tI aq) (PF:aw.ok h f) (dL:Tidy h):dJ (d+2) (.fn 17) [tI,(AV.agg [(Zi f.time),(AV.str f.kind),(AV.str f.item),(AV.str f.ag),(Zi f.number)])] h= .ret (Zi (a_ aq f)) h:=by
 have PG:=pe.small
 obtain ⟨h1,H9,rK,Q8,gK,H_⟩:=DP dL (aF.cells [(Zi f.time),(AV.str f.kind),(AV.str f.item),(AV.str f.ag),(Zi f.number)] 33 false)
 have mo:Has h h1:=H_
 have k2:=Cm (d:=d) f.time rK
 have tG:=fun {al ps} (k:Pk al _ ps)=>(NN H9 (fun i=>(Pt i))<|CN 2<|MM (fL 3 0 (Zi f.time) gK k!)<|EE k2<|CN 2<|k:Pk _ [] ps)
 rcases Bool.eq_false_or_eq_true (!(eG f.time)) with f0 | f0
 · have e:a_ aq f=1:=by simp only[a_,f0,ar,ao]
   rw[e]
   exact aA rfl (aX Tryz.func17 cG rfl (.inr rfl) (pk (d+1) _ _ h _ h1 (tG<|BB f0<|BC f0<|ZZ) k!) k!) mo rfl
 · have k4:=yu (d:=d) f.number rK
   have yw:=fun {al ps} (k:Pk al _ ps)=>(tG<|BC f0<|MM (fL 2 4 (Zi f.number) gK k!)<|EE k4<|CN 2<|k:Pk _ [] ps)
   rcases Bool.eq_false_or_eq_true (!(cR f.number)) with f1 | f1
   · have e:a_ aq f=1:=by simp only[a_,f0,f1,ar,ao]
     rw[e]
     exact aA rfl (aX Tryz.func17 cG rfl (.inr rfl) (pk (d+1) _ _ h _ h1 (yw<|BC f1<|ZZ) k!) k!) mo rfl
   · have k6:=nZ (d:=d) f.kind PF.1 rK
     have FV:=fun {al ps} (k:Pk al _ ps)=>(yw<|BC f1<|MM (fL 9 1 (AV.str f.kind) gK k!)<|EE k6<|CN 2<|k:Pk _ [] ps)
     rcases Bool.eq_false_or_eq_true (!(bn f.kind)) with f2 | f2
     · have e:a_ aq f=5:=by simp only[a_,f0,f1,f2,ar,ao]
       rw[e]
       exact aA rfl (aX Tryz.func17 cG rfl (.inr rfl) (pk (d+1) _ _ h _ h1 (FV<|BB f2<|BC f2<|ZZ) k!) k!) mo rfl
     · have k8:=nZ (d:=d) f.item PF.2.1 rK
       have MY:=fun {al ps} (k:Pk al _ ps)=>(FV<|BC f2<|MM (fL 9 2 (AV.str f.item) gK k!)<|EE k8<|CN 2<|k:Pk _ [] ps)
       rcases Bool.eq_false_or_eq_true (!(bn f.item)) with f3 | f3
       · have e:a_ aq f=5:=by simp only[a_,f0,f1,f2,f3,ar,ao]
         rw[e]
         exact aA rfl (aX Tryz.func17 cG rfl (.inr rfl) (pk (d+1) _ _ h _ h1 (MY<|BB f3<|BC f3<|ZZ) k!) k!) mo rfl
       · have Uu:=nZ (d:=d) f.ag PF.2.2 rK
         have Q9:=fun {al ps} (k:Pk al _ ps)=>(MY<|BC f3<|MM (fL 9 3 (AV.str f.ag) gK k!)<|EE Uu<|CN 2<|k:Pk _ [] ps)
         rcases Bool.eq_false_or_eq_true (!(bn f.ag)) with f4 | f4
         · have e:a_ aq f=5:=by simp only[a_,f0,f1,f2,f3,f4,ar,ao]
           rw[e]
           exact aA rfl (aX Tryz.func17 cG rfl (.inr rfl) (pk (d+1) _ _ h _ h1 (Q9<|BC f4<|ZZ) k!) k!) mo rfl
         · have n4:dS (some (.slice 33)) (some tI)=some (Zn aq.length):=pe.len
           have WV:=fun {al ps} (k:Pk al _ ps)=>(Q9<|BC f4<|VV n4<|VV (fK 3 false true .i64 ((aq.length:Nat):Int) 0)<|CC<|k:Pk _ [] ps)
           rcases Bool.eq_false_or_eq_true (decide (0<((aq.length:Nat):Int))) with f5 | f5
           · have Oq:=of_decide_eq_true f5
             have UK:dS (some (.slice 33)) (some tI)=some (Zn aq.length):=pe.len
             have YS:=Uz 3 false true aq.length 1 o! o!
             obtain ⟨WW,WX,MZ⟩:=pe.elem (i:=(aq.length - 1)) o!
             have yx:bD env (some (.slice 33)) (some tI) (some (Zn (aq.length - 1)))=some (AV.ptr WW WX):=MZ
             have Q_:aM env h1 3 (AV.ptr WW (WX+0))=some (Zi (aq.g (aq.length - 1)).time):=(pe.has mo).part (t:=3) (j:=0) o! MZ k! rfl
             have WY:=fun {al ps} (k:Pk al _ ps)=>(WV<|BC f5<|BC f5<|BV f5 UK<|BV f5 YS<|BV f5 yx<|BC f5<|BM f5 Q_<|BC f5<|BM f5 (fL 3 0 (Zi f.time) gK k!)<|BV f5 (fK 3 false false .i64 (aq.g (aq.length - 1)).time f.time)<|VV (Bu (decide (f.time<((aq.g (aq.length - 1)).time))) false f5)<|CC<|HH Q_<|HH (show AV.same 20 (Zi (aq.g (aq.length - 1)).time) (Zi (aq.g (aq.length - 1)).time)=true from dA 19 _ _)<|HH (fL 3 0 (Zi f.time) gK k!)<|HH (show AV.same 20 (Zi f.time) (Zi f.time)=true from dA 19 _ _)<|k:Pk _ [] ps)
             rcases Bool.eq_false_or_eq_true (decide (f.time<((aq.g (aq.length - 1)).time))) with f6 | f6
             · have Ot:=of_decide_eq_true f6
               have e:a_ aq f=8:=by simp only[a_,f0,f1,f2,f3,f4,f5,f6,ar,ao]
               rw[e]
               exact aA rfl (aX Tryz.func17 cG rfl (.inr rfl) (pk (d+1) _ _ h _ h1 (WY<|BC f6<|ZZ) k!) k!) mo rfl
             · have Ot:=of_decide_eq_false f6
               have e:a_ aq f=0:=by simp only[a_,f0,f1,f2,f3,f4,f5,f6,ar,ao]
               rw[e]
               exact aA rfl (aX Tryz.func17 cG rfl (.inr rfl) (pk (d+1) _ _ h _ h1 (WY<|BC f6<|ZZ) k!) k!) mo rfl
           · have Oq:=of_decide_eq_false f5
             have e:a_ aq f=0:=by simp only[a_,f0,f1,f2,f3,f4,f5,ar,ao]
             rw[e]
             exact aA rfl (aX Tryz.func17 cG rfl (.inr rfl) (pk (d+1) _ _ h _ h1 (WV<|BB f5<|BB f5<|BB f5<|BB f5<|BB f5<|BB f5<|BB f5<|BB f5<|BB f5<|BV f5 (FT false f5)<|CC<|FF<|CC<|ZZ) k!) k!) mo rfl
def g_:Code:=(Tryz.f16.body).getD .skip
theorem fZ:Tryz.f16.body=some g_:=by kernel_rfl
def ni:Code:=(dj g_).getD 0 .skip
def bl (P:Nat→Int) (eM:List Fact):Nat→Nat→Option (Int)
 | 0,_=>none
 | tF+1,i0=>(bif (!decide ((P i0)=0)) then some (P i0) else bl P eM tF (i0+1))
theorem hB {d:Nat} {h:ah} (f_:AV) (g:FuncId) (cap:List AV) (eM:List Fact) (P:Nat→Int) (c8:bh h f_ eM) (hP:∀j,j<eM.length→∀aV hh,Tidy hh→Has h hh→bh hh aV (eM.take j)→dJ d (.fn g) (aV:: .agg (aw.c (eM.g j))::cap) hh= .ret (.int .i64 (P j)) hh):∀(k_ i_:Nat) (_:i_+k_=eM.length) (x:Nat→AV) (hh:ah) (c_:Tidy hh) (b7:Has h hh),bu (dJ (d)) ni ⟨(f_::(x 1)::(AV.func g [] cap)::rx x 3 11 (f_::(Zn eM.length)::(Zn i_)::rx x 17 14 [])),hh,[],.no⟩ (.exit 0) hh (fun y=>(f_::(y 1)::(AV.func g [] cap)::rx y 3 11 (f_::(Zn eM.length)::rx y 16 15 []))) (fun r y=>(f_::(y 1)::(AV.func g [] cap)::rx y 3 3 ((Zi r)::rx y 7 7 (f_::(Zn eM.length)::rx y 16 15 [])))) (bl P eM k_ i_)
 | 0,i0,E2,x,hh,c_,b7=>by
   have kO:=c8.small
   have q1:(decide (((i0:Nat):Int)<((eM.length:Nat):Int)))=false:=d!
   exact bu.out rfl (pk (d) _ _ hh _ hh (VV (jt 3 false false .i64 ((i0:Nat):Int) ((eM.length:Nat):Int))<|BB q1<|ZZ) k!) (dB.refl c_) k!
 | tF+1,i0,E2,x,hh,c_,b7=>by
   have kO:=c8.small
   have q1:(decide (((i0:Nat):Int)<((eM.length:Nat):Int)))=true:=d!
   obtain ⟨p3,q4,AM⟩:=(c8.has b7).elem (i:=i0) o!
   have J1:bD env (some (.slice 33)) (some f_) (some (Zn i0))=some (AV.ptr p3 q4):=AM
   have Q':aM env hh 33 (AV.ptr p3 q4)=some (AV.agg [(Zi (eM.g i0).time),(AV.str (eM.g i0).kind),(AV.str (eM.g i0).item),(AV.str (eM.g i0).ag),(Zi (eM.g i0).number)]):=(c8.has b7).load o! AM
   obtain ⟨h6,H',vu,LI,yz,Ia⟩:=DP c_ (aF.cells [(Zi 0),(AV.str []),(AV.str []),(AV.str []),(Zi 0)] 33 false)
   have tJ:Has hh h6:=Ia
   obtain ⟨h7,Ib,qq,Ou,Cn,AN⟩:=LB (t:=33) (n:=5) (i:=hh.nx) (L:=[(Zi (eM.g i0).time),(AV.str (eM.g i0).kind),(AV.str (eM.g i0).item),(AV.str (eM.g i0).ag),(Zi (eM.g i0).number)]) vu yz k! rfl rfl (by simp only[AV.cells,List.all_cons,List.all_nil,Bool.and_true,Bool.and_self,yk,r6,ym,yn,oZ,DG,DH,DI,DJ,DK,yp])
   have kQ:Has hh h7:=Has.jC tJ AN c_ o!
   obtain ⟨r8,UL,UM⟩:=(c8.has b7).pre (t:=22) k! (i:=i0) o!
   have UN:bP env 22 f_ (none) (some (Zn i0)) (none)=some r8:=UL
   have QZ:=hP i0 o! r8 h7 qq (b7.trans kQ) (UM.has kQ)
   have YT:AV.same 20 (AV.agg [(Zi (eM.g i0).time),(AV.str (eM.g i0).kind),(AV.str (eM.g i0).item),(AV.str (eM.g i0).ag),(Zi (eM.g i0).number)]) (AV.agg [(Zi (eM.g i0).time),(AV.str (eM.g i0).kind),(AV.str (eM.g i0).item),(AV.str (eM.g i0).ag),(Zi (eM.g i0).number)])=true:=AF 18 (J0 (fun n=>dA n _ _) (J0 (fun n=>az n _) (J0 (fun n=>az n _) (J0 (fun n=>az n _) (J0 (fun n=>dA n _ _) WO)))))
   have tG:=fun {al ps} (k:Pk al _ ps)=>(VV (jt 3 false false .i64 ((i0:Nat):Int) ((eM.length:Nat):Int))<|BC q1<|VV J1<|MM Q'<|NN H' (fun i=>(Pt i))<|CC<|SS Ib<|CN 3<|QQ UN<|MM (fL 33 0 (AV.agg [(Zi (eM.g i0).time),(AV.str (eM.g i0).kind),(AV.str (eM.g i0).item),(AV.str (eM.g i0).ag),(Zi (eM.g i0).number)]) Cn k!)<|EE QZ<|CC<|HH (fL 33 0 (AV.agg [(Zi (eM.g i0).time),(AV.str (eM.g i0).kind),(AV.str (eM.g i0).item),(AV.str (eM.g i0).ag),(Zi (eM.g i0).number)]) Cn k!)<|HH YT<|CC<|VV (bI 26 false true .i64 (P i0) 0)<|k:Pk _ [] ps)
   rcases Bool.eq_false_or_eq_true (!decide ((P i0)=0)) with f1 | f1
   · have mn:=DT f1
     exact bu.ret (P i0) (by simp only[bl,f1,ar,ao]) (pk (d) _ _ hh _ h7 (tG<|BB f1<|CN 2<|ZZ) k!) (⟨qq,kQ,by omega⟩) k!
   · have mn:=DU f1
     have YU:=Ch 3 false true i0 1 o!
     exact bu.round (by simp only[bl,f1,ar,ao]) (pk (d) _ _ hh _ h7 (tG<|BV f1 YU<|CC<|ZZ) k!) (⟨qq,kQ,by omega⟩) _ k! (fun x=>hB f_ g cap eM P c8 hP tF (i0+1) o! x h7 qq (b7.trans kQ))
def bM (eM:List Fact) (rL:Int) (P:Nat→Int):Int:=(bif (decide (rL<((eM.length:Nat):Int))) then 3 else (match (bl P eM eM.length 0) with | none=>0 | some H8=>H8))
theorem pf {d:Nat} {h:ah} {f_:AV} {g:FuncId} {cap:List AV} (eM:List Fact) (rL:Int) (P:Nat→Int) (yA:bh h f_ eM) (hP:∀j,j<eM.length→∀aV hh,Tidy hh→Has h hh→bh hh aV (eM.take j)→dJ d (.fn g) (aV:: .agg (aw.c (eM.g j))::cap) hh= .ret (.int .i64 (P j)) hh) (dL:Tidy h):dJ (d+1) (.fn 16) [f_,(Zi rL),(AV.func g [] cap)] h= .ret (Zi (bM eM rL P)) h:=by
 have Ra:=yA.small
 have E4:dS (some (.slice 33)) (some f_)=some (Zn eM.length):=yA.len
 have yw:=fun {al ps} (k:Pk al _ ps)=>(CN 2<|VV E4<|CC<|VV (fK 3 false false .i64 ((eM.length:Nat):Int) rL)<|k:Pk _ [] ps)
 rcases Bool.eq_false_or_eq_true (decide (rL<((eM.length:Nat):Int))) with f0 | f0
 · have kK:=of_decide_eq_true f0
   have e:bM eM rL P=3:=by simp only[bM,f0,ar,ao]
   rw[e]
   exact aA rfl (aX Tryz.func16 fZ rfl (.inr rfl) (pk (d) _ _ h _ h (yw<|BC f0<|ZZ) k!) k!) (Has.refl _) rfl
 · have kK:=of_decide_eq_false f0
   have r_:dS (some (.slice 33)) (some f_)=some (Zn eM.length):=yA.len
   have Rb:=hB (d:=d) (h:=h) f_ g cap eM P yA hP eM.length 0 o! (fun k_=>((f_::(Zi rL)::(AV.func g [] cap)::AV.undef::AV.undef::AV.undef::(Zi 0)::AV.undef::AV.undef::AV.undef::f_::(Zn eM.length)::(Zi rL)::(AV.bool (decide (rL<((eM.length:Nat):Int))))::f_::(Zn eM.length)::(Zi 0)::dE 14):List AV).getD k_ AV.undef) h dL (Has.refl _)
   cases fY:bl P eM eM.length 0 with
   | none=>
     obtain ⟨PE,h5,gI,gJ⟩:=bu.n fY Rb
     have Cl:=gJ.y
     have E3:h.nx≤h5.nx:=gJ.n
     have qo:Has h h5:=gJ.a
     have e:bM eM rL P=0:=by simp only[bM,f0,fY,ar,ao]
     rw[e]
     exact aA rfl (aX Tryz.func16 fZ rfl (.inr rfl) (pk (d) _ _ h _ h5 (yw<|BC f0<|VV r_<|CC<|LL gI<|CC<|ZZ) k!) k!) qo rfl
   | some H8=>
     obtain ⟨PE,h5,gI,gJ⟩:=bu.r fY Rb
     have Cl:=gJ.y
     have E3:h.nx≤h5.nx:=gJ.n
     have qo:Has h h5:=gJ.a
     have e:bM eM rL P=H8:=by simp only[bM,f0,fY,ar,ao]
     rw[e]
     exact aA rfl (aX Tryz.func16 fZ rfl (.inr rfl) (pk (d) _ _ h _ h5 (yw<|BC f0<|VV r_<|CC<|LL gI<|ZZ) k!) k!) qo rfl
def n5:Code:=(Tryz.f9.body).getD .skip
theorem rM:Tryz.f9.body=some n5:=by kernel_rfl
def au (l_:List Fact):Int:=(bM l_ 512 (fun jx=>a_ (List.take jx l_) (List.g l_ jx)))
theorem fv {d:Nat} {h:ah} {cS:AV} (l_:List Fact) (dC:bh h cS l_) (dL:Tidy h):dJ (d+4) (.fn 9) [cS] h= .ret (Zi (au l_)) h:=by
 have yB:=dC.small
 have k1:=pf (d:=d+2) l_ 512 (fun jx=>a_ (List.take jx l_) (List.g l_ jx)) dC (fun jx hj aV hh yy aa fa=>vt (d:=d) (List.take jx l_) (List.g l_ jx) fa (aw.mono aa (dC.ok hj)) yy) dL
 have e:au l_=(bM l_ 512 (fun jx=>a_ (List.take jx l_) (List.g l_ jx))):=by simp only[au,ar,ao]
 rw[e]
 exact aA rfl (aX Tryz.func9 rM rfl (.inr rfl) (pk (d+3) _ _ h _ h (CN 2<|EE k1<|CC<|ZZ) k!) k!) (Has.refl _) rfl
def f':List UInt8:=[0,1,2,2,3,3,3,3,4,4,4,4,4,4,4,4,5,5,5,5,5,5,5,5,5,5,5,5,5,5,5,5,6,6,6,6,6,6,6,6,6,6,6,6,6,6,6,6,6,6,6,6,6,6,6,6,6,6,6,6,6,6,6,6,7,7,7,7,7,7,7,7,7,7,7,7,7,7,7,7,7,7,7,7,7,7,7,7,7,7,7,7,7,7,7,7,7,7,7,7,7,7,7,7,7,7,7,7,7,7,7,7,7,7,7,7,7,7,7,7,7,7,7,7,7,7,7,7,8,8,8,8,8,8,8,8,8,8,8,8,8,8,8,8,8,8,8,8,8,8,8,8,8,8,8,8,8,8,8,8,8,8,8,8,8,8,8,8,8,8,8,8,8,8,8,8,8,8,8,8,8,8,8,8,8,8,8,8,8,8,8,8,8,8,8,8,8,8,8,8,8,8,8,8,8,8,8,8,8,8,8,8,8,8,8,8,8,8,8,8,8,8,8,8,8,8,8,8,8,8,8,8,8,8,8,8,8,8,8,8,8,8,8,8,8,8,8,8,8,8,8,8,8,8,8,8]
def dU:Code:=(Tryz.f160.body).getD .skip
theorem jE:Tryz.f160.body=some dU:=by kernel_rfl
theorem Ie {call:aI} {h:ah} {x:Int} {u2 u5 u8 Ov:Int} (q1:(decide (4294967296≤x))=true) (c3:aJ env .shr 54 false true (some (AV.int .u64 x)) (some (AV.int .u64 32))=some (AV.int .u64 u2)) (q4:(decide (65536≤u2))=true) (c6:aJ env .shr 54 false true (some (AV.int .u64 u2)) (some (AV.int .u64 16))=some (AV.int .u64 u5)) (q7:(decide (256≤u5))=true) (c9:aJ env .shr 54 false true (some (AV.int .u64 u5)) (some (AV.int .u64 8))=some (AV.int .u64 u8)) (YV:gX env (some .string) (some (AV.str f')) (some (AV.int .u8 (IntKind.u8.wrap u8)))=some (AV.int .u8 Ov)) (YW:IntKind.i64.wrap (56+(IntKind.i64.wrap Ov))=56+(IntKind.i64.wrap Ov)):
 Ev env call dU ⟨((AV.int .u64 x)::dE 24),h,[],.no⟩ .ret ⟨[(AV.int .u64 u8),AV.undef,(AV.int .i64 (56+(IntKind.i64.wrap Ov))),(AV.int .u64 x),(AV.bool (decide (4294967296≤x))),(AV.int .u64 x),(AV.int .u64 u2),(AV.int .u64 u2),(AV.bool (decide (65536≤u2))),(AV.int .u64 u2),(AV.int .u64 u5),(AV.int .i64 32),(AV.int .i64 48),(AV.int .u64 u5),(AV.bool (decide (256≤u5))),(AV.int .u64 u5),(AV.int .u64 u8),(AV.int .i64 48),(AV.int .i64 56),(AV.int .i64 56),(AV.int .u64 u8),(AV.int .u8 (IntKind.u8.wrap u8)),(AV.int .u8 Ov),(AV.int .i64 (IntKind.i64.wrap Ov)),(AV.int .i64 (56+(IntKind.i64.wrap Ov)))],h,[],.no⟩:=
 ml (n:=200) (CN 2<|VV (cq 54 false true .u64 x 4294967296)<|BB q1<|CC<|VV c3<|CN 3<|VV (cq 54 false true .u64 u2 65536)<|BB q4<|CC<|VV c6<|CN 5<|VV (cq 54 false true .u64 u5 256)<|BB q7<|CC<|VV c9<|CN 7<|VV YV<|CC<|VV (kA 3 false false YW)<|CC<|ZZ) (by kernel_rfl)
theorem Ig {call:aI} {h:ah} {x:Int} {u2 u5 y8:Int} (q1:(decide (4294967296≤x))=true) (c3:aJ env .shr 54 false true (some (AV.int .u64 x)) (some (AV.int .u64 32))=some (AV.int .u64 u2)) (q4:(decide (65536≤u2))=true) (c6:aJ env .shr 54 false true (some (AV.int .u64 u2)) (some (AV.int .u64 16))=some (AV.int .u64 u5)) (q7:(decide (256≤u5))=false) (c9:gX env (some .string) (some (AV.str f')) (some (AV.int .u8 (IntKind.u8.wrap u5)))=some (AV.int .u8 y8)) (Rc:IntKind.i64.wrap (48+(IntKind.i64.wrap y8))=48+(IntKind.i64.wrap y8)):
 Ev env call dU ⟨((AV.int .u64 x)::dE 24),h,[],.no⟩ .ret ⟨[(AV.int .u64 u5),AV.undef,(AV.int .i64 (48+(IntKind.i64.wrap y8))),(AV.int .u64 x),(AV.bool (decide (4294967296≤x))),(AV.int .u64 x),(AV.int .u64 u2),(AV.int .u64 u2),(AV.bool (decide (65536≤u2))),(AV.int .u64 u2),(AV.int .u64 u5),(AV.int .i64 32),(AV.int .i64 48),(AV.int .u64 u5),(AV.bool (decide (256≤u5))),AV.undef,AV.undef,AV.undef,AV.undef,(AV.int .i64 48),(AV.int .u64 u5),(AV.int .u8 (IntKind.u8.wrap u5)),(AV.int .u8 y8),(AV.int .i64 (IntKind.i64.wrap y8)),(AV.int .i64 (48+(IntKind.i64.wrap y8)))],h,[],.no⟩:=
 ml (n:=200) (CN 2<|VV (cq 54 false true .u64 x 4294967296)<|BB q1<|CC<|VV c3<|CN 3<|VV (cq 54 false true .u64 u2 65536)<|BB q4<|CC<|VV c6<|CN 5<|VV (cq 54 false true .u64 u5 256)<|BB q7<|CN 3<|VV c9<|CC<|VV (kA 3 false false Rc)<|CC<|ZZ) (by kernel_rfl)
theorem Ih {call:aI} {h:ah} {x:Int} {u2 u6 y8:Int} (q1:(decide (4294967296≤x))=true) (c3:aJ env .shr 54 false true (some (AV.int .u64 x)) (some (AV.int .u64 32))=some (AV.int .u64 u2)) (q4:(decide (65536≤u2))=false) (q5:(decide (256≤u2))=true) (c7:aJ env .shr 54 false true (some (AV.int .u64 u2)) (some (AV.int .u64 8))=some (AV.int .u64 u6)) (c9:gX env (some .string) (some (AV.str f')) (some (AV.int .u8 (IntKind.u8.wrap u6)))=some (AV.int .u8 y8)) (Rc:IntKind.i64.wrap (40+(IntKind.i64.wrap y8))=40+(IntKind.i64.wrap y8)):
 Ev env call dU ⟨((AV.int .u64 x)::dE 24),h,[],.no⟩ .ret ⟨[(AV.int .u64 u6),AV.undef,(AV.int .i64 (40+(IntKind.i64.wrap y8))),(AV.int .u64 x),(AV.bool (decide (4294967296≤x))),(AV.int .u64 x),(AV.int .u64 u2),(AV.int .u64 u2),(AV.bool (decide (65536≤u2))),AV.undef,AV.undef,AV.undef,AV.undef,(AV.int .u64 u2),(AV.bool (decide (256≤u2))),(AV.int .u64 u2),(AV.int .u64 u6),(AV.int .i64 32),(AV.int .i64 40),(AV.int .i64 40),(AV.int .u64 u6),(AV.int .u8 (IntKind.u8.wrap u6)),(AV.int .u8 y8),(AV.int .i64 (IntKind.i64.wrap y8)),(AV.int .i64 (40+(IntKind.i64.wrap y8)))],h,[],.no⟩:=
 ml (n:=200) (CN 2<|VV (cq 54 false true .u64 x 4294967296)<|BB q1<|CC<|VV c3<|CN 3<|VV (cq 54 false true .u64 u2 65536)<|BB q4<|CC<|VV (cq 54 false true .u64 u2 256)<|BB q5<|CC<|VV c7<|CN 7<|VV c9<|CC<|VV (kA 3 false false Rc)<|CC<|ZZ) (by kernel_rfl)
theorem Ii {call:aI} {h:ah} {x:Int} {u2 y6:Int} (q1:(decide (4294967296≤x))=true) (c3:aJ env .shr 54 false true (some (AV.int .u64 x)) (some (AV.int .u64 32))=some (AV.int .u64 u2)) (q4:(decide (65536≤u2))=false) (q5:(decide (256≤u2))=false) (c7:gX env (some .string) (some (AV.str f')) (some (AV.int .u8 (IntKind.u8.wrap u2)))=some (AV.int .u8 y6)) (w8:IntKind.i64.wrap (32+(IntKind.i64.wrap y6))=32+(IntKind.i64.wrap y6)):
 Ev env call dU ⟨((AV.int .u64 x)::dE 24),h,[],.no⟩ .ret ⟨[(AV.int .u64 u2),AV.undef,(AV.int .i64 (32+(IntKind.i64.wrap y6))),(AV.int .u64 x),(AV.bool (decide (4294967296≤x))),(AV.int .u64 x),(AV.int .u64 u2),(AV.int .u64 u2),(AV.bool (decide (65536≤u2))),AV.undef,AV.undef,AV.undef,AV.undef,(AV.int .u64 u2),(AV.bool (decide (256≤u2))),AV.undef,AV.undef,AV.undef,AV.undef,(AV.int .i64 32),(AV.int .u64 u2),(AV.int .u8 (IntKind.u8.wrap u2)),(AV.int .u8 y6),(AV.int .i64 (IntKind.i64.wrap y6)),(AV.int .i64 (32+(IntKind.i64.wrap y6)))],h,[],.no⟩:=
 ml (n:=200) (CN 2<|VV (cq 54 false true .u64 x 4294967296)<|BB q1<|CC<|VV c3<|CN 3<|VV (cq 54 false true .u64 u2 65536)<|BB q4<|CC<|VV (cq 54 false true .u64 u2 256)<|BB q5<|CN 3<|VV c7<|CC<|VV (kA 3 false false w8)<|CC<|ZZ) (by kernel_rfl)
theorem Ij {call:aI} {h:ah} {x:Int} {u3 u6 y8:Int} (q1:(decide (4294967296≤x))=false) (q2:(decide (65536≤x))=true) (c4:aJ env .shr 54 false true (some (AV.int .u64 x)) (some (AV.int .u64 16))=some (AV.int .u64 u3)) (q5:(decide (256≤u3))=true) (c7:aJ env .shr 54 false true (some (AV.int .u64 u3)) (some (AV.int .u64 8))=some (AV.int .u64 u6)) (c9:gX env (some .string) (some (AV.str f')) (some (AV.int .u8 (IntKind.u8.wrap u6)))=some (AV.int .u8 y8)) (Rc:IntKind.i64.wrap (24+(IntKind.i64.wrap y8))=24+(IntKind.i64.wrap y8)):
 Ev env call dU ⟨((AV.int .u64 x)::dE 24),h,[],.no⟩ .ret ⟨[(AV.int .u64 u6),AV.undef,(AV.int .i64 (24+(IntKind.i64.wrap y8))),(AV.int .u64 x),(AV.bool (decide (4294967296≤x))),AV.undef,AV.undef,(AV.int .u64 x),(AV.bool (decide (65536≤x))),(AV.int .u64 x),(AV.int .u64 u3),(AV.int .i64 0),(AV.int .i64 16),(AV.int .u64 u3),(AV.bool (decide (256≤u3))),(AV.int .u64 u3),(AV.int .u64 u6),(AV.int .i64 16),(AV.int .i64 24),(AV.int .i64 24),(AV.int .u64 u6),(AV.int .u8 (IntKind.u8.wrap u6)),(AV.int .u8 y8),(AV.int .i64 (IntKind.i64.wrap y8)),(AV.int .i64 (24+(IntKind.i64.wrap y8)))],h,[],.no⟩:=
 ml (n:=200) (CN 2<|VV (cq 54 false true .u64 x 4294967296)<|BB q1<|CC<|VV (cq 54 false true .u64 x 65536)<|BB q2<|CC<|VV c4<|CN 5<|VV (cq 54 false true .u64 u3 256)<|BB q5<|CC<|VV c7<|CN 7<|VV c9<|CC<|VV (kA 3 false false Rc)<|CC<|ZZ) (by kernel_rfl)
theorem Ik {call:aI} {h:ah} {x:Int} {u3 y6:Int} (q1:(decide (4294967296≤x))=false) (q2:(decide (65536≤x))=true) (c4:aJ env .shr 54 false true (some (AV.int .u64 x)) (some (AV.int .u64 16))=some (AV.int .u64 u3)) (q5:(decide (256≤u3))=false) (c7:gX env (some .string) (some (AV.str f')) (some (AV.int .u8 (IntKind.u8.wrap u3)))=some (AV.int .u8 y6)) (w8:IntKind.i64.wrap (16+(IntKind.i64.wrap y6))=16+(IntKind.i64.wrap y6)):
 Ev env call dU ⟨((AV.int .u64 x)::dE 24),h,[],.no⟩ .ret ⟨[(AV.int .u64 u3),AV.undef,(AV.int .i64 (16+(IntKind.i64.wrap y6))),(AV.int .u64 x),(AV.bool (decide (4294967296≤x))),AV.undef,AV.undef,(AV.int .u64 x),(AV.bool (decide (65536≤x))),(AV.int .u64 x),(AV.int .u64 u3),(AV.int .i64 0),(AV.int .i64 16),(AV.int .u64 u3),(AV.bool (decide (256≤u3))),AV.undef,AV.undef,AV.undef,AV.undef,(AV.int .i64 16),(AV.int .u64 u3),(AV.int .u8 (IntKind.u8.wrap u3)),(AV.int .u8 y6),(AV.int .i64 (IntKind.i64.wrap y6)),(AV.int .i64 (16+(IntKind.i64.wrap y6)))],h,[],.no⟩:=
 ml (n:=200) (CN 2<|VV (cq 54 false true .u64 x 4294967296)<|BB q1<|CC<|VV (cq 54 false true .u64 x 65536)<|BB q2<|CC<|VV c4<|CN 5<|VV (cq 54 false true .u64 u3 256)<|BB q5<|CN 3<|VV c7<|CC<|VV (kA 3 false false w8)<|CC<|ZZ) (by kernel_rfl)
theorem Il {call:aI} {h:ah} {x:Int} {u4 y6:Int} (q1:(decide (4294967296≤x))=false) (q2:(decide (65536≤x))=false) (q3:(decide (256≤x))=true) (c5:aJ env .shr 54 false true (some (AV.int .u64 x)) (some (AV.int .u64 8))=some (AV.int .u64 u4)) (c7:gX env (some .string) (some (AV.str f')) (some (AV.int .u8 (IntKind.u8.wrap u4)))=some (AV.int .u8 y6)) (w8:IntKind.i64.wrap (8+(IntKind.i64.wrap y6))=8+(IntKind.i64.wrap y6)):
 Ev env call dU ⟨((AV.int .u64 x)::dE 24),h,[],.no⟩ .ret ⟨[(AV.int .u64 u4),AV.undef,(AV.int .i64 (8+(IntKind.i64.wrap y6))),(AV.int .u64 x),(AV.bool (decide (4294967296≤x))),AV.undef,AV.undef,(AV.int .u64 x),(AV.bool (decide (65536≤x))),AV.undef,AV.undef,AV.undef,AV.undef,(AV.int .u64 x),(AV.bool (decide (256≤x))),(AV.int .u64 x),(AV.int .u64 u4),(AV.int .i64 0),(AV.int .i64 8),(AV.int .i64 8),(AV.int .u64 u4),(AV.int .u8 (IntKind.u8.wrap u4)),(AV.int .u8 y6),(AV.int .i64 (IntKind.i64.wrap y6)),(AV.int .i64 (8+(IntKind.i64.wrap y6)))],h,[],.no⟩:=
 ml (n:=200) (CN 2<|VV (cq 54 false true .u64 x 4294967296)<|BB q1<|CC<|VV (cq 54 false true .u64 x 65536)<|BB q2<|CC<|VV (cq 54 false true .u64 x 256)<|BB q3<|CC<|VV c5<|CN 7<|VV c7<|CC<|VV (kA 3 false false w8)<|CC<|ZZ) (by kernel_rfl)
theorem Im {call:aI} {h:ah} {x:Int} {y4:Int} (q1:(decide (4294967296≤x))=false) (q2:(decide (65536≤x))=false) (q3:(decide (256≤x))=false) (c5:gX env (some .string) (some (AV.str f')) (some (AV.int .u8 (IntKind.u8.wrap x)))=some (AV.int .u8 y4)) (w6:IntKind.i64.wrap (0+(IntKind.i64.wrap y4))=0+(IntKind.i64.wrap y4)):
 Ev env call dU ⟨((AV.int .u64 x)::dE 24),h,[],.no⟩ .ret ⟨[(AV.int .u64 x),AV.undef,(AV.int .i64 (0+(IntKind.i64.wrap y4))),(AV.int .u64 x),(AV.bool (decide (4294967296≤x))),AV.undef,AV.undef,(AV.int .u64 x),(AV.bool (decide (65536≤x))),AV.undef,AV.undef,AV.undef,AV.undef,(AV.int .u64 x),(AV.bool (decide (256≤x))),AV.undef,AV.undef,AV.undef,AV.undef,(AV.int .i64 0),(AV.int .u64 x),(AV.int .u8 (IntKind.u8.wrap x)),(AV.int .u8 y4),(AV.int .i64 (IntKind.i64.wrap y4)),(AV.int .i64 (0+(IntKind.i64.wrap y4)))],h,[],.no⟩:=
 ml (n:=200) (CN 2<|VV (cq 54 false true .u64 x 4294967296)<|BB q1<|CC<|VV (cq 54 false true .u64 x 65536)<|BB q2<|CC<|VV (cq 54 false true .u64 x 256)<|BB q3<|CN 3<|VV c5<|CC<|VV (kA 3 false false w6)<|CC<|ZZ) (by kernel_rfl)
def rN (x L:Nat):Prop:=(x=0∧L=0)∨(0<L∧2^(L - 1)≤x∧x<2^L)
theorem Ow:((List.range 256).all fun u=>match f'[u]? with
 | some b=>(decide (u=0)&&decide (b.toNat=0))||(decide (0<b.toNat)&&decide (b.toNat≤8)&&decide (2^(b.toNat - 1)≤u)&&decide (u<2^b.toNat))
 | none=>false)=true:=by decide+kernel
theorem jF (u:Nat) (hu:u<256):∃t:Nat,gX env (some .string) (some (.str f')) (some (.int .u8 (IntKind.u8.wrap (u:Int))))=some (.int .u8 (t:Int))∧rN u t∧t≤8:=by
 have h:=List.all_eq_true.1 Ow u (List.mem_range.2 hu)
 cases hb:f'[u]? with
 | none=>rw[hb] at h;cases h
 | some b=>
   rw[hb] at h
   have hw:IntKind.u8.wrap (u:Int)=(u:Int):=by
    show (if (false&&decide ((u:Int)%2^8≥2^7))=true then (u:Int)%2^8 - 2^8 else (u:Int)%2^8)=_
    rw[if_neg (by simp)]
    omega
   refine ⟨b.toNat,?_,?_⟩
   · rw[hw]
     simp only[gX]
     rw[if_pos o!,Int.toNat_natCast,hb]
   · simp only[Bool.or_eq_true,Bool.and_eq_true,decide_eq_true_eq] at h
     rcases h with ⟨h1,h2⟩ | ⟨⟨⟨h1,h2⟩,h3⟩,h4⟩
     · exact ⟨.inl ⟨h1,h2⟩,by omega⟩
     · exact ⟨.inr ⟨h1,h3,h4⟩,h2⟩
theorem rN.up {x s t:Nat} (h:rN (x/2^s) t) (hx:x/2^s≠0):rN x (s+t):=by
 rcases h with ⟨h1,_⟩ | ⟨h1,h2,h3⟩
 · exact absurd h1 hx
 · refine .inr ⟨by omega,?_,?_⟩
   · have:=(Nat.le_div_iff_mul_le (Nat.pow_pos (n:=s) (by decide:0<2))).1 h2
     rw[←Nat.pow_add] at this
     rwa [show s+t - 1=t - 1+s by omega]
   · rw[Nat.div_lt_iff_lt_mul (Nat.pow_pos (by decide)),←Nat.pow_add] at h3
     rwa [Nat.add_comm]
theorem rN.le {x L:Nat} (h:rN x L) (hx:x<18446744073709551616):L≤64:=by
 rcases h with ⟨_,h⟩ | ⟨h1,h2,h3⟩
 · omega
 · have:2^(L - 1)<2^64:=by omega
   have:=(Nat.pow_lt_pow_iff_right (by decide:1<2)).1 this
   omega
theorem LJ {d:Nat} {h:ah} (x:Nat) (hx:x<18446744073709551616):∃L:Nat,dJ (d+1) (.fn 160) [.int .u64 (x:Int)] h= .ret (.int .i64 (L:Int)) h∧rN x L∧L≤64:=by
 have fin:∀{v:Int} (L:Nat),rN x L→v=(L:Int)→oY env (dJ d) 160 [.int .u64 (x:Int)] h (.int .i64 v) h→∃L:Nat,dJ (d+1) (.fn 160) [.int .u64 (x:Int)] h= .ret (.int .i64 (L:Int)) h∧rN x L∧L≤64:=by
  intro v L hL hv hd
  subst hv
  exact ⟨L,aA rfl hd (Has.refl h) rfl,hL,hL.le hx⟩
 have S':=fun y=>mj (E:=env) 12 false true y 32 .u64 (by decide)
 have Ta:=fun y=>mj (E:=env) 12 false true y 16 .u64 (by decide)
 have s8:=fun y=>mj (E:=env) 12 false true y 8 .u64 (by decide)
 have wr:∀(n t:Nat),n≤56→t≤8→IntKind.i64.wrap ((n:Int)+IntKind.i64.wrap (t:Int))=(n:Int)+IntKind.i64.wrap (t:Int)∧(n:Int)+IntKind.i64.wrap (t:Int)=((n+t:Nat):Int):=by
  intro n t h1 h2
  rw[wrap_i64 (n:=(t:Int)) o! o!]
  exact ⟨wrap_i64 o! o!,by omega⟩
 by_cases q1:4294967296≤x
 · by_cases q2:65536≤x/2^32
   · by_cases q3:256≤x/2^32/2^16
     · obtain ⟨t,i1,b1,t8⟩:=jF (x/2^32/2^16/2^8) o!
       obtain ⟨w1,w2⟩:=wr 56 t (by decide) t8
       exact fin (32+(16+(8+t))) (((b1.up o!).up o!).up o!) (w2.trans o!) (aX Tryz.func160 jE (by kernel_rfl) (.inr rfl) (Ie (dT o!) (S' x) (dT o!) (Ta _) (dT o!) (s8 _) i1 w1) (by kernel_rfl))
     · obtain ⟨t,i1,b1,t8⟩:=jF (x/2^32/2^16) o!
       obtain ⟨w1,w2⟩:=wr 48 t (by decide) t8
       exact fin (32+(16+t)) ((b1.up o!).up o!) (w2.trans o!) (aX Tryz.func160 jE (by kernel_rfl) (.inr rfl) (Ig (dT o!) (S' x) (dT o!) (Ta _) (dF o!) i1 w1) (by kernel_rfl))
   · by_cases q3:256≤x/2^32
     · obtain ⟨t,i1,b1,t8⟩:=jF (x/2^32/2^8) o!
       obtain ⟨w1,w2⟩:=wr 40 t (by decide) t8
       exact fin (32+(8+t)) ((b1.up o!).up o!) (w2.trans o!) (aX Tryz.func160 jE (by kernel_rfl) (.inr rfl) (Ih (dT o!) (S' x) (dF o!) (dT o!) (s8 _) i1 w1) (by kernel_rfl))
     · obtain ⟨t,i1,b1,t8⟩:=jF (x/2^32) o!
       obtain ⟨w1,w2⟩:=wr 32 t (by decide) t8
       exact fin (32+t) (b1.up o!) (w2.trans o!) (aX Tryz.func160 jE (by kernel_rfl) (.inr rfl) (Ii (dT o!) (S' x) (dF o!) (dF o!) i1 w1) (by kernel_rfl))
 · by_cases q2:65536≤x
   · by_cases q3:256≤x/2^16
     · obtain ⟨t,i1,b1,t8⟩:=jF (x/2^16/2^8) o!
       obtain ⟨w1,w2⟩:=wr 24 t (by decide) t8
       exact fin (16+(8+t)) ((b1.up o!).up o!) (w2.trans o!) (aX Tryz.func160 jE (by kernel_rfl) (.inr rfl) (Ij (dF o!) (dT o!) (Ta x) (dT o!) (s8 _) i1 w1) (by kernel_rfl))
     · obtain ⟨t,i1,b1,t8⟩:=jF (x/2^16) o!
       obtain ⟨w1,w2⟩:=wr 16 t (by decide) t8
       exact fin (16+t) (b1.up o!) (w2.trans o!) (aX Tryz.func160 jE (by kernel_rfl) (.inr rfl) (Ik (dF o!) (dT o!) (Ta x) (dF o!) i1 w1) (by kernel_rfl))
   · by_cases q3:256≤x
     · obtain ⟨t,i1,b1,t8⟩:=jF (x/2^8) o!
       obtain ⟨w1,w2⟩:=wr 8 t (by decide) t8
       exact fin (8+t) (b1.up o!) (w2.trans o!) (aX Tryz.func160 jE (by kernel_rfl) (.inr rfl) (Il (dF o!) (dF o!) (dT o!) (s8 x) i1 w1) (by kernel_rfl))
     · obtain ⟨t,i1,b1,t8⟩:=jF x o!
       obtain ⟨w1,w2⟩:=wr 0 t (by decide) t8
       exact fin t b1 (w2.trans o!) (aX Tryz.func160 jE (by kernel_rfl) (.inr rfl) (Im (dF o!) (dF o!) (dF o!) i1 w1) (by kernel_rfl))
theorem rN.unique {x M L:Nat} (g2:rN x M) (h2:rN x L):M=L:=by
 rcases h2 with ⟨a1,a2⟩ | ⟨a1,a2,a3⟩<;>rcases g2 with ⟨b1,b2⟩ | ⟨b1,b2,b3⟩
 · omega
 · have:0<2^(M - 1):=Nat.pow_pos (by decide)
   omega
 · have:0<2^(L - 1):=Nat.pow_pos (by decide)
   omega
 · have c1:L - 1<M:=(Nat.pow_lt_pow_iff_right (by decide:1<2)).1 (Nat.lt_of_le_of_lt a2 b3)
   have c2:M - 1<L:=(Nat.pow_lt_pow_iff_right (by decide:1<2)).1 (Nat.lt_of_le_of_lt b2 a3)
   omega
theorem yC {α:Type} {tin:(Nat→AV)→List AV} {Rd:α→(Nat→AV)→List AV} {b:Code} {s:St} {h:ah} {ds:List iI} {rc:RC} {L:List AV} {e:fi} {Q:α→ah→Prop} {call:aI} (ev:Ev env call b s .normal ⟨L,h,ds,rc⟩) (hl:L=tin fun k=>L.getD k AV.undef)
 (ih:∀x,∃a h',(∃y,Ev env call (.loop b) ⟨tin x,h,ds,rc⟩ e ⟨Rd a y,h',ds,rc⟩)∧Q a h'):∃a h',(∃y,Ev env call (.loop b) s e ⟨Rd a y,h',ds,rc⟩)∧Q a h':=by
 obtain ⟨a,h',⟨y,h1⟩,h2⟩:=ih fun k=>L.getD k AV.undef
 exact ⟨a,h',⟨y,EX ev hl h1⟩,h2⟩
theorem wo {l:List Nat} {j:Nat} (hj:j<l.length):l.take (j+1)=l.take j++[l.getD j 0]:=by
 rw[List.take_add_one,List.getD_eq_getElem?_getD,List.getElem?_eq_getElem hj];rfl
end
end Go.Proofs.aP
