import Derived.Test.YtobmbjlcklkpoaaW0
import Derived.Test.YtobmbjlcklkpoaaW4
namespace Go.Proofs.aJ
open Go.Proofs Ab
noncomputable section
set_option maxRecDepth 100000
set_option maxHeartbeats 4000000
set_option linter.unusedVariables false
set_option linter.unusedSimpArgs false
def uV:Code:=(Try.f51.body).getD .skip
theorem ry:Try.f51.body=some uV:=by kernel_rfl
def Gq:Code:=(ck uV).getD 0 .skip
def bK (bX:List UInt8):Nat→Nat→Option (Bool)
 | 0,_=>none
 | dS+1,i0=>(bif (decide (97≤(((bX.g i0).toNat:Nat):Int))) then (bif (decide (48≤(((bX.g i0).toNat:Nat):Int))) then (bif (decide ((((bX.g i0).toNat:Nat):Int)≤57)) then (bif (!(decide ((((bX.g i0).toNat:Nat):Int)≤122))) then (bif (decide (((i0:Nat):Int)=0)) then some false else bK bX dS (i0+1)) else bK bX dS (i0+1)) else (bif (!(decide ((((bX.g i0).toNat:Nat):Int)≤122))) then (bif (decide (((i0:Nat):Int)=0)) then some false else (bif (!(decide ((((bX.g i0).toNat:Nat):Int)=45))) then some false else bK bX dS (i0+1))) else bK bX dS (i0+1))) else (bif (!(decide ((((bX.g i0).toNat:Nat):Int)≤122))) then (bif (decide (((i0:Nat):Int)=0)) then some false else (bif (!(decide ((((bX.g i0).toNat:Nat):Int)=45))) then some false else bK bX dS (i0+1))) else bK bX dS (i0+1))) else (bif (decide (48≤(((bX.g i0).toNat:Nat):Int))) then (bif (decide ((((bX.g i0).toNat:Nat):Int)≤57)) then (bif (decide (((i0:Nat):Int)=0)) then some false else bK bX dS (i0+1)) else (bif (decide (((i0:Nat):Int)=0)) then some false else (bif (!(decide ((((bX.g i0).toNat:Nat):Int)=45))) then some false else bK bX dS (i0+1)))) else (bif (decide (((i0:Nat):Int)=0)) then some false else (bif (!(decide ((((bX.g i0).toNat:Nat):Int)=45))) then some false else bK bX dS (i0+1)))))
theorem d_ {d:Nat} {h:aw} (bX:List UInt8) (bI:bX.length<2^60):∀(k_ i_:Nat) (_:i_+k_=(List.length bX)) (x:Nat→AV) (hh:aw) (aL:Tidy hh) (aX:Has h hh),aU (cJ (d)) Gq ⟨((AV.str bX)::rx x 1 13 ((Zn (List.length bX))::(Zn i_)::rx x 16 39 [])),hh,[],.no⟩ (.exit 0) hh (fun y=>((AV.str bX)::rx y 1 13 ((Zn (List.length bX))::rx y 15 40 []))) (fun r y=>((AV.str bX)::(y 1)::(AV.bool r)::rx y 3 11 ((Zn (List.length bX))::rx y 15 40 []))) (bK bX k_ i_)
 | 0,i0,jZ,x,hh,aL,aX=>by
   have q1:(decide (((i0:Nat):Int)<((List.length bX:Nat):Int)))=false:=d!
   exact aU.out rfl (pk (d) _ _ hh _ hh (VV (bz 3 false false .i64 ((i0:Nat):Int) ((List.length bX:Nat):Int))<|BB q1<|ZZ) k!) (Grow.refl aL) k!
 | dS+1,i0,jZ,x,hh,aL,aX=>by
   have q1:(decide (((i0:Nat):Int)<((List.length bX:Nat):Int)))=true:=d!
   have nI:qZ env (some .string) (some (AV.str bX)) (some (Zn i0))=some (AV.int .u8 (((bX.g i0).toNat:Nat):Int)):=j_ (j:=i0) o!
   rcases Bool.eq_false_or_eq_true (decide (97≤(((bX.g i0).toNat:Nat):Int))) with f1 | f1
   · have iK:=of_decide_eq_true f1
     have xf:qZ env (some .string) (some (AV.str bX)) (some (Zn i0))=some (AV.int .u8 (((bX.g i0).toNat:Nat):Int)):=j_ (j:=i0) o!
     have Jo:qZ env (some .string) (some (AV.str bX)) (some (Zn i0))=some (AV.int .u8 (((bX.g i0).toNat:Nat):Int)):=j_ (j:=i0) o!
     rcases Bool.eq_false_or_eq_true (decide (48≤(((bX.g i0).toNat:Nat):Int))) with f2 | f2
     · have pO:=of_decide_eq_true f2
       have Dc:qZ env (some .string) (some (AV.str bX)) (some (Zn i0))=some (AV.int .u8 (((bX.g i0).toNat:Nat):Int)):=j_ (j:=i0) o!
       rcases Bool.eq_false_or_eq_true (decide ((((bX.g i0).toNat:Nat):Int)≤57)) with f3 | f3
       · have l7:=of_decide_eq_true f3
         rcases Bool.eq_false_or_eq_true (!(decide ((((bX.g i0).toNat:Nat):Int)≤122))) with f4 | f4
         · have l8:=AG f4
           rcases Bool.eq_false_or_eq_true (decide (((i0:Nat):Int)=0)) with f5 | f5
           · have yM:=of_decide_eq_true f5
             exact aU.ret false (by simp only[bK,f1,f2,f3,f4,f5,aj,ai]) (pk (d) _ _ hh _ hh (VV (bz 3 false false .i64 ((i0:Nat):Int) ((List.length bX:Nat):Int))<|BB q1<|CN 4<|VV nI<|VV (eN 5 false true .u8 (((bX.g i0).toNat:Nat):Int) 97)<|CC<|BC f1<|BC f1<|BV f1 xf<|BV f1 (gR 5 false true .u8 (((bX.g i0).toNat:Nat):Int) 122)<|VV (jA (decide ((((bX.g i0).toNat:Nat):Int)≤122)) false f1)<|CN 3<|VV Jo<|VV (eN 5 false true .u8 (((bX.g i0).toNat:Nat):Int) 48)<|CC<|BC f2<|BC f2<|BV f2 Dc<|BV f2 (gR 5 false true .u8 (((bX.g i0).toNat:Nat):Int) 57)<|VV (jA (decide ((((bX.g i0).toNat:Nat):Int)≤57)) false f2)<|CC<|BB f3<|BB f3<|BB f3<|BV f3 (nR true f3)<|CN 4<|BC f4<|BV f4 (fh 3 false true .i64 ((i0:Nat):Int) 0)<|BC f4<|BB f5<|BB f5<|BV f4 (nR true f5)<|VV (jA true false f4)<|TT<|CC<|ZZ) k!) (Grow.refl aL) k!
           · have yM:=of_decide_eq_false f5
             have Hj:=eR 3 false true i0 1 o!
             exact aU.round (by simp only[bK,f1,f2,f3,f4,f5,aj,ai]) (pk (d) _ _ hh _ hh (VV (bz 3 false false .i64 ((i0:Nat):Int) ((List.length bX:Nat):Int))<|BB q1<|CN 4<|VV nI<|VV (eN 5 false true .u8 (((bX.g i0).toNat:Nat):Int) 97)<|CC<|BC f1<|BC f1<|BV f1 xf<|BV f1 (gR 5 false true .u8 (((bX.g i0).toNat:Nat):Int) 122)<|VV (jA (decide ((((bX.g i0).toNat:Nat):Int)≤122)) false f1)<|CN 3<|VV Jo<|VV (eN 5 false true .u8 (((bX.g i0).toNat:Nat):Int) 48)<|CC<|BC f2<|BC f2<|BV f2 Dc<|BV f2 (gR 5 false true .u8 (((bX.g i0).toNat:Nat):Int) 57)<|VV (jA (decide ((((bX.g i0).toNat:Nat):Int)≤57)) false f2)<|CC<|BB f3<|BB f3<|BB f3<|BV f3 (nR true f3)<|CN 4<|BC f4<|BV f4 (fh 3 false true .i64 ((i0:Nat):Int) 0)<|BC f4<|BC f5<|BC f5<|BV f4 (Xu true false f5)<|VV (jA false false f4)<|FF<|VV Hj<|CC<|ZZ) k!) (Grow.refl aL) _ k! (fun x=>d_ bX bI dS (i0+1) o! x hh aL aX)
         · have l8:=AH f4
           have u10:=eR 3 false true i0 1 o!
           exact aU.round (by simp only[bK,f1,f2,f3,f4,aj,ai]) (pk (d) _ _ hh _ hh (VV (bz 3 false false .i64 ((i0:Nat):Int) ((List.length bX:Nat):Int))<|BB q1<|CN 4<|VV nI<|VV (eN 5 false true .u8 (((bX.g i0).toNat:Nat):Int) 97)<|CC<|BC f1<|BC f1<|BV f1 xf<|BV f1 (gR 5 false true .u8 (((bX.g i0).toNat:Nat):Int) 122)<|VV (jA (decide ((((bX.g i0).toNat:Nat):Int)≤122)) false f1)<|CN 3<|VV Jo<|VV (eN 5 false true .u8 (((bX.g i0).toNat:Nat):Int) 48)<|CC<|BC f2<|BC f2<|BV f2 Dc<|BV f2 (gR 5 false true .u8 (((bX.g i0).toNat:Nat):Int) 57)<|VV (jA (decide ((((bX.g i0).toNat:Nat):Int)≤57)) false f2)<|CC<|BB f3<|BB f3<|BB f3<|BV f3 (nR true f3)<|CN 4<|BB f4<|BB f4<|BB f4<|BV f4 (pN false f4)<|FF<|VV u10<|CC<|ZZ) k!) (Grow.refl aL) _ k! (fun x=>d_ bX bI dS (i0+1) o! x hh aL aX)
       · have l7:=of_decide_eq_false f3
         have ix9:qZ env (some .string) (some (AV.str bX)) (some (Zn i0))=some (AV.int .u8 (((bX.g i0).toNat:Nat):Int)):=j_ (j:=i0) o!
         rcases Bool.eq_false_or_eq_true (!(decide ((((bX.g i0).toNat:Nat):Int)≤122))) with f4 | f4
         · have l8:=AG f4
           rcases Bool.eq_false_or_eq_true (decide (((i0:Nat):Int)=0)) with f5 | f5
           · have yM:=of_decide_eq_true f5
             exact aU.ret false (by simp only[bK,f1,f2,f3,f4,f5,aj,ai]) (pk (d) _ _ hh _ hh (VV (bz 3 false false .i64 ((i0:Nat):Int) ((List.length bX:Nat):Int))<|BB q1<|CN 4<|VV nI<|VV (eN 5 false true .u8 (((bX.g i0).toNat:Nat):Int) 97)<|CC<|BC f1<|BC f1<|BV f1 xf<|BV f1 (gR 5 false true .u8 (((bX.g i0).toNat:Nat):Int) 122)<|VV (jA (decide ((((bX.g i0).toNat:Nat):Int)≤122)) false f1)<|CN 3<|VV Jo<|VV (eN 5 false true .u8 (((bX.g i0).toNat:Nat):Int) 48)<|CC<|BC f2<|BC f2<|BV f2 Dc<|BV f2 (gR 5 false true .u8 (((bX.g i0).toNat:Nat):Int) 57)<|VV (jA (decide ((((bX.g i0).toNat:Nat):Int)≤57)) false f2)<|CC<|BC f3<|BC f3<|BV f3 ix9<|BV f3 (fh 5 false true .u8 (((bX.g i0).toNat:Nat):Int) 45)<|VV (aR (a:=some (AV.bool true)) (b:=some (AV.bool (decide ((((bX.g i0).toNat:Nat):Int)=45)))) f3)<|CN 4<|BC f4<|BV f4 (fh 3 false true .i64 ((i0:Nat):Int) 0)<|BC f4<|BB f5<|BB f5<|BV f4 (nR true f5)<|VV (jA true false f4)<|TT<|CC<|ZZ) k!) (Grow.refl aL) k!
           · have yM:=of_decide_eq_false f5
             rcases Bool.eq_false_or_eq_true (!(decide ((((bX.g i0).toNat:Nat):Int)=45))) with f6 | f6
             · have RS:=AG f6
               exact aU.ret false (by simp only[bK,f1,f2,f3,f4,f5,f6,aj,ai]) (pk (d) _ _ hh _ hh (VV (bz 3 false false .i64 ((i0:Nat):Int) ((List.length bX:Nat):Int))<|BB q1<|CN 4<|VV nI<|VV (eN 5 false true .u8 (((bX.g i0).toNat:Nat):Int) 97)<|CC<|BC f1<|BC f1<|BV f1 xf<|BV f1 (gR 5 false true .u8 (((bX.g i0).toNat:Nat):Int) 122)<|VV (jA (decide ((((bX.g i0).toNat:Nat):Int)≤122)) false f1)<|CN 3<|VV Jo<|VV (eN 5 false true .u8 (((bX.g i0).toNat:Nat):Int) 48)<|CC<|BC f2<|BC f2<|BV f2 Dc<|BV f2 (gR 5 false true .u8 (((bX.g i0).toNat:Nat):Int) 57)<|VV (jA (decide ((((bX.g i0).toNat:Nat):Int)≤57)) false f2)<|CC<|BC f3<|BC f3<|BV f3 ix9<|BV f3 (fh 5 false true .u8 (((bX.g i0).toNat:Nat):Int) 45)<|VV (aR (a:=some (AV.bool true)) (b:=some (AV.bool (decide ((((bX.g i0).toNat:Nat):Int)=45)))) f3)<|CN 4<|BC f4<|BV f4 (fh 3 false true .i64 ((i0:Nat):Int) 0)<|BC f4<|BC f5<|BC f5<|BV f4 (aR (a:=some (AV.bool true)) (b:=some (AV.bool (!(decide ((((bX.g i0).toNat:Nat):Int)=45))))) f5)<|VV (jA (!(decide ((((bX.g i0).toNat:Nat):Int)=45))) false f4)<|BC f6<|ZZ) k!) (Grow.refl aL) k!
             · have RS:=AH f6
               have V5:=eR 3 false true i0 1 o!
               exact aU.round (by simp only[bK,f1,f2,f3,f4,f5,f6,aj,ai]) (pk (d) _ _ hh _ hh (VV (bz 3 false false .i64 ((i0:Nat):Int) ((List.length bX:Nat):Int))<|BB q1<|CN 4<|VV nI<|VV (eN 5 false true .u8 (((bX.g i0).toNat:Nat):Int) 97)<|CC<|BC f1<|BC f1<|BV f1 xf<|BV f1 (gR 5 false true .u8 (((bX.g i0).toNat:Nat):Int) 122)<|VV (jA (decide ((((bX.g i0).toNat:Nat):Int)≤122)) false f1)<|CN 3<|VV Jo<|VV (eN 5 false true .u8 (((bX.g i0).toNat:Nat):Int) 48)<|CC<|BC f2<|BC f2<|BV f2 Dc<|BV f2 (gR 5 false true .u8 (((bX.g i0).toNat:Nat):Int) 57)<|VV (jA (decide ((((bX.g i0).toNat:Nat):Int)≤57)) false f2)<|CC<|BC f3<|BC f3<|BV f3 ix9<|BV f3 (fh 5 false true .u8 (((bX.g i0).toNat:Nat):Int) 45)<|VV (aR (a:=some (AV.bool true)) (b:=some (AV.bool (decide ((((bX.g i0).toNat:Nat):Int)=45)))) f3)<|CN 4<|BC f4<|BV f4 (fh 3 false true .i64 ((i0:Nat):Int) 0)<|BC f4<|BC f5<|BC f5<|BV f4 (aR (a:=some (AV.bool true)) (b:=some (AV.bool (!(decide ((((bX.g i0).toNat:Nat):Int)=45))))) f5)<|VV (jA (!(decide ((((bX.g i0).toNat:Nat):Int)=45))) false f4)<|BV f6 V5<|CC<|ZZ) k!) (Grow.refl aL) _ k! (fun x=>d_ bX bI dS (i0+1) o! x hh aL aX)
         · have l8:=AH f4
           have Hj:=eR 3 false true i0 1 o!
           exact aU.round (by simp only[bK,f1,f2,f3,f4,aj,ai]) (pk (d) _ _ hh _ hh (VV (bz 3 false false .i64 ((i0:Nat):Int) ((List.length bX:Nat):Int))<|BB q1<|CN 4<|VV nI<|VV (eN 5 false true .u8 (((bX.g i0).toNat:Nat):Int) 97)<|CC<|BC f1<|BC f1<|BV f1 xf<|BV f1 (gR 5 false true .u8 (((bX.g i0).toNat:Nat):Int) 122)<|VV (jA (decide ((((bX.g i0).toNat:Nat):Int)≤122)) false f1)<|CN 3<|VV Jo<|VV (eN 5 false true .u8 (((bX.g i0).toNat:Nat):Int) 48)<|CC<|BC f2<|BC f2<|BV f2 Dc<|BV f2 (gR 5 false true .u8 (((bX.g i0).toNat:Nat):Int) 57)<|VV (jA (decide ((((bX.g i0).toNat:Nat):Int)≤57)) false f2)<|CC<|BC f3<|BC f3<|BV f3 ix9<|BV f3 (fh 5 false true .u8 (((bX.g i0).toNat:Nat):Int) 45)<|VV (aR (a:=some (AV.bool true)) (b:=some (AV.bool (decide ((((bX.g i0).toNat:Nat):Int)=45)))) f3)<|CN 4<|BB f4<|BB f4<|BB f4<|BV f4 (pN false f4)<|FF<|VV Hj<|CC<|ZZ) k!) (Grow.refl aL) _ k! (fun x=>d_ bX bI dS (i0+1) o! x hh aL aX)
     · have pO:=of_decide_eq_false f2
       have Dc:qZ env (some .string) (some (AV.str bX)) (some (Zn i0))=some (AV.int .u8 (((bX.g i0).toNat:Nat):Int)):=j_ (j:=i0) o!
       rcases Bool.eq_false_or_eq_true (!(decide ((((bX.g i0).toNat:Nat):Int)≤122))) with f3 | f3
       · have l7:=AG f3
         rcases Bool.eq_false_or_eq_true (decide (((i0:Nat):Int)=0)) with f4 | f4
         · have l8:=of_decide_eq_true f4
           exact aU.ret false (by simp only[bK,f1,f2,f3,f4,aj,ai]) (pk (d) _ _ hh _ hh (VV (bz 3 false false .i64 ((i0:Nat):Int) ((List.length bX:Nat):Int))<|BB q1<|CN 4<|VV nI<|VV (eN 5 false true .u8 (((bX.g i0).toNat:Nat):Int) 97)<|CC<|BC f1<|BC f1<|BV f1 xf<|BV f1 (gR 5 false true .u8 (((bX.g i0).toNat:Nat):Int) 122)<|VV (jA (decide ((((bX.g i0).toNat:Nat):Int)≤122)) false f1)<|CN 3<|VV Jo<|VV (eN 5 false true .u8 (((bX.g i0).toNat:Nat):Int) 48)<|CC<|BB f2<|BB f2<|BB f2<|BV f2 (pN false f2)<|CC<|FF<|CC<|FF<|CC<|FF<|VV Dc<|FF<|VV (fh 5 false true .u8 (((bX.g i0).toNat:Nat):Int) 45)<|CN 5<|BC f3<|BV f3 (fh 3 false true .i64 ((i0:Nat):Int) 0)<|BC f3<|BB f4<|BB f4<|BV f3 (nR true f4)<|VV (jA true false f3)<|TT<|CC<|ZZ) k!) (Grow.refl aL) k!
         · have l8:=of_decide_eq_false f4
           rcases Bool.eq_false_or_eq_true (!(decide ((((bX.g i0).toNat:Nat):Int)=45))) with f5 | f5
           · have yM:=AG f5
             exact aU.ret false (by simp only[bK,f1,f2,f3,f4,f5,aj,ai]) (pk (d) _ _ hh _ hh (VV (bz 3 false false .i64 ((i0:Nat):Int) ((List.length bX:Nat):Int))<|BB q1<|CN 4<|VV nI<|VV (eN 5 false true .u8 (((bX.g i0).toNat:Nat):Int) 97)<|CC<|BC f1<|BC f1<|BV f1 xf<|BV f1 (gR 5 false true .u8 (((bX.g i0).toNat:Nat):Int) 122)<|VV (jA (decide ((((bX.g i0).toNat:Nat):Int)≤122)) false f1)<|CN 3<|VV Jo<|VV (eN 5 false true .u8 (((bX.g i0).toNat:Nat):Int) 48)<|CC<|BB f2<|BB f2<|BB f2<|BV f2 (pN false f2)<|CC<|FF<|CC<|FF<|CC<|FF<|VV Dc<|FF<|VV (fh 5 false true .u8 (((bX.g i0).toNat:Nat):Int) 45)<|CN 5<|BC f3<|BV f3 (fh 3 false true .i64 ((i0:Nat):Int) 0)<|BC f3<|BC f4<|BC f4<|BV f3 (aR (a:=some (AV.bool true)) (b:=some (AV.bool (!(decide ((((bX.g i0).toNat:Nat):Int)=45))))) f4)<|VV (jA (!(decide ((((bX.g i0).toNat:Nat):Int)=45))) false f3)<|BC f5<|ZZ) k!) (Grow.refl aL) k!
           · have yM:=AH f5
             have Hj:=eR 3 false true i0 1 o!
             exact aU.round (by simp only[bK,f1,f2,f3,f4,f5,aj,ai]) (pk (d) _ _ hh _ hh (VV (bz 3 false false .i64 ((i0:Nat):Int) ((List.length bX:Nat):Int))<|BB q1<|CN 4<|VV nI<|VV (eN 5 false true .u8 (((bX.g i0).toNat:Nat):Int) 97)<|CC<|BC f1<|BC f1<|BV f1 xf<|BV f1 (gR 5 false true .u8 (((bX.g i0).toNat:Nat):Int) 122)<|VV (jA (decide ((((bX.g i0).toNat:Nat):Int)≤122)) false f1)<|CN 3<|VV Jo<|VV (eN 5 false true .u8 (((bX.g i0).toNat:Nat):Int) 48)<|CC<|BB f2<|BB f2<|BB f2<|BV f2 (pN false f2)<|CC<|FF<|CC<|FF<|CC<|FF<|VV Dc<|FF<|VV (fh 5 false true .u8 (((bX.g i0).toNat:Nat):Int) 45)<|CN 5<|BC f3<|BV f3 (fh 3 false true .i64 ((i0:Nat):Int) 0)<|BC f3<|BC f4<|BC f4<|BV f3 (aR (a:=some (AV.bool true)) (b:=some (AV.bool (!(decide ((((bX.g i0).toNat:Nat):Int)=45))))) f4)<|VV (jA (!(decide ((((bX.g i0).toNat:Nat):Int)=45))) false f3)<|BV f5 Hj<|CC<|ZZ) k!) (Grow.refl aL) _ k! (fun x=>d_ bX bI dS (i0+1) o! x hh aL aX)
       · have l7:=AH f3
         have u9:=eR 3 false true i0 1 o!
         exact aU.round (by simp only[bK,f1,f2,f3,aj,ai]) (pk (d) _ _ hh _ hh (VV (bz 3 false false .i64 ((i0:Nat):Int) ((List.length bX:Nat):Int))<|BB q1<|CN 4<|VV nI<|VV (eN 5 false true .u8 (((bX.g i0).toNat:Nat):Int) 97)<|CC<|BC f1<|BC f1<|BV f1 xf<|BV f1 (gR 5 false true .u8 (((bX.g i0).toNat:Nat):Int) 122)<|VV (jA (decide ((((bX.g i0).toNat:Nat):Int)≤122)) false f1)<|CN 3<|VV Jo<|VV (eN 5 false true .u8 (((bX.g i0).toNat:Nat):Int) 48)<|CC<|BB f2<|BB f2<|BB f2<|BV f2 (pN false f2)<|CC<|FF<|CC<|FF<|CC<|FF<|VV Dc<|FF<|VV (fh 5 false true .u8 (((bX.g i0).toNat:Nat):Int) 45)<|CN 5<|BB f3<|BB f3<|BB f3<|BV f3 (pN false f3)<|FF<|VV u9<|CC<|ZZ) k!) (Grow.refl aL) _ k! (fun x=>d_ bX bI dS (i0+1) o! x hh aL aX)
   · have iK:=of_decide_eq_false f1
     have xf:qZ env (some .string) (some (AV.str bX)) (some (Zn i0))=some (AV.int .u8 (((bX.g i0).toNat:Nat):Int)):=j_ (j:=i0) o!
     rcases Bool.eq_false_or_eq_true (decide (48≤(((bX.g i0).toNat:Nat):Int))) with f2 | f2
     · have pO:=of_decide_eq_true f2
       have D6:qZ env (some .string) (some (AV.str bX)) (some (Zn i0))=some (AV.int .u8 (((bX.g i0).toNat:Nat):Int)):=j_ (j:=i0) o!
       rcases Bool.eq_false_or_eq_true (decide ((((bX.g i0).toNat:Nat):Int)≤57)) with f3 | f3
       · have l7:=of_decide_eq_true f3
         rcases Bool.eq_false_or_eq_true (decide (((i0:Nat):Int)=0)) with f4 | f4
         · have l8:=of_decide_eq_true f4
           exact aU.ret false (by simp only[bK,f1,f2,f3,f4,aj,ai]) (pk (d) _ _ hh _ hh (VV (bz 3 false false .i64 ((i0:Nat):Int) ((List.length bX:Nat):Int))<|BB q1<|CN 4<|VV nI<|VV (eN 5 false true .u8 (((bX.g i0).toNat:Nat):Int) 97)<|CC<|BB f1<|BB f1<|BB f1<|BV f1 (pN false f1)<|CN 3<|VV xf<|VV (eN 5 false true .u8 (((bX.g i0).toNat:Nat):Int) 48)<|CC<|BC f2<|BC f2<|BV f2 D6<|BV f2 (gR 5 false true .u8 (((bX.g i0).toNat:Nat):Int) 57)<|VV (jA (decide ((((bX.g i0).toNat:Nat):Int)≤57)) false f2)<|CC<|BB f3<|BB f3<|BB f3<|BV f3 (nR true f3)<|CN 4<|TT<|CC<|TT<|VV (fh 3 false true .i64 ((i0:Nat):Int) 0)<|TT<|CC<|BB f4<|BB f4<|TT<|VV (nR true f4)<|CC<|TT<|CC<|ZZ) k!) (Grow.refl aL) k!
         · have l8:=of_decide_eq_false f4
           have u9:=eR 3 false true i0 1 o!
           exact aU.round (by simp only[bK,f1,f2,f3,f4,aj,ai]) (pk (d) _ _ hh _ hh (VV (bz 3 false false .i64 ((i0:Nat):Int) ((List.length bX:Nat):Int))<|BB q1<|CN 4<|VV nI<|VV (eN 5 false true .u8 (((bX.g i0).toNat:Nat):Int) 97)<|CC<|BB f1<|BB f1<|BB f1<|BV f1 (pN false f1)<|CN 3<|VV xf<|VV (eN 5 false true .u8 (((bX.g i0).toNat:Nat):Int) 48)<|CC<|BC f2<|BC f2<|BV f2 D6<|BV f2 (gR 5 false true .u8 (((bX.g i0).toNat:Nat):Int) 57)<|VV (jA (decide ((((bX.g i0).toNat:Nat):Int)≤57)) false f2)<|CC<|BB f3<|BB f3<|BB f3<|BV f3 (nR true f3)<|CN 4<|TT<|CC<|TT<|VV (fh 3 false true .i64 ((i0:Nat):Int) 0)<|TT<|CC<|BC f4<|BC f4<|TT<|VV (Xu true false f4)<|CC<|FF<|VV u9<|CC<|ZZ) k!) (Grow.refl aL) _ k! (fun x=>d_ bX bI dS (i0+1) o! x hh aL aX)
       · have l7:=of_decide_eq_false f3
         have MX:qZ env (some .string) (some (AV.str bX)) (some (Zn i0))=some (AV.int .u8 (((bX.g i0).toNat:Nat):Int)):=j_ (j:=i0) o!
         rcases Bool.eq_false_or_eq_true (decide (((i0:Nat):Int)=0)) with f4 | f4
         · have l8:=of_decide_eq_true f4
           exact aU.ret false (by simp only[bK,f1,f2,f3,f4,aj,ai]) (pk (d) _ _ hh _ hh (VV (bz 3 false false .i64 ((i0:Nat):Int) ((List.length bX:Nat):Int))<|BB q1<|CN 4<|VV nI<|VV (eN 5 false true .u8 (((bX.g i0).toNat:Nat):Int) 97)<|CC<|BB f1<|BB f1<|BB f1<|BV f1 (pN false f1)<|CN 3<|VV xf<|VV (eN 5 false true .u8 (((bX.g i0).toNat:Nat):Int) 48)<|CC<|BC f2<|BC f2<|BV f2 D6<|BV f2 (gR 5 false true .u8 (((bX.g i0).toNat:Nat):Int) 57)<|VV (jA (decide ((((bX.g i0).toNat:Nat):Int)≤57)) false f2)<|CC<|BC f3<|BC f3<|BV f3 MX<|BV f3 (fh 5 false true .u8 (((bX.g i0).toNat:Nat):Int) 45)<|VV (aR (a:=some (AV.bool true)) (b:=some (AV.bool (decide ((((bX.g i0).toNat:Nat):Int)=45)))) f3)<|CN 4<|TT<|CC<|TT<|VV (fh 3 false true .i64 ((i0:Nat):Int) 0)<|TT<|CC<|BB f4<|BB f4<|TT<|VV (nR true f4)<|CC<|TT<|CC<|ZZ) k!) (Grow.refl aL) k!
         · have l8:=of_decide_eq_false f4
           rcases Bool.eq_false_or_eq_true (!(decide ((((bX.g i0).toNat:Nat):Int)=45))) with f5 | f5
           · have yM:=AG f5
             exact aU.ret false (by simp only[bK,f1,f2,f3,f4,f5,aj,ai]) (pk (d) _ _ hh _ hh (VV (bz 3 false false .i64 ((i0:Nat):Int) ((List.length bX:Nat):Int))<|BB q1<|CN 4<|VV nI<|VV (eN 5 false true .u8 (((bX.g i0).toNat:Nat):Int) 97)<|CC<|BB f1<|BB f1<|BB f1<|BV f1 (pN false f1)<|CN 3<|VV xf<|VV (eN 5 false true .u8 (((bX.g i0).toNat:Nat):Int) 48)<|CC<|BC f2<|BC f2<|BV f2 D6<|BV f2 (gR 5 false true .u8 (((bX.g i0).toNat:Nat):Int) 57)<|VV (jA (decide ((((bX.g i0).toNat:Nat):Int)≤57)) false f2)<|CC<|BC f3<|BC f3<|BV f3 MX<|BV f3 (fh 5 false true .u8 (((bX.g i0).toNat:Nat):Int) 45)<|VV (aR (a:=some (AV.bool true)) (b:=some (AV.bool (decide ((((bX.g i0).toNat:Nat):Int)=45)))) f3)<|CN 4<|TT<|CC<|TT<|VV (fh 3 false true .i64 ((i0:Nat):Int) 0)<|TT<|CC<|BC f4<|BC f4<|TT<|VV (aR (a:=some (AV.bool true)) (b:=some (AV.bool (!(decide ((((bX.g i0).toNat:Nat):Int)=45))))) f4)<|CC<|BC f5<|ZZ) k!) (Grow.refl aL) k!
           · have yM:=AH f5
             have Hj:=eR 3 false true i0 1 o!
             exact aU.round (by simp only[bK,f1,f2,f3,f4,f5,aj,ai]) (pk (d) _ _ hh _ hh (VV (bz 3 false false .i64 ((i0:Nat):Int) ((List.length bX:Nat):Int))<|BB q1<|CN 4<|VV nI<|VV (eN 5 false true .u8 (((bX.g i0).toNat:Nat):Int) 97)<|CC<|BB f1<|BB f1<|BB f1<|BV f1 (pN false f1)<|CN 3<|VV xf<|VV (eN 5 false true .u8 (((bX.g i0).toNat:Nat):Int) 48)<|CC<|BC f2<|BC f2<|BV f2 D6<|BV f2 (gR 5 false true .u8 (((bX.g i0).toNat:Nat):Int) 57)<|VV (jA (decide ((((bX.g i0).toNat:Nat):Int)≤57)) false f2)<|CC<|BC f3<|BC f3<|BV f3 MX<|BV f3 (fh 5 false true .u8 (((bX.g i0).toNat:Nat):Int) 45)<|VV (aR (a:=some (AV.bool true)) (b:=some (AV.bool (decide ((((bX.g i0).toNat:Nat):Int)=45)))) f3)<|CN 4<|TT<|CC<|TT<|VV (fh 3 false true .i64 ((i0:Nat):Int) 0)<|TT<|CC<|BC f4<|BC f4<|TT<|VV (aR (a:=some (AV.bool true)) (b:=some (AV.bool (!(decide ((((bX.g i0).toNat:Nat):Int)=45))))) f4)<|CC<|BV f5 Hj<|CC<|ZZ) k!) (Grow.refl aL) _ k! (fun x=>d_ bX bI dS (i0+1) o! x hh aL aX)
     · have pO:=of_decide_eq_false f2
       have D6:qZ env (some .string) (some (AV.str bX)) (some (Zn i0))=some (AV.int .u8 (((bX.g i0).toNat:Nat):Int)):=j_ (j:=i0) o!
       rcases Bool.eq_false_or_eq_true (decide (((i0:Nat):Int)=0)) with f3 | f3
       · have l7:=of_decide_eq_true f3
         exact aU.ret false (by simp only[bK,f1,f2,f3,aj,ai]) (pk (d) _ _ hh _ hh (VV (bz 3 false false .i64 ((i0:Nat):Int) ((List.length bX:Nat):Int))<|BB q1<|CN 4<|VV nI<|VV (eN 5 false true .u8 (((bX.g i0).toNat:Nat):Int) 97)<|CC<|BB f1<|BB f1<|BB f1<|BV f1 (pN false f1)<|CN 3<|VV xf<|VV (eN 5 false true .u8 (((bX.g i0).toNat:Nat):Int) 48)<|CC<|BB f2<|BB f2<|BB f2<|BV f2 (pN false f2)<|CC<|FF<|CC<|FF<|CC<|FF<|VV D6<|FF<|VV (fh 5 false true .u8 (((bX.g i0).toNat:Nat):Int) 45)<|CN 5<|TT<|CC<|TT<|VV (fh 3 false true .i64 ((i0:Nat):Int) 0)<|TT<|CC<|BB f3<|BB f3<|TT<|VV (nR true f3)<|CC<|TT<|CC<|ZZ) k!) (Grow.refl aL) k!
       · have l7:=of_decide_eq_false f3
         rcases Bool.eq_false_or_eq_true (!(decide ((((bX.g i0).toNat:Nat):Int)=45))) with f4 | f4
         · have l8:=AG f4
           exact aU.ret false (by simp only[bK,f1,f2,f3,f4,aj,ai]) (pk (d) _ _ hh _ hh (VV (bz 3 false false .i64 ((i0:Nat):Int) ((List.length bX:Nat):Int))<|BB q1<|CN 4<|VV nI<|VV (eN 5 false true .u8 (((bX.g i0).toNat:Nat):Int) 97)<|CC<|BB f1<|BB f1<|BB f1<|BV f1 (pN false f1)<|CN 3<|VV xf<|VV (eN 5 false true .u8 (((bX.g i0).toNat:Nat):Int) 48)<|CC<|BB f2<|BB f2<|BB f2<|BV f2 (pN false f2)<|CC<|FF<|CC<|FF<|CC<|FF<|VV D6<|FF<|VV (fh 5 false true .u8 (((bX.g i0).toNat:Nat):Int) 45)<|CN 5<|TT<|CC<|TT<|VV (fh 3 false true .i64 ((i0:Nat):Int) 0)<|TT<|CC<|BC f3<|BC f3<|TT<|VV (aR (a:=some (AV.bool true)) (b:=some (AV.bool (!(decide ((((bX.g i0).toNat:Nat):Int)=45))))) f3)<|CC<|BC f4<|ZZ) k!) (Grow.refl aL) k!
         · have l8:=AH f4
           have u9:=eR 3 false true i0 1 o!
           exact aU.round (by simp only[bK,f1,f2,f3,f4,aj,ai]) (pk (d) _ _ hh _ hh (VV (bz 3 false false .i64 ((i0:Nat):Int) ((List.length bX:Nat):Int))<|BB q1<|CN 4<|VV nI<|VV (eN 5 false true .u8 (((bX.g i0).toNat:Nat):Int) 97)<|CC<|BB f1<|BB f1<|BB f1<|BV f1 (pN false f1)<|CN 3<|VV xf<|VV (eN 5 false true .u8 (((bX.g i0).toNat:Nat):Int) 48)<|CC<|BB f2<|BB f2<|BB f2<|BV f2 (pN false f2)<|CC<|FF<|CC<|FF<|CC<|FF<|VV D6<|FF<|VV (fh 5 false true .u8 (((bX.g i0).toNat:Nat):Int) 45)<|CN 5<|TT<|CC<|TT<|VV (fh 3 false true .i64 ((i0:Nat):Int) 0)<|TT<|CC<|BC f3<|BC f3<|TT<|VV (aR (a:=some (AV.bool true)) (b:=some (AV.bool (!(decide ((((bX.g i0).toNat:Nat):Int)=45))))) f3)<|CC<|BV f4 u9<|CC<|ZZ) k!) (Grow.refl aL) _ k! (fun x=>d_ bX bI dS (i0+1) o! x hh aL aX)
def gJ (bX:List UInt8):Bool:=(bif (decide (bX=[])) then false else (bif (decide (16<((List.length bX:Nat):Int))) then false else (match (bK bX (List.length bX) 0) with | none=>true | some F3=>F3)))
theorem Ce {d:Nat} {h:aw} (bX:List UInt8) (Le:bX.length<2^60) (bH:Tidy h):cJ (d+1) (.fn 51) [(AV.str bX)] h= .ret (AV.bool (gJ bX)) h:=by
 rcases Bool.eq_false_or_eq_true (decide (bX=[])) with f0 | f0
 · have ir:=of_decide_eq_true f0
   have e:gJ bX=false:=by simp only[gJ,f0,aj,ai]
   rw[e]
   exact az rfl (a_ Try.func51 ry rfl (.inr rfl) (pk (d) _ _ h _ h (CN 2<|VV (IL 9 false true bX [])<|CC<|BB f0<|BB f0<|BV f0 (nR true f0)<|TT<|CC<|ZZ) k!) k!) (Has.refl _) rfl
 · have ir:=of_decide_eq_false f0
   have sn2:bX.length<2^60:=Le
   rcases Bool.eq_false_or_eq_true (decide (16<((List.length bX:Nat):Int))) with f1 | f1
   · have iK:=of_decide_eq_true f1
     have e:gJ bX=false:=by simp only[gJ,f0,f1,aj,ai]
     rw[e]
     exact az rfl (a_ Try.func51 ry rfl (.inr rfl) (pk (d) _ _ h _ h (CN 2<|VV (IL 9 false true bX [])<|CC<|BC f0<|BC f0<|BV f0 (bW 3 false true .i64 ((List.length bX:Nat):Int) 16)<|VV (aR (a:=some (AV.bool true)) (b:=some (AV.bool (decide (16<((List.length bX:Nat):Int))))) f0)<|BC f1<|ZZ) k!) k!) (Has.refl _) rfl
   · have iK:=of_decide_eq_false f1
     cases fV:bK bX (List.length bX) 0 with
     | none=>
       obtain ⟨Pr,h5,fO,iu⟩:=aU.n fV (d_ (d:=d) (h:=h) bX Le (List.length bX) 0 o! (fun k_=>(((AV.str bX)::AV.undef::(AV.bool false)::AV.undef::AV.undef::AV.undef::(AV.str bX)::(AV.bool (decide (bX=[])))::(AV.bool (decide (bX=[])))::(AV.str bX)::(Zn (List.length bX))::(AV.bool (decide (16<((List.length bX:Nat):Int))))::(AV.bool (decide (16<((List.length bX:Nat):Int))))::(AV.str bX)::(Zn (List.length bX))::(Zi 0)::jl 39):List AV).getD k_ AV.undef) h bH (Has.refl _))
       have jJ:=iu.y
       have vD:h.nx≤h5.nx:=iu.n
       have iP:Has h h5:=iu.a
       have e:gJ bX=true:=by simp only[gJ,f0,f1,fV,aj,ai]
       rw[e]
       exact az rfl (a_ Try.func51 ry rfl (.inr rfl) (pk (d) _ _ h _ h5 (CN 2<|VV (IL 9 false true bX [])<|CC<|BC f0<|BC f0<|BV f0 (bW 3 false true .i64 ((List.length bX:Nat):Int) 16)<|VV (aR (a:=some (AV.bool true)) (b:=some (AV.bool (decide (16<((List.length bX:Nat):Int))))) f0)<|BB f1<|CN 3<|LL fO<|CC<|ZZ) k!) k!) iP rfl
     | some F3=>
       obtain ⟨Pr,h5,fO,iu⟩:=aU.r fV (d_ (d:=d) (h:=h) bX Le (List.length bX) 0 o! (fun k_=>(((AV.str bX)::AV.undef::(AV.bool false)::AV.undef::AV.undef::AV.undef::(AV.str bX)::(AV.bool (decide (bX=[])))::(AV.bool (decide (bX=[])))::(AV.str bX)::(Zn (List.length bX))::(AV.bool (decide (16<((List.length bX:Nat):Int))))::(AV.bool (decide (16<((List.length bX:Nat):Int))))::(AV.str bX)::(Zn (List.length bX))::(Zi 0)::jl 39):List AV).getD k_ AV.undef) h bH (Has.refl _))
       have jJ:=iu.y
       have vD:h.nx≤h5.nx:=iu.n
       have iP:Has h h5:=iu.a
       have e:gJ bX=F3:=by simp only[gJ,f0,f1,fV,aj,ai]
       rw[e]
       exact az rfl (a_ Try.func51 ry rfl (.inr rfl) (pk (d) _ _ h _ h5 (CN 2<|VV (IL 9 false true bX [])<|CC<|BC f0<|BC f0<|BV f0 (bW 3 false true .i64 ((List.length bX:Nat):Int) 16)<|VV (aR (a:=some (AV.bool true)) (b:=some (AV.bool (decide (16<((List.length bX:Nat):Int))))) f0)<|BB f1<|CN 3<|LL fO<|ZZ) k!) k!) iP rfl
def xp:Code:=(Try.f57.body).getD .skip
theorem mj:Try.f57.body=some xp:=by kernel_rfl
def dA (se:List bY) (g:bY):Int:=(bif (!(gJ g.name)) then 5 else (bif (fb se (fun y=>iv y g)) then 6 else (bif (!(hQ g)) then 1 else 0)))
theorem Cf {d:Nat} {h:aw} {tp:AV} (se:List bY) (g:bY) (nW:aQ h tp se) (Zh:aA.ok h g) (bH:Tidy h):cJ (d+6) (.fn 57) [tp,(AV.agg [(AV.str g.name),(Zi g.acc),(Zi g.bR),(Zi g.since)])] h= .ret (Zi (dA se g)) h:=by
 have Ei:=nW.small
 obtain ⟨h1,bD,bN,fX,aH,bZ⟩:=gu bH (aY.cells [(AV.str g.name),(Zi g.acc),(Zi g.bR),(Zi g.since)] 63 false)
 have bk:Has h h1:=bZ
 have k2:=Ce (d:=d+4) g.name Zh bN
 rcases Bool.eq_false_or_eq_true (!(gJ g.name)) with f0 | f0
 · have e:dA se g=5:=by simp only[dA,f0,aj,ai]
   rw[e]
   exact az rfl (a_ Try.func57 mj rfl (.inr rfl) (pk (d+5) _ _ h _ h1 (NN bD (fun i=>(Pt i))<|CN 2<|MM (aB 9 0 (AV.str g.name) aH k!)<|EE k2<|CN 2<|BC f0<|ZZ) k!) k!) bk rfl
 · have k4:=xn (d:=d+3) se (fun y=>iv y g) (nW.has bk) (fun y hy hh yy aa=>Al (d:=d+2) y g h.nx (aA.mono aa ((nW.has bk).Pp y hy)) (aA.mono aa (aA.mono bk Zh)) (aa _ _ aH) yy) bN
   rcases Bool.eq_false_or_eq_true (fb se (fun y=>iv y g)) with f1 | f1
   · have e:dA se g=6:=by simp only[dA,f0,f1,aj,ai]
     rw[e]
     exact az rfl (a_ Try.func57 mj rfl (.inr rfl) (pk (d+5) _ _ h _ h1 (NN bD (fun i=>(Pt i))<|CN 2<|MM (aB 9 0 (AV.str g.name) aH k!)<|EE k2<|CN 2<|BB f0<|CN 2<|EE k4<|CC<|BC f1<|ZZ) k!) k!) bk rfl
   · have k6:=Jn (d:=d+2) g (aA.mono bk Zh) bN
     rcases Bool.eq_false_or_eq_true (!(hQ g)) with f2 | f2
     · have e:dA se g=1:=by simp only[dA,f0,f1,f2,aj,ai]
       rw[e]
       exact az rfl (a_ Try.func57 mj rfl (.inr rfl) (pk (d+5) _ _ h _ h1 (NN bD (fun i=>(Pt i))<|CN 2<|MM (aB 9 0 (AV.str g.name) aH k!)<|EE k2<|CN 2<|BB f0<|CN 2<|EE k4<|CC<|BM f1 (aB 63 0 (AV.agg [(AV.str g.name),(Zi g.acc),(Zi g.bR),(Zi g.since)]) aH k!)<|EE k6<|CN 2<|BC f2<|ZZ) k!) k!) bk rfl
     · have e:dA se g=0:=by simp only[dA,f0,f1,f2,aj,ai]
       rw[e]
       exact az rfl (a_ Try.func57 mj rfl (.inr rfl) (pk (d+5) _ _ h _ h1 (NN bD (fun i=>(Pt i))<|CN 2<|MM (aB 9 0 (AV.str g.name) aH k!)<|EE k2<|CN 2<|BB f0<|CN 2<|EE k4<|CC<|BM f1 (aB 63 0 (AV.agg [(AV.str g.name),(Zi g.acc),(Zi g.bR),(Zi g.since)]) aH k!)<|EE k6<|CN 2<|BC f2<|ZZ) k!) k!) bk rfl
def mB:Code:=(Try.f56.body).getD .skip
theorem lB:Try.f56.body=some mB:=by kernel_rfl
def tq:Code:=(ck mB).getD 0 .skip
def dv (P:Nat→Int) (du:List bY):Nat→Nat→Option (Int)
 | 0,_=>none
 | dS+1,i0=>(bif (!decide ((P i0)=0)) then some (P i0) else dv P du dS (i0+1))
theorem jw {d:Nat} {h:aw} (dJ:AV) (g:FuncId) (cap:List AV) (du:List bY) (P:Nat→Int) (bI:aQ h dJ du) (hP:∀j,j<du.length→∀aV hh,Tidy hh→Has h hh→aQ hh aV (du.take j)→cJ d (.fn g) (aV:: .agg (aA.c (du.g j))::cap) hh= .ret (.int .i64 (P j)) hh):∀(k_ i_:Nat) (_:i_+k_=du.length) (x:Nat→AV) (hh:aw) (aL:Tidy hh) (aX:Has h hh),aU (cJ (d)) tq ⟨(dJ::(x 1)::(AV.func g [] cap)::rx x 3 11 (dJ::(Zn du.length)::(Zn i_)::rx x 17 14 [])),hh,[],.no⟩ (.exit 0) hh (fun y=>(dJ::(y 1)::(AV.func g [] cap)::rx y 3 11 (dJ::(Zn du.length)::rx y 16 15 []))) (fun r y=>(dJ::(y 1)::(AV.func g [] cap)::rx y 3 3 ((Zi r)::rx y 7 7 (dJ::(Zn du.length)::rx y 16 15 [])))) (dv P du k_ i_)
 | 0,i0,jZ,x,hh,aL,aX=>by
   have fN:=bI.small
   have q1:(decide (((i0:Nat):Int)<((du.length:Nat):Int)))=false:=d!
   exact aU.out rfl (pk (d) _ _ hh _ hh (VV (bz 3 false false .i64 ((i0:Nat):Int) ((du.length:Nat):Int))<|BB q1<|ZZ) k!) (Grow.refl aL) k!
 | dS+1,i0,jZ,x,hh,aL,aX=>by
   have fN:=bI.small
   have q1:(decide (((i0:Nat):Int)<((du.length:Nat):Int)))=true:=d!
   obtain ⟨p3,q4,kO⟩:=(bI.has aX).elem (i:=i0) o!
   have nI:di env (some (.slice 63)) (some dJ) (some (Zn i0))=some (AV.ptr p3 q4):=kO
   have xh:bA env hh 63 (AV.ptr p3 q4)=some (AV.agg [(AV.str (du.g i0).name),(Zi (du.g i0).acc),(Zi (du.g i0).bR),(Zi (du.g i0).since)]):=(bI.has aX).load o! kO
   obtain ⟨h6,te,mf,Df,pR,jQ⟩:=gu aL (aY.cells [(AV.str []),(Zi 0),(Zi 0),(Zi 0)] 63 false)
   have mg:Has hh h6:=jQ
   obtain ⟨h7,pS,iR,Dd,kf,dN⟩:=pM (t:=63) (n:=4) (i:=hh.nx) (L:=[(AV.str (du.g i0).name),(Zi (du.g i0).acc),(Zi (du.g i0).bR),(Zi (du.g i0).since)]) mf pR k! rfl rfl (by simp only[AV.cells,List.all_cons,List.all_nil,Bool.and_true,Bool.and_self,eI,dt,eJ,eK,cI,gU,gV,gW,gX,gY,eL])
   have hI:Has hh h7:=Has.cm mg dN aL o!
   obtain ⟨r8,ZT,ZU⟩:=(bI.has aX).pre (t:=24) k! (i:=i0) o!
   have sl9:ij env 24 dJ (none) (some (Zn i0)) (none)=some r8:=ZT
   have BL:=hP i0 o! r8 h7 iR (aX.trans hI) (ZU.has hI)
   have IW:AV.same 20 (AV.agg [(AV.str (du.g i0).name),(Zi (du.g i0).acc),(Zi (du.g i0).bR),(Zi (du.g i0).since)]) (AV.agg [(AV.str (du.g i0).name),(Zi (du.g i0).acc),(Zi (du.g i0).bR),(Zi (du.g i0).since)])=true:=dx 18 (hD (fun n=>iJ n _) (hD (fun n=>aG n _ _) (hD (fun n=>aG n _ _) (hD (fun n=>aG n _ _) AF))))
   rcases Bool.eq_false_or_eq_true (!decide ((P i0)=0)) with f1 | f1
   · have iK:=AG f1
     exact aU.ret (P i0) (by simp only[dv,f1,aj,ai]) (pk (d) _ _ hh _ h7 (VV (bz 3 false false .i64 ((i0:Nat):Int) ((du.length:Nat):Int))<|BC q1<|VV nI<|MM xh<|NN te (fun i=>(Pt i))<|CC<|SS pS<|CN 3<|QQ sl9<|MM (aB 63 0 (AV.agg [(AV.str (du.g i0).name),(Zi (du.g i0).acc),(Zi (du.g i0).bR),(Zi (du.g i0).since)]) kf k!)<|EE BL<|CC<|HH (aB 63 0 (AV.agg [(AV.str (du.g i0).name),(Zi (du.g i0).acc),(Zi (du.g i0).bR),(Zi (du.g i0).since)]) kf k!)<|HH IW<|CC<|VV (eh 31 false true .i64 (P i0) 0)<|BB f1<|CN 2<|ZZ) k!) (⟨iR,hI,by omega⟩) k!
   · have iK:=AH f1
     have ZV:=eR 3 false true i0 1 o!
     exact aU.round (by simp only[dv,f1,aj,ai]) (pk (d) _ _ hh _ h7 (VV (bz 3 false false .i64 ((i0:Nat):Int) ((du.length:Nat):Int))<|BC q1<|VV nI<|MM xh<|NN te (fun i=>(Pt i))<|CC<|SS pS<|CN 3<|QQ sl9<|MM (aB 63 0 (AV.agg [(AV.str (du.g i0).name),(Zi (du.g i0).acc),(Zi (du.g i0).bR),(Zi (du.g i0).since)]) kf k!)<|EE BL<|CC<|HH (aB 63 0 (AV.agg [(AV.str (du.g i0).name),(Zi (du.g i0).acc),(Zi (du.g i0).bR),(Zi (du.g i0).since)]) kf k!)<|HH IW<|CC<|VV (eh 31 false true .i64 (P i0) 0)<|BV f1 ZV<|CC<|ZZ) k!) (⟨iR,hI,by omega⟩) _ k! (fun x=>jw dJ g cap du P bI hP dS (i0+1) o! x h7 iR (aX.trans hI))
def cZ (du:List bY) (fZ:Int) (P:Nat→Int):Int:=(bif (decide (fZ<((du.length:Nat):Int))) then 3 else (match (dv P du du.length 0) with | none=>0 | some F3=>F3))
theorem vO {d:Nat} {h:aw} {dJ:AV} {g:FuncId} {cap:List AV} (du:List bY) (fZ:Int) (P:Nat→Int) (oZ:aQ h dJ du) (hP:∀j,j<du.length→∀aV hh,Tidy hh→Has h hh→aQ hh aV (du.take j)→cJ d (.fn g) (aV:: .agg (aA.c (du.g j))::cap) hh= .ret (.int .i64 (P j)) hh) (bH:Tidy h):cJ (d+1) (.fn 56) [dJ,(Zi fZ),(AV.func g [] cap)] h= .ret (Zi (cZ du fZ P)) h:=by
 have Sx:=oZ.small
 have ie:dw (some (.slice 63)) (some dJ)=some (Zn du.length):=oZ.len
 rcases Bool.eq_false_or_eq_true (decide (fZ<((du.length:Nat):Int))) with f0 | f0
 · have ir:=of_decide_eq_true f0
   have e:cZ du fZ P=3:=by simp only[cZ,f0,aj,ai]
   rw[e]
   exact az rfl (a_ Try.func56 lB rfl (.inr rfl) (pk (d) _ _ h _ h (CN 2<|VV ie<|CC<|VV (bW 3 false false .i64 ((du.length:Nat):Int) fZ)<|BC f0<|ZZ) k!) k!) (Has.refl _) rfl
 · have ir:=of_decide_eq_false f0
   have Uq:dw (some (.slice 63)) (some dJ)=some (Zn du.length):=oZ.len
   cases fV:dv P du du.length 0 with
   | none=>
     obtain ⟨Pr,h5,fO,iu⟩:=aU.n fV (jw (d:=d) (h:=h) dJ g cap du P oZ hP du.length 0 o! (fun k_=>((dJ::(Zi fZ)::(AV.func g [] cap)::AV.undef::AV.undef::AV.undef::(Zi 0)::AV.undef::AV.undef::AV.undef::dJ::(Zn du.length)::(Zi fZ)::(AV.bool (decide (fZ<((du.length:Nat):Int))))::dJ::(Zn du.length)::(Zi 0)::jl 14):List AV).getD k_ AV.undef) h bH (Has.refl _))
     have jJ:=iu.y
     have vD:h.nx≤h5.nx:=iu.n
     have iP:Has h h5:=iu.a
     have e:cZ du fZ P=0:=by simp only[cZ,f0,fV,aj,ai]
     rw[e]
     exact az rfl (a_ Try.func56 lB rfl (.inr rfl) (pk (d) _ _ h _ h5 (CN 2<|VV ie<|CC<|VV (bW 3 false false .i64 ((du.length:Nat):Int) fZ)<|BC f0<|VV Uq<|CC<|LL fO<|CC<|ZZ) k!) k!) iP rfl
   | some F3=>
     obtain ⟨Pr,h5,fO,iu⟩:=aU.r fV (jw (d:=d) (h:=h) dJ g cap du P oZ hP du.length 0 o! (fun k_=>((dJ::(Zi fZ)::(AV.func g [] cap)::AV.undef::AV.undef::AV.undef::(Zi 0)::AV.undef::AV.undef::AV.undef::dJ::(Zn du.length)::(Zi fZ)::(AV.bool (decide (fZ<((du.length:Nat):Int))))::dJ::(Zn du.length)::(Zi 0)::jl 14):List AV).getD k_ AV.undef) h bH (Has.refl _))
     have jJ:=iu.y
     have vD:h.nx≤h5.nx:=iu.n
     have iP:Has h h5:=iu.a
     have e:cZ du fZ P=F3:=by simp only[cZ,f0,fV,aj,ai]
     rw[e]
     exact az rfl (a_ Try.func56 lB rfl (.inr rfl) (pk (d) _ _ h _ h5 (CN 2<|VV ie<|CC<|VV (bW 3 false false .i64 ((du.length:Nat):Int) fZ)<|BC f0<|VV Uq<|CC<|LL fO<|ZZ) k!) k!) iP rfl
def rZ:Code:=(Try.f53.body).getD .skip
theorem vP:Try.f53.body=some rZ:=by kernel_rfl
def dP (o:ay) (c:ay):Bool:=(decide (o.name=c.name))
theorem vQ {d:Nat} {h:aw} (o:ay) (c:ay) (cB:Nat) (h_o:aA.ok h o) (XK:aA.ok h c) (g_c:h.get cB=some (.cells (aA.c c) 26 false)) (bH:Tidy h):cJ (d+1) (.fn 53) [(AV.agg [(AV.str o.name),(Zi o.af),(Zi o.ab),(Zi o.aC),(Zi o.aD),(Zi o.bad),o.ao]),(Pt cB)] h= .ret (AV.bool (dP o c)) h:=by
 have ad3:=h_o.2.small
 have ad4:=XK.2.small
 obtain ⟨h1,bD,bN,fX,aH,bZ⟩:=gu bH (aY.cells [(AV.str o.name),(Zi o.af),(Zi o.ab),(Zi o.aC),(Zi o.aD),(Zi o.bad),o.ao] 26 false)
 have bk:Has h h1:=bZ
 have e:dP o c=(decide (o.name=c.name)):=by simp only[dP,aj,ai]
 rw[e]
 exact az rfl (a_ Try.func53 vP rfl (.inr rfl) (pk (d) _ _ h _ h1 (NN bD (fun i=>(Pt i))<|CN 2<|MM (aB 9 0 (AV.str o.name) aH k!)<|CC<|MM (aB 9 0 (AV.str c.name) (bZ _ _ g_c) k!)<|VV (IL 9 false false o.name c.name)<|CC<|ZZ) k!) k!) bk rfl
def nh:Code:=(Try.f72.body).getD .skip
theorem pC:Try.f72.body=some nh:=by kernel_rfl
def uD:Code:=(ck nh).getD 0 .skip
def dm (s:List ay) (P:ay→Bool):Nat→Nat→Option (Int)
 | 0,_=>none
 | dS+1,i0=>(bif (P (s.g i0)) then some ((i0:Nat):Int) else dm s P dS (i0+1))
theorem jT {d:Nat} {h:aw} (sV:AV) (g:FuncId) (cap:List AV) (s:List ay) (P:ay→Bool) (bI:aQ h sV s) (hP:∀y∈s,∀hh,Tidy hh→Has h hh→cJ d (.fn g) (.agg (aA.c y)::cap) hh= .ret (.bool (P y)) hh):∀(k_ i_:Nat) (_:i_+k_=s.length) (x:Nat→AV) (hh:aw) (aL:Tidy hh) (aX:Has h hh),aU (cJ (d)) uD ⟨(sV::(AV.func g [] cap)::rx x 2 5 ((Zn s.length)::(Zn i_)::rx x 9 10 [])),hh,[],.no⟩ (.exit 0) hh (fun y=>(sV::(AV.func g [] cap)::rx y 2 5 ((Zn s.length)::rx y 8 11 []))) (fun r y=>(sV::(AV.func g [] cap)::(y 2)::(y 3)::(Zi r)::(y 5)::(y 6)::(Zn s.length)::rx y 8 11 [])) (dm s P k_ i_)
 | 0,i0,jZ,x,hh,aL,aX=>by
   have fN:=bI.small
   have q1:(decide (((i0:Nat):Int)<((s.length:Nat):Int)))=false:=d!
   exact aU.out rfl (pk (d) _ _ hh _ hh (VV (bz 3 false false .i64 ((i0:Nat):Int) ((s.length:Nat):Int))<|BB q1<|ZZ) k!) (Grow.refl aL) k!
 | dS+1,i0,jZ,x,hh,aL,aX=>by
   have fN:=bI.small
   have q1:(decide (((i0:Nat):Int)<((s.length:Nat):Int)))=true:=d!
   obtain ⟨p3,q4,kO⟩:=(bI.has aX).elem (i:=i0) o!
   have nI:di env (some (.slice 26)) (some sV) (some (Zn i0))=some (AV.ptr p3 q4):=kO
   have xh:bA env hh 26 (AV.ptr p3 q4)=some (AV.agg [(AV.str (s.g i0).name),(Zi (s.g i0).af),(Zi (s.g i0).ab),(Zi (s.g i0).aC),(Zi (s.g i0).aD),(Zi (s.g i0).bad),(s.g i0).ao]):=(bI.has aX).load o! kO
   have k6:=hP (s.g i0) (oM o!) hh aL aX
   rcases Bool.eq_false_or_eq_true (P (s.g i0)) with f1 | f1
   · exact aU.ret ((i0:Nat):Int) (by simp only[dm,f1,aj,ai]) (pk (d) _ _ hh _ hh (VV (bz 3 false false .i64 ((i0:Nat):Int) ((s.length:Nat):Int))<|BB q1<|CN 5<|VV nI<|MM xh<|EE k6<|BB f1<|CN 2<|ZZ) k!) (Grow.refl aL) k!
   · have u8:=eR 3 false true i0 1 o!
     exact aU.round (by simp only[dm,f1,aj,ai]) (pk (d) _ _ hh _ hh (VV (bz 3 false false .i64 ((i0:Nat):Int) ((s.length:Nat):Int))<|BB q1<|CN 5<|VV nI<|MM xh<|EE k6<|BV f1 u8<|CC<|ZZ) k!) (Grow.refl aL) _ k! (fun x=>jT sV g cap s P bI hP dS (i0+1) o! x hh aL aX)
def et (s:List ay) (P:ay→Bool):Int:=(match (dm s P s.length 0) with | none=>(-1) | some K4=>K4)
theorem xq {d:Nat} {h:aw} {sV:AV} {g:FuncId} {cap:List AV} (s:List ay) (P:ay→Bool) (AI:aQ h sV s) (hP:∀y∈s,∀hh,Tidy hh→Has h hh→cJ d (.fn g) (.agg (aA.c y)::cap) hh= .ret (.bool (P y)) hh) (bH:Tidy h):cJ (d+1) (.fn 72) [sV,(AV.func g [] cap)] h= .ret (Zi (et s P)) h:=by
 have Nc:=AI.small
 have ie:dw (some (.slice 26)) (some sV)=some (Zn s.length):=AI.len
 cases jf:dm s P s.length 0 with
 | none=>
   obtain ⟨OH,h3,fi,lz⟩:=aU.n jf (jT (d:=d) (h:=h) sV g cap s P AI hP s.length 0 o! (fun k_=>((sV::(AV.func g [] cap)::AV.undef::AV.undef::(Zi 0)::AV.undef::sV::(Zn s.length)::(Zi 0)::jl 10):List AV).getD k_ AV.undef) h bH (Has.refl _))
   have eZ:=lz.y
   have qn:h.nx≤h3.nx:=lz.n
   have fu:Has h h3:=lz.a
   have e:et s P=(-1):=by simp only[et,jf,aj,ai]
   rw[e]
   exact az rfl (a_ Try.func72 pC rfl (.inr rfl) (pk (d) _ _ h _ h3 (CN 2<|VV ie<|CC<|LL fi<|CC<|ZZ) k!) k!) fu rfl
 | some K4=>
   obtain ⟨OH,h3,fi,lz⟩:=aU.r jf (jT (d:=d) (h:=h) sV g cap s P AI hP s.length 0 o! (fun k_=>((sV::(AV.func g [] cap)::AV.undef::AV.undef::(Zi 0)::AV.undef::sV::(Zn s.length)::(Zi 0)::jl 10):List AV).getD k_ AV.undef) h bH (Has.refl _))
   have eZ:=lz.y
   have qn:h.nx≤h3.nx:=lz.n
   have fu:Has h h3:=lz.a
   have e:et s P=K4:=by simp only[et,jf,aj,ai]
   rw[e]
   exact az rfl (a_ Try.func72 pC rfl (.inr rfl) (pk (d) _ _ h _ h3 (CN 2<|VV ie<|CC<|LL fi<|ZZ) k!) k!) fu rfl
def qv:Code:=(Try.f52.body).getD .skip
theorem tu:Try.f52.body=some qv:=by kernel_rfl
def cM (s:List ay) (P:ay→Bool):Bool:=(decide (0≤(et s P)))
theorem tv {d:Nat} {h:aw} {sV:AV} {g:FuncId} {cap:List AV} (s:List ay) (P:ay→Bool) (AI:aQ h sV s) (hP:∀y∈s,∀hh,Tidy hh→Has h hh→cJ d (.fn g) (.agg (aA.c y)::cap) hh= .ret (.bool (P y)) hh) (bH:Tidy h):cJ (d+2) (.fn 52) [sV,(AV.func g [] cap)] h= .ret (AV.bool (cM s P)) h:=by
 have Nc:=AI.small
 have k1:=xq (d:=d) s P AI hP bH
 have e:cM s P=(decide (0≤(et s P))):=by simp only[cM,aj,ai]
 rw[e]
 exact az rfl (a_ Try.func52 tu rfl (.inr rfl) (pk (d+1) _ _ h _ h (CN 3<|EE k1<|VV (eN 3 false true .i64 (et s P) 0)<|CC<|ZZ) k!) k!) (Has.refl _) rfl
def Cg:Code:=(Try.f54.body).getD .skip
theorem zN:Try.f54.body=some Cg:=by kernel_rfl
def hT (x_:Int):Bool:=(bif (decide ((-1000000000)≤x_)) then (decide (x_≤1000000000)) else false)
theorem tw {d:Nat} {h:aw} (x_:Int) (bH:Tidy h):cJ (d+1) (.fn 54) [(Zi x_)] h= .ret (AV.bool (hT x_)) h:=by
 rcases Bool.eq_false_or_eq_true (decide ((-1000000000)≤x_)) with f0 | f0
 · have ir:=of_decide_eq_true f0
   have e:hT x_=(decide (x_≤1000000000)):=by simp only[hT,f0,aj,ai]
   rw[e]
   exact az rfl (a_ Try.func54 zN rfl (.inr rfl) (pk (d) _ _ h _ h (CN 2<|VV (eN 3 false true .i64 x_ (-1000000000))<|CC<|BC f0<|BV f0 (gR 3 false true .i64 x_ 1000000000)<|VV (jA (decide (x_≤1000000000)) false f0)<|CC<|ZZ) k!) k!) (Has.refl _) rfl
 · have ir:=of_decide_eq_false f0
   have e:hT x_=false:=by simp only[hT,f0,aj,ai]
   rw[e]
   exact az rfl (a_ Try.func54 zN rfl (.inr rfl) (pk (d) _ _ h _ h (CN 2<|VV (eN 3 false true .i64 x_ (-1000000000))<|CC<|BB f0<|BV f0 (pN false f0)<|CC<|ZZ) k!) k!) (Has.refl _) rfl
def tx:Code:=(Try.f28.body).getD .skip
theorem dc:Try.f28.body=some tx:=by kernel_rfl
def aW (se:List ay) (q:ay):Int:=(bif (!(gJ q.name)) then 5 else (bif (cM se (fun y=>dP y q)) then 6 else (bif (!(hT q.af)) then 1 else (bif (!(hT q.ab)) then 1 else (bif (decide (q.ab<q.af)) then 1 else (bif (!(dZ q.aC 10000)) then 1 else (bif (!(dZ q.aD 10000)) then 1 else (bif (decide (8<((q.ar.length:Nat):Int))) then 3 else (bif (!(dZ q.bad ((q.ar.length:Nat):Int))) then 1 else (cZ q.ar 8 (fun jx=>dA (List.take jx q.ar) (List.g q.ar jx))))))))))))
theorem pD {d:Nat} {h:aw} {tp:AV} (se:List ay) (q:ay) (nW:aQ h tp se) (eP:aA.ok h q) (bH:Tidy h):cJ (d+9) (.fn 28) [tp,(AV.agg [(AV.str q.name),(Zi q.af),(Zi q.ab),(Zi q.aC),(Zi q.aD),(Zi q.bad),q.ao])] h= .ret (Zi (aW se q)) h:=by
 have Ei:=nW.small
 have fW:=eP.2.small
 obtain ⟨h1,bD,bN,fX,aH,bZ⟩:=gu bH (aY.cells [(AV.str q.name),(Zi q.af),(Zi q.ab),(Zi q.aC),(Zi q.aD),(Zi q.bad),q.ao] 26 false)
 have bk:Has h h1:=bZ
 have k2:=Ce (d:=d+7) q.name eP.1 bN
 rcases Bool.eq_false_or_eq_true (!(gJ q.name)) with f0 | f0
 · have e:aW se q=5:=by simp only[aW,f0,aj,ai]
   rw[e]
   exact az rfl (a_ Try.func28 dc rfl (.inr rfl) (pk (d+8) _ _ h _ h1 (NN bD (fun i=>(Pt i))<|CN 2<|MM (aB 9 0 (AV.str q.name) aH k!)<|EE k2<|CN 2<|BC f0<|ZZ) k!) k!) bk rfl
 · have k4:=tv (d:=d+6) se (fun y=>dP y q) (nW.has bk) (fun y hy hh yy aa=>vQ (d:=d+5) y q h.nx (aA.mono aa ((nW.has bk).Pp y hy)) (aA.mono aa (aA.mono bk eP)) (aa _ _ aH) yy) bN
   rcases Bool.eq_false_or_eq_true (cM se (fun y=>dP y q)) with f1 | f1
   · have e:aW se q=6:=by simp only[aW,f0,f1,aj,ai]
     rw[e]
     exact az rfl (a_ Try.func28 dc rfl (.inr rfl) (pk (d+8) _ _ h _ h1 (NN bD (fun i=>(Pt i))<|CN 2<|MM (aB 9 0 (AV.str q.name) aH k!)<|EE k2<|CN 2<|BB f0<|CN 2<|EE k4<|CC<|BC f1<|ZZ) k!) k!) bk rfl
   · have k6:=tw (d:=d+7) q.af bN
     rcases Bool.eq_false_or_eq_true (!(hT q.af)) with f2 | f2
     · have e:aW se q=1:=by simp only[aW,f0,f1,f2,aj,ai]
       rw[e]
       exact az rfl (a_ Try.func28 dc rfl (.inr rfl) (pk (d+8) _ _ h _ h1 (NN bD (fun i=>(Pt i))<|CN 2<|MM (aB 9 0 (AV.str q.name) aH k!)<|EE k2<|CN 2<|BB f0<|CN 2<|EE k4<|CC<|BB f1<|CN 2<|MM (aB 3 1 (Zi q.af) aH k!)<|EE k6<|CN 2<|BB f2<|BC f2<|ZZ) k!) k!) bk rfl
     · have k8:=tw (d:=d+7) q.ab bN
       rcases Bool.eq_false_or_eq_true (!(hT q.ab)) with f3 | f3
       · have e:aW se q=1:=by simp only[aW,f0,f1,f2,f3,aj,ai]
         rw[e]
         exact az rfl (a_ Try.func28 dc rfl (.inr rfl) (pk (d+8) _ _ h _ h1 (NN bD (fun i=>(Pt i))<|CN 2<|MM (aB 9 0 (AV.str q.name) aH k!)<|EE k2<|CN 2<|BB f0<|CN 2<|EE k4<|CC<|BB f1<|CN 2<|MM (aB 3 1 (Zi q.af) aH k!)<|EE k6<|CN 2<|BB f2<|CN 2<|MM (aB 3 2 (Zi q.ab) aH k!)<|EE k8<|CN 2<|BB f3<|BC f3<|ZZ) k!) k!) bk rfl
       · rcases Bool.eq_false_or_eq_true (decide (q.ab<q.af)) with f4 | f4
         · have l8:=of_decide_eq_true f4
           have e:aW se q=1:=by simp only[aW,f0,f1,f2,f3,f4,aj,ai]
           rw[e]
           exact az rfl (a_ Try.func28 dc rfl (.inr rfl) (pk (d+8) _ _ h _ h1 (NN bD (fun i=>(Pt i))<|CN 2<|MM (aB 9 0 (AV.str q.name) aH k!)<|EE k2<|CN 2<|BB f0<|CN 2<|EE k4<|CC<|BB f1<|CN 2<|MM (aB 3 1 (Zi q.af) aH k!)<|EE k6<|CN 2<|BB f2<|CN 2<|MM (aB 3 2 (Zi q.ab) aH k!)<|EE k8<|CN 2<|BB f3<|CN 2<|MM (aB 3 1 (Zi q.af) aH k!)<|CN 2<|MM (aB 3 2 (Zi q.ab) aH k!)<|VV (bW 3 false false .i64 q.af q.ab)<|CC<|BC f4<|ZZ) k!) k!) bk rfl
         · have l8:=of_decide_eq_false f4
           have BL:=mK (d:=d+7) q.aC 10000 bN
           rcases Bool.eq_false_or_eq_true (!(dZ q.aC 10000)) with f5 | f5
           · have e:aW se q=1:=by simp only[aW,f0,f1,f2,f3,f4,f5,aj,ai]
             rw[e]
             exact az rfl (a_ Try.func28 dc rfl (.inr rfl) (pk (d+8) _ _ h _ h1 (NN bD (fun i=>(Pt i))<|CN 2<|MM (aB 9 0 (AV.str q.name) aH k!)<|EE k2<|CN 2<|BB f0<|CN 2<|EE k4<|CC<|BB f1<|CN 2<|MM (aB 3 1 (Zi q.af) aH k!)<|EE k6<|CN 2<|BB f2<|CN 2<|MM (aB 3 2 (Zi q.ab) aH k!)<|EE k8<|CN 2<|BB f3<|CN 2<|MM (aB 3 1 (Zi q.af) aH k!)<|CN 2<|MM (aB 3 2 (Zi q.ab) aH k!)<|VV (bW 3 false false .i64 q.af q.ab)<|CC<|BC f4<|MM (aB 3 3 (Zi q.aC) aH k!)<|EE BL<|CN 2<|BB f5<|BC f5<|ZZ) k!) k!) bk rfl
           · have k13:=mK (d:=d+7) q.aD 10000 bN
             rcases Bool.eq_false_or_eq_true (!(dZ q.aD 10000)) with f6 | f6
             · have e:aW se q=1:=by simp only[aW,f0,f1,f2,f3,f4,f5,f6,aj,ai]
               rw[e]
               exact az rfl (a_ Try.func28 dc rfl (.inr rfl) (pk (d+8) _ _ h _ h1 (NN bD (fun i=>(Pt i))<|CN 2<|MM (aB 9 0 (AV.str q.name) aH k!)<|EE k2<|CN 2<|BB f0<|CN 2<|EE k4<|CC<|BB f1<|CN 2<|MM (aB 3 1 (Zi q.af) aH k!)<|EE k6<|CN 2<|BB f2<|CN 2<|MM (aB 3 2 (Zi q.ab) aH k!)<|EE k8<|CN 2<|BB f3<|CN 2<|MM (aB 3 1 (Zi q.af) aH k!)<|CN 2<|MM (aB 3 2 (Zi q.ab) aH k!)<|VV (bW 3 false false .i64 q.af q.ab)<|CC<|BC f4<|MM (aB 3 3 (Zi q.aC) aH k!)<|EE BL<|CN 2<|BC f5<|MM (aB 3 4 (Zi q.aD) aH k!)<|EE k13<|CN 2<|BC f6<|ZZ) k!) k!) bk rfl
             · have ZW:dw (some (.slice 63)) (some q.ao)=some (Zn q.ar.length):=eP.2.len
               rcases Bool.eq_false_or_eq_true (decide (8<((q.ar.length:Nat):Int))) with f7 | f7
               · have RU:=of_decide_eq_true f7
                 have e:aW se q=3:=by simp only[aW,f0,f1,f2,f3,f4,f5,f6,f7,aj,ai]
                 rw[e]
                 exact az rfl (a_ Try.func28 dc rfl (.inr rfl) (pk (d+8) _ _ h _ h1 (NN bD (fun i=>(Pt i))<|CN 2<|MM (aB 9 0 (AV.str q.name) aH k!)<|EE k2<|CN 2<|BB f0<|CN 2<|EE k4<|CC<|BB f1<|CN 2<|MM (aB 3 1 (Zi q.af) aH k!)<|EE k6<|CN 2<|BB f2<|CN 2<|MM (aB 3 2 (Zi q.ab) aH k!)<|EE k8<|CN 2<|BB f3<|CN 2<|MM (aB 3 1 (Zi q.af) aH k!)<|CN 2<|MM (aB 3 2 (Zi q.ab) aH k!)<|VV (bW 3 false false .i64 q.af q.ab)<|CC<|BC f4<|MM (aB 3 3 (Zi q.aC) aH k!)<|EE BL<|CN 2<|BC f5<|MM (aB 3 4 (Zi q.aD) aH k!)<|EE k13<|CN 2<|BC f6<|MM (aB 24 6 q.ao aH k!)<|VV ZW<|VV (bW 3 false true .i64 ((q.ar.length:Nat):Int) 8)<|CC<|BC f7<|ZZ) k!) k!) bk rfl
               · have RU:=of_decide_eq_false f7
                 have acx:dw (some (.slice 63)) (some q.ao)=some (Zn q.ar.length):=eP.2.len
                 have k18:=mK (d:=d+7) q.bad ((q.ar.length:Nat):Int) bN
                 rcases Bool.eq_false_or_eq_true (!(dZ q.bad ((q.ar.length:Nat):Int))) with f8 | f8
                 · have e:aW se q=1:=by simp only[aW,f0,f1,f2,f3,f4,f5,f6,f7,f8,aj,ai]
                   rw[e]
                   exact az rfl (a_ Try.func28 dc rfl (.inr rfl) (pk (d+8) _ _ h _ h1 (NN bD (fun i=>(Pt i))<|CN 2<|MM (aB 9 0 (AV.str q.name) aH k!)<|EE k2<|CN 2<|BB f0<|CN 2<|EE k4<|CC<|BB f1<|CN 2<|MM (aB 3 1 (Zi q.af) aH k!)<|EE k6<|CN 2<|BB f2<|CN 2<|MM (aB 3 2 (Zi q.ab) aH k!)<|EE k8<|CN 2<|BB f3<|CN 2<|MM (aB 3 1 (Zi q.af) aH k!)<|CN 2<|MM (aB 3 2 (Zi q.ab) aH k!)<|VV (bW 3 false false .i64 q.af q.ab)<|CC<|BC f4<|MM (aB 3 3 (Zi q.aC) aH k!)<|EE BL<|CN 2<|BC f5<|MM (aB 3 4 (Zi q.aD) aH k!)<|EE k13<|CN 2<|BC f6<|MM (aB 24 6 q.ao aH k!)<|VV ZW<|VV (bW 3 false true .i64 ((q.ar.length:Nat):Int) 8)<|CC<|BC f7<|MM (aB 3 5 (Zi q.bad) aH k!)<|CC<|MM (aB 24 6 q.ao aH k!)<|VV acx<|EE k18<|CN 2<|BC f8<|ZZ) k!) k!) bk rfl
                 · have VW:=vO (d:=d+7) q.ar 8 (fun jx=>dA (List.take jx q.ar) (List.g q.ar jx)) (eP.2.has bk) (fun jx hj aV hh yy aa fa=>Cf (d:=d+1) (List.take jx q.ar) (List.g q.ar jx) fa (aA.mono aa ((eP.2.has bk).ok hj)) yy) bN
                   have e:aW se q=(cZ q.ar 8 (fun jx=>dA (List.take jx q.ar) (List.g q.ar jx))):=by simp only[aW,f0,f1,f2,f3,f4,f5,f6,f7,f8,aj,ai]
                   rw[e]
                   exact az rfl (a_ Try.func28 dc rfl (.inr rfl) (pk (d+8) _ _ h _ h1 (NN bD (fun i=>(Pt i))<|CN 2<|MM (aB 9 0 (AV.str q.name) aH k!)<|EE k2<|CN 2<|BB f0<|CN 2<|EE k4<|CC<|BB f1<|CN 2<|MM (aB 3 1 (Zi q.af) aH k!)<|EE k6<|CN 2<|BB f2<|CN 2<|MM (aB 3 2 (Zi q.ab) aH k!)<|EE k8<|CN 2<|BB f3<|CN 2<|MM (aB 3 1 (Zi q.af) aH k!)<|CN 2<|MM (aB 3 2 (Zi q.ab) aH k!)<|VV (bW 3 false false .i64 q.af q.ab)<|CC<|BC f4<|MM (aB 3 3 (Zi q.aC) aH k!)<|EE BL<|CN 2<|BC f5<|MM (aB 3 4 (Zi q.aD) aH k!)<|EE k13<|CN 2<|BC f6<|MM (aB 24 6 q.ao aH k!)<|VV ZW<|VV (bW 3 false true .i64 ((q.ar.length:Nat):Int) 8)<|CC<|BC f7<|MM (aB 3 5 (Zi q.bad) aH k!)<|CC<|MM (aB 24 6 q.ao aH k!)<|VV acx<|EE k18<|CN 2<|BC f8<|MM (aB 24 6 q.ao aH k!)<|EE VW<|CC<|ZZ) k!) k!) bk rfl
def Ch:Code:=(Try.f30.body).getD .skip
theorem Jq:Try.f30.body=some Ch:=by kernel_rfl
def gB (g:bY) (t:Int):Int:=(IntKind.i64.wrap (g.acc+(IntKind.i64.wrap (g.bR*(IntKind.i64.wrap (Int.tdiv (IntKind.i64.wrap ((IntKind.i64.wrap ((imax (IntKind.i64.wrap (t - g.since)) 0)+1000)) - 1)) 1000))))))
theorem zO {d:Nat} {h:aw} (g:bY) (t:Int) (Zh:aA.ok h g) (bH:Tidy h):cJ (d+1) (.fn 30) [(AV.agg [(AV.str g.name),(Zi g.acc),(Zi g.bR),(Zi g.since)]),(Zi t)] h= .ret (Zi (gB g t)) h:=by
 obtain ⟨h1,bD,bN,fX,aH,bZ⟩:=gu bH (aY.cells [(AV.str g.name),(Zi g.acc),(Zi g.bR),(Zi g.since)] 63 false)
 have bk:Has h h1:=bZ
 have e:gB g t=(IntKind.i64.wrap (g.acc+(IntKind.i64.wrap (g.bR*(IntKind.i64.wrap (Int.tdiv (IntKind.i64.wrap ((IntKind.i64.wrap ((imax (IntKind.i64.wrap (t - g.since)) 0)+1000)) - 1)) 1000)))))):=by simp only[gB,aj,ai]
 rw[e]
 exact az rfl (a_ Try.func30 Jq rfl (.inr rfl) (pk (d) _ _ h _ h1 (NN bD (fun i=>(Pt i))<|CN 3<|MM (aB 3 3 (Zi g.since) aH k!)<|CN 7<|MM (aB 3 1 (Zi g.acc) aH k!)<|CC<|MM (aB 3 2 (Zi g.bR) aH k!)<|CN 4<|ZZ) k!) k!) bk rfl
end
end Go.Proofs.aJ
