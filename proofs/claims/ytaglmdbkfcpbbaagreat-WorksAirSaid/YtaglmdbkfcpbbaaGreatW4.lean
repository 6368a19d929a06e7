import Derived.Test.YtaglmdbkfcpbbaaGreatW0
import Derived.Test.YtaglmdbkfcpbbaaGreatW3
namespace Go.Proofs.bt
open Go.Proofs Ab
set_option maxRecDepth 100000
set_option maxHeartbeats 4000000
set_option linter.unusedVariables false
set_option linter.unusedSimpArgs false
noncomputable def iP:Code:=(Tryz.f65.body).getD .skip
theorem pO:Tryz.f65.body=some iP:=by kernel_rfl
noncomputable def cx:Code:=(dD iP).getD 0 .skip
def bO (text:List UInt8):Nat→Nat→Option (Bool)
 | 0,_=>none
 | eG+1,i0=>(bif (decide (97≤(((text.g i0).toNat:Nat):Int))) then (bif (decide (48≤(((text.g i0).toNat:Nat):Int))) then (bif (decide ((((text.g i0).toNat:Nat):Int)≤57)) then (bif (!(decide ((((text.g i0).toNat:Nat):Int)≤122))) then (bif (decide (((i0:Nat):Int)=0)) then some false else bO text eG (i0+1)) else bO text eG (i0+1)) else (bif (!(decide ((((text.g i0).toNat:Nat):Int)≤122))) then (bif (decide (((i0:Nat):Int)=0)) then some false else (bif (!(decide ((((text.g i0).toNat:Nat):Int)=45))) then some false else bO text eG (i0+1))) else bO text eG (i0+1))) else (bif (!(decide ((((text.g i0).toNat:Nat):Int)≤122))) then (bif (decide (((i0:Nat):Int)=0)) then some false else (bif (!(decide ((((text.g i0).toNat:Nat):Int)=45))) then some false else bO text eG (i0+1))) else bO text eG (i0+1))) else (bif (decide (48≤(((text.g i0).toNat:Nat):Int))) then (bif (decide ((((text.g i0).toNat:Nat):Int)≤57)) then (bif (decide (((i0:Nat):Int)=0)) then some false else bO text eG (i0+1)) else (bif (decide (((i0:Nat):Int)=0)) then some false else (bif (!(decide ((((text.g i0).toNat:Nat):Int)=45))) then some false else bO text eG (i0+1)))) else (bif (decide (((i0:Nat):Int)=0)) then some false else (bif (!(decide ((((text.g i0).toNat:Nat):Int)=45))) then some false else bO text eG (i0+1)))))
theorem ei {d:Nat} {h:ar} (text:List UInt8) (bk:text.length<2^60):∀(k_ i_:Nat) (_:i_+k_=(List.length text)) (x:Nat→AV) (hh:ar) (bb:Tidy hh) (aR:Has h hh),aY (eD (d)) cx ⟨((AV.str text)::rx x 1 13 ((AV.int .i64 ((List.length text:Nat):Int))::(AV.int .i64 ((i_:Nat):Int))::rx x 16 39 [])),hh,[],.no⟩ (.exit 0) hh (fun y=>((AV.str text)::rx y 1 13 ((AV.int .i64 ((List.length text:Nat):Int))::rx y 15 40 []))) (fun r y=>((AV.str text)::(y 1)::(AV.bool r)::rx y 3 11 ((AV.int .i64 ((List.length text:Nat):Int))::rx y 15 40 []))) (bO text k_ i_)
 | 0,i0,qo,x,hh,bb,aR=>by
   have q1:(decide (((i0:Nat):Int)<((List.length text:Nat):Int)))=false:=d!
   have ev:=pk (d) cx ((AV.str text)::rx x 1 13 ((AV.int .i64 ((List.length text:Nat):Int))::(AV.int .i64 ((i0:Nat):Int))::rx x 16 39 [])) hh (.exit 0) hh (VV (bT 3 false false .i64 ((i0:Nat):Int) ((List.length text:Nat):Int))<|BB q1<|ZZ) k!
   exact aY.out rfl ev (cG.refl bb) k!
 | eG+1,i0,qo,x,hh,bb,aR=>by
   rcases Bool.eq_false_or_eq_true (decide (97≤(((text.g i0).toNat:Nat):Int))) with f1 | f1
   · have jn:=of_decide_eq_true f1
     rcases Bool.eq_false_or_eq_true (decide (48≤(((text.g i0).toNat:Nat):Int))) with f2 | f2
     · have np:=of_decide_eq_true f2
       rcases Bool.eq_false_or_eq_true (decide ((((text.g i0).toNat:Nat):Int)≤57)) with f3 | f3
       · have oh:=of_decide_eq_true f3
         rcases Bool.eq_false_or_eq_true (!(decide ((((text.g i0).toNat:Nat):Int)≤122))) with f4 | f4
         · have om:=sS f4
           rcases Bool.eq_false_or_eq_true (decide (((i0:Nat):Int)=0)) with f5 | f5
           · have ri:=of_decide_eq_true f5
             have q1:(decide (((i0:Nat):Int)<((List.length text:Nat):Int)))=true:=d!
             have hL:cH env (some .string) (some (AV.str text)) (some (AV.int .i64 ((i0:Nat):Int)))=some (AV.int .u8 (((text.g i0).toNat:Nat):Int)):=ba (j:=i0) o!
             have kB:cH env (some .string) (some (AV.str text)) (some (AV.int .i64 ((i0:Nat):Int)))=some (AV.int .u8 (((text.g i0).toNat:Nat):Int)):=ba (j:=i0) o!
             have zL:cH env (some .string) (some (AV.str text)) (some (AV.int .i64 ((i0:Nat):Int)))=some (AV.int .u8 (((text.g i0).toNat:Nat):Int)):=ba (j:=i0) o!
             have vr:cH env (some .string) (some (AV.str text)) (some (AV.int .i64 ((i0:Nat):Int)))=some (AV.int .u8 (((text.g i0).toNat:Nat):Int)):=ba (j:=i0) o!
             have ev:=pk (d) cx ((AV.str text)::rx x 1 13 ((AV.int .i64 ((List.length text:Nat):Int))::(AV.int .i64 ((i0:Nat):Int))::rx x 16 39 [])) hh .ret hh (VV (bT 3 false false .i64 ((i0:Nat):Int) ((List.length text:Nat):Int))<|BB q1<|CN 4<|VV hL<|VV (eP 5 false true .u8 (((text.g i0).toNat:Nat):Int) 97)<|CC<|BB f1<|CC<|BB f1<|CC<|BB f1<|VV kB<|BB f1<|VV (gZ 5 false true .u8 (((text.g i0).toNat:Nat):Int) 122)<|VV (aX (a:=some (AV.bool (decide ((((text.g i0).toNat:Nat):Int)≤122)))) (b:=some (AV.bool false)) f1)<|CN 3<|VV zL<|VV (eP 5 false true .u8 (((text.g i0).toNat:Nat):Int) 48)<|CC<|BB f2<|CC<|BB f2<|CC<|BB f2<|VV vr<|BB f2<|VV (gZ 5 false true .u8 (((text.g i0).toNat:Nat):Int) 57)<|VV (aX (a:=some (AV.bool (decide ((((text.g i0).toNat:Nat):Int)≤57)))) (b:=some (AV.bool false)) f2)<|CC<|BB f3<|BB f3<|BB f3<|BB f3<|VV (aX (a:=some (AV.bool true)) (b:=some AV.undef) f3)<|CN 4<|BB f4<|CC<|BB f4<|VV (dC 3 false true .i64 ((i0:Nat):Int) 0)<|BB f4<|CC<|BB f5<|BB f5<|BB f4<|VV (aX (a:=some (AV.bool true)) (b:=some AV.undef) f5)<|VV (aX (a:=some (AV.bool true)) (b:=some (AV.bool false)) f4)<|TT<|CC<|ZZ) k!
             exact aY.ret false (by simp only[bO,f1,f2,f3,f4,f5,cond_true,cond_false]) ev (cG.refl bb) k!
           · have ri:=of_decide_eq_false f5
             have q1:(decide (((i0:Nat):Int)<((List.length text:Nat):Int)))=true:=d!
             have hL:cH env (some .string) (some (AV.str text)) (some (AV.int .i64 ((i0:Nat):Int)))=some (AV.int .u8 (((text.g i0).toNat:Nat):Int)):=ba (j:=i0) o!
             have kB:cH env (some .string) (some (AV.str text)) (some (AV.int .i64 ((i0:Nat):Int)))=some (AV.int .u8 (((text.g i0).toNat:Nat):Int)):=ba (j:=i0) o!
             have zL:cH env (some .string) (some (AV.str text)) (some (AV.int .i64 ((i0:Nat):Int)))=some (AV.int .u8 (((text.g i0).toNat:Nat):Int)):=ba (j:=i0) o!
             have vr:cH env (some .string) (some (AV.str text)) (some (AV.int .i64 ((i0:Nat):Int)))=some (AV.int .u8 (((text.g i0).toNat:Nat):Int)):=ba (j:=i0) o!
             have Qj:=hJ 3 false true i0 1 o!
             have ev:=pk (d) cx ((AV.str text)::rx x 1 13 ((AV.int .i64 ((List.length text:Nat):Int))::(AV.int .i64 ((i0:Nat):Int))::rx x 16 39 [])) hh .normal hh (VV (bT 3 false false .i64 ((i0:Nat):Int) ((List.length text:Nat):Int))<|BB q1<|CN 4<|VV hL<|VV (eP 5 false true .u8 (((text.g i0).toNat:Nat):Int) 97)<|CC<|BB f1<|CC<|BB f1<|CC<|BB f1<|VV kB<|BB f1<|VV (gZ 5 false true .u8 (((text.g i0).toNat:Nat):Int) 122)<|VV (aX (a:=some (AV.bool (decide ((((text.g i0).toNat:Nat):Int)≤122)))) (b:=some (AV.bool false)) f1)<|CN 3<|VV zL<|VV (eP 5 false true .u8 (((text.g i0).toNat:Nat):Int) 48)<|CC<|BB f2<|CC<|BB f2<|CC<|BB f2<|VV vr<|BB f2<|VV (gZ 5 false true .u8 (((text.g i0).toNat:Nat):Int) 57)<|VV (aX (a:=some (AV.bool (decide ((((text.g i0).toNat:Nat):Int)≤57)))) (b:=some (AV.bool false)) f2)<|CC<|BB f3<|BB f3<|BB f3<|BB f3<|VV (aX (a:=some (AV.bool true)) (b:=some AV.undef) f3)<|CN 4<|BB f4<|CC<|BB f4<|VV (dC 3 false true .i64 ((i0:Nat):Int) 0)<|BB f4<|CC<|BB f5<|CC<|BB f5<|CC<|BB f4<|VV (aJ (a:=some (AV.bool true)) (b:=some (AV.bool false)) f5)<|VV (aX (a:=some (AV.bool false)) (b:=some (AV.bool false)) f4)<|FF<|VV Qj<|CC<|ZZ) k!
             exact aY.round (by simp only[bO,f1,f2,f3,f4,f5,cond_true,cond_false]) ev (cG.refl bb) (fun x=>((AV.str text)::rx x 1 13 ((AV.int .i64 ((List.length text:Nat):Int))::(AV.int .i64 (((i0+1):Nat):Int))::rx x 16 39 []))) k! (fun x=>ei text bk eG (i0+1) o! x hh bb aR)
         · have om:=sU f4
           have q1:(decide (((i0:Nat):Int)<((List.length text:Nat):Int)))=true:=d!
           have hL:cH env (some .string) (some (AV.str text)) (some (AV.int .i64 ((i0:Nat):Int)))=some (AV.int .u8 (((text.g i0).toNat:Nat):Int)):=ba (j:=i0) o!
           have kB:cH env (some .string) (some (AV.str text)) (some (AV.int .i64 ((i0:Nat):Int)))=some (AV.int .u8 (((text.g i0).toNat:Nat):Int)):=ba (j:=i0) o!
           have zL:cH env (some .string) (some (AV.str text)) (some (AV.int .i64 ((i0:Nat):Int)))=some (AV.int .u8 (((text.g i0).toNat:Nat):Int)):=ba (j:=i0) o!
           have vr:cH env (some .string) (some (AV.str text)) (some (AV.int .i64 ((i0:Nat):Int)))=some (AV.int .u8 (((text.g i0).toNat:Nat):Int)):=ba (j:=i0) o!
           have YZ:=hJ 3 false true i0 1 o!
           have ev:=pk (d) cx ((AV.str text)::rx x 1 13 ((AV.int .i64 ((List.length text:Nat):Int))::(AV.int .i64 ((i0:Nat):Int))::rx x 16 39 [])) hh .normal hh (VV (bT 3 false false .i64 ((i0:Nat):Int) ((List.length text:Nat):Int))<|BB q1<|CN 4<|VV hL<|VV (eP 5 false true .u8 (((text.g i0).toNat:Nat):Int) 97)<|CC<|BB f1<|CC<|BB f1<|CC<|BB f1<|VV kB<|BB f1<|VV (gZ 5 false true .u8 (((text.g i0).toNat:Nat):Int) 122)<|VV (aX (a:=some (AV.bool (decide ((((text.g i0).toNat:Nat):Int)≤122)))) (b:=some (AV.bool false)) f1)<|CN 3<|VV zL<|VV (eP 5 false true .u8 (((text.g i0).toNat:Nat):Int) 48)<|CC<|BB f2<|CC<|BB f2<|CC<|BB f2<|VV vr<|BB f2<|VV (gZ 5 false true .u8 (((text.g i0).toNat:Nat):Int) 57)<|VV (aX (a:=some (AV.bool (decide ((((text.g i0).toNat:Nat):Int)≤57)))) (b:=some (AV.bool false)) f2)<|CC<|BB f3<|BB f3<|BB f3<|BB f3<|VV (aX (a:=some (AV.bool true)) (b:=some AV.undef) f3)<|CN 4<|BB f4<|BB f4<|BB f4<|BB f4<|VV (aJ (a:=some AV.undef) (b:=some (AV.bool false)) f4)<|FF<|VV YZ<|CC<|ZZ) k!
           exact aY.round (by simp only[bO,f1,f2,f3,f4,cond_true,cond_false]) ev (cG.refl bb) (fun x=>((AV.str text)::rx x 1 13 ((AV.int .i64 ((List.length text:Nat):Int))::(AV.int .i64 (((i0+1):Nat):Int))::rx x 16 39 []))) k! (fun x=>ei text bk eG (i0+1) o! x hh bb aR)
       · have oh:=of_decide_eq_false f3
         rcases Bool.eq_false_or_eq_true (!(decide ((((text.g i0).toNat:Nat):Int)≤122))) with f4 | f4
         · have om:=sS f4
           rcases Bool.eq_false_or_eq_true (decide (((i0:Nat):Int)=0)) with f5 | f5
           · have ri:=of_decide_eq_true f5
             have q1:(decide (((i0:Nat):Int)<((List.length text:Nat):Int)))=true:=d!
             have hL:cH env (some .string) (some (AV.str text)) (some (AV.int .i64 ((i0:Nat):Int)))=some (AV.int .u8 (((text.g i0).toNat:Nat):Int)):=ba (j:=i0) o!
             have kB:cH env (some .string) (some (AV.str text)) (some (AV.int .i64 ((i0:Nat):Int)))=some (AV.int .u8 (((text.g i0).toNat:Nat):Int)):=ba (j:=i0) o!
             have zL:cH env (some .string) (some (AV.str text)) (some (AV.int .i64 ((i0:Nat):Int)))=some (AV.int .u8 (((text.g i0).toNat:Nat):Int)):=ba (j:=i0) o!
             have vr:cH env (some .string) (some (AV.str text)) (some (AV.int .i64 ((i0:Nat):Int)))=some (AV.int .u8 (((text.g i0).toNat:Nat):Int)):=ba (j:=i0) o!
             have Ik:cH env (some .string) (some (AV.str text)) (some (AV.int .i64 ((i0:Nat):Int)))=some (AV.int .u8 (((text.g i0).toNat:Nat):Int)):=ba (j:=i0) o!
             have ev:=pk (d) cx ((AV.str text)::rx x 1 13 ((AV.int .i64 ((List.length text:Nat):Int))::(AV.int .i64 ((i0:Nat):Int))::rx x 16 39 [])) hh .ret hh (VV (bT 3 false false .i64 ((i0:Nat):Int) ((List.length text:Nat):Int))<|BB q1<|CN 4<|VV hL<|VV (eP 5 false true .u8 (((text.g i0).toNat:Nat):Int) 97)<|CC<|BB f1<|CC<|BB f1<|CC<|BB f1<|VV kB<|BB f1<|VV (gZ 5 false true .u8 (((text.g i0).toNat:Nat):Int) 122)<|VV (aX (a:=some (AV.bool (decide ((((text.g i0).toNat:Nat):Int)≤122)))) (b:=some (AV.bool false)) f1)<|CN 3<|VV zL<|VV (eP 5 false true .u8 (((text.g i0).toNat:Nat):Int) 48)<|CC<|BB f2<|CC<|BB f2<|CC<|BB f2<|VV vr<|BB f2<|VV (gZ 5 false true .u8 (((text.g i0).toNat:Nat):Int) 57)<|VV (aX (a:=some (AV.bool (decide ((((text.g i0).toNat:Nat):Int)≤57)))) (b:=some (AV.bool false)) f2)<|CC<|BB f3<|CC<|BB f3<|CC<|BB f3<|VV Ik<|BB f3<|VV (dC 5 false true .u8 (((text.g i0).toNat:Nat):Int) 45)<|VV (aJ (a:=some (AV.bool true)) (b:=some (AV.bool (decide ((((text.g i0).toNat:Nat):Int)=45)))) f3)<|CN 4<|BB f4<|CC<|BB f4<|VV (dC 3 false true .i64 ((i0:Nat):Int) 0)<|BB f4<|CC<|BB f5<|BB f5<|BB f4<|VV (aX (a:=some (AV.bool true)) (b:=some AV.undef) f5)<|VV (aX (a:=some (AV.bool true)) (b:=some (AV.bool false)) f4)<|TT<|CC<|ZZ) k!
             exact aY.ret false (by simp only[bO,f1,f2,f3,f4,f5,cond_true,cond_false]) ev (cG.refl bb) k!
           · have ri:=of_decide_eq_false f5
             rcases Bool.eq_false_or_eq_true (!(decide ((((text.g i0).toNat:Nat):Int)=45))) with f6 | f6
             · have BT:=sS f6
               have q1:(decide (((i0:Nat):Int)<((List.length text:Nat):Int)))=true:=d!
               have hL:cH env (some .string) (some (AV.str text)) (some (AV.int .i64 ((i0:Nat):Int)))=some (AV.int .u8 (((text.g i0).toNat:Nat):Int)):=ba (j:=i0) o!
               have kB:cH env (some .string) (some (AV.str text)) (some (AV.int .i64 ((i0:Nat):Int)))=some (AV.int .u8 (((text.g i0).toNat:Nat):Int)):=ba (j:=i0) o!
               have zL:cH env (some .string) (some (AV.str text)) (some (AV.int .i64 ((i0:Nat):Int)))=some (AV.int .u8 (((text.g i0).toNat:Nat):Int)):=ba (j:=i0) o!
               have vr:cH env (some .string) (some (AV.str text)) (some (AV.int .i64 ((i0:Nat):Int)))=some (AV.int .u8 (((text.g i0).toNat:Nat):Int)):=ba (j:=i0) o!
               have Ik:cH env (some .string) (some (AV.str text)) (some (AV.int .i64 ((i0:Nat):Int)))=some (AV.int .u8 (((text.g i0).toNat:Nat):Int)):=ba (j:=i0) o!
               have ev:=pk (d) cx ((AV.str text)::rx x 1 13 ((AV.int .i64 ((List.length text:Nat):Int))::(AV.int .i64 ((i0:Nat):Int))::rx x 16 39 [])) hh .ret hh (VV (bT 3 false false .i64 ((i0:Nat):Int) ((List.length text:Nat):Int))<|BB q1<|CN 4<|VV hL<|VV (eP 5 false true .u8 (((text.g i0).toNat:Nat):Int) 97)<|CC<|BB f1<|CC<|BB f1<|CC<|BB f1<|VV kB<|BB f1<|VV (gZ 5 false true .u8 (((text.g i0).toNat:Nat):Int) 122)<|VV (aX (a:=some (AV.bool (decide ((((text.g i0).toNat:Nat):Int)≤122)))) (b:=some (AV.bool false)) f1)<|CN 3<|VV zL<|VV (eP 5 false true .u8 (((text.g i0).toNat:Nat):Int) 48)<|CC<|BB f2<|CC<|BB f2<|CC<|BB f2<|VV vr<|BB f2<|VV (gZ 5 false true .u8 (((text.g i0).toNat:Nat):Int) 57)<|VV (aX (a:=some (AV.bool (decide ((((text.g i0).toNat:Nat):Int)≤57)))) (b:=some (AV.bool false)) f2)<|CC<|BB f3<|CC<|BB f3<|CC<|BB f3<|VV Ik<|BB f3<|VV (dC 5 false true .u8 (((text.g i0).toNat:Nat):Int) 45)<|VV (aJ (a:=some (AV.bool true)) (b:=some (AV.bool (decide ((((text.g i0).toNat:Nat):Int)=45)))) f3)<|CN 4<|BB f4<|CC<|BB f4<|VV (dC 3 false true .i64 ((i0:Nat):Int) 0)<|BB f4<|CC<|BB f5<|CC<|BB f5<|CC<|BB f4<|VV (aJ (a:=some (AV.bool true)) (b:=some (AV.bool (!(decide ((((text.g i0).toNat:Nat):Int)=45))))) f5)<|VV (aX (a:=some (AV.bool (!(decide ((((text.g i0).toNat:Nat):Int)=45))))) (b:=some (AV.bool false)) f4)<|BB f6<|CC<|ZZ) k!
               exact aY.ret false (by simp only[bO,f1,f2,f3,f4,f5,f6,cond_true,cond_false]) ev (cG.refl bb) k!
             · have BT:=sU f6
               have q1:(decide (((i0:Nat):Int)<((List.length text:Nat):Int)))=true:=d!
               have hL:cH env (some .string) (some (AV.str text)) (some (AV.int .i64 ((i0:Nat):Int)))=some (AV.int .u8 (((text.g i0).toNat:Nat):Int)):=ba (j:=i0) o!
               have kB:cH env (some .string) (some (AV.str text)) (some (AV.int .i64 ((i0:Nat):Int)))=some (AV.int .u8 (((text.g i0).toNat:Nat):Int)):=ba (j:=i0) o!
               have zL:cH env (some .string) (some (AV.str text)) (some (AV.int .i64 ((i0:Nat):Int)))=some (AV.int .u8 (((text.g i0).toNat:Nat):Int)):=ba (j:=i0) o!
               have vr:cH env (some .string) (some (AV.str text)) (some (AV.int .i64 ((i0:Nat):Int)))=some (AV.int .u8 (((text.g i0).toNat:Nat):Int)):=ba (j:=i0) o!
               have Ik:cH env (some .string) (some (AV.str text)) (some (AV.int .i64 ((i0:Nat):Int)))=some (AV.int .u8 (((text.g i0).toNat:Nat):Int)):=ba (j:=i0) o!
               have S8:=hJ 3 false true i0 1 o!
               have ev:=pk (d) cx ((AV.str text)::rx x 1 13 ((AV.int .i64 ((List.length text:Nat):Int))::(AV.int .i64 ((i0:Nat):Int))::rx x 16 39 [])) hh .normal hh (VV (bT 3 false false .i64 ((i0:Nat):Int) ((List.length text:Nat):Int))<|BB q1<|CN 4<|VV hL<|VV (eP 5 false true .u8 (((text.g i0).toNat:Nat):Int) 97)<|CC<|BB f1<|CC<|BB f1<|CC<|BB f1<|VV kB<|BB f1<|VV (gZ 5 false true .u8 (((text.g i0).toNat:Nat):Int) 122)<|VV (aX (a:=some (AV.bool (decide ((((text.g i0).toNat:Nat):Int)≤122)))) (b:=some (AV.bool false)) f1)<|CN 3<|VV zL<|VV (eP 5 false true .u8 (((text.g i0).toNat:Nat):Int) 48)<|CC<|BB f2<|CC<|BB f2<|CC<|BB f2<|VV vr<|BB f2<|VV (gZ 5 false true .u8 (((text.g i0).toNat:Nat):Int) 57)<|VV (aX (a:=some (AV.bool (decide ((((text.g i0).toNat:Nat):Int)≤57)))) (b:=some (AV.bool false)) f2)<|CC<|BB f3<|CC<|BB f3<|CC<|BB f3<|VV Ik<|BB f3<|VV (dC 5 false true .u8 (((text.g i0).toNat:Nat):Int) 45)<|VV (aJ (a:=some (AV.bool true)) (b:=some (AV.bool (decide ((((text.g i0).toNat:Nat):Int)=45)))) f3)<|CN 4<|BB f4<|CC<|BB f4<|VV (dC 3 false true .i64 ((i0:Nat):Int) 0)<|BB f4<|CC<|BB f5<|CC<|BB f5<|CC<|BB f4<|VV (aJ (a:=some (AV.bool true)) (b:=some (AV.bool (!(decide ((((text.g i0).toNat:Nat):Int)=45))))) f5)<|VV (aX (a:=some (AV.bool (!(decide ((((text.g i0).toNat:Nat):Int)=45))))) (b:=some (AV.bool false)) f4)<|BB f6<|VV S8<|CC<|ZZ) k!
               exact aY.round (by simp only[bO,f1,f2,f3,f4,f5,f6,cond_true,cond_false]) ev (cG.refl bb) (fun x=>((AV.str text)::rx x 1 13 ((AV.int .i64 ((List.length text:Nat):Int))::(AV.int .i64 (((i0+1):Nat):Int))::rx x 16 39 []))) k! (fun x=>ei text bk eG (i0+1) o! x hh bb aR)
         · have om:=sU f4
           have q1:(decide (((i0:Nat):Int)<((List.length text:Nat):Int)))=true:=d!
           have hL:cH env (some .string) (some (AV.str text)) (some (AV.int .i64 ((i0:Nat):Int)))=some (AV.int .u8 (((text.g i0).toNat:Nat):Int)):=ba (j:=i0) o!
           have kB:cH env (some .string) (some (AV.str text)) (some (AV.int .i64 ((i0:Nat):Int)))=some (AV.int .u8 (((text.g i0).toNat:Nat):Int)):=ba (j:=i0) o!
           have zL:cH env (some .string) (some (AV.str text)) (some (AV.int .i64 ((i0:Nat):Int)))=some (AV.int .u8 (((text.g i0).toNat:Nat):Int)):=ba (j:=i0) o!
           have vr:cH env (some .string) (some (AV.str text)) (some (AV.int .i64 ((i0:Nat):Int)))=some (AV.int .u8 (((text.g i0).toNat:Nat):Int)):=ba (j:=i0) o!
           have Ik:cH env (some .string) (some (AV.str text)) (some (AV.int .i64 ((i0:Nat):Int)))=some (AV.int .u8 (((text.g i0).toNat:Nat):Int)):=ba (j:=i0) o!
           have Qj:=hJ 3 false true i0 1 o!
           have ev:=pk (d) cx ((AV.str text)::rx x 1 13 ((AV.int .i64 ((List.length text:Nat):Int))::(AV.int .i64 ((i0:Nat):Int))::rx x 16 39 [])) hh .normal hh (VV (bT 3 false false .i64 ((i0:Nat):Int) ((List.length text:Nat):Int))<|BB q1<|CN 4<|VV hL<|VV (eP 5 false true .u8 (((text.g i0).toNat:Nat):Int) 97)<|CC<|BB f1<|CC<|BB f1<|CC<|BB f1<|VV kB<|BB f1<|VV (gZ 5 false true .u8 (((text.g i0).toNat:Nat):Int) 122)<|VV (aX (a:=some (AV.bool (decide ((((text.g i0).toNat:Nat):Int)≤122)))) (b:=some (AV.bool false)) f1)<|CN 3<|VV zL<|VV (eP 5 false true .u8 (((text.g i0).toNat:Nat):Int) 48)<|CC<|BB f2<|CC<|BB f2<|CC<|BB f2<|VV vr<|BB f2<|VV (gZ 5 false true .u8 (((text.g i0).toNat:Nat):Int) 57)<|VV (aX (a:=some (AV.bool (decide ((((text.g i0).toNat:Nat):Int)≤57)))) (b:=some (AV.bool false)) f2)<|CC<|BB f3<|CC<|BB f3<|CC<|BB f3<|VV Ik<|BB f3<|VV (dC 5 false true .u8 (((text.g i0).toNat:Nat):Int) 45)<|VV (aJ (a:=some (AV.bool true)) (b:=some (AV.bool (decide ((((text.g i0).toNat:Nat):Int)=45)))) f3)<|CN 4<|BB f4<|BB f4<|BB f4<|BB f4<|VV (aJ (a:=some AV.undef) (b:=some (AV.bool false)) f4)<|FF<|VV Qj<|CC<|ZZ) k!
           exact aY.round (by simp only[bO,f1,f2,f3,f4,cond_true,cond_false]) ev (cG.refl bb) (fun x=>((AV.str text)::rx x 1 13 ((AV.int .i64 ((List.length text:Nat):Int))::(AV.int .i64 (((i0+1):Nat):Int))::rx x 16 39 []))) k! (fun x=>ei text bk eG (i0+1) o! x hh bb aR)
     · have np:=of_decide_eq_false f2
       rcases Bool.eq_false_or_eq_true (!(decide ((((text.g i0).toNat:Nat):Int)≤122))) with f3 | f3
       · have oh:=sS f3
         rcases Bool.eq_false_or_eq_true (decide (((i0:Nat):Int)=0)) with f4 | f4
         · have om:=of_decide_eq_true f4
           have q1:(decide (((i0:Nat):Int)<((List.length text:Nat):Int)))=true:=d!
           have hL:cH env (some .string) (some (AV.str text)) (some (AV.int .i64 ((i0:Nat):Int)))=some (AV.int .u8 (((text.g i0).toNat:Nat):Int)):=ba (j:=i0) o!
           have kB:cH env (some .string) (some (AV.str text)) (some (AV.int .i64 ((i0:Nat):Int)))=some (AV.int .u8 (((text.g i0).toNat:Nat):Int)):=ba (j:=i0) o!
           have zL:cH env (some .string) (some (AV.str text)) (some (AV.int .i64 ((i0:Nat):Int)))=some (AV.int .u8 (((text.g i0).toNat:Nat):Int)):=ba (j:=i0) o!
           have vr:cH env (some .string) (some (AV.str text)) (some (AV.int .i64 ((i0:Nat):Int)))=some (AV.int .u8 (((text.g i0).toNat:Nat):Int)):=ba (j:=i0) o!
           have ev:=pk (d) cx ((AV.str text)::rx x 1 13 ((AV.int .i64 ((List.length text:Nat):Int))::(AV.int .i64 ((i0:Nat):Int))::rx x 16 39 [])) hh .ret hh (VV (bT 3 false false .i64 ((i0:Nat):Int) ((List.length text:Nat):Int))<|BB q1<|CN 4<|VV hL<|VV (eP 5 false true .u8 (((text.g i0).toNat:Nat):Int) 97)<|CC<|BB f1<|CC<|BB f1<|CC<|BB f1<|VV kB<|BB f1<|VV (gZ 5 false true .u8 (((text.g i0).toNat:Nat):Int) 122)<|VV (aX (a:=some (AV.bool (decide ((((text.g i0).toNat:Nat):Int)≤122)))) (b:=some (AV.bool false)) f1)<|CN 3<|VV zL<|VV (eP 5 false true .u8 (((text.g i0).toNat:Nat):Int) 48)<|CC<|BB f2<|BB f2<|BB f2<|BB f2<|VV (aJ (a:=some AV.undef) (b:=some (AV.bool false)) f2)<|CC<|FF<|CC<|FF<|CC<|FF<|VV vr<|FF<|VV (dC 5 false true .u8 (((text.g i0).toNat:Nat):Int) 45)<|CN 5<|BB f3<|CC<|BB f3<|VV (dC 3 false true .i64 ((i0:Nat):Int) 0)<|BB f3<|CC<|BB f4<|BB f4<|BB f3<|VV (aX (a:=some (AV.bool true)) (b:=some AV.undef) f4)<|VV (aX (a:=some (AV.bool true)) (b:=some (AV.bool false)) f3)<|TT<|CC<|ZZ) k!
           exact aY.ret false (by simp only[bO,f1,f2,f3,f4,cond_true,cond_false]) ev (cG.refl bb) k!
         · have om:=of_decide_eq_false f4
           rcases Bool.eq_false_or_eq_true (!(decide ((((text.g i0).toNat:Nat):Int)=45))) with f5 | f5
           · have ri:=sS f5
             have q1:(decide (((i0:Nat):Int)<((List.length text:Nat):Int)))=true:=d!
             have hL:cH env (some .string) (some (AV.str text)) (some (AV.int .i64 ((i0:Nat):Int)))=some (AV.int .u8 (((text.g i0).toNat:Nat):Int)):=ba (j:=i0) o!
             have kB:cH env (some .string) (some (AV.str text)) (some (AV.int .i64 ((i0:Nat):Int)))=some (AV.int .u8 (((text.g i0).toNat:Nat):Int)):=ba (j:=i0) o!
             have zL:cH env (some .string) (some (AV.str text)) (some (AV.int .i64 ((i0:Nat):Int)))=some (AV.int .u8 (((text.g i0).toNat:Nat):Int)):=ba (j:=i0) o!
             have vr:cH env (some .string) (some (AV.str text)) (some (AV.int .i64 ((i0:Nat):Int)))=some (AV.int .u8 (((text.g i0).toNat:Nat):Int)):=ba (j:=i0) o!
             have ev:=pk (d) cx ((AV.str text)::rx x 1 13 ((AV.int .i64 ((List.length text:Nat):Int))::(AV.int .i64 ((i0:Nat):Int))::rx x 16 39 [])) hh .ret hh (VV (bT 3 false false .i64 ((i0:Nat):Int) ((List.length text:Nat):Int))<|BB q1<|CN 4<|VV hL<|VV (eP 5 false true .u8 (((text.g i0).toNat:Nat):Int) 97)<|CC<|BB f1<|CC<|BB f1<|CC<|BB f1<|VV kB<|BB f1<|VV (gZ 5 false true .u8 (((text.g i0).toNat:Nat):Int) 122)<|VV (aX (a:=some (AV.bool (decide ((((text.g i0).toNat:Nat):Int)≤122)))) (b:=some (AV.bool false)) f1)<|CN 3<|VV zL<|VV (eP 5 false true .u8 (((text.g i0).toNat:Nat):Int) 48)<|CC<|BB f2<|BB f2<|BB f2<|BB f2<|VV (aJ (a:=some AV.undef) (b:=some (AV.bool false)) f2)<|CC<|FF<|CC<|FF<|CC<|FF<|VV vr<|FF<|VV (dC 5 false true .u8 (((text.g i0).toNat:Nat):Int) 45)<|CN 5<|BB f3<|CC<|BB f3<|VV (dC 3 false true .i64 ((i0:Nat):Int) 0)<|BB f3<|CC<|BB f4<|CC<|BB f4<|CC<|BB f3<|VV (aJ (a:=some (AV.bool true)) (b:=some (AV.bool (!(decide ((((text.g i0).toNat:Nat):Int)=45))))) f4)<|VV (aX (a:=some (AV.bool (!(decide ((((text.g i0).toNat:Nat):Int)=45))))) (b:=some (AV.bool false)) f3)<|BB f5<|CC<|ZZ) k!
             exact aY.ret false (by simp only[bO,f1,f2,f3,f4,f5,cond_true,cond_false]) ev (cG.refl bb) k!
           · have ri:=sU f5
             have q1:(decide (((i0:Nat):Int)<((List.length text:Nat):Int)))=true:=d!
             have hL:cH env (some .string) (some (AV.str text)) (some (AV.int .i64 ((i0:Nat):Int)))=some (AV.int .u8 (((text.g i0).toNat:Nat):Int)):=ba (j:=i0) o!
             have kB:cH env (some .string) (some (AV.str text)) (some (AV.int .i64 ((i0:Nat):Int)))=some (AV.int .u8 (((text.g i0).toNat:Nat):Int)):=ba (j:=i0) o!
             have zL:cH env (some .string) (some (AV.str text)) (some (AV.int .i64 ((i0:Nat):Int)))=some (AV.int .u8 (((text.g i0).toNat:Nat):Int)):=ba (j:=i0) o!
             have vr:cH env (some .string) (some (AV.str text)) (some (AV.int .i64 ((i0:Nat):Int)))=some (AV.int .u8 (((text.g i0).toNat:Nat):Int)):=ba (j:=i0) o!
             have Qj:=hJ 3 false true i0 1 o!
             have ev:=pk (d) cx ((AV.str text)::rx x 1 13 ((AV.int .i64 ((List.length text:Nat):Int))::(AV.int .i64 ((i0:Nat):Int))::rx x 16 39 [])) hh .normal hh (VV (bT 3 false false .i64 ((i0:Nat):Int) ((List.length text:Nat):Int))<|BB q1<|CN 4<|VV hL<|VV (eP 5 false true .u8 (((text.g i0).toNat:Nat):Int) 97)<|CC<|BB f1<|CC<|BB f1<|CC<|BB f1<|VV kB<|BB f1<|VV (gZ 5 false true .u8 (((text.g i0).toNat:Nat):Int) 122)<|VV (aX (a:=some (AV.bool (decide ((((text.g i0).toNat:Nat):Int)≤122)))) (b:=some (AV.bool false)) f1)<|CN 3<|VV zL<|VV (eP 5 false true .u8 (((text.g i0).toNat:Nat):Int) 48)<|CC<|BB f2<|BB f2<|BB f2<|BB f2<|VV (aJ (a:=some AV.undef) (b:=some (AV.bool false)) f2)<|CC<|FF<|CC<|FF<|CC<|FF<|VV vr<|FF<|VV (dC 5 false true .u8 (((text.g i0).toNat:Nat):Int) 45)<|CN 5<|BB f3<|CC<|BB f3<|VV (dC 3 false true .i64 ((i0:Nat):Int) 0)<|BB f3<|CC<|BB f4<|CC<|BB f4<|CC<|BB f3<|VV (aJ (a:=some (AV.bool true)) (b:=some (AV.bool (!(decide ((((text.g i0).toNat:Nat):Int)=45))))) f4)<|VV (aX (a:=some (AV.bool (!(decide ((((text.g i0).toNat:Nat):Int)=45))))) (b:=some (AV.bool false)) f3)<|BB f5<|VV Qj<|CC<|ZZ) k!
             exact aY.round (by simp only[bO,f1,f2,f3,f4,f5,cond_true,cond_false]) ev (cG.refl bb) (fun x=>((AV.str text)::rx x 1 13 ((AV.int .i64 ((List.length text:Nat):Int))::(AV.int .i64 (((i0+1):Nat):Int))::rx x 16 39 []))) k! (fun x=>ei text bk eG (i0+1) o! x hh bb aR)
       · have oh:=sU f3
         have q1:(decide (((i0:Nat):Int)<((List.length text:Nat):Int)))=true:=d!
         have hL:cH env (some .string) (some (AV.str text)) (some (AV.int .i64 ((i0:Nat):Int)))=some (AV.int .u8 (((text.g i0).toNat:Nat):Int)):=ba (j:=i0) o!
         have kB:cH env (some .string) (some (AV.str text)) (some (AV.int .i64 ((i0:Nat):Int)))=some (AV.int .u8 (((text.g i0).toNat:Nat):Int)):=ba (j:=i0) o!
         have zL:cH env (some .string) (some (AV.str text)) (some (AV.int .i64 ((i0:Nat):Int)))=some (AV.int .u8 (((text.g i0).toNat:Nat):Int)):=ba (j:=i0) o!
         have vr:cH env (some .string) (some (AV.str text)) (some (AV.int .i64 ((i0:Nat):Int)))=some (AV.int .u8 (((text.g i0).toNat:Nat):Int)):=ba (j:=i0) o!
         have u9:=hJ 3 false true i0 1 o!
         have ev:=pk (d) cx ((AV.str text)::rx x 1 13 ((AV.int .i64 ((List.length text:Nat):Int))::(AV.int .i64 ((i0:Nat):Int))::rx x 16 39 [])) hh .normal hh (VV (bT 3 false false .i64 ((i0:Nat):Int) ((List.length text:Nat):Int))<|BB q1<|CN 4<|VV hL<|VV (eP 5 false true .u8 (((text.g i0).toNat:Nat):Int) 97)<|CC<|BB f1<|CC<|BB f1<|CC<|BB f1<|VV kB<|BB f1<|VV (gZ 5 false true .u8 (((text.g i0).toNat:Nat):Int) 122)<|VV (aX (a:=some (AV.bool (decide ((((text.g i0).toNat:Nat):Int)≤122)))) (b:=some (AV.bool false)) f1)<|CN 3<|VV zL<|VV (eP 5 false true .u8 (((text.g i0).toNat:Nat):Int) 48)<|CC<|BB f2<|BB f2<|BB f2<|BB f2<|VV (aJ (a:=some AV.undef) (b:=some (AV.bool false)) f2)<|CC<|FF<|CC<|FF<|CC<|FF<|VV vr<|FF<|VV (dC 5 false true .u8 (((text.g i0).toNat:Nat):Int) 45)<|CN 5<|BB f3<|BB f3<|BB f3<|BB f3<|VV (aJ (a:=some AV.undef) (b:=some (AV.bool false)) f3)<|FF<|VV u9<|CC<|ZZ) k!
         exact aY.round (by simp only[bO,f1,f2,f3,cond_true,cond_false]) ev (cG.refl bb) (fun x=>((AV.str text)::rx x 1 13 ((AV.int .i64 ((List.length text:Nat):Int))::(AV.int .i64 (((i0+1):Nat):Int))::rx x 16 39 []))) k! (fun x=>ei text bk eG (i0+1) o! x hh bb aR)
   · have jn:=of_decide_eq_false f1
     rcases Bool.eq_false_or_eq_true (decide (48≤(((text.g i0).toNat:Nat):Int))) with f2 | f2
     · have np:=of_decide_eq_true f2
       rcases Bool.eq_false_or_eq_true (decide ((((text.g i0).toNat:Nat):Int)≤57)) with f3 | f3
       · have oh:=of_decide_eq_true f3
         rcases Bool.eq_false_or_eq_true (decide (((i0:Nat):Int)=0)) with f4 | f4
         · have om:=of_decide_eq_true f4
           have q1:(decide (((i0:Nat):Int)<((List.length text:Nat):Int)))=true:=d!
           have hL:cH env (some .string) (some (AV.str text)) (some (AV.int .i64 ((i0:Nat):Int)))=some (AV.int .u8 (((text.g i0).toNat:Nat):Int)):=ba (j:=i0) o!
           have kB:cH env (some .string) (some (AV.str text)) (some (AV.int .i64 ((i0:Nat):Int)))=some (AV.int .u8 (((text.g i0).toNat:Nat):Int)):=ba (j:=i0) o!
           have yD:cH env (some .string) (some (AV.str text)) (some (AV.int .i64 ((i0:Nat):Int)))=some (AV.int .u8 (((text.g i0).toNat:Nat):Int)):=ba (j:=i0) o!
           have ev:=pk (d) cx ((AV.str text)::rx x 1 13 ((AV.int .i64 ((List.length text:Nat):Int))::(AV.int .i64 ((i0:Nat):Int))::rx x 16 39 [])) hh .ret hh (VV (bT 3 false false .i64 ((i0:Nat):Int) ((List.length text:Nat):Int))<|BB q1<|CN 4<|VV hL<|VV (eP 5 false true .u8 (((text.g i0).toNat:Nat):Int) 97)<|CC<|BB f1<|BB f1<|BB f1<|BB f1<|VV (aJ (a:=some AV.undef) (b:=some (AV.bool false)) f1)<|CN 3<|VV kB<|VV (eP 5 false true .u8 (((text.g i0).toNat:Nat):Int) 48)<|CC<|BB f2<|CC<|BB f2<|CC<|BB f2<|VV yD<|BB f2<|VV (gZ 5 false true .u8 (((text.g i0).toNat:Nat):Int) 57)<|VV (aX (a:=some (AV.bool (decide ((((text.g i0).toNat:Nat):Int)≤57)))) (b:=some (AV.bool false)) f2)<|CC<|BB f3<|BB f3<|BB f3<|BB f3<|VV (aX (a:=some (AV.bool true)) (b:=some AV.undef) f3)<|CN 4<|TT<|CC<|TT<|VV (dC 3 false true .i64 ((i0:Nat):Int) 0)<|TT<|CC<|BB f4<|BB f4<|TT<|VV (aX (a:=some (AV.bool true)) (b:=some AV.undef) f4)<|CC<|TT<|CC<|ZZ) k!
           exact aY.ret false (by simp only[bO,f1,f2,f3,f4,cond_true,cond_false]) ev (cG.refl bb) k!
         · have om:=of_decide_eq_false f4
           have q1:(decide (((i0:Nat):Int)<((List.length text:Nat):Int)))=true:=d!
           have hL:cH env (some .string) (some (AV.str text)) (some (AV.int .i64 ((i0:Nat):Int)))=some (AV.int .u8 (((text.g i0).toNat:Nat):Int)):=ba (j:=i0) o!
           have kB:cH env (some .string) (some (AV.str text)) (some (AV.int .i64 ((i0:Nat):Int)))=some (AV.int .u8 (((text.g i0).toNat:Nat):Int)):=ba (j:=i0) o!
           have yD:cH env (some .string) (some (AV.str text)) (some (AV.int .i64 ((i0:Nat):Int)))=some (AV.int .u8 (((text.g i0).toNat:Nat):Int)):=ba (j:=i0) o!
           have u9:=hJ 3 false true i0 1 o!
           have ev:=pk (d) cx ((AV.str text)::rx x 1 13 ((AV.int .i64 ((List.length text:Nat):Int))::(AV.int .i64 ((i0:Nat):Int))::rx x 16 39 [])) hh .normal hh (VV (bT 3 false false .i64 ((i0:Nat):Int) ((List.length text:Nat):Int))<|BB q1<|CN 4<|VV hL<|VV (eP 5 false true .u8 (((text.g i0).toNat:Nat):Int) 97)<|CC<|BB f1<|BB f1<|BB f1<|BB f1<|VV (aJ (a:=some AV.undef) (b:=some (AV.bool false)) f1)<|CN 3<|VV kB<|VV (eP 5 false true .u8 (((text.g i0).toNat:Nat):Int) 48)<|CC<|BB f2<|CC<|BB f2<|CC<|BB f2<|VV yD<|BB f2<|VV (gZ 5 false true .u8 (((text.g i0).toNat:Nat):Int) 57)<|VV (aX (a:=some (AV.bool (decide ((((text.g i0).toNat:Nat):Int)≤57)))) (b:=some (AV.bool false)) f2)<|CC<|BB f3<|BB f3<|BB f3<|BB f3<|VV (aX (a:=some (AV.bool true)) (b:=some AV.undef) f3)<|CN 4<|TT<|CC<|TT<|VV (dC 3 false true .i64 ((i0:Nat):Int) 0)<|TT<|CC<|BB f4<|CC<|BB f4<|CC<|TT<|VV (aJ (a:=some (AV.bool true)) (b:=some (AV.bool false)) f4)<|CC<|FF<|VV u9<|CC<|ZZ) k!
           exact aY.round (by simp only[bO,f1,f2,f3,f4,cond_true,cond_false]) ev (cG.refl bb) (fun x=>((AV.str text)::rx x 1 13 ((AV.int .i64 ((List.length text:Nat):Int))::(AV.int .i64 (((i0+1):Nat):Int))::rx x 16 39 []))) k! (fun x=>ei text bk eG (i0+1) o! x hh bb aR)
       · have oh:=of_decide_eq_false f3
         rcases Bool.eq_false_or_eq_true (decide (((i0:Nat):Int)=0)) with f4 | f4
         · have om:=of_decide_eq_true f4
           have q1:(decide (((i0:Nat):Int)<((List.length text:Nat):Int)))=true:=d!
           have hL:cH env (some .string) (some (AV.str text)) (some (AV.int .i64 ((i0:Nat):Int)))=some (AV.int .u8 (((text.g i0).toNat:Nat):Int)):=ba (j:=i0) o!
           have kB:cH env (some .string) (some (AV.str text)) (some (AV.int .i64 ((i0:Nat):Int)))=some (AV.int .u8 (((text.g i0).toNat:Nat):Int)):=ba (j:=i0) o!
           have yD:cH env (some .string) (some (AV.str text)) (some (AV.int .i64 ((i0:Nat):Int)))=some (AV.int .u8 (((text.g i0).toNat:Nat):Int)):=ba (j:=i0) o!
           have Il:cH env (some .string) (some (AV.str text)) (some (AV.int .i64 ((i0:Nat):Int)))=some (AV.int .u8 (((text.g i0).toNat:Nat):Int)):=ba (j:=i0) o!
           have ev:=pk (d) cx ((AV.str text)::rx x 1 13 ((AV.int .i64 ((List.length text:Nat):Int))::(AV.int .i64 ((i0:Nat):Int))::rx x 16 39 [])) hh .ret hh (VV (bT 3 false false .i64 ((i0:Nat):Int) ((List.length text:Nat):Int))<|BB q1<|CN 4<|VV hL<|VV (eP 5 false true .u8 (((text.g i0).toNat:Nat):Int) 97)<|CC<|BB f1<|BB f1<|BB f1<|BB f1<|VV (aJ (a:=some AV.undef) (b:=some (AV.bool false)) f1)<|CN 3<|VV kB<|VV (eP 5 false true .u8 (((text.g i0).toNat:Nat):Int) 48)<|CC<|BB f2<|CC<|BB f2<|CC<|BB f2<|VV yD<|BB f2<|VV (gZ 5 false true .u8 (((text.g i0).toNat:Nat):Int) 57)<|VV (aX (a:=some (AV.bool (decide ((((text.g i0).toNat:Nat):Int)≤57)))) (b:=some (AV.bool false)) f2)<|CC<|BB f3<|CC<|BB f3<|CC<|BB f3<|VV Il<|BB f3<|VV (dC 5 false true .u8 (((text.g i0).toNat:Nat):Int) 45)<|VV (aJ (a:=some (AV.bool true)) (b:=some (AV.bool (decide ((((text.g i0).toNat:Nat):Int)=45)))) f3)<|CN 4<|TT<|CC<|TT<|VV (dC 3 false true .i64 ((i0:Nat):Int) 0)<|TT<|CC<|BB f4<|BB f4<|TT<|VV (aX (a:=some (AV.bool true)) (b:=some AV.undef) f4)<|CC<|TT<|CC<|ZZ) k!
           exact aY.ret false (by simp only[bO,f1,f2,f3,f4,cond_true,cond_false]) ev (cG.refl bb) k!
         · have om:=of_decide_eq_false f4
           rcases Bool.eq_false_or_eq_true (!(decide ((((text.g i0).toNat:Nat):Int)=45))) with f5 | f5
           · have ri:=sS f5
             have q1:(decide (((i0:Nat):Int)<((List.length text:Nat):Int)))=true:=d!
             have hL:cH env (some .string) (some (AV.str text)) (some (AV.int .i64 ((i0:Nat):Int)))=some (AV.int .u8 (((text.g i0).toNat:Nat):Int)):=ba (j:=i0) o!
             have kB:cH env (some .string) (some (AV.str text)) (some (AV.int .i64 ((i0:Nat):Int)))=some (AV.int .u8 (((text.g i0).toNat:Nat):Int)):=ba (j:=i0) o!
             have yD:cH env (some .string) (some (AV.str text)) (some (AV.int .i64 ((i0:Nat):Int)))=some (AV.int .u8 (((text.g i0).toNat:Nat):Int)):=ba (j:=i0) o!
             have Il:cH env (some .string) (some (AV.str text)) (some (AV.int .i64 ((i0:Nat):Int)))=some (AV.int .u8 (((text.g i0).toNat:Nat):Int)):=ba (j:=i0) o!
             have ev:=pk (d) cx ((AV.str text)::rx x 1 13 ((AV.int .i64 ((List.length text:Nat):Int))::(AV.int .i64 ((i0:Nat):Int))::rx x 16 39 [])) hh .ret hh (VV (bT 3 false false .i64 ((i0:Nat):Int) ((List.length text:Nat):Int))<|BB q1<|CN 4<|VV hL<|VV (eP 5 false true .u8 (((text.g i0).toNat:Nat):Int) 97)<|CC<|BB f1<|BB f1<|BB f1<|BB f1<|VV (aJ (a:=some AV.undef) (b:=some (AV.bool false)) f1)<|CN 3<|VV kB<|VV (eP 5 false true .u8 (((text.g i0).toNat:Nat):Int) 48)<|CC<|BB f2<|CC<|BB f2<|CC<|BB f2<|VV yD<|BB f2<|VV (gZ 5 false true .u8 (((text.g i0).toNat:Nat):Int) 57)<|VV (aX (a:=some (AV.bool (decide ((((text.g i0).toNat:Nat):Int)≤57)))) (b:=some (AV.bool false)) f2)<|CC<|BB f3<|CC<|BB f3<|CC<|BB f3<|VV Il<|BB f3<|VV (dC 5 false true .u8 (((text.g i0).toNat:Nat):Int) 45)<|VV (aJ (a:=some (AV.bool true)) (b:=some (AV.bool (decide ((((text.g i0).toNat:Nat):Int)=45)))) f3)<|CN 4<|TT<|CC<|TT<|VV (dC 3 false true .i64 ((i0:Nat):Int) 0)<|TT<|CC<|BB f4<|CC<|BB f4<|CC<|TT<|VV (aJ (a:=some (AV.bool true)) (b:=some (AV.bool (!(decide ((((text.g i0).toNat:Nat):Int)=45))))) f4)<|CC<|BB f5<|CC<|ZZ) k!
             exact aY.ret false (by simp only[bO,f1,f2,f3,f4,f5,cond_true,cond_false]) ev (cG.refl bb) k!
           · have ri:=sU f5
             have q1:(decide (((i0:Nat):Int)<((List.length text:Nat):Int)))=true:=d!
             have hL:cH env (some .string) (some (AV.str text)) (some (AV.int .i64 ((i0:Nat):Int)))=some (AV.int .u8 (((text.g i0).toNat:Nat):Int)):=ba (j:=i0) o!
             have kB:cH env (some .string) (some (AV.str text)) (some (AV.int .i64 ((i0:Nat):Int)))=some (AV.int .u8 (((text.g i0).toNat:Nat):Int)):=ba (j:=i0) o!
             have yD:cH env (some .string) (some (AV.str text)) (some (AV.int .i64 ((i0:Nat):Int)))=some (AV.int .u8 (((text.g i0).toNat:Nat):Int)):=ba (j:=i0) o!
             have Il:cH env (some .string) (some (AV.str text)) (some (AV.int .i64 ((i0:Nat):Int)))=some (AV.int .u8 (((text.g i0).toNat:Nat):Int)):=ba (j:=i0) o!
             have Qj:=hJ 3 false true i0 1 o!
             have ev:=pk (d) cx ((AV.str text)::rx x 1 13 ((AV.int .i64 ((List.length text:Nat):Int))::(AV.int .i64 ((i0:Nat):Int))::rx x 16 39 [])) hh .normal hh (VV (bT 3 false false .i64 ((i0:Nat):Int) ((List.length text:Nat):Int))<|BB q1<|CN 4<|VV hL<|VV (eP 5 false true .u8 (((text.g i0).toNat:Nat):Int) 97)<|CC<|BB f1<|BB f1<|BB f1<|BB f1<|VV (aJ (a:=some AV.undef) (b:=some (AV.bool false)) f1)<|CN 3<|VV kB<|VV (eP 5 false true .u8 (((text.g i0).toNat:Nat):Int) 48)<|CC<|BB f2<|CC<|BB f2<|CC<|BB f2<|VV yD<|BB f2<|VV (gZ 5 false true .u8 (((text.g i0).toNat:Nat):Int) 57)<|VV (aX (a:=some (AV.bool (decide ((((text.g i0).toNat:Nat):Int)≤57)))) (b:=some (AV.bool false)) f2)<|CC<|BB f3<|CC<|BB f3<|CC<|BB f3<|VV Il<|BB f3<|VV (dC 5 false true .u8 (((text.g i0).toNat:Nat):Int) 45)<|VV (aJ (a:=some (AV.bool true)) (b:=some (AV.bool (decide ((((text.g i0).toNat:Nat):Int)=45)))) f3)<|CN 4<|TT<|CC<|TT<|VV (dC 3 false true .i64 ((i0:Nat):Int) 0)<|TT<|CC<|BB f4<|CC<|BB f4<|CC<|TT<|VV (aJ (a:=some (AV.bool true)) (b:=some (AV.bool (!(decide ((((text.g i0).toNat:Nat):Int)=45))))) f4)<|CC<|BB f5<|VV Qj<|CC<|ZZ) k!
             exact aY.round (by simp only[bO,f1,f2,f3,f4,f5,cond_true,cond_false]) ev (cG.refl bb) (fun x=>((AV.str text)::rx x 1 13 ((AV.int .i64 ((List.length text:Nat):Int))::(AV.int .i64 (((i0+1):Nat):Int))::rx x 16 39 []))) k! (fun x=>ei text bk eG (i0+1) o! x hh bb aR)
     · have np:=of_decide_eq_false f2
       rcases Bool.eq_false_or_eq_true (decide (((i0:Nat):Int)=0)) with f3 | f3
       · have oh:=of_decide_eq_true f3
         have q1:(decide (((i0:Nat):Int)<((List.length text:Nat):Int)))=true:=d!
         have hL:cH env (some .string) (some (AV.str text)) (some (AV.int .i64 ((i0:Nat):Int)))=some (AV.int .u8 (((text.g i0).toNat:Nat):Int)):=ba (j:=i0) o!
         have kB:cH env (some .string) (some (AV.str text)) (some (AV.int .i64 ((i0:Nat):Int)))=some (AV.int .u8 (((text.g i0).toNat:Nat):Int)):=ba (j:=i0) o!
         have yD:cH env (some .string) (some (AV.str text)) (some (AV.int .i64 ((i0:Nat):Int)))=some (AV.int .u8 (((text.g i0).toNat:Nat):Int)):=ba (j:=i0) o!
         have ev:=pk (d) cx ((AV.str text)::rx x 1 13 ((AV.int .i64 ((List.length text:Nat):Int))::(AV.int .i64 ((i0:Nat):Int))::rx x 16 39 [])) hh .ret hh (VV (bT 3 false false .i64 ((i0:Nat):Int) ((List.length text:Nat):Int))<|BB q1<|CN 4<|VV hL<|VV (eP 5 false true .u8 (((text.g i0).toNat:Nat):Int) 97)<|CC<|BB f1<|BB f1<|BB f1<|BB f1<|VV (aJ (a:=some AV.undef) (b:=some (AV.bool false)) f1)<|CN 3<|VV kB<|VV (eP 5 false true .u8 (((text.g i0).toNat:Nat):Int) 48)<|CC<|BB f2<|BB f2<|BB f2<|BB f2<|VV (aJ (a:=some AV.undef) (b:=some (AV.bool false)) f2)<|CC<|FF<|CC<|FF<|CC<|FF<|VV yD<|FF<|VV (dC 5 false true .u8 (((text.g i0).toNat:Nat):Int) 45)<|CN 5<|TT<|CC<|TT<|VV (dC 3 false true .i64 ((i0:Nat):Int) 0)<|TT<|CC<|BB f3<|BB f3<|TT<|VV (aX (a:=some (AV.bool true)) (b:=some AV.undef) f3)<|CC<|TT<|CC<|ZZ) k!
         exact aY.ret false (by simp only[bO,f1,f2,f3,cond_true,cond_false]) ev (cG.refl bb) k!
       · have oh:=of_decide_eq_false f3
         rcases Bool.eq_false_or_eq_true (!(decide ((((text.g i0).toNat:Nat):Int)=45))) with f4 | f4
         · have om:=sS f4
           have q1:(decide (((i0:Nat):Int)<((List.length text:Nat):Int)))=true:=d!
           have hL:cH env (some .string) (some (AV.str text)) (some (AV.int .i64 ((i0:Nat):Int)))=some (AV.int .u8 (((text.g i0).toNat:Nat):Int)):=ba (j:=i0) o!
           have kB:cH env (some .string) (some (AV.str text)) (some (AV.int .i64 ((i0:Nat):Int)))=some (AV.int .u8 (((text.g i0).toNat:Nat):Int)):=ba (j:=i0) o!
           have yD:cH env (some .string) (some (AV.str text)) (some (AV.int .i64 ((i0:Nat):Int)))=some (AV.int .u8 (((text.g i0).toNat:Nat):Int)):=ba (j:=i0) o!
           have ev:=pk (d) cx ((AV.str text)::rx x 1 13 ((AV.int .i64 ((List.length text:Nat):Int))::(AV.int .i64 ((i0:Nat):Int))::rx x 16 39 [])) hh .ret hh (VV (bT 3 false false .i64 ((i0:Nat):Int) ((List.length text:Nat):Int))<|BB q1<|CN 4<|VV hL<|VV (eP 5 false true .u8 (((text.g i0).toNat:Nat):Int) 97)<|CC<|BB f1<|BB f1<|BB f1<|BB f1<|VV (aJ (a:=some AV.undef) (b:=some (AV.bool false)) f1)<|CN 3<|VV kB<|VV (eP 5 false true .u8 (((text.g i0).toNat:Nat):Int) 48)<|CC<|BB f2<|BB f2<|BB f2<|BB f2<|VV (aJ (a:=some AV.undef) (b:=some (AV.bool false)) f2)<|CC<|FF<|CC<|FF<|CC<|FF<|VV yD<|FF<|VV (dC 5 false true .u8 (((text.g i0).toNat:Nat):Int) 45)<|CN 5<|TT<|CC<|TT<|VV (dC 3 false true .i64 ((i0:Nat):Int) 0)<|TT<|CC<|BB f3<|CC<|BB f3<|CC<|TT<|VV (aJ (a:=some (AV.bool true)) (b:=some (AV.bool (!(decide ((((text.g i0).toNat:Nat):Int)=45))))) f3)<|CC<|BB f4<|CC<|ZZ) k!
           exact aY.ret false (by simp only[bO,f1,f2,f3,f4,cond_true,cond_false]) ev (cG.refl bb) k!
         · have om:=sU f4
           have q1:(decide (((i0:Nat):Int)<((List.length text:Nat):Int)))=true:=d!
           have hL:cH env (some .string) (some (AV.str text)) (some (AV.int .i64 ((i0:Nat):Int)))=some (AV.int .u8 (((text.g i0).toNat:Nat):Int)):=ba (j:=i0) o!
           have kB:cH env (some .string) (some (AV.str text)) (some (AV.int .i64 ((i0:Nat):Int)))=some (AV.int .u8 (((text.g i0).toNat:Nat):Int)):=ba (j:=i0) o!
           have yD:cH env (some .string) (some (AV.str text)) (some (AV.int .i64 ((i0:Nat):Int)))=some (AV.int .u8 (((text.g i0).toNat:Nat):Int)):=ba (j:=i0) o!
           have u9:=hJ 3 false true i0 1 o!
           have ev:=pk (d) cx ((AV.str text)::rx x 1 13 ((AV.int .i64 ((List.length text:Nat):Int))::(AV.int .i64 ((i0:Nat):Int))::rx x 16 39 [])) hh .normal hh (VV (bT 3 false false .i64 ((i0:Nat):Int) ((List.length text:Nat):Int))<|BB q1<|CN 4<|VV hL<|VV (eP 5 false true .u8 (((text.g i0).toNat:Nat):Int) 97)<|CC<|BB f1<|BB f1<|BB f1<|BB f1<|VV (aJ (a:=some AV.undef) (b:=some (AV.bool false)) f1)<|CN 3<|VV kB<|VV (eP 5 false true .u8 (((text.g i0).toNat:Nat):Int) 48)<|CC<|BB f2<|BB f2<|BB f2<|BB f2<|VV (aJ (a:=some AV.undef) (b:=some (AV.bool false)) f2)<|CC<|FF<|CC<|FF<|CC<|FF<|VV yD<|FF<|VV (dC 5 false true .u8 (((text.g i0).toNat:Nat):Int) 45)<|CN 5<|TT<|CC<|TT<|VV (dC 3 false true .i64 ((i0:Nat):Int) 0)<|TT<|CC<|BB f3<|CC<|BB f3<|CC<|TT<|VV (aJ (a:=some (AV.bool true)) (b:=some (AV.bool (!(decide ((((text.g i0).toNat:Nat):Int)=45))))) f3)<|CC<|BB f4<|VV u9<|CC<|ZZ) k!
           exact aY.round (by simp only[bO,f1,f2,f3,f4,cond_true,cond_false]) ev (cG.refl bb) (fun x=>((AV.str text)::rx x 1 13 ((AV.int .i64 ((List.length text:Nat):Int))::(AV.int .i64 (((i0+1):Nat):Int))::rx x 16 39 []))) k! (fun x=>ei text bk eG (i0+1) o! x hh bb aR)
def fO (text:List UInt8):Bool:=(bif (decide (text=[])) then false else (bif (decide (16<((List.length text:Nat):Int))) then false else (match (bO text (List.length text) 0) with | none=>true | some BS=>BS)))
theorem eJ {d:Nat} {h:ar} (text:List UInt8) (yG:text.length<2^60) (b4:Tidy h):eD (d+1) (.fn 65) [(AV.str text)] h= .ret (AV.bool (fO text)) h:=by
 rcases Bool.eq_false_or_eq_true (decide (text=[])) with f0 | f0
 · have fH:=of_decide_eq_true f0
   have ev:=pk (d) iP ((AV.str text)::cz 54) h .ret h (CN 2<|VV (Ie 9 false true text [])<|CC<|BB f0<|BB f0<|BB f0<|VV (aX (a:=some (AV.bool true)) (b:=some AV.undef) f0)<|TT<|CC<|ZZ) k!
   have e:fO text=false:=by simp only[fO,f0,cond_true,cond_false]
   rw[e]
   exact az rfl (bz Tryz.func65 pO k! (.inr rfl) ev k!) (Has.refl _) rfl
 · have fH:=of_decide_eq_false f0
   rcases Bool.eq_false_or_eq_true (decide (16<((List.length text:Nat):Int))) with f1 | f1
   · have jn:=of_decide_eq_true f1
     have XE:text.length<2^60:=yG
     have ev:=pk (d) iP ((AV.str text)::cz 54) h .ret h (CN 2<|VV (Ie 9 false true text [])<|CC<|BB f0<|CC<|BB f0<|CC<|BB f0<|VV (dA 3 false true .i64 ((List.length text:Nat):Int) 16)<|VV (aJ (a:=some (AV.bool true)) (b:=some (AV.bool (decide (16<((List.length text:Nat):Int))))) f0)<|BB f1<|CC<|ZZ) k!
     have e:fO text=false:=by simp only[fO,f0,f1,cond_true,cond_false]
     rw[e]
     exact az rfl (bz Tryz.func65 pO k! (.inr rfl) ev k!) (Has.refl _) rfl
   · have jn:=of_decide_eq_false f1
     cases eT:bO text (List.length text) 0 with
     | none=>
       have XE:text.length<2^60:=yG
       obtain ⟨Av,h5,eI,bJ⟩:=aY.n eT (ei (d:=d) (h:=h) text yG (List.length text) 0 o! (fun k_=>(((AV.str text)::AV.undef::(AV.bool false)::AV.undef::AV.undef::AV.undef::(AV.str text)::(AV.bool (decide (text=[])))::(AV.bool (decide (text=[])))::(AV.str text)::(AV.int .i64 ((List.length text:Nat):Int))::(AV.bool (decide (16<((List.length text:Nat):Int))))::(AV.bool (decide (16<((List.length text:Nat):Int))))::(AV.str text)::(AV.int .i64 ((List.length text:Nat):Int))::(AV.int .i64 0)::cz 39):List AV).getD k_ AV.undef) h b4 (Has.refl _))
       have eB:=bJ.y
       have lD:h.nx≤h5.nx:=bJ.n
       have ck:Has h h5:=bJ.a
       have ev:=pk (d) iP ((AV.str text)::cz 54) h .ret h5 (CN 2<|VV (Ie 9 false true text [])<|CC<|BB f0<|CC<|BB f0<|CC<|BB f0<|VV (dA 3 false true .i64 ((List.length text:Nat):Int) 16)<|VV (aJ (a:=some (AV.bool true)) (b:=some (AV.bool (decide (16<((List.length text:Nat):Int))))) f0)<|BB f1<|CN 3<|LL eI<|CC<|ZZ) k!
       have e:fO text=true:=by simp only[fO,f0,f1,eT,cond_true,cond_false]
       rw[e]
       exact az rfl (bz Tryz.func65 pO k! (.inr rfl) ev k!) ck rfl
     | some BS=>
       have XE:text.length<2^60:=yG
       obtain ⟨Av,h5,eI,bJ⟩:=aY.r eT (ei (d:=d) (h:=h) text yG (List.length text) 0 o! (fun k_=>(((AV.str text)::AV.undef::(AV.bool false)::AV.undef::AV.undef::AV.undef::(AV.str text)::(AV.bool (decide (text=[])))::(AV.bool (decide (text=[])))::(AV.str text)::(AV.int .i64 ((List.length text:Nat):Int))::(AV.bool (decide (16<((List.length text:Nat):Int))))::(AV.bool (decide (16<((List.length text:Nat):Int))))::(AV.str text)::(AV.int .i64 ((List.length text:Nat):Int))::(AV.int .i64 0)::cz 39):List AV).getD k_ AV.undef) h b4 (Has.refl _))
       have eB:=bJ.y
       have lD:h.nx≤h5.nx:=bJ.n
       have ck:Has h h5:=bJ.a
       have ev:=pk (d) iP ((AV.str text)::cz 54) h .ret h5 (CN 2<|VV (Ie 9 false true text [])<|CC<|BB f0<|CC<|BB f0<|CC<|BB f0<|VV (dA 3 false true .i64 ((List.length text:Nat):Int) 16)<|VV (aJ (a:=some (AV.bool true)) (b:=some (AV.bool (decide (16<((List.length text:Nat):Int))))) f0)<|BB f1<|CN 3<|LL eI<|ZZ) k!
       have e:fO text=BS:=by simp only[fO,f0,f1,eT,cond_true,cond_false]
       rw[e]
       exact az rfl (bz Tryz.func65 pO k! (.inr rfl) ev k!) ck rfl
noncomputable def dQ:Code:=(Tryz.f57.body).getD .skip
theorem fZ:Tryz.f57.body=some dQ:=by kernel_rfl
def cb (ahead:List aO) (d_:aO):Int:=(bif (!(fO d_.worker)) then 5 else (bif (!(bW d_.ab)) then 1 else (bif (!(bW d_.aP)) then 1 else (bif (!(bW d_.leave)) then 1 else (bif (!(bW d_.out)) then 1 else (bif (decide (0<((ahead.length:Nat):Int))) then (bif (decide (d_.aP<((ahead.g (ahead.length - 1)).aP))) then 8 else 0) else 0))))))
theorem zM {d:Nat} {h:ar} {aB:AV} (ahead:List aO) (d_:aO) (iC:bD h aB ahead) (BM:aD.ok h d_) (b4:Tidy h):eD (d+3) (.fn 57) [aB,(AV.agg [(AV.str d_.worker),(AV.int .i64 d_.ab),(AV.int .i64 d_.aP),(AV.int .i64 d_.leave),(AV.int .i64 d_.out)])] h= .ret (AV.int .i64 (cb ahead d_)) h:=by
 have Im:=iC.small
 rcases Bool.eq_false_or_eq_true (!(fO d_.worker)) with f0 | f0
 · obtain ⟨h1,bm,aL,cu,aE,bh⟩:=cj b4 (aH.cells [(AV.str d_.worker),(AV.int .i64 d_.ab),(AV.int .i64 d_.aP),(AV.int .i64 d_.leave),(AV.int .i64 d_.out)] 37 false)
   have aG:Has h h1:=bh
   have k2:=eJ (d:=d+1) d_.worker BM aL
   have ev:=pk (d+2) dQ (aB::(AV.agg [(AV.str d_.worker),(AV.int .i64 d_.ab),(AV.int .i64 d_.aP),(AV.int .i64 d_.leave),(AV.int .i64 d_.out)])::cz 41) h .ret h1 (NN bm (fun i=>(AV.ptr i 0))<|CN 2<|MM (aw 9 0 (AV.str d_.worker) aE k!)<|EE k2<|CN 2<|BB f0<|CC<|ZZ) k!
   have e:cb ahead d_=5:=by simp only[cb,f0,cond_true,cond_false]
   rw[e]
   exact az rfl (bz Tryz.func57 fZ k! (.inr rfl) ev k!) aG rfl
 · rcases Bool.eq_false_or_eq_true (!(bW d_.ab)) with f1 | f1
   · obtain ⟨h1,bm,aL,cu,aE,bh⟩:=cj b4 (aH.cells [(AV.str d_.worker),(AV.int .i64 d_.ab),(AV.int .i64 d_.aP),(AV.int .i64 d_.leave),(AV.int .i64 d_.out)] 37 false)
     have aG:Has h h1:=bh
     have k2:=eJ (d:=d+1) d_.worker BM aL
     have k4:=aZ (d:=d) d_.ab aL
     have ev:=pk (d+2) dQ (aB::(AV.agg [(AV.str d_.worker),(AV.int .i64 d_.ab),(AV.int .i64 d_.aP),(AV.int .i64 d_.leave),(AV.int .i64 d_.out)])::cz 41) h .ret h1 (NN bm (fun i=>(AV.ptr i 0))<|CN 2<|MM (aw 9 0 (AV.str d_.worker) aE k!)<|EE k2<|CN 2<|BB f0<|CC<|MM (aw 3 1 (AV.int .i64 d_.ab) aE k!)<|EE k4<|CN 2<|BB f1<|BB f1<|CC<|ZZ) k!
     have e:cb ahead d_=1:=by simp only[cb,f0,f1,cond_true,cond_false]
     rw[e]
     exact az rfl (bz Tryz.func57 fZ k! (.inr rfl) ev k!) aG rfl
   · rcases Bool.eq_false_or_eq_true (!(bW d_.aP)) with f2 | f2
     · obtain ⟨h1,bm,aL,cu,aE,bh⟩:=cj b4 (aH.cells [(AV.str d_.worker),(AV.int .i64 d_.ab),(AV.int .i64 d_.aP),(AV.int .i64 d_.leave),(AV.int .i64 d_.out)] 37 false)
       have aG:Has h h1:=bh
       have k2:=eJ (d:=d+1) d_.worker BM aL
       have k4:=aZ (d:=d) d_.ab aL
       have k6:=aZ (d:=d) d_.aP aL
       have ev:=pk (d+2) dQ (aB::(AV.agg [(AV.str d_.worker),(AV.int .i64 d_.ab),(AV.int .i64 d_.aP),(AV.int .i64 d_.leave),(AV.int .i64 d_.out)])::cz 41) h .ret h1 (NN bm (fun i=>(AV.ptr i 0))<|CN 2<|MM (aw 9 0 (AV.str d_.worker) aE k!)<|EE k2<|CN 2<|BB f0<|CC<|MM (aw 3 1 (AV.int .i64 d_.ab) aE k!)<|EE k4<|CN 2<|BB f1<|CC<|MM (aw 3 2 (AV.int .i64 d_.aP) aE k!)<|EE k6<|CN 2<|BB f2<|BB f2<|CC<|ZZ) k!
       have e:cb ahead d_=1:=by simp only[cb,f0,f1,f2,cond_true,cond_false]
       rw[e]
       exact az rfl (bz Tryz.func57 fZ k! (.inr rfl) ev k!) aG rfl
     · rcases Bool.eq_false_or_eq_true (!(bW d_.leave)) with f3 | f3
       · obtain ⟨h1,bm,aL,cu,aE,bh⟩:=cj b4 (aH.cells [(AV.str d_.worker),(AV.int .i64 d_.ab),(AV.int .i64 d_.aP),(AV.int .i64 d_.leave),(AV.int .i64 d_.out)] 37 false)
         have aG:Has h h1:=bh
         have k2:=eJ (d:=d+1) d_.worker BM aL
         have k4:=aZ (d:=d) d_.ab aL
         have k6:=aZ (d:=d) d_.aP aL
         have k8:=aZ (d:=d) d_.leave aL
         have ev:=pk (d+2) dQ (aB::(AV.agg [(AV.str d_.worker),(AV.int .i64 d_.ab),(AV.int .i64 d_.aP),(AV.int .i64 d_.leave),(AV.int .i64 d_.out)])::cz 41) h .ret h1 (NN bm (fun i=>(AV.ptr i 0))<|CN 2<|MM (aw 9 0 (AV.str d_.worker) aE k!)<|EE k2<|CN 2<|BB f0<|CC<|MM (aw 3 1 (AV.int .i64 d_.ab) aE k!)<|EE k4<|CN 2<|BB f1<|CC<|MM (aw 3 2 (AV.int .i64 d_.aP) aE k!)<|EE k6<|CN 2<|BB f2<|CC<|MM (aw 3 3 (AV.int .i64 d_.leave) aE k!)<|EE k8<|CN 2<|BB f3<|BB f3<|CC<|ZZ) k!
         have e:cb ahead d_=1:=by simp only[cb,f0,f1,f2,f3,cond_true,cond_false]
         rw[e]
         exact az rfl (bz Tryz.func57 fZ k! (.inr rfl) ev k!) aG rfl
       · rcases Bool.eq_false_or_eq_true (!(bW d_.out)) with f4 | f4
         · obtain ⟨h1,bm,aL,cu,aE,bh⟩:=cj b4 (aH.cells [(AV.str d_.worker),(AV.int .i64 d_.ab),(AV.int .i64 d_.aP),(AV.int .i64 d_.leave),(AV.int .i64 d_.out)] 37 false)
           have aG:Has h h1:=bh
           have k2:=eJ (d:=d+1) d_.worker BM aL
           have k4:=aZ (d:=d) d_.ab aL
           have k6:=aZ (d:=d) d_.aP aL
           have k8:=aZ (d:=d) d_.leave aL
           have jC:=aZ (d:=d) d_.out aL
           have ev:=pk (d+2) dQ (aB::(AV.agg [(AV.str d_.worker),(AV.int .i64 d_.ab),(AV.int .i64 d_.aP),(AV.int .i64 d_.leave),(AV.int .i64 d_.out)])::cz 41) h .ret h1 (NN bm (fun i=>(AV.ptr i 0))<|CN 2<|MM (aw 9 0 (AV.str d_.worker) aE k!)<|EE k2<|CN 2<|BB f0<|CC<|MM (aw 3 1 (AV.int .i64 d_.ab) aE k!)<|EE k4<|CN 2<|BB f1<|CC<|MM (aw 3 2 (AV.int .i64 d_.aP) aE k!)<|EE k6<|CN 2<|BB f2<|CC<|MM (aw 3 3 (AV.int .i64 d_.leave) aE k!)<|EE k8<|CN 2<|BB f3<|CC<|MM (aw 3 4 (AV.int .i64 d_.out) aE k!)<|EE jC<|CN 2<|BB f4<|CC<|ZZ) k!
           have e:cb ahead d_=1:=by simp only[cb,f0,f1,f2,f3,f4,cond_true,cond_false]
           rw[e]
           exact az rfl (bz Tryz.func57 fZ k! (.inr rfl) ev k!) aG rfl
         · rcases Bool.eq_false_or_eq_true (decide (0<((ahead.length:Nat):Int))) with f5 | f5
           · have ri:=of_decide_eq_true f5
             rcases Bool.eq_false_or_eq_true (decide (d_.aP<((ahead.g (ahead.length - 1)).aP))) with f6 | f6
             · have BT:=of_decide_eq_true f6
               obtain ⟨h1,bm,aL,cu,aE,bh⟩:=cj b4 (aH.cells [(AV.str d_.worker),(AV.int .i64 d_.ab),(AV.int .i64 d_.aP),(AV.int .i64 d_.leave),(AV.int .i64 d_.out)] 37 false)
               have aG:Has h h1:=bh
               have k2:=eJ (d:=d+1) d_.worker BM aL
               have k4:=aZ (d:=d) d_.ab aL
               have k6:=aZ (d:=d) d_.aP aL
               have k8:=aZ (d:=d) d_.leave aL
               have jC:=aZ (d:=d) d_.out aL
               have KR:cJ (some (.slice 37)) (some aB)=some (AV.int .i64 ((ahead.length:Nat):Int)):=iC.len
               have Qk:cJ (some (.slice 37)) (some aB)=some (AV.int .i64 ((ahead.length:Nat):Int)):=iC.len
               have V_:=BH 3 false true ahead.length 1 o! o!
               obtain ⟨GY,GZ,n3⟩:=iC.elem (i:=(ahead.length - 1)) o!
               have BU:c_ env (some (.slice 37)) (some aB) (some (AV.int .i64 ((ahead.length - 1:Nat):Int)))=some (AV.ptr GY GZ):=n3
               have uo:bN env h1 3 (AV.ptr GY (GZ+2))=some (AV.int .i64 ((ahead.g (ahead.length - 1)).aP)):=(iC.has aG).part (t:=3) (j:=2) o! n3 k! rfl
               have ev:=pk (d+2) dQ (aB::(AV.agg [(AV.str d_.worker),(AV.int .i64 d_.ab),(AV.int .i64 d_.aP),(AV.int .i64 d_.leave),(AV.int .i64 d_.out)])::cz 41) h .ret h1 (NN bm (fun i=>(AV.ptr i 0))<|CN 2<|MM (aw 9 0 (AV.str d_.worker) aE k!)<|EE k2<|CN 2<|BB f0<|CC<|MM (aw 3 1 (AV.int .i64 d_.ab) aE k!)<|EE k4<|CN 2<|BB f1<|CC<|MM (aw 3 2 (AV.int .i64 d_.aP) aE k!)<|EE k6<|CN 2<|BB f2<|CC<|MM (aw 3 3 (AV.int .i64 d_.leave) aE k!)<|EE k8<|CN 2<|BB f3<|CC<|MM (aw 3 4 (AV.int .i64 d_.out) aE k!)<|EE jC<|CN 2<|BB f4<|CC<|VV KR<|VV (dA 3 false true .i64 ((ahead.length:Nat):Int) 0)<|CC<|BB f5<|CC<|BB f5<|CC<|BB f5<|VV Qk<|BB f5<|VV V_<|BB f5<|VV BU<|BB f5<|CC<|BB f5<|MM uo<|BB f5<|CC<|BB f5<|MM (aw 3 2 (AV.int .i64 d_.aP) aE k!)<|BB f5<|VV (dA 3 false false .i64 ((ahead.g (ahead.length - 1)).aP) d_.aP)<|VV (aX (a:=some (AV.bool (decide (d_.aP<((ahead.g (ahead.length - 1)).aP))))) (b:=some (AV.bool false)) f5)<|CC<|HH uo<|HH (show AV.same 20 (AV.int .i64 ((ahead.g (ahead.length - 1)).aP)) (AV.int .i64 ((ahead.g (ahead.length - 1)).aP))=true from aQ 19 _ _)<|HH (aw 3 2 (AV.int .i64 d_.aP) aE k!)<|HH (show AV.same 20 (AV.int .i64 d_.aP) (AV.int .i64 d_.aP)=true from aQ 19 _ _)<|BB f6<|CC<|ZZ) k!
               have e:cb ahead d_=8:=by simp only[cb,f0,f1,f2,f3,f4,f5,f6,cond_true,cond_false]
               rw[e]
               exact az rfl (bz Tryz.func57 fZ k! (.inr rfl) ev k!) aG rfl
             · have BT:=of_decide_eq_false f6
               obtain ⟨h1,bm,aL,cu,aE,bh⟩:=cj b4 (aH.cells [(AV.str d_.worker),(AV.int .i64 d_.ab),(AV.int .i64 d_.aP),(AV.int .i64 d_.leave),(AV.int .i64 d_.out)] 37 false)
               have aG:Has h h1:=bh
               have k2:=eJ (d:=d+1) d_.worker BM aL
               have k4:=aZ (d:=d) d_.ab aL
               have k6:=aZ (d:=d) d_.aP aL
               have k8:=aZ (d:=d) d_.leave aL
               have jC:=aZ (d:=d) d_.out aL
               have KR:cJ (some (.slice 37)) (some aB)=some (AV.int .i64 ((ahead.length:Nat):Int)):=iC.len
               have Qk:cJ (some (.slice 37)) (some aB)=some (AV.int .i64 ((ahead.length:Nat):Int)):=iC.len
               have V_:=BH 3 false true ahead.length 1 o! o!
               obtain ⟨GY,GZ,n3⟩:=iC.elem (i:=(ahead.length - 1)) o!
               have BU:c_ env (some (.slice 37)) (some aB) (some (AV.int .i64 ((ahead.length - 1:Nat):Int)))=some (AV.ptr GY GZ):=n3
               have uo:bN env h1 3 (AV.ptr GY (GZ+2))=some (AV.int .i64 ((ahead.g (ahead.length - 1)).aP)):=(iC.has aG).part (t:=3) (j:=2) o! n3 k! rfl
               have ev:=pk (d+2) dQ (aB::(AV.agg [(AV.str d_.worker),(AV.int .i64 d_.ab),(AV.int .i64 d_.aP),(AV.int .i64 d_.leave),(AV.int .i64 d_.out)])::cz 41) h .ret h1 (NN bm (fun i=>(AV.ptr i 0))<|CN 2<|MM (aw 9 0 (AV.str d_.worker) aE k!)<|EE k2<|CN 2<|BB f0<|CC<|MM (aw 3 1 (AV.int .i64 d_.ab) aE k!)<|EE k4<|CN 2<|BB f1<|CC<|MM (aw 3 2 (AV.int .i64 d_.aP) aE k!)<|EE k6<|CN 2<|BB f2<|CC<|MM (aw 3 3 (AV.int .i64 d_.leave) aE k!)<|EE k8<|CN 2<|BB f3<|CC<|MM (aw 3 4 (AV.int .i64 d_.out) aE k!)<|EE jC<|CN 2<|BB f4<|CC<|VV KR<|VV (dA 3 false true .i64 ((ahead.length:Nat):Int) 0)<|CC<|BB f5<|CC<|BB f5<|CC<|BB f5<|VV Qk<|BB f5<|VV V_<|BB f5<|VV BU<|BB f5<|CC<|BB f5<|MM uo<|BB f5<|CC<|BB f5<|MM (aw 3 2 (AV.int .i64 d_.aP) aE k!)<|BB f5<|VV (dA 3 false false .i64 ((ahead.g (ahead.length - 1)).aP) d_.aP)<|VV (aX (a:=some (AV.bool (decide (d_.aP<((ahead.g (ahead.length - 1)).aP))))) (b:=some (AV.bool false)) f5)<|CC<|HH uo<|HH (show AV.same 20 (AV.int .i64 ((ahead.g (ahead.length - 1)).aP)) (AV.int .i64 ((ahead.g (ahead.length - 1)).aP))=true from aQ 19 _ _)<|HH (aw 3 2 (AV.int .i64 d_.aP) aE k!)<|HH (show AV.same 20 (AV.int .i64 d_.aP) (AV.int .i64 d_.aP)=true from aQ 19 _ _)<|BB f6<|CC<|ZZ) k!
               have e:cb ahead d_=0:=by simp only[cb,f0,f1,f2,f3,f4,f5,f6,cond_true,cond_false]
               rw[e]
               exact az rfl (bz Tryz.func57 fZ k! (.inr rfl) ev k!) aG rfl
           · have ri:=of_decide_eq_false f5
             obtain ⟨h1,bm,aL,cu,aE,bh⟩:=cj b4 (aH.cells [(AV.str d_.worker),(AV.int .i64 d_.ab),(AV.int .i64 d_.aP),(AV.int .i64 d_.leave),(AV.int .i64 d_.out)] 37 false)
             have aG:Has h h1:=bh
             have k2:=eJ (d:=d+1) d_.worker BM aL
             have k4:=aZ (d:=d) d_.ab aL
             have k6:=aZ (d:=d) d_.aP aL
             have k8:=aZ (d:=d) d_.leave aL
             have jC:=aZ (d:=d) d_.out aL
             have KR:cJ (some (.slice 37)) (some aB)=some (AV.int .i64 ((ahead.length:Nat):Int)):=iC.len
             have ev:=pk (d+2) dQ (aB::(AV.agg [(AV.str d_.worker),(AV.int .i64 d_.ab),(AV.int .i64 d_.aP),(AV.int .i64 d_.leave),(AV.int .i64 d_.out)])::cz 41) h .ret h1 (NN bm (fun i=>(AV.ptr i 0))<|CN 2<|MM (aw 9 0 (AV.str d_.worker) aE k!)<|EE k2<|CN 2<|BB f0<|CC<|MM (aw 3 1 (AV.int .i64 d_.ab) aE k!)<|EE k4<|CN 2<|BB f1<|CC<|MM (aw 3 2 (AV.int .i64 d_.aP) aE k!)<|EE k6<|CN 2<|BB f2<|CC<|MM (aw 3 3 (AV.int .i64 d_.leave) aE k!)<|EE k8<|CN 2<|BB f3<|CC<|MM (aw 3 4 (AV.int .i64 d_.out) aE k!)<|EE jC<|CN 2<|BB f4<|CC<|VV KR<|VV (dA 3 false true .i64 ((ahead.length:Nat):Int) 0)<|CC<|BB f5<|BB f5<|BB f5<|BB f5<|BB f5<|BB f5<|BB f5<|BB f5<|BB f5<|BB f5<|VV (aJ (a:=some AV.undef) (b:=some (AV.bool false)) f5)<|CC<|FF<|CC<|ZZ) k!
             have e:cb ahead d_=0:=by simp only[cb,f0,f1,f2,f3,f4,f5,cond_true,cond_false]
             rw[e]
             exact az rfl (bz Tryz.func57 fZ k! (.inr rfl) ev k!) aG rfl
noncomputable def kT:Code:=(Tryz.f28.body).getD .skip
theorem rj:Tryz.f28.body=some kT:=by kernel_rfl
def bU (t:aK) (l_:List aO):Int:=(bif (!decide ((bw t)=0)) then (bw t) else (cV l_ 128 (fun j=>cb (List.take j l_) (List.g l_ j))))
theorem rk {d:Nat} {h:ar} {bA:AV} (t:aK) (l_:List aO) (b8:aD.ok h t) (bE:bD h bA l_) (b4:Tidy h):eD (d+7) (.fn 28) [(AV.agg [t.ak,(AV.int .i64 t.rest),(AV.int .i64 t.day)]),bA] h= .ret (AV.int .i64 (bU t l_)) h:=by
 have pP:=bE.small
 rcases Bool.eq_false_or_eq_true (!decide ((bw t)=0)) with f0 | f0
 · have fH:=sS f0
   obtain ⟨h1,bm,aL,cu,aE,bh⟩:=cj b4 (aH.cells [t.ak,(AV.int .i64 t.rest),(AV.int .i64 t.day)] 24 false)
   have aG:Has h h1:=bh
   have k2:=cN (d:=d+1) t (aD.mono aG b8) aL
   have ev:=pk (d+6) kT ((AV.agg [t.ak,(AV.int .i64 t.rest),(AV.int .i64 t.day)])::bA::cz 11) h .ret h1 (NN bm (fun i=>(AV.ptr i 0))<|CC<|MM (aw 24 0 (AV.agg [t.ak,(AV.int .i64 t.rest),(AV.int .i64 t.day)]) aE k!)<|EE k2<|CN 2<|VV (cS 28 false true .i64 (bw t) 0)<|BB f0<|CN 2<|ZZ) k!
   have e:bU t l_=(bw t):=by simp only[bU,f0,cond_true,cond_false]
   rw[e]
   exact az rfl (bz Tryz.func28 rj k! (.inr rfl) ev k!) aG rfl
 · have fH:=sU f0
   obtain ⟨h1,bm,aL,cu,aE,bh⟩:=cj b4 (aH.cells [t.ak,(AV.int .i64 t.rest),(AV.int .i64 t.day)] 24 false)
   have aG:Has h h1:=bh
   have k2:=cN (d:=d+1) t (aD.mono aG b8) aL
   have k4:=um (d:=d+5) l_ 128 (fun j=>cb (List.take j l_) (List.g l_ j)) (bE.has aG) (fun j hj aV hh yy aa fa=>zM (d:=d+2) (List.take j l_) (List.g l_ j) fa (aD.mono aa ((bE.has aG).ok hj)) yy) aL
   have ev:=pk (d+6) kT ((AV.agg [t.ak,(AV.int .i64 t.rest),(AV.int .i64 t.day)])::bA::cz 11) h .ret h1 (NN bm (fun i=>(AV.ptr i 0))<|CC<|MM (aw 24 0 (AV.agg [t.ak,(AV.int .i64 t.rest),(AV.int .i64 t.day)]) aE k!)<|EE k2<|CN 2<|VV (cS 28 false true .i64 (bw t) 0)<|BB f0<|CC<|EE k4<|CC<|ZZ) k!
   have e:bU t l_=(cV l_ 128 (fun j=>cb (List.take j l_) (List.g l_ j))):=by simp only[bU,f0,cond_true,cond_false]
   rw[e]
   exact az rfl (bz Tryz.func28 rj k! (.inr rfl) ev k!) aG rfl
theorem r9 {l:List aO} {n:Int} {P:Nat→Int} (h:cV l n P=0):(l.length:Int)≤n:=by
 unfold cV at h
 by_cases q:n<(l.length:Int)
 · rw[decide_eq_true q] at h;cases h
 · omega
theorem lF {t:aK} {l_:List aO} (h:bU t l_=0):l_.length≤128:=by
 unfold bU at h
 cases e:(!decide (bw t=0)) with
 | true=>rw[e] at h;rw[show bw t=0 from h] at e;cases e
 | false=>rw[e] at h;have:=r9 (n:=128) h;omega
end Go.Proofs.bt
