import Derived.Test.YtaglmdbkfcpbbaaGreatW0
namespace Go.Proofs.bt
open Go.Proofs Ab
set_option maxRecDepth 100000
set_option maxHeartbeats 4000000
set_option linter.unusedVariables false
set_option linter.unusedSimpArgs false
noncomputable def ik:Code:=(Tryz.f31.body).getD .skip
theorem oQ:Tryz.f31.body=some ik:=by kernel_rfl
noncomputable def ff:Code:=(dD ik).getD 0 .skip
def dh (s:List UInt8):Nat→Nat→Option (Bool)
 | 0,_=>none
 | eG+1,i0=>(bif (decide ((((s.g i0).toNat:Nat):Int)<97)) then (bif (decide ((((s.g i0).toNat:Nat):Int)<48)) then (bif (!decide ((((s.g i0).toNat:Nat):Int)=45)) then some false else dh s eG (i0+1)) else (bif (decide (57<(((s.g i0).toNat:Nat):Int))) then (bif (!decide ((((s.g i0).toNat:Nat):Int)=45)) then some false else dh s eG (i0+1)) else dh s eG (i0+1))) else (bif (decide (122<(((s.g i0).toNat:Nat):Int))) then (bif (decide ((((s.g i0).toNat:Nat):Int)<48)) then (bif (!decide ((((s.g i0).toNat:Nat):Int)=45)) then some false else dh s eG (i0+1)) else (bif (decide (57<(((s.g i0).toNat:Nat):Int))) then (bif (!decide ((((s.g i0).toNat:Nat):Int)=45)) then some false else dh s eG (i0+1)) else dh s eG (i0+1))) else dh s eG (i0+1)))
theorem hD {d:Nat} {h:ar} (s:List UInt8) (bk:s.length<2^60):∀(k_ i_:Nat) (_:i_+k_=(List.length s)) (x:Nat→AV) (hh:ar) (bb:Tidy hh) (aR:Has h hh),aY (eD (d)) ff ⟨((AV.str s)::(x 1)::(x 2)::(AV.int .i64 ((i_:Nat):Int))::rx x 4 46 []),hh,[],.no⟩ (.exit 0) hh (fun y=>((AV.str s)::rx y 1 49 [])) (fun r y=>((AV.str s)::(y 1)::(AV.bool r)::rx y 3 47 [])) (dh s k_ i_)
 | 0,i0,qo,x,hh,bb,aR=>by
   have DN:s.length<2^60:=bk
   have q2:(decide (((i0:Nat):Int)<((List.length s:Nat):Int)))=false:=d!
   have ev:=pk (d) ff ((AV.str s)::(x 1)::(x 2)::(AV.int .i64 ((i0:Nat):Int))::rx x 4 46 []) hh (.exit 0) hh (CN 3<|VV (bT 3 false false .i64 ((i0:Nat):Int) ((List.length s:Nat):Int))<|BB q2<|ZZ) k!
   exact aY.out rfl ev (cG.refl bb) k!
 | eG+1,i0,qo,x,hh,bb,aR=>by
   rcases Bool.eq_false_or_eq_true (decide ((((s.g i0).toNat:Nat):Int)<97)) with f1 | f1
   · have jn:=of_decide_eq_true f1
     rcases Bool.eq_false_or_eq_true (decide ((((s.g i0).toNat:Nat):Int)<48)) with f2 | f2
     · have np:=of_decide_eq_true f2
       rcases Bool.eq_false_or_eq_true (!decide ((((s.g i0).toNat:Nat):Int)=45)) with f3 | f3
       · have oh:=sS f3
         have DN:s.length<2^60:=bk
         have q2:(decide (((i0:Nat):Int)<((List.length s:Nat):Int)))=true:=d!
         have nM:cH env (some .string) (some (AV.str s)) (some (AV.int .i64 ((i0:Nat):Int)))=some (AV.int .u8 (((s.g i0).toNat:Nat):Int)):=ba (j:=i0) o!
         have ev:=pk (d) ff ((AV.str s)::(x 1)::(x 2)::(AV.int .i64 ((i0:Nat):Int))::rx x 4 46 []) hh .ret hh (CN 3<|VV (bT 3 false false .i64 ((i0:Nat):Int) ((List.length s:Nat):Int))<|BB q2<|CN 2<|VV nM<|CN 2<|VV (bT 5 false true .u8 (((s.g i0).toNat:Nat):Int) 97)<|CC<|BB f1<|BB f1<|VV (aX (a:=some (AV.bool true)) (b:=some AV.undef) f1)<|CC<|TT<|CC<|TT<|VV (bT 5 false true .u8 (((s.g i0).toNat:Nat):Int) 48)<|TT<|CC<|BB f2<|BB f2<|TT<|VV (aX (a:=some (AV.bool true)) (b:=some AV.undef) f2)<|CN 2<|TT<|CC<|TT<|VV (cS 5 false true .u8 (((s.g i0).toNat:Nat):Int) 45)<|CC<|BB f3<|CC<|ZZ) k!
         exact aY.ret false (by simp only[dh,f1,f2,f3,cond_true,cond_false]) ev (cG.refl bb) k!
       · have oh:=sU f3
         have DN:s.length<2^60:=bk
         have q2:(decide (((i0:Nat):Int)<((List.length s:Nat):Int)))=true:=d!
         have nM:cH env (some .string) (some (AV.str s)) (some (AV.int .i64 ((i0:Nat):Int)))=some (AV.int .u8 (((s.g i0).toNat:Nat):Int)):=ba (j:=i0) o!
         have u7:=hJ 3 false true i0 1 o!
         have ev:=pk (d) ff ((AV.str s)::(x 1)::(x 2)::(AV.int .i64 ((i0:Nat):Int))::rx x 4 46 []) hh .normal hh (CN 3<|VV (bT 3 false false .i64 ((i0:Nat):Int) ((List.length s:Nat):Int))<|BB q2<|CN 2<|VV nM<|CN 2<|VV (bT 5 false true .u8 (((s.g i0).toNat:Nat):Int) 97)<|CC<|BB f1<|BB f1<|VV (aX (a:=some (AV.bool true)) (b:=some AV.undef) f1)<|CC<|TT<|CC<|TT<|VV (bT 5 false true .u8 (((s.g i0).toNat:Nat):Int) 48)<|TT<|CC<|BB f2<|BB f2<|TT<|VV (aX (a:=some (AV.bool true)) (b:=some AV.undef) f2)<|CN 2<|TT<|CC<|TT<|VV (cS 5 false true .u8 (((s.g i0).toNat:Nat):Int) 45)<|CC<|BB f3<|CC<|VV u7<|CC<|ZZ) k!
         exact aY.round (by simp only[dh,f1,f2,f3,cond_true,cond_false]) ev (cG.refl bb) (fun x=>((AV.str s)::(x 1)::(x 2)::(AV.int .i64 (((i0+1):Nat):Int))::rx x 4 46 [])) k! (fun x=>hD s bk eG (i0+1) o! x hh bb aR)
     · have np:=of_decide_eq_false f2
       rcases Bool.eq_false_or_eq_true (decide (57<(((s.g i0).toNat:Nat):Int))) with f3 | f3
       · have oh:=of_decide_eq_true f3
         rcases Bool.eq_false_or_eq_true (!decide ((((s.g i0).toNat:Nat):Int)=45)) with f4 | f4
         · have om:=sS f4
           have DN:s.length<2^60:=bk
           have q2:(decide (((i0:Nat):Int)<((List.length s:Nat):Int)))=true:=d!
           have nM:cH env (some .string) (some (AV.str s)) (some (AV.int .i64 ((i0:Nat):Int)))=some (AV.int .u8 (((s.g i0).toNat:Nat):Int)):=ba (j:=i0) o!
           have ev:=pk (d) ff ((AV.str s)::(x 1)::(x 2)::(AV.int .i64 ((i0:Nat):Int))::rx x 4 46 []) hh .ret hh (CN 3<|VV (bT 3 false false .i64 ((i0:Nat):Int) ((List.length s:Nat):Int))<|BB q2<|CN 2<|VV nM<|CN 2<|VV (bT 5 false true .u8 (((s.g i0).toNat:Nat):Int) 97)<|CC<|BB f1<|BB f1<|VV (aX (a:=some (AV.bool true)) (b:=some AV.undef) f1)<|CC<|TT<|CC<|TT<|VV (bT 5 false true .u8 (((s.g i0).toNat:Nat):Int) 48)<|TT<|CC<|BB f2<|CC<|BB f2<|VV (dA 5 false true .u8 (((s.g i0).toNat:Nat):Int) 57)<|TT<|VV (aJ (a:=some (AV.bool true)) (b:=some (AV.bool (decide (57<(((s.g i0).toNat:Nat):Int))))) f2)<|CN 2<|BB f3<|CC<|BB f3<|VV (cS 5 false true .u8 (((s.g i0).toNat:Nat):Int) 45)<|VV (aX (a:=some (AV.bool (!decide ((((s.g i0).toNat:Nat):Int)=45)))) (b:=some (AV.bool false)) f3)<|BB f4<|CC<|ZZ) k!
           exact aY.ret false (by simp only[dh,f1,f2,f3,f4,cond_true,cond_false]) ev (cG.refl bb) k!
         · have om:=sU f4
           have DN:s.length<2^60:=bk
           have q2:(decide (((i0:Nat):Int)<((List.length s:Nat):Int)))=true:=d!
           have nM:cH env (some .string) (some (AV.str s)) (some (AV.int .i64 ((i0:Nat):Int)))=some (AV.int .u8 (((s.g i0).toNat:Nat):Int)):=ba (j:=i0) o!
           have u8:=hJ 3 false true i0 1 o!
           have ev:=pk (d) ff ((AV.str s)::(x 1)::(x 2)::(AV.int .i64 ((i0:Nat):Int))::rx x 4 46 []) hh .normal hh (CN 3<|VV (bT 3 false false .i64 ((i0:Nat):Int) ((List.length s:Nat):Int))<|BB q2<|CN 2<|VV nM<|CN 2<|VV (bT 5 false true .u8 (((s.g i0).toNat:Nat):Int) 97)<|CC<|BB f1<|BB f1<|VV (aX (a:=some (AV.bool true)) (b:=some AV.undef) f1)<|CC<|TT<|CC<|TT<|VV (bT 5 false true .u8 (((s.g i0).toNat:Nat):Int) 48)<|TT<|CC<|BB f2<|CC<|BB f2<|VV (dA 5 false true .u8 (((s.g i0).toNat:Nat):Int) 57)<|TT<|VV (aJ (a:=some (AV.bool true)) (b:=some (AV.bool (decide (57<(((s.g i0).toNat:Nat):Int))))) f2)<|CN 2<|BB f3<|CC<|BB f3<|VV (cS 5 false true .u8 (((s.g i0).toNat:Nat):Int) 45)<|VV (aX (a:=some (AV.bool (!decide ((((s.g i0).toNat:Nat):Int)=45)))) (b:=some (AV.bool false)) f3)<|BB f4<|CC<|VV u8<|CC<|ZZ) k!
           exact aY.round (by simp only[dh,f1,f2,f3,f4,cond_true,cond_false]) ev (cG.refl bb) (fun x=>((AV.str s)::(x 1)::(x 2)::(AV.int .i64 (((i0+1):Nat):Int))::rx x 4 46 [])) k! (fun x=>hD s bk eG (i0+1) o! x hh bb aR)
       · have oh:=of_decide_eq_false f3
         have DN:s.length<2^60:=bk
         have q2:(decide (((i0:Nat):Int)<((List.length s:Nat):Int)))=true:=d!
         have nM:cH env (some .string) (some (AV.str s)) (some (AV.int .i64 ((i0:Nat):Int)))=some (AV.int .u8 (((s.g i0).toNat:Nat):Int)):=ba (j:=i0) o!
         have u7:=hJ 3 false true i0 1 o!
         have ev:=pk (d) ff ((AV.str s)::(x 1)::(x 2)::(AV.int .i64 ((i0:Nat):Int))::rx x 4 46 []) hh .normal hh (CN 3<|VV (bT 3 false false .i64 ((i0:Nat):Int) ((List.length s:Nat):Int))<|BB q2<|CN 2<|VV nM<|CN 2<|VV (bT 5 false true .u8 (((s.g i0).toNat:Nat):Int) 97)<|CC<|BB f1<|BB f1<|VV (aX (a:=some (AV.bool true)) (b:=some AV.undef) f1)<|CC<|TT<|CC<|TT<|VV (bT 5 false true .u8 (((s.g i0).toNat:Nat):Int) 48)<|TT<|CC<|BB f2<|CC<|BB f2<|VV (dA 5 false true .u8 (((s.g i0).toNat:Nat):Int) 57)<|TT<|VV (aJ (a:=some (AV.bool true)) (b:=some (AV.bool (decide (57<(((s.g i0).toNat:Nat):Int))))) f2)<|CN 2<|BB f3<|BB f3<|VV (aJ (a:=some AV.undef) (b:=some (AV.bool false)) f3)<|FF<|CC<|VV u7<|CC<|ZZ) k!
         exact aY.round (by simp only[dh,f1,f2,f3,cond_true,cond_false]) ev (cG.refl bb) (fun x=>((AV.str s)::(x 1)::(x 2)::(AV.int .i64 (((i0+1):Nat):Int))::rx x 4 46 [])) k! (fun x=>hD s bk eG (i0+1) o! x hh bb aR)
   · have jn:=of_decide_eq_false f1
     rcases Bool.eq_false_or_eq_true (decide (122<(((s.g i0).toNat:Nat):Int))) with f2 | f2
     · have np:=of_decide_eq_true f2
       rcases Bool.eq_false_or_eq_true (decide ((((s.g i0).toNat:Nat):Int)<48)) with f3 | f3
       · have oh:=of_decide_eq_true f3
         rcases Bool.eq_false_or_eq_true (!decide ((((s.g i0).toNat:Nat):Int)=45)) with f4 | f4
         · have om:=sS f4
           have DN:s.length<2^60:=bk
           have q2:(decide (((i0:Nat):Int)<((List.length s:Nat):Int)))=true:=d!
           have nM:cH env (some .string) (some (AV.str s)) (some (AV.int .i64 ((i0:Nat):Int)))=some (AV.int .u8 (((s.g i0).toNat:Nat):Int)):=ba (j:=i0) o!
           have ev:=pk (d) ff ((AV.str s)::(x 1)::(x 2)::(AV.int .i64 ((i0:Nat):Int))::rx x 4 46 []) hh .ret hh (CN 3<|VV (bT 3 false false .i64 ((i0:Nat):Int) ((List.length s:Nat):Int))<|BB q2<|CN 2<|VV nM<|CN 2<|VV (bT 5 false true .u8 (((s.g i0).toNat:Nat):Int) 97)<|CC<|BB f1<|CC<|BB f1<|VV (dA 5 false true .u8 (((s.g i0).toNat:Nat):Int) 122)<|VV (aJ (a:=some (AV.bool true)) (b:=some (AV.bool (decide (122<(((s.g i0).toNat:Nat):Int))))) f1)<|CC<|BB f2<|CC<|BB f2<|VV (bT 5 false true .u8 (((s.g i0).toNat:Nat):Int) 48)<|BB f2<|CC<|BB f3<|BB f3<|BB f2<|VV (aX (a:=some (AV.bool true)) (b:=some AV.undef) f3)<|VV (aX (a:=some (AV.bool true)) (b:=some (AV.bool false)) f2)<|CC<|TT<|CC<|TT<|VV (cS 5 false true .u8 (((s.g i0).toNat:Nat):Int) 45)<|CC<|BB f4<|CC<|ZZ) k!
           exact aY.ret false (by simp only[dh,f1,f2,f3,f4,cond_true,cond_false]) ev (cG.refl bb) k!
         · have om:=sU f4
           have DN:s.length<2^60:=bk
           have q2:(decide (((i0:Nat):Int)<((List.length s:Nat):Int)))=true:=d!
           have nM:cH env (some .string) (some (AV.str s)) (some (AV.int .i64 ((i0:Nat):Int)))=some (AV.int .u8 (((s.g i0).toNat:Nat):Int)):=ba (j:=i0) o!
           have u8:=hJ 3 false true i0 1 o!
           have ev:=pk (d) ff ((AV.str s)::(x 1)::(x 2)::(AV.int .i64 ((i0:Nat):Int))::rx x 4 46 []) hh .normal hh (CN 3<|VV (bT 3 false false .i64 ((i0:Nat):Int) ((List.length s:Nat):Int))<|BB q2<|CN 2<|VV nM<|CN 2<|VV (bT 5 false true .u8 (((s.g i0).toNat:Nat):Int) 97)<|CC<|BB f1<|CC<|BB f1<|VV (dA 5 false true .u8 (((s.g i0).toNat:Nat):Int) 122)<|VV (aJ (a:=some (AV.bool true)) (b:=some (AV.bool (decide (122<(((s.g i0).toNat:Nat):Int))))) f1)<|CC<|BB f2<|CC<|BB f2<|VV (bT 5 false true .u8 (((s.g i0).toNat:Nat):Int) 48)<|BB f2<|CC<|BB f3<|BB f3<|BB f2<|VV (aX (a:=some (AV.bool true)) (b:=some AV.undef) f3)<|VV (aX (a:=some (AV.bool true)) (b:=some (AV.bool false)) f2)<|CC<|TT<|CC<|TT<|VV (cS 5 false true .u8 (((s.g i0).toNat:Nat):Int) 45)<|CC<|BB f4<|CC<|VV u8<|CC<|ZZ) k!
           exact aY.round (by simp only[dh,f1,f2,f3,f4,cond_true,cond_false]) ev (cG.refl bb) (fun x=>((AV.str s)::(x 1)::(x 2)::(AV.int .i64 (((i0+1):Nat):Int))::rx x 4 46 [])) k! (fun x=>hD s bk eG (i0+1) o! x hh bb aR)
       · have oh:=of_decide_eq_false f3
         rcases Bool.eq_false_or_eq_true (decide (57<(((s.g i0).toNat:Nat):Int))) with f4 | f4
         · have om:=of_decide_eq_true f4
           rcases Bool.eq_false_or_eq_true (!decide ((((s.g i0).toNat:Nat):Int)=45)) with f5 | f5
           · have ri:=sS f5
             have DN:s.length<2^60:=bk
             have q2:(decide (((i0:Nat):Int)<((List.length s:Nat):Int)))=true:=d!
             have nM:cH env (some .string) (some (AV.str s)) (some (AV.int .i64 ((i0:Nat):Int)))=some (AV.int .u8 (((s.g i0).toNat:Nat):Int)):=ba (j:=i0) o!
             have ev:=pk (d) ff ((AV.str s)::(x 1)::(x 2)::(AV.int .i64 ((i0:Nat):Int))::rx x 4 46 []) hh .ret hh (CN 3<|VV (bT 3 false false .i64 ((i0:Nat):Int) ((List.length s:Nat):Int))<|BB q2<|CN 2<|VV nM<|CN 2<|VV (bT 5 false true .u8 (((s.g i0).toNat:Nat):Int) 97)<|CC<|BB f1<|CC<|BB f1<|VV (dA 5 false true .u8 (((s.g i0).toNat:Nat):Int) 122)<|VV (aJ (a:=some (AV.bool true)) (b:=some (AV.bool (decide (122<(((s.g i0).toNat:Nat):Int))))) f1)<|CC<|BB f2<|CC<|BB f2<|VV (bT 5 false true .u8 (((s.g i0).toNat:Nat):Int) 48)<|BB f2<|CC<|BB f3<|CC<|BB f3<|VV (dA 5 false true .u8 (((s.g i0).toNat:Nat):Int) 57)<|BB f2<|VV (aJ (a:=some (AV.bool true)) (b:=some (AV.bool (decide (57<(((s.g i0).toNat:Nat):Int))))) f3)<|VV (aX (a:=some (AV.bool (decide (57<(((s.g i0).toNat:Nat):Int))))) (b:=some (AV.bool false)) f2)<|CC<|BB f4<|CC<|BB f4<|VV (cS 5 false true .u8 (((s.g i0).toNat:Nat):Int) 45)<|VV (aX (a:=some (AV.bool (!decide ((((s.g i0).toNat:Nat):Int)=45)))) (b:=some (AV.bool false)) f4)<|BB f5<|CC<|ZZ) k!
             exact aY.ret false (by simp only[dh,f1,f2,f3,f4,f5,cond_true,cond_false]) ev (cG.refl bb) k!
           · have ri:=sU f5
             have DN:s.length<2^60:=bk
             have q2:(decide (((i0:Nat):Int)<((List.length s:Nat):Int)))=true:=d!
             have nM:cH env (some .string) (some (AV.str s)) (some (AV.int .i64 ((i0:Nat):Int)))=some (AV.int .u8 (((s.g i0).toNat:Nat):Int)):=ba (j:=i0) o!
             have u9:=hJ 3 false true i0 1 o!
             have ev:=pk (d) ff ((AV.str s)::(x 1)::(x 2)::(AV.int .i64 ((i0:Nat):Int))::rx x 4 46 []) hh .normal hh (CN 3<|VV (bT 3 false false .i64 ((i0:Nat):Int) ((List.length s:Nat):Int))<|BB q2<|CN 2<|VV nM<|CN 2<|VV (bT 5 false true .u8 (((s.g i0).toNat:Nat):Int) 97)<|CC<|BB f1<|CC<|BB f1<|VV (dA 5 false true .u8 (((s.g i0).toNat:Nat):Int) 122)<|VV (aJ (a:=some (AV.bool true)) (b:=some (AV.bool (decide (122<(((s.g i0).toNat:Nat):Int))))) f1)<|CC<|BB f2<|CC<|BB f2<|VV (bT 5 false true .u8 (((s.g i0).toNat:Nat):Int) 48)<|BB f2<|CC<|BB f3<|CC<|BB f3<|VV (dA 5 false true .u8 (((s.g i0).toNat:Nat):Int) 57)<|BB f2<|VV (aJ (a:=some (AV.bool true)) (b:=some (AV.bool (decide (57<(((s.g i0).toNat:Nat):Int))))) f3)<|VV (aX (a:=some (AV.bool (decide (57<(((s.g i0).toNat:Nat):Int))))) (b:=some (AV.bool false)) f2)<|CC<|BB f4<|CC<|BB f4<|VV (cS 5 false true .u8 (((s.g i0).toNat:Nat):Int) 45)<|VV (aX (a:=some (AV.bool (!decide ((((s.g i0).toNat:Nat):Int)=45)))) (b:=some (AV.bool false)) f4)<|BB f5<|CC<|VV u9<|CC<|ZZ) k!
             exact aY.round (by simp only[dh,f1,f2,f3,f4,f5,cond_true,cond_false]) ev (cG.refl bb) (fun x=>((AV.str s)::(x 1)::(x 2)::(AV.int .i64 (((i0+1):Nat):Int))::rx x 4 46 [])) k! (fun x=>hD s bk eG (i0+1) o! x hh bb aR)
         · have om:=of_decide_eq_false f4
           have DN:s.length<2^60:=bk
           have q2:(decide (((i0:Nat):Int)<((List.length s:Nat):Int)))=true:=d!
           have nM:cH env (some .string) (some (AV.str s)) (some (AV.int .i64 ((i0:Nat):Int)))=some (AV.int .u8 (((s.g i0).toNat:Nat):Int)):=ba (j:=i0) o!
           have u8:=hJ 3 false true i0 1 o!
           have ev:=pk (d) ff ((AV.str s)::(x 1)::(x 2)::(AV.int .i64 ((i0:Nat):Int))::rx x 4 46 []) hh .normal hh (CN 3<|VV (bT 3 false false .i64 ((i0:Nat):Int) ((List.length s:Nat):Int))<|BB q2<|CN 2<|VV nM<|CN 2<|VV (bT 5 false true .u8 (((s.g i0).toNat:Nat):Int) 97)<|CC<|BB f1<|CC<|BB f1<|VV (dA 5 false true .u8 (((s.g i0).toNat:Nat):Int) 122)<|VV (aJ (a:=some (AV.bool true)) (b:=some (AV.bool (decide (122<(((s.g i0).toNat:Nat):Int))))) f1)<|CC<|BB f2<|CC<|BB f2<|VV (bT 5 false true .u8 (((s.g i0).toNat:Nat):Int) 48)<|BB f2<|CC<|BB f3<|CC<|BB f3<|VV (dA 5 false true .u8 (((s.g i0).toNat:Nat):Int) 57)<|BB f2<|VV (aJ (a:=some (AV.bool true)) (b:=some (AV.bool (decide (57<(((s.g i0).toNat:Nat):Int))))) f3)<|VV (aX (a:=some (AV.bool (decide (57<(((s.g i0).toNat:Nat):Int))))) (b:=some (AV.bool false)) f2)<|CC<|BB f4<|BB f4<|VV (aJ (a:=some AV.undef) (b:=some (AV.bool false)) f4)<|FF<|CC<|VV u8<|CC<|ZZ) k!
           exact aY.round (by simp only[dh,f1,f2,f3,f4,cond_true,cond_false]) ev (cG.refl bb) (fun x=>((AV.str s)::(x 1)::(x 2)::(AV.int .i64 (((i0+1):Nat):Int))::rx x 4 46 [])) k! (fun x=>hD s bk eG (i0+1) o! x hh bb aR)
     · have np:=of_decide_eq_false f2
       have DN:s.length<2^60:=bk
       have q2:(decide (((i0:Nat):Int)<((List.length s:Nat):Int)))=true:=d!
       have nM:cH env (some .string) (some (AV.str s)) (some (AV.int .i64 ((i0:Nat):Int)))=some (AV.int .u8 (((s.g i0).toNat:Nat):Int)):=ba (j:=i0) o!
       have u6:=hJ 3 false true i0 1 o!
       have ev:=pk (d) ff ((AV.str s)::(x 1)::(x 2)::(AV.int .i64 ((i0:Nat):Int))::rx x 4 46 []) hh .normal hh (CN 3<|VV (bT 3 false false .i64 ((i0:Nat):Int) ((List.length s:Nat):Int))<|BB q2<|CN 2<|VV nM<|CN 2<|VV (bT 5 false true .u8 (((s.g i0).toNat:Nat):Int) 97)<|CC<|BB f1<|CC<|BB f1<|VV (dA 5 false true .u8 (((s.g i0).toNat:Nat):Int) 122)<|VV (aJ (a:=some (AV.bool true)) (b:=some (AV.bool (decide (122<(((s.g i0).toNat:Nat):Int))))) f1)<|CC<|BB f2<|BB f2<|BB f2<|BB f2<|VV (aJ (a:=some AV.undef) (b:=some (AV.bool false)) f2)<|CC<|FF<|FF<|CC<|FF<|CC<|VV u6<|CC<|ZZ) k!
       exact aY.round (by simp only[dh,f1,f2,cond_true,cond_false]) ev (cG.refl bb) (fun x=>((AV.str s)::(x 1)::(x 2)::(AV.int .i64 (((i0+1):Nat):Int))::rx x 4 46 [])) k! (fun x=>hD s bk eG (i0+1) o! x hh bb aR)
def dS (s:List UInt8):Bool:=(bif (decide (((List.length s:Nat):Int)=0)) then false else (bif (decide (16<((List.length s:Nat):Int))) then false else (bif (decide ((((s.g 0).toNat:Nat):Int)<97)) then false else (bif (decide (122<(((s.g 0).toNat:Nat):Int))) then false else (match (dh s (List.length s) 0) with | none=>true | some Wk=>Wk)))))
theorem eV {d:Nat} {h:ar} (s:List UInt8) (hU:s.length<2^60) (b4:Tidy h):eD (d+1) (.fn 31) [(AV.str s)] h= .ret (AV.bool (dS s)) h:=by
 rcases Bool.eq_false_or_eq_true (decide (((List.length s:Nat):Int)=0)) with f0 | f0
 · have fH:=of_decide_eq_true f0
   have DN:s.length<2^60:=hU
   have ev:=pk (d) ik ((AV.str s)::cz 49) h .ret h (CN 3<|VV (dC 3 false true .i64 ((List.length s:Nat):Int) 0)<|CC<|BB f0<|BB f0<|BB f0<|VV (aX (a:=some (AV.bool true)) (b:=some AV.undef) f0)<|CC<|TT<|TT<|TT<|CN 2<|TT<|TT<|TT<|CC<|TT<|CC<|ZZ) k!
   have e:dS s=false:=by simp only[dS,f0,cond_true,cond_false]
   rw[e]
   exact az rfl (bz Tryz.func31 oQ k! (.inr rfl) ev k!) (Has.refl _) rfl
 · have fH:=of_decide_eq_false f0
   rcases Bool.eq_false_or_eq_true (decide (16<((List.length s:Nat):Int))) with f1 | f1
   · have jn:=of_decide_eq_true f1
     have DN:s.length<2^60:=hU
     have ev:=pk (d) ik ((AV.str s)::cz 49) h .ret h (CN 3<|VV (dC 3 false true .i64 ((List.length s:Nat):Int) 0)<|CC<|BB f0<|CC<|BB f0<|CC<|BB f0<|VV (dA 3 false true .i64 ((List.length s:Nat):Int) 16)<|VV (aJ (a:=some (AV.bool true)) (b:=some (AV.bool (decide (16<((List.length s:Nat):Int))))) f0)<|CC<|BB f1<|BB f1<|BB f1<|VV (aX (a:=some (AV.bool true)) (b:=some AV.undef) f1)<|CC<|TT<|TT<|TT<|CC<|TT<|CC<|ZZ) k!
     have e:dS s=false:=by simp only[dS,f0,f1,cond_true,cond_false]
     rw[e]
     exact az rfl (bz Tryz.func31 oQ k! (.inr rfl) ev k!) (Has.refl _) rfl
   · have jn:=of_decide_eq_false f1
     rcases Bool.eq_false_or_eq_true (decide ((((s.g 0).toNat:Nat):Int)<97)) with f2 | f2
     · have np:=of_decide_eq_true f2
       have DN:s.length<2^60:=hU
       have kB:cH env (some .string) (some (AV.str s)) (some (AV.int .i64 0))=some (AV.int .u8 (((s.g 0).toNat:Nat):Int)):=ba (j:=0) o!
       have ev:=pk (d) ik ((AV.str s)::cz 49) h .ret h (CN 3<|VV (dC 3 false true .i64 ((List.length s:Nat):Int) 0)<|CC<|BB f0<|CC<|BB f0<|CC<|BB f0<|VV (dA 3 false true .i64 ((List.length s:Nat):Int) 16)<|VV (aJ (a:=some (AV.bool true)) (b:=some (AV.bool (decide (16<((List.length s:Nat):Int))))) f0)<|CC<|BB f1<|CC<|BB f1<|VV kB<|BB f1<|VV (bT 5 false true .u8 (((s.g 0).toNat:Nat):Int) 97)<|VV (aJ (a:=some (AV.bool true)) (b:=some (AV.bool (decide ((((s.g 0).toNat:Nat):Int)<97)))) f1)<|CC<|BB f2<|BB f2<|BB f2<|VV (aX (a:=some (AV.bool true)) (b:=some AV.undef) f2)<|TT<|CC<|ZZ) k!
       have e:dS s=false:=by simp only[dS,f0,f1,f2,cond_true,cond_false]
       rw[e]
       exact az rfl (bz Tryz.func31 oQ k! (.inr rfl) ev k!) (Has.refl _) rfl
     · have np:=of_decide_eq_false f2
       rcases Bool.eq_false_or_eq_true (decide (122<(((s.g 0).toNat:Nat):Int))) with f3 | f3
       · have oh:=of_decide_eq_true f3
         have DN:s.length<2^60:=hU
         have kB:cH env (some .string) (some (AV.str s)) (some (AV.int .i64 0))=some (AV.int .u8 (((s.g 0).toNat:Nat):Int)):=ba (j:=0) o!
         have yD:cH env (some .string) (some (AV.str s)) (some (AV.int .i64 0))=some (AV.int .u8 (((s.g 0).toNat:Nat):Int)):=ba (j:=0) o!
         have ev:=pk (d) ik ((AV.str s)::cz 49) h .ret h (CN 3<|VV (dC 3 false true .i64 ((List.length s:Nat):Int) 0)<|CC<|BB f0<|CC<|BB f0<|CC<|BB f0<|VV (dA 3 false true .i64 ((List.length s:Nat):Int) 16)<|VV (aJ (a:=some (AV.bool true)) (b:=some (AV.bool (decide (16<((List.length s:Nat):Int))))) f0)<|CC<|BB f1<|CC<|BB f1<|VV kB<|BB f1<|VV (bT 5 false true .u8 (((s.g 0).toNat:Nat):Int) 97)<|VV (aJ (a:=some (AV.bool true)) (b:=some (AV.bool (decide ((((s.g 0).toNat:Nat):Int)<97)))) f1)<|CC<|BB f2<|CC<|BB f2<|VV yD<|BB f2<|VV (dA 5 false true .u8 (((s.g 0).toNat:Nat):Int) 122)<|VV (aJ (a:=some (AV.bool true)) (b:=some (AV.bool (decide (122<(((s.g 0).toNat:Nat):Int))))) f2)<|BB f3<|CC<|ZZ) k!
         have e:dS s=false:=by simp only[dS,f0,f1,f2,f3,cond_true,cond_false]
         rw[e]
         exact az rfl (bz Tryz.func31 oQ k! (.inr rfl) ev k!) (Has.refl _) rfl
       · have oh:=of_decide_eq_false f3
         cases BY:dh s (List.length s) 0 with
         | none=>
           have DN:s.length<2^60:=hU
           have kB:cH env (some .string) (some (AV.str s)) (some (AV.int .i64 0))=some (AV.int .u8 (((s.g 0).toNat:Nat):Int)):=ba (j:=0) o!
           have yD:cH env (some .string) (some (AV.str s)) (some (AV.int .i64 0))=some (AV.int .u8 (((s.g 0).toNat:Nat):Int)):=ba (j:=0) o!
           obtain ⟨Y4,h9,Fz,FA⟩:=aY.n BY (hD (d:=d) (h:=h) s hU (List.length s) 0 o! (fun k_=>(((AV.str s)::AV.undef::(AV.bool false)::(AV.int .i64 0)::AV.undef::(AV.str s)::(AV.int .i64 ((List.length s:Nat):Int))::(AV.bool (decide (((List.length s:Nat):Int)=0)))::(AV.bool (decide (((List.length s:Nat):Int)=0)))::(AV.str s)::(AV.int .i64 ((List.length s:Nat):Int))::(AV.bool (decide (16<((List.length s:Nat):Int))))::(AV.bool (decide (16<((List.length s:Nat):Int))))::(AV.bool (decide (16<((List.length s:Nat):Int))))::(AV.str s)::(AV.int .u8 (((s.g 0).toNat:Nat):Int))::(AV.bool (decide ((((s.g 0).toNat:Nat):Int)<97)))::(AV.bool (decide ((((s.g 0).toNat:Nat):Int)<97)))::(AV.bool (decide ((((s.g 0).toNat:Nat):Int)<97)))::(AV.str s)::(AV.int .u8 (((s.g 0).toNat:Nat):Int))::(AV.bool (decide (122<(((s.g 0).toNat:Nat):Int))))::(AV.bool (decide (122<(((s.g 0).toNat:Nat):Int))))::cz 27):List AV).getD k_ AV.undef) h b4 (Has.refl _))
           have dZ:=FA.y
           have Wl:h.nx≤h9.nx:=FA.n
           have g8:Has h h9:=FA.a
           have ev:=pk (d) ik ((AV.str s)::cz 49) h .ret h9 (CN 3<|VV (dC 3 false true .i64 ((List.length s:Nat):Int) 0)<|CC<|BB f0<|CC<|BB f0<|CC<|BB f0<|VV (dA 3 false true .i64 ((List.length s:Nat):Int) 16)<|VV (aJ (a:=some (AV.bool true)) (b:=some (AV.bool (decide (16<((List.length s:Nat):Int))))) f0)<|CC<|BB f1<|CC<|BB f1<|VV kB<|BB f1<|VV (bT 5 false true .u8 (((s.g 0).toNat:Nat):Int) 97)<|VV (aJ (a:=some (AV.bool true)) (b:=some (AV.bool (decide ((((s.g 0).toNat:Nat):Int)<97)))) f1)<|CC<|BB f2<|CC<|BB f2<|VV yD<|BB f2<|VV (dA 5 false true .u8 (((s.g 0).toNat:Nat):Int) 122)<|VV (aJ (a:=some (AV.bool true)) (b:=some (AV.bool (decide (122<(((s.g 0).toNat:Nat):Int))))) f2)<|BB f3<|CC<|LL Fz<|CC<|ZZ) k!
           have e:dS s=true:=by simp only[dS,f0,f1,f2,f3,BY,cond_true,cond_false]
           rw[e]
           exact az rfl (bz Tryz.func31 oQ k! (.inr rfl) ev k!) g8 rfl
         | some Wk=>
           have DN:s.length<2^60:=hU
           have kB:cH env (some .string) (some (AV.str s)) (some (AV.int .i64 0))=some (AV.int .u8 (((s.g 0).toNat:Nat):Int)):=ba (j:=0) o!
           have yD:cH env (some .string) (some (AV.str s)) (some (AV.int .i64 0))=some (AV.int .u8 (((s.g 0).toNat:Nat):Int)):=ba (j:=0) o!
           obtain ⟨Y4,h9,Fz,FA⟩:=aY.r BY (hD (d:=d) (h:=h) s hU (List.length s) 0 o! (fun k_=>(((AV.str s)::AV.undef::(AV.bool false)::(AV.int .i64 0)::AV.undef::(AV.str s)::(AV.int .i64 ((List.length s:Nat):Int))::(AV.bool (decide (((List.length s:Nat):Int)=0)))::(AV.bool (decide (((List.length s:Nat):Int)=0)))::(AV.str s)::(AV.int .i64 ((List.length s:Nat):Int))::(AV.bool (decide (16<((List.length s:Nat):Int))))::(AV.bool (decide (16<((List.length s:Nat):Int))))::(AV.bool (decide (16<((List.length s:Nat):Int))))::(AV.str s)::(AV.int .u8 (((s.g 0).toNat:Nat):Int))::(AV.bool (decide ((((s.g 0).toNat:Nat):Int)<97)))::(AV.bool (decide ((((s.g 0).toNat:Nat):Int)<97)))::(AV.bool (decide ((((s.g 0).toNat:Nat):Int)<97)))::(AV.str s)::(AV.int .u8 (((s.g 0).toNat:Nat):Int))::(AV.bool (decide (122<(((s.g 0).toNat:Nat):Int))))::(AV.bool (decide (122<(((s.g 0).toNat:Nat):Int))))::cz 27):List AV).getD k_ AV.undef) h b4 (Has.refl _))
           have dZ:=FA.y
           have Wl:h.nx≤h9.nx:=FA.n
           have g8:Has h h9:=FA.a
           have ev:=pk (d) ik ((AV.str s)::cz 49) h .ret h9 (CN 3<|VV (dC 3 false true .i64 ((List.length s:Nat):Int) 0)<|CC<|BB f0<|CC<|BB f0<|CC<|BB f0<|VV (dA 3 false true .i64 ((List.length s:Nat):Int) 16)<|VV (aJ (a:=some (AV.bool true)) (b:=some (AV.bool (decide (16<((List.length s:Nat):Int))))) f0)<|CC<|BB f1<|CC<|BB f1<|VV kB<|BB f1<|VV (bT 5 false true .u8 (((s.g 0).toNat:Nat):Int) 97)<|VV (aJ (a:=some (AV.bool true)) (b:=some (AV.bool (decide ((((s.g 0).toNat:Nat):Int)<97)))) f1)<|CC<|BB f2<|CC<|BB f2<|VV yD<|BB f2<|VV (dA 5 false true .u8 (((s.g 0).toNat:Nat):Int) 122)<|VV (aJ (a:=some (AV.bool true)) (b:=some (AV.bool (decide (122<(((s.g 0).toNat:Nat):Int))))) f2)<|BB f3<|CC<|LL Fz<|ZZ) k!
           have e:dS s=Wk:=by simp only[dS,f0,f1,f2,f3,BY,cond_true,cond_false]
           rw[e]
           exact az rfl (bz Tryz.func31 oQ k! (.inr rfl) ev k!) g8 rfl
noncomputable def lO:Code:=(Tryz.f25.body).getD .skip
theorem yM:Tryz.f25.body=some lO:=by kernel_rfl
noncomputable def kV:Code:=(dD lO).getD 0 .skip
def dy (t:aK) (ab:Int) (ae:Int):Nat→Nat→Option (Int)
 | 0,_=>none
 | eG+1,i0=>(bif (decide (ab≤((t.rows.g i0).ab))) then (bif (decide (ae≤((t.rows.g i0).ae))) then some ((t.rows.g i0).out) else dy t ab ae eG (i0+1)) else dy t ab ae eG (i0+1))
theorem lP {d:Nat} {h:ar} (ab:Int) (ae:Int) (t:aK) (cC:Nat) (bk:bD h t.ak t.rows) (l8:aD.ok h t):∀(k_ i_:Nat) (_:i_+k_=t.rows.length) (x:Nat→AV) (hh:ar) (bb:Tidy hh) (aR:Has h hh) (dg:hh.get cC=some (aH.cells [t.ak,(AV.int .i64 t.rest),(AV.int .i64 t.day)] 24 false)),aY (eD (d)) kV ⟨((x 0)::(AV.int .i64 ab)::(AV.int .i64 ae)::(AV.ptr cC 0)::rx x 4 3 ((AV.int .i64 ((i_:Nat):Int))::rx x 8 31 [])),hh,[],.no⟩ (.exit 0) hh (fun y=>((y 0)::(AV.int .i64 ab)::(AV.int .i64 ae)::(AV.ptr cC 0)::rx y 4 35 [])) (fun r y=>((y 0)::(AV.int .i64 ab)::(AV.int .i64 ae)::(AV.ptr cC 0)::(y 4)::(y 5)::(AV.int .i64 r)::rx y 7 32 [])) (dy t ab ae k_ i_)
 | 0,i0,qo,x,hh,bb,aR,dg=>by
   have fK:=bk.small
   have sW:=bb _ _ dg
   have hS:cJ (some (.slice 67)) (some t.ak)=some (AV.int .i64 ((t.rows.length:Nat):Int)):=(bk.has aR).len
   have q2:(decide (((i0:Nat):Int)<((t.rows.length:Nat):Int)))=false:=d!
   have ev:=pk (d) kV ((x 0)::(AV.int .i64 ab)::(AV.int .i64 ae)::(AV.ptr cC 0)::rx x 4 3 ((AV.int .i64 ((i0:Nat):Int))::rx x 8 31 [])) hh (.exit 0) hh (CN 2<|MM (aw 22 0 t.ak dg k!)<|VV hS<|VV (bT 3 false false .i64 ((i0:Nat):Int) ((t.rows.length:Nat):Int))<|BB q2<|ZZ) k!
   exact aY.out rfl ev (cG.refl bb) k!
 | eG+1,i0,qo,x,hh,bb,aR,dg=>by
   have fK:=bk.small
   have sW:=bb _ _ dg
   rcases Bool.eq_false_or_eq_true (decide (ab≤((t.rows.g i0).ab))) with f1 | f1
   · have jn:=of_decide_eq_true f1
     rcases Bool.eq_false_or_eq_true (decide (ae≤((t.rows.g i0).ae))) with f2 | f2
     · have np:=of_decide_eq_true f2
       have hS:cJ (some (.slice 67)) (some t.ak)=some (AV.int .i64 ((t.rows.length:Nat):Int)):=(bk.has aR).len
       have q2:(decide (((i0:Nat):Int)<((t.rows.length:Nat):Int)))=true:=d!
       obtain ⟨p4,q5,js⟩:=(bk.has aR).elem (i:=i0) o!
       have nM:c_ env (some (.slice 67)) (some t.ak) (some (AV.int .i64 ((i0:Nat):Int)))=some (AV.ptr p4 q5):=js
       have wR:bN env hh 3 (AV.ptr p4 (q5+0))=some (AV.int .i64 ((t.rows.g i0).ab)):=(bk.has aR).part (t:=3) (j:=0) o! js k! rfl
       obtain ⟨p9,Io,yN⟩:=(bk.has aR).elem (i:=i0) o!
       have Il:c_ env (some (.slice 67)) (some t.ak) (some (AV.int .i64 ((i0:Nat):Int)))=some (AV.ptr p9 Io):=yN
       have BZ:bN env hh 3 (AV.ptr p9 (Io+1))=some (AV.int .i64 ((t.rows.g i0).ae)):=(bk.has aR).part (t:=3) (j:=1) o! yN k! rfl
       obtain ⟨XJ,XK,OQ⟩:=(bk.has aR).elem (i:=i0) o!
       have Wm:c_ env (some (.slice 67)) (some t.ak) (some (AV.int .i64 ((i0:Nat):Int)))=some (AV.ptr XJ XK):=OQ
       have Wn:bN env hh 3 (AV.ptr XJ (XK+2))=some (AV.int .i64 ((t.rows.g i0).out)):=(bk.has aR).part (t:=3) (j:=2) o! OQ k! rfl
       have ev:=pk (d) kV ((x 0)::(AV.int .i64 ab)::(AV.int .i64 ae)::(AV.ptr cC 0)::rx x 4 3 ((AV.int .i64 ((i0:Nat):Int))::rx x 8 31 [])) hh .ret hh (CN 2<|MM (aw 22 0 t.ak dg k!)<|VV hS<|VV (bT 3 false false .i64 ((i0:Nat):Int) ((t.rows.length:Nat):Int))<|BB q2<|CC<|MM (aw 22 0 t.ak dg k!)<|CC<|VV nM<|CC<|MM wR<|CC<|VV (eP 3 false false .i64 ((t.rows.g i0).ab) ab)<|CC<|BB f1<|CC<|BB f1<|MM (aw 22 0 t.ak dg k!)<|BB f1<|CC<|BB f1<|VV Il<|BB f1<|CC<|BB f1<|MM BZ<|BB f1<|CC<|BB f1<|VV (eP 3 false false .i64 ((t.rows.g i0).ae) ae)<|VV (aX (a:=some (AV.bool (decide (ae≤((t.rows.g i0).ae))))) (b:=some (AV.bool false)) f1)<|BB f2<|CC<|MM (aw 22 0 t.ak dg k!)<|CC<|VV Wm<|CC<|MM Wn<|CC<|ZZ) k!
       exact aY.ret ((t.rows.g i0).out) (by simp only[dy,f1,f2,cond_true,cond_false]) ev (cG.refl bb) k!
     · have np:=of_decide_eq_false f2
       have hS:cJ (some (.slice 67)) (some t.ak)=some (AV.int .i64 ((t.rows.length:Nat):Int)):=(bk.has aR).len
       have q2:(decide (((i0:Nat):Int)<((t.rows.length:Nat):Int)))=true:=d!
       obtain ⟨p4,q5,js⟩:=(bk.has aR).elem (i:=i0) o!
       have nM:c_ env (some (.slice 67)) (some t.ak) (some (AV.int .i64 ((i0:Nat):Int)))=some (AV.ptr p4 q5):=js
       have wR:bN env hh 3 (AV.ptr p4 (q5+0))=some (AV.int .i64 ((t.rows.g i0).ab)):=(bk.has aR).part (t:=3) (j:=0) o! js k! rfl
       obtain ⟨p9,Io,yN⟩:=(bk.has aR).elem (i:=i0) o!
       have Il:c_ env (some (.slice 67)) (some t.ak) (some (AV.int .i64 ((i0:Nat):Int)))=some (AV.ptr p9 Io):=yN
       have BZ:bN env hh 3 (AV.ptr p9 (Io+1))=some (AV.int .i64 ((t.rows.g i0).ae)):=(bk.has aR).part (t:=3) (j:=1) o! yN k! rfl
       have S8:=hJ 3 false true i0 1 o!
       have ev:=pk (d) kV ((x 0)::(AV.int .i64 ab)::(AV.int .i64 ae)::(AV.ptr cC 0)::rx x 4 3 ((AV.int .i64 ((i0:Nat):Int))::rx x 8 31 [])) hh .normal hh (CN 2<|MM (aw 22 0 t.ak dg k!)<|VV hS<|VV (bT 3 false false .i64 ((i0:Nat):Int) ((t.rows.length:Nat):Int))<|BB q2<|CC<|MM (aw 22 0 t.ak dg k!)<|CC<|VV nM<|CC<|MM wR<|CC<|VV (eP 3 false false .i64 ((t.rows.g i0).ab) ab)<|CC<|BB f1<|CC<|BB f1<|MM (aw 22 0 t.ak dg k!)<|BB f1<|CC<|BB f1<|VV Il<|BB f1<|CC<|BB f1<|MM BZ<|BB f1<|CC<|BB f1<|VV (eP 3 false false .i64 ((t.rows.g i0).ae) ae)<|VV (aX (a:=some (AV.bool (decide (ae≤((t.rows.g i0).ae))))) (b:=some (AV.bool false)) f1)<|BB f2<|CC<|VV S8<|CC<|ZZ) k!
       exact aY.round (by simp only[dy,f1,f2,cond_true,cond_false]) ev (cG.refl bb) (fun x=>((x 0)::(AV.int .i64 ab)::(AV.int .i64 ae)::(AV.ptr cC 0)::rx x 4 3 ((AV.int .i64 (((i0+1):Nat):Int))::rx x 8 31 []))) k! (fun x=>lP ab ae t cC bk l8 eG (i0+1) o! x hh bb aR dg)
   · have jn:=of_decide_eq_false f1
     have hS:cJ (some (.slice 67)) (some t.ak)=some (AV.int .i64 ((t.rows.length:Nat):Int)):=(bk.has aR).len
     have q2:(decide (((i0:Nat):Int)<((t.rows.length:Nat):Int)))=true:=d!
     obtain ⟨p4,q5,js⟩:=(bk.has aR).elem (i:=i0) o!
     have nM:c_ env (some (.slice 67)) (some t.ak) (some (AV.int .i64 ((i0:Nat):Int)))=some (AV.ptr p4 q5):=js
     have wR:bN env hh 3 (AV.ptr p4 (q5+0))=some (AV.int .i64 ((t.rows.g i0).ab)):=(bk.has aR).part (t:=3) (j:=0) o! js k! rfl
     have u8:=hJ 3 false true i0 1 o!
     have ev:=pk (d) kV ((x 0)::(AV.int .i64 ab)::(AV.int .i64 ae)::(AV.ptr cC 0)::rx x 4 3 ((AV.int .i64 ((i0:Nat):Int))::rx x 8 31 [])) hh .normal hh (CN 2<|MM (aw 22 0 t.ak dg k!)<|VV hS<|VV (bT 3 false false .i64 ((i0:Nat):Int) ((t.rows.length:Nat):Int))<|BB q2<|CC<|MM (aw 22 0 t.ak dg k!)<|CC<|VV nM<|CC<|MM wR<|CC<|VV (eP 3 false false .i64 ((t.rows.g i0).ab) ab)<|CC<|BB f1<|BB f1<|BB f1<|BB f1<|BB f1<|BB f1<|BB f1<|BB f1<|VV (aJ (a:=some AV.undef) (b:=some (AV.bool false)) f1)<|FF<|CC<|VV u8<|CC<|ZZ) k!
     exact aY.round (by simp only[dy,f1,cond_true,cond_false]) ev (cG.refl bb) (fun x=>((x 0)::(AV.int .i64 ab)::(AV.int .i64 ae)::(AV.ptr cC 0)::rx x 4 3 ((AV.int .i64 (((i0+1):Nat):Int))::rx x 8 31 []))) k! (fun x=>lP ab ae t cC bk l8 eG (i0+1) o! x hh bb aR dg)
def aA (t:aK) (ab:Int) (ae:Int):Int:=(match (dy t ab ae t.rows.length 0) with | none=>(-1) | some KJ=>KJ)
theorem cU {d:Nat} {h:ar} (t:aK) (ab:Int) (ae:Int) (b8:aD.ok h t) (b4:Tidy h):eD (d+1) (.fn 25) [(AV.agg [t.ak,(AV.int .i64 t.rest),(AV.int .i64 t.day)]),(AV.int .i64 ab),(AV.int .i64 ae)] h= .ret (AV.int .i64 (aA t ab ae)) h:=by
 cases kQ:dy t ab ae t.rows.length 0 with
 | none=>
   obtain ⟨h1,bm,aL,cu,aE,bh⟩:=cj b4 (aH.cells [t.ak,(AV.int .i64 t.rest),(AV.int .i64 t.day)] 24 false)
   have aG:Has h h1:=bh
   obtain ⟨NL,h3,iz,hT⟩:=aY.n kQ (lP (d:=d) (h:=h) ab ae t h.nx b8 b8 t.rows.length 0 o! (fun k_=>(((AV.agg [t.ak,(AV.int .i64 t.rest),(AV.int .i64 t.day)])::(AV.int .i64 ab)::(AV.int .i64 ae)::(AV.ptr h.nx 0)::AV.undef::AV.undef::(AV.int .i64 0)::(AV.int .i64 0)::cz 31):List AV).getD k_ AV.undef) h1 aL aG aE)
   have kA:=hT.y
   have BJ:h1.nx≤h3.nx:=hT.n
   have iA:Has h h3:=aG.trans hT.a
   have ev:=pk (d) lO ((AV.agg [t.ak,(AV.int .i64 t.rest),(AV.int .i64 t.day)])::(AV.int .i64 ab)::(AV.int .i64 ae)::cz 36) h .ret h3 (NN bm (fun i=>(AV.ptr i 0))<|CN 2<|LL iz<|CC<|ZZ) k!
   have e:aA t ab ae=(-1):=by simp only[aA,kQ,cond_true,cond_false]
   rw[e]
   exact az rfl (bz Tryz.func25 yM k! (.inr rfl) ev k!) iA rfl
 | some KJ=>
   obtain ⟨h1,bm,aL,cu,aE,bh⟩:=cj b4 (aH.cells [t.ak,(AV.int .i64 t.rest),(AV.int .i64 t.day)] 24 false)
   have aG:Has h h1:=bh
   obtain ⟨NL,h3,iz,hT⟩:=aY.r kQ (lP (d:=d) (h:=h) ab ae t h.nx b8 b8 t.rows.length 0 o! (fun k_=>(((AV.agg [t.ak,(AV.int .i64 t.rest),(AV.int .i64 t.day)])::(AV.int .i64 ab)::(AV.int .i64 ae)::(AV.ptr h.nx 0)::AV.undef::AV.undef::(AV.int .i64 0)::(AV.int .i64 0)::cz 31):List AV).getD k_ AV.undef) h1 aL aG aE)
   have kA:=hT.y
   have BJ:h1.nx≤h3.nx:=hT.n
   have iA:Has h h3:=aG.trans hT.a
   have ev:=pk (d) lO ((AV.agg [t.ak,(AV.int .i64 t.rest),(AV.int .i64 t.day)])::(AV.int .i64 ab)::(AV.int .i64 ae)::cz 36) h .ret h3 (NN bm (fun i=>(AV.ptr i 0))<|CN 2<|LL iz<|ZZ) k!
   have e:aA t ab ae=KJ:=by simp only[aA,kQ,cond_true,cond_false]
   rw[e]
   exact az rfl (bz Tryz.func25 yM k! (.inr rfl) ev k!) iA rfl
end Go.Proofs.bt
