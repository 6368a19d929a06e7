import Derived.Test.YtjpijdaopopeeaaGreatW0
namespace Go.Proofs.Bench
open Go.Proofs Ab
set_option maxRecDepth 100000
set_option maxHeartbeats 4000000
set_option linter.unusedVariables false
set_option linter.unusedSimpArgs false
noncomputable def r_Name_body:Code:=(Tryz.f35.body).getD .skip
theorem r_Name_B:Tryz.f35.body=some r_Name_body:=by kernel_rfl
noncomputable def r_Name_lp0:Code:=(loopsIn r_Name_body).getD 0 .skip
def r_Name_l0 (s:List UInt8):Nat→Nat→Option (Bool)
 | 0,_=>none
 | kq0+1,i0=>(bif (decide ((((s.g i0).toNat:Nat):Int)<97)) then (bif (decide ((((s.g i0).toNat:Nat):Int)<48)) then (bif (!decide ((((s.g i0).toNat:Nat):Int)=45)) then some false else r_Name_l0 s kq0 (i0+1)) else (bif (decide (57<(((s.g i0).toNat:Nat):Int))) then (bif (!decide ((((s.g i0).toNat:Nat):Int)=45)) then some false else r_Name_l0 s kq0 (i0+1)) else r_Name_l0 s kq0 (i0+1))) else (bif (decide (122<(((s.g i0).toNat:Nat):Int))) then (bif (decide ((((s.g i0).toNat:Nat):Int)<48)) then (bif (!decide ((((s.g i0).toNat:Nat):Int)=45)) then some false else r_Name_l0 s kq0 (i0+1)) else (bif (decide (57<(((s.g i0).toNat:Nat):Int))) then (bif (!decide ((((s.g i0).toNat:Nat):Int)=45)) then some false else r_Name_l0 s kq0 (i0+1)) else r_Name_l0 s kq0 (i0+1))) else r_Name_l0 s kq0 (i0+1)))
theorem r_Name_l0_t {d:Nat} {h:Heap} (s:List UInt8) (H0_0:s.length<2^60):∀(k_ i_:Nat) (_:i_+k_=(List.length s)) (x:Nat→AV) (hh:Heap) (y_hh:Tidy hh) (a_hh:Has h hh),OptLoop (cal (d)) r_Name_lp0 ⟨((AV.str s)::(x 1)::(x 2)::(AV.int .i64 ((i_:Nat):Int))::rx x 4 46 []),hh,[],.no⟩ (.exit 0) hh (fun y=>((AV.str s)::rx y 1 49 [])) (fun r y=>((AV.str s)::(y 1)::(AV.bool r)::rx y 3 47 [])) (r_Name_l0 s k_ i_)
 | 0,i0,hik,x,hh,y_hh,a_hh=>by
   have sn1:s.length<2^60:=H0_0
   have q2:(decide (((i0:Nat):Int)<((List.length s:Nat):Int)))=false:=d!
   have ev:=pk (d) r_Name_lp0 ((AV.str s)::(x 1)::(x 2)::(AV.int .i64 ((i0:Nat):Int))::rx x 4 46 []) hh (.exit 0) hh (CN 3<|VV (ilss 3 false false .i64 ((i0:Nat):Int) ((List.length s:Nat):Int))<|BB q2<|ZZ) k!
   exact OptLoop.out rfl ev (Grow.refl y_hh) k!
 | kq0+1,i0,hik,x,hh,y_hh,a_hh=>by
   rcases Bool.eq_false_or_eq_true (decide ((((s.g i0).toNat:Nat):Int)<97)) with f1 | f1
   · have n_f1:=of_decide_eq_true f1
     rcases Bool.eq_false_or_eq_true (decide ((((s.g i0).toNat:Nat):Int)<48)) with f2 | f2
     · have n_f2:=of_decide_eq_true f2
       rcases Bool.eq_false_or_eq_true (!decide ((((s.g i0).toNat:Nat):Int)=45)) with f3 | f3
       · have n_f3:=nT_ f3
         have sn1:s.length<2^60:=H0_0
         have q2:(decide (((i0:Nat):Int)<((List.length s:Nat):Int)))=true:=d!
         have ix3:idxV env (some .string) (some (AV.str s)) (some (AV.int .i64 ((i0:Nat):Int)))=some (AV.int .u8 (((s.g i0).toNat:Nat):Int)):=idx_str (j:=i0) o!
         have ev:=pk (d) r_Name_lp0 ((AV.str s)::(x 1)::(x 2)::(AV.int .i64 ((i0:Nat):Int))::rx x 4 46 []) hh .ret hh (CN 3<|VV (ilss 3 false false .i64 ((i0:Nat):Int) ((List.length s:Nat):Int))<|BB q2<|CN 2<|VV ix3<|CN 2<|VV (ilss 5 false true .u8 (((s.g i0).toNat:Nat):Int) 97)<|CC<|BB f1<|BB f1<|VV (pick_t (a:=some (AV.bool true)) (b:=some AV.undef) f1)<|CC<|TT<|CC<|TT<|VV (ilss 5 false true .u8 (((s.g i0).toNat:Nat):Int) 48)<|TT<|CC<|BB f2<|BB f2<|TT<|VV (pick_t (a:=some (AV.bool true)) (b:=some AV.undef) f2)<|CN 2<|TT<|CC<|TT<|VV (ineq 5 false true .u8 (((s.g i0).toNat:Nat):Int) 45)<|CC<|BB f3<|CC<|ZZ) k!
         exact OptLoop.ret false (by simp only[r_Name_l0,f1,f2,f3,cond_true,cond_false]) ev (Grow.refl y_hh) k!
       · have n_f3:=nF_ f3
         have sn1:s.length<2^60:=H0_0
         have q2:(decide (((i0:Nat):Int)<((List.length s:Nat):Int)))=true:=d!
         have ix3:idxV env (some .string) (some (AV.str s)) (some (AV.int .i64 ((i0:Nat):Int)))=some (AV.int .u8 (((s.g i0).toNat:Nat):Int)):=idx_str (j:=i0) o!
         have u7:=nadd 3 false true i0 1 o!
         have ev:=pk (d) r_Name_lp0 ((AV.str s)::(x 1)::(x 2)::(AV.int .i64 ((i0:Nat):Int))::rx x 4 46 []) hh .normal hh (CN 3<|VV (ilss 3 false false .i64 ((i0:Nat):Int) ((List.length s:Nat):Int))<|BB q2<|CN 2<|VV ix3<|CN 2<|VV (ilss 5 false true .u8 (((s.g i0).toNat:Nat):Int) 97)<|CC<|BB f1<|BB f1<|VV (pick_t (a:=some (AV.bool true)) (b:=some AV.undef) f1)<|CC<|TT<|CC<|TT<|VV (ilss 5 false true .u8 (((s.g i0).toNat:Nat):Int) 48)<|TT<|CC<|BB f2<|BB f2<|TT<|VV (pick_t (a:=some (AV.bool true)) (b:=some AV.undef) f2)<|CN 2<|TT<|CC<|TT<|VV (ineq 5 false true .u8 (((s.g i0).toNat:Nat):Int) 45)<|CC<|BB f3<|CC<|VV u7<|CC<|ZZ) k!
         exact OptLoop.round (by simp only[r_Name_l0,f1,f2,f3,cond_true,cond_false]) ev (Grow.refl y_hh) (fun x=>((AV.str s)::(x 1)::(x 2)::(AV.int .i64 (((i0+1):Nat):Int))::rx x 4 46 [])) k! (fun x=>r_Name_l0_t s H0_0 kq0 (i0+1) o! x hh y_hh a_hh)
     · have n_f2:=of_decide_eq_false f2
       rcases Bool.eq_false_or_eq_true (decide (57<(((s.g i0).toNat:Nat):Int))) with f3 | f3
       · have n_f3:=of_decide_eq_true f3
         rcases Bool.eq_false_or_eq_true (!decide ((((s.g i0).toNat:Nat):Int)=45)) with f4 | f4
         · have n_f4:=nT_ f4
           have sn1:s.length<2^60:=H0_0
           have q2:(decide (((i0:Nat):Int)<((List.length s:Nat):Int)))=true:=d!
           have ix3:idxV env (some .string) (some (AV.str s)) (some (AV.int .i64 ((i0:Nat):Int)))=some (AV.int .u8 (((s.g i0).toNat:Nat):Int)):=idx_str (j:=i0) o!
           have ev:=pk (d) r_Name_lp0 ((AV.str s)::(x 1)::(x 2)::(AV.int .i64 ((i0:Nat):Int))::rx x 4 46 []) hh .ret hh (CN 3<|VV (ilss 3 false false .i64 ((i0:Nat):Int) ((List.length s:Nat):Int))<|BB q2<|CN 2<|VV ix3<|CN 2<|VV (ilss 5 false true .u8 (((s.g i0).toNat:Nat):Int) 97)<|CC<|BB f1<|BB f1<|VV (pick_t (a:=some (AV.bool true)) (b:=some AV.undef) f1)<|CC<|TT<|CC<|TT<|VV (ilss 5 false true .u8 (((s.g i0).toNat:Nat):Int) 48)<|TT<|CC<|BB f2<|CC<|BB f2<|VV (igtr 5 false true .u8 (((s.g i0).toNat:Nat):Int) 57)<|TT<|VV (pick_f (a:=some (AV.bool true)) (b:=some (AV.bool (decide (57<(((s.g i0).toNat:Nat):Int))))) f2)<|CN 2<|BB f3<|CC<|BB f3<|VV (ineq 5 false true .u8 (((s.g i0).toNat:Nat):Int) 45)<|VV (pick_t (a:=some (AV.bool (!decide ((((s.g i0).toNat:Nat):Int)=45)))) (b:=some (AV.bool false)) f3)<|BB f4<|CC<|ZZ) k!
           exact OptLoop.ret false (by simp only[r_Name_l0,f1,f2,f3,f4,cond_true,cond_false]) ev (Grow.refl y_hh) k!
         · have n_f4:=nF_ f4
           have sn1:s.length<2^60:=H0_0
           have q2:(decide (((i0:Nat):Int)<((List.length s:Nat):Int)))=true:=d!
           have ix3:idxV env (some .string) (some (AV.str s)) (some (AV.int .i64 ((i0:Nat):Int)))=some (AV.int .u8 (((s.g i0).toNat:Nat):Int)):=idx_str (j:=i0) o!
           have u8:=nadd 3 false true i0 1 o!
           have ev:=pk (d) r_Name_lp0 ((AV.str s)::(x 1)::(x 2)::(AV.int .i64 ((i0:Nat):Int))::rx x 4 46 []) hh .normal hh (CN 3<|VV (ilss 3 false false .i64 ((i0:Nat):Int) ((List.length s:Nat):Int))<|BB q2<|CN 2<|VV ix3<|CN 2<|VV (ilss 5 false true .u8 (((s.g i0).toNat:Nat):Int) 97)<|CC<|BB f1<|BB f1<|VV (pick_t (a:=some (AV.bool true)) (b:=some AV.undef) f1)<|CC<|TT<|CC<|TT<|VV (ilss 5 false true .u8 (((s.g i0).toNat:Nat):Int) 48)<|TT<|CC<|BB f2<|CC<|BB f2<|VV (igtr 5 false true .u8 (((s.g i0).toNat:Nat):Int) 57)<|TT<|VV (pick_f (a:=some (AV.bool true)) (b:=some (AV.bool (decide (57<(((s.g i0).toNat:Nat):Int))))) f2)<|CN 2<|BB f3<|CC<|BB f3<|VV (ineq 5 false true .u8 (((s.g i0).toNat:Nat):Int) 45)<|VV (pick_t (a:=some (AV.bool (!decide ((((s.g i0).toNat:Nat):Int)=45)))) (b:=some (AV.bool false)) f3)<|BB f4<|CC<|VV u8<|CC<|ZZ) k!
           exact OptLoop.round (by simp only[r_Name_l0,f1,f2,f3,f4,cond_true,cond_false]) ev (Grow.refl y_hh) (fun x=>((AV.str s)::(x 1)::(x 2)::(AV.int .i64 (((i0+1):Nat):Int))::rx x 4 46 [])) k! (fun x=>r_Name_l0_t s H0_0 kq0 (i0+1) o! x hh y_hh a_hh)
       · have n_f3:=of_decide_eq_false f3
         have sn1:s.length<2^60:=H0_0
         have q2:(decide (((i0:Nat):Int)<((List.length s:Nat):Int)))=true:=d!
         have ix3:idxV env (some .string) (some (AV.str s)) (some (AV.int .i64 ((i0:Nat):Int)))=some (AV.int .u8 (((s.g i0).toNat:Nat):Int)):=idx_str (j:=i0) o!
         have u7:=nadd 3 false true i0 1 o!
         have ev:=pk (d) r_Name_lp0 ((AV.str s)::(x 1)::(x 2)::(AV.int .i64 ((i0:Nat):Int))::rx x 4 46 []) hh .normal hh (CN 3<|VV (ilss 3 false false .i64 ((i0:Nat):Int) ((List.length s:Nat):Int))<|BB q2<|CN 2<|VV ix3<|CN 2<|VV (ilss 5 false true .u8 (((s.g i0).toNat:Nat):Int) 97)<|CC<|BB f1<|BB f1<|VV (pick_t (a:=some (AV.bool true)) (b:=some AV.undef) f1)<|CC<|TT<|CC<|TT<|VV (ilss 5 false true .u8 (((s.g i0).toNat:Nat):Int) 48)<|TT<|CC<|BB f2<|CC<|BB f2<|VV (igtr 5 false true .u8 (((s.g i0).toNat:Nat):Int) 57)<|TT<|VV (pick_f (a:=some (AV.bool true)) (b:=some (AV.bool (decide (57<(((s.g i0).toNat:Nat):Int))))) f2)<|CN 2<|BB f3<|BB f3<|VV (pick_f (a:=some AV.undef) (b:=some (AV.bool false)) f3)<|FF<|CC<|VV u7<|CC<|ZZ) k!
         exact OptLoop.round (by simp only[r_Name_l0,f1,f2,f3,cond_true,cond_false]) ev (Grow.refl y_hh) (fun x=>((AV.str s)::(x 1)::(x 2)::(AV.int .i64 (((i0+1):Nat):Int))::rx x 4 46 [])) k! (fun x=>r_Name_l0_t s H0_0 kq0 (i0+1) o! x hh y_hh a_hh)
   · have n_f1:=of_decide_eq_false f1
     rcases Bool.eq_false_or_eq_true (decide (122<(((s.g i0).toNat:Nat):Int))) with f2 | f2
     · have n_f2:=of_decide_eq_true f2
       rcases Bool.eq_false_or_eq_true (decide ((((s.g i0).toNat:Nat):Int)<48)) with f3 | f3
       · have n_f3:=of_decide_eq_true f3
         rcases Bool.eq_false_or_eq_true (!decide ((((s.g i0).toNat:Nat):Int)=45)) with f4 | f4
         · have n_f4:=nT_ f4
           have sn1:s.length<2^60:=H0_0
           have q2:(decide (((i0:Nat):Int)<((List.length s:Nat):Int)))=true:=d!
           have ix3:idxV env (some .string) (some (AV.str s)) (some (AV.int .i64 ((i0:Nat):Int)))=some (AV.int .u8 (((s.g i0).toNat:Nat):Int)):=idx_str (j:=i0) o!
           have ev:=pk (d) r_Name_lp0 ((AV.str s)::(x 1)::(x 2)::(AV.int .i64 ((i0:Nat):Int))::rx x 4 46 []) hh .ret hh (CN 3<|VV (ilss 3 false false .i64 ((i0:Nat):Int) ((List.length s:Nat):Int))<|BB q2<|CN 2<|VV ix3<|CN 2<|VV (ilss 5 false true .u8 (((s.g i0).toNat:Nat):Int) 97)<|CC<|BB f1<|CC<|BB f1<|VV (igtr 5 false true .u8 (((s.g i0).toNat:Nat):Int) 122)<|VV (pick_f (a:=some (AV.bool true)) (b:=some (AV.bool (decide (122<(((s.g i0).toNat:Nat):Int))))) f1)<|CC<|BB f2<|CC<|BB f2<|VV (ilss 5 false true .u8 (((s.g i0).toNat:Nat):Int) 48)<|BB f2<|CC<|BB f3<|BB f3<|BB f2<|VV (pick_t (a:=some (AV.bool true)) (b:=some AV.undef) f3)<|VV (pick_t (a:=some (AV.bool true)) (b:=some (AV.bool false)) f2)<|CC<|TT<|CC<|TT<|VV (ineq 5 false true .u8 (((s.g i0).toNat:Nat):Int) 45)<|CC<|BB f4<|CC<|ZZ) k!
           exact OptLoop.ret false (by simp only[r_Name_l0,f1,f2,f3,f4,cond_true,cond_false]) ev (Grow.refl y_hh) k!
         · have n_f4:=nF_ f4
           have sn1:s.length<2^60:=H0_0
           have q2:(decide (((i0:Nat):Int)<((List.length s:Nat):Int)))=true:=d!
           have ix3:idxV env (some .string) (some (AV.str s)) (some (AV.int .i64 ((i0:Nat):Int)))=some (AV.int .u8 (((s.g i0).toNat:Nat):Int)):=idx_str (j:=i0) o!
           have u8:=nadd 3 false true i0 1 o!
           have ev:=pk (d) r_Name_lp0 ((AV.str s)::(x 1)::(x 2)::(AV.int .i64 ((i0:Nat):Int))::rx x 4 46 []) hh .normal hh (CN 3<|VV (ilss 3 false false .i64 ((i0:Nat):Int) ((List.length s:Nat):Int))<|BB q2<|CN 2<|VV ix3<|CN 2<|VV (ilss 5 false true .u8 (((s.g i0).toNat:Nat):Int) 97)<|CC<|BB f1<|CC<|BB f1<|VV (igtr 5 false true .u8 (((s.g i0).toNat:Nat):Int) 122)<|VV (pick_f (a:=some (AV.bool true)) (b:=some (AV.bool (decide (122<(((s.g i0).toNat:Nat):Int))))) f1)<|CC<|BB f2<|CC<|BB f2<|VV (ilss 5 false true .u8 (((s.g i0).toNat:Nat):Int) 48)<|BB f2<|CC<|BB f3<|BB f3<|BB f2<|VV (pick_t (a:=some (AV.bool true)) (b:=some AV.undef) f3)<|VV (pick_t (a:=some (AV.bool true)) (b:=some (AV.bool false)) f2)<|CC<|TT<|CC<|TT<|VV (ineq 5 false true .u8 (((s.g i0).toNat:Nat):Int) 45)<|CC<|BB f4<|CC<|VV u8<|CC<|ZZ) k!
           exact OptLoop.round (by simp only[r_Name_l0,f1,f2,f3,f4,cond_true,cond_false]) ev (Grow.refl y_hh) (fun x=>((AV.str s)::(x 1)::(x 2)::(AV.int .i64 (((i0+1):Nat):Int))::rx x 4 46 [])) k! (fun x=>r_Name_l0_t s H0_0 kq0 (i0+1) o! x hh y_hh a_hh)
       · have n_f3:=of_decide_eq_false f3
         rcases Bool.eq_false_or_eq_true (decide (57<(((s.g i0).toNat:Nat):Int))) with f4 | f4
         · have n_f4:=of_decide_eq_true f4
           rcases Bool.eq_false_or_eq_true (!decide ((((s.g i0).toNat:Nat):Int)=45)) with f5 | f5
           · have n_f5:=nT_ f5
             have sn1:s.length<2^60:=H0_0
             have q2:(decide (((i0:Nat):Int)<((List.length s:Nat):Int)))=true:=d!
             have ix3:idxV env (some .string) (some (AV.str s)) (some (AV.int .i64 ((i0:Nat):Int)))=some (AV.int .u8 (((s.g i0).toNat:Nat):Int)):=idx_str (j:=i0) o!
             have ev:=pk (d) r_Name_lp0 ((AV.str s)::(x 1)::(x 2)::(AV.int .i64 ((i0:Nat):Int))::rx x 4 46 []) hh .ret hh (CN 3<|VV (ilss 3 false false .i64 ((i0:Nat):Int) ((List.length s:Nat):Int))<|BB q2<|CN 2<|VV ix3<|CN 2<|VV (ilss 5 false true .u8 (((s.g i0).toNat:Nat):Int) 97)<|CC<|BB f1<|CC<|BB f1<|VV (igtr 5 false true .u8 (((s.g i0).toNat:Nat):Int) 122)<|VV (pick_f (a:=some (AV.bool true)) (b:=some (AV.bool (decide (122<(((s.g i0).toNat:Nat):Int))))) f1)<|CC<|BB f2<|CC<|BB f2<|VV (ilss 5 false true .u8 (((s.g i0).toNat:Nat):Int) 48)<|BB f2<|CC<|BB f3<|CC<|BB f3<|VV (igtr 5 false true .u8 (((s.g i0).toNat:Nat):Int) 57)<|BB f2<|VV (pick_f (a:=some (AV.bool true)) (b:=some (AV.bool (decide (57<(((s.g i0).toNat:Nat):Int))))) f3)<|VV (pick_t (a:=some (AV.bool (decide (57<(((s.g i0).toNat:Nat):Int))))) (b:=some (AV.bool false)) f2)<|CC<|BB f4<|CC<|BB f4<|VV (ineq 5 false true .u8 (((s.g i0).toNat:Nat):Int) 45)<|VV (pick_t (a:=some (AV.bool (!decide ((((s.g i0).toNat:Nat):Int)=45)))) (b:=some (AV.bool false)) f4)<|BB f5<|CC<|ZZ) k!
             exact OptLoop.ret false (by simp only[r_Name_l0,f1,f2,f3,f4,f5,cond_true,cond_false]) ev (Grow.refl y_hh) k!
           · have n_f5:=nF_ f5
             have sn1:s.length<2^60:=H0_0
             have q2:(decide (((i0:Nat):Int)<((List.length s:Nat):Int)))=true:=d!
             have ix3:idxV env (some .string) (some (AV.str s)) (some (AV.int .i64 ((i0:Nat):Int)))=some (AV.int .u8 (((s.g i0).toNat:Nat):Int)):=idx_str (j:=i0) o!
             have u9:=nadd 3 false true i0 1 o!
             have ev:=pk (d) r_Name_lp0 ((AV.str s)::(x 1)::(x 2)::(AV.int .i64 ((i0:Nat):Int))::rx x 4 46 []) hh .normal hh (CN 3<|VV (ilss 3 false false .i64 ((i0:Nat):Int) ((List.length s:Nat):Int))<|BB q2<|CN 2<|VV ix3<|CN 2<|VV (ilss 5 false true .u8 (((s.g i0).toNat:Nat):Int) 97)<|CC<|BB f1<|CC<|BB f1<|VV (igtr 5 false true .u8 (((s.g i0).toNat:Nat):Int) 122)<|VV (pick_f (a:=some (AV.bool true)) (b:=some (AV.bool (decide (122<(((s.g i0).toNat:Nat):Int))))) f1)<|CC<|BB f2<|CC<|BB f2<|VV (ilss 5 false true .u8 (((s.g i0).toNat:Nat):Int) 48)<|BB f2<|CC<|BB f3<|CC<|BB f3<|VV (igtr 5 false true .u8 (((s.g i0).toNat:Nat):Int) 57)<|BB f2<|VV (pick_f (a:=some (AV.bool true)) (b:=some (AV.bool (decide (57<(((s.g i0).toNat:Nat):Int))))) f3)<|VV (pick_t (a:=some (AV.bool (decide (57<(((s.g i0).toNat:Nat):Int))))) (b:=some (AV.bool false)) f2)<|CC<|BB f4<|CC<|BB f4<|VV (ineq 5 false true .u8 (((s.g i0).toNat:Nat):Int) 45)<|VV (pick_t (a:=some (AV.bool (!decide ((((s.g i0).toNat:Nat):Int)=45)))) (b:=some (AV.bool false)) f4)<|BB f5<|CC<|VV u9<|CC<|ZZ) k!
             exact OptLoop.round (by simp only[r_Name_l0,f1,f2,f3,f4,f5,cond_true,cond_false]) ev (Grow.refl y_hh) (fun x=>((AV.str s)::(x 1)::(x 2)::(AV.int .i64 (((i0+1):Nat):Int))::rx x 4 46 [])) k! (fun x=>r_Name_l0_t s H0_0 kq0 (i0+1) o! x hh y_hh a_hh)
         · have n_f4:=of_decide_eq_false f4
           have sn1:s.length<2^60:=H0_0
           have q2:(decide (((i0:Nat):Int)<((List.length s:Nat):Int)))=true:=d!
           have ix3:idxV env (some .string) (some (AV.str s)) (some (AV.int .i64 ((i0:Nat):Int)))=some (AV.int .u8 (((s.g i0).toNat:Nat):Int)):=idx_str (j:=i0) o!
           have u8:=nadd 3 false true i0 1 o!
           have ev:=pk (d) r_Name_lp0 ((AV.str s)::(x 1)::(x 2)::(AV.int .i64 ((i0:Nat):Int))::rx x 4 46 []) hh .normal hh (CN 3<|VV (ilss 3 false false .i64 ((i0:Nat):Int) ((List.length s:Nat):Int))<|BB q2<|CN 2<|VV ix3<|CN 2<|VV (ilss 5 false true .u8 (((s.g i0).toNat:Nat):Int) 97)<|CC<|BB f1<|CC<|BB f1<|VV (igtr 5 false true .u8 (((s.g i0).toNat:Nat):Int) 122)<|VV (pick_f (a:=some (AV.bool true)) (b:=some (AV.bool (decide (122<(((s.g i0).toNat:Nat):Int))))) f1)<|CC<|BB f2<|CC<|BB f2<|VV (ilss 5 false true .u8 (((s.g i0).toNat:Nat):Int) 48)<|BB f2<|CC<|BB f3<|CC<|BB f3<|VV (igtr 5 false true .u8 (((s.g i0).toNat:Nat):Int) 57)<|BB f2<|VV (pick_f (a:=some (AV.bool true)) (b:=some (AV.bool (decide (57<(((s.g i0).toNat:Nat):Int))))) f3)<|VV (pick_t (a:=some (AV.bool (decide (57<(((s.g i0).toNat:Nat):Int))))) (b:=some (AV.bool false)) f2)<|CC<|BB f4<|BB f4<|VV (pick_f (a:=some AV.undef) (b:=some (AV.bool false)) f4)<|FF<|CC<|VV u8<|CC<|ZZ) k!
           exact OptLoop.round (by simp only[r_Name_l0,f1,f2,f3,f4,cond_true,cond_false]) ev (Grow.refl y_hh) (fun x=>((AV.str s)::(x 1)::(x 2)::(AV.int .i64 (((i0+1):Nat):Int))::rx x 4 46 [])) k! (fun x=>r_Name_l0_t s H0_0 kq0 (i0+1) o! x hh y_hh a_hh)
     · have n_f2:=of_decide_eq_false f2
       have sn1:s.length<2^60:=H0_0
       have q2:(decide (((i0:Nat):Int)<((List.length s:Nat):Int)))=true:=d!
       have ix3:idxV env (some .string) (some (AV.str s)) (some (AV.int .i64 ((i0:Nat):Int)))=some (AV.int .u8 (((s.g i0).toNat:Nat):Int)):=idx_str (j:=i0) o!
       have u6:=nadd 3 false true i0 1 o!
       have ev:=pk (d) r_Name_lp0 ((AV.str s)::(x 1)::(x 2)::(AV.int .i64 ((i0:Nat):Int))::rx x 4 46 []) hh .normal hh (CN 3<|VV (ilss 3 false false .i64 ((i0:Nat):Int) ((List.length s:Nat):Int))<|BB q2<|CN 2<|VV ix3<|CN 2<|VV (ilss 5 false true .u8 (((s.g i0).toNat:Nat):Int) 97)<|CC<|BB f1<|CC<|BB f1<|VV (igtr 5 false true .u8 (((s.g i0).toNat:Nat):Int) 122)<|VV (pick_f (a:=some (AV.bool true)) (b:=some (AV.bool (decide (122<(((s.g i0).toNat:Nat):Int))))) f1)<|CC<|BB f2<|BB f2<|BB f2<|BB f2<|VV (pick_f (a:=some AV.undef) (b:=some (AV.bool false)) f2)<|CC<|FF<|FF<|CC<|FF<|CC<|VV u6<|CC<|ZZ) k!
       exact OptLoop.round (by simp only[r_Name_l0,f1,f2,cond_true,cond_false]) ev (Grow.refl y_hh) (fun x=>((AV.str s)::(x 1)::(x 2)::(AV.int .i64 (((i0+1):Nat):Int))::rx x 4 46 [])) k! (fun x=>r_Name_l0_t s H0_0 kq0 (i0+1) o! x hh y_hh a_hh)
def r_Name (s:List UInt8):Bool:=(bif (decide (((List.length s:Nat):Int)=0)) then false else (bif (decide (16<((List.length s:Nat):Int))) then false else (bif (decide ((((s.g 0).toNat:Nat):Int)<97)) then false else (bif (decide (122<(((s.g 0).toNat:Nat):Int))) then false else (match (r_Name_l0 s (List.length s) 0) with | none=>true | some rr8=>rr8)))))
theorem r_Name_c {d:Nat} {h:Heap} (s:List UInt8) (h_s:s.length<2^60) (y_h:Tidy h):cal (d+1) (.fn 35) [(AV.str s)] h= .ret (AV.bool (r_Name s)) h:=by
 rcases Bool.eq_false_or_eq_true (decide (((List.length s:Nat):Int)=0)) with f0 | f0
 · have n_f0:=of_decide_eq_true f0
   have sn1:s.length<2^60:=h_s
   have ev:=pk (d) r_Name_body ((AV.str s)::und 49) h .ret h (CN 3<|VV (ieql 3 false true .i64 ((List.length s:Nat):Int) 0)<|CC<|BB f0<|BB f0<|BB f0<|VV (pick_t (a:=some (AV.bool true)) (b:=some AV.undef) f0)<|CC<|TT<|TT<|TT<|CN 2<|TT<|TT<|TT<|CC<|TT<|CC<|ZZ) k!
   have e:r_Name s=false:=by simp only[r_Name,f0,cond_true,cond_false]
   rw[e]
   exact callP_pure rfl (fn_of Tryz.func35 r_Name_B k! (.inr rfl) ev k!) (Has.refl _) rfl
 · have n_f0:=of_decide_eq_false f0
   rcases Bool.eq_false_or_eq_true (decide (16<((List.length s:Nat):Int))) with f1 | f1
   · have n_f1:=of_decide_eq_true f1
     have sn1:s.length<2^60:=h_s
     have ev:=pk (d) r_Name_body ((AV.str s)::und 49) h .ret h (CN 3<|VV (ieql 3 false true .i64 ((List.length s:Nat):Int) 0)<|CC<|BB f0<|CC<|BB f0<|CC<|BB f0<|VV (igtr 3 false true .i64 ((List.length s:Nat):Int) 16)<|VV (pick_f (a:=some (AV.bool true)) (b:=some (AV.bool (decide (16<((List.length s:Nat):Int))))) f0)<|CC<|BB f1<|BB f1<|BB f1<|VV (pick_t (a:=some (AV.bool true)) (b:=some AV.undef) f1)<|CC<|TT<|TT<|TT<|CC<|TT<|CC<|ZZ) k!
     have e:r_Name s=false:=by simp only[r_Name,f0,f1,cond_true,cond_false]
     rw[e]
     exact callP_pure rfl (fn_of Tryz.func35 r_Name_B k! (.inr rfl) ev k!) (Has.refl _) rfl
   · have n_f1:=of_decide_eq_false f1
     rcases Bool.eq_false_or_eq_true (decide ((((s.g 0).toNat:Nat):Int)<97)) with f2 | f2
     · have n_f2:=of_decide_eq_true f2
       have sn1:s.length<2^60:=h_s
       have ix4:idxV env (some .string) (some (AV.str s)) (some (AV.int .i64 0))=some (AV.int .u8 (((s.g 0).toNat:Nat):Int)):=idx_str (j:=0) o!
       have ev:=pk (d) r_Name_body ((AV.str s)::und 49) h .ret h (CN 3<|VV (ieql 3 false true .i64 ((List.length s:Nat):Int) 0)<|CC<|BB f0<|CC<|BB f0<|CC<|BB f0<|VV (igtr 3 false true .i64 ((List.length s:Nat):Int) 16)<|VV (pick_f (a:=some (AV.bool true)) (b:=some (AV.bool (decide (16<((List.length s:Nat):Int))))) f0)<|CC<|BB f1<|CC<|BB f1<|VV ix4<|BB f1<|VV (ilss 5 false true .u8 (((s.g 0).toNat:Nat):Int) 97)<|VV (pick_f (a:=some (AV.bool true)) (b:=some (AV.bool (decide ((((s.g 0).toNat:Nat):Int)<97)))) f1)<|CC<|BB f2<|BB f2<|BB f2<|VV (pick_t (a:=some (AV.bool true)) (b:=some AV.undef) f2)<|TT<|CC<|ZZ) k!
       have e:r_Name s=false:=by simp only[r_Name,f0,f1,f2,cond_true,cond_false]
       rw[e]
       exact callP_pure rfl (fn_of Tryz.func35 r_Name_B k! (.inr rfl) ev k!) (Has.refl _) rfl
     · have n_f2:=of_decide_eq_false f2
       rcases Bool.eq_false_or_eq_true (decide (122<(((s.g 0).toNat:Nat):Int))) with f3 | f3
       · have n_f3:=of_decide_eq_true f3
         have sn1:s.length<2^60:=h_s
         have ix4:idxV env (some .string) (some (AV.str s)) (some (AV.int .i64 0))=some (AV.int .u8 (((s.g 0).toNat:Nat):Int)):=idx_str (j:=0) o!
         have ix6:idxV env (some .string) (some (AV.str s)) (some (AV.int .i64 0))=some (AV.int .u8 (((s.g 0).toNat:Nat):Int)):=idx_str (j:=0) o!
         have ev:=pk (d) r_Name_body ((AV.str s)::und 49) h .ret h (CN 3<|VV (ieql 3 false true .i64 ((List.length s:Nat):Int) 0)<|CC<|BB f0<|CC<|BB f0<|CC<|BB f0<|VV (igtr 3 false true .i64 ((List.length s:Nat):Int) 16)<|VV (pick_f (a:=some (AV.bool true)) (b:=some (AV.bool (decide (16<((List.length s:Nat):Int))))) f0)<|CC<|BB f1<|CC<|BB f1<|VV ix4<|BB f1<|VV (ilss 5 false true .u8 (((s.g 0).toNat:Nat):Int) 97)<|VV (pick_f (a:=some (AV.bool true)) (b:=some (AV.bool (decide ((((s.g 0).toNat:Nat):Int)<97)))) f1)<|CC<|BB f2<|CC<|BB f2<|VV ix6<|BB f2<|VV (igtr 5 false true .u8 (((s.g 0).toNat:Nat):Int) 122)<|VV (pick_f (a:=some (AV.bool true)) (b:=some (AV.bool (decide (122<(((s.g 0).toNat:Nat):Int))))) f2)<|BB f3<|CC<|ZZ) k!
         have e:r_Name s=false:=by simp only[r_Name,f0,f1,f2,f3,cond_true,cond_false]
         rw[e]
         exact callP_pure rfl (fn_of Tryz.func35 r_Name_B k! (.inr rfl) ev k!) (Has.refl _) rfl
       · have n_f3:=of_decide_eq_false f3
         cases hl_yl8:r_Name_l0 s (List.length s) 0 with
         | none=>
           have sn1:s.length<2^60:=h_s
           have ix4:idxV env (some .string) (some (AV.str s)) (some (AV.int .i64 0))=some (AV.int .u8 (((s.g 0).toNat:Nat):Int)):=idx_str (j:=0) o!
           have ix6:idxV env (some .string) (some (AV.str s)) (some (AV.int .i64 0))=some (AV.int .u8 (((s.g 0).toNat:Nat):Int)):=idx_str (j:=0) o!
           obtain ⟨yl8,h9,ev_yl8,G_h9⟩:=OptLoop.n hl_yl8 (r_Name_l0_t (d:=d) (h:=h) s h_s (List.length s) 0 o! (fun k_=>(((AV.str s)::AV.undef::(AV.bool false)::(AV.int .i64 0)::AV.undef::(AV.str s)::(AV.int .i64 ((List.length s:Nat):Int))::(AV.bool (decide (((List.length s:Nat):Int)=0)))::(AV.bool (decide (((List.length s:Nat):Int)=0)))::(AV.str s)::(AV.int .i64 ((List.length s:Nat):Int))::(AV.bool (decide (16<((List.length s:Nat):Int))))::(AV.bool (decide (16<((List.length s:Nat):Int))))::(AV.bool (decide (16<((List.length s:Nat):Int))))::(AV.str s)::(AV.int .u8 (((s.g 0).toNat:Nat):Int))::(AV.bool (decide ((((s.g 0).toNat:Nat):Int)<97)))::(AV.bool (decide ((((s.g 0).toNat:Nat):Int)<97)))::(AV.bool (decide ((((s.g 0).toNat:Nat):Int)<97)))::(AV.str s)::(AV.int .u8 (((s.g 0).toNat:Nat):Int))::(AV.bool (decide (122<(((s.g 0).toNat:Nat):Int))))::(AV.bool (decide (122<(((s.g 0).toNat:Nat):Int))))::und 27):List AV).getD k_ AV.undef) h y_h (Has.refl _))
           have y_h9:=G_h9.y
           have m_h9:h.nx≤h9.nx:=G_h9.n
           have a_h9:Has h h9:=G_h9.a
           have ev:=pk (d) r_Name_body ((AV.str s)::und 49) h .ret h9 (CN 3<|VV (ieql 3 false true .i64 ((List.length s:Nat):Int) 0)<|CC<|BB f0<|CC<|BB f0<|CC<|BB f0<|VV (igtr 3 false true .i64 ((List.length s:Nat):Int) 16)<|VV (pick_f (a:=some (AV.bool true)) (b:=some (AV.bool (decide (16<((List.length s:Nat):Int))))) f0)<|CC<|BB f1<|CC<|BB f1<|VV ix4<|BB f1<|VV (ilss 5 false true .u8 (((s.g 0).toNat:Nat):Int) 97)<|VV (pick_f (a:=some (AV.bool true)) (b:=some (AV.bool (decide ((((s.g 0).toNat:Nat):Int)<97)))) f1)<|CC<|BB f2<|CC<|BB f2<|VV ix6<|BB f2<|VV (igtr 5 false true .u8 (((s.g 0).toNat:Nat):Int) 122)<|VV (pick_f (a:=some (AV.bool true)) (b:=some (AV.bool (decide (122<(((s.g 0).toNat:Nat):Int))))) f2)<|BB f3<|CC<|LL ev_yl8<|CC<|ZZ) k!
           have e:r_Name s=true:=by simp only[r_Name,f0,f1,f2,f3,hl_yl8,cond_true,cond_false]
           rw[e]
           exact callP_pure rfl (fn_of Tryz.func35 r_Name_B k! (.inr rfl) ev k!) a_h9 rfl
         | some rr8=>
           have sn1:s.length<2^60:=h_s
           have ix4:idxV env (some .string) (some (AV.str s)) (some (AV.int .i64 0))=some (AV.int .u8 (((s.g 0).toNat:Nat):Int)):=idx_str (j:=0) o!
           have ix6:idxV env (some .string) (some (AV.str s)) (some (AV.int .i64 0))=some (AV.int .u8 (((s.g 0).toNat:Nat):Int)):=idx_str (j:=0) o!
           obtain ⟨yl8,h9,ev_yl8,G_h9⟩:=OptLoop.r hl_yl8 (r_Name_l0_t (d:=d) (h:=h) s h_s (List.length s) 0 o! (fun k_=>(((AV.str s)::AV.undef::(AV.bool false)::(AV.int .i64 0)::AV.undef::(AV.str s)::(AV.int .i64 ((List.length s:Nat):Int))::(AV.bool (decide (((List.length s:Nat):Int)=0)))::(AV.bool (decide (((List.length s:Nat):Int)=0)))::(AV.str s)::(AV.int .i64 ((List.length s:Nat):Int))::(AV.bool (decide (16<((List.length s:Nat):Int))))::(AV.bool (decide (16<((List.length s:Nat):Int))))::(AV.bool (decide (16<((List.length s:Nat):Int))))::(AV.str s)::(AV.int .u8 (((s.g 0).toNat:Nat):Int))::(AV.bool (decide ((((s.g 0).toNat:Nat):Int)<97)))::(AV.bool (decide ((((s.g 0).toNat:Nat):Int)<97)))::(AV.bool (decide ((((s.g 0).toNat:Nat):Int)<97)))::(AV.str s)::(AV.int .u8 (((s.g 0).toNat:Nat):Int))::(AV.bool (decide (122<(((s.g 0).toNat:Nat):Int))))::(AV.bool (decide (122<(((s.g 0).toNat:Nat):Int))))::und 27):List AV).getD k_ AV.undef) h y_h (Has.refl _))
           have y_h9:=G_h9.y
           have m_h9:h.nx≤h9.nx:=G_h9.n
           have a_h9:Has h h9:=G_h9.a
           have ev:=pk (d) r_Name_body ((AV.str s)::und 49) h .ret h9 (CN 3<|VV (ieql 3 false true .i64 ((List.length s:Nat):Int) 0)<|CC<|BB f0<|CC<|BB f0<|CC<|BB f0<|VV (igtr 3 false true .i64 ((List.length s:Nat):Int) 16)<|VV (pick_f (a:=some (AV.bool true)) (b:=some (AV.bool (decide (16<((List.length s:Nat):Int))))) f0)<|CC<|BB f1<|CC<|BB f1<|VV ix4<|BB f1<|VV (ilss 5 false true .u8 (((s.g 0).toNat:Nat):Int) 97)<|VV (pick_f (a:=some (AV.bool true)) (b:=some (AV.bool (decide ((((s.g 0).toNat:Nat):Int)<97)))) f1)<|CC<|BB f2<|CC<|BB f2<|VV ix6<|BB f2<|VV (igtr 5 false true .u8 (((s.g 0).toNat:Nat):Int) 122)<|VV (pick_f (a:=some (AV.bool true)) (b:=some (AV.bool (decide (122<(((s.g 0).toNat:Nat):Int))))) f2)<|BB f3<|CC<|LL ev_yl8<|ZZ) k!
           have e:r_Name s=rr8:=by simp only[r_Name,f0,f1,f2,f3,hl_yl8,cond_true,cond_false]
           rw[e]
           exact callP_pure rfl (fn_of Tryz.func35 r_Name_B k! (.inr rfl) ev k!) a_h9 rfl
noncomputable def r_timed_body:Code:=(Tryz.f64.body).getD .skip
theorem r_timed_B:Tryz.f64.body=some r_timed_body:=by kernel_rfl
def r_timed (n:Int):Bool:=(bif (decide (0≤n)) then (decide (n≤100000)) else false)
theorem r_timed_c {d:Nat} {h:Heap} (n:Int) (y_h:Tidy h):cal (d+1) (.fn 64) [(AV.int .i64 n)] h= .ret (AV.bool (r_timed n)) h:=by
 rcases Bool.eq_false_or_eq_true (decide (0≤n)) with f0 | f0
 · have n_f0:=of_decide_eq_true f0
   have ev:=pk (d) r_timed_body ((AV.int .i64 n)::und 8) h .ret h (CN 2<|VV (igeq 3 false true .i64 n 0)<|CC<|BB f0<|CC<|BB f0<|VV (ileq 3 false true .i64 n 100000)<|VV (pick_t (a:=some (AV.bool (decide (n≤100000)))) (b:=some (AV.bool false)) f0)<|CC<|ZZ) k!
   have e:r_timed n=(decide (n≤100000)):=by simp only[r_timed,f0,cond_true,cond_false]
   rw[e]
   exact callP_pure rfl (fn_of Tryz.func64 r_timed_B k! (.inr rfl) ev k!) (Has.refl _) rfl
 · have n_f0:=of_decide_eq_false f0
   have ev:=pk (d) r_timed_body ((AV.int .i64 n)::und 8) h .ret h (CN 2<|VV (igeq 3 false true .i64 n 0)<|CC<|BB f0<|BB f0<|VV (pick_f (a:=some AV.undef) (b:=some (AV.bool false)) f0)<|CC<|ZZ) k!
   have e:r_timed n=false:=by simp only[r_timed,f0,cond_true,cond_false]
   rw[e]
   exact callP_pure rfl (fn_of Tryz.func64 r_timed_B k! (.inr rfl) ev k!) (Has.refl _) rfl
noncomputable def r_checkGauge_body:Code:=(Tryz.f63.body).getD .skip
theorem r_checkGauge_B:Tryz.f63.body=some r_checkGauge_body:=by kernel_rfl
def r_checkGauge (g:Gauge):Int:=(bif (decide (g.acc<0)) then 1 else (bif (decide (1000000000<g.acc)) then 1 else (bif (decide (g.drift<0)) then 1 else (bif (decide (1000000000<g.drift)) then 1 else (bif (!(r_timed g.since)) then 1 else 0)))))
theorem r_checkGauge_c {d:Nat} {h:Heap} (g:Gauge) (h_g:RowT.ok h g) (y_h:Tidy h):cal (d+2) (.fn 63) [(AV.agg [(AV.str g.name),(AV.int .i64 g.acc),(AV.int .i64 g.drift),(AV.int .i64 g.since)])] h= .ret (AV.int .i64 (r_checkGauge g)) h:=by
 rcases Bool.eq_false_or_eq_true (decide (g.acc<0)) with f0 | f0
 · have n_f0:=of_decide_eq_true f0
   obtain ⟨h1,n_h1,y_h1,z_h1,g_h1,b_h1⟩:=nwB y_h (AObj.cells [(AV.str g.name),(AV.int .i64 g.acc),(AV.int .i64 g.drift),(AV.int .i64 g.since)] 61 false)
   have a_h1:Has h h1:=b_h1
   have ev:=pk (d+1) r_checkGauge_body ((AV.agg [(AV.str g.name),(AV.int .i64 g.acc),(AV.int .i64 g.drift),(AV.int .i64 g.since)])::und 26) h .ret h1 (NN n_h1 (fun i=>(AV.ptr i 0))<|CN 2<|MM (lown 3 1 (AV.int .i64 g.acc) g_h1 k!)<|VV (ilss 3 false true .i64 g.acc 0)<|CC<|BB f0<|BB f0<|BB f0<|VV (pick_t (a:=some (AV.bool true)) (b:=some AV.undef) f0)<|CC<|TT<|TT<|TT<|CN 2<|TT<|TT<|TT<|CN 2<|TT<|TT<|TT<|TT<|CC<|TT<|CC<|ZZ) k!
   have e:r_checkGauge g=1:=by simp only[r_checkGauge,f0,cond_true,cond_false]
   rw[e]
   exact callP_pure rfl (fn_of Tryz.func63 r_checkGauge_B k! (.inr rfl) ev k!) a_h1 rfl
 · have n_f0:=of_decide_eq_false f0
   rcases Bool.eq_false_or_eq_true (decide (1000000000<g.acc)) with f1 | f1
   · have n_f1:=of_decide_eq_true f1
     obtain ⟨h1,n_h1,y_h1,z_h1,g_h1,b_h1⟩:=nwB y_h (AObj.cells [(AV.str g.name),(AV.int .i64 g.acc),(AV.int .i64 g.drift),(AV.int .i64 g.since)] 61 false)
     have a_h1:Has h h1:=b_h1
     have ev:=pk (d+1) r_checkGauge_body ((AV.agg [(AV.str g.name),(AV.int .i64 g.acc),(AV.int .i64 g.drift),(AV.int .i64 g.since)])::und 26) h .ret h1 (NN n_h1 (fun i=>(AV.ptr i 0))<|CN 2<|MM (lown 3 1 (AV.int .i64 g.acc) g_h1 k!)<|VV (ilss 3 false true .i64 g.acc 0)<|CC<|BB f0<|CC<|BB f0<|MM (lown 3 1 (AV.int .i64 g.acc) g_h1 k!)<|BB f0<|VV (igtr 3 false true .i64 g.acc 1000000000)<|VV (pick_f (a:=some (AV.bool true)) (b:=some (AV.bool (decide (1000000000<g.acc)))) f0)<|CC<|BB f1<|BB f1<|BB f1<|VV (pick_t (a:=some (AV.bool true)) (b:=some AV.undef) f1)<|CC<|TT<|TT<|TT<|CN 2<|TT<|TT<|TT<|TT<|CC<|TT<|CC<|ZZ) k!
     have e:r_checkGauge g=1:=by simp only[r_checkGauge,f0,f1,cond_true,cond_false]
     rw[e]
     exact callP_pure rfl (fn_of Tryz.func63 r_checkGauge_B k! (.inr rfl) ev k!) a_h1 rfl
   · have n_f1:=of_decide_eq_false f1
     rcases Bool.eq_false_or_eq_true (decide (g.drift<0)) with f2 | f2
     · have n_f2:=of_decide_eq_true f2
       obtain ⟨h1,n_h1,y_h1,z_h1,g_h1,b_h1⟩:=nwB y_h (AObj.cells [(AV.str g.name),(AV.int .i64 g.acc),(AV.int .i64 g.drift),(AV.int .i64 g.since)] 61 false)
       have a_h1:Has h h1:=b_h1
       have ev:=pk (d+1) r_checkGauge_body ((AV.agg [(AV.str g.name),(AV.int .i64 g.acc),(AV.int .i64 g.drift),(AV.int .i64 g.since)])::und 26) h .ret h1 (NN n_h1 (fun i=>(AV.ptr i 0))<|CN 2<|MM (lown 3 1 (AV.int .i64 g.acc) g_h1 k!)<|VV (ilss 3 false true .i64 g.acc 0)<|CC<|BB f0<|CC<|BB f0<|MM (lown 3 1 (AV.int .i64 g.acc) g_h1 k!)<|BB f0<|VV (igtr 3 false true .i64 g.acc 1000000000)<|VV (pick_f (a:=some (AV.bool true)) (b:=some (AV.bool (decide (1000000000<g.acc)))) f0)<|CC<|BB f1<|CC<|BB f1<|MM (lown 3 2 (AV.int .i64 g.drift) g_h1 k!)<|BB f1<|VV (ilss 3 false true .i64 g.drift 0)<|VV (pick_f (a:=some (AV.bool true)) (b:=some (AV.bool (decide (g.drift<0)))) f1)<|CC<|BB f2<|BB f2<|BB f2<|VV (pick_t (a:=some (AV.bool true)) (b:=some AV.undef) f2)<|CC<|TT<|TT<|TT<|TT<|CC<|TT<|CC<|ZZ) k!
       have e:r_checkGauge g=1:=by simp only[r_checkGauge,f0,f1,f2,cond_true,cond_false]
       rw[e]
       exact callP_pure rfl (fn_of Tryz.func63 r_checkGauge_B k! (.inr rfl) ev k!) a_h1 rfl
     · have n_f2:=of_decide_eq_false f2
       rcases Bool.eq_false_or_eq_true (decide (1000000000<g.drift)) with f3 | f3
       · have n_f3:=of_decide_eq_true f3
         obtain ⟨h1,n_h1,y_h1,z_h1,g_h1,b_h1⟩:=nwB y_h (AObj.cells [(AV.str g.name),(AV.int .i64 g.acc),(AV.int .i64 g.drift),(AV.int .i64 g.since)] 61 false)
         have a_h1:Has h h1:=b_h1
         have ev:=pk (d+1) r_checkGauge_body ((AV.agg [(AV.str g.name),(AV.int .i64 g.acc),(AV.int .i64 g.drift),(AV.int .i64 g.since)])::und 26) h .ret h1 (NN n_h1 (fun i=>(AV.ptr i 0))<|CN 2<|MM (lown 3 1 (AV.int .i64 g.acc) g_h1 k!)<|VV (ilss 3 false true .i64 g.acc 0)<|CC<|BB f0<|CC<|BB f0<|MM (lown 3 1 (AV.int .i64 g.acc) g_h1 k!)<|BB f0<|VV (igtr 3 false true .i64 g.acc 1000000000)<|VV (pick_f (a:=some (AV.bool true)) (b:=some (AV.bool (decide (1000000000<g.acc)))) f0)<|CC<|BB f1<|CC<|BB f1<|MM (lown 3 2 (AV.int .i64 g.drift) g_h1 k!)<|BB f1<|VV (ilss 3 false true .i64 g.drift 0)<|VV (pick_f (a:=some (AV.bool true)) (b:=some (AV.bool (decide (g.drift<0)))) f1)<|CC<|BB f2<|CC<|BB f2<|MM (lown 3 2 (AV.int .i64 g.drift) g_h1 k!)<|BB f2<|VV (igtr 3 false true .i64 g.drift 1000000000)<|VV (pick_f (a:=some (AV.bool true)) (b:=some (AV.bool (decide (1000000000<g.drift)))) f2)<|CC<|BB f3<|BB f3<|BB f3<|BB f3<|VV (pick_t (a:=some (AV.bool true)) (b:=some AV.undef) f3)<|TT<|CC<|ZZ) k!
         have e:r_checkGauge g=1:=by simp only[r_checkGauge,f0,f1,f2,f3,cond_true,cond_false]
         rw[e]
         exact callP_pure rfl (fn_of Tryz.func63 r_checkGauge_B k! (.inr rfl) ev k!) a_h1 rfl
       · have n_f3:=of_decide_eq_false f3
         rcases Bool.eq_false_or_eq_true (!(r_timed g.since)) with f4 | f4
         · obtain ⟨h1,n_h1,y_h1,z_h1,g_h1,b_h1⟩:=nwB y_h (AObj.cells [(AV.str g.name),(AV.int .i64 g.acc),(AV.int .i64 g.drift),(AV.int .i64 g.since)] 61 false)
           have a_h1:Has h h1:=b_h1
           have k6:=r_timed_c (d:=d) g.since y_h1
           have ev:=pk (d+1) r_checkGauge_body ((AV.agg [(AV.str g.name),(AV.int .i64 g.acc),(AV.int .i64 g.drift),(AV.int .i64 g.since)])::und 26) h .ret h1 (NN n_h1 (fun i=>(AV.ptr i 0))<|CN 2<|MM (lown 3 1 (AV.int .i64 g.acc) g_h1 k!)<|VV (ilss 3 false true .i64 g.acc 0)<|CC<|BB f0<|CC<|BB f0<|MM (lown 3 1 (AV.int .i64 g.acc) g_h1 k!)<|BB f0<|VV (igtr 3 false true .i64 g.acc 1000000000)<|VV (pick_f (a:=some (AV.bool true)) (b:=some (AV.bool (decide (1000000000<g.acc)))) f0)<|CC<|BB f1<|CC<|BB f1<|MM (lown 3 2 (AV.int .i64 g.drift) g_h1 k!)<|BB f1<|VV (ilss 3 false true .i64 g.drift 0)<|VV (pick_f (a:=some (AV.bool true)) (b:=some (AV.bool (decide (g.drift<0)))) f1)<|CC<|BB f2<|CC<|BB f2<|MM (lown 3 2 (AV.int .i64 g.drift) g_h1 k!)<|BB f2<|VV (igtr 3 false true .i64 g.drift 1000000000)<|VV (pick_f (a:=some (AV.bool true)) (b:=some (AV.bool (decide (1000000000<g.drift)))) f2)<|CC<|BB f3<|CC<|BB f3<|MM (lown 3 3 (AV.int .i64 g.since) g_h1 k!)<|BB f3<|EE k6<|BB f3<|CC<|VV (pick_f (a:=some (AV.bool true)) (b:=some (AV.bool (!(r_timed g.since)))) f3)<|BB f4<|CC<|ZZ) k!
           have e:r_checkGauge g=1:=by simp only[r_checkGauge,f0,f1,f2,f3,f4,cond_true,cond_false]
           rw[e]
           exact callP_pure rfl (fn_of Tryz.func63 r_checkGauge_B k! (.inr rfl) ev k!) a_h1 rfl
         · obtain ⟨h1,n_h1,y_h1,z_h1,g_h1,b_h1⟩:=nwB y_h (AObj.cells [(AV.str g.name),(AV.int .i64 g.acc),(AV.int .i64 g.drift),(AV.int .i64 g.since)] 61 false)
           have a_h1:Has h h1:=b_h1
           have k6:=r_timed_c (d:=d) g.since y_h1
           have ev:=pk (d+1) r_checkGauge_body ((AV.agg [(AV.str g.name),(AV.int .i64 g.acc),(AV.int .i64 g.drift),(AV.int .i64 g.since)])::und 26) h .ret h1 (NN n_h1 (fun i=>(AV.ptr i 0))<|CN 2<|MM (lown 3 1 (AV.int .i64 g.acc) g_h1 k!)<|VV (ilss 3 false true .i64 g.acc 0)<|CC<|BB f0<|CC<|BB f0<|MM (lown 3 1 (AV.int .i64 g.acc) g_h1 k!)<|BB f0<|VV (igtr 3 false true .i64 g.acc 1000000000)<|VV (pick_f (a:=some (AV.bool true)) (b:=some (AV.bool (decide (1000000000<g.acc)))) f0)<|CC<|BB f1<|CC<|BB f1<|MM (lown 3 2 (AV.int .i64 g.drift) g_h1 k!)<|BB f1<|VV (ilss 3 false true .i64 g.drift 0)<|VV (pick_f (a:=some (AV.bool true)) (b:=some (AV.bool (decide (g.drift<0)))) f1)<|CC<|BB f2<|CC<|BB f2<|MM (lown 3 2 (AV.int .i64 g.drift) g_h1 k!)<|BB f2<|VV (igtr 3 false true .i64 g.drift 1000000000)<|VV (pick_f (a:=some (AV.bool true)) (b:=some (AV.bool (decide (1000000000<g.drift)))) f2)<|CC<|BB f3<|CC<|BB f3<|MM (lown 3 3 (AV.int .i64 g.since) g_h1 k!)<|BB f3<|EE k6<|BB f3<|CC<|VV (pick_f (a:=some (AV.bool true)) (b:=some (AV.bool (!(r_timed g.since)))) f3)<|BB f4<|CC<|ZZ) k!
           have e:r_checkGauge g=0:=by simp only[r_checkGauge,f0,f1,f2,f3,f4,cond_true,cond_false]
           rw[e]
           exact callP_pure rfl (fn_of Tryz.func63 r_checkGauge_B k! (.inr rfl) ev k!) a_h1 rfl
noncomputable def r_value_body:Code:=(Tryz.f62.body).getD .skip
theorem r_value_B:Tryz.f62.body=some r_value_body:=by kernel_rfl
def r_value (n:Int):Bool:=(bif (decide ((-1000000000)≤n)) then (decide (n≤1000000000)) else false)
theorem r_value_c {d:Nat} {h:Heap} (n:Int) (y_h:Tidy h):cal (d+1) (.fn 62) [(AV.int .i64 n)] h= .ret (AV.bool (r_value n)) h:=by
 rcases Bool.eq_false_or_eq_true (decide ((-1000000000)≤n)) with f0 | f0
 · have n_f0:=of_decide_eq_true f0
   have ev:=pk (d) r_value_body ((AV.int .i64 n)::und 8) h .ret h (CN 2<|VV (igeq 3 false true .i64 n (-1000000000))<|CC<|BB f0<|CC<|BB f0<|VV (ileq 3 false true .i64 n 1000000000)<|VV (pick_t (a:=some (AV.bool (decide (n≤1000000000)))) (b:=some (AV.bool false)) f0)<|CC<|ZZ) k!
   have e:r_value n=(decide (n≤1000000000)):=by simp only[r_value,f0,cond_true,cond_false]
   rw[e]
   exact callP_pure rfl (fn_of Tryz.func62 r_value_B k! (.inr rfl) ev k!) (Has.refl _) rfl
 · have n_f0:=of_decide_eq_false f0
   have ev:=pk (d) r_value_body ((AV.int .i64 n)::und 8) h .ret h (CN 2<|VV (igeq 3 false true .i64 n (-1000000000))<|CC<|BB f0<|BB f0<|VV (pick_f (a:=some AV.undef) (b:=some (AV.bool false)) f0)<|CC<|ZZ) k!
   have e:r_value n=false:=by simp only[r_value,f0,cond_true,cond_false]
   rw[e]
   exact callP_pure rfl (fn_of Tryz.func62 r_value_B k! (.inr rfl) ev k!) (Has.refl _) rfl
end Go.Proofs.Bench
