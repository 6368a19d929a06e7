import Derived.Test.YtjpijdaopopeeaaGreatW0
import Derived.Test.YtjpijdaopopeeaaGreatW1
namespace Go.Proofs.Bench
open Go.Proofs Ab
set_option maxRecDepth 100000
set_option maxHeartbeats 4000000
set_option linter.unusedVariables false
set_option linter.unusedSimpArgs false
noncomputable def r_checkMeasure_body:Code:=(Tryz.f37.body).getD .skip
theorem r_checkMeasure_B:Tryz.f37.body=some r_checkMeasure_body:=by kernel_rfl
noncomputable def r_checkMeasure_lp0:Code:=(loopsIn r_checkMeasure_body).getD 0 .skip
noncomputable def r_checkMeasure_lp1:Code:=(loopsIn r_checkMeasure_body).getD 1 .skip
def r_checkMeasure_l0 (ahead:List Measure) (m:Measure):Nat→Nat→Option (Int)
 | 0,_=>none
 | kq0+1,i0=>(bif (decide (((ahead.g i0).name)=m.name)) then some 6 else r_checkMeasure_l0 ahead m kq0 (i0+1))
theorem r_checkMeasure_l0_t {d:Nat} {h:Heap} (aheadV:AV) (ahead:List Measure) (m:Measure) (b0_0:Nat) (H0_0:RowsAt h aheadV ahead) (H0_1:m.name.length<2^60) (H0_2:m.crew.length<2^60) (O0_0:RowT.ok h m):∀(k_ i_:Nat) (_:i_+k_=ahead.length) (x:Nat→AV) (hh:Heap) (y_hh:Tidy hh) (a_hh:Has h hh) (G0_0:hh.get b0_0=some (AObj.cells [(AV.str m.name),(AV.str m.crew),(AV.int .i64 m.rank),(AV.int .i64 m.lag),(AV.int .i64 m.takes)] 43 false)),OptLoop (cal (d+1)) r_checkMeasure_lp0 ⟨((x 0)::aheadV::(AV.ptr b0_0 0)::(x 3)::(x 4)::(AV.int .i64 ((i_:Nat):Int))::rx x 6 65 []),hh,[],.no⟩ (.exit 0) hh (fun y=>((y 0)::aheadV::(AV.ptr b0_0 0)::rx y 3 68 [])) (fun r y=>((y 0)::aheadV::(AV.ptr b0_0 0)::(y 3)::(AV.int .i64 r)::rx y 5 66 [])) (r_checkMeasure_l0 ahead m k_ i_)
 | 0,i0,hik,x,hh,y_hh,a_hh,G0_0=>by
   have s_H0_0:=H0_0.small
   have T0_0:=y_hh _ _ G0_0
   have ln1:lenK (some (.slice 43)) (some aheadV)=some (AV.int .i64 ((ahead.length:Nat):Int)):=(H0_0.has a_hh).len
   have q2:(decide (((i0:Nat):Int)<((ahead.length:Nat):Int)))=false:=d!
   have ev:=pk (d+1) r_checkMeasure_lp0 ((x 0)::aheadV::(AV.ptr b0_0 0)::(x 3)::(x 4)::(AV.int .i64 ((i0:Nat):Int))::rx x 6 65 []) hh (.exit 0) hh (CN 2<|VV ln1<|VV (ilss 3 false false .i64 ((i0:Nat):Int) ((ahead.length:Nat):Int))<|BB q2<|ZZ) k!
   exact OptLoop.out rfl ev (Grow.refl y_hh) k!
 | kq0+1,i0,hik,x,hh,y_hh,a_hh,G0_0=>by
   have s_H0_0:=H0_0.small
   have T0_0:=y_hh _ _ G0_0
   rcases Bool.eq_false_or_eq_true (decide (((ahead.g i0).name)=m.name)) with f1 | f1
   · have n_f1:=of_decide_eq_true f1
     have ln1:lenK (some (.slice 43)) (some aheadV)=some (AV.int .i64 ((ahead.length:Nat):Int)):=(H0_0.has a_hh).len
     have q2:(decide (((i0:Nat):Int)<((ahead.length:Nat):Int)))=true:=d!
     obtain ⟨p4,q5,ix3_⟩:=(H0_0.has a_hh).elem (i:=i0) o!
     have ix3:idxK env (some (.slice 43)) (some aheadV) (some (AV.int .i64 ((i0:Nat):Int)))=some (AV.ptr p4 q5):=ix3_
     have ld6:loadA env hh 9 (AV.ptr p4 (q5+0))=some (AV.str ((ahead.g i0).name)):=(H0_0.has a_hh).part (t:=9) (j:=0) o! ix3_ k! rfl
     have ev:=pk (d+1) r_checkMeasure_lp0 ((x 0)::aheadV::(AV.ptr b0_0 0)::(x 3)::(x 4)::(AV.int .i64 ((i0:Nat):Int))::rx x 6 65 []) hh .ret hh (CN 2<|VV ln1<|VV (ilss 3 false false .i64 ((i0:Nat):Int) ((ahead.length:Nat):Int))<|BB q2<|CN 2<|VV ix3<|CC<|MM ld6<|CC<|MM (lown 9 0 (AV.str m.name) G0_0 k!)<|VV (seql 9 false false ((ahead.g i0).name) m.name)<|HH ld6<|HH (show AV.same 20 (AV.str ((ahead.g i0).name)) (AV.str ((ahead.g i0).name))=true from same_str 19 _)<|HH (lown 9 0 (AV.str m.name) G0_0 k!)<|HH (show AV.same 20 (AV.str m.name) (AV.str m.name)=true from same_str 19 _)<|BB f1<|CC<|ZZ) k!
     exact OptLoop.ret 6 (by simp only[r_checkMeasure_l0,f1,cond_true,cond_false]) ev (Grow.refl y_hh) k!
   · have n_f1:=of_decide_eq_false f1
     have ln1:lenK (some (.slice 43)) (some aheadV)=some (AV.int .i64 ((ahead.length:Nat):Int)):=(H0_0.has a_hh).len
     have q2:(decide (((i0:Nat):Int)<((ahead.length:Nat):Int)))=true:=d!
     obtain ⟨p4,q5,ix3_⟩:=(H0_0.has a_hh).elem (i:=i0) o!
     have ix3:idxK env (some (.slice 43)) (some aheadV) (some (AV.int .i64 ((i0:Nat):Int)))=some (AV.ptr p4 q5):=ix3_
     have ld6:loadA env hh 9 (AV.ptr p4 (q5+0))=some (AV.str ((ahead.g i0).name)):=(H0_0.has a_hh).part (t:=9) (j:=0) o! ix3_ k! rfl
     have u8:=nadd 3 false true i0 1 o!
     have ev:=pk (d+1) r_checkMeasure_lp0 ((x 0)::aheadV::(AV.ptr b0_0 0)::(x 3)::(x 4)::(AV.int .i64 ((i0:Nat):Int))::rx x 6 65 []) hh .normal hh (CN 2<|VV ln1<|VV (ilss 3 false false .i64 ((i0:Nat):Int) ((ahead.length:Nat):Int))<|BB q2<|CN 2<|VV ix3<|CC<|MM ld6<|CC<|MM (lown 9 0 (AV.str m.name) G0_0 k!)<|VV (seql 9 false false ((ahead.g i0).name) m.name)<|HH ld6<|HH (show AV.same 20 (AV.str ((ahead.g i0).name)) (AV.str ((ahead.g i0).name))=true from same_str 19 _)<|HH (lown 9 0 (AV.str m.name) G0_0 k!)<|HH (show AV.same 20 (AV.str m.name) (AV.str m.name)=true from same_str 19 _)<|BB f1<|CC<|VV u8<|CC<|ZZ) k!
     exact OptLoop.round (by simp only[r_checkMeasure_l0,f1,cond_true,cond_false]) ev (Grow.refl y_hh) (fun x=>((x 0)::aheadV::(AV.ptr b0_0 0)::(x 3)::(x 4)::(AV.int .i64 (((i0+1):Nat):Int))::rx x 6 65 [])) k! (fun x=>r_checkMeasure_l0_t aheadV ahead m b0_0 H0_0 H0_1 H0_2 O0_0 kq0 (i0+1) o! x hh y_hh a_hh G0_0)
def r_checkMeasure_l1 (ahead:List Measure) (m:Measure):Nat→Nat→Option (Int)
 | 0,_=>none
 | kq1+1,i1=>(bif (decide (((ahead.g i1).crew)=m.crew)) then (bif (decide (((ahead.g i1).rank)=m.rank)) then some 10 else r_checkMeasure_l1 ahead m kq1 (i1+1)) else r_checkMeasure_l1 ahead m kq1 (i1+1))
theorem r_checkMeasure_l1_t {d:Nat} {h:Heap} (aheadV:AV) (ahead:List Measure) (m:Measure) (b1_0:Nat) (H1_0:RowsAt h aheadV ahead) (H1_1:m.name.length<2^60) (H1_2:m.crew.length<2^60) (O1_0:RowT.ok h m):∀(k_ i_:Nat) (_:i_+k_=ahead.length) (x:Nat→AV) (hh:Heap) (y_hh:Tidy hh) (a_hh:Has h hh) (G1_0:hh.get b1_0=some (AObj.cells [(AV.str m.name),(AV.str m.crew),(AV.int .i64 m.rank),(AV.int .i64 m.lag),(AV.int .i64 m.takes)] 43 false)),OptLoop (cal (d+1)) r_checkMeasure_lp1 ⟨((x 0)::aheadV::(AV.ptr b1_0 0)::rx x 3 3 ((AV.int .i64 ((i_:Nat):Int))::rx x 7 64 [])),hh,[],.no⟩ (.exit 2) hh (fun y=>((y 0)::aheadV::(AV.ptr b1_0 0)::rx y 3 68 [])) (fun r y=>((y 0)::aheadV::(AV.ptr b1_0 0)::(y 3)::(AV.int .i64 r)::rx y 5 66 [])) (r_checkMeasure_l1 ahead m k_ i_)
 | 0,i1,hik,x,hh,y_hh,a_hh,G1_0=>by
   have s_H1_0:=H1_0.small
   have T1_0:=y_hh _ _ G1_0
   have ln1:lenK (some (.slice 43)) (some aheadV)=some (AV.int .i64 ((ahead.length:Nat):Int)):=(H1_0.has a_hh).len
   have q2:(decide (((i1:Nat):Int)<((ahead.length:Nat):Int)))=false:=d!
   have ev:=pk (d+1) r_checkMeasure_lp1 ((x 0)::aheadV::(AV.ptr b1_0 0)::rx x 3 3 ((AV.int .i64 ((i1:Nat):Int))::rx x 7 64 [])) hh (.exit 2) hh (CN 2<|VV ln1<|VV (ilss 3 false false .i64 ((i1:Nat):Int) ((ahead.length:Nat):Int))<|BB q2<|ZZ) k!
   exact OptLoop.out rfl ev (Grow.refl y_hh) k!
 | kq1+1,i1,hik,x,hh,y_hh,a_hh,G1_0=>by
   have s_H1_0:=H1_0.small
   have T1_0:=y_hh _ _ G1_0
   rcases Bool.eq_false_or_eq_true (decide (((ahead.g i1).crew)=m.crew)) with f1 | f1
   · have n_f1:=of_decide_eq_true f1
     rcases Bool.eq_false_or_eq_true (decide (((ahead.g i1).rank)=m.rank)) with f2 | f2
     · have n_f2:=of_decide_eq_true f2
       have ln1:lenK (some (.slice 43)) (some aheadV)=some (AV.int .i64 ((ahead.length:Nat):Int)):=(H1_0.has a_hh).len
       have q2:(decide (((i1:Nat):Int)<((ahead.length:Nat):Int)))=true:=d!
       obtain ⟨p4,q5,ix3_⟩:=(H1_0.has a_hh).elem (i:=i1) o!
       have ix3:idxK env (some (.slice 43)) (some aheadV) (some (AV.int .i64 ((i1:Nat):Int)))=some (AV.ptr p4 q5):=ix3_
       have ld6:loadA env hh 9 (AV.ptr p4 (q5+1))=some (AV.str ((ahead.g i1).crew)):=(H1_0.has a_hh).part (t:=9) (j:=1) o! ix3_ k! rfl
       obtain ⟨p9,q10,ix8_⟩:=(H1_0.has a_hh).elem (i:=i1) o!
       have ix8:idxK env (some (.slice 43)) (some aheadV) (some (AV.int .i64 ((i1:Nat):Int)))=some (AV.ptr p9 q10):=ix8_
       have ld11:loadA env hh 3 (AV.ptr p9 (q10+2))=some (AV.int .i64 ((ahead.g i1).rank)):=(H1_0.has a_hh).part (t:=3) (j:=2) o! ix8_ k! rfl
       have ev:=pk (d+1) r_checkMeasure_lp1 ((x 0)::aheadV::(AV.ptr b1_0 0)::rx x 3 3 ((AV.int .i64 ((i1:Nat):Int))::rx x 7 64 [])) hh .ret hh (CN 2<|VV ln1<|VV (ilss 3 false false .i64 ((i1:Nat):Int) ((ahead.length:Nat):Int))<|BB q2<|CN 2<|VV ix3<|CC<|MM ld6<|CC<|MM (lown 9 1 (AV.str m.crew) G1_0 k!)<|VV (seql 9 false false ((ahead.g i1).crew) m.crew)<|CC<|BB f1<|CC<|BB f1<|CC<|BB f1<|VV ix8<|BB f1<|CC<|BB f1<|MM ld11<|BB f1<|CC<|BB f1<|MM (lown 3 2 (AV.int .i64 m.rank) G1_0 k!)<|BB f1<|VV (ieql 3 false false .i64 ((ahead.g i1).rank) m.rank)<|VV (pick_t (a:=some (AV.bool (decide (((ahead.g i1).rank)=m.rank)))) (b:=some (AV.bool false)) f1)<|HH ld6<|HH (show AV.same 20 (AV.str ((ahead.g i1).crew)) (AV.str ((ahead.g i1).crew))=true from same_str 19 _)<|HH (lown 9 1 (AV.str m.crew) G1_0 k!)<|HH (show AV.same 20 (AV.str m.crew) (AV.str m.crew)=true from same_str 19 _)<|HH ld11<|HH (show AV.same 20 (AV.int .i64 ((ahead.g i1).rank)) (AV.int .i64 ((ahead.g i1).rank))=true from same_int 19 _ _)<|HH (lown 3 2 (AV.int .i64 m.rank) G1_0 k!)<|HH (show AV.same 20 (AV.int .i64 m.rank) (AV.int .i64 m.rank)=true from same_int 19 _ _)<|BB f2<|CC<|ZZ) k!
       exact OptLoop.ret 10 (by simp only[r_checkMeasure_l1,f1,f2,cond_true,cond_false]) ev (Grow.refl y_hh) k!
     · have n_f2:=of_decide_eq_false f2
       have ln1:lenK (some (.slice 43)) (some aheadV)=some (AV.int .i64 ((ahead.length:Nat):Int)):=(H1_0.has a_hh).len
       have q2:(decide (((i1:Nat):Int)<((ahead.length:Nat):Int)))=true:=d!
       obtain ⟨p4,q5,ix3_⟩:=(H1_0.has a_hh).elem (i:=i1) o!
       have ix3:idxK env (some (.slice 43)) (some aheadV) (some (AV.int .i64 ((i1:Nat):Int)))=some (AV.ptr p4 q5):=ix3_
       have ld6:loadA env hh 9 (AV.ptr p4 (q5+1))=some (AV.str ((ahead.g i1).crew)):=(H1_0.has a_hh).part (t:=9) (j:=1) o! ix3_ k! rfl
       obtain ⟨p9,q10,ix8_⟩:=(H1_0.has a_hh).elem (i:=i1) o!
       have ix8:idxK env (some (.slice 43)) (some aheadV) (some (AV.int .i64 ((i1:Nat):Int)))=some (AV.ptr p9 q10):=ix8_
       have ld11:loadA env hh 3 (AV.ptr p9 (q10+2))=some (AV.int .i64 ((ahead.g i1).rank)):=(H1_0.has a_hh).part (t:=3) (j:=2) o! ix8_ k! rfl
       have u13:=nadd 3 false true i1 1 o!
       have ev:=pk (d+1) r_checkMeasure_lp1 ((x 0)::aheadV::(AV.ptr b1_0 0)::rx x 3 3 ((AV.int .i64 ((i1:Nat):Int))::rx x 7 64 [])) hh .normal hh (CN 2<|VV ln1<|VV (ilss 3 false false .i64 ((i1:Nat):Int) ((ahead.length:Nat):Int))<|BB q2<|CN 2<|VV ix3<|CC<|MM ld6<|CC<|MM (lown 9 1 (AV.str m.crew) G1_0 k!)<|VV (seql 9 false false ((ahead.g i1).crew) m.crew)<|CC<|BB f1<|CC<|BB f1<|CC<|BB f1<|VV ix8<|BB f1<|CC<|BB f1<|MM ld11<|BB f1<|CC<|BB f1<|MM (lown 3 2 (AV.int .i64 m.rank) G1_0 k!)<|BB f1<|VV (ieql 3 false false .i64 ((ahead.g i1).rank) m.rank)<|VV (pick_t (a:=some (AV.bool (decide (((ahead.g i1).rank)=m.rank)))) (b:=some (AV.bool false)) f1)<|HH ld6<|HH (show AV.same 20 (AV.str ((ahead.g i1).crew)) (AV.str ((ahead.g i1).crew))=true from same_str 19 _)<|HH (lown 9 1 (AV.str m.crew) G1_0 k!)<|HH (show AV.same 20 (AV.str m.crew) (AV.str m.crew)=true from same_str 19 _)<|HH ld11<|HH (show AV.same 20 (AV.int .i64 ((ahead.g i1).rank)) (AV.int .i64 ((ahead.g i1).rank))=true from same_int 19 _ _)<|HH (lown 3 2 (AV.int .i64 m.rank) G1_0 k!)<|HH (show AV.same 20 (AV.int .i64 m.rank) (AV.int .i64 m.rank)=true from same_int 19 _ _)<|BB f2<|CC<|VV u13<|CC<|ZZ) k!
       exact OptLoop.round (by simp only[r_checkMeasure_l1,f1,f2,cond_true,cond_false]) ev (Grow.refl y_hh) (fun x=>((x 0)::aheadV::(AV.ptr b1_0 0)::rx x 3 3 ((AV.int .i64 (((i1+1):Nat):Int))::rx x 7 64 []))) k! (fun x=>r_checkMeasure_l1_t aheadV ahead m b1_0 H1_0 H1_1 H1_2 O1_0 kq1 (i1+1) o! x hh y_hh a_hh G1_0)
   · have n_f1:=of_decide_eq_false f1
     have ln1:lenK (some (.slice 43)) (some aheadV)=some (AV.int .i64 ((ahead.length:Nat):Int)):=(H1_0.has a_hh).len
     have q2:(decide (((i1:Nat):Int)<((ahead.length:Nat):Int)))=true:=d!
     obtain ⟨p4,q5,ix3_⟩:=(H1_0.has a_hh).elem (i:=i1) o!
     have ix3:idxK env (some (.slice 43)) (some aheadV) (some (AV.int .i64 ((i1:Nat):Int)))=some (AV.ptr p4 q5):=ix3_
     have ld6:loadA env hh 9 (AV.ptr p4 (q5+1))=some (AV.str ((ahead.g i1).crew)):=(H1_0.has a_hh).part (t:=9) (j:=1) o! ix3_ k! rfl
     have u8:=nadd 3 false true i1 1 o!
     have ev:=pk (d+1) r_checkMeasure_lp1 ((x 0)::aheadV::(AV.ptr b1_0 0)::rx x 3 3 ((AV.int .i64 ((i1:Nat):Int))::rx x 7 64 [])) hh .normal hh (CN 2<|VV ln1<|VV (ilss 3 false false .i64 ((i1:Nat):Int) ((ahead.length:Nat):Int))<|BB q2<|CN 2<|VV ix3<|CC<|MM ld6<|CC<|MM (lown 9 1 (AV.str m.crew) G1_0 k!)<|VV (seql 9 false false ((ahead.g i1).crew) m.crew)<|CC<|BB f1<|BB f1<|BB f1<|BB f1<|BB f1<|BB f1<|BB f1<|BB f1<|VV (pick_f (a:=some AV.undef) (b:=some (AV.bool false)) f1)<|HH ld6<|HH (show AV.same 20 (AV.str ((ahead.g i1).crew)) (AV.str ((ahead.g i1).crew))=true from same_str 19 _)<|HH (lown 9 1 (AV.str m.crew) G1_0 k!)<|HH (show AV.same 20 (AV.str m.crew) (AV.str m.crew)=true from same_str 19 _)<|FF<|CC<|VV u8<|CC<|ZZ) k!
     exact OptLoop.round (by simp only[r_checkMeasure_l1,f1,cond_true,cond_false]) ev (Grow.refl y_hh) (fun x=>((x 0)::aheadV::(AV.ptr b1_0 0)::rx x 3 3 ((AV.int .i64 (((i1+1):Nat):Int))::rx x 7 64 []))) k! (fun x=>r_checkMeasure_l1_t aheadV ahead m b1_0 H1_0 H1_1 H1_2 O1_0 kq1 (i1+1) o! x hh y_hh a_hh G1_0)
def r_checkMeasure (m:Measure) (ahead:List Measure):Int:=(bif (!(r_Name m.name)) then 5 else (bif (!(r_Name m.crew)) then 5 else (match (r_checkMeasure_l0 ahead m ahead.length 0) with | none=>(bif (!(r_timed m.rank)) then 1 else (bif (!(r_timed m.lag)) then 1 else (bif (!(r_timed m.takes)) then 1 else (match (r_checkMeasure_l1 ahead m ahead.length 0) with | none=>0 | some rr14=>rr14)))) | some rr6=>rr6)))
theorem r_checkMeasure_c {d:Nat} {h:Heap} {aheadV:AV} (m:Measure) (ahead:List Measure) (h_m:RowT.ok h m) (h_ahead:RowsAt h aheadV ahead) (y_h:Tidy h):cal (d+2) (.fn 37) [(AV.agg [(AV.str m.name),(AV.str m.crew),(AV.int .i64 m.rank),(AV.int .i64 m.lag),(AV.int .i64 m.takes)]),aheadV] h= .ret (AV.int .i64 (r_checkMeasure m ahead)) h:=by
 have s_h_ahead:=h_ahead.small
 rcases Bool.eq_false_or_eq_true (!(r_Name m.name)) with f0 | f0
 · obtain ⟨h1,n_h1,y_h1,z_h1,g_h1,b_h1⟩:=nwB y_h (AObj.cells [(AV.str m.name),(AV.str m.crew),(AV.int .i64 m.rank),(AV.int .i64 m.lag),(AV.int .i64 m.takes)] 43 false)
   have a_h1:Has h h1:=b_h1
   have k2:=r_Name_c (d:=d) m.name h_m.1 y_h1
   have ev:=pk (d+1) r_checkMeasure_body ((AV.agg [(AV.str m.name),(AV.str m.crew),(AV.int .i64 m.rank),(AV.int .i64 m.lag),(AV.int .i64 m.takes)])::aheadV::und 69) h .ret h1 (NN n_h1 (fun i=>(AV.ptr i 0))<|CN 2<|MM (lown 9 0 (AV.str m.name) g_h1 k!)<|EE k2<|CN 2<|BB f0<|BB f0<|BB f0<|BB f0<|VV (pick_t (a:=some (AV.bool true)) (b:=some AV.undef) f0)<|TT<|CC<|ZZ) k!
   have e:r_checkMeasure m ahead=5:=by simp only[r_checkMeasure,f0,cond_true,cond_false]
   rw[e]
   exact callP_pure rfl (fn_of Tryz.func37 r_checkMeasure_B k! (.inr rfl) ev k!) a_h1 rfl
 · rcases Bool.eq_false_or_eq_true (!(r_Name m.crew)) with f1 | f1
   · obtain ⟨h1,n_h1,y_h1,z_h1,g_h1,b_h1⟩:=nwB y_h (AObj.cells [(AV.str m.name),(AV.str m.crew),(AV.int .i64 m.rank),(AV.int .i64 m.lag),(AV.int .i64 m.takes)] 43 false)
     have a_h1:Has h h1:=b_h1
     have k2:=r_Name_c (d:=d) m.name h_m.1 y_h1
     have k4:=r_Name_c (d:=d) m.crew h_m.2 y_h1
     have ev:=pk (d+1) r_checkMeasure_body ((AV.agg [(AV.str m.name),(AV.str m.crew),(AV.int .i64 m.rank),(AV.int .i64 m.lag),(AV.int .i64 m.takes)])::aheadV::und 69) h .ret h1 (NN n_h1 (fun i=>(AV.ptr i 0))<|CN 2<|MM (lown 9 0 (AV.str m.name) g_h1 k!)<|EE k2<|CN 2<|BB f0<|CC<|BB f0<|MM (lown 9 1 (AV.str m.crew) g_h1 k!)<|BB f0<|EE k4<|BB f0<|CC<|VV (pick_f (a:=some (AV.bool true)) (b:=some (AV.bool (!(r_Name m.crew)))) f0)<|BB f1<|CC<|ZZ) k!
     have e:r_checkMeasure m ahead=5:=by simp only[r_checkMeasure,f0,f1,cond_true,cond_false]
     rw[e]
     exact callP_pure rfl (fn_of Tryz.func37 r_checkMeasure_B k! (.inr rfl) ev k!) a_h1 rfl
   · cases hl_yl6:r_checkMeasure_l0 ahead m ahead.length 0 with
     | none=>
       rcases Bool.eq_false_or_eq_true (!(r_timed m.rank)) with f3 | f3
       · obtain ⟨h1,n_h1,y_h1,z_h1,g_h1,b_h1⟩:=nwB y_h (AObj.cells [(AV.str m.name),(AV.str m.crew),(AV.int .i64 m.rank),(AV.int .i64 m.lag),(AV.int .i64 m.takes)] 43 false)
         have a_h1:Has h h1:=b_h1
         have k2:=r_Name_c (d:=d) m.name h_m.1 y_h1
         have k4:=r_Name_c (d:=d) m.crew h_m.2 y_h1
         obtain ⟨yl6,h7,ev_yl6,G_h7⟩:=OptLoop.n hl_yl6 (r_checkMeasure_l0_t (d:=d) (h:=h) aheadV ahead m h.nx h_ahead h_m.1 h_m.2 h_m ahead.length 0 o! (fun k_=>(((AV.agg [(AV.str m.name),(AV.str m.crew),(AV.int .i64 m.rank),(AV.int .i64 m.lag),(AV.int .i64 m.takes)])::aheadV::(AV.ptr h.nx 0)::AV.undef::(AV.int .i64 0)::(AV.int .i64 0)::AV.undef::(AV.ptr h.nx 0)::(AV.str m.name)::(AV.bool (r_Name m.name))::(AV.bool (!(r_Name m.name)))::(AV.bool (!(r_Name m.name)))::(AV.ptr h.nx 1)::(AV.str m.crew)::(AV.bool (r_Name m.crew))::(AV.bool (!(r_Name m.crew)))::(AV.bool (!(r_Name m.crew)))::und 54):List AV).getD k_ AV.undef) h1 y_h1 a_h1 g_h1)
         have y_h7:=G_h7.y
         have m_h7:h1.nx≤h7.nx:=G_h7.n
         have a_h7:Has h h7:=a_h1.trans G_h7.a
         have k8:=r_timed_c (d:=d) m.rank y_h7
         have ev:=pk (d+1) r_checkMeasure_body ((AV.agg [(AV.str m.name),(AV.str m.crew),(AV.int .i64 m.rank),(AV.int .i64 m.lag),(AV.int .i64 m.takes)])::aheadV::und 69) h .ret h7 (NN n_h1 (fun i=>(AV.ptr i 0))<|CN 2<|MM (lown 9 0 (AV.str m.name) g_h1 k!)<|EE k2<|CN 2<|BB f0<|CC<|BB f0<|MM (lown 9 1 (AV.str m.crew) g_h1 k!)<|BB f0<|EE k4<|BB f0<|CC<|VV (pick_f (a:=some (AV.bool true)) (b:=some (AV.bool (!(r_Name m.crew)))) f0)<|BB f1<|CC<|LL ev_yl6<|CC<|MM (lown 3 2 (AV.int .i64 m.rank) (G_h7.a _ _ g_h1) k!)<|EE k8<|CN 2<|BB f3<|BB f3<|BB f3<|BB f3<|VV (pick_t (a:=some (AV.bool true)) (b:=some AV.undef) f3)<|CC<|TT<|TT<|TT<|TT<|CC<|TT<|CC<|ZZ) k!
         have e:r_checkMeasure m ahead=1:=by simp only[r_checkMeasure,f0,f1,hl_yl6,f3,cond_true,cond_false]
         rw[e]
         exact callP_pure rfl (fn_of Tryz.func37 r_checkMeasure_B k! (.inr rfl) ev k!) a_h7 rfl
       · rcases Bool.eq_false_or_eq_true (!(r_timed m.lag)) with f4 | f4
         · obtain ⟨h1,n_h1,y_h1,z_h1,g_h1,b_h1⟩:=nwB y_h (AObj.cells [(AV.str m.name),(AV.str m.crew),(AV.int .i64 m.rank),(AV.int .i64 m.lag),(AV.int .i64 m.takes)] 43 false)
           have a_h1:Has h h1:=b_h1
           have k2:=r_Name_c (d:=d) m.name h_m.1 y_h1
           have k4:=r_Name_c (d:=d) m.crew h_m.2 y_h1
           obtain ⟨yl6,h7,ev_yl6,G_h7⟩:=OptLoop.n hl_yl6 (r_checkMeasure_l0_t (d:=d) (h:=h) aheadV ahead m h.nx h_ahead h_m.1 h_m.2 h_m ahead.length 0 o! (fun k_=>(((AV.agg [(AV.str m.name),(AV.str m.crew),(AV.int .i64 m.rank),(AV.int .i64 m.lag),(AV.int .i64 m.takes)])::aheadV::(AV.ptr h.nx 0)::AV.undef::(AV.int .i64 0)::(AV.int .i64 0)::AV.undef::(AV.ptr h.nx 0)::(AV.str m.name)::(AV.bool (r_Name m.name))::(AV.bool (!(r_Name m.name)))::(AV.bool (!(r_Name m.name)))::(AV.ptr h.nx 1)::(AV.str m.crew)::(AV.bool (r_Name m.crew))::(AV.bool (!(r_Name m.crew)))::(AV.bool (!(r_Name m.crew)))::und 54):List AV).getD k_ AV.undef) h1 y_h1 a_h1 g_h1)
           have y_h7:=G_h7.y
           have m_h7:h1.nx≤h7.nx:=G_h7.n
           have a_h7:Has h h7:=a_h1.trans G_h7.a
           have k8:=r_timed_c (d:=d) m.rank y_h7
           have k10:=r_timed_c (d:=d) m.lag y_h7
           have ev:=pk (d+1) r_checkMeasure_body ((AV.agg [(AV.str m.name),(AV.str m.crew),(AV.int .i64 m.rank),(AV.int .i64 m.lag),(AV.int .i64 m.takes)])::aheadV::und 69) h .ret h7 (NN n_h1 (fun i=>(AV.ptr i 0))<|CN 2<|MM (lown 9 0 (AV.str m.name) g_h1 k!)<|EE k2<|CN 2<|BB f0<|CC<|BB f0<|MM (lown 9 1 (AV.str m.crew) g_h1 k!)<|BB f0<|EE k4<|BB f0<|CC<|VV (pick_f (a:=some (AV.bool true)) (b:=some (AV.bool (!(r_Name m.crew)))) f0)<|BB f1<|CC<|LL ev_yl6<|CC<|MM (lown 3 2 (AV.int .i64 m.rank) (G_h7.a _ _ g_h1) k!)<|EE k8<|CN 2<|BB f3<|CC<|BB f3<|MM (lown 3 3 (AV.int .i64 m.lag) (G_h7.a _ _ g_h1) k!)<|BB f3<|EE k10<|BB f3<|CC<|VV (pick_f (a:=some (AV.bool true)) (b:=some (AV.bool (!(r_timed m.lag)))) f3)<|CC<|BB f4<|BB f4<|BB f4<|BB f4<|VV (pick_t (a:=some (AV.bool true)) (b:=some AV.undef) f4)<|TT<|CC<|ZZ) k!
           have e:r_checkMeasure m ahead=1:=by simp only[r_checkMeasure,f0,f1,hl_yl6,f3,f4,cond_true,cond_false]
           rw[e]
           exact callP_pure rfl (fn_of Tryz.func37 r_checkMeasure_B k! (.inr rfl) ev k!) a_h7 rfl
         · rcases Bool.eq_false_or_eq_true (!(r_timed m.takes)) with f5 | f5
           · obtain ⟨h1,n_h1,y_h1,z_h1,g_h1,b_h1⟩:=nwB y_h (AObj.cells [(AV.str m.name),(AV.str m.crew),(AV.int .i64 m.rank),(AV.int .i64 m.lag),(AV.int .i64 m.takes)] 43 false)
             have a_h1:Has h h1:=b_h1
             have k2:=r_Name_c (d:=d) m.name h_m.1 y_h1
             have k4:=r_Name_c (d:=d) m.crew h_m.2 y_h1
             obtain ⟨yl6,h7,ev_yl6,G_h7⟩:=OptLoop.n hl_yl6 (r_checkMeasure_l0_t (d:=d) (h:=h) aheadV ahead m h.nx h_ahead h_m.1 h_m.2 h_m ahead.length 0 o! (fun k_=>(((AV.agg [(AV.str m.name),(AV.str m.crew),(AV.int .i64 m.rank),(AV.int .i64 m.lag),(AV.int .i64 m.takes)])::aheadV::(AV.ptr h.nx 0)::AV.undef::(AV.int .i64 0)::(AV.int .i64 0)::AV.undef::(AV.ptr h.nx 0)::(AV.str m.name)::(AV.bool (r_Name m.name))::(AV.bool (!(r_Name m.name)))::(AV.bool (!(r_Name m.name)))::(AV.ptr h.nx 1)::(AV.str m.crew)::(AV.bool (r_Name m.crew))::(AV.bool (!(r_Name m.crew)))::(AV.bool (!(r_Name m.crew)))::und 54):List AV).getD k_ AV.undef) h1 y_h1 a_h1 g_h1)
             have y_h7:=G_h7.y
             have m_h7:h1.nx≤h7.nx:=G_h7.n
             have a_h7:Has h h7:=a_h1.trans G_h7.a
             have k8:=r_timed_c (d:=d) m.rank y_h7
             have k10:=r_timed_c (d:=d) m.lag y_h7
             have k12:=r_timed_c (d:=d) m.takes y_h7
             have ev:=pk (d+1) r_checkMeasure_body ((AV.agg [(AV.str m.name),(AV.str m.crew),(AV.int .i64 m.rank),(AV.int .i64 m.lag),(AV.int .i64 m.takes)])::aheadV::und 69) h .ret h7 (NN n_h1 (fun i=>(AV.ptr i 0))<|CN 2<|MM (lown 9 0 (AV.str m.name) g_h1 k!)<|EE k2<|CN 2<|BB f0<|CC<|BB f0<|MM (lown 9 1 (AV.str m.crew) g_h1 k!)<|BB f0<|EE k4<|BB f0<|CC<|VV (pick_f (a:=some (AV.bool true)) (b:=some (AV.bool (!(r_Name m.crew)))) f0)<|BB f1<|CC<|LL ev_yl6<|CC<|MM (lown 3 2 (AV.int .i64 m.rank) (G_h7.a _ _ g_h1) k!)<|EE k8<|CN 2<|BB f3<|CC<|BB f3<|MM (lown 3 3 (AV.int .i64 m.lag) (G_h7.a _ _ g_h1) k!)<|BB f3<|EE k10<|BB f3<|CC<|VV (pick_f (a:=some (AV.bool true)) (b:=some (AV.bool (!(r_timed m.lag)))) f3)<|CC<|BB f4<|CC<|BB f4<|MM (lown 3 4 (AV.int .i64 m.takes) (G_h7.a _ _ g_h1) k!)<|BB f4<|EE k12<|BB f4<|CC<|VV (pick_f (a:=some (AV.bool true)) (b:=some (AV.bool (!(r_timed m.takes)))) f4)<|BB f5<|CC<|ZZ) k!
             have e:r_checkMeasure m ahead=1:=by simp only[r_checkMeasure,f0,f1,hl_yl6,f3,f4,f5,cond_true,cond_false]
             rw[e]
             exact callP_pure rfl (fn_of Tryz.func37 r_checkMeasure_B k! (.inr rfl) ev k!) a_h7 rfl
           · cases hl_yl14:r_checkMeasure_l1 ahead m ahead.length 0 with
             | none=>
               obtain ⟨h1,n_h1,y_h1,z_h1,g_h1,b_h1⟩:=nwB y_h (AObj.cells [(AV.str m.name),(AV.str m.crew),(AV.int .i64 m.rank),(AV.int .i64 m.lag),(AV.int .i64 m.takes)] 43 false)
               have a_h1:Has h h1:=b_h1
               have k2:=r_Name_c (d:=d) m.name h_m.1 y_h1
               have k4:=r_Name_c (d:=d) m.crew h_m.2 y_h1
               obtain ⟨yl6,h7,ev_yl6,G_h7⟩:=OptLoop.n hl_yl6 (r_checkMeasure_l0_t (d:=d) (h:=h) aheadV ahead m h.nx h_ahead h_m.1 h_m.2 h_m ahead.length 0 o! (fun k_=>(((AV.agg [(AV.str m.name),(AV.str m.crew),(AV.int .i64 m.rank),(AV.int .i64 m.lag),(AV.int .i64 m.takes)])::aheadV::(AV.ptr h.nx 0)::AV.undef::(AV.int .i64 0)::(AV.int .i64 0)::AV.undef::(AV.ptr h.nx 0)::(AV.str m.name)::(AV.bool (r_Name m.name))::(AV.bool (!(r_Name m.name)))::(AV.bool (!(r_Name m.name)))::(AV.ptr h.nx 1)::(AV.str m.crew)::(AV.bool (r_Name m.crew))::(AV.bool (!(r_Name m.crew)))::(AV.bool (!(r_Name m.crew)))::und 54):List AV).getD k_ AV.undef) h1 y_h1 a_h1 g_h1)
               have y_h7:=G_h7.y
               have m_h7:h1.nx≤h7.nx:=G_h7.n
               have a_h7:Has h h7:=a_h1.trans G_h7.a
               have k8:=r_timed_c (d:=d) m.rank y_h7
               have k10:=r_timed_c (d:=d) m.lag y_h7
               have k12:=r_timed_c (d:=d) m.takes y_h7
               obtain ⟨yl14,h15,ev_yl14,G_h15⟩:=OptLoop.n hl_yl14 (r_checkMeasure_l1_t (d:=d) (h:=h) aheadV ahead m h.nx h_ahead h_m.1 h_m.2 h_m ahead.length 0 o! (fun k_=>(((yl6 0)::aheadV::(AV.ptr h.nx 0)::rx yl6 3 3 ((AV.int .i64 0)::rx yl6 7 24 ((AV.ptr h.nx 2)::(AV.int .i64 m.rank)::(AV.bool (r_timed m.rank))::(AV.bool (!(r_timed m.rank)))::(AV.bool (!(r_timed m.rank)))::(AV.ptr h.nx 3)::(AV.int .i64 m.lag)::(AV.bool (r_timed m.lag))::(AV.bool (!(r_timed m.lag)))::(AV.bool (!(r_timed m.lag)))::(AV.bool (!(r_timed m.lag)))::(AV.ptr h.nx 4)::(AV.int .i64 m.takes)::(AV.bool (r_timed m.takes))::(AV.bool (!(r_timed m.takes)))::(AV.bool (!(r_timed m.takes)))::rx yl6 47 24 []))):List AV).getD k_ AV.undef) h7 y_h7 a_h7 (G_h7.a _ _ g_h1))
               have y_h15:=G_h15.y
               have m_h15:h7.nx≤h15.nx:=G_h15.n
               have a_h15:Has h h15:=a_h7.trans G_h15.a
               have a_h7_h15:Has h7 h15:=G_h15.a
               have ev:=pk (d+1) r_checkMeasure_body ((AV.agg [(AV.str m.name),(AV.str m.crew),(AV.int .i64 m.rank),(AV.int .i64 m.lag),(AV.int .i64 m.takes)])::aheadV::und 69) h .ret h15 (NN n_h1 (fun i=>(AV.ptr i 0))<|CN 2<|MM (lown 9 0 (AV.str m.name) g_h1 k!)<|EE k2<|CN 2<|BB f0<|CC<|BB f0<|MM (lown 9 1 (AV.str m.crew) g_h1 k!)<|BB f0<|EE k4<|BB f0<|CC<|VV (pick_f (a:=some (AV.bool true)) (b:=some (AV.bool (!(r_Name m.crew)))) f0)<|BB f1<|CC<|LL ev_yl6<|CC<|MM (lown 3 2 (AV.int .i64 m.rank) (G_h7.a _ _ g_h1) k!)<|EE k8<|CN 2<|BB f3<|CC<|BB f3<|MM (lown 3 3 (AV.int .i64 m.lag) (G_h7.a _ _ g_h1) k!)<|BB f3<|EE k10<|BB f3<|CC<|VV (pick_f (a:=some (AV.bool true)) (b:=some (AV.bool (!(r_timed m.lag)))) f3)<|CC<|BB f4<|CC<|BB f4<|MM (lown 3 4 (AV.int .i64 m.takes) (G_h7.a _ _ g_h1) k!)<|BB f4<|EE k12<|BB f4<|CC<|VV (pick_f (a:=some (AV.bool true)) (b:=some (AV.bool (!(r_timed m.takes)))) f4)<|BB f5<|CC<|LL ev_yl14<|CC<|ZZ) k!
               have e:r_checkMeasure m ahead=0:=by simp only[r_checkMeasure,f0,f1,hl_yl6,f3,f4,f5,hl_yl14,cond_true,cond_false]
               rw[e]
               exact callP_pure rfl (fn_of Tryz.func37 r_checkMeasure_B k! (.inr rfl) ev k!) a_h15 rfl
             | some rr14=>
               obtain ⟨h1,n_h1,y_h1,z_h1,g_h1,b_h1⟩:=nwB y_h (AObj.cells [(AV.str m.name),(AV.str m.crew),(AV.int .i64 m.rank),(AV.int .i64 m.lag),(AV.int .i64 m.takes)] 43 false)
               have a_h1:Has h h1:=b_h1
               have k2:=r_Name_c (d:=d) m.name h_m.1 y_h1
               have k4:=r_Name_c (d:=d) m.crew h_m.2 y_h1
               obtain ⟨yl6,h7,ev_yl6,G_h7⟩:=OptLoop.n hl_yl6 (r_checkMeasure_l0_t (d:=d) (h:=h) aheadV ahead m h.nx h_ahead h_m.1 h_m.2 h_m ahead.length 0 o! (fun k_=>(((AV.agg [(AV.str m.name),(AV.str m.crew),(AV.int .i64 m.rank),(AV.int .i64 m.lag),(AV.int .i64 m.takes)])::aheadV::(AV.ptr h.nx 0)::AV.undef::(AV.int .i64 0)::(AV.int .i64 0)::AV.undef::(AV.ptr h.nx 0)::(AV.str m.name)::(AV.bool (r_Name m.name))::(AV.bool (!(r_Name m.name)))::(AV.bool (!(r_Name m.name)))::(AV.ptr h.nx 1)::(AV.str m.crew)::(AV.bool (r_Name m.crew))::(AV.bool (!(r_Name m.crew)))::(AV.bool (!(r_Name m.crew)))::und 54):List AV).getD k_ AV.undef) h1 y_h1 a_h1 g_h1)
               have y_h7:=G_h7.y
               have m_h7:h1.nx≤h7.nx:=G_h7.n
               have a_h7:Has h h7:=a_h1.trans G_h7.a
               have k8:=r_timed_c (d:=d) m.rank y_h7
               have k10:=r_timed_c (d:=d) m.lag y_h7
               have k12:=r_timed_c (d:=d) m.takes y_h7
               obtain ⟨yl14,h15,ev_yl14,G_h15⟩:=OptLoop.r hl_yl14 (r_checkMeasure_l1_t (d:=d) (h:=h) aheadV ahead m h.nx h_ahead h_m.1 h_m.2 h_m ahead.length 0 o! (fun k_=>(((yl6 0)::aheadV::(AV.ptr h.nx 0)::rx yl6 3 3 ((AV.int .i64 0)::rx yl6 7 24 ((AV.ptr h.nx 2)::(AV.int .i64 m.rank)::(AV.bool (r_timed m.rank))::(AV.bool (!(r_timed m.rank)))::(AV.bool (!(r_timed m.rank)))::(AV.ptr h.nx 3)::(AV.int .i64 m.lag)::(AV.bool (r_timed m.lag))::(AV.bool (!(r_timed m.lag)))::(AV.bool (!(r_timed m.lag)))::(AV.bool (!(r_timed m.lag)))::(AV.ptr h.nx 4)::(AV.int .i64 m.takes)::(AV.bool (r_timed m.takes))::(AV.bool (!(r_timed m.takes)))::(AV.bool (!(r_timed m.takes)))::rx yl6 47 24 []))):List AV).getD k_ AV.undef) h7 y_h7 a_h7 (G_h7.a _ _ g_h1))
               have y_h15:=G_h15.y
               have m_h15:h7.nx≤h15.nx:=G_h15.n
               have a_h15:Has h h15:=a_h7.trans G_h15.a
               have a_h7_h15:Has h7 h15:=G_h15.a
               have ev:=pk (d+1) r_checkMeasure_body ((AV.agg [(AV.str m.name),(AV.str m.crew),(AV.int .i64 m.rank),(AV.int .i64 m.lag),(AV.int .i64 m.takes)])::aheadV::und 69) h .ret h15 (NN n_h1 (fun i=>(AV.ptr i 0))<|CN 2<|MM (lown 9 0 (AV.str m.name) g_h1 k!)<|EE k2<|CN 2<|BB f0<|CC<|BB f0<|MM (lown 9 1 (AV.str m.crew) g_h1 k!)<|BB f0<|EE k4<|BB f0<|CC<|VV (pick_f (a:=some (AV.bool true)) (b:=some (AV.bool (!(r_Name m.crew)))) f0)<|BB f1<|CC<|LL ev_yl6<|CC<|MM (lown 3 2 (AV.int .i64 m.rank) (G_h7.a _ _ g_h1) k!)<|EE k8<|CN 2<|BB f3<|CC<|BB f3<|MM (lown 3 3 (AV.int .i64 m.lag) (G_h7.a _ _ g_h1) k!)<|BB f3<|EE k10<|BB f3<|CC<|VV (pick_f (a:=some (AV.bool true)) (b:=some (AV.bool (!(r_timed m.lag)))) f3)<|CC<|BB f4<|CC<|BB f4<|MM (lown 3 4 (AV.int .i64 m.takes) (G_h7.a _ _ g_h1) k!)<|BB f4<|EE k12<|BB f4<|CC<|VV (pick_f (a:=some (AV.bool true)) (b:=some (AV.bool (!(r_timed m.takes)))) f4)<|BB f5<|CC<|LL ev_yl14<|ZZ) k!
               have e:r_checkMeasure m ahead=rr14:=by simp only[r_checkMeasure,f0,f1,hl_yl6,f3,f4,f5,hl_yl14,cond_true,cond_false]
               rw[e]
               exact callP_pure rfl (fn_of Tryz.func37 r_checkMeasure_B k! (.inr rfl) ev k!) a_h15 rfl
     | some rr6=>
       obtain ⟨h1,n_h1,y_h1,z_h1,g_h1,b_h1⟩:=nwB y_h (AObj.cells [(AV.str m.name),(AV.str m.crew),(AV.int .i64 m.rank),(AV.int .i64 m.lag),(AV.int .i64 m.takes)] 43 false)
       have a_h1:Has h h1:=b_h1
       have k2:=r_Name_c (d:=d) m.name h_m.1 y_h1
       have k4:=r_Name_c (d:=d) m.crew h_m.2 y_h1
       obtain ⟨yl6,h7,ev_yl6,G_h7⟩:=OptLoop.r hl_yl6 (r_checkMeasure_l0_t (d:=d) (h:=h) aheadV ahead m h.nx h_ahead h_m.1 h_m.2 h_m ahead.length 0 o! (fun k_=>(((AV.agg [(AV.str m.name),(AV.str m.crew),(AV.int .i64 m.rank),(AV.int .i64 m.lag),(AV.int .i64 m.takes)])::aheadV::(AV.ptr h.nx 0)::AV.undef::(AV.int .i64 0)::(AV.int .i64 0)::AV.undef::(AV.ptr h.nx 0)::(AV.str m.name)::(AV.bool (r_Name m.name))::(AV.bool (!(r_Name m.name)))::(AV.bool (!(r_Name m.name)))::(AV.ptr h.nx 1)::(AV.str m.crew)::(AV.bool (r_Name m.crew))::(AV.bool (!(r_Name m.crew)))::(AV.bool (!(r_Name m.crew)))::und 54):List AV).getD k_ AV.undef) h1 y_h1 a_h1 g_h1)
       have y_h7:=G_h7.y
       have m_h7:h1.nx≤h7.nx:=G_h7.n
       have a_h7:Has h h7:=a_h1.trans G_h7.a
       have ev:=pk (d+1) r_checkMeasure_body ((AV.agg [(AV.str m.name),(AV.str m.crew),(AV.int .i64 m.rank),(AV.int .i64 m.lag),(AV.int .i64 m.takes)])::aheadV::und 69) h .ret h7 (NN n_h1 (fun i=>(AV.ptr i 0))<|CN 2<|MM (lown 9 0 (AV.str m.name) g_h1 k!)<|EE k2<|CN 2<|BB f0<|CC<|BB f0<|MM (lown 9 1 (AV.str m.crew) g_h1 k!)<|BB f0<|EE k4<|BB f0<|CC<|VV (pick_f (a:=some (AV.bool true)) (b:=some (AV.bool (!(r_Name m.crew)))) f0)<|BB f1<|CC<|LL ev_yl6<|ZZ) k!
       have e:r_checkMeasure m ahead=rr6:=by simp only[r_checkMeasure,f0,f1,hl_yl6,cond_true,cond_false]
       rw[e]
       exact callP_pure rfl (fn_of Tryz.func37 r_checkMeasure_B k! (.inr rfl) ev k!) a_h7 rfl
end Go.Proofs.Bench
