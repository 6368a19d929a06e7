import Derived.Test.YtjpijdaopopeeaaGreatW0
import Derived.Test.YtjpijdaopopeeaaGreatW6
import Derived.Test.YtjpijdaopopeeaaGreatW7
namespace Go.Proofs.Bench
open Go.Proofs Ab
set_option maxRecDepth 100000
set_option maxHeartbeats 4000000
set_option linter.unusedVariables false
set_option linter.unusedSimpArgs false
noncomputable def w_checkMeasure_body:Code:=(Tryz.f31.body).getD .skip
theorem w_checkMeasure_B:Tryz.f31.body=some w_checkMeasure_body:=by kernel_rfl
def w_checkMeasure (ahead:List Measure) (m:Measure):Int:=(bif (!(w_isName m.name)) then 5 else (bif (!(w_isName m.crew)) then 5 else (bif (w_containsMeasure ahead (fun y=>w_checkMeasure1 y m)) then 6 else (bif (!(w_isTime m.rank)) then 1 else (bif (!(w_isTime m.lag)) then 1 else (bif (!(w_isTime m.takes)) then 1 else (bif (w_containsMeasure ahead (fun y=>w_checkMeasure2 y m)) then 10 else 0)))))))
theorem w_checkMeasure_c {d:Nat} {h:Heap} {aheadV:AV} (ahead:List Measure) (m:Measure) (h_ahead:RowsAt h aheadV ahead) (h_m:RowT.ok h m) (y_h:Tidy h):cal (d+5) (.fn 31) [aheadV,(AV.agg [(AV.str m.name),(AV.str m.crew),(AV.int .i64 m.rank),(AV.int .i64 m.lag),(AV.int .i64 m.takes)])] h= .ret (AV.int .i64 (w_checkMeasure ahead m)) h:=by
 have s_h_ahead:=h_ahead.small
 rcases Bool.eq_false_or_eq_true (!(w_isName m.name)) with f0 | f0
 · obtain ⟨h1,n_h1,y_h1,z_h1,g_h1,b_h1⟩:=nwB y_h (AObj.cells [(AV.str m.name),(AV.str m.crew),(AV.int .i64 m.rank),(AV.int .i64 m.lag),(AV.int .i64 m.takes)] 43 false)
   have a_h1:Has h h1:=b_h1
   have k2:=w_isName_c (d:=d+3) m.name h_m.1 y_h1
   have ev:=pk (d+4) w_checkMeasure_body (aheadV::(AV.agg [(AV.str m.name),(AV.str m.crew),(AV.int .i64 m.rank),(AV.int .i64 m.lag),(AV.int .i64 m.takes)])::und 33) h .ret h1 (NN n_h1 (fun i=>(AV.ptr i 0))<|CN 2<|MM (lown 9 0 (AV.str m.name) g_h1 k!)<|EE k2<|CN 2<|BB f0<|BB f0<|CC<|ZZ) k!
   have e:w_checkMeasure ahead m=5:=by simp only[w_checkMeasure,f0,cond_true,cond_false]
   rw[e]
   exact callP_pure rfl (fn_of Tryz.func31 w_checkMeasure_B k! (.inr rfl) ev k!) a_h1 rfl
 · rcases Bool.eq_false_or_eq_true (!(w_isName m.crew)) with f1 | f1
   · obtain ⟨h1,n_h1,y_h1,z_h1,g_h1,b_h1⟩:=nwB y_h (AObj.cells [(AV.str m.name),(AV.str m.crew),(AV.int .i64 m.rank),(AV.int .i64 m.lag),(AV.int .i64 m.takes)] 43 false)
     have a_h1:Has h h1:=b_h1
     have k2:=w_isName_c (d:=d+3) m.name h_m.1 y_h1
     have k4:=w_isName_c (d:=d+3) m.crew h_m.2 y_h1
     have ev:=pk (d+4) w_checkMeasure_body (aheadV::(AV.agg [(AV.str m.name),(AV.str m.crew),(AV.int .i64 m.rank),(AV.int .i64 m.lag),(AV.int .i64 m.takes)])::und 33) h .ret h1 (NN n_h1 (fun i=>(AV.ptr i 0))<|CN 2<|MM (lown 9 0 (AV.str m.name) g_h1 k!)<|EE k2<|CN 2<|BB f0<|CC<|MM (lown 9 1 (AV.str m.crew) g_h1 k!)<|EE k4<|CN 2<|BB f1<|CC<|ZZ) k!
     have e:w_checkMeasure ahead m=5:=by simp only[w_checkMeasure,f0,f1,cond_true,cond_false]
     rw[e]
     exact callP_pure rfl (fn_of Tryz.func31 w_checkMeasure_B k! (.inr rfl) ev k!) a_h1 rfl
   · rcases Bool.eq_false_or_eq_true (w_containsMeasure ahead (fun y=>w_checkMeasure1 y m)) with f2 | f2
     · obtain ⟨h1,n_h1,y_h1,z_h1,g_h1,b_h1⟩:=nwB y_h (AObj.cells [(AV.str m.name),(AV.str m.crew),(AV.int .i64 m.rank),(AV.int .i64 m.lag),(AV.int .i64 m.takes)] 43 false)
       have a_h1:Has h h1:=b_h1
       have k2:=w_isName_c (d:=d+3) m.name h_m.1 y_h1
       have k4:=w_isName_c (d:=d+3) m.crew h_m.2 y_h1
       have k6:=w_containsMeasure_c (d:=d+2) ahead (fun y=>w_checkMeasure1 y m) (h_ahead.has a_h1) (fun y hy hh yy aa=>w_checkMeasure1_c (d:=d+1) y m h.nx (RowT.mono aa ((h_ahead.has a_h1).oks y hy)) (RowT.mono aa (RowT.mono a_h1 h_m)) (aa _ _ g_h1) yy) y_h1
       have ev:=pk (d+4) w_checkMeasure_body (aheadV::(AV.agg [(AV.str m.name),(AV.str m.crew),(AV.int .i64 m.rank),(AV.int .i64 m.lag),(AV.int .i64 m.takes)])::und 33) h .ret h1 (NN n_h1 (fun i=>(AV.ptr i 0))<|CN 2<|MM (lown 9 0 (AV.str m.name) g_h1 k!)<|EE k2<|CN 2<|BB f0<|CC<|MM (lown 9 1 (AV.str m.crew) g_h1 k!)<|EE k4<|CN 2<|BB f1<|CN 2<|EE k6<|CC<|BB f2<|CC<|ZZ) k!
       have e:w_checkMeasure ahead m=6:=by simp only[w_checkMeasure,f0,f1,f2,cond_true,cond_false]
       rw[e]
       exact callP_pure rfl (fn_of Tryz.func31 w_checkMeasure_B k! (.inr rfl) ev k!) a_h1 rfl
     · rcases Bool.eq_false_or_eq_true (!(w_isTime m.rank)) with f3 | f3
       · obtain ⟨h1,n_h1,y_h1,z_h1,g_h1,b_h1⟩:=nwB y_h (AObj.cells [(AV.str m.name),(AV.str m.crew),(AV.int .i64 m.rank),(AV.int .i64 m.lag),(AV.int .i64 m.takes)] 43 false)
         have a_h1:Has h h1:=b_h1
         have k2:=w_isName_c (d:=d+3) m.name h_m.1 y_h1
         have k4:=w_isName_c (d:=d+3) m.crew h_m.2 y_h1
         have k6:=w_containsMeasure_c (d:=d+2) ahead (fun y=>w_checkMeasure1 y m) (h_ahead.has a_h1) (fun y hy hh yy aa=>w_checkMeasure1_c (d:=d+1) y m h.nx (RowT.mono aa ((h_ahead.has a_h1).oks y hy)) (RowT.mono aa (RowT.mono a_h1 h_m)) (aa _ _ g_h1) yy) y_h1
         have k8:=w_isTime_c (d:=d+2) m.rank y_h1
         have ev:=pk (d+4) w_checkMeasure_body (aheadV::(AV.agg [(AV.str m.name),(AV.str m.crew),(AV.int .i64 m.rank),(AV.int .i64 m.lag),(AV.int .i64 m.takes)])::und 33) h .ret h1 (NN n_h1 (fun i=>(AV.ptr i 0))<|CN 2<|MM (lown 9 0 (AV.str m.name) g_h1 k!)<|EE k2<|CN 2<|BB f0<|CC<|MM (lown 9 1 (AV.str m.crew) g_h1 k!)<|EE k4<|CN 2<|BB f1<|CN 2<|EE k6<|CC<|BB f2<|CC<|MM (lown 3 2 (AV.int .i64 m.rank) g_h1 k!)<|EE k8<|CN 2<|BB f3<|BB f3<|CC<|ZZ) k!
         have e:w_checkMeasure ahead m=1:=by simp only[w_checkMeasure,f0,f1,f2,f3,cond_true,cond_false]
         rw[e]
         exact callP_pure rfl (fn_of Tryz.func31 w_checkMeasure_B k! (.inr rfl) ev k!) a_h1 rfl
       · rcases Bool.eq_false_or_eq_true (!(w_isTime m.lag)) with f4 | f4
         · obtain ⟨h1,n_h1,y_h1,z_h1,g_h1,b_h1⟩:=nwB y_h (AObj.cells [(AV.str m.name),(AV.str m.crew),(AV.int .i64 m.rank),(AV.int .i64 m.lag),(AV.int .i64 m.takes)] 43 false)
           have a_h1:Has h h1:=b_h1
           have k2:=w_isName_c (d:=d+3) m.name h_m.1 y_h1
           have k4:=w_isName_c (d:=d+3) m.crew h_m.2 y_h1
           have k6:=w_containsMeasure_c (d:=d+2) ahead (fun y=>w_checkMeasure1 y m) (h_ahead.has a_h1) (fun y hy hh yy aa=>w_checkMeasure1_c (d:=d+1) y m h.nx (RowT.mono aa ((h_ahead.has a_h1).oks y hy)) (RowT.mono aa (RowT.mono a_h1 h_m)) (aa _ _ g_h1) yy) y_h1
           have k8:=w_isTime_c (d:=d+2) m.rank y_h1
           have k10:=w_isTime_c (d:=d+2) m.lag y_h1
           have ev:=pk (d+4) w_checkMeasure_body (aheadV::(AV.agg [(AV.str m.name),(AV.str m.crew),(AV.int .i64 m.rank),(AV.int .i64 m.lag),(AV.int .i64 m.takes)])::und 33) h .ret h1 (NN n_h1 (fun i=>(AV.ptr i 0))<|CN 2<|MM (lown 9 0 (AV.str m.name) g_h1 k!)<|EE k2<|CN 2<|BB f0<|CC<|MM (lown 9 1 (AV.str m.crew) g_h1 k!)<|EE k4<|CN 2<|BB f1<|CN 2<|EE k6<|CC<|BB f2<|CC<|MM (lown 3 2 (AV.int .i64 m.rank) g_h1 k!)<|EE k8<|CN 2<|BB f3<|CC<|MM (lown 3 3 (AV.int .i64 m.lag) g_h1 k!)<|EE k10<|CN 2<|BB f4<|BB f4<|CC<|ZZ) k!
           have e:w_checkMeasure ahead m=1:=by simp only[w_checkMeasure,f0,f1,f2,f3,f4,cond_true,cond_false]
           rw[e]
           exact callP_pure rfl (fn_of Tryz.func31 w_checkMeasure_B k! (.inr rfl) ev k!) a_h1 rfl
         · rcases Bool.eq_false_or_eq_true (!(w_isTime m.takes)) with f5 | f5
           · obtain ⟨h1,n_h1,y_h1,z_h1,g_h1,b_h1⟩:=nwB y_h (AObj.cells [(AV.str m.name),(AV.str m.crew),(AV.int .i64 m.rank),(AV.int .i64 m.lag),(AV.int .i64 m.takes)] 43 false)
             have a_h1:Has h h1:=b_h1
             have k2:=w_isName_c (d:=d+3) m.name h_m.1 y_h1
             have k4:=w_isName_c (d:=d+3) m.crew h_m.2 y_h1
             have k6:=w_containsMeasure_c (d:=d+2) ahead (fun y=>w_checkMeasure1 y m) (h_ahead.has a_h1) (fun y hy hh yy aa=>w_checkMeasure1_c (d:=d+1) y m h.nx (RowT.mono aa ((h_ahead.has a_h1).oks y hy)) (RowT.mono aa (RowT.mono a_h1 h_m)) (aa _ _ g_h1) yy) y_h1
             have k8:=w_isTime_c (d:=d+2) m.rank y_h1
             have k10:=w_isTime_c (d:=d+2) m.lag y_h1
             have k12:=w_isTime_c (d:=d+2) m.takes y_h1
             have ev:=pk (d+4) w_checkMeasure_body (aheadV::(AV.agg [(AV.str m.name),(AV.str m.crew),(AV.int .i64 m.rank),(AV.int .i64 m.lag),(AV.int .i64 m.takes)])::und 33) h .ret h1 (NN n_h1 (fun i=>(AV.ptr i 0))<|CN 2<|MM (lown 9 0 (AV.str m.name) g_h1 k!)<|EE k2<|CN 2<|BB f0<|CC<|MM (lown 9 1 (AV.str m.crew) g_h1 k!)<|EE k4<|CN 2<|BB f1<|CN 2<|EE k6<|CC<|BB f2<|CC<|MM (lown 3 2 (AV.int .i64 m.rank) g_h1 k!)<|EE k8<|CN 2<|BB f3<|CC<|MM (lown 3 3 (AV.int .i64 m.lag) g_h1 k!)<|EE k10<|CN 2<|BB f4<|CC<|MM (lown 3 4 (AV.int .i64 m.takes) g_h1 k!)<|EE k12<|CN 2<|BB f5<|CC<|ZZ) k!
             have e:w_checkMeasure ahead m=1:=by simp only[w_checkMeasure,f0,f1,f2,f3,f4,f5,cond_true,cond_false]
             rw[e]
             exact callP_pure rfl (fn_of Tryz.func31 w_checkMeasure_B k! (.inr rfl) ev k!) a_h1 rfl
           · rcases Bool.eq_false_or_eq_true (w_containsMeasure ahead (fun y=>w_checkMeasure2 y m)) with f6 | f6
             · obtain ⟨h1,n_h1,y_h1,z_h1,g_h1,b_h1⟩:=nwB y_h (AObj.cells [(AV.str m.name),(AV.str m.crew),(AV.int .i64 m.rank),(AV.int .i64 m.lag),(AV.int .i64 m.takes)] 43 false)
               have a_h1:Has h h1:=b_h1
               have k2:=w_isName_c (d:=d+3) m.name h_m.1 y_h1
               have k4:=w_isName_c (d:=d+3) m.crew h_m.2 y_h1
               have k6:=w_containsMeasure_c (d:=d+2) ahead (fun y=>w_checkMeasure1 y m) (h_ahead.has a_h1) (fun y hy hh yy aa=>w_checkMeasure1_c (d:=d+1) y m h.nx (RowT.mono aa ((h_ahead.has a_h1).oks y hy)) (RowT.mono aa (RowT.mono a_h1 h_m)) (aa _ _ g_h1) yy) y_h1
               have k8:=w_isTime_c (d:=d+2) m.rank y_h1
               have k10:=w_isTime_c (d:=d+2) m.lag y_h1
               have k12:=w_isTime_c (d:=d+2) m.takes y_h1
               have k14:=w_containsMeasure_c (d:=d+2) ahead (fun y=>w_checkMeasure2 y m) (h_ahead.has a_h1) (fun y hy hh yy aa=>w_checkMeasure2_c (d:=d+1) y m h.nx (RowT.mono aa ((h_ahead.has a_h1).oks y hy)) (RowT.mono aa (RowT.mono a_h1 h_m)) (aa _ _ g_h1) yy) y_h1
               have ev:=pk (d+4) w_checkMeasure_body (aheadV::(AV.agg [(AV.str m.name),(AV.str m.crew),(AV.int .i64 m.rank),(AV.int .i64 m.lag),(AV.int .i64 m.takes)])::und 33) h .ret h1 (NN n_h1 (fun i=>(AV.ptr i 0))<|CN 2<|MM (lown 9 0 (AV.str m.name) g_h1 k!)<|EE k2<|CN 2<|BB f0<|CC<|MM (lown 9 1 (AV.str m.crew) g_h1 k!)<|EE k4<|CN 2<|BB f1<|CN 2<|EE k6<|CC<|BB f2<|CC<|MM (lown 3 2 (AV.int .i64 m.rank) g_h1 k!)<|EE k8<|CN 2<|BB f3<|CC<|MM (lown 3 3 (AV.int .i64 m.lag) g_h1 k!)<|EE k10<|CN 2<|BB f4<|CC<|MM (lown 3 4 (AV.int .i64 m.takes) g_h1 k!)<|EE k12<|CN 2<|BB f5<|CN 2<|EE k14<|CC<|BB f6<|CC<|ZZ) k!
               have e:w_checkMeasure ahead m=10:=by simp only[w_checkMeasure,f0,f1,f2,f3,f4,f5,f6,cond_true,cond_false]
               rw[e]
               exact callP_pure rfl (fn_of Tryz.func31 w_checkMeasure_B k! (.inr rfl) ev k!) a_h1 rfl
             · obtain ⟨h1,n_h1,y_h1,z_h1,g_h1,b_h1⟩:=nwB y_h (AObj.cells [(AV.str m.name),(AV.str m.crew),(AV.int .i64 m.rank),(AV.int .i64 m.lag),(AV.int .i64 m.takes)] 43 false)
               have a_h1:Has h h1:=b_h1
               have k2:=w_isName_c (d:=d+3) m.name h_m.1 y_h1
               have k4:=w_isName_c (d:=d+3) m.crew h_m.2 y_h1
               have k6:=w_containsMeasure_c (d:=d+2) ahead (fun y=>w_checkMeasure1 y m) (h_ahead.has a_h1) (fun y hy hh yy aa=>w_checkMeasure1_c (d:=d+1) y m h.nx (RowT.mono aa ((h_ahead.has a_h1).oks y hy)) (RowT.mono aa (RowT.mono a_h1 h_m)) (aa _ _ g_h1) yy) y_h1
               have k8:=w_isTime_c (d:=d+2) m.rank y_h1
               have k10:=w_isTime_c (d:=d+2) m.lag y_h1
               have k12:=w_isTime_c (d:=d+2) m.takes y_h1
               have k14:=w_containsMeasure_c (d:=d+2) ahead (fun y=>w_checkMeasure2 y m) (h_ahead.has a_h1) (fun y hy hh yy aa=>w_checkMeasure2_c (d:=d+1) y m h.nx (RowT.mono aa ((h_ahead.has a_h1).oks y hy)) (RowT.mono aa (RowT.mono a_h1 h_m)) (aa _ _ g_h1) yy) y_h1
               have ev:=pk (d+4) w_checkMeasure_body (aheadV::(AV.agg [(AV.str m.name),(AV.str m.crew),(AV.int .i64 m.rank),(AV.int .i64 m.lag),(AV.int .i64 m.takes)])::und 33) h .ret h1 (NN n_h1 (fun i=>(AV.ptr i 0))<|CN 2<|MM (lown 9 0 (AV.str m.name) g_h1 k!)<|EE k2<|CN 2<|BB f0<|CC<|MM (lown 9 1 (AV.str m.crew) g_h1 k!)<|EE k4<|CN 2<|BB f1<|CN 2<|EE k6<|CC<|BB f2<|CC<|MM (lown 3 2 (AV.int .i64 m.rank) g_h1 k!)<|EE k8<|CN 2<|BB f3<|CC<|MM (lown 3 3 (AV.int .i64 m.lag) g_h1 k!)<|EE k10<|CN 2<|BB f4<|CC<|MM (lown 3 4 (AV.int .i64 m.takes) g_h1 k!)<|EE k12<|CN 2<|BB f5<|CN 2<|EE k14<|CC<|BB f6<|CC<|ZZ) k!
               have e:w_checkMeasure ahead m=0:=by simp only[w_checkMeasure,f0,f1,f2,f3,f4,f5,f6,cond_true,cond_false]
               rw[e]
               exact callP_pure rfl (fn_of Tryz.func31 w_checkMeasure_B k! (.inr rfl) ev k!) a_h1 rfl
noncomputable def w_checkGauge1_body:Code:=(Tryz.f77.body).getD .skip
theorem w_checkGauge1_B:Tryz.f77.body=some w_checkGauge1_body:=by kernel_rfl
def w_checkGauge1 (o:Gauge) (c:Gauge):Bool:=(decide (o.name=c.name))
theorem w_checkGauge1_c {d:Nat} {h:Heap} (o:Gauge) (c:Gauge) (cB:Nat) (h_o:RowT.ok h o) (h_c:RowT.ok h c) (g_c:h.get cB=some (.cells (RowT.c c) 61 false)) (y_h:Tidy h):cal (d+1) (.fn 77) [(AV.agg [(AV.str o.name),(AV.int .i64 o.acc),(AV.int .i64 o.drift),(AV.int .i64 o.since)]),(AV.ptr cB 0)] h= .ret (AV.bool (w_checkGauge1 o c)) h:=by
 obtain ⟨h1,n_h1,y_h1,z_h1,g_h1,b_h1⟩:=nwB y_h (AObj.cells [(AV.str o.name),(AV.int .i64 o.acc),(AV.int .i64 o.drift),(AV.int .i64 o.since)] 61 false)
 have a_h1:Has h h1:=b_h1
 have ev:=pk (d) w_checkGauge1_body ((AV.agg [(AV.str o.name),(AV.int .i64 o.acc),(AV.int .i64 o.drift),(AV.int .i64 o.since)])::(AV.ptr cB 0)::und 7) h .ret h1 (NN n_h1 (fun i=>(AV.ptr i 0))<|CN 2<|MM (lown 9 0 (AV.str o.name) g_h1 k!)<|CC<|MM (lown 9 0 (AV.str c.name) (b_h1 _ _ g_c) k!)<|VV (seql 9 false false o.name c.name)<|CC<|ZZ) k!
 have e:w_checkGauge1 o c=(decide (o.name=c.name)):=by simp only[w_checkGauge1,cond_true,cond_false]
 rw[e]
 exact callP_pure rfl (fn_of Tryz.func77 w_checkGauge1_B k! (.inr rfl) ev k!) a_h1 rfl
noncomputable def w_indexGauge_body:Code:=(Tryz.f87.body).getD .skip
theorem w_indexGauge_B:Tryz.f87.body=some w_indexGauge_body:=by kernel_rfl
noncomputable def w_indexGauge_lp0:Code:=(loopsIn w_indexGauge_body).getD 0 .skip
def w_indexGauge_l0 (s:List Gauge) (P:Gauge→Bool):Nat→Nat→Option (Int)
 | 0,_=>none
 | kq0+1,i0=>(bif (P (s.g i0)) then some ((i0:Nat):Int) else w_indexGauge_l0 s P kq0 (i0+1))
theorem w_indexGauge_l0_t {d:Nat} {h:Heap} (sV:AV) (g:FuncId) (cap:List AV) (s:List Gauge) (P:Gauge→Bool) (H0_0:RowsAt h sV s) (hP:∀y∈s,∀hh,Tidy hh→Has h hh→cal d (.fn g) (.agg (RowT.c y)::cap) hh= .ret (.bool (P y)) hh):∀(k_ i_:Nat) (_:i_+k_=s.length) (x:Nat→AV) (hh:Heap) (y_hh:Tidy hh) (a_hh:Has h hh),OptLoop (cal (d)) w_indexGauge_lp0 ⟨(sV::(AV.func g [] cap)::rx x 2 5 ((AV.int .i64 ((s.length:Nat):Int))::(AV.int .i64 ((i_:Nat):Int))::rx x 9 10 [])),hh,[],.no⟩ (.exit 0) hh (fun y=>(sV::(AV.func g [] cap)::rx y 2 5 ((AV.int .i64 ((s.length:Nat):Int))::rx y 8 11 []))) (fun r y=>(sV::(AV.func g [] cap)::(y 2)::(y 3)::(AV.int .i64 r)::(y 5)::(y 6)::(AV.int .i64 ((s.length:Nat):Int))::rx y 8 11 [])) (w_indexGauge_l0 s P k_ i_)
 | 0,i0,hik,x,hh,y_hh,a_hh=>by
   have s_H0_0:=H0_0.small
   have q1:(decide (((i0:Nat):Int)<((s.length:Nat):Int)))=false:=d!
   have ev:=pk (d) w_indexGauge_lp0 (sV::(AV.func g [] cap)::rx x 2 5 ((AV.int .i64 ((s.length:Nat):Int))::(AV.int .i64 ((i0:Nat):Int))::rx x 9 10 [])) hh (.exit 0) hh (VV (ilss 3 false false .i64 ((i0:Nat):Int) ((s.length:Nat):Int))<|BB q1<|ZZ) k!
   exact OptLoop.out rfl ev (Grow.refl y_hh) k!
 | kq0+1,i0,hik,x,hh,y_hh,a_hh=>by
   have s_H0_0:=H0_0.small
   rcases Bool.eq_false_or_eq_true (P (s.g i0)) with f1 | f1
   · have q1:(decide (((i0:Nat):Int)<((s.length:Nat):Int)))=true:=d!
     obtain ⟨p3,q4,ix2_⟩:=(H0_0.has a_hh).elem (i:=i0) o!
     have ix2:idxK env (some (.slice 61)) (some sV) (some (AV.int .i64 ((i0:Nat):Int)))=some (AV.ptr p3 q4):=ix2_
     have ld5:loadA env hh 61 (AV.ptr p3 q4)=some (AV.agg [(AV.str ((s.g i0).name)),(AV.int .i64 ((s.g i0).acc)),(AV.int .i64 ((s.g i0).drift)),(AV.int .i64 ((s.g i0).since))]):=(H0_0.has a_hh).load o! ix2_
     have k6:=hP (s.g i0) (g_mem o!) hh y_hh a_hh
     have ev:=pk (d) w_indexGauge_lp0 (sV::(AV.func g [] cap)::rx x 2 5 ((AV.int .i64 ((s.length:Nat):Int))::(AV.int .i64 ((i0:Nat):Int))::rx x 9 10 [])) hh .ret hh (VV (ilss 3 false false .i64 ((i0:Nat):Int) ((s.length:Nat):Int))<|BB q1<|CN 5<|VV ix2<|MM ld5<|EE k6<|BB f1<|CN 2<|ZZ) k!
     exact OptLoop.ret ((i0:Nat):Int) (by simp only[w_indexGauge_l0,f1,cond_true,cond_false]) ev (Grow.refl y_hh) k!
   · have q1:(decide (((i0:Nat):Int)<((s.length:Nat):Int)))=true:=d!
     obtain ⟨p3,q4,ix2_⟩:=(H0_0.has a_hh).elem (i:=i0) o!
     have ix2:idxK env (some (.slice 61)) (some sV) (some (AV.int .i64 ((i0:Nat):Int)))=some (AV.ptr p3 q4):=ix2_
     have ld5:loadA env hh 61 (AV.ptr p3 q4)=some (AV.agg [(AV.str ((s.g i0).name)),(AV.int .i64 ((s.g i0).acc)),(AV.int .i64 ((s.g i0).drift)),(AV.int .i64 ((s.g i0).since))]):=(H0_0.has a_hh).load o! ix2_
     have k6:=hP (s.g i0) (g_mem o!) hh y_hh a_hh
     have u8:=nadd 3 false true i0 1 o!
     have ev:=pk (d) w_indexGauge_lp0 (sV::(AV.func g [] cap)::rx x 2 5 ((AV.int .i64 ((s.length:Nat):Int))::(AV.int .i64 ((i0:Nat):Int))::rx x 9 10 [])) hh .normal hh (VV (ilss 3 false false .i64 ((i0:Nat):Int) ((s.length:Nat):Int))<|BB q1<|CN 5<|VV ix2<|MM ld5<|EE k6<|BB f1<|VV u8<|CC<|ZZ) k!
     exact OptLoop.round (by simp only[w_indexGauge_l0,f1,cond_true,cond_false]) ev (Grow.refl y_hh) (fun x=>(sV::(AV.func g [] cap)::rx x 2 5 ((AV.int .i64 ((s.length:Nat):Int))::(AV.int .i64 (((i0+1):Nat):Int))::rx x 9 10 []))) k! (fun x=>w_indexGauge_l0_t sV g cap s P H0_0 hP kq0 (i0+1) o! x hh y_hh a_hh)
def w_indexGauge (s:List Gauge) (P:Gauge→Bool):Int:=(match (w_indexGauge_l0 s P s.length 0) with | none=>(-1) | some rr2=>rr2)
theorem w_indexGauge_c {d:Nat} {h:Heap} {sV:AV} {g:FuncId} {cap:List AV} (s:List Gauge) (P:Gauge→Bool) (h_s:RowsAt h sV s) (hP:∀y∈s,∀hh,Tidy hh→Has h hh→cal d (.fn g) (.agg (RowT.c y)::cap) hh= .ret (.bool (P y)) hh) (y_h:Tidy h):cal (d+1) (.fn 87) [sV,(AV.func g [] cap)] h= .ret (AV.int .i64 (w_indexGauge s P)) h:=by
 have s_h_s:=h_s.small
 cases hl_yl2:w_indexGauge_l0 s P s.length 0 with
 | none=>
   have ln1:lenK (some (.slice 61)) (some sV)=some (AV.int .i64 ((s.length:Nat):Int)):=h_s.len
   obtain ⟨yl2,h3,ev_yl2,G_h3⟩:=OptLoop.n hl_yl2 (w_indexGauge_l0_t (d:=d) (h:=h) sV g cap s P h_s hP s.length 0 o! (fun k_=>((sV::(AV.func g [] cap)::AV.undef::AV.undef::(AV.int .i64 0)::AV.undef::sV::(AV.int .i64 ((s.length:Nat):Int))::(AV.int .i64 0)::und 10):List AV).getD k_ AV.undef) h y_h (Has.refl _))
   have y_h3:=G_h3.y
   have m_h3:h.nx≤h3.nx:=G_h3.n
   have a_h3:Has h h3:=G_h3.a
   have ev:=pk (d) w_indexGauge_body (sV::(AV.func g [] cap)::und 17) h .ret h3 (CN 2<|VV ln1<|CC<|LL ev_yl2<|CC<|ZZ) k!
   have e:w_indexGauge s P=(-1):=by simp only[w_indexGauge,hl_yl2,cond_true,cond_false]
   rw[e]
   exact callP_pure rfl (fn_of Tryz.func87 w_indexGauge_B k! (.inr rfl) ev k!) a_h3 rfl
 | some rr2=>
   have ln1:lenK (some (.slice 61)) (some sV)=some (AV.int .i64 ((s.length:Nat):Int)):=h_s.len
   obtain ⟨yl2,h3,ev_yl2,G_h3⟩:=OptLoop.r hl_yl2 (w_indexGauge_l0_t (d:=d) (h:=h) sV g cap s P h_s hP s.length 0 o! (fun k_=>((sV::(AV.func g [] cap)::AV.undef::AV.undef::(AV.int .i64 0)::AV.undef::sV::(AV.int .i64 ((s.length:Nat):Int))::(AV.int .i64 0)::und 10):List AV).getD k_ AV.undef) h y_h (Has.refl _))
   have y_h3:=G_h3.y
   have m_h3:h.nx≤h3.nx:=G_h3.n
   have a_h3:Has h h3:=G_h3.a
   have ev:=pk (d) w_indexGauge_body (sV::(AV.func g [] cap)::und 17) h .ret h3 (CN 2<|VV ln1<|CC<|LL ev_yl2<|ZZ) k!
   have e:w_indexGauge s P=rr2:=by simp only[w_indexGauge,hl_yl2,cond_true,cond_false]
   rw[e]
   exact callP_pure rfl (fn_of Tryz.func87 w_indexGauge_B k! (.inr rfl) ev k!) a_h3 rfl
noncomputable def w_containsGauge_body:Code:=(Tryz.f76.body).getD .skip
theorem w_containsGauge_B:Tryz.f76.body=some w_containsGauge_body:=by kernel_rfl
def w_containsGauge (s:List Gauge) (P:Gauge→Bool):Bool:=(decide (0≤(w_indexGauge s P)))
theorem w_containsGauge_c {d:Nat} {h:Heap} {sV:AV} {g:FuncId} {cap:List AV} (s:List Gauge) (P:Gauge→Bool) (h_s:RowsAt h sV s) (hP:∀y∈s,∀hh,Tidy hh→Has h hh→cal d (.fn g) (.agg (RowT.c y)::cap) hh= .ret (.bool (P y)) hh) (y_h:Tidy h):cal (d+2) (.fn 76) [sV,(AV.func g [] cap)] h= .ret (AV.bool (w_containsGauge s P)) h:=by
 have s_h_s:=h_s.small
 have k1:=w_indexGauge_c (d:=d) s P h_s hP y_h
 have ev:=pk (d+1) w_containsGauge_body (sV::(AV.func g [] cap)::und 7) h .ret h (CN 3<|EE k1<|VV (igeq 3 false true .i64 (w_indexGauge s P) 0)<|CC<|ZZ) k!
 have e:w_containsGauge s P=(decide (0≤(w_indexGauge s P))):=by simp only[w_containsGauge,cond_true,cond_false]
 rw[e]
 exact callP_pure rfl (fn_of Tryz.func76 w_containsGauge_B k! (.inr rfl) ev k!) (Has.refl _) rfl
noncomputable def w_isExact_body:Code:=(Tryz.f78.body).getD .skip
theorem w_isExact_B:Tryz.f78.body=some w_isExact_body:=by kernel_rfl
def w_isExact (g:Gauge):Bool:=(bif (w_isUpTo g.acc 1000000000) then (bif (w_isUpTo g.drift 1000000000) then (w_isTime g.since) else false) else false)
theorem w_isExact_c {d:Nat} {h:Heap} (g:Gauge) (h_g:RowT.ok h g) (y_h:Tidy h):cal (d+3) (.fn 78) [(AV.agg [(AV.str g.name),(AV.int .i64 g.acc),(AV.int .i64 g.drift),(AV.int .i64 g.since)])] h= .ret (AV.bool (w_isExact g)) h:=by
 rcases Bool.eq_false_or_eq_true (w_isUpTo g.acc 1000000000) with f0 | f0
 · rcases Bool.eq_false_or_eq_true (w_isUpTo g.drift 1000000000) with f1 | f1
   · obtain ⟨h1,n_h1,y_h1,z_h1,g_h1,b_h1⟩:=nwB y_h (AObj.cells [(AV.str g.name),(AV.int .i64 g.acc),(AV.int .i64 g.drift),(AV.int .i64 g.since)] 61 false)
     have a_h1:Has h h1:=b_h1
     have k2:=w_isUpTo_c (d:=d+1) g.acc 1000000000 y_h1
     have k4:=w_isUpTo_c (d:=d+1) g.drift 1000000000 y_h1
     have k6:=w_isTime_c (d:=d) g.since y_h1
     have ev:=pk (d+2) w_isExact_body ((AV.agg [(AV.str g.name),(AV.int .i64 g.acc),(AV.int .i64 g.drift),(AV.int .i64 g.since)])::und 15) h .ret h1 (NN n_h1 (fun i=>(AV.ptr i 0))<|CN 2<|MM (lown 3 1 (AV.int .i64 g.acc) g_h1 k!)<|EE k2<|CC<|BB f0<|CC<|BB f0<|MM (lown 3 2 (AV.int .i64 g.drift) g_h1 k!)<|BB f0<|EE k4<|VV (pick_t (a:=some (AV.bool (w_isUpTo g.drift 1000000000))) (b:=some (AV.bool false)) f0)<|CC<|BB f1<|CC<|BB f1<|MM (lown 3 3 (AV.int .i64 g.since) g_h1 k!)<|BB f1<|EE k6<|VV (pick_t (a:=some (AV.bool (w_isTime g.since))) (b:=some (AV.bool false)) f1)<|CC<|ZZ) k!
     have e:w_isExact g=(w_isTime g.since):=by simp only[w_isExact,f0,f1,cond_true,cond_false]
     rw[e]
     exact callP_pure rfl (fn_of Tryz.func78 w_isExact_B k! (.inr rfl) ev k!) a_h1 rfl
   · obtain ⟨h1,n_h1,y_h1,z_h1,g_h1,b_h1⟩:=nwB y_h (AObj.cells [(AV.str g.name),(AV.int .i64 g.acc),(AV.int .i64 g.drift),(AV.int .i64 g.since)] 61 false)
     have a_h1:Has h h1:=b_h1
     have k2:=w_isUpTo_c (d:=d+1) g.acc 1000000000 y_h1
     have k4:=w_isUpTo_c (d:=d+1) g.drift 1000000000 y_h1
     have ev:=pk (d+2) w_isExact_body ((AV.agg [(AV.str g.name),(AV.int .i64 g.acc),(AV.int .i64 g.drift),(AV.int .i64 g.since)])::und 15) h .ret h1 (NN n_h1 (fun i=>(AV.ptr i 0))<|CN 2<|MM (lown 3 1 (AV.int .i64 g.acc) g_h1 k!)<|EE k2<|CC<|BB f0<|CC<|BB f0<|MM (lown 3 2 (AV.int .i64 g.drift) g_h1 k!)<|BB f0<|EE k4<|VV (pick_t (a:=some (AV.bool (w_isUpTo g.drift 1000000000))) (b:=some (AV.bool false)) f0)<|CC<|BB f1<|BB f1<|BB f1<|VV (pick_f (a:=some AV.undef) (b:=some (AV.bool false)) f1)<|CC<|ZZ) k!
     have e:w_isExact g=false:=by simp only[w_isExact,f0,f1,cond_true,cond_false]
     rw[e]
     exact callP_pure rfl (fn_of Tryz.func78 w_isExact_B k! (.inr rfl) ev k!) a_h1 rfl
 · obtain ⟨h1,n_h1,y_h1,z_h1,g_h1,b_h1⟩:=nwB y_h (AObj.cells [(AV.str g.name),(AV.int .i64 g.acc),(AV.int .i64 g.drift),(AV.int .i64 g.since)] 61 false)
   have a_h1:Has h h1:=b_h1
   have k2:=w_isUpTo_c (d:=d+1) g.acc 1000000000 y_h1
   have ev:=pk (d+2) w_isExact_body ((AV.agg [(AV.str g.name),(AV.int .i64 g.acc),(AV.int .i64 g.drift),(AV.int .i64 g.since)])::und 15) h .ret h1 (NN n_h1 (fun i=>(AV.ptr i 0))<|CN 2<|MM (lown 3 1 (AV.int .i64 g.acc) g_h1 k!)<|EE k2<|CC<|BB f0<|BB f0<|BB f0<|VV (pick_f (a:=some AV.undef) (b:=some (AV.bool false)) f0)<|CC<|FF<|FF<|FF<|CN 2<|ZZ) k!
   have e:w_isExact g=false:=by simp only[w_isExact,f0,cond_true,cond_false]
   rw[e]
   exact callP_pure rfl (fn_of Tryz.func78 w_isExact_B k! (.inr rfl) ev k!) a_h1 rfl
noncomputable def w_checkGauge_body:Code:=(Tryz.f56.body).getD .skip
theorem w_checkGauge_B:Tryz.f56.body=some w_checkGauge_body:=by kernel_rfl
def w_checkGauge (ahead:List Gauge) (g:Gauge):Int:=(bif (!(w_isName g.name)) then 5 else (bif (w_containsGauge ahead (fun y=>w_checkGauge1 y g)) then 6 else (bif (!(w_isExact g)) then 1 else 0)))
theorem w_checkGauge_c {d:Nat} {h:Heap} {aheadV:AV} (ahead:List Gauge) (g:Gauge) (h_ahead:RowsAt h aheadV ahead) (h_g:RowT.ok h g) (y_h:Tidy h):cal (d+6) (.fn 56) [aheadV,(AV.agg [(AV.str g.name),(AV.int .i64 g.acc),(AV.int .i64 g.drift),(AV.int .i64 g.since)])] h= .ret (AV.int .i64 (w_checkGauge ahead g)) h:=by
 have s_h_ahead:=h_ahead.small
 rcases Bool.eq_false_or_eq_true (!(w_isName g.name)) with f0 | f0
 · obtain ⟨h1,n_h1,y_h1,z_h1,g_h1,b_h1⟩:=nwB y_h (AObj.cells [(AV.str g.name),(AV.int .i64 g.acc),(AV.int .i64 g.drift),(AV.int .i64 g.since)] 61 false)
   have a_h1:Has h h1:=b_h1
   have k2:=w_isName_c (d:=d+4) g.name h_g y_h1
   have ev:=pk (d+5) w_checkGauge_body (aheadV::(AV.agg [(AV.str g.name),(AV.int .i64 g.acc),(AV.int .i64 g.drift),(AV.int .i64 g.since)])::und 16) h .ret h1 (NN n_h1 (fun i=>(AV.ptr i 0))<|CN 2<|MM (lown 9 0 (AV.str g.name) g_h1 k!)<|EE k2<|CN 2<|BB f0<|CC<|ZZ) k!
   have e:w_checkGauge ahead g=5:=by simp only[w_checkGauge,f0,cond_true,cond_false]
   rw[e]
   exact callP_pure rfl (fn_of Tryz.func56 w_checkGauge_B k! (.inr rfl) ev k!) a_h1 rfl
 · rcases Bool.eq_false_or_eq_true (w_containsGauge ahead (fun y=>w_checkGauge1 y g)) with f1 | f1
   · obtain ⟨h1,n_h1,y_h1,z_h1,g_h1,b_h1⟩:=nwB y_h (AObj.cells [(AV.str g.name),(AV.int .i64 g.acc),(AV.int .i64 g.drift),(AV.int .i64 g.since)] 61 false)
     have a_h1:Has h h1:=b_h1
     have k2:=w_isName_c (d:=d+4) g.name h_g y_h1
     have k4:=w_containsGauge_c (d:=d+3) ahead (fun y=>w_checkGauge1 y g) (h_ahead.has a_h1) (fun y hy hh yy aa=>w_checkGauge1_c (d:=d+2) y g h.nx (RowT.mono aa ((h_ahead.has a_h1).oks y hy)) (RowT.mono aa (RowT.mono a_h1 h_g)) (aa _ _ g_h1) yy) y_h1
     have ev:=pk (d+5) w_checkGauge_body (aheadV::(AV.agg [(AV.str g.name),(AV.int .i64 g.acc),(AV.int .i64 g.drift),(AV.int .i64 g.since)])::und 16) h .ret h1 (NN n_h1 (fun i=>(AV.ptr i 0))<|CN 2<|MM (lown 9 0 (AV.str g.name) g_h1 k!)<|EE k2<|CN 2<|BB f0<|CN 2<|EE k4<|CC<|BB f1<|CC<|ZZ) k!
     have e:w_checkGauge ahead g=6:=by simp only[w_checkGauge,f0,f1,cond_true,cond_false]
     rw[e]
     exact callP_pure rfl (fn_of Tryz.func56 w_checkGauge_B k! (.inr rfl) ev k!) a_h1 rfl
   · rcases Bool.eq_false_or_eq_true (!(w_isExact g)) with f2 | f2
     · obtain ⟨h1,n_h1,y_h1,z_h1,g_h1,b_h1⟩:=nwB y_h (AObj.cells [(AV.str g.name),(AV.int .i64 g.acc),(AV.int .i64 g.drift),(AV.int .i64 g.since)] 61 false)
       have a_h1:Has h h1:=b_h1
       have k2:=w_isName_c (d:=d+4) g.name h_g y_h1
       have k4:=w_containsGauge_c (d:=d+3) ahead (fun y=>w_checkGauge1 y g) (h_ahead.has a_h1) (fun y hy hh yy aa=>w_checkGauge1_c (d:=d+2) y g h.nx (RowT.mono aa ((h_ahead.has a_h1).oks y hy)) (RowT.mono aa (RowT.mono a_h1 h_g)) (aa _ _ g_h1) yy) y_h1
       have k6:=w_isExact_c (d:=d+2) g (RowT.mono a_h1 h_g) y_h1
       have ev:=pk (d+5) w_checkGauge_body (aheadV::(AV.agg [(AV.str g.name),(AV.int .i64 g.acc),(AV.int .i64 g.drift),(AV.int .i64 g.since)])::und 16) h .ret h1 (NN n_h1 (fun i=>(AV.ptr i 0))<|CN 2<|MM (lown 9 0 (AV.str g.name) g_h1 k!)<|EE k2<|CN 2<|BB f0<|CN 2<|EE k4<|CC<|BB f1<|MM (lown 61 0 (AV.agg [(AV.str g.name),(AV.int .i64 g.acc),(AV.int .i64 g.drift),(AV.int .i64 g.since)]) g_h1 k!)<|EE k6<|CN 2<|BB f2<|CC<|ZZ) k!
       have e:w_checkGauge ahead g=1:=by simp only[w_checkGauge,f0,f1,f2,cond_true,cond_false]
       rw[e]
       exact callP_pure rfl (fn_of Tryz.func56 w_checkGauge_B k! (.inr rfl) ev k!) a_h1 rfl
     · obtain ⟨h1,n_h1,y_h1,z_h1,g_h1,b_h1⟩:=nwB y_h (AObj.cells [(AV.str g.name),(AV.int .i64 g.acc),(AV.int .i64 g.drift),(AV.int .i64 g.since)] 61 false)
       have a_h1:Has h h1:=b_h1
       have k2:=w_isName_c (d:=d+4) g.name h_g y_h1
       have k4:=w_containsGauge_c (d:=d+3) ahead (fun y=>w_checkGauge1 y g) (h_ahead.has a_h1) (fun y hy hh yy aa=>w_checkGauge1_c (d:=d+2) y g h.nx (RowT.mono aa ((h_ahead.has a_h1).oks y hy)) (RowT.mono aa (RowT.mono a_h1 h_g)) (aa _ _ g_h1) yy) y_h1
       have k6:=w_isExact_c (d:=d+2) g (RowT.mono a_h1 h_g) y_h1
       have ev:=pk (d+5) w_checkGauge_body (aheadV::(AV.agg [(AV.str g.name),(AV.int .i64 g.acc),(AV.int .i64 g.drift),(AV.int .i64 g.since)])::und 16) h .ret h1 (NN n_h1 (fun i=>(AV.ptr i 0))<|CN 2<|MM (lown 9 0 (AV.str g.name) g_h1 k!)<|EE k2<|CN 2<|BB f0<|CN 2<|EE k4<|CC<|BB f1<|MM (lown 61 0 (AV.agg [(AV.str g.name),(AV.int .i64 g.acc),(AV.int .i64 g.drift),(AV.int .i64 g.since)]) g_h1 k!)<|EE k6<|CN 2<|BB f2<|CC<|ZZ) k!
       have e:w_checkGauge ahead g=0:=by simp only[w_checkGauge,f0,f1,f2,cond_true,cond_false]
       rw[e]
       exact callP_pure rfl (fn_of Tryz.func56 w_checkGauge_B k! (.inr rfl) ev k!) a_h1 rfl
noncomputable def w_checkListGauge_body:Code:=(Tryz.f55.body).getD .skip
theorem w_checkListGauge_B:Tryz.f55.body=some w_checkListGauge_body:=by kernel_rfl
noncomputable def w_checkListGauge_lp0:Code:=(loopsIn w_checkListGauge_body).getD 0 .skip
def w_checkListGauge_l0 (P:Nat→Int) (list:List Gauge):Nat→Nat→Option (Int)
 | 0,_=>none
 | kq0+1,i0=>(bif (!decide ((P i0)=0)) then some (P i0) else w_checkListGauge_l0 P list kq0 (i0+1))
theorem w_checkListGauge_l0_t {d:Nat} {h:Heap} (listV:AV) (g:FuncId) (cap:List AV) (list:List Gauge) (P:Nat→Int) (H0_0:RowsAt h listV list) (hP:∀j,j<list.length→∀aV hh,Tidy hh→Has h hh→RowsAt hh aV (list.take j)→cal d (.fn g) (aV:: .agg (RowT.c (list.g j))::cap) hh= .ret (.int .i64 (P j)) hh):∀(k_ i_:Nat) (_:i_+k_=list.length) (x:Nat→AV) (hh:Heap) (y_hh:Tidy hh) (a_hh:Has h hh),OptLoop (cal (d)) w_checkListGauge_lp0 ⟨(listV::(x 1)::(AV.func g [] cap)::rx x 3 11 (listV::(AV.int .i64 ((list.length:Nat):Int))::(AV.int .i64 ((i_:Nat):Int))::rx x 17 14 [])),hh,[],.no⟩ (.exit 0) hh (fun y=>(listV::(y 1)::(AV.func g [] cap)::rx y 3 11 (listV::(AV.int .i64 ((list.length:Nat):Int))::rx y 16 15 []))) (fun r y=>(listV::(y 1)::(AV.func g [] cap)::rx y 3 3 ((AV.int .i64 r)::rx y 7 7 (listV::(AV.int .i64 ((list.length:Nat):Int))::rx y 16 15 [])))) (w_checkListGauge_l0 P list k_ i_)
 | 0,i0,hik,x,hh,y_hh,a_hh=>by
   have s_H0_0:=H0_0.small
   have q1:(decide (((i0:Nat):Int)<((list.length:Nat):Int)))=false:=d!
   have ev:=pk (d) w_checkListGauge_lp0 (listV::(x 1)::(AV.func g [] cap)::rx x 3 11 (listV::(AV.int .i64 ((list.length:Nat):Int))::(AV.int .i64 ((i0:Nat):Int))::rx x 17 14 [])) hh (.exit 0) hh (VV (ilss 3 false false .i64 ((i0:Nat):Int) ((list.length:Nat):Int))<|BB q1<|ZZ) k!
   exact OptLoop.out rfl ev (Grow.refl y_hh) k!
 | kq0+1,i0,hik,x,hh,y_hh,a_hh=>by
   have s_H0_0:=H0_0.small
   rcases Bool.eq_false_or_eq_true (!decide ((P i0)=0)) with f1 | f1
   · have n_f1:=nT_ f1
     have q1:(decide (((i0:Nat):Int)<((list.length:Nat):Int)))=true:=d!
     obtain ⟨p3,q4,ix2_⟩:=(H0_0.has a_hh).elem (i:=i0) o!
     have ix2:idxK env (some (.slice 61)) (some listV) (some (AV.int .i64 ((i0:Nat):Int)))=some (AV.ptr p3 q4):=ix2_
     have ld5:loadA env hh 61 (AV.ptr p3 q4)=some (AV.agg [(AV.str ((list.g i0).name)),(AV.int .i64 ((list.g i0).acc)),(AV.int .i64 ((list.g i0).drift)),(AV.int .i64 ((list.g i0).since))]):=(H0_0.has a_hh).load o! ix2_
     obtain ⟨h6,n_h6,y_h6,z_h6,g_h6,b_h6⟩:=nwB y_hh (AObj.cells [(AV.str []),(AV.int .i64 0),(AV.int .i64 0),(AV.int .i64 0)] 61 false)
     have a_h6:Has hh h6:=b_h6
     obtain ⟨h7,s_h7,y_h7,z_h7,g_h7,kk_h7⟩:=stwB (t:=61) (n:=4) (i:=hh.nx) (L:=[(AV.str ((list.g i0).name)),(AV.int .i64 ((list.g i0).acc)),(AV.int .i64 ((list.g i0).drift)),(AV.int .i64 ((list.g i0).since))]) y_h6 g_h6 k! rfl rfl (by simp only[AV.cells,List.all_cons,List.all_nil,Bool.and_true,Bool.and_self,sc_int,sc_bool,sc_str,sc_ptr,sc_slice,sc_ns,sc_np,sc_nm,sc_nf,sc_ni,sc_map])
     have a_h7:Has hh h7:=Has.of_kept a_h6 kk_h7 y_hh o!
     obtain ⟨r8,sl9_,fr10⟩:=(H0_0.has a_hh).pre (t:=39) k! (i:=i0) o!
     have sl9:sliceA env 39 listV (none) (some (AV.int .i64 ((i0:Nat):Int))) (none)=some r8:=sl9_
     have k11:=hP i0 o! r8 h7 y_h7 (a_hh.trans a_h7) (fr10.has a_h7)
     have c12:AV.same 20 (AV.agg [(AV.str ((list.g i0).name)),(AV.int .i64 ((list.g i0).acc)),(AV.int .i64 ((list.g i0).drift)),(AV.int .i64 ((list.g i0).since))]) (AV.agg [(AV.str ((list.g i0).name)),(AV.int .i64 ((list.g i0).acc)),(AV.int .i64 ((list.g i0).drift)),(AV.int .i64 ((list.g i0).since))])=true:=same_agg 18 (sc_ (fun n=>same_str n _) (sc_ (fun n=>same_int n _ _) (sc_ (fun n=>same_int n _ _) (sc_ (fun n=>same_int n _ _) sn_))))
     have ev:=pk (d) w_checkListGauge_lp0 (listV::(x 1)::(AV.func g [] cap)::rx x 3 11 (listV::(AV.int .i64 ((list.length:Nat):Int))::(AV.int .i64 ((i0:Nat):Int))::rx x 17 14 [])) hh .ret h7 (VV (ilss 3 false false .i64 ((i0:Nat):Int) ((list.length:Nat):Int))<|BB q1<|CC<|VV ix2<|MM ld5<|NN n_h6 (fun i=>(AV.ptr i 0))<|CC<|SS s_h7<|CN 3<|QQ sl9<|MM (lown 61 0 (AV.agg [(AV.str ((list.g i0).name)),(AV.int .i64 ((list.g i0).acc)),(AV.int .i64 ((list.g i0).drift)),(AV.int .i64 ((list.g i0).since))]) g_h7 k!)<|EE k11<|CC<|HH (lown 61 0 (AV.agg [(AV.str ((list.g i0).name)),(AV.int .i64 ((list.g i0).acc)),(AV.int .i64 ((list.g i0).drift)),(AV.int .i64 ((list.g i0).since))]) g_h7 k!)<|HH c12<|CC<|VV (ineq 29 false true .i64 (P i0) 0)<|BB f1<|CN 2<|ZZ) k!
     exact OptLoop.ret (P i0) (by simp only[w_checkListGauge_l0,f1,cond_true,cond_false]) ev (⟨y_h7,a_h7,by omega⟩) k!
   · have n_f1:=nF_ f1
     have q1:(decide (((i0:Nat):Int)<((list.length:Nat):Int)))=true:=d!
     obtain ⟨p3,q4,ix2_⟩:=(H0_0.has a_hh).elem (i:=i0) o!
     have ix2:idxK env (some (.slice 61)) (some listV) (some (AV.int .i64 ((i0:Nat):Int)))=some (AV.ptr p3 q4):=ix2_
     have ld5:loadA env hh 61 (AV.ptr p3 q4)=some (AV.agg [(AV.str ((list.g i0).name)),(AV.int .i64 ((list.g i0).acc)),(AV.int .i64 ((list.g i0).drift)),(AV.int .i64 ((list.g i0).since))]):=(H0_0.has a_hh).load o! ix2_
     obtain ⟨h6,n_h6,y_h6,z_h6,g_h6,b_h6⟩:=nwB y_hh (AObj.cells [(AV.str []),(AV.int .i64 0),(AV.int .i64 0),(AV.int .i64 0)] 61 false)
     have a_h6:Has hh h6:=b_h6
     obtain ⟨h7,s_h7,y_h7,z_h7,g_h7,kk_h7⟩:=stwB (t:=61) (n:=4) (i:=hh.nx) (L:=[(AV.str ((list.g i0).name)),(AV.int .i64 ((list.g i0).acc)),(AV.int .i64 ((list.g i0).drift)),(AV.int .i64 ((list.g i0).since))]) y_h6 g_h6 k! rfl rfl (by simp only[AV.cells,List.all_cons,List.all_nil,Bool.and_true,Bool.and_self,sc_int,sc_bool,sc_str,sc_ptr,sc_slice,sc_ns,sc_np,sc_nm,sc_nf,sc_ni,sc_map])
     have a_h7:Has hh h7:=Has.of_kept a_h6 kk_h7 y_hh o!
     obtain ⟨r8,sl9_,fr10⟩:=(H0_0.has a_hh).pre (t:=39) k! (i:=i0) o!
     have sl9:sliceA env 39 listV (none) (some (AV.int .i64 ((i0:Nat):Int))) (none)=some r8:=sl9_
     have k11:=hP i0 o! r8 h7 y_h7 (a_hh.trans a_h7) (fr10.has a_h7)
     have c12:AV.same 20 (AV.agg [(AV.str ((list.g i0).name)),(AV.int .i64 ((list.g i0).acc)),(AV.int .i64 ((list.g i0).drift)),(AV.int .i64 ((list.g i0).since))]) (AV.agg [(AV.str ((list.g i0).name)),(AV.int .i64 ((list.g i0).acc)),(AV.int .i64 ((list.g i0).drift)),(AV.int .i64 ((list.g i0).since))])=true:=same_agg 18 (sc_ (fun n=>same_str n _) (sc_ (fun n=>same_int n _ _) (sc_ (fun n=>same_int n _ _) (sc_ (fun n=>same_int n _ _) sn_))))
     have u14:=nadd 3 false true i0 1 o!
     have ev:=pk (d) w_checkListGauge_lp0 (listV::(x 1)::(AV.func g [] cap)::rx x 3 11 (listV::(AV.int .i64 ((list.length:Nat):Int))::(AV.int .i64 ((i0:Nat):Int))::rx x 17 14 [])) hh .normal h7 (VV (ilss 3 false false .i64 ((i0:Nat):Int) ((list.length:Nat):Int))<|BB q1<|CC<|VV ix2<|MM ld5<|NN n_h6 (fun i=>(AV.ptr i 0))<|CC<|SS s_h7<|CN 3<|QQ sl9<|MM (lown 61 0 (AV.agg [(AV.str ((list.g i0).name)),(AV.int .i64 ((list.g i0).acc)),(AV.int .i64 ((list.g i0).drift)),(AV.int .i64 ((list.g i0).since))]) g_h7 k!)<|EE k11<|CC<|HH (lown 61 0 (AV.agg [(AV.str ((list.g i0).name)),(AV.int .i64 ((list.g i0).acc)),(AV.int .i64 ((list.g i0).drift)),(AV.int .i64 ((list.g i0).since))]) g_h7 k!)<|HH c12<|CC<|VV (ineq 29 false true .i64 (P i0) 0)<|BB f1<|VV u14<|CC<|ZZ) k!
     exact OptLoop.round (by simp only[w_checkListGauge_l0,f1,cond_true,cond_false]) ev (⟨y_h7,a_h7,by omega⟩) (fun x=>(listV::(x 1)::(AV.func g [] cap)::rx x 3 11 (listV::(AV.int .i64 ((list.length:Nat):Int))::(AV.int .i64 (((i0+1):Nat):Int))::rx x 17 14 []))) k! (fun x=>w_checkListGauge_l0_t listV g cap list P H0_0 hP kq0 (i0+1) o! x h7 y_h7 (a_hh.trans a_h7))
def w_checkListGauge (list:List Gauge) (most:Int) (P:Nat→Int):Int:=(bif (decide (most<((list.length:Nat):Int))) then 3 else (match (w_checkListGauge_l0 P list list.length 0) with | none=>0 | some rr4=>rr4))
theorem w_checkListGauge_c {d:Nat} {h:Heap} {listV:AV} {g:FuncId} {cap:List AV} (list:List Gauge) (most:Int) (P:Nat→Int) (h_list:RowsAt h listV list) (hP:∀j,j<list.length→∀aV hh,Tidy hh→Has h hh→RowsAt hh aV (list.take j)→cal d (.fn g) (aV:: .agg (RowT.c (list.g j))::cap) hh= .ret (.int .i64 (P j)) hh) (y_h:Tidy h):cal (d+1) (.fn 55) [listV,(AV.int .i64 most),(AV.func g [] cap)] h= .ret (AV.int .i64 (w_checkListGauge list most P)) h:=by
 have s_h_list:=h_list.small
 rcases Bool.eq_false_or_eq_true (decide (most<((list.length:Nat):Int))) with f0 | f0
 · have n_f0:=of_decide_eq_true f0
   have ln1:lenK (some (.slice 61)) (some listV)=some (AV.int .i64 ((list.length:Nat):Int)):=h_list.len
   have ev:=pk (d) w_checkListGauge_body (listV::(AV.int .i64 most)::(AV.func g [] cap)::und 28) h .ret h (CN 2<|VV ln1<|CC<|VV (igtr 3 false false .i64 ((list.length:Nat):Int) most)<|BB f0<|CC<|ZZ) k!
   have e:w_checkListGauge list most P=3:=by simp only[w_checkListGauge,f0,cond_true,cond_false]
   rw[e]
   exact callP_pure rfl (fn_of Tryz.func55 w_checkListGauge_B k! (.inr rfl) ev k!) (Has.refl _) rfl
 · have n_f0:=of_decide_eq_false f0
   cases hl_yl4:w_checkListGauge_l0 P list list.length 0 with
   | none=>
     have ln1:lenK (some (.slice 61)) (some listV)=some (AV.int .i64 ((list.length:Nat):Int)):=h_list.len
     have ln3:lenK (some (.slice 61)) (some listV)=some (AV.int .i64 ((list.length:Nat):Int)):=h_list.len
     obtain ⟨yl4,h5,ev_yl4,G_h5⟩:=OptLoop.n hl_yl4 (w_checkListGauge_l0_t (d:=d) (h:=h) listV g cap list P h_list hP list.length 0 o! (fun k_=>((listV::(AV.int .i64 most)::(AV.func g [] cap)::AV.undef::AV.undef::AV.undef::(AV.int .i64 0)::AV.undef::AV.undef::AV.undef::listV::(AV.int .i64 ((list.length:Nat):Int))::(AV.int .i64 most)::(AV.bool (decide (most<((list.length:Nat):Int))))::listV::(AV.int .i64 ((list.length:Nat):Int))::(AV.int .i64 0)::und 14):List AV).getD k_ AV.undef) h y_h (Has.refl _))
     have y_h5:=G_h5.y
     have m_h5:h.nx≤h5.nx:=G_h5.n
     have a_h5:Has h h5:=G_h5.a
     have ev:=pk (d) w_checkListGauge_body (listV::(AV.int .i64 most)::(AV.func g [] cap)::und 28) h .ret h5 (CN 2<|VV ln1<|CC<|VV (igtr 3 false false .i64 ((list.length:Nat):Int) most)<|BB f0<|CC<|VV ln3<|CC<|LL ev_yl4<|CC<|ZZ) k!
     have e:w_checkListGauge list most P=0:=by simp only[w_checkListGauge,f0,hl_yl4,cond_true,cond_false]
     rw[e]
     exact callP_pure rfl (fn_of Tryz.func55 w_checkListGauge_B k! (.inr rfl) ev k!) a_h5 rfl
   | some rr4=>
     have ln1:lenK (some (.slice 61)) (some listV)=some (AV.int .i64 ((list.length:Nat):Int)):=h_list.len
     have ln3:lenK (some (.slice 61)) (some listV)=some (AV.int .i64 ((list.length:Nat):Int)):=h_list.len
     obtain ⟨yl4,h5,ev_yl4,G_h5⟩:=OptLoop.r hl_yl4 (w_checkListGauge_l0_t (d:=d) (h:=h) listV g cap list P h_list hP list.length 0 o! (fun k_=>((listV::(AV.int .i64 most)::(AV.func g [] cap)::AV.undef::AV.undef::AV.undef::(AV.int .i64 0)::AV.undef::AV.undef::AV.undef::listV::(AV.int .i64 ((list.length:Nat):Int))::(AV.int .i64 most)::(AV.bool (decide (most<((list.length:Nat):Int))))::listV::(AV.int .i64 ((list.length:Nat):Int))::(AV.int .i64 0)::und 14):List AV).getD k_ AV.undef) h y_h (Has.refl _))
     have y_h5:=G_h5.y
     have m_h5:h.nx≤h5.nx:=G_h5.n
     have a_h5:Has h h5:=G_h5.a
     have ev:=pk (d) w_checkListGauge_body (listV::(AV.int .i64 most)::(AV.func g [] cap)::und 28) h .ret h5 (CN 2<|VV ln1<|CC<|VV (igtr 3 false false .i64 ((list.length:Nat):Int) most)<|BB f0<|CC<|VV ln3<|CC<|LL ev_yl4<|ZZ) k!
     have e:w_checkListGauge list most P=rr4:=by simp only[w_checkListGauge,f0,hl_yl4,cond_true,cond_false]
     rw[e]
     exact callP_pure rfl (fn_of Tryz.func55 w_checkListGauge_B k! (.inr rfl) ev k!) a_h5 rfl
noncomputable def w_checkQuantity1_body:Code:=(Tryz.f52.body).getD .skip
theorem w_checkQuantity1_B:Tryz.f52.body=some w_checkQuantity1_body:=by kernel_rfl
def w_checkQuantity1 (o:Quantity) (c:Quantity):Bool:=(decide (o.name=c.name))
theorem w_checkQuantity1_c {d:Nat} {h:Heap} (o:Quantity) (c:Quantity) (cB:Nat) (h_o:RowT.ok h o) (h_c:RowT.ok h c) (g_c:h.get cB=some (.cells (RowT.c c) 41 false)) (y_h:Tidy h):cal (d+1) (.fn 52) [(AV.agg [(AV.str o.name),(AV.int .i64 o.low),(AV.int .i64 o.high),(AV.int .i64 o.rise),(AV.int .i64 o.fall),(AV.int .i64 o.bad),o.gaugesV]),(AV.ptr cB 0)] h= .ret (AV.bool (w_checkQuantity1 o c)) h:=by
 have s_h_o_2:=h_o.2.small
 have s_h_c_2:=h_c.2.small
 obtain ⟨h1,n_h1,y_h1,z_h1,g_h1,b_h1⟩:=nwB y_h (AObj.cells [(AV.str o.name),(AV.int .i64 o.low),(AV.int .i64 o.high),(AV.int .i64 o.rise),(AV.int .i64 o.fall),(AV.int .i64 o.bad),o.gaugesV] 41 false)
 have a_h1:Has h h1:=b_h1
 have ev:=pk (d) w_checkQuantity1_body ((AV.agg [(AV.str o.name),(AV.int .i64 o.low),(AV.int .i64 o.high),(AV.int .i64 o.rise),(AV.int .i64 o.fall),(AV.int .i64 o.bad),o.gaugesV])::(AV.ptr cB 0)::und 7) h .ret h1 (NN n_h1 (fun i=>(AV.ptr i 0))<|CN 2<|MM (lown 9 0 (AV.str o.name) g_h1 k!)<|CC<|MM (lown 9 0 (AV.str c.name) (b_h1 _ _ g_c) k!)<|VV (seql 9 false false o.name c.name)<|CC<|ZZ) k!
 have e:w_checkQuantity1 o c=(decide (o.name=c.name)):=by simp only[w_checkQuantity1,cond_true,cond_false]
 rw[e]
 exact callP_pure rfl (fn_of Tryz.func52 w_checkQuantity1_B k! (.inr rfl) ev k!) a_h1 rfl
noncomputable def w_indexQuantity_body:Code:=(Tryz.f75.body).getD .skip
theorem w_indexQuantity_B:Tryz.f75.body=some w_indexQuantity_body:=by kernel_rfl
noncomputable def w_indexQuantity_lp0:Code:=(loopsIn w_indexQuantity_body).getD 0 .skip
def w_indexQuantity_l0 (s:List Quantity) (P:Quantity→Bool):Nat→Nat→Option (Int)
 | 0,_=>none
 | kq0+1,i0=>(bif (P (s.g i0)) then some ((i0:Nat):Int) else w_indexQuantity_l0 s P kq0 (i0+1))
theorem w_indexQuantity_l0_t {d:Nat} {h:Heap} (sV:AV) (g:FuncId) (cap:List AV) (s:List Quantity) (P:Quantity→Bool) (H0_0:RowsAt h sV s) (hP:∀y∈s,∀hh,Tidy hh→Has h hh→cal d (.fn g) (.agg (RowT.c y)::cap) hh= .ret (.bool (P y)) hh):∀(k_ i_:Nat) (_:i_+k_=s.length) (x:Nat→AV) (hh:Heap) (y_hh:Tidy hh) (a_hh:Has h hh),OptLoop (cal (d)) w_indexQuantity_lp0 ⟨(sV::(AV.func g [] cap)::rx x 2 5 ((AV.int .i64 ((s.length:Nat):Int))::(AV.int .i64 ((i_:Nat):Int))::rx x 9 10 [])),hh,[],.no⟩ (.exit 0) hh (fun y=>(sV::(AV.func g [] cap)::rx y 2 5 ((AV.int .i64 ((s.length:Nat):Int))::rx y 8 11 []))) (fun r y=>(sV::(AV.func g [] cap)::(y 2)::(y 3)::(AV.int .i64 r)::(y 5)::(y 6)::(AV.int .i64 ((s.length:Nat):Int))::rx y 8 11 [])) (w_indexQuantity_l0 s P k_ i_)
 | 0,i0,hik,x,hh,y_hh,a_hh=>by
   have s_H0_0:=H0_0.small
   have q1:(decide (((i0:Nat):Int)<((s.length:Nat):Int)))=false:=d!
   have ev:=pk (d) w_indexQuantity_lp0 (sV::(AV.func g [] cap)::rx x 2 5 ((AV.int .i64 ((s.length:Nat):Int))::(AV.int .i64 ((i0:Nat):Int))::rx x 9 10 [])) hh (.exit 0) hh (VV (ilss 3 false false .i64 ((i0:Nat):Int) ((s.length:Nat):Int))<|BB q1<|ZZ) k!
   exact OptLoop.out rfl ev (Grow.refl y_hh) k!
 | kq0+1,i0,hik,x,hh,y_hh,a_hh=>by
   have s_H0_0:=H0_0.small
   rcases Bool.eq_false_or_eq_true (P (s.g i0)) with f1 | f1
   · have q1:(decide (((i0:Nat):Int)<((s.length:Nat):Int)))=true:=d!
     obtain ⟨p3,q4,ix2_⟩:=(H0_0.has a_hh).elem (i:=i0) o!
     have ix2:idxK env (some (.slice 41)) (some sV) (some (AV.int .i64 ((i0:Nat):Int)))=some (AV.ptr p3 q4):=ix2_
     have ld5:loadA env hh 41 (AV.ptr p3 q4)=some (AV.agg [(AV.str ((s.g i0).name)),(AV.int .i64 ((s.g i0).low)),(AV.int .i64 ((s.g i0).high)),(AV.int .i64 ((s.g i0).rise)),(AV.int .i64 ((s.g i0).fall)),(AV.int .i64 ((s.g i0).bad)),((s.g i0).gaugesV)]):=(H0_0.has a_hh).load o! ix2_
     have k6:=hP (s.g i0) (g_mem o!) hh y_hh a_hh
     have ev:=pk (d) w_indexQuantity_lp0 (sV::(AV.func g [] cap)::rx x 2 5 ((AV.int .i64 ((s.length:Nat):Int))::(AV.int .i64 ((i0:Nat):Int))::rx x 9 10 [])) hh .ret hh (VV (ilss 3 false false .i64 ((i0:Nat):Int) ((s.length:Nat):Int))<|BB q1<|CN 5<|VV ix2<|MM ld5<|EE k6<|BB f1<|CN 2<|ZZ) k!
     exact OptLoop.ret ((i0:Nat):Int) (by simp only[w_indexQuantity_l0,f1,cond_true,cond_false]) ev (Grow.refl y_hh) k!
   · have q1:(decide (((i0:Nat):Int)<((s.length:Nat):Int)))=true:=d!
     obtain ⟨p3,q4,ix2_⟩:=(H0_0.has a_hh).elem (i:=i0) o!
     have ix2:idxK env (some (.slice 41)) (some sV) (some (AV.int .i64 ((i0:Nat):Int)))=some (AV.ptr p3 q4):=ix2_
     have ld5:loadA env hh 41 (AV.ptr p3 q4)=some (AV.agg [(AV.str ((s.g i0).name)),(AV.int .i64 ((s.g i0).low)),(AV.int .i64 ((s.g i0).high)),(AV.int .i64 ((s.g i0).rise)),(AV.int .i64 ((s.g i0).fall)),(AV.int .i64 ((s.g i0).bad)),((s.g i0).gaugesV)]):=(H0_0.has a_hh).load o! ix2_
     have k6:=hP (s.g i0) (g_mem o!) hh y_hh a_hh
     have u8:=nadd 3 false true i0 1 o!
     have ev:=pk (d) w_indexQuantity_lp0 (sV::(AV.func g [] cap)::rx x 2 5 ((AV.int .i64 ((s.length:Nat):Int))::(AV.int .i64 ((i0:Nat):Int))::rx x 9 10 [])) hh .normal hh (VV (ilss 3 false false .i64 ((i0:Nat):Int) ((s.length:Nat):Int))<|BB q1<|CN 5<|VV ix2<|MM ld5<|EE k6<|BB f1<|VV u8<|CC<|ZZ) k!
     exact OptLoop.round (by simp only[w_indexQuantity_l0,f1,cond_true,cond_false]) ev (Grow.refl y_hh) (fun x=>(sV::(AV.func g [] cap)::rx x 2 5 ((AV.int .i64 ((s.length:Nat):Int))::(AV.int .i64 (((i0+1):Nat):Int))::rx x 9 10 []))) k! (fun x=>w_indexQuantity_l0_t sV g cap s P H0_0 hP kq0 (i0+1) o! x hh y_hh a_hh)
def w_indexQuantity (s:List Quantity) (P:Quantity→Bool):Int:=(match (w_indexQuantity_l0 s P s.length 0) with | none=>(-1) | some rr2=>rr2)
theorem w_indexQuantity_c {d:Nat} {h:Heap} {sV:AV} {g:FuncId} {cap:List AV} (s:List Quantity) (P:Quantity→Bool) (h_s:RowsAt h sV s) (hP:∀y∈s,∀hh,Tidy hh→Has h hh→cal d (.fn g) (.agg (RowT.c y)::cap) hh= .ret (.bool (P y)) hh) (y_h:Tidy h):cal (d+1) (.fn 75) [sV,(AV.func g [] cap)] h= .ret (AV.int .i64 (w_indexQuantity s P)) h:=by
 have s_h_s:=h_s.small
 cases hl_yl2:w_indexQuantity_l0 s P s.length 0 with
 | none=>
   have ln1:lenK (some (.slice 41)) (some sV)=some (AV.int .i64 ((s.length:Nat):Int)):=h_s.len
   obtain ⟨yl2,h3,ev_yl2,G_h3⟩:=OptLoop.n hl_yl2 (w_indexQuantity_l0_t (d:=d) (h:=h) sV g cap s P h_s hP s.length 0 o! (fun k_=>((sV::(AV.func g [] cap)::AV.undef::AV.undef::(AV.int .i64 0)::AV.undef::sV::(AV.int .i64 ((s.length:Nat):Int))::(AV.int .i64 0)::und 10):List AV).getD k_ AV.undef) h y_h (Has.refl _))
   have y_h3:=G_h3.y
   have m_h3:h.nx≤h3.nx:=G_h3.n
   have a_h3:Has h h3:=G_h3.a
   have ev:=pk (d) w_indexQuantity_body (sV::(AV.func g [] cap)::und 17) h .ret h3 (CN 2<|VV ln1<|CC<|LL ev_yl2<|CC<|ZZ) k!
   have e:w_indexQuantity s P=(-1):=by simp only[w_indexQuantity,hl_yl2,cond_true,cond_false]
   rw[e]
   exact callP_pure rfl (fn_of Tryz.func75 w_indexQuantity_B k! (.inr rfl) ev k!) a_h3 rfl
 | some rr2=>
   have ln1:lenK (some (.slice 41)) (some sV)=some (AV.int .i64 ((s.length:Nat):Int)):=h_s.len
   obtain ⟨yl2,h3,ev_yl2,G_h3⟩:=OptLoop.r hl_yl2 (w_indexQuantity_l0_t (d:=d) (h:=h) sV g cap s P h_s hP s.length 0 o! (fun k_=>((sV::(AV.func g [] cap)::AV.undef::AV.undef::(AV.int .i64 0)::AV.undef::sV::(AV.int .i64 ((s.length:Nat):Int))::(AV.int .i64 0)::und 10):List AV).getD k_ AV.undef) h y_h (Has.refl _))
   have y_h3:=G_h3.y
   have m_h3:h.nx≤h3.nx:=G_h3.n
   have a_h3:Has h h3:=G_h3.a
   have ev:=pk (d) w_indexQuantity_body (sV::(AV.func g [] cap)::und 17) h .ret h3 (CN 2<|VV ln1<|CC<|LL ev_yl2<|ZZ) k!
   have e:w_indexQuantity s P=rr2:=by simp only[w_indexQuantity,hl_yl2,cond_true,cond_false]
   rw[e]
   exact callP_pure rfl (fn_of Tryz.func75 w_indexQuantity_B k! (.inr rfl) ev k!) a_h3 rfl
noncomputable def w_containsQuantity_body:Code:=(Tryz.f51.body).getD .skip
theorem w_containsQuantity_B:Tryz.f51.body=some w_containsQuantity_body:=by kernel_rfl
def w_containsQuantity (s:List Quantity) (P:Quantity→Bool):Bool:=(decide (0≤(w_indexQuantity s P)))
theorem w_containsQuantity_c {d:Nat} {h:Heap} {sV:AV} {g:FuncId} {cap:List AV} (s:List Quantity) (P:Quantity→Bool) (h_s:RowsAt h sV s) (hP:∀y∈s,∀hh,Tidy hh→Has h hh→cal d (.fn g) (.agg (RowT.c y)::cap) hh= .ret (.bool (P y)) hh) (y_h:Tidy h):cal (d+2) (.fn 51) [sV,(AV.func g [] cap)] h= .ret (AV.bool (w_containsQuantity s P)) h:=by
 have s_h_s:=h_s.small
 have k1:=w_indexQuantity_c (d:=d) s P h_s hP y_h
 have ev:=pk (d+1) w_containsQuantity_body (sV::(AV.func g [] cap)::und 7) h .ret h (CN 3<|EE k1<|VV (igeq 3 false true .i64 (w_indexQuantity s P) 0)<|CC<|ZZ) k!
 have e:w_containsQuantity s P=(decide (0≤(w_indexQuantity s P))):=by simp only[w_containsQuantity,cond_true,cond_false]
 rw[e]
 exact callP_pure rfl (fn_of Tryz.func51 w_containsQuantity_B k! (.inr rfl) ev k!) (Has.refl _) rfl
end Go.Proofs.Bench
