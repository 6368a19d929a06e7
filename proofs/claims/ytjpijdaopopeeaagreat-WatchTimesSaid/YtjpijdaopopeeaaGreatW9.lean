import Derived.Test.YtjpijdaopopeeaaGreatW0
import Derived.Test.YtjpijdaopopeeaaGreatW8
import Derived.Test.YtjpijdaopopeeaaGreatW7
import Derived.Test.YtjpijdaopopeeaaGreatW6
import Derived.Test.YtjpijdaopopeeaaGreatW5
namespace Go.Proofs.Bench
open Go.Proofs Ab
set_option maxRecDepth 100000
set_option maxHeartbeats 4000000
set_option linter.unusedVariables false
set_option linter.unusedSimpArgs false
noncomputable def w_checkQuantity_body:Code:=(Tryz.f26.body).getD .skip
theorem w_checkQuantity_B:Tryz.f26.body=some w_checkQuantity_body:=by kernel_rfl
def w_checkQuantity (ahead:List Quantity) (q:Quantity):Int:=(bif (!(w_isName q.name)) then 5 else (bif (w_containsQuantity ahead (fun y=>w_checkQuantity1 y q)) then 6 else (bif (!(w_isValue q.low)) then 1 else (bif (!(w_isValue q.high)) then 1 else (bif (decide (q.high<q.low)) then 1 else (bif (!(w_isUpTo q.rise 10000)) then 1 else (bif (!(w_isUpTo q.fall 10000)) then 1 else (bif (decide (8<((q.gauges.length:Nat):Int))) then 3 else (bif (!(w_isUpTo q.bad ((q.gauges.length:Nat):Int))) then 1 else (w_checkListGauge q.gauges 8 (fun j=>w_checkGauge (List.take j q.gauges) (List.g q.gauges j))))))))))))
theorem w_checkQuantity_c {d:Nat} {h:Heap} {aheadV:AV} (ahead:List Quantity) (q:Quantity) (h_ahead:RowsAt h aheadV ahead) (h_q:RowT.ok h q) (y_h:Tidy h):cal (d+9) (.fn 26) [aheadV,(AV.agg [(AV.str q.name),(AV.int .i64 q.low),(AV.int .i64 q.high),(AV.int .i64 q.rise),(AV.int .i64 q.fall),(AV.int .i64 q.bad),q.gaugesV])] h= .ret (AV.int .i64 (w_checkQuantity ahead q)) h:=by
 have s_h_ahead:=h_ahead.small
 have s_h_q_2:=h_q.2.small
 rcases Bool.eq_false_or_eq_true (!(w_isName q.name)) with f0 | f0
 · obtain ⟨h1,n_h1,y_h1,z_h1,g_h1,b_h1⟩:=nwB y_h (AObj.cells [(AV.str q.name),(AV.int .i64 q.low),(AV.int .i64 q.high),(AV.int .i64 q.rise),(AV.int .i64 q.fall),(AV.int .i64 q.bad),q.gaugesV] 41 false)
   have a_h1:Has h h1:=b_h1
   have k2:=w_isName_c (d:=d+7) q.name h_q.1 y_h1
   have ev:=pk (d+8) w_checkQuantity_body (aheadV::(AV.agg [(AV.str q.name),(AV.int .i64 q.low),(AV.int .i64 q.high),(AV.int .i64 q.rise),(AV.int .i64 q.fall),(AV.int .i64 q.bad),q.gaugesV])::und 55) h .ret h1 (NN n_h1 (fun i=>(AV.ptr i 0))<|CN 2<|MM (lown 9 0 (AV.str q.name) g_h1 k!)<|EE k2<|CN 2<|BB f0<|CC<|ZZ) k!
   have e:w_checkQuantity ahead q=5:=by simp only[w_checkQuantity,f0,cond_true,cond_false]
   rw[e]
   exact callP_pure rfl (fn_of Tryz.func26 w_checkQuantity_B k! (.inr rfl) ev k!) a_h1 rfl
 · rcases Bool.eq_false_or_eq_true (w_containsQuantity ahead (fun y=>w_checkQuantity1 y q)) with f1 | f1
   · obtain ⟨h1,n_h1,y_h1,z_h1,g_h1,b_h1⟩:=nwB y_h (AObj.cells [(AV.str q.name),(AV.int .i64 q.low),(AV.int .i64 q.high),(AV.int .i64 q.rise),(AV.int .i64 q.fall),(AV.int .i64 q.bad),q.gaugesV] 41 false)
     have a_h1:Has h h1:=b_h1
     have k2:=w_isName_c (d:=d+7) q.name h_q.1 y_h1
     have k4:=w_containsQuantity_c (d:=d+6) ahead (fun y=>w_checkQuantity1 y q) (h_ahead.has a_h1) (fun y hy hh yy aa=>w_checkQuantity1_c (d:=d+5) y q h.nx (RowT.mono aa ((h_ahead.has a_h1).oks y hy)) (RowT.mono aa (RowT.mono a_h1 h_q)) (aa _ _ g_h1) yy) y_h1
     have ev:=pk (d+8) w_checkQuantity_body (aheadV::(AV.agg [(AV.str q.name),(AV.int .i64 q.low),(AV.int .i64 q.high),(AV.int .i64 q.rise),(AV.int .i64 q.fall),(AV.int .i64 q.bad),q.gaugesV])::und 55) h .ret h1 (NN n_h1 (fun i=>(AV.ptr i 0))<|CN 2<|MM (lown 9 0 (AV.str q.name) g_h1 k!)<|EE k2<|CN 2<|BB f0<|CN 2<|EE k4<|CC<|BB f1<|CC<|ZZ) k!
     have e:w_checkQuantity ahead q=6:=by simp only[w_checkQuantity,f0,f1,cond_true,cond_false]
     rw[e]
     exact callP_pure rfl (fn_of Tryz.func26 w_checkQuantity_B k! (.inr rfl) ev k!) a_h1 rfl
   · rcases Bool.eq_false_or_eq_true (!(w_isValue q.low)) with f2 | f2
     · obtain ⟨h1,n_h1,y_h1,z_h1,g_h1,b_h1⟩:=nwB y_h (AObj.cells [(AV.str q.name),(AV.int .i64 q.low),(AV.int .i64 q.high),(AV.int .i64 q.rise),(AV.int .i64 q.fall),(AV.int .i64 q.bad),q.gaugesV] 41 false)
       have a_h1:Has h h1:=b_h1
       have k2:=w_isName_c (d:=d+7) q.name h_q.1 y_h1
       have k4:=w_containsQuantity_c (d:=d+6) ahead (fun y=>w_checkQuantity1 y q) (h_ahead.has a_h1) (fun y hy hh yy aa=>w_checkQuantity1_c (d:=d+5) y q h.nx (RowT.mono aa ((h_ahead.has a_h1).oks y hy)) (RowT.mono aa (RowT.mono a_h1 h_q)) (aa _ _ g_h1) yy) y_h1
       have k6:=w_isValue_c (d:=d+7) q.low y_h1
       have ev:=pk (d+8) w_checkQuantity_body (aheadV::(AV.agg [(AV.str q.name),(AV.int .i64 q.low),(AV.int .i64 q.high),(AV.int .i64 q.rise),(AV.int .i64 q.fall),(AV.int .i64 q.bad),q.gaugesV])::und 55) h .ret h1 (NN n_h1 (fun i=>(AV.ptr i 0))<|CN 2<|MM (lown 9 0 (AV.str q.name) g_h1 k!)<|EE k2<|CN 2<|BB f0<|CN 2<|EE k4<|CC<|BB f1<|CN 2<|MM (lown 3 1 (AV.int .i64 q.low) g_h1 k!)<|EE k6<|CN 2<|BB f2<|BB f2<|CC<|ZZ) k!
       have e:w_checkQuantity ahead q=1:=by simp only[w_checkQuantity,f0,f1,f2,cond_true,cond_false]
       rw[e]
       exact callP_pure rfl (fn_of Tryz.func26 w_checkQuantity_B k! (.inr rfl) ev k!) a_h1 rfl
     · rcases Bool.eq_false_or_eq_true (!(w_isValue q.high)) with f3 | f3
       · obtain ⟨h1,n_h1,y_h1,z_h1,g_h1,b_h1⟩:=nwB y_h (AObj.cells [(AV.str q.name),(AV.int .i64 q.low),(AV.int .i64 q.high),(AV.int .i64 q.rise),(AV.int .i64 q.fall),(AV.int .i64 q.bad),q.gaugesV] 41 false)
         have a_h1:Has h h1:=b_h1
         have k2:=w_isName_c (d:=d+7) q.name h_q.1 y_h1
         have k4:=w_containsQuantity_c (d:=d+6) ahead (fun y=>w_checkQuantity1 y q) (h_ahead.has a_h1) (fun y hy hh yy aa=>w_checkQuantity1_c (d:=d+5) y q h.nx (RowT.mono aa ((h_ahead.has a_h1).oks y hy)) (RowT.mono aa (RowT.mono a_h1 h_q)) (aa _ _ g_h1) yy) y_h1
         have k6:=w_isValue_c (d:=d+7) q.low y_h1
         have k8:=w_isValue_c (d:=d+7) q.high y_h1
         have ev:=pk (d+8) w_checkQuantity_body (aheadV::(AV.agg [(AV.str q.name),(AV.int .i64 q.low),(AV.int .i64 q.high),(AV.int .i64 q.rise),(AV.int .i64 q.fall),(AV.int .i64 q.bad),q.gaugesV])::und 55) h .ret h1 (NN n_h1 (fun i=>(AV.ptr i 0))<|CN 2<|MM (lown 9 0 (AV.str q.name) g_h1 k!)<|EE k2<|CN 2<|BB f0<|CN 2<|EE k4<|CC<|BB f1<|CN 2<|MM (lown 3 1 (AV.int .i64 q.low) g_h1 k!)<|EE k6<|CN 2<|BB f2<|CN 2<|MM (lown 3 2 (AV.int .i64 q.high) g_h1 k!)<|EE k8<|CN 2<|BB f3<|BB f3<|CC<|ZZ) k!
         have e:w_checkQuantity ahead q=1:=by simp only[w_checkQuantity,f0,f1,f2,f3,cond_true,cond_false]
         rw[e]
         exact callP_pure rfl (fn_of Tryz.func26 w_checkQuantity_B k! (.inr rfl) ev k!) a_h1 rfl
       · rcases Bool.eq_false_or_eq_true (decide (q.high<q.low)) with f4 | f4
         · have n_f4:=of_decide_eq_true f4
           obtain ⟨h1,n_h1,y_h1,z_h1,g_h1,b_h1⟩:=nwB y_h (AObj.cells [(AV.str q.name),(AV.int .i64 q.low),(AV.int .i64 q.high),(AV.int .i64 q.rise),(AV.int .i64 q.fall),(AV.int .i64 q.bad),q.gaugesV] 41 false)
           have a_h1:Has h h1:=b_h1
           have k2:=w_isName_c (d:=d+7) q.name h_q.1 y_h1
           have k4:=w_containsQuantity_c (d:=d+6) ahead (fun y=>w_checkQuantity1 y q) (h_ahead.has a_h1) (fun y hy hh yy aa=>w_checkQuantity1_c (d:=d+5) y q h.nx (RowT.mono aa ((h_ahead.has a_h1).oks y hy)) (RowT.mono aa (RowT.mono a_h1 h_q)) (aa _ _ g_h1) yy) y_h1
           have k6:=w_isValue_c (d:=d+7) q.low y_h1
           have k8:=w_isValue_c (d:=d+7) q.high y_h1
           have ev:=pk (d+8) w_checkQuantity_body (aheadV::(AV.agg [(AV.str q.name),(AV.int .i64 q.low),(AV.int .i64 q.high),(AV.int .i64 q.rise),(AV.int .i64 q.fall),(AV.int .i64 q.bad),q.gaugesV])::und 55) h .ret h1 (NN n_h1 (fun i=>(AV.ptr i 0))<|CN 2<|MM (lown 9 0 (AV.str q.name) g_h1 k!)<|EE k2<|CN 2<|BB f0<|CN 2<|EE k4<|CC<|BB f1<|CN 2<|MM (lown 3 1 (AV.int .i64 q.low) g_h1 k!)<|EE k6<|CN 2<|BB f2<|CN 2<|MM (lown 3 2 (AV.int .i64 q.high) g_h1 k!)<|EE k8<|CN 2<|BB f3<|CN 2<|MM (lown 3 1 (AV.int .i64 q.low) g_h1 k!)<|CN 2<|MM (lown 3 2 (AV.int .i64 q.high) g_h1 k!)<|VV (igtr 3 false false .i64 q.low q.high)<|CC<|BB f4<|CC<|ZZ) k!
           have e:w_checkQuantity ahead q=1:=by simp only[w_checkQuantity,f0,f1,f2,f3,f4,cond_true,cond_false]
           rw[e]
           exact callP_pure rfl (fn_of Tryz.func26 w_checkQuantity_B k! (.inr rfl) ev k!) a_h1 rfl
         · have n_f4:=of_decide_eq_false f4
           rcases Bool.eq_false_or_eq_true (!(w_isUpTo q.rise 10000)) with f5 | f5
           · obtain ⟨h1,n_h1,y_h1,z_h1,g_h1,b_h1⟩:=nwB y_h (AObj.cells [(AV.str q.name),(AV.int .i64 q.low),(AV.int .i64 q.high),(AV.int .i64 q.rise),(AV.int .i64 q.fall),(AV.int .i64 q.bad),q.gaugesV] 41 false)
             have a_h1:Has h h1:=b_h1
             have k2:=w_isName_c (d:=d+7) q.name h_q.1 y_h1
             have k4:=w_containsQuantity_c (d:=d+6) ahead (fun y=>w_checkQuantity1 y q) (h_ahead.has a_h1) (fun y hy hh yy aa=>w_checkQuantity1_c (d:=d+5) y q h.nx (RowT.mono aa ((h_ahead.has a_h1).oks y hy)) (RowT.mono aa (RowT.mono a_h1 h_q)) (aa _ _ g_h1) yy) y_h1
             have k6:=w_isValue_c (d:=d+7) q.low y_h1
             have k8:=w_isValue_c (d:=d+7) q.high y_h1
             have k11:=w_isUpTo_c (d:=d+7) q.rise 10000 y_h1
             have ev:=pk (d+8) w_checkQuantity_body (aheadV::(AV.agg [(AV.str q.name),(AV.int .i64 q.low),(AV.int .i64 q.high),(AV.int .i64 q.rise),(AV.int .i64 q.fall),(AV.int .i64 q.bad),q.gaugesV])::und 55) h .ret h1 (NN n_h1 (fun i=>(AV.ptr i 0))<|CN 2<|MM (lown 9 0 (AV.str q.name) g_h1 k!)<|EE k2<|CN 2<|BB f0<|CN 2<|EE k4<|CC<|BB f1<|CN 2<|MM (lown 3 1 (AV.int .i64 q.low) g_h1 k!)<|EE k6<|CN 2<|BB f2<|CN 2<|MM (lown 3 2 (AV.int .i64 q.high) g_h1 k!)<|EE k8<|CN 2<|BB f3<|CN 2<|MM (lown 3 1 (AV.int .i64 q.low) g_h1 k!)<|CN 2<|MM (lown 3 2 (AV.int .i64 q.high) g_h1 k!)<|VV (igtr 3 false false .i64 q.low q.high)<|CC<|BB f4<|CC<|MM (lown 3 3 (AV.int .i64 q.rise) g_h1 k!)<|EE k11<|CN 2<|BB f5<|BB f5<|CC<|ZZ) k!
             have e:w_checkQuantity ahead q=1:=by simp only[w_checkQuantity,f0,f1,f2,f3,f4,f5,cond_true,cond_false]
             rw[e]
             exact callP_pure rfl (fn_of Tryz.func26 w_checkQuantity_B k! (.inr rfl) ev k!) a_h1 rfl
           · rcases Bool.eq_false_or_eq_true (!(w_isUpTo q.fall 10000)) with f6 | f6
             · obtain ⟨h1,n_h1,y_h1,z_h1,g_h1,b_h1⟩:=nwB y_h (AObj.cells [(AV.str q.name),(AV.int .i64 q.low),(AV.int .i64 q.high),(AV.int .i64 q.rise),(AV.int .i64 q.fall),(AV.int .i64 q.bad),q.gaugesV] 41 false)
               have a_h1:Has h h1:=b_h1
               have k2:=w_isName_c (d:=d+7) q.name h_q.1 y_h1
               have k4:=w_containsQuantity_c (d:=d+6) ahead (fun y=>w_checkQuantity1 y q) (h_ahead.has a_h1) (fun y hy hh yy aa=>w_checkQuantity1_c (d:=d+5) y q h.nx (RowT.mono aa ((h_ahead.has a_h1).oks y hy)) (RowT.mono aa (RowT.mono a_h1 h_q)) (aa _ _ g_h1) yy) y_h1
               have k6:=w_isValue_c (d:=d+7) q.low y_h1
               have k8:=w_isValue_c (d:=d+7) q.high y_h1
               have k11:=w_isUpTo_c (d:=d+7) q.rise 10000 y_h1
               have k13:=w_isUpTo_c (d:=d+7) q.fall 10000 y_h1
               have ev:=pk (d+8) w_checkQuantity_body (aheadV::(AV.agg [(AV.str q.name),(AV.int .i64 q.low),(AV.int .i64 q.high),(AV.int .i64 q.rise),(AV.int .i64 q.fall),(AV.int .i64 q.bad),q.gaugesV])::und 55) h .ret h1 (NN n_h1 (fun i=>(AV.ptr i 0))<|CN 2<|MM (lown 9 0 (AV.str q.name) g_h1 k!)<|EE k2<|CN 2<|BB f0<|CN 2<|EE k4<|CC<|BB f1<|CN 2<|MM (lown 3 1 (AV.int .i64 q.low) g_h1 k!)<|EE k6<|CN 2<|BB f2<|CN 2<|MM (lown 3 2 (AV.int .i64 q.high) g_h1 k!)<|EE k8<|CN 2<|BB f3<|CN 2<|MM (lown 3 1 (AV.int .i64 q.low) g_h1 k!)<|CN 2<|MM (lown 3 2 (AV.int .i64 q.high) g_h1 k!)<|VV (igtr 3 false false .i64 q.low q.high)<|CC<|BB f4<|CC<|MM (lown 3 3 (AV.int .i64 q.rise) g_h1 k!)<|EE k11<|CN 2<|BB f5<|CC<|MM (lown 3 4 (AV.int .i64 q.fall) g_h1 k!)<|EE k13<|CN 2<|BB f6<|CC<|ZZ) k!
               have e:w_checkQuantity ahead q=1:=by simp only[w_checkQuantity,f0,f1,f2,f3,f4,f5,f6,cond_true,cond_false]
               rw[e]
               exact callP_pure rfl (fn_of Tryz.func26 w_checkQuantity_B k! (.inr rfl) ev k!) a_h1 rfl
             · rcases Bool.eq_false_or_eq_true (decide (8<((q.gauges.length:Nat):Int))) with f7 | f7
               · have n_f7:=of_decide_eq_true f7
                 obtain ⟨h1,n_h1,y_h1,z_h1,g_h1,b_h1⟩:=nwB y_h (AObj.cells [(AV.str q.name),(AV.int .i64 q.low),(AV.int .i64 q.high),(AV.int .i64 q.rise),(AV.int .i64 q.fall),(AV.int .i64 q.bad),q.gaugesV] 41 false)
                 have a_h1:Has h h1:=b_h1
                 have k2:=w_isName_c (d:=d+7) q.name h_q.1 y_h1
                 have k4:=w_containsQuantity_c (d:=d+6) ahead (fun y=>w_checkQuantity1 y q) (h_ahead.has a_h1) (fun y hy hh yy aa=>w_checkQuantity1_c (d:=d+5) y q h.nx (RowT.mono aa ((h_ahead.has a_h1).oks y hy)) (RowT.mono aa (RowT.mono a_h1 h_q)) (aa _ _ g_h1) yy) y_h1
                 have k6:=w_isValue_c (d:=d+7) q.low y_h1
                 have k8:=w_isValue_c (d:=d+7) q.high y_h1
                 have k11:=w_isUpTo_c (d:=d+7) q.rise 10000 y_h1
                 have k13:=w_isUpTo_c (d:=d+7) q.fall 10000 y_h1
                 have ln15:lenK (some (.slice 61)) (some q.gaugesV)=some (AV.int .i64 ((q.gauges.length:Nat):Int)):=h_q.2.len
                 have ev:=pk (d+8) w_checkQuantity_body (aheadV::(AV.agg [(AV.str q.name),(AV.int .i64 q.low),(AV.int .i64 q.high),(AV.int .i64 q.rise),(AV.int .i64 q.fall),(AV.int .i64 q.bad),q.gaugesV])::und 55) h .ret h1 (NN n_h1 (fun i=>(AV.ptr i 0))<|CN 2<|MM (lown 9 0 (AV.str q.name) g_h1 k!)<|EE k2<|CN 2<|BB f0<|CN 2<|EE k4<|CC<|BB f1<|CN 2<|MM (lown 3 1 (AV.int .i64 q.low) g_h1 k!)<|EE k6<|CN 2<|BB f2<|CN 2<|MM (lown 3 2 (AV.int .i64 q.high) g_h1 k!)<|EE k8<|CN 2<|BB f3<|CN 2<|MM (lown 3 1 (AV.int .i64 q.low) g_h1 k!)<|CN 2<|MM (lown 3 2 (AV.int .i64 q.high) g_h1 k!)<|VV (igtr 3 false false .i64 q.low q.high)<|CC<|BB f4<|CC<|MM (lown 3 3 (AV.int .i64 q.rise) g_h1 k!)<|EE k11<|CN 2<|BB f5<|CC<|MM (lown 3 4 (AV.int .i64 q.fall) g_h1 k!)<|EE k13<|CN 2<|BB f6<|CC<|MM (lown 39 6 q.gaugesV g_h1 k!)<|VV ln15<|VV (igtr 3 false true .i64 ((q.gauges.length:Nat):Int) 8)<|CC<|BB f7<|CC<|ZZ) k!
                 have e:w_checkQuantity ahead q=3:=by simp only[w_checkQuantity,f0,f1,f2,f3,f4,f5,f6,f7,cond_true,cond_false]
                 rw[e]
                 exact callP_pure rfl (fn_of Tryz.func26 w_checkQuantity_B k! (.inr rfl) ev k!) a_h1 rfl
               · have n_f7:=of_decide_eq_false f7
                 rcases Bool.eq_false_or_eq_true (!(w_isUpTo q.bad ((q.gauges.length:Nat):Int))) with f8 | f8
                 · obtain ⟨h1,n_h1,y_h1,z_h1,g_h1,b_h1⟩:=nwB y_h (AObj.cells [(AV.str q.name),(AV.int .i64 q.low),(AV.int .i64 q.high),(AV.int .i64 q.rise),(AV.int .i64 q.fall),(AV.int .i64 q.bad),q.gaugesV] 41 false)
                   have a_h1:Has h h1:=b_h1
                   have k2:=w_isName_c (d:=d+7) q.name h_q.1 y_h1
                   have k4:=w_containsQuantity_c (d:=d+6) ahead (fun y=>w_checkQuantity1 y q) (h_ahead.has a_h1) (fun y hy hh yy aa=>w_checkQuantity1_c (d:=d+5) y q h.nx (RowT.mono aa ((h_ahead.has a_h1).oks y hy)) (RowT.mono aa (RowT.mono a_h1 h_q)) (aa _ _ g_h1) yy) y_h1
                   have k6:=w_isValue_c (d:=d+7) q.low y_h1
                   have k8:=w_isValue_c (d:=d+7) q.high y_h1
                   have k11:=w_isUpTo_c (d:=d+7) q.rise 10000 y_h1
                   have k13:=w_isUpTo_c (d:=d+7) q.fall 10000 y_h1
                   have ln15:lenK (some (.slice 61)) (some q.gaugesV)=some (AV.int .i64 ((q.gauges.length:Nat):Int)):=h_q.2.len
                   have ln17:lenK (some (.slice 61)) (some q.gaugesV)=some (AV.int .i64 ((q.gauges.length:Nat):Int)):=h_q.2.len
                   have k18:=w_isUpTo_c (d:=d+7) q.bad ((q.gauges.length:Nat):Int) y_h1
                   have ev:=pk (d+8) w_checkQuantity_body (aheadV::(AV.agg [(AV.str q.name),(AV.int .i64 q.low),(AV.int .i64 q.high),(AV.int .i64 q.rise),(AV.int .i64 q.fall),(AV.int .i64 q.bad),q.gaugesV])::und 55) h .ret h1 (NN n_h1 (fun i=>(AV.ptr i 0))<|CN 2<|MM (lown 9 0 (AV.str q.name) g_h1 k!)<|EE k2<|CN 2<|BB f0<|CN 2<|EE k4<|CC<|BB f1<|CN 2<|MM (lown 3 1 (AV.int .i64 q.low) g_h1 k!)<|EE k6<|CN 2<|BB f2<|CN 2<|MM (lown 3 2 (AV.int .i64 q.high) g_h1 k!)<|EE k8<|CN 2<|BB f3<|CN 2<|MM (lown 3 1 (AV.int .i64 q.low) g_h1 k!)<|CN 2<|MM (lown 3 2 (AV.int .i64 q.high) g_h1 k!)<|VV (igtr 3 false false .i64 q.low q.high)<|CC<|BB f4<|CC<|MM (lown 3 3 (AV.int .i64 q.rise) g_h1 k!)<|EE k11<|CN 2<|BB f5<|CC<|MM (lown 3 4 (AV.int .i64 q.fall) g_h1 k!)<|EE k13<|CN 2<|BB f6<|CC<|MM (lown 39 6 q.gaugesV g_h1 k!)<|VV ln15<|VV (igtr 3 false true .i64 ((q.gauges.length:Nat):Int) 8)<|CC<|BB f7<|CC<|MM (lown 3 5 (AV.int .i64 q.bad) g_h1 k!)<|CC<|MM (lown 39 6 q.gaugesV g_h1 k!)<|VV ln17<|EE k18<|CN 2<|BB f8<|CC<|ZZ) k!
                   have e:w_checkQuantity ahead q=1:=by simp only[w_checkQuantity,f0,f1,f2,f3,f4,f5,f6,f7,f8,cond_true,cond_false]
                   rw[e]
                   exact callP_pure rfl (fn_of Tryz.func26 w_checkQuantity_B k! (.inr rfl) ev k!) a_h1 rfl
                 · obtain ⟨h1,n_h1,y_h1,z_h1,g_h1,b_h1⟩:=nwB y_h (AObj.cells [(AV.str q.name),(AV.int .i64 q.low),(AV.int .i64 q.high),(AV.int .i64 q.rise),(AV.int .i64 q.fall),(AV.int .i64 q.bad),q.gaugesV] 41 false)
                   have a_h1:Has h h1:=b_h1
                   have k2:=w_isName_c (d:=d+7) q.name h_q.1 y_h1
                   have k4:=w_containsQuantity_c (d:=d+6) ahead (fun y=>w_checkQuantity1 y q) (h_ahead.has a_h1) (fun y hy hh yy aa=>w_checkQuantity1_c (d:=d+5) y q h.nx (RowT.mono aa ((h_ahead.has a_h1).oks y hy)) (RowT.mono aa (RowT.mono a_h1 h_q)) (aa _ _ g_h1) yy) y_h1
                   have k6:=w_isValue_c (d:=d+7) q.low y_h1
                   have k8:=w_isValue_c (d:=d+7) q.high y_h1
                   have k11:=w_isUpTo_c (d:=d+7) q.rise 10000 y_h1
                   have k13:=w_isUpTo_c (d:=d+7) q.fall 10000 y_h1
                   have ln15:lenK (some (.slice 61)) (some q.gaugesV)=some (AV.int .i64 ((q.gauges.length:Nat):Int)):=h_q.2.len
                   have ln17:lenK (some (.slice 61)) (some q.gaugesV)=some (AV.int .i64 ((q.gauges.length:Nat):Int)):=h_q.2.len
                   have k18:=w_isUpTo_c (d:=d+7) q.bad ((q.gauges.length:Nat):Int) y_h1
                   have k20:=w_checkListGauge_c (d:=d+7) q.gauges 8 (fun j=>w_checkGauge (List.take j q.gauges) (List.g q.gauges j)) (h_q.2.has a_h1) (fun j hj aV hh yy aa fa=>w_checkGauge_c (d:=d+1) (List.take j q.gauges) (List.g q.gauges j) fa (RowT.mono aa ((h_q.2.has a_h1).ok hj)) yy) y_h1
                   have ev:=pk (d+8) w_checkQuantity_body (aheadV::(AV.agg [(AV.str q.name),(AV.int .i64 q.low),(AV.int .i64 q.high),(AV.int .i64 q.rise),(AV.int .i64 q.fall),(AV.int .i64 q.bad),q.gaugesV])::und 55) h .ret h1 (NN n_h1 (fun i=>(AV.ptr i 0))<|CN 2<|MM (lown 9 0 (AV.str q.name) g_h1 k!)<|EE k2<|CN 2<|BB f0<|CN 2<|EE k4<|CC<|BB f1<|CN 2<|MM (lown 3 1 (AV.int .i64 q.low) g_h1 k!)<|EE k6<|CN 2<|BB f2<|CN 2<|MM (lown 3 2 (AV.int .i64 q.high) g_h1 k!)<|EE k8<|CN 2<|BB f3<|CN 2<|MM (lown 3 1 (AV.int .i64 q.low) g_h1 k!)<|CN 2<|MM (lown 3 2 (AV.int .i64 q.high) g_h1 k!)<|VV (igtr 3 false false .i64 q.low q.high)<|CC<|BB f4<|CC<|MM (lown 3 3 (AV.int .i64 q.rise) g_h1 k!)<|EE k11<|CN 2<|BB f5<|CC<|MM (lown 3 4 (AV.int .i64 q.fall) g_h1 k!)<|EE k13<|CN 2<|BB f6<|CC<|MM (lown 39 6 q.gaugesV g_h1 k!)<|VV ln15<|VV (igtr 3 false true .i64 ((q.gauges.length:Nat):Int) 8)<|CC<|BB f7<|CC<|MM (lown 3 5 (AV.int .i64 q.bad) g_h1 k!)<|CC<|MM (lown 39 6 q.gaugesV g_h1 k!)<|VV ln17<|EE k18<|CN 2<|BB f8<|CC<|MM (lown 39 6 q.gaugesV g_h1 k!)<|EE k20<|CC<|ZZ) k!
                   have e:w_checkQuantity ahead q=(w_checkListGauge q.gauges 8 (fun j=>w_checkGauge (List.take j q.gauges) (List.g q.gauges j))):=by simp only[w_checkQuantity,f0,f1,f2,f3,f4,f5,f6,f7,f8,cond_true,cond_false]
                   rw[e]
                   exact callP_pure rfl (fn_of Tryz.func26 w_checkQuantity_B k! (.inr rfl) ev k!) a_h1 rfl
noncomputable def w_Check_body:Code:=(Tryz.f16.body).getD .skip
theorem w_Check_B:Tryz.f16.body=some w_Check_body:=by kernel_rfl
def w_Check (p:Plan):Int:=(bif (!decide ((w_checkListQuantity p.quantities 16 (fun j=>w_checkQuantity (List.take j p.quantities) (List.g p.quantities j)))=0)) then (w_checkListQuantity p.quantities 16 (fun j=>w_checkQuantity (List.take j p.quantities) (List.g p.quantities j))) else (bif (!decide ((w_checkListMeasure p.measures 16 (fun j=>w_checkMeasure (List.take j p.measures) (List.g p.measures j)))=0)) then (w_checkListMeasure p.measures 16 (fun j=>w_checkMeasure (List.take j p.measures) (List.g p.measures j))) else (w_checkListAlarm p.alarms 16 (fun j=>w_Check1 (List.take j p.alarms) (List.g p.alarms j) p))))
theorem w_Check_c {d:Nat} {h:Heap} (p:Plan) (h_p:RowT.ok h p) (y_h:Tidy h):cal (d+11) (.fn 16) [(AV.agg [p.quantitiesV,p.measuresV,p.alarmsV])] h= .ret (AV.int .i64 (w_Check p)) h:=by
 have s_h_p_1:=h_p.1.small
 have s_h_p_2_1:=h_p.2.1.small
 have s_h_p_2_2:=h_p.2.2.small
 rcases Bool.eq_false_or_eq_true (!decide ((w_checkListQuantity p.quantities 16 (fun j=>w_checkQuantity (List.take j p.quantities) (List.g p.quantities j)))=0)) with f0 | f0
 · have n_f0:=nT_ f0
   obtain ⟨h1,n_h1,y_h1,z_h1,g_h1,b_h1⟩:=nwB y_h (AObj.cells [p.quantitiesV,p.measuresV,p.alarmsV] 26 false)
   have a_h1:Has h h1:=b_h1
   have k2:=w_checkListQuantity_c (d:=d+9) p.quantities 16 (fun j=>w_checkQuantity (List.take j p.quantities) (List.g p.quantities j)) (h_p.1.has a_h1) (fun j hj aV hh yy aa fa=>w_checkQuantity_c (d:=d) (List.take j p.quantities) (List.g p.quantities j) fa (RowT.mono aa ((h_p.1.has a_h1).ok hj)) yy) y_h1
   have ev:=pk (d+10) w_Check_body ((AV.agg [p.quantitiesV,p.measuresV,p.alarmsV])::und 20) h .ret h1 (NN n_h1 (fun i=>(AV.ptr i 0))<|CN 2<|MM (lown 22 0 p.quantitiesV g_h1 k!)<|EE k2<|CN 2<|VV (ineq 29 false true .i64 (w_checkListQuantity p.quantities 16 (fun j=>w_checkQuantity (List.take j p.quantities) (List.g p.quantities j))) 0)<|BB f0<|CN 2<|ZZ) k!
   have e:w_Check p=(w_checkListQuantity p.quantities 16 (fun j=>w_checkQuantity (List.take j p.quantities) (List.g p.quantities j))):=by simp only[w_Check,f0,cond_true,cond_false]
   rw[e]
   exact callP_pure rfl (fn_of Tryz.func16 w_Check_B k! (.inr rfl) ev k!) a_h1 rfl
 · have n_f0:=nF_ f0
   rcases Bool.eq_false_or_eq_true (!decide ((w_checkListMeasure p.measures 16 (fun j=>w_checkMeasure (List.take j p.measures) (List.g p.measures j)))=0)) with f1 | f1
   · have n_f1:=nT_ f1
     obtain ⟨h1,n_h1,y_h1,z_h1,g_h1,b_h1⟩:=nwB y_h (AObj.cells [p.quantitiesV,p.measuresV,p.alarmsV] 26 false)
     have a_h1:Has h h1:=b_h1
     have k2:=w_checkListQuantity_c (d:=d+9) p.quantities 16 (fun j=>w_checkQuantity (List.take j p.quantities) (List.g p.quantities j)) (h_p.1.has a_h1) (fun j hj aV hh yy aa fa=>w_checkQuantity_c (d:=d) (List.take j p.quantities) (List.g p.quantities j) fa (RowT.mono aa ((h_p.1.has a_h1).ok hj)) yy) y_h1
     have k4:=w_checkListMeasure_c (d:=d+9) p.measures 16 (fun j=>w_checkMeasure (List.take j p.measures) (List.g p.measures j)) (h_p.2.1.has a_h1) (fun j hj aV hh yy aa fa=>w_checkMeasure_c (d:=d+4) (List.take j p.measures) (List.g p.measures j) fa (RowT.mono aa ((h_p.2.1.has a_h1).ok hj)) yy) y_h1
     have ev:=pk (d+10) w_Check_body ((AV.agg [p.quantitiesV,p.measuresV,p.alarmsV])::und 20) h .ret h1 (NN n_h1 (fun i=>(AV.ptr i 0))<|CN 2<|MM (lown 22 0 p.quantitiesV g_h1 k!)<|EE k2<|CN 2<|VV (ineq 29 false true .i64 (w_checkListQuantity p.quantities 16 (fun j=>w_checkQuantity (List.take j p.quantities) (List.g p.quantities j))) 0)<|BB f0<|CC<|MM (lown 23 1 p.measuresV g_h1 k!)<|EE k4<|CN 2<|VV (ineq 29 false true .i64 (w_checkListMeasure p.measures 16 (fun j=>w_checkMeasure (List.take j p.measures) (List.g p.measures j))) 0)<|BB f1<|CN 2<|ZZ) k!
     have e:w_Check p=(w_checkListMeasure p.measures 16 (fun j=>w_checkMeasure (List.take j p.measures) (List.g p.measures j))):=by simp only[w_Check,f0,f1,cond_true,cond_false]
     rw[e]
     exact callP_pure rfl (fn_of Tryz.func16 w_Check_B k! (.inr rfl) ev k!) a_h1 rfl
   · have n_f1:=nF_ f1
     obtain ⟨h1,n_h1,y_h1,z_h1,g_h1,b_h1⟩:=nwB y_h (AObj.cells [p.quantitiesV,p.measuresV,p.alarmsV] 26 false)
     have a_h1:Has h h1:=b_h1
     have k2:=w_checkListQuantity_c (d:=d+9) p.quantities 16 (fun j=>w_checkQuantity (List.take j p.quantities) (List.g p.quantities j)) (h_p.1.has a_h1) (fun j hj aV hh yy aa fa=>w_checkQuantity_c (d:=d) (List.take j p.quantities) (List.g p.quantities j) fa (RowT.mono aa ((h_p.1.has a_h1).ok hj)) yy) y_h1
     have k4:=w_checkListMeasure_c (d:=d+9) p.measures 16 (fun j=>w_checkMeasure (List.take j p.measures) (List.g p.measures j)) (h_p.2.1.has a_h1) (fun j hj aV hh yy aa fa=>w_checkMeasure_c (d:=d+4) (List.take j p.measures) (List.g p.measures j) fa (RowT.mono aa ((h_p.2.1.has a_h1).ok hj)) yy) y_h1
     have k6:=w_checkListAlarm_c (d:=d+9) p.alarms 16 (fun j=>w_Check1 (List.take j p.alarms) (List.g p.alarms j) p) (h_p.2.2.has a_h1) (fun j hj aV hh yy aa fa=>w_Check1_c (d:=d+4) (List.take j p.alarms) (List.g p.alarms j) p h.nx fa (RowT.mono aa ((h_p.2.2.has a_h1).ok hj)) (RowT.mono aa (RowT.mono a_h1 h_p)) (aa _ _ g_h1) yy) y_h1
     have ev:=pk (d+10) w_Check_body ((AV.agg [p.quantitiesV,p.measuresV,p.alarmsV])::und 20) h .ret h1 (NN n_h1 (fun i=>(AV.ptr i 0))<|CN 2<|MM (lown 22 0 p.quantitiesV g_h1 k!)<|EE k2<|CN 2<|VV (ineq 29 false true .i64 (w_checkListQuantity p.quantities 16 (fun j=>w_checkQuantity (List.take j p.quantities) (List.g p.quantities j))) 0)<|BB f0<|CC<|MM (lown 23 1 p.measuresV g_h1 k!)<|EE k4<|CN 2<|VV (ineq 29 false true .i64 (w_checkListMeasure p.measures 16 (fun j=>w_checkMeasure (List.take j p.measures) (List.g p.measures j))) 0)<|BB f1<|CC<|MM (lown 24 2 p.alarmsV g_h1 k!)<|CC<|EE k6<|CC<|ZZ) k!
     have e:w_Check p=(w_checkListAlarm p.alarms 16 (fun j=>w_Check1 (List.take j p.alarms) (List.g p.alarms j) p)):=by simp only[w_Check,f0,f1,cond_true,cond_false]
     rw[e]
     exact callP_pure rfl (fn_of Tryz.func16 w_Check_B k! (.inr rfl) ev k!) a_h1 rfl
noncomputable def w_responseOf_body:Code:=(Tryz.f18.body).getD .skip
theorem w_responseOf_B:Tryz.f18.body=some w_responseOf_body:=by kernel_rfl
noncomputable def w_responseOf_lp0:Code:=(loopsIn w_responseOf_body).getD 0 .skip
def w_responseOf_l0 (p:Plan) (measure:Int):Nat→Nat→Int→Int→Int×Int
 | 0,_,v0_6,v0_7=>(v0_6,v0_7)
 | kq0+1,i0,v0_6,v0_7=>(bif (!decide (((p.measures.g i0).crew)=((p.measures.g (Int.toNat measure)).crew))) then w_responseOf_l0 p measure kq0 (i0+1) v0_6 v0_7 else (bif (decide (((p.measures.g i0).rank)<((p.measures.g (Int.toNat measure)).rank))) then w_responseOf_l0 p measure kq0 (i0+1) (IntKind.i64.wrap (v0_6+((p.measures.g i0).takes))) v0_7 else (bif (decide (((p.measures.g (Int.toNat measure)).rank)<((p.measures.g i0).rank))) then w_responseOf_l0 p measure kq0 (i0+1) v0_6 (if ((p.measures.g i0).takes) >v0_7 then ((p.measures.g i0).takes) else v0_7) else w_responseOf_l0 p measure kq0 (i0+1) v0_6 v0_7)))
theorem w_responseOf_l0_t {d:Nat} {h:Heap} (p:Plan) (measure:Int) (b0_0:Nat) (H0_0:RowsAt h p.measuresV p.measures) (H0_1:((p.measures.g (Int.toNat measure)).name).length<2^60) (H0_2:((p.measures.g (Int.toNat measure)).crew).length<2^60) (O0_0:RowT.ok h p) (O0_1:RowT.ok h (p.measures.g (Int.toNat measure))) (E0_0:0≤measure) (E0_1:measure<(p.measures.length:Int)):∀(k_ i_:Nat) (v0_6:Int) (v0_7:Int) (_:i_+k_=p.measures.length) (x:Nat→AV) (hh:Heap) (y_hh:Tidy hh) (a_hh:Has h hh) (G0_0:hh.get b0_0=some (AObj.cells [(AV.str ((p.measures.g (Int.toNat measure)).name)),(AV.str ((p.measures.g (Int.toNat measure)).crew)),(AV.int .i64 ((p.measures.g (Int.toNat measure)).rank)),(AV.int .i64 ((p.measures.g (Int.toNat measure)).lag)),(AV.int .i64 ((p.measures.g (Int.toNat measure)).takes))] 43 false)),ValLoop (cal (d)) w_responseOf_lp0 ⟨(rx x 0 5 ((AV.ptr b0_0 0)::(AV.int .i64 v0_6)::(AV.int .i64 v0_7)::rx x 8 8 (p.measuresV::(AV.int .i64 ((p.measures.length:Nat):Int))::(AV.int .i64 ((i_:Nat):Int))::rx x 19 39 []))),hh,[],.no⟩ (.exit 0) hh (fun r y=>(rx y 0 5 ((AV.ptr b0_0 0)::(AV.int .i64 r.1)::(AV.int .i64 r.2)::rx y 8 8 (p.measuresV::(AV.int .i64 ((p.measures.length:Nat):Int))::rx y 18 40 [])))) (w_responseOf_l0 p measure k_ i_ v0_6 v0_7)
 | 0,i0,v0_6,v0_7,hik,x,hh,y_hh,a_hh,G0_0=>by
   have s_H0_0:=H0_0.small
   have T0_0:=y_hh _ _ G0_0
   have q1:(decide (((i0:Nat):Int)<((p.measures.length:Nat):Int)))=false:=d!
   have ev:=pk (d) w_responseOf_lp0 (rx x 0 5 ((AV.ptr b0_0 0)::(AV.int .i64 v0_6)::(AV.int .i64 v0_7)::rx x 8 8 (p.measuresV::(AV.int .i64 ((p.measures.length:Nat):Int))::(AV.int .i64 ((i0:Nat):Int))::rx x 19 39 []))) hh (.exit 0) hh (VV (ilss 3 false false .i64 ((i0:Nat):Int) ((p.measures.length:Nat):Int))<|BB q1<|ZZ) k!
   exact ValLoop.out (v0_6,v0_7) rfl ev (Grow.refl y_hh) k!
 | kq0+1,i0,v0_6,v0_7,hik,x,hh,y_hh,a_hh,G0_0=>by
   have s_H0_0:=H0_0.small
   have T0_0:=y_hh _ _ G0_0
   rcases Bool.eq_false_or_eq_true (!decide (((p.measures.g i0).crew)=((p.measures.g (Int.toNat measure)).crew))) with f1 | f1
   · have n_f1:=nT_ f1
     have q1:(decide (((i0:Nat):Int)<((p.measures.length:Nat):Int)))=true:=d!
     obtain ⟨p3,q4,ix2_⟩:=(H0_0.has a_hh).elem (i:=i0) o!
     have ix2:idxK env (some (.slice 43)) (some p.measuresV) (some (AV.int .i64 ((i0:Nat):Int)))=some (AV.ptr p3 q4):=ix2_
     have ld5:loadA env hh 43 (AV.ptr p3 q4)=some (AV.agg [(AV.str ((p.measures.g i0).name)),(AV.str ((p.measures.g i0).crew)),(AV.int .i64 ((p.measures.g i0).rank)),(AV.int .i64 ((p.measures.g i0).lag)),(AV.int .i64 ((p.measures.g i0).takes))]):=(H0_0.has a_hh).load o! ix2_
     obtain ⟨h6,n_h6,y_h6,z_h6,g_h6,b_h6⟩:=nwB y_hh (AObj.cells [(AV.str []),(AV.str []),(AV.int .i64 0),(AV.int .i64 0),(AV.int .i64 0)] 43 false)
     have a_h6:Has hh h6:=b_h6
     obtain ⟨h7,s_h7,y_h7,z_h7,g_h7,kk_h7⟩:=stwB (t:=43) (n:=5) (i:=hh.nx) (L:=[(AV.str ((p.measures.g i0).name)),(AV.str ((p.measures.g i0).crew)),(AV.int .i64 ((p.measures.g i0).rank)),(AV.int .i64 ((p.measures.g i0).lag)),(AV.int .i64 ((p.measures.g i0).takes))]) y_h6 g_h6 k! rfl rfl (by simp only[AV.cells,List.all_cons,List.all_nil,Bool.and_true,Bool.and_self,sc_int,sc_bool,sc_str,sc_ptr,sc_slice,sc_ns,sc_np,sc_nm,sc_nf,sc_ni,sc_map])
     have a_h7:Has hh h7:=Has.of_kept a_h6 kk_h7 y_hh o!
     have u9:=nadd 3 false true i0 1 o!
     have ev:=pk (d) w_responseOf_lp0 (rx x 0 5 ((AV.ptr b0_0 0)::(AV.int .i64 v0_6)::(AV.int .i64 v0_7)::rx x 8 8 (p.measuresV::(AV.int .i64 ((p.measures.length:Nat):Int))::(AV.int .i64 ((i0:Nat):Int))::rx x 19 39 []))) hh .normal h7 (VV (ilss 3 false false .i64 ((i0:Nat):Int) ((p.measures.length:Nat):Int))<|BB q1<|VV ix2<|MM ld5<|NN n_h6 (fun i=>(AV.ptr i 0))<|SS s_h7<|CC<|MM (lown 9 1 (AV.str ((p.measures.g i0).crew)) g_h7 k!)<|CC<|MM (lown 9 1 (AV.str ((p.measures.g (Int.toNat measure)).crew)) (kk_h7 _ _ o! (b_h6 _ _ G0_0)) k!)<|VV (sneq 9 false false ((p.measures.g i0).crew) ((p.measures.g (Int.toNat measure)).crew))<|CC<|BB f1<|VV u9<|CC<|ZZ) k!
     exact ValLoop.round (by simp only[w_responseOf_l0,f1,cond_true,cond_false]) ev (⟨y_h7,a_h7,by omega⟩) (fun x=>(rx x 0 5 ((AV.ptr b0_0 0)::(AV.int .i64 v0_6)::(AV.int .i64 v0_7)::rx x 8 8 (p.measuresV::(AV.int .i64 ((p.measures.length:Nat):Int))::(AV.int .i64 (((i0+1):Nat):Int))::rx x 19 39 [])))) k! (fun x=>w_responseOf_l0_t p measure b0_0 H0_0 H0_1 H0_2 O0_0 O0_1 E0_0 E0_1 kq0 (i0+1) v0_6 v0_7 o! x h7 y_h7 (a_hh.trans a_h7) (kk_h7 _ _ o! (b_h6 _ _ G0_0)))
   · have n_f1:=nF_ f1
     rcases Bool.eq_false_or_eq_true (decide (((p.measures.g i0).rank)<((p.measures.g (Int.toNat measure)).rank))) with f2 | f2
     · have n_f2:=of_decide_eq_true f2
       have q1:(decide (((i0:Nat):Int)<((p.measures.length:Nat):Int)))=true:=d!
       obtain ⟨p3,q4,ix2_⟩:=(H0_0.has a_hh).elem (i:=i0) o!
       have ix2:idxK env (some (.slice 43)) (some p.measuresV) (some (AV.int .i64 ((i0:Nat):Int)))=some (AV.ptr p3 q4):=ix2_
       have ld5:loadA env hh 43 (AV.ptr p3 q4)=some (AV.agg [(AV.str ((p.measures.g i0).name)),(AV.str ((p.measures.g i0).crew)),(AV.int .i64 ((p.measures.g i0).rank)),(AV.int .i64 ((p.measures.g i0).lag)),(AV.int .i64 ((p.measures.g i0).takes))]):=(H0_0.has a_hh).load o! ix2_
       obtain ⟨h6,n_h6,y_h6,z_h6,g_h6,b_h6⟩:=nwB y_hh (AObj.cells [(AV.str []),(AV.str []),(AV.int .i64 0),(AV.int .i64 0),(AV.int .i64 0)] 43 false)
       have a_h6:Has hh h6:=b_h6
       obtain ⟨h7,s_h7,y_h7,z_h7,g_h7,kk_h7⟩:=stwB (t:=43) (n:=5) (i:=hh.nx) (L:=[(AV.str ((p.measures.g i0).name)),(AV.str ((p.measures.g i0).crew)),(AV.int .i64 ((p.measures.g i0).rank)),(AV.int .i64 ((p.measures.g i0).lag)),(AV.int .i64 ((p.measures.g i0).takes))]) y_h6 g_h6 k! rfl rfl (by simp only[AV.cells,List.all_cons,List.all_nil,Bool.and_true,Bool.and_self,sc_int,sc_bool,sc_str,sc_ptr,sc_slice,sc_ns,sc_np,sc_nm,sc_nf,sc_ni,sc_map])
       have a_h7:Has hh h7:=Has.of_kept a_h6 kk_h7 y_hh o!
       have u10:=nadd 3 false true i0 1 o!
       have ev:=pk (d) w_responseOf_lp0 (rx x 0 5 ((AV.ptr b0_0 0)::(AV.int .i64 v0_6)::(AV.int .i64 v0_7)::rx x 8 8 (p.measuresV::(AV.int .i64 ((p.measures.length:Nat):Int))::(AV.int .i64 ((i0:Nat):Int))::rx x 19 39 []))) hh .normal h7 (VV (ilss 3 false false .i64 ((i0:Nat):Int) ((p.measures.length:Nat):Int))<|BB q1<|VV ix2<|MM ld5<|NN n_h6 (fun i=>(AV.ptr i 0))<|SS s_h7<|CC<|MM (lown 9 1 (AV.str ((p.measures.g i0).crew)) g_h7 k!)<|CC<|MM (lown 9 1 (AV.str ((p.measures.g (Int.toNat measure)).crew)) (kk_h7 _ _ o! (b_h6 _ _ G0_0)) k!)<|VV (sneq 9 false false ((p.measures.g i0).crew) ((p.measures.g (Int.toNat measure)).crew))<|CC<|BB f1<|CC<|MM (lown 3 2 (AV.int .i64 ((p.measures.g i0).rank)) g_h7 k!)<|CC<|MM (lown 3 2 (AV.int .i64 ((p.measures.g (Int.toNat measure)).rank)) (kk_h7 _ _ o! (b_h6 _ _ G0_0)) k!)<|VV (ilss 3 false false .i64 ((p.measures.g i0).rank) ((p.measures.g (Int.toNat measure)).rank))<|CC<|BB f2<|CN 2<|MM (lown 3 4 (AV.int .i64 ((p.measures.g i0).takes)) g_h7 k!)<|CN 2<|VV u10<|CC<|ZZ) k!
       exact ValLoop.round (by simp only[w_responseOf_l0,f1,f2,cond_true,cond_false]) ev (⟨y_h7,a_h7,by omega⟩) (fun x=>(rx x 0 5 ((AV.ptr b0_0 0)::(AV.int .i64 (IntKind.i64.wrap (v0_6+((p.measures.g i0).takes))))::(AV.int .i64 v0_7)::rx x 8 8 (p.measuresV::(AV.int .i64 ((p.measures.length:Nat):Int))::(AV.int .i64 (((i0+1):Nat):Int))::rx x 19 39 [])))) k! (fun x=>w_responseOf_l0_t p measure b0_0 H0_0 H0_1 H0_2 O0_0 O0_1 E0_0 E0_1 kq0 (i0+1) (IntKind.i64.wrap (v0_6+((p.measures.g i0).takes))) v0_7 o! x h7 y_h7 (a_hh.trans a_h7) (kk_h7 _ _ o! (b_h6 _ _ G0_0)))
     · have n_f2:=of_decide_eq_false f2
       rcases Bool.eq_false_or_eq_true (decide (((p.measures.g (Int.toNat measure)).rank)<((p.measures.g i0).rank))) with f3 | f3
       · have n_f3:=of_decide_eq_true f3
         have q1:(decide (((i0:Nat):Int)<((p.measures.length:Nat):Int)))=true:=d!
         obtain ⟨p3,q4,ix2_⟩:=(H0_0.has a_hh).elem (i:=i0) o!
         have ix2:idxK env (some (.slice 43)) (some p.measuresV) (some (AV.int .i64 ((i0:Nat):Int)))=some (AV.ptr p3 q4):=ix2_
         have ld5:loadA env hh 43 (AV.ptr p3 q4)=some (AV.agg [(AV.str ((p.measures.g i0).name)),(AV.str ((p.measures.g i0).crew)),(AV.int .i64 ((p.measures.g i0).rank)),(AV.int .i64 ((p.measures.g i0).lag)),(AV.int .i64 ((p.measures.g i0).takes))]):=(H0_0.has a_hh).load o! ix2_
         obtain ⟨h6,n_h6,y_h6,z_h6,g_h6,b_h6⟩:=nwB y_hh (AObj.cells [(AV.str []),(AV.str []),(AV.int .i64 0),(AV.int .i64 0),(AV.int .i64 0)] 43 false)
         have a_h6:Has hh h6:=b_h6
         obtain ⟨h7,s_h7,y_h7,z_h7,g_h7,kk_h7⟩:=stwB (t:=43) (n:=5) (i:=hh.nx) (L:=[(AV.str ((p.measures.g i0).name)),(AV.str ((p.measures.g i0).crew)),(AV.int .i64 ((p.measures.g i0).rank)),(AV.int .i64 ((p.measures.g i0).lag)),(AV.int .i64 ((p.measures.g i0).takes))]) y_h6 g_h6 k! rfl rfl (by simp only[AV.cells,List.all_cons,List.all_nil,Bool.and_true,Bool.and_self,sc_int,sc_bool,sc_str,sc_ptr,sc_slice,sc_ns,sc_np,sc_nm,sc_nf,sc_ni,sc_map])
         have a_h7:Has hh h7:=Has.of_kept a_h6 kk_h7 y_hh o!
         have u11:=nadd 3 false true i0 1 o!
         have ev:=pk (d) w_responseOf_lp0 (rx x 0 5 ((AV.ptr b0_0 0)::(AV.int .i64 v0_6)::(AV.int .i64 v0_7)::rx x 8 8 (p.measuresV::(AV.int .i64 ((p.measures.length:Nat):Int))::(AV.int .i64 ((i0:Nat):Int))::rx x 19 39 []))) hh .normal h7 (VV (ilss 3 false false .i64 ((i0:Nat):Int) ((p.measures.length:Nat):Int))<|BB q1<|VV ix2<|MM ld5<|NN n_h6 (fun i=>(AV.ptr i 0))<|SS s_h7<|CC<|MM (lown 9 1 (AV.str ((p.measures.g i0).crew)) g_h7 k!)<|CC<|MM (lown 9 1 (AV.str ((p.measures.g (Int.toNat measure)).crew)) (kk_h7 _ _ o! (b_h6 _ _ G0_0)) k!)<|VV (sneq 9 false false ((p.measures.g i0).crew) ((p.measures.g (Int.toNat measure)).crew))<|CC<|BB f1<|CC<|MM (lown 3 2 (AV.int .i64 ((p.measures.g i0).rank)) g_h7 k!)<|CC<|MM (lown 3 2 (AV.int .i64 ((p.measures.g (Int.toNat measure)).rank)) (kk_h7 _ _ o! (b_h6 _ _ G0_0)) k!)<|VV (ilss 3 false false .i64 ((p.measures.g i0).rank) ((p.measures.g (Int.toNat measure)).rank))<|CC<|BB f2<|CC<|MM (lown 3 2 (AV.int .i64 ((p.measures.g i0).rank)) g_h7 k!)<|CC<|MM (lown 3 2 (AV.int .i64 ((p.measures.g (Int.toNat measure)).rank)) (kk_h7 _ _ o! (b_h6 _ _ G0_0)) k!)<|VV (igtr 3 false false .i64 ((p.measures.g i0).rank) ((p.measures.g (Int.toNat measure)).rank))<|CC<|BB f3<|CN 2<|MM (lown 3 4 (AV.int .i64 ((p.measures.g i0).takes)) g_h7 k!)<|CN 2<|VV u11<|CC<|ZZ) k!
         exact ValLoop.round (by simp only[w_responseOf_l0,f1,f2,f3,cond_true,cond_false]) ev (⟨y_h7,a_h7,by omega⟩) (fun x=>(rx x 0 5 ((AV.ptr b0_0 0)::(AV.int .i64 v0_6)::(AV.int .i64 (if ((p.measures.g i0).takes) >v0_7 then ((p.measures.g i0).takes) else v0_7))::rx x 8 8 (p.measuresV::(AV.int .i64 ((p.measures.length:Nat):Int))::(AV.int .i64 (((i0+1):Nat):Int))::rx x 19 39 [])))) k! (fun x=>w_responseOf_l0_t p measure b0_0 H0_0 H0_1 H0_2 O0_0 O0_1 E0_0 E0_1 kq0 (i0+1) v0_6 (if ((p.measures.g i0).takes) >v0_7 then ((p.measures.g i0).takes) else v0_7) o! x h7 y_h7 (a_hh.trans a_h7) (kk_h7 _ _ o! (b_h6 _ _ G0_0)))
       · have n_f3:=of_decide_eq_false f3
         have q1:(decide (((i0:Nat):Int)<((p.measures.length:Nat):Int)))=true:=d!
         obtain ⟨p3,q4,ix2_⟩:=(H0_0.has a_hh).elem (i:=i0) o!
         have ix2:idxK env (some (.slice 43)) (some p.measuresV) (some (AV.int .i64 ((i0:Nat):Int)))=some (AV.ptr p3 q4):=ix2_
         have ld5:loadA env hh 43 (AV.ptr p3 q4)=some (AV.agg [(AV.str ((p.measures.g i0).name)),(AV.str ((p.measures.g i0).crew)),(AV.int .i64 ((p.measures.g i0).rank)),(AV.int .i64 ((p.measures.g i0).lag)),(AV.int .i64 ((p.measures.g i0).takes))]):=(H0_0.has a_hh).load o! ix2_
         obtain ⟨h6,n_h6,y_h6,z_h6,g_h6,b_h6⟩:=nwB y_hh (AObj.cells [(AV.str []),(AV.str []),(AV.int .i64 0),(AV.int .i64 0),(AV.int .i64 0)] 43 false)
         have a_h6:Has hh h6:=b_h6
         obtain ⟨h7,s_h7,y_h7,z_h7,g_h7,kk_h7⟩:=stwB (t:=43) (n:=5) (i:=hh.nx) (L:=[(AV.str ((p.measures.g i0).name)),(AV.str ((p.measures.g i0).crew)),(AV.int .i64 ((p.measures.g i0).rank)),(AV.int .i64 ((p.measures.g i0).lag)),(AV.int .i64 ((p.measures.g i0).takes))]) y_h6 g_h6 k! rfl rfl (by simp only[AV.cells,List.all_cons,List.all_nil,Bool.and_true,Bool.and_self,sc_int,sc_bool,sc_str,sc_ptr,sc_slice,sc_ns,sc_np,sc_nm,sc_nf,sc_ni,sc_map])
         have a_h7:Has hh h7:=Has.of_kept a_h6 kk_h7 y_hh o!
         have u11:=nadd 3 false true i0 1 o!
         have ev:=pk (d) w_responseOf_lp0 (rx x 0 5 ((AV.ptr b0_0 0)::(AV.int .i64 v0_6)::(AV.int .i64 v0_7)::rx x 8 8 (p.measuresV::(AV.int .i64 ((p.measures.length:Nat):Int))::(AV.int .i64 ((i0:Nat):Int))::rx x 19 39 []))) hh .normal h7 (VV (ilss 3 false false .i64 ((i0:Nat):Int) ((p.measures.length:Nat):Int))<|BB q1<|VV ix2<|MM ld5<|NN n_h6 (fun i=>(AV.ptr i 0))<|SS s_h7<|CC<|MM (lown 9 1 (AV.str ((p.measures.g i0).crew)) g_h7 k!)<|CC<|MM (lown 9 1 (AV.str ((p.measures.g (Int.toNat measure)).crew)) (kk_h7 _ _ o! (b_h6 _ _ G0_0)) k!)<|VV (sneq 9 false false ((p.measures.g i0).crew) ((p.measures.g (Int.toNat measure)).crew))<|CC<|BB f1<|CC<|MM (lown 3 2 (AV.int .i64 ((p.measures.g i0).rank)) g_h7 k!)<|CC<|MM (lown 3 2 (AV.int .i64 ((p.measures.g (Int.toNat measure)).rank)) (kk_h7 _ _ o! (b_h6 _ _ G0_0)) k!)<|VV (ilss 3 false false .i64 ((p.measures.g i0).rank) ((p.measures.g (Int.toNat measure)).rank))<|CC<|BB f2<|CC<|MM (lown 3 2 (AV.int .i64 ((p.measures.g i0).rank)) g_h7 k!)<|CC<|MM (lown 3 2 (AV.int .i64 ((p.measures.g (Int.toNat measure)).rank)) (kk_h7 _ _ o! (b_h6 _ _ G0_0)) k!)<|VV (igtr 3 false false .i64 ((p.measures.g i0).rank) ((p.measures.g (Int.toNat measure)).rank))<|CC<|BB f3<|VV u11<|CC<|ZZ) k!
         exact ValLoop.round (by simp only[w_responseOf_l0,f1,f2,f3,cond_true,cond_false]) ev (⟨y_h7,a_h7,by omega⟩) (fun x=>(rx x 0 5 ((AV.ptr b0_0 0)::(AV.int .i64 v0_6)::(AV.int .i64 v0_7)::rx x 8 8 (p.measuresV::(AV.int .i64 ((p.measures.length:Nat):Int))::(AV.int .i64 (((i0+1):Nat):Int))::rx x 19 39 [])))) k! (fun x=>w_responseOf_l0_t p measure b0_0 H0_0 H0_1 H0_2 O0_0 O0_1 E0_0 E0_1 kq0 (i0+1) v0_6 v0_7 o! x h7 y_h7 (a_hh.trans a_h7) (kk_h7 _ _ o! (b_h6 _ _ G0_0)))
def w_responseOf (p:Plan) (measure:Int):Int:=(IntKind.i64.wrap ((IntKind.i64.wrap ((IntKind.i64.wrap (((p.measures.g (Int.toNat measure)).lag)+((w_responseOf_l0 p measure p.measures.length 0 0 0).2)))+((w_responseOf_l0 p measure p.measures.length 0 0 0).1)))+((p.measures.g (Int.toNat measure)).takes)))
theorem w_responseOf_c {d:Nat} {h:Heap} (p:Plan) (measure:Int) (h_p:RowT.ok h p) (pre0:0≤measure) (pre1:measure<(p.measures.length:Int)) (y_h:Tidy h):cal (d+1) (.fn 18) [(AV.agg [p.quantitiesV,p.measuresV,p.alarmsV]),(AV.int .i64 measure)] h= .ret (AV.int .i64 (w_responseOf p measure)) h:=by
 have s_h_p_1:=h_p.1.small
 have s_h_p_2_1:=h_p.2.1.small
 have s_h_p_2_2:=h_p.2.2.small
 obtain ⟨h1,n_h1,y_h1,z_h1,g_h1,b_h1⟩:=nwB y_h (AObj.cells [p.quantitiesV,p.measuresV,p.alarmsV] 26 false)
 have a_h1:Has h h1:=b_h1
 obtain ⟨p3,q4,ix2_⟩:=h_p.2.1.elem (i:=(Int.toNat measure)) o!
 have ix2:idxK env (some (.slice 43)) (some p.measuresV) (some (AV.int .i64 measure))=some (AV.ptr p3 q4):=by rw[show (measure:Int)=(((Int.toNat measure):Nat):Int) by omega];exact ix2_
 have ld5:loadA env h1 43 (AV.ptr p3 q4)=some (AV.agg [(AV.str ((p.measures.g (Int.toNat measure)).name)),(AV.str ((p.measures.g (Int.toNat measure)).crew)),(AV.int .i64 ((p.measures.g (Int.toNat measure)).rank)),(AV.int .i64 ((p.measures.g (Int.toNat measure)).lag)),(AV.int .i64 ((p.measures.g (Int.toNat measure)).takes))]):=(h_p.2.1.has a_h1).load o! ix2_
 obtain ⟨h6,n_h6,y_h6,z_h6,g_h6,b_h6⟩:=nwB y_h1 (AObj.cells [(AV.str []),(AV.str []),(AV.int .i64 0),(AV.int .i64 0),(AV.int .i64 0)] 43 false)
 have a_h6:Has h h6:=a_h1.trans b_h6
 obtain ⟨h7,s_h7,y_h7,z_h7,g_h7,kk_h7⟩:=stwB (t:=43) (n:=5) (i:=h1.nx) (L:=[(AV.str ((p.measures.g (Int.toNat measure)).name)),(AV.str ((p.measures.g (Int.toNat measure)).crew)),(AV.int .i64 ((p.measures.g (Int.toNat measure)).rank)),(AV.int .i64 ((p.measures.g (Int.toNat measure)).lag)),(AV.int .i64 ((p.measures.g (Int.toNat measure)).takes))]) y_h6 g_h6 k! rfl rfl (by simp only[AV.cells,List.all_cons,List.all_nil,Bool.and_true,Bool.and_self,sc_int,sc_bool,sc_str,sc_ptr,sc_slice,sc_ns,sc_np,sc_nm,sc_nf,sc_ni,sc_map])
 have a_h7:Has h h7:=Has.of_kept a_h6 kk_h7 y_h o!
 have ln8:lenK (some (.slice 43)) (some p.measuresV)=some (AV.int .i64 ((p.measures.length:Nat):Int)):=h_p.2.1.len
 obtain ⟨yl9,h10,ev_yl9,G_h10⟩:=w_responseOf_l0_t (d:=d) (h:=h) p measure h1.nx h_p.2.1 ((h_p.2.1.ok (i:=(Int.toNat measure)) o!).1) ((h_p.2.1.ok (i:=(Int.toNat measure)) o!).2) h_p (h_p.2.1.ok (i:=(Int.toNat measure)) o!) o! o! p.measures.length 0 0 0 o! (fun k_=>(((AV.agg [p.quantitiesV,p.measuresV,p.alarmsV])::(AV.int .i64 measure)::(AV.ptr h.nx 0)::AV.undef::(AV.int .i64 0)::(AV.ptr h1.nx 0)::(AV.int .i64 0)::(AV.int .i64 0)::AV.undef::AV.undef::(AV.ptr h.nx 1)::p.measuresV::(AV.int .i64 measure)::(AV.ptr p3 q4)::(AV.agg [(AV.str ((p.measures.g (Int.toNat measure)).name)),(AV.str ((p.measures.g (Int.toNat measure)).crew)),(AV.int .i64 ((p.measures.g (Int.toNat measure)).rank)),(AV.int .i64 ((p.measures.g (Int.toNat measure)).lag)),(AV.int .i64 ((p.measures.g (Int.toNat measure)).takes))])::(AV.ptr h.nx 1)::p.measuresV::(AV.int .i64 ((p.measures.length:Nat):Int))::(AV.int .i64 0)::und 39):List AV).getD k_ AV.undef) h7 y_h7 a_h7 g_h7
 have y_h10:=G_h10.y
 have m_h10:h7.nx≤h10.nx:=G_h10.n
 have a_h10:Has h h10:=a_h7.trans G_h10.a
 have ev:=pk (d) w_responseOf_body ((AV.agg [p.quantitiesV,p.measuresV,p.alarmsV])::(AV.int .i64 measure)::und 56) h .ret h10 (NN n_h1 (fun i=>(AV.ptr i 0))<|CN 2<|MM (lown 23 1 p.measuresV g_h1 k!)<|CC<|VV ix2<|MM ld5<|NN n_h6 (fun i=>(AV.ptr i 0))<|SS s_h7<|CN 3<|MM (lown 23 1 p.measuresV (kk_h7 _ _ o! (b_h6 _ _ g_h1)) k!)<|VV ln8<|CC<|LL ev_yl9<|CC<|MM (lown 3 3 (AV.int .i64 ((p.measures.g (Int.toNat measure)).lag)) (G_h10.a _ _ g_h7) k!)<|CN 5<|MM (lown 3 4 (AV.int .i64 ((p.measures.g (Int.toNat measure)).takes)) (G_h10.a _ _ g_h7) k!)<|CN 2<|ZZ) k!
 have e:w_responseOf p measure=(IntKind.i64.wrap ((IntKind.i64.wrap ((IntKind.i64.wrap (((p.measures.g (Int.toNat measure)).lag)+((w_responseOf_l0 p measure p.measures.length 0 0 0).2)))+((w_responseOf_l0 p measure p.measures.length 0 0 0).1)))+((p.measures.g (Int.toNat measure)).takes))):=by simp only[w_responseOf,cond_true,cond_false]
 rw[e]
 exact callP_pure rfl (fn_of Tryz.func18 w_responseOf_B k! (.inr rfl) ev k!) a_h10 rfl
noncomputable def w_Response_body:Code:=(Tryz.f6.body).getD .skip
theorem w_Response_B:Tryz.f6.body=some w_Response_body:=by kernel_rfl
def w_Response (p:Plan) (measure:Int):Int×Int:=(bif (!decide ((w_Check p)=0)) then (0,(w_Check p)) else (bif (!(w_isIn measure ((p.measures.length:Nat):Int))) then (0,7) else ((w_responseOf p measure),0)))
theorem w_Response_c {d:Nat} {h:Heap} (p:Plan) (measure:Int) (h_p:RowT.ok h p) (y_h:Tidy h):cal (d+12) (.fn 6) [(AV.agg [p.quantitiesV,p.measuresV,p.alarmsV]),(AV.int .i64 measure)] h= .ret (AV.tuple [(AV.int .i64 ((w_Response p measure).1)),(AV.int .i64 ((w_Response p measure).2))]) h:=by
 have s_h_p_1:=h_p.1.small
 have s_h_p_2_1:=h_p.2.1.small
 have s_h_p_2_2:=h_p.2.2.small
 rcases Bool.eq_false_or_eq_true (!decide ((w_Check p)=0)) with f0 | f0
 · have n_f0:=nT_ f0
   obtain ⟨h1,n_h1,y_h1,z_h1,g_h1,b_h1⟩:=nwB y_h (AObj.cells [p.quantitiesV,p.measuresV,p.alarmsV] 26 false)
   have a_h1:Has h h1:=b_h1
   have k2:=w_Check_c (d:=d) p (RowT.mono a_h1 h_p) y_h1
   have ev:=pk (d+11) w_Response_body ((AV.agg [p.quantitiesV,p.measuresV,p.alarmsV])::(AV.int .i64 measure)::und 19) h .ret h1 (NN n_h1 (fun i=>(AV.ptr i 0))<|CN 2<|MM (lown 26 0 (AV.agg [p.quantitiesV,p.measuresV,p.alarmsV]) g_h1 k!)<|EE k2<|CN 2<|VV (ineq 29 false true .i64 (w_Check p) 0)<|BB f0<|CN 3<|ZZ) k!
   have e:w_Response p measure=(0,(w_Check p)):=by simp only[w_Response,f0,cond_true,cond_false]
   rw[e]
   exact callP_pure rfl (fn_of Tryz.func6 w_Response_B k! (.inr rfl) ev k!) a_h1 rfl
 · have n_f0:=nF_ f0
   rcases Bool.eq_false_or_eq_true (!(w_isIn measure ((p.measures.length:Nat):Int))) with f1 | f1
   · obtain ⟨h1,n_h1,y_h1,z_h1,g_h1,b_h1⟩:=nwB y_h (AObj.cells [p.quantitiesV,p.measuresV,p.alarmsV] 26 false)
     have a_h1:Has h h1:=b_h1
     have k2:=w_Check_c (d:=d) p (RowT.mono a_h1 h_p) y_h1
     have ln4:lenK (some (.slice 43)) (some p.measuresV)=some (AV.int .i64 ((p.measures.length:Nat):Int)):=h_p.2.1.len
     have k5:=w_isIn_c (d:=d+10) measure ((p.measures.length:Nat):Int) y_h1
     have ev:=pk (d+11) w_Response_body ((AV.agg [p.quantitiesV,p.measuresV,p.alarmsV])::(AV.int .i64 measure)::und 19) h .ret h1 (NN n_h1 (fun i=>(AV.ptr i 0))<|CN 2<|MM (lown 26 0 (AV.agg [p.quantitiesV,p.measuresV,p.alarmsV]) g_h1 k!)<|EE k2<|CN 2<|VV (ineq 29 false true .i64 (w_Check p) 0)<|BB f0<|CN 2<|MM (lown 23 1 p.measuresV g_h1 k!)<|VV ln4<|EE k5<|CC<|BB f1<|CN 2<|ZZ) k!
     have e:w_Response p measure=(0,7):=by simp only[w_Response,f0,f1,cond_true,cond_false]
     rw[e]
     exact callP_pure rfl (fn_of Tryz.func6 w_Response_B k! (.inr rfl) ev k!) a_h1 rfl
   · have p_f1:(w_isIn measure ((p.measures.length:Nat):Int))=true:=d!
     have t_p_f1:=w_isIn_t p_f1
     obtain ⟨h1,n_h1,y_h1,z_h1,g_h1,b_h1⟩:=nwB y_h (AObj.cells [p.quantitiesV,p.measuresV,p.alarmsV] 26 false)
     have a_h1:Has h h1:=b_h1
     have k2:=w_Check_c (d:=d) p (RowT.mono a_h1 h_p) y_h1
     have ln4:lenK (some (.slice 43)) (some p.measuresV)=some (AV.int .i64 ((p.measures.length:Nat):Int)):=h_p.2.1.len
     have k5:=w_isIn_c (d:=d+10) measure ((p.measures.length:Nat):Int) y_h1
     have k7:=w_responseOf_c (d:=d+10) p measure (RowT.mono a_h1 h_p) o! o! y_h1
     have ev:=pk (d+11) w_Response_body ((AV.agg [p.quantitiesV,p.measuresV,p.alarmsV])::(AV.int .i64 measure)::und 19) h .ret h1 (NN n_h1 (fun i=>(AV.ptr i 0))<|CN 2<|MM (lown 26 0 (AV.agg [p.quantitiesV,p.measuresV,p.alarmsV]) g_h1 k!)<|EE k2<|CN 2<|VV (ineq 29 false true .i64 (w_Check p) 0)<|BB f0<|CN 2<|MM (lown 23 1 p.measuresV g_h1 k!)<|VV ln4<|EE k5<|CC<|BB f1<|MM (lown 26 0 (AV.agg [p.quantitiesV,p.measuresV,p.alarmsV]) g_h1 k!)<|CC<|EE k7<|CN 2<|ZZ) k!
     have e:w_Response p measure=((w_responseOf p measure),0):=by simp only[w_Response,f0,f1,cond_true,cond_false]
     rw[e]
     exact callP_pure rfl (fn_of Tryz.func6 w_Response_B k! (.inr rfl) ev k!) a_h1 rfl
noncomputable def r_Response_body:Code:=(Tryz.f7.body).getD .skip
theorem r_Response_B:Tryz.f7.body=some r_Response_body:=by kernel_rfl
def r_Response (p:Plan) (measure:Int):Int×Int:=(bif (decide ((r_Check p)=0)) then (bif (decide (measure<0)) then (0,7) else (bif (decide (((p.measures.length:Nat):Int)≤measure)) then (0,7) else ((r_response p measure),0))) else (0,(r_Check p)))
theorem r_Response_c {d:Nat} {h:Heap} (p:Plan) (measure:Int) (h_p:RowT.ok h p) (y_h:Tidy h):cal (d+5) (.fn 7) [(AV.agg [p.quantitiesV,p.measuresV,p.alarmsV]),(AV.int .i64 measure)] h= .ret (AV.tuple [(AV.int .i64 ((r_Response p measure).1)),(AV.int .i64 ((r_Response p measure).2))]) h:=by
 have s_h_p_1:=h_p.1.small
 have s_h_p_2_1:=h_p.2.1.small
 have s_h_p_2_2:=h_p.2.2.small
 rcases Bool.eq_false_or_eq_true (decide ((r_Check p)=0)) with f0 | f0
 · have n_f0:=of_decide_eq_true f0
   rcases Bool.eq_false_or_eq_true (decide (measure<0)) with f1 | f1
   · have n_f1:=of_decide_eq_true f1
     obtain ⟨h1,n_h1,y_h1,z_h1,g_h1,b_h1⟩:=nwB y_h (AObj.cells [p.quantitiesV,p.measuresV,p.alarmsV] 26 false)
     have a_h1:Has h h1:=b_h1
     have k2:=r_Check_c (d:=d) p (RowT.mono a_h1 h_p) y_h1
     have ev:=pk (d+4) r_Response_body ((AV.agg [p.quantitiesV,p.measuresV,p.alarmsV])::(AV.int .i64 measure)::und 26) h .ret h1 (NN n_h1 (fun i=>(AV.ptr i 0))<|CN 2<|MM (lown 26 0 (AV.agg [p.quantitiesV,p.measuresV,p.alarmsV]) g_h1 k!)<|EE k2<|CN 2<|VV (ieql 29 false true .i64 (r_Check p) 0)<|CC<|BB f0<|CC<|BB f0<|VV (ilss 3 false true .i64 measure 0)<|BB f0<|CC<|BB f1<|BB f1<|BB f1<|BB f1<|BB f1<|BB f0<|VV (pick_t (a:=some (AV.bool true)) (b:=some AV.undef) f1)<|VV (pick_t (a:=some (AV.bool true)) (b:=some (AV.bool false)) f0)<|TT<|CN 3<|TT<|CN 3<|ZZ) k!
     have e:r_Response p measure=(0,7):=by simp only[r_Response,f0,f1,cond_true,cond_false]
     rw[e]
     exact callP_pure rfl (fn_of Tryz.func7 r_Response_B k! (.inr rfl) ev k!) a_h1 rfl
   · have n_f1:=of_decide_eq_false f1
     rcases Bool.eq_false_or_eq_true (decide (((p.measures.length:Nat):Int)≤measure)) with f2 | f2
     · have n_f2:=of_decide_eq_true f2
       obtain ⟨h1,n_h1,y_h1,z_h1,g_h1,b_h1⟩:=nwB y_h (AObj.cells [p.quantitiesV,p.measuresV,p.alarmsV] 26 false)
       have a_h1:Has h h1:=b_h1
       have k2:=r_Check_c (d:=d) p (RowT.mono a_h1 h_p) y_h1
       have ln5:lenK (some (.slice 43)) (some p.measuresV)=some (AV.int .i64 ((p.measures.length:Nat):Int)):=h_p.2.1.len
       have ev:=pk (d+4) r_Response_body ((AV.agg [p.quantitiesV,p.measuresV,p.alarmsV])::(AV.int .i64 measure)::und 26) h .ret h1 (NN n_h1 (fun i=>(AV.ptr i 0))<|CN 2<|MM (lown 26 0 (AV.agg [p.quantitiesV,p.measuresV,p.alarmsV]) g_h1 k!)<|EE k2<|CN 2<|VV (ieql 29 false true .i64 (r_Check p) 0)<|CC<|BB f0<|CC<|BB f0<|VV (ilss 3 false true .i64 measure 0)<|BB f0<|CC<|BB f1<|CC<|BB f1<|CC<|BB f1<|MM (lown 23 1 p.measuresV g_h1 k!)<|BB f1<|VV ln5<|BB f1<|VV (igeq 3 false false .i64 measure ((p.measures.length:Nat):Int))<|BB f0<|VV (pick_f (a:=some (AV.bool true)) (b:=some (AV.bool (decide (((p.measures.length:Nat):Int)≤measure)))) f1)<|VV (pick_t (a:=some (AV.bool (decide (((p.measures.length:Nat):Int)≤measure)))) (b:=some (AV.bool false)) f0)<|BB f2<|CN 3<|TT<|CN 3<|ZZ) k!
       have e:r_Response p measure=(0,7):=by simp only[r_Response,f0,f1,f2,cond_true,cond_false]
       rw[e]
       exact callP_pure rfl (fn_of Tryz.func7 r_Response_B k! (.inr rfl) ev k!) a_h1 rfl
     · have n_f2:=of_decide_eq_false f2
       obtain ⟨h1,n_h1,y_h1,z_h1,g_h1,b_h1⟩:=nwB y_h (AObj.cells [p.quantitiesV,p.measuresV,p.alarmsV] 26 false)
       have a_h1:Has h h1:=b_h1
       have k2:=r_Check_c (d:=d) p (RowT.mono a_h1 h_p) y_h1
       have ln5:lenK (some (.slice 43)) (some p.measuresV)=some (AV.int .i64 ((p.measures.length:Nat):Int)):=h_p.2.1.len
       have q7:(!decide ((r_Check p)=0))=false:=d!
       have k8:=r_response_c (d:=d+3) p measure (RowT.mono a_h1 h_p) o! o! y_h1
       have ev:=pk (d+4) r_Response_body ((AV.agg [p.quantitiesV,p.measuresV,p.alarmsV])::(AV.int .i64 measure)::und 26) h .ret h1 (NN n_h1 (fun i=>(AV.ptr i 0))<|CN 2<|MM (lown 26 0 (AV.agg [p.quantitiesV,p.measuresV,p.alarmsV]) g_h1 k!)<|EE k2<|CN 2<|VV (ieql 29 false true .i64 (r_Check p) 0)<|CC<|BB f0<|CC<|BB f0<|VV (ilss 3 false true .i64 measure 0)<|BB f0<|CC<|BB f1<|CC<|BB f1<|CC<|BB f1<|MM (lown 23 1 p.measuresV g_h1 k!)<|BB f1<|VV ln5<|BB f1<|VV (igeq 3 false false .i64 measure ((p.measures.length:Nat):Int))<|BB f0<|VV (pick_f (a:=some (AV.bool true)) (b:=some (AV.bool (decide (((p.measures.length:Nat):Int)≤measure)))) f1)<|VV (pick_t (a:=some (AV.bool (decide (((p.measures.length:Nat):Int)≤measure)))) (b:=some (AV.bool false)) f0)<|BB f2<|CC<|VV (ineq 29 false true .i64 (r_Check p) 0)<|BB q7<|MM (lown 26 0 (AV.agg [p.quantitiesV,p.measuresV,p.alarmsV]) g_h1 k!)<|CC<|EE k8<|CN 2<|ZZ) k!
       have e:r_Response p measure=((r_response p measure),0):=by simp only[r_Response,f0,f1,f2,cond_true,cond_false]
       rw[e]
       exact callP_pure rfl (fn_of Tryz.func7 r_Response_B k! (.inr rfl) ev k!) a_h1 rfl
 · have n_f0:=of_decide_eq_false f0
   obtain ⟨h1,n_h1,y_h1,z_h1,g_h1,b_h1⟩:=nwB y_h (AObj.cells [p.quantitiesV,p.measuresV,p.alarmsV] 26 false)
   have a_h1:Has h h1:=b_h1
   have k2:=r_Check_c (d:=d) p (RowT.mono a_h1 h_p) y_h1
   have q4:(!decide ((r_Check p)=0))=true:=d!
   have ev:=pk (d+4) r_Response_body ((AV.agg [p.quantitiesV,p.measuresV,p.alarmsV])::(AV.int .i64 measure)::und 26) h .ret h1 (NN n_h1 (fun i=>(AV.ptr i 0))<|CN 2<|MM (lown 26 0 (AV.agg [p.quantitiesV,p.measuresV,p.alarmsV]) g_h1 k!)<|EE k2<|CN 2<|VV (ieql 29 false true .i64 (r_Check p) 0)<|CC<|BB f0<|BB f0<|BB f0<|BB f0<|VV (pick_f (a:=some AV.undef) (b:=some (AV.bool false)) f0)<|FF<|CC<|VV (ineq 29 false true .i64 (r_Check p) 0)<|BB q4<|CN 3<|ZZ) k!
   have e:r_Response p measure=(0,(r_Check p)):=by simp only[r_Response,f0,cond_true,cond_false]
   rw[e]
   exact callP_pure rfl (fn_of Tryz.func7 r_Response_B k! (.inr rfl) ev k!) a_h1 rfl
end Go.Proofs.Bench
