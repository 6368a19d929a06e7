import Derived.Test.YtjpijdaopopeeaaGreatW0
import Derived.Test.YtjpijdaopopeeaaGreatW1
namespace Go.Proofs.Bench
open Go.Proofs Ab
set_option maxRecDepth 100000
set_option maxHeartbeats 4000000
set_option linter.unusedVariables false
set_option linter.unusedSimpArgs false
noncomputable def r_checkAlarm_body:Code:=(Tryz.f38.body).getD .skip
theorem r_checkAlarm_B:Tryz.f38.body=some r_checkAlarm_body:=by kernel_rfl
noncomputable def r_checkAlarm_lp0:Code:=(loopsIn r_checkAlarm_body).getD 0 .skip
def r_checkAlarm_l0 (i:Int) (p:Plan):Nat→Nat→Option (Int)
 | 0,_=>none
 | kq0+1,i0=>(bif (decide (((p.alarms.g i0).measure)=((p.alarms.g (Int.toNat i)).measure))) then some 6 else r_checkAlarm_l0 i p kq0 (i0+1))
theorem r_checkAlarm_l0_t {d:Nat} {h:Heap} (i:Int) (p:Plan) (b0_0:Nat) (b0_1:Nat) (H0_0:RowsAt h p.quantitiesV p.quantities) (H0_1:RowsAt h p.measuresV p.measures) (H0_2:RowsAt h p.alarmsV p.alarms) (O0_0:RowT.ok h p) (O0_1:RowT.ok h (p.alarms.g (Int.toNat i))) (E0_0:0≤i) (E0_1:i<(p.alarms.length:Int)):∀(k_ i_:Nat) (_:i_+k_=(Int.toNat i)) (x:Nat→AV) (hh:Heap) (y_hh:Tidy hh) (a_hh:Has h hh) (G0_0:hh.get b0_0=some (AObj.cells [p.quantitiesV,p.measuresV,p.alarmsV] 26 false)) (G0_1:hh.get b0_1=some (AObj.cells [(AV.int .i64 ((p.alarms.g (Int.toNat i)).quantity)),(AV.int .i64 ((p.alarms.g (Int.toNat i)).level)),(AV.int .i64 ((p.alarms.g (Int.toNat i)).limit)),(AV.int .i64 ((p.alarms.g (Int.toNat i)).measure))] 59 false)),OptLoop (cal (d+1)) r_checkAlarm_lp0 ⟨((x 0)::(AV.int .i64 i)::(AV.ptr b0_0 0)::(x 3)::(x 4)::(AV.ptr b0_1 0)::(AV.int .i64 ((i_:Nat):Int))::rx x 7 53 []),hh,[],.no⟩ (.exit 0) hh (fun y=>((y 0)::(AV.int .i64 i)::(AV.ptr b0_0 0)::(y 3)::(y 4)::(AV.ptr b0_1 0)::rx y 6 54 [])) (fun r y=>((y 0)::(AV.int .i64 i)::(AV.ptr b0_0 0)::(y 3)::(AV.int .i64 r)::(AV.ptr b0_1 0)::rx y 6 54 [])) (r_checkAlarm_l0 i p k_ i_)
 | 0,i0,hik,x,hh,y_hh,a_hh,G0_0,G0_1=>by
   have s_H0_0:=H0_0.small
   have s_H0_1:=H0_1.small
   have s_H0_2:=H0_2.small
   have T0_0:=y_hh _ _ G0_0
   have T0_1:=y_hh _ _ G0_1
   have q1:(decide (((i0:Nat):Int)<i))=false:=d!
   have ev:=pk (d+1) r_checkAlarm_lp0 ((x 0)::(AV.int .i64 i)::(AV.ptr b0_0 0)::(x 3)::(x 4)::(AV.ptr b0_1 0)::(AV.int .i64 ((i0:Nat):Int))::rx x 7 53 []) hh (.exit 0) hh (CN 2<|VV (ilss 3 false false .i64 ((i0:Nat):Int) i)<|BB q1<|ZZ) k!
   exact OptLoop.out rfl ev (Grow.refl y_hh) k!
 | kq0+1,i0,hik,x,hh,y_hh,a_hh,G0_0,G0_1=>by
   have s_H0_0:=H0_0.small
   have s_H0_1:=H0_1.small
   have s_H0_2:=H0_2.small
   have T0_0:=y_hh _ _ G0_0
   have T0_1:=y_hh _ _ G0_1
   rcases Bool.eq_false_or_eq_true (decide (((p.alarms.g i0).measure)=((p.alarms.g (Int.toNat i)).measure))) with f1 | f1
   · have n_f1:=of_decide_eq_true f1
     have q1:(decide (((i0:Nat):Int)<i))=true:=d!
     obtain ⟨p3,q4,ix2_⟩:=(H0_2.has a_hh).elem (i:=i0) o!
     have ix2:idxK env (some (.slice 59)) (some p.alarmsV) (some (AV.int .i64 ((i0:Nat):Int)))=some (AV.ptr p3 q4):=ix2_
     have ld5:loadA env hh 3 (AV.ptr p3 (q4+3))=some (AV.int .i64 ((p.alarms.g i0).measure)):=(H0_2.has a_hh).part (t:=3) (j:=3) o! ix2_ k! rfl
     have c6:AV.same 20 p.alarmsV p.alarmsV=true:=(H0_2.has a_hh).same 19
     have ev:=pk (d+1) r_checkAlarm_lp0 ((x 0)::(AV.int .i64 i)::(AV.ptr b0_0 0)::(x 3)::(x 4)::(AV.ptr b0_1 0)::(AV.int .i64 ((i0:Nat):Int))::rx x 7 53 []) hh .ret hh (CN 2<|VV (ilss 3 false false .i64 ((i0:Nat):Int) i)<|BB q1<|CC<|MM (lown 24 2 p.alarmsV G0_0 k!)<|CC<|VV ix2<|CC<|MM ld5<|CC<|MM (lown 3 3 (AV.int .i64 ((p.alarms.g (Int.toNat i)).measure)) G0_1 k!)<|VV (ieql 3 false false .i64 ((p.alarms.g i0).measure) ((p.alarms.g (Int.toNat i)).measure))<|HH (lown 24 2 p.alarmsV G0_0 k!)<|HH c6<|HH ld5<|HH (show AV.same 20 (AV.int .i64 ((p.alarms.g i0).measure)) (AV.int .i64 ((p.alarms.g i0).measure))=true from same_int 19 _ _)<|HH (lown 3 3 (AV.int .i64 ((p.alarms.g (Int.toNat i)).measure)) G0_1 k!)<|HH (show AV.same 20 (AV.int .i64 ((p.alarms.g (Int.toNat i)).measure)) (AV.int .i64 ((p.alarms.g (Int.toNat i)).measure))=true from same_int 19 _ _)<|BB f1<|CC<|ZZ) k!
     exact OptLoop.ret 6 (by simp only[r_checkAlarm_l0,f1,cond_true,cond_false]) ev (Grow.refl y_hh) k!
   · have n_f1:=of_decide_eq_false f1
     have q1:(decide (((i0:Nat):Int)<i))=true:=d!
     obtain ⟨p3,q4,ix2_⟩:=(H0_2.has a_hh).elem (i:=i0) o!
     have ix2:idxK env (some (.slice 59)) (some p.alarmsV) (some (AV.int .i64 ((i0:Nat):Int)))=some (AV.ptr p3 q4):=ix2_
     have ld5:loadA env hh 3 (AV.ptr p3 (q4+3))=some (AV.int .i64 ((p.alarms.g i0).measure)):=(H0_2.has a_hh).part (t:=3) (j:=3) o! ix2_ k! rfl
     have c6:AV.same 20 p.alarmsV p.alarmsV=true:=(H0_2.has a_hh).same 19
     have u8:=nadd 3 false true i0 1 o!
     have ev:=pk (d+1) r_checkAlarm_lp0 ((x 0)::(AV.int .i64 i)::(AV.ptr b0_0 0)::(x 3)::(x 4)::(AV.ptr b0_1 0)::(AV.int .i64 ((i0:Nat):Int))::rx x 7 53 []) hh .normal hh (CN 2<|VV (ilss 3 false false .i64 ((i0:Nat):Int) i)<|BB q1<|CC<|MM (lown 24 2 p.alarmsV G0_0 k!)<|CC<|VV ix2<|CC<|MM ld5<|CC<|MM (lown 3 3 (AV.int .i64 ((p.alarms.g (Int.toNat i)).measure)) G0_1 k!)<|VV (ieql 3 false false .i64 ((p.alarms.g i0).measure) ((p.alarms.g (Int.toNat i)).measure))<|HH (lown 24 2 p.alarmsV G0_0 k!)<|HH c6<|HH ld5<|HH (show AV.same 20 (AV.int .i64 ((p.alarms.g i0).measure)) (AV.int .i64 ((p.alarms.g i0).measure))=true from same_int 19 _ _)<|HH (lown 3 3 (AV.int .i64 ((p.alarms.g (Int.toNat i)).measure)) G0_1 k!)<|HH (show AV.same 20 (AV.int .i64 ((p.alarms.g (Int.toNat i)).measure)) (AV.int .i64 ((p.alarms.g (Int.toNat i)).measure))=true from same_int 19 _ _)<|BB f1<|CC<|VV u8<|CC<|ZZ) k!
     exact OptLoop.round (by simp only[r_checkAlarm_l0,f1,cond_true,cond_false]) ev (Grow.refl y_hh) (fun x=>((x 0)::(AV.int .i64 i)::(AV.ptr b0_0 0)::(x 3)::(x 4)::(AV.ptr b0_1 0)::(AV.int .i64 (((i0+1):Nat):Int))::rx x 7 53 [])) k! (fun x=>r_checkAlarm_l0_t i p b0_0 b0_1 H0_0 H0_1 H0_2 O0_0 O0_1 E0_0 E0_1 kq0 (i0+1) o! x hh y_hh a_hh G0_0 G0_1)
def r_checkAlarm (p:Plan) (i:Int):Int:=(bif (decide (((p.alarms.g (Int.toNat i)).quantity)<0)) then 7 else (bif (decide (((p.quantities.length:Nat):Int)≤((p.alarms.g (Int.toNat i)).quantity))) then 7 else (bif (decide (((p.alarms.g (Int.toNat i)).measure)<0)) then 7 else (bif (decide (((p.measures.length:Nat):Int)≤((p.alarms.g (Int.toNat i)).measure))) then 7 else (bif (!(r_value ((p.alarms.g (Int.toNat i)).level))) then 1 else (bif (!(r_value ((p.alarms.g (Int.toNat i)).limit))) then 1 else (match (r_checkAlarm_l0 i p (Int.toNat i) 0) with | none=>0 | some rr18=>rr18)))))))
theorem r_checkAlarm_c {d:Nat} {h:Heap} (p:Plan) (i:Int) (h_p:RowT.ok h p) (pre0:0≤i) (pre1:i<(p.alarms.length:Int)) (y_h:Tidy h):cal (d+2) (.fn 38) [(AV.agg [p.quantitiesV,p.measuresV,p.alarmsV]),(AV.int .i64 i)] h= .ret (AV.int .i64 (r_checkAlarm p i)) h:=by
 have s_h_p_1:=h_p.1.small
 have s_h_p_2_1:=h_p.2.1.small
 have s_h_p_2_2:=h_p.2.2.small
 rcases Bool.eq_false_or_eq_true (decide (((p.alarms.g (Int.toNat i)).quantity)<0)) with f0 | f0
 · have n_f0:=of_decide_eq_true f0
   obtain ⟨h1,n_h1,y_h1,z_h1,g_h1,b_h1⟩:=nwB y_h (AObj.cells [p.quantitiesV,p.measuresV,p.alarmsV] 26 false)
   have a_h1:Has h h1:=b_h1
   obtain ⟨p3,q4,ix2_⟩:=h_p.2.2.elem (i:=(Int.toNat i)) o!
   have ix2:idxK env (some (.slice 59)) (some p.alarmsV) (some (AV.int .i64 i))=some (AV.ptr p3 q4):=by rw[show (i:Int)=(((Int.toNat i):Nat):Int) by omega];exact ix2_
   have ld5:loadA env h1 59 (AV.ptr p3 q4)=some (AV.agg [(AV.int .i64 ((p.alarms.g (Int.toNat i)).quantity)),(AV.int .i64 ((p.alarms.g (Int.toNat i)).level)),(AV.int .i64 ((p.alarms.g (Int.toNat i)).limit)),(AV.int .i64 ((p.alarms.g (Int.toNat i)).measure))]):=(h_p.2.2.has a_h1).load o! ix2_
   obtain ⟨h6,n_h6,y_h6,z_h6,g_h6,b_h6⟩:=nwB y_h1 (AObj.cells [(AV.int .i64 0),(AV.int .i64 0),(AV.int .i64 0),(AV.int .i64 0)] 59 false)
   have a_h6:Has h h6:=a_h1.trans b_h6
   obtain ⟨h7,s_h7,y_h7,z_h7,g_h7,kk_h7⟩:=stwB (t:=59) (n:=4) (i:=h1.nx) (L:=[(AV.int .i64 ((p.alarms.g (Int.toNat i)).quantity)),(AV.int .i64 ((p.alarms.g (Int.toNat i)).level)),(AV.int .i64 ((p.alarms.g (Int.toNat i)).limit)),(AV.int .i64 ((p.alarms.g (Int.toNat i)).measure))]) y_h6 g_h6 k! rfl rfl (by simp only[AV.cells,List.all_cons,List.all_nil,Bool.and_true,Bool.and_self,sc_int,sc_bool,sc_str,sc_ptr,sc_slice,sc_ns,sc_np,sc_nm,sc_nf,sc_ni,sc_map])
   have a_h7:Has h h7:=Has.of_kept a_h6 kk_h7 y_h o!
   have ev:=pk (d+1) r_checkAlarm_body ((AV.agg [p.quantitiesV,p.measuresV,p.alarmsV])::(AV.int .i64 i)::und 58) h .ret h7 (NN n_h1 (fun i=>(AV.ptr i 0))<|CN 2<|MM (lown 24 2 p.alarmsV g_h1 k!)<|CC<|VV ix2<|MM ld5<|NN n_h6 (fun i=>(AV.ptr i 0))<|SS s_h7<|CC<|MM (lown 3 0 (AV.int .i64 ((p.alarms.g (Int.toNat i)).quantity)) g_h7 k!)<|VV (ilss 3 false true .i64 ((p.alarms.g (Int.toNat i)).quantity) 0)<|CC<|BB f0<|BB f0<|BB f0<|BB f0<|BB f0<|BB f0<|VV (pick_t (a:=some (AV.bool true)) (b:=some AV.undef) f0)<|CC<|TT<|TT<|TT<|CN 2<|TT<|TT<|TT<|TT<|TT<|TT<|CC<|TT<|CC<|ZZ) k!
   have e:r_checkAlarm p i=7:=by simp only[r_checkAlarm,f0,cond_true,cond_false]
   rw[e]
   exact callP_pure rfl (fn_of Tryz.func38 r_checkAlarm_B k! (.inr rfl) ev k!) a_h7 rfl
 · have n_f0:=of_decide_eq_false f0
   rcases Bool.eq_false_or_eq_true (decide (((p.quantities.length:Nat):Int)≤((p.alarms.g (Int.toNat i)).quantity))) with f1 | f1
   · have n_f1:=of_decide_eq_true f1
     obtain ⟨h1,n_h1,y_h1,z_h1,g_h1,b_h1⟩:=nwB y_h (AObj.cells [p.quantitiesV,p.measuresV,p.alarmsV] 26 false)
     have a_h1:Has h h1:=b_h1
     obtain ⟨p3,q4,ix2_⟩:=h_p.2.2.elem (i:=(Int.toNat i)) o!
     have ix2:idxK env (some (.slice 59)) (some p.alarmsV) (some (AV.int .i64 i))=some (AV.ptr p3 q4):=by rw[show (i:Int)=(((Int.toNat i):Nat):Int) by omega];exact ix2_
     have ld5:loadA env h1 59 (AV.ptr p3 q4)=some (AV.agg [(AV.int .i64 ((p.alarms.g (Int.toNat i)).quantity)),(AV.int .i64 ((p.alarms.g (Int.toNat i)).level)),(AV.int .i64 ((p.alarms.g (Int.toNat i)).limit)),(AV.int .i64 ((p.alarms.g (Int.toNat i)).measure))]):=(h_p.2.2.has a_h1).load o! ix2_
     obtain ⟨h6,n_h6,y_h6,z_h6,g_h6,b_h6⟩:=nwB y_h1 (AObj.cells [(AV.int .i64 0),(AV.int .i64 0),(AV.int .i64 0),(AV.int .i64 0)] 59 false)
     have a_h6:Has h h6:=a_h1.trans b_h6
     obtain ⟨h7,s_h7,y_h7,z_h7,g_h7,kk_h7⟩:=stwB (t:=59) (n:=4) (i:=h1.nx) (L:=[(AV.int .i64 ((p.alarms.g (Int.toNat i)).quantity)),(AV.int .i64 ((p.alarms.g (Int.toNat i)).level)),(AV.int .i64 ((p.alarms.g (Int.toNat i)).limit)),(AV.int .i64 ((p.alarms.g (Int.toNat i)).measure))]) y_h6 g_h6 k! rfl rfl (by simp only[AV.cells,List.all_cons,List.all_nil,Bool.and_true,Bool.and_self,sc_int,sc_bool,sc_str,sc_ptr,sc_slice,sc_ns,sc_np,sc_nm,sc_nf,sc_ni,sc_map])
     have a_h7:Has h h7:=Has.of_kept a_h6 kk_h7 y_h o!
     have ln9:lenK (some (.slice 41)) (some p.quantitiesV)=some (AV.int .i64 ((p.quantities.length:Nat):Int)):=h_p.1.len
     have ev:=pk (d+1) r_checkAlarm_body ((AV.agg [p.quantitiesV,p.measuresV,p.alarmsV])::(AV.int .i64 i)::und 58) h .ret h7 (NN n_h1 (fun i=>(AV.ptr i 0))<|CN 2<|MM (lown 24 2 p.alarmsV g_h1 k!)<|CC<|VV ix2<|MM ld5<|NN n_h6 (fun i=>(AV.ptr i 0))<|SS s_h7<|CC<|MM (lown 3 0 (AV.int .i64 ((p.alarms.g (Int.toNat i)).quantity)) g_h7 k!)<|VV (ilss 3 false true .i64 ((p.alarms.g (Int.toNat i)).quantity) 0)<|CC<|BB f0<|CC<|BB f0<|MM (lown 3 0 (AV.int .i64 ((p.alarms.g (Int.toNat i)).quantity)) g_h7 k!)<|BB f0<|CC<|BB f0<|MM (lown 22 0 p.quantitiesV (kk_h7 _ _ o! (b_h6 _ _ g_h1)) k!)<|BB f0<|VV ln9<|BB f0<|VV (igeq 3 false false .i64 ((p.alarms.g (Int.toNat i)).quantity) ((p.quantities.length:Nat):Int))<|VV (pick_f (a:=some (AV.bool true)) (b:=some (AV.bool (decide (((p.quantities.length:Nat):Int)≤((p.alarms.g (Int.toNat i)).quantity))))) f0)<|CC<|BB f1<|BB f1<|BB f1<|VV (pick_t (a:=some (AV.bool true)) (b:=some AV.undef) f1)<|CC<|TT<|TT<|TT<|TT<|TT<|TT<|CC<|TT<|CC<|ZZ) k!
     have e:r_checkAlarm p i=7:=by simp only[r_checkAlarm,f0,f1,cond_true,cond_false]
     rw[e]
     exact callP_pure rfl (fn_of Tryz.func38 r_checkAlarm_B k! (.inr rfl) ev k!) a_h7 rfl
   · have n_f1:=of_decide_eq_false f1
     rcases Bool.eq_false_or_eq_true (decide (((p.alarms.g (Int.toNat i)).measure)<0)) with f2 | f2
     · have n_f2:=of_decide_eq_true f2
       obtain ⟨h1,n_h1,y_h1,z_h1,g_h1,b_h1⟩:=nwB y_h (AObj.cells [p.quantitiesV,p.measuresV,p.alarmsV] 26 false)
       have a_h1:Has h h1:=b_h1
       obtain ⟨p3,q4,ix2_⟩:=h_p.2.2.elem (i:=(Int.toNat i)) o!
       have ix2:idxK env (some (.slice 59)) (some p.alarmsV) (some (AV.int .i64 i))=some (AV.ptr p3 q4):=by rw[show (i:Int)=(((Int.toNat i):Nat):Int) by omega];exact ix2_
       have ld5:loadA env h1 59 (AV.ptr p3 q4)=some (AV.agg [(AV.int .i64 ((p.alarms.g (Int.toNat i)).quantity)),(AV.int .i64 ((p.alarms.g (Int.toNat i)).level)),(AV.int .i64 ((p.alarms.g (Int.toNat i)).limit)),(AV.int .i64 ((p.alarms.g (Int.toNat i)).measure))]):=(h_p.2.2.has a_h1).load o! ix2_
       obtain ⟨h6,n_h6,y_h6,z_h6,g_h6,b_h6⟩:=nwB y_h1 (AObj.cells [(AV.int .i64 0),(AV.int .i64 0),(AV.int .i64 0),(AV.int .i64 0)] 59 false)
       have a_h6:Has h h6:=a_h1.trans b_h6
       obtain ⟨h7,s_h7,y_h7,z_h7,g_h7,kk_h7⟩:=stwB (t:=59) (n:=4) (i:=h1.nx) (L:=[(AV.int .i64 ((p.alarms.g (Int.toNat i)).quantity)),(AV.int .i64 ((p.alarms.g (Int.toNat i)).level)),(AV.int .i64 ((p.alarms.g (Int.toNat i)).limit)),(AV.int .i64 ((p.alarms.g (Int.toNat i)).measure))]) y_h6 g_h6 k! rfl rfl (by simp only[AV.cells,List.all_cons,List.all_nil,Bool.and_true,Bool.and_self,sc_int,sc_bool,sc_str,sc_ptr,sc_slice,sc_ns,sc_np,sc_nm,sc_nf,sc_ni,sc_map])
       have a_h7:Has h h7:=Has.of_kept a_h6 kk_h7 y_h o!
       have ln9:lenK (some (.slice 41)) (some p.quantitiesV)=some (AV.int .i64 ((p.quantities.length:Nat):Int)):=h_p.1.len
       have ev:=pk (d+1) r_checkAlarm_body ((AV.agg [p.quantitiesV,p.measuresV,p.alarmsV])::(AV.int .i64 i)::und 58) h .ret h7 (NN n_h1 (fun i=>(AV.ptr i 0))<|CN 2<|MM (lown 24 2 p.alarmsV g_h1 k!)<|CC<|VV ix2<|MM ld5<|NN n_h6 (fun i=>(AV.ptr i 0))<|SS s_h7<|CC<|MM (lown 3 0 (AV.int .i64 ((p.alarms.g (Int.toNat i)).quantity)) g_h7 k!)<|VV (ilss 3 false true .i64 ((p.alarms.g (Int.toNat i)).quantity) 0)<|CC<|BB f0<|CC<|BB f0<|MM (lown 3 0 (AV.int .i64 ((p.alarms.g (Int.toNat i)).quantity)) g_h7 k!)<|BB f0<|CC<|BB f0<|MM (lown 22 0 p.quantitiesV (kk_h7 _ _ o! (b_h6 _ _ g_h1)) k!)<|BB f0<|VV ln9<|BB f0<|VV (igeq 3 false false .i64 ((p.alarms.g (Int.toNat i)).quantity) ((p.quantities.length:Nat):Int))<|VV (pick_f (a:=some (AV.bool true)) (b:=some (AV.bool (decide (((p.quantities.length:Nat):Int)≤((p.alarms.g (Int.toNat i)).quantity))))) f0)<|CC<|BB f1<|CC<|BB f1<|MM (lown 3 3 (AV.int .i64 ((p.alarms.g (Int.toNat i)).measure)) g_h7 k!)<|BB f1<|VV (ilss 3 false true .i64 ((p.alarms.g (Int.toNat i)).measure) 0)<|VV (pick_f (a:=some (AV.bool true)) (b:=some (AV.bool (decide (((p.alarms.g (Int.toNat i)).measure)<0)))) f1)<|CC<|BB f2<|BB f2<|BB f2<|BB f2<|BB f2<|BB f2<|VV (pick_t (a:=some (AV.bool true)) (b:=some AV.undef) f2)<|TT<|CC<|ZZ) k!
       have e:r_checkAlarm p i=7:=by simp only[r_checkAlarm,f0,f1,f2,cond_true,cond_false]
       rw[e]
       exact callP_pure rfl (fn_of Tryz.func38 r_checkAlarm_B k! (.inr rfl) ev k!) a_h7 rfl
     · have n_f2:=of_decide_eq_false f2
       rcases Bool.eq_false_or_eq_true (decide (((p.measures.length:Nat):Int)≤((p.alarms.g (Int.toNat i)).measure))) with f3 | f3
       · have n_f3:=of_decide_eq_true f3
         obtain ⟨h1,n_h1,y_h1,z_h1,g_h1,b_h1⟩:=nwB y_h (AObj.cells [p.quantitiesV,p.measuresV,p.alarmsV] 26 false)
         have a_h1:Has h h1:=b_h1
         obtain ⟨p3,q4,ix2_⟩:=h_p.2.2.elem (i:=(Int.toNat i)) o!
         have ix2:idxK env (some (.slice 59)) (some p.alarmsV) (some (AV.int .i64 i))=some (AV.ptr p3 q4):=by rw[show (i:Int)=(((Int.toNat i):Nat):Int) by omega];exact ix2_
         have ld5:loadA env h1 59 (AV.ptr p3 q4)=some (AV.agg [(AV.int .i64 ((p.alarms.g (Int.toNat i)).quantity)),(AV.int .i64 ((p.alarms.g (Int.toNat i)).level)),(AV.int .i64 ((p.alarms.g (Int.toNat i)).limit)),(AV.int .i64 ((p.alarms.g (Int.toNat i)).measure))]):=(h_p.2.2.has a_h1).load o! ix2_
         obtain ⟨h6,n_h6,y_h6,z_h6,g_h6,b_h6⟩:=nwB y_h1 (AObj.cells [(AV.int .i64 0),(AV.int .i64 0),(AV.int .i64 0),(AV.int .i64 0)] 59 false)
         have a_h6:Has h h6:=a_h1.trans b_h6
         obtain ⟨h7,s_h7,y_h7,z_h7,g_h7,kk_h7⟩:=stwB (t:=59) (n:=4) (i:=h1.nx) (L:=[(AV.int .i64 ((p.alarms.g (Int.toNat i)).quantity)),(AV.int .i64 ((p.alarms.g (Int.toNat i)).level)),(AV.int .i64 ((p.alarms.g (Int.toNat i)).limit)),(AV.int .i64 ((p.alarms.g (Int.toNat i)).measure))]) y_h6 g_h6 k! rfl rfl (by simp only[AV.cells,List.all_cons,List.all_nil,Bool.and_true,Bool.and_self,sc_int,sc_bool,sc_str,sc_ptr,sc_slice,sc_ns,sc_np,sc_nm,sc_nf,sc_ni,sc_map])
         have a_h7:Has h h7:=Has.of_kept a_h6 kk_h7 y_h o!
         have ln9:lenK (some (.slice 41)) (some p.quantitiesV)=some (AV.int .i64 ((p.quantities.length:Nat):Int)):=h_p.1.len
         have ln12:lenK (some (.slice 43)) (some p.measuresV)=some (AV.int .i64 ((p.measures.length:Nat):Int)):=h_p.2.1.len
         have ev:=pk (d+1) r_checkAlarm_body ((AV.agg [p.quantitiesV,p.measuresV,p.alarmsV])::(AV.int .i64 i)::und 58) h .ret h7 (NN n_h1 (fun i=>(AV.ptr i 0))<|CN 2<|MM (lown 24 2 p.alarmsV g_h1 k!)<|CC<|VV ix2<|MM ld5<|NN n_h6 (fun i=>(AV.ptr i 0))<|SS s_h7<|CC<|MM (lown 3 0 (AV.int .i64 ((p.alarms.g (Int.toNat i)).quantity)) g_h7 k!)<|VV (ilss 3 false true .i64 ((p.alarms.g (Int.toNat i)).quantity) 0)<|CC<|BB f0<|CC<|BB f0<|MM (lown 3 0 (AV.int .i64 ((p.alarms.g (Int.toNat i)).quantity)) g_h7 k!)<|BB f0<|CC<|BB f0<|MM (lown 22 0 p.quantitiesV (kk_h7 _ _ o! (b_h6 _ _ g_h1)) k!)<|BB f0<|VV ln9<|BB f0<|VV (igeq 3 false false .i64 ((p.alarms.g (Int.toNat i)).quantity) ((p.quantities.length:Nat):Int))<|VV (pick_f (a:=some (AV.bool true)) (b:=some (AV.bool (decide (((p.quantities.length:Nat):Int)≤((p.alarms.g (Int.toNat i)).quantity))))) f0)<|CC<|BB f1<|CC<|BB f1<|MM (lown 3 3 (AV.int .i64 ((p.alarms.g (Int.toNat i)).measure)) g_h7 k!)<|BB f1<|VV (ilss 3 false true .i64 ((p.alarms.g (Int.toNat i)).measure) 0)<|VV (pick_f (a:=some (AV.bool true)) (b:=some (AV.bool (decide (((p.alarms.g (Int.toNat i)).measure)<0)))) f1)<|CC<|BB f2<|CC<|BB f2<|MM (lown 3 3 (AV.int .i64 ((p.alarms.g (Int.toNat i)).measure)) g_h7 k!)<|BB f2<|CC<|BB f2<|MM (lown 23 1 p.measuresV (kk_h7 _ _ o! (b_h6 _ _ g_h1)) k!)<|BB f2<|VV ln12<|BB f2<|VV (igeq 3 false false .i64 ((p.alarms.g (Int.toNat i)).measure) ((p.measures.length:Nat):Int))<|VV (pick_f (a:=some (AV.bool true)) (b:=some (AV.bool (decide (((p.measures.length:Nat):Int)≤((p.alarms.g (Int.toNat i)).measure))))) f2)<|BB f3<|CC<|ZZ) k!
         have e:r_checkAlarm p i=7:=by simp only[r_checkAlarm,f0,f1,f2,f3,cond_true,cond_false]
         rw[e]
         exact callP_pure rfl (fn_of Tryz.func38 r_checkAlarm_B k! (.inr rfl) ev k!) a_h7 rfl
       · have n_f3:=of_decide_eq_false f3
         rcases Bool.eq_false_or_eq_true (!(r_value ((p.alarms.g (Int.toNat i)).level))) with f4 | f4
         · obtain ⟨h1,n_h1,y_h1,z_h1,g_h1,b_h1⟩:=nwB y_h (AObj.cells [p.quantitiesV,p.measuresV,p.alarmsV] 26 false)
           have a_h1:Has h h1:=b_h1
           obtain ⟨p3,q4,ix2_⟩:=h_p.2.2.elem (i:=(Int.toNat i)) o!
           have ix2:idxK env (some (.slice 59)) (some p.alarmsV) (some (AV.int .i64 i))=some (AV.ptr p3 q4):=by rw[show (i:Int)=(((Int.toNat i):Nat):Int) by omega];exact ix2_
           have ld5:loadA env h1 59 (AV.ptr p3 q4)=some (AV.agg [(AV.int .i64 ((p.alarms.g (Int.toNat i)).quantity)),(AV.int .i64 ((p.alarms.g (Int.toNat i)).level)),(AV.int .i64 ((p.alarms.g (Int.toNat i)).limit)),(AV.int .i64 ((p.alarms.g (Int.toNat i)).measure))]):=(h_p.2.2.has a_h1).load o! ix2_
           obtain ⟨h6,n_h6,y_h6,z_h6,g_h6,b_h6⟩:=nwB y_h1 (AObj.cells [(AV.int .i64 0),(AV.int .i64 0),(AV.int .i64 0),(AV.int .i64 0)] 59 false)
           have a_h6:Has h h6:=a_h1.trans b_h6
           obtain ⟨h7,s_h7,y_h7,z_h7,g_h7,kk_h7⟩:=stwB (t:=59) (n:=4) (i:=h1.nx) (L:=[(AV.int .i64 ((p.alarms.g (Int.toNat i)).quantity)),(AV.int .i64 ((p.alarms.g (Int.toNat i)).level)),(AV.int .i64 ((p.alarms.g (Int.toNat i)).limit)),(AV.int .i64 ((p.alarms.g (Int.toNat i)).measure))]) y_h6 g_h6 k! rfl rfl (by simp only[AV.cells,List.all_cons,List.all_nil,Bool.and_true,Bool.and_self,sc_int,sc_bool,sc_str,sc_ptr,sc_slice,sc_ns,sc_np,sc_nm,sc_nf,sc_ni,sc_map])
           have a_h7:Has h h7:=Has.of_kept a_h6 kk_h7 y_h o!
           have ln9:lenK (some (.slice 41)) (some p.quantitiesV)=some (AV.int .i64 ((p.quantities.length:Nat):Int)):=h_p.1.len
           have ln12:lenK (some (.slice 43)) (some p.measuresV)=some (AV.int .i64 ((p.measures.length:Nat):Int)):=h_p.2.1.len
           have k14:=r_value_c (d:=d) ((p.alarms.g (Int.toNat i)).level) y_h7
           have ev:=pk (d+1) r_checkAlarm_body ((AV.agg [p.quantitiesV,p.measuresV,p.alarmsV])::(AV.int .i64 i)::und 58) h .ret h7 (NN n_h1 (fun i=>(AV.ptr i 0))<|CN 2<|MM (lown 24 2 p.alarmsV g_h1 k!)<|CC<|VV ix2<|MM ld5<|NN n_h6 (fun i=>(AV.ptr i 0))<|SS s_h7<|CC<|MM (lown 3 0 (AV.int .i64 ((p.alarms.g (Int.toNat i)).quantity)) g_h7 k!)<|VV (ilss 3 false true .i64 ((p.alarms.g (Int.toNat i)).quantity) 0)<|CC<|BB f0<|CC<|BB f0<|MM (lown 3 0 (AV.int .i64 ((p.alarms.g (Int.toNat i)).quantity)) g_h7 k!)<|BB f0<|CC<|BB f0<|MM (lown 22 0 p.quantitiesV (kk_h7 _ _ o! (b_h6 _ _ g_h1)) k!)<|BB f0<|VV ln9<|BB f0<|VV (igeq 3 false false .i64 ((p.alarms.g (Int.toNat i)).quantity) ((p.quantities.length:Nat):Int))<|VV (pick_f (a:=some (AV.bool true)) (b:=some (AV.bool (decide (((p.quantities.length:Nat):Int)≤((p.alarms.g (Int.toNat i)).quantity))))) f0)<|CC<|BB f1<|CC<|BB f1<|MM (lown 3 3 (AV.int .i64 ((p.alarms.g (Int.toNat i)).measure)) g_h7 k!)<|BB f1<|VV (ilss 3 false true .i64 ((p.alarms.g (Int.toNat i)).measure) 0)<|VV (pick_f (a:=some (AV.bool true)) (b:=some (AV.bool (decide (((p.alarms.g (Int.toNat i)).measure)<0)))) f1)<|CC<|BB f2<|CC<|BB f2<|MM (lown 3 3 (AV.int .i64 ((p.alarms.g (Int.toNat i)).measure)) g_h7 k!)<|BB f2<|CC<|BB f2<|MM (lown 23 1 p.measuresV (kk_h7 _ _ o! (b_h6 _ _ g_h1)) k!)<|BB f2<|VV ln12<|BB f2<|VV (igeq 3 false false .i64 ((p.alarms.g (Int.toNat i)).measure) ((p.measures.length:Nat):Int))<|VV (pick_f (a:=some (AV.bool true)) (b:=some (AV.bool (decide (((p.measures.length:Nat):Int)≤((p.alarms.g (Int.toNat i)).measure))))) f2)<|BB f3<|CC<|MM (lown 3 1 (AV.int .i64 ((p.alarms.g (Int.toNat i)).level)) g_h7 k!)<|EE k14<|CN 2<|BB f4<|BB f4<|BB f4<|BB f4<|VV (pick_t (a:=some (AV.bool true)) (b:=some AV.undef) f4)<|TT<|CC<|ZZ) k!
           have e:r_checkAlarm p i=1:=by simp only[r_checkAlarm,f0,f1,f2,f3,f4,cond_true,cond_false]
           rw[e]
           exact callP_pure rfl (fn_of Tryz.func38 r_checkAlarm_B k! (.inr rfl) ev k!) a_h7 rfl
         · rcases Bool.eq_false_or_eq_true (!(r_value ((p.alarms.g (Int.toNat i)).limit))) with f5 | f5
           · obtain ⟨h1,n_h1,y_h1,z_h1,g_h1,b_h1⟩:=nwB y_h (AObj.cells [p.quantitiesV,p.measuresV,p.alarmsV] 26 false)
             have a_h1:Has h h1:=b_h1
             obtain ⟨p3,q4,ix2_⟩:=h_p.2.2.elem (i:=(Int.toNat i)) o!
             have ix2:idxK env (some (.slice 59)) (some p.alarmsV) (some (AV.int .i64 i))=some (AV.ptr p3 q4):=by rw[show (i:Int)=(((Int.toNat i):Nat):Int) by omega];exact ix2_
             have ld5:loadA env h1 59 (AV.ptr p3 q4)=some (AV.agg [(AV.int .i64 ((p.alarms.g (Int.toNat i)).quantity)),(AV.int .i64 ((p.alarms.g (Int.toNat i)).level)),(AV.int .i64 ((p.alarms.g (Int.toNat i)).limit)),(AV.int .i64 ((p.alarms.g (Int.toNat i)).measure))]):=(h_p.2.2.has a_h1).load o! ix2_
             obtain ⟨h6,n_h6,y_h6,z_h6,g_h6,b_h6⟩:=nwB y_h1 (AObj.cells [(AV.int .i64 0),(AV.int .i64 0),(AV.int .i64 0),(AV.int .i64 0)] 59 false)
             have a_h6:Has h h6:=a_h1.trans b_h6
             obtain ⟨h7,s_h7,y_h7,z_h7,g_h7,kk_h7⟩:=stwB (t:=59) (n:=4) (i:=h1.nx) (L:=[(AV.int .i64 ((p.alarms.g (Int.toNat i)).quantity)),(AV.int .i64 ((p.alarms.g (Int.toNat i)).level)),(AV.int .i64 ((p.alarms.g (Int.toNat i)).limit)),(AV.int .i64 ((p.alarms.g (Int.toNat i)).measure))]) y_h6 g_h6 k! rfl rfl (by simp only[AV.cells,List.all_cons,List.all_nil,Bool.and_true,Bool.and_self,sc_int,sc_bool,sc_str,sc_ptr,sc_slice,sc_ns,sc_np,sc_nm,sc_nf,sc_ni,sc_map])
             have a_h7:Has h h7:=Has.of_kept a_h6 kk_h7 y_h o!
             have ln9:lenK (some (.slice 41)) (some p.quantitiesV)=some (AV.int .i64 ((p.quantities.length:Nat):Int)):=h_p.1.len
             have ln12:lenK (some (.slice 43)) (some p.measuresV)=some (AV.int .i64 ((p.measures.length:Nat):Int)):=h_p.2.1.len
             have k14:=r_value_c (d:=d) ((p.alarms.g (Int.toNat i)).level) y_h7
             have k16:=r_value_c (d:=d) ((p.alarms.g (Int.toNat i)).limit) y_h7
             have ev:=pk (d+1) r_checkAlarm_body ((AV.agg [p.quantitiesV,p.measuresV,p.alarmsV])::(AV.int .i64 i)::und 58) h .ret h7 (NN n_h1 (fun i=>(AV.ptr i 0))<|CN 2<|MM (lown 24 2 p.alarmsV g_h1 k!)<|CC<|VV ix2<|MM ld5<|NN n_h6 (fun i=>(AV.ptr i 0))<|SS s_h7<|CC<|MM (lown 3 0 (AV.int .i64 ((p.alarms.g (Int.toNat i)).quantity)) g_h7 k!)<|VV (ilss 3 false true .i64 ((p.alarms.g (Int.toNat i)).quantity) 0)<|CC<|BB f0<|CC<|BB f0<|MM (lown 3 0 (AV.int .i64 ((p.alarms.g (Int.toNat i)).quantity)) g_h7 k!)<|BB f0<|CC<|BB f0<|MM (lown 22 0 p.quantitiesV (kk_h7 _ _ o! (b_h6 _ _ g_h1)) k!)<|BB f0<|VV ln9<|BB f0<|VV (igeq 3 false false .i64 ((p.alarms.g (Int.toNat i)).quantity) ((p.quantities.length:Nat):Int))<|VV (pick_f (a:=some (AV.bool true)) (b:=some (AV.bool (decide (((p.quantities.length:Nat):Int)≤((p.alarms.g (Int.toNat i)).quantity))))) f0)<|CC<|BB f1<|CC<|BB f1<|MM (lown 3 3 (AV.int .i64 ((p.alarms.g (Int.toNat i)).measure)) g_h7 k!)<|BB f1<|VV (ilss 3 false true .i64 ((p.alarms.g (Int.toNat i)).measure) 0)<|VV (pick_f (a:=some (AV.bool true)) (b:=some (AV.bool (decide (((p.alarms.g (Int.toNat i)).measure)<0)))) f1)<|CC<|BB f2<|CC<|BB f2<|MM (lown 3 3 (AV.int .i64 ((p.alarms.g (Int.toNat i)).measure)) g_h7 k!)<|BB f2<|CC<|BB f2<|MM (lown 23 1 p.measuresV (kk_h7 _ _ o! (b_h6 _ _ g_h1)) k!)<|BB f2<|VV ln12<|BB f2<|VV (igeq 3 false false .i64 ((p.alarms.g (Int.toNat i)).measure) ((p.measures.length:Nat):Int))<|VV (pick_f (a:=some (AV.bool true)) (b:=some (AV.bool (decide (((p.measures.length:Nat):Int)≤((p.alarms.g (Int.toNat i)).measure))))) f2)<|BB f3<|CC<|MM (lown 3 1 (AV.int .i64 ((p.alarms.g (Int.toNat i)).level)) g_h7 k!)<|EE k14<|CN 2<|BB f4<|CC<|BB f4<|MM (lown 3 2 (AV.int .i64 ((p.alarms.g (Int.toNat i)).limit)) g_h7 k!)<|BB f4<|EE k16<|BB f4<|CC<|VV (pick_f (a:=some (AV.bool true)) (b:=some (AV.bool (!(r_value ((p.alarms.g (Int.toNat i)).limit))))) f4)<|BB f5<|CC<|ZZ) k!
             have e:r_checkAlarm p i=1:=by simp only[r_checkAlarm,f0,f1,f2,f3,f4,f5,cond_true,cond_false]
             rw[e]
             exact callP_pure rfl (fn_of Tryz.func38 r_checkAlarm_B k! (.inr rfl) ev k!) a_h7 rfl
           · cases hl_yl18:r_checkAlarm_l0 i p (Int.toNat i) 0 with
             | none=>
               obtain ⟨h1,n_h1,y_h1,z_h1,g_h1,b_h1⟩:=nwB y_h (AObj.cells [p.quantitiesV,p.measuresV,p.alarmsV] 26 false)
               have a_h1:Has h h1:=b_h1
               obtain ⟨p3,q4,ix2_⟩:=h_p.2.2.elem (i:=(Int.toNat i)) o!
               have ix2:idxK env (some (.slice 59)) (some p.alarmsV) (some (AV.int .i64 i))=some (AV.ptr p3 q4):=by rw[show (i:Int)=(((Int.toNat i):Nat):Int) by omega];exact ix2_
               have ld5:loadA env h1 59 (AV.ptr p3 q4)=some (AV.agg [(AV.int .i64 ((p.alarms.g (Int.toNat i)).quantity)),(AV.int .i64 ((p.alarms.g (Int.toNat i)).level)),(AV.int .i64 ((p.alarms.g (Int.toNat i)).limit)),(AV.int .i64 ((p.alarms.g (Int.toNat i)).measure))]):=(h_p.2.2.has a_h1).load o! ix2_
               obtain ⟨h6,n_h6,y_h6,z_h6,g_h6,b_h6⟩:=nwB y_h1 (AObj.cells [(AV.int .i64 0),(AV.int .i64 0),(AV.int .i64 0),(AV.int .i64 0)] 59 false)
               have a_h6:Has h h6:=a_h1.trans b_h6
               obtain ⟨h7,s_h7,y_h7,z_h7,g_h7,kk_h7⟩:=stwB (t:=59) (n:=4) (i:=h1.nx) (L:=[(AV.int .i64 ((p.alarms.g (Int.toNat i)).quantity)),(AV.int .i64 ((p.alarms.g (Int.toNat i)).level)),(AV.int .i64 ((p.alarms.g (Int.toNat i)).limit)),(AV.int .i64 ((p.alarms.g (Int.toNat i)).measure))]) y_h6 g_h6 k! rfl rfl (by simp only[AV.cells,List.all_cons,List.all_nil,Bool.and_true,Bool.and_self,sc_int,sc_bool,sc_str,sc_ptr,sc_slice,sc_ns,sc_np,sc_nm,sc_nf,sc_ni,sc_map])
               have a_h7:Has h h7:=Has.of_kept a_h6 kk_h7 y_h o!
               have ln9:lenK (some (.slice 41)) (some p.quantitiesV)=some (AV.int .i64 ((p.quantities.length:Nat):Int)):=h_p.1.len
               have ln12:lenK (some (.slice 43)) (some p.measuresV)=some (AV.int .i64 ((p.measures.length:Nat):Int)):=h_p.2.1.len
               have k14:=r_value_c (d:=d) ((p.alarms.g (Int.toNat i)).level) y_h7
               have k16:=r_value_c (d:=d) ((p.alarms.g (Int.toNat i)).limit) y_h7
               obtain ⟨yl18,h19,ev_yl18,G_h19⟩:=OptLoop.n hl_yl18 (r_checkAlarm_l0_t (d:=d) (h:=h) i p h.nx h1.nx h_p.1 h_p.2.1 h_p.2.2 h_p (h_p.2.2.ok (i:=(Int.toNat i)) o!) o! o! (Int.toNat i) 0 o! (fun k_=>(((AV.agg [p.quantitiesV,p.measuresV,p.alarmsV])::(AV.int .i64 i)::(AV.ptr h.nx 0)::AV.undef::(AV.int .i64 0)::(AV.ptr h1.nx 0)::(AV.int .i64 0)::(AV.ptr h.nx 2)::p.alarmsV::(AV.int .i64 i)::(AV.ptr p3 q4)::(AV.agg [(AV.int .i64 ((p.alarms.g (Int.toNat i)).quantity)),(AV.int .i64 ((p.alarms.g (Int.toNat i)).level)),(AV.int .i64 ((p.alarms.g (Int.toNat i)).limit)),(AV.int .i64 ((p.alarms.g (Int.toNat i)).measure))])::(AV.ptr h1.nx 0)::(AV.int .i64 ((p.alarms.g (Int.toNat i)).quantity))::(AV.bool (decide (((p.alarms.g (Int.toNat i)).quantity)<0)))::(AV.bool (decide (((p.alarms.g (Int.toNat i)).quantity)<0)))::(AV.ptr h1.nx 0)::(AV.int .i64 ((p.alarms.g (Int.toNat i)).quantity))::(AV.ptr h.nx 0)::p.quantitiesV::(AV.int .i64 ((p.quantities.length:Nat):Int))::(AV.bool (decide (((p.quantities.length:Nat):Int)≤((p.alarms.g (Int.toNat i)).quantity))))::(AV.bool (decide (((p.quantities.length:Nat):Int)≤((p.alarms.g (Int.toNat i)).quantity))))::(AV.bool (decide (((p.quantities.length:Nat):Int)≤((p.alarms.g (Int.toNat i)).quantity))))::(AV.ptr h1.nx 3)::(AV.int .i64 ((p.alarms.g (Int.toNat i)).measure))::(AV.bool (decide (((p.alarms.g (Int.toNat i)).measure)<0)))::(AV.bool (decide (((p.alarms.g (Int.toNat i)).measure)<0)))::(AV.bool (decide (((p.alarms.g (Int.toNat i)).measure)<0)))::(AV.ptr h1.nx 3)::(AV.int .i64 ((p.alarms.g (Int.toNat i)).measure))::(AV.ptr h.nx 1)::p.measuresV::(AV.int .i64 ((p.measures.length:Nat):Int))::(AV.bool (decide (((p.measures.length:Nat):Int)≤((p.alarms.g (Int.toNat i)).measure))))::(AV.bool (decide (((p.measures.length:Nat):Int)≤((p.alarms.g (Int.toNat i)).measure))))::(AV.ptr h1.nx 1)::(AV.int .i64 ((p.alarms.g (Int.toNat i)).level))::(AV.bool (r_value ((p.alarms.g (Int.toNat i)).level)))::(AV.bool (!(r_value ((p.alarms.g (Int.toNat i)).level))))::(AV.bool (!(r_value ((p.alarms.g (Int.toNat i)).level))))::(AV.ptr h1.nx 2)::(AV.int .i64 ((p.alarms.g (Int.toNat i)).limit))::(AV.bool (r_value ((p.alarms.g (Int.toNat i)).limit)))::(AV.bool (!(r_value ((p.alarms.g (Int.toNat i)).limit))))::(AV.bool (!(r_value ((p.alarms.g (Int.toNat i)).limit))))::und 14):List AV).getD k_ AV.undef) h7 y_h7 a_h7 (kk_h7 _ _ o! (b_h6 _ _ g_h1)) g_h7)
               have y_h19:=G_h19.y
               have m_h19:h7.nx≤h19.nx:=G_h19.n
               have a_h19:Has h h19:=a_h7.trans G_h19.a
               have ev:=pk (d+1) r_checkAlarm_body ((AV.agg [p.quantitiesV,p.measuresV,p.alarmsV])::(AV.int .i64 i)::und 58) h .ret h19 (NN n_h1 (fun i=>(AV.ptr i 0))<|CN 2<|MM (lown 24 2 p.alarmsV g_h1 k!)<|CC<|VV ix2<|MM ld5<|NN n_h6 (fun i=>(AV.ptr i 0))<|SS s_h7<|CC<|MM (lown 3 0 (AV.int .i64 ((p.alarms.g (Int.toNat i)).quantity)) g_h7 k!)<|VV (ilss 3 false true .i64 ((p.alarms.g (Int.toNat i)).quantity) 0)<|CC<|BB f0<|CC<|BB f0<|MM (lown 3 0 (AV.int .i64 ((p.alarms.g (Int.toNat i)).quantity)) g_h7 k!)<|BB f0<|CC<|BB f0<|MM (lown 22 0 p.quantitiesV (kk_h7 _ _ o! (b_h6 _ _ g_h1)) k!)<|BB f0<|VV ln9<|BB f0<|VV (igeq 3 false false .i64 ((p.alarms.g (Int.toNat i)).quantity) ((p.quantities.length:Nat):Int))<|VV (pick_f (a:=some (AV.bool true)) (b:=some (AV.bool (decide (((p.quantities.length:Nat):Int)≤((p.alarms.g (Int.toNat i)).quantity))))) f0)<|CC<|BB f1<|CC<|BB f1<|MM (lown 3 3 (AV.int .i64 ((p.alarms.g (Int.toNat i)).measure)) g_h7 k!)<|BB f1<|VV (ilss 3 false true .i64 ((p.alarms.g (Int.toNat i)).measure) 0)<|VV (pick_f (a:=some (AV.bool true)) (b:=some (AV.bool (decide (((p.alarms.g (Int.toNat i)).measure)<0)))) f1)<|CC<|BB f2<|CC<|BB f2<|MM (lown 3 3 (AV.int .i64 ((p.alarms.g (Int.toNat i)).measure)) g_h7 k!)<|BB f2<|CC<|BB f2<|MM (lown 23 1 p.measuresV (kk_h7 _ _ o! (b_h6 _ _ g_h1)) k!)<|BB f2<|VV ln12<|BB f2<|VV (igeq 3 false false .i64 ((p.alarms.g (Int.toNat i)).measure) ((p.measures.length:Nat):Int))<|VV (pick_f (a:=some (AV.bool true)) (b:=some (AV.bool (decide (((p.measures.length:Nat):Int)≤((p.alarms.g (Int.toNat i)).measure))))) f2)<|BB f3<|CC<|MM (lown 3 1 (AV.int .i64 ((p.alarms.g (Int.toNat i)).level)) g_h7 k!)<|EE k14<|CN 2<|BB f4<|CC<|BB f4<|MM (lown 3 2 (AV.int .i64 ((p.alarms.g (Int.toNat i)).limit)) g_h7 k!)<|BB f4<|EE k16<|BB f4<|CC<|VV (pick_f (a:=some (AV.bool true)) (b:=some (AV.bool (!(r_value ((p.alarms.g (Int.toNat i)).limit))))) f4)<|BB f5<|CC<|LL ev_yl18<|CC<|ZZ) k!
               have e:r_checkAlarm p i=0:=by simp only[r_checkAlarm,f0,f1,f2,f3,f4,f5,hl_yl18,cond_true,cond_false]
               rw[e]
               exact callP_pure rfl (fn_of Tryz.func38 r_checkAlarm_B k! (.inr rfl) ev k!) a_h19 rfl
             | some rr18=>
               obtain ⟨h1,n_h1,y_h1,z_h1,g_h1,b_h1⟩:=nwB y_h (AObj.cells [p.quantitiesV,p.measuresV,p.alarmsV] 26 false)
               have a_h1:Has h h1:=b_h1
               obtain ⟨p3,q4,ix2_⟩:=h_p.2.2.elem (i:=(Int.toNat i)) o!
               have ix2:idxK env (some (.slice 59)) (some p.alarmsV) (some (AV.int .i64 i))=some (AV.ptr p3 q4):=by rw[show (i:Int)=(((Int.toNat i):Nat):Int) by omega];exact ix2_
               have ld5:loadA env h1 59 (AV.ptr p3 q4)=some (AV.agg [(AV.int .i64 ((p.alarms.g (Int.toNat i)).quantity)),(AV.int .i64 ((p.alarms.g (Int.toNat i)).level)),(AV.int .i64 ((p.alarms.g (Int.toNat i)).limit)),(AV.int .i64 ((p.alarms.g (Int.toNat i)).measure))]):=(h_p.2.2.has a_h1).load o! ix2_
               obtain ⟨h6,n_h6,y_h6,z_h6,g_h6,b_h6⟩:=nwB y_h1 (AObj.cells [(AV.int .i64 0),(AV.int .i64 0),(AV.int .i64 0),(AV.int .i64 0)] 59 false)
               have a_h6:Has h h6:=a_h1.trans b_h6
               obtain ⟨h7,s_h7,y_h7,z_h7,g_h7,kk_h7⟩:=stwB (t:=59) (n:=4) (i:=h1.nx) (L:=[(AV.int .i64 ((p.alarms.g (Int.toNat i)).quantity)),(AV.int .i64 ((p.alarms.g (Int.toNat i)).level)),(AV.int .i64 ((p.alarms.g (Int.toNat i)).limit)),(AV.int .i64 ((p.alarms.g (Int.toNat i)).measure))]) y_h6 g_h6 k! rfl rfl (by simp only[AV.cells,List.all_cons,List.all_nil,Bool.and_true,Bool.and_self,sc_int,sc_bool,sc_str,sc_ptr,sc_slice,sc_ns,sc_np,sc_nm,sc_nf,sc_ni,sc_map])
               have a_h7:Has h h7:=Has.of_kept a_h6 kk_h7 y_h o!
               have ln9:lenK (some (.slice 41)) (some p.quantitiesV)=some (AV.int .i64 ((p.quantities.length:Nat):Int)):=h_p.1.len
               have ln12:lenK (some (.slice 43)) (some p.measuresV)=some (AV.int .i64 ((p.measures.length:Nat):Int)):=h_p.2.1.len
               have k14:=r_value_c (d:=d) ((p.alarms.g (Int.toNat i)).level) y_h7
               have k16:=r_value_c (d:=d) ((p.alarms.g (Int.toNat i)).limit) y_h7
               obtain ⟨yl18,h19,ev_yl18,G_h19⟩:=OptLoop.r hl_yl18 (r_checkAlarm_l0_t (d:=d) (h:=h) i p h.nx h1.nx h_p.1 h_p.2.1 h_p.2.2 h_p (h_p.2.2.ok (i:=(Int.toNat i)) o!) o! o! (Int.toNat i) 0 o! (fun k_=>(((AV.agg [p.quantitiesV,p.measuresV,p.alarmsV])::(AV.int .i64 i)::(AV.ptr h.nx 0)::AV.undef::(AV.int .i64 0)::(AV.ptr h1.nx 0)::(AV.int .i64 0)::(AV.ptr h.nx 2)::p.alarmsV::(AV.int .i64 i)::(AV.ptr p3 q4)::(AV.agg [(AV.int .i64 ((p.alarms.g (Int.toNat i)).quantity)),(AV.int .i64 ((p.alarms.g (Int.toNat i)).level)),(AV.int .i64 ((p.alarms.g (Int.toNat i)).limit)),(AV.int .i64 ((p.alarms.g (Int.toNat i)).measure))])::(AV.ptr h1.nx 0)::(AV.int .i64 ((p.alarms.g (Int.toNat i)).quantity))::(AV.bool (decide (((p.alarms.g (Int.toNat i)).quantity)<0)))::(AV.bool (decide (((p.alarms.g (Int.toNat i)).quantity)<0)))::(AV.ptr h1.nx 0)::(AV.int .i64 ((p.alarms.g (Int.toNat i)).quantity))::(AV.ptr h.nx 0)::p.quantitiesV::(AV.int .i64 ((p.quantities.length:Nat):Int))::(AV.bool (decide (((p.quantities.length:Nat):Int)≤((p.alarms.g (Int.toNat i)).quantity))))::(AV.bool (decide (((p.quantities.length:Nat):Int)≤((p.alarms.g (Int.toNat i)).quantity))))::(AV.bool (decide (((p.quantities.length:Nat):Int)≤((p.alarms.g (Int.toNat i)).quantity))))::(AV.ptr h1.nx 3)::(AV.int .i64 ((p.alarms.g (Int.toNat i)).measure))::(AV.bool (decide (((p.alarms.g (Int.toNat i)).measure)<0)))::(AV.bool (decide (((p.alarms.g (Int.toNat i)).measure)<0)))::(AV.bool (decide (((p.alarms.g (Int.toNat i)).measure)<0)))::(AV.ptr h1.nx 3)::(AV.int .i64 ((p.alarms.g (Int.toNat i)).measure))::(AV.ptr h.nx 1)::p.measuresV::(AV.int .i64 ((p.measures.length:Nat):Int))::(AV.bool (decide (((p.measures.length:Nat):Int)≤((p.alarms.g (Int.toNat i)).measure))))::(AV.bool (decide (((p.measures.length:Nat):Int)≤((p.alarms.g (Int.toNat i)).measure))))::(AV.ptr h1.nx 1)::(AV.int .i64 ((p.alarms.g (Int.toNat i)).level))::(AV.bool (r_value ((p.alarms.g (Int.toNat i)).level)))::(AV.bool (!(r_value ((p.alarms.g (Int.toNat i)).level))))::(AV.bool (!(r_value ((p.alarms.g (Int.toNat i)).level))))::(AV.ptr h1.nx 2)::(AV.int .i64 ((p.alarms.g (Int.toNat i)).limit))::(AV.bool (r_value ((p.alarms.g (Int.toNat i)).limit)))::(AV.bool (!(r_value ((p.alarms.g (Int.toNat i)).limit))))::(AV.bool (!(r_value ((p.alarms.g (Int.toNat i)).limit))))::und 14):List AV).getD k_ AV.undef) h7 y_h7 a_h7 (kk_h7 _ _ o! (b_h6 _ _ g_h1)) g_h7)
               have y_h19:=G_h19.y
               have m_h19:h7.nx≤h19.nx:=G_h19.n
               have a_h19:Has h h19:=a_h7.trans G_h19.a
               have ev:=pk (d+1) r_checkAlarm_body ((AV.agg [p.quantitiesV,p.measuresV,p.alarmsV])::(AV.int .i64 i)::und 58) h .ret h19 (NN n_h1 (fun i=>(AV.ptr i 0))<|CN 2<|MM (lown 24 2 p.alarmsV g_h1 k!)<|CC<|VV ix2<|MM ld5<|NN n_h6 (fun i=>(AV.ptr i 0))<|SS s_h7<|CC<|MM (lown 3 0 (AV.int .i64 ((p.alarms.g (Int.toNat i)).quantity)) g_h7 k!)<|VV (ilss 3 false true .i64 ((p.alarms.g (Int.toNat i)).quantity) 0)<|CC<|BB f0<|CC<|BB f0<|MM (lown 3 0 (AV.int .i64 ((p.alarms.g (Int.toNat i)).quantity)) g_h7 k!)<|BB f0<|CC<|BB f0<|MM (lown 22 0 p.quantitiesV (kk_h7 _ _ o! (b_h6 _ _ g_h1)) k!)<|BB f0<|VV ln9<|BB f0<|VV (igeq 3 false false .i64 ((p.alarms.g (Int.toNat i)).quantity) ((p.quantities.length:Nat):Int))<|VV (pick_f (a:=some (AV.bool true)) (b:=some (AV.bool (decide (((p.quantities.length:Nat):Int)≤((p.alarms.g (Int.toNat i)).quantity))))) f0)<|CC<|BB f1<|CC<|BB f1<|MM (lown 3 3 (AV.int .i64 ((p.alarms.g (Int.toNat i)).measure)) g_h7 k!)<|BB f1<|VV (ilss 3 false true .i64 ((p.alarms.g (Int.toNat i)).measure) 0)<|VV (pick_f (a:=some (AV.bool true)) (b:=some (AV.bool (decide (((p.alarms.g (Int.toNat i)).measure)<0)))) f1)<|CC<|BB f2<|CC<|BB f2<|MM (lown 3 3 (AV.int .i64 ((p.alarms.g (Int.toNat i)).measure)) g_h7 k!)<|BB f2<|CC<|BB f2<|MM (lown 23 1 p.measuresV (kk_h7 _ _ o! (b_h6 _ _ g_h1)) k!)<|BB f2<|VV ln12<|BB f2<|VV (igeq 3 false false .i64 ((p.alarms.g (Int.toNat i)).measure) ((p.measures.length:Nat):Int))<|VV (pick_f (a:=some (AV.bool true)) (b:=some (AV.bool (decide (((p.measures.length:Nat):Int)≤((p.alarms.g (Int.toNat i)).measure))))) f2)<|BB f3<|CC<|MM (lown 3 1 (AV.int .i64 ((p.alarms.g (Int.toNat i)).level)) g_h7 k!)<|EE k14<|CN 2<|BB f4<|CC<|BB f4<|MM (lown 3 2 (AV.int .i64 ((p.alarms.g (Int.toNat i)).limit)) g_h7 k!)<|BB f4<|EE k16<|BB f4<|CC<|VV (pick_f (a:=some (AV.bool true)) (b:=some (AV.bool (!(r_value ((p.alarms.g (Int.toNat i)).limit))))) f4)<|BB f5<|CC<|LL ev_yl18<|ZZ) k!
               have e:r_checkAlarm p i=rr18:=by simp only[r_checkAlarm,f0,f1,f2,f3,f4,f5,hl_yl18,cond_true,cond_false]
               rw[e]
               exact callP_pure rfl (fn_of Tryz.func38 r_checkAlarm_B k! (.inr rfl) ev k!) a_h19 rfl
end Go.Proofs.Bench
