import Derived.Test.YtjpijdaopopeeaaGreatW0
namespace Go.Proofs.Bench
open Go.Proofs Ab
set_option maxRecDepth 100000
set_option maxHeartbeats 4000000
set_option linter.unusedVariables false
set_option linter.unusedSimpArgs false
noncomputable def w_checkAlarm1_body:Code:=(Tryz.f61.body).getD .skip
theorem w_checkAlarm1_B:Tryz.f61.body=some w_checkAlarm1_body:=by kernel_rfl
def w_checkAlarm1 (o:Alarm) (c:Alarm):Bool:=(decide (o.measure=c.measure))
theorem w_checkAlarm1_c {d:Nat} {h:Heap} (o:Alarm) (c:Alarm) (cB:Nat) (h_o:RowT.ok h o) (h_c:RowT.ok h c) (g_c:h.get cB=some (.cells (RowT.c c) 59 false)) (y_h:Tidy h):cal (d+1) (.fn 61) [(AV.agg [(AV.int .i64 o.quantity),(AV.int .i64 o.level),(AV.int .i64 o.limit),(AV.int .i64 o.measure)]),(AV.ptr cB 0)] h= .ret (AV.bool (w_checkAlarm1 o c)) h:=by
 obtain ⟨h1,n_h1,y_h1,z_h1,g_h1,b_h1⟩:=nwB y_h (AObj.cells [(AV.int .i64 o.quantity),(AV.int .i64 o.level),(AV.int .i64 o.limit),(AV.int .i64 o.measure)] 59 false)
 have a_h1:Has h h1:=b_h1
 have ev:=pk (d) w_checkAlarm1_body ((AV.agg [(AV.int .i64 o.quantity),(AV.int .i64 o.level),(AV.int .i64 o.limit),(AV.int .i64 o.measure)])::(AV.ptr cB 0)::und 7) h .ret h1 (NN n_h1 (fun i=>(AV.ptr i 0))<|CN 2<|MM (lown 3 3 (AV.int .i64 o.measure) g_h1 k!)<|CC<|MM (lown 3 3 (AV.int .i64 c.measure) (b_h1 _ _ g_c) k!)<|VV (ieql 3 false false .i64 o.measure c.measure)<|CC<|ZZ) k!
 have e:w_checkAlarm1 o c=(decide (o.measure=c.measure)):=by simp only[w_checkAlarm1,cond_true,cond_false]
 rw[e]
 exact callP_pure rfl (fn_of Tryz.func61 w_checkAlarm1_B k! (.inr rfl) ev k!) a_h1 rfl
noncomputable def w_indexAlarm_body:Code:=(Tryz.f80.body).getD .skip
theorem w_indexAlarm_B:Tryz.f80.body=some w_indexAlarm_body:=by kernel_rfl
noncomputable def w_indexAlarm_lp0:Code:=(loopsIn w_indexAlarm_body).getD 0 .skip
def w_indexAlarm_l0 (s:List Alarm) (P:Alarm→Bool):Nat→Nat→Option (Int)
 | 0,_=>none
 | kq0+1,i0=>(bif (P (s.g i0)) then some ((i0:Nat):Int) else w_indexAlarm_l0 s P kq0 (i0+1))
theorem w_indexAlarm_l0_t {d:Nat} {h:Heap} (sV:AV) (g:FuncId) (cap:List AV) (s:List Alarm) (P:Alarm→Bool) (H0_0:RowsAt h sV s) (hP:∀y∈s,∀hh,Tidy hh→Has h hh→cal d (.fn g) (.agg (RowT.c y)::cap) hh= .ret (.bool (P y)) hh):∀(k_ i_:Nat) (_:i_+k_=s.length) (x:Nat→AV) (hh:Heap) (y_hh:Tidy hh) (a_hh:Has h hh),OptLoop (cal (d)) w_indexAlarm_lp0 ⟨(sV::(AV.func g [] cap)::rx x 2 5 ((AV.int .i64 ((s.length:Nat):Int))::(AV.int .i64 ((i_:Nat):Int))::rx x 9 10 [])),hh,[],.no⟩ (.exit 0) hh (fun y=>(sV::(AV.func g [] cap)::rx y 2 5 ((AV.int .i64 ((s.length:Nat):Int))::rx y 8 11 []))) (fun r y=>(sV::(AV.func g [] cap)::(y 2)::(y 3)::(AV.int .i64 r)::(y 5)::(y 6)::(AV.int .i64 ((s.length:Nat):Int))::rx y 8 11 [])) (w_indexAlarm_l0 s P k_ i_)
 | 0,i0,hik,x,hh,y_hh,a_hh=>by
   have s_H0_0:=H0_0.small
   have q1:(decide (((i0:Nat):Int)<((s.length:Nat):Int)))=false:=d!
   have ev:=pk (d) w_indexAlarm_lp0 (sV::(AV.func g [] cap)::rx x 2 5 ((AV.int .i64 ((s.length:Nat):Int))::(AV.int .i64 ((i0:Nat):Int))::rx x 9 10 [])) hh (.exit 0) hh (VV (ilss 3 false false .i64 ((i0:Nat):Int) ((s.length:Nat):Int))<|BB q1<|ZZ) k!
   exact OptLoop.out rfl ev (Grow.refl y_hh) k!
 | kq0+1,i0,hik,x,hh,y_hh,a_hh=>by
   have s_H0_0:=H0_0.small
   rcases Bool.eq_false_or_eq_true (P (s.g i0)) with f1 | f1
   · have q1:(decide (((i0:Nat):Int)<((s.length:Nat):Int)))=true:=d!
     obtain ⟨p3,q4,ix2_⟩:=(H0_0.has a_hh).elem (i:=i0) o!
     have ix2:idxK env (some (.slice 59)) (some sV) (some (AV.int .i64 ((i0:Nat):Int)))=some (AV.ptr p3 q4):=ix2_
     have ld5:loadA env hh 59 (AV.ptr p3 q4)=some (AV.agg [(AV.int .i64 ((s.g i0).quantity)),(AV.int .i64 ((s.g i0).level)),(AV.int .i64 ((s.g i0).limit)),(AV.int .i64 ((s.g i0).measure))]):=(H0_0.has a_hh).load o! ix2_
     have k6:=hP (s.g i0) (g_mem o!) hh y_hh a_hh
     have ev:=pk (d) w_indexAlarm_lp0 (sV::(AV.func g [] cap)::rx x 2 5 ((AV.int .i64 ((s.length:Nat):Int))::(AV.int .i64 ((i0:Nat):Int))::rx x 9 10 [])) hh .ret hh (VV (ilss 3 false false .i64 ((i0:Nat):Int) ((s.length:Nat):Int))<|BB q1<|CN 5<|VV ix2<|MM ld5<|EE k6<|BB f1<|CN 2<|ZZ) k!
     exact OptLoop.ret ((i0:Nat):Int) (by simp only[w_indexAlarm_l0,f1,cond_true,cond_false]) ev (Grow.refl y_hh) k!
   · have q1:(decide (((i0:Nat):Int)<((s.length:Nat):Int)))=true:=d!
     obtain ⟨p3,q4,ix2_⟩:=(H0_0.has a_hh).elem (i:=i0) o!
     have ix2:idxK env (some (.slice 59)) (some sV) (some (AV.int .i64 ((i0:Nat):Int)))=some (AV.ptr p3 q4):=ix2_
     have ld5:loadA env hh 59 (AV.ptr p3 q4)=some (AV.agg [(AV.int .i64 ((s.g i0).quantity)),(AV.int .i64 ((s.g i0).level)),(AV.int .i64 ((s.g i0).limit)),(AV.int .i64 ((s.g i0).measure))]):=(H0_0.has a_hh).load o! ix2_
     have k6:=hP (s.g i0) (g_mem o!) hh y_hh a_hh
     have u8:=nadd 3 false true i0 1 o!
     have ev:=pk (d) w_indexAlarm_lp0 (sV::(AV.func g [] cap)::rx x 2 5 ((AV.int .i64 ((s.length:Nat):Int))::(AV.int .i64 ((i0:Nat):Int))::rx x 9 10 [])) hh .normal hh (VV (ilss 3 false false .i64 ((i0:Nat):Int) ((s.length:Nat):Int))<|BB q1<|CN 5<|VV ix2<|MM ld5<|EE k6<|BB f1<|VV u8<|CC<|ZZ) k!
     exact OptLoop.round (by simp only[w_indexAlarm_l0,f1,cond_true,cond_false]) ev (Grow.refl y_hh) (fun x=>(sV::(AV.func g [] cap)::rx x 2 5 ((AV.int .i64 ((s.length:Nat):Int))::(AV.int .i64 (((i0+1):Nat):Int))::rx x 9 10 []))) k! (fun x=>w_indexAlarm_l0_t sV g cap s P H0_0 hP kq0 (i0+1) o! x hh y_hh a_hh)
def w_indexAlarm (s:List Alarm) (P:Alarm→Bool):Int:=(match (w_indexAlarm_l0 s P s.length 0) with | none=>(-1) | some rr2=>rr2)
theorem w_indexAlarm_c {d:Nat} {h:Heap} {sV:AV} {g:FuncId} {cap:List AV} (s:List Alarm) (P:Alarm→Bool) (h_s:RowsAt h sV s) (hP:∀y∈s,∀hh,Tidy hh→Has h hh→cal d (.fn g) (.agg (RowT.c y)::cap) hh= .ret (.bool (P y)) hh) (y_h:Tidy h):cal (d+1) (.fn 80) [sV,(AV.func g [] cap)] h= .ret (AV.int .i64 (w_indexAlarm s P)) h:=by
 have s_h_s:=h_s.small
 cases hl_yl2:w_indexAlarm_l0 s P s.length 0 with
 | none=>
   have ln1:lenK (some (.slice 59)) (some sV)=some (AV.int .i64 ((s.length:Nat):Int)):=h_s.len
   obtain ⟨yl2,h3,ev_yl2,G_h3⟩:=OptLoop.n hl_yl2 (w_indexAlarm_l0_t (d:=d) (h:=h) sV g cap s P h_s hP s.length 0 o! (fun k_=>((sV::(AV.func g [] cap)::AV.undef::AV.undef::(AV.int .i64 0)::AV.undef::sV::(AV.int .i64 ((s.length:Nat):Int))::(AV.int .i64 0)::und 10):List AV).getD k_ AV.undef) h y_h (Has.refl _))
   have y_h3:=G_h3.y
   have m_h3:h.nx≤h3.nx:=G_h3.n
   have a_h3:Has h h3:=G_h3.a
   have ev:=pk (d) w_indexAlarm_body (sV::(AV.func g [] cap)::und 17) h .ret h3 (CN 2<|VV ln1<|CC<|LL ev_yl2<|CC<|ZZ) k!
   have e:w_indexAlarm s P=(-1):=by simp only[w_indexAlarm,hl_yl2,cond_true,cond_false]
   rw[e]
   exact callP_pure rfl (fn_of Tryz.func80 w_indexAlarm_B k! (.inr rfl) ev k!) a_h3 rfl
 | some rr2=>
   have ln1:lenK (some (.slice 59)) (some sV)=some (AV.int .i64 ((s.length:Nat):Int)):=h_s.len
   obtain ⟨yl2,h3,ev_yl2,G_h3⟩:=OptLoop.r hl_yl2 (w_indexAlarm_l0_t (d:=d) (h:=h) sV g cap s P h_s hP s.length 0 o! (fun k_=>((sV::(AV.func g [] cap)::AV.undef::AV.undef::(AV.int .i64 0)::AV.undef::sV::(AV.int .i64 ((s.length:Nat):Int))::(AV.int .i64 0)::und 10):List AV).getD k_ AV.undef) h y_h (Has.refl _))
   have y_h3:=G_h3.y
   have m_h3:h.nx≤h3.nx:=G_h3.n
   have a_h3:Has h h3:=G_h3.a
   have ev:=pk (d) w_indexAlarm_body (sV::(AV.func g [] cap)::und 17) h .ret h3 (CN 2<|VV ln1<|CC<|LL ev_yl2<|ZZ) k!
   have e:w_indexAlarm s P=rr2:=by simp only[w_indexAlarm,hl_yl2,cond_true,cond_false]
   rw[e]
   exact callP_pure rfl (fn_of Tryz.func80 w_indexAlarm_B k! (.inr rfl) ev k!) a_h3 rfl
noncomputable def w_containsAlarm_body:Code:=(Tryz.f60.body).getD .skip
theorem w_containsAlarm_B:Tryz.f60.body=some w_containsAlarm_body:=by kernel_rfl
def w_containsAlarm (s:List Alarm) (P:Alarm→Bool):Bool:=(decide (0≤(w_indexAlarm s P)))
theorem w_containsAlarm_c {d:Nat} {h:Heap} {sV:AV} {g:FuncId} {cap:List AV} (s:List Alarm) (P:Alarm→Bool) (h_s:RowsAt h sV s) (hP:∀y∈s,∀hh,Tidy hh→Has h hh→cal d (.fn g) (.agg (RowT.c y)::cap) hh= .ret (.bool (P y)) hh) (y_h:Tidy h):cal (d+2) (.fn 60) [sV,(AV.func g [] cap)] h= .ret (AV.bool (w_containsAlarm s P)) h:=by
 have s_h_s:=h_s.small
 have k1:=w_indexAlarm_c (d:=d) s P h_s hP y_h
 have ev:=pk (d+1) w_containsAlarm_body (sV::(AV.func g [] cap)::und 7) h .ret h (CN 3<|EE k1<|VV (igeq 3 false true .i64 (w_indexAlarm s P) 0)<|CC<|ZZ) k!
 have e:w_containsAlarm s P=(decide (0≤(w_indexAlarm s P))):=by simp only[w_containsAlarm,cond_true,cond_false]
 rw[e]
 exact callP_pure rfl (fn_of Tryz.func60 w_containsAlarm_B k! (.inr rfl) ev k!) (Has.refl _) rfl
noncomputable def w_isIn_body:Code:=(Tryz.f17.body).getD .skip
theorem w_isIn_B:Tryz.f17.body=some w_isIn_body:=by kernel_rfl
def w_isIn (number:Int) (many:Int):Bool:=(bif (decide (0≤number)) then (decide (number<many)) else false)
theorem w_isIn_c {d:Nat} {h:Heap} (number:Int) (many:Int) (y_h:Tidy h):cal (d+1) (.fn 17) [(AV.int .i64 number),(AV.int .i64 many)] h= .ret (AV.bool (w_isIn number many)) h:=by
 rcases Bool.eq_false_or_eq_true (decide (0≤number)) with f0 | f0
 · have n_f0:=of_decide_eq_true f0
   have ev:=pk (d) w_isIn_body ((AV.int .i64 number)::(AV.int .i64 many)::und 10) h .ret h (CN 2<|VV (igeq 3 false true .i64 number 0)<|CC<|BB f0<|CC<|BB f0<|CC<|BB f0<|VV (ilss 3 false false .i64 number many)<|VV (pick_t (a:=some (AV.bool (decide (number<many)))) (b:=some (AV.bool false)) f0)<|CC<|ZZ) k!
   have e:w_isIn number many=(decide (number<many)):=by simp only[w_isIn,f0,cond_true,cond_false]
   rw[e]
   exact callP_pure rfl (fn_of Tryz.func17 w_isIn_B k! (.inr rfl) ev k!) (Has.refl _) rfl
 · have n_f0:=of_decide_eq_false f0
   have ev:=pk (d) w_isIn_body ((AV.int .i64 number)::(AV.int .i64 many)::und 10) h .ret h (CN 2<|VV (igeq 3 false true .i64 number 0)<|CC<|BB f0<|BB f0<|BB f0<|VV (pick_f (a:=some AV.undef) (b:=some (AV.bool false)) f0)<|CC<|ZZ) k!
   have e:w_isIn number many=false:=by simp only[w_isIn,f0,cond_true,cond_false]
   rw[e]
   exact callP_pure rfl (fn_of Tryz.func17 w_isIn_B k! (.inr rfl) ev k!) (Has.refl _) rfl
theorem w_isIn_t {a b:Int} (h:w_isIn a b=true):0≤a∧a<b:=by
 unfold w_isIn at h
 by_cases q:0≤a
 · rw[decide_eq_true q] at h;exact ⟨q,of_decide_eq_true h⟩
 · rw[decide_eq_false q] at h;cases h
noncomputable def w_isValue_body:Code:=(Tryz.f53.body).getD .skip
theorem w_isValue_B:Tryz.f53.body=some w_isValue_body:=by kernel_rfl
def w_isValue (x_:Int):Bool:=(bif (decide ((-1000000000)≤x_)) then (decide (x_≤1000000000)) else false)
theorem w_isValue_c {d:Nat} {h:Heap} (x_:Int) (y_h:Tidy h):cal (d+1) (.fn 53) [(AV.int .i64 x_)] h= .ret (AV.bool (w_isValue x_)) h:=by
 rcases Bool.eq_false_or_eq_true (decide ((-1000000000)≤x_)) with f0 | f0
 · have n_f0:=of_decide_eq_true f0
   have ev:=pk (d) w_isValue_body ((AV.int .i64 x_)::und 8) h .ret h (CN 2<|VV (igeq 3 false true .i64 x_ (-1000000000))<|CC<|BB f0<|CC<|BB f0<|VV (ileq 3 false true .i64 x_ 1000000000)<|VV (pick_t (a:=some (AV.bool (decide (x_≤1000000000)))) (b:=some (AV.bool false)) f0)<|CC<|ZZ) k!
   have e:w_isValue x_=(decide (x_≤1000000000)):=by simp only[w_isValue,f0,cond_true,cond_false]
   rw[e]
   exact callP_pure rfl (fn_of Tryz.func53 w_isValue_B k! (.inr rfl) ev k!) (Has.refl _) rfl
 · have n_f0:=of_decide_eq_false f0
   have ev:=pk (d) w_isValue_body ((AV.int .i64 x_)::und 8) h .ret h (CN 2<|VV (igeq 3 false true .i64 x_ (-1000000000))<|CC<|BB f0<|BB f0<|VV (pick_f (a:=some AV.undef) (b:=some (AV.bool false)) f0)<|CC<|ZZ) k!
   have e:w_isValue x_=false:=by simp only[w_isValue,f0,cond_true,cond_false]
   rw[e]
   exact callP_pure rfl (fn_of Tryz.func53 w_isValue_B k! (.inr rfl) ev k!) (Has.refl _) rfl
noncomputable def w_checkAlarm_body:Code:=(Tryz.f34.body).getD .skip
theorem w_checkAlarm_B:Tryz.f34.body=some w_checkAlarm_body:=by kernel_rfl
def w_checkAlarm (p:Plan) (ahead:List Alarm) (a:Alarm):Int:=(bif (!(w_isIn a.quantity ((p.quantities.length:Nat):Int))) then 7 else (bif (!(w_isIn a.measure ((p.measures.length:Nat):Int))) then 7 else (bif (!(w_isValue a.level)) then 1 else (bif (!(w_isValue a.limit)) then 1 else (bif (w_containsAlarm ahead (fun y=>w_checkAlarm1 y a)) then 6 else 0)))))
theorem w_checkAlarm_c {d:Nat} {h:Heap} {aheadV:AV} (p:Plan) (ahead:List Alarm) (a:Alarm) (h_p:RowT.ok h p) (h_ahead:RowsAt h aheadV ahead) (h_a:RowT.ok h a) (y_h:Tidy h):cal (d+4) (.fn 34) [(AV.agg [p.quantitiesV,p.measuresV,p.alarmsV]),aheadV,(AV.agg [(AV.int .i64 a.quantity),(AV.int .i64 a.level),(AV.int .i64 a.limit),(AV.int .i64 a.measure)])] h= .ret (AV.int .i64 (w_checkAlarm p ahead a)) h:=by
 have s_h_ahead:=h_ahead.small
 have s_h_p_1:=h_p.1.small
 have s_h_p_2_1:=h_p.2.1.small
 have s_h_p_2_2:=h_p.2.2.small
 rcases Bool.eq_false_or_eq_true (!(w_isIn a.quantity ((p.quantities.length:Nat):Int))) with f0 | f0
 · obtain ⟨h1,n_h1,y_h1,z_h1,g_h1,b_h1⟩:=nwB y_h (AObj.cells [p.quantitiesV,p.measuresV,p.alarmsV] 26 false)
   have a_h1:Has h h1:=b_h1
   obtain ⟨h2,n_h2,y_h2,z_h2,g_h2,b_h2⟩:=nwB y_h1 (AObj.cells [(AV.int .i64 a.quantity),(AV.int .i64 a.level),(AV.int .i64 a.limit),(AV.int .i64 a.measure)] 59 false)
   have a_h2:Has h h2:=a_h1.trans b_h2
   have ln3:lenK (some (.slice 41)) (some p.quantitiesV)=some (AV.int .i64 ((p.quantities.length:Nat):Int)):=h_p.1.len
   have k4:=w_isIn_c (d:=d+2) a.quantity ((p.quantities.length:Nat):Int) y_h2
   have ev:=pk (d+3) w_checkAlarm_body ((AV.agg [p.quantitiesV,p.measuresV,p.alarmsV])::aheadV::(AV.agg [(AV.int .i64 a.quantity),(AV.int .i64 a.level),(AV.int .i64 a.limit),(AV.int .i64 a.measure)])::und 32) h .ret h2 (NN n_h1 (fun i=>(AV.ptr i 0))<|NN n_h2 (fun i=>(AV.ptr i 0))<|CN 2<|MM (lown 3 0 (AV.int .i64 a.quantity) g_h2 k!)<|CC<|MM (lown 22 0 p.quantitiesV (b_h2 _ _ g_h1) k!)<|VV ln3<|EE k4<|CN 2<|BB f0<|BB f0<|CC<|ZZ) k!
   have e:w_checkAlarm p ahead a=7:=by simp only[w_checkAlarm,f0,cond_true,cond_false]
   rw[e]
   exact callP_pure rfl (fn_of Tryz.func34 w_checkAlarm_B k! (.inr rfl) ev k!) a_h2 rfl
 · rcases Bool.eq_false_or_eq_true (!(w_isIn a.measure ((p.measures.length:Nat):Int))) with f1 | f1
   · obtain ⟨h1,n_h1,y_h1,z_h1,g_h1,b_h1⟩:=nwB y_h (AObj.cells [p.quantitiesV,p.measuresV,p.alarmsV] 26 false)
     have a_h1:Has h h1:=b_h1
     obtain ⟨h2,n_h2,y_h2,z_h2,g_h2,b_h2⟩:=nwB y_h1 (AObj.cells [(AV.int .i64 a.quantity),(AV.int .i64 a.level),(AV.int .i64 a.limit),(AV.int .i64 a.measure)] 59 false)
     have a_h2:Has h h2:=a_h1.trans b_h2
     have ln3:lenK (some (.slice 41)) (some p.quantitiesV)=some (AV.int .i64 ((p.quantities.length:Nat):Int)):=h_p.1.len
     have k4:=w_isIn_c (d:=d+2) a.quantity ((p.quantities.length:Nat):Int) y_h2
     have ln6:lenK (some (.slice 43)) (some p.measuresV)=some (AV.int .i64 ((p.measures.length:Nat):Int)):=h_p.2.1.len
     have k7:=w_isIn_c (d:=d+2) a.measure ((p.measures.length:Nat):Int) y_h2
     have ev:=pk (d+3) w_checkAlarm_body ((AV.agg [p.quantitiesV,p.measuresV,p.alarmsV])::aheadV::(AV.agg [(AV.int .i64 a.quantity),(AV.int .i64 a.level),(AV.int .i64 a.limit),(AV.int .i64 a.measure)])::und 32) h .ret h2 (NN n_h1 (fun i=>(AV.ptr i 0))<|NN n_h2 (fun i=>(AV.ptr i 0))<|CN 2<|MM (lown 3 0 (AV.int .i64 a.quantity) g_h2 k!)<|CC<|MM (lown 22 0 p.quantitiesV (b_h2 _ _ g_h1) k!)<|VV ln3<|EE k4<|CN 2<|BB f0<|CC<|MM (lown 3 3 (AV.int .i64 a.measure) g_h2 k!)<|CC<|MM (lown 23 1 p.measuresV (b_h2 _ _ g_h1) k!)<|VV ln6<|EE k7<|CN 2<|BB f1<|CC<|ZZ) k!
     have e:w_checkAlarm p ahead a=7:=by simp only[w_checkAlarm,f0,f1,cond_true,cond_false]
     rw[e]
     exact callP_pure rfl (fn_of Tryz.func34 w_checkAlarm_B k! (.inr rfl) ev k!) a_h2 rfl
   · rcases Bool.eq_false_or_eq_true (!(w_isValue a.level)) with f2 | f2
     · obtain ⟨h1,n_h1,y_h1,z_h1,g_h1,b_h1⟩:=nwB y_h (AObj.cells [p.quantitiesV,p.measuresV,p.alarmsV] 26 false)
       have a_h1:Has h h1:=b_h1
       obtain ⟨h2,n_h2,y_h2,z_h2,g_h2,b_h2⟩:=nwB y_h1 (AObj.cells [(AV.int .i64 a.quantity),(AV.int .i64 a.level),(AV.int .i64 a.limit),(AV.int .i64 a.measure)] 59 false)
       have a_h2:Has h h2:=a_h1.trans b_h2
       have ln3:lenK (some (.slice 41)) (some p.quantitiesV)=some (AV.int .i64 ((p.quantities.length:Nat):Int)):=h_p.1.len
       have k4:=w_isIn_c (d:=d+2) a.quantity ((p.quantities.length:Nat):Int) y_h2
       have ln6:lenK (some (.slice 43)) (some p.measuresV)=some (AV.int .i64 ((p.measures.length:Nat):Int)):=h_p.2.1.len
       have k7:=w_isIn_c (d:=d+2) a.measure ((p.measures.length:Nat):Int) y_h2
       have k9:=w_isValue_c (d:=d+2) a.level y_h2
       have ev:=pk (d+3) w_checkAlarm_body ((AV.agg [p.quantitiesV,p.measuresV,p.alarmsV])::aheadV::(AV.agg [(AV.int .i64 a.quantity),(AV.int .i64 a.level),(AV.int .i64 a.limit),(AV.int .i64 a.measure)])::und 32) h .ret h2 (NN n_h1 (fun i=>(AV.ptr i 0))<|NN n_h2 (fun i=>(AV.ptr i 0))<|CN 2<|MM (lown 3 0 (AV.int .i64 a.quantity) g_h2 k!)<|CC<|MM (lown 22 0 p.quantitiesV (b_h2 _ _ g_h1) k!)<|VV ln3<|EE k4<|CN 2<|BB f0<|CC<|MM (lown 3 3 (AV.int .i64 a.measure) g_h2 k!)<|CC<|MM (lown 23 1 p.measuresV (b_h2 _ _ g_h1) k!)<|VV ln6<|EE k7<|CN 2<|BB f1<|CC<|MM (lown 3 1 (AV.int .i64 a.level) g_h2 k!)<|EE k9<|CN 2<|BB f2<|BB f2<|CC<|ZZ) k!
       have e:w_checkAlarm p ahead a=1:=by simp only[w_checkAlarm,f0,f1,f2,cond_true,cond_false]
       rw[e]
       exact callP_pure rfl (fn_of Tryz.func34 w_checkAlarm_B k! (.inr rfl) ev k!) a_h2 rfl
     · rcases Bool.eq_false_or_eq_true (!(w_isValue a.limit)) with f3 | f3
       · obtain ⟨h1,n_h1,y_h1,z_h1,g_h1,b_h1⟩:=nwB y_h (AObj.cells [p.quantitiesV,p.measuresV,p.alarmsV] 26 false)
         have a_h1:Has h h1:=b_h1
         obtain ⟨h2,n_h2,y_h2,z_h2,g_h2,b_h2⟩:=nwB y_h1 (AObj.cells [(AV.int .i64 a.quantity),(AV.int .i64 a.level),(AV.int .i64 a.limit),(AV.int .i64 a.measure)] 59 false)
         have a_h2:Has h h2:=a_h1.trans b_h2
         have ln3:lenK (some (.slice 41)) (some p.quantitiesV)=some (AV.int .i64 ((p.quantities.length:Nat):Int)):=h_p.1.len
         have k4:=w_isIn_c (d:=d+2) a.quantity ((p.quantities.length:Nat):Int) y_h2
         have ln6:lenK (some (.slice 43)) (some p.measuresV)=some (AV.int .i64 ((p.measures.length:Nat):Int)):=h_p.2.1.len
         have k7:=w_isIn_c (d:=d+2) a.measure ((p.measures.length:Nat):Int) y_h2
         have k9:=w_isValue_c (d:=d+2) a.level y_h2
         have k11:=w_isValue_c (d:=d+2) a.limit y_h2
         have ev:=pk (d+3) w_checkAlarm_body ((AV.agg [p.quantitiesV,p.measuresV,p.alarmsV])::aheadV::(AV.agg [(AV.int .i64 a.quantity),(AV.int .i64 a.level),(AV.int .i64 a.limit),(AV.int .i64 a.measure)])::und 32) h .ret h2 (NN n_h1 (fun i=>(AV.ptr i 0))<|NN n_h2 (fun i=>(AV.ptr i 0))<|CN 2<|MM (lown 3 0 (AV.int .i64 a.quantity) g_h2 k!)<|CC<|MM (lown 22 0 p.quantitiesV (b_h2 _ _ g_h1) k!)<|VV ln3<|EE k4<|CN 2<|BB f0<|CC<|MM (lown 3 3 (AV.int .i64 a.measure) g_h2 k!)<|CC<|MM (lown 23 1 p.measuresV (b_h2 _ _ g_h1) k!)<|VV ln6<|EE k7<|CN 2<|BB f1<|CC<|MM (lown 3 1 (AV.int .i64 a.level) g_h2 k!)<|EE k9<|CN 2<|BB f2<|CC<|MM (lown 3 2 (AV.int .i64 a.limit) g_h2 k!)<|EE k11<|CN 2<|BB f3<|CC<|ZZ) k!
         have e:w_checkAlarm p ahead a=1:=by simp only[w_checkAlarm,f0,f1,f2,f3,cond_true,cond_false]
         rw[e]
         exact callP_pure rfl (fn_of Tryz.func34 w_checkAlarm_B k! (.inr rfl) ev k!) a_h2 rfl
       · rcases Bool.eq_false_or_eq_true (w_containsAlarm ahead (fun y=>w_checkAlarm1 y a)) with f4 | f4
         · obtain ⟨h1,n_h1,y_h1,z_h1,g_h1,b_h1⟩:=nwB y_h (AObj.cells [p.quantitiesV,p.measuresV,p.alarmsV] 26 false)
           have a_h1:Has h h1:=b_h1
           obtain ⟨h2,n_h2,y_h2,z_h2,g_h2,b_h2⟩:=nwB y_h1 (AObj.cells [(AV.int .i64 a.quantity),(AV.int .i64 a.level),(AV.int .i64 a.limit),(AV.int .i64 a.measure)] 59 false)
           have a_h2:Has h h2:=a_h1.trans b_h2
           have ln3:lenK (some (.slice 41)) (some p.quantitiesV)=some (AV.int .i64 ((p.quantities.length:Nat):Int)):=h_p.1.len
           have k4:=w_isIn_c (d:=d+2) a.quantity ((p.quantities.length:Nat):Int) y_h2
           have ln6:lenK (some (.slice 43)) (some p.measuresV)=some (AV.int .i64 ((p.measures.length:Nat):Int)):=h_p.2.1.len
           have k7:=w_isIn_c (d:=d+2) a.measure ((p.measures.length:Nat):Int) y_h2
           have k9:=w_isValue_c (d:=d+2) a.level y_h2
           have k11:=w_isValue_c (d:=d+2) a.limit y_h2
           have k13:=w_containsAlarm_c (d:=d+1) ahead (fun y=>w_checkAlarm1 y a) (h_ahead.has a_h2) (fun y hy hh yy aa=>w_checkAlarm1_c (d:=d) y a h1.nx (RowT.mono aa ((h_ahead.has a_h2).oks y hy)) (RowT.mono aa trivial) (aa _ _ g_h2) yy) y_h2
           have ev:=pk (d+3) w_checkAlarm_body ((AV.agg [p.quantitiesV,p.measuresV,p.alarmsV])::aheadV::(AV.agg [(AV.int .i64 a.quantity),(AV.int .i64 a.level),(AV.int .i64 a.limit),(AV.int .i64 a.measure)])::und 32) h .ret h2 (NN n_h1 (fun i=>(AV.ptr i 0))<|NN n_h2 (fun i=>(AV.ptr i 0))<|CN 2<|MM (lown 3 0 (AV.int .i64 a.quantity) g_h2 k!)<|CC<|MM (lown 22 0 p.quantitiesV (b_h2 _ _ g_h1) k!)<|VV ln3<|EE k4<|CN 2<|BB f0<|CC<|MM (lown 3 3 (AV.int .i64 a.measure) g_h2 k!)<|CC<|MM (lown 23 1 p.measuresV (b_h2 _ _ g_h1) k!)<|VV ln6<|EE k7<|CN 2<|BB f1<|CC<|MM (lown 3 1 (AV.int .i64 a.level) g_h2 k!)<|EE k9<|CN 2<|BB f2<|CC<|MM (lown 3 2 (AV.int .i64 a.limit) g_h2 k!)<|EE k11<|CN 2<|BB f3<|CN 2<|EE k13<|CC<|BB f4<|CC<|ZZ) k!
           have e:w_checkAlarm p ahead a=6:=by simp only[w_checkAlarm,f0,f1,f2,f3,f4,cond_true,cond_false]
           rw[e]
           exact callP_pure rfl (fn_of Tryz.func34 w_checkAlarm_B k! (.inr rfl) ev k!) a_h2 rfl
         · obtain ⟨h1,n_h1,y_h1,z_h1,g_h1,b_h1⟩:=nwB y_h (AObj.cells [p.quantitiesV,p.measuresV,p.alarmsV] 26 false)
           have a_h1:Has h h1:=b_h1
           obtain ⟨h2,n_h2,y_h2,z_h2,g_h2,b_h2⟩:=nwB y_h1 (AObj.cells [(AV.int .i64 a.quantity),(AV.int .i64 a.level),(AV.int .i64 a.limit),(AV.int .i64 a.measure)] 59 false)
           have a_h2:Has h h2:=a_h1.trans b_h2
           have ln3:lenK (some (.slice 41)) (some p.quantitiesV)=some (AV.int .i64 ((p.quantities.length:Nat):Int)):=h_p.1.len
           have k4:=w_isIn_c (d:=d+2) a.quantity ((p.quantities.length:Nat):Int) y_h2
           have ln6:lenK (some (.slice 43)) (some p.measuresV)=some (AV.int .i64 ((p.measures.length:Nat):Int)):=h_p.2.1.len
           have k7:=w_isIn_c (d:=d+2) a.measure ((p.measures.length:Nat):Int) y_h2
           have k9:=w_isValue_c (d:=d+2) a.level y_h2
           have k11:=w_isValue_c (d:=d+2) a.limit y_h2
           have k13:=w_containsAlarm_c (d:=d+1) ahead (fun y=>w_checkAlarm1 y a) (h_ahead.has a_h2) (fun y hy hh yy aa=>w_checkAlarm1_c (d:=d) y a h1.nx (RowT.mono aa ((h_ahead.has a_h2).oks y hy)) (RowT.mono aa trivial) (aa _ _ g_h2) yy) y_h2
           have ev:=pk (d+3) w_checkAlarm_body ((AV.agg [p.quantitiesV,p.measuresV,p.alarmsV])::aheadV::(AV.agg [(AV.int .i64 a.quantity),(AV.int .i64 a.level),(AV.int .i64 a.limit),(AV.int .i64 a.measure)])::und 32) h .ret h2 (NN n_h1 (fun i=>(AV.ptr i 0))<|NN n_h2 (fun i=>(AV.ptr i 0))<|CN 2<|MM (lown 3 0 (AV.int .i64 a.quantity) g_h2 k!)<|CC<|MM (lown 22 0 p.quantitiesV (b_h2 _ _ g_h1) k!)<|VV ln3<|EE k4<|CN 2<|BB f0<|CC<|MM (lown 3 3 (AV.int .i64 a.measure) g_h2 k!)<|CC<|MM (lown 23 1 p.measuresV (b_h2 _ _ g_h1) k!)<|VV ln6<|EE k7<|CN 2<|BB f1<|CC<|MM (lown 3 1 (AV.int .i64 a.level) g_h2 k!)<|EE k9<|CN 2<|BB f2<|CC<|MM (lown 3 2 (AV.int .i64 a.limit) g_h2 k!)<|EE k11<|CN 2<|BB f3<|CN 2<|EE k13<|CC<|BB f4<|CC<|ZZ) k!
           have e:w_checkAlarm p ahead a=0:=by simp only[w_checkAlarm,f0,f1,f2,f3,f4,cond_true,cond_false]
           rw[e]
           exact callP_pure rfl (fn_of Tryz.func34 w_checkAlarm_B k! (.inr rfl) ev k!) a_h2 rfl
noncomputable def w_Check1_body:Code:=(Tryz.f33.body).getD .skip
theorem w_Check1_B:Tryz.f33.body=some w_Check1_body:=by kernel_rfl
def w_Check1 (ahead:List Alarm) (al:Alarm) (p:Plan):Int:=(w_checkAlarm p ahead al)
theorem w_Check1_c {d:Nat} {h:Heap} {aheadV:AV} (ahead:List Alarm) (al:Alarm) (p:Plan) (pB:Nat) (h_ahead:RowsAt h aheadV ahead) (h_al:RowT.ok h al) (h_p:RowT.ok h p) (g_p:h.get pB=some (.cells (RowT.c p) 26 false)) (y_h:Tidy h):cal (d+5) (.fn 33) [aheadV,(AV.agg [(AV.int .i64 al.quantity),(AV.int .i64 al.level),(AV.int .i64 al.limit),(AV.int .i64 al.measure)]),(AV.ptr pB 0)] h= .ret (AV.int .i64 (w_Check1 ahead al p)) h:=by
 have s_h_ahead:=h_ahead.small
 have s_h_p_1:=h_p.1.small
 have s_h_p_2_1:=h_p.2.1.small
 have s_h_p_2_2:=h_p.2.2.small
 obtain ⟨h1,n_h1,y_h1,z_h1,g_h1,b_h1⟩:=nwB y_h (AObj.cells [(AV.int .i64 al.quantity),(AV.int .i64 al.level),(AV.int .i64 al.limit),(AV.int .i64 al.measure)] 59 false)
 have a_h1:Has h h1:=b_h1
 have k2:=w_checkAlarm_c (d:=d) p ahead al (RowT.mono a_h1 h_p) (h_ahead.has a_h1) trivial y_h1
 have ev:=pk (d+4) w_Check1_body (aheadV::(AV.agg [(AV.int .i64 al.quantity),(AV.int .i64 al.level),(AV.int .i64 al.limit),(AV.int .i64 al.measure)])::(AV.ptr pB 0)::und 7) h .ret h1 (NN n_h1 (fun i=>(AV.ptr i 0))<|CC<|MM (lown 26 0 (AV.agg [p.quantitiesV,p.measuresV,p.alarmsV]) (b_h1 _ _ g_p) k!)<|CC<|MM (lown 59 0 (AV.agg [(AV.int .i64 al.quantity),(AV.int .i64 al.level),(AV.int .i64 al.limit),(AV.int .i64 al.measure)]) g_h1 k!)<|EE k2<|CC<|ZZ) k!
 have e:w_Check1 ahead al p=(w_checkAlarm p ahead al):=by simp only[w_Check1,cond_true,cond_false]
 rw[e]
 exact callP_pure rfl (fn_of Tryz.func33 w_Check1_B k! (.inr rfl) ev k!) a_h1 rfl
noncomputable def w_checkListAlarm_body:Code:=(Tryz.f32.body).getD .skip
theorem w_checkListAlarm_B:Tryz.f32.body=some w_checkListAlarm_body:=by kernel_rfl
noncomputable def w_checkListAlarm_lp0:Code:=(loopsIn w_checkListAlarm_body).getD 0 .skip
def w_checkListAlarm_l0 (P:Nat→Int) (list:List Alarm):Nat→Nat→Option (Int)
 | 0,_=>none
 | kq0+1,i0=>(bif (!decide ((P i0)=0)) then some (P i0) else w_checkListAlarm_l0 P list kq0 (i0+1))
theorem w_checkListAlarm_l0_t {d:Nat} {h:Heap} (listV:AV) (g:FuncId) (cap:List AV) (list:List Alarm) (P:Nat→Int) (H0_0:RowsAt h listV list) (hP:∀j,j<list.length→∀aV hh,Tidy hh→Has h hh→RowsAt hh aV (list.take j)→cal d (.fn g) (aV:: .agg (RowT.c (list.g j))::cap) hh= .ret (.int .i64 (P j)) hh):∀(k_ i_:Nat) (_:i_+k_=list.length) (x:Nat→AV) (hh:Heap) (y_hh:Tidy hh) (a_hh:Has h hh),OptLoop (cal (d)) w_checkListAlarm_lp0 ⟨(listV::(x 1)::(AV.func g [] cap)::rx x 3 11 (listV::(AV.int .i64 ((list.length:Nat):Int))::(AV.int .i64 ((i_:Nat):Int))::rx x 17 14 [])),hh,[],.no⟩ (.exit 0) hh (fun y=>(listV::(y 1)::(AV.func g [] cap)::rx y 3 11 (listV::(AV.int .i64 ((list.length:Nat):Int))::rx y 16 15 []))) (fun r y=>(listV::(y 1)::(AV.func g [] cap)::rx y 3 3 ((AV.int .i64 r)::rx y 7 7 (listV::(AV.int .i64 ((list.length:Nat):Int))::rx y 16 15 [])))) (w_checkListAlarm_l0 P list k_ i_)
 | 0,i0,hik,x,hh,y_hh,a_hh=>by
   have s_H0_0:=H0_0.small
   have q1:(decide (((i0:Nat):Int)<((list.length:Nat):Int)))=false:=d!
   have ev:=pk (d) w_checkListAlarm_lp0 (listV::(x 1)::(AV.func g [] cap)::rx x 3 11 (listV::(AV.int .i64 ((list.length:Nat):Int))::(AV.int .i64 ((i0:Nat):Int))::rx x 17 14 [])) hh (.exit 0) hh (VV (ilss 3 false false .i64 ((i0:Nat):Int) ((list.length:Nat):Int))<|BB q1<|ZZ) k!
   exact OptLoop.out rfl ev (Grow.refl y_hh) k!
 | kq0+1,i0,hik,x,hh,y_hh,a_hh=>by
   have s_H0_0:=H0_0.small
   rcases Bool.eq_false_or_eq_true (!decide ((P i0)=0)) with f1 | f1
   · have n_f1:=nT_ f1
     have q1:(decide (((i0:Nat):Int)<((list.length:Nat):Int)))=true:=d!
     obtain ⟨p3,q4,ix2_⟩:=(H0_0.has a_hh).elem (i:=i0) o!
     have ix2:idxK env (some (.slice 59)) (some listV) (some (AV.int .i64 ((i0:Nat):Int)))=some (AV.ptr p3 q4):=ix2_
     have ld5:loadA env hh 59 (AV.ptr p3 q4)=some (AV.agg [(AV.int .i64 ((list.g i0).quantity)),(AV.int .i64 ((list.g i0).level)),(AV.int .i64 ((list.g i0).limit)),(AV.int .i64 ((list.g i0).measure))]):=(H0_0.has a_hh).load o! ix2_
     obtain ⟨h6,n_h6,y_h6,z_h6,g_h6,b_h6⟩:=nwB y_hh (AObj.cells [(AV.int .i64 0),(AV.int .i64 0),(AV.int .i64 0),(AV.int .i64 0)] 59 false)
     have a_h6:Has hh h6:=b_h6
     obtain ⟨h7,s_h7,y_h7,z_h7,g_h7,kk_h7⟩:=stwB (t:=59) (n:=4) (i:=hh.nx) (L:=[(AV.int .i64 ((list.g i0).quantity)),(AV.int .i64 ((list.g i0).level)),(AV.int .i64 ((list.g i0).limit)),(AV.int .i64 ((list.g i0).measure))]) y_h6 g_h6 k! rfl rfl (by simp only[AV.cells,List.all_cons,List.all_nil,Bool.and_true,Bool.and_self,sc_int,sc_bool,sc_str,sc_ptr,sc_slice,sc_ns,sc_np,sc_nm,sc_nf,sc_ni,sc_map])
     have a_h7:Has hh h7:=Has.of_kept a_h6 kk_h7 y_hh o!
     obtain ⟨r8,sl9_,fr10⟩:=(H0_0.has a_hh).pre (t:=24) k! (i:=i0) o!
     have sl9:sliceA env 24 listV (none) (some (AV.int .i64 ((i0:Nat):Int))) (none)=some r8:=sl9_
     have k11:=hP i0 o! r8 h7 y_h7 (a_hh.trans a_h7) (fr10.has a_h7)
     have c12:AV.same 20 (AV.agg [(AV.int .i64 ((list.g i0).quantity)),(AV.int .i64 ((list.g i0).level)),(AV.int .i64 ((list.g i0).limit)),(AV.int .i64 ((list.g i0).measure))]) (AV.agg [(AV.int .i64 ((list.g i0).quantity)),(AV.int .i64 ((list.g i0).level)),(AV.int .i64 ((list.g i0).limit)),(AV.int .i64 ((list.g i0).measure))])=true:=same_agg 18 (sc_ (fun n=>same_int n _ _) (sc_ (fun n=>same_int n _ _) (sc_ (fun n=>same_int n _ _) (sc_ (fun n=>same_int n _ _) sn_))))
     have ev:=pk (d) w_checkListAlarm_lp0 (listV::(x 1)::(AV.func g [] cap)::rx x 3 11 (listV::(AV.int .i64 ((list.length:Nat):Int))::(AV.int .i64 ((i0:Nat):Int))::rx x 17 14 [])) hh .ret h7 (VV (ilss 3 false false .i64 ((i0:Nat):Int) ((list.length:Nat):Int))<|BB q1<|CC<|VV ix2<|MM ld5<|NN n_h6 (fun i=>(AV.ptr i 0))<|CC<|SS s_h7<|CN 3<|QQ sl9<|MM (lown 59 0 (AV.agg [(AV.int .i64 ((list.g i0).quantity)),(AV.int .i64 ((list.g i0).level)),(AV.int .i64 ((list.g i0).limit)),(AV.int .i64 ((list.g i0).measure))]) g_h7 k!)<|EE k11<|CC<|HH (lown 59 0 (AV.agg [(AV.int .i64 ((list.g i0).quantity)),(AV.int .i64 ((list.g i0).level)),(AV.int .i64 ((list.g i0).limit)),(AV.int .i64 ((list.g i0).measure))]) g_h7 k!)<|HH c12<|CC<|VV (ineq 29 false true .i64 (P i0) 0)<|BB f1<|CN 2<|ZZ) k!
     exact OptLoop.ret (P i0) (by simp only[w_checkListAlarm_l0,f1,cond_true,cond_false]) ev (⟨y_h7,a_h7,by omega⟩) k!
   · have n_f1:=nF_ f1
     have q1:(decide (((i0:Nat):Int)<((list.length:Nat):Int)))=true:=d!
     obtain ⟨p3,q4,ix2_⟩:=(H0_0.has a_hh).elem (i:=i0) o!
     have ix2:idxK env (some (.slice 59)) (some listV) (some (AV.int .i64 ((i0:Nat):Int)))=some (AV.ptr p3 q4):=ix2_
     have ld5:loadA env hh 59 (AV.ptr p3 q4)=some (AV.agg [(AV.int .i64 ((list.g i0).quantity)),(AV.int .i64 ((list.g i0).level)),(AV.int .i64 ((list.g i0).limit)),(AV.int .i64 ((list.g i0).measure))]):=(H0_0.has a_hh).load o! ix2_
     obtain ⟨h6,n_h6,y_h6,z_h6,g_h6,b_h6⟩:=nwB y_hh (AObj.cells [(AV.int .i64 0),(AV.int .i64 0),(AV.int .i64 0),(AV.int .i64 0)] 59 false)
     have a_h6:Has hh h6:=b_h6
     obtain ⟨h7,s_h7,y_h7,z_h7,g_h7,kk_h7⟩:=stwB (t:=59) (n:=4) (i:=hh.nx) (L:=[(AV.int .i64 ((list.g i0).quantity)),(AV.int .i64 ((list.g i0).level)),(AV.int .i64 ((list.g i0).limit)),(AV.int .i64 ((list.g i0).measure))]) y_h6 g_h6 k! rfl rfl (by simp only[AV.cells,List.all_cons,List.all_nil,Bool.and_true,Bool.and_self,sc_int,sc_bool,sc_str,sc_ptr,sc_slice,sc_ns,sc_np,sc_nm,sc_nf,sc_ni,sc_map])
     have a_h7:Has hh h7:=Has.of_kept a_h6 kk_h7 y_hh o!
     obtain ⟨r8,sl9_,fr10⟩:=(H0_0.has a_hh).pre (t:=24) k! (i:=i0) o!
     have sl9:sliceA env 24 listV (none) (some (AV.int .i64 ((i0:Nat):Int))) (none)=some r8:=sl9_
     have k11:=hP i0 o! r8 h7 y_h7 (a_hh.trans a_h7) (fr10.has a_h7)
     have c12:AV.same 20 (AV.agg [(AV.int .i64 ((list.g i0).quantity)),(AV.int .i64 ((list.g i0).level)),(AV.int .i64 ((list.g i0).limit)),(AV.int .i64 ((list.g i0).measure))]) (AV.agg [(AV.int .i64 ((list.g i0).quantity)),(AV.int .i64 ((list.g i0).level)),(AV.int .i64 ((list.g i0).limit)),(AV.int .i64 ((list.g i0).measure))])=true:=same_agg 18 (sc_ (fun n=>same_int n _ _) (sc_ (fun n=>same_int n _ _) (sc_ (fun n=>same_int n _ _) (sc_ (fun n=>same_int n _ _) sn_))))
     have u14:=nadd 3 false true i0 1 o!
     have ev:=pk (d) w_checkListAlarm_lp0 (listV::(x 1)::(AV.func g [] cap)::rx x 3 11 (listV::(AV.int .i64 ((list.length:Nat):Int))::(AV.int .i64 ((i0:Nat):Int))::rx x 17 14 [])) hh .normal h7 (VV (ilss 3 false false .i64 ((i0:Nat):Int) ((list.length:Nat):Int))<|BB q1<|CC<|VV ix2<|MM ld5<|NN n_h6 (fun i=>(AV.ptr i 0))<|CC<|SS s_h7<|CN 3<|QQ sl9<|MM (lown 59 0 (AV.agg [(AV.int .i64 ((list.g i0).quantity)),(AV.int .i64 ((list.g i0).level)),(AV.int .i64 ((list.g i0).limit)),(AV.int .i64 ((list.g i0).measure))]) g_h7 k!)<|EE k11<|CC<|HH (lown 59 0 (AV.agg [(AV.int .i64 ((list.g i0).quantity)),(AV.int .i64 ((list.g i0).level)),(AV.int .i64 ((list.g i0).limit)),(AV.int .i64 ((list.g i0).measure))]) g_h7 k!)<|HH c12<|CC<|VV (ineq 29 false true .i64 (P i0) 0)<|BB f1<|VV u14<|CC<|ZZ) k!
     exact OptLoop.round (by simp only[w_checkListAlarm_l0,f1,cond_true,cond_false]) ev (⟨y_h7,a_h7,by omega⟩) (fun x=>(listV::(x 1)::(AV.func g [] cap)::rx x 3 11 (listV::(AV.int .i64 ((list.length:Nat):Int))::(AV.int .i64 (((i0+1):Nat):Int))::rx x 17 14 []))) k! (fun x=>w_checkListAlarm_l0_t listV g cap list P H0_0 hP kq0 (i0+1) o! x h7 y_h7 (a_hh.trans a_h7))
def w_checkListAlarm (list:List Alarm) (most:Int) (P:Nat→Int):Int:=(bif (decide (most<((list.length:Nat):Int))) then 3 else (match (w_checkListAlarm_l0 P list list.length 0) with | none=>0 | some rr4=>rr4))
theorem w_checkListAlarm_c {d:Nat} {h:Heap} {listV:AV} {g:FuncId} {cap:List AV} (list:List Alarm) (most:Int) (P:Nat→Int) (h_list:RowsAt h listV list) (hP:∀j,j<list.length→∀aV hh,Tidy hh→Has h hh→RowsAt hh aV (list.take j)→cal d (.fn g) (aV:: .agg (RowT.c (list.g j))::cap) hh= .ret (.int .i64 (P j)) hh) (y_h:Tidy h):cal (d+1) (.fn 32) [listV,(AV.int .i64 most),(AV.func g [] cap)] h= .ret (AV.int .i64 (w_checkListAlarm list most P)) h:=by
 have s_h_list:=h_list.small
 rcases Bool.eq_false_or_eq_true (decide (most<((list.length:Nat):Int))) with f0 | f0
 · have n_f0:=of_decide_eq_true f0
   have ln1:lenK (some (.slice 59)) (some listV)=some (AV.int .i64 ((list.length:Nat):Int)):=h_list.len
   have ev:=pk (d) w_checkListAlarm_body (listV::(AV.int .i64 most)::(AV.func g [] cap)::und 28) h .ret h (CN 2<|VV ln1<|CC<|VV (igtr 3 false false .i64 ((list.length:Nat):Int) most)<|BB f0<|CC<|ZZ) k!
   have e:w_checkListAlarm list most P=3:=by simp only[w_checkListAlarm,f0,cond_true,cond_false]
   rw[e]
   exact callP_pure rfl (fn_of Tryz.func32 w_checkListAlarm_B k! (.inr rfl) ev k!) (Has.refl _) rfl
 · have n_f0:=of_decide_eq_false f0
   cases hl_yl4:w_checkListAlarm_l0 P list list.length 0 with
   | none=>
     have ln1:lenK (some (.slice 59)) (some listV)=some (AV.int .i64 ((list.length:Nat):Int)):=h_list.len
     have ln3:lenK (some (.slice 59)) (some listV)=some (AV.int .i64 ((list.length:Nat):Int)):=h_list.len
     obtain ⟨yl4,h5,ev_yl4,G_h5⟩:=OptLoop.n hl_yl4 (w_checkListAlarm_l0_t (d:=d) (h:=h) listV g cap list P h_list hP list.length 0 o! (fun k_=>((listV::(AV.int .i64 most)::(AV.func g [] cap)::AV.undef::AV.undef::AV.undef::(AV.int .i64 0)::AV.undef::AV.undef::AV.undef::listV::(AV.int .i64 ((list.length:Nat):Int))::(AV.int .i64 most)::(AV.bool (decide (most<((list.length:Nat):Int))))::listV::(AV.int .i64 ((list.length:Nat):Int))::(AV.int .i64 0)::und 14):List AV).getD k_ AV.undef) h y_h (Has.refl _))
     have y_h5:=G_h5.y
     have m_h5:h.nx≤h5.nx:=G_h5.n
     have a_h5:Has h h5:=G_h5.a
     have ev:=pk (d) w_checkListAlarm_body (listV::(AV.int .i64 most)::(AV.func g [] cap)::und 28) h .ret h5 (CN 2<|VV ln1<|CC<|VV (igtr 3 false false .i64 ((list.length:Nat):Int) most)<|BB f0<|CC<|VV ln3<|CC<|LL ev_yl4<|CC<|ZZ) k!
     have e:w_checkListAlarm list most P=0:=by simp only[w_checkListAlarm,f0,hl_yl4,cond_true,cond_false]
     rw[e]
     exact callP_pure rfl (fn_of Tryz.func32 w_checkListAlarm_B k! (.inr rfl) ev k!) a_h5 rfl
   | some rr4=>
     have ln1:lenK (some (.slice 59)) (some listV)=some (AV.int .i64 ((list.length:Nat):Int)):=h_list.len
     have ln3:lenK (some (.slice 59)) (some listV)=some (AV.int .i64 ((list.length:Nat):Int)):=h_list.len
     obtain ⟨yl4,h5,ev_yl4,G_h5⟩:=OptLoop.r hl_yl4 (w_checkListAlarm_l0_t (d:=d) (h:=h) listV g cap list P h_list hP list.length 0 o! (fun k_=>((listV::(AV.int .i64 most)::(AV.func g [] cap)::AV.undef::AV.undef::AV.undef::(AV.int .i64 0)::AV.undef::AV.undef::AV.undef::listV::(AV.int .i64 ((list.length:Nat):Int))::(AV.int .i64 most)::(AV.bool (decide (most<((list.length:Nat):Int))))::listV::(AV.int .i64 ((list.length:Nat):Int))::(AV.int .i64 0)::und 14):List AV).getD k_ AV.undef) h y_h (Has.refl _))
     have y_h5:=G_h5.y
     have m_h5:h.nx≤h5.nx:=G_h5.n
     have a_h5:Has h h5:=G_h5.a
     have ev:=pk (d) w_checkListAlarm_body (listV::(AV.int .i64 most)::(AV.func g [] cap)::und 28) h .ret h5 (CN 2<|VV ln1<|CC<|VV (igtr 3 false false .i64 ((list.length:Nat):Int) most)<|BB f0<|CC<|VV ln3<|CC<|LL ev_yl4<|ZZ) k!
     have e:w_checkListAlarm list most P=rr4:=by simp only[w_checkListAlarm,f0,hl_yl4,cond_true,cond_false]
     rw[e]
     exact callP_pure rfl (fn_of Tryz.func32 w_checkListAlarm_B k! (.inr rfl) ev k!) a_h5 rfl
noncomputable def w_checkListMeasure_body:Code:=(Tryz.f30.body).getD .skip
theorem w_checkListMeasure_B:Tryz.f30.body=some w_checkListMeasure_body:=by kernel_rfl
noncomputable def w_checkListMeasure_lp0:Code:=(loopsIn w_checkListMeasure_body).getD 0 .skip
def w_checkListMeasure_l0 (P:Nat→Int) (list:List Measure):Nat→Nat→Option (Int)
 | 0,_=>none
 | kq0+1,i0=>(bif (!decide ((P i0)=0)) then some (P i0) else w_checkListMeasure_l0 P list kq0 (i0+1))
theorem w_checkListMeasure_l0_t {d:Nat} {h:Heap} (listV:AV) (g:FuncId) (cap:List AV) (list:List Measure) (P:Nat→Int) (H0_0:RowsAt h listV list) (hP:∀j,j<list.length→∀aV hh,Tidy hh→Has h hh→RowsAt hh aV (list.take j)→cal d (.fn g) (aV:: .agg (RowT.c (list.g j))::cap) hh= .ret (.int .i64 (P j)) hh):∀(k_ i_:Nat) (_:i_+k_=list.length) (x:Nat→AV) (hh:Heap) (y_hh:Tidy hh) (a_hh:Has h hh),OptLoop (cal (d)) w_checkListMeasure_lp0 ⟨(listV::(x 1)::(AV.func g [] cap)::rx x 3 11 (listV::(AV.int .i64 ((list.length:Nat):Int))::(AV.int .i64 ((i_:Nat):Int))::rx x 17 14 [])),hh,[],.no⟩ (.exit 0) hh (fun y=>(listV::(y 1)::(AV.func g [] cap)::rx y 3 11 (listV::(AV.int .i64 ((list.length:Nat):Int))::rx y 16 15 []))) (fun r y=>(listV::(y 1)::(AV.func g [] cap)::rx y 3 3 ((AV.int .i64 r)::rx y 7 7 (listV::(AV.int .i64 ((list.length:Nat):Int))::rx y 16 15 [])))) (w_checkListMeasure_l0 P list k_ i_)
 | 0,i0,hik,x,hh,y_hh,a_hh=>by
   have s_H0_0:=H0_0.small
   have q1:(decide (((i0:Nat):Int)<((list.length:Nat):Int)))=false:=d!
   have ev:=pk (d) w_checkListMeasure_lp0 (listV::(x 1)::(AV.func g [] cap)::rx x 3 11 (listV::(AV.int .i64 ((list.length:Nat):Int))::(AV.int .i64 ((i0:Nat):Int))::rx x 17 14 [])) hh (.exit 0) hh (VV (ilss 3 false false .i64 ((i0:Nat):Int) ((list.length:Nat):Int))<|BB q1<|ZZ) k!
   exact OptLoop.out rfl ev (Grow.refl y_hh) k!
 | kq0+1,i0,hik,x,hh,y_hh,a_hh=>by
   have s_H0_0:=H0_0.small
   rcases Bool.eq_false_or_eq_true (!decide ((P i0)=0)) with f1 | f1
   · have n_f1:=nT_ f1
     have q1:(decide (((i0:Nat):Int)<((list.length:Nat):Int)))=true:=d!
     obtain ⟨p3,q4,ix2_⟩:=(H0_0.has a_hh).elem (i:=i0) o!
     have ix2:idxK env (some (.slice 43)) (some listV) (some (AV.int .i64 ((i0:Nat):Int)))=some (AV.ptr p3 q4):=ix2_
     have ld5:loadA env hh 43 (AV.ptr p3 q4)=some (AV.agg [(AV.str ((list.g i0).name)),(AV.str ((list.g i0).crew)),(AV.int .i64 ((list.g i0).rank)),(AV.int .i64 ((list.g i0).lag)),(AV.int .i64 ((list.g i0).takes))]):=(H0_0.has a_hh).load o! ix2_
     obtain ⟨h6,n_h6,y_h6,z_h6,g_h6,b_h6⟩:=nwB y_hh (AObj.cells [(AV.str []),(AV.str []),(AV.int .i64 0),(AV.int .i64 0),(AV.int .i64 0)] 43 false)
     have a_h6:Has hh h6:=b_h6
     obtain ⟨h7,s_h7,y_h7,z_h7,g_h7,kk_h7⟩:=stwB (t:=43) (n:=5) (i:=hh.nx) (L:=[(AV.str ((list.g i0).name)),(AV.str ((list.g i0).crew)),(AV.int .i64 ((list.g i0).rank)),(AV.int .i64 ((list.g i0).lag)),(AV.int .i64 ((list.g i0).takes))]) y_h6 g_h6 k! rfl rfl (by simp only[AV.cells,List.all_cons,List.all_nil,Bool.and_true,Bool.and_self,sc_int,sc_bool,sc_str,sc_ptr,sc_slice,sc_ns,sc_np,sc_nm,sc_nf,sc_ni,sc_map])
     have a_h7:Has hh h7:=Has.of_kept a_h6 kk_h7 y_hh o!
     obtain ⟨r8,sl9_,fr10⟩:=(H0_0.has a_hh).pre (t:=23) k! (i:=i0) o!
     have sl9:sliceA env 23 listV (none) (some (AV.int .i64 ((i0:Nat):Int))) (none)=some r8:=sl9_
     have k11:=hP i0 o! r8 h7 y_h7 (a_hh.trans a_h7) (fr10.has a_h7)
     have c12:AV.same 20 (AV.agg [(AV.str ((list.g i0).name)),(AV.str ((list.g i0).crew)),(AV.int .i64 ((list.g i0).rank)),(AV.int .i64 ((list.g i0).lag)),(AV.int .i64 ((list.g i0).takes))]) (AV.agg [(AV.str ((list.g i0).name)),(AV.str ((list.g i0).crew)),(AV.int .i64 ((list.g i0).rank)),(AV.int .i64 ((list.g i0).lag)),(AV.int .i64 ((list.g i0).takes))])=true:=same_agg 18 (sc_ (fun n=>same_str n _) (sc_ (fun n=>same_str n _) (sc_ (fun n=>same_int n _ _) (sc_ (fun n=>same_int n _ _) (sc_ (fun n=>same_int n _ _) sn_)))))
     have ev:=pk (d) w_checkListMeasure_lp0 (listV::(x 1)::(AV.func g [] cap)::rx x 3 11 (listV::(AV.int .i64 ((list.length:Nat):Int))::(AV.int .i64 ((i0:Nat):Int))::rx x 17 14 [])) hh .ret h7 (VV (ilss 3 false false .i64 ((i0:Nat):Int) ((list.length:Nat):Int))<|BB q1<|CC<|VV ix2<|MM ld5<|NN n_h6 (fun i=>(AV.ptr i 0))<|CC<|SS s_h7<|CN 3<|QQ sl9<|MM (lown 43 0 (AV.agg [(AV.str ((list.g i0).name)),(AV.str ((list.g i0).crew)),(AV.int .i64 ((list.g i0).rank)),(AV.int .i64 ((list.g i0).lag)),(AV.int .i64 ((list.g i0).takes))]) g_h7 k!)<|EE k11<|CC<|HH (lown 43 0 (AV.agg [(AV.str ((list.g i0).name)),(AV.str ((list.g i0).crew)),(AV.int .i64 ((list.g i0).rank)),(AV.int .i64 ((list.g i0).lag)),(AV.int .i64 ((list.g i0).takes))]) g_h7 k!)<|HH c12<|CC<|VV (ineq 29 false true .i64 (P i0) 0)<|BB f1<|CN 2<|ZZ) k!
     exact OptLoop.ret (P i0) (by simp only[w_checkListMeasure_l0,f1,cond_true,cond_false]) ev (⟨y_h7,a_h7,by omega⟩) k!
   · have n_f1:=nF_ f1
     have q1:(decide (((i0:Nat):Int)<((list.length:Nat):Int)))=true:=d!
     obtain ⟨p3,q4,ix2_⟩:=(H0_0.has a_hh).elem (i:=i0) o!
     have ix2:idxK env (some (.slice 43)) (some listV) (some (AV.int .i64 ((i0:Nat):Int)))=some (AV.ptr p3 q4):=ix2_
     have ld5:loadA env hh 43 (AV.ptr p3 q4)=some (AV.agg [(AV.str ((list.g i0).name)),(AV.str ((list.g i0).crew)),(AV.int .i64 ((list.g i0).rank)),(AV.int .i64 ((list.g i0).lag)),(AV.int .i64 ((list.g i0).takes))]):=(H0_0.has a_hh).load o! ix2_
     obtain ⟨h6,n_h6,y_h6,z_h6,g_h6,b_h6⟩:=nwB y_hh (AObj.cells [(AV.str []),(AV.str []),(AV.int .i64 0),(AV.int .i64 0),(AV.int .i64 0)] 43 false)
     have a_h6:Has hh h6:=b_h6
     obtain ⟨h7,s_h7,y_h7,z_h7,g_h7,kk_h7⟩:=stwB (t:=43) (n:=5) (i:=hh.nx) (L:=[(AV.str ((list.g i0).name)),(AV.str ((list.g i0).crew)),(AV.int .i64 ((list.g i0).rank)),(AV.int .i64 ((list.g i0).lag)),(AV.int .i64 ((list.g i0).takes))]) y_h6 g_h6 k! rfl rfl (by simp only[AV.cells,List.all_cons,List.all_nil,Bool.and_true,Bool.and_self,sc_int,sc_bool,sc_str,sc_ptr,sc_slice,sc_ns,sc_np,sc_nm,sc_nf,sc_ni,sc_map])
     have a_h7:Has hh h7:=Has.of_kept a_h6 kk_h7 y_hh o!
     obtain ⟨r8,sl9_,fr10⟩:=(H0_0.has a_hh).pre (t:=23) k! (i:=i0) o!
     have sl9:sliceA env 23 listV (none) (some (AV.int .i64 ((i0:Nat):Int))) (none)=some r8:=sl9_
     have k11:=hP i0 o! r8 h7 y_h7 (a_hh.trans a_h7) (fr10.has a_h7)
     have c12:AV.same 20 (AV.agg [(AV.str ((list.g i0).name)),(AV.str ((list.g i0).crew)),(AV.int .i64 ((list.g i0).rank)),(AV.int .i64 ((list.g i0).lag)),(AV.int .i64 ((list.g i0).takes))]) (AV.agg [(AV.str ((list.g i0).name)),(AV.str ((list.g i0).crew)),(AV.int .i64 ((list.g i0).rank)),(AV.int .i64 ((list.g i0).lag)),(AV.int .i64 ((list.g i0).takes))])=true:=same_agg 18 (sc_ (fun n=>same_str n _) (sc_ (fun n=>same_str n _) (sc_ (fun n=>same_int n _ _) (sc_ (fun n=>same_int n _ _) (sc_ (fun n=>same_int n _ _) sn_)))))
     have u14:=nadd 3 false true i0 1 o!
     have ev:=pk (d) w_checkListMeasure_lp0 (listV::(x 1)::(AV.func g [] cap)::rx x 3 11 (listV::(AV.int .i64 ((list.length:Nat):Int))::(AV.int .i64 ((i0:Nat):Int))::rx x 17 14 [])) hh .normal h7 (VV (ilss 3 false false .i64 ((i0:Nat):Int) ((list.length:Nat):Int))<|BB q1<|CC<|VV ix2<|MM ld5<|NN n_h6 (fun i=>(AV.ptr i 0))<|CC<|SS s_h7<|CN 3<|QQ sl9<|MM (lown 43 0 (AV.agg [(AV.str ((list.g i0).name)),(AV.str ((list.g i0).crew)),(AV.int .i64 ((list.g i0).rank)),(AV.int .i64 ((list.g i0).lag)),(AV.int .i64 ((list.g i0).takes))]) g_h7 k!)<|EE k11<|CC<|HH (lown 43 0 (AV.agg [(AV.str ((list.g i0).name)),(AV.str ((list.g i0).crew)),(AV.int .i64 ((list.g i0).rank)),(AV.int .i64 ((list.g i0).lag)),(AV.int .i64 ((list.g i0).takes))]) g_h7 k!)<|HH c12<|CC<|VV (ineq 29 false true .i64 (P i0) 0)<|BB f1<|VV u14<|CC<|ZZ) k!
     exact OptLoop.round (by simp only[w_checkListMeasure_l0,f1,cond_true,cond_false]) ev (⟨y_h7,a_h7,by omega⟩) (fun x=>(listV::(x 1)::(AV.func g [] cap)::rx x 3 11 (listV::(AV.int .i64 ((list.length:Nat):Int))::(AV.int .i64 (((i0+1):Nat):Int))::rx x 17 14 []))) k! (fun x=>w_checkListMeasure_l0_t listV g cap list P H0_0 hP kq0 (i0+1) o! x h7 y_h7 (a_hh.trans a_h7))
def w_checkListMeasure (list:List Measure) (most:Int) (P:Nat→Int):Int:=(bif (decide (most<((list.length:Nat):Int))) then 3 else (match (w_checkListMeasure_l0 P list list.length 0) with | none=>0 | some rr4=>rr4))
theorem w_checkListMeasure_c {d:Nat} {h:Heap} {listV:AV} {g:FuncId} {cap:List AV} (list:List Measure) (most:Int) (P:Nat→Int) (h_list:RowsAt h listV list) (hP:∀j,j<list.length→∀aV hh,Tidy hh→Has h hh→RowsAt hh aV (list.take j)→cal d (.fn g) (aV:: .agg (RowT.c (list.g j))::cap) hh= .ret (.int .i64 (P j)) hh) (y_h:Tidy h):cal (d+1) (.fn 30) [listV,(AV.int .i64 most),(AV.func g [] cap)] h= .ret (AV.int .i64 (w_checkListMeasure list most P)) h:=by
 have s_h_list:=h_list.small
 rcases Bool.eq_false_or_eq_true (decide (most<((list.length:Nat):Int))) with f0 | f0
 · have n_f0:=of_decide_eq_true f0
   have ln1:lenK (some (.slice 43)) (some listV)=some (AV.int .i64 ((list.length:Nat):Int)):=h_list.len
   have ev:=pk (d) w_checkListMeasure_body (listV::(AV.int .i64 most)::(AV.func g [] cap)::und 28) h .ret h (CN 2<|VV ln1<|CC<|VV (igtr 3 false false .i64 ((list.length:Nat):Int) most)<|BB f0<|CC<|ZZ) k!
   have e:w_checkListMeasure list most P=3:=by simp only[w_checkListMeasure,f0,cond_true,cond_false]
   rw[e]
   exact callP_pure rfl (fn_of Tryz.func30 w_checkListMeasure_B k! (.inr rfl) ev k!) (Has.refl _) rfl
 · have n_f0:=of_decide_eq_false f0
   cases hl_yl4:w_checkListMeasure_l0 P list list.length 0 with
   | none=>
     have ln1:lenK (some (.slice 43)) (some listV)=some (AV.int .i64 ((list.length:Nat):Int)):=h_list.len
     have ln3:lenK (some (.slice 43)) (some listV)=some (AV.int .i64 ((list.length:Nat):Int)):=h_list.len
     obtain ⟨yl4,h5,ev_yl4,G_h5⟩:=OptLoop.n hl_yl4 (w_checkListMeasure_l0_t (d:=d) (h:=h) listV g cap list P h_list hP list.length 0 o! (fun k_=>((listV::(AV.int .i64 most)::(AV.func g [] cap)::AV.undef::AV.undef::AV.undef::(AV.int .i64 0)::AV.undef::AV.undef::AV.undef::listV::(AV.int .i64 ((list.length:Nat):Int))::(AV.int .i64 most)::(AV.bool (decide (most<((list.length:Nat):Int))))::listV::(AV.int .i64 ((list.length:Nat):Int))::(AV.int .i64 0)::und 14):List AV).getD k_ AV.undef) h y_h (Has.refl _))
     have y_h5:=G_h5.y
     have m_h5:h.nx≤h5.nx:=G_h5.n
     have a_h5:Has h h5:=G_h5.a
     have ev:=pk (d) w_checkListMeasure_body (listV::(AV.int .i64 most)::(AV.func g [] cap)::und 28) h .ret h5 (CN 2<|VV ln1<|CC<|VV (igtr 3 false false .i64 ((list.length:Nat):Int) most)<|BB f0<|CC<|VV ln3<|CC<|LL ev_yl4<|CC<|ZZ) k!
     have e:w_checkListMeasure list most P=0:=by simp only[w_checkListMeasure,f0,hl_yl4,cond_true,cond_false]
     rw[e]
     exact callP_pure rfl (fn_of Tryz.func30 w_checkListMeasure_B k! (.inr rfl) ev k!) a_h5 rfl
   | some rr4=>
     have ln1:lenK (some (.slice 43)) (some listV)=some (AV.int .i64 ((list.length:Nat):Int)):=h_list.len
     have ln3:lenK (some (.slice 43)) (some listV)=some (AV.int .i64 ((list.length:Nat):Int)):=h_list.len
     obtain ⟨yl4,h5,ev_yl4,G_h5⟩:=OptLoop.r hl_yl4 (w_checkListMeasure_l0_t (d:=d) (h:=h) listV g cap list P h_list hP list.length 0 o! (fun k_=>((listV::(AV.int .i64 most)::(AV.func g [] cap)::AV.undef::AV.undef::AV.undef::(AV.int .i64 0)::AV.undef::AV.undef::AV.undef::listV::(AV.int .i64 ((list.length:Nat):Int))::(AV.int .i64 most)::(AV.bool (decide (most<((list.length:Nat):Int))))::listV::(AV.int .i64 ((list.length:Nat):Int))::(AV.int .i64 0)::und 14):List AV).getD k_ AV.undef) h y_h (Has.refl _))
     have y_h5:=G_h5.y
     have m_h5:h.nx≤h5.nx:=G_h5.n
     have a_h5:Has h h5:=G_h5.a
     have ev:=pk (d) w_checkListMeasure_body (listV::(AV.int .i64 most)::(AV.func g [] cap)::und 28) h .ret h5 (CN 2<|VV ln1<|CC<|VV (igtr 3 false false .i64 ((list.length:Nat):Int) most)<|BB f0<|CC<|VV ln3<|CC<|LL ev_yl4<|ZZ) k!
     have e:w_checkListMeasure list most P=rr4:=by simp only[w_checkListMeasure,f0,hl_yl4,cond_true,cond_false]
     rw[e]
     exact callP_pure rfl (fn_of Tryz.func30 w_checkListMeasure_B k! (.inr rfl) ev k!) a_h5 rfl
noncomputable def w_checkListQuantity_body:Code:=(Tryz.f29.body).getD .skip
theorem w_checkListQuantity_B:Tryz.f29.body=some w_checkListQuantity_body:=by kernel_rfl
noncomputable def w_checkListQuantity_lp0:Code:=(loopsIn w_checkListQuantity_body).getD 0 .skip
def w_checkListQuantity_l0 (P:Nat→Int) (list:List Quantity):Nat→Nat→Option (Int)
 | 0,_=>none
 | kq0+1,i0=>(bif (!decide ((P i0)=0)) then some (P i0) else w_checkListQuantity_l0 P list kq0 (i0+1))
theorem w_checkListQuantity_l0_t {d:Nat} {h:Heap} (listV:AV) (g:FuncId) (cap:List AV) (list:List Quantity) (P:Nat→Int) (H0_0:RowsAt h listV list) (hP:∀j,j<list.length→∀aV hh,Tidy hh→Has h hh→RowsAt hh aV (list.take j)→cal d (.fn g) (aV:: .agg (RowT.c (list.g j))::cap) hh= .ret (.int .i64 (P j)) hh):∀(k_ i_:Nat) (_:i_+k_=list.length) (x:Nat→AV) (hh:Heap) (y_hh:Tidy hh) (a_hh:Has h hh),OptLoop (cal (d)) w_checkListQuantity_lp0 ⟨(listV::(x 1)::(AV.func g [] cap)::rx x 3 11 (listV::(AV.int .i64 ((list.length:Nat):Int))::(AV.int .i64 ((i_:Nat):Int))::rx x 17 14 [])),hh,[],.no⟩ (.exit 0) hh (fun y=>(listV::(y 1)::(AV.func g [] cap)::rx y 3 11 (listV::(AV.int .i64 ((list.length:Nat):Int))::rx y 16 15 []))) (fun r y=>(listV::(y 1)::(AV.func g [] cap)::rx y 3 3 ((AV.int .i64 r)::rx y 7 7 (listV::(AV.int .i64 ((list.length:Nat):Int))::rx y 16 15 [])))) (w_checkListQuantity_l0 P list k_ i_)
 | 0,i0,hik,x,hh,y_hh,a_hh=>by
   have s_H0_0:=H0_0.small
   have q1:(decide (((i0:Nat):Int)<((list.length:Nat):Int)))=false:=d!
   have ev:=pk (d) w_checkListQuantity_lp0 (listV::(x 1)::(AV.func g [] cap)::rx x 3 11 (listV::(AV.int .i64 ((list.length:Nat):Int))::(AV.int .i64 ((i0:Nat):Int))::rx x 17 14 [])) hh (.exit 0) hh (VV (ilss 3 false false .i64 ((i0:Nat):Int) ((list.length:Nat):Int))<|BB q1<|ZZ) k!
   exact OptLoop.out rfl ev (Grow.refl y_hh) k!
 | kq0+1,i0,hik,x,hh,y_hh,a_hh=>by
   have s_H0_0:=H0_0.small
   rcases Bool.eq_false_or_eq_true (!decide ((P i0)=0)) with f1 | f1
   · have n_f1:=nT_ f1
     have q1:(decide (((i0:Nat):Int)<((list.length:Nat):Int)))=true:=d!
     obtain ⟨p3,q4,ix2_⟩:=(H0_0.has a_hh).elem (i:=i0) o!
     have ix2:idxK env (some (.slice 41)) (some listV) (some (AV.int .i64 ((i0:Nat):Int)))=some (AV.ptr p3 q4):=ix2_
     have ld5:loadA env hh 41 (AV.ptr p3 q4)=some (AV.agg [(AV.str ((list.g i0).name)),(AV.int .i64 ((list.g i0).low)),(AV.int .i64 ((list.g i0).high)),(AV.int .i64 ((list.g i0).rise)),(AV.int .i64 ((list.g i0).fall)),(AV.int .i64 ((list.g i0).bad)),((list.g i0).gaugesV)]):=(H0_0.has a_hh).load o! ix2_
     obtain ⟨h6,n_h6,y_h6,z_h6,g_h6,b_h6⟩:=nwB y_hh (AObj.cells [(AV.str []),(AV.int .i64 0),(AV.int .i64 0),(AV.int .i64 0),(AV.int .i64 0),(AV.int .i64 0),AV.nilslice] 41 false)
     have a_h6:Has hh h6:=b_h6
     have sc8:AV.scalar ((list.g i0).gaugesV)=true:=(((H0_0.has a_hh).ok (i:=i0) o!).2).scalar
     obtain ⟨h7,s_h7,y_h7,z_h7,g_h7,kk_h7⟩:=stwB (t:=41) (n:=7) (i:=hh.nx) (L:=[(AV.str ((list.g i0).name)),(AV.int .i64 ((list.g i0).low)),(AV.int .i64 ((list.g i0).high)),(AV.int .i64 ((list.g i0).rise)),(AV.int .i64 ((list.g i0).fall)),(AV.int .i64 ((list.g i0).bad)),((list.g i0).gaugesV)]) y_h6 g_h6 k! rfl rfl (by simp only[AV.cells,List.all_cons,List.all_nil,Bool.and_true,Bool.and_self,sc_int,sc_bool,sc_str,sc_ptr,sc_slice,sc_ns,sc_np,sc_nm,sc_nf,sc_ni,sc_map,sc8])
     have a_h7:Has hh h7:=Has.of_kept a_h6 kk_h7 y_hh o!
     obtain ⟨r9,sl10_,fr11⟩:=(H0_0.has a_hh).pre (t:=22) k! (i:=i0) o!
     have sl10:sliceA env 22 listV (none) (some (AV.int .i64 ((i0:Nat):Int))) (none)=some r9:=sl10_
     have k12:=hP i0 o! r9 h7 y_h7 (a_hh.trans a_h7) (fr11.has a_h7)
     have c13:AV.same 20 (AV.agg [(AV.str ((list.g i0).name)),(AV.int .i64 ((list.g i0).low)),(AV.int .i64 ((list.g i0).high)),(AV.int .i64 ((list.g i0).rise)),(AV.int .i64 ((list.g i0).fall)),(AV.int .i64 ((list.g i0).bad)),((list.g i0).gaugesV)]) (AV.agg [(AV.str ((list.g i0).name)),(AV.int .i64 ((list.g i0).low)),(AV.int .i64 ((list.g i0).high)),(AV.int .i64 ((list.g i0).rise)),(AV.int .i64 ((list.g i0).fall)),(AV.int .i64 ((list.g i0).bad)),((list.g i0).gaugesV)])=true:=same_agg 18 (sc_ (fun n=>same_str n _) (sc_ (fun n=>same_int n _ _) (sc_ (fun n=>same_int n _ _) (sc_ (fun n=>same_int n _ _) (sc_ (fun n=>same_int n _ _) (sc_ (fun n=>same_int n _ _) (sc_ (((H0_0.has a_hh).ok (i:=i0) o!).2).same sn_)))))))
     have ev:=pk (d) w_checkListQuantity_lp0 (listV::(x 1)::(AV.func g [] cap)::rx x 3 11 (listV::(AV.int .i64 ((list.length:Nat):Int))::(AV.int .i64 ((i0:Nat):Int))::rx x 17 14 [])) hh .ret h7 (VV (ilss 3 false false .i64 ((i0:Nat):Int) ((list.length:Nat):Int))<|BB q1<|CC<|VV ix2<|MM ld5<|NN n_h6 (fun i=>(AV.ptr i 0))<|CC<|SS s_h7<|CN 3<|QQ sl10<|MM (lown 41 0 (AV.agg [(AV.str ((list.g i0).name)),(AV.int .i64 ((list.g i0).low)),(AV.int .i64 ((list.g i0).high)),(AV.int .i64 ((list.g i0).rise)),(AV.int .i64 ((list.g i0).fall)),(AV.int .i64 ((list.g i0).bad)),((list.g i0).gaugesV)]) g_h7 k!)<|EE k12<|CC<|HH (lown 41 0 (AV.agg [(AV.str ((list.g i0).name)),(AV.int .i64 ((list.g i0).low)),(AV.int .i64 ((list.g i0).high)),(AV.int .i64 ((list.g i0).rise)),(AV.int .i64 ((list.g i0).fall)),(AV.int .i64 ((list.g i0).bad)),((list.g i0).gaugesV)]) g_h7 k!)<|HH c13<|CC<|VV (ineq 29 false true .i64 (P i0) 0)<|BB f1<|CN 2<|ZZ) k!
     exact OptLoop.ret (P i0) (by simp only[w_checkListQuantity_l0,f1,cond_true,cond_false]) ev (⟨y_h7,a_h7,by omega⟩) k!
   · have n_f1:=nF_ f1
     have q1:(decide (((i0:Nat):Int)<((list.length:Nat):Int)))=true:=d!
     obtain ⟨p3,q4,ix2_⟩:=(H0_0.has a_hh).elem (i:=i0) o!
     have ix2:idxK env (some (.slice 41)) (some listV) (some (AV.int .i64 ((i0:Nat):Int)))=some (AV.ptr p3 q4):=ix2_
     have ld5:loadA env hh 41 (AV.ptr p3 q4)=some (AV.agg [(AV.str ((list.g i0).name)),(AV.int .i64 ((list.g i0).low)),(AV.int .i64 ((list.g i0).high)),(AV.int .i64 ((list.g i0).rise)),(AV.int .i64 ((list.g i0).fall)),(AV.int .i64 ((list.g i0).bad)),((list.g i0).gaugesV)]):=(H0_0.has a_hh).load o! ix2_
     obtain ⟨h6,n_h6,y_h6,z_h6,g_h6,b_h6⟩:=nwB y_hh (AObj.cells [(AV.str []),(AV.int .i64 0),(AV.int .i64 0),(AV.int .i64 0),(AV.int .i64 0),(AV.int .i64 0),AV.nilslice] 41 false)
     have a_h6:Has hh h6:=b_h6
     have sc8:AV.scalar ((list.g i0).gaugesV)=true:=(((H0_0.has a_hh).ok (i:=i0) o!).2).scalar
     obtain ⟨h7,s_h7,y_h7,z_h7,g_h7,kk_h7⟩:=stwB (t:=41) (n:=7) (i:=hh.nx) (L:=[(AV.str ((list.g i0).name)),(AV.int .i64 ((list.g i0).low)),(AV.int .i64 ((list.g i0).high)),(AV.int .i64 ((list.g i0).rise)),(AV.int .i64 ((list.g i0).fall)),(AV.int .i64 ((list.g i0).bad)),((list.g i0).gaugesV)]) y_h6 g_h6 k! rfl rfl (by simp only[AV.cells,List.all_cons,List.all_nil,Bool.and_true,Bool.and_self,sc_int,sc_bool,sc_str,sc_ptr,sc_slice,sc_ns,sc_np,sc_nm,sc_nf,sc_ni,sc_map,sc8])
     have a_h7:Has hh h7:=Has.of_kept a_h6 kk_h7 y_hh o!
     obtain ⟨r9,sl10_,fr11⟩:=(H0_0.has a_hh).pre (t:=22) k! (i:=i0) o!
     have sl10:sliceA env 22 listV (none) (some (AV.int .i64 ((i0:Nat):Int))) (none)=some r9:=sl10_
     have k12:=hP i0 o! r9 h7 y_h7 (a_hh.trans a_h7) (fr11.has a_h7)
     have c13:AV.same 20 (AV.agg [(AV.str ((list.g i0).name)),(AV.int .i64 ((list.g i0).low)),(AV.int .i64 ((list.g i0).high)),(AV.int .i64 ((list.g i0).rise)),(AV.int .i64 ((list.g i0).fall)),(AV.int .i64 ((list.g i0).bad)),((list.g i0).gaugesV)]) (AV.agg [(AV.str ((list.g i0).name)),(AV.int .i64 ((list.g i0).low)),(AV.int .i64 ((list.g i0).high)),(AV.int .i64 ((list.g i0).rise)),(AV.int .i64 ((list.g i0).fall)),(AV.int .i64 ((list.g i0).bad)),((list.g i0).gaugesV)])=true:=same_agg 18 (sc_ (fun n=>same_str n _) (sc_ (fun n=>same_int n _ _) (sc_ (fun n=>same_int n _ _) (sc_ (fun n=>same_int n _ _) (sc_ (fun n=>same_int n _ _) (sc_ (fun n=>same_int n _ _) (sc_ (((H0_0.has a_hh).ok (i:=i0) o!).2).same sn_)))))))
     have u15:=nadd 3 false true i0 1 o!
     have ev:=pk (d) w_checkListQuantity_lp0 (listV::(x 1)::(AV.func g [] cap)::rx x 3 11 (listV::(AV.int .i64 ((list.length:Nat):Int))::(AV.int .i64 ((i0:Nat):Int))::rx x 17 14 [])) hh .normal h7 (VV (ilss 3 false false .i64 ((i0:Nat):Int) ((list.length:Nat):Int))<|BB q1<|CC<|VV ix2<|MM ld5<|NN n_h6 (fun i=>(AV.ptr i 0))<|CC<|SS s_h7<|CN 3<|QQ sl10<|MM (lown 41 0 (AV.agg [(AV.str ((list.g i0).name)),(AV.int .i64 ((list.g i0).low)),(AV.int .i64 ((list.g i0).high)),(AV.int .i64 ((list.g i0).rise)),(AV.int .i64 ((list.g i0).fall)),(AV.int .i64 ((list.g i0).bad)),((list.g i0).gaugesV)]) g_h7 k!)<|EE k12<|CC<|HH (lown 41 0 (AV.agg [(AV.str ((list.g i0).name)),(AV.int .i64 ((list.g i0).low)),(AV.int .i64 ((list.g i0).high)),(AV.int .i64 ((list.g i0).rise)),(AV.int .i64 ((list.g i0).fall)),(AV.int .i64 ((list.g i0).bad)),((list.g i0).gaugesV)]) g_h7 k!)<|HH c13<|CC<|VV (ineq 29 false true .i64 (P i0) 0)<|BB f1<|VV u15<|CC<|ZZ) k!
     exact OptLoop.round (by simp only[w_checkListQuantity_l0,f1,cond_true,cond_false]) ev (⟨y_h7,a_h7,by omega⟩) (fun x=>(listV::(x 1)::(AV.func g [] cap)::rx x 3 11 (listV::(AV.int .i64 ((list.length:Nat):Int))::(AV.int .i64 (((i0+1):Nat):Int))::rx x 17 14 []))) k! (fun x=>w_checkListQuantity_l0_t listV g cap list P H0_0 hP kq0 (i0+1) o! x h7 y_h7 (a_hh.trans a_h7))
def w_checkListQuantity (list:List Quantity) (most:Int) (P:Nat→Int):Int:=(bif (decide (most<((list.length:Nat):Int))) then 3 else (match (w_checkListQuantity_l0 P list list.length 0) with | none=>0 | some rr4=>rr4))
theorem w_checkListQuantity_c {d:Nat} {h:Heap} {listV:AV} {g:FuncId} {cap:List AV} (list:List Quantity) (most:Int) (P:Nat→Int) (h_list:RowsAt h listV list) (hP:∀j,j<list.length→∀aV hh,Tidy hh→Has h hh→RowsAt hh aV (list.take j)→cal d (.fn g) (aV:: .agg (RowT.c (list.g j))::cap) hh= .ret (.int .i64 (P j)) hh) (y_h:Tidy h):cal (d+1) (.fn 29) [listV,(AV.int .i64 most),(AV.func g [] cap)] h= .ret (AV.int .i64 (w_checkListQuantity list most P)) h:=by
 have s_h_list:=h_list.small
 rcases Bool.eq_false_or_eq_true (decide (most<((list.length:Nat):Int))) with f0 | f0
 · have n_f0:=of_decide_eq_true f0
   have ln1:lenK (some (.slice 41)) (some listV)=some (AV.int .i64 ((list.length:Nat):Int)):=h_list.len
   have ev:=pk (d) w_checkListQuantity_body (listV::(AV.int .i64 most)::(AV.func g [] cap)::und 28) h .ret h (CN 2<|VV ln1<|CC<|VV (igtr 3 false false .i64 ((list.length:Nat):Int) most)<|BB f0<|CC<|ZZ) k!
   have e:w_checkListQuantity list most P=3:=by simp only[w_checkListQuantity,f0,cond_true,cond_false]
   rw[e]
   exact callP_pure rfl (fn_of Tryz.func29 w_checkListQuantity_B k! (.inr rfl) ev k!) (Has.refl _) rfl
 · have n_f0:=of_decide_eq_false f0
   cases hl_yl4:w_checkListQuantity_l0 P list list.length 0 with
   | none=>
     have ln1:lenK (some (.slice 41)) (some listV)=some (AV.int .i64 ((list.length:Nat):Int)):=h_list.len
     have ln3:lenK (some (.slice 41)) (some listV)=some (AV.int .i64 ((list.length:Nat):Int)):=h_list.len
     obtain ⟨yl4,h5,ev_yl4,G_h5⟩:=OptLoop.n hl_yl4 (w_checkListQuantity_l0_t (d:=d) (h:=h) listV g cap list P h_list hP list.length 0 o! (fun k_=>((listV::(AV.int .i64 most)::(AV.func g [] cap)::AV.undef::AV.undef::AV.undef::(AV.int .i64 0)::AV.undef::AV.undef::AV.undef::listV::(AV.int .i64 ((list.length:Nat):Int))::(AV.int .i64 most)::(AV.bool (decide (most<((list.length:Nat):Int))))::listV::(AV.int .i64 ((list.length:Nat):Int))::(AV.int .i64 0)::und 14):List AV).getD k_ AV.undef) h y_h (Has.refl _))
     have y_h5:=G_h5.y
     have m_h5:h.nx≤h5.nx:=G_h5.n
     have a_h5:Has h h5:=G_h5.a
     have ev:=pk (d) w_checkListQuantity_body (listV::(AV.int .i64 most)::(AV.func g [] cap)::und 28) h .ret h5 (CN 2<|VV ln1<|CC<|VV (igtr 3 false false .i64 ((list.length:Nat):Int) most)<|BB f0<|CC<|VV ln3<|CC<|LL ev_yl4<|CC<|ZZ) k!
     have e:w_checkListQuantity list most P=0:=by simp only[w_checkListQuantity,f0,hl_yl4,cond_true,cond_false]
     rw[e]
     exact callP_pure rfl (fn_of Tryz.func29 w_checkListQuantity_B k! (.inr rfl) ev k!) a_h5 rfl
   | some rr4=>
     have ln1:lenK (some (.slice 41)) (some listV)=some (AV.int .i64 ((list.length:Nat):Int)):=h_list.len
     have ln3:lenK (some (.slice 41)) (some listV)=some (AV.int .i64 ((list.length:Nat):Int)):=h_list.len
     obtain ⟨yl4,h5,ev_yl4,G_h5⟩:=OptLoop.r hl_yl4 (w_checkListQuantity_l0_t (d:=d) (h:=h) listV g cap list P h_list hP list.length 0 o! (fun k_=>((listV::(AV.int .i64 most)::(AV.func g [] cap)::AV.undef::AV.undef::AV.undef::(AV.int .i64 0)::AV.undef::AV.undef::AV.undef::listV::(AV.int .i64 ((list.length:Nat):Int))::(AV.int .i64 most)::(AV.bool (decide (most<((list.length:Nat):Int))))::listV::(AV.int .i64 ((list.length:Nat):Int))::(AV.int .i64 0)::und 14):List AV).getD k_ AV.undef) h y_h (Has.refl _))
     have y_h5:=G_h5.y
     have m_h5:h.nx≤h5.nx:=G_h5.n
     have a_h5:Has h h5:=G_h5.a
     have ev:=pk (d) w_checkListQuantity_body (listV::(AV.int .i64 most)::(AV.func g [] cap)::und 28) h .ret h5 (CN 2<|VV ln1<|CC<|VV (igtr 3 false false .i64 ((list.length:Nat):Int) most)<|BB f0<|CC<|VV ln3<|CC<|LL ev_yl4<|ZZ) k!
     have e:w_checkListQuantity list most P=rr4:=by simp only[w_checkListQuantity,f0,hl_yl4,cond_true,cond_false]
     rw[e]
     exact callP_pure rfl (fn_of Tryz.func29 w_checkListQuantity_B k! (.inr rfl) ev k!) a_h5 rfl
noncomputable def w_checkMeasure1_body:Code:=(Tryz.f58.body).getD .skip
theorem w_checkMeasure1_B:Tryz.f58.body=some w_checkMeasure1_body:=by kernel_rfl
def w_checkMeasure1 (o:Measure) (c:Measure):Bool:=(decide (o.name=c.name))
theorem w_checkMeasure1_c {d:Nat} {h:Heap} (o:Measure) (c:Measure) (cB:Nat) (h_o:RowT.ok h o) (h_c:RowT.ok h c) (g_c:h.get cB=some (.cells (RowT.c c) 43 false)) (y_h:Tidy h):cal (d+1) (.fn 58) [(AV.agg [(AV.str o.name),(AV.str o.crew),(AV.int .i64 o.rank),(AV.int .i64 o.lag),(AV.int .i64 o.takes)]),(AV.ptr cB 0)] h= .ret (AV.bool (w_checkMeasure1 o c)) h:=by
 obtain ⟨h1,n_h1,y_h1,z_h1,g_h1,b_h1⟩:=nwB y_h (AObj.cells [(AV.str o.name),(AV.str o.crew),(AV.int .i64 o.rank),(AV.int .i64 o.lag),(AV.int .i64 o.takes)] 43 false)
 have a_h1:Has h h1:=b_h1
 have ev:=pk (d) w_checkMeasure1_body ((AV.agg [(AV.str o.name),(AV.str o.crew),(AV.int .i64 o.rank),(AV.int .i64 o.lag),(AV.int .i64 o.takes)])::(AV.ptr cB 0)::und 7) h .ret h1 (NN n_h1 (fun i=>(AV.ptr i 0))<|CN 2<|MM (lown 9 0 (AV.str o.name) g_h1 k!)<|CC<|MM (lown 9 0 (AV.str c.name) (b_h1 _ _ g_c) k!)<|VV (seql 9 false false o.name c.name)<|CC<|ZZ) k!
 have e:w_checkMeasure1 o c=(decide (o.name=c.name)):=by simp only[w_checkMeasure1,cond_true,cond_false]
 rw[e]
 exact callP_pure rfl (fn_of Tryz.func58 w_checkMeasure1_B k! (.inr rfl) ev k!) a_h1 rfl
noncomputable def w_checkMeasure2_body:Code:=(Tryz.f59.body).getD .skip
theorem w_checkMeasure2_B:Tryz.f59.body=some w_checkMeasure2_body:=by kernel_rfl
def w_checkMeasure2 (o:Measure) (c:Measure):Bool:=(bif (decide (o.crew=c.crew)) then (decide (o.rank=c.rank)) else false)
theorem w_checkMeasure2_c {d:Nat} {h:Heap} (o:Measure) (c:Measure) (cB:Nat) (h_o:RowT.ok h o) (h_c:RowT.ok h c) (g_c:h.get cB=some (.cells (RowT.c c) 43 false)) (y_h:Tidy h):cal (d+1) (.fn 59) [(AV.agg [(AV.str o.name),(AV.str o.crew),(AV.int .i64 o.rank),(AV.int .i64 o.lag),(AV.int .i64 o.takes)]),(AV.ptr cB 0)] h= .ret (AV.bool (w_checkMeasure2 o c)) h:=by
 rcases Bool.eq_false_or_eq_true (decide (o.crew=c.crew)) with f0 | f0
 · have n_f0:=of_decide_eq_true f0
   obtain ⟨h1,n_h1,y_h1,z_h1,g_h1,b_h1⟩:=nwB y_h (AObj.cells [(AV.str o.name),(AV.str o.crew),(AV.int .i64 o.rank),(AV.int .i64 o.lag),(AV.int .i64 o.takes)] 43 false)
   have a_h1:Has h h1:=b_h1
   have ev:=pk (d) w_checkMeasure2_body ((AV.agg [(AV.str o.name),(AV.str o.crew),(AV.int .i64 o.rank),(AV.int .i64 o.lag),(AV.int .i64 o.takes)])::(AV.ptr cB 0)::und 14) h .ret h1 (NN n_h1 (fun i=>(AV.ptr i 0))<|CN 2<|MM (lown 9 1 (AV.str o.crew) g_h1 k!)<|CC<|MM (lown 9 1 (AV.str c.crew) (b_h1 _ _ g_c) k!)<|VV (seql 9 false false o.crew c.crew)<|CC<|BB f0<|CC<|BB f0<|MM (lown 3 2 (AV.int .i64 o.rank) g_h1 k!)<|BB f0<|CC<|BB f0<|MM (lown 3 2 (AV.int .i64 c.rank) (b_h1 _ _ g_c) k!)<|BB f0<|VV (ieql 3 false false .i64 o.rank c.rank)<|VV (pick_t (a:=some (AV.bool (decide (o.rank=c.rank)))) (b:=some (AV.bool false)) f0)<|CC<|ZZ) k!
   have e:w_checkMeasure2 o c=(decide (o.rank=c.rank)):=by simp only[w_checkMeasure2,f0,cond_true,cond_false]
   rw[e]
   exact callP_pure rfl (fn_of Tryz.func59 w_checkMeasure2_B k! (.inr rfl) ev k!) a_h1 rfl
 · have n_f0:=of_decide_eq_false f0
   obtain ⟨h1,n_h1,y_h1,z_h1,g_h1,b_h1⟩:=nwB y_h (AObj.cells [(AV.str o.name),(AV.str o.crew),(AV.int .i64 o.rank),(AV.int .i64 o.lag),(AV.int .i64 o.takes)] 43 false)
   have a_h1:Has h h1:=b_h1
   have ev:=pk (d) w_checkMeasure2_body ((AV.agg [(AV.str o.name),(AV.str o.crew),(AV.int .i64 o.rank),(AV.int .i64 o.lag),(AV.int .i64 o.takes)])::(AV.ptr cB 0)::und 14) h .ret h1 (NN n_h1 (fun i=>(AV.ptr i 0))<|CN 2<|MM (lown 9 1 (AV.str o.crew) g_h1 k!)<|CC<|MM (lown 9 1 (AV.str c.crew) (b_h1 _ _ g_c) k!)<|VV (seql 9 false false o.crew c.crew)<|CC<|BB f0<|BB f0<|BB f0<|BB f0<|BB f0<|VV (pick_f (a:=some AV.undef) (b:=some (AV.bool false)) f0)<|CC<|ZZ) k!
   have e:w_checkMeasure2 o c=false:=by simp only[w_checkMeasure2,f0,cond_true,cond_false]
   rw[e]
   exact callP_pure rfl (fn_of Tryz.func59 w_checkMeasure2_B k! (.inr rfl) ev k!) a_h1 rfl
end Go.Proofs.Bench
