import Derived.Test.YtjpijdaopopeeaaGreatW0
import Derived.Test.YtjpijdaopopeeaaGreatW2
import Derived.Test.YtjpijdaopopeeaaGreatW1
import Derived.Test.YtjpijdaopopeeaaGreatW3
import Derived.Test.YtjpijdaopopeeaaGreatW4
namespace Go.Proofs.Bench
open Go.Proofs Ab
set_option maxRecDepth 100000
set_option maxHeartbeats 4000000
set_option linter.unusedVariables false
set_option linter.unusedSimpArgs false
noncomputable def r_Check_body:Code:=(Tryz.f19.body).getD .skip
theorem r_Check_B:Tryz.f19.body=some r_Check_body:=by kernel_rfl
noncomputable def r_Check_lp0:Code:=(loopsIn r_Check_body).getD 0 .skip
noncomputable def r_Check_lp1:Code:=(loopsIn r_Check_body).getD 1 .skip
noncomputable def r_Check_lp2:Code:=(loopsIn r_Check_body).getD 2 .skip
noncomputable def r_Check_lp3:Code:=(loopsIn r_Check_body).getD 3 .skip
def r_Check_l1 (i0:Nat) (p:Plan):Nat→Nat→Option (Int)
 | 0,_=>none
 | kq1+1,i1=>(bif (decide (((p.quantities.g i1).name)=((p.quantities.g i0).name))) then some 6 else r_Check_l1 i0 p kq1 (i1+1))
theorem r_Check_l1_t {d:Nat} {h:Heap} (i0:Nat) (p:Plan) (b1_0:Nat) (H1_0:RowsAt h p.quantitiesV p.quantities) (H1_1:RowsAt h p.measuresV p.measures) (H1_2:RowsAt h p.alarmsV p.alarms) (O1_0:RowT.ok h p) (B1_i0:i0<p.quantities.length):∀(k_ i_:Nat) (_:i_+k_=i0) (x:Nat→AV) (hh:Heap) (y_hh:Tidy hh) (a_hh:Has h hh) (G1_0:hh.get b1_0=some (AObj.cells [p.quantitiesV,p.measuresV,p.alarmsV] 26 false)),OptLoop (cal (d+3)) r_Check_lp1 ⟨((x 0)::(AV.ptr b1_0 0)::(x 2)::(AV.int .i64 ((i0:Nat):Int))::(AV.int .i64 ((i_:Nat):Int))::rx x 5 92 []),hh,[],.no⟩ (.exit 2) hh (fun y=>((y 0)::(AV.ptr b1_0 0)::(y 2)::(AV.int .i64 ((i0:Nat):Int))::rx y 4 93 [])) (fun r y=>((y 0)::(AV.ptr b1_0 0)::(AV.int .i64 r)::(AV.int .i64 ((i0:Nat):Int))::rx y 4 93 [])) (r_Check_l1 i0 p k_ i_)
 | 0,i1,hik,x,hh,y_hh,a_hh,G1_0=>by
   have s_H1_0:=H1_0.small
   have s_H1_1:=H1_1.small
   have s_H1_2:=H1_2.small
   have T1_0:=y_hh _ _ G1_0
   have q1:(decide (((i1:Nat):Int)<((i0:Nat):Int)))=false:=d!
   have ev:=pk (d+3) r_Check_lp1 ((x 0)::(AV.ptr b1_0 0)::(x 2)::(AV.int .i64 ((i0:Nat):Int))::(AV.int .i64 ((i1:Nat):Int))::rx x 5 92 []) hh (.exit 2) hh (CN 2<|VV (ilss 3 false false .i64 ((i1:Nat):Int) ((i0:Nat):Int))<|BB q1<|ZZ) k!
   exact OptLoop.out rfl ev (Grow.refl y_hh) k!
 | kq1+1,i1,hik,x,hh,y_hh,a_hh,G1_0=>by
   have s_H1_0:=H1_0.small
   have s_H1_1:=H1_1.small
   have s_H1_2:=H1_2.small
   have T1_0:=y_hh _ _ G1_0
   rcases Bool.eq_false_or_eq_true (decide (((p.quantities.g i1).name)=((p.quantities.g i0).name))) with f1 | f1
   · have n_f1:=of_decide_eq_true f1
     have q1:(decide (((i1:Nat):Int)<((i0:Nat):Int)))=true:=d!
     obtain ⟨p3,q4,ix2_⟩:=(H1_0.has a_hh).elem (i:=i1) o!
     have ix2:idxK env (some (.slice 41)) (some p.quantitiesV) (some (AV.int .i64 ((i1:Nat):Int)))=some (AV.ptr p3 q4):=ix2_
     have ld5:loadA env hh 9 (AV.ptr p3 (q4+0))=some (AV.str ((p.quantities.g i1).name)):=(H1_0.has a_hh).part (t:=9) (j:=0) o! ix2_ k! rfl
     obtain ⟨p7,q8,ix6_⟩:=(H1_0.has a_hh).elem (i:=i0) o!
     have ix6:idxK env (some (.slice 41)) (some p.quantitiesV) (some (AV.int .i64 ((i0:Nat):Int)))=some (AV.ptr p7 q8):=ix6_
     have ld9:loadA env hh 9 (AV.ptr p7 (q8+0))=some (AV.str ((p.quantities.g i0).name)):=(H1_0.has a_hh).part (t:=9) (j:=0) o! ix6_ k! rfl
     have c10:AV.same 20 p.quantitiesV p.quantitiesV=true:=(H1_0.has a_hh).same 19
     have ev:=pk (d+3) r_Check_lp1 ((x 0)::(AV.ptr b1_0 0)::(x 2)::(AV.int .i64 ((i0:Nat):Int))::(AV.int .i64 ((i1:Nat):Int))::rx x 5 92 []) hh .ret hh (CN 2<|VV (ilss 3 false false .i64 ((i1:Nat):Int) ((i0:Nat):Int))<|BB q1<|CC<|MM (lown 22 0 p.quantitiesV G1_0 k!)<|CC<|VV ix2<|CC<|MM ld5<|CC<|MM (lown 22 0 p.quantitiesV G1_0 k!)<|CC<|VV ix6<|CC<|MM ld9<|VV (seql 9 false false ((p.quantities.g i1).name) ((p.quantities.g i0).name))<|HH (lown 22 0 p.quantitiesV G1_0 k!)<|HH c10<|HH ld5<|HH (show AV.same 20 (AV.str ((p.quantities.g i1).name)) (AV.str ((p.quantities.g i1).name))=true from same_str 19 _)<|HH (lown 22 0 p.quantitiesV G1_0 k!)<|HH c10<|HH ld9<|HH (show AV.same 20 (AV.str ((p.quantities.g i0).name)) (AV.str ((p.quantities.g i0).name))=true from same_str 19 _)<|BB f1<|CC<|ZZ) k!
     exact OptLoop.ret 6 (by simp only[r_Check_l1,f1,cond_true,cond_false]) ev (Grow.refl y_hh) k!
   · have n_f1:=of_decide_eq_false f1
     have q1:(decide (((i1:Nat):Int)<((i0:Nat):Int)))=true:=d!
     obtain ⟨p3,q4,ix2_⟩:=(H1_0.has a_hh).elem (i:=i1) o!
     have ix2:idxK env (some (.slice 41)) (some p.quantitiesV) (some (AV.int .i64 ((i1:Nat):Int)))=some (AV.ptr p3 q4):=ix2_
     have ld5:loadA env hh 9 (AV.ptr p3 (q4+0))=some (AV.str ((p.quantities.g i1).name)):=(H1_0.has a_hh).part (t:=9) (j:=0) o! ix2_ k! rfl
     obtain ⟨p7,q8,ix6_⟩:=(H1_0.has a_hh).elem (i:=i0) o!
     have ix6:idxK env (some (.slice 41)) (some p.quantitiesV) (some (AV.int .i64 ((i0:Nat):Int)))=some (AV.ptr p7 q8):=ix6_
     have ld9:loadA env hh 9 (AV.ptr p7 (q8+0))=some (AV.str ((p.quantities.g i0).name)):=(H1_0.has a_hh).part (t:=9) (j:=0) o! ix6_ k! rfl
     have c10:AV.same 20 p.quantitiesV p.quantitiesV=true:=(H1_0.has a_hh).same 19
     have u12:=nadd 3 false true i1 1 o!
     have ev:=pk (d+3) r_Check_lp1 ((x 0)::(AV.ptr b1_0 0)::(x 2)::(AV.int .i64 ((i0:Nat):Int))::(AV.int .i64 ((i1:Nat):Int))::rx x 5 92 []) hh .normal hh (CN 2<|VV (ilss 3 false false .i64 ((i1:Nat):Int) ((i0:Nat):Int))<|BB q1<|CC<|MM (lown 22 0 p.quantitiesV G1_0 k!)<|CC<|VV ix2<|CC<|MM ld5<|CC<|MM (lown 22 0 p.quantitiesV G1_0 k!)<|CC<|VV ix6<|CC<|MM ld9<|VV (seql 9 false false ((p.quantities.g i1).name) ((p.quantities.g i0).name))<|HH (lown 22 0 p.quantitiesV G1_0 k!)<|HH c10<|HH ld5<|HH (show AV.same 20 (AV.str ((p.quantities.g i1).name)) (AV.str ((p.quantities.g i1).name))=true from same_str 19 _)<|HH (lown 22 0 p.quantitiesV G1_0 k!)<|HH c10<|HH ld9<|HH (show AV.same 20 (AV.str ((p.quantities.g i0).name)) (AV.str ((p.quantities.g i0).name))=true from same_str 19 _)<|BB f1<|CC<|VV u12<|CC<|ZZ) k!
     exact OptLoop.round (by simp only[r_Check_l1,f1,cond_true,cond_false]) ev (Grow.refl y_hh) (fun x=>((x 0)::(AV.ptr b1_0 0)::(x 2)::(AV.int .i64 ((i0:Nat):Int))::(AV.int .i64 (((i1+1):Nat):Int))::rx x 5 92 [])) k! (fun x=>r_Check_l1_t i0 p b1_0 H1_0 H1_1 H1_2 O1_0 B1_i0 kq1 (i1+1) o! x hh y_hh a_hh G1_0)
def r_Check_l0 (p:Plan):Nat→Nat→Option (Int)
 | 0,_=>none
 | kq0+1,i0=>(bif (!(r_Name ((p.quantities.g i0).name))) then some 5 else (match (r_Check_l1 i0 p i0 0) with | none=>(bif (!decide ((r_CheckQuantity (p.quantities.g i0))=0)) then some (r_CheckQuantity (p.quantities.g i0)) else r_Check_l0 p kq0 (i0+1)) | some rr9=>some rr9))
theorem r_Check_l0_t {d:Nat} {h:Heap} (p:Plan) (b0_0:Nat) (H0_0:RowsAt h p.quantitiesV p.quantities) (H0_1:RowsAt h p.measuresV p.measures) (H0_2:RowsAt h p.alarmsV p.alarms) (O0_0:RowT.ok h p):∀(k_ i_:Nat) (_:i_+k_=p.quantities.length) (x:Nat→AV) (hh:Heap) (y_hh:Tidy hh) (a_hh:Has h hh) (G0_0:hh.get b0_0=some (AObj.cells [p.quantitiesV,p.measuresV,p.alarmsV] 26 false)),OptLoop (cal (d+3)) r_Check_lp0 ⟨((x 0)::(AV.ptr b0_0 0)::(x 2)::(AV.int .i64 ((i_:Nat):Int))::rx x 4 93 []),hh,[],.no⟩ (.exit 0) hh (fun y=>((y 0)::(AV.ptr b0_0 0)::rx y 2 95 [])) (fun r y=>((y 0)::(AV.ptr b0_0 0)::(AV.int .i64 r)::rx y 3 94 [])) (r_Check_l0 p k_ i_)
 | 0,i0,hik,x,hh,y_hh,a_hh,G0_0=>by
   have s_H0_0:=H0_0.small
   have s_H0_1:=H0_1.small
   have s_H0_2:=H0_2.small
   have T0_0:=y_hh _ _ G0_0
   have ln1:lenK (some (.slice 41)) (some p.quantitiesV)=some (AV.int .i64 ((p.quantities.length:Nat):Int)):=(H0_0.has a_hh).len
   have q2:(decide (((i0:Nat):Int)<((p.quantities.length:Nat):Int)))=false:=d!
   have ev:=pk (d+3) r_Check_lp0 ((x 0)::(AV.ptr b0_0 0)::(x 2)::(AV.int .i64 ((i0:Nat):Int))::rx x 4 93 []) hh (.exit 0) hh (CN 2<|MM (lown 22 0 p.quantitiesV G0_0 k!)<|VV ln1<|VV (ilss 3 false false .i64 ((i0:Nat):Int) ((p.quantities.length:Nat):Int))<|BB q2<|ZZ) k!
   exact OptLoop.out rfl ev (Grow.refl y_hh) k!
 | kq0+1,i0,hik,x,hh,y_hh,a_hh,G0_0=>by
   have s_H0_0:=H0_0.small
   have s_H0_1:=H0_1.small
   have s_H0_2:=H0_2.small
   have T0_0:=y_hh _ _ G0_0
   rcases Bool.eq_false_or_eq_true (!(r_Name ((p.quantities.g i0).name))) with f1 | f1
   · have ln1:lenK (some (.slice 41)) (some p.quantitiesV)=some (AV.int .i64 ((p.quantities.length:Nat):Int)):=(H0_0.has a_hh).len
     have q2:(decide (((i0:Nat):Int)<((p.quantities.length:Nat):Int)))=true:=d!
     obtain ⟨p4,q5,ix3_⟩:=(H0_0.has a_hh).elem (i:=i0) o!
     have ix3:idxK env (some (.slice 41)) (some p.quantitiesV) (some (AV.int .i64 ((i0:Nat):Int)))=some (AV.ptr p4 q5):=ix3_
     have ld6:loadA env hh 9 (AV.ptr p4 (q5+0))=some (AV.str ((p.quantities.g i0).name)):=(H0_0.has a_hh).part (t:=9) (j:=0) o! ix3_ k! rfl
     have k7:=r_Name_c (d:=d+2) ((p.quantities.g i0).name) ((H0_0.has a_hh).ok (i:=i0) o!).1 y_hh
     have ev:=pk (d+3) r_Check_lp0 ((x 0)::(AV.ptr b0_0 0)::(x 2)::(AV.int .i64 ((i0:Nat):Int))::rx x 4 93 []) hh .ret hh (CN 2<|MM (lown 22 0 p.quantitiesV G0_0 k!)<|VV ln1<|VV (ilss 3 false false .i64 ((i0:Nat):Int) ((p.quantities.length:Nat):Int))<|BB q2<|CC<|MM (lown 22 0 p.quantitiesV G0_0 k!)<|CC<|VV ix3<|CC<|MM ld6<|EE k7<|CC<|BB f1<|CC<|ZZ) k!
     exact OptLoop.ret 5 (by simp only[r_Check_l0,f1,cond_true,cond_false]) ev (Grow.refl y_hh) k!
   · cases hl_yl9:r_Check_l1 i0 p i0 0 with
     | none=>
       rcases Bool.eq_false_or_eq_true (!decide ((r_CheckQuantity (p.quantities.g i0))=0)) with f3 | f3
       · have n_f3:=nT_ f3
         have ln1:lenK (some (.slice 41)) (some p.quantitiesV)=some (AV.int .i64 ((p.quantities.length:Nat):Int)):=(H0_0.has a_hh).len
         have q2:(decide (((i0:Nat):Int)<((p.quantities.length:Nat):Int)))=true:=d!
         obtain ⟨p4,q5,ix3_⟩:=(H0_0.has a_hh).elem (i:=i0) o!
         have ix3:idxK env (some (.slice 41)) (some p.quantitiesV) (some (AV.int .i64 ((i0:Nat):Int)))=some (AV.ptr p4 q5):=ix3_
         have ld6:loadA env hh 9 (AV.ptr p4 (q5+0))=some (AV.str ((p.quantities.g i0).name)):=(H0_0.has a_hh).part (t:=9) (j:=0) o! ix3_ k! rfl
         have k7:=r_Name_c (d:=d+2) ((p.quantities.g i0).name) ((H0_0.has a_hh).ok (i:=i0) o!).1 y_hh
         obtain ⟨yl9,h10,ev_yl9,G_h10⟩:=OptLoop.n hl_yl9 (r_Check_l1_t (d:=d) (h:=hh) i0 p b0_0 (H0_0.has a_hh) (H0_1.has a_hh) (H0_2.has a_hh) (RowT.mono a_hh O0_0) o! i0 0 o! (fun k_=>(((x 0)::(AV.ptr b0_0 0)::(x 2)::(AV.int .i64 ((i0:Nat):Int))::(AV.int .i64 0)::rx x 5 9 ((AV.int .i64 ((i0:Nat):Int))::(AV.ptr b0_0 0)::p.quantitiesV::(AV.int .i64 ((p.quantities.length:Nat):Int))::(AV.bool (decide (((i0:Nat):Int)<((p.quantities.length:Nat):Int))))::(x 19)::(x 20)::(AV.ptr b0_0 0)::p.quantitiesV::(AV.int .i64 ((i0:Nat):Int))::(AV.ptr p4 q5)::(AV.ptr p4 (q5+0))::(AV.str ((p.quantities.g i0).name))::(AV.bool (r_Name ((p.quantities.g i0).name)))::(AV.bool (!(r_Name ((p.quantities.g i0).name))))::rx x 29 68 [])):List AV).getD k_ AV.undef) hh y_hh (Has.refl _) G0_0)
         have y_h10:=G_h10.y
         have m_h10:hh.nx≤h10.nx:=G_h10.n
         have a_h10:Has hh h10:=G_h10.a
         obtain ⟨p12,q13,ix11_⟩:=(H0_0.has a_hh).elem (i:=i0) o!
         have ix11:idxK env (some (.slice 41)) (some p.quantitiesV) (some (AV.int .i64 ((i0:Nat):Int)))=some (AV.ptr p12 q13):=ix11_
         have ld14:loadA env h10 41 (AV.ptr p12 q13)=some (AV.agg [(AV.str ((p.quantities.g i0).name)),(AV.int .i64 ((p.quantities.g i0).low)),(AV.int .i64 ((p.quantities.g i0).high)),(AV.int .i64 ((p.quantities.g i0).rise)),(AV.int .i64 ((p.quantities.g i0).fall)),(AV.int .i64 ((p.quantities.g i0).bad)),((p.quantities.g i0).gaugesV)]):=((H0_0.has a_hh).has a_h10).load o! ix11_
         have k15:=r_CheckQuantity_c (d:=d) (p.quantities.g i0) (RowT.mono a_h10 ((H0_0.has a_hh).ok (i:=i0) o!)) y_h10
         have ev:=pk (d+3) r_Check_lp0 ((x 0)::(AV.ptr b0_0 0)::(x 2)::(AV.int .i64 ((i0:Nat):Int))::rx x 4 93 []) hh .ret h10 (CN 2<|MM (lown 22 0 p.quantitiesV G0_0 k!)<|VV ln1<|VV (ilss 3 false false .i64 ((i0:Nat):Int) ((p.quantities.length:Nat):Int))<|BB q2<|CC<|MM (lown 22 0 p.quantitiesV G0_0 k!)<|CC<|VV ix3<|CC<|MM ld6<|EE k7<|CC<|BB f1<|CC<|LL ev_yl9<|CC<|MM (lown 22 0 p.quantitiesV (G_h10.a _ _ G0_0) k!)<|CC<|VV ix11<|MM ld14<|EE k15<|CN 2<|VV (ineq 29 false true .i64 (r_CheckQuantity (p.quantities.g i0)) 0)<|BB f3<|CN 2<|ZZ) k!
         exact OptLoop.ret (r_CheckQuantity (p.quantities.g i0)) (by simp only[r_Check_l0,f1,hl_yl9,f3,cond_true,cond_false]) ev (⟨y_h10,a_h10,by omega⟩) k!
       · have n_f3:=nF_ f3
         have ln1:lenK (some (.slice 41)) (some p.quantitiesV)=some (AV.int .i64 ((p.quantities.length:Nat):Int)):=(H0_0.has a_hh).len
         have q2:(decide (((i0:Nat):Int)<((p.quantities.length:Nat):Int)))=true:=d!
         obtain ⟨p4,q5,ix3_⟩:=(H0_0.has a_hh).elem (i:=i0) o!
         have ix3:idxK env (some (.slice 41)) (some p.quantitiesV) (some (AV.int .i64 ((i0:Nat):Int)))=some (AV.ptr p4 q5):=ix3_
         have ld6:loadA env hh 9 (AV.ptr p4 (q5+0))=some (AV.str ((p.quantities.g i0).name)):=(H0_0.has a_hh).part (t:=9) (j:=0) o! ix3_ k! rfl
         have k7:=r_Name_c (d:=d+2) ((p.quantities.g i0).name) ((H0_0.has a_hh).ok (i:=i0) o!).1 y_hh
         obtain ⟨yl9,h10,ev_yl9,G_h10⟩:=OptLoop.n hl_yl9 (r_Check_l1_t (d:=d) (h:=hh) i0 p b0_0 (H0_0.has a_hh) (H0_1.has a_hh) (H0_2.has a_hh) (RowT.mono a_hh O0_0) o! i0 0 o! (fun k_=>(((x 0)::(AV.ptr b0_0 0)::(x 2)::(AV.int .i64 ((i0:Nat):Int))::(AV.int .i64 0)::rx x 5 9 ((AV.int .i64 ((i0:Nat):Int))::(AV.ptr b0_0 0)::p.quantitiesV::(AV.int .i64 ((p.quantities.length:Nat):Int))::(AV.bool (decide (((i0:Nat):Int)<((p.quantities.length:Nat):Int))))::(x 19)::(x 20)::(AV.ptr b0_0 0)::p.quantitiesV::(AV.int .i64 ((i0:Nat):Int))::(AV.ptr p4 q5)::(AV.ptr p4 (q5+0))::(AV.str ((p.quantities.g i0).name))::(AV.bool (r_Name ((p.quantities.g i0).name)))::(AV.bool (!(r_Name ((p.quantities.g i0).name))))::rx x 29 68 [])):List AV).getD k_ AV.undef) hh y_hh (Has.refl _) G0_0)
         have y_h10:=G_h10.y
         have m_h10:hh.nx≤h10.nx:=G_h10.n
         have a_h10:Has hh h10:=G_h10.a
         obtain ⟨p12,q13,ix11_⟩:=(H0_0.has a_hh).elem (i:=i0) o!
         have ix11:idxK env (some (.slice 41)) (some p.quantitiesV) (some (AV.int .i64 ((i0:Nat):Int)))=some (AV.ptr p12 q13):=ix11_
         have ld14:loadA env h10 41 (AV.ptr p12 q13)=some (AV.agg [(AV.str ((p.quantities.g i0).name)),(AV.int .i64 ((p.quantities.g i0).low)),(AV.int .i64 ((p.quantities.g i0).high)),(AV.int .i64 ((p.quantities.g i0).rise)),(AV.int .i64 ((p.quantities.g i0).fall)),(AV.int .i64 ((p.quantities.g i0).bad)),((p.quantities.g i0).gaugesV)]):=((H0_0.has a_hh).has a_h10).load o! ix11_
         have k15:=r_CheckQuantity_c (d:=d) (p.quantities.g i0) (RowT.mono a_h10 ((H0_0.has a_hh).ok (i:=i0) o!)) y_h10
         have u17:=nadd 3 false true i0 1 o!
         have ev:=pk (d+3) r_Check_lp0 ((x 0)::(AV.ptr b0_0 0)::(x 2)::(AV.int .i64 ((i0:Nat):Int))::rx x 4 93 []) hh .normal h10 (CN 2<|MM (lown 22 0 p.quantitiesV G0_0 k!)<|VV ln1<|VV (ilss 3 false false .i64 ((i0:Nat):Int) ((p.quantities.length:Nat):Int))<|BB q2<|CC<|MM (lown 22 0 p.quantitiesV G0_0 k!)<|CC<|VV ix3<|CC<|MM ld6<|EE k7<|CC<|BB f1<|CC<|LL ev_yl9<|CC<|MM (lown 22 0 p.quantitiesV (G_h10.a _ _ G0_0) k!)<|CC<|VV ix11<|MM ld14<|EE k15<|CN 2<|VV (ineq 29 false true .i64 (r_CheckQuantity (p.quantities.g i0)) 0)<|BB f3<|CC<|VV u17<|CC<|ZZ) k!
         exact OptLoop.round (by simp only[r_Check_l0,f1,hl_yl9,f3,cond_true,cond_false]) ev (⟨y_h10,a_h10,by omega⟩) (fun x=>((x 0)::(AV.ptr b0_0 0)::(x 2)::(AV.int .i64 (((i0+1):Nat):Int))::rx x 4 93 [])) k! (fun x=>r_Check_l0_t p b0_0 H0_0 H0_1 H0_2 O0_0 kq0 (i0+1) o! x h10 y_h10 (a_hh.trans a_h10) (G_h10.a _ _ G0_0))
     | some rr9=>
       have ln1:lenK (some (.slice 41)) (some p.quantitiesV)=some (AV.int .i64 ((p.quantities.length:Nat):Int)):=(H0_0.has a_hh).len
       have q2:(decide (((i0:Nat):Int)<((p.quantities.length:Nat):Int)))=true:=d!
       obtain ⟨p4,q5,ix3_⟩:=(H0_0.has a_hh).elem (i:=i0) o!
       have ix3:idxK env (some (.slice 41)) (some p.quantitiesV) (some (AV.int .i64 ((i0:Nat):Int)))=some (AV.ptr p4 q5):=ix3_
       have ld6:loadA env hh 9 (AV.ptr p4 (q5+0))=some (AV.str ((p.quantities.g i0).name)):=(H0_0.has a_hh).part (t:=9) (j:=0) o! ix3_ k! rfl
       have k7:=r_Name_c (d:=d+2) ((p.quantities.g i0).name) ((H0_0.has a_hh).ok (i:=i0) o!).1 y_hh
       obtain ⟨yl9,h10,ev_yl9,G_h10⟩:=OptLoop.r hl_yl9 (r_Check_l1_t (d:=d) (h:=hh) i0 p b0_0 (H0_0.has a_hh) (H0_1.has a_hh) (H0_2.has a_hh) (RowT.mono a_hh O0_0) o! i0 0 o! (fun k_=>(((x 0)::(AV.ptr b0_0 0)::(x 2)::(AV.int .i64 ((i0:Nat):Int))::(AV.int .i64 0)::rx x 5 9 ((AV.int .i64 ((i0:Nat):Int))::(AV.ptr b0_0 0)::p.quantitiesV::(AV.int .i64 ((p.quantities.length:Nat):Int))::(AV.bool (decide (((i0:Nat):Int)<((p.quantities.length:Nat):Int))))::(x 19)::(x 20)::(AV.ptr b0_0 0)::p.quantitiesV::(AV.int .i64 ((i0:Nat):Int))::(AV.ptr p4 q5)::(AV.ptr p4 (q5+0))::(AV.str ((p.quantities.g i0).name))::(AV.bool (r_Name ((p.quantities.g i0).name)))::(AV.bool (!(r_Name ((p.quantities.g i0).name))))::rx x 29 68 [])):List AV).getD k_ AV.undef) hh y_hh (Has.refl _) G0_0)
       have y_h10:=G_h10.y
       have m_h10:hh.nx≤h10.nx:=G_h10.n
       have a_h10:Has hh h10:=G_h10.a
       have ev:=pk (d+3) r_Check_lp0 ((x 0)::(AV.ptr b0_0 0)::(x 2)::(AV.int .i64 ((i0:Nat):Int))::rx x 4 93 []) hh .ret h10 (CN 2<|MM (lown 22 0 p.quantitiesV G0_0 k!)<|VV ln1<|VV (ilss 3 false false .i64 ((i0:Nat):Int) ((p.quantities.length:Nat):Int))<|BB q2<|CC<|MM (lown 22 0 p.quantitiesV G0_0 k!)<|CC<|VV ix3<|CC<|MM ld6<|EE k7<|CC<|BB f1<|CC<|LL ev_yl9<|ZZ) k!
       exact OptLoop.ret rr9 (by simp only[r_Check_l0,f1,hl_yl9,cond_true,cond_false]) ev (⟨y_h10,a_h10,by omega⟩) k!
def r_Check_l2 (p:Plan):Nat→Nat→Option (Int)
 | 0,_=>none
 | kq2+1,i2=>(bif (!decide ((r_checkMeasure (p.measures.g i2) (p.measures.take i2))=0)) then some (r_checkMeasure (p.measures.g i2) (p.measures.take i2)) else r_Check_l2 p kq2 (i2+1))
theorem r_Check_l2_t {d:Nat} {h:Heap} (p:Plan) (b2_0:Nat) (H2_0:RowsAt h p.quantitiesV p.quantities) (H2_1:RowsAt h p.measuresV p.measures) (H2_2:RowsAt h p.alarmsV p.alarms) (O2_0:RowT.ok h p):∀(k_ i_:Nat) (_:i_+k_=p.measures.length) (x:Nat→AV) (hh:Heap) (y_hh:Tidy hh) (a_hh:Has h hh) (G2_0:hh.get b2_0=some (AObj.cells [p.quantitiesV,p.measuresV,p.alarmsV] 26 false)),OptLoop (cal (d+3)) r_Check_lp2 ⟨((x 0)::(AV.ptr b2_0 0)::rx x 2 4 ((AV.int .i64 ((i_:Nat):Int))::rx x 7 90 [])),hh,[],.no⟩ (.exit 4) hh (fun y=>((y 0)::(AV.ptr b2_0 0)::rx y 2 95 [])) (fun r y=>((y 0)::(AV.ptr b2_0 0)::(AV.int .i64 r)::rx y 3 94 [])) (r_Check_l2 p k_ i_)
 | 0,i2,hik,x,hh,y_hh,a_hh,G2_0=>by
   have s_H2_0:=H2_0.small
   have s_H2_1:=H2_1.small
   have s_H2_2:=H2_2.small
   have T2_0:=y_hh _ _ G2_0
   have ln1:lenK (some (.slice 43)) (some p.measuresV)=some (AV.int .i64 ((p.measures.length:Nat):Int)):=(H2_1.has a_hh).len
   have q2:(decide (((i2:Nat):Int)<((p.measures.length:Nat):Int)))=false:=d!
   have ev:=pk (d+3) r_Check_lp2 ((x 0)::(AV.ptr b2_0 0)::rx x 2 4 ((AV.int .i64 ((i2:Nat):Int))::rx x 7 90 [])) hh (.exit 4) hh (CN 2<|MM (lown 23 1 p.measuresV G2_0 k!)<|VV ln1<|VV (ilss 3 false false .i64 ((i2:Nat):Int) ((p.measures.length:Nat):Int))<|BB q2<|ZZ) k!
   exact OptLoop.out rfl ev (Grow.refl y_hh) k!
 | kq2+1,i2,hik,x,hh,y_hh,a_hh,G2_0=>by
   have s_H2_0:=H2_0.small
   have s_H2_1:=H2_1.small
   have s_H2_2:=H2_2.small
   have T2_0:=y_hh _ _ G2_0
   rcases Bool.eq_false_or_eq_true (!decide ((r_checkMeasure (p.measures.g i2) (p.measures.take i2))=0)) with f1 | f1
   · have n_f1:=nT_ f1
     have ln1:lenK (some (.slice 43)) (some p.measuresV)=some (AV.int .i64 ((p.measures.length:Nat):Int)):=(H2_1.has a_hh).len
     have q2:(decide (((i2:Nat):Int)<((p.measures.length:Nat):Int)))=true:=d!
     obtain ⟨p4,q5,ix3_⟩:=(H2_1.has a_hh).elem (i:=i2) o!
     have ix3:idxK env (some (.slice 43)) (some p.measuresV) (some (AV.int .i64 ((i2:Nat):Int)))=some (AV.ptr p4 q5):=ix3_
     have ld6:loadA env hh 43 (AV.ptr p4 q5)=some (AV.agg [(AV.str ((p.measures.g i2).name)),(AV.str ((p.measures.g i2).crew)),(AV.int .i64 ((p.measures.g i2).rank)),(AV.int .i64 ((p.measures.g i2).lag)),(AV.int .i64 ((p.measures.g i2).takes))]):=(H2_1.has a_hh).load o! ix3_
     obtain ⟨r7,sl8_,fr9⟩:=(H2_1.has a_hh).pre (t:=23) k! (i:=i2) o!
     have sl8:sliceA env 23 p.measuresV (none) (some (AV.int .i64 ((i2:Nat):Int))) (none)=some r7:=sl8_
     have k10:=r_checkMeasure_c (d:=d+1) (p.measures.g i2) (p.measures.take i2) ((H2_1.has a_hh).ok (i:=i2) o!) fr9 y_hh
     have c11:AV.same 20 p.measuresV p.measuresV=true:=(H2_1.has a_hh).same 19
     have c12:AV.same 20 (AV.agg [(AV.str ((p.measures.g i2).name)),(AV.str ((p.measures.g i2).crew)),(AV.int .i64 ((p.measures.g i2).rank)),(AV.int .i64 ((p.measures.g i2).lag)),(AV.int .i64 ((p.measures.g i2).takes))]) (AV.agg [(AV.str ((p.measures.g i2).name)),(AV.str ((p.measures.g i2).crew)),(AV.int .i64 ((p.measures.g i2).rank)),(AV.int .i64 ((p.measures.g i2).lag)),(AV.int .i64 ((p.measures.g i2).takes))])=true:=same_agg 18 (sc_ (fun n=>same_str n _) (sc_ (fun n=>same_str n _) (sc_ (fun n=>same_int n _ _) (sc_ (fun n=>same_int n _ _) (sc_ (fun n=>same_int n _ _) sn_)))))
     have ev:=pk (d+3) r_Check_lp2 ((x 0)::(AV.ptr b2_0 0)::rx x 2 4 ((AV.int .i64 ((i2:Nat):Int))::rx x 7 90 [])) hh .ret hh (CN 2<|MM (lown 23 1 p.measuresV G2_0 k!)<|VV ln1<|VV (ilss 3 false false .i64 ((i2:Nat):Int) ((p.measures.length:Nat):Int))<|BB q2<|CC<|MM (lown 23 1 p.measuresV G2_0 k!)<|CC<|VV ix3<|MM ld6<|CC<|MM (lown 23 1 p.measuresV G2_0 k!)<|CC<|QQ sl8<|EE k10<|CC<|HH (lown 23 1 p.measuresV G2_0 k!)<|HH c11<|HH ld6<|HH c12<|HH (lown 23 1 p.measuresV G2_0 k!)<|HH c11<|CC<|VV (ineq 29 false true .i64 (r_checkMeasure (p.measures.g i2) (p.measures.take i2)) 0)<|BB f1<|CN 2<|ZZ) k!
     exact OptLoop.ret (r_checkMeasure (p.measures.g i2) (p.measures.take i2)) (by simp only[r_Check_l2,f1,cond_true,cond_false]) ev (Grow.refl y_hh) k!
   · have n_f1:=nF_ f1
     have ln1:lenK (some (.slice 43)) (some p.measuresV)=some (AV.int .i64 ((p.measures.length:Nat):Int)):=(H2_1.has a_hh).len
     have q2:(decide (((i2:Nat):Int)<((p.measures.length:Nat):Int)))=true:=d!
     obtain ⟨p4,q5,ix3_⟩:=(H2_1.has a_hh).elem (i:=i2) o!
     have ix3:idxK env (some (.slice 43)) (some p.measuresV) (some (AV.int .i64 ((i2:Nat):Int)))=some (AV.ptr p4 q5):=ix3_
     have ld6:loadA env hh 43 (AV.ptr p4 q5)=some (AV.agg [(AV.str ((p.measures.g i2).name)),(AV.str ((p.measures.g i2).crew)),(AV.int .i64 ((p.measures.g i2).rank)),(AV.int .i64 ((p.measures.g i2).lag)),(AV.int .i64 ((p.measures.g i2).takes))]):=(H2_1.has a_hh).load o! ix3_
     obtain ⟨r7,sl8_,fr9⟩:=(H2_1.has a_hh).pre (t:=23) k! (i:=i2) o!
     have sl8:sliceA env 23 p.measuresV (none) (some (AV.int .i64 ((i2:Nat):Int))) (none)=some r7:=sl8_
     have k10:=r_checkMeasure_c (d:=d+1) (p.measures.g i2) (p.measures.take i2) ((H2_1.has a_hh).ok (i:=i2) o!) fr9 y_hh
     have c11:AV.same 20 p.measuresV p.measuresV=true:=(H2_1.has a_hh).same 19
     have c12:AV.same 20 (AV.agg [(AV.str ((p.measures.g i2).name)),(AV.str ((p.measures.g i2).crew)),(AV.int .i64 ((p.measures.g i2).rank)),(AV.int .i64 ((p.measures.g i2).lag)),(AV.int .i64 ((p.measures.g i2).takes))]) (AV.agg [(AV.str ((p.measures.g i2).name)),(AV.str ((p.measures.g i2).crew)),(AV.int .i64 ((p.measures.g i2).rank)),(AV.int .i64 ((p.measures.g i2).lag)),(AV.int .i64 ((p.measures.g i2).takes))])=true:=same_agg 18 (sc_ (fun n=>same_str n _) (sc_ (fun n=>same_str n _) (sc_ (fun n=>same_int n _ _) (sc_ (fun n=>same_int n _ _) (sc_ (fun n=>same_int n _ _) sn_)))))
     have u14:=nadd 3 false true i2 1 o!
     have ev:=pk (d+3) r_Check_lp2 ((x 0)::(AV.ptr b2_0 0)::rx x 2 4 ((AV.int .i64 ((i2:Nat):Int))::rx x 7 90 [])) hh .normal hh (CN 2<|MM (lown 23 1 p.measuresV G2_0 k!)<|VV ln1<|VV (ilss 3 false false .i64 ((i2:Nat):Int) ((p.measures.length:Nat):Int))<|BB q2<|CC<|MM (lown 23 1 p.measuresV G2_0 k!)<|CC<|VV ix3<|MM ld6<|CC<|MM (lown 23 1 p.measuresV G2_0 k!)<|CC<|QQ sl8<|EE k10<|CC<|HH (lown 23 1 p.measuresV G2_0 k!)<|HH c11<|HH ld6<|HH c12<|HH (lown 23 1 p.measuresV G2_0 k!)<|HH c11<|CC<|VV (ineq 29 false true .i64 (r_checkMeasure (p.measures.g i2) (p.measures.take i2)) 0)<|BB f1<|CC<|VV u14<|CC<|ZZ) k!
     exact OptLoop.round (by simp only[r_Check_l2,f1,cond_true,cond_false]) ev (Grow.refl y_hh) (fun x=>((x 0)::(AV.ptr b2_0 0)::rx x 2 4 ((AV.int .i64 (((i2+1):Nat):Int))::rx x 7 90 []))) k! (fun x=>r_Check_l2_t p b2_0 H2_0 H2_1 H2_2 O2_0 kq2 (i2+1) o! x hh y_hh a_hh G2_0)
def r_Check_l3 (p:Plan):Nat→Nat→Option (Int)
 | 0,_=>none
 | kq3+1,i3=>(bif (!decide ((r_checkAlarm p ((i3:Nat):Int))=0)) then some (r_checkAlarm p ((i3:Nat):Int)) else r_Check_l3 p kq3 (i3+1))
theorem r_Check_l3_t {d:Nat} {h:Heap} (p:Plan) (b3_0:Nat) (H3_0:RowsAt h p.quantitiesV p.quantities) (H3_1:RowsAt h p.measuresV p.measures) (H3_2:RowsAt h p.alarmsV p.alarms) (O3_0:RowT.ok h p):∀(k_ i_:Nat) (_:i_+k_=p.alarms.length) (x:Nat→AV) (hh:Heap) (y_hh:Tidy hh) (a_hh:Has h hh) (G3_0:hh.get b3_0=some (AObj.cells [p.quantitiesV,p.measuresV,p.alarmsV] 26 false)),OptLoop (cal (d+3)) r_Check_lp3 ⟨((x 0)::(AV.ptr b3_0 0)::rx x 2 6 ((AV.int .i64 ((i_:Nat):Int))::rx x 9 88 [])),hh,[],.no⟩ (.exit 6) hh (fun y=>((y 0)::(AV.ptr b3_0 0)::rx y 2 95 [])) (fun r y=>((y 0)::(AV.ptr b3_0 0)::(AV.int .i64 r)::rx y 3 94 [])) (r_Check_l3 p k_ i_)
 | 0,i3,hik,x,hh,y_hh,a_hh,G3_0=>by
   have s_H3_0:=H3_0.small
   have s_H3_1:=H3_1.small
   have s_H3_2:=H3_2.small
   have T3_0:=y_hh _ _ G3_0
   have ln1:lenK (some (.slice 59)) (some p.alarmsV)=some (AV.int .i64 ((p.alarms.length:Nat):Int)):=(H3_2.has a_hh).len
   have q2:(decide (((i3:Nat):Int)<((p.alarms.length:Nat):Int)))=false:=d!
   have ev:=pk (d+3) r_Check_lp3 ((x 0)::(AV.ptr b3_0 0)::rx x 2 6 ((AV.int .i64 ((i3:Nat):Int))::rx x 9 88 [])) hh (.exit 6) hh (CN 2<|MM (lown 24 2 p.alarmsV G3_0 k!)<|VV ln1<|VV (ilss 3 false false .i64 ((i3:Nat):Int) ((p.alarms.length:Nat):Int))<|BB q2<|ZZ) k!
   exact OptLoop.out rfl ev (Grow.refl y_hh) k!
 | kq3+1,i3,hik,x,hh,y_hh,a_hh,G3_0=>by
   have s_H3_0:=H3_0.small
   have s_H3_1:=H3_1.small
   have s_H3_2:=H3_2.small
   have T3_0:=y_hh _ _ G3_0
   rcases Bool.eq_false_or_eq_true (!decide ((r_checkAlarm p ((i3:Nat):Int))=0)) with f1 | f1
   · have n_f1:=nT_ f1
     have ln1:lenK (some (.slice 59)) (some p.alarmsV)=some (AV.int .i64 ((p.alarms.length:Nat):Int)):=(H3_2.has a_hh).len
     have q2:(decide (((i3:Nat):Int)<((p.alarms.length:Nat):Int)))=true:=d!
     have k3:=r_checkAlarm_c (d:=d+1) p ((i3:Nat):Int) (RowT.mono a_hh O3_0) o! o! y_hh
     have ev:=pk (d+3) r_Check_lp3 ((x 0)::(AV.ptr b3_0 0)::rx x 2 6 ((AV.int .i64 ((i3:Nat):Int))::rx x 9 88 [])) hh .ret hh (CN 2<|MM (lown 24 2 p.alarmsV G3_0 k!)<|VV ln1<|VV (ilss 3 false false .i64 ((i3:Nat):Int) ((p.alarms.length:Nat):Int))<|BB q2<|MM (lown 26 0 (AV.agg [p.quantitiesV,p.measuresV,p.alarmsV]) G3_0 k!)<|CC<|EE k3<|CN 2<|VV (ineq 29 false true .i64 (r_checkAlarm p ((i3:Nat):Int)) 0)<|BB f1<|CN 2<|ZZ) k!
     exact OptLoop.ret (r_checkAlarm p ((i3:Nat):Int)) (by simp only[r_Check_l3,f1,cond_true,cond_false]) ev (Grow.refl y_hh) k!
   · have n_f1:=nF_ f1
     have ln1:lenK (some (.slice 59)) (some p.alarmsV)=some (AV.int .i64 ((p.alarms.length:Nat):Int)):=(H3_2.has a_hh).len
     have q2:(decide (((i3:Nat):Int)<((p.alarms.length:Nat):Int)))=true:=d!
     have k3:=r_checkAlarm_c (d:=d+1) p ((i3:Nat):Int) (RowT.mono a_hh O3_0) o! o! y_hh
     have u5:=nadd 3 false true i3 1 o!
     have ev:=pk (d+3) r_Check_lp3 ((x 0)::(AV.ptr b3_0 0)::rx x 2 6 ((AV.int .i64 ((i3:Nat):Int))::rx x 9 88 [])) hh .normal hh (CN 2<|MM (lown 24 2 p.alarmsV G3_0 k!)<|VV ln1<|VV (ilss 3 false false .i64 ((i3:Nat):Int) ((p.alarms.length:Nat):Int))<|BB q2<|MM (lown 26 0 (AV.agg [p.quantitiesV,p.measuresV,p.alarmsV]) G3_0 k!)<|CC<|EE k3<|CN 2<|VV (ineq 29 false true .i64 (r_checkAlarm p ((i3:Nat):Int)) 0)<|BB f1<|CC<|VV u5<|CC<|ZZ) k!
     exact OptLoop.round (by simp only[r_Check_l3,f1,cond_true,cond_false]) ev (Grow.refl y_hh) (fun x=>((x 0)::(AV.ptr b3_0 0)::rx x 2 6 ((AV.int .i64 (((i3+1):Nat):Int))::rx x 9 88 []))) k! (fun x=>r_Check_l3_t p b3_0 H3_0 H3_1 H3_2 O3_0 kq3 (i3+1) o! x hh y_hh a_hh G3_0)
def r_Check (p:Plan):Int:=(bif (decide (16<((p.quantities.length:Nat):Int))) then 3 else (match (r_Check_l0 p p.quantities.length 0) with | none=>(bif (decide (16<((p.measures.length:Nat):Int))) then 3 else (match (r_Check_l2 p p.measures.length 0) with | none=>(bif (decide (16<((p.alarms.length:Nat):Int))) then 3 else (match (r_Check_l3 p p.alarms.length 0) with | none=>0 | some rr12=>rr12)) | some rr8=>rr8)) | some rr4=>rr4))
theorem r_Check_c {d:Nat} {h:Heap} (p:Plan) (h_p:RowT.ok h p) (y_h:Tidy h):cal (d+4) (.fn 19) [(AV.agg [p.quantitiesV,p.measuresV,p.alarmsV])] h= .ret (AV.int .i64 (r_Check p)) h:=by
 have s_h_p_1:=h_p.1.small
 have s_h_p_2_1:=h_p.2.1.small
 have s_h_p_2_2:=h_p.2.2.small
 rcases Bool.eq_false_or_eq_true (decide (16<((p.quantities.length:Nat):Int))) with f0 | f0
 · have n_f0:=of_decide_eq_true f0
   obtain ⟨h1,n_h1,y_h1,z_h1,g_h1,b_h1⟩:=nwB y_h (AObj.cells [p.quantitiesV,p.measuresV,p.alarmsV] 26 false)
   have a_h1:Has h h1:=b_h1
   have ln2:lenK (some (.slice 41)) (some p.quantitiesV)=some (AV.int .i64 ((p.quantities.length:Nat):Int)):=h_p.1.len
   have ev:=pk (d+3) r_Check_body ((AV.agg [p.quantitiesV,p.measuresV,p.alarmsV])::und 96) h .ret h1 (NN n_h1 (fun i=>(AV.ptr i 0))<|CN 2<|MM (lown 22 0 p.quantitiesV g_h1 k!)<|VV ln2<|VV (igtr 3 false true .i64 ((p.quantities.length:Nat):Int) 16)<|BB f0<|CC<|ZZ) k!
   have e:r_Check p=3:=by simp only[r_Check,f0,cond_true,cond_false]
   rw[e]
   exact callP_pure rfl (fn_of Tryz.func19 r_Check_B k! (.inr rfl) ev k!) a_h1 rfl
 · have n_f0:=of_decide_eq_false f0
   cases hl_yl4:r_Check_l0 p p.quantities.length 0 with
   | none=>
     rcases Bool.eq_false_or_eq_true (decide (16<((p.measures.length:Nat):Int))) with f2 | f2
     · have n_f2:=of_decide_eq_true f2
       obtain ⟨h1,n_h1,y_h1,z_h1,g_h1,b_h1⟩:=nwB y_h (AObj.cells [p.quantitiesV,p.measuresV,p.alarmsV] 26 false)
       have a_h1:Has h h1:=b_h1
       have ln2:lenK (some (.slice 41)) (some p.quantitiesV)=some (AV.int .i64 ((p.quantities.length:Nat):Int)):=h_p.1.len
       obtain ⟨yl4,h5,ev_yl4,G_h5⟩:=OptLoop.n hl_yl4 (r_Check_l0_t (d:=d) (h:=h) p h.nx h_p.1 h_p.2.1 h_p.2.2 h_p p.quantities.length 0 o! (fun k_=>(((AV.agg [p.quantitiesV,p.measuresV,p.alarmsV])::(AV.ptr h.nx 0)::(AV.int .i64 0)::(AV.int .i64 0)::AV.undef::AV.undef::AV.undef::AV.undef::AV.undef::AV.undef::(AV.ptr h.nx 0)::p.quantitiesV::(AV.int .i64 ((p.quantities.length:Nat):Int))::(AV.bool (decide (16<((p.quantities.length:Nat):Int))))::und 83):List AV).getD k_ AV.undef) h1 y_h1 a_h1 g_h1)
       have y_h5:=G_h5.y
       have m_h5:h1.nx≤h5.nx:=G_h5.n
       have a_h5:Has h h5:=a_h1.trans G_h5.a
       have ln6:lenK (some (.slice 43)) (some p.measuresV)=some (AV.int .i64 ((p.measures.length:Nat):Int)):=h_p.2.1.len
       have ev:=pk (d+3) r_Check_body ((AV.agg [p.quantitiesV,p.measuresV,p.alarmsV])::und 96) h .ret h5 (NN n_h1 (fun i=>(AV.ptr i 0))<|CN 2<|MM (lown 22 0 p.quantitiesV g_h1 k!)<|VV ln2<|VV (igtr 3 false true .i64 ((p.quantities.length:Nat):Int) 16)<|BB f0<|CC<|LL ev_yl4<|CC<|MM (lown 23 1 p.measuresV (G_h5.a _ _ g_h1) k!)<|VV ln6<|VV (igtr 3 false true .i64 ((p.measures.length:Nat):Int) 16)<|BB f2<|CC<|ZZ) k!
       have e:r_Check p=3:=by simp only[r_Check,f0,hl_yl4,f2,cond_true,cond_false]
       rw[e]
       exact callP_pure rfl (fn_of Tryz.func19 r_Check_B k! (.inr rfl) ev k!) a_h5 rfl
     · have n_f2:=of_decide_eq_false f2
       cases hl_yl8:r_Check_l2 p p.measures.length 0 with
       | none=>
         rcases Bool.eq_false_or_eq_true (decide (16<((p.alarms.length:Nat):Int))) with f4 | f4
         · have n_f4:=of_decide_eq_true f4
           obtain ⟨h1,n_h1,y_h1,z_h1,g_h1,b_h1⟩:=nwB y_h (AObj.cells [p.quantitiesV,p.measuresV,p.alarmsV] 26 false)
           have a_h1:Has h h1:=b_h1
           have ln2:lenK (some (.slice 41)) (some p.quantitiesV)=some (AV.int .i64 ((p.quantities.length:Nat):Int)):=h_p.1.len
           obtain ⟨yl4,h5,ev_yl4,G_h5⟩:=OptLoop.n hl_yl4 (r_Check_l0_t (d:=d) (h:=h) p h.nx h_p.1 h_p.2.1 h_p.2.2 h_p p.quantities.length 0 o! (fun k_=>(((AV.agg [p.quantitiesV,p.measuresV,p.alarmsV])::(AV.ptr h.nx 0)::(AV.int .i64 0)::(AV.int .i64 0)::AV.undef::AV.undef::AV.undef::AV.undef::AV.undef::AV.undef::(AV.ptr h.nx 0)::p.quantitiesV::(AV.int .i64 ((p.quantities.length:Nat):Int))::(AV.bool (decide (16<((p.quantities.length:Nat):Int))))::und 83):List AV).getD k_ AV.undef) h1 y_h1 a_h1 g_h1)
           have y_h5:=G_h5.y
           have m_h5:h1.nx≤h5.nx:=G_h5.n
           have a_h5:Has h h5:=a_h1.trans G_h5.a
           have ln6:lenK (some (.slice 43)) (some p.measuresV)=some (AV.int .i64 ((p.measures.length:Nat):Int)):=h_p.2.1.len
           obtain ⟨yl8,h9,ev_yl8,G_h9⟩:=OptLoop.n hl_yl8 (r_Check_l2_t (d:=d) (h:=h) p h.nx h_p.1 h_p.2.1 h_p.2.2 h_p p.measures.length 0 o! (fun k_=>(((yl4 0)::(AV.ptr h.nx 0)::rx yl4 2 4 ((AV.int .i64 0)::rx yl4 7 49 ((AV.ptr h.nx 1)::p.measuresV::(AV.int .i64 ((p.measures.length:Nat):Int))::(AV.bool (decide (16<((p.measures.length:Nat):Int))))::rx yl4 60 37 []))):List AV).getD k_ AV.undef) h5 y_h5 a_h5 (G_h5.a _ _ g_h1))
           have y_h9:=G_h9.y
           have m_h9:h5.nx≤h9.nx:=G_h9.n
           have a_h9:Has h h9:=a_h5.trans G_h9.a
           have a_h5_h9:Has h5 h9:=G_h9.a
           have ln10:lenK (some (.slice 59)) (some p.alarmsV)=some (AV.int .i64 ((p.alarms.length:Nat):Int)):=h_p.2.2.len
           have ev:=pk (d+3) r_Check_body ((AV.agg [p.quantitiesV,p.measuresV,p.alarmsV])::und 96) h .ret h9 (NN n_h1 (fun i=>(AV.ptr i 0))<|CN 2<|MM (lown 22 0 p.quantitiesV g_h1 k!)<|VV ln2<|VV (igtr 3 false true .i64 ((p.quantities.length:Nat):Int) 16)<|BB f0<|CC<|LL ev_yl4<|CC<|MM (lown 23 1 p.measuresV (G_h5.a _ _ g_h1) k!)<|VV ln6<|VV (igtr 3 false true .i64 ((p.measures.length:Nat):Int) 16)<|BB f2<|CC<|LL ev_yl8<|CC<|MM (lown 24 2 p.alarmsV (G_h9.a _ _ (G_h5.a _ _ g_h1)) k!)<|VV ln10<|VV (igtr 3 false true .i64 ((p.alarms.length:Nat):Int) 16)<|BB f4<|CC<|ZZ) k!
           have e:r_Check p=3:=by simp only[r_Check,f0,hl_yl4,f2,hl_yl8,f4,cond_true,cond_false]
           rw[e]
           exact callP_pure rfl (fn_of Tryz.func19 r_Check_B k! (.inr rfl) ev k!) a_h9 rfl
         · have n_f4:=of_decide_eq_false f4
           cases hl_yl12:r_Check_l3 p p.alarms.length 0 with
           | none=>
             obtain ⟨h1,n_h1,y_h1,z_h1,g_h1,b_h1⟩:=nwB y_h (AObj.cells [p.quantitiesV,p.measuresV,p.alarmsV] 26 false)
             have a_h1:Has h h1:=b_h1
             have ln2:lenK (some (.slice 41)) (some p.quantitiesV)=some (AV.int .i64 ((p.quantities.length:Nat):Int)):=h_p.1.len
             obtain ⟨yl4,h5,ev_yl4,G_h5⟩:=OptLoop.n hl_yl4 (r_Check_l0_t (d:=d) (h:=h) p h.nx h_p.1 h_p.2.1 h_p.2.2 h_p p.quantities.length 0 o! (fun k_=>(((AV.agg [p.quantitiesV,p.measuresV,p.alarmsV])::(AV.ptr h.nx 0)::(AV.int .i64 0)::(AV.int .i64 0)::AV.undef::AV.undef::AV.undef::AV.undef::AV.undef::AV.undef::(AV.ptr h.nx 0)::p.quantitiesV::(AV.int .i64 ((p.quantities.length:Nat):Int))::(AV.bool (decide (16<((p.quantities.length:Nat):Int))))::und 83):List AV).getD k_ AV.undef) h1 y_h1 a_h1 g_h1)
             have y_h5:=G_h5.y
             have m_h5:h1.nx≤h5.nx:=G_h5.n
             have a_h5:Has h h5:=a_h1.trans G_h5.a
             have ln6:lenK (some (.slice 43)) (some p.measuresV)=some (AV.int .i64 ((p.measures.length:Nat):Int)):=h_p.2.1.len
             obtain ⟨yl8,h9,ev_yl8,G_h9⟩:=OptLoop.n hl_yl8 (r_Check_l2_t (d:=d) (h:=h) p h.nx h_p.1 h_p.2.1 h_p.2.2 h_p p.measures.length 0 o! (fun k_=>(((yl4 0)::(AV.ptr h.nx 0)::rx yl4 2 4 ((AV.int .i64 0)::rx yl4 7 49 ((AV.ptr h.nx 1)::p.measuresV::(AV.int .i64 ((p.measures.length:Nat):Int))::(AV.bool (decide (16<((p.measures.length:Nat):Int))))::rx yl4 60 37 []))):List AV).getD k_ AV.undef) h5 y_h5 a_h5 (G_h5.a _ _ g_h1))
             have y_h9:=G_h9.y
             have m_h9:h5.nx≤h9.nx:=G_h9.n
             have a_h9:Has h h9:=a_h5.trans G_h9.a
             have a_h5_h9:Has h5 h9:=G_h9.a
             have ln10:lenK (some (.slice 59)) (some p.alarmsV)=some (AV.int .i64 ((p.alarms.length:Nat):Int)):=h_p.2.2.len
             obtain ⟨yl12,h13,ev_yl12,G_h13⟩:=OptLoop.n hl_yl12 (r_Check_l3_t (d:=d) (h:=h) p h.nx h_p.1 h_p.2.1 h_p.2.2 h_p p.alarms.length 0 o! (fun k_=>(((yl8 0)::(AV.ptr h.nx 0)::rx yl8 2 6 ((AV.int .i64 0)::rx yl8 9 71 ((AV.ptr h.nx 2)::p.alarmsV::(AV.int .i64 ((p.alarms.length:Nat):Int))::(AV.bool (decide (16<((p.alarms.length:Nat):Int))))::rx yl8 84 13 []))):List AV).getD k_ AV.undef) h9 y_h9 a_h9 (G_h9.a _ _ (G_h5.a _ _ g_h1)))
             have y_h13:=G_h13.y
             have m_h13:h9.nx≤h13.nx:=G_h13.n
             have a_h13:Has h h13:=a_h9.trans G_h13.a
             have a_h5_h13:Has h5 h13:=a_h5_h9.trans G_h13.a
             have a_h9_h13:Has h9 h13:=G_h13.a
             have ev:=pk (d+3) r_Check_body ((AV.agg [p.quantitiesV,p.measuresV,p.alarmsV])::und 96) h .ret h13 (NN n_h1 (fun i=>(AV.ptr i 0))<|CN 2<|MM (lown 22 0 p.quantitiesV g_h1 k!)<|VV ln2<|VV (igtr 3 false true .i64 ((p.quantities.length:Nat):Int) 16)<|BB f0<|CC<|LL ev_yl4<|CC<|MM (lown 23 1 p.measuresV (G_h5.a _ _ g_h1) k!)<|VV ln6<|VV (igtr 3 false true .i64 ((p.measures.length:Nat):Int) 16)<|BB f2<|CC<|LL ev_yl8<|CC<|MM (lown 24 2 p.alarmsV (G_h9.a _ _ (G_h5.a _ _ g_h1)) k!)<|VV ln10<|VV (igtr 3 false true .i64 ((p.alarms.length:Nat):Int) 16)<|BB f4<|CC<|LL ev_yl12<|CC<|ZZ) k!
             have e:r_Check p=0:=by simp only[r_Check,f0,hl_yl4,f2,hl_yl8,f4,hl_yl12,cond_true,cond_false]
             rw[e]
             exact callP_pure rfl (fn_of Tryz.func19 r_Check_B k! (.inr rfl) ev k!) a_h13 rfl
           | some rr12=>
             obtain ⟨h1,n_h1,y_h1,z_h1,g_h1,b_h1⟩:=nwB y_h (AObj.cells [p.quantitiesV,p.measuresV,p.alarmsV] 26 false)
             have a_h1:Has h h1:=b_h1
             have ln2:lenK (some (.slice 41)) (some p.quantitiesV)=some (AV.int .i64 ((p.quantities.length:Nat):Int)):=h_p.1.len
             obtain ⟨yl4,h5,ev_yl4,G_h5⟩:=OptLoop.n hl_yl4 (r_Check_l0_t (d:=d) (h:=h) p h.nx h_p.1 h_p.2.1 h_p.2.2 h_p p.quantities.length 0 o! (fun k_=>(((AV.agg [p.quantitiesV,p.measuresV,p.alarmsV])::(AV.ptr h.nx 0)::(AV.int .i64 0)::(AV.int .i64 0)::AV.undef::AV.undef::AV.undef::AV.undef::AV.undef::AV.undef::(AV.ptr h.nx 0)::p.quantitiesV::(AV.int .i64 ((p.quantities.length:Nat):Int))::(AV.bool (decide (16<((p.quantities.length:Nat):Int))))::und 83):List AV).getD k_ AV.undef) h1 y_h1 a_h1 g_h1)
             have y_h5:=G_h5.y
             have m_h5:h1.nx≤h5.nx:=G_h5.n
             have a_h5:Has h h5:=a_h1.trans G_h5.a
             have ln6:lenK (some (.slice 43)) (some p.measuresV)=some (AV.int .i64 ((p.measures.length:Nat):Int)):=h_p.2.1.len
             obtain ⟨yl8,h9,ev_yl8,G_h9⟩:=OptLoop.n hl_yl8 (r_Check_l2_t (d:=d) (h:=h) p h.nx h_p.1 h_p.2.1 h_p.2.2 h_p p.measures.length 0 o! (fun k_=>(((yl4 0)::(AV.ptr h.nx 0)::rx yl4 2 4 ((AV.int .i64 0)::rx yl4 7 49 ((AV.ptr h.nx 1)::p.measuresV::(AV.int .i64 ((p.measures.length:Nat):Int))::(AV.bool (decide (16<((p.measures.length:Nat):Int))))::rx yl4 60 37 []))):List AV).getD k_ AV.undef) h5 y_h5 a_h5 (G_h5.a _ _ g_h1))
             have y_h9:=G_h9.y
             have m_h9:h5.nx≤h9.nx:=G_h9.n
             have a_h9:Has h h9:=a_h5.trans G_h9.a
             have a_h5_h9:Has h5 h9:=G_h9.a
             have ln10:lenK (some (.slice 59)) (some p.alarmsV)=some (AV.int .i64 ((p.alarms.length:Nat):Int)):=h_p.2.2.len
             obtain ⟨yl12,h13,ev_yl12,G_h13⟩:=OptLoop.r hl_yl12 (r_Check_l3_t (d:=d) (h:=h) p h.nx h_p.1 h_p.2.1 h_p.2.2 h_p p.alarms.length 0 o! (fun k_=>(((yl8 0)::(AV.ptr h.nx 0)::rx yl8 2 6 ((AV.int .i64 0)::rx yl8 9 71 ((AV.ptr h.nx 2)::p.alarmsV::(AV.int .i64 ((p.alarms.length:Nat):Int))::(AV.bool (decide (16<((p.alarms.length:Nat):Int))))::rx yl8 84 13 []))):List AV).getD k_ AV.undef) h9 y_h9 a_h9 (G_h9.a _ _ (G_h5.a _ _ g_h1)))
             have y_h13:=G_h13.y
             have m_h13:h9.nx≤h13.nx:=G_h13.n
             have a_h13:Has h h13:=a_h9.trans G_h13.a
             have a_h5_h13:Has h5 h13:=a_h5_h9.trans G_h13.a
             have a_h9_h13:Has h9 h13:=G_h13.a
             have ev:=pk (d+3) r_Check_body ((AV.agg [p.quantitiesV,p.measuresV,p.alarmsV])::und 96) h .ret h13 (NN n_h1 (fun i=>(AV.ptr i 0))<|CN 2<|MM (lown 22 0 p.quantitiesV g_h1 k!)<|VV ln2<|VV (igtr 3 false true .i64 ((p.quantities.length:Nat):Int) 16)<|BB f0<|CC<|LL ev_yl4<|CC<|MM (lown 23 1 p.measuresV (G_h5.a _ _ g_h1) k!)<|VV ln6<|VV (igtr 3 false true .i64 ((p.measures.length:Nat):Int) 16)<|BB f2<|CC<|LL ev_yl8<|CC<|MM (lown 24 2 p.alarmsV (G_h9.a _ _ (G_h5.a _ _ g_h1)) k!)<|VV ln10<|VV (igtr 3 false true .i64 ((p.alarms.length:Nat):Int) 16)<|BB f4<|CC<|LL ev_yl12<|ZZ) k!
             have e:r_Check p=rr12:=by simp only[r_Check,f0,hl_yl4,f2,hl_yl8,f4,hl_yl12,cond_true,cond_false]
             rw[e]
             exact callP_pure rfl (fn_of Tryz.func19 r_Check_B k! (.inr rfl) ev k!) a_h13 rfl
       | some rr8=>
         obtain ⟨h1,n_h1,y_h1,z_h1,g_h1,b_h1⟩:=nwB y_h (AObj.cells [p.quantitiesV,p.measuresV,p.alarmsV] 26 false)
         have a_h1:Has h h1:=b_h1
         have ln2:lenK (some (.slice 41)) (some p.quantitiesV)=some (AV.int .i64 ((p.quantities.length:Nat):Int)):=h_p.1.len
         obtain ⟨yl4,h5,ev_yl4,G_h5⟩:=OptLoop.n hl_yl4 (r_Check_l0_t (d:=d) (h:=h) p h.nx h_p.1 h_p.2.1 h_p.2.2 h_p p.quantities.length 0 o! (fun k_=>(((AV.agg [p.quantitiesV,p.measuresV,p.alarmsV])::(AV.ptr h.nx 0)::(AV.int .i64 0)::(AV.int .i64 0)::AV.undef::AV.undef::AV.undef::AV.undef::AV.undef::AV.undef::(AV.ptr h.nx 0)::p.quantitiesV::(AV.int .i64 ((p.quantities.length:Nat):Int))::(AV.bool (decide (16<((p.quantities.length:Nat):Int))))::und 83):List AV).getD k_ AV.undef) h1 y_h1 a_h1 g_h1)
         have y_h5:=G_h5.y
         have m_h5:h1.nx≤h5.nx:=G_h5.n
         have a_h5:Has h h5:=a_h1.trans G_h5.a
         have ln6:lenK (some (.slice 43)) (some p.measuresV)=some (AV.int .i64 ((p.measures.length:Nat):Int)):=h_p.2.1.len
         obtain ⟨yl8,h9,ev_yl8,G_h9⟩:=OptLoop.r hl_yl8 (r_Check_l2_t (d:=d) (h:=h) p h.nx h_p.1 h_p.2.1 h_p.2.2 h_p p.measures.length 0 o! (fun k_=>(((yl4 0)::(AV.ptr h.nx 0)::rx yl4 2 4 ((AV.int .i64 0)::rx yl4 7 49 ((AV.ptr h.nx 1)::p.measuresV::(AV.int .i64 ((p.measures.length:Nat):Int))::(AV.bool (decide (16<((p.measures.length:Nat):Int))))::rx yl4 60 37 []))):List AV).getD k_ AV.undef) h5 y_h5 a_h5 (G_h5.a _ _ g_h1))
         have y_h9:=G_h9.y
         have m_h9:h5.nx≤h9.nx:=G_h9.n
         have a_h9:Has h h9:=a_h5.trans G_h9.a
         have a_h5_h9:Has h5 h9:=G_h9.a
         have ev:=pk (d+3) r_Check_body ((AV.agg [p.quantitiesV,p.measuresV,p.alarmsV])::und 96) h .ret h9 (NN n_h1 (fun i=>(AV.ptr i 0))<|CN 2<|MM (lown 22 0 p.quantitiesV g_h1 k!)<|VV ln2<|VV (igtr 3 false true .i64 ((p.quantities.length:Nat):Int) 16)<|BB f0<|CC<|LL ev_yl4<|CC<|MM (lown 23 1 p.measuresV (G_h5.a _ _ g_h1) k!)<|VV ln6<|VV (igtr 3 false true .i64 ((p.measures.length:Nat):Int) 16)<|BB f2<|CC<|LL ev_yl8<|ZZ) k!
         have e:r_Check p=rr8:=by simp only[r_Check,f0,hl_yl4,f2,hl_yl8,cond_true,cond_false]
         rw[e]
         exact callP_pure rfl (fn_of Tryz.func19 r_Check_B k! (.inr rfl) ev k!) a_h9 rfl
   | some rr4=>
     obtain ⟨h1,n_h1,y_h1,z_h1,g_h1,b_h1⟩:=nwB y_h (AObj.cells [p.quantitiesV,p.measuresV,p.alarmsV] 26 false)
     have a_h1:Has h h1:=b_h1
     have ln2:lenK (some (.slice 41)) (some p.quantitiesV)=some (AV.int .i64 ((p.quantities.length:Nat):Int)):=h_p.1.len
     obtain ⟨yl4,h5,ev_yl4,G_h5⟩:=OptLoop.r hl_yl4 (r_Check_l0_t (d:=d) (h:=h) p h.nx h_p.1 h_p.2.1 h_p.2.2 h_p p.quantities.length 0 o! (fun k_=>(((AV.agg [p.quantitiesV,p.measuresV,p.alarmsV])::(AV.ptr h.nx 0)::(AV.int .i64 0)::(AV.int .i64 0)::AV.undef::AV.undef::AV.undef::AV.undef::AV.undef::AV.undef::(AV.ptr h.nx 0)::p.quantitiesV::(AV.int .i64 ((p.quantities.length:Nat):Int))::(AV.bool (decide (16<((p.quantities.length:Nat):Int))))::und 83):List AV).getD k_ AV.undef) h1 y_h1 a_h1 g_h1)
     have y_h5:=G_h5.y
     have m_h5:h1.nx≤h5.nx:=G_h5.n
     have a_h5:Has h h5:=a_h1.trans G_h5.a
     have ev:=pk (d+3) r_Check_body ((AV.agg [p.quantitiesV,p.measuresV,p.alarmsV])::und 96) h .ret h5 (NN n_h1 (fun i=>(AV.ptr i 0))<|CN 2<|MM (lown 22 0 p.quantitiesV g_h1 k!)<|VV ln2<|VV (igtr 3 false true .i64 ((p.quantities.length:Nat):Int) 16)<|BB f0<|CC<|LL ev_yl4<|ZZ) k!
     have e:r_Check p=rr4:=by simp only[r_Check,f0,hl_yl4,cond_true,cond_false]
     rw[e]
     exact callP_pure rfl (fn_of Tryz.func19 r_Check_B k! (.inr rfl) ev k!) a_h5 rfl
noncomputable def r_response_body:Code:=(Tryz.f20.body).getD .skip
theorem r_response_B:Tryz.f20.body=some r_response_body:=by kernel_rfl
noncomputable def r_response_lp0:Code:=(loopsIn r_response_body).getD 0 .skip
def r_response_l0 (p:Plan) (n:Int):Nat→Nat→Int→Int→Int×Int
 | 0,_,v0_6,v0_7=>(v0_6,v0_7)
 | kq0+1,i0,v0_6,v0_7=>(bif (!decide (((p.measures.g i0).crew)=((p.measures.g (Int.toNat n)).crew))) then r_response_l0 p n kq0 (i0+1) v0_6 v0_7 else (bif (decide (((p.measures.g (Int.toNat n)).rank)<((p.measures.g i0).rank))) then (bif (decide (((p.measures.g i0).rank)<((p.measures.g (Int.toNat n)).rank))) then r_response_l0 p n kq0 (i0+1) (if ((p.measures.g i0).takes) >v0_6 then ((p.measures.g i0).takes) else v0_6) (IntKind.i64.wrap (v0_7+((p.measures.g i0).takes))) else r_response_l0 p n kq0 (i0+1) (if ((p.measures.g i0).takes) >v0_6 then ((p.measures.g i0).takes) else v0_6) v0_7) else (bif (decide (((p.measures.g i0).rank)<((p.measures.g (Int.toNat n)).rank))) then r_response_l0 p n kq0 (i0+1) v0_6 (IntKind.i64.wrap (v0_7+((p.measures.g i0).takes))) else r_response_l0 p n kq0 (i0+1) v0_6 v0_7)))
theorem r_response_l0_t {d:Nat} {h:Heap} (p:Plan) (n:Int) (b0_0:Nat) (b0_1:Nat) (H0_0:RowsAt h p.quantitiesV p.quantities) (H0_1:RowsAt h p.measuresV p.measures) (H0_2:RowsAt h p.alarmsV p.alarms) (H0_3:((p.measures.g (Int.toNat n)).name).length<2^60) (H0_4:((p.measures.g (Int.toNat n)).crew).length<2^60) (O0_0:RowT.ok h p) (O0_1:RowT.ok h (p.measures.g (Int.toNat n))) (E0_0:0≤n) (E0_1:n<(p.measures.length:Int)):∀(k_ i_:Nat) (v0_6:Int) (v0_7:Int) (_:i_+k_=p.measures.length) (x:Nat→AV) (hh:Heap) (y_hh:Tidy hh) (a_hh:Has h hh) (G0_0:hh.get b0_0=some (AObj.cells [p.quantitiesV,p.measuresV,p.alarmsV] 26 false)) (G0_1:hh.get b0_1=some (AObj.cells [(AV.str ((p.measures.g (Int.toNat n)).name)),(AV.str ((p.measures.g (Int.toNat n)).crew)),(AV.int .i64 ((p.measures.g (Int.toNat n)).rank)),(AV.int .i64 ((p.measures.g (Int.toNat n)).lag)),(AV.int .i64 ((p.measures.g (Int.toNat n)).takes))] 43 false)),ValLoop (cal (d)) r_response_lp0 ⟨((x 0)::(x 1)::(AV.ptr b0_0 0)::(x 3)::(x 4)::(AV.ptr b0_1 0)::(AV.int .i64 v0_6)::(AV.int .i64 v0_7)::(AV.int .i64 ((i_:Nat):Int))::rx x 9 49 []),hh,[],.no⟩ (.exit 0) hh (fun r y=>((y 0)::(y 1)::(AV.ptr b0_0 0)::(y 3)::(y 4)::(AV.ptr b0_1 0)::(AV.int .i64 r.1)::(AV.int .i64 r.2)::rx y 8 50 [])) (r_response_l0 p n k_ i_ v0_6 v0_7)
 | 0,i0,v0_6,v0_7,hik,x,hh,y_hh,a_hh,G0_0,G0_1=>by
   have s_H0_0:=H0_0.small
   have s_H0_1:=H0_1.small
   have s_H0_2:=H0_2.small
   have T0_0:=y_hh _ _ G0_0
   have T0_1:=y_hh _ _ G0_1
   have ln1:lenK (some (.slice 43)) (some p.measuresV)=some (AV.int .i64 ((p.measures.length:Nat):Int)):=(H0_1.has a_hh).len
   have q2:(decide (((i0:Nat):Int)<((p.measures.length:Nat):Int)))=false:=d!
   have ev:=pk (d) r_response_lp0 ((x 0)::(x 1)::(AV.ptr b0_0 0)::(x 3)::(x 4)::(AV.ptr b0_1 0)::(AV.int .i64 v0_6)::(AV.int .i64 v0_7)::(AV.int .i64 ((i0:Nat):Int))::rx x 9 49 []) hh (.exit 0) hh (CN 2<|MM (lown 23 1 p.measuresV G0_0 k!)<|VV ln1<|VV (ilss 3 false false .i64 ((i0:Nat):Int) ((p.measures.length:Nat):Int))<|BB q2<|ZZ) k!
   exact ValLoop.out (v0_6,v0_7) rfl ev (Grow.refl y_hh) k!
 | kq0+1,i0,v0_6,v0_7,hik,x,hh,y_hh,a_hh,G0_0,G0_1=>by
   have s_H0_0:=H0_0.small
   have s_H0_1:=H0_1.small
   have s_H0_2:=H0_2.small
   have T0_0:=y_hh _ _ G0_0
   have T0_1:=y_hh _ _ G0_1
   rcases Bool.eq_false_or_eq_true (!decide (((p.measures.g i0).crew)=((p.measures.g (Int.toNat n)).crew))) with f1 | f1
   · have n_f1:=nT_ f1
     have ln1:lenK (some (.slice 43)) (some p.measuresV)=some (AV.int .i64 ((p.measures.length:Nat):Int)):=(H0_1.has a_hh).len
     have q2:(decide (((i0:Nat):Int)<((p.measures.length:Nat):Int)))=true:=d!
     obtain ⟨p4,q5,ix3_⟩:=(H0_1.has a_hh).elem (i:=i0) o!
     have ix3:idxK env (some (.slice 43)) (some p.measuresV) (some (AV.int .i64 ((i0:Nat):Int)))=some (AV.ptr p4 q5):=ix3_
     have ld6:loadA env hh 43 (AV.ptr p4 q5)=some (AV.agg [(AV.str ((p.measures.g i0).name)),(AV.str ((p.measures.g i0).crew)),(AV.int .i64 ((p.measures.g i0).rank)),(AV.int .i64 ((p.measures.g i0).lag)),(AV.int .i64 ((p.measures.g i0).takes))]):=(H0_1.has a_hh).load o! ix3_
     obtain ⟨h7,n_h7,y_h7,z_h7,g_h7,b_h7⟩:=nwB y_hh (AObj.cells [(AV.str []),(AV.str []),(AV.int .i64 0),(AV.int .i64 0),(AV.int .i64 0)] 43 false)
     have a_h7:Has hh h7:=b_h7
     obtain ⟨h8,s_h8,y_h8,z_h8,g_h8,kk_h8⟩:=stwB (t:=43) (n:=5) (i:=hh.nx) (L:=[(AV.str ((p.measures.g i0).name)),(AV.str ((p.measures.g i0).crew)),(AV.int .i64 ((p.measures.g i0).rank)),(AV.int .i64 ((p.measures.g i0).lag)),(AV.int .i64 ((p.measures.g i0).takes))]) y_h7 g_h7 k! rfl rfl (by simp only[AV.cells,List.all_cons,List.all_nil,Bool.and_true,Bool.and_self,sc_int,sc_bool,sc_str,sc_ptr,sc_slice,sc_ns,sc_np,sc_nm,sc_nf,sc_ni,sc_map])
     have a_h8:Has hh h8:=Has.of_kept a_h7 kk_h8 y_hh o!
     have u10:=nadd 3 false true i0 1 o!
     have ev:=pk (d) r_response_lp0 ((x 0)::(x 1)::(AV.ptr b0_0 0)::(x 3)::(x 4)::(AV.ptr b0_1 0)::(AV.int .i64 v0_6)::(AV.int .i64 v0_7)::(AV.int .i64 ((i0:Nat):Int))::rx x 9 49 []) hh .normal h8 (CN 2<|MM (lown 23 1 p.measuresV G0_0 k!)<|VV ln1<|VV (ilss 3 false false .i64 ((i0:Nat):Int) ((p.measures.length:Nat):Int))<|BB q2<|CC<|MM (lown 23 1 p.measuresV G0_0 k!)<|CC<|VV ix3<|MM ld6<|NN n_h7 (fun i=>(AV.ptr i 0))<|SS s_h8<|CC<|MM (lown 9 1 (AV.str ((p.measures.g i0).crew)) g_h8 k!)<|CC<|MM (lown 9 1 (AV.str ((p.measures.g (Int.toNat n)).crew)) (kk_h8 _ _ o! (b_h7 _ _ G0_1)) k!)<|VV (sneq 9 false false ((p.measures.g i0).crew) ((p.measures.g (Int.toNat n)).crew))<|BB f1<|CC<|VV u10<|CC<|ZZ) k!
     exact ValLoop.round (by simp only[r_response_l0,f1,cond_true,cond_false]) ev (⟨y_h8,a_h8,by omega⟩) (fun x=>((x 0)::(x 1)::(AV.ptr b0_0 0)::(x 3)::(x 4)::(AV.ptr b0_1 0)::(AV.int .i64 v0_6)::(AV.int .i64 v0_7)::(AV.int .i64 (((i0+1):Nat):Int))::rx x 9 49 [])) k! (fun x=>r_response_l0_t p n b0_0 b0_1 H0_0 H0_1 H0_2 H0_3 H0_4 O0_0 O0_1 E0_0 E0_1 kq0 (i0+1) v0_6 v0_7 o! x h8 y_h8 (a_hh.trans a_h8) (kk_h8 _ _ o! (b_h7 _ _ G0_0)) (kk_h8 _ _ o! (b_h7 _ _ G0_1)))
   · have n_f1:=nF_ f1
     rcases Bool.eq_false_or_eq_true (decide (((p.measures.g (Int.toNat n)).rank)<((p.measures.g i0).rank))) with f2 | f2
     · have n_f2:=of_decide_eq_true f2
       rcases Bool.eq_false_or_eq_true (decide (((p.measures.g i0).rank)<((p.measures.g (Int.toNat n)).rank))) with f3 | f3
       · have n_f3:=of_decide_eq_true f3
         have ln1:lenK (some (.slice 43)) (some p.measuresV)=some (AV.int .i64 ((p.measures.length:Nat):Int)):=(H0_1.has a_hh).len
         have q2:(decide (((i0:Nat):Int)<((p.measures.length:Nat):Int)))=true:=d!
         obtain ⟨p4,q5,ix3_⟩:=(H0_1.has a_hh).elem (i:=i0) o!
         have ix3:idxK env (some (.slice 43)) (some p.measuresV) (some (AV.int .i64 ((i0:Nat):Int)))=some (AV.ptr p4 q5):=ix3_
         have ld6:loadA env hh 43 (AV.ptr p4 q5)=some (AV.agg [(AV.str ((p.measures.g i0).name)),(AV.str ((p.measures.g i0).crew)),(AV.int .i64 ((p.measures.g i0).rank)),(AV.int .i64 ((p.measures.g i0).lag)),(AV.int .i64 ((p.measures.g i0).takes))]):=(H0_1.has a_hh).load o! ix3_
         obtain ⟨h7,n_h7,y_h7,z_h7,g_h7,b_h7⟩:=nwB y_hh (AObj.cells [(AV.str []),(AV.str []),(AV.int .i64 0),(AV.int .i64 0),(AV.int .i64 0)] 43 false)
         have a_h7:Has hh h7:=b_h7
         obtain ⟨h8,s_h8,y_h8,z_h8,g_h8,kk_h8⟩:=stwB (t:=43) (n:=5) (i:=hh.nx) (L:=[(AV.str ((p.measures.g i0).name)),(AV.str ((p.measures.g i0).crew)),(AV.int .i64 ((p.measures.g i0).rank)),(AV.int .i64 ((p.measures.g i0).lag)),(AV.int .i64 ((p.measures.g i0).takes))]) y_h7 g_h7 k! rfl rfl (by simp only[AV.cells,List.all_cons,List.all_nil,Bool.and_true,Bool.and_self,sc_int,sc_bool,sc_str,sc_ptr,sc_slice,sc_ns,sc_np,sc_nm,sc_nf,sc_ni,sc_map])
         have a_h8:Has hh h8:=Has.of_kept a_h7 kk_h8 y_hh o!
         have u12:=nadd 3 false true i0 1 o!
         have ev:=pk (d) r_response_lp0 ((x 0)::(x 1)::(AV.ptr b0_0 0)::(x 3)::(x 4)::(AV.ptr b0_1 0)::(AV.int .i64 v0_6)::(AV.int .i64 v0_7)::(AV.int .i64 ((i0:Nat):Int))::rx x 9 49 []) hh .normal h8 (CN 2<|MM (lown 23 1 p.measuresV G0_0 k!)<|VV ln1<|VV (ilss 3 false false .i64 ((i0:Nat):Int) ((p.measures.length:Nat):Int))<|BB q2<|CC<|MM (lown 23 1 p.measuresV G0_0 k!)<|CC<|VV ix3<|MM ld6<|NN n_h7 (fun i=>(AV.ptr i 0))<|SS s_h8<|CC<|MM (lown 9 1 (AV.str ((p.measures.g i0).crew)) g_h8 k!)<|CC<|MM (lown 9 1 (AV.str ((p.measures.g (Int.toNat n)).crew)) (kk_h8 _ _ o! (b_h7 _ _ G0_1)) k!)<|VV (sneq 9 false false ((p.measures.g i0).crew) ((p.measures.g (Int.toNat n)).crew))<|BB f1<|CC<|MM (lown 3 2 (AV.int .i64 ((p.measures.g i0).rank)) g_h8 k!)<|CC<|MM (lown 3 2 (AV.int .i64 ((p.measures.g (Int.toNat n)).rank)) (kk_h8 _ _ o! (b_h7 _ _ G0_1)) k!)<|VV (igtr 3 false false .i64 ((p.measures.g i0).rank) ((p.measures.g (Int.toNat n)).rank))<|BB f2<|CN 2<|MM (lown 3 4 (AV.int .i64 ((p.measures.g i0).takes)) g_h8 k!)<|CN 3<|MM (lown 3 2 (AV.int .i64 ((p.measures.g i0).rank)) g_h8 k!)<|CC<|MM (lown 3 2 (AV.int .i64 ((p.measures.g (Int.toNat n)).rank)) (kk_h8 _ _ o! (b_h7 _ _ G0_1)) k!)<|VV (ilss 3 false false .i64 ((p.measures.g i0).rank) ((p.measures.g (Int.toNat n)).rank))<|BB f3<|CN 2<|MM (lown 3 4 (AV.int .i64 ((p.measures.g i0).takes)) g_h8 k!)<|CN 3<|VV u12<|CC<|ZZ) k!
         exact ValLoop.round (by simp only[r_response_l0,f1,f2,f3,cond_true,cond_false]) ev (⟨y_h8,a_h8,by omega⟩) (fun x=>((x 0)::(x 1)::(AV.ptr b0_0 0)::(x 3)::(x 4)::(AV.ptr b0_1 0)::(AV.int .i64 (if ((p.measures.g i0).takes) >v0_6 then ((p.measures.g i0).takes) else v0_6))::(AV.int .i64 (IntKind.i64.wrap (v0_7+((p.measures.g i0).takes))))::(AV.int .i64 (((i0+1):Nat):Int))::rx x 9 49 [])) k! (fun x=>r_response_l0_t p n b0_0 b0_1 H0_0 H0_1 H0_2 H0_3 H0_4 O0_0 O0_1 E0_0 E0_1 kq0 (i0+1) (if ((p.measures.g i0).takes) >v0_6 then ((p.measures.g i0).takes) else v0_6) (IntKind.i64.wrap (v0_7+((p.measures.g i0).takes))) o! x h8 y_h8 (a_hh.trans a_h8) (kk_h8 _ _ o! (b_h7 _ _ G0_0)) (kk_h8 _ _ o! (b_h7 _ _ G0_1)))
       · have n_f3:=of_decide_eq_false f3
         have ln1:lenK (some (.slice 43)) (some p.measuresV)=some (AV.int .i64 ((p.measures.length:Nat):Int)):=(H0_1.has a_hh).len
         have q2:(decide (((i0:Nat):Int)<((p.measures.length:Nat):Int)))=true:=d!
         obtain ⟨p4,q5,ix3_⟩:=(H0_1.has a_hh).elem (i:=i0) o!
         have ix3:idxK env (some (.slice 43)) (some p.measuresV) (some (AV.int .i64 ((i0:Nat):Int)))=some (AV.ptr p4 q5):=ix3_
         have ld6:loadA env hh 43 (AV.ptr p4 q5)=some (AV.agg [(AV.str ((p.measures.g i0).name)),(AV.str ((p.measures.g i0).crew)),(AV.int .i64 ((p.measures.g i0).rank)),(AV.int .i64 ((p.measures.g i0).lag)),(AV.int .i64 ((p.measures.g i0).takes))]):=(H0_1.has a_hh).load o! ix3_
         obtain ⟨h7,n_h7,y_h7,z_h7,g_h7,b_h7⟩:=nwB y_hh (AObj.cells [(AV.str []),(AV.str []),(AV.int .i64 0),(AV.int .i64 0),(AV.int .i64 0)] 43 false)
         have a_h7:Has hh h7:=b_h7
         obtain ⟨h8,s_h8,y_h8,z_h8,g_h8,kk_h8⟩:=stwB (t:=43) (n:=5) (i:=hh.nx) (L:=[(AV.str ((p.measures.g i0).name)),(AV.str ((p.measures.g i0).crew)),(AV.int .i64 ((p.measures.g i0).rank)),(AV.int .i64 ((p.measures.g i0).lag)),(AV.int .i64 ((p.measures.g i0).takes))]) y_h7 g_h7 k! rfl rfl (by simp only[AV.cells,List.all_cons,List.all_nil,Bool.and_true,Bool.and_self,sc_int,sc_bool,sc_str,sc_ptr,sc_slice,sc_ns,sc_np,sc_nm,sc_nf,sc_ni,sc_map])
         have a_h8:Has hh h8:=Has.of_kept a_h7 kk_h8 y_hh o!
         have u12:=nadd 3 false true i0 1 o!
         have ev:=pk (d) r_response_lp0 ((x 0)::(x 1)::(AV.ptr b0_0 0)::(x 3)::(x 4)::(AV.ptr b0_1 0)::(AV.int .i64 v0_6)::(AV.int .i64 v0_7)::(AV.int .i64 ((i0:Nat):Int))::rx x 9 49 []) hh .normal h8 (CN 2<|MM (lown 23 1 p.measuresV G0_0 k!)<|VV ln1<|VV (ilss 3 false false .i64 ((i0:Nat):Int) ((p.measures.length:Nat):Int))<|BB q2<|CC<|MM (lown 23 1 p.measuresV G0_0 k!)<|CC<|VV ix3<|MM ld6<|NN n_h7 (fun i=>(AV.ptr i 0))<|SS s_h8<|CC<|MM (lown 9 1 (AV.str ((p.measures.g i0).crew)) g_h8 k!)<|CC<|MM (lown 9 1 (AV.str ((p.measures.g (Int.toNat n)).crew)) (kk_h8 _ _ o! (b_h7 _ _ G0_1)) k!)<|VV (sneq 9 false false ((p.measures.g i0).crew) ((p.measures.g (Int.toNat n)).crew))<|BB f1<|CC<|MM (lown 3 2 (AV.int .i64 ((p.measures.g i0).rank)) g_h8 k!)<|CC<|MM (lown 3 2 (AV.int .i64 ((p.measures.g (Int.toNat n)).rank)) (kk_h8 _ _ o! (b_h7 _ _ G0_1)) k!)<|VV (igtr 3 false false .i64 ((p.measures.g i0).rank) ((p.measures.g (Int.toNat n)).rank))<|BB f2<|CN 2<|MM (lown 3 4 (AV.int .i64 ((p.measures.g i0).takes)) g_h8 k!)<|CN 3<|MM (lown 3 2 (AV.int .i64 ((p.measures.g i0).rank)) g_h8 k!)<|CC<|MM (lown 3 2 (AV.int .i64 ((p.measures.g (Int.toNat n)).rank)) (kk_h8 _ _ o! (b_h7 _ _ G0_1)) k!)<|VV (ilss 3 false false .i64 ((p.measures.g i0).rank) ((p.measures.g (Int.toNat n)).rank))<|BB f3<|CC<|VV u12<|CC<|ZZ) k!
         exact ValLoop.round (by simp only[r_response_l0,f1,f2,f3,cond_true,cond_false]) ev (⟨y_h8,a_h8,by omega⟩) (fun x=>((x 0)::(x 1)::(AV.ptr b0_0 0)::(x 3)::(x 4)::(AV.ptr b0_1 0)::(AV.int .i64 (if ((p.measures.g i0).takes) >v0_6 then ((p.measures.g i0).takes) else v0_6))::(AV.int .i64 v0_7)::(AV.int .i64 (((i0+1):Nat):Int))::rx x 9 49 [])) k! (fun x=>r_response_l0_t p n b0_0 b0_1 H0_0 H0_1 H0_2 H0_3 H0_4 O0_0 O0_1 E0_0 E0_1 kq0 (i0+1) (if ((p.measures.g i0).takes) >v0_6 then ((p.measures.g i0).takes) else v0_6) v0_7 o! x h8 y_h8 (a_hh.trans a_h8) (kk_h8 _ _ o! (b_h7 _ _ G0_0)) (kk_h8 _ _ o! (b_h7 _ _ G0_1)))
     · have n_f2:=of_decide_eq_false f2
       rcases Bool.eq_false_or_eq_true (decide (((p.measures.g i0).rank)<((p.measures.g (Int.toNat n)).rank))) with f3 | f3
       · have n_f3:=of_decide_eq_true f3
         have ln1:lenK (some (.slice 43)) (some p.measuresV)=some (AV.int .i64 ((p.measures.length:Nat):Int)):=(H0_1.has a_hh).len
         have q2:(decide (((i0:Nat):Int)<((p.measures.length:Nat):Int)))=true:=d!
         obtain ⟨p4,q5,ix3_⟩:=(H0_1.has a_hh).elem (i:=i0) o!
         have ix3:idxK env (some (.slice 43)) (some p.measuresV) (some (AV.int .i64 ((i0:Nat):Int)))=some (AV.ptr p4 q5):=ix3_
         have ld6:loadA env hh 43 (AV.ptr p4 q5)=some (AV.agg [(AV.str ((p.measures.g i0).name)),(AV.str ((p.measures.g i0).crew)),(AV.int .i64 ((p.measures.g i0).rank)),(AV.int .i64 ((p.measures.g i0).lag)),(AV.int .i64 ((p.measures.g i0).takes))]):=(H0_1.has a_hh).load o! ix3_
         obtain ⟨h7,n_h7,y_h7,z_h7,g_h7,b_h7⟩:=nwB y_hh (AObj.cells [(AV.str []),(AV.str []),(AV.int .i64 0),(AV.int .i64 0),(AV.int .i64 0)] 43 false)
         have a_h7:Has hh h7:=b_h7
         obtain ⟨h8,s_h8,y_h8,z_h8,g_h8,kk_h8⟩:=stwB (t:=43) (n:=5) (i:=hh.nx) (L:=[(AV.str ((p.measures.g i0).name)),(AV.str ((p.measures.g i0).crew)),(AV.int .i64 ((p.measures.g i0).rank)),(AV.int .i64 ((p.measures.g i0).lag)),(AV.int .i64 ((p.measures.g i0).takes))]) y_h7 g_h7 k! rfl rfl (by simp only[AV.cells,List.all_cons,List.all_nil,Bool.and_true,Bool.and_self,sc_int,sc_bool,sc_str,sc_ptr,sc_slice,sc_ns,sc_np,sc_nm,sc_nf,sc_ni,sc_map])
         have a_h8:Has hh h8:=Has.of_kept a_h7 kk_h8 y_hh o!
         have u12:=nadd 3 false true i0 1 o!
         have ev:=pk (d) r_response_lp0 ((x 0)::(x 1)::(AV.ptr b0_0 0)::(x 3)::(x 4)::(AV.ptr b0_1 0)::(AV.int .i64 v0_6)::(AV.int .i64 v0_7)::(AV.int .i64 ((i0:Nat):Int))::rx x 9 49 []) hh .normal h8 (CN 2<|MM (lown 23 1 p.measuresV G0_0 k!)<|VV ln1<|VV (ilss 3 false false .i64 ((i0:Nat):Int) ((p.measures.length:Nat):Int))<|BB q2<|CC<|MM (lown 23 1 p.measuresV G0_0 k!)<|CC<|VV ix3<|MM ld6<|NN n_h7 (fun i=>(AV.ptr i 0))<|SS s_h8<|CC<|MM (lown 9 1 (AV.str ((p.measures.g i0).crew)) g_h8 k!)<|CC<|MM (lown 9 1 (AV.str ((p.measures.g (Int.toNat n)).crew)) (kk_h8 _ _ o! (b_h7 _ _ G0_1)) k!)<|VV (sneq 9 false false ((p.measures.g i0).crew) ((p.measures.g (Int.toNat n)).crew))<|BB f1<|CC<|MM (lown 3 2 (AV.int .i64 ((p.measures.g i0).rank)) g_h8 k!)<|CC<|MM (lown 3 2 (AV.int .i64 ((p.measures.g (Int.toNat n)).rank)) (kk_h8 _ _ o! (b_h7 _ _ G0_1)) k!)<|VV (igtr 3 false false .i64 ((p.measures.g i0).rank) ((p.measures.g (Int.toNat n)).rank))<|BB f2<|CC<|MM (lown 3 2 (AV.int .i64 ((p.measures.g i0).rank)) g_h8 k!)<|CC<|MM (lown 3 2 (AV.int .i64 ((p.measures.g (Int.toNat n)).rank)) (kk_h8 _ _ o! (b_h7 _ _ G0_1)) k!)<|VV (ilss 3 false false .i64 ((p.measures.g i0).rank) ((p.measures.g (Int.toNat n)).rank))<|BB f3<|CN 2<|MM (lown 3 4 (AV.int .i64 ((p.measures.g i0).takes)) g_h8 k!)<|CN 3<|VV u12<|CC<|ZZ) k!
         exact ValLoop.round (by simp only[r_response_l0,f1,f2,f3,cond_true,cond_false]) ev (⟨y_h8,a_h8,by omega⟩) (fun x=>((x 0)::(x 1)::(AV.ptr b0_0 0)::(x 3)::(x 4)::(AV.ptr b0_1 0)::(AV.int .i64 v0_6)::(AV.int .i64 (IntKind.i64.wrap (v0_7+((p.measures.g i0).takes))))::(AV.int .i64 (((i0+1):Nat):Int))::rx x 9 49 [])) k! (fun x=>r_response_l0_t p n b0_0 b0_1 H0_0 H0_1 H0_2 H0_3 H0_4 O0_0 O0_1 E0_0 E0_1 kq0 (i0+1) v0_6 (IntKind.i64.wrap (v0_7+((p.measures.g i0).takes))) o! x h8 y_h8 (a_hh.trans a_h8) (kk_h8 _ _ o! (b_h7 _ _ G0_0)) (kk_h8 _ _ o! (b_h7 _ _ G0_1)))
       · have n_f3:=of_decide_eq_false f3
         have ln1:lenK (some (.slice 43)) (some p.measuresV)=some (AV.int .i64 ((p.measures.length:Nat):Int)):=(H0_1.has a_hh).len
         have q2:(decide (((i0:Nat):Int)<((p.measures.length:Nat):Int)))=true:=d!
         obtain ⟨p4,q5,ix3_⟩:=(H0_1.has a_hh).elem (i:=i0) o!
         have ix3:idxK env (some (.slice 43)) (some p.measuresV) (some (AV.int .i64 ((i0:Nat):Int)))=some (AV.ptr p4 q5):=ix3_
         have ld6:loadA env hh 43 (AV.ptr p4 q5)=some (AV.agg [(AV.str ((p.measures.g i0).name)),(AV.str ((p.measures.g i0).crew)),(AV.int .i64 ((p.measures.g i0).rank)),(AV.int .i64 ((p.measures.g i0).lag)),(AV.int .i64 ((p.measures.g i0).takes))]):=(H0_1.has a_hh).load o! ix3_
         obtain ⟨h7,n_h7,y_h7,z_h7,g_h7,b_h7⟩:=nwB y_hh (AObj.cells [(AV.str []),(AV.str []),(AV.int .i64 0),(AV.int .i64 0),(AV.int .i64 0)] 43 false)
         have a_h7:Has hh h7:=b_h7
         obtain ⟨h8,s_h8,y_h8,z_h8,g_h8,kk_h8⟩:=stwB (t:=43) (n:=5) (i:=hh.nx) (L:=[(AV.str ((p.measures.g i0).name)),(AV.str ((p.measures.g i0).crew)),(AV.int .i64 ((p.measures.g i0).rank)),(AV.int .i64 ((p.measures.g i0).lag)),(AV.int .i64 ((p.measures.g i0).takes))]) y_h7 g_h7 k! rfl rfl (by simp only[AV.cells,List.all_cons,List.all_nil,Bool.and_true,Bool.and_self,sc_int,sc_bool,sc_str,sc_ptr,sc_slice,sc_ns,sc_np,sc_nm,sc_nf,sc_ni,sc_map])
         have a_h8:Has hh h8:=Has.of_kept a_h7 kk_h8 y_hh o!
         have u12:=nadd 3 false true i0 1 o!
         have ev:=pk (d) r_response_lp0 ((x 0)::(x 1)::(AV.ptr b0_0 0)::(x 3)::(x 4)::(AV.ptr b0_1 0)::(AV.int .i64 v0_6)::(AV.int .i64 v0_7)::(AV.int .i64 ((i0:Nat):Int))::rx x 9 49 []) hh .normal h8 (CN 2<|MM (lown 23 1 p.measuresV G0_0 k!)<|VV ln1<|VV (ilss 3 false false .i64 ((i0:Nat):Int) ((p.measures.length:Nat):Int))<|BB q2<|CC<|MM (lown 23 1 p.measuresV G0_0 k!)<|CC<|VV ix3<|MM ld6<|NN n_h7 (fun i=>(AV.ptr i 0))<|SS s_h8<|CC<|MM (lown 9 1 (AV.str ((p.measures.g i0).crew)) g_h8 k!)<|CC<|MM (lown 9 1 (AV.str ((p.measures.g (Int.toNat n)).crew)) (kk_h8 _ _ o! (b_h7 _ _ G0_1)) k!)<|VV (sneq 9 false false ((p.measures.g i0).crew) ((p.measures.g (Int.toNat n)).crew))<|BB f1<|CC<|MM (lown 3 2 (AV.int .i64 ((p.measures.g i0).rank)) g_h8 k!)<|CC<|MM (lown 3 2 (AV.int .i64 ((p.measures.g (Int.toNat n)).rank)) (kk_h8 _ _ o! (b_h7 _ _ G0_1)) k!)<|VV (igtr 3 false false .i64 ((p.measures.g i0).rank) ((p.measures.g (Int.toNat n)).rank))<|BB f2<|CC<|MM (lown 3 2 (AV.int .i64 ((p.measures.g i0).rank)) g_h8 k!)<|CC<|MM (lown 3 2 (AV.int .i64 ((p.measures.g (Int.toNat n)).rank)) (kk_h8 _ _ o! (b_h7 _ _ G0_1)) k!)<|VV (ilss 3 false false .i64 ((p.measures.g i0).rank) ((p.measures.g (Int.toNat n)).rank))<|BB f3<|CC<|VV u12<|CC<|ZZ) k!
         exact ValLoop.round (by simp only[r_response_l0,f1,f2,f3,cond_true,cond_false]) ev (⟨y_h8,a_h8,by omega⟩) (fun x=>((x 0)::(x 1)::(AV.ptr b0_0 0)::(x 3)::(x 4)::(AV.ptr b0_1 0)::(AV.int .i64 v0_6)::(AV.int .i64 v0_7)::(AV.int .i64 (((i0+1):Nat):Int))::rx x 9 49 [])) k! (fun x=>r_response_l0_t p n b0_0 b0_1 H0_0 H0_1 H0_2 H0_3 H0_4 O0_0 O0_1 E0_0 E0_1 kq0 (i0+1) v0_6 v0_7 o! x h8 y_h8 (a_hh.trans a_h8) (kk_h8 _ _ o! (b_h7 _ _ G0_0)) (kk_h8 _ _ o! (b_h7 _ _ G0_1)))
def r_response (p:Plan) (n:Int):Int:=(IntKind.i64.wrap (((r_response_l0 p n p.measures.length 0 0 (IntKind.i64.wrap (((p.measures.g (Int.toNat n)).lag)+((p.measures.g (Int.toNat n)).takes)))).2)+((r_response_l0 p n p.measures.length 0 0 (IntKind.i64.wrap (((p.measures.g (Int.toNat n)).lag)+((p.measures.g (Int.toNat n)).takes)))).1)))
theorem r_response_c {d:Nat} {h:Heap} (p:Plan) (n:Int) (h_p:RowT.ok h p) (pre0:0≤n) (pre1:n<(p.measures.length:Int)) (y_h:Tidy h):cal (d+1) (.fn 20) [(AV.agg [p.quantitiesV,p.measuresV,p.alarmsV]),(AV.int .i64 n)] h= .ret (AV.int .i64 (r_response p n)) h:=by
 have s_h_p_1:=h_p.1.small
 have s_h_p_2_1:=h_p.2.1.small
 have s_h_p_2_2:=h_p.2.2.small
 obtain ⟨h1,n_h1,y_h1,z_h1,g_h1,b_h1⟩:=nwB y_h (AObj.cells [p.quantitiesV,p.measuresV,p.alarmsV] 26 false)
 have a_h1:Has h h1:=b_h1
 obtain ⟨p3,q4,ix2_⟩:=h_p.2.1.elem (i:=(Int.toNat n)) o!
 have ix2:idxK env (some (.slice 43)) (some p.measuresV) (some (AV.int .i64 n))=some (AV.ptr p3 q4):=by rw[show (n:Int)=(((Int.toNat n):Nat):Int) by omega];exact ix2_
 have ld5:loadA env h1 43 (AV.ptr p3 q4)=some (AV.agg [(AV.str ((p.measures.g (Int.toNat n)).name)),(AV.str ((p.measures.g (Int.toNat n)).crew)),(AV.int .i64 ((p.measures.g (Int.toNat n)).rank)),(AV.int .i64 ((p.measures.g (Int.toNat n)).lag)),(AV.int .i64 ((p.measures.g (Int.toNat n)).takes))]):=(h_p.2.1.has a_h1).load o! ix2_
 obtain ⟨h6,n_h6,y_h6,z_h6,g_h6,b_h6⟩:=nwB y_h1 (AObj.cells [(AV.str []),(AV.str []),(AV.int .i64 0),(AV.int .i64 0),(AV.int .i64 0)] 43 false)
 have a_h6:Has h h6:=a_h1.trans b_h6
 obtain ⟨h7,s_h7,y_h7,z_h7,g_h7,kk_h7⟩:=stwB (t:=43) (n:=5) (i:=h1.nx) (L:=[(AV.str ((p.measures.g (Int.toNat n)).name)),(AV.str ((p.measures.g (Int.toNat n)).crew)),(AV.int .i64 ((p.measures.g (Int.toNat n)).rank)),(AV.int .i64 ((p.measures.g (Int.toNat n)).lag)),(AV.int .i64 ((p.measures.g (Int.toNat n)).takes))]) y_h6 g_h6 k! rfl rfl (by simp only[AV.cells,List.all_cons,List.all_nil,Bool.and_true,Bool.and_self,sc_int,sc_bool,sc_str,sc_ptr,sc_slice,sc_ns,sc_np,sc_nm,sc_nf,sc_ni,sc_map])
 have a_h7:Has h h7:=Has.of_kept a_h6 kk_h7 y_h o!
 obtain ⟨yl8,h9,ev_yl8,G_h9⟩:=r_response_l0_t (d:=d) (h:=h) p n h.nx h1.nx h_p.1 h_p.2.1 h_p.2.2 ((h_p.2.1.ok (i:=(Int.toNat n)) o!).1) ((h_p.2.1.ok (i:=(Int.toNat n)) o!).2) h_p (h_p.2.1.ok (i:=(Int.toNat n)) o!) o! o! p.measures.length 0 0 (IntKind.i64.wrap (((p.measures.g (Int.toNat n)).lag)+((p.measures.g (Int.toNat n)).takes))) o! (fun k_=>(((AV.agg [p.quantitiesV,p.measuresV,p.alarmsV])::(AV.int .i64 n)::(AV.ptr h.nx 0)::AV.undef::(AV.int .i64 0)::(AV.ptr h1.nx 0)::(AV.int .i64 0)::(AV.int .i64 (IntKind.i64.wrap (((p.measures.g (Int.toNat n)).lag)+((p.measures.g (Int.toNat n)).takes))))::(AV.int .i64 0)::AV.undef::(AV.ptr h.nx 1)::p.measuresV::(AV.int .i64 n)::(AV.ptr p3 q4)::(AV.agg [(AV.str ((p.measures.g (Int.toNat n)).name)),(AV.str ((p.measures.g (Int.toNat n)).crew)),(AV.int .i64 ((p.measures.g (Int.toNat n)).rank)),(AV.int .i64 ((p.measures.g (Int.toNat n)).lag)),(AV.int .i64 ((p.measures.g (Int.toNat n)).takes))])::(AV.ptr h1.nx 3)::(AV.int .i64 ((p.measures.g (Int.toNat n)).lag))::(AV.ptr h1.nx 4)::(AV.int .i64 ((p.measures.g (Int.toNat n)).takes))::(AV.int .i64 (IntKind.i64.wrap (((p.measures.g (Int.toNat n)).lag)+((p.measures.g (Int.toNat n)).takes))))::und 38):List AV).getD k_ AV.undef) h7 y_h7 a_h7 (kk_h7 _ _ o! (b_h6 _ _ g_h1)) g_h7
 have y_h9:=G_h9.y
 have m_h9:h7.nx≤h9.nx:=G_h9.n
 have a_h9:Has h h9:=a_h7.trans G_h9.a
 have ev:=pk (d) r_response_body ((AV.agg [p.quantitiesV,p.measuresV,p.alarmsV])::(AV.int .i64 n)::und 56) h .ret h9 (NN n_h1 (fun i=>(AV.ptr i 0))<|CN 2<|MM (lown 23 1 p.measuresV g_h1 k!)<|CC<|VV ix2<|MM ld5<|NN n_h6 (fun i=>(AV.ptr i 0))<|SS s_h7<|CC<|MM (lown 3 3 (AV.int .i64 ((p.measures.g (Int.toNat n)).lag)) g_h7 k!)<|CC<|MM (lown 3 4 (AV.int .i64 ((p.measures.g (Int.toNat n)).takes)) g_h7 k!)<|CN 3<|HH (lown 3 3 (AV.int .i64 ((p.measures.g (Int.toNat n)).lag)) g_h7 k!)<|HH (show AV.same 20 (AV.int .i64 ((p.measures.g (Int.toNat n)).lag)) (AV.int .i64 ((p.measures.g (Int.toNat n)).lag))=true from same_int 19 _ _)<|HH (lown 3 4 (AV.int .i64 ((p.measures.g (Int.toNat n)).takes)) g_h7 k!)<|HH (show AV.same 20 (AV.int .i64 ((p.measures.g (Int.toNat n)).takes)) (AV.int .i64 ((p.measures.g (Int.toNat n)).takes))=true from same_int 19 _ _)<|CC<|LL ev_yl8<|CN 4<|ZZ) k!
 have e:r_response p n=(IntKind.i64.wrap (((r_response_l0 p n p.measures.length 0 0 (IntKind.i64.wrap (((p.measures.g (Int.toNat n)).lag)+((p.measures.g (Int.toNat n)).takes)))).2)+((r_response_l0 p n p.measures.length 0 0 (IntKind.i64.wrap (((p.measures.g (Int.toNat n)).lag)+((p.measures.g (Int.toNat n)).takes)))).1))):=by simp only[r_response,cond_true,cond_false]
 rw[e]
 exact callP_pure rfl (fn_of Tryz.func20 r_response_B k! (.inr rfl) ev k!) a_h9 rfl
end Go.Proofs.Bench
