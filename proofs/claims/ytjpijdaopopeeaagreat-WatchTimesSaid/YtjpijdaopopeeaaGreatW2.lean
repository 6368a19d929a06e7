import Derived.Test.YtjpijdaopopeeaaGreatW0
import Derived.Test.YtjpijdaopopeeaaGreatW1
namespace Go.Proofs.Bench
open Go.Proofs Ab
set_option maxRecDepth 100000
set_option maxHeartbeats 4000000
set_option linter.unusedVariables false
set_option linter.unusedSimpArgs false
noncomputable def r_CheckQuantity_body:Code:=(Tryz.f36.body).getD .skip
theorem r_CheckQuantity_B:Tryz.f36.body=some r_CheckQuantity_body:=by kernel_rfl
noncomputable def r_CheckQuantity_lp0:Code:=(loopsIn r_CheckQuantity_body).getD 0 .skip
noncomputable def r_CheckQuantity_lp1:Code:=(loopsIn r_CheckQuantity_body).getD 1 .skip
def r_CheckQuantity_l1 (i0:Nat) (q:Quantity):Nat→Nat→Option (Int)
 | 0,_=>none
 | kq1+1,i1=>(bif (decide (((q.gauges.g i1).name)=((q.gauges.g i0).name))) then some 6 else r_CheckQuantity_l1 i0 q kq1 (i1+1))
theorem r_CheckQuantity_l1_t {d:Nat} {h:Heap} (i0:Nat) (q:Quantity) (b1_0:Nat) (H1_0:q.name.length<2^60) (H1_1:RowsAt h q.gaugesV q.gauges) (O1_0:RowT.ok h q) (B1_i0:i0<q.gauges.length):∀(k_ i_:Nat) (_:i_+k_=i0) (x:Nat→AV) (hh:Heap) (y_hh:Tidy hh) (a_hh:Has h hh) (G1_0:hh.get b1_0=some (AObj.cells [(AV.str q.name),(AV.int .i64 q.low),(AV.int .i64 q.high),(AV.int .i64 q.rise),(AV.int .i64 q.fall),(AV.int .i64 q.bad),q.gaugesV] 41 false)),OptLoop (cal (d+2)) r_CheckQuantity_lp1 ⟨((x 0)::(AV.ptr b1_0 0)::(x 2)::(AV.int .i64 ((i0:Nat):Int))::(AV.int .i64 ((i_:Nat):Int))::rx x 5 106 []),hh,[],.no⟩ (.exit 3) hh (fun y=>((y 0)::(AV.ptr b1_0 0)::(y 2)::(AV.int .i64 ((i0:Nat):Int))::rx y 4 107 [])) (fun r y=>((y 0)::(AV.ptr b1_0 0)::(AV.int .i64 r)::(AV.int .i64 ((i0:Nat):Int))::rx y 4 107 [])) (r_CheckQuantity_l1 i0 q k_ i_)
 | 0,i1,hik,x,hh,y_hh,a_hh,G1_0=>by
   have s_H1_1:=H1_1.small
   have T1_0:=y_hh _ _ G1_0
   have q1:(decide (((i1:Nat):Int)<((i0:Nat):Int)))=false:=d!
   have ev:=pk (d+2) r_CheckQuantity_lp1 ((x 0)::(AV.ptr b1_0 0)::(x 2)::(AV.int .i64 ((i0:Nat):Int))::(AV.int .i64 ((i1:Nat):Int))::rx x 5 106 []) hh (.exit 3) hh (CN 2<|VV (ilss 3 false false .i64 ((i1:Nat):Int) ((i0:Nat):Int))<|BB q1<|ZZ) k!
   exact OptLoop.out rfl ev (Grow.refl y_hh) k!
 | kq1+1,i1,hik,x,hh,y_hh,a_hh,G1_0=>by
   have s_H1_1:=H1_1.small
   have T1_0:=y_hh _ _ G1_0
   rcases Bool.eq_false_or_eq_true (decide (((q.gauges.g i1).name)=((q.gauges.g i0).name))) with f1 | f1
   · have n_f1:=of_decide_eq_true f1
     have q1:(decide (((i1:Nat):Int)<((i0:Nat):Int)))=true:=d!
     obtain ⟨p3,q4,ix2_⟩:=(H1_1.has a_hh).elem (i:=i1) o!
     have ix2:idxK env (some (.slice 61)) (some q.gaugesV) (some (AV.int .i64 ((i1:Nat):Int)))=some (AV.ptr p3 q4):=ix2_
     have ld5:loadA env hh 9 (AV.ptr p3 (q4+0))=some (AV.str ((q.gauges.g i1).name)):=(H1_1.has a_hh).part (t:=9) (j:=0) o! ix2_ k! rfl
     obtain ⟨p7,q8,ix6_⟩:=(H1_1.has a_hh).elem (i:=i0) o!
     have ix6:idxK env (some (.slice 61)) (some q.gaugesV) (some (AV.int .i64 ((i0:Nat):Int)))=some (AV.ptr p7 q8):=ix6_
     have ld9:loadA env hh 9 (AV.ptr p7 (q8+0))=some (AV.str ((q.gauges.g i0).name)):=(H1_1.has a_hh).part (t:=9) (j:=0) o! ix6_ k! rfl
     have c10:AV.same 20 q.gaugesV q.gaugesV=true:=(H1_1.has a_hh).same 19
     have ev:=pk (d+2) r_CheckQuantity_lp1 ((x 0)::(AV.ptr b1_0 0)::(x 2)::(AV.int .i64 ((i0:Nat):Int))::(AV.int .i64 ((i1:Nat):Int))::rx x 5 106 []) hh .ret hh (CN 2<|VV (ilss 3 false false .i64 ((i1:Nat):Int) ((i0:Nat):Int))<|BB q1<|CC<|MM (lown 39 6 q.gaugesV G1_0 k!)<|CC<|VV ix2<|CC<|MM ld5<|CC<|MM (lown 39 6 q.gaugesV G1_0 k!)<|CC<|VV ix6<|CC<|MM ld9<|VV (seql 9 false false ((q.gauges.g i1).name) ((q.gauges.g i0).name))<|HH (lown 39 6 q.gaugesV G1_0 k!)<|HH c10<|HH ld5<|HH (show AV.same 20 (AV.str ((q.gauges.g i1).name)) (AV.str ((q.gauges.g i1).name))=true from same_str 19 _)<|HH (lown 39 6 q.gaugesV G1_0 k!)<|HH c10<|HH ld9<|HH (show AV.same 20 (AV.str ((q.gauges.g i0).name)) (AV.str ((q.gauges.g i0).name))=true from same_str 19 _)<|BB f1<|CC<|ZZ) k!
     exact OptLoop.ret 6 (by simp only[r_CheckQuantity_l1,f1,cond_true,cond_false]) ev (Grow.refl y_hh) k!
   · have n_f1:=of_decide_eq_false f1
     have q1:(decide (((i1:Nat):Int)<((i0:Nat):Int)))=true:=d!
     obtain ⟨p3,q4,ix2_⟩:=(H1_1.has a_hh).elem (i:=i1) o!
     have ix2:idxK env (some (.slice 61)) (some q.gaugesV) (some (AV.int .i64 ((i1:Nat):Int)))=some (AV.ptr p3 q4):=ix2_
     have ld5:loadA env hh 9 (AV.ptr p3 (q4+0))=some (AV.str ((q.gauges.g i1).name)):=(H1_1.has a_hh).part (t:=9) (j:=0) o! ix2_ k! rfl
     obtain ⟨p7,q8,ix6_⟩:=(H1_1.has a_hh).elem (i:=i0) o!
     have ix6:idxK env (some (.slice 61)) (some q.gaugesV) (some (AV.int .i64 ((i0:Nat):Int)))=some (AV.ptr p7 q8):=ix6_
     have ld9:loadA env hh 9 (AV.ptr p7 (q8+0))=some (AV.str ((q.gauges.g i0).name)):=(H1_1.has a_hh).part (t:=9) (j:=0) o! ix6_ k! rfl
     have c10:AV.same 20 q.gaugesV q.gaugesV=true:=(H1_1.has a_hh).same 19
     have u12:=nadd 3 false true i1 1 o!
     have ev:=pk (d+2) r_CheckQuantity_lp1 ((x 0)::(AV.ptr b1_0 0)::(x 2)::(AV.int .i64 ((i0:Nat):Int))::(AV.int .i64 ((i1:Nat):Int))::rx x 5 106 []) hh .normal hh (CN 2<|VV (ilss 3 false false .i64 ((i1:Nat):Int) ((i0:Nat):Int))<|BB q1<|CC<|MM (lown 39 6 q.gaugesV G1_0 k!)<|CC<|VV ix2<|CC<|MM ld5<|CC<|MM (lown 39 6 q.gaugesV G1_0 k!)<|CC<|VV ix6<|CC<|MM ld9<|VV (seql 9 false false ((q.gauges.g i1).name) ((q.gauges.g i0).name))<|HH (lown 39 6 q.gaugesV G1_0 k!)<|HH c10<|HH ld5<|HH (show AV.same 20 (AV.str ((q.gauges.g i1).name)) (AV.str ((q.gauges.g i1).name))=true from same_str 19 _)<|HH (lown 39 6 q.gaugesV G1_0 k!)<|HH c10<|HH ld9<|HH (show AV.same 20 (AV.str ((q.gauges.g i0).name)) (AV.str ((q.gauges.g i0).name))=true from same_str 19 _)<|BB f1<|CC<|VV u12<|CC<|ZZ) k!
     exact OptLoop.round (by simp only[r_CheckQuantity_l1,f1,cond_true,cond_false]) ev (Grow.refl y_hh) (fun x=>((x 0)::(AV.ptr b1_0 0)::(x 2)::(AV.int .i64 ((i0:Nat):Int))::(AV.int .i64 (((i1+1):Nat):Int))::rx x 5 106 [])) k! (fun x=>r_CheckQuantity_l1_t i0 q b1_0 H1_0 H1_1 O1_0 B1_i0 kq1 (i1+1) o! x hh y_hh a_hh G1_0)
def r_CheckQuantity_l0 (q:Quantity):Nat→Nat→Option (Int)
 | 0,_=>none
 | kq0+1,i0=>(bif (!(r_Name ((q.gauges.g i0).name))) then some 5 else (match (r_CheckQuantity_l1 i0 q i0 0) with | none=>(bif (!decide ((r_checkGauge (q.gauges.g i0))=0)) then some (r_checkGauge (q.gauges.g i0)) else r_CheckQuantity_l0 q kq0 (i0+1)) | some rr9=>some rr9))
theorem r_CheckQuantity_l0_t {d:Nat} {h:Heap} (q:Quantity) (b0_0:Nat) (H0_0:q.name.length<2^60) (H0_1:RowsAt h q.gaugesV q.gauges) (O0_0:RowT.ok h q):∀(k_ i_:Nat) (_:i_+k_=q.gauges.length) (x:Nat→AV) (hh:Heap) (y_hh:Tidy hh) (a_hh:Has h hh) (G0_0:hh.get b0_0=some (AObj.cells [(AV.str q.name),(AV.int .i64 q.low),(AV.int .i64 q.high),(AV.int .i64 q.rise),(AV.int .i64 q.fall),(AV.int .i64 q.bad),q.gaugesV] 41 false)),OptLoop (cal (d+2)) r_CheckQuantity_lp0 ⟨((x 0)::(AV.ptr b0_0 0)::(x 2)::(AV.int .i64 ((i_:Nat):Int))::rx x 4 107 []),hh,[],.no⟩ (.exit 1) hh (fun y=>((y 0)::(AV.ptr b0_0 0)::rx y 2 109 [])) (fun r y=>((y 0)::(AV.ptr b0_0 0)::(AV.int .i64 r)::rx y 3 108 [])) (r_CheckQuantity_l0 q k_ i_)
 | 0,i0,hik,x,hh,y_hh,a_hh,G0_0=>by
   have s_H0_1:=H0_1.small
   have T0_0:=y_hh _ _ G0_0
   have ln1:lenK (some (.slice 61)) (some q.gaugesV)=some (AV.int .i64 ((q.gauges.length:Nat):Int)):=(H0_1.has a_hh).len
   have q2:(decide (((i0:Nat):Int)<((q.gauges.length:Nat):Int)))=false:=d!
   have ev:=pk (d+2) r_CheckQuantity_lp0 ((x 0)::(AV.ptr b0_0 0)::(x 2)::(AV.int .i64 ((i0:Nat):Int))::rx x 4 107 []) hh (.exit 1) hh (CN 2<|MM (lown 39 6 q.gaugesV G0_0 k!)<|VV ln1<|VV (ilss 3 false false .i64 ((i0:Nat):Int) ((q.gauges.length:Nat):Int))<|BB q2<|ZZ) k!
   exact OptLoop.out rfl ev (Grow.refl y_hh) k!
 | kq0+1,i0,hik,x,hh,y_hh,a_hh,G0_0=>by
   have s_H0_1:=H0_1.small
   have T0_0:=y_hh _ _ G0_0
   rcases Bool.eq_false_or_eq_true (!(r_Name ((q.gauges.g i0).name))) with f1 | f1
   · have ln1:lenK (some (.slice 61)) (some q.gaugesV)=some (AV.int .i64 ((q.gauges.length:Nat):Int)):=(H0_1.has a_hh).len
     have q2:(decide (((i0:Nat):Int)<((q.gauges.length:Nat):Int)))=true:=d!
     obtain ⟨p4,q5,ix3_⟩:=(H0_1.has a_hh).elem (i:=i0) o!
     have ix3:idxK env (some (.slice 61)) (some q.gaugesV) (some (AV.int .i64 ((i0:Nat):Int)))=some (AV.ptr p4 q5):=ix3_
     have ld6:loadA env hh 9 (AV.ptr p4 (q5+0))=some (AV.str ((q.gauges.g i0).name)):=(H0_1.has a_hh).part (t:=9) (j:=0) o! ix3_ k! rfl
     have k7:=r_Name_c (d:=d+1) ((q.gauges.g i0).name) ((H0_1.has a_hh).ok (i:=i0) o!) y_hh
     have ev:=pk (d+2) r_CheckQuantity_lp0 ((x 0)::(AV.ptr b0_0 0)::(x 2)::(AV.int .i64 ((i0:Nat):Int))::rx x 4 107 []) hh .ret hh (CN 2<|MM (lown 39 6 q.gaugesV G0_0 k!)<|VV ln1<|VV (ilss 3 false false .i64 ((i0:Nat):Int) ((q.gauges.length:Nat):Int))<|BB q2<|CC<|MM (lown 39 6 q.gaugesV G0_0 k!)<|CC<|VV ix3<|CC<|MM ld6<|EE k7<|CC<|BB f1<|CC<|ZZ) k!
     exact OptLoop.ret 5 (by simp only[r_CheckQuantity_l0,f1,cond_true,cond_false]) ev (Grow.refl y_hh) k!
   · cases hl_yl9:r_CheckQuantity_l1 i0 q i0 0 with
     | none=>
       rcases Bool.eq_false_or_eq_true (!decide ((r_checkGauge (q.gauges.g i0))=0)) with f3 | f3
       · have n_f3:=nT_ f3
         have ln1:lenK (some (.slice 61)) (some q.gaugesV)=some (AV.int .i64 ((q.gauges.length:Nat):Int)):=(H0_1.has a_hh).len
         have q2:(decide (((i0:Nat):Int)<((q.gauges.length:Nat):Int)))=true:=d!
         obtain ⟨p4,q5,ix3_⟩:=(H0_1.has a_hh).elem (i:=i0) o!
         have ix3:idxK env (some (.slice 61)) (some q.gaugesV) (some (AV.int .i64 ((i0:Nat):Int)))=some (AV.ptr p4 q5):=ix3_
         have ld6:loadA env hh 9 (AV.ptr p4 (q5+0))=some (AV.str ((q.gauges.g i0).name)):=(H0_1.has a_hh).part (t:=9) (j:=0) o! ix3_ k! rfl
         have k7:=r_Name_c (d:=d+1) ((q.gauges.g i0).name) ((H0_1.has a_hh).ok (i:=i0) o!) y_hh
         obtain ⟨yl9,h10,ev_yl9,G_h10⟩:=OptLoop.n hl_yl9 (r_CheckQuantity_l1_t (d:=d) (h:=hh) i0 q b0_0 H0_0 (H0_1.has a_hh) (RowT.mono a_hh O0_0) o! i0 0 o! (fun k_=>(((x 0)::(AV.ptr b0_0 0)::(x 2)::(AV.int .i64 ((i0:Nat):Int))::(AV.int .i64 0)::rx x 5 64 ((AV.int .i64 ((i0:Nat):Int))::(AV.ptr b0_0 6)::q.gaugesV::(AV.int .i64 ((q.gauges.length:Nat):Int))::(AV.bool (decide (((i0:Nat):Int)<((q.gauges.length:Nat):Int))))::(x 74)::(x 75)::(AV.ptr b0_0 6)::q.gaugesV::(AV.int .i64 ((i0:Nat):Int))::(AV.ptr p4 q5)::(AV.ptr p4 (q5+0))::(AV.str ((q.gauges.g i0).name))::(AV.bool (r_Name ((q.gauges.g i0).name)))::(AV.bool (!(r_Name ((q.gauges.g i0).name))))::rx x 84 27 [])):List AV).getD k_ AV.undef) hh y_hh (Has.refl _) G0_0)
         have y_h10:=G_h10.y
         have m_h10:hh.nx≤h10.nx:=G_h10.n
         have a_h10:Has hh h10:=G_h10.a
         obtain ⟨p12,q13,ix11_⟩:=(H0_1.has a_hh).elem (i:=i0) o!
         have ix11:idxK env (some (.slice 61)) (some q.gaugesV) (some (AV.int .i64 ((i0:Nat):Int)))=some (AV.ptr p12 q13):=ix11_
         have ld14:loadA env h10 61 (AV.ptr p12 q13)=some (AV.agg [(AV.str ((q.gauges.g i0).name)),(AV.int .i64 ((q.gauges.g i0).acc)),(AV.int .i64 ((q.gauges.g i0).drift)),(AV.int .i64 ((q.gauges.g i0).since))]):=((H0_1.has a_hh).has a_h10).load o! ix11_
         have k15:=r_checkGauge_c (d:=d) (q.gauges.g i0) (RowT.mono a_h10 ((H0_1.has a_hh).ok (i:=i0) o!)) y_h10
         have ev:=pk (d+2) r_CheckQuantity_lp0 ((x 0)::(AV.ptr b0_0 0)::(x 2)::(AV.int .i64 ((i0:Nat):Int))::rx x 4 107 []) hh .ret h10 (CN 2<|MM (lown 39 6 q.gaugesV G0_0 k!)<|VV ln1<|VV (ilss 3 false false .i64 ((i0:Nat):Int) ((q.gauges.length:Nat):Int))<|BB q2<|CC<|MM (lown 39 6 q.gaugesV G0_0 k!)<|CC<|VV ix3<|CC<|MM ld6<|EE k7<|CC<|BB f1<|CC<|LL ev_yl9<|CC<|MM (lown 39 6 q.gaugesV (G_h10.a _ _ G0_0) k!)<|CC<|VV ix11<|MM ld14<|EE k15<|CN 2<|VV (ineq 29 false true .i64 (r_checkGauge (q.gauges.g i0)) 0)<|BB f3<|CN 2<|ZZ) k!
         exact OptLoop.ret (r_checkGauge (q.gauges.g i0)) (by simp only[r_CheckQuantity_l0,f1,hl_yl9,f3,cond_true,cond_false]) ev (⟨y_h10,a_h10,by omega⟩) k!
       · have n_f3:=nF_ f3
         have ln1:lenK (some (.slice 61)) (some q.gaugesV)=some (AV.int .i64 ((q.gauges.length:Nat):Int)):=(H0_1.has a_hh).len
         have q2:(decide (((i0:Nat):Int)<((q.gauges.length:Nat):Int)))=true:=d!
         obtain ⟨p4,q5,ix3_⟩:=(H0_1.has a_hh).elem (i:=i0) o!
         have ix3:idxK env (some (.slice 61)) (some q.gaugesV) (some (AV.int .i64 ((i0:Nat):Int)))=some (AV.ptr p4 q5):=ix3_
         have ld6:loadA env hh 9 (AV.ptr p4 (q5+0))=some (AV.str ((q.gauges.g i0).name)):=(H0_1.has a_hh).part (t:=9) (j:=0) o! ix3_ k! rfl
         have k7:=r_Name_c (d:=d+1) ((q.gauges.g i0).name) ((H0_1.has a_hh).ok (i:=i0) o!) y_hh
         obtain ⟨yl9,h10,ev_yl9,G_h10⟩:=OptLoop.n hl_yl9 (r_CheckQuantity_l1_t (d:=d) (h:=hh) i0 q b0_0 H0_0 (H0_1.has a_hh) (RowT.mono a_hh O0_0) o! i0 0 o! (fun k_=>(((x 0)::(AV.ptr b0_0 0)::(x 2)::(AV.int .i64 ((i0:Nat):Int))::(AV.int .i64 0)::rx x 5 64 ((AV.int .i64 ((i0:Nat):Int))::(AV.ptr b0_0 6)::q.gaugesV::(AV.int .i64 ((q.gauges.length:Nat):Int))::(AV.bool (decide (((i0:Nat):Int)<((q.gauges.length:Nat):Int))))::(x 74)::(x 75)::(AV.ptr b0_0 6)::q.gaugesV::(AV.int .i64 ((i0:Nat):Int))::(AV.ptr p4 q5)::(AV.ptr p4 (q5+0))::(AV.str ((q.gauges.g i0).name))::(AV.bool (r_Name ((q.gauges.g i0).name)))::(AV.bool (!(r_Name ((q.gauges.g i0).name))))::rx x 84 27 [])):List AV).getD k_ AV.undef) hh y_hh (Has.refl _) G0_0)
         have y_h10:=G_h10.y
         have m_h10:hh.nx≤h10.nx:=G_h10.n
         have a_h10:Has hh h10:=G_h10.a
         obtain ⟨p12,q13,ix11_⟩:=(H0_1.has a_hh).elem (i:=i0) o!
         have ix11:idxK env (some (.slice 61)) (some q.gaugesV) (some (AV.int .i64 ((i0:Nat):Int)))=some (AV.ptr p12 q13):=ix11_
         have ld14:loadA env h10 61 (AV.ptr p12 q13)=some (AV.agg [(AV.str ((q.gauges.g i0).name)),(AV.int .i64 ((q.gauges.g i0).acc)),(AV.int .i64 ((q.gauges.g i0).drift)),(AV.int .i64 ((q.gauges.g i0).since))]):=((H0_1.has a_hh).has a_h10).load o! ix11_
         have k15:=r_checkGauge_c (d:=d) (q.gauges.g i0) (RowT.mono a_h10 ((H0_1.has a_hh).ok (i:=i0) o!)) y_h10
         have u17:=nadd 3 false true i0 1 o!
         have ev:=pk (d+2) r_CheckQuantity_lp0 ((x 0)::(AV.ptr b0_0 0)::(x 2)::(AV.int .i64 ((i0:Nat):Int))::rx x 4 107 []) hh .normal h10 (CN 2<|MM (lown 39 6 q.gaugesV G0_0 k!)<|VV ln1<|VV (ilss 3 false false .i64 ((i0:Nat):Int) ((q.gauges.length:Nat):Int))<|BB q2<|CC<|MM (lown 39 6 q.gaugesV G0_0 k!)<|CC<|VV ix3<|CC<|MM ld6<|EE k7<|CC<|BB f1<|CC<|LL ev_yl9<|CC<|MM (lown 39 6 q.gaugesV (G_h10.a _ _ G0_0) k!)<|CC<|VV ix11<|MM ld14<|EE k15<|CN 2<|VV (ineq 29 false true .i64 (r_checkGauge (q.gauges.g i0)) 0)<|BB f3<|CC<|VV u17<|CC<|ZZ) k!
         exact OptLoop.round (by simp only[r_CheckQuantity_l0,f1,hl_yl9,f3,cond_true,cond_false]) ev (⟨y_h10,a_h10,by omega⟩) (fun x=>((x 0)::(AV.ptr b0_0 0)::(x 2)::(AV.int .i64 (((i0+1):Nat):Int))::rx x 4 107 [])) k! (fun x=>r_CheckQuantity_l0_t q b0_0 H0_0 H0_1 O0_0 kq0 (i0+1) o! x h10 y_h10 (a_hh.trans a_h10) (G_h10.a _ _ G0_0))
     | some rr9=>
       have ln1:lenK (some (.slice 61)) (some q.gaugesV)=some (AV.int .i64 ((q.gauges.length:Nat):Int)):=(H0_1.has a_hh).len
       have q2:(decide (((i0:Nat):Int)<((q.gauges.length:Nat):Int)))=true:=d!
       obtain ⟨p4,q5,ix3_⟩:=(H0_1.has a_hh).elem (i:=i0) o!
       have ix3:idxK env (some (.slice 61)) (some q.gaugesV) (some (AV.int .i64 ((i0:Nat):Int)))=some (AV.ptr p4 q5):=ix3_
       have ld6:loadA env hh 9 (AV.ptr p4 (q5+0))=some (AV.str ((q.gauges.g i0).name)):=(H0_1.has a_hh).part (t:=9) (j:=0) o! ix3_ k! rfl
       have k7:=r_Name_c (d:=d+1) ((q.gauges.g i0).name) ((H0_1.has a_hh).ok (i:=i0) o!) y_hh
       obtain ⟨yl9,h10,ev_yl9,G_h10⟩:=OptLoop.r hl_yl9 (r_CheckQuantity_l1_t (d:=d) (h:=hh) i0 q b0_0 H0_0 (H0_1.has a_hh) (RowT.mono a_hh O0_0) o! i0 0 o! (fun k_=>(((x 0)::(AV.ptr b0_0 0)::(x 2)::(AV.int .i64 ((i0:Nat):Int))::(AV.int .i64 0)::rx x 5 64 ((AV.int .i64 ((i0:Nat):Int))::(AV.ptr b0_0 6)::q.gaugesV::(AV.int .i64 ((q.gauges.length:Nat):Int))::(AV.bool (decide (((i0:Nat):Int)<((q.gauges.length:Nat):Int))))::(x 74)::(x 75)::(AV.ptr b0_0 6)::q.gaugesV::(AV.int .i64 ((i0:Nat):Int))::(AV.ptr p4 q5)::(AV.ptr p4 (q5+0))::(AV.str ((q.gauges.g i0).name))::(AV.bool (r_Name ((q.gauges.g i0).name)))::(AV.bool (!(r_Name ((q.gauges.g i0).name))))::rx x 84 27 [])):List AV).getD k_ AV.undef) hh y_hh (Has.refl _) G0_0)
       have y_h10:=G_h10.y
       have m_h10:hh.nx≤h10.nx:=G_h10.n
       have a_h10:Has hh h10:=G_h10.a
       have ev:=pk (d+2) r_CheckQuantity_lp0 ((x 0)::(AV.ptr b0_0 0)::(x 2)::(AV.int .i64 ((i0:Nat):Int))::rx x 4 107 []) hh .ret h10 (CN 2<|MM (lown 39 6 q.gaugesV G0_0 k!)<|VV ln1<|VV (ilss 3 false false .i64 ((i0:Nat):Int) ((q.gauges.length:Nat):Int))<|BB q2<|CC<|MM (lown 39 6 q.gaugesV G0_0 k!)<|CC<|VV ix3<|CC<|MM ld6<|EE k7<|CC<|BB f1<|CC<|LL ev_yl9<|ZZ) k!
       exact OptLoop.ret rr9 (by simp only[r_CheckQuantity_l0,f1,hl_yl9,cond_true,cond_false]) ev (⟨y_h10,a_h10,by omega⟩) k!
def r_CheckQuantity (q:Quantity):Int:=(bif (!(r_Name q.name)) then 5 else (bif (!(r_value q.low)) then 1 else (bif (!(r_value q.high)) then 1 else (bif (decide (q.high<q.low)) then 1 else (bif (decide (q.rise<0)) then 1 else (bif (decide (10000<q.rise)) then 1 else (bif (decide (q.fall<0)) then 1 else (bif (decide (10000<q.fall)) then 1 else (bif (decide (8<((q.gauges.length:Nat):Int))) then 3 else (bif (decide (q.bad<0)) then 1 else (bif (decide (((q.gauges.length:Nat):Int)<q.bad)) then 1 else (match (r_CheckQuantity_l0 q q.gauges.length 0) with | none=>0 | some rr18=>rr18))))))))))))
theorem r_CheckQuantity_c {d:Nat} {h:Heap} (q:Quantity) (h_q:RowT.ok h q) (y_h:Tidy h):cal (d+3) (.fn 36) [(AV.agg [(AV.str q.name),(AV.int .i64 q.low),(AV.int .i64 q.high),(AV.int .i64 q.rise),(AV.int .i64 q.fall),(AV.int .i64 q.bad),q.gaugesV])] h= .ret (AV.int .i64 (r_CheckQuantity q)) h:=by
 have s_h_q_2:=h_q.2.small
 rcases Bool.eq_false_or_eq_true (!(r_Name q.name)) with f0 | f0
 · obtain ⟨h1,n_h1,y_h1,z_h1,g_h1,b_h1⟩:=nwB y_h (AObj.cells [(AV.str q.name),(AV.int .i64 q.low),(AV.int .i64 q.high),(AV.int .i64 q.rise),(AV.int .i64 q.fall),(AV.int .i64 q.bad),q.gaugesV] 41 false)
   have a_h1:Has h h1:=b_h1
   have k2:=r_Name_c (d:=d+1) q.name h_q.1 y_h1
   have ev:=pk (d+2) r_CheckQuantity_body ((AV.agg [(AV.str q.name),(AV.int .i64 q.low),(AV.int .i64 q.high),(AV.int .i64 q.rise),(AV.int .i64 q.fall),(AV.int .i64 q.bad),q.gaugesV])::und 110) h .ret h1 (NN n_h1 (fun i=>(AV.ptr i 0))<|CN 2<|MM (lown 9 0 (AV.str q.name) g_h1 k!)<|EE k2<|CN 2<|BB f0<|CC<|ZZ) k!
   have e:r_CheckQuantity q=5:=by simp only[r_CheckQuantity,f0,cond_true,cond_false]
   rw[e]
   exact callP_pure rfl (fn_of Tryz.func36 r_CheckQuantity_B k! (.inr rfl) ev k!) a_h1 rfl
 · rcases Bool.eq_false_or_eq_true (!(r_value q.low)) with f1 | f1
   · obtain ⟨h1,n_h1,y_h1,z_h1,g_h1,b_h1⟩:=nwB y_h (AObj.cells [(AV.str q.name),(AV.int .i64 q.low),(AV.int .i64 q.high),(AV.int .i64 q.rise),(AV.int .i64 q.fall),(AV.int .i64 q.bad),q.gaugesV] 41 false)
     have a_h1:Has h h1:=b_h1
     have k2:=r_Name_c (d:=d+1) q.name h_q.1 y_h1
     have k4:=r_value_c (d:=d+1) q.low y_h1
     have ev:=pk (d+2) r_CheckQuantity_body ((AV.agg [(AV.str q.name),(AV.int .i64 q.low),(AV.int .i64 q.high),(AV.int .i64 q.rise),(AV.int .i64 q.fall),(AV.int .i64 q.bad),q.gaugesV])::und 110) h .ret h1 (NN n_h1 (fun i=>(AV.ptr i 0))<|CN 2<|MM (lown 9 0 (AV.str q.name) g_h1 k!)<|EE k2<|CN 2<|BB f0<|CN 2<|MM (lown 3 1 (AV.int .i64 q.low) g_h1 k!)<|EE k4<|CN 2<|BB f1<|BB f1<|BB f1<|BB f1<|BB f1<|VV (pick_t (a:=some (AV.bool true)) (b:=some AV.undef) f1)<|CC<|TT<|TT<|TT<|TT<|TT<|TT<|TT<|CN 2<|TT<|CC<|ZZ) k!
     have e:r_CheckQuantity q=1:=by simp only[r_CheckQuantity,f0,f1,cond_true,cond_false]
     rw[e]
     exact callP_pure rfl (fn_of Tryz.func36 r_CheckQuantity_B k! (.inr rfl) ev k!) a_h1 rfl
   · rcases Bool.eq_false_or_eq_true (!(r_value q.high)) with f2 | f2
     · obtain ⟨h1,n_h1,y_h1,z_h1,g_h1,b_h1⟩:=nwB y_h (AObj.cells [(AV.str q.name),(AV.int .i64 q.low),(AV.int .i64 q.high),(AV.int .i64 q.rise),(AV.int .i64 q.fall),(AV.int .i64 q.bad),q.gaugesV] 41 false)
       have a_h1:Has h h1:=b_h1
       have k2:=r_Name_c (d:=d+1) q.name h_q.1 y_h1
       have k4:=r_value_c (d:=d+1) q.low y_h1
       have k6:=r_value_c (d:=d+1) q.high y_h1
       have ev:=pk (d+2) r_CheckQuantity_body ((AV.agg [(AV.str q.name),(AV.int .i64 q.low),(AV.int .i64 q.high),(AV.int .i64 q.rise),(AV.int .i64 q.fall),(AV.int .i64 q.bad),q.gaugesV])::und 110) h .ret h1 (NN n_h1 (fun i=>(AV.ptr i 0))<|CN 2<|MM (lown 9 0 (AV.str q.name) g_h1 k!)<|EE k2<|CN 2<|BB f0<|CN 2<|MM (lown 3 1 (AV.int .i64 q.low) g_h1 k!)<|EE k4<|CN 2<|BB f1<|CC<|BB f1<|CC<|BB f1<|MM (lown 3 2 (AV.int .i64 q.high) g_h1 k!)<|BB f1<|EE k6<|BB f1<|CC<|VV (pick_f (a:=some (AV.bool true)) (b:=some (AV.bool (!(r_value q.high)))) f1)<|CC<|BB f2<|BB f2<|BB f2<|BB f2<|BB f2<|BB f2<|BB f2<|VV (pick_t (a:=some (AV.bool true)) (b:=some AV.undef) f2)<|CC<|TT<|CC<|ZZ) k!
       have e:r_CheckQuantity q=1:=by simp only[r_CheckQuantity,f0,f1,f2,cond_true,cond_false]
       rw[e]
       exact callP_pure rfl (fn_of Tryz.func36 r_CheckQuantity_B k! (.inr rfl) ev k!) a_h1 rfl
     · rcases Bool.eq_false_or_eq_true (decide (q.high<q.low)) with f3 | f3
       · have n_f3:=of_decide_eq_true f3
         obtain ⟨h1,n_h1,y_h1,z_h1,g_h1,b_h1⟩:=nwB y_h (AObj.cells [(AV.str q.name),(AV.int .i64 q.low),(AV.int .i64 q.high),(AV.int .i64 q.rise),(AV.int .i64 q.fall),(AV.int .i64 q.bad),q.gaugesV] 41 false)
         have a_h1:Has h h1:=b_h1
         have k2:=r_Name_c (d:=d+1) q.name h_q.1 y_h1
         have k4:=r_value_c (d:=d+1) q.low y_h1
         have k6:=r_value_c (d:=d+1) q.high y_h1
         have ev:=pk (d+2) r_CheckQuantity_body ((AV.agg [(AV.str q.name),(AV.int .i64 q.low),(AV.int .i64 q.high),(AV.int .i64 q.rise),(AV.int .i64 q.fall),(AV.int .i64 q.bad),q.gaugesV])::und 110) h .ret h1 (NN n_h1 (fun i=>(AV.ptr i 0))<|CN 2<|MM (lown 9 0 (AV.str q.name) g_h1 k!)<|EE k2<|CN 2<|BB f0<|CN 2<|MM (lown 3 1 (AV.int .i64 q.low) g_h1 k!)<|EE k4<|CN 2<|BB f1<|CC<|BB f1<|CC<|BB f1<|MM (lown 3 2 (AV.int .i64 q.high) g_h1 k!)<|BB f1<|EE k6<|BB f1<|CC<|VV (pick_f (a:=some (AV.bool true)) (b:=some (AV.bool (!(r_value q.high)))) f1)<|CC<|BB f2<|CC<|BB f2<|CC<|BB f2<|MM (lown 3 1 (AV.int .i64 q.low) g_h1 k!)<|BB f2<|CC<|BB f2<|CC<|BB f2<|MM (lown 3 2 (AV.int .i64 q.high) g_h1 k!)<|BB f2<|VV (igtr 3 false false .i64 q.low q.high)<|VV (pick_f (a:=some (AV.bool true)) (b:=some (AV.bool (decide (q.high<q.low)))) f2)<|CC<|BB f3<|CC<|ZZ) k!
         have e:r_CheckQuantity q=1:=by simp only[r_CheckQuantity,f0,f1,f2,f3,cond_true,cond_false]
         rw[e]
         exact callP_pure rfl (fn_of Tryz.func36 r_CheckQuantity_B k! (.inr rfl) ev k!) a_h1 rfl
       · have n_f3:=of_decide_eq_false f3
         rcases Bool.eq_false_or_eq_true (decide (q.rise<0)) with f4 | f4
         · have n_f4:=of_decide_eq_true f4
           obtain ⟨h1,n_h1,y_h1,z_h1,g_h1,b_h1⟩:=nwB y_h (AObj.cells [(AV.str q.name),(AV.int .i64 q.low),(AV.int .i64 q.high),(AV.int .i64 q.rise),(AV.int .i64 q.fall),(AV.int .i64 q.bad),q.gaugesV] 41 false)
           have a_h1:Has h h1:=b_h1
           have k2:=r_Name_c (d:=d+1) q.name h_q.1 y_h1
           have k4:=r_value_c (d:=d+1) q.low y_h1
           have k6:=r_value_c (d:=d+1) q.high y_h1
           have ev:=pk (d+2) r_CheckQuantity_body ((AV.agg [(AV.str q.name),(AV.int .i64 q.low),(AV.int .i64 q.high),(AV.int .i64 q.rise),(AV.int .i64 q.fall),(AV.int .i64 q.bad),q.gaugesV])::und 110) h .ret h1 (NN n_h1 (fun i=>(AV.ptr i 0))<|CN 2<|MM (lown 9 0 (AV.str q.name) g_h1 k!)<|EE k2<|CN 2<|BB f0<|CN 2<|MM (lown 3 1 (AV.int .i64 q.low) g_h1 k!)<|EE k4<|CN 2<|BB f1<|CC<|BB f1<|CC<|BB f1<|MM (lown 3 2 (AV.int .i64 q.high) g_h1 k!)<|BB f1<|EE k6<|BB f1<|CC<|VV (pick_f (a:=some (AV.bool true)) (b:=some (AV.bool (!(r_value q.high)))) f1)<|CC<|BB f2<|CC<|BB f2<|CC<|BB f2<|MM (lown 3 1 (AV.int .i64 q.low) g_h1 k!)<|BB f2<|CC<|BB f2<|CC<|BB f2<|MM (lown 3 2 (AV.int .i64 q.high) g_h1 k!)<|BB f2<|VV (igtr 3 false false .i64 q.low q.high)<|VV (pick_f (a:=some (AV.bool true)) (b:=some (AV.bool (decide (q.high<q.low)))) f2)<|CC<|BB f3<|CC<|MM (lown 3 3 (AV.int .i64 q.rise) g_h1 k!)<|VV (ilss 3 false true .i64 q.rise 0)<|CC<|BB f4<|BB f4<|BB f4<|VV (pick_t (a:=some (AV.bool true)) (b:=some AV.undef) f4)<|CC<|TT<|TT<|TT<|CN 2<|TT<|TT<|TT<|CN 2<|TT<|CC<|ZZ) k!
           have e:r_CheckQuantity q=1:=by simp only[r_CheckQuantity,f0,f1,f2,f3,f4,cond_true,cond_false]
           rw[e]
           exact callP_pure rfl (fn_of Tryz.func36 r_CheckQuantity_B k! (.inr rfl) ev k!) a_h1 rfl
         · have n_f4:=of_decide_eq_false f4
           rcases Bool.eq_false_or_eq_true (decide (10000<q.rise)) with f5 | f5
           · have n_f5:=of_decide_eq_true f5
             obtain ⟨h1,n_h1,y_h1,z_h1,g_h1,b_h1⟩:=nwB y_h (AObj.cells [(AV.str q.name),(AV.int .i64 q.low),(AV.int .i64 q.high),(AV.int .i64 q.rise),(AV.int .i64 q.fall),(AV.int .i64 q.bad),q.gaugesV] 41 false)
             have a_h1:Has h h1:=b_h1
             have k2:=r_Name_c (d:=d+1) q.name h_q.1 y_h1
             have k4:=r_value_c (d:=d+1) q.low y_h1
             have k6:=r_value_c (d:=d+1) q.high y_h1
             have ev:=pk (d+2) r_CheckQuantity_body ((AV.agg [(AV.str q.name),(AV.int .i64 q.low),(AV.int .i64 q.high),(AV.int .i64 q.rise),(AV.int .i64 q.fall),(AV.int .i64 q.bad),q.gaugesV])::und 110) h .ret h1 (NN n_h1 (fun i=>(AV.ptr i 0))<|CN 2<|MM (lown 9 0 (AV.str q.name) g_h1 k!)<|EE k2<|CN 2<|BB f0<|CN 2<|MM (lown 3 1 (AV.int .i64 q.low) g_h1 k!)<|EE k4<|CN 2<|BB f1<|CC<|BB f1<|CC<|BB f1<|MM (lown 3 2 (AV.int .i64 q.high) g_h1 k!)<|BB f1<|EE k6<|BB f1<|CC<|VV (pick_f (a:=some (AV.bool true)) (b:=some (AV.bool (!(r_value q.high)))) f1)<|CC<|BB f2<|CC<|BB f2<|CC<|BB f2<|MM (lown 3 1 (AV.int .i64 q.low) g_h1 k!)<|BB f2<|CC<|BB f2<|CC<|BB f2<|MM (lown 3 2 (AV.int .i64 q.high) g_h1 k!)<|BB f2<|VV (igtr 3 false false .i64 q.low q.high)<|VV (pick_f (a:=some (AV.bool true)) (b:=some (AV.bool (decide (q.high<q.low)))) f2)<|CC<|BB f3<|CC<|MM (lown 3 3 (AV.int .i64 q.rise) g_h1 k!)<|VV (ilss 3 false true .i64 q.rise 0)<|CC<|BB f4<|CC<|BB f4<|MM (lown 3 3 (AV.int .i64 q.rise) g_h1 k!)<|BB f4<|VV (igtr 3 false true .i64 q.rise 10000)<|VV (pick_f (a:=some (AV.bool true)) (b:=some (AV.bool (decide (10000<q.rise)))) f4)<|CC<|BB f5<|BB f5<|BB f5<|VV (pick_t (a:=some (AV.bool true)) (b:=some AV.undef) f5)<|CC<|TT<|TT<|TT<|CN 2<|TT<|CC<|ZZ) k!
             have e:r_CheckQuantity q=1:=by simp only[r_CheckQuantity,f0,f1,f2,f3,f4,f5,cond_true,cond_false]
             rw[e]
             exact callP_pure rfl (fn_of Tryz.func36 r_CheckQuantity_B k! (.inr rfl) ev k!) a_h1 rfl
           · have n_f5:=of_decide_eq_false f5
             rcases Bool.eq_false_or_eq_true (decide (q.fall<0)) with f6 | f6
             · have n_f6:=of_decide_eq_true f6
               obtain ⟨h1,n_h1,y_h1,z_h1,g_h1,b_h1⟩:=nwB y_h (AObj.cells [(AV.str q.name),(AV.int .i64 q.low),(AV.int .i64 q.high),(AV.int .i64 q.rise),(AV.int .i64 q.fall),(AV.int .i64 q.bad),q.gaugesV] 41 false)
               have a_h1:Has h h1:=b_h1
               have k2:=r_Name_c (d:=d+1) q.name h_q.1 y_h1
               have k4:=r_value_c (d:=d+1) q.low y_h1
               have k6:=r_value_c (d:=d+1) q.high y_h1
               have ev:=pk (d+2) r_CheckQuantity_body ((AV.agg [(AV.str q.name),(AV.int .i64 q.low),(AV.int .i64 q.high),(AV.int .i64 q.rise),(AV.int .i64 q.fall),(AV.int .i64 q.bad),q.gaugesV])::und 110) h .ret h1 (NN n_h1 (fun i=>(AV.ptr i 0))<|CN 2<|MM (lown 9 0 (AV.str q.name) g_h1 k!)<|EE k2<|CN 2<|BB f0<|CN 2<|MM (lown 3 1 (AV.int .i64 q.low) g_h1 k!)<|EE k4<|CN 2<|BB f1<|CC<|BB f1<|CC<|BB f1<|MM (lown 3 2 (AV.int .i64 q.high) g_h1 k!)<|BB f1<|EE k6<|BB f1<|CC<|VV (pick_f (a:=some (AV.bool true)) (b:=some (AV.bool (!(r_value q.high)))) f1)<|CC<|BB f2<|CC<|BB f2<|CC<|BB f2<|MM (lown 3 1 (AV.int .i64 q.low) g_h1 k!)<|BB f2<|CC<|BB f2<|CC<|BB f2<|MM (lown 3 2 (AV.int .i64 q.high) g_h1 k!)<|BB f2<|VV (igtr 3 false false .i64 q.low q.high)<|VV (pick_f (a:=some (AV.bool true)) (b:=some (AV.bool (decide (q.high<q.low)))) f2)<|CC<|BB f3<|CC<|MM (lown 3 3 (AV.int .i64 q.rise) g_h1 k!)<|VV (ilss 3 false true .i64 q.rise 0)<|CC<|BB f4<|CC<|BB f4<|MM (lown 3 3 (AV.int .i64 q.rise) g_h1 k!)<|BB f4<|VV (igtr 3 false true .i64 q.rise 10000)<|VV (pick_f (a:=some (AV.bool true)) (b:=some (AV.bool (decide (10000<q.rise)))) f4)<|CC<|BB f5<|CC<|BB f5<|MM (lown 3 4 (AV.int .i64 q.fall) g_h1 k!)<|BB f5<|VV (ilss 3 false true .i64 q.fall 0)<|VV (pick_f (a:=some (AV.bool true)) (b:=some (AV.bool (decide (q.fall<0)))) f5)<|CC<|BB f6<|BB f6<|BB f6<|VV (pick_t (a:=some (AV.bool true)) (b:=some AV.undef) f6)<|CC<|TT<|CC<|ZZ) k!
               have e:r_CheckQuantity q=1:=by simp only[r_CheckQuantity,f0,f1,f2,f3,f4,f5,f6,cond_true,cond_false]
               rw[e]
               exact callP_pure rfl (fn_of Tryz.func36 r_CheckQuantity_B k! (.inr rfl) ev k!) a_h1 rfl
             · have n_f6:=of_decide_eq_false f6
               rcases Bool.eq_false_or_eq_true (decide (10000<q.fall)) with f7 | f7
               · have n_f7:=of_decide_eq_true f7
                 obtain ⟨h1,n_h1,y_h1,z_h1,g_h1,b_h1⟩:=nwB y_h (AObj.cells [(AV.str q.name),(AV.int .i64 q.low),(AV.int .i64 q.high),(AV.int .i64 q.rise),(AV.int .i64 q.fall),(AV.int .i64 q.bad),q.gaugesV] 41 false)
                 have a_h1:Has h h1:=b_h1
                 have k2:=r_Name_c (d:=d+1) q.name h_q.1 y_h1
                 have k4:=r_value_c (d:=d+1) q.low y_h1
                 have k6:=r_value_c (d:=d+1) q.high y_h1
                 have ev:=pk (d+2) r_CheckQuantity_body ((AV.agg [(AV.str q.name),(AV.int .i64 q.low),(AV.int .i64 q.high),(AV.int .i64 q.rise),(AV.int .i64 q.fall),(AV.int .i64 q.bad),q.gaugesV])::und 110) h .ret h1 (NN n_h1 (fun i=>(AV.ptr i 0))<|CN 2<|MM (lown 9 0 (AV.str q.name) g_h1 k!)<|EE k2<|CN 2<|BB f0<|CN 2<|MM (lown 3 1 (AV.int .i64 q.low) g_h1 k!)<|EE k4<|CN 2<|BB f1<|CC<|BB f1<|CC<|BB f1<|MM (lown 3 2 (AV.int .i64 q.high) g_h1 k!)<|BB f1<|EE k6<|BB f1<|CC<|VV (pick_f (a:=some (AV.bool true)) (b:=some (AV.bool (!(r_value q.high)))) f1)<|CC<|BB f2<|CC<|BB f2<|CC<|BB f2<|MM (lown 3 1 (AV.int .i64 q.low) g_h1 k!)<|BB f2<|CC<|BB f2<|CC<|BB f2<|MM (lown 3 2 (AV.int .i64 q.high) g_h1 k!)<|BB f2<|VV (igtr 3 false false .i64 q.low q.high)<|VV (pick_f (a:=some (AV.bool true)) (b:=some (AV.bool (decide (q.high<q.low)))) f2)<|CC<|BB f3<|CC<|MM (lown 3 3 (AV.int .i64 q.rise) g_h1 k!)<|VV (ilss 3 false true .i64 q.rise 0)<|CC<|BB f4<|CC<|BB f4<|MM (lown 3 3 (AV.int .i64 q.rise) g_h1 k!)<|BB f4<|VV (igtr 3 false true .i64 q.rise 10000)<|VV (pick_f (a:=some (AV.bool true)) (b:=some (AV.bool (decide (10000<q.rise)))) f4)<|CC<|BB f5<|CC<|BB f5<|MM (lown 3 4 (AV.int .i64 q.fall) g_h1 k!)<|BB f5<|VV (ilss 3 false true .i64 q.fall 0)<|VV (pick_f (a:=some (AV.bool true)) (b:=some (AV.bool (decide (q.fall<0)))) f5)<|CC<|BB f6<|CC<|BB f6<|MM (lown 3 4 (AV.int .i64 q.fall) g_h1 k!)<|BB f6<|VV (igtr 3 false true .i64 q.fall 10000)<|VV (pick_f (a:=some (AV.bool true)) (b:=some (AV.bool (decide (10000<q.fall)))) f6)<|CC<|BB f7<|CC<|ZZ) k!
                 have e:r_CheckQuantity q=1:=by simp only[r_CheckQuantity,f0,f1,f2,f3,f4,f5,f6,f7,cond_true,cond_false]
                 rw[e]
                 exact callP_pure rfl (fn_of Tryz.func36 r_CheckQuantity_B k! (.inr rfl) ev k!) a_h1 rfl
               · have n_f7:=of_decide_eq_false f7
                 rcases Bool.eq_false_or_eq_true (decide (8<((q.gauges.length:Nat):Int))) with f8 | f8
                 · have n_f8:=of_decide_eq_true f8
                   obtain ⟨h1,n_h1,y_h1,z_h1,g_h1,b_h1⟩:=nwB y_h (AObj.cells [(AV.str q.name),(AV.int .i64 q.low),(AV.int .i64 q.high),(AV.int .i64 q.rise),(AV.int .i64 q.fall),(AV.int .i64 q.bad),q.gaugesV] 41 false)
                   have a_h1:Has h h1:=b_h1
                   have k2:=r_Name_c (d:=d+1) q.name h_q.1 y_h1
                   have k4:=r_value_c (d:=d+1) q.low y_h1
                   have k6:=r_value_c (d:=d+1) q.high y_h1
                   have ln13:lenK (some (.slice 61)) (some q.gaugesV)=some (AV.int .i64 ((q.gauges.length:Nat):Int)):=h_q.2.len
                   have ev:=pk (d+2) r_CheckQuantity_body ((AV.agg [(AV.str q.name),(AV.int .i64 q.low),(AV.int .i64 q.high),(AV.int .i64 q.rise),(AV.int .i64 q.fall),(AV.int .i64 q.bad),q.gaugesV])::und 110) h .ret h1 (NN n_h1 (fun i=>(AV.ptr i 0))<|CN 2<|MM (lown 9 0 (AV.str q.name) g_h1 k!)<|EE k2<|CN 2<|BB f0<|CN 2<|MM (lown 3 1 (AV.int .i64 q.low) g_h1 k!)<|EE k4<|CN 2<|BB f1<|CC<|BB f1<|CC<|BB f1<|MM (lown 3 2 (AV.int .i64 q.high) g_h1 k!)<|BB f1<|EE k6<|BB f1<|CC<|VV (pick_f (a:=some (AV.bool true)) (b:=some (AV.bool (!(r_value q.high)))) f1)<|CC<|BB f2<|CC<|BB f2<|CC<|BB f2<|MM (lown 3 1 (AV.int .i64 q.low) g_h1 k!)<|BB f2<|CC<|BB f2<|CC<|BB f2<|MM (lown 3 2 (AV.int .i64 q.high) g_h1 k!)<|BB f2<|VV (igtr 3 false false .i64 q.low q.high)<|VV (pick_f (a:=some (AV.bool true)) (b:=some (AV.bool (decide (q.high<q.low)))) f2)<|CC<|BB f3<|CC<|MM (lown 3 3 (AV.int .i64 q.rise) g_h1 k!)<|VV (ilss 3 false true .i64 q.rise 0)<|CC<|BB f4<|CC<|BB f4<|MM (lown 3 3 (AV.int .i64 q.rise) g_h1 k!)<|BB f4<|VV (igtr 3 false true .i64 q.rise 10000)<|VV (pick_f (a:=some (AV.bool true)) (b:=some (AV.bool (decide (10000<q.rise)))) f4)<|CC<|BB f5<|CC<|BB f5<|MM (lown 3 4 (AV.int .i64 q.fall) g_h1 k!)<|BB f5<|VV (ilss 3 false true .i64 q.fall 0)<|VV (pick_f (a:=some (AV.bool true)) (b:=some (AV.bool (decide (q.fall<0)))) f5)<|CC<|BB f6<|CC<|BB f6<|MM (lown 3 4 (AV.int .i64 q.fall) g_h1 k!)<|BB f6<|VV (igtr 3 false true .i64 q.fall 10000)<|VV (pick_f (a:=some (AV.bool true)) (b:=some (AV.bool (decide (10000<q.fall)))) f6)<|CC<|BB f7<|CC<|MM (lown 39 6 q.gaugesV g_h1 k!)<|VV ln13<|VV (igtr 3 false true .i64 ((q.gauges.length:Nat):Int) 8)<|CC<|BB f8<|CC<|ZZ) k!
                   have e:r_CheckQuantity q=3:=by simp only[r_CheckQuantity,f0,f1,f2,f3,f4,f5,f6,f7,f8,cond_true,cond_false]
                   rw[e]
                   exact callP_pure rfl (fn_of Tryz.func36 r_CheckQuantity_B k! (.inr rfl) ev k!) a_h1 rfl
                 · have n_f8:=of_decide_eq_false f8
                   rcases Bool.eq_false_or_eq_true (decide (q.bad<0)) with f9 | f9
                   · have n_f9:=of_decide_eq_true f9
                     obtain ⟨h1,n_h1,y_h1,z_h1,g_h1,b_h1⟩:=nwB y_h (AObj.cells [(AV.str q.name),(AV.int .i64 q.low),(AV.int .i64 q.high),(AV.int .i64 q.rise),(AV.int .i64 q.fall),(AV.int .i64 q.bad),q.gaugesV] 41 false)
                     have a_h1:Has h h1:=b_h1
                     have k2:=r_Name_c (d:=d+1) q.name h_q.1 y_h1
                     have k4:=r_value_c (d:=d+1) q.low y_h1
                     have k6:=r_value_c (d:=d+1) q.high y_h1
                     have ln13:lenK (some (.slice 61)) (some q.gaugesV)=some (AV.int .i64 ((q.gauges.length:Nat):Int)):=h_q.2.len
                     have ev:=pk (d+2) r_CheckQuantity_body ((AV.agg [(AV.str q.name),(AV.int .i64 q.low),(AV.int .i64 q.high),(AV.int .i64 q.rise),(AV.int .i64 q.fall),(AV.int .i64 q.bad),q.gaugesV])::und 110) h .ret h1 (NN n_h1 (fun i=>(AV.ptr i 0))<|CN 2<|MM (lown 9 0 (AV.str q.name) g_h1 k!)<|EE k2<|CN 2<|BB f0<|CN 2<|MM (lown 3 1 (AV.int .i64 q.low) g_h1 k!)<|EE k4<|CN 2<|BB f1<|CC<|BB f1<|CC<|BB f1<|MM (lown 3 2 (AV.int .i64 q.high) g_h1 k!)<|BB f1<|EE k6<|BB f1<|CC<|VV (pick_f (a:=some (AV.bool true)) (b:=some (AV.bool (!(r_value q.high)))) f1)<|CC<|BB f2<|CC<|BB f2<|CC<|BB f2<|MM (lown 3 1 (AV.int .i64 q.low) g_h1 k!)<|BB f2<|CC<|BB f2<|CC<|BB f2<|MM (lown 3 2 (AV.int .i64 q.high) g_h1 k!)<|BB f2<|VV (igtr 3 false false .i64 q.low q.high)<|VV (pick_f (a:=some (AV.bool true)) (b:=some (AV.bool (decide (q.high<q.low)))) f2)<|CC<|BB f3<|CC<|MM (lown 3 3 (AV.int .i64 q.rise) g_h1 k!)<|VV (ilss 3 false true .i64 q.rise 0)<|CC<|BB f4<|CC<|BB f4<|MM (lown 3 3 (AV.int .i64 q.rise) g_h1 k!)<|BB f4<|VV (igtr 3 false true .i64 q.rise 10000)<|VV (pick_f (a:=some (AV.bool true)) (b:=some (AV.bool (decide (10000<q.rise)))) f4)<|CC<|BB f5<|CC<|BB f5<|MM (lown 3 4 (AV.int .i64 q.fall) g_h1 k!)<|BB f5<|VV (ilss 3 false true .i64 q.fall 0)<|VV (pick_f (a:=some (AV.bool true)) (b:=some (AV.bool (decide (q.fall<0)))) f5)<|CC<|BB f6<|CC<|BB f6<|MM (lown 3 4 (AV.int .i64 q.fall) g_h1 k!)<|BB f6<|VV (igtr 3 false true .i64 q.fall 10000)<|VV (pick_f (a:=some (AV.bool true)) (b:=some (AV.bool (decide (10000<q.fall)))) f6)<|CC<|BB f7<|CC<|MM (lown 39 6 q.gaugesV g_h1 k!)<|VV ln13<|VV (igtr 3 false true .i64 ((q.gauges.length:Nat):Int) 8)<|CC<|BB f8<|CC<|MM (lown 3 5 (AV.int .i64 q.bad) g_h1 k!)<|VV (ilss 3 false true .i64 q.bad 0)<|CC<|BB f9<|BB f9<|BB f9<|BB f9<|BB f9<|BB f9<|VV (pick_t (a:=some (AV.bool true)) (b:=some AV.undef) f9)<|CC<|TT<|CC<|ZZ) k!
                     have e:r_CheckQuantity q=1:=by simp only[r_CheckQuantity,f0,f1,f2,f3,f4,f5,f6,f7,f8,f9,cond_true,cond_false]
                     rw[e]
                     exact callP_pure rfl (fn_of Tryz.func36 r_CheckQuantity_B k! (.inr rfl) ev k!) a_h1 rfl
                   · have n_f9:=of_decide_eq_false f9
                     rcases Bool.eq_false_or_eq_true (decide (((q.gauges.length:Nat):Int)<q.bad)) with f10 | f10
                     · have n_f10:=of_decide_eq_true f10
                       obtain ⟨h1,n_h1,y_h1,z_h1,g_h1,b_h1⟩:=nwB y_h (AObj.cells [(AV.str q.name),(AV.int .i64 q.low),(AV.int .i64 q.high),(AV.int .i64 q.rise),(AV.int .i64 q.fall),(AV.int .i64 q.bad),q.gaugesV] 41 false)
                       have a_h1:Has h h1:=b_h1
                       have k2:=r_Name_c (d:=d+1) q.name h_q.1 y_h1
                       have k4:=r_value_c (d:=d+1) q.low y_h1
                       have k6:=r_value_c (d:=d+1) q.high y_h1
                       have ln13:lenK (some (.slice 61)) (some q.gaugesV)=some (AV.int .i64 ((q.gauges.length:Nat):Int)):=h_q.2.len
                       have ln16:lenK (some (.slice 61)) (some q.gaugesV)=some (AV.int .i64 ((q.gauges.length:Nat):Int)):=h_q.2.len
                       have ev:=pk (d+2) r_CheckQuantity_body ((AV.agg [(AV.str q.name),(AV.int .i64 q.low),(AV.int .i64 q.high),(AV.int .i64 q.rise),(AV.int .i64 q.fall),(AV.int .i64 q.bad),q.gaugesV])::und 110) h .ret h1 (NN n_h1 (fun i=>(AV.ptr i 0))<|CN 2<|MM (lown 9 0 (AV.str q.name) g_h1 k!)<|EE k2<|CN 2<|BB f0<|CN 2<|MM (lown 3 1 (AV.int .i64 q.low) g_h1 k!)<|EE k4<|CN 2<|BB f1<|CC<|BB f1<|CC<|BB f1<|MM (lown 3 2 (AV.int .i64 q.high) g_h1 k!)<|BB f1<|EE k6<|BB f1<|CC<|VV (pick_f (a:=some (AV.bool true)) (b:=some (AV.bool (!(r_value q.high)))) f1)<|CC<|BB f2<|CC<|BB f2<|CC<|BB f2<|MM (lown 3 1 (AV.int .i64 q.low) g_h1 k!)<|BB f2<|CC<|BB f2<|CC<|BB f2<|MM (lown 3 2 (AV.int .i64 q.high) g_h1 k!)<|BB f2<|VV (igtr 3 false false .i64 q.low q.high)<|VV (pick_f (a:=some (AV.bool true)) (b:=some (AV.bool (decide (q.high<q.low)))) f2)<|CC<|BB f3<|CC<|MM (lown 3 3 (AV.int .i64 q.rise) g_h1 k!)<|VV (ilss 3 false true .i64 q.rise 0)<|CC<|BB f4<|CC<|BB f4<|MM (lown 3 3 (AV.int .i64 q.rise) g_h1 k!)<|BB f4<|VV (igtr 3 false true .i64 q.rise 10000)<|VV (pick_f (a:=some (AV.bool true)) (b:=some (AV.bool (decide (10000<q.rise)))) f4)<|CC<|BB f5<|CC<|BB f5<|MM (lown 3 4 (AV.int .i64 q.fall) g_h1 k!)<|BB f5<|VV (ilss 3 false true .i64 q.fall 0)<|VV (pick_f (a:=some (AV.bool true)) (b:=some (AV.bool (decide (q.fall<0)))) f5)<|CC<|BB f6<|CC<|BB f6<|MM (lown 3 4 (AV.int .i64 q.fall) g_h1 k!)<|BB f6<|VV (igtr 3 false true .i64 q.fall 10000)<|VV (pick_f (a:=some (AV.bool true)) (b:=some (AV.bool (decide (10000<q.fall)))) f6)<|CC<|BB f7<|CC<|MM (lown 39 6 q.gaugesV g_h1 k!)<|VV ln13<|VV (igtr 3 false true .i64 ((q.gauges.length:Nat):Int) 8)<|CC<|BB f8<|CC<|MM (lown 3 5 (AV.int .i64 q.bad) g_h1 k!)<|VV (ilss 3 false true .i64 q.bad 0)<|CC<|BB f9<|CC<|BB f9<|MM (lown 3 5 (AV.int .i64 q.bad) g_h1 k!)<|BB f9<|CC<|BB f9<|MM (lown 39 6 q.gaugesV g_h1 k!)<|BB f9<|VV ln16<|BB f9<|VV (igtr 3 false false .i64 q.bad ((q.gauges.length:Nat):Int))<|VV (pick_f (a:=some (AV.bool true)) (b:=some (AV.bool (decide (((q.gauges.length:Nat):Int)<q.bad)))) f9)<|CC<|BB f10<|CC<|ZZ) k!
                       have e:r_CheckQuantity q=1:=by simp only[r_CheckQuantity,f0,f1,f2,f3,f4,f5,f6,f7,f8,f9,f10,cond_true,cond_false]
                       rw[e]
                       exact callP_pure rfl (fn_of Tryz.func36 r_CheckQuantity_B k! (.inr rfl) ev k!) a_h1 rfl
                     · have n_f10:=of_decide_eq_false f10
                       cases hl_yl18:r_CheckQuantity_l0 q q.gauges.length 0 with
                       | none=>
                         obtain ⟨h1,n_h1,y_h1,z_h1,g_h1,b_h1⟩:=nwB y_h (AObj.cells [(AV.str q.name),(AV.int .i64 q.low),(AV.int .i64 q.high),(AV.int .i64 q.rise),(AV.int .i64 q.fall),(AV.int .i64 q.bad),q.gaugesV] 41 false)
                         have a_h1:Has h h1:=b_h1
                         have k2:=r_Name_c (d:=d+1) q.name h_q.1 y_h1
                         have k4:=r_value_c (d:=d+1) q.low y_h1
                         have k6:=r_value_c (d:=d+1) q.high y_h1
                         have ln13:lenK (some (.slice 61)) (some q.gaugesV)=some (AV.int .i64 ((q.gauges.length:Nat):Int)):=h_q.2.len
                         have ln16:lenK (some (.slice 61)) (some q.gaugesV)=some (AV.int .i64 ((q.gauges.length:Nat):Int)):=h_q.2.len
                         obtain ⟨yl18,h19,ev_yl18,G_h19⟩:=OptLoop.n hl_yl18 (r_CheckQuantity_l0_t (d:=d) (h:=h) q h.nx h_q.1 h_q.2 h_q q.gauges.length 0 o! (fun k_=>(((AV.agg [(AV.str q.name),(AV.int .i64 q.low),(AV.int .i64 q.high),(AV.int .i64 q.rise),(AV.int .i64 q.fall),(AV.int .i64 q.bad),q.gaugesV])::(AV.ptr h.nx 0)::(AV.int .i64 0)::(AV.int .i64 0)::AV.undef::AV.undef::(AV.bool (!(r_Name q.name)))::(AV.ptr h.nx 0)::(AV.str q.name)::(AV.bool (r_Name q.name))::(AV.bool (!(r_Name q.name)))::(AV.bool (decide (q.high<q.low)))::(AV.ptr h.nx 1)::(AV.ptr h.nx 1)::(AV.int .i64 q.low)::(AV.bool (r_value q.low))::(AV.bool (!(r_value q.low)))::(AV.bool (!(r_value q.low)))::(AV.ptr h.nx 1)::(AV.ptr h.nx 2)::(AV.int .i64 q.high)::(AV.bool (r_value q.high))::(AV.bool (!(r_value q.high)))::(AV.bool (!(r_value q.high)))::(AV.bool (!(r_value q.high)))::(AV.ptr h.nx 1)::(AV.ptr h.nx 1)::(AV.int .i64 q.low)::(AV.ptr h.nx 1)::(AV.ptr h.nx 2)::(AV.int .i64 q.high)::(AV.bool (decide (q.high<q.low)))::(AV.bool (decide (q.high<q.low)))::(AV.bool (decide (10000<q.fall)))::(AV.ptr h.nx 3)::(AV.int .i64 q.rise)::(AV.bool (decide (q.rise<0)))::(AV.bool (decide (q.rise<0)))::(AV.ptr h.nx 3)::(AV.int .i64 q.rise)::(AV.bool (decide (10000<q.rise)))::(AV.bool (decide (10000<q.rise)))::(AV.bool (decide (10000<q.rise)))::(AV.ptr h.nx 4)::(AV.int .i64 q.fall)::(AV.bool (decide (q.fall<0)))::(AV.bool (decide (q.fall<0)))::(AV.bool (decide (q.fall<0)))::(AV.ptr h.nx 4)::(AV.int .i64 q.fall)::(AV.bool (decide (10000<q.fall)))::(AV.bool (decide (10000<q.fall)))::(AV.bool (decide (8<((q.gauges.length:Nat):Int))))::(AV.ptr h.nx 6)::q.gaugesV::(AV.int .i64 ((q.gauges.length:Nat):Int))::(AV.bool (decide (8<((q.gauges.length:Nat):Int))))::(AV.bool (decide (((q.gauges.length:Nat):Int)<q.bad)))::(AV.ptr h.nx 5)::(AV.int .i64 q.bad)::(AV.bool (decide (q.bad<0)))::(AV.bool (decide (q.bad<0)))::(AV.ptr h.nx 5)::(AV.int .i64 q.bad)::(AV.ptr h.nx 6)::q.gaugesV::(AV.int .i64 ((q.gauges.length:Nat):Int))::(AV.bool (decide (((q.gauges.length:Nat):Int)<q.bad)))::(AV.bool (decide (((q.gauges.length:Nat):Int)<q.bad)))::und 42):List AV).getD k_ AV.undef) h1 y_h1 a_h1 g_h1)
                         have y_h19:=G_h19.y
                         have m_h19:h1.nx≤h19.nx:=G_h19.n
                         have a_h19:Has h h19:=a_h1.trans G_h19.a
                         have ev:=pk (d+2) r_CheckQuantity_body ((AV.agg [(AV.str q.name),(AV.int .i64 q.low),(AV.int .i64 q.high),(AV.int .i64 q.rise),(AV.int .i64 q.fall),(AV.int .i64 q.bad),q.gaugesV])::und 110) h .ret h19 (NN n_h1 (fun i=>(AV.ptr i 0))<|CN 2<|MM (lown 9 0 (AV.str q.name) g_h1 k!)<|EE k2<|CN 2<|BB f0<|CN 2<|MM (lown 3 1 (AV.int .i64 q.low) g_h1 k!)<|EE k4<|CN 2<|BB f1<|CC<|BB f1<|CC<|BB f1<|MM (lown 3 2 (AV.int .i64 q.high) g_h1 k!)<|BB f1<|EE k6<|BB f1<|CC<|VV (pick_f (a:=some (AV.bool true)) (b:=some (AV.bool (!(r_value q.high)))) f1)<|CC<|BB f2<|CC<|BB f2<|CC<|BB f2<|MM (lown 3 1 (AV.int .i64 q.low) g_h1 k!)<|BB f2<|CC<|BB f2<|CC<|BB f2<|MM (lown 3 2 (AV.int .i64 q.high) g_h1 k!)<|BB f2<|VV (igtr 3 false false .i64 q.low q.high)<|VV (pick_f (a:=some (AV.bool true)) (b:=some (AV.bool (decide (q.high<q.low)))) f2)<|CC<|BB f3<|CC<|MM (lown 3 3 (AV.int .i64 q.rise) g_h1 k!)<|VV (ilss 3 false true .i64 q.rise 0)<|CC<|BB f4<|CC<|BB f4<|MM (lown 3 3 (AV.int .i64 q.rise) g_h1 k!)<|BB f4<|VV (igtr 3 false true .i64 q.rise 10000)<|VV (pick_f (a:=some (AV.bool true)) (b:=some (AV.bool (decide (10000<q.rise)))) f4)<|CC<|BB f5<|CC<|BB f5<|MM (lown 3 4 (AV.int .i64 q.fall) g_h1 k!)<|BB f5<|VV (ilss 3 false true .i64 q.fall 0)<|VV (pick_f (a:=some (AV.bool true)) (b:=some (AV.bool (decide (q.fall<0)))) f5)<|CC<|BB f6<|CC<|BB f6<|MM (lown 3 4 (AV.int .i64 q.fall) g_h1 k!)<|BB f6<|VV (igtr 3 false true .i64 q.fall 10000)<|VV (pick_f (a:=some (AV.bool true)) (b:=some (AV.bool (decide (10000<q.fall)))) f6)<|CC<|BB f7<|CC<|MM (lown 39 6 q.gaugesV g_h1 k!)<|VV ln13<|VV (igtr 3 false true .i64 ((q.gauges.length:Nat):Int) 8)<|CC<|BB f8<|CC<|MM (lown 3 5 (AV.int .i64 q.bad) g_h1 k!)<|VV (ilss 3 false true .i64 q.bad 0)<|CC<|BB f9<|CC<|BB f9<|MM (lown 3 5 (AV.int .i64 q.bad) g_h1 k!)<|BB f9<|CC<|BB f9<|MM (lown 39 6 q.gaugesV g_h1 k!)<|BB f9<|VV ln16<|BB f9<|VV (igtr 3 false false .i64 q.bad ((q.gauges.length:Nat):Int))<|VV (pick_f (a:=some (AV.bool true)) (b:=some (AV.bool (decide (((q.gauges.length:Nat):Int)<q.bad)))) f9)<|CC<|BB f10<|CC<|LL ev_yl18<|CC<|ZZ) k!
                         have e:r_CheckQuantity q=0:=by simp only[r_CheckQuantity,f0,f1,f2,f3,f4,f5,f6,f7,f8,f9,f10,hl_yl18,cond_true,cond_false]
                         rw[e]
                         exact callP_pure rfl (fn_of Tryz.func36 r_CheckQuantity_B k! (.inr rfl) ev k!) a_h19 rfl
                       | some rr18=>
                         obtain ⟨h1,n_h1,y_h1,z_h1,g_h1,b_h1⟩:=nwB y_h (AObj.cells [(AV.str q.name),(AV.int .i64 q.low),(AV.int .i64 q.high),(AV.int .i64 q.rise),(AV.int .i64 q.fall),(AV.int .i64 q.bad),q.gaugesV] 41 false)
                         have a_h1:Has h h1:=b_h1
                         have k2:=r_Name_c (d:=d+1) q.name h_q.1 y_h1
                         have k4:=r_value_c (d:=d+1) q.low y_h1
                         have k6:=r_value_c (d:=d+1) q.high y_h1
                         have ln13:lenK (some (.slice 61)) (some q.gaugesV)=some (AV.int .i64 ((q.gauges.length:Nat):Int)):=h_q.2.len
                         have ln16:lenK (some (.slice 61)) (some q.gaugesV)=some (AV.int .i64 ((q.gauges.length:Nat):Int)):=h_q.2.len
                         obtain ⟨yl18,h19,ev_yl18,G_h19⟩:=OptLoop.r hl_yl18 (r_CheckQuantity_l0_t (d:=d) (h:=h) q h.nx h_q.1 h_q.2 h_q q.gauges.length 0 o! (fun k_=>(((AV.agg [(AV.str q.name),(AV.int .i64 q.low),(AV.int .i64 q.high),(AV.int .i64 q.rise),(AV.int .i64 q.fall),(AV.int .i64 q.bad),q.gaugesV])::(AV.ptr h.nx 0)::(AV.int .i64 0)::(AV.int .i64 0)::AV.undef::AV.undef::(AV.bool (!(r_Name q.name)))::(AV.ptr h.nx 0)::(AV.str q.name)::(AV.bool (r_Name q.name))::(AV.bool (!(r_Name q.name)))::(AV.bool (decide (q.high<q.low)))::(AV.ptr h.nx 1)::(AV.ptr h.nx 1)::(AV.int .i64 q.low)::(AV.bool (r_value q.low))::(AV.bool (!(r_value q.low)))::(AV.bool (!(r_value q.low)))::(AV.ptr h.nx 1)::(AV.ptr h.nx 2)::(AV.int .i64 q.high)::(AV.bool (r_value q.high))::(AV.bool (!(r_value q.high)))::(AV.bool (!(r_value q.high)))::(AV.bool (!(r_value q.high)))::(AV.ptr h.nx 1)::(AV.ptr h.nx 1)::(AV.int .i64 q.low)::(AV.ptr h.nx 1)::(AV.ptr h.nx 2)::(AV.int .i64 q.high)::(AV.bool (decide (q.high<q.low)))::(AV.bool (decide (q.high<q.low)))::(AV.bool (decide (10000<q.fall)))::(AV.ptr h.nx 3)::(AV.int .i64 q.rise)::(AV.bool (decide (q.rise<0)))::(AV.bool (decide (q.rise<0)))::(AV.ptr h.nx 3)::(AV.int .i64 q.rise)::(AV.bool (decide (10000<q.rise)))::(AV.bool (decide (10000<q.rise)))::(AV.bool (decide (10000<q.rise)))::(AV.ptr h.nx 4)::(AV.int .i64 q.fall)::(AV.bool (decide (q.fall<0)))::(AV.bool (decide (q.fall<0)))::(AV.bool (decide (q.fall<0)))::(AV.ptr h.nx 4)::(AV.int .i64 q.fall)::(AV.bool (decide (10000<q.fall)))::(AV.bool (decide (10000<q.fall)))::(AV.bool (decide (8<((q.gauges.length:Nat):Int))))::(AV.ptr h.nx 6)::q.gaugesV::(AV.int .i64 ((q.gauges.length:Nat):Int))::(AV.bool (decide (8<((q.gauges.length:Nat):Int))))::(AV.bool (decide (((q.gauges.length:Nat):Int)<q.bad)))::(AV.ptr h.nx 5)::(AV.int .i64 q.bad)::(AV.bool (decide (q.bad<0)))::(AV.bool (decide (q.bad<0)))::(AV.ptr h.nx 5)::(AV.int .i64 q.bad)::(AV.ptr h.nx 6)::q.gaugesV::(AV.int .i64 ((q.gauges.length:Nat):Int))::(AV.bool (decide (((q.gauges.length:Nat):Int)<q.bad)))::(AV.bool (decide (((q.gauges.length:Nat):Int)<q.bad)))::und 42):List AV).getD k_ AV.undef) h1 y_h1 a_h1 g_h1)
                         have y_h19:=G_h19.y
                         have m_h19:h1.nx≤h19.nx:=G_h19.n
                         have a_h19:Has h h19:=a_h1.trans G_h19.a
                         have ev:=pk (d+2) r_CheckQuantity_body ((AV.agg [(AV.str q.name),(AV.int .i64 q.low),(AV.int .i64 q.high),(AV.int .i64 q.rise),(AV.int .i64 q.fall),(AV.int .i64 q.bad),q.gaugesV])::und 110) h .ret h19 (NN n_h1 (fun i=>(AV.ptr i 0))<|CN 2<|MM (lown 9 0 (AV.str q.name) g_h1 k!)<|EE k2<|CN 2<|BB f0<|CN 2<|MM (lown 3 1 (AV.int .i64 q.low) g_h1 k!)<|EE k4<|CN 2<|BB f1<|CC<|BB f1<|CC<|BB f1<|MM (lown 3 2 (AV.int .i64 q.high) g_h1 k!)<|BB f1<|EE k6<|BB f1<|CC<|VV (pick_f (a:=some (AV.bool true)) (b:=some (AV.bool (!(r_value q.high)))) f1)<|CC<|BB f2<|CC<|BB f2<|CC<|BB f2<|MM (lown 3 1 (AV.int .i64 q.low) g_h1 k!)<|BB f2<|CC<|BB f2<|CC<|BB f2<|MM (lown 3 2 (AV.int .i64 q.high) g_h1 k!)<|BB f2<|VV (igtr 3 false false .i64 q.low q.high)<|VV (pick_f (a:=some (AV.bool true)) (b:=some (AV.bool (decide (q.high<q.low)))) f2)<|CC<|BB f3<|CC<|MM (lown 3 3 (AV.int .i64 q.rise) g_h1 k!)<|VV (ilss 3 false true .i64 q.rise 0)<|CC<|BB f4<|CC<|BB f4<|MM (lown 3 3 (AV.int .i64 q.rise) g_h1 k!)<|BB f4<|VV (igtr 3 false true .i64 q.rise 10000)<|VV (pick_f (a:=some (AV.bool true)) (b:=some (AV.bool (decide (10000<q.rise)))) f4)<|CC<|BB f5<|CC<|BB f5<|MM (lown 3 4 (AV.int .i64 q.fall) g_h1 k!)<|BB f5<|VV (ilss 3 false true .i64 q.fall 0)<|VV (pick_f (a:=some (AV.bool true)) (b:=some (AV.bool (decide (q.fall<0)))) f5)<|CC<|BB f6<|CC<|BB f6<|MM (lown 3 4 (AV.int .i64 q.fall) g_h1 k!)<|BB f6<|VV (igtr 3 false true .i64 q.fall 10000)<|VV (pick_f (a:=some (AV.bool true)) (b:=some (AV.bool (decide (10000<q.fall)))) f6)<|CC<|BB f7<|CC<|MM (lown 39 6 q.gaugesV g_h1 k!)<|VV ln13<|VV (igtr 3 false true .i64 ((q.gauges.length:Nat):Int) 8)<|CC<|BB f8<|CC<|MM (lown 3 5 (AV.int .i64 q.bad) g_h1 k!)<|VV (ilss 3 false true .i64 q.bad 0)<|CC<|BB f9<|CC<|BB f9<|MM (lown 3 5 (AV.int .i64 q.bad) g_h1 k!)<|BB f9<|CC<|BB f9<|MM (lown 39 6 q.gaugesV g_h1 k!)<|BB f9<|VV ln16<|BB f9<|VV (igtr 3 false false .i64 q.bad ((q.gauges.length:Nat):Int))<|VV (pick_f (a:=some (AV.bool true)) (b:=some (AV.bool (decide (((q.gauges.length:Nat):Int)<q.bad)))) f9)<|CC<|BB f10<|CC<|LL ev_yl18<|ZZ) k!
                         have e:r_CheckQuantity q=rr18:=by simp only[r_CheckQuantity,f0,f1,f2,f3,f4,f5,f6,f7,f8,f9,f10,hl_yl18,cond_true,cond_false]
                         rw[e]
                         exact callP_pure rfl (fn_of Tryz.func36 r_CheckQuantity_B k! (.inr rfl) ev k!) a_h19 rfl
end Go.Proofs.Bench
