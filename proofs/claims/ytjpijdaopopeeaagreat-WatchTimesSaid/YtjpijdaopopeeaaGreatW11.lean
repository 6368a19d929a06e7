import Derived.Test.YtjpijdaopopeeaaGreatW0
import Derived.Test.YtjpijdaopopeeaaGreatW9
import Derived.Test.YtjpijdaopopeeaaGreatW10
import Derived.Test.YtjpijdaopopeeaaGreatA7
namespace Go.Proofs.Bench
open Go.Proofs Ab
set_option maxRecDepth 100000
set_option maxHeartbeats 4000000
set_option linter.unusedVariables false
set_option linter.unusedSimpArgs false
noncomputable def w_Late_body:Code:=(Tryz.f8.body).getD .skip
theorem w_Late_B:Tryz.f8.body=some w_Late_body:=by kernel_rfl
noncomputable def w_Late_lp0:Code:=(loopsIn w_Late_body).getD 0 .skip
def w_Late_l0 (p:Plan):Nat→Nat→List Int→List Int
 | 0,_,v0_5=>v0_5
 | kq0+1,i0,v0_5=>(bif (decide (((p.alarms.g i0).level)<((p.quantities.g (Int.toNat ((p.alarms.g i0).quantity))).high))) then w_Late_l0 p kq0 (i0+1) (v0_5++[((i0:Nat):Int)]) else (bif (decide (((p.alarms.g i0).limit)<(IntKind.i64.wrap (((p.alarms.g i0).level)+(IntKind.i64.wrap (((p.quantities.g (Int.toNat ((p.alarms.g i0).quantity))).rise)*(IntKind.i64.wrap ((w_responseOf p ((p.alarms.g i0).measure))+1)))))))) then w_Late_l0 p kq0 (i0+1) (v0_5++[((i0:Nat):Int)]) else w_Late_l0 p kq0 (i0+1) v0_5))
theorem w_Late_l0_t {d:Nat} {h:Heap} (p:Plan) (b0_0:Nat) (H0_0:RowsAt h p.alarmsV p.alarms) (H0_1:RowsAt h p.quantitiesV p.quantities) (H0_2:RowsAt h p.measuresV p.measures) (O0_0:RowT.ok h p) (E0_0:Fine p) (y_h:Tidy h) (G0_0:h.get b0_0=some (AObj.cells [p.quantitiesV,p.measuresV,p.alarmsV] 26 false)):∀(k_ i_:Nat) (v0_5:List Int) (z0:AV) (_:i_+k_=p.alarms.length) (x:Nat→AV) (hh:Heap) (y_hh:Tidy hh) (a_hh:Has h hh) (n_hh:h.nx≤hh.nx) (oz0:OwnC 3 h hh z0 (zs v0_5)) (lz0:v0_5.length≤i_),OwnLoop (cal (d+11)) w_Late_lp0 ⟨((x 0)::(AV.ptr b0_0 0)::rx x 2 3 (z0::rx x 6 10 (p.alarmsV::(AV.int .i64 ((p.alarms.length:Nat):Int))::(AV.int .i64 ((i_:Nat):Int))::rx x 19 39 []))),hh,[],.no⟩ (.exit 0) h 3 (fun r z y=>((y 0)::(AV.ptr b0_0 0)::rx y 2 3 (z::rx y 6 10 (p.alarmsV::(AV.int .i64 ((p.alarms.length:Nat):Int))::rx y 18 40 [])))) (fun r=>zs r) p.alarms.length (w_Late_l0 p k_ i_ v0_5)
 | 0,i0,v0_5,z0,hik,x,hh,y_hh,a_hh,n_hh,oz0,lz0=>by
   have s_H0_0:=H0_0.small
   have s_H0_1:=H0_1.small
   have s_H0_2:=H0_2.small
   have T0_0:=y_h _ _ G0_0
   have q1:(decide (((i0:Nat):Int)<((p.alarms.length:Nat):Int)))=false:=d!
   have ev:=pk (d+11) w_Late_lp0 ((x 0)::(AV.ptr b0_0 0)::rx x 2 3 (z0::rx x 6 10 (p.alarmsV::(AV.int .i64 ((p.alarms.length:Nat):Int))::(AV.int .i64 ((i0:Nat):Int))::rx x 19 39 []))) hh (.exit 0) hh (VV (ilss 3 false false .i64 ((i0:Nat):Int) ((p.alarms.length:Nat):Int))<|BB q1<|ZZ) k!
   exact OwnLoop.out v0_5 z0 rfl ev ⟨y_hh,a_hh,by omega⟩ oz0 (by show (zs _).length≤_;rw[zs_len];omega) k!
 | kq0+1,i0,v0_5,z0,hik,x,hh,y_hh,a_hh,n_hh,oz0,lz0=>by
   have s_H0_0:=H0_0.small
   have s_H0_1:=H0_1.small
   have s_H0_2:=H0_2.small
   have T0_0:=y_h _ _ G0_0
   have fl_:=E0_0.lens
   obtain ⟨⟨fa1_,fa2_⟩,fa3_,fa4_⟩:=E0_0.alarm (j:=i0) o!
   rcases Bool.eq_false_or_eq_true (decide (((p.alarms.g i0).level)<((p.quantities.g (Int.toNat ((p.alarms.g i0).quantity))).high))) with f1 | f1
   · have n_f1:=of_decide_eq_true f1
     have q1:(decide (((i0:Nat):Int)<((p.alarms.length:Nat):Int)))=true:=d!
     obtain ⟨p3,q4,ix2_⟩:=(H0_0.has a_hh).elem (i:=i0) o!
     have ix2:idxK env (some (.slice 59)) (some p.alarmsV) (some (AV.int .i64 ((i0:Nat):Int)))=some (AV.ptr p3 q4):=ix2_
     have ld5:loadA env hh 59 (AV.ptr p3 q4)=some (AV.agg [(AV.int .i64 ((p.alarms.g i0).quantity)),(AV.int .i64 ((p.alarms.g i0).level)),(AV.int .i64 ((p.alarms.g i0).limit)),(AV.int .i64 ((p.alarms.g i0).measure))]):=(H0_0.has a_hh).load o! ix2_
     obtain ⟨h6,n_h6,y_h6,z_h6,g_h6,b_h6⟩:=nwB y_hh (AObj.cells [(AV.int .i64 0),(AV.int .i64 0),(AV.int .i64 0),(AV.int .i64 0)] 59 false)
     have a_h6:Has hh h6:=b_h6
     obtain ⟨h7,s_h7,y_h7,z_h7,g_h7,kk_h7⟩:=stwB (t:=59) (n:=4) (i:=hh.nx) (L:=[(AV.int .i64 ((p.alarms.g i0).quantity)),(AV.int .i64 ((p.alarms.g i0).level)),(AV.int .i64 ((p.alarms.g i0).limit)),(AV.int .i64 ((p.alarms.g i0).measure))]) y_h6 g_h6 k! rfl rfl (by simp only[AV.cells,List.all_cons,List.all_nil,Bool.and_true,Bool.and_self,sc_int,sc_bool,sc_str,sc_ptr,sc_slice,sc_ns,sc_np,sc_nm,sc_nf,sc_ni,sc_map])
     have a_h7:Has hh h7:=Has.of_kept a_h6 kk_h7 y_hh o!
     obtain ⟨p9,q10,ix8_⟩:=(H0_1.has a_hh).elem (i:=(Int.toNat ((p.alarms.g i0).quantity))) o!
     have ix8:idxK env (some (.slice 41)) (some p.quantitiesV) (some (AV.int .i64 ((p.alarms.g i0).quantity)))=some (AV.ptr p9 q10):=by rw[show (((p.alarms.g i0).quantity):Int)=(((Int.toNat ((p.alarms.g i0).quantity)):Nat):Int) by omega];exact ix8_
     have ld11:loadA env h7 41 (AV.ptr p9 q10)=some (AV.agg [(AV.str ((p.quantities.g (Int.toNat ((p.alarms.g i0).quantity))).name)),(AV.int .i64 ((p.quantities.g (Int.toNat ((p.alarms.g i0).quantity))).low)),(AV.int .i64 ((p.quantities.g (Int.toNat ((p.alarms.g i0).quantity))).high)),(AV.int .i64 ((p.quantities.g (Int.toNat ((p.alarms.g i0).quantity))).rise)),(AV.int .i64 ((p.quantities.g (Int.toNat ((p.alarms.g i0).quantity))).fall)),(AV.int .i64 ((p.quantities.g (Int.toNat ((p.alarms.g i0).quantity))).bad)),((p.quantities.g (Int.toNat ((p.alarms.g i0).quantity))).gaugesV)]):=((H0_1.has a_hh).has a_h7).load o! ix8_
     obtain ⟨h12,n_h12,y_h12,z_h12,g_h12,b_h12⟩:=nwB y_h7 (AObj.cells [(AV.str []),(AV.int .i64 0),(AV.int .i64 0),(AV.int .i64 0),(AV.int .i64 0),(AV.int .i64 0),AV.nilslice] 41 false)
     have a_h12:Has hh h12:=a_h7.trans b_h12
     have sc14:AV.scalar ((p.quantities.g (Int.toNat ((p.alarms.g i0).quantity))).gaugesV)=true:=(((H0_1.has a_hh).ok (i:=(Int.toNat ((p.alarms.g i0).quantity))) o!).2).scalar
     obtain ⟨h13,s_h13,y_h13,z_h13,g_h13,kk_h13⟩:=stwB (t:=41) (n:=7) (i:=h7.nx) (L:=[(AV.str ((p.quantities.g (Int.toNat ((p.alarms.g i0).quantity))).name)),(AV.int .i64 ((p.quantities.g (Int.toNat ((p.alarms.g i0).quantity))).low)),(AV.int .i64 ((p.quantities.g (Int.toNat ((p.alarms.g i0).quantity))).high)),(AV.int .i64 ((p.quantities.g (Int.toNat ((p.alarms.g i0).quantity))).rise)),(AV.int .i64 ((p.quantities.g (Int.toNat ((p.alarms.g i0).quantity))).fall)),(AV.int .i64 ((p.quantities.g (Int.toNat ((p.alarms.g i0).quantity))).bad)),((p.quantities.g (Int.toNat ((p.alarms.g i0).quantity))).gaugesV)]) y_h12 g_h12 k! rfl rfl (by simp only[AV.cells,List.all_cons,List.all_nil,Bool.and_true,Bool.and_self,sc_int,sc_bool,sc_str,sc_ptr,sc_slice,sc_ns,sc_np,sc_nm,sc_nf,sc_ni,sc_map,sc14])
     have a_h13:Has hh h13:=Has.of_kept a_h12 kk_h13 y_hh o!
     have k15:=w_responseOf_c (d:=d+10) p ((p.alarms.g i0).measure) (RowT.mono a_h13 (RowT.mono a_hh O0_0)) o! o! y_h13
     have c16:AV.same 20 (AV.agg [p.quantitiesV,p.measuresV,p.alarmsV]) (AV.agg [p.quantitiesV,p.measuresV,p.alarmsV])=true:=same_agg 18 (sc_ (H0_1.has a_hh).same (sc_ (H0_2.has a_hh).same (sc_ (H0_0.has a_hh).same sn_)))
     obtain ⟨h18,n_h18,y_h18,z_h18,g_h18,b_h18⟩:=nwB y_h13 (AObj.cells [(AV.int .i64 ((i0:Nat):Int))] 3 false)
     have a_h18:Has hh h18:=a_h13.trans b_h18
     obtain ⟨z20,h19,ap_h19,y_h19,m_h19,A_h19,oz21⟩:=OwnC.app1 (h0:=h) (tys:= #[32,32]) (v:=((i0:Nat):Int)) (L:=v0_5) y_h18 y_h (a_hh.trans a_h18) o! (oz0.has a_h18) g_h18 (by first | omega | (simp;omega)) rfl rfl k! k! k! (bytes:=8) k! (z0:=AV.int .i64 0) k! rfl (by decide)
     have u22:=nadd 3 false true i0 1 o!
     have ev:=pk (d+11) w_Late_lp0 ((x 0)::(AV.ptr b0_0 0)::rx x 2 3 (z0::rx x 6 10 (p.alarmsV::(AV.int .i64 ((p.alarms.length:Nat):Int))::(AV.int .i64 ((i0:Nat):Int))::rx x 19 39 []))) hh .normal h19 (VV (ilss 3 false false .i64 ((i0:Nat):Int) ((p.alarms.length:Nat):Int))<|BB q1<|CC<|VV ix2<|MM ld5<|NN n_h6 (fun i=>(AV.ptr i 0))<|CC<|SS s_h7<|CC<|MM (lown 22 0 p.quantitiesV (kk_h7 _ _ o! (b_h6 _ _ (a_hh _ _ G0_0))) k!)<|CC<|MM (lown 3 0 (AV.int .i64 ((p.alarms.g i0).quantity)) g_h7 k!)<|VV ix8<|MM ld11<|NN n_h12 (fun i=>(AV.ptr i 0))<|SS s_h13<|CC<|MM (lown 3 1 (AV.int .i64 ((p.alarms.g i0).level)) (kk_h13 _ _ o! (b_h12 _ _ g_h7)) k!)<|CC<|MM (lown 3 3 (AV.int .i64 ((p.quantities.g (Int.toNat ((p.alarms.g i0).quantity))).rise)) g_h13 k!)<|MM (lown 26 0 (AV.agg [p.quantitiesV,p.measuresV,p.alarmsV]) (kk_h13 _ _ o! (b_h12 _ _ (kk_h7 _ _ o! (b_h6 _ _ (a_hh _ _ G0_0))))) k!)<|CC<|MM (lown 3 3 (AV.int .i64 ((p.alarms.g i0).measure)) (kk_h13 _ _ o! (b_h12 _ _ g_h7)) k!)<|EE k15<|CN 4<|HH (lown 3 1 (AV.int .i64 ((p.alarms.g i0).level)) (kk_h13 _ _ o! (b_h12 _ _ g_h7)) k!)<|HH (show AV.same 20 (AV.int .i64 ((p.alarms.g i0).level)) (AV.int .i64 ((p.alarms.g i0).level))=true from same_int 19 _ _)<|HH (lown 3 1 (AV.int .i64 ((p.alarms.g i0).level)) (kk_h13 _ _ o! (b_h12 _ _ g_h7)) k!)<|HH (show AV.same 20 (AV.int .i64 ((p.alarms.g i0).level)) (AV.int .i64 ((p.alarms.g i0).level))=true from same_int 19 _ _)<|HH (lown 3 3 (AV.int .i64 ((p.quantities.g (Int.toNat ((p.alarms.g i0).quantity))).rise)) g_h13 k!)<|HH (show AV.same 20 (AV.int .i64 ((p.quantities.g (Int.toNat ((p.alarms.g i0).quantity))).rise)) (AV.int .i64 ((p.quantities.g (Int.toNat ((p.alarms.g i0).quantity))).rise))=true from same_int 19 _ _)<|HH (lown 3 3 (AV.int .i64 ((p.quantities.g (Int.toNat ((p.alarms.g i0).quantity))).rise)) g_h13 k!)<|HH (show AV.same 20 (AV.int .i64 ((p.quantities.g (Int.toNat ((p.alarms.g i0).quantity))).rise)) (AV.int .i64 ((p.quantities.g (Int.toNat ((p.alarms.g i0).quantity))).rise))=true from same_int 19 _ _)<|HH (lown 26 0 (AV.agg [p.quantitiesV,p.measuresV,p.alarmsV]) (kk_h13 _ _ o! (b_h12 _ _ (kk_h7 _ _ o! (b_h6 _ _ (a_hh _ _ G0_0))))) k!)<|HH c16<|HH (lown 3 3 (AV.int .i64 ((p.alarms.g i0).measure)) (kk_h13 _ _ o! (b_h12 _ _ g_h7)) k!)<|HH (show AV.same 20 (AV.int .i64 ((p.alarms.g i0).measure)) (AV.int .i64 ((p.alarms.g i0).measure))=true from same_int 19 _ _)<|CN 2<|MM (lown 3 2 (AV.int .i64 ((p.quantities.g (Int.toNat ((p.alarms.g i0).quantity))).high)) g_h13 k!)<|CC<|MM (lown 3 1 (AV.int .i64 ((p.alarms.g i0).level)) (kk_h13 _ _ o! (b_h12 _ _ g_h7)) k!)<|VV (igtr 3 false false .i64 ((p.quantities.g (Int.toNat ((p.alarms.g i0).quantity))).high) ((p.alarms.g i0).level))<|CC<|BB f1<|BB f1<|BB f1<|BB f1<|VV (pick_t (a:=some (AV.bool true)) (b:=some AV.undef) f1)<|TT<|CN 2<|NN n_h18 (fun i=>(AV.slice i 0 1 1 false))<|PP (show appendA env h18 #[32,32] z0 (AV.slice h13.nx 0 1 1 false)=some (z20,h19) from ap_h19)<|CC<|VV u22<|CC<|ZZ) k!
     exact OwnLoop.round (by simp only[w_Late_l0,f1,cond_true,cond_false]) ev (fun x=>((x 0)::(AV.ptr b0_0 0)::rx x 2 3 (z20::rx x 6 10 (p.alarmsV::(AV.int .i64 ((p.alarms.length:Nat):Int))::(AV.int .i64 (((i0+1):Nat):Int))::rx x 19 39 [])))) k! (fun x=>w_Late_l0_t p b0_0 H0_0 H0_1 H0_2 O0_0 E0_0 y_h G0_0 kq0 (i0+1) (v0_5++[((i0:Nat):Int)]) z20 o! x h19 y_h19 A_h19 o! oz21 (by first | omega | (simp;omega)))
   · have n_f1:=of_decide_eq_false f1
     rcases Bool.eq_false_or_eq_true (decide (((p.alarms.g i0).limit)<(IntKind.i64.wrap (((p.alarms.g i0).level)+(IntKind.i64.wrap (((p.quantities.g (Int.toNat ((p.alarms.g i0).quantity))).rise)*(IntKind.i64.wrap ((w_responseOf p ((p.alarms.g i0).measure))+1)))))))) with f2 | f2
     · have n_f2:=of_decide_eq_true f2
       have q1:(decide (((i0:Nat):Int)<((p.alarms.length:Nat):Int)))=true:=d!
       obtain ⟨p3,q4,ix2_⟩:=(H0_0.has a_hh).elem (i:=i0) o!
       have ix2:idxK env (some (.slice 59)) (some p.alarmsV) (some (AV.int .i64 ((i0:Nat):Int)))=some (AV.ptr p3 q4):=ix2_
       have ld5:loadA env hh 59 (AV.ptr p3 q4)=some (AV.agg [(AV.int .i64 ((p.alarms.g i0).quantity)),(AV.int .i64 ((p.alarms.g i0).level)),(AV.int .i64 ((p.alarms.g i0).limit)),(AV.int .i64 ((p.alarms.g i0).measure))]):=(H0_0.has a_hh).load o! ix2_
       obtain ⟨h6,n_h6,y_h6,z_h6,g_h6,b_h6⟩:=nwB y_hh (AObj.cells [(AV.int .i64 0),(AV.int .i64 0),(AV.int .i64 0),(AV.int .i64 0)] 59 false)
       have a_h6:Has hh h6:=b_h6
       obtain ⟨h7,s_h7,y_h7,z_h7,g_h7,kk_h7⟩:=stwB (t:=59) (n:=4) (i:=hh.nx) (L:=[(AV.int .i64 ((p.alarms.g i0).quantity)),(AV.int .i64 ((p.alarms.g i0).level)),(AV.int .i64 ((p.alarms.g i0).limit)),(AV.int .i64 ((p.alarms.g i0).measure))]) y_h6 g_h6 k! rfl rfl (by simp only[AV.cells,List.all_cons,List.all_nil,Bool.and_true,Bool.and_self,sc_int,sc_bool,sc_str,sc_ptr,sc_slice,sc_ns,sc_np,sc_nm,sc_nf,sc_ni,sc_map])
       have a_h7:Has hh h7:=Has.of_kept a_h6 kk_h7 y_hh o!
       obtain ⟨p9,q10,ix8_⟩:=(H0_1.has a_hh).elem (i:=(Int.toNat ((p.alarms.g i0).quantity))) o!
       have ix8:idxK env (some (.slice 41)) (some p.quantitiesV) (some (AV.int .i64 ((p.alarms.g i0).quantity)))=some (AV.ptr p9 q10):=by rw[show (((p.alarms.g i0).quantity):Int)=(((Int.toNat ((p.alarms.g i0).quantity)):Nat):Int) by omega];exact ix8_
       have ld11:loadA env h7 41 (AV.ptr p9 q10)=some (AV.agg [(AV.str ((p.quantities.g (Int.toNat ((p.alarms.g i0).quantity))).name)),(AV.int .i64 ((p.quantities.g (Int.toNat ((p.alarms.g i0).quantity))).low)),(AV.int .i64 ((p.quantities.g (Int.toNat ((p.alarms.g i0).quantity))).high)),(AV.int .i64 ((p.quantities.g (Int.toNat ((p.alarms.g i0).quantity))).rise)),(AV.int .i64 ((p.quantities.g (Int.toNat ((p.alarms.g i0).quantity))).fall)),(AV.int .i64 ((p.quantities.g (Int.toNat ((p.alarms.g i0).quantity))).bad)),((p.quantities.g (Int.toNat ((p.alarms.g i0).quantity))).gaugesV)]):=((H0_1.has a_hh).has a_h7).load o! ix8_
       obtain ⟨h12,n_h12,y_h12,z_h12,g_h12,b_h12⟩:=nwB y_h7 (AObj.cells [(AV.str []),(AV.int .i64 0),(AV.int .i64 0),(AV.int .i64 0),(AV.int .i64 0),(AV.int .i64 0),AV.nilslice] 41 false)
       have a_h12:Has hh h12:=a_h7.trans b_h12
       have sc14:AV.scalar ((p.quantities.g (Int.toNat ((p.alarms.g i0).quantity))).gaugesV)=true:=(((H0_1.has a_hh).ok (i:=(Int.toNat ((p.alarms.g i0).quantity))) o!).2).scalar
       obtain ⟨h13,s_h13,y_h13,z_h13,g_h13,kk_h13⟩:=stwB (t:=41) (n:=7) (i:=h7.nx) (L:=[(AV.str ((p.quantities.g (Int.toNat ((p.alarms.g i0).quantity))).name)),(AV.int .i64 ((p.quantities.g (Int.toNat ((p.alarms.g i0).quantity))).low)),(AV.int .i64 ((p.quantities.g (Int.toNat ((p.alarms.g i0).quantity))).high)),(AV.int .i64 ((p.quantities.g (Int.toNat ((p.alarms.g i0).quantity))).rise)),(AV.int .i64 ((p.quantities.g (Int.toNat ((p.alarms.g i0).quantity))).fall)),(AV.int .i64 ((p.quantities.g (Int.toNat ((p.alarms.g i0).quantity))).bad)),((p.quantities.g (Int.toNat ((p.alarms.g i0).quantity))).gaugesV)]) y_h12 g_h12 k! rfl rfl (by simp only[AV.cells,List.all_cons,List.all_nil,Bool.and_true,Bool.and_self,sc_int,sc_bool,sc_str,sc_ptr,sc_slice,sc_ns,sc_np,sc_nm,sc_nf,sc_ni,sc_map,sc14])
       have a_h13:Has hh h13:=Has.of_kept a_h12 kk_h13 y_hh o!
       have k15:=w_responseOf_c (d:=d+10) p ((p.alarms.g i0).measure) (RowT.mono a_h13 (RowT.mono a_hh O0_0)) o! o! y_h13
       have c16:AV.same 20 (AV.agg [p.quantitiesV,p.measuresV,p.alarmsV]) (AV.agg [p.quantitiesV,p.measuresV,p.alarmsV])=true:=same_agg 18 (sc_ (H0_1.has a_hh).same (sc_ (H0_2.has a_hh).same (sc_ (H0_0.has a_hh).same sn_)))
       obtain ⟨h19,n_h19,y_h19,z_h19,g_h19,b_h19⟩:=nwB y_h13 (AObj.cells [(AV.int .i64 ((i0:Nat):Int))] 3 false)
       have a_h19:Has hh h19:=a_h13.trans b_h19
       obtain ⟨z21,h20,ap_h20,y_h20,m_h20,A_h20,oz22⟩:=OwnC.app1 (h0:=h) (tys:= #[32,32]) (v:=((i0:Nat):Int)) (L:=v0_5) y_h19 y_h (a_hh.trans a_h19) o! (oz0.has a_h19) g_h19 (by first | omega | (simp;omega)) rfl rfl k! k! k! (bytes:=8) k! (z0:=AV.int .i64 0) k! rfl (by decide)
       have u23:=nadd 3 false true i0 1 o!
       have ev:=pk (d+11) w_Late_lp0 ((x 0)::(AV.ptr b0_0 0)::rx x 2 3 (z0::rx x 6 10 (p.alarmsV::(AV.int .i64 ((p.alarms.length:Nat):Int))::(AV.int .i64 ((i0:Nat):Int))::rx x 19 39 []))) hh .normal h20 (VV (ilss 3 false false .i64 ((i0:Nat):Int) ((p.alarms.length:Nat):Int))<|BB q1<|CC<|VV ix2<|MM ld5<|NN n_h6 (fun i=>(AV.ptr i 0))<|CC<|SS s_h7<|CC<|MM (lown 22 0 p.quantitiesV (kk_h7 _ _ o! (b_h6 _ _ (a_hh _ _ G0_0))) k!)<|CC<|MM (lown 3 0 (AV.int .i64 ((p.alarms.g i0).quantity)) g_h7 k!)<|VV ix8<|MM ld11<|NN n_h12 (fun i=>(AV.ptr i 0))<|SS s_h13<|CC<|MM (lown 3 1 (AV.int .i64 ((p.alarms.g i0).level)) (kk_h13 _ _ o! (b_h12 _ _ g_h7)) k!)<|CC<|MM (lown 3 3 (AV.int .i64 ((p.quantities.g (Int.toNat ((p.alarms.g i0).quantity))).rise)) g_h13 k!)<|MM (lown 26 0 (AV.agg [p.quantitiesV,p.measuresV,p.alarmsV]) (kk_h13 _ _ o! (b_h12 _ _ (kk_h7 _ _ o! (b_h6 _ _ (a_hh _ _ G0_0))))) k!)<|CC<|MM (lown 3 3 (AV.int .i64 ((p.alarms.g i0).measure)) (kk_h13 _ _ o! (b_h12 _ _ g_h7)) k!)<|EE k15<|CN 4<|HH (lown 3 1 (AV.int .i64 ((p.alarms.g i0).level)) (kk_h13 _ _ o! (b_h12 _ _ g_h7)) k!)<|HH (show AV.same 20 (AV.int .i64 ((p.alarms.g i0).level)) (AV.int .i64 ((p.alarms.g i0).level))=true from same_int 19 _ _)<|HH (lown 3 1 (AV.int .i64 ((p.alarms.g i0).level)) (kk_h13 _ _ o! (b_h12 _ _ g_h7)) k!)<|HH (show AV.same 20 (AV.int .i64 ((p.alarms.g i0).level)) (AV.int .i64 ((p.alarms.g i0).level))=true from same_int 19 _ _)<|HH (lown 3 3 (AV.int .i64 ((p.quantities.g (Int.toNat ((p.alarms.g i0).quantity))).rise)) g_h13 k!)<|HH (show AV.same 20 (AV.int .i64 ((p.quantities.g (Int.toNat ((p.alarms.g i0).quantity))).rise)) (AV.int .i64 ((p.quantities.g (Int.toNat ((p.alarms.g i0).quantity))).rise))=true from same_int 19 _ _)<|HH (lown 3 3 (AV.int .i64 ((p.quantities.g (Int.toNat ((p.alarms.g i0).quantity))).rise)) g_h13 k!)<|HH (show AV.same 20 (AV.int .i64 ((p.quantities.g (Int.toNat ((p.alarms.g i0).quantity))).rise)) (AV.int .i64 ((p.quantities.g (Int.toNat ((p.alarms.g i0).quantity))).rise))=true from same_int 19 _ _)<|HH (lown 26 0 (AV.agg [p.quantitiesV,p.measuresV,p.alarmsV]) (kk_h13 _ _ o! (b_h12 _ _ (kk_h7 _ _ o! (b_h6 _ _ (a_hh _ _ G0_0))))) k!)<|HH c16<|HH (lown 3 3 (AV.int .i64 ((p.alarms.g i0).measure)) (kk_h13 _ _ o! (b_h12 _ _ g_h7)) k!)<|HH (show AV.same 20 (AV.int .i64 ((p.alarms.g i0).measure)) (AV.int .i64 ((p.alarms.g i0).measure))=true from same_int 19 _ _)<|CN 2<|MM (lown 3 2 (AV.int .i64 ((p.quantities.g (Int.toNat ((p.alarms.g i0).quantity))).high)) g_h13 k!)<|CC<|MM (lown 3 1 (AV.int .i64 ((p.alarms.g i0).level)) (kk_h13 _ _ o! (b_h12 _ _ g_h7)) k!)<|VV (igtr 3 false false .i64 ((p.quantities.g (Int.toNat ((p.alarms.g i0).quantity))).high) ((p.alarms.g i0).level))<|CC<|BB f1<|CC<|BB f1<|CC<|BB f1<|MM (lown 3 2 (AV.int .i64 ((p.alarms.g i0).limit)) (kk_h13 _ _ o! (b_h12 _ _ g_h7)) k!)<|BB f1<|VV (igtr 3 false false .i64 (IntKind.i64.wrap (((p.alarms.g i0).level)+(IntKind.i64.wrap (((p.quantities.g (Int.toNat ((p.alarms.g i0).quantity))).rise)*(IntKind.i64.wrap ((w_responseOf p ((p.alarms.g i0).measure))+1)))))) ((p.alarms.g i0).limit))<|VV (pick_f (a:=some (AV.bool true)) (b:=some (AV.bool (decide (((p.alarms.g i0).limit)<(IntKind.i64.wrap (((p.alarms.g i0).level)+(IntKind.i64.wrap (((p.quantities.g (Int.toNat ((p.alarms.g i0).quantity))).rise)*(IntKind.i64.wrap ((w_responseOf p ((p.alarms.g i0).measure))+1)))))))))) f1)<|BB f2<|CN 2<|NN n_h19 (fun i=>(AV.slice i 0 1 1 false))<|PP (show appendA env h19 #[32,32] z0 (AV.slice h13.nx 0 1 1 false)=some (z21,h20) from ap_h20)<|CC<|VV u23<|CC<|ZZ) k!
       exact OwnLoop.round (by simp only[w_Late_l0,f1,f2,cond_true,cond_false]) ev (fun x=>((x 0)::(AV.ptr b0_0 0)::rx x 2 3 (z21::rx x 6 10 (p.alarmsV::(AV.int .i64 ((p.alarms.length:Nat):Int))::(AV.int .i64 (((i0+1):Nat):Int))::rx x 19 39 [])))) k! (fun x=>w_Late_l0_t p b0_0 H0_0 H0_1 H0_2 O0_0 E0_0 y_h G0_0 kq0 (i0+1) (v0_5++[((i0:Nat):Int)]) z21 o! x h20 y_h20 A_h20 o! oz22 (by first | omega | (simp;omega)))
     · have n_f2:=of_decide_eq_false f2
       have q1:(decide (((i0:Nat):Int)<((p.alarms.length:Nat):Int)))=true:=d!
       obtain ⟨p3,q4,ix2_⟩:=(H0_0.has a_hh).elem (i:=i0) o!
       have ix2:idxK env (some (.slice 59)) (some p.alarmsV) (some (AV.int .i64 ((i0:Nat):Int)))=some (AV.ptr p3 q4):=ix2_
       have ld5:loadA env hh 59 (AV.ptr p3 q4)=some (AV.agg [(AV.int .i64 ((p.alarms.g i0).quantity)),(AV.int .i64 ((p.alarms.g i0).level)),(AV.int .i64 ((p.alarms.g i0).limit)),(AV.int .i64 ((p.alarms.g i0).measure))]):=(H0_0.has a_hh).load o! ix2_
       obtain ⟨h6,n_h6,y_h6,z_h6,g_h6,b_h6⟩:=nwB y_hh (AObj.cells [(AV.int .i64 0),(AV.int .i64 0),(AV.int .i64 0),(AV.int .i64 0)] 59 false)
       have a_h6:Has hh h6:=b_h6
       obtain ⟨h7,s_h7,y_h7,z_h7,g_h7,kk_h7⟩:=stwB (t:=59) (n:=4) (i:=hh.nx) (L:=[(AV.int .i64 ((p.alarms.g i0).quantity)),(AV.int .i64 ((p.alarms.g i0).level)),(AV.int .i64 ((p.alarms.g i0).limit)),(AV.int .i64 ((p.alarms.g i0).measure))]) y_h6 g_h6 k! rfl rfl (by simp only[AV.cells,List.all_cons,List.all_nil,Bool.and_true,Bool.and_self,sc_int,sc_bool,sc_str,sc_ptr,sc_slice,sc_ns,sc_np,sc_nm,sc_nf,sc_ni,sc_map])
       have a_h7:Has hh h7:=Has.of_kept a_h6 kk_h7 y_hh o!
       obtain ⟨p9,q10,ix8_⟩:=(H0_1.has a_hh).elem (i:=(Int.toNat ((p.alarms.g i0).quantity))) o!
       have ix8:idxK env (some (.slice 41)) (some p.quantitiesV) (some (AV.int .i64 ((p.alarms.g i0).quantity)))=some (AV.ptr p9 q10):=by rw[show (((p.alarms.g i0).quantity):Int)=(((Int.toNat ((p.alarms.g i0).quantity)):Nat):Int) by omega];exact ix8_
       have ld11:loadA env h7 41 (AV.ptr p9 q10)=some (AV.agg [(AV.str ((p.quantities.g (Int.toNat ((p.alarms.g i0).quantity))).name)),(AV.int .i64 ((p.quantities.g (Int.toNat ((p.alarms.g i0).quantity))).low)),(AV.int .i64 ((p.quantities.g (Int.toNat ((p.alarms.g i0).quantity))).high)),(AV.int .i64 ((p.quantities.g (Int.toNat ((p.alarms.g i0).quantity))).rise)),(AV.int .i64 ((p.quantities.g (Int.toNat ((p.alarms.g i0).quantity))).fall)),(AV.int .i64 ((p.quantities.g (Int.toNat ((p.alarms.g i0).quantity))).bad)),((p.quantities.g (Int.toNat ((p.alarms.g i0).quantity))).gaugesV)]):=((H0_1.has a_hh).has a_h7).load o! ix8_
       obtain ⟨h12,n_h12,y_h12,z_h12,g_h12,b_h12⟩:=nwB y_h7 (AObj.cells [(AV.str []),(AV.int .i64 0),(AV.int .i64 0),(AV.int .i64 0),(AV.int .i64 0),(AV.int .i64 0),AV.nilslice] 41 false)
       have a_h12:Has hh h12:=a_h7.trans b_h12
       have sc14:AV.scalar ((p.quantities.g (Int.toNat ((p.alarms.g i0).quantity))).gaugesV)=true:=(((H0_1.has a_hh).ok (i:=(Int.toNat ((p.alarms.g i0).quantity))) o!).2).scalar
       obtain ⟨h13,s_h13,y_h13,z_h13,g_h13,kk_h13⟩:=stwB (t:=41) (n:=7) (i:=h7.nx) (L:=[(AV.str ((p.quantities.g (Int.toNat ((p.alarms.g i0).quantity))).name)),(AV.int .i64 ((p.quantities.g (Int.toNat ((p.alarms.g i0).quantity))).low)),(AV.int .i64 ((p.quantities.g (Int.toNat ((p.alarms.g i0).quantity))).high)),(AV.int .i64 ((p.quantities.g (Int.toNat ((p.alarms.g i0).quantity))).rise)),(AV.int .i64 ((p.quantities.g (Int.toNat ((p.alarms.g i0).quantity))).fall)),(AV.int .i64 ((p.quantities.g (Int.toNat ((p.alarms.g i0).quantity))).bad)),((p.quantities.g (Int.toNat ((p.alarms.g i0).quantity))).gaugesV)]) y_h12 g_h12 k! rfl rfl (by simp only[AV.cells,List.all_cons,List.all_nil,Bool.and_true,Bool.and_self,sc_int,sc_bool,sc_str,sc_ptr,sc_slice,sc_ns,sc_np,sc_nm,sc_nf,sc_ni,sc_map,sc14])
       have a_h13:Has hh h13:=Has.of_kept a_h12 kk_h13 y_hh o!
       have k15:=w_responseOf_c (d:=d+10) p ((p.alarms.g i0).measure) (RowT.mono a_h13 (RowT.mono a_hh O0_0)) o! o! y_h13
       have c16:AV.same 20 (AV.agg [p.quantitiesV,p.measuresV,p.alarmsV]) (AV.agg [p.quantitiesV,p.measuresV,p.alarmsV])=true:=same_agg 18 (sc_ (H0_1.has a_hh).same (sc_ (H0_2.has a_hh).same (sc_ (H0_0.has a_hh).same sn_)))
       have u19:=nadd 3 false true i0 1 o!
       have ev:=pk (d+11) w_Late_lp0 ((x 0)::(AV.ptr b0_0 0)::rx x 2 3 (z0::rx x 6 10 (p.alarmsV::(AV.int .i64 ((p.alarms.length:Nat):Int))::(AV.int .i64 ((i0:Nat):Int))::rx x 19 39 []))) hh .normal h13 (VV (ilss 3 false false .i64 ((i0:Nat):Int) ((p.alarms.length:Nat):Int))<|BB q1<|CC<|VV ix2<|MM ld5<|NN n_h6 (fun i=>(AV.ptr i 0))<|CC<|SS s_h7<|CC<|MM (lown 22 0 p.quantitiesV (kk_h7 _ _ o! (b_h6 _ _ (a_hh _ _ G0_0))) k!)<|CC<|MM (lown 3 0 (AV.int .i64 ((p.alarms.g i0).quantity)) g_h7 k!)<|VV ix8<|MM ld11<|NN n_h12 (fun i=>(AV.ptr i 0))<|SS s_h13<|CC<|MM (lown 3 1 (AV.int .i64 ((p.alarms.g i0).level)) (kk_h13 _ _ o! (b_h12 _ _ g_h7)) k!)<|CC<|MM (lown 3 3 (AV.int .i64 ((p.quantities.g (Int.toNat ((p.alarms.g i0).quantity))).rise)) g_h13 k!)<|MM (lown 26 0 (AV.agg [p.quantitiesV,p.measuresV,p.alarmsV]) (kk_h13 _ _ o! (b_h12 _ _ (kk_h7 _ _ o! (b_h6 _ _ (a_hh _ _ G0_0))))) k!)<|CC<|MM (lown 3 3 (AV.int .i64 ((p.alarms.g i0).measure)) (kk_h13 _ _ o! (b_h12 _ _ g_h7)) k!)<|EE k15<|CN 4<|HH (lown 3 1 (AV.int .i64 ((p.alarms.g i0).level)) (kk_h13 _ _ o! (b_h12 _ _ g_h7)) k!)<|HH (show AV.same 20 (AV.int .i64 ((p.alarms.g i0).level)) (AV.int .i64 ((p.alarms.g i0).level))=true from same_int 19 _ _)<|HH (lown 3 1 (AV.int .i64 ((p.alarms.g i0).level)) (kk_h13 _ _ o! (b_h12 _ _ g_h7)) k!)<|HH (show AV.same 20 (AV.int .i64 ((p.alarms.g i0).level)) (AV.int .i64 ((p.alarms.g i0).level))=true from same_int 19 _ _)<|HH (lown 3 3 (AV.int .i64 ((p.quantities.g (Int.toNat ((p.alarms.g i0).quantity))).rise)) g_h13 k!)<|HH (show AV.same 20 (AV.int .i64 ((p.quantities.g (Int.toNat ((p.alarms.g i0).quantity))).rise)) (AV.int .i64 ((p.quantities.g (Int.toNat ((p.alarms.g i0).quantity))).rise))=true from same_int 19 _ _)<|HH (lown 3 3 (AV.int .i64 ((p.quantities.g (Int.toNat ((p.alarms.g i0).quantity))).rise)) g_h13 k!)<|HH (show AV.same 20 (AV.int .i64 ((p.quantities.g (Int.toNat ((p.alarms.g i0).quantity))).rise)) (AV.int .i64 ((p.quantities.g (Int.toNat ((p.alarms.g i0).quantity))).rise))=true from same_int 19 _ _)<|HH (lown 26 0 (AV.agg [p.quantitiesV,p.measuresV,p.alarmsV]) (kk_h13 _ _ o! (b_h12 _ _ (kk_h7 _ _ o! (b_h6 _ _ (a_hh _ _ G0_0))))) k!)<|HH c16<|HH (lown 3 3 (AV.int .i64 ((p.alarms.g i0).measure)) (kk_h13 _ _ o! (b_h12 _ _ g_h7)) k!)<|HH (show AV.same 20 (AV.int .i64 ((p.alarms.g i0).measure)) (AV.int .i64 ((p.alarms.g i0).measure))=true from same_int 19 _ _)<|CN 2<|MM (lown 3 2 (AV.int .i64 ((p.quantities.g (Int.toNat ((p.alarms.g i0).quantity))).high)) g_h13 k!)<|CC<|MM (lown 3 1 (AV.int .i64 ((p.alarms.g i0).level)) (kk_h13 _ _ o! (b_h12 _ _ g_h7)) k!)<|VV (igtr 3 false false .i64 ((p.quantities.g (Int.toNat ((p.alarms.g i0).quantity))).high) ((p.alarms.g i0).level))<|CC<|BB f1<|CC<|BB f1<|CC<|BB f1<|MM (lown 3 2 (AV.int .i64 ((p.alarms.g i0).limit)) (kk_h13 _ _ o! (b_h12 _ _ g_h7)) k!)<|BB f1<|VV (igtr 3 false false .i64 (IntKind.i64.wrap (((p.alarms.g i0).level)+(IntKind.i64.wrap (((p.quantities.g (Int.toNat ((p.alarms.g i0).quantity))).rise)*(IntKind.i64.wrap ((w_responseOf p ((p.alarms.g i0).measure))+1)))))) ((p.alarms.g i0).limit))<|VV (pick_f (a:=some (AV.bool true)) (b:=some (AV.bool (decide (((p.alarms.g i0).limit)<(IntKind.i64.wrap (((p.alarms.g i0).level)+(IntKind.i64.wrap (((p.quantities.g (Int.toNat ((p.alarms.g i0).quantity))).rise)*(IntKind.i64.wrap ((w_responseOf p ((p.alarms.g i0).measure))+1)))))))))) f1)<|BB f2<|VV u19<|CC<|ZZ) k!
       exact OwnLoop.round (by simp only[w_Late_l0,f1,f2,cond_true,cond_false]) ev (fun x=>((x 0)::(AV.ptr b0_0 0)::rx x 2 3 (z0::rx x 6 10 (p.alarmsV::(AV.int .i64 ((p.alarms.length:Nat):Int))::(AV.int .i64 (((i0+1):Nat):Int))::rx x 19 39 [])))) k! (fun x=>w_Late_l0_t p b0_0 H0_0 H0_1 H0_2 O0_0 E0_0 y_h G0_0 kq0 (i0+1) v0_5 z0 o! x h13 y_h13 (a_hh.trans a_h13) o! (oz0.has a_h13) (by first | omega | (simp;omega)))
def w_Late (p:Plan):List Int×Int:=(bif (!decide ((w_Check p)=0)) then ([],(w_Check p)) else ((w_Late_l0 p p.alarms.length 0 ([])),0))
theorem w_Late_c {d:Nat} {h:Heap} (p:Plan) (h_p:RowT.ok h p) (y_h:Tidy h):∃z hk,cal (d+12) (.fn 8) [(AV.agg [p.quantitiesV,p.measuresV,p.alarmsV])] h= .ret (AV.tuple [z,(AV.int .i64 ((w_Late p).2))]) hk∧Grow h hk∧ZsAt hk 3 z (w_Late p).1:=by
 have s_h_p_1:=h_p.1.small
 have s_h_p_2_1:=h_p.2.1.small
 have s_h_p_2_2:=h_p.2.2.small
 rcases Bool.eq_false_or_eq_true (!decide ((w_Check p)=0)) with f0 | f0
 · have n_f0:=nT_ f0
   obtain ⟨h1,n_h1,y_h1,z_h1,g_h1,b_h1⟩:=nwB y_h (AObj.cells [p.quantitiesV,p.measuresV,p.alarmsV] 26 false)
   have a_h1:Has h h1:=b_h1
   have k2:=w_Check_c (d:=d) p (RowT.mono a_h1 h_p) y_h1
   have ev:=pk (d+11) w_Late_body ((AV.agg [p.quantitiesV,p.measuresV,p.alarmsV])::und 57) h .ret h1 (NN n_h1 (fun i=>(AV.ptr i 0))<|CN 2<|MM (lown 26 0 (AV.agg [p.quantitiesV,p.measuresV,p.alarmsV]) g_h1 k!)<|EE k2<|CN 2<|VV (ineq 29 false true .i64 (w_Check p) 0)<|BB f0<|CN 3<|ZZ) k!
   have e:w_Late p=([],(w_Check p)):=by simp only[w_Late,f0,cond_true,cond_false]
   rw[e]
   exact ⟨.nilslice,callP_grow rfl (fn_of Tryz.func8 w_Late_B k! (.inr rfl) ev k!) y_h ⟨y_h1,a_h1,by omega⟩ (P:=fun hh=>ZsAt hh 3 .nilslice []) (ZsAt.nil k! k!) fun _=>ZsAt.nil k! k!⟩
 · have n_f0:=nF_ f0
   obtain ⟨h1,n_h1,y_h1,z_h1,g_h1,b_h1⟩:=nwB y_h (AObj.cells [p.quantitiesV,p.measuresV,p.alarmsV] 26 false)
   have a_h1:Has h h1:=b_h1
   have k2:=w_Check_c (d:=d) p (RowT.mono a_h1 h_p) y_h1
   have ln4:lenK (some (.slice 59)) (some p.alarmsV)=some (AV.int .i64 ((p.alarms.length:Nat):Int)):=h_p.2.2.len
   obtain ⟨zo7,yl5,h6,ev_yl5,G_h6,oz8,ln9⟩:=w_Late_l0_t (d:=d) (h:=h1) p h.nx (h_p.2.2.has a_h1) (h_p.1.has a_h1) (h_p.2.1.has a_h1) (RowT.mono a_h1 h_p) (Check_ok (by assumption)) y_h1 g_h1 p.alarms.length 0 ([]) AV.nilslice o! (fun k_=>(((AV.agg [p.quantitiesV,p.measuresV,p.alarmsV])::(AV.ptr h.nx 0)::AV.nilslice::(AV.int .i64 0)::(AV.int .i64 (w_Check p))::AV.nilslice::AV.undef::AV.undef::AV.undef::AV.undef::(AV.agg [p.quantitiesV,p.measuresV,p.alarmsV])::(AV.int .i64 (w_Check p))::(AV.int .i64 (w_Check p))::(AV.bool (!decide ((w_Check p)=0)))::AV.undef::(AV.ptr h.nx 2)::p.alarmsV::(AV.int .i64 ((p.alarms.length:Nat):Int))::(AV.int .i64 0)::und 39):List AV).getD k_ AV.undef) h1 y_h1 (Has.refl _) (Nat.le_refl _) (.inl ⟨rfl,rfl⟩) (Nat.zero_le _)
   rw[zs_len] at ln9
   have y_h6:=G_h6.y
   have m_h6:h1.nx≤h6.nx:=G_h6.n
   have a_h6:Has h h6:=a_h1.trans G_h6.a
   have ev:=pk (d+11) w_Late_body ((AV.agg [p.quantitiesV,p.measuresV,p.alarmsV])::und 57) h .ret h6 (NN n_h1 (fun i=>(AV.ptr i 0))<|CN 2<|MM (lown 26 0 (AV.agg [p.quantitiesV,p.measuresV,p.alarmsV]) g_h1 k!)<|EE k2<|CN 2<|VV (ineq 29 false true .i64 (w_Check p) 0)<|BB f0<|CN 2<|MM (lown 24 2 p.alarmsV g_h1 k!)<|VV ln4<|CC<|LL ev_yl5<|CN 3<|ZZ) k!
   have e:w_Late p=((w_Late_l0 p p.alarms.length 0 ([])),0):=by simp only[w_Late,f0,cond_true,cond_false]
   rw[e]
   have oz:=OwnC.le (h0:=h) oz8 o!
   exact ⟨zo7,callP_grow rfl (fn_of Tryz.func8 w_Late_B k! (.inr rfl) ev k!) y_h ⟨y_h6,a_h6,by omega⟩ (P:=fun hh=>ZsAt hh 3 zo7 (w_Late_l0 p p.alarms.length 0 ([]))) (oz.zs o! k! k!) fun v=>oz.zback (within1 v) k! k!⟩
noncomputable def l_WatchTimes_body:Code:=(Tryz.f3.body).getD .skip
theorem l_WatchTimes_B:Tryz.f3.body=some l_WatchTimes_body:=by kernel_rfl
def l_WatchTimes (p:Plan) (n:Int):Bool:=(bif (l_vast p) then true else (bif (!decide (((w_Response p n).1)=((r_Response p n).1))) then false else (bif (!decide (((w_Response p n).2)=((r_Response p n).2))) then false else (bif (decide (((w_Late p).2)=((r_Late p).2))) then (bif (l_ints ((w_Late p).1) ((r_Late p).1)) then true else false) else false))))
theorem l_WatchTimes_c {d:Nat} {h:Heap} (p:Plan) (n:Int) (h_p:RowT.ok h p) (y_h:Tidy h):cal (d+13) (.fn 3) [(AV.agg [p.quantitiesV,p.measuresV,p.alarmsV]),(AV.int .i64 n)] h= .ret (AV.bool (l_WatchTimes p n)) h:=by
 have s_h_p_1:=h_p.1.small
 have s_h_p_2_1:=h_p.2.1.small
 have s_h_p_2_2:=h_p.2.2.small
 rcases Bool.eq_false_or_eq_true (l_vast p) with f0 | f0
 · obtain ⟨h1,n_h1,y_h1,z_h1,g_h1,b_h1⟩:=nwB y_h (AObj.cells [p.quantitiesV,p.measuresV,p.alarmsV] 26 false)
   have a_h1:Has h h1:=b_h1
   have k2:=l_vast_c (d:=d+11) p (RowT.mono a_h1 h_p) y_h1
   have k4:(cal (d+12)) (.fn 5) [] h1= .ret (.bool true) h1:=rfl
   have ev:=pk (d+12) l_WatchTimes_body ((AV.agg [p.quantitiesV,p.measuresV,p.alarmsV])::(AV.int .i64 n)::und 53) h .ret h1 (NN n_h1 (fun i=>(AV.ptr i 0))<|CC<|MM (lown 26 0 (AV.agg [p.quantitiesV,p.measuresV,p.alarmsV]) g_h1 k!)<|EE k2<|BB f0<|EE k4<|CC<|ZZ) k!
   have e:l_WatchTimes p n=true:=by simp only[l_WatchTimes,f0,cond_true,cond_false]
   rw[e]
   exact callP_pure rfl (fn_of Tryz.func3 l_WatchTimes_B k! (.inr rfl) ev k!) a_h1 rfl
 · rcases Bool.eq_false_or_eq_true (!decide (((w_Response p n).1)=((r_Response p n).1))) with f1 | f1
   · have n_f1:=nT_ f1
     obtain ⟨h1,n_h1,y_h1,z_h1,g_h1,b_h1⟩:=nwB y_h (AObj.cells [p.quantitiesV,p.measuresV,p.alarmsV] 26 false)
     have a_h1:Has h h1:=b_h1
     have k2:=l_vast_c (d:=d+11) p (RowT.mono a_h1 h_p) y_h1
     have k4:=w_Response_c (d:=d) p n (RowT.mono a_h1 h_p) y_h1
     have k5:=r_Response_c (d:=d+7) p n (RowT.mono a_h1 h_p) y_h1
     have ev:=pk (d+12) l_WatchTimes_body ((AV.agg [p.quantitiesV,p.measuresV,p.alarmsV])::(AV.int .i64 n)::und 53) h .ret h1 (NN n_h1 (fun i=>(AV.ptr i 0))<|CC<|MM (lown 26 0 (AV.agg [p.quantitiesV,p.measuresV,p.alarmsV]) g_h1 k!)<|EE k2<|BB f0<|MM (lown 26 0 (AV.agg [p.quantitiesV,p.measuresV,p.alarmsV]) g_h1 k!)<|CC<|EE k4<|CN 5<|MM (lown 26 0 (AV.agg [p.quantitiesV,p.measuresV,p.alarmsV]) g_h1 k!)<|CC<|EE k5<|CN 7<|VV (ineq 3 false false .i64 ((w_Response p n).1) ((r_Response p n).1))<|CC<|BB f1<|BB f1<|BB f1<|VV (pick_t (a:=some (AV.bool true)) (b:=some AV.undef) f1)<|TT<|CC<|ZZ) k!
     have e:l_WatchTimes p n=false:=by simp only[l_WatchTimes,f0,f1,cond_true,cond_false]
     rw[e]
     exact callP_pure rfl (fn_of Tryz.func3 l_WatchTimes_B k! (.inr rfl) ev k!) a_h1 rfl
   · have n_f1:=nF_ f1
     rcases Bool.eq_false_or_eq_true (!decide (((w_Response p n).2)=((r_Response p n).2))) with f2 | f2
     · have n_f2:=nT_ f2
       obtain ⟨h1,n_h1,y_h1,z_h1,g_h1,b_h1⟩:=nwB y_h (AObj.cells [p.quantitiesV,p.measuresV,p.alarmsV] 26 false)
       have a_h1:Has h h1:=b_h1
       have k2:=l_vast_c (d:=d+11) p (RowT.mono a_h1 h_p) y_h1
       have k4:=w_Response_c (d:=d) p n (RowT.mono a_h1 h_p) y_h1
       have k5:=r_Response_c (d:=d+7) p n (RowT.mono a_h1 h_p) y_h1
       have ev:=pk (d+12) l_WatchTimes_body ((AV.agg [p.quantitiesV,p.measuresV,p.alarmsV])::(AV.int .i64 n)::und 53) h .ret h1 (NN n_h1 (fun i=>(AV.ptr i 0))<|CC<|MM (lown 26 0 (AV.agg [p.quantitiesV,p.measuresV,p.alarmsV]) g_h1 k!)<|EE k2<|BB f0<|MM (lown 26 0 (AV.agg [p.quantitiesV,p.measuresV,p.alarmsV]) g_h1 k!)<|CC<|EE k4<|CN 5<|MM (lown 26 0 (AV.agg [p.quantitiesV,p.measuresV,p.alarmsV]) g_h1 k!)<|CC<|EE k5<|CN 7<|VV (ineq 3 false false .i64 ((w_Response p n).1) ((r_Response p n).1))<|CC<|BB f1<|CC<|BB f1<|CC<|BB f1<|VV (ineq 29 false false .i64 ((w_Response p n).2) ((r_Response p n).2))<|VV (pick_f (a:=some (AV.bool true)) (b:=some (AV.bool (!decide (((w_Response p n).2)=((r_Response p n).2))))) f1)<|BB f2<|CC<|ZZ) k!
       have e:l_WatchTimes p n=false:=by simp only[l_WatchTimes,f0,f1,f2,cond_true,cond_false]
       rw[e]
       exact callP_pure rfl (fn_of Tryz.func3 l_WatchTimes_B k! (.inr rfl) ev k!) a_h1 rfl
     · have n_f2:=nF_ f2
       rcases Bool.eq_false_or_eq_true (decide (((w_Late p).2)=((r_Late p).2))) with f3 | f3
       · have n_f3:=of_decide_eq_true f3
         rcases Bool.eq_false_or_eq_true (l_ints ((w_Late p).1) ((r_Late p).1)) with f4 | f4
         · obtain ⟨h1,n_h1,y_h1,z_h1,g_h1,b_h1⟩:=nwB y_h (AObj.cells [p.quantitiesV,p.measuresV,p.alarmsV] 26 false)
           have a_h1:Has h h1:=b_h1
           have k2:=l_vast_c (d:=d+11) p (RowT.mono a_h1 h_p) y_h1
           have k4:=w_Response_c (d:=d) p n (RowT.mono a_h1 h_p) y_h1
           have k5:=r_Response_c (d:=d+7) p n (RowT.mono a_h1 h_p) y_h1
           obtain ⟨z8,h10,k_h10,G_h10,fz9⟩:=w_Late_c (d:=d) p (RowT.mono a_h1 h_p) y_h1
           have y_h10:=G_h10.y
           have m_h10:h1.nx≤h10.nx:=G_h10.n
           have a_h10:Has h h10:=a_h1.trans G_h10.a
           have s_fz9:=fz9.small
           obtain ⟨z11,h13,k_h13,G_h13,fz12⟩:=r_Late_c (d:=d+7) p (RowT.mono a_h10 h_p) y_h10
           have y_h13:=G_h13.y
           have m_h13:h10.nx≤h13.nx:=G_h13.n
           have a_h13:Has h h13:=a_h10.trans G_h13.a
           have a_h10_h13:Has h10 h13:=G_h13.a
           have s_fz12:=fz12.small
           have k15:=l_ints_c (d:=d+11) ((w_Late p).1) ((r_Late p).1) (fz9.has a_h10_h13) fz12 y_h13
           have k17:(cal (d+12)) (.fn 5) [] h13= .ret (.bool true) h13:=rfl
           have ev:=pk (d+12) l_WatchTimes_body ((AV.agg [p.quantitiesV,p.measuresV,p.alarmsV])::(AV.int .i64 n)::und 53) h .ret h13 (NN n_h1 (fun i=>(AV.ptr i 0))<|CC<|MM (lown 26 0 (AV.agg [p.quantitiesV,p.measuresV,p.alarmsV]) g_h1 k!)<|EE k2<|BB f0<|MM (lown 26 0 (AV.agg [p.quantitiesV,p.measuresV,p.alarmsV]) g_h1 k!)<|CC<|EE k4<|CN 5<|MM (lown 26 0 (AV.agg [p.quantitiesV,p.measuresV,p.alarmsV]) g_h1 k!)<|CC<|EE k5<|CN 7<|VV (ineq 3 false false .i64 ((w_Response p n).1) ((r_Response p n).1))<|CC<|BB f1<|CC<|BB f1<|CC<|BB f1<|VV (ineq 29 false false .i64 ((w_Response p n).2) ((r_Response p n).2))<|VV (pick_f (a:=some (AV.bool true)) (b:=some (AV.bool (!decide (((w_Response p n).2)=((r_Response p n).2))))) f1)<|BB f2<|MM (lown 26 0 (AV.agg [p.quantitiesV,p.measuresV,p.alarmsV]) g_h1 k!)<|EE k_h10<|CN 5<|MM (lown 26 0 (AV.agg [p.quantitiesV,p.measuresV,p.alarmsV]) (G_h10.a _ _ g_h1) k!)<|EE k_h13<|CN 7<|VV (ieql 29 false false .i64 ((w_Late p).2) ((r_Late p).2))<|CC<|BB f3<|CC<|BB f3<|CC<|BB f3<|EE k15<|VV (pick_t (a:=some (AV.bool (l_ints ((w_Late p).1) ((r_Late p).1)))) (b:=some (AV.bool false)) f3)<|CC<|BB f4<|EE k17<|VV (pick_t (a:=some (AV.bool true)) (b:=some (AV.bool false)) f4)<|CC<|ZZ) k!
           have e:l_WatchTimes p n=true:=by simp only[l_WatchTimes,f0,f1,f2,f3,f4,cond_true,cond_false]
           rw[e]
           exact callP_pure rfl (fn_of Tryz.func3 l_WatchTimes_B k! (.inr rfl) ev k!) a_h13 rfl
         · obtain ⟨h1,n_h1,y_h1,z_h1,g_h1,b_h1⟩:=nwB y_h (AObj.cells [p.quantitiesV,p.measuresV,p.alarmsV] 26 false)
           have a_h1:Has h h1:=b_h1
           have k2:=l_vast_c (d:=d+11) p (RowT.mono a_h1 h_p) y_h1
           have k4:=w_Response_c (d:=d) p n (RowT.mono a_h1 h_p) y_h1
           have k5:=r_Response_c (d:=d+7) p n (RowT.mono a_h1 h_p) y_h1
           obtain ⟨z8,h10,k_h10,G_h10,fz9⟩:=w_Late_c (d:=d) p (RowT.mono a_h1 h_p) y_h1
           have y_h10:=G_h10.y
           have m_h10:h1.nx≤h10.nx:=G_h10.n
           have a_h10:Has h h10:=a_h1.trans G_h10.a
           have s_fz9:=fz9.small
           obtain ⟨z11,h13,k_h13,G_h13,fz12⟩:=r_Late_c (d:=d+7) p (RowT.mono a_h10 h_p) y_h10
           have y_h13:=G_h13.y
           have m_h13:h10.nx≤h13.nx:=G_h13.n
           have a_h13:Has h h13:=a_h10.trans G_h13.a
           have a_h10_h13:Has h10 h13:=G_h13.a
           have s_fz12:=fz12.small
           have k15:=l_ints_c (d:=d+11) ((w_Late p).1) ((r_Late p).1) (fz9.has a_h10_h13) fz12 y_h13
           have ev:=pk (d+12) l_WatchTimes_body ((AV.agg [p.quantitiesV,p.measuresV,p.alarmsV])::(AV.int .i64 n)::und 53) h .ret h13 (NN n_h1 (fun i=>(AV.ptr i 0))<|CC<|MM (lown 26 0 (AV.agg [p.quantitiesV,p.measuresV,p.alarmsV]) g_h1 k!)<|EE k2<|BB f0<|MM (lown 26 0 (AV.agg [p.quantitiesV,p.measuresV,p.alarmsV]) g_h1 k!)<|CC<|EE k4<|CN 5<|MM (lown 26 0 (AV.agg [p.quantitiesV,p.measuresV,p.alarmsV]) g_h1 k!)<|CC<|EE k5<|CN 7<|VV (ineq 3 false false .i64 ((w_Response p n).1) ((r_Response p n).1))<|CC<|BB f1<|CC<|BB f1<|CC<|BB f1<|VV (ineq 29 false false .i64 ((w_Response p n).2) ((r_Response p n).2))<|VV (pick_f (a:=some (AV.bool true)) (b:=some (AV.bool (!decide (((w_Response p n).2)=((r_Response p n).2))))) f1)<|BB f2<|MM (lown 26 0 (AV.agg [p.quantitiesV,p.measuresV,p.alarmsV]) g_h1 k!)<|EE k_h10<|CN 5<|MM (lown 26 0 (AV.agg [p.quantitiesV,p.measuresV,p.alarmsV]) (G_h10.a _ _ g_h1) k!)<|EE k_h13<|CN 7<|VV (ieql 29 false false .i64 ((w_Late p).2) ((r_Late p).2))<|CC<|BB f3<|CC<|BB f3<|CC<|BB f3<|EE k15<|VV (pick_t (a:=some (AV.bool (l_ints ((w_Late p).1) ((r_Late p).1)))) (b:=some (AV.bool false)) f3)<|CC<|BB f4<|VV (pick_f (a:=some AV.undef) (b:=some (AV.bool false)) f4)<|CC<|ZZ) k!
           have e:l_WatchTimes p n=false:=by simp only[l_WatchTimes,f0,f1,f2,f3,f4,cond_true,cond_false]
           rw[e]
           exact callP_pure rfl (fn_of Tryz.func3 l_WatchTimes_B k! (.inr rfl) ev k!) a_h13 rfl
       · have n_f3:=of_decide_eq_false f3
         obtain ⟨h1,n_h1,y_h1,z_h1,g_h1,b_h1⟩:=nwB y_h (AObj.cells [p.quantitiesV,p.measuresV,p.alarmsV] 26 false)
         have a_h1:Has h h1:=b_h1
         have k2:=l_vast_c (d:=d+11) p (RowT.mono a_h1 h_p) y_h1
         have k4:=w_Response_c (d:=d) p n (RowT.mono a_h1 h_p) y_h1
         have k5:=r_Response_c (d:=d+7) p n (RowT.mono a_h1 h_p) y_h1
         obtain ⟨z8,h10,k_h10,G_h10,fz9⟩:=w_Late_c (d:=d) p (RowT.mono a_h1 h_p) y_h1
         have y_h10:=G_h10.y
         have m_h10:h1.nx≤h10.nx:=G_h10.n
         have a_h10:Has h h10:=a_h1.trans G_h10.a
         have s_fz9:=fz9.small
         obtain ⟨z11,h13,k_h13,G_h13,fz12⟩:=r_Late_c (d:=d+7) p (RowT.mono a_h10 h_p) y_h10
         have y_h13:=G_h13.y
         have m_h13:h10.nx≤h13.nx:=G_h13.n
         have a_h13:Has h h13:=a_h10.trans G_h13.a
         have a_h10_h13:Has h10 h13:=G_h13.a
         have s_fz12:=fz12.small
         have ev:=pk (d+12) l_WatchTimes_body ((AV.agg [p.quantitiesV,p.measuresV,p.alarmsV])::(AV.int .i64 n)::und 53) h .ret h13 (NN n_h1 (fun i=>(AV.ptr i 0))<|CC<|MM (lown 26 0 (AV.agg [p.quantitiesV,p.measuresV,p.alarmsV]) g_h1 k!)<|EE k2<|BB f0<|MM (lown 26 0 (AV.agg [p.quantitiesV,p.measuresV,p.alarmsV]) g_h1 k!)<|CC<|EE k4<|CN 5<|MM (lown 26 0 (AV.agg [p.quantitiesV,p.measuresV,p.alarmsV]) g_h1 k!)<|CC<|EE k5<|CN 7<|VV (ineq 3 false false .i64 ((w_Response p n).1) ((r_Response p n).1))<|CC<|BB f1<|CC<|BB f1<|CC<|BB f1<|VV (ineq 29 false false .i64 ((w_Response p n).2) ((r_Response p n).2))<|VV (pick_f (a:=some (AV.bool true)) (b:=some (AV.bool (!decide (((w_Response p n).2)=((r_Response p n).2))))) f1)<|BB f2<|MM (lown 26 0 (AV.agg [p.quantitiesV,p.measuresV,p.alarmsV]) g_h1 k!)<|EE k_h10<|CN 5<|MM (lown 26 0 (AV.agg [p.quantitiesV,p.measuresV,p.alarmsV]) (G_h10.a _ _ g_h1) k!)<|EE k_h13<|CN 7<|VV (ieql 29 false false .i64 ((w_Late p).2) ((r_Late p).2))<|CC<|BB f3<|BB f3<|BB f3<|VV (pick_f (a:=some AV.undef) (b:=some (AV.bool false)) f3)<|CC<|FF<|CN 2<|ZZ) k!
         have e:l_WatchTimes p n=false:=by simp only[l_WatchTimes,f0,f1,f2,f3,cond_true,cond_false]
         rw[e]
         exact callP_pure rfl (fn_of Tryz.func3 l_WatchTimes_B k! (.inr rfl) ev k!) a_h13 rfl
theorem late_l0 {p:Plan} (f:Fine p):∀(k i:Nat) (v:List Int),i+k=p.alarms.length→w_Late_l0 p k i v=r_Late_l0 p k i v
 | 0,_,_,_=>rfl
 | k+1,i,v,h=>by
   obtain ⟨_,a1,a2⟩:=f.alarm (show i<p.alarms.length by omega)
   rw[w_Late_l0,r_Late_l0,resp_eq f a1 a2,late_l0 f k (i+1) _ (by omega),late_l0 f k (i+1) v (by omega)]
theorem Late_eq (p:Plan):w_Late p=r_Late p:=by
 unfold w_Late r_Late
 rw[←Check_eq]
 by_cases h:w_Check p=0
 · rw[late_l0 (Check_ok h) _ _ _ (by omega)]
 · rw[decide_eq_false h];rfl
theorem ints_l0 (a:List Int):∀(k i:Nat),l_ints_l0 a a k i=none
 | 0,_=>rfl
 | k+1,i=>by
   rw[l_ints_l0,decide_eq_true rfl];exact ints_l0 a k (i+1)
theorem ints_self (a:List Int):l_ints a a=true:=by
 unfold l_ints
 rw[ints_l0,decide_eq_true rfl];rfl
theorem law_true (p:Plan) (n:Int):l_WatchTimes p n=true:=by
 unfold l_WatchTimes
 rw[Response_eq,Late_eq,ints_self,decide_eq_true rfl,decide_eq_true rfl,decide_eq_true rfl]
 cases l_vast p<;>rfl
open Go.ChangeShapes Go.WideShapes Go.RowKit
structure Gx (φ φ':Ph) (h h':Heap) (w:World):Prop where
 ok:OK env φ' h' w
 le:φ.le φ'
 ro:AllRo h'
 has:Has h h'
 nx:h.nx≤h'.nx
 tidy:Tidy h'
theorem Gx.refl {φ:Ph} {h:Heap} {w:World} (ok:OK env φ h w) (ro:AllRo h) (y:Tidy h):Gx φ φ h h w:=⟨ok,Ph.le_refl _,ro,Has.refl _,Nat.le_refl _,y⟩
theorem Gx.trans {a b c:Ph} {h1 h2 h3:Heap} {w:World} (x:Gx a b h1 h2 w) (y:Gx b c h2 h3 w):Gx a c h1 h3 w:=⟨y.ok,Ph.le_trans x.le y.le,y.ro,x.has.trans y.has,Nat.le_trans x.nx y.nx,y.tidy⟩
section
variable {H:Type} (enc:TypeId×Value→H) (w:World) (base:Nat) (spare:Nat→Bool) (held:Bool)
def Small (t:TypeId) (d:DataW H):Prop:=(DataW.weights env.P t d).all (· ≤reachBytes)=true
theorem Small.all {e:TypeId}:∀{l:List (DataW H)},(DataW.weightsAll env.P e l).all (· ≤reachBytes)=true→∀d∈l,Small e d
 | [],_,d,hd=>by cases hd
 | x::l,h,d,hd=>by
   rw[DataW.weightsAll,List.all_append,Bool.and_eq_true] at h
   rcases List.mem_cons.1 hd with rfl | hd
   · exact h.1
   · exact Small.all h.2 d hd
theorem Small.struct {t:TypeId} {fs:Array Field} {parts:List (DataW H)} (ht:env.P.underlying t=some (.struct fs)) (h:Small t (.agg parts)):(DataW.weightsEach env.P (fs.toList.map (·.type)) parts).all (· ≤reachBytes)=true:=by
 unfold Small at h
 rw[DataW.weights,ht] at h
 exact h
theorem Small.uncons {t:TypeId} {ts:List TypeId} {d:DataW H} {ds:List (DataW H)} (h:(DataW.weightsEach env.P (t::ts) (d::ds)).all (· ≤reachBytes)=true):Small t d∧(DataW.weightsEach env.P ts ds).all (· ≤reachBytes)=true:=by
 rw[DataW.weightsEach,List.all_append,Bool.and_eq_true] at h
 exact h
theorem reach60 {n:Nat} (h:n≤reachBytes):n<2^60:=Nat.lt_of_le_of_lt h (by unfold reachBytes;decide)
theorem RowsAt.nomap {α:Type} [RowT α] {h:Heap} {v:AV} {l:List α} {m:Nat} (x:RowsAt h v l) (e:AV.map m=v):False:=by
 rcases x.known with rfl | rfl | ⟨p,o,n,c,b,rfl,_⟩<;>cases e
def Opens {D:Type} (t:TypeId) (sz:Nat) (c:D→List AV) (ok:Heap→D→Prop):Prop:=
 ∀(φ:Ph) (h:Heap),OK env φ h w→AllRo h→Tidy h→∀(cs:List Value) (y:DataW H×List MemPlace) (n:Nat),cs.length=sz→Small t y.1→DataW.trod enc env.P w base spare held n t cs=some y→
  ∃φ' h' x,Gx φ φ' h h' w∧LR φ' (c x) cs∧ok h' x
variable {enc w base spare held}
theorem opens_int {k:IntKind} {t:TypeId} (ht:env.P.underlying t=some (.int k)):Opens enc w base spare held t 1 (fun x:Int=> [.int k x]) (fun _ _=>True):=fun φ h ok ro y cs z n _ hw hv=>by
 obtain ⟨m,rfl,_,_⟩:=DataW.trod_int ht hv
 exact ⟨φ,h,m,Gx.refl ok ro y,LR.cons (VR.int k m) (LR.nil _),trivial⟩
theorem opens_str {t:TypeId} (ht:env.P.underlying t=some .string):Opens enc w base spare held t 1 (fun x:List UInt8=> [.str x]) (fun _ x=>x.length<2^60):=fun φ h ok ro y cs z n _ hw hv=>by
 obtain ⟨s,rfl,rfl,hs⟩:=DataW.trod_string ht hv
 refine ⟨φ,h,s.data.toList,Gx.refl ok ro y,LR.cons (VR.str s) (LR.nil _),?_⟩
 unfold Small at hw
 rw[DataW.weights,List.all_cons,Bool.and_eq_true] at hw
 exact reach60 (of_decide_eq_true hw.1)
theorem opens_slice {α:Type} [RowT α] {t:TypeId} (ht:env.P.underlying t=some (.slice (RowT.e α))) (hs:env.P.cellsOf (RowT.e α)=RowT.n α) (hby:0<env.P.bytesOf (RowT.e α)) (hm:∀(h:Heap) (x:α) m,RowT.ok h x→AV.map m ∉ RowT.c x)
 (he:Opens enc w base spare held (RowT.e α) (RowT.n α) (RowT.c (α:=α)) RowT.ok):Opens enc w base spare held t 1 (fun x:AV×List α=> [x.1]) (fun h x=>RowsAt h x.1 x.2):=fun φ h ok ro y cs z fuel _ hw hv=>by
 have hs0:=RowT.pos (α:=α)
 rcases DataW.trod_slice ht hv with ⟨rfl,_⟩ | ⟨a,len,cap,elems,rest,n,_,rfl,rfl,hb,hlc,hcm,hel',hget,_,_⟩
 · exact ⟨φ,h,(.nilslice,[]),Gx.refl ok ro y,LR.cons VR.nilslice (LR.nil _),⟨RowT.size,(Nat.zero_mul _).symm,Nat.pow_pos (by decide),rfl,.inl rfl⟩,.inl rfl,fun x hx=>by cases hx⟩
 rcases Nat.eq_zero_or_pos len with h0 | h0
 · subst h0
   exact ⟨φ,h,(.zslice,[]),Gx.refl ok ro y,LR.cons (VR.zslice a cap) (LR.nil _),⟨RowT.size,(Nat.zero_mul _).symm,Nat.pow_pos (by decide),rfl,.inl rfl⟩,.inr (.inl rfl),fun x hx=>by cases hx⟩
 have hw1:len<2^60∧(DataW.weightsAll env.P (RowT.e α) (elems.map (·.1))).all (· ≤reachBytes)=true:=by
  unfold Small at hw
  rw[DataW.weights,ht] at hw
  simp only[List.all_cons,List.all_append,Bool.and_eq_true,List.length_map] at hw
  refine ⟨reach60 (Nat.le_trans ?_ (of_decide_eq_true hw.1)),hw.2.1⟩
  rw[hel']
  exact Nat.le_trans (Nat.le_add_right _ _) (Nat.le_mul_of_pos_right _ hby)
 have all:∀m,m≤len→∃(φ':Ph) (h':Heap) (xs:List α),Gx φ φ' h h' w∧xs.length=m∧(∀x∈xs,RowT.ok h' x)∧∀(i:Nat) (x:α),xs[i]? =some x→∀j v,(RowT.c x)[j]? =some v→∃y,w.cell? ((a.add (i*RowT.n α)).add j)=some y∧VR φ' v y:=by
  intro m
  induction m with
  | zero=>exact fun _=>⟨φ,h,[],Gx.refl ok ro y,rfl,fun _ hx=>(by cases hx),fun i xi hx=>(by simp at hx)⟩
  | succ m ih=>
    intro hm'
    obtain ⟨φ1,h1,xs,g1,hl,hq,hx⟩:=ih (by omega)
    have h2:=hget m (by omega)
    rw[List.getElem?_eq_getElem (by omega),hs] at h2
    simp only[Option.bind_eq_some_iff] at h2
    obtain ⟨ci,hc1,hc2⟩:=h2
    obtain ⟨_,hl2,hcell⟩:=World.cells?_some hc1
    obtain ⟨φ2,h2,x,g2,hlr,hok⟩:=he φ1 h1 g1.ok g1.ro g1.tidy ci _ n hl2 (Small.all hw1.2 _ (List.mem_map.2 ⟨_,List.getElem_mem _,rfl⟩)) hc2
    refine ⟨φ2,h2,xs++[x],g1.trans g2,by simp [hl],fun z hz=>?_,fun i z hz=>?_⟩
    · rcases List.mem_append.1 hz with h | h
      · exact RowT.mono g2.has (hq z h)
      · simp at h;subst h;exact hok
    · by_cases hi:i<xs.length
      · rw[List.getElem?_append_left hi] at hz
        intro j v hj
        obtain ⟨q,e1,e2⟩:=hx i z hz j v hj
        exact ⟨q,e1,e2.mono g2.le⟩
      · rw[List.getElem?_append_right (by omega)] at hz
        have:i - xs.length=0:=by
         have:=(List.getElem?_eq_some_iff.1 hz).1
         simp at this;omega
        rw[this] at hz
        simp at hz;subst hz
        have:i=m:=by omega
        subst this
        intro j v hj
        have hj':j<(RowT.c x).length:=(List.getElem?_eq_some_iff.1 hj).1
        have hj2:j<ci.length:=by rw[←hlr.1];exact hj'
        exact ⟨ci[j],by rw[hcell j (by rw[hl2] at hj2;exact hj2),List.getElem?_eq_getElem hj2],hlr.2 j v _ hj (List.getElem?_eq_getElem hj2)⟩
 obtain ⟨φ1,h1,xs,g1,hl,hq,hx⟩:=all len (Nat.le_refl _)
 have hfl:=flatMap_len RowT.len xs
 have hspot:a.spot=none:=by
  have hx0:xs[0]? =some (xs[0]'(by omega)):=List.getElem?_eq_getElem (by omega)
  obtain ⟨y,hy,_⟩:=hx 0 _ hx0 0 ((RowT.c (xs[0]'(by omega)))[0]'(by rw[RowT.len];exact hs0)) (List.getElem?_eq_getElem _)
  simp only[Nat.zero_mul,Addr.add,if_true] at hy
  unfold World.cell? at hy
  split at hy
  · cases hsp:a.spot with
    | none=>rfl
    | some _=>rw[hsp] at hy;simp at hy
  · cases hy
 have haddr:∀i j,(a.add (i*RowT.n α)).add j=⟨a.block,a.off+(i*RowT.n α+j),none⟩:=by
  intro i j
  obtain ⟨b,o,sp⟩:=a
  simp only at hspot
  subst hspot
  unfold Addr.add
  by_cases h1:i*RowT.n α=0<;>by_cases h2:j=0<;>simp [h1,h2,Nat.add_assoc]
 have hne:xs.flatMap RowT.c≠ []:=by
  intro e
  have:=congrArg List.length e
  rw[hfl,hl] at this
  have:=Nat.mul_pos h0 hs0
  simp at *
  omega
 obtain ⟨h',hn,ok',hle,hro',hnx',hg,hold,hself⟩:=g1.ok.show g1.ro (b:=a.block) (off:=a.off) (e:=RowT.e α) hne (fun m hm'=>by
  have:AV.map m∈xs.flatMap RowT.c:=by rw[hm'];simp
  obtain ⟨z,hz,hmz⟩:=List.mem_flatMap.1 this
  exact hm h1 z m (hq z hz) hmz) (fun k v hk=>by
  have hk':k<(xs.flatMap RowT.c).length:=(List.getElem?_eq_some_iff.1 hk).1
  have hdm:k/RowT.n α*RowT.n α+k%RowT.n α=k:=by rw[Nat.mul_comm];exact Nat.div_add_mod k _
  have hi:k/RowT.n α<xs.length:=by
   rw[hfl] at hk'
   exact (Nat.div_lt_iff_lt_mul hs0).2 hk'
  have hk2:=hk
  rw[←hdm,flatMap_get RowT.len _ _ _ hi (Nat.mod_lt _ hs0)] at hk2
  have hgi:xs[k/RowT.n α]? =some (xs.g (k/RowT.n α)):=by
   rw[List.g,List.getD_eq_getElem?_getD,List.getElem?_eq_getElem hi];rfl
  obtain ⟨y,hy,hvr⟩:=hx _ _ hgi _ v hk2
  rw[haddr,hdm] at hy
  exact ⟨y,hy,hvr⟩)
 have hVR:=VR.slice (φ:=φ1.add h1.nx ⟨a.block,a.off,0⟩) 0 len cap false hself
 have has:Has h1 h':=new_has g1.tidy hn
 refine ⟨_,h',(.slice h1.nx 0 len cap false,xs),g1.trans ⟨ok',hle,hro',has,by omega,new_tidy g1.tidy hn⟩,LR.cons ?_ (LR.nil _),?_⟩
 · obtain ⟨b,o,sp⟩:=a
   simp only at hspot
   subst hspot
   exact hVR
 · subst hl
   exact ⟨⟨RowT.size,hfl,hw1.1,rfl,.inr ⟨h1.nx,0,_,cap,false,_,_,true,rfl,hlc,hg,fun j _=>by rw[Nat.zero_add]⟩⟩,.inr (.inr ⟨_,_,_,_,_,rfl,fun e=>by cases e⟩),fun x hx=>RowT.mono has (hq x hx)⟩
end
open Go.ChangeShapes Go.WideShapes Go.RowKit
section
variable {H:Type} {enc:TypeId×Value→H} {w:World} {base:Nat} {spare:Nat→Bool} {held:Bool}
theorem cells_9:Tryz.prog.cellsOf 9=1:=by kernel_rfl
theorem cells_3:Tryz.prog.cellsOf 3=1:=by kernel_rfl
theorem cells_38:Tryz.prog.cellsOf 38=2:=by kernel_rfl
theorem opens38:Opens enc w base spare held 38 2 (fun x:Int×Int=> [.int .i64 x.1,.int .i64 x.2]) (fun _ _=>True):=fun φ h0 ok ro ty cs z fuel hl hw hv=>by
 obtain ⟨xs,n,_,rfl,_,hxs,hf⟩:=DataW.trod_struct Tryz.underlying38 hv
 obtain ⟨c0,c1,rfl⟩:∃c0 c1,cs=[c0,c1]:=by
  match cs,hl with
  | [c0,c1],_=>exact ⟨_,_,rfl⟩
 obtain ⟨y0,y1,rfl⟩:∃y0 y1,xs=[y0,y1]:=by
  match xs,hxs with
  | [y0,y1],_=>exact ⟨_,_,rfl⟩
 have hs:=Small.struct Tryz.underlying38 hw
 obtain ⟨s0,hs⟩:=Small.uncons hs
 have q0:DataW.trod enc Tryz.prog w base spare held n 3 [c0]=some y0:=by simpa [cells_3] using hf 0 _ rfl
 obtain ⟨φ1,h1,x0,g0,l0,o0⟩:=opens_int (t:=3) Tryz.underlying3 _ _ (Gx.refl ok ro ty).ok (Gx.refl ok ro ty).ro (Gx.refl ok ro ty).tidy _ _ _ rfl s0 q0
 have G0:=Gx.trans (Gx.refl ok ro ty) g0
 obtain ⟨s1,hs⟩:=Small.uncons hs
 have q1:DataW.trod enc Tryz.prog w base spare held n 3 [c1]=some y1:=by simpa [cells_3] using hf 1 _ rfl
 obtain ⟨φ2,h2,x1,g1,l1,o1⟩:=opens_int (t:=3) Tryz.underlying3 _ _ G0.ok G0.ro G0.tidy _ _ _ rfl s1 q1
 have G1:=Gx.trans G0 g1
 have L0:=LR.mono (Ph.le_trans (Ph.le_refl _) g1.le) l0
 have L1:=LR.mono (Ph.le_refl _) l1
 exact ⟨_,_,(x0,x1),G1,(LR.append L0 (LR.append L1 (LR.nil _))),trivial⟩
theorem cells_61:Tryz.prog.cellsOf 61=4:=by kernel_rfl
theorem opens61:Opens enc w base spare held 61 4 (RowT.c (α:=Gauge)) RowT.ok:=fun φ h0 ok ro ty cs z fuel hl hw hv=>by
 obtain ⟨xs,n,_,rfl,_,hxs,hf⟩:=DataW.trod_struct Tryz.underlying61 hv
 obtain ⟨c0,c1,c2,c3,rfl⟩:∃c0 c1 c2 c3,cs=[c0,c1,c2,c3]:=by
  match cs,hl with
  | [c0,c1,c2,c3],_=>exact ⟨_,_,_,_,rfl⟩
 obtain ⟨y0,y1,y2,y3,rfl⟩:∃y0 y1 y2 y3,xs=[y0,y1,y2,y3]:=by
  match xs,hxs with
  | [y0,y1,y2,y3],_=>exact ⟨_,_,_,_,rfl⟩
 have hs:=Small.struct Tryz.underlying61 hw
 obtain ⟨s0,hs⟩:=Small.uncons hs
 have q0:DataW.trod enc Tryz.prog w base spare held n 9 [c0]=some y0:=by simpa [cells_9] using hf 0 _ rfl
 obtain ⟨φ1,h1,x0,g0,l0,o0⟩:=opens_str (t:=9) Tryz.underlying9 _ _ (Gx.refl ok ro ty).ok (Gx.refl ok ro ty).ro (Gx.refl ok ro ty).tidy _ _ _ rfl s0 q0
 have G0:=Gx.trans (Gx.refl ok ro ty) g0
 obtain ⟨s1,hs⟩:=Small.uncons hs
 have q1:DataW.trod enc Tryz.prog w base spare held n 3 [c1]=some y1:=by simpa [cells_3] using hf 1 _ rfl
 obtain ⟨φ2,h2,x1,g1,l1,o1⟩:=opens_int (t:=3) Tryz.underlying3 _ _ G0.ok G0.ro G0.tidy _ _ _ rfl s1 q1
 have G1:=Gx.trans G0 g1
 obtain ⟨s2,hs⟩:=Small.uncons hs
 have q2:DataW.trod enc Tryz.prog w base spare held n 3 [c2]=some y2:=by simpa [cells_3] using hf 2 _ rfl
 obtain ⟨φ3,h3,x2,g2,l2,o2⟩:=opens_int (t:=3) Tryz.underlying3 _ _ G1.ok G1.ro G1.tidy _ _ _ rfl s2 q2
 have G2:=Gx.trans G1 g2
 obtain ⟨s3,hs⟩:=Small.uncons hs
 have q3:DataW.trod enc Tryz.prog w base spare held n 3 [c3]=some y3:=by simpa [cells_3] using hf 3 _ rfl
 obtain ⟨φ4,h4,x3,g3,l3,o3⟩:=opens_int (t:=3) Tryz.underlying3 _ _ G2.ok G2.ro G2.tidy _ _ _ rfl s3 q3
 have G3:=Gx.trans G2 g3
 have L0:=LR.mono (Ph.le_trans (Ph.le_trans (Ph.le_trans (Ph.le_refl _) g1.le) g2.le) g3.le) l0
 have L1:=LR.mono (Ph.le_trans (Ph.le_trans (Ph.le_refl _) g2.le) g3.le) l1
 have L2:=LR.mono (Ph.le_trans (Ph.le_refl _) g3.le) l2
 have L3:=LR.mono (Ph.le_refl _) l3
 exact ⟨_,_,⟨x0,x1,x2,x3⟩,G3,(LR.append L0 (LR.append L1 (LR.append L2 (LR.append L3 (LR.nil _))))),o0⟩
theorem cells_39:Tryz.prog.cellsOf 39=1:=by kernel_rfl
theorem opens39:Opens enc w base spare held 39 1 (fun x:AV×List Gauge=> [x.1]) (fun h x=>RowsAt h x.1 x.2):=opens_slice (t:=39) Tryz.underlying39 cells_61 (of_decide_eq_true (by kernel_rfl)) (fun _ x m _ h=>by cases x;simp [RowT.c,Gauge.c] at h) opens61
theorem cells_41:Tryz.prog.cellsOf 41=7:=by kernel_rfl
theorem opens41:Opens enc w base spare held 41 7 (RowT.c (α:=Quantity)) RowT.ok:=fun φ h0 ok ro ty cs z fuel hl hw hv=>by
 obtain ⟨xs,n,_,rfl,_,hxs,hf⟩:=DataW.trod_struct Tryz.underlying41 hv
 obtain ⟨c0,c1,c2,c3,c4,c5,c6,rfl⟩:∃c0 c1 c2 c3 c4 c5 c6,cs=[c0,c1,c2,c3,c4,c5,c6]:=by
  match cs,hl with
  | [c0,c1,c2,c3,c4,c5,c6],_=>exact ⟨_,_,_,_,_,_,_,rfl⟩
 obtain ⟨y0,y1,y2,y3,y4,y5,rfl⟩:∃y0 y1 y2 y3 y4 y5,xs=[y0,y1,y2,y3,y4,y5]:=by
  match xs,hxs with
  | [y0,y1,y2,y3,y4,y5],_=>exact ⟨_,_,_,_,_,_,rfl⟩
 have hs:=Small.struct Tryz.underlying41 hw
 obtain ⟨s0,hs⟩:=Small.uncons hs
 have q0:DataW.trod enc Tryz.prog w base spare held n 9 [c0]=some y0:=by simpa [cells_9] using hf 0 _ rfl
 obtain ⟨φ1,h1,x0,g0,l0,o0⟩:=opens_str (t:=9) Tryz.underlying9 _ _ (Gx.refl ok ro ty).ok (Gx.refl ok ro ty).ro (Gx.refl ok ro ty).tidy _ _ _ rfl s0 q0
 have G0:=Gx.trans (Gx.refl ok ro ty) g0
 obtain ⟨s1,hs⟩:=Small.uncons hs
 have q1:DataW.trod enc Tryz.prog w base spare held n 38 [c1,c2]=some y1:=by simpa [cells_38] using hf 1 _ rfl
 obtain ⟨φ2,h2,x1,g1,l1,o1⟩:=opens38 _ _ G0.ok G0.ro G0.tidy _ _ _ rfl s1 q1
 have G1:=Gx.trans G0 g1
 obtain ⟨s2,hs⟩:=Small.uncons hs
 have q2:DataW.trod enc Tryz.prog w base spare held n 3 [c3]=some y2:=by simpa [cells_3] using hf 2 _ rfl
 obtain ⟨φ3,h3,x2,g2,l2,o2⟩:=opens_int (t:=3) Tryz.underlying3 _ _ G1.ok G1.ro G1.tidy _ _ _ rfl s2 q2
 have G2:=Gx.trans G1 g2
 obtain ⟨s3,hs⟩:=Small.uncons hs
 have q3:DataW.trod enc Tryz.prog w base spare held n 3 [c4]=some y3:=by simpa [cells_3] using hf 3 _ rfl
 obtain ⟨φ4,h4,x3,g3,l3,o3⟩:=opens_int (t:=3) Tryz.underlying3 _ _ G2.ok G2.ro G2.tidy _ _ _ rfl s3 q3
 have G3:=Gx.trans G2 g3
 obtain ⟨s4,hs⟩:=Small.uncons hs
 have q4:DataW.trod enc Tryz.prog w base spare held n 3 [c5]=some y4:=by simpa [cells_3] using hf 4 _ rfl
 obtain ⟨φ5,h5,x4,g4,l4,o4⟩:=opens_int (t:=3) Tryz.underlying3 _ _ G3.ok G3.ro G3.tidy _ _ _ rfl s4 q4
 have G4:=Gx.trans G3 g4
 obtain ⟨s5,hs⟩:=Small.uncons hs
 have q5:DataW.trod enc Tryz.prog w base spare held n 39 [c6]=some y5:=by simpa [cells_39] using hf 5 _ rfl
 obtain ⟨φ6,h6,x5,g5,l5,o5⟩:=opens39 _ _ G4.ok G4.ro G4.tidy _ _ _ rfl s5 q5
 have G5:=Gx.trans G4 g5
 have L0:=LR.mono (Ph.le_trans (Ph.le_trans (Ph.le_trans (Ph.le_trans (Ph.le_trans (Ph.le_refl _) g1.le) g2.le) g3.le) g4.le) g5.le) l0
 have L1:=LR.mono (Ph.le_trans (Ph.le_trans (Ph.le_trans (Ph.le_trans (Ph.le_refl _) g2.le) g3.le) g4.le) g5.le) l1
 have L2:=LR.mono (Ph.le_trans (Ph.le_trans (Ph.le_trans (Ph.le_refl _) g3.le) g4.le) g5.le) l2
 have L3:=LR.mono (Ph.le_trans (Ph.le_trans (Ph.le_refl _) g4.le) g5.le) l3
 have L4:=LR.mono (Ph.le_trans (Ph.le_refl _) g5.le) l4
 have L5:=LR.mono (Ph.le_refl _) l5
 exact ⟨_,_,⟨x0,x1.1,x1.2,x2,x3,x4,x5.1,x5.2⟩,G5,(LR.append L0 (LR.append L1 (LR.append L2 (LR.append L3 (LR.append L4 (LR.append L5 (LR.nil _))))))),⟨o0,o5⟩⟩
theorem cells_22:Tryz.prog.cellsOf 22=1:=by kernel_rfl
theorem opens22:Opens enc w base spare held 22 1 (fun x:AV×List Quantity=> [x.1]) (fun h x=>RowsAt h x.1 x.2):=opens_slice (t:=22) Tryz.underlying22 cells_41 (of_decide_eq_true (by kernel_rfl)) (fun _ x m o h=>by
 simp only[RowT.c,Quantity.c,List.mem_cons,List.not_mem_nil,or_false,reduceCtorEq,false_or] at h
 exact RowsAt.nomap (o.2) h) opens41
theorem cells_43:Tryz.prog.cellsOf 43=5:=by kernel_rfl
theorem opens43:Opens enc w base spare held 43 5 (RowT.c (α:=Measure)) RowT.ok:=fun φ h0 ok ro ty cs z fuel hl hw hv=>by
 obtain ⟨xs,n,_,rfl,_,hxs,hf⟩:=DataW.trod_struct Tryz.underlying43 hv
 obtain ⟨c0,c1,c2,c3,c4,rfl⟩:∃c0 c1 c2 c3 c4,cs=[c0,c1,c2,c3,c4]:=by
  match cs,hl with
  | [c0,c1,c2,c3,c4],_=>exact ⟨_,_,_,_,_,rfl⟩
 obtain ⟨y0,y1,y2,y3,y4,rfl⟩:∃y0 y1 y2 y3 y4,xs=[y0,y1,y2,y3,y4]:=by
  match xs,hxs with
  | [y0,y1,y2,y3,y4],_=>exact ⟨_,_,_,_,_,rfl⟩
 have hs:=Small.struct Tryz.underlying43 hw
 obtain ⟨s0,hs⟩:=Small.uncons hs
 have q0:DataW.trod enc Tryz.prog w base spare held n 9 [c0]=some y0:=by simpa [cells_9] using hf 0 _ rfl
 obtain ⟨φ1,h1,x0,g0,l0,o0⟩:=opens_str (t:=9) Tryz.underlying9 _ _ (Gx.refl ok ro ty).ok (Gx.refl ok ro ty).ro (Gx.refl ok ro ty).tidy _ _ _ rfl s0 q0
 have G0:=Gx.trans (Gx.refl ok ro ty) g0
 obtain ⟨s1,hs⟩:=Small.uncons hs
 have q1:DataW.trod enc Tryz.prog w base spare held n 9 [c1]=some y1:=by simpa [cells_9] using hf 1 _ rfl
 obtain ⟨φ2,h2,x1,g1,l1,o1⟩:=opens_str (t:=9) Tryz.underlying9 _ _ G0.ok G0.ro G0.tidy _ _ _ rfl s1 q1
 have G1:=Gx.trans G0 g1
 obtain ⟨s2,hs⟩:=Small.uncons hs
 have q2:DataW.trod enc Tryz.prog w base spare held n 3 [c2]=some y2:=by simpa [cells_3] using hf 2 _ rfl
 obtain ⟨φ3,h3,x2,g2,l2,o2⟩:=opens_int (t:=3) Tryz.underlying3 _ _ G1.ok G1.ro G1.tidy _ _ _ rfl s2 q2
 have G2:=Gx.trans G1 g2
 obtain ⟨s3,hs⟩:=Small.uncons hs
 have q3:DataW.trod enc Tryz.prog w base spare held n 3 [c3]=some y3:=by simpa [cells_3] using hf 3 _ rfl
 obtain ⟨φ4,h4,x3,g3,l3,o3⟩:=opens_int (t:=3) Tryz.underlying3 _ _ G2.ok G2.ro G2.tidy _ _ _ rfl s3 q3
 have G3:=Gx.trans G2 g3
 obtain ⟨s4,hs⟩:=Small.uncons hs
 have q4:DataW.trod enc Tryz.prog w base spare held n 3 [c4]=some y4:=by simpa [cells_3] using hf 4 _ rfl
 obtain ⟨φ5,h5,x4,g4,l4,o4⟩:=opens_int (t:=3) Tryz.underlying3 _ _ G3.ok G3.ro G3.tidy _ _ _ rfl s4 q4
 have G4:=Gx.trans G3 g4
 have L0:=LR.mono (Ph.le_trans (Ph.le_trans (Ph.le_trans (Ph.le_trans (Ph.le_refl _) g1.le) g2.le) g3.le) g4.le) l0
 have L1:=LR.mono (Ph.le_trans (Ph.le_trans (Ph.le_trans (Ph.le_refl _) g2.le) g3.le) g4.le) l1
 have L2:=LR.mono (Ph.le_trans (Ph.le_trans (Ph.le_refl _) g3.le) g4.le) l2
 have L3:=LR.mono (Ph.le_trans (Ph.le_refl _) g4.le) l3
 have L4:=LR.mono (Ph.le_refl _) l4
 exact ⟨_,_,⟨x0,x1,x2,x3,x4⟩,G4,(LR.append L0 (LR.append L1 (LR.append L2 (LR.append L3 (LR.append L4 (LR.nil _)))))),⟨o0,o1⟩⟩
theorem cells_23:Tryz.prog.cellsOf 23=1:=by kernel_rfl
theorem opens23:Opens enc w base spare held 23 1 (fun x:AV×List Measure=> [x.1]) (fun h x=>RowsAt h x.1 x.2):=opens_slice (t:=23) Tryz.underlying23 cells_43 (of_decide_eq_true (by kernel_rfl)) (fun _ x m _ h=>by cases x;simp [RowT.c,Measure.c] at h) opens43
theorem cells_59:Tryz.prog.cellsOf 59=4:=by kernel_rfl
theorem opens59:Opens enc w base spare held 59 4 (RowT.c (α:=Alarm)) RowT.ok:=fun φ h0 ok ro ty cs z fuel hl hw hv=>by
 obtain ⟨xs,n,_,rfl,_,hxs,hf⟩:=DataW.trod_struct Tryz.underlying59 hv
 obtain ⟨c0,c1,c2,c3,rfl⟩:∃c0 c1 c2 c3,cs=[c0,c1,c2,c3]:=by
  match cs,hl with
  | [c0,c1,c2,c3],_=>exact ⟨_,_,_,_,rfl⟩
 obtain ⟨y0,y1,y2,y3,rfl⟩:∃y0 y1 y2 y3,xs=[y0,y1,y2,y3]:=by
  match xs,hxs with
  | [y0,y1,y2,y3],_=>exact ⟨_,_,_,_,rfl⟩
 have hs:=Small.struct Tryz.underlying59 hw
 obtain ⟨s0,hs⟩:=Small.uncons hs
 have q0:DataW.trod enc Tryz.prog w base spare held n 3 [c0]=some y0:=by simpa [cells_3] using hf 0 _ rfl
 obtain ⟨φ1,h1,x0,g0,l0,o0⟩:=opens_int (t:=3) Tryz.underlying3 _ _ (Gx.refl ok ro ty).ok (Gx.refl ok ro ty).ro (Gx.refl ok ro ty).tidy _ _ _ rfl s0 q0
 have G0:=Gx.trans (Gx.refl ok ro ty) g0
 obtain ⟨s1,hs⟩:=Small.uncons hs
 have q1:DataW.trod enc Tryz.prog w base spare held n 3 [c1]=some y1:=by simpa [cells_3] using hf 1 _ rfl
 obtain ⟨φ2,h2,x1,g1,l1,o1⟩:=opens_int (t:=3) Tryz.underlying3 _ _ G0.ok G0.ro G0.tidy _ _ _ rfl s1 q1
 have G1:=Gx.trans G0 g1
 obtain ⟨s2,hs⟩:=Small.uncons hs
 have q2:DataW.trod enc Tryz.prog w base spare held n 3 [c2]=some y2:=by simpa [cells_3] using hf 2 _ rfl
 obtain ⟨φ3,h3,x2,g2,l2,o2⟩:=opens_int (t:=3) Tryz.underlying3 _ _ G1.ok G1.ro G1.tidy _ _ _ rfl s2 q2
 have G2:=Gx.trans G1 g2
 obtain ⟨s3,hs⟩:=Small.uncons hs
 have q3:DataW.trod enc Tryz.prog w base spare held n 3 [c3]=some y3:=by simpa [cells_3] using hf 3 _ rfl
 obtain ⟨φ4,h4,x3,g3,l3,o3⟩:=opens_int (t:=3) Tryz.underlying3 _ _ G2.ok G2.ro G2.tidy _ _ _ rfl s3 q3
 have G3:=Gx.trans G2 g3
 have L0:=LR.mono (Ph.le_trans (Ph.le_trans (Ph.le_trans (Ph.le_refl _) g1.le) g2.le) g3.le) l0
 have L1:=LR.mono (Ph.le_trans (Ph.le_trans (Ph.le_refl _) g2.le) g3.le) l1
 have L2:=LR.mono (Ph.le_trans (Ph.le_refl _) g3.le) l2
 have L3:=LR.mono (Ph.le_refl _) l3
 exact ⟨_,_,⟨x0,x1,x2,x3⟩,G3,(LR.append L0 (LR.append L1 (LR.append L2 (LR.append L3 (LR.nil _))))),trivial⟩
theorem cells_24:Tryz.prog.cellsOf 24=1:=by kernel_rfl
theorem opens24:Opens enc w base spare held 24 1 (fun x:AV×List Alarm=> [x.1]) (fun h x=>RowsAt h x.1 x.2):=opens_slice (t:=24) Tryz.underlying24 cells_59 (of_decide_eq_true (by kernel_rfl)) (fun _ x m _ h=>by cases x;simp [RowT.c,Alarm.c] at h) opens59
theorem cells_26:Tryz.prog.cellsOf 26=3:=by kernel_rfl
theorem opens26:Opens enc w base spare held 26 3 (RowT.c (α:=Plan)) RowT.ok:=fun φ h0 ok ro ty cs z fuel hl hw hv=>by
 obtain ⟨xs,n,_,rfl,_,hxs,hf⟩:=DataW.trod_struct Tryz.underlying26 hv
 obtain ⟨c0,c1,c2,rfl⟩:∃c0 c1 c2,cs=[c0,c1,c2]:=by
  match cs,hl with
  | [c0,c1,c2],_=>exact ⟨_,_,_,rfl⟩
 obtain ⟨y0,y1,y2,rfl⟩:∃y0 y1 y2,xs=[y0,y1,y2]:=by
  match xs,hxs with
  | [y0,y1,y2],_=>exact ⟨_,_,_,rfl⟩
 have hs:=Small.struct Tryz.underlying26 hw
 obtain ⟨s0,hs⟩:=Small.uncons hs
 have q0:DataW.trod enc Tryz.prog w base spare held n 22 [c0]=some y0:=by simpa [cells_22] using hf 0 _ rfl
 obtain ⟨φ1,h1,x0,g0,l0,o0⟩:=opens22 _ _ (Gx.refl ok ro ty).ok (Gx.refl ok ro ty).ro (Gx.refl ok ro ty).tidy _ _ _ rfl s0 q0
 have G0:=Gx.trans (Gx.refl ok ro ty) g0
 obtain ⟨s1,hs⟩:=Small.uncons hs
 have q1:DataW.trod enc Tryz.prog w base spare held n 23 [c1]=some y1:=by simpa [cells_23] using hf 1 _ rfl
 obtain ⟨φ2,h2,x1,g1,l1,o1⟩:=opens23 _ _ G0.ok G0.ro G0.tidy _ _ _ rfl s1 q1
 have G1:=Gx.trans G0 g1
 obtain ⟨s2,hs⟩:=Small.uncons hs
 have q2:DataW.trod enc Tryz.prog w base spare held n 24 [c2]=some y2:=by simpa [cells_24] using hf 2 _ rfl
 obtain ⟨φ3,h3,x2,g2,l2,o2⟩:=opens24 _ _ G1.ok G1.ro G1.tidy _ _ _ rfl s2 q2
 have G2:=Gx.trans G1 g2
 have L0:=LR.mono (Ph.le_trans (Ph.le_trans (Ph.le_refl _) g1.le) g2.le) l0
 have L1:=LR.mono (Ph.le_trans (Ph.le_refl _) g2.le) l1
 have L2:=LR.mono (Ph.le_refl _) l2
 exact ⟨_,_,⟨x0.1,x0.2,x1.1,x1.2,x2.1,x2.2⟩,G2,(LR.append L0 (LR.append L1 (LR.append L2 (LR.nil _)))),⟨((o0.has g1.has).has g2.has),(o1.has g2.has),o2⟩⟩
end
end Go.Proofs.Bench
