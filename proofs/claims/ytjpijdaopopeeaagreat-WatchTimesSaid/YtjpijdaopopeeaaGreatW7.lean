import Derived.Test.YtjpijdaopopeeaaGreatW0
namespace Go.Proofs.Bench
open Go.Proofs Ab
set_option maxRecDepth 100000
set_option maxHeartbeats 4000000
set_option linter.unusedVariables false
set_option linter.unusedSimpArgs false
noncomputable def w_indexMeasure_body:Code:=(Tryz.f79.body).getD .skip
theorem w_indexMeasure_B:Tryz.f79.body=some w_indexMeasure_body:=by kernel_rfl
noncomputable def w_indexMeasure_lp0:Code:=(loopsIn w_indexMeasure_body).getD 0 .skip
def w_indexMeasure_l0 (s:List Measure) (P:Measure→Bool):Nat→Nat→Option (Int)
 | 0,_=>none
 | kq0+1,i0=>(bif (P (s.g i0)) then some ((i0:Nat):Int) else w_indexMeasure_l0 s P kq0 (i0+1))
theorem w_indexMeasure_l0_t {d:Nat} {h:Heap} (sV:AV) (g:FuncId) (cap:List AV) (s:List Measure) (P:Measure→Bool) (H0_0:RowsAt h sV s) (hP:∀y∈s,∀hh,Tidy hh→Has h hh→cal d (.fn g) (.agg (RowT.c y)::cap) hh= .ret (.bool (P y)) hh):∀(k_ i_:Nat) (_:i_+k_=s.length) (x:Nat→AV) (hh:Heap) (y_hh:Tidy hh) (a_hh:Has h hh),OptLoop (cal (d)) w_indexMeasure_lp0 ⟨(sV::(AV.func g [] cap)::rx x 2 5 ((AV.int .i64 ((s.length:Nat):Int))::(AV.int .i64 ((i_:Nat):Int))::rx x 9 10 [])),hh,[],.no⟩ (.exit 0) hh (fun y=>(sV::(AV.func g [] cap)::rx y 2 5 ((AV.int .i64 ((s.length:Nat):Int))::rx y 8 11 []))) (fun r y=>(sV::(AV.func g [] cap)::(y 2)::(y 3)::(AV.int .i64 r)::(y 5)::(y 6)::(AV.int .i64 ((s.length:Nat):Int))::rx y 8 11 [])) (w_indexMeasure_l0 s P k_ i_)
 | 0,i0,hik,x,hh,y_hh,a_hh=>by
   have s_H0_0:=H0_0.small
   have q1:(decide (((i0:Nat):Int)<((s.length:Nat):Int)))=false:=d!
   have ev:=pk (d) w_indexMeasure_lp0 (sV::(AV.func g [] cap)::rx x 2 5 ((AV.int .i64 ((s.length:Nat):Int))::(AV.int .i64 ((i0:Nat):Int))::rx x 9 10 [])) hh (.exit 0) hh (VV (ilss 3 false false .i64 ((i0:Nat):Int) ((s.length:Nat):Int))<|BB q1<|ZZ) k!
   exact OptLoop.out rfl ev (Grow.refl y_hh) k!
 | kq0+1,i0,hik,x,hh,y_hh,a_hh=>by
   have s_H0_0:=H0_0.small
   rcases Bool.eq_false_or_eq_true (P (s.g i0)) with f1 | f1
   · have q1:(decide (((i0:Nat):Int)<((s.length:Nat):Int)))=true:=d!
     obtain ⟨p3,q4,ix2_⟩:=(H0_0.has a_hh).elem (i:=i0) o!
     have ix2:idxK env (some (.slice 43)) (some sV) (some (AV.int .i64 ((i0:Nat):Int)))=some (AV.ptr p3 q4):=ix2_
     have ld5:loadA env hh 43 (AV.ptr p3 q4)=some (AV.agg [(AV.str ((s.g i0).name)),(AV.str ((s.g i0).crew)),(AV.int .i64 ((s.g i0).rank)),(AV.int .i64 ((s.g i0).lag)),(AV.int .i64 ((s.g i0).takes))]):=(H0_0.has a_hh).load o! ix2_
     have k6:=hP (s.g i0) (g_mem o!) hh y_hh a_hh
     have ev:=pk (d) w_indexMeasure_lp0 (sV::(AV.func g [] cap)::rx x 2 5 ((AV.int .i64 ((s.length:Nat):Int))::(AV.int .i64 ((i0:Nat):Int))::rx x 9 10 [])) hh .ret hh (VV (ilss 3 false false .i64 ((i0:Nat):Int) ((s.length:Nat):Int))<|BB q1<|CN 5<|VV ix2<|MM ld5<|EE k6<|BB f1<|CN 2<|ZZ) k!
     exact OptLoop.ret ((i0:Nat):Int) (by simp only[w_indexMeasure_l0,f1,cond_true,cond_false]) ev (Grow.refl y_hh) k!
   · have q1:(decide (((i0:Nat):Int)<((s.length:Nat):Int)))=true:=d!
     obtain ⟨p3,q4,ix2_⟩:=(H0_0.has a_hh).elem (i:=i0) o!
     have ix2:idxK env (some (.slice 43)) (some sV) (some (AV.int .i64 ((i0:Nat):Int)))=some (AV.ptr p3 q4):=ix2_
     have ld5:loadA env hh 43 (AV.ptr p3 q4)=some (AV.agg [(AV.str ((s.g i0).name)),(AV.str ((s.g i0).crew)),(AV.int .i64 ((s.g i0).rank)),(AV.int .i64 ((s.g i0).lag)),(AV.int .i64 ((s.g i0).takes))]):=(H0_0.has a_hh).load o! ix2_
     have k6:=hP (s.g i0) (g_mem o!) hh y_hh a_hh
     have u8:=nadd 3 false true i0 1 o!
     have ev:=pk (d) w_indexMeasure_lp0 (sV::(AV.func g [] cap)::rx x 2 5 ((AV.int .i64 ((s.length:Nat):Int))::(AV.int .i64 ((i0:Nat):Int))::rx x 9 10 [])) hh .normal hh (VV (ilss 3 false false .i64 ((i0:Nat):Int) ((s.length:Nat):Int))<|BB q1<|CN 5<|VV ix2<|MM ld5<|EE k6<|BB f1<|VV u8<|CC<|ZZ) k!
     exact OptLoop.round (by simp only[w_indexMeasure_l0,f1,cond_true,cond_false]) ev (Grow.refl y_hh) (fun x=>(sV::(AV.func g [] cap)::rx x 2 5 ((AV.int .i64 ((s.length:Nat):Int))::(AV.int .i64 (((i0+1):Nat):Int))::rx x 9 10 []))) k! (fun x=>w_indexMeasure_l0_t sV g cap s P H0_0 hP kq0 (i0+1) o! x hh y_hh a_hh)
def w_indexMeasure (s:List Measure) (P:Measure→Bool):Int:=(match (w_indexMeasure_l0 s P s.length 0) with | none=>(-1) | some rr2=>rr2)
theorem w_indexMeasure_c {d:Nat} {h:Heap} {sV:AV} {g:FuncId} {cap:List AV} (s:List Measure) (P:Measure→Bool) (h_s:RowsAt h sV s) (hP:∀y∈s,∀hh,Tidy hh→Has h hh→cal d (.fn g) (.agg (RowT.c y)::cap) hh= .ret (.bool (P y)) hh) (y_h:Tidy h):cal (d+1) (.fn 79) [sV,(AV.func g [] cap)] h= .ret (AV.int .i64 (w_indexMeasure s P)) h:=by
 have s_h_s:=h_s.small
 cases hl_yl2:w_indexMeasure_l0 s P s.length 0 with
 | none=>
   have ln1:lenK (some (.slice 43)) (some sV)=some (AV.int .i64 ((s.length:Nat):Int)):=h_s.len
   obtain ⟨yl2,h3,ev_yl2,G_h3⟩:=OptLoop.n hl_yl2 (w_indexMeasure_l0_t (d:=d) (h:=h) sV g cap s P h_s hP s.length 0 o! (fun k_=>((sV::(AV.func g [] cap)::AV.undef::AV.undef::(AV.int .i64 0)::AV.undef::sV::(AV.int .i64 ((s.length:Nat):Int))::(AV.int .i64 0)::und 10):List AV).getD k_ AV.undef) h y_h (Has.refl _))
   have y_h3:=G_h3.y
   have m_h3:h.nx≤h3.nx:=G_h3.n
   have a_h3:Has h h3:=G_h3.a
   have ev:=pk (d) w_indexMeasure_body (sV::(AV.func g [] cap)::und 17) h .ret h3 (CN 2<|VV ln1<|CC<|LL ev_yl2<|CC<|ZZ) k!
   have e:w_indexMeasure s P=(-1):=by simp only[w_indexMeasure,hl_yl2,cond_true,cond_false]
   rw[e]
   exact callP_pure rfl (fn_of Tryz.func79 w_indexMeasure_B k! (.inr rfl) ev k!) a_h3 rfl
 | some rr2=>
   have ln1:lenK (some (.slice 43)) (some sV)=some (AV.int .i64 ((s.length:Nat):Int)):=h_s.len
   obtain ⟨yl2,h3,ev_yl2,G_h3⟩:=OptLoop.r hl_yl2 (w_indexMeasure_l0_t (d:=d) (h:=h) sV g cap s P h_s hP s.length 0 o! (fun k_=>((sV::(AV.func g [] cap)::AV.undef::AV.undef::(AV.int .i64 0)::AV.undef::sV::(AV.int .i64 ((s.length:Nat):Int))::(AV.int .i64 0)::und 10):List AV).getD k_ AV.undef) h y_h (Has.refl _))
   have y_h3:=G_h3.y
   have m_h3:h.nx≤h3.nx:=G_h3.n
   have a_h3:Has h h3:=G_h3.a
   have ev:=pk (d) w_indexMeasure_body (sV::(AV.func g [] cap)::und 17) h .ret h3 (CN 2<|VV ln1<|CC<|LL ev_yl2<|ZZ) k!
   have e:w_indexMeasure s P=rr2:=by simp only[w_indexMeasure,hl_yl2,cond_true,cond_false]
   rw[e]
   exact callP_pure rfl (fn_of Tryz.func79 w_indexMeasure_B k! (.inr rfl) ev k!) a_h3 rfl
noncomputable def w_containsMeasure_body:Code:=(Tryz.f57.body).getD .skip
theorem w_containsMeasure_B:Tryz.f57.body=some w_containsMeasure_body:=by kernel_rfl
def w_containsMeasure (s:List Measure) (P:Measure→Bool):Bool:=(decide (0≤(w_indexMeasure s P)))
theorem w_containsMeasure_c {d:Nat} {h:Heap} {sV:AV} {g:FuncId} {cap:List AV} (s:List Measure) (P:Measure→Bool) (h_s:RowsAt h sV s) (hP:∀y∈s,∀hh,Tidy hh→Has h hh→cal d (.fn g) (.agg (RowT.c y)::cap) hh= .ret (.bool (P y)) hh) (y_h:Tidy h):cal (d+2) (.fn 57) [sV,(AV.func g [] cap)] h= .ret (AV.bool (w_containsMeasure s P)) h:=by
 have s_h_s:=h_s.small
 have k1:=w_indexMeasure_c (d:=d) s P h_s hP y_h
 have ev:=pk (d+1) w_containsMeasure_body (sV::(AV.func g [] cap)::und 7) h .ret h (CN 3<|EE k1<|VV (igeq 3 false true .i64 (w_indexMeasure s P) 0)<|CC<|ZZ) k!
 have e:w_containsMeasure s P=(decide (0≤(w_indexMeasure s P))):=by simp only[w_containsMeasure,cond_true,cond_false]
 rw[e]
 exact callP_pure rfl (fn_of Tryz.func57 w_containsMeasure_B k! (.inr rfl) ev k!) (Has.refl _) rfl
noncomputable def w_isName_body:Code:=(Tryz.f50.body).getD .skip
theorem w_isName_B:Tryz.f50.body=some w_isName_body:=by kernel_rfl
noncomputable def w_isName_lp0:Code:=(loopsIn w_isName_body).getD 0 .skip
def w_isName_l0 (text:List UInt8):Nat→Nat→Option (Bool)
 | 0,_=>none
 | kq0+1,i0=>(bif (decide (97≤(((text.g i0).toNat:Nat):Int))) then (bif (decide (48≤(((text.g i0).toNat:Nat):Int))) then (bif (decide ((((text.g i0).toNat:Nat):Int)≤57)) then (bif (!(decide ((((text.g i0).toNat:Nat):Int)≤122))) then (bif (decide (((i0:Nat):Int)=0)) then some false else w_isName_l0 text kq0 (i0+1)) else w_isName_l0 text kq0 (i0+1)) else (bif (!(decide ((((text.g i0).toNat:Nat):Int)≤122))) then (bif (decide (((i0:Nat):Int)=0)) then some false else (bif (!(decide ((((text.g i0).toNat:Nat):Int)=45))) then some false else w_isName_l0 text kq0 (i0+1))) else w_isName_l0 text kq0 (i0+1))) else (bif (!(decide ((((text.g i0).toNat:Nat):Int)≤122))) then (bif (decide (((i0:Nat):Int)=0)) then some false else (bif (!(decide ((((text.g i0).toNat:Nat):Int)=45))) then some false else w_isName_l0 text kq0 (i0+1))) else w_isName_l0 text kq0 (i0+1))) else (bif (decide (48≤(((text.g i0).toNat:Nat):Int))) then (bif (decide ((((text.g i0).toNat:Nat):Int)≤57)) then (bif (decide (((i0:Nat):Int)=0)) then some false else w_isName_l0 text kq0 (i0+1)) else (bif (decide (((i0:Nat):Int)=0)) then some false else (bif (!(decide ((((text.g i0).toNat:Nat):Int)=45))) then some false else w_isName_l0 text kq0 (i0+1)))) else (bif (decide (((i0:Nat):Int)=0)) then some false else (bif (!(decide ((((text.g i0).toNat:Nat):Int)=45))) then some false else w_isName_l0 text kq0 (i0+1)))))
theorem w_isName_l0_t {d:Nat} {h:Heap} (text:List UInt8) (H0_0:text.length<2^60):∀(k_ i_:Nat) (_:i_+k_=(List.length text)) (x:Nat→AV) (hh:Heap) (y_hh:Tidy hh) (a_hh:Has h hh),OptLoop (cal (d)) w_isName_lp0 ⟨((AV.str text)::rx x 1 13 ((AV.int .i64 ((List.length text:Nat):Int))::(AV.int .i64 ((i_:Nat):Int))::rx x 16 39 [])),hh,[],.no⟩ (.exit 0) hh (fun y=>((AV.str text)::rx y 1 13 ((AV.int .i64 ((List.length text:Nat):Int))::rx y 15 40 []))) (fun r y=>((AV.str text)::(y 1)::(AV.bool r)::rx y 3 11 ((AV.int .i64 ((List.length text:Nat):Int))::rx y 15 40 []))) (w_isName_l0 text k_ i_)
 | 0,i0,hik,x,hh,y_hh,a_hh=>by
   have q1:(decide (((i0:Nat):Int)<((List.length text:Nat):Int)))=false:=d!
   have ev:=pk (d) w_isName_lp0 ((AV.str text)::rx x 1 13 ((AV.int .i64 ((List.length text:Nat):Int))::(AV.int .i64 ((i0:Nat):Int))::rx x 16 39 [])) hh (.exit 0) hh (VV (ilss 3 false false .i64 ((i0:Nat):Int) ((List.length text:Nat):Int))<|BB q1<|ZZ) k!
   exact OptLoop.out rfl ev (Grow.refl y_hh) k!
 | kq0+1,i0,hik,x,hh,y_hh,a_hh=>by
   rcases Bool.eq_false_or_eq_true (decide (97≤(((text.g i0).toNat:Nat):Int))) with f1 | f1
   · have n_f1:=of_decide_eq_true f1
     rcases Bool.eq_false_or_eq_true (decide (48≤(((text.g i0).toNat:Nat):Int))) with f2 | f2
     · have n_f2:=of_decide_eq_true f2
       rcases Bool.eq_false_or_eq_true (decide ((((text.g i0).toNat:Nat):Int)≤57)) with f3 | f3
       · have n_f3:=of_decide_eq_true f3
         rcases Bool.eq_false_or_eq_true (!(decide ((((text.g i0).toNat:Nat):Int)≤122))) with f4 | f4
         · have n_f4:=nT_ f4
           rcases Bool.eq_false_or_eq_true (decide (((i0:Nat):Int)=0)) with f5 | f5
           · have n_f5:=of_decide_eq_true f5
             have q1:(decide (((i0:Nat):Int)<((List.length text:Nat):Int)))=true:=d!
             have ix2:idxV env (some .string) (some (AV.str text)) (some (AV.int .i64 ((i0:Nat):Int)))=some (AV.int .u8 (((text.g i0).toNat:Nat):Int)):=idx_str (j:=i0) o!
             have ix4:idxV env (some .string) (some (AV.str text)) (some (AV.int .i64 ((i0:Nat):Int)))=some (AV.int .u8 (((text.g i0).toNat:Nat):Int)):=idx_str (j:=i0) o!
             have ix5:idxV env (some .string) (some (AV.str text)) (some (AV.int .i64 ((i0:Nat):Int)))=some (AV.int .u8 (((text.g i0).toNat:Nat):Int)):=idx_str (j:=i0) o!
             have ix7:idxV env (some .string) (some (AV.str text)) (some (AV.int .i64 ((i0:Nat):Int)))=some (AV.int .u8 (((text.g i0).toNat:Nat):Int)):=idx_str (j:=i0) o!
             have ev:=pk (d) w_isName_lp0 ((AV.str text)::rx x 1 13 ((AV.int .i64 ((List.length text:Nat):Int))::(AV.int .i64 ((i0:Nat):Int))::rx x 16 39 [])) hh .ret hh (VV (ilss 3 false false .i64 ((i0:Nat):Int) ((List.length text:Nat):Int))<|BB q1<|CN 4<|VV ix2<|VV (igeq 5 false true .u8 (((text.g i0).toNat:Nat):Int) 97)<|CC<|BB f1<|CC<|BB f1<|CC<|BB f1<|VV ix4<|BB f1<|VV (ileq 5 false true .u8 (((text.g i0).toNat:Nat):Int) 122)<|VV (pick_t (a:=some (AV.bool (decide ((((text.g i0).toNat:Nat):Int)≤122)))) (b:=some (AV.bool false)) f1)<|CN 3<|VV ix5<|VV (igeq 5 false true .u8 (((text.g i0).toNat:Nat):Int) 48)<|CC<|BB f2<|CC<|BB f2<|CC<|BB f2<|VV ix7<|BB f2<|VV (ileq 5 false true .u8 (((text.g i0).toNat:Nat):Int) 57)<|VV (pick_t (a:=some (AV.bool (decide ((((text.g i0).toNat:Nat):Int)≤57)))) (b:=some (AV.bool false)) f2)<|CC<|BB f3<|BB f3<|BB f3<|BB f3<|VV (pick_t (a:=some (AV.bool true)) (b:=some AV.undef) f3)<|CN 4<|BB f4<|CC<|BB f4<|VV (ieql 3 false true .i64 ((i0:Nat):Int) 0)<|BB f4<|CC<|BB f5<|BB f5<|BB f4<|VV (pick_t (a:=some (AV.bool true)) (b:=some AV.undef) f5)<|VV (pick_t (a:=some (AV.bool true)) (b:=some (AV.bool false)) f4)<|TT<|CC<|ZZ) k!
             exact OptLoop.ret false (by simp only[w_isName_l0,f1,f2,f3,f4,f5,cond_true,cond_false]) ev (Grow.refl y_hh) k!
           · have n_f5:=of_decide_eq_false f5
             have q1:(decide (((i0:Nat):Int)<((List.length text:Nat):Int)))=true:=d!
             have ix2:idxV env (some .string) (some (AV.str text)) (some (AV.int .i64 ((i0:Nat):Int)))=some (AV.int .u8 (((text.g i0).toNat:Nat):Int)):=idx_str (j:=i0) o!
             have ix4:idxV env (some .string) (some (AV.str text)) (some (AV.int .i64 ((i0:Nat):Int)))=some (AV.int .u8 (((text.g i0).toNat:Nat):Int)):=idx_str (j:=i0) o!
             have ix5:idxV env (some .string) (some (AV.str text)) (some (AV.int .i64 ((i0:Nat):Int)))=some (AV.int .u8 (((text.g i0).toNat:Nat):Int)):=idx_str (j:=i0) o!
             have ix7:idxV env (some .string) (some (AV.str text)) (some (AV.int .i64 ((i0:Nat):Int)))=some (AV.int .u8 (((text.g i0).toNat:Nat):Int)):=idx_str (j:=i0) o!
             have u11:=nadd 3 false true i0 1 o!
             have ev:=pk (d) w_isName_lp0 ((AV.str text)::rx x 1 13 ((AV.int .i64 ((List.length text:Nat):Int))::(AV.int .i64 ((i0:Nat):Int))::rx x 16 39 [])) hh .normal hh (VV (ilss 3 false false .i64 ((i0:Nat):Int) ((List.length text:Nat):Int))<|BB q1<|CN 4<|VV ix2<|VV (igeq 5 false true .u8 (((text.g i0).toNat:Nat):Int) 97)<|CC<|BB f1<|CC<|BB f1<|CC<|BB f1<|VV ix4<|BB f1<|VV (ileq 5 false true .u8 (((text.g i0).toNat:Nat):Int) 122)<|VV (pick_t (a:=some (AV.bool (decide ((((text.g i0).toNat:Nat):Int)≤122)))) (b:=some (AV.bool false)) f1)<|CN 3<|VV ix5<|VV (igeq 5 false true .u8 (((text.g i0).toNat:Nat):Int) 48)<|CC<|BB f2<|CC<|BB f2<|CC<|BB f2<|VV ix7<|BB f2<|VV (ileq 5 false true .u8 (((text.g i0).toNat:Nat):Int) 57)<|VV (pick_t (a:=some (AV.bool (decide ((((text.g i0).toNat:Nat):Int)≤57)))) (b:=some (AV.bool false)) f2)<|CC<|BB f3<|BB f3<|BB f3<|BB f3<|VV (pick_t (a:=some (AV.bool true)) (b:=some AV.undef) f3)<|CN 4<|BB f4<|CC<|BB f4<|VV (ieql 3 false true .i64 ((i0:Nat):Int) 0)<|BB f4<|CC<|BB f5<|CC<|BB f5<|CC<|BB f4<|VV (pick_f (a:=some (AV.bool true)) (b:=some (AV.bool false)) f5)<|VV (pick_t (a:=some (AV.bool false)) (b:=some (AV.bool false)) f4)<|FF<|VV u11<|CC<|ZZ) k!
             exact OptLoop.round (by simp only[w_isName_l0,f1,f2,f3,f4,f5,cond_true,cond_false]) ev (Grow.refl y_hh) (fun x=>((AV.str text)::rx x 1 13 ((AV.int .i64 ((List.length text:Nat):Int))::(AV.int .i64 (((i0+1):Nat):Int))::rx x 16 39 []))) k! (fun x=>w_isName_l0_t text H0_0 kq0 (i0+1) o! x hh y_hh a_hh)
         · have n_f4:=nF_ f4
           have q1:(decide (((i0:Nat):Int)<((List.length text:Nat):Int)))=true:=d!
           have ix2:idxV env (some .string) (some (AV.str text)) (some (AV.int .i64 ((i0:Nat):Int)))=some (AV.int .u8 (((text.g i0).toNat:Nat):Int)):=idx_str (j:=i0) o!
           have ix4:idxV env (some .string) (some (AV.str text)) (some (AV.int .i64 ((i0:Nat):Int)))=some (AV.int .u8 (((text.g i0).toNat:Nat):Int)):=idx_str (j:=i0) o!
           have ix5:idxV env (some .string) (some (AV.str text)) (some (AV.int .i64 ((i0:Nat):Int)))=some (AV.int .u8 (((text.g i0).toNat:Nat):Int)):=idx_str (j:=i0) o!
           have ix7:idxV env (some .string) (some (AV.str text)) (some (AV.int .i64 ((i0:Nat):Int)))=some (AV.int .u8 (((text.g i0).toNat:Nat):Int)):=idx_str (j:=i0) o!
           have u10:=nadd 3 false true i0 1 o!
           have ev:=pk (d) w_isName_lp0 ((AV.str text)::rx x 1 13 ((AV.int .i64 ((List.length text:Nat):Int))::(AV.int .i64 ((i0:Nat):Int))::rx x 16 39 [])) hh .normal hh (VV (ilss 3 false false .i64 ((i0:Nat):Int) ((List.length text:Nat):Int))<|BB q1<|CN 4<|VV ix2<|VV (igeq 5 false true .u8 (((text.g i0).toNat:Nat):Int) 97)<|CC<|BB f1<|CC<|BB f1<|CC<|BB f1<|VV ix4<|BB f1<|VV (ileq 5 false true .u8 (((text.g i0).toNat:Nat):Int) 122)<|VV (pick_t (a:=some (AV.bool (decide ((((text.g i0).toNat:Nat):Int)≤122)))) (b:=some (AV.bool false)) f1)<|CN 3<|VV ix5<|VV (igeq 5 false true .u8 (((text.g i0).toNat:Nat):Int) 48)<|CC<|BB f2<|CC<|BB f2<|CC<|BB f2<|VV ix7<|BB f2<|VV (ileq 5 false true .u8 (((text.g i0).toNat:Nat):Int) 57)<|VV (pick_t (a:=some (AV.bool (decide ((((text.g i0).toNat:Nat):Int)≤57)))) (b:=some (AV.bool false)) f2)<|CC<|BB f3<|BB f3<|BB f3<|BB f3<|VV (pick_t (a:=some (AV.bool true)) (b:=some AV.undef) f3)<|CN 4<|BB f4<|BB f4<|BB f4<|BB f4<|VV (pick_f (a:=some AV.undef) (b:=some (AV.bool false)) f4)<|FF<|VV u10<|CC<|ZZ) k!
           exact OptLoop.round (by simp only[w_isName_l0,f1,f2,f3,f4,cond_true,cond_false]) ev (Grow.refl y_hh) (fun x=>((AV.str text)::rx x 1 13 ((AV.int .i64 ((List.length text:Nat):Int))::(AV.int .i64 (((i0+1):Nat):Int))::rx x 16 39 []))) k! (fun x=>w_isName_l0_t text H0_0 kq0 (i0+1) o! x hh y_hh a_hh)
       · have n_f3:=of_decide_eq_false f3
         rcases Bool.eq_false_or_eq_true (!(decide ((((text.g i0).toNat:Nat):Int)≤122))) with f4 | f4
         · have n_f4:=nT_ f4
           rcases Bool.eq_false_or_eq_true (decide (((i0:Nat):Int)=0)) with f5 | f5
           · have n_f5:=of_decide_eq_true f5
             have q1:(decide (((i0:Nat):Int)<((List.length text:Nat):Int)))=true:=d!
             have ix2:idxV env (some .string) (some (AV.str text)) (some (AV.int .i64 ((i0:Nat):Int)))=some (AV.int .u8 (((text.g i0).toNat:Nat):Int)):=idx_str (j:=i0) o!
             have ix4:idxV env (some .string) (some (AV.str text)) (some (AV.int .i64 ((i0:Nat):Int)))=some (AV.int .u8 (((text.g i0).toNat:Nat):Int)):=idx_str (j:=i0) o!
             have ix5:idxV env (some .string) (some (AV.str text)) (some (AV.int .i64 ((i0:Nat):Int)))=some (AV.int .u8 (((text.g i0).toNat:Nat):Int)):=idx_str (j:=i0) o!
             have ix7:idxV env (some .string) (some (AV.str text)) (some (AV.int .i64 ((i0:Nat):Int)))=some (AV.int .u8 (((text.g i0).toNat:Nat):Int)):=idx_str (j:=i0) o!
             have ix9:idxV env (some .string) (some (AV.str text)) (some (AV.int .i64 ((i0:Nat):Int)))=some (AV.int .u8 (((text.g i0).toNat:Nat):Int)):=idx_str (j:=i0) o!
             have ev:=pk (d) w_isName_lp0 ((AV.str text)::rx x 1 13 ((AV.int .i64 ((List.length text:Nat):Int))::(AV.int .i64 ((i0:Nat):Int))::rx x 16 39 [])) hh .ret hh (VV (ilss 3 false false .i64 ((i0:Nat):Int) ((List.length text:Nat):Int))<|BB q1<|CN 4<|VV ix2<|VV (igeq 5 false true .u8 (((text.g i0).toNat:Nat):Int) 97)<|CC<|BB f1<|CC<|BB f1<|CC<|BB f1<|VV ix4<|BB f1<|VV (ileq 5 false true .u8 (((text.g i0).toNat:Nat):Int) 122)<|VV (pick_t (a:=some (AV.bool (decide ((((text.g i0).toNat:Nat):Int)≤122)))) (b:=some (AV.bool false)) f1)<|CN 3<|VV ix5<|VV (igeq 5 false true .u8 (((text.g i0).toNat:Nat):Int) 48)<|CC<|BB f2<|CC<|BB f2<|CC<|BB f2<|VV ix7<|BB f2<|VV (ileq 5 false true .u8 (((text.g i0).toNat:Nat):Int) 57)<|VV (pick_t (a:=some (AV.bool (decide ((((text.g i0).toNat:Nat):Int)≤57)))) (b:=some (AV.bool false)) f2)<|CC<|BB f3<|CC<|BB f3<|CC<|BB f3<|VV ix9<|BB f3<|VV (ieql 5 false true .u8 (((text.g i0).toNat:Nat):Int) 45)<|VV (pick_f (a:=some (AV.bool true)) (b:=some (AV.bool (decide ((((text.g i0).toNat:Nat):Int)=45)))) f3)<|CN 4<|BB f4<|CC<|BB f4<|VV (ieql 3 false true .i64 ((i0:Nat):Int) 0)<|BB f4<|CC<|BB f5<|BB f5<|BB f4<|VV (pick_t (a:=some (AV.bool true)) (b:=some AV.undef) f5)<|VV (pick_t (a:=some (AV.bool true)) (b:=some (AV.bool false)) f4)<|TT<|CC<|ZZ) k!
             exact OptLoop.ret false (by simp only[w_isName_l0,f1,f2,f3,f4,f5,cond_true,cond_false]) ev (Grow.refl y_hh) k!
           · have n_f5:=of_decide_eq_false f5
             rcases Bool.eq_false_or_eq_true (!(decide ((((text.g i0).toNat:Nat):Int)=45))) with f6 | f6
             · have n_f6:=nT_ f6
               have q1:(decide (((i0:Nat):Int)<((List.length text:Nat):Int)))=true:=d!
               have ix2:idxV env (some .string) (some (AV.str text)) (some (AV.int .i64 ((i0:Nat):Int)))=some (AV.int .u8 (((text.g i0).toNat:Nat):Int)):=idx_str (j:=i0) o!
               have ix4:idxV env (some .string) (some (AV.str text)) (some (AV.int .i64 ((i0:Nat):Int)))=some (AV.int .u8 (((text.g i0).toNat:Nat):Int)):=idx_str (j:=i0) o!
               have ix5:idxV env (some .string) (some (AV.str text)) (some (AV.int .i64 ((i0:Nat):Int)))=some (AV.int .u8 (((text.g i0).toNat:Nat):Int)):=idx_str (j:=i0) o!
               have ix7:idxV env (some .string) (some (AV.str text)) (some (AV.int .i64 ((i0:Nat):Int)))=some (AV.int .u8 (((text.g i0).toNat:Nat):Int)):=idx_str (j:=i0) o!
               have ix9:idxV env (some .string) (some (AV.str text)) (some (AV.int .i64 ((i0:Nat):Int)))=some (AV.int .u8 (((text.g i0).toNat:Nat):Int)):=idx_str (j:=i0) o!
               have ev:=pk (d) w_isName_lp0 ((AV.str text)::rx x 1 13 ((AV.int .i64 ((List.length text:Nat):Int))::(AV.int .i64 ((i0:Nat):Int))::rx x 16 39 [])) hh .ret hh (VV (ilss 3 false false .i64 ((i0:Nat):Int) ((List.length text:Nat):Int))<|BB q1<|CN 4<|VV ix2<|VV (igeq 5 false true .u8 (((text.g i0).toNat:Nat):Int) 97)<|CC<|BB f1<|CC<|BB f1<|CC<|BB f1<|VV ix4<|BB f1<|VV (ileq 5 false true .u8 (((text.g i0).toNat:Nat):Int) 122)<|VV (pick_t (a:=some (AV.bool (decide ((((text.g i0).toNat:Nat):Int)≤122)))) (b:=some (AV.bool false)) f1)<|CN 3<|VV ix5<|VV (igeq 5 false true .u8 (((text.g i0).toNat:Nat):Int) 48)<|CC<|BB f2<|CC<|BB f2<|CC<|BB f2<|VV ix7<|BB f2<|VV (ileq 5 false true .u8 (((text.g i0).toNat:Nat):Int) 57)<|VV (pick_t (a:=some (AV.bool (decide ((((text.g i0).toNat:Nat):Int)≤57)))) (b:=some (AV.bool false)) f2)<|CC<|BB f3<|CC<|BB f3<|CC<|BB f3<|VV ix9<|BB f3<|VV (ieql 5 false true .u8 (((text.g i0).toNat:Nat):Int) 45)<|VV (pick_f (a:=some (AV.bool true)) (b:=some (AV.bool (decide ((((text.g i0).toNat:Nat):Int)=45)))) f3)<|CN 4<|BB f4<|CC<|BB f4<|VV (ieql 3 false true .i64 ((i0:Nat):Int) 0)<|BB f4<|CC<|BB f5<|CC<|BB f5<|CC<|BB f4<|VV (pick_f (a:=some (AV.bool true)) (b:=some (AV.bool (!(decide ((((text.g i0).toNat:Nat):Int)=45))))) f5)<|VV (pick_t (a:=some (AV.bool (!(decide ((((text.g i0).toNat:Nat):Int)=45))))) (b:=some (AV.bool false)) f4)<|BB f6<|CC<|ZZ) k!
               exact OptLoop.ret false (by simp only[w_isName_l0,f1,f2,f3,f4,f5,f6,cond_true,cond_false]) ev (Grow.refl y_hh) k!
             · have n_f6:=nF_ f6
               have q1:(decide (((i0:Nat):Int)<((List.length text:Nat):Int)))=true:=d!
               have ix2:idxV env (some .string) (some (AV.str text)) (some (AV.int .i64 ((i0:Nat):Int)))=some (AV.int .u8 (((text.g i0).toNat:Nat):Int)):=idx_str (j:=i0) o!
               have ix4:idxV env (some .string) (some (AV.str text)) (some (AV.int .i64 ((i0:Nat):Int)))=some (AV.int .u8 (((text.g i0).toNat:Nat):Int)):=idx_str (j:=i0) o!
               have ix5:idxV env (some .string) (some (AV.str text)) (some (AV.int .i64 ((i0:Nat):Int)))=some (AV.int .u8 (((text.g i0).toNat:Nat):Int)):=idx_str (j:=i0) o!
               have ix7:idxV env (some .string) (some (AV.str text)) (some (AV.int .i64 ((i0:Nat):Int)))=some (AV.int .u8 (((text.g i0).toNat:Nat):Int)):=idx_str (j:=i0) o!
               have ix9:idxV env (some .string) (some (AV.str text)) (some (AV.int .i64 ((i0:Nat):Int)))=some (AV.int .u8 (((text.g i0).toNat:Nat):Int)):=idx_str (j:=i0) o!
               have u13:=nadd 3 false true i0 1 o!
               have ev:=pk (d) w_isName_lp0 ((AV.str text)::rx x 1 13 ((AV.int .i64 ((List.length text:Nat):Int))::(AV.int .i64 ((i0:Nat):Int))::rx x 16 39 [])) hh .normal hh (VV (ilss 3 false false .i64 ((i0:Nat):Int) ((List.length text:Nat):Int))<|BB q1<|CN 4<|VV ix2<|VV (igeq 5 false true .u8 (((text.g i0).toNat:Nat):Int) 97)<|CC<|BB f1<|CC<|BB f1<|CC<|BB f1<|VV ix4<|BB f1<|VV (ileq 5 false true .u8 (((text.g i0).toNat:Nat):Int) 122)<|VV (pick_t (a:=some (AV.bool (decide ((((text.g i0).toNat:Nat):Int)≤122)))) (b:=some (AV.bool false)) f1)<|CN 3<|VV ix5<|VV (igeq 5 false true .u8 (((text.g i0).toNat:Nat):Int) 48)<|CC<|BB f2<|CC<|BB f2<|CC<|BB f2<|VV ix7<|BB f2<|VV (ileq 5 false true .u8 (((text.g i0).toNat:Nat):Int) 57)<|VV (pick_t (a:=some (AV.bool (decide ((((text.g i0).toNat:Nat):Int)≤57)))) (b:=some (AV.bool false)) f2)<|CC<|BB f3<|CC<|BB f3<|CC<|BB f3<|VV ix9<|BB f3<|VV (ieql 5 false true .u8 (((text.g i0).toNat:Nat):Int) 45)<|VV (pick_f (a:=some (AV.bool true)) (b:=some (AV.bool (decide ((((text.g i0).toNat:Nat):Int)=45)))) f3)<|CN 4<|BB f4<|CC<|BB f4<|VV (ieql 3 false true .i64 ((i0:Nat):Int) 0)<|BB f4<|CC<|BB f5<|CC<|BB f5<|CC<|BB f4<|VV (pick_f (a:=some (AV.bool true)) (b:=some (AV.bool (!(decide ((((text.g i0).toNat:Nat):Int)=45))))) f5)<|VV (pick_t (a:=some (AV.bool (!(decide ((((text.g i0).toNat:Nat):Int)=45))))) (b:=some (AV.bool false)) f4)<|BB f6<|VV u13<|CC<|ZZ) k!
               exact OptLoop.round (by simp only[w_isName_l0,f1,f2,f3,f4,f5,f6,cond_true,cond_false]) ev (Grow.refl y_hh) (fun x=>((AV.str text)::rx x 1 13 ((AV.int .i64 ((List.length text:Nat):Int))::(AV.int .i64 (((i0+1):Nat):Int))::rx x 16 39 []))) k! (fun x=>w_isName_l0_t text H0_0 kq0 (i0+1) o! x hh y_hh a_hh)
         · have n_f4:=nF_ f4
           have q1:(decide (((i0:Nat):Int)<((List.length text:Nat):Int)))=true:=d!
           have ix2:idxV env (some .string) (some (AV.str text)) (some (AV.int .i64 ((i0:Nat):Int)))=some (AV.int .u8 (((text.g i0).toNat:Nat):Int)):=idx_str (j:=i0) o!
           have ix4:idxV env (some .string) (some (AV.str text)) (some (AV.int .i64 ((i0:Nat):Int)))=some (AV.int .u8 (((text.g i0).toNat:Nat):Int)):=idx_str (j:=i0) o!
           have ix5:idxV env (some .string) (some (AV.str text)) (some (AV.int .i64 ((i0:Nat):Int)))=some (AV.int .u8 (((text.g i0).toNat:Nat):Int)):=idx_str (j:=i0) o!
           have ix7:idxV env (some .string) (some (AV.str text)) (some (AV.int .i64 ((i0:Nat):Int)))=some (AV.int .u8 (((text.g i0).toNat:Nat):Int)):=idx_str (j:=i0) o!
           have ix9:idxV env (some .string) (some (AV.str text)) (some (AV.int .i64 ((i0:Nat):Int)))=some (AV.int .u8 (((text.g i0).toNat:Nat):Int)):=idx_str (j:=i0) o!
           have u11:=nadd 3 false true i0 1 o!
           have ev:=pk (d) w_isName_lp0 ((AV.str text)::rx x 1 13 ((AV.int .i64 ((List.length text:Nat):Int))::(AV.int .i64 ((i0:Nat):Int))::rx x 16 39 [])) hh .normal hh (VV (ilss 3 false false .i64 ((i0:Nat):Int) ((List.length text:Nat):Int))<|BB q1<|CN 4<|VV ix2<|VV (igeq 5 false true .u8 (((text.g i0).toNat:Nat):Int) 97)<|CC<|BB f1<|CC<|BB f1<|CC<|BB f1<|VV ix4<|BB f1<|VV (ileq 5 false true .u8 (((text.g i0).toNat:Nat):Int) 122)<|VV (pick_t (a:=some (AV.bool (decide ((((text.g i0).toNat:Nat):Int)≤122)))) (b:=some (AV.bool false)) f1)<|CN 3<|VV ix5<|VV (igeq 5 false true .u8 (((text.g i0).toNat:Nat):Int) 48)<|CC<|BB f2<|CC<|BB f2<|CC<|BB f2<|VV ix7<|BB f2<|VV (ileq 5 false true .u8 (((text.g i0).toNat:Nat):Int) 57)<|VV (pick_t (a:=some (AV.bool (decide ((((text.g i0).toNat:Nat):Int)≤57)))) (b:=some (AV.bool false)) f2)<|CC<|BB f3<|CC<|BB f3<|CC<|BB f3<|VV ix9<|BB f3<|VV (ieql 5 false true .u8 (((text.g i0).toNat:Nat):Int) 45)<|VV (pick_f (a:=some (AV.bool true)) (b:=some (AV.bool (decide ((((text.g i0).toNat:Nat):Int)=45)))) f3)<|CN 4<|BB f4<|BB f4<|BB f4<|BB f4<|VV (pick_f (a:=some AV.undef) (b:=some (AV.bool false)) f4)<|FF<|VV u11<|CC<|ZZ) k!
           exact OptLoop.round (by simp only[w_isName_l0,f1,f2,f3,f4,cond_true,cond_false]) ev (Grow.refl y_hh) (fun x=>((AV.str text)::rx x 1 13 ((AV.int .i64 ((List.length text:Nat):Int))::(AV.int .i64 (((i0+1):Nat):Int))::rx x 16 39 []))) k! (fun x=>w_isName_l0_t text H0_0 kq0 (i0+1) o! x hh y_hh a_hh)
     · have n_f2:=of_decide_eq_false f2
       rcases Bool.eq_false_or_eq_true (!(decide ((((text.g i0).toNat:Nat):Int)≤122))) with f3 | f3
       · have n_f3:=nT_ f3
         rcases Bool.eq_false_or_eq_true (decide (((i0:Nat):Int)=0)) with f4 | f4
         · have n_f4:=of_decide_eq_true f4
           have q1:(decide (((i0:Nat):Int)<((List.length text:Nat):Int)))=true:=d!
           have ix2:idxV env (some .string) (some (AV.str text)) (some (AV.int .i64 ((i0:Nat):Int)))=some (AV.int .u8 (((text.g i0).toNat:Nat):Int)):=idx_str (j:=i0) o!
           have ix4:idxV env (some .string) (some (AV.str text)) (some (AV.int .i64 ((i0:Nat):Int)))=some (AV.int .u8 (((text.g i0).toNat:Nat):Int)):=idx_str (j:=i0) o!
           have ix5:idxV env (some .string) (some (AV.str text)) (some (AV.int .i64 ((i0:Nat):Int)))=some (AV.int .u8 (((text.g i0).toNat:Nat):Int)):=idx_str (j:=i0) o!
           have ix7:idxV env (some .string) (some (AV.str text)) (some (AV.int .i64 ((i0:Nat):Int)))=some (AV.int .u8 (((text.g i0).toNat:Nat):Int)):=idx_str (j:=i0) o!
           have ev:=pk (d) w_isName_lp0 ((AV.str text)::rx x 1 13 ((AV.int .i64 ((List.length text:Nat):Int))::(AV.int .i64 ((i0:Nat):Int))::rx x 16 39 [])) hh .ret hh (VV (ilss 3 false false .i64 ((i0:Nat):Int) ((List.length text:Nat):Int))<|BB q1<|CN 4<|VV ix2<|VV (igeq 5 false true .u8 (((text.g i0).toNat:Nat):Int) 97)<|CC<|BB f1<|CC<|BB f1<|CC<|BB f1<|VV ix4<|BB f1<|VV (ileq 5 false true .u8 (((text.g i0).toNat:Nat):Int) 122)<|VV (pick_t (a:=some (AV.bool (decide ((((text.g i0).toNat:Nat):Int)≤122)))) (b:=some (AV.bool false)) f1)<|CN 3<|VV ix5<|VV (igeq 5 false true .u8 (((text.g i0).toNat:Nat):Int) 48)<|CC<|BB f2<|BB f2<|BB f2<|BB f2<|VV (pick_f (a:=some AV.undef) (b:=some (AV.bool false)) f2)<|CC<|FF<|CC<|FF<|CC<|FF<|VV ix7<|FF<|VV (ieql 5 false true .u8 (((text.g i0).toNat:Nat):Int) 45)<|CN 5<|BB f3<|CC<|BB f3<|VV (ieql 3 false true .i64 ((i0:Nat):Int) 0)<|BB f3<|CC<|BB f4<|BB f4<|BB f3<|VV (pick_t (a:=some (AV.bool true)) (b:=some AV.undef) f4)<|VV (pick_t (a:=some (AV.bool true)) (b:=some (AV.bool false)) f3)<|TT<|CC<|ZZ) k!
           exact OptLoop.ret false (by simp only[w_isName_l0,f1,f2,f3,f4,cond_true,cond_false]) ev (Grow.refl y_hh) k!
         · have n_f4:=of_decide_eq_false f4
           rcases Bool.eq_false_or_eq_true (!(decide ((((text.g i0).toNat:Nat):Int)=45))) with f5 | f5
           · have n_f5:=nT_ f5
             have q1:(decide (((i0:Nat):Int)<((List.length text:Nat):Int)))=true:=d!
             have ix2:idxV env (some .string) (some (AV.str text)) (some (AV.int .i64 ((i0:Nat):Int)))=some (AV.int .u8 (((text.g i0).toNat:Nat):Int)):=idx_str (j:=i0) o!
             have ix4:idxV env (some .string) (some (AV.str text)) (some (AV.int .i64 ((i0:Nat):Int)))=some (AV.int .u8 (((text.g i0).toNat:Nat):Int)):=idx_str (j:=i0) o!
             have ix5:idxV env (some .string) (some (AV.str text)) (some (AV.int .i64 ((i0:Nat):Int)))=some (AV.int .u8 (((text.g i0).toNat:Nat):Int)):=idx_str (j:=i0) o!
             have ix7:idxV env (some .string) (some (AV.str text)) (some (AV.int .i64 ((i0:Nat):Int)))=some (AV.int .u8 (((text.g i0).toNat:Nat):Int)):=idx_str (j:=i0) o!
             have ev:=pk (d) w_isName_lp0 ((AV.str text)::rx x 1 13 ((AV.int .i64 ((List.length text:Nat):Int))::(AV.int .i64 ((i0:Nat):Int))::rx x 16 39 [])) hh .ret hh (VV (ilss 3 false false .i64 ((i0:Nat):Int) ((List.length text:Nat):Int))<|BB q1<|CN 4<|VV ix2<|VV (igeq 5 false true .u8 (((text.g i0).toNat:Nat):Int) 97)<|CC<|BB f1<|CC<|BB f1<|CC<|BB f1<|VV ix4<|BB f1<|VV (ileq 5 false true .u8 (((text.g i0).toNat:Nat):Int) 122)<|VV (pick_t (a:=some (AV.bool (decide ((((text.g i0).toNat:Nat):Int)≤122)))) (b:=some (AV.bool false)) f1)<|CN 3<|VV ix5<|VV (igeq 5 false true .u8 (((text.g i0).toNat:Nat):Int) 48)<|CC<|BB f2<|BB f2<|BB f2<|BB f2<|VV (pick_f (a:=some AV.undef) (b:=some (AV.bool false)) f2)<|CC<|FF<|CC<|FF<|CC<|FF<|VV ix7<|FF<|VV (ieql 5 false true .u8 (((text.g i0).toNat:Nat):Int) 45)<|CN 5<|BB f3<|CC<|BB f3<|VV (ieql 3 false true .i64 ((i0:Nat):Int) 0)<|BB f3<|CC<|BB f4<|CC<|BB f4<|CC<|BB f3<|VV (pick_f (a:=some (AV.bool true)) (b:=some (AV.bool (!(decide ((((text.g i0).toNat:Nat):Int)=45))))) f4)<|VV (pick_t (a:=some (AV.bool (!(decide ((((text.g i0).toNat:Nat):Int)=45))))) (b:=some (AV.bool false)) f3)<|BB f5<|CC<|ZZ) k!
             exact OptLoop.ret false (by simp only[w_isName_l0,f1,f2,f3,f4,f5,cond_true,cond_false]) ev (Grow.refl y_hh) k!
           · have n_f5:=nF_ f5
             have q1:(decide (((i0:Nat):Int)<((List.length text:Nat):Int)))=true:=d!
             have ix2:idxV env (some .string) (some (AV.str text)) (some (AV.int .i64 ((i0:Nat):Int)))=some (AV.int .u8 (((text.g i0).toNat:Nat):Int)):=idx_str (j:=i0) o!
             have ix4:idxV env (some .string) (some (AV.str text)) (some (AV.int .i64 ((i0:Nat):Int)))=some (AV.int .u8 (((text.g i0).toNat:Nat):Int)):=idx_str (j:=i0) o!
             have ix5:idxV env (some .string) (some (AV.str text)) (some (AV.int .i64 ((i0:Nat):Int)))=some (AV.int .u8 (((text.g i0).toNat:Nat):Int)):=idx_str (j:=i0) o!
             have ix7:idxV env (some .string) (some (AV.str text)) (some (AV.int .i64 ((i0:Nat):Int)))=some (AV.int .u8 (((text.g i0).toNat:Nat):Int)):=idx_str (j:=i0) o!
             have u11:=nadd 3 false true i0 1 o!
             have ev:=pk (d) w_isName_lp0 ((AV.str text)::rx x 1 13 ((AV.int .i64 ((List.length text:Nat):Int))::(AV.int .i64 ((i0:Nat):Int))::rx x 16 39 [])) hh .normal hh (VV (ilss 3 false false .i64 ((i0:Nat):Int) ((List.length text:Nat):Int))<|BB q1<|CN 4<|VV ix2<|VV (igeq 5 false true .u8 (((text.g i0).toNat:Nat):Int) 97)<|CC<|BB f1<|CC<|BB f1<|CC<|BB f1<|VV ix4<|BB f1<|VV (ileq 5 false true .u8 (((text.g i0).toNat:Nat):Int) 122)<|VV (pick_t (a:=some (AV.bool (decide ((((text.g i0).toNat:Nat):Int)≤122)))) (b:=some (AV.bool false)) f1)<|CN 3<|VV ix5<|VV (igeq 5 false true .u8 (((text.g i0).toNat:Nat):Int) 48)<|CC<|BB f2<|BB f2<|BB f2<|BB f2<|VV (pick_f (a:=some AV.undef) (b:=some (AV.bool false)) f2)<|CC<|FF<|CC<|FF<|CC<|FF<|VV ix7<|FF<|VV (ieql 5 false true .u8 (((text.g i0).toNat:Nat):Int) 45)<|CN 5<|BB f3<|CC<|BB f3<|VV (ieql 3 false true .i64 ((i0:Nat):Int) 0)<|BB f3<|CC<|BB f4<|CC<|BB f4<|CC<|BB f3<|VV (pick_f (a:=some (AV.bool true)) (b:=some (AV.bool (!(decide ((((text.g i0).toNat:Nat):Int)=45))))) f4)<|VV (pick_t (a:=some (AV.bool (!(decide ((((text.g i0).toNat:Nat):Int)=45))))) (b:=some (AV.bool false)) f3)<|BB f5<|VV u11<|CC<|ZZ) k!
             exact OptLoop.round (by simp only[w_isName_l0,f1,f2,f3,f4,f5,cond_true,cond_false]) ev (Grow.refl y_hh) (fun x=>((AV.str text)::rx x 1 13 ((AV.int .i64 ((List.length text:Nat):Int))::(AV.int .i64 (((i0+1):Nat):Int))::rx x 16 39 []))) k! (fun x=>w_isName_l0_t text H0_0 kq0 (i0+1) o! x hh y_hh a_hh)
       · have n_f3:=nF_ f3
         have q1:(decide (((i0:Nat):Int)<((List.length text:Nat):Int)))=true:=d!
         have ix2:idxV env (some .string) (some (AV.str text)) (some (AV.int .i64 ((i0:Nat):Int)))=some (AV.int .u8 (((text.g i0).toNat:Nat):Int)):=idx_str (j:=i0) o!
         have ix4:idxV env (some .string) (some (AV.str text)) (some (AV.int .i64 ((i0:Nat):Int)))=some (AV.int .u8 (((text.g i0).toNat:Nat):Int)):=idx_str (j:=i0) o!
         have ix5:idxV env (some .string) (some (AV.str text)) (some (AV.int .i64 ((i0:Nat):Int)))=some (AV.int .u8 (((text.g i0).toNat:Nat):Int)):=idx_str (j:=i0) o!
         have ix7:idxV env (some .string) (some (AV.str text)) (some (AV.int .i64 ((i0:Nat):Int)))=some (AV.int .u8 (((text.g i0).toNat:Nat):Int)):=idx_str (j:=i0) o!
         have u9:=nadd 3 false true i0 1 o!
         have ev:=pk (d) w_isName_lp0 ((AV.str text)::rx x 1 13 ((AV.int .i64 ((List.length text:Nat):Int))::(AV.int .i64 ((i0:Nat):Int))::rx x 16 39 [])) hh .normal hh (VV (ilss 3 false false .i64 ((i0:Nat):Int) ((List.length text:Nat):Int))<|BB q1<|CN 4<|VV ix2<|VV (igeq 5 false true .u8 (((text.g i0).toNat:Nat):Int) 97)<|CC<|BB f1<|CC<|BB f1<|CC<|BB f1<|VV ix4<|BB f1<|VV (ileq 5 false true .u8 (((text.g i0).toNat:Nat):Int) 122)<|VV (pick_t (a:=some (AV.bool (decide ((((text.g i0).toNat:Nat):Int)≤122)))) (b:=some (AV.bool false)) f1)<|CN 3<|VV ix5<|VV (igeq 5 false true .u8 (((text.g i0).toNat:Nat):Int) 48)<|CC<|BB f2<|BB f2<|BB f2<|BB f2<|VV (pick_f (a:=some AV.undef) (b:=some (AV.bool false)) f2)<|CC<|FF<|CC<|FF<|CC<|FF<|VV ix7<|FF<|VV (ieql 5 false true .u8 (((text.g i0).toNat:Nat):Int) 45)<|CN 5<|BB f3<|BB f3<|BB f3<|BB f3<|VV (pick_f (a:=some AV.undef) (b:=some (AV.bool false)) f3)<|FF<|VV u9<|CC<|ZZ) k!
         exact OptLoop.round (by simp only[w_isName_l0,f1,f2,f3,cond_true,cond_false]) ev (Grow.refl y_hh) (fun x=>((AV.str text)::rx x 1 13 ((AV.int .i64 ((List.length text:Nat):Int))::(AV.int .i64 (((i0+1):Nat):Int))::rx x 16 39 []))) k! (fun x=>w_isName_l0_t text H0_0 kq0 (i0+1) o! x hh y_hh a_hh)
   · have n_f1:=of_decide_eq_false f1
     rcases Bool.eq_false_or_eq_true (decide (48≤(((text.g i0).toNat:Nat):Int))) with f2 | f2
     · have n_f2:=of_decide_eq_true f2
       rcases Bool.eq_false_or_eq_true (decide ((((text.g i0).toNat:Nat):Int)≤57)) with f3 | f3
       · have n_f3:=of_decide_eq_true f3
         rcases Bool.eq_false_or_eq_true (decide (((i0:Nat):Int)=0)) with f4 | f4
         · have n_f4:=of_decide_eq_true f4
           have q1:(decide (((i0:Nat):Int)<((List.length text:Nat):Int)))=true:=d!
           have ix2:idxV env (some .string) (some (AV.str text)) (some (AV.int .i64 ((i0:Nat):Int)))=some (AV.int .u8 (((text.g i0).toNat:Nat):Int)):=idx_str (j:=i0) o!
           have ix4:idxV env (some .string) (some (AV.str text)) (some (AV.int .i64 ((i0:Nat):Int)))=some (AV.int .u8 (((text.g i0).toNat:Nat):Int)):=idx_str (j:=i0) o!
           have ix6:idxV env (some .string) (some (AV.str text)) (some (AV.int .i64 ((i0:Nat):Int)))=some (AV.int .u8 (((text.g i0).toNat:Nat):Int)):=idx_str (j:=i0) o!
           have ev:=pk (d) w_isName_lp0 ((AV.str text)::rx x 1 13 ((AV.int .i64 ((List.length text:Nat):Int))::(AV.int .i64 ((i0:Nat):Int))::rx x 16 39 [])) hh .ret hh (VV (ilss 3 false false .i64 ((i0:Nat):Int) ((List.length text:Nat):Int))<|BB q1<|CN 4<|VV ix2<|VV (igeq 5 false true .u8 (((text.g i0).toNat:Nat):Int) 97)<|CC<|BB f1<|BB f1<|BB f1<|BB f1<|VV (pick_f (a:=some AV.undef) (b:=some (AV.bool false)) f1)<|CN 3<|VV ix4<|VV (igeq 5 false true .u8 (((text.g i0).toNat:Nat):Int) 48)<|CC<|BB f2<|CC<|BB f2<|CC<|BB f2<|VV ix6<|BB f2<|VV (ileq 5 false true .u8 (((text.g i0).toNat:Nat):Int) 57)<|VV (pick_t (a:=some (AV.bool (decide ((((text.g i0).toNat:Nat):Int)≤57)))) (b:=some (AV.bool false)) f2)<|CC<|BB f3<|BB f3<|BB f3<|BB f3<|VV (pick_t (a:=some (AV.bool true)) (b:=some AV.undef) f3)<|CN 4<|TT<|CC<|TT<|VV (ieql 3 false true .i64 ((i0:Nat):Int) 0)<|TT<|CC<|BB f4<|BB f4<|TT<|VV (pick_t (a:=some (AV.bool true)) (b:=some AV.undef) f4)<|CC<|TT<|CC<|ZZ) k!
           exact OptLoop.ret false (by simp only[w_isName_l0,f1,f2,f3,f4,cond_true,cond_false]) ev (Grow.refl y_hh) k!
         · have n_f4:=of_decide_eq_false f4
           have q1:(decide (((i0:Nat):Int)<((List.length text:Nat):Int)))=true:=d!
           have ix2:idxV env (some .string) (some (AV.str text)) (some (AV.int .i64 ((i0:Nat):Int)))=some (AV.int .u8 (((text.g i0).toNat:Nat):Int)):=idx_str (j:=i0) o!
           have ix4:idxV env (some .string) (some (AV.str text)) (some (AV.int .i64 ((i0:Nat):Int)))=some (AV.int .u8 (((text.g i0).toNat:Nat):Int)):=idx_str (j:=i0) o!
           have ix6:idxV env (some .string) (some (AV.str text)) (some (AV.int .i64 ((i0:Nat):Int)))=some (AV.int .u8 (((text.g i0).toNat:Nat):Int)):=idx_str (j:=i0) o!
           have u9:=nadd 3 false true i0 1 o!
           have ev:=pk (d) w_isName_lp0 ((AV.str text)::rx x 1 13 ((AV.int .i64 ((List.length text:Nat):Int))::(AV.int .i64 ((i0:Nat):Int))::rx x 16 39 [])) hh .normal hh (VV (ilss 3 false false .i64 ((i0:Nat):Int) ((List.length text:Nat):Int))<|BB q1<|CN 4<|VV ix2<|VV (igeq 5 false true .u8 (((text.g i0).toNat:Nat):Int) 97)<|CC<|BB f1<|BB f1<|BB f1<|BB f1<|VV (pick_f (a:=some AV.undef) (b:=some (AV.bool false)) f1)<|CN 3<|VV ix4<|VV (igeq 5 false true .u8 (((text.g i0).toNat:Nat):Int) 48)<|CC<|BB f2<|CC<|BB f2<|CC<|BB f2<|VV ix6<|BB f2<|VV (ileq 5 false true .u8 (((text.g i0).toNat:Nat):Int) 57)<|VV (pick_t (a:=some (AV.bool (decide ((((text.g i0).toNat:Nat):Int)≤57)))) (b:=some (AV.bool false)) f2)<|CC<|BB f3<|BB f3<|BB f3<|BB f3<|VV (pick_t (a:=some (AV.bool true)) (b:=some AV.undef) f3)<|CN 4<|TT<|CC<|TT<|VV (ieql 3 false true .i64 ((i0:Nat):Int) 0)<|TT<|CC<|BB f4<|CC<|BB f4<|CC<|TT<|VV (pick_f (a:=some (AV.bool true)) (b:=some (AV.bool false)) f4)<|CC<|FF<|VV u9<|CC<|ZZ) k!
           exact OptLoop.round (by simp only[w_isName_l0,f1,f2,f3,f4,cond_true,cond_false]) ev (Grow.refl y_hh) (fun x=>((AV.str text)::rx x 1 13 ((AV.int .i64 ((List.length text:Nat):Int))::(AV.int .i64 (((i0+1):Nat):Int))::rx x 16 39 []))) k! (fun x=>w_isName_l0_t text H0_0 kq0 (i0+1) o! x hh y_hh a_hh)
       · have n_f3:=of_decide_eq_false f3
         rcases Bool.eq_false_or_eq_true (decide (((i0:Nat):Int)=0)) with f4 | f4
         · have n_f4:=of_decide_eq_true f4
           have q1:(decide (((i0:Nat):Int)<((List.length text:Nat):Int)))=true:=d!
           have ix2:idxV env (some .string) (some (AV.str text)) (some (AV.int .i64 ((i0:Nat):Int)))=some (AV.int .u8 (((text.g i0).toNat:Nat):Int)):=idx_str (j:=i0) o!
           have ix4:idxV env (some .string) (some (AV.str text)) (some (AV.int .i64 ((i0:Nat):Int)))=some (AV.int .u8 (((text.g i0).toNat:Nat):Int)):=idx_str (j:=i0) o!
           have ix6:idxV env (some .string) (some (AV.str text)) (some (AV.int .i64 ((i0:Nat):Int)))=some (AV.int .u8 (((text.g i0).toNat:Nat):Int)):=idx_str (j:=i0) o!
           have ix8:idxV env (some .string) (some (AV.str text)) (some (AV.int .i64 ((i0:Nat):Int)))=some (AV.int .u8 (((text.g i0).toNat:Nat):Int)):=idx_str (j:=i0) o!
           have ev:=pk (d) w_isName_lp0 ((AV.str text)::rx x 1 13 ((AV.int .i64 ((List.length text:Nat):Int))::(AV.int .i64 ((i0:Nat):Int))::rx x 16 39 [])) hh .ret hh (VV (ilss 3 false false .i64 ((i0:Nat):Int) ((List.length text:Nat):Int))<|BB q1<|CN 4<|VV ix2<|VV (igeq 5 false true .u8 (((text.g i0).toNat:Nat):Int) 97)<|CC<|BB f1<|BB f1<|BB f1<|BB f1<|VV (pick_f (a:=some AV.undef) (b:=some (AV.bool false)) f1)<|CN 3<|VV ix4<|VV (igeq 5 false true .u8 (((text.g i0).toNat:Nat):Int) 48)<|CC<|BB f2<|CC<|BB f2<|CC<|BB f2<|VV ix6<|BB f2<|VV (ileq 5 false true .u8 (((text.g i0).toNat:Nat):Int) 57)<|VV (pick_t (a:=some (AV.bool (decide ((((text.g i0).toNat:Nat):Int)≤57)))) (b:=some (AV.bool false)) f2)<|CC<|BB f3<|CC<|BB f3<|CC<|BB f3<|VV ix8<|BB f3<|VV (ieql 5 false true .u8 (((text.g i0).toNat:Nat):Int) 45)<|VV (pick_f (a:=some (AV.bool true)) (b:=some (AV.bool (decide ((((text.g i0).toNat:Nat):Int)=45)))) f3)<|CN 4<|TT<|CC<|TT<|VV (ieql 3 false true .i64 ((i0:Nat):Int) 0)<|TT<|CC<|BB f4<|BB f4<|TT<|VV (pick_t (a:=some (AV.bool true)) (b:=some AV.undef) f4)<|CC<|TT<|CC<|ZZ) k!
           exact OptLoop.ret false (by simp only[w_isName_l0,f1,f2,f3,f4,cond_true,cond_false]) ev (Grow.refl y_hh) k!
         · have n_f4:=of_decide_eq_false f4
           rcases Bool.eq_false_or_eq_true (!(decide ((((text.g i0).toNat:Nat):Int)=45))) with f5 | f5
           · have n_f5:=nT_ f5
             have q1:(decide (((i0:Nat):Int)<((List.length text:Nat):Int)))=true:=d!
             have ix2:idxV env (some .string) (some (AV.str text)) (some (AV.int .i64 ((i0:Nat):Int)))=some (AV.int .u8 (((text.g i0).toNat:Nat):Int)):=idx_str (j:=i0) o!
             have ix4:idxV env (some .string) (some (AV.str text)) (some (AV.int .i64 ((i0:Nat):Int)))=some (AV.int .u8 (((text.g i0).toNat:Nat):Int)):=idx_str (j:=i0) o!
             have ix6:idxV env (some .string) (some (AV.str text)) (some (AV.int .i64 ((i0:Nat):Int)))=some (AV.int .u8 (((text.g i0).toNat:Nat):Int)):=idx_str (j:=i0) o!
             have ix8:idxV env (some .string) (some (AV.str text)) (some (AV.int .i64 ((i0:Nat):Int)))=some (AV.int .u8 (((text.g i0).toNat:Nat):Int)):=idx_str (j:=i0) o!
             have ev:=pk (d) w_isName_lp0 ((AV.str text)::rx x 1 13 ((AV.int .i64 ((List.length text:Nat):Int))::(AV.int .i64 ((i0:Nat):Int))::rx x 16 39 [])) hh .ret hh (VV (ilss 3 false false .i64 ((i0:Nat):Int) ((List.length text:Nat):Int))<|BB q1<|CN 4<|VV ix2<|VV (igeq 5 false true .u8 (((text.g i0).toNat:Nat):Int) 97)<|CC<|BB f1<|BB f1<|BB f1<|BB f1<|VV (pick_f (a:=some AV.undef) (b:=some (AV.bool false)) f1)<|CN 3<|VV ix4<|VV (igeq 5 false true .u8 (((text.g i0).toNat:Nat):Int) 48)<|CC<|BB f2<|CC<|BB f2<|CC<|BB f2<|VV ix6<|BB f2<|VV (ileq 5 false true .u8 (((text.g i0).toNat:Nat):Int) 57)<|VV (pick_t (a:=some (AV.bool (decide ((((text.g i0).toNat:Nat):Int)≤57)))) (b:=some (AV.bool false)) f2)<|CC<|BB f3<|CC<|BB f3<|CC<|BB f3<|VV ix8<|BB f3<|VV (ieql 5 false true .u8 (((text.g i0).toNat:Nat):Int) 45)<|VV (pick_f (a:=some (AV.bool true)) (b:=some (AV.bool (decide ((((text.g i0).toNat:Nat):Int)=45)))) f3)<|CN 4<|TT<|CC<|TT<|VV (ieql 3 false true .i64 ((i0:Nat):Int) 0)<|TT<|CC<|BB f4<|CC<|BB f4<|CC<|TT<|VV (pick_f (a:=some (AV.bool true)) (b:=some (AV.bool (!(decide ((((text.g i0).toNat:Nat):Int)=45))))) f4)<|CC<|BB f5<|CC<|ZZ) k!
             exact OptLoop.ret false (by simp only[w_isName_l0,f1,f2,f3,f4,f5,cond_true,cond_false]) ev (Grow.refl y_hh) k!
           · have n_f5:=nF_ f5
             have q1:(decide (((i0:Nat):Int)<((List.length text:Nat):Int)))=true:=d!
             have ix2:idxV env (some .string) (some (AV.str text)) (some (AV.int .i64 ((i0:Nat):Int)))=some (AV.int .u8 (((text.g i0).toNat:Nat):Int)):=idx_str (j:=i0) o!
             have ix4:idxV env (some .string) (some (AV.str text)) (some (AV.int .i64 ((i0:Nat):Int)))=some (AV.int .u8 (((text.g i0).toNat:Nat):Int)):=idx_str (j:=i0) o!
             have ix6:idxV env (some .string) (some (AV.str text)) (some (AV.int .i64 ((i0:Nat):Int)))=some (AV.int .u8 (((text.g i0).toNat:Nat):Int)):=idx_str (j:=i0) o!
             have ix8:idxV env (some .string) (some (AV.str text)) (some (AV.int .i64 ((i0:Nat):Int)))=some (AV.int .u8 (((text.g i0).toNat:Nat):Int)):=idx_str (j:=i0) o!
             have u11:=nadd 3 false true i0 1 o!
             have ev:=pk (d) w_isName_lp0 ((AV.str text)::rx x 1 13 ((AV.int .i64 ((List.length text:Nat):Int))::(AV.int .i64 ((i0:Nat):Int))::rx x 16 39 [])) hh .normal hh (VV (ilss 3 false false .i64 ((i0:Nat):Int) ((List.length text:Nat):Int))<|BB q1<|CN 4<|VV ix2<|VV (igeq 5 false true .u8 (((text.g i0).toNat:Nat):Int) 97)<|CC<|BB f1<|BB f1<|BB f1<|BB f1<|VV (pick_f (a:=some AV.undef) (b:=some (AV.bool false)) f1)<|CN 3<|VV ix4<|VV (igeq 5 false true .u8 (((text.g i0).toNat:Nat):Int) 48)<|CC<|BB f2<|CC<|BB f2<|CC<|BB f2<|VV ix6<|BB f2<|VV (ileq 5 false true .u8 (((text.g i0).toNat:Nat):Int) 57)<|VV (pick_t (a:=some (AV.bool (decide ((((text.g i0).toNat:Nat):Int)≤57)))) (b:=some (AV.bool false)) f2)<|CC<|BB f3<|CC<|BB f3<|CC<|BB f3<|VV ix8<|BB f3<|VV (ieql 5 false true .u8 (((text.g i0).toNat:Nat):Int) 45)<|VV (pick_f (a:=some (AV.bool true)) (b:=some (AV.bool (decide ((((text.g i0).toNat:Nat):Int)=45)))) f3)<|CN 4<|TT<|CC<|TT<|VV (ieql 3 false true .i64 ((i0:Nat):Int) 0)<|TT<|CC<|BB f4<|CC<|BB f4<|CC<|TT<|VV (pick_f (a:=some (AV.bool true)) (b:=some (AV.bool (!(decide ((((text.g i0).toNat:Nat):Int)=45))))) f4)<|CC<|BB f5<|VV u11<|CC<|ZZ) k!
             exact OptLoop.round (by simp only[w_isName_l0,f1,f2,f3,f4,f5,cond_true,cond_false]) ev (Grow.refl y_hh) (fun x=>((AV.str text)::rx x 1 13 ((AV.int .i64 ((List.length text:Nat):Int))::(AV.int .i64 (((i0+1):Nat):Int))::rx x 16 39 []))) k! (fun x=>w_isName_l0_t text H0_0 kq0 (i0+1) o! x hh y_hh a_hh)
     · have n_f2:=of_decide_eq_false f2
       rcases Bool.eq_false_or_eq_true (decide (((i0:Nat):Int)=0)) with f3 | f3
       · have n_f3:=of_decide_eq_true f3
         have q1:(decide (((i0:Nat):Int)<((List.length text:Nat):Int)))=true:=d!
         have ix2:idxV env (some .string) (some (AV.str text)) (some (AV.int .i64 ((i0:Nat):Int)))=some (AV.int .u8 (((text.g i0).toNat:Nat):Int)):=idx_str (j:=i0) o!
         have ix4:idxV env (some .string) (some (AV.str text)) (some (AV.int .i64 ((i0:Nat):Int)))=some (AV.int .u8 (((text.g i0).toNat:Nat):Int)):=idx_str (j:=i0) o!
         have ix6:idxV env (some .string) (some (AV.str text)) (some (AV.int .i64 ((i0:Nat):Int)))=some (AV.int .u8 (((text.g i0).toNat:Nat):Int)):=idx_str (j:=i0) o!
         have ev:=pk (d) w_isName_lp0 ((AV.str text)::rx x 1 13 ((AV.int .i64 ((List.length text:Nat):Int))::(AV.int .i64 ((i0:Nat):Int))::rx x 16 39 [])) hh .ret hh (VV (ilss 3 false false .i64 ((i0:Nat):Int) ((List.length text:Nat):Int))<|BB q1<|CN 4<|VV ix2<|VV (igeq 5 false true .u8 (((text.g i0).toNat:Nat):Int) 97)<|CC<|BB f1<|BB f1<|BB f1<|BB f1<|VV (pick_f (a:=some AV.undef) (b:=some (AV.bool false)) f1)<|CN 3<|VV ix4<|VV (igeq 5 false true .u8 (((text.g i0).toNat:Nat):Int) 48)<|CC<|BB f2<|BB f2<|BB f2<|BB f2<|VV (pick_f (a:=some AV.undef) (b:=some (AV.bool false)) f2)<|CC<|FF<|CC<|FF<|CC<|FF<|VV ix6<|FF<|VV (ieql 5 false true .u8 (((text.g i0).toNat:Nat):Int) 45)<|CN 5<|TT<|CC<|TT<|VV (ieql 3 false true .i64 ((i0:Nat):Int) 0)<|TT<|CC<|BB f3<|BB f3<|TT<|VV (pick_t (a:=some (AV.bool true)) (b:=some AV.undef) f3)<|CC<|TT<|CC<|ZZ) k!
         exact OptLoop.ret false (by simp only[w_isName_l0,f1,f2,f3,cond_true,cond_false]) ev (Grow.refl y_hh) k!
       · have n_f3:=of_decide_eq_false f3
         rcases Bool.eq_false_or_eq_true (!(decide ((((text.g i0).toNat:Nat):Int)=45))) with f4 | f4
         · have n_f4:=nT_ f4
           have q1:(decide (((i0:Nat):Int)<((List.length text:Nat):Int)))=true:=d!
           have ix2:idxV env (some .string) (some (AV.str text)) (some (AV.int .i64 ((i0:Nat):Int)))=some (AV.int .u8 (((text.g i0).toNat:Nat):Int)):=idx_str (j:=i0) o!
           have ix4:idxV env (some .string) (some (AV.str text)) (some (AV.int .i64 ((i0:Nat):Int)))=some (AV.int .u8 (((text.g i0).toNat:Nat):Int)):=idx_str (j:=i0) o!
           have ix6:idxV env (some .string) (some (AV.str text)) (some (AV.int .i64 ((i0:Nat):Int)))=some (AV.int .u8 (((text.g i0).toNat:Nat):Int)):=idx_str (j:=i0) o!
           have ev:=pk (d) w_isName_lp0 ((AV.str text)::rx x 1 13 ((AV.int .i64 ((List.length text:Nat):Int))::(AV.int .i64 ((i0:Nat):Int))::rx x 16 39 [])) hh .ret hh (VV (ilss 3 false false .i64 ((i0:Nat):Int) ((List.length text:Nat):Int))<|BB q1<|CN 4<|VV ix2<|VV (igeq 5 false true .u8 (((text.g i0).toNat:Nat):Int) 97)<|CC<|BB f1<|BB f1<|BB f1<|BB f1<|VV (pick_f (a:=some AV.undef) (b:=some (AV.bool false)) f1)<|CN 3<|VV ix4<|VV (igeq 5 false true .u8 (((text.g i0).toNat:Nat):Int) 48)<|CC<|BB f2<|BB f2<|BB f2<|BB f2<|VV (pick_f (a:=some AV.undef) (b:=some (AV.bool false)) f2)<|CC<|FF<|CC<|FF<|CC<|FF<|VV ix6<|FF<|VV (ieql 5 false true .u8 (((text.g i0).toNat:Nat):Int) 45)<|CN 5<|TT<|CC<|TT<|VV (ieql 3 false true .i64 ((i0:Nat):Int) 0)<|TT<|CC<|BB f3<|CC<|BB f3<|CC<|TT<|VV (pick_f (a:=some (AV.bool true)) (b:=some (AV.bool (!(decide ((((text.g i0).toNat:Nat):Int)=45))))) f3)<|CC<|BB f4<|CC<|ZZ) k!
           exact OptLoop.ret false (by simp only[w_isName_l0,f1,f2,f3,f4,cond_true,cond_false]) ev (Grow.refl y_hh) k!
         · have n_f4:=nF_ f4
           have q1:(decide (((i0:Nat):Int)<((List.length text:Nat):Int)))=true:=d!
           have ix2:idxV env (some .string) (some (AV.str text)) (some (AV.int .i64 ((i0:Nat):Int)))=some (AV.int .u8 (((text.g i0).toNat:Nat):Int)):=idx_str (j:=i0) o!
           have ix4:idxV env (some .string) (some (AV.str text)) (some (AV.int .i64 ((i0:Nat):Int)))=some (AV.int .u8 (((text.g i0).toNat:Nat):Int)):=idx_str (j:=i0) o!
           have ix6:idxV env (some .string) (some (AV.str text)) (some (AV.int .i64 ((i0:Nat):Int)))=some (AV.int .u8 (((text.g i0).toNat:Nat):Int)):=idx_str (j:=i0) o!
           have u9:=nadd 3 false true i0 1 o!
           have ev:=pk (d) w_isName_lp0 ((AV.str text)::rx x 1 13 ((AV.int .i64 ((List.length text:Nat):Int))::(AV.int .i64 ((i0:Nat):Int))::rx x 16 39 [])) hh .normal hh (VV (ilss 3 false false .i64 ((i0:Nat):Int) ((List.length text:Nat):Int))<|BB q1<|CN 4<|VV ix2<|VV (igeq 5 false true .u8 (((text.g i0).toNat:Nat):Int) 97)<|CC<|BB f1<|BB f1<|BB f1<|BB f1<|VV (pick_f (a:=some AV.undef) (b:=some (AV.bool false)) f1)<|CN 3<|VV ix4<|VV (igeq 5 false true .u8 (((text.g i0).toNat:Nat):Int) 48)<|CC<|BB f2<|BB f2<|BB f2<|BB f2<|VV (pick_f (a:=some AV.undef) (b:=some (AV.bool false)) f2)<|CC<|FF<|CC<|FF<|CC<|FF<|VV ix6<|FF<|VV (ieql 5 false true .u8 (((text.g i0).toNat:Nat):Int) 45)<|CN 5<|TT<|CC<|TT<|VV (ieql 3 false true .i64 ((i0:Nat):Int) 0)<|TT<|CC<|BB f3<|CC<|BB f3<|CC<|TT<|VV (pick_f (a:=some (AV.bool true)) (b:=some (AV.bool (!(decide ((((text.g i0).toNat:Nat):Int)=45))))) f3)<|CC<|BB f4<|VV u9<|CC<|ZZ) k!
           exact OptLoop.round (by simp only[w_isName_l0,f1,f2,f3,f4,cond_true,cond_false]) ev (Grow.refl y_hh) (fun x=>((AV.str text)::rx x 1 13 ((AV.int .i64 ((List.length text:Nat):Int))::(AV.int .i64 (((i0+1):Nat):Int))::rx x 16 39 []))) k! (fun x=>w_isName_l0_t text H0_0 kq0 (i0+1) o! x hh y_hh a_hh)
def w_isName (text:List UInt8):Bool:=(bif (decide (text=[])) then false else (bif (decide (16<((List.length text:Nat):Int))) then false else (match (w_isName_l0 text (List.length text) 0) with | none=>true | some rr4=>rr4)))
theorem w_isName_c {d:Nat} {h:Heap} (text:List UInt8) (h_text:text.length<2^60) (y_h:Tidy h):cal (d+1) (.fn 50) [(AV.str text)] h= .ret (AV.bool (w_isName text)) h:=by
 rcases Bool.eq_false_or_eq_true (decide (text=[])) with f0 | f0
 · have n_f0:=of_decide_eq_true f0
   have ev:=pk (d) w_isName_body ((AV.str text)::und 54) h .ret h (CN 2<|VV (seql 9 false true text [])<|CC<|BB f0<|BB f0<|BB f0<|VV (pick_t (a:=some (AV.bool true)) (b:=some AV.undef) f0)<|TT<|CC<|ZZ) k!
   have e:w_isName text=false:=by simp only[w_isName,f0,cond_true,cond_false]
   rw[e]
   exact callP_pure rfl (fn_of Tryz.func50 w_isName_B k! (.inr rfl) ev k!) (Has.refl _) rfl
 · have n_f0:=of_decide_eq_false f0
   rcases Bool.eq_false_or_eq_true (decide (16<((List.length text:Nat):Int))) with f1 | f1
   · have n_f1:=of_decide_eq_true f1
     have sn2:text.length<2^60:=h_text
     have ev:=pk (d) w_isName_body ((AV.str text)::und 54) h .ret h (CN 2<|VV (seql 9 false true text [])<|CC<|BB f0<|CC<|BB f0<|CC<|BB f0<|VV (igtr 3 false true .i64 ((List.length text:Nat):Int) 16)<|VV (pick_f (a:=some (AV.bool true)) (b:=some (AV.bool (decide (16<((List.length text:Nat):Int))))) f0)<|BB f1<|CC<|ZZ) k!
     have e:w_isName text=false:=by simp only[w_isName,f0,f1,cond_true,cond_false]
     rw[e]
     exact callP_pure rfl (fn_of Tryz.func50 w_isName_B k! (.inr rfl) ev k!) (Has.refl _) rfl
   · have n_f1:=of_decide_eq_false f1
     cases hl_yl4:w_isName_l0 text (List.length text) 0 with
     | none=>
       have sn2:text.length<2^60:=h_text
       obtain ⟨yl4,h5,ev_yl4,G_h5⟩:=OptLoop.n hl_yl4 (w_isName_l0_t (d:=d) (h:=h) text h_text (List.length text) 0 o! (fun k_=>(((AV.str text)::AV.undef::(AV.bool false)::AV.undef::AV.undef::AV.undef::(AV.str text)::(AV.bool (decide (text=[])))::(AV.bool (decide (text=[])))::(AV.str text)::(AV.int .i64 ((List.length text:Nat):Int))::(AV.bool (decide (16<((List.length text:Nat):Int))))::(AV.bool (decide (16<((List.length text:Nat):Int))))::(AV.str text)::(AV.int .i64 ((List.length text:Nat):Int))::(AV.int .i64 0)::und 39):List AV).getD k_ AV.undef) h y_h (Has.refl _))
       have y_h5:=G_h5.y
       have m_h5:h.nx≤h5.nx:=G_h5.n
       have a_h5:Has h h5:=G_h5.a
       have ev:=pk (d) w_isName_body ((AV.str text)::und 54) h .ret h5 (CN 2<|VV (seql 9 false true text [])<|CC<|BB f0<|CC<|BB f0<|CC<|BB f0<|VV (igtr 3 false true .i64 ((List.length text:Nat):Int) 16)<|VV (pick_f (a:=some (AV.bool true)) (b:=some (AV.bool (decide (16<((List.length text:Nat):Int))))) f0)<|BB f1<|CN 3<|LL ev_yl4<|CC<|ZZ) k!
       have e:w_isName text=true:=by simp only[w_isName,f0,f1,hl_yl4,cond_true,cond_false]
       rw[e]
       exact callP_pure rfl (fn_of Tryz.func50 w_isName_B k! (.inr rfl) ev k!) a_h5 rfl
     | some rr4=>
       have sn2:text.length<2^60:=h_text
       obtain ⟨yl4,h5,ev_yl4,G_h5⟩:=OptLoop.r hl_yl4 (w_isName_l0_t (d:=d) (h:=h) text h_text (List.length text) 0 o! (fun k_=>(((AV.str text)::AV.undef::(AV.bool false)::AV.undef::AV.undef::AV.undef::(AV.str text)::(AV.bool (decide (text=[])))::(AV.bool (decide (text=[])))::(AV.str text)::(AV.int .i64 ((List.length text:Nat):Int))::(AV.bool (decide (16<((List.length text:Nat):Int))))::(AV.bool (decide (16<((List.length text:Nat):Int))))::(AV.str text)::(AV.int .i64 ((List.length text:Nat):Int))::(AV.int .i64 0)::und 39):List AV).getD k_ AV.undef) h y_h (Has.refl _))
       have y_h5:=G_h5.y
       have m_h5:h.nx≤h5.nx:=G_h5.n
       have a_h5:Has h h5:=G_h5.a
       have ev:=pk (d) w_isName_body ((AV.str text)::und 54) h .ret h5 (CN 2<|VV (seql 9 false true text [])<|CC<|BB f0<|CC<|BB f0<|CC<|BB f0<|VV (igtr 3 false true .i64 ((List.length text:Nat):Int) 16)<|VV (pick_f (a:=some (AV.bool true)) (b:=some (AV.bool (decide (16<((List.length text:Nat):Int))))) f0)<|BB f1<|CN 3<|LL ev_yl4<|ZZ) k!
       have e:w_isName text=rr4:=by simp only[w_isName,f0,f1,hl_yl4,cond_true,cond_false]
       rw[e]
       exact callP_pure rfl (fn_of Tryz.func50 w_isName_B k! (.inr rfl) ev k!) a_h5 rfl
noncomputable def w_isUpTo_body:Code:=(Tryz.f54.body).getD .skip
theorem w_isUpTo_B:Tryz.f54.body=some w_isUpTo_body:=by kernel_rfl
def w_isUpTo (x_:Int) (most:Int):Bool:=(bif (decide (0≤x_)) then (decide (x_≤most)) else false)
theorem w_isUpTo_c {d:Nat} {h:Heap} (x_:Int) (most:Int) (y_h:Tidy h):cal (d+1) (.fn 54) [(AV.int .i64 x_),(AV.int .i64 most)] h= .ret (AV.bool (w_isUpTo x_ most)) h:=by
 rcases Bool.eq_false_or_eq_true (decide (0≤x_)) with f0 | f0
 · have n_f0:=of_decide_eq_true f0
   have ev:=pk (d) w_isUpTo_body ((AV.int .i64 x_)::(AV.int .i64 most)::und 10) h .ret h (CN 2<|VV (igeq 3 false true .i64 x_ 0)<|CC<|BB f0<|CC<|BB f0<|CC<|BB f0<|VV (ileq 3 false false .i64 x_ most)<|VV (pick_t (a:=some (AV.bool (decide (x_≤most)))) (b:=some (AV.bool false)) f0)<|CC<|ZZ) k!
   have e:w_isUpTo x_ most=(decide (x_≤most)):=by simp only[w_isUpTo,f0,cond_true,cond_false]
   rw[e]
   exact callP_pure rfl (fn_of Tryz.func54 w_isUpTo_B k! (.inr rfl) ev k!) (Has.refl _) rfl
 · have n_f0:=of_decide_eq_false f0
   have ev:=pk (d) w_isUpTo_body ((AV.int .i64 x_)::(AV.int .i64 most)::und 10) h .ret h (CN 2<|VV (igeq 3 false true .i64 x_ 0)<|CC<|BB f0<|BB f0<|BB f0<|VV (pick_f (a:=some AV.undef) (b:=some (AV.bool false)) f0)<|CC<|ZZ) k!
   have e:w_isUpTo x_ most=false:=by simp only[w_isUpTo,f0,cond_true,cond_false]
   rw[e]
   exact callP_pure rfl (fn_of Tryz.func54 w_isUpTo_B k! (.inr rfl) ev k!) (Has.refl _) rfl
noncomputable def w_isTime_body:Code:=(Tryz.f27.body).getD .skip
theorem w_isTime_B:Tryz.f27.body=some w_isTime_body:=by kernel_rfl
def w_isTime (t:Int):Bool:=(w_isUpTo t 100000)
theorem w_isTime_c {d:Nat} {h:Heap} (t:Int) (y_h:Tidy h):cal (d+2) (.fn 27) [(AV.int .i64 t)] h= .ret (AV.bool (w_isTime t)) h:=by
 have k1:=w_isUpTo_c (d:=d) t 100000 y_h
 have ev:=pk (d+1) w_isTime_body ((AV.int .i64 t)::und 4) h .ret h (CN 2<|EE k1<|CC<|ZZ) k!
 have e:w_isTime t=(w_isUpTo t 100000):=by simp only[w_isTime,cond_true,cond_false]
 rw[e]
 exact callP_pure rfl (fn_of Tryz.func27 w_isTime_B k! (.inr rfl) ev k!) (Has.refl _) rfl
end Go.Proofs.Bench
