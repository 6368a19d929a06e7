import Derived.Test.YtjohpcpopggbkaaGreatW0
import Derived.Test.YtjohpcpopggbkaaGreatW3
import Derived.Test.YtjohpcpopggbkaaGreatW2
namespace Go.Proofs.aW
open Go.Proofs Ab
set_option maxRecDepth 100000
set_option maxHeartbeats 4000000
set_option linter.unusedVariables false
set_option linter.unusedSimpArgs false
noncomputable def kr:Code:=(Tryz.f9.body).getD .skip
theorem wR:Tryz.f9.body=some kr:=by kernel_rfl
noncomputable def oh:Code:=(cP kr).getD 0 .skip
def fC (t:aH) (l_:List aw):Nat→Nat→List Int→List Int
 | 0,_,uU=>uU
 | dC+1,i0,uU=>fC t l_ dC (i0+1) (uU++[(b7 (⟨.aF,t.rows,t.rest,t.day,.aF,(aR (l_.take i0) ((l_.g i0).worker)),((l_.g i0).worker),((l_.g i0).ab),((l_.g i0).aD),((l_.g i0).leave),((l_.g i0).out)⟩:dV))])
theorem qC {d:Nat} {h:aq} (bk:AV) (l_:List aw) (t:aH) (bU:Nat) (bC:bf h bk l_) (fw:bf h t.ar t.rows) (j_:aG.ok h t) (wQ:l_.length≤128) (di:Tidy h) (cg:h.get bU=some (aP.cells [t.ar,(AV.int .i64 t.rest),(AV.int .i64 t.day)] 24 false)):∀(k_ i_:Nat) (uU:List Int) (z0:AV) (_:i_+k_=l_.length) (x:Nat→AV) (hh:aq) (aX:Tidy hh) (a_:Has h hh) (B_:h.nx≤hh.nx) (Kn:gd 40 h hh z0 (zs .u8 uU)) (R_:uU.length≤i_),jC (dH (d+7)) oh ⟨((x 0)::bk::(AV.ptr bU 0)::rx x 3 4 (z0::rx x 8 8 (bk::(AV.int .i64 ((l_.length:Nat):Int))::(AV.int .i64 ((i_:Nat):Int))::rx x 19 19 []))),hh,[],.no⟩ (.exit 0) h 40 (fun r z y=>((y 0)::bk::(AV.ptr bU 0)::rx y 3 4 (z::rx y 8 8 (bk::(AV.int .i64 ((l_.length:Nat):Int))::rx y 18 20 [])))) (fun r=>zs .u8 r) l_.length (fC t l_ k_ i_ uU)
 | 0,i0,uU,z0,pB,x,hh,aX,a_,B_,Kn,R_=>by
   have eQ:=bC.small
   have mf:=fw.small
   have rh:=di _ _ cg
   have q1:(decide (((i0:Nat):Int)<((l_.length:Nat):Int)))=false:=d!
   have ev:=pk (d+7) oh ((x 0)::bk::(AV.ptr bU 0)::rx x 3 4 (z0::rx x 8 8 (bk::(AV.int .i64 ((l_.length:Nat):Int))::(AV.int .i64 ((i0:Nat):Int))::rx x 19 19 []))) hh (.exit 0) hh (VV (bz 3 false false .i64 ((i0:Nat):Int) ((l_.length:Nat):Int))<|BB q1<|ZZ) k!
   exact jC.out uU z0 rfl ev ⟨aX,a_,by omega⟩ Kn (by show (zs _ _).length≤_;rw[kW];omega) k!
 | dC+1,i0,uU,z0,pB,x,hh,aX,a_,B_,Kn,R_=>by
   have eQ:=bC.small
   have mf:=fw.small
   have rh:=di _ _ cg
   have q1:(decide (((i0:Nat):Int)<((l_.length:Nat):Int)))=true:=d!
   obtain ⟨p3,q4,kH⟩:=(bC.has a_).elem (i:=i0) o!
   have kO:ep env (some (.slice 34)) (some bk) (some (AV.int .i64 ((i0:Nat):Int)))=some (AV.ptr p3 q4):=kH
   have pC:b9 env hh 34 (AV.ptr p3 q4)=some (AV.agg [(AV.str ((l_.g i0).worker)),(AV.int .i64 ((l_.g i0).ab)),(AV.int .i64 ((l_.g i0).aD)),(AV.int .i64 ((l_.g i0).leave)),(AV.int .i64 ((l_.g i0).out))]):=(bC.has a_).load o! kH
   obtain ⟨h6,jI,oK,F3,oL,bQ⟩:=jA aX (aP.cells [(AV.str []),(AV.int .i64 0),(AV.int .i64 0),(AV.int .i64 0),(AV.int .i64 0)] 34 false)
   have oc:Has hh h6:=bQ
   obtain ⟨h7,lF,jm,F1,b6,dR⟩:=lC (t:=34) (n:=5) (i:=hh.nx) (L:=[(AV.str ((l_.g i0).worker)),(AV.int .i64 ((l_.g i0).ab)),(AV.int .i64 ((l_.g i0).aD)),(AV.int .i64 ((l_.g i0).leave)),(AV.int .i64 ((l_.g i0).out))]) oK oL k! rfl rfl (by simp only[AV.cells,List.all_cons,List.all_nil,Bool.and_true,Bool.and_self,dL,cO,dM,dN,cu,fQ,fR,fS,fT,fU,dO])
   have fh:Has hh h7:=Has.ca oc dR aX o!
   obtain ⟨r8,Jb,Jc⟩:=(bC.has a_).pre (t:=25) k! (i:=i0) o!
   have Pf:eY env 25 bk (none) (some (AV.int .i64 ((i0:Nat):Int))) (none)=some r8:=Jb
   obtain ⟨Na,il,Sc,B',Pp⟩:=pI (d:=d+6) (l_.take i0) ((l_.g i0).worker) (Jc.has fh) ((bC.has a_).ok (i:=i0) o!) (by first | omega | assumption | (simp only[List.length_set,List.length_replicate,List.length_append,List.length_cons,List.length_nil,List.nil_append]<;>omega) | (rw[List.length_take];omega)) jm
   have sw:=B'.y
   have W7:h7.nx≤il.nx:=B'.n
   have qD:Has hh il:=fh.trans B'.a
   have VG:=Pp.small
   have VH:sW env 82 [(0,(AV.agg [t.ar,(AV.int .i64 t.rest),(AV.int .i64 t.day)])),(1,Na),(2,(AV.agg [(AV.str ((l_.g i0).worker)),(AV.int .i64 ((l_.g i0).ab)),(AV.int .i64 ((l_.g i0).aD)),(AV.int .i64 ((l_.g i0).leave)),(AV.int .i64 ((l_.g i0).out))]))]=some (AV.agg [t.ar,(AV.int .i64 t.rest),(AV.int .i64 t.day),Na,(AV.str ((l_.g i0).worker)),(AV.int .i64 ((l_.g i0).ab)),(AV.int .i64 ((l_.g i0).aD)),(AV.int .i64 ((l_.g i0).leave)),(AV.int .i64 ((l_.g i0).out))]):=by rcases Pp.known with e_ | e_ | ⟨_,_,_,_,_,e_,_⟩<;>rw[e_]<;>kernel_rfl
   have Qh:(dH (d+7)) (.fn 25) [(AV.agg [t.ar,(AV.int .i64 t.rest),(AV.int .i64 t.day),Na,(AV.str ((l_.g i0).worker)),(AV.int .i64 ((l_.g i0).ab)),(AV.int .i64 ((l_.g i0).aD)),(AV.int .i64 ((l_.g i0).leave)),(AV.int .i64 ((l_.g i0).out))])] il= .ret (AV.int .u8 (b7 (⟨.aF,t.rows,t.rest,t.day,.aF,(aR (l_.take i0) ((l_.g i0).worker)),((l_.g i0).worker),((l_.g i0).ab),((l_.g i0).aD),((l_.g i0).leave),((l_.g i0).out)⟩:dV))) il:=by have q_:=yQ (d:=d+1) (⟨t.ar,t.rows,t.rest,t.day,Na,(aR (l_.take i0) ((l_.g i0).worker)),((l_.g i0).worker),((l_.g i0).ab),((l_.g i0).aD),((l_.g i0).leave),((l_.g i0).out)⟩:dV) ⟨((fw.has a_).has qD),Pp,((bC.has a_).ok (i:=i0) o!)⟩ sw;rw[yR] at q_;exact q_
   obtain ⟨qo,qE,Jj,Sd,jg,eS⟩:=jA sw (aP.cells [(AV.int .u8 (b7 (⟨.aF,t.rows,t.rest,t.day,.aF,(aR (l_.take i0) ((l_.g i0).worker)),((l_.g i0).worker),((l_.g i0).ab),((l_.g i0).aD),((l_.g i0).leave),((l_.g i0).out)⟩:dV)))] 40 false)
   have sx:Has hh qo:=qD.trans eS
   have tN:Has il qo:=eS
   obtain ⟨ry,mF,mT,uz,Nc,Nd,L6⟩:=gd.RR (k:= .u8) (h0:=h) (tys:= #[37,37]) (v:=(b7 (⟨.aF,t.rows,t.rest,t.day,.aF,(aR (l_.take i0) ((l_.g i0).worker)),((l_.g i0).worker),((l_.g i0).ab),((l_.g i0).aD),((l_.g i0).leave),((l_.g i0).out)⟩:dV))) (L:=uU) Jj di (a_.trans sx) o! (Kn.has sx) jg (by first | omega | (simp<;>omega)) rfl rfl k! k! k! (bytes:=1) k! (z0:=AV.int .u8 0) k! rfl (by decide)
   have W8:AV.same 20 (AV.agg [t.ar,(AV.int .i64 t.rest),(AV.int .i64 t.day)]) (AV.agg [t.ar,(AV.int .i64 t.rest),(AV.int .i64 t.day)])=true:=nq 18 (ve (fw.has a_).same (ve (fun n=>aU n _ _) (ve (fun n=>aU n _ _) Qk)))
   have W9:AV.same 20 (AV.agg [(AV.str ((l_.g i0).worker)),(AV.int .i64 ((l_.g i0).ab)),(AV.int .i64 ((l_.g i0).aD)),(AV.int .i64 ((l_.g i0).leave)),(AV.int .i64 ((l_.g i0).out))]) (AV.agg [(AV.str ((l_.g i0).worker)),(AV.int .i64 ((l_.g i0).ab)),(AV.int .i64 ((l_.g i0).aD)),(AV.int .i64 ((l_.g i0).leave)),(AV.int .i64 ((l_.g i0).out))])=true:=nq 18 (ve (fun n=>iK n _) (ve (fun n=>aU n _ _) (ve (fun n=>aU n _ _) (ve (fun n=>aU n _ _) (ve (fun n=>aU n _ _) Qk)))))
   have Y6:=fV 3 false true i0 1 o!
   have ev:=pk (d+7) oh ((x 0)::bk::(AV.ptr bU 0)::rx x 3 4 (z0::rx x 8 8 (bk::(AV.int .i64 ((l_.length:Nat):Int))::(AV.int .i64 ((i0:Nat):Int))::rx x 19 19 []))) hh .normal mF (VV (bz 3 false false .i64 ((i0:Nat):Int) ((l_.length:Nat):Int))<|BB q1<|CC<|VV kO<|MM pC<|NN jI (fun i=>(AV.ptr i 0))<|CC<|SS lF<|CC<|MM (au 24 0 (AV.agg [t.ar,(AV.int .i64 t.rest),(AV.int .i64 t.day)]) (dR _ _ o! (bQ _ _ (a_ _ _ cg))) k!)<|CN 2<|QQ Pf<|CC<|MM (au 9 0 (AV.str ((l_.g i0).worker)) b6 k!)<|MM (au 34 0 (AV.agg [(AV.str ((l_.g i0).worker)),(AV.int .i64 ((l_.g i0).ab)),(AV.int .i64 ((l_.g i0).aD)),(AV.int .i64 ((l_.g i0).leave)),(AV.int .i64 ((l_.g i0).out))]) b6 k!)<|EE Sc<|QQ VH<|EE Qh<|NN qE (fun i=>(AV.slice i 0 1 1 false))<|PP (show bN env qo #[37,37] z0 (AV.slice il.nx 0 1 1 false)=some (ry,mF) from mT)<|CC<|HH (au 24 0 (AV.agg [t.ar,(AV.int .i64 t.rest),(AV.int .i64 t.day)]) (dR _ _ o! (bQ _ _ (a_ _ _ cg))) k!)<|HH W8<|HH (au 24 0 (AV.agg [t.ar,(AV.int .i64 t.rest),(AV.int .i64 t.day)]) (B'.a _ _ (dR _ _ o! (bQ _ _ (a_ _ _ cg)))) k!)<|HH W8<|HH (au 9 0 (AV.str ((l_.g i0).worker)) b6 k!)<|HH (show AV.same 20 (AV.str ((l_.g i0).worker)) (AV.str ((l_.g i0).worker))=true from iK 19 _)<|HH (au 34 0 (AV.agg [(AV.str ((l_.g i0).worker)),(AV.int .i64 ((l_.g i0).ab)),(AV.int .i64 ((l_.g i0).aD)),(AV.int .i64 ((l_.g i0).leave)),(AV.int .i64 ((l_.g i0).out))]) b6 k!)<|HH W9<|HH (au 34 0 (AV.agg [(AV.str ((l_.g i0).worker)),(AV.int .i64 ((l_.g i0).ab)),(AV.int .i64 ((l_.g i0).aD)),(AV.int .i64 ((l_.g i0).leave)),(AV.int .i64 ((l_.g i0).out))]) (B'.a _ _ b6) k!)<|HH W9<|HH (show ∃o,qo.get il.nx=some o∧aP.same o (aP.cells [(AV.int .u8 (b7 (⟨.aF,t.rows,t.rest,t.day,.aF,(aR (l_.take i0) ((l_.g i0).worker)),((l_.g i0).worker),((l_.g i0).ab),((l_.g i0).aD),((l_.g i0).leave),((l_.g i0).out)⟩:dV)))] 40 false)=true from ⟨_,jg,by simp [aP.same,bG,AV.same]⟩)<|VV Y6<|CC<|ZZ) k!
   exact jC.round (by simp only[fC,cond_true,cond_false]) ev (fun x=>((x 0)::bk::(AV.ptr bU 0)::rx x 3 4 (ry::rx x 8 8 (bk::(AV.int .i64 ((l_.length:Nat):Int))::(AV.int .i64 (((i0+1):Nat):Int))::rx x 19 19 [])))) k! (fun x=>qC bk l_ t bU bC fw j_ wQ di cg dC (i0+1) (uU++[(b7 (⟨.aF,t.rows,t.rest,t.day,.aF,(aR (l_.take i0) ((l_.g i0).worker)),((l_.g i0).worker),((l_.g i0).ab),((l_.g i0).aD),((l_.g i0).leave),((l_.g i0).out)⟩:dV))]) ry o! x mF uz Nd o! L6 (by first | omega | (simp<;>omega)))
def aC (t:aH) (l_:List aw):List Int×Int:=(bif (!decide ((bl t l_)=0)) then ([],(bl t l_)) else ((fC t l_ l_.length 0 ([])),0))
theorem ri {d:Nat} {h:aq} {bk:AV} (t:aH) (l_:List aw) (g6:aG.ok h t) (cR:bf h bk l_) (di:Tidy h):∃z hk,dH (d+8) (.fn 9) [(AV.agg [t.ar,(AV.int .i64 t.rest),(AV.int .i64 t.day)]),bk] h= .ret (AV.tuple [z,(AV.int .i64 ((aC t l_).2))]) hk∧b4 h hk∧ff hk .u8 40 z (aC t l_).1∧gd 40 h hk z (zs .u8 (aC t l_).1):=by
 have pH:=cR.small
 obtain ⟨h1,bJ,cK,lD,aO,dI⟩:=jA di (aP.cells [t.ar,(AV.int .i64 t.rest),(AV.int .i64 t.day)] 24 false)
 have bR:Has h h1:=dI
 have k2:=wN (d:=d) t l_ (aG.mono bR g6) (cR.has bR) cK
 rcases Bool.eq_false_or_eq_true (!decide ((bl t l_)=0)) with f0 | f0
 · have dY:=qZ f0
   have ev:=pk (d+7) kr ((AV.agg [t.ar,(AV.int .i64 t.rest),(AV.int .i64 t.day)])::bk::cx 36) h .ret h1 (NN bJ (fun i=>(AV.ptr i 0))<|CN 2<|MM (au 24 0 (AV.agg [t.ar,(AV.int .i64 t.rest),(AV.int .i64 t.day)]) aO k!)<|CC<|EE k2<|CN 2<|VV (cJ 30 false true .i64 (bl t l_) 0)<|BB f0<|CN 3<|ZZ) k!
   have e:aC t l_=([],(bl t l_)):=by simp only[aC,f0,cond_true,cond_false]
   rw[e]
   exact ⟨.aF,gC rfl (bb Tryz.func9 wR k! (.inr rfl) ev k!) di ⟨cK,bR,by omega⟩ (P:=fun hh=>ff hh .u8 40 .aF []∧gd 40 h hh .aF (zs .u8 [])) ⟨ff.nil k! k!,.inl ⟨rfl,rfl⟩⟩ fun _=>⟨ff.nil k! k!,.inl ⟨rfl,rfl⟩⟩⟩
 · have dY:=ra f0
   have T4:=kb dY
   have GU:dU (some (.slice 34)) (some bk)=some (AV.int .i64 ((l_.length:Nat):Int)):=cR.len
   obtain ⟨VI,Z8,h6,Pq,Pr,Y7,Y8⟩:=qC (d:=d) (h:=h1) bk l_ t h.nx (cR.has bR) (g6.has bR) (aG.mono bR g6) o! cK aO l_.length 0 ([]) AV.aF o! (fun k_=>(((AV.agg [t.ar,(AV.int .i64 t.rest),(AV.int .i64 t.day)])::bk::(AV.ptr h.nx 0)::AV.undef::AV.aF::(AV.int .i64 0)::(AV.int .i64 (bl t l_))::AV.aF::AV.undef::AV.undef::(AV.agg [t.ar,(AV.int .i64 t.rest),(AV.int .i64 t.day)])::bk::(AV.int .i64 (bl t l_))::(AV.int .i64 (bl t l_))::(AV.bool (!decide ((bl t l_)=0)))::AV.undef::bk::(AV.int .i64 ((l_.length:Nat):Int))::(AV.int .i64 0)::cx 19):List AV).getD k_ AV.undef) h1 cK (Has.refl _) (Nat.le_refl _) (.inl ⟨rfl,rfl⟩) (Nat.zero_le _)
   rw[kW] at Y8
   have oK:=Pr.y
   have Y9:h1.nx≤h6.nx:=Pr.n
   have oc:Has h h6:=bR.trans Pr.a
   have ev:=pk (d+7) kr ((AV.agg [t.ar,(AV.int .i64 t.rest),(AV.int .i64 t.day)])::bk::cx 36) h .ret h6 (NN bJ (fun i=>(AV.ptr i 0))<|CN 2<|MM (au 24 0 (AV.agg [t.ar,(AV.int .i64 t.rest),(AV.int .i64 t.day)]) aO k!)<|CC<|EE k2<|CN 2<|VV (cJ 30 false true .i64 (bl t l_) 0)<|BB f0<|CN 2<|VV GU<|CC<|LL Pq<|CN 3<|ZZ) k!
   have e:aC t l_=((fC t l_ l_.length 0 ([])),0):=by simp only[aC,f0,cond_true,cond_false]
   rw[e]
   have oz:=gd.le (h0:=h) Y7 o!
   exact ⟨VI,gC rfl (bb Tryz.func9 wR k! (.inr rfl) ev k!) di ⟨oK,oc,by omega⟩ (P:=fun hh=>ff hh .u8 40 VI (fC t l_ l_.length 0 ([]))∧gd 40 h hh VI (zs .u8 (fC t l_ l_.length 0 ([])))) ⟨oz.zs o! k! k!,oz⟩ fun v=>⟨oz.EB (mE v) k! k!,oz.EF (mE v)⟩⟩
noncomputable def mG:Code:=(Tryz.f53.body).getD .skip
theorem wV:Tryz.f53.body=some mG:=by kernel_rfl
def eD (f:Int):Bool:=(!decide (f=0))
theorem wX {d:Nat} {h:aq} (f:Int) (di:Tidy h):dH (d+1) (.fn 53) [(AV.int .u8 f)] h= .ret (AV.bool (eD f)) h:=by
 have ev:=pk (d) mG ((AV.int .u8 f)::cx 4) h .ret h (CN 2<|VV (cJ 40 false true .u8 f 0)<|CC<|ZZ) k!
 have e:eD f=(!decide (f=0)):=by simp only[eD,cond_true,cond_false]
 rw[e]
 exact ay rfl (bb Tryz.func53 wV k! (.inr rfl) ev k!) (Has.refl _) rfl
noncomputable def gY:Code:=(Tryz.f99.body).getD .skip
theorem pJ:Tryz.f99.body=some gY:=by kernel_rfl
noncomputable def ig:Code:=(cP gY).getD 0 .skip
def dh (s:List Int) (P:Int→Bool):Nat→Nat→Option (Int)
 | 0,_=>none
 | dC+1,i0=>(bif (P (s.g i0)) then some ((i0:Nat):Int) else dh s P dC (i0+1))
theorem jM {d:Nat} {h:aq} (sV:AV) (g:FuncId) (cap:List AV) (s:List Int) (P:Int→Bool) (bC:ff h .u8 40 sV s) (hP:∀y hh,Tidy hh→Has h hh→dH d (.fn g) (.int .u8 y::cap) hh= .ret (.bool (P y)) hh):∀(k_ i_:Nat) (_:i_+k_=s.length) (x:Nat→AV) (hh:aq) (aX:Tidy hh) (a_:Has h hh),aS (dH (d)) ig ⟨(sV::(AV.func g [] cap)::rx x 2 5 ((AV.int .i64 ((s.length:Nat):Int))::(AV.int .i64 ((i_:Nat):Int))::rx x 9 10 [])),hh,[],.no⟩ (.exit 0) hh (fun y=>(sV::(AV.func g [] cap)::rx y 2 5 ((AV.int .i64 ((s.length:Nat):Int))::rx y 8 11 []))) (fun r y=>(sV::(AV.func g [] cap)::(y 2)::(y 3)::(AV.int .i64 r)::(y 5)::(y 6)::(AV.int .i64 ((s.length:Nat):Int))::rx y 8 11 [])) (dh s P k_ i_)
 | 0,i0,pB,x,hh,aX,a_=>by
   have eQ:=bC.small
   have q1:(decide (((i0:Nat):Int)<((s.length:Nat):Int)))=false:=d!
   have ev:=pk (d) ig (sV::(AV.func g [] cap)::rx x 2 5 ((AV.int .i64 ((s.length:Nat):Int))::(AV.int .i64 ((i0:Nat):Int))::rx x 9 10 [])) hh (.exit 0) hh (VV (bz 3 false false .i64 ((i0:Nat):Int) ((s.length:Nat):Int))<|BB q1<|ZZ) k!
   exact aS.out rfl ev (b4.refl aX) k!
 | dC+1,i0,pB,x,hh,aX,a_=>by
   have eQ:=bC.small
   have q1:(decide (((i0:Nat):Int)<((s.length:Nat):Int)))=true:=d!
   obtain ⟨p3,q4,kH,_⟩:=(bC.has a_).elem (i:=i0) o!
   have kO:ep env (some (.slice 40)) (some sV) (some (AV.int .i64 ((i0:Nat):Int)))=some (AV.ptr p3 q4):=kH
   have pC:b9 env hh 40 (AV.ptr p3 q4)=some (AV.int .u8 (s.g i0)):=(bC.has a_).load o! kH
   have k6:=hP (s.g i0) hh aX a_
   rcases Bool.eq_false_or_eq_true (P (s.g i0)) with f1 | f1
   · have ev:=pk (d) ig (sV::(AV.func g [] cap)::rx x 2 5 ((AV.int .i64 ((s.length:Nat):Int))::(AV.int .i64 ((i0:Nat):Int))::rx x 9 10 [])) hh .ret hh (VV (bz 3 false false .i64 ((i0:Nat):Int) ((s.length:Nat):Int))<|BB q1<|CN 5<|VV kO<|MM pC<|EE k6<|BB f1<|CN 2<|ZZ) k!
     exact aS.ret ((i0:Nat):Int) (by simp only[dh,f1,cond_true,cond_false]) ev (b4.refl aX) k!
   · have u8:=fV 3 false true i0 1 o!
     have ev:=pk (d) ig (sV::(AV.func g [] cap)::rx x 2 5 ((AV.int .i64 ((s.length:Nat):Int))::(AV.int .i64 ((i0:Nat):Int))::rx x 9 10 [])) hh .normal hh (VV (bz 3 false false .i64 ((i0:Nat):Int) ((s.length:Nat):Int))<|BB q1<|CN 5<|VV kO<|MM pC<|EE k6<|BB f1<|VV u8<|CC<|ZZ) k!
     exact aS.round (by simp only[dh,f1,cond_true,cond_false]) ev (b4.refl aX) (fun x=>(sV::(AV.func g [] cap)::rx x 2 5 ((AV.int .i64 ((s.length:Nat):Int))::(AV.int .i64 (((i0+1):Nat):Int))::rx x 9 10 []))) k! (fun x=>jM sV g cap s P bC hP dC (i0+1) o! x hh aX a_)
def eE (s:List Int) (P:Int→Bool):Int:=(match (dh s P s.length 0) with | none=>(-1) | some I5=>I5)
theorem wY {d:Nat} {h:aq} {sV:AV} {g:FuncId} {cap:List AV} (s:List Int) (P:Int→Bool) (jl:ff h .u8 40 sV s) (hP:∀y hh,Tidy hh→Has h hh→dH d (.fn g) (.int .u8 y::cap) hh= .ret (.bool (P y)) hh) (di:Tidy h):dH (d+1) (.fn 99) [sV,(AV.func g [] cap)] h= .ret (AV.int .i64 (eE s P)) h:=by
 have M9:=jl.small
 have jG:dU (some (.slice 40)) (some sV)=some (AV.int .i64 ((s.length:Nat):Int)):=jl.len
 cases jH:dh s P s.length 0 with
 | none=>
   obtain ⟨O',h3,hH,ib⟩:=aS.n jH (jM (d:=d) (h:=h) sV g cap s P jl hP s.length 0 o! (fun k_=>((sV::(AV.func g [] cap)::AV.undef::AV.undef::(AV.int .i64 0)::AV.undef::sV::(AV.int .i64 ((s.length:Nat):Int))::(AV.int .i64 0)::cx 10):List AV).getD k_ AV.undef) h di (Has.refl _))
   have ql:=ib.y
   have Dn:h.nx≤h3.nx:=ib.n
   have kY:Has h h3:=ib.a
   have ev:=pk (d) gY (sV::(AV.func g [] cap)::cx 17) h .ret h3 (CN 2<|VV jG<|CC<|LL hH<|CC<|ZZ) k!
   have e:eE s P=(-1):=by simp only[eE,jH,cond_true,cond_false]
   rw[e]
   exact ay rfl (bb Tryz.func99 pJ k! (.inr rfl) ev k!) kY rfl
 | some I5=>
   obtain ⟨O',h3,hH,ib⟩:=aS.r jH (jM (d:=d) (h:=h) sV g cap s P jl hP s.length 0 o! (fun k_=>((sV::(AV.func g [] cap)::AV.undef::AV.undef::(AV.int .i64 0)::AV.undef::sV::(AV.int .i64 ((s.length:Nat):Int))::(AV.int .i64 0)::cx 10):List AV).getD k_ AV.undef) h di (Has.refl _))
   have ql:=ib.y
   have Dn:h.nx≤h3.nx:=ib.n
   have kY:Has h h3:=ib.a
   have ev:=pk (d) gY (sV::(AV.func g [] cap)::cx 17) h .ret h3 (CN 2<|VV jG<|CC<|LL hH<|ZZ) k!
   have e:eE s P=I5:=by simp only[eE,jH,cond_true,cond_false]
   rw[e]
   exact ay rfl (bb Tryz.func99 pJ k! (.inr rfl) ev k!) kY rfl
noncomputable def kK:Code:=(Tryz.f52.body).getD .skip
theorem sy:Tryz.f52.body=some kK:=by kernel_rfl
def fj (s:List Int) (P:Int→Bool):Bool:=(decide (0≤(eE s P)))
theorem sA {d:Nat} {h:aq} {sV:AV} {g:FuncId} {cap:List AV} (s:List Int) (P:Int→Bool) (jl:ff h .u8 40 sV s) (hP:∀y hh,Tidy hh→Has h hh→dH d (.fn g) (.int .u8 y::cap) hh= .ret (.bool (P y)) hh) (di:Tidy h):dH (d+2) (.fn 52) [sV,(AV.func g [] cap)] h= .ret (AV.bool (fj s P)) h:=by
 have M9:=jl.small
 have k1:=wY (d:=d) s P jl hP di
 have ev:=pk (d+1) kK (sV::(AV.func g [] cap)::cx 7) h .ret h (CN 3<|EE k1<|VV (dx 3 false true .i64 (eE s P) 0)<|CC<|ZZ) k!
 have e:fj s P=(decide (0≤(eE s P))):=by simp only[fj,cond_true,cond_false]
 rw[e]
 exact ay rfl (bb Tryz.func52 sy k! (.inr rfl) ev k!) (Has.refl _) rfl
noncomputable def cS:Code:=(Tryz.f20.body).getD .skip
theorem eH:Tryz.f20.body=some cS:=by kernel_rfl
def bx (t:aH) (l_:List aw) (worker:List UInt8) (ab:Int) (ae:Int) (ready:Int):Int:=(bif (!decide (((aC t l_).2)=0)) then ((aC t l_).2) else (bif (fj ((aC t l_).1) (fun y=>eD y)) then 8 else (bif (!(dK worker)) then 5 else (bif (!(bq ab)) then 1 else (bif (!(bq ae)) then 1 else (bif (!(bq ready)) then 1 else (bif (decide (ae=0)) then 1 else 0)))))))
theorem xY {d:Nat} {h:aq} {bk:AV} (t:aH) (l_:List aw) (worker:List UInt8) (ab:Int) (ae:Int) (ready:Int) (g6:aG.ok h t) (cR:bf h bk l_) (cA:worker.length<2^60) (di:Tidy h):dH (d+11) (.fn 20) [(AV.agg [t.ar,(AV.int .i64 t.rest),(AV.int .i64 t.day)]),bk,(AV.str worker),(AV.int .i64 ab),(AV.int .i64 ae),(AV.int .i64 ready)] h= .ret (AV.int .i64 (bx t l_ worker ab ae ready)) h:=by
 have pH:=cR.small
 obtain ⟨h1,bJ,cK,lD,aO,dI⟩:=jA di (aP.cells [t.ar,(AV.int .i64 t.rest),(AV.int .i64 t.day)] 24 false)
 have bR:Has h h1:=dI
 obtain ⟨z2,h4,Ca,Ps,W_,Y_⟩:=ri (d:=d+2) t l_ (aG.mono bR g6) (cR.has bR) cK
 have qm:=Ps.y
 have Y':h1.nx≤h4.nx:=Ps.n
 have lf:Has h h4:=bR.trans Ps.a
 have Xa:=W_.small
 rcases Bool.eq_false_or_eq_true (!decide (((aC t l_).2)=0)) with f0 | f0
 · have dY:=qZ f0
   have ev:=pk (d+10) cS ((AV.agg [t.ar,(AV.int .i64 t.rest),(AV.int .i64 t.day)])::bk::(AV.str worker)::(AV.int .i64 ab)::(AV.int .i64 ae)::(AV.int .i64 ready)::cx 38) h .ret h4 (NN bJ (fun i=>(AV.ptr i 0))<|CC<|MM (au 24 0 (AV.agg [t.ar,(AV.int .i64 t.rest),(AV.int .i64 t.day)]) aO k!)<|CC<|EE Ca<|CN 6<|VV (cJ 30 false true .i64 ((aC t l_).2) 0)<|CC<|BB f0<|CN 2<|ZZ) k!
   have e:bx t l_ worker ab ae ready=((aC t l_).2):=by simp only[bx,f0,cond_true,cond_false]
   rw[e]
   exact ay rfl (bb Tryz.func20 eH k! (.inr rfl) ev k!) lf rfl
 · have dY:=ra f0
   have k6:=sA (d:=d+8) ((aC t l_).1) (fun y=>eD y) W_ (fun y hh yy aa=>wX (d:=d+7) y yy) qm
   rcases Bool.eq_false_or_eq_true (fj ((aC t l_).1) (fun y=>eD y)) with f1 | f1
   · have ev:=pk (d+10) cS ((AV.agg [t.ar,(AV.int .i64 t.rest),(AV.int .i64 t.day)])::bk::(AV.str worker)::(AV.int .i64 ab)::(AV.int .i64 ae)::(AV.int .i64 ready)::cx 38) h .ret h4 (NN bJ (fun i=>(AV.ptr i 0))<|CC<|MM (au 24 0 (AV.agg [t.ar,(AV.int .i64 t.rest),(AV.int .i64 t.day)]) aO k!)<|CC<|EE Ca<|CN 6<|VV (cJ 30 false true .i64 ((aC t l_).2) 0)<|CC<|BB f0<|CC<|EE k6<|CC<|BB f1<|CC<|ZZ) k!
     have e:bx t l_ worker ab ae ready=8:=by simp only[bx,f0,f1,cond_true,cond_false]
     rw[e]
     exact ay rfl (bb Tryz.func20 eH k! (.inr rfl) ev k!) lf rfl
   · have k8:=wK (d:=d+9) worker cA qm
     rcases Bool.eq_false_or_eq_true (!(dK worker)) with f2 | f2
     · have ev:=pk (d+10) cS ((AV.agg [t.ar,(AV.int .i64 t.rest),(AV.int .i64 t.day)])::bk::(AV.str worker)::(AV.int .i64 ab)::(AV.int .i64 ae)::(AV.int .i64 ready)::cx 38) h .ret h4 (NN bJ (fun i=>(AV.ptr i 0))<|CC<|MM (au 24 0 (AV.agg [t.ar,(AV.int .i64 t.rest),(AV.int .i64 t.day)]) aO k!)<|CC<|EE Ca<|CN 6<|VV (cJ 30 false true .i64 ((aC t l_).2) 0)<|CC<|BB f0<|CC<|EE k6<|CC<|BB f1<|CC<|EE k8<|CN 2<|BB f2<|CC<|ZZ) k!
       have e:bx t l_ worker ab ae ready=5:=by simp only[bx,f0,f1,f2,cond_true,cond_false]
       rw[e]
       exact ay rfl (bb Tryz.func20 eH k! (.inr rfl) ev k!) lf rfl
     · have n9:=cW (d:=d+8) ab qm
       rcases Bool.eq_false_or_eq_true (!(bq ab)) with f3 | f3
       · have ev:=pk (d+10) cS ((AV.agg [t.ar,(AV.int .i64 t.rest),(AV.int .i64 t.day)])::bk::(AV.str worker)::(AV.int .i64 ab)::(AV.int .i64 ae)::(AV.int .i64 ready)::cx 38) h .ret h4 (NN bJ (fun i=>(AV.ptr i 0))<|CC<|MM (au 24 0 (AV.agg [t.ar,(AV.int .i64 t.rest),(AV.int .i64 t.day)]) aO k!)<|CC<|EE Ca<|CN 6<|VV (cJ 30 false true .i64 ((aC t l_).2) 0)<|CC<|BB f0<|CC<|EE k6<|CC<|BB f1<|CC<|EE k8<|CN 2<|BB f2<|CC<|EE n9<|CN 2<|BB f3<|BB f3<|CC<|ZZ) k!
         have e:bx t l_ worker ab ae ready=1:=by simp only[bx,f0,f1,f2,f3,cond_true,cond_false]
         rw[e]
         exact ay rfl (bb Tryz.func20 eH k! (.inr rfl) ev k!) lf rfl
       · have BY:=cW (d:=d+8) ae qm
         rcases Bool.eq_false_or_eq_true (!(bq ae)) with f4 | f4
         · have ev:=pk (d+10) cS ((AV.agg [t.ar,(AV.int .i64 t.rest),(AV.int .i64 t.day)])::bk::(AV.str worker)::(AV.int .i64 ab)::(AV.int .i64 ae)::(AV.int .i64 ready)::cx 38) h .ret h4 (NN bJ (fun i=>(AV.ptr i 0))<|CC<|MM (au 24 0 (AV.agg [t.ar,(AV.int .i64 t.rest),(AV.int .i64 t.day)]) aO k!)<|CC<|EE Ca<|CN 6<|VV (cJ 30 false true .i64 ((aC t l_).2) 0)<|CC<|BB f0<|CC<|EE k6<|CC<|BB f1<|CC<|EE k8<|CN 2<|BB f2<|CC<|EE n9<|CN 2<|BB f3<|CC<|EE BY<|CN 2<|BB f4<|BB f4<|CC<|ZZ) k!
           have e:bx t l_ worker ab ae ready=1:=by simp only[bx,f0,f1,f2,f3,f4,cond_true,cond_false]
           rw[e]
           exact ay rfl (bb Tryz.func20 eH k! (.inr rfl) ev k!) lf rfl
         · have GS:=cW (d:=d+8) ready qm
           rcases Bool.eq_false_or_eq_true (!(bq ready)) with f5 | f5
           · have ev:=pk (d+10) cS ((AV.agg [t.ar,(AV.int .i64 t.rest),(AV.int .i64 t.day)])::bk::(AV.str worker)::(AV.int .i64 ab)::(AV.int .i64 ae)::(AV.int .i64 ready)::cx 38) h .ret h4 (NN bJ (fun i=>(AV.ptr i 0))<|CC<|MM (au 24 0 (AV.agg [t.ar,(AV.int .i64 t.rest),(AV.int .i64 t.day)]) aO k!)<|CC<|EE Ca<|CN 6<|VV (cJ 30 false true .i64 ((aC t l_).2) 0)<|CC<|BB f0<|CC<|EE k6<|CC<|BB f1<|CC<|EE k8<|CN 2<|BB f2<|CC<|EE n9<|CN 2<|BB f3<|CC<|EE BY<|CN 2<|BB f4<|CC<|EE GS<|CN 2<|BB f5<|BB f5<|CC<|ZZ) k!
             have e:bx t l_ worker ab ae ready=1:=by simp only[bx,f0,f1,f2,f3,f4,f5,cond_true,cond_false]
             rw[e]
             exact ay rfl (bb Tryz.func20 eH k! (.inr rfl) ev k!) lf rfl
           · rcases Bool.eq_false_or_eq_true (decide (ae=0)) with f6 | f6
             · have Ao:=of_decide_eq_true f6
               have ev:=pk (d+10) cS ((AV.agg [t.ar,(AV.int .i64 t.rest),(AV.int .i64 t.day)])::bk::(AV.str worker)::(AV.int .i64 ab)::(AV.int .i64 ae)::(AV.int .i64 ready)::cx 38) h .ret h4 (NN bJ (fun i=>(AV.ptr i 0))<|CC<|MM (au 24 0 (AV.agg [t.ar,(AV.int .i64 t.rest),(AV.int .i64 t.day)]) aO k!)<|CC<|EE Ca<|CN 6<|VV (cJ 30 false true .i64 ((aC t l_).2) 0)<|CC<|BB f0<|CC<|EE k6<|CC<|BB f1<|CC<|EE k8<|CN 2<|BB f2<|CC<|EE n9<|CN 2<|BB f3<|CC<|EE BY<|CN 2<|BB f4<|CC<|EE GS<|CN 2<|BB f5<|CC<|VV (cM 3 false true .i64 ae 0)<|CC<|BB f6<|CC<|ZZ) k!
               have e:bx t l_ worker ab ae ready=1:=by simp only[bx,f0,f1,f2,f3,f4,f5,f6,cond_true,cond_false]
               rw[e]
               exact ay rfl (bb Tryz.func20 eH k! (.inr rfl) ev k!) lf rfl
             · have Ao:=of_decide_eq_false f6
               have ev:=pk (d+10) cS ((AV.agg [t.ar,(AV.int .i64 t.rest),(AV.int .i64 t.day)])::bk::(AV.str worker)::(AV.int .i64 ab)::(AV.int .i64 ae)::(AV.int .i64 ready)::cx 38) h .ret h4 (NN bJ (fun i=>(AV.ptr i 0))<|CC<|MM (au 24 0 (AV.agg [t.ar,(AV.int .i64 t.rest),(AV.int .i64 t.day)]) aO k!)<|CC<|EE Ca<|CN 6<|VV (cJ 30 false true .i64 ((aC t l_).2) 0)<|CC<|BB f0<|CC<|EE k6<|CC<|BB f1<|CC<|EE k8<|CN 2<|BB f2<|CC<|EE n9<|CN 2<|BB f3<|CC<|EE BY<|CN 2<|BB f4<|CC<|EE GS<|CN 2<|BB f5<|CC<|VV (cM 3 false true .i64 ae 0)<|CC<|BB f6<|CC<|ZZ) k!
               have e:bx t l_ worker ab ae ready=0:=by simp only[bx,f0,f1,f2,f3,f4,f5,f6,cond_true,cond_false]
               rw[e]
               exact ay rfl (bb Tryz.func20 eH k! (.inr rfl) ev k!) lf rfl
theorem Aq {t:aH} {l_:List aw} (h:(aC t l_).2=0):l_.length≤128:=by
 unfold aC at h
 cases e:(!decide (bl t l_=0)) with
 | true=>rw[e] at h;rw[show bl t l_=0 from h] at e;cases e
 | false=>exact kb (t:=t) (by
  by_cases q:bl t l_=0
  · exact q
  · rw[decide_eq_false q] at e;cases e)
theorem rj {t:aH} {l_:List aw} {worker:List UInt8} {p m r:Int} (h:bx t l_ worker p m r=0):(aC t l_).2=0:=by
 unfold bx at h
 cases e:(!decide ((aC t l_).2=0)) with
 | true=>rw[e] at h;exact h
 | false=>
   by_cases q:(aC t l_).2=0
   · exact q
   · rw[decide_eq_false q] at e;cases e
theorem uV {t:aH} {l_:List aw} {worker:List UInt8} {p m r:Int} (h:bx t l_ worker p m r=0):l_.length≤128:=Aq (rj h)
noncomputable def om:Code:=(Tryz.f28.body).getD .skip
theorem yT:Tryz.f28.body=some om:=by kernel_rfl
def aZ (n:Int):Bool:=(bif (decide (0≤n)) then (decide (n≤100000)) else false)
theorem ij {d:Nat} {h:aq} (n:Int) (di:Tidy h):dH (d+1) (.fn 28) [(AV.int .i64 n)] h= .ret (AV.bool (aZ n)) h:=by
 rcases Bool.eq_false_or_eq_true (decide (0≤n)) with f0 | f0
 · have dY:=of_decide_eq_true f0
   have ev:=pk (d) om ((AV.int .i64 n)::cx 8) h .ret h (CN 2<|VV (dx 3 false true .i64 n 0)<|CC<|BB f0<|CC<|BB f0<|VV (fu 3 false true .i64 n 100000)<|VV (aM (a:=some (AV.bool (decide (n≤100000)))) (b:=some (AV.bool false)) f0)<|CC<|ZZ) k!
   have e:aZ n=(decide (n≤100000)):=by simp only[aZ,f0,cond_true,cond_false]
   rw[e]
   exact ay rfl (bb Tryz.func28 yT k! (.inr rfl) ev k!) (Has.refl _) rfl
 · have dY:=of_decide_eq_false f0
   have ev:=pk (d) om ((AV.int .i64 n)::cx 8) h .ret h (CN 2<|VV (dx 3 false true .i64 n 0)<|CC<|BB f0<|BB f0<|VV (aL (a:=some AV.undef) (b:=some (AV.bool false)) f0)<|CC<|ZZ) k!
   have e:aZ n=false:=by simp only[aZ,f0,cond_true,cond_false]
   rw[e]
   exact ay rfl (bb Tryz.func28 yT k! (.inr rfl) ev k!) (Has.refl _) rfl
noncomputable def dy:Code:=(Tryz.f26.body).getD .skip
theorem hL:Tryz.f26.body=some dy:=by kernel_rfl
noncomputable def eJ:Code:=(cP dy).getD 0 .skip
def bX (t:aH):Nat→Nat→Option (Int)
 | 0,_=>none
 | dC+1,i0=>(bif (!(aZ ((t.rows.g i0).ab))) then some 1 else (bif (!(aZ ((t.rows.g i0).ae))) then some 1 else (bif (!(aZ ((t.rows.g i0).out))) then some 1 else bX t dC (i0+1))))
theorem jN {d:Nat} {h:aq} (t:aH) (bU:Nat) (bC:bf h t.ar t.rows) (j_:aG.ok h t):∀(k_ i_:Nat) (_:i_+k_=t.rows.length) (x:Nat→AV) (hh:aq) (aX:Tidy hh) (a_:Has h hh) (cg:hh.get bU=some (aP.cells [t.ar,(AV.int .i64 t.rest),(AV.int .i64 t.day)] 24 false)),aS (dH (d+1)) eJ ⟨((x 0)::(AV.ptr bU 0)::(x 2)::(AV.int .i64 ((i_:Nat):Int))::rx x 4 49 []),hh,[],.no⟩ (.exit 0) hh (fun y=>((y 0)::(AV.ptr bU 0)::rx y 2 51 [])) (fun r y=>((y 0)::(AV.ptr bU 0)::(AV.int .i64 r)::rx y 3 50 [])) (bX t k_ i_)
 | 0,i0,pB,x,hh,aX,a_,cg=>by
   have eQ:=bC.small
   have rh:=aX _ _ cg
   have jG:dU (some (.slice 29)) (some t.ar)=some (AV.int .i64 ((t.rows.length:Nat):Int)):=(bC.has a_).len
   have q2:(decide (((i0:Nat):Int)<((t.rows.length:Nat):Int)))=false:=d!
   have ev:=pk (d+1) eJ ((x 0)::(AV.ptr bU 0)::(x 2)::(AV.int .i64 ((i0:Nat):Int))::rx x 4 49 []) hh (.exit 0) hh (CN 2<|MM (au 22 0 t.ar cg k!)<|VV jG<|VV (bz 3 false false .i64 ((i0:Nat):Int) ((t.rows.length:Nat):Int))<|BB q2<|ZZ) k!
   exact aS.out rfl ev (b4.refl aX) k!
 | dC+1,i0,pB,x,hh,aX,a_,cg=>by
   have eQ:=bC.small
   have rh:=aX _ _ cg
   have jG:dU (some (.slice 29)) (some t.ar)=some (AV.int .i64 ((t.rows.length:Nat):Int)):=(bC.has a_).len
   have q2:(decide (((i0:Nat):Int)<((t.rows.length:Nat):Int)))=true:=d!
   obtain ⟨p4,q5,w6⟩:=(bC.has a_).elem (i:=i0) o!
   have uW:ep env (some (.slice 29)) (some t.ar) (some (AV.int .i64 ((i0:Nat):Int)))=some (AV.ptr p4 q5):=w6
   have F7:b9 env hh 3 (AV.ptr p4 (q5+0))=some (AV.int .i64 ((t.rows.g i0).ab)):=(bC.has a_).part (t:=3) (j:=0) o! w6 k! rfl
   have k7:=ij (d:=d) ((t.rows.g i0).ab) aX
   rcases Bool.eq_false_or_eq_true (!(aZ ((t.rows.g i0).ab))) with f1 | f1
   · have ev:=pk (d+1) eJ ((x 0)::(AV.ptr bU 0)::(x 2)::(AV.int .i64 ((i0:Nat):Int))::rx x 4 49 []) hh .ret hh (CN 2<|MM (au 22 0 t.ar cg k!)<|VV jG<|VV (bz 3 false false .i64 ((i0:Nat):Int) ((t.rows.length:Nat):Int))<|BB q2<|CC<|MM (au 22 0 t.ar cg k!)<|CC<|VV uW<|CC<|MM F7<|EE k7<|CN 2<|BB f1<|BB f1<|BB f1<|BB f1<|BB f1<|BB f1<|BB f1<|BB f1<|VV (aM (a:=some (AV.bool true)) (b:=some AV.undef) f1)<|CC<|TT<|TT<|TT<|TT<|TT<|TT<|TT<|TT<|CC<|TT<|CC<|ZZ) k!
     exact aS.ret 1 (by simp only[bX,f1,cond_true,cond_false]) ev (b4.refl aX) k!
   · obtain ⟨Se,Sf,Jk⟩:=(bC.has a_).elem (i:=i0) o!
     have Kl:ep env (some (.slice 29)) (some t.ar) (some (AV.int .i64 ((i0:Nat):Int)))=some (AV.ptr Se Sf):=Jk
     have F8:b9 env hh 3 (AV.ptr Se (Sf+1))=some (AV.int .i64 ((t.rows.g i0).ae)):=(bC.has a_).part (t:=3) (j:=1) o! Jk k! rfl
     have RP:=ij (d:=d) ((t.rows.g i0).ae) aX
     rcases Bool.eq_false_or_eq_true (!(aZ ((t.rows.g i0).ae))) with f2 | f2
     · have ev:=pk (d+1) eJ ((x 0)::(AV.ptr bU 0)::(x 2)::(AV.int .i64 ((i0:Nat):Int))::rx x 4 49 []) hh .ret hh (CN 2<|MM (au 22 0 t.ar cg k!)<|VV jG<|VV (bz 3 false false .i64 ((i0:Nat):Int) ((t.rows.length:Nat):Int))<|BB q2<|CC<|MM (au 22 0 t.ar cg k!)<|CC<|VV uW<|CC<|MM F7<|EE k7<|CN 2<|BB f1<|CC<|BB f1<|MM (au 22 0 t.ar cg k!)<|BB f1<|CC<|BB f1<|VV Kl<|BB f1<|CC<|BB f1<|MM F8<|BB f1<|EE RP<|BB f1<|CC<|VV (aL (a:=some (AV.bool true)) (b:=some (AV.bool (!(aZ ((t.rows.g i0).ae))))) f1)<|CC<|BB f2<|BB f2<|BB f2<|BB f2<|BB f2<|BB f2<|BB f2<|BB f2<|VV (aM (a:=some (AV.bool true)) (b:=some AV.undef) f2)<|TT<|CC<|ZZ) k!
       exact aS.ret 1 (by simp only[bX,f1,f2,cond_true,cond_false]) ev (b4.refl aX) k!
     · obtain ⟨Xb,Xc,Nf⟩:=(bC.has a_).elem (i:=i0) o!
       have Sg:ep env (some (.slice 29)) (some t.ar) (some (AV.int .i64 ((i0:Nat):Int)))=some (AV.ptr Xb Xc):=Nf
       have Sh:b9 env hh 3 (AV.ptr Xb (Xc+2))=some (AV.int .i64 ((t.rows.g i0).out)):=(bC.has a_).part (t:=3) (j:=2) o! Nf k! rfl
       have TW:=ij (d:=d) ((t.rows.g i0).out) aX
       rcases Bool.eq_false_or_eq_true (!(aZ ((t.rows.g i0).out))) with f3 | f3
       · have ev:=pk (d+1) eJ ((x 0)::(AV.ptr bU 0)::(x 2)::(AV.int .i64 ((i0:Nat):Int))::rx x 4 49 []) hh .ret hh (CN 2<|MM (au 22 0 t.ar cg k!)<|VV jG<|VV (bz 3 false false .i64 ((i0:Nat):Int) ((t.rows.length:Nat):Int))<|BB q2<|CC<|MM (au 22 0 t.ar cg k!)<|CC<|VV uW<|CC<|MM F7<|EE k7<|CN 2<|BB f1<|CC<|BB f1<|MM (au 22 0 t.ar cg k!)<|BB f1<|CC<|BB f1<|VV Kl<|BB f1<|CC<|BB f1<|MM F8<|BB f1<|EE RP<|BB f1<|CC<|VV (aL (a:=some (AV.bool true)) (b:=some (AV.bool (!(aZ ((t.rows.g i0).ae))))) f1)<|CC<|BB f2<|CC<|BB f2<|MM (au 22 0 t.ar cg k!)<|BB f2<|CC<|BB f2<|VV Sg<|BB f2<|CC<|BB f2<|MM Sh<|BB f2<|EE TW<|BB f2<|CC<|VV (aL (a:=some (AV.bool true)) (b:=some (AV.bool (!(aZ ((t.rows.g i0).out))))) f2)<|BB f3<|CC<|ZZ) k!
         exact aS.ret 1 (by simp only[bX,f1,f2,f3,cond_true,cond_false]) ev (b4.refl aX) k!
       · have Qs:=fV 3 false true i0 1 o!
         have ev:=pk (d+1) eJ ((x 0)::(AV.ptr bU 0)::(x 2)::(AV.int .i64 ((i0:Nat):Int))::rx x 4 49 []) hh .normal hh (CN 2<|MM (au 22 0 t.ar cg k!)<|VV jG<|VV (bz 3 false false .i64 ((i0:Nat):Int) ((t.rows.length:Nat):Int))<|BB q2<|CC<|MM (au 22 0 t.ar cg k!)<|CC<|VV uW<|CC<|MM F7<|EE k7<|CN 2<|BB f1<|CC<|BB f1<|MM (au 22 0 t.ar cg k!)<|BB f1<|CC<|BB f1<|VV Kl<|BB f1<|CC<|BB f1<|MM F8<|BB f1<|EE RP<|BB f1<|CC<|VV (aL (a:=some (AV.bool true)) (b:=some (AV.bool (!(aZ ((t.rows.g i0).ae))))) f1)<|CC<|BB f2<|CC<|BB f2<|MM (au 22 0 t.ar cg k!)<|BB f2<|CC<|BB f2<|VV Sg<|BB f2<|CC<|BB f2<|MM Sh<|BB f2<|EE TW<|BB f2<|CC<|VV (aL (a:=some (AV.bool true)) (b:=some (AV.bool (!(aZ ((t.rows.g i0).out))))) f2)<|BB f3<|CC<|VV Qs<|CC<|ZZ) k!
         exact aS.round (by simp only[bX,f1,f2,f3,cond_true,cond_false]) ev (b4.refl aX) (fun x=>((x 0)::(AV.ptr bU 0)::(x 2)::(AV.int .i64 (((i0+1):Nat):Int))::rx x 4 49 [])) k! (fun x=>jN t bU bC j_ dC (i0+1) o! x hh aX a_ cg)
def aI (t:aH):Int:=(bif (decide (64<((t.rows.length:Nat):Int))) then 3 else (match (bX t t.rows.length 0) with | none=>(bif (!(aZ t.rest)) then 1 else (bif (!(aZ t.day)) then 1 else 0)) | some Dt=>Dt))
theorem w7 {d:Nat} {h:aq} (t:aH) (g6:aG.ok h t) (di:Tidy h):dH (d+2) (.fn 26) [(AV.agg [t.ar,(AV.int .i64 t.rest),(AV.int .i64 t.day)])] h= .ret (AV.int .i64 (aI t)) h:=by
 obtain ⟨h1,bJ,cK,lD,aO,dI⟩:=jA di (aP.cells [t.ar,(AV.int .i64 t.rest),(AV.int .i64 t.day)] 24 false)
 have bR:Has h h1:=dI
 have M_:dU (some (.slice 29)) (some t.ar)=some (AV.int .i64 ((t.rows.length:Nat):Int)):=g6.len
 rcases Bool.eq_false_or_eq_true (decide (64<((t.rows.length:Nat):Int))) with f0 | f0
 · have dY:=of_decide_eq_true f0
   have ev:=pk (d+1) dy ((AV.agg [t.ar,(AV.int .i64 t.rest),(AV.int .i64 t.day)])::cx 52) h .ret h1 (NN bJ (fun i=>(AV.ptr i 0))<|CN 2<|MM (au 22 0 t.ar aO k!)<|VV M_<|VV (cI 3 false true .i64 ((t.rows.length:Nat):Int) 64)<|BB f0<|CC<|ZZ) k!
   have e:aI t=3:=by simp only[aI,f0,cond_true,cond_false]
   rw[e]
   exact ay rfl (bb Tryz.func26 hL k! (.inr rfl) ev k!) bR rfl
 · have dY:=of_decide_eq_false f0
   cases fH:bX t t.rows.length 0 with
   | none=>
     obtain ⟨du,h5,cV,cf⟩:=aS.n fH (jN (d:=d) (h:=h) t h.nx g6 g6 t.rows.length 0 o! (fun k_=>(((AV.agg [t.ar,(AV.int .i64 t.rest),(AV.int .i64 t.day)])::(AV.ptr h.nx 0)::(AV.int .i64 0)::(AV.int .i64 0)::(AV.ptr h.nx 0)::t.ar::(AV.int .i64 ((t.rows.length:Nat):Int))::(AV.bool (decide (64<((t.rows.length:Nat):Int))))::cx 45):List AV).getD k_ AV.undef) h1 cK bR aO)
     have lG:=cf.y
     have wH:h1.nx≤h5.nx:=cf.n
     have ie:Has h h5:=bR.trans cf.a
     have k6:=ij (d:=d) t.rest lG
     rcases Bool.eq_false_or_eq_true (!(aZ t.rest)) with f2 | f2
     · have ev:=pk (d+1) dy ((AV.agg [t.ar,(AV.int .i64 t.rest),(AV.int .i64 t.day)])::cx 52) h .ret h5 (NN bJ (fun i=>(AV.ptr i 0))<|CN 2<|MM (au 22 0 t.ar aO k!)<|VV M_<|VV (cI 3 false true .i64 ((t.rows.length:Nat):Int) 64)<|BB f0<|CC<|LL cV<|CC<|MM (au 3 1 (AV.int .i64 t.rest) (cf.a _ _ aO) k!)<|EE k6<|CN 2<|BB f2<|BB f2<|BB f2<|BB f2<|VV (aM (a:=some (AV.bool true)) (b:=some AV.undef) f2)<|TT<|CC<|ZZ) k!
       have e:aI t=1:=by simp only[aI,f0,fH,f2,cond_true,cond_false]
       rw[e]
       exact ay rfl (bb Tryz.func26 hL k! (.inr rfl) ev k!) ie rfl
     · have k8:=ij (d:=d) t.day lG
       rcases Bool.eq_false_or_eq_true (!(aZ t.day)) with f3 | f3
       · have ev:=pk (d+1) dy ((AV.agg [t.ar,(AV.int .i64 t.rest),(AV.int .i64 t.day)])::cx 52) h .ret h5 (NN bJ (fun i=>(AV.ptr i 0))<|CN 2<|MM (au 22 0 t.ar aO k!)<|VV M_<|VV (cI 3 false true .i64 ((t.rows.length:Nat):Int) 64)<|BB f0<|CC<|LL cV<|CC<|MM (au 3 1 (AV.int .i64 t.rest) (cf.a _ _ aO) k!)<|EE k6<|CN 2<|BB f2<|CC<|BB f2<|MM (au 3 2 (AV.int .i64 t.day) (cf.a _ _ aO) k!)<|BB f2<|EE k8<|BB f2<|CC<|VV (aL (a:=some (AV.bool true)) (b:=some (AV.bool (!(aZ t.day)))) f2)<|BB f3<|CC<|ZZ) k!
         have e:aI t=1:=by simp only[aI,f0,fH,f2,f3,cond_true,cond_false]
         rw[e]
         exact ay rfl (bb Tryz.func26 hL k! (.inr rfl) ev k!) ie rfl
       · have ev:=pk (d+1) dy ((AV.agg [t.ar,(AV.int .i64 t.rest),(AV.int .i64 t.day)])::cx 52) h .ret h5 (NN bJ (fun i=>(AV.ptr i 0))<|CN 2<|MM (au 22 0 t.ar aO k!)<|VV M_<|VV (cI 3 false true .i64 ((t.rows.length:Nat):Int) 64)<|BB f0<|CC<|LL cV<|CC<|MM (au 3 1 (AV.int .i64 t.rest) (cf.a _ _ aO) k!)<|EE k6<|CN 2<|BB f2<|CC<|BB f2<|MM (au 3 2 (AV.int .i64 t.day) (cf.a _ _ aO) k!)<|BB f2<|EE k8<|BB f2<|CC<|VV (aL (a:=some (AV.bool true)) (b:=some (AV.bool (!(aZ t.day)))) f2)<|BB f3<|CC<|ZZ) k!
         have e:aI t=0:=by simp only[aI,f0,fH,f2,f3,cond_true,cond_false]
         rw[e]
         exact ay rfl (bb Tryz.func26 hL k! (.inr rfl) ev k!) ie rfl
   | some Dt=>
     obtain ⟨du,h5,cV,cf⟩:=aS.r fH (jN (d:=d) (h:=h) t h.nx g6 g6 t.rows.length 0 o! (fun k_=>(((AV.agg [t.ar,(AV.int .i64 t.rest),(AV.int .i64 t.day)])::(AV.ptr h.nx 0)::(AV.int .i64 0)::(AV.int .i64 0)::(AV.ptr h.nx 0)::t.ar::(AV.int .i64 ((t.rows.length:Nat):Int))::(AV.bool (decide (64<((t.rows.length:Nat):Int))))::cx 45):List AV).getD k_ AV.undef) h1 cK bR aO)
     have lG:=cf.y
     have wH:h1.nx≤h5.nx:=cf.n
     have ie:Has h h5:=bR.trans cf.a
     have ev:=pk (d+1) dy ((AV.agg [t.ar,(AV.int .i64 t.rest),(AV.int .i64 t.day)])::cx 52) h .ret h5 (NN bJ (fun i=>(AV.ptr i 0))<|CN 2<|MM (au 22 0 t.ar aO k!)<|VV M_<|VV (cI 3 false true .i64 ((t.rows.length:Nat):Int) 64)<|BB f0<|CC<|LL cV<|ZZ) k!
     have e:aI t=Dt:=by simp only[aI,f0,fH,cond_true,cond_false]
     rw[e]
     exact ay rfl (bb Tryz.func26 hL k! (.inr rfl) ev k!) ie rfl
noncomputable def gr:Code:=(Tryz.f27.body).getD .skip
theorem nv:Tryz.f27.body=some gr:=by kernel_rfl
noncomputable def dP:Code:=(cP gr).getD 0 .skip
def cy (s:List UInt8):Nat→Nat→Option (Bool)
 | 0,_=>none
 | dC+1,i0=>(bif (decide ((((s.g i0).toNat:Nat):Int)<97)) then (bif (decide ((((s.g i0).toNat:Nat):Int)<48)) then (bif (!decide ((((s.g i0).toNat:Nat):Int)=45)) then some false else cy s dC (i0+1)) else (bif (decide (57<(((s.g i0).toNat:Nat):Int))) then (bif (!decide ((((s.g i0).toNat:Nat):Int)=45)) then some false else cy s dC (i0+1)) else cy s dC (i0+1))) else (bif (decide (122<(((s.g i0).toNat:Nat):Int))) then (bif (decide ((((s.g i0).toNat:Nat):Int)<48)) then (bif (!decide ((((s.g i0).toNat:Nat):Int)=45)) then some false else cy s dC (i0+1)) else (bif (decide (57<(((s.g i0).toNat:Nat):Int))) then (bif (!decide ((((s.g i0).toNat:Nat):Int)=45)) then some false else cy s dC (i0+1)) else cy s dC (i0+1))) else cy s dC (i0+1)))
theorem fD {d:Nat} {h:aq} (s:List UInt8) (bC:s.length<2^60):∀(k_ i_:Nat) (_:i_+k_=(List.length s)) (x:Nat→AV) (hh:aq) (aX:Tidy hh) (a_:Has h hh),aS (dH (d)) dP ⟨((AV.str s)::(x 1)::(x 2)::(AV.int .i64 ((i_:Nat):Int))::rx x 4 46 []),hh,[],.no⟩ (.exit 0) hh (fun y=>((AV.str s)::rx y 1 49 [])) (fun r y=>((AV.str s)::(y 1)::(AV.bool r)::rx y 3 47 [])) (cy s k_ i_)
 | 0,i0,pB,x,hh,aX,a_=>by
   have Xd:s.length<2^60:=bC
   have q2:(decide (((i0:Nat):Int)<((List.length s:Nat):Int)))=false:=d!
   have ev:=pk (d) dP ((AV.str s)::(x 1)::(x 2)::(AV.int .i64 ((i0:Nat):Int))::rx x 4 46 []) hh (.exit 0) hh (CN 3<|VV (bz 3 false false .i64 ((i0:Nat):Int) ((List.length s:Nat):Int))<|BB q2<|ZZ) k!
   exact aS.out rfl ev (b4.refl aX) k!
 | dC+1,i0,pB,x,hh,aX,a_=>by
   have Xd:s.length<2^60:=bC
   have q2:(decide (((i0:Nat):Int)<((List.length s:Nat):Int)))=true:=d!
   have uW:n7 env (some .string) (some (AV.str s)) (some (AV.int .i64 ((i0:Nat):Int)))=some (AV.int .u8 (((s.g i0).toNat:Nat):Int)):=ia (j:=i0) o!
   rcases Bool.eq_false_or_eq_true (decide ((((s.g i0).toNat:Nat):Int)<97)) with f1 | f1
   · have gF:=of_decide_eq_true f1
     rcases Bool.eq_false_or_eq_true (decide ((((s.g i0).toNat:Nat):Int)<48)) with f2 | f2
     · have lh:=of_decide_eq_true f2
       rcases Bool.eq_false_or_eq_true (!decide ((((s.g i0).toNat:Nat):Int)=45)) with f3 | f3
       · have oe:=qZ f3
         have ev:=pk (d) dP ((AV.str s)::(x 1)::(x 2)::(AV.int .i64 ((i0:Nat):Int))::rx x 4 46 []) hh .ret hh (CN 3<|VV (bz 3 false false .i64 ((i0:Nat):Int) ((List.length s:Nat):Int))<|BB q2<|CN 2<|VV uW<|CN 2<|VV (bz 5 false true .u8 (((s.g i0).toNat:Nat):Int) 97)<|CC<|BB f1<|BB f1<|VV (aM (a:=some (AV.bool true)) (b:=some AV.undef) f1)<|CC<|TT<|CC<|TT<|VV (bz 5 false true .u8 (((s.g i0).toNat:Nat):Int) 48)<|TT<|CC<|BB f2<|BB f2<|TT<|VV (aM (a:=some (AV.bool true)) (b:=some AV.undef) f2)<|CN 2<|TT<|CC<|TT<|VV (cJ 5 false true .u8 (((s.g i0).toNat:Nat):Int) 45)<|CC<|BB f3<|CC<|ZZ) k!
         exact aS.ret false (by simp only[cy,f1,f2,f3,cond_true,cond_false]) ev (b4.refl aX) k!
       · have oe:=ra f3
         have u7:=fV 3 false true i0 1 o!
         have ev:=pk (d) dP ((AV.str s)::(x 1)::(x 2)::(AV.int .i64 ((i0:Nat):Int))::rx x 4 46 []) hh .normal hh (CN 3<|VV (bz 3 false false .i64 ((i0:Nat):Int) ((List.length s:Nat):Int))<|BB q2<|CN 2<|VV uW<|CN 2<|VV (bz 5 false true .u8 (((s.g i0).toNat:Nat):Int) 97)<|CC<|BB f1<|BB f1<|VV (aM (a:=some (AV.bool true)) (b:=some AV.undef) f1)<|CC<|TT<|CC<|TT<|VV (bz 5 false true .u8 (((s.g i0).toNat:Nat):Int) 48)<|TT<|CC<|BB f2<|BB f2<|TT<|VV (aM (a:=some (AV.bool true)) (b:=some AV.undef) f2)<|CN 2<|TT<|CC<|TT<|VV (cJ 5 false true .u8 (((s.g i0).toNat:Nat):Int) 45)<|CC<|BB f3<|CC<|VV u7<|CC<|ZZ) k!
         exact aS.round (by simp only[cy,f1,f2,f3,cond_true,cond_false]) ev (b4.refl aX) (fun x=>((AV.str s)::(x 1)::(x 2)::(AV.int .i64 (((i0+1):Nat):Int))::rx x 4 46 [])) k! (fun x=>fD s bC dC (i0+1) o! x hh aX a_)
     · have lh:=of_decide_eq_false f2
       rcases Bool.eq_false_or_eq_true (decide (57<(((s.g i0).toNat:Nat):Int))) with f3 | f3
       · have oe:=of_decide_eq_true f3
         rcases Bool.eq_false_or_eq_true (!decide ((((s.g i0).toNat:Nat):Int)=45)) with f4 | f4
         · have og:=qZ f4
           have ev:=pk (d) dP ((AV.str s)::(x 1)::(x 2)::(AV.int .i64 ((i0:Nat):Int))::rx x 4 46 []) hh .ret hh (CN 3<|VV (bz 3 false false .i64 ((i0:Nat):Int) ((List.length s:Nat):Int))<|BB q2<|CN 2<|VV uW<|CN 2<|VV (bz 5 false true .u8 (((s.g i0).toNat:Nat):Int) 97)<|CC<|BB f1<|BB f1<|VV (aM (a:=some (AV.bool true)) (b:=some AV.undef) f1)<|CC<|TT<|CC<|TT<|VV (bz 5 false true .u8 (((s.g i0).toNat:Nat):Int) 48)<|TT<|CC<|BB f2<|CC<|BB f2<|VV (cI 5 false true .u8 (((s.g i0).toNat:Nat):Int) 57)<|TT<|VV (aL (a:=some (AV.bool true)) (b:=some (AV.bool (decide (57<(((s.g i0).toNat:Nat):Int))))) f2)<|CN 2<|BB f3<|CC<|BB f3<|VV (cJ 5 false true .u8 (((s.g i0).toNat:Nat):Int) 45)<|VV (aM (a:=some (AV.bool (!decide ((((s.g i0).toNat:Nat):Int)=45)))) (b:=some (AV.bool false)) f3)<|BB f4<|CC<|ZZ) k!
           exact aS.ret false (by simp only[cy,f1,f2,f3,f4,cond_true,cond_false]) ev (b4.refl aX) k!
         · have og:=ra f4
           have u8:=fV 3 false true i0 1 o!
           have ev:=pk (d) dP ((AV.str s)::(x 1)::(x 2)::(AV.int .i64 ((i0:Nat):Int))::rx x 4 46 []) hh .normal hh (CN 3<|VV (bz 3 false false .i64 ((i0:Nat):Int) ((List.length s:Nat):Int))<|BB q2<|CN 2<|VV uW<|CN 2<|VV (bz 5 false true .u8 (((s.g i0).toNat:Nat):Int) 97)<|CC<|BB f1<|BB f1<|VV (aM (a:=some (AV.bool true)) (b:=some AV.undef) f1)<|CC<|TT<|CC<|TT<|VV (bz 5 false true .u8 (((s.g i0).toNat:Nat):Int) 48)<|TT<|CC<|BB f2<|CC<|BB f2<|VV (cI 5 false true .u8 (((s.g i0).toNat:Nat):Int) 57)<|TT<|VV (aL (a:=some (AV.bool true)) (b:=some (AV.bool (decide (57<(((s.g i0).toNat:Nat):Int))))) f2)<|CN 2<|BB f3<|CC<|BB f3<|VV (cJ 5 false true .u8 (((s.g i0).toNat:Nat):Int) 45)<|VV (aM (a:=some (AV.bool (!decide ((((s.g i0).toNat:Nat):Int)=45)))) (b:=some (AV.bool false)) f3)<|BB f4<|CC<|VV u8<|CC<|ZZ) k!
           exact aS.round (by simp only[cy,f1,f2,f3,f4,cond_true,cond_false]) ev (b4.refl aX) (fun x=>((AV.str s)::(x 1)::(x 2)::(AV.int .i64 (((i0+1):Nat):Int))::rx x 4 46 [])) k! (fun x=>fD s bC dC (i0+1) o! x hh aX a_)
       · have oe:=of_decide_eq_false f3
         have u7:=fV 3 false true i0 1 o!
         have ev:=pk (d) dP ((AV.str s)::(x 1)::(x 2)::(AV.int .i64 ((i0:Nat):Int))::rx x 4 46 []) hh .normal hh (CN 3<|VV (bz 3 false false .i64 ((i0:Nat):Int) ((List.length s:Nat):Int))<|BB q2<|CN 2<|VV uW<|CN 2<|VV (bz 5 false true .u8 (((s.g i0).toNat:Nat):Int) 97)<|CC<|BB f1<|BB f1<|VV (aM (a:=some (AV.bool true)) (b:=some AV.undef) f1)<|CC<|TT<|CC<|TT<|VV (bz 5 false true .u8 (((s.g i0).toNat:Nat):Int) 48)<|TT<|CC<|BB f2<|CC<|BB f2<|VV (cI 5 false true .u8 (((s.g i0).toNat:Nat):Int) 57)<|TT<|VV (aL (a:=some (AV.bool true)) (b:=some (AV.bool (decide (57<(((s.g i0).toNat:Nat):Int))))) f2)<|CN 2<|BB f3<|BB f3<|VV (aL (a:=some AV.undef) (b:=some (AV.bool false)) f3)<|FF<|CC<|VV u7<|CC<|ZZ) k!
         exact aS.round (by simp only[cy,f1,f2,f3,cond_true,cond_false]) ev (b4.refl aX) (fun x=>((AV.str s)::(x 1)::(x 2)::(AV.int .i64 (((i0+1):Nat):Int))::rx x 4 46 [])) k! (fun x=>fD s bC dC (i0+1) o! x hh aX a_)
   · have gF:=of_decide_eq_false f1
     rcases Bool.eq_false_or_eq_true (decide (122<(((s.g i0).toNat:Nat):Int))) with f2 | f2
     · have lh:=of_decide_eq_true f2
       rcases Bool.eq_false_or_eq_true (decide ((((s.g i0).toNat:Nat):Int)<48)) with f3 | f3
       · have oe:=of_decide_eq_true f3
         rcases Bool.eq_false_or_eq_true (!decide ((((s.g i0).toNat:Nat):Int)=45)) with f4 | f4
         · have og:=qZ f4
           have ev:=pk (d) dP ((AV.str s)::(x 1)::(x 2)::(AV.int .i64 ((i0:Nat):Int))::rx x 4 46 []) hh .ret hh (CN 3<|VV (bz 3 false false .i64 ((i0:Nat):Int) ((List.length s:Nat):Int))<|BB q2<|CN 2<|VV uW<|CN 2<|VV (bz 5 false true .u8 (((s.g i0).toNat:Nat):Int) 97)<|CC<|BB f1<|CC<|BB f1<|VV (cI 5 false true .u8 (((s.g i0).toNat:Nat):Int) 122)<|VV (aL (a:=some (AV.bool true)) (b:=some (AV.bool (decide (122<(((s.g i0).toNat:Nat):Int))))) f1)<|CC<|BB f2<|CC<|BB f2<|VV (bz 5 false true .u8 (((s.g i0).toNat:Nat):Int) 48)<|BB f2<|CC<|BB f3<|BB f3<|BB f2<|VV (aM (a:=some (AV.bool true)) (b:=some AV.undef) f3)<|VV (aM (a:=some (AV.bool true)) (b:=some (AV.bool false)) f2)<|CC<|TT<|CC<|TT<|VV (cJ 5 false true .u8 (((s.g i0).toNat:Nat):Int) 45)<|CC<|BB f4<|CC<|ZZ) k!
           exact aS.ret false (by simp only[cy,f1,f2,f3,f4,cond_true,cond_false]) ev (b4.refl aX) k!
         · have og:=ra f4
           have u8:=fV 3 false true i0 1 o!
           have ev:=pk (d) dP ((AV.str s)::(x 1)::(x 2)::(AV.int .i64 ((i0:Nat):Int))::rx x 4 46 []) hh .normal hh (CN 3<|VV (bz 3 false false .i64 ((i0:Nat):Int) ((List.length s:Nat):Int))<|BB q2<|CN 2<|VV uW<|CN 2<|VV (bz 5 false true .u8 (((s.g i0).toNat:Nat):Int) 97)<|CC<|BB f1<|CC<|BB f1<|VV (cI 5 false true .u8 (((s.g i0).toNat:Nat):Int) 122)<|VV (aL (a:=some (AV.bool true)) (b:=some (AV.bool (decide (122<(((s.g i0).toNat:Nat):Int))))) f1)<|CC<|BB f2<|CC<|BB f2<|VV (bz 5 false true .u8 (((s.g i0).toNat:Nat):Int) 48)<|BB f2<|CC<|BB f3<|BB f3<|BB f2<|VV (aM (a:=some (AV.bool true)) (b:=some AV.undef) f3)<|VV (aM (a:=some (AV.bool true)) (b:=some (AV.bool false)) f2)<|CC<|TT<|CC<|TT<|VV (cJ 5 false true .u8 (((s.g i0).toNat:Nat):Int) 45)<|CC<|BB f4<|CC<|VV u8<|CC<|ZZ) k!
           exact aS.round (by simp only[cy,f1,f2,f3,f4,cond_true,cond_false]) ev (b4.refl aX) (fun x=>((AV.str s)::(x 1)::(x 2)::(AV.int .i64 (((i0+1):Nat):Int))::rx x 4 46 [])) k! (fun x=>fD s bC dC (i0+1) o! x hh aX a_)
       · have oe:=of_decide_eq_false f3
         rcases Bool.eq_false_or_eq_true (decide (57<(((s.g i0).toNat:Nat):Int))) with f4 | f4
         · have og:=of_decide_eq_true f4
           rcases Bool.eq_false_or_eq_true (!decide ((((s.g i0).toNat:Nat):Int)=45)) with f5 | f5
           · have pF:=qZ f5
             have ev:=pk (d) dP ((AV.str s)::(x 1)::(x 2)::(AV.int .i64 ((i0:Nat):Int))::rx x 4 46 []) hh .ret hh (CN 3<|VV (bz 3 false false .i64 ((i0:Nat):Int) ((List.length s:Nat):Int))<|BB q2<|CN 2<|VV uW<|CN 2<|VV (bz 5 false true .u8 (((s.g i0).toNat:Nat):Int) 97)<|CC<|BB f1<|CC<|BB f1<|VV (cI 5 false true .u8 (((s.g i0).toNat:Nat):Int) 122)<|VV (aL (a:=some (AV.bool true)) (b:=some (AV.bool (decide (122<(((s.g i0).toNat:Nat):Int))))) f1)<|CC<|BB f2<|CC<|BB f2<|VV (bz 5 false true .u8 (((s.g i0).toNat:Nat):Int) 48)<|BB f2<|CC<|BB f3<|CC<|BB f3<|VV (cI 5 false true .u8 (((s.g i0).toNat:Nat):Int) 57)<|BB f2<|VV (aL (a:=some (AV.bool true)) (b:=some (AV.bool (decide (57<(((s.g i0).toNat:Nat):Int))))) f3)<|VV (aM (a:=some (AV.bool (decide (57<(((s.g i0).toNat:Nat):Int))))) (b:=some (AV.bool false)) f2)<|CC<|BB f4<|CC<|BB f4<|VV (cJ 5 false true .u8 (((s.g i0).toNat:Nat):Int) 45)<|VV (aM (a:=some (AV.bool (!decide ((((s.g i0).toNat:Nat):Int)=45)))) (b:=some (AV.bool false)) f4)<|BB f5<|CC<|ZZ) k!
             exact aS.ret false (by simp only[cy,f1,f2,f3,f4,f5,cond_true,cond_false]) ev (b4.refl aX) k!
           · have pF:=ra f5
             have u9:=fV 3 false true i0 1 o!
             have ev:=pk (d) dP ((AV.str s)::(x 1)::(x 2)::(AV.int .i64 ((i0:Nat):Int))::rx x 4 46 []) hh .normal hh (CN 3<|VV (bz 3 false false .i64 ((i0:Nat):Int) ((List.length s:Nat):Int))<|BB q2<|CN 2<|VV uW<|CN 2<|VV (bz 5 false true .u8 (((s.g i0).toNat:Nat):Int) 97)<|CC<|BB f1<|CC<|BB f1<|VV (cI 5 false true .u8 (((s.g i0).toNat:Nat):Int) 122)<|VV (aL (a:=some (AV.bool true)) (b:=some (AV.bool (decide (122<(((s.g i0).toNat:Nat):Int))))) f1)<|CC<|BB f2<|CC<|BB f2<|VV (bz 5 false true .u8 (((s.g i0).toNat:Nat):Int) 48)<|BB f2<|CC<|BB f3<|CC<|BB f3<|VV (cI 5 false true .u8 (((s.g i0).toNat:Nat):Int) 57)<|BB f2<|VV (aL (a:=some (AV.bool true)) (b:=some (AV.bool (decide (57<(((s.g i0).toNat:Nat):Int))))) f3)<|VV (aM (a:=some (AV.bool (decide (57<(((s.g i0).toNat:Nat):Int))))) (b:=some (AV.bool false)) f2)<|CC<|BB f4<|CC<|BB f4<|VV (cJ 5 false true .u8 (((s.g i0).toNat:Nat):Int) 45)<|VV (aM (a:=some (AV.bool (!decide ((((s.g i0).toNat:Nat):Int)=45)))) (b:=some (AV.bool false)) f4)<|BB f5<|CC<|VV u9<|CC<|ZZ) k!
             exact aS.round (by simp only[cy,f1,f2,f3,f4,f5,cond_true,cond_false]) ev (b4.refl aX) (fun x=>((AV.str s)::(x 1)::(x 2)::(AV.int .i64 (((i0+1):Nat):Int))::rx x 4 46 [])) k! (fun x=>fD s bC dC (i0+1) o! x hh aX a_)
         · have og:=of_decide_eq_false f4
           have u8:=fV 3 false true i0 1 o!
           have ev:=pk (d) dP ((AV.str s)::(x 1)::(x 2)::(AV.int .i64 ((i0:Nat):Int))::rx x 4 46 []) hh .normal hh (CN 3<|VV (bz 3 false false .i64 ((i0:Nat):Int) ((List.length s:Nat):Int))<|BB q2<|CN 2<|VV uW<|CN 2<|VV (bz 5 false true .u8 (((s.g i0).toNat:Nat):Int) 97)<|CC<|BB f1<|CC<|BB f1<|VV (cI 5 false true .u8 (((s.g i0).toNat:Nat):Int) 122)<|VV (aL (a:=some (AV.bool true)) (b:=some (AV.bool (decide (122<(((s.g i0).toNat:Nat):Int))))) f1)<|CC<|BB f2<|CC<|BB f2<|VV (bz 5 false true .u8 (((s.g i0).toNat:Nat):Int) 48)<|BB f2<|CC<|BB f3<|CC<|BB f3<|VV (cI 5 false true .u8 (((s.g i0).toNat:Nat):Int) 57)<|BB f2<|VV (aL (a:=some (AV.bool true)) (b:=some (AV.bool (decide (57<(((s.g i0).toNat:Nat):Int))))) f3)<|VV (aM (a:=some (AV.bool (decide (57<(((s.g i0).toNat:Nat):Int))))) (b:=some (AV.bool false)) f2)<|CC<|BB f4<|BB f4<|VV (aL (a:=some AV.undef) (b:=some (AV.bool false)) f4)<|FF<|CC<|VV u8<|CC<|ZZ) k!
           exact aS.round (by simp only[cy,f1,f2,f3,f4,cond_true,cond_false]) ev (b4.refl aX) (fun x=>((AV.str s)::(x 1)::(x 2)::(AV.int .i64 (((i0+1):Nat):Int))::rx x 4 46 [])) k! (fun x=>fD s bC dC (i0+1) o! x hh aX a_)
     · have lh:=of_decide_eq_false f2
       have u6:=fV 3 false true i0 1 o!
       have ev:=pk (d) dP ((AV.str s)::(x 1)::(x 2)::(AV.int .i64 ((i0:Nat):Int))::rx x 4 46 []) hh .normal hh (CN 3<|VV (bz 3 false false .i64 ((i0:Nat):Int) ((List.length s:Nat):Int))<|BB q2<|CN 2<|VV uW<|CN 2<|VV (bz 5 false true .u8 (((s.g i0).toNat:Nat):Int) 97)<|CC<|BB f1<|CC<|BB f1<|VV (cI 5 false true .u8 (((s.g i0).toNat:Nat):Int) 122)<|VV (aL (a:=some (AV.bool true)) (b:=some (AV.bool (decide (122<(((s.g i0).toNat:Nat):Int))))) f1)<|CC<|BB f2<|BB f2<|BB f2<|BB f2<|VV (aL (a:=some AV.undef) (b:=some (AV.bool false)) f2)<|CC<|FF<|FF<|CC<|FF<|CC<|VV u6<|CC<|ZZ) k!
       exact aS.round (by simp only[cy,f1,f2,cond_true,cond_false]) ev (b4.refl aX) (fun x=>((AV.str s)::(x 1)::(x 2)::(AV.int .i64 (((i0+1):Nat):Int))::rx x 4 46 [])) k! (fun x=>fD s bC dC (i0+1) o! x hh aX a_)
def gS (s:List UInt8):Bool:=(bif (decide (((List.length s:Nat):Int)=0)) then false else (bif (decide (16<((List.length s:Nat):Int))) then false else (bif (decide ((((s.g 0).toNat:Nat):Int)<97)) then false else (bif (decide (122<(((s.g 0).toNat:Nat):Int))) then false else (match (cy s (List.length s) 0) with | none=>true | some VJ=>VJ)))))
theorem Jl {d:Nat} {h:aq} (s:List UInt8) (jl:s.length<2^60) (di:Tidy h):dH (d+1) (.fn 27) [(AV.str s)] h= .ret (AV.bool (gS s)) h:=by
 have Xd:s.length<2^60:=jl
 rcases Bool.eq_false_or_eq_true (decide (((List.length s:Nat):Int)=0)) with f0 | f0
 · have dY:=of_decide_eq_true f0
   have ev:=pk (d) gr ((AV.str s)::cx 49) h .ret h (CN 3<|VV (cM 3 false true .i64 ((List.length s:Nat):Int) 0)<|CC<|BB f0<|BB f0<|BB f0<|VV (aM (a:=some (AV.bool true)) (b:=some AV.undef) f0)<|CC<|TT<|TT<|TT<|CN 2<|TT<|TT<|TT<|CC<|TT<|CC<|ZZ) k!
   have e:gS s=false:=by simp only[gS,f0,cond_true,cond_false]
   rw[e]
   exact ay rfl (bb Tryz.func27 nv k! (.inr rfl) ev k!) (Has.refl _) rfl
 · have dY:=of_decide_eq_false f0
   rcases Bool.eq_false_or_eq_true (decide (16<((List.length s:Nat):Int))) with f1 | f1
   · have gF:=of_decide_eq_true f1
     have ev:=pk (d) gr ((AV.str s)::cx 49) h .ret h (CN 3<|VV (cM 3 false true .i64 ((List.length s:Nat):Int) 0)<|CC<|BB f0<|CC<|BB f0<|CC<|BB f0<|VV (cI 3 false true .i64 ((List.length s:Nat):Int) 16)<|VV (aL (a:=some (AV.bool true)) (b:=some (AV.bool (decide (16<((List.length s:Nat):Int))))) f0)<|CC<|BB f1<|BB f1<|BB f1<|VV (aM (a:=some (AV.bool true)) (b:=some AV.undef) f1)<|CC<|TT<|TT<|TT<|CC<|TT<|CC<|ZZ) k!
     have e:gS s=false:=by simp only[gS,f0,f1,cond_true,cond_false]
     rw[e]
     exact ay rfl (bb Tryz.func27 nv k! (.inr rfl) ev k!) (Has.refl _) rfl
   · have gF:=of_decide_eq_false f1
     have oP:n7 env (some .string) (some (AV.str s)) (some (AV.int .i64 0))=some (AV.int .u8 (((s.g 0).toNat:Nat):Int)):=ia (j:=0) o!
     rcases Bool.eq_false_or_eq_true (decide ((((s.g 0).toNat:Nat):Int)<97)) with f2 | f2
     · have lh:=of_decide_eq_true f2
       have ev:=pk (d) gr ((AV.str s)::cx 49) h .ret h (CN 3<|VV (cM 3 false true .i64 ((List.length s:Nat):Int) 0)<|CC<|BB f0<|CC<|BB f0<|CC<|BB f0<|VV (cI 3 false true .i64 ((List.length s:Nat):Int) 16)<|VV (aL (a:=some (AV.bool true)) (b:=some (AV.bool (decide (16<((List.length s:Nat):Int))))) f0)<|CC<|BB f1<|CC<|BB f1<|VV oP<|BB f1<|VV (bz 5 false true .u8 (((s.g 0).toNat:Nat):Int) 97)<|VV (aL (a:=some (AV.bool true)) (b:=some (AV.bool (decide ((((s.g 0).toNat:Nat):Int)<97)))) f1)<|CC<|BB f2<|BB f2<|BB f2<|VV (aM (a:=some (AV.bool true)) (b:=some AV.undef) f2)<|TT<|CC<|ZZ) k!
       have e:gS s=false:=by simp only[gS,f0,f1,f2,cond_true,cond_false]
       rw[e]
       exact ay rfl (bb Tryz.func27 nv k! (.inr rfl) ev k!) (Has.refl _) rfl
     · have lh:=of_decide_eq_false f2
       have Dp:n7 env (some .string) (some (AV.str s)) (some (AV.int .i64 0))=some (AV.int .u8 (((s.g 0).toNat:Nat):Int)):=ia (j:=0) o!
       rcases Bool.eq_false_or_eq_true (decide (122<(((s.g 0).toNat:Nat):Int))) with f3 | f3
       · have oe:=of_decide_eq_true f3
         have ev:=pk (d) gr ((AV.str s)::cx 49) h .ret h (CN 3<|VV (cM 3 false true .i64 ((List.length s:Nat):Int) 0)<|CC<|BB f0<|CC<|BB f0<|CC<|BB f0<|VV (cI 3 false true .i64 ((List.length s:Nat):Int) 16)<|VV (aL (a:=some (AV.bool true)) (b:=some (AV.bool (decide (16<((List.length s:Nat):Int))))) f0)<|CC<|BB f1<|CC<|BB f1<|VV oP<|BB f1<|VV (bz 5 false true .u8 (((s.g 0).toNat:Nat):Int) 97)<|VV (aL (a:=some (AV.bool true)) (b:=some (AV.bool (decide ((((s.g 0).toNat:Nat):Int)<97)))) f1)<|CC<|BB f2<|CC<|BB f2<|VV Dp<|BB f2<|VV (cI 5 false true .u8 (((s.g 0).toNat:Nat):Int) 122)<|VV (aL (a:=some (AV.bool true)) (b:=some (AV.bool (decide (122<(((s.g 0).toNat:Nat):Int))))) f2)<|BB f3<|CC<|ZZ) k!
         have e:gS s=false:=by simp only[gS,f0,f1,f2,f3,cond_true,cond_false]
         rw[e]
         exact ay rfl (bb Tryz.func27 nv k! (.inr rfl) ev k!) (Has.refl _) rfl
       · have oe:=of_decide_eq_false f3
         cases Ar:cy s (List.length s) 0 with
         | none=>
           obtain ⟨Za,h9,Dy,Dz⟩:=aS.n Ar (fD (d:=d) (h:=h) s jl (List.length s) 0 o! (fun k_=>(((AV.str s)::AV.undef::(AV.bool false)::(AV.int .i64 0)::AV.undef::(AV.str s)::(AV.int .i64 ((List.length s:Nat):Int))::(AV.bool (decide (((List.length s:Nat):Int)=0)))::(AV.bool (decide (((List.length s:Nat):Int)=0)))::(AV.str s)::(AV.int .i64 ((List.length s:Nat):Int))::(AV.bool (decide (16<((List.length s:Nat):Int))))::(AV.bool (decide (16<((List.length s:Nat):Int))))::(AV.bool (decide (16<((List.length s:Nat):Int))))::(AV.str s)::(AV.int .u8 (((s.g 0).toNat:Nat):Int))::(AV.bool (decide ((((s.g 0).toNat:Nat):Int)<97)))::(AV.bool (decide ((((s.g 0).toNat:Nat):Int)<97)))::(AV.bool (decide ((((s.g 0).toNat:Nat):Int)<97)))::(AV.str s)::(AV.int .u8 (((s.g 0).toNat:Nat):Int))::(AV.bool (decide (122<(((s.g 0).toNat:Nat):Int))))::(AV.bool (decide (122<(((s.g 0).toNat:Nat):Int))))::cx 27):List AV).getD k_ AV.undef) h di (Has.refl _))
           have jW:=Dz.y
           have VK:h.nx≤h9.nx:=Dz.n
           have jn:Has h h9:=Dz.a
           have ev:=pk (d) gr ((AV.str s)::cx 49) h .ret h9 (CN 3<|VV (cM 3 false true .i64 ((List.length s:Nat):Int) 0)<|CC<|BB f0<|CC<|BB f0<|CC<|BB f0<|VV (cI 3 false true .i64 ((List.length s:Nat):Int) 16)<|VV (aL (a:=some (AV.bool true)) (b:=some (AV.bool (decide (16<((List.length s:Nat):Int))))) f0)<|CC<|BB f1<|CC<|BB f1<|VV oP<|BB f1<|VV (bz 5 false true .u8 (((s.g 0).toNat:Nat):Int) 97)<|VV (aL (a:=some (AV.bool true)) (b:=some (AV.bool (decide ((((s.g 0).toNat:Nat):Int)<97)))) f1)<|CC<|BB f2<|CC<|BB f2<|VV Dp<|BB f2<|VV (cI 5 false true .u8 (((s.g 0).toNat:Nat):Int) 122)<|VV (aL (a:=some (AV.bool true)) (b:=some (AV.bool (decide (122<(((s.g 0).toNat:Nat):Int))))) f2)<|BB f3<|CC<|LL Dy<|CC<|ZZ) k!
           have e:gS s=true:=by simp only[gS,f0,f1,f2,f3,Ar,cond_true,cond_false]
           rw[e]
           exact ay rfl (bb Tryz.func27 nv k! (.inr rfl) ev k!) jn rfl
         | some VJ=>
           obtain ⟨Za,h9,Dy,Dz⟩:=aS.r Ar (fD (d:=d) (h:=h) s jl (List.length s) 0 o! (fun k_=>(((AV.str s)::AV.undef::(AV.bool false)::(AV.int .i64 0)::AV.undef::(AV.str s)::(AV.int .i64 ((List.length s:Nat):Int))::(AV.bool (decide (((List.length s:Nat):Int)=0)))::(AV.bool (decide (((List.length s:Nat):Int)=0)))::(AV.str s)::(AV.int .i64 ((List.length s:Nat):Int))::(AV.bool (decide (16<((List.length s:Nat):Int))))::(AV.bool (decide (16<((List.length s:Nat):Int))))::(AV.bool (decide (16<((List.length s:Nat):Int))))::(AV.str s)::(AV.int .u8 (((s.g 0).toNat:Nat):Int))::(AV.bool (decide ((((s.g 0).toNat:Nat):Int)<97)))::(AV.bool (decide ((((s.g 0).toNat:Nat):Int)<97)))::(AV.bool (decide ((((s.g 0).toNat:Nat):Int)<97)))::(AV.str s)::(AV.int .u8 (((s.g 0).toNat:Nat):Int))::(AV.bool (decide (122<(((s.g 0).toNat:Nat):Int))))::(AV.bool (decide (122<(((s.g 0).toNat:Nat):Int))))::cx 27):List AV).getD k_ AV.undef) h di (Has.refl _))
           have jW:=Dz.y
           have VK:h.nx≤h9.nx:=Dz.n
           have jn:Has h h9:=Dz.a
           have ev:=pk (d) gr ((AV.str s)::cx 49) h .ret h9 (CN 3<|VV (cM 3 false true .i64 ((List.length s:Nat):Int) 0)<|CC<|BB f0<|CC<|BB f0<|CC<|BB f0<|VV (cI 3 false true .i64 ((List.length s:Nat):Int) 16)<|VV (aL (a:=some (AV.bool true)) (b:=some (AV.bool (decide (16<((List.length s:Nat):Int))))) f0)<|CC<|BB f1<|CC<|BB f1<|VV oP<|BB f1<|VV (bz 5 false true .u8 (((s.g 0).toNat:Nat):Int) 97)<|VV (aL (a:=some (AV.bool true)) (b:=some (AV.bool (decide ((((s.g 0).toNat:Nat):Int)<97)))) f1)<|CC<|BB f2<|CC<|BB f2<|VV Dp<|BB f2<|VV (cI 5 false true .u8 (((s.g 0).toNat:Nat):Int) 122)<|VV (aL (a:=some (AV.bool true)) (b:=some (AV.bool (decide (122<(((s.g 0).toNat:Nat):Int))))) f2)<|BB f3<|CC<|LL Dy<|ZZ) k!
           have e:gS s=VJ:=by simp only[gS,f0,f1,f2,f3,Ar,cond_true,cond_false]
           rw[e]
           exact ay rfl (bb Tryz.func27 nv k! (.inr rfl) ev k!) jn rfl
end Go.Proofs.aW
