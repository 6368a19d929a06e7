import Derived.Test.YtkffioplnoajdaaGreatW0
import Derived.Test.YtkffioplnoajdaaGreatW1
import Derived.Test.YtkffioplnoajdaaGreatW5
import Derived.Test.YtkffioplnoajdaaGreatW4
namespace Go.Proofs.aP
open Go.Proofs Ab
set_option maxRecDepth 100000
set_option maxHeartbeats 4000000
set_option linter.unusedVariables false
set_option linter.unusedSimpArgs false
noncomputable def A5:Code:=(Tryz.f27.body).getD .skip
theorem lL:Tryz.f27.body=some A5:=by kernel_rfl
def cZ (j:cz) (ahead:List Task) (t:Task):Int:=(bif (!(gC t.name)) then 5 else (bif (fm ahead (fun y=>ic y t)) then 6 else (bif (!(dg t.aI)) then 1 else (bif (!decide ((ch t.az ((t.az.length:Nat):Int) (fun jx=>cO (List.take jx t.az) (List.g t.az jx) j))=0)) then (ch t.az ((t.az.length:Nat):Int) (fun jx=>cO (List.take jx t.az) (List.g t.az jx) j)) else (dI t.ar ((t.ar.length:Nat):Int) (fun jx=>fL (List.take jx t.ar) (List.g t.ar jx) j))))))
theorem F2 {d:Nat} {h:au} {mY:AV} (j:cz) (ahead:List Task) (t:Task) (bH:aL.ok h j) (iJ:aS h mY ahead) (Rq:aL.ok h t) (bW:Tidy h):cR (d+8) (.fn 27) [(AV.agg [j.aj,j.ag]),mY,(AV.agg [(AV.str t.name),(Zi t.aI),t.aO,t.aU])] h= .ret (Zi (cZ j ahead t)) h:=by
 have A6:=iJ.small
 have dP:=bH.1.small
 have dQ:=bH.2.small
 have Hc:=Rq.2.2.small
 obtain ⟨h1,bM,cx,jc,aQ,cA⟩:=j_ bW (aM.cells [j.aj,j.ag] 25 false)
 have bt:Has h h1:=cA
 obtain ⟨h2,su,uQ,Yv,gq,my⟩:=j_ cx (aM.cells [(AV.str t.name),(Zi t.aI),t.aO,t.aU] 44 false)
 have kp:Has h h2:=bt.trans my
 have k3:=Ex (d:=d+6) t.name Rq.1 uQ
 rcases Bool.eq_false_or_eq_true (!(gC t.name)) with f0 | f0
 · have e:cZ j ahead t=5:=by simp only[cZ,f0,cond_true,cond_false]
   rw[e]
   exact aD rfl (bb Tryz.func27 lL rfl (.inr rfl) (pk (d+7) _ _ h _ h2 (NN bM (fun i=>(Pt i))<|NN su (fun i=>(Pt i))<|CN 2<|MM (aw 9 0 (AV.str t.name) gq k!)<|EE k3<|CN 2<|BC f0<|ZZ) k!) k!) kp rfl
 · have k5:=A4 (d:=d+5) ahead (fun y=>ic y t) (iJ.has kp) (fun y hy hh yy aa=>Eo (d:=d+4) y t h1.nx (aL.mono aa ((iJ.has kp).oks y hy)) (aL.mono aa (aL.mono kp Rq)) (aa _ _ gq) yy) uQ
   rcases Bool.eq_false_or_eq_true (fm ahead (fun y=>ic y t)) with f1 | f1
   · have e:cZ j ahead t=6:=by simp only[cZ,f0,f1,cond_true,cond_false]
     rw[e]
     exact aD rfl (bb Tryz.func27 lL rfl (.inr rfl) (pk (d+7) _ _ h _ h2 (NN bM (fun i=>(Pt i))<|NN su (fun i=>(Pt i))<|CN 2<|MM (aw 9 0 (AV.str t.name) gq k!)<|EE k3<|CN 2<|BB f0<|CN 2<|EE k5<|CC<|BC f1<|ZZ) k!) k!) kp rfl
   · have k7:=pZ (d:=d+5) t.aI uQ
     rcases Bool.eq_false_or_eq_true (!(dg t.aI)) with f2 | f2
     · have e:cZ j ahead t=1:=by simp only[cZ,f0,f1,f2,cond_true,cond_false]
       rw[e]
       exact aD rfl (bb Tryz.func27 lL rfl (.inr rfl) (pk (d+7) _ _ h _ h2 (NN bM (fun i=>(Pt i))<|NN su (fun i=>(Pt i))<|CN 2<|MM (aw 9 0 (AV.str t.name) gq k!)<|EE k3<|CN 2<|BB f0<|CN 2<|EE k5<|CC<|BC f1<|MM (aw 3 1 (Zi t.aI) gq k!)<|EE k7<|CN 2<|BC f2<|ZZ) k!) k!) kp rfl
     · have ln9:b6 (some (.slice 3)) (some t.aO)=some (Zn t.az.length):=Rq.2.1.len
       have Ff:=AX (d:=d+6) t.az ((t.az.length:Nat):Int) (fun jx=>cO (List.take jx t.az) (List.g t.az jx) j) (Rq.2.1.has kp) (fun jx hj aV hh yy aa fa=>Es (d:=d+2) (List.take jx t.az) (List.g t.az jx) j h.nx fa (aL.mono aa (aL.mono kp bH)) (aa _ _ (my _ _ aQ)) yy) uQ
       rcases Bool.eq_false_or_eq_true (!decide ((ch t.az ((t.az.length:Nat):Int) (fun jx=>cO (List.take jx t.az) (List.g t.az jx) j))=0)) with f3 | f3
       · have mX:=BI f3
         have e:cZ j ahead t=(ch t.az ((t.az.length:Nat):Int) (fun jx=>cO (List.take jx t.az) (List.g t.az jx) j)):=by simp only[cZ,f0,f1,f2,f3,cond_true,cond_false]
         rw[e]
         exact aD rfl (bb Tryz.func27 lL rfl (.inr rfl) (pk (d+7) _ _ h _ h2 (NN bM (fun i=>(Pt i))<|NN su (fun i=>(Pt i))<|CN 2<|MM (aw 9 0 (AV.str t.name) gq k!)<|EE k3<|CN 2<|BB f0<|CN 2<|EE k5<|CC<|BC f1<|MM (aw 3 1 (Zi t.aI) gq k!)<|EE k7<|CN 2<|BC f2<|MM (aw 26 2 t.aO gq k!)<|CC<|MM (aw 26 2 t.aO gq k!)<|VV ln9<|CC<|EE Ff<|CN 2<|VV (eu 29 false true .i64 (ch t.az ((t.az.length:Nat):Int) (fun jx=>cO (List.take jx t.az) (List.g t.az jx) j)) 0)<|BB f3<|CN 2<|ZZ) k!) k!) kp rfl
       · have mX:=BJ f3
         have NF:b6 (some (.slice 88)) (some t.aU)=some (Zn t.ar.length):=Rq.2.2.len
         have k13:=AY (d:=d+6) t.ar ((t.ar.length:Nat):Int) (fun jx=>fL (List.take jx t.ar) (List.g t.ar jx) j) (Rq.2.2.has kp) (fun jx hj aV hh yy aa fa=>Ew (d:=d+1) (List.take jx t.ar) (List.g t.ar jx) j h.nx fa (aL.mono aa ((Rq.2.2.has kp).ok hj)) (aL.mono aa (aL.mono kp bH)) (aa _ _ (my _ _ aQ)) yy) uQ
         have e:cZ j ahead t=(dI t.ar ((t.ar.length:Nat):Int) (fun jx=>fL (List.take jx t.ar) (List.g t.ar jx) j)):=by simp only[cZ,f0,f1,f2,f3,cond_true,cond_false]
         rw[e]
         exact aD rfl (bb Tryz.func27 lL rfl (.inr rfl) (pk (d+7) _ _ h _ h2 (NN bM (fun i=>(Pt i))<|NN su (fun i=>(Pt i))<|CN 2<|MM (aw 9 0 (AV.str t.name) gq k!)<|EE k3<|CN 2<|BB f0<|CN 2<|EE k5<|CC<|BC f1<|MM (aw 3 1 (Zi t.aI) gq k!)<|EE k7<|CN 2<|BC f2<|MM (aw 26 2 t.aO gq k!)<|CC<|MM (aw 26 2 t.aO gq k!)<|VV ln9<|CC<|EE Ff<|CN 2<|VV (eu 29 false true .i64 (ch t.az ((t.az.length:Nat):Int) (fun jx=>cO (List.take jx t.az) (List.g t.az jx) j)) 0)<|BC f3<|MM (aw 42 3 t.aU gq k!)<|CC<|MM (aw 42 3 t.aU gq k!)<|VV NF<|CC<|EE k13<|CC<|ZZ) k!) k!) kp rfl
noncomputable def F3:Code:=(Tryz.f26.body).getD .skip
theorem NG:Tryz.f26.body=some F3:=by kernel_rfl
def eK (ahead:List Task) (t:Task) (j:cz):Int:=(cZ j ahead t)
theorem NH {d:Nat} {h:au} {mY:AV} (ahead:List Task) (t:Task) (j:cz) (jB:Nat) (iJ:aS h mY ahead) (Rq:aL.ok h t) (bH:aL.ok h j) (g_j:h.get jB=some (.cells (aL.c j) 25 false)) (bW:Tidy h):cR (d+9) (.fn 26) [mY,(AV.agg [(AV.str t.name),(Zi t.aI),t.aO,t.aU]),(Pt jB)] h= .ret (Zi (eK ahead t j)) h:=by
 have A6:=iJ.small
 have Hc:=Rq.2.2.small
 have dP:=bH.1.small
 have dQ:=bH.2.small
 obtain ⟨h1,bM,cx,jc,aQ,cA⟩:=j_ bW (aM.cells [(AV.str t.name),(Zi t.aI),t.aO,t.aU] 44 false)
 have bt:Has h h1:=cA
 have k2:=F2 (d:=d) j ahead t (aL.mono bt bH) (iJ.has bt) (aL.mono bt Rq) cx
 have e:eK ahead t j=(cZ j ahead t):=by simp only[eK,cond_true,cond_false]
 rw[e]
 exact aD rfl (bb Tryz.func26 NG rfl (.inr rfl) (pk (d+8) _ _ h _ h1 (NN bM (fun i=>(Pt i))<|CC<|MM (aw 25 0 (AV.agg [j.aj,j.ag]) (cA _ _ g_j) k!)<|CC<|MM (aw 44 0 (AV.agg [(AV.str t.name),(Zi t.aI),t.aO,t.aU]) aQ k!)<|EE k2<|CC<|ZZ) k!) k!) bt rfl
noncomputable def F4:Code:=(Tryz.f113.body).getD .skip
theorem NI:Tryz.f113.body=some F4:=by kernel_rfl
def b9 (s:List Bool):List Bool:=s
theorem NJ {d:Nat} {h:au} (s:List Bool) (sB:Nat) (sN:Nat) (sF:Bool) (g_s:h.get sB=some (aM.cells (bs s) 4 false)) (l_s:s.length=sN) (t_s:sB<h.nx) (lI:s.length≤1000000000) (bW:Tidy h):∃z n op hk,cR (d+1) (.fn 113) [(AV.slice sB 0 sN sN sF)] h= .ret (.slice z 0 n n op) hk∧bF h hk∧hk.get z=some (aM.cells (bs (b9 s)) 4 false)∧(b9 s).length=n∧h.nx≤z:=by
 obtain ⟨h1,bM,cx,jc,aQ,cA⟩:=j_ bW (aM.cells [] 4 false)
 have bt:Has h h1:=cA
 obtain ⟨qb3,qf4,h2,afx,uQ,ai6,ahH,afy,ai7⟩:=IQ (tys:= #[90,90]) (n:=sN) (b:=sB) (f:=sF) cx aQ (cA _ _ g_s) (by first | (rw[Nc];omega) | (rw[fB];omega)) (by first | exact Rp _ | exact vL _) o! rfl rfl k! k! k! (bytes:=1) k! (z0:=AV.bool false) k! rfl (by decide)
 have kp:Has h h2:=bt.trans ahH
 have e:b9 s=s:=by simp only[b9,cond_true,cond_false]
 rw[e]
 exact ⟨qb3,sN,qf4,ju rfl (bb Tryz.func113 NI rfl (.inr rfl) (pk (d) _ _ h _ h2 (CN 3<|FF<|NN bM (fun i=>(AV.slice i 0 0 0 false))<|CC<|PP (show dJ env h1 #[90,90] (AV.slice h.nx 0 0 0 false) (AV.slice sB 0 sN sN sF)=some ((AV.slice qb3 0 sN sN qf4),h2) from afx)<|CC<|ZZ) k!) k!) bW ⟨uQ,kp,by omega⟩ (P:=fun hh=>hh.get qb3=some (aM.cells (bs s) 4 false)∧(s).length=sN∧h.nx≤qb3) ⟨afy,l!,by omega⟩ fun v=>(G6 v o!).elim⟩
noncomputable def ti:Code:=(Tryz.f162.body).getD .skip
theorem zC:Tryz.f162.body=some ti:=by kernel_rfl
noncomputable def EA:Code:=(bE ti).getD 0 .skip
def fM (s:List Int) (P:Nat→Bool):Nat→Nat→Option (Int)
 | 0,_=>none
 | dz+1,i0=>(bif (P i0) then some ((i0:Nat):Int) else fM s P dz (i0+1))
theorem oQ {d:Nat} {h:au} (sV:AV) (g:FuncId) (cap:List AV) (s:List Int) (P:Nat→Bool) (bn:b_ h .i64 3 sV s) (hP:∀i hh,i<s.length→Tidy hh→Has h hh→cR d (.fn g) (.int .i64 (List.g s i)::cap) hh= .ret (.bool (P i)) hh):∀(k_ i_:Nat) (_:i_+k_=s.length) (x:Nat→AV) (hh:au) (aE:Tidy hh) (aB:Has h hh),aA (cR (d)) EA ⟨(sV::(AV.func g [] cap)::rx x 2 5 ((Zn s.length)::(Zn i_)::rx x 9 10 [])),hh,[],.no⟩ (.exit 0) hh (fun y=>(sV::(AV.func g [] cap)::rx y 2 5 ((Zn s.length)::rx y 8 11 []))) (fun r y=>(sV::(AV.func g [] cap)::(y 2)::(y 3)::(Zi r)::(y 5)::(y 6)::(Zn s.length)::rx y 8 11 [])) (fM s P k_ i_)
 | 0,i0,fX,x,hh,aE,aB=>by
   have cm:=bn.small
   have q1:(decide (((i0:Nat):Int)<((s.length:Nat):Int)))=false:=d!
   exact aA.out rfl (pk (d) _ _ hh _ hh (VV (ba 3 false false .i64 ((i0:Nat):Int) ((s.length:Nat):Int))<|BB q1<|ZZ) k!) (bF.refl aE) k!
 | dz+1,i0,fX,x,hh,aE,aB=>by
   have cm:=bn.small
   have q1:(decide (((i0:Nat):Int)<((s.length:Nat):Int)))=true:=d!
   obtain ⟨p3,q4,cX,_⟩:=(bn.has aB).elem (i:=i0) o!
   have gv:bS env (some (.slice 3)) (some sV) (some (Zn i0))=some (AV.ptr p3 q4):=cX
   have g5:bh env hh 3 (AV.ptr p3 q4)=some (Zi (s.g i0)):=(bn.has aB).load o! cX
   have k6:=hP i0 hh o! aE aB
   rcases Bool.eq_false_or_eq_true (P i0) with f1 | f1
   · exact aA.ret ((i0:Nat):Int) (by simp only[fM,f1,cond_true,cond_false]) (pk (d) _ _ hh _ hh (VV (ba 3 false false .i64 ((i0:Nat):Int) ((s.length:Nat):Int))<|BB q1<|CN 5<|VV gv<|MM g5<|EE k6<|BB f1<|CN 2<|ZZ) k!) (bF.refl aE) k!
   · have u8:=fe 3 false true i0 1 o!
     exact aA.round (by simp only[fM,f1,cond_true,cond_false]) (pk (d) _ _ hh _ hh (VV (ba 3 false false .i64 ((i0:Nat):Int) ((s.length:Nat):Int))<|BB q1<|CN 5<|VV gv<|MM g5<|EE k6<|BV f1 u8<|CC<|ZZ) k!) (bF.refl aE) _ k! (fun x=>oQ sV g cap s P bn hP dz (i0+1) o! x hh aE aB)
def jD (s:List Int) (P:Nat→Bool):Int:=(match (fM s P s.length 0) with | none=>(-1) | some AZ=>AZ)
theorem IX {d:Nat} {h:au} {sV:AV} {g:FuncId} {cap:List AV} (s:List Int) (P:Nat→Bool) (qd:b_ h .i64 3 sV s) (hP:∀i hh,i<s.length→Tidy hh→Has h hh→cR d (.fn g) (.int .i64 (List.g s i)::cap) hh= .ret (.bool (P i)) hh) (bW:Tidy h):cR (d+1) (.fn 162) [sV,(AV.func g [] cap)] h= .ret (Zi (jD s P)) h:=by
 have zy:=qd.small
 have dG:b6 (some (.slice 3)) (some sV)=some (Zn s.length):=qd.len
 cases ef:fM s P s.length 0 with
 | none=>
   obtain ⟨Mm,h3,dD,dq⟩:=aA.n ef (oQ (d:=d) (h:=h) sV g cap s P qd hP s.length 0 o! (fun k_=>((sV::(AV.func g [] cap)::AV.undef::AV.undef::(Zi 0)::AV.undef::sV::(Zn s.length)::(Zi 0)::g4 10):List AV).getD k_ AV.undef) h bW (Has.refl _))
   have nh:=dq.y
   have uR:h.nx≤h3.nx:=dq.n
   have iz:Has h h3:=dq.a
   have e:jD s P=(-1):=by simp only[jD,ef,cond_true,cond_false]
   rw[e]
   exact aD rfl (bb Tryz.func162 zC rfl (.inr rfl) (pk (d) _ _ h _ h3 (CN 2<|VV dG<|CC<|LL dD<|CC<|ZZ) k!) k!) iz rfl
 | some AZ=>
   obtain ⟨Mm,h3,dD,dq⟩:=aA.r ef (oQ (d:=d) (h:=h) sV g cap s P qd hP s.length 0 o! (fun k_=>((sV::(AV.func g [] cap)::AV.undef::AV.undef::(Zi 0)::AV.undef::sV::(Zn s.length)::(Zi 0)::g4 10):List AV).getD k_ AV.undef) h bW (Has.refl _))
   have nh:=dq.y
   have uR:h.nx≤h3.nx:=dq.n
   have iz:Has h h3:=dq.a
   have e:jD s P=AZ:=by simp only[jD,ef,cond_true,cond_false]
   rw[e]
   exact aD rfl (bb Tryz.func162 zC rfl (.inr rfl) (pk (d) _ _ h _ h3 (CN 2<|VV dG<|CC<|LL dD<|ZZ) k!) k!) iz rfl
noncomputable def xF:Code:=(Tryz.f144.body).getD .skip
theorem Cn:Tryz.f144.body=some xF:=by kernel_rfl
def gL (s:List Int) (P:Nat→Bool):Bool:=(decide (0≤(jD s P)))
theorem Co {d:Nat} {h:au} {sV:AV} {g:FuncId} {cap:List AV} (s:List Int) (P:Nat→Bool) (qd:b_ h .i64 3 sV s) (hP:∀i hh,i<s.length→Tidy hh→Has h hh→cR d (.fn g) (.int .i64 (List.g s i)::cap) hh= .ret (.bool (P i)) hh) (bW:Tidy h):cR (d+2) (.fn 144) [sV,(AV.func g [] cap)] h= .ret (AV.bool (gL s P)) h:=by
 have zy:=qd.small
 have k1:=IX (d:=d) s P qd hP bW
 have e:gL s P=(decide (0≤(jD s P))):=by simp only[gL,cond_true,cond_false]
 rw[e]
 exact aD rfl (bb Tryz.func144 Cn rfl (.inr rfl) (pk (d+1) _ _ h _ h (CN 3<|EE k1<|VV (lH 3 false true .i64 (jD s P) 0)<|CC<|ZZ) k!) k!) (Has.refl _) rfl
noncomputable def EB:Code:=(Tryz.f145.body).getD .skip
theorem Lx:Tryz.f145.body=some EB:=by kernel_rfl
def nE (kR:Int) (gr:List Bool):Bool:=(!(gr.g kR.toNat))
theorem Ly {d:Nat} {h:au} {ij:AV} (kR:Int) (gr:List Bool) (PO:Nat) (lM:nv h 4 ij gr) (Vp:h.get PO=some (aM.cells [ij] 90 false)) (lI:0≤kR) (oL:kR<(gr.length:Int)) (bW:Tidy h):cR (d+1) (.fn 145) [(Zi kR),(Pt PO)] h= .ret (AV.bool (nE kR gr)) h:=by
 have NK:=lM.small
 obtain ⟨p2,q3,afz,_⟩:=lM.elem (i:=kR.toNat) o!
 have ix1:bS env (some (.slice 4)) (some ij) (some (Zi kR))=some (AV.ptr p2 q3):=by rw[show (kR:Int)=((kR.toNat:Nat):Int) by omega];exact afz
 have WQ:bh env h 4 (AV.ptr p2 q3)=some (AV.bool (gr.g kR.toNat)):=lM.load o! afz
 have e:nE kR gr=(!(gr.g kR.toNat)):=by simp only[nE,cond_true,cond_false]
 rw[e]
 exact aD rfl (bb Tryz.func145 Lx rfl (.inr rfl) (pk (d) _ _ h _ h (CC<|MM (aw 90 0 ij Vp k!)<|CC<|VV ix1<|MM WQ<|CN 2<|ZZ) k!) k!) (Has.refl _) rfl
noncomputable def F5:Code:=(Tryz.f114.body).getD .skip
theorem EC:Tryz.f114.body=some F5:=by kernel_rfl
def mZ (ab:List Task) (gr:List Bool) (task:Int):Bool:=(bif (!(gr.g task.toNat)) then (!(gL ((ab.g task.toNat).az) (fun i=>nE (List.g ((ab.g task.toNat).az) i) gr))) else false)
theorem NL {d:Nat} {h:au} {aj ij:AV} (ab:List Task) (gr:List Bool) (task:Int) (kT:aS h aj ab) (lM:nv h 4 ij gr) (lI:0≤task) (oL:task<(gr.length:Int)) (D2:gr.length=ab.length) (FK:∀i,i<(ab.g task.toNat).az.length→0≤(ab.g task.toNat).az.g i∧(ab.g task.toNat).az.g i<(gr.length:Int)) (bW:Tidy h):cR (d+4) (.fn 114) [aj,ij,(Zi task)] h= .ret (AV.bool (mZ ab gr task)) h:=by
 have Hd:=kT.small
 have NK:=lM.small
 obtain ⟨h1,bM,cx,jc,aQ,cA⟩:=j_ bW (aM.cells [ij] 90 false)
 have bt:Has h h1:=cA
 obtain ⟨p3,q4,cX,_⟩:=lM.elem (i:=task.toNat) o!
 have gv:bS env (some (.slice 4)) (some ij) (some (Zi task))=some (AV.ptr p3 q4):=by rw[show (task:Int)=((task.toNat:Nat):Int) by omega];exact cX
 have g5:bh env h1 4 (AV.ptr p3 q4)=some (AV.bool (gr.g task.toNat)):=(lM.has bt).load o! cX
 rcases Bool.eq_false_or_eq_true (!(gr.g task.toNat)) with f0 | f0
 · obtain ⟨p8,q9,zD⟩:=kT.elem (i:=task.toNat) o!
   have NA:bS env (some (.slice 44)) (some aj) (some (Zi task))=some (AV.ptr p8 q9):=by rw[show (task:Int)=((task.toNat:Nat):Int) by omega];exact zD
   have o_:bh env h1 26 (AV.ptr p8 (q9+2))=some ((ab.g task.toNat).aO):=(kT.has bt).part (t:=26) (j:=2) o! zD k! rfl
   have FJ:=Co (d:=d+1) ((ab.g task.toNat).az) (fun i=>nE (List.g ((ab.g task.toNat).az) i) gr) (((kT.ok (i:=task.toNat) o!).2.1).has bt) (fun i hh hi yy aa=>by have q_:=FK i hi;exact Ly (d:=d) (List.g ((ab.g task.toNat).az) i) gr h.nx ((lM.has bt).has aa) (aa _ _ aQ) o! o! yy) cx
   have e:mZ ab gr task=(!(gL ((ab.g task.toNat).az) (fun i=>nE (List.g ((ab.g task.toNat).az) i) gr))):=by simp only[mZ,f0,cond_true,cond_false]
   rw[e]
   exact aD rfl (bb Tryz.func114 EC rfl (.inr rfl) (pk (d+3) _ _ h _ h1 (AA (.a (aM.cells [ij] 90 false) (Pt h.nx) h1)<|HH bM<|HH (show ∃mk:Nat→AV,some (aM.cells (AV.cells ij) 90 false,fun i=>AV.ptr i 0)=some (aM.cells [ij] 90 false,mk)∧mk h.nx=(Pt h.nx) from ⟨_,(by rw[y7 lM.scalar]),rfl⟩)<|CC<|MM (aw 90 0 ij aQ k!)<|CC<|VV gv<|MM g5<|CN 2<|BC f0<|BC f0<|BV f0 NA<|BC f0<|BM f0 o_<|BC f0<|BB f0<|EE FJ<|BC f0<|VV (kI (!(gL ((ab.g task.toNat).az) (fun i=>nE (List.g ((ab.g task.toNat).az) i) gr))) false f0)<|CC<|ZZ) k!) k!) bt rfl
 · have e:mZ ab gr task=false:=by simp only[mZ,f0,cond_true,cond_false]
   rw[e]
   exact aD rfl (bb Tryz.func114 EC rfl (.inr rfl) (pk (d+3) _ _ h _ h1 (AA (.a (aM.cells [ij] 90 false) (Pt h.nx) h1)<|HH bM<|HH (show ∃mk:Nat→AV,some (aM.cells (AV.cells ij) 90 false,fun i=>AV.ptr i 0)=some (aM.cells [ij] 90 false,mk)∧mk h.nx=(Pt h.nx) from ⟨_,(by rw[y7 lM.scalar]),rfl⟩)<|CC<|MM (aw 90 0 ij aQ k!)<|CC<|VV gv<|MM g5<|CN 2<|BB f0<|BB f0<|BB f0<|BB f0<|BB f0<|BB f0<|BB f0<|BV f0 (tS false f0)<|CC<|ZZ) k!) k!) bt rfl
noncomputable def oR:Code:=(Tryz.f57.body).getD .skip
theorem IY:Tryz.f57.body=some oR:=by kernel_rfl
noncomputable def ED:Code:=(bE oR).getD 0 .skip
noncomputable def EF:Code:=(bE oR).getD 1 .skip
def fh (order:List Int) (ab:List Task):Nat→Nat→List Int→List Bool→List Int×List Bool
 | 0,_,rI,ca=>(rI,ca)
 | qN+1,i1,rI,ca=>(bif (mZ ab ca (order.g i1)) then ((rI++[(order.g i1)]),(ca.set (order.g i1).toNat true)) else fh order ab qN (i1+1) rI ca)
theorem tj {d:Nat} {h:au} {gg1:au} (aj:AV) (fT:AV) (aG:List Bool) (Lz:Bool) (order:List Int) (i0:Nat) (ab:List Task) (cE:Nat) (dM:aS h aj ab) (dm:b_ h .i64 3 fT order) (Ea:i0<order.length) (pa:∀i,i<ab.length→∀q,q<(ab.g i).az.length→0≤(ab.g i).az.g q∧(ab.g i).az.g q<(ab.length:Int)) (sr:∀q,q<order.length→0≤order.g q∧order.g q<(ab.length:Int)) (dv:aG.length=ab.length) (jS:ab.length≤100000) (IZ:order.length≤100000) (LA:(b9 aG).length=ab.length) (bW:Tidy h) (II:h.nx≤cE) (NG1:h.nx≤gg1.nx) (afA:cE<gg1.nx):∀(k_ i_:Nat) (rI:List Int) (ca:List Bool) (z1:AV) (_:i_+k_=order.length) (_:((rI.length≤i0+1)∧(rI.length≤i0))) (x:Nat→AV) (hh:au) (aE:Tidy hh) (aB:Has h hh) (jv:h.nx≤hh.nx) (qt:ca.length=((b9 aG).length)) (bZ:hh.get cE=some (aM.cells (bs ca) 4 false)) (oz1:g7 3 gg1 hh z1 (zs .i64 rI)) (lz1:rI.length≤1000000000) (aaw:gg1.nx≤hh.nx),cg (σ:=List Int×List Bool) (ρ:=Unit) (cR (d+4)) EF ⟨(aj::fT::rx x 2 5 ((AV.slice cE 0 ((b9 aG).length) ((b9 aG).length) Lz)::z1::rx x 9 5 ((Zn order.length)::(Zn i0)::(x 16)::fT::(Zn order.length)::(Zn i_)::rx x 20 17 []))),hh,[],.no⟩ (.exit 2) hh (fun r z y=>(aj::fT::rx y 2 5 ((AV.slice cE 0 ((b9 aG).length) ((b9 aG).length) Lz)::z::rx y 9 5 ((Zn order.length)::(Zn i0)::(y 16)::fT::(Zn order.length)::rx y 19 18 [])))) (fun r z y=>(aj::fT::rx y 2 5 ((AV.slice cE 0 ((b9 aG).length) ((b9 aG).length) Lz)::rx y 8 6 ((Zn order.length)::(Zn i0)::(y 16)::fT::(Zn order.length)::rx y 19 18 [])))) (fun r z hk=>Has h hk∧hk.get cE=some (aM.cells (bs r.2) 4 false)∧r.2.length=((b9 aG).length)∧(r.1.length≤i0+1)∧g7 3 gg1 hk z (zs .i64 r.1)∧r.1.length≤1000000000) (fun r z hk=>Has h hk) (Sum.inl (fh order ab k_ i_ rI ca))
 | 0,i1,rI,ca,z1,fX,cL,x,hh,aE,aB,jv,qt,bZ,oz1,lz1,aaw=>by
   have jy:=dM.small
   have jz:=dm.small
   have ss:=aE _ _ bZ
   have NB:=pa
   have OB:=sr
   have ob_:=OB i1
   have ahI:i1<order.length→0≤order.g i1∧order.g i1<(ab.length:Int):=ob_
   have q1:(decide (((i1:Nat):Int)<((order.length:Nat):Int)))=false:=d!
   exact cg.out (rI,ca) z1 rfl (pk (d+4) _ _ hh _ hh (VV (ba 3 false false .i64 ((i1:Nat):Int) ((order.length:Nat):Int))<|BB q1<|ZZ) k!) aE o! ⟨aB,bZ,l!,(show (rI.length≤i0+1) from (by first | omega | (simp<;>omega))),oz1,(by first | omega | (simp<;>omega))⟩ k!
 | qN+1,i1,rI,ca,z1,fX,cL,x,hh,aE,aB,jv,qt,bZ,oz1,lz1,aaw=>by
   have jy:=dM.small
   have jz:=dm.small
   have ss:=aE _ _ bZ
   have NB:=pa
   have OB:=sr
   have ob_:=OB i1
   have ahI:i1<order.length→0≤order.g i1∧order.g i1<(ab.length:Int):=ob_
   have q1:(decide (((i1:Nat):Int)<((order.length:Nat):Int)))=true:=d!
   obtain ⟨p3,q4,cX,_⟩:=dm.elem (i:=i1) o!
   have gv:bS env (some (.slice 3)) (some fT) (some (Zn i1))=some (AV.ptr p3 q4):=cX
   have g5:bh env hh 3 (AV.ptr p3 q4)=some (Zi (order.g i1)):=(dm.has aB).load o! cX
   have k6:=NL (d:=d) ab ca (order.g i1) (dM.has aB) (nv.own (op:=Lz) k! k! bZ l! o!) (by first | omega | assumption | exact NB _ o! | (intro q hq;have q_:=NB _ o! q hq;omega)) (by first | omega | assumption | exact NB _ o! | (intro q hq;have q_:=NB _ o! q hq;omega)) (by first | omega | assumption | exact NB _ o! | (intro q hq;have q_:=NB _ o! q hq;omega)) (by first | omega | assumption | exact NB _ o! | (intro q hq;have q_:=NB _ o! q hq;omega)) aE
   rcases Bool.eq_false_or_eq_true (mZ ab ca (order.g i1)) with f1 | f1
   · have Ad:bS env (some (.slice 4)) (some (AV.slice cE 0 ((b9 aG).length) ((b9 aG).length) Lz)) (some (Zi (order.g i1)))=some (AV.ptr cE (order.g i1).toNat):=km k! (show (order.g i1).toNat<((b9 aG).length) by omega) o!
     obtain ⟨h9,acw⟩:∃IK:au,IK=hh.put cE (some (aM.cells (bs (ca.set (order.g i1).toNat true)) 4 false)):=⟨_,rfl⟩
     have ahJ:dL env hh 4 (AV.ptr cE (order.g i1).toNat) (AV.bool true)=some h9:=by rw[acw];exact pT k! bZ l!
     have Y2:Iw hh h9 cE (aM.cells (bs (ca.set (order.g i1).toNat true)) 4 false):=by rw[acw];exact j9 aE bZ
     have nz:=Y2.1
     have afm:h9.nx=hh.nx:=by rw[acw];rfl
     have hZ:Has h h9:=Y2.has aB bW o!
     obtain ⟨tI,UM,mP,aaj,La,qu⟩:=j_ nz (aM.cells [(Zi (order.g i1))] 3 false)
     have kY:Has h tI:=hZ.trans qu
     have Vq:Has h9 tI:=qu
     obtain ⟨z12,l_,acx,mQ,aax,aay,ahK⟩:=g7.Yt (k:= .i64) (g:=gg1) (tys:= #[26,26]) (v:=(order.g i1)) (L:=rI) mP o! ((oz1.chg Y2 o!).has Vq) La (by first | omega | (simp<;>omega)) rfl rfl k! k! k! (bytes:=8) k! (z0:=Zi 0) k! rfl (by decide)
     have uS:Has h l_:=Has.Nd kY bW o! aay
     exact cg.out ((rI++[(order.g i1)]),(ca.set (order.g i1).toNat true)) z12 (congrArg Sum.inl (by simp only[fh,f1,cond_true,cond_false])) (pk (d+4) _ _ hh _ l_ (VV (ba 3 false false .i64 ((i1:Nat):Int) ((order.length:Nat):Int))<|BV q1 gv<|MM g5<|CN 4<|EE k6<|BB f1<|CN 2<|VV Ad<|SS ahJ<|CN 2<|NN UM (fun i=>(AV.slice i 0 1 1 false))<|PP (show dJ env tI #[26,26] z1 (AV.slice h9.nx 0 1 1 false)=some (z12,l_) from acx)<|CC<|ZZ) k!) mQ o! ⟨uS,(aay _ _ o! (qu _ _ Y2.2.1)),l!,(show ((rI++[(order.g i1)]).length≤i0+1) from (by first | omega | (simp<;>omega))),ahK,(by first | omega | (simp<;>omega))⟩ k!
   · have u8:=fe 3 false true i1 1 o!
     exact cg.round (congrArg Sum.inl (by simp only[fh,f1,cond_true,cond_false])) (pk (d+4) _ _ hh _ hh (VV (ba 3 false false .i64 ((i1:Nat):Int) ((order.length:Nat):Int))<|BV q1 gv<|MM g5<|CN 4<|EE k6<|BV f1 u8<|CC<|ZZ) k!) o! _ k! (fun x=>tj aj fT aG Lz order i0 ab cE dM dm Ea pa sr dv jS IZ LA bW II NG1 afA qN (i1+1) rI ca z1 o! (show ((rI.length≤i0+1)∧(rI.length≤i0)) from (by first | omega | (simp<;>omega))) x hh aE aB o! l! bZ oz1 (by first | omega | (simp<;>omega)) o!)
def fN (order:List Int) (ab:List Task):Nat→Nat→List Int→List Bool→List Int×List Bool
 | 0,_,ff,bD=>(ff,bD)
 | dz+1,i0,ff,bD=>fN order ab dz (i0+1) ((fh order ab order.length 0 ff bD).1) ((fh order ab order.length 0 ff bD).2)
theorem tp {d:Nat} {h:au} {gg0:au} (aj:AV) (fT:AV) (aG:List Bool) (Lz:Bool) (order:List Int) (ab:List Task) (br:Nat) (bn:aS h aj ab) (b8:b_ h .i64 3 fT order) (iy:∀i,i<ab.length→∀q,q<(ab.g i).az.length→0≤(ab.g i).az.g q∧(ab.g i).az.g q<(ab.length:Int)) (kr:∀q,q<order.length→0≤order.g q∧order.g q<(ab.length:Int)) (rF:aG.length=ab.length) (tD:ab.length≤100000) (qM:order.length≤100000) (tF:(b9 aG).length=ab.length) (bW:Tidy h) (AQ:h.nx≤br) (NG0:h.nx≤gg0.nx) (K9:br<gg0.nx):∀(k_ i_:Nat) (ff:List Int) (bD:List Bool) (z0:AV) (_:i_+k_=order.length) (x:Nat→AV) (hh:au) (aE:Tidy hh) (aB:Has h hh) (jv:h.nx≤hh.nx) (mo:bD.length=((b9 aG).length)) (bj:hh.get br=some (aM.cells (bs bD) 4 false)) (PB:g7 3 gg0 hh z0 (zs .i64 ff)) (lz0:ff.length≤i_) (BR:gg0.nx≤hh.nx),cg (σ:=List Int×List Bool) (ρ:=Unit) (cR (d+4)) ED ⟨(aj::fT::rx x 2 5 ((AV.slice br 0 ((b9 aG).length) ((b9 aG).length) Lz)::z0::rx x 9 5 ((Zn order.length)::(Zn i_)::rx x 16 21 []))),hh,[],.no⟩ (.exit 0) hh (fun r z y=>(aj::fT::rx y 2 5 ((AV.slice br 0 ((b9 aG).length) ((b9 aG).length) Lz)::z::rx y 9 5 ((Zn order.length)::rx y 15 22 [])))) (fun r z y=>(aj::fT::rx y 2 5 ((AV.slice br 0 ((b9 aG).length) ((b9 aG).length) Lz)::rx y 8 6 ((Zn order.length)::rx y 15 22 [])))) (fun r z hk=>Has h hk∧hk.get br=some (aM.cells (bs r.2) 4 false)∧r.2.length=((b9 aG).length)∧g7 3 gg0 hk z (zs .i64 r.1)∧r.1.length≤order.length) (fun r z hk=>Has h hk) (Sum.inl (fN order ab k_ i_ ff bD))
 | 0,i0,ff,bD,z0,fX,x,hh,aE,aB,jv,mo,bj,PB,lz0,BR=>by
   have cm:=bn.small
   have eJ:=b8.small
   have je:=aE _ _ bj
   have NB:=iy
   have OB:=kr
   have q1:(decide (((i0:Nat):Int)<((order.length:Nat):Int)))=false:=d!
   exact cg.out (ff,bD) z0 rfl (pk (d+4) _ _ hh _ hh (VV (ba 3 false false .i64 ((i0:Nat):Int) ((order.length:Nat):Int))<|BB q1<|ZZ) k!) aE o! ⟨aB,bj,l!,PB,(by first | omega | (simp<;>omega))⟩ k!
 | dz+1,i0,ff,bD,z0,fX,x,hh,aE,aB,jv,mo,bj,PB,lz0,BR=>by
   have cm:=bn.small
   have eJ:=b8.small
   have je:=aE _ _ bj
   have NB:=iy
   have OB:=kr
   have q1:(decide (((i0:Nat):Int)<((order.length:Nat):Int)))=true:=d!
   have re:b6 (some (.slice 3)) (some fT)=some (Zn order.length):=b8.len
   obtain ⟨zo5,Ae,h4,iA,nA,Lm,afB,acy,ahL,CM,acz,ahM⟩:=cg.n rfl (tj (d:=d) (h:=h) (gg1:=gg0) aj fT aG Lz order i0 ab br bn b8 o! (by assumption) (by assumption) o! o! o! (by assumption) bW o! o! o! order.length 0 ff bD z0 o! (show ((ff.length≤i0+1)∧(ff.length≤i0)) from (by first | omega | (simp<;>omega))) (fun k_=>((aj::fT::rx x 2 5 ((AV.slice br 0 ((b9 aG).length) ((b9 aG).length) Lz)::z0::rx x 9 5 ((Zn order.length)::(Zn i0)::(AV.bool (decide (((i0:Nat):Int)<((order.length:Nat):Int))))::fT::(Zn order.length)::(Zi 0)::rx x 20 17 []))):List AV).getD k_ AV.undef) hh aE aB o! l! bj PB (by first | omega | (simp<;>omega)) o!)
   have kQ:Has h h4:=afB
   have u6:=fe 3 false true i0 1 o!
   exact cg.round (congrArg Sum.inl (by simp only[fN,cond_true,cond_false])) (pk (d+4) _ _ hh _ h4 (VV (ba 3 false false .i64 ((i0:Nat):Int) ((order.length:Nat):Int))<|BC q1<|VV re<|CC<|LL iA<|VV u6<|CC<|ZZ) k!) o! _ k! (fun x=>tp aj fT aG Lz order ab br bn b8 iy kr rF tD qM tF bW AQ NG0 K9 dz (i0+1) ((fh order ab order.length 0 ff bD).1) ((fh order ab order.length 0 ff bD).2) zo5 o! x h4 nA kQ o! l! acy acz (by first | omega | (simp<;>omega)) o!)
def jE (ab:List Task) (order:List Int) (aG:List Bool):List Int:=((fN order ab order.length 0 ([]) (b9 aG)).1)
theorem I0 {d:Nat} {h:au} {aj fT:AV} (ab:List Task) (order:List Int) (aG:List Bool) (bL:Nat) (placedN:Nat) (CO:Bool) (kT:aS h aj ab) (I1:b_ h .i64 3 fT order) (kt:h.get bL=some (aM.cells (bs aG) 4 false)) (Li:aG.length=placedN) (afC:bL<h.nx) (lI:∀i,i<ab.length→∀q,q<(ab.g i).az.length→0≤(ab.g i).az.g q∧(ab.g i).az.g q<(ab.length:Int)) (oL:∀q,q<order.length→0≤order.g q∧order.g q<(ab.length:Int)) (D2:aG.length=ab.length) (FK:ab.length≤100000) (Rb:order.length≤100000) (bW:Tidy h):∃z hk,cR (d+5) (.fn 57) [aj,fT,(AV.slice bL 0 placedN placedN CO)] h= .ret z hk∧bF h hk∧b_ hk .i64 3 z (jE ab order aG)∧g7 3 h hk z (zs .i64 (jE ab order aG)):=by
 have Hd:=kT.small
 have adS:=I1.small
 obtain ⟨qb1,_,Lz,h3,ahN,dq,Vr,rfl,ahO⟩:=NJ (d:=d+3) aG bL placedN CO kt l! o! (by first | omega | assumption | exact NB _ o! | (intro q hq;have q_:=NB _ o! q hq;omega)) bW
 have nh:=dq.y
 have uR:h.nx≤h3.nx:=dq.n
 have iz:Has h h3:=dq.a
 have aiK:=nh _ _ Vr
 have ahP:(b9 aG).length=List.length aG:=rfl
 have CP:b6 (some (.slice 3)) (some fT)=some (Zn order.length):=I1.len
 obtain ⟨zo7,Fm,h6,p_,jf,NM,LB,NP,acA,NQ,acB⟩:=cg.n rfl (tp (d:=d) (h:=h) (gg0:=h3) aj fT aG Lz order ab qb1 kT I1 (by assumption) (by assumption) o! o! o! (by assumption) bW o! o! o! order.length 0 ([]) (b9 aG) AV.aH o! (fun k_=>((aj::fT::(AV.slice bL 0 placedN placedN CO)::AV.undef::AV.undef::AV.undef::AV.aH::(AV.slice qb1 0 ((b9 aG).length) ((b9 aG).length) Lz)::AV.aH::AV.undef::AV.undef::(AV.slice bL 0 placedN placedN CO)::(AV.slice qb1 0 ((b9 aG).length) ((b9 aG).length) Lz)::fT::(Zn order.length)::(Zi 0)::g4 21):List AV).getD k_ AV.undef) h3 nh iz o! l! Vr (.inl ⟨rfl,rfl⟩) (Nat.zero_le _) o!)
 have ia:Has h h6:=LB
 have e:jE ab order aG=((fN order ab order.length 0 ([]) (b9 aG)).1):=by simp only[jE,cond_true,cond_false]
 rw[e]
 have oz:=g7.le (h0:=h) NQ o!
 exact ⟨zo7,ju rfl (bb Tryz.func57 IY rfl (.inr rfl) (pk (d+4) _ _ h _ h6 (CN 2<|EE ahN<|CN 3<|VV CP<|CC<|LL p_<|CN 2<|ZZ) k!) k!) bW ⟨jf,ia,by omega⟩ (P:=fun hh=>b_ hh .i64 3 zo7 ((fN order ab order.length 0 ([]) (b9 aG)).1)∧g7 3 h hh zo7 (zs .i64 ((fN order ab order.length 0 ([]) (b9 aG)).1))) ⟨oz.zs o! k! k!,oz⟩ fun v=>⟨oz.K2 v k! k!,oz.K4 v⟩⟩
noncomputable def uW:Code:=(Tryz.f21.body).getD .skip
theorem LC:Tryz.f21.body=some uW:=by kernel_rfl
noncomputable def F6:Code:=(bE uW).getD 0 .skip
def fp (ab:List Task):Nat→Nat→List Int→List Int
 | 0,_,bD=>bD
 | dz+1,i0,bD=>fp ab dz (i0+1) (bD.set i0 ((i0:Nat):Int))
theorem uX {d:Nat} {h:au} (aj:AV) (ab:List Task) (br:Nat) (bn:aS h aj ab) (iy:∀i,i<ab.length→∀q,q<(ab.g i).az.length→0≤(ab.g i).az.g q∧(ab.g i).az.g q<(ab.length:Int)) (kr:ab.length≤100000) (bW:Tidy h) (AQ:h.nx≤br):∀(k_ i_:Nat) (bD:List Int) (_:i_+k_=ab.length) (_:(∀q,q<(bD).length→0≤(bD).g q∧(bD).g q<(ab.length:Int))) (x:Nat→AV) (hh:au) (aE:Tidy hh) (aB:Has h hh) (jv:h.nx≤hh.nx) (mo:bD.length=ab.length) (bj:hh.get br=some (aM.cells (zs .i64 bD) 3 false)),cg (σ:=List Int) (ρ:=Unit) (cR (d+5)) F6 ⟨(aj::(x 1)::(x 2)::(AV.slice br 0 ab.length ab.length false)::rx x 4 5 ((Zn ab.length)::(Zn i_)::rx x 11 13 [])),hh,[],.no⟩ (.exit 0) hh (fun r z y=>(aj::(y 1)::(y 2)::(AV.slice br 0 ab.length ab.length false)::rx y 4 5 ((Zn ab.length)::rx y 10 14 []))) (fun r z y=>(aj::(y 1)::(y 2)::(AV.slice br 0 ab.length ab.length false)::rx y 4 5 ((Zn ab.length)::rx y 10 14 []))) (fun r z hk=>Has h hk∧hk.get br=some (aM.cells (zs .i64 r) 3 false)∧r.length=ab.length∧(∀q,q<(r).length→0≤(r).g q∧(r).g q<(ab.length:Int))) (fun r z hk=>Has h hk) (Sum.inl (fp ab k_ i_ bD))
 | 0,i0,bD,fX,cL,x,hh,aE,aB,jv,mo,bj=>by
   have cm:=bn.small
   have je:=aE _ _ bj
   have q1:(decide (((i0:Nat):Int)<((ab.length:Nat):Int)))=false:=d!
   exact cg.out bD AV.undef rfl (pk (d+5) _ _ hh _ hh (VV (ba 3 false false .i64 ((i0:Nat):Int) ((ab.length:Nat):Int))<|BB q1<|ZZ) k!) aE o! ⟨aB,bj,l!,(show (∀q,q<(bD).length→0≤(bD).g q∧(bD).g q<(ab.length:Int)) from (by first | exact cL | exact PK cL o! o!))⟩ k!
 | dz+1,i0,bD,fX,cL,x,hh,aE,aB,jv,mo,bj=>by
   have cm:=bn.small
   have je:=aE _ _ bj
   have q1:(decide (((i0:Nat):Int)<((ab.length:Nat):Int)))=true:=d!
   have gv:bS env (some (.slice 3)) (some (AV.slice br 0 ab.length ab.length false)) (some (Zn i0))=some (AV.ptr br i0):=km k! (show i0<ab.length by omega) o!
   obtain ⟨h3,acC⟩:∃IK:au,IK=hh.put br (some (aM.cells (zs .i64 (bD.set i0 ((i0:Nat):Int))) 3 false)):=⟨_,rfl⟩
   have ahQ:dL env hh 3 (AV.ptr br i0) (Zn i0)=some h3:=by rw[acC];exact D0 k! bj l!
   have acD:Iw hh h3 br (aM.cells (zs .i64 (bD.set i0 ((i0:Nat):Int))) 3 false):=by rw[acC];exact j9 aE bj
   have nh:=acD.1
   have ahR:h3.nx=hh.nx:=by rw[acC];rfl
   have iz:Has h h3:=acD.has aB bW o!
   have u4:=fe 3 false true i0 1 o!
   exact cg.round (congrArg Sum.inl (by simp only[fp,cond_true,cond_false])) (pk (d+5) _ _ hh _ h3 (VV (ba 3 false false .i64 ((i0:Nat):Int) ((ab.length:Nat):Int))<|BB q1<|CN 5<|VV gv<|SS ahQ<|VV u4<|CC<|ZZ) k!) o! _ k! (fun x=>uX aj ab br bn iy kr bW AQ dz (i0+1) (bD.set i0 ((i0:Nat):Int)) o! (show (∀q,q<((bD.set i0 ((i0:Nat):Int))).length→0≤((bD.set i0 ((i0:Nat):Int))).g q∧((bD.set i0 ((i0:Nat):Int))).g q<(ab.length:Int)) from (by first | exact cL | exact PK cL o! o!)) x h3 nh iz o! l! acD.2.1)
def dh (ab:List Task):List Int:=(jE ab (fp ab ab.length 0 (List.replicate ab.length 0)) (List.replicate ab.length false))
theorem BU {d:Nat} {h:au} {aj:AV} (ab:List Task) (kT:aS h aj ab) (lI:∀i,i<ab.length→∀q,q<(ab.g i).az.length→0≤(ab.g i).az.g q∧(ab.g i).az.g q<(ab.length:Int)) (oL:ab.length≤100000) (bW:Tidy h):∃z hk,cR (d+6) (.fn 21) [aj] h= .ret z hk∧bF h hk∧b_ hk .i64 3 z (dh ab)∧g7 3 h hk z (zs .i64 (dh ab)):=by
 have Hd:=kT.small
 have dG:b6 (some (.slice 44)) (some aj)=some (Zn ab.length):=kT.len
 have mk2:yU env (some (.slice 3)) (some (Zn ab.length)) (some (Zn ab.length))=some (aM.cells (bT [(Zi 0)] ab.length) 3 false,fun i=>AV.slice i 0 ab.length ab.length false):=pr (bytes:=8) (z:=(Zi 0)) k! k! k! rfl (by decide) o!
 obtain ⟨h3,ahS,nh,ahR,ahT,ahU⟩:=j_ bW (aM.cells (bT [(Zi 0)] ab.length) 3 false)
 have iz:Has h h3:=ahU
 have afD:h3.get h.nx=some (aM.cells (zs .i64 (List.replicate ab.length 0)) 3 false):=by have q:=ahT;rw[Iz] at q;exact q
 obtain ⟨zo6,xA,h5,dH,lJ,tG,Py,acE,abR,Y3⟩:=cg.n rfl (uX (d:=d) (h:=h) aj ab h.nx kT (by assumption) o! bW o! ab.length 0 (List.replicate ab.length 0) o! (show (∀q,q<((List.replicate ab.length 0)).length→0≤((List.replicate ab.length 0)).g q∧((List.replicate ab.length 0)).g q<(ab.length:Int)) from (YZ)) (fun k_=>((aj::AV.undef::AV.aH::(AV.slice h.nx 0 ab.length ab.length false)::AV.undef::aj::(Zn ab.length)::(AV.slice h.nx 0 ab.length ab.length false)::(AV.slice h.nx 0 ab.length ab.length false)::(Zn ab.length)::(Zi 0)::g4 13):List AV).getD k_ AV.undef) h3 nh iz o! l! afD)
 have gA:Has h h5:=Py
 have ln7:b6 (some (.slice 44)) (some aj)=some (Zn ab.length):=kT.len
 have mk8:yU env (some (.slice 4)) (some (Zn ab.length)) (some (Zn ab.length))=some (aM.cells (bT [(AV.bool false)] ab.length) 4 false,fun i=>AV.slice i 0 ab.length ab.length false):=pr (bytes:=1) (z:=(AV.bool false)) k! k! k! rfl (by decide) o!
 obtain ⟨h9,acb,nz,afm,YJ,zq⟩:=j_ lJ (aM.cells (bT [(AV.bool false)] ab.length) 4 false)
 have hZ:Has h h9:=gA.trans zq
 have CQ:Has h5 h9:=zq
 have afE:h9.get h5.nx=some (aM.cells (bs (List.replicate ab.length false)) 4 false):=by have q:=YJ;rw[AN] at q;exact q
 obtain ⟨z10,pY,UW,fu,ahV,afF⟩:=I0 (d:=d) ab (fp ab ab.length 0 (List.replicate ab.length 0)) (List.replicate ab.length false) h5.nx ab.length false (kT.has hZ) (b_.own (op:=false) k! k! (zq _ _ acE) l! o!) afE l! o! (by first | omega | assumption | (simp only[List.length_replicate];done) | (simp only[List.length_replicate]<;>omega)) (by first | omega | assumption | (simp only[List.length_replicate];done) | (simp only[List.length_replicate]<;>omega)) (by first | omega | assumption | (simp only[List.length_replicate];done) | (simp only[List.length_replicate]<;>omega)) (by first | omega | assumption | (simp only[List.length_replicate];done) | (simp only[List.length_replicate]<;>omega)) (by first | omega | assumption | (simp only[List.length_replicate];done) | (simp only[List.length_replicate]<;>omega)) nz
 have mR:=fu.y
 have Lh:h9.nx≤pY.nx:=fu.n
 have iU:Has h pY:=hZ.trans fu.a
 have afG:Has h5 pY:=CQ.trans fu.a
 have ahW:=ahV.small
 have e:dh ab=(jE ab (fp ab ab.length 0 (List.replicate ab.length 0)) (List.replicate ab.length false)):=by simp only[dh,cond_true,cond_false]
 rw[e]
 have oz:=g7.le (h0:=h) afF o!
 exact ⟨z10,ju rfl (bb Tryz.func21 LC rfl (.inr rfl) (pk (d+5) _ _ h _ pY (CN 2<|VV dG<|KK mk2 ahS<|CN 4<|LL dH<|CN 3<|VV ln7<|KK mk8 acb<|EE UW<|CC<|ZZ) k!) k!) bW ⟨mR,iU,by omega⟩ (P:=fun hh=>b_ hh .i64 3 z10 (jE ab (fp ab ab.length 0 (List.replicate ab.length 0)) (List.replicate ab.length false))∧g7 3 h hh z10 (zs .i64 (jE ab (fp ab ab.length 0 (List.replicate ab.length 0)) (List.replicate ab.length false)))) ⟨oz.zs o! k! k!,oz⟩ fun v=>⟨oz.K2 v k! k!,oz.K4 v⟩⟩
noncomputable def om:Code:=(Tryz.f25.body).getD .skip
theorem m3:Tryz.f25.body=some om:=by kernel_rfl
noncomputable def v3:Code:=(bE om).getD 0 .skip
def dU (P:Nat→Int) (list:List Task):Nat→Nat→Option (Int)
 | 0,_=>none
 | dz+1,i0=>(bif (!decide ((P i0)=0)) then some (P i0) else dU P list dz (i0+1))
theorem kB {d:Nat} {h:au} (bx:AV) (g:FuncId) (cap:List AV) (list:List Task) (P:Nat→Int) (bn:aS h bx list) (hP:∀j,j<list.length→∀aV hh,Tidy hh→Has h hh→aS hh aV (list.take j)→cR d (.fn g) (aV:: .agg (aL.c (list.g j))::cap) hh= .ret (.int .i64 (P j)) hh):∀(k_ i_:Nat) (_:i_+k_=list.length) (x:Nat→AV) (hh:au) (aE:Tidy hh) (aB:Has h hh),aA (cR (d)) v3 ⟨(bx::(x 1)::(AV.func g [] cap)::rx x 3 11 (bx::(Zn list.length)::(Zn i_)::rx x 17 14 [])),hh,[],.no⟩ (.exit 0) hh (fun y=>(bx::(y 1)::(AV.func g [] cap)::rx y 3 11 (bx::(Zn list.length)::rx y 16 15 []))) (fun r y=>(bx::(y 1)::(AV.func g [] cap)::rx y 3 3 ((Zi r)::rx y 7 7 (bx::(Zn list.length)::rx y 16 15 [])))) (dU P list k_ i_)
 | 0,i0,fX,x,hh,aE,aB=>by
   have cm:=bn.small
   have q1:(decide (((i0:Nat):Int)<((list.length:Nat):Int)))=false:=d!
   exact aA.out rfl (pk (d) _ _ hh _ hh (VV (ba 3 false false .i64 ((i0:Nat):Int) ((list.length:Nat):Int))<|BB q1<|ZZ) k!) (bF.refl aE) k!
 | dz+1,i0,fX,x,hh,aE,aB=>by
   have cm:=bn.small
   have q1:(decide (((i0:Nat):Int)<((list.length:Nat):Int)))=true:=d!
   obtain ⟨p3,q4,cX⟩:=(bn.has aB).elem (i:=i0) o!
   have gv:bS env (some (.slice 44)) (some bx) (some (Zn i0))=some (AV.ptr p3 q4):=cX
   have g5:bh env hh 44 (AV.ptr p3 q4)=some (AV.agg [(AV.str ((list.g i0).name)),(Zi ((list.g i0).aI)),((list.g i0).aO),((list.g i0).aU)]):=(bn.has aB).load o! cX
   obtain ⟨h6,lx,jf,Eb,pV,cu⟩:=j_ aE (aM.cells [(AV.str []),(Zi 0),AV.aH,AV.aH] 44 false)
   have ia:Has hh h6:=cu
   have Np:AV.scalar ((list.g i0).aO)=true:=(((bn.has aB).ok (i:=i0) o!).2.1).scalar
   have U2:AV.scalar ((list.g i0).aU)=true:=(((bn.has aB).ok (i:=i0) o!).2.2).scalar
   obtain ⟨h7,ks,fQ,zl,fD,bI⟩:=qL (t:=44) (n:=4) (i:=hh.nx) (L:=[(AV.str ((list.g i0).name)),(Zi ((list.g i0).aI)),((list.g i0).aO),((list.g i0).aU)]) jf pV k! rfl rfl (by simp only[AV.cells,List.all_cons,List.all_nil,Bool.and_true,Bool.and_self,iO,fY,iP,iQ,eS,mg,mh,mi,mj,ml,iR,Np,U2])
   have eL:Has hh h7:=Has.ea ia bI aE o!
   obtain ⟨r10,afH,ahX⟩:=(bn.has aB).pre (t:=22) k! (i:=i0) o!
   have Q6:db env 22 bx (none) (some (Zn i0)) (none)=some r10:=afH
   have k13:=hP i0 o! r10 h7 fQ (aB.trans eL) (ahX.has eL)
   have JI:AV.same 20 (AV.agg [(AV.str ((list.g i0).name)),(Zi ((list.g i0).aI)),((list.g i0).aO),((list.g i0).aU)]) (AV.agg [(AV.str ((list.g i0).name)),(Zi ((list.g i0).aI)),((list.g i0).aO),((list.g i0).aU)])=true:=fj 18 (oX (fun n=>hX n _) (oX (fun n=>aJ n _ _) (oX (((bn.has aB).ok (i:=i0) o!).2.1).same (oX (((bn.has aB).ok (i:=i0) o!).2.2).same Ix))))
   rcases Bool.eq_false_or_eq_true (!decide ((P i0)=0)) with f1 | f1
   · have dC:=BI f1
     exact aA.ret (P i0) (by simp only[dU,f1,cond_true,cond_false]) (pk (d) _ _ hh _ h7 (VV (ba 3 false false .i64 ((i0:Nat):Int) ((list.length:Nat):Int))<|BC q1<|VV gv<|MM g5<|NN lx (fun i=>(Pt i))<|CC<|SS ks<|CN 3<|QQ Q6<|MM (aw 44 0 (AV.agg [(AV.str ((list.g i0).name)),(Zi ((list.g i0).aI)),((list.g i0).aO),((list.g i0).aU)]) fD k!)<|EE k13<|CC<|HH (aw 44 0 (AV.agg [(AV.str ((list.g i0).name)),(Zi ((list.g i0).aI)),((list.g i0).aO),((list.g i0).aU)]) fD k!)<|HH JI<|CC<|VV (eu 29 false true .i64 (P i0) 0)<|BB f1<|CN 2<|ZZ) k!) (⟨fQ,eL,by omega⟩) k!
   · have dC:=BJ f1
     have u16:=fe 3 false true i0 1 o!
     exact aA.round (by simp only[dU,f1,cond_true,cond_false]) (pk (d) _ _ hh _ h7 (VV (ba 3 false false .i64 ((i0:Nat):Int) ((list.length:Nat):Int))<|BC q1<|VV gv<|MM g5<|NN lx (fun i=>(Pt i))<|CC<|SS ks<|CN 3<|QQ Q6<|MM (aw 44 0 (AV.agg [(AV.str ((list.g i0).name)),(Zi ((list.g i0).aI)),((list.g i0).aO),((list.g i0).aU)]) fD k!)<|EE k13<|CC<|HH (aw 44 0 (AV.agg [(AV.str ((list.g i0).name)),(Zi ((list.g i0).aI)),((list.g i0).aO),((list.g i0).aU)]) fD k!)<|HH JI<|CC<|VV (eu 29 false true .i64 (P i0) 0)<|BV f1 u16<|CC<|ZZ) k!) (⟨fQ,eL,by omega⟩) _ k! (fun x=>kB bx g cap list P bn hP dz (i0+1) o! x h7 fQ (aB.trans eL))
def bK (list:List Task) (cr:Int) (P:Nat→Int):Int:=(bif (decide (cr<((list.length:Nat):Int))) then 3 else (match (dU P list list.length 0) with | none=>0 | some xz=>xz))
theorem zE {d:Nat} {h:au} {bx:AV} {g:FuncId} {cap:List AV} (list:List Task) (cr:Int) (P:Nat→Int) (fk:aS h bx list) (hP:∀j,j<list.length→∀aV hh,Tidy hh→Has h hh→aS hh aV (list.take j)→cR d (.fn g) (aV:: .agg (aL.c (list.g j))::cap) hh= .ret (.int .i64 (P j)) hh) (bW:Tidy h):cR (d+1) (.fn 25) [bx,(Zi cr),(AV.func g [] cap)] h= .ret (Zi (bK list cr P)) h:=by
 have zw:=fk.small
 have dG:b6 (some (.slice 44)) (some bx)=some (Zn list.length):=fk.len
 rcases Bool.eq_false_or_eq_true (decide (cr<((list.length:Nat):Int))) with f0 | f0
 · have dO:=of_decide_eq_true f0
   have e:bK list cr P=3:=by simp only[bK,f0,cond_true,cond_false]
   rw[e]
   exact aD rfl (bb Tryz.func25 m3 rfl (.inr rfl) (pk (d) _ _ h _ h (CN 2<|VV dG<|CC<|VV (bR 3 false false .i64 ((list.length:Nat):Int) cr)<|BC f0<|ZZ) k!) k!) (Has.refl _) rfl
 · have dO:=of_decide_eq_false f0
   have Ef:b6 (some (.slice 44)) (some bx)=some (Zn list.length):=fk.len
   cases cY:dU P list list.length 0 with
   | none=>
     obtain ⟨xA,h5,dH,c9⟩:=aA.n cY (kB (d:=d) (h:=h) bx g cap list P fk hP list.length 0 o! (fun k_=>((bx::(Zi cr)::(AV.func g [] cap)::AV.undef::AV.undef::AV.undef::(Zi 0)::AV.undef::AV.undef::AV.undef::bx::(Zn list.length)::(Zi cr)::(AV.bool (decide (cr<((list.length:Nat):Int))))::bx::(Zn list.length)::(Zi 0)::g4 14):List AV).getD k_ AV.undef) h bW (Has.refl _))
     have lJ:=c9.y
     have tG:h.nx≤h5.nx:=c9.n
     have gA:Has h h5:=c9.a
     have e:bK list cr P=0:=by simp only[bK,f0,cY,cond_true,cond_false]
     rw[e]
     exact aD rfl (bb Tryz.func25 m3 rfl (.inr rfl) (pk (d) _ _ h _ h5 (CN 2<|VV dG<|CC<|VV (bR 3 false false .i64 ((list.length:Nat):Int) cr)<|BC f0<|VV Ef<|CC<|LL dH<|CC<|ZZ) k!) k!) gA rfl
   | some xz=>
     obtain ⟨xA,h5,dH,c9⟩:=aA.r cY (kB (d:=d) (h:=h) bx g cap list P fk hP list.length 0 o! (fun k_=>((bx::(Zi cr)::(AV.func g [] cap)::AV.undef::AV.undef::AV.undef::(Zi 0)::AV.undef::AV.undef::AV.undef::bx::(Zn list.length)::(Zi cr)::(AV.bool (decide (cr<((list.length:Nat):Int))))::bx::(Zn list.length)::(Zi 0)::g4 14):List AV).getD k_ AV.undef) h bW (Has.refl _))
     have lJ:=c9.y
     have tG:h.nx≤h5.nx:=c9.n
     have gA:Has h h5:=c9.a
     have e:bK list cr P=xz:=by simp only[bK,f0,cY,cond_true,cond_false]
     rw[e]
     exact aD rfl (bb Tryz.func25 m3 rfl (.inr rfl) (pk (d) _ _ h _ h5 (CN 2<|VV dG<|CC<|VV (bR 3 false false .i64 ((list.length:Nat):Int) cr)<|BC f0<|VV Ef<|CC<|LL dH<|ZZ) k!) k!) gA rfl
noncomputable def lN:Code:=(Tryz.f23.body).getD .skip
theorem j5:Tryz.f23.body=some lN:=by kernel_rfl
noncomputable def rJ:Code:=(bE lN).getD 0 .skip
def cP (P:Nat→Int) (list:List bJ):Nat→Nat→Option (Int)
 | 0,_=>none
 | dz+1,i0=>(bif (!decide ((P i0)=0)) then some (P i0) else cP P list dz (i0+1))
theorem iB {d:Nat} {h:au} (bx:AV) (g:FuncId) (cap:List AV) (list:List bJ) (P:Nat→Int) (bn:aS h bx list) (hP:∀j,j<list.length→∀aV hh,Tidy hh→Has h hh→aS hh aV (list.take j)→cR d (.fn g) (aV:: .agg (aL.c (list.g j))::cap) hh= .ret (.int .i64 (P j)) hh):∀(k_ i_:Nat) (_:i_+k_=list.length) (x:Nat→AV) (hh:au) (aE:Tidy hh) (aB:Has h hh),aA (cR (d)) rJ ⟨(bx::(x 1)::(AV.func g [] cap)::rx x 3 11 (bx::(Zn list.length)::(Zn i_)::rx x 17 14 [])),hh,[],.no⟩ (.exit 0) hh (fun y=>(bx::(y 1)::(AV.func g [] cap)::rx y 3 11 (bx::(Zn list.length)::rx y 16 15 []))) (fun r y=>(bx::(y 1)::(AV.func g [] cap)::rx y 3 3 ((Zi r)::rx y 7 7 (bx::(Zn list.length)::rx y 16 15 [])))) (cP P list k_ i_)
 | 0,i0,fX,x,hh,aE,aB=>by
   have cm:=bn.small
   have q1:(decide (((i0:Nat):Int)<((list.length:Nat):Int)))=false:=d!
   exact aA.out rfl (pk (d) _ _ hh _ hh (VV (ba 3 false false .i64 ((i0:Nat):Int) ((list.length:Nat):Int))<|BB q1<|ZZ) k!) (bF.refl aE) k!
 | dz+1,i0,fX,x,hh,aE,aB=>by
   have cm:=bn.small
   have q1:(decide (((i0:Nat):Int)<((list.length:Nat):Int)))=true:=d!
   obtain ⟨p3,q4,cX⟩:=(bn.has aB).elem (i:=i0) o!
   have gv:bS env (some (.slice 41)) (some bx) (some (Zn i0))=some (AV.ptr p3 q4):=cX
   have g5:bh env hh 41 (AV.ptr p3 q4)=some (AV.agg [(AV.str ((list.g i0).name)),(Zi ((list.g i0).ay)),((list.g i0).cB)]):=(bn.has aB).load o! cX
   obtain ⟨h6,lx,jf,Eb,pV,cu⟩:=j_ aE (aM.cells [(AV.str []),(Zi 0),AV.aH] 41 false)
   have ia:Has hh h6:=cu
   have Np:AV.scalar ((list.g i0).cB)=true:=(((bn.has aB).ok (i:=i0) o!).2).scalar
   obtain ⟨h7,ks,fQ,zl,fD,bI⟩:=qL (t:=41) (n:=3) (i:=hh.nx) (L:=[(AV.str ((list.g i0).name)),(Zi ((list.g i0).ay)),((list.g i0).cB)]) jf pV k! rfl rfl (by simp only[AV.cells,List.all_cons,List.all_nil,Bool.and_true,Bool.and_self,iO,fY,iP,iQ,eS,mg,mh,mi,mj,ml,iR,Np])
   have eL:Has hh h7:=Has.ea ia bI aE o!
   obtain ⟨r9,afI,ahY⟩:=(bn.has aB).pre (t:=23) k! (i:=i0) o!
   have afJ:db env 23 bx (none) (some (Zn i0)) (none)=some r9:=afI
   have k12:=hP i0 o! r9 h7 fQ (aB.trans eL) (ahY.has eL)
   have JH:AV.same 20 (AV.agg [(AV.str ((list.g i0).name)),(Zi ((list.g i0).ay)),((list.g i0).cB)]) (AV.agg [(AV.str ((list.g i0).name)),(Zi ((list.g i0).ay)),((list.g i0).cB)])=true:=fj 18 (oX (fun n=>hX n _) (oX (fun n=>aJ n _ _) (oX (((bn.has aB).ok (i:=i0) o!).2).same Ix)))
   rcases Bool.eq_false_or_eq_true (!decide ((P i0)=0)) with f1 | f1
   · have dC:=BI f1
     exact aA.ret (P i0) (by simp only[cP,f1,cond_true,cond_false]) (pk (d) _ _ hh _ h7 (VV (ba 3 false false .i64 ((i0:Nat):Int) ((list.length:Nat):Int))<|BC q1<|VV gv<|MM g5<|NN lx (fun i=>(Pt i))<|CC<|SS ks<|CN 3<|QQ afJ<|MM (aw 41 0 (AV.agg [(AV.str ((list.g i0).name)),(Zi ((list.g i0).ay)),((list.g i0).cB)]) fD k!)<|EE k12<|CC<|HH (aw 41 0 (AV.agg [(AV.str ((list.g i0).name)),(Zi ((list.g i0).ay)),((list.g i0).cB)]) fD k!)<|HH JH<|CC<|VV (eu 29 false true .i64 (P i0) 0)<|BB f1<|CN 2<|ZZ) k!) (⟨fQ,eL,by omega⟩) k!
   · have dC:=BJ f1
     have u15:=fe 3 false true i0 1 o!
     exact aA.round (by simp only[cP,f1,cond_true,cond_false]) (pk (d) _ _ hh _ h7 (VV (ba 3 false false .i64 ((i0:Nat):Int) ((list.length:Nat):Int))<|BC q1<|VV gv<|MM g5<|NN lx (fun i=>(Pt i))<|CC<|SS ks<|CN 3<|QQ afJ<|MM (aw 41 0 (AV.agg [(AV.str ((list.g i0).name)),(Zi ((list.g i0).ay)),((list.g i0).cB)]) fD k!)<|EE k12<|CC<|HH (aw 41 0 (AV.agg [(AV.str ((list.g i0).name)),(Zi ((list.g i0).ay)),((list.g i0).cB)]) fD k!)<|HH JH<|CC<|VV (eu 29 false true .i64 (P i0) 0)<|BV f1 u15<|CC<|ZZ) k!) (⟨fQ,eL,by omega⟩) _ k! (fun x=>iB bx g cap list P bn hP dz (i0+1) o! x h7 fQ (aB.trans eL))
def bz (list:List bJ) (cr:Int) (P:Nat→Int):Int:=(bif (decide (cr<((list.length:Nat):Int))) then 3 else (match (cP P list list.length 0) with | none=>0 | some xz=>xz))
theorem tJ {d:Nat} {h:au} {bx:AV} {g:FuncId} {cap:List AV} (list:List bJ) (cr:Int) (P:Nat→Int) (fk:aS h bx list) (hP:∀j,j<list.length→∀aV hh,Tidy hh→Has h hh→aS hh aV (list.take j)→cR d (.fn g) (aV:: .agg (aL.c (list.g j))::cap) hh= .ret (.int .i64 (P j)) hh) (bW:Tidy h):cR (d+1) (.fn 23) [bx,(Zi cr),(AV.func g [] cap)] h= .ret (Zi (bz list cr P)) h:=by
 have zw:=fk.small
 have dG:b6 (some (.slice 41)) (some bx)=some (Zn list.length):=fk.len
 rcases Bool.eq_false_or_eq_true (decide (cr<((list.length:Nat):Int))) with f0 | f0
 · have dO:=of_decide_eq_true f0
   have e:bz list cr P=3:=by simp only[bz,f0,cond_true,cond_false]
   rw[e]
   exact aD rfl (bb Tryz.func23 j5 rfl (.inr rfl) (pk (d) _ _ h _ h (CN 2<|VV dG<|CC<|VV (bR 3 false false .i64 ((list.length:Nat):Int) cr)<|BC f0<|ZZ) k!) k!) (Has.refl _) rfl
 · have dO:=of_decide_eq_false f0
   have Ef:b6 (some (.slice 41)) (some bx)=some (Zn list.length):=fk.len
   cases cY:cP P list list.length 0 with
   | none=>
     obtain ⟨xA,h5,dH,c9⟩:=aA.n cY (iB (d:=d) (h:=h) bx g cap list P fk hP list.length 0 o! (fun k_=>((bx::(Zi cr)::(AV.func g [] cap)::AV.undef::AV.undef::AV.undef::(Zi 0)::AV.undef::AV.undef::AV.undef::bx::(Zn list.length)::(Zi cr)::(AV.bool (decide (cr<((list.length:Nat):Int))))::bx::(Zn list.length)::(Zi 0)::g4 14):List AV).getD k_ AV.undef) h bW (Has.refl _))
     have lJ:=c9.y
     have tG:h.nx≤h5.nx:=c9.n
     have gA:Has h h5:=c9.a
     have e:bz list cr P=0:=by simp only[bz,f0,cY,cond_true,cond_false]
     rw[e]
     exact aD rfl (bb Tryz.func23 j5 rfl (.inr rfl) (pk (d) _ _ h _ h5 (CN 2<|VV dG<|CC<|VV (bR 3 false false .i64 ((list.length:Nat):Int) cr)<|BC f0<|VV Ef<|CC<|LL dH<|CC<|ZZ) k!) k!) gA rfl
   | some xz=>
     obtain ⟨xA,h5,dH,c9⟩:=aA.r cY (iB (d:=d) (h:=h) bx g cap list P fk hP list.length 0 o! (fun k_=>((bx::(Zi cr)::(AV.func g [] cap)::AV.undef::AV.undef::AV.undef::(Zi 0)::AV.undef::AV.undef::AV.undef::bx::(Zn list.length)::(Zi cr)::(AV.bool (decide (cr<((list.length:Nat):Int))))::bx::(Zn list.length)::(Zi 0)::g4 14):List AV).getD k_ AV.undef) h bW (Has.refl _))
     have lJ:=c9.y
     have tG:h.nx≤h5.nx:=c9.n
     have gA:Has h h5:=c9.a
     have e:bz list cr P=xz:=by simp only[bz,f0,cY,cond_true,cond_false]
     rw[e]
     exact aD rfl (bb Tryz.func23 j5 rfl (.inr rfl) (pk (d) _ _ h _ h5 (CN 2<|VV dG<|CC<|VV (bR 3 false false .i64 ((list.length:Nat):Int) cr)<|BC f0<|VV Ef<|CC<|LL dH<|ZZ) k!) k!) gA rfl
noncomputable def ot:Code:=(Tryz.f63.body).getD .skip
theorem m4:Tryz.f63.body=some ot:=by kernel_rfl
noncomputable def v5:Code:=(bE ot).getD 0 .skip
def dV (P:Nat→Int) (list:List Span):Nat→Nat→Option (Int)
 | 0,_=>none
 | dz+1,i0=>(bif (!decide ((P i0)=0)) then some (P i0) else dV P list dz (i0+1))
theorem kC {d:Nat} {h:au} (bx:AV) (g:FuncId) (cap:List AV) (list:List Span) (P:Nat→Int) (bn:aS h bx list) (hP:∀j,j<list.length→∀aV hh,Tidy hh→Has h hh→aS hh aV (list.take j)→cR d (.fn g) (aV:: .agg (aL.c (list.g j))::cap) hh= .ret (.int .i64 (P j)) hh):∀(k_ i_:Nat) (_:i_+k_=list.length) (x:Nat→AV) (hh:au) (aE:Tidy hh) (aB:Has h hh),aA (cR (d)) v5 ⟨(bx::(x 1)::(AV.func g [] cap)::rx x 3 11 (bx::(Zn list.length)::(Zn i_)::rx x 17 14 [])),hh,[],.no⟩ (.exit 0) hh (fun y=>(bx::(y 1)::(AV.func g [] cap)::rx y 3 11 (bx::(Zn list.length)::rx y 16 15 []))) (fun r y=>(bx::(y 1)::(AV.func g [] cap)::rx y 3 3 ((Zi r)::rx y 7 7 (bx::(Zn list.length)::rx y 16 15 [])))) (dV P list k_ i_)
 | 0,i0,fX,x,hh,aE,aB=>by
   have cm:=bn.small
   have q1:(decide (((i0:Nat):Int)<((list.length:Nat):Int)))=false:=d!
   exact aA.out rfl (pk (d) _ _ hh _ hh (VV (ba 3 false false .i64 ((i0:Nat):Int) ((list.length:Nat):Int))<|BB q1<|ZZ) k!) (bF.refl aE) k!
 | dz+1,i0,fX,x,hh,aE,aB=>by
   have cm:=bn.small
   have q1:(decide (((i0:Nat):Int)<((list.length:Nat):Int)))=true:=d!
   obtain ⟨p3,q4,cX⟩:=(bn.has aB).elem (i:=i0) o!
   have gv:bS env (some (.slice 74)) (some bx) (some (Zn i0))=some (AV.ptr p3 q4):=cX
   have g5:bh env hh 74 (AV.ptr p3 q4)=some (AV.agg [(Zi ((list.g i0).a_)),(Zi ((list.g i0).aN))]):=(bn.has aB).load o! cX
   obtain ⟨h6,lx,jf,Eb,pV,cu⟩:=j_ aE (aM.cells [(Zi 0),(Zi 0)] 74 false)
   have ia:Has hh h6:=cu
   obtain ⟨h7,ks,fQ,zl,fD,bI⟩:=qL (t:=74) (n:=2) (i:=hh.nx) (L:=[(Zi ((list.g i0).a_)),(Zi ((list.g i0).aN))]) jf pV k! rfl rfl (by simp only[AV.cells,List.all_cons,List.all_nil,Bool.and_true,Bool.and_self,iO,fY,iP,iQ,eS,mg,mh,mi,mj,ml,iR])
   have eL:Has hh h7:=Has.ea ia bI aE o!
   obtain ⟨r8,acu,acv⟩:=(bn.has aB).pre (t:=39) k! (i:=i0) o!
   have sl9:db env 39 bx (none) (some (Zn i0)) (none)=some r8:=acu
   have FJ:=hP i0 o! r8 h7 fQ (aB.trans eL) (acv.has eL)
   have c12:AV.same 20 (AV.agg [(Zi ((list.g i0).a_)),(Zi ((list.g i0).aN))]) (AV.agg [(Zi ((list.g i0).a_)),(Zi ((list.g i0).aN))])=true:=fj 18 (oX (fun n=>aJ n _ _) (oX (fun n=>aJ n _ _) Ix))
   rcases Bool.eq_false_or_eq_true (!decide ((P i0)=0)) with f1 | f1
   · have dC:=BI f1
     exact aA.ret (P i0) (by simp only[dV,f1,cond_true,cond_false]) (pk (d) _ _ hh _ h7 (VV (ba 3 false false .i64 ((i0:Nat):Int) ((list.length:Nat):Int))<|BC q1<|VV gv<|MM g5<|NN lx (fun i=>(Pt i))<|CC<|SS ks<|CN 3<|QQ sl9<|MM (aw 74 0 (AV.agg [(Zi ((list.g i0).a_)),(Zi ((list.g i0).aN))]) fD k!)<|EE FJ<|CC<|HH (aw 74 0 (AV.agg [(Zi ((list.g i0).a_)),(Zi ((list.g i0).aN))]) fD k!)<|HH c12<|CC<|VV (eu 29 false true .i64 (P i0) 0)<|BB f1<|CN 2<|ZZ) k!) (⟨fQ,eL,by omega⟩) k!
   · have dC:=BJ f1
     have u14:=fe 3 false true i0 1 o!
     exact aA.round (by simp only[dV,f1,cond_true,cond_false]) (pk (d) _ _ hh _ h7 (VV (ba 3 false false .i64 ((i0:Nat):Int) ((list.length:Nat):Int))<|BC q1<|VV gv<|MM g5<|NN lx (fun i=>(Pt i))<|CC<|SS ks<|CN 3<|QQ sl9<|MM (aw 74 0 (AV.agg [(Zi ((list.g i0).a_)),(Zi ((list.g i0).aN))]) fD k!)<|EE FJ<|CC<|HH (aw 74 0 (AV.agg [(Zi ((list.g i0).a_)),(Zi ((list.g i0).aN))]) fD k!)<|HH c12<|CC<|VV (eu 29 false true .i64 (P i0) 0)<|BV f1 u14<|CC<|ZZ) k!) (⟨fQ,eL,by omega⟩) _ k! (fun x=>kC bx g cap list P bn hP dz (i0+1) o! x h7 fQ (aB.trans eL))
def da (list:List Span) (cr:Int) (P:Nat→Int):Int:=(bif (decide (cr<((list.length:Nat):Int))) then 3 else (match (dV P list list.length 0) with | none=>0 | some xz=>xz))
theorem zF {d:Nat} {h:au} {bx:AV} {g:FuncId} {cap:List AV} (list:List Span) (cr:Int) (P:Nat→Int) (fk:aS h bx list) (hP:∀j,j<list.length→∀aV hh,Tidy hh→Has h hh→aS hh aV (list.take j)→cR d (.fn g) (aV:: .agg (aL.c (list.g j))::cap) hh= .ret (.int .i64 (P j)) hh) (bW:Tidy h):cR (d+1) (.fn 63) [bx,(Zi cr),(AV.func g [] cap)] h= .ret (Zi (da list cr P)) h:=by
 have zw:=fk.small
 have dG:b6 (some (.slice 74)) (some bx)=some (Zn list.length):=fk.len
 rcases Bool.eq_false_or_eq_true (decide (cr<((list.length:Nat):Int))) with f0 | f0
 · have dO:=of_decide_eq_true f0
   have e:da list cr P=3:=by simp only[da,f0,cond_true,cond_false]
   rw[e]
   exact aD rfl (bb Tryz.func63 m4 rfl (.inr rfl) (pk (d) _ _ h _ h (CN 2<|VV dG<|CC<|VV (bR 3 false false .i64 ((list.length:Nat):Int) cr)<|BC f0<|ZZ) k!) k!) (Has.refl _) rfl
 · have dO:=of_decide_eq_false f0
   have Ef:b6 (some (.slice 74)) (some bx)=some (Zn list.length):=fk.len
   cases cY:dV P list list.length 0 with
   | none=>
     obtain ⟨xA,h5,dH,c9⟩:=aA.n cY (kC (d:=d) (h:=h) bx g cap list P fk hP list.length 0 o! (fun k_=>((bx::(Zi cr)::(AV.func g [] cap)::AV.undef::AV.undef::AV.undef::(Zi 0)::AV.undef::AV.undef::AV.undef::bx::(Zn list.length)::(Zi cr)::(AV.bool (decide (cr<((list.length:Nat):Int))))::bx::(Zn list.length)::(Zi 0)::g4 14):List AV).getD k_ AV.undef) h bW (Has.refl _))
     have lJ:=c9.y
     have tG:h.nx≤h5.nx:=c9.n
     have gA:Has h h5:=c9.a
     have e:da list cr P=0:=by simp only[da,f0,cY,cond_true,cond_false]
     rw[e]
     exact aD rfl (bb Tryz.func63 m4 rfl (.inr rfl) (pk (d) _ _ h _ h5 (CN 2<|VV dG<|CC<|VV (bR 3 false false .i64 ((list.length:Nat):Int) cr)<|BC f0<|VV Ef<|CC<|LL dH<|CC<|ZZ) k!) k!) gA rfl
   | some xz=>
     obtain ⟨xA,h5,dH,c9⟩:=aA.r cY (kC (d:=d) (h:=h) bx g cap list P fk hP list.length 0 o! (fun k_=>((bx::(Zi cr)::(AV.func g [] cap)::AV.undef::AV.undef::AV.undef::(Zi 0)::AV.undef::AV.undef::AV.undef::bx::(Zn list.length)::(Zi cr)::(AV.bool (decide (cr<((list.length:Nat):Int))))::bx::(Zn list.length)::(Zi 0)::g4 14):List AV).getD k_ AV.undef) h bW (Has.refl _))
     have lJ:=c9.y
     have tG:h.nx≤h5.nx:=c9.n
     have gA:Has h h5:=c9.a
     have e:da list cr P=xz:=by simp only[da,f0,cY,cond_true,cond_false]
     rw[e]
     exact aD rfl (bb Tryz.func63 m4 rfl (.inr rfl) (pk (d) _ _ h _ h5 (CN 2<|VV dG<|CC<|VV (bR 3 false false .i64 ((list.length:Nat):Int) cr)<|BC f0<|VV Ef<|CC<|LL dH<|ZZ) k!) k!) gA rfl
end Go.Proofs.aP
