import Derived.Test.YtijehnelcbdlgaaGreatW0
import Derived.Test.YtijehnelcbdlgaaGreatW5
import Derived.Test.YtijehnelcbdlgaaGreatW4
import Derived.Test.YtijehnelcbdlgaaGreatA7
namespace Go.Proofs.aE
open Go.Proofs Ab
noncomputable section
set_option maxRecDepth 100000
set_option maxHeartbeats 4000000
set_option linter.unusedVariables false
set_option linter.unusedSimpArgs false
def tG:Code:=(Tryz.f61.body).getD .skip
theorem jG:Tryz.f61.body=some tG:=by kernel_rfl
def bj (jM:List aZ) (r:aZ):Int:=(bif (!(fV r.name)) then 5 else (bif (dK jM (fun y=>fb y r)) then 6 else (bif (!(hL r.aC 1000)) then 1 else (cT r.off 16 (fun jx=>cm (List.take jx r.off) (List.g r.off jx))))))
theorem xL {d:Nat} {h:ak} {l8:AV} (jM:List aZ) (r:aZ) (ir:aH h l8 jM) (ZN:aB.ok h r) (bM:Tidy h):cA (d+6) (.fn 61) [l8,(AV.agg [(AV.str r.name),(Zi r.aC),r.cE])] h= .ret (Zi (bj jM r)) h:=by
 have zg:=ir.small
 have V0:=ZN.2.small
 obtain ⟨h1,bD,cb,ib,aI,cf⟩:=ik bM (aK.cells [(AV.str r.name),(Zi r.aC),r.cE] 45 false)
 have bx:Has h h1:=cf
 have k2:=Cr (d:=d+4) r.name ZN.1 cb
 rcases Bool.eq_false_or_eq_true (!(fV r.name)) with f0 | f0
 · have e:bj jM r=5:=by simp only[bj,f0,aj,af]
   rw[e]
   exact ax rfl (aR Tryz.func61 jG rfl (.inr rfl) (pk (d+5) _ _ h _ h1 (NN bD (fun i=>(Pt i))<|CN 2<|MM (ao 9 0 (AV.str r.name) aI k!)<|EE k2<|CN 2<|BC f0<|ZZ) k!) k!) bx rfl
 · have k4:=tF (d:=d+3) jM (fun y=>fb y r) (ir.has bx) (fun y hy hh yy aa=>vY (d:=d+2) y r h.nx (aB.mono aa ((ir.has bx).oks y hy)) (aB.mono aa (aB.mono bx ZN)) (aa _ _ aI) yy) cb
   rcases Bool.eq_false_or_eq_true (dK jM (fun y=>fb y r)) with f1 | f1
   · have e:bj jM r=6:=by simp only[bj,f0,f1,aj,af]
     rw[e]
     exact ax rfl (aR Tryz.func61 jG rfl (.inr rfl) (pk (d+5) _ _ h _ h1 (NN bD (fun i=>(Pt i))<|CN 2<|MM (ao 9 0 (AV.str r.name) aI k!)<|EE k2<|CN 2<|BB f0<|CN 2<|EE k4<|CC<|BC f1<|ZZ) k!) k!) bx rfl
   · have k6:=Ct (d:=d+4) r.aC 1000 cb
     rcases Bool.eq_false_or_eq_true (!(hL r.aC 1000)) with f2 | f2
     · have e:bj jM r=1:=by simp only[bj,f0,f1,f2,aj,af]
       rw[e]
       exact ax rfl (aR Tryz.func61 jG rfl (.inr rfl) (pk (d+5) _ _ h _ h1 (NN bD (fun i=>(Pt i))<|CN 2<|MM (ao 9 0 (AV.str r.name) aI k!)<|EE k2<|CN 2<|BB f0<|CN 2<|EE k4<|CC<|BC f1<|MM (ao 3 1 (Zi r.aC) aI k!)<|EE k6<|CN 2<|BC f2<|ZZ) k!) k!) bx rfl
     · have k8:=xJ (d:=d+4) r.off 16 (fun jx=>cm (List.take jx r.off) (List.g r.off jx)) (ZN.2.has bx) (fun jx hj aV hh yy aa fa=>Gl (d:=d+1) (List.take jx r.off) (List.g r.off jx) fa (aB.mono aa ((ZN.2.has bx).ok hj)) yy) cb
       have e:bj jM r=(cT r.off 16 (fun jx=>cm (List.take jx r.off) (List.g r.off jx))):=by simp only[bj,f0,f1,f2,aj,af]
       rw[e]
       exact ax rfl (aR Tryz.func61 jG rfl (.inr rfl) (pk (d+5) _ _ h _ h1 (NN bD (fun i=>(Pt i))<|CN 2<|MM (ao 9 0 (AV.str r.name) aI k!)<|EE k2<|CN 2<|BB f0<|CN 2<|EE k4<|CC<|BC f1<|MM (ao 3 1 (Zi r.aC) aI k!)<|EE k6<|CN 2<|BC f2<|MM (ao 43 2 r.cE aI k!)<|EE k8<|CC<|ZZ) k!) k!) bx rfl
def Dx:Code:=(Tryz.f139.body).getD .skip
theorem La:Tryz.f139.body=some Dx:=by kernel_rfl
def bT (s:List Bool):List Bool:=s
theorem Lb {d:Nat} {h:ak} (s:List Bool) (sB:Nat) (sN:Nat) (sF:Bool) (g_s:h.get sB=some (aK.cells (bs s) 4 false)) (l_s:s.length=sN) (t_s:sB<h.nx) (ly:s.length≤1000000000) (bM:Tidy h):∃z n op hk,cA (d+1) (.fn 139) [(AV.slice sB 0 sN sN sF)] h= .ret (.slice z 0 n n op) hk∧bC h hk∧hk.get z=some (aK.cells (bs (bT s)) 4 false)∧(bT s).length=n∧h.nx≤z:=by
 obtain ⟨h1,bD,cb,ib,aI,cf⟩:=ik bM (aK.cells [] 4 false)
 have bx:Has h h1:=cf
 obtain ⟨qb3,qf4,h2,abS,eW,abT,aei,abU,afV⟩:=Ge (tys:= #[96,96]) (n:=sN) (b:=sB) (f:=sF) cb aI (cf _ _ g_s) (by first | (rw[KI];omega) | (rw[kJ];omega)) (by first | exact OV _ | exact yU _) o! rfl rfl k! k! k! (bytes:=1) k! (z0:=AV.bool false) k! rfl (by decide)
 have cD:Has h h2:=bx.trans aei
 have e:bT s=s:=by simp only[bT,aj,af]
 rw[e]
 exact ⟨qb3,sN,qf4,eZ rfl (aR Tryz.func139 La rfl (.inr rfl) (pk (d) _ _ h _ h2 (CN 3<|FF<|NN bD (fun i=>(AV.slice i 0 0 0 false))<|CC<|PP (show cP env h1 #[96,96] (AV.slice h.nx 0 0 0 false) (AV.slice sB 0 sN sN sF)=some ((AV.slice qb3 0 sN sN qf4),h2) from abS)<|CC<|ZZ) k!) k!) bM ⟨eW,cD,by omega⟩ (P:=fun hh=>hh.get qb3=some (aK.cells (bs s) 4 false)∧(s).length=sN∧h.nx≤qb3) ⟨abU,l!,by omega⟩ fun v=>(OC v o!).elim⟩
def r7:Code:=(Tryz.f187.body).getD .skip
theorem xM:Tryz.f187.body=some r7:=by kernel_rfl
def Cu:Code:=(bz r7).getD 0 .skip
def fi (s:List Int) (P:Nat→Bool):Nat→Nat→Option (Int)
 | 0,_=>none
 | c7+1,i0=>(bif (P i0) then some ((i0:Nat):Int) else fi s P c7 (i0+1))
theorem nN {d:Nat} {h:ak} (sV:AV) (g:FuncId) (cap:List AV) (s:List Int) (P:Nat→Bool) (aO:bW h .i64 3 sV s) (hP:∀i hh,i<s.length→Tidy hh→Has h hh→cA d (.fn g) (.int .i64 (List.g s i)::cap) hh= .ret (.bool (P i)) hh):∀(k_ i_:Nat) (_:i_+k_=s.length) (x:Nat→AV) (hh:ak) (az:Tidy hh) (aw:Has h hh),aA (cA (d)) Cu ⟨(sV::(AV.func g [] cap)::rx x 2 5 ((Zn s.length)::(Zn i_)::rx x 9 10 [])),hh,[],.no⟩ (.exit 0) hh (fun y=>(sV::(AV.func g [] cap)::rx y 2 5 ((Zn s.length)::rx y 8 11 []))) (fun r y=>(sV::(AV.func g [] cap)::(y 2)::(y 3)::(Zi r)::(y 5)::(y 6)::(Zn s.length)::rx y 8 11 [])) (fi s P k_ i_)
 | 0,i0,fK,x,hh,az,aw=>by
   have bY:=aO.small
   have q1:(decide (((i0:Nat):Int)<((s.length:Nat):Int)))=false:=d!
   exact aA.out rfl (pk (d) _ _ hh _ hh (VV (aQ 3 false false .i64 ((i0:Nat):Int) ((s.length:Nat):Int))<|BB q1<|ZZ) k!) (bC.refl az) k!
 | c7+1,i0,fK,x,hh,az,aw=>by
   have bY:=aO.small
   have q1:(decide (((i0:Nat):Int)<((s.length:Nat):Int)))=true:=d!
   obtain ⟨p3,q4,eb,_⟩:=(aO.has aw).elem (i:=i0) o!
   have jE:b_ env (some (.slice 3)) (some sV) (some (Zn i0))=some (AV.ptr p3 q4):=eb
   have jK:bm env hh 3 (AV.ptr p3 q4)=some (Zi (s.g i0)):=(aO.has aw).load o! eb
   have k6:=hP i0 hh o! az aw
   rcases Bool.eq_false_or_eq_true (P i0) with f1 | f1
   · exact aA.ret ((i0:Nat):Int) (by simp only[fi,f1,aj,af]) (pk (d) _ _ hh _ hh (VV (aQ 3 false false .i64 ((i0:Nat):Int) ((s.length:Nat):Int))<|BB q1<|CN 5<|VV jE<|MM jK<|EE k6<|BB f1<|CN 2<|ZZ) k!) (bC.refl az) k!
   · have u8:=ew 3 false true i0 1 o!
     exact aA.round (by simp only[fi,f1,aj,af]) (pk (d) _ _ hh _ hh (VV (aQ 3 false false .i64 ((i0:Nat):Int) ((s.length:Nat):Int))<|BB q1<|CN 5<|VV jE<|MM jK<|EE k6<|BV f1 u8<|CC<|ZZ) k!) (bC.refl az) _ k! (fun x=>nN sV g cap s P aO hP c7 (i0+1) o! x hh az aw)
def iU (s:List Int) (P:Nat→Bool):Int:=(match (fi s P s.length 0) with | none=>(-1) | some uK=>uK)
theorem Gm {d:Nat} {h:ak} {sV:AV} {g:FuncId} {cap:List AV} (s:List Int) (P:Nat→Bool) (pD:bW h .i64 3 sV s) (hP:∀i hh,i<s.length→Tidy hh→Has h hh→cA d (.fn g) (.int .i64 (List.g s i)::cap) hh= .ret (.bool (P i)) hh) (bM:Tidy h):cA (d+1) (.fn 187) [sV,(AV.func g [] cap)] h= .ret (Zi (iU s P)) h:=by
 have xD:=pD.small
 have dx:bJ (some (.slice 3)) (some sV)=some (Zn s.length):=pD.len
 cases dk:fi s P s.length 0 with
 | none=>
   obtain ⟨Eo,h3,cW,dE⟩:=aA.n dk (nN (d:=d) (h:=h) sV g cap s P pD hP s.length 0 o! (fun k_=>((sV::(AV.func g [] cap)::AV.undef::AV.undef::(Zi 0)::AV.undef::sV::(Zn s.length)::(Zi 0)::gB 10):List AV).getD k_ AV.undef) h bM (Has.refl _))
   have j0:=dE.y
   have oU:h.nx≤h3.nx:=dE.n
   have fB:Has h h3:=dE.a
   have e:iU s P=(-1):=by simp only[iU,dk,aj,af]
   rw[e]
   exact ax rfl (aR Tryz.func187 xM rfl (.inr rfl) (pk (d) _ _ h _ h3 (CN 2<|VV dx<|CC<|LL cW<|CC<|ZZ) k!) k!) fB rfl
 | some uK=>
   obtain ⟨Eo,h3,cW,dE⟩:=aA.r dk (nN (d:=d) (h:=h) sV g cap s P pD hP s.length 0 o! (fun k_=>((sV::(AV.func g [] cap)::AV.undef::AV.undef::(Zi 0)::AV.undef::sV::(Zn s.length)::(Zi 0)::gB 10):List AV).getD k_ AV.undef) h bM (Has.refl _))
   have j0:=dE.y
   have oU:h.nx≤h3.nx:=dE.n
   have fB:Has h h3:=dE.a
   have e:iU s P=uK:=by simp only[iU,dk,aj,af]
   rw[e]
   exact ax rfl (aR Tryz.func187 xM rfl (.inr rfl) (pk (d) _ _ h _ h3 (CN 2<|VV dx<|CC<|LL cW<|ZZ) k!) k!) fB rfl
def v3:Code:=(Tryz.f164.body).getD .skip
theorem AI:Tryz.f164.body=some v3:=by kernel_rfl
def gq (s:List Int) (P:Nat→Bool):Bool:=(decide (0≤(iU s P)))
theorem AJ {d:Nat} {h:ak} {sV:AV} {g:FuncId} {cap:List AV} (s:List Int) (P:Nat→Bool) (pD:bW h .i64 3 sV s) (hP:∀i hh,i<s.length→Tidy hh→Has h hh→cA d (.fn g) (.int .i64 (List.g s i)::cap) hh= .ret (.bool (P i)) hh) (bM:Tidy h):cA (d+2) (.fn 164) [sV,(AV.func g [] cap)] h= .ret (AV.bool (gq s P)) h:=by
 have xD:=pD.small
 have k1:=Gm (d:=d) s P pD hP bM
 have e:gq s P=(decide (0≤(iU s P))):=by simp only[gq,aj,af]
 rw[e]
 exact ax rfl (aR Tryz.func164 AI rfl (.inr rfl) (pk (d+1) _ _ h _ h (CN 3<|EE k1<|VV (jf 3 false true .i64 (iU s P) 0)<|CC<|ZZ) k!) k!) (Has.refl _) rfl
def Cv:Code:=(Tryz.f165.body).getD .skip
theorem I3:Tryz.f165.body=some Cv:=by kernel_rfl
def mK (km:Int) (fR:List Bool):Bool:=(!(fR.g km.toNat))
theorem I4 {d:Nat} {h:ak} {hS:AV} (km:Int) (fR:List Bool) (M7:Nat) (lg:rl h 4 hS fR) (Se:h.get M7=some (aK.cells [hS] 96 false)) (ly:0≤km) (pq:km<(fR.length:Int)) (bM:Tidy h):cA (d+1) (.fn 165) [(Zi km),(Pt M7)] h= .ret (AV.bool (mK km fR)) h:=by
 have Lc:=lg.small
 obtain ⟨p2,q3,qC,_⟩:=lg.elem (i:=km.toNat) o!
 have JS:b_ env (some (.slice 4)) (some hS) (some (Zi km))=some (AV.ptr p2 q3):=by rw[show (km:Int)=((km.toNat:Nat):Int) by omega];exact qC
 have JT:bm env h 4 (AV.ptr p2 q3)=some (AV.bool (fR.g km.toNat)):=lg.load o! qC
 have e:mK km fR=(!(fR.g km.toNat)):=by simp only[mK,aj,af]
 rw[e]
 exact ax rfl (aR Tryz.func165 I3 rfl (.inr rfl) (pk (d) _ _ h _ h (CC<|MM (ao 96 0 hS Se k!)<|CC<|VV JS<|MM JT<|CN 2<|ZZ) k!) k!) (Has.refl _) rfl
def Dy:Code:=(Tryz.f140.body).getD .skip
theorem Cw:Tryz.f140.body=some Dy:=by kernel_rfl
def ma (ab:List Task) (fR:List Bool) (ck:Int):Bool:=(bif (!(fR.g ck.toNat)) then (!(gq (ab.g ck.toNat).aq (fun i=>mK (List.g (ab.g ck.toNat).aq i) fR))) else false)
theorem Ld {d:Nat} {h:ak} {ah hS:AV} (ab:List Task) (fR:List Bool) (ck:Int) (bU:aH h ah ab) (lg:rl h 4 hS fR) (ly:0≤ck) (pq:ck<(fR.length:Int)) (v5:fR.length=ab.length) (AK:∀i,i<(ab.g ck.toNat).aq.length→0≤(ab.g ck.toNat).aq.g i∧(ab.g ck.toNat).aq.g i<(fR.length:Int)) (bM:Tidy h):cA (d+4) (.fn 140) [ah,hS,(Zi ck)] h= .ret (AV.bool (ma ab fR ck)) h:=by
 have lE:=bU.small
 have Lc:=lg.small
 obtain ⟨h1,bD,cb,ib,aI,cf⟩:=ik bM (aK.cells [hS] 96 false)
 have bx:Has h h1:=cf
 obtain ⟨p3,q4,eb,_⟩:=lg.elem (i:=ck.toNat) o!
 have jE:b_ env (some (.slice 4)) (some hS) (some (Zi ck))=some (AV.ptr p3 q4):=by rw[show (ck:Int)=((ck.toNat:Nat):Int) by omega];exact eb
 have jK:bm env h1 4 (AV.ptr p3 q4)=some (AV.bool (fR.g ck.toNat)):=(lg.has bx).load o! eb
 rcases Bool.eq_false_or_eq_true (!(fR.g ck.toNat)) with f0 | f0
 · obtain ⟨p8,q9,tu⟩:=bU.elem (i:=ck.toNat) o!
   have JP:b_ env (some (.slice 48)) (some ah) (some (Zi ck))=some (AV.ptr p8 q9):=by rw[show (ck:Int)=((ck.toNat:Nat):Int) by omega];exact tu
   have sq:bm env h1 26 (AV.ptr p8 (q9+2))=some ((ab.g ck.toNat).aG):=(bU.has bx).part (t:=26) (j:=2) o! tu k! rfl
   have Ix:=AJ (d:=d+1) (ab.g ck.toNat).aq (fun i=>mK (List.g (ab.g ck.toNat).aq i) fR) ((bU.ok (i:=ck.toNat) o!).2.1.has bx) (fun i hh hi yy aa=>by have q_:=AK i hi;exact I4 (d:=d) (List.g (ab.g ck.toNat).aq i) fR h.nx ((lg.has bx).has aa) (aa _ _ aI) o! o! yy) cb
   have e:ma ab fR ck=(!(gq (ab.g ck.toNat).aq (fun i=>mK (List.g (ab.g ck.toNat).aq i) fR))):=by simp only[ma,f0,aj,af]
   rw[e]
   exact ax rfl (aR Tryz.func140 Cw rfl (.inr rfl) (pk (d+3) _ _ h _ h1 (AA (.a (aK.cells [hS] 96 false) (Pt h.nx) h1)<|HH bD<|HH (show ∃mk:Nat→AV,some (aK.cells (AV.cells hS) 96 false,fun i=>AV.ptr i 0)=some (aK.cells [hS] 96 false,mk)∧mk h.nx=(Pt h.nx) from ⟨_,(by rw[xj lg.scalar]),rfl⟩)<|CC<|MM (ao 96 0 hS aI k!)<|CC<|VV jE<|MM jK<|CN 2<|BC f0<|BC f0<|BV f0 JP<|BC f0<|BM f0 sq<|BC f0<|BB f0<|EE Ix<|BC f0<|VV (nK (!(gq (ab.g ck.toNat).aq (fun i=>mK (List.g (ab.g ck.toNat).aq i) fR))) false f0)<|CC<|ZZ) k!) k!) bx rfl
 · have e:ma ab fR ck=false:=by simp only[ma,f0,aj,af]
   rw[e]
   exact ax rfl (aR Tryz.func140 Cw rfl (.inr rfl) (pk (d+3) _ _ h _ h1 (AA (.a (aK.cells [hS] 96 false) (Pt h.nx) h1)<|HH bD<|HH (show ∃mk:Nat→AV,some (aK.cells (AV.cells hS) 96 false,fun i=>AV.ptr i 0)=some (aK.cells [hS] 96 false,mk)∧mk h.nx=(Pt h.nx) from ⟨_,(by rw[xj lg.scalar]),rfl⟩)<|CC<|MM (ao 96 0 hS aI k!)<|CC<|VV jE<|MM jK<|CN 2<|BB f0<|BB f0<|BB f0<|BB f0<|BB f0<|BB f0<|BB f0<|BV f0 (vK false f0)<|CC<|ZZ) k!) k!) bx rfl
def nO:Code:=(Tryz.f93.body).getD .skip
theorem Gn:Tryz.f93.body=some nO:=by kernel_rfl
def Cx:Code:=(bz nO).getD 0 .skip
def Cy:Code:=(bz nO).getD 1 .skip
def eE (fE:List Int) (ab:List Task):Nat→Nat→List Int→List Bool→List Int×List Bool
 | 0,_,fX,jj=>(fX,jj)
 | n8+1,i1,fX,jj=>(bif (ma ab jj (fE.g i1)) then ((fX++[(fE.g i1)]),(jj.set (fE.g i1).toNat true)) else eE fE ab n8 (i1+1) fX jj)
theorem sa {d:Nat} {h:ak} {gg1:ak} (ah:AV) (fF:AV) (bB:List Bool) (I5:Bool) (fE:List Int) (i0:Nat) (ab:List Task) (dL:Nat) (ct:aH h ah ab) (fO:bW h .i64 3 fF fE) (nR:i0<fE.length) (sv:∀i,i<ab.length→∀q,q<(ab.g i).aq.length→0≤(ab.g i).aq.g q∧(ab.g i).aq.g q<(ab.length:Int)) (tx:∀q,q<fE.length→0≤fE.g q∧fE.g q<(ab.length:Int)) (xz:bB.length=ab.length) (O0:ab.length≤100000) (ZO:fE.length≤100000) (ZP:(bT bB).length=ab.length) (bM:Tidy h) (ZQ:h.nx≤dL) (NG1:h.nx≤gg1.nx) (abV:dL<gg1.nx):∀(k_ i_:Nat) (fX:List Int) (jj:List Bool) (z1:AV) (_:i_+k_=fE.length) (_:((fX.length≤i0+1)∧(fX.length≤i0))) (x:Nat→AV) (hh:ak) (az:Tidy hh) (aw:Has h hh) (gv:h.nx≤hh.nx) (I6:jj.length=((bT bB).length)) (ca:hh.get dL=some (aK.cells (bs jj) 4 false)) (oz1:dc 3 gg1 hh z1 (zs .i64 fX)) (lz1:fX.length≤1000000000) (XG:gg1.nx≤hh.nx),bI (σ:=List Int×List Bool) (ρ:=Unit) (cA (d+4)) Cy ⟨(ah::fF::rx x 2 5 ((AV.slice dL 0 (bT bB).length (bT bB).length I5)::z1::rx x 9 5 ((Zn fE.length)::(Zn i0)::(x 16)::fF::(Zn fE.length)::(Zn i_)::rx x 20 17 []))),hh,[],.no⟩ (.exit 2) hh (fun r z y=>(ah::fF::rx y 2 5 ((AV.slice dL 0 (bT bB).length (bT bB).length I5)::z::rx y 9 5 ((Zn fE.length)::(Zn i0)::(y 16)::fF::(Zn fE.length)::rx y 19 18 [])))) (fun r z y=>(ah::fF::rx y 2 5 ((AV.slice dL 0 (bT bB).length (bT bB).length I5)::rx y 8 6 ((Zn fE.length)::(Zn i0)::(y 16)::fF::(Zn fE.length)::rx y 19 18 [])))) (fun r z hk=>Has h hk∧hk.get dL=some (aK.cells (bs r.2) 4 false)∧r.2.length=((bT bB).length)∧(r.1.length≤i0+1)∧dc 3 gg1 hk z (zs .i64 r.1)∧r.1.length≤1000000000) (fun r z hk=>Has h hk) (Sum.inl (eE fE ab k_ i_ fX jj))
 | 0,i1,fX,jj,z1,fK,dt,x,hh,az,aw,gv,I6,ca,oz1,lz1,XG=>by
   have kK:=ct.small
   have jr:=fO.small
   have so:=az _ _ ca
   have NB:=sv
   have OB:=tx
   have ob_:=OB i1
   have aej:i1<fE.length→0≤fE.g i1∧fE.g i1<(ab.length:Int):=ob_
   have q1:(decide (((i1:Nat):Int)<((fE.length:Nat):Int)))=false:=d!
   exact bI.out (fX,jj) z1 rfl (pk (d+4) _ _ hh _ hh (VV (aQ 3 false false .i64 ((i1:Nat):Int) ((fE.length:Nat):Int))<|BB q1<|ZZ) k!) az o! ⟨aw,ca,l!,(show (fX.length≤i0+1) from (by first | omega | (simp<;>omega))),oz1,(by first | omega | (simp<;>omega))⟩ k!
 | n8+1,i1,fX,jj,z1,fK,dt,x,hh,az,aw,gv,I6,ca,oz1,lz1,XG=>by
   have kK:=ct.small
   have jr:=fO.small
   have so:=az _ _ ca
   have NB:=sv
   have OB:=tx
   have ob_:=OB i1
   have aej:i1<fE.length→0≤fE.g i1∧fE.g i1<(ab.length:Int):=ob_
   have q1:(decide (((i1:Nat):Int)<((fE.length:Nat):Int)))=true:=d!
   obtain ⟨p3,q4,eb,_⟩:=fO.elem (i:=i1) o!
   have jE:b_ env (some (.slice 3)) (some fF) (some (Zn i1))=some (AV.ptr p3 q4):=eb
   have jK:bm env hh 3 (AV.ptr p3 q4)=some (Zi (fE.g i1)):=(fO.has aw).load o! eb
   have k6:=Ld (d:=d) ab jj (fE.g i1) (ct.has aw) (rl.own (op:=I5) (n:=((bT bB).length)) k! k! ca l! o!) (by first | omega | assumption | exact NB _ o! | (intro q hq;have q_:=NB _ o! q hq;omega)) (by first | omega | assumption | exact NB _ o! | (intro q hq;have q_:=NB _ o! q hq;omega)) (by first | omega | assumption | exact NB _ o! | (intro q hq;have q_:=NB _ o! q hq;omega)) (by first | omega | assumption | exact NB _ o! | (intro q hq;have q_:=NB _ o! q hq;omega)) az
   rcases Bool.eq_false_or_eq_true (ma ab jj (fE.g i1)) with f1 | f1
   · have OF:b_ env (some (.slice 4)) (some (AV.slice dL 0 (bT bB).length (bT bB).length I5)) (some (Zi (fE.g i1)))=some (AV.ptr dL (fE.g i1).toNat):=xg k! (show (fE.g i1).toNat<((bT bB).length) by omega) o!
     obtain ⟨h9,ZR⟩:∃hq_:ak,hq_=hh.put dL (some (aK.cells (bs (jj.set (fE.g i1).toNat true)) 4 false)):=⟨_,rfl⟩
     have V2:eX env hh 4 (AV.ptr dL (fE.g i1).toNat) (AV.bool true)=some h9:=by rw[ZR];exact IB k! ca l!
     have V3:VI hh h9 dL (aK.cells (bs (jj.set (fE.g i1).toNat true)) 4 false):=by rw[ZR];exact xf az ca
     have rp:=V3.1
     have Sf:h9.nx=hh.nx:=by rw[ZR];rfl
     have mw:Has h h9:=V3.has aw bM o!
     obtain ⟨tz,abW,ku,Sg,z_,Sh⟩:=ik rp (aK.cells [(Zi (fE.g i1))] 3 false)
     have jF:Has h tz:=mw.trans Sh
     have Si:Has h9 tz:=Sh
     obtain ⟨z12,M8,ZS,Aa,Sj,XH,aek⟩:=dc.VN (k:= .i64) (g:=gg1) (tys:= #[26,26]) (v:=(fE.g i1)) (L:=fX) ku o! ((oz1.chg V3 o!).has Si) z_ (by first | omega | (simp<;>omega)) rfl rfl k! k! k! (bytes:=8) k! (z0:=Zi 0) k! rfl (by decide)
     have xN:Has h M8:=Has.FZ jF bM o! XH
     exact bI.out ((fX++[(fE.g i1)]),(jj.set (fE.g i1).toNat true)) z12 (congrArg Sum.inl (by simp only[eE,f1,aj,af])) (pk (d+4) _ _ hh _ M8 (VV (aQ 3 false false .i64 ((i1:Nat):Int) ((fE.length:Nat):Int))<|BV q1 jE<|MM jK<|CN 4<|EE k6<|BB f1<|CN 2<|VV OF<|SS V2<|CN 2<|NN abW (fun i=>(AV.slice i 0 1 1 false))<|PP (show cP env tz #[26,26] z1 (AV.slice h9.nx 0 1 1 false)=some (z12,M8) from ZS)<|CC<|ZZ) k!) Aa o! ⟨xN,(XH _ _ o! (Sh _ _ V3.2.1)),l!,(show ((fX++[(fE.g i1)]).length≤i0+1) from (by first | omega | (simp<;>omega))),aek,(by first | omega | (simp<;>omega))⟩ k!
   · have u8:=ew 3 false true i1 1 o!
     exact bI.round (congrArg Sum.inl (by simp only[eE,f1,aj,af])) (pk (d+4) _ _ hh _ hh (VV (aQ 3 false false .i64 ((i1:Nat):Int) ((fE.length:Nat):Int))<|BV q1 jE<|MM jK<|CN 4<|EE k6<|BV f1 u8<|CC<|ZZ) k!) o! _ k! (fun x=>sa ah fF bB I5 fE i0 ab dL ct fO nR sv tx xz O0 ZO ZP bM ZQ NG1 abV n8 (i1+1) fX jj z1 o! (show ((fX.length≤i0+1)∧(fX.length≤i0)) from (by first | omega | (simp<;>omega))) x hh az aw o! l! ca oz1 (by first | omega | (simp<;>omega)) o!)
def fj (fE:List Int) (ab:List Task):Nat→Nat→List Int→List Bool→List Int×List Bool
 | 0,_,uQ,ba=>(uQ,ba)
 | c7+1,i0,uQ,ba=>fj fE ab c7 (i0+1) (eE fE ab fE.length 0 uQ ba).1 (eE fE ab fE.length 0 uQ ba).2
theorem sb {d:Nat} {h:ak} {gg0:ak} (ah:AV) (fF:AV) (bB:List Bool) (I5:Bool) (fE:List Int) (ab:List Task) (bh:Nat) (aO:aH h ah ab) (bL:bW h .i64 3 fF fE) (gM:∀i,i<ab.length→∀q,q<(ab.g i).aq.length→0≤(ab.g i).aq.g q∧(ab.g i).aq.g q<(ab.length:Int)) (iS:∀q,q<fE.length→0≤fE.g q∧fE.g q<(ab.length:Int)) (rH:bB.length=ab.length) (uR:ab.length≤100000) (Le:fE.length≤100000) (Lf:(bT bB).length=ab.length) (bM:Tidy h) (pT:h.nx≤bh) (NG0:h.nx≤gg0.nx) (Ep:bh<gg0.nx):∀(k_ i_:Nat) (uQ:List Int) (ba:List Bool) (z0:AV) (_:i_+k_=fE.length) (x:Nat→AV) (hh:ak) (az:Tidy hh) (aw:Has h hh) (gv:h.nx≤hh.nx) (ng:ba.length=((bT bB).length)) (aM:hh.get bh=some (aK.cells (bs ba) 4 false)) (G9:dc 3 gg0 hh z0 (zs .i64 uQ)) (XB:uQ.length≤i_) (zX:gg0.nx≤hh.nx),bI (σ:=List Int×List Bool) (ρ:=Unit) (cA (d+4)) Cx ⟨(ah::fF::rx x 2 5 ((AV.slice bh 0 (bT bB).length (bT bB).length I5)::z0::rx x 9 5 ((Zn fE.length)::(Zn i_)::rx x 16 21 []))),hh,[],.no⟩ (.exit 0) hh (fun r z y=>(ah::fF::rx y 2 5 ((AV.slice bh 0 (bT bB).length (bT bB).length I5)::z::rx y 9 5 ((Zn fE.length)::rx y 15 22 [])))) (fun r z y=>(ah::fF::rx y 2 5 ((AV.slice bh 0 (bT bB).length (bT bB).length I5)::rx y 8 6 ((Zn fE.length)::rx y 15 22 [])))) (fun r z hk=>Has h hk∧hk.get bh=some (aK.cells (bs r.2) 4 false)∧r.2.length=((bT bB).length)∧dc 3 gg0 hk z (zs .i64 r.1)∧r.1.length≤fE.length) (fun r z hk=>Has h hk) (Sum.inl (fj fE ab k_ i_ uQ ba))
 | 0,i0,uQ,ba,z0,fK,x,hh,az,aw,gv,ng,aM,G9,XB,zX=>by
   have bY:=aO.small
   have eD:=bL.small
   have jh:=az _ _ aM
   have NB:=gM
   have OB:=iS
   have q1:(decide (((i0:Nat):Int)<((fE.length:Nat):Int)))=false:=d!
   exact bI.out (uQ,ba) z0 rfl (pk (d+4) _ _ hh _ hh (VV (aQ 3 false false .i64 ((i0:Nat):Int) ((fE.length:Nat):Int))<|BB q1<|ZZ) k!) az o! ⟨aw,aM,l!,G9,(by first | omega | (simp<;>omega))⟩ k!
 | c7+1,i0,uQ,ba,z0,fK,x,hh,az,aw,gv,ng,aM,G9,XB,zX=>by
   have bY:=aO.small
   have eD:=bL.small
   have jh:=az _ _ aM
   have NB:=gM
   have OB:=iS
   have q1:(decide (((i0:Nat):Int)<((fE.length:Nat):Int)))=true:=d!
   have pB:bJ (some (.slice 3)) (some fF)=some (Zn fE.length):=bL.len
   obtain ⟨zo5,VU,h4,gI,nh,Dk,sc,zh,Lg,mU,ZT,ael⟩:=bI.n rfl (sa (d:=d) (h:=h) (gg1:=gg0) ah fF bB I5 fE i0 ab bh aO bL o! (by assumption) (by assumption) o! o! o! (by assumption) bM o! o! o! fE.length 0 uQ ba z0 o! (show ((uQ.length≤i0+1)∧(uQ.length≤i0)) from (by first | omega | (simp<;>omega))) (fun k_=>((ah::fF::rx x 2 5 ((AV.slice bh 0 (bT bB).length (bT bB).length I5)::z0::rx x 9 5 ((Zn fE.length)::(Zn i0)::(AV.bool (decide (((i0:Nat):Int)<((fE.length:Nat):Int))))::fF::(Zn fE.length)::(Zi 0)::rx x 20 17 []))):List AV).getD k_ AV.undef) hh az aw o! l! aM G9 (by first | omega | (simp<;>omega)) o!)
   have lI:Has h h4:=sc
   have u6:=ew 3 false true i0 1 o!
   exact bI.round (congrArg Sum.inl (by simp only[fj,aj,af])) (pk (d+4) _ _ hh _ h4 (VV (aQ 3 false false .i64 ((i0:Nat):Int) ((fE.length:Nat):Int))<|BC q1<|VV pB<|CC<|LL gI<|VV u6<|CC<|ZZ) k!) o! _ k! (fun x=>sb ah fF bB I5 fE ab bh aO bL gM iS rH uR Le Lf bM pT NG0 Ep c7 (i0+1) (eE fE ab fE.length 0 uQ ba).1 (eE fE ab fE.length 0 uQ ba).2 zo5 o! x h4 nh lI o! l! zh ZT (by first | omega | (simp<;>omega)) o!)
def iV (ab:List Task) (fE:List Int) (bB:List Bool):List Int:=((fj fE ab fE.length 0 ([]) (bT bB)).1)
theorem Gp {d:Nat} {h:ak} {ah fF:AV} (ab:List Task) (fE:List Int) (bB:List Bool) (uq:Nat) (XI:Nat) (A0:Bool) (bU:aH h ah ab) (Gq:bW h .i64 3 fF fE) (Sk:h.get uq=some (aK.cells (bs bB) 4 false)) (abX:bB.length=XI) (abY:uq<h.nx) (ly:∀i,i<ab.length→∀q,q<(ab.g i).aq.length→0≤(ab.g i).aq.g q∧(ab.g i).aq.g q<(ab.length:Int)) (pq:∀q,q<fE.length→0≤fE.g q∧fE.g q<(ab.length:Int)) (v5:bB.length=ab.length) (AK:ab.length≤100000) (Lh:fE.length≤100000) (bM:Tidy h):∃z hk,cA (d+5) (.fn 93) [ah,fF,(AV.slice uq 0 XI XI A0)] h= .ret z hk∧bC h hk∧bW hk .i64 3 z (iV ab fE bB)∧dc 3 h hk z (zs .i64 (iV ab fE bB)):=by
 have lE:=bU.small
 have aaL:=Gq.small
 obtain ⟨qb1,_,I5,h3,Sl,dE,Sm,rfl,aem⟩:=Lb (d:=d+3) bB uq XI A0 Sk l! o! (by first | omega | assumption | exact NB _ o! | (intro q hq;have q_:=NB _ o! q hq;omega)) bM
 have j0:=dE.y
 have oU:h.nx≤h3.nx:=dE.n
 have fB:Has h h3:=dE.a
 have afm:=j0 _ _ Sm
 have aen:(bT bB).length=List.length bB:=rfl
 have JO:bJ (some (.slice 3)) (some fF)=some (Zn fE.length):=Gq.len
 obtain ⟨VW,OO,h6,nL,mD,R2,Cb,ZU,aeo,KY,ZF⟩:=bI.n rfl (sb (d:=d) (h:=h) (gg0:=h3) ah fF bB I5 fE ab qb1 bU Gq (by assumption) (by assumption) o! o! o! (by assumption) bM o! o! o! fE.length 0 ([]) (bT bB) AV.aD o! (fun k_=>((ah::fF::(AV.slice uq 0 XI XI A0)::AV.undef::AV.undef::AV.undef::AV.aD::(AV.slice qb1 0 (bT bB).length (bT bB).length I5)::AV.aD::AV.undef::AV.undef::(AV.slice uq 0 XI XI A0)::(AV.slice qb1 0 (bT bB).length (bT bB).length I5)::fF::(Zn fE.length)::(Zi 0)::gB 21):List AV).getD k_ AV.undef) h3 j0 fB o! l! Sm (.inl ⟨rfl,rfl⟩) (Nat.zero_le _) o!)
 have kW:Has h h6:=Cb
 have e:iV ab fE bB=((fj fE ab fE.length 0 ([]) (bT bB)).1):=by simp only[iV,aj,af]
 rw[e]
 have oz:=dc.le (h0:=h) KY o!
 exact ⟨VW,eZ rfl (aR Tryz.func93 Gn rfl (.inr rfl) (pk (d+4) _ _ h _ h6 (CN 2<|EE Sl<|CN 3<|VV JO<|CC<|LL nL<|CN 2<|ZZ) k!) k!) bM ⟨mD,kW,by omega⟩ (P:=fun hh=>bW hh .i64 3 VW ((fj fE ab fE.length 0 ([]) (bT bB)).1)∧dc 3 h hh VW (zs .i64 (fj fE ab fE.length 0 ([]) (bT bB)).1)) ⟨oz.zs o! k! k!,oz⟩ fun v=>⟨oz.MT v k! k!,oz.MV v⟩⟩
def tH:Code:=(Tryz.f65.body).getD .skip
theorem I7:Tryz.f65.body=some tH:=by kernel_rfl
def Dz:Code:=(bz tH).getD 0 .skip
def eK (ab:List Task):Nat→Nat→List Int→List Int
 | 0,_,ba=>ba
 | c7+1,i0,ba=>eK ab c7 (i0+1) (ba.set i0 ((i0:Nat):Int))
theorem tI {d:Nat} {h:ak} (ah:AV) (ab:List Task) (bh:Nat) (aO:aH h ah ab) (gM:∀i,i<ab.length→∀q,q<(ab.g i).aq.length→0≤(ab.g i).aq.g q∧(ab.g i).aq.g q<(ab.length:Int)) (iS:ab.length≤100000) (bM:Tidy h) (pT:h.nx≤bh):∀(k_ i_:Nat) (ba:List Int) (_:i_+k_=ab.length) (_:(∀q,q<(ba).length→0≤(ba).g q∧(ba).g q<(ab.length:Int))) (x:Nat→AV) (hh:ak) (az:Tidy hh) (aw:Has h hh) (gv:h.nx≤hh.nx) (ng:ba.length=ab.length) (aM:hh.get bh=some (aK.cells (zs .i64 ba) 3 false)),bI (σ:=List Int) (ρ:=Unit) (cA (d+5)) Dz ⟨(ah::(x 1)::(x 2)::(AV.slice bh 0 ab.length ab.length false)::rx x 4 5 ((Zn ab.length)::(Zn i_)::rx x 11 13 [])),hh,[],.no⟩ (.exit 0) hh (fun r z y=>(ah::(y 1)::(y 2)::(AV.slice bh 0 ab.length ab.length false)::rx y 4 5 ((Zn ab.length)::rx y 10 14 []))) (fun r z y=>(ah::(y 1)::(y 2)::(AV.slice bh 0 ab.length ab.length false)::rx y 4 5 ((Zn ab.length)::rx y 10 14 []))) (fun r z hk=>Has h hk∧hk.get bh=some (aK.cells (zs .i64 r) 3 false)∧r.length=ab.length∧(∀q,q<(r).length→0≤(r).g q∧(r).g q<(ab.length:Int))) (fun r z hk=>Has h hk) (Sum.inl (eK ab k_ i_ ba))
 | 0,i0,ba,fK,dt,x,hh,az,aw,gv,ng,aM=>by
   have bY:=aO.small
   have jh:=az _ _ aM
   have q1:(decide (((i0:Nat):Int)<((ab.length:Nat):Int)))=false:=d!
   exact bI.out ba AV.undef rfl (pk (d+5) _ _ hh _ hh (VV (aQ 3 false false .i64 ((i0:Nat):Int) ((ab.length:Nat):Int))<|BB q1<|ZZ) k!) az o! ⟨aw,aM,l!,(show (∀q,q<(ba).length→0≤(ba).g q∧(ba).g q<(ab.length:Int)) from (by first | exact dt | exact M3 dt o! o!))⟩ k!
 | c7+1,i0,ba,fK,dt,x,hh,az,aw,gv,ng,aM=>by
   have bY:=aO.small
   have jh:=az _ _ aM
   have q1:(decide (((i0:Nat):Int)<((ab.length:Nat):Int)))=true:=d!
   have jE:b_ env (some (.slice 3)) (some (AV.slice bh 0 ab.length ab.length false)) (some (Zn i0))=some (AV.ptr bh i0):=xg k! (show i0<ab.length by omega) o!
   obtain ⟨h3,ZV⟩:∃hq_:ak,hq_=hh.put bh (some (aK.cells (zs .i64 (ba.set i0 ((i0:Nat):Int))) 3 false)):=⟨_,rfl⟩
   have aep:eX env hh 3 (AV.ptr bh i0) (Zn i0)=some h3:=by rw[ZV];exact RG k! aM l!
   have ZW:VI hh h3 bh (aK.cells (zs .i64 (ba.set i0 ((i0:Nat):Int))) 3 false):=by rw[ZV];exact xf az aM
   have j0:=ZW.1
   have aeq:h3.nx=hh.nx:=by rw[ZV];rfl
   have fB:Has h h3:=ZW.has aw bM o!
   have u4:=ew 3 false true i0 1 o!
   exact bI.round (congrArg Sum.inl (by simp only[eK,aj,af])) (pk (d+5) _ _ hh _ h3 (VV (aQ 3 false false .i64 ((i0:Nat):Int) ((ab.length:Nat):Int))<|BB q1<|CN 5<|VV jE<|SS aep<|VV u4<|CC<|ZZ) k!) o! _ k! (fun x=>tI ah ab bh aO gM iS bM pT c7 (i0+1) (ba.set i0 ((i0:Nat):Int)) o! (show (∀q,q<((ba.set i0 ((i0:Nat):Int))).length→0≤((ba.set i0 ((i0:Nat):Int))).g q∧((ba.set i0 ((i0:Nat):Int))).g q<(ab.length:Int)) from (by first | exact dt | exact M3 dt o! o!)) x h3 j0 fB o! l! ZW.2.1)
def dP (ab:List Task):List Int:=(iV ab (eK ab ab.length 0 (List.replicate ab.length 0)) (List.replicate ab.length false))
theorem I8 {d:Nat} {h:ak} {ah:AV} (ab:List Task) (bU:aH h ah ab) (ly:∀i,i<ab.length→∀q,q<(ab.g i).aq.length→0≤(ab.g i).aq.g q∧(ab.g i).aq.g q<(ab.length:Int)) (pq:ab.length≤100000) (bM:Tidy h):∃z hk,cA (d+6) (.fn 65) [ah] h= .ret z hk∧bC h hk∧bW hk .i64 3 z (dP ab)∧dc 3 h hk z (zs .i64 (dP ab)):=by
 have lE:=bU.small
 have dx:bJ (some (.slice 48)) (some ah)=some (Zn ab.length):=bU.len
 have mk2:D' env (some (.slice 3)) (some (Zn ab.length)) (some (Zn ab.length))=some (aK.cells (da [(Zi 0)] ab.length) 3 false,fun i=>AV.slice i 0 ab.length ab.length false):=yT (bytes:=8) (z:=(Zi 0)) k! k! k! rfl (by decide) o!
 obtain ⟨h3,aer,j0,aeq,aes,aet⟩:=ik bM (aK.cells (da [(Zi 0)] ab.length) 3 false)
 have fB:Has h h3:=aet
 have abZ:h3.get h.nx=some (aK.cells (zs .i64 (List.replicate ab.length 0)) 3 false):=by have q:=aes;rw[RE] at q;exact q
 obtain ⟨zo6,tp,h5,cC,js,ph,Et,Gr,Sn,pC⟩:=bI.n rfl (tI (d:=d) (h:=h) ah ab h.nx bU (by assumption) o! bM o! ab.length 0 (List.replicate ab.length 0) o! (show (∀q,q<((List.replicate ab.length 0)).length→0≤((List.replicate ab.length 0)).g q∧((List.replicate ab.length 0)).g q<(ab.length:Int)) from (VZ)) (fun k_=>((ah::AV.undef::AV.aD::(AV.slice h.nx 0 ab.length ab.length false)::AV.undef::ah::(Zn ab.length)::(AV.slice h.nx 0 ab.length ab.length false)::(AV.slice h.nx 0 ab.length ab.length false)::(Zn ab.length)::(Zi 0)::gB 13):List AV).getD k_ AV.undef) h3 j0 fB o! l! abZ)
 have eV:Has h h5:=Et
 have T_:bJ (some (.slice 48)) (some ah)=some (Zn ab.length):=bU.len
 have mk8:D' env (some (.slice 4)) (some (Zn ab.length)) (some (Zn ab.length))=some (aK.cells (da [(AV.bool false)] ab.length) 4 false,fun i=>AV.slice i 0 ab.length ab.length false):=yT (bytes:=1) (z:=(AV.bool false)) k! k! k! rfl (by decide) o!
 obtain ⟨h9,Li,rp,Sf,xO,qD⟩:=ik js (aK.cells (da [(AV.bool false)] ab.length) 4 false)
 have mw:Has h h9:=eV.trans qD
 have AY:Has h5 h9:=qD
 have ab0:h9.get h5.nx=some (aK.cells (bs (List.replicate ab.length false)) 4 false):=by have q:=xO;rw[KJ] at q;exact q
 obtain ⟨z10,V4,ab1,Ad,aeu,ab2⟩:=Gp (d:=d) ab (eK ab ab.length 0 (List.replicate ab.length 0)) (List.replicate ab.length false) h5.nx ab.length false (bU.has mw) (bW.own (op:=false) (n:=ab.length) k! k! (qD _ _ Gr) l! o!) ab0 l! o! (by first | omega | assumption | (simp only[List.length_replicate];done) | (simp only[List.length_replicate]<;>omega)) (by first | omega | assumption | (simp only[List.length_replicate];done) | (simp only[List.length_replicate]<;>omega)) (by first | omega | assumption | (simp only[List.length_replicate];done) | (simp only[List.length_replicate]<;>omega)) (by first | omega | assumption | (simp only[List.length_replicate];done) | (simp only[List.length_replicate]<;>omega)) (by first | omega | assumption | (simp only[List.length_replicate];done) | (simp only[List.length_replicate]<;>omega)) rp
 have M9:=Ad.y
 have ab3:h9.nx≤V4.nx:=Ad.n
 have M_:Has h V4:=mw.trans Ad.a
 have ab4:Has h5 V4:=AY.trans Ad.a
 have aev:=aeu.small
 have e:dP ab=(iV ab (eK ab ab.length 0 (List.replicate ab.length 0)) (List.replicate ab.length false)):=by simp only[dP,aj,af]
 rw[e]
 have oz:=dc.le (h0:=h) ab2 o!
 exact ⟨z10,eZ rfl (aR Tryz.func65 I7 rfl (.inr rfl) (pk (d+5) _ _ h _ V4 (CN 2<|VV dx<|KK mk2 aer<|CN 4<|LL cC<|CN 3<|VV T_<|KK mk8 Li<|EE ab1<|CC<|ZZ) k!) k!) bM ⟨M9,M_,by omega⟩ (P:=fun hh=>bW hh .i64 3 z10 (iV ab (eK ab ab.length 0 (List.replicate ab.length 0)) (List.replicate ab.length false))∧dc 3 h hh z10 (zs .i64 (iV ab (eK ab ab.length 0 (List.replicate ab.length 0)) (List.replicate ab.length false)))) ⟨oz.zs o! k! k!,oz⟩ fun v=>⟨oz.MT v k! k!,oz.MV v⟩⟩
def wo (P:Nat→Int):Nat→Nat→Option Int
 | 0,_=>none
 | k+1,i=>bif !decide (P i=0) then some (P i) else wo P k (i+1)
def G' (n:Nat) (cc:Int) (P:Nat→Int):Int:=bif decide (cc<((n:Nat):Int)) then 3 else match wo P n 0 with | none=>0 | some r=>r
theorem I_ {P:Nat→Int}:∀{k i:Nat},wo P k i=none→∀j,i≤j→j<i+k→P j=0
 | 0,i,_,j,p,q=>by omega
 | k+1,i,h,j,p,q=>by
   rw[wo] at h
   by_cases e:P i=0
   · rw[decide_eq_true e] at h
     by_cases z:j=i
     · rw[z];exact e
     · exact I_ (k:=k) (i:=i+1) h j o! o!
   · rw[decide_eq_false e] at h;cases h
theorem tJ {P:Nat→Int}:∀{k i:Nat} {r:Int},wo P k i=some r→r≠0
 | 0,i,r,h=>by cases h
 | k+1,i,r,h=>by
   rw[wo] at h
   by_cases e:P i=0
   · rw[decide_eq_true e] at h;exact tJ (k:=k) h
   · rw[decide_eq_false e] at h;cases h;exact e
theorem nu {n:Nat} {cc:Int} {P:Nat→Int} (h:G' n cc P=0):(n:Int)≤cc∧∀j,j<n→P j=0:=by
 unfold G' at h
 by_cases a:cc<((n:Nat):Int)
 · rw[decide_eq_true a] at h;cases h
 · rw[decide_eq_false a,af] at h
   cases e:wo P n 0 with
   | none=>exact ⟨by omega,fun j hj=>I_ e j o! o!⟩
   | some r=>rw[e] at h;exact absurd h (tJ e)
theorem So {P:Nat→Int} {l:List Int}:∀{k i:Nat},dW P l k i=wo P k i
 | 0,i=>rfl
 | k+1,i=>by rw[dW,wo,So]
theorem Sp {P:Nat→Int} {l:List jD}:∀{k i:Nat},dX P l k i=wo P k i
 | 0,i=>rfl
 | k+1,i=>by rw[dX,wo,Sp]
theorem M' {P:Nat→Int} {l:List Task}:∀{k i:Nat},dI P l k i=wo P k i
 | 0,i=>rfl
 | k+1,i=>by rw[dI,wo,M']
theorem Sq {P:Nat→Int} {l:List aZ}:∀{k i:Nat},cL P l k i=wo P k i
 | 0,i=>rfl
 | k+1,i=>by rw[cL,wo,Sq]
theorem Na {P:Nat→Int} {l:List Span}:∀{k i:Nat},dJ P l k i=wo P k i
 | 0,i=>rfl
 | k+1,i=>by rw[dJ,wo,Na]
theorem Sr (l:List Int) (m:Int) (P:Nat→Int):b8 l m P=G' l.length m P:=by rw[b8,G',So]<;>rfl
theorem Ss (l:List jD) (m:Int) (P:Nat→Int):dv l m P=G' l.length m P:=by rw[dv,G',Sp]<;>rfl
theorem xP (l:List Task) (m:Int) (P:Nat→Int):bA l m P=G' l.length m P:=by rw[bA,G',M']<;>rfl
theorem Su (l:List aZ) (m:Int) (P:Nat→Int):bl l m P=G' l.length m P:=by rw[bl,G',Sq]<;>rfl
theorem Nb (l:List Span) (m:Int) (P:Nat→Int):cT l m P=G' l.length m P:=by rw[cT,G',Na]<;>rfl
theorem xQ {j:cF} {a:List Task} {t:Task} (h:cR j a t=0):∀q,q<t.aq.length→0≤t.aq.g q∧t.aq.g q<(j.ab.length:Int):=by
 intro q hq
 unfold cR at h
 cases n1:fV t.name with
 | false=>rw[n1] at h;cases h
 | true=>
 cases n2:eJ a (fun y=>hH y t) with
 | true=>rw[n1,n2] at h;cases h
 | false=>
 cases n3:fW t.aL with
 | false=>rw[n1,n2,n3] at h;cases h
 | true=>
 rw[n1,n2,n3] at h
 by_cases e:b8 t.aq ((t.aq.length:Nat):Int) (fun jx=>cK (List.take jx t.aq) (List.g t.aq jx) j)=0
 · rw[Sr] at e
   have:=(nu e).2 q hq
   unfold cK fD at this
   cases n4:fQ (t.aq.g q) ((j.ab.length:Nat):Int) with
   | false=>rw[show List.g t.aq q=t.aq.g q from rfl,n4] at this;cases this
   | true=>exact qy n4
 · rw[decide_eq_false e] at h;exact absurd h e
theorem Ae {j:cF} (h:bA j.ab 64 (fun jx=>ef (List.take jx j.ab) (List.g j.ab jx) j)=0):j.ab.length≤100000:=by
 rw[xP] at h;have:=(nu h).1;omega
theorem rJ {j:cF} (h:bA j.ab 64 (fun jx=>ef (List.take jx j.ab) (List.g j.ab jx) j)=0):∀i,i<j.ab.length→∀q,q<(j.ab.g i).aq.length→0≤(j.ab.g i).aq.g q∧(j.ab.g i).aq.g q<(j.ab.length:Int):=by
 rw[xP] at h
 exact fun i hi=>xQ ((nu h).2 i hi)
def Gt:Code:=(Tryz.f22.body).getD .skip
theorem uv:Tryz.f22.body=some Gt:=by kernel_rfl
def cy (j:cF):Int:=(bif (!decide ((bl j.ae 16 (fun jx=>bj (List.take jx j.ae) (List.g j.ae jx)))=0)) then (bl j.ae 16 (fun jx=>bj (List.take jx j.ae) (List.g j.ae jx))) else (bif (!decide ((bA j.ab 64 (fun jx=>ef (List.take jx j.ab) (List.g j.ab jx) j))=0)) then (bA j.ab 64 (fun jx=>ef (List.take jx j.ab) (List.g j.ab jx) j)) else (bif (decide ((((dP j.ab).length:Nat):Int)<((j.ab.length:Nat):Int))) then 11 else 0)))
theorem uw {d:Nat} {h:ak} (j:cF) (bF:aB.ok h j) (bM:Tidy h):cA (d+11) (.fn 22) [(AV.agg [j.ah,j.ag])] h= .ret (Zi (cy j)) h:=by
 have eS:=bF.1.small
 have eT:=bF.2.small
 obtain ⟨h1,bD,cb,ib,aI,cf⟩:=ik bM (aK.cells [j.ah,j.ag] 25 false)
 have bx:Has h h1:=cf
 have k2:=sw (d:=d+9) j.ae 16 (fun jx=>bj (List.take jx j.ae) (List.g j.ae jx)) (bF.2.has bx) (fun jx hj aV hh yy aa fa=>xL (d:=d+3) (List.take jx j.ae) (List.g j.ae jx) fa (aB.mono aa ((bF.2.has bx).ok hj)) yy) cb
 rcases Bool.eq_false_or_eq_true (!decide ((bl j.ae 16 (fun jx=>bj (List.take jx j.ae) (List.g j.ae jx)))=0)) with f0 | f0
 · have fw:=C2 f0
   have e:cy j=(bl j.ae 16 (fun jx=>bj (List.take jx j.ae) (List.g j.ae jx))):=by simp only[cy,f0,aj,af]
   rw[e]
   exact ax rfl (aR Tryz.func22 uv rfl (.inr rfl) (pk (d+10) _ _ h _ h1 (NN bD (fun i=>(Pt i))<|CN 2<|MM (ao 23 1 j.ag aI k!)<|EE k2<|CN 2<|VV (eC 31 false true .i64 (bl j.ae 16 (fun jx=>bj (List.take jx j.ae) (List.g j.ae jx))) 0)<|BB f0<|CN 2<|ZZ) k!) k!) bx rfl
 · have fw:=C3 f0
   have k4:=xI (d:=d+9) j.ab 64 (fun jx=>ef (List.take jx j.ab) (List.g j.ab jx) j) (bF.1.has bx) (fun jx hj aV hh yy aa fa=>K8 (d:=d) (List.take jx j.ab) (List.g j.ab jx) j h.nx fa (aB.mono aa ((bF.1.has bx).ok hj)) (aB.mono aa (aB.mono bx bF)) (aa _ _ aI) yy) cb
   rcases Bool.eq_false_or_eq_true (!decide ((bA j.ab 64 (fun jx=>ef (List.take jx j.ab) (List.g j.ab jx) j))=0)) with f1 | f1
   · have ea:=C2 f1
     have e:cy j=(bA j.ab 64 (fun jx=>ef (List.take jx j.ab) (List.g j.ab jx) j)):=by simp only[cy,f0,f1,aj,af]
     rw[e]
     exact ax rfl (aR Tryz.func22 uv rfl (.inr rfl) (pk (d+10) _ _ h _ h1 (NN bD (fun i=>(Pt i))<|CN 2<|MM (ao 23 1 j.ag aI k!)<|EE k2<|CN 2<|VV (eC 31 false true .i64 (bl j.ae 16 (fun jx=>bj (List.take jx j.ae) (List.g j.ae jx))) 0)<|BC f0<|MM (ao 22 0 j.ah aI k!)<|CC<|EE k4<|CN 2<|VV (eC 31 false true .i64 (bA j.ab 64 (fun jx=>ef (List.take jx j.ab) (List.g j.ab jx) j)) 0)<|BB f1<|CN 2<|ZZ) k!) k!) bx rfl
   · have ea:=C3 f1
     have AW:bJ (some (.slice 48)) (some j.ah)=some (Zn j.ab.length):=bF.1.len
     obtain ⟨z7,h9,ab5,kL,fz8,afW⟩:=I8 (d:=d+4) j.ab (bF.1.has bx) (by first | omega | assumption | exact rJ (by assumption) | exact Ae (by assumption)) (by first | omega | assumption | exact rJ (by assumption) | exact Ae (by assumption)) cb
     have rp:=kL.y
     have RQ:h1.nx≤h9.nx:=kL.n
     have mw:Has h h9:=bx.trans kL.a
     have afn:=fz8.small
     have pO:bJ (some (.slice 3)) (some z7)=some (Zn (dP j.ab).length):=fz8.len
     have OU:AV.same 20 j.ah j.ah=true:=bF.1.same 19
     rcases Bool.eq_false_or_eq_true (decide ((((dP j.ab).length:Nat):Int)<((j.ab.length:Nat):Int))) with f2 | f2
     · have jX:=of_decide_eq_true f2
       have e:cy j=11:=by simp only[cy,f0,f1,f2,aj,af]
       rw[e]
       exact ax rfl (aR Tryz.func22 uv rfl (.inr rfl) (pk (d+10) _ _ h _ h9 (NN bD (fun i=>(Pt i))<|CN 2<|MM (ao 23 1 j.ag aI k!)<|EE k2<|CN 2<|VV (eC 31 false true .i64 (bl j.ae 16 (fun jx=>bj (List.take jx j.ae) (List.g j.ae jx))) 0)<|BC f0<|MM (ao 22 0 j.ah aI k!)<|CC<|EE k4<|CN 2<|VV (eC 31 false true .i64 (bA j.ab 64 (fun jx=>ef (List.take jx j.ab) (List.g j.ab jx) j)) 0)<|BC f1<|MM (ao 22 0 j.ah aI k!)<|CC<|MM (ao 22 0 j.ah aI k!)<|VV AW<|EE ab5<|VV pO<|VV (aQ 3 false false .i64 (((dP j.ab).length:Nat):Int) ((j.ab.length:Nat):Int))<|HH (ao 22 0 j.ah aI k!)<|HH OU<|HH (ao 22 0 j.ah aI k!)<|HH OU<|HH (ao 22 0 j.ah (kL.a _ _ aI) k!)<|HH OU<|BC f2<|ZZ) k!) k!) mw rfl
     · have jX:=of_decide_eq_false f2
       have e:cy j=0:=by simp only[cy,f0,f1,f2,aj,af]
       rw[e]
       exact ax rfl (aR Tryz.func22 uv rfl (.inr rfl) (pk (d+10) _ _ h _ h9 (NN bD (fun i=>(Pt i))<|CN 2<|MM (ao 23 1 j.ag aI k!)<|EE k2<|CN 2<|VV (eC 31 false true .i64 (bl j.ae 16 (fun jx=>bj (List.take jx j.ae) (List.g j.ae jx))) 0)<|BC f0<|MM (ao 22 0 j.ah aI k!)<|CC<|EE k4<|CN 2<|VV (eC 31 false true .i64 (bA j.ab 64 (fun jx=>ef (List.take jx j.ab) (List.g j.ab jx) j)) 0)<|BC f1<|MM (ao 22 0 j.ah aI k!)<|CC<|MM (ao 22 0 j.ah aI k!)<|VV AW<|EE ab5<|VV pO<|VV (aQ 3 false false .i64 (((dP j.ab).length:Nat):Int) ((j.ab.length:Nat):Int))<|HH (ao 22 0 j.ah aI k!)<|HH OU<|HH (ao 22 0 j.ah aI k!)<|HH OU<|HH (ao 22 0 j.ah (kL.a _ _ aI) k!)<|HH OU<|BC f2<|ZZ) k!) k!) mw rfl
def JU:Nat→List (Int×Int)→List gO
 | _,[]=> []
 | n,(k,v)::r=>{key:= .int .i64 k,val:= .int .i64 v,born:=n}::JU (n+1) r
def tK (m:Mi):aK:= .map (JU 0 m.l) m.l.length
def JV:Nat→List (Int×Int)→Int→Option (Nat×Int)
 | _,[],_=>none
 | i,(k,v)::r,q=>bif q==k then some (i,v) else JV (i+1) r q
def Mi.val (m:Mi) (q:Int):Int:=match JV 0 m.l q with | some p=>p.2 | none=>0
def Mi.has (m:Mi) (q:Int):Bool:=(JV 0 m.l q).isSome
def V5:List (Int×Int)→Nat→Int→List (Int×Int)
 | [],_,_=> []
 | (k,_)::r,0,x=>(k,x)::r
 | e::r,i+1,x=>e::V5 r i x
def Mi.put (m:Mi) (q x:Int):Mi:=match JV 0 m.l q with | some p=>⟨V5 m.l p.1 x⟩ | none=>⟨m.l++[(q,x)]⟩
theorem Cz (q:Int):∀(l:List (Int×Int)) (n i:Nat),qh (.int .i64 q) (JU n l) i=some ((JV i l q).map fun p=>(p.1,.int .i64 p.2))
 | [],n,i=>rfl
 | (k,v)::r,n,i=>by
   show (match some (q==k) with | some true=>some (some (i,AV.int .i64 v)) | some false=>qh (.int .i64 q) (JU (n+1) r) (i+1) | none=>none)=_
   rw[JV]
   cases q==k with
   | true=>rfl
   | false=>exact Cz q r (n+1) (i+1)
theorem Nc:∀(a b:List (Int×Int)) (n:Nat),JU n (a++b)=JU n a++JU (n+a.length) b
 | [],b,n=>rfl
 | (k,v)::r,b,n=>by rw[List.cons_append,JU,JU,Nc r b (n+1),List.length_cons,show n+1+r.length=n+(r.length+1) by omega];rfl
theorem Nd (x:Int):∀(l:List (Int×Int)) (n i:Nat),dB (JU n l) i (.int .i64 x)=JU n (V5 l i x)
 | [],n,i=>by cases i<;>rfl
 | (k,v)::r,n,0=>rfl
 | (k,v)::r,n,i+1=>by rw[JU,V5,JU,dB,Nd x r (n+1) i]
theorem Nf (x:Int):∀(l:List (Int×Int)) (i:Nat),(V5 l i x).length=l.length
 | [],i=>rfl
 | e::r,0=>rfl
 | e::r,i+1=>congrArg (· +1) (Nf x r i)
theorem Sv:env.P.underlying 79=some (.map 3 3):=by kernel_rfl
theorem Sw (q:Int):ij (env.P.underlying 3) (.int .i64 q)=true:=by kernel_rfl
theorem mk_zero:fl env 3=some (.int .i64 0):=by kernel_rfl
theorem V6 {ts:List AV} {h:ak} {b:Nat} {m:Mi} {q:Int} {x ix:Operand} (hx:dZ env ts x=some (.map b)) (hi:dZ env ts ix=some (.int .i64 q)) (hg:h.get b=some (tK m)):
 dM env ts h (.lookup 79 x ix true)=some (.tuple [.int .i64 (m.val q),.bool (m.has q)]):=by
 simp only[dM,Sv,hx,hi,Sw,hg,tK,if_true,Cz,mk_zero]
 unfold Mi.val Mi.has
 cases JV 0 m.l q with
 | none=>rfl
 | some p=>rfl
theorem ZX {h:ak} {b:Nat} {m:Mi} (q x:Int) (y:Tidy h) (hg:h.get b=some (tK m)):
 ∃h',dA env h 79 (.map b) (.int .i64 q) (.int .i64 x)=some h'∧VI h h' b (tK (m.put q x))∧h'.nx=h.nx:=by
 have hg':h.get b=some (.map (JU 0 m.l) m.l.length):=hg
 simp only[dA,Sv,hg',Sw,Cz,if_true]
 unfold Mi.put
 cases JV 0 m.l q with
 | none=>
   refine ⟨_,rfl,?_,rfl⟩
   have e:aK.map (JU 0 m.l++[{key:= .int .i64 q,val:= .int .i64 x,born:=m.l.length}]) (m.l.length+1)=tK ⟨m.l++[(q,x)]⟩:=by
    rw[tK,Nc,List.length_append,Nat.zero_add];rfl
   rw[e];exact xf y hg
 | some p=>
   refine ⟨_,rfl,?_,rfl⟩
   have e:aK.map (dB (JU 0 m.l) p.1 (.int .i64 x)) m.l.length=tK ⟨V5 m.l p.1 x⟩:=by
    rw[tK,Nd,Nf]
   rw[e];exact xf y hg
theorem Ng (q:Int):∀(l:List (Int×Int)) (i:Nat) (p:Nat×Int),JV i l q=some p→(q,p.2)∈l
 | [],i,p,h=>by cases h
 | (k,v)::r,i,p,h=>by
   rw[JV] at h
   by_cases e:q=k
   · subst e;rw[show (q==q)=true from beq_self_eq_true q] at h;cases h;exact List.mem_cons_self
   · rw[show (q==k)=false from by simpa using e] at h;exact List.mem_cons_of_mem _ (Ng q r (i+1) p h)
theorem Nh (q x:Int):∀(l:List (Int×Int)) (i j:Nat) (v:Int),JV j l q=some (i,v)→∀e∈V5 l (i - j) x,e∈l∨e=(q,x)
 | [],i,j,v,h,e,he=>by cases h
 | (k,w)::r,i,j,v,h,e,he=>by
   rw[JV] at h
   by_cases c:q=k
   · subst c
     rw[show (q==q)=true from beq_self_eq_true q] at h;cases h
     rw[Nat.sub_self,V5] at he
     rcases List.mem_cons.1 he with rfl | he
     · exact .inr rfl
     · exact .inl (List.mem_cons_of_mem _ he)
   · rw[show (q==k)=false from by simpa using c] at h
     have hj:j+1≤i:=Sx q r (j+1) (i,v) h
     rw[show i - j=(i -(j+1))+1 by omega,V5] at he
     rcases List.mem_cons.1 he with rfl | he
     · exact .inl List.mem_cons_self
     · exact (Nh q x r i (j+1) v h e he).imp (List.mem_cons_of_mem _) id
where
 Sx (q:Int):∀(l:List (Int×Int)) (i:Nat) (p:Nat×Int),JV i l q=some p→i≤p.1
 | [],i,p,h=>by cases h
 | (k,v)::r,i,p,h=>by
   rw[JV] at h
   cases e:q==k with
   | true=>rw[e] at h;cases h;exact Nat.le_refl _
   | false=>rw[e] at h;have:=Sx q r (i+1) p h;omega
def dw (L:Int→Int) (m:Mi):Prop:=∀e∈m.l,e.2=L e.1
theorem dw.nil (L:Int→Int):dw L ⟨[]⟩:=fun e he=>by cases he
theorem dw.val {L:Int→Int} {m:Mi} (o:dw L m) {q:Int} (h:m.has q=true):m.val q=L q:=by
 unfold Mi.has at h;unfold Mi.val
 cases e:JV 0 m.l q with
 | none=>rw[e] at h;cases h
 | some p=>exact o _ (Ng q _ _ _ e)
theorem dw.put {L:Int→Int} {m:Mi} (o:dw L m) {q x:Int} (h:x=L q):dw L (m.put q x):=fun e he=>by
 unfold Mi.put at he
 cases c:JV 0 m.l q with
 | none=>
   rw[c] at he
   rcases List.mem_append.1 he with a | a
   · exact o e a
   · rw[List.mem_singleton.1 a];exact h
 | some p=>
   rw[c] at he
   rcases Nh q x m.l p.1 0 p.2 c e he with a | rfl
   · exact o e a
   · exact h
def LH (lv:Nat) (ab:List Task) (R:Int→Prop) (V:Mi→Int→Int×Mi):Prop:=∀(h hh:ak) (ah:AV) (known:Mi) (ck:Int) (bH:Nat),aH h ah ab→hh.get bH=some (tK known)→h.get bH=none→0≤ck→ck<(ab.length:Int)→R ck→Tidy h→Tidy hh→Has h hh→h.nx≤hh.nx→
 ∃hk,cA lv (.fn 66) [.agg [ah,.map bH],.int .i64 ck] hh= .ret (.int .i64 (V known ck).1) hk∧Tidy hk∧hh.nx≤hk.nx∧Has h hk∧hk.get bH=some (tK (V known ck).2)
theorem aew {d:Nat} {h hh:ak} {ah:AV} {bH knownN:Nat} (ab:List Task) (known:Mi) (ck:Int) (V:Mi→Int→Int×Mi) (R:Int→Prop) (lv:Nat) (bU:aH h ah ab) (cj:hh.get bH=some (tK known)) (oc:known.length=knownN) (kr:h.get bH=none) (ly:0≤ck) (pq:ck<(ab.length:Int)) (v5:R ck) (AK:LH lv ab R V) (Lh:lv=d) (bM:Tidy h) (az:Tidy hh) (aw:Has h hh) (gv:h.nx≤hh.nx):
 ∃hk,cA d (.fn 66) [.agg [ah,.map bH],.int .i64 ck] hh= .ret (.int .i64 (V known ck).1) hk∧Tidy hk∧hh.nx≤hk.nx∧Has h hk∧hk.get bH=some (tK (V known ck).2)∧(V known ck).2.length=knownN:=by
 subst Lh
 obtain ⟨hk,a,b,c,e,f⟩:=AK h hh ah known ck bH bU cj kr ly pq v5 bM az aw gv
 exact ⟨hk,a,b,c,e,f,oc⟩
def Eu:Code:=(Tryz.f131.body).getD .skip
theorem ZY:Tryz.f131.body=some Eu:=by kernel_rfl
def Sy:Code:=(bz Eu).getD 0 .skip
def iu (V:Mi→Int→Int×Mi) (ab:List Task) (ck:Int):Nat→Nat→Int→Mi→Int×Mi
 | 0,_,mE,ba=>(mE,ba)
 | c7+1,i0,mE,ba=>(bif (aY (ab.g i0).aq ck) then iu V ab ck c7 (i0+1) (imax mE (V ba ((i0:Nat):Int)).1) (V ba ((i0:Nat):Int)).2 else iu V ab ck c7 (i0+1) mE ba)
theorem zi {d:Nat} {h:ak} (ck:Int) (ah:AV) (ab:List Task) (R:Int→Prop) (lv:Nat) (V:Mi→Int→Int×Mi) (bh:Nat) (dg:Nat) (aO:aH h ah ab) (gM:0≤ck) (iS:ck<(ab.length:Int)) (rH:∀i:Nat,i<ab.length→aY (ab.g i).aq ck=true→R (i:Int)) (uR:LH lv ab R V) (Le:ab.length≤100000) (Lf:lv=d+2) (bM:Tidy h) (pT:bh≤bh) (yX:h.get dg=none) (oV:dg≠bh):∀(k_ i_:Nat) (mE:Int) (ba:Mi) (_:i_+k_=ab.length) (x:Nat→AV) (hh:ak) (az:Tidy hh) (aw:Has h hh) (gv:h.nx≤hh.nx) (ng:ba.length=0) (aM:hh.get bh=some (aK.cells [ah,(AV.map dg)] 81 false)) (cS:hh.get dg=some (tK ba)),bI (σ:=Int×Mi) (ρ:=Unit) (cA (d+2)) Sy ⟨((Zi ck)::(Pt bh)::(x 2)::(x 3)::(Zi mE)::rx x 5 3 (ah::(Zn ab.length)::(Zn i_)::rx x 11 22 [])),hh,[],.no⟩ (.exit 0) hh (fun r z y=>((Zi ck)::(Pt bh)::(y 2)::(y 3)::(Zi r.1)::rx y 5 3 (ah::(Zn ab.length)::rx y 10 23 []))) (fun r z y=>((Zi ck)::(Pt bh)::rx y 2 6 (ah::(Zn ab.length)::rx y 10 23 []))) (fun r z hk=>Has h hk∧hk.get bh=some (aK.cells [ah,(AV.map dg)] 81 false)∧hk.get dg=some (tK r.2)∧r.2.length=0) (fun r z hk=>Has h hk) (Sum.inl (iu V ab ck k_ i_ mE ba))
 | 0,i0,mE,ba,fK,x,hh,az,aw,gv,ng,aM,cS=>by
   have bY:=aO.small
   have jh:=az _ _ aM
   have Az:=az _ _ cS
   have Sz:=rH
   have q1:(decide (((i0:Nat):Int)<((ab.length:Nat):Int)))=false:=d!
   exact bI.out (mE,ba) AV.undef rfl (pk (d+2) _ _ hh _ hh (VV (aQ 3 false false .i64 ((i0:Nat):Int) ((ab.length:Nat):Int))<|BB q1<|ZZ) k!) az o! ⟨aw,aM,cS,l!⟩ k!
 | c7+1,i0,mE,ba,fK,x,hh,az,aw,gv,ng,aM,cS=>by
   have bY:=aO.small
   have jh:=az _ _ aM
   have Az:=az _ _ cS
   have Sz:=rH
   have q1:(decide (((i0:Nat):Int)<((ab.length:Nat):Int)))=true:=d!
   obtain ⟨p3,q4,eb⟩:=aO.elem (i:=i0) o!
   have jE:b_ env (some (.slice 48)) (some ah) (some (Zn i0))=some (AV.ptr p3 q4):=eb
   have jK:bm env hh 48 (AV.ptr p3 q4)=some (AV.agg [(AV.str (ab.g i0).name),(Zi (ab.g i0).aL),(ab.g i0).aG,(ab.g i0).bq]):=(aO.has aw).load o! eb
   obtain ⟨h6,oX,mD,IY,tC,kX⟩:=ik az (aK.cells [(AV.str []),(Zi 0),AV.aD,AV.aD] 48 false)
   have kW:Has h h6:=aw.trans kX
   have ZM:AV.scalar (ab.g i0).aG=true:=((aO.ok (i:=i0) o!).2.1).scalar
   have sc9:AV.scalar (ab.g i0).bq=true:=((aO.ok (i:=i0) o!).2.2).scalar
   obtain ⟨h7,mF,eP,xq,gT,hG⟩:=nJ (t:=48) (n:=4) (i:=hh.nx) (L:=[(AV.str (ab.g i0).name),(Zi (ab.g i0).aL),(ab.g i0).aG,(ab.g i0).bq]) mD tC k! rfl rfl (by simp only[AV.cells,List.all_cons,List.all_nil,Bool.and_true,Bool.and_self,fp,dV,fq,ft,db,iF,iG,iH,iI,iJ,fu,ZM,sc9])
   have er:Has h h7:=Has.cI kW hG bM o!
   have VJ:=mV (d:=d) (ab.g i0).aq ck ((aO.ok (i:=i0) o!).2.1.has er) eP
   rcases Bool.eq_false_or_eq_true (aY (ab.g i0).aq ck) with f1 | f1
   · obtain ⟨ab6,Z0,ac9,V7,V8,Ni⟩:=lW eP (hG _ _ o! (kX _ _ cS))
     have SA:Has h ab6:=fv er (by first | assumption | exact kg bM o!) Ni
     obtain ⟨oT,Cf,nf,MY,SB,V9,ada⟩:=aew (d:=d+2) (h:=ab6) (knownN:=0) ab ba ((i0:Nat):Int) V R lv (aO.has SA) (hG _ _ o! (kX _ _ cS)) (mR _) V7 (by first | omega | assumption | exact Sz _ o! (by assumption) | rfl) (by first | omega | assumption | exact Sz _ o! (by assumption) | rfl) (by first | omega | assumption | exact Sz _ o! (by assumption) | rfl) (by first | omega | assumption | exact Sz _ o! (by assumption) | rfl) (by first | omega | assumption | exact Sz _ o! (by assumption) | rfl) Z0 eP V8 o!
     have lD:Has h oT:=(SA.trans SB)
     have Ub:=ew 3 false true i0 1 o!
     exact bI.round (congrArg Sum.inl (by simp only[iu,f1,aj,af])) (pk (d+2) _ _ hh _ oT (VV (aQ 3 false false .i64 ((i0:Nat):Int) ((ab.length:Nat):Int))<|BC q1<|VV jE<|MM jK<|NN oX (fun i=>(Pt i))<|CC<|SS mF<|CC<|MM (ao 26 2 (ab.g i0).aG gT k!)<|CC<|EE VJ<|BC f1<|MM (ao 81 0 (AV.agg [ah,(AV.map dg)]) (hG _ _ o! (kX _ _ aM)) k!)<|CC<|EE Cf<|CN 2<|VV Ub<|CC<|ZZ) k!) o! _ k! (fun x=>zi ck ah ab R lv V bh dg aO gM iS rH uR Le Lf bM pT yX oV c7 (i0+1) (imax mE (V ba ((i0:Nat):Int)).1) (V ba ((i0:Nat):Int)).2 o! x oT nf lD o! l! (SB _ _ ((Ni _ o!).trans (hG _ _ o! (kX _ _ aM)))) V9)
   · have OI:=ew 3 false true i0 1 o!
     exact bI.round (congrArg Sum.inl (by simp only[iu,f1,aj,af])) (pk (d+2) _ _ hh _ h7 (VV (aQ 3 false false .i64 ((i0:Nat):Int) ((ab.length:Nat):Int))<|BC q1<|VV jE<|MM jK<|NN oX (fun i=>(Pt i))<|CC<|SS mF<|CC<|MM (ao 26 2 (ab.g i0).aG gT k!)<|CC<|EE VJ<|BV f1 OI<|CC<|ZZ) k!) o! _ k! (fun x=>zi ck ah ab R lv V bh dg aO gM iS rH uR Le Lf bM pT yX oV c7 (i0+1) mE ba o! x h7 eP er o! l! (hG _ _ o! (kX _ _ aM)) (hG _ _ o! (kX _ _ cS)))
def rK (ck:Int) (ab:List Task) (known:Mi) (V:Mi→Int→Int×Mi):Int×Mi:=((IntKind.i64.wrap (((ab.g ck.toNat).aL)+((iu V ab ck ab.length 0 0 known).1))),(iu V ab ck ab.length 0 0 known).2)
theorem Z1 {d:Nat} {h hh:ak} {ah:AV} {bH knownN:Nat} (ck:Int) (cB:Nat) (ab:List Task) (known:Mi) (V:Mi→Int→Int×Mi) (R:Int→Prop) (lv:Nat) (g_c:h.get cB=some (aK.cells [ah,(AV.map bH)] 81 false)) (bU:aH h ah ab) (cj:hh.get bH=some (tK known)) (oc:known.length=knownN) (kr:h.get bH=none) (ly:0≤ck) (pq:ck<(ab.length:Int)) (v5:∀i:Nat,i<ab.length→aY (ab.g i).aq ck=true→R (i:Int)) (AK:LH lv ab R V) (Lh:ab.length≤100000) (Z2:lv=d+2) (bM:Tidy h) (az:Tidy hh) (aw:Has h hh) (gv:h.nx≤hh.nx):∃hk,cA (d+3) (.fn 131) [(Zi ck),(Pt cB)] hh= .ret (Zi (rK ck ab known V).1) hk∧Tidy hk∧hh.nx≤hk.nx∧Has h hk∧hk.get bH=some (tK (rK ck ab known V).2)∧((rK ck ab known V).2).length=knownN:=by
 have lE:=bU.small
 have xR:=az _ _ cj
 have T_c:=bM _ _ g_c
 have afX:bH≠cB:=fun e=>by rw[e,g_c] at kr;cases kr
 have dx:bJ (some (.slice 48)) (some ah)=some (Zn ab.length):=bU.len
 obtain ⟨zo4,Eo,h3,cW,j0,oU,se,Lj,CA,Lk⟩:=bI.n rfl (zi (d:=d) (h:=h) ck ah ab R lv V cB bH bU o! o! (by assumption) (by assumption) o! o! bM o! (by first | assumption | exact kg bM o!) o! ab.length 0 0 known o! (fun k_=>(((Zi ck)::(Pt cB)::AV.undef::(Zi 0)::(Zi 0)::AV.undef::AV.undef::(Pt cB)::ah::(Zn ab.length)::(Zi 0)::gB 22):List AV).getD k_ AV.undef) hh az aw o! l! (aw _ _ g_c) cj)
 have fB:Has h h3:=se
 obtain ⟨p6,q7,IN⟩:=bU.elem (i:=ck.toNat) o!
 have R4:b_ env (some (.slice 48)) (some ah) (some (Zi ck))=some (AV.ptr p6 q7):=by rw[show (ck:Int)=((ck.toNat:Nat):Int) by omega];exact IN
 have XA:bm env h3 3 (AV.ptr p6 (q7+1))=some (Zi (ab.g ck.toNat).aL):=(bU.has fB).part (t:=3) (j:=1) o! IN k! rfl
 have e:rK ck ab known V=((IntKind.i64.wrap (((ab.g ck.toNat).aL)+((iu V ab ck ab.length 0 0 known).1))),(iu V ab ck ab.length 0 0 known).2):=by simp only[rK,aj,af]
 rw[e]
 exact lB rfl (aR Tryz.func131 ZY rfl (.inr rfl) (pk (d+2) _ _ hh _ h3 (CN 3<|MM (ao 22 0 ah (aw _ _ g_c) k!)<|VV dx<|CC<|LL cW<|CC<|MM (ao 22 0 ah Lj k!)<|CC<|VV R4<|CC<|MM XA<|CN 3<|ZZ) k!) k!) az j0 o! ⟨fB,CA,l!⟩ (fun q=>⟨aw,lV q cj CA,l!⟩)
end
end Go.Proofs.aE
