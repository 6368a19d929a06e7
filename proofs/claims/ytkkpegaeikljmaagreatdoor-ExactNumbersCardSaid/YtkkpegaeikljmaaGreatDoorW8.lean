import Derived.Test.YtkkpegaeikljmaaGreatDoorA6
import Derived.Test.YtkkpegaeikljmaaGreatDoorW0
import Derived.Test.YtkkpegaeikljmaaGreatDoorEnv
import Derived.Test.YtkkpegaeikljmaaGreatDoorW7
namespace Go.Proofs.aF
open Go.Proofs Ab
set_option maxRecDepth 100000
set_option maxHeartbeats 4000000
set_option linter.unusedVariables false
set_option linter.unusedSimpArgs false
noncomputable def yE:Code:=(Tryz.f49.body).getD .skip
theorem Sq:Tryz.f49.body=some yE:=by kernel_rfl
theorem aam {d:Nat} {h0 h:ah} {p:Nat} {m b:Bool} {ws:List Nat} {v:Nat} (z:acL h0 h p m ws) (w:Words ws) (hv:ay ws=v) (aw:Tidy h):
 ∃hk cs,aQ (d+2) (.fn 84) [.ptr p 0,.bool b] h= .ret (.tuple []) hk∧Tidy hk∧h.nx≤hk.nx∧Kept p h hk∧hk.get p=some (.cells cs 60 false)∧p<h0.nx∧gY h0 hk cs (b&&decide (v≠0)) (aq v):=by
 obtain ⟨hk,k1,k2,k3,k4,cs,k5,k6,k7⟩:=Y3 (d:=d) (b:=b) z aw
 have:decide (bR ws≠ [])=decide (v≠0):=by
  rw[iC w,hv]
  by_cases q:v=0
  · rw[q,cO];rfl
  · rw[decide_eq_true q,decide_eq_true];exact fun e=>q (dZ.1 e)
 rw[this,iC w,hv] at k7
 exact ⟨hk,cs,k1,k2,k3,k4,k5,k6,k7⟩
def IV (hb h0 h:ah) (cs:List AV) (m:Bool) (ws:List Nat):Prop:=cj hb cs m ws∨gY h0 h cs m ws
theorem IV.kept {hb h0 h h':ah} {cs:List AV} {m:Bool} {ws:List Nat} {b:Nat} (z:IV hb h0 h cs m ws) (k:Kept b h h') (h1:b<h0.nx) (hn:h.nx≤h'.nx):IV hb h0 h' cs m ws:=z.imp id fun z=>z.kept k h1 hn
theorem IV.grow {hb h0 h h':ah} {cs:List AV} {m:Bool} {ws:List Nat} (z:IV hb h0 h cs m ws) (g:Has h h') (hn:h.nx≤h'.nx):IV hb h0 h' cs m ws:=z.imp id fun z=>z.grow g hn
theorem IV.whole {hb h0 h:ah} {cs:List AV} {m:Bool} {ws:List Nat} (z:IV hb h0 h cs m ws) (a:Has hb h) (hn:hb.nx≤h.nx):cj h cs m ws:=z.elim (fun w=>w.has a hn) fun z=>z.whole
theorem IV.old {hb h0 h:ah} {cs:List AV} {m:Bool} {ws:List Nat} (z:IV hb h0 h cs m ws) (hn:hb.nx≤h0.nx) (hv:AV.within hb.nx 20 (.agg cs)=true):cj hb cs m ws:=z.elim id fun z=>z.old hn hv
theorem gp {n:Nat} {a b:List AV} (h:AV.within n 20 (.agg (a++b))=true):AV.within n 20 (.agg a)=true∧AV.within n 20 (.agg b)=true:=by
 simp only[AV.within,List.all_append,Bool.and_eq_true] at h ⊢
 exact h
def zj (h:ah) (cs:List AV) (m:Bool) (T B:Nat):Prop:=∃c1 c2,cs=c1++c2∧cj h c1 m (aq T)∧cj h c2 false (aq B)
theorem aan {d:Nat} {h:ah} {csx csy:List AV} {nx nd:Bool} {X D:Nat} (hx:cj h csx nx (aq X)) (hy:cj h csy nd (aq D)) (hlx:(aq X).length<134217728) (W6:(aq D).length<134217728) (o8:D≠0) (hz:X=0→nx=false) (aw:Tidy h):
 ∃cs hk,aQ (d+8) (.fn 49) [.agg csx,.agg csy] h= .ret (.agg cs) hk∧Grow h hk∧cj hk cs ((nx !=nd)&&decide (X/D≠0)) (aq (X/D))∧((cs=csx∧X/D=X)∨gY h hk cs ((nx !=nd)&&decide (X/D≠0)) (aq (X/D))):=by
 obtain ⟨du,dx,dy,dz,kH,aW,rfl,scx,wfx,hcx⟩:=id hx
 obtain ⟨lN,lO,lP,lS,lT,dG,rfl,scy,wfy,hcy⟩:=id hy
 obtain ⟨ra,xV,ora⟩:=Hj (d:=d+6) (p:=h.nx) hx
 obtain ⟨rb,CU,orb⟩:=Hj (d:=d+6) (p:=h.nx+1) hy
 obtain ⟨io,L1⟩:∃io,io=(!nd&&decide (aq D=[1])):=⟨_,rfl⟩
 have hDp:0<D:=Nat.pos_of_ne_zero o8
 have hle:=bG (Nat.div_le_self X D)
 rcases Bool.eq_false_or_eq_true io with e1 | e1
 · have agv:=L1
   rw[e1] at agv
   simp only[Bool.true_eq,Bool.and_eq_true,Bool.not_eq_true',decide_eq_true_eq] at agv
   obtain ⟨oV,hD⟩:=agv
   have D1:D=1:=by have:=cd D;rw[hD] at this;simpa [ay] using this.symm
   have es:((nx !=nd)&&decide (X/D≠0))=nx:=by
    rw[oV,D1,Nat.div_one]
    by_cases q:X=0
    · rw[hz q];rfl
    · rw[decide_eq_true q];simp
   rw[es,D1,Nat.div_one]
   obtain ⟨h1,aO,aK,bm,aC,ck⟩:=de aw (ar.cells (au nx du dx dy dz aW kH) 60 false)
   have aD:Has h h1:=ck
   obtain ⟨h2,bD,bP,iA,bB,b8⟩:=de aK (ar.cells (au nd lN lO lP lS dG lT) 60 false)
   have b7:=aD.trans b8
   obtain ⟨h3,gn,bt,ky,eb,bC⟩:=de bP (ar.cells (au false 0 0 0 0 bE 0) 60 false)
   have aX:=b7.trans bC
   have JG:=jw (d:=d+5) (hy.has aX o!) bt (Nat.zero_le _)
   rw[←L1] at JG
   have q4:io=true:=q!
   have sc6:AV.scalar aW=true:=scx
   obtain ⟨h5,pz,fA,wM,lu,iO⟩:=b9 (t:=60) (n:=7) (i:=h2.nx) (L:=(au nx du dx dy dz aW kH)) bt eb k! rfl rfl z!
   have ep:=Has.ak aX iO aw o!
   have ev:=pk (d+7) yE ((AV.agg (au nx du dx dy dz aW kH))::(AV.agg (au nd lN lO lP lS dG lT))::aV 47) h .ret h5 (NN aO (fun i=>(AV.ptr i 0))<|NN bD (fun i=>(AV.ptr i 0))<|NN gn (fun i=>(AV.ptr i 0))<|MM (aJ 60 0 (AV.agg (au nd lN lO lP lS dG lT)) (bC _ _ bB) k!)<|EE JG<|BB q4<|MM (aJ 60 0 (AV.agg (au nx du dx dy dz aW kH)) (bC _ _ (b8 _ _ aC)) k!)<|SS pz<|ZZ) k!
   have wp:=(hx.has ep o!)
   obtain ⟨hk,k1,k2,k3⟩:=aU rfl (bn (a:=4) (t:=60) Tryz.func49 Sq k! (.inr rfl) ev k! (aN lu k!)) aw ⟨fA,ep,by omega⟩ (P:=fun hh=>cj hh _ _ _) wp fun _=>hx
   exact ⟨_,hk,k1,k2,k3,.inl ⟨rfl,rfl⟩⟩
 · by_cases hb:(aq D).length=1
   · have oO:D<18446744073709551616:=by have:=nJ D;rw[hb] at this;exact this
     have eD:(aq D).getD 0 0=D:=by rw[eK o8 oO];rfl
     obtain ⟨h1,aO,aK,bm,aC,ck⟩:=de aw (ar.cells (au nx du dx dy dz aW kH) 60 false)
     have aD:Has h h1:=ck
     obtain ⟨h2,bD,bP,iA,bB,b8⟩:=de aK (ar.cells (au nd lN lO lP lS dG lT) 60 false)
     have b7:=aD.trans b8
     obtain ⟨h3,gn,bt,ky,eb,bC⟩:=de bP (ar.cells (au false 0 0 0 0 bE 0) 60 false)
     have aX:=b7.trans bC
     have JG:=jw (d:=d+5) (hy.has aX o!) bt (Nat.zero_le _)
     rw[←L1] at JG
     have q4:io=false:=q!
     have q5:=dg ((((aq D).length:Nat):Int)=1)
     obtain ⟨h6,uY,dh,wP,j9,gT⟩:=de bt (ar.cells (au false 0 0 0 0 bE 0) 60 false)
     have dK:=aX.trans gT
     obtain ⟨p7,q8,agw,_⟩:=((CU _ _ _ _ bm dK (gT _ _ (bC _ _ bB))).2).elem (fK (show 0<(aq D).length by omega))
     have Sb:bq env (some (.slice 54)) (some rb) (some (af 0))=some (AV.ptr p7 q8):=agw
     have E1:bk env h6 54 (AV.ptr p7 q8)=some (ae ((aq D).getD 0 0)):=((CU _ _ _ _ bm dK (gT _ _ (bC _ _ bB))).2).KE (fK (show 0<(aq D).length by omega)) agw
     rw[eD] at E1
     obtain ⟨zr,ki,j0,cS,B7,Du,N2⟩:=RO (d:=d+5) (n:=(aq X).length) j9 dh o!
     have cP:=Has.ak dK Du aw o!
     obtain ⟨q,oo,C,f,T2,hq,fill⟩:=N2.T2 o! o! cS
     obtain ⟨sZ,nA,vt,vr⟩:=pG (d:=d+3) (z:=zr) (a:=ra) (l:=aq X) (e:=D) T2 (Nat.le_refl _) (xV _ _ _ _ rfl cP (Du _ _ o! (gT _ _ (bC _ _ (b8 _ _ aC))))).2 (ora _ o! o!) (bH X) hDp oO cS (Nat.zero_le _)
     have dH:=vt.1
     have zh:=fill sZ _ vt (Le _)
     have dV:Has h sZ:=vt.has cP aw o!
     obtain ⟨tG,cs_,lU,fl,Er,aao,agx,hp_,zv⟩:=aam (d:=d+5) (b:=(nx !=nd)) (v:=X/D) zh (Dn (bH X) hDp oO _) (by rw[(Fl hDp).1,cd]) dH
     obtain ⟨w0,w1,w2,w3,far,rfl,sc,hc,hf⟩:=id zv
     have gu:=Has.ak dV aao aw o!
     have V9:AV.scalar far=true:=sc
     obtain ⟨pP,jc,dS,oZ,fE,ff⟩:=b9 (t:=60) (n:=7) (i:=h2.nx) (L:=(bz ((nx !=nd)&&decide (X/D≠0)) w0 w1 w2 w3 far ((aq (X/D)).length))) fl (aao _ _ o! (vt.2.2 _ _ o! (Du _ _ o! (gT _ _ eb)))) k! rfl rfl z!
     have fm:=Has.ak gu ff aw o!
     have ev:=pk (d+7) yE ((AV.agg (au nx du dx dy dz aW kH))::(AV.agg (au nd lN lO lP lS dG lT))::aV 47) h .ret pP (NN aO (fun i=>(AV.ptr i 0))<|NN bD (fun i=>(AV.ptr i 0))<|NN gn (fun i=>(AV.ptr i 0))<|MM (aJ 60 0 (AV.agg (au nd lN lO lP lS dG lT)) (bC _ _ bB) k!)<|EE JG<|BB q4<|CC<|EE (show (aQ (d+7)) (.fn 79) [(AV.ptr h.nx 1)] h3= .ret ra h3 from (xV _ _ _ _ rfl aX (bC _ _ (b8 _ _ aC))).1)<|CC<|EE (show (aQ (d+7)) (.fn 79) [(AV.ptr h1.nx 1)] h3= .ret rb h3 from (CU _ _ _ _ bm aX (bC _ _ bB)).1)<|CN 3<|VV ((CU _ _ _ _ bm aX (bC _ _ bB)).2).len<|VV (bQ 3 false true .i64 (((aq D).length:Nat):Int) 1)<|BB q5<|NN uY (fun i=>(AV.ptr i 0))<|CN 2<|VV ((xV _ _ _ _ rfl dK (gT _ _ (bC _ _ (b8 _ _ aC)))).2).len<|CN 2<|VV Sb<|MM E1<|EE j0<|EE nA<|HH E1<|HH (show AV.same 20 (ae D) (ae D)=true from aP 19 _ _)<|HH (show bk env ki 54 (AV.ptr p7 q8)=some (ae D) from (by have q_:=((CU _ _ _ _ bm cP (Du _ _ o! (gT _ _ (bC _ _ bB)))).2).KE (fK (show 0<(aq D).length by omega)) agw;rw[eD] at q_;exact q_))<|HH (show AV.same 20 (ae D) (ae D)=true from aP 19 _ _)<|CC<|MM (aJ 4 0 (aj nx) (vt.2.2 _ _ o! (Du _ _ o! (gT _ _ (bC _ _ (b8 _ _ aC))))) k!)<|CC<|MM (aJ 4 0 (aj nd) (vt.2.2 _ _ o! (Du _ _ o! (gT _ _ (bC _ _ bB)))) k!)<|CC<|EE lU<|MM (aJ 60 0 (AV.agg (bz ((nx !=nd)&&decide (X/D≠0)) w0 w1 w2 w3 far ((aq (X/D)).length))) agx k!)<|SS jc<|ZZ) k!
     have GB:=(zv.kept ff o! o!)
     obtain ⟨hk,k1,k2,k3⟩:=aU rfl (bn (a:=4) (t:=60) Tryz.func49 Sq k! (.inr rfl) ev k! (aN fE k!)) aw ⟨dS,fm,by omega⟩ (P:=fun hh=>gY h hh _ _ _) (GB.mono o!) fun v=>(GB.mono o!).fit (Nat.le_refl _) v
     exact ⟨_,hk,k1,k2,k3.whole,.inr k3⟩
   · obtain ⟨h1,aO,aK,bm,aC,ck⟩:=de aw (ar.cells (au nx du dx dy dz aW kH) 60 false)
     have aD:Has h h1:=ck
     obtain ⟨h2,bD,bP,iA,bB,b8⟩:=de aK (ar.cells (au nd lN lO lP lS dG lT) 60 false)
     have b7:=aD.trans b8
     obtain ⟨h3,gn,bt,ky,eb,bC⟩:=de bP (ar.cells (au false 0 0 0 0 bE 0) 60 false)
     have aX:=b7.trans bC
     have JG:=jw (d:=d+5) (hy.has aX o!) bt (Nat.zero_le _)
     rw[←L1] at JG
     have q4:io=false:=q!
     have q5:=cI ((((aq D).length:Nat):Int)=1)
     obtain ⟨qq,q2,h6,vL,jm,oq,_⟩:=xb (d:=d) (xV _ _ _ _ rfl aX (bC _ _ (b8 _ _ aC))).2 (CU _ _ _ _ bm aX (bC _ _ bB)).2 o8 o! bt
     have dh:=jm.y
     have GG:=jm.n
     have nq:=oq.aA o!
     have dK:=aX.trans jm.a
     obtain ⟨cs,h7,ml,oM,zv⟩:=Js (d:=d+4) (b:=(nx !=nd)) (v:=X/D) nq (bH _) (cd _) dh o!
     have eC:=oM.y
     have IA:=oM.n
     obtain ⟨w0,w1,w2,w3,far,rfl,sc,hc,hf⟩:=id zv
     have eJ:=dK.trans oM.a
     have sc9:AV.scalar far=true:=sc
     obtain ⟨h8,sW,eQ,BE,nI,gQ⟩:=b9 (t:=60) (n:=7) (i:=h2.nx) (L:=(bz ((nx !=nd)&&decide (X/D≠0)) w0 w1 w2 w3 far ((aq (X/D)).length))) eC (oM.a _ _ (jm.a _ _ eb)) k! rfl rfl z!
     have jl:=Has.ak eJ gQ aw o!
     have ev:=pk (d+7) yE ((AV.agg (au nx du dx dy dz aW kH))::(AV.agg (au nd lN lO lP lS dG lT))::aV 47) h .ret h8 (NN aO (fun i=>(AV.ptr i 0))<|NN bD (fun i=>(AV.ptr i 0))<|NN gn (fun i=>(AV.ptr i 0))<|MM (aJ 60 0 (AV.agg (au nd lN lO lP lS dG lT)) (bC _ _ bB) k!)<|EE JG<|BB q4<|CC<|EE (show (aQ (d+7)) (.fn 79) [(AV.ptr h.nx 1)] h3= .ret ra h3 from (xV _ _ _ _ rfl aX (bC _ _ (b8 _ _ aC))).1)<|CC<|EE (show (aQ (d+7)) (.fn 79) [(AV.ptr h1.nx 1)] h3= .ret rb h3 from (CU _ _ _ _ bm aX (bC _ _ bB)).1)<|CN 3<|VV ((CU _ _ _ _ bm aX (bC _ _ bB)).2).len<|VV (bQ 3 false true .i64 (((aq D).length:Nat):Int) 1)<|BB q5<|CN 2<|EE vL<|CN 6<|MM (aJ 4 0 (aj nx) (jm.a _ _ (bC _ _ (b8 _ _ aC))) k!)<|CC<|MM (aJ 4 0 (aj nd) (jm.a _ _ (bC _ _ bB)) k!)<|CN 2<|EE ml<|SS sW<|ZZ) k!
     have GB:=(zv.kept gQ o! o!)
     obtain ⟨hk,k1,k2,k3⟩:=aU rfl (bn (a:=4) (t:=60) Tryz.func49 Sq k! (.inr rfl) ev k! (aN nI k!)) aw ⟨eQ,jl,by omega⟩ (P:=fun hh=>gY h hh _ _ _) (GB.mono o!) fun v=>(GB.mono o!).fit (Nat.le_refl _) v
     exact ⟨_,hk,k1,k2,k3.whole,.inr k3⟩
noncomputable def pJ:Code:=(Tryz.f23.body).getD .skip
theorem Dv:Tryz.f23.body=some pJ:=by kernel_rfl
theorem zj.mk {h:ah} {cs c1 c2:List AV} {m:Bool} {T B:Nat} (w1:cj h c1 m (aq T)) (w2:cj h c2 false (aq B)) (e:cs=c1++c2):zj h cs m T B:=⟨c1,c2,e,w1,w2⟩
theorem Hk {h:ah} {w0 w1 w2 w3 us:Int} {m:Bool} {far:AV}:AV.within h.nx 20 (.agg [.bool m,.int .u64 w0,.int .u64 w1,.int .u64 w2,.int .u64 w3,far,.int .i64 us])=AV.within h.nx 19 far:=by
 show (List.all [_,_,_,_,_,far,_] (AV.within h.nx 19))=_
 simp only[List.all_cons,List.all_nil,AV.within,Bool.and_true,Bool.true_and]
theorem cj.same {h:ah} {cs:List AV} {m:Bool} {l:List Nat} (w:cj h cs m l):AV.same 20 (.agg cs) (.agg cs)=true:=by
 obtain ⟨w0,w1,w2,w3,us,far,rfl,sc,wf,h5,hc⟩:=w
 rcases hc with ⟨h4,_⟩ | ⟨q,oo,n,c,b,l',h4,_⟩
 · obtain rfl:far= .ax:=by simpa using h4
   simp [AV.same,dL]
 · obtain rfl:far= .slice q oo n c b:=by simpa using h4
   simp [AV.same,dL]
theorem lZ {d:Nat} {h:ah} {cst csb:List AV} {m:Bool} {X D:Nat} (hx:cj h cst m (aq X)) (hy:cj h csb false (aq D)) (hlx:(aq X).length<134217728) (W6:(aq D).length<134217728) (o8:D≠0) (hz:X=0→m=false) (aw:Tidy h):
 ∃cs hk,aQ (d+10) (.fn 23) [.agg cst,.agg csb] h= .ret (.agg cs) hk∧Grow h hk∧zj hk cs m (X/Nat.gcd X D) (D/Nat.gcd X D):=by
 have hDp:0<D:=Nat.pos_of_ne_zero o8
 have uR:Nat.gcd X D≠0:=fun e=>o8 (Nat.eq_zero_of_gcd_eq_zero_right e)
 have hlg:(aq (Nat.gcd X D)).length<134217728:=Nat.lt_of_le_of_lt (bG (Nat.gcd_le_right X hDp)) W6
 have esa:((m !=false)&&decide (X/Nat.gcd X D≠0))=m:=by
  by_cases q:X=0
  · rw[hz q];rfl
  · have:X/Nat.gcd X D≠0:=by
     have:=Nat.div_pos (Nat.le_of_dvd (Nat.pos_of_ne_zero q) (Nat.gcd_dvd_left X D)) (Nat.pos_of_ne_zero uR)
     omega
    rw[decide_eq_true this];simp
 have esb:((false !=false)&&decide (D/Nat.gcd X D≠0))=false:=rfl
 obtain ⟨du,dx,dy,dz,kH,aW,rfl,scx,wfx,hcx⟩:=id hx
 obtain ⟨lN,lO,lP,lS,lT,dG,rfl,scy,wfy,hcy⟩:=id hy
 obtain ⟨i1,hi1⟩:∃i1,i1=(!false&&decide (aq D=[1])):=⟨_,rfl⟩
 obtain ⟨i2,hi2⟩:∃i2,i2=(!false&&decide (aq (Nat.gcd X D)=[1])):=⟨_,rfl⟩
 have one:∀n,aq n=[1]→n=1:=fun n e=>by have:=cd n;rw[e] at this;simpa [ay] using this.symm
 rcases Bool.eq_false_or_eq_true i1 with e1 | e1
 · have D1:D=1:=one D (by rw[e1] at hi1;simpa using hi1.symm)
   have g1:Nat.gcd X D=1:=by rw[D1,Nat.gcd_one_right]
   rw[g1,Nat.div_one,Nat.div_one]
   obtain ⟨h1,aO,aK,bm,aC,ck⟩:=de aw (ar.cells (au m du dx dy dz aW kH) 60 false)
   have aD:Has h h1:=ck
   obtain ⟨h2,bD,bP,iA,bB,b8⟩:=de aK (ar.cells (au false lN lO lP lS dG lT) 60 false)
   have b7:=aD.trans b8
   obtain ⟨h3,gn,bt,ky,eb,bC⟩:=de bP (ar.cells [(aj false),(aa 0),(aa 0),(aa 0),(aa 0),bE,(af 0),(aj false),(aa 0),(aa 0),(aa 0),(aa 0),bE,(af 0)] 66 false)
   have aX:=b7.trans bC
   have ki1:=jw (d:=d+7) (hy.has aX o!) bt (Nat.zero_le _)
   rw[←hi1] at ki1
   have q4:i1=true:=q!
   have sc6:AV.scalar aW=true:=scx
   have sc7:AV.scalar dG=true:=scy
   obtain ⟨h5,pz,fA,wM,lu,iO⟩:=b9 (t:=66) (n:=14) (i:=h2.nx) (L:=[(aj m),(aa du),(aa dx),(aa dy),(aa dz),aW,(af kH),(aj false),(aa lN),(aa lO),(aa lP),(aa lS),dG,(af lT)]) bt eb k! rfl rfl z!
   have ep:=Has.ak aX iO aw o!
   have ev:=pk (d+9) pJ ((AV.agg (au m du dx dy dz aW kH))::(AV.agg (au false lN lO lP lS dG lT))::aV 24) h .ret h5 (NN aO (fun i=>(AV.ptr i 0))<|NN bD (fun i=>(AV.ptr i 0))<|NN gn (fun i=>(AV.ptr i 0))<|MM (aJ 60 0 (AV.agg (au false lN lO lP lS dG lT)) (bC _ _ bB) k!)<|EE ki1<|BB q4<|MM (aJ 60 0 (AV.agg (au m du dx dy dz aW kH)) (bC _ _ (b8 _ _ aC)) k!)<|MM (aJ 60 0 (AV.agg (au false lN lO lP lS dG lT)) (bC _ _ bB) k!)<|CC<|SS pz<|ZZ) k!
   have wp:zj h5 _ _ _ _:=zj.mk (hx.has ep o!) (hy.has ep o!) rfl
   exact ⟨_,aU rfl (bn (a:=4) (t:=66) Tryz.func23 Dv k! (.inr rfl) ev k! (aN lu k!)) aw ⟨fA,ep,by omega⟩ (P:=fun hh=>zj hh _ _ _ _) wp fun _=>zj.mk hx hy rfl⟩
 · rcases Bool.eq_false_or_eq_true i2 with e2 | e2
   · have e3:(!i2)=false:=by rw[e2];rfl
     have g1:Nat.gcd X D=1:=one _ (by rw[e2] at hi2;simpa using hi2.symm)
     rw[show X/Nat.gcd X D=X by rw[g1,Nat.div_one],show D/Nat.gcd X D=D by rw[g1,Nat.div_one]]
     obtain ⟨h1,aO,aK,bm,aC,ck⟩:=de aw (ar.cells (au m du dx dy dz aW kH) 60 false)
     have aD:Has h h1:=ck
     obtain ⟨h2,bD,bP,iA,bB,b8⟩:=de aK (ar.cells (au false lN lO lP lS dG lT) 60 false)
     have b7:=aD.trans b8
     obtain ⟨h3,gn,bt,ky,eb,bC⟩:=de bP (ar.cells [(aj false),(aa 0),(aa 0),(aa 0),(aa 0),bE,(af 0),(aj false),(aa 0),(aa 0),(aa 0),(aa 0),bE,(af 0)] 66 false)
     have aX:=b7.trans bC
     have ki1:=jw (d:=d+7) (hy.has aX o!) bt (Nat.zero_le _)
     rw[←hi1] at ki1
     have q4:i1=false:=q!
     obtain ⟨cg,h5,pD,g_,wg⟩:=B6 (d:=d) (hx.has aX o!) (hy.has aX o!) hlx W6 bt
     have fA:=g_.y
     have V7:=g_.n
     obtain ⟨Qr,Qs,Qu,Qv,Qw,vM,rfl,gsc,gwf,gc⟩:=id wg
     have ep:=aX.trans g_.a
     obtain ⟨h6,uY,dh,wP,j9,gT⟩:=de fA (ar.cells (au false 0 0 0 0 bE 0) 60 false)
     have dK:=ep.trans gT
     have sm:Has h5 h6:=gT
     have sc8:AV.scalar vM=true:=gsc
     obtain ⟨h7,AF,eC,EV,rN,iQ⟩:=b9 (t:=60) (n:=7) (i:=h5.nx) (L:=(au false Qr Qs Qu Qv vM Qw)) dh j9 k! rfl rfl z!
     have eJ:=Has.ak dK iQ aw o!
     have so:=Has.ak sm iQ fA o!
     have ki2:=jw (d:=d+7) (wg.has so o!) eC (Nat.zero_le _)
     rw[←hi2] at ki2
     have q9:(!i2)=false:=q!
     have alJ:AV.scalar aW=true:=scx
     have adb:AV.scalar dG=true:=scy
     obtain ⟨lx,qD,dE,wU,qH,oQ⟩:=b9 (t:=66) (n:=14) (i:=h2.nx) (L:=[(aj m),(aa du),(aa dx),(aa dy),(aa dz),aW,(af kH),(aj false),(aa lN),(aa lO),(aa lP),(aa lS),dG,(af lT)]) eC (iQ _ _ o! (gT _ _ (g_.a _ _ eb))) k! rfl rfl z!
     have dm:=Has.ak eJ oQ aw o!
     have ev:=pk (d+9) pJ ((AV.agg (au m du dx dy dz aW kH))::(AV.agg (au false lN lO lP lS dG lT))::aV 24) h .ret lx (NN aO (fun i=>(AV.ptr i 0))<|NN bD (fun i=>(AV.ptr i 0))<|NN gn (fun i=>(AV.ptr i 0))<|MM (aJ 60 0 (AV.agg (au false lN lO lP lS dG lT)) (bC _ _ bB) k!)<|EE ki1<|BB q4<|MM (aJ 60 0 (AV.agg (au m du dx dy dz aW kH)) (bC _ _ (b8 _ _ aC)) k!)<|MM (aJ 60 0 (AV.agg (au false lN lO lP lS dG lT)) (bC _ _ bB) k!)<|EE pD<|NN uY (fun i=>(AV.ptr i 0))<|SS AF<|MM (aJ 60 0 (AV.agg (au false Qr Qs Qu Qv vM Qw)) rN k!)<|EE ki2<|CC<|BB q9<|MM (aJ 60 0 (AV.agg (au m du dx dy dz aW kH)) (iQ _ _ o! (gT _ _ (g_.a _ _ (bC _ _ (b8 _ _ aC))))) k!)<|MM (aJ 60 0 (AV.agg (au false lN lO lP lS dG lT)) (iQ _ _ o! (gT _ _ (g_.a _ _ (bC _ _ bB)))) k!)<|CC<|SS qD<|ZZ) k!
     have wp:zj lx _ _ _ _:=zj.mk (hx.has dm o!) (hy.has dm o!) rfl
     exact ⟨_,aU rfl (bn (a:=4) (t:=66) Tryz.func23 Dv k! (.inr rfl) ev k! (aN qH k!)) aw ⟨dE,dm,by omega⟩ (P:=fun hh=>zj hh _ _ _ _) wp fun _=>zj.mk hx hy rfl⟩
   · have e3:(!i2)=true:=by rw[e2];rfl
     obtain ⟨h1,aO,aK,bm,aC,ck⟩:=de aw (ar.cells (au m du dx dy dz aW kH) 60 false)
     have aD:Has h h1:=ck
     obtain ⟨h2,bD,bP,iA,bB,b8⟩:=de aK (ar.cells (au false lN lO lP lS dG lT) 60 false)
     have b7:=aD.trans b8
     obtain ⟨h3,gn,bt,ky,eb,bC⟩:=de bP (ar.cells [(aj false),(aa 0),(aa 0),(aa 0),(aa 0),bE,(af 0),(aj false),(aa 0),(aa 0),(aa 0),(aa 0),bE,(af 0)] 66 false)
     have aX:=b7.trans bC
     have ki1:=jw (d:=d+7) (hy.has aX o!) bt (Nat.zero_le _)
     rw[←hi1] at ki1
     have q4:i1=false:=q!
     obtain ⟨cg,h5,pD,g_,wg⟩:=B6 (d:=d) (hx.has aX o!) (hy.has aX o!) hlx W6 bt
     have fA:=g_.y
     have V7:=g_.n
     obtain ⟨Qr,Qs,Qu,Qv,Qw,vM,rfl,gsc,gwf,gc⟩:=id wg
     have ep:=aX.trans g_.a
     obtain ⟨h6,uY,dh,wP,j9,gT⟩:=de fA (ar.cells (au false 0 0 0 0 bE 0) 60 false)
     have dK:=ep.trans gT
     have sm:Has h5 h6:=gT
     have sc8:AV.scalar vM=true:=gsc
     obtain ⟨h7,AF,eC,EV,rN,iQ⟩:=b9 (t:=60) (n:=7) (i:=h5.nx) (L:=(au false Qr Qs Qu Qv vM Qw)) dh j9 k! rfl rfl z!
     have eJ:=Has.ak dK iQ aw o!
     have so:=Has.ak sm iQ fA o!
     have ki2:=jw (d:=d+7) (wg.has so o!) eC (Nat.zero_le _)
     rw[←hi2] at ki2
     have q9:(!i2)=true:=q!
     obtain ⟨ca,lx,oh,cJ,wa,na⟩:=aan (d:=d+1) (hx.has eJ o!) (wg.has so o!) hlx hlg uR hz eC
     have dE:=cJ.y
     have Ep:=cJ.n
     rw[esa] at wa na
     have ia:IV h h7 lx ca m _:=na.imp (fun e=>by rw[e.1,e.2];exact hx) id
     obtain ⟨aw0,aw1,aw2,aw3,aus,ade,rfl,asc,awf,ac⟩:=id wa
     have dm:=eJ.trans cJ.a
     have Hl:=so.trans cJ.a
     obtain ⟨cb,ki,j0,cu,wb,nb⟩:=aan (d:=d+1) (hy.has dm o!) (wg.has Hl o!) W6 hlg uR (fun _=>rfl) dE
     have cS:=cu.y
     have B7:=cu.n
     rw[esb] at wb nb
     have ib:IV h lx ki cb false _:=nb.imp (fun e=>by rw[e.1,e.2];exact hy) id
     obtain ⟨qP,qQ,qR,qS,bus,fH,rfl,bsc,bwf,bc⟩:=id wb
     have cP:=dm.trans cu.a
     have aah:AV.scalar ade=true:=asc
     obtain ⟨sZ,qN,dH,vr,gS,fh⟩:=b9 (t:=60) (n:=7) (i:=h.nx) (L:=(au m aw0 aw1 aw2 aw3 ade aus)) cS (cu.a _ _ (cJ.a _ _ (iQ _ _ o! (gT _ _ (g_.a _ _ (bC _ _ (b8 _ _ aC))))))) k! rfl rfl z!
     have dV:=Has.ak cP fh aw o!
     have V9:AV.scalar fH=true:=bsc
     obtain ⟨pP,jc,dS,oZ,fE,ff⟩:=b9 (t:=60) (n:=7) (i:=h1.nx) (L:=(au false qP qQ qR qS fH bus)) dH (fh _ _ o! (cu.a _ _ (cJ.a _ _ (iQ _ _ o! (gT _ _ (g_.a _ _ (bC _ _ bB))))))) k! rfl rfl z!
     have fm:=Has.ak dV ff aw o!
     have c16:AV.same 20 (AV.agg (au m du dx dy dz aW kH)) (AV.agg (au m du dx dy dz aW kH))=true:=hx.same
     have RL:AV.same 20 (AV.agg (au false Qr Qs Qu Qv vM Qw)) (AV.agg (au false Qr Qs Qu Qv vM Qw))=true:=wg.same
     have c18:AV.same 20 (AV.agg (au false lN lO lP lS dG lT)) (AV.agg (au false lN lO lP lS dG lT))=true:=hy.same
     obtain ⟨Fo,BZ,tJ,Jz,xh,jn⟩:=b9 (t:=66) (n:=14) (i:=h2.nx) (L:=[(aj m),(aa aw0),(aa aw1),(aa aw2),(aa aw3),ade,(af aus),(aj false),(aa qP),(aa qQ),(aa qR),(aa qS),fH,(af bus)]) dS (ff _ _ o! (fh _ _ o! (cu.a _ _ (cJ.a _ _ (iQ _ _ o! (gT _ _ (g_.a _ _ eb))))))) k! rfl rfl z!
     have tK:=Has.ak fm jn aw o!
     have ev:=pk (d+9) pJ ((AV.agg (au m du dx dy dz aW kH))::(AV.agg (au false lN lO lP lS dG lT))::aV 24) h .ret Fo (NN aO (fun i=>(AV.ptr i 0))<|NN bD (fun i=>(AV.ptr i 0))<|NN gn (fun i=>(AV.ptr i 0))<|MM (aJ 60 0 (AV.agg (au false lN lO lP lS dG lT)) (bC _ _ bB) k!)<|EE ki1<|BB q4<|MM (aJ 60 0 (AV.agg (au m du dx dy dz aW kH)) (bC _ _ (b8 _ _ aC)) k!)<|MM (aJ 60 0 (AV.agg (au false lN lO lP lS dG lT)) (bC _ _ bB) k!)<|EE pD<|NN uY (fun i=>(AV.ptr i 0))<|SS AF<|MM (aJ 60 0 (AV.agg (au false Qr Qs Qu Qv vM Qw)) rN k!)<|EE ki2<|CC<|BB q9<|MM (aJ 60 0 (AV.agg (au m du dx dy dz aW kH)) (iQ _ _ o! (gT _ _ (g_.a _ _ (bC _ _ (b8 _ _ aC))))) k!)<|MM (aJ 60 0 (AV.agg (au false Qr Qs Qu Qv vM Qw)) rN k!)<|MM (aJ 60 0 (AV.agg (au false lN lO lP lS dG lT)) (iQ _ _ o! (gT _ _ (g_.a _ _ (bC _ _ bB)))) k!)<|MM (aJ 60 0 (AV.agg (au false Qr Qs Qu Qv vM Qw)) rN k!)<|EE oh<|EE j0<|SS qN<|SS jc<|HH (aJ 60 0 (AV.agg (au m du dx dy dz aW kH)) (iQ _ _ o! (gT _ _ (g_.a _ _ (bC _ _ (b8 _ _ aC))))) k!)<|HH c16<|HH (aJ 60 0 (AV.agg (au false Qr Qs Qu Qv vM Qw)) rN k!)<|HH RL<|HH (aJ 60 0 (AV.agg (au false lN lO lP lS dG lT)) (iQ _ _ o! (gT _ _ (g_.a _ _ (bC _ _ bB)))) k!)<|HH c18<|HH (aJ 60 0 (AV.agg (au false lN lO lP lS dG lT)) (cJ.a _ _ (iQ _ _ o! (gT _ _ (g_.a _ _ (bC _ _ bB))))) k!)<|HH c18<|HH (aJ 60 0 (AV.agg (au false Qr Qs Qu Qv vM Qw)) rN k!)<|HH RL<|HH (aJ 60 0 (AV.agg (au false Qr Qs Qu Qv vM Qw)) (cJ.a _ _ rN) k!)<|HH RL<|MM (aJ 60 0 (AV.agg (au m aw0 aw1 aw2 aw3 ade aus)) (ff _ _ o! gS) k!)<|MM (aJ 60 0 (AV.agg (au false qP qQ qR qS fH bus)) fE k!)<|CC<|SS BZ<|ZZ) k!
     have za:=((((ia.grow cu.a o!).kept fh o! o!).kept ff o! o!).kept jn o! o!)
     have zb:=(((ib.kept fh o! o!).kept ff o! o!).kept jn o! o!)
     have wp:zj Fo _ _ _ _:=zj.mk (za.whole tK o!) (zb.whole tK o!) rfl
     exact ⟨_,aU rfl (bn (a:=4) (t:=66) Tryz.func23 Dv k! (.inr rfl) ev k! (aN xh k!)) aw ⟨tJ,tK,by omega⟩ (P:=fun hh=>zj hh _ _ _ _) wp fun v=>zj.mk (za.old o! (gp v).1) (zb.old o! (gp v).2) rfl⟩
end Go.Proofs.aF
