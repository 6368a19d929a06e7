import Derived.Test.YtkkpegaeikljmaaGreatDoorA6
import Derived.Test.YtkkpegaeikljmaaGreatDoorW0
import Derived.Test.YtkkpegaeikljmaaGreatDoorEnv
import Derived.Test.YtkkpegaeikljmaaGreatDoorW6
namespace Go.Proofs.aF
open Go.Proofs Ab
set_option maxRecDepth 100000
set_option maxHeartbeats 4000000
set_option linter.unusedVariables false
set_option linter.unusedSimpArgs false
noncomputable def fY:Code:=(Tryz.f82.body).getD .skip
theorem nV:Tryz.f82.body=some fY:=by kernel_rfl
noncomputable def kZ:Code:=(aY fY).getD 0 .skip
def pa (h:ah) (p:Nat) (z:AV) (l:List Nat):Prop:=∃c op C,z= .slice p 0 l.length c op∧h.get p=some (.cells C 54 false)∧Holds .u64 C 0 l∧l.length≤c∧c≤C.length∧0<c
theorem pa.aA {h:ah} {p:Nat} {z:AV} {l:List Nat} (o:pa h p z l) (hl:l.length<2^60):ao env h .u64 54 z l:=by
 obtain ⟨c,op,C,rfl,hg,hC,h1,h2,h3⟩:=o
 exact ao.of k! k! hl h1 (fun _=>h3) hg hC
theorem pa.has {h h':ah} {p:Nat} {z:AV} {l:List Nat} (o:pa h p z l) (a:Has h h'):pa h' p z l:=by
 obtain ⟨c,op,C,e,hg,r⟩:=o
 exact ⟨c,op,C,e,a _ _ hg,r⟩
theorem rM.at_ {h0 h:ah} {z:AV} {l:List Nat} (o:rM h0 h z l):(z= .ax∧l=[])∨∃p,pa h p z l∧h0.nx≤p:=o.imp id fun ⟨p,c,op,C,e,hp,r⟩=>⟨p,⟨c,op,C,e,r⟩,hp⟩
theorem Lj {X Y:Nat}:Nat.gcd Y (X%Y)=Nat.gcd X Y:=by rw[Nat.gcd_comm X Y,Nat.gcd_rec Y X,Nat.gcd_comm]
theorem ac4 {l:List Nat} {v:Nat} (w:Words l) (hv:ay l=v):∃t,l=aq v++t:=by
 subst hv
 rw[←iC w];exact ⟨l.drop (fk l l.length),(List.take_append_drop _ _).symm⟩
theorem Sk {k:IntKind} {C:List AV} {l t:List Nat} (x:Holds k C 0 (l++t)):Holds k C 0 l:=fun i z hz=>x i z (by rw[List.getElem?_append_left (List.getElem?_eq_some_iff.1 hz).1];exact hz)
theorem Eo {h:ah} {p c v:Nat} {op:Bool} {C:List AV} {ws:List Nat} (hg:h.get p=some (.cells (setFrom C 0 (aA .u64 ws)) 54 false)) (w:Words ws) (hv:ay ws=v) (h1:ws.length≤c) (h2:c≤C.length) (h3:0<c):pa h p (.slice p 0 (aq v).length c op) (aq v):=by
 obtain ⟨t,ht⟩:=ac4 w hv
 have hh:Holds .u64 (setFrom C 0 (aA .u64 ws)) 0 ws:=Holds.of o!
 have hl:(aq v).length≤ws.length:=by rw[←hv];exact nU w
 refine ⟨c,op,_,rfl,hg,?_,by omega,by rw[cV];exact h2,h3⟩
 have key:∀D,Holds .u64 D 0 ws→Holds .u64 D 0 (aq v):=fun D x=>by
  rw[ht] at x;exact Sk x
 exact key _ hh
theorem Lk {k:IntKind} {w1 w2 t:List Nat} {n:Nat} (h:w1.length=n):Holds k (aA k (w1++w2++t)) n w2:=fun i z hz=>by
 refine dP ?_
 rw[List.append_assoc,List.getElem?_append_right o!,h,Nat.add_sub_cancel_left,List.getElem?_append_left (List.getElem?_eq_some_iff.1 hz).1]
 exact hz
theorem Uq {d:Nat} {hb:ah} {ds:List cC} {rc:RC} {ps L n0:Nat} {Q:Nat→Prop} (hQ:∀p,n0≤p→Q p) (y0:Tidy hb) (hps:hb.nx≤ps) (hL:L<536870912):
 ∀(k X Y:Nat) (h:ah) (xv yv:AV) (px:Nat) (E:List Nat),Y<k→Y≤X→X≠0→2*(aq X).length≤L→Grow hb h→pa h px xv (aq X)→hb.nx≤px→px≠ps→n0≤h.nx→Q px→((yv= .ax∧Y=0)∨∃py,pa h py yv (aq Y)∧hb.nx≤py∧py≠px∧py≠ps∧Q py)→E.length=L→h.get ps=some (.cells (aA .u64 E) 54 false)→∀x:Nat→AV,
  ∃(a:AV×AV) (h':ah),(∃y:Nat→AV,Ev env (aQ (d+7)) (.loop kZ) ⟨(xv::yv::rx x 2 3 ((AV.slice ps 0 L L false)::rx x 6 80 [])),h,ds,rc⟩ (.exit 0) ⟨(a.1::a.2::rx y 2 3 ((AV.slice ps 0 L L false)::rx y 6 80 [])),h',ds,rc⟩)∧∃X' Y',Y'<18446744073709551616∧Y'≤X'∧X'≠0∧Nat.gcd X' Y'=Nat.gcd X Y∧(aq X').length≤(aq X).length∧Grow hb h'∧n0≤h'.nx∧(∃p',Q p'∧pa h' p' a.1 (aq X'))∧ao env h' .u64 54 a.2 (aq Y'):=by
 intro k
 induction k with
 | zero=>intro X Y h xv yv px E hk;exact absurd hk (Nat.not_lt_zero _)
 | succ k ih=>
  intro X Y h xv yv px E hk Ri Ek hLX g0 ox hpx cR hn0 qx oy hE hgs x
  have aw:=g0.y
  have nx:=ox.aA o!
  have hYl:=bG Ri
  have ny:ao env h .u64 54 yv (aq Y):=by
   rcases oy with ⟨rfl,rfl⟩ | ⟨py,oy,_⟩
   · rw[cO];exact ao.nil k! k!
   · exact oy.aA o!
  by_cases hYB:Y<18446744073709551616
  · have Mh:(aq Y).length≤1:=gZ (by rw[Nat.pow_one];exact hYB)
    have q1:=cI (1<(((aq Y).length:Nat):Int))
    have ev:=vG (d+7) kZ (xv::yv::rx x 2 3 ((AV.slice ps 0 L L false)::rx x 6 80 [])) h ds rc (.exit 0) h (CC<|VV (ny).len<|VV (bM 3 false true .i64 (((aq Y).length:Nat):Int) 1)<|BB q1<|ZZ) k!
    exact ⟨(xv,yv),h,cT (Ev.out ev) k!,X,Y,hYB,Ri,Ek,rfl,Nat.le_refl _,g0,hn0,⟨px,qx,ox⟩,ny⟩
  · have Fm:Y≠0:=by omega
    have XA:1<(aq Y).length:=by
     apply Decidable.byContradiction
     intro hc
     have h1:=nJ Y
     have h2:18446744073709551616^(aq Y).length≤18446744073709551616^1:=BV o!
     rw[Nat.pow_one] at h2
     omega
    obtain ⟨py,o_y,hpy,ZG,V1,qy⟩:∃py,pa h py yv (aq Y)∧hb.nx≤py∧py≠px∧py≠ps∧Q py:=by
     rcases oy with ⟨_,e⟩ | h
     · exact absurd e Fm
     · exact h
    clear oy
    obtain ⟨f,oP,kG,gJ,fG,thX,thY,kt,l1,l2,l3,l4,aiR⟩:=ZN (d:=d+4) nx ny Ri o! o! aw
    obtain ⟨cx,opx,Cx,rfl,gx,hCx,cx1,cx2,cx3⟩:=id ox
    obtain ⟨cy,W_,Cy,rfl,gy,hCy,cy1,cy2,cy3⟩:=id o_y
    have bx:=aw _ _ gx
    have by_:=aw _ _ gy
    have bs:=aw _ _ hgs
    by_cases hof:kG=0
    · have q1:=dg (1<(((aq Y).length:Nat):Int))
      obtain ⟨h2,bD,bP,iA,bB,b8⟩:=de aw (ar.cells [(aa 0),(aa 0),(aa 0),(aa 0),(aj false),(aa 0),(aa 0)] 197 false)
      have b7:Has h h2:=b8
      obtain ⟨h3,ze,bt,ky,eb,qM⟩:=b9 (t:=197) (n:=7) (i:=h.nx) (L:=[(ae oP),(ae kG),(ae gJ),(ae fG),(aj f),(ae thX),(ae thY)]) bP bB k! rfl rfl z!
      have aX:=Has.ak b7 qM aw o!
      have q4:=dg ((kG:Int)=0)
      obtain ⟨qq,rr,h5,pD,g_,oq,LZ⟩:=xb (d:=d) (nx.has aX) (ny.has aX) Fm o! bt
      have fA:=g_.y
      have V7:=g_.n
      have ep:=aX.trans g_.a
      have ev:=vG (d+7) kZ ((AV.slice px 0 ((aq X).length) cx opx)::(AV.slice py 0 ((aq Y).length) cy W_)::rx x 2 3 ((AV.slice ps 0 L L false)::rx x 6 80 [])) h ds rc .normal h5 (CN 2<|VV (bM 3 false true .i64 (((aq Y).length:Nat):Int) 1)<|BB q1<|CN 2<|EE kt<|NN bD (fun i=>(AV.ptr i 0))<|SS ze<|CC<|MM (aJ 54 1 (ae kG) eb k!)<|VV (bQ 54 false true .u64 (kG:Int) 0)<|BB q4<|CN 2<|EE pD<|CN 9<|ZZ) k!
      have hm:=Nat.mod_lt X (Nat.pos_of_ne_zero Fm)
      have G':Grow hb h5:=g0.trans ⟨fA,ep,by omega⟩
      refine bp (tin:=fun x=>((AV.slice py 0 ((aq Y).length) cy W_)::rr::rx x 2 3 ((AV.slice ps 0 L L false)::rx x 6 80 []))) ev k! fun x=>?_
      obtain ⟨a,h',ev',X',Y',r1,r2,r3,r4,r5,r6⟩:=ih Y (X%Y) h5 (.slice py 0 (aq Y).length cy W_) rr py E o! (Nat.le_of_lt hm) Fm o! G' (o_y.has ep) hpy V1 o! qy (LZ.at_.imp (fun e=>⟨e.1,dZ.1 e.2⟩) fun ⟨p2,o2,uj⟩=>⟨p2,o2,by omega,by omega,by omega,hQ _ o!⟩) hE (g_.a _ _ (qM _ _ o! (b8 _ _ hgs))) x
      exact ⟨a,h',ev',X',Y',r1,r2,r3,by rw[r4,Lj],by omega,r6⟩
    · obtain ⟨R1,R2,ac3,hR,hRY,alB⟩:=aiR hof
      have hXb:=nJ X
      have hYb:=nJ Y
      have alC:R1<18446744073709551616^(aq X).length:=by omega
      have alD:R2<18446744073709551616^(aq X).length:=by omega
      have alE:R2<18446744073709551616^(aq Y).length:=by omega
      have q1:=dg (1<(((aq Y).length:Nat):Int))
      obtain ⟨h2,bD,bP,iA,bB,b8⟩:=de aw (ar.cells [(aa 0),(aa 0),(aa 0),(aa 0),(aj false),(aa 0),(aa 0)] 197 false)
      have b7:Has h h2:=b8
      obtain ⟨h3,ze,bt,ky,eb,qM⟩:=b9 (t:=197) (n:=7) (i:=h.nx) (L:=[(ae oP),(ae kG),(ae gJ),(ae fG),(aj f),(ae thX),(ae thY)]) bP bB k! rfl rfl z!
      have aX:=Has.ak b7 qM aw o!
      have q4:=cI ((kG:Int)=0)
      have V8:aZ env 56 (AV.slice ps 0 L L false) (none) (some (ag ((aq X).length))) (none)=some (AV.slice ps 0 ((aq X).length) L false):=gI (e:=54) k! k! o! o! o! o!
      have w6:=fS (2*(((aq X).length:Nat):Int))
      have sl7:aZ env 56 (AV.slice ps 0 L L false) (some (ag ((aq X).length))) (some (af (2*(((aq X).length:Nat):Int)))) (none)=some (AV.slice ps ((aq X).length) ((aq X).length) (L -((aq X).length)) false):=Gp (e:=54) k! k! o! o! o! o! o!
      obtain ⟨w1,w2,h8,Hc,eQ,aaa,O',aab,Lh,lw2,ww1,ww2,W8,W9⟩:=ac2 (d:=d+4) (h:=h3) (f:=f) (thX:=thX) (thY:=thY) (X:=X) (Y:=Y) (n:=(aq X).length) (p:=ps) (c1:=L) (c2:=(L -(aq X).length)) (E:=E) l1 l2 l3 l4 ac3 alC alD (Nat.le_refl _) hYl o! o! (qM _ _ o! (b8 _ _ hgs)) (nx.has aX) (ny.has aX) (fun o n c b e=>by cases e;exact cR rfl) (fun o n c b e=>by cases e;exact V1 rfl) bt
      have ns1:=ao.of (E:=env) (k:= .u64) (e:=54) (l:=w1) (p:=ps) (o:=0) (c:=L) (b:=false) k! k! o! o! (by simp) aab (by rw[List.append_assoc];exact Holds.pre _ _ _)
      rw[Lh] at ns1
      have cp1:=KO (tys:= #[56,56]) (t:=56) rfl k! k! (⟨⟨cx,opx,rfl,cx1⟩,(O' _ _ o! (qM _ _ o! (b8 _ _ gx))),by omega⟩:EL h8 (AV.slice px 0 ((aq X).length) cx opx) px 0 ((aq X).length) Cx 54) ns1 o!
      rw[Lh] at cp1
      obtain ⟨h9,Sl⟩:∃hh:ah,hh=h8.put px (some (.cells (setFrom Cx 0 (aA .u64 w1)) 54 false)):=⟨_,rfl⟩
      rw[←Sl] at cp1
      have uT:nj h8 h9 px (.cells (setFrom Cx 0 (aA .u64 w1)) 54 false):=by rw[Sl];exact il eQ (O' _ _ o! (qM _ _ o! (b8 _ _ gx)))
      have gR:=uT.1
      have GY:h9.nx=h8.nx:=by rw[Sl];rfl
      have ns2:=ao.of (E:=env) (k:= .u64) (e:=54) (l:=w2) (p:=ps) (o:=(aq X).length) (c:=(L -(aq X).length)) (b:=false) k! k! o! o! (by simp) (uT.2.2 _ _ o! aab) (Lk Lh)
      rw[lw2] at ns2
      have cp2:=Vu (tys:= #[56,56]) (t:=56) rfl k! k! (⟨⟨cy,W_,rfl,cy1⟩,(uT.2.2 _ _ o! (O' _ _ o! (qM _ _ o! (b8 _ _ gy)))),by omega⟩:EL h9 (AV.slice py 0 ((aq Y).length) cy W_) py 0 ((aq Y).length) Cy 54) ns2 o!
      obtain ⟨lx,Hd⟩:∃hh:ah,hh=h9.put py (some (.cells (setFrom Cy 0 (aA .u64 (List.take (aq Y).length w2))) 54 false)):=⟨_,rfl⟩
      rw[←Hd] at cp2
      have lJ:nj h9 lx py (.cells (setFrom Cy 0 (aA .u64 (List.take (aq Y).length w2))) 54 false):=by rw[Hd];exact il gR (uT.2.2 _ _ o! (O' _ _ o! (qM _ _ o! (b8 _ _ gy))))
      have dE:=lJ.1
      have wU:lx.nx=h9.nx:=by rw[Hd];rfl
      have alF:aZ env 56 (AV.slice py 0 ((aq Y).length) cy W_) (none) (some (ag ((aq Y).length))) (none)=some (AV.slice py 0 ((aq Y).length) cy W_):=gI (e:=54) k! k! o! o! o! o!
      have vt2:ay (List.take (aq Y).length w2)=R2:=(OZ ww2 o! (by rw[W9];exact alE)).trans W9
      have age:=Dp (d:=d+6) (h:=lx) (p:=px) (n:=(aq X).length) (c:=cx) (v:=R1) (op:=opx) (lJ.2.2 _ _ o! uT.2.1) (Holds.of o!) Lh o! o! o! ww1 W8
      have alG:=Dp (d:=d+6) (h:=lx) (p:=py) (n:=(aq Y).length) (c:=cy) (v:=R2) (op:=W_) lJ.2.1 (Holds.of (by rw[List.length_take];omega)) (by rw[List.length_take];omega) o! o! o! (ww2.take _) vt2
      have ev:=vG (d+7) kZ ((AV.slice px 0 ((aq X).length) cx opx)::(AV.slice py 0 ((aq Y).length) cy W_)::rx x 2 3 ((AV.slice ps 0 L L false)::rx x 6 80 [])) h ds rc .normal lx (CN 2<|VV (bM 3 false true .i64 (((aq Y).length:Nat):Int) 1)<|BB q1<|CN 2<|EE kt<|NN bD (fun i=>(AV.ptr i 0))<|SS ze<|CC<|MM (aJ 54 1 (ae kG) eb k!)<|VV (bQ 54 false true .u64 (kG:Int) 0)<|BB q4<|CN 3<|QQ V8<|CN 5<|VV (Iy 3 true false w6)<|QQ sl7<|CN 2<|MM (aJ 197 0 (AV.agg [(ae oP),(ae kG),(ae gJ),(ae fG),(aj f),(ae thX),(ae thY)]) eb k!)<|CN 4<|EE Hc<|CN 2<|PP cp1<|CN 3<|PP cp2<|QQ alF<|CN 2<|EE age<|CC<|EE alG<|CN 2<|ZZ) k!
      have o1:=Eo (op:=opx) (lJ.2.2 _ _ o! uT.2.1) ww1 W8 o! cx2 cx3
      have o2:=Eo (op:=W_) lJ.2.1 (ww2.take _) vt2 (by rw[List.length_take];omega) cy2 cy3
      have G':Grow hb lx:=⟨dE,(lJ.has (uT.has (Has.ak (g0.a.trans aX) O' y0 hps) y0 o!) y0 o!),by have:=g0.n;omega⟩
      refine bp (tin:=fun x=>((AV.slice px 0 ((aq R1).length) cx opx)::(AV.slice py 0 ((aq R2).length) cy W_)::rx x 2 3 ((AV.slice ps 0 L L false)::rx x 6 80 []))) ev k! fun x=>?_
      obtain ⟨a,h',ev',X',Y',r1,r2,r3,r4,r5,r6⟩:=ih R1 R2 lx _ _ px (w1++w2++E.drop ((aq X).length+(aq X).length)) o! (Nat.le_of_lt hR) o! (by have:=bG (a:=R1) (b:=X) o!;omega) G' o1 hpx cR o! qx (.inr ⟨py,o2,hpy,ZG,V1,qy⟩) (by simp [Lh,lw2];omega) (lJ.2.2 _ _ o! (uT.2.2 _ _ o! aab)) x
      exact ⟨a,h',ev',X',Y',r1,r2,r3,by rw[r4,alB],by have:=bG (a:=R1) (b:=X) o!;omega,r6⟩
theorem aac {h h':ah} {p:Nat} {z:AV} {l:List Nat} (o:pa h' p z l) (a:Has h h') (hg:∃x,h.get p=some x):pa h p z l:=by
 obtain ⟨c,op,C,e,g,r⟩:=o
 obtain ⟨x,hx⟩:=hg
 have:=a _ _ hx
 rw[g] at this
 cases this
 exact ⟨c,op,C,e,hx,r⟩
theorem tP {d:Nat} {hb h:ah} {xv yv:AV} {X Y px py:Nat} (y0:Tidy hb) (g0:Grow hb h) (ox:pa h px xv (aq X)) (oy:pa h py yv (aq Y)) (hpx:hb.nx≤px) (hpy:hb.nx≤py) (cR:px≠py) (Ek:X≠0) (Fm:Y≠0) (hlx:(aq X).length<134217728) (W6:(aq Y).length<134217728):
 ∃r hk,aQ (d+8) (.fn 82) [xv,yv] h= .ret r hk∧Grow hb hk∧ao env hk .u64 54 r (aq (Nat.gcd X Y)):=by
 have aw:=g0.y
 have hn0:=g0.n
 have nx:=ox.aA o!
 have ny:=oy.aA o!
 obtain ⟨cx,opx,Cx,exv,gx,hCx,cx1,cx2,cx3⟩:=id ox
 obtain ⟨cy,W_,Cy,eyv,gy,hCy,cy1,cy2,cy3⟩:=id oy
 have bx:=aw _ _ gx
 have by_:=aw _ _ gy
 obtain ⟨cm,Qi⟩:∃cm,cm=tH (aq X) (aq Y):=⟨_,rfl⟩
 obtain ⟨Q,hQd⟩:∃Q:Nat→Prop,Q=fun p=>h.nx≤p∨p=px∨p=py:=⟨_,rfl⟩
 have hQ:∀p,h.nx≤p→Q p:=fun p hp=>by rw[hQd];exact .inl hp
 have qx:Q px:=by rw[hQd];exact .inr (.inl rfl)
 have qy:Q py:=by rw[hQd];exact .inr (.inr rfl)
 have aiS:∀{r:AV} {h':ah} {l:List Nat} {p':Nat},mz env (aQ (d+7)) 82 [xv,yv] h r h'→Grow hb h'→Q p'→pa h' p' r l→l.length<2^60→∃r hk,aQ (d+8) (.fn 82) [xv,yv] h= .ret r hk∧Grow hb hk∧ao env hk .u64 54 r l:=by
  intro r h' l p' hd g q o hl
  obtain ⟨hk,k1,k2⟩:=RE rfl hd
  rcases k2 with rfl | ⟨rfl,a⟩
  · exact ⟨_,_,k1,g,o.aA hl⟩
  · by_cases hv:AV.within hk.nx 20 r=true
    · refine ⟨_,_,k1,g0,(aac o a ?_).aA hl⟩
      rw[hQd] at q
      rcases q with q | rfl | rfl
      · obtain ⟨c,op,C,rfl,_⟩:=o
        simp [AV.within] at hv
        omega
      · exact ⟨_,gx⟩
      · exact ⟨_,gy⟩
    · exact ⟨_,_,fa rfl hd fun c=>hv c.2,g,o.aA hl⟩
 by_cases gL:X<Y
 · have U8:cm<0:=by rw[Qi,tI,if_pos gL];decide
   have kc:=fC (d:=d+6) (h:=h) nx ny
   rw[←Qi] at kc
   have q1:=dg (cm<0)
   have w2:=fS (2*(((aq Y).length:Nat):Int))
   have YU:qm env (some (.slice 54)) (some (af (2*(((aq Y).length:Nat):Int)))) (some (af (2*(((aq Y).length:Nat):Int))))=some (ar.cells (aS [(aa 0)] (2*(aq Y).length)) 54 false,fun i=>AV.slice i 0 (2*(aq Y).length) (2*(aq Y).length) false):=by rw[show (2*(((aq Y).length:Nat):Int):Int)=(((2*(aq Y).length):Nat):Int) by omega];exact gH (bytes:=8) (z:=(aa 0)) k! k! k! rfl (by decide) o!
   obtain ⟨h4,sS,gk,wL,jH,sU⟩:=de aw (ar.cells (aS [(aa 0)] (2*(aq Y).length)) 54 false)
   have iy:Has h h4:=sU
   have ZF:=jH
   rw[c_] at jH
   obtain ⟨⟨a1,a2⟩,h6,⟨yl5,AE⟩,X1,Y1,Ll,alH,ago,Sm,alI,GL,hnL,⟨p1,qp1,o1⟩,n2⟩:=Uq (d:=d) (hb:=hb) (ds:=[]) (rc:= .no) (ps:=h.nx) (L:=2*(aq Y).length) (n0:=h.nx) (Q:=Q) hQ y0 o! o! (X+1) Y X h4 yv xv py (List.replicate (2*(aq Y).length) 0) o! o! Fm (Nat.le_refl _) (g0.trans ⟨gk,iy,by omega⟩) (oy.has iy) hpy o! o! qy (.inr ⟨px,ox.has iy,hpx,by omega,by omega,qx⟩) (by simp) jH (fun k_=>((yv::xv::aB::aB::bE::(AV.slice h.nx 0 (2*(aq Y).length) (2*(aq Y).length) false)::KR 6 (xv::yv::(af cm)::(aj (decide (cm<0)))::yv::xv::yv::(ag ((aq Y).length))::(af (2*(((aq Y).length:Nat):Int)))::(AV.slice h.nx 0 (2*(aq Y).length) (2*(aq Y).length) false)::aV 64)):List AV).getD k_ aB)
   have n1:=o1.aA o!
   have dh:=GL.y
   have GG:=GL.n
   by_cases q0:Y1=0
   · subst q0
     rw[Nat.gcd_zero_right] at Sm
     have n2:=n2
     rw[cO] at n2
     have q7:=dg (((0:Nat):Int)=0)
     have ev:=pk (d+7) fY (xv::yv::aV 84) h .ret h6 (CN 3<|EE kc<|VV (bh 3 false true .i64 cm 0)<|BB q1<|CN 5<|VV (ny).len<|VV (Iy 3 true false w2)<|KK YU sS<|CC<|LL AE<|CC<|VV (show dO (some (.slice 54)) (some a2)=some (ag 0) from (by rw[←List.length_nil];exact (n2).len))<|VV (bQ 3 false true .i64 ((0:Nat):Int) 0)<|BB q7<|CN 2<|ZZ) k!
     rw[show Nat.gcd X Y=X1 by rw[Sm,Nat.gcd_comm]]
     exact aiS (az Tryz.func82 nV k! (.inr rfl) ev k!) GL qp1 o1 (by have:=bG (Nat.le_of_lt gL);omega)
   · have eY1:=eK q0 Ll
     have eYd:(aq Y1).getD 0 0=Y1:=by rw[eY1];rfl
     have Mh:(aq Y1).length=1:=by rw[eY1];rfl
     obtain ⟨dq,dr⟩:=Fl (l:=aq X1) (e:=Y1) (Nat.pos_of_ne_zero q0)
     rw[cd] at dr
     have agp:aq X1≠ []:=fun e=>ago (dZ.1 e)
     have hrm:=Nat.mod_lt X1 (Nat.pos_of_ne_zero q0)
     have egc:Nat.gcd Y1 (X1%Y1)=Nat.gcd X Y:=by rw[Lj,Sm,Nat.gcd_comm]
     have hgp:Nat.gcd X Y≠0:=fun e=>Ek (Nat.eq_zero_of_gcd_eq_zero_left e)
     have hgl:Nat.gcd X Y<18446744073709551616:=by rw[←egc];exact Nat.lt_of_le_of_lt (Nat.le_of_dvd (Nat.pos_of_ne_zero q0) (Nat.gcd_dvd_left _ _)) Ll
     have q7:=cI (((1:Nat):Int)=0)
     have mk8:qm env (some (.slice 54)) (some (ag ((aq X1).length))) (some (ag ((aq X1).length)))=some (ar.cells (aS [(aa 0)] ((aq X1).length)) 54 false,fun i=>AV.slice i 0 ((aq X1).length) ((aq X1).length) false):=gH (bytes:=8) (z:=(aa 0)) k! k! k! rfl (by decide) o!
     obtain ⟨h9,zc,gR,GY,pH,BX⟩:=de dh (ar.cells (aS [(aa 0)] ((aq X1).length)) 54 false)
     have pI:Has h6 h9:=BX
     have Uf:=pH
     rw[c_] at pH
     obtain ⟨C7,L0,Lm,zf⟩:=((n2.has pI)).j8 0 (show 0<(aq Y1).length by omega)
     rw[eYd] at zf
     have dvw:=pG (d:=d+3) (z:=(AV.slice h6.nx 0 ((aq X1).length) ((aq X1).length) false)) (a:=a1) (l:=aq X1) (e:=Y1) (p:=h6.nx) (o:=0) (n:=(aq X1).length) ⟨⟨(aq X1).length,false,rfl,Nat.le_refl _⟩,pH,by rw[aM,List.length_replicate];omega⟩ o! (n1.has pI) (w_ n1 agp GL.y (Nat.le_refl _)) (bH X1) (Nat.pos_of_ne_zero q0) Ll gR (Nat.zero_le _)
     rw[dr] at dvw
     obtain ⟨pP,tQ,mF,oZ⟩:=dvw
     have dS:=mF.1
     have xg:Has h6 pP:=mF.has pI dh o!
     obtain ⟨p15,q16,He,vK⟩:=((n2.has xg)).j8 0 (show 0<(aq Y1).length by omega)
     rw[eYd] at vK
     have kg:=uV (d:=d+6) (h:=pP) Y1 (X1%Y1) Ll o!
     rw[egc] at kg
     obtain ⟨Fo,aad,tJ,Jz,xh,aae⟩:=de dS (ar.cells [(ae (Nat.gcd X Y))] 54 false)
     have Hf:=xg.trans aae
     have ev:=pk (d+7) fY (xv::yv::aV 84) h .ret Fo (CN 3<|EE kc<|VV (bh 3 false true .i64 cm 0)<|BB q1<|CN 5<|VV (ny).len<|VV (Iy 3 true false w2)<|KK YU sS<|CC<|LL AE<|CC<|VV (show dO (some (.slice 54)) (some a2)=some (ag 1) from (by rw[←Mh];exact (n2).len))<|VV (bQ 3 false true .i64 ((1:Nat):Int) 0)<|BB q7<|CC<|VV (n1).len<|KK mk8 zc<|CN 2<|VV Lm<|MM zf<|EE tQ<|CC<|HH (show ∃o,h9.get h6.nx=some o∧ar.same o (ar.cells (aS [(aa 0)] ((aq X1).length)) 54 false)=true from ⟨_,Uf,MZ _ _ _ _⟩)<|HH zf<|HH (show AV.same 20 (ae Y1) (ae Y1)=true from aP 19 _ _)<|CC<|VV He<|MM vK<|CC<|EE kg<|NN aad (fun i=>(AV.slice i 0 1 1 false))<|CC<|ZZ) k!
     have nw:¬AV.within h.nx 20 (.slice pP.nx 0 1 1 false)=true:=by simp [AV.within];omega
     rw[eK hgp hgl]
     exact ⟨_,_,fa rfl (az Tryz.func82 nV k! (.inr rfl) ev k!) (fun c=>nw c.2),⟨tJ,GL.a.trans Hf,by omega⟩,qw (c:=0) xh rfl⟩
 · have U8:¬cm<0:=by rw[Qi,tI,if_neg gL];split<;>decide
   have kc:=fC (d:=d+6) (h:=h) nx ny
   rw[←Qi] at kc
   have q1:=cI (cm<0)
   have w2:=fS (2*(((aq X).length:Nat):Int))
   have YU:qm env (some (.slice 54)) (some (af (2*(((aq X).length:Nat):Int)))) (some (af (2*(((aq X).length:Nat):Int))))=some (ar.cells (aS [(aa 0)] (2*(aq X).length)) 54 false,fun i=>AV.slice i 0 (2*(aq X).length) (2*(aq X).length) false):=by rw[show (2*(((aq X).length:Nat):Int):Int)=(((2*(aq X).length):Nat):Int) by omega];exact gH (bytes:=8) (z:=(aa 0)) k! k! k! rfl (by decide) o!
   obtain ⟨h4,sS,gk,wL,jH,sU⟩:=de aw (ar.cells (aS [(aa 0)] (2*(aq X).length)) 54 false)
   have iy:Has h h4:=sU
   have ZF:=jH
   rw[c_] at jH
   obtain ⟨⟨a1,a2⟩,h6,⟨yl5,AE⟩,X1,Y1,Ll,alH,ago,Sm,alI,GL,hnL,⟨p1,qp1,o1⟩,n2⟩:=Uq (d:=d) (hb:=hb) (ds:=[]) (rc:= .no) (ps:=h.nx) (L:=2*(aq X).length) (n0:=h.nx) (Q:=Q) hQ y0 o! o! (Y+1) X Y h4 xv yv px (List.replicate (2*(aq X).length) 0) o! o! Ek (Nat.le_refl _) (g0.trans ⟨gk,iy,by omega⟩) (ox.has iy) hpx o! o! qx (.inr ⟨py,oy.has iy,hpy,by omega,by omega,qy⟩) (by simp) jH (fun k_=>((xv::yv::aB::aB::bE::(AV.slice h.nx 0 (2*(aq X).length) (2*(aq X).length) false)::KR 6 (xv::yv::(af cm)::(aj (decide (cm<0)))::aB::aB::xv::(ag ((aq X).length))::(af (2*(((aq X).length:Nat):Int)))::(AV.slice h.nx 0 (2*(aq X).length) (2*(aq X).length) false)::aV 64)):List AV).getD k_ aB)
   have n1:=o1.aA o!
   have dh:=GL.y
   have GG:=GL.n
   by_cases q0:Y1=0
   · subst q0
     rw[Nat.gcd_zero_right] at Sm
     have n2:=n2
     rw[cO] at n2
     have q7:=dg (((0:Nat):Int)=0)
     have ev:=pk (d+7) fY (xv::yv::aV 84) h .ret h6 (CN 3<|EE kc<|VV (bh 3 false true .i64 cm 0)<|BB q1<|CC<|VV (nx).len<|VV (Iy 3 true false w2)<|KK YU sS<|CC<|LL AE<|CC<|VV (show dO (some (.slice 54)) (some a2)=some (ag 0) from (by rw[←List.length_nil];exact (n2).len))<|VV (bQ 3 false true .i64 ((0:Nat):Int) 0)<|BB q7<|CN 2<|ZZ) k!
     rw[←Sm]
     exact aiS (az Tryz.func82 nV k! (.inr rfl) ev k!) GL qp1 o1 o!
   · have eY1:=eK q0 Ll
     have eYd:(aq Y1).getD 0 0=Y1:=by rw[eY1];rfl
     have Mh:(aq Y1).length=1:=by rw[eY1];rfl
     obtain ⟨dq,dr⟩:=Fl (l:=aq X1) (e:=Y1) (Nat.pos_of_ne_zero q0)
     rw[cd] at dr
     have agp:aq X1≠ []:=fun e=>ago (dZ.1 e)
     have hrm:=Nat.mod_lt X1 (Nat.pos_of_ne_zero q0)
     have egc:Nat.gcd Y1 (X1%Y1)=Nat.gcd X Y:=by rw[Lj,Sm]
     have hgp:Nat.gcd X Y≠0:=fun e=>Ek (Nat.eq_zero_of_gcd_eq_zero_left e)
     have hgl:Nat.gcd X Y<18446744073709551616:=by rw[←egc];exact Nat.lt_of_le_of_lt (Nat.le_of_dvd (Nat.pos_of_ne_zero q0) (Nat.gcd_dvd_left _ _)) Ll
     have q7:=cI (((1:Nat):Int)=0)
     have mk8:qm env (some (.slice 54)) (some (ag ((aq X1).length))) (some (ag ((aq X1).length)))=some (ar.cells (aS [(aa 0)] ((aq X1).length)) 54 false,fun i=>AV.slice i 0 ((aq X1).length) ((aq X1).length) false):=gH (bytes:=8) (z:=(aa 0)) k! k! k! rfl (by decide) o!
     obtain ⟨h9,zc,gR,GY,pH,BX⟩:=de dh (ar.cells (aS [(aa 0)] ((aq X1).length)) 54 false)
     have pI:Has h6 h9:=BX
     have Uf:=pH
     rw[c_] at pH
     obtain ⟨C7,L0,Lm,zf⟩:=((n2.has pI)).j8 0 (show 0<(aq Y1).length by omega)
     rw[eYd] at zf
     have dvw:=pG (d:=d+3) (z:=(AV.slice h6.nx 0 ((aq X1).length) ((aq X1).length) false)) (a:=a1) (l:=aq X1) (e:=Y1) (p:=h6.nx) (o:=0) (n:=(aq X1).length) ⟨⟨(aq X1).length,false,rfl,Nat.le_refl _⟩,pH,by rw[aM,List.length_replicate];omega⟩ o! (n1.has pI) (w_ n1 agp GL.y (Nat.le_refl _)) (bH X1) (Nat.pos_of_ne_zero q0) Ll gR (Nat.zero_le _)
     rw[dr] at dvw
     obtain ⟨pP,tQ,mF,oZ⟩:=dvw
     have dS:=mF.1
     have xg:Has h6 pP:=mF.has pI dh o!
     obtain ⟨p15,q16,He,vK⟩:=((n2.has xg)).j8 0 (show 0<(aq Y1).length by omega)
     rw[eYd] at vK
     have kg:=uV (d:=d+6) (h:=pP) Y1 (X1%Y1) Ll o!
     rw[egc] at kg
     obtain ⟨Fo,aad,tJ,Jz,xh,aae⟩:=de dS (ar.cells [(ae (Nat.gcd X Y))] 54 false)
     have Hf:=xg.trans aae
     have ev:=pk (d+7) fY (xv::yv::aV 84) h .ret Fo (CN 3<|EE kc<|VV (bh 3 false true .i64 cm 0)<|BB q1<|CC<|VV (nx).len<|VV (Iy 3 true false w2)<|KK YU sS<|CC<|LL AE<|CC<|VV (show dO (some (.slice 54)) (some a2)=some (ag 1) from (by rw[←Mh];exact (n2).len))<|VV (bQ 3 false true .i64 ((1:Nat):Int) 0)<|BB q7<|CC<|VV (n1).len<|KK mk8 zc<|CN 2<|VV Lm<|MM zf<|EE tQ<|CC<|HH (show ∃o,h9.get h6.nx=some o∧ar.same o (ar.cells (aS [(aa 0)] ((aq X1).length)) 54 false)=true from ⟨_,Uf,MZ _ _ _ _⟩)<|HH zf<|HH (show AV.same 20 (ae Y1) (ae Y1)=true from aP 19 _ _)<|CC<|VV He<|MM vK<|CC<|EE kg<|NN aad (fun i=>(AV.slice i 0 1 1 false))<|CC<|ZZ) k!
     have nw:¬AV.within h.nx 20 (.slice pP.nx 0 1 1 false)=true:=by simp [AV.within];omega
     rw[eK hgp hgl]
     exact ⟨_,_,fa rfl (az Tryz.func82 nV k! (.inr rfl) ev k!) (fun c=>nw c.2),⟨tJ,GL.a.trans Hf,by omega⟩,qw (c:=0) xh rfl⟩
noncomputable def B5:Code:=(Tryz.f22.body).getD .skip
theorem JD:Tryz.f22.body=some B5:=by kernel_rfl
theorem Hg {call:aE} {h:ah} {mi:Bool} {w0 w1 w2 w3 us:Int} {far:AV} (aw:Tidy h) (ES:0≤h.nx) (q3:(!mi)=true) (sc6:AV.scalar far=true):
 ∃(h1:ah) (h2:ah) (h4:ah) (h5:ah),Ev env call B5 ⟨((AV.agg (au mi w0 w1 w2 w3 far us))::aV 13),h,[],.no⟩ .ret ⟨[(AV.agg (au mi w0 w1 w2 w3 far us)),(AV.ptr h.nx 0),(AV.ptr (h.nx+1) 0),(AV.ptr h.nx 0),(aj mi),(aj (!mi)),(aj (!mi)),(AV.ptr h.nx 1),(AV.ptr h.nx 6),(af us),(aj (decide (0<us))),(aj (decide (0<us))),(AV.ptr h.nx 0),(AV.agg (au (decide (0<us)) w0 w1 w2 w3 far us))],h5,[],.no⟩∧Tidy h5∧Has h h5∧h5.nx=h.nx+2∧h5.get h.nx=some (ar.cells (au (decide (0<us)) w0 w1 w2 w3 far us) 60 false)∧h5.get (h.nx+1)=some (ar.cells (au (decide (0<us)) w0 w1 w2 w3 far us) 60 false):=by
 obtain ⟨h1,aO⟩:=eH (h:=h) (ar.cells (au mi w0 w1 w2 w3 far us) 60 false)
 have aK:=bI aw aO
 have bm:h1.nx=h.nx+1:=by rw[cW aO]
 have aD:=bu aw aO
 have aC:=bU aO
 obtain ⟨h2,bD⟩:=eH (h:=h1) (ar.cells (au false 0 0 0 0 bE 0) 60 false)
 have bP:=bI aK bD
 have iA:h2.nx=h.nx+2:=by rw[cW bD,bm]
 have b7:=aD.trans (bu aK bD)
 have bB:h2.get (h.nx+1)=some (ar.cells (au false 0 0 0 0 bE 0) 60 false):=by rw[←bm];exact bU bD
 have tR:=b6 aK bD aC
 obtain ⟨h4,xi⟩:∃h',ch env h2 4 (AV.ptr h.nx 0) (aj (decide (0<us)))=some h':=mA (n:=1) tR k! rfl (by simp) z!
 have gk:=iU bP xi tR
 have wL:h4.nx=h.nx+2:=by rw[kq xi tR,iA]
 have iy:=yn b7 aw bP xi tR o!
 have jH:h4.get h.nx=some (ar.cells (au (decide (0<us)) w0 w1 w2 w3 far us) 60 false):=jP bP xi tR
 have JE:h4.get (h.nx+1)=some (ar.cells (au false 0 0 0 0 bE 0) 60 false):=gX bP xi tR o! bB
 obtain ⟨h5,pz⟩:∃h',ch env h4 60 (AV.ptr (h.nx+1) 0) (AV.agg (au (decide (0<us)) w0 w1 w2 w3 far us))=some h':=mA (n:=7) JE k! rfl (by simp) z!
 have fA:=iU gk pz JE
 have wM:h5.nx=h.nx+2:=by rw[kq pz JE,wL]
 have ep:=yn iy aw gk pz JE o!
 have lu:h5.get (h.nx+1)=some (ar.cells (au (decide (0<us)) w0 w1 w2 w3 far us) 60 false):=jP gk pz JE
 exact ⟨h1,h2,h4,h5,aR (n:=200) (NN aO (fun i=>(AV.ptr i 0))<|AA (.a (ar.cells (au false 0 0 0 0 bE 0) 60 false) (AV.ptr (h.nx+1) 0) h2)<|HH bD<|HH (show ∃mk:Nat→AV,some (ar.cells (au false 0 0 0 0 bE 0) 60 false,fun i=>(AV.ptr i 0))=some (ar.cells (au false 0 0 0 0 bE 0) 60 false,mk)∧mk h1.nx=(AV.ptr (h.nx+1) 0) from ⟨_,rfl,by rw[bm]⟩)<|CC<|MM (aJ 4 0 (aj mi) (b6 aK bD aC) k!)<|CN 2<|BB q3<|CC<|BB q3<|CC<|BB q3<|MM (aJ 3 6 (af us) (b6 aK bD aC) k!)<|BB q3<|VV (bM 3 false true .i64 us 0)<|VV (aG (a:=some (aj (decide (0<us)))) (b:=some (aj false)) q3)<|CC<|SS xi<|MM (aJ 60 0 (AV.agg (au (decide (0<us)) w0 w1 w2 w3 far us)) jH k!)<|SS pz<|ZZ) k!,fA,ep,wM,gX gk pz JE o! jH,lu⟩
noncomputable def zT:Code:=(Tryz.f80.body).getD .skip
theorem Sn:Tryz.f80.body=some zT:=by kernel_rfl
theorem Pa {call:aE} {h:ah} {mi:Bool} {w0 w1 w2 w3 us:Int} {far:AV} (aw:Tidy h) (ES:0≤h.nx) (sc5:AV.scalar far=true):
 ∃(h1:ah) (h2:ah) (h3:ah) (h4:ah),Ev env call zT ⟨((AV.agg (au mi w0 w1 w2 w3 far us))::aV 4),h,[],.no⟩ .ret ⟨[(AV.agg (au mi w0 w1 w2 w3 far us)),(AV.ptr h.nx 0),(AV.ptr (h.nx+1) 0),(AV.ptr h.nx 0),(AV.agg (au false w0 w1 w2 w3 far us))],h4,[],.no⟩∧Tidy h4∧Has h h4∧h4.nx=h.nx+2∧h4.get h.nx=some (ar.cells (au false w0 w1 w2 w3 far us) 60 false)∧h4.get (h.nx+1)=some (ar.cells (au false w0 w1 w2 w3 far us) 60 false):=by
 obtain ⟨h1,aO⟩:=eH (h:=h) (ar.cells (au mi w0 w1 w2 w3 far us) 60 false)
 have aK:=bI aw aO
 have bm:h1.nx=h.nx+1:=by rw[cW aO]
 have aD:=bu aw aO
 have aC:=bU aO
 obtain ⟨h2,bD⟩:=eH (h:=h1) (ar.cells (au false 0 0 0 0 bE 0) 60 false)
 have bP:=bI aK bD
 have iA:h2.nx=h.nx+2:=by rw[cW bD,bm]
 have b7:=aD.trans (bu aK bD)
 have bB:h2.get (h.nx+1)=some (ar.cells (au false 0 0 0 0 bE 0) 60 false):=by rw[←bm];exact bU bD
 have JF:=b6 aK bD aC
 obtain ⟨h3,ze⟩:∃h',ch env h2 4 (AV.ptr h.nx 0) (aj false)=some h':=mA (n:=1) JF k! rfl (by simp) z!
 have bt:=iU bP ze JF
 have ky:h3.nx=h.nx+2:=by rw[kq ze JF,iA]
 have aX:=yn b7 aw bP ze JF o!
 have eb:h3.get h.nx=some (ar.cells (au false w0 w1 w2 w3 far us) 60 false):=jP bP ze JF
 have tR:h3.get (h.nx+1)=some (ar.cells (au false 0 0 0 0 bE 0) 60 false):=gX bP ze JF o! bB
 obtain ⟨h4,xi⟩:∃h',ch env h3 60 (AV.ptr (h.nx+1) 0) (AV.agg (au false w0 w1 w2 w3 far us))=some h':=mA (n:=7) tR k! rfl (by simp) z!
 have gk:=iU bt xi tR
 have wL:h4.nx=h.nx+2:=by rw[kq xi tR,ky]
 have iy:=yn aX aw bt xi tR o!
 have jH:h4.get (h.nx+1)=some (ar.cells (au false w0 w1 w2 w3 far us) 60 false):=jP bt xi tR
 exact ⟨h1,h2,h3,h4,aR (n:=200) (NN aO (fun i=>(AV.ptr i 0))<|AA (.a (ar.cells (au false 0 0 0 0 bE 0) 60 false) (AV.ptr (h.nx+1) 0) h2)<|HH bD<|HH (show ∃mk:Nat→AV,some (ar.cells (au false 0 0 0 0 bE 0) 60 false,fun i=>(AV.ptr i 0))=some (ar.cells (au false 0 0 0 0 bE 0) 60 false,mk)∧mk h1.nx=(AV.ptr (h.nx+1) 0) from ⟨_,rfl,by rw[bm]⟩)<|CC<|SS ze<|MM (aJ 60 0 (AV.agg (au false w0 w1 w2 w3 far us)) eb k!)<|SS xi<|ZZ) k!,gk,iy,wL,gX bt xi tR o! eb,jH⟩
noncomputable def yC:Code:=(Tryz.f21.body).getD .skip
theorem Sp:Tryz.f21.body=some yC:=by kernel_rfl
theorem ac6 {call:aE} {h:ah} {mi:Bool} {w0 w1 w2 w3 us:Int} {far:AV} (aw:Tidy h) (ES:0≤h.nx) (q2:(decide (us=0))=true):
 ∃(h1:ah),Ev env call yC ⟨((AV.agg (au mi w0 w1 w2 w3 far us))::aV 8),h,[],.no⟩ .ret ⟨[(AV.agg (au mi w0 w1 w2 w3 far us)),(AV.ptr h.nx 0),(af 0),(AV.ptr h.nx 1),(AV.ptr h.nx 6),(af us),(aj (decide (us=0))),aB,aB],h1,[],.no⟩∧Tidy h1∧Has h h1∧h1.nx=h.nx+1∧h1.get h.nx=some (ar.cells (au mi w0 w1 w2 w3 far us) 60 false):=by
 obtain ⟨h1,aO⟩:=eH (h:=h) (ar.cells (au mi w0 w1 w2 w3 far us) 60 false)
 have aK:=bI aw aO
 have bm:h1.nx=h.nx+1:=by rw[cW aO]
 have aD:=bu aw aO
 have aC:=bU aO
 exact ⟨h1,aR (n:=200) (NN aO (fun i=>(AV.ptr i 0))<|CN 3<|MM (aJ 3 6 (af us) aC k!)<|VV (bQ 3 false true .i64 us 0)<|BB q2<|CC<|ZZ) k!,aK,aD,bm,aC⟩
theorem ac7 {call:aE} {h:ah} {mi:Bool} {w0 w1 w2 w3 us:Int} {far:AV} (aw:Tidy h) (ES:0≤h.nx) (q2:(decide (us=0))=false) (q3:mi=true):
 ∃(h1:ah),Ev env call yC ⟨((AV.agg (au mi w0 w1 w2 w3 far us))::aV 8),h,[],.no⟩ .ret ⟨[(AV.agg (au mi w0 w1 w2 w3 far us)),(AV.ptr h.nx 0),(af (-1)),(AV.ptr h.nx 1),(AV.ptr h.nx 6),(af us),(aj (decide (us=0))),(AV.ptr h.nx 0),(aj mi)],h1,[],.no⟩∧Tidy h1∧Has h h1∧h1.nx=h.nx+1∧h1.get h.nx=some (ar.cells (au mi w0 w1 w2 w3 far us) 60 false):=by
 obtain ⟨h1,aO⟩:=eH (h:=h) (ar.cells (au mi w0 w1 w2 w3 far us) 60 false)
 have aK:=bI aw aO
 have bm:h1.nx=h.nx+1:=by rw[cW aO]
 have aD:=bu aw aO
 have aC:=bU aO
 exact ⟨h1,aR (n:=200) (NN aO (fun i=>(AV.ptr i 0))<|CN 3<|MM (aJ 3 6 (af us) aC k!)<|VV (bQ 3 false true .i64 us 0)<|BB q2<|CC<|MM (aJ 4 0 (aj mi) aC k!)<|BB q3<|CC<|ZZ) k!,aK,aD,bm,aC⟩
theorem ac8 {call:aE} {h:ah} {mi:Bool} {w0 w1 w2 w3 us:Int} {far:AV} (aw:Tidy h) (ES:0≤h.nx) (q2:(decide (us=0))=false) (q3:mi=false):
 ∃(h1:ah),Ev env call yC ⟨((AV.agg (au mi w0 w1 w2 w3 far us))::aV 8),h,[],.no⟩ .ret ⟨[(AV.agg (au mi w0 w1 w2 w3 far us)),(AV.ptr h.nx 0),(af 1),(AV.ptr h.nx 1),(AV.ptr h.nx 6),(af us),(aj (decide (us=0))),(AV.ptr h.nx 0),(aj mi)],h1,[],.no⟩∧Tidy h1∧Has h h1∧h1.nx=h.nx+1∧h1.get h.nx=some (ar.cells (au mi w0 w1 w2 w3 far us) 60 false):=by
 obtain ⟨h1,aO⟩:=eH (h:=h) (ar.cells (au mi w0 w1 w2 w3 far us) 60 false)
 have aK:=bI aw aO
 have bm:h1.nx=h.nx+1:=by rw[cW aO]
 have aD:=bu aw aO
 have aC:=bU aO
 exact ⟨h1,aR (n:=200) (NN aO (fun i=>(AV.ptr i 0))<|CN 3<|MM (aJ 3 6 (af us) aC k!)<|VV (bQ 3 false true .i64 us 0)<|BB q2<|CC<|MM (aJ 4 0 (aj mi) aC k!)<|BB q3<|CC<|ZZ) k!,aK,aD,bm,aC⟩
theorem Hh {d:Nat} {h:ah} {cs:List AV} {neg:Bool} {l:List Nat} (hw:cj h cs neg l) (hy:Tidy h) (po:0≤h.nx):
 aQ (d+1) (.fn 21) [.agg cs] h= .ret (.int .i64 (if l=[] then 0 else if neg then -1 else 1)) h:=by
 obtain ⟨w0,w1,w2,w3,us,far,rfl,sc,wf,hc⟩:=hw
 obtain ⟨h5,_⟩:=id hc
 obtain rfl:us=(l.length:Nat):=by simpa using h5
 by_cases q:l=[]
 · subst q
   rw[if_pos rfl]
   obtain ⟨h1,ev,y1,a1,_⟩:=ac6 (call:=aQ d) (mi:=neg) (w0:=w0) (w1:=w1) (w2:=w2) (w3:=w3) (far:=far) hy po (dT (show (((([]:List Nat).length:Nat)):Int)=0 from rfl))
   exact ai rfl (az Tryz.func21 Sp k! (.inr rfl) ev k!) a1 rfl
 · have q':¬((l.length:Nat):Int)=0:=fun e=>q (List.length_eq_zero_iff.1 o!)
   rw[if_neg q]
   cases neg with
   | true=>
    obtain ⟨h1,ev,y1,a1,_⟩:=ac7 (call:=aQ d) (mi:=true) (w0:=w0) (w1:=w1) (w2:=w2) (w3:=w3) (far:=far) hy po (dF q') rfl
    exact ai rfl (az Tryz.func21 Sp k! (.inr rfl) ev k!) a1 rfl
   | false=>
    obtain ⟨h1,ev,y1,a1,_⟩:=ac8 (call:=aQ d) (mi:=false) (w0:=w0) (w1:=w1) (w2:=w2) (w3:=w3) (far:=far) hy po (dF q') rfl
    exact ai rfl (az Tryz.func21 Sp k! (.inr rfl) ev k!) a1 rfl
noncomputable def lM:Code:=(Tryz.f48.body).getD .skip
theorem xj:Tryz.f48.body=some lM:=by kernel_rfl
theorem uW {d:Nat} {h:ah} {neg:Bool} {R:List AV} {l:List Nat} (hw:cj h (.bool neg::R) neg l) (hy:Tidy h):
 aQ (d+1) (.fn 80) [.agg (.bool neg::R)] h= .ret (.agg (.bool false::R)) h∧cj h (.bool false::R) false l:=by
 obtain ⟨w0,w1,w2,w3,us,far,e,sc,wf,hc⟩:=hw
 obtain rfl:=(List.cons.inj e).2
 have wv:AV.within h.nx 20 (.agg [.bool false,.int .u64 w0,.int .u64 w1,.int .u64 w2,.int .u64 w3,far,.int .i64 us])=true:=by
  show (List.all [_,_,_,_,_,far,_] (AV.within h.nx 19))=true
  simp only[List.all_cons,List.all_nil,wf,Bool.and_true,Bool.true_and]
  rfl
 obtain ⟨h1,h2,h3,h4,ev,y1,a1,_,g1,g2⟩:=Pa (call:=aQ d) (mi:=neg) (w0:=w0) (w1:=w1) (w2:=w2) (w3:=w3) (far:=far) (us:=us) hy (Nat.zero_le _) sc
 exact ⟨ai rfl (bn (a:=2) (t:=60) (v:=AV.agg [AV.bool false,AV.int .u64 w0,AV.int .u64 w1,AV.int .u64 w2,AV.int .u64 w3,far,AV.int .i64 us]) Tryz.func80 Sn k! (.inr rfl) ev k! (aN g2 k!)) a1 wv,w0,w1,w2,w3,us,far,rfl,sc,wf,hc.aef⟩
theorem yD {n m:Nat} (h:n≤m):∀(k:Nat) {v:AV},AV.within n k v=true→AV.within m k v=true
 | 0,_,hv=>by cases hv
 | k+1,v,hv=>by
  cases v with
  | ptr i o=>simp only[AV.within,decide_eq_true_eq] at *;omega
  | slice i o l c b=>simp only[AV.within,decide_eq_true_eq] at *;omega
  | map i=>simp only[AV.within,decide_eq_true_eq] at *;omega
  | iface t v=>simp only[AV.within] at *;exact yD h k hv
  | agg cs=>simp only[AV.within,List.all_eq_true] at *;exact fun x hx=>yD h k (hv x hx)
  | tuple cs=>simp only[AV.within,List.all_eq_true] at *;exact fun x hx=>yD h k (hv x hx)
  | _=>exact hv
theorem cj.has {h h':ah} {cs:List AV} {neg:Bool} {l:List Nat} (w:cj h cs neg l) (a:Has h h') (hn:h.nx≤h'.nx):cj h' cs neg l:=by
 obtain ⟨w0,w1,w2,w3,us,far,e,sc,wf,hc⟩:=w
 exact ⟨w0,w1,w2,w3,us,far,e,sc,yD hn 19 wf,hc.has a⟩
theorem Hj {d:Nat} {h:ah} {p:Nat} {cs:List AV} {neg:Bool} {l:List Nat} (w:cj h cs neg l):
 ∃r,(∀hh f ro p',p'=p→Has h hh→hh.get p'=some (.cells cs f ro)→aQ (d+1) (.fn 79) [.ptr p' 1] hh= .ret r hh∧ao env hh .u64 54 r l)∧∀q,q≠p→h.nx≤q→mj q r:=by
 obtain ⟨w0,w1,w2,w3,us,far,rfl,sc,wf,hc⟩:=w
 have h5:=hc.1
 obtain rfl:us=(l.length:Nat):=by simpa using h5
 rcases hc.2 with ⟨h4,hl,hh'⟩ | ⟨q,oo,n,c,b,l',h4,hn,hl⟩
 · obtain rfl:far= .ax:=by simpa using h4
   refine ⟨.slice p 1 l.length 4 false,fun hh f ro p' hp' a hg=>⟨by subst hp';exact Jo hg rfl rfl hl,by subst hp';exact ao.of k! k! o! hl (by simp) hg hh'⟩,fun q hq _ o n c b e=>by cases e;exact hq rfl⟩
 · obtain rfl:far= .slice q oo n c b:=by simpa using h4
   have hle:l.length≤l'.length:=by rw[hl];simp;omega
   obtain ⟨r,e1,e2,e3⟩:=hn.slice (t:=56) k! none (some (.int .i64 (l.length:Nat))) (.inr ⟨rfl,rfl⟩) (.inl rfl) (Nat.zero_le _) hle o!
   rw[List.drop_zero,←hl] at e2
   refine ⟨r,fun hh f ro p' hp' a hg=>⟨?_,e2.has a⟩,fun z hz hq=>e3 z fun o n c b e=>?_⟩
   · subst hp'
     have ld:∀(t:TypeId) (j:Nat) (v:AV),iS env t=some false→ [AV.bool neg,.int .u64 w0,.int .u64 w1,.int .u64 w2,.int .u64 w3,.slice q oo n c b,.int .i64 ((l.length:Nat):Int)][1+j]? =some v→bk env hh t (.ptr p' (1+j))=some v:=fun t j v ha hv=>aN hg (by simp only[jX,ha,hv])
     exact fP rfl (az Tryz.func79 C9 k! (.inr rfl) (Az (o:=1) (ld 56 4 _ k! rfl) (ld 2 5 _ k! rfl) e1) k!)
   · cases e
     have:=of_decide_eq_true (show decide (q<h.nx)=true from wf)
     omega
theorem B6 {d:Nat} {h:ah} {csx csy:List AV} {nx ny:Bool} {X Y:Nat} (hx:cj h csx nx (aq X)) (hy:cj h csy ny (aq Y)) (hlx:(aq X).length<134217728) (W6:(aq Y).length<134217728) (aw:Tidy h):
 ∃cs hk,aQ (d+9) (.fn 48) [.agg csx,.agg csy] h= .ret (.agg cs) hk∧Grow h hk∧cj hk cs false (aq (Nat.gcd X Y)):=by
 obtain ⟨du,dx,dy,dz,kH,aW,rfl,scx,wfx,hcx⟩:=id hx
 obtain ⟨lN,lO,lP,lS,lT,dG,rfl,scy,wfy,hcy⟩:=id hy
 obtain ⟨ra,xV,ora⟩:=Hj (d:=d+7) (p:=h.nx) hx
 obtain ⟨rb,CU,orb⟩:=Hj (d:=d+7) (p:=h.nx+1) hy
 by_cases hX:aq X=[]
 · have X0:X=0:=dZ.1 hX
   have X1:(aq X).length=0:=by rw[hX];rfl
   rw[X0,Nat.gcd_zero_left]
   obtain ⟨kp,hp⟩:=uW (d:=d+7) hy aw
   obtain ⟨h1,aO,aK,bm,aC,ck⟩:=de aw (ar.cells (au nx du dx dy dz aW kH) 60 false)
   have aD:Has h h1:=ck
   obtain ⟨h2,bD,bP,iA,bB,b8⟩:=de aK (ar.cells (au ny lN lO lP lS dG lT) 60 false)
   have b7:=aD.trans b8
   obtain ⟨h3,gn,bt,ky,eb,bC⟩:=de bP (ar.cells (au false 0 0 0 0 bE 0) 60 false)
   have aX:=b7.trans bC
   have q4:=dg ((((aq X).length:Nat):Int)=0)
   have agq:=(uW (d:=d+7) (hy.has aX o!) bt).1
   have sc6:AV.scalar dG=true:=scy
   obtain ⟨h5,pz,fA,wM,lu,iO⟩:=b9 (t:=60) (n:=7) (i:=h2.nx) (L:=(au false lN lO lP lS dG lT)) bt eb k! rfl rfl z!
   have ep:=Has.ak aX iO aw o!
   have ev:=pk (d+8) lM ((AV.agg (au nx du dx dy dz aW kH))::(AV.agg (au ny lN lO lP lS dG lT))::aV 45) h .ret h5 (NN aO (fun i=>(AV.ptr i 0))<|NN bD (fun i=>(AV.ptr i 0))<|NN gn (fun i=>(AV.ptr i 0))<|CC<|EE (show (aQ (d+8)) (.fn 79) [(AV.ptr h.nx 1)] h3= .ret ra h3 from (xV _ _ _ _ rfl aX (bC _ _ (b8 _ _ aC))).1)<|CC<|EE (show (aQ (d+8)) (.fn 79) [(AV.ptr h1.nx 1)] h3= .ret rb h3 from (CU _ _ _ _ bm aX (bC _ _ bB)).1)<|CN 3<|VV ((xV _ _ _ _ rfl aX (bC _ _ (b8 _ _ aC))).2).len<|VV (bQ 3 false true .i64 (((aq X).length:Nat):Int) 0)<|CC<|BB q4<|MM (aJ 60 0 (AV.agg (au ny lN lO lP lS dG lT)) (bC _ _ bB) k!)<|EE agq<|SS pz<|ZZ) k!
   have wp:=(hp.has ep o!)
   exact ⟨_,aU rfl (bn (a:=4) (t:=60) Tryz.func48 xj k! (.inr rfl) ev k! (aN lu k!)) aw ⟨fA,ep,by omega⟩ (P:=fun hh=>cj hh _ _ _) wp fun _=>hp⟩
 have hXp:0<(aq X).length:=List.length_pos_iff.2 hX
 have Ek:X≠0:=fun e=>hX (dZ.2 e)
 by_cases hY:aq Y=[]
 · have Y0:Y=0:=dZ.1 hY
   have Y1:(aq Y).length=0:=by rw[hY];rfl
   rw[Y0,Nat.gcd_zero_right]
   obtain ⟨kp,hp⟩:=uW (d:=d+7) hx aw
   obtain ⟨h1,aO,aK,bm,aC,ck⟩:=de aw (ar.cells (au nx du dx dy dz aW kH) 60 false)
   have aD:Has h h1:=ck
   obtain ⟨h2,bD,bP,iA,bB,b8⟩:=de aK (ar.cells (au ny lN lO lP lS dG lT) 60 false)
   have b7:=aD.trans b8
   obtain ⟨h3,gn,bt,ky,eb,bC⟩:=de bP (ar.cells (au false 0 0 0 0 bE 0) 60 false)
   have aX:=b7.trans bC
   have q4:=cI ((((aq X).length:Nat):Int)=0)
   have q5:=dg ((((aq Y).length:Nat):Int)=0)
   have agq:=(uW (d:=d+7) (hx.has aX o!) bt).1
   have sc7:AV.scalar aW=true:=scx
   obtain ⟨h6,AD,dh,wP,j9,qv⟩:=b9 (t:=60) (n:=7) (i:=h2.nx) (L:=(au false du dx dy dz aW kH)) bt eb k! rfl rfl z!
   have dK:=Has.ak aX qv aw o!
   have ev:=pk (d+8) lM ((AV.agg (au nx du dx dy dz aW kH))::(AV.agg (au ny lN lO lP lS dG lT))::aV 45) h .ret h6 (NN aO (fun i=>(AV.ptr i 0))<|NN bD (fun i=>(AV.ptr i 0))<|NN gn (fun i=>(AV.ptr i 0))<|CC<|EE (show (aQ (d+8)) (.fn 79) [(AV.ptr h.nx 1)] h3= .ret ra h3 from (xV _ _ _ _ rfl aX (bC _ _ (b8 _ _ aC))).1)<|CC<|EE (show (aQ (d+8)) (.fn 79) [(AV.ptr h1.nx 1)] h3= .ret rb h3 from (CU _ _ _ _ bm aX (bC _ _ bB)).1)<|CN 3<|VV ((xV _ _ _ _ rfl aX (bC _ _ (b8 _ _ aC))).2).len<|VV (bQ 3 false true .i64 (((aq X).length:Nat):Int) 0)<|CC<|BB q4<|CC<|VV ((CU _ _ _ _ bm aX (bC _ _ bB)).2).len<|VV (bQ 3 false true .i64 (((aq Y).length:Nat):Int) 0)<|CC<|BB q5<|MM (aJ 60 0 (AV.agg (au nx du dx dy dz aW kH)) (bC _ _ (b8 _ _ aC)) k!)<|EE agq<|SS AD<|ZZ) k!
   have wp:=(hp.has dK o!)
   exact ⟨_,aU rfl (bn (a:=4) (t:=60) Tryz.func48 xj k! (.inr rfl) ev k! (aN j9 k!)) aw ⟨dh,dK,by omega⟩ (P:=fun hh=>cj hh _ _ _) wp fun _=>hp⟩
 have hYp:0<(aq Y).length:=List.length_pos_iff.2 hY
 have Fm:Y≠0:=fun e=>hY (dZ.2 e)
 by_cases hb:(aq X).length=1∧(aq Y).length=1
 · obtain ⟨b1,b2⟩:=hb
   have bX:X<18446744073709551616:=by have:=nJ X;rw[b1] at this;exact this
   have bY:Y<18446744073709551616:=by have:=nJ Y;rw[b2] at this;exact this
   have eX:(aq X).getD 0 0=X:=by rw[eK Ek bX];rfl
   have eY:(aq Y).getD 0 0=Y:=by rw[eK Fm bY];rfl
   have hgl:Nat.gcd X Y<18446744073709551616:=Nat.lt_of_le_of_lt (Nat.le_of_dvd (Nat.pos_of_ne_zero Ek) (Nat.gcd_dvd_left _ _)) bX
   obtain ⟨h1,aO,aK,bm,aC,ck⟩:=de aw (ar.cells (au nx du dx dy dz aW kH) 60 false)
   have aD:Has h h1:=ck
   obtain ⟨h2,bD,bP,iA,bB,b8⟩:=de aK (ar.cells (au ny lN lO lP lS dG lT) 60 false)
   have b7:=aD.trans b8
   obtain ⟨h3,gn,bt,ky,eb,bC⟩:=de bP (ar.cells (au false 0 0 0 0 bE 0) 60 false)
   have aX:=b7.trans bC
   have q4:=cI ((((aq X).length:Nat):Int)=0)
   have q5:=cI ((((aq Y).length:Nat):Int)=0)
   have q6:=dg ((((aq X).length:Nat):Int)=1)
   have q7:=dg ((((aq Y).length:Nat):Int)=1)
   obtain ⟨p8,q9,agr,ags⟩:=((xV _ _ _ _ rfl aX (bC _ _ (b8 _ _ aC))).2).j8 0 (show 0<(aq X).length by omega)
   rw[eX] at ags
   obtain ⟨p12,W5,Ha,agt⟩:=((CU _ _ _ _ bm aX (bC _ _ bB)).2).j8 0 (show 0<(aq Y).length by omega)
   rw[eY] at agt
   have kg:=uV (d:=d+7) (h:=h3) X Y bX bY
   obtain ⟨Uk,aiU,mL,O4,mM,aeV⟩:=de bt (ar.cells [(ae (Nat.gcd X Y))] 54 false)
   have nv:=aX.trans aeV
   obtain ⟨cs,E0,BY,gG,zv⟩:=tq (d:=d+5) (v:=Nat.gcd X Y) (qw (k:=Nat.gcd X Y) (c:=0) mM rfl) (Words.one hgl) (by simp [ay]) mL (by simp)
   have ij:=gG.y
   have aaf:=gG.n
   obtain ⟨w0,w1,w2,w3,far,rfl,sc,hc,hf⟩:=id zv
   have iE:=nv.trans gG.a
   have ank:AV.scalar far=true:=sc
   obtain ⟨h18,Pb,xk,aeW,Pc,xm⟩:=b9 (t:=60) (n:=7) (i:=h2.nx) (L:=(bz false w0 w1 w2 w3 far ((aq (Nat.gcd X Y)).length))) ij (gG.a _ _ (aeV _ _ eb)) k! rfl rfl z!
   have zU:=Has.ak iE xm aw o!
   have ev:=pk (d+8) lM ((AV.agg (au nx du dx dy dz aW kH))::(AV.agg (au ny lN lO lP lS dG lT))::aV 45) h .ret h18 (NN aO (fun i=>(AV.ptr i 0))<|NN bD (fun i=>(AV.ptr i 0))<|NN gn (fun i=>(AV.ptr i 0))<|CC<|EE (show (aQ (d+8)) (.fn 79) [(AV.ptr h.nx 1)] h3= .ret ra h3 from (xV _ _ _ _ rfl aX (bC _ _ (b8 _ _ aC))).1)<|CC<|EE (show (aQ (d+8)) (.fn 79) [(AV.ptr h1.nx 1)] h3= .ret rb h3 from (CU _ _ _ _ bm aX (bC _ _ bB)).1)<|CN 3<|VV ((xV _ _ _ _ rfl aX (bC _ _ (b8 _ _ aC))).2).len<|VV (bQ 3 false true .i64 (((aq X).length:Nat):Int) 0)<|CC<|BB q4<|CC<|VV ((CU _ _ _ _ bm aX (bC _ _ bB)).2).len<|VV (bQ 3 false true .i64 (((aq Y).length:Nat):Int) 0)<|CC<|BB q5<|CC<|VV ((xV _ _ _ _ rfl aX (bC _ _ (b8 _ _ aC))).2).len<|VV (bQ 3 false true .i64 (((aq X).length:Nat):Int) 1)<|CC<|BB q6<|CC<|BB q6<|VV ((CU _ _ _ _ bm aX (bC _ _ bB)).2).len<|BB q6<|VV (bQ 3 false true .i64 (((aq Y).length:Nat):Int) 1)<|VV (aG (a:=some (aj (decide ((((aq Y).length:Nat):Int)=1)))) (b:=some (aj false)) q6)<|CC<|BB q7<|CC<|VV agr<|MM ags<|CC<|VV Ha<|MM agt<|EE kg<|NN aiU (fun i=>(AV.slice i 0 1 1 false))<|EE (show (aQ (d+8)) (.fn 46) [(aj false),(AV.slice h3.nx 0 1 1 false)] Uk= .ret (AV.agg (bz false w0 w1 w2 w3 far ((aq (Nat.gcd X Y)).length))) E0 from BY)<|SS Pb<|HH ags<|HH (show AV.same 20 (ae X) (ae X)=true from aP 19 _ _)<|HH agt<|HH (show AV.same 20 (ae Y) (ae Y)=true from aP 19 _ _)<|HH (show ∃o,Uk.get h3.nx=some o∧ar.same o (ar.cells [(ae (Nat.gcd X Y))] 54 false)=true from ⟨_,mM,by simp [ar.same,dL,AV.same]⟩)<|ZZ) k!
   have GB:=(zv.kept xm o! o!)
   exact ⟨_,aU rfl (bn (a:=4) (t:=60) Tryz.func48 xj k! (.inr rfl) ev k! (aN Pc k!)) aw ⟨xk,zU,by omega⟩ (P:=fun hh=>cj hh _ _ _) GB.whole fun v=>GB.old o! v⟩
 · by_cases b1:(aq X).length=1
   · have b2:¬(aq Y).length=1:=fun e=>hb ⟨b1,e⟩
     obtain ⟨h1,aO,aK,bm,aC,ck⟩:=de aw (ar.cells (au nx du dx dy dz aW kH) 60 false)
     have aD:Has h h1:=ck
     obtain ⟨h2,bD,bP,iA,bB,b8⟩:=de aK (ar.cells (au ny lN lO lP lS dG lT) 60 false)
     have b7:=aD.trans b8
     obtain ⟨h3,gn,bt,ky,eb,bC⟩:=de bP (ar.cells (au false 0 0 0 0 bE 0) 60 false)
     have aX:=b7.trans bC
     have q4:=cI ((((aq X).length:Nat):Int)=0)
     have q5:=cI ((((aq Y).length:Nat):Int)=0)
     have q6:=dg ((((aq X).length:Nat):Int)=1)
     have q7:=cI ((((aq Y).length:Nat):Int)=1)
     obtain ⟨h8,aag,xp⟩:=append_nil (h:=h3) (tys:= #[56,56]) rfl rfl k! k! k! (bytes:=8) k! (z:=AV.int .u64 0) k! rfl (by decide) (xV _ _ _ _ rfl aX (bC _ _ (b8 _ _ aC))).2 hX o!
     have eQ:=bI bt xp
     have BE:=cW xp
     have nI:=bU xp
     have jl:=aX.trans (bu bt xp)
     have Ln:=(bu bt xp)
     obtain ⟨h9,aiV,zc⟩:=append_nil (h:=h8) (tys:= #[56,56]) rfl rfl k! k! k! (bytes:=8) k! (z:=AV.int .u64 0) k! rfl (by decide) (CU _ _ _ _ bm jl (b6 bt xp (bC _ _ bB))).2 hY o!
     have gR:=bI eQ zc
     have GY:=cW zc
     have pH:=bU zc
     have nm:=jl.trans (bu eQ zc)
     have ac9:=Ln.trans (bu eQ zc)
     obtain ⟨rr,lx,oh,cJ,nr⟩:=tP (d:=d) (hb:=h3) (h:=h9) (px:=h3.nx) (py:=h8.nx) (X:=X) (Y:=Y) bt ⟨gR,ac9,by omega⟩ (xv:=(AV.slice h3.nx 0 ((aq X).length) ((aq X).length) true)) (yv:=(AV.slice h8.nx 0 ((aq Y).length) ((aq Y).length) true)) ⟨(aq X).length,true,_,rfl,(b6 eQ zc nI),Holds.self _ _,Nat.le_refl _,by rw[aM];omega,by omega⟩ ⟨(aq Y).length,true,_,rfl,pH,Holds.self _ _,Nat.le_refl _,by rw[aM];omega,by omega⟩ o! o! o! Ek Fm hlx W6
     have dE:=cJ.y
     have Ep:=cJ.n
     have dm:=aX.trans cJ.a
     obtain ⟨cs,ki,j0,cu,zv⟩:=tq (d:=d+5) (v:=Nat.gcd X Y) nr (bH _) (cd _) dE (by have:=bG (Nat.le_of_dvd (Nat.pos_of_ne_zero Ek) (Nat.gcd_dvd_left X Y));omega)
     have cS:=cu.y
     have B7:=cu.n
     obtain ⟨w0,w1,w2,w3,far,rfl,sc,hc,hf⟩:=id zv
     have cP:=dm.trans cu.a
     have aah:AV.scalar far=true:=sc
     obtain ⟨sZ,qN,dH,vr,gS,fh⟩:=b9 (t:=60) (n:=7) (i:=h2.nx) (L:=(bz false w0 w1 w2 w3 far ((aq (Nat.gcd X Y)).length))) cS (cu.a _ _ (cJ.a _ _ eb)) k! rfl rfl z!
     have dV:=Has.ak cP fh aw o!
     have ev:=pk (d+8) lM ((AV.agg (au nx du dx dy dz aW kH))::(AV.agg (au ny lN lO lP lS dG lT))::aV 45) h .ret sZ (NN aO (fun i=>(AV.ptr i 0))<|NN bD (fun i=>(AV.ptr i 0))<|NN gn (fun i=>(AV.ptr i 0))<|CC<|EE (show (aQ (d+8)) (.fn 79) [(AV.ptr h.nx 1)] h3= .ret ra h3 from (xV _ _ _ _ rfl aX (bC _ _ (b8 _ _ aC))).1)<|CC<|EE (show (aQ (d+8)) (.fn 79) [(AV.ptr h1.nx 1)] h3= .ret rb h3 from (CU _ _ _ _ bm aX (bC _ _ bB)).1)<|CN 3<|VV ((xV _ _ _ _ rfl aX (bC _ _ (b8 _ _ aC))).2).len<|VV (bQ 3 false true .i64 (((aq X).length:Nat):Int) 0)<|CC<|BB q4<|CC<|VV ((CU _ _ _ _ bm aX (bC _ _ bB)).2).len<|VV (bQ 3 false true .i64 (((aq Y).length:Nat):Int) 0)<|CC<|BB q5<|CC<|VV ((xV _ _ _ _ rfl aX (bC _ _ (b8 _ _ aC))).2).len<|VV (bQ 3 false true .i64 (((aq X).length:Nat):Int) 1)<|CC<|BB q6<|CC<|BB q6<|VV ((CU _ _ _ _ bm aX (bC _ _ bB)).2).len<|BB q6<|VV (bQ 3 false true .i64 (((aq Y).length:Nat):Int) 1)<|VV (aG (a:=some (aj (decide ((((aq Y).length:Nat):Int)=1)))) (b:=some (aj false)) q6)<|CC<|BB q7<|CC<|PP (show dI env h3 #[56,56] bE ra=some ((AV.slice h3.nx 0 ((aq X).length) ((aq X).length) true),h8) from aag)<|CC<|PP (show dI env h8 #[56,56] bE rb=some ((AV.slice h8.nx 0 ((aq Y).length) ((aq Y).length) true),h9) from aiV)<|EE (show (aQ (d+8)) (.fn 82) [(AV.slice h3.nx 0 ((aq X).length) ((aq X).length) true),(AV.slice h8.nx 0 ((aq Y).length) ((aq Y).length) true)] h9= .ret rr lx from oh)<|EE (show (aQ (d+8)) (.fn 46) [(aj false),rr] lx= .ret (AV.agg (bz false w0 w1 w2 w3 far ((aq (Nat.gcd X Y)).length))) ki from j0)<|SS qN<|ZZ) k!
     have GB:=(zv.kept fh o! o!)
     exact ⟨_,aU rfl (bn (a:=4) (t:=60) Tryz.func48 xj k! (.inr rfl) ev k! (aN gS k!)) aw ⟨dH,dV,by omega⟩ (P:=fun hh=>cj hh _ _ _) GB.whole fun v=>GB.old o! v⟩
   · obtain ⟨h1,aO,aK,bm,aC,ck⟩:=de aw (ar.cells (au nx du dx dy dz aW kH) 60 false)
     have aD:Has h h1:=ck
     obtain ⟨h2,bD,bP,iA,bB,b8⟩:=de aK (ar.cells (au ny lN lO lP lS dG lT) 60 false)
     have b7:=aD.trans b8
     obtain ⟨h3,gn,bt,ky,eb,bC⟩:=de bP (ar.cells (au false 0 0 0 0 bE 0) 60 false)
     have aX:=b7.trans bC
     have q4:=cI ((((aq X).length:Nat):Int)=0)
     have q5:=cI ((((aq Y).length:Nat):Int)=0)
     have q6:=cI ((((aq X).length:Nat):Int)=1)
     obtain ⟨h7,B8,IK⟩:=append_nil (h:=h3) (tys:= #[56,56]) rfl rfl k! k! k! (bytes:=8) k! (z:=AV.int .u64 0) k! rfl (by decide) (xV _ _ _ _ rfl aX (bC _ _ (b8 _ _ aC))).2 hX o!
     have eC:=bI bt IK
     have EV:=cW IK
     have rN:=bU IK
     have eJ:=aX.trans (bu bt IK)
     have ada:=(bu bt IK)
     obtain ⟨h8,aag,xp⟩:=append_nil (h:=h7) (tys:= #[56,56]) rfl rfl k! k! k! (bytes:=8) k! (z:=AV.int .u64 0) k! rfl (by decide) (CU _ _ _ _ bm eJ (b6 bt IK (bC _ _ bB))).2 hY o!
     have eQ:=bI eC xp
     have BE:=cW xp
     have nI:=bU xp
     have jl:=eJ.trans (bu eC xp)
     have Ln:=ada.trans (bu eC xp)
     obtain ⟨rr,h9,Dq,qO,nr⟩:=tP (d:=d) (hb:=h3) (h:=h8) (px:=h3.nx) (py:=h7.nx) (X:=X) (Y:=Y) bt ⟨eQ,Ln,by omega⟩ (xv:=(AV.slice h3.nx 0 ((aq X).length) ((aq X).length) true)) (yv:=(AV.slice h7.nx 0 ((aq Y).length) ((aq Y).length) true)) ⟨(aq X).length,true,_,rfl,(b6 eC xp rN),Holds.self _ _,Nat.le_refl _,by rw[aM];omega,by omega⟩ ⟨(aq Y).length,true,_,rfl,nI,Holds.self _ _,Nat.le_refl _,by rw[aM];omega,by omega⟩ o! o! o! Ek Fm hlx W6
     have gR:=qO.y
     have aai:=qO.n
     have nm:=aX.trans qO.a
     obtain ⟨cs,lx,oh,cJ,zv⟩:=tq (d:=d+5) (v:=Nat.gcd X Y) nr (bH _) (cd _) gR (by have:=bG (Nat.le_of_dvd (Nat.pos_of_ne_zero Ek) (Nat.gcd_dvd_left X Y));omega)
     have dE:=cJ.y
     have Ep:=cJ.n
     obtain ⟨w0,w1,w2,w3,far,rfl,sc,hc,hf⟩:=id zv
     have dm:=nm.trans cJ.a
     have adb:AV.scalar far=true:=sc
     obtain ⟨ki,tL,cS,xa,iD,g8⟩:=b9 (t:=60) (n:=7) (i:=h2.nx) (L:=(bz false w0 w1 w2 w3 far ((aq (Nat.gcd X Y)).length))) dE (cJ.a _ _ (qO.a _ _ eb)) k! rfl rfl z!
     have cP:=Has.ak dm g8 aw o!
     have ev:=pk (d+8) lM ((AV.agg (au nx du dx dy dz aW kH))::(AV.agg (au ny lN lO lP lS dG lT))::aV 45) h .ret ki (NN aO (fun i=>(AV.ptr i 0))<|NN bD (fun i=>(AV.ptr i 0))<|NN gn (fun i=>(AV.ptr i 0))<|CC<|EE (show (aQ (d+8)) (.fn 79) [(AV.ptr h.nx 1)] h3= .ret ra h3 from (xV _ _ _ _ rfl aX (bC _ _ (b8 _ _ aC))).1)<|CC<|EE (show (aQ (d+8)) (.fn 79) [(AV.ptr h1.nx 1)] h3= .ret rb h3 from (CU _ _ _ _ bm aX (bC _ _ bB)).1)<|CN 3<|VV ((xV _ _ _ _ rfl aX (bC _ _ (b8 _ _ aC))).2).len<|VV (bQ 3 false true .i64 (((aq X).length:Nat):Int) 0)<|CC<|BB q4<|CC<|VV ((CU _ _ _ _ bm aX (bC _ _ bB)).2).len<|VV (bQ 3 false true .i64 (((aq Y).length:Nat):Int) 0)<|CC<|BB q5<|CC<|VV ((xV _ _ _ _ rfl aX (bC _ _ (b8 _ _ aC))).2).len<|VV (bQ 3 false true .i64 (((aq X).length:Nat):Int) 1)<|CC<|BB q6<|BB q6<|BB q6<|VV (aL (a:=some aB) (b:=some (aj false)) q6)<|CC<|FF<|CC<|PP (show dI env h3 #[56,56] bE ra=some ((AV.slice h3.nx 0 ((aq X).length) ((aq X).length) true),h7) from B8)<|CC<|PP (show dI env h7 #[56,56] bE rb=some ((AV.slice h7.nx 0 ((aq Y).length) ((aq Y).length) true),h8) from aag)<|EE (show (aQ (d+8)) (.fn 82) [(AV.slice h3.nx 0 ((aq X).length) ((aq X).length) true),(AV.slice h7.nx 0 ((aq Y).length) ((aq Y).length) true)] h8= .ret rr h9 from Dq)<|EE (show (aQ (d+8)) (.fn 46) [(aj false),rr] h9= .ret (AV.agg (bz false w0 w1 w2 w3 far ((aq (Nat.gcd X Y)).length))) lx from oh)<|SS tL<|ZZ) k!
     have GB:=(zv.kept g8 o! o!)
     exact ⟨_,aU rfl (bn (a:=4) (t:=60) Tryz.func48 xj k! (.inr rfl) ev k! (aN iD k!)) aw ⟨cS,cP,by omega⟩ (P:=fun hh=>cj hh _ _ _) GB.whole fun v=>GB.old o! v⟩
noncomputable def uX:Code:=(Tryz.f47.body).getD .skip
theorem Lp:Tryz.f47.body=some uX:=by kernel_rfl
theorem aaj {call:aE} {h:ah} {mi:Bool} {w0 w1 w2 w3 us:Int} {far:AV} {y4:AV} {p6 p7:Nat} {y9:Int} (aw:Tidy h) (ES:0≤h.nx) (q2:(decide (us=1))=true) (q3:(!mi)=true) (k5:∀hh,Tidy hh→Has h hh→(h.nx≤hh.nx∧0≤hh.nx)→hh.get h.nx=some (ar.cells (au mi w0 w1 w2 w3 far us) 60 false)→call (.fn 79) [(AV.ptr h.nx 1)] hh= .ret y4 hh) (c8:bq env (some (.slice 54)) (some y4) (some (af 0))=some (AV.ptr p6 p7)) (VH:∀hh,Has h hh→hh.get h.nx=some (ar.cells (au mi w0 w1 w2 w3 far us) 60 false)→bk env hh 54 (AV.ptr p6 p7)=some (aa y9)):
 ∃(h1:ah),Ev env call uX ⟨((AV.agg (au mi w0 w1 w2 w3 far us))::aV 18),h,[],.no⟩ .ret ⟨[(AV.agg (au mi w0 w1 w2 w3 far us)),(AV.ptr h.nx 0),(aj (decide (y9=1))),(AV.ptr h.nx 1),(AV.ptr h.nx 6),(af us),(aj (decide (us=1))),(aj (decide (us=1))),(AV.ptr h.nx 0),(aj mi),(aj (!mi)),(aj (!mi)),(aj (!mi)),(AV.ptr h.nx 1),y4,(AV.ptr p6 p7),(aa y9),(aj (decide (y9=1))),(aj (decide (y9=1)))],h1,[],.no⟩∧Tidy h1∧Has h h1∧h1.nx=h.nx+1∧h1.get h.nx=some (ar.cells (au mi w0 w1 w2 w3 far us) 60 false):=by
 obtain ⟨h1,aO⟩:=eH (h:=h) (ar.cells (au mi w0 w1 w2 w3 far us) 60 false)
 have aK:=bI aw aO
 have bm:h1.nx=h.nx+1:=by rw[cW aO]
 have aD:=bu aw aO
 have aC:=bU aO
 exact ⟨h1,aR (n:=200) (NN aO (fun i=>(AV.ptr i 0))<|CN 3<|MM (aJ 3 6 (af us) aC k!)<|VV (bQ 3 false true .i64 us 1)<|CC<|BB q2<|CC<|BB q2<|MM (aJ 4 0 (aj mi) aC k!)<|BB q2<|CC<|VV (aG (a:=some (aj (!mi))) (b:=some (aj false)) q2)<|CC<|BB q3<|CC<|BB q3<|EE (show call (.fn 79) [(AV.ptr h.nx 1)] h1= .ret y4 h1 from k5 _ aK aD ⟨by omega,by omega⟩ aC)<|BB q3<|VV c8<|BB q3<|MM (show bk env h1 54 (AV.ptr p6 p7)=some (aa y9) from VH _ aD aC)<|BB q3<|VV (bQ 54 false true .u64 y9 1)<|VV (aG (a:=some (aj (decide (y9=1)))) (b:=some (aj false)) q3)<|CC<|ZZ) k!,aK,aD,bm,aC⟩
theorem aak {call:aE} {h:ah} {mi:Bool} {w0 w1 w2 w3 us:Int} {far:AV} (aw:Tidy h) (ES:0≤h.nx) (q2:(decide (us=1))=true) (q3:(!mi)=false):
 ∃(h1:ah),Ev env call uX ⟨((AV.agg (au mi w0 w1 w2 w3 far us))::aV 18),h,[],.no⟩ .ret ⟨[(AV.agg (au mi w0 w1 w2 w3 far us)),(AV.ptr h.nx 0),(aj false),(AV.ptr h.nx 1),(AV.ptr h.nx 6),(af us),(aj (decide (us=1))),(aj (decide (us=1))),(AV.ptr h.nx 0),(aj mi),(aj (!mi)),(aj (!mi)),(aj (!mi)),aB,aB,aB,aB,aB,(aj false)],h1,[],.no⟩∧Tidy h1∧Has h h1∧h1.nx=h.nx+1∧h1.get h.nx=some (ar.cells (au mi w0 w1 w2 w3 far us) 60 false):=by
 obtain ⟨h1,aO⟩:=eH (h:=h) (ar.cells (au mi w0 w1 w2 w3 far us) 60 false)
 have aK:=bI aw aO
 have bm:h1.nx=h.nx+1:=by rw[cW aO]
 have aD:=bu aw aO
 have aC:=bU aO
 exact ⟨h1,aR (n:=200) (NN aO (fun i=>(AV.ptr i 0))<|CN 3<|MM (aJ 3 6 (af us) aC k!)<|VV (bQ 3 false true .i64 us 1)<|CC<|BB q2<|CC<|BB q2<|MM (aJ 4 0 (aj mi) aC k!)<|BB q2<|CC<|VV (aG (a:=some (aj (!mi))) (b:=some (aj false)) q2)<|CC<|BB q3<|BB q3<|BB q3<|BB q3<|BB q3<|VV (aL (a:=some aB) (b:=some (aj false)) q3)<|CC<|ZZ) k!,aK,aD,bm,aC⟩
theorem aal {call:aE} {h:ah} {mi:Bool} {w0 w1 w2 w3 us:Int} {far:AV} (aw:Tidy h) (ES:0≤h.nx) (q2:(decide (us=1))=false):
 ∃(h1:ah),Ev env call uX ⟨((AV.agg (au mi w0 w1 w2 w3 far us))::aV 18),h,[],.no⟩ .ret ⟨[(AV.agg (au mi w0 w1 w2 w3 far us)),(AV.ptr h.nx 0),(aj false),(AV.ptr h.nx 1),(AV.ptr h.nx 6),(af us),(aj (decide (us=1))),(aj (decide (us=1))),aB,aB,aB,(aj false),(aj false),aB,aB,aB,aB,aB,(aj false)],h1,[],.no⟩∧Tidy h1∧Has h h1∧h1.nx=h.nx+1∧h1.get h.nx=some (ar.cells (au mi w0 w1 w2 w3 far us) 60 false):=by
 obtain ⟨h1,aO⟩:=eH (h:=h) (ar.cells (au mi w0 w1 w2 w3 far us) 60 false)
 have aK:=bI aw aO
 have bm:h1.nx=h.nx+1:=by rw[cW aO]
 have aD:=bu aw aO
 have aC:=bU aO
 exact ⟨h1,aR (n:=200) (NN aO (fun i=>(AV.ptr i 0))<|CN 3<|MM (aJ 3 6 (af us) aC k!)<|VV (bQ 3 false true .i64 us 1)<|CC<|BB q2<|BB q2<|BB q2<|VV (aL (a:=some aB) (b:=some (aj false)) q2)<|CC<|FF<|FF<|FF<|FF<|FF<|CN 2<|ZZ) k!,aK,aD,bm,aC⟩
theorem jw {d:Nat} {h:ah} {cs:List AV} {neg:Bool} {l:List Nat} (hw:cj h cs neg l) (hy:Tidy h) (po:0≤h.nx):
 aQ (d+2) (.fn 47) [.agg cs] h= .ret (.bool (!neg&&decide (l=[1]))) h:=by
 obtain ⟨w0,w1,w2,w3,us,far,rfl,sc,wf,hc⟩:=hw
 obtain ⟨h5,_⟩:=id hc
 obtain rfl:us=(l.length:Nat):=by simpa using h5
 by_cases q:l.length=1
 · cases neg with
   | true=>
    obtain ⟨h1,ev,y1,a1,_⟩:=aak (call:=aQ (d+1)) (w0:=w0) (w1:=w1) (w2:=w2) (w3:=w3) (far:=far) (mi:=true) hy po (dT (show ((l.length:Nat):Int)=1 by omega)) rfl
    exact ai rfl (az Tryz.func47 Lp k! (.inr rfl) ev k!) a1 rfl
   | false=>
    obtain ⟨r,hr⟩:=Gx (d:=d) (p:=h.nx) hc
    obtain ⟨z,rfl⟩:∃z,l=[z]:=by
     match l,q with
     | [z],_=>exact ⟨z,rfl⟩
    have hz:∀hh f ro,Has h hh→hh.get h.nx=some (.cells _ f ro)→ao env hh .u64 54 r [z]:=fun hh f ro a g=>(hr hh f ro a g).2
    obtain ⟨hb,hb1⟩:=eH (h:=h) (ar.cells [AV.bool false,AV.int .u64 w0,AV.int .u64 w1,AV.int .u64 w2,AV.int .u64 w3,far,AV.int .i64 (([z].length:Nat):Int)] 60 false)
    obtain ⟨pp,qq,i1,l1⟩:=(hz hb _ _ (bu hy hb1) (bU hb1)).elem (i:=0) (z:=z) rfl
    have ll:∀hh,Has h hh→hh.get h.nx=some (ar.cells [AV.bool false,AV.int .u64 w0,AV.int .u64 w1,AV.int .u64 w2,AV.int .u64 w3,far,AV.int .i64 (([z].length:Nat):Int)] 60 false)→bk env hh 54 (.ptr pp qq)=some (.int .u64 (z:Int)):=fun hh a g=>by
     obtain ⟨p2,q2,i2,l2⟩:=(hz hh _ _ a g).elem (i:=0) (z:=z) rfl
     have:=i1.symm.trans i2
     simp only[Option.some.injEq,AV.ptr.injEq] at this
     rw[this.1,this.2];exact l2
    obtain ⟨h1,ev,y1,a1,_⟩:=aaj (call:=aQ (d+1)) (w0:=w0) (w1:=w1) (w2:=w2) (w3:=w3) (far:=far) (mi:=false) (us:=(([z].length:Nat):Int)) hy po (dT rfl) rfl (fun hh _ a _ g=>(hr hh _ _ a g).1) i1 ll
    have e:(!false&&decide ([z]=[1]))=decide ((z:Int)=1):=by
     by_cases hz:z=1
     · subst hz;rfl
     · rw[decide_eq_false (show ¬ [z]=[1] by simp [hz]),decide_eq_false (show ¬(z:Int)=1 by omega)];rfl
    rw[e]
    exact ai rfl (az Tryz.func47 Lp k! (.inr rfl) ev k!) a1 rfl
 · obtain ⟨h1,ev,y1,a1,_⟩:=aal (call:=aQ (d+1)) (w0:=w0) (w1:=w1) (w2:=w2) (w3:=w3) (far:=far) (mi:=neg) hy po (dF (show ¬((l.length:Nat):Int)=1 by omega))
   have hl:¬l=[1]:=fun e=>q (by rw[e];rfl)
   rw[decide_eq_false hl,Bool.and_false]
   exact ai rfl (az Tryz.func47 Lp k! (.inr rfl) ev k!) a1 rfl
end Go.Proofs.aF
