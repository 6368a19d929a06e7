import Derived.Test.YtijehnelcbdlgaaGreatW0
import Derived.Test.YtijehnelcbdlgaaGreatW1
import Derived.Test.YtijehnelcbdlgaaGreatW14
import Derived.Test.YtijehnelcbdlgaaGreatW10
import Derived.Test.YtijehnelcbdlgaaGreatW11
import Derived.Test.YtijehnelcbdlgaaGreatW7
import Derived.Test.YtijehnelcbdlgaaGreatW3
import Derived.Test.YtijehnelcbdlgaaGreatW4
import Derived.Test.YtijehnelcbdlgaaGreatW5
import Derived.Test.YtijehnelcbdlgaaGreatW8
import Derived.Test.YtijehnelcbdlgaaGreatW12
import Derived.Test.YtijehnelcbdlgaaGreatW13
namespace Go.Proofs.aM
open Go.Proofs Ab
noncomputable section
set_option maxRecDepth 100000
set_option maxHeartbeats 4000000
set_option linter.unusedVariables false
set_option linter.unusedSimpArgs false
def ahK:Code:=(Tryz.f35.body).getD .skip
def aeI:Code:=(bl ahK).getD 1 .skip
theorem XX {d:Nat} {h:az} {tV tz:AV} (apt:AV.scalar tz=true) (apu:∀n,AV.same (n+1) tz tz=true) {T:List aR} {jb fb rb ob:Nat} {r:Int} (bM:Tidy h) (hTh:aO h tV T) (hTl:T.length≤1000) (SZ:∀q,q<T.length→(T.g q).off.length≤1000000) (N0:h.get ob=none):∀(k i0:Nat) (L:List aR) (z:AV) (x:Nat→AV) (hh:az),i0+k=T.length→Tidy hh→Has h hh→h.nx≤hh.nx→hh.get ob=some (.cells [tz,z] 25 false)→ek z ob→pD (KR h) ob h hh z L→ClR L T i0→ApR L→
 me (σ:=Unit) (ζ:=AV×List aR) (cA (d+2)) aeI ⟨(rx x 0 1 ((Zi r)::rx x 2 1 ((Pt jb)::rx x 4 1 ((Pt fb)::(Pt rb)::rx x 7 1 ((Pt ob)::rx x 9 28 (tV::(Zn T.length)::(Zn i0)::rx x 40 36 [])))))),hh,[],.no⟩ (.exit 2) hh (fun _ w y=>(rx y 0 1 ((Zi r)::rx y 2 1 ((Pt jb)::rx y 4 1 ((Pt fb)::(Pt rb)::rx y 7 1 ((Pt ob)::rx y 9 28 (tV::(Zn T.length)::rx y 39 37 []))))))) (fun _ w hk=>Has h hk∧hk.get ob=some (.cells [tz,w.1] 25 false)∧ek w.1 ob∧pD (KR h) ob h hk w.1 w.2∧ClR w.2 T T.length∧ApR w.2) ()
 | 0,i0,L,z,x,hh,eZ,aF,aA,fN,gs,Ec,N,C,AP=>by
  have e0:i0=T.length:=by omega
  have q1:(decide (((i0:Nat):Int)<((T.length:Nat):Int)))=false:=d!
  exact me.out () (z,L) rfl (pk (d+2) _ _ hh _ hh (VV (bE 3 false false .i64 ((i0:Nat):Int) ((T.length:Nat):Int))<|BB q1<|ZZ) k!) aF (jR _) ⟨aA,gs,Ec,N,e0▸C,AP⟩ k!
 | k+1,i0,L,z,x,hh,eZ,aF,aA,fN,gs,Ec,N,C,AP=>by
  have hT:=hTh.has aA
  have sz:=SZ i0 o!
  have cl:=C.1
  have ato:=aF _ _ gs
  have q1:(decide (((i0:Nat):Int)<((T.length:Nat):Int)))=true:=d!
  obtain ⟨p3,q4,gh⟩:=hT.elem (i:=i0) o!
  have kN:=hT.load o! gh
  obtain ⟨h6,kV,ig,uz,jc,bB⟩:=gQ aF (aN.cells [(AV.str []),(Zi 0),AV.aw] 45 false)
  have gL:=aA.trans bB
  have mR:=bB
  have C6:=((hT.ok (i:=i0) o!).2).scalar
  obtain ⟨h7,jw,dM,r5,dS,aX⟩:=j_ (t:=45) (n:=3) (i:=hh.nx) (L:=[(AV.str (T.g i0).name),(Zi (T.g i0).aI),(T.g i0).cJ]) ig jc k! rfl rfl (kJ rfl (kJ rfl (kJ C6 rfl)))
  have cV:=Has.bK gL aX bM o!
  have gA:=Has.bK mR aX aF o!
  obtain ⟨W2,h9,Ud,uw,T9,SQ,VF,VG⟩:=ahE (d:=d+1) (l:=(T.g i0).off) ((hT.ok (i:=i0) o!).2.has gA) o! dM
  have nz:=(cV.trans SQ)
  have ahL:=(gA.trans SQ)
  have aj0:=VG.scalar
  obtain ⟨lY,C8,iU,Gy,vI,zu⟩:=T4 (t:=43) (i:=hh.nx) (o:=2) (v:=W2) (N:=[(AV.str (T.g i0).name),(Zi (T.g i0).aI),W2]) uw (SQ _ _ dS) k! VG.scalar k! k!
  have my:=Has.bK nz zu bM o!
  have vh:=Has.bK ahL zu aF o!
  obtain ⟨rk,aeJ,jy,Df,l_,tf⟩:=gQ iU (aN.cells [(AV.str (T.g i0).name),(Zi (T.g i0).aI),W2] 45 false)
  have gG:=my.trans tf
  have SU:=vh.trans tf
  obtain ⟨z15,Tg,al3,vf,apv,apw,VH,aeK,aeL⟩:=bI.I0 (tys:= #[23,23]) (l:=L) (m:=[(⟨(T.g i0).name,(T.g i0).aI,W2,(T.g i0).off⟩:aR)]) (x:=(AV.slice lY.nx 0 1 1 false)) jy bM gG o! (N.own.has SU) rfl (oi (x:=(⟨(T.g i0).name,(T.g i0).aI,W2,(T.g i0).off⟩:aR)) l_) (by simp only[List.flatMap_cons,List.flatMap_nil,List.append_nil,aK.c,aR.c,List.all_cons,List.all_nil,VG.scalar,Bool.true_and,Bool.and_true];rfl) (by simp;omega) rfl rfl k! k! (bytes:=48) k! (z0:=(AV.agg [(AV.str []),(Zi 0),AV.aw])) k! k! (by decide)
  have apx:=pD.step (x:=(⟨(T.g i0).name,(T.g i0).aI,W2,(T.g i0).off⟩:aR)) KR.mono N aF (aF _ _ gs) jy SU o! (fun hw ag=>⟨⟨(hT.ok (i:=i0) o!).1,bI.rows (bI.agree VF fun i o hi g=>ag i o o! (tf _ _ (zu _ _ o! g))) (show (T.g i0).off.length<2^60 by omega) fun _ _=>trivial⟩,bI.le (bI.agree VF fun i o hi g=>ag i o o! (tf _ _ (zu _ _ o! g))) o!⟩) VH apv aeK aeL
  have sU:=apw
  have al2:AV.scalar z15=true:=(bI.scalar VH)
  obtain ⟨yN,KC,oI,SG,vG,lg⟩:=T4 (t:=23) (i:=ob) (o:=1) (v:=z15) (N:=[tz,z15]) vf (aeK _ _ Ec (tf _ _ (zu _ _ o! (SQ _ _ (aX _ _ o! (bB _ _ gs)))))) k! (bI.scalar VH) k! k!
  have kX:=aez sU lg N0
  have u18:=eA 3 false true i0 1 o!
  have ev:=pk (d+2) aeI ((x 0)::(Zi r)::(x 2)::(Pt jb)::(x 4)::(Pt fb)::(Pt rb)::(x 7)::(Pt ob)::rx x 9 28 (tV::(Zn T.length)::(Zn i0)::rx x 40 36 [])) hh .normal yN (VV (bE 3 false false .i64 ((i0:Nat):Int) ((T.length:Nat):Int))<|BV q1 gh<|MM kN<|NN kV (fun i=>(Pt i))<|SS jw<|CC<|MM (aP 43 2 (T.g i0).cJ dS k!)<|EE Ud<|CC<|SS C8<|CC<|MM (aP 23 1 z (zu _ _ o! (SQ _ _ (aX _ _ o! (bB _ _ gs)))) k!)<|MM (aP 45 0 (AV.agg [(AV.str (T.g i0).name),(Zi (T.g i0).aI),W2]) vI k!)<|NN aeJ (fun i=>(AV.slice i 0 1 1 false))<|PP (show cb env rk #[23,23] z (AV.slice lY.nx 0 1 1 false)=some (z15,Tg) from al3)<|CC<|SS KC<|VV u18<|CC<|ZZ) k!
  have ni2:ek z15 ob:=aeL ob o! Ec
  refine me.round rfl ev o! _ k! (fun x=>me.aes (XX apt apu bM hTh hTl SZ N0 k (i0+1) _ z15 x yN o! oI kX o! vG ni2 (pD.kept apx lg ni2 o!) (C.snoc ⟨rfl,rfl,rfl⟩) (AP.snoc (m:=hh.nx) (fun a ha i=>bI.apm (N.ok KR.mono _ (oF ha)).2 aF i) fun i hi=>bI.xJ VF o!)) fun _ hk hn q=>q)
theorem bI.aeM {α:Type} [aK α] {h0 h:az} {z:AV} {l:List α} {m n:Nat} (o:bI h0 h z l) (hl:0<l.length) (hm:m≤h0.nx) (v:AV.within m (n+1) z=true):False:=by
 rcases o with ⟨_,rfl⟩ | ⟨hn,p,op,rfl,hp,hg⟩
 · exact absurd hl (by simp)
 · have:=jv (show decide (p<m)=true from v)
   omega
theorem GS {h h':az} {e:TypeId} {n:Nat} {av:AV} {len:Nat} {cs:List AV} {b:Nat} (x:nZ env h e n av len cs) (hb:∀o,h.get b=some o→∃f ro,o= .cells [.aw,.aw] f ro) (kp:∀i o,i≠b→h.get i=some o→h'.get i=some o) (ni:∀v,cs[0]? =some v→v≠ .aw) (pos:0<n):nZ env h' e n av len cs:=by
 refine ⟨x.size,x.cells,x.small,x.lens,?_⟩
 rcases x.block with h0 | ⟨p,o,m,c,b1,C,f,ro,h1,h0,h2,h3⟩
 · exact .inl h0
 by_cases z:len=0
 · exact .inl z
 refine .inr ⟨p,o,m,c,b1,C,f,ro,h1,h0,kp _ _ (fun e=>?_) h2,h3⟩
 subst e
 obtain ⟨f',ro',e2⟩:=hb _ h2
 injection e2 with e3 _ _
 subst e3
 have zc:0<cs.length:=by rw[x.cells];exact Nat.mul_pos (Nat.pos_of_ne_zero z) pos
 have q:=h3 0 zc
 rw[List.getElem?_eq_getElem zc] at q
 refine ni _ (List.getElem?_eq_getElem zc) ?_
 rcases o with _ | _ | o
 · simpa using q.symm
 · simpa using q.symm
 · simp at q
theorem aeN {h h':az} {k:IntKind} {e:TypeId} {v:AV} {l:List Int} {b:Nat} (x:bT h k e v l) (hb:∀o,h.get b=some o→∃f ro,o= .cells [.aw,.aw] f ro) (kp:∀i o,i≠b→h.get i=some o→h'.get i=some o):bT h' k e v l:=
 ⟨GS x.at_ hb kp (fun v hv=>by
  cases l with
  | nil=>cases hv
  | cons a l=>cases hv;exact fun e=>by cases e) (by decide),x.agg,x.known⟩
theorem wX {α:Type} [aK α] {h h':az} {v:AV} {l:List α} {b:Nat} (x:aO h v l) (hb:∀o,h.get b=some o→∃f ro,o= .cells [.aw,.aw] f ro) (kp:∀i o,i≠b→h.get i=some o→h'.get i=some o) (ni:∀(y:α) (v:AV),(aK.c y)[0]? =some v→v≠ .aw) (ok:∀y∈l,aK.ok h y→aK.ok h' y):aO h' v l:=
 ⟨GS x.at_ hb kp (fun v hv=>by
  cases l with
  | nil=>cases hv
  | cons a l=>
   have n:=aK.len a
   have p:=aK.pos (α:=α)
   rw[List.flatMap_cons,List.getElem?_append_left o!] at hv
   exact ni a v hv) aK.pos,x.known,fun y hy=>ok y hy (x.Te y hy)⟩
theorem KT.minus {h h':az} {b:Nat} {y:Task} (x:KT h y) (hb:∀o,h.get b=some o→∃f ro,o= .cells [.aw,.aw] f ro) (kp:∀i o,i≠b→h.get i=some o→h'.get i=some o):KT h' y:=
 ⟨x.1,aeN x.2.1 hb kp,wX x.2.2 hb kp (fun y v hv=>by cases hv;exact fun e=>by cases e) fun _ _ _=>trivial⟩
theorem aac {h h':az} {b:Nat} {j:bP} (x:aK.ok h j) (hb:∀o,h.get b=some o→∃f ro,o= .cells [.aw,.aw] f ro) (kp:∀i o,i≠b→h.get i=some o→h'.get i=some o):aK.ok h' j:=
 ⟨wX x.1 hb kp (fun y v hv=>by cases hv;exact fun e=>by cases e) fun y _ k=>KT.minus k hb kp,
  wX x.2 hb kp (fun y v hv=>by cases hv;exact fun e=>by cases e) fun y _ k=>⟨k.1,wX k.2 hb kp (fun y v hv=>by cases hv;exact fun e=>by cases e) fun _ _ _=>trivial⟩⟩
theorem aeO {h h':az} {b:Nat} {o:aN} (g:h.get b=some o) (g':h'.get b=some o) (k:Kept b h h'):Has h h':=fun i x gi=>by
 by_cases e:i=b
 · subst e;rw[g] at gi;rw[←gi];exact g'
 · exact k i x e gi
theorem pD.minus {b b2:Nat} {h0 h h':az} {z:AV} {l:List Task} (N:pD KT b h0 h z l) (n1:ek z b) (n2:ek z b2) (hb:∀o,h.get b2=some o→∃f ro,o= .cells [.aw,.aw] f ro) (kp:∀i o,i≠b→i≠b2→h.get i=some o→h'.get i=some o) (hl:l.length<2^60):aO h' z l:=by
 obtain ⟨hw,_,a1,_,k1,k2⟩:=N.els
 refine bI.rows (N.own.via fun p ob np g=>kp p ob (fun e=>np (e▸n1)) (fun e=>np (e▸n2)) g) hl fun y hy=>?_
 exact KT.minus (b:=b2) (k2 y hy) (fun o g=>hb o (a1 _ _ g)) fun i o ne g=>kp i o (k1 i o g).2 ne (a1 i o g)
theorem KP {α:Type} [Inhabited α] {l:List α} {i:Nat} {x:α} (h:i<l.length):(l.set i x).g i=x:=by
 rw[List.g,List.getD_eq_getElem?_getD,List.getElem?_set_self h];rfl
structure wY (h:az) (j:bP) (r lo hi:Int) (j2:bP):Prop where
 ok:aK.ok h j2
 ab:ClT j2.ab j.ab j.ab.length
 len:j2.af.length=j.af.length
 res:∀q,q<j.af.length→q≠r.toNat→KN (j2.af.g q) (j.af.g q)
 name:(j2.af.g r.toNat).name=(j.af.g r.toNat).name
 aI:(j2.af.g r.toNat).aI=(j.af.g r.toNat).aI
 off:(j2.af.g r.toNat).off=fQ ((j.af.g r.toNat).off++[(⟨lo,hi⟩:Span)])
theorem Nk {p:Prop} (h:p:=by first | exact bI.xJ OF o! | exact bI.auB hD OF o!):p:=h
def H_:Code:=(Tryz.f35.body).getD .skip
theorem atq:Tryz.f35.body=some H_:=by kernel_rfl
def al4:Code:=(bl H_).getD 0 .skip
def al5:Code:=(bl H_).getD 1 .skip
theorem aeP {d:Nat} {h:az} (j:bP) (r lo hi:Int) (b7:aK.ok h j) (r0:0≤r) (r1:r<(j.af.length:Int)) (ST:j.ab.length≤1000) (SZT:∀q,q<j.ab.length→(j.ab.g q).aD.length≤1000000∧(j.ab.g q).aB.length≤1000000) (SR:j.af.length≤1000) (SZR:∀q,q<j.af.length→(j.af.g q).off.length≤1000) (PO:∀s∈(j.af.g r.toNat).off,okP s) (PN:okP ⟨lo,hi⟩) (bM:Tidy h):
 ∃(j2:bP) (hk:az),cA (d+3) (.fn 35) [AV.agg [j.au,j.ar],(.int .i64 r),AV.agg [(.int .i64 lo),(.int .i64 hi)]] h= .ret (AV.tuple [AV.agg [j2.au,j2.ar],AV.bool (decide (((j2.af.g r.toNat).off.length:Int)≤16))]) hk∧Tidy hk∧h.nx≤hk.nx∧Has h hk∧wY hk j r lo hi j2∧bI h hk j2.ar j2.af:=by
 obtain ⟨h1,dw,de,jW,bx,ca⟩:=gQ bM (aN.cells [j.au,j.ar] 25 false)
 have bD:=ca
 obtain ⟨h2,r7,mN,I4,ka,iM⟩:=gQ de (aN.cells [(Zi lo),(Zi hi)] 52 false)
 have gm:=bD.trans iM
 obtain ⟨h3,acw,om,akn,Zd,Fq⟩:=gQ mN (aN.cells [AV.aw,AV.aw] 25 false)
 have fl:=gm.trans Fq
 obtain ⟨h4,Ow,ij,Y7,Lt,sY⟩:=gQ om (aN.cells [AV.aw,AV.aw] 25 false)
 have fq:=fl.trans sY
 have ln5:=b7.1.len
 obtain ⟨hb6,apy,atr,al6,al7,FT⟩:=dI ij Lt
 have aiZ:=bL fq (by first | assumption | exact iZ bM o!) FT
 obtain ⟨w9,E0,h7,al8,dM,ajR,Nl,ai0,ai1,SV,apz⟩:=XW (d:=d) (h:=hb6) apy (b7.1.has aiZ) ST SZT al6 j.ab.length 0 [] AV.aw (dr ((AV.agg [j.au,j.ar])::(Zi r)::(AV.agg [(Zi lo),(Zi hi)])::(Pt h.nx)::aL::(Pt h1.nx)::(Pt h2.nx)::(AV.bool false)::(Pt h3.nx)::aL::aL::aL::aL::aL::(Pt h.nx)::j.au::(Zn j.ab.length)::(Zi 0)::iW 58)) h4 o! ij al7 o! Lt (ek.nil _) pD.nil ⟨rfl,fun q hq=>by omega⟩
 have auC:=apz.1
 have apA:=SV.rows KT.mono (fun _ _ k=>k) o!
 have ot:Ev env (cA (d+2)) (.loop al4) ⟨((AV.agg [j.au,j.ar])::(Zi r)::(AV.agg [(Zi lo),(Zi hi)])::(Pt h.nx)::aL::(Pt h1.nx)::(Pt h2.nx)::(AV.bool false)::(Pt h3.nx)::aL::aL::aL::aL::aL::(Pt h.nx)::j.au::(Zn j.ab.length)::(Zi 0)::iW 58),h4,[],.no⟩ (.exit 0) ⟨((E0 0)::(Zi r)::(E0 2)::(Pt h.nx)::(E0 4)::(Pt h1.nx)::(Pt h2.nx)::(E0 7)::(Pt h3.nx)::rx E0 9 6 (j.au::(Zn j.ab.length)::rx E0 17 59 [])),h7,[],.no⟩:=al8
 have cV:=(aiZ.trans Nl)
 have uN:=b7.2.len
 obtain ⟨al9,PX,aqJ,ahM,ahN,Ed⟩:=dI dM ai0
 have VI:=bL cV (by first | assumption | exact iZ bM o!) Ed
 obtain ⟨oB,DI,pH,ahO,hD,Dc,qh,VJ,ats,pO,XY,aeQ⟩:=XX (d:=d) (h:=al9) (bI.scalar SV.own) (bI.same SV.own) PX (b7.2.has VI) SR (fun q hq=>Nat.le_trans (SZR q hq) (by decide)) ahM j.af.length 0 [] AV.aw (dr ((E0 0)::(Zi r)::(E0 2)::(Pt h.nx)::(E0 4)::(Pt h1.nx)::(Pt h2.nx)::(E0 7)::(Pt h3.nx)::rx E0 9 6 (j.au::(Zn j.ab.length)::rx E0 17 19 ((AV.ptr h.nx 1)::j.ar::(Zn j.af.length)::(Zi 0)::rx E0 40 36 [])))) h7 o! dM ahN o! ai0 (ek.nil _) pD.nil ⟨rfl,fun q hq=>by omega⟩ ApR.nil
 have att:=XY.1
 have PY:=pO.rows KR.mono (fun _ _ k=>k.1) o!
 have OF:=(pO.ok KR.mono _ (oF (i:=Int.toNat r) o!)).2
 have sr_:=XY.2 r.toNat o!
 have so_:=SZR r.toNat o!
 have lo_:(oB.2.g r.toNat).off.length≤1000:=by rw[sr_.2.2];exact so_
 have zZ:Ev env (cA (d+2)) (.loop al5) ⟨((E0 0)::(Zi r)::(E0 2)::(Pt h.nx)::(E0 4)::(Pt h1.nx)::(Pt h2.nx)::(E0 7)::(Pt h3.nx)::rx E0 9 6 (j.au::(Zn j.ab.length)::rx E0 17 19 ((AV.ptr h.nx 1)::j.ar::(Zn j.af.length)::(Zi 0)::rx E0 40 36 []))),h7,[],.no⟩ (.exit 2) ⟨((DI 0)::(Zi r)::(DI 2)::(Pt h.nx)::(DI 4)::(Pt h1.nx)::(Pt h2.nx)::(DI 7)::(Pt h3.nx)::rx DI 9 28 (j.ar::(Zn j.af.length)::rx DI 39 37 [])),pH,[],.no⟩:=ahO
 have eT:=(VI.trans qh)
 obtain ⟨p16,q17,KQ⟩:=PY.elem (i:=r.toNat) o!
 have PA:=xn KQ o!
 have SX:=PY.part (t:=43) (j:=2) o! KQ k! rfl
 obtain ⟨CU,aeh,ly,Rj,AH,rT⟩:=gQ hD (aN.cells [(Zi lo),(Zi hi)] 52 false)
 have kH:=eT.trans rT
 have mZ:=rT
 obtain ⟨z21,Y1,Vw,AG,aiI,AZ,aeR,FU,FV⟩:=bI.I0 (h0:=al9) (tys:= #[43,43]) (l:=(oB.2.g r.toNat).off) (m:=[(⟨lo,hi⟩:Span)]) (x:=(AV.slice pH.nx 0 1 1 false)) ly PX (qh.trans mZ) o! (bI.has (pO.ok KR.mono _ (oF o!)).2 mZ) rfl (oi (x:=(⟨lo,hi⟩:Span)) AH) rfl (by simp;omega) rfl rfl k! k! (bytes:=16) k! (z0:=(AV.agg [(Zi 0),(Zi 0)])) k! k! (by decide)
 obtain ⟨z23,h22,apB,Rl,auD,B8,B9⟩:=aey (d:=d) AG aeR (by rw[List.length_append,List.length_singleton];omega) (fun s_ hs_=>by rcases List.mem_append.1 hs_ with a_ | a_;exact PO s_ (sr_.2.2▸a_);rw[List.mem_singleton.1 a_];exact PN)
 obtain ⟨h24,ab4,Rr,anX,VK,wV,B_⟩:=bI.alS (i:=Int.toNat r) (j:=2) (x:=(⟨(oB.2.g r.toNat).name,(oB.2.g r.toNat).aI,z23,(fQ ((oB.2.g r.toNat).off++[(⟨lo,hi⟩:Span)]))⟩:aR)) Rl PX (fun i_ x_ g_=>B9 _ _ (bI.xJ aeR (PX _ _ g_)) (AZ _ _ g_)) (pO.own.via fun p_ RP np_ g_=>B9 _ _ (FV p_ (ly _ _ (mZ _ _ g_)) (pO.apart (oF (i:=Int.toNat r) o!) np_)) (FU _ _ (pO.apart (oF (i:=Int.toNat r) o!) np_) (mZ _ _ g_))) o! KQ (t:=43) (v:=z23) k! (bI.alY B8) (bI.scalar B8) (by decide) rfl
 have ib_:=bI.apn pO.own o! KQ
 have lt_:p16<pH.nx:=(pO.own.apm hD p16).resolve_left ib_.2
 have ge_:al9.nx≤p16:=Nat.le_of_not_lt fun c_=>ib_.2 (pO.own.xJ c_)
 have jl_:=VB ((oB.2.g r.toNat).off++[(⟨lo,hi⟩:Span)])
 rw[List.length_append,List.length_singleton] at jl_
 have PZ:aO h24 oB.1 (oB.2.set r.toNat (⟨(oB.2.g r.toNat).name,(oB.2.g r.toNat).aI,z23,(fQ ((oB.2.g r.toNat).off++[(⟨lo,hi⟩:Span)]))⟩:aR)):=bI.rows VK (by rw[List.length_set];omega) (fun y_ hy_=>by rcases Nj (i:=Int.toNat r) o! hy_ with rfl | ⟨q_,De,ne_,rfl⟩;exact ⟨(pO.ok KR.mono _ (oF (i:=Int.toNat r) o!)).1.1,bI.rows ((B8).via fun p_ RP np_ g_=>B_ p_ RP (fun e_=>np_ (by rw[e_];exact bI.xJ (B8) o!)) g_) (by dsimp only;omega) fun _ _=>trivial⟩;exact Ni pO aeQ (i:=Int.toNat r) o! De ne_ (fun p_ RP n0_ n1_ n2_ g_=>B_ p_ RP (fun e_=>ib_.2 (by rw[←e_];exact n2_)) (B9 p_ RP (FV p_ (ly _ _ (mZ _ _ g_)) n1_) (FU p_ RP n1_ (mZ _ _ g_)))) (pO.ok KR.mono _ (oF De)).1.2.small)
 have sl_:(oB.2.set r.toNat (⟨(oB.2.g r.toNat).name,(oB.2.g r.toNat).aI,z23,(fQ ((oB.2.g r.toNat).off++[(⟨lo,hi⟩:Span)]))⟩:aR)).length=oB.2.length:=List.length_set
 have c25:=((PY.ok (i:=r.toNat) o!).2).same 19
 have c26:AV.same 20 (AV.agg [(Zi lo),(Zi hi)]) (AV.agg [(Zi lo),(Zi hi)])=true:=dK 18 (kK (fun n=>aS n _ _) (kK (fun n=>aS n _ _) CK))
 have Zt:=PZ.part (t:=43) (j:=2) o! KQ k! rfl
 have ama:=((PZ.ok (i:=r.toNat) o!).2).len
 have atv:AV.scalar w9.1=true:=(bI.scalar SV.own)
 have atw:AV.scalar oB.1=true:=(bI.scalar pO.own)
 obtain ⟨SY,aeS,XZ,apC,apD,FX⟩:=j_ (t:=25) (n:=2) (i:=h2.nx) (L:=[w9.1,oB.1]) Rr (B_ _ _ o! (B9 _ _ (FV _ o! Nk) (FU _ _ Nk (rT _ _ (qh _ _ ((Ed _ o!).trans (Nl _ _ ((FT _ o!).trans (sY _ _ Zd))))))))) k! rfl rfl (kJ atv (kJ atw rfl))
 have apE:aO SY oB.1 (oB.2.set r.toNat (⟨(oB.2.g r.toNat).name,(oB.2.g r.toNat).aI,z23,(fQ ((oB.2.g r.toNat).off++[(⟨lo,hi⟩:Span)]))⟩:aR)):=bI.rows (VK.kept FX (bI.xJ pO.own o!)) (by rw[List.length_set];omega) (fun y_ hy_=>by rcases Nj (i:=Int.toNat r) o! hy_ with rfl | ⟨q_,De,ne_,rfl⟩;exact ⟨(pO.ok KR.mono _ (oF (i:=Int.toNat r) o!)).1.1,bI.rows ((B8).via fun p_ RP np_ g_=>FX p_ RP (fun e_=>np_ (by rw[e_];exact bI.xJ B8 o!))<|B_ p_ RP (fun e_=>np_ (by rw[e_];exact bI.xJ (B8) o!)) g_) (by dsimp only;omega) fun _ _=>trivial⟩;exact Ni pO aeQ (i:=Int.toNat r) o! De ne_ (fun p_ RP n0_ n1_ n2_ g_=>FX p_ RP o! <|B_ p_ RP (fun e_=>ib_.2 (by rw[←e_];exact n2_)) (B9 p_ RP (FV p_ (ly _ _ (mZ _ _ g_)) n1_) (FU p_ RP n1_ (mZ _ _ g_)))) (pO.ok KR.mono _ (oF De)).1.2.small)
 have c32:=dK 18 (kK apA.same (kK PZ.same CK))
 have c33:=((PZ.ok (i:=r.toNat) o!).2).same 19
 have ev:=pk (d+2) H_ ((AV.agg [j.au,j.ar])::(Zi r)::(AV.agg [(Zi lo),(Zi hi)])::iW 73) h .ret SY (NN dw (fun i=>(Pt i))<|NN r7 (fun i=>(Pt i))<|NN acw (fun i=>(Pt i))<|CC<|NN Ow (fun i=>(Pt i))<|CC<|MM (aP 22 0 j.au (sY _ _ (Fq _ _ (iM _ _ bx))) k!)<|VV ln5<|CC<|LL ot<|CC<|MM (aP 23 1 j.ar (Nl _ _ ((FT _ o!).trans (sY _ _ (Fq _ _ (iM _ _ bx))))) k!)<|VV uN<|CC<|LL zZ<|CC<|MM (aP 23 1 oB.1 VJ k!)<|CC<|VV PA<|CN 5<|MM SX<|MM (aP 52 0 (AV.agg [(Zi lo),(Zi hi)]) (qh _ _ ((Ed _ o!).trans (Nl _ _ ((FT _ o!).trans (sY _ _ (Fq _ _ ka)))))) k!)<|NN aeh (fun i=>(AV.slice i 0 1 1 false))<|PP (show cb env CU #[43,43] (oB.2.g r.toNat).cJ (AV.slice pH.nx 0 1 1 false)=some (z21,Y1) from Vw)<|EE apB<|CN 2<|SS ab4<|HH (show cX env CU 43 (AV.ptr p16 (q17+2))=some (oB.2.g r.toNat).cJ from ((PY.has mZ).part (t:=43) (j:=2) o! KQ k! rfl))<|HH c25<|HH (aP 52 0 (AV.agg [(Zi lo),(Zi hi)]) (rT _ _ (qh _ _ ((Ed _ o!).trans (Nl _ _ ((FT _ o!).trans (sY _ _ (Fq _ _ ka))))))) k!)<|HH c26<|HH (show ∃o,CU.get pH.nx=some o∧aN.same o (aN.cells [(Zi lo),(Zi hi)] 52 false)=true from ⟨_,AH,by simp [aN.same,dR,AV.same]⟩)<|MM (aP 25 0 (AV.agg [w9.1,oB.1]) (B_ _ _ o! (B9 _ _ (FV _ o! Nk) (FU _ _ Nk (rT _ _ VJ)))) k!)<|CN 3<|MM Zt<|VV ama<|VV (tx 3 false true .i64 ((((oB.2.set r.toNat (⟨(oB.2.g r.toNat).name,(oB.2.g r.toNat).aI,z23,(fQ ((oB.2.g r.toNat).off++[(⟨lo,hi⟩:Span)]))⟩:aR)).g r.toNat).off.length:Nat):Int) 16)<|SS aeS<|CC<|HH (aP 25 0 (AV.agg [w9.1,oB.1]) (B_ _ _ o! (B9 _ _ (FV _ o! Nk) (FU _ _ Nk (rT _ _ VJ)))) k!)<|HH c32<|HH Zt<|HH c33<|HH (show cX env SY 43 (AV.ptr p16 (q17+2))=some ((oB.2.set r.toNat (⟨(oB.2.g r.toNat).name,(oB.2.g r.toNat).aI,z23,(fQ ((oB.2.g r.toNat).off++[(⟨lo,hi⟩:Span)]))⟩:aR)).g r.toNat).cJ from (apE.part (t:=43) (j:=2) o! KQ k! rfl))<|HH c33<|ZZ) k!
 have KX:∀i x,i≠h3.nx→i≠h2.nx→h7.get i=some x→SY.get i=some x:=fun i x n1 n2 g=>FX i x n2 (wV i x ((Ed i n1).trans g))
 have oT:bI h SY w9.1 w9.2:=(SV.own.via fun p ob np g=>KX p ob (fun e=>np (e▸ai1)) (fun e=>np (e▸bI.xJ SV.own o!)) g).le o!
 have fT:aO SY w9.1 w9.2:=pD.minus SV ai1 (bI.xJ SV.own o!) (fun o g=>⟨25,false,Option.some.inj (g.symm.trans (Nl _ _ ((FT _ o!).trans (sY _ _ Zd))))⟩) KX o!
 have oR:bI h SY oB.1 (oB.2.set r.toNat (⟨(oB.2.g r.toNat).name,(oB.2.g r.toNat).aI,z23,(fQ ((oB.2.g r.toNat).off++[(⟨lo,hi⟩:Span)]))⟩:aR)):=(VK.kept FX (bI.xJ pO.own o!)).le o!
 let j2:bP:=⟨w9.1,w9.2,oB.1,(oB.2.set r.toNat (⟨(oB.2.g r.toNat).name,(oB.2.g r.toNat).aI,z23,(fQ ((oB.2.g r.toNat).off++[(⟨lo,hi⟩:Span)]))⟩:aR))⟩
 have gr:j2.af.g r.toNat=(⟨(oB.2.g r.toNat).name,(oB.2.g r.toNat).aI,z23,(fQ ((oB.2.g r.toNat).off++[(⟨lo,hi⟩:Span)]))⟩:aR):=KP o!
 have F:wY SY j r lo hi j2:=by
  refine ⟨⟨fT,apE⟩,apz,by show (oB.2.set r.toNat (⟨(oB.2.g r.toNat).name,(oB.2.g r.toNat).aI,z23,(fQ ((oB.2.g r.toNat).off++[(⟨lo,hi⟩:Span)]))⟩:aR)).length=_;rw[List.length_set];exact XY.1,fun q hq ne=>?_,?_,?_,?_⟩
  · show KN ((oB.2.set r.toNat (⟨(oB.2.g r.toNat).name,(oB.2.g r.toNat).aI,z23,(fQ ((oB.2.g r.toNat).off++[(⟨lo,hi⟩:Span)]))⟩:aR)).g q) _
    rw[I2 (Ne.symm ne)];exact XY.2 q hq
  · rw[gr];exact sr_.1
  · rw[gr];exact sr_.2.1
  · rw[gr];show fQ _=_;rw[sr_.2.2]
 refine ⟨j2,jY (P:=fun hk=>Tidy hk∧h.nx≤hk.nx∧Has h hk∧wY hk j r lo hi j2∧bI h hk j2.ar j2.af) rfl (Re (a:=6) (r:=7) (t:=25) (i:=h2.nx) (w:=AV.bool (decide (((j2.af.g r.toNat).off.length:Int)≤16))) Tryz.func35 atq k! (.inr rfl) ev k! (aP 25 0 (AV.agg [w9.1,oB.1]) apD k!)) ⟨XZ,by omega,(fun i_ x_ g_=>FX i_ x_ (fun e_=>by have:=bM _ _ g_;omega) (wV i_ x_ (VI i_ x_ g_))),F,oR⟩ fun _ v=>?_⟩
 have v2:AV.within h.nx 18 oB.1=true:=by
  simp only[AV.within,List.all_cons,List.all_nil,Bool.and_true,Bool.and_eq_true] at v
  exact v.2
 exact (bI.aeM oR (by show 0<((oB.2.set r.toNat (⟨(oB.2.g r.toNat).name,(oB.2.g r.toNat).aI,z23,(fQ ((oB.2.g r.toNat).off++[(⟨lo,hi⟩:Span)]))⟩:aR))).length;rw[List.length_set];omega) (jR _) v2).elim
def Ca:Code:=(Tryz.f95.body).getD .skip
theorem rI:Tryz.f95.body=some Ca:=by kernel_rfl
def db (j:bP) (aj:List Int):Int:=(bif (!decide ((eI j)=0)) then (eI j) else (bif (!decide (((aj.length:Nat):Int)=((j.ab.length:Nat):Int))) then 1 else 0))
theorem Hx {d:Nat} {h:az} {aJ:AV} (j:bP) (aj:List Int) (b7:aK.ok h j) (bA:bT h .i64 3 aJ aj) (bM:Tidy h):cA (d+12) (.fn 95) [(AV.agg [j.au,j.ar]),aJ] h= .ret (Zi (db j aj)) h:=by
 obtain ⟨h1,dw,de,jW,bx,ca⟩:=gQ bM (aN.cells [j.au,j.ar] 25 false)
 have bD:=ca
 have k2:=ZF (d:=d) j (aK.mono bD b7) de
 have ei:=fun {al ps} (k:Pk al _ ps)=>(NN dw (fun i=>(Pt i))<|CC<|MM (aP 25 0 (AV.agg [j.au,j.ar]) bx k!)<|EE k2<|CN 2<|VV (kt 31 false true .i64 (eI j) 0)<|k:Pk _ [] ps)
 rcases bu (!decide ((eI j)=0)) with f0 | f0
 · have e:db j aj=(eI j):=by simp only[db,f0,ao,ai]
   rw[e]
   exact aG rfl (aY Tryz.func95 rI rfl (.inr rfl) (pk (d+11) _ _ h _ h1 (ei<|BB f0<|CN 2<|ZZ) k!) k!) bD rfl
 · have RQ:=bA.len
   have ln5:=b7.1.len
   have gK:=fun {al ps} (k:Pk al _ ps)=>(ei<|BC f0<|VV RQ<|CC<|MM (aP 22 0 j.au bx k!)<|VV ln5<|VV (kt 3 false false .i64 ((aj.length:Nat):Int) ((j.ab.length:Nat):Int))<|k:Pk _ [] ps)
   rcases bu (!decide (((aj.length:Nat):Int)=((j.ab.length:Nat):Int))) with f1 | f1
   · have e:db j aj=1:=by simp only[db,f0,f1,ao,ai]
     rw[e]
     exact aG rfl (aY Tryz.func95 rI rfl (.inr rfl) (pk (d+11) _ _ h _ h1 (gK<|BC f1<|ZZ) k!) k!) bD rfl
   · have e:db j aj=0:=by simp only[db,f0,f1,ao,ai]
     rw[e]
     exact aG rfl (aY Tryz.func95 rI rfl (.inr rfl) (pk (d+11) _ _ h _ h1 (gK<|BC f1<|ZZ) k!) k!) bD rfl
theorem zv {j:bP} {aj:List Int} (h:db j aj=0):cE j∧aj.length=j.ab.length:=by
 unfold db at h
 by_cases a:eI j=0
 · rw[eV a] at h
   by_cases b:((aj.length:Nat):Int)=((j.ab.length:Nat):Int)
   · exact ⟨sh a,by omega⟩
   · rw[fL b] at h;cases h
 · rw[fL a] at h;exact absurd h a
theorem KS {p:Prop} (h:p:=by first | omega | assumption | exact (zv a!).1 | exact (zv a!).2):p:=h
def P0:Code:=(Tryz.f46.body).getD .skip
theorem Nn:Tryz.f46.body=some P0:=by kernel_rfl
def ib (j:bP) (aj:List Int):Bool×Int:=(bif (!decide ((db j aj)=0)) then (false,(db j aj)) else ((qY j aj),0))
theorem aad {d:Nat} {h:az} {aJ:AV} (j:bP) (aj:List Int) (b7:aK.ok h j) (bA:bT h .i64 3 aJ aj) (bM:Tidy h):cA (d+13) (.fn 46) [(AV.agg [j.au,j.ar]),aJ] h= .ret (AV.tuple [(AV.bool (ib j aj).1),(Zi (ib j aj).2)]) h:=by
 have oA:=bA.small
 have l7:=b7.1.small
 have l8:=b7.2.small
 obtain ⟨h1,dw,de,jW,bx,ca⟩:=gQ bM (aN.cells [j.au,j.ar] 25 false)
 have bD:=ca
 have k2:=Hx (d:=d) j aj (aK.mono bD b7) (bA.has bD) de
 have ei:=fun {al ps} (k:Pk al _ ps)=>(NN dw (fun i=>(Pt i))<|CN 2<|MM (aP 25 0 (AV.agg [j.au,j.ar]) bx k!)<|CC<|EE k2<|CN 2<|VV (kt 31 false true .i64 (db j aj) 0)<|k:Pk _ [] ps)
 rcases bu (!decide ((db j aj)=0)) with f0 | f0
 · have ja:=Eu f0
   have e:ib j aj=(false,(db j aj)):=by simp only[ib,f0,ao,ai]
   rw[e]
   exact aG rfl (aY Tryz.func46 Nn rfl (.inr rfl) (pk (d+12) _ _ h _ h1 (ei<|BB f0<|CN 3<|ZZ) k!) k!) bD rfl
 · have ja:=Ew f0
   have k4:=Vl (d:=d+8) j aj (aK.mono bD b7) (bA.has bD) KS KS de
   have e:ib j aj=((qY j aj),0):=by simp only[ib,f0,ao,ai]
   rw[e]
   exact aG rfl (aY Tryz.func46 Nn rfl (.inr rfl) (pk (d+12) _ _ h _ h1 (ei<|BM f0 (aP 25 0 (AV.agg [j.au,j.ar]) bx k!)<|CC<|EE k4<|CN 2<|ZZ) k!) k!) bD rfl
theorem uR {p:Prop} (h:p:=by first | omega | assumption | (simp only[List.length_set,List.length_replicate,List.length_append,List.length_cons,List.length_nil,List.nil_append]<;>omega) | (rw[List.length_take];omega)):p:=h
def xK:Code:=(Tryz.f47.body).getD .skip
theorem P1:Tryz.f47.body=some xK:=by kernel_rfl
def KU:Code:=(bl xK).getD 0 .skip
def nY (j:bP) (aj:List Int):Nat→Nat→Int→Int
 | 0,_,eY=>eY
 | dx+1,i0,eY=>nY j aj dx (i0+1) (imax eY (dk j aj ((i0:Nat):Int)))
theorem xL {d:Nat} {h:az} (aJ:AV) (aj:List Int) (j:bP) (bj:Nat) (bp:bT h .i64 3 aJ aj) (cC:aO h j.au j.ab) (dq:aO h j.ar j.af) (fI:aK.ok h j) (fU:aj.length=j.ab.length) (iB:aj.length=j.ab.length):∀(k_ i_:Nat) (eY:Int) (_:i_+k_=aj.length) (x:Nat→AV) (hh:az) (aF:Tidy hh) (aA:Has h hh) (br:hh.get bj=some (aN.cells [j.au,j.ar] 25 false)),cr (cA (d+1)) KU ⟨((x 0)::aJ::(Pt bj)::(x 3)::(x 4)::(Zi eY)::(x 6)::(x 7)::(Zn aj.length)::(Zn i_)::rx x 10 10 []),hh,[],.no⟩ (.exit 0) hh (fun r y=>((y 0)::aJ::(Pt bj)::(y 3)::(y 4)::(Zi r)::(y 6)::(y 7)::(Zn aj.length)::rx y 9 11 [])) (fun r=>True) (nY j aj k_ i_ eY)
 | 0,i0,eY,eZ,x,hh,aF,aA,br=>by
  have q1:(decide (((i0:Nat):Int)<((aj.length:Nat):Int)))=false:=d!
  exact cr.out eY rfl (pk (d+1) _ _ hh _ hh (VV (bE 3 false false .i64 ((i0:Nat):Int) ((aj.length:Nat):Int))<|BB q1<|ZZ) k!) (Grow.refl aF) trivial k!
 | dx+1,i0,eY,eZ,x,hh,aF,aA,br=>by
  have gN:=bp.small
  have mw:=cC.small
  have sX:=dq.small
  have tD:=aF _ _ br
  have q1:(decide (((i0:Nat):Int)<((aj.length:Nat):Int)))=true:=d!
  have k2:=qe (d:=d) j aj ((i0:Nat):Int) (aK.mono aA fI) (bp.has aA) uR uR uR aF
  have u3:=eA 3 false true i0 1 o!
  exact cr.round (by simp only[nY,ao,ai]) (pk (d+1) _ _ hh _ hh (VV (bE 3 false false .i64 ((i0:Nat):Int) ((aj.length:Nat):Int))<|BB q1<|CN 3<|MM (aP 25 0 (AV.agg [j.au,j.ar]) br k!)<|CN 2<|EE k2<|CN 2<|VV u3<|CC<|ZZ) k!) (Grow.refl aF) _ k! (fun x=>xL aJ aj j bj bp cC dq fI fU iB dx (i0+1) (imax eY (dk j aj ((i0:Nat):Int))) o! x hh aF aA br)
def tg (j:bP) (aj:List Int):Int:=(nY j aj aj.length 0 0)
theorem P2 {d:Nat} {h:az} {aJ:AV} (j:bP) (aj:List Int) (b7:aK.ok h j) (bA:bT h .i64 3 aJ aj) (mf:aj.length=j.ab.length) (bM:Tidy h):cA (d+2) (.fn 47) [(AV.agg [j.au,j.ar]),aJ] h= .ret (Zi (tg j aj)) h:=by
 obtain ⟨h1,dw,de,jW,bx,ca⟩:=gQ bM (aN.cells [j.au,j.ar] 25 false)
 have bD:=ca
 have JH:=bA.len
 obtain ⟨MR,h4,jX,fV,wC⟩:=xL (d:=d) (h:=h) aJ aj j h.nx bA b7.1 b7.2 b7 o! o! aj.length 0 0 o! (dr ((AV.agg [j.au,j.ar])::aJ::(Pt h.nx)::aL::(Zi 0)::(Zi 0)::aL::aJ::(Zn aj.length)::(Zi 0)::iW 10)) h1 de bD bx
 have fq:=bD.trans fV.a
 have e:tg j aj=(nY j aj aj.length 0 0):=by simp only[tg,ao,ai]
 rw[e]
 exact aG rfl (aY Tryz.func47 P1 rfl (.inr rfl) (pk (d+1) _ _ h _ h4 (NN dw (fun i=>(Pt i))<|CN 3<|VV JH<|CC<|LL jX<|CN 2<|ZZ) k!) k!) fq rfl
theorem KV {j:bP} {aj:List Int} (h:(ib j aj).2=0):cE j∧aj.length=j.ab.length:=by
 unfold ib at h
 by_cases a:db j aj=0
 · exact zv a
 · rw[fL a] at h;exact absurd h a
def LY:Code:=(Tryz.f19.body).getD .skip
theorem Cb:Tryz.f19.body=some LY:=by kernel_rfl
def jI (j:bP) (aj:List Int):Int×Int:=(bif (!decide ((ib j aj).2=0)) then (0,(ib j aj).2) else (bif (!((ib j aj).1)) then (0,8) else ((tg j aj),0)))
theorem VM {d:Nat} {h:az} {aJ:AV} (j:bP) (aj:List Int) (b7:aK.ok h j) (bA:bT h .i64 3 aJ aj) (bM:Tidy h):cA (d+14) (.fn 19) [(AV.agg [j.au,j.ar]),aJ] h= .ret (AV.tuple [(Zi (jI j aj).1),(Zi (jI j aj).2)]) h:=by
 have oA:=bA.small
 have l7:=b7.1.small
 have l8:=b7.2.small
 obtain ⟨h1,dw,de,jW,bx,ca⟩:=gQ bM (aN.cells [j.au,j.ar] 25 false)
 have bD:=ca
 have k2:=aad (d:=d) j aj (aK.mono bD b7) (bA.has bD) de
 have ei:=fun {al ps} (k:Pk al _ ps)=>(NN dw (fun i=>(Pt i))<|CN 2<|MM (aP 25 0 (AV.agg [j.au,j.ar]) bx k!)<|CC<|EE k2<|CN 6<|VV (kt 31 false true .i64 (ib j aj).2 0)<|CC<|k:Pk _ [] ps)
 rcases bu (!decide ((ib j aj).2=0)) with f0 | f0
 · have ja:=Eu f0
   have e:jI j aj=(0,(ib j aj).2):=by simp only[jI,f0,ao,ai]
   rw[e]
   exact aG rfl (aY Tryz.func19 Cb rfl (.inr rfl) (pk (d+13) _ _ h _ h1 (ei<|BB f0<|CN 3<|ZZ) k!) k!) bD rfl
 · have ja:=Ew f0
   rcases bu (!((ib j aj).1)) with f1 | f1
   · have e:jI j aj=(0,8):=by simp only[jI,f0,f1,ao,ai]
     rw[e]
     exact aG rfl (aY Tryz.func19 Cb rfl (.inr rfl) (pk (d+13) _ _ h _ h1 (ei<|BB f0<|CN 3<|BB f1<|CN 2<|ZZ) k!) k!) bD rfl
   · have k5:=P2 (d:=d+11) j aj (aK.mono bD b7) (bA.has bD) (by first | omega | assumption | exact (KV a!).2) de
     have e:jI j aj=((tg j aj),0):=by simp only[jI,f0,f1,ao,ai]
     rw[e]
     exact aG rfl (aY Tryz.func19 Cb rfl (.inr rfl) (pk (d+13) _ _ h _ h1 (ei<|BB f0<|CN 3<|BM f1 (aP 25 0 (AV.agg [j.au,j.ar]) bx k!)<|CC<|EE k5<|CN 2<|ZZ) k!) k!) bD rfl
def Au:Code:=(Tryz.f34.body).getD .skip
theorem jo:Tryz.f34.body=some Au:=by kernel_rfl
def bX (j:bP) (aj:List Int) (now:Int) (ah:Int) (bn:Int):Int:=(bif (!decide ((jI j aj).2=0)) then (jI j aj).2 else (bif (!(kY ah ((j.af.length:Nat):Int))) then 7 else (bif (!(da now)) then 1 else (bif (!(da bn)) then 1 else (bif (decide (bn<now)) then 1 else 0)))))
theorem FZ {d:Nat} {h:az} {aJ:AV} (j:bP) (aj:List Int) (now:Int) (ah:Int) (bn:Int) (b7:aK.ok h j) (bA:bT h .i64 3 aJ aj) (bM:Tidy h):cA (d+15) (.fn 34) [(AV.agg [j.au,j.ar]),aJ,(Zi now),(Zi ah),(Zi bn)] h= .ret (Zi (bX j aj now ah bn)) h:=by
 obtain ⟨h1,dw,de,jW,bx,ca⟩:=gQ bM (aN.cells [j.au,j.ar] 25 false)
 have bD:=ca
 have k2:=VM (d:=d) j aj (aK.mono bD b7) (bA.has bD) de
 have ei:=fun {al ps} (k:Pk al _ ps)=>(NN dw (fun i=>(Pt i))<|CC<|MM (aP 25 0 (AV.agg [j.au,j.ar]) bx k!)<|CC<|EE k2<|CN 6<|VV (kt 31 false true .i64 (jI j aj).2 0)<|k:Pk _ [] ps)
 rcases bu (!decide ((jI j aj).2=0)) with f0 | f0
 · have e:bX j aj now ah bn=((jI j aj).2):=by simp only[bX,f0,ao,ai]
   rw[e]
   exact aG rfl (aY Tryz.func34 jo rfl (.inr rfl) (pk (d+14) _ _ h _ h1 (ei<|BB f0<|CN 2<|ZZ) k!) k!) bD rfl
 · have RQ:=b7.2.len
   have k5:=JB (d:=d+13) ah ((j.af.length:Nat):Int) de
   have gK:=fun {al ps} (k:Pk al _ ps)=>(ei<|BB f0<|CN 2<|MM (aP 23 1 j.ar bx k!)<|VV RQ<|EE k5<|CN 2<|k:Pk _ [] ps)
   rcases bu (!(kY ah ((j.af.length:Nat):Int))) with f1 | f1
   · have e:bX j aj now ah bn=7:=by simp only[bX,f0,f1,ao,ai]
     rw[e]
     exact aG rfl (aY Tryz.func34 jo rfl (.inr rfl) (pk (d+14) _ _ h _ h1 (gK<|BC f1<|ZZ) k!) k!) bD rfl
   · have k7:=ou (d:=d+12) now de
     have n9:=fun {al ps} (k:Pk al _ ps)=>(gK<|BC f1<|EE k7<|CN 2<|k:Pk _ [] ps)
     rcases bu (!(da now)) with f2 | f2
     · have e:bX j aj now ah bn=1:=by simp only[bX,f0,f1,f2,ao,ai]
       rw[e]
       exact aG rfl (aY Tryz.func34 jo rfl (.inr rfl) (pk (d+14) _ _ h _ h1 (n9<|BB f2<|BC f2<|ZZ) k!) k!) bD rfl
     · have k9:=ou (d:=d+12) bn de
       rcases bu (!(da bn)) with f3 | f3
       · have e:bX j aj now ah bn=1:=by simp only[bX,f0,f1,f2,f3,ao,ai]
         rw[e]
         exact aG rfl (aY Tryz.func34 jo rfl (.inr rfl) (pk (d+14) _ _ h _ h1 (n9<|BC f2<|EE k9<|CN 2<|BB f3<|BC f3<|ZZ) k!) k!) bD rfl
       · have s5:=fun {al ps} (k:Pk al _ ps)=>(n9<|BC f2<|EE k9<|CN 2<|BB f3<|CN 2<|VV (bE 3 false false .i64 bn now)<|CC<|k:Pk _ [] ps)
         rcases bu (decide (bn<now)) with f4 | f4
         · have e:bX j aj now ah bn=1:=by simp only[bX,f0,f1,f2,f3,f4,ao,ai]
           rw[e]
           exact aG rfl (aY Tryz.func34 jo rfl (.inr rfl) (pk (d+14) _ _ h _ h1 (s5<|BC f4<|ZZ) k!) k!) bD rfl
         · have e:bX j aj now ah bn=0:=by simp only[bX,f0,f1,f2,f3,f4,ao,ai]
           rw[e]
           exact aG rfl (aY Tryz.func34 jo rfl (.inr rfl) (pk (d+14) _ _ h _ h1 (s5<|BC f4<|ZZ) k!) k!) bD rfl
def cv (l:List Span) (m:Int):Prop:=∃s∈l,s.a8≤m∧m≤s.aQ
def Asc (L:List Span):Prop:=(∀s∈L,0≤s.a8∧s.a8≤s.aQ∧s.aQ≤100000)∧L.Pairwise (fun a b=>a.aQ+1<b.a8)
theorem amb {L:List Span} {x:Span}:(L++[x]).g L.length=x:=by
 rw[List.g,List.getD_eq_getElem?_getD,List.getElem?_append_right (jR _),Nat.sub_self];rfl
theorem aeT {L:List Span} {x y:Span}:(L++[x]).set L.length y=L++[y]:=by
 rw[List.set_append_right _ _ (jR _),Nat.sub_self];rfl
theorem amc {S:List Span} {k i:Nat}:mG S (k+1) i []=mG S k (i+1) [S.g i]:=by
 rw[mG];rfl
theorem ahP {S L:List Span} {x:Span} {k i:Nat} (h:0≤x.aQ∧x.aQ≤100000):mG S (k+1) i (L++[x])=if (S.g i).a8≤x.aQ+1 then mG S k (i+1) (L++[⟨x.a8,imax x.aQ (S.g i).aQ⟩]) else mG S k (i+1) (L++[x]++[S.g i]):=by
 have e:(((L++[x]).length:Nat):Int) - 1=(L.length:Int):=by rw[List.length_append,List.length_singleton];omega
 rw[mG,e,Int.toNat_natCast,amb,eV (Int.natCast_nonneg _),ao,wrap_i64 o! o!,aeT]
 by_cases c:(S.g i).a8≤x.aQ+1
 · rw[if_pos c,eV c,ao]
 · rw[if_neg c,fL c,ai]
theorem aeU {S:List Span} (hS:∀s∈S,0≤s.a8∧s.a8≤s.aQ∧s.aQ≤100000) (hP:∀a b,a<b→b<S.length→(S.g a).a8≤(S.g b).a8):∀(k i:Nat) (L:List Span),i+k=S.length→Asc L→(∀x∈L,∀q,i≤q→q<S.length→x.a8≤(S.g q).a8)→
 Asc (mG S k i L)∧∀m,cv (mG S k i L) m↔cv L m∨∃q,i≤q∧q<S.length∧(S.g q).a8≤m∧m≤(S.g q).aQ
 | 0,i,L,h,A,hl=>⟨A,fun m=>⟨.inl,fun z=>z.elim id fun ⟨q,a,b,_⟩=>by omega⟩⟩
 | k+1,i,L,h,A,hl=>by
  have s0:=hS _ (oF (l:=S) (i:=i) o!)
  have nx:∀q,i+1≤q→q<S.length→(S.g i).a8≤(S.g q).a8:=fun q a b=>hP i q o! b
  have app:∀L':List Span,(∀x∈L',∀q,i≤q→q<S.length→x.a8≤(S.g q).a8)→Asc L'→(∀x∈L',x.aQ+1<(S.g i).a8)→Asc (mG S k (i+1) (L'++[S.g i]))∧∀m,cv (mG S k (i+1) (L'++[S.g i])) m↔cv L' m∨∃q,i≤q∧q<S.length∧(S.g q).a8≤m∧m≤(S.g q).aQ:=fun L' hl' A' lt=>by
   have ih:=aeU hS hP k (i+1) (L'++[S.g i]) o! ⟨fun s hs=>by
    rcases List.mem_append.1 hs with a | a
    · exact A'.1 s a
    · rw[List.mem_singleton.1 a];exact s0,List.pairwise_append.2 ⟨A'.2,List.pairwise_singleton ..,fun a ha b hb=>by rw[List.mem_singleton.1 hb];exact lt a ha⟩⟩ (fun x hx q a b=>by
    rcases List.mem_append.1 hx with c | c
    · exact hl' x c q o! b
    · rw[List.mem_singleton.1 c];exact nx q a b)
   refine ⟨ih.1,fun m=>(ih.2 m).trans ⟨fun z=>?_,fun z=>?_⟩⟩
   · rcases z with ⟨s,hs,c⟩ | ⟨q,a,b,c⟩
     · rcases List.mem_append.1 hs with a | a
       · exact .inl ⟨s,a,c⟩
       · rw[List.mem_singleton.1 a] at c;exact .inr ⟨i,jR _,by omega,c⟩
     · exact .inr ⟨q,by omega,b,c⟩
   · rcases z with ⟨s,hs,c⟩ | ⟨q,a,b,c⟩
     · exact .inl ⟨s,List.mem_append.2 (.inl hs),c⟩
     · by_cases e:q=i
       · rw[e] at c;exact .inl ⟨S.g i,List.mem_append.2 (.inr (by simp)),c⟩
       · exact .inr ⟨q,by omega,b,c⟩
  rcases List.eq_nil_or_concat L with rfl | ⟨L',x,rfl⟩
  · rw[amc];exact app [] hl A fun x hx=>by cases hx
  · rw[List.concat_eq_append] at *
    have ax:=A.1 x (by simp)
    have A2:=List.pairwise_append.1 A.2
    rw[ahP o!]
    by_cases c:(S.g i).a8≤x.aQ+1
    · rw[if_pos c]
      have lx:=hl x (by simp) i (jR _) o!
      have mx:x.aQ≤imax x.aQ (S.g i).aQ∧(S.g i).aQ≤imax x.aQ (S.g i).aQ∧imax x.aQ (S.g i).aQ≤100000:=by
       unfold imax;split<;>omega
      have ih:=aeU hS hP k (i+1) (L'++[⟨x.a8,imax x.aQ (S.g i).aQ⟩]) o! ⟨fun s hs=>by
       rcases List.mem_append.1 hs with a | a
       · exact A.1 s (List.mem_append.2 (.inl a))
       · rw[List.mem_singleton.1 a];dsimp only;omega,List.pairwise_append.2 ⟨A2.1,List.pairwise_singleton ..,fun a ha b hb=>by rw[List.mem_singleton.1 hb];exact A2.2.2 a ha x (by simp)⟩⟩ (fun y hy q a b=>by
       rcases List.mem_append.1 hy with d | d
       · exact hl y (List.mem_append.2 (.inl d)) q o! b
       · rw[List.mem_singleton.1 d];exact hl x (by simp) q o! b)
      refine ⟨ih.1,fun m=>(ih.2 m).trans ⟨fun z=>?_,fun z=>?_⟩⟩
      · rcases z with ⟨s,hs,d⟩ | ⟨q,a,b,d⟩
        · rcases List.mem_append.1 hs with a | a
          · exact .inl ⟨s,List.mem_append.2 (.inl a),d⟩
          · rw[List.mem_singleton.1 a] at d
            dsimp only at d
            by_cases e:m≤x.aQ
            · exact .inl ⟨x,by simp,d.1,e⟩
            · refine .inr ⟨i,jR _,by omega,by omega,?_⟩
              have:=d.2
              unfold imax at this;split at this<;>omega
        · exact .inr ⟨q,by omega,b,d⟩
      · rcases z with ⟨s,hs,d⟩ | ⟨q,a,b,d⟩
        · rcases List.mem_append.1 hs with a | a
          · exact .inl ⟨s,List.mem_append.2 (.inl a),d⟩
          · rw[List.mem_singleton.1 a] at d
            exact .inl ⟨⟨x.a8,imax x.aQ (S.g i).aQ⟩,by simp,d.1,by dsimp only;omega⟩
        · by_cases e:q=i
          · rw[e] at d;exact .inl ⟨⟨x.a8,imax x.aQ (S.g i).aQ⟩,by simp,by dsimp only;omega,by dsimp only;omega⟩
          · exact .inr ⟨q,by omega,b,d⟩
    · rw[if_neg c]
      exact app _ hl A fun y hy=>by
       rcases List.mem_append.1 hy with a | a
       · have:=A2.2.2 y a x (by simp);omega
       · rw[List.mem_singleton.1 a];omega
theorem VN {l:List Span} {s:Span} (h:s∈l):∃q,q<l.length∧l.g q=s:=by
 obtain ⟨q,hq,e⟩:=List.getElem_of_mem h
 exact ⟨q,hq,by rw[List.g,List.getD_eq_getElem?_getD,List.getElem?_eq_getElem hq];exact e⟩
theorem F0 {L:List Span} (hL:∀s∈L,0≤s.a8∧s.a8≤s.aQ∧s.aQ≤100000):Asc (fQ L)∧∀m,cv (fQ L) m↔cv L m:=by
 have pm:=Vy (L:=L) fun s hs=>⟨(hL s hs).1,by have:=hL s hs;omega⟩
 have as_:=aab L
 have r:=aeU (S:=rf L) (fun s hs=>hL s (pm.mem_iff.1 hs)) (fun a b Wc hb=>by
  have:=List.pairwise_iff_getElem.1 as_ a b o! hb Wc
  rw[List.g,List.g,List.getD_eq_getElem?_getD,List.getD_eq_getElem?_getD,List.getElem?_eq_getElem o!,List.getElem?_eq_getElem hb];exact this) (rf L).length 0 [] (Nat.zero_add _) ⟨fun s hs=>(by cases hs),List.Pairwise.nil⟩ (fun x hx=>by cases hx)
 refine ⟨r.1,fun m=>(r.2 m).trans ⟨fun z=>?_,fun ⟨s,hs,c⟩=>?_⟩⟩
 · rcases z with ⟨s,hs,_⟩ | ⟨q,_,hq,c⟩
   · cases hs
   · exact ⟨_,pm.mem_iff.1 (oF hq),c⟩
 · obtain ⟨q,hq,e⟩:=VN (pm.mem_iff.2 hs)
   exact .inr ⟨q,Nat.zero_le _,hq,by rw[e];exact c⟩
theorem Nh.refl (a:Task):Nh a a:=⟨rfl,rfl,rfl,rfl⟩
structure SmT (A B:List Task):Prop where
 len:A.length=B.length
 name:∀q,(A.g q).name=(B.g q).name
 takes:∀q,(A.g q).takes=(B.g q).takes
 aD:∀q,(A.g q).aD=(B.g q).aD
 aB:∀q,(A.g q).aB=(B.g q).aB
theorem F1 {α:Type} [Inhabited α] {l:List α} {q:Nat} (h:l.length≤q):l.g q=default:=by
 rw[List.g,List.getD_eq_getElem?_getD,List.getElem?_eq_none h];rfl
theorem ClT.sm {A B:List Task} (c:ClT A B B.length):SmT A B:=by
 have k:∀q,Nh (A.g q) (B.g q):=fun q=>by
  by_cases h:q<B.length
  · exact c.2 q h
  · rw[F1 (by rw[c.1];omega),F1 o!];exact Nh.refl _
 exact ⟨c.1,fun q=>(k q).1,fun q=>(k q).2.1,fun q=>(k q).2.2.1,fun q=>(k q).2.2.2⟩
theorem No {A B:List Task} {P Q:Task→Bool}:∀k i,(∀q,q<i+k→P (A.g q)=Q (B.g q))→ef A P k i=ef B Q k i
 | 0,i,h=>rfl
 | k+1,i,h=>by rw[ef,ef,h i o!,No k (i+1) fun q hq=>h q o!]
theorem aae {A B:List Task} {P Q:Task→Bool} (l:A.length=B.length) (h:∀q,q<B.length→P (A.g q)=Q (B.g q)):dt A P=dt B Q:=by
 rw[dt,dt,ik,ik,l,No _ _ fun q hq=>h q o!]
theorem Np {A B:List aR} {P Q:aR→Bool}:∀k i,(∀q,q<i+k→P (A.g q)=Q (B.g q))→cL A P k i=cL B Q k i
 | 0,i,h=>rfl
 | k+1,i,h=>by rw[cL,cL,h i o!,Np k (i+1) fun q hq=>h q o!]
theorem aaf {A B:List aR} {P Q:aR→Bool} (l:A.length=B.length) (h:∀q,q<B.length→P (A.g q)=Q (B.g q)):cD A P=cD B Q:=by
 rw[cD,cD,eN,eN,l,Np _ _ fun q hq=>h q o!]
theorem Nq {A B:List Task} {P Q:Nat→Int}:∀k i,(∀q,q<i+k→P q=Q q)→dg P A k i=dg Q B k i
 | 0,i,h=>rfl
 | k+1,i,h=>by rw[dg,dg,h i o!,Nq k (i+1) fun q hq=>h q o!]
theorem Nr {A B:List aR} {P Q:Nat→Int}:∀k i,(∀q,q<i+k→P q=Q q)→ch P A k i=ch Q B k i
 | 0,i,h=>rfl
 | k+1,i,h=>by rw[ch,ch,h i o!,Nr k (i+1) fun q hq=>h q o!]
theorem X0 {t:Int}:da t=true↔0≤t∧t≤100000:=by
 rw[da,im]
 by_cases a:0≤t<;>by_cases b:t≤100000<;>simp [a,b]
theorem S0 {l:List Span} (h0:l.length≤16) (h1:∀q,q<l.length→0≤(l.g q).a8∧(l.g q).a8≤(l.g q).aQ∧(l.g q).aQ≤100000) (h2:∀q,0<q→q<l.length→(l.g (q - 1)).aQ<(l.g q).a8):cO l 16 (fun jx=>cx (List.take jx l) (List.g l jx))=0:=by
 have z:∀k i,i+k=l.length→dP (fun jx=>cx (List.take jx l) (List.g l jx)) l k i=none:=by
  intro k
  induction k with
  | zero=>intro i _;rfl
  | succ k ih=>
   intro i h
   have a:=h1 i o!
   have e:cx (List.take i l) (List.g l i)=0:=by
    rw[cx,X0.2 ⟨a.1,by omega⟩,X0.2 ⟨by omega,a.2.2⟩,fL (by omega:¬(l.g i).aQ<(l.g i).a8)]
    by_cases c:0<i
    · have b:=h2 i c o!
      have tl:(List.take i l).length=i:=by rw[List.length_take];omega
      rw[tl,qd o!,fL (by omega:¬(l.g i).a8≤(l.g (i - 1)).aQ)]
      cases decide (0<((i:Nat):Int))<;>rfl
    · have e:i=0:=by omega
      subst e;rfl
   rw[dP,e]
   exact ih (i+1) o!
 rw[cO,fL (by omega:¬(16:Int)<((l.length:Nat):Int)),z _ _ (Nat.zero_add _)];rfl
theorem KW {A B:List Task} (S:SmT A B) (o:List Int):∀k i v a,b5 o A k i v a=b5 o B k i v a
 | 0,i,v,a=>rfl
 | k+1,i,v,a=>by
  have e:jA A a (o.g i)=jA B a (o.g i):=by rw[jA,jA,S.aD]
  rw[b5,b5,e,KW S o k (i+1)]
theorem KY {A B:List Task} (S:SmT A B) (o:List Int):∀k i v a,cH o A k i v a=cH o B k i v a
 | 0,i,v,a=>rfl
 | k+1,i,v,a=>by rw[cH,cH,KW S,KY S o k (i+1)]
theorem X1 {A B:List Task}:∀k i a,eH A k i a=eH B k i a
 | 0,i,a=>rfl
 | k+1,i,a=>by rw[eH,eH,X1 k]
theorem aag {A B:List Task} (S:SmT A B):eQ A=eQ B:=by
 rw[eQ,eQ,bf,bf,S.len,KY S,X1 (A:=A) (B:=B)]
theorem S1 {j j2:bP} (S:SmT j2.ab j.ab) (R:j2.af.length=j.af.length) (rn:∀q,(j2.af.g q).name=(j.af.g q).name) (rm:∀q,(j2.af.g q).aI=(j.af.g q).aI)
 (ro:∀q,q<j.af.length→cO (j2.af.g q).off 16 (fun jx=>cx (List.take jx (j2.af.g q).off) (List.g (j2.af.g q).off jx))=cO (j.af.g q).off 16 (fun jx=>cx (List.take jx (j.af.g q).off) (List.g (j.af.g q).off jx))):eI j2=eI j:=by
 have e1:bz j2.af 16 (fun jx=>bw (List.take jx j2.af) (List.g j2.af jx))=bz j.af 16 (fun jx=>bw (List.take jx j.af) (List.g j.af jx)):=by
  rw[bz,bz,R,Nr _ _ fun q hq=>?_]
  · show bw _ _=bw _ _
    have cl:cD (List.take q j2.af) (fun y=>eg y (j2.af.g q))=cD (List.take q j.af) (fun y=>eg y (j.af.g q)):=aaf (by simp only[List.length_take,R]) fun x hx=>by
     rw[List.length_take] at hx
     rw[eg,eg,qd o!,qd o!,rn,rn]
    rw[bw,bw,rn,rm,ro q o!,cl]
 have e2:bH j2.ab 64 (fun jx=>eE (List.take jx j2.ab) (List.g j2.ab jx) j2)=bH j.ab 64 (fun jx=>eE (List.take jx j.ab) (List.g j.ab jx) j):=by
  have un:∀b u,eU b u j2=eU b u j:=fun b u=>by rw[eU,eU,dO,dO,R,rm]
  have nn:∀b u,cI b u j2=cI b u j:=fun b u=>by rw[cI,cI,fF,fF,S.len]
  rw[bH,bH,S.len,Nq _ _ fun q hq=>?_]
  · show eE _ _ _=eE _ _ _
    simp only[eE,dB,S.name,S.takes,S.aD,S.aB,un,nn]
    have cl:dt (List.take q j2.ab) (fun y=>fp y (j2.ab.g q))=dt (List.take q j.ab) (fun y=>fp y (j.ab.g q)):=aae (by simp only[List.length_take,S.len]) fun x hx=>by
     rw[List.length_take] at hx
     rw[fp,fp,qd o!,qd o!,S.name,S.name]
    rw[cl]
 rw[eI,eI,e1,e2,aag S,S.len]
theorem Asc.g {l:List Span} (A:Asc l):(∀q,q<l.length→0≤(l.g q).a8∧(l.g q).a8≤(l.g q).aQ∧(l.g q).aQ≤100000)∧∀q,0<q→q<l.length→(l.g (q - 1)).aQ<(l.g q).a8:=by
 refine ⟨fun q hq=>A.1 _ (oF hq),fun q h0 hq=>?_⟩
 have:=List.pairwise_iff_getElem.1 A.2 (q - 1) q o! hq o!
 rw[List.g,List.g,List.getD_eq_getElem?_getD,List.getD_eq_getElem?_getD,List.getElem?_eq_getElem o!,List.getElem?_eq_getElem hq]
 show l[q - 1].aQ<l[q].a8
 omega
theorem Ad {j:bP} (F:cE j) {r:Nat} (hr:r<j.af.length) {lo hi:Int} (h0:0≤lo) (h1:lo≤hi) (h2:hi≤100000):∀s∈(j.af.g r).off++[(⟨lo,hi⟩:Span)],0≤s.a8∧s.a8≤s.aQ∧s.aQ≤100000:=fun s hs=>by
 rcases List.mem_append.1 hs with a | a
 · obtain ⟨q,hq,rfl⟩:=VN a
   have x:=(F.ro r hr).2 q hq
   have y:=(F.rs r hr).1 q hq
   omega
 · rw[List.mem_singleton.1 a];exact ⟨h0,h1,h2⟩
theorem KZ {h:az} {j j2:bP} {r lo hi:Int} (C:eI j=0) (r0:0≤r) (r1:r<(j.af.length:Int)) (h0:0≤lo) (h1:lo≤hi) (h2:hi≤100000) (T:wY h j r lo hi j2) (few:((j2.af.g r.toNat).off.length:Int)≤16):eI j2=0:=by
 have F:=sh C
 have nm:∀q,(j2.af.g q).name=(j.af.g q).name∧(j2.af.g q).aI=(j.af.g q).aI:=fun q=>by
  by_cases c:q<j.af.length
  · by_cases e:q=r.toNat
    · rw[e];exact ⟨T.name,T.aI⟩
    · exact ⟨(T.res q c e).1,(T.res q c e).2.1⟩
  · rw[F1 (by rw[T.len];omega),F1 o!];exact ⟨rfl,rfl⟩
 rw[S1 T.ab.sm T.len (fun q=>(nm q).1) (fun q=>(nm q).2) fun q hq=>?_]
 · exact C
 · by_cases e:q=r.toNat
   · subst e
     have A:=(F0 (Ad F hq h0 h1 h2)).1
     rw[←T.off] at A
     have x:=F.ro r.toNat hq
     have y:=F.rs r.toNat hq
     rw[S0 o! A.g.1 A.g.2,S0 x.1 (fun q hq=>by have a:=x.2 q hq;have b:=y.1 q hq;omega) y.2.1]
   · rw[(T.res q hq e).2.2]
theorem aah {j:bP} (h:eI j=0) {i:Nat} (hi:i<j.ab.length):(j.ab.g i).aD.length≤64:=by
 have F:=sh h
 have nb:=F.nb i hi
 rw[eI] at h
 have h2:bH j.ab 64 (fun jx=>eE (List.take jx j.ab) (List.g j.ab jx) j)=0:=by
  by_cases a:bz j.af 16 (fun jx=>bw (List.take jx j.af) (List.g j.af jx))=0
  · rw[eV a,Bool.not_true,ai] at h
    by_cases b:bH j.ab 64 (fun jx=>eE (List.take jx j.ab) (List.g j.ab jx) j)=0
    · exact b
    · rw[fL b] at h;exact absurd h b
  · rw[fL a] at h;exact absurd h a
 rw[zV] at h2
 have h3:dB j _ (j.ab.g i)=0:=(nQ h2).2 i hi
 generalize j.ab.g i=t at *
 have nd:∀q,q<t.aD.length→kg (t.aD.take q) (t.aD.g q)=false:=by
  intro q hq
  unfold dB at h3
  cases n1:il t.name with
  | false=>rw[n1] at h3;cases h3
  | true=>
  cases n2:dt (List.take i j.ab) (fun y=>fp y t) with
  | true=>rw[n1,n2] at h3;cases h3
  | false=>
  cases n3:da t.takes with
  | false=>rw[n1,n2,n3] at h3;cases h3
  | true=>
  rw[n1,n2,n3] at h3
  by_cases e:cP t.aD ((t.aD.length:Nat):Int) (fun jx=>cI (List.take jx t.aD) (List.g t.aD jx) j)=0
  · rw[UH] at e
    have:=(nQ e).2 q hq
    unfold cI fF at this
    cases n4:kY (t.aD.g q) ((j.ab.length:Nat):Int) with
    | false=>rw[show List.g t.aD q=t.aD.g q from rfl,n4] at this;cases this
    | true=>
     cases n5:kg (t.aD.take q) (t.aD.g q) with
     | false=>rfl
     | true=>rw[show List.g t.aD q=t.aD.g q from rfl,n4,show List.take q t.aD=t.aD.take q from rfl,n5] at this;cases this
  · rw[fL e] at h3;exact absurd h3 e
 have:=O' j.ab.length (t.aD.map Int.toNat) (List.pairwise_map.2 (List.pairwise_iff_getElem.2 fun a b ha hb Wc e=>by
  have q:=nd b hb
  rw[acF,List.length_take] at q
  have q2:=mA q a (Nat.zero_le _) o!
  have e1:t.aD.g a=t.aD[a]:=by rw[List.g,List.getD_eq_getElem?_getD,List.getElem?_eq_getElem ha];rfl
  have e2:t.aD.g b=t.aD[b]:=by rw[List.g,List.getD_eq_getElem?_getD,List.getElem?_eq_getElem hb];rfl
  rw[qd Wc] at q2
  have x:=nb a ha
  have y:=nb b hb
  have z:=pK q2
  rw[e1] at x z
  rw[e2] at y z
  omega)) (fun x hx=>by
  obtain ⟨u,hu,rfl⟩:=List.mem_map.1 hx
  obtain ⟨q,hq,e⟩:=List.getElem_of_mem hu
  have x:=nb q hq
  rw[List.g,List.getD_eq_getElem?_getD,List.getElem?_eq_getElem hq] at x
  have x':0≤t.aD[q]∧t.aD[q]<(j.ab.length:Int):=x
  rw[e] at x'
  omega)
 rw[List.length_map] at this
 have:=F.nt
 omega
structure og (j:bP) (aj:List Int) (now r bn:Int):Prop where
 ck:eI j=0
 zw:cE j
 sl:aj.length=j.ab.length
 kp:qY j aj=true
 r0:0≤r
 r1:r<(j.af.length:Int)
 n0:0≤now
 n1:now≤bn
 n2:bn≤100000
theorem aeV {j:bP} {aj:List Int} {now r bn:Int} (h:bX j aj now r bn=0):og j aj now r bn:=by
 rw[bX] at h
 by_cases a:(jI j aj).2=0
 · rw[eV a,Bool.not_true,ai] at h
   cases b:kY r ((j.af.length:Nat):Int) with
   | false=>rw[b] at h;cases h
   | true=>
   cases c:da now with
   | false=>rw[b,c] at h;cases h
   | true=>
   cases d:da bn with
   | false=>rw[b,c,d] at h;cases h
   | true=>
   by_cases e:bn<now
   · rw[b,c,d,eV e] at h;cases h
   have b':=zT b
   have c':=qQ c
   have d':=qQ d
   have k2:(ib j aj).2=0∧(ib j aj).1=true:=by
    rw[jI] at a
    by_cases x:(ib j aj).2=0
    · refine ⟨x,?_⟩
      cases y:(ib j aj).1 with
      | true=>rfl
      | false=>rw[eV x,y] at a;cases a
    · rw[fL x] at a;exact absurd a x
   have ks:=KV k2.1
   have ck:eI j=0:=by
    have z:=k2.1
    rw[ib] at z
    by_cases y:db j aj=0
    · rw[db] at y
      by_cases w:eI j=0
      · exact w
      · rw[fL w] at y;exact absurd y w
    · rw[fL y] at z;exact absurd z y
   have kp:qY j aj=true:=by
    have z:=k2.2
    rw[ib] at z
    by_cases y:db j aj=0
    · rw[eV y] at z;exact z
    · rw[fL y] at z;cases z
   exact ⟨ck,ks.1,ks.2,kp,b'.1,b'.2,c'.1,by omega,d'.2⟩
 · rw[fL a] at h;exact absurd h a
section
variable {j:bP} {aj:List Int} {now r bn:Int} (M:og j aj now r bn)
include M
theorem og.st:j.ab.length≤1000:=by have:=M.zw.nt;omega
theorem og.szt:∀q,q<j.ab.length→(j.ab.g q).aD.length≤1000000∧(j.ab.g q).aB.length≤1000000:=fun q hq=>⟨by have:=aah M.ck hq;omega,M.zw.uf hq⟩
theorem og.sr:j.af.length≤1000:=by have:=M.zw.nr;omega
theorem og.szr:∀q,q<j.af.length→(j.af.g q).off.length≤1000:=fun q hq=>by have:=(M.zw.ro q hq).1;omega
theorem og.po:∀s∈(j.af.g r.toNat).off,okP s:=fun s hs=>by
 have:=Ad M.zw (r:=r.toNat) (by have:=M.r1;have:=M.r0;omega) M.n0 M.n1 M.n2 s (List.mem_append.2 (.inl hs))
 exact ⟨this.1,by omega⟩
theorem og.pn:okP ⟨now,bn⟩:=⟨M.n0,by have:=M.n1;have:=M.n2;show now≤_;omega⟩
theorem og.tm:∀i,i<aj.length→0≤aj.g i∧aj.g i+(j.ab.g i).takes≤100000:=fun i hi=>(FM M.zw M.sl M.kp).1 i (by have:=M.sl;omega)
end
abbrev GU:bP:=⟨.aw,[],.aw,[]⟩
def Ef (j:bP) (aj:List Int) (now r u:Int) (j2:bP) (l:List Int) (e:Int):Prop:=
 (e≠0∧j2=GU∧l=[]∧(e=bX j aj now r u∨(bX j aj now r u=0∧∃hf j3,wY hf j r now u j3∧((¬((j3.af.g r.toNat).off.length:Int)≤16∧e=3)∨(((j3.af.g r.toNat).off.length:Int)≤16∧(lM j3 aj now r).2=false∧e=9)))))∨
 (e=0∧bX j aj now r u=0∧(∃hf,wY hf j r now u j2)∧((j2.af.g r.toNat).off.length:Int)≤16∧(lM j2 aj now r).2=true∧l=(lM j2 aj now r).1)
structure apF (j2:bP) (aj:List Int):Prop where
 zw:cE j2
 sl:aj.length=j2.ab.length
 rs:0<j2.af.length
 tm:∀i,i<aj.length→0≤aj.g i∧aj.g i+(j2.ab.g i).takes≤100000
theorem og.go {h:az} {j j2:bP} {aj:List Int} {now r u:Int} (M:og j aj now r u) (T:wY h j r now u j2) (few:((j2.af.g r.toNat).off.length:Int)≤16):apF j2 aj:=by
 have S:=T.ab.sm
 refine ⟨sh (KZ M.ck M.r0 M.r1 M.n0 M.n1 M.n2 T few),by rw[S.len];exact M.sl,by rw[T.len];have:=M.r0;have:=M.r1;omega,fun i hi=>?_⟩
 rw[S.takes];exact M.tm i hi
structure K0 (j:bP) (aj:List Int) (now r u:Int) (j2:bP) (l:List Int):Prop where
 cf:bX j aj now r u=0
 to:∃hf,wY hf j r now u j2
 few:((j2.af.g r.toNat).off.length:Int)≤16
 atx:(lM j2 aj now r).2=true
 eq:l=(lM j2 aj now r).1
theorem ai3 {j:bP} {aj:List Int} {now r u:Int} {j2:bP} {l:List Int} {e:Int} (F:Ef j aj now r u j2 l e) (h:e=0):K0 j aj now r u j2 l:=by
 rcases F with f | ⟨_,a,b,c,d,e⟩
 · exact absurd h f.1
 · exact ⟨a,b,c,d,e⟩
theorem K0.rl {j:bP} {aj:List Int} {now r u:Int} {j2:bP} {l:List Int} (F:K0 j aj now r u j2 l):j2.af.length=j.af.length:=by
 obtain ⟨hf,T⟩:=F.to;exact T.len
theorem K0.tl {j:bP} {aj:List Int} {now r u:Int} {j2:bP} {l:List Int} (F:K0 j aj now r u j2 l):j2.ab.length=j.ab.length:=by
 obtain ⟨hf,T⟩:=F.to;exact T.ab.1
theorem ug {f:FuncId} {fn:Func} {c:Code} {args ts0 ts:List AV} {h h':az} {call:b8} {x:oP} {v w u:AV} {a r q:Tmp} {t:TypeId} {i:Nat} (hf:env.P.funcs[f]? =some fn) (hb:fn.body=some c) (ht:args++List.replicate (fn.ntmps - args.length) AV.undef=ts0) (hx:x= .normal∨x= .ret)
 (e:Ev env call c ⟨ts0,h,[],.no⟩ x ⟨ts,h',[],.no⟩) (hrs:(fn.results.toList,ts.getD a AV.undef,ts.getD r AV.undef,ts.getD q AV.undef)=([.cell a t,.tmp r,.tmp q],AV.ptr i 0,w,u)) (hl:cX env h' t (.ptr i 0)=some v):xR env call f args h (.tuple [v,w,u]) h':=by
 refine aY hf hb ht hx e ?_
 rw[show fn.results.toList=[.cell a t,.tmp r,.tmp q] from congrArg Prod.fst hrs]
 simp only[xN,show ts.getD a AV.undef= .ptr i 0 from congrArg (fun q=>q.2.1) hrs,show ts.getD r AV.undef=w from congrArg (fun q=>q.2.2.1) hrs,show ts.getD q AV.undef=u from congrArg (fun q=>q.2.2.2) hrs,hl,Option.map_some]
 rfl
end
end Go.Proofs.aM
