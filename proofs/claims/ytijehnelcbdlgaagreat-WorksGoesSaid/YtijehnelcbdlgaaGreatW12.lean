import Derived.Test.YtijehnelcbdlgaaGreatW0
import Derived.Test.YtijehnelcbdlgaaGreatW1
import Derived.Test.YtijehnelcbdlgaaGreatW6
import Derived.Test.YtijehnelcbdlgaaGreatW7
import Derived.Test.YtijehnelcbdlgaaGreatW10
import Derived.Test.YtijehnelcbdlgaaGreatW11
import Derived.Test.YtijehnelcbdlgaaGreatW8
import Derived.Test.YtijehnelcbdlgaaGreatW3
namespace Go.Proofs.aM
open Go.Proofs Ab
noncomputable section
set_option maxRecDepth 100000
set_option maxHeartbeats 4000000
set_option linter.unusedVariables false
set_option linter.unusedSimpArgs false
theorem qg {p:Prop} (h:p:=by first | omega | assumption | exact NB _ o! | exact UB _ o! | exact mf _ o! | exact oQ _ o! | (simp only[List.length_set,List.length_replicate]<;>omega)):p:=h
theorem kC {p:Prop} (h:p:=by first | omega | (simp only[List.length_set,List.length_replicate,dQ]<;>omega) | exact hJ _ | exact ku a!):p:=h
def wS:Code:=(Tryz.f42.body).getD .skip
theorem Na:Tryz.f42.body=some wS:=by kernel_rfl
def SC:Code:=(bl wS).getD 0 .skip
def SD:Code:=(bl wS).getD 1 .skip
def lL (j:bP):Nat→Nat→List Bool→List Bool
 | 0,_,ba=>ba
 | dx+1,i0,ba=>lL j dx (i0+1) (ba.set i0 true)
theorem D8 {d:Nat} {h:az} (aJ:AV) (j:bP) (aj:List Int) (bj:Nat) (cg:Nat) (bp:bT h .i64 3 aJ aj) (cC:aO h j.au j.ab) (dq:aO h j.ar j.af) (fI:aK.ok h j) (fU:∀i,i<j.ab.length→∀q,q<(j.ab.g i).aD.length→0≤(j.ab.g i).aD.g q∧(j.ab.g i).aD.g q<(j.ab.length:Int)) (iB:∀i,i<j.ab.length→∀q,q<(j.ab.g i).aB.length→0≤((j.ab.g i).aB.g q).ah∧((j.ab.g i).aB.g q).ah<(j.af.length:Int)) (mO:aj.length=j.ab.length) (nI:j.ab.length≤100000) (bM:Tidy h) (tC:h.nx≤bj) (C5:h.nx≤cg) (o_:cg≠bj):∀(k_ i_:Nat) (ba:List Bool) (_:i_+k_=j.ab.length) (x:Nat→AV) (hh:az) (aF:Tidy hh) (aA:Has h hh) (fN:h.nx≤hh.nx) (kc:ba.length=j.ab.length) (br:hh.get bj=some (aN.cells [j.au,j.ar] 25 false)) (dA:hh.get cg=some (aN.cells (bs ba) 4 false)),bY (σ:=List Bool) (ρ:=Unit) (cA (d+3)) SC ⟨((x 0)::aJ::(Pt bj)::(x 3)::(x 4)::(AV.slice cg 0 j.ab.length j.ab.length false)::(Zn i_)::rx x 7 38 []),hh,[],.no⟩ (.exit 0) hh (fun r z y=>((y 0)::aJ::(Pt bj)::(y 3)::(y 4)::(AV.slice cg 0 j.ab.length j.ab.length false)::rx y 6 39 [])) (fun r z y=>((y 0)::aJ::(Pt bj)::(y 3)::(y 4)::(AV.slice cg 0 j.ab.length j.ab.length false)::rx y 6 39 [])) (fun r z hk=>Has h hk∧hk.get bj=some (aN.cells [j.au,j.ar] 25 false)∧hk.get cg=some (aN.cells (bs r) 4 false)∧r.length=j.ab.length) (fun r z hk=>Has h hk) (Sum.inl (lL j k_ i_ ba))
 | 0,i0,ba,eZ,x,hh,aF,aA,fN,kc,br,dA=>by
  have gd:=cC.len
  have q2:(decide (((i0:Nat):Int)<((j.ab.length:Nat):Int)))=false:=d!
  exact bY.out ba aL rfl (pk (d+3) _ _ hh _ hh (CN 2<|MM (aP 22 0 j.au br k!)<|VV gd<|VV (bE 3 false false .i64 ((i0:Nat):Int) ((j.ab.length:Nat):Int))<|BB q2<|ZZ) k!) aF o! ⟨aA,br,dA,kC⟩ k!
 | dx+1,i0,ba,eZ,x,hh,aF,aA,fN,kc,br,dA=>by
  have gN:=bp.small
  have mw:=cC.small
  have sX:=dq.small
  have tD:=aF _ _ br
  have Lr:=aF _ _ dA
  have gd:=cC.len
  have q2:(decide (((i0:Nat):Int)<((j.ab.length:Nat):Int)))=true:=d!
  have oH:hG env (some (.slice 4)) (some (AV.slice cg 0 j.ab.length j.ab.length false)) (some (Zn i0))=some (AV.ptr cg i0):=ic k! (show i0<j.ab.length by omega) o!
  obtain ⟨h4,Vm⟩:∃De:az,De=hh.put cg (some (aN.cells (bs (ba.set i0 true)) 4 false)):=⟨_,rfl⟩
  have alv:eS env hh 4 (AV.ptr cg i0) (AV.bool true)=some h4:=by rw[Vm];exact sS k! dA kC
  have FK:Ll hh h4 cg (aN.cells (bs (ba.set i0 true)) 4 false):=by rw[Vm];exact jL aF dA
  have ij:=FK.1
  have Y7:h4.nx=hh.nx:=by rw[Vm];rfl
  have fq:=FK.has aA bM o!
  have u5:=eA 3 false true i0 1 o!
  exact bY.round (congrArg Sum.inl (by simp only[lL,ao,ai])) (pk (d+3) _ _ hh _ h4 (CN 2<|MM (aP 22 0 j.au br k!)<|VV gd<|VV (bE 3 false false .i64 ((i0:Nat):Int) ((j.ab.length:Nat):Int))<|BB q2<|CN 2<|VV oH<|SS alv<|CC<|VV u5<|CC<|ZZ) k!) o! _ k! (fun x=>D8 aJ j aj bj cg bp cC dq fI fU iB mO nI bM tC C5 o_ dx (i0+1) (ba.set i0 true) o! x h4 ij fq o! kC (FK.2.2 _ _ o! br) FK.2.1)
def mF (j:bP) (aj:List Int):Nat→Nat→List Bool→(List Bool)⊕(Bool)
 | 0,_,bC=>Sum.inl bC
 | nK+1,i1,bC=>(bif (!(iP j aj (bC.set i1 false) ((i1:Nat):Int) (aj.g i1))) then Sum.inr false else mF j aj nK (i1+1) ((bC.set i1 false).set i1 true))
theorem D9 {d:Nat} {h:az} (aJ:AV) (j:bP) (aj:List Int) (b6:Nat) (dv:Nat) (eP:bT h .i64 3 aJ aj) (dW:aO h j.au j.ab) (mr:aO h j.ar j.af) (mQ:aK.ok h j) (o9:∀i,i<j.ab.length→∀q,q<(j.ab.g i).aD.length→0≤(j.ab.g i).aD.g q∧(j.ab.g i).aD.g q<(j.ab.length:Int)) (rz:∀i,i<j.ab.length→∀q,q<(j.ab.g i).aB.length→0≤((j.ab.g i).aB.g q).ah∧((j.ab.g i).aB.g q).ah<(j.af.length:Int)) (rA:aj.length=j.ab.length) (vg:j.ab.length≤100000) (bM:Tidy h) (Jb:h.nx≤b6) (Uc:h.nx≤dv) (Bt:dv≠b6):∀(k_ i_:Nat) (bC:List Bool) (_:i_+k_=j.ab.length) (x:Nat→AV) (hh:az) (aF:Tidy hh) (aA:Has h hh) (fN:h.nx≤hh.nx) (qH:bC.length=j.ab.length) (cz:hh.get b6=some (aN.cells [j.au,j.ar] 25 false)) (d_:hh.get dv=some (aN.cells (bs bC) 4 false)),bY (σ:=List Bool) (ρ:=Bool) (cA (d+3)) SD ⟨((x 0)::aJ::(Pt b6)::(x 3)::(x 4)::(AV.slice dv 0 j.ab.length j.ab.length false)::(x 6)::(Zn i_)::rx x 8 37 []),hh,[],.no⟩ (.exit 2) hh (fun r z y=>((y 0)::aJ::(Pt b6)::(y 3)::(y 4)::(AV.slice dv 0 j.ab.length j.ab.length false)::rx y 6 39 [])) (fun r z y=>((y 0)::aJ::(Pt b6)::(y 3)::(AV.bool r)::(AV.slice dv 0 j.ab.length j.ab.length false)::rx y 6 39 [])) (fun r z hk=>Has h hk∧hk.get b6=some (aN.cells [j.au,j.ar] 25 false)∧hk.get dv=some (aN.cells (bs r) 4 false)∧r.length=j.ab.length) (fun r z hk=>Has h hk) (mF j aj k_ i_ bC)
 | 0,i1,bC,eZ,x,hh,aF,aA,fN,qH,cz,d_=>by
  have gd:=dW.len
  have q2:(decide (((i1:Nat):Int)<((j.ab.length:Nat):Int)))=false:=d!
  exact bY.out bC aL rfl (pk (d+3) _ _ hh _ hh (CN 2<|MM (aP 22 0 j.au cz k!)<|VV gd<|VV (bE 3 false false .i64 ((i1:Nat):Int) ((j.ab.length:Nat):Int))<|BB q2<|ZZ) k!) aF o! ⟨aA,cz,d_,kC⟩ k!
 | nK+1,i1,bC,eZ,x,hh,aF,aA,fN,qH,cz,d_=>by
  have pV:=eP.small
  have rC:=dW.small
  have Fx:=mr.small
  have E2:=aF _ _ cz
  have Oo:=aF _ _ d_
  have NB:=o9
  have UB:=rz
  have gd:=dW.len
  have q2:(decide (((i1:Nat):Int)<((j.ab.length:Nat):Int)))=true:=d!
  have oH:hG env (some (.slice 4)) (some (AV.slice dv 0 j.ab.length j.ab.length false)) (some (Zn i1))=some (AV.ptr dv i1):=ic k! (show i1<j.ab.length by omega) o!
  obtain ⟨h4,Vm⟩:∃De:az,De=hh.put dv (some (aN.cells (bs (bC.set i1 false)) 4 false)):=⟨_,rfl⟩
  have alv:eS env hh 4 (AV.ptr dv i1) (AV.bool false)=some h4:=by rw[Vm];exact sS k! d_ kC
  have FK:Ll hh h4 dv (aN.cells (bs (bC.set i1 false)) 4 false):=by rw[Vm];exact jL aF d_
  have ij:=FK.1
  have Y7:h4.nx=hh.nx:=by rw[Vm];rfl
  have fq:=FK.has aA bM o!
  obtain ⟨p6,q7,Rz,_⟩:=eP.elem (i:=i1) o!
  have ld8:=(eP.has fq).load o! Rz
  have k9:=acU (d:=d) j aj (bC.set i1 false) ((i1:Nat):Int) (aj.g i1) (aK.mono fq mQ) (eP.has fq) (pT.own (op:=false) (n:=j.ab.length) k! k! FK.2.1 kC o!) qg qg qg qg qg qg ij
  have c10:=dK 18 (kK dW.same (kK mr.same CK))
  have ei:=fun {al ps} (k:Pk al _ ps)=>(CN 2<|MM (aP 22 0 j.au cz k!)<|VV gd<|VV (bE 3 false false .i64 ((i1:Nat):Int) ((j.ab.length:Nat):Int))<|BB q2<|CN 2<|VV oH<|SS alv<|MM (aP 25 0 (AV.agg [j.au,j.ar]) (FK.2.2 _ _ o! cz) k!)<|CN 5<|VV Rz<|MM ld8<|EE k9<|CC<|HH (aP 25 0 (AV.agg [j.au,j.ar]) (FK.2.2 _ _ o! cz) k!)<|HH c10<|HH ld8<|HH (show AV.same 20 (Zi (aj.g i1)) (Zi (aj.g i1))=true from aS 19 _ _)<|k:Pk _ [] ps)
  rcases bu (!(iP j aj (bC.set i1 false) ((i1:Nat):Int) (aj.g i1))) with f1 | f1
  · exact bY.ret false aL (by simp only[mF,f1,ao,ai]) (pk (d+3) _ _ hh _ h4 (ei<|BC f1<|ZZ) k!) ij o! fq k!
  · have Ls:hG env (some (.slice 4)) (some (AV.slice dv 0 j.ab.length j.ab.length false)) (some (Zn i1))=some (AV.ptr dv i1):=ic k! (show i1<j.ab.length by omega) o!
    obtain ⟨rk,yM⟩:∃De:az,De=h4.put dv (some (aN.cells (bs ((bC.set i1 false).set i1 true)) 4 false)):=⟨_,rfl⟩
    have rL:eS env h4 4 (AV.ptr dv i1) (AV.bool true)=some rk:=by rw[yM];exact sS k! FK.2.1 kC
    have nL:Ll h4 rk dv (aN.cells (bs ((bC.set i1 false).set i1 true)) 4 false):=by rw[yM];exact jL ij FK.2.1
    have jy:=nL.1
    have Df:rk.nx=h4.nx:=by rw[yM];rfl
    have gG:=nL.has fq bM o!
    have u14:=eA 3 false true i1 1 o!
    exact bY.round (by simp only[mF,f1,ao,ai]) (pk (d+3) _ _ hh _ rk (ei<|BB f1<|CN 2<|VV Ls<|SS rL<|CC<|VV u14<|CC<|ZZ) k!) o! _ k! (fun x=>D9 aJ j aj b6 dv eP dW mr mQ o9 rz rA vg bM Jb Uc Bt nK (i1+1) ((bC.set i1 false).set i1 true) o! x rk jy gG o! kC (nL.2.2 _ _ o! (FK.2.2 _ _ o! cz)) nL.2.1)
def qw (j:bP) (aj:List Int):Bool:=(match (mF j aj j.ab.length 0 (lL j j.ab.length 0 (List.replicate j.ab.length false))) with | Sum.inl rv8=>true | Sum.inr rr8=>rr8)
theorem ZQ {d:Nat} {h:az} {aJ:AV} (j:bP) (aj:List Int) (b7:aK.ok h j) (bA:bT h .i64 3 aJ aj) (mf:∀i,i<j.ab.length→∀q,q<(j.ab.g i).aD.length→0≤(j.ab.g i).aD.g q∧(j.ab.g i).aD.g q<(j.ab.length:Int)) (oQ:∀i,i<j.ab.length→∀q,q<(j.ab.g i).aB.length→0≤((j.ab.g i).aB.g q).ah∧((j.ab.g i).aB.g q).ah<(j.af.length:Int)) (xU:aj.length=j.ab.length) (Ak:j.ab.length≤100000) (bM:Tidy h):cA (d+4) (.fn 42) [(AV.agg [j.au,j.ar]),aJ] h= .ret (AV.bool (qw j aj)) h:=by
 obtain ⟨h1,dw,de,jW,bx,ca⟩:=gQ bM (aN.cells [j.au,j.ar] 25 false)
 have bD:=ca
 have JH:=b7.1.len
 have mk3:CH env (some (.slice 4)) (some (Zn j.ab.length)) (some (Zn j.ab.length))=some (aN.cells (cB [(AV.bool false)] j.ab.length) 4 false,fun i=>AV.slice i 0 j.ab.length j.ab.length false):=sw (bytes:=1) (z:=(AV.bool false)) k! k! k! rfl (by decide) o!
 obtain ⟨h4,Ow,ij,Y7,Lt,sY⟩:=gQ de (aN.cells (cB [(AV.bool false)] j.ab.length) 4 false)
 have fq:=bD.trans sY
 have acI:h4.get h1.nx=some (aN.cells (bs (List.replicate j.ab.length false)) 4 false):=by have q:=Lt;rw[EY] at q;exact q
 obtain ⟨zo7,Zc,h6,uJ,ig,aof,RR,acv,alw,akj⟩:=bY.n rfl (D8 (d:=d) (h:=h) aJ j aj h.nx h1.nx bA b7.1 b7.2 b7 mf oQ o! o! bM o! o! o! j.ab.length 0 (List.replicate j.ab.length false) o! (dr ((AV.agg [j.au,j.ar])::aJ::(Pt h.nx)::aL::(AV.bool false)::(AV.slice h1.nx 0 j.ab.length j.ab.length false)::(Zi 0)::aL::(Pt h.nx)::j.au::(Zn j.ab.length)::(AV.slice h1.nx 0 j.ab.length j.ab.length false)::iW 33)) h4 ij fq o! kC (sY _ _ bx) acI)
 have gL:=RR
 have gK:=fun {al ps} (k:Pk al _ ps)=>(NN dw (fun i=>(Pt i))<|CN 2<|MM (aP 22 0 j.au bx k!)<|VV JH<|KK mk3 Ow<|CN 2<|LL uJ<|CC<|k:Pk _ [] ps)
 have JC:=D9 (d:=d) (h:=h) aJ j aj h.nx h1.nx bA b7.1 b7.2 b7 mf oQ o! o! bM o! o! o! j.ab.length 0 (lL j j.ab.length 0 (List.replicate j.ab.length false)) o! (dr ((Zc 0)::aJ::(Pt h.nx)::(Zc 3)::(Zc 4)::(AV.slice h1.nx 0 j.ab.length j.ab.length false)::(Zc 6)::(Zi 0)::rx Zc 8 37 [])) h6 ig gL o! kC acv alw
 cases ox:mF j aj j.ab.length 0 (lL j j.ab.length 0 (List.replicate j.ab.length false)) with
 | inl rv8=>
  obtain ⟨anQ,E0,h9,ot,uw,T9,yG,T_,asJ,Ua⟩:=bY.n ox JC
  have nz:=yG
  have e:qw j aj=true:=by simp only[qw,ox,ao,ai]
  rw[e]
  exact aG rfl (aY Tryz.func42 Na rfl (.inr rfl) (pk (d+3) _ _ h _ h9 (gK<|LL ot<|CC<|ZZ) k!) k!) nz rfl
 | inr rr8=>
  obtain ⟨anQ,E0,h9,ot,uw,T9,yG⟩:=bY.r ox JC
  have nz:=yG
  have e:qw j aj=rr8:=by simp only[qw,ox,ao,ai]
  rw[e]
  exact aG rfl (aY Tryz.func42 Na rfl (.inr rfl) (pk (d+3) _ _ h _ h9 (gK<|LL ot<|ZZ) k!) k!) nz rfl
theorem ahd {j:bP} {s:List Int} (F:cE j) (T:Tm j s) {n:Int} (h0:0≤n) (h1:n<(j.ab.length:Int)):dk j s n=s.g n.toNat+(j.ab.g n.toNat).takes:=by
 have t:=T n.toNat o!
 have tk:=F.tk n.toNat o!
 rw[dk,wrap_i64 o! o!]
section
variable {j:bP} {s:List Int}
def Room (j:bP) (p:List Bool) (s:List Int):Prop:=∀r,r<j.af.length→∀m,0≤m→x7 (j.af.g r) m+vv j p s r m≤(j.af.g r).aI
def NOa (j:bP) (s:List Int) (i:Nat):Prop:=∀q,q<(j.ab.g i).aD.length→s.g (Int.toNat ((j.ab.g i).aD.g q))+(j.ab.g (Int.toNat ((j.ab.g i).aD.g q))).takes≤s.g i
def All (j:bP) (p:List Bool):Prop:=∀q,q<j.ab.length→p.g q=true
theorem FL {p p':List Bool} {s':List Int} {r:Nat} {m:Int} (h:∀q,q<j.ab.length→p.g q=p'.g q∧(p.g q=true→s.g q=s'.g q)):vv j p s r m=vv j p' s' r m:=by
 unfold vv
 refine ow fun q _ hq=>?_
 have e:=h q o!
 by_cases c:p.g q=true
 · rw[if_pos c,if_pos (e.1.symm.trans c),ac1 (e.2 c).symm]
 · rw[if_neg c,if_neg fun z=>c (e.1.trans z)]
theorem Kw:∀{l:List Int} {i:Nat},l.set i (l.g i)=l
 | [],i=>rfl
 | a::l,0=>rfl
 | a::l,i+1=>by
  show a::l.set i (l.g i)=a::l
  rw[Kw]
theorem adZ (F:cE j) (T:Tm j s) {i:Nat} (hi:i<j.ab.length):∀k a,a+k=(j.ab.g i).aD.length→(gV j (i:Int) s k a=none→∀q,a≤q→q<a+k→s.g (Int.toNat ((j.ab.g i).aD.g q))+(j.ab.g (Int.toNat ((j.ab.g i).aD.g q))).takes≤s.g i)∧∀b,gV j (i:Int) s k a=some b→b=false
 | 0,a,h=>⟨fun _ q x y=>by omega,fun b h=>by cases h⟩
 | k+1,a,h=>by
  have nb:=F.nb i hi a o!
  have ih:=adZ F T hi k (a+1) o!
  rw[gV,Int.toNat_natCast,ahd F T nb.1 nb.2]
  by_cases c:s.g i<s.g (Int.toNat ((j.ab.g i).aD.g a))+(j.ab.g (Int.toNat ((j.ab.g i).aD.g a))).takes
  · rw[eV c];exact ⟨(fun z=>by cases z),fun b z=>by cases z;rfl⟩
  · rw[fL c,ai]
    refine ⟨fun e q x y=>?_,ih.2⟩
    by_cases z:q=a
    · rw[z];omega
    · exact ih.1 e q o! o!
theorem aiM (F:cE j) (T:Tm j s) (sl:s.length=j.ab.length):∀(k i:Nat) (p a:List Bool) (b:List Int) (A:List Tl),i+k=j.ab.length→p.length=j.ab.length→(∀q,q<i→p.g q=true)→(∀q,i≤q→p.g q=false)→INV j p s i A→
 (∀x,jG j s k (i:Int) a b A=Sum.inl x→(∃p',All j p'∧INV j p' s j.ab.length x.2.2)∧∀q,i≤q→q<j.ab.length→NOa j s q)∧∀r,jG j s k (i:Int) a b A=Sum.inr r→r=false
 | 0,i,p,a,b,A,h,pl,h1,h2,I=>by
  have e:i=j.ab.length:=by omega
  refine ⟨fun x z=>?_,fun r z=>by cases z⟩
  cases z
  exact ⟨⟨p,fun q hq=>h1 q o!,by rw[←e];exact I⟩,fun q x y=>by omega⟩
 | k+1,i,p,a,b,A,h,pl,h1,h2,I=>by
  have hi:i<j.ab.length:=by omega
  have nt:=F.nt
  have l2:=adZ F T hi _ 0 (Nat.zero_add _)
  have Ip:=O7 F hi o! (h2 i (jR _)) pl sl (T i hi).1 (T i hi).2 I a b
  rw[Kw] at Ip
  have ih:=aiM F T sl k (i+1) (p.set i true) (di j a b A (i:Int) (s.g i)).1 (di j a b A (i:Int) (s.g i)).2.1 _ o! (by rw[List.length_set];exact pl) (fun q hq=>by
   rw[kz]
   split
   · rfl
   · rename_i z
     exact h1 q (by have:i≠q:=fun w=>z ⟨w,by omega⟩
                    omega)) (fun q hq=>by rw[kz,if_neg fun w=>by have:=w.1;omega];exact h2 q o!) Ip
  rw[jG,eV (by omega:(i:Int)<((j.ab.length:Nat):Int)),ao,Int.toNat_natCast]
  cases e:gV j (i:Int) s (j.ab.g i).aD.length 0 with
  | none=>
   rw[show ((i:Int)+1)=((i+1:Nat):Int) by omega]
   refine ⟨fun x z=>?_,ih.2⟩
   have y:=ih.1 x z
   refine ⟨y.1,fun q u v=>?_⟩
   by_cases w:q=i
   · rw[w];exact fun u' hu'=>l2.1 e u' (Nat.zero_le _) o!
   · exact y.2 q o! v
  | some r=>
   have:=l2.2 r e
   refine ⟨fun x z=>(by cases z),fun r' z=>?_⟩
   cases z;exact this
theorem aiN {x:List Bool×List Int×List Tl}:∀k i,(kB j x k i=none→∀q,i≤q→q<i+k→lQ (fit (x.2.2.g q).l)=true)∧∀b,kB j x k i=some b→b=false
 | 0,i=>⟨fun _ q a b=>by omega,fun b h=>by cases h⟩
 | k+1,i=>by
  have ih:=aiN (x:=x) k (i+1)
  rw[kB]
  cases e:lQ (fit (x.2.2.g i).l) with
  | false=>exact ⟨(fun z=>by cases z),fun b z=>by cases z;rfl⟩
  | true=>
   rw[Bool.not_true,ai]
   refine ⟨fun z q a b=>?_,ih.2⟩
   by_cases w:q=i
   · rw[w];exact e
   · exact ih.1 z q o! o!
theorem ad0:∀{k i:Nat} {b:Bool},fw s j k i=some b→b=false
 | 0,i,b,h=>by cases h
 | k+1,i,b,h=>by
  rw[fw] at h
  cases a:da (s.g i) with
  | false=>rw[a] at h;cases h;rfl
  | true=>
   rw[a] at h
   cases c:decide (100000<dk j s ((i:Nat):Int)) with
   | true=>rw[c] at h;cases h;rfl
   | false=>rw[c] at h;exact ad0 (k:=k) h
theorem ZR (F:cE j) (hl:s.length=j.ab.length) (h:od j s=true):Tm j s∧(∀i,i<j.ab.length→NOa j s i)∧∃p,All j p∧Room j p s:=by
 rw[od] at h
 cases e0:fw s j s.length 0 with
 | some r=>rw[e0] at h;have:=ad0 e0;subst this;cases h
 | none=>
  rw[e0] at h
  have T0:=uO F.tk hl e0
  have T:Tm j s:=fun i hi=>T0 i o!
  have nl:(ay j).1.length=j.af.length:=(O6 (s:=s) F).1
  have l1:=aiM F T hl j.ab.length 0 (List.replicate j.ab.length false) (ay j).2.1 (ay j).2.2 (ay j).1 (Nat.zero_add _) List.length_replicate (fun q hq=>by omega) (fun q _=>Sb) (O6 F)
  dsimp only at h
  rw[show Int.toNat (((j.ab.length:Nat):Int) - 0)=j.ab.length by omega] at h
  cases e1:jG j s j.ab.length 0 (ay j).2.1 (ay j).2.2 (ay j).1 with
  | inr r=>rw[e1] at h;have:=l1.2 r e1;subst this;cases h
  | inl x=>
   rw[e1] at h
   obtain ⟨⟨p,al,I⟩,no⟩:=l1.1 x e1
   have l3:=aiN (j:=j) (x:=x) (ay j).1.length 0
   dsimp only at h
   cases e3:kB j x (ay j).1.length 0 with
   | some r=>rw[e3] at h;have:=l3.2 r e3;subst this;cases h
   | none=>
    refine ⟨T,fun i hi=>no i (Nat.zero_le _) hi,p,al,fun r hr m hm=>?_⟩
    obtain ⟨n,B,hn,lv,mk⟩:=I.2 r hr
    have k:=l3.1 e3 r (Nat.zero_le _) o!
    rw[ux B.is.len,adS B.is,mk] at k
    rw[←lv m hm];exact k m hm
theorem aiO:∀k i,gH s j k i=fw s j k i
 | 0,i=>rfl
 | k+1,i=>by rw[gH,fw,aiO k (i+1)]
theorem aiP {v:Int}:∀k i,lD j v s k i=gV j v s k i
 | 0,i=>rfl
 | k+1,i=>by rw[lD,gV,aiP k (i+1)]
theorem aiQ (F:cE j) (T:Tm j s):∀(k i:Nat) (a:List Bool) (b:List Int),i+k=j.ab.length→
 (∀x,iy j s k (i:Int) a b=Sum.inl x→∀q,i≤q→q<j.ab.length→NOa j s q)∧∀r,iy j s k (i:Int) a b=Sum.inr r→r=false
 | 0,i,a,b,h=>⟨fun x _ q x y=>by omega,fun r z=>by cases z⟩
 | k+1,i,a,b,h=>by
  have hi:i<j.ab.length:=by omega
  have l2:=adZ F T hi _ 0 (Nat.zero_add _)
  have ih:=aiQ F T k (i+1) (rF j a b (i:Int) (s.g i)).1 (rF j a b (i:Int) (s.g i)).2 o!
  rw[iy,eV (by omega:(i:Int)<((j.ab.length:Nat):Int)),ao,Int.toNat_natCast,aiP]
  cases e:gV j (i:Int) s (j.ab.g i).aD.length 0 with
  | none=>
   rw[show ((i:Int)+1)=((i+1:Nat):Int) by omega]
   refine ⟨fun x z q u v=>?_,ih.2⟩
   have y:=ih.1 x z
   by_cases w:q=i
   · rw[w];exact fun u' hu'=>l2.1 e u' (Nat.zero_le _) o!
   · exact y q o! v
  | some r=>
   have:=l2.2 r e
   refine ⟨fun x z=>(by cases z),fun r' z=>?_⟩
   cases z;exact this
theorem Vo (F:cE j) (hl:s.length=j.ab.length) (hr:j.af.length=0) (h:nW j s=true):Tm j s∧(∀i,i<j.ab.length→NOa j s i)∧∃p,All j p∧Room j p s:=by
 rw[nW,aiO] at h
 cases e0:fw s j s.length 0 with
 | some r=>rw[e0] at h;have:=ad0 e0;subst this;cases h
 | none=>
  rw[e0] at h
  have T0:=uO F.tk hl e0
  have T:Tm j s:=fun i hi=>T0 i o!
  have l1:=aiQ F T j.ab.length 0 (ay j).2.1 (ay j).2.2 (Nat.zero_add _)
  dsimp only at h
  rw[show Int.toNat (((j.ab.length:Nat):Int) - 0)=j.ab.length by omega] at h
  cases e1:iy j s j.ab.length 0 (ay j).2.1 (ay j).2.2 with
  | inr r=>rw[e1] at h;have:=l1.2 r e1;subst this;cases h
  | inl x=>exact ⟨T,fun i hi=>l1.1 x e1 i (Nat.zero_le _) hi,List.replicate j.ab.length true,fun q hq=>by rw[List.g,List.getD_eq_getElem?_getD,List.getElem?_replicate,if_pos hq];rfl,fun r h=>by omega⟩
theorem FM (F:cE j) (hl:s.length=j.ab.length) (h:qY j s=true):Tm j s∧(∀i,i<j.ab.length→NOa j s i)∧∃p,All j p∧Room j p s:=by
 rw[qY] at h
 by_cases r:0<j.af.length
 · rw[eV r] at h;exact ZR F hl h
 · rw[fL r] at h;exact Vo F hl o! h
theorem aiR:∀(k i:Nat) (a:List Bool),a.length=j.ab.length→i+k=j.ab.length→(∀q,q<i→a.g q=true)→(lL j k i a).length=j.ab.length∧All j (lL j k i a)
 | 0,i,a,hl,h,hq=>⟨hl,fun q x=>hq q o!⟩
 | k+1,i,a,hl,h,hq=>by
  rw[lL]
  refine aiR k (i+1) _ (by rw[List.length_set];exact hl) o! fun q x=>?_
  rw[kz]
  by_cases z:i=q∧q<a.length
  · rw[if_pos z]
  · rw[if_neg z]
    exact hq q (by have:i≠q:=fun w=>z ⟨w,by omega⟩
                   omega)
theorem aiS (K:∀i,i<j.ab.length→∀p,(∀x,x<j.ab.length→x≠i→p.g x=true)→p.g i=false→iP j s p (i:Int) (s.g i)=true):∀(k i:Nat) (a:List Bool),a.length=j.ab.length→i+k=j.ab.length→All j a→∃b,mF j s k i a=Sum.inl b
 | 0,i,a,hl,h,hq=>⟨a,rfl⟩
 | k+1,i,a,hl,h,hq=>by
  rw[mF,K i o! (a.set i false) (fun x hx hn=>by rw[kz,if_neg fun z=>hn z.1.symm];exact hq x hx) (by rw[kz,if_pos ⟨rfl,by omega⟩]),Bool.not_true,ai]
  refine aiS K k (i+1) _ (by rw[List.length_set,List.length_set];exact hl) o! fun q x=>?_
  rw[kz]
  by_cases z:i=q∧q<(a.set i false).length
  · rw[if_pos z]
  · rw[if_neg z,kz,if_neg fun w=>z ⟨w.1,by rw[List.length_set];exact w.2⟩];exact hq q x
theorem ZS (K:∀i,i<j.ab.length→∀p,(∀x,x<j.ab.length→x≠i→p.g x=true)→p.g i=false→iP j s p (i:Int) (s.g i)=true):qw j s=true:=by
 obtain ⟨l,al⟩:=aiR (j:=j) j.ab.length 0 (List.replicate j.ab.length false) List.length_replicate (Nat.zero_add _) (fun q h=>by omega)
 obtain ⟨b,e⟩:=aiS K j.ab.length 0 _ l (Nat.zero_add _) al
 rw[qw,e]
end
theorem QI.le {j:bP} {i k:Int} {T:List Tl} (Q:QI j i T) (h:i≤k):QI j k T:=⟨Q.1,fun r hr=>by
 obtain ⟨n,B,hn⟩:=Q.2 r hr
 exact ⟨n,B.up o!,by omega⟩⟩
theorem Kx {j:bP} (F:cE j) {p:List Bool} {s:List Int} {T:List Tl} {i tqk st:Int} (Q:QI j i T) (h0:0≤i) (hi:i≤63) (t0:0≤tqk) (t1:tqk<(j.ab.length:Int)) (s0:0≤st) (s1:st+(j.ab.g tqk.toNat).takes≤100000) (S:∀ii,ii<s.length→0≤s.g ii∧s.g ii+(j.ab.g ii).takes≤100000):
 (∀ii,ii<(di j p s T tqk st).2.1.length→0≤(di j p s T tqk st).2.1.g ii∧(di j p s T tqk st).2.1.g ii+(j.ab.g ii).takes≤100000)∧QI j (i+1) (di j p s T tqk st).2.2:=by
 have ht:Int.toNat tqk<j.ab.length:=by omega
 refine ⟨?_,Q.put hi h0 p s (fun q hq=>by have u:=F.ur _ ht q hq;have:=Q.1;omega) (F.ud _ ht) (fun q hq=>by
  have a:=F.um _ ht q hq
  have b:=F.ur _ ht q hq
  have c:=(F.rs (Int.toNat ((j.ab.g tqk.toNat).aB.g q).ah) o!).2.2
  omega) s0 s1⟩
 rw[Bx]
 show ∀ii,ii<(s.set tqk.toNat st).length→0≤(s.set tqk.toNat st).g ii∧(s.set tqk.toNat st).g ii+(j.ab.g ii).takes≤100000
 intro ii hii
 rw[List.length_set] at hii
 by_cases e:Int.toNat tqk=ii
 · subst e;rw[fk hii];exact ⟨s0,s1⟩
 · rw[bk e];exact S ii hii
theorem Ky {L:List Int} {n v:Int} (h:∀q:Nat,q<L.length→0≤L.g q∧L.g q<n) (h0:0≤v) (h1:v<n):∀q:Nat,q<(L++[v]).length→0≤(L++[v]).g q∧(L++[v]).g q<n:=fun q hq=>by
 rw[List.length_append,List.length_singleton] at hq
 by_cases e:q<L.length
 · rw[show (L++[v]).g q=L.g q from by rw[List.g,List.g,List.getD_eq_getElem?_getD,List.getD_eq_getElem?_getD,List.getElem?_append_left e]];exact h q e
 · have e2:q=L.length:=by omega
   subst e2
   rw[show (L++[v]).g L.length=v from by rw[List.g,List.getD_eq_getElem?_getD,List.getElem?_append_right (jR _),Nat.sub_self];rfl];exact ⟨h0,h1⟩
section
variable {j:bP} {s:List Int} {p:List Bool} {fr:Int}
def FN (j:bP) (s:List Int) (T:List Tl) (fr:Int) (i:Nat):Int:=fo (qW j (i:Int)) (asks j T (i:Int)) (bU j s (i:Int) (j.ab.g i).aD.length 0 fr)
theorem Vp (F:cE j) (T:Tm j s) {A:List Tl} {k:Nat} (I:INV j p s k A) (hk:k≤64) {i:Nat} (hi:i<j.ab.length) (rd:Rdy j p i) (r0:0≤fr) (r1:fr≤100000):fr≤FN j s A fr i∧(FN j s A fr i+(j.ab.g i).takes≤100000→iP j s p (i:Int) (FN j s A fr i)=true)∧∀x,fr≤x→iP j s p (i:Int) x=true→FN j s A fr i≤x:=by
 have tk:=F.tk i hi
 have f0:fr≤bU j s (i:Int) (j.ab.g i).aD.length 0 fr:=((Sk F T hi _ _ 0 fr (Nat.zero_add _)).1 (Int.le_refl _)).1
 have f1:bU j s (i:Int) (j.ab.g i).aD.length 0 fr≤100000:=(Sk F T hi _ _ 0 fr (Nat.zero_add _)).2 ⟨r1,fun q _ hq=>by
  have nb:=F.nb i hi q o!
  exact (T _ o!).2⟩
 have no:∀x,NO j p s i x↔∀q,0≤q→q<0+(j.ab.g i).aD.length→s.g (Int.toNat ((j.ab.g i).aD.g q))+(j.ab.g (Int.toNat ((j.ab.g i).aD.g q))).takes≤x:=fun x=>⟨fun h q _ hq=>h q o! (rd q o!),fun h q hq _=>h q (Nat.zero_le _) o!⟩
 have na:∀q,q<qW j (i:Int)→0<(j.ab.g i).takes∧q<(j.ab.g i).aB.length:=fun q hq=>by
  unfold qW at hq
  rw[Int.toNat_natCast] at hq
  by_cases c:0<(j.ab.g i).takes
  · rw[eV c] at hq;exact ⟨c,hq⟩
  · rw[fL c] at hq;exact absurd hq (Nat.not_lt_zero _)
 obtain ⟨g1,g2⟩:=agQ (P:=asks j A (i:Int)) (n:=qW j (i:Int)) (bad:=fun x=>x+(j.ab.g i).takes≤100000→¬RM j p s i x) (fun q hq f h0 h1=>(DS F I hk hi (na q hq).2 h0 h1).2.1) (fun q hq f m h0 h1 h2 h3 h4 rm=>by
  have a:=DS F I hk hi (na q hq).2 h0 h1
  rcases a.2.2.1 with b | b
  · rcases b m h2 h3 with c | ⟨m',c1,c2,c3⟩
    · omega
    · exact c3 (rm (na q hq).1 q (na q hq).2 m' c1 c2)
  · have:=(na q hq).1;omega) (by omega:(0:Int)≤bU j s (i:Int) (j.ab.g i).aD.length 0 fr) (by omega:bU j s (i:Int) (j.ab.g i).aD.length 0 fr≤1000000)
 have g3:=aiz (P:=asks j A (i:Int)) (n:=qW j (i:Int)) (fun q hq f h0 h1=>(DS F I hk hi (na q hq).2 h0 h1).2.1) (by omega:(0:Int)≤bU j s (i:Int) (j.ab.g i).aD.length 0 fr) (by omega:bU j s (i:Int) (j.ab.g i).aD.length 0 fr≤1000000)
 show fr≤fo _ _ _∧(fo _ _ _+_≤100000→iP j s p (i:Int) (fo _ _ _)=true)∧∀x,fr≤x→iP j s p (i:Int) x=true→fo _ _ _≤x
 generalize lN:fo (qW j (i:Int)) (asks j A (i:Int)) (bU j s (i:Int) (j.ab.g i).aD.length 0 fr)=st at *
 refine ⟨by omega,fun h=>?_,fun x x0' hx=>?_⟩
 · refine (H4 F T hi st).2 ⟨⟨by omega,h⟩,(no st).2 ((Sk F T hi st _ 0 fr (Nat.zero_add _)).1 g3.1).2,fun ht u hu m m0 m1=>?_⟩
   have hn:u<qW j (i:Int):=by
    unfold qW
    rw[Int.toNat_natCast,eV ht];exact hu
   have a:=DS F I hk hi hu (f:=st) o! g3.2
   have b:=g1 u hn
   exact a.2.2.2 m o! o! o!
 · obtain ⟨⟨x0,x1⟩,x2,x3⟩:=(H4 F T hi x).1 hx
   have:=(Sk F T hi x _ 0 fr (Nat.zero_add _)).2 ⟨x0',(no x).1 x2⟩
   by_cases z:x<st
   · exact absurd x3 (g2 x this z x1)
   · omega
theorem ZT {T:List Tl} {i:Nat}:cK j p s T (i:Int) fr=bif decide (100000<FN j s T fr i+(j.ab.g i).takes) then (false,p,s,T) else (true,p.set i true,s.set i (FN j s T fr i),(di j p s T (i:Int) (FN j s T fr i)).2.2):=by
 rw[cK,Int.toNat_natCast]
 show (bif decide (100000<FN j s T fr i+(j.ab.g i).takes) then (false,p,s,T) else (true,(di j p s T (i:Int) (FN j s T fr i)).1,(di j p s T (i:Int) (FN j s T fr i)).2.1,(di j p s T (i:Int) (FN j s T fr i)).2.2))=_
 rw[Bx,Int.toNat_natCast]
end
def wT (j:bP) (fr:Int):List Int→List Bool→List Int→List Tl→(List Bool×List Int×List Tl)⊕(Bool×List Bool×List Int×List Tl)
 | [],a,b,c=>Sum.inl (a,b,c)
 | t::l,a,b,c=>bif (cK j a b c t fr).1 then wT j fr l (cK j a b c t fr).2.1 (cK j a b c t fr).2.2.1 (cK j a b c t fr).2.2.2 else Sum.inr (false,(cK j a b c t fr).2.1,(cK j a b c t fr).2.2.1,(cK j a b c t fr).2.2.2)
variable {j:bP} {oqd:List Int} {fr:Int}
theorem ad1 {p:List Bool}:∀(kq v:Nat) (a:List Bool) (b:List Int) (c:List Tl),(bf j.ab oqd p).length≤v+kq→gu j oqd p fr kq (v:Int) a b c=wT j fr ((bf j.ab oqd p).drop v) a b c
 | 0,v,a,b,c,h=>by rw[gu,List.drop_eq_nil_of_le o!];rfl
 | kq+1,v,a,b,c,h=>by
  rw[gu]
  by_cases f:v<(bf j.ab oqd p).length
  · rw[eV (by omega:(v:Int)<((bf j.ab oqd p).length:Int)),ao,show ((v:Int)+1)=((v+1:Nat):Int) by omega,ad1 kq (v+1) _ _ _ o!,Int.toNat_natCast,Jx f,wT]
    cases (cK j a b c ((bf j.ab oqd p).g v) fr).1<;>rfl
  · rw[fL (by omega:¬(v:Int)<((bf j.ab oqd p).length:Int)),ai,List.drop_eq_nil_of_le o!];rfl
structure SE (j:bP) (p:List Bool) (s:List Int):Prop where
 room:Room j p s
 nd:∀i,i<j.ab.length→p.g i=true→∀q,q<(j.ab.g i).aD.length→p.g (Int.toNat ((j.ab.g i).aD.g q))=true∧s.g (Int.toNat ((j.ab.g i).aD.g q))+(j.ab.g (Int.toNat ((j.ab.g i).aD.g q))).takes≤s.g i
theorem ZU (F:cE j) {p:List Bool} {s:List Int} (T:Tm j s) (A:SE j p s) {x:Nat} (hx:x<j.ab.length) (hp:p.g x=false) (pl:p.length=j.ab.length) (sl:s.length=j.ab.length) (rd:Rdy j p x) {st:Int} (h1:iP j s p (x:Int) st=true):SE j (p.set x true) (s.set x st):=by
 obtain ⟨⟨f0,f1⟩,f2,f3⟩:=(H4 F T hx st).1 h1
 have tk:=F.tk x hx
 have gs:∀q,q≠x→(s.set x st).g q=s.g q:=fun q hq=>bk (Ne.symm hq) _
 have gx:(s.set x st).g x=st:=fk o!
 have gp:∀q,q≠x→(p.set x true).g q=p.g q:=fun q hq=>by rw[kz,if_neg fun z=>hq z.1.symm]
 have nx:∀q,p.g q=true→q≠x:=fun q hq e=>by rw[e,hp] at hq;cases hq
 refine ⟨fun r hr m hm=>?_,fun i hi pi q hq=>?_⟩
 · rw[H2 hx hp pl sl]
   have old:=A.room r hr m hm
   split
   · rename_i c
     rcases H0 F hx (r:Int) with ⟨q,hq,e⟩ | ⟨_,e⟩
     · have k:=f3 o! q hq m c.1 c.2
       have us:=HZ F hx hq
       unfold OK1 at k
       rw[e,Int.toNat_natCast] at k
       rw[←e,us];omega
     · rw[e];omega
   · omega
 · by_cases z:i=x
   · subst z
     have a:=rd q hq
     have b:=nx _ a
     rw[gp _ b,gs _ b,gx]
     exact ⟨a,f2 q hq a⟩
   · rw[gp i z] at pi
     have a:=A.nd i hi pi q hq
     have b:=nx _ a.1
     rw[gp _ b,gs _ b,gs i z]
     exact a
theorem SF:∀{l:List Int} {a:List Bool} {b:List Int} {c:List Tl} {y:Bool×List Bool×List Int×List Tl},wT j fr l a b c=Sum.inr y→y.1=false
 | [],a,b,c,y,h=>by cases h
 | t::l,a,b,c,y,h=>by
  rw[wT] at h
  cases e:(cK j a b c t fr).1 with
  | true=>rw[e] at h;exact SF (l:=l) h
  | false=>rw[e] at h;cases h;rfl
theorem Kz (F:cE j) (r0:0≤fr) (r1:fr≤100000) (ho:∀q,q<oqd.length→0≤oqd.g q∧oqd.g q<(j.ab.length:Int)):∀(k:Nat) (p:List Bool) (s:List Int) (T:List Tl) (c:Nat) (x:List Bool×List Int×List Tl),p.length=j.ab.length→s.length=j.ab.length→Tm j s→INV j p s c T→SE j p s→c+nF p≤64→nF p≤k→wT j fr (LW j.ab oqd k p) p s T=Sum.inl x→SE j x.1 x.2.1∧x.2.1.length=j.ab.length∧Tm j x.2.1∧x.1.length=j.ab.length∧pick j.ab oqd x.1=none∧(∀q,p.g q=true→x.1.g q=true∧x.2.1.g q=s.g q)∧∀q,p.g q=false→x.1.g q=true→fr≤x.2.1.g q
 | k,p,s,T,c,x,pl,sl,tm,I,A,h1,h2,hx=>by
  cases e:pick j.ab oqd p with
  | none=>
   rw[M_ e] at hx
   cases hx
   exact ⟨A,sl,tm,pl,e,fun q hq=>⟨hq,rfl⟩,fun q a b=>by rw[a] at b;cases b⟩
  | some q=>
   have f:=qS e
   have g:=Xc f.1
   have oq:=ho q o!
   obtain ⟨i,hi⟩:∃i:Nat,oqd.g q=(i:Int):=⟨Int.toNat (oqd.g q),by omega⟩
   rw[hi,Int.toNat_natCast] at g
   rw[hi] at oq
   have NM:i<j.ab.length:=by omega
   have n:=E9 (l:=p) (n:=i) o! g.1
   have rd:Rdy j p i:=fun x hx=>by
    have r:=g.2
    rw[DC] at r
    have:=mA (P:=fun n=> !(p.g (Int.toNat ((j.ab.g i).aD.g n)))) (k:=(j.ab.g i).aD.length) (i:=0) (by
     cases z:anyI (fun n=> !(p.g (Int.toNat ((j.ab.g i).aD.g n)))) (j.ab.g i).aD.length 0
     · rfl
     · rw[z] at r;cases r) x (Nat.zero_le _) o!
    cases y:p.g (Int.toNat ((j.ab.g i).aD.g x))
    · rw[y] at this;cases this
    · rfl
   have L:=Vp F tm I o! NM rd r0 r1
   have tk:=F.tk i NM
   match k,h2,hx with
   | 0,h2,_=>omega
   | k+1,h2,hx=>
    rw[LW,e] at hx
    have hx:wT j fr (oqd.g q::LW j.ab oqd k (p.set (Int.toNat (oqd.g q)) true)) p s T=Sum.inl x:=hx
    rw[hi,wT,ZT,Int.toNat_natCast] at hx
    by_cases z:100000<FN j s T fr i+(j.ab.g i).takes
    · rw[eV z] at hx;cases hx
    · rw[fL z] at hx
      have ih:=Kz F r0 r1 ho k _ _ _ (c+1) x (by rw[List.length_set];exact pl) (by rw[List.length_set];exact sl) (fun x hx=>by
       by_cases y:i=x
       · subst y;rw[fk o!];omega
       · rw[bk y];exact tm x hx) (O7 F NM o! g.1 pl sl (by omega:0≤FN j s T fr i) o! I p s) (ZU F tm A NM g.1 pl sl rd (L.2.1 o!)) o! o! hx
      refine ⟨ih.1,ih.2.1,ih.2.2.1,ih.2.2.2.1,ih.2.2.2.2.1,fun a ha=>?_,fun a ha hb=>?_⟩
      · have ne:i≠a:=fun y=>by rw[←y,g.1] at ha;cases ha
        have:=ih.2.2.2.2.2.1 a (by rw[kz,if_neg fun y=>ne y.1];exact ha)
        rw[bk ne] at this
        exact this
      · by_cases y:i=a
        · subst y
          have:=ih.2.2.2.2.2.1 i (by rw[kz,if_pos ⟨rfl,by omega⟩])
          rw[fk o!] at this
          omega
        · exact ih.2.2.2.2.2.2 a (by rw[kz,if_neg fun z=>y z.1];exact ha) hb
theorem GO {P:Nat→Bool}:∀{k i:Nat},jg P k i=none→∀n,i≤n→n<i+k→P n=false
 | 0,i,_,n,a,b=>by omega
 | k+1,i,h,n,a,b=>by
  rw[jg] at h
  cases e:P i with
  | true=>rw[e] at h;cases h
  | false=>
   rw[e] at h
   by_cases z:n=i
   · rw[z];exact e
   · exact GO (k:=k) h n o! o!
theorem XG {p:List Bool} (hn:∀i,i<j.ab.length→K8 j.ab p i=false):∀(k:Nat) (x:List Int×List Bool),x.2.length=j.ab.length→(∀q,q<j.ab.length→x.2.g q=true→p.g q=true)→(∀i,i<j.ab.length→∀q,q<(j.ab.g i).aD.length→Int.toNat ((j.ab.g i).aD.g q)<j.ab.length)→∀q,q<j.ab.length→(BN j.ab k x).2.g q=true→p.g q=true
 | 0,x,hl,h,nb,q,hq=>h q hq
 | k+1,x,hl,h,nb,q,hq=>by
  rw[BN]
  refine XG hn k (W_ j.ab x) (by rw[Xb];exact hl) (fun i hi=>?_) nb q hq
  rw[W_]
  cases e:jg (K8 j.ab x.2) j.ab.length 0 with
  | none=>exact h i hi
  | some w=>
   have f:=qS e
   have g:=Xc f.1
   show (x.2.set w true).g i=true→p.g i=true
   by_cases z:w=i
   · subst z
     intro _
     have n:=hn w hi
     cases y:p.g w with
     | true=>rfl
     | false=>
      have:lK (j.ab.g w) p=true:=by
       rw[DC]
       have r:=g.2
       rw[DC] at r
       cases a:anyI (fun n=> !(p.g (Int.toNat ((j.ab.g w).aD.g n)))) (j.ab.g w).aD.length 0 with
       | false=>rfl
       | true=>
        exfalso
        have no:=mA (P:=fun n=> !(x.2.g (Int.toNat ((j.ab.g w).aD.g n)))) (k:=(j.ab.g w).aD.length) (i:=0) (by
         cases z:anyI (fun n=> !(x.2.g (Int.toNat ((j.ab.g w).aD.g n)))) (j.ab.g w).aD.length 0
         · rfl
         · rw[z] at r;cases r)
        rw[qb (Q:=fun _=>false) fun m _ hm=>by
         have b:=no m (Nat.zero_le _) hm
         have c:x.2.g (Int.toNat ((j.ab.g w).aD.g m))=true:=by
          cases v:x.2.g (Int.toNat ((j.ab.g w).aD.g m))
          · rw[v] at b;cases b
          · rfl
         rw[h _ (nb w hi m o!) c];rfl] at a
        have ff:∀k i,anyI (fun _=>false) k i=false:=fun k=>by
         induction k with
         | zero=>intro i;rfl
         | succ k ih=>intro i;rw[anyI,ih];rfl
        rw[ff] at a;cases a
      rw[K8,y,this] at n;cases n
   · rw[kz,if_neg fun y=>z y.1];exact h i hi
theorem KA (F:cE j) {p:List Bool} (pn:pick j.ab oqd p=none) (al:∀x:Nat,x<j.ab.length→p.g x=true∨∃q,q<oqd.length∧oqd.g q=(x:Int)):All j p:=by
 have hn:∀i,i<j.ab.length→K8 j.ab p i=false:=fun i hi=>by
  rcases al i hi with c | ⟨q,hq,e⟩
  · rw[K8,c];rfl
  have:=GO pn q (Nat.zero_le _) o!
  rw[e,Int.toNat_natCast] at this;exact this
 have c:=BP j.ab j.ab.length ([],List.replicate j.ab.length false) (by rw[List.length_replicate])
 have l:=F.io
 rw[BO] at l
 rw[yR] at c
 have e0:(([],List.replicate j.ab.length false):List Int×List Bool).1.length=0:=rfl
 have z:nF (BN j.ab j.ab.length ([],List.replicate j.ab.length false)).2=0:=by omega
 exact fun i hi=>XG hn j.ab.length ([],List.replicate j.ab.length false) List.length_replicate (fun q _ h=>by rw[show (([],List.replicate j.ab.length false):List Int×List Bool).2.g q=false from Sb] at h;cases h) (fun i hi q hq=>by have:=F.nb i hi q hq;omega) i hi (Xa z i (by rw[c.2];exact hi))
def Px:Code:=(Tryz.f86.body).getD .skip
theorem ZV:Tryz.f86.body=some Px:=by kernel_rfl
def mb (a:Int) (b:Int) (aj:List Int):Int:=(IntKind.i64.wrap ((aj.g a.toNat) -(aj.g b.toNat)))
theorem ZW {d:Nat} {h:az} {aJ:AV} (a:Int) (b:Int) (aj:List Int) (bt:Nat) (bA:bT h .i64 3 aJ aj) (dH:h.get bt=some (aN.cells [aJ] 26 false)) (mf:0≤a) (oQ:a<(aj.length:Int)) (xU:0≤b) (Ak:b<(aj.length:Int)) (bM:Tidy h):cA (d+1) (.fn 86) [(Zi a),(Zi b),(Pt bt)] h= .ret (Zi (mb a b aj)) h:=by
 obtain ⟨p2,q3,acp,_⟩:=bA.elem (i:=a.toNat) o!
 have ix1:=xn acp o!
 have ld4:=bA.load o! acp
 obtain ⟨p6,q7,acG,_⟩:=bA.elem (i:=b.toNat) o!
 have Rz:=xn acG o!
 have ld8:=bA.load o! acG
 have c9:=bA.same 19
 have e:mb a b aj=(IntKind.i64.wrap ((aj.g a.toNat) -(aj.g b.toNat))):=by simp only[mb,ao,ai]
 rw[e]
 exact aG rfl (aY Tryz.func86 ZV rfl (.inr rfl) (pk (d) _ _ h _ h (CC<|MM (aP 26 0 aJ dH k!)<|CC<|VV ix1<|MM ld4<|MM (aP 26 0 aJ dH k!)<|CC<|VV Rz<|MM ld8<|CN 2<|HH (aP 26 0 aJ dH k!)<|HH c9<|HH ld4<|HH (show AV.same 20 (Zi (aj.g a.toNat)) (Zi (aj.g a.toNat))=true from aS 19 _ _)<|HH (aP 26 0 aJ dH k!)<|HH c9<|HH ld8<|HH (show AV.same 20 (Zi (aj.g b.toNat)) (Zi (aj.g b.toNat))=true from aS 19 _ _)<|ZZ) k!) k!) (Has.refl _) rfl
def Py:Code:=(Tryz.f82.body).getD .skip
theorem ZX:Tryz.f82.body=some Py:=by kernel_rfl
def qx (u:ko) (ah:Int):Bool:=(decide (u.ah=ah))
theorem ZY {d:Nat} {h:az} (u:ko) (ah:Int) (Nb:Nat) (h_u:aK.ok h u) (Vq:h.get Nb=some (aN.cells [(Zi ah)] 3 false)) (bM:Tidy h):cA (d+1) (.fn 82) [(AV.agg [(Zi u.ah),(Zi u.aI)]),(Pt Nb)] h= .ret (AV.bool (qx u ah)) h:=by
 obtain ⟨h1,dw,de,jW,bx,ca⟩:=gQ bM (aN.cells [(Zi u.ah),(Zi u.aI)] 50 false)
 have bD:=ca
 have e:qx u ah=(decide (u.ah=ah)):=by simp only[qx,ao,ai]
 rw[e]
 exact aG rfl (aY Tryz.func82 ZX rfl (.inr rfl) (pk (d) _ _ h _ h1 (NN dw (fun i=>(Pt i))<|CN 2<|MM (aP 3 0 (Zi u.ah) bx k!)<|MM (aP 3 0 (Zi ah) (ca _ _ Vq) k!)<|VV (Bo 3 false false .i64 u.ah ah)<|CC<|ZZ) k!) k!) bD rfl
theorem zm {p:Prop} (h:p:=by first | omega | exact du.1 | exact tT (tT du.1 (du.1 _ o!).1 (du.1 _ o!).2) (du.1 _ o!).1 (du.1 _ o!).2 | exact ⟨tT (tT du.1 (du.1 _ o!).1 (du.1 _ o!).2) (du.1 _ o!).1 (du.1 _ o!).2,by omega,by omega⟩):p:=h
theorem iz {p:Prop} (h:p:=by first | omega | (simp only[List.length_set,List.length_replicate,dQ]<;>omega) | exact hJ _ | exact ku a!):p:=h
theorem D_ {p:Prop} (h:p:=by first | omega | assumption | exact du.1 | exact ⟨by assumption,by omega⟩):p:=h
theorem D' {p:Prop} (h:p:=by first | assumption | exact iZ bM o!):p:=h
def B1:Code:=(Tryz.f162.body).getD .skip
theorem ahe:Tryz.f162.body=some B1:=by kernel_rfl
def Z0:Code:=(bl B1).getD 0 .skip
def Z1:Code:=(bl B1).getD 1 .skip
def gT (a:Int) (P:Int→Int→Int):Nat→Int→List Int→List Int
 | 0,cU,bC=>bC
 | nK+1,cU,bC=>(bif (decide (a<cU)) then (bif (decide ((P (bC.g cU.toNat) (bC.g (cU - 1).toNat))<0)) then gT a P nK (cU - 1) ((bC.set cU.toNat (bC.g (cU - 1).toNat)).set (cU - 1).toNat (bC.g cU.toNat)) else bC) else bC)
theorem KB {d:Nat} {dataF:Bool} {h:az} (dataN:Nat) (a:Int) (b:Int) (g:FuncId) (cap:List AV) (cZ:Int) (nR:Int) (data:List Int) (P:Int→Int→Int) (b6:Nat) (o9:0≤a) (rz:a≤b) (rA:b≤(data.length:Int)) (vg:data.length≤1000) (Ds:∀q:Nat,q<data.length→0≤data.g q∧data.g q<nR) (Fo:data.length=dataN) (Pa:∀x y:Int,(0≤x∧x<nR)→(0≤y∧y<nR)→∀hh,Tidy hh→Has h hh→cA d (.fn g) (.int .i64 x:: .int .i64 y::cap) hh= .ret (.int .i64 (P x y)) hh) (bM:Tidy h) (Jb:h.get b6=none):∀(k_:Nat) (cU:Int) (bC:List Int) (_:cU≤(k_:Int)) (_:((∀q:Nat,q<(bC).length→0≤(bC).g q∧(bC).g q<nR)∧(a≤cU∧cU<b))) (x:Nat→AV) (hh:az) (aF:Tidy hh) (aA:Has h hh) (fN:h.nx≤hh.nx) (qH:bC.length=dataN) (cz:hh.get b6=some (aN.cells (zs .i64 bC) 3 false)),bY (σ:=List Int) (ρ:=Unit) (cA (d)) Z1 ⟨((AV.slice b6 0 dataN dataN dataF)::(Zi a)::(Zi b)::(AV.func g [] cap)::rx x 4 4 ((Zi cZ)::(Zi cU)::rx x 10 43 [])),hh,[],.no⟩ (.exit 2) hh (fun r z y=>((AV.slice b6 0 dataN dataN dataF)::(Zi a)::(Zi b)::(AV.func g [] cap)::rx y 4 4 ((Zi cZ)::rx y 9 44 []))) (fun r z y=>((AV.slice b6 0 dataN dataN dataF)::(Zi a)::(Zi b)::(AV.func g [] cap)::rx y 4 4 ((Zi cZ)::rx y 9 44 []))) (fun r z hk=>Has h hk∧hk.get b6=some (aN.cells (zs .i64 r) 3 false)∧r.length=dataN∧(∀q:Nat,q<(r).length→0≤(r).g q∧(r).g q<nR)) (fun r z hk=>Has h hk) (Sum.inl (gT a P k_ cU bC))
 | 0,cU,bC,eZ,du,x,hh,aF,aA,fN,qH,cz=>by
  have q1:(decide (a<cU))=false:=d!
  exact bY.out bC aL rfl (pk (d) _ _ hh _ hh (CN 2<|VV (gz 3 false false .i64 cU a)<|CC<|BB q1<|BB q1<|BB q1<|BB q1<|BB q1<|BB q1<|BB q1<|BB q1<|BB q1<|BB q1<|BB q1<|BV q1 (vd false q1)<|FF<|ZZ) k!) aF o! ⟨aA,cz,iz,(show (∀q:Nat,q<(bC).length→0≤(bC).g q∧(bC).g q<nR) from zm)⟩ k!
 | nK+1,cU,bC,eZ,du,x,hh,aF,aA,fN,qH,cz=>by
  have E2:=aF _ _ cz
  have hP:=Pa
  have ei:=fun {al ps} (k:Pk al _ ps)=>(CN 2<|VV (gz 3 false false .i64 cU a)<|CC<|k:Pk _ [] ps)
  rcases bu (decide (a<cU)) with f0 | f0
  · have ja:=jv f0
    have gh:hG env (some (.slice 3)) (some (AV.slice b6 0 dataN dataN dataF)) (some (Zi cU))=some (AV.ptr b6 cU.toNat):=ic k! (show cU.toNat<dataN by omega) o!
    have ld3:cX env hh 3 (AV.ptr b6 cU.toNat)=some (Zi (bC.g cU.toNat)):=HL k! cz iz
    have w4:IntKind.i64.wrap (cU - 1)=cU - 1:=wrap_i64 o! o!
    have Rz:hG env (some (.slice 3)) (some (AV.slice b6 0 dataN dataN dataF)) (some (Zi (cU - 1)))=some (AV.ptr b6 (cU - 1).toNat):=ic k! (show (cU - 1).toNat<dataN by omega) o!
    have qm:cX env hh 3 (AV.ptr b6 (cU - 1).toNat)=some (Zi (bC.g (cU - 1).toNat)):=HL k! cz iz
    have k7:=hP (bC.g cU.toNat) (bC.g (cU - 1).toNat) (du.1 _ o!) (du.1 _ o!) hh aF aA
    have gK:=fun {al ps} (k:Pk al _ ps)=>(ei<|BC f0<|BC f0<|BC f0<|BV f0 gh<|BM f0 ld3<|BC f0<|BC f0<|BV f0 (Aj 3 false true w4)<|BV f0 Rz<|BM f0 qm<|BB f0<|EE k7<|BV f0 (bE 3 false true .i64 (P (bC.g cU.toNat) (bC.g (cU - 1).toNat)) 0)<|VV (tp (decide ((P (bC.g cU.toNat) (bC.g (cU - 1).toNat))<0)) false f0)<|HH ld3<|HH (show AV.same 20 (Zi (bC.g cU.toNat)) (Zi (bC.g cU.toNat))=true from aS 19 _ _)<|HH qm<|HH (show AV.same 20 (Zi (bC.g (cU - 1).toNat)) (Zi (bC.g (cU - 1).toNat))=true from aS 19 _ _)<|k:Pk _ [] ps)
    rcases bu (decide ((P (bC.g cU.toNat) (bC.g (cU - 1).toNat))<0)) with f1 | f1
    · have eB:=jv f1
      have w9:IntKind.i64.wrap (cU - 1)=cU - 1:=wrap_i64 o! o!
      have w10:IntKind.i64.wrap (cU - 1)=cU - 1:=wrap_i64 o! o!
      have sa:hG env (some (.slice 3)) (some (AV.slice b6 0 dataN dataN dataF)) (some (Zi (cU - 1)))=some (AV.ptr b6 (cU - 1).toNat):=ic k! (show (cU - 1).toNat<dataN by omega) o!
      have Bs:cX env hh 3 (AV.ptr b6 (cU - 1).toNat)=some (Zi (bC.g (cU - 1).toNat)):=HL k! cz iz
      have JX:hG env (some (.slice 3)) (some (AV.slice b6 0 dataN dataN dataF)) (some (Zi cU))=some (AV.ptr b6 cU.toNat):=ic k! (show cU.toNat<dataN by omega) o!
      have rE:cX env hh 3 (AV.ptr b6 cU.toNat)=some (Zi (bC.g cU.toNat)):=HL k! cz iz
      have PA:hG env (some (.slice 3)) (some (AV.slice b6 0 dataN dataN dataF)) (some (Zi cU))=some (AV.ptr b6 cU.toNat):=ic k! (show cU.toNat<dataN by omega) o!
      obtain ⟨yN,ad2⟩:∃De:az,De=hh.put b6 (some (aN.cells (zs .i64 (bC.set cU.toNat (bC.g (cU - 1).toNat))) 3 false)):=⟨_,rfl⟩
      have KC:eS env hh 3 (AV.ptr b6 cU.toNat) (Zi (bC.g (cU - 1).toNat))=some yN:=by rw[ad2];exact yD k! cz iz
      have XH:Ll hh yN b6 (aN.cells (zs .i64 (bC.set cU.toNat (bC.g (cU - 1).toNat))) 3 false):=by rw[ad2];exact jL aF cz
      have oI:=XH.1
      have SG:yN.nx=hh.nx:=by rw[ad2];rfl
      have kX:=kU XH aA D'
      have Zh:hG env (some (.slice 3)) (some (AV.slice b6 0 dataN dataN dataF)) (some (Zi (cU - 1)))=some (AV.ptr b6 (cU - 1).toNat):=ic k! (show (cU - 1).toNat<dataN by omega) o!
      obtain ⟨Pr,ad3⟩:∃De:az,De=yN.put b6 (some (aN.cells (zs .i64 ((bC.set cU.toNat (bC.g (cU - 1).toNat)).set (cU - 1).toNat (bC.g cU.toNat))) 3 false)):=⟨_,rfl⟩
      have aoU:eS env yN 3 (AV.ptr b6 (cU - 1).toNat) (Zi (bC.g cU.toNat))=some Pr:=by rw[ad3];exact yD k! XH.2.1 iz
      have ad4:Ll yN Pr b6 (aN.cells (zs .i64 ((bC.set cU.toNat (bC.g (cU - 1).toNat)).set (cU - 1).toNat (bC.g cU.toNat))) 3 false):=by rw[ad3];exact jL oI XH.2.1
      have M':=ad4.1
      have auq:Pr.nx=yN.nx:=by rw[ad3];rfl
      have zk:=kU ad4 kX D'
      have w19:IntKind.i64.wrap (cU - 1)=cU - 1:=wrap_i64 o! o!
      exact bY.round (congrArg Sum.inl (by simp only[gT,f0,f1,ao,ai])) (pk (d) _ _ hh _ Pr (gK<|BB f1<|CN 4<|VV (Aj 3 false true w9)<|CN 2<|VV (Aj 3 false true w10)<|VV sa<|MM Bs<|CN 2<|VV JX<|MM rE<|VV PA<|SS KC<|VV Zh<|SS aoU<|HH Bs<|HH (show AV.same 20 (Zi (bC.g (cU - 1).toNat)) (Zi (bC.g (cU - 1).toNat))=true from aS 19 _ _)<|HH rE<|HH (show AV.same 20 (Zi (bC.g cU.toNat)) (Zi (bC.g cU.toNat))=true from aS 19 _ _)<|CC<|VV (Aj 3 false true w19)<|CC<|ZZ) k!) o! _ k! (fun x=>KB (dataF:=dataF) dataN a b g cap cZ nR data P b6 o9 rz rA vg Ds Fo Pa bM Jb nK (cU - 1) ((bC.set cU.toNat (bC.g (cU - 1).toNat)).set (cU - 1).toNat (bC.g cU.toNat)) zm (show ((∀q:Nat,q<(((bC.set cU.toNat (bC.g (cU - 1).toNat)).set (cU - 1).toNat (bC.g cU.toNat))).length→0≤(((bC.set cU.toNat (bC.g (cU - 1).toNat)).set (cU - 1).toNat (bC.g cU.toNat))).g q∧(((bC.set cU.toNat (bC.g (cU - 1).toNat)).set (cU - 1).toNat (bC.g cU.toNat))).g q<nR)∧(a≤(cU - 1)∧(cU - 1)<b)) from zm) x Pr M' zk o! iz ad4.2.1)
    · exact bY.out bC aL (congrArg Sum.inl (by simp only[gT,f0,f1,ao,ai])) (pk (d) _ _ hh _ hh (gK<|BB f1<|ZZ) k!) aF o! ⟨aA,cz,iz,(show (∀q:Nat,q<(bC).length→0≤(bC).g q∧(bC).g q<nR) from zm)⟩ k!
  · exact bY.out bC aL (congrArg Sum.inl (by simp only[gT,f0,ao,ai])) (pk (d) _ _ hh _ hh (ei<|BB f0<|BB f0<|BB f0<|BB f0<|BB f0<|BB f0<|BB f0<|BB f0<|BB f0<|BB f0<|BB f0<|BV f0 (vd false f0)<|FF<|ZZ) k!) aF o! ⟨aA,cz,iz,(show (∀q:Nat,q<(bC).length→0≤(bC).g q∧(bC).g q<nR) from zm)⟩ k!
def lf (a:Int) (P:Int→Int→Int) (b:Int):Nat→Int→List Int→List Int
 | 0,cZ,ba=>ba
 | dx+1,cZ,ba=>(bif (decide (cZ<b)) then lf a P b dx (cZ+1) (gT a P (cZ).toNat cZ ba) else ba)
theorem KD {d:Nat} {dataF:Bool} {h:az} (dataN:Nat) (a:Int) (b:Int) (g:FuncId) (cap:List AV) (nR:Int) (data:List Int) (P:Int→Int→Int) (bj:Nat) (fU:0≤a) (iB:a≤b) (mO:b≤(data.length:Int)) (nI:data.length≤1000) (o8:∀q:Nat,q<data.length→0≤data.g q∧data.g q<nR) (qF:data.length=dataN) (yL:∀x y:Int,(0≤x∧x<nR)→(0≤y∧y<nR)→∀hh,Tidy hh→Has h hh→cA d (.fn g) (.int .i64 x:: .int .i64 y::cap) hh= .ret (.int .i64 (P x y)) hh) (bM:Tidy h) (tC:h.get bj=none):∀(k_:Nat) (cZ:Int) (ba:List Int) (_:b - cZ≤(k_:Int)) (_:((∀q:Nat,q<(ba).length→0≤(ba).g q∧(ba).g q<nR)∧(a+1≤cZ))) (x:Nat→AV) (hh:az) (aF:Tidy hh) (aA:Has h hh) (fN:h.nx≤hh.nx) (kc:ba.length=dataN) (br:hh.get bj=some (aN.cells (zs .i64 ba) 3 false)),bY (σ:=List Int) (ρ:=Unit) (cA (d)) Z0 ⟨((AV.slice bj 0 dataN dataN dataF)::(Zi a)::(Zi b)::(AV.func g [] cap)::rx x 4 4 ((Zi cZ)::rx x 9 44 [])),hh,[],.no⟩ (.exit 0) hh (fun r z y=>((AV.slice bj 0 dataN dataN dataF)::(Zi a)::(Zi b)::(AV.func g [] cap)::rx y 4 49 [])) (fun r z y=>((AV.slice bj 0 dataN dataN dataF)::(Zi a)::(Zi b)::(AV.func g [] cap)::rx y 4 49 [])) (fun r z hk=>Has h hk∧hk.get bj=some (aN.cells (zs .i64 r) 3 false)∧r.length=dataN∧(∀q:Nat,q<(r).length→0≤(r).g q∧(r).g q<nR)) (fun r z hk=>Has h hk) (Sum.inl (lf a P b k_ cZ ba))
 | 0,cZ,ba,eZ,du,x,hh,aF,aA,fN,kc,br=>by
  have q1:(decide (cZ<b))=false:=d!
  exact bY.out ba aL rfl (pk (d) _ _ hh _ hh (CN 2<|VV (bE 3 false false .i64 cZ b)<|BB q1<|ZZ) k!) aF o! ⟨aA,br,iz,(show (∀q:Nat,q<(ba).length→0≤(ba).g q∧(ba).g q<nR) from D_)⟩ k!
 | dx+1,cZ,ba,eZ,du,x,hh,aF,aA,fN,kc,br=>by
  have tD:=aF _ _ br
  rcases bu (decide (cZ<b)) with f0 | f0
  · have ja:=jv f0
    obtain ⟨zo4,HN,h3,dV,om,Oj,ad5,PB,alx,CQ⟩:=bY.n rfl (KB (d:=d) (dataF:=dataF) (h:=h) dataN a b g cap cZ nR data P bj o! o! o! o! o! o! a! bM D' (cZ).toNat cZ ba o! (show ((∀q:Nat,q<(ba).length→0≤(ba).g q∧(ba).g q<nR)∧(a≤cZ∧cZ<b)) from (by first | assumption | exact du.1 | exact ⟨by assumption,by omega,by omega⟩ | exact ⟨du.1,by omega,by omega⟩)) (dr ((AV.slice bj 0 dataN dataN dataF)::(Zi a)::(Zi b)::(AV.func g [] cap)::rx x 4 4 ((Zi cZ)::(Zi cZ)::(x 10)::(x 11)::(Zi cZ)::(Zi b)::(AV.bool (decide (cZ<b)))::(x 15)::(x 16)::(Zi cZ)::rx x 18 35 []))) hh aF aA o! iz br)
    have fl:=ad5
    have w5:IntKind.i64.wrap (cZ+1)=cZ+1:=wrap_i64 o! o!
    exact bY.round (congrArg Sum.inl (by simp only[lf,f0,ao,ai])) (pk (d) _ _ hh _ h3 (CN 2<|VV (bE 3 false false .i64 cZ b)<|BB f0<|CN 2<|LL dV<|CC<|VV (qE 3 false true w5)<|CC<|ZZ) k!) o! _ k! (fun x=>KD (dataF:=dataF) dataN a b g cap nR data P bj fU iB mO nI o8 qF yL bM tC dx (cZ+1) (gT a P (cZ).toNat cZ ba) D_ (show ((∀q:Nat,q<((gT a P (cZ).toNat cZ ba)).length→0≤((gT a P (cZ).toNat cZ ba)).g q∧((gT a P (cZ).toNat cZ ba)).g q<nR)∧(a+1≤(cZ+1))) from D_) x h3 om fl o! iz PB)
  · exact bY.out ba aL (congrArg Sum.inl (by simp only[lf,f0,ao,ai])) (pk (d) _ _ hh _ hh (CN 2<|VV (bE 3 false false .i64 cZ b)<|BB f0<|ZZ) k!) aF o! ⟨aA,br,iz,(show (∀q:Nat,q<(ba).length→0≤(ba).g q∧(ba).g q<nR) from D_)⟩ k!
def GP (data:List Int) (a:Int) (b:Int) (P:Int→Int→Int):List Int:=(lf a P b (b -(a+1)).toNat (a+1) data)
theorem ahf {d:Nat} {dataF:Bool} {h hh:az} {jH dataN:Nat} {g:FuncId} {cap:List AV} (data:List Int) (a:Int) (b:Int) (P:Int→Int→Int) (nR:Int) (hP:∀x y:Int,(0≤x∧x<nR)→(0≤y∧y<nR)→∀hh,Tidy hh→Has h hh→cA d (.fn g) (.int .i64 x:: .int .i64 y::cap) hh= .ret (.int .i64 (P x y)) hh) (uQ:hh.get jH=some (aN.cells (zs .i64 data) 3 false)) (Vr:data.length=dataN) (ad6:h.get jH=none) (mf:0≤a) (oQ:a≤b) (xU:b≤(data.length:Int)) (Ak:data.length≤1000) (Ha:∀q:Nat,q<data.length→0≤data.g q∧data.g q<nR) (bM:Tidy h) (aF:Tidy hh) (aA:Has h hh) (fN:h.nx≤hh.nx):∃hk,cA (d+1) (.fn 162) [(AV.slice jH 0 dataN dataN dataF),(Zi a),(Zi b),(AV.func g [] cap)] hh= .ret (AV.tuple []) hk∧Tidy hk∧hh.nx≤hk.nx∧Has h hk∧hk.get jH=some (aN.cells (zs .i64 (GP data a b P)) 3 false)∧(GP data a b P).length=dataN:=by
 have w1:IntKind.i64.wrap (a+1)=a+1:=wrap_i64 o! o!
 obtain ⟨zo4,HN,h3,dV,om,Oj,ad5,PB,alx,CQ⟩:=bY.n rfl (KD (d:=d) (dataF:=dataF) (h:=h) dataN a b g cap nR data P jH o! o! o! o! o! o! a! bM D' (b -(a+1)).toNat (a+1) data o! (show ((∀q:Nat,q<(data).length→0≤(data).g q∧(data).g q<nR)∧(a+1≤(a+1))) from (by first | assumption | exact ⟨by assumption,by omega⟩)) (dr ((AV.slice jH 0 dataN dataN dataF)::(Zi a)::(Zi b)::(AV.func g [] cap)::aL::aL::aL::aL::(Zi (a+1))::aL::(Zi a)::(Zi (a+1))::iW 41)) hh aF aA o! iz uQ)
 have fl:=ad5
 have e:GP data a b P=(lf a P b (b -(a+1)).toNat (a+1) data):=by simp only[GP,ao,ai]
 rw[e]
 exact iE rfl (aY Tryz.func162 ahe rfl (.inl rfl) (pk (d) _ _ hh _ h3 (CC<|VV (qE 3 false true w1)<|CC<|LL dV<|ZZ) k!) k!) aF om o! ⟨fl,PB,iz⟩ (fun q=>⟨aA,eL q uQ PB,iz⟩)
theorem FO {p:Prop} (h:p:=by first | omega | (simp only[List.length_set,List.length_replicate,dQ]<;>omega) | exact hJ _ | exact ku a!):p:=h
theorem vE {p:Prop} (h:p:=by first | omega | assumption):p:=h
def zn:Code:=(Tryz.f136.body).getD .skip
theorem ad7:Tryz.f136.body=some zn:=by kernel_rfl
def B2:Code:=(bl zn).getD 0 .skip
def B3:Code:=(bl zn).getD 1 .skip
def zo (data:List Int) (n:Int) (P:Int→Int→Int):List Int:=(GP data 0 n P)
theorem ad8 {d:Nat} {dataF:Bool} {h hh:az} {jH dataN:Nat} {g:FuncId} {cap:List AV} (data:List Int) (n:Int) (P:Int→Int→Int) (nR:Int) (hP:∀x y:Int,(0≤x∧x<nR)→(0≤y∧y<nR)→∀hh,Tidy hh→Has h hh→cA d (.fn g) (.int .i64 x:: .int .i64 y::cap) hh= .ret (.int .i64 (P x y)) hh) (uQ:hh.get jH=some (aN.cells (zs .i64 data) 3 false)) (Vr:data.length=dataN) (ad6:h.get jH=none) (mf:n=(data.length:Int)) (oQ:n≤19) (xU:∀q:Nat,q<data.length→0≤data.g q∧data.g q<nR) (bM:Tidy h) (aF:Tidy hh) (aA:Has h hh) (fN:h.nx≤hh.nx):∃hk,cA (d+2) (.fn 136) [(AV.slice jH 0 dataN dataN dataF),(Zi n),(AV.func g [] cap)] hh= .ret (AV.tuple []) hk∧Tidy hk∧hh.nx≤hk.nx∧Has h hk∧hk.get jH=some (aN.cells (zs .i64 (zo data n P)) 3 false)∧(zo data n P).length=dataN:=by
 have q1:(decide (20≤n))=false:=d!
 have ur2:Ev env (cA (d+1)) B2 ⟨((AV.slice jH 0 dataN dataN dataF)::(Zi n)::(AV.func g [] cap)::aL::aL::aL::(Zi 20)::(Zi 0)::(Zi 20)::aL::(Zi 20)::iW 52),hh,[],.no⟩ (.exit 0) ⟨((AV.slice jH 0 dataN dataN dataF)::(Zi n)::(AV.func g [] cap)::aL::aL::aL::(Zi 20)::(Zi 0)::(Zi 20)::aL::(Zi 20)::(Zi 20)::(Zi n)::(AV.bool (decide (20≤n)))::iW 49),hh,[],.no⟩:=Ev.to (pk (d+1) B2 ((AV.slice jH 0 dataN dataN dataF)::(Zi n)::(AV.func g [] cap)::aL::aL::aL::(Zi 20)::(Zi 0)::(Zi 20)::aL::(Zi 20)::iW 52) hh (.exit 0) hh (CN 2<|VV (tx 3 false false .i64 20 n)<|BB q1<|ZZ) k!) k!
 obtain ⟨hw3,aoW,asK,aly,alz,alA⟩:=dI aF uQ
 have aiT:=bL aA (by first | assumption | exact iZ bM o!) alA
 obtain ⟨h4,ZG,ij,UD,acs,ad9,akh⟩:=ahf (d:=d) (dataF:=dataF) (h:=hw3) (dataN:=dataN) data 0 n P nR (fun x y r1 r2 hh yy aa=>hP x y r1 r2 hh yy (aiT.trans aa)) uQ FO aly vE vE vE vE vE aoW aF alz o!
 have fq:=(aiT.trans acs)
 have q5:(decide (20<n))=false:=d!
 have ur6:Ev env (cA (d+1)) B3 ⟨((AV.slice jH 0 dataN dataN dataF)::(Zi n)::(AV.func g [] cap)::aL::aL::aL::(Zi 20)::(Zi 0)::(Zi 20)::aL::(Zi 20)::(Zi 20)::(Zi n)::(AV.bool (decide (20≤n)))::aL::aL::aL::aL::aL::aL::aL::aL::aL::(AV.slice jH 0 dataN dataN dataF)::(Zi 0)::(Zi n)::(AV.func g [] cap)::(AV.tuple [])::iW 35),h4,[],.no⟩ (.exit 2) ⟨((AV.slice jH 0 dataN dataN dataF)::(Zi n)::(AV.func g [] cap)::aL::aL::aL::(Zi 20)::(Zi 0)::(Zi 20)::aL::(Zi 20)::(Zi 20)::(Zi n)::(AV.bool (decide (20≤n)))::aL::aL::aL::aL::aL::aL::aL::aL::aL::(AV.slice jH 0 dataN dataN dataF)::(Zi 0)::(Zi n)::(AV.func g [] cap)::(AV.tuple [])::(Zi 20)::(Zi n)::(AV.bool (decide (20<n)))::iW 32),h4,[],.no⟩:=Ev.to (pk (d+1) B3 ((AV.slice jH 0 dataN dataN dataF)::(Zi n)::(AV.func g [] cap)::aL::aL::aL::(Zi 20)::(Zi 0)::(Zi 20)::aL::(Zi 20)::(Zi 20)::(Zi n)::(AV.bool (decide (20≤n)))::aL::aL::aL::aL::aL::aL::aL::aL::aL::(AV.slice jH 0 dataN dataN dataF)::(Zi 0)::(Zi n)::(AV.func g [] cap)::(AV.tuple [])::iW 35) h4 (.exit 2) h4 (CN 2<|VV (bE 3 false false .i64 20 n)<|BB q5<|ZZ) k!) k!
 have e:zo data n P=(GP data 0 n P):=by simp only[zo,ao,ai]
 rw[e]
 exact iE rfl (aY Tryz.func136 ad7 rfl (.inl rfl) (pk (d+1) _ _ hh _ h4 (CN 4<|LL (show Ev env (cA (d+1)) (.loop B2) ⟨((AV.slice jH 0 dataN dataN dataF)::(Zi n)::(AV.func g [] cap)::aL::aL::aL::(Zi 20)::(Zi 0)::(Zi 20)::aL::(Zi 20)::iW 52),hh,[],.no⟩ (.exit 0) ⟨((AV.slice jH 0 dataN dataN dataF)::(Zi n)::(AV.func g [] cap)::aL::aL::aL::(Zi 20)::(Zi 0)::(Zi 20)::aL::(Zi 20)::(Zi 20)::(Zi n)::(AV.bool (decide (20≤n)))::iW 49),hh,[],.no⟩ from (Ev.out ur2))<|CN 4<|EE ZG<|LL (show Ev env (cA (d+1)) (.loop B3) ⟨((AV.slice jH 0 dataN dataN dataF)::(Zi n)::(AV.func g [] cap)::aL::aL::aL::(Zi 20)::(Zi 0)::(Zi 20)::aL::(Zi 20)::(Zi 20)::(Zi n)::(AV.bool (decide (20≤n)))::aL::aL::aL::aL::aL::aL::aL::aL::aL::(AV.slice jH 0 dataN dataN dataF)::(Zi 0)::(Zi n)::(AV.func g [] cap)::(AV.tuple [])::iW 35),h4,[],.no⟩ (.exit 2) ⟨((AV.slice jH 0 dataN dataN dataF)::(Zi n)::(AV.func g [] cap)::aL::aL::aL::(Zi 20)::(Zi 0)::(Zi 20)::aL::(Zi 20)::(Zi 20)::(Zi n)::(AV.bool (decide (20≤n)))::aL::aL::aL::aL::aL::aL::aL::aL::aL::(AV.slice jH 0 dataN dataN dataF)::(Zi 0)::(Zi n)::(AV.func g [] cap)::(AV.tuple [])::(Zi 20)::(Zi n)::(AV.bool (decide (20<n)))::iW 32),h4,[],.no⟩ from (Ev.out ur6))<|ZZ) k!) k!) aF ij o! ⟨fq,ad9,FO⟩ (fun q=>⟨aA,eL q uQ ad9,FO⟩)
theorem KE {p:Prop} (h:p:=by first | omega | (simp only[List.length_set,List.length_replicate,dQ]<;>omega) | exact hJ _ | exact ku a!):p:=h
def Vs:Code:=(Tryz.f85.body).getD .skip
theorem ahg:Tryz.f85.body=some Vs:=by kernel_rfl
def nX (data:List Int) (P:Int→Int→Int):List Int:=(zo data ((data.length:Nat):Int) P)
theorem ahh {d:Nat} {dataF:Bool} {h hh:az} {jH dataN:Nat} {g:FuncId} {cap:List AV} (data:List Int) (P:Int→Int→Int) (nR:Int) (hP:∀x y:Int,(0≤x∧x<nR)→(0≤y∧y<nR)→∀hh,Tidy hh→Has h hh→cA d (.fn g) (.int .i64 x:: .int .i64 y::cap) hh= .ret (.int .i64 (P x y)) hh) (uQ:hh.get jH=some (aN.cells (zs .i64 data) 3 false)) (Vr:data.length=dataN) (ad6:h.get jH=none) (mf:(data.length:Int)≤19) (oQ:∀q:Nat,q<data.length→0≤data.g q∧data.g q<nR) (bM:Tidy h) (aF:Tidy hh) (aA:Has h hh) (fN:h.nx≤hh.nx):∃hk,cA (d+3) (.fn 85) [(AV.slice jH 0 dataN dataN dataF),(AV.func g [] cap)] hh= .ret (AV.tuple []) hk∧Tidy hk∧hh.nx≤hk.nx∧Has h hk∧hk.get jH=some (aN.cells (zs .i64 (nX data P)) 3 false)∧(nX data P).length=dataN:=by
 obtain ⟨NQ,aoX,asL,alB,alC,alD⟩:=dI aF uQ
 have aiU:=bL aA (by first | assumption | exact iZ bM o!) alD
 obtain ⟨h2,asM,mN,arK,aoY,aea,asN⟩:=ad8 (d:=d) (dataF:=dataF) (h:=NQ) (dataN:=dataN) data ((dataN:Nat):Int) P nR (fun x y r1 r2 hh yy aa=>hP x y r1 r2 hh yy (aiU.trans aa)) uQ KE alB (by first | omega | assumption) (by first | omega | assumption) (by first | omega | assumption) aoX aF alC o!
 have gm:=(aiU.trans aoY)
 have e:nX data P=(zo data ((dataN:Nat):Int) P):=by simp only[nX,Vr,ao,ai]
 rw[e]
 exact iE rfl (aY Tryz.func85 ahg rfl (.inl rfl) (pk (d+2) _ _ hh _ h2 (CN 4<|EE asM<|ZZ) k!) k!) aF mN o! ⟨gm,aea,KE⟩ (fun q=>⟨aA,eL q uQ aea,KE⟩)
def GQ:Code:=(Tryz.f162.body).getD .skip
theorem aeb:Tryz.f162.body=some GQ:=by kernel_rfl
def B4:Code:=(bl GQ).getD 0 .skip
def asO (a:Int) (b:Int) (P:Int→Int→Int):Unit:=()
theorem aec {d:Nat} {h:az} {g:FuncId} {cap:List AV} (a:Int) (b:Int) (P:Int→Int→Int) (nR:Int) (hP:∀x y:Int,(0≤x∧x<nR)→(0≤y∧y<nR)→∀hh,Tidy hh→Has h hh→cA d (.fn g) (.int .i64 x:: .int .i64 y::cap) hh= .ret (.int .i64 (P x y)) hh) (mf:a=0) (oQ:b=0) (bM:Tidy h):cA (d+1) (.fn 162) [AV.aw,(Zi a),(Zi b),(AV.func g [] cap)] h= .ret (AV.tuple []) h:=by
 have w1:IntKind.i64.wrap (a+1)=a+1:=wrap_i64 o! o!
 have q2:(decide ((a+1)<b))=false:=d!
 have ur3:Ev env (cA (d)) B4 ⟨(AV.aw::(Zi a)::(Zi b)::(AV.func g [] cap)::aL::aL::aL::aL::(Zi (a+1))::aL::(Zi a)::(Zi (a+1))::iW 41),h,[],.no⟩ (.exit 0) ⟨(AV.aw::(Zi a)::(Zi b)::(AV.func g [] cap)::aL::aL::aL::aL::(Zi (a+1))::aL::(Zi a)::(Zi (a+1))::(Zi (a+1))::(Zi b)::(AV.bool (decide ((a+1)<b)))::iW 38),h,[],.no⟩:=Ev.to (pk (d) B4 (AV.aw::(Zi a)::(Zi b)::(AV.func g [] cap)::aL::aL::aL::aL::(Zi (a+1))::aL::(Zi a)::(Zi (a+1))::iW 41) h (.exit 0) h (CN 2<|VV (bE 3 false false .i64 (a+1) b)<|BB q2<|ZZ) k!) k!
 exact aG rfl (aY Tryz.func162 aeb rfl (.inl rfl) (pk (d) _ _ h _ h (CC<|VV (qE 3 false true w1)<|CC<|LL (show Ev env (cA (d)) (.loop B4) ⟨(AV.aw::(Zi a)::(Zi b)::(AV.func g [] cap)::aL::aL::aL::aL::(Zi (a+1))::aL::(Zi a)::(Zi (a+1))::iW 41),h,[],.no⟩ (.exit 0) ⟨(AV.aw::(Zi a)::(Zi b)::(AV.func g [] cap)::aL::aL::aL::aL::(Zi (a+1))::aL::(Zi a)::(Zi (a+1))::(Zi (a+1))::(Zi b)::(AV.bool (decide ((a+1)<b)))::iW 38),h,[],.no⟩ from (Ev.out ur3))<|ZZ) k!) k!) (Has.refl _) rfl
end
end Go.Proofs.aM
