import Derived.Test.YtijehnelcbdlgaaGreatW0
import Derived.Test.YtijehnelcbdlgaaGreatW1
import Derived.Test.YtijehnelcbdlgaaGreatW4
import Derived.Test.YtijehnelcbdlgaaGreatW5
import Derived.Test.YtijehnelcbdlgaaGreatW9
import Derived.Test.YtijehnelcbdlgaaGreatW8
import Derived.Test.YtijehnelcbdlgaaGreatW3
namespace Go.Proofs.aM
open Go.Proofs Ab
noncomputable section
set_option maxRecDepth 100000
set_option maxHeartbeats 4000000
set_option linter.unusedVariables false
set_option linter.unusedSimpArgs false
theorem Kh {p:Prop} (h:p:=by first | omega | assumption | exact BK a! | exact RY a!):p:=h
def Pg:Code:=(Tryz.f22.body).getD .skip
theorem z_:Tryz.f22.body=some Pg:=by kernel_rfl
def eI (j:bP):Int:=(bif (!decide ((bz j.af 16 (fun jx=>bw (List.take jx j.af) (List.g j.af jx)))=0)) then (bz j.af 16 (fun jx=>bw (List.take jx j.af) (List.g j.af jx))) else (bif (!decide ((bH j.ab 64 (fun jx=>eE (List.take jx j.ab) (List.g j.ab jx) j))=0)) then (bH j.ab 64 (fun jx=>eE (List.take jx j.ab) (List.g j.ab jx) j)) else (bif (decide ((((eQ j.ab).length:Nat):Int)<((j.ab.length:Nat):Int))) then 11 else 0)))
theorem ZF {d:Nat} {h:az} (j:bP) (b7:aK.ok h j) (bM:Tidy h):cA (d+11) (.fn 22) [(AV.agg [j.au,j.ar])] h= .ret (Zi (eI j)) h:=by
 have l7:=b7.1.small
 have l8:=b7.2.small
 obtain ⟨h1,dw,de,jW,bx,ca⟩:=gQ bM (aN.cells [j.au,j.ar] 25 false)
 have bD:=ca
 have k2:=xX (d:=d+9) j.af 16 (fun jx=>bw (List.take jx j.af) (List.g j.af jx)) (b7.2.has bD) (fun jx hj aV hh yy aa fa=>Dx (d:=d+3) (List.take jx j.af) (List.g j.af jx) fa (aK.mono aa ((b7.2.has bD).ok hj)) yy) de
 have ei:=fun {al ps} (k:Pk al _ ps)=>(NN dw (fun i=>(Pt i))<|CN 2<|MM (aP 23 1 j.ar bx k!)<|EE k2<|CN 2<|VV (kt 31 false true .i64 (bz j.af 16 (fun jx=>bw (List.take jx j.af) (List.g j.af jx))) 0)<|k:Pk _ [] ps)
 rcases bu (!decide ((bz j.af 16 (fun jx=>bw (List.take jx j.af) (List.g j.af jx)))=0)) with f0 | f0
 · have ja:=Eu f0
   have e:eI j=(bz j.af 16 (fun jx=>bw (List.take jx j.af) (List.g j.af jx))):=by simp only[eI,f0,ao,ai]
   rw[e]
   exact aG rfl (aY Tryz.func22 z_ rfl (.inr rfl) (pk (d+10) _ _ h _ h1 (ei<|BB f0<|CN 2<|ZZ) k!) k!) bD rfl
 · have ja:=Ew f0
   have k4:=Du (d:=d+9) j.ab 64 (fun jx=>eE (List.take jx j.ab) (List.g j.ab jx) j) (b7.1.has bD) (fun jx hj aV hh yy aa fa=>Ux (d:=d) (List.take jx j.ab) (List.g j.ab jx) j h.nx fa (aK.mono aa ((b7.1.has bD).ok hj)) (aK.mono aa (aK.mono bD b7)) (aa _ _ bx) yy) de
   have gK:=fun {al ps} (k:Pk al _ ps)=>(ei<|BC f0<|MM (aP 22 0 j.au bx k!)<|CC<|EE k4<|CN 2<|VV (kt 31 false true .i64 (bH j.ab 64 (fun jx=>eE (List.take jx j.ab) (List.g j.ab jx) j)) 0)<|k:Pk _ [] ps)
   rcases bu (!decide ((bH j.ab 64 (fun jx=>eE (List.take jx j.ab) (List.g j.ab jx) j))=0)) with f1 | f1
   · have eB:=Eu f1
     have e:eI j=(bH j.ab 64 (fun jx=>eE (List.take jx j.ab) (List.g j.ab jx) j)):=by simp only[eI,f0,f1,ao,ai]
     rw[e]
     exact aG rfl (aY Tryz.func22 z_ rfl (.inr rfl) (pk (d+10) _ _ h _ h1 (gK<|BB f1<|CN 2<|ZZ) k!) k!) bD rfl
   · have eB:=Ew f1
     have ln6:=b7.1.len
     obtain ⟨z7,h9,Ud,vy,fz8,auX⟩:=RV (d:=d+4) j.ab (b7.1.has bD) Kh Kh de
     have nz:=bD.trans vy.a
     have uN:=fz8.len
     have c11:=b7.1.same 19
     have n9:=fun {al ps} (k:Pk al _ ps)=>(gK<|BC f1<|MM (aP 22 0 j.au bx k!)<|CC<|MM (aP 22 0 j.au bx k!)<|VV ln6<|EE Ud<|VV uN<|VV (bE 3 false false .i64 (((eQ j.ab).length:Nat):Int) ((j.ab.length:Nat):Int))<|HH (aP 22 0 j.au bx k!)<|HH c11<|HH (aP 22 0 j.au bx k!)<|HH c11<|HH (aP 22 0 j.au (vy.a _ _ bx) k!)<|HH c11<|k:Pk _ [] ps)
     rcases bu (decide ((((eQ j.ab).length:Nat):Int)<((j.ab.length:Nat):Int))) with f2 | f2
     · have e:eI j=11:=by simp only[eI,f0,f1,f2,ao,ai]
       rw[e]
       exact aG rfl (aY Tryz.func22 z_ rfl (.inr rfl) (pk (d+10) _ _ h _ h9 (n9<|BC f2<|ZZ) k!) k!) nz rfl
     · have e:eI j=0:=by simp only[eI,f0,f1,f2,ao,ai]
       rw[e]
       exact aG rfl (aY Tryz.func22 z_ rfl (.inr rfl) (pk (d+10) _ _ h _ h9 (n9<|BC f2<|ZZ) k!) k!) nz rfl
theorem Kj (x:Int):da x=eO x:=rfl
theorem adv {j:bP} {a:Nat}:∀k i,jE a j k i=bif anyI (fun n=>decide ((j.af.g n).name=(j.af.g a).name)) k i then some 6 else none
 | 0,i=>rfl
 | k+1,i=>by
  rw[jE,anyI,adv k (i+1)]
  cases decide ((j.af.g i).name=(j.af.g a).name)<;>rfl
theorem adw {j:bP} {a:Nat}:∀k i,jF a j k i=bif anyI (fun n=>decide ((j.ab.g n).name=(j.ab.g a).name)) k i then some 6 else none
 | 0,i=>rfl
 | k+1,i=>by
  rw[jF,anyI,adw k (i+1)]
  cases decide ((j.ab.g i).name=(j.ab.g a).name)<;>rfl
theorem Xx {x:Task} {a:Nat}:∀k i,fc a x k i=bif anyI (fun n=>decide (x.aD.g n=x.aD.g a)) k i then some 6 else none
 | 0,i=>rfl
 | k+1,i=>by
  rw[fc,anyI,Xx k (i+1)]
  cases decide (x.aD.g i=x.aD.g a)<;>rfl
theorem Xy {x:Task} {a:Nat}:∀k i,fe a x k i=bif anyI (fun n=>decide ((x.aB.g n).ah=(x.aB.g a).ah)) k i then some 6 else none
 | 0,i=>rfl
 | k+1,i=>by
  rw[fe,anyI,Xy k (i+1)]
  cases decide ((x.aB.g i).ah=(x.aB.g a).ah)<;>rfl
theorem adx {x:aR}:∀(k i:Nat),i+k=x.off.length→cM x k i=Ch (fun q=>cx (x.off.take q) (x.off.g q)) k i
 | 0,i,h=>rfl
 | k+1,i,h=>by
  have hi:i<x.off.length:=by omega
  rw[cM,Ch,adx k (i+1) o!]
  have e:cx (x.off.take i) (x.off.g i)=bif !(eO (x.off.g i).a8) then 1 else bif !(eO (x.off.g i).aQ) then 1 else bif decide ((x.off.g i).aQ<(x.off.g i).a8) then 1 else bif decide (0<((i:Nat):Int)) then (bif decide ((x.off.g i).a8≤(x.off.g (i - 1)).aQ) then 1 else 0) else 0:=by
   rw[cx,Kj,Kj,s9 (Nat.le_of_lt hi)]
   by_cases z:0<i
   · rw[qd (show i - 1<i by omega)]
   · rw[fL (show ¬0<((i:Nat):Int) by omega)];rfl
  rw[e]
  cases eO (x.off.g i).a8<;>cases eO (x.off.g i).aQ<;>cases decide ((x.off.g i).aQ<(x.off.g i).a8)<;>cases decide (0<((i:Nat):Int))<;>cases decide ((x.off.g i).a8≤(x.off.g (i - 1)).aQ)<;>rfl
theorem akW {j:bP} {i:Nat} (hi:i<j.af.length):bw (List.take i j.af) (List.g j.af i)=bif !(gk (j.af.g i).name) then 5 else bif anyI (fun n=>decide ((j.af.g n).name=(j.af.g i).name)) i 0 then 6 else b9 (j.af.g i):=by
 rw[bw,Xv,akp,W6,s9 (Nat.le_of_lt hi)]
 rw[qb (Q:=fun n=>decide ((j.af.g n).name=(j.af.g i).name)) fun n _ hn=>by rw[qd o!];rfl]
 have e:(bif !(im (j.af.g i).aI 1000) then 1 else Qi (j.af.g i).off.length 16 (fun jx=>cx (List.take jx (j.af.g i).off) (List.g (j.af.g i).off jx)))=b9 (j.af.g i):=by
  rw[b9,im,Qi,adx _ _ o!]
  by_cases a:0≤(j.af.g i).aI
  · rw[eV a,fL (show ¬(j.af.g i).aI<0 by omega)]
    by_cases b:(j.af.g i).aI≤1000
    · rw[eV b,fL (show ¬1000<(j.af.g i).aI by omega)];rfl
    · rw[fL b,eV (show 1000<(j.af.g i).aI by omega)];rfl
  · rw[fL a,eV (show (j.af.g i).aI<0 by omega)];rfl
 rw[←e]
theorem ady {j:bP}:∀(k i:Nat),i+k=j.af.length→gU j k i=Ch (fun q=>bw (List.take q j.af) (List.g j.af q)) k i
 | 0,i,h=>rfl
 | k+1,i,h=>by
  rw[gU,Ch,ady k (i+1) o!,adv,akW o!]
  cases gk (j.af.g i).name with
  | false=>rfl
  | true=>cases anyI (fun n=>decide ((j.af.g n).name=(j.af.g i).name)) i 0<;>rfl
theorem Xz (x:Int) (n:Nat):(!(kY x (n:Int)))=(bif decide (x<0) then true else decide ((n:Int)≤x)):=by
 rw[kY]
 by_cases a:0≤x
 · rw[eV a,fL (show ¬x<0 by omega),ao,ai]
   by_cases b:x<(n:Int)
   · rw[eV b,fL (show ¬(n:Int)≤x by omega)];rfl
   · rw[fL b,eV (show (n:Int)≤x by omega)];rfl
 · rw[fL a,eV (show x<0 by omega)];rfl
theorem XA {j:bP} {t:Task}:∀(k i:Nat),i+k=t.aD.length→dL t j k i=Ch (fun q=>cI (List.take q t.aD) (List.g t.aD q) j) k i
 | 0,i,h=>rfl
 | k+1,i,h=>by
  have e:cI (List.take i t.aD) (List.g t.aD i) j=bif decide (t.aD.g i<0) then 7 else bif decide (((j.ab.length:Nat):Int)≤t.aD.g i) then 7 else bif anyI (fun n=>decide (t.aD.g n=t.aD.g i)) i 0 then 6 else 0:=by
   rw[cI,fF,Xz,acF,s9 (show i≤t.aD.length by omega)]
   rw[qb (Q:=fun n=>decide (t.aD.g n=t.aD.g i)) fun n _ hn=>by rw[qd o!];exact decide_eq_decide.2 eq_comm]
   cases decide (t.aD.g i<0)<;>cases decide (((j.ab.length:Nat):Int)≤t.aD.g i)<;>rfl
  rw[dL,Ch,XA k (i+1) o!,Xx,e]
  cases decide (t.aD.g i<0)<;>cases decide (((j.ab.length:Nat):Int)≤t.aD.g i)<;>cases anyI (fun n=>decide (t.aD.g n=t.aD.g i)) i 0<;>rfl
theorem adz {j:bP} {t:Task}:∀(k i:Nat),i+k=t.aB.length→cS t j k i=Ch (fun q=>eU (List.take q t.aB) (List.g t.aB q) j) k i
 | 0,i,h=>rfl
 | k+1,i,h=>by
  have e:eU (List.take i t.aB) (List.g t.aB i) j=bif decide ((t.aB.g i).ah<0) then 7 else bif decide (((j.af.length:Nat):Int)≤(t.aB.g i).ah) then 7 else bif anyI (fun n=>decide ((t.aB.g n).ah=(t.aB.g i).ah)) i 0 then 6 else bif decide ((t.aB.g i).aI<1) then 1 else bif decide (1000<(t.aB.g i).aI) then 1 else bif decide ((j.af.g (Int.toNat (t.aB.g i).ah)).aI<(t.aB.g i).aI) then 9 else 0:=by
   rw[eU,dO,Xz,UI,s9 (show i≤t.aB.length by omega)]
   rw[qb (Q:=fun n=>decide ((t.aB.g n).ah=(t.aB.g i).ah)) fun n _ hn=>by rw[qd o!];rfl]
   cases decide ((t.aB.g i).ah<0)<;>cases decide (((j.af.length:Nat):Int)≤(t.aB.g i).ah)<;>rfl
  rw[cS,Ch,adz k (i+1) o!,Xy,e]
  cases decide ((t.aB.g i).ah<0)<;>cases decide (((j.af.length:Nat):Int)≤(t.aB.g i).ah)<;>cases anyI (fun n=>decide ((t.aB.g n).ah=(t.aB.g i).ah)) i 0<;>cases decide ((t.aB.g i).aI<1)<;>cases decide (1000<(t.aB.g i).aI)<;>cases decide ((j.af.g (Int.toNat (t.aB.g i).ah)).aI<(t.aB.g i).aI)<;>rfl
theorem agT {j:bP} {i:Nat} (hi:i<j.ab.length):eE (List.take i j.ab) (List.g j.ab i) j=bif !(gk (j.ab.g i).name) then 5 else bif anyI (fun n=>decide ((j.ab.g n).name=(j.ab.g i).name)) i 0 then 6 else dE j (j.ab.g i):=by
 rw[eE,dB,Xv,agD,s9 (Nat.le_of_lt hi),Kj]
 rw[qb (Q:=fun n=>decide ((j.ab.g n).name=(j.ab.g i).name)) fun n _ hn=>by rw[qd o!];rfl]
 rw[dE,XA _ _ o!,adz _ _ o!,UH,acA,Qi,Qi]
 rw[fL (show ¬(((j.ab.g i).aD.length:Nat):Int)<(((j.ab.g i).aD.length:Nat):Int) by omega),fL (show ¬(((j.ab.g i).aB.length:Nat):Int)<(((j.ab.g i).aB.length:Nat):Int) by omega),ai,ai]
 have e1:List.g j.ab i=j.ab.g i:=rfl
 cases gk (j.ab.g i).name with
 | false=>rfl
 | true=>
 cases anyI (fun n=>decide ((j.ab.g n).name=(j.ab.g i).name)) i 0 with
 | true=>rfl
 | false=>
 cases eO (j.ab.g i).takes with
 | false=>rfl
 | true=>
 cases h:Ch (fun q=>cI (List.take q (j.ab.g i).aD) (List.g (j.ab.g i).aD q) j) (j.ab.g i).aD.length 0 with
 | none=>rfl
 | some r=>
  have:=yY h
  show (bif !decide (r=0) then r else _)=r
  rw[fL this];rfl
theorem adA {j:bP}:∀(k i:Nat),i+k=j.ab.length→fW j k i=Ch (fun q=>eE (List.take q j.ab) (List.g j.ab q) j) k i
 | 0,i,h=>rfl
 | k+1,i,h=>by
  rw[fW,Ch,adA k (i+1) o!,adw,agT o!]
  cases gk (j.ab.g i).name with
  | false=>rfl
  | true=>cases anyI (fun n=>decide ((j.ab.g n).name=(j.ab.g i).name)) i 0<;>rfl
theorem adB (j:bP) (h:(∀i,i<j.ab.length→∀q,q<(j.ab.g i).aD.length→0≤(j.ab.g i).aD.g q∧(j.ab.g i).aD.g q<(j.ab.length:Int))→j.ab.length≤64→(eQ j.ab).length=(iu j).length∧(iu j).length≤j.ab.length):eI j=eX j:=by
 have nbf:bH j.ab 64 (fun jx=>eE (List.take jx j.ab) (List.g j.ab jx) j)=0→(eQ j.ab).length=(iu j).length∧(iu j).length≤j.ab.length:=fun e=>h (BK e) (by rw[zV] at e;have:=(nQ e).1;omega)
 rw[eI,eX,ady _ _ o!,adA _ _ o!,acB]
 rw[zV] at nbf ⊢
 rw[Qi]
 rw[Qi] at nbf ⊢
 generalize hA:Ch (fun q=>bw (List.take q j.af) (List.g j.af q)) j.af.length 0=A
 generalize hB:Ch (fun q=>eE (List.take q j.ab) (List.g j.ab q) j) j.ab.length 0=B at nbf ⊢
 cases decide (16<((j.af.length:Nat):Int)) with
 | true=>rfl
 | false=>
 rw[ai,ai]
 cases A with
 | some r=>
  have:=yY hA
  show (bif !decide (r=0) then r else _)=r
  rw[fL this];rfl
 | none=>
 show (bif !decide ((0:Int)=0) then 0 else _)=_
 rw[eV (show (0:Int)=0 from rfl),Bool.not_true,ai]
 cases hc:decide (64<((j.ab.length:Nat):Int)) with
 | true=>rfl
 | false=>
 rw[hc,ai] at nbf
 rw[ai,ai]
 cases B with
 | some r=>
  have:=yY hB
  show (bif !decide (r=0) then r else _)=r
  rw[fL this];rfl
 | none=>
 obtain ⟨e1,e2⟩:=nbf rfl
 show (bif !decide ((0:Int)=0) then 0 else _)=_
 rw[eV (show (0:Int)=0 from rfl),Bool.not_true,ai]
 by_cases z:(iu j).length=j.ab.length
 · rw[fL (by omega:¬((((eQ j.ab).length:Nat):Int)<((j.ab.length:Nat):Int))),eV (by omega:(((iu j).length:Nat):Int)=((j.ab.length:Nat):Int))];rfl
 · rw[eV (by omega:((((eQ j.ab).length:Nat):Int)<((j.ab.length:Nat):Int))),fL (by omega:¬(((iu j).length:Nat):Int)=((j.ab.length:Nat):Int))];rfl
theorem bR {p:Prop} (h:p:=by first | omega | assumption | exact (OT j).nb | exact (OT j).tk | exact Nat.le_trans (OT j).nt (by decide) | exact (OT j).uf o! | exact (OT j).ud _ o! | exact du.2.2.2.1 | exact fun q hq=>by have u_:=(OT j).ur _ o! q hq;omega | exact fun q hq=>by have u_:=(OT j).ur _ o! q hq;exact du.2.2.2.2.ok o! o!):p:=h
theorem qt {p:Prop} (h:p:=by first | omega | exact ⟨by omega,by omega,by omega,(Xu a! o! du.2.2.2.2 o! o!).1,(by rw[←Int.add_assoc];exact (Xu a! o! du.2.2.2.2 o! o!).2)⟩):p:=h
theorem bF {p:Prop} (h:p:=by first | omega | (simp only[List.length_set,List.length_replicate,dQ]<;>omega) | exact hJ _ | exact ku a!):p:=h
theorem kA {p:Prop} (h:p:=by first | assumption | exact iZ bM o!):p:=h
def xG:Code:=(Tryz.f45.body).getD .skip
theorem D1:Tryz.f45.body=some xG:=by kernel_rfl
def Kk:Code:=(bl xG).getD 0 .skip
def gu (j:bP) (oqd:List Int) (aE:List Bool) (fm:Int):Nat→Int→List Bool→List Int→List Tl→(List Bool×List Int×List Tl)⊕(Bool×List Bool×List Int×List Tl)
 | 0,fG,ba,cG,cW=>Sum.inl (ba,cG,cW)
 | dx+1,fG,ba,cG,cW=>(bif (decide (fG<(((bf j.ab oqd aE).length:Nat):Int))) then (bif (!((cK j ba cG cW ((bf j.ab oqd aE).g fG.toNat) fm).1)) then Sum.inr (false,(cK j ba cG cW ((bf j.ab oqd aE).g fG.toNat) fm).2.1,(cK j ba cG cW ((bf j.ab oqd aE).g fG.toNat) fm).2.2.1,(cK j ba cG cW ((bf j.ab oqd aE).g fG.toNat) fm).2.2.2) else gu j oqd aE fm dx (fG+1) (cK j ba cG cW ((bf j.ab oqd aE).g fG.toNat) fm).2.1 (cK j ba cG cW ((bf j.ab oqd aE).g fG.toNat) fm).2.2.1 (cK j ba cG cW ((bf j.ab oqd aE).g fG.toNat) fm).2.2.2) else Sum.inl (ba,cG,cW))
theorem xH {d:Nat} {h:az} (fm:Int) (z2:AV) (j:bP) (oqd:List Int) (aE:List Bool) (pqN:Nat) (sqN:Nat) (tqN:Nat) (tqF:Bool) (aj:List Int) (aW:List Tl) (cQ:Int) (bj:Nat) (cg:Nat) (gF:Nat) (gM:Nat) (bp:bT h .i64 3 z2 (bf j.ab oqd aE)) (cC:aO h j.au j.ab) (dq:aO h j.ar j.af) (fI:aK.ok h j) (fU:cE j) (iB:aE.length=j.ab.length) (mO:aj.length=j.ab.length) (nI:aW.length=j.af.length) (o8:∀q,q<oqd.length→0≤oqd.g q∧oqd.g q<(j.ab.length:Int)) (qF:∀i,i<aj.length→0≤aj.g i∧aj.g i+(j.ab.g i).takes≤100000) (yL:QI j cQ aW) (Rt:0≤fm) (Ru:fm≤100000) (ab6:oqd.length≤19) (Rv:0≤cQ) (adh:cQ≤40) (Xo:∀q,q<(bf j.ab oqd aE).length→0≤(bf j.ab oqd aE).g q∧(bf j.ab oqd aE).g q<(j.ab.length:Int)) (adi:(bf j.ab oqd aE).length≤19) (adj:pqN=j.ab.length) (aoI:sqN=j.ab.length) (aoJ:tqN=j.af.length) (bM:Tidy h) (tC:h.get bj=none) (C5:h.get cg=none) (Lp:h.get gF=none) (Lq:h.get gM=none) (o_:cg≠bj) (uA:gF≠bj) (uC:gF≠cg) (uD:gM≠bj) (uE:gM≠cg) (uF:gM≠gF):∀(k_:Nat) (fG:Int) (ba:List Bool) (cG:List Int) (cW:List Tl) (_:(((bf j.ab oqd aE).length:Nat):Int) - fG≤(k_:Int)) (_:(((0:Int)≤1)∧(0≤fG∧fG≤((bf j.ab oqd aE).length:Int)∧(∀ii,ii<(cG).length→0≤(cG).g ii∧(cG).g ii+(j.ab.g ii).takes≤100000)∧QI j (cQ+fG) (cW)))) (x:Nat→AV) (hh:az) (aF:Tidy hh) (aA:Has h hh) (fN:h.nx≤hh.nx) (kc:ba.length=pqN) (yI:cG.length=sqN) (GA:cW.length=tqN) (br:hh.get bj=some (aN.cells (bs ba) 4 false)) (dA:hh.get cg=some (aN.cells (zs .i64 cG) 3 false)) (mg:hh.get gF=some (aN.cells (kL cW) 156 false)) (lk:hh.get gM=some (aN.cells [j.au,j.ar,(AV.slice bj 0 pqN pqN false),(AV.slice cg 0 sqN sqN false),(AV.slice gF 0 tqN tqN tqF)] 103 false)),bY (σ:=List Bool×List Int×List Tl) (ρ:=Bool×List Bool×List Int×List Tl) (cA (d+5)) Kk ⟨((x 0)::(x 1)::(Zi fm)::(Pt gM)::rx x 4 11 (z2::(Zn (bf j.ab oqd aE).length)::(Zi fG)::rx x 18 9 [])),hh,[],.no⟩ (.exit 0) hh (fun r z y=>((y 0)::(y 1)::(Zi fm)::(Pt gM)::rx y 4 11 (z2::(Zn (bf j.ab oqd aE).length)::rx y 17 10 []))) (fun r z y=>((y 0)::(y 1)::(Zi fm)::(Pt gM)::(y 4)::(y 5)::(AV.bool r.1)::rx y 7 8 (z2::(Zn (bf j.ab oqd aE).length)::rx y 17 10 []))) (fun r z hk=>Has h hk∧hk.get bj=some (aN.cells (bs r.1) 4 false)∧hk.get cg=some (aN.cells (zs .i64 r.2.1) 3 false)∧hk.get gF=some (aN.cells (kL r.2.2) 156 false)∧hk.get gM=some (aN.cells [j.au,j.ar,(AV.slice bj 0 pqN pqN false),(AV.slice cg 0 sqN sqN false),(AV.slice gF 0 tqN tqN tqF)] 103 false)∧r.1.length=pqN∧r.2.1.length=sqN∧r.2.2.length=tqN∧((0:Int)≤1)) (fun r z hk=>Has h hk∧hk.get bj=some (aN.cells (bs r.2.1) 4 false)∧r.2.1.length=pqN∧hk.get cg=some (aN.cells (zs .i64 r.2.2.1) 3 false)∧r.2.2.1.length=sqN∧hk.get gF=some (aN.cells (kL r.2.2.2) 156 false)∧r.2.2.2.length=tqN) (gu j oqd aE fm k_ fG ba cG cW)
 | 0,fG,ba,cG,cW,eZ,du,x,hh,aF,aA,fN,kc,yI,GA,br,dA,mg,lk=>by
  have q1:(decide (fG<(((bf j.ab oqd aE).length:Nat):Int)))=false:=d!
  exact bY.out (ba,cG,cW) aL rfl (pk (d+5) _ _ hh _ hh (VV (bE 3 false false .i64 fG (((bf j.ab oqd aE).length:Nat):Int))<|BB q1<|ZZ) k!) aF o! ⟨aA,br,dA,mg,lk,bF,bF,bF,(show ((0:Int)≤1) from qt)⟩ k!
 | dx+1,fG,ba,cG,cW,eZ,du,x,hh,aF,aA,fN,kc,yI,GA,br,dA,mg,lk=>by
  have gN:=bp.small
  have mw:=cC.small
  have sX:=dq.small
  have tD:=aF _ _ br
  have Lr:=aF _ _ dA
  have agi:=aF _ _ mg
  have agj:=aF _ _ lk
  have nt_:=fU.nt
  have tb_:=Xo fG.toNat
  have ei:=fun {al ps} (k:Pk al _ ps)=>(VV (bE 3 false false .i64 fG (((bf j.ab oqd aE).length:Nat):Int))<|k:Pk _ [] ps)
  rcases bu (decide (fG<(((bf j.ab oqd aE).length:Nat):Int))) with f0 | f0
  · have ja:=jv f0
    obtain ⟨p3,q4,mu,_⟩:=bp.elem (i:=fG.toNat) o!
    have gh:=xn mu o!
    have kN:=(bp.has aA).load o! mu
    obtain ⟨hw6,abR,ajQ,T7,T8,EZ⟩:=dI aF br
    have abS:=bL aA kA EZ
    obtain ⟨hw7,aoK,asj,akX,akY,Pj⟩:=dI abR ((EZ _ o!).trans dA)
    have adC:hw7.get bj=none:=(Pj _ o!).trans T7
    have aoL:=bL abS kA Pj
    obtain ⟨hw8,Rp,abY,Jc,Jd,pW⟩:=dI aoK ((Pj _ o!).trans ((EZ _ o!).trans mg))
    have adD:hw8.get bj=none:=(pW _ o!).trans adC
    have adE:hw8.get cg=none:=(pW _ o!).trans akX
    have WJ:=bL aoL kA pW
    obtain ⟨h9,Ud,uw,T9,yG,Oq,Ua,adF,asl,adG,asm⟩:=Zx (d:=d+1) (h:=hw8) (pqN:=pqN) (sqN:=sqN) (tqN:=tqN) (tqF:=tqF) j ba cG cW ((bf j.ab oqd aE).g fG.toNat) fm (aK.mono WJ fI) br bF adD dA bF adE mg bF Jc bR bR bR bR bR bR bR bR bR bR bR bR bR o! o! o! Rp aF (Jd.trans (akY.trans T8)) o!
    have aum:=U3 j ba cG cW ((bf j.ab oqd aE).g fG.toNat) fm bR bR bR bR bR bR bR bR
    have nz:=(WJ.trans yG)
    have gK:=fun {al ps} (k:Pk al _ ps)=>(ei<|BV f0 gh<|MM kN<|CC<|MM (aP 103 0 (AV.agg [j.au,j.ar,(AV.slice bj 0 pqN pqN false),(AV.slice cg 0 sqN sqN false),(AV.slice gF 0 tqN tqN tqF)]) lk k!)<|CN 2<|EE Ud<|CC<|k:Pk _ [] ps)
    rcases bu (!((cK j ba cG cW ((bf j.ab oqd aE).g fG.toNat) fm).1)) with f1 | f1
    · exact bY.ret (false,(cK j ba cG cW ((bf j.ab oqd aE).g fG.toNat) fm).2.1,(cK j ba cG cW ((bf j.ab oqd aE).g fG.toNat) fm).2.2.1,(cK j ba cG cW ((bf j.ab oqd aE).g fG.toNat) fm).2.2.2) aL (by simp only[gu,f0,f1,ao,ai]) (pk (d+5) _ _ hh _ h9 (gK<|BC f1<|ZZ) k!) uw o! ⟨nz,Oq,bF,adF,bF,adG,bF⟩ k!
    · have w11:IntKind.i64.wrap (fG+1)=fG+1:=wrap_i64 o! o!
      exact bY.round (by simp only[gu,f0,f1,ao,ai]) (pk (d+5) _ _ hh _ h9 (gK<|BV f1 (qE 3 false true w11)<|CC<|ZZ) k!) o! _ k! (fun x=>xH fm z2 j oqd aE pqN sqN tqN tqF aj aW cQ bj cg gF gM bp cC dq fI fU iB mO nI o8 qF yL Rt Ru ab6 Rv adh Xo adi adj aoI aoJ bM tC C5 Lp Lq o_ uA uC uD uE uF dx (fG+1) (cK j ba cG cW ((bf j.ab oqd aE).g fG.toNat) fm).2.1 (cK j ba cG cW ((bf j.ab oqd aE).g fG.toNat) fm).2.2.1 (cK j ba cG cW ((bf j.ab oqd aE).g fG.toNat) fm).2.2.2 qt (show (((0:Int)≤1)∧(0≤(fG+1)∧(fG+1)≤((bf j.ab oqd aE).length:Int)∧(∀ii,ii<((cK j ba cG cW ((bf j.ab oqd aE).g fG.toNat) fm).2.2.1).length→0≤((cK j ba cG cW ((bf j.ab oqd aE).g fG.toNat) fm).2.2.1).g ii∧((cK j ba cG cW ((bf j.ab oqd aE).g fG.toNat) fm).2.2.1).g ii+(j.ab.g ii).takes≤100000)∧QI j (cQ+(fG+1)) (cK j ba cG cW ((bf j.ab oqd aE).g fG.toNat) fm).2.2.2)) from qt) x h9 uw nz o! bF bF bF Oq adF adG (yG _ _ ((pW _ o!).trans ((Pj _ o!).trans ((EZ _ o!).trans lk)))))
  · exact bY.out (ba,cG,cW) aL (by simp only[gu,f0,ao,ai]) (pk (d+5) _ _ hh _ hh (ei<|BB f0<|ZZ) k!) aF o! ⟨aA,br,dA,mg,lk,bF,bF,bF,(show ((0:Int)≤1) from qt)⟩ k!
def fh (j:bP) (aE:List Bool) (aj:List Int) (aW:List Tl) (oqd:List Int) (fm:Int):Bool×List Bool×List Int×List Tl:=(match (gu j oqd aE fm ((((bf j.ab oqd aE).length:Nat):Int) - 0).toNat 0 aE aj aW) with | Sum.inl rv6=>(true,rv6.1,rv6.2.1,rv6.2.2) | Sum.inr ZD=>(ZD.1,ZD.2.1,ZD.2.2.1,ZD.2.2.2))
theorem Pl {d:Nat} {h hh:az} {gO:AV} {bq pqN bt sqN tqB tqN:Nat} {tqF:Bool} (j:bP) (aE:List Bool) (aj:List Int) (aW:List Tl) (oqd:List Int) (fm:Int) (cQ:Int) (b7:aK.ok h j) (zU:bT h .i64 3 gO oqd) (dU:hh.get bq=some (aN.cells (bs aE) 4 false)) (Dd:aE.length=pqN) (Jo:h.get bq=none) (dH:hh.get bt=some (aN.cells (zs .i64 aj) 3 false)) (Jp:aj.length=sqN) (Jq:h.get bt=none) (eW:hh.get tqB=some (aN.cells (kL aW) 156 false)) (MN:aW.length=tqN) (MO:h.get tqB=none) (mf:cE j) (oQ:aE.length=j.ab.length) (xU:aj.length=j.ab.length) (Ak:aW.length=j.af.length) (Ha:∀q,q<oqd.length→0≤oqd.g q∧oqd.g q<(j.ab.length:Int)) (Y5:∀i,i<aj.length→0≤aj.g i∧aj.g i+(j.ab.g i).takes≤100000) (pre6:QI j cQ aW) (ab7:0≤fm) (aj5:fm≤100000) (Un:oqd.length≤19) (aoC:0≤cQ) (aoD:cQ≤40) (aj6:bt≠bq) (an4:tqB≠bq) (an5:tqB≠bt) (bM:Tidy h) (aF:Tidy hh) (aA:Has h hh) (fN:h.nx≤hh.nx):∃hk,cA (d+6) (.fn 45) [(AV.agg [j.au,j.ar,(AV.slice bq 0 pqN pqN false),(AV.slice bt 0 sqN sqN false),(AV.slice tqB 0 tqN tqN tqF)]),gO,(Zi fm)] hh= .ret (AV.bool (fh j aE aj aW oqd fm).1) hk∧Tidy hk∧hh.nx≤hk.nx∧Has h hk∧hk.get bq=some (aN.cells (bs (fh j aE aj aW oqd fm).2.1) 4 false)∧((fh j aE aj aW oqd fm).2.1).length=pqN∧hk.get bt=some (aN.cells (zs .i64 (fh j aE aj aW oqd fm).2.2.1) 3 false)∧((fh j aE aj aW oqd fm).2.2.1).length=sqN∧hk.get tqB=some (aN.cells (kL (fh j aE aj aW oqd fm).2.2.2) 156 false)∧((fh j aE aj aW oqd fm).2.2.2).length=tqN:=by
 have Zb:=zU.small
 have l7:=b7.1.small
 have l8:=b7.2.small
 have Jr:=aF _ _ dU
 have Js:=aF _ _ dH
 have MP:=aF _ _ eW
 obtain ⟨h1,dw,de,jW,bx,ca⟩:=gQ aF (aN.cells [j.au,j.ar,(AV.slice bq 0 pqN pqN false),(AV.slice bt 0 sqN sqN false),(AV.slice tqB 0 tqN tqN tqF)] 103 false)
 have bD:=aA.trans ca
 obtain ⟨z2,h4,ZG,fV,fz3,asn⟩:=Dt (d:=d) j.ab oqd aE bq pqN false (b7.1.has bD) (zU.has bD) (ca _ _ dU) bF o! bR bR bR bR bR de
 have ij:=fV.y
 have UD:h1.nx≤h4.nx:=fV.n
 have fq:=bD.trans fV.a
 have aun:=fz3.small
 have auo:=Kb j.ab oqd aE bR
 have ln5:=fz3.len
 obtain ⟨hw8,Rp,abY,Jc,Jd,pW⟩:=dI ij (fV.a _ _ (ca _ _ dU))
 have adH:Has h hw8:=bL fq kA pW
 obtain ⟨hw9,aoM,aso,akZ,ak0,Kl⟩:=dI Rp ((pW _ o!).trans (fV.a _ _ (ca _ _ dH)))
 have adI:hw9.get bq=none:=(Kl _ o!).trans Jc
 have adJ:Has h hw9:=bL adH kA Kl
 obtain ⟨ak1,ak2,aqk,agU,agV,D2⟩:=dI aoM ((Kl _ o!).trans ((pW _ o!).trans (fV.a _ _ (ca _ _ eW))))
 have ZH:ak1.get bq=none:=(D2 _ o!).trans adI
 have ZI:ak1.get bt=none:=(D2 _ o!).trans akZ
 have ZJ:Has h ak1:=bL adJ kA D2
 obtain ⟨Ul,Um,agt,WO,Ov,pf⟩:=dI ak2 ((D2 _ o!).trans ((Kl _ o!).trans ((pW _ o!).trans (fV.a _ _ bx))))
 have amG:Ul.get bq=none:=(pf _ o!).trans ZH
 have amH:Ul.get bt=none:=(pf _ o!).trans ZI
 have amI:Ul.get tqB=none:=(pf _ o!).trans agU
 have vD:Has h Ul:=bL ZJ kA pf
 have n9:=fun {al ps} (k:Pk al _ ps)=>(NN dw (fun i=>(Pt i))<|CN 3<|MM (aP 22 0 j.au bx k!)<|CN 2<|MM (aP 96 2 (AV.slice bq 0 pqN pqN false) bx k!)<|EE ZG<|VV ln5<|CC<|k:Pk _ [] ps)
 have lp4:=xH (d:=d) (h:=Ul) fm z2 j oqd aE pqN sqN tqN tqF aj aW cQ bq bt tqB hh.nx (eG.zs (eG.wo (eG.wo (eG.wo (eG.wo asn pW o!) Kl o!) D2 o!) pf o!) o! k! k!) (b7.1.has vD) (b7.2.has vD) (aK.mono vD b7) a! a! a! a! a! a! a! a! a! a! a! a! (Kb j.ab oqd aE a!).2 (Nat.le_trans (Kb j.ab oqd aE a!).1 o!) o! o! o! Um a! a! a! a! o! o! o! o! o! o! ((((bf j.ab oqd aE).length:Nat):Int) - 0).toNat 0 aE aj aW o! (show (((0:Int)≤1)∧(0≤0∧0≤((bf j.ab oqd aE).length:Int)∧(∀ii,ii<(aj).length→0≤(aj).g ii∧(aj).g ii+(j.ab.g ii).takes≤100000)∧QI j (cQ+0) (aW))) from ⟨by omega,by omega,by omega,a!,(by rw[Int.add_zero];assumption)⟩) (dr ((AV.agg [j.au,j.ar,(AV.slice bq 0 pqN pqN false),(AV.slice bt 0 sqN sqN false),(AV.slice tqB 0 tqN tqN tqF)])::gO::(Zi fm)::(Pt hh.nx)::aL::aL::(AV.bool false)::aL::aL::(Pt hh.nx)::(Pt hh.nx)::j.au::gO::(AV.ptr hh.nx 2)::(AV.slice bq 0 pqN pqN false)::z2::(Zn (bf j.ab oqd aE).length)::(Zi 0)::iW 9)) h4 ij (Ov.trans (agV.trans (ak0.trans Jd))) o! bF bF bF (fV.a _ _ (ca _ _ dU)) (fV.a _ _ (ca _ _ dH)) (fV.a _ _ (ca _ _ eW)) (fV.a _ _ bx)
 cases wL:gu j oqd aE fm ((((bf j.ab oqd aE).length:Nat):Int) - 0).toNat 0 aE aj aW with
 | inl rv6=>
  obtain ⟨asp,yl6,h7,wM,dM,ajR,Rm,adK,adL,adM,asq,ajT,asr,ass,agW⟩:=bY.n wL lp4
  have cV:=(vD.trans Rm)
  have e:fh j aE aj aW oqd fm=(true,rv6.1,rv6.2.1,rv6.2.2):=by simp only[fh,wL,ao,ai]
  rw[e]
  exact iE rfl (aY Tryz.func45 D1 rfl (.inr rfl) (pk (d+5) _ _ hh _ h7 (n9<|LL wM<|CC<|ZZ) k!) k!) aF dM o! ⟨cV,adK,bF,adL,bF,adM,bF⟩ (fun q=>⟨aA,eL q dU adK,bF,eL q dH adL,bF,eL q eW adM,bF⟩)
 | inr ZD=>
  obtain ⟨asp,yl6,h7,wM,dM,ajR,Rm,adN,ast,adO,asu,adP,asv⟩:=bY.r wL lp4
  have cV:=(vD.trans Rm)
  have e:fh j aE aj aW oqd fm=(ZD.1,ZD.2.1,ZD.2.2.1,ZD.2.2.2):=by simp only[fh,wL,ao,ai]
  rw[e]
  exact iE rfl (aY Tryz.func45 D1 rfl (.inr rfl) (pk (d+5) _ _ hh _ h7 (n9<|LL wM<|ZZ) k!) k!) aF dM o! ⟨cV,adN,bF,adO,bF,adP,bF⟩ (fun q=>⟨aA,eL q dU adN,bF,eL q dH adO,bF,eL q eW adP,bF⟩)


theorem sh {j:bP} (h:eI j=0):cE j:=UJ (by rw[eI] at h;exact h)
theorem aoN {j:bP} (F:cE j):∀i,i<(ay j).2.2.length→0≤(ay j).2.2.g i∧(ay j).2.2.g i+(j.ab.g i).takes≤100000:=by
 rw[RG]
 intro i hi
 have hi:i<j.ab.length:=by rw[←List.length_replicate (n:=j.ab.length) (a:=(0:Int))];exact hi
 have e:(List.replicate j.ab.length (0:Int)).g i=0:=by rw[List.g,List.getD_eq_getElem?_getD,List.getElem?_replicate,if_pos hi];rfl
 have tk:=F.tk i hi
 show 0≤(List.replicate j.ab.length (0:Int)).g i∧(List.replicate j.ab.length (0:Int)).g i+(j.ab.g i).takes≤100000
 rw[e];omega
theorem adR (j:bP):eI j=eX j:=adB j fun _ _=>⟨congrArg List.length (MZ j),Zg j⟩
variable {j:bP} {oqd:List Int}
def pick (ts:List Task) (oqd:List Int) (a:List Bool):Option Nat:=jg (fun k=>K8 ts a (Int.toNat (oqd.g k))) oqd.length 0
theorem Sv {ts:List Task}:∀(k i:Nat) (v:List Int) (a:List Bool),b5 oqd ts k i v a=match jg (fun k=>K8 ts a (Int.toNat (oqd.g k))) k i with | some q=>(v++[oqd.g q],a.set (Int.toNat (oqd.g q)) true) | none=>(v,a)
 | 0,i,v,a=>rfl
 | k+1,i,v,a=>by
  rw[b5,jg,MX,Sv k (i+1)]
  cases K8 ts a (Int.toNat (oqd.g i))<;>rfl
def LW (ts:List Task) (oqd:List Int):Nat→List Bool→List Int
 | 0,_=> []
 | k+1,a=>match pick ts oqd a with | some q=>oqd.g q::LW ts oqd k (a.set (Int.toNat (oqd.g q)) true) | none=> []
theorem M_ {ts:List Task} {a:List Bool} (h:pick ts oqd a=none):∀k,LW ts oqd k a=[]
 | 0=>rfl
 | k+1=>by rw[LW,h]
theorem XB {ts:List Task}:∀(k i:Nat) (v:List Int) (a:List Bool),(cH oqd ts k i v a).1=v++LW ts oqd k a
 | 0,i,v,a=>by rw[cH,LW,List.append_nil]
 | k+1,i,v,a=>by
  have e:b5 oqd ts oqd.length 0 v a=match pick ts oqd a with | some q=>(v++[oqd.g q],a.set (Int.toNat (oqd.g q)) true) | none=>(v,a):=Sv _ 0 v a
  rw[cH,XB k,e,LW]
  cases h:pick ts oqd a with
  | none=>rw[M_ h]
  | some q=>
   show v++[oqd.g q]++_=v++oqd.g q::_
   rw[List.append_assoc];rfl
theorem ak3 (ts:List Task) (oqd:List Int) (p:List Bool):bf ts oqd p=LW ts oqd oqd.length p:=by
 rw[bf,XB,List.nil_append];rfl
theorem zj {p:Prop} (h:p:=by first | omega | (simp only[List.length_set,List.length_replicate,dQ]<;>omega) | exact hJ _ | exact ku a!):p:=h
def AR:Code:=(Tryz.f143.body).getD .skip
theorem Km:Tryz.f143.body=some AR:=by kernel_rfl
def Pm:Code:=(bl AR).getD 0 .skip
def jk (t:List Int):Nat→Nat→Option (Bool)
 | 0,_=>none
 | dx+1,i0=>(bif (decide ((t.g 323)<(t.g (i0*2+1)))) then some false else jk t dx (i0+1))
theorem AS {d:Nat} {h:az} (tO:Nat) (t:List Int) (tP:List AV) (tQ:List AV) (tE:TypeId) (bj:Nat) (fU:0≤t.g 322) (iB:t.g 322≤161) (mO:tP.length=tO) (nI:t.length=324):∀(k_ i_:Nat) (_:i_+k_=(t.g 322).toNat) (x:Nat→AV) (hh:az) (aF:Tidy hh) (aA:Has h hh) (br:hh.get bj=some (aN.cells (tP++zs .i64 t++tQ) tE false)),aC (cA (d)) Pm ⟨((AV.ptr bj tO)::rx x 1 11 ((AV.slice bj (tO+0) (t.g 322).toNat 161 false)::(Zn (t.g 322).toNat)::(Zn i_)::rx x 15 11 [])),hh,[],.no⟩ (.exit 0) hh (fun y=>((AV.ptr bj tO)::rx y 1 11 ((AV.slice bj (tO+0) (t.g 322).toNat 161 false)::(Zn (t.g 322).toNat)::rx y 14 12 []))) (fun r y=>((AV.ptr bj tO)::(y 1)::(AV.bool r)::rx y 3 9 ((AV.slice bj (tO+0) (t.g 322).toNat 161 false)::(Zn (t.g 322).toNat)::rx y 14 12 []))) (jk t k_ i_)
 | 0,i0,eZ,x,hh,aF,aA,br=>by
  have q1:(decide (((i0:Nat):Int)<(((t.g 322).toNat:Nat):Int)))=false:=d!
  exact aC.out rfl (pk (d) _ _ hh _ hh (VV (bE 3 false false .i64 ((i0:Nat):Int) (((t.g 322).toNat:Nat):Int))<|BB q1<|ZZ) k!) (Grow.refl aF) k!
 | dx+1,i0,eZ,x,hh,aF,aA,br=>by
  have tD:=aF _ _ br
  have q1:(decide (((i0:Nat):Int)<(((t.g 322).toNat:Nat):Int)))=true:=d!
  have gh:hG env (some (.slice 153)) (some (AV.slice bj (tO+0) (t.g 322).toNat 161 false)) (some (Zn i0))=some (AV.ptr bj ((tO+0)+i0*2)):=CP (z:=2) (k:=i0) k! o! o!
  have ld3:cX env hh 153 (AV.ptr bj ((tO+0)+i0*2))=some (AV.agg [(Zi (t.g (i0*2))),(Zi (t.g (i0*2+1)))]):=(MF (j:=i0*2) (o:=tO) k! k! br o! zj o!)
  obtain ⟨h4,Ow,ij,Y7,Lt,sY⟩:=gQ aF (aN.cells [(Zi 0),(Zi 0)] 153 false)
  have fq:=sY
  obtain ⟨h5,T6,mP,abN,Hc,yQ⟩:=j_ (t:=153) (n:=2) (i:=hh.nx) (L:=[(Zi (t.g (i0*2))),(Zi (t.g (i0*2+1)))]) ij Lt k! rfl rfl rfl
  have fO:=Has.bK fq yQ aF o!
  have qm:cX env h5 3 (AV.ptr bj (tO+323))=some (Zi (t.g 323)):=(gD (j:=323) (o:=tO) k! (yQ _ _ o! (sY _ _ br)) o! zj o!)
  have ei:=fun {al ps} (k:Pk al _ ps)=>(VV (bE 3 false false .i64 ((i0:Nat):Int) (((t.g 322).toNat:Nat):Int))<|BV q1 gh<|MM ld3<|NN Ow (fun i=>(Pt i))<|SS T6<|CC<|MM (aP 3 1 (Zi (t.g (i0*2+1))) Hc k!)<|CN 3<|MM qm<|VV (gz 3 false false .i64 (t.g (i0*2+1)) (t.g 323))<|HH (aP 3 1 (Zi (t.g (i0*2+1))) Hc k!)<|HH (show AV.same 20 (Zi (t.g (i0*2+1))) (Zi (t.g (i0*2+1)))=true from aS 19 _ _)<|HH qm<|HH (show AV.same 20 (Zi (t.g 323)) (Zi (t.g 323))=true from aS 19 _ _)<|k:Pk _ [] ps)
  rcases bu (decide ((t.g 323)<(t.g (i0*2+1)))) with f1 | f1
  · have eB:=jv f1
    exact aC.ret false (by simp only[jk,f1,ao,ai]) (pk (d) _ _ hh _ h5 (ei<|BC f1<|ZZ) k!) (⟨mP,fO,by omega⟩) k!
  · have eB:=pK f1
    have u8:=eA 3 false true i0 1 o!
    exact aC.round (by simp only[jk,f1,ao,ai]) (pk (d) _ _ hh _ h5 (ei<|BV f1 u8<|CC<|ZZ) k!) (⟨mP,fO,by omega⟩) _ k! (fun x=>AS tO t tP tQ tE bj fU iB mO nI dx (i0+1) o! x h5 mP (aA.trans fO) (yQ _ _ o! (sY _ _ br)))
def lQ (t:List Int):Bool:=(match (jk t (t.g 322).toNat 0) with | none=>true | some rr3=>rr3)
theorem U9 {d:Nat} {h:az} {tP tQ:List AV} {tE:TypeId} (t:List Int) (tB:Nat) (tO:Nat) (AD:h.get tB=some (aN.cells (tP++zs .i64 t++tQ) tE false)) (agb:tP.length=tO) (agc:t.length=324) (mf:0≤t.g 322) (oQ:t.g 322≤161) (bM:Tidy h):cA (d+1) (.fn 143) [(AV.ptr tB tO)] h= .ret (AV.bool (lQ t)) h:=by
 have ld1:cX env h 3 (AV.ptr tB (tO+322))=some (Zi (t.g 322)):=(gD (j:=322) (o:=tO) k! AD o! zj o!)
 have sl2:iY env 154 (AV.ptr tB (tO+0)) (none) (some (Zi (t.g 322))) (none)=some (AV.slice tB (tO+0) (t.g 322).toNat 161 false):=Gt (e:=153) (size:=2) k! k! (hi:=(t.g 322).toNat) o! o!
 have gK:=fun {al ps} (k:Pk al _ ps)=>(CN 7<|MM ld1<|QQ sl2<|CN 2<|HH ld1<|HH (show AV.same 20 (Zi (t.g 322)) (Zi (t.g 322))=true from aS 19 _ _)<|k:Pk _ [] ps)
 have JC:=AS (d:=d) (h:=h) tO t tP tQ tE tB o! o! o! o! (t.g 322).toNat 0 o! (dr ((AV.ptr tB tO)::aL::(AV.bool false)::aL::aL::(AV.ptr tB tO)::(AV.ptr tB tO)::(AV.ptr tB (tO+0))::(AV.ptr tB tO)::(AV.ptr tB tO)::(AV.ptr tB (tO+322))::(Zi (t.g 322))::(AV.slice tB (tO+0) (t.g 322).toNat 161 false)::(Zn (t.g 322).toNat)::(Zi 0)::iW 11)) h bM (Has.refl _) AD
 cases mE:jk t (t.g 322).toNat 0 with
 | none=>
  obtain ⟨MR,h4,jX,fV⟩:=aC.n mE JC
  have fq:=fV.a
  have e:lQ t=true:=by simp only[lQ,mE,ao,ai]
  rw[e]
  exact aG rfl (aY Tryz.func143 Km rfl (.inr rfl) (pk (d) _ _ h _ h4 (gK<|LL jX<|CC<|ZZ) k!) k!) fq rfl
 | some rr3=>
  obtain ⟨MR,h4,jX,fV⟩:=aC.r mE JC
  have fq:=fV.a
  have e:lQ t=rr3:=by simp only[lQ,mE,ao,ai]
  rw[e]
  exact aG rfl (aY Tryz.func143 Km rfl (.inr rfl) (pk (d) _ _ h _ h4 (gK<|LL jX<|ZZ) k!) k!) fq rfl
theorem XC {t:List Int}:∀(k i:Nat),(jk t k i=none∧∀j,i≤j→j<i+k→us t j≤t.g 323)∨(jk t k i=some false∧∃j,i≤j∧j<i+k∧t.g 323<us t j)
 | 0,i=> .inl ⟨by rw[jk],fun j p q=>by omega⟩
 | k+1,i=>by
  rw[jk]
  by_cases f:t.g 323<us t i
  · rw[eV (show t.g 323<t.g (i*2+1) from f),ao]
    exact .inr ⟨rfl,i,jR _,by omega,f⟩
  · rw[fL (show ¬t.g 323<t.g (i*2+1) from f),ai]
    rcases XC (t:=t) k (i+1) with ⟨e,g⟩ | ⟨e,j,a,b,c⟩
    · exact .inl ⟨e,fun j p q=>by
       by_cases z:j=i
       · subst z;omega
       · exact g j o! o!⟩
    · exact .inr ⟨e,j,by omega,by omega,c⟩
theorem ZK {t:List Int} {n:Nat} (T:ng t n):lQ t=true↔∀k,k<n→us t k≤t.g 323:=by
 rw[lQ,T.cn,Int.toNat_natCast]
 rcases XC (t:=t) n 0 with ⟨e,g⟩ | ⟨e,j,a,b,c⟩
 · rw[e];exact ⟨fun _ k hk=>g k (Nat.zero_le _) o!,fun _=>rfl⟩
 · rw[e];exact ⟨fun q=>(by cases q),fun q=>by have:=q j o!;omega⟩
theorem adS {t:List Int} {n:Nat} (T:ng t n):lQ t=true↔∀m,0≤m→Al t m n≤t.g 323:=by
 rw[ZK T]
 constructor
 · intro h m hm
   obtain ⟨k,a,b,c⟩:=zO (t:=t) (m:=m) (by rw[T.zero];exact hm) T.lo T.up
   rw[wD a c b];exact h k a
 · intro h k hk
   have:=h (fr t k) (T.nn hk)
   rw[T.Al hk (Int.le_refl _) (fun q=>T.up k (k+1) o! q)] at this
   exact this
end
end Go.Proofs.aM
