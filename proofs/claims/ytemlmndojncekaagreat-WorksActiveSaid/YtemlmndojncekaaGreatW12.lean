import Derived.Test.YtemlmndojncekaaGreatW10
import Derived.Test.YtemlmndojncekaaGreatW5
import Derived.Test.YtemlmndojncekaaGreatW11
import Derived.Test.YtemlmndojncekaaGreatW0
import Derived.Test.YtemlmndojncekaaGreatW9
import Derived.Test.YtemlmndojncekaaGreatW4
import Derived.Test.YtemlmndojncekaaGreatW3
import Derived.Test.YtemlmndojncekaaGreatW6
import Derived.Test.YtemlmndojncekaaGreatW2
namespace Go.Proofs.aQ
open Go.Proofs Ab
noncomputable section
set_option maxRecDepth 100000
set_option maxHeartbeats 4000000
set_option linter.unusedVariables false
set_option linter.unusedSimpArgs false
theorem HK (x:Int):dZ x=d_ x:=rfl
theorem aaQ {j:cx} {a:Nat}:∀k i,iL a j k i=bif anyI (fun n=>decide ((j.af.g n).name=(j.af.g a).name)) k i then some 6 else none
 | 0,i=>rfl
 | k+1,i=>by
   rw[iL,anyI,aaQ k (i+1)]
   cases decide ((j.af.g i).name=(j.af.g a).name)<;>rfl
theorem aaR {j:cx} {a:Nat}:∀k i,iM a j k i=bif anyI (fun n=>decide ((j.ab.g n).name=(j.ab.g a).name)) k i then some 6 else none
 | 0,i=>rfl
 | k+1,i=>by
   rw[iM,anyI,aaR k (i+1)]
   cases decide ((j.ab.g i).name=(j.ab.g a).name)<;>rfl
theorem Uw {x:Task} {a:Nat}:∀k i,eJ a x k i=bif anyI (fun n=>decide (x.aB.g n=x.aB.g a)) k i then some 6 else none
 | 0,i=>rfl
 | k+1,i=>by
   rw[eJ,anyI,Uw k (i+1)]
   cases decide (x.aB.g i=x.aB.g a)<;>rfl
theorem Ux {x:Task} {a:Nat}:∀k i,eK a x k i=bif anyI (fun n=>decide ((x.aA.g n).ah=(x.aA.g a).ah)) k i then some 6 else none
 | 0,i=>rfl
 | k+1,i=>by
   rw[eK,anyI,Ux k (i+1)]
   cases decide ((x.aA.g i).ah=(x.aA.g a).ah)<;>rfl
theorem aaS {x:bJ}:∀(k i:Nat),i+k=x.off.length→cD x k i=AM (fun q=>cM (x.off.take q) (x.off.g q)) k i
 | 0,i,h=>rfl
 | k+1,i,h=>by
   have hi:i<x.off.length:=by omega
   rw[cD,AM,aaS k (i+1) o!]
   have e:cM (x.off.take i) (x.off.g i)=bif !(d_ (x.off.g i).bq) then 1 else bif !(d_ (x.off.g i).ba) then 1 else bif decide ((x.off.g i).ba<(x.off.g i).bq) then 1 else bif decide (0<((i:Nat):Int)) then (bif decide ((x.off.g i).bq≤(x.off.g (i - 1)).ba) then 1 else 0) else 0:=by
    rw[cM,HK,HK,qY (Nat.le_of_lt hi)]
    by_cases z:0<i
    · rw[Al (show i - 1<i by omega)]
    · rw[decide_eq_false (show ¬0<((i:Nat):Int) by omega)];rfl
   rw[e]
   cases d_ (x.off.g i).bq<;>cases d_ (x.off.g i).ba<;>cases decide ((x.off.g i).ba<(x.off.g i).bq)<;>cases decide (0<((i:Nat):Int))<;>cases decide ((x.off.g i).bq≤(x.off.g (i - 1)).ba)<;>rfl
theorem ahB {j:cx} {i:Nat} (hi:i<j.af.length):bF (List.take i j.af) (List.g j.af i)=bif !(fI (j.af.g i).name) then 5 else bif anyI (fun n=>decide ((j.af.g n).name=(j.af.g i).name)) i 0 then 6 else bY (j.af.g i):=by
 rw[bF,Uv,ag0,Ub,qY (Nat.le_of_lt hi)]
 rw[oA (Q:=fun n=>decide ((j.af.g n).name=(j.af.g i).name)) fun n _ hn=>by rw[Al o!];rfl]
 have e:(bif !(ib (j.af.g i).aJ 1000) then 1 else MX (j.af.g i).off.length 16 (fun jx=>cM (List.take jx (j.af.g i).off) (List.g (j.af.g i).off jx)))=bY (j.af.g i):=by
  rw[bY,ib,MX,aaS _ _ o!]
  by_cases a:0≤(j.af.g i).aJ
  · rw[decide_eq_true a,decide_eq_false (show ¬(j.af.g i).aJ<0 by omega)]
    by_cases b:(j.af.g i).aJ≤1000
    · rw[decide_eq_true b,decide_eq_false (show ¬1000<(j.af.g i).aJ by omega)];rfl
    · rw[decide_eq_false b,decide_eq_true (show 1000<(j.af.g i).aJ by omega)];rfl
  · rw[decide_eq_false a,decide_eq_true (show (j.af.g i).aJ<0 by omega)];rfl
 rw[←e]
theorem aaT {j:cx}:∀(k i:Nat),i+k=j.af.length→gH j k i=AM (fun q=>bF (List.take q j.af) (List.g j.af q)) k i
 | 0,i,h=>rfl
 | k+1,i,h=>by
   rw[gH,AM,aaT k (i+1) o!,aaQ,ahB o!]
   cases fI (j.af.g i).name with
   | false=>rfl
   | true=>cases anyI (fun n=>decide ((j.af.g n).name=(j.af.g i).name)) i 0<;>rfl
theorem Uy (x:Int) (n:Nat):(!(iU x (n:Int)))=(bif decide (x<0) then true else decide ((n:Int)≤x)):=by
 rw[iU]
 by_cases a:0≤x
 · rw[decide_eq_true a,decide_eq_false (show ¬x<0 by omega),aj,ai]
   by_cases b:x<(n:Int)
   · rw[decide_eq_true b,decide_eq_false (show ¬(n:Int)≤x by omega)];rfl
   · rw[decide_eq_false b,decide_eq_true (show (n:Int)≤x by omega)];rfl
 · rw[decide_eq_false a,decide_eq_true (show x<0 by omega)];rfl
theorem Uz {j:cx} {t:Task}:∀(k i:Nat),i+k=t.aB.length→dk t j k i=AM (fun q=>dB (List.take q t.aB) (List.g t.aB q) j) k i
 | 0,i,h=>rfl
 | k+1,i,h=>by
   have e:dB (List.take i t.aB) (List.g t.aB i) j=bif decide (t.aB.g i<0) then 7 else bif decide (((j.ab.length:Nat):Int)≤t.aB.g i) then 7 else bif anyI (fun n=>decide (t.aB.g n=t.aB.g i)) i 0 then 6 else 0:=by
    rw[dB,gU,Uy,ag1,qY (show i≤t.aB.length by omega)]
    rw[oA (Q:=fun n=>decide (t.aB.g n=t.aB.g i)) fun n _ hn=>by rw[Al o!];exact decide_eq_decide.2 eq_comm]
    cases decide (t.aB.g i<0)<;>cases decide (((j.ab.length:Nat):Int)≤t.aB.g i)<;>rfl
   rw[dk,AM,Uz k (i+1) o!,Uw,e]
   cases decide (t.aB.g i<0)<;>cases decide (((j.ab.length:Nat):Int)≤t.aB.g i)<;>cases anyI (fun n=>decide (t.aB.g n=t.aB.g i)) i 0<;>rfl
theorem aaU {j:cx} {t:Task}:∀(k i:Nat),i+k=t.aA.length→cH t j k i=AM (fun q=>gM (List.take q t.aA) (List.g t.aA q) j) k i
 | 0,i,h=>rfl
 | k+1,i,h=>by
   have e:gM (List.take i t.aA) (List.g t.aA i) j=bif decide ((t.aA.g i).ah<0) then 7 else bif decide (((j.af.length:Nat):Int)≤(t.aA.g i).ah) then 7 else bif anyI (fun n=>decide ((t.aA.g n).ah=(t.aA.g i).ah)) i 0 then 6 else bif decide ((t.aA.g i).aJ<1) then 1 else bif decide (1000<(t.aA.g i).aJ) then 1 else bif decide ((j.af.g (Int.toNat (t.aA.g i).ah)).aJ<(t.aA.g i).aJ) then 9 else 0:=by
    rw[gM,dQ,Uy,Z1,qY (show i≤t.aA.length by omega)]
    rw[oA (Q:=fun n=>decide ((t.aA.g n).ah=(t.aA.g i).ah)) fun n _ hn=>by rw[Al o!];rfl]
    cases decide ((t.aA.g i).ah<0)<;>cases decide (((j.af.length:Nat):Int)≤(t.aA.g i).ah)<;>rfl
   rw[cH,AM,aaU k (i+1) o!,Ux,e]
   cases decide ((t.aA.g i).ah<0)<;>cases decide (((j.af.length:Nat):Int)≤(t.aA.g i).ah)<;>cases anyI (fun n=>decide ((t.aA.g n).ah=(t.aA.g i).ah)) i 0<;>cases decide ((t.aA.g i).aJ<1)<;>cases decide (1000<(t.aA.g i).aJ)<;>cases decide ((j.af.g (Int.toNat (t.aA.g i).ah)).aJ<(t.aA.g i).aJ)<;>rfl
theorem adY {j:cx} {i:Nat} (hi:i<j.ab.length):fU (List.take i j.ab) (List.g j.ab i) j=bif !(fI (j.ab.g i).name) then 5 else bif anyI (fun n=>decide ((j.ab.g n).name=(j.ab.g i).name)) i 0 then 6 else cY j (j.ab.g i):=by
 rw[fU,dy,Uv,ady,qY (Nat.le_of_lt hi),HK]
 rw[oA (Q:=fun n=>decide ((j.ab.g n).name=(j.ab.g i).name)) fun n _ hn=>by rw[Al o!];rfl]
 rw[cY,Uz _ _ o!,aaU _ _ o!,ZV,ZW,MX,MX]
 rw[decide_eq_false (show ¬(((j.ab.g i).aB.length:Nat):Int)<(((j.ab.g i).aB.length:Nat):Int) by omega),decide_eq_false (show ¬(((j.ab.g i).aA.length:Nat):Int)<(((j.ab.g i).aA.length:Nat):Int) by omega),ai,ai]
 cases fI (j.ab.g i).name with
 | false=>rfl
 | true=>
 cases anyI (fun n=>decide ((j.ab.g n).name=(j.ab.g i).name)) i 0 with
 | true=>rfl
 | false=>
 cases d_ (j.ab.g i).takes with
 | false=>rfl
 | true=>
 cases h:AM (fun q=>dB (List.take q (j.ab.g i).aB) (List.g (j.ab.g i).aB q) j) (j.ab.g i).aB.length 0 with
 | none=>rfl
 | some r=>
   have:=xn h
   show (bif !decide (r=0) then r else _)=r
   rw[decide_eq_false this];rfl
theorem aaV {j:cx}:∀(k i:Nat),i+k=j.ab.length→fu j k i=AM (fun q=>fU (List.take q j.ab) (List.g j.ab q) j) k i
 | 0,i,h=>rfl
 | k+1,i,h=>by
   rw[fu,AM,aaV k (i+1) o!,aaR,adY o!]
   cases fI (j.ab.g i).name with
   | false=>rfl
   | true=>cases anyI (fun n=>decide ((j.ab.g n).name=(j.ab.g i).name)) i 0<;>rfl
theorem aaW (j:cx) (h:(∀i,i<j.ab.length→∀q,q<(j.ab.g i).aB.length→0≤(j.ab.g i).aB.g q∧(j.ab.g i).aB.g q<(j.ab.length:Int))→j.ab.length≤64→(eY j.ab).length=(gn j).length∧(gn j).length≤j.ab.length):dC j=eQ j:=by
 have nbf:bX j.ab 64 (fun jx=>fU (List.take jx j.ab) (List.g j.ab jx) j)=0→(eY j.ab).length=(gn j).length∧(gn j).length≤j.ab.length:=fun e=>h (Ak e) (by rw[BN] at e;have:=(ph e).1;omega)
 rw[dC,eQ,aaT _ _ o!,aaV _ _ o!,ZX]
 rw[BN] at nbf ⊢
 rw[MX]
 rw[MX] at nbf ⊢
 generalize hA:AM (fun q=>bF (List.take q j.af) (List.g j.af q)) j.af.length 0=A
 generalize hB:AM (fun q=>fU (List.take q j.ab) (List.g j.ab q) j) j.ab.length 0=B at nbf ⊢
 cases decide (16<((j.af.length:Nat):Int)) with
 | true=>rfl
 | false=>
 rw[ai,ai]
 cases A with
 | some r=>
   have:=xn hA
   show (bif !decide (r=0) then r else _)=r
   rw[decide_eq_false this];rfl
 | none=>
 show (bif !decide ((0:Int)=0) then 0 else _)=_
 rw[decide_eq_true (show (0:Int)=0 from rfl),Bool.not_true,ai]
 cases hc:decide (64<((j.ab.length:Nat):Int)) with
 | true=>rfl
 | false=>
 rw[hc,ai] at nbf
 rw[ai,ai]
 cases B with
 | some r=>
   have:=xn hB
   show (bif !decide (r=0) then r else _)=r
   rw[decide_eq_false this];rfl
 | none=>
 obtain ⟨e1,e2⟩:=nbf rfl
 show (bif !decide ((0:Int)=0) then 0 else _)=_
 rw[decide_eq_true (show (0:Int)=0 from rfl),Bool.not_true,ai]
 by_cases z:(gn j).length=j.ab.length
 · rw[decide_eq_false (by omega:¬((((eY j.ab).length:Nat):Int)<((j.ab.length:Nat):Int))),decide_eq_true (by omega:(((gn j).length:Nat):Int)=((j.ab.length:Nat):Int))];rfl
 · rw[decide_eq_true (by omega:((((eY j.ab).length:Nat):Int)<((j.ab.length:Nat):Int))),decide_eq_false (by omega:¬(((gn j).length:Nat):Int)=((j.ab.length:Nat):Int))];rfl
theorem bI {p:Prop} (h:p:=by first | omega | assumption | exact (show b5 j from by assumption).nb | exact (show b5 j from by assumption).tk | exact Nat.le_trans (show b5 j from by assumption).nt (by decide) | exact (show b5 j from by assumption).uf o! | exact (show b5 j from by assumption).ud _ o! | exact fG.2.2.2.1 | exact fun q hq=>by have u_:=(show b5 j from by assumption).ur _ o! q hq;omega | exact fun q hq=>by have u_:=(show b5 j from by assumption).ur _ o! q hq;exact fG.2.2.2.2.ok o! o!):p:=h
theorem oO {p:Prop} (h:p:=by first | omega | exact ⟨by omega,by omega,by omega,(Ut (by assumption) o! fG.2.2.2.2 o! o!).1,(Ut (by assumption) o! fG.2.2.2.2 o! o!).2⟩):p:=h
theorem jy {p:Prop} (h:p:=by first | assumption | exact ij ch o!):p:=h
def vv:Code:=(Tryz.f19.body).getD .skip
theorem Cd:Tryz.f19.body=some vv:=by kernel_rfl
def HL:Code:=(bw vv).getD 0 .skip
def fM (j:cx) (oqd:List Int) (az:List Bool) (cA:Int):Nat→Int→List Bool→List Int→List Tl→(List Bool×List Int×List Tl)⊕(Bool×List Bool×List Int×List Tl)
 | 0,bZ,bj,dh,gD=>Sum.inl (bj,dh,gD)
 | dq+1,bZ,bj,dh,gD=>(bif (decide (bZ<(((aL j.ab oqd az).length:Nat):Int))) then (bif (!((b9 j bj dh gD ((aL j.ab oqd az).g bZ.toNat) cA).1)) then Sum.inr (false,(b9 j bj dh gD ((aL j.ab oqd az).g bZ.toNat) cA).2.1,(b9 j bj dh gD ((aL j.ab oqd az).g bZ.toNat) cA).2.2.1,(b9 j bj dh gD ((aL j.ab oqd az).g bZ.toNat) cA).2.2.2) else fM j oqd az cA dq (bZ+1) (b9 j bj dh gD ((aL j.ab oqd az).g bZ.toNat) cA).2.1 (b9 j bj dh gD ((aL j.ab oqd az).g bZ.toNat) cA).2.2.1 (b9 j bj dh gD ((aL j.ab oqd az).g bZ.toNat) cA).2.2.2) else Sum.inl (bj,dh,gD))
theorem vw {d:Nat} {h:aC} (cA:Int) (z2:AV) (j:cx) (oqd:List Int) (az:List Bool) (pqN:Nat) (sqN:Nat) (tqN:Nat) (tqF:Bool) (au:List Int) (aX:List Tl) (bk:Nat) (cG:Nat) (gS:Nat) (jj:Nat) (bx:b8 h .i64 3 z2 (aL j.ab oqd az)) (cZ:aW h j.aw j.ab) (fj:aW h j.ao j.af) (g5:aR.ok h j) (hF:b5 j) (je:az.length=j.ab.length) (mI:au.length=j.ab.length) (nq:aX.length=j.af.length) (pF:∀q,q<oqd.length→0≤oqd.g q∧oqd.g q<(j.ab.length:Int)) (pY:∀i,i<au.length→0≤au.g i∧au.g i+(j.ab.g i).takes≤100000) (z6:QI j 0 aX) (C6:0≤cA) (Ez:cA≤100000) (IA:oqd.length≤64) (yZ:∀q,q<(aL j.ab oqd az).length→0≤(aL j.ab oqd az).g q∧(aL j.ab oqd az).g q<(j.ab.length:Int)) (Po:(aL j.ab oqd az).length≤64) (Pp:pqN=j.ab.length) (aaA:sqN=j.ab.length) (aaB:tqN=j.af.length) (ch:Tidy h) (uo:h.get bk=none) (GK:h.get cG=none) (Ra:h.get gS=none) (Zh:h.get jj=none) (qS:cG≠bk) (zX:gS≠bk) (zY:gS≠cG) (GM:jj≠bk) (GN:jj≠cG) (GO:jj≠gS):∀(k_:Nat) (bZ:Int) (bj:List Bool) (dh:List Int) (gD:List Tl) (_:(((aL j.ab oqd az).length:Nat):Int) - bZ≤(k_:Int)) (_:(((0:Int)≤1)∧(0≤bZ∧bZ≤((aL j.ab oqd az).length:Int)∧(∀ii,ii<(dh).length→0≤(dh).g ii∧(dh).g ii+(j.ab.g ii).takes≤100000)∧QI j bZ (gD)))) (x:Nat→AV) (hh:aC) (aI:Tidy hh) (aE:Has h hh) (gC:h.nx≤hh.nx) (jh:bj.length=pqN) (wM:dh.length=sqN) (OG:gD.length=tqN) (br:hh.get bk=some (aM.cells (bs bj) 4 false)) (dK:hh.get cG=some (aM.cells (zs .i64 dh) 3 false)) (kA:hh.get gS=some (aM.cells (jV gD) 128 false)) (mh:hh.get jj=some (aM.cells [j.aw,j.ao,(AV.slice bk 0 pqN pqN false),(AV.slice cG 0 sqN sqN false),(AV.slice gS 0 tqN tqN tqF)] 78 false)),bS (σ:=List Bool×List Int×List Tl) (ρ:=Bool×List Bool×List Int×List Tl) (cN (d+5)) HL ⟨((x 0)::(x 1)::(Zi cA)::(Pt jj)::rx x 4 11 (z2::(Zn (aL j.ab oqd az).length)::(Zi bZ)::rx x 18 9 [])),hh,[],.no⟩ (.exit 0) hh (fun r z y=>((y 0)::(y 1)::(Zi cA)::(Pt jj)::rx y 4 11 (z2::(Zn (aL j.ab oqd az).length)::rx y 17 10 []))) (fun r z y=>((y 0)::(y 1)::(Zi cA)::(Pt jj)::(y 4)::(y 5)::(AV.bool r.1)::rx y 7 8 (z2::(Zn (aL j.ab oqd az).length)::rx y 17 10 []))) (fun r z hk=>Has h hk∧hk.get bk=some (aM.cells (bs r.1) 4 false)∧hk.get cG=some (aM.cells (zs .i64 r.2.1) 3 false)∧hk.get gS=some (aM.cells (jV r.2.2) 128 false)∧hk.get jj=some (aM.cells [j.aw,j.ao,(AV.slice bk 0 pqN pqN false),(AV.slice cG 0 sqN sqN false),(AV.slice gS 0 tqN tqN tqF)] 78 false)∧r.1.length=pqN∧r.2.1.length=sqN∧r.2.2.length=tqN∧((0:Int)≤1)) (fun r z hk=>Has h hk∧hk.get bk=some (aM.cells (bs r.2.1) 4 false)∧r.2.1.length=pqN∧hk.get cG=some (aM.cells (zs .i64 r.2.2.1) 3 false)∧r.2.2.1.length=sqN∧hk.get gS=some (aM.cells (jV r.2.2.2) 128 false)∧r.2.2.2.length=tqN) (fM j oqd az cA k_ bZ bj dh gD)
 | 0,bZ,bj,dh,gD,fX,fG,x,hh,aI,aE,gC,jh,wM,OG,br,dK,kA,mh=>by
   have q1:(decide (bZ<(((aL j.ab oqd az).length:Nat):Int)))=false:=d!
   exact bS.out (bj,dh,gD) AV.undef rfl (pk (d+5) _ _ hh _ hh (VV (bL 3 false false .i64 bZ (((aL j.ab oqd az).length:Nat):Int))<|BB q1<|ZZ) k!) aI o! ⟨aE,br,dK,kA,mh,l!,l!,l!,(show ((0:Int)≤1) from oO)⟩ k!
 | dq+1,bZ,bj,dh,gD,fX,fG,x,hh,aI,aE,gC,jh,wM,OG,br,dK,kA,mh=>by
   have gT:=bx.small
   have nz:=cZ.small
   have uw:=fj.small
   have sU:=aI _ _ br
   have Lw:=aI _ _ dK
   have Zk:=aI _ _ kA
   have ac9:=aI _ _ mh
   have nt_:=hF.nt
   have tb_:=yZ bZ.toNat
   have dJ:=fun {al ps} (k:Pk al _ ps)=>(VV (bL 3 false false .i64 bZ (((aL j.ab oqd az).length:Nat):Int))<|k:Pk _ [] ps)
   rcases Bool.eq_false_or_eq_true (decide (bZ<(((aL j.ab oqd az).length:Nat):Int))) with f0 | f0
   · have jf:=of_decide_eq_true f0
     obtain ⟨p3,q4,cC,_⟩:=bx.elem (i:=bZ.toNat) o!
     have iW:bO env (some (.slice 3)) (some z2) (some (Zi bZ))=some (AV.ptr p3 q4):=by rw[show (bZ:Int)=((bZ.toNat:Nat):Int) by omega];exact cC
     have jY:bh env hh 3 (AV.ptr p3 q4)=some (Zi ((aL j.ab oqd az).g bZ.toNat)):=(bx.has aE).load o! cC
     obtain ⟨hw6,Ow,Y',GD,GF,rY⟩:=dz aI br
     have Ox:Has h hw6:=bG aE jy rY
     obtain ⟨hw7,aaX,ahC,Sg,Sh,xK⟩:=dz Ow ((rY _ o!).trans dK)
     have HM:hw7.get bk=none:=(xK _ o!).trans GD
     have UA:Has h hw7:=bG Ox jy xK
     obtain ⟨Zf,GJ,Q',zV,zW,kJ⟩:=dz aaX ((xK _ o!).trans ((rY _ o!).trans kA))
     have aaY:Zf.get bk=none:=(kJ _ o!).trans HM
     have aaZ:Zf.get cG=none:=(kJ _ o!).trans Sg
     have TM:Has h Zf:=bG UA jy kJ
     obtain ⟨h9,Zg,uq,VG,wK,Lv,Q7,aa0,ani,aa1,anj⟩:=Wk (d:=d+1) (h:=Zf) (pqN:=pqN) (sqN:=sqN) (tqN:=tqN) (tqF:=tqF) j bj dh gD ((aL j.ab oqd az).g bZ.toNat) cA (aR.mono TM g5) br l! aaY dK l! aaZ kA l! zV bI bI bI bI bI bI bI bI bI bI bI bI bI o! o! o! GJ aI (zW.trans (Sh.trans GF)) o!
     have aof:=HA j bj dh gD ((aL j.ab oqd az).g bZ.toNat) cA bI bI bI bI bI bI bI bI
     have mJ:Has h h9:=(TM.trans wK)
     have hX:=fun {al ps} (k:Pk al _ ps)=>(dJ<|BV f0 iW<|MM jY<|CC<|MM (aO 78 0 (AV.agg [j.aw,j.ao,(AV.slice bk 0 pqN pqN false),(AV.slice cG 0 sqN sqN false),(AV.slice gS 0 tqN tqN tqF)]) mh k!)<|CN 2<|EE Zg<|CC<|k:Pk _ [] ps)
     rcases Bool.eq_false_or_eq_true (!((b9 j bj dh gD ((aL j.ab oqd az).g bZ.toNat) cA).1)) with f1 | f1
     · exact bS.ret (false,(b9 j bj dh gD ((aL j.ab oqd az).g bZ.toNat) cA).2.1,(b9 j bj dh gD ((aL j.ab oqd az).g bZ.toNat) cA).2.2.1,(b9 j bj dh gD ((aL j.ab oqd az).g bZ.toNat) cA).2.2.2) AV.undef (by simp only[fM,f0,f1,aj,ai]) (pk (d+5) _ _ hh _ h9 (hX<|BC f1<|ZZ) k!) uq o! ⟨mJ,Lv,l!,aa0,l!,aa1,l!⟩ k!
     · have w11:IntKind.i64.wrap (bZ+1)=bZ+1:=wrap_i64 o! o!
       exact bS.round (by simp only[fM,f0,f1,aj,ai]) (pk (d+5) _ _ hh _ h9 (hX<|BV f1 (qG 3 false true w11)<|CC<|ZZ) k!) o! _ k! (fun x=>vw cA z2 j oqd az pqN sqN tqN tqF au aX bk cG gS jj bx cZ fj g5 hF je mI nq pF pY z6 C6 Ez IA yZ Po Pp aaA aaB ch uo GK Ra Zh qS zX zY GM GN GO dq (bZ+1) (b9 j bj dh gD ((aL j.ab oqd az).g bZ.toNat) cA).2.1 (b9 j bj dh gD ((aL j.ab oqd az).g bZ.toNat) cA).2.2.1 (b9 j bj dh gD ((aL j.ab oqd az).g bZ.toNat) cA).2.2.2 oO (show (((0:Int)≤1)∧(0≤(bZ+1)∧(bZ+1)≤((aL j.ab oqd az).length:Int)∧(∀ii,ii<((b9 j bj dh gD ((aL j.ab oqd az).g bZ.toNat) cA).2.2.1).length→0≤((b9 j bj dh gD ((aL j.ab oqd az).g bZ.toNat) cA).2.2.1).g ii∧((b9 j bj dh gD ((aL j.ab oqd az).g bZ.toNat) cA).2.2.1).g ii+(j.ab.g ii).takes≤100000)∧QI j (bZ+1) (b9 j bj dh gD ((aL j.ab oqd az).g bZ.toNat) cA).2.2.2)) from oO) x h9 uq mJ o! l! l! l! Lv aa0 aa1 (wK _ _ ((kJ _ o!).trans ((xK _ o!).trans ((rY _ o!).trans mh)))))
   · exact bS.out (bj,dh,gD) AV.undef (by simp only[fM,f0,aj,ai]) (pk (d+5) _ _ hh _ hh (dJ<|BB f0<|ZZ) k!) aI o! ⟨aE,br,dK,kA,mh,l!,l!,l!,(show ((0:Int)≤1) from oO)⟩ k!
def ep (j:cx) (az:List Bool) (au:List Int) (aX:List Tl) (oqd:List Int) (cA:Int):Bool×List Bool×List Int×List Tl:=(match (fM j oqd az cA ((((aL j.ab oqd az).length:Nat):Int) - 0).toNat 0 az au aX) with | Sum.inl Si=>(true,Si.1,Si.2.1,Si.2.2) | Sum.inr EO=>(EO.1,EO.2.1,EO.2.2.1,EO.2.2.2))
theorem Mx {d:Nat} {h hh:aC} {bt:AV} {aZ pqN bf sqN tqB tqN:Nat} {tqF:Bool} (j:cx) (az:List Bool) (au:List Int) (aX:List Tl) (oqd:List Int) (cA:Int) (bV:aR.ok h j) (eC:b8 h .i64 3 bt oqd) (b6:hh.get aZ=some (aM.cells (bs az) 4 false)) (s4:az.length=pqN) (wR:h.get aZ=none) (cj:hh.get bf=some (aM.cells (zs .i64 au) 3 false)) (wV:au.length=sqN) (wX:h.get bf=none) (eA:hh.get tqB=some (aM.cells (jV aX) 128 false)) (JS:aX.length=tqN) (JT:h.get tqB=none) (l6:b5 j) (om:az.length=j.ab.length) (yD:au.length=j.ab.length) (zR:aX.length=j.af.length) (Ex:∀q,q<oqd.length→0≤oqd.g q∧oqd.g q<(j.ab.length:Int)) (Ri:∀i,i<au.length→0≤au.g i∧au.g i+(j.ab.g i).takes≤100000) (pre6:QI j 0 aX) (Rj:0≤cA) (Zt:cA≤100000) (OI:oqd.length≤64) (Zu:bf≠aZ) (ajU:tqB≠aZ) (ajV:tqB≠bf) (ch:Tidy h) (aI:Tidy hh) (aE:Has h hh) (gC:h.nx≤hh.nx):∃hk,cN (d+6) (.fn 19) [(AV.agg [j.aw,j.ao,(AV.slice aZ 0 pqN pqN false),(AV.slice bf 0 sqN sqN false),(AV.slice tqB 0 tqN tqN tqF)]),bt,(Zi cA)] hh= .ret (AV.bool (ep j az au aX oqd cA).1) hk∧Tidy hk∧hh.nx≤hk.nx∧Has h hk∧hk.get aZ=some (aM.cells (bs (ep j az au aX oqd cA).2.1) 4 false)∧((ep j az au aX oqd cA).2.1).length=pqN∧hk.get bf=some (aM.cells (zs .i64 (ep j az au aX oqd cA).2.2.1) 3 false)∧((ep j az au aX oqd cA).2.2.1).length=sqN∧hk.get tqB=some (aM.cells (jV (ep j az au aX oqd cA).2.2.2) 128 false)∧((ep j az au aX oqd cA).2.2.2).length=tqN:=by
 have s9:=eC.small
 have kb:=bV.1.small
 have kf:=bV.2.small
 have wY:=aI _ _ b6
 have wZ:=aI _ _ cj
 have JU:=aI _ _ eA
 obtain ⟨h1,di,cS,jU,bm,bP⟩:=jE aI (aM.cells [j.aw,j.ao,(AV.slice aZ 0 pqN pqN false),(AV.slice bf 0 sqN sqN false),(AV.slice tqB 0 tqN tqN tqF)] 78 false)
 have bA:Has h h1:=aE.trans bP
 obtain ⟨z2,h4,ahD,f_,fz3,ahE⟩:=uF (d:=d) j.ab oqd az aZ pqN false (bV.1.has bA) (eC.has bA) (bP _ _ b6) l! o! bI bI bI bI bI cS
 have lI:=f_.y
 have ZP:h1.nx≤h4.nx:=f_.n
 have jC:Has h h4:=bA.trans f_.a
 have akB:=fz3.small
 have akC:=rf j.ab oqd az bI
 have ln5:cb (some (.slice 3)) (some z2)=some (Zn (aL j.ab oqd az).length):=fz3.len
 obtain ⟨Zf,GJ,Q',zV,zW,kJ⟩:=dz lI (f_.a _ _ (bP _ _ b6))
 have HN:Has h Zf:=bG jC jy kJ
 obtain ⟨hw9,aa2,ahF,Sj,Sk,sr⟩:=dz GJ ((kJ _ o!).trans (f_.a _ _ (bP _ _ cj)))
 have HO:hw9.get aZ=none:=(sr _ o!).trans zV
 have HQ:Has h hw9:=bG HN jy sr
 obtain ⟨PG,Sl,adZ,UC,My,oP⟩:=dz aa2 ((sr _ o!).trans ((kJ _ o!).trans (f_.a _ _ (bP _ _ eA))))
 have Kf:PG.get aZ=none:=(oP _ o!).trans HO
 have Kg:PG.get bf=none:=(oP _ o!).trans Sj
 have oC:Has h PG:=bG HQ jy oP
 obtain ⟨OH,Rg,adn,TS,LC,nB⟩:=dz Sl ((oP _ o!).trans ((sr _ o!).trans ((kJ _ o!).trans (f_.a _ _ bm))))
 have aiz:OH.get aZ=none:=(nB _ o!).trans Kf
 have aiA:OH.get bf=none:=(nB _ o!).trans Kg
 have aiB:OH.get tqB=none:=(nB _ o!).trans UC
 have tv:Has h OH:=bG oC jy nB
 have ow:=fun {al ps} (k:Pk al _ ps)=>(NN di (fun i=>(Pt i))<|CN 3<|MM (aO 22 0 j.aw bm k!)<|CN 2<|MM (aO 75 2 (AV.slice aZ 0 pqN pqN false) bm k!)<|EE ahD<|VV ln5<|CC<|k:Pk _ [] ps)
 have lp4:=vw (d:=d) (h:=OH) cA z2 j oqd az pqN sqN tqN tqF au aX aZ bf tqB hh.nx (hU.zs (hU.wo (hU.wo (hU.wo (hU.wo ahE kJ o!) sr o!) oP o!) nB o!) o! k! k!) (bV.1.has tv) (bV.2.has tv) (aR.mono tv bV) (by assumption) (by assumption) (by assumption) (by assumption) (by assumption) (by assumption) (by assumption) (by assumption) (by assumption) (by assumption) (rf j.ab oqd az (by assumption)).2 (Nat.le_trans (rf j.ab oqd az (by assumption)).1 o!) o! o! o! Rg (by assumption) (by assumption) (by assumption) (by assumption) o! o! o! o! o! o! ((((aL j.ab oqd az).length:Nat):Int) - 0).toNat 0 az au aX o! (show (((0:Int)≤1)∧(0≤0∧0≤((aL j.ab oqd az).length:Int)∧(∀ii,ii<(au).length→0≤(au).g ii∧(au).g ii+(j.ab.g ii).takes≤100000)∧QI j 0 (aX))) from ⟨by omega,by omega,by omega,(by assumption),(by assumption)⟩) (fun k_=>(((AV.agg [j.aw,j.ao,(AV.slice aZ 0 pqN pqN false),(AV.slice bf 0 sqN sqN false),(AV.slice tqB 0 tqN tqN tqF)])::bt::(Zi cA)::(Pt hh.nx)::AV.undef::AV.undef::(AV.bool false)::AV.undef::AV.undef::(Pt hh.nx)::(Pt hh.nx)::j.aw::bt::(AV.ptr hh.nx 2)::(AV.slice aZ 0 pqN pqN false)::z2::(Zn (aL j.ab oqd az).length)::(Zi 0)::jX 9):List AV).getD k_ AV.undef) h4 lI (LC.trans (My.trans (Sk.trans zW))) o! l! l! l! (f_.a _ _ (bP _ _ b6)) (f_.a _ _ (bP _ _ cj)) (f_.a _ _ (bP _ _ eA)) (f_.a _ _ bm)
 cases ko:fM j oqd az cA ((((aL j.ab oqd az).length:Nat):Int) - 0).toNat 0 az au aX with
 | inl Si=>
   obtain ⟨ank,yl6,h7,lu,eP,VF,sW,Dr,HR,Sm,anl,Q5,ahG,anm,UD⟩:=bS.n ko lp4
   have dm:Has h h7:=(tv.trans sW)
   have e:ep j az au aX oqd cA=(true,Si.1,Si.2.1,Si.2.2):=by simp only[ep,ko,aj,ai]
   rw[e]
   exact gB rfl (bb Tryz.func19 Cd rfl (.inr rfl) (pk (d+5) _ _ hh _ h7 (ow<|LL lu<|CC<|ZZ) k!) k!) aI eP o! ⟨dm,Dr,l!,HR,l!,Sm,l!⟩ (fun q=>⟨aE,dc q b6 Dr,l!,dc q cj HR,l!,dc q eA Sm,l!⟩)
 | inr EO=>
   obtain ⟨ank,yl6,h7,lu,eP,VF,sW,HS,ahH,HU,ahI,aa3,ann⟩:=bS.r ko lp4
   have dm:Has h h7:=(tv.trans sW)
   have e:ep j az au aX oqd cA=(EO.1,EO.2.1,EO.2.2.1,EO.2.2.2):=by simp only[ep,ko,aj,ai]
   rw[e]
   exact gB rfl (bb Tryz.func19 Cd rfl (.inr rfl) (pk (d+5) _ _ hh _ h7 (ow<|LL lu<|ZZ) k!) k!) aI eP o! ⟨dm,HS,l!,HU,l!,aa3,l!⟩ (fun q=>⟨aE,dc q b6 HS,l!,dc q cj HU,l!,dc q eA aa3,l!⟩)
theorem bN {p:Prop} (h:p:=by first | omega | assumption | exact (show b5 j from by assumption).nb | exact (show b5 j from by assumption).tk | exact Nat.le_trans (show b5 j from by assumption).nt (by decide) | exact (show b5 j from by assumption).u0 o! o! | exact fG.2.2.2):p:=h
theorem nQ {p:Prop} (h:p:=by first | omega | exact ⟨by omega,by omega,by omega,aaJ (by assumption) o!⟩):p:=h
theorem lx {p:Prop} (h:p:=by first | assumption | exact ij ch o!):p:=h
def tw:Code:=(Tryz.f19.body).getD .skip
theorem zh:Tryz.f19.body=some tw:=by kernel_rfl
def EV:Code:=(bw tw).getD 0 .skip
def fl (j:cx) (oqd:List Int) (az:List Bool) (cA:Int):Nat→Int→List Bool→List Int→(List Bool×List Int)⊕(Bool×List Bool×List Int)
 | 0,bZ,bj,dh=>Sum.inl (bj,dh)
 | dq+1,bZ,bj,dh=>(bif (decide (bZ<(((aL j.ab oqd az).length:Nat):Int))) then (bif (!((dN j bj dh ((aL j.ab oqd az).g bZ.toNat) cA).1)) then Sum.inr (false,(dN j bj dh ((aL j.ab oqd az).g bZ.toNat) cA).2.1,(dN j bj dh ((aL j.ab oqd az).g bZ.toNat) cA).2.2) else fl j oqd az cA dq (bZ+1) (dN j bj dh ((aL j.ab oqd az).g bZ.toNat) cA).2.1 (dN j bj dh ((aL j.ab oqd az).g bZ.toNat) cA).2.2) else Sum.inl (bj,dh))
theorem tx {d:Nat} {h:aC} (cA:Int) (z2:AV) (j:cx) (oqd:List Int) (az:List Bool) (pqN:Nat) (sqN:Nat) (au:List Int) (bk:Nat) (cG:Nat) (gS:Nat) (bx:b8 h .i64 3 z2 (aL j.ab oqd az)) (cZ:aW h j.aw j.ab) (fj:aW h j.ao j.af) (g5:aR.ok h j) (hF:b5 j) (je:j.af.length=0) (mI:az.length=j.ab.length) (nq:au.length=j.ab.length) (pF:∀q,q<oqd.length→0≤oqd.g q∧oqd.g q<(j.ab.length:Int)) (pY:∀i,i<au.length→0≤au.g i∧au.g i+(j.ab.g i).takes≤100000) (z6:0≤cA) (C6:cA≤100000) (Ez:oqd.length≤64) (IA:∀q,q<(aL j.ab oqd az).length→0≤(aL j.ab oqd az).g q∧(aL j.ab oqd az).g q<(j.ab.length:Int)) (yZ:(aL j.ab oqd az).length≤64) (Po:pqN=j.ab.length) (Pp:sqN=j.ab.length) (ch:Tidy h) (uo:h.get bk=none) (GK:h.get cG=none) (Ra:h.get gS=none) (qS:cG≠bk) (zX:gS≠bk) (zY:gS≠cG):∀(k_:Nat) (bZ:Int) (bj:List Bool) (dh:List Int) (_:(((aL j.ab oqd az).length:Nat):Int) - bZ≤(k_:Int)) (_:(((0:Int)≤1)∧(0≤bZ∧bZ≤((aL j.ab oqd az).length:Int)∧(∀ii,ii<(dh).length→0≤(dh).g ii∧(dh).g ii+(j.ab.g ii).takes≤100000)))) (x:Nat→AV) (hh:aC) (aI:Tidy hh) (aE:Has h hh) (gC:h.nx≤hh.nx) (jh:bj.length=pqN) (wM:dh.length=sqN) (br:hh.get bk=some (aM.cells (bs bj) 4 false)) (dK:hh.get cG=some (aM.cells (zs .i64 dh) 3 false)) (kA:hh.get gS=some (aM.cells [j.aw,j.ao,(AV.slice bk 0 pqN pqN false),(AV.slice cG 0 sqN sqN false),AV.aG] 78 false)),bS (σ:=List Bool×List Int) (ρ:=Bool×List Bool×List Int) (cN (d+5)) EV ⟨((x 0)::(x 1)::(Zi cA)::(Pt gS)::rx x 4 11 (z2::(Zn (aL j.ab oqd az).length)::(Zi bZ)::rx x 18 9 [])),hh,[],.no⟩ (.exit 0) hh (fun r z y=>((y 0)::(y 1)::(Zi cA)::(Pt gS)::rx y 4 11 (z2::(Zn (aL j.ab oqd az).length)::rx y 17 10 []))) (fun r z y=>((y 0)::(y 1)::(Zi cA)::(Pt gS)::(y 4)::(y 5)::(AV.bool r.1)::rx y 7 8 (z2::(Zn (aL j.ab oqd az).length)::rx y 17 10 []))) (fun r z hk=>Has h hk∧hk.get bk=some (aM.cells (bs r.1) 4 false)∧hk.get cG=some (aM.cells (zs .i64 r.2) 3 false)∧hk.get gS=some (aM.cells [j.aw,j.ao,(AV.slice bk 0 pqN pqN false),(AV.slice cG 0 sqN sqN false),AV.aG] 78 false)∧r.1.length=pqN∧r.2.length=sqN∧((0:Int)≤1)) (fun r z hk=>Has h hk∧hk.get bk=some (aM.cells (bs r.2.1) 4 false)∧r.2.1.length=pqN∧hk.get cG=some (aM.cells (zs .i64 r.2.2) 3 false)∧r.2.2.length=sqN) (fl j oqd az cA k_ bZ bj dh)
 | 0,bZ,bj,dh,fX,fG,x,hh,aI,aE,gC,jh,wM,br,dK,kA=>by
   have q1:(decide (bZ<(((aL j.ab oqd az).length:Nat):Int)))=false:=d!
   exact bS.out (bj,dh) AV.undef rfl (pk (d+5) _ _ hh _ hh (VV (bL 3 false false .i64 bZ (((aL j.ab oqd az).length:Nat):Int))<|BB q1<|ZZ) k!) aI o! ⟨aE,br,dK,kA,l!,l!,(show ((0:Int)≤1) from nQ)⟩ k!
 | dq+1,bZ,bj,dh,fX,fG,x,hh,aI,aE,gC,jh,wM,br,dK,kA=>by
   have gT:=bx.small
   have nz:=cZ.small
   have uw:=fj.small
   have sU:=aI _ _ br
   have Lw:=aI _ _ dK
   have Zk:=aI _ _ kA
   have nt_:=hF.nt
   have tb_:=IA bZ.toNat
   have dJ:=fun {al ps} (k:Pk al _ ps)=>(VV (bL 3 false false .i64 bZ (((aL j.ab oqd az).length:Nat):Int))<|k:Pk _ [] ps)
   rcases Bool.eq_false_or_eq_true (decide (bZ<(((aL j.ab oqd az).length:Nat):Int))) with f0 | f0
   · have jf:=of_decide_eq_true f0
     obtain ⟨p3,q4,cC,_⟩:=bx.elem (i:=bZ.toNat) o!
     have iW:bO env (some (.slice 3)) (some z2) (some (Zi bZ))=some (AV.ptr p3 q4):=by rw[show (bZ:Int)=((bZ.toNat:Nat):Int) by omega];exact cC
     have jY:bh env hh 3 (AV.ptr p3 q4)=some (Zi ((aL j.ab oqd az).g bZ.toNat)):=(bx.has aE).load o! cC
     obtain ⟨hw6,Ow,Y',GD,GF,rY⟩:=dz aI br
     have Ox:Has h hw6:=bG aE lx rY
     obtain ⟨hw7,aaX,ahC,Sg,Sh,xK⟩:=dz Ow ((rY _ o!).trans dK)
     have HM:hw7.get bk=none:=(xK _ o!).trans GD
     have UA:Has h hw7:=bG Ox lx xK
     obtain ⟨h8,ano,sa,aoD,afh,aa4,anp,aa5,anq⟩:=Sa (d:=d+1) (h:=hw7) (pqN:=pqN) (sqN:=sqN) j bj dh ((aL j.ab oqd az).g bZ.toNat) cA (aR.mono UA g5) br l! HM dK l! Sg bN bN bN bN bN bN bN bN bN bN o! aaX aI (Sh.trans GF) o!
     have aog:=Px j bj dh ((aL j.ab oqd az).g bZ.toNat) cA bN bN bN bN bN bN bN bN
     have o9:Has h h8:=(UA.trans afh)
     have hX:=fun {al ps} (k:Pk al _ ps)=>(dJ<|BV f0 iW<|MM jY<|CC<|MM (aO 78 0 (AV.agg [j.aw,j.ao,(AV.slice bk 0 pqN pqN false),(AV.slice cG 0 sqN sqN false),AV.aG]) kA k!)<|CN 2<|EE ano<|CC<|k:Pk _ [] ps)
     rcases Bool.eq_false_or_eq_true (!((dN j bj dh ((aL j.ab oqd az).g bZ.toNat) cA).1)) with f1 | f1
     · exact bS.ret (false,(dN j bj dh ((aL j.ab oqd az).g bZ.toNat) cA).2.1,(dN j bj dh ((aL j.ab oqd az).g bZ.toNat) cA).2.2) AV.undef (by simp only[fl,f0,f1,aj,ai]) (pk (d+5) _ _ hh _ h8 (hX<|BC f1<|ZZ) k!) sa o! ⟨o9,aa4,l!,aa5,l!⟩ k!
     · have w10:IntKind.i64.wrap (bZ+1)=bZ+1:=wrap_i64 o! o!
       exact bS.round (by simp only[fl,f0,f1,aj,ai]) (pk (d+5) _ _ hh _ h8 (hX<|BV f1 (qG 3 false true w10)<|CC<|ZZ) k!) o! _ k! (fun x=>tx cA z2 j oqd az pqN sqN au bk cG gS bx cZ fj g5 hF je mI nq pF pY z6 C6 Ez IA yZ Po Pp ch uo GK Ra qS zX zY dq (bZ+1) (dN j bj dh ((aL j.ab oqd az).g bZ.toNat) cA).2.1 (dN j bj dh ((aL j.ab oqd az).g bZ.toNat) cA).2.2 nQ (show (((0:Int)≤1)∧(0≤(bZ+1)∧(bZ+1)≤((aL j.ab oqd az).length:Int)∧(∀ii,ii<((dN j bj dh ((aL j.ab oqd az).g bZ.toNat) cA).2.2).length→0≤((dN j bj dh ((aL j.ab oqd az).g bZ.toNat) cA).2.2).g ii∧((dN j bj dh ((aL j.ab oqd az).g bZ.toNat) cA).2.2).g ii+(j.ab.g ii).takes≤100000))) from nQ) x h8 sa o9 o! l! l! aa4 aa5 (afh _ _ ((xK _ o!).trans ((rY _ o!).trans kA))))
   · exact bS.out (bj,dh) AV.undef (by simp only[fl,f0,aj,ai]) (pk (d+5) _ _ hh _ hh (dJ<|BB f0<|ZZ) k!) aI o! ⟨aE,br,dK,kA,l!,l!,(show ((0:Int)≤1) from nQ)⟩ k!
def ef (j:cx) (az:List Bool) (au:List Int) (oqd:List Int) (cA:Int):Bool×List Bool×List Int:=(match (fl j oqd az cA ((((aL j.ab oqd az).length:Nat):Int) - 0).toNat 0 az au) with | Sum.inl Si=>(true,Si.1,Si.2) | Sum.inr EO=>(EO.1,EO.2.1,EO.2.2))
theorem I5 {d:Nat} {h hh:aC} {bt:AV} {aZ pqN bf sqN:Nat} (j:cx) (az:List Bool) (au:List Int) (oqd:List Int) (cA:Int) (bV:aR.ok h j) (eC:b8 h .i64 3 bt oqd) (b6:hh.get aZ=some (aM.cells (bs az) 4 false)) (s4:az.length=pqN) (wR:h.get aZ=none) (cj:hh.get bf=some (aM.cells (zs .i64 au) 3 false)) (wV:au.length=sqN) (wX:h.get bf=none) (l6:b5 j) (om:j.af.length=0) (yD:az.length=j.ab.length) (zR:au.length=j.ab.length) (Ex:∀q,q<oqd.length→0≤oqd.g q∧oqd.g q<(j.ab.length:Int)) (Ri:∀i,i<au.length→0≤au.g i∧au.g i+(j.ab.g i).takes≤100000) (pre6:0≤cA) (Rj:cA≤100000) (Zt:oqd.length≤64) (Zu:bf≠aZ) (ch:Tidy h) (aI:Tidy hh) (aE:Has h hh) (gC:h.nx≤hh.nx):∃hk,cN (d+6) (.fn 19) [(AV.agg [j.aw,j.ao,(AV.slice aZ 0 pqN pqN false),(AV.slice bf 0 sqN sqN false),AV.aG]),bt,(Zi cA)] hh= .ret (AV.bool (ef j az au oqd cA).1) hk∧Tidy hk∧hh.nx≤hk.nx∧Has h hk∧hk.get aZ=some (aM.cells (bs (ef j az au oqd cA).2.1) 4 false)∧((ef j az au oqd cA).2.1).length=pqN∧hk.get bf=some (aM.cells (zs .i64 (ef j az au oqd cA).2.2) 3 false)∧((ef j az au oqd cA).2.2).length=sqN:=by
 have s9:=eC.small
 have kb:=bV.1.small
 have kf:=bV.2.small
 have wY:=aI _ _ b6
 have wZ:=aI _ _ cj
 obtain ⟨h1,di,cS,jU,bm,bP⟩:=jE aI (aM.cells [j.aw,j.ao,(AV.slice aZ 0 pqN pqN false),(AV.slice bf 0 sqN sqN false),AV.aG] 78 false)
 have bA:Has h h1:=aE.trans bP
 obtain ⟨z2,h4,ahD,f_,fz3,ahE⟩:=uF (d:=d) j.ab oqd az aZ pqN false (bV.1.has bA) (eC.has bA) (bP _ _ b6) l! o! bN bN bN bN bN cS
 have lI:=f_.y
 have ZP:h1.nx≤h4.nx:=f_.n
 have jC:Has h h4:=bA.trans f_.a
 have akB:=fz3.small
 have akC:=rf j.ab oqd az bN
 have ln5:cb (some (.slice 3)) (some z2)=some (Zn (aL j.ab oqd az).length):=fz3.len
 obtain ⟨Zf,GJ,Q',zV,zW,kJ⟩:=dz lI (f_.a _ _ (bP _ _ b6))
 have HN:Has h Zf:=bG jC lx kJ
 obtain ⟨hw9,aa2,ahF,Sj,Sk,sr⟩:=dz GJ ((kJ _ o!).trans (f_.a _ _ (bP _ _ cj)))
 have HO:hw9.get aZ=none:=(sr _ o!).trans zV
 have HQ:Has h hw9:=bG HN lx sr
 obtain ⟨PG,Sl,adZ,UC,My,oP⟩:=dz aa2 ((sr _ o!).trans ((kJ _ o!).trans (f_.a _ _ bm)))
 have Kf:PG.get aZ=none:=(oP _ o!).trans HO
 have Kg:PG.get bf=none:=(oP _ o!).trans Sj
 have oC:Has h PG:=bG HQ lx oP
 have ow:=fun {al ps} (k:Pk al _ ps)=>(NN di (fun i=>(Pt i))<|CN 3<|MM (aO 22 0 j.aw bm k!)<|CN 2<|MM (aO 75 2 (AV.slice aZ 0 pqN pqN false) bm k!)<|EE ahD<|VV ln5<|CC<|k:Pk _ [] ps)
 have lp4:=tx (d:=d) (h:=PG) cA z2 j oqd az pqN sqN au aZ bf hh.nx (hU.zs (hU.wo (hU.wo (hU.wo ahE kJ o!) sr o!) oP o!) o! k! k!) (bV.1.has oC) (bV.2.has oC) (aR.mono oC bV) (by assumption) (by assumption) (by assumption) (by assumption) (by assumption) (by assumption) (by assumption) (by assumption) (by assumption) (rf j.ab oqd az (by assumption)).2 (Nat.le_trans (rf j.ab oqd az (by assumption)).1 o!) o! o! Sl (by assumption) (by assumption) (by assumption) o! o! o! ((((aL j.ab oqd az).length:Nat):Int) - 0).toNat 0 az au o! (show (((0:Int)≤1)∧(0≤0∧0≤((aL j.ab oqd az).length:Int)∧(∀ii,ii<(au).length→0≤(au).g ii∧(au).g ii+(j.ab.g ii).takes≤100000))) from ⟨by omega,by omega,by omega,(by assumption)⟩) (fun k_=>(((AV.agg [j.aw,j.ao,(AV.slice aZ 0 pqN pqN false),(AV.slice bf 0 sqN sqN false),AV.aG])::bt::(Zi cA)::(Pt hh.nx)::AV.undef::AV.undef::(AV.bool false)::AV.undef::AV.undef::(Pt hh.nx)::(Pt hh.nx)::j.aw::bt::(AV.ptr hh.nx 2)::(AV.slice aZ 0 pqN pqN false)::z2::(Zn (aL j.ab oqd az).length)::(Zi 0)::jX 9):List AV).getD k_ AV.undef) h4 lI (My.trans (Sk.trans zW)) o! l! l! (f_.a _ _ (bP _ _ b6)) (f_.a _ _ (bP _ _ cj)) (f_.a _ _ bm)
 cases ko:fl j oqd az cA ((((aL j.ab oqd az).length:Nat):Int) - 0).toNat 0 az au with
 | inl Si=>
   obtain ⟨anr,yl6,h7,lu,eP,VF,sW,Dr,HR,Sm,Q5,ahG,UD⟩:=bS.n ko lp4
   have dm:Has h h7:=(oC.trans sW)
   have e:ef j az au oqd cA=(true,Si.1,Si.2):=by simp only[ef,ko,aj,ai]
   rw[e]
   exact gB rfl (bb Tryz.func19 zh rfl (.inr rfl) (pk (d+5) _ _ hh _ h7 (ow<|LL lu<|CC<|ZZ) k!) k!) aI eP o! ⟨dm,Dr,l!,HR,l!⟩ (fun q=>⟨aE,dc q b6 Dr,l!,dc q cj HR,l!⟩)
 | inr EO=>
   obtain ⟨anr,yl6,h7,lu,eP,VF,sW,HS,ahH,HU,ahI⟩:=bS.r ko lp4
   have dm:Has h h7:=(oC.trans sW)
   have e:ef j az au oqd cA=(EO.1,EO.2.1,EO.2.2):=by simp only[ef,ko,aj,ai]
   rw[e]
   exact gB rfl (bb Tryz.func19 zh rfl (.inr rfl) (pk (d+5) _ _ hh _ h7 (ow<|LL lu<|ZZ) k!) k!) aI eP o! ⟨dm,HS,l!,HU,l!⟩ (fun q=>⟨aE,dc q b6 HS,l!,dc q cj HU,l!⟩)
def xL:Code:=(Tryz.f17.body).getD .skip
theorem xM:Tryz.f17.body=some xL:=by kernel_rfl
def I6:Code:=(bw xL).getD 0 .skip
def dS (oqd:List Int) (n:Int):Nat→Nat→List Bool→(List Bool)⊕(Bool)
 | 0,_,bj=>Sum.inl bj
 | dq+1,i0,bj=>(bif (!(iU (oqd.g i0) n)) then Sum.inr false else (bif (bj.g (oqd.g i0).toNat) then Sum.inr false else dS oqd n dq (i0+1) (bj.set (oqd.g i0).toNat true)))
theorem xN {d:Nat} {h:aC} (n:Int) (bt:AV) (oqd:List Int) (bk:Nat) (bx:b8 h .i64 3 bt oqd) (hF:0≤n) (je:n≤100000) (ch:Tidy h) (uo:h.nx≤bk):∀(k_ i_:Nat) (bj:List Bool) (_:i_+k_=oqd.length) (x:Nat→AV) (hh:aC) (aI:Tidy hh) (aE:Has h hh) (gC:h.nx≤hh.nx) (jh:bj.length=n.toNat) (br:hh.get bk=some (aM.cells (bs bj) 4 false)),bS (σ:=List Bool) (ρ:=Bool) (cN (d+1)) I6 ⟨((x 0)::(Zi n)::rx x 2 3 ((AV.slice bk 0 n.toNat n.toNat false)::rx x 6 8 (bt::(Zn oqd.length)::(Zn i_)::rx x 17 17 []))),hh,[],.no⟩ (.exit 0) hh (fun r z y=>((y 0)::(Zi n)::rx y 2 3 ((AV.slice bk 0 n.toNat n.toNat false)::rx y 6 8 (bt::(Zn oqd.length)::rx y 16 18 [])))) (fun r z y=>((y 0)::(Zi n)::(y 2)::(y 3)::(AV.bool r)::(AV.slice bk 0 n.toNat n.toNat false)::rx y 6 8 (bt::(Zn oqd.length)::rx y 16 18 []))) (fun r z hk=>Has h hk∧hk.get bk=some (aM.cells (bs r) 4 false)∧r.length=n.toNat) (fun r z hk=>Has h hk) (dS oqd n k_ i_ bj)
 | 0,i0,bj,fX,x,hh,aI,aE,gC,jh,br=>by
   have q1:(decide (((i0:Nat):Int)<((oqd.length:Nat):Int)))=false:=d!
   exact bS.out bj AV.undef rfl (pk (d+1) _ _ hh _ hh (VV (bL 3 false false .i64 ((i0:Nat):Int) ((oqd.length:Nat):Int))<|BB q1<|ZZ) k!) aI o! ⟨aE,br,l!⟩ k!
 | dq+1,i0,bj,fX,x,hh,aI,aE,gC,jh,br=>by
   have gT:=bx.small
   have sU:=aI _ _ br
   have q1:(decide (((i0:Nat):Int)<((oqd.length:Nat):Int)))=true:=d!
   obtain ⟨p3,q4,cC,_⟩:=bx.elem (i:=i0) o!
   have iW:bO env (some (.slice 3)) (some bt) (some (Zn i0))=some (AV.ptr p3 q4):=cC
   have jY:bh env hh 3 (AV.ptr p3 q4)=some (Zi (oqd.g i0)):=(bx.has aE).load o! cC
   have k6:=G_ (d:=d) (oqd.g i0) n aI
   have dJ:=fun {al ps} (k:Pk al _ ps)=>(VV (bL 3 false false .i64 ((i0:Nat):Int) ((oqd.length:Nat):Int))<|BV q1 iW<|MM jY<|CN 3<|EE k6<|CN 2<|k:Pk _ [] ps)
   rcases Bool.eq_false_or_eq_true (!(iU (oqd.g i0) n)) with f1 | f1
   · exact bS.ret false AV.undef (by simp only[dS,f1,aj,ai]) (pk (d+1) _ _ hh _ hh (dJ<|BB f1<|BB f1<|BB f1<|BV f1 (yA true f1)<|TT<|CC<|ZZ) k!) aI o! aE k!
   · have ans:(iU (oqd.g i0) n)=true:=d!
     have alp:=qm ans
     have LB:bO env (some (.slice 4)) (some (AV.slice bk 0 n.toNat n.toNat false)) (some (Zi (oqd.g i0)))=some (AV.ptr bk (oqd.g i0).toNat):=jc k! (show (oqd.g i0).toNat<n.toNat by omega) o!
     have I3:bh env hh 4 (AV.ptr bk (oqd.g i0).toNat)=some (AV.bool (bj.g (oqd.g i0).toNat)):=TE k! br l!
     have hX:=fun {al ps} (k:Pk al _ ps)=>(dJ<|BC f1<|BC f1<|BV f1 LB<|BM f1 I3<|VV (cf (a:=some (AV.bool true)) (b:=some (AV.bool (bj.g (oqd.g i0).toNat))) f1)<|k:Pk _ [] ps)
     rcases Bool.eq_false_or_eq_true (bj.g (oqd.g i0).toNat) with f2 | f2
     · exact bS.ret false AV.undef (by simp only[dS,f1,f2,aj,ai]) (pk (d+1) _ _ hh _ hh (hX<|BC f2<|ZZ) k!) aI o! aE k!
     · have RA:bO env (some (.slice 4)) (some (AV.slice bk 0 n.toNat n.toNat false)) (some (Zi (oqd.g i0)))=some (AV.ptr bk (oqd.g i0).toNat):=jc k! (show (oqd.g i0).toNat<n.toNat by omega) o!
       obtain ⟨kV,aa6⟩:∃G4:aC,G4=hh.put bk (some (aM.cells (bs (bj.set (oqd.g i0).toNat true)) 4 false)):=⟨_,rfl⟩
       have akD:dV env hh 4 (AV.ptr bk (oqd.g i0).toNat) (AV.bool true)=some kV:=by rw[aa6];exact o6 k! br l!
       have aa7:Iv hh kV bk (aM.cells (bs (bj.set (oqd.g i0).toNat true)) 4 false):=by rw[aa6];exact jD aI br
       have jk:=aa7.1
       have aad:kV.nx=hh.nx:=by rw[aa6];rfl
       have fJ:Has h kV:=aa7.has aE ch o!
       have Z':=fi 3 false true i0 1 o!
       exact bS.round (by simp only[dS,f1,f2,aj,ai]) (pk (d+1) _ _ hh _ kV (hX<|BB f2<|CN 2<|VV RA<|SS akD<|VV Z'<|CC<|ZZ) k!) o! _ k! (fun x=>xN n bt oqd bk bx hF je ch uo dq (i0+1) (bj.set (oqd.g i0).toNat true) o! x kV jk fJ o! l! aa7.2.1)
def fB (oqd:List Int) (n:Int):Bool:=(bif (!decide (((oqd.length:Nat):Int)=n)) then false else (match (dS oqd n oqd.length 0 (List.replicate n.toNat false)) with | Sum.inl Si=>true | Sum.inr EO=>EO))
theorem Ej {d:Nat} {h:aC} {bt:AV} (oqd:List Int) (n:Int) (eC:b8 h .i64 3 bt oqd) (l6:0≤n) (om:n≤100000) (ch:Tidy h):cN (d+2) (.fn 17) [bt,(Zi n)] h= .ret (AV.bool (fB oqd n)) h:=by
 have iC:cb (some (.slice 3)) (some bt)=some (Zn oqd.length):=eC.len
 have ow:=fun {al ps} (k:Pk al _ ps)=>(CN 2<|VV iC<|CC<|VV (kS 3 false false .i64 ((oqd.length:Nat):Int) n)<|k:Pk _ [] ps)
 rcases Bool.eq_false_or_eq_true (!decide (((oqd.length:Nat):Int)=n)) with f0 | f0
 · have e:fB oqd n=false:=by simp only[fB,f0,aj,ai]
   rw[e]
   exact aH rfl (bb Tryz.func17 xM rfl (.inr rfl) (pk (d+1) _ _ h _ h (ow<|BC f0<|ZZ) k!) k!) (Has.refl _) rfl
 · have mk3:yV env (some (.slice 4)) (some (Zi n)) (some (Zi n))=some (aM.cells (bT [(AV.bool false)] n.toNat) 4 false,fun i=>AV.slice i 0 n.toNat n.toNat false):=by rw[show (n:Int)=((n.toNat:Nat):Int) by omega];exact od (bytes:=1) (z:=(AV.bool false)) k! k! k! rfl (by decide) o!
   obtain ⟨h4,IB,lI,VP,LF,xb⟩:=jE ch (aM.cells (bT [(AV.bool false)] n.toNat) 4 false)
   have jC:Has h h4:=xb
   have O8:h4.get h.nx=some (aM.cells (bs (List.replicate n.toNat false)) 4 false):=by have q:=LF;rw[zO] at q;exact q
   have ln5:cb (some (.slice 3)) (some bt)=some (Zn oqd.length):=eC.len
   have lp4:=xN (d:=d) (h:=h) n bt oqd h.nx eC o! o! ch o! oqd.length 0 (List.replicate n.toNat false) o! (fun k_=>((bt::(Zi n)::AV.undef::AV.undef::(AV.bool false)::(AV.slice h.nx 0 n.toNat n.toNat false)::AV.undef::AV.undef::bt::(Zn oqd.length)::(Zi n)::(AV.bool (!decide (((oqd.length:Nat):Int)=n)))::(Zi n)::(AV.slice h.nx 0 n.toNat n.toNat false)::bt::(Zn oqd.length)::(Zi 0)::jX 17):List AV).getD k_ AV.undef) h4 lI jC o! l! O8
   cases ko:dS oqd n oqd.length 0 (List.replicate n.toNat false) with
   | inl Si=>
     obtain ⟨zo8,yl6,h7,lu,eP,VF,sW,Dr,Q5⟩:=bS.n ko lp4
     have dm:Has h h7:=sW
     have e:fB oqd n=true:=by simp only[fB,f0,ko,aj,ai]
     rw[e]
     exact aH rfl (bb Tryz.func17 xM rfl (.inr rfl) (pk (d+1) _ _ h _ h7 (ow<|BC f0<|KK mk3 IB<|CN 2<|VV ln5<|CC<|LL lu<|CC<|ZZ) k!) k!) dm rfl
   | inr EO=>
     obtain ⟨zo8,yl6,h7,lu,eP,VF,sW⟩:=bS.r ko lp4
     have dm:Has h h7:=sW
     have e:fB oqd n=EO:=by simp only[fB,f0,ko,aj,ai]
     rw[e]
     exact aH rfl (bb Tryz.func17 xM rfl (.inr rfl) (pk (d+1) _ _ h _ h7 (ow<|BC f0<|KK mk3 IB<|CN 2<|VV ln5<|CC<|LL lu<|ZZ) k!) k!) dm rfl
theorem cX {j:cx} (h:dC j=0):b5 j:=RG (by rw[dC] at h;exact h)
theorem afi {j:cx} (F:b5 j):∀i,i<(aK j).2.2.length→0≤(aK j).2.2.g i∧(aK j).2.2.g i+(j.ab.g i).takes≤100000:=by
 rw[JX]
 intro i hi
 have hi:i<j.ab.length:=by rw[←List.length_replicate (n:=j.ab.length) (a:=(0:Int))];exact hi
 have e:(List.replicate j.ab.length (0:Int)).g i=0:=by rw[List.g,List.getD_eq_getElem?_getD,List.getElem?_replicate,if_pos hi];rfl
 have tk:=F.tk i hi
 show 0≤(List.replicate j.ab.length (0:Int)).g i∧(List.replicate j.ab.length (0:Int)).g i+(j.ab.g i).takes≤100000
 rw[e];omega
theorem zi {oqd:List Int} {n:Int}:∀{k i:Nat} {a b:List Bool},dS oqd n k i a=Sum.inl b→∀q,i≤q→q<i+k→0≤oqd.g q∧oqd.g q<n
 | 0,i,a,b,_,q,h1,h2=>by omega
 | k+1,i,a,b,h,q,h1,h2=>by
   rw[dS] at h
   cases c:iU (oqd.g i) n with
   | false=>rw[c] at h;cases h
   | true=>
     cases d:a.g (Int.toNat (oqd.g i)) with
     | true=>rw[c,d] at h;cases h
     | false=>
       rw[c,d] at h
       by_cases e:q=i
       · rw[e];exact qm c
       · exact zi (k:=k) h q o! o!
theorem uU {oqd:List Int} {n:Int}:∀{k i:Nat} {a:List Bool} {b:Bool},dS oqd n k i a=Sum.inr b→b=false
 | 0,i,a,b,h=>by cases h
 | k+1,i,a,b,h=>by
   rw[dS] at h
   cases c:iU (oqd.g i) n with
   | false=>rw[c] at h;cases h;rfl
   | true=>
     cases d:a.g (Int.toNat (oqd.g i)) with
     | true=>rw[c,d] at h;cases h;rfl
     | false=>rw[c,d] at h;exact uU (k:=k) h
theorem rl {oqd:List Int} {n:Int} (h:(!fB oqd n)=false):(oqd.length:Int)=n∧∀q,q<oqd.length→0≤oqd.g q∧oqd.g q<n:=by
 rw[fB] at h
 by_cases a:((oqd.length:Nat):Int)=n
 · rw[decide_eq_true a,Bool.not_true,ai] at h
   refine ⟨a,fun q hq=>?_⟩
   cases e:dS oqd n oqd.length 0 (List.replicate (Int.toNat n) false) with
   | inl b=>exact zi e q (Nat.zero_le _) o!
   | inr b=>rw[e] at h;have:=uU e;subst this;cases h
 · rw[decide_eq_false a] at h;cases h
theorem aa8 (j:cx):dC j=eQ j:=aaW j fun _ _=>⟨congrArg List.length (J4 j),V1 j⟩
variable {j:cx} {oqd:List Int}
def pick (ts:List Task) (oqd:List Int) (a:List Bool):Option Nat:=hJ (fun k=>Ic ts a (Int.toNat (oqd.g k))) oqd.length 0
theorem PH {ts:List Task}:∀(k i:Nat) (v:List Int) (a:List Bool),cz oqd ts k i v a=match hJ (fun k=>Ic ts a (Int.toNat (oqd.g k))) k i with | some q=>(v++[oqd.g q],a.set (Int.toNat (oqd.g q)) true) | none=>(v,a)
 | 0,i,v,a=>rfl
 | k+1,i,v,a=>by
   rw[cz,hJ,J2,PH k (i+1)]
   cases Ic ts a (Int.toNat (oqd.g i))<;>rfl
def I8 (ts:List Task) (oqd:List Int):Nat→List Bool→List Int
 | 0,_=> []
 | k+1,a=>match pick ts oqd a with | some q=>oqd.g q::I8 ts oqd k (a.set (Int.toNat (oqd.g q)) true) | none=> []
theorem Kh {ts:List Task} {a:List Bool} (h:pick ts oqd a=none):∀k,I8 ts oqd k a=[]
 | 0=>rfl
 | k+1=>by rw[I8,h]
theorem UE {ts:List Task}:∀(k i:Nat) (v:List Int) (a:List Bool),(da oqd ts k i v a).1=v++I8 ts oqd k a
 | 0,i,v,a=>by rw[da,I8,List.append_nil]
 | k+1,i,v,a=>by
   have e:cz oqd ts oqd.length 0 v a=match pick ts oqd a with | some q=>(v++[oqd.g q],a.set (Int.toNat (oqd.g q)) true) | none=>(v,a):=PH _ 0 v a
   rw[da,UE k,e,I8]
   cases h:pick ts oqd a with
   | none=>rw[Kh h]
   | some q=>
     show v++[oqd.g q]++_=v++oqd.g q::_
     rw[List.append_assoc];rfl
theorem ahJ (ts:List Task) (oqd:List Int) (p:List Bool):aL ts oqd p=I8 ts oqd oqd.length p:=by
 rw[aL,UE,List.nil_append];rfl
def vx (j:cx):List Int→List Bool→List Int→List Tl→(List Bool×List Int×List Tl)⊕(Bool×List Bool×List Int×List Tl)
 | [],a,b,c=>Sum.inl (a,b,c)
 | t::l,a,b,c=>bif (b9 j a b c t 0).1 then vx j l (b9 j a b c t 0).2.1 (b9 j a b c t 0).2.2.1 (b9 j a b c t 0).2.2.2 else Sum.inr (false,(b9 j a b c t 0).2.1,(b9 j a b c t 0).2.2.1,(b9 j a b c t 0).2.2.2)
theorem afj {p:List Bool}:∀(kq v:Nat) (a:List Bool) (b:List Int) (c:List Tl),(aL j.ab oqd p).length≤v+kq→fM j oqd p 0 kq (v:Int) a b c=vx j ((aL j.ab oqd p).drop v) a b c
 | 0,v,a,b,c,h=>by rw[fM,List.drop_eq_nil_of_le o!];rfl
 | kq+1,v,a,b,c,h=>by
   rw[fM]
   by_cases f:v<(aL j.ab oqd p).length
   · rw[decide_eq_true (by omega:(v:Int)<((aL j.ab oqd p).length:Int)),aj,show ((v:Int)+1)=((v+1:Nat):Int) by omega,afj kq (v+1) _ _ _ o!,Int.toNat_natCast,C7 f,vx]
     cases (b9 j a b c ((aL j.ab oqd p).g v) 0).1<;>rfl
   · rw[decide_eq_false (by omega:¬(v:Int)<((aL j.ab oqd p).length:Int)),ai,List.drop_eq_nil_of_le o!];rfl
theorem aa9 {a:List Bool} {b:List Int} {t f:Int} (u0:(j.ab.g (Int.toNat t)).aA.length=0):(b9 j a b [] t f).2.2.2=[]:=by
 rw[b9]
 cases decide (100000<fo (nL j t) (asks j [] t) (bH j b t (j.ab.g (Int.toNat t)).aB.length 0 f)+(j.ab.g (Int.toNat t)).takes) with
 | true=>rfl
 | false=>
   rw[ai,z9,List.eq_nil_of_length_eq_zero u0];rfl
theorem aba {p:List Bool} (F:b5 j) (hr:j.af.length=0) (ho:∀q,q<oqd.length→0≤oqd.g q∧oqd.g q<(j.ab.length:Int)):∀(kq v:Nat) (a:List Bool) (b:List Int),(aL j.ab oqd p).length≤v+kq→fl j oqd p 0 kq (v:Int) a b=match vx j ((aL j.ab oqd p).drop v) a b [] with | Sum.inl x=>Sum.inl (x.1,x.2.1) | Sum.inr y=>Sum.inr (y.1,y.2.1,y.2.2.1)
 | 0,v,a,b,h=>by rw[fl,List.drop_eq_nil_of_le o!];rfl
 | kq+1,v,a,b,h=>by
   rw[fl]
   by_cases f:v<(aL j.ab oqd p).length
   · have t:=(rf j.ab oqd p ho).2 v f
     have u0:=F.u0 hr (i:=Int.toNat ((aL j.ab oqd p).g v)) o!
     rw[decide_eq_true (by omega:(v:Int)<((aL j.ab oqd p).length:Int)),aj,show ((v:Int)+1)=((v+1:Nat):Int) by omega,aba F hr ho kq (v+1) _ _ o!,Int.toNat_natCast,C7 f,vx,Kb _ _ _ _ _ u0,aa9 u0]
     cases (b9 j a b [] ((aL j.ab oqd p).g v) 0).1<;>rfl
   · rw[decide_eq_false (by omega:¬(v:Int)<((aL j.ab oqd p).length:Int)),ai,List.drop_eq_nil_of_le o!];rfl
theorem abb {p:List Bool} {s:List Int} {T:List Tl} {i:Nat}:b9 j p s T (i:Int) 0=bif decide (100000<W_ j s T i+(j.ab.g i).takes) then (false,p,s,T) else (true,p.set i true,s.set i (W_ j s T i),(fR j p s T (i:Int) (W_ j s T i)).2.2):=by
 rw[b9,Int.toNat_natCast]
 show (bif decide (100000<W_ j s T i+(j.ab.g i).takes) then (false,p,s,T) else (true,(fR j p s T (i:Int) (W_ j s T i)).1,(fR j p s T (i:Int) (W_ j s T i)).2.1,(fR j p s T (i:Int) (W_ j s T i)).2.2))=_
 rw[z9,Int.toNat_natCast]
theorem eg {p:Prop} (h:p:=by first | omega | assumption | exact (cX (by assumption)) | exact (cX (by assumption)).ro | exact (cX (by assumption)).nr | exact Nat.le_trans (cX (by assumption)).nt (by decide) | exact (rl (by assumption)).2 | exact afi (cX (by assumption)) | exact afg (cX (by assumption)) | (have u_:=(rl (by assumption)).1;have v_:=(cX (by assumption)).nt;omega)):p:=h
theorem xO {p:Prop} (h:p:=by first | assumption | exact ij ch o!):p:=h
def I9:Code:=(Tryz.f6.body).getD .skip
theorem uV:Tryz.f6.body=some I9:=by kernel_rfl
def jT (j:cx) (oqd:List Int):List Int×Int:=(bif (!decide ((dC j)=0)) then ([],(dC j)) else (bif (!(fB oqd ((j.ab.length:Nat):Int))) then ([],1) else (bif (!((ep j (aK j).2.1 (aK j).2.2 (aK j).1 oqd 0).1)) then ([],9) else ((ep j (aK j).2.1 (aK j).2.2 (aK j).1 oqd 0).2.2.1,0))))
theorem Sn {d:Nat} {h:aC} {bt:AV} (j:cx) (oqd:List Int) (bV:aR.ok h j) (eC:b8 h .i64 3 bt oqd) (l6:0<j.af.length) (ch:Tidy h):∃z hk,cN (d+12) (.fn 6) [(AV.agg [j.aw,j.ao]),bt] h= .ret (AV.tuple [z,(Zi (jT j oqd).2)]) hk∧bE h hk∧b8 hk .i64 3 z (jT j oqd).1:=by
 have s9:=eC.small
 have kb:=bV.1.small
 have kf:=bV.2.small
 obtain ⟨h1,di,cS,jU,bm,bP⟩:=jE ch (aM.cells [j.aw,j.ao] 25 false)
 have bA:Has h h1:=bP
 have k2:=Dq (d:=d) j (aR.mono bA bV) cS
 have dJ:=fun {al ps} (k:Pk al _ ps)=>(NN di (fun i=>(Pt i))<|CN 2<|MM (aO 25 0 (AV.agg [j.aw,j.ao]) bm k!)<|EE k2<|CN 2<|VV (kS 29 false true .i64 (dC j) 0)<|k:Pk _ [] ps)
 rcases Bool.eq_false_or_eq_true (!decide ((dC j)=0)) with f0 | f0
 · have jf:=P7 f0
   have e:jT j oqd=([],(dC j)):=by simp only[jT,f0,aj,ai]
   rw[e]
   exact ⟨.aG,gA rfl (bb Tryz.func6 uV rfl (.inr rfl) (pk (d+11) _ _ h _ h1 (dJ<|BB f0<|CN 3<|ZZ) k!) k!) ch ⟨cS,bA,by omega⟩ (P:=fun hh=>b8 hh .i64 3 AV.aG ([])) (b8.nil k! k!) fun _=>b8.nil k! k!⟩
 · have jf:=P9 f0
   have nt:=(cX jf).nt
   have D_:cb (some (.slice 40)) (some j.aw)=some (Zn j.ab.length):=bV.1.len
   have k5:=Ej (d:=d+9) oqd ((j.ab.length:Nat):Int) (eC.has bA) eg eg cS
   have hX:=fun {al ps} (k:Pk al _ ps)=>(dJ<|BB f0<|CN 2<|MM (aO 22 0 j.aw bm k!)<|VV D_<|EE k5<|CC<|k:Pk _ [] ps)
   rcases Bool.eq_false_or_eq_true (!(fB oqd ((j.ab.length:Nat):Int))) with f1 | f1
   · have e:jT j oqd=([],1):=by simp only[jT,f0,f1,aj,ai]
     rw[e]
     exact ⟨.aG,gA rfl (bb Tryz.func6 uV rfl (.inr rfl) (pk (d+11) _ _ h _ h1 (hX<|BB f1<|CN 2<|ZZ) k!) k!) ch ⟨cS,bA,by omega⟩ (P:=fun hh=>b8 hh .i64 3 AV.aG ([])) (b8.nil k! k!) fun _=>b8.nil k! k!⟩
   · obtain ⟨pb7,Xa,zb9,anu,lR,PF,jA,Au,Av,So,ahK,ahL,ahM,ahN,ahO,ahP,ahQ,ahR⟩:=p_ (d:=d+8) j (aR.mono bA bV) eg eg eg cS
     have iQ:=jA.y
     have aaN:h1.nx≤lR.nx:=jA.n
     have ahS:=oK j eg
     obtain ⟨akE,ahT,rfl,alq,Mz⟩:=nv.block So o!
     have jl:Has h lR:=bA.trans jA.a
     have akF:=iQ _ _ Au
     have akG:=iQ _ _ Av
     have anv:=iQ _ _ Mz
     obtain ⟨On,abc,yX,Y4,abd,rn⟩:=jE iQ (aM.cells [AV.aG,AV.aG,AV.aG,AV.aG,AV.aG] 78 false)
     have sR:Has h On:=jl.trans rn
     have Ds:Has lR On:=rn
     have ahU:AV.scalar j.aw=true:=bV.1.scalar
     have ahV:AV.scalar j.ao=true:=bV.2.scalar
     obtain ⟨Ly,abe,vj,akH,PI,mP⟩:=n5 (t:=78) (n:=5) (i:=lR.nx) (L:=[j.aw,j.ao,(AV.slice pb7 0 j.ab.length j.ab.length false),(AV.slice Xa 0 j.ab.length j.ab.length false),(AV.slice akE 0 (aK j).1.length (aK j).1.length ahT)]) yX abd k! rfl rfl (by simp only[AV.cells,List.all_cons,List.all_nil,Bool.and_true,Bool.and_self,gr,eO,gu,gv,dG,jK,jL,jM,jN,jO,gz,ahU,ahV])
     have D6:Has h Ly:=Has.dg sR mP ch o!
     have Wt:Has lR Ly:=Has.dg Ds mP iQ o!
     obtain ⟨I_,Aw,MA,uW,uX,im⟩:=dz vj (mP _ _ o! (rn _ _ Au))
     have xP:Has h I_:=bG D6 xO im
     obtain ⟨Dm,Ar,Mp,uQ,uR,jr⟩:=dz Aw ((im _ o!).trans (mP _ _ o! (rn _ _ Av)))
     have tz:Dm.get pb7=none:=(jr _ o!).trans uW
     have sq:Has h Dm:=bG xP xO jr
     obtain ⟨Pv,Sb,adV,Mq,Mr,uS⟩:=dz Ar ((jr _ o!).trans ((im _ o!).trans (mP _ _ o! (rn _ _ Mz))))
     have Dn:Pv.get pb7=none:=(uS _ o!).trans tz
     have Wu:Pv.get Xa=none:=(uS _ o!).trans uQ
     have Dp:Has h Pv:=bG sq xO uS
     obtain ⟨JP,aaI,D7,aeP,Ms,Mt,adW,Fo,adX,alr,als⟩:=Mx (d:=d+5) (h:=Pv) (pqN:=j.ab.length) (sqN:=j.ab.length) (tqN:=((aK j).1.length)) (tqF:=ahT) j (aK j).2.1 (aK j).2.2 (aK j).1 oqd 0 (aR.mono Dp bV) (eC.has Dp) (mP _ _ o! (rn _ _ Au)) l! Dn (mP _ _ o! (rn _ _ Av)) l! Wu (mP _ _ o! (rn _ _ Mz)) l! Mq eg eg eg eg eg eg eg eg eg eg o! o! o! Sb vj (Mr.trans (uR.trans uX)) o!
     have vk:Has h JP:=(Dp.trans Ms)
     have ow:=fun {al ps} (k:Pk al _ ps)=>(hX<|BM f1 (aO 25 0 (AV.agg [j.aw,j.ao]) bm k!)<|EE PF<|NN abc (fun i=>(Pt i))<|SS abe<|MM (aO 78 0 (AV.agg [j.aw,j.ao,(AV.slice pb7 0 j.ab.length j.ab.length false),(AV.slice Xa 0 j.ab.length j.ab.length false),(AV.slice akE 0 (aK j).1.length (aK j).1.length ahT)]) PI k!)<|CC<|EE aaI<|CC<|k:Pk _ [] ps)
     rcases Bool.eq_false_or_eq_true (!((ep j (aK j).2.1 (aK j).2.2 (aK j).1 oqd 0).1)) with f2 | f2
     · have e:jT j oqd=([],9):=by simp only[jT,f0,f1,f2,aj,ai]
       rw[e]
       exact ⟨.aG,gA rfl (bb Tryz.func6 uV rfl (.inr rfl) (pk (d+11) _ _ h _ JP (ow<|BB f2<|CN 2<|ZZ) k!) k!) ch ⟨D7,vk,by omega⟩ (P:=fun hh=>b8 hh .i64 3 AV.aG ([])) (b8.nil k! k!) fun _=>b8.nil k! k!⟩
     · have e:jT j oqd=((ep j (aK j).2.1 (aK j).2.2 (aK j).1 oqd 0).2.2.1,0):=by simp only[jT,f0,f1,f2,aj,ai]
       rw[e]
       exact ⟨(AV.slice Xa 0 j.ab.length j.ab.length false),gA rfl (bb Tryz.func6 uV rfl (.inr rfl) (pk (d+11) _ _ h _ JP (ow<|BC f2<|MM (aO 26 3 (AV.slice Xa 0 j.ab.length j.ab.length false) (Ms _ _ ((uS _ o!).trans ((jr _ o!).trans ((im _ o!).trans PI)))) k!)<|CN 2<|ZZ) k!) k!) ch ⟨D7,vk,by omega⟩ (P:=fun hh=>b8 hh .i64 3 (AV.slice Xa 0 j.ab.length j.ab.length false) (ep j (aK j).2.1 (aK j).2.2 (aK j).1 oqd 0).2.2.1) (b8.own (op:=false) k! k! Fo l! o!) fun v=>(yj (TA v) o!).elim⟩
end
end Go.Proofs.aQ
