import Derived.Test.YtijehnelcbdlgaaGreatW0
import Derived.Test.YtijehnelcbdlgaaGreatW6
import Derived.Test.YtijehnelcbdlgaaGreatW2
import Derived.Test.YtijehnelcbdlgaaGreatW3
import Derived.Test.YtijehnelcbdlgaaGreatW4
namespace Go.Proofs.aE
open Go.Proofs Ab
noncomputable section
set_option maxRecDepth 100000
set_option maxHeartbeats 4000000
set_option linter.unusedVariables false
set_option linter.unusedSimpArgs false
def Gu:Code:=(Tryz.f130.body).getD .skip
theorem Ew:Tryz.f130.body=some Gu:=by kernel_rfl
def jH (known:Mi) (key:Int) (ab:List Task) (V:Mi→Int→Int×Mi):Int×Mi:=(bif (Mi.has known key) then ((Mi.val known key),known) else ((rK key ab known V).1,(Mi.put (rK key ab known V).2 key (rK key ab known V).1)))
theorem O1 {d:Nat} {h hh:ak} {ah:AV} {bH knownN:Nat} (known:Mi) (key:Int) (xS:Nat) (ab:List Task) (V:Mi→Int→Int×Mi) (R:Int→Prop) (lv:Nat) (CB:h.get xS=some (aK.cells [ah,(AV.map bH)] 81 false)) (bU:aH h ah ab) (cj:hh.get bH=some (tK known)) (oc:known.length=knownN) (kr:h.get bH=none) (ly:0≤key) (pq:key<(ab.length:Int)) (v5:∀i:Nat,i<ab.length→aY (ab.g i).aq key=true→R (i:Int)) (AK:LH lv ab R V) (Lh:ab.length≤100000) (Z2:lv=d+2) (bM:Tidy h) (az:Tidy hh) (aw:Has h hh) (gv:h.nx≤hh.nx):∃hk,cA (d+4) (.fn 130) [(AV.map bH),(Zi key),(AV.func 131 [] [(Pt xS)])] hh= .ret (Zi (jH known key ab V).1) hk∧Tidy hk∧hh.nx≤hk.nx∧Has h hk∧hk.get bH=some (tK (jH known key ab V).2)∧((jH known key ab V).2).length=knownN:=by
 have lE:=bU.small
 have xR:=az _ _ cj
 have ab7:=bM _ _ CB
 have aaM:bH≠xS:=fun e=>by rw[e,CB] at kr;cases kr
 have lk1:dM env ((AV.map bH)::(Zi key)::(AV.func 131 [] [(Pt xS)])::AV.undef::AV.undef::AV.undef::(Zi 0)::AV.undef::AV.undef::AV.undef::AV.undef::(AV.map bH)::(Zi key)::gB 12) hh (.lookup 79 (.tmp 11) (.tmp 12) true)=some (AV.tuple [(Zi (Mi.val known key)),(AV.bool (Mi.has known key))]):=V6 k! k! cj
 rcases Bool.eq_false_or_eq_true (Mi.has known key) with f0 | f0
 · have e:jH known key ab V=((Mi.val known key),known):=by simp only[jH,f0,aj,af]
   rw[e]
   exact lB rfl (aR Tryz.func130 Ew rfl (.inr rfl) (pk (d+3) _ _ hh _ hh (CN 3<|MM lk1<|CN 6<|BB f0<|CN 2<|ZZ) k!) k!) az az o! ⟨aw,cj,l!⟩ (fun q=>⟨aw,lV q cj cj,l!⟩)
 · obtain ⟨hw3,ab8,aex,Z3,Z4,SC⟩:=lW az cj
   have XJ:Has h hw3:=fv aw (by first | assumption | exact kg bM o!) SC
   obtain ⟨h4,aey,nh,Dk,sc,Z5,Lg⟩:=Z1 (d:=d) (h:=hw3) (knownN:=0) key xS ab known V R lv ((SC _ o!).trans (aw _ _ CB)) (bU.has XJ) cj (mR _) Z3 (by first | omega | assumption) (by first | omega | assumption) (by first | omega | assumption) (by first | omega | assumption) (by first | omega | assumption) (by first | omega | assumption) ab8 az Z4 o!
   have lI:Has h h4:=(XJ.trans sc)
   obtain ⟨h5,aez,V',ab9⟩:=ZX (m:=(rK key ab known V).2) key (rK key ab known V).1 nh Z5
   have js:=V'.1
   have eV:Has h h5:=RK V' lI (by first | assumption | exact kg bM o!)
   have e:jH known key ab V=((rK key ab known V).1,(Mi.put (rK key ab known V).2 key (rK key ab known V).1)):=by simp only[jH,f0,aj,af]
   rw[e]
   exact lB rfl (aR Tryz.func130 Ew rfl (.inr rfl) (pk (d+3) _ _ hh _ h5 (CN 3<|MM lk1<|CN 6<|BB f0<|CN 2<|EE aey<|CN 4<|AA (.e AV.undef h5)<|HH (show AV.undef=AV.undef∧dA env h4 79 (AV.map bH) (Zi key) (Zi (rK key ab known V).1)=some h5 from ⟨rfl,id aez⟩)<|CN 2<|ZZ) k!) k!) az js o! ⟨eV,V'.2.1,l!⟩ (fun q=>⟨aw,lV q cj V'.2.1,l!⟩)
def CD:Code:=(Tryz.f66.body).getD .skip
theorem I':Tryz.f66.body=some CD:=by kernel_rfl
def ks (ab:List Task) (known:Mi) (ck:Int) (V:Mi→Int→Int×Mi):Int×Mi:=((jH known ck ab V).1,(jH known ck ab V).2)
theorem Ja {d:Nat} {h hh:ak} {ah:AV} {bH knownN:Nat} (ab:List Task) (known:Mi) (ck:Int) (V:Mi→Int→Int×Mi) (R:Int→Prop) (lv:Nat) (bU:aH h ah ab) (cj:hh.get bH=some (tK known)) (oc:known.length=knownN) (kr:h.get bH=none) (ly:0≤ck) (pq:ck<(ab.length:Int)) (v5:∀i:Nat,i<ab.length→aY (ab.g i).aq ck=true→R (i:Int)) (AK:LH lv ab R V) (Lh:ab.length≤100000) (Z2:lv=d+2) (bM:Tidy h) (az:Tidy hh) (aw:Has h hh) (gv:h.nx≤hh.nx):∃hk,cA (d+5) (.fn 66) [(AV.agg [ah,(AV.map bH)]),(Zi ck)] hh= .ret (Zi (ks ab known ck V).1) hk∧Tidy hk∧hh.nx≤hk.nx∧Has h hk∧hk.get bH=some (tK (ks ab known ck V).2)∧((ks ab known ck V).2).length=knownN:=by
 have lE:=bU.small
 have xR:=az _ _ cj
 obtain ⟨h1,bD,cb,ib,aI,cf⟩:=ik az (aK.cells [ah,(AV.map bH)] 81 false)
 have bx:Has h h1:=aw.trans cf
 obtain ⟨hw2,SD,Z7,Ll,Lm,CE⟩:=lW cb (cf _ _ cj)
 have Jb:Has h hw2:=fv bx (by first | assumption | exact kg bM o!) CE
 obtain ⟨h3,Sl,j0,oU,se,Gv,Lk⟩:=O1 (d:=d) (h:=hw2) (knownN:=0) known ck hh.nx ab V R lv ((CE _ o!).trans aI) (bU.has Jb) (cf _ _ cj) (mR _) Ll (by first | omega | assumption) (by first | omega | assumption) (by first | omega | assumption) (by first | omega | assumption) (by first | omega | assumption) (by first | omega | assumption) SD cb Lm o!
 have fB:Has h h3:=(Jb.trans se)
 have e:ks ab known ck V=((jH known ck ab V).1,(jH known ck ab V).2):=by simp only[ks,aj,af]
 rw[e]
 exact lB rfl (aR Tryz.func66 I' rfl (.inr rfl) (pk (d+4) _ _ hh _ h3 (NN bD (fun i=>(Pt i))<|CN 2<|MM (ao 79 1 (AV.map bH) aI k!)<|CN 2<|EE Sl<|CC<|ZZ) k!) k!) az j0 o! ⟨fB,Gv,l!⟩ (fun q=>⟨aw,lV q cj Gv,l!⟩)
def anyI (P:Nat→Bool):Nat→Nat→Bool
 | 0,_=>false
 | k+1,i=>P i||anyI P k (i+1)
theorem oZ {P Q:Nat→Bool}:∀{k i:Nat},(∀n,i≤n→n<i+k→P n=Q n)→anyI P k i=anyI Q k i
 | 0,i,h=>rfl
 | k+1,i,h=>by rw[anyI,anyI,h i (Nat.le_refl _) o!,oZ (k:=k) (i:=i+1) fun n p q=>h n o! o!]
theorem v9 {P:Nat→Bool}:∀{k i:Nat},anyI P k i=false→∀n,i≤n→n<i+k→P n=false
 | 0,i,_,n,p,q=>by omega
 | k+1,i,h,n,p,q=>by
   rw[anyI,Bool.or_eq_false_iff] at h
   by_cases e:n=i
   · rw[e];exact h.1
   · exact v9 h.2 n o! o!
theorem SE {s:List aZ} {P:aZ→Bool}:∀k i,(dp s P k i=none∧anyI (fun n=>P (s.g n)) k i=false)∨∃n:Nat,dp s P k i=some (n:Int)∧anyI (fun n=>P (s.g n)) k i=true
 | 0,i=> .inl ⟨rfl,rfl⟩
 | k+1,i=>by
   rw[dp,anyI]
   cases h:P (s.g i) with
   | true=>exact .inr ⟨i,rfl,rfl⟩
   | false=>exact SE k (i+1)
theorem Z8 (s:List aZ) (P:aZ→Bool):dK s P=anyI (fun n=>P (s.g n)) s.length 0:=by
 rw[dK,eh]
 rcases SE (s:=s) (P:=P) s.length 0 with ⟨e,f⟩ | ⟨n,e,f⟩
 · rw[e,f];rfl
 · rw[e,f];exact decide_eq_true (Int.natCast_nonneg n)
theorem Nj {s:List Task} {P:Task→Bool}:∀k i,(eI s P k i=none∧anyI (fun n=>P (s.g n)) k i=false)∨∃n:Nat,eI s P k i=some (n:Int)∧anyI (fun n=>P (s.g n)) k i=true
 | 0,i=> .inl ⟨rfl,rfl⟩
 | k+1,i=>by
   rw[eI,anyI]
   cases h:P (s.g i) with
   | true=>exact .inr ⟨i,rfl,rfl⟩
   | false=>exact Nj k (i+1)
theorem Wa (s:List Task) (P:Task→Bool):eJ s P=anyI (fun n=>P (s.g n)) s.length 0:=by
 rw[eJ,hJ]
 rcases Nj (s:=s) (P:=P) s.length 0 with ⟨e,f⟩ | ⟨n,e,f⟩
 · rw[e,f];rfl
 · rw[e,f];exact decide_eq_true (Int.natCast_nonneg n)
theorem SF {s:List jD} {P:jD→Bool}:∀k i,(ff s P k i=none∧anyI (fun n=>P (s.g n)) k i=false)∨∃n:Nat,ff s P k i=some (n:Int)∧anyI (fun n=>P (s.g n)) k i=true
 | 0,i=> .inl ⟨rfl,rfl⟩
 | k+1,i=>by
   rw[ff,anyI]
   cases h:P (s.g i) with
   | true=>exact .inr ⟨i,rfl,rfl⟩
   | false=>exact SF k (i+1)
theorem SG (s:List jD) (P:jD→Bool):gn s P=anyI (fun n=>P (s.g n)) s.length 0:=by
 rw[gn,iT]
 rcases SF (s:=s) (P:=P) s.length 0 with ⟨e,f⟩ | ⟨n,e,f⟩
 · rw[e,f];rfl
 · rw[e,f];exact decide_eq_true (Int.natCast_nonneg n)
theorem SH {s:List Int} {v:Int}:∀k i,(hI s v k i=none∧anyI (fun n=>decide (v=s.g n)) k i=false)∨∃n:Nat,hI s v k i=some (n:Int)∧anyI (fun n=>decide (v=s.g n)) k i=true
 | 0,i=> .inl ⟨rfl,rfl⟩
 | k+1,i=>by
   rw[hI,anyI]
   cases h:decide (v=s.g i) with
   | true=>exact .inr ⟨i,rfl,rfl⟩
   | false=>exact SH k (i+1)
theorem CG (s:List Int) (v:Int):aY s v=anyI (fun n=>decide (v=s.g n)) s.length 0:=by
 rw[aY,l6]
 rcases SH (s:=s) (v:=v) s.length 0 with ⟨e,f⟩ | ⟨n,e,f⟩
 · rw[e,f];rfl
 · rw[e,f];exact decide_eq_true (Int.natCast_nonneg n)
theorem o6 {α:Type} {l:List α} {n:Nat} (h:n≤l.length):(l.take n).length=n:=by rw[List.length_take];omega
theorem v_ {α:Type} [Inhabited α] {l:List α} {n i:Nat} (h:i<n):(l.take n).g i=l.g i:=by
 rw[List.g,List.g,List.getD_eq_getElem?_getD,List.getD_eq_getElem?_getD,List.getElem?_take_of_lt h]
theorem tL {x:Int} (h:fW x=true):0≤x∧x≤100000:=by
 unfold fW hL at h
 by_cases z:0≤x
 · rw[decide_eq_true z,aj] at h;exact ⟨z,of_decide_eq_true h⟩
 · rw[decide_eq_false z] at h;cases h
structure eQ (j:cF):Prop where
 nt:j.ab.length≤64
 nr:j.ae.length≤16
 nb:∀i,i<j.ab.length→∀q,q<(j.ab.g i).aq.length→0≤(j.ab.g i).aq.g q∧(j.ab.g i).aq.g q<(j.ab.length:Int)
 ro:∀r,r<j.ae.length→(j.ae.g r).off.length≤16∧∀q,q<(j.ae.g r).off.length→0≤((j.ae.g r).off.g q).bt∧((j.ae.g r).off.g q).aP≤100000
 rs:∀r,r<j.ae.length→(∀q,q<(j.ae.g r).off.length→((j.ae.g r).off.g q).bt≤((j.ae.g r).off.g q).aP)∧(∀q,0<q→q<(j.ae.g r).off.length→((j.ae.g r).off.g (q - 1)).aP<((j.ae.g r).off.g q).bt)∧0≤(j.ae.g r).aC∧(j.ae.g r).aC≤1000
 ur:∀i,i<j.ab.length→∀q,q<(j.ab.g i).aF.length→0≤((j.ab.g i).aF.g q).ai∧((j.ab.g i).aF.g q).ai<(j.ae.length:Int)
 um:∀i,i<j.ab.length→∀q,q<(j.ab.g i).aF.length→1≤((j.ab.g i).aF.g q).aC∧((j.ab.g i).aF.g q).aC≤(j.ae.g (Int.toNat ((j.ab.g i).aF.g q).ai)).aC
 ud:∀i,i<j.ab.length→∀a,a<(j.ab.g i).aF.length→∀b,a<b→b<(j.ab.g i).aF.length→((j.ab.g i).aF.g a).ai≠((j.ab.g i).aF.g b).ai
 tk:∀i,i<j.ab.length→0≤(j.ab.g i).aL∧(j.ab.g i).aL≤100000
 io:¬(dP j.ab).length<j.ab.length
theorem DA {j:cF} {b:List jD} {u:jD} (h:dm j b u=0):(0≤u.ai∧u.ai<(j.ae.length:Int))∧(∀n,n<b.length→(b.g n).ai≠u.ai)∧1≤u.aC∧u.aC≤(j.ae.g (Int.toNat u.ai)).aC:=by
 unfold dm at h
 cases a:fQ u.ai ((j.ae.length:Nat):Int) with
 | false=>rw[a] at h;cases h
 | true=>
 cases c:gn b (fun y=>iK y u) with
 | true=>rw[a,c] at h;cases h
 | false=>
 rw[a,c] at h
 by_cases d1:u.aC<1
 · rw[decide_eq_true d1] at h;cases h
 · rw[decide_eq_false d1] at h
   by_cases d2:1000<u.aC
   · rw[decide_eq_true d2] at h;cases h
   · rw[decide_eq_false d2] at h
     by_cases d3:(j.ae.g (Int.toNat u.ai)).aC<u.aC
     · rw[decide_eq_true d3] at h;cases h
     · rw[SG] at c
       refine ⟨qy a,fun n hn e=>?_,by omega,by omega⟩
       have t:=v9 c n (Nat.zero_le _) o!
       unfold iK at t
       rw[decide_eq_true e] at t;cases t
theorem DB {b:List Span} {s:Span} (h:cm b s=0):0≤s.bt∧s.aP≤100000∧s.bt≤s.aP∧(0<b.length→(b.g (b.length - 1)).aP<s.bt):=by
 unfold cm at h
 cases a:fW s.bt with
 | false=>rw[a] at h;cases h
 | true=>
 cases c:fW s.aP with
 | false=>rw[a,c] at h;cases h
 | true=>
 rw[a,c] at h
 have x:=tL a
 have y:=tL c
 by_cases d1:s.aP<s.bt
 · rw[decide_eq_true d1] at h;cases h
 · rw[decide_eq_false d1] at h
   refine ⟨x.1,y.2,by omega,fun hb=>?_⟩
   rw[decide_eq_true (show 0<((b.length:Nat):Int) by omega)] at h
   by_cases d2:s.bt≤(b.g (b.length - 1)).aP
   · rw[decide_eq_true d2] at h;cases h
   · omega
theorem wa {b:List aZ} {r:aZ} (h:bj b r=0):(0≤r.aC∧r.aC≤1000)∧r.off.length≤16∧∀q,q<r.off.length→cm (r.off.take q) (r.off.g q)=0:=by
 unfold bj at h
 cases a:fV r.name with
 | false=>rw[a] at h;cases h
 | true=>
 cases c:dK b (fun y=>fb y r) with
 | true=>rw[a,c] at h;cases h
 | false=>
 cases e:hL r.aC 1000 with
 | false=>rw[a,c,e] at h;cases h
 | true=>
 rw[a,c,e] at h
 have h:cT r.off 16 (fun jx=>cm (List.take jx r.off) (List.g r.off jx))=0:=h
 rw[Nb] at h
 have z:=nu h
 refine ⟨?_,by omega,fun q hq=>z.2 q hq⟩
 unfold hL at e
 by_cases z:0≤r.aC
 · rw[decide_eq_true z,aj] at e;exact ⟨z,of_decide_eq_true e⟩
 · rw[decide_eq_false z] at e;cases e
theorem CH {j:cF} {b:List Task} {t:Task} (h:cR j b t=0):(0≤t.aL∧t.aL≤100000)∧∀q,q<t.aF.length→dm j (t.aF.take q) (t.aF.g q)=0:=by
 unfold cR at h
 cases n1:fV t.name with
 | false=>rw[n1] at h;cases h
 | true=>
 cases n2:eJ b (fun y=>hH y t) with
 | true=>rw[n1,n2] at h;cases h
 | false=>
 cases n3:fW t.aL with
 | false=>rw[n1,n2,n3] at h;cases h
 | true=>
 rw[n1,n2,n3] at h
 by_cases e:b8 t.aq ((t.aq.length:Nat):Int) (fun jx=>cK (List.take jx t.aq) (List.g t.aq jx) j)=0
 · rw[decide_eq_true e] at h
   have h:dv t.aF ((t.aF.length:Nat):Int) (fun jx=>fh (List.take jx t.aF) (List.g t.aF jx) j)=0:=h
   rw[Ss] at h
   exact ⟨tL n3,fun q hq=>(nu h).2 q hq⟩
 · rw[decide_eq_false e] at h;exact absurd h e
theorem Ln {j:cF} (h:(bif (!decide ((bl j.ae 16 (fun jx=>bj (List.take jx j.ae) (List.g j.ae jx)))=0)) then (bl j.ae 16 (fun jx=>bj (List.take jx j.ae) (List.g j.ae jx))) else (bif (!decide ((bA j.ab 64 (fun jx=>ef (List.take jx j.ab) (List.g j.ab jx) j))=0)) then (bA j.ab 64 (fun jx=>ef (List.take jx j.ab) (List.g j.ab jx) j)) else (bif (decide ((((dP j.ab).length:Nat):Int)<((j.ab.length:Nat):Int))) then 11 else 0)))=0):eQ j:=by
 by_cases a:bl j.ae 16 (fun jx=>bj (List.take jx j.ae) (List.g j.ae jx))=0
 · by_cases b:bA j.ab 64 (fun jx=>ef (List.take jx j.ab) (List.g j.ab jx) j)=0
   · by_cases c:(((dP j.ab).length:Nat):Int)<((j.ab.length:Nat):Int)
     · rw[decide_eq_true a,decide_eq_true b,decide_eq_true c] at h;cases h
     · have nb:=rJ b
       rw[Su] at a
       rw[xP] at b
       have za:=nu a
       have zb:=nu b
       have rr:=fun r (hr:r<j.ae.length)=>wa (za.2 r hr)
       have tt:=fun i (hi:i<j.ab.length)=>CH (zb.2 i hi)
       have oo:=fun r (hr:r<j.ae.length) q (hq:q<(j.ae.g r).off.length)=>DB ((rr r hr).2.2 q hq)
       have uu:=fun i (hi:i<j.ab.length) q (hq:q<(j.ab.g i).aF.length)=>DA ((tt i hi).2 q hq)
       exact {
        nt:=by omega
        nr:=by omega
        nb:=nb
        ro:=fun r hr=>⟨(rr r hr).2.1,fun q hq=>⟨(oo r hr q hq).1,(oo r hr q hq).2.1⟩⟩
        rs:=fun r hr=>⟨fun q hq=>(oo r hr q hq).2.2.1,fun q h0 hq=>by
         have:=(oo r hr q hq).2.2.2
         rw[o6 (Nat.le_of_lt hq),v_ o!] at this
         exact this h0,(rr r hr).1⟩
        ur:=fun i hi q hq=>(uu i hi q hq).1
        um:=fun i hi q hq=>(uu i hi q hq).2.2
        ud:=fun i hi a ha b hab hb=>by
         have:=(uu i hi b hb).2.1 a (by rw[o6 (Nat.le_of_lt hb)];exact hab)
         rw[v_ hab] at this;exact this
        tk:=fun i hi=>(tt i hi).1
        io:=by omega}
   · rw[decide_eq_true a,decide_eq_false b] at h;exact absurd h b
 · rw[decide_eq_false a] at h;exact absurd h a
theorem Ex {x:Task} {p:List Bool}:∀k i,jZ x p k i=bif anyI (fun n=> !(p.g (Int.toNat (x.aq.g n)))) k i then some false else none
 | 0,i=>rfl
 | k+1,i=>by
   rw[jZ,anyI,Ex k (i+1)]
   cases p.g (Int.toNat (x.aq.g i))<;>rfl
theorem Jc (x:Task) (p:List Bool):il x p= !(anyI (fun n=> !(p.g (Int.toNat (x.aq.g n)))) x.aq.length 0):=by
 rw[il,Ex]
 cases anyI (fun n=> !(p.g (Int.toNat (x.aq.g n)))) x.aq.length 0<;>rfl
theorem Nk {s:List Int} {P:Nat→Bool}:∀k i,(fi s P k i=none∧anyI P k i=false)∨∃n:Nat,fi s P k i=some (n:Int)∧anyI P k i=true
 | 0,i=> .inl ⟨rfl,rfl⟩
 | k+1,i=>by
   rw[fi,anyI]
   cases h:P i with
   | true=>exact .inr ⟨i,rfl,rfl⟩
   | false=>exact Nk k (i+1)
theorem Wb (s:List Int) (P:Nat→Bool):gq s P=anyI P s.length 0:=by
 rw[gq,iU]
 rcases Nk (s:=s) (P:=P) s.length 0 with ⟨e,f⟩ | ⟨n,e,f⟩
 · rw[e,f];rfl
 · rw[e,f];exact decide_eq_true (Int.natCast_nonneg n)
def Lp (ts:List Task) (p:List Bool) (i:Nat):Bool:= !(p.g i)&&il (ts.g i) p
theorem O2 (ts:List Task) (p:List Bool) (t:Int):ma ts p t=Lp ts p (Int.toNat t):=by
 rw[ma,Lp,Wb,Jc]
 cases p.g (Int.toNat t)<;>rfl
def iW (P:Nat→Bool):Nat→Nat→Option Nat
 | 0,_=>none
 | k+1,i=>bif P i then some i else iW P k (i+1)
theorem pH {P:Nat→Bool}:∀{k i m:Nat},iW P k i=some m→P m=true∧i≤m∧m<i+k
 | 0,i,m,h=>by cases h
 | k+1,i,m,h=>by
   rw[iW] at h
   cases e:P i with
   | true=>rw[e] at h;cases h;exact ⟨e,Nat.le_refl _,by omega⟩
   | false=>
     rw[e] at h
     have:=pH (k:=k) h
     exact ⟨this.1,by omega,by omega⟩
theorem Af {P:Nat→Bool}:∀(k i:Nat),iW P (k+1) i=match iW P k i with | some q=>some q | none=>bif P (i+k) then some (i+k) else none
 | 0,i=>by rw[iW,iW];rfl
 | k+1,i=>by
   rw[iW,Af k (i+1),iW]
   cases P i with
   | true=>rfl
   | false=>
     rw[af,af,show i+1+k=i+(k+1) by omega]
theorem zj {a:List Bool} {j:cF}:∀(m kq:Nat) (v:Int),m≤kq→bw a j kq v ((m:Int) - 1)=match iW (Lp j.ab a) m 0 with | some q=>(q:Int) | none=>v
 | 0,kq,v,h=>by
   cases kq with
   | zero=>rw[bw];rfl
   | succ kq=>rw[bw,decide_eq_false (by omega:¬(0:Int)≤((0:Nat):Int) - 1)];rfl
 | m+1,0,v,h=>by omega
 | m+1,kq+1,v,h=>by
   rw[bw,decide_eq_true (by omega:(0:Int)≤((m+1:Nat):Int) - 1),aj,show ((m+1:Nat):Int) - 1=((m:Nat):Int) by omega,Int.toNat_natCast,zj m kq _ o!,zj m kq _ o!,Af,Nat.zero_add]
   have e:Lp j.ab a m=(!(a.g m)&&il (j.ab.g m) a):=rfl
   rw[e]
   cases a.g m<;>cases il (j.ab.g m) a<;>cases iW (Lp j.ab a) m 0<;>rfl
def Jd (ts:List Task) (x:List Int×List Bool):List Int×List Bool:=match iW (Lp ts x.2) ts.length 0 with | some q=>(x.1++[(q:Int)],x.2.set q true) | none=>x
def uS (ts:List Task):Nat→List Int×List Bool→List Int×List Bool
 | 0,x=>x
 | k+1,x=>uS ts k (Jd ts x)
theorem SI {fE:List Int} {ts:List Task} (ho:∀i,i<ts.length→fE.g i=(i:Int)):∀(k i:Nat) (v:List Int) (a:List Bool),i+k=ts.length→eE fE ts k i v a=match iW (Lp ts a) k i with | some q=>(v++[(q:Int)],a.set q true) | none=>(v,a)
 | 0,i,v,a,h=>rfl
 | k+1,i,v,a,h=>by
   rw[eE,iW,O2,ho i o!,Int.toNat_natCast,SI ho k (i+1) v a o!]
   cases Lp ts a i<;>rfl
theorem SJ {fE:List Int} {ts:List Task} (ho:∀i,i<ts.length→fE.g i=(i:Int)) (hl:fE.length=ts.length):∀(k i:Nat) (v:List Int) (a:List Bool),fj fE ts k i v a=uS ts k (v,a)
 | 0,i,v,a=>rfl
 | k+1,i,v,a=>by
   rw[fj,SJ ho hl k (i+1),uS,hl,SI ho _ _ _ _ o!,Jd]
theorem SK {ts:List Task}:∀(k i:Nat) (a:List Int),a.length=ts.length→i+k=ts.length→(∀q,q<i→a.g q=(q:Int))→(eK ts k i a).length=ts.length∧∀q,q<ts.length→(eK ts k i a).g q=(q:Int)
 | 0,i,a,hl,h,hq=>⟨hl,fun q hq'=>hq q o!⟩
 | k+1,i,a,hl,h,hq=>by
   rw[eK]
   refine SK k (i+1) _ (by rw[List.length_set];exact hl) o! fun q hq'=>?_
   by_cases e:q=i
   · subst e;exact Eh o!
   · rw[Ei (Ne.symm e)];exact hq q o!
theorem wb (ts:List Task):dP ts=(uS ts ts.length ([],List.replicate ts.length false)).1:=by
 obtain ⟨h1,h2⟩:=SK (ts:=ts) ts.length 0 (List.replicate ts.length 0) (by rw[List.length_replicate]) o! fun q h=>by omega
 rw[dP,iV,SJ h2 h1,h1];rfl
theorem Nl:∀{l:List Bool},nF l=0→∀i,i<l.length→l.g i=true
 | [],_,i,h=>by simp at h
 | b::l,h,0,_=>by
   cases b with
   | true=>rfl
   | false=>simp [nF] at h
 | b::l,h,i+1,hi=>by
   have:nF l=0:=by
    rw[nF] at h;omega
   exact Nl this i (by simpa using hi)
theorem Wc (ts:List Task) (x:List Int×List Bool):(Jd ts x).2.length=x.2.length:=by
 rw[Jd];cases iW (Lp ts x.2) ts.length 0 with
 | none=>rfl
 | some q=>exact List.length_set ..
theorem SL {ts:List Task} {a:List Bool} {m:Nat} (h:Lp ts a m=true):a.g m=false∧il (ts.g m) a=true:=by
 rw[Lp] at h
 cases e:a.g m with
 | true=>rw[e] at h;cases h
 | false=>rw[e] at h;exact ⟨rfl,h⟩
theorem O3 (ts:List Task) (x:List Int×List Bool) (hl:x.2.length=ts.length):(Jd ts x).1.length+nF (Jd ts x).2=x.1.length+nF x.2:=by
 rw[Jd]
 cases e:iW (Lp ts x.2) ts.length 0 with
 | none=>rfl
 | some q=>
   have f:=pH e
   have:=F9 (l:=x.2) (n:=q) o! (SL f.1).1
   show (x.1++[(q:Int)]).length+nF (x.2.set q true)=_
   rw[List.length_append,List.length_singleton];omega
theorem wc (ts:List Task):∀(k:Nat) (x:List Int×List Bool),x.2.length=ts.length→(uS ts k x).1.length+nF (uS ts k x).2=x.1.length+nF x.2∧(uS ts k x).2.length=ts.length
 | 0,x,hl=>⟨rfl,hl⟩
 | k+1,x,hl=>by
   rw[uS]
   have h:=wc ts k (Jd ts x) (by rw[Wc];exact hl)
   rw[O3 ts x hl] at h
   exact h
theorem Je {ts:List Task} {x:List Int×List Bool} (h:iW (Lp ts x.2) ts.length 0=none):∀k,uS ts k x=x
 | 0=>rfl
 | k+1=>by
   have:Jd ts x=x:=by rw[Jd,h]
   rw[uS,this,Je h k]
theorem Ey {j:cF}:∀(k kq:Nat) (v:List Int) (a:List Bool),a.length=j.ab.length→nF a≤k→nF a+1≤kq→fC j kq v a=(uS j.ab k (v,a)).1
 | k,0,v,a,hl,h1,h2=>by omega
 | k,kq+1,v,a,hl,h1,h2=>by
   rw[fC,show Int.toNat ((((j.ab.length:Nat):Int) - 1)+1)=j.ab.length by omega,zj _ _ _ (Nat.le_refl _)]
   cases e:iW (Lp j.ab a) j.ab.length 0 with
   | none=>
     rw[Je (x:=(v,a)) e]
     rfl
   | some q=>
     have f:=pH e
     have g:=SL f.1
     have c:=F9 (l:=a) (n:=q) o! g.1
     match k,h1 with
     | 0,h1=>omega
     | k+1,h1=>
       have s:Jd j.ab (v,a)=(v++[(q:Int)],a.set q true):=by rw[Jd,e]
       rw[uS,s]
       show (bif decide ((q:Int)<0) then v else fC j kq (v++[(q:Int)]) (a.set (Int.toNat (q:Int)) true))=_
       rw[decide_eq_false (by omega:¬(q:Int)<0),af,Int.toNat_natCast]
       exact Ey k kq _ _ (by rw[List.length_set];exact hl) o! o!
theorem Ez (j:cF):dP j.ab=eF j:=by
 rw[wb,eF,vP]
 exact (Ey _ _ _ _ (by rw[List.length_replicate]) (by rw[vP];exact Nat.le_refl _) (by rw[vP];omega)).symm
theorem O4 (j:cF):(eF j).length≤j.ab.length:=by
 rw[←Ez,wb]
 have:=(wc j.ab j.ab.length ([],List.replicate j.ab.length false) (by rw[List.length_replicate])).1
 rw[vP] at this
 have e:(([],List.replicate j.ab.length false):List Int×List Bool).1.length=0:=rfl
 omega
structure Ac (ts:List Task) (ρ:Nat→Nat):Prop where
 nb:∀i,i<ts.length→∀q,q<(ts.g i).aq.length→0≤(ts.g i).aq.g q∧(ts.g i).aq.g q<(ts.length:Int)
 lt:∀i,i<ts.length→∀q,q<(ts.g i).aq.length→ρ ((ts.g i).aq.g q).toNat<ρ i
 le:∀i,ρ i≤ts.length
def dS (ts:List Task):Nat→List Int×List Bool→Nat→Nat
 | 0,_,_=>0
 | k+1,x,m=>bif x.2.g m then 0 else 1+dS ts k (Jd ts x) m
theorem Nm (ts:List Task):∀(k:Nat) (x:List Int×List Bool) (m:Nat),dS ts k x m≤k
 | 0,x,m=>Nat.le_refl _
 | k+1,x,m=>by
   have:=Nm ts k (Jd ts x) m
   rw[dS];cases x.2.g m with
   | true=>exact Nat.zero_le _
   | false=>rw[af];omega
theorem Jf {x:Task} {p:List Bool} (h:il x p=true):∀q,q<x.aq.length→p.g (x.aq.g q).toNat=true:=fun q hq=>by
 rw[Jc] at h
 have a:anyI (fun n=> !(p.g (Int.toNat (x.aq.g n)))) x.aq.length 0=false:=by
  cases c:anyI (fun n=> !(p.g (Int.toNat (x.aq.g n)))) x.aq.length 0 with
  | true=>rw[c] at h;cases h
  | false=>rfl
 have:=v9 a q (Nat.zero_le _) o!
 simpa using this
theorem aca {l:List Bool} {n m:Nat} (h:(l.set n true).g m=true):l.g m=true∨m=n:=by
 by_cases e:m=n
 · exact .inr e
 · refine .inl ?_
   rw[List.g,List.getD_eq_getElem?_getD,List.getElem?_set_ne (Ne.symm e)] at h
   rw[List.g,List.getD_eq_getElem?_getD];exact h
theorem XK {ts:List Task} {m:Nat}:∀(k:Nat) (x:List Int×List Bool),(uS ts k x).2.g m=true→x.2.g m=false→∀q,q<(ts.g m).aq.length→dS ts k x ((ts.g m).aq.g q).toNat<dS ts k x m
 | 0,x,h,hf,q,hq=>by rw[uS,hf] at h;cases h
 | k+1,x,h,hf,q,hq=>by
   rw[dS,dS,hf,af]
   cases e:x.2.g ((ts.g m).aq.g q).toNat with
   | true=>rw[aj];omega
   | false=>
     rw[af]
     cases f:(Jd ts x).2.g m with
     | false=>
       have:=XK k (Jd ts x) (by rw[uS] at h;exact h) f q hq
       omega
     | true=>
       exfalso
       rw[Jd] at f
       cases c:iW (Lp ts x.2) ts.length 0 with
       | none=>rw[c] at f;rw[hf] at f;cases f
       | some n=>
         rw[c] at f
         rcases aca f with g | rfl
         · rw[hf] at g;cases g
         · have:=Jf (SL (pH c).1).2 q hq
           rw[this] at e;cases e
def xU (ts:List Task):Nat→Nat:=dS ts ts.length ([],List.replicate ts.length false)
theorem Z_ (n m:Nat):(List.replicate n false).g m=false:=by
 rw[List.g,List.getD_eq_getElem?_getD,List.getElem?_replicate];split<;>rfl
theorem eQ.ac {j:cF} (F:eQ j):Ac j.ab (xU j.ab):=by
 refine ⟨F.nb,fun i hi q hq=>?_,fun i=>Nm _ _ _ _⟩
 have c:=wc j.ab j.ab.length ([],List.replicate j.ab.length false) (by rw[List.length_replicate])
 have io:=F.io
 rw[wb] at io
 have e:(([],List.replicate j.ab.length false):List Int×List Bool).1.length=0:=rfl
 rw[vP,e] at c
 have z:=Nl (l:=(uS j.ab j.ab.length ([],List.replicate j.ab.length false)).2) o! i (by rw[c.2];exact hi)
 exact XK _ _ z (Z_ _ _) q hq
theorem Lq {s:List Int} {v:Int}:aY s v=true→∃q,q<s.length∧s.g q=v:=fun h=>by
 rw[CG] at h
 apply Classical.byContradiction
 intro no
 rw[show anyI (fun n=>decide (v=s.g n)) s.length 0=false from ?_] at h
 · cases h
 · have:∀k i,i+k≤s.length→anyI (fun n=>decide (v=s.g n)) k i=false:=fun k=>by
    induction k with
    | zero=>intro i _;rfl
    | succ k ih=>
      intro i hi
      rw[anyI,ih (i+1) o!,decide_eq_false (fun e=>no ⟨i,by omega,e.symm⟩)];rfl
   exact this _ 0 o!
def pX (L:Int→Int) (ts:List Task) (t:Int):Nat→Nat→Int→Int
 | 0,_,v=>v
 | k+1,i,v=>pX L ts t k (i+1) (bif aY (ts.g i).aq t then imax v (L (i:Int)) else v)
def rL (ts:List Task):Nat→Int→Int
 | 0,_=>0
 | n+1,t=>IntKind.i64.wrap ((ts.g t.toNat).aL+pX (rL ts n) ts t ts.length 0 0)
def LV (ts:List Task):Nat→Mi→Int→Int×Mi
 | 0,m,_=>(0,m)
 | n+1,m,t=>ks ts m t (LV ts n)
def RN (ts:List Task) (ρ:Nat→Nat) (n:Nat) (t:Int):Prop:=0≤t∧t<(ts.length:Int)∧ts.length<n+ρ t.toNat
theorem RN.step {ts:List Task} {ρ:Nat→Nat} (A:Ac ts ρ) {n:Nat} {t:Int} (h:RN ts ρ (n+1) t):∀i:Nat,i<ts.length→aY (ts.g i).aq t=true→RN ts ρ n (i:Int):=fun i hi c=>by
 obtain ⟨q,hq,e⟩:=Lq c
 have:=A.lt i hi q hq
 rw[e] at this
 refine ⟨by omega,by omega,?_⟩
 rw[Int.toNat_natCast]
 have:=h.2.2
 omega
theorem SM {ts:List Task} {ρ:Nat→Nat} (A:Ac ts ρ) (hl:ts.length≤100000) {d:Nat}:∀n:Nat,LH (d+2+3*n) ts (RN ts ρ n) (LV ts n)
 | 0=>fun h hh ah known ck bH _ _ _ h0 h1 r=>by
   have:=r.2.2
   have:=A.le ck.toNat
   omega
 | n+1=>fun h hh ah known ck bH a b c h0 h1 r y1 y2 a2 n2=>by
   obtain ⟨hk,x1,x2,x3,x4,x5,_⟩:=Ja (d:=d+3*n) ts known ck (LV ts n) (RN ts ρ n) (d+2+3*n) a b rfl c h0 h1 (r.step A) (SM A hl n) hl o! y1 y2 a2 n2
   refine ⟨hk,?_,x2,x3,x4,x5⟩
   rw[show d+2+3*(n+1)=d+3*n+5 by omega];exact x1
theorem mL {L L':Int→Int} {ts:List Task} {t:Int} (h:∀i:Nat,i<ts.length→aY (ts.g i).aq t=true→L (i:Int)=L' (i:Int)):∀(k i:Nat) (v:Int),i+k=ts.length→pX L ts t k i v=pX L' ts t k i v
 | 0,i,v,_=>rfl
 | k+1,i,v,e=>by
   rw[pX,pX]
   cases c:aY (ts.g i).aq t with
   | false=>exact mL h k (i+1) v o!
   | true=>rw[aj,aj,h i o! c];exact mL h k (i+1) _ o!
theorem nv {ts:List Task} {ρ:Nat→Nat} (A:Ac ts ρ):∀(n m:Nat) (t:Int),n≤m→RN ts ρ n t→rL ts m t=rL ts n t
 | 0,m,t,_,r=>by have:=r.2.2;have:=A.le t.toNat;omega
 | n+1,0,t,h,r=>by omega
 | n+1,m+1,t,h,r=>by
   rw[rL,rL,mL (fun i hi c=>nv A n m (i:Int) o! (r.step A i hi c)) _ _ _ (Nat.zero_add _)]
def iw (ts:List Task):Int→Int:=rL ts (ts.length+1)
theorem SN {ts:List Task} {L:Int→Int} {t:Int} {V:Mi→Int→Int×Mi} (hV:∀(i:Nat) (m:Mi),i<ts.length→aY (ts.g i).aq t=true→dw L m→(V m (i:Int)).1=L (i:Int)∧dw L (V m (i:Int)).2):∀(k i:Nat) (v:Int) (m:Mi),i+k=ts.length→dw L m→(iu V ts t k i v m).1=pX L ts t k i v∧dw L (iu V ts t k i v m).2
 | 0,i,v,m,_,o=>⟨rfl,o⟩
 | k+1,i,v,m,e,o=>by
   rw[iu,pX]
   cases c:aY (ts.g i).aq t with
   | false=>exact SN hV k (i+1) v m o! o
   | true=>
     obtain ⟨a,b⟩:=hV i m o! c o
     rw[aj,aj,a]
     exact SN hV k (i+1) _ _ o! b
theorem XL {ts:List Task} {ρ:Nat→Nat} (A:Ac ts ρ):∀(n:Nat) (m:Mi) (t:Int),n≤ts.length+1→RN ts ρ n t→dw (iw ts) m→(LV ts n m t).1=iw ts t∧dw (iw ts) (LV ts n m t).2
 | 0,m,t,_,r,o=>by have:=r.2.2;have:=A.le t.toNat;omega
 | n+1,m,t,hn,r,o=>by
   have st:=nv A (n+1) (ts.length+1) t hn r
   have key:=SN (L:=iw ts) (t:=t) (V:=LV ts n) (fun i m hi c o=>XL A n m (i:Int) o! (r.step A i hi c) o) ts.length 0 0 m o! o
   have e:iw ts t=IntKind.i64.wrap ((ts.g t.toNat).aL+pX (iw ts) ts t ts.length 0 0):=by
    rw[show iw ts t=rL ts (ts.length+1) t from rfl,st,rL]
    rw[mL (fun i hi c=>(nv A n (ts.length+1) (i:Int) o! (r.step A i hi c)).symm) _ _ _ (Nat.zero_add _)];rfl
   rw[LV,ks,jH]
   cases c:m.has t with
   | true=>exact ⟨o.val c,o⟩
   | false=>
     have f:(rK t ts m (LV ts n)).1=iw ts t:=by rw[rK];show IntKind.i64.wrap _=_;rw[key.1,e]
     exact ⟨f,dw.put (show dw (iw ts) (rK t ts m (LV ts n)).2 from key.2) f⟩
theorem Z' {ts:List Task} {ρ:Nat→Nat} (A:Ac ts ρ) {t:Int} (h0:0≤t) (h1:t<(ts.length:Int)):iw ts t=IntKind.i64.wrap ((ts.g t.toNat).aL+pX (iw ts) ts t ts.length 0 0):=by
 have r:RN ts ρ (ts.length+1) t:=⟨h0,h1,by omega⟩
 rw[show iw ts t=rL ts (ts.length+1) t from rfl,rL]
 rw[mL (fun i hi c=>(nv A ts.length (ts.length+1) (i:Int) o! (r.step A i hi c)).symm) _ _ _ (Nat.zero_add _)];rfl
def gU (ts:List Task) (m:Mi) (t:Int):Int×Mi:=LV ts 65 m t
theorem CI {d:Nat} {h hh:ak} {ah:AV} {bH knownN:Nat} (ab:List Task) (known:Mi) (ck:Int) (bU:aH h ah ab) (cj:hh.get bH=some (tK known)) (oc:known.length=knownN) (kr:h.get bH=none) (ly:0≤ck) (pq:ck<(ab.length:Int)) (v5:Ac ab (xU ab)) (AK:ab.length≤64) (bM:Tidy h) (az:Tidy hh) (aw:Has h hh) (gv:h.nx≤hh.nx):
 ∃hk,cA (d+197) (.fn 66) [.agg [ah,.map bH],.int .i64 ck] hh= .ret (.int .i64 (gU ab known ck).1) hk∧Tidy hk∧hh.nx≤hk.nx∧Has h hk∧hk.get bH=some (tK (gU ab known ck).2)∧(gU ab known ck).2.length=knownN:=by
 obtain ⟨hk,x1,x2,x3,x4,x5⟩:=SM v5 o! (d:=d) 65 h hh ah known ck bH bU cj kr ly pq ⟨ly,pq,by omega⟩ bM az aw gv
 exact ⟨hk,x1,x2,x3,x4,x5,oc⟩
theorem Nn {ts:List Task} {ρ:Nat→Nat} (A:Ac ts ρ):∀(n m:Nat) (k:Mi) (t:Int),n≤m→RN ts ρ n t→LV ts m k t=LV ts n k t
 | 0,m,k,t,_,r=>by have:=r.2.2;have:=A.le t.toNat;omega
 | n+1,0,k,t,h,r=>by omega
 | n+1,m+1,k,t,h,r=>by
   have key:∀(kq i:Nat) (v:Int) (a:Mi),i+kq=ts.length→iu (LV ts m) ts t kq i v a=iu (LV ts n) ts t kq i v a:=fun kq=>by
    induction kq with
    | zero=>intro i v a _;rfl
    | succ kq ih=>
      intro i v a e
      rw[iu,iu]
      cases c:aY (ts.g i).aq t with
      | false=>exact ih (i+1) v a o!
      | true=>rw[aj,aj,Nn A n m a (i:Int) o! (r.step A i o! c)];exact ih (i+1) _ _ o!
   rw[LV,LV,ks,ks,jH,jH,rK,rK,key _ _ _ _ (Nat.zero_add _)]
theorem qE (ts:List Task) (m:Mi) (t:Int) (h0:0≤t) (h1:t<(ts.length:Int)) (A:Ac ts (xU ts)) (Ha:ts.length≤64) (o:dw (iw ts) m):(gU ts m t).1=iw ts t∧dw (iw ts) (gU ts m t).2:=by
 have r:RN ts (xU ts) (ts.length+1) t:=⟨h0,h1,by omega⟩
 rw[gU,Nn A (ts.length+1) 65 m t o! r]
 exact XL A _ m t (Nat.le_refl _) r o
def Gw:Code:=(Tryz.f67.body).getD .skip
theorem zk:Tryz.f67.body=some Gw:=by kernel_rfl
def eL (ab:List Task) (known:Mi) (chain:List Int) (ck:Int) (ay:Int):Bool×Mi:=(bif (decide (((chain.length:Nat):Int)=0)) then ((decide (ay≤((gU ab known ck).1))),(gU ab known ck).2) else (bif (aY (ab.g ck.toNat).aq (chain.g (chain.length - 1))) then ((decide (ay≤((gU ab known ck).1))),(gU ab known ck).2) else (false,known)))
theorem O5 {d:Nat} {h hh:ak} {ah aS:AV} {bH knownN:Nat} (ab:List Task) (known:Mi) (chain:List Int) (ck:Int) (ay:Int) (bU:aH h ah ab) (mW:bW h .i64 3 aS chain) (cj:hh.get bH=some (tK known)) (oc:known.length=knownN) (kr:h.get bH=none) (ly:0≤ck) (pq:ck<(ab.length:Int)) (v5:Ac ab (xU ab)) (AK:ab.length≤64) (Lh:dw (iw ab) known) (bM:Tidy h) (az:Tidy hh) (aw:Has h hh) (gv:h.nx≤hh.nx):∃hk,cA (d+198) (.fn 67) [(AV.agg [ah,(AV.map bH)]),aS,(Zi ck),(Zi ay)] hh= .ret (AV.bool (eL ab known chain ck ay).1) hk∧Tidy hk∧hh.nx≤hk.nx∧Has h hk∧hk.get bH=some (tK (eL ab known chain ck ay).2)∧((eL ab known chain ck ay).2).length=knownN:=by
 have lE:=bU.small
 have O6:=mW.small
 have xR:=az _ _ cj
 obtain ⟨h1,bD,cb,ib,aI,cf⟩:=ik az (aK.cells [ah,(AV.map bH)] 81 false)
 have bx:Has h h1:=aw.trans cf
 have pB:bJ (some (.slice 3)) (some aS)=some (Zn chain.length):=mW.len
 rcases Bool.eq_false_or_eq_true (decide (((chain.length:Nat):Int)=0)) with f0 | f0
 · have fw:=of_decide_eq_true f0
   obtain ⟨hw4,acb,aeC,aaa,aab,aac⟩:=lW cb (cf _ _ cj)
   have XM:Has h hw4:=fv bx (by first | assumption | exact kg bM o!) aac
   obtain ⟨h5,aeD,js,ph,Et,SO,Sn⟩:=CI (d:=d) (h:=hw4) (knownN:=0) ab known ck (bU.has XM) (cf _ _ cj) (mR _) aaa (by first | omega | assumption) (by first | omega | assumption) (by first | omega | assumption) (by first | omega | assumption) acb cb aab o!
   obtain ⟨afo,afp⟩:=qE ab known ck (by first | omega | assumption) (by first | omega | assumption) (by first | omega | assumption) (by first | omega | assumption) (by first | omega | assumption)
   have eV:Has h h5:=(XM.trans Et)
   have e:eL ab known chain ck ay=((decide (ay≤((gU ab known ck).1))),(gU ab known ck).2):=by simp only[eL,f0,aj,af]
   rw[e]
   exact lB rfl (aR Tryz.func67 zk rfl (.inr rfl) (pk (d+197) _ _ hh _ h5 (NN bD (fun i=>(Pt i))<|CN 2<|VV pB<|VV (f_ 3 false true .i64 ((chain.length:Nat):Int) 0)<|CC<|BB f0<|BB f0<|BB f0<|BB f0<|BB f0<|BB f0<|BB f0<|BB f0<|BB f0<|BB f0<|BB f0<|BB f0<|BV f0 (qI true f0)<|CN 3<|TT<|MM (ao 81 0 (AV.agg [ah,(AV.map bH)]) aI k!)<|TT<|CC<|TT<|EE aeD<|TT<|CC<|TT<|VV (jf 3 false false .i64 (gU ab known ck).1 ay)<|CN 2<|ZZ) k!) k!) az js o! ⟨eV,SO,l!⟩ (fun q=>⟨aw,lV q cj SO,l!⟩)
 · have fw:=of_decide_eq_false f0
   obtain ⟨p5,q6,IF⟩:=bU.elem (i:=ck.toNat) o!
   have OG:b_ env (some (.slice 48)) (some ah) (some (Zi ck))=some (AV.ptr p5 q6):=by rw[show (ck:Int)=((ck.toNat:Nat):Int) by omega];exact IF
   have VO:bm env h1 26 (AV.ptr p5 (q6+2))=some ((ab.g ck.toNat).aG):=(bU.has bx).part (t:=26) (j:=2) o! IF k! rfl
   have IG:bJ (some (.slice 3)) (some aS)=some (Zn chain.length):=mW.len
   have u9:=RB 3 false true chain.length 1 o! o!
   obtain ⟨Sa,K4,tD,_⟩:=mW.elem (i:=(chain.length - 1)) o!
   have Dq:b_ env (some (.slice 3)) (some aS) (some (Zn (chain.length - 1)))=some (AV.ptr Sa K4):=tD
   have uL:bm env h1 3 (AV.ptr Sa K4)=some (Zi (chain.g (chain.length - 1))):=(mW.has bx).load o! tD
   have k14:=mV (d:=d+195) (ab.g ck.toNat).aq (chain.g (chain.length - 1)) ((bU.ok (i:=ck.toNat) o!).2.1.has bx) cb
   have VX:AV.same 20 ah ah=true:=bU.same 19
   have PI:AV.same 20 (ab.g ck.toNat).aG (ab.g ck.toNat).aG=true:=((bU.ok (i:=ck.toNat) o!).2.1).same 19
   rcases Bool.eq_false_or_eq_true (aY (ab.g ck.toNat).aq (chain.g (chain.length - 1))) with f1 | f1
   · obtain ⟨acd,aad,adb,Wf,Wg,Wh⟩:=lW cb (cf _ _ cj)
     have SP:Has h acd:=fv bx (by first | assumption | exact kg bM o!) Wh
     obtain ⟨h19,ace,SQ,afq,aae,No,ade⟩:=CI (d:=d) (h:=acd) (knownN:=0) ab known ck (bU.has SP) (cf _ _ cj) (mR _) Wf (by first | omega | assumption) (by first | omega | assumption) (by first | omega | assumption) (by first | omega | assumption) aad cb Wg o!
     obtain ⟨aeE,aeF⟩:=qE ab known ck (by first | omega | assumption) (by first | omega | assumption) (by first | omega | assumption) (by first | omega | assumption) (by first | omega | assumption)
     have SU:Has h h19:=(SP.trans aae)
     have e:eL ab known chain ck ay=((decide (ay≤((gU ab known ck).1))),(gU ab known ck).2):=by simp only[eL,f0,f1,aj,af]
     rw[e]
     exact lB rfl (aR Tryz.func67 zk rfl (.inr rfl) (pk (d+197) _ _ hh _ h19 (NN bD (fun i=>(Pt i))<|CN 2<|VV pB<|VV (f_ 3 false true .i64 ((chain.length:Nat):Int) 0)<|CC<|BC f0<|BM f0 (ao 22 0 ah aI k!)<|BC f0<|BV f0 OG<|BC f0<|BM f0 VO<|BC f0<|BC f0<|BV f0 IG<|BV f0 u9<|BV f0 Dq<|BM f0 uL<|BB f0<|EE k14<|VV (bf (a:=some (AV.bool true)) (b:=some (AV.bool (aY (ab.g ck.toNat).aq (chain.g (chain.length - 1))))) f0)<|CC<|HH (ao 22 0 ah aI k!)<|HH VX<|HH VO<|HH PI<|HH uL<|HH (show AV.same 20 (Zi (chain.g (chain.length - 1))) (Zi (chain.g (chain.length - 1)))=true from aJ 19 _ _)<|CN 2<|BM f1 (ao 81 0 (AV.agg [ah,(AV.map bH)]) aI k!)<|BC f1<|BB f1<|EE ace<|BC f1<|BV f1 (jf 3 false false .i64 (gU ab known ck).1 ay)<|VV (nK (decide (ay≤((gU ab known ck).1))) false f1)<|CC<|ZZ) k!) k!) az SQ o! ⟨SU,No,l!⟩ (fun q=>⟨aw,lV q cj No,l!⟩)
   · have e:eL ab known chain ck ay=(false,known):=by simp only[eL,f0,f1,aj,af]
     rw[e]
     exact lB rfl (aR Tryz.func67 zk rfl (.inr rfl) (pk (d+197) _ _ hh _ h1 (NN bD (fun i=>(Pt i))<|CN 2<|VV pB<|VV (f_ 3 false true .i64 ((chain.length:Nat):Int) 0)<|CC<|BC f0<|BM f0 (ao 22 0 ah aI k!)<|BC f0<|BV f0 OG<|BC f0<|BM f0 VO<|BC f0<|BC f0<|BV f0 IG<|BV f0 u9<|BV f0 Dq<|BM f0 uL<|BB f0<|EE k14<|VV (bf (a:=some (AV.bool true)) (b:=some (AV.bool (aY (ab.g ck.toNat).aq (chain.g (chain.length - 1))))) f0)<|CC<|HH (ao 22 0 ah aI k!)<|HH VX<|HH VO<|HH PI<|HH uL<|HH (show AV.same 20 (Zi (chain.g (chain.length - 1))) (Zi (chain.g (chain.length - 1)))=true from aJ 19 _ _)<|CN 2<|BB f1<|BB f1<|BB f1<|BB f1<|BV f1 (vK false f1)<|CC<|ZZ) k!) k!) az cb o! ⟨bx,(cf _ _ cj),l!⟩ (fun q=>⟨aw,lV q cj (cf _ _ cj),l!⟩)
def Ag:Code:=(Tryz.f23.body).getD .skip
theorem SV:Tryz.f23.body=some Ag:=by kernel_rfl
def Lr:Code:=(bz Ag).getD 0 .skip
def jm (ab:List Task):Nat→Nat→Int→Mi→Int×Mi
 | 0,_,DC,ba=>(DC,ba)
 | c7+1,i0,DC,ba=>jm ab c7 (i0+1) (imax DC (gU ab ba ((i0:Nat):Int)).1) (gU ab ba ((i0:Nat):Int)).2
theorem Ah {d:Nat} {h:ak} (ab:List Task) (ah:AV) (known:Mi) (bh:Nat) (dg:Nat) (aO:aH h ah ab) (gM:Ac ab (xU ab)) (iS:ab.length≤64) (rH:dw (iw ab) known) (bM:Tidy h) (pT:h.nx≤bh) (yX:h.get dg=none) (oV:dg≠bh):∀(k_ i_:Nat) (DC:Int) (ba:Mi) (_:i_+k_=ab.length) (_:dw (iw ab) (ba)) (x:Nat→AV) (hh:ak) (az:Tidy hh) (aw:Has h hh) (gv:h.nx≤hh.nx) (ng:ba.length=0) (aM:hh.get bh=some (aK.cells [ah,(AV.map dg)] 81 false)) (cS:hh.get dg=some (tK ba)),bI (σ:=Int×Mi) (ρ:=Unit) (cA (d+197)) Lr ⟨((x 0)::(Pt bh)::(x 2)::(Zi DC)::rx x 4 3 ((Zn ab.length)::(Zn i_)::rx x 9 9 [])),hh,[],.no⟩ (.exit 0) hh (fun r z y=>((y 0)::(Pt bh)::(y 2)::(Zi r.1)::rx y 4 3 ((Zn ab.length)::rx y 8 10 []))) (fun r z y=>((y 0)::(Pt bh)::rx y 2 5 ((Zn ab.length)::rx y 8 10 []))) (fun r z hk=>Has h hk∧hk.get bh=some (aK.cells [ah,(AV.map dg)] 81 false)∧hk.get dg=some (tK r.2)∧r.2.length=0∧dw (iw ab) (r.2)) (fun r z hk=>Has h hk) (Sum.inl (jm ab k_ i_ DC ba))
 | 0,i0,DC,ba,fK,dt,x,hh,az,aw,gv,ng,aM,cS=>by
   have bY:=aO.small
   have jh:=az _ _ aM
   have Az:=az _ _ cS
   have q1:(decide (((i0:Nat):Int)<((ab.length:Nat):Int)))=false:=d!
   exact bI.out (DC,ba) AV.undef rfl (pk (d+197) _ _ hh _ hh (VV (aQ 3 false false .i64 ((i0:Nat):Int) ((ab.length:Nat):Int))<|BB q1<|ZZ) k!) az o! ⟨aw,aM,cS,l!,(show dw (iw ab) (ba) from (by first | omega | assumption))⟩ k!
 | c7+1,i0,DC,ba,fK,dt,x,hh,az,aw,gv,ng,aM,cS=>by
   have bY:=aO.small
   have jh:=az _ _ aM
   have Az:=az _ _ cS
   have q1:(decide (((i0:Nat):Int)<((ab.length:Nat):Int)))=true:=d!
   obtain ⟨hw2,SD,Z7,Ll,Lm,CE⟩:=lW az cS
   have Jb:Has h hw2:=fv aw (by first | assumption | exact kg bM o!) CE
   obtain ⟨h3,Sl,j0,oU,se,Gv,Lk⟩:=CI (d:=d) (h:=hw2) (knownN:=0) ab ba ((i0:Nat):Int) (aO.has Jb) cS (mR _) Ll (by first | omega | assumption) (by first | omega | assumption) (by first | omega | assumption) (by first | omega | assumption) SD az Lm o!
   obtain ⟨afr,afs⟩:=qE ab ba ((i0:Nat):Int) (by first | omega | assumption) (by first | omega | assumption) (by first | omega | assumption) (by first | omega | assumption) (by first | omega | assumption)
   have fB:Has h h3:=(Jb.trans se)
   have u4:=ew 3 false true i0 1 o!
   exact bI.round (congrArg Sum.inl (by simp only[jm,aj,af])) (pk (d+197) _ _ hh _ h3 (VV (aQ 3 false false .i64 ((i0:Nat):Int) ((ab.length:Nat):Int))<|BB q1<|CN 3<|MM (ao 81 0 (AV.agg [ah,(AV.map dg)]) aM k!)<|CC<|EE Sl<|CN 2<|VV u4<|CC<|ZZ) k!) o! _ k! (fun x=>Ah ab ah known bh dg aO gM iS rH bM pT yX oV c7 (i0+1) (imax DC (gU ab ba ((i0:Nat):Int)).1) (gU ab ba ((i0:Nat):Int)).2 o! (show dw (iw ab) (gU ab ba ((i0:Nat):Int)).2 from (by first | omega | assumption)) x h3 j0 fB o! l! (se _ _ ((CE _ o!).trans aM)) Gv)
def dq (ab:List Task) (known:Mi):Int×Mi:=((jm ab ab.length 0 0 known).1,(jm ab ab.length 0 0 known).2)
theorem SW {d:Nat} {h hh:ak} {ah:AV} {bH knownN:Nat} (ab:List Task) (known:Mi) (bU:aH h ah ab) (cj:hh.get bH=some (tK known)) (oc:known.length=knownN) (kr:h.get bH=none) (ly:Ac ab (xU ab)) (pq:ab.length≤64) (v5:dw (iw ab) known) (bM:Tidy h) (az:Tidy hh) (aw:Has h hh) (gv:h.nx≤hh.nx):∃hk,cA (d+198) (.fn 23) [(AV.agg [ah,(AV.map bH)])] hh= .ret (Zi (dq ab known).1) hk∧Tidy hk∧hh.nx≤hk.nx∧Has h hk∧hk.get bH=some (tK (dq ab known).2)∧((dq ab known).2).length=knownN:=by
 have lE:=bU.small
 have xR:=az _ _ cj
 obtain ⟨h1,bD,cb,ib,aI,cf⟩:=ik az (aK.cells [ah,(AV.map bH)] 81 false)
 have bx:Has h h1:=aw.trans cf
 have pB:bJ (some (.slice 48)) (some ah)=some (Zn ab.length):=bU.len
 obtain ⟨zo5,VU,h4,gI,nh,Dk,sc,zh,Gy,Lg,mU⟩:=bI.n rfl (Ah (d:=d) (h:=h) ab ah known hh.nx bH bU (by assumption) o! o! bM o! (by first | assumption | exact kg bM o!) o! ab.length 0 0 known o! (show dw (iw ab) (known) from (by first | omega | assumption)) (fun k_=>(((AV.agg [ah,(AV.map bH)])::(Pt hh.nx)::(Zi 0)::(Zi 0)::AV.undef::(Pt hh.nx)::ah::(Zn ab.length)::(Zi 0)::gB 9):List AV).getD k_ AV.undef) h1 cb bx o! l! aI (cf _ _ cj))
 have lI:Has h h4:=sc
 have e:dq ab known=((jm ab ab.length 0 0 known).1,(jm ab ab.length 0 0 known).2):=by simp only[dq,aj,af]
 rw[e]
 exact lB rfl (aR Tryz.func23 SV rfl (.inr rfl) (pk (d+197) _ _ hh _ h4 (NN bD (fun i=>(Pt i))<|CN 3<|MM (ao 22 0 ah aI k!)<|VV pB<|CC<|LL gI<|CN 2<|ZZ) k!) k!) az nh o! ⟨lI,Gy,l!⟩ (fun q=>⟨aw,lV q cj Gy,l!⟩)
theorem Lt {d:Nat} {f:FuncId} {args:List AV} {hh h':ak} {v:AV} {P:ak→Prop} (hm:M0 f args hh=none) (hd:uD env (cA d) f args hh v h') (y:Tidy hh) (y':Tidy h') (n:hh.nx≤h'.nx) (p':P h') (p:Has hh h'→AV.within hh.nx 20 v=true→P hh):∃hk,cA (d+1) (.fn f) args hh= .ret v hk∧Tidy hk∧hh.nx≤hk.nx∧P hk:=by
 by_cases c:Has hh h'∧AV.within hh.nx 20 v=true
 · exact ⟨_,ax hm hd c.1 c.2,y,Nat.le_refl _,p c.1 c.2⟩
 · exact ⟨_,yS hm hd c,y',n,p'⟩
theorem dc.aaf {k:IntKind} {e:TypeId} {g h' hh:ak} {z:AV} {l:List Int} (o:dc e g h' z (aE.zs k l)) (hn:hh.nx≤g.nx) (v:AV.within hh.nx 20 z=true) (hs:bQ env e=some 1) (ha:eN env e=some false):bW hh k e z l:=by
 rcases o with ⟨rfl,e0⟩ | ⟨ep,p,op,rfl,hp,hg⟩
 · have:l=[]:=List.length_eq_zero_iff.1 (by have:=congrArg List.length e0;rwa [kJ] at this)
   subst this
   exact bW.nil hs ha
 · have:=of_decide_eq_true (show decide (p<hh.nx)=true from v)
   omega
theorem dc.keq {e:TypeId} {g h h':ak} {z:AV} {L:List AV} {b:Nat} (o:dc e g h z L) (k:∀i,i≠b→h'.get i=h.get i) (hb:b<g.nx):dc e g h' z L:=o.imp id fun ⟨hn,p,op,e1,h1,q⟩=>⟨hn,p,op,e1,h1,(k p o!).trans q⟩
theorem Wi {v:Bool} {i:Nat} (h:i=0→v=true) (f:v=false):0<i:=Nat.pos_of_ne_zero fun z=>by rw[h z] at f;cases f
theorem dc.acf {e:TypeId} {g h' hh:ak} {z:AV} {l:List AV} (o:dc e g h' z l) (hn:hh.nx≤g.nx) (v:AV.within hh.nx 20 z=true):dc e hh hh z l:=by
 rcases o with q | ⟨ep,p,op,rfl,hp,hg⟩
 · exact .inl q
 · have:=of_decide_eq_true (show decide (p<hh.nx)=true from v)
   omega
theorem xV {nx:Nat} {a c e:Int} {z:AV} (h:AV.within nx 20 (.tuple [.agg [.int .i64 a,z,.int .i64 c],.int .i64 e])=true):AV.within nx 18 z=true:=by
 simpa [AV.within] using h
def cz (b:Bool) (z:AV):AV:=bif b then z else .aD
def tM (ts:List Task):Nat→Nat→Int→Int
 | 0,_,v=>v
 | k+1,i,v=>tM ts k (i+1) (imax v (iw ts (i:Int)))
def tN (ts:List Task):Int:=tM ts ts.length 0 0
theorem Np {ts:List Task} (A:Ac ts (xU ts)) (Ha:ts.length≤64):∀(k i:Nat) (v:Int) (m:Mi),i+k=ts.length→dw (iw ts) m→(jm ts k i v m).1=tM ts k i v∧dw (iw ts) (jm ts k i v m).2
 | 0,i,v,m,_,o=>⟨rfl,o⟩
 | k+1,i,v,m,e,o=>by
   obtain ⟨a,b⟩:=qE ts m (i:Int) o! o! A Ha o
   rw[jm,tM,←a]
   exact Np A Ha k (i+1) _ _ o! b
theorem zl (ts:List Task) (m:Mi) (A:Ac ts (xU ts)) (Ha:ts.length≤64) (o:dw (iw ts) m):(dq ts m).1=tN ts∧dw (iw ts) (dq ts m).2:=Np A Ha _ 0 0 m (Nat.zero_add _) o
def kO (ts:List Task) (chain:List Int) (t ay:Int):Bool:=(decide (((chain.length:Nat):Int)=0)||aY (ts.g t.toNat).aq (chain.g (chain.length - 1)))&&decide (ay≤iw ts t)
theorem we (ts:List Task) (m:Mi) (chain:List Int) (t ay:Int) (h0:0≤t) (h1:t<(ts.length:Int)) (A:Ac ts (xU ts)) (Ha:ts.length≤64) (o:dw (iw ts) m):(eL ts m chain t ay).1=kO ts chain t ay∧dw (iw ts) (eL ts m chain t ay).2:=by
 obtain ⟨a,b⟩:=qE ts m t h0 h1 A Ha o
 rw[eL,kO,a]
 cases decide (((chain.length:Nat):Int)=0)<;>cases aY (ts.g t.toNat).aq (chain.g (chain.length - 1))<;>first | exact ⟨rfl,b⟩ | exact ⟨rfl,o⟩
def ky (ts:List Task) (chain:List Int) (ay:Int) (acg:Int):Prop:=∃q:Int,acg≤q∧q<(ts.length:Int)∧kO ts chain q ay=true
theorem ky.next {ts:List Task} {chain:List Int} {ay a:Int} (c:ky ts chain ay a) (h:kO ts chain a ay=false):ky ts chain ay (a+1):=by
 obtain ⟨q,h1,h2,h3⟩:=c
 refine ⟨q,?_,h2,h3⟩
 by_cases e:q=a
 · subst e;rw[h] at h3;cases h3
 · omega
theorem ky.lt {ts:List Task} {chain:List Int} {ay a:Int} (c:ky ts chain ay a):a<(ts.length:Int):=by
 obtain ⟨q,h1,h2,h3⟩:=c;omega
def GA (ts:List Task) (chain:List Int):Int:=bif decide (((chain.length:Nat):Int)=0) then (ts.length:Int)+2 else (ts.length:Int)+1 - xU ts (chain.g (chain.length - 1)).toNat
theorem xW (ts:List Task) (chain:List Int):1≤GA ts chain∧GA ts chain≤(ts.length:Int)+2:=by
 unfold GA
 have:=Nm ts ts.length ([],List.replicate ts.length false) (chain.g (chain.length - 1)).toNat
 have e:xU ts (chain.g (chain.length - 1)).toNat=dS ts ts.length ([],List.replicate ts.length false) (chain.g (chain.length - 1)).toNat:=rfl
 cases decide (((chain.length:Nat):Int)=0)
 · rw[af];omega
 · rw[aj];omega
theorem GB (l:List Int) (x:Int):(l++[x]).g ((l++[x]).length - 1)=x:=by
 rw[List.length_append,List.length_singleton,Nat.add_sub_cancel,List.g,List.getD_eq_getElem?_getD,List.getElem?_append_right (Nat.le_refl _),Nat.sub_self];rfl
theorem GC {L:Int→Int} {ts:List Task} {t:Int}:∀(k i:Nat) (v:Int),v≤pX L ts t k i v
 | 0,i,v=>Int.le_refl _
 | k+1,i,v=>by
   rw[pX]
   refine Int.le_trans ?_ (GC k (i+1) _)
   cases aY (ts.g i).aq t with
   | false=>exact Int.le_refl _
   | true=>rw[aj];show v≤imax v _;unfold imax;split<;>omega
theorem GD {L:Int→Int} {ts:List Task} {t:Int}:∀(k i:Nat) (v:Int),pX L ts t k i v=v∨∃q:Nat,i≤q∧q<i+k∧aY (ts.g q).aq t=true∧pX L ts t k i v=L (q:Int)
 | 0,i,v=> .inl rfl
 | k+1,i,v=>by
   rw[pX]
   rcases GD (L:=L) (ts:=ts) (t:=t) k (i+1) (bif aY (ts.g i).aq t then imax v (L (i:Int)) else v) with e | ⟨q,h1,h2,h3,h4⟩
   · rw[e]
     cases c:aY (ts.g i).aq t with
     | false=>exact .inl rfl
     | true=>
       rw[aj,imax]
       by_cases b:L (i:Int) >v
       · exact .inr ⟨i,Nat.le_refl _,by omega,c,if_pos b⟩
       · exact .inl (if_neg b)
   · exact .inr ⟨q,by omega,by omega,h3,h4⟩
theorem GF {L:Int→Int} {ts:List Task} {t B:Int} (h:∀i:Nat,i<ts.length→L (i:Int)≤B):∀(k i:Nat) (v:Int),i+k=ts.length→v≤B→pX L ts t k i v≤B
 | 0,i,v,_,hv=>hv
 | k+1,i,v,e,hv=>by
   rw[pX]
   refine GF h k (i+1) _ o! ?_
   cases aY (ts.g i).aq t with
   | false=>exact hv
   | true=>
     rw[aj,imax];have:=h i o!
     split<;>assumption
theorem Nq {ts:List Task} (tk:∀i,i<ts.length→0≤(ts.g i).aL∧(ts.g i).aL≤100000):∀(n:Nat) (t:Int),n≤65→0≤t→t<(ts.length:Int)→0≤rL ts n t∧rL ts n t≤100000*(n:Int)∧(∀k,n=k+1→rL ts n t=(ts.g t.toNat).aL+pX (rL ts k) ts t ts.length 0 0)
 | 0,t,_,_,_=>⟨Int.le_refl _,Int.le_refl _,fun k h=>by omega⟩
 | n+1,t,hn,h0,h1=>by
   have ih:=Nq tk n
   have a:=GC (L:=rL ts n) (ts:=ts) (t:=t) ts.length 0 0
   have b:=GF (L:=rL ts n) (ts:=ts) (t:=t) (B:=100000*(n:Int)) (fun i hi=>(ih (i:Int) o! o! o!).2.1) ts.length 0 0 (Nat.zero_add _) o!
   have c:=tk t.toNat o!
   rw[rL,wrap_i64 o! o!]
   exact ⟨by omega,by omega,fun k h=>by cases h;rfl⟩
theorem Lu {ts:List Task} (tk:∀i,i<ts.length→0≤(ts.g i).aL∧(ts.g i).aL≤100000) (Ha:ts.length≤64) {t:Int} (h0:0≤t) (h1:t<(ts.length:Int)):0≤iw ts t∧iw ts t≤6500000:=by
 obtain ⟨a,b,_⟩:=Nq tk (ts.length+1) t o! h0 h1
 exact ⟨a,by unfold iw;omega⟩
theorem SX {ts:List Task} {ρ:Nat→Nat} (A:Ac ts ρ) (tk:∀i,i<ts.length→0≤(ts.g i).aL∧(ts.g i).aL≤100000) (Ha:ts.length≤64) {t:Int} (h0:0≤t) (h1:t<(ts.length:Int)):iw ts t=(ts.g t.toNat).aL+pX (iw ts) ts t ts.length 0 0:=by
 rw[Z' A h0 h1]
 have a:=GC (L:=iw ts) (ts:=ts) (t:=t) ts.length 0 0
 have b:=GF (L:=iw ts) (ts:=ts) (t:=t) (B:=6500000) (fun i hi=>(Lu tk Ha o! o!).2) ts.length 0 0 (Nat.zero_add _) o!
 have c:=tk t.toNat o!
 exact wrap_i64 o! o!
theorem Jg {ts:List Task} {ρ:Nat→Nat} (A:Ac ts ρ) {chain:List Int} {n mi:Int} (h:kO ts chain n mi=true) (h0:0≤n) (h1:n<(ts.length:Int)) (hc:chain.length≠0):ρ (chain.g (chain.length - 1)).toNat<ρ n.toNat:=by
 rw[kO,decide_eq_false (by omega:¬((chain.length:Nat):Int)=0),Bool.false_or,Bool.and_eq_true] at h
 obtain ⟨q,hq,e⟩:=Lq h.1
 have:=A.lt n.toNat o! q hq
 rwa [e] at this
theorem xX {ts:List Task} {ch:List Int} {mi a:Int} {m:Mi} {W:Bool×Mi} (lq:dw (iw ts) W.2) (ld:W.1=kO ts ch a mi) (f:(!W.1)=true) (inv:(dw (iw ts) m∧0≤a∧a<(ts.length:Int))∧ky ts ch mi a):(dw (iw ts) W.2∧0≤a+1∧a+1<(ts.length:Int))∧ky ts ch mi (a+1):=by
 have c:=inv.2.next (by rw[←ld];simpa using f)
 exact ⟨⟨lq,by omega,c.lt⟩,c⟩
theorem Lv {ts:List Task} {ch:List Int} {mi a:Int} {m:Mi} {W:Bool×Mi} (lq:dw (iw ts) W.2) (inv:(dw (iw ts) m∧0≤a∧a<(ts.length:Int))∧ky ts ch mi a):dw (iw ts) W.2∧0≤a∧a<(ts.length:Int):=⟨lq,inv.1.2⟩
def CJ (ts:List Task) (ch:List Int) (mi:Int):Prop:=((((ch.length:Nat):Int)=0∨0<mi)→ky ts ch mi 0)∧-100000≤mi∧mi≤100001∧(((ch.length:Nat):Int)=0→0≤mi)∧((ch.length:Nat):Int)+GA ts ch≤(ts.length:Int)+2
theorem Jh {ts:List Task} {ch:List Int} {mi:Int} (Ha:ts.length≤64) (o:CJ ts ch mi):ch.length≤66:=by
 have:=xW ts ch
 have:=o.2.2.2.2
 omega
theorem od {ts:List Task} {ch:List Int} {mi:Int} {m:Mi} (inv:(dw (iw ts) m∧True)∧CJ ts ch mi) (h:((ch.length:Nat):Int)=0∨0<mi):(dw (iw ts) m∧(0:Int)≤0∧(0:Int)<(ts.length:Int))∧ky ts ch mi 0:=by
 have c:=inv.2.1 h
 exact ⟨⟨inv.1.1,Int.le_refl _,c.lt⟩,c⟩
theorem lz {ts:List Task} {ch:List Int} {mi n:Int} (A:Ac ts (xU ts)) (Ha:ts.length≤64) (tk:∀i,i<ts.length→0≤(ts.g i).aL∧(ts.g i).aL≤100000) (hl:kO ts ch n mi=true) (h0:0≤n) (h1:n<(ts.length:Int)) (o:CJ ts ch mi) (hg:((ch.length:Nat):Int)=0∨0<mi):GA ts (ch++[n])+1≤GA ts ch∧CJ ts (ch++[n]) (IntKind.i64.wrap (mi -(ts.g n.toNat).aL)):=by
 obtain ⟨o1,o2,o3,o4,o5⟩:=o
 have c:=tk n.toNat o!
 have l1:(ch++[n]).length=ch.length+1:=by rw[List.length_append];rfl
 have key:GA ts (ch++[n])+1≤GA ts ch:=by
  rw[GA,GA,GB,decide_eq_false (by omega:¬(((ch++[n]).length:Nat):Int)=0),af]
  have:=Nm ts ts.length ([],List.replicate ts.length false) n.toNat
  have e:xU ts n.toNat=dS ts ts.length ([],List.replicate ts.length false) n.toNat:=rfl
  by_cases z:ch.length=0
  · rw[decide_eq_true (by omega:((ch.length:Nat):Int)=0),aj];omega
  · rw[decide_eq_false (by omega:¬((ch.length:Nat):Int)=0),af]
    have:=Jg A hl h0 h1 z
    omega
 refine ⟨key,?_⟩
 · have w:IntKind.i64.wrap (mi -(ts.g n.toNat).aL)=mi -(ts.g n.toNat).aL:=wrap_i64 o! o!
   rw[w]
   refine ⟨fun h=>?_,by omega,by omega,fun h=>by omega,by omega⟩
   have hp:0<mi -(ts.g n.toNat).aL:=by omega
   rw[kO,Bool.and_eq_true] at hl
   have hm:=of_decide_eq_true hl.2
   rw[SX A tk Ha h0 h1] at hm
   rcases GD (L:=iw ts) (ts:=ts) (t:=n) ts.length 0 0 with e | ⟨q,_,h2,h3,h4⟩
   · omega
   · refine ⟨(q:Int),by omega,by omega,?_⟩
     rw[kO,GB,Int.toNat_natCast,h3,decide_eq_true (by omega:mi -(ts.g n.toNat).aL≤iw ts (q:Int))];simp
theorem Ji {ts:List Task}:∀(k i:Nat) (v:Int),tM ts k i v=v∨∃q:Nat,i≤q∧q<i+k∧tM ts k i v=iw ts (q:Int)
 | 0,i,v=> .inl rfl
 | k+1,i,v=>by
   rw[tM]
   rcases Ji (ts:=ts) k (i+1) (imax v (iw ts (i:Int))) with e | ⟨q,h1,h2,h3⟩
   · rw[e,imax]
     by_cases b:iw ts (i:Int) >v
     · exact .inr ⟨i,Nat.le_refl _,by omega,if_pos b⟩
     · exact .inl (if_neg b)
   · exact .inr ⟨q,by omega,by omega,h3⟩
theorem Jj {ts:List Task}:∀(k i:Nat) (v:Int),v≤tM ts k i v
 | 0,i,v=>Int.le_refl _
 | k+1,i,v=>by
   rw[tM]
   refine Int.le_trans ?_ (Jj k (i+1) _)
   show v≤imax v _
   unfold imax;split<;>omega
theorem O8 {ts:List Task} (tk:∀i,i<ts.length→0≤(ts.g i).aL∧(ts.g i).aL≤100000) (Ha:ts.length≤64) (hp:0<ts.length):ky ts [] (cd (tN ts) 100001) 0∧0≤cd (tN ts) 100001∧cd (tN ts) 100001≤100001:=by
 have lo:=Jj (ts:=ts) ts.length 0 0
 have JG:0≤tN ts:=lo
 refine ⟨?_,by unfold cd;split<;>omega,by unfold cd;split<;>omega⟩
 have im:cd (tN ts) 100001≤tN ts:=by unfold cd;split<;>omega
 rcases Ji (ts:=ts) ts.length 0 0 with e | ⟨q,_,h2,h3⟩
 · have e':tN ts=0:=e
   have:=(Lu tk Ha (t:=0) (Int.le_refl _) o!).1
   exact ⟨0,Int.le_refl _,by omega,by rw[kO,decide_eq_true (by omega:cd (tN ts) 100001≤iw ts 0)];rfl⟩
 · have e':tN ts=iw ts (q:Int):=h3
   exact ⟨(q:Int),by omega,by omega,by rw[kO,decide_eq_true (by omega:cd (tN ts) 100001≤iw ts (q:Int))];rfl⟩
theorem EA {j:cF} (F:eQ j) (hp:0<j.ab.length):ky j.ab [] (cd (dq j.ab (⟨[]⟩:Mi)).1 100001) 0∧0≤cd (dq j.ab (⟨[]⟩:Mi)).1 100001∧cd (dq j.ab (⟨[]⟩:Mi)).1 100001≤100001:=by
 rw[(zl j.ab ⟨[]⟩ F.ac F.nt (dw.nil _)).1]
 exact O8 F.tk F.nt hp
end
end Go.Proofs.aE
