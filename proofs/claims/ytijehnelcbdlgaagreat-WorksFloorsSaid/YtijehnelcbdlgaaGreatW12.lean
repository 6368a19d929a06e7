import Derived.Test.YtijehnelcbdlgaaGreatW11
import Derived.Test.YtijehnelcbdlgaaGreatW0
import Derived.Test.YtijehnelcbdlgaaGreatA7
namespace Go.Proofs.aE
open Go.Proofs Ab
noncomputable section
set_option maxRecDepth 100000
set_option maxHeartbeats 4000000
set_option linter.unusedVariables false
set_option linter.unusedSimpArgs false
theorem NR {j:cF} (F:eQ j):∀(k i:Nat) (v:Int),i+k=j.ab.length→br j k i v=tM j.ab k i v
 | 0,i,v,_=>rfl
 | k+1,i,v,e=>by rw[br,tM,GP F o! o!,NR F k (i+1) _ o!]
theorem A2 {j:cF} {i0:Nat} {b:Int}:∀(k i:Nat) (v:Bool),cq j i0 b k i v=(v||anyI (fun n=>decide (b=(j.ab.g i0).aq.g n)) k i)
 | 0,i,v=>by rw[cq,anyI,Bool.or_false]
 | k+1,i,v=>by
   rw[cq,anyI]
   cases v with
   | true=>rw[aj,A2 k (i+1),Bool.true_or,Bool.true_or]
   | false=>
     rw[af,A2 k (i+1),Bool.false_or]
     congr 1
     by_cases c:(j.ab.g i0).aq.g i=b
     · rw[decide_eq_true c,decide_eq_true c.symm]
     · rw[decide_eq_false c,decide_eq_false (fun e=>c e.symm)]
theorem JC {j:cF} (F:eQ j) {V:Int→Int→List Int} {ch:List Int} {mi b:Int} (HB:∀q:Nat,q<j.ab.length→cq j q b (j.ab.g q).aq.length 0 (decide (b<0))=(decide (((ch.length:Nat):Int)=0)||aY (j.ab.g q).aq (ch.g (ch.length - 1)))):∀(k a:Nat) (k1:Nat) (m:Mi),a+k=j.ab.length→(j.ab.length:Int) -(a:Int)≤(k1:Int)→((dw (iw j.ab) m∧0≤(a:Int)∧(a:Int)<(j.ab.length:Int))∧ky j.ab ch mi (a:Int))→
 dy V mi j b k a=Sum.inr (bif decide ((j.ab.g (aW j.ab ch mi k1 (a:Int) m).1.toNat).aL<mi) then (aW j.ab ch mi k1 (a:Int) m).1::V (aW j.ab ch mi k1 (a:Int) m).1 (IntKind.i64.wrap (mi -(j.ab.g (aW j.ab ch mi k1 (a:Int) m).1.toNat).aL)) else [(aW j.ab ch mi k1 (a:Int) m).1])∧dw (iw j.ab) (aW j.ab ch mi k1 (a:Int) m).2∧0≤(aW j.ab ch mi k1 (a:Int) m).1∧(aW j.ab ch mi k1 (a:Int) m).1<(j.ab.length:Int)
 | 0,a,k1,m,e,h,i=>by have:=i.1.2.2;omega
 | k+1,a,0,m,e,h,i=>by have:=i.1.2.2;omega
 | k+1,a,k1+1,m,e,h,i=>by
   obtain ⟨ld,lq⟩:=we j.ab m ch (a:Int) mi i.1.2.1 i.1.2.2 F.ac F.nt i.1.1
   have ll:kO j.ab ch (a:Int) mi=((decide (((ch.length:Nat):Int)=0)||aY (j.ab.g a).aq (ch.g (ch.length - 1)))&&decide (mi≤iw j.ab (a:Int))):=by rw[kO,Int.toNat_natCast]
   rw[dy,aW,HB a o!,GP F o! o!,ld]
   cases c:kO j.ab ch (a:Int) mi with
   | true=>
     rw[c] at ll
     have l2:=ll.symm
     rw[Bool.and_eq_true] at l2
     have:=of_decide_eq_true l2.2
     rw[l2.1,Bool.not_true,af,decide_eq_false (by omega:¬iw j.ab (a:Int)<mi),af,af,Int.toNat_natCast]
     refine ⟨?_,lq,i.1.2.1,i.1.2.2⟩
     cases decide ((j.ab.g a).aL<mi)<;>rfl
   | false=>
     have st:=xX (W:=eL j.ab m ch (a:Int) mi) lq ld (by rw[ld,c];rfl) i
     have ih:=JC F (V:=V) HB k (a+1) k1 (eL j.ab m ch (a:Int) mi).2 o! o! st
     rw[Bool.not_false,aj]
     rw[c] at ll
     cases d:(decide (((ch.length:Nat):Int)=0)||aY (j.ab.g a).aq (ch.g (ch.length - 1))) with
     | false=>rw[Bool.not_false,aj];exact ih
     | true=>
       rw[d,Bool.true_and] at ll
       have:=of_decide_eq_false ll.symm
       rw[Bool.not_true,af,decide_eq_true (by omega:iw j.ab (a:Int)<mi),aj];exact ih
theorem WK {j:cF} {ch:List Int} {q:Int} (h0:0≤q):∀p:Nat,p<j.ab.length→cq j p q (j.ab.g p).aq.length 0 (decide (q<0))=(decide ((((ch++[q]).length:Nat):Int)=0)||aY (j.ab.g p).aq ((ch++[q]).g ((ch++[q]).length - 1))):=fun p _=>by
 have l1:(ch++[q]).length=ch.length+1:=by rw[List.length_append];rfl
 rw[A2,←CG,GB,decide_eq_false (by omega:¬q<0),decide_eq_false (by omega:¬(((ch++[q]).length:Nat):Int)=0)]
theorem JD {j:cF} (F:eQ j):∀(n k:Nat) (ch:List Int) (mi:Int) (m:Mi) (b:Int),GA j.ab ch≤(k:Int)→dw (iw j.ab) m→CJ j.ab ch mi→(((ch.length:Nat):Int)=0∨0<mi)→(∀q:Nat,q<j.ab.length→cq j q b (j.ab.g q).aq.length 0 (decide (b<0))=(decide (((ch.length:Nat):Int)=0)||aY (j.ab.g q).aq (ch.g (ch.length - 1))))→(((ch.length:Nat):Int)=0∧66≤n∨ch.length≠0∧RN j.ab (xU j.ab) n (ch.g (ch.length - 1)))→(et j.ab k mi ch m).1=ch++LO j n b mi
 | 0,k,ch,mi,m,b,hk,om,o,hg,HB,hr=>by
   rcases hr with ⟨_,h⟩ | ⟨_,r⟩
   · omega
   · have:=r.2.2;have:=F.ac.le (ch.g (ch.length - 1)).toNat;omega
 | n+1,0,ch,mi,m,b,hk,om,o,hg,HB,hr=>by have:=xW j.ab ch;omega
 | n+1,k+1,ch,mi,m,b,hk,om,o,hg,HB,hr=>by
   have inv:=od (m:=m) ⟨⟨om,trivial⟩,o⟩ hg
   obtain ⟨f1,f2,f3,f4⟩:=JC F (V:=LO j n) HB j.ab.length 0 ((j.ab.length:Int) - 0).toNat m (Nat.zero_add _) o! inv
   have ld:=ny F.ac F.nt ((j.ab.length:Int) - 0).toNat 0 m o! inv
   obtain ⟨s1,s2⟩:=lz F.ac F.nt F.tk ld f3 f4 o hg
   have go:et j.ab (k+1) mi ch m=et j.ab k (IntKind.i64.wrap (mi -(j.ab.g (aW j.ab ch mi ((j.ab.length:Int) - 0).toNat 0 m).1.toNat).aL)) (ch++[(aW j.ab ch mi ((j.ab.length:Int) - 0).toNat 0 m).1]) (aW j.ab ch mi ((j.ab.length:Int) - 0).toNat 0 m).2:=by
    rw[et]
    by_cases c:((ch.length:Nat):Int)=0
    · rw[decide_eq_true c,aj]
    · rw[decide_eq_false c,af,decide_eq_true (by omega:0<mi),aj]
   rw[go,LO,j7,f1]
   obtain ⟨Q,hQ⟩:∃Q,Q=aW j.ab ch mi ((j.ab.length:Int) - 0).toNat 0 m:=⟨_,rfl⟩
   have hQ':aW j.ab ch mi ((j.ab.length:Int) - 0).toNat ((0:Nat):Int) m=Q:=hQ.symm
   rw[←hQ] at ld s1 s2 ⊢
   rw[hQ'] at f2 f3 f4 ⊢
   have tk:=F.tk Q.1.toNat o!
   have w:IntKind.i64.wrap (mi -(j.ab.g Q.1.toNat).aL)=mi -(j.ab.g Q.1.toNat).aL:=wrap_i64 (by have:=o.2.1;omega) (by have:=o.2.2.1;omega)
   have l1:(ch++[Q.1]).length=ch.length+1:=by rw[List.length_append];rfl
   show _=ch++(bif decide ((j.ab.g Q.1.toNat).aL<mi) then Q.1::LO j n Q.1 (IntKind.i64.wrap (mi -(j.ab.g Q.1.toNat).aL)) else [Q.1])
   by_cases c:(j.ab.g Q.1.toNat).aL<mi
   · rw[decide_eq_true c,aj]
     have rn:RN j.ab (xU j.ab) n Q.1:=by
      have nt:=F.nt
      rcases hr with ⟨h1,h2⟩ | ⟨h1,r⟩
      · exact ⟨f3,f4,by omega⟩
      · have:=Jg F.ac ld f3 f4 h1
        have:=r.2.2
        exact ⟨f3,f4,by omega⟩
     rw[JD F n k (ch++[Q.1]) _ Q.2 Q.1 o! f2 s2 (.inr o!) (WK f3) (.inr ⟨by omega,by rw[GB];exact rn⟩),List.append_assoc];rfl
   · rw[decide_eq_false c,af]
     cases k with
     | zero=>rfl
     | succ k=>rw[et,decide_eq_false (by omega:¬(((ch++[Q.1]).length:Nat):Int)=0),af,decide_eq_false (by omega:¬0<IntKind.i64.wrap (mi -(j.ab.g Q.1.toNat).aL)),af]
theorem TI {j:cF} (F:eQ j) {mi:Int} {m:Mi} (o:dw (iw j.ab) m) (c:ky j.ab [] mi 0) (h0:0≤mi) (h1:mi≤100001):(oe j.ab m mi).1=Tt j mi:=by
 have:=xW j.ab []
 exact JD F 66 _ [] mi m (-1) o! o ⟨fun _=>c,by omega,by omega,fun _=>h0,by simp [GA]⟩ (.inl rfl) (fun q hq=>by rw[A2];rfl) (.inl ⟨rfl,Nat.le_refl _⟩)
theorem TJ (j:cF):au j=ar j:=by
 rw[au,ar,←CW]
 by_cases c0:cy j=0
 · have F:=og c0
   rw[decide_eq_true c0,aj,aj]
   by_cases c1:((j.ab.length:Nat):Int)=0
   · rw[decide_eq_true c1,aj,aj]
   · rw[decide_eq_false c1,af,af]
     obtain ⟨cg,g0,g1⟩:=EA F o!
     have mt:=zl j.ab ⟨[]⟩ F.ac F.nt (dw.nil _)
     have rm:CX j=cd (dq j.ab (⟨[]⟩:Mi)).1 100001:=by rw[CX,NR F _ _ _ (Nat.zero_add _),mt.1];rfl
     obtain ⟨e1,e2,e3⟩:=TH F j.ae.length 0 (cd (dq j.ab (⟨[]⟩:Mi)).1 100001) true 0 (Nat.zero_add _) g0
     rw[GS,rm]
     rcases e3 with ⟨h1,h2,h3⟩ | ⟨h1,h2⟩
     · rw[decide_eq_true h2,aj,h1,aj,e1,e2,h3,h2,TI F mt.2 cg g0 g1]
     · rw[decide_eq_false o!,af,h1,af,e1,e2]
 · rw[decide_eq_false c0,af,af]
theorem NS (a:List Int):∀k i,lC a a k i=none
 | 0,i=>rfl
 | k+1,i=>by rw[lC];simp [NS a k (i+1)]
theorem Pr (a:List Int):gH a a=true:=by
 rw[gH,NS];simp
theorem JE (j:cF) (f:jg) (hf:f.ay<9223372036854775808):fk j f=true:=by
 rw[fk,TJ,Pq j f hf,Pr]
 simp
open Go.ChangeShapes Go.WideShapes Go.RowKit
structure Gx (φ φ':Ph) (h h':ak) (w:World):Prop where
 ok:OK env φ' h' w
 le:φ.le φ'
 ro:xa h'
 has:Has h h'
 nx:h.nx≤h'.nx
 tidy:Tidy h'
theorem Gx.refl {φ:Ph} {h:ak} {w:World} (ok:OK env φ h w) (ro:xa h) (y:Tidy h):Gx φ φ h h w:=⟨ok,Ph.le_refl _,ro,Has.refl _,Nat.le_refl _,y⟩
theorem Gx.trans {a b c:Ph} {h1 h2 h3:ak} {w:World} (x:Gx a b h1 h2 w) (y:Gx b c h2 h3 w):Gx a c h1 h3 w:=⟨y.ok,Ph.le_trans x.le y.le,y.ro,x.has.trans y.has,Nat.le_trans x.nx y.nx,y.tidy⟩
section
variable {H:Type} (enc:TypeId×Value→H) (w:World) (base:Nat) (spare:Nat→Bool) (held:Bool)
def Small (t:TypeId) (d:DataW H):Prop:=(DataW.weights env.P t d).all (· ≤reachBytes)=true
theorem Small.all {e:TypeId}:∀{l:List (DataW H)},(DataW.weightsAll env.P e l).all (· ≤reachBytes)=true→∀d∈l,Small e d
 | [],_,d,hd=>by cases hd
 | x::l,h,d,hd=>by
   rw[DataW.weightsAll,List.all_append,Bool.and_eq_true] at h
   rcases List.mem_cons.1 hd with rfl | hd
   · exact h.1
   · exact Small.all h.2 d hd
theorem Small.struct {t:TypeId} {fs:Array Field} {parts:List (DataW H)} (ht:env.P.underlying t=some (.struct fs)) (h:Small t (.agg parts)):(DataW.weightsEach env.P (fs.toList.map (·.type)) parts).all (· ≤reachBytes)=true:=by
 unfold Small at h
 rw[DataW.weights,ht] at h
 exact h
theorem Small.cN {t:TypeId} {ts:List TypeId} {d:DataW H} {ds:List (DataW H)} (h:(DataW.weightsEach env.P (t::ts) (d::ds)).all (· ≤reachBytes)=true):Small t d∧(DataW.weightsEach env.P ts ds).all (· ≤reachBytes)=true:=by
 rw[DataW.weightsEach,List.all_append,Bool.and_eq_true] at h
 exact h
theorem GY {n:Nat} (h:n≤reachBytes):n<2^60:=Nat.lt_of_le_of_lt h (by unfold reachBytes;decide)
theorem aH.MS {α:Type} [aB α] {h:ak} {v:AV} {l:List α} {m:Nat} (x:aH h v l) (e:AV.map m=v):False:=by
 rcases x.known with rfl | rfl | ⟨p,o,n,c,b,rfl,_⟩<;>cases e
def mh {D:Type} (t:TypeId) (sz:Nat) (c:D→List AV) (ok:ak→D→Prop):Prop:=
 ∀(φ:Ph) (h:ak),OK env φ h w→xa h→Tidy h→∀(cs:List Value) (y:DataW H×List MemPlace) (n:Nat),cs.length=sz→Small t y.1→DataW.trod enc env.P w base spare held n t cs=some y→
  ∃φ' h' x,Gx φ φ' h h' w∧LR φ' (c x) cs∧ok h' x
variable {enc w base spare held}
theorem kt {k:IntKind} {t:TypeId} (ht:env.P.underlying t=some (.int k)):mh enc w base spare held t 1 (fun x:Int=> [.int k x]) (fun _ _=>True):=fun φ h ok ro y cs z n _ hw hv=>by
 obtain ⟨m,rfl,_,_⟩:=DataW.trod_int ht hv
 exact ⟨φ,h,m,Gx.refl ok ro y,LR.cons (VR.int k m) (LR.nil _),trivial⟩
theorem EJ {t:TypeId} (ht:env.P.underlying t=some .string):mh enc w base spare held t 1 (fun x:List UInt8=> [.str x]) (fun _ x=>x.length<2^60):=fun φ h ok ro y cs z n _ hw hv=>by
 obtain ⟨s,rfl,rfl,hs⟩:=DataW.trod_string ht hv
 refine ⟨φ,h,s.data.toList,Gx.refl ok ro y,LR.cons (VR.str s) (LR.nil _),?_⟩
 unfold Small at hw
 rw[DataW.weights,List.all_cons,Bool.and_eq_true] at hw
 exact GY (of_decide_eq_true hw.1)
theorem pI {α:Type} [aB α] {t:TypeId} (ht:env.P.underlying t=some (.slice (aB.e α))) (hs:env.P.cellsOf (aB.e α)=aB.n α) (hby:0<env.P.bytesOf (aB.e α)) (hm:∀(h:ak) (x:α) m,aB.ok h x→AV.map m ∉ aB.c x)
 (he:mh enc w base spare held (aB.e α) (aB.n α) (aB.c (α:=α)) aB.ok):mh enc w base spare held t 1 (fun x:AV×List α=> [x.1]) (fun h x=>aH h x.1 x.2):=fun φ h ok ro y cs z fuel _ hw hv=>by
 have Kb:=aB.pos (α:=α)
 rcases DataW.trod_slice ht hv with ⟨rfl,_⟩ | ⟨a,len,cap,elems,rest,n,_,rfl,rfl,hb,Yg,hcm,aaF,gE,_,_⟩
 · exact ⟨φ,h,(.aD,[]),Gx.refl ok ro y,LR.cons VR.aD (LR.nil _),⟨aB.size,(Nat.zero_mul _).symm,Nat.pow_pos (by decide),rfl,.inl rfl⟩,.inl rfl,fun x hx=>by cases hx⟩
 rcases Nat.eq_zero_or_pos len with h0 | h0
 · subst h0
   exact ⟨φ,h,(.ei,[]),Gx.refl ok ro y,LR.cons (VR.ei a cap) (LR.nil _),⟨aB.size,(Nat.zero_mul _).symm,Nat.pow_pos (by decide),rfl,.inl rfl⟩,.inr (.inl rfl),fun x hx=>by cases hx⟩
 have yg:len<2^60∧(DataW.weightsAll env.P (aB.e α) (elems.map (·.1))).all (· ≤reachBytes)=true:=by
  unfold Small at hw
  rw[DataW.weights,ht] at hw
  simp only[List.all_cons,List.all_append,Bool.and_eq_true,List.length_map] at hw
  refine ⟨GY (Nat.le_trans ?_ (of_decide_eq_true hw.1)),hw.2.1⟩
  rw[aaF]
  exact Nat.le_trans (Nat.le_add_right _ _) (Nat.le_mul_of_pos_right _ hby)
 have all:∀m,m≤len→∃(φ':Ph) (h':ak) (xs:List α),Gx φ φ' h h' w∧xs.length=m∧(∀x∈xs,aB.ok h' x)∧∀(i:Nat) (x:α),xs[i]? =some x→∀j v,(aB.c x)[j]? =some v→∃y,w.cell? ((a.add (i*aB.n α)).add j)=some y∧VR φ' v y:=by
  intro m
  induction m with
  | zero=>exact fun _=>⟨φ,h,[],Gx.refl ok ro y,rfl,fun _ hx=>(by cases hx),fun i xi hx=>(by simp at hx)⟩
  | succ m ih=>
    intro T8
    obtain ⟨φ1,h1,xs,g1,hl,hq,hx⟩:=ih o!
    have h2:=gE m o!
    rw[List.getElem?_eq_getElem o!,hs] at h2
    simp only[Option.bind_eq_some_iff] at h2
    obtain ⟨ci,hc1,hc2⟩:=h2
    obtain ⟨_,PC,D9⟩:=World.cells?_some hc1
    obtain ⟨φ2,h2,x,g2,zu,nE⟩:=he φ1 h1 g1.ok g1.ro g1.tidy ci _ n PC (Small.all yg.2 _ (List.mem_map.2 ⟨_,List.getElem_mem _,rfl⟩)) hc2
    refine ⟨φ2,h2,xs++[x],g1.trans g2,by simp [hl],fun z hz=>?_,fun i z hz=>?_⟩
    · rcases List.mem_append.1 hz with h | h
      · exact aB.mono g2.has (hq z h)
      · simp at h;subst h;exact nE
    · by_cases hi:i<xs.length
      · rw[List.getElem?_append_left hi] at hz
        intro j v hj
        obtain ⟨q,e1,e2⟩:=hx i z hz j v hj
        exact ⟨q,e1,e2.mono g2.le⟩
      · rw[List.getElem?_append_right o!] at hz
        have:i - xs.length=0:=by
         have:=(List.getElem?_eq_some_iff.1 hz).1
         simp at this;omega
        rw[this] at hz
        simp at hz;subst hz
        have:i=m:=by omega
        subst this
        intro j v hj
        have pc:j<(aB.c x).length:=(List.getElem?_eq_some_iff.1 hj).1
        have WL:j<ci.length:=by rw[←zu.1];exact pc
        exact ⟨ci[j],by rw[D9 j (by rw[PC] at WL;exact WL),List.getElem?_eq_getElem WL],zu.2 j v _ hj (List.getElem?_eq_getElem WL)⟩
 obtain ⟨φ1,h1,xs,g1,hl,hq,hx⟩:=all len (Nat.le_refl _)
 have IA:=ey aB.len xs
 have yb:a.spot=none:=by
  have hx0:xs[0]? =some (xs[0]'o!):=List.getElem?_eq_getElem o!
  obtain ⟨y,hy,_⟩:=hx 0 _ hx0 0 ((aB.c (xs[0]'o!))[0]'(by rw[aB.len];exact Kb)) (List.getElem?_eq_getElem _)
  simp only[Nat.zero_mul,Addr.add,if_true] at hy
  unfold World.cell? at hy
  split at hy
  · cases hsp:a.spot with
    | none=>rfl
    | some _=>rw[hsp] at hy;simp at hy
  · cases hy
 have TL:∀i j,(a.add (i*aB.n α)).add j=⟨a.block,a.off+(i*aB.n α+j),none⟩:=by
  intro i j
  obtain ⟨b,o,sp⟩:=a
  simp only at yb
  subst yb
  unfold Addr.add
  by_cases h1:i*aB.n α=0<;>by_cases h2:j=0<;>simp [h1,h2,Nat.add_assoc]
 have ep:xs.flatMap aB.c≠ []:=by
  intro e
  have:=congrArg List.length e
  rw[IA,hl] at this
  have:=Nat.mul_pos h0 Kb
  simp at *
  omega
 obtain ⟨h',hn,rW,hle,aaG,ae7,hg,hold,gZ⟩:=g1.ok.show g1.ro (b:=a.block) (off:=a.off) (e:=aB.e α) ep (fun m T8=>by
  have:AV.map m∈xs.flatMap aB.c:=by rw[T8];simp
  obtain ⟨z,hz,hmz⟩:=List.mem_flatMap.1 this
  exact hm h1 z m (hq z hz) hmz) (fun k v hk=>by
  have DL:k<(xs.flatMap aB.c).length:=(List.getElem?_eq_some_iff.1 hk).1
  have hdm:k/aB.n α*aB.n α+k%aB.n α=k:=by rw[Nat.mul_comm];exact Nat.div_add_mod k _
  have hi:k/aB.n α<xs.length:=by
   rw[IA] at DL
   exact (Nat.div_lt_iff_lt_mul Kb).2 DL
  have hk2:=hk
  rw[←hdm,m_ aB.len _ _ _ hi (Nat.mod_lt _ Kb)] at hk2
  have hgi:xs[k/aB.n α]? =some (xs.g (k/aB.n α)):=by
   rw[List.g,List.getD_eq_getElem?_getD,List.getElem?_eq_getElem hi];rfl
  obtain ⟨y,hy,hvr⟩:=hx _ _ hgi _ v hk2
  rw[TL,hdm] at hy
  exact ⟨y,hy,hvr⟩)
 have hVR:=VR.slice (φ:=φ1.add h1.nx ⟨a.block,a.off,0⟩) 0 len cap false gZ
 have has:Has h1 h':=uj g1.tidy hn
 refine ⟨_,h',(.slice h1.nx 0 len cap false,xs),g1.trans ⟨rW,hle,aaG,has,by omega,lT g1.tidy hn⟩,LR.cons ?_ (LR.nil _),?_⟩
 · obtain ⟨b,o,sp⟩:=a
   simp only at yb
   subst yb
   exact hVR
 · subst hl
   exact ⟨⟨aB.size,IA,yg.1,rfl,.inr ⟨h1.nx,0,_,cap,false,_,_,true,rfl,Yg,hg,fun j _=>by rw[Nat.zero_add]⟩⟩,.inr (.inr ⟨_,_,_,_,_,rfl,fun e=>by cases e⟩),fun x hx=>aB.mono has (hq x hx)⟩
end
open Go.ChangeShapes Go.WideShapes Go.RowKit
section
variable {H:Type} {enc:TypeId×Value→H} {w:World} {base:Nat} {spare:Nat→Bool} {held:Bool}
theorem L6 {α:Type} {t e_:TypeId} {n_:Nat} {c_:α→List AV} {ok_:ak→α→Prop} (He:bQ env e_=some n_) (hlen:∀x,(c_ x).length=n_) (Yk:0<n_) (X_:∀{h h':ak} {x:α},Has h h'→ok_ h x→ok_ h' x) (hg_:∀(l:List α) (i:Nat) (hi:i<l.length),∃x,l[i]? =some x∧∀j,j<n_→(l.flatMap c_)[i*n_+j]? =(c_ x)[j]?) (ht:env.P.underlying t=some (.slice e_)) (hs:env.P.cellsOf e_=n_) (hby:0<env.P.bytesOf e_) (hm:∀(h:ak) (x:α) m,ok_ h x→AV.map m ∉ c_ x)
 (he:mh enc w base spare held e_ n_ c_ ok_):mh enc w base spare held t 1 (fun x:AV×List α=> [x.1]) (fun h x=>mQ env h e_ n_ x.1 x.2.length (x.2.flatMap c_)∧(x.1= .aD∨x.1= .ei∨∃p o m c b,x.1= .slice p o m c b)∧∀y∈x.2,ok_ h y):=fun φ h ok ro y cs z fuel _ hw hv=>by
 have Kb:=Yk
 rcases DataW.trod_slice ht hv with ⟨rfl,_⟩ | ⟨a,len,cap,elems,rest,n,_,rfl,rfl,hb,Yg,hcm,aaF,gE,_,_⟩
 · exact ⟨φ,h,(.aD,[]),Gx.refl ok ro y,LR.cons VR.aD (LR.nil _),⟨He,(Nat.zero_mul _).symm,Nat.pow_pos (by decide),rfl,.inl rfl⟩,.inl rfl,fun x hx=>by cases hx⟩
 rcases Nat.eq_zero_or_pos len with h0 | h0
 · subst h0
   exact ⟨φ,h,(.ei,[]),Gx.refl ok ro y,LR.cons (VR.ei a cap) (LR.nil _),⟨He,(Nat.zero_mul _).symm,Nat.pow_pos (by decide),rfl,.inl rfl⟩,.inr (.inl rfl),fun x hx=>by cases hx⟩
 have yg:len<2^60∧(DataW.weightsAll env.P (e_) (elems.map (·.1))).all (· ≤reachBytes)=true:=by
  unfold Small at hw
  rw[DataW.weights,ht] at hw
  simp only[List.all_cons,List.all_append,Bool.and_eq_true,List.length_map] at hw
  refine ⟨GY (Nat.le_trans ?_ (of_decide_eq_true hw.1)),hw.2.1⟩
  rw[aaF]
  exact Nat.le_trans (Nat.le_add_right _ _) (Nat.le_mul_of_pos_right _ hby)
 have all:∀m,m≤len→∃(φ':Ph) (h':ak) (xs:List α),Gx φ φ' h h' w∧xs.length=m∧(∀x∈xs,ok_ h' x)∧∀(i:Nat) (x:α),xs[i]? =some x→∀j v,(c_ x)[j]? =some v→∃y,w.cell? ((a.add (i*n_)).add j)=some y∧VR φ' v y:=by
  intro m
  induction m with
  | zero=>exact fun _=>⟨φ,h,[],Gx.refl ok ro y,rfl,fun _ hx=>(by cases hx),fun i xi hx=>(by simp at hx)⟩
  | succ m ih=>
    intro T8
    obtain ⟨φ1,h1,xs,g1,hl,hq,hx⟩:=ih o!
    have h2:=gE m o!
    rw[List.getElem?_eq_getElem o!,hs] at h2
    simp only[Option.bind_eq_some_iff] at h2
    obtain ⟨ci,hc1,hc2⟩:=h2
    obtain ⟨_,PC,D9⟩:=World.cells?_some hc1
    obtain ⟨φ2,h2,x,g2,zu,nE⟩:=he φ1 h1 g1.ok g1.ro g1.tidy ci _ n PC (Small.all yg.2 _ (List.mem_map.2 ⟨_,List.getElem_mem _,rfl⟩)) hc2
    refine ⟨φ2,h2,xs++[x],g1.trans g2,by simp [hl],fun z hz=>?_,fun i z hz=>?_⟩
    · rcases List.mem_append.1 hz with h | h
      · exact X_ g2.has (hq z h)
      · simp at h;subst h;exact nE
    · by_cases hi:i<xs.length
      · rw[List.getElem?_append_left hi] at hz
        intro j v hj
        obtain ⟨q,e1,e2⟩:=hx i z hz j v hj
        exact ⟨q,e1,e2.mono g2.le⟩
      · rw[List.getElem?_append_right o!] at hz
        have:i - xs.length=0:=by
         have:=(List.getElem?_eq_some_iff.1 hz).1
         simp at this;omega
        rw[this] at hz
        simp at hz;subst hz
        have:i=m:=by omega
        subst this
        intro j v hj
        have pc:j<(c_ x).length:=(List.getElem?_eq_some_iff.1 hj).1
        have WL:j<ci.length:=by rw[←zu.1];exact pc
        exact ⟨ci[j],by rw[D9 j (by rw[PC] at WL;exact WL),List.getElem?_eq_getElem WL],zu.2 j v _ hj (List.getElem?_eq_getElem WL)⟩
 obtain ⟨φ1,h1,xs,g1,hl,hq,hx⟩:=all len (Nat.le_refl _)
 have IA:=ey hlen xs
 have yb:a.spot=none:=by
  have hx0:xs[0]? =some (xs[0]'o!):=List.getElem?_eq_getElem o!
  obtain ⟨y,hy,_⟩:=hx 0 _ hx0 0 ((c_ (xs[0]'o!))[0]'(by rw[hlen];exact Kb)) (List.getElem?_eq_getElem _)
  simp only[Nat.zero_mul,Addr.add,if_true] at hy
  unfold World.cell? at hy
  split at hy
  · cases hsp:a.spot with
    | none=>rfl
    | some _=>rw[hsp] at hy;simp at hy
  · cases hy
 have TL:∀i j,(a.add (i*n_)).add j=⟨a.block,a.off+(i*n_+j),none⟩:=by
  intro i j
  obtain ⟨b,o,sp⟩:=a
  simp only at yb
  subst yb
  unfold Addr.add
  by_cases h1:i*n_=0<;>by_cases h2:j=0<;>simp [h1,h2,Nat.add_assoc]
 have ep:xs.flatMap c_≠ []:=by
  intro e
  have:=congrArg List.length e
  rw[IA,hl] at this
  have:=Nat.mul_pos h0 Kb
  simp at *
  omega
 obtain ⟨h',hn,rW,hle,aaG,ae7,hg,hold,gZ⟩:=g1.ok.show g1.ro (b:=a.block) (off:=a.off) (e:=e_) ep (fun m T8=>by
  have:AV.map m∈xs.flatMap c_:=by rw[T8];simp
  obtain ⟨z,hz,hmz⟩:=List.mem_flatMap.1 this
  exact hm h1 z m (hq z hz) hmz) (fun k v hk=>by
  have DL:k<(xs.flatMap c_).length:=(List.getElem?_eq_some_iff.1 hk).1
  have hdm:k/n_*n_+k%n_=k:=by rw[Nat.mul_comm];exact Nat.div_add_mod k _
  have hi:k/n_<xs.length:=by
   rw[IA] at DL
   exact (Nat.div_lt_iff_lt_mul Kb).2 DL
  have hk2:=hk
  obtain ⟨xk,hgi,hgj⟩:=hg_ xs _ hi
  rw[←hdm,hgj _ (Nat.mod_lt _ Kb)] at hk2
  obtain ⟨y,hy,hvr⟩:=hx _ _ hgi _ v hk2
  rw[TL,hdm] at hy
  exact ⟨y,hy,hvr⟩)
 have hVR:=VR.slice (φ:=φ1.add h1.nx ⟨a.block,a.off,0⟩) 0 len cap false gZ
 have has:Has h1 h':=uj g1.tidy hn
 refine ⟨_,h',(.slice h1.nx 0 len cap false,xs),g1.trans ⟨rW,hle,aaG,has,by omega,lT g1.tidy hn⟩,LR.cons ?_ (LR.nil _),?_⟩
 · obtain ⟨b,o,sp⟩:=a
   simp only at yb
   subst yb
   exact hVR
 · subst hl
   exact ⟨⟨He,IA,yg.1,rfl,.inr ⟨h1.nx,0,_,cap,false,_,_,true,rfl,Yg,hg,fun j _=>by rw[Nat.zero_add]⟩⟩,.inr (.inr ⟨_,_,_,_,_,rfl⟩),fun x hx=>X_ has (hq x hx)⟩
theorem GZ (k:IntKind):∀l:List Int,(l.flatMap fun x=> [AV.int k x])=zs k l
 | []=>rfl
 | x::l=>by rw[List.flatMap_cons,GZ k l];rfl
theorem WM (k:IntKind) (l:List Int) (i:Nat) (hi:i<l.length):∃x,l[i]? =some x∧∀j,j<1→(l.flatMap fun x=> [AV.int k x])[i*1+j]? =[AV.int k x][j]? :=by
 refine ⟨l[i],List.getElem?_eq_getElem hi,fun j hj=>?_⟩
 have:j=0:=by omega
 subst this
 rw[GZ,zs,List.getElem?_map,Nat.mul_one,Nat.add_zero,List.getElem?_eq_getElem hi];rfl
theorem L7 {k:IntKind} {t e:TypeId} (ht:env.P.underlying t=some (.slice e)) (hi:env.P.underlying e=some (.int k)) (He:bQ env e=some 1) (ha:eN env e=some false) (hs:env.P.cellsOf e=1) (hby:0<env.P.bytesOf e):mh enc w base spare held t 1 (fun x:AV×List Int=> [x.1]) (fun h x=>bW h k e x.1 x.2):=fun φ h ok ro y cs z n hl hw hv=>by
 obtain ⟨φ',h',x,g,l,a,b,_⟩:=L6 (ok_:=fun _ _=>True) (c_:=fun x:Int=> [.int k x]) He (fun _=>rfl) (by decide) (fun _ _=>trivial) (WM k) ht hs hby (fun _ x m _ hmm=>by simp at hmm) (kt hi) φ h ok ro y cs z n hl hw hv
 refine ⟨φ',h',x,g,l,?_⟩
 rw[GZ] at a
 exact bW.mk a ha b
end
open Go.ChangeShapes Go.WideShapes Go.RowKit
section
variable {H:Type} {enc:TypeId×Value→H} {w:World} {base:Nat} {spare:Nat→Bool} {held:Bool}
theorem NT:Tryz.prog.cellsOf 9=1:=by kernel_rfl
theorem oi:Tryz.prog.cellsOf 3=1:=by kernel_rfl
theorem JF:Tryz.prog.cellsOf 26=1:=by kernel_rfl
theorem NU:mh enc w base spare held 26 1 (fun x:AV×List Int=> [x.1]) (fun h x=>bW h .i64 3 x.1 x.2):=L7 Tryz.underlying26 Tryz.underlying3 (by kernel_rfl) (by kernel_rfl) oi (of_decide_eq_true (by kernel_rfl))
theorem TM:Tryz.prog.cellsOf 50=2:=by kernel_rfl
theorem WN:mh enc w base spare held 50 2 (aB.c (α:=jD)) aB.ok:=fun φ h0 ok ro ty cs z fuel hl hw hv=>by
 obtain ⟨xs,n,_,rfl,_,zq,hf⟩:=DataW.trod_struct Tryz.underlying50 hv
 obtain ⟨c0,c1,rfl⟩:∃c0 c1,cs=[c0,c1]:=by
  match cs,hl with
  | [c0,c1],_=>exact ⟨_,_,rfl⟩
 obtain ⟨y0,y1,rfl⟩:∃y0 y1,xs=[y0,y1]:=by
  match xs,zq with
  | [y0,y1],_=>exact ⟨_,_,rfl⟩
 have hs:=Small.struct Tryz.underlying50 hw
 obtain ⟨s0,hs⟩:=Small.cN hs
 have q0:DataW.trod enc Tryz.prog w base spare held n 3 [c0]=some y0:=by simpa [oi] using hf 0 _ rfl
 obtain ⟨φ1,h1,x0,g0,l0,o0⟩:=kt (t:=3) Tryz.underlying3 _ _ (Gx.refl ok ro ty).ok (Gx.refl ok ro ty).ro (Gx.refl ok ro ty).tidy _ _ _ rfl s0 q0
 have G0:=Gx.trans (Gx.refl ok ro ty) g0
 obtain ⟨s1,hs⟩:=Small.cN hs
 have q1:DataW.trod enc Tryz.prog w base spare held n 3 [c1]=some y1:=by simpa [oi] using hf 1 _ rfl
 obtain ⟨φ2,h2,x1,g1,l1,o1⟩:=kt (t:=3) Tryz.underlying3 _ _ G0.ok G0.ro G0.tidy _ _ _ rfl s1 q1
 have G1:=Gx.trans G0 g1
 have L0:=LR.mono (Ph.le_trans (Ph.le_refl _) g1.le) l0
 have L1:=LR.mono (Ph.le_refl _) l1
 exact ⟨_,_,⟨x0,x1⟩,G1,(LR.append L0 (LR.append L1 (LR.nil _))),trivial⟩
theorem TN:Tryz.prog.cellsOf 46=1:=by kernel_rfl
theorem WO:mh enc w base spare held 46 1 (fun x:AV×List jD=> [x.1]) (fun h x=>aH h x.1 x.2):=pI (t:=46) Tryz.underlying46 TM (of_decide_eq_true (by kernel_rfl)) (fun _ x m _ h=>by cases x;simp [aB.c,jD.c] at h) WN
theorem TO:Tryz.prog.cellsOf 48=4:=by kernel_rfl
theorem WQ:mh enc w base spare held 48 4 (aB.c (α:=Task)) aB.ok:=fun φ h0 ok ro ty cs z fuel hl hw hv=>by
 obtain ⟨xs,n,_,rfl,_,zq,hf⟩:=DataW.trod_struct Tryz.underlying48 hv
 obtain ⟨c0,c1,c2,c3,rfl⟩:∃c0 c1 c2 c3,cs=[c0,c1,c2,c3]:=by
  match cs,hl with
  | [c0,c1,c2,c3],_=>exact ⟨_,_,_,_,rfl⟩
 obtain ⟨y0,y1,y2,y3,rfl⟩:∃y0 y1 y2 y3,xs=[y0,y1,y2,y3]:=by
  match xs,zq with
  | [y0,y1,y2,y3],_=>exact ⟨_,_,_,_,rfl⟩
 have hs:=Small.struct Tryz.underlying48 hw
 obtain ⟨s0,hs⟩:=Small.cN hs
 have q0:DataW.trod enc Tryz.prog w base spare held n 9 [c0]=some y0:=by simpa [NT] using hf 0 _ rfl
 obtain ⟨φ1,h1,x0,g0,l0,o0⟩:=EJ (t:=9) Tryz.underlying9 _ _ (Gx.refl ok ro ty).ok (Gx.refl ok ro ty).ro (Gx.refl ok ro ty).tidy _ _ _ rfl s0 q0
 have G0:=Gx.trans (Gx.refl ok ro ty) g0
 obtain ⟨s1,hs⟩:=Small.cN hs
 have q1:DataW.trod enc Tryz.prog w base spare held n 3 [c1]=some y1:=by simpa [oi] using hf 1 _ rfl
 obtain ⟨φ2,h2,x1,g1,l1,o1⟩:=kt (t:=3) Tryz.underlying3 _ _ G0.ok G0.ro G0.tidy _ _ _ rfl s1 q1
 have G1:=Gx.trans G0 g1
 obtain ⟨s2,hs⟩:=Small.cN hs
 have q2:DataW.trod enc Tryz.prog w base spare held n 26 [c2]=some y2:=by simpa [JF] using hf 2 _ rfl
 obtain ⟨φ3,h3,x2,g2,l2,o2⟩:=NU _ _ G1.ok G1.ro G1.tidy _ _ _ rfl s2 q2
 have G2:=Gx.trans G1 g2
 obtain ⟨s3,hs⟩:=Small.cN hs
 have q3:DataW.trod enc Tryz.prog w base spare held n 46 [c3]=some y3:=by simpa [TN] using hf 3 _ rfl
 obtain ⟨φ4,h4,x3,g3,l3,o3⟩:=WO _ _ G2.ok G2.ro G2.tidy _ _ _ rfl s3 q3
 have G3:=Gx.trans G2 g3
 have L0:=LR.mono (Ph.le_trans (Ph.le_trans (Ph.le_trans (Ph.le_refl _) g1.le) g2.le) g3.le) l0
 have L1:=LR.mono (Ph.le_trans (Ph.le_trans (Ph.le_refl _) g2.le) g3.le) l1
 have L2:=LR.mono (Ph.le_trans (Ph.le_refl _) g3.le) l2
 have L3:=LR.mono (Ph.le_refl _) l3
 exact ⟨_,_,⟨x0,x1,x2.1,x2.2,x3.1,x3.2⟩,G3,(LR.append L0 (LR.append L1 (LR.append L2 (LR.append L3 (LR.nil _))))),⟨o0,(o2.has g3.has),o3⟩⟩
theorem TP:Tryz.prog.cellsOf 22=1:=by kernel_rfl
theorem WR:mh enc w base spare held 22 1 (fun x:AV×List Task=> [x.1]) (fun h x=>aH h x.1 x.2):=pI (t:=22) Tryz.underlying22 TO (of_decide_eq_true (by kernel_rfl)) (fun _ x m o h=>by
 simp only[aB.c,Task.c,List.mem_cons,List.not_mem_nil,or_false,reduceCtorEq,false_or] at h
 rcases h with h | h
 · exact bW.MS (o.2.1) h
 · exact aH.MS (o.2.2) h) WQ
theorem TQ:Tryz.prog.cellsOf 52=2:=by kernel_rfl
theorem WS:mh enc w base spare held 52 2 (aB.c (α:=Span)) aB.ok:=fun φ h0 ok ro ty cs z fuel hl hw hv=>by
 obtain ⟨xs,n,_,rfl,_,zq,hf⟩:=DataW.trod_struct Tryz.underlying52 hv
 obtain ⟨c0,c1,rfl⟩:∃c0 c1,cs=[c0,c1]:=by
  match cs,hl with
  | [c0,c1],_=>exact ⟨_,_,rfl⟩
 obtain ⟨y0,y1,rfl⟩:∃y0 y1,xs=[y0,y1]:=by
  match xs,zq with
  | [y0,y1],_=>exact ⟨_,_,rfl⟩
 have hs:=Small.struct Tryz.underlying52 hw
 obtain ⟨s0,hs⟩:=Small.cN hs
 have q0:DataW.trod enc Tryz.prog w base spare held n 3 [c0]=some y0:=by simpa [oi] using hf 0 _ rfl
 obtain ⟨φ1,h1,x0,g0,l0,o0⟩:=kt (t:=3) Tryz.underlying3 _ _ (Gx.refl ok ro ty).ok (Gx.refl ok ro ty).ro (Gx.refl ok ro ty).tidy _ _ _ rfl s0 q0
 have G0:=Gx.trans (Gx.refl ok ro ty) g0
 obtain ⟨s1,hs⟩:=Small.cN hs
 have q1:DataW.trod enc Tryz.prog w base spare held n 3 [c1]=some y1:=by simpa [oi] using hf 1 _ rfl
 obtain ⟨φ2,h2,x1,g1,l1,o1⟩:=kt (t:=3) Tryz.underlying3 _ _ G0.ok G0.ro G0.tidy _ _ _ rfl s1 q1
 have G1:=Gx.trans G0 g1
 have L0:=LR.mono (Ph.le_trans (Ph.le_refl _) g1.le) l0
 have L1:=LR.mono (Ph.le_refl _) l1
 exact ⟨_,_,⟨x0,x1⟩,G1,(LR.append L0 (LR.append L1 (LR.nil _))),trivial⟩
theorem TR:Tryz.prog.cellsOf 43=1:=by kernel_rfl
theorem WT:mh enc w base spare held 43 1 (fun x:AV×List Span=> [x.1]) (fun h x=>aH h x.1 x.2):=pI (t:=43) Tryz.underlying43 TQ (of_decide_eq_true (by kernel_rfl)) (fun _ x m _ h=>by cases x;simp [aB.c,Span.c] at h) WS
theorem TS:Tryz.prog.cellsOf 45=3:=by kernel_rfl
theorem WU:mh enc w base spare held 45 3 (aB.c (α:=aZ)) aB.ok:=fun φ h0 ok ro ty cs z fuel hl hw hv=>by
 obtain ⟨xs,n,_,rfl,_,zq,hf⟩:=DataW.trod_struct Tryz.underlying45 hv
 obtain ⟨c0,c1,c2,rfl⟩:∃c0 c1 c2,cs=[c0,c1,c2]:=by
  match cs,hl with
  | [c0,c1,c2],_=>exact ⟨_,_,_,rfl⟩
 obtain ⟨y0,y1,y2,rfl⟩:∃y0 y1 y2,xs=[y0,y1,y2]:=by
  match xs,zq with
  | [y0,y1,y2],_=>exact ⟨_,_,_,rfl⟩
 have hs:=Small.struct Tryz.underlying45 hw
 obtain ⟨s0,hs⟩:=Small.cN hs
 have q0:DataW.trod enc Tryz.prog w base spare held n 9 [c0]=some y0:=by simpa [NT] using hf 0 _ rfl
 obtain ⟨φ1,h1,x0,g0,l0,o0⟩:=EJ (t:=9) Tryz.underlying9 _ _ (Gx.refl ok ro ty).ok (Gx.refl ok ro ty).ro (Gx.refl ok ro ty).tidy _ _ _ rfl s0 q0
 have G0:=Gx.trans (Gx.refl ok ro ty) g0
 obtain ⟨s1,hs⟩:=Small.cN hs
 have q1:DataW.trod enc Tryz.prog w base spare held n 3 [c1]=some y1:=by simpa [oi] using hf 1 _ rfl
 obtain ⟨φ2,h2,x1,g1,l1,o1⟩:=kt (t:=3) Tryz.underlying3 _ _ G0.ok G0.ro G0.tidy _ _ _ rfl s1 q1
 have G1:=Gx.trans G0 g1
 obtain ⟨s2,hs⟩:=Small.cN hs
 have q2:DataW.trod enc Tryz.prog w base spare held n 43 [c2]=some y2:=by simpa [TR] using hf 2 _ rfl
 obtain ⟨φ3,h3,x2,g2,l2,o2⟩:=WT _ _ G1.ok G1.ro G1.tidy _ _ _ rfl s2 q2
 have G2:=Gx.trans G1 g2
 have L0:=LR.mono (Ph.le_trans (Ph.le_trans (Ph.le_refl _) g1.le) g2.le) l0
 have L1:=LR.mono (Ph.le_trans (Ph.le_refl _) g2.le) l1
 have L2:=LR.mono (Ph.le_refl _) l2
 exact ⟨_,_,⟨x0,x1,x2.1,x2.2⟩,G2,(LR.append L0 (LR.append L1 (LR.append L2 (LR.nil _)))),⟨o0,o2⟩⟩
theorem TU:Tryz.prog.cellsOf 23=1:=by kernel_rfl
theorem WV:mh enc w base spare held 23 1 (fun x:AV×List aZ=> [x.1]) (fun h x=>aH h x.1 x.2):=pI (t:=23) Tryz.underlying23 TS (of_decide_eq_true (by kernel_rfl)) (fun _ x m o h=>by
 simp only[aB.c,aZ.c,List.mem_cons,List.not_mem_nil,or_false,reduceCtorEq,false_or] at h
 exact aH.MS (o.2) h) WU
theorem TV:Tryz.prog.cellsOf 25=2:=by kernel_rfl
theorem WW:mh enc w base spare held 25 2 (aB.c (α:=cF)) aB.ok:=fun φ h0 ok ro ty cs z fuel hl hw hv=>by
 obtain ⟨xs,n,_,rfl,_,zq,hf⟩:=DataW.trod_struct Tryz.underlying25 hv
 obtain ⟨c0,c1,rfl⟩:∃c0 c1,cs=[c0,c1]:=by
  match cs,hl with
  | [c0,c1],_=>exact ⟨_,_,rfl⟩
 obtain ⟨y0,y1,rfl⟩:∃y0 y1,xs=[y0,y1]:=by
  match xs,zq with
  | [y0,y1],_=>exact ⟨_,_,rfl⟩
 have hs:=Small.struct Tryz.underlying25 hw
 obtain ⟨s0,hs⟩:=Small.cN hs
 have q0:DataW.trod enc Tryz.prog w base spare held n 22 [c0]=some y0:=by simpa [TP] using hf 0 _ rfl
 obtain ⟨φ1,h1,x0,g0,l0,o0⟩:=WR _ _ (Gx.refl ok ro ty).ok (Gx.refl ok ro ty).ro (Gx.refl ok ro ty).tidy _ _ _ rfl s0 q0
 have G0:=Gx.trans (Gx.refl ok ro ty) g0
 obtain ⟨s1,hs⟩:=Small.cN hs
 have q1:DataW.trod enc Tryz.prog w base spare held n 23 [c1]=some y1:=by simpa [TU] using hf 1 _ rfl
 obtain ⟨φ2,h2,x1,g1,l1,o1⟩:=WV _ _ G0.ok G0.ro G0.tidy _ _ _ rfl s1 q1
 have G1:=Gx.trans G0 g1
 have L0:=LR.mono (Ph.le_trans (Ph.le_refl _) g1.le) l0
 have L1:=LR.mono (Ph.le_refl _) l1
 exact ⟨_,_,⟨x0.1,x0.2,x1.1,x1.2⟩,G1,(LR.append L0 (LR.append L1 (LR.nil _))),⟨(o0.has g1.has),o1⟩⟩
theorem TW:Tryz.prog.cellsOf 28=3:=by kernel_rfl
theorem WX:mh enc w base spare held 28 3 (aB.c (α:=jg)) aB.ok:=fun φ h0 ok ro ty cs z fuel hl hw hv=>by
 obtain ⟨xs,n,_,rfl,_,zq,hf⟩:=DataW.trod_struct Tryz.underlying28 hv
 obtain ⟨c0,c1,c2,rfl⟩:∃c0 c1 c2,cs=[c0,c1,c2]:=by
  match cs,hl with
  | [c0,c1,c2],_=>exact ⟨_,_,_,rfl⟩
 obtain ⟨y0,y1,y2,rfl⟩:∃y0 y1 y2,xs=[y0,y1,y2]:=by
  match xs,zq with
  | [y0,y1,y2],_=>exact ⟨_,_,_,rfl⟩
 have hs:=Small.struct Tryz.underlying28 hw
 obtain ⟨s0,hs⟩:=Small.cN hs
 have q0:DataW.trod enc Tryz.prog w base spare held n 3 [c0]=some y0:=by simpa [oi] using hf 0 _ rfl
 obtain ⟨φ1,h1,x0,g0,l0,o0⟩:=kt (t:=3) Tryz.underlying3 _ _ (Gx.refl ok ro ty).ok (Gx.refl ok ro ty).ro (Gx.refl ok ro ty).tidy _ _ _ rfl s0 q0
 have G0:=Gx.trans (Gx.refl ok ro ty) g0
 obtain ⟨s1,hs⟩:=Small.cN hs
 have q1:DataW.trod enc Tryz.prog w base spare held n 26 [c1]=some y1:=by simpa [JF] using hf 1 _ rfl
 obtain ⟨φ2,h2,x1,g1,l1,o1⟩:=NU _ _ G0.ok G0.ro G0.tidy _ _ _ rfl s1 q1
 have G1:=Gx.trans G0 g1
 obtain ⟨s2,hs⟩:=Small.cN hs
 have q2:DataW.trod enc Tryz.prog w base spare held n 3 [c2]=some y2:=by simpa [oi] using hf 2 _ rfl
 obtain ⟨φ3,h3,x2,g2,l2,o2⟩:=kt (t:=3) Tryz.underlying3 _ _ G1.ok G1.ro G1.tidy _ _ _ rfl s2 q2
 have G2:=Gx.trans G1 g2
 have L0:=LR.mono (Ph.le_trans (Ph.le_trans (Ph.le_refl _) g1.le) g2.le) l0
 have L1:=LR.mono (Ph.le_trans (Ph.le_refl _) g2.le) l1
 have L2:=LR.mono (Ph.le_refl _) l2
 exact ⟨_,_,⟨x0,x1.1,x1.2,x2⟩,G2,(LR.append L0 (LR.append L1 (LR.append L2 (LR.nil _)))),(o1.has g2.has)⟩
end
end
end Go.Proofs.aE
