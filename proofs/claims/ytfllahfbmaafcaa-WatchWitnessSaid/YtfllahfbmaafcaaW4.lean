import Derived.Test.YtfllahfbmaafcaaW3
import Derived.Test.YtfllahfbmaafcaaW2
import Derived.Test.YtfllahfbmaafcaaW0
set_option linter.unusedVariables false
set_option linter.unusedSimpArgs false
namespace Go.Proofs.aG
open Go.Proofs Ab
noncomputable section
set_option maxRecDepth 100000
set_option maxHeartbeats 4000000
theorem aaA {α:Type} [Inhabited α] {l:List α} {P:α→Prop}:(∀x∈l,P x)↔∀i,i<l.length→P (l.g i):=by
 constructor
 · intro h i hi;exact h _ (by rw[List.g,List.getD_eq_getElem?_getD,List.getElem?_eq_getElem hi];exact List.getElem_mem hi)
 · intro h x hx
   obtain ⟨i,hi,rfl⟩:=List.mem_iff_getElem.1 hx
   have:=h i hi
   rwa [List.g,List.getD_eq_getElem?_getD,List.getElem?_eq_getElem hi] at this
def rJ (q:aD) (l:List bC) (i j:Nat):Bool:=og (kH (cQ q (l.g i) (l.g j).time) (⟨(l.g j).aw,(l.g j).ar⟩:Span))
theorem Yp (l:List bC) (q:aD) (i0:Nat):∀(k i:Nat),(jl l q i0 k i=none∧∀j,i≤j→j<i+k→rJ q l i0 j=false)∨(jl l q i0 k i=some false∧∃j,i≤j∧j<i+k∧rJ q l i0 j=true)
 | 0,i=> .inl ⟨rfl,fun j a b=>by omega⟩
 | k+1,i=>by
   rw[jl]
   show ((bif rJ q l i0 i then some false else _)=none∧_)∨_
   cases e:rJ q l i0 i with
   | true=>exact .inr ⟨by rw[show og _=true from e];rfl,i,Nat.le_refl _,by omega,e⟩
   | false=>
     rw[show og _=false from e]
     rcases Yp l q i0 k (i+1) with ⟨h1,h2⟩ | ⟨h1,j,h2,h3,h4⟩
     · refine .inl ⟨h1,fun j a b=>?_⟩
       by_cases ej:j=i
       · rw[ej];exact e
       · exact h2 j o! o!
     · exact .inr ⟨h1,j,by omega,by omega,h4⟩
theorem Yq (l:List bC) (q:aD):∀(k i:Nat),(jm l q k i=none∧∀j,i≤j→j<i+k→∀m,m<l.length→rJ q l j m=false)∨(jm l q k i=some false∧∃j m,i≤j∧j<i+k∧m<l.length∧rJ q l j m=true)
 | 0,i=> .inl ⟨rfl,fun j a b=>by omega⟩
 | k+1,i=>by
   rw[jm]
   rcases Yp l q i l.length 0 with ⟨h1,h2⟩ | ⟨h1,m,_,h3,h4⟩
   · rw[h1]
     rcases Yq l q k (i+1) with ⟨h5,h6⟩ | ⟨h5,j,m,h6,h7,h8,h9⟩
     · refine .inl ⟨h5,fun j a b m hm=>?_⟩
       by_cases ej:j=i
       · rw[ej];exact h2 m (Nat.zero_le _) o!
       · exact h6 j o! o! m hm
     · exact .inr ⟨h5,j,m,by omega,by omega,h8,h9⟩
   · rw[h1];exact .inr ⟨rfl,i,m,Nat.le_refl _,by omega,by omega,h4⟩
section
variable {q:aD} (f0:0≤q.aI) (f1:q.aI≤10000) (r0:0≤q.aH) (r1:q.aH≤10000) {l:List bC} (hl:∀k∈l,KB k)
include f0 f1 r0 r1 hl
theorem JJ {i j:Nat} (hi:i<l.length) (hj:j<l.length):rJ q l i j=false↔max (eY q.aI q.aH (l.g i) (l.g j).time).ay (l.g j).aw≤min (eY q.aI q.aH (l.g i) (l.g j).time).aq (l.g j).ar:=by
 have kj:=hl _ (lW hj)
 rw[rJ,(xP f0 f1 r0 r1 (hl _ (lW hi)) kj.1.1 kj.1.2).1,og,kH]
 simp only[ux,rI,decide_eq_false_iff_not,Int.not_lt]
theorem CI:jI q l=true↔nV q.aI q.aH l:=by
 have key:nV q.aI q.aH l↔∀i,i<l.length→∀j,j<l.length→rJ q l i j=false:=by
  unfold nV
  constructor
  · intro h i hi j hj;exact (JJ f0 f1 r0 r1 hl hi hj).2 (h _ (lW hi) _ (lW hj))
  · intro h
    rw[aaA];intro i hi;rw[aaA];intro j hj
    exact (JJ f0 f1 r0 r1 hl hi hj).1 (h i hi j hj)
 rw[key,jI]
 rcases Yq l q l.length 0 with ⟨h1,h2⟩ | ⟨h1,j,m,h2,h3,h4,h5⟩
 · rw[h1];exact ⟨fun _ i hi j hj=>h2 i (Nat.zero_le _) o! j hj,fun _=>rfl⟩
 · rw[h1]
   refine ⟨fun h=>(by cases h),fun h=>?_⟩
   rw[h j o! m h4] at h5;cases h5
variable {t:Int} (t0:0≤t) (t1:t≤100000)
include t0 t1
theorem Yr:∀(k i:Nat) (a b:Int),i+k=l.length→(∃c∈l,a=(eY q.aI q.aH c t).ay)→(∃c∈l,b=(eY q.aI q.aH c t).aq)→
 (∃c∈l,(gH q l t k i a b).1=(eY q.aI q.aH c t).ay)∧(∃c∈l,(gH q l t k i a b).2=(eY q.aI q.aH c t).aq)∧a≤(gH q l t k i a b).1∧(gH q l t k i a b).2≤b∧∀j,i≤j→j<l.length→(eY q.aI q.aH (l.g j) t).ay≤(gH q l t k i a b).1∧(gH q l t k i a b).2≤(eY q.aI q.aH (l.g j) t).aq
 | 0,i,a,b,h,ha,hb=>⟨ha,hb,Int.le_refl _,Int.le_refl _,fun j p q=>by omega⟩
 | k+1,i,a,b,h,ha,hb=>by
   have hi:i<l.length:=by omega
   rw[gH,(xP f0 f1 r0 r1 (hl _ (lW hi)) t0 t1).1,kH]
   simp only[ux,rI]
   obtain ⟨x1,x2,x3,x4,x5⟩:=Yr k (i+1) (max a (eY q.aI q.aH (l.g i) t).ay) (min b (eY q.aI q.aH (l.g i) t).aq) o!
    (by
     by_cases e:a≤(eY q.aI q.aH (l.g i) t).ay
     · exact ⟨_,lW hi,by omega⟩
     · obtain ⟨c,h1,h2⟩:=ha;exact ⟨c,h1,by omega⟩)
    (by
     by_cases e:(eY q.aI q.aH (l.g i) t).aq≤b
     · exact ⟨_,lW hi,by omega⟩
     · obtain ⟨c,h1,h2⟩:=hb;exact ⟨c,h1,by omega⟩)
   refine ⟨x1,x2,by omega,by omega,fun j p q'=>?_⟩
   by_cases e:j=i
   · subst e;exact ⟨by omega,by omega⟩
   · exact x5 j o! q'
theorem Ys (hn:0<l.length):(∃c∈l,(mz q l t).ay=(eY q.aI q.aH c t).ay)∧(∃c∈l,(mz q l t).aq=(eY q.aI q.aH c t).aq)∧∀c∈l,(eY q.aI q.aH c t).ay≤(mz q l t).ay∧(mz q l t).aq≤(eY q.aI q.aH c t).aq:=by
 have e0:=(xP f0 f1 r0 r1 (hl _ (lW hn)) t0 t1).1
 rw[mz,e0]
 obtain ⟨x1,x2,x3,x4,x5⟩:=Yr f0 f1 r0 r1 hl t0 t1 (l.length - 1) 1 _ _ o! ⟨_,lW hn,rfl⟩ ⟨_,lW hn,rfl⟩
 refine ⟨x1,x2,?_⟩
 rw[aaA];intro j hj
 by_cases e:j=0
 · subst e;exact ⟨x3,x4⟩
 · exact x5 j o! hj
theorem at_mem (hn:0<l.length) (ha:nV q.aI q.aH l):(mz q l t).ay≤(mz q l t).aq∧Bd (mz q l t)∧∀x,((mz q l t).ay≤x∧x≤(mz q l t).aq)↔∀c∈l,(eY q.aI q.aH c t).ay≤x∧x≤(eY q.aI q.aH c t).aq:=by
 obtain ⟨⟨c,hc,e1⟩,⟨d,hd,e2⟩,h⟩:=Ys f0 f1 r0 r1 hl t0 t1 hn
 obtain ⟨b1,b2,b3,b4⟩:=(xP f0 f1 r0 r1 (hl _ hc) t0 t1).2
 obtain ⟨c1,c2,c3,c4⟩:=(xP f0 f1 r0 r1 (hl _ hd) t0 t1).2
 refine ⟨by rw[e1,e2];exact CH f0 r0 ha t hc hd,⟨by omega,by omega,by omega,by omega⟩,fun x=>⟨fun hx k hk=>?_,fun hx=>?_⟩⟩
 · have:=h k hk;omega
 · have:=hx c hc;have:=hx d hd;omega
end
theorem Hg {n:Int} (h:fJ n=true):0≤n∧n≤100000:=by
 rw[fJ] at h
 by_cases a:0≤n
 · rw[decide_eq_true a] at h;exact ⟨a,of_decide_eq_true h⟩
 · rw[decide_eq_false a] at h;cases h
theorem rvalue {n:Int} (h:cF n=true): -1000000000≤n∧n≤1000000000:=by
 rw[cF] at h
 by_cases a: -1000000000≤n
 · rw[decide_eq_true a] at h;exact ⟨a,of_decide_eq_true h⟩
 · rw[decide_eq_false a] at h;cases h
theorem Ti {b:Bool} (h:(!b)=false):b=true:=by cases b;cases h;rfl
theorem Yt (q:aD):∀(k i:Nat),bO q k i=none→∀j,i≤j→j<i+k→bN (q.aC.g j)=0
 | 0,i,_,j,a,b=>by omega
 | k+1,i,h,j,a,b=>by
   rw[bO] at h
   cases h1:dO (q.aC.g i).name with
   | false=>rw[h1] at h;cases h
   | true=>
     rw[h1] at h
     simp only[Bool.not_true,aj] at h
     cases h2:bW i q i 0 with
     | some r=>rw[h2] at h;cases h
     | none=>
       rw[h2] at h
       by_cases e:bN (q.aC.g i)=0
       · rw[decide_eq_true e] at h
         by_cases ej:j=i
         · rw[ej];exact e
         · exact Yt q k (i+1) h j o! o!
       · rw[decide_eq_false e] at h;cases h
theorem Yu (q:aD):∀(k i:Nat),(∀j,j<i+k→True)→bO q k i≠some 0
 | 0,i,_,h=>by cases h
 | k+1,i,_,h=>by
   rw[bO] at h
   cases h1:dO (q.aC.g i).name with
   | false=>rw[h1] at h;cases h
   | true=>
     rw[h1] at h
     simp only[Bool.not_true,aj] at h
     have l1:∀(k' i':Nat),bW i q k' i'≠some 0:=by
      intro k'
      induction k' with
      | zero=>intro i' h;cases h
      | succ k' ih=>
        intro i' h
        rw[bW] at h
        cases hq:decide ((q.aC.g i').name=(q.aC.g i).name) with
        | true=>rw[hq] at h;cases h
        | false=>rw[hq] at h;exact ih _ h
     cases h2:bW i q i 0 with
     | some r=>rw[h2] at h;exact l1 _ _ (h2.trans h)
     | none=>
       rw[h2] at h
       by_cases e:bN (q.aC.g i)=0
       · rw[decide_eq_true e] at h;exact Yu q k (i+1) (fun _ _=>trivial) h
       · rw[decide_eq_false e] at h;exact e (Option.some.inj h)
structure RF (q:aD) (l:List aK):Prop where
 start: -1000000000≤q.ai∧q.ai≤q.af∧q.af≤1000000000
 pG:0≤q.aH∧q.aH≤10000∧0≤q.aI∧q.aI≤10000
 bad:0≤q.bad∧q.bad≤(q.aC.length:Int)∧q.aC.length≤8
 aL:∀j,j<q.aC.length→0≤(q.aC.g j).acc∧(q.aC.g j).acc≤1000000000∧0≤(q.aC.g j).bQ∧(q.aC.g j).bQ≤1000000000∧0≤(q.aC.g j).since∧(q.aC.g j).since≤100000
 r5:l.length≤64
 read:∀i,i<l.length→(0≤(l.g i).aL∧(l.g i).aL<(q.aC.length:Int))∧(0≤(l.g i).time∧(l.g i).time≤100000)∧-1000000000≤(l.g i).value∧(l.g i).value≤1000000000
theorem NU {q:aD} {l:List aK} (h:bx q l=0):RF q l:=by
 rw[bx] at h
 by_cases e:aM q=0
 · rw[decide_eq_true e,ak] at h
   by_cases e2:(64:Int)<((l.length:Nat):Int)
   · rw[decide_eq_true e2,ak] at h
     exact absurd (vR q l _ _ _ h).1 (by decide)
   · rw[decide_eq_false e2,aj] at h
     have hr:=(vR q l _ _ _ h).2
     rw[aM] at e
     obtain ⟨_,e⟩:=ly (by decide) e
     obtain ⟨a1,e⟩:=ly (by decide) e
     obtain ⟨a2,e⟩:=ly (by decide) e
     obtain ⟨a3,e⟩:=ly (by decide) e
     obtain ⟨a4,e⟩:=ly (by decide) e
     obtain ⟨a5,e⟩:=ly (by decide) e
     obtain ⟨a6,e⟩:=ly (by decide) e
     obtain ⟨a7,e⟩:=ly (by decide) e
     obtain ⟨a8,e⟩:=ly (by decide) e
     obtain ⟨a9,e⟩:=ly (by decide) e
     obtain ⟨ZG,e⟩:=ly (by decide) e
     have a1:=rvalue (Ti a1);have a2:=rvalue (Ti a2)
     have a3:=of_decide_eq_false a3;have a4:=of_decide_eq_false a4;have a5:=of_decide_eq_false a5;have a6:=of_decide_eq_false a6;have a7:=of_decide_eq_false a7;have a8:=of_decide_eq_false a8;have a9:=of_decide_eq_false a9;have ZG:=of_decide_eq_false ZG
     have hn:bO q q.aC.length 0=none:=by
      cases hc:bO q q.aC.length 0 with
      | none=>rfl
      | some r=>rw[hc] at e;exact absurd (hc.trans (congrArg some e)) (Yu q _ _ fun _ _=>trivial)
     refine ⟨⟨by omega,by omega,by omega⟩,⟨by omega,by omega,by omega,by omega⟩,⟨by omega,by omega,by omega⟩,fun j hj=>?_,by omega,fun i hi=>?_⟩
     · have g:=Yt q _ _ hn j (Nat.zero_le _) o!
       rw[bN] at g
       obtain ⟨b1,g⟩:=ly (by decide) g
       obtain ⟨b2,g⟩:=ly (by decide) g
       obtain ⟨b3,g⟩:=ly (by decide) g
       obtain ⟨b4,g⟩:=ly (by decide) g
       obtain ⟨b5,g⟩:=ly (by decide) g
       have b1:=of_decide_eq_false b1;have b2:=of_decide_eq_false b2;have b3:=of_decide_eq_false b3;have b4:=of_decide_eq_false b4;have b5:=Hg (Ti b5)
       omega
     · have k:=hr i (Nat.zero_le _) o!
       rw[b_] at k
       obtain ⟨k1,k⟩:=ly (by decide) k
       obtain ⟨k2,k⟩:=ly (by decide) k
       obtain ⟨k3,k⟩:=ly (by decide) k
       obtain ⟨k4,k⟩:=ly (by decide) k
       have k1:=of_decide_eq_false k1;have k2:=of_decide_eq_false k2;have k3:=Hg (Ti k3);have k4:=rvalue (Ti k4)
       omega
 · rw[decide_eq_false e,aj] at h
   exact absurd (vR q l _ _ _ h).1 e
theorem Tj {x y m:Int} (h1:x≤m) (h2:y≤m):imax x y≤m∧y≤imax x y:=by unfold imax;split<;>omega
theorem qF {g:bV} {t:Int} (h:0≤g.acc∧g.acc≤1000000000∧0≤g.bQ∧g.bQ≤1000000000∧0≤g.since∧g.since≤100000) (t0:0≤t) (t1:t≤100000):0≤cn g t∧cn g t≤102000000000:=by
 obtain ⟨a1,a2,a3,a4,a5,a6⟩:=h
 rw[cn,wrap_i64 (n:=t - g.since) o! o!]
 obtain ⟨m1,m2⟩:=Tj (x:=t - g.since) (y:=0) (m:=100000) o! o!
 generalize imax (t - g.since) 0=m at m1 m2 ⊢
 rw[wrap_i64 (n:=m+999) o! o!,Int.tdiv_eq_ediv_of_nonneg o!]
 rw[wrap_i64 (n:=(m+999) /1000) o! o!]
 have d1:0≤(m+999) /1000:=by omega
 have d2:(m+999) /1000≤100:=by omega
 generalize (m+999) /1000=d at d1 d2 ⊢
 have p1:0≤g.bQ*d:=Int.mul_nonneg a3 d1
 have p2:g.bQ*d≤100000000000:=by
  calc g.bQ*d≤1000000000*d:=Int.mul_le_mul_of_nonneg_right a4 d1
   _≤100000000000:=by omega
 rw[wrap_i64 (n:=g.bQ*d) o! o!,wrap_i64 (n:=g.acc+g.bQ*d) o! o!]
 omega
def Af (q:aD) (r:aK):bC:=⟨r.time,r.value - cn (q.aC.g r.aL.toNat) r.time,r.value+cn (q.aC.g r.aL.toNat) r.time⟩
def JK (q:aD):bC:=⟨0,q.ai,q.af⟩
theorem CJ {q:aD} {l:List aK} (f:RF q l) (s:Int):∀(k i:Nat) (v:List bC),i+k=l.length→∀c,c∈dE l q s k i v↔c∈v∨∃j,i≤j∧j<l.length∧qA s (l.g j).aL=false∧c=Af q (l.g j)
 | 0,i,v,h,c=>by
   rw[dE]
   exact ⟨.inl,fun h'=>h'.elim id fun ⟨j,a,b,_⟩=>by omega⟩
 | k+1,i,v,h,c=>by
   have hi:i<l.length:=by omega
   obtain ⟨⟨g1,g2⟩,⟨g3,g4⟩,g5,g6⟩:=f.read i hi
   obtain ⟨w1,w2⟩:=qF (f.aL (l.g i).aL.toNat o!) g3 g4
   rw[dE]
   cases e:qA s (l.g i).aL with
   | true=>
     show c∈dE l q s k (i+1) v↔_
     rw[CJ f s k (i+1) v o! c]
     constructor
     · rintro (w | ⟨j,a,b,w⟩)
       · exact .inl w
       · exact .inr ⟨j,by omega,b,w⟩
     · rintro (w | ⟨j,a,b,w⟩)
       · exact .inl w
       · refine .inr ⟨j,?_,b,w⟩
         rcases Nat.lt_or_eq_of_le a with q1 | q1
         · omega
         · subst q1;rw[e] at w;cases w.1
   | false=>
     show c∈dE l q s k (i+1) (v++[_])↔_
     rw[wrap_i64 (n:=(l.g i).value - cn (q.aC.g (l.g i).aL.toNat) (l.g i).time) o! o!,wrap_i64 (n:=(l.g i).value+cn (q.aC.g (l.g i).aL.toNat) (l.g i).time) o! o!,CJ f s k (i+1) _ o! c,List.mem_append,List.mem_singleton]
     constructor
     · rintro ((w | w) | ⟨j,a,b,w⟩)
       · exact .inl w
       · exact .inr ⟨i,Nat.le_refl _,hi,e,w⟩
       · exact .inr ⟨j,by omega,b,w⟩
     · rintro (w | ⟨j,a,b,w⟩)
       · exact .inl (.inl w)
       · rcases Nat.lt_or_eq_of_le a with q1 | q1
         · exact .inr ⟨j,by omega,b,w⟩
         · subst q1;exact .inl (.inr w.2)
theorem E4 {q:aD} {l:List aK} (f:RF q l) (s:Int) (c:bC):c∈dK q l s↔c=JK q∨∃j,j<l.length∧qA s (l.g j).aL=false∧c=Af q (l.g j):=by
 rw[dK,CJ f s _ 0 _ o! c,List.mem_singleton]
 exact or_congr Iff.rfl ⟨fun ⟨j,_,b⟩=>⟨j,b⟩,fun ⟨j,b⟩=>⟨j,Nat.zero_le _,b⟩⟩
theorem CK {q:aD} {l:List aK} (f:RF q l) {j:Nat} (hj:j<l.length):KB (Af q (l.g j)):=by
 obtain ⟨⟨g1,g2⟩,⟨g3,g4⟩,g5,g6⟩:=f.read j hj
 obtain ⟨w1,w2⟩:=qF (f.aL (l.g j).aL.toNat o!) g3 g4
 exact ⟨⟨g3,g4⟩,by simp only[Af];omega,by simp only[Af];omega,by simp only[Af];omega,by simp only[Af];omega⟩
theorem tv {q:aD} {l:List aK} (f:RF q l) (s:Int):∀c∈dK q l s,KB c:=fun c hc=>by
 rcases (E4 f s c).1 hc with rfl | ⟨j,hj,_,rfl⟩
 · have:=f.start;exact ⟨⟨by simp [JK],by simp [JK]⟩,by simp only[JK];omega,by simp only[JK];omega,by simp only[JK];omega,by simp only[JK];omega⟩
 · exact CK f hj
def sz (s:Nat):Nat:=((List.range 8).filter fun j=>s.testBit j).length
theorem WY {s:Nat} (h:s<256):pY ((s:Nat):Int)=(sz s:Int):=by
 have:∀s,s<256→pY ((s:Nat):Int)=(sz s:Int):=by decide+kernel
 exact this s h
theorem LY {s:Nat} {g:Int} (h:s<256) (g0:0≤g) (g1:g<8):qA ((s:Nat):Int) g=s.testBit g.toNat:=by
 have:∀s,s<256→∀g,g<8→qA ((s:Nat):Int) ((g:Nat):Int)=s.testBit g:=by decide+kernel
 obtain ⟨k,rfl⟩:∃k:Nat,g=k:=⟨g.toNat,by omega⟩
 exact this s h k o!
theorem aaB {n:Nat} (h:n≤8):(d_ .i64 1 ((n:Nat):Int)).toNat=2^n:=by
 have:∀n,n<9→(d_ .i64 1 ((n:Nat):Int)).toNat=2^n:=by decide+kernel
 exact this n o!
theorem pH {n:Nat} (h:n≤8):2^n≤256:=by
 have:=Nat.pow_le_pow_right (n:=2) (by decide) h
 exact this
def Yv (n s:Nat):Bool:=(List.range n).any fun j=>decide (s+2^j<2^n)&&(sz (s+2^j)==sz s+1)&&(List.range 8).all fun i=> !s.testBit i||(s+2^j).testBit i
theorem Tk:((List.range 9).all fun n=>(List.range (2^n)).all fun s=> !decide (sz s<n)||Yv n s)=true:=by decide+kernel
theorem WZ {n s:Nat} (hn:n≤8) (hs:s<2^n) (h:sz s<n):∃s',s'<2^n∧sz s'=sz s+1∧∀i,i<8→s.testBit i=true→s'.testBit i=true:=by
 have a:=List.all_eq_true.1 (List.all_eq_true.1 Tk n (List.mem_range.2 o!)) s (List.mem_range.2 hs)
 rw[decide_eq_true h] at a
 obtain ⟨j,_,hj⟩:=List.any_eq_true.1 (show Yv n s=true from a)
 rw[Bool.and_eq_true,Bool.and_eq_true] at hj
 refine ⟨_,of_decide_eq_true hj.1.1,eq_of_beq hj.1.2,fun i hi hb=>?_⟩
 have c:=List.all_eq_true.1 hj.2 i (List.mem_range.2 hi)
 rw[hb] at c;exact c
theorem Tl {n b:Nat} (hn:n≤8) (hb:b≤n):∀(k s:Nat),s<2^n→sz s+k=b→∃s',s'<2^n∧sz s'=b∧∀i,i<8→s.testBit i=true→s'.testBit i=true
 | 0,s,hs,h=>⟨s,hs,h,fun _ _ h=>h⟩
 | k+1,s,hs,h=>by
   obtain ⟨s1,a1,a2,a3⟩:=WZ hn hs o!
   obtain ⟨s2,b1,b2,b3⟩:=Tl hn hb k s1 a1 o!
   exact ⟨s2,b1,b2,fun i hi h=>b3 i hi (a3 i hi h)⟩
def KS (q:aD) (l:List aK) (s:Nat) (c:bC):Prop:=c=JK q∨∃j,j<l.length∧s.testBit (l.g j).aL.toNat=false∧c=Af q (l.g j)
theorem jY {q:aD} {l:List aK} (f:RF q l) {s:Nat} (hs:s<256) (c:bC):c∈dK q l ((s:Nat):Int)↔KS q l s c:=by
 rw[E4 f]
 refine or_congr Iff.rfl ⟨fun ⟨j,a,b,c⟩=>⟨j,a,?_,c⟩,fun ⟨j,a,b,c⟩=>⟨j,a,?_,c⟩⟩
 · have:=(f.read j a).1;have:=f.bad;rw[←LY hs o! o!];exact b
 · have:=(f.read j a).1;have:=f.bad;rw[LY hs o! o!];exact b
def vX (q:aD) (l:List aK) (s:Nat):Prop:=∀i,KS q l s i→∀k,KS q l s k→max (eY q.aI q.aH i k.time).ay k.aw≤min (eY q.aI q.aH i k.time).aq k.ar
def LZ (q:aD) (l:List aK) (s:Nat) (t x:Int):Prop:=∀c,KS q l s c→(eY q.aI q.aH c t).ay≤x∧x≤(eY q.aI q.aH c t).aq
theorem uy {q:aD} {l:List aK} (f:RF q l) {s s':Nat} (h:∀i,i<8→s.testBit i=true→s'.testBit i=true) {c:bC} (k:KS q l s' c):KS q l s c:=by
 rcases k with k | ⟨j,a,b,c⟩
 · exact .inl k
 · refine .inr ⟨j,a,?_,c⟩
   have:=(f.read j a).1;have:=f.bad
   cases e:s.testBit (l.g j).aL.toNat with
   | false=>rfl
   | true=>rw[h _ o! e] at b;cases b
theorem Tm {q:aD} {l:List aK} (f:RF q l) (t x:Int):(∃s,s<2^q.aC.length∧(sz s:Int)≤q.bad∧vX q l s∧LZ q l s t x)↔∃s,s<2^q.aC.length∧(sz s:Int)=q.bad∧vX q l s∧LZ q l s t x:=by
 obtain ⟨b0,b1,b2⟩:=f.bad
 constructor
 · rintro ⟨s,h1,h2,h3,h4⟩
   obtain ⟨s',a1,a2,a3⟩:=Tl b2 (b:=q.bad.toNat) o! (q.bad.toNat - sz s) s h1 o!
   exact ⟨s',a1,by omega,fun i hi k hk=>h3 i (uy f a3 hi) k (uy f a3 hk),fun c hc=>h4 c (uy f a3 hc)⟩
 · rintro ⟨s,h1,h2,h3,h4⟩
   exact ⟨s,h1,by omega,h3,h4⟩
theorem NV {q:aD} {l:List aK} (f:RF q l) {s:Nat} (hs:s<256):jI q (dK q l ((s:Nat):Int))=true↔vX q l s:=by
 obtain ⟨r0,r1,f0,f1⟩:=f.pG
 rw[CI f0 f1 r0 r1 (tv f _)]
 exact ⟨fun h i hi k hk=>h i ((jY f hs i).2 hi) k ((jY f hs k).2 hk),fun h i hi k hk=>h i ((jY f hs i).1 hi) k ((jY f hs k).1 hk)⟩
theorem Hh {q:aD} {l:List aK} (f:RF q l) {t:Int} (t0:0≤t) (t1:t≤100000):∀(k i:Nat) (v:List Span),i+k=2^q.aC.length→Canon v→(∀s∈v,Bd s)→
 Canon (cr q l t k i v)∧∀x,uT (cr q l t k i v) x↔uT v x∨∃s,i≤s∧s<2^q.aC.length∧(sz s:Int)≤q.bad∧vX q l s∧LZ q l s t x
 | 0,i,v,h,c,b=>by
   rw[cr]
   exact ⟨c,fun x=>⟨.inl,fun w=>w.elim id fun ⟨s,a,b,_⟩=>by omega⟩⟩
 | k+1,i,v,h,c,b=>by
   obtain ⟨b0,b1,b2⟩:=f.bad
   obtain ⟨r0,r1,f0,f1⟩:=f.pG
   have hi:i<256:=by have:=pH b2;omega
   have skip:(¬((sz i:Int)≤q.bad∧vX q l i))→Canon (cr q l t k (i+1) v)∧∀x,uT (cr q l t k (i+1) v) x↔uT v x∨∃s,i≤s∧s<2^q.aC.length∧(sz s:Int)≤q.bad∧vX q l s∧LZ q l s t x:=fun hn=>by
    obtain ⟨x1,x2⟩:=Hh f t0 t1 k (i+1) v o! c b
    refine ⟨x1,fun x=>(x2 x).trans (or_congr Iff.rfl ⟨fun ⟨s,a,w⟩=>⟨s,by omega,w⟩,fun ⟨s,a,w,w2,w3,w4⟩=>⟨s,?_,w,w2,w3,w4⟩⟩)⟩
    rcases Nat.lt_or_eq_of_le a with e | e
    · omega
    · subst e;exact absurd ⟨w2,w3⟩ hn
   rw[cr,WY hi]
   by_cases e1:q.bad<(sz i:Int)
   · rw[decide_eq_true e1];exact skip fun w=>by omega
   · rw[decide_eq_false e1,aj]
     cases e2:jI q (dK q l ((i:Nat):Int)) with
     | false=>exact skip fun w=>by rw[(NV f hi).2 w.2] at e2;cases e2
     | true=>
       have ex:=(NV f hi).1 e2
       obtain ⟨m1,m2,m3⟩:=at_mem f0 f1 r0 r1 (tv f ((i:Nat):Int)) t0 t1 (zo q l ((i:Nat):Int)) ((CI f0 f1 r0 r1 (tv f _)).1 e2)
       rw[ak,PE c b m1 m2]
       obtain ⟨j1,j2,_⟩:=CD (l:=v) c m1
       obtain ⟨x1,x2⟩:=Hh f t0 t1 k (i+1) _ o! j1 (LX b m2)
       refine ⟨x1,fun x=>?_⟩
       rw[x2,j2,m3]
       have vi:(∀c∈dK q l ((i:Nat):Int),(eY q.aI q.aH c t).ay≤x∧x≤(eY q.aI q.aH c t).aq)↔LZ q l i t x:=⟨fun h c hc=>h c ((jY f hi c).2 hc),fun h c hc=>h c ((jY f hi c).1 hc)⟩
       rw[vi]
       constructor
       · rintro ((w | w) | ⟨s,a,w⟩)
         · exact .inl w
         · exact .inr ⟨i,Nat.le_refl _,by omega,by omega,ex,w⟩
         · exact .inr ⟨s,by omega,w⟩
       · rintro (w | ⟨s,a,w1,w2,w3,w4⟩)
         · exact .inl (.inl w)
         · rcases Nat.lt_or_eq_of_le a with e | e
           · exact .inr ⟨s,by omega,w1,w2,w3,w4⟩
           · subst e;exact .inl (.inr w4)
theorem tw {q:aD} {l:List aK} (f:RF q l) {t:Int} (t0:0≤t) (t1:t≤100000):Canon (cC q l t)∧∀x,uT (cC q l t) x↔∃s,s<2^q.aC.length∧(sz s:Int)=q.bad∧vX q l s∧LZ q l s t x:=by
 rw[cC,aaB f.bad.2.2]
 obtain ⟨x1,x2⟩:=Hh f t0 t1 (2^q.aC.length) 0 [] o! .nil (fun s hs=>by cases hs)
 refine ⟨x1,fun x=>?_⟩
 rw[x2,←Tm f]
 exact ⟨fun w=>w.elim (fun w=>absurd w xO) fun ⟨s,_,w⟩=>⟨s,w⟩,fun ⟨s,w⟩=> .inr ⟨s,Nat.zero_le _,w⟩⟩
def CL:Code:=(Try.f43.body).getD .skip
theorem JL:Try.f43.body=some CL:=by kernel_rfl
def iQ (g:bV) (t:Int):Int:=(IntKind.i64.wrap (g.acc+(IntKind.i64.wrap (g.bQ*(IntKind.i64.wrap (Int.tdiv (IntKind.i64.wrap ((IntKind.i64.wrap ((imax (IntKind.i64.wrap (t - g.since)) 0)+1000)) - 1)) 1000))))))
theorem JM {d:Nat} {h:aA} (g:bV) (t:Int) (Z2:aF.ok h g) (bS:Tidy h):cz (d+1) (.fn 43) [(AV.agg [(AV.str g.name),(Zi g.acc),(Zi g.bQ),(Zi g.since)]),(Zi t)] h= .ret (Zi (iQ g t)) h:=by
 obtain ⟨h1,cj,cg,iu,bf,cf⟩:=fY bS (aX.cells [(AV.str g.name),(Zi g.acc),(Zi g.bQ),(Zi g.since)] 45 false)
 have bA:Has h h1:=cf
 have e:iQ g t=(IntKind.i64.wrap (g.acc+(IntKind.i64.wrap (g.bQ*(IntKind.i64.wrap (Int.tdiv (IntKind.i64.wrap ((IntKind.i64.wrap ((imax (IntKind.i64.wrap (t - g.since)) 0)+1000)) - 1)) 1000)))))):=by simp only[iQ,ak,aj]
 rw[e]
 exact aE rfl (ba Try.func43 JL rfl (.inr rfl) (pk (d) _ _ h _ h1 (NN cj (fun i=>(Pt i))<|CN 3<|MM (aO 3 3 (Zi g.since) bf k!)<|CN 7<|MM (aO 3 1 (Zi g.acc) bf k!)<|CC<|MM (aO 3 2 (Zi g.bQ) bf k!)<|CN 4<|ZZ) k!) k!) bA rfl
def vY:Code:=(Try.f83.body).getD .skip
theorem AK:Try.f83.body=some vY:=by kernel_rfl
def ie (o:bV) (c:bV):Bool:=(decide (o.name=c.name))
theorem AL {d:Nat} {h:aA} (o:bV) (c:bV) (cB:Nat) (h_o:aF.ok h o) (Tn:aF.ok h c) (g_c:h.get cB=some (.cells (aF.c c) 45 false)) (bS:Tidy h):cz (d+1) (.fn 83) [(AV.agg [(AV.str o.name),(Zi o.acc),(Zi o.bQ),(Zi o.since)]),(Pt cB)] h= .ret (AV.bool (ie o c)) h:=by
 obtain ⟨h1,cj,cg,iu,bf,cf⟩:=fY bS (aX.cells [(AV.str o.name),(Zi o.acc),(Zi o.bQ),(Zi o.since)] 45 false)
 have bA:Has h h1:=cf
 have e:ie o c=(decide (o.name=c.name)):=by simp only[ie,ak,aj]
 rw[e]
 exact aE rfl (ba Try.func83 AK rfl (.inr rfl) (pk (d) _ _ h _ h1 (NN cj (fun i=>(Pt i))<|CN 2<|MM (aO 9 0 (AV.str o.name) bf k!)<|CC<|MM (aO 9 0 (AV.str c.name) (cf _ _ g_c) k!)<|VV (WK 9 false false o.name c.name)<|CC<|ZZ) k!) k!) bA rfl
def pI:Code:=(Try.f91.body).getD .skip
theorem tx:Try.f91.body=some pI:=by kernel_rfl
def zp:Code:=(cc pI).getD 0 .skip
def ei (s:List bV) (P:bV→Bool):Nat→Nat→Option (Int)
 | 0,_=>none
 | dQ+1,i0=>(bif (P (s.g i0)) then some ((i0:Nat):Int) else ei s P dQ (i0+1))
theorem me {d:Nat} {h:aA} (sV:AV) (g:FuncId) (cap:List AV) (s:List bV) (P:bV→Bool) (bF:aY h sV s) (hP:∀y∈s,∀hh,Tidy hh→Has h hh→cz d (.fn g) (.agg (aF.c y)::cap) hh= .ret (.bool (P y)) hh):∀(k_ i_:Nat) (_:i_+k_=s.length) (x:Nat→AV) (hh:aA) (aQ:Tidy hh) (aW:Has h hh),aU (cz (d)) zp ⟨(sV::(AV.func g [] cap)::rx x 2 5 ((Zn s.length)::(Zn i_)::rx x 9 10 [])),hh,[],.no⟩ (.exit 0) hh (fun y=>(sV::(AV.func g [] cap)::rx y 2 5 ((Zn s.length)::rx y 8 11 []))) (fun r y=>(sV::(AV.func g [] cap)::(y 2)::(y 3)::(Zi r)::(y 5)::(y 6)::(Zn s.length)::rx y 8 11 [])) (ei s P k_ i_)
 | 0,i0,kY,x,hh,aQ,aW=>by
   have eR:=bF.small
   have q1:(decide (((i0:Nat):Int)<((s.length:Nat):Int)))=false:=d!
   exact aU.out rfl (pk (d) _ _ hh _ hh (VV (bK 3 false false .i64 ((i0:Nat):Int) ((s.length:Nat):Int))<|BB q1<|ZZ) k!) (Grow.refl aQ) k!
 | dQ+1,i0,kY,x,hh,aQ,aW=>by
   have eR:=bF.small
   have q1:(decide (((i0:Nat):Int)<((s.length:Nat):Int)))=true:=d!
   obtain ⟨p3,q4,oY⟩:=(bF.has aW).elem (i:=i0) o!
   have A1:cK env (some (.slice 45)) (some sV) (some (Zn i0))=some (AV.ptr p3 q4):=oY
   have DV:bk env hh 45 (AV.ptr p3 q4)=some (AV.agg [(AV.str (s.g i0).name),(Zi (s.g i0).acc),(Zi (s.g i0).bQ),(Zi (s.g i0).since)]):=(bF.has aW).load o! oY
   have k6:=hP (s.g i0) (lW o!) hh aQ aW
   rcases bZq (P (s.g i0)) with f1 | f1
   · exact aU.ret ((i0:Nat):Int) (by simp only[ei,f1,ak,aj]) (pk (d) _ _ hh _ hh (VV (bK 3 false false .i64 ((i0:Nat):Int) ((s.length:Nat):Int))<|BB q1<|CN 5<|VV A1<|MM DV<|EE k6<|BB f1<|CN 2<|ZZ) k!) (Grow.refl aQ) k!
   · have u8:=fu 3 false true i0 1 o!
     exact aU.round (by simp only[ei,f1,ak,aj]) (pk (d) _ _ hh _ hh (VV (bK 3 false false .i64 ((i0:Nat):Int) ((s.length:Nat):Int))<|BB q1<|CN 5<|VV A1<|MM DV<|EE k6<|BV f1 u8<|CC<|ZZ) k!) (Grow.refl aQ) _ k! (fun x=>me sV g cap s P bF hP dQ (i0+1) o! x hh aQ aW)
def fU (s:List bV) (P:bV→Bool):Int:=(match (ei s P s.length 0) with | none=>(-1) | some LG=>LG)
theorem CM {d:Nat} {h:aA} {sV:AV} {g:FuncId} {cap:List AV} (s:List bV) (P:bV→Bool) (Ca:aY h sV s) (hP:∀y∈s,∀hh,Tidy hh→Has h hh→cz d (.fn g) (.agg (aF.c y)::cap) hh= .ret (.bool (P y)) hh) (bS:Tidy h):cz (d+1) (.fn 91) [sV,(AV.func g [] cap)] h= .ret (Zi (fU s P)) h:=by
 have NW:=Ca.small
 have ja:dy (some (.slice 45)) (some sV)=some (Zn s.length):=Ca.len
 cases jn:ei s P s.length 0 with
 | none=>
   obtain ⟨Qq,h3,fG,gP⟩:=aU.n jn (me (d:=d) (h:=h) sV g cap s P Ca hP s.length 0 o! (fun k_=>((sV::(AV.func g [] cap)::AV.undef::AV.undef::(Zi 0)::AV.undef::sV::(Zn s.length)::(Zi 0)::iL 10):List AV).getD k_ AV.undef) h bS (Has.refl _))
   have fA:=gP.y
   have qw:h.nx≤h3.nx:=gP.n
   have fl:Has h h3:=gP.a
   have e:fU s P=(-1):=by simp only[fU,jn,ak,aj]
   rw[e]
   exact aE rfl (ba Try.func91 tx rfl (.inr rfl) (pk (d) _ _ h _ h3 (CN 2<|VV ja<|CC<|LL fG<|CC<|ZZ) k!) k!) fl rfl
 | some LG=>
   obtain ⟨Qq,h3,fG,gP⟩:=aU.r jn (me (d:=d) (h:=h) sV g cap s P Ca hP s.length 0 o! (fun k_=>((sV::(AV.func g [] cap)::AV.undef::AV.undef::(Zi 0)::AV.undef::sV::(Zn s.length)::(Zi 0)::iL 10):List AV).getD k_ AV.undef) h bS (Has.refl _))
   have fA:=gP.y
   have qw:h.nx≤h3.nx:=gP.n
   have fl:Has h h3:=gP.a
   have e:fU s P=LG:=by simp only[fU,jn,ak,aj]
   rw[e]
   exact aE rfl (ba Try.func91 tx rfl (.inr rfl) (pk (d) _ _ h _ h3 (CN 2<|VV ja<|CC<|LL fG<|ZZ) k!) k!) fl rfl
def tz:Code:=(Try.f82.body).getD .skip
theorem xQ:Try.f82.body=some tz:=by kernel_rfl
def fb (s:List bV) (P:bV→Bool):Bool:=(decide (0≤(fU s P)))
theorem xR {d:Nat} {h:aA} {sV:AV} {g:FuncId} {cap:List AV} (s:List bV) (P:bV→Bool) (Ca:aY h sV s) (hP:∀y∈s,∀hh,Tidy hh→Has h hh→cz d (.fn g) (.agg (aF.c y)::cap) hh= .ret (.bool (P y)) hh) (bS:Tidy h):cz (d+2) (.fn 82) [sV,(AV.func g [] cap)] h= .ret (AV.bool (fb s P)) h:=by
 have NW:=Ca.small
 have k1:=CM (d:=d) s P Ca hP bS
 have e:fb s P=(decide (0≤(fU s P))):=by simp only[fb,ak,aj]
 rw[e]
 exact aE rfl (ba Try.func82 xQ rfl (.inr rfl) (pk (d+1) _ _ h _ h (CN 3<|EE k1<|VV (oe 3 false true .i64 (fU s P) 0)<|CC<|ZZ) k!) k!) (Has.refl _) rfl
def DY:Code:=(Try.f67.body).getD .skip
theorem CO:Try.f67.body=some DY:=by kernel_rfl
def ef (x_:Int) (fV:Int):Bool:=(bif (decide (0≤x_)) then (decide (x_≤fV)) else false)
theorem mP {d:Nat} {h:aA} (x_:Int) (fV:Int) (bS:Tidy h):cz (d+1) (.fn 67) [(Zi x_),(Zi fV)] h= .ret (AV.bool (ef x_ fV)) h:=by
 rcases bZq (decide (0≤x_)) with f0 | f0
 · have jW:=of_decide_eq_true f0
   have e:ef x_ fV=(decide (x_≤fV)):=by simp only[ef,f0,ak,aj]
   rw[e]
   exact aE rfl (ba Try.func67 CO rfl (.inr rfl) (pk (d) _ _ h _ h (CN 2<|VV (oe 3 false true .i64 x_ 0)<|CC<|BC f0<|BC f0<|BV f0 (sf 3 false false .i64 x_ fV)<|VV (ov (decide (x_≤fV)) false f0)<|CC<|ZZ) k!) k!) (Has.refl _) rfl
 · have jW:=of_decide_eq_false f0
   have e:ef x_ fV=false:=by simp only[ef,f0,ak,aj]
   rw[e]
   exact aE rfl (ba Try.func67 CO rfl (.inr rfl) (pk (d) _ _ h _ h (CN 2<|VV (oe 3 false true .i64 x_ 0)<|CC<|BB f0<|BB f0<|BV f0 (uL false f0)<|CC<|ZZ) k!) k!) (Has.refl _) rfl
def DZ:Code:=(Try.f42.body).getD .skip
theorem L6:Try.f42.body=some DZ:=by kernel_rfl
def iR (t:Int):Bool:=(ef t 100000)
theorem v7 {d:Nat} {h:aA} (t:Int) (bS:Tidy h):cz (d+2) (.fn 42) [(Zi t)] h= .ret (AV.bool (iR t)) h:=by
 have k1:=mP (d:=d) t 100000 bS
 have e:iR t=(ef t 100000):=by simp only[iR,ak,aj]
 rw[e]
 exact aE rfl (ba Try.func42 L6 rfl (.inr rfl) (pk (d+1) _ _ h _ h (CN 2<|EE k1<|CC<|ZZ) k!) k!) (Has.refl _) rfl
def CP:Code:=(Try.f84.body).getD .skip
theorem tA:Try.f84.body=some CP:=by kernel_rfl
def gT (g:bV):Bool:=(bif (ef g.acc 1000000000) then (bif (ef g.bQ 1000000000) then (iR g.since) else false) else false)
theorem JN {d:Nat} {h:aA} (g:bV) (Z2:aF.ok h g) (bS:Tidy h):cz (d+3) (.fn 84) [(AV.agg [(AV.str g.name),(Zi g.acc),(Zi g.bQ),(Zi g.since)])] h= .ret (AV.bool (gT g)) h:=by
 obtain ⟨h1,cj,cg,iu,bf,cf⟩:=fY bS (aX.cells [(AV.str g.name),(Zi g.acc),(Zi g.bQ),(Zi g.since)] 45 false)
 have bA:Has h h1:=cf
 have k2:=mP (d:=d+1) g.acc 1000000000 cg
 rcases bZq (ef g.acc 1000000000) with f0 | f0
 · have k4:=mP (d:=d+1) g.bQ 1000000000 cg
   rcases bZq (ef g.bQ 1000000000) with f1 | f1
   · have k6:=v7 (d:=d) g.since cg
     have e:gT g=(iR g.since):=by simp only[gT,f0,f1,ak,aj]
     rw[e]
     exact aE rfl (ba Try.func84 tA rfl (.inr rfl) (pk (d+2) _ _ h _ h1 (NN cj (fun i=>(Pt i))<|CN 2<|MM (aO 3 1 (Zi g.acc) bf k!)<|EE k2<|CC<|BC f0<|BM f0 (aO 3 2 (Zi g.bQ) bf k!)<|BB f0<|EE k4<|VV (ov (ef g.bQ 1000000000) false f0)<|CC<|BC f1<|BM f1 (aO 3 3 (Zi g.since) bf k!)<|BB f1<|EE k6<|VV (ov (iR g.since) false f1)<|CC<|ZZ) k!) k!) bA rfl
   · have e:gT g=false:=by simp only[gT,f0,f1,ak,aj]
     rw[e]
     exact aE rfl (ba Try.func84 tA rfl (.inr rfl) (pk (d+2) _ _ h _ h1 (NN cj (fun i=>(Pt i))<|CN 2<|MM (aO 3 1 (Zi g.acc) bf k!)<|EE k2<|CC<|BC f0<|BM f0 (aO 3 2 (Zi g.bQ) bf k!)<|BB f0<|EE k4<|VV (ov (ef g.bQ 1000000000) false f0)<|CC<|BB f1<|BB f1<|BV f1 (uL false f1)<|CC<|ZZ) k!) k!) bA rfl
 · have e:gT g=false:=by simp only[gT,f0,ak,aj]
   rw[e]
   exact aE rfl (ba Try.func84 tA rfl (.inr rfl) (pk (d+2) _ _ h _ h1 (NN cj (fun i=>(Pt i))<|CN 2<|MM (aO 3 1 (Zi g.acc) bf k!)<|EE k2<|CC<|BB f0<|BB f0<|BV f0 (uL false f0)<|CC<|FF<|FF<|FF<|CN 2<|ZZ) k!) k!) bA rfl
def vh:Code:=(Try.f63.body).getD .skip
theorem rK:Try.f63.body=some vh:=by kernel_rfl
def Hj:Code:=(cc vh).getD 0 .skip
def bI (dS:List UInt8):Nat→Nat→Option (Bool)
 | 0,_=>none
 | dQ+1,i0=>(bif (decide (97≤(((dS.g i0).toNat:Nat):Int))) then (bif (decide (48≤(((dS.g i0).toNat:Nat):Int))) then (bif (decide ((((dS.g i0).toNat:Nat):Int)≤57)) then (bif (!(decide ((((dS.g i0).toNat:Nat):Int)≤122))) then (bif (decide (((i0:Nat):Int)=0)) then some false else bI dS dQ (i0+1)) else bI dS dQ (i0+1)) else (bif (!(decide ((((dS.g i0).toNat:Nat):Int)≤122))) then (bif (decide (((i0:Nat):Int)=0)) then some false else (bif (!(decide ((((dS.g i0).toNat:Nat):Int)=45))) then some false else bI dS dQ (i0+1))) else bI dS dQ (i0+1))) else (bif (!(decide ((((dS.g i0).toNat:Nat):Int)≤122))) then (bif (decide (((i0:Nat):Int)=0)) then some false else (bif (!(decide ((((dS.g i0).toNat:Nat):Int)=45))) then some false else bI dS dQ (i0+1))) else bI dS dQ (i0+1))) else (bif (decide (48≤(((dS.g i0).toNat:Nat):Int))) then (bif (decide ((((dS.g i0).toNat:Nat):Int)≤57)) then (bif (decide (((i0:Nat):Int)=0)) then some false else bI dS dQ (i0+1)) else (bif (decide (((i0:Nat):Int)=0)) then some false else (bif (!(decide ((((dS.g i0).toNat:Nat):Int)=45))) then some false else bI dS dQ (i0+1)))) else (bif (decide (((i0:Nat):Int)=0)) then some false else (bif (!(decide ((((dS.g i0).toNat:Nat):Int)=45))) then some false else bI dS dQ (i0+1)))))
theorem eJ {d:Nat} {h:aA} (dS:List UInt8) (bF:dS.length<2^60):∀(k_ i_:Nat) (_:i_+k_=(List.length dS)) (x:Nat→AV) (hh:aA) (aQ:Tidy hh) (aW:Has h hh),aU (cz (d)) Hj ⟨((AV.str dS)::rx x 1 13 ((Zn (List.length dS))::(Zn i_)::rx x 16 39 [])),hh,[],.no⟩ (.exit 0) hh (fun y=>((AV.str dS)::rx y 1 13 ((Zn (List.length dS))::rx y 15 40 []))) (fun r y=>((AV.str dS)::(y 1)::(AV.bool r)::rx y 3 11 ((Zn (List.length dS))::rx y 15 40 []))) (bI dS k_ i_)
 | 0,i0,kY,x,hh,aQ,aW=>by
   have q1:(decide (((i0:Nat):Int)<((List.length dS:Nat):Int)))=false:=d!
   exact aU.out rfl (pk (d) _ _ hh _ hh (VV (bK 3 false false .i64 ((i0:Nat):Int) ((List.length dS:Nat):Int))<|BB q1<|ZZ) k!) (Grow.refl aQ) k!
 | dQ+1,i0,kY,x,hh,aQ,aW=>by
   have q1:(decide (((i0:Nat):Int)<((List.length dS:Nat):Int)))=true:=d!
   have A1:rq env (some .string) (some (AV.str dS)) (some (Zn i0))=some (AV.int .u8 (((dS.g i0).toNat:Nat):Int)):=ko (j:=i0) o!
   have mV:=fun {al ps} (k:Pk al _ ps)=>(VV (bK 3 false false .i64 ((i0:Nat):Int) ((List.length dS:Nat):Int))<|BB q1<|CN 4<|VV A1<|VV (oe 5 false true .u8 (((dS.g i0).toNat:Nat):Int) 97)<|CC<|k:Pk _ [] ps)
   rcases bZq (decide (97≤(((dS.g i0).toNat:Nat):Int))) with f1 | f1
   · have ic:=of_decide_eq_true f1
     have Qo:rq env (some .string) (some (AV.str dS)) (some (Zn i0))=some (AV.int .u8 (((dS.g i0).toNat:Nat):Int)):=ko (j:=i0) o!
     have ix5:rq env (some .string) (some (AV.str dS)) (some (Zn i0))=some (AV.int .u8 (((dS.g i0).toNat:Nat):Int)):=ko (j:=i0) o!
     have yC:=fun {al ps} (k:Pk al _ ps)=>(mV<|BC f1<|BC f1<|BV f1 Qo<|BV f1 (sf 5 false true .u8 (((dS.g i0).toNat:Nat):Int) 122)<|VV (ov (decide ((((dS.g i0).toNat:Nat):Int)≤122)) false f1)<|CN 3<|VV ix5<|VV (oe 5 false true .u8 (((dS.g i0).toNat:Nat):Int) 48)<|CC<|k:Pk _ [] ps)
     rcases bZq (decide (48≤(((dS.g i0).toNat:Nat):Int))) with f2 | f2
     · have my:=of_decide_eq_true f2
       have NB:rq env (some .string) (some (AV.str dS)) (some (Zn i0))=some (AV.int .u8 (((dS.g i0).toNat:Nat):Int)):=ko (j:=i0) o!
       have EP:=fun {al ps} (k:Pk al _ ps)=>(yC<|BC f2<|BC f2<|BV f2 NB<|BV f2 (sf 5 false true .u8 (((dS.g i0).toNat:Nat):Int) 57)<|VV (ov (decide ((((dS.g i0).toNat:Nat):Int)≤57)) false f2)<|CC<|k:Pk _ [] ps)
       rcases bZq (decide ((((dS.g i0).toNat:Nat):Int)≤57)) with f3 | f3
       · have lr:=of_decide_eq_true f3
         have ES:=fun {al ps} (k:Pk al _ ps)=>(EP<|BB f3<|BB f3<|BB f3<|BV f3 (ow true f3)<|CN 4<|k:Pk _ [] ps)
         rcases bZq (!(decide ((((dS.g i0).toNat:Nat):Int)≤122))) with f4 | f4
         · have jV:=DS f4
           have Cb:=fun {al ps} (k:Pk al _ ps)=>(ES<|BC f4<|BV f4 (lV 3 false true .i64 ((i0:Nat):Int) 0)<|BC f4<|k:Pk _ [] ps)
           rcases bZq (decide (((i0:Nat):Int)=0)) with f5 | f5
           · have tc:=of_decide_eq_true f5
             exact aU.ret false (by simp only[bI,f1,f2,f3,f4,f5,ak,aj]) (pk (d) _ _ hh _ hh (Cb<|BB f5<|BB f5<|BV f4 (ow true f5)<|VV (ov true false f4)<|TT<|CC<|ZZ) k!) (Grow.refl aQ) k!
           · have tc:=of_decide_eq_false f5
             have LA:=fu 3 false true i0 1 o!
             exact aU.round (by simp only[bI,f1,f2,f3,f4,f5,ak,aj]) (pk (d) _ _ hh _ hh (Cb<|BC f5<|BC f5<|BV f4 (pcf true false f5)<|VV (ov false false f4)<|FF<|VV LA<|CC<|ZZ) k!) (Grow.refl aQ) _ k! (fun x=>eJ dS bF dQ (i0+1) o! x hh aQ aW)
         · have jV:=DT f4
           have u10:=fu 3 false true i0 1 o!
           exact aU.round (by simp only[bI,f1,f2,f3,f4,ak,aj]) (pk (d) _ _ hh _ hh (ES<|BB f4<|BB f4<|BB f4<|BV f4 (uL false f4)<|FF<|VV u10<|CC<|ZZ) k!) (Grow.refl aQ) _ k! (fun x=>eJ dS bF dQ (i0+1) o! x hh aQ aW)
       · have lr:=of_decide_eq_false f3
         have ix9:rq env (some .string) (some (AV.str dS)) (some (Zn i0))=some (AV.int .u8 (((dS.g i0).toNat:Nat):Int)):=ko (j:=i0) o!
         have Aa:=fun {al ps} (k:Pk al _ ps)=>(EP<|BC f3<|BC f3<|BV f3 ix9<|BV f3 (lV 5 false true .u8 (((dS.g i0).toNat:Nat):Int) 45)<|VV (aZ (a:=some (AV.bool true)) (b:=some (AV.bool (decide ((((dS.g i0).toNat:Nat):Int)=45)))) f3)<|CN 4<|k:Pk _ [] ps)
         rcases bZq (!(decide ((((dS.g i0).toNat:Nat):Int)≤122))) with f4 | f4
         · have jV:=DS f4
           have NX:=fun {al ps} (k:Pk al _ ps)=>(Aa<|BC f4<|BV f4 (lV 3 false true .i64 ((i0:Nat):Int) 0)<|BC f4<|k:Pk _ [] ps)
           rcases bZq (decide (((i0:Nat):Int)=0)) with f5 | f5
           · have tc:=of_decide_eq_true f5
             exact aU.ret false (by simp only[bI,f1,f2,f3,f4,f5,ak,aj]) (pk (d) _ _ hh _ hh (NX<|BB f5<|BB f5<|BV f4 (ow true f5)<|VV (ov true false f4)<|TT<|CC<|ZZ) k!) (Grow.refl aQ) k!
           · have tc:=of_decide_eq_false f5
             have NY:=fun {al ps} (k:Pk al _ ps)=>(NX<|BC f5<|BC f5<|BV f4 (aZ (a:=some (AV.bool true)) (b:=some (AV.bool (!(decide ((((dS.g i0).toNat:Nat):Int)=45))))) f5)<|VV (ov (!(decide ((((dS.g i0).toNat:Nat):Int)=45))) false f4)<|k:Pk _ [] ps)
             rcases bZq (!(decide ((((dS.g i0).toNat:Nat):Int)=45))) with f6 | f6
             · have Z4:=DS f6
               exact aU.ret false (by simp only[bI,f1,f2,f3,f4,f5,f6,ak,aj]) (pk (d) _ _ hh _ hh (NY<|BC f6<|ZZ) k!) (Grow.refl aQ) k!
             · have Z4:=DT f6
               have SO:=fu 3 false true i0 1 o!
               exact aU.round (by simp only[bI,f1,f2,f3,f4,f5,f6,ak,aj]) (pk (d) _ _ hh _ hh (NY<|BV f6 SO<|CC<|ZZ) k!) (Grow.refl aQ) _ k! (fun x=>eJ dS bF dQ (i0+1) o! x hh aQ aW)
         · have jV:=DT f4
           have LA:=fu 3 false true i0 1 o!
           exact aU.round (by simp only[bI,f1,f2,f3,f4,ak,aj]) (pk (d) _ _ hh _ hh (Aa<|BB f4<|BB f4<|BB f4<|BV f4 (uL false f4)<|FF<|VV LA<|CC<|ZZ) k!) (Grow.refl aQ) _ k! (fun x=>eJ dS bF dQ (i0+1) o! x hh aQ aW)
     · have my:=of_decide_eq_false f2
       have NB:rq env (some .string) (some (AV.str dS)) (some (Zn i0))=some (AV.int .u8 (((dS.g i0).toNat:Nat):Int)):=ko (j:=i0) o!
       have JO:=fun {al ps} (k:Pk al _ ps)=>(yC<|BB f2<|BB f2<|BB f2<|BV f2 (uL false f2)<|CC<|FF<|CC<|FF<|CC<|FF<|VV NB<|FF<|VV (lV 5 false true .u8 (((dS.g i0).toNat:Nat):Int) 45)<|CN 5<|k:Pk _ [] ps)
       rcases bZq (!(decide ((((dS.g i0).toNat:Nat):Int)≤122))) with f3 | f3
       · have lr:=DS f3
         have JP:=fun {al ps} (k:Pk al _ ps)=>(JO<|BC f3<|BV f3 (lV 3 false true .i64 ((i0:Nat):Int) 0)<|BC f3<|k:Pk _ [] ps)
         rcases bZq (decide (((i0:Nat):Int)=0)) with f4 | f4
         · have jV:=of_decide_eq_true f4
           exact aU.ret false (by simp only[bI,f1,f2,f3,f4,ak,aj]) (pk (d) _ _ hh _ hh (JP<|BB f4<|BB f4<|BV f3 (ow true f4)<|VV (ov true false f3)<|TT<|CC<|ZZ) k!) (Grow.refl aQ) k!
         · have jV:=of_decide_eq_false f4
           have D0:=fun {al ps} (k:Pk al _ ps)=>(JP<|BC f4<|BC f4<|BV f3 (aZ (a:=some (AV.bool true)) (b:=some (AV.bool (!(decide ((((dS.g i0).toNat:Nat):Int)=45))))) f4)<|VV (ov (!(decide ((((dS.g i0).toNat:Nat):Int)=45))) false f3)<|k:Pk _ [] ps)
           rcases bZq (!(decide ((((dS.g i0).toNat:Nat):Int)=45))) with f5 | f5
           · have tc:=DS f5
             exact aU.ret false (by simp only[bI,f1,f2,f3,f4,f5,ak,aj]) (pk (d) _ _ hh _ hh (D0<|BC f5<|ZZ) k!) (Grow.refl aQ) k!
           · have tc:=DT f5
             have LA:=fu 3 false true i0 1 o!
             exact aU.round (by simp only[bI,f1,f2,f3,f4,f5,ak,aj]) (pk (d) _ _ hh _ hh (D0<|BV f5 LA<|CC<|ZZ) k!) (Grow.refl aQ) _ k! (fun x=>eJ dS bF dQ (i0+1) o! x hh aQ aW)
       · have lr:=DT f3
         have u9:=fu 3 false true i0 1 o!
         exact aU.round (by simp only[bI,f1,f2,f3,ak,aj]) (pk (d) _ _ hh _ hh (JO<|BB f3<|BB f3<|BB f3<|BV f3 (uL false f3)<|FF<|VV u9<|CC<|ZZ) k!) (Grow.refl aQ) _ k! (fun x=>eJ dS bF dQ (i0+1) o! x hh aQ aW)
   · have ic:=of_decide_eq_false f1
     have Qo:rq env (some .string) (some (AV.str dS)) (some (Zn i0))=some (AV.int .u8 (((dS.g i0).toNat:Nat):Int)):=ko (j:=i0) o!
     have To:=fun {al ps} (k:Pk al _ ps)=>(mV<|BB f1<|BB f1<|BB f1<|BV f1 (uL false f1)<|CN 3<|VV Qo<|VV (oe 5 false true .u8 (((dS.g i0).toNat:Nat):Int) 48)<|CC<|k:Pk _ [] ps)
     rcases bZq (decide (48≤(((dS.g i0).toNat:Nat):Int))) with f2 | f2
     · have my:=of_decide_eq_true f2
       have Po:rq env (some .string) (some (AV.str dS)) (some (Zn i0))=some (AV.int .u8 (((dS.g i0).toNat:Nat):Int)):=ko (j:=i0) o!
       have adq:=fun {al ps} (k:Pk al _ ps)=>(To<|BC f2<|BC f2<|BV f2 Po<|BV f2 (sf 5 false true .u8 (((dS.g i0).toNat:Nat):Int) 57)<|VV (ov (decide ((((dS.g i0).toNat:Nat):Int)≤57)) false f2)<|CC<|k:Pk _ [] ps)
       rcases bZq (decide ((((dS.g i0).toNat:Nat):Int)≤57)) with f3 | f3
       · have lr:=of_decide_eq_true f3
         have adr:=fun {al ps} (k:Pk al _ ps)=>(adq<|BB f3<|BB f3<|BB f3<|BV f3 (ow true f3)<|CN 4<|TT<|CC<|TT<|VV (lV 3 false true .i64 ((i0:Nat):Int) 0)<|TT<|CC<|k:Pk _ [] ps)
         rcases bZq (decide (((i0:Nat):Int)=0)) with f4 | f4
         · have jV:=of_decide_eq_true f4
           exact aU.ret false (by simp only[bI,f1,f2,f3,f4,ak,aj]) (pk (d) _ _ hh _ hh (adr<|BB f4<|BB f4<|TT<|VV (ow true f4)<|CC<|TT<|CC<|ZZ) k!) (Grow.refl aQ) k!
         · have jV:=of_decide_eq_false f4
           have u9:=fu 3 false true i0 1 o!
           exact aU.round (by simp only[bI,f1,f2,f3,f4,ak,aj]) (pk (d) _ _ hh _ hh (adr<|BC f4<|BC f4<|TT<|VV (pcf true false f4)<|CC<|FF<|VV u9<|CC<|ZZ) k!) (Grow.refl aQ) _ k! (fun x=>eJ dS bF dQ (i0+1) o! x hh aQ aW)
       · have lr:=of_decide_eq_false f3
         have ND:rq env (some .string) (some (AV.str dS)) (some (Zn i0))=some (AV.int .u8 (((dS.g i0).toNat:Nat):Int)):=ko (j:=i0) o!
         have ads:=fun {al ps} (k:Pk al _ ps)=>(adq<|BC f3<|BC f3<|BV f3 ND<|BV f3 (lV 5 false true .u8 (((dS.g i0).toNat:Nat):Int) 45)<|VV (aZ (a:=some (AV.bool true)) (b:=some (AV.bool (decide ((((dS.g i0).toNat:Nat):Int)=45)))) f3)<|CN 4<|TT<|CC<|TT<|VV (lV 3 false true .i64 ((i0:Nat):Int) 0)<|TT<|CC<|k:Pk _ [] ps)
         rcases bZq (decide (((i0:Nat):Int)=0)) with f4 | f4
         · have jV:=of_decide_eq_true f4
           exact aU.ret false (by simp only[bI,f1,f2,f3,f4,ak,aj]) (pk (d) _ _ hh _ hh (ads<|BB f4<|BB f4<|TT<|VV (ow true f4)<|CC<|TT<|CC<|ZZ) k!) (Grow.refl aQ) k!
         · have jV:=of_decide_eq_false f4
           have adt:=fun {al ps} (k:Pk al _ ps)=>(ads<|BC f4<|BC f4<|TT<|VV (aZ (a:=some (AV.bool true)) (b:=some (AV.bool (!(decide ((((dS.g i0).toNat:Nat):Int)=45))))) f4)<|CC<|k:Pk _ [] ps)
           rcases bZq (!(decide ((((dS.g i0).toNat:Nat):Int)=45))) with f5 | f5
           · have tc:=DS f5
             exact aU.ret false (by simp only[bI,f1,f2,f3,f4,f5,ak,aj]) (pk (d) _ _ hh _ hh (adt<|BC f5<|ZZ) k!) (Grow.refl aQ) k!
           · have tc:=DT f5
             have LA:=fu 3 false true i0 1 o!
             exact aU.round (by simp only[bI,f1,f2,f3,f4,f5,ak,aj]) (pk (d) _ _ hh _ hh (adt<|BV f5 LA<|CC<|ZZ) k!) (Grow.refl aQ) _ k! (fun x=>eJ dS bF dQ (i0+1) o! x hh aQ aW)
     · have my:=of_decide_eq_false f2
       have Po:rq env (some .string) (some (AV.str dS)) (some (Zn i0))=some (AV.int .u8 (((dS.g i0).toNat:Nat):Int)):=ko (j:=i0) o!
       have adu:=fun {al ps} (k:Pk al _ ps)=>(To<|BB f2<|BB f2<|BB f2<|BV f2 (uL false f2)<|CC<|FF<|CC<|FF<|CC<|FF<|VV Po<|FF<|VV (lV 5 false true .u8 (((dS.g i0).toNat:Nat):Int) 45)<|CN 5<|TT<|CC<|TT<|VV (lV 3 false true .i64 ((i0:Nat):Int) 0)<|TT<|CC<|k:Pk _ [] ps)
       rcases bZq (decide (((i0:Nat):Int)=0)) with f3 | f3
       · have lr:=of_decide_eq_true f3
         exact aU.ret false (by simp only[bI,f1,f2,f3,ak,aj]) (pk (d) _ _ hh _ hh (adu<|BB f3<|BB f3<|TT<|VV (ow true f3)<|CC<|TT<|CC<|ZZ) k!) (Grow.refl aQ) k!
       · have lr:=of_decide_eq_false f3
         have adv:=fun {al ps} (k:Pk al _ ps)=>(adu<|BC f3<|BC f3<|TT<|VV (aZ (a:=some (AV.bool true)) (b:=some (AV.bool (!(decide ((((dS.g i0).toNat:Nat):Int)=45))))) f3)<|CC<|k:Pk _ [] ps)
         rcases bZq (!(decide ((((dS.g i0).toNat:Nat):Int)=45))) with f4 | f4
         · have jV:=DS f4
           exact aU.ret false (by simp only[bI,f1,f2,f3,f4,ak,aj]) (pk (d) _ _ hh _ hh (adv<|BC f4<|ZZ) k!) (Grow.refl aQ) k!
         · have jV:=DT f4
           have u9:=fu 3 false true i0 1 o!
           exact aU.round (by simp only[bI,f1,f2,f3,f4,ak,aj]) (pk (d) _ _ hh _ hh (adv<|BV f4 u9<|CC<|ZZ) k!) (Grow.refl aQ) _ k! (fun x=>eJ dS bF dQ (i0+1) o! x hh aQ aW)
def gD (dS:List UInt8):Bool:=(bif (decide (dS=[])) then false else (bif (decide (16<((List.length dS:Nat):Int))) then false else (match (bI dS (List.length dS) 0) with | none=>true | some Tp=>Tp)))
theorem CQ {d:Nat} {h:aA} (dS:List UInt8) (Tq:dS.length<2^60) (bS:Tidy h):cz (d+1) (.fn 63) [(AV.str dS)] h= .ret (AV.bool (gD dS)) h:=by
 have adw:=fun {al ps} (k:Pk al _ ps)=>(CN 2<|VV (WK 9 false true dS [])<|CC<|k:Pk _ [] ps)
 rcases bZq (decide (dS=[])) with f0 | f0
 · have jW:=of_decide_eq_true f0
   have e:gD dS=false:=by simp only[gD,f0,ak,aj]
   rw[e]
   exact aE rfl (ba Try.func63 rK rfl (.inr rfl) (pk (d) _ _ h _ h (adw<|BB f0<|BB f0<|BV f0 (ow true f0)<|TT<|CC<|ZZ) k!) k!) (Has.refl _) rfl
 · have jW:=of_decide_eq_false f0
   have sn2:dS.length<2^60:=Tq
   have aaC:=fun {al ps} (k:Pk al _ ps)=>(adw<|BC f0<|BC f0<|BV f0 (cI 3 false true .i64 ((List.length dS:Nat):Int) 16)<|k:Pk _ [] ps)
   rcases bZq (decide (16<((List.length dS:Nat):Int))) with f1 | f1
   · have ic:=of_decide_eq_true f1
     have e:gD dS=false:=by simp only[gD,f0,f1,ak,aj]
     rw[e]
     exact aE rfl (ba Try.func63 rK rfl (.inr rfl) (pk (d) _ _ h _ h (aaC<|VV (aZ (a:=some (AV.bool true)) (b:=some (AV.bool (decide (16<((List.length dS:Nat):Int))))) f0)<|BC f1<|ZZ) k!) k!) (Has.refl _) rfl
   · have ic:=of_decide_eq_false f1
     have adx:=eJ (d:=d) (h:=h) dS Tq (List.length dS) 0 o! (fun k_=>(((AV.str dS)::AV.undef::(AV.bool false)::AV.undef::AV.undef::AV.undef::(AV.str dS)::(AV.bool (decide (dS=[])))::(AV.bool (decide (dS=[])))::(AV.str dS)::(Zn (List.length dS))::(AV.bool (decide (16<((List.length dS:Nat):Int))))::(AV.bool (decide (16<((List.length dS:Nat):Int))))::(AV.str dS)::(Zn (List.length dS))::(Zi 0)::iL 39):List AV).getD k_ AV.undef) h bS (Has.refl _)
     cases mf:bI dS (List.length dS) 0 with
     | none=>
       obtain ⟨Z8,h5,lu,mN⟩:=aU.n mf adx
       have sh:=mN.y
       have Ju:h.nx≤h5.nx:=mN.n
       have nN:Has h h5:=mN.a
       have e:gD dS=true:=by simp only[gD,f0,f1,mf,ak,aj]
       rw[e]
       exact aE rfl (ba Try.func63 rK rfl (.inr rfl) (pk (d) _ _ h _ h5 (aaC<|VV (aZ (a:=some (AV.bool true)) (b:=some (AV.bool (decide (16<((List.length dS:Nat):Int))))) f0)<|BB f1<|CN 3<|LL lu<|CC<|ZZ) k!) k!) nN rfl
     | some Tp=>
       obtain ⟨Z8,h5,lu,mN⟩:=aU.r mf adx
       have sh:=mN.y
       have Ju:h.nx≤h5.nx:=mN.n
       have nN:Has h h5:=mN.a
       have e:gD dS=Tp:=by simp only[gD,f0,f1,mf,ak,aj]
       rw[e]
       exact aE rfl (ba Try.func63 rK rfl (.inr rfl) (pk (d) _ _ h _ h5 (aaC<|VV (aZ (a:=some (AV.bool true)) (b:=some (AV.bool (decide (16<((List.length dS:Nat):Int))))) f0)<|BB f1<|CN 3<|LL lu<|ZZ) k!) k!) nN rfl
def xS:Code:=(Try.f69.body).getD .skip
theorem mg:Try.f69.body=some xS:=by kernel_rfl
def dx (su:List bV) (g:bV):Int:=(bif (!(gD g.name)) then 5 else (bif (fb su (fun y=>ie y g)) then 6 else (bif (!(gT g)) then 1 else 0)))
theorem CT {d:Nat} {h:aA} {tC:AV} (su:List bV) (g:bV) (oi:aY h tC su) (Z2:aF.ok h g) (bS:Tidy h):cz (d+6) (.fn 69) [tC,(AV.agg [(AV.str g.name),(Zi g.acc),(Zi g.bQ),(Zi g.since)])] h= .ret (Zi (dx su g)) h:=by
 have E5:=oi.small
 obtain ⟨h1,cj,cg,iu,bf,cf⟩:=fY bS (aX.cells [(AV.str g.name),(Zi g.acc),(Zi g.bQ),(Zi g.since)] 45 false)
 have bA:Has h h1:=cf
 have k2:=CQ (d:=d+4) g.name Z2 cg
 have mV:=fun {al ps} (k:Pk al _ ps)=>(NN cj (fun i=>(Pt i))<|CN 2<|MM (aO 9 0 (AV.str g.name) bf k!)<|EE k2<|CN 2<|k:Pk _ [] ps)
 rcases bZq (!(gD g.name)) with f0 | f0
 · have e:dx su g=5:=by simp only[dx,f0,ak,aj]
   rw[e]
   exact aE rfl (ba Try.func69 mg rfl (.inr rfl) (pk (d+5) _ _ h _ h1 (mV<|BC f0<|ZZ) k!) k!) bA rfl
 · have k4:=xR (d:=d+3) su (fun y=>ie y g) (oi.has bA) (fun y hy hh yy aa=>AL (d:=d+2) y g h.nx (aF.mono aa ((oi.has bA).Va y hy)) (aF.mono aa (aF.mono bA Z2)) (aa _ _ bf) yy) cg
   rcases bZq (fb su (fun y=>ie y g)) with f1 | f1
   · have e:dx su g=6:=by simp only[dx,f0,f1,ak,aj]
     rw[e]
     exact aE rfl (ba Try.func69 mg rfl (.inr rfl) (pk (d+5) _ _ h _ h1 (mV<|BB f0<|CN 2<|EE k4<|CC<|BC f1<|ZZ) k!) k!) bA rfl
   · have k6:=JN (d:=d+2) g (aF.mono bA Z2) cg
     have yC:=fun {al ps} (k:Pk al _ ps)=>(mV<|BB f0<|CN 2<|EE k4<|CC<|BM f1 (aO 45 0 (AV.agg [(AV.str g.name),(Zi g.acc),(Zi g.bQ),(Zi g.since)]) bf k!)<|EE k6<|CN 2<|k:Pk _ [] ps)
     rcases bZq (!(gT g)) with f2 | f2
     · have e:dx su g=1:=by simp only[dx,f0,f1,f2,ak,aj]
       rw[e]
       exact aE rfl (ba Try.func69 mg rfl (.inr rfl) (pk (d+5) _ _ h _ h1 (yC<|BC f2<|ZZ) k!) k!) bA rfl
     · have e:dx su g=0:=by simp only[dx,f0,f1,f2,ak,aj]
       rw[e]
       exact aE rfl (ba Try.func69 mg rfl (.inr rfl) (pk (d+5) _ _ h _ h1 (yC<|BC f2<|ZZ) k!) k!) bA rfl
def mB:Code:=(Try.f68.body).getD .skip
theorem lz:Try.f68.body=some mB:=by kernel_rfl
def tD:Code:=(cc mB).getD 0 .skip
def du (P:Nat→Int) (dr:List bV):Nat→Nat→Option (Int)
 | 0,_=>none
 | dQ+1,i0=>(bif (!decide ((P i0)=0)) then some (P i0) else du P dr dQ (i0+1))
theorem jE {d:Nat} {h:aA} (dG:AV) (g:FuncId) (cap:List AV) (dr:List bV) (P:Nat→Int) (bF:aY h dG dr) (hP:∀j,j<dr.length→∀aV hh,Tidy hh→Has h hh→aY hh aV (dr.take j)→cz d (.fn g) (aV:: .agg (aF.c (dr.g j))::cap) hh= .ret (.int .i64 (P j)) hh):∀(k_ i_:Nat) (_:i_+k_=dr.length) (x:Nat→AV) (hh:aA) (aQ:Tidy hh) (aW:Has h hh),aU (cz (d)) tD ⟨(dG::(x 1)::(AV.func g [] cap)::rx x 3 11 (dG::(Zn dr.length)::(Zn i_)::rx x 17 14 [])),hh,[],.no⟩ (.exit 0) hh (fun y=>(dG::(y 1)::(AV.func g [] cap)::rx y 3 11 (dG::(Zn dr.length)::rx y 16 15 []))) (fun r y=>(dG::(y 1)::(AV.func g [] cap)::rx y 3 3 ((Zi r)::rx y 7 7 (dG::(Zn dr.length)::rx y 16 15 [])))) (du P dr k_ i_)
 | 0,i0,kY,x,hh,aQ,aW=>by
   have eR:=bF.small
   have q1:(decide (((i0:Nat):Int)<((dr.length:Nat):Int)))=false:=d!
   exact aU.out rfl (pk (d) _ _ hh _ hh (VV (bK 3 false false .i64 ((i0:Nat):Int) ((dr.length:Nat):Int))<|BB q1<|ZZ) k!) (Grow.refl aQ) k!
 | dQ+1,i0,kY,x,hh,aQ,aW=>by
   have eR:=bF.small
   have q1:(decide (((i0:Nat):Int)<((dr.length:Nat):Int)))=true:=d!
   obtain ⟨p3,q4,oY⟩:=(bF.has aW).elem (i:=i0) o!
   have A1:cK env (some (.slice 45)) (some dG) (some (Zn i0))=some (AV.ptr p3 q4):=oY
   have DV:bk env hh 45 (AV.ptr p3 q4)=some (AV.agg [(AV.str (dr.g i0).name),(Zi (dr.g i0).acc),(Zi (dr.g i0).bQ),(Zi (dr.g i0).since)]):=(bF.has aW).load o! oY
   obtain ⟨h6,tu,qx,LP,vU,gC⟩:=fY aQ (aX.cells [(AV.str []),(Zi 0),(Zi 0),(Zi 0)] 45 false)
   have pt:Has hh h6:=gC
   obtain ⟨h7,zq,mM,Py,pW,iT⟩:=rA (t:=45) (n:=4) (i:=hh.nx) (L:=[(AV.str (dr.g i0).name),(Zi (dr.g i0).acc),(Zi (dr.g i0).bQ),(Zi (dr.g i0).since)]) qx vU k! rfl rfl (by simp only[AV.cells,List.all_cons,List.all_nil,Bool.and_true,Bool.and_self,eL,dw,eM,eN,cH,gZ,g_,hB,hD,hI,eO])
   have lL:Has hh h7:=Has.cS pt iT aQ o!
   obtain ⟨r8,aaD,aaE⟩:=(bF.has aW).pre (t:=24) k! (i:=i0) o!
   have sl9:fK env 24 dG (none) (some (Zn i0)) (none)=some r8:=aaD
   have Sx:=hP i0 o! r8 h7 mM (aW.trans lL) (aaE.has lL)
   have Px:AV.same 20 (AV.agg [(AV.str (dr.g i0).name),(Zi (dr.g i0).acc),(Zi (dr.g i0).bQ),(Zi (dr.g i0).since)]) (AV.agg [(AV.str (dr.g i0).name),(Zi (dr.g i0).acc),(Zi (dr.g i0).bQ),(Zi (dr.g i0).since)])=true:=dM 18 (iC (fun n=>jS n _) (iC (fun n=>aJ n _ _) (iC (fun n=>aJ n _ _) (iC (fun n=>aJ n _ _) DC))))
   rcases bZq (!decide ((P i0)=0)) with f1 | f1
   · have ic:=DS f1
     exact aU.ret (P i0) (by simp only[du,f1,ak,aj]) (pk (d) _ _ hh _ h7 (VV (bK 3 false false .i64 ((i0:Nat):Int) ((dr.length:Nat):Int))<|BC q1<|VV A1<|MM DV<|NN tu (fun i=>(Pt i))<|CC<|SS zq<|CN 3<|QQ sl9<|MM (aO 45 0 (AV.agg [(AV.str (dr.g i0).name),(Zi (dr.g i0).acc),(Zi (dr.g i0).bQ),(Zi (dr.g i0).since)]) pW k!)<|EE Sx<|CC<|HH (aO 45 0 (AV.agg [(AV.str (dr.g i0).name),(Zi (dr.g i0).acc),(Zi (dr.g i0).bQ),(Zi (dr.g i0).since)]) pW k!)<|HH Px<|CC<|VV (kF 31 false true .i64 (P i0) 0)<|BB f1<|CN 2<|ZZ) k!) (⟨mM,lL,by omega⟩) k!
   · have ic:=DT f1
     have u14:=fu 3 false true i0 1 o!
     exact aU.round (by simp only[du,f1,ak,aj]) (pk (d) _ _ hh _ h7 (VV (bK 3 false false .i64 ((i0:Nat):Int) ((dr.length:Nat):Int))<|BC q1<|VV A1<|MM DV<|NN tu (fun i=>(Pt i))<|CC<|SS zq<|CN 3<|QQ sl9<|MM (aO 45 0 (AV.agg [(AV.str (dr.g i0).name),(Zi (dr.g i0).acc),(Zi (dr.g i0).bQ),(Zi (dr.g i0).since)]) pW k!)<|EE Sx<|CC<|HH (aO 45 0 (AV.agg [(AV.str (dr.g i0).name),(Zi (dr.g i0).acc),(Zi (dr.g i0).bQ),(Zi (dr.g i0).since)]) pW k!)<|HH Px<|CC<|VV (kF 31 false true .i64 (P i0) 0)<|BV f1 u14<|CC<|ZZ) k!) (⟨mM,lL,by omega⟩) _ k! (fun x=>jE dG g cap dr P bF hP dQ (i0+1) o! x h7 mM (aW.trans lL))
def cW (dr:List bV) (fV:Int) (P:Nat→Int):Int:=(bif (decide (fV<((dr.length:Nat):Int))) then 3 else (match (du P dr dr.length 0) with | none=>0 | some Tp=>Tp))
theorem v8 {d:Nat} {h:aA} {dG:AV} {g:FuncId} {cap:List AV} (dr:List bV) (fV:Int) (P:Nat→Int) (o8:aY h dG dr) (hP:∀j,j<dr.length→∀aV hh,Tidy hh→Has h hh→aY hh aV (dr.take j)→cz d (.fn g) (aV:: .agg (aF.c (dr.g j))::cap) hh= .ret (.int .i64 (P j)) hh) (bS:Tidy h):cz (d+1) (.fn 68) [dG,(Zi fV),(AV.func g [] cap)] h= .ret (Zi (cW dr fV P)) h:=by
 have Ts:=o8.small
 have ja:dy (some (.slice 45)) (some dG)=some (Zn dr.length):=o8.len
 rcases bZq (decide (fV<((dr.length:Nat):Int))) with f0 | f0
 · have jW:=of_decide_eq_true f0
   have e:cW dr fV P=3:=by simp only[cW,f0,ak,aj]
   rw[e]
   exact aE rfl (ba Try.func68 lz rfl (.inr rfl) (pk (d) _ _ h _ h (CN 2<|VV ja<|CC<|VV (cI 3 false false .i64 ((dr.length:Nat):Int) fV)<|BC f0<|ZZ) k!) k!) (Has.refl _) rfl
 · have jW:=of_decide_eq_false f0
   have Vc:dy (some (.slice 45)) (some dG)=some (Zn dr.length):=o8.len
   cases mf:du P dr dr.length 0 with
   | none=>
     obtain ⟨Z8,h5,lu,mN⟩:=aU.n mf (jE (d:=d) (h:=h) dG g cap dr P o8 hP dr.length 0 o! (fun k_=>((dG::(Zi fV)::(AV.func g [] cap)::AV.undef::AV.undef::AV.undef::(Zi 0)::AV.undef::AV.undef::AV.undef::dG::(Zn dr.length)::(Zi fV)::(AV.bool (decide (fV<((dr.length:Nat):Int))))::dG::(Zn dr.length)::(Zi 0)::iL 14):List AV).getD k_ AV.undef) h bS (Has.refl _))
     have sh:=mN.y
     have Ju:h.nx≤h5.nx:=mN.n
     have nN:Has h h5:=mN.a
     have e:cW dr fV P=0:=by simp only[cW,f0,mf,ak,aj]
     rw[e]
     exact aE rfl (ba Try.func68 lz rfl (.inr rfl) (pk (d) _ _ h _ h5 (CN 2<|VV ja<|CC<|VV (cI 3 false false .i64 ((dr.length:Nat):Int) fV)<|BC f0<|VV Vc<|CC<|LL lu<|CC<|ZZ) k!) k!) nN rfl
   | some Tp=>
     obtain ⟨Z8,h5,lu,mN⟩:=aU.r mf (jE (d:=d) (h:=h) dG g cap dr P o8 hP dr.length 0 o! (fun k_=>((dG::(Zi fV)::(AV.func g [] cap)::AV.undef::AV.undef::AV.undef::(Zi 0)::AV.undef::AV.undef::AV.undef::dG::(Zn dr.length)::(Zi fV)::(AV.bool (decide (fV<((dr.length:Nat):Int))))::dG::(Zn dr.length)::(Zi 0)::iL 14):List AV).getD k_ AV.undef) h bS (Has.refl _))
     have sh:=mN.y
     have Ju:h.nx≤h5.nx:=mN.n
     have nN:Has h h5:=mN.a
     have e:cW dr fV P=Tp:=by simp only[cW,f0,mf,ak,aj]
     rw[e]
     exact aE rfl (ba Try.func68 lz rfl (.inr rfl) (pk (d) _ _ h _ h5 (CN 2<|VV ja<|CC<|VV (cI 3 false false .i64 ((dr.length:Nat):Int) fV)<|BC f0<|VV Vc<|CC<|LL lu<|ZZ) k!) k!) nN rfl
def si:Code:=(Try.f65.body).getD .skip
theorem v_:Try.f65.body=some si:=by kernel_rfl
def dL (o:aD) (c:aD):Bool:=(decide (o.name=c.name))
theorem wa {d:Nat} {h:aA} (o:aD) (c:aD) (cB:Nat) (h_o:aF.ok h o) (Tn:aF.ok h c) (g_c:h.get cB=some (.cells (aF.c c) 26 false)) (bS:Tidy h):cz (d+1) (.fn 65) [(AV.agg [(AV.str o.name),(Zi o.ai),(Zi o.af),(Zi o.aH),(Zi o.aI),(Zi o.bad),o.az]),(Pt cB)] h= .ret (AV.bool (dL o c)) h:=by
 have aeT:=h_o.2.small
 have aeU:=Tn.2.small
 obtain ⟨h1,cj,cg,iu,bf,cf⟩:=fY bS (aX.cells [(AV.str o.name),(Zi o.ai),(Zi o.af),(Zi o.aH),(Zi o.aI),(Zi o.bad),o.az] 26 false)
 have bA:Has h h1:=cf
 have e:dL o c=(decide (o.name=c.name)):=by simp only[dL,ak,aj]
 rw[e]
 exact aE rfl (ba Try.func65 v_ rfl (.inr rfl) (pk (d) _ _ h _ h1 (NN cj (fun i=>(Pt i))<|CN 2<|MM (aO 9 0 (AV.str o.name) bf k!)<|CC<|MM (aO 9 0 (AV.str c.name) (cf _ _ g_c) k!)<|VV (WK 9 false false o.name c.name)<|CC<|ZZ) k!) k!) bA rfl
end
end Go.Proofs.aG
