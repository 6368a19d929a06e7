import Derived.Test.YtfllahfbmaafcaaW2
import Derived.Test.YtfllahfbmaafcaaW1
import Derived.Test.YtfllahfbmaafcaaW0
namespace Go.Proofs.aG
open Go.Proofs Ab
noncomputable section
set_option maxRecDepth 100000
set_option maxHeartbeats 4000000
set_option linter.unusedVariables false
set_option linter.unusedSimpArgs false
theorem Li {n:Int} (h:d_ n=true):0≤n∧n≤100000:=by
 rw[d_] at h
 by_cases a:0≤n
 · rw[decide_eq_true a] at h;exact ⟨a,of_decide_eq_true h⟩
 · rw[decide_eq_false a] at h;cases h
theorem rvalue {n:Int} (h:cL n=true): -1000000000≤n∧n≤1000000000:=by
 rw[cL] at h
 by_cases a: -1000000000≤n
 · rw[decide_eq_true a] at h;exact ⟨a,of_decide_eq_true h⟩
 · rw[decide_eq_false a] at h;cases h
theorem SC {b:Bool} (h:(!b)=false):b=true:=by cases b;cases h;rfl
theorem SD (q:ay):∀(k i:Nat),bO q k i=none→∀j,i≤j→j<i+k→bz (q.ae.g j)=0
 | 0,i,_,j,a,b=>by omega
 | k+1,i,h,j,a,b=>by
   rw[bO] at h
   cases h1:dK (q.ae.g i).name with
   | false=>rw[h1] at h;cases h
   | true=>
     rw[h1] at h
     simp only[Bool.not_true,ah] at h
     cases h2:bV i q i 0 with
     | some r=>rw[h2] at h;cases h
     | none=>
       rw[h2] at h
       by_cases e:bz (q.ae.g i)=0
       · rw[decide_eq_true e] at h
         by_cases ej:j=i
         · rw[ej];exact e
         · exact SD q k (i+1) h j o! o!
       · rw[decide_eq_false e] at h;cases h
theorem SE (q:ay):∀(k i:Nat),(∀j,j<i+k→True)→bO q k i≠some 0
 | 0,i,_,h=>by cases h
 | k+1,i,_,h=>by
   rw[bO] at h
   cases h1:dK (q.ae.g i).name with
   | false=>rw[h1] at h;cases h
   | true=>
     rw[h1] at h
     simp only[Bool.not_true,ah] at h
     have l1:∀(k' i':Nat),bV i q k' i'≠some 0:=by
      intro k'
      induction k' with
      | zero=>intro i' h;cases h
      | succ k' ih=>
        intro i' h
        rw[bV] at h
        cases hq:decide ((q.ae.g i').name=(q.ae.g i).name) with
        | true=>rw[hq] at h;cases h
        | false=>rw[hq] at h;exact ih _ h
     cases h2:bV i q i 0 with
     | some r=>rw[h2] at h;exact l1 _ _ (h2.trans h)
     | none=>
       rw[h2] at h
       by_cases e:bz (q.ae.g i)=0
       · rw[decide_eq_true e] at h;exact SE q k (i+1) (fun _ _=>trivial) h
       · rw[decide_eq_false e] at h;exact e (Option.some.inj h)
structure RF (q:ay) (l:List az):Prop where
 start: -1000000000≤q.ao∧q.ao≤q.ai∧q.ai≤1000000000
 IY:0≤q.aI∧q.aI≤10000∧0≤q.aJ∧q.aJ≤10000
 bad:0≤q.bad∧q.bad≤(q.ae.length:Int)∧q.ae.length≤8
 aD:∀j,j<q.ae.length→0≤(q.ae.g j).acc∧(q.ae.g j).acc≤1000000000∧0≤(q.ae.g j).bH∧(q.ae.g j).bH≤1000000000∧0≤(q.ae.g j).since∧(q.ae.g j).since≤100000
 sN:l.length≤64
 read:∀i,i<l.length→(0≤(l.g i).aD∧(l.g i).aD<(q.ae.length:Int))∧(0≤(l.g i).time∧(l.g i).time≤100000)∧-1000000000≤(l.g i).value∧(l.g i).value≤1000000000
theorem SF {q:ay} {l:List az} (h:cD q l=0):RF q l:=by
 rw[cD] at h
 by_cases e:aE q=0
 · rw[decide_eq_true e,ak] at h
   by_cases e2:(64:Int)<((l.length:Nat):Int)
   · rw[decide_eq_true e2,ak] at h
     exact absurd (vA q l _ _ _ h).1 (by decide)
   · rw[decide_eq_false e2,ah] at h
     have hr:=(vA q l _ _ _ h).2
     rw[aE] at e
     obtain ⟨_,e⟩:=gX (by decide) e
     obtain ⟨a1,e⟩:=gX (by decide) e
     obtain ⟨a2,e⟩:=gX (by decide) e
     obtain ⟨a3,e⟩:=gX (by decide) e
     obtain ⟨a4,e⟩:=gX (by decide) e
     obtain ⟨a5,e⟩:=gX (by decide) e
     obtain ⟨a6,e⟩:=gX (by decide) e
     obtain ⟨a7,e⟩:=gX (by decide) e
     obtain ⟨a8,e⟩:=gX (by decide) e
     obtain ⟨a9,e⟩:=gX (by decide) e
     obtain ⟨a10,e⟩:=gX (by decide) e
     have a1:=rvalue (SC a1);have a2:=rvalue (SC a2)
     have a3:=of_decide_eq_false a3;have a4:=of_decide_eq_false a4;have a5:=of_decide_eq_false a5;have a6:=of_decide_eq_false a6;have a7:=of_decide_eq_false a7;have a8:=of_decide_eq_false a8;have a9:=of_decide_eq_false a9;have a10:=of_decide_eq_false a10
     have hn:bO q q.ae.length 0=none:=by
      cases hc:bO q q.ae.length 0 with
      | none=>rfl
      | some r=>rw[hc] at e;exact absurd (hc.trans (congrArg some e)) (SE q _ _ fun _ _=>trivial)
     refine ⟨⟨by omega,by omega,by omega⟩,⟨by omega,by omega,by omega,by omega⟩,⟨by omega,by omega,by omega⟩,fun j hj=>?_,by omega,fun i hi=>?_⟩
     · have g:=SD q _ _ hn j (Nat.zero_le _) o!
       rw[bz] at g
       obtain ⟨b1,g⟩:=gX (by decide) g
       obtain ⟨b2,g⟩:=gX (by decide) g
       obtain ⟨b3,g⟩:=gX (by decide) g
       obtain ⟨b4,g⟩:=gX (by decide) g
       obtain ⟨b5,g⟩:=gX (by decide) g
       have b1:=of_decide_eq_false b1;have b2:=of_decide_eq_false b2;have b3:=of_decide_eq_false b3;have b4:=of_decide_eq_false b4;have b5:=Li (SC b5)
       omega
     · have k:=hr i (Nat.zero_le _) o!
       rw[dW] at k
       obtain ⟨k1,k⟩:=gX (by decide) k
       obtain ⟨k2,k⟩:=gX (by decide) k
       obtain ⟨k3,k⟩:=gX (by decide) k
       obtain ⟨k4,k⟩:=gX (by decide) k
       have k1:=of_decide_eq_false k1;have k2:=of_decide_eq_false k2;have k3:=Li (SC k3);have k4:=rvalue (SC k4)
       omega
 · rw[decide_eq_false e,ah] at h
   exact absurd (vA q l _ _ _ h).1 e
theorem Lj {x y m:Int} (h1:x≤m) (h2:y≤m):imax x y≤m∧y≤imax x y:=by unfold imax;split<;>omega
theorem mL {g:bT} {t:Int} (h:0≤g.acc∧g.acc≤1000000000∧0≤g.bH∧g.bH≤1000000000∧0≤g.since∧g.since≤100000) (t0:0≤t) (t1:t≤100000):0≤cx g t∧cx g t≤102000000000:=by
 obtain ⟨a1,a2,a3,a4,a5,a6⟩:=h
 rw[cx,wrap_i64 (n:=t - g.since) o! o!]
 obtain ⟨m1,m2⟩:=Lj (x:=t - g.since) (y:=0) (m:=100000) o! o!
 generalize imax (t - g.since) 0=m at m1 m2 ⊢
 rw[wrap_i64 (n:=m+999) o! o!,Int.tdiv_eq_ediv_of_nonneg o!]
 rw[wrap_i64 (n:=(m+999) /1000) o! o!]
 have d1:0≤(m+999) /1000:=by omega
 have d2:(m+999) /1000≤100:=by omega
 generalize (m+999) /1000=d at d1 d2 ⊢
 have p1:0≤g.bH*d:=Int.mul_nonneg a3 d1
 have p2:g.bH*d≤100000000000:=by
  calc g.bH*d≤1000000000*d:=Int.mul_le_mul_of_nonneg_right a4 d1
   _≤100000000000:=by omega
 rw[wrap_i64 (n:=g.bH*d) o! o!,wrap_i64 (n:=g.acc+g.bH*d) o! o!]
 omega
def Et (q:ay) (r:az):dq:=⟨r.time,r.value - cx (q.ae.g r.aD.toNat) r.time,r.value+cx (q.ae.g r.aD.toNat) r.time⟩
def YB (q:ay):dq:=⟨0,q.ao,q.ai⟩
theorem Cc {q:ay} {l:List az} (f:RF q l) (s:Int):∀(k i:Nat) (v:List dq),i+k=l.length→∀c,c∈gQ l q s k i v↔c∈v∨∃j,i≤j∧j<l.length∧B7 s (l.g j).aD=false∧c=Et q (l.g j)
 | 0,i,v,h,c=>by
   rw[gQ]
   exact ⟨.inl,fun h'=>h'.elim id fun ⟨j,a,b,_⟩=>by omega⟩
 | k+1,i,v,h,c=>by
   have hi:i<l.length:=by omega
   obtain ⟨⟨g1,g2⟩,⟨g3,g4⟩,g5,g6⟩:=f.read i hi
   obtain ⟨w1,w2⟩:=mL (f.aD (l.g i).aD.toNat o!) g3 g4
   rw[gQ]
   cases e:B7 s (l.g i).aD with
   | true=>
     show c∈gQ l q s k (i+1) v↔_
     rw[Cc f s k (i+1) v o! c]
     constructor
     · rintro (w | ⟨j,a,b,w⟩)
       · exact .inl w
       · exact .inr ⟨j,by omega,b,w⟩
     · rintro (w | ⟨j,a,b,w⟩)
       · exact .inl w
       · refine .inr ⟨j,?_,b,w⟩
         rcases Nat.lt_or_eq_of_le a with q1 | q1
         · omega
         · subst q1;rw[e] at w;cases w.1
   | false=>
     show c∈gQ l q s k (i+1) (v++[_])↔_
     rw[wrap_i64 (n:=(l.g i).value - cx (q.ae.g (l.g i).aD.toNat) (l.g i).time) o! o!,wrap_i64 (n:=(l.g i).value+cx (q.ae.g (l.g i).aD.toNat) (l.g i).time) o! o!,Cc f s k (i+1) _ o! c,List.mem_append,List.mem_singleton]
     constructor
     · rintro ((w | w) | ⟨j,a,b,w⟩)
       · exact .inl w
       · exact .inr ⟨i,Nat.le_refl _,hi,e,w⟩
       · exact .inr ⟨j,by omega,b,w⟩
     · rintro (w | ⟨j,a,b,w⟩)
       · exact .inl (.inl w)
       · rcases Nat.lt_or_eq_of_le a with q1 | q1
         · exact .inr ⟨j,by omega,b,w⟩
         · subst q1;exact .inl (.inr w.2)
theorem Eu {q:ay} {l:List az} (f:RF q l) (s:Int) (c:dq):c∈iA q l s↔c=YB q∨∃j,j<l.length∧B7 s (l.g j).aD=false∧c=Et q (l.g j):=by
 rw[iA,Cc f s _ 0 _ o! c,List.mem_singleton]
 exact or_congr Iff.rfl ⟨fun ⟨j,_,b⟩=>⟨j,b⟩,fun ⟨j,b⟩=>⟨j,Nat.zero_le _,b⟩⟩
theorem Lk {q:ay} {l:List az} (f:RF q l) {j:Nat} (hj:j<l.length):KB (Et q (l.g j)):=by
 obtain ⟨⟨g1,g2⟩,⟨g3,g4⟩,g5,g6⟩:=f.read j hj
 obtain ⟨w1,w2⟩:=mL (f.aD (l.g j).aD.toNat o!) g3 g4
 exact ⟨⟨g3,g4⟩,by simp only[Et];omega,by simp only[Et];omega,by simp only[Et];omega,by simp only[Et];omega⟩
theorem xn {q:ay} {l:List az} (f:RF q l) (s:Int):∀c∈iA q l s,KB c:=fun c hc=>by
 rcases (Eu f s c).1 hc with rfl | ⟨j,hj,_,rfl⟩
 · have:=f.start;exact ⟨⟨by simp [YB],by simp [YB]⟩,by simp only[YB];omega,by simp only[YB];omega,by simp only[YB];omega,by simp only[YB];omega⟩
 · exact Lk f hj
def sz (s:Nat):Nat:=((List.range 8).filter fun j=>s.testBit j).length
theorem WV {s:Nat} (h:s<256):Ld ((s:Nat):Int)=(sz s:Int):=by
 have:∀s,s<256→Ld ((s:Nat):Int)=(sz s:Int):=by decide+kernel
 exact this s h
theorem SG {s:Nat} {g:Int} (h:s<256) (g0:0≤g) (g1:g<8):B7 ((s:Nat):Int) g=s.testBit g.toNat:=by
 have:∀s,s<256→∀g,g<8→B7 ((s:Nat):Int) ((g:Nat):Int)=s.testBit g:=by decide+kernel
 obtain ⟨k,rfl⟩:∃k:Nat,g=k:=⟨g.toNat,by omega⟩
 exact this s h k o!
theorem aaI {n:Nat} (h:n≤8):(qf .i64 1 ((n:Nat):Int)).toNat=2^n:=by
 have:∀n,n<9→(qf .i64 1 ((n:Nat):Int)).toNat=2^n:=by decide+kernel
 exact this n o!
theorem AX {n:Nat} (h:n≤8):2^n≤256:=by
 have:=Nat.pow_le_pow_right (n:=2) (by decide) h
 exact this
def YC (n s:Nat):Bool:=(List.range n).any fun j=>decide (s+2^j<2^n)&&(sz (s+2^j)==sz s+1)&&(List.range 8).all fun i=> !s.testBit i||(s+2^j).testBit i
theorem SH:((List.range 9).all fun n=>(List.range (2^n)).all fun s=> !decide (sz s<n)||YC n s)=true:=by decide+kernel
theorem WW {n s:Nat} (hn:n≤8) (hs:s<2^n) (h:sz s<n):∃s',s'<2^n∧sz s'=sz s+1∧∀i,i<8→s.testBit i=true→s'.testBit i=true:=by
 have a:=List.all_eq_true.1 (List.all_eq_true.1 SH n (List.mem_range.2 o!)) s (List.mem_range.2 hs)
 rw[decide_eq_true h] at a
 obtain ⟨j,_,hj⟩:=List.any_eq_true.1 (show YC n s=true from a)
 rw[Bool.and_eq_true,Bool.and_eq_true] at hj
 refine ⟨_,of_decide_eq_true hj.1.1,eq_of_beq hj.1.2,fun i hi hb=>?_⟩
 have c:=List.all_eq_true.1 hj.2 i (List.mem_range.2 hi)
 rw[hb] at c;exact c
theorem SI {n b:Nat} (hn:n≤8) (hb:b≤n):∀(k s:Nat),s<2^n→sz s+k=b→∃s',s'<2^n∧sz s'=b∧∀i,i<8→s.testBit i=true→s'.testBit i=true
 | 0,s,hs,h=>⟨s,hs,h,fun _ _ h=>h⟩
 | k+1,s,hs,h=>by
   obtain ⟨s1,a1,a2,a3⟩:=WW hn hs o!
   obtain ⟨s2,b1,b2,b3⟩:=SI hn hb k s1 a1 o!
   exact ⟨s2,b1,b2,fun i hi h=>b3 i hi (a3 i hi h)⟩
def KS (q:ay) (l:List az) (s:Nat) (c:dq):Prop:=c=YB q∨∃j,j<l.length∧s.testBit (l.g j).aD.toNat=false∧c=Et q (l.g j)
theorem j_ {q:ay} {l:List az} (f:RF q l) {s:Nat} (hs:s<256) (c:dq):c∈iA q l ((s:Nat):Int)↔KS q l s c:=by
 rw[Eu f]
 refine or_congr Iff.rfl ⟨fun ⟨j,a,b,c⟩=>⟨j,a,?_,c⟩,fun ⟨j,a,b,c⟩=>⟨j,a,?_,c⟩⟩
 · have:=(f.read j a).1;have:=f.bad;rw[←SG hs o! o!];exact b
 · have:=(f.read j a).1;have:=f.bad;rw[SG hs o! o!];exact b
def Ay (q:ay) (l:List az) (s:Nat):Prop:=∀i,KS q l s i→∀k,KS q l s k→max (gB q.aJ q.aI i k.time).aU k.ax≤min (gB q.aJ q.aI i k.time).aF k.ar
def Vf (q:ay) (l:List az) (s:Nat) (t x:Int):Prop:=∀c,KS q l s c→(gB q.aJ q.aI c t).aU≤x∧x≤(gB q.aJ q.aI c t).aF
theorem Gw {q:ay} {l:List az} (f:RF q l) {s s':Nat} (h:∀i,i<8→s.testBit i=true→s'.testBit i=true) {c:dq} (k:KS q l s' c):KS q l s c:=by
 rcases k with k | ⟨j,a,b,c⟩
 · exact .inl k
 · refine .inr ⟨j,a,?_,c⟩
   have:=(f.read j a).1;have:=f.bad
   cases e:s.testBit (l.g j).aD.toNat with
   | false=>rfl
   | true=>rw[h _ o! e] at b;cases b
theorem SJ {q:ay} {l:List az} (f:RF q l) (t x:Int):(∃s,s<2^q.ae.length∧(sz s:Int)≤q.bad∧Ay q l s∧Vf q l s t x)↔∃s,s<2^q.ae.length∧(sz s:Int)=q.bad∧Ay q l s∧Vf q l s t x:=by
 obtain ⟨b0,b1,b2⟩:=f.bad
 constructor
 · rintro ⟨s,h1,h2,h3,h4⟩
   obtain ⟨s',a1,a2,a3⟩:=SI b2 (b:=q.bad.toNat) o! (q.bad.toNat - sz s) s h1 o!
   exact ⟨s',a1,by omega,fun i hi k hk=>h3 i (Gw f a3 hi) k (Gw f a3 hk),fun c hc=>h4 c (Gw f a3 hc)⟩
 · rintro ⟨s,h1,h2,h3,h4⟩
   exact ⟨s,h1,by omega,h3,h4⟩
theorem Nq {q:ay} {l:List az} (f:RF q l) {s:Nat} (hs:s<256):xh q (iA q l ((s:Nat):Int))=true↔Ay q l s:=by
 obtain ⟨r0,r1,f0,f1⟩:=f.IY
 rw[IX f0 f1 r0 r1 (xn f _)]
 exact ⟨fun h i hi k hk=>h i ((j_ f hs i).2 hi) k ((j_ f hs k).2 hk),fun h i hi k hk=>h i ((j_ f hs i).1 hi) k ((j_ f hs k).1 hk)⟩
theorem Gy {q:ay} {l:List az} (f:RF q l) {t:Int} (t0:0≤t) (t1:t≤100000):∀(k i:Nat) (v:List Span),i+k=2^q.ae.length→Canon v→(∀s∈v,Bd s)→
 Canon (eI q l t k i v)∧∀x,xj (eI q l t k i v) x↔xj v x∨∃s,i≤s∧s<2^q.ae.length∧(sz s:Int)≤q.bad∧Ay q l s∧Vf q l s t x
 | 0,i,v,h,c,b=>by
   rw[eI]
   exact ⟨c,fun x=>⟨.inl,fun w=>w.elim id fun ⟨s,a,b,_⟩=>by omega⟩⟩
 | k+1,i,v,h,c,b=>by
   obtain ⟨b0,b1,b2⟩:=f.bad
   obtain ⟨r0,r1,f0,f1⟩:=f.IY
   have hi:i<256:=by have:=AX b2;omega
   have skip:(¬((sz i:Int)≤q.bad∧Ay q l i))→Canon (eI q l t k (i+1) v)∧∀x,xj (eI q l t k (i+1) v) x↔xj v x∨∃s,i≤s∧s<2^q.ae.length∧(sz s:Int)≤q.bad∧Ay q l s∧Vf q l s t x:=fun hn=>by
    obtain ⟨x1,x2⟩:=Gy f t0 t1 k (i+1) v o! c b
    refine ⟨x1,fun x=>(x2 x).trans (or_congr Iff.rfl ⟨fun ⟨s,a,w⟩=>⟨s,by omega,w⟩,fun ⟨s,a,w,w2,w3,w4⟩=>⟨s,?_,w,w2,w3,w4⟩⟩)⟩
    rcases Nat.lt_or_eq_of_le a with e | e
    · omega
    · subst e;exact absurd ⟨w2,w3⟩ hn
   rw[eI,WV hi]
   by_cases e1:q.bad<(sz i:Int)
   · rw[decide_eq_true e1];exact skip fun w=>by omega
   · rw[decide_eq_false e1,ah]
     cases e2:xh q (iA q l ((i:Nat):Int)) with
     | false=>exact skip fun w=>by rw[(Nq f hi).2 w.2] at e2;cases e2
     | true=>
       have ex:=(Nq f hi).1 e2
       obtain ⟨m1,m2,m3⟩:=at_mem f0 f1 r0 r1 (xn f ((i:Nat):Int)) t0 t1 (Es q l ((i:Nat):Int)) ((IX f0 f1 r0 r1 (xn f _)).1 e2)
       rw[ak,O_ c b m1 m2]
       obtain ⟨j1,j2,_⟩:=B_ (l:=v) c m1
       obtain ⟨x1,x2⟩:=Gy f t0 t1 k (i+1) _ o! j1 (Lh b m2)
       refine ⟨x1,fun x=>?_⟩
       rw[x2,j2,m3]
       have vi:(∀c∈iA q l ((i:Nat):Int),(gB q.aJ q.aI c t).aU≤x∧x≤(gB q.aJ q.aI c t).aF)↔Vf q l i t x:=⟨fun h c hc=>h c ((j_ f hi c).2 hc),fun h c hc=>h c ((j_ f hi c).1 hc)⟩
       rw[vi]
       constructor
       · rintro ((w | w) | ⟨s,a,w⟩)
         · exact .inl w
         · exact .inr ⟨i,Nat.le_refl _,by omega,by omega,ex,w⟩
         · exact .inr ⟨s,by omega,w⟩
       · rintro (w | ⟨s,a,w1,w2,w3,w4⟩)
         · exact .inl (.inl w)
         · rcases Nat.lt_or_eq_of_le a with e | e
           · exact .inr ⟨s,by omega,w1,w2,w3,w4⟩
           · subst e;exact .inl (.inr w4)
theorem zV {q:ay} {l:List az} (f:RF q l) {t:Int} (t0:0≤t) (t1:t≤100000):Canon (qW q l t)∧∀x,xj (qW q l t) x↔∃s,s<2^q.ae.length∧(sz s:Int)=q.bad∧Ay q l s∧Vf q l s t x:=by
 rw[qW,aaI f.bad.2.2]
 obtain ⟨x1,x2⟩:=Gy f t0 t1 (2^q.ae.length) 0 [] o! .nil (fun s hs=>by cases hs)
 refine ⟨x1,fun x=>?_⟩
 rw[x2,←SJ f]
 exact ⟨fun w=>w.elim (fun w=>absurd w AW) fun ⟨s,_,w⟩=>⟨s,w⟩,fun ⟨s,w⟩=> .inr ⟨s,Nat.zero_le _,w⟩⟩
def Cd:Code:=(Try.f43.body).getD .skip
theorem IZ:Try.f43.body=some Cd:=by kernel_rfl
def fL (g:bT) (t:Int):Int:=(IntKind.i64.wrap (g.acc+(IntKind.i64.wrap (g.bH*(IntKind.i64.wrap (Int.tdiv (IntKind.i64.wrap ((IntKind.i64.wrap ((imax (IntKind.i64.wrap (t - g.since)) 0)+1000)) - 1)) 1000))))))
theorem zW {d:Nat} {h:aw} (g:bT) (t:Int) (Vd:aA.ok h g) (ch:Tidy h):dh (d+1) (.fn 43) [(AV.agg [(AV.str g.name),(Zi g.acc),(Zi g.bH),(Zi g.since)]),(Zi t)] h= .ret (Zi (fL g t)) h:=by
 obtain ⟨h1,ct,ck,jj,aW,cr⟩:=iX ch (aR.cells [(AV.str g.name),(Zi g.acc),(Zi g.bH),(Zi g.since)] 45 false)
 have bG:Has h h1:=cr
 have e:fL g t=(IntKind.i64.wrap (g.acc+(IntKind.i64.wrap (g.bH*(IntKind.i64.wrap (Int.tdiv (IntKind.i64.wrap ((IntKind.i64.wrap ((imax (IntKind.i64.wrap (t - g.since)) 0)+1000)) - 1)) 1000)))))):=by simp only[fL,ak,ah]
 rw[e]
 exact aC rfl (bh Try.func43 IZ rfl (.inr rfl) (pk (d) _ _ h _ h1 (NN ct (fun i=>(Pt i))<|CN 3<|MM (aK 3 3 (Zi g.since) aW k!)<|CN 7<|MM (aK 3 1 (Zi g.acc) aW k!)<|CC<|MM (aK 3 2 (Zi g.bH) aW k!)<|CN 4<|ZZ) k!) k!) bG rfl
def vC:Code:=(Try.f83.body).getD .skip
theorem Az:Try.f83.body=some vC:=by kernel_rfl
def gR (o:bT) (c:bT):Bool:=(decide (o.name=c.name))
theorem AB {d:Nat} {h:aw} (o:bT) (c:bT) (cB:Nat) (h_o:aA.ok h o) (YD:aA.ok h c) (g_c:h.get cB=some (.cells (aA.c c) 45 false)) (ch:Tidy h):dh (d+1) (.fn 83) [(AV.agg [(AV.str o.name),(Zi o.acc),(Zi o.bH),(Zi o.since)]),(Pt cB)] h= .ret (AV.bool (gR o c)) h:=by
 obtain ⟨h1,ct,ck,jj,aW,cr⟩:=iX ch (aR.cells [(AV.str o.name),(Zi o.acc),(Zi o.bH),(Zi o.since)] 45 false)
 have bG:Has h h1:=cr
 have e:gR o c=(decide (o.name=c.name)):=by simp only[gR,ak,ah]
 rw[e]
 exact aC rfl (bh Try.func83 Az rfl (.inr rfl) (pk (d) _ _ h _ h1 (NN ct (fun i=>(Pt i))<|CN 2<|MM (aK 9 0 (AV.str o.name) aW k!)<|CC<|MM (aK 9 0 (AV.str c.name) (cr _ _ g_c) k!)<|VV (WM 9 false false o.name c.name)<|CC<|ZZ) k!) k!) bG rfl
def pg:Code:=(Try.f91.body).getD .skip
theorem sO:Try.f91.body=some pg:=by kernel_rfl
def yW:Code:=(cu pg).getD 0 .skip
def ef (s:List bT) (P:bT→Bool):Nat→Nat→Option (Int)
 | 0,_=>none
 | eH+1,i0=>(bif (P (s.g i0)) then some ((i0:Nat):Int) else ef s P eH (i0+1))
theorem lh {d:Nat} {h:aw} (sV:AV) (g:FuncId) (cap:List AV) (s:List bT) (P:bT→Bool) (cH:aP h sV s) (hP:∀y∈s,∀hh,Tidy hh→Has h hh→dh d (.fn g) (.agg (aA.c y)::cap) hh= .ret (.bool (P y)) hh):∀(k_ i_:Nat) (_:i_+k_=s.length) (x:Nat→AV) (hh:aw) (aL:Tidy hh) (bB:Has h hh),ba (dh (d)) yW ⟨(sV::(AV.func g [] cap)::rx x 2 5 ((Zn s.length)::(Zn i_)::rx x 9 10 [])),hh,[],.no⟩ (.exit 0) hh (fun y=>(sV::(AV.func g [] cap)::rx y 2 5 ((Zn s.length)::rx y 8 11 []))) (fun r y=>(sV::(AV.func g [] cap)::(y 2)::(y 3)::(Zi r)::(y 5)::(y 6)::(Zn s.length)::rx y 8 11 [])) (ef s P k_ i_)
 | 0,i0,mR,x,hh,aL,bB=>by
   have kz:=cH.small
   have q1:(decide (((i0:Nat):Int)<((s.length:Nat):Int)))=false:=d!
   exact ba.out rfl (pk (d) _ _ hh _ hh (VV (bU 3 false false .i64 ((i0:Nat):Int) ((s.length:Nat):Int))<|BB q1<|ZZ) k!) (Grow.refl aL) k!
 | eH+1,i0,mR,x,hh,aL,bB=>by
   have kz:=cH.small
   have q1:(decide (((i0:Nat):Int)<((s.length:Nat):Int)))=true:=d!
   obtain ⟨p3,q4,j8⟩:=(cH.has bB).elem (i:=i0) o!
   have vw:dy env (some (.slice 45)) (some sV) (some (Zn i0))=some (AV.ptr p3 q4):=j8
   have yU:bE env hh 45 (AV.ptr p3 q4)=some (AV.agg [(AV.str (s.g i0).name),(Zi (s.g i0).acc),(Zi (s.g i0).bH),(Zi (s.g i0).since)]):=(cH.has bB).load o! j8
   have k6:=hP (s.g i0) (j7 o!) hh aL bB
   rcases Bool.eq_false_or_eq_true (P (s.g i0)) with f1 | f1
   · exact ba.ret ((i0:Nat):Int) (by simp only[ef,f1,ak,ah]) (pk (d) _ _ hh _ hh (VV (bU 3 false false .i64 ((i0:Nat):Int) ((s.length:Nat):Int))<|BB q1<|CN 5<|VV vw<|MM yU<|EE k6<|BB f1<|CN 2<|ZZ) k!) (Grow.refl aL) k!
   · have u8:=fU 3 false true i0 1 o!
     exact ba.round (by simp only[ef,f1,ak,ah]) (pk (d) _ _ hh _ hh (VV (bU 3 false false .i64 ((i0:Nat):Int) ((s.length:Nat):Int))<|BB q1<|CN 5<|VV vw<|MM yU<|EE k6<|BV f1 u8<|CC<|ZZ) k!) (Grow.refl aL) _ k! (fun x=>lh sV g cap s P cH hP eH (i0+1) o! x hh aL bB)
def fE (s:List bT) (P:bT→Bool):Int:=(match (ef s P s.length 0) with | none=>(-1) | some O8=>O8)
theorem Ce {d:Nat} {h:aw} {sV:AV} {g:FuncId} {cap:List AV} (s:List bT) (P:bT→Bool) (AT:aP h sV s) (hP:∀y∈s,∀hh,Tidy hh→Has h hh→dh d (.fn g) (.agg (aA.c y)::cap) hh= .ret (.bool (P y)) hh) (ch:Tidy h):dh (d+1) (.fn 91) [sV,(AV.func g [] cap)] h= .ret (Zi (fE s P)) h:=by
 have Nr:=AT.small
 have rA:dN (some (.slice 45)) (some sV)=some (Zn s.length):=AT.len
 cases lj:ef s P s.length 0 with
 | none=>
   obtain ⟨YE,h3,jn,oD⟩:=ba.n lj (lh (d:=d) (h:=h) sV g cap s P AT hP s.length 0 o! (fun k_=>((sV::(AV.func g [] cap)::AV.undef::AV.undef::(Zi 0)::AV.undef::sV::(Zn s.length)::(Zi 0)::iW 10):List AV).getD k_ AV.undef) h ch (Has.refl _))
   have ia:=oD.y
   have vD:h.nx≤h3.nx:=oD.n
   have jo:Has h h3:=oD.a
   have e:fE s P=(-1):=by simp only[fE,lj,ak,ah]
   rw[e]
   exact aC rfl (bh Try.func91 sO rfl (.inr rfl) (pk (d) _ _ h _ h3 (CN 2<|VV rA<|CC<|LL jn<|CC<|ZZ) k!) k!) jo rfl
 | some O8=>
   obtain ⟨YE,h3,jn,oD⟩:=ba.r lj (lh (d:=d) (h:=h) sV g cap s P AT hP s.length 0 o! (fun k_=>((sV::(AV.func g [] cap)::AV.undef::AV.undef::(Zi 0)::AV.undef::sV::(Zn s.length)::(Zi 0)::iW 10):List AV).getD k_ AV.undef) h ch (Has.refl _))
   have ia:=oD.y
   have vD:h.nx≤h3.nx:=oD.n
   have jo:Has h h3:=oD.a
   have e:fE s P=O8:=by simp only[fE,lj,ak,ah]
   rw[e]
   exact aC rfl (bh Try.func91 sO rfl (.inr rfl) (pk (d) _ _ h _ h3 (CN 2<|VV rA<|CC<|LL jn<|ZZ) k!) k!) jo rfl
def sP:Code:=(Try.f82.body).getD .skip
theorem xp:Try.f82.body=some sP:=by kernel_rfl
def eR (s:List bT) (P:bT→Bool):Bool:=(decide (0≤(fE s P)))
theorem xq {d:Nat} {h:aw} {sV:AV} {g:FuncId} {cap:List AV} (s:List bT) (P:bT→Bool) (AT:aP h sV s) (hP:∀y∈s,∀hh,Tidy hh→Has h hh→dh d (.fn g) (.agg (aA.c y)::cap) hh= .ret (.bool (P y)) hh) (ch:Tidy h):dh (d+2) (.fn 82) [sV,(AV.func g [] cap)] h= .ret (AV.bool (eR s P)) h:=by
 have Nr:=AT.small
 have k1:=Ce (d:=d) s P AT hP ch
 have e:eR s P=(decide (0≤(fE s P))):=by simp only[eR,ak,ah]
 rw[e]
 exact aC rfl (bh Try.func82 xp rfl (.inr rfl) (pk (d+1) _ _ h _ h (CN 3<|EE k1<|VV (qd 3 false true .i64 (fE s P) 0)<|CC<|ZZ) k!) k!) (Has.refl _) rfl
def Dv:Code:=(Try.f67.body).getD .skip
theorem Cf:Try.f67.body=some Dv:=by kernel_rfl
def dX (x_:Int) (fF:Int):Bool:=(bif (decide (0≤x_)) then (decide (x_≤fF)) else false)
theorem lR {d:Nat} {h:aw} (x_:Int) (fF:Int) (ch:Tidy h):dh (d+1) (.fn 67) [(Zi x_),(Zi fF)] h= .ret (AV.bool (dX x_ fF)) h:=by
 rcases Bool.eq_false_or_eq_true (decide (0≤x_)) with f0 | f0
 · have ji:=of_decide_eq_true f0
   have e:dX x_ fF=(decide (x_≤fF)):=by simp only[dX,f0,ak,ah]
   rw[e]
   exact aC rfl (bh Try.func67 Cf rfl (.inr rfl) (pk (d) _ _ h _ h (CN 2<|VV (qd 3 false true .i64 x_ 0)<|CC<|BC f0<|BC f0<|BV f0 (qT 3 false false .i64 x_ fF)<|VV (oV (decide (x_≤fF)) false f0)<|CC<|ZZ) k!) k!) (Has.refl _) rfl
 · have ji:=of_decide_eq_false f0
   have e:dX x_ fF=false:=by simp only[dX,f0,ak,ah]
   rw[e]
   exact aC rfl (bh Try.func67 Cf rfl (.inr rfl) (pk (d) _ _ h _ h (CN 2<|VV (qd 3 false true .i64 x_ 0)<|CC<|BB f0<|BB f0<|BV f0 (uj false f0)<|CC<|ZZ) k!) k!) (Has.refl _) rfl
def Dw:Code:=(Try.f42.body).getD .skip
theorem Ll:Try.f42.body=some Dw:=by kernel_rfl
def cN (t:Int):Bool:=(dX t 100000)
theorem oE {d:Nat} {h:aw} (t:Int) (ch:Tidy h):dh (d+2) (.fn 42) [(Zi t)] h= .ret (AV.bool (cN t)) h:=by
 have k1:=lR (d:=d) t 100000 ch
 have e:cN t=(dX t 100000):=by simp only[cN,ak,ah]
 rw[e]
 exact aC rfl (bh Try.func42 Ll rfl (.inr rfl) (pk (d+1) _ _ h _ h (CN 2<|EE k1<|CC<|ZZ) k!) k!) (Has.refl _) rfl
def Cg:Code:=(Try.f84.body).getD .skip
theorem sR:Try.f84.body=some Cg:=by kernel_rfl
def gE (g:bT):Bool:=(bif (dX g.acc 1000000000) then (bif (dX g.bH 1000000000) then (cN g.since) else false) else false)
theorem I0 {d:Nat} {h:aw} (g:bT) (Vd:aA.ok h g) (ch:Tidy h):dh (d+3) (.fn 84) [(AV.agg [(AV.str g.name),(Zi g.acc),(Zi g.bH),(Zi g.since)])] h= .ret (AV.bool (gE g)) h:=by
 obtain ⟨h1,ct,ck,jj,aW,cr⟩:=iX ch (aR.cells [(AV.str g.name),(Zi g.acc),(Zi g.bH),(Zi g.since)] 45 false)
 have bG:Has h h1:=cr
 have k2:=lR (d:=d+1) g.acc 1000000000 ck
 rcases Bool.eq_false_or_eq_true (dX g.acc 1000000000) with f0 | f0
 · have k4:=lR (d:=d+1) g.bH 1000000000 ck
   rcases Bool.eq_false_or_eq_true (dX g.bH 1000000000) with f1 | f1
   · have k6:=oE (d:=d) g.since ck
     have e:gE g=(cN g.since):=by simp only[gE,f0,f1,ak,ah]
     rw[e]
     exact aC rfl (bh Try.func84 sR rfl (.inr rfl) (pk (d+2) _ _ h _ h1 (NN ct (fun i=>(Pt i))<|CN 2<|MM (aK 3 1 (Zi g.acc) aW k!)<|EE k2<|CC<|BC f0<|BM f0 (aK 3 2 (Zi g.bH) aW k!)<|BB f0<|EE k4<|VV (oV (dX g.bH 1000000000) false f0)<|CC<|BC f1<|BM f1 (aK 3 3 (Zi g.since) aW k!)<|BB f1<|EE k6<|VV (oV (cN g.since) false f1)<|CC<|ZZ) k!) k!) bG rfl
   · have e:gE g=false:=by simp only[gE,f0,f1,ak,ah]
     rw[e]
     exact aC rfl (bh Try.func84 sR rfl (.inr rfl) (pk (d+2) _ _ h _ h1 (NN ct (fun i=>(Pt i))<|CN 2<|MM (aK 3 1 (Zi g.acc) aW k!)<|EE k2<|CC<|BC f0<|BM f0 (aK 3 2 (Zi g.bH) aW k!)<|BB f0<|EE k4<|VV (oV (dX g.bH 1000000000) false f0)<|CC<|BB f1<|BB f1<|BV f1 (uj false f1)<|CC<|ZZ) k!) k!) bG rfl
 · have e:gE g=false:=by simp only[gE,f0,ak,ah]
   rw[e]
   exact aC rfl (bh Try.func84 sR rfl (.inr rfl) (pk (d+2) _ _ h _ h1 (NN ct (fun i=>(Pt i))<|CN 2<|MM (aK 3 1 (Zi g.acc) aW k!)<|EE k2<|CC<|BB f0<|BB f0<|BV f0 (uj false f0)<|CC<|FF<|FF<|FF<|CN 2<|ZZ) k!) k!) bG rfl
def uG:Code:=(Try.f63.body).getD .skip
theorem qY:Try.f63.body=some uG:=by kernel_rfl
def GA:Code:=(cu uG).getD 0 .skip
def bK (dO:List UInt8):Nat→Nat→Option (Bool)
 | 0,_=>none
 | eH+1,i0=>(bif (decide (97≤(((dO.g i0).toNat:Nat):Int))) then (bif (decide (48≤(((dO.g i0).toNat:Nat):Int))) then (bif (decide ((((dO.g i0).toNat:Nat):Int)≤57)) then (bif (!(decide ((((dO.g i0).toNat:Nat):Int)≤122))) then (bif (decide (((i0:Nat):Int)=0)) then some false else bK dO eH (i0+1)) else bK dO eH (i0+1)) else (bif (!(decide ((((dO.g i0).toNat:Nat):Int)≤122))) then (bif (decide (((i0:Nat):Int)=0)) then some false else (bif (!(decide ((((dO.g i0).toNat:Nat):Int)=45))) then some false else bK dO eH (i0+1))) else bK dO eH (i0+1))) else (bif (!(decide ((((dO.g i0).toNat:Nat):Int)≤122))) then (bif (decide (((i0:Nat):Int)=0)) then some false else (bif (!(decide ((((dO.g i0).toNat:Nat):Int)=45))) then some false else bK dO eH (i0+1))) else bK dO eH (i0+1))) else (bif (decide (48≤(((dO.g i0).toNat:Nat):Int))) then (bif (decide ((((dO.g i0).toNat:Nat):Int)≤57)) then (bif (decide (((i0:Nat):Int)=0)) then some false else bK dO eH (i0+1)) else (bif (decide (((i0:Nat):Int)=0)) then some false else (bif (!(decide ((((dO.g i0).toNat:Nat):Int)=45))) then some false else bK dO eH (i0+1)))) else (bif (decide (((i0:Nat):Int)=0)) then some false else (bif (!(decide ((((dO.g i0).toNat:Nat):Int)=45))) then some false else bK dO eH (i0+1)))))
theorem eJ {d:Nat} {h:aw} (dO:List UInt8) (cH:dO.length<2^60):∀(k_ i_:Nat) (_:i_+k_=(List.length dO)) (x:Nat→AV) (hh:aw) (aL:Tidy hh) (bB:Has h hh),ba (dh (d)) GA ⟨((AV.str dO)::rx x 1 13 ((Zn (List.length dO))::(Zn i_)::rx x 16 39 [])),hh,[],.no⟩ (.exit 0) hh (fun y=>((AV.str dO)::rx y 1 13 ((Zn (List.length dO))::rx y 15 40 []))) (fun r y=>((AV.str dO)::(y 1)::(AV.bool r)::rx y 3 11 ((Zn (List.length dO))::rx y 15 40 []))) (bK dO k_ i_)
 | 0,i0,mR,x,hh,aL,bB=>by
   have q1:(decide (((i0:Nat):Int)<((List.length dO:Nat):Int)))=false:=d!
   exact ba.out rfl (pk (d) _ _ hh _ hh (VV (bU 3 false false .i64 ((i0:Nat):Int) ((List.length dO:Nat):Int))<|BB q1<|ZZ) k!) (Grow.refl aL) k!
 | eH+1,i0,mR,x,hh,aL,bB=>by
   have q1:(decide (((i0:Nat):Int)<((List.length dO:Nat):Int)))=true:=d!
   have vw:qO env (some .string) (some (AV.str dO)) (some (Zn i0))=some (AV.int .u8 (((dO.g i0).toNat:Nat):Int)):=jD (j:=i0) o!
   have Ep:=fun {al ps} (k:Pk al _ ps)=>(VV (bU 3 false false .i64 ((i0:Nat):Int) ((List.length dO:Nat):Int))<|BB q1<|CN 4<|VV vw<|VV (qd 5 false true .u8 (((dO.g i0).toNat:Nat):Int) 97)<|CC<|k:Pk _ [] ps)
   rcases Bool.eq_false_or_eq_true (decide (97≤(((dO.g i0).toNat:Nat):Int))) with f1 | f1
   · have jk:=of_decide_eq_true f1
     have Ve:qO env (some .string) (some (AV.str dO)) (some (Zn i0))=some (AV.int .u8 (((dO.g i0).toNat:Nat):Int)):=jD (j:=i0) o!
     have YF:qO env (some .string) (some (AV.str dO)) (some (Zn i0))=some (AV.int .u8 (((dO.g i0).toNat:Nat):Int)):=jD (j:=i0) o!
     have Hk:=fun {al ps} (k:Pk al _ ps)=>(Ep<|BC f1<|BC f1<|BV f1 Ve<|BV f1 (qT 5 false true .u8 (((dO.g i0).toNat:Nat):Int) 122)<|VV (oV (decide ((((dO.g i0).toNat:Nat):Int)≤122)) false f1)<|CN 3<|VV YF<|VV (qd 5 false true .u8 (((dO.g i0).toNat:Nat):Int) 48)<|CC<|k:Pk _ [] ps)
     rcases Bool.eq_false_or_eq_true (decide (48≤(((dO.g i0).toNat:Nat):Int))) with f2 | f2
     · have ou:=of_decide_eq_true f2
       have ix7:qO env (some .string) (some (AV.str dO)) (some (Zn i0))=some (AV.int .u8 (((dO.g i0).toNat:Nat):Int)):=jD (j:=i0) o!
       have IS:=fun {al ps} (k:Pk al _ ps)=>(Hk<|BC f2<|BC f2<|BV f2 ix7<|BV f2 (qT 5 false true .u8 (((dO.g i0).toNat:Nat):Int) 57)<|VV (oV (decide ((((dO.g i0).toNat:Nat):Int)≤57)) false f2)<|CC<|k:Pk _ [] ps)
       rcases Bool.eq_false_or_eq_true (decide ((((dO.g i0).toNat:Nat):Int)≤57)) with f3 | f3
       · have jl:=of_decide_eq_true f3
         have IT:=fun {al ps} (k:Pk al _ ps)=>(IS<|BB f3<|BB f3<|BB f3<|BV f3 (ot true f3)<|CN 4<|k:Pk _ [] ps)
         rcases Bool.eq_false_or_eq_true (!(decide ((((dO.g i0).toNat:Nat):Int)≤122))) with f4 | f4
         · have jE:=Dp f4
           have IU:=fun {al ps} (k:Pk al _ ps)=>(IT<|BC f4<|BV f4 (lH 3 false true .i64 ((i0:Nat):Int) 0)<|BC f4<|k:Pk _ [] ps)
           rcases Bool.eq_false_or_eq_true (decide (((i0:Nat):Int)=0)) with f5 | f5
           · have vu:=of_decide_eq_true f5
             exact ba.ret false (by simp only[bK,f1,f2,f3,f4,f5,ak,ah]) (pk (d) _ _ hh _ hh (IU<|BB f5<|BB f5<|BV f4 (ot true f5)<|VV (oV true false f4)<|TT<|CC<|ZZ) k!) (Grow.refl aL) k!
           · have vu:=of_decide_eq_false f5
             have SK:=fU 3 false true i0 1 o!
             exact ba.round (by simp only[bK,f1,f2,f3,f4,f5,ak,ah]) (pk (d) _ _ hh _ hh (IU<|BC f5<|BC f5<|BV f4 (pcf true false f5)<|VV (oV false false f4)<|FF<|VV SK<|CC<|ZZ) k!) (Grow.refl aL) _ k! (fun x=>eJ dO cH eH (i0+1) o! x hh aL bB)
         · have jE:=Dq f4
           have u10:=fU 3 false true i0 1 o!
           exact ba.round (by simp only[bK,f1,f2,f3,f4,ak,ah]) (pk (d) _ _ hh _ hh (IT<|BB f4<|BB f4<|BB f4<|BV f4 (uj false f4)<|FF<|VV u10<|CC<|ZZ) k!) (Grow.refl aL) _ k! (fun x=>eJ dO cH eH (i0+1) o! x hh aL bB)
       · have jl:=of_decide_eq_false f3
         have ix9:qO env (some .string) (some (AV.str dO)) (some (Zn i0))=some (AV.int .u8 (((dO.g i0).toNat:Nat):Int)):=jD (j:=i0) o!
         have yh:=fun {al ps} (k:Pk al _ ps)=>(IS<|BC f3<|BC f3<|BV f3 ix9<|BV f3 (lH 5 false true .u8 (((dO.g i0).toNat:Nat):Int) 45)<|VV (a_ (a:=some (AV.bool true)) (b:=some (AV.bool (decide ((((dO.g i0).toNat:Nat):Int)=45)))) f3)<|CN 4<|k:Pk _ [] ps)
         rcases Bool.eq_false_or_eq_true (!(decide ((((dO.g i0).toNat:Nat):Int)≤122))) with f4 | f4
         · have jE:=Dp f4
           have SL:=fun {al ps} (k:Pk al _ ps)=>(yh<|BC f4<|BV f4 (lH 3 false true .i64 ((i0:Nat):Int) 0)<|BC f4<|k:Pk _ [] ps)
           rcases Bool.eq_false_or_eq_true (decide (((i0:Nat):Int)=0)) with f5 | f5
           · have vu:=of_decide_eq_true f5
             exact ba.ret false (by simp only[bK,f1,f2,f3,f4,f5,ak,ah]) (pk (d) _ _ hh _ hh (SL<|BB f5<|BB f5<|BV f4 (ot true f5)<|VV (oV true false f4)<|TT<|CC<|ZZ) k!) (Grow.refl aL) k!
           · have vu:=of_decide_eq_false f5
             have SM:=fun {al ps} (k:Pk al _ ps)=>(SL<|BC f5<|BC f5<|BV f4 (a_ (a:=some (AV.bool true)) (b:=some (AV.bool (!(decide ((((dO.g i0).toNat:Nat):Int)=45))))) f5)<|VV (oV (!(decide ((((dO.g i0).toNat:Nat):Int)=45))) false f4)<|k:Pk _ [] ps)
             rcases Bool.eq_false_or_eq_true (!(decide ((((dO.g i0).toNat:Nat):Int)=45))) with f6 | f6
             · have Su:=Dp f6
               exact ba.ret false (by simp only[bK,f1,f2,f3,f4,f5,f6,ak,ah]) (pk (d) _ _ hh _ hh (SM<|BC f6<|ZZ) k!) (Grow.refl aL) k!
             · have Su:=Dq f6
               have u13:=fU 3 false true i0 1 o!
               exact ba.round (by simp only[bK,f1,f2,f3,f4,f5,f6,ak,ah]) (pk (d) _ _ hh _ hh (SM<|BV f6 u13<|CC<|ZZ) k!) (Grow.refl aL) _ k! (fun x=>eJ dO cH eH (i0+1) o! x hh aL bB)
         · have jE:=Dq f4
           have SK:=fU 3 false true i0 1 o!
           exact ba.round (by simp only[bK,f1,f2,f3,f4,ak,ah]) (pk (d) _ _ hh _ hh (yh<|BB f4<|BB f4<|BB f4<|BV f4 (uj false f4)<|FF<|VV SK<|CC<|ZZ) k!) (Grow.refl aL) _ k! (fun x=>eJ dO cH eH (i0+1) o! x hh aL bB)
     · have ou:=of_decide_eq_false f2
       have ix7:qO env (some .string) (some (AV.str dO)) (some (Zn i0))=some (AV.int .u8 (((dO.g i0).toNat:Nat):Int)):=jD (j:=i0) o!
       have SN:=fun {al ps} (k:Pk al _ ps)=>(Hk<|BB f2<|BB f2<|BB f2<|BV f2 (uj false f2)<|CC<|FF<|CC<|FF<|CC<|FF<|VV ix7<|FF<|VV (lH 5 false true .u8 (((dO.g i0).toNat:Nat):Int) 45)<|CN 5<|k:Pk _ [] ps)
       rcases Bool.eq_false_or_eq_true (!(decide ((((dO.g i0).toNat:Nat):Int)≤122))) with f3 | f3
       · have jl:=Dp f3
         have I1:=fun {al ps} (k:Pk al _ ps)=>(SN<|BC f3<|BV f3 (lH 3 false true .i64 ((i0:Nat):Int) 0)<|BC f3<|k:Pk _ [] ps)
         rcases Bool.eq_false_or_eq_true (decide (((i0:Nat):Int)=0)) with f4 | f4
         · have jE:=of_decide_eq_true f4
           exact ba.ret false (by simp only[bK,f1,f2,f3,f4,ak,ah]) (pk (d) _ _ hh _ hh (I1<|BB f4<|BB f4<|BV f3 (ot true f4)<|VV (oV true false f3)<|TT<|CC<|ZZ) k!) (Grow.refl aL) k!
         · have jE:=of_decide_eq_false f4
           have SO:=fun {al ps} (k:Pk al _ ps)=>(I1<|BC f4<|BC f4<|BV f3 (a_ (a:=some (AV.bool true)) (b:=some (AV.bool (!(decide ((((dO.g i0).toNat:Nat):Int)=45))))) f4)<|VV (oV (!(decide ((((dO.g i0).toNat:Nat):Int)=45))) false f3)<|k:Pk _ [] ps)
           rcases Bool.eq_false_or_eq_true (!(decide ((((dO.g i0).toNat:Nat):Int)=45))) with f5 | f5
           · have vu:=Dp f5
             exact ba.ret false (by simp only[bK,f1,f2,f3,f4,f5,ak,ah]) (pk (d) _ _ hh _ hh (SO<|BC f5<|ZZ) k!) (Grow.refl aL) k!
           · have vu:=Dq f5
             have SK:=fU 3 false true i0 1 o!
             exact ba.round (by simp only[bK,f1,f2,f3,f4,f5,ak,ah]) (pk (d) _ _ hh _ hh (SO<|BV f5 SK<|CC<|ZZ) k!) (Grow.refl aL) _ k! (fun x=>eJ dO cH eH (i0+1) o! x hh aL bB)
       · have jl:=Dq f3
         have u9:=fU 3 false true i0 1 o!
         exact ba.round (by simp only[bK,f1,f2,f3,ak,ah]) (pk (d) _ _ hh _ hh (SN<|BB f3<|BB f3<|BB f3<|BV f3 (uj false f3)<|FF<|VV u9<|CC<|ZZ) k!) (Grow.refl aL) _ k! (fun x=>eJ dO cH eH (i0+1) o! x hh aL bB)
   · have jk:=of_decide_eq_false f1
     have Ve:qO env (some .string) (some (AV.str dO)) (some (Zn i0))=some (AV.int .u8 (((dO.g i0).toNat:Nat):Int)):=jD (j:=i0) o!
     have SP:=fun {al ps} (k:Pk al _ ps)=>(Ep<|BB f1<|BB f1<|BB f1<|BV f1 (uj false f1)<|CN 3<|VV Ve<|VV (qd 5 false true .u8 (((dO.g i0).toNat:Nat):Int) 48)<|CC<|k:Pk _ [] ps)
     rcases Bool.eq_false_or_eq_true (decide (48≤(((dO.g i0).toNat:Nat):Int))) with f2 | f2
     · have ou:=of_decide_eq_true f2
       have K3:qO env (some .string) (some (AV.str dO)) (some (Zn i0))=some (AV.int .u8 (((dO.g i0).toNat:Nat):Int)):=jD (j:=i0) o!
       have adB:=fun {al ps} (k:Pk al _ ps)=>(SP<|BC f2<|BC f2<|BV f2 K3<|BV f2 (qT 5 false true .u8 (((dO.g i0).toNat:Nat):Int) 57)<|VV (oV (decide ((((dO.g i0).toNat:Nat):Int)≤57)) false f2)<|CC<|k:Pk _ [] ps)
       rcases Bool.eq_false_or_eq_true (decide ((((dO.g i0).toNat:Nat):Int)≤57)) with f3 | f3
       · have jl:=of_decide_eq_true f3
         have adC:=fun {al ps} (k:Pk al _ ps)=>(adB<|BB f3<|BB f3<|BB f3<|BV f3 (ot true f3)<|CN 4<|TT<|CC<|TT<|VV (lH 3 false true .i64 ((i0:Nat):Int) 0)<|TT<|CC<|k:Pk _ [] ps)
         rcases Bool.eq_false_or_eq_true (decide (((i0:Nat):Int)=0)) with f4 | f4
         · have jE:=of_decide_eq_true f4
           exact ba.ret false (by simp only[bK,f1,f2,f3,f4,ak,ah]) (pk (d) _ _ hh _ hh (adC<|BB f4<|BB f4<|TT<|VV (ot true f4)<|CC<|TT<|CC<|ZZ) k!) (Grow.refl aL) k!
         · have jE:=of_decide_eq_false f4
           have u9:=fU 3 false true i0 1 o!
           exact ba.round (by simp only[bK,f1,f2,f3,f4,ak,ah]) (pk (d) _ _ hh _ hh (adC<|BC f4<|BC f4<|TT<|VV (pcf true false f4)<|CC<|FF<|VV u9<|CC<|ZZ) k!) (Grow.refl aL) _ k! (fun x=>eJ dO cH eH (i0+1) o! x hh aL bB)
       · have jl:=of_decide_eq_false f3
         have ix8:qO env (some .string) (some (AV.str dO)) (some (Zn i0))=some (AV.int .u8 (((dO.g i0).toNat:Nat):Int)):=jD (j:=i0) o!
         have adD:=fun {al ps} (k:Pk al _ ps)=>(adB<|BC f3<|BC f3<|BV f3 ix8<|BV f3 (lH 5 false true .u8 (((dO.g i0).toNat:Nat):Int) 45)<|VV (a_ (a:=some (AV.bool true)) (b:=some (AV.bool (decide ((((dO.g i0).toNat:Nat):Int)=45)))) f3)<|CN 4<|TT<|CC<|TT<|VV (lH 3 false true .i64 ((i0:Nat):Int) 0)<|TT<|CC<|k:Pk _ [] ps)
         rcases Bool.eq_false_or_eq_true (decide (((i0:Nat):Int)=0)) with f4 | f4
         · have jE:=of_decide_eq_true f4
           exact ba.ret false (by simp only[bK,f1,f2,f3,f4,ak,ah]) (pk (d) _ _ hh _ hh (adD<|BB f4<|BB f4<|TT<|VV (ot true f4)<|CC<|TT<|CC<|ZZ) k!) (Grow.refl aL) k!
         · have jE:=of_decide_eq_false f4
           have adE:=fun {al ps} (k:Pk al _ ps)=>(adD<|BC f4<|BC f4<|TT<|VV (a_ (a:=some (AV.bool true)) (b:=some (AV.bool (!(decide ((((dO.g i0).toNat:Nat):Int)=45))))) f4)<|CC<|k:Pk _ [] ps)
           rcases Bool.eq_false_or_eq_true (!(decide ((((dO.g i0).toNat:Nat):Int)=45))) with f5 | f5
           · have vu:=Dp f5
             exact ba.ret false (by simp only[bK,f1,f2,f3,f4,f5,ak,ah]) (pk (d) _ _ hh _ hh (adE<|BC f5<|ZZ) k!) (Grow.refl aL) k!
           · have vu:=Dq f5
             have SK:=fU 3 false true i0 1 o!
             exact ba.round (by simp only[bK,f1,f2,f3,f4,f5,ak,ah]) (pk (d) _ _ hh _ hh (adE<|BV f5 SK<|CC<|ZZ) k!) (Grow.refl aL) _ k! (fun x=>eJ dO cH eH (i0+1) o! x hh aL bB)
     · have ou:=of_decide_eq_false f2
       have K3:qO env (some .string) (some (AV.str dO)) (some (Zn i0))=some (AV.int .u8 (((dO.g i0).toNat:Nat):Int)):=jD (j:=i0) o!
       have adF:=fun {al ps} (k:Pk al _ ps)=>(SP<|BB f2<|BB f2<|BB f2<|BV f2 (uj false f2)<|CC<|FF<|CC<|FF<|CC<|FF<|VV K3<|FF<|VV (lH 5 false true .u8 (((dO.g i0).toNat:Nat):Int) 45)<|CN 5<|TT<|CC<|TT<|VV (lH 3 false true .i64 ((i0:Nat):Int) 0)<|TT<|CC<|k:Pk _ [] ps)
       rcases Bool.eq_false_or_eq_true (decide (((i0:Nat):Int)=0)) with f3 | f3
       · have jl:=of_decide_eq_true f3
         exact ba.ret false (by simp only[bK,f1,f2,f3,ak,ah]) (pk (d) _ _ hh _ hh (adF<|BB f3<|BB f3<|TT<|VV (ot true f3)<|CC<|TT<|CC<|ZZ) k!) (Grow.refl aL) k!
       · have jl:=of_decide_eq_false f3
         have adG:=fun {al ps} (k:Pk al _ ps)=>(adF<|BC f3<|BC f3<|TT<|VV (a_ (a:=some (AV.bool true)) (b:=some (AV.bool (!(decide ((((dO.g i0).toNat:Nat):Int)=45))))) f3)<|CC<|k:Pk _ [] ps)
         rcases Bool.eq_false_or_eq_true (!(decide ((((dO.g i0).toNat:Nat):Int)=45))) with f4 | f4
         · have jE:=Dp f4
           exact ba.ret false (by simp only[bK,f1,f2,f3,f4,ak,ah]) (pk (d) _ _ hh _ hh (adG<|BC f4<|ZZ) k!) (Grow.refl aL) k!
         · have jE:=Dq f4
           have u9:=fU 3 false true i0 1 o!
           exact ba.round (by simp only[bK,f1,f2,f3,f4,ak,ah]) (pk (d) _ _ hh _ hh (adG<|BV f4 u9<|CC<|ZZ) k!) (Grow.refl aL) _ k! (fun x=>eJ dO cH eH (i0+1) o! x hh aL bB)
def fV (dO:List UInt8):Bool:=(bif (decide (dO=[])) then false else (bif (decide (16<((List.length dO:Nat):Int))) then false else (match (bK dO (List.length dO) 0) with | none=>true | some SQ=>SQ)))
theorem Ch {d:Nat} {h:aw} (dO:List UInt8) (SU:dO.length<2^60) (ch:Tidy h):dh (d+1) (.fn 63) [(AV.str dO)] h= .ret (AV.bool (fV dO)) h:=by
 have adH:=fun {al ps} (k:Pk al _ ps)=>(CN 2<|VV (WM 9 false true dO [])<|CC<|k:Pk _ [] ps)
 rcases Bool.eq_false_or_eq_true (decide (dO=[])) with f0 | f0
 · have ji:=of_decide_eq_true f0
   have e:fV dO=false:=by simp only[fV,f0,ak,ah]
   rw[e]
   exact aC rfl (bh Try.func63 qY rfl (.inr rfl) (pk (d) _ _ h _ h (adH<|BB f0<|BB f0<|BV f0 (ot true f0)<|TT<|CC<|ZZ) k!) k!) (Has.refl _) rfl
 · have ji:=of_decide_eq_false f0
   have sn2:dO.length<2^60:=SU
   have aaJ:=fun {al ps} (k:Pk al _ ps)=>(adH<|BC f0<|BC f0<|BV f0 (b9 3 false true .i64 ((List.length dO:Nat):Int) 16)<|k:Pk _ [] ps)
   rcases Bool.eq_false_or_eq_true (decide (16<((List.length dO:Nat):Int))) with f1 | f1
   · have jk:=of_decide_eq_true f1
     have e:fV dO=false:=by simp only[fV,f0,f1,ak,ah]
     rw[e]
     exact aC rfl (bh Try.func63 qY rfl (.inr rfl) (pk (d) _ _ h _ h (aaJ<|VV (a_ (a:=some (AV.bool true)) (b:=some (AV.bool (decide (16<((List.length dO:Nat):Int))))) f0)<|BC f1<|ZZ) k!) k!) (Has.refl _) rfl
   · have jk:=of_decide_eq_false f1
     have adI:=eJ (d:=d) (h:=h) dO SU (List.length dO) 0 o! (fun k_=>(((AV.str dO)::AV.undef::(AV.bool false)::AV.undef::AV.undef::AV.undef::(AV.str dO)::(AV.bool (decide (dO=[])))::(AV.bool (decide (dO=[])))::(AV.str dO)::(Zn (List.length dO))::(AV.bool (decide (16<((List.length dO:Nat):Int))))::(AV.bool (decide (16<((List.length dO:Nat):Int))))::(AV.str dO)::(Zn (List.length dO))::(Zi 0)::iW 39):List AV).getD k_ AV.undef) h ch (Has.refl _)
     cases lk:bK dO (List.length dO) 0 with
     | none=>
       obtain ⟨yl4,h5,lS,oF⟩:=ba.n lk adI
       have I2:=oF.y
       have SV:h.nx≤h5.nx:=oF.n
       have vE:Has h h5:=oF.a
       have e:fV dO=true:=by simp only[fV,f0,f1,lk,ak,ah]
       rw[e]
       exact aC rfl (bh Try.func63 qY rfl (.inr rfl) (pk (d) _ _ h _ h5 (aaJ<|VV (a_ (a:=some (AV.bool true)) (b:=some (AV.bool (decide (16<((List.length dO:Nat):Int))))) f0)<|BB f1<|CN 3<|LL lS<|CC<|ZZ) k!) k!) vE rfl
     | some SQ=>
       obtain ⟨yl4,h5,lS,oF⟩:=ba.r lk adI
       have I2:=oF.y
       have SV:h.nx≤h5.nx:=oF.n
       have vE:Has h h5:=oF.a
       have e:fV dO=SQ:=by simp only[fV,f0,f1,lk,ak,ah]
       rw[e]
       exact aC rfl (bh Try.func63 qY rfl (.inr rfl) (pk (d) _ _ h _ h5 (aaJ<|VV (a_ (a:=some (AV.bool true)) (b:=some (AV.bool (decide (16<((List.length dO:Nat):Int))))) f0)<|BB f1<|CN 3<|LL lS<|ZZ) k!) k!) vE rfl
def xr:Code:=(Try.f69.body).getD .skip
theorem lq:Try.f69.body=some xr:=by kernel_rfl
def dw (rP:List bT) (g:bT):Int:=(bif (!(fV g.name)) then 5 else (bif (eR rP (fun y=>gR y g)) then 6 else (bif (!(gE g)) then 1 else 0)))
theorem Ci {d:Nat} {h:aw} {sS:AV} (rP:List bT) (g:bT) (nu:aP h sS rP) (Vd:aA.ok h g) (ch:Tidy h):dh (d+6) (.fn 69) [sS,(AV.agg [(AV.str g.name),(Zi g.acc),(Zi g.bH),(Zi g.since)])] h= .ret (Zi (dw rP g)) h:=by
 have Ew:=nu.small
 obtain ⟨h1,ct,ck,jj,aW,cr⟩:=iX ch (aR.cells [(AV.str g.name),(Zi g.acc),(Zi g.bH),(Zi g.since)] 45 false)
 have bG:Has h h1:=cr
 have k2:=Ch (d:=d+4) g.name Vd ck
 rcases Bool.eq_false_or_eq_true (!(fV g.name)) with f0 | f0
 · have e:dw rP g=5:=by simp only[dw,f0,ak,ah]
   rw[e]
   exact aC rfl (bh Try.func69 lq rfl (.inr rfl) (pk (d+5) _ _ h _ h1 (NN ct (fun i=>(Pt i))<|CN 2<|MM (aK 9 0 (AV.str g.name) aW k!)<|EE k2<|CN 2<|BC f0<|ZZ) k!) k!) bG rfl
 · have k4:=xq (d:=d+3) rP (fun y=>gR y g) (nu.has bG) (fun y hy hh yy aa=>AB (d:=d+2) y g h.nx (aA.mono aa ((nu.has bG).Gk y hy)) (aA.mono aa (aA.mono bG Vd)) (aa _ _ aW) yy) ck
   rcases Bool.eq_false_or_eq_true (eR rP (fun y=>gR y g)) with f1 | f1
   · have e:dw rP g=6:=by simp only[dw,f0,f1,ak,ah]
     rw[e]
     exact aC rfl (bh Try.func69 lq rfl (.inr rfl) (pk (d+5) _ _ h _ h1 (NN ct (fun i=>(Pt i))<|CN 2<|MM (aK 9 0 (AV.str g.name) aW k!)<|EE k2<|CN 2<|BB f0<|CN 2<|EE k4<|CC<|BC f1<|ZZ) k!) k!) bG rfl
   · have k6:=I0 (d:=d+2) g (aA.mono bG Vd) ck
     rcases Bool.eq_false_or_eq_true (!(gE g)) with f2 | f2
     · have e:dw rP g=1:=by simp only[dw,f0,f1,f2,ak,ah]
       rw[e]
       exact aC rfl (bh Try.func69 lq rfl (.inr rfl) (pk (d+5) _ _ h _ h1 (NN ct (fun i=>(Pt i))<|CN 2<|MM (aK 9 0 (AV.str g.name) aW k!)<|EE k2<|CN 2<|BB f0<|CN 2<|EE k4<|CC<|BM f1 (aK 45 0 (AV.agg [(AV.str g.name),(Zi g.acc),(Zi g.bH),(Zi g.since)]) aW k!)<|EE k6<|CN 2<|BC f2<|ZZ) k!) k!) bG rfl
     · have e:dw rP g=0:=by simp only[dw,f0,f1,f2,ak,ah]
       rw[e]
       exact aC rfl (bh Try.func69 lq rfl (.inr rfl) (pk (d+5) _ _ h _ h1 (NN ct (fun i=>(Pt i))<|CN 2<|MM (aK 9 0 (AV.str g.name) aW k!)<|EE k2<|CN 2<|BB f0<|CN 2<|EE k4<|CC<|BM f1 (aK 45 0 (AV.agg [(AV.str g.name),(Zi g.acc),(Zi g.bH),(Zi g.since)]) aW k!)<|EE k6<|CN 2<|BC f2<|ZZ) k!) k!) bG rfl
def lI:Code:=(Try.f68.body).getD .skip
theorem kA:Try.f68.body=some lI:=by kernel_rfl
def sU:Code:=(cu lI).getD 0 .skip
def du (P:Nat→Int) (dt:List bT):Nat→Nat→Option (Int)
 | 0,_=>none
 | eH+1,i0=>(bif (!decide ((P i0)=0)) then some (P i0) else du P dt eH (i0+1))
theorem iS {d:Nat} {h:aw} (dA:AV) (g:FuncId) (cap:List AV) (dt:List bT) (P:Nat→Int) (cH:aP h dA dt) (hP:∀j,j<dt.length→∀aV hh,Tidy hh→Has h hh→aP hh aV (dt.take j)→dh d (.fn g) (aV:: .agg (aA.c (dt.g j))::cap) hh= .ret (.int .i64 (P j)) hh):∀(k_ i_:Nat) (_:i_+k_=dt.length) (x:Nat→AV) (hh:aw) (aL:Tidy hh) (bB:Has h hh),ba (dh (d)) sU ⟨(dA::(x 1)::(AV.func g [] cap)::rx x 3 11 (dA::(Zn dt.length)::(Zn i_)::rx x 17 14 [])),hh,[],.no⟩ (.exit 0) hh (fun y=>(dA::(y 1)::(AV.func g [] cap)::rx y 3 11 (dA::(Zn dt.length)::rx y 16 15 []))) (fun r y=>(dA::(y 1)::(AV.func g [] cap)::rx y 3 3 ((Zi r)::rx y 7 7 (dA::(Zn dt.length)::rx y 16 15 [])))) (du P dt k_ i_)
 | 0,i0,mR,x,hh,aL,bB=>by
   have kz:=cH.small
   have q1:(decide (((i0:Nat):Int)<((dt.length:Nat):Int)))=false:=d!
   exact ba.out rfl (pk (d) _ _ hh _ hh (VV (bU 3 false false .i64 ((i0:Nat):Int) ((dt.length:Nat):Int))<|BB q1<|ZZ) k!) (Grow.refl aL) k!
 | eH+1,i0,mR,x,hh,aL,bB=>by
   have kz:=cH.small
   have q1:(decide (((i0:Nat):Int)<((dt.length:Nat):Int)))=true:=d!
   obtain ⟨p3,q4,j8⟩:=(cH.has bB).elem (i:=i0) o!
   have vw:dy env (some (.slice 45)) (some dA) (some (Zn i0))=some (AV.ptr p3 q4):=j8
   have yU:bE env hh 45 (AV.ptr p3 q4)=some (AV.agg [(AV.str (dt.g i0).name),(Zi (dt.g i0).acc),(Zi (dt.g i0).bH),(Zi (dt.g i0).since)]):=(cH.has bB).load o! j8
   obtain ⟨h6,vF,m_,Ln,vG,ka⟩:=iX aL (aR.cells [(AV.str []),(Zi 0),(Zi 0),(Zi 0)] 45 false)
   have oG:Has hh h6:=ka
   obtain ⟨h7,qZ,lr,I4,mM,fB⟩:=vq (t:=45) (n:=4) (i:=hh.nx) (L:=[(AV.str (dt.g i0).name),(Zi (dt.g i0).acc),(Zi (dt.g i0).bH),(Zi (dt.g i0).since)]) m_ vG k! rfl rfl (by simp only[AV.cells,List.all_cons,List.all_nil,Bool.and_true,Bool.and_self,jd,gK,je,jf,fi,mz,mA,mB,mC,mD,jg])
   have lu:Has hh h7:=Has.dr oG fB aL o!
   obtain ⟨r8,aaK,aaL⟩:=(cH.has bB).pre (t:=24) k! (i:=i0) o!
   have sl9:dx env 24 dA (none) (some (Zn i0)) (none)=some r8:=aaK
   have KY:=hP i0 o! r8 h7 lr (bB.trans lu) (aaL.has lu)
   have SX:AV.same 20 (AV.agg [(AV.str (dt.g i0).name),(Zi (dt.g i0).acc),(Zi (dt.g i0).bH),(Zi (dt.g i0).since)]) (AV.agg [(AV.str (dt.g i0).name),(Zi (dt.g i0).acc),(Zi (dt.g i0).bH),(Zi (dt.g i0).since)])=true:=hI 18 (pL (fun n=>pZ n _) (pL (fun n=>aO n _ _) (pL (fun n=>aO n _ _) (pL (fun n=>aO n _ _) OX))))
   rcases Bool.eq_false_or_eq_true (!decide ((P i0)=0)) with f1 | f1
   · have jk:=Dp f1
     exact ba.ret (P i0) (by simp only[du,f1,ak,ah]) (pk (d) _ _ hh _ h7 (VV (bU 3 false false .i64 ((i0:Nat):Int) ((dt.length:Nat):Int))<|BC q1<|VV vw<|MM yU<|NN vF (fun i=>(Pt i))<|CC<|SS qZ<|CN 3<|QQ sl9<|MM (aK 45 0 (AV.agg [(AV.str (dt.g i0).name),(Zi (dt.g i0).acc),(Zi (dt.g i0).bH),(Zi (dt.g i0).since)]) mM k!)<|EE KY<|CC<|HH (aK 45 0 (AV.agg [(AV.str (dt.g i0).name),(Zi (dt.g i0).acc),(Zi (dt.g i0).bH),(Zi (dt.g i0).since)]) mM k!)<|HH SX<|CC<|VV (j6 31 false true .i64 (P i0) 0)<|BB f1<|CN 2<|ZZ) k!) (⟨lr,lu,by omega⟩) k!
   · have jk:=Dq f1
     have u14:=fU 3 false true i0 1 o!
     exact ba.round (by simp only[du,f1,ak,ah]) (pk (d) _ _ hh _ h7 (VV (bU 3 false false .i64 ((i0:Nat):Int) ((dt.length:Nat):Int))<|BC q1<|VV vw<|MM yU<|NN vF (fun i=>(Pt i))<|CC<|SS qZ<|CN 3<|QQ sl9<|MM (aK 45 0 (AV.agg [(AV.str (dt.g i0).name),(Zi (dt.g i0).acc),(Zi (dt.g i0).bH),(Zi (dt.g i0).since)]) mM k!)<|EE KY<|CC<|HH (aK 45 0 (AV.agg [(AV.str (dt.g i0).name),(Zi (dt.g i0).acc),(Zi (dt.g i0).bH),(Zi (dt.g i0).since)]) mM k!)<|HH SX<|CC<|VV (j6 31 false true .i64 (P i0) 0)<|BV f1 u14<|CC<|ZZ) k!) (⟨lr,lu,by omega⟩) _ k! (fun x=>iS dA g cap dt P cH hP eH (i0+1) o! x h7 lr (bB.trans lu))
def cT (dt:List bT) (fF:Int) (P:Nat→Int):Int:=(bif (decide (fF<((dt.length:Nat):Int))) then 3 else (match (du P dt dt.length 0) with | none=>0 | some SQ=>SQ))
theorem vH {d:Nat} {h:aw} {dA:AV} {g:FuncId} {cap:List AV} (dt:List bT) (fF:Int) (P:Nat→Int) (oH:aP h dA dt) (hP:∀j,j<dt.length→∀aV hh,Tidy hh→Has h hh→aP hh aV (dt.take j)→dh d (.fn g) (aV:: .agg (aA.c (dt.g j))::cap) hh= .ret (.int .i64 (P j)) hh) (ch:Tidy h):dh (d+1) (.fn 68) [dA,(Zi fF),(AV.func g [] cap)] h= .ret (Zi (cT dt fF P)) h:=by
 have SY:=oH.small
 have rA:dN (some (.slice 45)) (some dA)=some (Zn dt.length):=oH.len
 rcases Bool.eq_false_or_eq_true (decide (fF<((dt.length:Nat):Int))) with f0 | f0
 · have ji:=of_decide_eq_true f0
   have e:cT dt fF P=3:=by simp only[cT,f0,ak,ah]
   rw[e]
   exact aC rfl (bh Try.func68 kA rfl (.inr rfl) (pk (d) _ _ h _ h (CN 2<|VV rA<|CC<|VV (b9 3 false false .i64 ((dt.length:Nat):Int) fF)<|BC f0<|ZZ) k!) k!) (Has.refl _) rfl
 · have ji:=of_decide_eq_false f0
   have Qd:dN (some (.slice 45)) (some dA)=some (Zn dt.length):=oH.len
   cases lk:du P dt dt.length 0 with
   | none=>
     obtain ⟨yl4,h5,lS,oF⟩:=ba.n lk (iS (d:=d) (h:=h) dA g cap dt P oH hP dt.length 0 o! (fun k_=>((dA::(Zi fF)::(AV.func g [] cap)::AV.undef::AV.undef::AV.undef::(Zi 0)::AV.undef::AV.undef::AV.undef::dA::(Zn dt.length)::(Zi fF)::(AV.bool (decide (fF<((dt.length:Nat):Int))))::dA::(Zn dt.length)::(Zi 0)::iW 14):List AV).getD k_ AV.undef) h ch (Has.refl _))
     have I2:=oF.y
     have SV:h.nx≤h5.nx:=oF.n
     have vE:Has h h5:=oF.a
     have e:cT dt fF P=0:=by simp only[cT,f0,lk,ak,ah]
     rw[e]
     exact aC rfl (bh Try.func68 kA rfl (.inr rfl) (pk (d) _ _ h _ h5 (CN 2<|VV rA<|CC<|VV (b9 3 false false .i64 ((dt.length:Nat):Int) fF)<|BC f0<|VV Qd<|CC<|LL lS<|CC<|ZZ) k!) k!) vE rfl
   | some SQ=>
     obtain ⟨yl4,h5,lS,oF⟩:=ba.r lk (iS (d:=d) (h:=h) dA g cap dt P oH hP dt.length 0 o! (fun k_=>((dA::(Zi fF)::(AV.func g [] cap)::AV.undef::AV.undef::AV.undef::(Zi 0)::AV.undef::AV.undef::AV.undef::dA::(Zn dt.length)::(Zi fF)::(AV.bool (decide (fF<((dt.length:Nat):Int))))::dA::(Zn dt.length)::(Zi 0)::iW 14):List AV).getD k_ AV.undef) h ch (Has.refl _))
     have I2:=oF.y
     have SV:h.nx≤h5.nx:=oF.n
     have vE:Has h h5:=oF.a
     have e:cT dt fF P=SQ:=by simp only[cT,f0,lk,ak,ah]
     rw[e]
     exact aC rfl (bh Try.func68 kA rfl (.inr rfl) (pk (d) _ _ h _ h5 (CN 2<|VV rA<|CC<|VV (b9 3 false false .i64 ((dt.length:Nat):Int) fF)<|BC f0<|VV Qd<|CC<|LL lS<|ZZ) k!) k!) vE rfl
def rL:Code:=(Try.f65.body).getD .skip
theorem vI:Try.f65.body=some rL:=by kernel_rfl
def dG (o:ay) (c:ay):Bool:=(decide (o.name=c.name))
theorem vJ {d:Nat} {h:aw} (o:ay) (c:ay) (cB:Nat) (h_o:aA.ok h o) (YD:aA.ok h c) (g_c:h.get cB=some (.cells (aA.c c) 26 false)) (ch:Tidy h):dh (d+1) (.fn 65) [(AV.agg [(AV.str o.name),(Zi o.ao),(Zi o.ai),(Zi o.aI),(Zi o.aJ),(Zi o.bad),o.aB]),(Pt cB)] h= .ret (AV.bool (dG o c)) h:=by
 have afS:=h_o.2.small
 have afT:=YD.2.small
 obtain ⟨h1,ct,ck,jj,aW,cr⟩:=iX ch (aR.cells [(AV.str o.name),(Zi o.ao),(Zi o.ai),(Zi o.aI),(Zi o.aJ),(Zi o.bad),o.aB] 26 false)
 have bG:Has h h1:=cr
 have e:dG o c=(decide (o.name=c.name)):=by simp only[dG,ak,ah]
 rw[e]
 exact aC rfl (bh Try.func65 vI rfl (.inr rfl) (pk (d) _ _ h _ h1 (NN ct (fun i=>(Pt i))<|CN 2<|MM (aK 9 0 (AV.str o.name) aW k!)<|CC<|MM (aK 9 0 (AV.str c.name) (cr _ _ g_c) k!)<|VV (WM 9 false false o.name c.name)<|CC<|ZZ) k!) k!) bG rfl
def mN:Code:=(Try.f81.body).getD .skip
theorem ph:Try.f81.body=some mN:=by kernel_rfl
def uo:Code:=(cu mN).getD 0 .skip
def dj (s:List ay) (P:ay→Bool):Nat→Nat→Option (Int)
 | 0,_=>none
 | eH+1,i0=>(bif (P (s.g i0)) then some ((i0:Nat):Int) else dj s P eH (i0+1))
theorem jq {d:Nat} {h:aw} (sV:AV) (g:FuncId) (cap:List AV) (s:List ay) (P:ay→Bool) (cH:aP h sV s) (hP:∀y∈s,∀hh,Tidy hh→Has h hh→dh d (.fn g) (.agg (aA.c y)::cap) hh= .ret (.bool (P y)) hh):∀(k_ i_:Nat) (_:i_+k_=s.length) (x:Nat→AV) (hh:aw) (aL:Tidy hh) (bB:Has h hh),ba (dh (d)) uo ⟨(sV::(AV.func g [] cap)::rx x 2 5 ((Zn s.length)::(Zn i_)::rx x 9 10 [])),hh,[],.no⟩ (.exit 0) hh (fun y=>(sV::(AV.func g [] cap)::rx y 2 5 ((Zn s.length)::rx y 8 11 []))) (fun r y=>(sV::(AV.func g [] cap)::(y 2)::(y 3)::(Zi r)::(y 5)::(y 6)::(Zn s.length)::rx y 8 11 [])) (dj s P k_ i_)
 | 0,i0,mR,x,hh,aL,bB=>by
   have kz:=cH.small
   have q1:(decide (((i0:Nat):Int)<((s.length:Nat):Int)))=false:=d!
   exact ba.out rfl (pk (d) _ _ hh _ hh (VV (bU 3 false false .i64 ((i0:Nat):Int) ((s.length:Nat):Int))<|BB q1<|ZZ) k!) (Grow.refl aL) k!
 | eH+1,i0,mR,x,hh,aL,bB=>by
   have kz:=cH.small
   have q1:(decide (((i0:Nat):Int)<((s.length:Nat):Int)))=true:=d!
   obtain ⟨p3,q4,j8⟩:=(cH.has bB).elem (i:=i0) o!
   have vw:dy env (some (.slice 26)) (some sV) (some (Zn i0))=some (AV.ptr p3 q4):=j8
   have yU:bE env hh 26 (AV.ptr p3 q4)=some (AV.agg [(AV.str (s.g i0).name),(Zi (s.g i0).ao),(Zi (s.g i0).ai),(Zi (s.g i0).aI),(Zi (s.g i0).aJ),(Zi (s.g i0).bad),(s.g i0).aB]):=(cH.has bB).load o! j8
   have k6:=hP (s.g i0) (j7 o!) hh aL bB
   rcases Bool.eq_false_or_eq_true (P (s.g i0)) with f1 | f1
   · exact ba.ret ((i0:Nat):Int) (by simp only[dj,f1,ak,ah]) (pk (d) _ _ hh _ hh (VV (bU 3 false false .i64 ((i0:Nat):Int) ((s.length:Nat):Int))<|BB q1<|CN 5<|VV vw<|MM yU<|EE k6<|BB f1<|CN 2<|ZZ) k!) (Grow.refl aL) k!
   · have u8:=fU 3 false true i0 1 o!
     exact ba.round (by simp only[dj,f1,ak,ah]) (pk (d) _ _ hh _ hh (VV (bU 3 false false .i64 ((i0:Nat):Int) ((s.length:Nat):Int))<|BB q1<|CN 5<|VV vw<|MM yU<|EE k6<|BV f1 u8<|CC<|ZZ) k!) (Grow.refl aL) _ k! (fun x=>jq sV g cap s P cH hP eH (i0+1) o! x hh aL bB)
def eg (s:List ay) (P:ay→Bool):Int:=(match (dj s P s.length 0) with | none=>(-1) | some O8=>O8)
theorem xu {d:Nat} {h:aw} {sV:AV} {g:FuncId} {cap:List AV} (s:List ay) (P:ay→Bool) (AT:aP h sV s) (hP:∀y∈s,∀hh,Tidy hh→Has h hh→dh d (.fn g) (.agg (aA.c y)::cap) hh= .ret (.bool (P y)) hh) (ch:Tidy h):dh (d+1) (.fn 81) [sV,(AV.func g [] cap)] h= .ret (Zi (eg s P)) h:=by
 have Nr:=AT.small
 have rA:dN (some (.slice 26)) (some sV)=some (Zn s.length):=AT.len
 cases lj:dj s P s.length 0 with
 | none=>
   obtain ⟨YE,h3,jn,oD⟩:=ba.n lj (jq (d:=d) (h:=h) sV g cap s P AT hP s.length 0 o! (fun k_=>((sV::(AV.func g [] cap)::AV.undef::AV.undef::(Zi 0)::AV.undef::sV::(Zn s.length)::(Zi 0)::iW 10):List AV).getD k_ AV.undef) h ch (Has.refl _))
   have ia:=oD.y
   have vD:h.nx≤h3.nx:=oD.n
   have jo:Has h h3:=oD.a
   have e:eg s P=(-1):=by simp only[eg,lj,ak,ah]
   rw[e]
   exact aC rfl (bh Try.func81 ph rfl (.inr rfl) (pk (d) _ _ h _ h3 (CN 2<|VV rA<|CC<|LL jn<|CC<|ZZ) k!) k!) jo rfl
 | some O8=>
   obtain ⟨YE,h3,jn,oD⟩:=ba.r lj (jq (d:=d) (h:=h) sV g cap s P AT hP s.length 0 o! (fun k_=>((sV::(AV.func g [] cap)::AV.undef::AV.undef::(Zi 0)::AV.undef::sV::(Zn s.length)::(Zi 0)::iW 10):List AV).getD k_ AV.undef) h ch (Has.refl _))
   have ia:=oD.y
   have vD:h.nx≤h3.nx:=oD.n
   have jo:Has h h3:=oD.a
   have e:eg s P=O8:=by simp only[eg,lj,ak,ah]
   rw[e]
   exact aC rfl (bh Try.func81 ph rfl (.inr rfl) (pk (d) _ _ h _ h3 (CN 2<|VV rA<|CC<|LL jn<|ZZ) k!) k!) jo rfl
def qh:Code:=(Try.f64.body).getD .skip
theorem sW:Try.f64.body=some qh:=by kernel_rfl
def cI (s:List ay) (P:ay→Bool):Bool:=(decide (0≤(eg s P)))
theorem sX {d:Nat} {h:aw} {sV:AV} {g:FuncId} {cap:List AV} (s:List ay) (P:ay→Bool) (AT:aP h sV s) (hP:∀y∈s,∀hh,Tidy hh→Has h hh→dh d (.fn g) (.agg (aA.c y)::cap) hh= .ret (.bool (P y)) hh) (ch:Tidy h):dh (d+2) (.fn 64) [sV,(AV.func g [] cap)] h= .ret (AV.bool (cI s P)) h:=by
 have Nr:=AT.small
 have k1:=xu (d:=d) s P AT hP ch
 have e:cI s P=(decide (0≤(eg s P))):=by simp only[cI,ak,ah]
 rw[e]
 exact aC rfl (bh Try.func64 sW rfl (.inr rfl) (pk (d+1) _ _ h _ h (CN 3<|EE k1<|VV (qd 3 false true .i64 (eg s P) 0)<|CC<|ZZ) k!) k!) (Has.refl _) rfl
def Cj:Code:=(Try.f66.body).getD .skip
theorem zY:Try.f66.body=some Cj:=by kernel_rfl
def gF (x_:Int):Bool:=(bif (decide ((-1000000000)≤x_)) then (decide (x_≤1000000000)) else false)
theorem sY {d:Nat} {h:aw} (x_:Int) (ch:Tidy h):dh (d+1) (.fn 66) [(Zi x_)] h= .ret (AV.bool (gF x_)) h:=by
 rcases Bool.eq_false_or_eq_true (decide ((-1000000000)≤x_)) with f0 | f0
 · have ji:=of_decide_eq_true f0
   have e:gF x_=(decide (x_≤1000000000)):=by simp only[gF,f0,ak,ah]
   rw[e]
   exact aC rfl (bh Try.func66 zY rfl (.inr rfl) (pk (d) _ _ h _ h (CN 2<|VV (qd 3 false true .i64 x_ (-1000000000))<|CC<|BC f0<|BV f0 (qT 3 false true .i64 x_ 1000000000)<|VV (oV (decide (x_≤1000000000)) false f0)<|CC<|ZZ) k!) k!) (Has.refl _) rfl
 · have ji:=of_decide_eq_false f0
   have e:gF x_=false:=by simp only[gF,f0,ak,ah]
   rw[e]
   exact aC rfl (bh Try.func66 zY rfl (.inr rfl) (pk (d) _ _ h _ h (CN 2<|VV (qd 3 false true .i64 x_ (-1000000000))<|CC<|BB f0<|BV f0 (uj false f0)<|CC<|ZZ) k!) k!) (Has.refl _) rfl
end
end Go.Proofs.aG
