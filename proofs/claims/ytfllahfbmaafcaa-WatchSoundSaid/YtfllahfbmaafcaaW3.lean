import Derived.Test.YtfllahfbmaafcaaW2
import Derived.Test.YtfllahfbmaafcaaW1
import Derived.Test.YtfllahfbmaafcaaW0
namespace Go.Proofs.aH
open Go.Proofs Ab
noncomputable section
set_option maxRecDepth 100000
set_option maxHeartbeats 4000000
set_option linter.unusedVariables false
set_option linter.unusedSimpArgs false
theorem LY {n:Int} (h:ff n=true):0≤n∧n≤100000:=by
 rw[ff] at h
 by_cases a:0≤n
 · rw[decide_eq_true a] at h;exact ⟨a,of_decide_eq_true h⟩
 · rw[decide_eq_false a] at h;cases h
theorem rvalue {n:Int} (h:cK n=true): -1000000000≤n∧n≤1000000000:=by
 rw[cK] at h
 by_cases a: -1000000000≤n
 · rw[decide_eq_true a] at h;exact ⟨a,of_decide_eq_true h⟩
 · rw[decide_eq_false a] at h;cases h
theorem Th {b:Bool} (h:(!b)=false):b=true:=by cases b;cases h;rfl
theorem Ti (q:ay):∀(k i:Nat),bO q k i=none→∀j,i≤j→j<i+k→bD (q.af.g j)=0
 | 0,i,_,j,a,b=>by omega
 | k+1,i,h,j,a,b=>by
   rw[bO] at h
   cases h1:dI (q.af.g i).name with
   | false=>rw[h1] at h;cases h
   | true=>
     rw[h1] at h
     simp only[Bool.not_true,ai] at h
     cases h2:bW i q i 0 with
     | some r=>rw[h2] at h;cases h
     | none=>
       rw[h2] at h
       by_cases e:bD (q.af.g i)=0
       · rw[decide_eq_true e] at h
         by_cases ej:j=i
         · rw[ej];exact e
         · exact Ti q k (i+1) h j o! o!
       · rw[decide_eq_false e] at h;cases h
theorem Tj (q:ay):∀(k i:Nat),(∀j,j<i+k→True)→bO q k i≠some 0
 | 0,i,_,h=>by cases h
 | k+1,i,_,h=>by
   rw[bO] at h
   cases h1:dI (q.af.g i).name with
   | false=>rw[h1] at h;cases h
   | true=>
     rw[h1] at h
     simp only[Bool.not_true,ai] at h
     have l1:∀(k' i':Nat),bW i q k' i'≠some 0:=by
      intro k'
      induction k' with
      | zero=>intro i' h;cases h
      | succ k' ih=>
        intro i' h
        rw[bW] at h
        cases hq:decide ((q.af.g i').name=(q.af.g i).name) with
        | true=>rw[hq] at h;cases h
        | false=>rw[hq] at h;exact ih _ h
     cases h2:bW i q i 0 with
     | some r=>rw[h2] at h;exact l1 _ _ (h2.trans h)
     | none=>
       rw[h2] at h
       by_cases e:bD (q.af.g i)=0
       · rw[decide_eq_true e] at h;exact Tj q k (i+1) (fun _ _=>trivial) h
       · rw[decide_eq_false e] at h;exact e (Option.some.inj h)
structure RF (q:ay) (l:List az):Prop where
 start: -1000000000≤q.aj∧q.aj≤q.ah∧q.ah≤1000000000
 xz:0≤q.aI∧q.aI≤10000∧0≤q.aK∧q.aK≤10000
 bad:0≤q.bad∧q.bad≤(q.af.length:Int)∧q.af.length≤8
 aD:∀j,j<q.af.length→0≤(q.af.g j).acc∧(q.af.g j).acc≤1000000000∧0≤(q.af.g j).bP∧(q.af.g j).bP≤1000000000∧0≤(q.af.g j).since∧(q.af.g j).since≤100000
 tb:l.length≤64
 read:∀i,i<l.length→(0≤(l.g i).aD∧(l.g i).aD<(q.af.length:Int))∧(0≤(l.g i).time∧(l.g i).time≤100000)∧-1000000000≤(l.g i).value∧(l.g i).value≤1000000000
theorem EW {q:ay} {l:List az} (h:cz q l=0):RF q l:=by
 rw[cz] at h
 by_cases e:aE q=0
 · rw[decide_eq_true e,ao] at h
   by_cases e2:(64:Int)<((l.length:Nat):Int)
   · rw[decide_eq_true e2,ao] at h
     exact absurd (vM q l _ _ _ h).1 (by decide)
   · rw[decide_eq_false e2,ai] at h
     have hr:=(vM q l _ _ _ h).2
     rw[aE] at e
     obtain ⟨_,e⟩:=hT (by decide) e
     obtain ⟨a1,e⟩:=hT (by decide) e
     obtain ⟨a2,e⟩:=hT (by decide) e
     obtain ⟨a3,e⟩:=hT (by decide) e
     obtain ⟨a4,e⟩:=hT (by decide) e
     obtain ⟨a5,e⟩:=hT (by decide) e
     obtain ⟨a6,e⟩:=hT (by decide) e
     obtain ⟨a7,e⟩:=hT (by decide) e
     obtain ⟨a8,e⟩:=hT (by decide) e
     obtain ⟨a9,e⟩:=hT (by decide) e
     obtain ⟨a10,e⟩:=hT (by decide) e
     have a1:=rvalue (Th a1);have a2:=rvalue (Th a2)
     have a3:=of_decide_eq_false a3;have a4:=of_decide_eq_false a4;have a5:=of_decide_eq_false a5;have a6:=of_decide_eq_false a6;have a7:=of_decide_eq_false a7;have a8:=of_decide_eq_false a8;have a9:=of_decide_eq_false a9;have a10:=of_decide_eq_false a10
     have hn:bO q q.af.length 0=none:=by
      cases hc:bO q q.af.length 0 with
      | none=>rfl
      | some r=>rw[hc] at e;exact absurd (hc.trans (congrArg some e)) (Tj q _ _ fun _ _=>trivial)
     refine ⟨⟨by omega,by omega,by omega⟩,⟨by omega,by omega,by omega,by omega⟩,⟨by omega,by omega,by omega⟩,fun j hj=>?_,by omega,fun i hi=>?_⟩
     · have g:=Ti q _ _ hn j (Nat.zero_le _) o!
       rw[bD] at g
       obtain ⟨b1,g⟩:=hT (by decide) g
       obtain ⟨b2,g⟩:=hT (by decide) g
       obtain ⟨b3,g⟩:=hT (by decide) g
       obtain ⟨b4,g⟩:=hT (by decide) g
       obtain ⟨b5,g⟩:=hT (by decide) g
       have b1:=of_decide_eq_false b1;have b2:=of_decide_eq_false b2;have b3:=of_decide_eq_false b3;have b4:=of_decide_eq_false b4;have b5:=LY (Th b5)
       omega
     · have k:=hr i (Nat.zero_le _) o!
       rw[dV] at k
       obtain ⟨k1,k⟩:=hT (by decide) k
       obtain ⟨k2,k⟩:=hT (by decide) k
       obtain ⟨k3,k⟩:=hT (by decide) k
       obtain ⟨k4,k⟩:=hT (by decide) k
       have k1:=of_decide_eq_false k1;have k2:=of_decide_eq_false k2;have k3:=LY (Th k3);have k4:=rvalue (Th k4)
       omega
 · rw[decide_eq_false e,ai] at h
   exact absurd (vM q l _ _ _ h).1 e
theorem Tk {x y m:Int} (h1:x≤m) (h2:y≤m):imax x y≤m∧y≤imax x y:=by unfold imax;split<;>omega
theorem qm {g:bV} {t:Int} (h:0≤g.acc∧g.acc≤1000000000∧0≤g.bP∧g.bP≤1000000000∧0≤g.since∧g.since≤100000) (t0:0≤t) (t1:t≤100000):0≤dy g t∧dy g t≤102000000000:=by
 obtain ⟨a1,a2,a3,a4,a5,a6⟩:=h
 rw[dy,wrap_i64 (n:=t - g.since) o! o!]
 obtain ⟨m1,m2⟩:=Tk (x:=t - g.since) (y:=0) (m:=100000) o! o!
 generalize imax (t - g.since) 0=m at m1 m2 ⊢
 rw[wrap_i64 (n:=m+999) o! o!,Int.tdiv_eq_ediv_of_nonneg o!]
 rw[wrap_i64 (n:=(m+999) /1000) o! o!]
 have d1:0≤(m+999) /1000:=by omega
 have d2:(m+999) /1000≤100:=by omega
 generalize (m+999) /1000=d at d1 d2 ⊢
 have p1:0≤g.bP*d:=Int.mul_nonneg a3 d1
 have p2:g.bP*d≤100000000000:=by
  calc g.bP*d≤1000000000*d:=Int.mul_le_mul_of_nonneg_right a4 d1
   _≤100000000000:=by omega
 rw[wrap_i64 (n:=g.bP*d) o! o!,wrap_i64 (n:=g.acc+g.bP*d) o! o!]
 omega
def H4 (q:ay) (r:az):di:=⟨r.time,r.value - dy (q.af.g r.aD.toNat) r.time,r.value+dy (q.af.g r.aD.toNat) r.time⟩
def QT (q:ay):di:=⟨0,q.aj,q.ah⟩
theorem CE {q:ay} {l:List az} (f:RF q l) (s:Int):∀(k i:Nat) (v:List di),i+k=l.length→∀c,c∈g_ l q s k i v↔c∈v∨∃j,i≤j∧j<l.length∧Cw s (l.g j).aD=false∧c=H4 q (l.g j)
 | 0,i,v,h,c=>by
   rw[g_]
   exact ⟨.inl,fun h'=>h'.elim id fun ⟨j,a,b,_⟩=>by omega⟩
 | k+1,i,v,h,c=>by
   have hi:i<l.length:=by omega
   obtain ⟨⟨g1,g2⟩,⟨g3,g4⟩,g5,g6⟩:=f.read i hi
   obtain ⟨w1,w2⟩:=qm (f.aD (l.g i).aD.toNat o!) g3 g4
   rw[g_]
   cases e:Cw s (l.g i).aD with
   | true=>
     show c∈g_ l q s k (i+1) v↔_
     rw[CE f s k (i+1) v o! c]
     constructor
     · rintro (w | ⟨j,a,b,w⟩)
       · exact .inl w
       · exact .inr ⟨j,by omega,b,w⟩
     · rintro (w | ⟨j,a,b,w⟩)
       · exact .inl w
       · refine .inr ⟨j,?_,b,w⟩
         rcases Nat.lt_or_eq_of_le a with q1 | q1
         · omega
         · subst q1;rw[e] at w;cases w.1
   | false=>
     show c∈g_ l q s k (i+1) (v++[_])↔_
     rw[wrap_i64 (n:=(l.g i).value - dy (q.af.g (l.g i).aD.toNat) (l.g i).time) o! o!,wrap_i64 (n:=(l.g i).value+dy (q.af.g (l.g i).aD.toNat) (l.g i).time) o! o!,CE f s k (i+1) _ o! c,List.mem_append,List.mem_singleton]
     constructor
     · rintro ((w | w) | ⟨j,a,b,w⟩)
       · exact .inl w
       · exact .inr ⟨i,Nat.le_refl _,hi,e,w⟩
       · exact .inr ⟨j,by omega,b,w⟩
     · rintro (w | ⟨j,a,b,w⟩)
       · exact .inl (.inl w)
       · rcases Nat.lt_or_eq_of_le a with q1 | q1
         · exact .inr ⟨j,by omega,b,w⟩
         · subst q1;exact .inl (.inr w.2)
theorem EX {q:ay} {l:List az} (f:RF q l) (s:Int) (c:di):c∈iK q l s↔c=QT q∨∃j,j<l.length∧Cw s (l.g j).aD=false∧c=H4 q (l.g j):=by
 rw[iK,CE f s _ 0 _ o! c,List.mem_singleton]
 exact or_congr Iff.rfl ⟨fun ⟨j,_,b⟩=>⟨j,b⟩,fun ⟨j,b⟩=>⟨j,Nat.zero_le _,b⟩⟩
theorem LZ {q:ay} {l:List az} (f:RF q l) {j:Nat} (hj:j<l.length):KB (H4 q (l.g j)):=by
 obtain ⟨⟨g1,g2⟩,⟨g3,g4⟩,g5,g6⟩:=f.read j hj
 obtain ⟨w1,w2⟩:=qm (f.aD (l.g j).aD.toNat o!) g3 g4
 exact ⟨⟨g3,g4⟩,by simp only[H4];omega,by simp only[H4];omega,by simp only[H4];omega,by simp only[H4];omega⟩
theorem xA {q:ay} {l:List az} (f:RF q l) (s:Int):∀c∈iK q l s,KB c:=fun c hc=>by
 rcases (EX f s c).1 hc with rfl | ⟨j,hj,_,rfl⟩
 · have:=f.start;exact ⟨⟨by simp [QT],by simp [QT]⟩,by simp only[QT];omega,by simp only[QT];omega,by simp only[QT];omega,by simp only[QT];omega⟩
 · exact LZ f hj
def sz (s:Nat):Nat:=((List.range 8).filter fun j=>s.testBit j).length
theorem XU {s:Nat} (h:s<256):LS ((s:Nat):Int)=(sz s:Int):=by
 have:∀s,s<256→LS ((s:Nat):Int)=(sz s:Int):=by decide+kernel
 exact this s h
theorem Tl {s:Nat} {g:Int} (h:s<256) (g0:0≤g) (g1:g<8):Cw ((s:Nat):Int) g=s.testBit g.toNat:=by
 have:∀s,s<256→∀g,g<8→Cw ((s:Nat):Int) ((g:Nat):Int)=s.testBit g:=by decide+kernel
 obtain ⟨k,rfl⟩:∃k:Nat,g=k:=⟨g.toNat,by omega⟩
 exact this s h k o!
theorem abe {n:Nat} (h:n≤8):(qk .i64 1 ((n:Nat):Int)).toNat=2^n:=by
 have:∀n,n<9→(qk .i64 1 ((n:Nat):Int)).toNat=2^n:=by decide+kernel
 exact this n o!
theorem xB {n:Nat} (h:n≤8):2^n≤256:=by
 have:=Nat.pow_le_pow_right (n:=2) (by decide) h
 exact this
def ZB (n s:Nat):Bool:=(List.range n).any fun j=>decide (s+2^j<2^n)&&(sz (s+2^j)==sz s+1)&&(List.range 8).all fun i=> !s.testBit i||(s+2^j).testBit i
theorem Tm:((List.range 9).all fun n=>(List.range (2^n)).all fun s=> !decide (sz s<n)||ZB n s)=true:=by decide+kernel
theorem XV {n s:Nat} (hn:n≤8) (hs:s<2^n) (h:sz s<n):∃s',s'<2^n∧sz s'=sz s+1∧∀i,i<8→s.testBit i=true→s'.testBit i=true:=by
 have a:=List.all_eq_true.1 (List.all_eq_true.1 Tm n (List.mem_range.2 o!)) s (List.mem_range.2 hs)
 rw[decide_eq_true h] at a
 obtain ⟨j,_,hj⟩:=List.any_eq_true.1 (show ZB n s=true from a)
 rw[Bool.and_eq_true,Bool.and_eq_true] at hj
 refine ⟨_,of_decide_eq_true hj.1.1,eq_of_beq hj.1.2,fun i hi hb=>?_⟩
 have c:=List.all_eq_true.1 hj.2 i (List.mem_range.2 hi)
 rw[hb] at c;exact c
theorem Tn {n b:Nat} (hn:n≤8) (hb:b≤n):∀(k s:Nat),s<2^n→sz s+k=b→∃s',s'<2^n∧sz s'=b∧∀i,i<8→s.testBit i=true→s'.testBit i=true
 | 0,s,hs,h=>⟨s,hs,h,fun _ _ h=>h⟩
 | k+1,s,hs,h=>by
   obtain ⟨s1,a1,a2,a3⟩:=XV hn hs o!
   obtain ⟨s2,b1,b2,b3⟩:=Tn hn hb k s1 a1 o!
   exact ⟨s2,b1,b2,fun i hi h=>b3 i hi (a3 i hi h)⟩
def KS (q:ay) (l:List az) (s:Nat) (c:di):Prop:=c=QT q∨∃j,j<l.length∧s.testBit (l.g j).aD.toNat=false∧c=H4 q (l.g j)
theorem ko {q:ay} {l:List az} (f:RF q l) {s:Nat} (hs:s<256) (c:di):c∈iK q l ((s:Nat):Int)↔KS q l s c:=by
 rw[EX f]
 refine or_congr Iff.rfl ⟨fun ⟨j,a,b,c⟩=>⟨j,a,?_,c⟩,fun ⟨j,a,b,c⟩=>⟨j,a,?_,c⟩⟩
 · have:=(f.read j a).1;have:=f.bad;rw[←Tl hs o! o!];exact b
 · have:=(f.read j a).1;have:=f.bad;rw[Tl hs o! o!];exact b
def A0 (q:ay) (l:List az) (s:Nat):Prop:=∀i,KS q l s i→∀k,KS q l s k→max (gM q.aK q.aI i k.time).aX k.ax≤min (gM q.aK q.aI i k.time).aG k.ar
def Wc (q:ay) (l:List az) (s:Nat) (t x:Int):Prop:=∀c,KS q l s c→(gM q.aK q.aI c t).aX≤x∧x≤(gM q.aK q.aI c t).aG
theorem G9 {q:ay} {l:List az} (f:RF q l) {s s':Nat} (h:∀i,i<8→s.testBit i=true→s'.testBit i=true) {c:di} (k:KS q l s' c):KS q l s c:=by
 rcases k with k | ⟨j,a,b,c⟩
 · exact .inl k
 · refine .inr ⟨j,a,?_,c⟩
   have:=(f.read j a).1;have:=f.bad
   cases e:s.testBit (l.g j).aD.toNat with
   | false=>rfl
   | true=>rw[h _ o! e] at b;cases b
theorem To {q:ay} {l:List az} (f:RF q l) (t x:Int):(∃s,s<2^q.af.length∧(sz s:Int)≤q.bad∧A0 q l s∧Wc q l s t x)↔∃s,s<2^q.af.length∧(sz s:Int)=q.bad∧A0 q l s∧Wc q l s t x:=by
 obtain ⟨b0,b1,b2⟩:=f.bad
 constructor
 · rintro ⟨s,h1,h2,h3,h4⟩
   obtain ⟨s',a1,a2,a3⟩:=Tn b2 (b:=q.bad.toNat) o! (q.bad.toNat - sz s) s h1 o!
   exact ⟨s',a1,by omega,fun i hi k hk=>h3 i (G9 f a3 hi) k (G9 f a3 hk),fun c hc=>h4 c (G9 f a3 hc)⟩
 · rintro ⟨s,h1,h2,h3,h4⟩
   exact ⟨s,h1,by omega,h3,h4⟩
theorem NY {q:ay} {l:List az} (f:RF q l) {s:Nat} (hs:s<256):xw q (iK q l ((s:Nat):Int))=true↔A0 q l s:=by
 obtain ⟨r0,r1,f0,f1⟩:=f.xz
 rw[JB f0 f1 r0 r1 (xA f _)]
 exact ⟨fun h i hi k hk=>h i ((ko f hs i).2 hi) k ((ko f hs k).2 hk),fun h i hi k hk=>h i ((ko f hs i).1 hi) k ((ko f hs k).1 hk)⟩
theorem G_ {q:ay} {l:List az} (f:RF q l) {t:Int} (t0:0≤t) (t1:t≤100000):∀(k i:Nat) (v:List Span),i+k=2^q.af.length→Canon v→(∀s∈v,Bd s)→
 Canon (eG q l t k i v)∧∀x,we (eG q l t k i v) x↔we v x∨∃s,i≤s∧s<2^q.af.length∧(sz s:Int)≤q.bad∧A0 q l s∧Wc q l s t x
 | 0,i,v,h,c,b=>by
   rw[eG]
   exact ⟨c,fun x=>⟨.inl,fun w=>w.elim id fun ⟨s,a,b,_⟩=>by omega⟩⟩
 | k+1,i,v,h,c,b=>by
   obtain ⟨b0,b1,b2⟩:=f.bad
   obtain ⟨r0,r1,f0,f1⟩:=f.xz
   have hi:i<256:=by have:=xB b2;omega
   have skip:(¬((sz i:Int)≤q.bad∧A0 q l i))→Canon (eG q l t k (i+1) v)∧∀x,we (eG q l t k (i+1) v) x↔we v x∨∃s,i≤s∧s<2^q.af.length∧(sz s:Int)≤q.bad∧A0 q l s∧Wc q l s t x:=fun hn=>by
    obtain ⟨x1,x2⟩:=G_ f t0 t1 k (i+1) v o! c b
    refine ⟨x1,fun x=>(x2 x).trans (or_congr Iff.rfl ⟨fun ⟨s,a,w⟩=>⟨s,by omega,w⟩,fun ⟨s,a,w,w2,w3,w4⟩=>⟨s,?_,w,w2,w3,w4⟩⟩)⟩
    rcases Nat.lt_or_eq_of_le a with e | e
    · omega
    · subst e;exact absurd ⟨w2,w3⟩ hn
   rw[eG,XU hi]
   by_cases e1:q.bad<(sz i:Int)
   · rw[decide_eq_true e1];exact skip fun w=>by omega
   · rw[decide_eq_false e1,ai]
     cases e2:xw q (iK q l ((i:Nat):Int)) with
     | false=>exact skip fun w=>by rw[(NY f hi).2 w.2] at e2;cases e2
     | true=>
       have ex:=(NY f hi).1 e2
       obtain ⟨m1,m2,m3⟩:=at_mem f0 f1 r0 r1 (xA f ((i:Nat):Int)) t0 t1 (EV q l ((i:Nat):Int)) ((JB f0 f1 r0 r1 (xA f _)).1 e2)
       rw[ao,PE c b m1 m2]
       obtain ⟨j1,j2,_⟩:=Cz (l:=v) c m1
       obtain ⟨x1,x2⟩:=G_ f t0 t1 k (i+1) _ o! j1 (LX b m2)
       refine ⟨x1,fun x=>?_⟩
       rw[x2,j2,m3]
       have vi:(∀c∈iK q l ((i:Nat):Int),(gM q.aK q.aI c t).aX≤x∧x≤(gM q.aK q.aI c t).aG)↔Wc q l i t x:=⟨fun h c hc=>h c ((ko f hi c).2 hc),fun h c hc=>h c ((ko f hi c).1 hc)⟩
       rw[vi]
       constructor
       · rintro ((w | w) | ⟨s,a,w⟩)
         · exact .inl w
         · exact .inr ⟨i,Nat.le_refl _,by omega,by omega,ex,w⟩
         · exact .inr ⟨s,by omega,w⟩
       · rintro (w | ⟨s,a,w1,w2,w3,w4⟩)
         · exact .inl (.inl w)
         · rcases Nat.lt_or_eq_of_le a with e | e
           · exact .inr ⟨s,by omega,w1,w2,w3,w4⟩
           · subst e;exact .inl (.inr w4)
theorem Aj {q:ay} {l:List az} (f:RF q l) {t:Int} (t0:0≤t) (t1:t≤100000):Canon (rl q l t)∧∀x,we (rl q l t) x↔∃s,s<2^q.af.length∧(sz s:Int)=q.bad∧A0 q l s∧Wc q l s t x:=by
 rw[rl,abe f.bad.2.2]
 obtain ⟨x1,x2⟩:=G_ f t0 t1 (2^q.af.length) 0 [] o! .nil (fun s hs=>by cases hs)
 refine ⟨x1,fun x=>?_⟩
 rw[x2,←To f]
 exact ⟨fun w=>w.elim (fun w=>absurd w Bk) fun ⟨s,_,w⟩=>⟨s,w⟩,fun ⟨s,w⟩=> .inr ⟨s,Nat.zero_le _,w⟩⟩
def CG:Code:=(Try.f43.body).getD .skip
theorem JC:Try.f43.body=some CG:=by kernel_rfl
def ij (g:bV) (t:Int):Int:=(IntKind.i64.wrap (g.acc+(IntKind.i64.wrap (g.bP*(IntKind.i64.wrap (Int.tdiv (IntKind.i64.wrap ((IntKind.i64.wrap ((imax (IntKind.i64.wrap (t - g.since)) 0)+1000)) - 1)) 1000))))))
theorem JD {d:Nat} {h:au} (g:bV) (t:Int) (Wa:aA.ok h g) (bY:Tidy h):cW (d+1) (.fn 43) [(AV.agg [(AV.str g.name),(Zi g.acc),(Zi g.bP),(Zi g.since)]),(Zi t)] h= .ret (Zi (ij g t)) h:=by
 obtain ⟨h1,cA,cq,jf,aY,ct⟩:=iQ bY (a_.cells [(AV.str g.name),(Zi g.acc),(Zi g.bP),(Zi g.since)] 45 false)
 have bI:Has h h1:=ct
 have e:ij g t=(IntKind.i64.wrap (g.acc+(IntKind.i64.wrap (g.bP*(IntKind.i64.wrap (Int.tdiv (IntKind.i64.wrap ((IntKind.i64.wrap ((imax (IntKind.i64.wrap (t - g.since)) 0)+1000)) - 1)) 1000)))))):=by simp only[ij,ao,ai]
 rw[e]
 exact aC rfl (bx Try.func43 JC rfl (.inr rfl) (pk (d) _ _ h _ h1 (NN cA (fun i=>(Pt i))<|CN 3<|MM (aM 3 3 (Zi g.since) aY k!)<|CN 7<|MM (aM 3 1 (Zi g.acc) aY k!)<|CC<|MM (aM 3 2 (Zi g.bP) aY k!)<|CN 4<|ZZ) k!) k!) bI rfl
def vO:Code:=(Try.f83.body).getD .skip
theorem A1:Try.f83.body=some vO:=by kernel_rfl
def hB (o:bV) (c:bV):Bool:=(decide (o.name=c.name))
theorem A2 {d:Nat} {h:au} (o:bV) (c:bV) (cB:Nat) (h_o:aA.ok h o) (ZC:aA.ok h c) (g_c:h.get cB=some (.cells (aA.c c) 45 false)) (bY:Tidy h):cW (d+1) (.fn 83) [(AV.agg [(AV.str o.name),(Zi o.acc),(Zi o.bP),(Zi o.since)]),(Pt cB)] h= .ret (AV.bool (hB o c)) h:=by
 obtain ⟨h1,cA,cq,jf,aY,ct⟩:=iQ bY (a_.cells [(AV.str o.name),(Zi o.acc),(Zi o.bP),(Zi o.since)] 45 false)
 have bI:Has h h1:=ct
 have e:hB o c=(decide (o.name=c.name)):=by simp only[hB,ao,ai]
 rw[e]
 exact aC rfl (bx Try.func83 A1 rfl (.inr rfl) (pk (d) _ _ h _ h1 (NN cA (fun i=>(Pt i))<|CN 2<|MM (aM 9 0 (AV.str o.name) aY k!)<|CC<|MM (aM 9 0 (AV.str c.name) (ct _ _ g_c) k!)<|VV (XL 9 false false o.name c.name)<|CC<|ZZ) k!) k!) bI rfl
def pr:Code:=(Try.f91.body).getD .skip
theorem tc:Try.f91.body=some pr:=by kernel_rfl
def zg:Code:=(cC pr).getD 0 .skip
def ef (s:List bV) (P:bV→Bool):Nat→Nat→Option (Int)
 | 0,_=>none
 | d_+1,i0=>(bif (P (s.g i0)) then some ((i0:Nat):Int) else ef s P d_ (i0+1))
theorem lH {d:Nat} {h:au} (sV:AV) (g:FuncId) (cap:List AV) (s:List bV) (P:bV→Bool) (cD:aZ h sV s) (hP:∀y∈s,∀hh,Tidy hh→Has h hh→cW d (.fn g) (.agg (aA.c y)::cap) hh= .ret (.bool (P y)) hh):∀(k_ i_:Nat) (_:i_+k_=s.length) (x:Nat→AV) (hh:au) (aN:Tidy hh) (bj:Has h hh),aW (cW (d)) zg ⟨(sV::(AV.func g [] cap)::rx x 2 5 ((Zn s.length)::(Zn i_)::rx x 9 10 [])),hh,[],.no⟩ (.exit 0) hh (fun y=>(sV::(AV.func g [] cap)::rx y 2 5 ((Zn s.length)::rx y 8 11 []))) (fun r y=>(sV::(AV.func g [] cap)::(y 2)::(y 3)::(Zi r)::(y 5)::(y 6)::(Zn s.length)::rx y 8 11 [])) (ef s P k_ i_)
 | 0,i0,kY,x,hh,aN,bj=>by
   have jA:=cD.small
   have q1:(decide (((i0:Nat):Int)<((s.length:Nat):Int)))=false:=d!
   exact aW.out rfl (pk (d) _ _ hh _ hh (VV (bZ 3 false false .i64 ((i0:Nat):Int) ((s.length:Nat):Int))<|BB q1<|ZZ) k!) (Grow.refl aN) k!
 | d_+1,i0,kY,x,hh,aN,bj=>by
   have jA:=cD.small
   have q1:(decide (((i0:Nat):Int)<((s.length:Nat):Int)))=true:=d!
   obtain ⟨p3,q4,lE⟩:=(cD.has bj).elem (i:=i0) o!
   have xp:dr env (some (.slice 45)) (some sV) (some (Zn i0))=some (AV.ptr p3 q4):=lE
   have AZ:bG env hh 45 (AV.ptr p3 q4)=some (AV.agg [(AV.str (s.g i0).name),(Zi (s.g i0).acc),(Zi (s.g i0).bP),(Zi (s.g i0).since)]):=(cD.has bj).load o! lE
   have k6:=hP (s.g i0) (lB o!) hh aN bj
   rcases Bool.eq_false_or_eq_true (P (s.g i0)) with f1 | f1
   · exact aW.ret ((i0:Nat):Int) (by simp only[ef,f1,ao,ai]) (pk (d) _ _ hh _ hh (VV (bZ 3 false false .i64 ((i0:Nat):Int) ((s.length:Nat):Int))<|BB q1<|CN 5<|VV xp<|MM AZ<|EE k6<|BB f1<|CN 2<|ZZ) k!) (Grow.refl aN) k!
   · have u8:=fj 3 false true i0 1 o!
     exact aW.round (by simp only[ef,f1,ao,ai]) (pk (d) _ _ hh _ hh (VV (bZ 3 false false .i64 ((i0:Nat):Int) ((s.length:Nat):Int))<|BB q1<|CN 5<|VV xp<|MM AZ<|EE k6<|BV f1 u8<|CC<|ZZ) k!) (Grow.refl aN) _ k! (fun x=>lH sV g cap s P cD hP d_ (i0+1) o! x hh aN bj)
def fN (s:List bV) (P:bV→Bool):Int:=(match (ef s P s.length 0) with | none=>(-1) | some PC=>PC)
theorem CH {d:Nat} {h:au} {sV:AV} {g:FuncId} {cap:List AV} (s:List bV) (P:bV→Bool) (Cp:aZ h sV s) (hP:∀y∈s,∀hh,Tidy hh→Has h hh→cW d (.fn g) (.agg (aA.c y)::cap) hh= .ret (.bool (P y)) hh) (bY:Tidy h):cW (d+1) (.fn 91) [sV,(AV.func g [] cap)] h= .ret (Zi (fN s P)) h:=by
 have NZ:=Cp.small
 have nY:dJ (some (.slice 45)) (some sV)=some (Zn s.length):=Cp.len
 cases lI:ef s P s.length 0 with
 | none=>
   obtain ⟨ZD,h3,jB,oO⟩:=aW.n lI (lH (d:=d) (h:=h) sV g cap s P Cp hP s.length 0 o! (fun k_=>((sV::(AV.func g [] cap)::AV.undef::AV.undef::(Zi 0)::AV.undef::sV::(Zn s.length)::(Zi 0)::kX 10):List AV).getD k_ AV.undef) h bY (Has.refl _))
   have gF:=oO.y
   have vP:h.nx≤h3.nx:=oO.n
   have ik:Has h h3:=oO.a
   have e:fN s P=(-1):=by simp only[fN,lI,ao,ai]
   rw[e]
   exact aC rfl (bx Try.func91 tc rfl (.inr rfl) (pk (d) _ _ h _ h3 (CN 2<|VV nY<|CC<|LL jB<|CC<|ZZ) k!) k!) ik rfl
 | some PC=>
   obtain ⟨ZD,h3,jB,oO⟩:=aW.r lI (lH (d:=d) (h:=h) sV g cap s P Cp hP s.length 0 o! (fun k_=>((sV::(AV.func g [] cap)::AV.undef::AV.undef::(Zi 0)::AV.undef::sV::(Zn s.length)::(Zi 0)::kX 10):List AV).getD k_ AV.undef) h bY (Has.refl _))
   have gF:=oO.y
   have vP:h.nx≤h3.nx:=oO.n
   have ik:Has h h3:=oO.a
   have e:fN s P=PC:=by simp only[fN,lI,ao,ai]
   rw[e]
   exact aC rfl (bx Try.func91 tc rfl (.inr rfl) (pk (d) _ _ h _ h3 (CN 2<|VV nY<|CC<|LL jB<|ZZ) k!) k!) ik rfl
def te:Code:=(Try.f82.body).getD .skip
theorem xC:Try.f82.body=some te:=by kernel_rfl
def eP (s:List bV) (P:bV→Bool):Bool:=(decide (0≤(fN s P)))
theorem xD {d:Nat} {h:au} {sV:AV} {g:FuncId} {cap:List AV} (s:List bV) (P:bV→Bool) (Cp:aZ h sV s) (hP:∀y∈s,∀hh,Tidy hh→Has h hh→cW d (.fn g) (.agg (aA.c y)::cap) hh= .ret (.bool (P y)) hh) (bY:Tidy h):cW (d+2) (.fn 82) [sV,(AV.func g [] cap)] h= .ret (AV.bool (eP s P)) h:=by
 have NZ:=Cp.small
 have k1:=CH (d:=d) s P Cp hP bY
 have e:eP s P=(decide (0≤(fN s P))):=by simp only[eP,ao,ai]
 rw[e]
 exact aC rfl (bx Try.func82 xC rfl (.inr rfl) (pk (d+1) _ _ h _ h (CN 3<|EE k1<|VV (qh 3 false true .i64 (fN s P) 0)<|CC<|ZZ) k!) k!) (Has.refl _) rfl
def DV:Code:=(Try.f67.body).getD .skip
theorem CI:Try.f67.body=some DV:=by kernel_rfl
def dW (x_:Int) (fO:Int):Bool:=(bif (decide (0≤x_)) then (decide (x_≤fO)) else false)
theorem mf {d:Nat} {h:au} (x_:Int) (fO:Int) (bY:Tidy h):cW (d+1) (.fn 67) [(Zi x_),(Zi fO)] h= .ret (AV.bool (dW x_ fO)) h:=by
 rcases Bool.eq_false_or_eq_true (decide (0≤x_)) with f0 | f0
 · have j8:=of_decide_eq_true f0
   have e:dW x_ fO=(decide (x_≤fO)):=by simp only[dW,f0,ao,ai]
   rw[e]
   exact aC rfl (bx Try.func67 CI rfl (.inr rfl) (pk (d) _ _ h _ h (CN 2<|VV (qh 3 false true .i64 x_ 0)<|CC<|BC f0<|BC f0<|BV f0 (qg 3 false false .i64 x_ fO)<|VV (pG (decide (x_≤fO)) false f0)<|CC<|ZZ) k!) k!) (Has.refl _) rfl
 · have j8:=of_decide_eq_false f0
   have e:dW x_ fO=false:=by simp only[dW,f0,ao,ai]
   rw[e]
   exact aC rfl (bx Try.func67 CI rfl (.inr rfl) (pk (d) _ _ h _ h (CN 2<|VV (qh 3 false true .i64 x_ 0)<|CC<|BB f0<|BB f0<|BV f0 (vG false f0)<|CC<|ZZ) k!) k!) (Has.refl _) rfl
def DW:Code:=(Try.f42.body).getD .skip
theorem L6:Try.f42.body=some DW:=by kernel_rfl
def gu (t:Int):Bool:=(dW t 100000)
theorem vQ {d:Nat} {h:au} (t:Int) (bY:Tidy h):cW (d+2) (.fn 42) [(Zi t)] h= .ret (AV.bool (gu t)) h:=by
 have k1:=mf (d:=d) t 100000 bY
 have e:gu t=(dW t 100000):=by simp only[gu,ao,ai]
 rw[e]
 exact aC rfl (bx Try.func42 L6 rfl (.inr rfl) (pk (d+1) _ _ h _ h (CN 2<|EE k1<|CC<|ZZ) k!) k!) (Has.refl _) rfl
def CJ:Code:=(Try.f84.body).getD .skip
theorem tf:Try.f84.body=some CJ:=by kernel_rfl
def gP (g:bV):Bool:=(bif (dW g.acc 1000000000) then (bif (dW g.bP 1000000000) then (gu g.since) else false) else false)
theorem JE {d:Nat} {h:au} (g:bV) (Wa:aA.ok h g) (bY:Tidy h):cW (d+3) (.fn 84) [(AV.agg [(AV.str g.name),(Zi g.acc),(Zi g.bP),(Zi g.since)])] h= .ret (AV.bool (gP g)) h:=by
 obtain ⟨h1,cA,cq,jf,aY,ct⟩:=iQ bY (a_.cells [(AV.str g.name),(Zi g.acc),(Zi g.bP),(Zi g.since)] 45 false)
 have bI:Has h h1:=ct
 have k2:=mf (d:=d+1) g.acc 1000000000 cq
 rcases Bool.eq_false_or_eq_true (dW g.acc 1000000000) with f0 | f0
 · have k4:=mf (d:=d+1) g.bP 1000000000 cq
   rcases Bool.eq_false_or_eq_true (dW g.bP 1000000000) with f1 | f1
   · have k6:=vQ (d:=d) g.since cq
     have e:gP g=(gu g.since):=by simp only[gP,f0,f1,ao,ai]
     rw[e]
     exact aC rfl (bx Try.func84 tf rfl (.inr rfl) (pk (d+2) _ _ h _ h1 (NN cA (fun i=>(Pt i))<|CN 2<|MM (aM 3 1 (Zi g.acc) aY k!)<|EE k2<|CC<|BC f0<|BM f0 (aM 3 2 (Zi g.bP) aY k!)<|BB f0<|EE k4<|VV (pG (dW g.bP 1000000000) false f0)<|CC<|BC f1<|BM f1 (aM 3 3 (Zi g.since) aY k!)<|BB f1<|EE k6<|VV (pG (gu g.since) false f1)<|CC<|ZZ) k!) k!) bI rfl
   · have e:gP g=false:=by simp only[gP,f0,f1,ao,ai]
     rw[e]
     exact aC rfl (bx Try.func84 tf rfl (.inr rfl) (pk (d+2) _ _ h _ h1 (NN cA (fun i=>(Pt i))<|CN 2<|MM (aM 3 1 (Zi g.acc) aY k!)<|EE k2<|CC<|BC f0<|BM f0 (aM 3 2 (Zi g.bP) aY k!)<|BB f0<|EE k4<|VV (pG (dW g.bP 1000000000) false f0)<|CC<|BB f1<|BB f1<|BV f1 (vG false f1)<|CC<|ZZ) k!) k!) bI rfl
 · have e:gP g=false:=by simp only[gP,f0,ao,ai]
   rw[e]
   exact aC rfl (bx Try.func84 tf rfl (.inr rfl) (pk (d+2) _ _ h _ h1 (NN cA (fun i=>(Pt i))<|CN 2<|MM (aM 3 1 (Zi g.acc) aY k!)<|EE k2<|CC<|BB f0<|BB f0<|BV f0 (vG false f0)<|CC<|FF<|FF<|FF<|CN 2<|ZZ) k!) k!) bI rfl
def uW:Code:=(Try.f63.body).getD .skip
theorem rn:Try.f63.body=some uW:=by kernel_rfl
def G':Code:=(cC uW).getD 0 .skip
def bL (dL:List UInt8):Nat→Nat→Option (Bool)
 | 0,_=>none
 | d_+1,i0=>(bif (decide (97≤(((dL.g i0).toNat:Nat):Int))) then (bif (decide (48≤(((dL.g i0).toNat:Nat):Int))) then (bif (decide ((((dL.g i0).toNat:Nat):Int)≤57)) then (bif (!(decide ((((dL.g i0).toNat:Nat):Int)≤122))) then (bif (decide (((i0:Nat):Int)=0)) then some false else bL dL d_ (i0+1)) else bL dL d_ (i0+1)) else (bif (!(decide ((((dL.g i0).toNat:Nat):Int)≤122))) then (bif (decide (((i0:Nat):Int)=0)) then some false else (bif (!(decide ((((dL.g i0).toNat:Nat):Int)=45))) then some false else bL dL d_ (i0+1))) else bL dL d_ (i0+1))) else (bif (!(decide ((((dL.g i0).toNat:Nat):Int)≤122))) then (bif (decide (((i0:Nat):Int)=0)) then some false else (bif (!(decide ((((dL.g i0).toNat:Nat):Int)=45))) then some false else bL dL d_ (i0+1))) else bL dL d_ (i0+1))) else (bif (decide (48≤(((dL.g i0).toNat:Nat):Int))) then (bif (decide ((((dL.g i0).toNat:Nat):Int)≤57)) then (bif (decide (((i0:Nat):Int)=0)) then some false else bL dL d_ (i0+1)) else (bif (decide (((i0:Nat):Int)=0)) then some false else (bif (!(decide ((((dL.g i0).toNat:Nat):Int)=45))) then some false else bL dL d_ (i0+1)))) else (bif (decide (((i0:Nat):Int)=0)) then some false else (bif (!(decide ((((dL.g i0).toNat:Nat):Int)=45))) then some false else bL dL d_ (i0+1)))))
theorem eH {d:Nat} {h:au} (dL:List UInt8) (cD:dL.length<2^60):∀(k_ i_:Nat) (_:i_+k_=(List.length dL)) (x:Nat→AV) (hh:au) (aN:Tidy hh) (bj:Has h hh),aW (cW (d)) G' ⟨((AV.str dL)::rx x 1 13 ((Zn (List.length dL))::(Zn i_)::rx x 16 39 [])),hh,[],.no⟩ (.exit 0) hh (fun y=>((AV.str dL)::rx y 1 13 ((Zn (List.length dL))::rx y 15 40 []))) (fun r y=>((AV.str dL)::(y 1)::(AV.bool r)::rx y 3 11 ((Zn (List.length dL))::rx y 15 40 []))) (bL dL k_ i_)
 | 0,i0,kY,x,hh,aN,bj=>by
   have q1:(decide (((i0:Nat):Int)<((List.length dL:Nat):Int)))=false:=d!
   exact aW.out rfl (pk (d) _ _ hh _ hh (VV (bZ 3 false false .i64 ((i0:Nat):Int) ((List.length dL:Nat):Int))<|BB q1<|ZZ) k!) (Grow.refl aN) k!
 | d_+1,i0,kY,x,hh,aN,bj=>by
   have q1:(decide (((i0:Nat):Int)<((List.length dL:Nat):Int)))=true:=d!
   have xp:qZ env (some .string) (some (AV.str dL)) (some (Zn i0))=some (AV.int .u8 (((dL.g i0).toNat:Nat):Int)):=jS (j:=i0) o!
   have za:=fun {al ps} (k:Pk al _ ps)=>(VV (bZ 3 false false .i64 ((i0:Nat):Int) ((List.length dL:Nat):Int))<|BB q1<|CN 4<|VV xp<|VV (qh 5 false true .u8 (((dL.g i0).toNat:Nat):Int) 97)<|CC<|k:Pk _ [] ps)
   rcases Bool.eq_false_or_eq_true (decide (97≤(((dL.g i0).toNat:Nat):Int))) with f1 | f1
   · have jg:=of_decide_eq_true f1
     have QR:qZ env (some .string) (some (AV.str dL)) (some (Zn i0))=some (AV.int .u8 (((dL.g i0).toNat:Nat):Int)):=jS (j:=i0) o!
     have ZE:qZ env (some .string) (some (AV.str dL)) (some (Zn i0))=some (AV.int .u8 (((dL.g i0).toNat:Nat):Int)):=jS (j:=i0) o!
     have HZ:=fun {al ps} (k:Pk al _ ps)=>(za<|BC f1<|BC f1<|BV f1 QR<|BV f1 (qg 5 false true .u8 (((dL.g i0).toNat:Nat):Int) 122)<|VV (pG (decide ((((dL.g i0).toNat:Nat):Int)≤122)) false f1)<|CN 3<|VV ZE<|VV (qh 5 false true .u8 (((dL.g i0).toNat:Nat):Int) 48)<|CC<|k:Pk _ [] ps)
     rcases Bool.eq_false_or_eq_true (decide (48≤(((dL.g i0).toNat:Nat):Int))) with f2 | f2
     · have nr:=of_decide_eq_true f2
       have ix7:qZ env (some .string) (some (AV.str dL)) (some (Zn i0))=some (AV.int .u8 (((dL.g i0).toNat:Nat):Int)):=jS (j:=i0) o!
       have Jw:=fun {al ps} (k:Pk al _ ps)=>(HZ<|BC f2<|BC f2<|BV f2 ix7<|BV f2 (qg 5 false true .u8 (((dL.g i0).toNat:Nat):Int) 57)<|VV (pG (decide ((((dL.g i0).toNat:Nat):Int)≤57)) false f2)<|CC<|k:Pk _ [] ps)
       rcases Bool.eq_false_or_eq_true (decide ((((dL.g i0).toNat:Nat):Int)≤57)) with f3 | f3
       · have jy:=of_decide_eq_true f3
         have Jy:=fun {al ps} (k:Pk al _ ps)=>(Jw<|BB f3<|BB f3<|BB f3<|BV f3 (pa true f3)<|CN 4<|k:Pk _ [] ps)
         rcases Bool.eq_false_or_eq_true (!(decide ((((dL.g i0).toNat:Nat):Int)≤122))) with f4 | f4
         · have km:=EM f4
           have DQ:=fun {al ps} (k:Pk al _ ps)=>(Jy<|BC f4<|BV f4 (o_ 3 false true .i64 ((i0:Nat):Int) 0)<|BC f4<|k:Pk _ [] ps)
           rcases Bool.eq_false_or_eq_true (decide (((i0:Nat):Int)=0)) with f5 | f5
           · have zb:=of_decide_eq_true f5
             exact aW.ret false (by simp only[bL,f1,f2,f3,f4,f5,ao,ai]) (pk (d) _ _ hh _ hh (DQ<|BB f5<|BB f5<|BV f4 (pa true f5)<|VV (pG true false f4)<|TT<|CC<|ZZ) k!) (Grow.refl aN) k!
           · have zb:=of_decide_eq_false f5
             have Tp:=fj 3 false true i0 1 o!
             exact aW.round (by simp only[bL,f1,f2,f3,f4,f5,ao,ai]) (pk (d) _ _ hh _ hh (DQ<|BC f5<|BC f5<|BV f4 (pcf true false f5)<|VV (pG false false f4)<|FF<|VV Tp<|CC<|ZZ) k!) (Grow.refl aN) _ k! (fun x=>eH dL cD d_ (i0+1) o! x hh aN bj)
         · have km:=EN f4
           have u10:=fj 3 false true i0 1 o!
           exact aW.round (by simp only[bL,f1,f2,f3,f4,ao,ai]) (pk (d) _ _ hh _ hh (Jy<|BB f4<|BB f4<|BB f4<|BV f4 (vG false f4)<|FF<|VV u10<|CC<|ZZ) k!) (Grow.refl aN) _ k! (fun x=>eH dL cD d_ (i0+1) o! x hh aN bj)
       · have jy:=of_decide_eq_false f3
         have ix9:qZ env (some .string) (some (AV.str dL)) (some (Zn i0))=some (AV.int .u8 (((dL.g i0).toNat:Nat):Int)):=jS (j:=i0) o!
         have Cr:=fun {al ps} (k:Pk al _ ps)=>(Jw<|BC f3<|BC f3<|BV f3 ix9<|BV f3 (o_ 5 false true .u8 (((dL.g i0).toNat:Nat):Int) 45)<|VV (ba (a:=some (AV.bool true)) (b:=some (AV.bool (decide ((((dL.g i0).toNat:Nat):Int)=45)))) f3)<|CN 4<|k:Pk _ [] ps)
         rcases Bool.eq_false_or_eq_true (!(decide ((((dL.g i0).toNat:Nat):Int)≤122))) with f4 | f4
         · have km:=EM f4
           have Tq:=fun {al ps} (k:Pk al _ ps)=>(Cr<|BC f4<|BV f4 (o_ 3 false true .i64 ((i0:Nat):Int) 0)<|BC f4<|k:Pk _ [] ps)
           rcases Bool.eq_false_or_eq_true (decide (((i0:Nat):Int)=0)) with f5 | f5
           · have zb:=of_decide_eq_true f5
             exact aW.ret false (by simp only[bL,f1,f2,f3,f4,f5,ao,ai]) (pk (d) _ _ hh _ hh (Tq<|BB f5<|BB f5<|BV f4 (pa true f5)<|VV (pG true false f4)<|TT<|CC<|ZZ) k!) (Grow.refl aN) k!
           · have zb:=of_decide_eq_false f5
             have Ts:=fun {al ps} (k:Pk al _ ps)=>(Tq<|BC f5<|BC f5<|BV f4 (ba (a:=some (AV.bool true)) (b:=some (AV.bool (!(decide ((((dL.g i0).toNat:Nat):Int)=45))))) f5)<|VV (pG (!(decide ((((dL.g i0).toNat:Nat):Int)=45))) false f4)<|k:Pk _ [] ps)
             rcases Bool.eq_false_or_eq_true (!(decide ((((dL.g i0).toNat:Nat):Int)=45))) with f6 | f6
             · have Ta:=EM f6
               exact aW.ret false (by simp only[bL,f1,f2,f3,f4,f5,f6,ao,ai]) (pk (d) _ _ hh _ hh (Ts<|BC f6<|ZZ) k!) (Grow.refl aN) k!
             · have Ta:=EN f6
               have Tt:=fj 3 false true i0 1 o!
               exact aW.round (by simp only[bL,f1,f2,f3,f4,f5,f6,ao,ai]) (pk (d) _ _ hh _ hh (Ts<|BV f6 Tt<|CC<|ZZ) k!) (Grow.refl aN) _ k! (fun x=>eH dL cD d_ (i0+1) o! x hh aN bj)
         · have km:=EN f4
           have Tp:=fj 3 false true i0 1 o!
           exact aW.round (by simp only[bL,f1,f2,f3,f4,ao,ai]) (pk (d) _ _ hh _ hh (Cr<|BB f4<|BB f4<|BB f4<|BV f4 (vG false f4)<|FF<|VV Tp<|CC<|ZZ) k!) (Grow.refl aN) _ k! (fun x=>eH dL cD d_ (i0+1) o! x hh aN bj)
     · have nr:=of_decide_eq_false f2
       have ix7:qZ env (some .string) (some (AV.str dL)) (some (Zn i0))=some (AV.int .u8 (((dL.g i0).toNat:Nat):Int)):=jS (j:=i0) o!
       have H5:=fun {al ps} (k:Pk al _ ps)=>(HZ<|BB f2<|BB f2<|BB f2<|BV f2 (vG false f2)<|CC<|FF<|CC<|FF<|CC<|FF<|VV ix7<|FF<|VV (o_ 5 false true .u8 (((dL.g i0).toNat:Nat):Int) 45)<|CN 5<|k:Pk _ [] ps)
       rcases Bool.eq_false_or_eq_true (!(decide ((((dL.g i0).toNat:Nat):Int)≤122))) with f3 | f3
       · have jy:=EM f3
         have Tu:=fun {al ps} (k:Pk al _ ps)=>(H5<|BC f3<|BV f3 (o_ 3 false true .i64 ((i0:Nat):Int) 0)<|BC f3<|k:Pk _ [] ps)
         rcases Bool.eq_false_or_eq_true (decide (((i0:Nat):Int)=0)) with f4 | f4
         · have km:=of_decide_eq_true f4
           exact aW.ret false (by simp only[bL,f1,f2,f3,f4,ao,ai]) (pk (d) _ _ hh _ hh (Tu<|BB f4<|BB f4<|BV f3 (pa true f4)<|VV (pG true false f3)<|TT<|CC<|ZZ) k!) (Grow.refl aN) k!
         · have km:=of_decide_eq_false f4
           have aec:=fun {al ps} (k:Pk al _ ps)=>(Tu<|BC f4<|BC f4<|BV f3 (ba (a:=some (AV.bool true)) (b:=some (AV.bool (!(decide ((((dL.g i0).toNat:Nat):Int)=45))))) f4)<|VV (pG (!(decide ((((dL.g i0).toNat:Nat):Int)=45))) false f3)<|k:Pk _ [] ps)
           rcases Bool.eq_false_or_eq_true (!(decide ((((dL.g i0).toNat:Nat):Int)=45))) with f5 | f5
           · have zb:=EM f5
             exact aW.ret false (by simp only[bL,f1,f2,f3,f4,f5,ao,ai]) (pk (d) _ _ hh _ hh (aec<|BC f5<|ZZ) k!) (Grow.refl aN) k!
           · have zb:=EN f5
             have Tp:=fj 3 false true i0 1 o!
             exact aW.round (by simp only[bL,f1,f2,f3,f4,f5,ao,ai]) (pk (d) _ _ hh _ hh (aec<|BV f5 Tp<|CC<|ZZ) k!) (Grow.refl aN) _ k! (fun x=>eH dL cD d_ (i0+1) o! x hh aN bj)
       · have jy:=EN f3
         have u9:=fj 3 false true i0 1 o!
         exact aW.round (by simp only[bL,f1,f2,f3,ao,ai]) (pk (d) _ _ hh _ hh (H5<|BB f3<|BB f3<|BB f3<|BV f3 (vG false f3)<|FF<|VV u9<|CC<|ZZ) k!) (Grow.refl aN) _ k! (fun x=>eH dL cD d_ (i0+1) o! x hh aN bj)
   · have jg:=of_decide_eq_false f1
     have QR:qZ env (some .string) (some (AV.str dL)) (some (Zn i0))=some (AV.int .u8 (((dL.g i0).toNat:Nat):Int)):=jS (j:=i0) o!
     have aed:=fun {al ps} (k:Pk al _ ps)=>(za<|BB f1<|BB f1<|BB f1<|BV f1 (vG false f1)<|CN 3<|VV QR<|VV (qh 5 false true .u8 (((dL.g i0).toNat:Nat):Int) 48)<|CC<|k:Pk _ [] ps)
     rcases Bool.eq_false_or_eq_true (decide (48≤(((dL.g i0).toNat:Nat):Int))) with f2 | f2
     · have nr:=of_decide_eq_true f2
       have LK:qZ env (some .string) (some (AV.str dL)) (some (Zn i0))=some (AV.int .u8 (((dL.g i0).toNat:Nat):Int)):=jS (j:=i0) o!
       have aee:=fun {al ps} (k:Pk al _ ps)=>(aed<|BC f2<|BC f2<|BV f2 LK<|BV f2 (qg 5 false true .u8 (((dL.g i0).toNat:Nat):Int) 57)<|VV (pG (decide ((((dL.g i0).toNat:Nat):Int)≤57)) false f2)<|CC<|k:Pk _ [] ps)
       rcases Bool.eq_false_or_eq_true (decide ((((dL.g i0).toNat:Nat):Int)≤57)) with f3 | f3
       · have jy:=of_decide_eq_true f3
         have aef:=fun {al ps} (k:Pk al _ ps)=>(aee<|BB f3<|BB f3<|BB f3<|BV f3 (pa true f3)<|CN 4<|TT<|CC<|TT<|VV (o_ 3 false true .i64 ((i0:Nat):Int) 0)<|TT<|CC<|k:Pk _ [] ps)
         rcases Bool.eq_false_or_eq_true (decide (((i0:Nat):Int)=0)) with f4 | f4
         · have km:=of_decide_eq_true f4
           exact aW.ret false (by simp only[bL,f1,f2,f3,f4,ao,ai]) (pk (d) _ _ hh _ hh (aef<|BB f4<|BB f4<|TT<|VV (pa true f4)<|CC<|TT<|CC<|ZZ) k!) (Grow.refl aN) k!
         · have km:=of_decide_eq_false f4
           have u9:=fj 3 false true i0 1 o!
           exact aW.round (by simp only[bL,f1,f2,f3,f4,ao,ai]) (pk (d) _ _ hh _ hh (aef<|BC f4<|BC f4<|TT<|VV (pcf true false f4)<|CC<|FF<|VV u9<|CC<|ZZ) k!) (Grow.refl aN) _ k! (fun x=>eH dL cD d_ (i0+1) o! x hh aN bj)
       · have jy:=of_decide_eq_false f3
         have Wd:qZ env (some .string) (some (AV.str dL)) (some (Zn i0))=some (AV.int .u8 (((dL.g i0).toNat:Nat):Int)):=jS (j:=i0) o!
         have aeg:=fun {al ps} (k:Pk al _ ps)=>(aee<|BC f3<|BC f3<|BV f3 Wd<|BV f3 (o_ 5 false true .u8 (((dL.g i0).toNat:Nat):Int) 45)<|VV (ba (a:=some (AV.bool true)) (b:=some (AV.bool (decide ((((dL.g i0).toNat:Nat):Int)=45)))) f3)<|CN 4<|TT<|CC<|TT<|VV (o_ 3 false true .i64 ((i0:Nat):Int) 0)<|TT<|CC<|k:Pk _ [] ps)
         rcases Bool.eq_false_or_eq_true (decide (((i0:Nat):Int)=0)) with f4 | f4
         · have km:=of_decide_eq_true f4
           exact aW.ret false (by simp only[bL,f1,f2,f3,f4,ao,ai]) (pk (d) _ _ hh _ hh (aeg<|BB f4<|BB f4<|TT<|VV (pa true f4)<|CC<|TT<|CC<|ZZ) k!) (Grow.refl aN) k!
         · have km:=of_decide_eq_false f4
           have aeh:=fun {al ps} (k:Pk al _ ps)=>(aeg<|BC f4<|BC f4<|TT<|VV (ba (a:=some (AV.bool true)) (b:=some (AV.bool (!(decide ((((dL.g i0).toNat:Nat):Int)=45))))) f4)<|CC<|k:Pk _ [] ps)
           rcases Bool.eq_false_or_eq_true (!(decide ((((dL.g i0).toNat:Nat):Int)=45))) with f5 | f5
           · have zb:=EM f5
             exact aW.ret false (by simp only[bL,f1,f2,f3,f4,f5,ao,ai]) (pk (d) _ _ hh _ hh (aeh<|BC f5<|ZZ) k!) (Grow.refl aN) k!
           · have zb:=EN f5
             have Tp:=fj 3 false true i0 1 o!
             exact aW.round (by simp only[bL,f1,f2,f3,f4,f5,ao,ai]) (pk (d) _ _ hh _ hh (aeh<|BV f5 Tp<|CC<|ZZ) k!) (Grow.refl aN) _ k! (fun x=>eH dL cD d_ (i0+1) o! x hh aN bj)
     · have nr:=of_decide_eq_false f2
       have LK:qZ env (some .string) (some (AV.str dL)) (some (Zn i0))=some (AV.int .u8 (((dL.g i0).toNat:Nat):Int)):=jS (j:=i0) o!
       have aei:=fun {al ps} (k:Pk al _ ps)=>(aed<|BB f2<|BB f2<|BB f2<|BV f2 (vG false f2)<|CC<|FF<|CC<|FF<|CC<|FF<|VV LK<|FF<|VV (o_ 5 false true .u8 (((dL.g i0).toNat:Nat):Int) 45)<|CN 5<|TT<|CC<|TT<|VV (o_ 3 false true .i64 ((i0:Nat):Int) 0)<|TT<|CC<|k:Pk _ [] ps)
       rcases Bool.eq_false_or_eq_true (decide (((i0:Nat):Int)=0)) with f3 | f3
       · have jy:=of_decide_eq_true f3
         exact aW.ret false (by simp only[bL,f1,f2,f3,ao,ai]) (pk (d) _ _ hh _ hh (aei<|BB f3<|BB f3<|TT<|VV (pa true f3)<|CC<|TT<|CC<|ZZ) k!) (Grow.refl aN) k!
       · have jy:=of_decide_eq_false f3
         have aej:=fun {al ps} (k:Pk al _ ps)=>(aei<|BC f3<|BC f3<|TT<|VV (ba (a:=some (AV.bool true)) (b:=some (AV.bool (!(decide ((((dL.g i0).toNat:Nat):Int)=45))))) f3)<|CC<|k:Pk _ [] ps)
         rcases Bool.eq_false_or_eq_true (!(decide ((((dL.g i0).toNat:Nat):Int)=45))) with f4 | f4
         · have km:=EM f4
           exact aW.ret false (by simp only[bL,f1,f2,f3,f4,ao,ai]) (pk (d) _ _ hh _ hh (aej<|BC f4<|ZZ) k!) (Grow.refl aN) k!
         · have km:=EN f4
           have u9:=fj 3 false true i0 1 o!
           exact aW.round (by simp only[bL,f1,f2,f3,f4,ao,ai]) (pk (d) _ _ hh _ hh (aej<|BV f4 u9<|CC<|ZZ) k!) (Grow.refl aN) _ k! (fun x=>eH dL cD d_ (i0+1) o! x hh aN bj)
def gv (dL:List UInt8):Bool:=(bif (decide (dL=[])) then false else (bif (decide (16<((List.length dL:Nat):Int))) then false else (match (bL dL (List.length dL) 0) with | none=>true | some Tv=>Tv)))
theorem CK {d:Nat} {h:au} (dL:List UInt8) (Tw:dL.length<2^60) (bY:Tidy h):cW (d+1) (.fn 63) [(AV.str dL)] h= .ret (AV.bool (gv dL)) h:=by
 have aek:=fun {al ps} (k:Pk al _ ps)=>(CN 2<|VV (XL 9 false true dL [])<|CC<|k:Pk _ [] ps)
 rcases Bool.eq_false_or_eq_true (decide (dL=[])) with f0 | f0
 · have j8:=of_decide_eq_true f0
   have e:gv dL=false:=by simp only[gv,f0,ao,ai]
   rw[e]
   exact aC rfl (bx Try.func63 rn rfl (.inr rfl) (pk (d) _ _ h _ h (aek<|BB f0<|BB f0<|BV f0 (pa true f0)<|TT<|CC<|ZZ) k!) k!) (Has.refl _) rfl
 · have j8:=of_decide_eq_false f0
   have sn2:dL.length<2^60:=Tw
   have abf:=fun {al ps} (k:Pk al _ ps)=>(aek<|BC f0<|BC f0<|BV f0 (cg 3 false true .i64 ((List.length dL:Nat):Int) 16)<|k:Pk _ [] ps)
   rcases Bool.eq_false_or_eq_true (decide (16<((List.length dL:Nat):Int))) with f1 | f1
   · have jg:=of_decide_eq_true f1
     have e:gv dL=false:=by simp only[gv,f0,f1,ao,ai]
     rw[e]
     exact aC rfl (bx Try.func63 rn rfl (.inr rfl) (pk (d) _ _ h _ h (abf<|VV (ba (a:=some (AV.bool true)) (b:=some (AV.bool (decide (16<((List.length dL:Nat):Int))))) f0)<|BC f1<|ZZ) k!) k!) (Has.refl _) rfl
   · have jg:=of_decide_eq_false f1
     have ael:=eH (d:=d) (h:=h) dL Tw (List.length dL) 0 o! (fun k_=>(((AV.str dL)::AV.undef::(AV.bool false)::AV.undef::AV.undef::AV.undef::(AV.str dL)::(AV.bool (decide (dL=[])))::(AV.bool (decide (dL=[])))::(AV.str dL)::(Zn (List.length dL))::(AV.bool (decide (16<((List.length dL:Nat):Int))))::(AV.bool (decide (16<((List.length dL:Nat):Int))))::(AV.str dL)::(Zn (List.length dL))::(Zi 0)::kX 39):List AV).getD k_ AV.undef) h bY (Has.refl _)
     cases lJ:bL dL (List.length dL) 0 with
     | none=>
       obtain ⟨yl4,h5,mg,oP⟩:=aW.n lJ ael
       have nK:=oP.y
       have JF:h.nx≤h5.nx:=oP.n
       have nL:Has h h5:=oP.a
       have e:gv dL=true:=by simp only[gv,f0,f1,lJ,ao,ai]
       rw[e]
       exact aC rfl (bx Try.func63 rn rfl (.inr rfl) (pk (d) _ _ h _ h5 (abf<|VV (ba (a:=some (AV.bool true)) (b:=some (AV.bool (decide (16<((List.length dL:Nat):Int))))) f0)<|BB f1<|CN 3<|LL mg<|CC<|ZZ) k!) k!) nL rfl
     | some Tv=>
       obtain ⟨yl4,h5,mg,oP⟩:=aW.r lJ ael
       have nK:=oP.y
       have JF:h.nx≤h5.nx:=oP.n
       have nL:Has h h5:=oP.a
       have e:gv dL=Tv:=by simp only[gv,f0,f1,lJ,ao,ai]
       rw[e]
       exact aC rfl (bx Try.func63 rn rfl (.inr rfl) (pk (d) _ _ h _ h5 (abf<|VV (ba (a:=some (AV.bool true)) (b:=some (AV.bool (decide (16<((List.length dL:Nat):Int))))) f0)<|BB f1<|CN 3<|LL mg<|ZZ) k!) k!) nL rfl
def xE:Code:=(Try.f69.body).getD .skip
theorem lK:Try.f69.body=some xE:=by kernel_rfl
def dv (sa:List bV) (g:bV):Int:=(bif (!(gv g.name)) then 5 else (bif (eP sa (fun y=>hB y g)) then 6 else (bif (!(gP g)) then 1 else 0)))
theorem CL {d:Nat} {h:au} {tg:AV} (sa:List bV) (g:bV) (nM:aZ h tg sa) (Wa:aA.ok h g) (bY:Tidy h):cW (d+6) (.fn 69) [tg,(AV.agg [(AV.str g.name),(Zi g.acc),(Zi g.bP),(Zi g.since)])] h= .ret (Zi (dv sa g)) h:=by
 have EY:=nM.small
 obtain ⟨h1,cA,cq,jf,aY,ct⟩:=iQ bY (a_.cells [(AV.str g.name),(Zi g.acc),(Zi g.bP),(Zi g.since)] 45 false)
 have bI:Has h h1:=ct
 have k2:=CK (d:=d+4) g.name Wa cq
 rcases Bool.eq_false_or_eq_true (!(gv g.name)) with f0 | f0
 · have e:dv sa g=5:=by simp only[dv,f0,ao,ai]
   rw[e]
   exact aC rfl (bx Try.func69 lK rfl (.inr rfl) (pk (d+5) _ _ h _ h1 (NN cA (fun i=>(Pt i))<|CN 2<|MM (aM 9 0 (AV.str g.name) aY k!)<|EE k2<|CN 2<|BC f0<|ZZ) k!) k!) bI rfl
 · have k4:=xD (d:=d+3) sa (fun y=>hB y g) (nM.has bI) (fun y hy hh yy aa=>A2 (d:=d+2) y g h.nx (aA.mono aa ((nM.has bI).GU y hy)) (aA.mono aa (aA.mono bI Wa)) (aa _ _ aY) yy) cq
   rcases Bool.eq_false_or_eq_true (eP sa (fun y=>hB y g)) with f1 | f1
   · have e:dv sa g=6:=by simp only[dv,f0,f1,ao,ai]
     rw[e]
     exact aC rfl (bx Try.func69 lK rfl (.inr rfl) (pk (d+5) _ _ h _ h1 (NN cA (fun i=>(Pt i))<|CN 2<|MM (aM 9 0 (AV.str g.name) aY k!)<|EE k2<|CN 2<|BB f0<|CN 2<|EE k4<|CC<|BC f1<|ZZ) k!) k!) bI rfl
   · have k6:=JE (d:=d+2) g (aA.mono bI Wa) cq
     rcases Bool.eq_false_or_eq_true (!(gP g)) with f2 | f2
     · have e:dv sa g=1:=by simp only[dv,f0,f1,f2,ao,ai]
       rw[e]
       exact aC rfl (bx Try.func69 lK rfl (.inr rfl) (pk (d+5) _ _ h _ h1 (NN cA (fun i=>(Pt i))<|CN 2<|MM (aM 9 0 (AV.str g.name) aY k!)<|EE k2<|CN 2<|BB f0<|CN 2<|EE k4<|CC<|BM f1 (aM 45 0 (AV.agg [(AV.str g.name),(Zi g.acc),(Zi g.bP),(Zi g.since)]) aY k!)<|EE k6<|CN 2<|BC f2<|ZZ) k!) k!) bI rfl
     · have e:dv sa g=0:=by simp only[dv,f0,f1,f2,ao,ai]
       rw[e]
       exact aC rfl (bx Try.func69 lK rfl (.inr rfl) (pk (d+5) _ _ h _ h1 (NN cA (fun i=>(Pt i))<|CN 2<|MM (aM 9 0 (AV.str g.name) aY k!)<|EE k2<|CN 2<|BB f0<|CN 2<|EE k4<|CC<|BM f1 (aM 45 0 (AV.agg [(AV.str g.name),(Zi g.acc),(Zi g.bP),(Zi g.since)]) aY k!)<|EE k6<|CN 2<|BC f2<|ZZ) k!) k!) bI rfl
def lX:Code:=(Try.f68.body).getD .skip
theorem kI:Try.f68.body=some lX:=by kernel_rfl
def th:Code:=(cC lX).getD 0 .skip
def dp (P:Nat→Int) (dm:List bV):Nat→Nat→Option (Int)
 | 0,_=>none
 | d_+1,i0=>(bif (!decide ((P i0)=0)) then some (P i0) else dp P dm d_ (i0+1))
theorem jj {d:Nat} {h:au} (dz:AV) (g:FuncId) (cap:List AV) (dm:List bV) (P:Nat→Int) (cD:aZ h dz dm) (hP:∀j,j<dm.length→∀aV hh,Tidy hh→Has h hh→aZ hh aV (dm.take j)→cW d (.fn g) (aV:: .agg (aA.c (dm.g j))::cap) hh= .ret (.int .i64 (P j)) hh):∀(k_ i_:Nat) (_:i_+k_=dm.length) (x:Nat→AV) (hh:au) (aN:Tidy hh) (bj:Has h hh),aW (cW (d)) th ⟨(dz::(x 1)::(AV.func g [] cap)::rx x 3 11 (dz::(Zn dm.length)::(Zn i_)::rx x 17 14 [])),hh,[],.no⟩ (.exit 0) hh (fun y=>(dz::(y 1)::(AV.func g [] cap)::rx y 3 11 (dz::(Zn dm.length)::rx y 16 15 []))) (fun r y=>(dz::(y 1)::(AV.func g [] cap)::rx y 3 3 ((Zi r)::rx y 7 7 (dz::(Zn dm.length)::rx y 16 15 [])))) (dp P dm k_ i_)
 | 0,i0,kY,x,hh,aN,bj=>by
   have jA:=cD.small
   have q1:(decide (((i0:Nat):Int)<((dm.length:Nat):Int)))=false:=d!
   exact aW.out rfl (pk (d) _ _ hh _ hh (VV (bZ 3 false false .i64 ((i0:Nat):Int) ((dm.length:Nat):Int))<|BB q1<|ZZ) k!) (Grow.refl aN) k!
 | d_+1,i0,kY,x,hh,aN,bj=>by
   have jA:=cD.small
   have q1:(decide (((i0:Nat):Int)<((dm.length:Nat):Int)))=true:=d!
   obtain ⟨p3,q4,lE⟩:=(cD.has bj).elem (i:=i0) o!
   have xp:dr env (some (.slice 45)) (some dz) (some (Zn i0))=some (AV.ptr p3 q4):=lE
   have AZ:bG env hh 45 (AV.ptr p3 q4)=some (AV.agg [(AV.str (dm.g i0).name),(Zi (dm.g i0).acc),(Zi (dm.g i0).bP),(Zi (dm.g i0).since)]):=(cD.has bj).load o! lE
   obtain ⟨h6,zh,mh,JH,ti,lL⟩:=iQ aN (a_.cells [(AV.str []),(Zi 0),(Zi 0),(Zi 0)] 45 false)
   have nu:Has hh h6:=lL
   obtain ⟨h7,pJ,lM,Ha,lV,dX⟩:=xg (t:=45) (n:=4) (i:=hh.nx) (L:=[(AV.str (dm.g i0).name),(Zi (dm.g i0).acc),(Zi (dm.g i0).bP),(Zi (dm.g i0).since)]) mh ti k! rfl rfl (by simp only[AV.cells,List.all_cons,List.all_nil,Bool.and_true,Bool.and_self,fB,dZ,fC,fD,dh,iT,iU,iV,iW,iX,fE])
   have kJ:Has hh h7:=Has.cj nu dX aN o!
   obtain ⟨r8,abg,abh⟩:=(cD.has bj).pre (t:=24) k! (i:=i0) o!
   have sl9:dw env 24 dz (none) (some (Zn i0)) (none)=some r8:=abg
   have LG:=hP i0 o! r8 h7 lM (bj.trans kJ) (abh.has kJ)
   have Tx:AV.same 20 (AV.agg [(AV.str (dm.g i0).name),(Zi (dm.g i0).acc),(Zi (dm.g i0).bP),(Zi (dm.g i0).since)]) (AV.agg [(AV.str (dm.g i0).name),(Zi (dm.g i0).acc),(Zi (dm.g i0).bP),(Zi (dm.g i0).since)])=true:=ie 18 (pR (fun n=>qc n _) (pR (fun n=>aU n _ _) (pR (fun n=>aU n _ _) (pR (fun n=>aU n _ _) Pq))))
   rcases Bool.eq_false_or_eq_true (!decide ((P i0)=0)) with f1 | f1
   · have jg:=EM f1
     exact aW.ret (P i0) (by simp only[dp,f1,ao,ai]) (pk (d) _ _ hh _ h7 (VV (bZ 3 false false .i64 ((i0:Nat):Int) ((dm.length:Nat):Int))<|BC q1<|VV xp<|MM AZ<|NN zh (fun i=>(Pt i))<|CC<|SS pJ<|CN 3<|QQ sl9<|MM (aM 45 0 (AV.agg [(AV.str (dm.g i0).name),(Zi (dm.g i0).acc),(Zi (dm.g i0).bP),(Zi (dm.g i0).since)]) lV k!)<|EE LG<|CC<|HH (aM 45 0 (AV.agg [(AV.str (dm.g i0).name),(Zi (dm.g i0).acc),(Zi (dm.g i0).bP),(Zi (dm.g i0).since)]) lV k!)<|HH Tx<|CC<|VV (jw 31 false true .i64 (P i0) 0)<|BB f1<|CN 2<|ZZ) k!) (⟨lM,kJ,by omega⟩) k!
   · have jg:=EN f1
     have u14:=fj 3 false true i0 1 o!
     exact aW.round (by simp only[dp,f1,ao,ai]) (pk (d) _ _ hh _ h7 (VV (bZ 3 false false .i64 ((i0:Nat):Int) ((dm.length:Nat):Int))<|BC q1<|VV xp<|MM AZ<|NN zh (fun i=>(Pt i))<|CC<|SS pJ<|CN 3<|QQ sl9<|MM (aM 45 0 (AV.agg [(AV.str (dm.g i0).name),(Zi (dm.g i0).acc),(Zi (dm.g i0).bP),(Zi (dm.g i0).since)]) lV k!)<|EE LG<|CC<|HH (aM 45 0 (AV.agg [(AV.str (dm.g i0).name),(Zi (dm.g i0).acc),(Zi (dm.g i0).bP),(Zi (dm.g i0).since)]) lV k!)<|HH Tx<|CC<|VV (jw 31 false true .i64 (P i0) 0)<|BV f1 u14<|CC<|ZZ) k!) (⟨lM,kJ,by omega⟩) _ k! (fun x=>jj dz g cap dm P cD hP d_ (i0+1) o! x h7 lM (bj.trans kJ))
def cS (dm:List bV) (fO:Int) (P:Nat→Int):Int:=(bif (decide (fO<((dm.length:Nat):Int))) then 3 else (match (dp P dm dm.length 0) with | none=>0 | some Tv=>Tv))
theorem vR {d:Nat} {h:au} {dz:AV} {g:FuncId} {cap:List AV} (dm:List bV) (fO:Int) (P:Nat→Int) (oQ:aZ h dz dm) (hP:∀j,j<dm.length→∀aV hh,Tidy hh→Has h hh→aZ hh aV (dm.take j)→cW d (.fn g) (aV:: .agg (aA.c (dm.g j))::cap) hh= .ret (.int .i64 (P j)) hh) (bY:Tidy h):cW (d+1) (.fn 68) [dz,(Zi fO),(AV.func g [] cap)] h= .ret (Zi (cS dm fO P)) h:=by
 have Ty:=oQ.small
 have nY:dJ (some (.slice 45)) (some dz)=some (Zn dm.length):=oQ.len
 rcases Bool.eq_false_or_eq_true (decide (fO<((dm.length:Nat):Int))) with f0 | f0
 · have j8:=of_decide_eq_true f0
   have e:cS dm fO P=3:=by simp only[cS,f0,ao,ai]
   rw[e]
   exact aC rfl (bx Try.func68 kI rfl (.inr rfl) (pk (d) _ _ h _ h (CN 2<|VV nY<|CC<|VV (cg 3 false false .i64 ((dm.length:Nat):Int) fO)<|BC f0<|ZZ) k!) k!) (Has.refl _) rfl
 · have j8:=of_decide_eq_false f0
   have QV:dJ (some (.slice 45)) (some dz)=some (Zn dm.length):=oQ.len
   cases lJ:dp P dm dm.length 0 with
   | none=>
     obtain ⟨yl4,h5,mg,oP⟩:=aW.n lJ (jj (d:=d) (h:=h) dz g cap dm P oQ hP dm.length 0 o! (fun k_=>((dz::(Zi fO)::(AV.func g [] cap)::AV.undef::AV.undef::AV.undef::(Zi 0)::AV.undef::AV.undef::AV.undef::dz::(Zn dm.length)::(Zi fO)::(AV.bool (decide (fO<((dm.length:Nat):Int))))::dz::(Zn dm.length)::(Zi 0)::kX 14):List AV).getD k_ AV.undef) h bY (Has.refl _))
     have nK:=oP.y
     have JF:h.nx≤h5.nx:=oP.n
     have nL:Has h h5:=oP.a
     have e:cS dm fO P=0:=by simp only[cS,f0,lJ,ao,ai]
     rw[e]
     exact aC rfl (bx Try.func68 kI rfl (.inr rfl) (pk (d) _ _ h _ h5 (CN 2<|VV nY<|CC<|VV (cg 3 false false .i64 ((dm.length:Nat):Int) fO)<|BC f0<|VV QV<|CC<|LL mg<|CC<|ZZ) k!) k!) nL rfl
   | some Tv=>
     obtain ⟨yl4,h5,mg,oP⟩:=aW.r lJ (jj (d:=d) (h:=h) dz g cap dm P oQ hP dm.length 0 o! (fun k_=>((dz::(Zi fO)::(AV.func g [] cap)::AV.undef::AV.undef::AV.undef::(Zi 0)::AV.undef::AV.undef::AV.undef::dz::(Zn dm.length)::(Zi fO)::(AV.bool (decide (fO<((dm.length:Nat):Int))))::dz::(Zn dm.length)::(Zi 0)::kX 14):List AV).getD k_ AV.undef) h bY (Has.refl _))
     have nK:=oP.y
     have JF:h.nx≤h5.nx:=oP.n
     have nL:Has h h5:=oP.a
     have e:cS dm fO P=Tv:=by simp only[cS,f0,lJ,ao,ai]
     rw[e]
     exact aC rfl (bx Try.func68 kI rfl (.inr rfl) (pk (d) _ _ h _ h5 (CN 2<|VV nY<|CC<|VV (cg 3 false false .i64 ((dm.length:Nat):Int) fO)<|BC f0<|VV QV<|CC<|LL mg<|ZZ) k!) k!) nL rfl
def r6:Code:=(Try.f65.body).getD .skip
theorem vS:Try.f65.body=some r6:=by kernel_rfl
def dD (o:ay) (c:ay):Bool:=(decide (o.name=c.name))
theorem vT {d:Nat} {h:au} (o:ay) (c:ay) (cB:Nat) (h_o:aA.ok h o) (ZC:aA.ok h c) (g_c:h.get cB=some (.cells (aA.c c) 26 false)) (bY:Tidy h):cW (d+1) (.fn 65) [(AV.agg [(AV.str o.name),(Zi o.aj),(Zi o.ah),(Zi o.aI),(Zi o.aK),(Zi o.bad),o.aB]),(Pt cB)] h= .ret (AV.bool (dD o c)) h:=by
 have agz:=h_o.2.small
 have agA:=ZC.2.small
 obtain ⟨h1,cA,cq,jf,aY,ct⟩:=iQ bY (a_.cells [(AV.str o.name),(Zi o.aj),(Zi o.ah),(Zi o.aI),(Zi o.aK),(Zi o.bad),o.aB] 26 false)
 have bI:Has h h1:=ct
 have e:dD o c=(decide (o.name=c.name)):=by simp only[dD,ao,ai]
 rw[e]
 exact aC rfl (bx Try.func65 vS rfl (.inr rfl) (pk (d) _ _ h _ h1 (NN cA (fun i=>(Pt i))<|CN 2<|MM (aM 9 0 (AV.str o.name) aY k!)<|CC<|MM (aM 9 0 (AV.str c.name) (ct _ _ g_c) k!)<|VV (XL 9 false false o.name c.name)<|CC<|ZZ) k!) k!) bI rfl
def mR:Code:=(Try.f81.body).getD .skip
theorem pt:Try.f81.body=some mR:=by kernel_rfl
def uF:Code:=(cC mR).getD 0 .skip
def da (s:List ay) (P:ay→Bool):Nat→Nat→Option (Int)
 | 0,_=>none
 | d_+1,i0=>(bif (P (s.g i0)) then some ((i0:Nat):Int) else da s P d_ (i0+1))
theorem jC {d:Nat} {h:au} (sV:AV) (g:FuncId) (cap:List AV) (s:List ay) (P:ay→Bool) (cD:aZ h sV s) (hP:∀y∈s,∀hh,Tidy hh→Has h hh→cW d (.fn g) (.agg (aA.c y)::cap) hh= .ret (.bool (P y)) hh):∀(k_ i_:Nat) (_:i_+k_=s.length) (x:Nat→AV) (hh:au) (aN:Tidy hh) (bj:Has h hh),aW (cW (d)) uF ⟨(sV::(AV.func g [] cap)::rx x 2 5 ((Zn s.length)::(Zn i_)::rx x 9 10 [])),hh,[],.no⟩ (.exit 0) hh (fun y=>(sV::(AV.func g [] cap)::rx y 2 5 ((Zn s.length)::rx y 8 11 []))) (fun r y=>(sV::(AV.func g [] cap)::(y 2)::(y 3)::(Zi r)::(y 5)::(y 6)::(Zn s.length)::rx y 8 11 [])) (da s P k_ i_)
 | 0,i0,kY,x,hh,aN,bj=>by
   have jA:=cD.small
   have q1:(decide (((i0:Nat):Int)<((s.length:Nat):Int)))=false:=d!
   exact aW.out rfl (pk (d) _ _ hh _ hh (VV (bZ 3 false false .i64 ((i0:Nat):Int) ((s.length:Nat):Int))<|BB q1<|ZZ) k!) (Grow.refl aN) k!
 | d_+1,i0,kY,x,hh,aN,bj=>by
   have jA:=cD.small
   have q1:(decide (((i0:Nat):Int)<((s.length:Nat):Int)))=true:=d!
   obtain ⟨p3,q4,lE⟩:=(cD.has bj).elem (i:=i0) o!
   have xp:dr env (some (.slice 26)) (some sV) (some (Zn i0))=some (AV.ptr p3 q4):=lE
   have AZ:bG env hh 26 (AV.ptr p3 q4)=some (AV.agg [(AV.str (s.g i0).name),(Zi (s.g i0).aj),(Zi (s.g i0).ah),(Zi (s.g i0).aI),(Zi (s.g i0).aK),(Zi (s.g i0).bad),(s.g i0).aB]):=(cD.has bj).load o! lE
   have k6:=hP (s.g i0) (lB o!) hh aN bj
   rcases Bool.eq_false_or_eq_true (P (s.g i0)) with f1 | f1
   · exact aW.ret ((i0:Nat):Int) (by simp only[da,f1,ao,ai]) (pk (d) _ _ hh _ hh (VV (bZ 3 false false .i64 ((i0:Nat):Int) ((s.length:Nat):Int))<|BB q1<|CN 5<|VV xp<|MM AZ<|EE k6<|BB f1<|CN 2<|ZZ) k!) (Grow.refl aN) k!
   · have u8:=fj 3 false true i0 1 o!
     exact aW.round (by simp only[da,f1,ao,ai]) (pk (d) _ _ hh _ hh (VV (bZ 3 false false .i64 ((i0:Nat):Int) ((s.length:Nat):Int))<|BB q1<|CN 5<|VV xp<|MM AZ<|EE k6<|BV f1 u8<|CC<|ZZ) k!) (Grow.refl aN) _ k! (fun x=>jC sV g cap s P cD hP d_ (i0+1) o! x hh aN bj)
def eg (s:List ay) (P:ay→Bool):Int:=(match (da s P s.length 0) with | none=>(-1) | some PC=>PC)
theorem xF {d:Nat} {h:au} {sV:AV} {g:FuncId} {cap:List AV} (s:List ay) (P:ay→Bool) (Cp:aZ h sV s) (hP:∀y∈s,∀hh,Tidy hh→Has h hh→cW d (.fn g) (.agg (aA.c y)::cap) hh= .ret (.bool (P y)) hh) (bY:Tidy h):cW (d+1) (.fn 81) [sV,(AV.func g [] cap)] h= .ret (Zi (eg s P)) h:=by
 have NZ:=Cp.small
 have nY:dJ (some (.slice 26)) (some sV)=some (Zn s.length):=Cp.len
 cases lI:da s P s.length 0 with
 | none=>
   obtain ⟨ZD,h3,jB,oO⟩:=aW.n lI (jC (d:=d) (h:=h) sV g cap s P Cp hP s.length 0 o! (fun k_=>((sV::(AV.func g [] cap)::AV.undef::AV.undef::(Zi 0)::AV.undef::sV::(Zn s.length)::(Zi 0)::kX 10):List AV).getD k_ AV.undef) h bY (Has.refl _))
   have gF:=oO.y
   have vP:h.nx≤h3.nx:=oO.n
   have ik:Has h h3:=oO.a
   have e:eg s P=(-1):=by simp only[eg,lI,ao,ai]
   rw[e]
   exact aC rfl (bx Try.func81 pt rfl (.inr rfl) (pk (d) _ _ h _ h3 (CN 2<|VV nY<|CC<|LL jB<|CC<|ZZ) k!) k!) ik rfl
 | some PC=>
   obtain ⟨ZD,h3,jB,oO⟩:=aW.r lI (jC (d:=d) (h:=h) sV g cap s P Cp hP s.length 0 o! (fun k_=>((sV::(AV.func g [] cap)::AV.undef::AV.undef::(Zi 0)::AV.undef::sV::(Zn s.length)::(Zi 0)::kX 10):List AV).getD k_ AV.undef) h bY (Has.refl _))
   have gF:=oO.y
   have vP:h.nx≤h3.nx:=oO.n
   have ik:Has h h3:=oO.a
   have e:eg s P=PC:=by simp only[eg,lI,ao,ai]
   rw[e]
   exact aC rfl (bx Try.func81 pt rfl (.inr rfl) (pk (d) _ _ h _ h3 (CN 2<|VV nY<|CC<|LL jB<|ZZ) k!) k!) ik rfl
def qn:Code:=(Try.f64.body).getD .skip
theorem tj:Try.f64.body=some qn:=by kernel_rfl
def cH (s:List ay) (P:ay→Bool):Bool:=(decide (0≤(eg s P)))
theorem tk {d:Nat} {h:au} {sV:AV} {g:FuncId} {cap:List AV} (s:List ay) (P:ay→Bool) (Cp:aZ h sV s) (hP:∀y∈s,∀hh,Tidy hh→Has h hh→cW d (.fn g) (.agg (aA.c y)::cap) hh= .ret (.bool (P y)) hh) (bY:Tidy h):cW (d+2) (.fn 64) [sV,(AV.func g [] cap)] h= .ret (AV.bool (cH s P)) h:=by
 have NZ:=Cp.small
 have k1:=xF (d:=d) s P Cp hP bY
 have e:cH s P=(decide (0≤(eg s P))):=by simp only[cH,ao,ai]
 rw[e]
 exact aC rfl (bx Try.func64 tj rfl (.inr rfl) (pk (d+1) _ _ h _ h (CN 3<|EE k1<|VV (qh 3 false true .i64 (eg s P) 0)<|CC<|ZZ) k!) k!) (Has.refl _) rfl
def CM:Code:=(Try.f66.body).getD .skip
theorem Am:Try.f66.body=some CM:=by kernel_rfl
def gR (x_:Int):Bool:=(bif (decide ((-1000000000)≤x_)) then (decide (x_≤1000000000)) else false)
theorem tp {d:Nat} {h:au} (x_:Int) (bY:Tidy h):cW (d+1) (.fn 66) [(Zi x_)] h= .ret (AV.bool (gR x_)) h:=by
 rcases Bool.eq_false_or_eq_true (decide ((-1000000000)≤x_)) with f0 | f0
 · have j8:=of_decide_eq_true f0
   have e:gR x_=(decide (x_≤1000000000)):=by simp only[gR,f0,ao,ai]
   rw[e]
   exact aC rfl (bx Try.func66 Am rfl (.inr rfl) (pk (d) _ _ h _ h (CN 2<|VV (qh 3 false true .i64 x_ (-1000000000))<|CC<|BC f0<|BV f0 (qg 3 false true .i64 x_ 1000000000)<|VV (pG (decide (x_≤1000000000)) false f0)<|CC<|ZZ) k!) k!) (Has.refl _) rfl
 · have j8:=of_decide_eq_false f0
   have e:gR x_=false:=by simp only[gR,f0,ao,ai]
   rw[e]
   exact aC rfl (bx Try.func66 Am rfl (.inr rfl) (pk (d) _ _ h _ h (CN 2<|VV (qh 3 false true .i64 x_ (-1000000000))<|CC<|BB f0<|BV f0 (vG false f0)<|CC<|ZZ) k!) k!) (Has.refl _) rfl
end
end Go.Proofs.aH
