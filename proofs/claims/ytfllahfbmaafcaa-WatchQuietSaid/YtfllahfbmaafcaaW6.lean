import Derived.Test.YtfllahfbmaafcaaW2
import Derived.Test.YtfllahfbmaafcaaW5
import Derived.Test.YtfllahfbmaafcaaW4
namespace Go.Proofs.aG
open Go.Proofs Ab
noncomputable section
set_option maxRecDepth 100000
set_option maxHeartbeats 4000000
set_option linter.unusedVariables false
set_option linter.unusedSimpArgs false
def kn (g:Gate):dq:=⟨g.time,g.ax,g.ar⟩
def Open (g:Gate):Prop:=g.ax= -9223372036854775808∧g.ar=9223372036854775807
def NA (q:ay) (a b:Gate):Gate:=⟨b.time,(bA (⟨b.ax,b.ar⟩:Span) (⟨(IntKind.i64.wrap (a.ax -(IntKind.i64.wrap (q.aJ*(IntKind.i64.wrap (b.time - a.time)))))),(IntKind.i64.wrap (a.ar+(IntKind.i64.wrap (q.aI*(IntKind.i64.wrap (b.time - a.time))))))⟩:Span)).aU,(bA (⟨b.ax,b.ar⟩:Span) (⟨(IntKind.i64.wrap (a.ax -(IntKind.i64.wrap (q.aJ*(IntKind.i64.wrap (b.time - a.time)))))),(IntKind.i64.wrap (a.ar+(IntKind.i64.wrap (q.aI*(IntKind.i64.wrap (b.time - a.time))))))⟩:Span)).aF⟩
def W7 (q:ay) (a b:Gate):Gate:=⟨a.time,(bA (⟨a.ax,a.ar⟩:Span) (⟨(IntKind.i64.wrap (b.ax -(IntKind.i64.wrap (q.aI*(IntKind.i64.wrap (b.time - a.time)))))),(IntKind.i64.wrap (b.ar+(IntKind.i64.wrap (q.aJ*(IntKind.i64.wrap (b.time - a.time))))))⟩:Span)).aU,(bA (⟨a.ax,a.ar⟩:Span) (⟨(IntKind.i64.wrap (b.ax -(IntKind.i64.wrap (q.aI*(IntKind.i64.wrap (b.time - a.time)))))),(IntKind.i64.wrap (b.ar+(IntKind.i64.wrap (q.aJ*(IntKind.i64.wrap (b.time - a.time))))))⟩:Span)).aF⟩
theorem Cu (q:ay) (n k i:Nat) (C:List Gate):iI q n (k+1) i C=bif decide (((C.set i (NA q (C.g (i - 1)) (C.g i))).g i).ar<((C.set i (NA q (C.g (i - 1)) (C.g i))).g i).ax) then none else iI q n k (i+1) (C.set i (NA q (C.g (i - 1)) (C.g i))):=by rw[iI];rfl
theorem Cv (q:ay) (k i:Nat) (C:List Gate):iJ q (k+1) i C=iJ q k (i+1) (C.set k (W7 q (C.g k) (C.g (k+1)))):=by rw[iJ];rfl
theorem oM {α:Type} [Inhabited α] {C:List α} {i:Nat} (x:α) (h:i<C.length):(C.set i x).g i=x:=by
 rw[List.g,List.getD_eq_getElem?_getD,List.getElem?_set_self h];rfl
theorem mP {α:Type} [Inhabited α] {C:List α} {i j:Nat} (x:α) (h:i≠j):(C.set i x).g j=C.g j:=by
 rw[List.g,List.g,List.getD_eq_getElem?_getD,List.getD_eq_getElem?_getD,List.getElem?_set_ne h]
structure DA (f r:Int) (S:List Gate) (D:Nat→Prop) (g:Gate):Prop where
 aU:∃k,D k∧KB (kn (S.g k))∧g.ax=(gB f r (kn (S.g k)) g.time).aU
 aF:∃k,D k∧KB (kn (S.g k))∧g.ar=(gB f r (kn (S.g k)) g.time).aF
 all:∀k,D k→KB (kn (S.g k))→(gB f r (kn (S.g k)) g.time).aU≤g.ax∧g.ar≤(gB f r (kn (S.g k)) g.time).aF
structure NB (S:List Gate):Prop where
 time:∀k,k<S.length→0≤(S.g k).time∧(S.g k).time≤100000
 order:∀j k,j≤k→k<S.length→(S.g j).time≤(S.g k).time
 each:∀k,k<S.length→KB (kn (S.g k))∨Open (S.g k)
 first:KB (kn (S.g 0))
 wide:∀k,k<S.length→(S.g k).ax≤(S.g k).ar
section
variable {q:ay} (f0:0≤q.aJ) (f1:q.aJ≤10000) (r0:0≤q.aI) (r1:q.aI≤10000) {S:List Gate} (gs:NB S)
include f0 f1 r0 r1
theorem EF {k:dq} {t:Int} (hk:KB k) (t0:0≤t) (t1:t≤100000): -1001000000000≤(gB q.aJ q.aI k t).aU∧(gB q.aJ q.aI k t).aU≤1001000000000∧-1001000000000≤(gB q.aJ q.aI k t).aF∧(gB q.aJ q.aI k t).aF≤1001000000000:=by
 obtain ⟨⟨a,b⟩,c,d,e,g⟩:=hk
 rw[gB]
 split
 · obtain ⟨m1,m2⟩:=jW f0 f1 (x:=t - k.time) o! o!
   obtain ⟨m3,m4⟩:=jW r0 r1 (x:=t - k.time) o! o!
   exact ⟨by simp only;omega,by simp only;omega,by simp only;omega,by simp only;omega⟩
 · obtain ⟨m1,m2⟩:=jW f0 f1 (x:=k.time - t) o! o!
   obtain ⟨m3,m4⟩:=jW r0 r1 (x:=k.time - t) o! o!
   exact ⟨by simp only;omega,by simp only;omega,by simp only;omega,by simp only;omega⟩
include gs
theorem W8 {i:Nat} (hi:i+1<S.length) {a:Gate} (ht:a.time=(S.g i).time) (ha:DA q.aJ q.aI S (· ≤i) a):DA q.aJ q.aI S (· ≤i+1) (NA q a (S.g (i+1)))∧(NA q a (S.g (i+1))).time=(S.g (i+1)).time:=by
 have T0:=gs.time i o!;have T1:=gs.time (i+1) hi;have T2:=gs.order i (i+1) o! hi
 obtain ⟨c,c1,c2,c3⟩:=ha.aU
 obtain ⟨e,e1,e2,e3⟩:=ha.aF
 have bc:=EF f0 f1 r0 r1 c2 (t:=a.time) o! o!
 have be:=EF f0 f1 r0 r1 e2 (t:=a.time) o! o!
 obtain ⟨m1,m2⟩:=jW f0 f1 (x:=(S.g (i+1)).time - a.time) o! o!
 obtain ⟨m3,m4⟩:=jW r0 r1 (x:=(S.g (i+1)).time - a.time) o! o!
 have Tb:(NA q a (S.g (i+1))).ax=max (S.g (i+1)).ax (a.ax - q.aJ*((S.g (i+1)).time - a.time)):=by
  simp only[NA,bA,me]
  rw[wrap_i64 (n:=(S.g (i+1)).time - a.time) o! o!,wrap_i64 (n:=q.aJ*((S.g (i+1)).time - a.time)) o! o!,wrap_i64 (n:=a.ax - q.aJ*((S.g (i+1)).time - a.time)) o! o!]
 have Jh:(NA q a (S.g (i+1))).ar=min (S.g (i+1)).ar (a.ar+q.aI*((S.g (i+1)).time - a.time)):=by
  simp only[NA,bA,tZ]
  rw[wrap_i64 (n:=(S.g (i+1)).time - a.time) o! o!,wrap_i64 (n:=q.aI*((S.g (i+1)).time - a.time)) o! o!,wrap_i64 (n:=a.ar+q.aI*((S.g (i+1)).time - a.time)) o! o!]
 have xL:(NA q a (S.g (i+1))).time=(S.g (i+1)).time:=rfl
 have late:∀k,k≤i→(gB q.aJ q.aI (kn (S.g k)) (S.g (i+1)).time).aU=(gB q.aJ q.aI (kn (S.g k)) a.time).aU - q.aJ*((S.g (i+1)).time - a.time)∧(gB q.aJ q.aI (kn (S.g k)) (S.g (i+1)).time).aF=(gB q.aJ q.aI (kn (S.g k)) a.time).aF+q.aI*((S.g (i+1)).time - a.time):=fun k hk=>by
  have o1:=gs.order k i hk o!
  have h1:(kn (S.g k)).time≤a.time:=by show (S.g k).time≤a.time;omega
  have h2:(kn (S.g k)).time≤(S.g (i+1)).time:=by omega
  unfold gB
  rw[if_pos h1,if_pos h2]
  simp only[Int.mul_sub]
  omega
 have own:(gB q.aJ q.aI (kn (S.g (i+1))) (S.g (i+1)).time).aU=(S.g (i+1)).ax∧(gB q.aJ q.aI (kn (S.g (i+1))) (S.g (i+1)).time).aF=(S.g (i+1)).ar:=by
  unfold gB
  rw[if_pos (show (kn (S.g (i+1))).time≤(S.g (i+1)).time from Int.le_refl _)]
  simp only[kn,Int.sub_self,Int.mul_zero,Int.sub_zero,Int.add_zero,and_self]
 refine ⟨⟨?_,?_,?_⟩,xL⟩
 · rw[Tb,xL]
   by_cases w:(S.g (i+1)).ax≤a.ax - q.aJ*((S.g (i+1)).time - a.time)
   · exact ⟨c,by omega,c2,by rw[(late c c1).1];omega⟩
   · rcases gs.each (i+1) hi with kb | op
     · exact ⟨i+1,Nat.le_refl _,kb,by rw[own.1];omega⟩
     · have:=op.1;omega
 · rw[Jh,xL]
   by_cases w:a.ar+q.aI*((S.g (i+1)).time - a.time)≤(S.g (i+1)).ar
   · exact ⟨e,by omega,e2,by rw[(late e e1).2];omega⟩
   · rcases gs.each (i+1) hi with kb | op
     · exact ⟨i+1,Nat.le_refl _,kb,by rw[own.2];omega⟩
     · have:=op.2;omega
 · intro k hk kb
   rw[Tb,Jh,xL]
   rcases Nat.lt_or_eq_of_le hk with h | h
   · have:=late k o!;have:=ha.all k o! kb;omega
   · subst h;have:=own;omega
theorem W9 {i:Nat} (hi:i+1<S.length) {a b:Gate} (ht:a.time=(S.g i).time) (hu:b.time=(S.g (i+1)).time) (ha:DA q.aJ q.aI S (· ≤i) a) (hb:DA q.aJ q.aI S (· <S.length) b):DA q.aJ q.aI S (· <S.length) (W7 q a b)∧(W7 q a b).time=(S.g i).time:=by
 have T0:=gs.time i o!;have T1:=gs.time (i+1) hi;have T2:=gs.order i (i+1) o! hi
 obtain ⟨c,c1,c2,c3⟩:=ha.aU
 obtain ⟨e,e1,e2,e3⟩:=ha.aF
 obtain ⟨c',c1',c2',c3'⟩:=hb.aU
 obtain ⟨e',e1',e2',e3'⟩:=hb.aF
 have bc:=EF f0 f1 r0 r1 c2 (t:=a.time) o! o!
 have be:=EF f0 f1 r0 r1 e2 (t:=a.time) o! o!
 have bc':=EF f0 f1 r0 r1 c2' (t:=b.time) o! o!
 have be':=EF f0 f1 r0 r1 e2' (t:=b.time) o! o!
 obtain ⟨m1,m2⟩:=jW f0 f1 (x:=b.time - a.time) o! o!
 obtain ⟨m3,m4⟩:=jW r0 r1 (x:=b.time - a.time) o! o!
 have Tb:(W7 q a b).ax=max a.ax (b.ax - q.aI*(b.time - a.time)):=by
  simp only[W7,bA,me]
  rw[wrap_i64 (n:=b.time - a.time) o! o!,wrap_i64 (n:=q.aI*(b.time - a.time)) o! o!,wrap_i64 (n:=b.ax - q.aI*(b.time - a.time)) o! o!]
 have Jh:(W7 q a b).ar=min a.ar (b.ar+q.aJ*(b.time - a.time)):=by
  simp only[W7,bA,tZ]
  rw[wrap_i64 (n:=b.time - a.time) o! o!,wrap_i64 (n:=q.aJ*(b.time - a.time)) o! o!,wrap_i64 (n:=b.ar+q.aJ*(b.time - a.time)) o! o!]
 have xL:(W7 q a b).time=a.time:=rfl
 have back:∀k,i<k→k<S.length→(gB q.aJ q.aI (kn (S.g k)) a.time).aU=(gB q.aJ q.aI (kn (S.g k)) b.time).aU - q.aI*(b.time - a.time)∧(gB q.aJ q.aI (kn (S.g k)) a.time).aF=(gB q.aJ q.aI (kn (S.g k)) b.time).aF+q.aJ*(b.time - a.time):=fun k h1 h2=>by
  have o1:=gs.order (i+1) k o! h2
  have e1:b.time≤(kn (S.g k)).time:=by show b.time≤(S.g k).time;omega
  unfold gB
  by_cases w1:(kn (S.g k)).time≤a.time
  · have w2:(kn (S.g k)).time≤b.time:=by omega
    have w3:b.time=a.time:=by omega
    rw[if_pos w1,if_pos w2,w3]
    simp only[Int.sub_self,Int.mul_zero,Int.sub_zero,Int.add_zero,and_self]
  · rw[if_neg w1]
    by_cases w2:(kn (S.g k)).time≤b.time
    · have w3:(kn (S.g k)).time=b.time:=by omega
      rw[if_pos w2,w3]
      simp only[Int.sub_self,Int.mul_zero,Int.sub_zero,Int.add_zero,and_self]
    · rw[if_neg w2]
      simp only[Int.mul_sub]
      omega
 have aa7:∀k,k≤i→(gB q.aJ q.aI (kn (S.g k)) b.time).aU=(gB q.aJ q.aI (kn (S.g k)) a.time).aU - q.aJ*(b.time - a.time)∧(gB q.aJ q.aI (kn (S.g k)) b.time).aF=(gB q.aJ q.aI (kn (S.g k)) a.time).aF+q.aI*(b.time - a.time):=fun k hk=>by
  have o1:=gs.order k i hk o!
  have h1:(kn (S.g k)).time≤a.time:=by show (S.g k).time≤a.time;omega
  have h2:(kn (S.g k)).time≤b.time:=by omega
  unfold gB
  rw[if_pos h1,if_pos h2]
  simp only[Int.mul_sub]
  omega
 refine ⟨⟨?_,?_,?_⟩,by rw[xL];exact ht⟩
 · rw[Tb,xL]
   by_cases w:b.ax - q.aI*(b.time - a.time)≤a.ax
   · exact ⟨c,by omega,c2,by omega⟩
   · by_cases w2:c'≤i
     · have:=aa7 c' w2;have:=ha.all c' w2 c2';omega
     · exact ⟨c',c1',c2',by rw[(back c' o! c1').1];omega⟩
 · rw[Jh,xL]
   by_cases w:a.ar≤b.ar+q.aJ*(b.time - a.time)
   · exact ⟨e,by omega,e2,by omega⟩
   · by_cases w2:e'≤i
     · have:=aa7 e' w2;have:=ha.all e' w2 e2';omega
     · exact ⟨e',e1',e2',by rw[(back e' o! e1').2];omega⟩
 · intro k hk kb
   rw[Tb,Jh,xL]
   by_cases w:k≤i
   · have:=ha.all k w kb;have:=aa7 k w;have:=hb.all k hk kb;omega
   · have:=back k o! hk;have:=hb.all k hk kb
     have:=ha.aU;have:=ha.aF
     omega
end
section
variable {q:ay} (f0:0≤q.aJ) (f1:q.aJ≤10000) (r0:0≤q.aI) (r1:q.aI≤10000) {S:List Gate} (gs:NB S)
structure Fw (q:ay) (S C:List Gate) (i:Nat):Prop where
 len:C.length=S.length
 done:∀j,j<i→j<S.length→(C.g j).time=(S.g j).time∧DA q.aJ q.aI S (· ≤j) (C.g j)∧(C.g j).ax≤(C.g j).ar
 rest:∀j,i≤j→C.g j=S.g j
include f0 f1 r0 r1 gs
omit f0 f1 r0 r1 in
theorem Tc:DA q.aJ q.aI S (· ≤0) (S.g 0):=by
 have own:(gB q.aJ q.aI (kn (S.g 0)) (S.g 0).time).aU=(S.g 0).ax∧(gB q.aJ q.aI (kn (S.g 0)) (S.g 0).time).aF=(S.g 0).ar:=by
  unfold gB
  rw[if_pos (show (kn (S.g 0)).time≤(S.g 0).time from Int.le_refl _)]
  simp only[kn,Int.sub_self,Int.mul_zero,Int.sub_zero,Int.add_zero,and_self]
 refine ⟨⟨0,Nat.le_refl _,gs.first,own.1.symm⟩,⟨0,Nat.le_refl _,gs.first,own.2.symm⟩,fun k hk kb=>?_⟩
 obtain rfl:k=0:=by omega
 omega
theorem NC {n:Nat}:∀(k i:Nat) (C:List Gate),i+k=S.length→1≤i→Fw q S C i→
 (iI q n k i C=none→∃c e t,c<S.length∧e<S.length∧KB (kn (S.g c))∧KB (kn (S.g e))∧(gB q.aJ q.aI (kn (S.g e)) t).aF<(gB q.aJ q.aI (kn (S.g c)) t).aU)∧∀W,iI q n k i C=some W→Fw q S W S.length
 | 0,i,C,h,h1,fw=>by
   refine ⟨fun e=>(by rw[iI] at e;cases e),fun W e=>?_⟩
   rw[iI] at e;cases e
   rw[show S.length=i by omega];exact fw
 | k+1,i,C,h,h1,fw=>by
   obtain ⟨j,rfl⟩:∃j,i=j+1:=⟨i - 1,by omega⟩
   obtain ⟨d1,d2,d3⟩:=fw.done j o! o!
   have er:=fw.rest (j+1) (Nat.le_refl _)
   obtain ⟨s1,s2⟩:=W8 f0 f1 r0 r1 gs (i:=j) o! d1 d2
   have cl:=fw.len
   rw[Cu,Nat.add_sub_cancel,er,oM _ o!]
   by_cases w:(NA q (C.g j) (S.g (j+1))).ar<(NA q (C.g j) (S.g (j+1))).ax
   · rw[decide_eq_true w]
     refine ⟨fun _=>?_,fun W e=>(by cases e)⟩
     obtain ⟨c,c1,c2,c3⟩:=s1.aU
     obtain ⟨e,e1,e2,e3⟩:=s1.aF
     exact ⟨c,e,_,by omega,by omega,c2,e2,by rw[←e3,←c3];exact w⟩
   · rw[decide_eq_false w,ah]
     refine NC k (j+2) _ o! o! ⟨by rw[List.length_set];exact cl,fun m hm hm2=>?_,fun m hm=>?_⟩
     · by_cases e:m=j+1
       · subst e;rw[oM _ o!];exact ⟨s2,s1,by omega⟩
       · rw[mP _ (Ne.symm e)];exact fw.done m o! hm2
     · rw[mP _ o!];exact fw.rest m o!
theorem ND:∀(k i:Nat) (C:List Gate),k<S.length→C.length=S.length→(∀j,j<k→(C.g j).time=(S.g j).time∧DA q.aJ q.aI S (· ≤j) (C.g j))→(∀j,k≤j→j<S.length→(C.g j).time=(S.g j).time∧DA q.aJ q.aI S (· <S.length) (C.g j))→
 (iJ q k i C).length=S.length∧∀j,j<S.length→((iJ q k i C).g j).time=(S.g j).time∧DA q.aJ q.aI S (· <S.length) ((iJ q k i C).g j)
 | 0,i,C,hk,hl,h1,h2=>by rw[iJ];exact ⟨hl,fun j hj=>h2 j (Nat.zero_le _) hj⟩
 | k+1,i,C,hk,hl,h1,h2=>by
   obtain ⟨a1,a2⟩:=h1 k o!
   obtain ⟨b1,b2⟩:=h2 (k+1) (Nat.le_refl _) hk
   obtain ⟨s1,s2⟩:=W9 f0 f1 r0 r1 gs hk a1 b1 a2 b2
   rw[Cv]
   refine ND k (i+1) _ o! (by rw[List.length_set];exact hl) (fun j hj=>?_) (fun j hj KW=>?_)
   · rw[mP _ o!];exact h1 j o!
   · by_cases e:j=k
     · subst e;rw[oM _ o!];exact ⟨s2,s1⟩
     · rw[mP _ (Ne.symm e)];exact h2 j o! KW
def KG (S:List Gate) (c:dq):Prop:=∃k,k<S.length∧KB (kn (S.g k))∧c=kn (S.g k)
def GM (f r:Int) (K:dq→Prop):Prop:=∀i,K i→∀k,K k→max (gB f r i k.time).aU k.ax≤min (gB f r i k.time).aF k.ar
omit f0 f1 r0 r1 gs in
theorem Ji {f r:Int} {K:dq→Prop} {a b:dq} (h:GM f r K) (ha:K a) (hb:K b):nY f r [a,b]:=by
 intro i hi k hk
 have m:∀x∈ [a,b],K x:=fun x hx=>by
  rcases List.mem_cons.1 hx with rfl | hx
  · exact ha
  · rw[List.mem_singleton] at hx;subst hx;exact hb
 exact h i (m i hi) k (m k hk)
theorem Pe {n:Nat} (hn:n=S.length) (hn1:1≤n):
 (iI q n (n - 1) 1 S=none↔¬GM q.aJ q.aI (KG S))∧∀W,iI q n (n - 1) 1 S=some W→(iJ q (n - 1) 0 W).length=n∧∀j,j<n→((iJ q (n - 1) 0 W).g j).time=(S.g j).time∧∀x,(((iJ q (n - 1) 0 W).g j).ax≤x∧x≤((iJ q (n - 1) 0 W).g j).ar)↔∀c,KG S c→(gB q.aJ q.aI c (S.g j).time).aU≤x∧x≤(gB q.aJ q.aI c (S.g j).time).aF:=by
 subst hn
 have fw1:Fw q S S 1:=⟨rfl,(fun j hj KW=>by
  obtain rfl:j=0:=by omega
  exact ⟨rfl,Tc gs,gs.wide 0 o!⟩),fun _ _=>rfl⟩
 obtain ⟨l1,l2⟩:=NC f0 f1 r0 r1 gs (n:=S.length) (S.length - 1) 1 S o! (Nat.le_refl _) fw1
 have LD:∀W,iI q S.length (S.length - 1) 1 S=some W→GM q.aJ q.aI (KG S):=fun W e=>by
  have fw:=l2 W e
  have Td:∀i k,i≤k→k<S.length→KB (kn (S.g i))→KB (kn (S.g k))→(gB q.aJ q.aI (kn (S.g i)) (S.g k).time).aU≤(S.g k).ar∧(S.g k).ax≤(gB q.aJ q.aI (kn (S.g i)) (S.g k).time).aF:=fun i k mR hk ki kk=>by
   obtain ⟨t1,s1,w1⟩:=fw.done k hk hk
   have a:=s1.all i mR ki
   have b:=s1.all k (Nat.le_refl _) kk
   rw[t1] at a b
   have own:(gB q.aJ q.aI (kn (S.g k)) (S.g k).time).aU=(S.g k).ax∧(gB q.aJ q.aI (kn (S.g k)) (S.g k).time).aF=(S.g k).ar:=by
    unfold gB
    rw[if_pos (show (kn (S.g k)).time≤(S.g k).time from Int.le_refl _)]
    simp only[kn,Int.sub_self,Int.mul_zero,Int.sub_zero,Int.add_zero,and_self]
   omega
  have sym:∀i k,i≤k→k<S.length→KB (kn (S.g i))→KB (kn (S.g k))→(gB q.aJ q.aI (kn (S.g k)) (S.g i).time).aU≤(S.g i).ar∧(S.g i).ax≤(gB q.aJ q.aI (kn (S.g k)) (S.g i).time).aF:=fun i k mR hk ki kk=>by
   have h:=Td i k mR hk ki kk
   have o:=gs.order i k mR hk
   have M:∀(c x y:Int),0≤c→x≤y→c*x≤c*y:=fun c x y hc hx=>Int.mul_le_mul_of_nonneg_left hx hc
   unfold gB at h ⊢
   rw[if_pos (show (kn (S.g i)).time≤(S.g k).time from o)] at h
   by_cases w:(kn (S.g k)).time≤(S.g i).time
   · have w':(S.g k).time≤(S.g i).time:=w
     have e1:(S.g i).time=(S.g k).time:=by omega
     rw[if_pos w]
     simp only[kn,e1,Int.sub_self,Int.mul_zero,Int.sub_zero,Int.add_zero] at h ⊢
     omega
   · rw[if_neg w]
     simp only[kn] at h ⊢
     omega
  rintro _ ⟨i,hi,ki,rfl⟩ _ ⟨k,hk,kk,rfl⟩
  have wi:=gs.wide i hi;have wk:=gs.wide k hk
  have nonempty:(gB q.aJ q.aI (kn (S.g i)) (kn (S.g k)).time).aU≤(gB q.aJ q.aI (kn (S.g i)) (kn (S.g k)).time).aF:=by
   have T1:=gs.time i hi;have T2:=gs.time k hk
   unfold gB
   split
   · rename_i w
     obtain ⟨m1,m2⟩:=jW f0 f1 (x:=(kn (S.g k)).time -(kn (S.g i)).time) (by simp only[kn] at w ⊢;omega) (by simp only[kn];omega)
     obtain ⟨m3,m4⟩:=jW r0 r1 (x:=(kn (S.g k)).time -(kn (S.g i)).time) (by simp only[kn] at w ⊢;omega) (by simp only[kn];omega)
     simp only[kn] at *;omega
   · rename_i w
     obtain ⟨m1,m2⟩:=jW f0 f1 (x:=(kn (S.g i)).time -(kn (S.g k)).time) (by simp only[kn] at w ⊢;omega) (by simp only[kn];omega)
     obtain ⟨m3,m4⟩:=jW r0 r1 (x:=(kn (S.g i)).time -(kn (S.g k)).time) (by simp only[kn] at w ⊢;omega) (by simp only[kn];omega)
     simp only[kn] at *;omega
  have pair:(gB q.aJ q.aI (kn (S.g i)) (S.g k).time).aU≤(S.g k).ar∧(S.g k).ax≤(gB q.aJ q.aI (kn (S.g i)) (S.g k).time).aF:=by
   by_cases w:i≤k
   · exact Td i k w hk ki kk
   · exact sym k i o! hi kk ki
  show max (gB q.aJ q.aI (kn (S.g i)) (S.g k).time).aU (S.g k).ax≤min (gB q.aJ q.aI (kn (S.g i)) (S.g k).time).aF (S.g k).ar
  have:(gB q.aJ q.aI (kn (S.g i)) (S.g k).time).aU≤(gB q.aJ q.aI (kn (S.g i)) (S.g k).time).aF:=nonempty
  omega
 refine ⟨⟨fun e h=>?_,fun h=>?_⟩,fun W e=>?_⟩
 · obtain ⟨c,d,t,c1,d1,c2,d2,w⟩:=l1 e
   have:=Cb f0 r0 (Ji h ⟨c,c1,c2,rfl⟩ ⟨d,d1,d2,rfl⟩) t (i:=kn (S.g c)) (k:=kn (S.g d)) (by simp) (by simp)
   omega
 · cases e:iI q S.length (S.length - 1) 1 S with
   | none=>rfl
   | some W=>exact absurd (LD W e) h
 · have fw:=l2 W e
   obtain ⟨b1,b2⟩:=ND f0 f1 r0 r1 gs (S.length - 1) 0 W o! fw.len (fun j hj=>⟨(fw.done j o! o!).1,(fw.done j o! o!).2.1⟩) (fun j hj KW=>by
    obtain rfl:j=S.length - 1:=by omega
    obtain ⟨t1,s1,_⟩:=fw.done (S.length - 1) o! o!
    refine ⟨t1,?_,?_,fun k hk kb=>s1.all k o! kb⟩
    · obtain ⟨c,c1,c2,c3⟩:=s1.aU;exact ⟨c,by omega,c2,c3⟩
    · obtain ⟨c,c1,c2,c3⟩:=s1.aF;exact ⟨c,by omega,c2,c3⟩)
   refine ⟨b1,fun j hj=>?_⟩
   obtain ⟨t1,s1⟩:=b2 j hj
   refine ⟨t1,fun x=>?_⟩
   obtain ⟨c,c1,c2,c3⟩:=s1.aU
   obtain ⟨d,d1,d2,d3⟩:=s1.aF
   rw[t1] at c3 d3
   constructor
   · rintro hx _ ⟨k,hk,kb,rfl⟩
     have:=s1.all k hk kb
     rw[t1] at this;omega
   · intro h
     have:=h _ ⟨c,c1,c2,rfl⟩;have:=h _ ⟨d,d1,d2,rfl⟩;omega
end
theorem W_ (a b:Gate):decide (na a b<0)=decide (a.time<b.time):=by
 rw[na,nm]
 by_cases h:a.time<b.time
 · simp [ko,h]
 · by_cases h2:b.time<a.time
   · simp [ko,h,h2]
   · simp [ko,h,h2]
theorem nf {α:Type} [Inhabited α] {C:List α} {i:Nat} (h:i<C.length):C.g i=C[i]:=by
 rw[List.g,List.getD_eq_getElem?_getD,List.getElem?_eq_getElem h];rfl
theorem swap_perm {C:List Gate} {k:Nat} (h:k+1<C.length):((C.set (k+1) (C.g k)).set k (C.g (k+1))).Perm C:=by
 rw[nf (by omega:k<C.length),nf h]
 exact List.set_set_perm h o!
theorem aa8 {C:List Gate} {k:Nat} (h:k+1<C.length) (j:Nat):((C.set (k+1) (C.g k)).set k (C.g (k+1))).g j=if j=k then C.g (k+1) else if j=k+1 then C.g k else C.g j:=by
 by_cases e:j=k
 · subst e;rw[if_pos rfl,oM _ (by rw[List.length_set];omega)]
 · rw[if_neg e,mP _ (Ne.symm e)]
   by_cases e2:j=k+1
   · subst e2;rw[if_pos rfl,oM _ h]
   · rw[if_neg e2,mP _ (Ne.symm e2)]
theorem EG:∀(k i:Nat) (C:List Gate) (m:Nat),k≤m→m<C.length→(∀j l,j<l→l≤m→l≠k→(C.g j).time≤(C.g l).time)→
 (iB k i C).Perm C∧(∀j l,j<l→l≤m→((iB k i C).g j).time≤((iB k i C).g l).time)∧(∀j,m<j→(iB k i C).g j=C.g j)∧((∀l,l<C.length→(C.g 0).time≤(C.g l).time)→(iB k i C).g 0=C.g 0)
 | 0,i,C,m,hk,hm,h=>by
   rw[iB]
   exact ⟨List.Perm.refl _,fun j l a b=>h j l a b o!,fun _ _=>rfl,fun _=>rfl⟩
 | k+1,i,C,m,hk,hm,h=>by
   rw[iB,Nat.add_sub_cancel,W_]
   by_cases w:(C.g (k+1)).time<(C.g k).time
   · rw[decide_eq_true w,ak]
     have sg:=aa8 (C:=C) (k:=k) o!
     obtain ⟨p1,p2,p3,p4⟩:=EG k (i+1) ((C.set (k+1) (C.g k)).set k (C.g (k+1))) m o! (by simpa using hm) (fun j l a b c=>by
      rw[sg,sg]
      by_cases j1:j=k
      · rw[if_pos j1]
        by_cases l1:l=k+1
        · rw[if_neg o!,if_pos l1];omega
        · rw[if_neg c,if_neg l1]
          exact h (k+1) l o! b o!
      · rw[if_neg j1]
        by_cases j2:j=k+1
        · rw[if_pos j2,if_neg o!,if_neg o!]
          exact h k l o! b o!
        · rw[if_neg j2]
          by_cases l1:l=k+1
          · rw[if_neg o!,if_pos l1];exact h j k o! o! o!
          · rw[if_neg c,if_neg l1];exact h j l a b o!)
     refine ⟨p1.trans (swap_perm o!),p2,fun j hj=>?_,fun hf=>?_⟩
     · rw[p3 j hj,sg,if_neg o!,if_neg o!]
     · have hk0:k≠0:=fun e=>by subst e;have:=hf 1 o!;simp only[Nat.zero_add] at w;omega
       have g0:((C.set (k+1) (C.g k)).set k (C.g (k+1))).g 0=C.g 0:=by rw[sg,if_neg o!,if_neg o!]
       rw[p4 (fun l hl=>?_),g0]
       rw[g0,sg]
       have U8:l<C.length:=by simpa using hl
       split
       · exact hf _ o!
       · split
         · exact hf _ o!
         · exact hf _ U8
   · rw[decide_eq_false w,ah]
     refine ⟨List.Perm.refl _,fun j l a b=>?_,fun _ _=>rfl,fun _=>rfl⟩
     by_cases e:l=k+1
     · subst e
       by_cases e2:j=k
       · subst e2;omega
       · have:=h j k o! o! o!;omega
     · exact h j l a b e
theorem EH {n:Nat}:∀(k i:Nat) (C:List Gate),i+k=n→C.length=n→1≤i→(∀j l,j<l→l<i→(C.g j).time≤(C.g l).time)→
 (eM n k i C).Perm C∧(∀j l,j<l→l<n→((eM n k i C).g j).time≤((eM n k i C).g l).time)∧((∀l,l<C.length→(C.g 0).time≤(C.g l).time)→(eM n k i C).g 0=C.g 0)
 | 0,i,C,h,hl,h1,hs=>by
   rw[eM]
   exact ⟨List.Perm.refl _,fun j l a b=>hs j l a o!,fun _=>rfl⟩
 | k+1,i,C,h,hl,h1,hs=>by
   obtain ⟨p1,p2,p3,p4⟩:=EG i 0 C i (Nat.le_refl _) o! (fun j l a b c=>hs j l a o!)
   obtain ⟨q1,q2,q3⟩:=EH (n:=n) k (i+1) (iB i 0 C) o! (p1.length_eq.trans hl) o! (fun j l a b=>p2 j l a o!)
   rw[eM]
   refine ⟨q1.trans p1,q2,fun hf=>?_⟩
   have e0:=p4 hf
   rw[q3 (fun l ME=>?_),e0]
   rw[e0]
   have P5:l<(iB i 0 C).length:=ME
   have mem:(iB i 0 C).g l∈C:=p1.subset (by rw[nf P5];exact List.getElem_mem P5)
   obtain ⟨m,hm,e⟩:=List.mem_iff_getElem.1 mem
   have:=hf m hm
   rw[nf hm,e] at this;exact this
def qj (L:List Gate):List Gate:=eM L.length (L.length - 1) 1 L
theorem zd {L:List Gate} (h1:1≤L.length):(qj L).Perm L∧(∀j l,j≤l→l<L.length→((qj L).g j).time≤((qj L).g l).time)∧((∀l,l<L.length→(L.g 0).time≤(L.g l).time)→(qj L).g 0=L.g 0):=by
 obtain ⟨p1,p2,p3⟩:=EH (n:=L.length) (L.length - 1) 1 L o! rfl (Nat.le_refl _) (fun j l a b=>by omega)
 refine ⟨p1,fun j l a b=>?_,p3⟩
 rcases Nat.lt_or_eq_of_le a with e | e
 · exact p2 j l e b
 · subst e;exact Int.le_refl _
theorem Te {L:List Gate} (h1:1≤L.length) (ht:∀g∈L,(0≤g.time∧g.time≤100000)∧(KB (kn g)∨Open g)∧g.ax≤g.ar) (h0:(L.g 0).time=0) (hk:KB (kn (L.g 0))):NB (qj L)∧∀c,KG (qj L) c↔∃g∈L,KB (kn g)∧c=kn g:=by
 obtain ⟨p1,p2,p3⟩:=zd h1
 have len:=p1.length_eq
 have mem:∀k,k<(qj L).length→(qj L).g k∈L:=fun k hk=>p1.subset (by rw[nf hk];exact List.getElem_mem hk)
 have ag4:∀l,l<L.length→L.g l∈L:=fun l hl=>by rw[nf hl];exact List.getElem_mem hl
 have f0:=p3 (fun l hl=>by have:=(ht _ (ag4 l hl)).1;omega)
 refine ⟨⟨fun k hk=>(ht _ (mem k hk)).1,fun j k a b=>p2 j k a o!,fun k hk=>(ht _ (mem k hk)).2.1,by rw[f0];exact hk,fun k hk=>(ht _ (mem k hk)).2.2⟩,fun c=>⟨fun ⟨k,hk,kb,e⟩=>⟨_,mem k hk,kb,e⟩,fun ⟨g,hg,kb,e⟩=>?_⟩⟩
 obtain ⟨m,hm,rfl⟩:=List.mem_iff_getElem.1 (p1.symm.subset hg)
 exact ⟨m,hm,by rw[nf hm];exact kb,by rw[nf hm];exact e⟩
end
end Go.Proofs.aG
