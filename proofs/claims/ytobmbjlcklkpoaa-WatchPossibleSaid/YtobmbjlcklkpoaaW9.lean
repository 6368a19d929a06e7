import Derived.Test.YtobmbjlcklkpoaaW6
import Derived.Test.YtobmbjlcklkpoaaW8
import Derived.Test.YtobmbjlcklkpoaaW7
namespace Go.Proofs.aJ
open Go.Proofs Ab
noncomputable section
set_option maxRecDepth 100000
set_option maxHeartbeats 4000000
set_option linter.unusedVariables false
set_option linter.unusedSimpArgs false
def kn (g:Gate):cu:=⟨g.time,g.aq,g.ak⟩
def Open (g:Gate):Prop:=g.aq= -9223372036854775808∧g.ak=9223372036854775807
def Ns (q:ay) (a b:Gate):Gate:=⟨b.time,(ba (⟨b.aq,b.ak⟩:Span) (⟨(IntKind.i64.wrap (a.aq -(IntKind.i64.wrap (q.aD*(IntKind.i64.wrap (b.time - a.time)))))),(IntKind.i64.wrap (a.ak+(IntKind.i64.wrap (q.aC*(IntKind.i64.wrap (b.time - a.time))))))⟩:Span)).aP,(ba (⟨b.aq,b.ak⟩:Span) (⟨(IntKind.i64.wrap (a.aq -(IntKind.i64.wrap (q.aD*(IntKind.i64.wrap (b.time - a.time)))))),(IntKind.i64.wrap (a.ak+(IntKind.i64.wrap (q.aC*(IntKind.i64.wrap (b.time - a.time))))))⟩:Span)).aF⟩
def Wl (q:ay) (a b:Gate):Gate:=⟨a.time,(ba (⟨a.aq,a.ak⟩:Span) (⟨(IntKind.i64.wrap (b.aq -(IntKind.i64.wrap (q.aC*(IntKind.i64.wrap (b.time - a.time)))))),(IntKind.i64.wrap (b.ak+(IntKind.i64.wrap (q.aD*(IntKind.i64.wrap (b.time - a.time))))))⟩:Span)).aP,(ba (⟨a.aq,a.ak⟩:Span) (⟨(IntKind.i64.wrap (b.aq -(IntKind.i64.wrap (q.aC*(IntKind.i64.wrap (b.time - a.time)))))),(IntKind.i64.wrap (b.ak+(IntKind.i64.wrap (q.aD*(IntKind.i64.wrap (b.time - a.time))))))⟩:Span)).aF⟩
theorem Cy (q:ay) (n k i:Nat) (C:List Gate):jr q n (k+1) i C=bif decide (((C.set i (Ns q (C.g (i - 1)) (C.g i))).g i).ak<((C.set i (Ns q (C.g (i - 1)) (C.g i))).g i).aq) then none else jr q n k (i+1) (C.set i (Ns q (C.g (i - 1)) (C.g i))):=by rw[jr];rfl
theorem Cz (q:ay) (k i:Nat) (C:List Gate):js q (k+1) i C=js q k (i+1) (C.set k (Wl q (C.g k) (C.g (k+1)))):=by rw[js];rfl
theorem o_ {α:Type} [Inhabited α] {C:List α} {i:Nat} (x:α) (h:i<C.length):(C.set i x).g i=x:=by
 rw[List.g,List.getD_eq_getElem?_getD,List.getElem?_set_self h];rfl
theorem nm {α:Type} [Inhabited α] {C:List α} {i j:Nat} (x:α) (h:i≠j):(C.set i x).g j=C.g j:=by
 rw[List.g,List.g,List.getD_eq_getElem?_getD,List.getD_eq_getElem?_getD,List.getElem?_set_ne h]
structure Dn (f r:Int) (S:List Gate) (D:Nat→Prop) (g:Gate):Prop where
 aP:∃k,D k∧KB (kn (S.g k))∧g.aq=(iw f r (kn (S.g k)) g.time).aP
 aF:∃k,D k∧KB (kn (S.g k))∧g.ak=(iw f r (kn (S.g k)) g.time).aF
 all:∀k,D k→KB (kn (S.g k))→(iw f r (kn (S.g k)) g.time).aP≤g.aq∧g.ak≤(iw f r (kn (S.g k)) g.time).aF
structure Nt (S:List Gate):Prop where
 time:∀k,k<S.length→0≤(S.g k).time∧(S.g k).time≤100000
 order:∀j k,j≤k→k<S.length→(S.g j).time≤(S.g k).time
 each:∀k,k<S.length→KB (kn (S.g k))∨Open (S.g k)
 first:KB (kn (S.g 0))
 wide:∀k,k<S.length→(S.g k).aq≤(S.g k).ak
section
variable {q:ay} (f0:0≤q.aD) (f1:q.aD≤10000) (r0:0≤q.aC) (r1:q.aC≤10000) {S:List Gate} (gs:Nt S)
include f0 f1 r0 r1
theorem Er {k:cu} {t:Int} (hk:KB k) (t0:0≤t) (t1:t≤100000): -1001000000000≤(iw q.aD q.aC k t).aP∧(iw q.aD q.aC k t).aP≤1001000000000∧-1001000000000≤(iw q.aD q.aC k t).aF∧(iw q.aD q.aC k t).aF≤1001000000000:=by
 obtain ⟨⟨a,b⟩,c,d,e,g⟩:=hk
 rw[iw]
 split
 · obtain ⟨m1,m2⟩:=kE f0 f1 (x:=t - k.time) o! o!
   obtain ⟨m3,m4⟩:=kE r0 r1 (x:=t - k.time) o! o!
   exact ⟨by simp only;omega,by simp only;omega,by simp only;omega,by simp only;omega⟩
 · obtain ⟨m1,m2⟩:=kE f0 f1 (x:=k.time - t) o! o!
   obtain ⟨m3,m4⟩:=kE r0 r1 (x:=k.time - t) o! o!
   exact ⟨by simp only;omega,by simp only;omega,by simp only;omega,by simp only;omega⟩
include gs
theorem Wm {i:Nat} (hi:i+1<S.length) {a:Gate} (ht:a.time=(S.g i).time) (ha:Dn q.aD q.aC S (· ≤i) a):Dn q.aD q.aC S (· ≤i+1) (Ns q a (S.g (i+1)))∧(Ns q a (S.g (i+1))).time=(S.g (i+1)).time:=by
 have T0:=gs.time i o!;have T1:=gs.time (i+1) hi;have T2:=gs.order i (i+1) o! hi
 obtain ⟨c,c1,c2,c3⟩:=ha.aP
 obtain ⟨e,e1,e2,e3⟩:=ha.aF
 have bc:=Er f0 f1 r0 r1 c2 (t:=a.time) o! o!
 have be:=Er f0 f1 r0 r1 e2 (t:=a.time) o! o!
 obtain ⟨m1,m2⟩:=kE f0 f1 (x:=(S.g (i+1)).time - a.time) o! o!
 obtain ⟨m3,m4⟩:=kE r0 r1 (x:=(S.g (i+1)).time - a.time) o! o!
 have SP:(Ns q a (S.g (i+1))).aq=max (S.g (i+1)).aq (a.aq - q.aD*((S.g (i+1)).time - a.time)):=by
  simp only[Ns,ba,uh]
  rw[wrap_i64 (n:=(S.g (i+1)).time - a.time) o! o!,wrap_i64 (n:=q.aD*((S.g (i+1)).time - a.time)) o! o!,wrap_i64 (n:=a.aq - q.aD*((S.g (i+1)).time - a.time)) o! o!]
 have JJ:(Ns q a (S.g (i+1))).ak=min (S.g (i+1)).ak (a.ak+q.aC*((S.g (i+1)).time - a.time)):=by
  simp only[Ns,ba,xu]
  rw[wrap_i64 (n:=(S.g (i+1)).time - a.time) o! o!,wrap_i64 (n:=q.aC*((S.g (i+1)).time - a.time)) o! o!,wrap_i64 (n:=a.ak+q.aC*((S.g (i+1)).time - a.time)) o! o!]
 have xL:(Ns q a (S.g (i+1))).time=(S.g (i+1)).time:=rfl
 have late:∀k,k≤i→(iw q.aD q.aC (kn (S.g k)) (S.g (i+1)).time).aP=(iw q.aD q.aC (kn (S.g k)) a.time).aP - q.aD*((S.g (i+1)).time - a.time)∧(iw q.aD q.aC (kn (S.g k)) (S.g (i+1)).time).aF=(iw q.aD q.aC (kn (S.g k)) a.time).aF+q.aC*((S.g (i+1)).time - a.time):=fun k hk=>by
  have o1:=gs.order k i hk o!
  have h1:(kn (S.g k)).time≤a.time:=by show (S.g k).time≤a.time;omega
  have h2:(kn (S.g k)).time≤(S.g (i+1)).time:=by omega
  unfold iw
  rw[if_pos h1,if_pos h2]
  simp only[Int.mul_sub]
  omega
 have own:(iw q.aD q.aC (kn (S.g (i+1))) (S.g (i+1)).time).aP=(S.g (i+1)).aq∧(iw q.aD q.aC (kn (S.g (i+1))) (S.g (i+1)).time).aF=(S.g (i+1)).ak:=by
  unfold iw
  rw[if_pos (show (kn (S.g (i+1))).time≤(S.g (i+1)).time from Int.le_refl _)]
  simp only[kn,Int.sub_self,Int.mul_zero,Int.sub_zero,Int.add_zero,and_self]
 refine ⟨⟨?_,?_,?_⟩,xL⟩
 · rw[SP,xL]
   by_cases w:(S.g (i+1)).aq≤a.aq - q.aD*((S.g (i+1)).time - a.time)
   · exact ⟨c,by omega,c2,by rw[(late c c1).1];omega⟩
   · rcases gs.each (i+1) hi with kb | op
     · exact ⟨i+1,Nat.le_refl _,kb,by rw[own.1];omega⟩
     · have:=op.1;omega
 · rw[JJ,xL]
   by_cases w:a.ak+q.aC*((S.g (i+1)).time - a.time)≤(S.g (i+1)).ak
   · exact ⟨e,by omega,e2,by rw[(late e e1).2];omega⟩
   · rcases gs.each (i+1) hi with kb | op
     · exact ⟨i+1,Nat.le_refl _,kb,by rw[own.2];omega⟩
     · have:=op.2;omega
 · intro k hk kb
   rw[SP,JJ,xL]
   rcases Nat.lt_or_eq_of_le hk with h | h
   · have:=late k o!;have:=ha.all k o! kb;omega
   · subst h;have:=own;omega
theorem Wn {i:Nat} (hi:i+1<S.length) {a b:Gate} (ht:a.time=(S.g i).time) (hu:b.time=(S.g (i+1)).time) (ha:Dn q.aD q.aC S (· ≤i) a) (hb:Dn q.aD q.aC S (· <S.length) b):Dn q.aD q.aC S (· <S.length) (Wl q a b)∧(Wl q a b).time=(S.g i).time:=by
 have T0:=gs.time i o!;have T1:=gs.time (i+1) hi;have T2:=gs.order i (i+1) o! hi
 obtain ⟨c,c1,c2,c3⟩:=ha.aP
 obtain ⟨e,e1,e2,e3⟩:=ha.aF
 obtain ⟨c',c1',c2',c3'⟩:=hb.aP
 obtain ⟨e',e1',e2',e3'⟩:=hb.aF
 have bc:=Er f0 f1 r0 r1 c2 (t:=a.time) o! o!
 have be:=Er f0 f1 r0 r1 e2 (t:=a.time) o! o!
 have bc':=Er f0 f1 r0 r1 c2' (t:=b.time) o! o!
 have be':=Er f0 f1 r0 r1 e2' (t:=b.time) o! o!
 obtain ⟨m1,m2⟩:=kE f0 f1 (x:=b.time - a.time) o! o!
 obtain ⟨m3,m4⟩:=kE r0 r1 (x:=b.time - a.time) o! o!
 have SP:(Wl q a b).aq=max a.aq (b.aq - q.aC*(b.time - a.time)):=by
  simp only[Wl,ba,uh]
  rw[wrap_i64 (n:=b.time - a.time) o! o!,wrap_i64 (n:=q.aC*(b.time - a.time)) o! o!,wrap_i64 (n:=b.aq - q.aC*(b.time - a.time)) o! o!]
 have JJ:(Wl q a b).ak=min a.ak (b.ak+q.aD*(b.time - a.time)):=by
  simp only[Wl,ba,xu]
  rw[wrap_i64 (n:=b.time - a.time) o! o!,wrap_i64 (n:=q.aD*(b.time - a.time)) o! o!,wrap_i64 (n:=b.ak+q.aD*(b.time - a.time)) o! o!]
 have xL:(Wl q a b).time=a.time:=rfl
 have back:∀k,i<k→k<S.length→(iw q.aD q.aC (kn (S.g k)) a.time).aP=(iw q.aD q.aC (kn (S.g k)) b.time).aP - q.aC*(b.time - a.time)∧(iw q.aD q.aC (kn (S.g k)) a.time).aF=(iw q.aD q.aC (kn (S.g k)) b.time).aF+q.aD*(b.time - a.time):=fun k h1 h2=>by
  have o1:=gs.order (i+1) k o! h2
  have e1:b.time≤(kn (S.g k)).time:=by show b.time≤(S.g k).time;omega
  unfold iw
  by_cases w1:(kn (S.g k)).time≤a.time
  · have w2:(kn (S.g k)).time≤b.time:=by omega
    have w3:b.time=a.time:=by omega
    rw[if_pos w1,if_pos w2,w3]
    simp only[Int.sub_self,Int.mul_zero,Int.sub_zero,Int.add_zero,and_self]
  · rw[if_neg w1]
    by_cases w2:(kn (S.g k)).time≤b.time
    · have w3:(kn (S.g k)).time=b.time:=by omega
      rw[if_pos w2,w3]
      simp only[Int.sub_self,Int.mul_zero,Int.sub_zero,Int.add_zero,and_self]
    · rw[if_neg w2]
      simp only[Int.mul_sub]
      omega
 have aae:∀k,k≤i→(iw q.aD q.aC (kn (S.g k)) b.time).aP=(iw q.aD q.aC (kn (S.g k)) a.time).aP - q.aD*(b.time - a.time)∧(iw q.aD q.aC (kn (S.g k)) b.time).aF=(iw q.aD q.aC (kn (S.g k)) a.time).aF+q.aC*(b.time - a.time):=fun k hk=>by
  have o1:=gs.order k i hk o!
  have h1:(kn (S.g k)).time≤a.time:=by show (S.g k).time≤a.time;omega
  have h2:(kn (S.g k)).time≤b.time:=by omega
  unfold iw
  rw[if_pos h1,if_pos h2]
  simp only[Int.mul_sub]
  omega
 refine ⟨⟨?_,?_,?_⟩,by rw[xL];exact ht⟩
 · rw[SP,xL]
   by_cases w:b.aq - q.aC*(b.time - a.time)≤a.aq
   · exact ⟨c,by omega,c2,by omega⟩
   · by_cases w2:c'≤i
     · have:=aae c' w2;have:=ha.all c' w2 c2';omega
     · exact ⟨c',c1',c2',by rw[(back c' o! c1').1];omega⟩
 · rw[JJ,xL]
   by_cases w:a.ak≤b.ak+q.aD*(b.time - a.time)
   · exact ⟨e,by omega,e2,by omega⟩
   · by_cases w2:e'≤i
     · have:=aae e' w2;have:=ha.all e' w2 e2';omega
     · exact ⟨e',e1',e2',by rw[(back e' o! e1').2];omega⟩
 · intro k hk kb
   rw[SP,JJ,xL]
   by_cases w:k≤i
   · have:=ha.all k w kb;have:=aae k w;have:=hb.all k hk kb;omega
   · have:=back k o! hk;have:=hb.all k hk kb
     have:=ha.aP;have:=ha.aF
     omega
end
section
variable {q:ay} (f0:0≤q.aD) (f1:q.aD≤10000) (r0:0≤q.aC) (r1:q.aC≤10000) {S:List Gate} (gs:Nt S)
structure Fw (q:ay) (S C:List Gate) (i:Nat):Prop where
 len:C.length=S.length
 done:∀j,j<i→j<S.length→(C.g j).time=(S.g j).time∧Dn q.aD q.aC S (· ≤j) (C.g j)∧(C.g j).aq≤(C.g j).ak
 rest:∀j,i≤j→C.g j=S.g j
include f0 f1 r0 r1 gs
omit f0 f1 r0 r1 in
theorem SQ:Dn q.aD q.aC S (· ≤0) (S.g 0):=by
 have own:(iw q.aD q.aC (kn (S.g 0)) (S.g 0).time).aP=(S.g 0).aq∧(iw q.aD q.aC (kn (S.g 0)) (S.g 0).time).aF=(S.g 0).ak:=by
  unfold iw
  rw[if_pos (show (kn (S.g 0)).time≤(S.g 0).time from Int.le_refl _)]
  simp only[kn,Int.sub_self,Int.mul_zero,Int.sub_zero,Int.add_zero,and_self]
 refine ⟨⟨0,Nat.le_refl _,gs.first,own.1.symm⟩,⟨0,Nat.le_refl _,gs.first,own.2.symm⟩,fun k hk kb=>?_⟩
 obtain rfl:k=0:=by omega
 omega
theorem Nu {n:Nat}:∀(k i:Nat) (C:List Gate),i+k=S.length→1≤i→Fw q S C i→
 (jr q n k i C=none→∃c e t,c<S.length∧e<S.length∧KB (kn (S.g c))∧KB (kn (S.g e))∧(iw q.aD q.aC (kn (S.g e)) t).aF<(iw q.aD q.aC (kn (S.g c)) t).aP)∧∀W,jr q n k i C=some W→Fw q S W S.length
 | 0,i,C,h,h1,fw=>by
   refine ⟨fun e=>(by rw[jr] at e;cases e),fun W e=>?_⟩
   rw[jr] at e;cases e
   rw[show S.length=i by omega];exact fw
 | k+1,i,C,h,h1,fw=>by
   obtain ⟨j,rfl⟩:∃j,i=j+1:=⟨i - 1,by omega⟩
   obtain ⟨d1,d2,d3⟩:=fw.done j o! o!
   have er:=fw.rest (j+1) (Nat.le_refl _)
   obtain ⟨s1,s2⟩:=Wm f0 f1 r0 r1 gs (i:=j) o! d1 d2
   have cl:=fw.len
   rw[Cy,Nat.add_sub_cancel,er,o_ _ o!]
   by_cases w:(Ns q (C.g j) (S.g (j+1))).ak<(Ns q (C.g j) (S.g (j+1))).aq
   · rw[decide_eq_true w]
     refine ⟨fun _=>?_,fun W e=>(by cases e)⟩
     obtain ⟨c,c1,c2,c3⟩:=s1.aP
     obtain ⟨e,e1,e2,e3⟩:=s1.aF
     exact ⟨c,e,_,by omega,by omega,c2,e2,by rw[←e3,←c3];exact w⟩
   · rw[decide_eq_false w,ai]
     refine Nu k (j+2) _ o! o! ⟨by rw[List.length_set];exact cl,fun m hm hm2=>?_,fun m hm=>?_⟩
     · by_cases e:m=j+1
       · subst e;rw[o_ _ o!];exact ⟨s2,s1,by omega⟩
       · rw[nm _ (Ne.symm e)];exact fw.done m o! hm2
     · rw[nm _ o!];exact fw.rest m o!
theorem Nv:∀(k i:Nat) (C:List Gate),k<S.length→C.length=S.length→(∀j,j<k→(C.g j).time=(S.g j).time∧Dn q.aD q.aC S (· ≤j) (C.g j))→(∀j,k≤j→j<S.length→(C.g j).time=(S.g j).time∧Dn q.aD q.aC S (· <S.length) (C.g j))→
 (js q k i C).length=S.length∧∀j,j<S.length→((js q k i C).g j).time=(S.g j).time∧Dn q.aD q.aC S (· <S.length) ((js q k i C).g j)
 | 0,i,C,hk,hl,h1,h2=>by rw[js];exact ⟨hl,fun j hj=>h2 j (Nat.zero_le _) hj⟩
 | k+1,i,C,hk,hl,h1,h2=>by
   obtain ⟨a1,a2⟩:=h1 k o!
   obtain ⟨b1,b2⟩:=h2 (k+1) (Nat.le_refl _) hk
   obtain ⟨s1,s2⟩:=Wn f0 f1 r0 r1 gs hk a1 b1 a2 b2
   rw[Cz]
   refine Nv k (i+1) _ o! (by rw[List.length_set];exact hl) (fun j hj=>?_) (fun j hj Um=>?_)
   · rw[nm _ o!];exact h1 j o!
   · by_cases e:j=k
     · subst e;rw[o_ _ o!];exact ⟨s2,s1⟩
     · rw[nm _ (Ne.symm e)];exact h2 j o! Um
def KG (S:List Gate) (c:cu):Prop:=∃k,k<S.length∧KB (kn (S.g k))∧c=kn (S.g k)
def GG (f r:Int) (K:cu→Prop):Prop:=∀i,K i→∀k,K k→max (iw f r i k.time).aP k.aq≤min (iw f r i k.time).aF k.ak
omit f0 f1 r0 r1 gs in
theorem JK {f r:Int} {K:cu→Prop} {a b:cu} (h:GG f r K) (ha:K a) (hb:K b):ox f r [a,b]:=by
 intro i hi k hk
 have m:∀x∈ [a,b],K x:=fun x hx=>by
  rcases List.mem_cons.1 hx with rfl | hx
  · exact ha
  · rw[List.mem_singleton] at hx;subst hx;exact hb
 exact h i (m i hi) k (m k hk)
theorem OV {n:Nat} (hn:n=S.length) (hn1:1≤n):
 (jr q n (n - 1) 1 S=none↔¬GG q.aD q.aC (KG S))∧∀W,jr q n (n - 1) 1 S=some W→(js q (n - 1) 0 W).length=n∧∀j,j<n→((js q (n - 1) 0 W).g j).time=(S.g j).time∧∀x,(((js q (n - 1) 0 W).g j).aq≤x∧x≤((js q (n - 1) 0 W).g j).ak)↔∀c,KG S c→(iw q.aD q.aC c (S.g j).time).aP≤x∧x≤(iw q.aD q.aC c (S.g j).time).aF:=by
 subst hn
 have fw1:Fw q S S 1:=⟨rfl,(fun j hj Um=>by
  obtain rfl:j=0:=by omega
  exact ⟨rfl,SQ gs,gs.wide 0 o!⟩),fun _ _=>rfl⟩
 obtain ⟨l1,l2⟩:=Nu f0 f1 r0 r1 gs (n:=S.length) (S.length - 1) 1 S o! (Nat.le_refl _) fw1
 have Lw:∀W,jr q S.length (S.length - 1) 1 S=some W→GG q.aD q.aC (KG S):=fun W e=>by
  have fw:=l2 W e
  have SU:∀i k,i≤k→k<S.length→KB (kn (S.g i))→KB (kn (S.g k))→(iw q.aD q.aC (kn (S.g i)) (S.g k).time).aP≤(S.g k).ak∧(S.g k).aq≤(iw q.aD q.aC (kn (S.g i)) (S.g k).time).aF:=fun i k jZ hk ki kk=>by
   obtain ⟨t1,s1,w1⟩:=fw.done k hk hk
   have a:=s1.all i jZ ki
   have b:=s1.all k (Nat.le_refl _) kk
   rw[t1] at a b
   have own:(iw q.aD q.aC (kn (S.g k)) (S.g k).time).aP=(S.g k).aq∧(iw q.aD q.aC (kn (S.g k)) (S.g k).time).aF=(S.g k).ak:=by
    unfold iw
    rw[if_pos (show (kn (S.g k)).time≤(S.g k).time from Int.le_refl _)]
    simp only[kn,Int.sub_self,Int.mul_zero,Int.sub_zero,Int.add_zero,and_self]
   omega
  have sym:∀i k,i≤k→k<S.length→KB (kn (S.g i))→KB (kn (S.g k))→(iw q.aD q.aC (kn (S.g k)) (S.g i).time).aP≤(S.g i).ak∧(S.g i).aq≤(iw q.aD q.aC (kn (S.g k)) (S.g i).time).aF:=fun i k jZ hk ki kk=>by
   have h:=SU i k jZ hk ki kk
   have o:=gs.order i k jZ hk
   have M:∀(c x y:Int),0≤c→x≤y→c*x≤c*y:=fun c x y hc hx=>Int.mul_le_mul_of_nonneg_left hx hc
   unfold iw at h ⊢
   rw[if_pos (show (kn (S.g i)).time≤(S.g k).time from o)] at h
   by_cases w:(kn (S.g k)).time≤(S.g i).time
   · have w':(S.g k).time≤(S.g i).time:=w
     have e1:(S.g i).time=(S.g k).time:=by omega
     rw[if_pos w]
     simp only[kn,e1,Int.sub_self,Int.mul_zero,Int.sub_zero,Int.add_zero] at h ⊢
     omega
   · rw[if_neg w]
     simp only[kn] at h ⊢
     omega
  rintro _ ⟨i,hi,ki,rfl⟩ _ ⟨k,hk,kk,rfl⟩
  have wi:=gs.wide i hi;have wk:=gs.wide k hk
  have nonempty:(iw q.aD q.aC (kn (S.g i)) (kn (S.g k)).time).aP≤(iw q.aD q.aC (kn (S.g i)) (kn (S.g k)).time).aF:=by
   have T1:=gs.time i hi;have T2:=gs.time k hk
   unfold iw
   split
   · rename_i w
     obtain ⟨m1,m2⟩:=kE f0 f1 (x:=(kn (S.g k)).time -(kn (S.g i)).time) (by simp only[kn] at w ⊢;omega) (by simp only[kn];omega)
     obtain ⟨m3,m4⟩:=kE r0 r1 (x:=(kn (S.g k)).time -(kn (S.g i)).time) (by simp only[kn] at w ⊢;omega) (by simp only[kn];omega)
     simp only[kn] at *;omega
   · rename_i w
     obtain ⟨m1,m2⟩:=kE f0 f1 (x:=(kn (S.g i)).time -(kn (S.g k)).time) (by simp only[kn] at w ⊢;omega) (by simp only[kn];omega)
     obtain ⟨m3,m4⟩:=kE r0 r1 (x:=(kn (S.g i)).time -(kn (S.g k)).time) (by simp only[kn] at w ⊢;omega) (by simp only[kn];omega)
     simp only[kn] at *;omega
  have pair:(iw q.aD q.aC (kn (S.g i)) (S.g k).time).aP≤(S.g k).ak∧(S.g k).aq≤(iw q.aD q.aC (kn (S.g i)) (S.g k).time).aF:=by
   by_cases w:i≤k
   · exact SU i k w hk ki kk
   · exact sym k i o! hi kk ki
  show max (iw q.aD q.aC (kn (S.g i)) (S.g k).time).aP (S.g k).aq≤min (iw q.aD q.aC (kn (S.g i)) (S.g k).time).aF (S.g k).ak
  have:(iw q.aD q.aC (kn (S.g i)) (S.g k).time).aP≤(iw q.aD q.aC (kn (S.g i)) (S.g k).time).aF:=nonempty
  omega
 refine ⟨⟨fun e h=>?_,fun h=>?_⟩,fun W e=>?_⟩
 · obtain ⟨c,d,t,c1,d1,c2,d2,w⟩:=l1 e
   have:=Co f0 r0 (JK h ⟨c,c1,c2,rfl⟩ ⟨d,d1,d2,rfl⟩) t (i:=kn (S.g c)) (k:=kn (S.g d)) (by simp) (by simp)
   omega
 · cases e:jr q S.length (S.length - 1) 1 S with
   | none=>rfl
   | some W=>exact absurd (Lw W e) h
 · have fw:=l2 W e
   obtain ⟨b1,b2⟩:=Nv f0 f1 r0 r1 gs (S.length - 1) 0 W o! fw.len (fun j hj=>⟨(fw.done j o! o!).1,(fw.done j o! o!).2.1⟩) (fun j hj Um=>by
    obtain rfl:j=S.length - 1:=by omega
    obtain ⟨t1,s1,_⟩:=fw.done (S.length - 1) o! o!
    refine ⟨t1,?_,?_,fun k hk kb=>s1.all k o! kb⟩
    · obtain ⟨c,c1,c2,c3⟩:=s1.aP;exact ⟨c,by omega,c2,c3⟩
    · obtain ⟨c,c1,c2,c3⟩:=s1.aF;exact ⟨c,by omega,c2,c3⟩)
   refine ⟨b1,fun j hj=>?_⟩
   obtain ⟨t1,s1⟩:=b2 j hj
   refine ⟨t1,fun x=>?_⟩
   obtain ⟨c,c1,c2,c3⟩:=s1.aP
   obtain ⟨d,d1,d2,d3⟩:=s1.aF
   rw[t1] at c3 d3
   constructor
   · rintro hx _ ⟨k,hk,kb,rfl⟩
     have:=s1.all k hk kb
     rw[t1] at this;omega
   · intro h
     have:=h _ ⟨c,c1,c2,rfl⟩;have:=h _ ⟨d,d1,d2,rfl⟩;omega
end
theorem Wo (a b:Gate):decide (nD a b<0)=decide (a.time<b.time):=by
 rw[nD,nL]
 by_cases h:a.time<b.time
 · simp [lj,h]
 · by_cases h2:b.time<a.time
   · simp [lj,h,h2]
   · simp [lj,h,h2]
theorem nE {α:Type} [Inhabited α] {C:List α} {i:Nat} (h:i<C.length):C.g i=C[i]:=by
 rw[List.g,List.getD_eq_getElem?_getD,List.getElem?_eq_getElem h];rfl
theorem swap_perm {C:List Gate} {k:Nat} (h:k+1<C.length):((C.set (k+1) (C.g k)).set k (C.g (k+1))).Perm C:=by
 rw[nE (by omega:k<C.length),nE h]
 exact List.set_set_perm h o!
theorem aaf {C:List Gate} {k:Nat} (h:k+1<C.length) (j:Nat):((C.set (k+1) (C.g k)).set k (C.g (k+1))).g j=if j=k then C.g (k+1) else if j=k+1 then C.g k else C.g j:=by
 by_cases e:j=k
 · subst e;rw[if_pos rfl,o_ _ (by rw[List.length_set];omega)]
 · rw[if_neg e,nm _ (Ne.symm e)]
   by_cases e2:j=k+1
   · subst e2;rw[if_pos rfl,o_ _ h]
   · rw[if_neg e2,nm _ (Ne.symm e2)]
theorem Es:∀(k i:Nat) (C:List Gate) (m:Nat),k≤m→m<C.length→(∀j l,j<l→l≤m→l≠k→(C.g j).time≤(C.g l).time)→
 (jg k i C).Perm C∧(∀j l,j<l→l≤m→((jg k i C).g j).time≤((jg k i C).g l).time)∧(∀j,m<j→(jg k i C).g j=C.g j)∧((∀l,l<C.length→(C.g 0).time≤(C.g l).time)→(jg k i C).g 0=C.g 0)
 | 0,i,C,m,hk,hm,h=>by
   rw[jg]
   exact ⟨List.Perm.refl _,fun j l a b=>h j l a b o!,fun _ _=>rfl,fun _=>rfl⟩
 | k+1,i,C,m,hk,hm,h=>by
   rw[jg,Nat.add_sub_cancel,Wo]
   by_cases w:(C.g (k+1)).time<(C.g k).time
   · rw[decide_eq_true w,aj]
     have sg:=aaf (C:=C) (k:=k) o!
     obtain ⟨p1,p2,p3,p4⟩:=Es k (i+1) ((C.set (k+1) (C.g k)).set k (C.g (k+1))) m o! (by simpa using hm) (fun j l a b c=>by
      rw[sg,sg]
      by_cases j1:j=k
      · rw[if_pos j1]
        by_cases l1:l=k+1
        · rw[if_neg o!,if_pos l1];omega
        · rw[if_neg c,if_neg l1]
          exact h (k+1) l o! b o!
      · rw[if_neg j1]
        by_cases j2:j=k+1
        · rw[if_pos j2,if_neg o!,if_neg o!]
          exact h k l o! b o!
        · rw[if_neg j2]
          by_cases l1:l=k+1
          · rw[if_neg o!,if_pos l1];exact h j k o! o! o!
          · rw[if_neg c,if_neg l1];exact h j l a b o!)
     refine ⟨p1.trans (swap_perm o!),p2,fun j hj=>?_,fun hf=>?_⟩
     · rw[p3 j hj,sg,if_neg o!,if_neg o!]
     · have hk0:k≠0:=fun e=>by subst e;have:=hf 1 o!;simp only[Nat.zero_add] at w;omega
       have g0:((C.set (k+1) (C.g k)).set k (C.g (k+1))).g 0=C.g 0:=by rw[sg,if_neg o!,if_neg o!]
       rw[p4 (fun l hl=>?_),g0]
       rw[g0,sg]
       have Uh:l<C.length:=by simpa using hl
       split
       · exact hf _ o!
       · split
         · exact hf _ o!
         · exact hf _ Uh
   · rw[decide_eq_false w,ai]
     refine ⟨List.Perm.refl _,fun j l a b=>?_,fun _ _=>rfl,fun _=>rfl⟩
     by_cases e:l=k+1
     · subst e
       by_cases e2:j=k
       · subst e2;omega
       · have:=h j k o! o! o!;omega
     · exact h j l a b e
theorem Et {n:Nat}:∀(k i:Nat) (C:List Gate),i+k=n→C.length=n→1≤i→(∀j l,j<l→l<i→(C.g j).time≤(C.g l).time)→
 (fA n k i C).Perm C∧(∀j l,j<l→l<n→((fA n k i C).g j).time≤((fA n k i C).g l).time)∧((∀l,l<C.length→(C.g 0).time≤(C.g l).time)→(fA n k i C).g 0=C.g 0)
 | 0,i,C,h,hl,h1,hs=>by
   rw[fA]
   exact ⟨List.Perm.refl _,fun j l a b=>hs j l a o!,fun _=>rfl⟩
 | k+1,i,C,h,hl,h1,hs=>by
   obtain ⟨p1,p2,p3,p4⟩:=Es i 0 C i (Nat.le_refl _) o! (fun j l a b c=>hs j l a o!)
   obtain ⟨q1,q2,q3⟩:=Et (n:=n) k (i+1) (jg i 0 C) o! (p1.length_eq.trans hl) o! (fun j l a b=>p2 j l a o!)
   rw[fA]
   refine ⟨q1.trans p1,q2,fun hf=>?_⟩
   have e0:=p4 hf
   rw[q3 (fun l Qa=>?_),e0]
   rw[e0]
   have Pl:l<(jg i 0 C).length:=Qa
   have mem:(jg i 0 C).g l∈C:=p1.subset (by rw[nE Pl];exact List.getElem_mem Pl)
   obtain ⟨m,hm,e⟩:=List.mem_iff_getElem.1 mem
   have:=hf m hm
   rw[nE hm,e] at this;exact this
def qw (L:List Gate):List Gate:=fA L.length (L.length - 1) 1 L
theorem yS {L:List Gate} (h1:1≤L.length):(qw L).Perm L∧(∀j l,j≤l→l<L.length→((qw L).g j).time≤((qw L).g l).time)∧((∀l,l<L.length→(L.g 0).time≤(L.g l).time)→(qw L).g 0=L.g 0):=by
 obtain ⟨p1,p2,p3⟩:=Et (n:=L.length) (L.length - 1) 1 L o! rfl (Nat.le_refl _) (fun j l a b=>by omega)
 refine ⟨p1,fun j l a b=>?_,p3⟩
 rcases Nat.lt_or_eq_of_le a with e | e
 · exact p2 j l e b
 · subst e;exact Int.le_refl _
theorem SV {L:List Gate} (h1:1≤L.length) (ht:∀g∈L,(0≤g.time∧g.time≤100000)∧(KB (kn g)∨Open g)∧g.aq≤g.ak) (h0:(L.g 0).time=0) (hk:KB (kn (L.g 0))):Nt (qw L)∧∀c,KG (qw L) c↔∃g∈L,KB (kn g)∧c=kn g:=by
 obtain ⟨p1,p2,p3⟩:=yS h1
 have len:=p1.length_eq
 have mem:∀k,k<(qw L).length→(qw L).g k∈L:=fun k hk=>p1.subset (by rw[nE hk];exact List.getElem_mem hk)
 have afq:∀l,l<L.length→L.g l∈L:=fun l hl=>by rw[nE hl];exact List.getElem_mem hl
 have f0:=p3 (fun l hl=>by have:=(ht _ (afq l hl)).1;omega)
 refine ⟨⟨fun k hk=>(ht _ (mem k hk)).1,fun j k a b=>p2 j k a o!,fun k hk=>(ht _ (mem k hk)).2.1,by rw[f0];exact hk,fun k hk=>(ht _ (mem k hk)).2.2⟩,fun c=>⟨fun ⟨k,hk,kb,e⟩=>⟨_,mem k hk,kb,e⟩,fun ⟨g,hg,kb,e⟩=>?_⟩⟩
 obtain ⟨m,hm,rfl⟩:=List.mem_iff_getElem.1 (p1.symm.subset hg)
 exact ⟨m,hm,by rw[nE hm];exact kb,by rw[nE hm];exact e⟩
end
end Go.Proofs.aJ
