import Derived.Test.YtfllahfbmaafcaaW5
import Derived.Test.YtfllahfbmaafcaaW4
namespace Go.Proofs.aH
open Go.Proofs Ab
noncomputable section
set_option maxRecDepth 100000
set_option maxHeartbeats 4000000
set_option linter.unusedVariables false
set_option linter.unusedSimpArgs false
section
variable {q:ay} (f0:0≤q.aK) (f1:q.aK≤10000) (r0:0≤q.aI) (r1:q.aI≤10000) {S:List Gate} (gs:N8 S)
structure Fw (q:ay) (S C:List Gate) (i:Nat):Prop where
 len:C.length=S.length
 done:∀j,j<i→j<S.length→(C.g j).time=(S.g j).time∧DZ q.aK q.aI S (· ≤j) (C.g j)∧(C.g j).ax≤(C.g j).ar
 rest:∀j,i≤j→C.g j=S.g j
include f0 f1 r0 r1 gs
omit f0 f1 r0 r1 in
theorem TO:DZ q.aK q.aI S (· ≤0) (S.g 0):=by
 have own:(gM q.aK q.aI (kn (S.g 0)) (S.g 0).time).aX=(S.g 0).ax∧(gM q.aK q.aI (kn (S.g 0)) (S.g 0).time).aG=(S.g 0).ar:=by
  unfold gM
  rw[if_pos (show (kn (S.g 0)).time≤(S.g 0).time from Int.le_refl _)]
  simp only[kn,Int.sub_self,Int.mul_zero,Int.sub_zero,Int.add_zero,and_self]
 refine ⟨⟨0,Nat.le_refl _,gs.first,own.1.symm⟩,⟨0,Nat.le_refl _,gs.first,own.2.symm⟩,fun k hk kb=>?_⟩
 obtain rfl:k=0:=by omega
 omega
theorem N9 {n:Nat}:∀(k i:Nat) (C:List Gate),i+k=S.length→1≤i→Fw q S C i→
 (iZ q n k i C=none→∃c e t,c<S.length∧e<S.length∧KB (kn (S.g c))∧KB (kn (S.g e))∧(gM q.aK q.aI (kn (S.g e)) t).aG<(gM q.aK q.aI (kn (S.g c)) t).aX)∧∀W,iZ q n k i C=some W→Fw q S W S.length
 | 0,i,C,h,h1,fw=>by
   refine ⟨fun e=>(by rw[iZ] at e;cases e),fun W e=>?_⟩
   rw[iZ] at e;cases e
   rw[show S.length=i by omega];exact fw
 | k+1,i,C,h,h1,fw=>by
   obtain ⟨j,rfl⟩:∃j,i=j+1:=⟨i - 1,by omega⟩
   obtain ⟨d1,d2,d3⟩:=fw.done j o! o!
   have er:=fw.rest (j+1) (Nat.le_refl _)
   obtain ⟨s1,s2⟩:=X6 f0 f1 r0 r1 gs (i:=j) o! d1 d2
   have cl:=fw.len
   rw[C4,Nat.add_sub_cancel,er,oT _ o!]
   by_cases w:(N7 q (C.g j) (S.g (j+1))).ar<(N7 q (C.g j) (S.g (j+1))).ax
   · rw[decide_eq_true w]
     refine ⟨fun _=>?_,fun W e=>(by cases e)⟩
     obtain ⟨c,c1,c2,c3⟩:=s1.aX
     obtain ⟨e,e1,e2,e3⟩:=s1.aG
     exact ⟨c,e,_,by omega,by omega,c2,e2,by rw[←e3,←c3];exact w⟩
   · rw[decide_eq_false w,ai]
     refine N9 k (j+2) _ o! o! ⟨by rw[List.length_set];exact cl,fun m hm hm2=>?_,fun m hm=>?_⟩
     · by_cases e:m=j+1
       · subst e;rw[oT _ o!];exact ⟨s2,s1,by omega⟩
       · rw[mV _ (Ne.symm e)];exact fw.done m o! hm2
     · rw[mV _ o!];exact fw.rest m o!
theorem N_:∀(k i:Nat) (C:List Gate),k<S.length→C.length=S.length→(∀j,j<k→(C.g j).time=(S.g j).time∧DZ q.aK q.aI S (· ≤j) (C.g j))→(∀j,k≤j→j<S.length→(C.g j).time=(S.g j).time∧DZ q.aK q.aI S (· <S.length) (C.g j))→
 (ja q k i C).length=S.length∧∀j,j<S.length→((ja q k i C).g j).time=(S.g j).time∧DZ q.aK q.aI S (· <S.length) ((ja q k i C).g j)
 | 0,i,C,hk,hl,h1,h2=>by rw[ja];exact ⟨hl,fun j hj=>h2 j (Nat.zero_le _) hj⟩
 | k+1,i,C,hk,hl,h1,h2=>by
   obtain ⟨a1,a2⟩:=h1 k o!
   obtain ⟨b1,b2⟩:=h2 (k+1) (Nat.le_refl _) hk
   obtain ⟨s1,s2⟩:=X7 f0 f1 r0 r1 gs hk a1 b1 a2 b2
   rw[C5]
   refine N_ k (i+1) _ o! (by rw[List.length_set];exact hl) (fun j hj=>?_) (fun j hj LF=>?_)
   · rw[mV _ o!];exact h1 j o!
   · by_cases e:j=k
     · subst e;rw[oT _ o!];exact ⟨s2,s1⟩
     · rw[mV _ (Ne.symm e)];exact h2 j o! LF
def KG (S:List Gate) (c:di):Prop:=∃k,k<S.length∧KB (kn (S.g k))∧c=kn (S.g k)
def Hm (f r:Int) (K:di→Prop):Prop:=∀i,K i→∀k,K k→max (gM f r i k.time).aX k.ax≤min (gM f r i k.time).aG k.ar
omit f0 f1 r0 r1 gs in
theorem JX {f r:Int} {K:di→Prop} {a b:di} (h:Hm f r K) (ha:K a) (hb:K b):ou f r [a,b]:=by
 intro i hi k hk
 have m:∀x∈ [a,b],K x:=fun x hx=>by
  rcases List.mem_cons.1 hx with rfl | hx
  · exact ha
  · rw[List.mem_singleton] at hx;subst hx;exact hb
 exact h i (m i hi) k (m k hk)
theorem PL {n:Nat} (hn:n=S.length) (hn1:1≤n):
 (iZ q n (n - 1) 1 S=none↔¬Hm q.aK q.aI (KG S))∧∀W,iZ q n (n - 1) 1 S=some W→(ja q (n - 1) 0 W).length=n∧∀j,j<n→((ja q (n - 1) 0 W).g j).time=(S.g j).time∧∀x,(((ja q (n - 1) 0 W).g j).ax≤x∧x≤((ja q (n - 1) 0 W).g j).ar)↔∀c,KG S c→(gM q.aK q.aI c (S.g j).time).aX≤x∧x≤(gM q.aK q.aI c (S.g j).time).aG:=by
 subst hn
 have fw1:Fw q S S 1:=⟨rfl,(fun j hj LF=>by
  obtain rfl:j=0:=by omega
  exact ⟨rfl,TO gs,gs.wide 0 o!⟩),fun _ _=>rfl⟩
 obtain ⟨l1,l2⟩:=N9 f0 f1 r0 r1 gs (n:=S.length) (S.length - 1) 1 S o! (Nat.le_refl _) fw1
 have Mj:∀W,iZ q S.length (S.length - 1) 1 S=some W→Hm q.aK q.aI (KG S):=fun W e=>by
  have fw:=l2 W e
  have TP:∀i k,i≤k→k<S.length→KB (kn (S.g i))→KB (kn (S.g k))→(gM q.aK q.aI (kn (S.g i)) (S.g k).time).aX≤(S.g k).ar∧(S.g k).ax≤(gM q.aK q.aI (kn (S.g i)) (S.g k).time).aG:=fun i k kY hk ki kk=>by
   obtain ⟨t1,s1,w1⟩:=fw.done k hk hk
   have a:=s1.all i kY ki
   have b:=s1.all k (Nat.le_refl _) kk
   rw[t1] at a b
   have own:(gM q.aK q.aI (kn (S.g k)) (S.g k).time).aX=(S.g k).ax∧(gM q.aK q.aI (kn (S.g k)) (S.g k).time).aG=(S.g k).ar:=by
    unfold gM
    rw[if_pos (show (kn (S.g k)).time≤(S.g k).time from Int.le_refl _)]
    simp only[kn,Int.sub_self,Int.mul_zero,Int.sub_zero,Int.add_zero,and_self]
   omega
  have sym:∀i k,i≤k→k<S.length→KB (kn (S.g i))→KB (kn (S.g k))→(gM q.aK q.aI (kn (S.g k)) (S.g i).time).aX≤(S.g i).ar∧(S.g i).ax≤(gM q.aK q.aI (kn (S.g k)) (S.g i).time).aG:=fun i k kY hk ki kk=>by
   have h:=TP i k kY hk ki kk
   have o:=gs.order i k kY hk
   have M:∀(c x y:Int),0≤c→x≤y→c*x≤c*y:=fun c x y hc hx=>Int.mul_le_mul_of_nonneg_left hx hc
   unfold gM at h ⊢
   rw[if_pos (show (kn (S.g i)).time≤(S.g k).time from o)] at h
   by_cases w:(kn (S.g k)).time≤(S.g i).time
   · have w':(S.g k).time≤(S.g i).time:=w
     have e1:(S.g i).time=(S.g k).time:=by omega
     rw[if_pos w]
     simp only[kn,e1,Int.sub_self,Int.mul_zero,Int.sub_zero,Int.add_zero] at h ⊢
     omega
   · rw[if_neg w]
     simp only[kn] at h ⊢
     omega
  rintro _ ⟨i,hi,ki,rfl⟩ _ ⟨k,hk,kk,rfl⟩
  have wi:=gs.wide i hi;have wk:=gs.wide k hk
  have nonempty:(gM q.aK q.aI (kn (S.g i)) (kn (S.g k)).time).aX≤(gM q.aK q.aI (kn (S.g i)) (kn (S.g k)).time).aG:=by
   have T1:=gs.time i hi;have T2:=gs.time k hk
   unfold gM
   split
   · rename_i w
     obtain ⟨m1,m2⟩:=ji f0 f1 (x:=(kn (S.g k)).time -(kn (S.g i)).time) (by simp only[kn] at w ⊢;omega) (by simp only[kn];omega)
     obtain ⟨m3,m4⟩:=ji r0 r1 (x:=(kn (S.g k)).time -(kn (S.g i)).time) (by simp only[kn] at w ⊢;omega) (by simp only[kn];omega)
     simp only[kn] at *;omega
   · rename_i w
     obtain ⟨m1,m2⟩:=ji f0 f1 (x:=(kn (S.g i)).time -(kn (S.g k)).time) (by simp only[kn] at w ⊢;omega) (by simp only[kn];omega)
     obtain ⟨m3,m4⟩:=ji r0 r1 (x:=(kn (S.g i)).time -(kn (S.g k)).time) (by simp only[kn] at w ⊢;omega) (by simp only[kn];omega)
     simp only[kn] at *;omega
  have pair:(gM q.aK q.aI (kn (S.g i)) (S.g k).time).aX≤(S.g k).ar∧(S.g k).ax≤(gM q.aK q.aI (kn (S.g i)) (S.g k).time).aG:=by
   by_cases w:i≤k
   · exact TP i k w hk ki kk
   · exact sym k i o! hi kk ki
  show max (gM q.aK q.aI (kn (S.g i)) (S.g k).time).aX (S.g k).ax≤min (gM q.aK q.aI (kn (S.g i)) (S.g k).time).aG (S.g k).ar
  have:(gM q.aK q.aI (kn (S.g i)) (S.g k).time).aX≤(gM q.aK q.aI (kn (S.g i)) (S.g k).time).aG:=nonempty
  omega
 refine ⟨⟨fun e h=>?_,fun h=>?_⟩,fun W e=>?_⟩
 · obtain ⟨c,d,t,c1,d1,c2,d2,w⟩:=l1 e
   have:=CD f0 r0 (JX h ⟨c,c1,c2,rfl⟩ ⟨d,d1,d2,rfl⟩) t (i:=kn (S.g c)) (k:=kn (S.g d)) (by simp) (by simp)
   omega
 · cases e:iZ q S.length (S.length - 1) 1 S with
   | none=>rfl
   | some W=>exact absurd (Mj W e) h
 · have fw:=l2 W e
   obtain ⟨b1,b2⟩:=N_ f0 f1 r0 r1 gs (S.length - 1) 0 W o! fw.len (fun j hj=>⟨(fw.done j o! o!).1,(fw.done j o! o!).2.1⟩) (fun j hj LF=>by
    obtain rfl:j=S.length - 1:=by omega
    obtain ⟨t1,s1,_⟩:=fw.done (S.length - 1) o! o!
    refine ⟨t1,?_,?_,fun k hk kb=>s1.all k o! kb⟩
    · obtain ⟨c,c1,c2,c3⟩:=s1.aX;exact ⟨c,by omega,c2,c3⟩
    · obtain ⟨c,c1,c2,c3⟩:=s1.aG;exact ⟨c,by omega,c2,c3⟩)
   refine ⟨b1,fun j hj=>?_⟩
   obtain ⟨t1,s1⟩:=b2 j hj
   refine ⟨t1,fun x=>?_⟩
   obtain ⟨c,c1,c2,c3⟩:=s1.aX
   obtain ⟨d,d1,d2,d3⟩:=s1.aG
   rw[t1] at c3 d3
   constructor
   · rintro hx _ ⟨k,hk,kb,rfl⟩
     have:=s1.all k hk kb
     rw[t1] at this;omega
   · intro h
     have:=h _ ⟨c,c1,c2,rfl⟩;have:=h _ ⟨d,d1,d2,rfl⟩;omega
end
theorem X8 (a b:Gate):decide (nw a b<0)=decide (a.time<b.time):=by
 rw[nw,nE]
 by_cases h:a.time<b.time
 · simp [kz,h]
 · by_cases h2:b.time<a.time
   · simp [kz,h,h2]
   · simp [kz,h,h2]
theorem nA {α:Type} [Inhabited α] {C:List α} {i:Nat} (h:i<C.length):C.g i=C[i]:=by
 rw[List.g,List.getD_eq_getElem?_getD,List.getElem?_eq_getElem h];rfl
theorem swap_perm {C:List Gate} {k:Nat} (h:k+1<C.length):((C.set (k+1) (C.g k)).set k (C.g (k+1))).Perm C:=by
 rw[nA (by omega:k<C.length),nA h]
 exact List.set_set_perm h o!
theorem abE {C:List Gate} {k:Nat} (h:k+1<C.length) (j:Nat):((C.set (k+1) (C.g k)).set k (C.g (k+1))).g j=if j=k then C.g (k+1) else if j=k+1 then C.g k else C.g j:=by
 by_cases e:j=k
 · subst e;rw[if_pos rfl,oT _ (by rw[List.length_set];omega)]
 · rw[if_neg e,mV _ (Ne.symm e)]
   by_cases e2:j=k+1
   · subst e2;rw[if_pos rfl,oT _ h]
   · rw[if_neg e2,mV _ (Ne.symm e2)]
theorem E4:∀(k i:Nat) (C:List Gate) (m:Nat),k≤m→m<C.length→(∀j l,j<l→l≤m→l≠k→(C.g j).time≤(C.g l).time)→
 (iL k i C).Perm C∧(∀j l,j<l→l≤m→((iL k i C).g j).time≤((iL k i C).g l).time)∧(∀j,m<j→(iL k i C).g j=C.g j)∧((∀l,l<C.length→(C.g 0).time≤(C.g l).time)→(iL k i C).g 0=C.g 0)
 | 0,i,C,m,hk,hm,h=>by
   rw[iL]
   exact ⟨List.Perm.refl _,fun j l a b=>h j l a b o!,fun _ _=>rfl,fun _=>rfl⟩
 | k+1,i,C,m,hk,hm,h=>by
   rw[iL,Nat.add_sub_cancel,X8]
   by_cases w:(C.g (k+1)).time<(C.g k).time
   · rw[decide_eq_true w,ao]
     have sg:=abE (C:=C) (k:=k) o!
     obtain ⟨p1,p2,p3,p4⟩:=E4 k (i+1) ((C.set (k+1) (C.g k)).set k (C.g (k+1))) m o! (by simpa using hm) (fun j l a b c=>by
      rw[sg,sg]
      by_cases j1:j=k
      · rw[if_pos j1]
        by_cases l1:l=k+1
        · rw[if_neg o!,if_pos l1];omega
        · rw[if_neg c,if_neg l1]
          exact h (k+1) l o! b o!
      · rw[if_neg j1]
        by_cases j2:j=k+1
        · rw[if_pos j2,if_neg o!,if_neg o!]
          exact h k l o! b o!
        · rw[if_neg j2]
          by_cases l1:l=k+1
          · rw[if_neg o!,if_pos l1];exact h j k o! o! o!
          · rw[if_neg c,if_neg l1];exact h j l a b o!)
     refine ⟨p1.trans (swap_perm o!),p2,fun j hj=>?_,fun hf=>?_⟩
     · rw[p3 j hj,sg,if_neg o!,if_neg o!]
     · have hk0:k≠0:=fun e=>by subst e;have:=hf 1 o!;simp only[Nat.zero_add] at w;omega
       have g0:((C.set (k+1) (C.g k)).set k (C.g (k+1))).g 0=C.g 0:=by rw[sg,if_neg o!,if_neg o!]
       rw[p4 (fun l hl=>?_),g0]
       rw[g0,sg]
       have V6:l<C.length:=by simpa using hl
       split
       · exact hf _ o!
       · split
         · exact hf _ o!
         · exact hf _ V6
   · rw[decide_eq_false w,ai]
     refine ⟨List.Perm.refl _,fun j l a b=>?_,fun _ _=>rfl,fun _=>rfl⟩
     by_cases e:l=k+1
     · subst e
       by_cases e2:j=k
       · subst e2;omega
       · have:=h j k o! o! o!;omega
     · exact h j l a b e
theorem E5 {n:Nat}:∀(k i:Nat) (C:List Gate),i+k=n→C.length=n→1≤i→(∀j l,j<l→l<i→(C.g j).time≤(C.g l).time)→
 (eZ n k i C).Perm C∧(∀j l,j<l→l<n→((eZ n k i C).g j).time≤((eZ n k i C).g l).time)∧((∀l,l<C.length→(C.g 0).time≤(C.g l).time)→(eZ n k i C).g 0=C.g 0)
 | 0,i,C,h,hl,h1,hs=>by
   rw[eZ]
   exact ⟨List.Perm.refl _,fun j l a b=>hs j l a o!,fun _=>rfl⟩
 | k+1,i,C,h,hl,h1,hs=>by
   obtain ⟨p1,p2,p3,p4⟩:=E4 i 0 C i (Nat.le_refl _) o! (fun j l a b c=>hs j l a o!)
   obtain ⟨q1,q2,q3⟩:=E5 (n:=n) k (i+1) (iL i 0 C) o! (p1.length_eq.trans hl) o! (fun j l a b=>p2 j l a o!)
   rw[eZ]
   refine ⟨q1.trans p1,q2,fun hf=>?_⟩
   have e0:=p4 hf
   rw[q3 (fun l Nb=>?_),e0]
   rw[e0]
   have QM:l<(iL i 0 C).length:=Nb
   have mem:(iL i 0 C).g l∈C:=p1.subset (by rw[nA QM];exact List.getElem_mem QM)
   obtain ⟨m,hm,e⟩:=List.mem_iff_getElem.1 mem
   have:=hf m hm
   rw[nA hm,e] at this;exact this
def qt (L:List Gate):List Gate:=eZ L.length (L.length - 1) 1 L
theorem zo {L:List Gate} (h1:1≤L.length):(qt L).Perm L∧(∀j l,j≤l→l<L.length→((qt L).g j).time≤((qt L).g l).time)∧((∀l,l<L.length→(L.g 0).time≤(L.g l).time)→(qt L).g 0=L.g 0):=by
 obtain ⟨p1,p2,p3⟩:=E5 (n:=L.length) (L.length - 1) 1 L o! rfl (Nat.le_refl _) (fun j l a b=>by omega)
 refine ⟨p1,fun j l a b=>?_,p3⟩
 rcases Nat.lt_or_eq_of_le a with e | e
 · exact p2 j l e b
 · subst e;exact Int.le_refl _
theorem TQ {L:List Gate} (h1:1≤L.length) (ht:∀g∈L,(0≤g.time∧g.time≤100000)∧(KB (kn g)∨Open g)∧g.ax≤g.ar) (h0:(L.g 0).time=0) (hk:KB (kn (L.g 0))):N8 (qt L)∧∀c,KG (qt L) c↔∃g∈L,KB (kn g)∧c=kn g:=by
 obtain ⟨p1,p2,p3⟩:=zo h1
 have len:=p1.length_eq
 have mem:∀k,k<(qt L).length→(qt L).g k∈L:=fun k hk=>p1.subset (by rw[nA hk];exact List.getElem_mem hk)
 have ahF:∀l,l<L.length→L.g l∈L:=fun l hl=>by rw[nA hl];exact List.getElem_mem hl
 have f0:=p3 (fun l hl=>by have:=(ht _ (ahF l hl)).1;omega)
 refine ⟨⟨fun k hk=>(ht _ (mem k hk)).1,fun j k a b=>p2 j k a o!,fun k hk=>(ht _ (mem k hk)).2.1,by rw[f0];exact hk,fun k hk=>(ht _ (mem k hk)).2.2⟩,fun c=>⟨fun ⟨k,hk,kb,e⟩=>⟨_,mem k hk,kb,e⟩,fun ⟨g,hg,kb,e⟩=>?_⟩⟩
 obtain ⟨m,hm,rfl⟩:=List.mem_iff_getElem.1 (p1.symm.subset hg)
 exact ⟨m,hm,by rw[nA hm];exact kb,by rw[nA hm];exact e⟩
end
end Go.Proofs.aH
