import Derived.Test.YtfllahfbmaafcaaW6
import Derived.Test.YtfllahfbmaafcaaW7
set_option linter.unusedVariables false
set_option linter.unusedSimpArgs false
namespace Go.Proofs.aG
open Go.Proofs Ab
noncomputable section
set_option maxRecDepth 100000
set_option maxHeartbeats 4000000
theorem Xb (a b:Gate):decide (pZ a b<0)=decide (a.time<b.time):=by
 rw[pZ,nY]
 by_cases h:a.time<b.time
 · simp [lf,h]
 · by_cases h2:b.time<a.time
   · simp [lf,h,h2]
   · simp [lf,h,h2]
theorem kI {α:Type} [Inhabited α] {C:List α} {i:Nat} (h:i<C.length):C.g i=C[i]:=by
 rw[List.g,List.getD_eq_getElem?_getD,List.getElem?_eq_getElem h];rfl
theorem swap_perm {C:List Gate} {k:Nat} (h:k+1<C.length):((C.set (k+1) (C.g k)).set k (C.g (k+1))).Perm C:=by
 rw[kI (by omega:k<C.length),kI h]
 exact List.set_set_perm h o!
theorem aaX {C:List Gate} {k:Nat} (h:k+1<C.length) (j:Nat):((C.set (k+1) (C.g k)).set k (C.g (k+1))).g j=if j=k then C.g (k+1) else if j=k+1 then C.g k else C.g j:=by
 by_cases e:j=k
 · subst e;rw[if_pos rfl,jz _ (by rw[List.length_set];omega)]
 · rw[if_neg e,j6 _ (Ne.symm e)]
   by_cases e2:j=k+1
   · subst e2;rw[if_pos rfl,jz _ h]
   · rw[if_neg e2,j6 _ (Ne.symm e2)]
theorem Fl:∀(k i:Nat) (C:List Gate) (m:Nat),k≤m→m<C.length→(∀j l,j<l→l≤m→l≠k→(C.g j).time≤(C.g l).time)→
 (jo k i C).Perm C∧(∀j l,j<l→l≤m→((jo k i C).g j).time≤((jo k i C).g l).time)∧(∀j,m<j→(jo k i C).g j=C.g j)∧((∀l,l<C.length→(C.g 0).time≤(C.g l).time)→(jo k i C).g 0=C.g 0)
 | 0,i,C,m,hk,hm,h=>by
   rw[jo]
   exact ⟨List.Perm.refl _,fun j l a b=>h j l a b o!,fun _ _=>rfl,fun _=>rfl⟩
 | k+1,i,C,m,hk,hm,h=>by
   rw[jo,Nat.add_sub_cancel,Xb]
   by_cases w:(C.g (k+1)).time<(C.g k).time
   · rw[decide_eq_true w,ak]
     have sg:=aaX (C:=C) (k:=k) o!
     obtain ⟨p1,p2,p3,p4⟩:=Fl k (i+1) ((C.set (k+1) (C.g k)).set k (C.g (k+1))) m o! (by simpa using hm) (fun j l a b c=>by
      rw[sg,sg]
      by_cases j1:j=k
      · rw[if_pos j1]
        by_cases l1:l=k+1
        · rw[if_neg o!,if_pos l1];omega
        · rw[if_neg c,if_neg l1]
          exact h (k+1) l o! b o!
      · rw[if_neg j1]
        by_cases j2:j=k+1
        · rw[if_pos j2,if_neg o!,if_neg o!]
          exact h k l o! b o!
        · rw[if_neg j2]
          by_cases l1:l=k+1
          · rw[if_neg o!,if_pos l1];exact h j k o! o! o!
          · rw[if_neg c,if_neg l1];exact h j l a b o!)
     refine ⟨p1.trans (swap_perm o!),p2,fun j hj=>?_,fun hf=>?_⟩
     · rw[p3 j hj,sg,if_neg o!,if_neg o!]
     · have hk0:k≠0:=fun e=>by subst e;have:=hf 1 o!;simp only[Nat.zero_add] at w;omega
       have g0:((C.set (k+1) (C.g k)).set k (C.g (k+1))).g 0=C.g 0:=by rw[sg,if_neg o!,if_neg o!]
       rw[p4 (fun l hl=>?_),g0]
       rw[g0,sg]
       have U4:l<C.length:=by simpa using hl
       split
       · exact hf _ o!
       · split
         · exact hf _ o!
         · exact hf _ U4
   · rw[decide_eq_false w,aj]
     refine ⟨List.Perm.refl _,fun j l a b=>?_,fun _ _=>rfl,fun _=>rfl⟩
     by_cases e:l=k+1
     · subst e
       by_cases e2:j=k
       · subst e2;omega
       · have:=h j k o! o! o!;omega
     · exact h j l a b e
theorem Fm {n:Nat}:∀(k i:Nat) (C:List Gate),i+k=n→C.length=n→1≤i→(∀j l,j<l→l<i→(C.g j).time≤(C.g l).time)→
 (eI n k i C).Perm C∧(∀j l,j<l→l<n→((eI n k i C).g j).time≤((eI n k i C).g l).time)∧((∀l,l<C.length→(C.g 0).time≤(C.g l).time)→(eI n k i C).g 0=C.g 0)
 | 0,i,C,h,hl,h1,hs=>by
   rw[eI]
   exact ⟨List.Perm.refl _,fun j l a b=>hs j l a o!,fun _=>rfl⟩
 | k+1,i,C,h,hl,h1,hs=>by
   obtain ⟨p1,p2,p3,p4⟩:=Fl i 0 C i (Nat.le_refl _) o! (fun j l a b c=>hs j l a o!)
   obtain ⟨q1,q2,q3⟩:=Fm (n:=n) k (i+1) (jo i 0 C) o! (p1.length_eq.trans hl) o! (fun j l a b=>p2 j l a o!)
   rw[eI]
   refine ⟨q1.trans p1,q2,fun hf=>?_⟩
   have e0:=p4 hf
   rw[q3 (fun l Qh=>?_),e0]
   rw[e0]
   have Qk:l<(jo i 0 C).length:=Qh
   have mem:(jo i 0 C).g l∈C:=p1.subset (by rw[kI Qk];exact List.getElem_mem Qk)
   obtain ⟨m,hm,e⟩:=List.mem_iff_getElem.1 mem
   have:=hf m hm
   rw[kI hm,e] at this;exact this
def lH (L:List Gate):List Gate:=eI L.length (L.length - 1) 1 L
theorem qI {L:List Gate} (h1:1≤L.length):(lH L).Perm L∧(∀j l,j≤l→l<L.length→((lH L).g j).time≤((lH L).g l).time)∧((∀l,l<L.length→(L.g 0).time≤(L.g l).time)→(lH L).g 0=L.g 0):=by
 obtain ⟨p1,p2,p3⟩:=Fm (n:=L.length) (L.length - 1) 1 L o! rfl (Nat.le_refl _) (fun j l a b=>by omega)
 refine ⟨p1,fun j l a b=>?_,p3⟩
 rcases Nat.lt_or_eq_of_le a with e | e
 · exact p2 j l e b
 · subst e;exact Int.le_refl _
theorem J4 {L:List Gate} (h1:1≤L.length) (ht:∀g∈L,(0≤g.time∧g.time≤100000)∧(KB (kn g)∨Open g)∧g.aw≤g.ar) (h0:(L.g 0).time=0) (hk:KB (kn (L.g 0))):J1 (lH L)∧∀c,KG (lH L) c↔∃g∈L,KB (kn g)∧c=kn g:=by
 obtain ⟨p1,p2,p3⟩:=qI h1
 have len:=p1.length_eq
 have mem:∀k,k<(lH L).length→(lH L).g k∈L:=fun k hk=>p1.subset (by rw[kI hk];exact List.getElem_mem hk)
 have agl:∀l,l<L.length→L.g l∈L:=fun l hl=>by rw[kI hl];exact List.getElem_mem hl
 have f0:=p3 (fun l hl=>by have:=(ht _ (agl l hl)).1;omega)
 refine ⟨⟨fun k hk=>(ht _ (mem k hk)).1,fun j k a b=>p2 j k a o!,fun k hk=>(ht _ (mem k hk)).2.1,by rw[f0];exact hk,fun k hk=>(ht _ (mem k hk)).2.2⟩,fun c=>⟨fun ⟨k,hk,kb,e⟩=>⟨_,mem k hk,kb,e⟩,fun ⟨g,hg,kb,e⟩=>?_⟩⟩
 obtain ⟨m,hm,rfl⟩:=List.mem_iff_getElem.1 (p1.symm.subset hg)
 exact ⟨m,hm,by rw[kI hm];exact kb,by rw[kI hm];exact e⟩
end
end Go.Proofs.aG
