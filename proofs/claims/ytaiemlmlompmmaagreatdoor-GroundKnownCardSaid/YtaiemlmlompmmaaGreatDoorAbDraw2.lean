/-
  A REGION THAT DRAWS ITS ORDER, in whatever order.
-/
import Derived.Test.YtaiemlmlompmmaaGreatDoorAbDraw
import Derived.Orders
namespace Go.Ab
variable {E : Env}

/-! ### Slots behind a list of operations -/
theorem appI_length (ops : Array Oper) (val : Nat → AV) : ∀ (l : List Nat) (ts : List AV), (appI ops val ts l).length = ts.length
  | [], _ => rfl
  | i :: l, ts => by
    show (appI ops val (putT ts (dstOf ops i) (val i)) l).length = _
    rw [appI_length ops val l]
    cases dstOf ops i <;> simp [putT]
theorem appI_miss (ops : Array Oper) (val : Nat → AV) (x : Nat) : ∀ (l : List Nat) (ts : List AV) (_ : ∀ j ∈ l, dstOf ops j ≠ some x), (appI ops val ts l)[x]? = ts[x]?
  | [], _, _ => rfl
  | i :: l, ts, h => by
    show (appI ops val (putT ts (dstOf ops i) (val i)) l)[x]? = _
    rw [appI_miss ops val x l _ (fun j hj => h j (by simp [hj]))]
    have := h i (by simp)
    cases hd : dstOf ops i with
    | none => rfl
    | some d =>
      rw [hd] at this
      have hne : d ≠ x := fun e => this (by rw [e])
      simp [putT, List.getElem?_set_ne hne]
theorem appI_hit (ops : Array Oper) (val : Nat → AV) (x j : Nat) (hj : dstOf ops j = some x) : ∀ (l : List Nat) (ts : List AV) (_ : j ∈ l) (_ : ∀ j' ∈ l, dstOf ops j' = some x → j' = j), (appI ops val ts l)[x]? = if x < ts.length then some (val j) else none
  | i :: l, ts, hm, hu => by
    show (appI ops val (putT ts (dstOf ops i) (val i)) l)[x]? = _
    have hlen : (putT ts (dstOf ops i) (val i)).length = ts.length := by cases dstOf ops i <;> simp [putT]
    by_cases hjl : j ∈ l
    · rw [appI_hit ops val x j hj l _ hjl (fun j' h => hu j' (by simp [h])), hlen]
    · have hij : i = j := by simp at hm; rcases hm with h | h; exact h.symm; exact absurd h hjl
      subst hij
      rw [appI_miss ops val x l _ (fun j' hj' e => hjl (hu j' (by simp [hj']) e ▸ hj'))]
      rw [hj]
      simp [putT, List.getElem?_set]

/-- slots that are the same behind two lists -/
theorem appI_agree {ops : Array Oper} {val : Nat → AV} {x : Nat} {l d : List Nat} (ts : List AV) (hu : ∀ j j', dstOf ops j = some x → dstOf ops j' = some x → j = j') (hsame : ∀ j, dstOf ops j = some x → (j ∈ l ↔ j ∈ d)) :
    (appI ops val ts l)[x]? = (appI ops val ts d)[x]? := by
  by_cases h : ∃ j, dstOf ops j = some x ∧ j ∈ l
  · obtain ⟨j, hj, hl⟩ := h
    rw [appI_hit ops val x j hj l ts hl (fun j' _ e => hu j' j e hj), appI_hit ops val x j hj d ts ((hsame j hj).1 hl) (fun j' _ e => hu j' j e hj)]
  · rw [appI_miss ops val x l ts (fun j hj e => h ⟨j, e, hj⟩), appI_miss ops val x d ts (fun j hj e => h ⟨j, e, (hsame j e).2 hj⟩)]

theorem getD_of_getElem? {l r : List AV} {x : Nat} (h : l[x]? = r[x]?) (d : AV) : l.getD x d = r.getD x d := by simp [List.getD, h]

/-- the value of an operation in a trace -/
def valOf (tr : List Step) (i : Nat) : AV := ((tr.find? (fun x => x.i == i)).map (·.v)).getD AV.undef
theorem valOf_at {tr : List Step} (hn : (tr.map (·.i)).Nodup) {p : Nat} {x : Step} (hp : tr[p]? = some x) : valOf tr x.i = x.v := by
  unfold valOf
  have : tr.find? (fun y => y.i == x.i) = some x := by
    rw [List.find?_eq_some_iff_getElem]
    obtain ⟨hlt, hx⟩ := List.getElem?_eq_some_iff.1 hp
    refine ⟨by simp, p, hlt, hx, fun j hj => ?_⟩
    have hjl : j < tr.length := by omega
    simp only [Bool.not_eq_true', beq_eq_false_iff_ne]
    intro e
    have h1 : (tr.map (·.i))[j]? = some x.i := by simp [hjl, e]
    have h2 : (tr.map (·.i))[p]? = some x.i := by simp [hlt, hx]
    have := (List.getElem?_inj (by simpa using hjl) hn).1 (h1.trans h2.symm)
    omega
  rw [this]; rfl
theorem appS_eq (ops : Array Oper) {tr : List Step} (hn : (tr.map (·.i)).Nodup) (ts : List AV) (p : Nat) : appS ops ts (tr.take p) = appI ops (valOf tr) ts ((tr.map (·.i)).take p) := by
  have key : ∀ (l : List Step) (ts : List AV), (∀ x ∈ l, valOf tr x.i = x.v) → appS ops ts l = appI ops (valOf tr) ts (l.map (·.i)) := by
    intro l
    induction l with
    | nil => intro ts _; rfl
    | cons x l ih =>
      intro ts h
      show appS ops (putT ts (dstOf ops x.i) x.v) l = appI ops (valOf tr) (putT ts (dstOf ops x.i) (valOf tr x.i)) (l.map (·.i))
      rw [h x (by simp), ih _ (fun y hy => h y (by simp [hy]))]
  rw [key _ _ (fun x hx => ?_), List.map_take]
  obtain ⟨q, hq⟩ := List.getElem?_of_mem (List.mem_of_mem_take hx)
  exact valOf_at hn hq

/-! ### A block that is made where the name waits -/
theorem OK.place {φ : Ph} {h : Heap} {w : World} (ok : OK E φ h w) {n : Nat} {obj : AObj} (hg : h.get n = some obj) (hno : φ n = none) (hlt : n < h.nx) {O : Obj}
    (ho : OR E (φ.add n ⟨w.heap.size, 0, 0⟩) obj ⟨w.heap.size, 0, 0⟩ (some O)) : OK E (φ.add n ⟨w.heap.size, 0, 0⟩) h (w.alloc O) ∧ φ.le (φ.add n ⟨w.heap.size, 0, 0⟩) := by
  have hle : φ.le (φ.add n ⟨w.heap.size, 0, 0⟩) := fun j m hm => by
    unfold Ph.add; split
    · rename_i e; subst e; rw [hno] at hm; simp at hm
    · exact hm
  have hadd : ∀ j, j ≠ n → (φ.add n ⟨w.heap.size, 0, 0⟩) j = φ j := fun j hj => by simp [Ph.add, hj]
  have hself : (φ.add n ⟨w.heap.size, 0, 0⟩) n = some ⟨w.heap.size, 0, 0⟩ := by simp [Ph.add]
  have hheap : (w.alloc O).heap = w.heap.push O := rfl
  have hblk : ∀ j p m, h.get j = some p → φ j = some m → m.blk < w.heap.size := fun j p m hj hm => by
    have hor := ok.live j p m hj hm
    rcases Nat.lt_or_ge m.blk w.heap.size with a | a
    · exact a
    · exfalso
      rw [Array.getElem?_eq_none a] at hor
      exact hor.absurd
  refine ⟨⟨fun j m hm => ?_, ok.nx, ok.top, fun g hg => hle _ _ (ok.glob g hg), fun j p m hj hm => ?_, fun j k p q m r hj hk hm hr hb => ?_⟩, hle⟩
  · by_cases e : j = n
    · omega
    · rw [hadd j e] at hm; exact ok.dom j m hm
  · by_cases e : j = n
    · subst e; rw [hself] at hm; simp at hm; subst hm; rw [hg] at hj; simp at hj; subst hj; rw [hheap]; simpa using ho
    · rw [hadd j e] at hm
      have hb := hblk j p m hj hm
      rw [hheap, Array.getElem?_push, if_neg (by omega)]
      exact (ok.live j p m hj hm).mono hle
  · by_cases e : j = n <;> by_cases e' : k = n
    · rw [e, e']
    · subst e; rw [hself] at hm; simp at hm; subst hm; rw [hadd k e'] at hr; have := hblk k q r hk hr; simp at hb; omega
    · subst e'; rw [hself] at hr; simp at hr; subst hr; rw [hadd j e] at hm; have := hblk j p m hj hm; simp at hb; omega
    · rw [hadd j e] at hm; rw [hadd k e'] at hr; exact ok.inj j k p q m r hj hk hm hr hb

/-- from a start's frame on -/
theorem Fr.place {φ₀ φ : Ph} {h₀ h : Heap} {w₀ w : World} (f : Fr φ₀ h₀ w₀ φ h w) {n : Nat} (hn : h₀.nx ≤ n) (hno : φ n = none) (O : Obj) : Fr φ₀ h₀ w₀ (φ.add n ⟨w.heap.size, 0, 0⟩) h (w.alloc O) := by
  have hadd : ∀ j, j ≠ n → (φ.add n ⟨w.heap.size, 0, 0⟩) j = φ j := fun j hj => by simp [Ph.add, hj]
  have hself : (φ.add n ⟨w.heap.size, 0, 0⟩) n = some ⟨w.heap.size, 0, 0⟩ := by simp [Ph.add]
  refine ⟨fun j m hm => ?_, fun i hi => by rw [hadd i (by omega)]; exact f.old i hi, f.nx, f.os, f.tape, f.output, by have := f.size; simp; omega, fun b hb hn' => ?_, fun i o l hi hr hl => ?_⟩
  · by_cases e : j = n
    · subst e; have := f.ext j m hm; rw [hno] at this; simp at this
    · rw [hadd j e]; exact f.ext j m hm
  · have := f.size
    rw [show (w.alloc O).heap = w.heap.push O from rfl, Array.getElem?_push, if_neg (by omega)]
    exact f.keep b hb hn'
  · by_cases e : i = n
    · subst e; rw [hself] at hl; simp at hl; subst hl; exact .inl f.size
    · rw [hadd i e] at hl; exact f.own i o l hi hr hl

theorem filter_le {P : Nat → Bool} {l : List Nat} {K : Nat} (h : ∀ q e, l[q]? = some e → P e = true → q < K) : (l.filter P).length ≤ K := by
  have h1 : (l.drop K).filter P = [] := by
    rw [List.filter_eq_nil_iff]
    intro e he hP
    obtain ⟨q, hq⟩ := List.getElem?_of_mem he
    rw [List.getElem?_drop] at hq
    have := h _ e hq hP
    omega
  calc (l.filter P).length = ((l.take K ++ l.drop K).filter P).length := by rw [List.take_append_drop]
    _ = ((l.take K).filter P).length := by rw [List.filter_append, h1, List.append_nil]
    _ ≤ (l.take K).length := List.length_filter_le _ _
    _ ≤ K := by simp; omega

theorem takeWhile_at {P : Nat → Bool} : ∀ {l : List Nat} {e : Nat} (_ : l[(l.takeWhile P).length]? = some e), P e = false
  | [], e, h => by simp at h
  | x :: l, e, h => by
    by_cases hx : P x = true
    · rw [List.takeWhile_cons_of_pos hx] at h
      exact takeWhile_at (l := l) (by simpa using h)
    · rw [List.takeWhile_cons_of_neg hx] at h
      simp at h; subst h; simpa using hx

end Go.Ab
