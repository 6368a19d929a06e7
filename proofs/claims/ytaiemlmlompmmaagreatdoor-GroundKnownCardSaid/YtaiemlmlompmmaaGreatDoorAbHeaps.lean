/-
  WHAT A WRITE, A NEW BLOCK AND AN APPEND LEAVE OF THE RELATION BETWEEN THE TWO HEAPS.
-/
import Derived.Test.YtaiemlmlompmmaaGreatDoorAbRel
namespace Go.Ab
variable {E : Env}

/-! ### Cells set one by one -/
def setArr (C : Array Value) : Nat → List Value → Array Value
  | _, [] => C
  | o, v :: vs => setArr (C.setIfInBounds o v) (o + 1) vs
theorem setArr_size : ∀ (vs : List Value) (C : Array Value) (o : Nat), (setArr C o vs).size = C.size
  | [], _, _ => rfl
  | v :: vs, C, o => by simp [setArr, setArr_size vs]
theorem setArr_get : ∀ (vs : List Value) (C : Array Value) (o k : Nat), (setArr C o vs)[k]? = if o ≤ k ∧ k < o + vs.length ∧ k < C.size then vs[k - o]? else C[k]?
  | [], C, o, k => by simp [setArr]; omega
  | v :: vs, C, o, k => by
    rw [setArr, setArr_get vs]
    simp only [Array.size_setIfInBounds, List.length_cons, Array.getElem?_setIfInBounds]
    by_cases h1 : o = k
    · subst h1
      by_cases h2 : o < C.size
      · rw [if_neg (by omega)]; simp [h2]
      · rw [if_neg (by omega)]; simp [h2]
    · by_cases h2 : o + 1 ≤ k ∧ k < o + 1 + vs.length ∧ k < C.size
      · rw [if_pos h2, if_pos (by omega)]
        obtain ⟨m, hm⟩ : ∃ m, k - o = m + 1 := ⟨k - o - 1, by omega⟩
        rw [hm, show k - (o + 1) = m by omega]; simp
      · rw [if_neg h2]; simp only [h1, if_false]; rw [if_neg (by omega)]
theorem setFrom_length : ∀ (vs : List AV) (cs : List AV) (o : Nat), (setFrom cs o vs).length = cs.length
  | [], _, _ => rfl
  | v :: vs, cs, o => by simp [setFrom, setFrom_length vs]
theorem setFrom_get : ∀ (vs : List AV) (cs : List AV) (o k : Nat), (setFrom cs o vs)[k]? = if o ≤ k ∧ k < o + vs.length ∧ k < cs.length then vs[k - o]? else cs[k]?
  | [], cs, o, k => by simp [setFrom]; omega
  | v :: vs, cs, o, k => by
    rw [setFrom, setFrom_get vs]
    simp only [List.length_set, List.length_cons, List.getElem?_set]
    by_cases h1 : o = k
    · subst h1
      by_cases h2 : o < cs.length
      · rw [if_neg (by omega)]; simp [h2]
      · rw [if_neg (by omega)]; simp [h2]
    · by_cases h2 : o + 1 ≤ k ∧ k < o + 1 + vs.length ∧ k < cs.length
      · rw [if_pos h2, if_pos (by omega)]
        obtain ⟨m, hm⟩ : ∃ m, k - o = m + 1 := ⟨k - o - 1, by omega⟩
        rw [hm, show k - (o + 1) = m by omega]; simp
      · rw [if_neg h2]; simp only [h1, if_false]; rw [if_neg (by omega)]

theorem heap_setCell {w : World} {b : Nat} {C : Array Value} {e : TypeId} {f : Nat × Nat} (h : w.heap[b]? = some (.cells C e f)) (o : Nat) (v : Value) :
    (w.setCell ⟨b, o, none⟩ v).heap[b]? = some (.cells (C.setIfInBounds o v) e f) := by
  obtain ⟨lo, hi⟩ := f
  simp [World.setCell, Array.getElem?_modify, h]
theorem heap_setCell_other {w : World} {b c : Nat} (h : b ≠ c) (o : Nat) (v : Value) : (w.setCell ⟨b, o, none⟩ v).heap[c]? = w.heap[c]? := by
  simp [World.setCell, Array.getElem?_modify, h]
theorem heap_setCells : ∀ (vs : List Value) {w : World} {b : Nat} {C : Array Value} {e : TypeId} {f : Nat × Nat} (_ : w.heap[b]? = some (.cells C e f)) (o : Nat),
    (w.setCells b o vs).heap[b]? = some (.cells (setArr C o vs) e f)
  | [], _, _, _, _, _, h, _ => h
  | v :: vs, w, b, C, e, f, h, o => by
    rw [World.setCells, setArr]
    exact heap_setCells vs (heap_setCell h o v) (o + 1)
theorem heap_setCells_other : ∀ (vs : List Value) {w : World} {b c : Nat} (_ : b ≠ c) (o : Nat), (w.setCells b o vs).heap[c]? = w.heap[c]?
  | [], _, _, _, _, _ => rfl
  | v :: vs, w, b, c, h, o => by rw [World.setCells, heap_setCells_other vs h, heap_setCell_other h]
theorem size_setCells : ∀ (vs : List Value) (w : World) (b o : Nat), (w.setCells b o vs).heap.size = w.heap.size
  | [], _, _, _ => rfl
  | v :: vs, w, b, o => by rw [World.setCells, size_setCells vs]; simp
theorem os_setCells : ∀ (vs : List Value) (w : World) (b o : Nat), (w.setCells b o vs).os = w.os ∧ (w.setCells b o vs).tape = w.tape ∧ (w.setCells b o vs).output = w.output
  | [], _, _, _ => ⟨rfl, rfl, rfl⟩
  | v :: vs, w, b, o => by rw [World.setCells]; exact os_setCells vs _ b (o + 1)

theorem cell_of_heap {w : World} {b : Nat} {C : Array Value} {e : TypeId} {f : Nat × Nat} (h : w.heap[b]? = some (.cells C e f)) (k : Nat) : w.cell? ⟨b, k, none⟩ = C[k]? := by
  obtain ⟨lo, hi⟩ := f
  simp [World.cell?, h]
theorem frozen_of_heap {w : World} {b : Nat} {C : Array Value} {e : TypeId} {lo hi : Nat} (h : w.heap[b]? = some (.cells C e (lo, hi))) (k : Nat) : w.frozen? ⟨b, k, none⟩ = (decide (lo ≤ k) && decide (k < hi)) := by
  simp [World.frozen?, h]

theorem run_store_row {P : Program} {w : World} {b : Nat} {C : Array Value} {e : TypeId} {lo hi : Nat} (h : w.heap[b]? = some (.cells C e (lo, hi))) (O : Nat) (vs : List Value)
    (hs : O + vs.length ≤ C.size) (hf : ∀ k, O ≤ k → k < O + vs.length → ¬ (lo ≤ k ∧ k < hi)) (h1 : ∀ v ∈ vs, v.oneCell' = true) :
    (storeCells ⟨b, O, none⟩ vs).run P w = .ok () (w.setCells b O vs) := by
  have := run_storeCells_cells (P := P) b O vs 0 w (fun j hj => by
      rw [cell_of_heap h]; simp; omega) (fun j hj => by
      rw [frozen_of_heap h]
      have := hf (O + j) (by omega) (by omega)
      simp only [Nat.add_zero, Bool.and_eq_false_iff, decide_eq_false_iff_not]; omega) h1
  simpa using this

theorem run_load_row {P : Program} {w : World} {b : Nat} {C : Array Value} {e : TypeId} {f : Nat × Nat} (h : w.heap[b]? = some (.cells C e f)) (O : Nat) (cs : List Value)
    (hv : ∀ (j : Nat) (v : Value), cs[j]? = some v → C[O + j]? = some v) : (loadCells ⟨b, O, none⟩ cs.length).run P w = .ok cs.toArray w :=
  run_loadCells_list (P := P) w ⟨b, O, none⟩ cs (fun j v hj => by
    have : (⟨b, O, none⟩ : Addr).add j = ⟨b, O + j, none⟩ := by unfold Addr.add; split <;> simp_all
    rw [this, cell_of_heap h]; exact hv j v hj)

/-- the cells of a live block, as the model's -/
theorem CR.range {φ : Ph} {cs : List AV} {e : TypeId} {ro : Bool} {l : Loc} {C : Array Value} {lo hi : Nat} (h : CR E φ cs e ro l C lo hi) (o n : Nat) (hn : o + n ≤ cs.length) :
    ∃ vs : List Value, vs.length = n ∧ (∀ (j : Nat) (v : Value), vs[j]? = some v → C[l.off + o + j]? = some v) ∧ LR φ ((cs.drop o).take n) vs := by
  have hsz := h.size
  refine ⟨((C.toList.drop (l.off + o)).take n), by simp; omega, fun j v hj => ?_, by simp; omega, fun j x y hx hy => ?_⟩
  · rw [List.getElem?_take] at hj
    split at hj
    · simpa [Nat.add_assoc] using hj
    · simp at hj
  · rw [List.getElem?_take] at hx hy
    split at hx
    · rename_i hjn
      simp only [hjn, if_true] at hy
      rw [List.getElem?_drop] at hx hy
      obtain ⟨z, hz, hr⟩ := h.val (o + j) x hx
      simp at hy
      rw [show l.off + (o + j) = l.off + o + j by omega] at hz
      rw [hz] at hy; simp at hy; subst hy; exact hr
    · simp at hx

/-! ### The heap behind a write, and with a new block -/
/-- an object in the place of one, in its own block -/
theorem OK.change {φ : Ph} {h : Heap} {w w' : World} (ok : OK E φ h w) {i : Nat} {o o' : AObj} {l : Loc} (hg : h.get i = some o) (hrw : o.rw = true) (hl : φ i = some l)
    (ho : OR E φ o' l w'.heap[l.blk]?) (hother : ∀ c, c ≠ l.blk → w'.heap[c]? = w.heap[c]?) (hsize : w'.heap.size = w.heap.size)
    (hos : w'.os = w.os) (htape : w'.tape = w.tape) (hout : w'.output = w.output) :
    OK E φ (h.put i (some o')) w' ∧ Fr φ h w φ (h.put i (some o')) w' := by
  have hi := Heap.get_lt hg
  have hget : ∀ j p, (h.put i (some o')).get j = some p → (j = i ∧ p = o') ∨ (j ≠ i ∧ h.get j = some p) := fun j p hj => by
    by_cases e : i = j
    · subst e; rw [Heap.get_put_same hi] at hj; simp at hj; exact .inl ⟨rfl, hj.symm⟩
    · rw [Heap.get_put_other hi e] at hj; exact .inr ⟨Ne.symm e, hj⟩
  refine ⟨⟨ok.dom, ok.nx, ok.top, ok.glob, fun j p m hj hm => ?_, fun j k p q m n hj hk hm hn hb => ?_⟩, ⟨Ph.le_refl φ, fun _ _ => rfl, Nat.le_refl _, hos, htape, hout, Nat.le_of_eq hsize.symm, fun b _ hn => ?_, fun j p m hj hr hm => ?_⟩⟩
  · rcases hget j p hj with ⟨rfl, rfl⟩ | ⟨hne, hj'⟩
    · rw [hl] at hm; simp at hm; subst hm; exact ho
    · rw [hother _ (fun e => hne (ok.inj j i p o m l hj' hg hm hl e))]
      exact ok.live j p m hj' hm
  · rcases hget j p hj with ⟨rfl, rfl⟩ | ⟨_, hj'⟩ <;> rcases hget k q hk with ⟨rfl, rfl⟩ | ⟨_, hk'⟩
    · rfl
    · exact ok.inj _ _ _ _ _ _ hg hk' hm hn hb
    · exact ok.inj _ _ _ _ _ _ hj' hg hm hn hb
    · exact ok.inj _ _ _ _ _ _ hj' hk' hm hn hb
  · exact hother b (fun e => hn i o l hg hrw hl e.symm)
  · rcases hget j p hj with ⟨rfl, rfl⟩ | ⟨_, hj'⟩
    · rw [hl] at hm; simp at hm; subst hm; exact .inr ⟨j, o, l, hg, hrw, hl, rfl⟩
    · exact .inr ⟨j, p, m, hj', hr, hm, rfl⟩

/-- the relation of an object with its block in a world that is greater -/
theorem OR.mono {φ φ' : Ph} (hle : φ.le φ') {o : AObj} {l : Loc} {x : Option Obj} (h : OR E φ o l x) : OR E φ' o l x := by
  cases o with
  | cells cs e ro =>
    obtain ⟨C, e', lo, hi, hx, hc⟩ := h
    exact ⟨C, e', lo, hi, hx, hc.size, fun k x hk => let ⟨y, a, b⟩ := hc.val k x hk; ⟨y, a, b.mono hle⟩, hc.free, hc.zero⟩
  | map es clock =>
    obtain ⟨h0, es', hx, hl, hv⟩ := h
    exact ⟨h0, es', hx, hl, fun i a b p q => let r := hv i a b p q; ⟨r.key.mono hle, r.val.mono hle, r.born⟩⟩
  | siter s pos => exact h
  | miter m since seen stepped =>
    cases m with
    | none => exact h
    | some m => obtain ⟨h0, lm, hm, hx⟩ := h; exact ⟨h0, lm, hle _ _ hm, hx⟩
  | loop st pend ts ps as bd dn => obtain ⟨h0, r, hx, hr⟩ := h; exact ⟨h0, r, hx, hr.mono hle⟩
  | defd => exact h

def Ph.add (φ : Ph) (i : Nat) (l : Loc) : Ph := fun j => if j = i then some l else φ j

/-- a new name for a block that no name owns: a new block, or one whose name was given up ahead of it -/
theorem OK.fresh {φ : Ph} {h h' : Heap} {w w' : World} (ok : OK E φ h w) {o : AObj} (hn : h.new o = some h') (l : Loc)
    (ho : OR E (φ.add h.nx l) o l w'.heap[l.blk]?) (hother : ∀ c, c ≠ l.blk → c < w.heap.size → w'.heap[c]? = w.heap[c]?) (hsize : w.heap.size ≤ w'.heap.size)
    (hfree : w.heap.size ≤ l.blk) (hos : w'.os = w.os) (htape : w'.tape = w.tape) (hout : w'.output = w.output) :
    OK E (φ.add h.nx l) h' w' ∧ Fr φ h w (φ.add h.nx l) h' w' ∧ φ.le (φ.add h.nx l) := by
  obtain ⟨hlt, hnx, hnew, hold⟩ := Heap.new_some hn
  have hno : φ h.nx = none := by
    cases e : φ h.nx with
    | none => rfl
    | some m => exact absurd (ok.dom _ _ e) (Nat.lt_irrefl _)
  have hle : φ.le (φ.add h.nx l) := fun i m hm => by
    unfold Ph.add; split
    · rename_i e; subst e; rw [hno] at hm; simp at hm
    · exact hm
  have hblk : ∀ j p m, h.get j = some p → φ j = some m → m.blk < w.heap.size := fun j p m hj hm => by
    have hor := ok.live j p m hj hm
    rcases Nat.lt_or_ge m.blk w.heap.size with a | a
    · exact a
    · exfalso
      rw [Array.getElem?_eq_none a] at hor
      exact hor.absurd
  have hget : ∀ j p, h'.get j = some p → (j = h.nx ∧ p = o) ∨ (j ≠ h.nx ∧ h.get j = some p) := fun j p hj => by
    by_cases e : j = h.nx
    · subst e; rw [hnew] at hj; simp at hj; exact .inl ⟨rfl, hj.symm⟩
    · rw [hold j e] at hj; exact .inr ⟨e, hj⟩
  have hadd : ∀ j, j ≠ h.nx → (φ.add h.nx l) j = φ j := fun j hj => by simp [Ph.add, hj]
  have hself : (φ.add h.nx l) h.nx = some l := by simp [Ph.add]
  refine ⟨⟨fun i m hm => ?_, ?_, ?_, fun g hg => hle _ _ (ok.glob g hg), fun j p m hj hm => ?_, fun j k p q m n hj hk hm hn'' hb => ?_⟩,
    ⟨hle, fun i hi => hadd i (by omega), by omega, hos, htape, hout, hsize, fun b hb hn' => hother b (by omega) hb, fun j p m hj hr hm => ?_⟩, hle⟩
  · rw [hnx]
    by_cases e : i = h.nx
    · omega
    · rw [hadd i e] at hm; have := ok.dom i m hm; omega
  · have := ok.nx; omega
  · omega
  · rcases hget j p hj with ⟨rfl, rfl⟩ | ⟨hne, hj'⟩
    · rw [hself] at hm; simp at hm; subst hm; exact ho
    · rw [hadd j hne] at hm
      rw [hother _ (by have := hblk j p m hj' hm; omega) (hblk j p m hj' hm)]
      exact (ok.live j p m hj' hm).mono hle
  · rcases hget j p hj with ⟨rfl, rfl⟩ | ⟨hne, hj'⟩ <;> rcases hget k q hk with ⟨rfl, rfl⟩ | ⟨hne', hk'⟩
    · rfl
    · rw [hself] at hm; simp at hm; subst hm
      rw [hadd k hne'] at hn''; have := hblk k q n hk' hn''; omega
    · rw [hself] at hn''; simp at hn''; subst hn''
      rw [hadd j hne] at hm; have := hblk j p m hj' hm; omega
    · rw [hadd j hne] at hm; rw [hadd k hne'] at hn''; exact ok.inj _ _ _ _ _ _ hj' hk' hm hn'' hb
  · rcases hget j p hj with ⟨rfl, rfl⟩ | ⟨hne, hj'⟩
    · rw [hself] at hm; simp at hm; subst hm; exact .inl hfree
    · rw [hadd j hne] at hm; exact .inr ⟨j, p, m, hj', hr, hm, rfl⟩

/-- a name given up -/
theorem OK.kill {φ : Ph} {h : Heap} {w : World} (ok : OK E φ h w) {i : Nat} (hi : i < 2 ^ depth) : OK E φ (h.put i none) w := by
  have hget : ∀ j p, (h.put i none).get j = some p → h.get j = some p ∧ j ≠ i := fun j p hj => by
    by_cases e : i = j
    · subst e; rw [Heap.get_put_same hi] at hj; simp at hj
    · rw [Heap.get_put_other hi e] at hj; exact ⟨hj, Ne.symm e⟩
  exact ⟨ok.dom, ok.nx, ok.top, ok.glob, fun j p l hj hl => ok.live j p l (hget j p hj).1 hl, fun j k p q m n hj hk => ok.inj j k p q m n (hget j p hj).1 (hget k q hk).1⟩

end Go.Ab
