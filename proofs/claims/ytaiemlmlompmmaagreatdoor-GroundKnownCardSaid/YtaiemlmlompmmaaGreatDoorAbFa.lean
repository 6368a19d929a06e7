/-
  A FAST RUN, PART 1: registers in wide nodes, operands, and results.
-/
import Derived.Test.YtaiemlmlompmmaaGreatDoorAbRel
namespace Go.Ab.Fa

structure Acc (T : Type) where
  f : T → AV
structure Upd (T : Type) where
  f : AV → T → T

/-- a register file -/
structure RF where
  T : Type
  N : Nat
  get : Nat → Acc T
  set : Nat → Upd T
  z : T
  get_z : ∀ i, i < N → (get i).f z = AV.undef
  get_same : ∀ i, i < N → ∀ v r, (get i).f ((set i).f v r) = v
  get_other : ∀ i j, i < N → j < N → i ≠ j → ∀ v r, (get j).f ((set i).f v r) = (get j).f r

def get2 (i : Nat) : Acc (P8 (P8 AV)) := s8 (i / 8) fun p => s8 (i % 8) fun q => ⟨fun r => q (p r)⟩
noncomputable def set2 (i : Nat) : Upd (P8 (P8 AV)) := e8 (i / 8) fun p => e8 (i % 8) fun q => ⟨fun v r => p (q fun _ => v) r⟩
noncomputable def rf2 : RF where
  T := P8 (P8 AV)
  N := 64
  get := get2
  set := set2
  z := P8.all (P8.all AV.undef)
  get_z i h := by simp only [get2, s8_eq, sel_all]
  get_same i h v r := by simp only [get2, set2, s8_eq, e8_eq, sel_epd_same]
  get_other i j hi hj h v r := by
    simp only [get2, set2, s8_eq, e8_eq]
    by_cases h1 : i / 8 = j / 8
    · rw [h1, sel_epd_same, sel_epd_other (by omega) (by omega) (by omega)]
    · rw [sel_epd_other (by omega) (by omega) h1]

def get3 (i : Nat) : Acc (P8 (P8 (P8 AV))) := s8 (i / 64) fun o => s8 (i / 8 % 8) fun p => s8 (i % 8) fun q => ⟨fun r => q (p (o r))⟩
noncomputable def set3 (i : Nat) : Upd (P8 (P8 (P8 AV))) := e8 (i / 64) fun o => e8 (i / 8 % 8) fun p => e8 (i % 8) fun q => ⟨fun v r => o (p (q fun _ => v)) r⟩
noncomputable def rf3 : RF where
  T := P8 (P8 (P8 AV))
  N := 512
  get := get3
  set := set3
  z := P8.all (P8.all (P8.all AV.undef))
  get_z i h := by simp only [get3, s8_eq, sel_all]
  get_same i h v r := by simp only [get3, set3, s8_eq, e8_eq, sel_epd_same]
  get_other i j hi hj h v r := by
    simp only [get3, set3, s8_eq, e8_eq]
    by_cases h1 : i / 64 = j / 64
    · rw [h1, sel_epd_same]
      by_cases h2 : i / 8 % 8 = j / 8 % 8
      · rw [h2, sel_epd_same, sel_epd_other (by omega) (by omega) (by omega)]
      · rw [sel_epd_other (by omega) (by omega) h2]
    · rw [sel_epd_other (by omega) (by omega) h1]
noncomputable def rfOf (n : Nat) : RF := bif Nat.ble n 64 then rf2 else rf3

/-! ### The list that a register file stands for -/
section
variable (F : RF) (n : Nat)
def toL (r : F.T) : List AV := (List.range n).map fun i => (F.get i).f r
theorem toL_length (r : F.T) : (toL F n r).length = n := by simp [toL]
theorem toL_get (r : F.T) {i : Nat} (h : i < n) : (toL F n r)[i]? = some ((F.get i).f r) := by simp [toL, h]
theorem toL_getD (r : F.T) (i : Nat) : (toL F n r).getD i AV.undef = if i < n then (F.get i).f r else AV.undef := by
  rw [List.getD_eq_getElem?_getD]
  split
  · rename_i h; rw [toL_get F n r h]; rfl
  · rw [List.getElem?_eq_none (by rw [toL_length]; omega)]; rfl
theorem toL_set (hn : n ≤ F.N) (r : F.T) {i : Nat} (h : i < n) (v : AV) : (toL F n r).set i v = toL F n ((F.set i).f v r) := by
  apply List.ext_getElem?
  intro j
  rw [List.getElem?_set]
  by_cases hj : j < n
  · rw [toL_get F n _ hj, toL_get F n _ hj, toL_length]
    by_cases e : i = j
    · subst e; simp [F.get_same i (by omega), h]
    · rw [if_neg e, F.get_other i j (by omega) (by omega) e]
  · rw [List.getElem?_eq_none (l := toL F n r) (by rw [toL_length]; omega), List.getElem?_eq_none (l := toL F n _) (by rw [toL_length]; omega), toL_length]
    rw [if_neg (by omega)]
/-- registers that hold a list's first values -/
noncomputable def ofL : List AV → F.T → Nat → F.T := fun l => List.rec (motive := fun _ => F.T → Nat → F.T) (fun r _ => r) (fun v _ ih r i => ih ((F.set i).f v r) (Nat.add i 1)) l
theorem ofL_nil (r : F.T) (i : Nat) : ofL F [] r i = r := rfl
theorem ofL_cons (v : AV) (l : List AV) (r : F.T) (i : Nat) : ofL F (v :: l) r i = ofL F l ((F.set i).f v r) (i + 1) := rfl
theorem ofL_get (hn : n ≤ F.N) : ∀ (l : List AV) (r : F.T) (i : Nat), i + l.length ≤ n → ∀ j, j < n → (F.get j).f (ofL F l r i) = if i ≤ j ∧ j < i + l.length then l.getD (j - i) AV.undef else (F.get j).f r
  | [], r, i, _, j, hj => by rw [ofL_nil, if_neg (by rw [List.length_nil]; omega)]
  | v :: l, r, i, h, j, hj => by
    simp only [List.length_cons] at h
    rw [ofL_cons, ofL_get hn l _ (i + 1) (by omega) j hj]
    simp only [List.length_cons]
    by_cases h1 : i + 1 ≤ j ∧ j < i + 1 + l.length
    · rw [if_pos h1, if_pos (by omega)]
      obtain ⟨m, hm⟩ : ∃ m, j - i = m + 1 := ⟨j - i - 1, by omega⟩
      rw [hm, show j - (i + 1) = m by omega, List.getD_cons_succ]
    · rw [if_neg h1]
      by_cases h2 : i = j
      · subst h2; rw [F.get_same i (by omega), if_pos (by omega)]; simp
      · rw [F.get_other i j (by omega) (by omega) h2, if_neg (by omega)]
theorem toL_ofL (hn : n ≤ F.N) (l : List AV) (h : l.length ≤ n) : toL F n (ofL F l F.z 0) = l ++ List.replicate (n - l.length) AV.undef := by
  apply List.ext_getElem?
  intro j
  by_cases hj : j < n
  · rw [toL_get F n _ hj, ofL_get F n hn l F.z 0 (by omega) j hj]
    by_cases h1 : j < l.length
    · rw [if_pos (by omega), List.getElem?_append_left h1, Nat.sub_zero, List.getD_eq_getElem?_getD, List.getElem?_eq_getElem h1]; rfl
    · rw [if_neg (by omega), List.getElem?_append_right (by omega), F.get_z j (by omega), List.getElem?_replicate, if_pos (by omega)]
  · rw [List.getElem?_eq_none (by rw [toL_length]; omega), List.getElem?_eq_none (by simp; omega)]
end

theorem rfOf_le {n : Nat} (h : n ≤ 512) : n ≤ (rfOf n).N := by
  unfold rfOf
  by_cases h1 : n ≤ 64
  · rw [Nat.ble_eq_true_of_le h1]; exact h1
  · rw [show Nat.ble n 64 = false by rw [Bool.eq_false_iff]; intro e; exact h1 (Nat.le_of_ble_eq_true e)]; exact h
end Go.Ab.Fa
