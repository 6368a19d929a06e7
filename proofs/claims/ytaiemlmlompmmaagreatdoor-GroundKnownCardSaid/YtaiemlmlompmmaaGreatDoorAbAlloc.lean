/-
  OPERATIONS THAT ONLY MAKE A BLOCK.
-/
import Derived.Test.YtaiemlmlompmmaaGreatDoorAbRead
import Derived.IntWalk
namespace Go.Ab
variable {E : Env}

theorem repCells_get (z : List AV) : ∀ (n i : Nat), i < n * z.length → (repCells z n)[i]? = z[i % z.length]?
  | 0, i, h => by omega
  | n + 1, i, h => by
    rw [repCells]
    by_cases hi : i < z.length
    · rw [List.getElem?_append_left hi, Nat.mod_eq_of_lt hi]
    · rw [List.getElem?_append_right (by omega), repCells_get z n (i - z.length) (by rw [Nat.add_mul] at h; omega)]
      rw [Nat.mod_eq_sub_mod (a := i) (by omega)]
theorem repCells_length (z : List AV) : ∀ n, (repCells z n).length = n * z.length
  | 0 => by simp [repCells]
  | n + 1 => by rw [repCells, List.length_append, repCells_length z n, Nat.add_mul]; omega

theorem rep_LR {φ : Ph} {z : List AV} {z' : Array Value} (h : LR φ z z'.toList) (n : Nat) : LR φ (repCells z n) ((Array.range (n * z'.size)).map (fun i => z'[i % z'.size]!)).toList := by
  have hl : z.length = z'.size := by simpa using h.1
  refine ⟨by rw [repCells_length]; simp [hl], fun i x y hx hy => ?_⟩
  have hi : i < n * z.length := by
    have := (List.getElem?_eq_some_iff.1 hx).1
    rwa [repCells_length] at this
  rw [repCells_get z n i hi] at hx
  obtain ⟨v, hv, hr⟩ := h.get hx
  have hpos : 0 < z'.size := by
    rcases Nat.eq_zero_or_pos z'.size with h0 | h0
    · rw [hl, h0] at hi; omega
    · exact h0
  have : i % z'.size < z'.size := Nat.mod_lt _ hpos
  rw [hl] at hi
  simp [hi] at hy
  rw [hl] at hv
  simp [this] at hv
  simp [this] at hy
  rw [← hy, hv]; exact hr

structure Made (E : Env) (φ : Ph) (obj : AObj) (mk : Nat → AV) (O : Obj) (mk' : Nat → Value) : Prop where
  val : ∀ (φ' : Ph) (i b : Nat), φ.le φ' → φ' i = some ⟨b, 0, 0⟩ → VR φ' (mk i) (mk' b)
  obj : ∀ (φ' : Ph) (b : Nat), φ.le φ' → OR E φ' obj ⟨b, 0, 0⟩ (some O)

theorem OR_cells {φ φ' : Ph} (hle : φ.le φ') {cs : List AV} {C : Array Value} (h : LR φ cs C.toList) (t e : TypeId) (b : Nat) : OR E φ' (.cells cs t false) ⟨b, 0, 0⟩ (some (.cells C e)) := by
  refine ⟨C, e, 0, 0, rfl, ?_, fun k x hk => ?_, fun _ k _ _ => by omega, fun _ => rfl⟩
  · have := h.1; simp at this; simp [slackCells, this]
  · obtain ⟨y, hy, hr⟩ := h.get hk
    exact ⟨y, by simpa using hy, hr.mono hle⟩

set_option linter.unusedSimpArgs false in
set_option maxHeartbeats 1000000 in
theorem allocA_sound {φ : Ph} (hg : GL E φ) {ts : List AV} {a : Act} (ht : LR φ ts a.tmps.toList) {o : Oper} {obj : AObj} {mk : Nat → AV} (e : allocA E ts o.op = some (obj, mk)) :
    ∃ O mk', Made E φ obj mk O mk' ∧ ∀ w, (execOp a.eval o).run E.P w = .ok (.value (mk' w.heap.size)) (w.alloc O) := by
  have ev : ∀ {x : Operand} {v : AV}, evs E ts x = some v → VR φ v (a.eval x) := fun h => evs_VR hg ht h
  unfold execOp
  generalize o.op = op at e ⊢
  unfold allocA at e
  split at e
  · -- alloc
    rename_i t
    split at e
    · rename_i z hz
      simp at e; obtain ⟨rfl, rfl⟩ := e
      obtain ⟨z', hzr, hzrun⟩ := zeroT_run hz
      refine ⟨.cells z'.cells t, fun b => .pointer (some ⟨b, 0, none⟩), ⟨fun φ' i b _ hi => by have := VR.ptr (φ := φ') 0 hi; simpa using this, fun φ' b hle => OR_cells hle (hzr φ).cells _ _ b⟩, fun w => run_v ?_⟩
      simp [Instr.alloc, hzrun, newVar, newRow]
    · simp at e
  · -- box
    rename_i t x
    split at e
    · rename_i v hv
      simp at e; obtain ⟨rfl, rfl⟩ := e
      refine ⟨.cells (a.eval x).cells t, fun b => .pointer (some ⟨b, 0, none⟩), ⟨fun φ' i b _ hi => by have := VR.ptr (φ := φ') 0 hi; simpa using this, fun φ' b hle => OR_cells hle (ev hv).cells _ _ b⟩, fun w => run_v ?_⟩
      simp [Instr.box, newVar, newRow]
    · simp at e
  · -- buildSlice
    rename_i t len parts
    split at e
    · rename_i elem hu
      split at e
      · rename_i n z ps hn hz hps
        split at e
        · rename_i hc
          split at e
          · rename_i cs hf
            simp at e; obtain ⟨rfl, rfl⟩ := e
            obtain ⟨z', hzr, hzrun⟩ := zeroT_run hz
            have hp := partsA_PR hg ht hps
            have hzl : z'.cells.size = n := by have := (hzr φ).cells.1; simp at this; omega
            have hrep := rep_LR (hzr φ).cells len
            rw [hzl] at hrep
            obtain ⟨C', hfill, hlr⟩ := fillA_run (place := fun i => some (i * n, n)) (qs := (parts.map fun (i, x) => (i, a.eval x)).toList) (by simpa using hp) hrep hf
            refine ⟨.cells C' elem, fun b => .slice (some ⟨b, 0, none⟩) len len, ⟨fun φ' i b _ hi => by have := VR.slice (φ := φ') 0 len len false hi; simpa [capOf] using this, fun φ' b hle => OR_cells hle hlr _ _ b⟩, fun w => run_v ?_⟩
            have h24 : ¬ len * n > 2 ^ 24 := by omega
            simp only [Instr.buildSlice, Sem.run_bind, run_underlying hu, Result.andThen_ok, run_size hn, h24, if_false, Sem.run_pure]
            by_cases h0 : len * n = 0
            · simp only [h0, if_true, Sem.run_pure, Result.andThen_ok]
              rw [h0] at hfill
              have r0 : Array.range 0 = #[] := rfl
              simp [r0] at hfill
              simp [hfill, newRow, r0]
            · simp only [h0, if_false, Sem.run_bind, hzrun, Result.andThen_ok, Sem.run_pure]
              rw [hzl]
              simp only [hfill]
              simp [newRow]
          · simp at e
        · simp at e
      · simp at e
    · simp at e
  · -- makeSlice
    rename_i t lo co
    split at e
    · rename_i elem k len k' cap hu hl hc
      split at e
      · rename_i n bytes z hn hb hz
        split at e
        · rename_i hcnd
          obtain ⟨c1, c2, c3, c4, c5⟩ := hcnd
          simp at e; obtain ⟨rfl, rfl⟩ := e
          obtain ⟨z', hzr, hzrun⟩ := zeroT_run hz
          have hzl : z'.cells.size = n := by have := (hzr φ).cells.1; simp at this; omega
          have hrep := rep_LR (hzr φ).cells cap.toNat
          rw [hzl] at hrep
          have h1 := ev hl
          have h2 := ev hc
          generalize hlv : a.eval lo = lv at h1
          generalize hcv : a.eval co = cv at h2
          cases h1; cases h2
          refine ⟨.cells ((Array.range (cap.toNat * n)).map (fun i => z'.cells[i % n]!)) elem, fun b => .slice (some ⟨b, 0, none⟩) len.toNat cap.toNat,
            ⟨fun φ' i b _ hi => by have := VR.slice (φ := φ') 0 len.toNat cap.toNat false hi; simpa [capOf] using this, fun φ' b hle => OR_cells hle hrep _ _ b⟩, fun w => run_v ?_⟩
          have w1 : IntKind.i64.wrap len = len := IntWalk.i64_in _ (by omega)
          have w2 : IntKind.i64.wrap cap = cap := IntWalk.i64_in _ (by omega)
          obtain ⟨inf, hinf, hbytes⟩ := run_bytes hb w
          have t1 : ¬ (cap < 0 ∨ (2 ^ 48 : Int) < bytes * cap) := by omega
          simp only [Instr.makeSlice, Sem.run_bind, run_underlying hu, Result.andThen_ok, hlv, hcv, asInt, asIntOf, Sem.run_pure, hinf, hbytes, w1, w2]
          have hb0 : (0 : Int) ≤ inf.bytes * cap := Int.mul_nonneg (by omega) (by omega)
          have tl : (decide (cap < 0) || decide ((inf.bytes : Int) * cap > 2 ^ 48)) = false := by
            rw [hbytes]; simp only [Bool.or_eq_false_iff, decide_eq_false_iff_not]; omega
          have tl2 : decide (len < 0) = false := by simp only [decide_eq_false_iff_not]; omega
          have tl3 : decide (len > cap) = false := by simp only [decide_eq_false_iff_not]; omega
          rw [← hbytes]
          simp only [tl, tl2, tl3, Bool.or_self, Bool.false_eq_true, if_false, run_askRoom, run_size hn, Sem.run_bind, Result.andThen_ok]
          by_cases h0 : cap.toNat * n = 0
          · have r0 : Array.range 0 = #[] := rfl
            simp [h0, newRow, r0]
          · simp only [h0, if_false, Sem.run_bind, hzrun, Result.andThen_ok, Sem.run_pure]
            simp [newRow, hzl]
        · simp at e
      · simp at e
    · simp at e
  · -- makeMap
    rename_i t r
    split at e
    · simp at e; obtain ⟨rfl, rfl⟩ := e
      exact ⟨.map #[] 0, fun b => .map (some b), ⟨fun φ' i b _ hi => by have := VR.map (φ := φ') hi; simpa using this, fun φ' b hle => ⟨rfl, #[], rfl, rfl, fun i x y p _ => by simp at p⟩⟩, fun w => run_v (by simp [Instr.makeMap])⟩
    · rename_i o
      split at e
      · rename_i hu hv
        simp at e; obtain ⟨rfl, rfl⟩ := e
        have h1 := ev hv
        generalize hlv : a.eval o = lv at h1
        cases h1
        exact ⟨.map #[] 0, fun b => .map (some b), ⟨fun φ' i b _ hi => by have := VR.map (φ := φ') hi; simpa using this, fun φ' b hle => ⟨rfl, #[], rfl, rfl, fun i x y p _ => by simp at p⟩⟩, fun w => run_v (by simp [Instr.makeMap, run_underlying hu, hlv, asInt, asIntOf])⟩
      · simp at e
  · -- range
    rename_i t x
    split at e
    · rename_i s hu hx
      simp at e; obtain ⟨rfl, rfl⟩ := e
      have h1 := ev hx
      generalize hlv : a.eval x = lv at h1
      generalize hss : AV.str s = s0 at h1
      cases h1 <;> cases hss
      rename_i s'
      exact ⟨.stringIter s' 0, fun b => .pointer (some ⟨b, 0, none⟩), ⟨fun φ' i b _ hi => by have := VR.ptr (φ := φ') 0 hi; simpa using this, fun φ' b hle => ⟨rfl, s', rfl, rfl⟩⟩, fun w => run_v (by simp [Instr.range, run_underlying hu, hlv])⟩
    · rename_i hu hx
      simp at e; obtain ⟨rfl, rfl⟩ := e
      have h1 := ev hx
      generalize hlv : a.eval x = lv at h1
      cases h1
      exact ⟨.mapIter none 0 #[] 0, fun b => .pointer (some ⟨b, 0, none⟩), ⟨fun φ' i b _ hi => by have := VR.ptr (φ := φ') 0 hi; simpa using this, fun φ' b hle => ⟨rfl, rfl⟩⟩, fun w => run_v (by simp [Instr.range, run_underlying hu, hlv])⟩
    · simp at e
  · simp at e

end Go.Ab
