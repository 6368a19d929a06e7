/-
  OPERATIONS THAT NEITHER READ NOR WRITE MEMORY, one by one.
-/
import Derived.Test.YtaiemlmlompmmaaGreatDoorAbPure
import Derived.Deep.MidRow
import Derived.Lib.Strings
namespace Go.Ab
variable {E : Env}

theorem unA_run {φ : Ph} {op : UnOp} {x v : AV} (h : unA op x = some v) {x' : Value} (hx : VR φ x x') : ∃ v', VR φ v v' ∧ ∀ w, (Op.unary op x').run E.P w = .ok v' w := by
  unfold unA at h
  split at h
  · cases hx; simp at h; subst h; exact ⟨_, .int _ _, fun w => by simp [Op.unary, Op.intArith]⟩
  · cases hx; simp at h; subst h; exact ⟨_, .int _ _, fun w => by simp [Op.unary, Op.intBits]⟩
  · cases hx; simp at h; subst h; exact ⟨_, .bool _, fun w => by simp [Op.unary]⟩
  · simp at h

theorem boundA_run {φ : Ph} {x : AV} {y n : Nat} (h : boundA x y = some n) {x' : Value} (hx : VR φ x x') {y' : Nat} (hy : y ≤ y') (code : BoundsCode) :
    (∀ w, (Instr.sliceBound x' y' code).run E.P w = .ok n w) ∧ n ≤ y := by
  unfold boundA at h
  split at h
  · split at h
    · rename_i hc
      cases hx
      simp at h; subst h
      refine ⟨fun w => ?_, by omega⟩
      simp only [Instr.sliceBound, asIntOf, Sem.run_bind, Sem.run_pure, Result.andThen_ok]
      rw [if_pos (by omega)]; rfl
    · simp at h
  · simp at h

def OptR (φ : Ph) : Option AV → Option Value → Prop
  | none, none => True
  | some x, some y => VR φ x y
  | _, _ => False

theorem sliceBounds_eq (isS : Bool) (len cap' : Nat) (lo' hi' mx' : Option Value) : Instr.sliceBounds isS len cap' lo' hi' mx' = (do
    let m ← (match mx' with | some v => Instr.sliceBound v cap' (if isS then .slice3Acap else .slice3Alen) | none => pure cap' : Sem Nat)
    let h ← (match hi', mx' with | some v, some _ => Instr.sliceBound v m .slice3B | some v, none => Instr.sliceBound v m (if isS then .sliceAcap else .sliceAlen) | none, none => pure len | none, some _ => stuck "Slice: max without high" : Sem Nat)
    let l ← (match lo' with | some v => Instr.sliceBound v h (if mx'.isSome then .slice3C else .sliceB) | none => pure 0 : Sem Nat)
    pure (l, h, m)) := by
  unfold Instr.sliceBounds
  cases mx' <;> cases hi' <;> cases lo' <;> rfl

theorem boundsA_run {φ : Ph} {len cap : Nat} {lo hi mx : Option AV} {l h m : Nat} (e : boundsA len cap lo hi mx = some (l, h, m)) {lo' hi' mx' : Option Value}
    (hlo : OptR φ lo lo') (hhi : OptR φ hi hi') (hmx : OptR φ mx mx') {cap' : Nat} (hc : cap ≤ cap') (isS : Bool) (hlen : len ≤ cap) :
    (∀ w, (Instr.sliceBounds isS len cap' lo' hi' mx').run E.P w = .ok (l, h, if mx.isNone then cap' else m) w) ∧ l ≤ h ∧ h ≤ m ∧ m ≤ cap ∧ (mx = none → m = cap) := by
  unfold boundsA at e
  split at e
  · simp at e
  rename_i m0 hm0
  have hm : (∀ w, (match mx' with | some v => Instr.sliceBound v cap' (if isS then .slice3Acap else .slice3Alen) | none => pure cap' : Sem Nat).run E.P w = .ok (if mx.isNone then cap' else m0) w) ∧ m0 ≤ cap ∧ (mx = none → m0 = cap) := by
    cases mx with
    | none =>
      cases mx' with
      | some _ => exact hmx.elim
      | none => simp at hm0; subst hm0; exact ⟨fun w => rfl, Nat.le_refl _, fun _ => rfl⟩
    | some v =>
      cases mx' with
      | none => exact hmx.elim
      | some v' =>
        have := fun code => boundA_run (E := E) hm0 (show VR φ v v' from hmx) hc code
        exact ⟨(this _).1, (this .index).2, fun e => by simp at e⟩
  split at e
  · simp at e
  rename_i h0 hh0
  have hmle : m0 ≤ (if mx.isNone then cap' else m0) := by split <;> omega
  have hh : (∀ w, (match hi', mx' with | some v, some _ => Instr.sliceBound v (if mx.isNone then cap' else m0) .slice3B | some v, none => Instr.sliceBound v (if mx.isNone then cap' else m0) (if isS then .sliceAcap else .sliceAlen) | none, none => pure len | none, some _ => stuck "Slice: max without high" : Sem Nat).run E.P w = .ok h0 w) ∧ h0 ≤ m0 := by
    cases hi with
    | none =>
      cases hi' with
      | some _ => exact hhi.elim
      | none =>
        cases mx with
        | some _ => simp at hh0
        | none =>
          cases mx' with
          | some _ => exact hmx.elim
          | none => simp at hh0; subst hh0; exact ⟨fun w => rfl, by have := hm.2.2 rfl; omega⟩
    | some v =>
      cases hi' with
      | none => exact hhi.elim
      | some v' =>
        have := fun code => boundA_run (E := E) hh0 (show VR φ v v' from hhi) hmle code
        cases mx' with
        | none => exact ⟨(this _).1, (this .index).2⟩
        | some _ => exact ⟨(this _).1, (this .index).2⟩
  split at e
  · simp at e
  rename_i l0 hl0
  simp at e
  obtain ⟨rfl, rfl, rfl⟩ := e
  have hl : (∀ w, (match lo' with | some v => Instr.sliceBound v h0 (if mx'.isSome then .slice3C else .sliceB) | none => pure 0 : Sem Nat).run E.P w = .ok l0 w) ∧ l0 ≤ h0 := by
    cases lo with
    | none =>
      cases lo' with
      | some _ => exact hlo.elim
      | none => simp at hl0; subst hl0; exact ⟨fun w => rfl, by omega⟩
    | some v =>
      cases lo' with
      | none => exact hlo.elim
      | some v' =>
        have := fun code => boundA_run (E := E) hl0 (show VR φ v v' from hlo) (Nat.le_refl _) code
        exact ⟨(this _).1, (this .index).2⟩
  refine ⟨fun w => ?_, hl.2, hh.2, hm.2.1, hm.2.2⟩
  rw [sliceBounds_eq, Sem.run_bind, hm.1 w, Result.andThen_ok, Sem.run_bind, hh.1 w, Result.andThen_ok, Sem.run_bind, hl.1 w]
  rfl

theorem add_off (b o n : Nat) : (⟨b, o, none⟩ : Addr).add n = ⟨b, o + n, none⟩ := Addr.add_mid b o n

theorem sliceA_run {φ : Ph} {t : TypeId} {x v : AV} {lo hi mx : Option AV} (e : sliceA E t x lo hi mx = some v) {x' : Value} {lo' hi' mx' : Option Value}
    (hx : VR φ x x') (hlo : OptR φ lo lo') (hhi : OptR φ hi hi') (hmx : OptR φ mx mx') : ∃ v', VR φ v v' ∧ ∀ w, (Instr.sliceAt t x' lo' hi' mx').run E.P w = .ok v' w := by
  unfold sliceA at e
  split at e
  · -- an array's address
    rename_i n elem i o hu
    cases hx with
    | @ptr _ l _ hφ =>
    split at e
    · rename_i l0 h0 m0 size hb hs
      simp at e; subst e
      obtain ⟨hr, h1, h2, h3, h4⟩ := boundsA_run (E := E) hb hlo hhi hmx (Nat.le_refl n) false (Nat.le_refl n)
      have hm : (if mx.isNone then n else m0) = m0 := by
        cases mx with
        | none => simp [h4 rfl]
        | some _ => rfl
      rw [hm] at hr
      refine ⟨_, .slice (if m0 = l0 then o else o + l0 * size) (h0 - l0) (m0 - l0) false hφ, fun w => ?_⟩
      simp only [Instr.sliceAt, Sem.run_bind, run_underlying hu, Result.andThen_ok, Instr.sureAddr, Sem.run_pure, hr w, run_size hs, capOf, Bool.false_eq_true, if_false]
      by_cases hml : m0 = l0
      · simp [hml]
      · simp only [hml, if_false, add_off]; rw [Nat.add_assoc]
    · simp at e
  · -- a string
    rename_i s hu
    split at e
    · rename_i l0 h0 m0 hb
      simp at e; subst e
      generalize hs : s = s0 at hx hb
      cases hx with
      | str s' =>
      subst hs
      have e1 : s'.size = s'.data.toList.length := by cases s'; rfl
      cases mx' with
      | some _ => exact hmx.elim
      | none =>
      obtain ⟨hr, h1, h2, h3, h4⟩ := boundsA_run (E := E) (mx := none) (mx' := none) hb hlo hhi trivial (Nat.le_refl _) false (Nat.le_refl _)
      refine ⟨.string (s'.extract l0 h0), ?_, fun w => ?_⟩
      · have := VR.str (φ := φ) (s'.extract l0 h0)
        have e2 : (s'.extract l0 h0).data.toList = (s'.data.toList.drop l0).take (h0 - l0) := by
          exact Lib.extract_data s' l0 h0
        rw [e2] at this; exact this
      · have hr' := hr w
        rw [← e1] at hr'
        simp only [Instr.sliceAt, Instr.slice, Sem.run_bind, run_underlying hu, Result.andThen_ok, Option.isSome_none, Bool.false_eq_true, if_false, hr', Sem.run_pure]
    · simp at e
  · -- the nil slice
    rename_i elem hu
    cases hx
    split at e
    · rename_i r size hb hs
      simp at e; subst e
      obtain ⟨l0, h0, m0⟩ := r
      obtain ⟨hr, h1, h2, h3, h4⟩ := boundsA_run (E := E) hb hlo hhi hmx (Nat.le_refl _) true (Nat.le_refl _)
      have hm : (if mx.isNone then 0 else m0) = 0 := by split <;> omega
      rw [hm] at hr
      refine ⟨_, .nilslice, fun w => ?_⟩
      obtain rfl : l0 = 0 := by omega
      obtain rfl : h0 = 0 := by omega
      simp only [Instr.sliceAt, Instr.slice, Sem.run_bind, run_underlying hu, Result.andThen_ok, hr w, run_size hs, if_true, Sem.run_pure]
    · simp at e
  · rename_i elem i o len cap op hu
    cases hx with
    | @slice _ l _ _ _ _ hφ =>
    split at e
    · rename_i hlc
      split at e
      · rename_i l0 h0 m0 size hb hs
        have hcc : cap ≤ capOf op cap l.slack := by unfold capOf; split <;> omega
        obtain ⟨hr, h1, h2, h3, h4⟩ := boundsA_run (E := E) hb hlo hhi hmx hcc true hlc
        have run : ∀ w, (Instr.sliceAt t (.slice (some ⟨l.blk, l.off + o, none⟩) len (capOf op cap l.slack)) lo' hi' mx').run E.P w =
            .ok (.slice (if (if mx.isNone then capOf op cap l.slack else m0) = l0 then some ⟨l.blk, l.off + o, none⟩ else some ⟨l.blk, l.off + o + l0 * size, none⟩) (h0 - l0) ((if mx.isNone then capOf op cap l.slack else m0) - l0)) w := fun w => by
          simp only [Instr.sliceAt, Instr.slice, Sem.run_bind, run_underlying hu, Result.andThen_ok, hr w, run_size hs, Sem.run_pure, Option.map_some, add_off]
        split at e
        · rename_i hml
          split at e
          · rename_i hop
            have hmn : mx.isNone = true := by simp at hop; simpa using hop.2
            simp only [Option.some.injEq] at e; subst e
            have e0 : h0 - l0 = 0 := by omega
            rw [e0] at run
            by_cases hq : (if mx.isNone then capOf op cap l.slack else m0) = l0
            · exact ⟨_, .zslice _ _, fun w => by rw [run w, if_pos hq]⟩
            · exact ⟨_, .zslice _ _, fun w => by rw [run w, if_neg hq]⟩
          · rename_i hop
            simp at e; subst e
            have hcm : (if mx.isNone then capOf op cap l.slack else m0) = m0 := by
              cases hmn : mx with
              | none => subst hmn; simp at hop; subst hop; simp [capOf, h4 rfl]
              | some _ => rfl
            rw [hcm, if_pos hml] at run
            exact ⟨_, .slice o (h0 - l0) (m0 - l0) false hφ, run⟩
        · rename_i hml
          simp only [Option.some.injEq] at e; subst e
          have hne : ¬ (if mx.isNone then capOf op cap l.slack else m0) = l0 := by
            split
            · rename_i hmn; have := h4 (by simpa using hmn); omega
            · exact hml
          rw [if_neg hne, Nat.add_assoc] at run
          refine ⟨_, ?_, run⟩
          have := VR.slice (φ := φ) (o + l0 * size) (h0 - l0) (m0 - l0) (op && mx.isNone) hφ
          have e2 : capOf (op && mx.isNone) (m0 - l0) l.slack = (if mx.isNone then capOf op cap l.slack else m0) - l0 := by
            cases hmn : mx with
            | none =>
              have h5 := h4 hmn
              cases op with
              | true => simp [capOf]; omega
              | false => simp [capOf]; omega
            | some _ => simp [capOf]
          rw [e2] at this; exact this
      · simp at e
    · simp at e
  · simp at e

end Go.Ab
