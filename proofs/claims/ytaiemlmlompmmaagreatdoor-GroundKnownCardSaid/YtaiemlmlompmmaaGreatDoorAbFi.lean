/-
  A FAST RUN: calls, append, and the kinds of all operations.
-/
import Derived.Test.YtaiemlmlompmmaaGreatDoorAbFh
namespace Go.Ab.Fa
variable {E : Env} {F : RF} {n : Nat}

theorem evAll_one {ts : List AV} {x : Operand} {a : AV} (h : evs E ts x = some a) : evAll E ts [x] = some [a] := by simp [evAll, mapAll, h]
theorem evAll_two {ts : List AV} {x y : Operand} {a b : AV} (h : evs E ts x = some a) (h' : evs E ts y = some b) : evAll E ts [x, y] = some [a, b] := by simp [evAll, mapAll, h, h']
theorem lenF_eq (v : AV) : lenF v = lenA v := by
  cases v with
  | str s => show some (llen s) = some s.length; rw [llen_eq]
  | _ => rfl
theorem firstF_eq {h : Heap} {size m : Nat} {v : AV} {l : List AV} (e : firstF h size m v = some l) : firstA h size m v = some l := by
  cases v with
  | nilslice =>
    obtain ⟨h1, e1⟩ := bc_opt (show bc (Nat.beq m 0) (some []) none = some l from e)
    simp only [firstA]; rw [if_pos (beq_of h1)]; exact e1
  | slice i o len c b =>
    obtain ⟨h1, e1⟩ := bc_opt (show bc (Nat.ble m len) (ob none (fun obj => oCells (fun cs _ _ => bc (Nat.ble (o + m * size) (llen cs)) (some (ltake (ldrop cs o) (m * size))) none) none obj) (h.get i)) none = some l from e)
    obtain ⟨obj, h2, e2⟩ := ob_opt e1
    obtain ⟨cs, el, ro, rfl, e3⟩ := oCells_opt e2
    obtain ⟨h3, e4⟩ := bc_opt e3
    have h1 := ble_le h1
    have h3 := ble_le h3
    rw [llen_eq] at h3
    rw [ltake_eq, ldrop_eq] at e4
    simp only [firstA, h2]
    rw [if_pos h1, if_pos h3]; exact e4
  | _ => exact e
theorem newOb {h : Heap} {obj : AObj} {f : Heap → AV × Heap} {p : AV × Heap} (e : ob none (fun h' => some (f h')) (h.new obj) = some p) : ∃ h', h.new obj = some h' ∧ p = f h' := by
  obtain ⟨h', h1, e1⟩ := ob_opt e
  exact ⟨h', h1, (Option.some.inj e1).symm⟩
theorem appF_eq {argTypes : Array TypeId} {sT xT elem : TypeId} {xd : TypeDesc} {size bytes : Nat} {z : AV} (h1 : argTypes[0]? = some sT) (h2 : argTypes[1]? = some xT) (h3 : E.P.underlying sT = some (.slice elem)) (h4 : E.P.underlying xT = some xd)
    (h5 : isIntD xd = false) (h6 : sizeT E elem = some size) (h7 : bytesT E elem = some bytes) (h8 : zeroT E elem = some z) (h9 : z.cells.length = size)
    {h : Heap} {s x : AV} {p : AV × Heap} (e : appF elem size bytes h s x = some p) : appendA E h argTypes s x = some p := by
  obtain ⟨m, a1, e1⟩ := ob_opt e
  rw [lenF_eq] at a1
  obtain ⟨new, a2, e2⟩ := ob_opt e1
  have a2 := firstF_eq a2
  obtain ⟨a3, e3⟩ := bc_opt e2
  obtain ⟨a4, e4⟩ := bc_opt e3
  rw [lall_eq, isSc_fun] at a3
  have a4 := beq_of a4
  rw [llen_eq] at a4
  unfold appendA
  simp only [h1, h2, h3, h4, h5, h6, h7, h8, a1, a2]
  rw [if_neg (by simp)]
  rw [if_pos ⟨h9, a3, a4⟩]
  rcases vSlice_opt e4 with ⟨rfl, e5⟩ | ⟨i, o, len, cap, op, rfl, e5⟩
  · cases hm : Nat.beq m 0 with
    | true =>
      rw [hm, bc_true] at e5
      simp only; rw [if_pos (beq_of hm)]; exact e5
    | false =>
      rw [hm, bc_false] at e5
      obtain ⟨a5, e6⟩ := bc_opt e5
      have a5 : (4 * m + 4096) * (bytes + 1) ≤ 1099511627776 := ble_le a5
      obtain ⟨h', a6, rfl⟩ := newOb e6
      simp only
      rw [if_neg (by intro ee; rw [ee] at hm; cases hm), if_pos a5]
      simp only [a6]
  · obtain ⟨obj, a5, e6⟩ := ob_opt e5
    obtain ⟨cs, el, ro, rfl, e7⟩ := oCells_opt e6
    obtain ⟨a6, e8⟩ := bc_opt' e7
    subst a6
    simp only [a5]
    cases hc : Nat.ble (Nat.add len m) cap with
    | true =>
      rw [hc, bc_true] at e8
      have hc : len + m ≤ cap := ble_le hc
      obtain ⟨a7, e9⟩ := bc_opt e8
      have a7 : o + (len + m) * size ≤ llen cs := ble_le a7
      rw [llen_eq] at a7
      rw [if_pos hc, if_pos a7, ← Option.some.inj e9, lput_eq]; rfl
    | false =>
      rw [hc, bc_false] at e8
      have hc : cap < len + m := ble_lt hc
      obtain ⟨a7, e9⟩ := bc_opt e8
      have a7 : (4 * (len + m) + 4096) * (bytes + 1) ≤ 1099511627776 := ble_le a7
      obtain ⟨a8, e10⟩ := bc_opt e9
      have a8 : o + len * size ≤ llen cs := ble_le a8
      rw [llen_eq] at a8
      rw [if_neg (by omega)]
      cases op with
      | true =>
        rw [bc_true] at e10
        obtain ⟨a9, e11⟩ := bc_opt e10
        obtain ⟨a10, e12⟩ := bc_opt e11
        have a9 := beq_of a9
        have a10 : o + cap * size = llen cs := beq_of a10
        rw [llen_eq] at a10
        obtain ⟨h', a11, rfl⟩ := newOb e12
        rw [lapp_eq, ltake_eq, ldrop_eq] at a11
        rw [if_pos ⟨a7, a8, fun _ => ⟨a9, a10⟩⟩]
        rw [if_pos rfl]
        have a11' : (h.put i none).new (.cells ((cs.drop o).take (len * size) ++ new) elem false) = some h' := a11
        simp only [a11']; rfl
      | false =>
        rw [bc_false] at e10
        obtain ⟨h', a11, rfl⟩ := newOb e10
        rw [lapp_eq, ltake_eq, ldrop_eq] at a11
        rw [if_pos ⟨a7, a8, fun hh => by cases hh⟩]
        rw [if_neg (by simp)]
        have a11' : h.new (.cells ((cs.drop o).take (len * size) ++ new) elem false) = some h' := a11
        simp only [a11']; rfl
theorem nones_eff_builtin {b : Builtin} (h1 : b ≠ .len) (h2 : b ≠ .cap) (h3 : b ≠ .max) (h4 : b ≠ .min) (a : Array Operand) (t : Array TypeId) : Nones E (.call ⟨.builtin b, a, t⟩) := by
  cases b <;> first | exact absurd rfl h1 | exact absurd rfl h2 | exact absurd rfl h3 | exact absurd rfl h4 | exact ⟨fun _ => rfl, fun _ _ => rfl, fun _ => rfl⟩
theorem append_ok (a : Array Operand) (t : Array TypeId) : KdOK E F n (.call ⟨.builtin .append, a, t⟩) (match a.toList with
    | [s, x] => wO E F n s (fun gs => wO E F n x (fun gx => appK E t gs gx) .bad) .bad
    | _ => .bad) := by
  have nn : Nones E (.call ⟨.builtin .append, a, t⟩) := nones_eff_builtin (by simp) (by simp) (by simp) (by simp) a t
  generalize hl : a.toList = l
  match l with
  | [] => trivial
  | [_] => trivial
  | _ :: _ :: _ :: _ => trivial
  | [s, x] =>
    simp only
    rcases wO_spec E F n s (fun gs => wO E F n x (fun gx => appK E t gs gx) .bad) (.bad : Kd F.T) with h | ⟨gs, h, hs⟩ <;> rw [h]
    · trivial
    rcases wO_spec E F n x (fun gx => appK E t gs gx) (.bad : Kd F.T) with h | ⟨gx, h, hx⟩ <;> rw [h]
    · trivial
    unfold appK
    simp only [lnth_eq, Array.getElem?_toList, undF_eq, szF_eq, byF_eq, zeF_eq]
    have fin : ∀ (f : F.T → Heap → Option (AV × Heap)), (∀ r h p, f r h = some p → appendA E h t (gs r) (gx r) = some p) → KdOK E F n (.call ⟨.builtin .append, a, t⟩) (.wr f) := by
      intro f hf
      refine ⟨nn, fun call r h rc o p ho e => ?_⟩
      simp only [effA, ho, hl, evAll_two (hs r) (hx r), hf r h p e]
    cases h1 : t[0]? with
    | none => trivial
    | some sT => cases h2 : t[1]? with
      | none => trivial
      | some xT =>
        simp only
        cases h3 : E.P.underlying sT with
        | none => trivial
        | some sd => cases h4 : E.P.underlying xT with
          | none => cases sd <;> trivial
          | some xd => cases sd with
            | slice elem =>
              simp only
              cases h5 : isIntD xd with
              | true =>
                rw [if_pos rfl]
                apply fin
                intro r h p e
                unfold appendA
                simp only [h1, h2, h3, h4, h5]
                rw [if_pos trivial]; exact e
              | false =>
                rw [if_neg (by simp)]
                cases h6 : sizeT E elem with
                | none => trivial
                | some size => cases h7 : bytesT E elem with
                  | none => trivial
                  | some bytes => cases h8 : zeroT E elem with
                    | none => trivial
                    | some z =>
                      simp only
                      by_cases h9 : z.cells.length = size
                      · rw [if_pos h9]
                        exact fin _ fun r h p e => appF_eq h1 h2 h3 h4 h5 h6 h7 h8 h9 e
                      · rw [if_neg h9]; trivial
            | _ => trivial
theorem copy_ok (a : Array Operand) (t : Array TypeId) : KdOK E F n (.call ⟨.builtin .copy, a, t⟩) (match a.toList with
    | [s, x] => wO E F n s (fun gs => wO E F n x (fun gx => .wr fun r h => copyA E h t (gs r) (gx r)) .bad) .bad
    | _ => .bad) := by
  have nn : Nones E (.call ⟨.builtin .copy, a, t⟩) := nones_eff_builtin (by simp) (by simp) (by simp) (by simp) a t
  generalize hl : a.toList = l
  match l with
  | [] => trivial
  | [_] => trivial
  | _ :: _ :: _ :: _ => trivial
  | [s, x] =>
    simp only
    rcases wO_spec E F n s (fun gs => wO E F n x (fun gx => (.wr fun r h => copyA E h t (gs r) (gx r) : Kd F.T)) .bad) (.bad : Kd F.T) with h | ⟨gs, h, hs⟩ <;> rw [h]
    · trivial
    rcases wO_spec E F n x (fun gx => (.wr fun r h => copyA E h t (gs r) (gx r) : Kd F.T)) (.bad : Kd F.T) with h | ⟨gx, h, hx⟩ <;> rw [h]
    · trivial
    refine ⟨nn, fun call r h rc o p ho e => ?_⟩
    simp only [effA, ho, hl, evAll_two (hs r) (hx r), e]
theorem recover_ok (a : Array Operand) (t : Array TypeId) : KdOK E F n (.call ⟨.builtin .recover, a, t⟩) (.eff fun _ _ h rc => match rc with
    | .pend x => .recov x
    | .bar _ => .fail "" none
    | _ => .val .nilIface h) := by
  refine ⟨nones_eff_builtin (by simp) (by simp) (by simp) (by simp) a t, fun fc call _ r h rc o ho => ?_⟩
  simp only [effA, ho]
  cases rc <;> first | trivial | rfl
theorem len_ok (a : Array Operand) (t : Array TypeId) : KdOK E F n (.call ⟨.builtin .len, a, t⟩) (match lnth t.toList 0, a.toList with
    | some t, [x] => wO E F n x (fun g => match undF E.P t with
      | some .string => .pur fun r => vStr (fun s => some (.int .i64 (Int.ofNat (llen s)))) none (g r)
      | some (.array m _) => .pur fun _ => some (.int .i64 (Int.ofNat m))
      | some (.slice _) => .pur fun r => vSlice (some (.int .i64 (Int.ofNat 0))) (fun _ _ m _ _ => some (.int .i64 (Int.ofNat m))) (vZ (some (.int .i64 (Int.ofNat 0))) none (g r)) (g r)
      | some (.map _ _) => .red fun r h => mlenF h (g r)
      | _ => .bad) .bad
    | _, _ => .bad) := by
  rw [lnth_eq, Array.getElem?_toList]
  cases ht : t[0]? with
  | none => trivial
  | some tt =>
    generalize hl : a.toList = l
    match l with
    | [] => trivial
    | _ :: _ :: _ => trivial
    | [x] =>
      simp only [undF_eq]
      rcases wO_spec E F n x (fun g => match E.P.underlying tt with
        | some .string => (.pur fun r => vStr (fun s => some (.int .i64 (Int.ofNat (llen s)))) none (g r) : Kd F.T)
        | some (.array m _) => .pur fun _ => some (.int .i64 (Int.ofNat m))
        | some (.slice _) => .pur fun r => vSlice (some (.int .i64 (Int.ofNat 0))) (fun _ _ m _ _ => some (.int .i64 (Int.ofNat m))) (vZ (some (.int .i64 (Int.ofNat 0))) none (g r)) (g r)
        | some (.map _ _) => .red fun r h => mlenF h (g r)
        | _ => .bad) .bad with h | ⟨g, h, hg⟩ <;> rw [h]
      · trivial
      cases hu : E.P.underlying tt with
      | none => trivial
      | some d => cases d with
        | string =>
          intro r v e
          obtain ⟨s, e1, e2⟩ := vStr_opt e
          simp only [pureA, ht, hl, evAll_one (hg r), hu, e1]
          rw [← e2, llen_eq]; rfl
        | array m el =>
          intro r v e
          simp only [pureA, ht, hl, evAll_one (hg r), hu]
          exact e
        | slice el =>
          intro r v e
          rcases vSliceZ_opt e with ⟨e1, e2⟩ | ⟨i, o, l, c, b, e1, e2⟩ | ⟨e1, e2⟩
          · simp only [pureA, ht, hl, evAll_one (hg r), hu, e1]; exact e2
          · simp only [pureA, ht, hl, evAll_one (hg r), hu, e1]; exact e2
          · simp only [pureA, ht, hl, evAll_one (hg r), hu, e1]; exact e2
        | map key el =>
          intro r h v e
          have e : mlenF h (g r) = some v := e
          generalize hm : g r = m at e
          cases m with
          | nilmap => exact .inl (by simp only [pureA, ht, hl, evAll_one (hg r), hu, hm]; exact e)
          | map i =>
            refine .inr ⟨by simp only [pureA, ht, hl, evAll_one (hg r), hu, hm], ?_⟩
            obtain ⟨o, h3, h4⟩ := ob_opt (show ob none (fun o => oMap (fun es => some (AV.int .i64 (Int.ofNat (llen es)))) none o) (h.get i) = some v from e)
            cases o with
            | map es c =>
              have h4 : some (AV.int .i64 (Int.ofNat (llen es))) = some v := h4
              simp only [readA, ht, hl, evAll_one (hg r), hu, hm, h3]
              rw [← h4, llen_eq]; rfl
            | _ => cases h4
          | _ => cases e
        | _ => trivial
theorem cap_ok (a : Array Operand) (t : Array TypeId) : KdOK E F n (.call ⟨.builtin .cap, a, t⟩) (match lnth t.toList 0, a.toList with
    | some t, [x] => wO E F n x (fun g => match undF E.P t with
      | some (.slice _) => .pur fun r => vSlice (some (.int .i64 (Int.ofNat 0))) (fun _ _ _ c b => bc b none (some (.int .i64 (Int.ofNat c)))) none (g r)
      | _ => .bad) .bad
    | _, _ => .bad) := by
  rw [lnth_eq, Array.getElem?_toList]
  cases ht : t[0]? with
  | none => trivial
  | some tt =>
    generalize hl : a.toList = l
    match l with
    | [] => trivial
    | _ :: _ :: _ => trivial
    | [x] =>
      simp only [undF_eq]
      rcases wO_spec E F n x (fun g => match E.P.underlying tt with
        | some (.slice _) => (.pur fun r => vSlice (some (.int .i64 (Int.ofNat 0))) (fun _ _ _ c b => bc b none (some (.int .i64 (Int.ofNat c)))) none (g r) : Kd F.T)
        | _ => .bad) .bad with h | ⟨g, h, hg⟩ <;> rw [h]
      · trivial
      cases hu : E.P.underlying tt with
      | none => trivial
      | some d => cases d with
        | slice el =>
          intro r v e
          rcases vSlice_opt e with ⟨e1, e2⟩ | ⟨i, o, l, c, b, e1, e2⟩
          · simp only [pureA, ht, hl, evAll_one (hg r), hu, e1]; exact e2
          · obtain ⟨rfl, e3⟩ := bc_opt' e2
            simp only [pureA, ht, hl, evAll_one (hg r), hu, e1]; exact e3
        | _ => trivial
theorem static_ok (f : FuncId) (a : Array Operand) (t : Array TypeId) : KdOK E F n (.call ⟨.value (.func f), a, t⟩) (wL E F n a.toList (fun gs => match E.pureExt f with
    | some e => .pur fun r => e (gs r)
    | none => match E.special f with
      | some g => .wr fun r h => g (gs r) h
      | none => .call (.fn f) gs) .bad) := by
  rcases wL_spec E F n a.toList (fun gs => match E.pureExt f with
    | some e => (.pur fun r => e (gs r) : Kd F.T)
    | none => match E.special f with
      | some g => .wr fun r h => g (gs r) h
      | none => .call (.fn f) gs) .bad with h | ⟨gs, h, hg⟩ <;> rw [h]
  · trivial
  cases hp : E.pureExt f with
  | some e =>
    intro r v h
    simp only [pureA, hp, hg]; exact h
  | none =>
    have nn : Nones E (.call ⟨.value (.func f), a, t⟩) := ⟨fun _ => by simp only [pureA, hp], fun _ _ => rfl, fun _ => rfl⟩
    have hc : ∀ r, callee E (toL F n r) ⟨.value (.func f), a, t⟩ = some (.fn f, gs r) := by
      intro r
      simp only [callee, hg, evs]
      simp
    cases hs : E.special f with
    | some g =>
      refine ⟨nn, fun call r h rc o p ho e => ?_⟩
      have e' : g (gs r) h = some p := e
      simp only [effA, ho, hc, specialOf, hs, e']
    | none =>
      refine ⟨nn, fun call r h rc o ho => ?_⟩
      simp only [effA, ho, hc, specialOf, hs]
      cases call (.fn f) (gs r) h <;> rfl
theorem fromC_le {a b : COut} (h1 : ∀ v h', a = .ret v h' → b = .ret v h') (h2 : ∀ v h', a = .panic v h' → b = .panic v h') : ELe (fromC a) (fromC b) := by
  cases a with
  | ret v h => rw [h1 v h rfl]; rfl
  | panic v h => rw [h2 v h rfl]; rfl
  | fail _ _ => trivial
theorem dynamic_ok (x : Operand) (hx : ∀ f, x ≠ .func f) (a : Array Operand) (t : Array TypeId) : KdOK E F n (.call ⟨.value x, a, t⟩) (wO E F n x (fun gf => wL E F n a.toList (fun gs => .eff fun call r h _ => vFunc
      (fun g first captured => ob (fromC (call (.fn g) (lapp first (lapp (gs r) captured)) h)) (fun sp => ob (.fail "" none) (fun p => .val p.1 p.2) (sp (lapp first (lapp (gs r) captured)) h)) (E.special g))
      (fun l => fromC (call (.yld l) (gs r) h)) (.fail "" none) (gf r)) .bad) .bad) := by
  have nn : Nones E (.call ⟨.value x, a, t⟩) := by
    cases x with
    | func f => exact absurd rfl (hx f)
    | _ => exact ⟨fun _ => rfl, fun _ _ => rfl, fun _ => rfl⟩
  let K : (F.T → AV) → (F.T → List AV) → Kd F.T := fun gf gs => .eff fun call r h _ => vFunc
      (fun g first captured => ob (fromC (call (.fn g) (lapp first (lapp (gs r) captured)) h)) (fun sp => ob (.fail "" none) (fun p => .val p.1 p.2) (sp (lapp first (lapp (gs r) captured)) h)) (E.special g))
      (fun l => fromC (call (.yld l) (gs r) h)) (.fail "" none) (gf r)
  show KdOK E F n _ (wO E F n x (fun gf => wL E F n a.toList (fun gs => K gf gs) .bad) .bad)
  rcases wO_spec E F n x (fun gf => wL E F n a.toList (fun gs => K gf gs) .bad) .bad with h | ⟨gf, h, hf⟩ <;> rw [h]
  · trivial
  rcases wL_spec E F n a.toList (fun gs => K gf gs) .bad with h | ⟨gs, h, hg⟩ <;> rw [h]
  · trivial
  refine ⟨nn, fun fc call hle r h rc o ho => ?_⟩
  have ec : ∀ R, callee E (toL F n r) ⟨.value x, a, t⟩ = R → effA E call (toL F n r) h rc o = (match R with
      | some (f, args) => match specialOf E f with
        | some g => (match g args h with | some (x, h') => .val x h' | none => .fail "eff" (some o))
        | none => fromC (call f args h)
      | none => .fail "callee" (some o)) := by
    intro R hR
    simp only [effA, ho, hR]
    cases R with
    | none => rfl
    | some p =>
      obtain ⟨f, args⟩ := p
      simp only
      cases specialOf E f with
      | none => simp only; cases call f args h <;> rfl
      | some g => rfl
  show ELe (vFunc _ _ _ (gf r)) _
  cases hv : gf r with
  | func g first captured =>
    have hc : callee E (toL F n r) ⟨.value x, a, t⟩ = some (.fn g, first ++ gs r ++ captured) := by
      simp only [callee, hf, hg, hv]
    rw [ec _ hc]
    have ha : lapp first (lapp (gs r) captured) = first ++ gs r ++ captured := by rw [lapp_eq, lapp_eq, List.append_assoc]
    show ELe (ob (fromC (fc (.fn g) (lapp first (lapp (gs r) captured)) h)) (fun sp => ob (.fail "" none) (fun p => .val p.1 p.2) (sp (lapp first (lapp (gs r) captured)) h)) (E.special g)) _
    rw [ha]
    simp only [specialOf]
    cases hs : E.special g with
    | none => exact fromC_le (hle _ _ _).1 (hle _ _ _).2
    | some sp =>
      show ELe (ob (.fail "" none) (fun p => .val p.1 p.2) (sp (first ++ gs r ++ captured) h)) _
      simp only
      cases sp (first ++ gs r ++ captured) h with
      | none => trivial
      | some p => rfl
  | yieldF l =>
    have hc : callee E (toL F n r) ⟨.value x, a, t⟩ = some (.yld l, gs r) := by
      simp only [callee, hf, hg, hv]
    rw [ec _ hc]
    simp only [specialOf]
    exact fromC_le (hle _ _ _).1 (hle _ _ _).2
  | _ => trivial
theorem invoke_ok (x : Operand) (name : String) (a : Array Operand) (t : Array TypeId) : KdOK E F n (.call ⟨.invoke x name, a, t⟩) (wO E F n x (fun gx => wL E F n a.toList (fun gs => .eff fun call r h _ => vIface
      (fun t v => ob (.fail "" none) (fun f => fromC (call (.fn f) (v :: gs r) h)) (methF E t name)) (.fail "" none) (gx r)) .bad) .bad) := by
  have nn : Nones E (.call ⟨.invoke x name, a, t⟩) := ⟨fun _ => rfl, fun _ _ => rfl, fun _ => rfl⟩
  let K : (F.T → AV) → (F.T → List AV) → Kd F.T := fun gx gs => .eff fun call r h _ => vIface
      (fun t v => ob (.fail "" none) (fun f => fromC (call (.fn f) (v :: gs r) h)) (methF E t name)) (.fail "" none) (gx r)
  show KdOK E F n _ (wO E F n x (fun gx => wL E F n a.toList (fun gs => K gx gs) .bad) .bad)
  rcases wO_spec E F n x (fun gx => wL E F n a.toList (fun gs => K gx gs) .bad) .bad with h | ⟨gx, h, hx⟩ <;> rw [h]
  · trivial
  rcases wL_spec E F n a.toList (fun gs => K gx gs) .bad with h | ⟨gs, h, hg⟩ <;> rw [h]
  · trivial
  refine ⟨nn, fun fc call hle r h rc o ho => ?_⟩
  show ELe (vIface _ _ (gx r)) _
  cases hv : gx r with
  | iface u v =>
    show ELe (ob (.fail "" none) (fun f => fromC (fc (.fn f) (v :: gs r) h)) (methF E u name)) _
    cases hm : methF E u name with
    | none => trivial
    | some f =>
      have hm' : methodA E u name = some f := hm
      have ec : effA E call (toL F n r) h rc o = fromC (call (.fn f) (v :: gs r) h) := by
        simp only [effA, ho, hx, hg, hv, hm']
        cases call (.fn f) (v :: gs r) h <;> rfl
      rw [ec]
      exact fromC_le (hle _ _ _).1 (hle _ _ _).2
  | _ => trivial
theorem callK_ok (c : Call) : KdOK E F n (.call c) (callK E F n c (.call c)) := by
  obtain ⟨cal, a, t⟩ := c
  cases cal with
  | value x => cases x with
    | func f => exact static_ok f a t
    | tmp x => exact dynamic_ok (.tmp x) (by simp) a t
    | const x => exact dynamic_ok (.const x) (by simp) a t
    | global x => exact dynamic_ok (.global x) (by simp) a t
  | invoke r m => exact invoke_ok r m a t
  | builtin b => cases b with
    | append => exact append_ok a t
    | copy => exact copy_ok a t
    | recover => exact recover_ok a t
    | len => exact len_ok a t
    | cap => exact cap_ok a t
    | max => exact fun r v e => e
    | min => exact fun r v e => e
    | _ => trivial
theorem compK_ok (op : Op) : KdOK E F n op (compK E F n op) := by
  cases op with
  | move x =>
    show KdOK E F n _ (wO E F n x .tot .bad)
    rcases wO_spec E F n x .tot (.bad : Kd F.T) with h | ⟨g, h, hg⟩ <;> rw [h]
    · trivial
    · exact hg
  | assign x =>
    show KdOK E F n _ (wO E F n x .tot .bad)
    rcases wO_spec E F n x .tot (.bad : Kd F.T) with h | ⟨g, h, hg⟩ <;> rw [h]
    · trivial
    · exact hg
  | pick c a b => exact pick_ok c a b
  | binOp op t x y yt =>
    show KdOK E F n _ (wO E F n x (fun gx => wO E F n y (fun gy => binK op (binA E op t (isConst x) (isConst y)) gx gy) .bad) .bad)
    rcases wO_spec E F n x (fun gx => wO E F n y (fun gy => binK op (binA E op t (isConst x) (isConst y)) gx gy) .bad) (.bad : Kd F.T) with h | ⟨gx, h, hx⟩ <;> rw [h]
    · trivial
    rcases wO_spec E F n y (fun gy => binK op (binA E op t (isConst x) (isConst y)) gx gy) (.bad : Kd F.T) with h | ⟨gy, h, hy⟩ <;> rw [h]
    · trivial
    exact binK_ok op t x y yt gx gy hx hy
  | unOp op t x =>
    show KdOK E F n _ (wO E F n x (unK op) .bad)
    rcases wO_spec E F n x (unK op) (.bad : Kd F.T) with h | ⟨g, h, hg⟩ <;> rw [h]
    · trivial
    exact unK_ok op t x g hg
  | fieldAddr s x f => exact fieldAddr_ok s x f
  | load t a => exact load_ok t a
  | store t a x => exact store_ok t a x
  | nilCheck x => exact nilCheck_ok x
  | extract x i => exact extract_ok x i
  | field s x f => exact field_ok s x f
  | indexAddr t x ix => exact indexAddr_ok t x ix
  | index t x ix => exact index_ok t x ix
  | slice t x lo hi mx => cases mx with
    | none => exact slice_ok t x lo hi
    | some m => exact fun r v e => e
  | convert s d x => exact convert_ok s d x
  | makeInterface t x => exact makeInterface_ok t x
  | makeFunc f a b => cases f with
    | func f => exact makeFunc_ok f a b
    | _ => trivial
  | alloc t => exact alloc_ok t
  | box t x => exact box_ok t x
  | buildSlice t len parts => exact buildSlice_ok t len parts
  | makeSlice t l c => exact makeSlice_ok t l c
  | makeMap t r => cases r with
    | none => exact ⟨fun _ => rfl, fun _ _ => rfl, fun r p e => e⟩
    | some x => exact ⟨fun _ => rfl, fun _ _ => rfl, fun r p e => e⟩
  | range t x => exact ⟨fun _ => rfl, fun _ _ => rfl, fun r p e => e⟩
  | lookup t x ix ok => exact lookup_ok t x ix ok
  | build t parts => exact build_ok t parts
  | typeAssert x a b ok => exact fun r v e => e
  | mapUpdate t m k x => exact mapUpdate_ok t m k x
  | insert t m k x => exact insert_ok t m k x
  | next it s => exact next_ok it s
  | panic x => exact panic_ok x
  | defer c => exact defer_ok c
  | call c => exact callK_ok c
  | _ => trivial
end Go.Ab.Fa
