/-
  A FAST RUN: each operation's kind, operations that write or call.
-/
import Derived.Test.YtaiemlmlompmmaaGreatDoorAbFg
namespace Go.Ab.Fa
variable {E : Env} {F : RF} {n : Nat}

theorem storeF_eq {t : TypeId} {m : Nat} (hs : sizeT E t = some m) {h : Heap} {a v : AV} {p : AV × Heap} (e : storeF m h a v = some p) : p.1 = AV.undef ∧ storeA E h t a v = some p.2 := by
  obtain ⟨i, o, rfl, e1⟩ := vPtr_opt e
  obtain ⟨obj, h1, e2⟩ := ob_opt e1
  obtain ⟨cs, el, ro, rfl, e3⟩ := oCells_opt e2
  obtain ⟨h2, e4⟩ := bc_opt' e3
  obtain ⟨h3, e5⟩ := bc_opt e4
  obtain ⟨h4, e6⟩ := bc_opt e5
  obtain ⟨h5, e7⟩ := bc_opt e6
  have h3 := beq_of h3
  have h4 := ble_le h4
  rw [llen_eq, vcells_eq] at h3
  rw [llen_eq] at h4
  rw [lall_eq, isSc_fun, vcells_eq] at h5
  have e8 := Option.some.inj e7
  subst h2
  refine ⟨by rw [← e8], ?_⟩
  simp only [storeA, h1, hs]
  rw [if_pos ⟨h3, h4, h5⟩, ← e8, lput_eq, vcells_eq]
theorem nones_store {t : TypeId} {a x : Operand} : Nones E (.store t a x) := ⟨fun _ => rfl, fun _ _ => rfl, fun _ => rfl⟩
theorem store_ok (t : TypeId) (a x : Operand) : KdOK E F n (.store t a x) (match szF E t with
    | some m => wO E F n a (fun ga => wO E F n x (fun gx => .wr fun r h => storeF m h (ga r) (gx r)) .bad) .bad
    | none => .bad) := by
  rw [szF_eq]
  cases hs : sizeT E t with
  | none => trivial
  | some m =>
    simp only
    rcases wO_spec E F n a (fun ga => wO E F n x (fun gx => (.wr fun r h => storeF m h (ga r) (gx r) : Kd F.T)) .bad) .bad with h | ⟨ga, h, ha⟩ <;> rw [h]
    · trivial
    rcases wO_spec E F n x (fun gx => (.wr fun r h => storeF m h (ga r) (gx r) : Kd F.T)) .bad with h | ⟨gx, h, hx⟩ <;> rw [h]
    · trivial
    refine ⟨nones_store, fun call r h rc o p ho e => ?_⟩
    obtain ⟨h1, h2⟩ := storeF_eq hs e
    simp only [effA, ho, ha, hx, h2, h1]
theorem makeInterface_ok (t : TypeId) (x : Operand) : KdOK E F n (.makeInterface t x) (match undF E.P t with
    | some (.interface _) => .bad
    | some _ => wO E F n x (fun g => .tot fun r => .iface t (g r)) .bad
    | none => .bad) := by
  rw [undF_eq]
  cases hu : E.P.underlying t with
  | none => trivial
  | some d =>
    cases d with
    | interface ms => trivial
    | _ =>
      simp only
      rcases wO_spec E F n x (fun g => (.tot fun r => .iface t (g r) : Kd F.T)) .bad with h | ⟨g, h, hg⟩ <;> rw [h]
      · trivial
      · intro r; simp only [pureA, hu, hg]
theorem makeFunc_ok (f : FuncId) (a b : Array Operand) : KdOK E F n (.makeFunc (.func f) a b) (wL E F n a.toList (fun ga => wL E F n b.toList (fun gb => .tot fun r => .func f (ga r) (gb r)) .bad) .bad) := by
  rcases wL_spec E F n a.toList (fun ga => wL E F n b.toList (fun gb => (.tot fun r => .func f (ga r) (gb r) : Kd F.T)) .bad) .bad with h | ⟨ga, h, ha⟩ <;> rw [h]
  · trivial
  rcases wL_spec E F n b.toList (fun gb => (.tot fun r => .func f (ga r) (gb r) : Kd F.T)) .bad with h | ⟨gb, h, hb⟩ <;> rw [h]
  · trivial
  intro r; simp only [pureA, ha, hb]
theorem alloc_ok (t : TypeId) : KdOK E F n (.alloc t) (match zeF E t with
    | some z => .alc fun _ => some (.cells z.cells t false, fun i => .ptr i 0)
    | none => .bad) := by
  rw [zeF_eq]
  cases hz : zeroT E t with
  | none => trivial
  | some z => exact ⟨fun _ => rfl, fun _ _ => rfl, fun r p e => by simp only [allocA, hz]; exact e⟩
theorem box_ok (t : TypeId) (x : Operand) : KdOK E F n (.box t x) (wO E F n x (fun g => .alc fun r => some (.cells (vcells (g r)) t false, fun i => .ptr i 0)) .bad) := by
  rcases wO_spec E F n x (fun g => (.alc fun r => some (.cells (vcells (g r)) t false, fun i => .ptr i 0) : Kd F.T)) .bad with h | ⟨g, h, hg⟩ <;> rw [h]
  · trivial
  · exact ⟨fun _ => rfl, fun _ _ => rfl, fun r p e => by simp only [allocA, hg]; rw [← vcells_eq]; exact e⟩
theorem buildSlice_ok (t : TypeId) (len : Nat) (parts : Array (Nat × Operand)) : KdOK E F n (.buildSlice t len parts) (match undF E.P t with
    | some (.slice elem) => match szF E elem, zeF E elem with
      | some m, some z => if z.cells.length = m ∧ len * m ≤ 2 ^ 24 then wPs E F n parts.toList (fun gp => .alc fun r => ob none (fun cs => some (.cells cs elem false, fun i => .slice i 0 len len false)) (fillA (fun i => some (i * m, m)) (repCells z.cells len) (gp r))) .bad else .bad
      | _, _ => .bad
    | _ => .bad) := by
  rw [undF_eq]
  cases hu : E.P.underlying t with
  | none => trivial
  | some d => cases d with
    | slice elem =>
      simp only
      rw [szF_eq, zeF_eq]
      cases hs : sizeT E elem with
      | none => trivial
      | some m => cases hz : zeroT E elem with
        | none => trivial
        | some z =>
          simp only
          by_cases hc : z.cells.length = m ∧ len * m ≤ 2 ^ 24
          · rw [if_pos hc]
            rcases wPs_spec E F n parts.toList (fun gp => (.alc fun r => ob none (fun cs => some (.cells cs elem false, fun i => .slice i 0 len len false)) (fillA (fun i => some (i * m, m)) (repCells z.cells len) (gp r)) : Kd F.T)) .bad with h | ⟨g, h, hg⟩ <;> rw [h]
            · trivial
            · refine ⟨fun _ => rfl, fun _ _ => rfl, fun r p e => ?_⟩
              obtain ⟨cs, h1, e⟩ := ob_opt e
              simp only [allocA, hu, hs, hz, hg]
              rw [if_pos hc]; simp only [h1]; exact e
          · rw [if_neg hc]; trivial
    | _ => trivial
theorem lrep_eq (z : List AV) (m : Nat) : lrep z m = repCells z m := by
  induction m with
  | zero => rfl
  | succ m ih => show lapp z (lrep z m) = _; rw [lapp_eq, ih]; rfl
theorem makeSlice_ok (t : TypeId) (l c : Operand) : KdOK E F n (.makeSlice t l c) (wO E F n l (fun gl => wO E F n c (fun gc => match undF E.P t with
    | some (.slice elem) => match szF E elem, byF E elem, zeF E elem with
      | some m, some bytes, some z => if z.cells.length = m then .alc fun r => mkSl elem bytes z.cells (gl r) (gc r) else .bad
      | _, _, _ => .bad
    | _ => .bad) .bad) .bad) := by
  rw [undF_eq]
  rcases wO_spec E F n l (fun gl => wO E F n c (fun gc => match E.P.underlying t with
    | some (.slice elem) => match szF E elem, byF E elem, zeF E elem with
      | some m, some bytes, some z => if z.cells.length = m then (.alc fun r => mkSl elem bytes z.cells (gl r) (gc r) : Kd F.T) else .bad
      | _, _, _ => .bad
    | _ => .bad) .bad) .bad with h | ⟨gl, h, hl⟩ <;> rw [h]
  · trivial
  rcases wO_spec E F n c (fun gc => match E.P.underlying t with
    | some (.slice elem) => match szF E elem, byF E elem, zeF E elem with
      | some m, some bytes, some z => if z.cells.length = m then (.alc fun r => mkSl elem bytes z.cells (gl r) (gc r) : Kd F.T) else .bad
      | _, _, _ => .bad
    | _ => .bad) .bad with h | ⟨gc, h, hc⟩ <;> rw [h]
  · trivial
  cases hu : E.P.underlying t with
  | none => trivial
  | some d => cases d with
    | slice elem =>
      simp only
      rw [szF_eq, byF_eq, zeF_eq]
      cases hs : sizeT E elem with
      | none => trivial
      | some m => cases hb : bytesT E elem with
        | none => trivial
        | some bytes => cases hz : zeroT E elem with
          | none => trivial
          | some z =>
            simp only
            by_cases hm : z.cells.length = m
            · rw [if_pos hm]
              refine ⟨fun _ => rfl, fun _ _ => rfl, fun r p e => ?_⟩
              obtain ⟨k1, a, e1, q1⟩ := vInt_opt e
              obtain ⟨k2, b, e2, q2⟩ := vInt_opt q1
              obtain ⟨a', rfl, q3⟩ := iNat_opt q2
              obtain ⟨b', rfl, q4⟩ := iNat_opt q3
              obtain ⟨c1, q5⟩ := bc_opt q4
              obtain ⟨c2, q6⟩ := bc_opt' q5
              obtain ⟨c3, q7⟩ := bc_opt q6
              have c1 := ble_le c1
              have c2 := ble_lt c2
              have c3 : bytes * b' ≤ 140737488355328 := ble_le c3
              simp only [allocA, hu, hs, hb, hz, hl, hc, e1, e2]
              rw [if_pos ⟨by omega, by omega, by omega, by have : (bytes : Int) * (b' : Int) = ((bytes * b' : Nat) : Int) := by simp
                                                           rw [this]; omega, hm⟩]
              rw [← q7, lrep_eq]; rfl
            · rw [if_neg hm]; trivial
    | _ => trivial
theorem findF_eq (k : List UInt8) : ∀ (l : List AEntry) (i : Nat) {x : Option AV}, findF k l = some x → ∃ y, findA (.str k) l i = some y ∧ y.map (·.2) = x
  | [], i, x, h => ⟨none, rfl, by cases h; rfl⟩
  | e :: es, i, x, h => by
    obtain ⟨s, h1, h2⟩ := vStr_opt (show vStr (fun s => bc (leq u8eq k s) (some (some e.val)) (findF k es)) none e.key = some x from h)
    rw [leq_eq] at h2
    rw [findA, h1]
    show ∃ y, (match (some (k == s) : Option Bool) with | some true => some (some (i, e.val)) | some false => findA (.str k) es (i + 1) | none => none) = some y ∧ _
    cases hb : k == s with
    | true =>
      rw [hb, bc_true] at h2
      exact ⟨some (i, e.val), rfl, Option.some.inj h2⟩
    | false =>
      rw [hb, bc_false] at h2
      exact findF_eq k es (i + 1) h2
noncomputable def esOf (h : Heap) (m : AV) : Option (List AEntry) := match m with
  | .nilmap => some []
  | .map i => (match h.get i with | some (.map es _) => some es | _ => none)
  | _ => none
theorem lookF_eq {z : AV} {ok : Bool} {h : Heap} {m k v : AV} (e : lookF z ok h m k = some v) :
    (∃ s, k = .str s) ∧ ∃ es, (match m with | .nilmap => some [] | .map i => (match h.get i with | some (.map es _) => some es | _ => none) | _ => none) = some es ∧
      ∃ y, findA k es 0 = some y ∧ v = (match y with | some (_, w) => (if ok then .tuple [w, .bool true] else w) | none => if ok then .tuple [z, .bool false] else z) := by
  obtain ⟨s, rfl, e1⟩ := vStr_opt e
  obtain ⟨es, h1, e2⟩ := ob_opt e1
  obtain ⟨x, h2, e3⟩ := ob_opt e2
  refine ⟨⟨s, rfl⟩, es, ?_, ?_⟩
  · cases m with
    | nilmap => exact h1
    | map i =>
      obtain ⟨o, h3, h4⟩ := ob_opt (show ob none (fun o => oMap (fun es => some es) none o) (h.get i) = some es from h1)
      simp only [h3]
      cases o with
      | map es' c => exact h4
      | _ => cases h4
    | _ => cases h1
  · obtain ⟨y, h3, h4⟩ := findF_eq s es 0 h2
    refine ⟨y, h3, ?_⟩
    have e4 := Option.some.inj e3
    rw [← e4, ← h4]
    cases y with
    | none => cases ok <;> rfl
    | some y => obtain ⟨_, w⟩ := y; cases ok <;> rfl
theorem lookup_ok (t : TypeId) (x ix : Operand) (ok : Bool) : KdOK E F n (.lookup t x ix ok) (wO E F n x (fun gx => wO E F n ix (fun gi => match undF E.P t with
    | some (.map key elem) => match undF E.P key, zeF E elem with
      | some .string, some z => .red fun r h => lookF z ok h (gx r) (gi r)
      | _, _ => .red fun r h => readA E (toL F n r) h (.lookup t x ix ok)
    | _ => .bad) .bad) .bad) := by
  let K : (F.T → AV) → (F.T → AV) → Kd F.T := fun gx gi => match undF E.P t with
    | some (.map key elem) => match undF E.P key, zeF E elem with
      | some .string, some z => .red fun r h => lookF z ok h (gx r) (gi r)
      | _, _ => .red fun r h => readA E (toL F n r) h (.lookup t x ix ok)
    | _ => .bad
  show KdOK E F n _ (wO E F n x (fun gx => wO E F n ix (fun gi => K gx gi) .bad) .bad)
  rcases wO_spec E F n x (fun gx => wO E F n ix (fun gi => K gx gi) .bad) .bad with h | ⟨gx, h, hx⟩ <;> rw [h]
  · trivial
  rcases wO_spec E F n ix (fun gi => K gx gi) .bad with h | ⟨gi, h, hi⟩ <;> rw [h]
  · trivial
  simp only [K, undF_eq, zeF_eq]
  have slow : KdOK E F n (.lookup t x ix ok) (.red fun r h => readA E (toL F n r) h (.lookup t x ix ok)) := fun r h v e => .inr ⟨rfl, e⟩
  cases hu : E.P.underlying t with
  | none => trivial
  | some d => cases d with
    | map key elem =>
      simp only
      cases hk : E.P.underlying key with
      | none => exact slow
      | some kd => cases kd with
        | string => cases hz : zeroT E elem with
          | none => exact slow
          | some z =>
            intro r h v e
            refine .inr ⟨rfl, ?_⟩
            obtain ⟨⟨s, hs⟩, es, h1, y, h2, rfl⟩ := lookF_eq e
            simp only [readA, hu, hx, hi, hk]
            rw [hs] at h2 ⊢
            rw [if_pos (show keyKind (some TypeDesc.string) (AV.str s) = true from rfl)]
            have h1' : esOf h (gx r) = some es := h1
            change (match esOf h (gx r) with
              | none => none
              | some es => match findA (AV.str s) es 0 with
                | none => none
                | some (some (_, v)) => some (if ok then AV.tuple [v, .bool true] else v)
                | some none => match zeroT E elem with
                  | some z => some (if ok then AV.tuple [z, .bool false] else z)
                  | none => none) = _
            rw [h1']
            simp only [h2, hz]
            cases y with
            | none => rfl
            | some y => obtain ⟨_, w⟩ := y; rfl
        | _ => exact slow
    | _ => trivial
theorem placesF_eq : ∀ (fs : List Field), placesF E fs = placesOf E fs
  | [] => rfl
  | f :: fs => by
    show ob none (fun n => ob none (fun l => some ((f.offset, n) :: l)) (placesF E fs)) (szF E f.type) = _
    rw [placesF_eq fs, szF_eq]
    simp only [placesOf, mapAll]
    cases sizeT E f.type with
    | none => rfl
    | some n =>
      show ob none (fun l => some ((f.offset, n) :: l)) (mapAll _ fs) = _
      cases mapAll (fun f => match sizeT E f.type with | some n => some (f.offset, n) | none => none) fs <;> rfl
theorem fillF_eq (ps : List (Nat × Nat)) : ∀ (l : List (Nat × AV)) (cs : List AV) {v : List AV}, fillF ps cs l = some v → fillA (ps[·]?) cs l = some v
  | [], cs, v, h => h
  | (i, x) :: l, cs, v, h => by
    obtain ⟨q, h1, h2⟩ := ob_opt (show ob none (fun (q : Nat × Nat) => bc (Nat.beq (llen (vcells x)) q.2) (bc (Nat.ble (q.1 + q.2) (llen cs)) (fillF ps (lput (vcells x) cs q.1) l) none) none) (lnth ps i) = some v from h)
    obtain ⟨h3, h4⟩ := bc_opt h2
    obtain ⟨h5, h6⟩ := bc_opt h4
    have h3 := beq_of h3
    have h5 := ble_le h5
    rw [llen_eq, vcells_eq] at h3
    rw [llen_eq] at h5
    rw [lnth_eq] at h1
    rw [fillA]
    obtain ⟨off, size⟩ := q
    simp only [h1]
    rw [if_pos ⟨h3, h5⟩, ← lput_eq, ← vcells_eq]
    exact fillF_eq ps l _ h6
theorem build_ok (t : TypeId) (parts : Array (Nat × Operand)) : KdOK E F n (.build t parts) (match zeF E t, undF E.P t with
    | some z, some (.struct fs) => match placesF E fs.toList with
      | some ps => wPs E F n parts.toList (fun gp => .pur fun r => ob none (fun cs => some (.agg cs)) (fillF ps (vcells z) (gp r))) .bad
      | none => .bad
    | _, _ => .pur fun r => pureA E (toL F n r) (.build t parts)) := by
  have slow : KdOK E F n (.build t parts) (.pur fun r => pureA E (toL F n r) (.build t parts)) := fun r v e => e
  rw [undF_eq, zeF_eq]
  cases hz : zeroT E t with
  | none => exact slow
  | some z => cases hu : E.P.underlying t with
    | none => exact slow
    | some d => cases d with
      | struct fs =>
        simp only
        rw [placesF_eq]
        cases hp : placesOf E fs.toList with
        | none => trivial
        | some ps =>
          simp only
          rcases wPs_spec E F n parts.toList (fun gp => (.pur fun r => ob none (fun cs => some (.agg cs)) (fillF ps (vcells z) (gp r)) : Kd F.T)) .bad with h | ⟨g, h, hg⟩ <;> rw [h]
          · trivial
          · intro r v e
            obtain ⟨cs, h1, e2⟩ := ob_opt e
            have h1 := fillF_eq ps _ _ h1
            rw [vcells_eq] at h1
            simp only [pureA, hg, buildA, hz, hu, hp, h1]
            exact e2
      | _ => exact slow
theorem mapUpdate_ok (t : TypeId) (m k x : Operand) : KdOK E F n (.mapUpdate t m k x) (wO E F n m (fun gm => wO E F n k (fun gk => wO E F n x (fun gx => .wr fun r h => ob none (fun h' => some (AV.undef, h')) (mapUpdateA E h t (gm r) (gk r) (gx r))) .bad) .bad) .bad) := by
  rcases wO_spec E F n m (fun gm => wO E F n k (fun gk => wO E F n x (fun gx => (.wr fun r h => ob none (fun h' => some (AV.undef, h')) (mapUpdateA E h t (gm r) (gk r) (gx r)) : Kd F.T)) .bad) .bad) .bad with h | ⟨gm, h, hm⟩ <;> rw [h]
  · trivial
  rcases wO_spec E F n k (fun gk => wO E F n x (fun gx => (.wr fun r h => ob none (fun h' => some (AV.undef, h')) (mapUpdateA E h t (gm r) (gk r) (gx r)) : Kd F.T)) .bad) .bad with h | ⟨gk, h, hk⟩ <;> rw [h]
  · trivial
  rcases wO_spec E F n x (fun gx => (.wr fun r h => ob none (fun h' => some (AV.undef, h')) (mapUpdateA E h t (gm r) (gk r) (gx r)) : Kd F.T)) .bad with h | ⟨gx, h, hx⟩ <;> rw [h]
  · trivial
  refine ⟨⟨fun _ => rfl, fun _ _ => rfl, fun _ => rfl⟩, fun call r h rc o p ho e => ?_⟩
  obtain ⟨h', h1, e2⟩ := ob_opt e
  have e3 := Option.some.inj e2
  simp only [effA, ho, hm, hk, hx, h1, ← e3]
theorem insert_ok (t : TypeId) (m k x : Operand) : KdOK E F n (.insert t m k x) (wO E F n m (fun gm => wO E F n k (fun gk => wO E F n x (fun gx => .wr fun r h => ob none (fun h' => some (AV.undef, h')) (mapUpdateA E h t (gm r) (gk r) (gx r))) .bad) .bad) .bad) := by
  rcases wO_spec E F n m (fun gm => wO E F n k (fun gk => wO E F n x (fun gx => (.wr fun r h => ob none (fun h' => some (AV.undef, h')) (mapUpdateA E h t (gm r) (gk r) (gx r)) : Kd F.T)) .bad) .bad) .bad with h | ⟨gm, h, hm⟩ <;> rw [h]
  · trivial
  rcases wO_spec E F n k (fun gk => wO E F n x (fun gx => (.wr fun r h => ob none (fun h' => some (AV.undef, h')) (mapUpdateA E h t (gm r) (gk r) (gx r)) : Kd F.T)) .bad) .bad with h | ⟨gk, h, hk⟩ <;> rw [h]
  · trivial
  rcases wO_spec E F n x (fun gx => (.wr fun r h => ob none (fun h' => some (AV.undef, h')) (mapUpdateA E h t (gm r) (gk r) (gx r)) : Kd F.T)) .bad with h | ⟨gx, h, hx⟩ <;> rw [h]
  · trivial
  refine ⟨⟨fun _ => rfl, fun _ _ => rfl, fun _ => rfl⟩, fun call r h rc o p ho e => ?_⟩
  obtain ⟨h', h1, e2⟩ := ob_opt e
  have e3 := Option.some.inj e2
  simp only [effA, ho, hm, hk, hx, h1, ← e3]
theorem next_ok (it : Operand) (s : Bool) : KdOK E F n (.next it s) (wO E F n it (fun g => .wr fun r h => nextA h (g r) s) .bad) := by
  rcases wO_spec E F n it (fun g => (.wr fun r h => nextA h (g r) s : Kd F.T)) .bad with h | ⟨g, h, hg⟩ <;> rw [h]
  · trivial
  refine ⟨⟨fun _ => rfl, fun _ _ => rfl, fun _ => rfl⟩, fun call r h rc o p ho e => ?_⟩
  simp only [effA, ho, hg, e]
theorem panic_ok (x : Operand) : KdOK E F n (.panic x) (wO E F n x (fun g => .eff fun _ r h _ => vIface (fun t w => .panic (.iface t w) h) (.fail "" none) (g r)) .bad) := by
  rcases wO_spec E F n x (fun g => (.eff fun _ r h _ => vIface (fun t w => .panic (.iface t w) h) (.fail "" none) (g r) : Kd F.T)) .bad with h | ⟨g, h, hg⟩ <;> rw [h]
  · trivial
  refine ⟨⟨fun _ => rfl, fun _ _ => rfl, fun _ => rfl⟩, fun fc call _ r h rc o ho => ?_⟩
  rcases vIface_eout (f := fun t w => EOut.panic (.iface t w) h) (why := "") (o := none) (g r) with ⟨t, w, e⟩ | e
  · simp only [effA, ho, hg, e]; rfl
  · show ELe (vIface _ _ _) _
    rw [e]; trivial
theorem defer_ok (c : Call) : KdOK E F n (.defer c) (.eff fun _ r _ rc => match rc, callee E (toL F n r) c with
    | .bar _, _ => .fail "" none
    | _, some (.fn f, args) => .defer (.call f args)
    | _, _ => .fail "" none) := by
  refine ⟨⟨fun _ => rfl, fun _ _ => rfl, fun _ => rfl⟩, fun fc call _ r h rc o ho => ?_⟩
  simp only [effA, ho]
  cases rc with
  | bar l => trivial
  | _ => cases hc : callee E (toL F n r) c with
    | none => trivial
    | some p => obtain ⟨f, args⟩ := p; cases f <;> first | trivial | rfl
theorem convert_ok (src dst : TypeId) (x : Operand) : KdOK E F n (.convert src dst x) (wO E F n x (convK E src dst) .bad) := by
  rcases wO_spec E F n x (convK E src dst) (.bad : Kd F.T) with h | ⟨g, h, hg⟩ <;> rw [h]
  · trivial
  unfold convK
  simp only [undF_eq]
  cases hs : E.P.underlying src with
  | none => trivial
  | some ds => cases hd : E.P.underlying dst with
    | none => cases ds <;> trivial
    | some dd =>
      cases ds <;> cases dd <;> try trivial
      case int.int k k' =>
        intro r v e
        obtain ⟨j, m, e1, e2⟩ := vInt_opt e
        simp only [pureA, hs, hd, hg, e1]
        rw [← kwrap_eq]; exact e2
      case string.string =>
        intro r v e
        obtain ⟨s, e1, e2⟩ := vStr_opt e
        simp only [pureA, hs, hd, hg, e1]; exact e2
      case string.slice e =>
        refine ⟨⟨fun _ => by simp only [pureA, hs, hd], fun _ _ => by simp only [readA, hs, hd], fun _ => rfl⟩, fun call r h rc o p ho e => ?_⟩
        simp only [effA, ho, hg, e]
      case slice.string el =>
        simp only
        cases he : E.P.underlying el with
        | none => trivial
        | some de =>
          cases de <;> try trivial
          rename_i k
          cases k <;> try trivial
          intro r h v e
          rcases vSlice_opt e with ⟨e1, e2⟩ | ⟨i, o, l, c, b, e1, e2⟩
          · refine .inr ⟨by simp only [pureA, hs, hd, hg, e1], ?_⟩
            simp only [readA, hs, hd, hg, he]
            simp only [e1]; exact e2
          · refine .inr ⟨by simp only [pureA, hs, hd, hg, e1], ?_⟩
            simp only [readA, hs, hd, hg, he]
            simp only [e1]
            obtain ⟨l', h1, e3⟩ := ob_opt e2
            simp only [h1]; exact e3
end Go.Ab.Fa
