/-
  A FAST RUN: each operation's kind, operations that only compute, read or make.
-/
import Derived.Test.YtaiemlmlompmmaaGreatDoorAbFe
namespace Go.Ab.Fa
variable {E : Env} {F : RF} {n : Nat}

theorem bin2_eq {op : BinOp} (h1 : op ≠ .shl) (h2 : op ≠ .shr) {t : TypeId} {xc yc : Bool} {a b v : AV} (h : bin2 (intW op).f (strW op).f (binA E op t xc yc) a b = some v) : binA E op t xc yc a b = some v := by
  unfold bin2 at h
  cases a with
  | int k x =>
    obtain ⟨j, y, rfl, h3⟩ := vInt_opt (show vInt (fun j y => bc (kbeq k j) ((intW op).f k x y) none) none b = some v from h)
    obtain ⟨hk, h4⟩ := bc_opt h3
    have hk := kbeq_of hk
    rw [intW_eq] at h4
    have := intF_eq op k x y h4
    rw [← hk]
    cases op <;> first | exact absurd rfl h1 | exact absurd rfl h2 | simpa [binA] using this
  | str s =>
    obtain ⟨s', rfl, h3⟩ := vStr_opt (show vStr (fun t => (strW op).f s t) none b = some v from h)
    rw [strW_eq] at h3
    cases op <;> first | exact absurd rfl h1 | exact absurd rfl h2 | simpa [binA] using h3
  | _ => exact h
theorem binK_ok (op : BinOp) (t : TypeId) (x y : Operand) (yt : TypeId) (gx gy : F.T → AV) (hx : ∀ r, evs E (toL F n r) x = some (gx r)) (hy : ∀ r, evs E (toL F n r) y = some (gy r)) :
    KdOK E F n (.binOp op t x y yt) (binK op (binA E op t (isConst x) (isConst y)) gx gy) := by
  have red : ∀ r, pureA E (toL F n r) (.binOp op t x y yt) = binA E op t (isConst x) (isConst y) (gx r) (gy r) := by
    intro r; simp only [pureA, hx, hy]
  by_cases h1 : op = .shl
  · subst h1
    intro r v h
    rw [red]
    obtain ⟨k, m, e1, h⟩ := vInt_opt h
    obtain ⟨k', m', e2, h⟩ := vInt_opt h
    obtain ⟨h3, rfl⟩ := shlF_eq h
    rw [e1, e2]; simp [binA, h3]
  by_cases h2 : op = .shr
  · subst h2
    intro r v h
    rw [red]
    obtain ⟨k, m, e1, h⟩ := vInt_opt h
    obtain ⟨k', m', e2, h⟩ := vInt_opt h
    obtain ⟨h3, rfl⟩ := shrF_eq h
    rw [e1, e2]; simp [binA, h3]
  have : binK op (binA E op t (isConst x) (isConst y)) gx gy = .pur fun r => bin2 (intW op).f (strW op).f (binA E op t (isConst x) (isConst y)) (gx r) (gy r) := by
    cases op <;> first | exact absurd rfl h1 | exact absurd rfl h2 | rfl
  rw [this]
  intro r v h
  rw [red]
  exact bin2_eq h1 h2 h
theorem unK_ok (op : UnOp) (t : TypeId) (x : Operand) (g : F.T → AV) (hg : ∀ r, evs E (toL F n r) x = some (g r)) : KdOK E F n (.unOp op t x) (unK op g) := by
  have red : ∀ r, pureA E (toL F n r) (.unOp op t x) = unA op (g r) := by intro r; simp only [pureA, hg]
  cases op with
  | not =>
    intro r v h
    rw [red]
    obtain ⟨b, e, h⟩ := vBool_opt h
    rw [e, ← h, bnot_eq]; rfl
  | _ => intro r v h; rw [red]; exact h

/-- parts of rows of cells -/
theorem partN_eq {t : TypeId} {m : Nat} (h1 : isAggT E t = some true) (h2 : sizeT E t = some m) {cs : List AV} {o : Nat} {v : AV} (h : partN m cs o = some v) : partT E t cs o = some v := by
  unfold partN at h
  obtain ⟨h3, h⟩ := bc_opt h
  have h3 := ble_le h3
  rw [llen_eq] at h3
  unfold partT
  rw [h1, h2]
  simp only
  rw [if_pos (show o + m ≤ cs.length from h3), ← h, ltake_eq, ldrop_eq]
theorem part1_eq {t : TypeId} (h1 : isAggT E t = some false) {cs : List AV} {o : Nat} {v : AV} (h : part1 cs o = some v) : partT E t cs o = some v := by
  unfold part1 at h
  rw [lnth_eq] at h
  unfold partT
  rw [h1]; exact h
theorem partW_spec {T : Type} (t : TypeId) (k : (List AV → Nat → Option AV) → Kd T) : partW E t k = .bad ∨ ∃ p, partW E t k = k p ∧ ∀ cs o v, p cs o = some v → partT E t cs o = some v := by
  unfold partW
  rw [agF_eq]
  cases h : isAggT E t with
  | none => exact .inl rfl
  | some b => cases b with
    | false => exact .inr ⟨_, rfl, fun cs o v => part1_eq h⟩
    | true =>
      simp only
      rw [szF_eq]
      cases h2 : sizeT E t with
      | none => exact .inl rfl
      | some m => exact .inr ⟨_, rfl, fun cs o v => partN_eq h h2⟩
theorem loadF_eq {t : TypeId} {p : List AV → Nat → Option AV} (hp : ∀ cs o v, p cs o = some v → partT E t cs o = some v) {h : Heap} {a v : AV} (e : loadF p h a = some v) : loadA E h t a = some v := by
  obtain ⟨i, o, rfl, e⟩ := vPtr_opt e
  obtain ⟨obj, e1, e⟩ := ob_opt e
  obtain ⟨cs, el, ro, rfl, e⟩ := oCells_opt e
  simp only [loadA, e1]
  exact hp _ _ _ e
theorem load_ok (t : TypeId) (a : Operand) : KdOK E F n (.load t a) (wO E F n a (fun g => partW E t fun p => .red fun r h => loadF p h (g r)) .bad) := by
  rcases wO_spec E F n a (fun g => partW E t fun p => (.red fun r h => loadF p h (g r) : Kd F.T)) .bad with h | ⟨g, h, hg⟩ <;> rw [h]
  · trivial
  · rcases partW_spec (E := E) t (fun p => (.red fun r h => loadF p h (g r) : Kd F.T)) with h | ⟨p, h, hp⟩ <;> rw [h]
    · trivial
    · intro r h v e
      refine .inr ⟨rfl, ?_⟩
      simp only [readA, hg]
      exact loadF_eq hp e
theorem field_ok (s : TypeId) (x : Operand) (f : Nat) : KdOK E F n (.field s x f) (match fiF E s f with
    | some fd => wO E F n x (fun g => partW E fd.type fun p => .pur fun r => vAgg (fun cs => p cs fd.offset) (fun _ => none) none (g r)) .bad
    | none => .bad) := by
  rw [fiF_eq]
  cases h0 : fieldsAt E s f with
  | none => trivial
  | some fd =>
    simp only
    rcases wO_spec E F n x (fun g => partW E fd.type fun p => (.pur fun r => vAgg (fun cs => p cs fd.offset) (fun _ => none) none (g r) : Kd F.T)) .bad with h | ⟨g, h, hg⟩ <;> rw [h]
    · trivial
    · rcases partW_spec (E := E) fd.type (fun p => (.pur fun r => vAgg (fun cs => p cs fd.offset) (fun _ => none) none (g r) : Kd F.T)) with h | ⟨p, h, hp⟩ <;> rw [h]
      · trivial
      · intro r v e
        change vAgg (fun cs => p cs fd.offset) (fun _ => none) none (g r) = some v at e
        simp only [pureA, h0, hg]
        cases hv : g r with
        | agg cs => rw [hv] at e; exact hp _ _ _ e
        | _ => rw [hv] at e; exact absurd e (by intro e; cases e)
theorem fieldAddr_ok (s : TypeId) (x : Operand) (f : Nat) : KdOK E F n (.fieldAddr s x f) (match fiF E s f with
    | some fd => match szF E fd.type with
      | some (_ + 1) => wO E F n x (fun g => .pur fun r => vPtr (fun i o => some (.ptr i (Nat.add o fd.offset))) none (g r)) .bad
      | _ => .bad
    | none => .bad) := by
  rw [fiF_eq]
  cases h0 : fieldsAt E s f with
  | none => trivial
  | some fd =>
    simp only
    rw [szF_eq]
    cases h1 : sizeT E fd.type with
    | none => trivial
    | some m => cases m with
      | zero => trivial
      | succ m =>
        simp only
        rcases wO_spec E F n x (fun g => (.pur fun r => vPtr (fun i o => some (.ptr i (Nat.add o fd.offset))) none (g r) : Kd F.T)) .bad with h | ⟨g, h, hg⟩ <;> rw [h]
        · trivial
        · intro r v e
          obtain ⟨i, o, e1, e⟩ := vPtr_opt e
          simp only [pureA, h0, hg, e1, h1]
          rw [if_neg (by omega)]; exact e
theorem nilCheck_ok (x : Operand) : KdOK E F n (.nilCheck x) (wO E F n x (fun g => .pur fun r => bc (vNilOK (g r)) (some (g r)) none) .bad) := by
  rcases wO_spec E F n x (fun g => (.pur fun r => bc (vNilOK (g r)) (some (g r)) none : Kd F.T)) .bad with h | ⟨g, h, hg⟩ <;> rw [h]
  · trivial
  · intro r v e
    obtain ⟨h1, e⟩ := bc_opt e
    simp only [pureA, hg]
    rw [← e]
    exact vNilOK_eq _ h1
theorem extract_ok (x : Operand) (i : Nat) : KdOK E F n (.extract x i) (wO E F n x (fun g => .pur fun r => vAgg (fun _ => none) (fun vs => lnth vs i) none (g r)) .bad) := by
  rcases wO_spec E F n x (fun g => (.pur fun r => vAgg (fun _ => none) (fun vs => lnth vs i) none (g r) : Kd F.T)) .bad with h | ⟨g, h, hg⟩ <;> rw [h]
  · trivial
  · intro r v e
    change vAgg (fun _ => none) (fun vs => lnth vs i) none (g r) = some v at e
    simp only [pureA, hg]
    cases hv : g r with
    | tuple cs => rw [hv] at e; show cs[i]? = some v; rw [← lnth_eq]; exact e
    | _ => rw [hv] at e; exact absurd e (by intro e; cases e)
theorem pick_ok (c a b : Operand) : KdOK E F n (.pick c a b) (wO E F n c (fun gc => wO E F n a (fun ga => wO E F n b (fun gb => .pur fun r => vBool (fun t => bc t (some (ga r)) (some (gb r))) none (gc r)) .bad) .bad) .bad) := by
  rcases wO_spec E F n c (fun gc => wO E F n a (fun ga => wO E F n b (fun gb => (.pur fun r => vBool (fun t => bc t (some (ga r)) (some (gb r))) none (gc r) : Kd F.T)) .bad) .bad) .bad with h | ⟨gc, h, hc⟩ <;> rw [h]
  · trivial
  rcases wO_spec E F n a (fun ga => wO E F n b (fun gb => (.pur fun r => vBool (fun t => bc t (some (ga r)) (some (gb r))) none (gc r) : Kd F.T)) .bad) .bad with h | ⟨ga, h, ha⟩ <;> rw [h]
  · trivial
  rcases wO_spec E F n b (fun gb => (.pur fun r => vBool (fun t => bc t (some (ga r)) (some (gb r))) none (gc r) : Kd F.T)) .bad with h | ⟨gb, h, hb⟩ <;> rw [h]
  · trivial
  intro r v e
  obtain ⟨t, e1, e⟩ := vBool_opt e
  simp only [pureA, hc, e1]
  cases t
  · simp only [hb]; exact e
  · simp only [ha]; exact e
theorem idxF_eq {len size i o : Nat} {ix v : AV} (e : idxF len size i o ix = some v) : ∃ k m, ix = .int k m ∧ 0 ≤ m ∧ m < len ∧ v = .ptr i (o + m.toNat * size) := by
  obtain ⟨k, m, rfl, e⟩ := vInt_opt e
  obtain ⟨m', rfl, e⟩ := iNat_opt e
  obtain ⟨h1, e⟩ := bc_opt' e
  have h1 := ble_lt h1
  exact ⟨k, m', rfl, by omega, by omega, (Option.some.inj e).symm⟩
theorem indexAddr_ok (t : TypeId) (x ix : Operand) : KdOK E F n (.indexAddr t x ix) (wO E F n x (fun gx => wO E F n ix (fun gi => match undF E.P t with
    | some (.array len elem) => match szF E elem with
      | some size => .pur fun r => vPtr (fun i o => idxF len size i o (gi r)) none (gx r)
      | none => .bad
    | some (.slice elem) => match szF E elem with
      | some size => .pur fun r => vSlice none (fun i o len _ _ => idxF len size i o (gi r)) none (gx r)
      | none => .bad
    | _ => .bad) .bad) .bad) := by
  rw [undF_eq]
  rcases wO_spec E F n x (fun gx => wO E F n ix (fun gi => match E.P.underlying t with
    | some (.array len elem) => match szF E elem with
      | some size => (.pur fun r => vPtr (fun i o => idxF len size i o (gi r)) none (gx r) : Kd F.T)
      | none => .bad
    | some (.slice elem) => match szF E elem with
      | some size => .pur fun r => vSlice none (fun i o len _ _ => idxF len size i o (gi r)) none (gx r)
      | none => .bad
    | _ => .bad) .bad) .bad with h | ⟨gx, h, hx⟩ <;> rw [h]
  · trivial
  rcases wO_spec E F n ix (fun gi => match E.P.underlying t with
    | some (.array len elem) => match szF E elem with
      | some size => (.pur fun r => vPtr (fun i o => idxF len size i o (gi r)) none (gx r) : Kd F.T)
      | none => .bad
    | some (.slice elem) => match szF E elem with
      | some size => .pur fun r => vSlice none (fun i o len _ _ => idxF len size i o (gi r)) none (gx r)
      | none => .bad
    | _ => .bad) .bad with h | ⟨gi, h, hi⟩ <;> rw [h]
  · trivial
  cases hu : E.P.underlying t with
  | none => trivial
  | some d => cases d with
    | array len elem =>
      simp only
      rw [szF_eq]
      cases hs : sizeT E elem with
      | none => trivial
      | some size =>
        intro r v e
        obtain ⟨i, o, e1, e⟩ := vPtr_opt e
        obtain ⟨k, m, e2, h1, h2, rfl⟩ := idxF_eq e
        simp only [pureA, hu, hx, hi, e1, e2, hs]
        rw [if_pos ⟨h1, h2⟩]
    | slice elem =>
      simp only
      rw [szF_eq]
      cases hs : sizeT E elem with
      | none => trivial
      | some size =>
        intro r v e
        rcases vSlice_opt e with ⟨_, e⟩ | ⟨i, o, l, c, b, e1, e⟩
        · cases e
        obtain ⟨k, m, e2, h1, h2, rfl⟩ := idxF_eq e
        simp only [pureA, hu, hx, hi, e1, e2, hs]
        rw [if_pos ⟨h1, h2⟩]
    | _ => trivial
theorem index_ok (t : TypeId) (x ix : Operand) : KdOK E F n (.index t x ix) (wO E F n x (fun gx => wO E F n ix (fun gi => match undF E.P t with
    | some .string => .pur fun r => vStr (fun s => vInt (fun _ i => iNat (fun m => ob none (fun (b : UInt8) => some (.int .u8 (Int.ofNat b.toNat))) (lnth s m)) none i) none (gi r)) none (gx r)
    | _ => .pur fun r => pureA E (toL F n r) (.index t x ix)) .bad) .bad) := by
  rw [undF_eq]
  rcases wO_spec E F n x (fun gx => wO E F n ix (fun gi => match E.P.underlying t with
    | some .string => (.pur fun r => vStr (fun s => vInt (fun _ i => iNat (fun m => ob none (fun (b : UInt8) => some (.int .u8 (Int.ofNat b.toNat))) (lnth s m)) none i) none (gi r)) none (gx r) : Kd F.T)
    | _ => .pur fun r => pureA E (toL F n r) (.index t x ix)) .bad) .bad with h | ⟨gx, h, hx⟩ <;> rw [h]
  · trivial
  rcases wO_spec E F n ix (fun gi => match E.P.underlying t with
    | some .string => (.pur fun r => vStr (fun s => vInt (fun _ i => iNat (fun m => ob none (fun (b : UInt8) => some (.int .u8 (Int.ofNat b.toNat))) (lnth s m)) none i) none (gi r)) none (gx r) : Kd F.T)
    | _ => .pur fun r => pureA E (toL F n r) (.index t x ix)) .bad with h | ⟨gi, h, hi⟩ <;> rw [h]
  · trivial
  cases hu : E.P.underlying t with
  | none => intro r v e; exact e
  | some d => cases d with
    | string =>
      intro r v e
      obtain ⟨s, e1, e⟩ := vStr_opt e
      obtain ⟨k, m, e2, e⟩ := vInt_opt e
      obtain ⟨m', rfl, e⟩ := iNat_opt e
      obtain ⟨b, e3, e⟩ := ob_opt e
      rw [lnth_eq] at e3
      simp only [pureA, hu, hx, hi, e1, e2]
      rw [if_pos (by omega)]
      rw [show ((m' : Int).toNat) = m' from rfl, e3]
      exact e
    | _ => intro r v e; exact e
theorem bndF_eq {d y : Nat} {o : Option AV} {k : Nat → Option AV} {v : AV} (e : bndF d y o k = some v) : ∃ m, (match o with | some v => boundA v y | none => some d) = some m ∧ k m = some v := by
  cases o with
  | none => exact ⟨d, rfl, e⟩
  | some a =>
    obtain ⟨kk, i, rfl, e⟩ := vInt_opt (show vInt (fun _ i => iNat (fun m => bc (Nat.ble m y) (k m) none) none i) none a = some v from e)
    obtain ⟨m, rfl, e⟩ := iNat_opt e
    obtain ⟨h1, e⟩ := bc_opt e
    have h1 := ble_le h1
    refine ⟨m, ?_, e⟩
    simp only [boundA]
    rw [if_pos (by omega)]; rfl
theorem bounds_of {len cap h l : Nat} {lo hi : Option AV} (h1 : (match hi with | some v => boundA v cap | none => some len) = some h)
    (h2 : (match lo with | some v => boundA v h | none => some 0) = some l) : boundsA len cap lo hi none = some (l, h, cap) := by
  cases hi with
  | none => cases lo with
    | none => cases h1; cases h2; rfl
    | some b => cases h1; simp only [boundsA, Option.isSome_none]; simp at h2; simp [h2]
  | some a => cases lo with
    | none => cases h2; simp only [boundsA]; simp at h1; simp [h1]
    | some b => simp only [boundsA]; simp at h1 h2; simp [h1, h2]
theorem slF_eq {t elem : TypeId} {size : Nat} (hu : E.P.underlying t = some (.slice elem)) (hs : sizeT E elem = some size) {lo hi : Option AV} {x v : AV} (e : slF size lo hi x = some v) : sliceA E t x lo hi none = some v := by
  rcases vSlice_opt e with ⟨rfl, e1⟩ | ⟨i, o, len, cap, op, rfl, e1⟩
  · obtain ⟨h, h1, e2⟩ := bndF_eq e1
    obtain ⟨l, h2, e3⟩ := bndF_eq e2
    simp only [sliceA, hu, bounds_of h1 h2, hs]
    exact e3
  · obtain ⟨h0, e2⟩ := bc_opt e1
    have h0 := ble_le h0
    obtain ⟨h, h1, e3⟩ := bndF_eq e2
    obtain ⟨l, h2, e4⟩ := bndF_eq e3
    simp only [sliceA, hu, bounds_of h1 h2, hs]
    rw [if_pos h0]
    cases h3 : Nat.beq cap l
    · rw [h3, bc_false] at e4
      have : ¬ cap = l := by intro ee; rw [ee, Nat.beq_refl] at h3; cases h3
      rw [if_neg this]
      simpa using e4
    · rw [h3, bc_true] at e4
      rw [if_pos (beq_of h3)]
      cases op
      · rw [bc_false] at e4; simpa using e4
      · rw [bc_true] at e4; simpa using e4
theorem slS_eq {t : TypeId} (hu : E.P.underlying t = some .string) {lo hi : Option AV} {x v : AV} (e : slS lo hi x = some v) : sliceA E t x lo hi none = some v := by
  obtain ⟨s, rfl, e1⟩ := vStr_opt e
  obtain ⟨h, h1, e2⟩ := bndF_eq e1
  obtain ⟨l, h2, e3⟩ := bndF_eq e2
  rw [llen_eq] at h1
  simp only [sliceA, hu, bounds_of h1 h2]
  rw [← e3, ltake_eq, ldrop_eq]; rfl
theorem slA_eq {t elem : TypeId} {m size : Nat} (hu : E.P.underlying t = some (.array m elem)) (hs : sizeT E elem = some size) {lo hi : Option AV} {x v : AV} (e : slA m size lo hi x = some v) : sliceA E t x lo hi none = some v := by
  obtain ⟨i, o, rfl, e1⟩ := vPtr_opt e
  obtain ⟨h, h1, e2⟩ := bndF_eq e1
  obtain ⟨l, h2, e3⟩ := bndF_eq e2
  simp only [sliceA, hu, bounds_of h1 h2, hs]
  rw [← Option.some.inj e3]
  cases h3 : Nat.beq m l
  · have : ¬ m = l := by intro ee; rw [ee, Nat.beq_refl] at h3; cases h3
    rw [if_neg this]; rfl
  · rw [if_pos (beq_of h3)]; rfl
theorem slice_ok (t : TypeId) (x : Operand) (lo hi : Option Operand) : KdOK E F n (.slice t x lo hi none) (wO E F n x (fun gx => wP E F n lo (fun gl => wP E F n hi (fun gh => match undF E.P t with
    | some (.slice elem) => match szF E elem with
      | some size => .pur fun r => slF size (evP gl r) (evP gh r) (gx r)
      | none => .bad
    | some .string => .pur fun r => slS (evP gl r) (evP gh r) (gx r)
    | some (.array m elem) => match szF E elem with
      | some size => .pur fun r => slA m size (evP gl r) (evP gh r) (gx r)
      | none => .bad
    | _ => .pur fun r => pureA E (toL F n r) (.slice t x lo hi none)) .bad) .bad) .bad) := by
  rw [undF_eq]
  let K : (F.T → AV) → Option (F.T → AV) → Option (F.T → AV) → Kd F.T := fun gx gl gh => match E.P.underlying t with
    | some (.slice elem) => match szF E elem with
      | some size => .pur fun r => slF size (evP gl r) (evP gh r) (gx r)
      | none => .bad
    | some .string => .pur fun r => slS (evP gl r) (evP gh r) (gx r)
    | some (.array m elem) => match szF E elem with
      | some size => .pur fun r => slA m size (evP gl r) (evP gh r) (gx r)
      | none => .bad
    | _ => .pur fun r => pureA E (toL F n r) (.slice t x lo hi none)
  show KdOK E F n _ (wO E F n x (fun gx => wP E F n lo (fun gl => wP E F n hi (fun gh => K gx gl gh) .bad) .bad) .bad)
  rcases wO_spec E F n x (fun gx => wP E F n lo (fun gl => wP E F n hi (fun gh => K gx gl gh) .bad) .bad) .bad with h | ⟨gx, h, hx⟩ <;> rw [h]
  · trivial
  rcases wP_spec E F n lo (fun gl => wP E F n hi (fun gh => K gx gl gh) .bad) .bad with h | ⟨gl, h, hl⟩ <;> rw [h]
  · trivial
  rcases wP_spec E F n hi (fun gh => K gx gl gh) .bad with h | ⟨gh, h, hh⟩ <;> rw [h]
  · trivial
  have red : ∀ r, pureA E (toL F n r) (.slice t x lo hi none) = sliceA E t (gx r) (evP gl r) (evP gh r) none := by
    intro r; simp only [pureA, hx, hl, hh]; rfl
  simp only [K]
  cases hu : E.P.underlying t with
  | none => intro r v e; exact e
  | some d => cases d with
    | string => intro r v e; rw [red]; exact slS_eq hu e
    | array m elem =>
      simp only
      rw [szF_eq]
      cases hs : sizeT E elem with
      | none => trivial
      | some size => intro r v e; rw [red]; exact slA_eq hu hs e
    | slice elem =>
      simp only
      rw [szF_eq]
      cases hs : sizeT E elem with
      | none => trivial
      | some size => intro r v e; rw [red]; exact slF_eq hu hs e
    | _ => intro r v e; exact e
end Go.Ab.Fa
