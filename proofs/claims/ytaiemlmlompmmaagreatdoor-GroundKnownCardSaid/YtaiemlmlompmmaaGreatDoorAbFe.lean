/-
  A FAST RUN: each operation's kind says what the abstract evaluator does.
-/
import Derived.Test.YtaiemlmlompmmaaGreatDoorAbFd
import Derived.Test.YtaiemlmlompmmaaGreatDoorAbHeaps
namespace Go.Ab.Fa

/-! ### Lists -/
section
variable {α : Type}
theorem ldrop_eq (l : List α) (o : Nat) : ldrop l o = l.drop o := by
  induction l generalizing o with
  | nil => simp [ldrop]
  | cons v tl ih =>
    show bc (Nat.beq o 0) (v :: tl) (ldrop tl (o - 1)) = _
    rw [ih]
    cases o with
    | zero => rfl
    | succ o => simp [show Nat.beq (o + 1) 0 = false from rfl, bc_false]
theorem ltake_eq (l : List α) (o : Nat) : ltake l o = l.take o := by
  induction l generalizing o with
  | nil => simp [ltake]
  | cons v tl ih =>
    show bc (Nat.beq o 0) [] (v :: ltake tl (o - 1)) = _
    rw [ih]
    cases o with
    | zero => rfl
    | succ o => simp [show Nat.beq (o + 1) 0 = false from rfl, bc_false]
theorem lover_get (vs : List α) : ∀ (cs : List α) (k : Nat), (lover vs cs)[k]? = if k < vs.length ∧ k < cs.length then vs[k]? else cs[k]? := by
  induction vs with
  | nil => intro cs k; rw [if_neg (by simp)]; rfl
  | cons v vs ih =>
    intro cs k
    cases cs with
    | nil => rw [if_neg (by simp)]; rfl
    | cons c tl =>
      show (v :: lover vs tl)[k]? = _
      cases k with
      | zero => rw [if_pos (by simp)]; rfl
      | succ k => simp only [List.getElem?_cons_succ, ih, List.length_cons, Nat.add_lt_add_iff_right]
theorem lput_get (vs : List α) : ∀ (cs : List α) (o k : Nat), (lput vs cs o)[k]? = if o ≤ k ∧ k < o + vs.length ∧ k < cs.length then vs[k - o]? else cs[k]? := by
  intro cs
  induction cs with
  | nil => intro o k; rw [if_neg (by simp)]; rfl
  | cons c tl ih =>
    intro o k
    show (bc (Nat.beq o 0) (lover vs (c :: tl)) (c :: lput vs tl (o - 1)))[k]? = _
    cases o with
    | zero =>
      show (lover vs (c :: tl))[k]? = _
      rw [lover_get]; simp
    | succ o =>
      show (c :: lput vs tl o)[k]? = _
      cases k with
      | zero => rw [if_neg (by omega)]; rfl
      | succ k =>
        rw [List.getElem?_cons_succ, ih, List.getElem?_cons_succ, List.length_cons]
        by_cases h : o ≤ k ∧ k < o + vs.length ∧ k < tl.length
        · rw [if_pos h, if_pos (by omega), show k + 1 - (o + 1) = k - o by omega]
        · rw [if_neg h, if_neg (by omega)]
end
theorem lput_eq (vs cs : List AV) (o : Nat) : lput vs cs o = setFrom cs o vs := by
  apply List.ext_getElem?; intro k; rw [lput_get, setFrom_get]
theorem leq_eq (l m : List UInt8) : leq u8eq l m = (l == m) := by
  have key : ∀ a b : UInt8, u8eq a b = (a == b) := by
    intro a b
    unfold u8eq
    rw [← beqN]
    by_cases h : a = b
    · subst h; simp
    · rw [show (a == b) = false by simp [h]]
      rw [beq_eq_false_iff_ne]
      intro e; apply h
      have : a.toNat = b.toNat := e
      exact UInt8.toNat_inj.mp this
  induction l generalizing m with
  | nil => cases m <;> rfl
  | cons x tl ih =>
    cases m with
    | nil => rfl
    | cons y tm =>
      show bc (u8eq x y) (leq u8eq tl tm) false = _
      rw [ih, key, bc_and]; rfl
theorem strW_eq (op : BinOp) (a b : List UInt8) : (strW op).f a b = binStr op a b := by
  cases op <;> first | rfl | (simp only [strW, binStr, leq_eq, bnot_eq])
theorem isSc_eq (v : AV) : isSc v = AV.scalar v := by cases v <;> rfl
theorem isSc_fun : isSc = AV.scalar := funext isSc_eq
theorem vNilOK_eq (v : AV) : vNilOK v = true → (match (some v : Option AV) with
    | some (.ptr i o) => some (.ptr i o)
    | some (.map i) => some (.map i)
    | some (.slice i o l c b) => some (.slice i o l c b)
    | some (.func f a b) => some (.func f a b)
    | _ => none) = some v := by
  cases v <;> intro h <;> first | rfl | exact absurd h (by intro e; cases e)
theorem vIface_eout {f : TypeId → AV → EOut} {why : String} {o : Option Oper} (a : AV) : (∃ t v, a = .iface t v) ∨ vIface f (.fail why o) a = .fail why o := by
  cases a with
  | iface t v => exact .inl ⟨t, v, rfl⟩
  | _ => exact .inr rfl

/-- a list's cells may be AV.agg's alone -/
theorem vcells_agg (v : AV) (h : ∀ vs, v ≠ .tuple vs) : vcells v = v.cells := by
  cases v <;> first | rfl | exact absurd rfl (h _)
theorem vcells_eq (v : AV) : vcells v = v.cells := by cases v <;> rfl

/-! ### Operands -/
section
variable (E : Env) (F : RF) (n : Nat)
theorem wA_eq {T β : Type} (a : Acc T) (k : (T → AV) → β) : wA a k = k a.f := rfl
theorem wU_eq {T β : Type} (a : Upd T) (k : (AV → T → T) → β) : wU a k = k a.f := rfl
theorem wW_eq {α β : Type} (w : W α) (k : α → β) : wW w k = k w.f := rfl
theorem wT_spec {β : Type} (i : Nat) (k : (F.T → AV) → β) : ∃ g, wT F n i k = k g ∧ ∀ r, (toL F n r).getD i AV.undef = g r := by
  unfold wT
  cases h : Nat.ble n i
  · refine ⟨(F.get i).f, rfl, fun r => ?_⟩
    rw [toL_getD, if_pos (ble_lt h)]
  · refine ⟨fun _ => AV.undef, rfl, fun r => ?_⟩
    rw [toL_getD, if_neg (by have := ble_le h; omega)]
theorem wO_spec {β : Type} (x : Operand) (k : (F.T → AV) → β) (d : β) : wO E F n x k d = d ∨ ∃ g, wO E F n x k d = k g ∧ ∀ r, evs E (toL F n r) x = some (g r) := by
  cases x with
  | tmp t =>
    obtain ⟨g, h1, h2⟩ := wT_spec F n t k
    exact .inr ⟨g, h1, fun r => by rw [← h2]; rfl⟩
  | const v =>
    simp only [wO]
    cases h : ofConst v with
    | none => exact .inl rfl
    | some a => exact .inr ⟨fun _ => a, rfl, fun r => h⟩
  | global g =>
    simp only [wO]
    cases h : Nat.ble E.G g
    · exact .inr ⟨fun _ => .ptr g 0, rfl, fun r => by rw [evs, if_pos (ble_lt h)]⟩
    · exact .inl rfl
  | func f => exact .inr ⟨fun _ => .func f [] [], rfl, fun r => rfl⟩
theorem wL_spec {β : Type} : ∀ (l : List Operand) (k : (F.T → List AV) → β) (d : β), wL E F n l k d = d ∨ ∃ g, wL E F n l k d = k g ∧ ∀ r, evAll E (toL F n r) l = some (g r)
  | [], k, d => .inr ⟨fun _ => [], rfl, fun r => rfl⟩
  | x :: xs, k, d => by
    rw [wL]
    rcases wO_spec E F n x (fun g => wL E F n xs (fun gs => k fun r => g r :: gs r) d) d with h | ⟨g, h, hg⟩
    · exact .inl h
    · rcases wL_spec xs (fun gs => k fun r => g r :: gs r) d with h' | ⟨gs, h', hgs⟩
      · exact .inl (h.trans h')
      · refine .inr ⟨_, h.trans h', fun r => ?_⟩
        have := hgs r
        unfold evAll at *
        rw [mapAll, hg r]; simp only [this]
theorem wP_spec {β : Type} (o : Option Operand) (k : Option (F.T → AV) → β) (d : β) : wP E F n o k d = d ∨ ∃ g, wP E F n o k d = k g ∧ ∀ r, optOp E (toL F n r) o = some (evP g r) := by
  cases o with
  | none => exact .inr ⟨none, rfl, fun r => rfl⟩
  | some x =>
    rcases wO_spec E F n x (fun g => k (some g)) d with h | ⟨g, h, hg⟩
    · exact .inl h
    · exact .inr ⟨some g, h, fun r => by rw [optOp, hg r]; rfl⟩
theorem wPs_spec {β : Type} : ∀ (l : List (Nat × Operand)) (k : (F.T → List (Nat × AV)) → β) (d : β), wPs E F n l k d = d ∨ ∃ g, wPs E F n l k d = k g ∧ ∀ r, partsA E (toL F n r) l = some (g r)
  | [], k, d => .inr ⟨fun _ => [], rfl, fun r => rfl⟩
  | (i, x) :: xs, k, d => by
    rw [wPs]
    rcases wO_spec E F n x (fun g => wPs E F n xs (fun gs => k fun r => (i, g r) :: gs r) d) d with h | ⟨g, h, hg⟩
    · exact .inl h
    · rcases wPs_spec xs (fun gs => k fun r => (i, g r) :: gs r) d with h' | ⟨gs, h', hgs⟩
      · exact .inl (h.trans h')
      · refine .inr ⟨_, h.trans h', fun r => ?_⟩
        rw [partsA, hg r]; simp only [hgs r]
theorem wS_spec {β : Type} (hn : n ≤ F.N) (o : Option Tmp) (k : (AV → F.T → F.T) → β) : ∃ s, wS F n o k = k s ∧ ∀ v r, putT (toL F n r) o v = toL F n (s v r) := by
  cases o with
  | none => exact ⟨fun _ r => r, rfl, fun v r => rfl⟩
  | some i =>
    show ∃ s, bc (Nat.ble n i) (k fun _ r => r) (wU (F.set i) k) = k s ∧ _
    cases h : Nat.ble n i
    · exact ⟨(F.set i).f, rfl, fun v r => toL_set F n hn r (ble_lt h) v⟩
    · refine ⟨fun _ r => r, rfl, fun v r => ?_⟩
      show (toL F n r).set i v = _
      rw [List.set_eq_of_length_le (by rw [toL_length]; exact ble_le h)]

/-! ### Look-ups -/
theorem szF_eq (t : TypeId) : szF E t = sizeT E t := by
  unfold szF sizeT; rw [infoF_eq]; cases E.P.info? t <;> rfl
theorem byF_eq (t : TypeId) : byF E t = bytesT E t := by
  unfold byF bytesT; rw [infoF_eq]; cases E.P.info? t <;> rfl
theorem zeF_eq (t : TypeId) : zeF E t = zeroT E t := by
  unfold zeF zeroT; rw [infoF_eq]
  cases E.P.info? t with
  | none => rfl
  | some i => show ob none (fun z => ofConst z) i.zero = _; cases h : i.zero <;> simp [ob, h]
theorem agF_eq (t : TypeId) : agF E t = isAggT E t := by
  unfold agF isAggT; rw [undF_eq]; rfl
theorem fiF_eq (t : TypeId) (f : Nat) : fiF E t f = fieldsAt E t f := by
  unfold fiF fieldsAt; rw [undF_eq]
  generalize E.P.underlying t = u
  cases u with
  | none => rfl
  | some d => cases d with
    | struct fs => show lnth fs.toList f = fs[f]?; rw [lnth_eq]; exact Array.getElem?_toList
    | _ => rfl

/-! ### What a kind must do -/
def Nones (op : Op) : Prop := (∀ ts, pureA E ts op = none) ∧ (∀ ts h, readA E ts h op = none) ∧ ∀ ts, allocA E ts op = none
/-- what a fast call gives is what the call gives -/
def CallLe (f g : CallF) : Prop := ∀ F as h, (∀ v h', f F as h = .ret v h' → g F as h = .ret v h') ∧ ∀ v h', f F as h = .panic v h' → g F as h = .panic v h'
def ELe (a b : EOut) : Prop := match a with
  | .fail _ _ => True
  | a => b = a
def KdOK (op : Op) : Kd F.T → Prop
  | .tot g => ∀ r, pureA E (toL F n r) op = some (g r)
  | .pur f => ∀ r v, f r = some v → pureA E (toL F n r) op = some v
  | .red f => ∀ r h v, f r h = some v → pureA E (toL F n r) op = some v ∨ (pureA E (toL F n r) op = none ∧ readA E (toL F n r) h op = some v)
  | .alc f => (∀ ts, pureA E ts op = none) ∧ (∀ ts h, readA E ts h op = none) ∧ ∀ r p, f r = some p → allocA E (toL F n r) op = some p
  | .wr f => Nones E op ∧ ∀ call r h rc o p, o.op = op → f r h = some p → effA E call (toL F n r) h rc o = .val p.1 p.2
  | .call g args => Nones E op ∧ ∀ call r h rc o, o.op = op → effA E call (toL F n r) h rc o = fromC (call g (args r) h)
  | .eff f => Nones E op ∧ ∀ fc call, CallLe fc call → ∀ r h rc o, o.op = op → ELe (f fc r h rc) (effA E call (toL F n r) h rc o)
  | .bad => True
end
end Go.Ab.Fa
