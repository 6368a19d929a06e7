/-
  OPERATIONS THAT NEITHER READ NOR WRITE MEMORY: the model gives what the evaluator gives.
-/
import Derived.Laws.StructEq
import Derived.Test.YtaiemlmlompmmaaGreatDoorAbHeaps
import Derived.Laws.Slices
import Derived.Laws.Strings
import Derived.ChangeKeysEq
namespace Go.Ab
variable {E : Env}

def GL (E : Env) (φ : Ph) : Prop := ∀ g, g < E.G → φ g = some ⟨g, 0, 0⟩

theorem evs_VR {φ : Ph} (hg : GL E φ) {ts : List AV} {a : Act} (ht : LR φ ts a.tmps.toList) {x : Operand} {v : AV} (h : evs E ts x = some v) : VR φ v (a.eval x) := by
  cases x with
  | tmp t =>
    simp only [evs, Option.some.injEq] at h; subst h
    have := ht.getD (VR.undef φ) t
    rw [show a.eval (.tmp t) = a.tmps.toList.getD t undef by simp [Act.eval, Array.getD_eq_getD_getElem?, List.getD]]
    exact this
  | const c => exact ofConst_VR φ h
  | global g =>
    simp only [evs] at h
    split at h
    · rename_i hlt; simp at h; subst h; have := VR.ptr 0 (hg g hlt); simpa [Act.eval] using this
    · simp at h
  | func f => simp [evs] at h; subst h; exact VR.func' (a' := []) (b' := []) f (LR.nil φ) (LR.nil φ)

theorem evAll_LR {φ : Ph} (hg : GL E φ) {ts : List AV} {a : Act} (ht : LR φ ts a.tmps.toList) {l : List Operand} {r : List AV} (h : evAll E ts l = some r) : LR φ r (l.map a.eval) := by
  obtain ⟨hl, hv⟩ := mapAll_some h
  refine ⟨by simp [hl], fun i x y hx hy => ?_⟩
  simp at hy
  obtain ⟨o, ho, rfl⟩ := hy
  obtain ⟨z, hz, he⟩ := hv i o ho
  rw [hx] at hz; simp at hz; subst hz
  exact evs_VR hg ht he

theorem run_size {P : Program} {t : TypeId} {n : Nat} (h : (P.info? t).map (·.size) = some n) (w : World) : (sizeOf t).run P w = .ok n w := by
  cases hq : P.info? t with
  | none => simp [hq] at h
  | some i => simp [hq] at h; simp [sizeOf, typeInfo, hq, h]
theorem run_bytes {P : Program} {t : TypeId} {n : Nat} (h : (P.info? t).map (·.bytes) = some n) (w : World) : ∃ i, (typeInfo t).run P w = .ok i w ∧ i.bytes = n := by
  cases hq : P.info? t with
  | none => simp [hq] at h
  | some i => simp [hq] at h; exact ⟨i, by simp [typeInfo, hq], h⟩
theorem zeroT_run {t : TypeId} {z : AV} (h : zeroT E t = some z) : ∃ z', (∀ φ, VR φ z z') ∧ ∀ w, (zeroValue t).run E.P w = .ok z' w := by
  unfold zeroT at h
  split at h
  · rename_i i hi
    split at h
    · rename_i z' hz
      exact ⟨z', fun φ => ofConst_VR φ h, fun w => by simp [zeroValue, typeInfo, hi, hz]⟩
    · simp at h
  · simp at h
theorem isAggT_run {t : TypeId} {b : Bool} (h : isAggT E t = some b) (w : World) : (isAgg t).run E.P w = .ok b w := by
  unfold isAggT at h
  unfold isAgg
  rw [Sem.run_bind]
  split at h <;> rename_i hu <;> simp at h
  · subst h; rw [run_underlying hu]; rfl
  · subst h; rw [run_underlying hu]; rfl
  · rename_i d h1 h2
    subst h; rw [run_underlying hu]
    cases d <;> first | rfl | (exact absurd rfl (h1 _)) | (exact absurd rfl (h2 _ _))

theorem toArray_extract (l : List Value) (a b : Nat) : l.toArray.extract a b = ((l.drop a).take (b - a)).toArray := by simp

/-- a part of a row -/
theorem partT_run {φ : Ph} {t : TypeId} {cs : List AV} {cs' : List Value} (hc : LR φ cs cs') {off : Nat} {v : AV} (h : partT E t cs off = some v) :
    ∃ v', VR φ v v' ∧ ∀ w, (part t cs'.toArray off).run E.P w = .ok v' w := by
  unfold partT at h
  split at h
  · rename_i ha
    split at h
    · rename_i n hn
      split at h
      · simp at h; subst h
        refine ⟨.agg ((cs'.drop off).take n).toArray, VR.agg' ((hc.drop off).take n), fun w => ?_⟩
        simp only [part, Sem.run_bind, isAggT_run ha, Result.andThen_ok, if_true, run_size hn, Sem.run_pure, toArray_extract, Nat.add_sub_cancel_left]
      · simp at h
    · simp at h
  · rename_i ha
    obtain ⟨y, hy, hv⟩ := hc.get h
    refine ⟨y, hv, fun w => ?_⟩
    simp only [part, Sem.run_bind, isAggT_run ha, Result.andThen_ok, Bool.false_eq_true, if_false]
    have : cs'.toArray[off]? = some y := by simpa using hy
    simp [this]
  · simp at h

theorem bytes_beq (a b : ByteArray) : (a.toList == b.toList) = (a.data.toList == b.data.toList) := by rw [ByteArray.toList_eq, ByteArray.toList_eq]

/-! ### Sums, comparisons -/
set_option linter.unusedSimpArgs false in
theorem binInt_run {φ : Ph} {op : BinOp} {k : IntKind} {x y : Int} {v : AV} (h : binInt op k x y = some v) (hs : op ≠ .shl) (hs' : op ≠ .shr) (t : TypeId) :
    ∃ v', VR φ v v' ∧ ∀ w, (binOp op t (.int k x) (.int k y)).run E.P w = .ok v' w := by
  unfold binInt at h
  split at h
  all_goals first
    | (simp at h; subst h; exact ⟨_, .int _ _, fun w => by simp [binOp, Op.intArith, Op.intBits, Op.intCmp]⟩)
    | (simp at h; subst h; exact ⟨_, .bool _, fun w => by simp [binOp, Op.intArith, Op.intBits, Op.intCmp]⟩)
    | (split at h
       · simp at h
       · rename_i hy
         simp at h; subst h; exact ⟨_, .int _ _, fun w => by simp [binOp, Op.intDiv, hy]⟩)
    | simp at h

set_option linter.unusedSimpArgs false in
theorem binStr_run {φ : Ph} {op : BinOp} {x y : ByteArray} {v : AV} (h : binStr op x.data.toList y.data.toList = some v) (t : TypeId) :
    ∃ v', VR φ v v' ∧ ∀ w, (binOp op t (.string x) (.string y)).run E.P w = .ok v' w := by
  unfold binStr at h
  split at h
  · split at h
    · rename_i hlt
      simp at h; subst h
      refine ⟨.string (x ++ y), ?_, fun w => ?_⟩
      · have := VR.str (φ := φ) (x ++ y); simpa using this
      · have hlt' : x.size + y.size < 1099511627776 := by
          have e : ∀ b : ByteArray, b.size = b.data.toList.length := fun b => by cases b; rfl
          rw [e, e]; exact hlt
        have hm : IntKind.i64.max = 9223372036854775807 := by decide
        have : ¬ ((x.size + y.size : Nat) : Int) > IntKind.i64.max := by rw [hm]; omega
        simp only [binOp, Op.stringOp, this, if_false, Sem.run_pure]
    · simp at h
  all_goals first
    | (simp only [Option.some.injEq] at h; subst h; exact ⟨_, .bool _, fun w => by simp only [binOp, Op.stringOp, bytes_beq, ByteArray.toList_eq, Sem.run_pure]⟩)
    | simp at h

theorem eqAV_run' {φ : Ph} {t : TypeId} {x y : AV} {r : Bool} (h : eqAV E t x y = some r) {x' y' : Value} (hx : VR φ x x') (hy : VR φ y y') (dd : Nat) :
    ∀ w, (Op.equalIn (dd + 1) t x' y').run E.P w = .ok r w := by
  intro w
  unfold eqAV at h
  split at h <;> (try (simp at h; done))
  all_goals
    rename_i hd
    split at h <;> (try (simp at h; done))
    all_goals
      simp only [Option.some.injEq] at h
      subst h
      unfold Op.equalIn
      rw [Sem.run_bind, run_underlying hd]
      cases hx <;> cases hy <;> rfl

theorem eqAV_run {φ : Ph} {t : TypeId} {x y : AV} {r : Bool} (h : eqAV E t x y = some r) {x' y' : Value} (hx : VR φ x x') (hy : VR φ y y') :
    ∀ w, (Op.equal t x' y').run E.P w = .ok r w := eqAV_run' h hx hy 9999

theorem eqFieldsA_run {φ : Ph} {eq : TypeId → AV → AV → Option Bool} {d : Nat} (heq : ∀ t a b r a' b', eq t a b = some r → VR φ a a' → VR φ b b' → ∀ w, (Op.equalIn d t a' b').run E.P w = .ok r w)
    {xs ys : List AV} {xs' ys' : Array Value} (hx : LR φ xs xs'.toList) (hy : LR φ ys ys'.toList) : ∀ {fs : List Field} {r : Bool} (_ : eqFieldsA E eq xs ys fs = some r) (w : World), (Op.eqFields d xs' ys' fs).run E.P w = .ok r w
  | [], r, h, w => by simp [eqFieldsA] at h; subst h; rfl
  | f :: fs, r, h, w => by
    simp only [eqFieldsA] at h
    unfold Op.eqFields
    split at h
    · rename_i hn
      rw [if_neg (by simp [hn])]
      exact eqFieldsA_run heq hx hy h w
    · rename_i hn
      rw [if_pos hn]
      split at h
      · rename_i a b ha hb
        obtain ⟨a', hva, hra⟩ := partT_run hx ha
        obtain ⟨b', hvb, hrb⟩ := partT_run hy hb
        rw [Array.toArray_toList] at hra hrb
        split at h
        · rename_i he
          have := eqFieldsA_run heq hx hy h w
          simp [Sem.run_bind, hra, hrb, heq _ _ _ _ _ _ he hva hvb, this]
        · rename_i he
          simp at h; subst h
          simp [Sem.run_bind, hra, hrb, heq _ _ _ _ _ _ he hva hvb]
        · simp at h
      · simp at h

theorem eqDeep_run {φ : Ph} : ∀ (n d : Nat) (t : TypeId) (a b : AV) (r : Bool) (a' b' : Value) (_ : eqDeep E n t a b = some r) (_ : VR φ a a') (_ : VR φ b b') (w : World), (Op.equalIn (d + n) t a' b').run E.P w = .ok r w
  | 0, _, _, _, _, _, _, _, h, _, _, _ => by simp [eqDeep] at h
  | n + 1, d, t, a, b, r, a', b', h, ha, hb, w => by
    rw [← Nat.add_assoc]
    unfold eqDeep at h
    split at h
    · cases ha; cases hb
      split at h
      · rename_i hu
        split at h
        · rename_i hk; subst hk
          simp at h; subst h
          exact run_equalIn_int w (d + n) t _ _ _ _ hu
        · simp at h
      · simp at h
    · cases ha; cases hb
      split at h
      · rename_i hu
        simp only [Option.some.injEq] at h; subst h
        rw [run_equalIn_string w (d + n) t _ _ hu, ByteArray.toList_eq, ByteArray.toList_eq]
      · simp at h
    · obtain ⟨xs', rfl, hxs⟩ := ha.agg_inv
      obtain ⟨ys', rfl, hys⟩ := hb.agg_inv
      split at h
      · rename_i fs hu
        split at h
        · rename_i hst
          have hfs : E.P.fieldsOf t = fs := by simp [Program.fieldsOf, hu]
          rw [run_equalIn_struct w (d + n) t xs' ys' (by rw [hfs]; exact hu) hst, hfs]
          exact eqFieldsA_run (fun t a b r a' b' h1 h2 h3 w => eqDeep_run n d t a b r a' b' h1 h2 h3 w) hxs hys h w
        · simp at h
      · simp at h
    · exact eqAV_run' h ha hb (d + n) w

theorem eqGuard_agg {op : BinOp} {t : TypeId} (x y : Operand) (xs ys : Array Value) (h : E.P.eqGuardType E.P.depth t = false) (w : World) : (eqGuard op t x y (.agg xs) (.agg ys)).run E.P w = .ok () w := by
  unfold eqGuard
  cases op <;> (try rfl)
  all_goals simp [Sem.run_bind, run_program, h]

theorem eqGuard_other {op : BinOp} (h1 : op ≠ .eql) (h2 : op ≠ .neq) (t : TypeId) (x y : Operand) (a b : Value) (w : World) : (eqGuard op t x y a b).run E.P w = .ok () w := by
  unfold eqGuard; cases op <;> first | rfl | (exact absurd rfl h1) | (exact absurd rfl h2)
def guardV (xc yc : Bool) : Value → Value → Bool
  | .nilIface, .nilIface => xc || yc
  | .agg _, .agg _ => false
  | _, _ => true
theorem eqGuard_plain {op : BinOp} (t : TypeId) (x y : Operand) (a b : Value) (h : guardV (isConst x) (isConst y) a b = true) (w : World) :
    (eqGuard op t x y a b).run E.P w = .ok () w := by
  unfold eqGuard
  cases op <;> (try rfl)
  all_goals
    cases a <;> cases b <;> first
      | rfl
      | (simp [guardV] at h; done)
      | (cases x <;> cases y <;> first | rfl | (simp [guardV, isConst] at h; done))

theorem shift_run {k k' : IntKind} {x y : Int} (hy : ¬ y < 0) (t : TypeId) :
    (∀ w, (binOp .shl t (.int k x) (.int k' y)).run E.P w = .ok (.int k (k.wrap (x * 2 ^ (min y.toNat k.bits)))) w) ∧
    (∀ w, (binOp .shr t (.int k x) (.int k' y)).run E.P w = .ok (.int k (x.fdiv (2 ^ (min y.toNat k.bits)))) w) := by
  constructor <;> intro w <;> simp [binOp, Op.shift, hy]

theorem guardOK_VR {φ : Ph} {a b : AV} {a' b' : Value} (hx : VR φ a a') (hy : VR φ b b') {xo yo : Operand} (h : guardOK (isConst xo) (isConst yo) a b = true) :
    guardV (isConst xo) (isConst yo) a' b' = true := by
  cases hx <;> cases hy <;> first | rfl | exact h

def notFloat : Value → Prop
  | .float _ _ | .complex _ _ _ => False
  | _ => True
theorem VR.notFloat {φ : Ph} {a : AV} {a' : Value} (h : VR φ a a') : Ab.notFloat a' := by cases h <;> exact trivial

theorem binOp_eql (t : TypeId) {a b : Value} (h1 : ∀ k m k' m', a = .int k m → b = .int k' m' → False) (h2 : ∀ k m, a = .string k → b = .string m → False) (h3 : notFloat a) (h4 : notFloat b) :
    binOp .eql t a b = (do pure (.bool (← Op.equal t a b)) : Sem Value) := by
  unfold binOp
  split <;> first
    | rfl
    | contradiction
    | (exact (h1 _ _ _ _ rfl rfl).elim)
    | (exact (h2 _ _ rfl rfl).elim)
    | (exact h3.elim)
    | (exact h4.elim)
    | (exfalso; simp_all; done)
theorem binOp_neq (t : TypeId) {a b : Value} (h1 : ∀ k m k' m', a = .int k m → b = .int k' m' → False) (h2 : ∀ k m, a = .string k → b = .string m → False) (h3 : notFloat a) (h4 : notFloat b) :
    binOp .neq t a b = (do pure (.bool (!(← Op.equal t a b))) : Sem Value) := by
  unfold binOp
  split <;> first
    | rfl
    | contradiction
    | (exact (h1 _ _ _ _ rfl rfl).elim)
    | (exact (h2 _ _ rfl rfl).elim)
    | (exact h3.elim)
    | (exact h4.elim)
    | (exfalso; simp_all; done)

set_option linter.unusedSimpArgs false in
theorem binA_run {φ : Ph} {op : BinOp} {t : TypeId} {xo yo : Operand} {a b v : AV} (h : binA E op t (isConst xo) (isConst yo) a b = some v) {a' b' : Value} (hx : VR φ a a') (hy : VR φ b b') :
    ∃ v', VR φ v v' ∧ ∀ w, (do eqGuard op t xo yo a' b'; binOp op t a' b' : Sem Value).run E.P w = .ok v' w := by
  unfold binA at h
  split at h
  · -- shl
    cases hx; cases hy
    split at h
    · simp at h
    · rename_i hn
      simp at h; subst h
      refine ⟨_, .int _ _, fun w => ?_⟩
      rw [Sem.run_bind, eqGuard_other (by decide) (by decide)]
      exact (shift_run (E := E) hn t).1 w
  · cases hx; cases hy
    split at h
    · simp at h
    · rename_i hn
      simp at h; subst h
      refine ⟨_, .int _ _, fun w => ?_⟩
      rw [Sem.run_bind, eqGuard_other (by decide) (by decide)]
      exact (shift_run (E := E) hn t).2 w
  · rename_i k x k' y h1 h2
    cases hx; cases hy
    split at h
    · rename_i hk; subst hk
      obtain ⟨v', hv, hr⟩ := binInt_run (φ := φ) (E := E) h h1 h2 t
      refine ⟨v', hv, fun w => ?_⟩
      rw [Sem.run_bind, eqGuard_plain _ _ _ _ _ rfl]
      exact hr w
    · simp at h
  · cases hx; cases hy
    obtain ⟨v', hv, hr⟩ := binStr_run (φ := φ) (E := E) h t
    refine ⟨v', hv, fun w => ?_⟩
    rw [Sem.run_bind, eqGuard_plain _ _ _ _ _ rfl]
    exact hr w
  · -- structs
    split at h
    · simp at h
    · rename_i hg
      split at h
      · rename_i r hr
        simp at h; subst h
        refine ⟨_, .bool r, fun w => ?_⟩
        obtain ⟨xs', rfl, hxs⟩ := hx.agg_inv
        obtain ⟨ys', rfl, hys⟩ := hy.agg_inv
        rw [Sem.run_bind, eqGuard_agg _ _ _ _ (by simpa using hg)]
        have := eqDeep_run 16 9984 t _ _ r _ _ hr hx hy w
        simp only [Result.andThen_ok]
        rw [binOp_eql (a := .agg xs') (b := .agg ys') t (fun _ _ _ _ e => by simp at e) (fun _ _ e => by simp at e) trivial trivial, Sem.run_bind]
        rw [show (Op.equal t (.agg xs') (.agg ys')).run E.P w = .ok r w from this]; rfl
      · simp at h
  · split at h
    · simp at h
    · rename_i hg
      split at h
      · rename_i r hr
        simp at h; subst h
        refine ⟨_, .bool (!r), fun w => ?_⟩
        obtain ⟨xs', rfl, hxs⟩ := hx.agg_inv
        obtain ⟨ys', rfl, hys⟩ := hy.agg_inv
        rw [Sem.run_bind, eqGuard_agg _ _ _ _ (by simpa using hg)]
        have := eqDeep_run 16 9984 t _ _ r _ _ hr hx hy w
        simp only [Result.andThen_ok]
        rw [binOp_neq (a := .agg xs') (b := .agg ys') t (fun _ _ _ _ e => by simp at e) (fun _ _ e => by simp at e) trivial trivial, Sem.run_bind]
        rw [show (Op.equal t (.agg xs') (.agg ys')).run E.P w = .ok r w from this]; rfl
      · simp at h
  · rename_i h1 h2 _
    split at h
    · rename_i hg
      split at h
      · rename_i r hr
        simp at h; subst h
        refine ⟨_, .bool r, fun w => ?_⟩
        rw [Sem.run_bind, eqGuard_plain _ _ _ _ _ (guardOK_VR hx hy hg)]
        have := eqAV_run hr hx hy w
        simp only [Result.andThen_ok]
        rw [binOp_eql t (fun k m k' m' e e' => by subst e; subst e'; cases hx; cases hy; exact h1 _ _ _ _ rfl rfl) (fun k m e e' => by subst e; subst e'; cases hx; cases hy; exact h2 _ _ rfl rfl) (VR.notFloat hx) (VR.notFloat hy)]
        rw [Sem.run_bind, this]; rfl
      · simp at h
    · simp at h
  · rename_i h1 h2 _
    split at h
    · rename_i hg
      split at h
      · rename_i r hr
        simp at h; subst h
        refine ⟨_, .bool (!r), fun w => ?_⟩
        rw [Sem.run_bind, eqGuard_plain _ _ _ _ _ (guardOK_VR hx hy hg)]
        have := eqAV_run hr hx hy w
        simp only [Result.andThen_ok]
        rw [binOp_neq t (fun k m k' m' e e' => by subst e; subst e'; cases hx; cases hy; exact h1 _ _ _ _ rfl rfl) (fun k m e e' => by subst e; subst e'; cases hx; cases hy; exact h2 _ _ rfl rfl) (VR.notFloat hx) (VR.notFloat hy)]
        rw [Sem.run_bind, this]; rfl
      · simp at h
    · simp at h
  · simp at h

end Go.Ab
