/-
  TEXT.
-/
import Derived.Test.YtaiemlmlompmmaaGreatDoorAbRng
namespace Go.Ab
variable {E : Env}

/-- the operations of a region, in a given order -/
theorem opsA_sound (hE : EnvOK E) {call : CallF} (hcall : CallOK E call) {ops : Array Oper} : ∀ {l : List Oper} {is : List Nat} (_ : is.length = l.length) (_ : ∀ (j i : Nat), is[j]? = some i → l[j]? = ops[i]?) {s s' : St} {e : AEx} (_ : opsA E call ops l s = .ok e s')
    {φ : Ph} {a : Act} {w : World} {b : Frame} {k : List Item} {K : Bool → List Frame} (_ : SR φ s.ts s.ds a) (_ : OK E φ s.h w) (_ : RCok φ b K s.rc),
    ExOut E φ s.h w b K k (lone (b.atR a (.inRegion ops is :: k)) (cur K s.rc) w) e s'
  | [], is, hl, hi, s, s', e, h, φ, a, w, b, k, K, hs, ok, hrc => by
    cases is with
    | cons _ _ => simp at hl
    | nil =>
      simp [opsA] at h; obtain ⟨rfl, rfl⟩ := h
      exact ⟨φ, w, a, _, .normal, hs, ok, Fr.refl _ _ _, hrc, .one stepR_region_end⟩
  | o :: l, is, hl, hi, s, s', e, h, φ, a, w, b, k, K, hs, ok, hrc => by
    cases is with
    | nil => simp at hl
    | cons i is =>
      have ho : ops[i]? = some o := by have := hi 0 i (by simp); simpa using this.symm
      have hl' : is.length = l.length := by simpa using hl
      have hi' : ∀ (j i' : Nat), is[j]? = some i' → l[j]? = ops[i']? := fun j i' hj => by have := hi (j + 1) i' (by simpa using hj); simpa using this
      simp only [opsA] at h
      have hwe := wantedA_eq (ops := ops) hs.ts o
      split at h
      · rename_i hw
        rw [← hwe] at hw
        split at h
        · rename_i s1 hop
          obtain ⟨φ1, w1, a1, e1, x1, x2, x3, x4, x5, x6⟩ := (opA_sound hE hcall ho hop hs ok hrc hw (rest := is) (k := k)).is
          cases x1
          exact ((opsA_sound hE hcall hl' hi' h x2 x3 x5).of_steps x6).later x4
        · rename_i hne
          obtain ⟨φ1, w1, a1, e1, x1, x2, x3, x4, x5, x6⟩ := (opA_sound hE hcall ho h hs ok hrc hw (rest := is) (k := k)).is
          cases x1 with
          | normal => exact (hne _ h).elim
          | exit => exact x6.elim
          | ret => exact x6.elim
          | panic v v' hv => exact ⟨φ1, w1, a1, _, .panic v v' hv, x2, x3, x4, x5, x6⟩
      · rename_i hw
        have hs' : SR φ (putT s.ts o.dst AV.undef) s.ds (a.put o.dst undef) := hs.put o.dst (VR.undef φ)
        refine (opsA_sound hE hcall hl' hi' h hs' ok hrc).of_steps (.one ?_)
        have := stepR_op_skip (P := E.P) (b := b) (a := a) (k := k) (cs := cur K s.rc) (w := w) (ops := ops) (i := i) (rest := is) (by rw [ho]; simp; rw [hwe]; simpa using hw)
        rw [this, ho]; rfl

set_option maxHeartbeats 1000000 in
theorem exec_sound (hE : EnvOK E) {call : CallF} (hcall : CallOK E call) : ∀ (n : Nat) (c : Code) {s s' : St} {e : AEx} (_ : exec E call n c s = .ok e s')
    {φ : Ph} {a : Act} {w : World} {b : Frame} {k : List Item} {K : Bool → List Frame} (_ : SR φ s.ts s.ds a) (_ : OK E φ s.h w) (_ : RCok φ b K s.rc) (_ : (E.P.funcs[b.fn]?).isSome = true),
    ExOut E φ s.h w b K k (lone (b.atR a (.code c :: k)) (cur K s.rc) w) e s' ∧ ∀ c', c = .loop c' → ExOut E φ s.h w b K k (lone (b.atR a (.code c' :: .inLoop c' :: k)) (cur K s.rc) w) e s' := by
  intro n
  induction n with
  | zero => intro c s s' e h; simp [exec] at h
  | succ n ih2 =>
    have ih : ∀ (c : Code) {s s' : St} {e : AEx} (_ : exec E call n c s = .ok e s')
      {φ : Ph} {a : Act} {w : World} {b : Frame} {k : List Item} {K : Bool → List Frame} (_ : SR φ s.ts s.ds a) (_ : OK E φ s.h w) (_ : RCok φ b K s.rc) (_ : (E.P.funcs[b.fn]?).isSome = true),
      ExOut E φ s.h w b K k (lone (b.atR a (.code c :: k)) (cur K s.rc) w) e s' := fun c _ _ _ h _ _ _ _ _ _ hs ok hrc hfn => (ih2 c h hs ok hrc hfn).1
    intro c s s' e h φ a w b k K hs ok hrc hfn
    -- a loop, at its body
    have hloop : ∀ c', c = .loop c' → ExOut E φ s.h w b K k (lone (b.atR a (.code c' :: .inLoop c' :: k)) (cur K s.rc) w) e s' := by
      rintro c rfl
      simp only [exec] at h
      split at h
      · rename_i s1 h1
        obtain ⟨φ1, w1, a1, e1, x1, x2, x3, x4, x5, x6⟩ := (ih c h1 hs ok hrc hfn (k := .inLoop c :: k)).is
        cases x1
        exact (((ih2 (.loop c) h x2 x3 x5 hfn).2 c rfl).of_steps (Steps.trans x6 (.one stepR_inLoop))).later x4
      · rename_i hne
        obtain ⟨φ1, w1, a1, e1, x1, x2, x3, x4, x5, x6⟩ := (ih c h hs ok hrc hfn (k := .inLoop c :: k)).is
        refine ⟨φ1, w1, a1, e1, x1, x2, x3, x4, x5, .pass (x := .inLoop c) (fun _ => rfl) ?_ x6⟩
        cases x1 with
        | normal => exact (hne _ h).elim
        | exit => simp
        | ret => simp
        | panic => simp
    refine ⟨?_, hloop⟩
    cases c with
    | skip => simp [exec] at h; obtain ⟨rfl, rfl⟩ := h; exact ⟨φ, w, a, _, .normal, hs, ok, Fr.refl _ _ _, hrc, .one stepR_skip⟩
    | label l => simp [exec] at h; obtain ⟨rfl, rfl⟩ := h; exact ⟨φ, w, a, _, .normal, hs, ok, Fr.refl _ _ _, hrc, .one stepR_label⟩
    | ret => simp [exec] at h; obtain ⟨rfl, rfl⟩ := h; exact ⟨φ, w, a, _, .ret, hs, ok, Fr.refl _ _ _, hrc, k, Steps.refl _ _⟩
    | exit id => simp [exec] at h; obtain ⟨rfl, rfl⟩ := h; exact ⟨φ, w, a, _, .exit id, hs, ok, Fr.refl _ _ _, hrc, k, rfl, Steps.refl _ _⟩
    | seq x y =>
      simp only [exec] at h
      split at h
      · rename_i s1 h1
        obtain ⟨φ1, w1, a1, e1, x1, x2, x3, x4, x5, x6⟩ := (ih x h1 hs ok hrc hfn (k := .code y :: k)).is
        cases x1
        exact ((ih y h x2 x3 x5 hfn).of_steps (.head stepR_seq x6)).later x4
      · rename_i hne
        obtain ⟨φ1, w1, a1, e1, x1, x2, x3, x4, x5, x6⟩ := (ih x h hs ok hrc hfn (k := .code y :: k)).is
        refine ⟨φ1, w1, a1, e1, x1, x2, x3, x4, x5, .of_steps (.one stepR_seq) (.pass (x := .code y) (fun _ => rfl) ?_ x6)⟩
        cases x1 with
        | normal => exact (hne _ h).elim
        | exit => simp
        | ret => simp
        | panic => simp
    | cond x y z =>
      simp only [exec] at h
      split at h
      · rename_i hx
        have h1 := evs_VR ok.gl hs.ts hx
        generalize hcv : a.eval x = cv at h1
        cases h1
        exact (ih y h hs ok hrc hfn).of_steps (.one (stepR_cond hcv))
      · rename_i hx
        have h1 := evs_VR ok.gl hs.ts hx
        generalize hcv : a.eval x = cv at h1
        cases h1
        exact (ih z h hs ok hrc hfn).of_steps (.one (stepR_cond hcv))
      · simp at h
    | block id c =>
      simp only [exec] at h
      split at h
      · rename_i id' s1 h1
        obtain ⟨φ1, w1, a1, e1, x1, x2, x3, x4, x5, x6⟩ := (ih c h1 hs ok hrc hfn (k := .inBlock id :: k)).is
        cases x1
        split at h
        · rename_i hid
          simp at h; obtain ⟨rfl, rfl⟩ := h
          obtain ⟨todo, ht, hst⟩ := x6
          exact ⟨φ1, w1, a1, _, .normal, x2, x3, x4, x5, .head stepR_block (Steps.trans hst (.one (stepR_exit (by rw [ht]; simp [exitTo, hid]))))⟩
        · rename_i hid
          simp at h; obtain ⟨rfl, rfl⟩ := h
          obtain ⟨todo, ht, hst⟩ := x6
          refine ⟨φ1, w1, a1, _, .exit id', x2, x3, x4, x5, todo, ?_, .head stepR_block hst⟩
          have : (id == id') = false := by simp; exact fun h => hid h.symm
          rw [ht]; simp [exitTo, this]
      · rename_i hne
        obtain ⟨φ1, w1, a1, e1, x1, x2, x3, x4, x5, x6⟩ := (ih c h hs ok hrc hfn (k := .inBlock id :: k)).is
        cases x1 with
        | normal => exact ⟨φ1, w1, a1, _, .normal, x2, x3, x4, x5, .head stepR_block (Steps.trans x6 (.one stepR_inBlock))⟩
        | exit id' => exact (hne _ _ h).elim
        | ret => exact ⟨φ1, w1, a1, _, .ret, x2, x3, x4, x5, .of_steps (e := .ret) (k := k) (.one stepR_block) x6⟩
        | panic v v' hv => exact ⟨φ1, w1, a1, _, .panic v v' hv, x2, x3, x4, x5, .of_steps (e := .panic _) (k := k) (.one stepR_block) x6⟩
    | loop c => exact (hloop c rfl).of_steps (.one stepR_loop)
    | region id ops draw =>
      simp only [exec] at h
      cases draw with
      | false =>
        have hop := opsA_sound hE hcall (ops := ops) (l := ops.toList) (is := List.range ops.size) (by simp) (fun j i hj => by
          have := List.getElem?_eq_some_iff.1 hj
          obtain ⟨h1, h2⟩ := this
          simp at h1 h2; subst h2; simp) h hs ok hrc (b := b) (k := k)
        exact hop.of_steps (.one stepR_region)
      | true =>
        obtain ⟨h1, h2, ⟨rfl, φ', a', w', x1, x2, x3, x4, x5⟩ | ⟨v, rfl, hp⟩⟩ := drawA_sound hE hE.mixed hcall h hs ok hrc (b := b) (k := k) id
        · refine ⟨φ', w', a', _, .normal, ⟨x1, by rw [h2, x2]; exact hs.ds.mono x4.ext⟩, x3, x4, by rw [h1]; exact hrc.mono x4.ext, ?_⟩
          rw [h1]; exact x5
        · obtain ⟨φ', a', w', v', todo, x0, x1, x2, x3, x4, x5⟩ := hp.is
          refine ⟨φ', w', a', _, .panic v v' x0, ⟨x1, by rw [h2, x2]; exact hs.ds.mono x4.ext⟩, x3, x4, by rw [h1]; exact hrc.mono x4.ext, todo, ?_⟩
          rw [h1]; exact x5
    | rangeFunc f ps a1 b1 =>
      simp only [exec] at h
      exact rangeA_sound hcall h hs ok hrc hfn
    | scope c => simp [exec] at h
    | goto l => simp [exec] at h
    | refuse why => simp [exec] at h

end Go.Ab
