/-
  REMEMBERED CALLS: a run in parts. What a call comes to from a small heap is proved once; where a longer run meets that call in a heap that holds the small one, it takes what is known, and goes on from a small heap again.
-/
import Derived.Test.YtaiemlmlompmmaaGreatDoorAbEnd
namespace Go.Ab
variable {E : Env}

/-! ### A function's text, over any way to run its calls -/
noncomputable def finishA (E : Env) (call : CallF) (fuel : Nat) (fn : Func) (p : Option AV) (s : St) : COut := match unwindA (callD E call fuel) s.ds p s.h with
  | none => .fail "unwind" none
  | some (some v, h') => .panic v h'
  | some (none, h') => match resA E h' s.ts fn.results.toList with
    | some vs => .ret (tupled vs) h'
    | none => .fail "results" none
noncomputable def stepA (E : Env) (call : CallF) (fuel : Nat) (f : FuncId) (args : List AV) (h : Heap) : COut := match E.P.funcs[f]? with
  | none => .fail "no function" none
  | some fn => match fn.body with
    | none => .fail ("no body " ++ fn.name) none
    | some b => match bodyA E call fuel fn b args h .no with
      | .ok .normal s => finishA E call fuel fn none s
      | .ok .ret s => finishA E call fuel fn none s
      | .ok (.panic v) s => finishA E call fuel fn (some v) s
      | .ok (.exit _) _ => .fail "exit" none
      | .fail why o => .fail (why ++ " in " ++ fn.name) o

theorem stepA_sound (hE : EnvOK E) (fuel : Nat) {call : CallF} (ih : CallOK E call) : (∀ f args h v h', stepA E call fuel f args h = .ret v h' → RetOK E f args h v h') ∧ (∀ f args h v h', stepA E call fuel f args h = .panic v h' → PanOK E f args h v h') := by
  -- what a call that does not fail is made of
  have key : ∀ (f : FuncId) (args : List AV) (h : Heap) (out : COut), stepA E call fuel f args h = out → (∀ why q, out ≠ .fail why q) →
      ∃ fn c e s p, E.P.funcs[f]? = some fn ∧ fn.body = some c ∧ bodyA E call fuel fn c args h .no = .ok e s ∧
        ((p = none ∧ (e = .normal ∨ e = .ret)) ∨ ∃ v, p = some v ∧ e = .panic v) ∧
        ((∃ v h', out = .panic v h' ∧ unwindA (callD E call fuel) s.ds p s.h = some (some v, h')) ∨
         ∃ vs h', out = .ret (tupled vs) h' ∧ unwindA (callD E call fuel) s.ds p s.h = some (none, h') ∧ resA E h' s.ts fn.results.toList = some vs) := by
    intro f args h out e hne
    unfold stepA at e
    split at e
    · exact absurd e.symm (hne _ _)
    rename_i fn hf
    split at e
    · exact absurd e.symm (hne _ _)
    rename_i c hb
    have fin : ∀ (p : Option AV) (s : St), finishA E call fuel fn p s = out →
        ((∃ v h', out = .panic v h' ∧ unwindA (callD E call fuel) s.ds p s.h = some (some v, h')) ∨
         ∃ vs h', out = .ret (tupled vs) h' ∧ unwindA (callD E call fuel) s.ds p s.h = some (none, h') ∧ resA E h' s.ts fn.results.toList = some vs) := by
      intro p s hm
      unfold finishA at hm
      split at hm
      · exact absurd hm.symm (hne _ _)
      · rename_i v h' hu; exact .inl ⟨v, h', hm.symm, hu⟩
      · rename_i h' hu
        split at hm
        · rename_i vs hv; exact .inr ⟨vs, h', hm.symm, hu, hv⟩
        · exact absurd hm.symm (hne _ _)
    split at e
    · rename_i s hbody; exact ⟨fn, c, _, s, none, hf, hb, hbody, .inl ⟨rfl, .inl rfl⟩, fin none s e⟩
    · rename_i s hbody; exact ⟨fn, c, _, s, none, hf, hb, hbody, .inl ⟨rfl, .inr rfl⟩, fin none s e⟩
    · rename_i v s hbody; exact ⟨fn, c, _, s, some v, hf, hb, hbody, .inr ⟨v, rfl, rfl⟩, fin (some v) s e⟩
    · exact absurd e.symm (hne _ _)
    · exact absurd e.symm (hne _ _)
  -- the frame at its end
  have run : ∀ (f : FuncId) (fn : Func) (c : Code) (args : List AV) (h : Heap) (e : AEx) (s : St) (p p' : Option AV) (h' : Heap), E.P.funcs[f]? = some fn → fn.body = some c → bodyA E call fuel fn c args h .no = .ok e s →
      ((p = none ∧ (e = .normal ∨ e = .ret)) ∨ ∃ v, p = some v ∧ e = .panic v) → unwindA (callD E call fuel) s.ds p s.h = some (p', h') →
      ∀ (φ : Ph) (w : World) (vs : List Value), OK E φ h w → LR φ args vs → ∀ cs, ∃ φ' w' m' tmps todo, OK E φ' h' w' ∧ Fr φ h w φ' h' w' ∧ LR φ' s.ts tmps.toList ∧
        ((p' = none ∧ m' = .returning) ∨ ∃ v v', p' = some v ∧ VR φ' v v' ∧ m' = .panicking [{ v := v', recovered := false }]) ∧
        Steps E.P (lone (Frame.enter E.P f vs.toArray .normal) cs w) (lone { (bare f .normal).atR { tmps, defers := [] } todo with mode := m' } cs w') := by
    intro f fn c args h e s p p' h' hf hb hbody hp hu φ w vs ok hl cs
    obtain ⟨φ1, w1, a1, e1, x1, x2, x3, x4, x5, x6⟩ := (bodyA_sound hE ih hf hb hbody ok hl (kind := .normal) (K := fun _ => cs) ⟨rfl, fun fr hk => by simp [tryRecover, show fr.kind = .normal from hk]⟩).is
    have hcur : cur (fun _ => cs) s.rc = cs := by cases s.rc <;> rfl
    have hcur0 : cur (fun _ => cs) RC.no = cs := rfl
    rw [hcur] at x6
    rw [hcur0] at x6
    -- to the frame's leaving
    have hm : ∃ todo m, ((p = none ∧ m = .returning) ∨ ∃ v v', p = some v ∧ VR φ1 v v' ∧ m = .panicking [{ v := v', recovered := false }]) ∧
        Steps E.P (lone (Frame.enter E.P f vs.toArray .normal) cs w) (lone { (bare f .normal).atR a1 todo with mode := m } cs w1) := by
      rcases hp with ⟨rfl, rfl | rfl⟩ | ⟨v, rfl, rfl⟩
      · cases x1; exact ⟨[], .returning, .inl ⟨rfl, rfl⟩, Steps.trans x6 (.one (stepR_end rfl))⟩
      · cases x1; obtain ⟨todo, hs⟩ := x6; exact ⟨_, .returning, .inl ⟨rfl, rfl⟩, Steps.trans hs (.one (stepR_ret rfl))⟩
      · cases x1 with
        | panic _ v' hv => obtain ⟨todo, hs⟩ := x6; exact ⟨todo, _, .inr ⟨v, v', rfl, hv, rfl⟩, hs⟩
    obtain ⟨todo, m, hmp, hs1⟩ := hm
    obtain ⟨φ2, w2, m2, ok2, f2, hp2, hs2⟩ := unwind_sound hE ih s.ds hu (fr := { (bare f .normal).atR a1 todo with mode := m }) (cs := cs) x3 x2.ds (by
      rcases hmp with ⟨e, em⟩ | ⟨v, v', e, hv, em⟩
      · exact .inl ⟨e, em⟩
      · exact .inr ⟨v, v', e, hv, em⟩)
    exact ⟨φ2, w2, m2, a1.tmps, todo, ok2, x4.trans f2, x2.ts.mono f2.ext, hp2, Steps.trans hs1 hs2⟩
  refine ⟨fun f args h v h' e => ?_, fun f args h v h' e => ?_⟩
  · obtain ⟨fn, c, e1, s, p, hf, hb, hbody, hp, hout⟩ := key f args h _ e (by simp)
    rcases hout with ⟨v1, h1, he, _⟩ | ⟨vs1, h1, he, hu, hres⟩
    · simp at he
    · simp at he; obtain ⟨rfl, rfl⟩ := he
      intro φ w vs ok hl
      refine ⟨enters hE hf hb _ w, fun cs => ?_⟩
      obtain ⟨φ', w', m', tmps, todo, ok', fr, ht, hm, hs⟩ := run f fn c args h e1 s p none h' hf hb hbody hp hu φ w vs ok hl cs
      obtain ⟨v', hv, hrun⟩ := results_run ok' ht hres
      rcases hm with ⟨_, rfl⟩ | ⟨v, v'', e, _⟩
      · exact ⟨φ', w', v', _, hv, ok', fr, hs, rfl, rfl, rfl, rfl, fn, hf, hrun⟩
      · simp at e
  · obtain ⟨fn, c, e1, s, p, hf, hb, hbody, hp, hout⟩ := key f args h _ e (by simp)
    rcases hout with ⟨v1, h1, he, hu⟩ | ⟨vs1, h1, he, _⟩
    · simp at he; obtain ⟨rfl, rfl⟩ := he
      intro φ w vs ok hl
      refine ⟨enters hE hf hb _ w, fun cs => ?_⟩
      obtain ⟨φ', w', m', tmps, todo, ok', fr, ht, hm, hs⟩ := run f fn c args h e1 s p (some v) h' hf hb hbody hp hu φ w vs ok hl cs
      rcases hm with ⟨e, _⟩ | ⟨v2, v', e, hv, rfl⟩
      · simp at e
      · simp at e; subst e
        exact ⟨φ', w', v', _, hv, ok', fr, hs, rfl, rfl, rfl, fn, hf⟩
    · simp at he

namespace Fa
theorem CallLe.refl (call : CallF) : CallLe call call := fun _ _ _ => ⟨fun _ _ e => e, fun _ _ e => e⟩
theorem stepA_of (call : CallF) (fuel : Nat) {f : FuncId} {fn : Func} {b : Code} (hf : E.P.funcs[f]? = some fn) (hb : fn.body = some b) (args : List AV) (h : Heap) :
    stepA E call fuel f args h = (match bodyA E call fuel fn b args h .no with
      | .ok .normal s => finA E call fuel fn none s
      | .ok .ret s => finA E call fuel fn none s
      | .ok (.panic v) s => finA E call fuel fn (some v) s
      | .ok (.exit _) _ => .fail "exit" none
      | .fail why o => .fail (why ++ " in " ++ fn.name) o) := by
  unfold stepA
  simp only [hf, hb]
  rfl
/-- a fast call of a function's text is what the plain one is -/
theorem callS_fn {call : CallF} {fuel : Nat} {f : FuncId} {args : List AV} {h : Heap} {out : COut} (ho : ∀ why o, out ≠ .fail why o) (e0 : callS E fuel call (.fn f) args h = out) : stepA E call fuel f args h = out := by
  have ih := CallLe.refl call
  have e : bo (fun res h' y => lcase (ob (.fail "results" none) (fun vs => COut.ret (tupled vs) h') (res h')) (finK E call fuel none res h' y.ds) y.ds)
    (fun v res h' y => lcase (.panic v h') (finK E call fuel (some v) res h' y.ds) y.ds) (.fail "body" none) ((compF E f).run fuel call args h .no) = out := e0
  rcases compF_ok (E := E) ih f fuel args h .no with h1 | ⟨fn, b, h1, h2, h3⟩
  · rw [h1] at e; exact absurd e.symm (ho _ _)
  · rw [stepA_of call fuel h1 h2]
    cases hr : (compF E f).run fuel call args h .no with
    | bad => rw [hr] at e; exact absurd e.symm (ho _ _)
    | fin res h' y =>
      rw [hr] at e h3
      obtain ⟨x, ts, h4, h5, h6⟩ := h3
      have := finK_le (E := E) ih (fn := fn) (p := none) h6 ho e
      rw [h5]
      rcases h4 with rfl | rfl <;> exact this
    | pan v res h' y =>
      rw [hr] at e h3
      obtain ⟨ts, h5, h6⟩ := h3
      have := finK_le (E := E) ih (fn := fn) (p := some v) h6 ho e
      rw [h5]; exact this

/-- a round of a range over a function, run fast -/
theorem callS_yld (hE : EnvOK E) {call : CallF} (hc : CallOK E call) {fuel l : Nat} {args : List AV} {h : Heap} {v : AV} {h' : Heap} :
    (callS E fuel call (.yld l) args h = .ret v h' → RetOK' E (.yld l) args h v h') ∧ (callS E fuel call (.yld l) args h = .panic v h' → PanOK' E (.yld l) args h v h') := by
  have hk := roundK_le (E := E) (CallLe.refl call) fuel l args h
  refine ⟨fun e => ?_, fun e => ?_⟩
  · have e1 := hk.1 v h' e
    intro φ w vs ok hf hl
    obtain ⟨ll, hφ⟩ := hf
    obtain ⟨f, tmps, assign, body, hy, hrun⟩ := roundA_key hE hc e1 (by simp) ok hφ hl
    exact ⟨_, _, .yld l ll hφ vs f tmps assign body hy, fun c cs => (hrun c cs).1 v h' rfl⟩
  · have e1 := hk.2 v h' e
    intro φ w vs ok hf hl
    obtain ⟨ll, hφ⟩ := hf
    obtain ⟨f, tmps, assign, body, hy, hrun⟩ := roundA_key hE hc e1 (by simp) ok hφ hl
    exact ⟨_, _, .yld l ll hφ vs f tmps assign body hy, fun c cs => (hrun c cs).2 v h' rfl⟩

/-! ### The run that remembers -/
abbrev Memo := FuncId → List AV → Heap → Option (AV × Heap)
noncomputable def callMS (E : Env) (M : Memo) (fuel : Nat) (call : CallF) (g : Fn) (args : List AV) (h : Heap) : COut :=
  fFn (fun f => ob (callS E fuel call g args h) (fun p => .ret p.1 p.2) (M f args h)) (fun _ => callS E fuel call g args h) g
noncomputable def callM (E : Env) (M : Memo) (d fuel : Nat) : CallF := Nat.rec (motive := fun _ => CallF) (fun _ _ _ => .fail "depth" none) (fun _ ih => callMS E M fuel ih) d
def MemoOK (E : Env) (M : Memo) : Prop := ∀ f args h v h', M f args h = some (v, h') → RetOK E f args h v h'

theorem callM_fn (hE : EnvOK E) {M : Memo} (hM : MemoOK E M) {fuel d : Nat} (ih : CallOK E (callM E M d fuel)) {f : FuncId} {args : List AV} {h : Heap} {v : AV} {h' : Heap} :
    (callM E M (d + 1) fuel (.fn f) args h = .ret v h' → RetOK E f args h v h') ∧ (callM E M (d + 1) fuel (.fn f) args h = .panic v h' → PanOK E f args h v h') := by
  have hs := stepA_sound hE fuel ih
  have e0 : callM E M (d + 1) fuel (.fn f) args h = ob (callS E fuel (callM E M d fuel) (.fn f) args h) (fun p => .ret p.1 p.2) (M f args h) := rfl
  rw [e0]
  cases hm : M f args h with
  | none => exact ⟨fun e => hs.1 _ _ _ _ _ (callS_fn (by simp) e), fun e => hs.2 _ _ _ _ _ (callS_fn (by simp) e)⟩
  | some p =>
    refine ⟨fun e => ?_, fun e => by cases e⟩
    have e : COut.ret p.1 p.2 = .ret v h' := e
    simp only [COut.ret.injEq] at e
    obtain ⟨rfl, rfl⟩ := e
    exact hM _ _ _ _ _ hm
theorem callM_sound (hE : EnvOK E) {M : Memo} (hM : MemoOK E M) (fuel : Nat) : ∀ d, CallOK E (callM E M d fuel)
  | 0 => ⟨fun f args h v h' e => (by cases e), fun f args h v h' e => (by cases e)⟩
  | d + 1 => by
    have ih := callM_sound hE hM fuel d
    refine ⟨fun F args h v h' e => ?_, fun F args h v h' e => ?_⟩
    · cases F with
      | fn f => exact ((callM_fn hE hM ih).1 e).any
      | yld l => exact (callS_yld hE ih).1 e
    · cases F with
      | fn f => exact ((callM_fn hE hM ih).2 e).any
      | yld l => exact (callS_yld hE ih).2 e
theorem callM_ret (hE : EnvOK E) {M : Memo} (hM : MemoOK E M) {fuel d : Nat} {f : FuncId} {args : List AV} {h : Heap} {v : AV} {h' : Heap} (e : callM E M d fuel (.fn f) args h = .ret v h') : RetOK E f args h v h' := by
  cases d with
  | zero => cases e
  | succ d => exact (callM_fn hE hM (callM_sound hE hM fuel d)).1 e

/-! ### Heaps that hold less -/
def Sub (k h : Heap) : Prop := k.nx = h.nx ∧ ∀ i o, k.get i = some o → h.get i = some o
theorem _root_.Go.Ab.OK.sub {φ : Ph} {k h : Heap} {w : World} (hs : Sub k h) (ok : OK E φ h w) : OK E φ k w where
  dom i l e := by rw [hs.1]; exact ok.dom i l e
  nx := by rw [hs.1]; exact ok.nx
  top := by rw [hs.1]; exact ok.top
  glob := ok.glob
  live i o l a b := ok.live i o l (hs.2 i o a) b
  inj i j o p l m a b c d e := ok.inj i j o p l m (hs.2 i o a) (hs.2 j p b) c d e
theorem _root_.Go.Ab.Fr.sub {φ φ' : Ph} {k h k' h' : Heap} {w w' : World} (hs : Sub k h) (hs' : Sub k' h') (f : Fr φ k w φ' h' w') : Fr φ h w φ' k' w' where
  ext := f.ext
  old i hi := f.old i (by rw [hs.1]; exact hi)
  nx := by rw [← hs.1, hs'.1]; exact f.nx
  os := f.os
  tape := f.tape
  output := f.output
  size := f.size
  keep b hb hn := f.keep b hb fun i o l a => hn i o l (hs.2 i o a)
  own i o l a b c := by
    rcases f.own i o l (hs'.2 i o a) b c with h1 | ⟨j, p, m, q1, q2, q3, q4⟩
    · exact .inl h1
    · exact .inr ⟨j, p, m, hs.2 j p q1, q2, q3, q4⟩
/-- what a call comes to from a small heap, it comes to from a great one -/
theorem _root_.Go.Ab.RetOK.sub {f : FuncId} {args : List AV} {k h k' h' : Heap} {v : AV} (hs : Sub k h) (hs' : Sub k' h') (r : RetOK E f args k v h') : RetOK E f args h v k' := fun φ w vs ok hl => by
  obtain ⟨h1, h2⟩ := r φ w vs (ok.sub hs) hl
  refine ⟨h1, fun cs => ?_⟩
  obtain ⟨φ', w', v', fr, x1, x2, x3, x4⟩ := h2 cs
  exact ⟨φ', w', v', fr, x1, x2.sub hs', Fr.sub hs hs' x3, x4⟩
theorem Sub.refl (h : Heap) : Sub h h := ⟨rfl, fun _ _ e => e⟩

/-! ### Heaps as lists -/
noncomputable def treeL (l : List (Nat × AObj)) : HT := List.rec (motive := fun _ => HT) HT.nil (fun x _ t => (hp x.1).put (some x.2) t) l
noncomputable def heapL (nx : Nat) (l : List (Nat × AObj)) : Heap := ⟨treeL l, nx⟩
theorem heapL_get {nx : Nat} : ∀ {l : List (Nat × AObj)} {i : Nat} {o : AObj}, (heapL nx l).get i = some o → (i, o) ∈ l
  | [], i, o, e => by
    have e : (Heap.mk HT.nil nx).get i = some o := e
    by_cases hi : i < 2 ^ depth
    · have : (hp i).get HT.nil = some o := e
      rw [hp_get hi, hi_get, lo_get] at this
      simp only [HT.nil, sel_all] at this
      cases this
    · unfold Heap.get at e; rw [hp_out hi] at e; cases e
  | x :: xs, i, o, e => by
    have e : ((heapL nx xs).put x.1 (some x.2)).get i = some o := e
    by_cases hx : x.1 < 2 ^ depth
    · by_cases h : x.1 = i
      · subst h
        rw [Heap.get_put_same hx] at e
        cases e; simp
      · rw [Heap.get_put_other hx h] at e
        exact List.mem_cons_of_mem _ (heapL_get e)
    · have : ((heapL nx xs).put x.1 (some x.2)).get i = (heapL nx xs).get i := by
        show (hp i).get ((hp x.1).put (some x.2) (treeL xs)) = (hp i).get (treeL xs)
        rw [hp_out hx]
      rw [this] at e
      exact List.mem_cons_of_mem _ (heapL_get e)

/-! ### Sameness of objects -/
def sameE (x y : AEntry) : Bool := AV.same 20 x.key y.key && AV.same 20 x.val y.val && Nat.beq x.born y.born
theorem sameE_eq {x y : AEntry} (h : sameE x y = true) : x = y := by
  simp only [sameE, Bool.and_eq_true] at h
  obtain ⟨⟨h1, h2⟩, h3⟩ := h
  cases x; cases y
  simp only [AEntry.mk.injEq]
  exact ⟨AV.same_eq _ _ _ h1, AV.same_eq _ _ _ h2, Nat.eq_of_beq_eq_true h3⟩
def sameO : AObj → AObj → Bool
  | .cells a e r, .cells b f q => listAll2 (AV.same 20) a b && Nat.beq e f && (r == q)
  | .map a c, .map b d => listAll2 sameE a b && Nat.beq c d
  | .siter s p, .siter t q => s == t && Nat.beq p q
  | .miter none a b c, .miter none d e f => Nat.beq a d && b == e && Nat.beq c f
  | .miter (some m) a b c, .miter (some n) d e f => Nat.beq m n && Nat.beq a d && b == e && Nat.beq c f
  | .defd, .defd => true
  | _, _ => false
theorem sameO_eq {x y : AObj} (h : sameO x y = true) : x = y := by
  unfold sameO at h
  split at h
  · simp only [Bool.and_eq_true, beq_iff_eq] at h
    obtain ⟨⟨h1, h2⟩, rfl⟩ := h
    rw [listAll2_eq (AV.same_eq 20) h1, Nat.eq_of_beq_eq_true h2]
  · simp only [Bool.and_eq_true] at h
    rw [listAll2_eq (fun _ _ => sameE_eq) h.1, Nat.eq_of_beq_eq_true h.2]
  · simp only [Bool.and_eq_true, beq_iff_eq] at h
    obtain ⟨rfl, h2⟩ := h
    rw [Nat.eq_of_beq_eq_true h2]
  · simp only [Bool.and_eq_true, beq_iff_eq] at h
    obtain ⟨⟨h1, rfl⟩, h2⟩ := h
    rw [Nat.eq_of_beq_eq_true h1, Nat.eq_of_beq_eq_true h2]
  · simp only [Bool.and_eq_true, beq_iff_eq] at h
    obtain ⟨⟨⟨h0, h1⟩, rfl⟩, h2⟩ := h
    rw [Nat.eq_of_beq_eq_true h0, Nat.eq_of_beq_eq_true h1, Nat.eq_of_beq_eq_true h2]
  · rfl
  · cases h

/-- does a heap hold all of a list? -/
noncomputable def holdsL (h : Heap) (l : List (Nat × AObj)) : Bool := List.rec (motive := fun _ => Bool) true (fun x _ r => bc (ob false (fun o => sameO o x.2) (h.get x.1)) r false) l
theorem bc_both {b : Bool} {x : Bool} (h : bc b x false = true) : b = true ∧ x = true := by
  rw [bc_eq] at h
  cases b
  · cases h
  · exact ⟨rfl, h⟩
theorem holdsL_get {h : Heap} : ∀ {l : List (Nat × AObj)} (_ : holdsL h l = true) {i : Nat} {o : AObj}, (i, o) ∈ l → h.get i = some o
  | [], _, _, _, hm => by cases hm
  | x :: xs, e, i, o, hm => by
    have e : bc (ob false (fun o => sameO o x.2) (h.get x.1)) (holdsL h xs) false = true := e
    obtain ⟨e1, e2⟩ := bc_both e
    rcases List.mem_cons.1 hm with rfl | hm
    · cases hg : h.get i with
      | none => rw [hg] at e1; cases e1
      | some o' => rw [hg] at e1; rw [sameO_eq (show sameO o' o = true from e1)]
    · exact holdsL_get e2 hm
theorem Sub.of_holds {h : Heap} {nx : Nat} {l : List (Nat × AObj)} (hn : Nat.beq h.nx nx = true) (hl : holdsL h l = true) : Sub (heapL nx l) h :=
  ⟨(Nat.eq_of_beq_eq_true hn).symm, fun _ _ e => holdsL_get hl (heapL_get e)⟩

/-! ### What is remembered, as text -/
structure Ent where
  f : FuncId
  args : List AV
  nx : Nat
  K : List (Nat × AObj)
  v : AV
  nx' : Nat
  K' : List (Nat × AObj)
def EntOK (E : Env) (e : Ent) : Prop := RetOK E e.f e.args (heapL e.nx e.K) e.v (heapL e.nx' e.K')
noncomputable def memoL (l : List Ent) : Memo := fun f args h => List.rec (motive := fun _ => Option (AV × Heap)) none
  (fun e _ r => bc (Nat.beq f e.f) (bc (Nat.beq h.nx e.nx) (bc (listAll2 (AV.same 20) args e.args) (bc (holdsL h e.K) (some (e.v, heapL e.nx' e.K')) r) r) r) r) l
theorem memoL_OK : ∀ {l : List Ent} (_ : ∀ e ∈ l, EntOK E e), MemoOK E (memoL l)
  | [], _, f, args, h, v, h', e => by cases e
  | x :: xs, hl, f, args, h, v, h', e => by
    have ih := memoL_OK (l := xs) (fun e he => hl e (by simp [he])) f args h v h'
    have e : bc (Nat.beq f x.f) (bc (Nat.beq h.nx x.nx) (bc (listAll2 (AV.same 20) args x.args) (bc (holdsL h x.K) (some (x.v, heapL x.nx' x.K')) (memoL xs f args h)) (memoL xs f args h)) (memoL xs f args h)) (memoL xs f args h) = some (v, h') := e
    cases h1 : Nat.beq f x.f with
    | false => rw [h1] at e; exact ih e
    | true =>
    cases h2 : Nat.beq h.nx x.nx with
    | false => rw [h1, h2] at e; exact ih e
    | true =>
    cases h3 : listAll2 (AV.same 20) args x.args with
    | false => rw [h1, h2, h3] at e; exact ih e
    | true =>
    cases h4 : holdsL h x.K with
    | false => rw [h1, h2, h3, h4] at e; exact ih e
    | true =>
    rw [h1, h2, h3, h4] at e
    have e : some (x.v, heapL x.nx' x.K') = some (v, h') := e
    simp only [Option.some.injEq, Prod.mk.injEq] at e
    obtain ⟨rfl, rfl⟩ := e
    obtain rfl := Nat.eq_of_beq_eq_true h1
    obtain rfl := listAll2_eq (AV.same_eq 20) h3
    exact RetOK.sub (Sub.of_holds h2 h4) (Sub.refl _) (hl x (by simp))

/-- a part of a run: what the kernel checks -/
noncomputable def partOK (E : Env) (l : List Ent) (d fuel : Nat) (e : Ent) : Bool :=
  COut.rec (motive := fun _ => Bool) (fun v h => bc (Nat.beq h.nx e.nx') (bc (AV.same 20 v e.v) (holdsL h e.K') false) false) (fun _ _ => false) (fun _ _ => false) (callM E (memoL l) d fuel (.fn e.f) e.args (heapL e.nx e.K))
theorem EntOK.of_part (hE : EnvOK E) {l : List Ent} (hl : ∀ e ∈ l, EntOK E e) {d fuel : Nat} {e : Ent} (h : partOK E l d fuel e = true) : EntOK E e := by
  unfold partOK at h
  cases hr : callM E (memoL l) d fuel (.fn e.f) e.args (heapL e.nx e.K) with
  | panic v h1 => rw [hr] at h; cases h
  | fail w o => rw [hr] at h; cases h
  | ret v h1 =>
    rw [hr] at h
    obtain ⟨h2, h⟩ := bc_both (show bc (Nat.beq h1.nx e.nx') (bc (AV.same 20 v e.v) (holdsL h1 e.K') false) false = true from h)
    obtain ⟨h3, h4⟩ := bc_both h
    obtain rfl := AV.same_eq _ _ _ h3
    exact RetOK.sub (Sub.refl _) (Sub.of_holds h2 h4) (callM_ret hE (memoL_OK hl) hr)
/-- A CLOSED RUN IN PARTS, in the library's own words: true, and all that lay before is as it was. -/
theorem closed_parts (hE : EnvOK E) {m : List Ent} (hm : ∀ e ∈ m, EntOK E e) {fuel d : Nat} {f : FuncId} {l : List Tab} {w : World} (hG : E.G ≤ 2 ^ depth) (hl : ∀ x ∈ l, x.g < E.G ∧ TabOK w x) (e : endsTrue (callM E (memoL m) d fuel (.fn f) [] (heapOf E.G l)) = true) :
    Calls E.P f #[] w fun en w' => en = .returned (.bool true) ∧ w.keptBut w' (fun _ => False) := by
  obtain ⟨h', e1⟩ := endsTrue_of e
  have hd : ∀ x ∈ l, x.g < 2 ^ depth := fun x hx => Nat.lt_of_lt_of_le (hl x hx).1 hG
  intro cs
  obtain ⟨_, hst⟩ := callM_ret hE (memoL_OK hm) e1 _ w [] (OK.begin hG hl) (LR.nil _)
  obtain ⟨φ', w', v', fr, hv, _, hfr, h1, h2, h3⟩ := hst cs
  cases hv
  refine ⟨.returned (.bool true), w', fr, ⟨rfl, hfr.os, hfr.output, fun i hi => ?_⟩, h1, h2, h3⟩
  rw [hfr.keep i hi (fun j o l' q1 q2 _ => by
    obtain ⟨x, _, _, rfl⟩ := heapOf_get hd q1
    cases q2)]
  cases w.heap[i]? with
  | none => rfl
  | some o => cases o with
    | cells c t fz => exact ⟨rfl, rfl, rfl, fun _ _ => rfl⟩
    | map es c => exact .inr ⟨rfl, rfl⟩
    | _ => rfl
end Fa
end Go.Ab
