/-
  A FAST RUN: text, functions and calls; the end: what the fast run returns, the abstract evaluator returns.
-/
import Derived.Test.YtaiemlmlompmmaaGreatDoorAbFj
namespace Go.Ab.Fa
variable {E : Env} {F : RF} {n : Nat}

/-! ### Text -/
theorem rangeA_mono {fc call : CallF} (hle : CallLe fc call) {f : Operand} {ps : Array Tmp} {as bd : Code} {s : St} {e : AEx} {s' : St} (h : rangeA E fc f ps as bd s = .ok e s') : rangeA E call f ps as bd s = .ok e s' := by
  unfold rangeA at h ⊢
  split at h
  case h_2 => cases h
  rename_i g first captured hv
  split at h
  case h_2 => cases h
  rename_i dn h1 ds1 ho
  split at h
  case h_2 => cases h
  rename_i h2 hn
  cases hc : fc (.fn g) (first ++ [.yieldF h1.nx] ++ captured) h2 with
  | ret v h3 => rw [hc] at h; rw [(hle _ _ _).1 _ _ hc]; exact h
  | panic v h3 => rw [hc] at h; rw [(hle _ _ _).2 _ _ hc]; exact h
  | fail why q => rw [hc] at h; cases h
theorem rangeA_ts {call : CallF} {f : Operand} {ps : Array Tmp} {as bd : Code} {s : St} {e : AEx} {s' : St} (h : rangeA E call f ps as bd s = .ok e s') : s'.ts = s.ts := by
  unfold rangeA at h
  split at h
  case h_2 => cases h
  split at h
  case h_2 => cases h
  split at h
  case h_2 => cases h
  split at h
  · split at h
    · cases h
    · split at h
      · simp only [Out.ok.injEq] at h; rw [← h.2]
      · cases h
    · cases h
  · simp only [Out.ok.injEq] at h; rw [← h.2]
  · cases h
theorem fo_seq {o : FO F.T} {out : Out} (h : FOk E F n o out) {k : F.T → Heap → Y → FO F.T} {g : St → Out} (hk : ∀ r h y, FOk E F n (k r h y) (g ⟨toL F n r, h, y.ds, y.rc⟩)) :
    FOk E F n (fo k .jmp .bad o) (match (generalizing := false) out with | .ok .normal s' => g s' | r => r) := by
  cases o with
  | nrm r h' y => rw [show out = _ from h]; exact hk r h' y
  | jmp e r h' y =>
    obtain ⟨h1, h2⟩ := h
    rw [h2]
    cases e with
    | normal => exact absurd rfl h1
    | _ => exact ⟨by simp, rfl⟩
  | bad => trivial
theorem compC_ok (hn : n ≤ F.N) {fc call : CallF} (hle : CallLe fc call) : ∀ (c : Code) (m : Nat) (r : F.T) (h : Heap) (y : Y),
    FOk E F n ((compC E F n c).run m fc r h y) (exec E call m c ⟨toL F n r, h, y.ds, y.rc⟩)
  | .skip, m, r, h, y => by cases m with
    | zero => trivial
    | succ m => exact rfl
  | .label _, m, r, h, y => by cases m with
    | zero => trivial
    | succ m => exact rfl
  | .ret, m, r, h, y => by cases m with
    | zero => trivial
    | succ m => exact ⟨by simp, rfl⟩
  | .exit id, m, r, h, y => by cases m with
    | zero => trivial
    | succ m => exact ⟨by simp, rfl⟩
  | .region _ ops draw, m, r, h, y => by
    cases m with
    | zero => cases draw <;> trivial
    | succ m => cases draw with
      | true => exact drawK_ok hn hle ops r h y
      | false => exact compOps_ok hn hle ops ops.toList r h y
  | .seq a b, m, r, h, y => by cases m with
    | zero => trivial
    | succ m =>
      have h1 := compC_ok hn hle a m r h y
      have h2 := compC_ok hn hle b m
      exact fo_seq h1 (g := fun s' => exec E call m b s') h2
  | .cond x a b, m, r, h, y => by
    have ha := compC_ok hn hle a
    have hb := compC_ok hn hle b
    show FOk E F n (C.run (wO E F n x (fun g => ⟨fun m call r h y => nS .bad (fun i => vBool (fun t => bc t ((compC E F n a).run i call r h y) ((compC E F n b).run i call r h y)) .bad (g r)) m⟩) ⟨fun _ _ _ _ _ => .bad⟩) m fc r h y) _
    rcases wO_spec E F n x (fun g => (⟨fun m call r h y => nS .bad (fun i => vBool (fun t => bc t ((compC E F n a).run i call r h y) ((compC E F n b).run i call r h y)) .bad (g r)) m⟩ : C F.T)) ⟨fun _ _ _ _ _ => .bad⟩ with hw | ⟨g, hw, hg⟩ <;> rw [hw]
    · trivial
    cases m with
    | zero => trivial
    | succ m =>
      show FOk E F n (vBool (fun t => bc t ((compC E F n a).run m fc r h y) ((compC E F n b).run m fc r h y)) .bad (g r)) _
      rw [exec]
      simp only [hg]
      cases g r with
      | bool t => cases t with
        | true => exact ha m r h y
        | false => exact hb m r h y
      | _ => trivial
  | .block id b, m, r, h, y => by cases m with
    | zero => trivial
    | succ m =>
      have hb := compC_ok hn hle b m r h y
      show FOk E F n (fo .nrm (fun e r' h' y' => exitId (fun j => bc (Nat.beq j id) (.nrm r' h' y') (.jmp e r' h' y')) (.jmp e r' h' y') e) .bad ((compC E F n b).run m fc r h y)) _
      rw [exec]
      cases hr : (compC E F n b).run m fc r h y with
      | bad => trivial
      | nrm r' h' y' =>
        rw [hr] at hb
        have hb : exec E call m b _ = .ok .normal ⟨toL F n r', h', y'.ds, y'.rc⟩ := hb
        rw [hb]; exact rfl
      | jmp e r' h' y' =>
        rw [hr] at hb
        obtain ⟨h1, h2⟩ := hb
        rw [h2]
        cases e with
        | normal => exact absurd rfl h1
        | exit j =>
          show FOk E F n (bc (Nat.beq j id) (.nrm r' h' y') (.jmp (.exit j) r' h' y')) (if j = id then _ else _)
          cases hj : Nat.beq j id with
          | true => rw [if_pos (beq_of hj)]; exact rfl
          | false => rw [if_neg (by intro e; rw [e, Nat.beq_refl] at hj; cases hj)]; exact ⟨by simp, rfl⟩
        | ret => exact ⟨by simp, rfl⟩
        | panic v => exact ⟨by simp, rfl⟩
  | .loop b, m, r, h, y => by
    have hb := compC_ok hn hle b
    show FOk E F n (loopR (compC E F n b) m fc r h y) _
    induction m generalizing r h y with
    | zero => trivial
    | succ m ih =>
      show FOk E F n (fo (fun r' h' y' => loopR (compC E F n b) m fc r' h' y') .jmp .bad ((compC E F n b).run m fc r h y)) _
      exact fo_seq (hb m r h y) (g := fun s' => exec E call m (.loop b) s') ih
  | .rangeFunc f ps as bd, m, r, h, y => by
    show FOk E F n ((regK (rangeK E F n f ps as bd)).run m fc r h y) _
    cases m with
    | zero => trivial
    | succ m =>
      show FOk E F n ((rangeK E F n f ps as bd).run fc r h y) (rangeA E call f ps as bd ⟨toL F n r, h, y.ds, y.rc⟩)
      unfold rangeK
      rcases wO_spec E F n f (fun _ => (⟨fun call r h y => ofOut r (rangeA E call f ps as bd ⟨toL F n r, h, y.ds, y.rc⟩)⟩ : I F.T)) ⟨fun _ _ _ _ => .bad⟩ with hw | ⟨g, hw, _⟩ <;> rw [hw]
      · trivial
      simp only
      cases hr : rangeA E fc f ps as bd ⟨toL F n r, h, y.ds, y.rc⟩ with
      | fail _ _ => trivial
      | ok e s =>
        rw [rangeA_mono hle hr]
        have ht := rangeA_ts hr
        obtain ⟨ts, hh, ds, rc⟩ := s
        simp only at ht
        subst ht
        cases e with
        | normal => exact rfl
        | _ => exact ⟨by simp, rfl⟩
  | .scope _, m, r, h, y => trivial
  | .goto _, m, r, h, y => trivial
  | .refuse _, m, r, h, y => trivial

/-! ### Functions -/
theorem resK_ok : ∀ (l : List ResultVar) (r : F.T) (h : Heap) (vs : List AV), (resK E F n l).f r h = some vs → resA E h (toL F n r) l = some vs
  | [], r, h, vs, e => e
  | .tmp t :: rest, r, h, vs, e => by
    rw [resK] at e
    obtain ⟨g, h1, h2⟩ := wT_spec F n t (fun g => wW (resK E F n rest) fun k => (⟨fun r h => ob none (fun vs => some (g r :: vs)) (k r h)⟩ : W (F.T → Heap → Option (List AV))))
    rw [h1] at e
    obtain ⟨vs', h3, h4⟩ := ob_opt (show ob none (fun vs => some (g r :: vs)) ((resK E F n rest).f r h) = some vs from e)
    rw [resA]
    simp only [h2, resK_ok rest r h vs' h3]
    exact h4
  | .cell a t :: rest, r, h, vs, e => by
    rw [resK] at e
    obtain ⟨g, h1, h2⟩ := wT_spec F n a (fun g => wW (resK E F n rest) fun k => (⟨fun r h => ob none (fun v => ob none (fun vs => some (v :: vs)) (k r h)) (loadA E h t (g r))⟩ : W (F.T → Heap → Option (List AV))))
    rw [h1] at e
    obtain ⟨v, h3, h4⟩ := ob_opt (show ob none (fun v => ob none (fun vs => some (v :: vs)) ((resK E F n rest).f r h)) (loadA E h t (g r)) = some vs from e)
    obtain ⟨vs', h5, h6⟩ := ob_opt h4
    rw [resA]
    simp only [h2, h3, resK_ok rest r h vs' h5]
    exact h6
def BOk (E : Env) (rs : List ResultVar) (b : BO) (out : Out) : Prop := match b with
  | .fin res h y => ∃ e ts, (e = .normal ∨ e = .ret) ∧ out = .ok e ⟨ts, h, y.ds, y.rc⟩ ∧ ∀ h' vs, res h' = some vs → resA E h' ts rs = some vs
  | .pan v res h y => ∃ ts, out = .ok (.panic v) ⟨ts, h, y.ds, y.rc⟩ ∧ ∀ h' vs, res h' = some vs → resA E h' ts rs = some vs
  | .bad => True
theorem bodyK_ok {fc call : CallF} (hle : CallLe fc call) (F : RF) (fn : Func) (hn : fn.ntmps ≤ F.N) (b : Code) (fuel : Nat) (args : List AV) (h : Heap) (rc : RC) :
    BOk E fn.results.toList ((bodyK E F fn.ntmps fn b).run fuel fc args h rc) (bodyA E call fuel fn b args h rc) := by
  show BOk E _ (bc (Nat.ble (llen args) fn.ntmps)
    (fo (fun r h' y => .fin ((resK E F fn.ntmps fn.results.toList).f r) h' y) (fun e r h' y => AEx.rec (motive := fun _ => BO) .bad (fun _ => .bad) (.fin ((resK E F fn.ntmps fn.results.toList).f r) h' y) (fun v => .pan v ((resK E F fn.ntmps fn.results.toList).f r) h' y) e) .bad
      ((compC E F fn.ntmps b).run fuel fc (ofL F args F.z 0) h ⟨[], rc⟩)) .bad) _
  cases hl : Nat.ble (llen args) fn.ntmps with
  | false => trivial
  | true =>
    have hl := ble_le hl
    rw [llen_eq] at hl
    have := compC_ok (E := E) hn hle b fuel (ofL F args F.z 0) h ⟨[], rc⟩
    rw [toL_ofL F fn.ntmps hn args hl] at this
    rw [bc_true]
    unfold bodyA
    cases hr : (compC E F fn.ntmps b).run fuel fc (ofL F args F.z 0) h ⟨[], rc⟩ with
    | bad => trivial
    | nrm r h' y =>
      rw [hr] at this
      exact ⟨.normal, _, .inl rfl, this, fun h'' vs e => resK_ok _ r h'' vs e⟩
    | jmp e r h' y =>
      rw [hr] at this
      obtain ⟨h1, h2⟩ := this
      cases e with
      | normal => exact absurd rfl h1
      | exit _ => trivial
      | ret => exact ⟨.ret, _, .inr rfl, h2, fun h'' vs e => resK_ok _ r h'' vs e⟩
      | panic v => exact ⟨_, h2, fun h'' vs e => resK_ok _ r h'' vs e⟩
theorem compF_ok {fc call : CallF} (hle : CallLe fc call) (f : FuncId) (fuel : Nat) (args : List AV) (h : Heap) (rc : RC) :
    (compF E f).run fuel fc args h rc = .bad ∨ ∃ fn b, E.P.funcs[f]? = some fn ∧ fn.body = some b ∧ BOk E fn.results.toList ((compF E f).run fuel fc args h rc) (bodyA E call fuel fn b args h rc) := by
  unfold compF
  rw [funF_eq]
  cases hf : E.P.funcs[f]? with
  | none => exact .inl rfl
  | some fn =>
    simp only
    cases hb : fn.body with
    | none => exact .inl rfl
    | some b =>
      refine .inr ⟨fn, b, rfl, hb, ?_⟩
      simp only
      cases h1 : Nat.ble fn.ntmps 64 with
      | true => exact bodyK_ok hle rf2 fn (ble_le h1) b fuel args h rc
      | false => cases h2 : Nat.ble fn.ntmps 512 with
        | true => exact bodyK_ok hle rf3 fn (ble_le h2) b fuel args h rc
        | false => trivial
theorem execL_ok {fc call : CallF} (hle : CallLe fc call) {fuel : Nat} {c : Code} {s : St} {e : AEx} {s' : St} (h : execL E fc fuel c s = .ok e s') : exec E call fuel c s = .ok e s' := by
  have key : ∀ F : RF, s.ts.length ≤ F.N → execK E F fc fuel c s = .ok e s' → exec E call fuel c s = .ok e s' := by
    intro F hn hx
    have := compC_ok (E := E) hn hle c fuel (ofL F s.ts F.z 0) s.h ⟨s.ds, s.rc⟩
    rw [toL_ofL F s.ts.length hn s.ts (Nat.le_refl _), Nat.sub_self, List.replicate_zero, List.append_nil] at this
    unfold execK at hx
    cases hr : (compC E F s.ts.length c).run fuel fc (ofL F s.ts F.z 0) s.h ⟨s.ds, s.rc⟩ with
    | bad => rw [hr] at hx; cases hx
    | nrm r h' y => rw [hr] at hx this; rw [show exec E call fuel c s = _ from this]; exact hx
    | jmp e' r h' y => rw [hr] at hx this; rw [show exec E call fuel c s = _ from this.2]; exact hx
  unfold execL at h
  cases h1 : Nat.ble s.ts.length 64 with
  | true => rw [h1] at h; exact key rf2 (ble_le h1) h
  | false => cases h2 : Nat.ble s.ts.length 512 with
    | true => rw [h1, h2] at h; exact key rf3 (ble_le h2) h
    | false => rw [h1, h2] at h; cases h

/-! ### Calls -/
noncomputable def callDA (E : Env) (call : CallF) (fuel : Nat) (g : FuncId) (as : List AV) (h : Heap) (rc : RC) : Option (Heap × RC) := match E.P.funcs[g]? with
  | none => none
  | some fg => match fg.body with
    | none => none
    | some bg => match bodyA E call fuel fg bg as h rc with
      | .ok .normal s' => if s'.ds.isEmpty && (resA E s'.h s'.ts fg.results.toList).isSome then some (s'.h, s'.rc) else none
      | .ok .ret s' => if s'.ds.isEmpty && (resA E s'.h s'.ts fg.results.toList).isSome then some (s'.h, s'.rc) else none
      | _ => none
theorem callD_le {fc call : CallF} (hle : CallLe fc call) {fuel : Nat} {g : FuncId} {as : List AV} {h : Heap} {rc : RC} {p : Heap × RC} (e : callD E fc fuel g as h rc = some p) : callDA E call fuel g as h rc = some p := by
  unfold callD at e
  rcases compF_ok (E := E) hle g fuel as h rc with h1 | ⟨fn, b, h1, h2, h3⟩
  · rw [h1] at e; cases e
  · unfold callDA
    rw [h1]; simp only; rw [h2]; simp only
    cases hr : (compF E g).run fuel fc as h rc with
    | bad => rw [hr] at e; cases e
    | pan v res h' y => rw [hr] at e; cases e
    | fin res h' y =>
      rw [hr] at e h3
      obtain ⟨x, ts, h4, h5, h6⟩ := h3
      obtain ⟨h7, e1⟩ := bc_opt (show bc y.ds.isEmpty (ob none (fun _ => some (h', y.rc)) (res h')) none = some p from e)
      obtain ⟨vs, h8, e2⟩ := ob_opt e1
      rw [h5]
      rcases h4 with rfl | rfl
      · simp only [h7, h6 h' vs h8, Option.isSome_some, Bool.and_self, if_true]; exact e2
      · simp only [h7, h6 h' vs h8, Option.isSome_some, Bool.and_self, if_true]; exact e2
theorem unwindA_mono {f g : FuncId → List AV → Heap → RC → Option (Heap × RC)} (hfg : ∀ k as h rc p, f k as h rc = some p → g k as h rc = some p) : ∀ (ds : List ADef) (p : Option AV) (h : Heap) {q : Option AV × Heap}, unwindA f ds p h = some q → unwindA g ds p h = some q
  | [], p, h, q, e => by cases p <;> exact e
  | .col r :: ds, p, h, q, e => by
    rw [unwindA] at e ⊢
    split at e
    · exact unwindA_mono hfg ds p _ e
    · cases e
  | .call k as :: ds, none, h, q, e => by
    rw [unwindA] at e ⊢
    cases hf : f k as h .no with
    | none => rw [hf] at e; cases e
    | some p => rw [hf] at e; rw [hfg _ _ _ _ _ hf]; obtain ⟨h', rc'⟩ := p; exact unwindA_mono hfg ds none h' e
  | .call k as :: ds, some v, h, q, e => by
    rw [unwindA] at e ⊢
    cases hf : f k as h (.pend v) with
    | none => rw [hf] at e; cases e
    | some p =>
      rw [hf] at e; rw [hfg _ _ _ _ _ hf]; obtain ⟨h', rc'⟩ := p
      cases rc' with
      | pend w => exact unwindA_mono hfg ds _ h' e
      | done => exact unwindA_mono hfg ds _ h' e
      | _ => cases e
theorem roundK_le {fc call : CallF} (hle : CallLe fc call) (fuel : Nat) (l : Nat) (args : List AV) (h : Heap) : (∀ v h', roundK E fc fuel l args h = .ret v h' → roundA E call fuel l args h = .ret v h') ∧ ∀ v h', roundK E fc fuel l args h = .panic v h' → roundA E call fuel l args h = .panic v h' := by
  have key : ∀ out : COut, (∀ why o, out ≠ .fail why o) → roundK E fc fuel l args h = out → roundA E call fuel l args h = out := by
    intro out hout e
    unfold roundK at e
    unfold roundA
    split at e
    case h_2 => exact absurd e.symm (hout _ _)
    rename_i st pd ts ps as bd dn hg
    rw [hg]
    simp only
    by_cases ha : args.length = ps.length
    · rw [if_pos ha] at e ⊢
      split at e
      · rename_i s1 h1
        rw [execL_ok hle h1]
        simp only
        split at e
        · rename_i pd ts2 ps2 as2 bd2 dn2 hg2
          rw [hg2]
          simp only
          split at e
          · rename_i s2 h2; rw [execL_ok hle h2]; exact e
          · rename_i s2 h2; rw [execL_ok hle h2]; exact e
          · rename_i id s2 h2; rw [execL_ok hle h2]; exact e
          · rename_i v s2 h2; rw [execL_ok hle h2]; exact e
          · exact absurd e.symm (hout _ _)
        · exact absurd e.symm (hout _ _)
      · exact absurd e.symm (hout _ _)
      · exact absurd e.symm (hout _ _)
    · rw [if_neg ha] at e; exact absurd e.symm (hout _ _)
  exact ⟨fun v h' e => key _ (by simp) e, fun v h' e => key _ (by simp) e⟩
noncomputable def finA (E : Env) (call : CallF) (fuel : Nat) (fn : Func) (p : Option AV) (s : St) : COut := match unwindA (callDA E call fuel) s.ds p s.h with
  | none => .fail "unwind" none
  | some (some v, h') => .panic v h'
  | some (none, h') => match resA E h' s.ts fn.results.toList with
    | some vs => .ret (tupled vs) h'
    | none => .fail "results" none
theorem callN_succ (d fuel : Nat) {f : FuncId} {fn : Func} {b : Code} (hf : E.P.funcs[f]? = some fn) (hb : fn.body = some b) (args : List AV) (h : Heap) :
    callN E (d + 1) fuel (.fn f) args h = (match bodyA E (callN E d fuel) fuel fn b args h .no with
      | .ok .normal s => finA E (callN E d fuel) fuel fn none s
      | .ok .ret s => finA E (callN E d fuel) fuel fn none s
      | .ok (.panic v) s => finA E (callN E d fuel) fuel fn (some v) s
      | .ok (.exit _) _ => .fail "exit" none
      | .fail why o => .fail (why ++ " in " ++ fn.name) o) := by
  rw [callN]
  simp only [hf, hb]
  rfl
theorem finK_le {fc call : CallF} (hle : CallLe fc call) {fuel : Nat} {fn : Func} {p : Option AV} {res : Heap → Option (List AV)} {ts : List AV} {h : Heap} {y : Y} (hres : ∀ h' vs, res h' = some vs → resA E h' ts fn.results.toList = some vs) {out : COut} (ho : ∀ why o, out ≠ .fail why o)
    (e : lcase (p.elim (ob (.fail "results" none) (fun vs => COut.ret (tupled vs) h) (res h)) (fun v => .panic v h)) (finK E fc fuel p res h y.ds) y.ds = out) : finA E call fuel fn p ⟨ts, h, y.ds, y.rc⟩ = out := by
  unfold finA
  cases hd : y.ds with
  | nil =>
    rw [hd] at e
    cases p with
    | some v => exact e
    | none =>
      have e : ob (.fail "results" none) (fun vs => COut.ret (tupled vs) h) (res h) = out := e
      cases hr : res h with
      | none => rw [hr] at e; exact absurd e.symm (ho _ _)
      | some vs =>
        rw [hr] at e
        simp only [unwindA, hres h vs hr]
        exact e
  | cons d ds =>
    rw [hd] at e
    have e : finK E fc fuel p res h (d :: ds) = out := e
    unfold finK at e
    cases hu : unwindA (callD E fc fuel) (d :: ds) p h with
    | none => rw [hu] at e; exact absurd e.symm (ho _ _)
    | some q =>
      rw [hu] at e
      have := unwindA_mono (g := callDA E call fuel) (fun k as h rc p e => callD_le hle e) (d :: ds) p h hu
      simp only [this]
      obtain ⟨q1, h'⟩ := q
      cases q1 with
      | some v => exact e
      | none =>
        have e : ob (.fail "results" none) (fun vs => COut.ret (tupled vs) h') (res h') = out := e
        cases hr : res h' with
        | none => rw [hr] at e; exact absurd e.symm (ho _ _)
        | some vs => rw [hr] at e; simp only [hres h' vs hr]; exact e
theorem callC_le (fuel : Nat) : ∀ d, CallLe (callC E d fuel) (callN E d fuel)
  | 0 => fun _ _ _ => ⟨fun _ _ e => (by cases e), fun _ _ e => (by cases e)⟩
  | d + 1 => by
    have ih := callC_le fuel d
    intro g args h
    cases g with
    | yld l => exact roundK_le ih fuel l args h
    | fn f =>
      have key : ∀ out : COut, (∀ why o, out ≠ .fail why o) → callC E (d + 1) fuel (.fn f) args h = out → callN E (d + 1) fuel (.fn f) args h = out := by
        intro out ho e
        have e : bo (fun res h' y => lcase (ob (.fail "results" none) (fun vs => COut.ret (tupled vs) h') (res h')) (finK E (callC E d fuel) fuel none res h' y.ds) y.ds)
          (fun v res h' y => lcase (.panic v h') (finK E (callC E d fuel) fuel (some v) res h' y.ds) y.ds) (.fail "body" none) ((compF E f).run fuel (callC E d fuel) args h .no) = out := e
        rcases compF_ok (E := E) ih f fuel args h .no with h1 | ⟨fn, b, h1, h2, h3⟩
        · rw [h1] at e; exact absurd e.symm (ho _ _)
        · rw [callN_succ d fuel h1 h2]
          cases hr : (compF E f).run fuel (callC E d fuel) args h .no with
          | bad => rw [hr] at e; exact absurd e.symm (ho _ _)
          | fin res h' y =>
            rw [hr] at e h3
            obtain ⟨x, ts, h4, h5, h6⟩ := h3
            have := finK_le (E := E) ih (fn := fn) (p := none) h6 ho e
            rw [h5]
            rcases h4 with rfl | rfl <;> exact this
          | pan v res h' y =>
            rw [hr] at e h3
            obtain ⟨ts, h5, h6⟩ := h3
            have := finK_le (E := E) ih (fn := fn) (p := some v) h6 ho e
            rw [h5]; exact this
      exact ⟨fun v h' e => key _ (by simp) e, fun v h' e => key _ (by simp) e⟩
/-- THE END: what the fast run returns, the abstract evaluator returns. -/
theorem callN_of_callC {d fuel : Nat} {f : FuncId} {args : List AV} {h h' : Heap} {v : AV} (e : callC E d fuel (.fn f) args h = .ret v h') : callN E d fuel (.fn f) args h = .ret v h' :=
  (callC_le fuel d _ _ _).1 v h' e
end Go.Ab.Fa
