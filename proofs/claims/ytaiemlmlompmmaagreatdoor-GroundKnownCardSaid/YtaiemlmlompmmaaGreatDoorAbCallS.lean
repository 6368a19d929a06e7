/-
  CALLS.
-/
import Derived.Test.YtaiemlmlompmmaaGreatDoorAbExec
namespace Go.Ab
variable {E : Env}

theorem resA_run {φ : Ph} {h : Heap} {w : World} (ok : OK E φ h w) {ts : List AV} {tmps : Array Value} (ht : LR φ ts tmps.toList) : ∀ {l : List ResultVar} {vs : List AV} (_ : resA E h ts l = some vs),
    ∃ vs', LR φ vs vs' ∧ (l.mapM (fun | .tmp t => pure (tmps.getD t undef) | .cell a t => do loadVar t (← asAddr (tmps.getD a undef)) : ResultVar → Sem Value)).run E.P w = .ok vs' w
  | [], vs, h => by simp [resA] at h; subst h; exact ⟨[], LR.nil φ, rfl⟩
  | r :: rest, vs, h => by
    have hget : ∀ t, VR φ (ts.getD t AV.undef) (tmps.getD t undef) := fun t => by
      have := ht.getD (VR.undef φ) t
      rw [show tmps.getD t undef = tmps.toList.getD t undef by simp [Array.getD_eq_getD_getElem?, List.getD]]
      exact this
    simp only [resA] at h
    split at h
    · simp at h
    · rename_i v hv
      split at h
      · simp at h
      · rename_i vs0 hvs
        simp at h; subst h
        obtain ⟨vs', hl, hr⟩ := resA_run ok ht hvs
        cases r with
        | tmp t =>
          simp at hv; subst hv
          refine ⟨tmps.getD t undef :: vs', .cons (by simpa using hget t) hl, ?_⟩
          simp only [List.mapM_cons, Sem.run_bind, Sem.run_pure, Result.andThen_ok, hr]
        | cell ad t =>
          simp only at hv
          obtain ⟨x', hx, hrun⟩ := loadA_run ok (hget ad) hv
          refine ⟨x' :: vs', .cons hx hl, ?_⟩
          have hr0 := hrun w rfl
          have : (do loadVar t (← asAddr (tmps.getD ad undef)) : Sem Value).run E.P w = .ok x' w := by
            have hv2 := hget ad
            unfold loadA at hv
            split at hv
            · rename_i i o heq
              rw [heq] at hv2
              generalize hq : tmps.getD ad undef = q at hv2 hr0
              cases hv2
              simpa [Instr.loadAt, Instr.sureAddr, asAddr] using hr0
            · simp at hv
          simp only [List.mapM_cons]
          rw [Sem.run_bind, this]
          simp only [Sem.run_bind, Sem.run_pure, Result.andThen_ok, hr]

theorem results_run {φ : Ph} {h : Heap} {w : World} (ok : OK E φ h w) {ts : List AV} {tmps : Array Value} (ht : LR φ ts tmps.toList) {fn : Func} {vs : List AV} (hv : resA E h ts fn.results.toList = some vs) :
    ∃ v', VR φ (tupled vs) v' ∧ (results fn tmps).run E.P w = .ok v' w := by
  obtain ⟨vs', hl, hr⟩ := resA_run ok ht hv
  have hm : (fn.results.mapM (fun | .tmp t => pure (tmps.getD t undef) | .cell a t => do loadVar t (← asAddr (tmps.getD a undef)) : ResultVar → Sem Value)).run E.P w = .ok vs'.toArray w := by
    rw [Array.mapM_eq_mapM_toList]
    show Sem.run E.P (Functor.map List.toArray (_ : Sem (List Value))) w = _
    rw [Sem.run_map]
    refine (congrArg (fun r => Result.andThen r _) hr).trans ?_
    rfl
  refine ⟨if h : vs'.toArray.size = 1 then vs'.toArray[0] else .tuple vs'.toArray, ?_, ?_⟩
  · cases vs with
    | nil => rw [hl.nil_inv]; exact VR.tuple' (LR.nil φ)
    | cons v vs =>
      obtain ⟨y, ys, rfl, hy, hys⟩ := hl.uncons
      cases vs with
      | nil => rw [hys.nil_inv]; simpa [tupled] using hy
      | cons v2 vs2 =>
        obtain ⟨y2, ys2, rfl, hy2, hys2⟩ := hys.uncons
        have : ¬ (y :: y2 :: ys2).toArray.size = 1 := by simp
        rw [dif_neg this]
        exact VR.tuple' (.cons hy (.cons hy2 hys2))
  · unfold results
    rw [Sem.run_bind]
    refine (congrArg (fun r => Result.andThen r _) hm).trans ?_
    rfl

/-- the frame in which a function's text is run -/
def bare (f : FuncId) (kind : CallKind) : Frame := { fn := f, tmps := #[], todo := [], defers := [], mode := .run, kind := kind, roundOf := none }

theorem enter_eq {P : Program} {f : FuncId} {fn : Func} {c : Code} (hf : P.funcs[f]? = some fn) (hb : fn.body = some c) (vs : List Value) (kind : CallKind) :
    Frame.enter P f vs.toArray kind = (bare f kind).atR { tmps := vs.toArray ++ Array.replicate (fn.ntmps - vs.length) undef, defers := [] } [.code c] := by
  simp [Frame.enter, Frame.atR, hf, hb, bare]

/-- the body of a function, up to its end -/
theorem bodyA_sound (hE : EnvOK E) {call : CallF} (hcall : CallOK E call) {fuel : Nat} {f : FuncId} {fn : Func} {c : Code} (hf : E.P.funcs[f]? = some fn) (hb : fn.body = some c) {args : List AV} {h : Heap} {rc : RC} {e : AEx} {s' : St}
    (hbody : bodyA E call fuel fn c args h rc = .ok e s') {φ : Ph} {w : World} {vs : List Value} (ok : OK E φ h w) (hl : LR φ args vs) {kind : CallKind} {K : Bool → List Frame} (hrc : RCok φ (bare f kind) K rc) :
    ExOut E φ h w (bare f kind) K [] (lone (Frame.enter E.P f vs.toArray kind) (cur K rc) w) e s' := by
  rw [enter_eq hf hb]
  refine (exec_sound hE hcall fuel c (s := { ts := args ++ List.replicate (fn.ntmps - args.length) AV.undef, h, ds := [], rc }) hbody (a := { tmps := vs.toArray ++ Array.replicate (fn.ntmps - vs.length) undef, defers := [] }) (b := bare f kind) (k := []) ⟨?_, trivial⟩ ok hrc (by show (E.P.funcs[f]?).isSome = true; rw [hf]; rfl)).1
  have := hl.append (LR.replicate (VR.undef φ) (fn.ntmps - args.length))
  rw [hl.1] at this
  simpa [hl.1] using this

theorem enters {E : Env} (hE : EnvOK E) {f : FuncId} {fn : Func} {c : Code} (hf : E.P.funcs[f]? = some fn) (hb : fn.body = some c) (vs : Array Value) (w : World) : (callFunc f vs).run E.P w = .ok (.enter f vs) w := by
  have hn := hE.names f fn hf
  have : (fn.name == "runtime.NumGoroutine") = false := by rw [beq_eq_false_iff_ne]; exact hn
  simp only [callFunc, Sem.run_bind, run_program, Result.andThen_ok, hf, this, Bool.false_eq_true, if_false, hb, Option.isNone_some, Sem.run_pure]


/-- one deferred call, as the evaluator runs it -/
noncomputable def callD (E : Env) (call : CallF) (fuel : Nat) (g : FuncId) (as : List AV) (h : Heap) (rc : RC) : Option (Heap × RC) := match E.P.funcs[g]? with
  | none => none
  | some fg => match fg.body with
    | none => none
    | some bg => match bodyA E call fuel fg bg as h rc with
      | .ok .normal s' => if s'.ds.isEmpty && (resA E s'.h s'.ts fg.results.toList).isSome then some (s'.h, s'.rc) else none
      | .ok .ret s' => if s'.ds.isEmpty && (resA E s'.h s'.ts fg.results.toList).isSome then some (s'.h, s'.rc) else none
      | _ => none

theorem DsR_nil_inv {φ : Ph} {ds : List Deferred} (h : DsR φ [] ds) : ds = [] := by cases ds with | nil => rfl | cons _ _ => exact h.elim

/-- the frame to which a deferred function's returns -/
def backTo (c : Bool → Frame) : RC → Frame
  | .done => { c true with mode := settle (c true).mode }
  | _ => { c false with mode := settle (c false).mode }

/-- a deferred function's frame, from its beginning to the frame that deferred it -/
theorem callD_sound (hE : EnvOK E) {call : CallF} (hcall : CallOK E call) {fuel : Nat} {g : FuncId} {as : List AV} {h h' : Heap} {rc rc' : RC} (hd : callD E call fuel g as h rc = some (h', rc')) {φ : Ph} {w : World} {vs : List Value}
    (ok : OK E φ h w) (hl : LR φ as vs) {c : Bool → Frame} {cs : List Frame} (hrc : RCok φ (bare g .deferred) (fun x => c x :: cs) rc) :
    ∃ φ' w', OK E φ' h' w' ∧ Fr φ h w φ' h' w' ∧ RCok φ' (bare g .deferred) (fun x => c x :: cs) rc' ∧ (callFunc g vs.toArray).run E.P w = .ok (.enter g vs.toArray) w ∧
      Steps E.P (lone (Frame.enter E.P g vs.toArray .deferred) (cur (fun x => c x :: cs) rc) w)
        (lone (backTo c rc') cs w') := by
  unfold callD at hd
  split at hd
  · simp at hd
  rename_i fg hf
  split at hd
  · simp at hd
  rename_i bg hb
  have key : ∀ (s' : St) (e : AEx), (e = .normal ∨ e = .ret) → bodyA E call fuel fg bg as h rc = .ok e s' → s'.ds.isEmpty = true → (resA E s'.h s'.ts fg.results.toList).isSome = true → s'.h = h' → s'.rc = rc' →
      ∃ φ' w', OK E φ' h' w' ∧ Fr φ h w φ' h' w' ∧ RCok φ' (bare g .deferred) (fun x => c x :: cs) rc' ∧ (callFunc g vs.toArray).run E.P w = .ok (.enter g vs.toArray) w ∧
      Steps E.P (lone (Frame.enter E.P g vs.toArray .deferred) (cur (fun x => c x :: cs) rc) w)
        (lone (backTo c rc') cs w') := by
    intro s' e he hbody hds hres hh hr
    subst hh; subst hr
    obtain ⟨φ', w', a', e', x1, x2, x3, x4, x5, x6⟩ := (bodyA_sound hE hcall hf hb hbody ok hl (kind := .deferred) hrc).is
    refine ⟨φ', w', x3, x4, x5, enters hE hf hb _ w, ?_⟩
    obtain ⟨vs', hvs'⟩ := Option.isSome_iff_exists.1 hres
    obtain ⟨v', _, hrun⟩ := results_run x3 x2.ts hvs'
    have hdn : a'.defers = [] := DsR_nil_inv (by have := x2.ds; rw [List.isEmpty_iff.1 hds] at this; exact this)
    have fin : ∀ todo, step E.P (lone { (bare g .deferred).atR a' todo with mode := .returning } (cur (fun x => c x :: cs) s'.rc) w') =
        .next (lone (backTo c s'.rc) cs w') := fun todo => by
      have hgo : ({ (bare g .deferred).atR a' todo with mode := .returning } : Frame).going E.P w' (.returned v') := ⟨rfl, hdn, fg, hf, hrun⟩
      have hk : ({ (bare g .deferred).atR a' todo with mode := .returning } : Frame).kind = .deferred := rfl
      cases hrc' : s'.rc with
      | no => exact step_going_returned (c := c false) (cs := cs) hk hgo
      | pend v => exact step_going_returned (c := c false) (cs := cs) hk hgo
      | done => exact step_going_returned (c := c true) (cs := cs) hk hgo
      | bar l => exact step_going_returned (c := c false) (cs := cs) hk hgo
    rcases he with rfl | rfl
    · cases x1
      exact Steps.trans x6 (.head (stepR_end rfl) (.one (fin [])))
    · cases x1
      obtain ⟨todo, hs⟩ := x6
      exact Steps.trans hs (.head (stepR_ret rfl) (.one (fin _)))
  split at hd
  · rename_i s' hbody
    split at hd
    · rename_i hc
      simp at hd; obtain ⟨rfl, rfl⟩ := hd
      simp only [Bool.and_eq_true] at hc
      exact key s' .normal (.inl rfl) hbody hc.1 hc.2 rfl rfl
    · simp at hd
  · rename_i s' hbody
    split at hd
    · rename_i hc
      simp at hd; obtain ⟨rfl, rfl⟩ := hd
      simp only [Bool.and_eq_true] at hc
      exact key s' .ret (.inr rfl) hbody hc.1 hc.2 rfl rfl
    · simp at hd
  · simp at hd

def modeOf (p : Option (AV × Value)) : FrameMode := match p with
  | none => .returning
  | some (_, v') => .panicking [{ v := v', recovered := false }]

/-- what a frame that leaves does first -/
theorem unwind_sound (hE : EnvOK E) {call : CallF} (hcall : CallOK E call) {fuel : Nat} : ∀ (ds : List ADef) {p p' : Option AV} {h h' : Heap} (_ : unwindA (callD E call fuel) ds p h = some (p', h')) {φ : Ph} {w : World} {fr : Frame} {cs : List Frame}
    (_ : OK E φ h w) (_ : DsR φ ds fr.defers) (_ : (p = none ∧ fr.mode = .returning) ∨ ∃ v v', p = some v ∧ VR φ v v' ∧ fr.mode = .panicking [{ v := v', recovered := false }]),
    ∃ φ' w' m', OK E φ' h' w' ∧ Fr φ h w φ' h' w' ∧ ((p' = none ∧ m' = .returning) ∨ ∃ v v', p' = some v ∧ VR φ' v v' ∧ m' = .panicking [{ v := v', recovered := false }]) ∧
      Steps E.P (lone fr cs w) (lone { fr with defers := [], mode := m' } cs w')
  | [], p, p', h, h', hu, φ, w, fr, cs, ok, hds, hp => by
    simp [unwindA] at hu; obtain ⟨rfl, rfl⟩ := hu
    have := DsR_nil_inv hds
    refine ⟨φ, w, fr.mode, ok, Fr.refl _ _ _, ?_, ?_⟩
    · exact hp
    · rw [← this]; exact Steps.refl _ _
  | .col r :: ds, p, p', h, h', hu, φ, w, fr, cs, ok, hds, hp => by
    cases hfd : fr.defers with
    | nil => rw [hfd] at hds; exact hds.elim
    | cons d' ds' =>
    rw [hfd] at hds
    obtain ⟨⟨l, hl, htar⟩, hds'⟩ := hds
    have hmode : fr.mode ≠ .run := by
      rcases hp with ⟨_, hm⟩ | ⟨v, v', _, _, hm⟩ <;> rw [hm] <;> simp
    simp only [unwindA] at hu
    split at hu
    · rename_i hg
      obtain ⟨_, hb⟩ := ok.live _ _ _ hg hl
      obtain ⟨ok1, f1⟩ := ok.shut hg rfl hl (.deferred none)
      have st1 := step_collected (P := E.P) (cs := cs) hmode hfd htar (run_takeDeferred hb)
      obtain ⟨φ2, w2, m2, ok2, f2, hp2, hst2⟩ := unwind_sound hE hcall ds hu (fr := { fr with defers := [] ++ ds' }) (cs := cs) ok1 (by simpa using hds') hp
      exact ⟨φ2, w2, m2, ok2, f1.trans f2, hp2, .head st1 hst2⟩
    · simp at hu
  | .call df dargs :: ds, p, p', h, h', hu, φ, w, fr, cs, ok, hds, hp => by
    cases hfd : fr.defers with
    | nil => rw [hfd] at hds; exact hds.elim
    | cons d' ds' =>
    rw [hfd] at hds
    obtain ⟨⟨cap, htar, hargs⟩, hds'⟩ := hds
    have hmode : fr.mode ≠ .run := by
      rcases hp with ⟨_, hm⟩ | ⟨v, v', _, _, hm⟩ <;> rw [hm] <;> simp
    have hinv : ∀ (hce : (callFunc df (d'.args ++ cap).toList.toArray).run E.P w = .ok (.enter df (d'.args ++ cap).toList.toArray) w), (invoke d'.target d'.args).run E.P w = .ok (.enter df (d'.args ++ cap).toList.toArray) w := fun hce => by
      have e : (d'.args ++ cap).toList.toArray = d'.args ++ cap := Array.toArray_toList ..
      rw [e] at hce ⊢
      rw [htar]; exact hce
    have st1 : ∀ (hce : (callFunc df (d'.args ++ cap).toList.toArray).run E.P w = .ok (.enter df (d'.args ++ cap).toList.toArray) w), step E.P (lone fr cs w) = .next (lone (Frame.enter E.P df (d'.args ++ cap).toList.toArray .deferred) ({ fr with defers := ds' } :: cs) w) := fun hce => step_defer hmode hfd htar (hinv hce)
    cases p with
    | none =>
      simp only [unwindA] at hu
      split at hu
      · rename_i h1 rc1 hcd
        have hm : fr.mode = .returning := by
          rcases hp with ⟨_, hm⟩ | ⟨v, v', e, _, _⟩
          · exact hm
          · simp at e
        obtain ⟨φ1, w1, ok1, f1, _, hce, hst⟩ := callD_sound hE hcall hcd ok hargs (c := fun _ => { fr with defers := ds' }) (cs := cs) ⟨rfl, fun fr' hk => by simp [tryRecover, show fr'.kind = .deferred from hk, hm]⟩
        have hset : backTo (fun _ => { fr with defers := ds' }) rc1 = { fr with defers := ds' } := by
          cases rc1 <;> simp [backTo, hm, settle]
        rw [hset] at hst
        obtain ⟨φ2, w2, m2, ok2, f2, hp2, hst2⟩ := unwind_sound hE hcall ds hu (fr := { fr with defers := ds' }) (cs := cs) ok1 (hds'.mono f1.ext) (.inl ⟨rfl, hm⟩)
        exact ⟨φ2, w2, m2, ok2, f1.trans f2, hp2, .head (st1 hce) (Steps.trans hst hst2)⟩
      · simp at hu
    | some v =>
      obtain ⟨v', hv, hm⟩ : ∃ v', VR φ v v' ∧ fr.mode = .panicking [{ v := v', recovered := false }] := by
        rcases hp with ⟨e, _⟩ | ⟨v1, v', e, hv, hm⟩
        · simp at e
        · simp at e; subst e; exact ⟨v', hv, hm⟩
      have hrc : RCok φ (bare df .deferred) (fun x => (if x then { fr with defers := ds', mode := .panicking [{ v := v', recovered := true }] } else { fr with defers := ds' }) :: cs) (.pend v) :=
        ⟨rfl, ⟨v', hv, fun fr' hk => by simp [tryRecover, show fr'.kind = .deferred from hk, hm]⟩, fun fr' hk => by simp [tryRecover, show fr'.kind = .deferred from hk]⟩
      simp only [unwindA] at hu
      split at hu
      · rename_i h1 v1 hcd
        obtain ⟨φ1, w1, ok1, f1, _, hce, hst⟩ := callD_sound hE hcall hcd ok hargs (c := fun x => if x then { fr with defers := ds', mode := .panicking [{ v := v', recovered := true }] } else { fr with defers := ds' }) (cs := cs) hrc
        have hset : backTo (fun x => if x then { fr with defers := ds', mode := .panicking [{ v := v', recovered := true }] } else { fr with defers := ds' }) (.pend v1) = { fr with defers := ds' } := by simp [backTo, hm, settle]
        rw [hset] at hst
        simp only [Bool.false_eq_true, if_false, cur] at hst
        obtain ⟨φ2, w2, m2, ok2, f2, hp2, hst2⟩ := unwind_sound hE hcall ds hu (fr := { fr with defers := ds' }) (cs := cs) ok1 (hds'.mono f1.ext) (.inr ⟨v, v', rfl, hv.mono f1.ext, hm⟩)
        exact ⟨φ2, w2, m2, ok2, f1.trans f2, hp2, .head (st1 hce) (Steps.trans hst hst2)⟩
      · rename_i h1 hcd
        obtain ⟨φ1, w1, ok1, f1, _, hce, hst⟩ := callD_sound hE hcall hcd ok hargs (c := fun x => if x then { fr with defers := ds', mode := .panicking [{ v := v', recovered := true }] } else { fr with defers := ds' }) (cs := cs) hrc
        have hset : backTo (fun x => if x then { fr with defers := ds', mode := .panicking [{ v := v', recovered := true }] } else { fr with defers := ds' }) .done = { fr with defers := ds', mode := .returning } := by simp [backTo, settle]
        rw [hset] at hst
        simp only [Bool.false_eq_true, if_false, cur] at hst
        obtain ⟨φ2, w2, m2, ok2, f2, hp2, hst2⟩ := unwind_sound hE hcall ds hu (fr := { fr with defers := ds', mode := .returning }) (cs := cs) ok1 (hds'.mono f1.ext) (.inl ⟨rfl, rfl⟩)
        exact ⟨φ2, w2, m2, ok2, f1.trans f2, hp2, .head (st1 hce) (Steps.trans hst hst2)⟩
      · simp at hu


/-- a function -/
theorem callN_fn (hE : EnvOK E) (fuel d : Nat) (ih : CallOK E (callN E d fuel)) : (∀ f args h v h', callN E (d + 1) fuel (.fn f) args h = .ret v h' → RetOK E f args h v h') ∧ (∀ f args h v h', callN E (d + 1) fuel (.fn f) args h = .panic v h' → PanOK E f args h v h') := by
  -- what a call that does not fail is made of
  have key : ∀ (f : FuncId) (args : List AV) (h : Heap) (out : COut), callN E (d + 1) fuel (.fn f) args h = out → (∀ why q, out ≠ .fail why q) →
      ∃ fn c e s p, E.P.funcs[f]? = some fn ∧ fn.body = some c ∧ bodyA E (callN E d fuel) fuel fn c args h .no = .ok e s ∧
        ((p = none ∧ (e = .normal ∨ e = .ret)) ∨ ∃ v, p = some v ∧ e = .panic v) ∧
        ((∃ v h', out = .panic v h' ∧ unwindA (callD E (callN E d fuel) fuel) s.ds p s.h = some (some v, h')) ∨
         ∃ vs h', out = .ret (tupled vs) h' ∧ unwindA (callD E (callN E d fuel) fuel) s.ds p s.h = some (none, h') ∧ resA E h' s.ts fn.results.toList = some vs) := by
    intro f args h out e hne
    simp only [callN] at e
    split at e
    · exact absurd e.symm (hne _ _)
    rename_i fn hf
    split at e
    · exact absurd e.symm (hne _ _)
    rename_i c hb
    have fin : ∀ (p : Option AV) (s : St), (match unwindA (callD E (callN E d fuel) fuel) s.ds p s.h with
        | none => COut.fail "unwind" none
        | some (some v, h') => .panic v h'
        | some (none, h') => match resA E h' s.ts fn.results.toList with
          | some vs => .ret (tupled vs) h'
          | none => .fail "results" none) = out →
        ((∃ v h', out = .panic v h' ∧ unwindA (callD E (callN E d fuel) fuel) s.ds p s.h = some (some v, h')) ∨
         ∃ vs h', out = .ret (tupled vs) h' ∧ unwindA (callD E (callN E d fuel) fuel) s.ds p s.h = some (none, h') ∧ resA E h' s.ts fn.results.toList = some vs) := by
      intro p s hm
      split at hm
      · exact absurd hm.symm (hne _ _)
      · rename_i v h' hu; exact .inl ⟨v, h', hm.symm, hu⟩
      · rename_i h' hu
        split at hm
        · rename_i vs hv; exact .inr ⟨vs, h', hm.symm, hu, hv⟩
        · exact absurd hm.symm (hne _ _)
    split at e
    · rename_i s hbody; exact ⟨fn, c, _, s, none, hf, hb, hbody, .inl ⟨rfl, .inl rfl⟩, fin none s e⟩
    · rename_i s hbody; exact ⟨fn, c, _, s, none, hf, hb, hbody, .inl ⟨rfl, .inr rfl⟩, fin none s e⟩
    · rename_i v s hbody; exact ⟨fn, c, _, s, some v, hf, hb, hbody, .inr ⟨v, rfl, rfl⟩, fin (some v) s e⟩
    · exact absurd e.symm (hne _ _)
    · exact absurd e.symm (hne _ _)
  -- the frame at its end
  have run : ∀ (f : FuncId) (fn : Func) (c : Code) (args : List AV) (h : Heap) (e : AEx) (s : St) (p p' : Option AV) (h' : Heap), E.P.funcs[f]? = some fn → fn.body = some c → bodyA E (callN E d fuel) fuel fn c args h .no = .ok e s →
      ((p = none ∧ (e = .normal ∨ e = .ret)) ∨ ∃ v, p = some v ∧ e = .panic v) → unwindA (callD E (callN E d fuel) fuel) s.ds p s.h = some (p', h') →
      ∀ (φ : Ph) (w : World) (vs : List Value), OK E φ h w → LR φ args vs → ∀ cs, ∃ φ' w' m' tmps todo, OK E φ' h' w' ∧ Fr φ h w φ' h' w' ∧ LR φ' s.ts tmps.toList ∧
        ((p' = none ∧ m' = .returning) ∨ ∃ v v', p' = some v ∧ VR φ' v v' ∧ m' = .panicking [{ v := v', recovered := false }]) ∧
        Steps E.P (lone (Frame.enter E.P f vs.toArray .normal) cs w) (lone { (bare f .normal).atR { tmps, defers := [] } todo with mode := m' } cs w') := by
    intro f fn c args h e s p p' h' hf hb hbody hp hu φ w vs ok hl cs
    obtain ⟨φ1, w1, a1, e1, x1, x2, x3, x4, x5, x6⟩ := (bodyA_sound hE ih hf hb hbody ok hl (kind := .normal) (K := fun _ => cs) ⟨rfl, fun fr hk => by simp [tryRecover, show fr.kind = .normal from hk]⟩).is
    have hcur : cur (fun _ => cs) s.rc = cs := by cases s.rc <;> rfl
    have hcur0 : cur (fun _ => cs) RC.no = cs := rfl
    rw [hcur] at x6
    rw [hcur0] at x6
    -- to the frame's leaving
    have hm : ∃ todo m, ((p = none ∧ m = .returning) ∨ ∃ v v', p = some v ∧ VR φ1 v v' ∧ m = .panicking [{ v := v', recovered := false }]) ∧
        Steps E.P (lone (Frame.enter E.P f vs.toArray .normal) cs w) (lone { (bare f .normal).atR a1 todo with mode := m } cs w1) := by
      rcases hp with ⟨rfl, rfl | rfl⟩ | ⟨v, rfl, rfl⟩
      · cases x1; exact ⟨[], .returning, .inl ⟨rfl, rfl⟩, Steps.trans x6 (.one (stepR_end rfl))⟩
      · cases x1; obtain ⟨todo, hs⟩ := x6; exact ⟨_, .returning, .inl ⟨rfl, rfl⟩, Steps.trans hs (.one (stepR_ret rfl))⟩
      · cases x1 with
        | panic _ v' hv => obtain ⟨todo, hs⟩ := x6; exact ⟨todo, _, .inr ⟨v, v', rfl, hv, rfl⟩, hs⟩
    obtain ⟨todo, m, hmp, hs1⟩ := hm
    obtain ⟨φ2, w2, m2, ok2, f2, hp2, hs2⟩ := unwind_sound hE ih s.ds hu (fr := { (bare f .normal).atR a1 todo with mode := m }) (cs := cs) x3 x2.ds (by
      rcases hmp with ⟨e, em⟩ | ⟨v, v', e, hv, em⟩
      · exact .inl ⟨e, em⟩
      · exact .inr ⟨v, v', e, hv, em⟩)
    exact ⟨φ2, w2, m2, a1.tmps, todo, ok2, x4.trans f2, x2.ts.mono f2.ext, hp2, Steps.trans hs1 hs2⟩
  refine ⟨fun f args h v h' e => ?_, fun f args h v h' e => ?_⟩
  · obtain ⟨fn, c, e1, s, p, hf, hb, hbody, hp, hout⟩ := key f args h _ e (by simp)
    rcases hout with ⟨v1, h1, he, _⟩ | ⟨vs1, h1, he, hu, hres⟩
    · simp at he
    · simp at he; obtain ⟨rfl, rfl⟩ := he
      intro φ w vs ok hl
      refine ⟨enters hE hf hb _ w, fun cs => ?_⟩
      obtain ⟨φ', w', m', tmps, todo, ok', fr, ht, hm, hs⟩ := run f fn c args h e1 s p none h' hf hb hbody hp hu φ w vs ok hl cs
      obtain ⟨v', hv, hrun⟩ := results_run ok' ht hres
      rcases hm with ⟨_, rfl⟩ | ⟨v, v'', e, _⟩
      · exact ⟨φ', w', v', _, hv, ok', fr, hs, rfl, rfl, rfl, rfl, fn, hf, hrun⟩
      · simp at e
  · obtain ⟨fn, c, e1, s, p, hf, hb, hbody, hp, hout⟩ := key f args h _ e (by simp)
    rcases hout with ⟨v1, h1, he, hu⟩ | ⟨vs1, h1, he, _⟩
    · simp at he; obtain ⟨rfl, rfl⟩ := he
      intro φ w vs ok hl
      refine ⟨enters hE hf hb _ w, fun cs => ?_⟩
      obtain ⟨φ', w', m', tmps, todo, ok', fr, ht, hm, hs⟩ := run f fn c args h e1 s p (some v) h' hf hb hbody hp hu φ w vs ok hl cs
      rcases hm with ⟨e, _⟩ | ⟨v2, v', e, hv, rfl⟩
      · simp at e
      · simp at e; subst e
        exact ⟨φ', w', v', _, hv, ok', fr, hs, rfl, rfl, rfl, fn, hf⟩
    · simp at he


/-- a round's end -/
theorem endA_sound {l : Nat} {jump : Option Code} {s : St} {v : AV} {h' : Heap} (he : endA l jump s = .ret v h') {φ : Ph} {w : World} (ok : OK E φ s.h w) {ll : Loc} (hl : φ l = some ll) :
    ∃ w', v = .bool jump.isNone ∧ OK E φ h' w' ∧ Fr φ s.h w φ h' w' ∧ (Instr.endRound ll.blk jump).run E.P w = .ok (.bool jump.isNone) w' := by
  unfold endA at he
  split at he
  · rename_i st pd ts ps as bd dn hg
    simp only [COut.ret.injEq] at he; obtain ⟨rfl, rfl⟩ := he
    obtain ⟨_, r, hr, hrr⟩ := ok.live _ _ _ hg hl
    obtain ⟨ok1, f1⟩ := ok.turn (o' := .loop (if jump.isNone then .ready else .done) jump ts ps as bd dn) hg rfl hl (O := .loop { r with state := if jump.isNone then .ready else .done, pending := jump })
      ⟨by have := ok.live _ _ _ hg hl; exact this.1, _, rfl, ⟨rfl, rfl, hrr.tmps, hrr.params, hrr.assign, hrr.body, hrr.defers, hrr.fn⟩⟩
    exact ⟨_, rfl, ok1, f1, run_endRound jump hr⟩
  · simp at he

theorem fold_set {φ : Ph} : ∀ {ps : List Tmp} {args : List AV} {vs : List Value} (_ : LR φ args vs) {ts : List AV} {tmps : Array Value} (_ : LR φ ts tmps.toList),
    LR φ ((ps.zip args).foldl (fun ts x => ts.set x.1 x.2) ts) (((ps.zip vs).foldl (fun (tmps : Array Value) (x : Tmp × Value) => tmps.setIfInBounds x.1 x.2) tmps).toList)
  | [], _, _, _, _, _, ht => by simpa using ht
  | p :: ps, [], vs, hl, ts, tmps, ht => by rw [hl.nil_inv]; simpa using ht
  | p :: ps, x :: xs, vs, hl, ts, tmps, ht => by
    obtain ⟨y, ys, rfl, hy, hys⟩ := hl.uncons
    simp only [List.zip_cons_cons, List.foldl_cons]
    exact fold_set hys (by simpa using ht.set hy p)

/-- a round -/
theorem roundA_key (hE : EnvOK E) {call : CallF} (hcall : CallOK E call) {fuel l : Nat} {args : List AV} {h : Heap} {out : COut} (ho : roundA E call fuel l args h = out) (hne : ∀ why q, out ≠ .fail why q)
    {φ : Ph} {w : World} {vs : List Value} (ok : OK E φ h w) {ll : Loc} (hφ : φ l = some ll) (hl : LR φ args vs) :
    ∃ f tmps assign body, (Instr.yield ll.blk vs.toArray).run E.P w = .ok (.round ll.blk f tmps assign body) w ∧ ∀ c cs,
      (∀ v h', out = .ret v h' → ∃ φ' w' v', VR φ' v v' ∧ OK E φ' h' w' ∧ Fr φ h w φ' h' w' ∧ Steps E.P (lone (Frame.round ll.blk f tmps assign body .normal) (c :: cs) w) (lone (c.finish v') cs w')) ∧
      (∀ v h', out = .panic v h' → ∃ φ' w' v', VR φ' v v' ∧ OK E φ' h' w' ∧ Fr φ h w φ' h' w' ∧ Steps E.P (lone (Frame.round ll.blk f tmps assign body .normal) (c :: cs) w) (lone (c.raise [{ v := v', recovered := false }]) cs w')) := by
  unfold roundA at ho
  split at ho
  · rename_i st pd ts ps as bd dn hg
    split at ho
    · rename_i hlen
      split at ho
      · rename_i s1 hx1
        split at ho
        · rename_i pd2 ts2 ps2 as2 bd2 dn2 hg1
          obtain ⟨hoff, r, hr, hrr⟩ := ok.live _ _ _ hg hφ
          have hsz : vs.toArray.size = r.params.size := by
            have h1 := congrArg List.length hrr.params
            have h2 := hl.1
            simp at h1 ⊢; omega
          refine ⟨r.fn, _, r.assign, r.body, run_yield hr hsz, fun c cs => ?_⟩
          have hts0 : LR φ ((ps.zip args).foldl (fun ts x => ts.set x.1 x.2) ts) ((r.params.zip vs.toArray).foldl (fun tmps (t, a) => tmps.setIfInBounds t a) r.tmps).toList := by
            have := fold_set (ps := ps) hl hrr.tmps
            rw [← Array.foldl_toList, Array.toList_zip, hrr.params]
            exact this
          generalize htm : (r.params.zip vs.toArray).foldl (fun tmps (t, a) => tmps.setIfInBounds t a) r.tmps = tmps0 at hts0
          let b : Frame := { fn := r.fn, tmps := #[], todo := [], defers := [], mode := .run, kind := .normal, roundOf := some ll.blk }
          have hb : b.roundOf = some ll.blk := rfl
          have hk : b.kind = .normal := rfl
          have hround : Frame.round ll.blk r.fn tmps0 r.assign r.body .normal = b.atR { tmps := tmps0, defers := [] } [.code r.assign, .beginRound, .code r.body] := rfl
          rw [hrr.assign, hrr.body] at hround ⊢
          rw [hround]
          have hcur : ∀ rc, cur (fun _ => c :: cs) rc = c :: cs := fun rc => by cases rc <;> rfl
          -- the assignment
          obtain ⟨φ1, w1, a1, e1, x1, x2, x3, x4, x5, x6⟩ := (exec_sound hE hcall fuel as hx1 (a := { tmps := tmps0, defers := [] }) (b := b) (k := [.beginRound, .code bd]) (K := fun _ => c :: cs) ⟨hts0, trivial⟩ ok ⟨ll, hφ, rfl⟩ hrr.fn).1.is
          cases x1
          rw [hcur, hcur] at x6
          have hφ1 := x4.ext _ _ hφ
          -- the round begins
          obtain ⟨hoff1, r1, hr1, hrr1⟩ := x3.live _ _ _ hg1 hφ1
          obtain ⟨ok2, f2⟩ := x3.turn (o' := .loop .busy pd2 ts2 ps2 as2 bd2 dn2) hg1 rfl hφ1 (O := .loop { r1 with state := .busy })
            ⟨hoff1, _, rfl, ⟨rfl, hrr1.pending, hrr1.tmps, hrr1.params, hrr1.assign, hrr1.body, hrr1.defers, hrr1.fn⟩⟩
          have hbeg := stepR_beginRound (P := E.P) (b := b) (a := a1) (k := [.code bd]) (cs := c :: cs) hb (run_beginRound hr1 hrr1.state)
          have hst1 := Steps.trans x6 (.one hbeg)
          -- the body
          have body : ∀ (e : AEx) (s2 : St), exec E call fuel bd { s1 with h := s1.h.put l (some (.loop .busy pd2 ts2 ps2 as2 bd2 dn2)) } = .ok e s2 →
              ∃ φ' w' a' e', ExR φ' e e' ∧ SR φ' s2.ts s2.ds a' ∧ OK E φ' s2.h w' ∧ Fr φ h w φ' s2.h w' ∧ φ' l = some ll ∧ ArrR E.P (lone (b.atR { tmps := tmps0, defers := [] } [.code as, .beginRound, .code bd]) (c :: cs) w) b [] (c :: cs) e' a' w' := by
            intro e s2 hx2
            obtain ⟨φ3, w3, a3, e3, y1, y2, y3, y4, y5, y6⟩ := (exec_sound hE hcall fuel bd hx2 (a := a1) (b := b) (k := []) (K := fun _ => c :: cs) x2 ok2 x5 hrr.fn).1.is
            rw [hcur, hcur] at y6
            exact ⟨φ3, w3, a3, e3, y1, y2, y3, (x4.trans f2).trans y4, y4.ext _ _ hφ1, .of_steps hst1 y6⟩
          split at ho
          · rename_i s2 hx2
            obtain ⟨φ3, w3, a3, e3, y1, y2, y3, y4, hl3, y6⟩ := body _ _ hx2
            cases y1
            refine ⟨fun v h' e => ?_, fun v h' e => ?_⟩
            · obtain ⟨w4, rfl, z1, z2, z3⟩ := endA_sound (ho.trans e) y3 hl3
              exact ⟨φ3, w4, _, .bool _, z1, y4.trans z2, Steps.trans y6 (.one (stepR_round_end hb hk z3))⟩
            · rw [e] at ho; unfold endA at ho; split at ho <;> simp at ho
          · rename_i s2 hx2
            obtain ⟨φ3, w3, a3, e3, y1, y2, y3, y4, hl3, y6⟩ := body _ _ hx2
            cases y1
            refine ⟨fun v h' e => ?_, fun v h' e => ?_⟩
            · obtain ⟨w4, rfl, z1, z2, z3⟩ := endA_sound (ho.trans e) y3 hl3
              obtain ⟨todo, hs⟩ := y6
              exact ⟨φ3, w4, _, .bool _, z1, y4.trans z2, Steps.trans hs (.one (stepR_round_ret hb hk z3))⟩
            · rw [e] at ho; unfold endA at ho; split at ho <;> simp at ho
          · rename_i id s2 hx2
            obtain ⟨φ3, w3, a3, e3, y1, y2, y3, y4, hl3, y6⟩ := body _ _ hx2
            cases y1
            refine ⟨fun v h' e => ?_, fun v h' e => ?_⟩
            · obtain ⟨w4, rfl, z1, z2, z3⟩ := endA_sound (ho.trans e) y3 hl3
              obtain ⟨todo, ht, hs⟩ := y6
              exact ⟨φ3, w4, _, .bool _, z1, y4.trans z2, Steps.trans hs (.one (stepR_round_exit hb hk ht z3))⟩
            · rw [e] at ho; unfold endA at ho; split at ho <;> simp at ho
          · rename_i v2 s2 hx2
            obtain ⟨φ3, w3, a3, e3, y1, y2, y3, y4, hl3, y6⟩ := body _ _ hx2
            split at ho
            · rename_i hds
              refine ⟨fun v h' e => by rw [e] at ho; simp at ho, fun v h' e => ?_⟩
              rw [e] at ho; simp at ho; obtain ⟨rfl, rfl⟩ := ho
              cases y1 with
              | panic _ v' hv =>
                obtain ⟨todo, hs⟩ := y6
                have hdn : a3.defers = [] := DsR_nil_inv (by have := y2.ds; rw [List.isEmpty_iff.1 hds] at this; exact this)
                obtain ⟨fn, hfn⟩ := Option.isSome_iff_exists.1 hrr.fn
                exact ⟨φ3, w3, v', hv, y3, y4, Steps.trans hs (.one (step_leave_panicked ⟨rfl, hdn, fn, hfn⟩))⟩
            · exact absurd ho.symm (hne _ _)
          · exact absurd ho.symm (hne _ _)
        · exact absurd ho.symm (hne _ _)
      · exact absurd ho.symm (hne _ _)
      · exact absurd ho.symm (hne _ _)
    · exact absurd ho.symm (hne _ _)
  · exact absurd ho.symm (hne _ _)

theorem callN_sound (hE : EnvOK E) (fuel : Nat) : ∀ d, CallOK E (callN E d fuel)
  | 0 => ⟨fun f args h v h' e => by simp [callN] at e, fun f args h v h' e => by simp [callN] at e⟩
  | d + 1 => by
    have ih := callN_sound hE fuel d
    obtain ⟨k1, k2⟩ := callN_fn hE fuel d ih
    refine ⟨fun F args h v h' e => ?_, fun F args h v h' e => ?_⟩
    · cases F with
      | fn f => exact (k1 f args h v h' e).any
      | yld l =>
        simp only [callN] at e
        intro φ w vs ok hf hl
        obtain ⟨ll, hφ⟩ := hf
        obtain ⟨f, tmps, assign, body, hy, hrun⟩ := roundA_key hE ih e (by simp) ok hφ hl
        exact ⟨_, _, .yld l ll hφ vs f tmps assign body hy, fun c cs => (hrun c cs).1 v h' rfl⟩
    · cases F with
      | fn f => exact (k2 f args h v h' e).any
      | yld l =>
        simp only [callN] at e
        intro φ w vs ok hf hl
        obtain ⟨ll, hφ⟩ := hf
        obtain ⟨f, tmps, assign, body, hy, hrun⟩ := roundA_key hE ih e (by simp) ok hφ hl
        exact ⟨_, _, .yld l ll hφ vs f tmps assign body hy, fun c cs => (hrun c cs).2 v h' rfl⟩

/-- THE END: a closed run, in the library's own words. -/
theorem calls_of_ret (hE : EnvOK E) {fuel d : Nat} {f : FuncId} {args : List AV} {h h' : Heap} {v : AV} (e : callN E d fuel (.fn f) args h = .ret v h') {φ : Ph} {w : World} {vs : List Value} (ok : OK E φ h w) (hl : LR φ args vs) :
    Calls E.P f vs.toArray w fun en w' => ∃ φ' v', en = .returned v' ∧ VR φ' v v' ∧ OK E φ' h' w' ∧ Fr φ h w φ' h' w' := fun cs => by
  cases d with
  | zero => simp [callN] at e
  | succ d =>
  obtain ⟨_, hst⟩ := (callN_fn hE fuel d (callN_sound hE fuel d)).1 f args h v h' e φ w vs ok hl
  obtain ⟨φ', w', v', fr, hv, ok', hfr, hs, hfn, hlv⟩ := hst cs
  exact ⟨.returned v', w', fr, ⟨φ', v', rfl, hv, ok', hfr⟩, hs, hfn, hlv⟩

end Go.Ab
