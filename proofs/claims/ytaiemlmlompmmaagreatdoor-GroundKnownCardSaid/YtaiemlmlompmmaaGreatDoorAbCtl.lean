/-
  TEXT: regions in the order of the text, sequences, branches, blocks, loops.
-/
import Derived.Test.YtaiemlmlompmmaaGreatDoorAbEff2
import Derived.Defers
import Derived.AtR
import Derived.RangeFuncNested
namespace Go.Ab
variable {E : Env}

/-- what is deferred, and the model's -/
def DR (φ : Ph) : ADef → Deferred → Prop
  | .call f args, d' => ∃ cap, d'.target = .fn (.func f) cap ∧ LR φ args (d'.args ++ cap).toList
  | .col r, d' => ∃ l, φ r = some l ∧ d'.target = .collected l.blk
def DsR (φ : Ph) : List ADef → List Deferred → Prop
  | [], [] => True
  | d :: ds, d' :: ds' => DR φ d d' ∧ DsR φ ds ds'
  | _, _ => False
theorem DR.mono {φ φ' : Ph} (hle : φ.le φ') {d : ADef} {d' : Deferred} (h : DR φ d d') : DR φ' d d' := by
  cases d with
  | call f args => obtain ⟨c, a, b⟩ := h; exact ⟨c, a, b.mono hle⟩
  | col r => obtain ⟨l, a, b⟩ := h; exact ⟨l, hle _ _ a, b⟩
theorem DsR.mono {φ φ' : Ph} (hle : φ.le φ') : ∀ {ds : List ADef} {ds' : List Deferred} (_ : DsR φ ds ds'), DsR φ' ds ds'
  | [], [], _ => trivial
  | _ :: _, _ :: _, h => ⟨h.1.mono hle, DsR.mono hle h.2⟩

structure SR (φ : Ph) (ts : List AV) (ds : List ADef) (a : Act) : Prop where
  ts : LR φ ts a.tmps.toList
  ds : DsR φ ds a.defers
theorem SR.mono {φ φ' : Ph} (hle : φ.le φ') {ts : List AV} {ds : List ADef} {a : Act} (h : SR φ ts ds a) : SR φ' ts ds a := ⟨h.ts.mono hle, h.ds.mono hle⟩

/-- what a recover finds, and leaves: K false, K true: the callers ahead of it, behind it; in a round: neither -/
def RCok (φ : Ph) (b : Frame) (K : Bool → List Frame) : RC → Prop
  | .no => b.roundOf = none ∧ ∀ fr : Frame, fr.kind = b.kind → tryRecover fr (K false) = none
  | .pend v => b.roundOf = none ∧ (∃ v', VR φ v v' ∧ ∀ fr : Frame, fr.kind = b.kind → tryRecover fr (K false) = some (v', K true)) ∧ ∀ fr : Frame, fr.kind = b.kind → tryRecover fr (K true) = none
  | .done => b.roundOf = none ∧ ∀ fr : Frame, fr.kind = b.kind → tryRecover fr (K true) = none
  | .bar l => ∃ ll, φ l = some ll ∧ b.roundOf = some ll.blk
def cur (K : Bool → List Frame) : RC → List Frame
  | .done => K true
  | _ => K false
def RC.isBar : RC → Bool
  | .bar _ => true
  | _ => false
theorem RCok.mono {φ φ' : Ph} (hle : φ.le φ') {b : Frame} {K : Bool → List Frame} : ∀ {rc : RC} (_ : RCok φ b K rc), RCok φ' b K rc
  | .no, h => h
  | .pend _, h => let ⟨n, ⟨v', a, b⟩, c⟩ := h; ⟨n, ⟨v', a.mono hle, b⟩, c⟩
  | .done, h => h
  | .bar _, h => let ⟨l, a, b⟩ := h; ⟨l, hle _ _ a, b⟩
theorem RCok.plain {φ : Ph} {b : Frame} {K : Bool → List Frame} {rc : RC} (h : RCok φ b K rc) (hn : rc.isBar = false) : b.roundOf = none := by
  cases rc with
  | no => exact h.1
  | pend v => exact h.1
  | done => exact h.1
  | bar l => simp [RC.isBar] at hn

inductive ExR (φ : Ph) : AEx → Exit → Prop
  | normal : ExR φ .normal .normal
  | exit (id : Nat) : ExR φ (.exit id) (.exit id)
  | ret : ExR φ .ret .ret
  | panic (v : AV) (v' : Value) (h : VR φ v v') : ExR φ (.panic v) (.panic [{ v := v', recovered := false }])

/-- a call that returns -/
def RetOK (E : Env) (f : FuncId) (args : List AV) (h : Heap) (v : AV) (h' : Heap) : Prop :=
  ∀ (φ : Ph) (w : World) (vs : List Value), OK E φ h w → LR φ args vs → (callFunc f vs.toArray).run E.P w = .ok (.enter f vs.toArray) w ∧
    ∀ cs, ∃ φ' w' v' fr, VR φ' v v' ∧ OK E φ' h' w' ∧ Fr φ h w φ' h' w' ∧
      Steps E.P (lone (Frame.enter E.P f vs.toArray .normal) cs w) (lone fr cs w') ∧ fr.fn = f ∧ fr.leaving E.P w' (.returned v')
def PanOK (E : Env) (f : FuncId) (args : List AV) (h : Heap) (v : AV) (h' : Heap) : Prop :=
  ∀ (φ : Ph) (w : World) (vs : List Value), OK E φ h w → LR φ args vs → (callFunc f vs.toArray).run E.P w = .ok (.enter f vs.toArray) w ∧
    ∀ cs, ∃ φ' w' v' fr, VR φ' v v' ∧ OK E φ' h' w' ∧ Fr φ h w φ' h' w' ∧
      Steps E.P (lone (Frame.enter E.P f vs.toArray .normal) cs w) (lone fr cs w') ∧ fr.fn = f ∧ fr.leaving E.P w' (.panicked [{ v := v', recovered := false }])

/-- what a call, or a yield, of these values does first: the frame that it pushes -/
inductive Pushes (E : Env) (φ : Ph) (w : World) : Fn → List Value → Next → Frame → Prop
  | fn (f : FuncId) (vs : List Value) (hr : (callFunc f vs.toArray).run E.P w = .ok (.enter f vs.toArray) w) : Pushes E φ w (.fn f) vs (.enter f vs.toArray) (Frame.enter E.P f vs.toArray .normal)
  | yld (l : Nat) (ll : Loc) (hl : φ l = some ll) (vs : List Value) (f : FuncId) (tmps : Array Value) (assign body : Code) (hr : (Instr.yield ll.blk vs.toArray).run E.P w = .ok (.round ll.blk f tmps assign body) w) :
      Pushes E φ w (.yld l) vs (.round ll.blk f tmps assign body) (Frame.round ll.blk f tmps assign body .normal)

/-- what may be called is there -/
def FnOK (φ : Ph) : Fn → Prop
  | .fn _ => True
  | .yld l => ∃ ll, φ l = some ll

/-- .. and where it leads -/
def RetOK' (E : Env) (F : Fn) (args : List AV) (h : Heap) (v : AV) (h' : Heap) : Prop :=
  ∀ (φ : Ph) (w : World) (vs : List Value), OK E φ h w → FnOK φ F → LR φ args vs → ∃ n start, Pushes E φ w F vs n start ∧
    ∀ c cs, ∃ φ' w' v', VR φ' v v' ∧ OK E φ' h' w' ∧ Fr φ h w φ' h' w' ∧ Steps E.P (lone start (c :: cs) w) (lone (c.finish v') cs w')
def PanOK' (E : Env) (F : Fn) (args : List AV) (h : Heap) (v : AV) (h' : Heap) : Prop :=
  ∀ (φ : Ph) (w : World) (vs : List Value), OK E φ h w → FnOK φ F → LR φ args vs → ∃ n start, Pushes E φ w F vs n start ∧
    ∀ c cs, ∃ φ' w' v', VR φ' v v' ∧ OK E φ' h' w' ∧ Fr φ h w φ' h' w' ∧ Steps E.P (lone start (c :: cs) w) (lone (c.raise [{ v := v', recovered := false }]) cs w')

theorem RetOK.any {f : FuncId} {args : List AV} {h : Heap} {v : AV} {h' : Heap} (r : RetOK E f args h v h') : RetOK' E (.fn f) args h v h' := fun φ w vs ok _ hl => by
  obtain ⟨h1, h2⟩ := r φ w vs ok hl
  refine ⟨_, _, .fn f vs h1, fun c cs => ?_⟩
  obtain ⟨φ', w', v', fr, x1, x2, x3, x4, _, x5⟩ := h2 (c :: cs)
  exact ⟨φ', w', v', x1, x2, x3, x4.trans (.one (step_leave_returned x5))⟩
theorem PanOK.any {f : FuncId} {args : List AV} {h : Heap} {v : AV} {h' : Heap} (r : PanOK E f args h v h') : PanOK' E (.fn f) args h v h' := fun φ w vs ok _ hl => by
  obtain ⟨h1, h2⟩ := r φ w vs ok hl
  refine ⟨_, _, .fn f vs h1, fun c cs => ?_⟩
  obtain ⟨φ', w', v', fr, x1, x2, x3, x4, _, x5⟩ := h2 (c :: cs)
  exact ⟨φ', w', v', x1, x2, x3, x4.trans (.one (step_leave_panicked x5))⟩

structure CallOK (E : Env) (call : CallF) : Prop where
  ret : ∀ f args h v h', call f args h = .ret v h' → RetOK' E f args h v h'
  panic : ∀ f args h v h', call f args h = .panic v h' → PanOK' E f args h v h'

structure EnvOK (E : Env) : Prop where
  ext : ExtOK E
  special : ∀ f g, E.special f = some g → ∀ args h v h', g args h = some (v, h') → RetOK E f args h v h'
  names : ∀ (f : FuncId) (fn : Func), E.P.funcs[f]? = some fn → fn.name ≠ "runtime.NumGoroutine"
  mixed : E.P.follows .mixedOrders = true

theorem put_LR {φ : Ph} {ts : List AV} {a : Act} (h : LR φ ts a.tmps.toList) (d : Option Tmp) {v : AV} {v' : Value} (hv : VR φ v v') : LR φ (putT ts d v) (a.put d v').tmps.toList := by
  cases d with
  | none => exact h
  | some d => simp only [putT, Act.put, Array.toList_setIfInBounds]; exact h.set hv d
theorem put_defers (a : Act) (d : Option Tmp) (v : Value) : (a.put d v).defers = a.defers := by cases d <;> rfl
theorem SR.put {φ : Ph} {ts : List AV} {ds : List ADef} {a : Act} (h : SR φ ts ds a) (d : Option Tmp) {v : AV} {v' : Value} (hv : VR φ v v') : SR φ (putT ts d v) ds (a.put d v') :=
  ⟨put_LR h.ts d hv, by rw [put_defers]; exact h.ds⟩

theorem wantedA_eq {φ : Ph} {ops : Array Oper} {ts : List AV} {a : Act} (h : LR φ ts a.tmps.toList) (o : Oper) : Region.wanted o (yielded ops a.tmps) = wantedA ops ts o := by
  unfold Region.wanted wantedA
  cases o.guard with
  | none => rfl
  | some g =>
    obtain ⟨j, want⟩ := g
    simp only [yielded]
    cases hd : (ops[j]?).bind (·.dst) with
    | none => simp
    | some d =>
      simp only [Option.bind_some]
      cases hx : ts[d]? with
      | none =>
        have : a.tmps[d]? = none := by
          have h1 := List.getElem?_eq_none_iff.1 hx
          rw [h.1] at h1
          have := List.getElem?_eq_none_iff.2 h1
          simpa using this
        simp [this]
      | some x =>
        obtain ⟨y, hy, hv⟩ := h.get hx
        have hy' : a.tmps[d]? = some y := by simpa using hy
        rw [hy']
        cases hv <;> simp

section
variable {b : Frame} {a : Act} {k : List Item} {cs : List Frame} {w : World} {ops : Array Oper} {i : Nat} {rest : List Nat} {o : Oper}

theorem fin_atR (ho : ops[i]? = some o) (v : Value) : (b.atR a (.inRegion ops (i :: rest) :: k)).finish v = b.atR (a.put o.dst v) (.inRegion ops rest :: k) := by
  rw [Frame.finish_atR, ho]; rfl

theorem go_value {P : Program} (hsem : o.semAt b.roundOf a.eval = execOp a.eval o) (ho : ops[i]? = some o) (hw : Region.wanted o (yielded ops a.tmps) = true) {v : Value} {w' : World} (hr : (execOp a.eval o).run P w = .ok (.value v) w') :
    step P (lone (b.atR a (.inRegion ops (i :: rest) :: k)) cs w) = .next (lone (b.atR (a.put o.dst v) (.inRegion ops rest :: k)) cs w') := by
  rw [← fin_atR ho]
  exact step_lone_go (by rw [stepGR_op (rest := rest) ho hw, hsem]; simp [stepG.apply, hr])
theorem go_skip' {P : Program} (hsem : o.semAt b.roundOf a.eval = execOp a.eval o) (ho : ops[i]? = some o) (hw : Region.wanted o (yielded ops a.tmps) = true) {w' : World} (hr : (execOp a.eval o).run P w = .ok .skip w') :
    step P (lone (b.atR a (.inRegion ops (i :: rest) :: k)) cs w) = .next (lone (b.atR (a.put o.dst undef) (.inRegion ops rest :: k)) cs w') := by
  rw [← fin_atR ho]
  exact step_lone_go (by rw [stepGR_op (rest := rest) ho hw, hsem]; simp [stepG.apply, hr])
theorem go_enter {φ : Ph} (hsem : o.semAt b.roundOf a.eval = execOp a.eval o) (ho : ops[i]? = some o) (hw : Region.wanted o (yielded ops a.tmps) = true) {F : Fn} {vs : List Value} {n : Next} {start : Frame} (hp : Pushes E φ w F vs n start) (hr : (execOp a.eval o).run E.P w = .ok n w) :
    step E.P (lone (b.atR a (.inRegion ops (i :: rest) :: k)) cs w) = .next (lone start (b.atR a (.inRegion ops (i :: rest) :: k) :: cs) w) := by
  cases hp with
  | fn f vs _ => exact step_lone_go (by rw [stepGR_op (rest := rest) ho hw, hsem]; simp [stepG.apply, hr, Frame.atR])
  | yld l ll hl vs f tmps assign body _ => exact step_lone_go (by rw [stepGR_op (rest := rest) ho hw, hsem]; simp [stepG.apply, hr, Frame.atR])
theorem go_pan {P : Program} (hsem : o.semAt b.roundOf a.eval = execOp a.eval o) (ho : ops[i]? = some o) (hw : Region.wanted o (yielded ops a.tmps) = true) {v : Value} {w' : World} (hr : (execOp a.eval o).run P w = .halt (.panic v) w') :
    step P (lone (b.atR a (.inRegion ops (i :: rest) :: k)) cs w) = .next (lone { b.atR a (.inRegion ops (i :: rest) :: k) with mode := .panicking [{ v, recovered := false }] } cs w') := by
  rw [← Frame.raise_atR]
  exact step_lone_go (by rw [stepGR_op (rest := rest) ho hw, hsem]; simp [stepG.apply, hr])
theorem go_defers {P : Program} (hsem : o.semAt b.roundOf a.eval = execOp a.eval o) (ho : ops[i]? = some o) (hw : Region.wanted o (yielded ops a.tmps) = true) {d : Deferred} {w' : World} (hr : (execOp a.eval o).run P w = .ok (.defer d) w') :
    step P (lone (b.atR a (.inRegion ops (i :: rest) :: k)) cs w) = .next (lone (b.atR ({ a with defers := d :: a.defers }.put o.dst undef) (.inRegion ops rest :: k)) cs w') := by
  have : ({ b.atR a (.inRegion ops (i :: rest) :: k) with defers := d :: a.defers } : Frame).finish undef =
      b.atR ({ a with defers := d :: a.defers }.put o.dst undef) (.inRegion ops rest :: k) := by
    have := Frame.finish_atR b { a with defers := d :: a.defers } ops i rest k undef
    rw [ho] at this; exact this
  refine step_lone_go ?_
  rw [stepGR_op (rest := rest) ho hw, hsem]
  simp only [stepG.apply, Sem.runT_eq, hr, GStep.bare_after]
  exact congrArg (fun fr => GStep.go { frame := fr, callers := cs, status := .running, dying := none } w') this
theorem go_recover {P : Program} (hround : b.roundOf = none) (hsem : o.semAt b.roundOf a.eval = execOp a.eval o) (ho : ops[i]? = some o) (hw : Region.wanted o (yielded ops a.tmps) = true) {w' : World} (hr : (execOp a.eval o).run P w = .ok .recover w') {v : Value} {cs' : List Frame}
    (ht : tryRecover (b.atR a (.inRegion ops (i :: rest) :: k)) cs = some (v, cs')) :
    step P (lone (b.atR a (.inRegion ops (i :: rest) :: k)) cs w) = .next (lone (b.atR (a.put o.dst v) (.inRegion ops rest :: k)) cs' w') := by
  rw [← fin_atR ho]
  refine step_lone_go ?_
  rw [stepGR_op (rest := rest) ho hw, hsem]
  have hro : (b.atR a (.inRegion ops (i :: rest) :: k)).roundOf = none := hround
  simp only [stepG.apply, Sem.runT_eq, if_true, hr, GStep.bare_after, hro, ht, GStep.bare_go]
theorem go_recover_no {P : Program} (hround : b.roundOf = none) (hsem : o.semAt b.roundOf a.eval = execOp a.eval o) (ho : ops[i]? = some o) (hw : Region.wanted o (yielded ops a.tmps) = true) {w' : World} (hr : (execOp a.eval o).run P w = .ok .recover w')
    (ht : tryRecover (b.atR a (.inRegion ops (i :: rest) :: k)) cs = none) :
    step P (lone (b.atR a (.inRegion ops (i :: rest) :: k)) cs w) = .next (lone (b.atR (a.put o.dst .nilIface) (.inRegion ops rest :: k)) cs w') := by
  rw [← fin_atR ho]
  refine step_lone_go ?_
  rw [stepGR_op (rest := rest) ho hw, hsem]
  have hro : (b.atR a (.inRegion ops (i :: rest) :: k)).roundOf = none := hround
  simp only [stepG.apply, Sem.runT_eq, if_true, hr, GStep.bare_after, hro, ht, GStep.bare_go]
end

/-- where an operation at a region's head comes to -/
def OpArr (P : Program) (m : Machine) (b : Frame) (ops : Array Oper) (rest : List Nat) (k : List Item) (cs : List Frame) : Exit → Act → World → Prop
  | .normal, a, w => Steps P m (lone (b.atR a (.inRegion ops rest :: k)) cs w)
  | .panic chain, a, w => ∃ todo, Steps P m (lone { b.atR a todo with mode := .panicking chain } cs w)
  | _, _, _ => False

/-- what is called, in the model -/
def tgtOK (φ : Ph) : Fn → Target → List Value → List Value → Prop
  | .fn f, t, vs, all => ∃ cap : List Value, t = .fn (.func f) cap.toArray ∧ all = vs ++ cap
  | .yld l, t, vs, all => ∃ ll, φ l = some ll ∧ t = .fn (.yield ll.blk) #[] ∧ all = vs

theorem tgtOK.fnok {φ : Ph} {F : Fn} {t : Target} {vs all : List Value} (h : tgtOK φ F t vs all) : FnOK φ F := by
  cases F with
  | fn f => trivial
  | yld l => obtain ⟨ll, h, _⟩ := h; exact ⟨ll, h⟩

theorem callee_run {φ : Ph} (hg : GL E φ) {ts : List AV} {a : Act} (ht : LR φ ts a.tmps.toList) {c : Call} {f : Fn} {args : List AV} (h : callee E ts c = some (f, args)) (ty : TypeId) :
    ∃ (t : Target) (vs all : List Value), LR φ args all ∧ tgtOK φ f t vs all ∧ ∀ w, (resolve a.eval c ty).run E.P w = .ok { target := t, args := vs.toArray } w := by
  unfold callee at h
  split at h
  · rename_i x hcx
    split at h
    · rename_i g first captured as hx has
      simp at h; obtain ⟨rfl, rfl⟩ := h
      have h1 := evs_VR hg ht hx
      have h2 := evAll_LR hg ht has
      generalize hcv : a.eval x = cv at h1
      obtain ⟨fs', cs', rfl, hf, hc⟩ := h1.func_inv
      refine ⟨.fn (.func g) cs'.toList.toArray, fs'.toList ++ c.args.toList.map a.eval, _, ?_, ⟨cs'.toList, rfl, rfl⟩, fun w => ?_⟩
      · rw [List.append_assoc]
        have := (hf.append h2).append hc
        simpa [List.append_assoc] using this
      · simp [resolve, hcx, Deferred.ofValue, hcv, map_toArray]
    · rename_i l as hx has
      simp at h; obtain ⟨rfl, rfl⟩ := h
      have h1 := evs_VR hg ht hx
      have h2 := evAll_LR hg ht has
      generalize hcv : a.eval x = cv at h1
      cases h1 with
      | yield hl =>
        refine ⟨_, c.args.toList.map a.eval, _, h2, ⟨_, hl, rfl, rfl⟩, fun w => ?_⟩
        simp [resolve, hcx, Deferred.ofValue, hcv, map_toArray]
    · simp at h
  · simp at h

/-- where an operation that pushes leads -/
theorem invoke_pushes {φ : Ph} {w : World} {F : Fn} {t : Target} {vs all : List Value} (ht : tgtOK φ F t vs all) {n : Next} {start : Frame} (hp : Pushes E φ w F all n start) : (invoke t vs.toArray).run E.P w = .ok n w := by
  cases hp with
  | fn f vs' hr =>
    obtain ⟨cap, rfl, rfl⟩ := ht
    simpa [invoke] using hr
  | yld l ll hl vs' f tmps assign body hr =>
    obtain ⟨ll', hl', rfl, rfl⟩ := ht
    rw [hl] at hl'; simp at hl'; subst hl'
    simpa [invoke] using hr

/-- an operation that is no defer statement, in a round as anywhere -/
theorem sem_of {φ : Ph} {b : Frame} {K : Bool → List Frame} {rc : RC} (hrc : RCok φ b K rc) {o : Oper} (h : rc.isBar = false ∨ ∀ c, o.op ≠ .defer c) (ρ : Operand → Value) : o.semAt b.roundOf ρ = execOp ρ o := by
  rcases h with h | h
  · rw [hrc.plain h]; rfl
  · exact Oper.semAt_eq _ _ _ h

end Go.Ab
