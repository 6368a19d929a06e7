/-
  ONE OPERATION, whichever.
-/
import Derived.Test.YtaiemlmlompmmaaGreatDoorAbCtl
namespace Go.Ab
variable {E : Env}

theorem isBar_of {rc : RC} (h : ∀ l, rc = .bar l → False) : rc.isBar = false := by
  cases rc <;> first | rfl | exact (h _ rfl).elim
theorem OK.gl {φ : Ph} {h : Heap} {w : World} (ok : OK E φ h w) : GL E φ := ok.glob

/-- what an operation that writes or calls comes to -/
inductive EffOK (E : Env) (call : CallF) (φ : Ph) (ts : List AV) (h : Heap) (rc : RC) (o : Oper) (a : Act) (w : World) : EOut → Prop
  | val (v : AV) (h' : Heap) (φ' : Ph) (w' : World) (v' : Value) (hv : VR φ' v v') (ok : OK E φ' h' w') (fr : Fr φ h w φ' h' w')
      (run : (execOp a.eval o).run E.P w = .ok (.value v') w') : EffOK E call φ ts h rc o a w (.val v h')
  | skip (h' : Heap) (φ' : Ph) (w' : World) (ok : OK E φ' h' w') (fr : Fr φ h w φ' h' w')
      (run : (execOp a.eval o).run E.P w = .ok .skip w') : EffOK E call φ ts h rc o a w (.val AV.undef h')
  | enter (v : AV) (h' : Heap) (F : Fn) (args : List AV) (all : List Value) (hr : RetOK' E F args h v h') (hf : FnOK φ F) (hl : LR φ args all)
      (run : ∀ n start, Pushes E φ w F all n start → (execOp a.eval o).run E.P w = .ok n w) : EffOK E call φ ts h rc o a w (.val v h')
  | pent (v : AV) (h' : Heap) (F : Fn) (args : List AV) (all : List Value) (hr : PanOK' E F args h v h') (hf : FnOK φ F) (hl : LR φ args all)
      (run : ∀ n start, Pushes E φ w F all n start → (execOp a.eval o).run E.P w = .ok n w) : EffOK E call φ ts h rc o a w (.panic v h')
  | defer (d : ADef) (d' : Deferred) (hnb : rc.isBar = false) (hd : DR φ d d') (run : (execOp a.eval o).run E.P w = .ok (.defer d') w) : EffOK E call φ ts h rc o a w (.defer d)
  | panic (v : AV) (v' : Value) (hv : VR φ v v') (run : (execOp a.eval o).run E.P w = .halt (.panic v') w) : EffOK E call φ ts h rc o a w (.panic v h)
  | recov (v : AV) (hrc : rc = .pend v) (run : (execOp a.eval o).run E.P w = .ok .recover w) : EffOK E call φ ts h rc o a w (.recov v)
  | norec (hrc : ∀ v, rc ≠ .pend v) (hnb : rc.isBar = false) (run : (execOp a.eval o).run E.P w = .ok .recover w) : EffOK E call φ ts h rc o a w (.val .nilIface h)
  | fail (why : String) (q : Option Oper) : EffOK E call φ ts h rc o a w (.fail why q)

theorem methodA_run {t : TypeId} {name : String} {f : FuncId} (h : methodA E t name = some f) (v : Value) (w : World) : (method (E.P.types.size + Made.depth) t v name).run E.P w = .ok (f, v) w := by
  unfold methodA at h
  split at h
  · rename_i i hi
    split at h
    · rename_i m hm
      split at h
      · rename_i hp
        split at h
        · simp at h
        · rename_i g d hne hf hu
          simp at h; subst h
          have hpl : m.path.toList = [] := by simpa using hp
          have e : E.P.types.size + Made.depth = (E.P.types.size + 99) + 1 := rfl
          rw [e, method]
          have hti : (typeInfo t).run E.P w = .ok i w := by simp [typeInfo, hi]
          simp only [Sem.run_bind, hti, Result.andThen_ok, hm, hpl, follow, Sem.run_pure, hf, receiverAt, run_underlying hu]
          cases d with
          | pointer x => exact absurd rfl (hne x)
          | _ => simp [Place.get]
        · simp at h
      · simp at h
    · simp at h
  · simp at h

theorem done_val {call : CallF} {φ : Ph} {ts : List AV} {h : Heap} {rc : RC} {o : Oper} {a : Act} {w : World} {s : Sem Value} {v : AV} {h' : Heap} (hd : Done E φ h w (s.run E.P w) v h')
    (he : execOp a.eval o = (do pure (.value (← s)) : Sem Next)) : EffOK E call φ ts h rc o a w (.val v h') := by
  obtain ⟨φ', w', v', hr, hv, ok, fr⟩ := hd
  exact .val v h' φ' w' v' hv ok fr (by rw [he]; exact run_v hr)

set_option maxHeartbeats 1000000 in
theorem effA_sound (hE : EnvOK E) {call : CallF} (hcall : CallOK E call) {φ : Ph} {ts : List AV} {h : Heap} {rc : RC} {o : Oper} {a : Act} {w : World} (ht : LR φ ts a.tmps.toList) (ok : OK E φ h w) :
    EffOK E call φ ts h rc o a w (effA E call ts h rc o) := by
  have ev : ∀ {x : Operand} {v : AV}, evs E ts x = some v → VR φ v (a.eval x) := fun h => evs_VR ok.gl ht h
  obtain ⟨dst, op, ty, pos, after, guard⟩ := o
  unfold effA
  simp only
  split
  · -- store
    split
    · rename_i ha hx
      split
      · rename_i h' hst
        obtain ⟨w', hr, hok, hfr⟩ := storeA_run ok (ev ha) (ev hx) hst
        exact .skip h' φ w' hok hfr (by simp [execOp, hr])
      · exact .fail _ _
    · exact .fail _ _
  · -- mapUpdate
    split
    · rename_i hm hk hx
      split
      · rename_i h' hst
        obtain ⟨w', hr, hok, hfr⟩ := mapUpdateA_run ok (ev hm) (ev hk) (ev hx) hst
        exact .skip h' φ w' hok hfr (by simp [execOp, hr])
      · exact .fail _ _
    · exact .fail _ _
  · -- insert
    split
    · rename_i hm hk hx
      split
      · rename_i h' hst
        obtain ⟨w', hr, hok, hfr⟩ := mapUpdateA_run ok (ev hm) (ev hk) (ev hx) hst
        exact .skip h' φ w' hok hfr (by simp [execOp, hr])
      · exact .fail _ _
    · exact .fail _ _
  · -- convert
    rename_i src dst x
    split
    · rename_i v h' hc
      cases hx : evs E ts x with
      | none => rw [hx] at hc; simp [convA] at hc
      | some xv =>
        rw [hx] at hc
        exact done_val (convA_run ok hc (ev hx)) rfl
    · exact .fail _ _
  · -- next
    split
    · rename_i hi
      split
      · rename_i hn
        exact done_val (nextA_run ok hn (ev hi) ty) rfl
      · exact .fail _ _
    · exact .fail _ _
  · -- panic
    split
    · rename_i hx
      have h1 := ev hx
      generalize hcv : a.eval _ = cv at h1
      cases h1 with
      | iface t1 v1 v' hv =>
      exact .panic _ _ (.iface _ _ v' hv) (by simp [execOp, hcv, Instr.panic])
    · exact .fail _ _
  · -- defer
    split
    · exact .fail _ _
    · rename_i f args hnb hc
      obtain ⟨t, vs, all, hl, ⟨cap, rfl, rfl⟩, hr⟩ := callee_run ok.gl ht hc ty
      exact .defer _ { target := .fn (.func f) cap.toArray, args := vs.toArray } (isBar_of hnb) ⟨cap.toArray, rfl, by simpa using hl⟩ (by simp [execOp, hr])
    · exact .fail _ _
  · -- call
    rename_i c
    split
    · -- append
      rename_i hcal
      split
      · rename_i s x has
        have hl := evAll_LR ok.gl ht has
        obtain ⟨s', r1, hr1, hs, hl1⟩ := hl.uncons
        obtain ⟨x', r2, hr2, hx, hl2⟩ := hl1.uncons
        have h0 : c.args.map a.eval = #[s', x'] := by rw [map_toArray, hr1, hr2, hl2.nil_inv]
        split
        · rename_i hap
          exact done_val (appendA_run ok hap hs hx ty) (by simp [execOp, resolve, hcal, invoke, builtin, h0])
        · exact .fail _ _
      · exact .fail _ _
    · -- copy
      rename_i hcal
      split
      · rename_i s x has
        have hl := evAll_LR ok.gl ht has
        obtain ⟨s', r1, hr1, hs, hl1⟩ := hl.uncons
        obtain ⟨x', r2, hr2, hx, hl2⟩ := hl1.uncons
        have h0 : c.args.map a.eval = #[s', x'] := by rw [map_toArray, hr1, hr2, hl2.nil_inv]
        split
        · rename_i hap
          exact done_val (copyA_run ok hap hs hx ty) (by simp [execOp, resolve, hcal, invoke, builtin, h0])
        · exact .fail _ _
      · exact .fail _ _
    · -- recover
      rename_i hcal
      have hrun : (execOp a.eval ⟨dst, .call c, ty, pos, after, guard⟩).run E.P w = .ok .recover w := by simp [execOp, resolve, hcal, invoke, builtin]
      split
      · exact .recov _ rfl hrun
      · exact .fail _ _
      · rename_i hne hnb
        exact .norec (fun v e => hne v e) (isBar_of hnb) hrun
    · -- a function
      rename_i fo hcal
      split
      · rename_i F args hc
        obtain ⟨t, vs, all, hl, htg, hr⟩ := callee_run ok.gl ht hc ty
        have hrun : ∀ n start, Pushes E φ w F all n start → (execOp a.eval ⟨dst, .call c, ty, pos, after, guard⟩).run E.P w = .ok n w := fun n start hp => by
          have := invoke_pushes htg hp
          simp [execOp, hr, this]
        split
        · rename_i g hg
          split
          · rename_i v h' hgv
            cases F with
            | fn f => exact .enter v h' (.fn f) args all (hE.special f g hg args h v h' hgv).any trivial hl hrun
            | yld l => simp [specialOf] at hg
          · exact .fail _ _
        · split
          · rename_i v h' hcv
            exact .enter v h' F args all (hcall.ret F args h v h' hcv) htg.fnok hl hrun
          · rename_i v h' hcv
            exact .pent v h' F args all (hcall.panic F args h v h' hcv) htg.fnok hl hrun
          · exact .fail _ _
      · exact .fail _ _
    · -- a method
      rename_i r name hcal
      split
      · rename_i t x args hx has
        split
        · rename_i f hm
          have h1 := ev hx
          generalize hcv : a.eval r = cv at h1
          cases h1 with
          | iface t1 v1 v' hv =>
          have hl : LR φ (x :: args) (v' :: c.args.toList.map a.eval) := .cons hv (evAll_LR ok.gl ht has)
          have hrun : ∀ n start, Pushes E φ w (.fn f) (v' :: c.args.toList.map a.eval) n start → (execOp a.eval ⟨dst, .call c, ty, pos, after, guard⟩).run E.P w = .ok n w := fun n start hp => by
            cases hp with
            | fn f vs' hr =>
            have e1 : (#[v'] ++ (c.args.map a.eval)) = (v' :: c.args.toList.map a.eval).toArray := by rw [map_toArray]; simp
            have e2 : (#[Value.iface t v'] ++ c.args.map a.eval).extract 1 (#[Value.iface t v'] ++ c.args.map a.eval).size = c.args.map a.eval := by
              apply Array.ext'; simp
              exact List.take_of_length_le (by simp)
            have e3 : (#[Value.iface t v'] ++ c.args.map a.eval)[0]? = some (Value.iface t v') := by rw [Array.getElem?_append]; rfl
            simp only [execOp, resolve, hcal, hcv, Sem.run_bind, Sem.run_pure, Result.andThen_ok, invoke, e3, e2, callMethod, run_program, methodA_run hm, e1, hr]
          split
          · rename_i v h' hcv'
            exact .enter v h' (.fn f) _ _ (hcall.ret (.fn f) _ h v h' hcv') trivial hl hrun
          · rename_i v h' hcv'
            exact .pent v h' (.fn f) _ _ (hcall.panic (.fn f) _ h v h' hcv') trivial hl hrun
          · exact .fail _ _
        · exact .fail _ _
      · exact .fail _ _
    · exact .fail _ _
  · exact .fail _ _

structure OpOut (E : Env) (φ : Ph) (h : Heap) (w : World) (b : Frame) (K : Bool → List Frame) (ops : Array Oper) (rest : List Nat) (k : List Item) (m : Machine) (e : AEx) (s' : St) : Prop where
  is : ∃ φ' w' a' e', ExR φ' e e' ∧ SR φ' s'.ts s'.ds a' ∧ OK E φ' s'.h w' ∧ Fr φ h w φ' s'.h w' ∧ RCok φ' b K s'.rc ∧ OpArr E.P m b ops rest k (cur K s'.rc) e' a' w'

set_option maxHeartbeats 1000000 in
theorem opA_sound (hE : EnvOK E) {call : CallF} (hcall : CallOK E call) {ops : Array Oper} {i : Nat} {rest : List Nat} {o : Oper} (ho : ops[i]? = some o) {s s' : St} {e : AEx} (hop : opA E call s o = .ok e s')
    {φ : Ph} {a : Act} {w : World} {b : Frame} {k : List Item} {K : Bool → List Frame} (hs : SR φ s.ts s.ds a) (ok : OK E φ s.h w) (hrc : RCok φ b K s.rc) (hw : Region.wanted o (yielded ops a.tmps) = true) :
    OpOut E φ s.h w b K ops rest k (lone (b.atR a (.inRegion ops (i :: rest) :: k)) (cur K s.rc) w) e s' := by
  have hsem : (s.rc.isBar = false ∨ ∀ c, o.op ≠ .defer c) → o.semAt b.roundOf a.eval = execOp a.eval o := fun h => sem_of hrc h _
  unfold opA at hop
  split at hop
  · rename_i v hp
    have hnd : s.rc.isBar = false ∨ ∀ c, o.op ≠ .defer c := .inr (fun c e => by rw [e] at hp; simp [pureA] at hp)
    simp at hop; obtain ⟨rfl, rfl⟩ := hop
    obtain ⟨v', hv, hr⟩ := pureA_sound hE.ext ok.gl hs.ts hp
    exact ⟨φ, w, _, _, .normal, hs.put o.dst hv, ok, Fr.refl _ _ _, hrc, .one (go_value (hsem hnd) ho hw (hr w))⟩
  · split at hop
    · rename_i v hp
      have hnd : s.rc.isBar = false ∨ ∀ c, o.op ≠ .defer c := .inr (fun c e => by rw [e] at hp; simp [readA] at hp)
      simp at hop; obtain ⟨rfl, rfl⟩ := hop
      obtain ⟨v', hv, hr⟩ := readA_sound ok.gl ok hs.ts hp
      exact ⟨φ, w, _, _, .normal, hs.put o.dst hv, ok, Fr.refl _ _ _, hrc, .one (go_value (hsem hnd) ho hw (hr w rfl))⟩
    · split at hop
      · rename_i obj mk hp
        have hnd : s.rc.isBar = false ∨ ∀ c, o.op ≠ .defer c := .inr (fun c e => by rw [e] at hp; simp [allocA] at hp)
        split at hop
        · rename_i h' hn
          simp at hop; obtain ⟨rfl, rfl⟩ := hop
          obtain ⟨O, mk', hmade, hr⟩ := allocA_sound ok.gl hs.ts hp
          obtain ⟨hok, hfr, hle⟩ := ok.fresh (w' := w.alloc O) hn ⟨w.heap.size, 0, 0⟩ (by
              have := hmade.obj (φ.add s.h.nx ⟨w.heap.size, 0, 0⟩) w.heap.size (fun i m hm => by
                unfold Ph.add; split
                · rename_i e; subst e; exact absurd (ok.dom _ _ hm) (Nat.lt_irrefl _)
                · exact hm)
              rw [show (w.alloc O).heap = w.heap.push O from rfl]
              simpa using this)
            (fun c hne hc => by rw [show (w.alloc O).heap = w.heap.push O from rfl, Array.getElem?_push, if_neg (by simpa using hne)]) (by simp) (Nat.le_refl _) rfl rfl rfl
          have hv := hmade.val (φ.add s.h.nx ⟨w.heap.size, 0, 0⟩) s.h.nx w.heap.size hle (by simp [Ph.add])
          exact ⟨_, _, _, _, .normal, (hs.mono hle).put o.dst hv, hok, hfr, hrc.mono hle, .one (go_value (hsem hnd) ho hw (hr w))⟩
        · simp at hop
      · have heff := effA_sound hE hcall (rc := s.rc) (o := o) hs.ts ok
        have hnd : (∃ d, effA E call s.ts s.h s.rc o = .defer d) ∨ (∃ why q, effA E call s.ts s.h s.rc o = .fail why q) ∨ (s.rc.isBar = false ∨ ∀ c, o.op ≠ .defer c) := by
          by_cases hd : ∃ c, o.op = .defer c
          · obtain ⟨c, hd⟩ := hd
            unfold effA
            simp only [hd]
            split
            · exact .inr (.inl ⟨_, _, rfl⟩)
            · exact .inl ⟨_, rfl⟩
            · exact .inr (.inl ⟨_, _, rfl⟩)
          · exact .inr (.inr (.inr (fun c e => hd ⟨c, e⟩)))
        generalize effA E call s.ts s.h s.rc o = eo at hop heff hnd
        cases heff with
        | val v h' φ' w' v' hv ok' fr run =>
          have hnd := (hnd.resolve_left (by simp)).resolve_left (by simp)
          simp at hop; obtain ⟨rfl, rfl⟩ := hop
          exact ⟨φ', w', _, _, .normal, (hs.mono fr.ext).put o.dst hv, ok', fr, hrc.mono fr.ext, .one (go_value (hsem hnd) ho hw run)⟩
        | skip h' φ' w' ok' fr run =>
          have hnd := (hnd.resolve_left (by simp)).resolve_left (by simp)
          simp at hop; obtain ⟨rfl, rfl⟩ := hop
          exact ⟨φ', w', _, _, .normal, (hs.mono fr.ext).put o.dst (VR.undef φ'), ok', fr, hrc.mono fr.ext, .one (go_skip' (hsem hnd) ho hw run)⟩
        | enter v h' F args all hr hf hl run =>
          have hnd := (hnd.resolve_left (by simp)).resolve_left (by simp)
          simp at hop; obtain ⟨rfl, rfl⟩ := hop
          obtain ⟨n, start, hp, hst⟩ := hr φ w all ok hf hl
          obtain ⟨φ', w', v', hv, ok', fr, hsteps⟩ := hst (b.atR a (.inRegion ops (i :: rest) :: k)) (cur K s.rc)
          rw [fin_atR ho] at hsteps
          exact ⟨φ', w', _, _, .normal, (hs.mono fr.ext).put o.dst hv, ok', fr, hrc.mono fr.ext, .head (go_enter (hsem hnd) ho hw hp (run n start hp)) hsteps⟩
        | pent v h' F args all hr hf hl run =>
          have hnd := (hnd.resolve_left (by simp)).resolve_left (by simp)
          simp at hop; obtain ⟨rfl, rfl⟩ := hop
          obtain ⟨n, start, hp, hst⟩ := hr φ w all ok hf hl
          obtain ⟨φ', w', v', hv, ok', fr, hsteps⟩ := hst (b.atR a (.inRegion ops (i :: rest) :: k)) (cur K s.rc)
          rw [Frame.raise_atR] at hsteps
          exact ⟨φ', w', a, _, .panic v v' hv, hs.mono fr.ext, ok', fr, hrc.mono fr.ext, .inRegion ops (i :: rest) :: k, .head (go_enter (hsem hnd) ho hw hp (run n start hp)) hsteps⟩
        | defer d d' hnb hd run =>
          simp at hop; obtain ⟨rfl, rfl⟩ := hop
          have h1 : SR φ s.ts (d :: s.ds) { a with defers := d' :: a.defers } := ⟨hs.ts, hd, hs.ds⟩
          exact ⟨φ, w, _, _, .normal, h1.put o.dst (VR.undef φ), ok, Fr.refl _ _ _, hrc, .one (go_defers (sem_of hrc (.inl hnb) _) ho hw run)⟩
        | panic v v' hv run =>
          have hnd := (hnd.resolve_left (by simp)).resolve_left (by simp)
          simp at hop; obtain ⟨rfl, rfl⟩ := hop
          exact ⟨φ, w, a, _, .panic v v' hv, hs, ok, Fr.refl _ _ _, hrc, _, .one (go_pan (hsem hnd) ho hw run)⟩
        | recov v hrcv run =>
          simp at hop; obtain ⟨rfl, rfl⟩ := hop
          rw [hrcv] at hrc ⊢
          have hplain := hrc.plain rfl
          have hsem0 := sem_of hrc (o := o) (.inl rfl) a.eval
          obtain ⟨_, ⟨v', hv, htr⟩, hdone⟩ := hrc
          exact ⟨φ, w, _, _, .normal, hs.put o.dst hv, ok, Fr.refl _ _ _, ⟨hplain, hdone⟩, .one (go_recover hplain hsem0 ho hw run (htr _ rfl))⟩
        | norec hne hnb run =>
          simp at hop; obtain ⟨rfl, rfl⟩ := hop
          have hno : ∀ fr : Frame, fr.kind = b.kind → tryRecover fr (cur K s.rc) = none := by
            cases hrcc : s.rc with
            | no => rw [hrcc] at hrc; exact hrc.2
            | pend v => exact absurd hrcc (hne v)
            | done => rw [hrcc] at hrc; exact hrc.2
            | bar l => rw [hrcc] at hnb; simp [RC.isBar] at hnb
          exact ⟨φ, w, _, _, .normal, hs.put o.dst .nilIface, ok, Fr.refl _ _ _, hrc, .one (go_recover_no (hrc.plain hnb) (sem_of hrc (.inl hnb) _) ho hw run (hno _ rfl))⟩
        | fail why q => simp at hop

end Go.Ab
