/-
  A FAST RUN: regions and text.
-/
import Derived.Test.YtaiemlmlompmmaaGreatDoorAbFi
import Derived.Test.YtaiemlmlompmmaaGreatDoorAbDraw5
namespace Go.Ab.Fa
variable {E : Env} {F : RF} {n : Nat}

def FOk (_E : Env) (F : RF) (n : Nat) (o : FO F.T) (out : Out) : Prop := match o with
  | .nrm r h y => out = .ok .normal ⟨toL F n r, h, y.ds, y.rc⟩
  | .jmp e r h y => e ≠ .normal ∧ out = .ok e ⟨toL F n r, h, y.ds, y.rc⟩
  | .bad => True

theorem opA_pur {call : CallF} {s : St} {o : Oper} {v : AV} (h : pureA E s.ts o.op = some v) : opA E call s o = .ok .normal { s with ts := putT s.ts o.dst v } := by
  simp only [opA, h]
theorem opA_red {call : CallF} {s : St} {o : Oper} {v : AV} (h0 : pureA E s.ts o.op = none) (h : readA E s.ts s.h o.op = some v) : opA E call s o = .ok .normal { s with ts := putT s.ts o.dst v } := by
  simp only [opA, h0, h]
theorem opA_eff {call : CallF} {s : St} {o : Oper} (nn : Nones E o.op) : opA E call s o = (match effA E call s.ts s.h s.rc o with
    | .val v h' => .ok .normal { s with ts := putT s.ts o.dst v, h := h' }
    | .defer d => .ok .normal { s with ts := putT s.ts o.dst AV.undef, ds := d :: s.ds }
    | .recov v => .ok .normal { s with ts := putT s.ts o.dst v, rc := .done }
    | .panic v h' => .ok (.panic v) { s with h := h' }
    | .fail why q => .fail why q) := by
  simp only [opA, nn.1, nn.2.1, nn.2.2]
  generalize effA E call s.ts s.h s.rc o = x
  cases x <;> rfl
noncomputable def contA (E : Env) (call : CallF) (ops : Array Oper) (rest : List Oper) (out : Out) : Out := match out with
  | .ok .normal s' => opsA E call ops rest s'
  | r => r
theorem seqK_ok {ops : Array Oper} {o : Oper} {rest : List Oper} {kd : Kd F.T} {s : AV → F.T → F.T} {j : I F.T} {fc call : CallF} (hle : CallLe fc call) (hk : KdOK E F n o.op kd)
    (hs : ∀ v r, putT (toL F n r) o.dst v = toL F n (s v r)) (hj : ∀ r h y, FOk E F n (j.run fc r h y) (opsA E call ops rest ⟨toL F n r, h, y.ds, y.rc⟩)) (r : F.T) (h : Heap) (y : Y) :
    FOk E F n ((seqK kd s j).run fc r h y) (contA E call ops rest (opA E call ⟨toL F n r, h, y.ds, y.rc⟩ o)) := by
  cases kd with
  | tot g =>
    rw [opA_pur (s := ⟨toL F n r, h, y.ds, y.rc⟩) (hk r)]
    show FOk E F n (j.run fc (s (g r) r) h y) (opsA E call ops rest ⟨putT (toL F n r) o.dst (g r), h, y.ds, y.rc⟩)
    rw [hs]; exact hj _ _ _
  | pur f =>
    show FOk E F n (ob .bad (fun v => j.run fc (s v r) h y) (f r)) _
    cases hf : f r with
    | none => trivial
    | some v =>
      rw [opA_pur (s := ⟨toL F n r, h, y.ds, y.rc⟩) (hk r v hf)]
      show FOk E F n (j.run fc (s v r) h y) (opsA E call ops rest ⟨putT (toL F n r) o.dst v, h, y.ds, y.rc⟩)
      rw [hs]; exact hj _ _ _
  | red f =>
    show FOk E F n (ob .bad (fun v => j.run fc (s v r) h y) (f r h)) _
    cases hf : f r h with
    | none => trivial
    | some v =>
      rcases hk r h v hf with h0 | ⟨h0, h1⟩
      · rw [opA_pur (s := ⟨toL F n r, h, y.ds, y.rc⟩) h0]
        show FOk E F n (j.run fc (s v r) h y) (opsA E call ops rest ⟨putT (toL F n r) o.dst v, h, y.ds, y.rc⟩)
        rw [hs]; exact hj _ _ _
      rw [opA_red (s := ⟨toL F n r, h, y.ds, y.rc⟩) h0 h1]
      show FOk E F n (j.run fc (s v r) h y) (opsA E call ops rest ⟨putT (toL F n r) o.dst v, h, y.ds, y.rc⟩)
      rw [hs]; exact hj _ _ _
  | alc f =>
    obtain ⟨h0, h1, h2⟩ := hk
    show FOk E F n (ob .bad (fun p => ob .bad (fun h' => j.run fc (s (p.2 h.nx) r) h' y) (h.new p.1)) (f r)) _
    cases hf : f r with
    | none => trivial
    | some p =>
      obtain ⟨obj, mk⟩ := p
      show FOk E F n (ob .bad (fun h' => j.run fc (s (mk h.nx) r) h' y) (h.new obj)) _
      cases hh : h.new obj with
      | none => trivial
      | some h' =>
        have : opA E call ⟨toL F n r, h, y.ds, y.rc⟩ o = .ok .normal ⟨putT (toL F n r) o.dst (mk h.nx), h', y.ds, y.rc⟩ := by
          simp only [opA, h0, h1, h2 r _ hf, hh]
        rw [this, hs]; exact hj _ _ _
  | wr f =>
    obtain ⟨nn, h1⟩ := hk
    show FOk E F n (ob .bad (fun p => j.run fc (s p.1 r) p.2 y) (f r h)) _
    cases hf : f r h with
    | none => trivial
    | some p =>
      rw [opA_eff nn, h1 call r h y.rc o p rfl hf]
      show FOk E F n (j.run fc (s p.1 r) p.2 y) (opsA E call ops rest ⟨putT (toL F n r) o.dst p.1, p.2, y.ds, y.rc⟩)
      rw [hs]; exact hj _ _ _
  | call g args =>
    obtain ⟨nn, h1⟩ := hk
    rw [opA_eff nn, h1 call r h y.rc o rfl]
    show FOk E F n (COut.rec (motive := fun _ => FO F.T) (fun v h' => j.run fc (s v r) h' y) (fun v h' => .jmp (.panic v) r h' y) (fun _ _ => .bad) (fc g (args r) h)) _
    cases hc : fc g (args r) h with
    | fail _ _ => trivial
    | ret v h' =>
      rw [(hle _ _ _).1 v h' hc]
      show FOk E F n (j.run fc (s v r) h' y) (opsA E call ops rest ⟨putT (toL F n r) o.dst v, h', y.ds, y.rc⟩)
      rw [hs]; exact hj _ _ _
    | panic v h' =>
      rw [(hle _ _ _).2 v h' hc]
      exact ⟨by simp, rfl⟩
  | eff f =>
    obtain ⟨nn, h1⟩ := hk
    rw [opA_eff nn]
    have h2 := h1 fc call hle r h y.rc o rfl
    show FOk E F n (EOut.rec (motive := fun _ => FO F.T) (fun v h' => j.run fc (s v r) h' y) (fun d => j.run fc (s AV.undef r) h ⟨d :: y.ds, y.rc⟩) (fun v => j.run fc (s v r) h ⟨y.ds, .done⟩)
      (fun v h' => .jmp (.panic v) r h' y) (fun _ _ => .bad) (f fc r h y.rc)) _
    cases he : f fc r h y.rc with
    | fail _ _ => trivial
    | val v h' =>
      rw [he] at h2
      have h2 : effA E call (toL F n r) h y.rc o = .val v h' := h2
      rw [h2]
      show FOk E F n (j.run fc (s v r) h' y) (opsA E call ops rest ⟨putT (toL F n r) o.dst v, h', y.ds, y.rc⟩)
      rw [hs]; exact hj _ _ _
    | defer d =>
      rw [he] at h2
      have h2 : effA E call (toL F n r) h y.rc o = .defer d := h2
      rw [h2]
      show FOk E F n (j.run fc (s AV.undef r) h ⟨d :: y.ds, y.rc⟩) (opsA E call ops rest ⟨putT (toL F n r) o.dst AV.undef, h, d :: y.ds, y.rc⟩)
      rw [hs]; exact hj _ _ ⟨d :: y.ds, y.rc⟩
    | recov v =>
      rw [he] at h2
      have h2 : effA E call (toL F n r) h y.rc o = .recov v := h2
      rw [h2]
      show FOk E F n (j.run fc (s v r) h ⟨y.ds, .done⟩) (opsA E call ops rest ⟨putT (toL F n r) o.dst v, h, y.ds, .done⟩)
      rw [hs]; exact hj _ _ ⟨y.ds, .done⟩
    | panic v h' =>
      rw [he] at h2
      have h2 : effA E call (toL F n r) h y.rc o = .panic v h' := h2
      rw [h2]
      exact ⟨by simp, rfl⟩
  | bad => trivial

/-! ### Guards -/
def wantAt (ts : List AV) (d : Nat) (want : Bool) : Bool := match ts[d]? with
  | some (.bool b) => b == want
  | _ => false
theorem wantAt_none {ts : List AV} {d : Nat} (h : ts.length ≤ d) (want : Bool) : wantAt ts d want = false := by
  unfold wantAt; rw [List.getElem?_eq_none h]
theorem wantAt_some {ts : List AV} {d : Nat} {v : AV} (h : ts[d]? = some v) (want : Bool) : wantAt ts d want = vBool (fun b => b == want) false v := by
  unfold wantAt; rw [h]; cases v <;> rfl
theorem wanted_guard (ops : Array Oper) (ts : List AV) (o : Oper) {j : Nat} {want : Bool} (hg : o.guard = some (j, want)) : wantedA ops ts o = (match (ops[j]?).bind (·.dst) with
    | some d => match ts[d]? with
      | some (.bool b) => b == want
      | _ => false
    | none => false) := by simp only [wantedA, hg]; rfl
theorem dst_at (ops : Array Oper) (j : Nat) : ob none (fun p => p.dst) (lnth ops.toList j) = (ops[j]?).bind (·.dst) := by
  rw [lnth_eq, Array.getElem?_toList]; cases ops[j]? <;> rfl
theorem wantK_eq (_hn : n ≤ F.N) (ops : Array Oper) (o : Oper) (a b : I F.T) (call : CallF) (r : F.T) (h : Heap) (y : Y) :
    (wantK F n ops o a b).run call r h y = bif wantedA ops (toL F n r) o then a.run call r h y else b.run call r h y := by
  unfold wantK
  cases hg : o.guard with
  | none => simp only [wantedA, hg]; rfl
  | some p =>
    obtain ⟨j, want⟩ := p
    rw [wanted_guard ops _ o hg]
    simp only [dst_at]
    cases (ops[j]?).bind (·.dst) with
    | none => rfl
    | some d =>
      show (bc (Nat.ble n d) b (guardK (F.get d).f want a b)).run call r h y = bif wantAt (toL F n r) d want then a.run call r h y else b.run call r h y
      cases hd : Nat.ble n d with
      | true =>
        rw [wantAt_none (by rw [toL_length]; exact ble_le hd)]; rfl
      | false =>
        rw [wantAt_some (toL_get F n r (ble_lt hd)), bc_false]
        cases want with
        | true =>
          show vBool (fun t => bc t (a.run call r h y) (b.run call r h y)) (b.run call r h y) ((F.get d).f r) = _
          cases (F.get d).f r with
          | bool t => cases t <;> rfl
          | _ => rfl
        | false =>
          show vBool (fun t => bc t (b.run call r h y) (a.run call r h y)) (b.run call r h y) ((F.get d).f r) = _
          cases (F.get d).f r with
          | bool t => cases t <;> rfl
          | _ => rfl
theorem dwant_eq (_hn : n ≤ F.N) (ops : Array Oper) (o : Oper) (a b : D F.T) (call : CallF) (r : F.T) (h : Heap) (y : Y) :
    (dwant F n ops o a b).run call r h y = bif wantedA ops (toL F n r) o then a.run call r h y else b.run call r h y := by
  unfold dwant
  cases hg : o.guard with
  | none => simp only [wantedA, hg]; rfl
  | some p =>
    obtain ⟨j, want⟩ := p
    rw [wanted_guard ops _ o hg]
    simp only [dst_at]
    cases (ops[j]?).bind (·.dst) with
    | none => rfl
    | some d =>
      show (bc (Nat.ble n d) b (dguard (F.get d).f want a b)).run call r h y = bif wantAt (toL F n r) d want then a.run call r h y else b.run call r h y
      cases hd : Nat.ble n d with
      | true =>
        rw [wantAt_none (by rw [toL_length]; exact ble_le hd)]; rfl
      | false =>
        rw [wantAt_some (toL_get F n r (ble_lt hd)), bc_false]
        cases want with
        | true =>
          show vBool (fun t => bc t (a.run call r h y) (b.run call r h y)) (b.run call r h y) ((F.get d).f r) = _
          cases (F.get d).f r with
          | bool t => cases t <;> rfl
          | _ => rfl
        | false =>
          show vBool (fun t => bc t (b.run call r h y) (a.run call r h y)) (b.run call r h y) ((F.get d).f r) = _
          cases (F.get d).f r with
          | bool t => cases t <;> rfl
          | _ => rfl

theorem compOps_ok (hn : n ≤ F.N) {fc call : CallF} (hle : CallLe fc call) (ops : Array Oper) : ∀ (l : List Oper) (r : F.T) (h : Heap) (y : Y),
    FOk E F n ((compOps E F n ops l).run fc r h y) (opsA E call ops l ⟨toL F n r, h, y.ds, y.rc⟩)
  | [], r, h, y => rfl
  | o :: rest, r, h, y => by
    have ih := compOps_ok hn hle ops rest
    show FOk E F n ((compO E F n ops o (compOps E F n ops rest)).run fc r h y) _
    unfold compO
    obtain ⟨s, h1, hs⟩ := wS_spec F n hn o.dst (fun s => wantK F n ops o (seqK (compK E F n o.op) s (compOps E F n ops rest)) (skipK s (compOps E F n ops rest)))
    rw [h1, wantK_eq hn]
    rw [opsA]
    cases hw : wantedA ops (toL F n r) o with
    | true =>
      rw [if_pos rfl]
      exact seqK_ok hle (compK_ok o.op) hs ih r h y
    | false =>
      rw [if_neg (by simp)]
      show FOk E F n ((compOps E F n ops rest).run fc (s AV.undef r) h y) _
      simp only [hs]
      exact ih _ _ _

/-! ### Regions that draw their order -/
def madeOf : TK → Option Nat
  | .alc n _ => some n
  | _ => none
theorem madeIds_cons (x : Step) (t : List Step) : madeIds (x :: t) = match madeOf x.kind with | none => madeIds t | some i => i :: madeIds t := by
  show List.filterMap (fun x : Step => madeOf x.kind) (x :: t) = _
  rw [List.filterMap_cons]; cases madeOf x.kind <;> rfl
inductive TrRel (E : Env) (ops : Array Oper) (pl : Plan) : List Chk → List Step → Prop
  | nil : TrRel E ops pl [] []
  | skip {x : Step} {c : List Chk} {t : List Step} (hs : ∀ h, stillS E ops x h = true) (hm : madeOf x.kind = none) (ht : TrRel E ops pl c t) : TrRel E ops pl c (x :: t)
  | chk {x : Step} {c0 : Chk} {c : List Chk} {t : List Step} (hk : c0.k = x.k) (hl : c0.m = latest pl.effs pl.an x.i + 1 - x.k) (hm : madeOf x.kind = c0.made)
      (hs : ∀ h, c0.f h = true → stillS E ops x h = true) (ht : TrRel E ops pl c t) : TrRel E ops pl (c0 :: c) (x :: t)
theorem TrRel.made {ops : Array Oper} {pl : Plan} {c : List Chk} {t : List Step} (h : TrRel E ops pl c t) : madeF c = madeIds t := by
  induction h with
  | nil => rfl
  | skip hs hm ht ih => rw [madeIds_cons, hm]; exact ih
  | chk hk hl hm hs ht ih =>
    rename_i x c0 c t
    show ob (madeF c) (fun i => i :: madeF c) c0.made = _
    rw [madeIds_cons, hm, ih]
    cases c0.made <;> rfl
theorem TrRel.all {ops : Array Oper} {pl : Plan} {hs : List Heap} {c : List Chk} {t : List Step} (h : TrRel E ops pl c t) (e : c.all (fun x => lall x.f (ltake (ldrop hs x.k) x.m)) = true) :
    t.all (fun x => ((hs.drop x.k).take (latest pl.effs pl.an x.i + 1 - x.k)).all (stillS E ops x)) = true := by
  induction h with
  | nil => rfl
  | skip hs' hm ht ih =>
    rw [List.all_cons, ih e, Bool.and_true, List.all_eq_true]
    intro h _; exact hs' h
  | chk hk hl hm hs' ht ih =>
    rw [List.all_cons, Bool.and_eq_true] at e
    rw [List.all_cons, ih e.2, Bool.and_true, List.all_eq_true]
    have e1 := e.1
    rw [lall_eq, ltake_eq, ldrop_eq, List.all_eq_true, hk, hl] at e1
    intro h hh; exact hs' h (e1 h hh)
theorem lastlyF_ok {ops : Array Oper} {pl : Plan} {hs : List Heap} {c : List Chk} {t : List Step} (h : TrRel E ops pl c t) (e : lastlyF c hs = true) : lastly E ops pl t hs = true := by
  unfold lastlyF at e
  rw [bc_and, Bool.and_eq_true, nodupF_eq, lall_eq, h.made] at e
  unfold lastly
  rw [Bool.and_eq_true]
  exact ⟨e.1, h.all e.2⟩
def DOk (E : Env) (F : RF) (n : Nat) (ops : Array Oper) (pl : Plan) (d : DO F.T) (t : TOut) : Prop := match d with
  | .ok tr hs r h y => ∃ tr', t = .ok tr' hs ⟨toL F n r, h, y.ds, y.rc⟩ ∧ TrRel E ops pl tr tr'
  | .bad => True
theorem DOk.skip {ops : Array Oper} {pl : Plan} {d : DO F.T} {t : TOut} (h : DOk E F n ops pl d t) {x : Step} (hs : ∀ h, stillS E ops x h = true) (hm : madeOf x.kind = none) : DOk E F n ops pl d (t.step x) := by
  cases d with
  | bad => trivial
  | ok tr hs' r h' y =>
    obtain ⟨tr', rfl, h2⟩ := h
    exact ⟨x :: tr', rfl, .skip hs hm h2⟩
theorem DOk.bound {ops : Array Oper} {pl : Plan} {d : DO F.T} {t : TOut} (h : DOk E F n ops pl d t) (h0 : Heap) : DOk E F n ops pl (dbound h0 d) (t.bound h0) := by
  cases d with
  | bad => trivial
  | ok tr hs' r h' y =>
    obtain ⟨tr', rfl, h2⟩ := h
    exact ⟨tr', rfl, h2⟩
theorem DOk.chk {ops : Array Oper} {pl : Plan} {d : DO F.T} {t : TOut} (h : DOk E F n ops pl d t) {x : Step} {c : Chk} (hk : c.k = x.k) (hl : c.m = latest pl.effs pl.an x.i + 1 - x.k)
    (hm : madeOf x.kind = c.made) (hs : ∀ h, c.f h = true → stillS E ops x h = true) : DOk E F n ops pl (dstep c d) (t.step x) := by
  cases d with
  | bad => trivial
  | ok tr hs' r h' y =>
    obtain ⟨tr', rfl, h2⟩ := h
    exact ⟨x :: tr', rfl, .chk hk hl hm hs h2⟩
theorem sameF_ok : ∀ (m : Nat) (x y : AV), sameF m x y = true → AV.same m x y = true
  | 0, _, _, e => by cases e
  | m + 1, x, y, e => by
    have ih := sameF_ok m
    have all : ∀ (a b : List AV), leq (sameF m) a b = true → listAll2 (AV.same m) a b = true := by
      intro a
      induction a with
      | nil => intro b; cases b <;> intro e <;> first | rfl | cases e
      | cons x tl ihl =>
        intro b
        cases b with
        | nil => intro e; cases e
        | cons y tm =>
          intro e
          have e : bc (sameF m x y) (leq (sameF m) tl tm) false = true := e
          rw [bc_and, Bool.and_eq_true] at e
          rw [listAll2, Bool.and_eq_true]
          exact ⟨ih _ _ e.1, ihl _ e.2⟩
    cases x with
    | int k a => cases y with
      | int j b =>
        have e : bc (kbeq k j) (ieq a b) false = true := e
        rw [bc_and, Bool.and_eq_true, ieq_eq] at e
        rw [AV.same, kbeq_of e.1, e.2]; simp
      | _ => cases e
    | str a => cases y with
      | str b =>
        have e : leq u8eq a b = true := e
        rw [leq_eq] at e
        rw [AV.same]; exact e
      | _ => cases e
    | ptr i o => cases y with
      | ptr j p =>
        have e : bc (Nat.beq i j) (Nat.beq o p) false = true := e
        rw [bc_and, Bool.and_eq_true] at e
        rw [AV.same, beq_of e.1, beq_of e.2]; simp
      | _ => cases e
    | bool a => cases y with
      | bool b =>
        have e : bc a b (bnot b) = true := e
        rw [AV.same]
        cases a <;> cases b <;> first | rfl | cases e
      | _ => cases e
    | agg a => cases y with
      | agg b => rw [AV.same]; exact all a b e
      | _ => cases e
    | _ => exact e
theorem compD_ok (hn : n ≤ F.N) {fc call : CallF} (hle : CallLe fc call) (ops : Array Oper) (pl : Plan) : ∀ (l : List Nat) (k : Nat) (r : F.T) (h : Heap) (y : Y),
    DOk E F n ops pl ((compD E F n ops pl l k).run fc r h y) (drawT E call ops l k ⟨toL F n r, h, y.ds, y.rc⟩)
  | [], k, r, h, y => ⟨[], rfl, .nil⟩
  | i :: rest, k, r, h, y => by
    have ih := compD_ok hn hle ops pl rest
    rw [drawT]
    show DOk E F n ops pl (D.run (ob ⟨fun _ _ _ _ => .bad⟩ (fun o => wS F n o.dst fun s =>
      bc (effBF E o.op) (canon (k + 1) fun k' => dwant F n ops o (dseqE (compK E F n o.op) s (compD E F n ops pl rest k')) (dskipE s (compD E F n ops pl rest k')))
        (canon (latestF pl.effs pl.an i + 1 - k) fun m => dwant F n ops o (dseqN k m (compK E F n o.op) s (compD E F n ops pl rest k)) (dskip s (compD E F n ops pl rest k)))) (lnth ops.toList i)) fc r h y) _
    rw [lnth_eq, Array.getElem?_toList]
    cases ho : ops[i]? with
    | none => trivial
    | some o =>
      have hget : (ops.getD i default).op = o.op := by rw [Array.getD_eq_getD_getElem?, ho]; rfl
      simp only [ob_some, canon_eq, effBF_eq, latestF_eq]
      obtain ⟨s, h1, hs⟩ := wS_spec F n hn o.dst (fun s =>
        bc (effB E o.op) (dwant F n ops o (dseqE (compK E F n o.op) s (compD E F n ops pl rest (k + 1))) (dskipE s (compD E F n ops pl rest (k + 1))))
        (dwant F n ops o (dseqN k (latest pl.effs pl.an i + 1 - k) (compK E F n o.op) s (compD E F n ops pl rest k)) (dskip s (compD E F n ops pl rest k))))
      rw [h1]
      have hk := compK_ok (E := E) (F := F) (n := n) o.op
      generalize compK E F n o.op = kd at hk
      cases he : effB E o.op with
      | true =>
        rw [bc_true, dwant_eq hn, if_pos rfl]
        cases hw : wantedA ops (toL F n r) o with
        | false =>
          rw [if_neg (by simp)]
          show DOk E F n ops pl (dbound h ((compD E F n ops pl rest (k + 1)).run fc (s AV.undef r) h y)) _
          simp only [hs]
          exact ((ih _ _ _ _).bound h).skip (fun _ => rfl) rfl
        | true =>
          rw [if_pos rfl]
          show DOk E F n ops pl ((dseqE kd s (compD E F n ops pl rest (k + 1))).run fc r h y) _
          cases kd with
          | wr f =>
            show DOk E F n ops pl (ob .bad (fun p => dbound h ((compD E F n ops pl rest (k + 1)).run fc (s p.1 r) p.2 y)) (f r h)) _
            cases hf : f r h with
            | none => trivial
            | some p =>
              simp only [hk.2 call r h y.rc o p rfl hf, hs]
              exact ((ih _ _ _ _).bound h).skip (fun _ => rfl) rfl
          | call g args =>
            show DOk E F n ops pl (COut.rec (motive := fun _ => DO F.T) (fun v h' => dbound h ((compD E F n ops pl rest (k + 1)).run fc (s v r) h' y)) (fun _ _ => .bad) (fun _ _ => .bad) (fc g (args r) h)) _
            cases hc : fc g (args r) h with
            | fail _ _ => trivial
            | panic _ _ => trivial
            | ret v h' =>
              simp only [hk.2 call r h y.rc o rfl, (hle _ _ _).1 v h' hc, fromC, hs]
              exact ((ih _ _ _ _).bound h).skip (fun _ => rfl) rfl
          | eff f =>
            show DOk E F n ops pl (EOut.rec (motive := fun _ => DO F.T) (fun v h' => dbound h ((compD E F n ops pl rest (k + 1)).run fc (s v r) h' y)) (fun _ => .bad) (fun _ => .bad) (fun _ _ => .bad) (fun _ _ => .bad) (f fc r h y.rc)) _
            have h2 := hk.2 fc call hle r h y.rc o rfl
            cases hf : f fc r h y.rc with
            | val v h' =>
              rw [hf] at h2
              have h2 : effA E call (toL F n r) h y.rc o = .val v h' := h2
              simp only [h2, hs]
              exact ((ih _ _ _ _).bound h).skip (fun _ => rfl) rfl
            | _ => trivial
          | _ => trivial
      | false =>
        rw [bc_false, dwant_eq hn, if_neg (by simp)]
        cases hw : wantedA ops (toL F n r) o with
        | false =>
          rw [if_neg (by simp)]
          show DOk E F n ops pl ((compD E F n ops pl rest k).run fc (s AV.undef r) h y) _
          simp only [hs]
          exact (ih _ _ _ _).skip (fun _ => rfl) rfl
        | true =>
          rw [if_pos rfl]
          show DOk E F n ops pl ((dseqN k (latest pl.effs pl.an i + 1 - k) kd s (compD E F n ops pl rest k)).run fc r h y) _
          cases kd with
          | tot g =>
            simp only [hk r, hs]
            exact (ih _ _ _ _).skip (fun _ => rfl) rfl
          | pur f =>
            show DOk E F n ops pl (ob .bad (fun v => (compD E F n ops pl rest k).run fc (s v r) h y) (f r)) _
            cases hf : f r with
            | none => trivial
            | some v =>
              simp only [hk r v hf, hs]
              exact (ih _ _ _ _).skip (fun _ => rfl) rfl
          | red f =>
            show DOk E F n ops pl (ob .bad (fun v => dstep ⟨k, _, none, fun h' => ob false (fun v' => sameF 20 v' v) (f r h')⟩ ((compD E F n ops pl rest k).run fc (s v r) h y)) (f r h)) _
            cases hf : f r h with
            | none => trivial
            | some v =>
              rcases hk r h v hf with q0 | ⟨q0, q1⟩
              · simp only [q0, hs]
                exact (ih _ _ _ _).chk rfl rfl rfl fun h' _ => rfl
              simp only [q0, q1, hs]
              refine (ih _ _ _ _).chk rfl rfl rfl fun h' e => ?_
              have e : ob false (fun v' => sameF 20 v' v) (f r h') = true := e
              cases hf' : f r h' with
              | none => rw [hf'] at e; cases e
              | some v' =>
                rw [hf'] at e
                rcases hk r h' v' hf' with q2 | ⟨_, q3⟩
                · rw [q0] at q2; cases q2
                simp only [stillS, hget, q3]
                exact sameF_ok 20 v' v e
          | alc f =>
            obtain ⟨h3, h4, h5⟩ := hk
            show DOk E F n ops pl (ob .bad (fun p => ob .bad (fun h' => dstep ⟨k, _, some h.nx, fun h'' => ob false (fun o => AObj.same o p.1) (h''.get h.nx)⟩ ((compD E F n ops pl rest k).run fc (s (p.2 h.nx) r) h' y)) (h.new p.1)) (f r)) _
            cases hf : f r with
            | none => trivial
            | some p =>
              obtain ⟨obj, mk⟩ := p
              show DOk E F n ops pl (ob .bad (fun h' => dstep ⟨k, _, some h.nx, fun h'' => ob false (fun o => AObj.same o obj) (h''.get h.nx)⟩ ((compD E F n ops pl rest k).run fc (s (mk h.nx) r) h' y)) (h.new obj)) _
              cases hh : h.new obj with
              | none => trivial
              | some h' =>
                simp only [h3, h4, h5 r _ hf, hh, hs]
                refine (ih _ _ _ _).chk rfl rfl rfl fun h'' e => ?_
                have e : ob false (fun o => AObj.same o obj) (h''.get h.nx) = true := e
                cases hf' : h''.get h.nx with
                | none => rw [hf'] at e; cases e
                | some o' =>
                  rw [hf'] at e
                  simp only [stillS, hf']
                  exact e
          | _ => trivial
theorem effA_pan {fc call : CallF} (hle : CallLe fc call) {ts : List AV} {h h' : Heap} {rc : RC} {dst : Option Tmp} {c : Call} {ty : TypeId} {pos : String} {after : Array Edge} {guard : Option (Nat × Bool)} {v : AV} (e : effA E fc ts h rc ⟨dst, .call c, ty, pos, after, guard⟩ = .panic v h') :
    effA E call ts h rc ⟨dst, .call c, ty, pos, after, guard⟩ = .panic v h' := by
  obtain ⟨cal, args, aT⟩ := c
  cases cal with
  | builtin b =>
    cases b <;> simp only [effA] at e <;> (try (simp at e; done)) <;> (split at e <;> (try (simp at e; done)) <;> (try (split at e <;> simp at e)))
  | value f =>
    simp only [effA] at e ⊢
    split at e
    · split at e
      · split at e <;> simp at e
      · split at e
        · simp at e
        · rename_i hc
          simp at e; obtain ⟨rfl, rfl⟩ := e
          simp only [(hle _ _ _).2 _ _ hc]
        · simp at e
    · simp at e
  | invoke x name =>
    simp only [effA] at e ⊢
    split at e
    · split at e
      · split at e
        · simp at e
        · rename_i hc
          simp at e; obtain ⟨rfl, rfl⟩ := e
          simp only [(hle _ _ _).2 _ _ hc]
        · simp at e
      · simp at e
    · simp at e
theorem TrRel.snoc {ops : Array Oper} {pl : Plan} {c : List Chk} {t : List Step} (h : TrRel E ops pl c t) {x : Step} (hs : ∀ h, stillS E ops x h = true) (hm : madeOf x.kind = none) : TrRel E ops pl c (t ++ [x]) := by
  induction h with
  | nil => exact .skip hs hm .nil
  | skip a b _ ih => exact .skip a b ih
  | chk a b d e _ ih => exact .chk a b d e ih
theorem panF_ok (hn : n ≤ F.N) {fc call : CallF} (hle : CallLe fc call) (ops : Array Oper) (pl : Plan) (r : F.T) (h : Heap) (y : Y) :
    FOk E F n (panF E F n ops pl fc r h y) (match drawT E call ops pl.order 0 ⟨toL F n r, h, y.ds, y.rc⟩ with
      | .ok tr hs s' => if lastly E ops pl tr hs then .ok .normal s' else .fail "still" (ops[0]?)
      | .fail why o => match panicA E call ops ⟨toL F n r, h, y.ds, y.rc⟩ pl with
        | some (v, s2) => .ok (.panic v) s2
        | none => .fail why o) := by
  unfold panF
  split
  · trivial
  rename_i i front hrev
  split
  · rename_i tr hs r1 h1 y1 dst c ty pos after guard hd ho
    split
    · rename_i v h' hck hef
      split
      · rename_i hl
        have hk := compD_ok (E := E) hn hle ops pl front.reverse 0 r h y
        rw [hd] at hk
        obtain ⟨tr', e1, e2⟩ := hk
        have hord : pl.order = front.reverse ++ [i] := by
          have := congrArg List.reverse hrev
          simpa using this
        have hef' := effA_pan hle hef
        have hck' := hck
        simp only [Bool.and_eq_true] at hck'
        obtain ⟨why, q, e3⟩ := drawT_pan ho hck'.1.1 front.reverse 0 _ e1 hck'.1.2 hef'
        rw [hord, e3]
        have hpan : panicA E call ops ⟨toL F n r, h, y.ds, y.rc⟩ pl = some (v, ⟨toL F n r1, h', y1.ds, y1.rc⟩) := by
          unfold panicA
          rw [hrev]
          simp only [e1, ho, hck, if_true, hef']
          rw [if_pos (lastlyF_ok (e2.snoc (fun _ => rfl) rfl) hl)]
        simp only [hpan]
        exact ⟨by simp, rfl⟩
      · trivial
    · trivial
  · trivial
theorem drawK_ok (hn : n ≤ F.N) {fc call : CallF} (hle : CallLe fc call) (ops : Array Oper) (r : F.T) (h : Heap) (y : Y) :
    FOk E F n ((drawK E F n ops).run fc r h y) (drawA E call ops ⟨toL F n r, h, y.ds, y.rc⟩) := by
  unfold drawK drawA
  rw [planK_eq]
  cases planOf E ops with
  | none => trivial
  | some pl =>
    show FOk E F n (DO.rec (motive := fun _ => FO F.T) (fun tr hs r' h' y' => bc (lastlyF tr hs) (.nrm r' h' y') .bad) (panF E F n ops pl fc r h y) ((compD E F n ops pl pl.order 0).run fc r h y)) _
    have := compD_ok (E := E) hn hle ops pl pl.order 0 r h y
    cases hd : (compD E F n ops pl pl.order 0).run fc r h y with
    | bad => exact panF_ok hn hle ops pl r h y
    | ok tr hs r' h' y' =>
      rw [hd] at this
      obtain ⟨tr', h1, h2⟩ := this
      show FOk E F n (bc (lastlyF tr hs) (.nrm r' h' y') .bad) _
      cases hl : lastlyF tr hs with
      | false => trivial
      | true =>
        simp only [h1]
        rw [if_pos (lastlyF_ok h2 hl)]
        rfl
end Go.Ab.Fa
