/-
  EVERY OPERATION THAT NEITHER READS NOR WRITES MEMORY.
-/
import Derived.Test.YtaiemlmlompmmaaGreatDoorAbPure2
namespace Go.Ab
variable {E : Env}

theorem zipIdx_foldl_set : ∀ (l : List Value) (k off : Nat) (C : Array Value), (l.zipIdx k).foldl (fun cs (x : Value × Nat) => cs.setIfInBounds (off + x.2) x.1) C = setArr C (off + k) l
  | [], _, _, _ => rfl
  | v :: vs, k, off, C => by
    rw [List.zipIdx_cons, List.foldl_cons, zipIdx_foldl_set vs (k + 1) off, setArr, Nat.add_assoc]

theorem LR.setFrom {φ : Ph} : ∀ {vs : List AV} {vs' : List Value} (_ : LR φ vs vs') {cs : List AV} {C : Array Value} (_ : LR φ cs C.toList) (o : Nat), LR φ (Ab.setFrom cs o vs) (setArr C o vs').toList
  | [], vs', hv, cs, C, hc, o => by rw [hv.nil_inv]; exact hc
  | v :: vs, vs', hv, cs, C, hc, o => by
    obtain ⟨y, ys, rfl, hy, hys⟩ := hv.uncons
    rw [Ab.setFrom, setArr]
    refine LR.setFrom hys ?_ (o + 1)
    rw [Array.toList_setIfInBounds]
    exact hc.set hy o

/-- parts: (place, value) -/
def PR (φ : Ph) (ps : List (Nat × AV)) (qs : List (Nat × Value)) : Prop := ps.length = qs.length ∧ ∀ (i : Nat) (x : Nat × AV) (y : Nat × Value), ps[i]? = some x → qs[i]? = some y → x.1 = y.1 ∧ VR φ x.2 y.2
theorem PR.uncons {φ : Ph} {x : Nat × AV} {xs : List (Nat × AV)} {ys : List (Nat × Value)} (h : PR φ (x :: xs) ys) : ∃ y ys', ys = y :: ys' ∧ (x.1 = y.1 ∧ VR φ x.2 y.2) ∧ PR φ xs ys' := by
  obtain ⟨hl, hv⟩ := h
  cases ys with
  | nil => simp at hl
  | cons y ys => exact ⟨y, ys, rfl, hv 0 x y (by simp) (by simp), by simpa using hl, fun i a b ha hb => hv (i + 1) a b (by simpa using ha) (by simpa using hb)⟩

theorem partsA_PR {φ : Ph} (hg : GL E φ) {ts : List AV} {a : Act} (ht : LR φ ts a.tmps.toList) : ∀ {l : List (Nat × Operand)} {r : List (Nat × AV)} (_ : partsA E ts l = some r), PR φ r (l.map fun (i, x) => (i, a.eval x))
  | [], r, h => by simp [partsA] at h; subst h; exact ⟨rfl, fun i x y hx _ => by simp at hx⟩
  | (i, o) :: rest, r, h => by
    simp only [partsA] at h
    cases hv : evs E ts o with
    | none => simp [hv] at h
    | some v =>
      simp only [hv] at h
      cases hr : partsA E ts rest with
      | none => simp [hr] at h
      | some l =>
        simp only [hr, Option.some.injEq] at h; subst h
        obtain ⟨h1, h2⟩ := partsA_PR hg ht hr
        refine ⟨by simpa using h1, fun j x y hx hy => ?_⟩
        cases j with
        | zero => simp at hx hy; subst hx; subst hy; exact ⟨rfl, evs_VR hg ht hv⟩
        | succ j => simp at hx; exact h2 j x y hx (by simpa using hy)

theorem fillA_run {φ : Ph} {place : Nat → Option (Nat × Nat)} : ∀ {ps : List (Nat × AV)} {qs : List (Nat × Value)} (_ : PR φ ps qs) {cs cs' : List AV} {C : Array Value} (_ : LR φ cs C.toList) (_ : fillA place cs ps = some cs'),
    ∃ C', Instr.fill place C qs = some C' ∧ LR φ cs' C'.toList
  | [], qs, hp, cs, cs', C, hc, h => by
    cases qs with
    | nil => simp [fillA] at h; subst h; exact ⟨C, rfl, hc⟩
    | cons q qs => simp [PR] at hp
  | (i, v) :: rest, qs, hp, cs, cs', C, hc, h => by
    obtain ⟨⟨j, v'⟩, qs', rfl, ⟨he, hv⟩, hrest⟩ := hp.uncons
    simp only at he hv; subst he
    simp only [fillA] at h
    simp only [Instr.fill]
    cases hpl : place i with
    | none => simp [hpl] at h
    | some x =>
      obtain ⟨off, size⟩ := x
      simp only [hpl] at h ⊢
      split at h
      · rename_i hcnd
        have hcells := hv.cells
        have hl : v'.cells.size = size := by have := hcells.1; simp at this; omega
        have hCs : C.size = cs.length := by have := hc.1; simp at this; omega
        have hno : (decide (v'.cells.size ≠ size) || decide (off + v'.cells.size > C.size)) = false := by
          simp only [Bool.or_eq_false_iff, decide_eq_false_iff_not]; omega
        simp only [hno, Bool.false_eq_true, if_false]
        have hfold : (v'.cells.zipIdx.foldl (fun cs (x : Value × Nat) => cs.setIfInBounds (off + x.2) x.1) C) = setArr C off v'.cells.toList := by
          rw [← Array.foldl_toList]
          have := zipIdx_foldl_set v'.cells.toList 0 off C
          simpa using this
        rw [hfold]
        exact fillA_run hrest (LR.setFrom hcells hc off) h
      · simp at h

theorem buildA_run {φ : Ph} {t : TypeId} {ps : List (Nat × AV)} {v : AV} (h : buildA E t ps = some v) {qs : Array (Nat × Value)} (hp : PR φ ps qs.toList) :
    ∃ v', VR φ v v' ∧ ∀ w, (Instr.build t qs).run E.P w = .ok v' w := by
  unfold buildA at h
  split at h
  · simp at h
  rename_i z hz
  obtain ⟨z', hzr, hzrun⟩ := zeroT_run hz
  split at h
  · rename_i fs hu
    split at h
    · simp at h
    rename_i pl hpl
    split at h
    · rename_i cs hf
      simp at h; subst h
      have places : ∀ w, (fs.mapM fun f => do pure (f.offset, ← sizeOf f.type) : Sem (Array (Nat × Nat))).run E.P w = .ok pl.toArray w := by
        intro w
        have key : ∀ (l : List Field) (r : List (Nat × Nat)), mapAll (fun f => match sizeT E f.type with | some n => some (f.offset, n) | none => none) l = some r →
            (l.mapM fun f => do pure (f.offset, ← sizeOf f.type) : Sem (List (Nat × Nat))).run E.P w = .ok r w := by
          intro l
          induction l with
          | nil => intro r hr; simp [mapAll] at hr; subst hr; rfl
          | cons f l ih =>
            intro r hr
            simp only [mapAll] at hr
            cases hs : sizeT E f.type with
            | none => simp [hs] at hr
            | some n =>
              simp only [hs] at hr
              cases hm : mapAll (fun f => match sizeT E f.type with | some n => some (f.offset, n) | none => none) l with
              | none => simp [hm] at hr
              | some ys =>
                simp only [hm, Option.some.injEq] at hr; subst hr
                simp only [List.mapM_cons, Sem.run_bind, run_size hs, Result.andThen_ok, Sem.run_pure, ih ys hm]
        have := key fs.toList pl hpl
        have hh : (fs.mapM fun f => do pure (f.offset, ← sizeOf f.type) : Sem (Array (Nat × Nat))) = (do pure (← (fs.toList.mapM fun f => do pure (f.offset, ← sizeOf f.type) : Sem (List (Nat × Nat)))).toArray) := by
          rw [Array.mapM_eq_mapM_toList]; rfl
        rw [hh, Sem.run_bind, this]; rfl
      obtain ⟨C', hfill, hlr⟩ := fillA_run (place := (pl[·]?)) hp (cs := z.cells) (C := z'.cells) (hzr φ).cells hf
      refine ⟨.agg C', by have := VR.agg' hlr; simpa using this, fun w => ?_⟩
      simp only [Instr.build, Sem.run_bind, hzrun, Result.andThen_ok, run_underlying hu, places w]
      simp [hfill]
    · simp at h
  · rename_i n elem hu
    split at h
    · simp at h
    rename_i n hn
    split at h
    · rename_i cs hf
      simp at h; subst h
      obtain ⟨C', hfill, hlr⟩ := fillA_run (place := fun i => some (i * n, n)) hp (cs := z.cells) (C := z'.cells) (hzr φ).cells hf
      refine ⟨.agg C', by have := VR.agg' hlr; simpa using this, fun w => ?_⟩
      simp [Instr.build, Sem.run_bind, hzrun, run_underlying hu, run_size hn, hfill]
    · simp at h
  · simp at h

theorem maxA_run {φ : Ph} : ∀ {l : List AV} {x v : AV} (_ : maxA x l = some v) {x' : Value} (_ : VR φ x x') {l' : List Value} (_ : LR φ l l'), ∃ v', VR φ v v' ∧ ∀ w, (l'.foldlM Builtin.max2 x').run E.P w = .ok v' w
  | [], x, v, h, x', hx, l', hl => by
    rw [hl.nil_inv]
    cases x <;> simp [maxA] at h
    subst h; exact ⟨x', hx, fun w => rfl⟩
  | y :: ys, x, v, h, x', hx, l', hl => by
    obtain ⟨y', ys', rfl, hy, hys⟩ := hl.uncons
    cases x <;> (try (simp [maxA] at h; done))
    cases y <;> (try (simp [maxA] at h; done))
    cases hx; cases hy
    simp only [maxA] at h
    obtain ⟨v', hv, hr⟩ := maxA_run h (.int _ _) hys
    refine ⟨v', hv, fun w => ?_⟩
    simp only [List.foldlM_cons, Builtin.max2, Sem.run_bind, Sem.run_pure, Result.andThen_ok, hr w]
theorem minA_run {φ : Ph} : ∀ {l : List AV} {x v : AV} (_ : minA x l = some v) {x' : Value} (_ : VR φ x x') {l' : List Value} (_ : LR φ l l'), ∃ v', VR φ v v' ∧ ∀ w, (l'.foldlM Builtin.min2 x').run E.P w = .ok v' w
  | [], x, v, h, x', hx, l', hl => by
    rw [hl.nil_inv]
    cases x <;> simp [minA] at h
    subst h; exact ⟨x', hx, fun w => rfl⟩
  | y :: ys, x, v, h, x', hx, l', hl => by
    obtain ⟨y', ys', rfl, hy, hys⟩ := hl.uncons
    cases x <;> (try (simp [minA] at h; done))
    cases y <;> (try (simp [minA] at h; done))
    cases hx; cases hy
    simp only [minA] at h
    obtain ⟨v', hv, hr⟩ := minA_run h (.int _ _) hys
    refine ⟨v', hv, fun w => ?_⟩
    simp only [List.foldlM_cons, Builtin.min2, Sem.run_bind, Sem.run_pure, Result.andThen_ok, hr w]

theorem map_toArray (f : Operand → Value) (l : Array Operand) : l.map f = (l.toList.map f).toArray := by apply Array.ext'; simp

/-- externs that only compute -/
def ExtOK (E : Env) : Prop := ∀ f e, E.pureExt f = some e → ∀ vs r, e vs = some r → ∀ φ (vs' : List Value), LR φ vs vs' →
  ∃ r', VR φ r r' ∧ ∀ w, (callFunc f vs'.toArray).run E.P w = .ok (.value r') w

theorem run_v {s : Sem Value} {v : Value} {P : Program} {w w' : World} (h : s.run P w = .ok v w') : (do pure (.value (← s)) : Sem Next).run P w = .ok (.value v) w' := by
  rw [Sem.run_bind, h]; rfl

theorem optOp_R {φ : Ph} (hg : GL E φ) {ts : List AV} {a : Act} (ht : LR φ ts a.tmps.toList) {o : Option Operand} {r : Option AV} (h : optOp E ts o = some r) : OptR φ r (o.map a.eval) := by
  cases o with
  | none => simp [optOp] at h; subst h; trivial
  | some o =>
    simp only [optOp] at h
    split at h
    · rename_i v hv; simp at h; subst h; exact evs_VR hg ht hv
    · simp at h

theorem typeAssert_hit {P : Program} {t : TypeId} {d : TypeDesc} (hu : P.underlying t = some d) (hd : ∀ m, d = .interface m → False) (v : Value) (xT : TypeId) (ok : Bool) (w : World) :
    (Instr.typeAssert (.iface t v) xT t ok).run P w = .ok (if ok then .tuple #[v, .bool true] else v) w := by
  rw [Instr.typeAssert, Sem.run_bind, run_underlying hu]
  cases d <;> first | (exact (hd _ rfl).elim) | (simp; done)
theorem typeAssert_miss {P : Program} {t u : TypeId} {d : TypeDesc} (hu : P.underlying t = some d) (hd : ∀ m, d = .interface m → False) (v : Value) (xT : TypeId) (hne : u ≠ t) {z : Value} (w : World) (hz : (zeroValue t).run P w = .ok z w) :
    (Instr.typeAssert (.iface u v) xT t true).run P w = .ok (.tuple #[z, .bool false]) w := by
  rw [Instr.typeAssert, Sem.run_bind, run_underlying hu]
  cases d <;> first | (exact (hd _ rfl).elim) | (simp [hne, hz]; done)
theorem typeAssert_nil {P : Program} {t : TypeId} {d : TypeDesc} (hu : P.underlying t = some d) (hd : ∀ m, d = .interface m → False) (xT : TypeId) {z : Value} (w : World) (hz : (zeroValue t).run P w = .ok z w) :
    (Instr.typeAssert .nilIface xT t true).run P w = .ok (.tuple #[z, .bool false]) w := by
  rw [Instr.typeAssert, Sem.run_bind, run_underlying hu]
  cases d <;> first | (exact (hd _ rfl).elim) | (simp [hz]; done)

set_option maxHeartbeats 1000000 in
theorem pureA_sound (hext : ExtOK E) {φ : Ph} (hg : GL E φ) {ts : List AV} {a : Act} (ht : LR φ ts a.tmps.toList) {o : Oper} {v : AV} (h : pureA E ts o.op = some v) :
    ∃ v', VR φ v v' ∧ ∀ w, (execOp a.eval o).run E.P w = .ok (.value v') w := by
  have ev : ∀ {x : Operand} {v : AV}, evs E ts x = some v → VR φ v (a.eval x) := fun h => evs_VR hg ht h
  unfold execOp
  generalize o.op = op at h ⊢
  unfold pureA at h
  split at h
  · exact ⟨_, ev h, fun w => rfl⟩
  · exact ⟨_, ev h, fun w => rfl⟩
  · -- pick
    split at h
    · rename_i hc
      have := ev hc
      generalize hcv : a.eval _ = cv at this
      cases this
      exact ⟨_, ev h, fun w => by simp [hcv, asBool]⟩
    · rename_i hc
      have := ev hc
      generalize hcv : a.eval _ = cv at this
      cases this
      exact ⟨_, ev h, fun w => by simp [hcv, asBool]⟩
    · simp at h
  · -- build
    rename_i t parts
    split at h
    · rename_i ps hps
      have hp := partsA_PR hg ht hps
      obtain ⟨v', hv, hr⟩ := buildA_run (φ := φ) h (qs := parts.map fun (i, x) => (i, a.eval x)) (by simpa using hp)
      exact ⟨v', hv, fun w => run_v (hr w)⟩
    · simp at h
  · -- nilCheck
    split at h <;> (try (simp at h; done))
    all_goals
      rename_i hx
      have := ev hx
      generalize hcv : a.eval _ = cv at this
      cases this
      simp only [Option.some.injEq] at h; subst h
      first
        | exact ⟨_, .ptr _ ‹_›, fun w => by simp [hcv]⟩
        | exact ⟨_, .map ‹_›, fun w => by simp [hcv]⟩
        | exact ⟨_, .slice _ _ _ _ ‹_›, fun w => by simp [hcv]⟩
        | exact ⟨_, .func _ _ _ _ _ ‹_› ‹_› ‹_› ‹_›, fun w => by simp [hcv]⟩
  · -- binOp
    split at h
    · rename_i hx hy
      obtain ⟨v', hv, hr⟩ := binA_run h (ev hx) (ev hy)
      exact ⟨v', hv, fun w => run_v (hr w)⟩
    · simp at h
  · -- unOp
    split at h
    · rename_i hx
      obtain ⟨v', hv, hr⟩ := unA_run (E := E) h (ev hx)
      exact ⟨v', hv, fun w => run_v (hr w)⟩
    · simp at h
  · -- convert
    split at h
    · rename_i hs hd hx
      have := ev hx
      generalize hcv : a.eval _ = cv at this
      cases this
      simp at h; subst h
      refine ⟨_, .int _ _, fun w => run_v ?_⟩
      simp [hcv, convert, run_underlying hs, run_underlying hd, Conv.intToInt]
    · rename_i d s hs hd hx
      have := ev hx
      generalize hcv : a.eval _ = cv at this
      simp at h; subst h
      generalize hss : s = s0 at this
      cases this
      subst hss
      refine ⟨_, .str _, fun w => run_v ?_⟩
      simp [hcv, convert, run_underlying hs, run_underlying hd]
    · simp at h
  · -- makeInterface
    split at h
    · simp at h
    · rename_i d v0 hn hu hx
      simp at h; subst h
      refine ⟨_, .iface _ _ _ (ev hx), fun w => run_v ?_⟩
      rw [Instr.makeInterface, Sem.run_bind, run_underlying hu]
      cases d <;> first | (exact (hn _ rfl).elim) | rfl
    · simp at h
  · -- makeFunc
    rename_i f first captured
    split at h
    · rename_i ha hb
      simp at h; subst h
      have h1 := evAll_LR hg ht ha
      have h2 := evAll_LR hg ht hb
      refine ⟨.func (.func f) (first.map a.eval) (captured.map a.eval), ?_, fun w => run_v rfl⟩
      rw [map_toArray, map_toArray]
      exact VR.func' f h1 h2
    · simp at h
  · -- slice
    split at h
    · rename_i hx hl hh hm
      obtain ⟨v', hv, hr⟩ := sliceA_run h (ev hx) (optOp_R hg ht hl) (optOp_R hg ht hh) (optOp_R hg ht hm)
      exact ⟨v', hv, fun w => run_v (hr w)⟩
    · simp at h
  · -- fieldAddr
    split at h
    · rename_i fd i o0 hf hx
      split at h
      · rename_i n hn
        split at h
        · simp at h
        · rename_i hn0
          simp at h; subst h
          have := ev hx
          generalize hcv : a.eval _ = cv at this
          cases this with
          | @ptr _ l _ hφ =>
          refine ⟨_, .ptr _ hφ, fun w => run_v ?_⟩
          unfold fieldsAt at hf
          split at hf
          · rename_i fs hu
            simp [hcv, Instr.fieldAt, run_underlying hu, hf, Instr.sureAddr, fieldPlace, run_size hn, hn0, add_off, Nat.add_assoc]
          · simp at hf
      · simp at h
    · simp at h
  · -- field
    split at h
    · rename_i fd cs hf hx
      have := ev hx
      generalize hcv : a.eval _ = cv at this
      obtain ⟨cs', rfl, hlr⟩ := this.agg_inv
      obtain ⟨v', hv, hr⟩ := partT_run hlr h
      refine ⟨v', hv, fun w => run_v ?_⟩
      unfold fieldsAt at hf
      split at hf
      · rename_i fs hu
        have := hr w
        simp [hcv, Instr.field, run_underlying hu, hf, asAgg] at this ⊢
        exact this
      · simp at hf
    · simp at h
  · -- indexAddr
    split at h
    · rename_i len elem i o0 k n hu hx hi
      split at h
      · rename_i size hs
        split at h
        · rename_i hb
          simp at h; subst h
          have h1 := ev hx
          have h2 := ev hi
          generalize hcv : a.eval _ = cv at h1
          generalize hcw : a.eval _ = cw at h2
          cases h1 with
          | @ptr _ l _ hφ =>
          cases h2
          refine ⟨_, .ptr _ hφ, fun w => run_v ?_⟩
          simp [hcv, hcw, Instr.indexAt, asIntOf, run_underlying hu, Instr.sureAddr, hb, run_size hs, add_off, Nat.add_assoc]
        · simp at h
      · simp at h
    · rename_i elem i o0 len cap op k n hu hx hi
      split at h
      · rename_i size hs
        split at h
        · rename_i hb
          simp at h; subst h
          have h1 := ev hx
          have h2 := ev hi
          generalize hcv : a.eval _ = cv at h1
          generalize hcw : a.eval _ = cw at h2
          cases h1 with
          | @slice _ l _ _ _ _ hφ =>
          cases h2
          refine ⟨_, .ptr _ hφ, fun w => run_v ?_⟩
          simp [hcv, hcw, Instr.indexAt, asIntOf, run_underlying hu, hb, run_size hs, add_off, Nat.add_assoc]
        · simp at h
      · simp at h
    · simp at h
  · -- index
    split at h
    · rename_i len elem cs k n hu hx hi
      split at h
      · rename_i size hs
        split at h
        · rename_i hb
          have h1 := ev hx
          have h2 := ev hi
          generalize hcv : a.eval _ = cv at h1
          generalize hcw : a.eval _ = cw at h2
          obtain ⟨cs', rfl, hlr⟩ := h1.agg_inv
          cases h2
          obtain ⟨v', hv, hr⟩ := partT_run hlr h
          refine ⟨v', hv, fun w => run_v ?_⟩
          have := hr w
          simp [hcv, hcw, Instr.index, asIntOf, run_underlying hu, hb, run_size hs] at this ⊢
          exact this
        · simp at h
      · simp at h
    · rename_i s k n hu hx hi
      split at h
      · rename_i hn
        split at h
        · rename_i b hb
          simp at h; subst h
          have h1 := ev hx
          have h2 := ev hi
          generalize hcv : a.eval _ = cv at h1
          generalize hcw : a.eval _ = cw at h2
          generalize hss : s = s0 at h1
          cases h1 with
          | str s' =>
          subst hss
          cases h2
          refine ⟨_, .int _ _, fun w => run_v ?_⟩
          have hb' : s'[n.toNat]? = some b := by
            have : s'.data[n.toNat]? = some b := by simpa using hb
            rw [← this]; rfl
          simp [hcv, hcw, Instr.index, asIntOf, run_underlying hu, hn, hb']
        · simp at h
      · simp at h
    · simp at h
  · -- extract
    split at h
    · rename_i vs hx
      have h1 := ev hx
      generalize hcv : a.eval _ = cv at h1
      obtain ⟨vs', rfl, hlr⟩ := h1.tuple_inv
      obtain ⟨y, hy, hv⟩ := hlr.get h
      refine ⟨y, hv, fun w => run_v ?_⟩
      simp at hy
      simp [hcv, Instr.extract, hy]
    · simp at h
  · -- typeAssert
    split at h
    · simp at h
    · rename_i d t v0 hn hu hx
      have h1 := ev hx
      generalize hcv : a.eval _ = cv at h1
      cases h1 with
      | iface _ _ v1 hv1 =>
      split at h
      · rename_i hta
        subst hta
        simp at h; subst h
        split
        · rename_i hok
          refine ⟨.tuple #[v1, .bool true], VR.tuple' (cs' := [v1, .bool true]) (.cons hv1 (.cons (.bool true) (.nil φ))), fun w => run_v ?_⟩
          rw [hcv, typeAssert_hit hu hn, hok]; rfl
        · rename_i hok
          refine ⟨v1, hv1, fun w => run_v ?_⟩
          rw [hcv, typeAssert_hit hu hn]; simp [hok]
      · rename_i hta
        split at h
        · rename_i hok
          split at h
          · rename_i z hz
            simp at h; subst h
            obtain ⟨z', hzr, hzrun⟩ := zeroT_run hz
            refine ⟨.tuple #[z', .bool false], VR.tuple' (cs' := [z', .bool false]) (.cons (hzr φ) (.cons (.bool false) (.nil φ))), fun w => run_v ?_⟩
            rw [hcv, hok]; exact typeAssert_miss hu hn _ _ hta w (hzrun w)
          · simp at h
        · simp at h
    · rename_i d hn hu hx
      have h1 := ev hx
      generalize hcv : a.eval _ = cv at h1
      cases h1
      split at h
      · rename_i hok
        split at h
        · rename_i z hz
          simp at h; subst h
          obtain ⟨z', hzr, hzrun⟩ := zeroT_run hz
          refine ⟨.tuple #[z', .bool false], VR.tuple' (cs' := [z', .bool false]) (.cons (hzr φ) (.cons (.bool false) (.nil φ))), fun w => run_v ?_⟩
          rw [hcv, hok]; exact typeAssert_nil hu hn _ w (hzrun w)
        · simp at h
      · simp at h
    · simp at h
  · -- len
    split at h
    · rename_i t v0 htp hvs
      have hl := evAll_LR hg ht hvs
      obtain ⟨y, ys, hys, hy, hnil⟩ := hl.uncons
      rw [hnil.nil_inv] at hys
      have hargs : ∀ (args : Array Operand), args.toList.map a.eval = [y] → args.map a.eval = #[y] := fun args e => by rw [map_toArray, e]
      have h0 := hargs _ hys
      split at h <;> (try (simp at h; done))
      all_goals
        rename_i hu
        simp only [Option.some.injEq] at h; subst h
      · generalize hss : AV.str _ = s0 at hy
        cases hy <;> cases hss
        rename_i s'
        refine ⟨_, .int _ _, fun w => ?_⟩
        simp [resolve, invoke, builtin, h0, Builtin.len_, htp, run_underlying hu, goInt]
        try rfl
      · refine ⟨_, .int _ _, fun w => ?_⟩
        simp [resolve, invoke, builtin, h0, Builtin.len_, htp, run_underlying hu, goInt]
      · cases hy
        refine ⟨_, .int _ _, fun w => ?_⟩
        simp [resolve, invoke, builtin, h0, Builtin.len_, htp, run_underlying hu, goInt]
      · cases hy
        refine ⟨_, .int _ _, fun w => ?_⟩
        simp [resolve, invoke, builtin, h0, Builtin.len_, htp, run_underlying hu, goInt]
      · cases hy
        refine ⟨_, .int _ _, fun w => ?_⟩
        simp [resolve, invoke, builtin, h0, Builtin.len_, htp, run_underlying hu, goInt]
      · cases hy
        refine ⟨_, .int _ _, fun w => ?_⟩
        simp [resolve, invoke, builtin, h0, Builtin.len_, htp, run_underlying hu, goInt]
    · simp at h
  · -- cap
    split at h
    · rename_i t v0 htp hvs
      have hl := evAll_LR hg ht hvs
      obtain ⟨y, ys, hys, hy, hnil⟩ := hl.uncons
      rw [hnil.nil_inv] at hys
      have hargs : ∀ (args : Array Operand), args.toList.map a.eval = [y] → args.map a.eval = #[y] := fun args e => by rw [map_toArray, e]
      have h0 := hargs _ hys
      split at h <;> (try (simp at h; done))
      all_goals
        rename_i hu
        simp only [Option.some.injEq] at h; subst h
      · refine ⟨_, .int _ _, fun w => ?_⟩
        simp [resolve, invoke, builtin, h0, Builtin.cap_, htp, run_underlying hu, goInt]
      · cases hy
        refine ⟨_, .int _ _, fun w => ?_⟩
        simp [resolve, invoke, builtin, h0, Builtin.cap_, htp, run_underlying hu, goInt]
      · cases hy
        refine ⟨_, .int _ _, fun w => ?_⟩
        simp [resolve, invoke, builtin, h0, Builtin.cap_, htp, run_underlying hu, goInt, capOf]
    · simp at h
  · -- max
    rename_i args _ 
    split at h
    · rename_i x rest hvs
      have hl := evAll_LR hg ht hvs
      obtain ⟨y, ys, hys, hy, hrest⟩ := hl.uncons
      obtain ⟨v', hv, hr⟩ := maxA_run (E := E) h hy hrest
      refine ⟨v', hv, fun w => ?_⟩
      have h0 : args.map a.eval = (y :: ys).toArray := by rw [map_toArray, hys]
      have := hr w
      simp [resolve, invoke, builtin, h0, Builtin.max_, this]
    · simp at h
  · -- min
    rename_i args _ 
    split at h
    · rename_i x rest hvs
      have hl := evAll_LR hg ht hvs
      obtain ⟨y, ys, hys, hy, hrest⟩ := hl.uncons
      obtain ⟨v', hv, hr⟩ := minA_run (E := E) h hy hrest
      refine ⟨v', hv, fun w => ?_⟩
      have h0 : args.map a.eval = (y :: ys).toArray := by rw [map_toArray, hys]
      have := hr w
      simp [resolve, invoke, builtin, h0, Builtin.min_, this]
    · simp at h
  · -- an extern
    rename_i f args _
    split at h
    · rename_i e vs he hvs
      have hl := evAll_LR hg ht hvs
      obtain ⟨r', hr, hrun⟩ := hext f e he vs v h φ _ hl
      refine ⟨r', hr, fun w => ?_⟩
      have := hrun w
      rw [← map_toArray] at this
      simpa [resolve, Deferred.ofValue, invoke, Act.eval] using this
    · simp at h
  · simp at h

end Go.Ab
