/-
  OPERATIONS THAT READ MEMORY AND WRITE NONE; OPERATIONS THAT ONLY MAKE A BLOCK.
-/
import Derived.Test.YtaiemlmlompmmaaGreatDoorAbPure3
namespace Go.Ab
variable {E : Env}

theorem OK.cells {φ : Ph} {h : Heap} {w : World} (ok : OK E φ h w) {i : Nat} {cs : List AV} {e : TypeId} {ro : Bool} (hg : h.get i = some (.cells cs e ro)) {l : Loc} (hl : φ i = some l) :
    ∃ C e' lo hi, w.heap[l.blk]? = some (.cells C e' (lo, hi)) ∧ CR E φ cs e ro l C lo hi := by
  exact ok.live i _ l hg hl

theorem loadA_run {φ : Ph} {h : Heap} {w : World} (ok : OK E φ h w) {t : TypeId} {av v : AV} {v' : Value} (hv : VR φ av v') (e : loadA E h t av = some v) :
    ∃ x', VR φ v x' ∧ ∀ w', w'.heap = w.heap → (Instr.loadAt t v').run E.P w' = .ok x' w' := by
  unfold loadA at e
  split at e
  · rename_i i o
    cases hv with
    | @ptr _ l _ hφ =>
    split at e
    · rename_i cs el ro hg
      obtain ⟨C, e', lo, hi, hb, hc⟩ := ok.cells hg hφ
      unfold partT at e
      split at e
      · rename_i ha
        split at e
        · rename_i n hn
          split at e
          · rename_i hle
            simp at e; subst e
            obtain ⟨vs, hvl, hvv, hlr⟩ := hc.range o n hle
            refine ⟨.agg vs.toArray, VR.agg' hlr, fun w' hw' => ?_⟩
            rw [← hw'] at hb
            have hrow := run_load_row (P := E.P) hb (l.off + o) vs hvv
            rw [hvl] at hrow
            simp only [Instr.loadAt, Instr.sureAddr, Sem.run_bind, Sem.run_pure, Result.andThen_ok, loadVar, isAggT_run ha, if_true, run_size hn, hrow]
          · simp at e
        · simp at e
      · rename_i ha
        obtain ⟨y, hy, hr⟩ := hc.val o v e
        refine ⟨y, hr, fun w' hw' => ?_⟩
        rw [← hw'] at hb
        simp only [Instr.loadAt, Instr.sureAddr, Sem.run_bind, Sem.run_pure, Result.andThen_ok, loadVar, isAggT_run ha, Bool.false_eq_true, if_false, run_load, cell_of_heap hb, hy]
      · simp at e
    · simp at e
  · simp at e

theorem bytesOf_run {P : Program} (l : List Int) : ∀ (vs : List Value) (acc : ByteArray) (w : World), vs = l.map (fun n => Value.int .u8 n) →
    (forIn vs acc (fun c s => (match c with | .int .u8 n => do pure (ForInStep.yield (s.push (UInt8.ofNat n.toNat))) | _ => do stuck "bytesToString: byte expected"; pure (ForInStep.yield s) : Sem (ForInStep ByteArray)))).run P w = .ok ⟨(acc.data.toList ++ l.map (fun n => UInt8.ofNat n.toNat)).toArray⟩ w := by
  induction l with
  | nil => intro vs acc w h; simp at h; subst h; simp [List.forIn_nil]
  | cons b l ih =>
    intro vs acc w h
    cases vs with
    | nil => simp at h
    | cons v vs =>
      simp at h
      obtain ⟨rfl, hvs⟩ := h
      simp only [List.forIn_cons, Sem.run_bind, Sem.run_pure, Result.andThen_ok]
      rw [ih vs _ w hvs]
      simp [ByteArray.push]

theorem keyEq_now {φ : Ph} {d : TypeDesc} {k j : AV} {r : Bool} (hk : keyKind (some d) k = true) (e : keyEq k j = some r) {k' j' : Value} (h : VR φ k k') (h' : VR φ j j') : Instr.sameNow d k' j' = some r := by
  unfold keyEq at e
  split at e
  · generalize hs : AV.str _ = s at h
    generalize hs' : AV.str _ = s' at h'
    cases h <;> cases hs
    cases h' <;> cases hs'
    simp at e; subst e
    cases d <;> simp [keyKind] at hk
    rename_i s s'
    simp only [Instr.sameNow]
    congr 1
  · cases h; cases h'
    split at e
    · rename_i hkk
      simp at e; subst e; subst hkk
      cases d <;> simp [keyKind] at hk
      simp [Instr.sameNow]
    · simp at e
  · cases h; cases h'
    simp at e; subst e
    cases d <;> simp [keyKind] at hk
    simp [Instr.sameNow]
  · simp at e

theorem findA_run {φ : Ph} {d : TypeDesc} {k : AV} {k' : Value} (hk : keyKind (some d) k = true) (h : VR φ k k') : ∀ {es : List AEntry} {es' : List MapEntry} (_ : ESR φ es es') {i : Nat} {r : Option (Nat × AV)} (_ : findA k es i = some r),
    ∃ r', Instr.findNow d k' es' i = some r' ∧ (match r, r' with | none, none => True | some (j, v), some (j', v') => j = j' ∧ VR φ v v' ∧ i ≤ j ∧ ∃ e, es[j - i]? = some e ∧ keyEq k e.key = some true | _, _ => False)
  | [], es', he, i, r, e => by
    cases es' with
    | nil => simp [findA] at e; subst e; exact ⟨none, rfl, trivial⟩
    | cons _ _ => simp [ESR] at he
  | x :: es, es', he, i, r, e => by
    obtain ⟨hl, hv⟩ := he
    cases es' with
    | nil => simp at hl
    | cons y ys =>
      have hx := hv 0 x y (by simp) (by simp)
      simp only [findA] at e
      split at e
      · rename_i heq
        simp at e; subst e
        refine ⟨some (i, y.val), ?_, rfl, hx.val, Nat.le_refl _, x, by simp, heq⟩
        simp [Instr.findNow, keyEq_now hk heq h hx.key]
      · rename_i heq
        obtain ⟨r', h1, h2⟩ := findA_run hk h (es := es) (es' := ys) ⟨by simpa using hl, fun i a b p q => hv (i + 1) a b (by simpa using p) (by simpa using q)⟩ e
        refine ⟨r', ?_, ?_⟩
        · simp [Instr.findNow, keyEq_now hk heq h hx.key, h1]
        · cases r with
          | none => cases r' with
            | none => trivial
            | some _ => exact h2
          | some p =>
            obtain ⟨j, v⟩ := p
            cases r' with
            | none => exact h2
            | some q =>
              obtain ⟨j', v'⟩ := q
              obtain ⟨h3, h4, h5, e', h6, h7⟩ := h2
              refine ⟨h3, h4, by omega, e', ?_, h7⟩
              rw [show j - i = (j - (i + 1)) + 1 by omega]; simpa using h6
      · simp at e

theorem checkKey_run {P : Program} {t : TypeId} {d : TypeDesc} (hu : P.underlying t = some d) {k : AV} (hk : keyKind (some d) k = true) {φ : Ph} {k' : Value} (h : VR φ k k') (b : Bool) (n : Nat) (w : World) :
    (Instr.checkKey b (n + 1) t k').run P w = .ok () w := by
  unfold Instr.checkKey
  rw [Sem.run_bind, run_underlying hu]
  cases d <;> simp [keyKind] at hk <;> cases h <;> first | rfl | (simp [keyKind] at hk)

theorem bytesToString_run {P : Program} {w : World} {a : Addr} {n : Nat} (l : List Int) (hl : (loadCells a n).run P w = .ok ((l.map (fun n => Value.int .u8 n)).toArray) w) (c : Nat) :
    (Conv.bytesToString (.slice (some a) n c)).run P w = .ok (.string ⟨(l.map (fun n => UInt8.ofNat n.toNat)).toArray⟩) w := by
  unfold Conv.bytesToString
  simp only [Sem.run_bind, hl, Result.andThen_ok]
  have := bytesOf_run (P := P) l (l.map (fun n => Value.int .u8 n)) ByteArray.empty w rfl
  have e : forIn (m := Sem) (l.map (fun n => Value.int .u8 n)).toArray ByteArray.empty (fun c s => (match c with | .int .u8 n => do pure (ForInStep.yield (s.push (UInt8.ofNat n.toNat))) | _ => do stuck "bytesToString: byte expected"; pure (ForInStep.yield s) : Sem (ForInStep ByteArray)))
      = forIn (m := Sem) (l.map (fun n => Value.int .u8 n)) ByteArray.empty (fun c s => (match c with | .int .u8 n => do pure (ForInStep.yield (s.push (UInt8.ofNat n.toNat))) | _ => do stuck "bytesToString: byte expected"; pure (ForInStep.yield s) : Sem (ForInStep ByteArray))) := by
    rw [← Array.forIn_toList]
  rw [← e] at this
  refine (congrArg (fun r => Result.andThen r fun a w' => Sem.run P (pure (Value.string a)) w') this).trans ?_
  simp

/-- bytes out of cells -/
theorem bytesAt_run {φ : Ph} : ∀ {cs : List AV} {vs : List Value} (_ : LR φ cs vs) {l : List UInt8} (_ : mapAll (fun | .int .u8 b => some (UInt8.ofNat b.toNat) | _ => none) cs = some l),
    ∃ ns : List Int, vs = ns.map (fun n => Value.int .u8 n) ∧ l = ns.map (fun n => UInt8.ofNat n.toNat)
  | [], vs, hv, l, h => by rw [hv.nil_inv]; simp [mapAll] at h; subst h; exact ⟨[], rfl, rfl⟩
  | c :: cs, vs, hv, l, h => by
    obtain ⟨y, ys, rfl, hy, hys⟩ := hv.uncons
    simp only [mapAll] at h
    split at h
    · simp at h
    · rename_i b hb
      split at h
      · simp at h
      · rename_i bs hbs
        simp at h; subst h
        obtain ⟨ns, rfl, rfl⟩ := bytesAt_run hys hbs
        split at hb
        · cases hy
          simp at hb; subst hb
          exact ⟨_ :: ns, rfl, rfl⟩
        · simp at hb

/-- the entries of a map -/
structure Entries (P : Program) (x : Value) (es : Array MapEntry) (w : World) : Prop where
  is : (x = .map none ∧ es = #[]) ∨ ∃ r clock, x = .map (some r) ∧ w.heap[r]? = some (.map es clock)

theorem lookup_run {P : Program} {t key elem : TypeId} (hu : P.underlying t = some (.map key elem)) {x k : Value} {es : Array MapEntry} {w : World} (hes : Entries P x es w)
    {d : TypeDesc} (hd : P.underlying key = some d) (hck : ∀ b n, (Instr.checkKey b (n + 1) key k).run P w = .ok () w) {r : Option (Nat × Value)} (hf : Instr.findNow d k es.toList 0 = some r) {z : Value} (hz : r = none → (zeroValue elem).run P w = .ok z w) (ok : Bool) :
    (Instr.lookup t x k ok).run P w = .ok (match r with | some (_, v) => if ok then .tuple #[v, .bool true] else v | none => if ok then .tuple #[z, .bool false] else z) w := by
  have hck' := fun b => hck b 9999
  rw [Instr.lookup]
  simp only [Sem.run_bind, run_underlying hu, Result.andThen_ok]
  rcases hes.is with ⟨rfl, rfl⟩ | ⟨b, clock, rfl, hb⟩
  · simp only [Sem.run_bind, Sem.run_pure, Result.andThen_ok, hck', Instr.findKey, run_underlying hd, hf]
    cases r with
    | none => simp [hz rfl]
    | some q => simp
  · have hgo : (getObj b).run P w = .ok (.map es clock) w := by simp [getObj, Sem.run, hb]
    simp only [Sem.run_bind, Sem.run_pure, Result.andThen_ok, hgo, hck', Instr.findKey, run_underlying hd, hf]
    cases r with
    | none => simp [hz rfl]
    | some q => simp

theorem readA_sound {φ : Ph} (hg : GL E φ) {h : Heap} {w : World} (ok : OK E φ h w) {ts : List AV} {a : Act} (ht : LR φ ts a.tmps.toList) {o : Oper} {v : AV} (e : readA E ts h o.op = some v) :
    ∃ v', VR φ v v' ∧ ∀ w', w'.heap = w.heap → (execOp a.eval o).run E.P w' = .ok (.value v') w' := by
  have ev : ∀ {x : Operand} {v : AV}, evs E ts x = some v → VR φ v (a.eval x) := fun h => evs_VR hg ht h
  unfold execOp
  generalize o.op = op at e ⊢
  unfold readA at e
  split at e
  · -- load
    split at e
    · rename_i hx
      obtain ⟨x', hx', hr⟩ := loadA_run ok (ev hx) e
      exact ⟨x', hx', fun w' hw => run_v (hr w' hw)⟩
    · simp at e
  · -- bytes to a string
    split at e
    · rename_i el v0 hs hd hx
      split at e
      · rename_i he
        simp at e; subst e
        have h1 := ev hx
        generalize hcv : a.eval _ = cv at h1
        cases h1
        refine ⟨.string .empty, VR.str .empty, fun w' _ => run_v ?_⟩
        simp [hcv, convert, run_underlying hs, run_underlying hd, run_underlying he, Conv.bytesToString]
      · rename_i i o len _ _ he
        split at e
        · rename_i l hb
          simp at e; subst e
          have h1 := ev hx
          generalize hcv : a.eval _ = cv at h1
          cases h1 with
          | @slice _ lc _ _ _ _ hφ =>
          unfold bytesAt at hb
          split at hb
          · rename_i cs el' ro hgc
            split at hb
            · rename_i hle
              obtain ⟨C, e', lo, hi, hbk, hc⟩ := ok.cells hgc hφ
              obtain ⟨vs, hvl, hvv, hlr⟩ := hc.range o len hle
              obtain ⟨ns, rfl, rfl⟩ := bytesAt_run hlr hb
              refine ⟨.string ⟨(ns.map (fun n => UInt8.ofNat n.toNat)).toArray⟩, ?_, fun w' hw' => run_v ?_⟩
              · have := VR.str (φ := φ) ⟨(ns.map (fun n => UInt8.ofNat n.toNat)).toArray⟩
                simpa using this
              · rw [← hw'] at hbk
                have hrow := run_load_row (P := E.P) hbk (lc.off + o) _ hvv
                rw [hvl] at hrow
                have := bytesToString_run ns hrow (capOf ‹_› ‹_› lc.slack)
                rw [hcv]
                simp only [convert, Sem.run_bind, run_underlying hs, run_underlying hd, Result.andThen_ok, run_underlying he]
                exact this
            · simp at hb
          · simp at hb
        · simp at e
      · simp at e
    · simp at e
  · -- lookup
    rename_i t x ix commaOk
    split at e
    · rename_i key elem m k hu hm hk
      split at e
      · rename_i hkk
        have hkey : ∃ d, E.P.underlying key = some d ∧ keyKind (some d) k = true := by
          cases hd : E.P.underlying key with
          | none => rw [hd] at hkk; simp [keyKind] at hkk
          | some d => rw [hd] at hkk; exact ⟨d, rfl, hkk⟩
        obtain ⟨d, hd, hkd⟩ := hkey
        have hmv := ev hm
        have hkv := ev hk
        split at e
        · simp at e
        · rename_i es hes
          -- the entries, as the model reads them
          have hent : ∃ es' : Array MapEntry, ESR φ es es'.toList ∧ ∀ w', w'.heap = w.heap → Entries E.P (a.eval x) es' w' := by
            split at hes
            · simp at hes; subst hes
              generalize hcv : a.eval x = cv at hmv
              cases hmv
              exact ⟨#[], ⟨rfl, fun i x y p _ => by simp at p⟩, fun w' _ => ⟨.inl ⟨rfl, rfl⟩⟩⟩
            · rename_i i
              split at hes
              · rename_i es0 clock hgm
                simp at hes; subst hes
                generalize hcv : a.eval x = cv at hmv
                cases hmv with
                | @map _ l hφ =>
                have hor := ok.live i _ l hgm hφ
                obtain ⟨h00, es', hb, hesr⟩ := hor
                exact ⟨es', hesr, fun w' hw => ⟨.inr ⟨l.blk, clock, rfl, by rw [hw]; exact hb⟩⟩⟩
              · simp at hes
            · simp at hes
          obtain ⟨es', hesr, hrun⟩ := hent
          split at e
          · simp at e
          · rename_i j v0 hf
            obtain ⟨r', h1, h2⟩ := findA_run hkd hkv hesr hf
            cases r' with
            | none => exact h2.elim
            | some q =>
            obtain ⟨j', v'⟩ := q
            obtain ⟨_, hvv, _⟩ := h2
            simp at e; subst e
            refine ⟨if commaOk then .tuple #[v', .bool true] else v', ?_, fun w' hw => run_v ?_⟩
            · split
              · exact VR.tuple' (cs' := [v', .bool true]) (.cons hvv (.cons (.bool true) (.nil φ)))
              · exact hvv
            · exact lookup_run hu (hrun w' hw) hd (fun b n => checkKey_run hd hkd hkv b n w') h1 (z := undef) (fun e => by simp at e) commaOk
          · rename_i hf
            obtain ⟨r', h1, h2⟩ := findA_run hkd hkv hesr hf
            cases r' with
            | some q => exact h2.elim
            | none =>
            split at e
            · rename_i z hz
              simp at e; subst e
              obtain ⟨z', hzr, hzrun⟩ := zeroT_run hz
              refine ⟨if commaOk then .tuple #[z', .bool false] else z', ?_, fun w' hw => run_v ?_⟩
              · split
                · exact VR.tuple' (cs' := [z', .bool false]) (.cons (hzr φ) (.cons (.bool false) (.nil φ)))
                · exact hzr φ
              · exact lookup_run hu (hrun w' hw) hd (fun b n => checkKey_run hd hkd hkv b n w') h1 (fun _ => hzrun w') commaOk
            · simp at e
      · simp at e
    · simp at e
  · -- len of a map
    split at e
    · rename_i t i htp hvs
      have hl := evAll_LR hg ht hvs
      obtain ⟨y, ys, hys, hy, hnil⟩ := hl.uncons
      rw [hnil.nil_inv] at hys
      have h0 : ∀ (args : Array Operand), args.toList.map a.eval = [y] → args.map a.eval = #[y] := fun args e => by rw [map_toArray, e]
      have h0 := h0 _ hys
      cases hy with
      | @map _ l hφ =>
      split at e
      · rename_i es clock hu hgm
        simp at e; subst e
        have hor := ok.live i _ l hgm hφ
        obtain ⟨h00, es', hb, hlen, _⟩ := hor
        refine ⟨_, .int _ _, fun w' hw => ?_⟩
        rw [← hw] at hb
        have hgo : (getObj l.blk).run E.P w' = .ok (.map es' clock) w' := by simp [getObj, Sem.run, hb]
        simp [resolve, invoke, builtin, h0, Builtin.len_, htp, run_underlying hu, goInt, hgo, hlen]
      · simp at e
    · simp at e
  · simp at e

end Go.Ab
