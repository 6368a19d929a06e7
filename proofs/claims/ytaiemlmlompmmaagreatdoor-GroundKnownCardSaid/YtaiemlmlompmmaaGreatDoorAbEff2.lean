/-
  copy, []byte(s), a map's entry, a step of an iterator.
-/
import Derived.Test.YtaiemlmlompmmaaGreatDoorAbEff
import Derived.Laws.RangeString
namespace Go.Ab
variable {E : Env}

theorem copyA_run {φ : Ph} {h h' : Heap} {w : World} (ok : OK E φ h w) {argTypes : Array TypeId} {s d v : AV} (e : copyA E h argTypes d s = some (v, h')) {s' d' : Value} (hd : VR φ d d') (hs : VR φ s s') (ty : TypeId) :
    Done E φ h w ((Builtin.copy_ argTypes ty #[d', s']).run E.P w) v h' := by
  unfold copyA at e
  split at e
  · rename_i dT hdT
    split at e
    · rename_i elem m hu hm
      split at e
      · rename_i size hsize
        simp at e; obtain ⟨rfl, rfl⟩ := e
        cases hd
        refine ⟨φ, w, _, ?_, .int .i64 0, ok, Fr.refl φ h w⟩
        have h0 : Nat.min m 0 = 0 := Nat.min_eq_right (Nat.zero_le _)
        obtain ⟨new', _, hnrun⟩ : ∃ new' : List Value, True ∧ (Builtin.firstCells size 0 s').run E.P w = .ok new'.toArray w := by
          cases s <;> simp [lenA] at hm
          · generalize hss : AV.str _ = s0 at hs
            cases hs <;> cases hss
            refine ⟨[], trivial, ?_⟩
            simp [Builtin.firstCells]
          · cases hs; exact ⟨[], trivial, by simp [Builtin.firstCells]⟩
          · cases hs; exact ⟨[], trivial, by simp [Builtin.firstCells, loadCells, loadCellsFrom]⟩
          · cases hs; exact ⟨[], trivial, by simp [Builtin.firstCells, loadCells, loadCellsFrom]⟩
        simp only [Builtin.copy_, hdT, List.getElem?_toArray, List.getElem?_cons_zero, List.getElem?_cons_succ, Sem.run_bind, Result.andThen_ok, run_underlying hu, lenA_run hm hs, h0, run_size hsize, hnrun, Sem.run_pure]
        rfl
      · rename_i size i o len _ _ hsize
        split at e
        · rename_i new cs el hfirst hg
          split at e
          · rename_i hc
            simp at e; obtain ⟨rfl, rfl⟩ := e
            cases hd with
            | @slice _ l _ _ _ _ hφ =>
            obtain ⟨new', hnlr, hnrun⟩ := firstA_run ok hs hfirst (.inr trivial)
            obtain ⟨w', hst, hok, hfr⟩ := write_run ok hg hφ hnlr o hc.1 hc.2
            refine ⟨φ, w', _, ?_, .int .i64 _, hok, hfr⟩
            have h0 : Nat.min m len = min m len := rfl
            simp only [Builtin.copy_, hdT, List.getElem?_toArray, List.getElem?_cons_zero, List.getElem?_cons_succ, Sem.run_bind, Result.andThen_ok, run_underlying hu, lenA_run hm hs, h0, run_size hsize, hnrun w rfl, hst, Sem.run_pure]
            rfl
          · simp at e
        · simp at e
      · simp at e
    · simp at e
  · simp at e

theorem freeze_heap {w : World} {b n : Nat} {C : Array Value} {e : TypeId} (h : w.heap[b]? = some (.cells C e)) : (w.freeze ⟨b, n, none⟩ 1).heap[b]? = some (.cells C e (n, n + 1)) := by
  simp [World.freeze, Array.getElem?_modify, h]
theorem freeze_other {w : World} {b c n : Nat} (h : b ≠ c) : (w.freeze ⟨b, n, none⟩ 1).heap[c]? = w.heap[c]? := by
  simp [World.freeze, Array.getElem?_modify, h]
theorem freeze_size (w : World) (b n : Nat) : (w.freeze ⟨b, n, none⟩ 1).heap.size = w.heap.size := by simp [World.freeze]

theorem convA_run {φ : Ph} {h h' : Heap} {w : World} (ok : OK E φ h w) {src dst : TypeId} {x : AV} {v : AV} (e : convA E h src dst (some x) = some (v, h')) {x' : Value} (hx : VR φ x x') :
    Done E φ h w ((convert src dst x').run E.P w) v h' := by
  unfold convA at e
  split at e
  · rename_i el s hs hd hxs
    simp at hxs; subst hxs
    generalize hss : AV.str s = s0 at hx
    cases hx <;> cases hss
    rename_i s'
    split at e
    · rename_i h1 he hn
      split at e
      · rename_i hsz
        simp at e; obtain ⟨rfl, rfl⟩ := e
        have e1 : s'.size = s'.data.toList.length := by cases s'; rfl
        let nc := (Question.appendCap s'.size 0 el).cut (w.tape w.drawn (.appendCap s'.size 0 el))
        have hnc : s'.size ≤ nc := by show s'.size ≤ s'.size + _; omega
        let C : Array Value := (s'.data.map fun b => Value.int .u8 b.toNat) ++ Array.replicate (nc - s'.size) (.int .u8 0)
        have hCs : C.size = nc := by
          have e0 : s'.size = s'.data.size := rfl
          have : C.size = s'.data.size + (nc - s'.size) := by simp only [C, Array.size_append, Array.size_map, Array.size_replicate]
          omega
        have hw1 : (w.drew.alloc (.cells C el)).heap = w.heap.push (.cells C el) := rfl
        have hw1n : (w.drew.alloc (.cells C el)).heap[w.heap.size]? = some (.cells C el) := by rw [hw1]; simp
        obtain ⟨hok, hfr, hle⟩ := ok.fresh (w' := (w.drew.alloc (.cells C el)).freeze ⟨w.heap.size, nc, none⟩ 1) hn ⟨w.heap.size, 0, nc - s'.size⟩ (by
            refine ⟨C, el, nc, nc + 1, freeze_heap hw1n, ?_, fun k x hk => ?_, fun _ k _ b => ?_, fun _ => rfl⟩
            · simp only [slackCells, hsz, Option.getD_some, hCs, List.length_map]; rw [← e1]; omega
            · rw [List.getElem?_map] at hk
              cases hb : s'.data.toList[k]? with
              | none => rw [hb] at hk; simp at hk
              | some b =>
                rw [hb] at hk; simp at hk; subst hk
                have hkl : k < s'.data.toList.length := (List.getElem?_eq_some_iff.1 hb).1
                refine ⟨.int .u8 b.toNat, ?_, .int _ _⟩
                have : C[0 + k]? = (s'.data.map fun b => Value.int .u8 b.toNat)[k]? := by
                  simp only [C, Nat.zero_add]; rw [Array.getElem?_append_left (by simpa using hkl)]
                show C[0 + k]? = _
                rw [this]
                rw [Array.getElem?_map]
                have hb' : s'.data[k]? = some b := by simpa using hb
                rw [hb']; rfl
            · simp only [slackCells, hsz, Option.getD_some, List.length_map] at b; rw [← e1] at b; omega)
          (fun c hne hc => by
            rw [freeze_other (Ne.symm hne), hw1, Array.getElem?_push, if_neg (by omega)]) (by rw [freeze_size, hw1]; simp) (Nat.le_refl _) rfl rfl rfl
        refine ⟨_, _, .slice (some ⟨w.heap.size, 0, none⟩) s'.size nc, ?_, ?_, hok, hfr⟩
        · have hsh : (w.drew.alloc (.cells C el)).shape? w.heap.size = some (el, nc) := by
            simp only [World.shape?, hw1n, hCs]
          simp only [convert, Sem.run_bind, run_underlying hs, run_underlying hd, Result.andThen_ok, run_underlying he, Conv.stringToBytes, run_choose, Question.forced, Bool.false_eq_true, if_false, World.drew_eq, newRow, run_newObj, World.alloc_eq, Sem.run_pure, markStringish]
          rw [show (Question.appendCap s'.size 0 el).cut (w.tape w.drawn (Question.appendCap s'.size 0 el)) = nc from rfl, show (Array.map (fun b => Value.int .u8 b.toNat) s'.data ++ Array.replicate (nc - s'.size) (Value.int .u8 0)) = C from rfl]
          simp only [World.size_drew, run_shape, hsh, Result.andThen_ok, run_freeze]
        · have := VR.slice (φ := φ.add h.nx ⟨w.heap.size, 0, nc - s'.size⟩) (i := h.nx) (l := ⟨w.heap.size, 0, nc - s'.size⟩) 0 s'.size s'.size true (by simp [Ph.add])
          simp only [capOf, if_true] at this
          rw [show s'.size + (nc - s'.size) = nc by omega] at this
          exact this
      · simp at e
    · simp at e
  · simp at e

theorem setEntry_ESR {φ : Ph} {v : AV} {v' : Value} (hv : VR φ v v') {k' : Value} : ∀ {es : List AEntry} {es' : List MapEntry} (_ : ESR φ es es') (i : Nat) (_ : ∀ e, es[i]? = some e → VR φ e.key k'),
    ESR φ (setEntry es i v) (es'.modify i fun e => { e with key := k', val := v' })
  | [], es', h, i, _ => by
    cases es' with
    | nil => simpa [setEntry] using h
    | cons _ _ => simp [ESR] at h
  | e :: es, es', h, i, hk => by
    obtain ⟨hl, hvv⟩ := h
    cases es' with
    | nil => simp at hl
    | cons y ys =>
      have h0 := hvv 0 e y (by simp) (by simp)
      have hrest : ESR φ es ys := ⟨by simpa using hl, fun i a b p q => hvv (i + 1) a b (by simpa using p) (by simpa using q)⟩
      cases i with
      | zero =>
        simp only [setEntry, List.modify_zero_cons]
        refine ⟨by simpa using hl, fun j a b p q => ?_⟩
        cases j with
        | zero => simp at p q; subst p; subst q; exact ⟨hk e (by simp), hv, h0.born⟩
        | succ j => simp at p q; exact hrest.2 j a b p q
      | succ i =>
        simp only [setEntry, List.modify_succ_cons]
        obtain ⟨g1, g2⟩ := setEntry_ESR hv hrest i (fun e he => hk e (by simpa using he))
        refine ⟨by simp [g1], fun j a b p q => ?_⟩
        cases j with
        | zero => simp at p q; subst p; subst q; exact h0
        | succ j => simp at p; exact g2 j a b p (by simpa using q)

theorem ba_refl (s : ByteArray) : (s == s) = true := by cases s; rename_i d; show (d == d) = true; simp

theorem sameBits_key {φ : Ph} {k j : AV} (e : keyEq k j = some true) {k' j' : Value} (h : VR φ k k') (h' : VR φ j j') : Instr.sameBits 10000 j' k' = true ∧ j' = k' := by
  unfold keyEq at e
  split at e
  · generalize hs : AV.str _ = s at h
    generalize hs' : AV.str _ = s' at h'
    cases h <;> cases hs
    cases h' <;> cases hs'
    rename_i s s'
    simp at e
    have : s' = s := by cases s; cases s'; simp_all
    subst this
    exact ⟨by simp only [Instr.sameBits]; exact ba_refl _, rfl⟩
  · cases h; cases h'
    split at e
    · rename_i hkk
      simp at e; subst e; subst hkk
      exact ⟨by simp [Instr.sameBits], rfl⟩
    · simp at e
  · cases h; cases h'
    simp at e; subst e
    exact ⟨by simp [Instr.sameBits], rfl⟩
  · simp at e

theorem mapUpdateA_run {φ : Ph} {h h' : Heap} {w : World} (ok : OK E φ h w) {t : TypeId} {m k v : AV} {m' k' v' : Value} (hm : VR φ m m') (hk : VR φ k k') (hv : VR φ v v') (e : mapUpdateA E h t m k v = some h') :
    ∃ w', (Instr.mapUpdate t m' k' v').run E.P w = .ok () w' ∧ OK E φ h' w' ∧ Fr φ h w φ h' w' := by
  unfold mapUpdateA at e
  split at e
  · rename_i key elem i hu
    cases hm with
    | @map _ l hφ =>
    split at e
    · rename_i es clock hg
      split at e
      · rename_i hkk
        have hkey : ∃ d, E.P.underlying key = some d ∧ keyKind (some d) k = true := by
          cases hd : E.P.underlying key with
          | none => rw [hd] at hkk; simp [keyKind] at hkk
          | some d => rw [hd] at hkk; exact ⟨d, rfl, hkk⟩
        obtain ⟨d, hd, hkd⟩ := hkey
        have hor := ok.live i _ l hg hφ
        obtain ⟨h00, es', hb, hesr⟩ := hor
        have hgo : (getObj l.blk).run E.P w = .ok (.map es' clock) w := by simp [getObj, Sem.run, hb]
        have hck := checkKey_run (P := E.P) hd hkd hk false 9999 w
        have hset : ∀ o' : Obj, (setObj l.blk o').run E.P w = .ok () { w with heap := w.heap.setIfInBounds l.blk o' } := fun o' => by simp [setObj, Sem.run, hb]
        have hch : ∀ (o : AObj) (o' : Obj), OR E φ o l (some o') → o.rw = true → OK E φ (h.put i (some o)) { w with heap := w.heap.setIfInBounds l.blk o' } ∧ Fr φ h w φ (h.put i (some o)) { w with heap := w.heap.setIfInBounds l.blk o' } := fun o o' ho hrw => by
          have hlt : l.blk < w.heap.size := by
            rcases Nat.lt_or_ge l.blk w.heap.size with a | a
            · exact a
            · rw [Array.getElem?_eq_none a] at hb; simp at hb
          exact ok.change hg rfl hφ (by simp [hlt]; exact ho) (fun c hne => by simp [Ne.symm hne]) (by simp) rfl rfl rfl
        split at e
        · rename_i j v0 hf
          obtain ⟨r', h1, h2⟩ := findA_run hkd hk hesr hf
          cases r' with
          | none => exact h2.elim
          | some q =>
          obtain ⟨j', v1⟩ := q
          obtain ⟨rfl, hvv, _, ent, hent, hentk⟩ := h2
          simp at e; subst e
          obtain ⟨y, hy⟩ : ∃ y, es'.toList[j]? = some y := by
            have hlt : j < es.length := by simpa using (List.getElem?_eq_some_iff.1 hent).1
            exact ⟨es'.toList[j]'(by rw [← hesr.1]; exact hlt), by simp⟩
          have hey := hesr.2 j ent y (by simpa using hent) hy
          obtain ⟨hsb, hkeq⟩ := sameBits_key hentk hk hey.key
          have hy' : es'[j]? = some y := by simpa using hy
          obtain ⟨hok, hfr⟩ := hch (.map (setEntry es j v) clock) (.map (es'.modify j fun e => { e with key := k', val := v' }) clock) ⟨h00, _, rfl, by
              have := setEntry_ESR hv hesr j (k' := k') (fun e he => by
                have : e = ent := by have h3 : es[j]? = some ent := by simpa using hent
                                     rw [h3] at he; simp at he; exact he.symm
                subst this; rw [← hkeq]; exact hey.key)
              simpa using this⟩ rfl
          refine ⟨_, ?_, hok, hfr⟩
          simp only [Instr.mapUpdate, Sem.run_bind, run_underlying hu, Result.andThen_ok, hgo, hck, Instr.findKey, run_underlying hd, h1, Sem.run_pure, hy', Option.map_some, Option.getD_some, Instr.keyThatStays, hsb, if_true, hset _]
        · rename_i hf
          obtain ⟨r', h1, h2⟩ := findA_run hkd hk hesr hf
          cases r' with
          | some q => exact h2.elim
          | none =>
          simp at e; subst e
          obtain ⟨hok, hfr⟩ := hch (.map (es ++ [{ key := k, val := v, born := clock }]) (clock + 1)) (.map (es'.push { key := k', val := v', born := clock }) (clock + 1)) ⟨h00, _, rfl, by
              refine ⟨by simp [hesr.1], fun j a b p q => ?_⟩
              rw [Array.toList_push] at q
              by_cases hj : j < es.length
              · rw [List.getElem?_append_left hj] at p
                rw [List.getElem?_append_left (by rw [← hesr.1]; exact hj)] at q
                exact hesr.2 j a b p q
              · rw [List.getElem?_append_right (by omega)] at p
                rw [List.getElem?_append_right (by rw [← hesr.1]; omega), ← hesr.1] at q
                cases hjj : j - es.length with
                | zero => rw [hjj] at p q; simp at p q; subst p; subst q; exact ⟨hk, hv, rfl⟩
                | succ n => rw [hjj] at p; simp at p⟩ rfl
          refine ⟨_, ?_, hok, hfr⟩
          simp only [Instr.mapUpdate, Sem.run_bind, run_underlying hu, Result.andThen_ok, hgo, hck, Instr.findKey, run_underlying hd, h1, Sem.run_pure, hset _]
        · simp at e
      · simp at e
    · simp at e
  · simp at e

theorem ascii_decode {s : ByteArray} {pos : Nat} {b : UInt8} (h : s.data.toList[pos]? = some b) (hb : b.toNat < 128) : Utf8.decode s pos = (b.toNat, 1) := by
  have hl : pos < s.size := (List.getElem?_eq_some_iff.1 h).1
  have hb' : s[pos]'hl = b := by
    have := (List.getElem?_eq_some_iff.1 h).2
    rw [← this]; rfl
  rw [decode_ascii s pos hl (by rw [hb']; exact hb), hb']

set_option linter.unusedSimpArgs false in
theorem nextA_run {φ : Ph} {h h' : Heap} {w : World} (ok : OK E φ h w) {it v : AV} {b : Bool} (e : nextA h it b = some (v, h')) {it' : Value} (hit : VR φ it it') (ty : TypeId) :
    Done E φ h w ((Instr.next it' b ty).run E.P w) v h' := by
  unfold nextA at e
  split at e
  · rename_i r
    cases hit with
    | @ptr _ l _ hφ =>
    split at e
    · rename_i s pos hg
      have hor := ok.live r _ l hg hφ
      obtain ⟨h00, s', hb, hs'⟩ := hor
      have hgo : (getObj l.blk).run E.P w = .ok (.stringIter s' pos) w := by simp [getObj, Sem.run, hb]
      have e1 : s'.size = s.length := by rw [← hs']; cases s'; rfl
      split at e
      · rename_i hlt
        split at e
        · rename_i c hc
          split at e
          · rename_i hasc
            simp at e; obtain ⟨rfl, rfl⟩ := e
            have hset : (setObj l.blk (.stringIter s' (pos + 1))).run E.P w = .ok () { w with heap := w.heap.setIfInBounds l.blk (.stringIter s' (pos + 1)) } := by simp [setObj, Sem.run, hb]
            have hblt : l.blk < w.heap.size := by
              rcases Nat.lt_or_ge l.blk w.heap.size with a | a
              · exact a
              · rw [Array.getElem?_eq_none a] at hb; simp at hb
            obtain ⟨hok, hfr⟩ := ok.change (w' := { w with heap := w.heap.setIfInBounds l.blk (.stringIter s' (pos + 1)) }) (o' := .siter s (pos + 1)) hg rfl hφ (by simp [hblt]; exact ⟨h00, s', rfl, hs'⟩) (fun c hne => by simp [Array.getElem?_setIfInBounds, Ne.symm hne]) (by simp) rfl rfl rfl
            refine ⟨φ, _, .tuple #[.bool true, .int .i64 pos, .int .i32 c.toNat], ?_, VR.tuple' (cs' := [.bool true, .int .i64 pos, .int .i32 c.toNat]) (.cons (.bool true) (.cons (.int _ _) (.cons (.int _ _) (.nil φ)))), hok, hfr⟩
            have hdec := ascii_decode (s := s') (pos := pos) (b := c) (by rw [hs']; exact hc) hasc
            have h0 : l.off + 0 = 0 := by omega
            simp only [Instr.next, h0, Sem.run_bind, hgo, Result.andThen_ok, e1, hlt, if_true, hdec, hset, Sem.run_pure, goInt]
          · simp at e
        · simp at e
      · rename_i hlt
        simp at e; obtain ⟨rfl, rfl⟩ := e
        refine ⟨φ, w, .tuple #[.bool false], ?_, VR.tuple' (cs' := [.bool false]) (.cons (.bool false) (.nil φ)), ok, Fr.refl φ h w⟩
        have h0 : l.off + 0 = 0 := by omega
        simp only [Instr.next, h0, Sem.run_bind, hgo, Result.andThen_ok, e1, hlt, if_false, Sem.run_pure]
    · rename_i s1 s2 s3 hg
      have hor := ok.live r _ l hg hφ
      obtain ⟨h00, hb⟩ := hor
      have hgo : (getObj l.blk).run E.P w = .ok (.mapIter none s1 s2.toArray s3) w := by simp [getObj, Sem.run, hb]
      simp at e; obtain ⟨rfl, rfl⟩ := e
      refine ⟨φ, w, .tuple #[.bool false], ?_, VR.tuple' (cs' := [.bool false]) (.cons (.bool false) (.nil φ)), ok, Fr.refl φ h w⟩
      have h0 : l.off + 0 = 0 := by omega
      simp only [Instr.next, h0, Sem.run_bind, hgo, Result.andThen_ok, Sem.run_pure]
    · simp at e
  · simp at e

end Go.Ab
