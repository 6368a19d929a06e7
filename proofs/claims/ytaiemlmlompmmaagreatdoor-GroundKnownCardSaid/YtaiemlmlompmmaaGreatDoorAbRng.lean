/-
  A RANGE OVER A FUNCTION: the statement.
-/
import Derived.Test.YtaiemlmlompmmaaGreatDoorAbDraw5
namespace Go.Ab
variable {E : Env}

/-- where text comes to -/
def ArrR (P : Program) (m : Machine) (b : Frame) (k : List Item) (cs : List Frame) : Exit → Act → World → Prop
  | .normal, a, w => Steps P m (lone (b.atR a k) cs w)
  | .exit id, a, w => ∃ todo, exitTo id todo = exitTo id k ∧ Steps P m (lone (b.atR a (.code (.exit id) :: todo)) cs w)
  | .ret, a, w => ∃ todo, Steps P m (lone (b.atR a (.code .ret :: todo)) cs w)
  | .panic chain, a, w => ∃ todo, Steps P m (lone { b.atR a todo with mode := .panicking chain } cs w)
  | _, _, _ => False

theorem ArrR.of_steps {P : Program} {m m' : Machine} {b : Frame} {k : List Item} {cs : List Frame} {e : Exit} {a : Act} {w : World} (hs : Steps P m m') (h : ArrR P m' b k cs e a w) : ArrR P m b k cs e a w := by
  cases e with
  | normal => exact Steps.trans hs h
  | exit id => obtain ⟨t, h1, h2⟩ := h; exact ⟨t, h1, Steps.trans hs h2⟩
  | ret => obtain ⟨t, h2⟩ := h; exact ⟨t, Steps.trans hs h2⟩
  | panic c => obtain ⟨t, h2⟩ := h; exact ⟨t, Steps.trans hs h2⟩
  | goto l => exact h.elim
  | outgrown => exact h.elim

theorem ArrR.pass {P : Program} {m : Machine} {b : Frame} {x : Item} {k : List Item} {cs : List Frame} {e : Exit} {a : Act} {w : World} (hx : ∀ id, exitTo id (x :: k) = exitTo id k) (hn : e ≠ .normal) (h : ArrR P m b (x :: k) cs e a w) : ArrR P m b k cs e a w := by
  cases e with
  | normal => exact absurd rfl hn
  | exit id => obtain ⟨t, h1, h2⟩ := h; exact ⟨t, h1.trans (hx id), h2⟩
  | ret => exact h
  | panic c => exact h
  | goto l => exact h.elim
  | outgrown => exact h.elim

structure ExOut (E : Env) (φ : Ph) (h : Heap) (w : World) (b : Frame) (K : Bool → List Frame) (k : List Item) (m : Machine) (e : AEx) (s' : St) : Prop where
  is : ∃ φ' w' a' e', ExR φ' e e' ∧ SR φ' s'.ts s'.ds a' ∧ OK E φ' s'.h w' ∧ Fr φ h w φ' s'.h w' ∧ RCok φ' b K s'.rc ∧ ArrR E.P m b k (cur K s'.rc) e' a' w'

theorem ExOut.of_steps {φ : Ph} {h : Heap} {w : World} {b : Frame} {K : Bool → List Frame} {k : List Item} {m m' : Machine} {e : AEx} {s' : St} (hs : Steps E.P m m') (x : ExOut E φ h w b K k m' e s') : ExOut E φ h w b K k m e s' := by
  obtain ⟨φ', w', a', e', h1, h2, h3, h4, h5, h6⟩ := x.is
  exact ⟨φ', w', a', e', h1, h2, h3, h4, h5, .of_steps hs h6⟩
theorem ExOut.later {φ φ₁ : Ph} {h h₁ : Heap} {w w₁ : World} {b : Frame} {K : Bool → List Frame} {k : List Item} {m : Machine} {e : AEx} {s' : St} (f : Fr φ h w φ₁ h₁ w₁) (x : ExOut E φ₁ h₁ w₁ b K k m e s') : ExOut E φ h w b K k m e s' := by
  obtain ⟨φ', w', a', e', h1, h2, h3, h4, h5, h6⟩ := x.is
  exact ⟨φ', w', a', e', h1, h2, h3, f.trans h4, h5, h6⟩

/-- a new block with an object that is no cells -/
theorem OK.made {φ : Ph} {h h' : Heap} {w : World} (ok : OK E φ h w) {o : AObj} {O : Obj} (hn : h.new o = some h') (ho : OR E (φ.add h.nx ⟨w.heap.size, 0, 0⟩) o ⟨w.heap.size, 0, 0⟩ (some O)) :
    OK E (φ.add h.nx ⟨w.heap.size, 0, 0⟩) h' (w.alloc O) ∧ Fr φ h w (φ.add h.nx ⟨w.heap.size, 0, 0⟩) h' (w.alloc O) ∧ φ.le (φ.add h.nx ⟨w.heap.size, 0, 0⟩) :=
  ok.fresh (w' := w.alloc O) hn ⟨w.heap.size, 0, 0⟩ (by rw [show (w.alloc O).heap = w.heap.push O from rfl]; simpa using ho)
    (fun c hne hc => by rw [show (w.alloc O).heap = w.heap.push O from rfl, Array.getElem?_push, if_neg (by simpa using hne)]) (by simp) (Nat.le_refl _) rfl rfl rfl

/-- a record that turns -/
theorem OK.turn {φ : Ph} {h : Heap} {w : World} (ok : OK E φ h w) {i : Nat} {o o' : AObj} {l : Loc} (hg : h.get i = some o) (hrw : o.rw = true) (hl : φ i = some l) {O : Obj} (ho : OR E φ o' l (some O)) :
    OK E φ (h.put i (some o')) (w.putObj l.blk O) ∧ Fr φ h w φ (h.put i (some o')) (w.putObj l.blk O) := by
  have hlt : l.blk < w.heap.size := by
    rcases Nat.lt_or_ge l.blk w.heap.size with h1 | h1
    · exact h1
    · have := ok.live i o l hg hl
      rw [Array.getElem?_eq_none h1] at this
      exact this.absurd.elim
  exact ok.change hg hrw hl (by rw [World.putObj_heap_same hlt]; exact ho) (fun c hc => World.putObj_heap_other hc) World.putObj_size rfl rfl rfl

/-- a name given up, with its block turned -/
theorem OK.shut {φ : Ph} {h : Heap} {w : World} (ok : OK E φ h w) {i : Nat} {o : AObj} {l : Loc} (hg : h.get i = some o) (hrw : o.rw = true) (hl : φ i = some l) (O : Obj) :
    OK E φ (h.put i none) (w.putObj l.blk O) ∧ Fr φ h w φ (h.put i none) (w.putObj l.blk O) := by
  have hi := Heap.get_lt hg
  have hget : ∀ j p, (h.put i none).get j = some p → h.get j = some p ∧ j ≠ i := fun j p hj => by
    by_cases e : i = j
    · subst e; rw [Heap.get_put_same hi] at hj; simp at hj
    · rw [Heap.get_put_other hi e] at hj; exact ⟨hj, Ne.symm e⟩
  refine ⟨⟨ok.dom, ok.nx, ok.top, ok.glob, fun j p m hj hm => ?_, fun j k p q m n hj hk => ok.inj j k p q m n (hget j p hj).1 (hget k q hk).1⟩,
    ⟨Ph.le_refl φ, fun _ _ => rfl, Nat.le_refl _, rfl, rfl, rfl, by simp, fun b _ hn => World.putObj_heap_other (fun e => hn i o l hg hrw hl e.symm), fun j p m hj hr hm => .inr ⟨j, p, m, (hget j p hj).1, hr, hm, rfl⟩⟩⟩
  obtain ⟨hj', hne⟩ := hget j p hj
  rw [World.putObj_heap_other (fun e => hne (ok.inj j i p o m l hj' hg hm hl e))]
  exact ok.live j p m hj' hm

/-- the statement's opening -/
theorem openA_sound {s : St} {dn : Nat} {h1 : Heap} {ds1 : List ADef} (ho : openA s = some (dn, h1, ds1)) {φ : Ph} {a : Act} {w : World} {b : Frame} {K : Bool → List Frame} (hs : SR φ s.ts s.ds a) (ok : OK E φ s.h w) (hrc : RCok φ b K s.rc)
    (ps : Array Tmp) (as bd : Code) : ∃ φ1 w1 ld mark, φ.le φ1 ∧ OK E φ1 h1 w1 ∧ Fr φ s.h w φ1 h1 w1 ∧ φ1 dn = some ld ∧ SR φ1 s.ts ds1 { a with defers := mark ++ a.defers } ∧
      (Instr.enterLoop b.fn a.tmps ps as bd b.roundOf).run E.P w = .ok (w1.heap.size, mark) (w1.alloc (.loop { state := .ready, pending := none, fn := b.fn, tmps := a.tmps, params := ps, assign := as, body := bd, defers := ld.blk })) := by
  unfold openA at ho
  split at ho
  · rename_i l hl
    split at ho
    · rename_i st pd ts ps' as' bd' dn' hg
      simp at ho; obtain ⟨rfl, rfl, rfl⟩ := ho
      rw [hl] at hrc
      obtain ⟨ll, hφ, hro⟩ := hrc
      obtain ⟨_, r, hr, hrr⟩ := ok.live _ _ _ hg hφ
      obtain ⟨ld, hd1, hd2⟩ := hrr.defers
      refine ⟨φ, w, ld, [], Ph.le_refl φ, ok, Fr.refl _ _ _, hd1, ⟨hs.ts, hs.ds⟩, ?_⟩
      rw [hro, run_enterLoop_inner hr, hd2]
    · simp at ho
  · rename_i hnb
    split at ho
    · rename_i h1' hn
      simp at ho; obtain ⟨rfl, rfl, rfl⟩ := ho
      obtain ⟨ok1, fr1, hle⟩ := ok.made (O := .deferred (some [])) hn ⟨rfl, rfl⟩
      have hself : (φ.add s.h.nx ⟨w.heap.size, 0, 0⟩) s.h.nx = some ⟨w.heap.size, 0, 0⟩ := by simp [Ph.add]
      refine ⟨_, _, ⟨w.heap.size, 0, 0⟩, [{ target := .collected w.heap.size, args := #[] }], hle, ok1, fr1, hself, ⟨hs.ts.mono hle, ⟨_, hself, rfl⟩, hs.ds.mono hle⟩, ?_⟩
      rw [hrc.plain (isBar_of hnb), run_enterLoop_outer]
      simp
    · simp at ho

theorem jumpA_ne {c : Code} {e : AEx} (h : jumpA (some c) = some e) : (∃ id, c = .exit id ∧ e = .exit id) ∨ (c = .ret ∧ e = .ret) := by
  cases c <;> simp [jumpA] at h
  · exact .inl ⟨_, rfl, h.symm⟩
  · exact .inr ⟨rfl, h.symm⟩

theorem rangeA_sound {call : CallF} (hcall : CallOK E call) {f : Operand} {ps : Array Tmp} {as bd : Code} {s s' : St} {e : AEx} (h : rangeA E call f ps as bd s = .ok e s')
    {φ : Ph} {a : Act} {w : World} {b : Frame} {k : List Item} {K : Bool → List Frame} (hs : SR φ s.ts s.ds a) (ok : OK E φ s.h w) (hrc : RCok φ b K s.rc) (hfn : (E.P.funcs[b.fn]?).isSome = true) :
    ExOut E φ s.h w b K k (lone (b.atR a (.code (.rangeFunc f ps as bd) :: k)) (cur K s.rc) w) e s' := by
  unfold rangeA at h
  split at h
  · rename_i g first captured hf
    split at h
    · rename_i dn h1 ds1 ho
      split at h
      · rename_i h2 hn
        have hfv := evs_VR ok.gl hs.ts hf
        generalize hcv : a.eval f = cv at hfv
        obtain ⟨fs', cs', rfl, hfs, hcs⟩ := hfv.func_inv
        obtain ⟨φ1, w1, ld, mark, hle1, ok1, fr1, hld, hs1, hent⟩ := openA_sound ho hs ok hrc ps as bd
        obtain ⟨ok2, fr2, hle2⟩ := ok1.made (O := .loop { state := .ready, pending := none, fn := b.fn, tmps := a.tmps, params := ps, assign := as, body := bd, defers := ld.blk }) hn
          ⟨rfl, _, rfl, ⟨rfl, rfl, hs.ts.mono (Ph.le_trans hle1 (fun j m hm => by
            unfold Ph.add; split
            · rename_i e; subst e; exact absurd (ok1.dom _ _ hm) (Nat.lt_irrefl _)
            · exact hm)), rfl, rfl, rfl, ⟨ld, by
            unfold Ph.add; split
            · rename_i e; subst e; exact absurd (ok1.dom _ _ hld) (Nat.lt_irrefl _)
            · exact hld, rfl⟩, hfn⟩⟩
        have hle := Ph.le_trans hle1 hle2
        have hself : (φ1.add h1.nx ⟨w1.heap.size, 0, 0⟩) h1.nx = some ⟨w1.heap.size, 0, 0⟩ := by simp [Ph.add]
        generalize hφ2 : φ1.add h1.nx ⟨w1.heap.size, 0, 0⟩ = φ2 at ok2 fr2 hle2 hle hself
        have hl : LR φ2 (first ++ [.yieldF h1.nx] ++ captured) (fs'.toList ++ [.func (.yield w1.heap.size) #[] #[]] ++ cs'.toList) :=
          ((hfs.mono hle).append (.cons (.yield hself) (.nil φ2))).append (hcs.mono hle)
        have hres : ∀ w', (resolve a.eval (rangeCall f w1.heap.size) 0).run E.P w' = .ok { target := .fn (.func g) cs', args := fs' ++ #[.func (.yield w1.heap.size) #[] #[]] } w' := fun w' => by
          have hcon : a.eval (.const (.func (.yield w1.heap.size) #[] #[])) = .func (.yield w1.heap.size) #[] #[] := rfl
          simp [resolve, Deferred.ofValue, hcv, hcon]
        -- the call's own step
        have start : ∀ n st, Pushes E φ2 (w1.alloc (.loop { state := .ready, pending := none, fn := b.fn, tmps := a.tmps, params := ps, assign := as, body := bd, defers := ld.blk })) (.fn g) (fs'.toList ++ [.func (.yield w1.heap.size) #[] #[]] ++ cs'.toList) n st →
            step E.P (lone (b.atR a (.code (.rangeFunc f ps as bd) :: k)) (cur K s.rc) w) = .next (lone st (b.atR { a with defers := mark ++ a.defers } (.inRangeFunc w1.heap.size :: k) :: cur K s.rc)
              (w1.alloc (.loop { state := .ready, pending := none, fn := b.fn, tmps := a.tmps, params := ps, assign := as, body := bd, defers := ld.blk }))) := fun n st hp => by
          cases hp with
          | fn _ _ hr =>
            have hinv : (invoke (Target.fn (.func g) cs') (fs' ++ #[.func (.yield w1.heap.size) #[] #[]])).run E.P (w1.alloc (.loop { state := .ready, pending := none, fn := b.fn, tmps := a.tmps, params := ps, assign := as, body := bd, defers := ld.blk })) =
                .ok (.enter g (fs'.toList ++ [Value.func (.yield w1.heap.size) #[] #[]] ++ cs'.toList).toArray) (w1.alloc (.loop { state := .ready, pending := none, fn := b.fn, tmps := a.tmps, params := ps, assign := as, body := bd, defers := ld.blk })) := by
              have e : (fs'.toList ++ [Value.func (.yield w1.heap.size) #[] #[]] ++ cs'.toList).toArray = fs' ++ #[Value.func (.yield w1.heap.size) #[] #[]] ++ cs' := by
                apply Array.toList_inj.1; simp
              rw [e] at hr ⊢
              simpa [invoke] using hr
            exact stepR_rangeFunc hent (hres _) hinv
        split at h
        · -- the function returns
          rename_i v h3 hc
          obtain ⟨n, st, hp, hrun⟩ := hcall.ret _ _ _ _ _ hc φ2 _ _ ok2 trivial hl
          obtain ⟨φ3, w3, v', _, ok3, fr3, hst⟩ := hrun (b.atR { a with defers := mark ++ a.defers } (.inRangeFunc w1.heap.size :: k)) (cur K s.rc)
          rw [finish_atR_inRangeFunc] at hst
          split at h
          · simp at h
          · rename_i st' pend ts' ps' as' bd' dn' hnb hg
            split at h
            · rename_i e1 hj
              simp at h; obtain ⟨rfl, rfl⟩ := h
              have hl3 := fr3.ext _ _ hself
              obtain ⟨_, r, hr, hrr⟩ := ok3.live _ _ _ hg hl3
              have hbusy : r.state ≠ .busy := by rw [hrr.state]; intro e; subst e; exact hnb rfl
              obtain ⟨ok4, fr4⟩ := ok3.turn (o' := .loop .exhausted pend ts' ps' as' bd' dn') hg rfl hl3 (O := .loop { r with state := .exhausted }) ⟨rfl, _, rfl, ⟨rfl, hrr.pending, hrr.tmps, hrr.params, hrr.assign, hrr.body, hrr.defers, hrr.fn⟩⟩
              obtain ⟨W4, hW4⟩ : ∃ W4, W4 = w3.putObj w1.heap.size (.loop { r with state := .exhausted }) := ⟨_, rfl⟩
              have ok4 : OK E φ3 (h3.put h1.nx (some (.loop .exhausted pend ts' ps' as' bd' dn'))) W4 := by rw [hW4]; exact ok4
              have fr4 : Fr φ3 h3 w3 φ3 (h3.put h1.nx (some (.loop .exhausted pend ts' ps' as' bd' dn'))) W4 := by rw [hW4]; exact fr4
              have hend := stepR_endRangeFunc (P := E.P) (b := b) (a := { a with defers := mark ++ a.defers }) (k := k) (cs := cur K s.rc) (run_endLoop hr hbusy)
              rw [← hW4] at hend
              have hfr := ((fr1.trans fr2).trans fr3).trans fr4
              have hsteps := Steps.trans (.head (start n st hp) hst) (.one hend)
              rw [hrr.pending] at hsteps
              have hle3 := Ph.le_trans hle2 fr3.ext
              have hle03 := Ph.le_trans hle fr3.ext
              cases pend with
              | none =>
                simp [jumpA] at hj; subst hj
                exact ⟨φ3, _, _, _, .normal, hs1.mono hle3, ok4, hfr, hrc.mono hle03, hsteps⟩
              | some c =>
                rcases jumpA_ne hj with ⟨id, rfl, rfl⟩ | ⟨rfl, rfl⟩
                · exact ⟨φ3, _, _, _, .exit id, hs1.mono hle3, ok4, hfr, hrc.mono hle03, k, rfl, hsteps⟩
                · exact ⟨φ3, _, _, _, .ret, hs1.mono hle3, ok4, hfr, hrc.mono hle03, k, hsteps⟩
            · simp at h
          · simp at h
        · -- it panics
          rename_i v h3 hc
          simp at h; obtain ⟨rfl, rfl⟩ := h
          obtain ⟨n, st, hp, hrun⟩ := hcall.panic _ _ _ _ _ hc φ2 _ _ ok2 trivial hl
          obtain ⟨φ3, w3, v', hv, ok3, fr3, hst⟩ := hrun (b.atR { a with defers := mark ++ a.defers } (.inRangeFunc w1.heap.size :: k)) (cur K s.rc)
          rw [Frame.raise_atR] at hst
          exact ⟨φ3, w3, _, _, .panic v v' hv, hs1.mono (Ph.le_trans hle2 fr3.ext), ok3, (fr1.trans fr2).trans fr3, hrc.mono (Ph.le_trans hle fr3.ext), _, .head (start n st hp) hst⟩
        · simp at h
      · simp at h
    · simp at h
  · simp at h

end Go.Ab
