/-
  A REGION THAT DRAWS ITS ORDER: every order comes to what the plan's comes to.
-/
import Derived.Test.YtaiemlmlompmmaaGreatDoorAbDraw3
namespace Go.Ab
variable {E : Env}

section
variable {call : CallF} {ops : Array Oper} {pl : Plan} {s s' : St} {tr : List Step} {hs st : List Heap}

theorem effs_spec {l : List Oper} {i : Nat} : i ∈ effsOf E l ↔ ∃ o, l[i]? = some o ∧ effB E o.op = true := by
  unfold effsOf
  simp only [List.mem_map, List.mem_filter, Prod.exists]
  constructor
  · rintro ⟨o, j, ⟨h1, h2⟩, rfl⟩
    exact ⟨o, by rw [List.mk_mem_zipIdx_iff_getElem?] at h1; exact h1, h2⟩
  · rintro ⟨o, h1, h2⟩
    exact ⟨o, i, ⟨by rw [List.mk_mem_zipIdx_iff_getElem?]; exact h1, h2⟩, rfl⟩

theorem PlanOK.eff_iff (pok : PlanOK E ops pl) {i : Nat} {o : Oper} (ho : ops[i]? = some o) : i ∈ pl.effs ↔ effB E o.op = true := by
  rw [pok.effs, effs_spec]
  constructor
  · rintro ⟨o', h1, h2⟩
    have : ops.toList[i]? = some o := by simpa using ho
    rw [this] at h1; simp at h1; subst h1; exact h2
  · intro h; exact ⟨o, by simpa using ho, h⟩

/-- a step that writes is the next one of these -/
theorem Inv.eff_next {φ₀ φ : Ph} {w₀ w : World} {ds₀ : List Deferred} {d : List Nat} {listed : Array Bool} {K : Nat} {a : Act} (r : Reg E call ops pl s s' tr hs st) (inv : Inv E ops pl s tr hs st φ₀ w₀ ds₀ d listed K φ a w)
    {x : Step} (hx : pl.effs[x.k]? = some x.i) (hd : x.i ∉ d) (hpre : ∀ j, isAnc pl.an x.i j = true → j ∈ d) : x.k = K := by
  have h1 : ¬ x.k < K := fun h => hd ((inv.effs x.k x.i hx).2 h)
  rcases Nat.lt_or_ge K x.k with h | h
  · exfalso
    obtain ⟨q, hq⟩ : ∃ q, x.k = q + 1 := ⟨x.k - 1, by omega⟩
    have hlt : q < pl.effs.length := by have := (List.getElem?_eq_some_iff.1 hx).1; omega
    have hq' : pl.effs[q]? = some pl.effs[q] := by simp [hlt]
    have := r.plan.chain q _ x.i hq' (by rw [← hq]; exact hx)
    have := (inv.effs q _ hq').1 (hpre _ this)
    omega
  · omega

theorem Inv.window {φ₀ φ : Ph} {w₀ w : World} {ds₀ : List Deferred} {d : List Nat} {listed : Array Bool} {K : Nat} {a : Act} (inv : Inv E ops pl s tr hs st φ₀ w₀ ds₀ d listed K φ a w)
    {i : Nat} (hd : i ∉ d) (hpre : ∀ j, isAnc pl.an i j = true → j ∈ d) : rank pl.effs pl.an i ≤ K ∧ K ≤ latest pl.effs pl.an i := by
  refine ⟨filter_le (fun q e hq he => (inv.effs q e hq).1 (hpre e he)), ?_⟩
  rcases Nat.lt_or_ge (latest pl.effs pl.an i) K with h | h
  · exfalso
    have hlt : latest pl.effs pl.an i < pl.effs.length := by have := inv.Kle; omega
    have hq : pl.effs[latest pl.effs pl.an i]? = some pl.effs[latest pl.effs pl.an i] := by simp [hlt]
    have h1 := takeWhile_at (P := fun e => !isAnc pl.an e i) hq
    simp only [Bool.not_eq_false'] at h1
    exact hd (inv.closed _ ((inv.effs _ _ hq).2 h) i h1)
  · exact h

theorem appI_snoc (ops : Array Oper) (val : Nat → AV) (ts : List AV) (d : List Nat) (i : Nat) : appI ops val ts (d ++ [i]) = putT (appI ops val ts d) (dstOf ops i) (val i) := by
  simp [appI]

/-- what does not speak of the heap, behind a step more -/
theorem Inv.snoc {φ₀ φ φ' : Ph} {w₀ w w' : World} {ds₀ : List Deferred} {d : List Nat} {listed : Array Bool} {K K' : Nat} {a : Act} (r : Reg E call ops pl s s' tr hs st) (inv : Inv E ops pl s tr hs st φ₀ w₀ ds₀ d listed K φ a w)
    {p : Nat} {x : Step} {o : Oper} (hp : tr[p]? = some x) (ho : ops[x.i]? = some o) (hd : x.i ∉ d) (hpre : ∀ j, isAnc pl.an x.i j = true → j ∈ d) (hle : φ.le φ') {v' : Value} (hv : VR φ' x.v v')
    (hK : (effB E o.op = false ∧ K' = K) ∨ (effB E o.op = true ∧ x.k = K ∧ pl.effs[x.k]? = some x.i ∧ K' = K + 1))
    (hok : ∃ hK, hs[K']? = some hK ∧ OK E φ' hK w' ∧ Fr φ₀ s.h w₀ φ' hK w')
    (hpend : ∀ y ∈ tr, ∀ n obj, y.kind = .alc n obj → y.i ∉ d → y.i ≠ x.i → y.k ≤ K' → φ' n = none ∧ s.h.nx ≤ n ∧ ∀ hK, hs[K']? = some hK → n < hK.nx) :
    Inv E ops pl s tr hs st φ₀ w₀ ds₀ (d ++ [x.i]) (listed.setIfInBounds x.i true) K' φ' (a.put o.dst v') w' := by
  have hnd : (tr.map (·.i)).Nodup := by rw [r.trace.is]; exact r.nodup
  have hlt : x.i < ops.size := (Array.getElem?_eq_some_iff.1 ho).1
  refine ⟨?_, fun i hi => ?_, fun i hi => ?_, fun i hi j hj => ?_, fun q e hq => ?_, ?_, ?_, by rw [put_defers]; exact inv.ds, hok, fun y hy n obj hkd hyd hyk => ?_⟩
  · rw [List.nodup_append]; exact ⟨inv.nd, by simp, fun a ha b hb => by simp at hb; subst hb; exact fun e => hd (e ▸ ha)⟩
  · simp at hi; rcases hi with h | rfl
    · exact inv.lt i h
    · exact hlt
  · have h1 := inv.listed i hi
    by_cases e : x.i = i
    · subst e
      have hsz : x.i < listed.size := (Array.getElem?_eq_some_iff.1 h1).1
      rw [Array.getElem?_setIfInBounds]; simp [hsz]
    · rw [Array.getElem?_setIfInBounds_ne e, h1]
      simp [show i ≠ x.i from fun h => e h.symm]
  · simp at hi; rcases hi with h | rfl
    · exact List.mem_append_left _ (inv.closed i h j hj)
    · exact List.mem_append_left _ (hpre j hj)
  · rcases hK with ⟨he, rfl⟩ | ⟨he, hxk, hxe, rfl⟩
    · have hne : e ≠ x.i := fun h => by
        subst h
        have := (r.plan.eff_iff ho).1 (List.mem_of_getElem? hq)
        rw [he] at this; simp at this
      simp [hne, inv.effs q e hq]
    · have hqe : e = x.i ↔ q = K := by
        constructor
        · intro h; subst h
          have := (List.getElem?_inj (List.getElem?_eq_some_iff.1 hq).1 r.plan.nd).1 (hq.trans hxe.symm)
          omega
        · intro h; subst h; rw [← hxk, hxe] at hq; simpa using hq.symm
      simp only [List.mem_append, List.mem_singleton, inv.effs q e hq, hqe]
      omega
  · rcases hK with ⟨he, rfl⟩ | ⟨he, hxk, hxe, rfl⟩
    · exact inv.Kle
    · have := (List.getElem?_eq_some_iff.1 hxe).1; omega
  · rw [appI_snoc, valOf_at hnd hp]
    have : dstOf ops x.i = o.dst := by simp [dstOf, ho]
    rw [this]
    exact put_LR (inv.ts.mono hle) o.dst hv
  · simp only [List.mem_append, List.mem_singleton, not_or] at hyd
    exact hpend y hy n obj hkd hyd.1 hyd.2 hyk

/-- one operation that writes or calls, at a region's head -/
theorem eff_steps (hE : EnvOK E) {call : CallF} (hcall : CallOK E call) {ts : List AV} {h h' : Heap} {rc : RC} {o : Oper} {v : AV} (heff : effA E call ts h rc o = .val v h') {i : Nat} {rest : List Nat} (ho : ops[i]? = some o)
    {φ : Ph} {a : Act} {w : World} {b : Frame} {k : List Item} {K : Bool → List Frame} (hts : LR φ ts a.tmps.toList) (ok : OK E φ h w) (hrc : RCok φ b K rc) (hw : Region.wanted o (yielded ops a.tmps) = true) :
    ∃ φ' w' v', VR φ' v v' ∧ OK E φ' h' w' ∧ Fr φ h w φ' h' w' ∧ Steps E.P (lone (b.atR a (.inRegion ops (i :: rest) :: k)) (cur K rc) w) (lone (b.atR (a.put o.dst v') (.inRegion ops rest :: k)) (cur K rc) w') := by
  have hes := effA_sound hE hcall (rc := rc) (o := o) hts ok
  have hnd : rc.isBar = false ∨ ∀ c, o.op ≠ .defer c := by
    by_cases hd : ∃ c, o.op = .defer c
    · obtain ⟨c, hd⟩ := hd
      unfold effA at heff
      simp only [hd] at heff
      split at heff <;> simp at heff
    · exact .inr (fun c e => hd ⟨c, e⟩)
  have hsem := sem_of hrc hnd a.eval
  rw [heff] at hes
  cases hes with
  | val v h' φ' w' v' hv ok' fr run => exact ⟨φ', w', v', hv, ok', fr, .one (go_value hsem ho hw run)⟩
  | skip h' φ' w' ok' fr run => exact ⟨φ', w', undef, .undef φ', ok', fr, .one (go_skip' hsem ho hw run)⟩
  | enter v h' F args all hr hf hl run =>
    obtain ⟨n, start, hp, hst⟩ := hr φ w all ok hf hl
    obtain ⟨φ', w', v', hv, ok', fr, hsteps⟩ := hst (b.atR a (.inRegion ops (i :: rest) :: k)) (cur K rc)
    rw [fin_atR ho] at hsteps
    exact ⟨φ', w', v', hv, ok', fr, .head (go_enter hsem ho hw hp (run n start hp)) hsteps⟩
  | norec hne hnb run =>
    have hno : ∀ fr : Frame, fr.kind = b.kind → tryRecover fr (cur K rc) = none := by
      cases hrcc : rc with
      | no => rw [hrcc] at hrc; exact hrc.2
      | pend v => exact absurd hrcc (hne v)
      | done => rw [hrcc] at hrc; exact hrc.2
      | bar l => rw [hrcc] at hnb; simp [RC.isBar] at hnb
    exact ⟨φ, w, .nilIface, .nilIface, ok, Fr.refl _ _ _, .one (go_recover_no (hrc.plain hnb) hsem ho hw run (hno _ rfl))⟩

/-- one operation, whichever may be next -/
theorem Inv.onestep (hE : EnvOK E) {callR : CallF} (hcall : CallOK E callR) {φ₀ φ : Ph} {w₀ w : World} {ds₀ : List Deferred} {d : List Nat} {listed : Array Bool} {K : Nat} {a : Act} (r : Reg E call ops pl s s' tr hs st) (inv : Inv E ops pl s tr hs st φ₀ w₀ ds₀ d listed K φ a w)
    {b : Frame} {k : List Item} {Ks : Bool → List Frame} (hrc : RCok φ₀ b Ks s.rc) {i : Nat} (hi : i < ops.size) (hd : i ∉ d) (hpre : ∀ j, isAnc pl.an i j = true → j ∈ d)
    (hreal : ∀ (x : Step) (o : Oper) (hk h' : Heap), x ∈ tr → x.i = i → ops[x.i]? = some o → hs[x.k]? = some hk → x.kind = .eff h' → effA E callR x.ts hk s.rc o = .val x.v h') (rest : List Nat) :
    ∃ K' φ' a' w', Inv E ops pl s tr hs st φ₀ w₀ ds₀ (d ++ [i]) (listed.setIfInBounds i true) K' φ' a' w' ∧
      Steps E.P (lone (b.atR a (.inRegion ops (i :: rest) :: k)) (cur Ks s.rc) w) (lone (b.atR a' (.inRegion ops rest :: k)) (cur Ks s.rc) w') := by
  obtain ⟨p, x, hp, rfl⟩ := r.all hi
  have hxm : x ∈ tr := List.mem_of_getElem? hp
  obtain ⟨h1, h2, h3, hk, o, ho, heff, hrank⟩ := r.at hp
  obtain ⟨_, _, o', hk1, sk1, ho', hhk, hsk, hst⟩ := r.trace.step p x hp
  rw [ho] at ho'; simp at ho'; subst ho'
  rw [← hk] at hhk hsk hst
  obtain ⟨hag, hwant⟩ := agree r hp ho hd inv.closed hpre
  obtain ⟨hK, hhK, ok, fr⟩ := inv.ok
  have hwe : Region.wanted o (yielded ops a.tmps) = wantedA ops x.ts o := by rw [wantedA_eq inv.ts o, hwant]
  have hag' : Agree E (appI ops (valOf tr) s.ts d) x.ts o.op := fun y hy => (hag y hy).symm
  -- the names that wait, when nothing is written
  have same : ∀ y ∈ tr, ∀ n obj, y.kind = .alc n obj → y.i ∉ d → y.i ≠ x.i → y.k ≤ K → φ n = none ∧ s.h.nx ≤ n ∧ ∀ hK, hs[K]? = some hK → n < hK.nx :=
    fun y hy n obj a1 a2 _ a3 => inv.pend y hy n obj a1 a2 a3
  -- the names that wait, when something is
  have wrote : ∀ (φ' : Ph) (h' : Heap) (w' : World), x.k = K → st[K + 1]? = some h' → OK E φ' h' w' → Fr φ hK w φ' h' w' →
      ∃ hK', hs[K + 1]? = some hK' ∧ OK E φ' hK' w' ∧ Fr φ₀ s.h w₀ φ' hK' w' ∧
      ∀ y ∈ tr, ∀ n obj, y.kind = .alc n obj → y.i ∉ d → y.i ≠ x.i → y.k ≤ K + 1 → φ' n = none ∧ s.h.nx ≤ n ∧ ∀ hK, hs[K + 1]? = some hK → n < hK.nx := by
    intro φ' h' w' hxk hst' ok' fr'
    have hlt : K + 1 < hs.length := by rw [← r.trace.slen]; exact (List.getElem?_eq_some_iff.1 hst').1
    have hhs : hs[K + 1]? = some hs[K + 1] := by simp [hlt]
    have g := r.trace.grown (K + 1) h' _ hst' hhs
    obtain ⟨ok2, fr2⟩ := ok'.grown g
    have fr3 := (fr.trans fr').trans fr2
    refine ⟨_, hhs, ok2, fr3, fun y hy n obj a1 a2 a3 a4 => ?_⟩
    have hnx : ∀ hK', hs[K + 1]? = some hK' → hK' = hs[K + 1] := fun hK' e => by rw [hhs] at e; simpa using e.symm
    rcases Nat.lt_or_ge K y.k with h | h
    · -- it is made behind this
      have hyk : y.k = K + 1 := by omega
      obtain ⟨q, hq⟩ := List.getElem?_of_mem hy
      obtain ⟨_, _, _, hky, oy, hoy, _, _⟩ := r.at hq
      obtain ⟨_, _, oy', hky1, sky1, hoy', hhky, hsky, hsty⟩ := r.trace.step q y hq
      rw [← hky, hyk] at hhky hsky
      rw [hst'] at hsky; simp at hsky; subst hsky
      unfold StepT at hsty
      rw [a1] at hsty
      obtain ⟨_, _, _, hn1, hn2⟩ := hsty
      refine ⟨?_, ?_, fun hK' e => ?_⟩
      · cases hφ : φ' n with
        | none => rfl
        | some l => have := ok'.dom n l hφ; omega
      · have := (fr.trans fr').nx; omega
      · rw [e] at hhky; simp at hhky; subst hhky; exact hn2
    · obtain ⟨b1, b2, b3⟩ := inv.pend y hy n obj a1 a2 h
      have hn := b3 hK hhK
      refine ⟨by rw [fr'.old n hn]; exact b1, b2, fun hK' e => ?_⟩
      have := fr'.nx; have := g.nx
      rw [hnx _ e]; omega
  have still : effB E o.op = false → stillS E ops x hK = true := fun he => by
    obtain ⟨w1, w2⟩ := inv.window hd hpre
    exact r.still x hxm K hK (by rw [← hrank he]; exact w1) w2 hhK
  have hgd : ops.getD x.i default = o := by simp [Array.getD_eq_getD_getElem?, ho]
  have skip : wantedA ops x.ts o = false → step E.P (lone (b.atR a (.inRegion ops (x.i :: rest) :: k)) (cur Ks s.rc) w) = .next (lone (b.atR (a.put o.dst undef) (.inRegion ops rest :: k)) (cur Ks s.rc) w) := fun hw => by
    have := stepR_op_skip (P := E.P) (b := b) (a := a) (k := k) (cs := cur Ks s.rc) (w := w) (ops := ops) (i := x.i) (rest := rest) (by rw [ho]; simp; rw [hwe]; exact hw)
    rw [this, ho]; rfl
  unfold StepT at hst
  split at hst
  · -- left out
    obtain ⟨hw, hv, hn⟩ := hst
    have hvr : VR φ x.v undef := by rw [hv]; exact .undef φ
    by_cases he : effB E o.op = true
    · have hxk := inv.eff_next r (heff he) hd hpre
      have hst1 := hn he
      rw [hxk] at hst1 hhk
      rw [hhK] at hhk; simp at hhk; subst hhk
      obtain ⟨hK', q1, q2, q3, q4⟩ := wrote φ hK w hxk hst1 ok (Fr.refl _ _ _)
      exact ⟨K + 1, φ, _, w, inv.snoc r hp ho hd hpre (Ph.le_refl φ) hvr (.inr ⟨he, hxk, heff he, rfl⟩) ⟨hK', q1, q2, q3⟩ q4, .one (skip hw)⟩
    · have he' : effB E o.op = false := by simpa using he
      exact ⟨K, φ, _, w, inv.snoc r hp ho hd hpre (Ph.le_refl φ) hvr (.inl ⟨he', rfl⟩) inv.ok same, .one (skip hw)⟩
  · -- it only reckons
    obtain ⟨he, hw, hpu⟩ := hst
    rw [← pureA_congr hag'] at hpu
    have hnd : ∀ c, o.op ≠ .defer c := fun c e => by rw [e] at hpu; simp [pureA] at hpu
    obtain ⟨v', hv, hr⟩ := pureA_sound hE.ext ok.gl inv.ts hpu
    exact ⟨K, φ, _, w, inv.snoc r hp ho hd hpre (Ph.le_refl φ) hv (.inl ⟨he, rfl⟩) inv.ok same, .one (go_value (sem_of hrc (.inr hnd) _) ho (hwe.trans hw) (hr w))⟩
  · -- it reads
    rename_i hkind
    obtain ⟨he, hw⟩ := hst
    have hs1 := still he
    unfold stillS at hs1
    rw [hkind] at hs1
    simp only [hgd] at hs1
    cases hre : readA E x.ts hK o.op with
    | none => rw [hre] at hs1; simp at hs1
    | some v1 =>
      rw [hre] at hs1
      have hv1 := AV.same_eq _ _ _ hs1
      subst hv1
      rw [← readA_congr hag'] at hre
      have hnd : ∀ c, o.op ≠ .defer c := fun c e => by rw [e] at hre; simp [readA] at hre
      obtain ⟨v', hv, hr⟩ := readA_sound ok.gl ok inv.ts hre
      exact ⟨K, φ, _, w, inv.snoc r hp ho hd hpre (Ph.le_refl φ) hv (.inl ⟨he, rfl⟩) inv.ok same, .one (go_value (sem_of hrc (.inr hnd) _) ho (hwe.trans hw) (hr w rfl))⟩
  · -- it makes a block
    rename_i n obj hkind
    obtain ⟨he, hw, ⟨mk, hal, hxv⟩, _, _⟩ := hst
    have hs1 := still he
    unfold stillS at hs1
    rw [hkind] at hs1
    simp only at hs1
    cases hge : hK.get n with
    | none => rw [hge] at hs1; simp at hs1
    | some o1 =>
      rw [hge] at hs1
      have ho1 := AObj.same_eq hs1
      subst ho1
      obtain ⟨w1, _⟩ := inv.window hd hpre
      obtain ⟨hno, hge2, hlt2⟩ := inv.pend x hxm n o1 hkind hd (by rw [← hrank he]; exact w1)
      rw [← allocA_congr hag'] at hal
      have hnd : ∀ c, o.op ≠ .defer c := fun c e => by rw [e] at hal; simp [allocA] at hal
      obtain ⟨O, mk', hmade, hr⟩ := allocA_sound ok.gl inv.ts hal
      have hle : φ.le (φ.add n ⟨w.heap.size, 0, 0⟩) := fun j m hm => by
        unfold Ph.add; split
        · rename_i e; subst e; rw [hno] at hm; simp at hm
        · exact hm
      obtain ⟨ok2, _⟩ := ok.place hge hno (hlt2 hK hhK) (hmade.obj _ w.heap.size hle)
      have hv := hmade.val (φ.add n ⟨w.heap.size, 0, 0⟩) n w.heap.size hle (by simp [Ph.add])
      rw [← hxv] at hv
      refine ⟨K, _, _, _, inv.snoc r hp ho hd hpre hle hv (.inl ⟨he, rfl⟩) ⟨hK, hhK, ok2, fr.place hge2 hno O⟩ (fun y hy m q a1 a2 a3 a4 => ?_), .one (go_value (sem_of hrc (.inr hnd) _) ho (hwe.trans hw) (hr w))⟩
      obtain ⟨b1, b2, b3⟩ := inv.pend y hy m q a1 a2 a4
      refine ⟨?_, b2, b3⟩
      have hne : m ≠ n := fun e => by subst e; exact a3 (r.ids y x hy hxm m q o1 a1 hkind)
      simp [Ph.add, hne, b1]
  · -- it writes, or calls
    rename_i h' hkind
    obtain ⟨he, hw, _, hst1⟩ := hst
    have hef := hreal x o _ h' hxm rfl ho hhk hkind
    have hxk := inv.eff_next r (heff he) hd hpre
    rw [hxk] at hst1 hhk
    rw [hhK] at hhk; simp at hhk; subst hhk
    rw [← effA_congr hag'] at hef
    obtain ⟨φ', w', v', hv, ok', fr', hsteps⟩ := eff_steps hE hcall hef ho (rest := rest) (k := k) inv.ts ok (hrc.mono fr.ext) (hwe.trans hw)
    obtain ⟨hK', q1, q2, q3, q4⟩ := wrote φ' h' w' hxk hst1 ok' fr'
    exact ⟨K + 1, φ', _, w', inv.snoc r hp ho hd hpre fr'.ext hv (.inr ⟨he, hxk, heff he, rfl⟩) ⟨hK', q1, q2, q3⟩ q4, hsteps⟩

end
end Go.Ab
