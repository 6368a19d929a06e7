/-
  A REGION THAT DRAWS ITS ORDER: to its end.
-/
import Derived.Test.YtaiemlmlompmmaaGreatDoorAbDraw4
namespace Go.Ab
variable {E : Env}

section
variable {call : CallF} {ops : Array Oper} {pl : Plan} {s s' : St} {tr : List Step} {hs st : List Heap}

/-- what stands at the end -/
structure DrawEnd (E : Env) (φ₀ : Ph) (h₀ : Heap) (w₀ : World) (ds₀ : List Deferred) (b : Frame) (k : List Item) (cs : List Frame) (s' : St) (m : Machine) : Prop where
  is : ∃ φ' a' w', LR φ' s'.ts a'.tmps.toList ∧ a'.defers = ds₀ ∧ OK E φ' s'.h w' ∧ Fr φ₀ h₀ w₀ φ' s'.h w' ∧ Steps E.P m (lone (b.atR a' k) cs w')

theorem draw_end (r : Reg E call ops pl s s' tr hs st) {φ₀ φ : Ph} {w₀ w : World} {ds₀ : List Deferred} {d : List Nat} {listed : Array Bool} {K : Nat} {a : Act} (inv : Inv E ops pl s tr hs st φ₀ w₀ ds₀ d listed K φ a w)
    (hall : ∀ i, i < ops.size → i ∈ d) (b : Frame) (k : List Item) (cs : List Frame) : DrawEnd E φ₀ s.h w₀ ds₀ b k cs s' (lone (b.atR a (.inRegion ops [] :: k)) cs w) := by
  have hnd : (tr.map (·.i)).Nodup := by rw [r.trace.is]; exact r.nodup
  obtain ⟨f1, f2, f3⟩ := orderOK_spec r.plan.order
  have hK : K = pl.effs.length := by
    have := inv.Kle
    rcases Nat.lt_or_ge K pl.effs.length with h | h
    · exfalso
      have hq : pl.effs[K]? = some pl.effs[K] := by simp [h]
      have hm : pl.effs[K] ∈ pl.effs := List.getElem_mem h
      generalize hx : pl.effs[K] = ee at hm hq
      rw [r.plan.effs, effs_spec] at hm
      obtain ⟨o, ho, _⟩ := hm
      have hlt : ee < ops.size := by have := (List.getElem?_eq_some_iff.1 ho).1; simpa using this
      have := (inv.effs K _ hq).1 (hall _ hlt)
      omega
    · omega
  obtain ⟨hK', q1, q2, q3⟩ := inv.ok
  have hlast := r.trace.last
  have hcnt : cnt E ops pl.order = K := by omega
  rw [hcnt, q1] at hlast
  simp at hlast; subst hlast
  have hts : s'.ts = appI ops (valOf tr) s.ts d := by
    rw [r.trace.ts]
    have h1 := appS_eq ops hnd s.ts tr.length
    rw [List.take_length, r.trace.is, List.take_of_length_le (by rw [← r.trace.is]; simp)] at h1
    rw [h1]
    refine List.ext_getElem? (fun x => ?_)
    refine appI_agree s.ts (fun j j' e e' => dst_uniq r.plan e e') (fun j hj => ?_)
    have hjl : j < ops.size := by
      unfold dstOf at hj
      cases ho : ops[j]? with
      | none => rw [ho] at hj; simp at hj
      | some o => exact (Array.getElem?_eq_some_iff.1 ho).1
    exact ⟨fun _ => hall j hjl, fun _ => (f2 j hjl).resolve_left (by simp)⟩
  exact ⟨φ, a, w, by rw [hts]; exact inv.ts, inv.ds, q2, q3, .one stepR_region_end⟩

theorem ready_spec {φ₀ φ : Ph} {w₀ w : World} {ds₀ : List Deferred} {d : List Nat} {listed : Array Bool} {K : Nat} {a : Act} (r : Reg E call ops pl s s' tr hs st) (inv : Inv E ops pl s tr hs st φ₀ w₀ ds₀ d listed K φ a w)
    {i : Nat} (h : i ∈ Region.ready .any ops listed) : i < ops.size ∧ i ∉ d ∧ ∀ j, isAnc pl.an i j = true → j ∈ d := by
  obtain ⟨h1, o, ho, h2⟩ := mem_ready.1 h
  have hi : i < ops.size := (Array.getElem?_eq_some_iff.1 ho).1
  have hl := inv.listed i hi
  refine ⟨hi, fun hd => ?_, fun j hj => ?_⟩
  · simp [hl, hd, Array.getD_eq_getD_getElem?] at h1
  · obtain ⟨e, he, hej⟩ := r.plan.closed i o j ho hj
    have hed : e ∈ d := by
      unfold edgesOf at he
      simp only [List.mem_map, List.mem_filter] at he
      obtain ⟨ed, ⟨hm, hb⟩, rfl⟩ := he
      have h3 := h2 ed (by simpa using hm) hb
      have helt : ed.on < ops.size := by
        have := (r.plan.direct i o ed.on ho (by unfold edgesOf; simp only [List.mem_map, List.mem_filter]; exact ⟨ed, ⟨hm, hb⟩, rfl⟩)).1
        omega
      simpa [inv.listed _ helt, Array.getD_eq_getD_getElem?] using h3
    rcases hej with rfl | hej
    · exact hed
    · exact inv.closed e hed j hej

theorem ready_nil {φ₀ φ : Ph} {w₀ w : World} {ds₀ : List Deferred} {d : List Nat} {listed : Array Bool} {K : Nat} {a : Act} (r : Reg E call ops pl s s' tr hs st) (inv : Inv E ops pl s tr hs st φ₀ w₀ ds₀ d listed K φ a w)
    (h : Region.ready .any ops listed = []) : ∀ (n i : Nat), i < n → i < ops.size → i ∈ d
  | 0, i, hn, _ => by omega
  | n + 1, i, hn, hi => by
    have ih := ready_nil r inv h n
    by_cases hd : i ∈ d
    · exact hd
    · exfalso
      have ho : ops[i]? = some ops[i] := by simp [hi]
      have : i ∈ Region.ready .any ops listed := by
        refine mem_ready.2 ⟨by simp [inv.listed i hi, hd, Array.getD_eq_getD_getElem?], ops[i], ho, fun e he hb => ?_⟩
        have hm : e.on ∈ edgesOf ops[i] := by
          unfold edgesOf; simp only [List.mem_map, List.mem_filter]; exact ⟨e, ⟨by simpa using he, hb⟩, rfl⟩
        have hlt := (r.plan.direct i _ e.on ho hm).1
        have := ih e.on (by omega) (by omega)
        simp [inv.listed e.on (by omega), this, Array.getD_eq_getD_getElem?]
      rw [h] at this; simp at this

/-- what an operation of the plan's run writes -/
theorem Reg.real (r : Reg E call ops pl s s' tr hs st) (x : Step) (o : Oper) (hk h' : Heap) (hx : x ∈ tr) (ho : ops[x.i]? = some o) (hh : hs[x.k]? = some hk) (hkd : x.kind = .eff h') : effA E call x.ts hk s.rc o = .val x.v h' := by
  obtain ⟨p, hp⟩ := List.getElem?_of_mem hx
  obtain ⟨_, _, _, hk0, _⟩ := r.at hp
  obtain ⟨_, _, o', hk1, sk1, ho', hhk, hsk, hst⟩ := r.trace.step p x hp
  rw [ho] at ho'; simp at ho'; subst ho'
  rw [← hk0, hh] at hhk; simp at hhk; subst hhk
  unfold StepT at hst; rw [hkd] at hst; exact hst.2.2.1

theorem draw_sim (hE : EnvOK E) (hcall : CallOK E call) (r : Reg E call ops pl s s' tr hs st) {φ₀ : Ph} {w₀ : World} {ds₀ : List Deferred} {b : Frame} {k : List Item} {Ks : Bool → List Frame} (hrc : RCok φ₀ b Ks s.rc) :
    ∀ (fuel t : Nat) {φ : Ph} {w : World} {d : List Nat} {listed : Array Bool} {K : Nat} {a : Act} (_ : Inv E ops pl s tr hs st φ₀ w₀ ds₀ d listed K φ a w) (_ : ops.size ≤ d.length + fuel),
      DrawEnd E φ₀ s.h w₀ ds₀ b k (cur Ks s.rc) s' (lone (b.atR a (.inRegion ops (Region.linearise.go .any ops fuel t listed []) :: k)) (cur Ks s.rc) w)
  | 0, t, φ, w, d, listed, K, a, inv, hf => by
    simp only [Region.linearise.go, List.reverse_nil]
    refine draw_end r inv (fun i hi => ?_) b k _
    by_cases hd : i ∈ d
    · exact hd
    · have := nodup_le ops.size (i :: d) (List.nodup_cons.2 ⟨hd, inv.nd⟩) (fun x hx => by
        simp at hx; rcases hx with rfl | hx
        · exact hi
        · exact inv.lt x hx)
      simp at this; omega
  | fuel + 1, t, φ, w, d, listed, K, a, inv, hf => by
    simp only [Region.linearise.go]
    change DrawEnd E φ₀ s.h w₀ ds₀ b k (cur Ks s.rc) s' (lone (b.atR a (.inRegion ops (match (Region.ready .any ops listed)[t % (Region.ready .any ops listed).length]? with
      | some i => Region.linearise.go .any ops fuel (t / (Region.ready .any ops listed).length) (listed.setIfInBounds i true) [i]
      | none => [].reverse) :: k)) (cur Ks s.rc) w)
    cases hi : (Region.ready .any ops listed)[t % (Region.ready .any ops listed).length]? with
    | none =>
      have hnil : Region.ready .any ops listed = [] := by
        cases hr : Region.ready .any ops listed with
        | nil => rfl
        | cons x xs =>
          rw [hr] at hi
          have hlt : t % (x :: xs).length < (x :: xs).length := Nat.mod_lt _ (by simp)
          simp at hi
          simp at hlt
          omega
      exact draw_end r inv (fun i hi => ready_nil r inv hnil _ i (Nat.lt_succ_self i) hi) b k _
    | some i =>
      simp only []
      rw [linearise_go_acc, List.reverse_singleton, List.singleton_append]
      obtain ⟨h1, h2, h3⟩ := ready_spec r inv (List.mem_of_getElem? hi)
      obtain ⟨K', φ', a', w', inv', hst⟩ := inv.onestep hE hcall r hrc (b := b) (k := k) h1 h2 h3 (fun x o hk h' hx _ => r.real x o hk h' hx) (Region.linearise.go .any ops fuel (t / (Region.ready .any ops listed).length) (listed.setIfInBounds i true) [])
      obtain ⟨φ2, a2, w2, x1, x2, x3, x4, x5⟩ := (draw_sim hE hcall r hrc fuel (t / (Region.ready .any ops listed).length) inv' (by simp; omega)).is
      exact ⟨φ2, a2, w2, x1, x2, x3, x4, Steps.trans hst x5⟩

/-- where a panic in a region stands -/
structure DrawPan (E : Env) (φ₀ : Ph) (h₀ : Heap) (w₀ : World) (ds₀ : List Deferred) (b : Frame) (cs : List Frame) (v : AV) (s' : St) (m : Machine) : Prop where
  is : ∃ φ' a' w' v' todo, VR φ' v v' ∧ LR φ' s'.ts a'.tmps.toList ∧ a'.defers = ds₀ ∧ OK E φ' s'.h w' ∧ Fr φ₀ h₀ w₀ φ' s'.h w' ∧ Steps E.P m (lone { b.atR a' todo with mode := .panicking [{ v := v', recovered := false }] } cs w')

/-- a call that panics, at a region's head -/
theorem pan_steps (hE : EnvOK E) {call : CallF} (hcall : CallOK E call) {ts : List AV} {h h' : Heap} {rc : RC} {o : Oper} {c : Call} (hoc : o.op = .call c) {v : AV} (heff : effA E call ts h rc o = .panic v h') {i : Nat} {rest : List Nat} (ho : ops[i]? = some o)
    {φ : Ph} {a : Act} {w : World} {b : Frame} {k : List Item} {K : Bool → List Frame} (hts : LR φ ts a.tmps.toList) (ok : OK E φ h w) (hrc : RCok φ b K rc) (hw : Region.wanted o (yielded ops a.tmps) = true) :
    ∃ φ' w' v' todo, VR φ' v v' ∧ OK E φ' h' w' ∧ Fr φ h w φ' h' w' ∧ Steps E.P (lone (b.atR a (.inRegion ops (i :: rest) :: k)) (cur K rc) w) (lone { b.atR a todo with mode := .panicking [{ v := v', recovered := false }] } (cur K rc) w') := by
  have hes := effA_sound hE hcall (rc := rc) (o := o) hts ok
  have hnd : rc.isBar = false ∨ ∀ c, o.op ≠ .defer c := .inr (fun c e => by rw [hoc] at e; simp at e)
  have hsem := sem_of hrc hnd a.eval
  rw [heff] at hes
  cases hes with
  | pent v h' F args all hr hf hl run =>
    obtain ⟨n, start, hp, hst⟩ := hr φ w all ok hf hl
    obtain ⟨φ', w', v', hv, ok', fr, hsteps⟩ := hst (b.atR a (.inRegion ops (i :: rest) :: k)) (cur K rc)
    rw [Frame.raise_atR] at hsteps
    exact ⟨φ', w', v', .inRegion ops (i :: rest) :: k, hv, ok', fr, .head (go_enter hsem ho hw hp (run n start hp)) hsteps⟩
  | panic v v' hv run => exact ⟨φ, w, v', _, hv, ok, Fr.refl _ _ _, .one (go_pan hsem ho hw run)⟩

theorem draw_simP (hE : EnvOK E) {callR : CallF} (hcall : CallOK E callR) (r : Reg E call ops pl s s' tr hs st) {xl : Step} (hxl : xl ∈ tr) {ol : Oper} (hol : ops[xl.i]? = some ol) {c : Call} (hoc : ol.op = .call c)
    (hall : ∀ j, j < ops.size → j ≠ xl.i → isAnc pl.an xl.i j = true) (heffl : effB E ol.op = true) (hwl : wantedA ops xl.ts ol = true) {hk : Heap} (hhk : hs[xl.k]? = some hk) {v : AV} {h' : Heap} (hpan : effA E callR xl.ts hk s.rc ol = .panic v h')
    (hreal : ∀ (x : Step) (o : Oper) (hk h' : Heap), x ∈ tr → x.i ≠ xl.i → ops[x.i]? = some o → hs[x.k]? = some hk → x.kind = .eff h' → effA E callR x.ts hk s.rc o = .val x.v h')
    {s2 : St} (h2 : s2.h = h') (hts2 : s2.ts = xl.ts) {φ₀ : Ph} {w₀ : World} {ds₀ : List Deferred} {b : Frame} {k : List Item} {Ks : Bool → List Frame} (hrc : RCok φ₀ b Ks s.rc) :
    ∀ (fuel t : Nat) {φ : Ph} {w : World} {d : List Nat} {listed : Array Bool} {K : Nat} {a : Act} (_ : Inv E ops pl s tr hs st φ₀ w₀ ds₀ d listed K φ a w) (_ : ops.size ≤ d.length + fuel) (_ : xl.i ∉ d),
      DrawPan E φ₀ s.h w₀ ds₀ b (cur Ks s.rc) v s2 (lone (b.atR a (.inRegion ops (Region.linearise.go .any ops fuel t listed []) :: k)) (cur Ks s.rc) w)
  | 0, t, φ, w, d, listed, K, a, inv, hf, hnd => by
    exfalso
    have hi : xl.i < ops.size := (Array.getElem?_eq_some_iff.1 hol).1
    have := nodup_le ops.size (xl.i :: d) (List.nodup_cons.2 ⟨hnd, inv.nd⟩) (fun x hx => by
        simp at hx; rcases hx with rfl | hx
        · exact hi
        · exact inv.lt x hx)
    simp at this; omega
  | fuel + 1, t, φ, w, d, listed, K, a, inv, hf, hnd => by
    have hil : xl.i < ops.size := (Array.getElem?_eq_some_iff.1 hol).1
    simp only [Region.linearise.go]
    change DrawPan E φ₀ s.h w₀ ds₀ b (cur Ks s.rc) v s2 (lone (b.atR a (.inRegion ops (match (Region.ready .any ops listed)[t % (Region.ready .any ops listed).length]? with
      | some i => Region.linearise.go .any ops fuel (t / (Region.ready .any ops listed).length) (listed.setIfInBounds i true) [i]
      | none => [].reverse) :: k)) (cur Ks s.rc) w)
    cases hi : (Region.ready .any ops listed)[t % (Region.ready .any ops listed).length]? with
    | none =>
      have hnil : Region.ready .any ops listed = [] := by
        cases hr : Region.ready .any ops listed with
        | nil => rfl
        | cons x xs =>
          rw [hr] at hi
          have hlt : t % (x :: xs).length < (x :: xs).length := Nat.mod_lt _ (by simp)
          simp at hi
          simp at hlt
          omega
      exact absurd (ready_nil r inv hnil _ xl.i (Nat.lt_succ_self _) hil) hnd
    | some i =>
      simp only []
      rw [linearise_go_acc, List.reverse_singleton, List.singleton_append]
      obtain ⟨h1, h2', h3⟩ := ready_spec r inv (List.mem_of_getElem? hi)
      by_cases hii : i = xl.i
      · subst hii
        obtain ⟨p, hp⟩ := List.getElem?_of_mem hxl
        obtain ⟨_, q2, q3, _, o', ho', q4, _⟩ := r.at hp
        rw [hol] at ho'; simp at ho'; subst ho'
        obtain ⟨hag, hwant⟩ := agree r hp hol h2' inv.closed h3
        obtain ⟨hK, hhK, ok, fr⟩ := inv.ok
        have hxk := inv.eff_next r (q4 heffl) h2' h3
        rw [hxk, hhK] at hhk; simp at hhk; subst hhk
        rw [effA_congr hag] at hpan
        have hwe : Region.wanted ol (yielded ops a.tmps) = true := by rw [wantedA_eq inv.ts ol, hwant]; exact hwl
        obtain ⟨φ', w', v', todo, hv, ok', fr', hst⟩ := pan_steps hE hcall hoc hpan hol (rest := Region.linearise.go .any ops fuel (t / (Region.ready .any ops listed).length) (listed.setIfInBounds xl.i true) []) (k := k) inv.ts ok (hrc.mono fr.ext) hwe
        have hnd' : (tr.map (·.i)).Nodup := by rw [r.trace.is]; exact r.nodup
        have hts : xl.ts = appI ops (valOf tr) s.ts d := by
          rw [(r.trace.step p xl hp).1, appS_eq ops hnd', r.trace.is]
          refine List.ext_getElem? (fun x => appI_agree s.ts (fun j j' e e' => dst_uniq r.plan e e') (fun j hj => ?_))
          have hjl : j < ops.size := by
            unfold dstOf at hj
            cases ho : ops[j]? with
            | none => rw [ho] at hj; simp at hj
            | some o => exact (Array.getElem?_eq_some_iff.1 ho).1
          by_cases hji : j = xl.i
          · subst hji; exact ⟨fun h => absurd h q2, fun h => absurd h h2'⟩
          · exact ⟨fun _ => h3 j (hall j hjl hji), fun _ => q3 j (hall j hjl hji)⟩
        exact ⟨φ', a, w', v', todo, hv, by rw [hts2, hts]; exact inv.ts.mono fr'.ext, inv.ds, by rw [h2]; exact ok', by rw [h2]; exact fr.trans fr', hst⟩
      · obtain ⟨K', φ', a', w', inv', hst⟩ := inv.onestep hE hcall r hrc (b := b) (k := k) h1 h2' h3 (fun x o hk h' hx hxi => hreal x o hk h' hx (by rw [hxi]; exact hii)) (Region.linearise.go .any ops fuel (t / (Region.ready .any ops listed).length) (listed.setIfInBounds i true) [])
        obtain ⟨φ2, a2, w2, v2, td, x0, x1, x2, x3, x4, x5⟩ := (draw_simP hE hcall r hxl hol hoc hall heffl hwl hhk hpan hreal h2 hts2 hrc fuel (t / (Region.ready .any ops listed).length) inv' (by simp; omega) (by simp; exact ⟨hnd, fun h => hii h.symm⟩)).is
        exact ⟨φ2, a2, w2, v2, td, x0, x1, x2, x3, x4, Steps.trans hst x5⟩

/-- a call that gives where it would panic -/
def maskC (call : CallF) : CallF := fun f as h => match call f as h with
  | .panic _ h' => .ret AV.undef h'
  | r => r

theorem mask_val {call : CallF} {ts : List AV} {h h' : Heap} {rc : RC} {o : Oper} {v : AV} (e : effA E call ts h rc o = .val v h') : effA E (maskC call) ts h rc o = .val v h' := by
  obtain ⟨dst, op, ty, pos, after, guard⟩ := o
  cases op with
  | call c =>
    obtain ⟨cal, args, aT⟩ := c
    cases cal with
    | builtin b => cases b <;> exact e
    | value f =>
      simp only [effA] at e ⊢
      split at e
      · split at e
        · exact e
        · split at e
          · rename_i hc
            simp only [maskC, hc]; exact e
          · simp at e
          · simp at e
      · simp at e
    | invoke x name =>
      simp only [effA] at e ⊢
      split at e
      · split at e
        · split at e
          · rename_i hc
            simp only [maskC, hc]; exact e
          · simp at e
          · simp at e
        · simp at e
      · simp at e
  | _ => exact e

theorem mask_pan {call : CallF} {ts : List AV} {h h' : Heap} {rc : RC} {dst : Option Tmp} {c : Call} {ty : TypeId} {pos : String} {after : Array Edge} {guard : Option (Nat × Bool)} {v : AV} (e : effA E call ts h rc ⟨dst, .call c, ty, pos, after, guard⟩ = .panic v h') :
    effA E (maskC call) ts h rc ⟨dst, .call c, ty, pos, after, guard⟩ = .val AV.undef h' := by
  obtain ⟨cal, args, aT⟩ := c
  cases cal with
  | builtin b =>
    cases b <;> simp only [effA] at e <;> (try (simp at e; done)) <;> (split at e <;> (try (simp at e; done)) <;> (try (split at e <;> simp at e)))
  | value f =>
    simp only [effA] at e ⊢
    split at e
    · split at e
      · split at e <;> simp at e
      · split at e
        · simp at e
        · rename_i hc
          simp at e; obtain ⟨rfl, rfl⟩ := e
          simp only [maskC, hc]
        · simp at e
    · simp at e
  | invoke x name =>
    simp only [effA] at e ⊢
    split at e
    · split at e
      · split at e
        · simp at e
        · rename_i hc
          simp at e; obtain ⟨rfl, rfl⟩ := e
          simp only [maskC, hc]
        · simp at e
      · simp at e
    · simp at e

theorem filterMap_uniq {α : Type} {f : α → Option Nat} : ∀ {l : List α} (_ : (l.filterMap f).Nodup) {x y : α} {n : Nat} (_ : x ∈ l) (_ : y ∈ l) (_ : f x = some n) (_ : f y = some n), x = y
  | [], _, x, y, n, hx, _, _, _ => by simp at hx
  | z :: l, hn, x, y, n, hx, hy, fx, fy => by
    cases hz : f z with
    | none =>
      rw [List.filterMap_cons_none hz] at hn
      have hx' : x ∈ l := by
        simp at hx; rcases hx with rfl | h
        · rw [hz] at fx; simp at fx
        · exact h
      have hy' : y ∈ l := by
        simp at hy; rcases hy with rfl | h
        · rw [hz] at fy; simp at fy
        · exact h
      exact filterMap_uniq hn hx' hy' fx fy
    | some m =>
      rw [List.filterMap_cons_some hz, List.nodup_cons] at hn
      simp at hx hy
      rcases hx with rfl | hx <;> rcases hy with rfl | hy
      · rfl
      · exfalso; rw [fx] at hz; simp at hz; subst hz; exact hn.1 (List.mem_filterMap.2 ⟨y, hy, fy⟩)
      · exfalso; rw [fy] at hz; simp at hz; subst hz; exact hn.1 (List.mem_filterMap.2 ⟨x, hx, fx⟩)
      · exact filterMap_uniq hn.2 hx hy fx fy

/-- the plan that was run is one that holds -/
theorem reg_mk (hpl : planOf E ops = some pl) (hd : drawT E call ops pl.order 0 s = .ok tr hs s') (hl : lastly E ops pl tr hs = true) : ∃ st, Reg E call ops pl s s' tr hs st := by
  obtain ⟨st, t⟩ := drawT_spec hd
  unfold lastly at hl
  simp only [Bool.and_eq_true] at hl
  refine ⟨st, planOf_spec hpl, t, fun x hx K hk h1 h2 h3 => ?_, fun x y hx hy n o q e1 e2 => ?_⟩
  · have h4 := List.all_eq_true.1 (List.all_eq_true.1 hl.2 x hx) hk
    refine h4 ?_
    refine List.mem_of_getElem? (i := K - x.k) ?_
    rw [List.getElem?_take, if_pos (by omega), List.getElem?_drop, show x.k + (K - x.k) = K by omega, h3]
  · have := nodup_spec hl.1
    have := filterMap_uniq this hx hy (n := n) (by simp [e1]) (by simp [e2])
    rw [this]

/-- an operation more, at the end -/
theorem drawT_snoc {call call' : CallF} (hc : ∀ {ts : List AV} {h h' : Heap} {rc : RC} {o : Oper} {v : AV}, effA E call ts h rc o = .val v h' → effA E call' ts h rc o = .val v h') {i : Nat} {o : Oper} (ho : ops[i]? = some o) (he : effB E o.op = true) :
    ∀ (l : List Nat) (k : Nat) (s : St) {tr : List Step} {hs : List Heap} {s1 : St} {h' : Heap} (_ : drawT E call ops l k s = .ok tr hs s1) (_ : wantedA ops s1.ts o = true) (_ : effA E call' s1.ts s1.h s1.rc o = .val AV.undef h'),
      drawT E call' ops (l ++ [i]) k s = .ok (tr ++ [⟨i, k + (hs.length - 1), s1.ts, AV.undef, .eff h'⟩]) (hs ++ [h']) { s1 with ts := putT s1.ts o.dst AV.undef, h := h' }
  | [], k, s, tr, hs, s1, h', hd, hw, hv => by
    simp [drawT] at hd; obtain ⟨rfl, rfl, rfl⟩ := hd
    simp only [List.nil_append, drawT, ho, he, if_true, hw, hv]
    simp [TOut.bound, TOut.step]
  | j :: l, k, s, tr, hs, s1, h', hd, hw, hv => by
    rw [List.cons_append]
    simp only [drawT] at hd ⊢
    cases hoj : ops[j]? with
    | none => rw [hoj] at hd; simp at hd
    | some oj =>
    rw [hoj] at hd
    simp only at hd ⊢
    have wr : ∀ (x : Step) (s0 : St), ((drawT E call ops l (k + 1) s0).bound s.h).step x = .ok tr hs s1 → ((drawT E call' ops (l ++ [i]) (k + 1) s0).bound s.h).step x = .ok (tr ++ [⟨i, k + (hs.length - 1), s1.ts, AV.undef, .eff h'⟩]) (hs ++ [h']) { s1 with ts := putT s1.ts o.dst AV.undef, h := h' } := by
      intro x s0 hd
      cases hr : drawT E call ops l (k + 1) s0 with
      | fail why q => rw [hr] at hd; simp [TOut.bound, TOut.step] at hd
      | ok tr1 hs1 s2 =>
        rw [hr] at hd; simp [TOut.bound, TOut.step] at hd; obtain ⟨rfl, rfl, rfl⟩ := hd
        rw [drawT_snoc hc ho he l (k + 1) s0 hr hw hv]
        obtain ⟨_, t⟩ := drawT_spec hr
        have : 1 ≤ hs1.length := by have := t.len; omega
        simp [TOut.bound, TOut.step]; omega
    have pl : ∀ (x : Step) (s0 : St), (drawT E call ops l k s0).step x = .ok tr hs s1 → (drawT E call' ops (l ++ [i]) k s0).step x = .ok (tr ++ [⟨i, k + (hs.length - 1), s1.ts, AV.undef, .eff h'⟩]) (hs ++ [h']) { s1 with ts := putT s1.ts o.dst AV.undef, h := h' } := by
      intro x s0 hd
      cases hr : drawT E call ops l k s0 with
      | fail why q => rw [hr] at hd; simp [TOut.step] at hd
      | ok tr1 hs1 s2 =>
        rw [hr] at hd; simp [TOut.step] at hd; obtain ⟨rfl, rfl, rfl⟩ := hd
        rw [drawT_snoc hc ho he l k s0 hr hw hv]
        simp [TOut.step]
    split at hd
    · rename_i he1
      rw [if_pos he1]
      split at hd
      · rename_i hw1
        rw [if_pos hw1]
        split at hd
        · rename_i hef
          simp only [hc hef]
          exact wr _ _ hd
        · simp at hd
        · simp at hd
      · rename_i hw1
        rw [if_neg hw1]
        exact wr _ _ hd
    · rename_i he1
      rw [if_neg he1]
      split at hd
      · rename_i hw1
        rw [if_pos hw1]
        split at hd
        · rename_i hp
          try simp only [hp]
          exact pl _ _ hd
        · rename_i hp
          try simp only [hp]
          split at hd
          · rename_i hq
            try simp only [hq]
            exact pl _ _ hd
          · rename_i hq
            try simp only [hq]
            split at hd
            · rename_i hr
              try simp only [hr]
              split at hd
              · rename_i hn
                try simp only [hn]
                exact pl _ _ hd
              · simp at hd
            · simp at hd
      · rename_i hw1
        rw [if_neg hw1]
        exact pl _ _ hd

/-- an operation more, at the end, that panics -/
theorem drawT_pan {call : CallF} {i : Nat} {o : Oper} (ho : ops[i]? = some o) (he : effB E o.op = true) {v : AV} :
    ∀ (l : List Nat) (k : Nat) (s : St) {tr : List Step} {hs : List Heap} {s1 : St} {h' : Heap} (_ : drawT E call ops l k s = .ok tr hs s1) (_ : wantedA ops s1.ts o = true) (_ : effA E call s1.ts s1.h s1.rc o = .panic v h'),
      ∃ why q, drawT E call ops (l ++ [i]) k s = .fail why q
  | [], k, s, tr, hs, s1, h', hd, hw, hv => by
    simp [drawT] at hd; obtain ⟨rfl, rfl, rfl⟩ := hd
    simp only [List.nil_append, drawT, ho, he, if_true, hw, hv]
    exact ⟨_, _, rfl⟩
  | j :: l, k, s, tr, hs, s1, h', hd, hw, hv => by
    rw [List.cons_append]
    simp only [drawT] at hd ⊢
    cases hoj : ops[j]? with
    | none => rw [hoj] at hd; simp at hd
    | some oj =>
    rw [hoj] at hd
    simp only at hd ⊢
    have wr : ∀ (x : Step) (s0 : St), ((drawT E call ops l (k + 1) s0).bound s.h).step x = .ok tr hs s1 → ∃ why q, ((drawT E call ops (l ++ [i]) (k + 1) s0).bound s.h).step x = .fail why q := by
      intro x s0 hd
      cases hr : drawT E call ops l (k + 1) s0 with
      | fail why q => rw [hr] at hd; simp [TOut.bound, TOut.step] at hd
      | ok tr1 hs1 s2 =>
        rw [hr] at hd; simp [TOut.bound, TOut.step] at hd; obtain ⟨rfl, rfl, rfl⟩ := hd
        obtain ⟨why, q, e⟩ := drawT_pan ho he l (k + 1) s0 hr hw hv
        rw [e]; exact ⟨_, _, rfl⟩
    have pl : ∀ (x : Step) (s0 : St), (drawT E call ops l k s0).step x = .ok tr hs s1 → ∃ why q, (drawT E call ops (l ++ [i]) k s0).step x = .fail why q := by
      intro x s0 hd
      cases hr : drawT E call ops l k s0 with
      | fail why q => rw [hr] at hd; simp [TOut.step] at hd
      | ok tr1 hs1 s2 =>
        rw [hr] at hd; simp [TOut.step] at hd; obtain ⟨rfl, rfl, rfl⟩ := hd
        obtain ⟨why, q, e⟩ := drawT_pan ho he l k s0 hr hw hv
        rw [e]; exact ⟨_, _, rfl⟩
    split at hd
    · rename_i he1
      rw [if_pos he1]
      split at hd
      · rename_i hw1
        rw [if_pos hw1]
        split at hd
        · rename_i hef
          try simp only [hef]
          exact wr _ _ hd
        · simp at hd
        · simp at hd
      · rename_i hw1
        rw [if_neg hw1]
        exact wr _ _ hd
    · rename_i he1
      rw [if_neg he1]
      split at hd
      · rename_i hw1
        rw [if_pos hw1]
        split at hd
        · rename_i hp
          try simp only [hp]
          exact pl _ _ hd
        · rename_i hp
          try simp only [hp]
          split at hd
          · rename_i hq
            try simp only [hq]
            exact pl _ _ hd
          · rename_i hq
            try simp only [hq]
            split at hd
            · rename_i hr
              try simp only [hr]
              split at hd
              · rename_i hn
                try simp only [hn]
                exact pl _ _ hd
              · simp at hd
            · simp at hd
      · rename_i hw1
        rw [if_neg hw1]
        exact pl _ _ hd

end

/-- a region that draws, at its start -/
theorem draw_start {call : CallF} {ops : Array Oper} {pl : Plan} {s s' : St} {tr : List Step} {hs' st : List Heap} (r : Reg E call ops pl s s' tr hs' st)
    {φ : Ph} {a : Act} {w : World} (hts : LR φ s.ts a.tmps.toList) (ok : OK E φ s.h w) : Inv E ops pl s tr hs' st φ w a.defers [] (Array.replicate ops.size false) 0 φ a { w with drawn := w.drawn + 1 } := by
  have ok1 : OK E φ s.h { w with drawn := w.drawn + 1 } := ⟨ok.dom, ok.nx, ok.top, ok.glob, ok.live, ok.inj⟩
  have fr1 : Fr φ s.h w φ s.h { w with drawn := w.drawn + 1 } := ⟨Ph.le_refl φ, fun _ _ => rfl, Nat.le_refl _, rfl, rfl, rfl, Nat.le_refl _, fun _ _ _ => rfl, fun i o l a b c => .inr ⟨i, o, l, a, b, c, rfl⟩⟩
  -- the first heap
  have hlen : 0 < hs'.length := by have := r.trace.len; omega
  have h0 : hs'[0]? = some hs'[0] := by simp [hlen]
  have g := r.trace.grown 0 s.h _ r.trace.first h0
  obtain ⟨ok2, fr2⟩ := ok1.grown g
  refine ⟨.nil, fun i hi => by simp at hi, fun i hi => by simp [hi], fun i hi => by simp at hi, fun q e hq => by simp, by omega, by simpa [appI] using hts, rfl, ⟨_, h0, ok2, fr1.trans fr2⟩, fun x hx n obj hk _ hk0 => ?_⟩
  obtain ⟨q, hq⟩ := List.getElem?_of_mem hx
  obtain ⟨_, _, _, hky, oy, hoy, _, _⟩ := r.at hq
  obtain ⟨_, _, oy', hky1, sky1, hoy', hhky, hsky, hsty⟩ := r.trace.step q x hq
  rw [← hky] at hhky hsky
  have hxk : x.k = 0 := by omega
  rw [hxk] at hhky hsky
  rw [r.trace.first] at hsky; simp at hsky; subst hsky
  unfold StepT at hsty
  rw [hk] at hsty
  obtain ⟨_, _, _, hn1, hn2⟩ := hsty
  refine ⟨?_, hn1, fun hK e => ?_⟩
  · cases hφ : φ n with
    | none => rfl
    | some l => have := ok.dom n l hφ; omega
  · rw [e] at hhky; simp at hhky; subst hhky; exact hn2

theorem drawA_sound (hE : EnvOK E) (hmix : E.P.follows .mixedOrders = true) {call : CallF} (hcall : CallOK E call) {ops : Array Oper} {s s' : St} {e : AEx} (h : drawA E call ops s = .ok e s')
    {φ : Ph} {a : Act} {w : World} {b : Frame} {k : List Item} {K : Bool → List Frame} (hs : SR φ s.ts s.ds a) (ok : OK E φ s.h w) (hrc : RCok φ b K s.rc) (id : Nat) :
    s'.rc = s.rc ∧ s'.ds = s.ds ∧ ((e = .normal ∧ ∃ φ' a' w', LR φ' s'.ts a'.tmps.toList ∧ a'.defers = a.defers ∧ OK E φ' s'.h w' ∧ Fr φ s.h w φ' s'.h w' ∧
      Steps E.P (lone (b.atR a (.code (.region id ops true) :: k)) (cur K s.rc) w) (lone (b.atR a' k) (cur K s.rc) w')) ∨
      ∃ v, e = .panic v ∧ DrawPan E φ s.h w a.defers b (cur K s.rc) v s' (lone (b.atR a (.code (.region id ops true) :: k)) (cur K s.rc) w)) := by
  have hsch : Region.schedule (E.P.follows .mixedOrders) ops (w.tape w.drawn (.order b.fn id)) = Region.linearise.go .any ops ops.size (w.tape w.drawn (.order b.fn id)) (Array.replicate ops.size false) [] := by
    rw [hmix]; rfl
  unfold drawA at h
  split at h
  · simp at h
  rename_i pl hpl
  split at h
  · rename_i tr hs' s1 hd
    split at h
    · rename_i hl
      simp at h; obtain ⟨rfl, rfl⟩ := h
      obtain ⟨st, r⟩ := reg_mk hpl hd hl
      refine ⟨r.trace.rc, r.trace.ds, .inl ⟨rfl, ?_⟩⟩
      obtain ⟨φ', a', w', x1, x2, x3, x4, x5⟩ := (draw_sim hE hcall r hrc (b := b) (k := k) ops.size (w.tape w.drawn (.order b.fn id)) (draw_start r hs.ts ok) (by simp)).is
      refine ⟨φ', a', w', x1, x2, x3, x4, .head stepR_region_draw ?_⟩
      rw [hsch]
      exact x5
    · simp at h
  · split at h
    · rename_i v s2 hp
      simp at h; obtain ⟨rfl, rfl⟩ := h
      unfold panicA at hp
      split at hp
      · simp at hp
      rename_i i front hrev
      split at hp
      · rename_i tr hs' s1 dst c ty pos after guard hd ho
        split at hp
        · rename_i hck
          split at hp
          · rename_i v1 h1 hef
            split at hp
            · rename_i hl
              simp at hp; obtain ⟨rfl, rfl⟩ := hp
              simp only [Bool.and_eq_true, List.all_eq_true, List.mem_range, Bool.or_eq_true, beq_iff_eq] at hck
              obtain ⟨⟨he, hw⟩, hall⟩ := hck
              have hord : pl.order = front.reverse ++ [i] := by
                have := congrArg List.reverse hrev
                simpa using this
              have hd2 := drawT_snoc (call' := maskC call) (fun e => mask_val e) ho he front.reverse 0 s hd hw (mask_pan hef)
              rw [← hord] at hd2
              rw [Nat.zero_add] at hd2
              obtain ⟨st, r⟩ := reg_mk hpl hd2 hl
              obtain ⟨st1, t1⟩ := drawT_spec hd
              have hrc1 : s1.rc = s.rc := t1.rc
              refine ⟨hrc1, t1.ds, .inr ⟨_, rfl, ?_⟩⟩
              have hlen : 1 ≤ hs'.length := by have := t1.len; omega
              have hlast : (hs' ++ [h1])[hs'.length - 1]? = some s1.h := by
                rw [List.getElem?_append_left (by omega)]
                have := t1.last
                rw [show hs'.length - 1 = cnt E ops front.reverse by have := t1.len; omega]; exact this
              have hreal : ∀ (x : Step) (o : Oper) (hk h' : Heap), x ∈ tr ++ [⟨i, hs'.length - 1, s1.ts, AV.undef, .eff h1⟩] → x.i ≠ i → ops[x.i]? = some o → (hs' ++ [h1])[x.k]? = some hk → x.kind = .eff h' → effA E call x.ts hk s.rc o = .val x.v h' := by
                intro x o hk h' hx hxi ho' hhk hkd
                have hx' : x ∈ tr := by
                  simp at hx; rcases hx with h | h
                  · exact h
                  · exact absurd (by rw [h]) hxi
                obtain ⟨p, hp⟩ := List.getElem?_of_mem hx'
                obtain ⟨_, hk0, o', hk1, sk1, ho2, hhk2, hsk, hst⟩ := t1.step p x hp
                rw [ho'] at ho2; simp at ho2; subst ho2
                rw [Nat.zero_add] at hk0
                rw [← hk0] at hhk2
                have hlt : x.k < hs'.length := (List.getElem?_eq_some_iff.1 hhk2).1
                rw [List.getElem?_append_left hlt, hhk2] at hhk
                simp at hhk; subst hhk
                unfold StepT at hst; rw [hkd] at hst; exact hst.2.2.1
              have hsim := (draw_simP hE hcall r (xl := ⟨i, hs'.length - 1, s1.ts, AV.undef, .eff h1⟩) (by simp) (ol := ⟨dst, .call c, ty, pos, after, guard⟩) ho rfl (fun j hj hne => (hall j hj).resolve_left hne) he hw hlast (by rw [← hrc1]; exact hef) hreal
                (s2 := { s1 with h := h1 }) rfl rfl hrc (b := b) (k := k) ops.size (w.tape w.drawn (.order b.fn id)) (draw_start r hs.ts ok) (by simp) (by simp)).is
              obtain ⟨φ', a', w', v', todo, x0, x1, x2, x3, x4, x5⟩ := hsim
              refine ⟨φ', a', w', v', todo, x0, x1, x2, x3, x4, .head stepR_region_draw ?_⟩
              rw [hsch]
              exact x5
            · simp at hp
          · simp at hp
        · simp at hp
      · simp at hp
    · simp at h

end Go.Ab
