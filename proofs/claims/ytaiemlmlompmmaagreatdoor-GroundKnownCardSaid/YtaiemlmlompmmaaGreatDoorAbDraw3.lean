/-
  A REGION THAT DRAWS ITS ORDER: the run.
-/
import Derived.Test.YtaiemlmlompmmaaGreatDoorAbDraw2
namespace Go.Ab
variable {E : Env}

/-- all that does not turn while a region runs -/
structure Reg (E : Env) (call : CallF) (ops : Array Oper) (pl : Plan) (s s' : St) (tr : List Step) (hs st : List Heap) : Prop where
  plan : PlanOK E ops pl
  trace : TrOK E call ops s 0 pl.order tr hs st s'
  still : ∀ x ∈ tr, ∀ K hk, x.k ≤ K → K ≤ latest pl.effs pl.an x.i → hs[K]? = some hk → stillS E ops x hk = true
  ids : ∀ (x y : Step), x ∈ tr → y ∈ tr → ∀ (n : Nat) (o q : AObj), x.kind = .alc n o → y.kind = .alc n q → x.i = y.i

structure Inv (E : Env) (ops : Array Oper) (pl : Plan) (s : St) (tr : List Step) (hs st : List Heap) (φ₀ : Ph) (w₀ : World) (ds₀ : List Deferred) (d : List Nat) (listed : Array Bool) (K : Nat) (φ : Ph) (a : Act) (w : World) : Prop where
  nd : d.Nodup
  lt : ∀ i ∈ d, i < ops.size
  listed : ∀ i, i < ops.size → listed[i]? = some (decide (i ∈ d))
  closed : ∀ i ∈ d, ∀ j, isAnc pl.an i j = true → j ∈ d
  effs : ∀ q e, pl.effs[q]? = some e → (e ∈ d ↔ q < K)
  Kle : K ≤ pl.effs.length
  ts : LR φ (appI ops (valOf tr) s.ts d) a.tmps.toList
  ds : a.defers = ds₀
  ok : ∃ hK, hs[K]? = some hK ∧ OK E φ hK w ∧ Fr φ₀ s.h w₀ φ hK w
  pend : ∀ x ∈ tr, ∀ n obj, x.kind = .alc n obj → x.i ∉ d → x.k ≤ K → φ n = none ∧ s.h.nx ≤ n ∧ ∀ hK, hs[K]? = some hK → n < hK.nx

section
variable {call : CallF} {ops : Array Oper} {pl : Plan} {s s' : St} {tr : List Step} {hs st : List Heap}

/-- the order's own facts, at a place -/
theorem Reg.at (r : Reg E call ops pl s s' tr hs st) {p : Nat} {x : Step} (hp : tr[p]? = some x) :
    pl.order[p]? = some x.i ∧ x.i ∉ pl.order.take p ∧ (∀ j, isAnc pl.an x.i j = true → j ∈ pl.order.take p) ∧ x.k = cnt E ops (pl.order.take p) ∧
    ∃ o, ops[x.i]? = some o ∧ (effB E o.op = true → pl.effs[x.k]? = some x.i) ∧ (effB E o.op = false → rank pl.effs pl.an x.i = x.k) := by
  have h1 : pl.order[p]? = some x.i := by rw [← r.trace.is, List.getElem?_map, hp]; rfl
  obtain ⟨h2, _, _⟩ := orderOK_spec r.plan.order
  obtain ⟨a1, a2, a3, a4, a5, a6⟩ := h2 p x.i h1
  obtain ⟨b1, b2, o, hk, sk, b3, _⟩ := r.trace.step p x hp
  have hgd : ops.getD x.i default = o := by simp [Array.getD_eq_getD_getElem?, b3]
  rw [hgd] at a5 a6
  have hk' : x.k = cnt E ops (pl.order.take p) := by omega
  refine ⟨h1, a3, fun j hj => (a4 j hj).resolve_left (by simp), hk', o, b3, fun he => ?_, fun he => ?_⟩
  · have := a5 he; rw [hk']; simpa using this
  · have := a6 he; omega

theorem nodup_of_take : ∀ {l : List Nat} (_ : ∀ (p i : Nat), l[p]? = some i → i ∉ l.take p), l.Nodup
  | [], _ => .nil
  | x :: l, h => by
    refine List.nodup_cons.2 ⟨fun hm => ?_, nodup_of_take (fun p i hp hi => h (p + 1) i (by simpa using hp) (by simp [hi]))⟩
    obtain ⟨q, hq⟩ := List.getElem?_of_mem hm
    exact h (q + 1) x (by simpa using hq) (by simp)
theorem Reg.nodup (r : Reg E call ops pl s s' tr hs st) : pl.order.Nodup := by
  obtain ⟨h2, _, _⟩ := orderOK_spec r.plan.order
  exact nodup_of_take (fun p i hp => (h2 p i hp).2.2.1)

theorem Reg.all (r : Reg E call ops pl s s' tr hs st) {i : Nat} (hi : i < ops.size) : ∃ (p : Nat) (x : Step), tr[p]? = some x ∧ x.i = i := by
  obtain ⟨_, h3, _⟩ := orderOK_spec r.plan.order
  have := (h3 i hi).resolve_left (by simp)
  rw [← r.trace.is] at this
  obtain ⟨x, hx, rfl⟩ := List.mem_map.1 this
  obtain ⟨p, hp⟩ := List.getElem?_of_mem hx
  exact ⟨p, x, hp, rfl⟩

theorem dst_uniq {ops : Array Oper} {pl : Plan} (pok : PlanOK E ops pl) {x j j' : Nat} (h : dstOf ops j = some x) (h' : dstOf ops j' = some x) : j = j' := by
  unfold dstOf at h h'
  cases ho : ops[j]? with
  | none => rw [ho] at h; simp at h
  | some o =>
  cases ho' : ops[j']? with
  | none => rw [ho'] at h'; simp at h'
  | some o' =>
  rw [ho] at h; rw [ho'] at h'
  simp at h h'
  rcases Nat.decEq j j' with hne | he
  · exact absurd h (pok.slot j j' o o' x hne ho ho' h').1
  · exact he

/-- an operation that is next, here and in the plan, sees the same -/
theorem agree (r : Reg E call ops pl s s' tr hs st) {p : Nat} {x : Step} {o : Oper} (hp : tr[p]? = some x) (ho : ops[x.i]? = some o) {d : List Nat} (hd : x.i ∉ d) (hcl : ∀ i ∈ d, ∀ j, isAnc pl.an i j = true → j ∈ d)
    (hpre : ∀ j, isAnc pl.an x.i j = true → j ∈ d) : Agree E x.ts (appI ops (valOf tr) s.ts d) o.op ∧ wantedA ops (appI ops (valOf tr) s.ts d) o = wantedA ops x.ts o := by
  obtain ⟨h1, h2, h3, _, _⟩ := r.at hp
  have hnd : (tr.map (·.i)).Nodup := by rw [r.trace.is]; exact r.nodup
  have hts : x.ts = appI ops (valOf tr) s.ts (pl.order.take p) := by
    rw [(r.trace.step p x hp).1, appS_eq ops hnd, r.trace.is]
  -- the plan's own beginning is closed too
  have hpc : ∀ j ∈ pl.order.take p, ∀ m, isAnc pl.an j m = true → m ∈ pl.order.take p := by
    intro j hj m hm
    obtain ⟨q, hq⟩ := List.getElem?_of_mem hj
    have hqp : q < p := by
      have := (List.getElem?_eq_some_iff.1 hq).1
      simp at this; omega
    have hq' : pl.order[q]? = some j := by rw [List.getElem?_take] at hq; rw [if_pos hqp] at hq; exact hq
    obtain ⟨f1, _, _⟩ := orderOK_spec r.plan.order
    have := ((f1 q j hq').2.2.2.1 m hm).resolve_left (by simp)
    exact List.mem_of_mem_take (i := q) (l := pl.order.take p) (by rw [List.take_take, Nat.min_eq_left (Nat.le_of_lt hqp)]; exact this)
  have same : ∀ t, (∀ j p', j ≠ x.i → ops[j]? = some p' → p'.dst = some t → isAnc pl.an x.i j = true ∨ isAnc pl.an j x.i = true) → (appI ops (valOf tr) s.ts (pl.order.take p))[t]? = (appI ops (valOf tr) s.ts d)[t]? := by
    intro t ht
    refine appI_agree s.ts (fun j j' a b => dst_uniq r.plan a b) (fun j hj => ?_)
    by_cases hji : j = x.i
    · subst hji; exact ⟨fun h => absurd h h2, fun h => absurd h hd⟩
    · obtain ⟨p', hp', hd'⟩ : ∃ p', ops[j]? = some p' ∧ p'.dst = some t := by
        unfold dstOf at hj
        cases hoj : ops[j]? with
        | none => rw [hoj] at hj; simp at hj
        | some p' => rw [hoj] at hj; exact ⟨p', rfl, by simpa using hj⟩
      rcases ht j p' hji hp' hd' with h | h
      · exact ⟨fun _ => hpre j h, fun _ => h3 j h⟩
      · exact ⟨fun hm => absurd (hpc j hm _ h) h2, fun hm => absurd (hcl j hm _ h) hd⟩
  rw [hts]
  refine ⟨fun y hy => ?_, ?_⟩
  · cases y with
    | tmp t =>
      have ht : t ∈ tmpsOf o := by
        unfold tmpsOf; rw [List.mem_filterMap]; exact ⟨.tmp t, by simpa using hy, rfl⟩
      simp only [evs]
      rw [getD_of_getElem? (same t (fun j p' hne hp' hd' => (r.plan.slot x.i j o p' t (Ne.symm hne) ho hp' hd').2 ht))]
    | const c => rfl
    | global g => rfl
    | func f => rfl
  · unfold wantedA
    cases hg : o.guard with
    | none => rfl
    | some gw =>
      obtain ⟨g, want⟩ := gw
      simp only
      cases hdg : (ops[g]?).bind (·.dst) with
      | none => rfl
      | some t =>
        simp only
        have hanc := r.plan.guard x.i o g want ho hg
        rw [same t (fun j p' hne hp' hd' => by
          have : j = g := dst_uniq r.plan (x := t) (by unfold dstOf; rw [hp']; simpa using hd') hdg
          subst this; exact .inl hanc)]

end
end Go.Ab
