/-
  A REGION THAT DRAWS ITS ORDER: to its end.
-/
import Derived.Test.YtopcibminjjogaaGreatDoorAbDraw4
namespace Go.Ab
variable {E : Env}

section
variable {call : CallF} {ops : Array Oper} {pl : Plan} {s s' : St} {tr : List Step} {hs st : List Heap}

/-- what stands at the end -/
structure DrawEnd (E : Env) (φ₀ : Ph) (h₀ : Heap) (w₀ : World) (ds₀ : List Deferred) (b : Frame) (k : List Item) (cs : List Frame) (s' : St) (m : Machine) : Prop where
  is : ∃ φ' a' w', LR φ' s'.ts a'.tmps.toList ∧ a'.defers = ds₀ ∧ OK E φ' s'.h w' ∧ Fr φ₀ h₀ w₀ φ' s'.h w' ∧ Steps E.P m (lone (b.atR a' k) cs w')

theorem draw_end (r : Reg E call ops pl s s' tr hs st) {φ₀ φ : Ph} {w₀ w : World} {ds₀ : List Deferred} {d : List Nat} {listed : Array Bool} {K : Nat} {a : Act} (inv : Inv E ops pl s tr hs st φ₀ w₀ ds₀ d listed K φ a w)
    (hall : ∀ i, i < ops.size → i ∈ d) (b : Frame) (k : List Item) (cs : List Frame) : DrawEnd E φ₀ s.h w₀ ds₀ b k cs s' (lone (b.atR a (.inRegion ops [] :: k)) cs w) := by
  have hnd : (tr.map (·.i)).Nodup := by rw [r.trace.is]; exact r.nodup
  obtain ⟨f1, f2, f3⟩ := orderOK_spec r.plan.order
  have hK : K = pl.effs.length := by
    have := inv.Kle
    rcases Nat.lt_or_ge K pl.effs.length with h | h
    · exfalso
      have hq : pl.effs[K]? = some pl.effs[K] := by simp [h]
      have hm : pl.effs[K] ∈ pl.effs := List.getElem_mem h
      generalize hx : pl.effs[K] = ee at hm hq
      rw [r.plan.effs, effs_spec] at hm
      obtain ⟨o, ho, _⟩ := hm
      have hlt : ee < ops.size := by have := (List.getElem?_eq_some_iff.1 ho).1; simpa using this
      have := (inv.effs K _ hq).1 (hall _ hlt)
      omega
    · omega
  obtain ⟨hK', q1, q2, q3⟩ := inv.ok
  have hlast := r.trace.last
  have hcnt : cnt E ops pl.order = K := by omega
  rw [hcnt, q1] at hlast
  simp at hlast; subst hlast
  have hts : s'.ts = appI ops (valOf tr) s.ts d := by
    rw [r.trace.ts]
    have h1 := appS_eq ops hnd s.ts tr.length
    rw [List.take_length, r.trace.is, List.take_of_length_le (by rw [← r.trace.is]; simp)] at h1
    rw [h1]
    refine List.ext_getElem? (fun x => ?_)
    refine appI_agree s.ts (fun j j' e e' => dst_uniq r.plan e e') (fun j hj => ?_)
    have hjl : j < ops.size := by
      unfold dstOf at hj
      cases ho : ops[j]? with
      | none => rw [ho] at hj; simp at hj
      | some o => exact (Array.getElem?_eq_some_iff.1 ho).1
    exact ⟨fun _ => hall j hjl, fun _ => (f2 j hjl).resolve_left (by simp)⟩
  exact ⟨φ, a, w, by rw [hts]; exact inv.ts, inv.ds, q2, q3, .one stepR_region_end⟩

theorem ready_spec {φ₀ φ : Ph} {w₀ w : World} {ds₀ : List Deferred} {d : List Nat} {listed : Array Bool} {K : Nat} {a : Act} (r : Reg E call ops pl s s' tr hs st) (inv : Inv E ops pl s tr hs st φ₀ w₀ ds₀ d listed K φ a w)
    {i : Nat} (h : i ∈ Region.ready .any ops listed) : i < ops.size ∧ i ∉ d ∧ ∀ j, isAnc pl.an i j = true → j ∈ d := by
  obtain ⟨h1, o, ho, h2⟩ := mem_ready.1 h
  have hi : i < ops.size := (Array.getElem?_eq_some_iff.1 ho).1
  have hl := inv.listed i hi
  refine ⟨hi, fun hd => ?_, fun j hj => ?_⟩
  · simp [hl, hd, Array.getD_eq_getD_getElem?] at h1
  · obtain ⟨e, he, hej⟩ := r.plan.closed i o j ho hj
    have hed : e ∈ d := by
      unfold edgesOf at he
      simp only [List.mem_map, List.mem_filter] at he
      obtain ⟨ed, ⟨hm, hb⟩, rfl⟩ := he
      have h3 := h2 ed (by simpa using hm) hb
      have helt : ed.on < ops.size := by
        have := (r.plan.direct i o ed.on ho (by unfold edgesOf; simp only [List.mem_map, List.mem_filter]; exact ⟨ed, ⟨hm, hb⟩, rfl⟩)).1
        omega
      simpa [inv.listed _ helt, Array.getD_eq_getD_getElem?] using h3
    rcases hej with rfl | hej
    · exact hed
    · exact inv.closed e hed j hej

theorem ready_nil {φ₀ φ : Ph} {w₀ w : World} {ds₀ : List Deferred} {d : List Nat} {listed : Array Bool} {K : Nat} {a : Act} (r : Reg E call ops pl s s' tr hs st) (inv : Inv E ops pl s tr hs st φ₀ w₀ ds₀ d listed K φ a w)
    (h : Region.ready .any ops listed = []) : ∀ (n i : Nat), i < n → i < ops.size → i ∈ d
  | 0, i, hn, _ => by omega
  | n + 1, i, hn, hi => by
    have ih := ready_nil r inv h n
    by_cases hd : i ∈ d
    · exact hd
    · exfalso
      have ho : ops[i]? = some ops[i] := by simp [hi]
      have : i ∈ Region.ready .any ops listed := by
        refine mem_ready.2 ⟨by simp [inv.listed i hi, hd, Array.getD_eq_getD_getElem?], ops[i], ho, fun e he hb => ?_⟩
        have hm : e.on ∈ edgesOf ops[i] := by
          unfold edgesOf; simp only [List.mem_map, List.mem_filter]; exact ⟨e, ⟨by simpa using he, hb⟩, rfl⟩
        have hlt := (r.plan.direct i _ e.on ho hm).1
        have := ih e.on (by omega) (by omega)
        simp [inv.listed e.on (by omega), this, Array.getD_eq_getD_getElem?]
      rw [h] at this; simp at this

theorem draw_sim (hE : EnvOK E) (hcall : CallOK E call) (r : Reg E call ops pl s s' tr hs st) {φ₀ : Ph} {w₀ : World} {ds₀ : List Deferred} {b : Frame} {k : List Item} {Ks : Bool → List Frame} (hrc : RCok φ₀ b Ks s.rc) :
    ∀ (fuel t : Nat) {φ : Ph} {w : World} {d : List Nat} {listed : Array Bool} {K : Nat} {a : Act} (_ : Inv E ops pl s tr hs st φ₀ w₀ ds₀ d listed K φ a w) (_ : ops.size ≤ d.length + fuel),
      DrawEnd E φ₀ s.h w₀ ds₀ b k (cur Ks s.rc) s' (lone (b.atR a (.inRegion ops (Region.linearise.go .any ops fuel t listed []) :: k)) (cur Ks s.rc) w)
  | 0, t, φ, w, d, listed, K, a, inv, hf => by
    simp only [Region.linearise.go, List.reverse_nil]
    refine draw_end r inv (fun i hi => ?_) b k _
    by_cases hd : i ∈ d
    · exact hd
    · have := nodup_le ops.size (i :: d) (List.nodup_cons.2 ⟨hd, inv.nd⟩) (fun x hx => by
        simp at hx; rcases hx with rfl | hx
        · exact hi
        · exact inv.lt x hx)
      simp at this; omega
  | fuel + 1, t, φ, w, d, listed, K, a, inv, hf => by
    simp only [Region.linearise.go]
    change DrawEnd E φ₀ s.h w₀ ds₀ b k (cur Ks s.rc) s' (lone (b.atR a (.inRegion ops (match (Region.ready .any ops listed)[t % (Region.ready .any ops listed).length]? with
      | some i => Region.linearise.go .any ops fuel (t / (Region.ready .any ops listed).length) (listed.setIfInBounds i true) [i]
      | none => [].reverse) :: k)) (cur Ks s.rc) w)
    cases hi : (Region.ready .any ops listed)[t % (Region.ready .any ops listed).length]? with
    | none =>
      have hnil : Region.ready .any ops listed = [] := by
        cases hr : Region.ready .any ops listed with
        | nil => rfl
        | cons x xs =>
          rw [hr] at hi
          have hlt : t % (x :: xs).length < (x :: xs).length := Nat.mod_lt _ (by simp)
          simp at hi
          simp at hlt
          omega
      exact draw_end r inv (fun i hi => ready_nil r inv hnil _ i (Nat.lt_succ_self i) hi) b k _
    | some i =>
      simp only []
      rw [linearise_go_acc, List.reverse_singleton, List.singleton_append]
      obtain ⟨h1, h2, h3⟩ := ready_spec r inv (List.mem_of_getElem? hi)
      obtain ⟨K', φ', a', w', inv', hst⟩ := inv.onestep hE hcall r hrc (b := b) (k := k) h1 h2 h3 (Region.linearise.go .any ops fuel (t / (Region.ready .any ops listed).length) (listed.setIfInBounds i true) [])
      obtain ⟨φ2, a2, w2, x1, x2, x3, x4, x5⟩ := (draw_sim hE hcall r hrc fuel (t / (Region.ready .any ops listed).length) inv' (by simp; omega)).is
      exact ⟨φ2, a2, w2, x1, x2, x3, x4, Steps.trans hst x5⟩

theorem filterMap_uniq {α : Type} {f : α → Option Nat} : ∀ {l : List α} (_ : (l.filterMap f).Nodup) {x y : α} {n : Nat} (_ : x ∈ l) (_ : y ∈ l) (_ : f x = some n) (_ : f y = some n), x = y
  | [], _, x, y, n, hx, _, _, _ => by simp at hx
  | z :: l, hn, x, y, n, hx, hy, fx, fy => by
    cases hz : f z with
    | none =>
      rw [List.filterMap_cons_none hz] at hn
      have hx' : x ∈ l := by
        simp at hx; rcases hx with rfl | h
        · rw [hz] at fx; simp at fx
        · exact h
      have hy' : y ∈ l := by
        simp at hy; rcases hy with rfl | h
        · rw [hz] at fy; simp at fy
        · exact h
      exact filterMap_uniq hn hx' hy' fx fy
    | some m =>
      rw [List.filterMap_cons_some hz, List.nodup_cons] at hn
      simp at hx hy
      rcases hx with rfl | hx <;> rcases hy with rfl | hy
      · rfl
      · exfalso; rw [fx] at hz; simp at hz; subst hz; exact hn.1 (List.mem_filterMap.2 ⟨y, hy, fy⟩)
      · exfalso; rw [fy] at hz; simp at hz; subst hz; exact hn.1 (List.mem_filterMap.2 ⟨x, hx, fx⟩)
      · exact filterMap_uniq hn.2 hx hy fx fy

/-- the plan that was run is one that holds -/
theorem reg_of {o : AEx} (h : drawA E call ops s = .ok o s') : o = .normal ∧ ∃ pl tr hs st, Reg E call ops pl s s' tr hs st := by
  unfold drawA at h
  split at h
  · simp at h
  rename_i pl hpl
  split at h
  · rename_i tr hs s1 hd
    split at h
    · rename_i hl
      simp at h; obtain ⟨rfl, rfl⟩ := h
      obtain ⟨st, t⟩ := drawT_spec hd
      unfold lastly at hl
      simp only [Bool.and_eq_true] at hl
      refine ⟨rfl, pl, tr, hs, st, planOf_spec hpl, t, fun x hx K hk h1 h2 h3 => ?_, fun x y hx hy n o q e1 e2 => ?_⟩
      · have h4 := List.all_eq_true.1 (List.all_eq_true.1 hl.2 x hx) hk
        refine h4 ?_
        refine List.mem_of_getElem? (i := K - x.k) ?_
        rw [List.getElem?_take, if_pos (by omega), List.getElem?_drop, show x.k + (K - x.k) = K by omega, h3]
      · have := nodup_spec hl.1
        have := filterMap_uniq this hx hy (n := n) (by simp [e1]) (by simp [e2])
        rw [this]
    · simp at h
  · simp at h

end

theorem drawA_sound (hE : EnvOK E) (hmix : E.P.follows .mixedOrders = true) {call : CallF} (hcall : CallOK E call) {ops : Array Oper} {s s' : St} {e : AEx} (h : drawA E call ops s = .ok e s')
    {φ : Ph} {a : Act} {w : World} {b : Frame} {k : List Item} {K : Bool → List Frame} (hs : SR φ s.ts s.ds a) (ok : OK E φ s.h w) (hrc : RCok φ b K s.rc) (id : Nat) :
    e = .normal ∧ s'.rc = s.rc ∧ s'.ds = s.ds ∧ ∃ φ' a' w', LR φ' s'.ts a'.tmps.toList ∧ a'.defers = a.defers ∧ OK E φ' s'.h w' ∧ Fr φ s.h w φ' s'.h w' ∧
      Steps E.P (lone (b.atR a (.code (.region id ops true) :: k)) (cur K s.rc) w) (lone (b.atR a' k) (cur K s.rc) w') := by
  obtain ⟨rfl, pl, tr, hs', st, r⟩ := reg_of h
  refine ⟨rfl, r.trace.rc, r.trace.ds, ?_⟩
  let w1 : World := { w with drawn := w.drawn + 1 }
  have ok1 : OK E φ s.h w1 := ⟨ok.dom, ok.nx, ok.top, ok.glob, ok.live, ok.inj⟩
  have fr1 : Fr φ s.h w φ s.h w1 := ⟨Ph.le_refl φ, fun _ _ => rfl, Nat.le_refl _, rfl, rfl, rfl, Nat.le_refl _, fun _ _ _ => rfl, fun i o l a b c => .inr ⟨i, o, l, a, b, c, rfl⟩⟩
  -- the first heap
  have hlen : 0 < hs'.length := by have := r.trace.len; omega
  have h0 : hs'[0]? = some hs'[0] := by simp [hlen]
  have g := r.trace.grown 0 s.h _ r.trace.first h0
  obtain ⟨ok2, fr2⟩ := ok1.grown g
  have inv : Inv E ops pl s tr hs' st φ w a.defers [] (Array.replicate ops.size false) 0 φ a w1 := by
    refine ⟨.nil, fun i hi => by simp at hi, fun i hi => by simp [hi], fun i hi => by simp at hi, fun q e hq => by simp, by omega, by simpa [appI] using hs.ts, rfl, ⟨_, h0, ok2, fr1.trans fr2⟩, fun x hx n obj hk _ hk0 => ?_⟩
    obtain ⟨q, hq⟩ := List.getElem?_of_mem hx
    obtain ⟨_, _, _, hky, oy, hoy, _, _⟩ := r.at hq
    obtain ⟨_, _, oy', hky1, sky1, hoy', hhky, hsky, hsty⟩ := r.trace.step q x hq
    rw [← hky] at hhky hsky
    have hxk : x.k = 0 := by omega
    rw [hxk] at hhky hsky
    rw [r.trace.first] at hsky; simp at hsky; subst hsky
    unfold StepT at hsty
    rw [hk] at hsty
    obtain ⟨_, _, _, hn1, hn2⟩ := hsty
    refine ⟨?_, hn1, fun hK e => ?_⟩
    · cases hφ : φ n with
      | none => rfl
      | some l => have := ok.dom n l hφ; omega
    · rw [e] at hhky; simp at hhky; subst hhky; exact hn2
  obtain ⟨φ', a', w', x1, x2, x3, x4, x5⟩ := (draw_sim hE hcall r hrc (b := b) (k := k) ops.size (w.tape w.drawn (.order b.fn id)) inv (by simp)).is
  refine ⟨φ', a', w', x1, x2, x3, x4, .head stepR_region_draw ?_⟩
  have hsch : Region.schedule (E.P.follows .mixedOrders) ops (w.tape w.drawn (.order b.fn id)) = Region.linearise.go .any ops ops.size (w.tape w.drawn (.order b.fn id)) (Array.replicate ops.size false) [] := by
    rw [hmix]; rfl
  rw [hsch]
  exact x5

end Go.Ab
