/-
  THE END OF A CLOSED RUN: tables that are laid, the world that the call begins in, and what the call comes to.
-/
import Derived.Test.YtaiemlmlompmmaaGreatDoorAbCallS
import Derived.Test.YtaiemlmlompmmaaGreatDoorAbFk
import Derived.Test.YtaiemlmlompmmaaGreatDoorAbExt
import GoSem.ClaimChange
import Derived.OpenShut
import Derived.FnData
import Derived.ChangeArms
namespace Go.Ab

/-- a table of numbers that a variable holds -/
structure Tab where
  g : Nat
  k : IntKind
  ns : List Nat
  t : TypeId
def Tab.cells (x : Tab) : List AV := x.ns.map fun n => AV.int x.k (Int.ofNat n)
noncomputable def heapOf (G : Nat) : List Tab → Heap
  | [] => ⟨HT.nil, G⟩
  | x :: xs => (heapOf G xs).put x.g (some (.cells x.cells x.t true))
theorem nil_get (i : Nat) (G : Nat) : (Heap.mk HT.nil G).get i = none := by
  by_cases hi : i < 2 ^ depth
  · show (hp i).get HT.nil = none
    rw [hp_get hi, hi_get, lo_get]
    simp only [HT.nil, sel_all]
  · unfold Heap.get; rw [hp_out hi]
theorem heapOf_nx (G : Nat) : ∀ l, (heapOf G l).nx = G
  | [] => rfl
  | _ :: xs => heapOf_nx G xs
theorem heapOf_get {G : Nat} : ∀ {l : List Tab} (_ : ∀ x ∈ l, x.g < 2 ^ depth) {i : Nat} {o : AObj}, (heapOf G l).get i = some o → ∃ x ∈ l, x.g = i ∧ o = .cells x.cells x.t true
  | [], _, i, o, e => by rw [heapOf, nil_get] at e; cases e
  | x :: xs, hl, i, o, e => by
    rw [heapOf] at e
    by_cases h : x.g = i
    · subst h
      rw [Heap.get_put_same (hl x (by simp))] at e
      exact ⟨x, by simp, rfl, (Option.some.inj e).symm⟩
    · rw [Heap.get_put_other (hl x (by simp)) h] at e
      obtain ⟨y, hy, h1, h2⟩ := heapOf_get (fun y hy => hl y (by simp [hy])) e
      exact ⟨y, by simp [hy], h1, h2⟩

/-- what the world holds of a table -/
def TabOK (w : World) (x : Tab) : Prop := ∃ C e fz, w.heap[x.g]? = some (.cells C e fz) ∧ C.toList = x.ns.map fun n => Value.int x.k (Int.ofNat n)
def phG (G : Nat) : Ph := fun i => if i < G then some ⟨i, 0, 0⟩ else none
theorem OK.begin {E : Env} {w : World} {l : List Tab} (hG : E.G ≤ 2 ^ depth) (hl : ∀ x ∈ l, x.g < E.G ∧ TabOK w x) : OK E (phG E.G) (heapOf E.G l) w := by
  have hd : ∀ x ∈ l, x.g < 2 ^ depth := fun x hx => Nat.lt_of_lt_of_le (hl x hx).1 hG
  refine ⟨fun i l' h => ?_, ?_, ?_, fun g hg => ?_, fun i o l' h1 h2 => ?_, fun i j o p l' m _ _ h3 h4 h5 => ?_⟩
  · unfold phG at h; rw [heapOf_nx]; split at h
    · assumption
    · cases h
  · rw [heapOf_nx]; exact Nat.le_refl _
  · rw [heapOf_nx]; exact hG
  · unfold phG; rw [if_pos hg]
  · obtain ⟨x, hx, rfl, rfl⟩ := heapOf_get hd h1
    obtain ⟨hg, C, e, ⟨lo, hi⟩, hw, hC⟩ := hl x hx
    unfold phG at h2; rw [if_pos hg] at h2
    obtain rfl := Option.some.inj h2
    refine ⟨C, e, lo, hi, hw, ?_, ?_, (fun h => by cases h), fun _ => rfl⟩
    · have : C.size = x.ns.length := by rw [← Array.length_toList, hC, List.length_map]
      simp [Tab.cells, slackCells, this]
    · intro k y hk
      simp only [Tab.cells, List.getElem?_map, Option.map_eq_some_iff] at hk
      obtain ⟨n, hn, rfl⟩ := hk
      refine ⟨.int x.k (Int.ofNat n), ?_, .int _ _⟩
      rw [Nat.zero_add, ← Array.getElem?_toList, hC, List.getElem?_map, hn]; rfl
  · unfold phG at h3 h4
    split at h3
    · split at h4
      · obtain rfl := Option.some.inj h3
        obtain rfl := Option.some.inj h4
        exact h5
      · cases h4
    · cases h3

/-- what is listed of a variable is what the world holds -/
theorem tab_of_laid {H : Type} {enc : TypeId × Value → H} {P : Program} {W : World} {name : String} {g : Nat} {t el : TypeId} {k : IntKind} {ns : List Nat} {cs : Array Value} (hg : P.globalNamed name = some g) (hv : W.var? P name = some cs)
    (hu : P.underlying t = some (.array ns.length el)) (he : P.underlying el = some (.int k)) (hc : P.cellsOf el = 1) (hct : P.cellsOf t = ns.length) {base : Nat} {sp : Nat → Bool} {held : Bool} {fuel : Nat} {x : DataW H × List MemPlace}
    (hd : DataW.trod enc P W base sp held fuel t cs.toList = some x) (hx : x.1 = .agg (ns.map fun n => .lit (.int k (Int.ofNat n)))) (t' : TypeId) : TabOK W ⟨g, k, ns, t'⟩ := by
  obtain ⟨xs, m, _, ex, hl, hn, hel⟩ := DataW.trod_array hu hd
  have e3 : xs.map (·.1) = ns.map fun n => DataW.lit (.int k (Int.ofNat n)) := by rw [ex] at hx; exact DataW.agg.inj hx
  simp only [World.var?, hg, Option.bind_some] at hv
  split at hv
  · rename_i C e fz hw
    obtain rfl := Option.some.inj hv
    refine ⟨C, e, fz, hw, ?_⟩
    apply List.ext_getElem?
    intro i
    by_cases hi : i < ns.length
    · have h1 := hel i hi
      rw [hc, Nat.mul_one, List.getElem?_eq_getElem (by omega)] at h1
      obtain ⟨z, e1, e2, _⟩ := DataW.trod_int he h1
      have e4 : (xs.map (·.1))[i]? = (ns.map fun n => (DataW.lit (.int k (Int.ofNat n)) : DataW H))[i]? := by rw [e3]
      rw [List.getElem?_map, List.getElem?_map, List.getElem?_eq_getElem (by omega : i < xs.length), List.getElem?_eq_getElem hi, e2] at e4
      simp only [Option.map_some, Option.some.injEq, DataW.lit.injEq, Lit.int.injEq, true_and] at e4
      have h0 : ((C.toList.drop i).take 1)[0]? = some (.int k z) := by rw [e1]; rfl
      rw [List.getElem?_map, List.getElem?_eq_getElem hi, Option.map_some, ← e4]
      simpa using h0
    · rw [List.getElem?_eq_none (by omega), List.getElem?_eq_none (by simp; omega)]
  · cases hv

/-- does a run end in true? -/
noncomputable def endsTrue (o : COut) : Bool := COut.rec (motive := fun _ => Bool) (fun v _ => Fa.vBool (fun b => b) false v) (fun _ _ => false) (fun _ _ => false) o
theorem endsTrue_of {o : COut} (h : endsTrue o = true) : ∃ h', o = .ret (.bool true) h' := by
  cases o with
  | ret v h' =>
    cases v with
    | bool b => exact ⟨h', by rw [show b = true from h]⟩
    | _ => cases h
  | panic v h' => cases h
  | fail _ _ => cases h

/-- A CLOSED RUN, in the library's own words: true, and all that lay before is as it was. -/
theorem closed_calls {E : Env} (hE : EnvOK E) {fuel d : Nat} {f : FuncId} {l : List Tab} {w : World} (hG : E.G ≤ 2 ^ depth) (hl : ∀ x ∈ l, x.g < E.G ∧ TabOK w x) (e : endsTrue (Fa.callC E d fuel (.fn f) [] (heapOf E.G l)) = true) :
    Calls E.P f #[] w fun en w' => en = .returned (.bool true) ∧ w.keptBut w' (fun _ => False) := by
  obtain ⟨h', e1⟩ := endsTrue_of e
  have hd : ∀ x ∈ l, x.g < 2 ^ depth := fun x hx => Nat.lt_of_lt_of_le (hl x hx).1 hG
  have hc := calls_of_ret hE (Fa.callN_of_callC e1) (OK.begin hG hl) (LR.nil _)
  intro cs
  obtain ⟨en, w', fr, ⟨φ', v', rfl, hv, ok', hfr⟩, h1, h2, h3⟩ := hc cs
  cases hv
  refine ⟨_, w', fr, ⟨rfl, hfr.os, hfr.output, fun i hi => ?_⟩, h1, h2, h3⟩
  rw [hfr.keep i hi (fun j o l' q1 q2 _ => by
    obtain ⟨x, _, _, rfl⟩ := heapOf_get hd q1
    cases q2)]
  cases w.heap[i]? with
  | none => rfl
  | some o => cases o with
    | cells c t fz => exact ⟨rfl, rfl, rfl, fun _ _ => rfl⟩
    | map es c => exact .inr ⟨rfl, rfl⟩
    | _ => rfl
end Go.Ab
