/-
  'slices.Sorted(maps.Keys(m))': the keys of a map, sorted: a call whose result is known though the order of its walk is open.
-/
import Derived.Test.YtaiemlmlompmmaaGreatDoorAbExt
import Derived.Test.YtaiemlmlompmmaaGreatDoorAbFi
import Derived.Test.YtaiemlmlompmmaaGreatDoorAbCallS
import Derived.Maps.Own
import Derived.Maps.Range
import Derived.Sort.KeysCollected
namespace Go.Ab
open Go.Maps Go.WideElems Go.RowKit Go.Proofs

section
open Fa
/-- lexical, strictly -/
noncomputable def ltF (a : List UInt8) : List UInt8 → Bool :=
  List.rec (motive := fun _ => List UInt8 → Bool) (fun b => List.rec (motive := fun _ => Bool) false (fun _ _ _ => true) b)
    (fun x _ ih b => List.rec (motive := fun _ => Bool) false (fun y tl _ => bc (Nat.ble (Nat.add x.toBitVec.toFin.val 1) y.toBitVec.toFin.val) true (bc (Nat.beq x.toBitVec.toFin.val y.toBitVec.toFin.val) (ih tl) false)) b) a
noncomputable def insF' (x : List UInt8) (l : List (List UInt8)) : List (List UInt8) := List.rec (motive := fun _ => List (List UInt8)) [x] (fun y tl ih => bc (ltF x y) (x :: y :: tl) (y :: ih)) l
noncomputable def isortF (l : List (List UInt8)) : List (List UInt8) := List.rec (motive := fun _ => List (List UInt8)) [] (fun x _ ih => insF' x ih) l
noncomputable def strictF (l : List (List UInt8)) : Bool := List.rec (motive := fun _ => Bool) true (fun x tl ih => List.rec (motive := fun _ => Bool) true (fun y _ _ => bc (ltF x y) ih false) tl) l
noncomputable def keysF (es : List AEntry) : Option (List (List UInt8)) := List.rec (motive := fun _ => Option (List (List UInt8))) (some []) (fun e _ ih => vStr (fun s => bc (Nat.ble (llen s) 100000) (ob none (fun l => some (s :: l)) ih) none) none e.key) es
noncomputable def bornF (es : List AEntry) : List Nat := List.rec (motive := fun _ => List Nat) [] (fun e _ ih => e.born :: ih) es
noncomputable def l1 {R : Type} (f : AV → R) (d : R) (l : List AV) : R := List.rec (motive := fun _ => R) d (fun a tl _ => List.rec (motive := fun _ => R) (f a) (fun _ _ _ => d) tl) l
noncomputable def oMapC {R : Type} (f : List AEntry → Nat → R) (d : R) (o : AObj) : R :=
  AObj.rec (motive := fun _ => R) (fun _ _ _ => d) (fun es c => f es c) (fun _ _ => d) (fun _ _ _ _ => d) (fun _ _ _ _ _ _ _ => d) d o
noncomputable def madeSlice (keyT : TypeId) (h : Heap) (rs : List (List UInt8)) : Option (AV × Heap) := List.rec (motive := fun _ => Option (AV × Heap)) (some (.nilslice, h))
  (fun _ _ _ => ob none (fun h' => some (.slice h.nx 0 (llen rs) (llen rs) true, h')) (h.new (.cells (rs.map .str) keyT false))) rs
noncomputable def sortedA (itF : FuncId) (keyT : TypeId) (args : List AV) (h : Heap) : Option (AV × Heap) :=
  l1 (fun a => vFunc (fun g first cap => bc (Nat.beq g itF) (lcase (l1 (fun p => vPtr (fun c o => bc (Nat.beq o 0) (ob none (fun obj => oCells (fun cs _ ro => bc ro (l1 (fun m => vMap none (fun i => ob none (fun obj2 => oMapC (fun es clock =>
    ob none (fun ks => bc (Nat.ble (llen es) 100000) (bc (lall (fun e => Nat.ble (Nat.add e.born 1) clock) es) (bc (nodupF (bornF es)) (lforce (isortF ks) fun rs => bc (strictF rs) (madeSlice keyT h rs) none) none) none) none) (keysF es))
    none obj2) (h.get i)) none m) none cs) none) none obj) (h.get c)) none) none p) none cap) none first) none) (fun _ => none) none a) none args
theorem l1_opt {β : Type} {f : AV → Option β} {l : List AV} {v : β} (h : l1 f none l = some v) : ∃ a, l = [a] ∧ f a = some v := by
  match l, h with
  | [a], h => exact ⟨a, rfl, h⟩
theorem lcase_opt {α β : Type} {x : Option β} {l : List α} {v : β} (h : lcase x none l = some v) : l = [] ∧ x = some v := by
  cases l with
  | nil => exact ⟨rfl, h⟩
  | cons a l => cases h
theorem vFunc_opt {β : Type} {f : FuncId → List AV → List AV → Option β} {a : AV} {v : β} (h : vFunc f (fun _ => none) none a = some v) : ∃ g x y, a = .func g x y ∧ f g x y = some v := by
  cases a with
  | func g x y => exact ⟨g, x, y, rfl, h⟩
  | _ => exact absurd h (by intro e; cases e)
theorem vMap_opt {β : Type} {f : Nat → Option β} {a : AV} {v : β} (h : vMap none f none a = some v) : ∃ i, a = .map i ∧ f i = some v := by
  cases a with
  | map i => exact ⟨i, rfl, h⟩
  | _ => exact absurd h (by intro e; cases e)
theorem oMapC_opt {β : Type} {f : List AEntry → Nat → Option β} {o : AObj} {v : β} (h : oMapC f none o = some v) : ∃ es c, o = .map es c ∧ f es c = some v := by
  cases o with
  | map es c => exact ⟨es, c, rfl, h⟩
  | _ => exact absurd h (by intro e; cases e)

theorem ltF_lt : ∀ (a b : List UInt8), ltF a b = true → a < b
  | [], [], e => by cases e
  | [], y :: b, _ => List.nil_lt_cons _ _
  | x :: a, [], e => by cases e
  | x :: a, y :: b, e => by
    have e : bc (Nat.ble (x.toNat + 1) y.toNat) true (bc (Nat.beq x.toNat y.toNat) (ltF a b) false) = true := e
    cases h : Nat.ble (x.toNat + 1) y.toNat with
    | true => exact List.cons_lt_cons_iff.2 (.inl (UInt8.lt_iff_toNat_lt.2 (ble_le h)))
    | false =>
      rw [h, bc_false] at e
      cases h2 : Nat.beq x.toNat y.toNat with
      | true =>
        rw [h2, bc_true] at e
        exact List.cons_lt_cons_iff.2 (.inr ⟨UInt8.toNat_inj.mp (beq_of h2), ltF_lt a b e⟩)
      | false => rw [h2] at e; cases e
theorem insF'_perm (x : List UInt8) : ∀ l, (insF' x l).Perm (x :: l)
  | [] => List.Perm.refl _
  | y :: tl => by
    show (bc (ltF x y) (x :: y :: tl) (y :: insF' x tl)).Perm _
    cases ltF x y with
    | true => exact List.Perm.refl _
    | false => exact ((insF'_perm x tl).cons y).trans (List.Perm.swap x y tl)
theorem isortF_perm : ∀ l, (isortF l).Perm l
  | [] => List.Perm.refl _
  | x :: l => (insF'_perm x (isortF l)).trans ((isortF_perm l).cons x)
theorem strictF_pairwise : ∀ l, strictF l = true → l.Pairwise (· < ·)
  | [], _ => .nil
  | [x], _ => by simp
  | x :: y :: l, e => by
    have e : bc (ltF x y) (strictF (y :: l)) false = true := e
    rw [bc_and, Bool.and_eq_true] at e
    have ih := strictF_pairwise (y :: l) e.2
    refine .cons (fun z hz => ?_) ih
    have h1 := ltF_lt x y e.1
    rcases List.mem_cons.1 hz with rfl | hz
    · exact h1
    · exact List.lt_trans h1 ((List.pairwise_cons.1 ih).1 z hz)
theorem strictF_merge {rs ks : List (List UInt8)} (h : strictF rs = true) (hp : rs.Perm ks) : ks.mergeSort leB = rs := by
  have hs := strictF_pairwise rs h
  have tr : ∀ a b c : List UInt8, leB a b = true → leB b c = true → leB a c = true := fun a b c h1 h2 => by simp only [leB, decide_eq_true_eq] at *; exact List.le_trans h1 h2
  have to : ∀ a b : List UInt8, (leB a b || leB b a) = true := fun a b => by simp only [leB, Bool.or_eq_true, decide_eq_true_eq]; exact List.le_total a b
  refine List.Perm.eq_of_pairwise (le := fun a b => leB a b = true) (fun a b _ _ h1 h2 => ?_) (List.pairwise_mergeSort tr to ks) (hs.imp fun {a b} hab => ?_) ((List.mergeSort_perm ks leB).trans hp.symm)
  · simp only [leB, decide_eq_true_eq] at h1 h2
    exact List.le_antisymm h1 h2
  · simp only [leB, decide_eq_true_eq]; exact List.le_of_lt hab
theorem keysF_spec {φ : Ph} : ∀ {es : List AEntry} {ks : List (List UInt8)} (_ : keysF es = some ks) {es' : List MapEntry} (_ : ESR φ es es'), es'.map (·.key) = ks.map encStr ∧ ∀ k ∈ ks, k.length ≤ 100000
  | [], ks, h, es', hr => by
    cases h
    have : es' = [] := List.eq_nil_of_length_eq_zero hr.1.symm
    subst this; simp
  | e :: es, ks, h, es', hr => by
    obtain ⟨s, hk, h1⟩ := vStr_opt (show vStr (fun s => bc (Nat.ble (llen s) 100000) (ob none (fun l => some (s :: l)) (keysF es)) none) none e.key = some ks from h)
    obtain ⟨h2, h3⟩ := bc_opt h1
    obtain ⟨l, h4, h5⟩ := ob_opt h3
    have h2 := ble_le h2
    rw [llen_eq] at h2
    have h5 := Option.some.inj h5
    subst h5
    obtain ⟨hl, hv⟩ := hr
    match es', hl, hv with
    | e' :: es', hl, hv =>
      obtain ⟨i1, i2⟩ := keysF_spec h4 (es' := es') ⟨by simpa using hl, fun i x y a b => hv (i + 1) x y (by simpa using a) (by simpa using b)⟩
      have := (hv 0 e e' (by simp) (by simp)).key
      rw [hk] at this
      generalize hq : e'.key = q at this
      cases this with
      | str sb =>
        refine ⟨?_, fun k hk => ?_⟩
        · simp only [List.map_cons, i1, hq]
        · rcases List.mem_cons.1 hk with rfl | hk
          · exact h2
          · exact i2 k hk
end
open Fa

theorem bornF_eq (es : List AEntry) : bornF es = es.map (·.born) := by
  induction es with
  | nil => rfl
  | cons e es ih => show e.born :: bornF es = _; rw [ih]; rfl
theorem nodup_nodup : ∀ l : List Nat, nodup l = true → l.Nodup
  | [], _ => List.nodup_nil
  | x :: xs, e => by
    rw [nodup, Bool.and_eq_true] at e
    rw [List.nodup_cons]
    exact ⟨by simpa using e.1, nodup_nodup xs e.2⟩
theorem OK.later {E : Env} {φ : Ph} {h : Heap} {w w' : World} (ok : OK E φ h w) (b : Below w.heap.size w w') : OK E φ h w' ∧ Fr φ h w φ h w' := by
  have hblk : ∀ j p m, h.get j = some p → φ j = some m → m.blk < w.heap.size := fun j p m hj hm => by
    have hor := ok.live j p m hj hm
    rcases Nat.lt_or_ge m.blk w.heap.size with a | a
    · exact a
    · exfalso
      rw [Array.getElem?_eq_none a] at hor
      exact hor.absurd
  refine ⟨⟨ok.dom, ok.nx, ok.top, ok.glob, fun i o l h1 h2 => ?_, ok.inj⟩, ⟨Ph.le_refl φ, fun _ _ => rfl, Nat.le_refl _, b.os, b.tape, b.output, b.size, fun c hc _ => b.block c hc, fun i o l h1 h2 h3 => .inr ⟨i, o, l, h1, h2, h3, rfl⟩⟩⟩
  rw [b.block _ (hblk i o l h1 h2)]
  exact ok.live i o l h1 h2

/-- the contract of slices.Sorted at the iterator of maps.Keys -/
def SortsKeys (P : Program) (f itF : FuncId) (keyT : TypeId) : Prop := ∀ (b c nn : Nat) (W : World) (D0 : DataW Unit) (R : Value → Option (DataW Unit × List MemPlace)), c < W.heap.size → W.cell? ⟨c, 0, none⟩ = some (.map (some b)) → W.ownsMap P keyT R b nn D0 →
  Maps.size D0 ≤ maxLen → Maps.size D0 * 16 ≤ 140737488355328 →
  Calls P f #[.func (.func itF) #[] #[.pointer (some ⟨c, 0, none⟩)]] W fun e w' => ∃ (v : Value) (ss : List (List UInt8)), e = .returned v ∧ ss.Perm (strKeys D0) ∧
    w'.ownsRow W.heap.size keyT 1 v ss.length ((ss.mergeSort (fun x y => decide (x ≤ y))).map encStr) ∧ (v = .slice none 0 0 ↔ ss = []) ∧ Below W.heap.size W w'

theorem sortedA_ok {E : Env} {f itF : FuncId} {keyT : TypeId} (hk : E.P.underlying keyT = some .string) (hsz : sizeT E keyT = some 1) (hcall : ∀ args w, (callFunc f args).run E.P w = .ok (.enter f args) w) (hc : SortsKeys E.P f itF keyT)
    (args : List AV) (h : Heap) (v : AV) (h' : Heap) (e : sortedA itF keyT args h = some (v, h')) : RetOK E f args h v h' := by
  intro φ w vs ok hl
  refine ⟨hcall _ _, ?_⟩
  unfold sortedA at e
  obtain ⟨a, rfl, e1⟩ := l1_opt e
  obtain ⟨g, first, cap, rfl, e2⟩ := vFunc_opt e1
  obtain ⟨hg, e3⟩ := bc_opt e2
  have hg := beq_of hg
  subst hg
  obtain ⟨rfl, e4⟩ := lcase_opt e3
  obtain ⟨p, rfl, e5⟩ := l1_opt e4
  obtain ⟨c, o, rfl, e6⟩ := vPtr_opt e5
  obtain ⟨ho, e7⟩ := bc_opt e6
  have ho := beq_of ho
  subst ho
  obtain ⟨obj, hgc, e8⟩ := ob_opt e7
  obtain ⟨cs, el, ro, rfl, e9⟩ := oCells_opt e8
  obtain ⟨hro, e9⟩ := bc_opt e9
  subst hro
  obtain ⟨m, rfl, e10⟩ := l1_opt e9
  obtain ⟨i, rfl, e11⟩ := vMap_opt e10
  obtain ⟨obj2, hgi, e12⟩ := ob_opt e11
  obtain ⟨es, clock, rfl, e13⟩ := oMapC_opt e12
  obtain ⟨ks, hks, e14⟩ := ob_opt e13
  obtain ⟨hsz1, e15⟩ := bc_opt e14
  obtain ⟨hborn, e16⟩ := bc_opt e15
  obtain ⟨hnd, e17⟩ := bc_opt e16
  rw [lforce_eq] at e17
  obtain ⟨hst, e18⟩ := bc_opt e17
  have hsz1 := ble_le hsz1
  rw [llen_eq] at hsz1
  rw [lall_eq, List.all_eq_true] at hborn
  rw [nodupF_eq] at hnd
  generalize hrs : isortF ks = rs at hst e18
  have hperm : rs.Perm ks := hrs ▸ isortF_perm ks
  -- the arguments
  obtain ⟨x, t, rfl, hx, hl⟩ := hl.uncons
  rw [hl.nil_inv]
  obtain ⟨a', b', rfl, ha, hb⟩ := hx.func_inv
  have ha' : a' = #[] := by have := ha.nil_inv; simpa using this
  subst ha'
  obtain ⟨y, t, hbt, hy, hb⟩ := hb.uncons
  have hb' : b' = #[y] := by rw [hb.nil_inv] at hbt; exact Array.ext' (by simpa using hbt)
  subst hb'
  generalize hyy : y = yy at hy
  cases hy with
  | ptr _ hφc =>
  rename_i lc
  subst hyy
  -- the cell
  obtain ⟨C, e', lo, hi, hwc, hCR⟩ := ok.live c _ lc hgc hφc
  obtain ⟨z, hz, hzv⟩ := hCR.val 0 (.map i) rfl
  generalize hzz : z = zz at hzv
  cases hzv with
  | map hφi =>
  rename_i lm
  subst hzz
  have hoff := hCR.zero rfl
  have hcell : w.cell? ⟨lc.blk, 0, none⟩ = some (.map (some lm.blk)) := by simp only [World.cell?, hwc]; rw [hoff] at hz; exact hz
  have hclt : lc.blk < w.heap.size := (Array.getElem?_eq_some_iff.1 hwc).1
  -- the map
  obtain ⟨_, es', hwm, hESR⟩ := ok.live i _ lm hgi hφi
  obtain ⟨hkeys, hlen⟩ := keysF_spec hks hESR
  have hsize : es'.size = es.length := by rw [← Array.length_toList]; exact hESR.1.symm
  have hkl : ks.length = es.length := by
    have := congrArg List.length hkeys
    simp only [List.length_map, Array.length_toList] at this; omega
  have hksnd : ks.Nodup := (hperm.nodup_iff).1 ((strictF_pairwise rs hst).imp fun {a b} hab e => by subst e; exact List.lt_irrefl _ hab)
  have hborns : es'.toList.map (·.born) = bornF es := by
    rw [bornF_eq]
    apply List.ext_getElem?
    intro j
    rw [List.getElem?_map, List.getElem?_map]
    by_cases hj : j < es.length
    · have h1 : es[j]? = some es[j] := by simp [hj]
      have hj' : j < es'.toList.length := by rw [← hESR.1]; exact hj
      have h2 : es'.toList[j]? = some es'.toList[j] := by simp
      rw [h1, h2, Option.map_some, Option.map_some, (hESR.2 j _ _ h1 h2).born]
    · rw [List.getElem?_eq_none (by rw [← hESR.1]; omega), List.getElem?_eq_none (by omega)]; rfl
  let R : Value → Option (DataW Unit × List MemPlace) := fun _ => some (.nil, [])
  have hrd : ∀ x ∈ es'.toList, ∃ s : List UInt8, x.key = encStr s ∧ rd E.P keyT R x = some (.string s, .nil) := by
    intro x hx
    have : x.key ∈ ks.map encStr := hkeys ▸ List.mem_map.2 ⟨x, hx, rfl⟩
    obtain ⟨s, hs, hsx⟩ := List.mem_map.1 this
    refine ⟨s, hsx.symm, ?_⟩
    have h1 : (⟨s.toArray⟩ : ByteArray).size ≤ maxLen := by
      have := hlen s hs
      show s.toArray.size ≤ maxLen
      rw [List.size_toArray]; exact Nat.le_trans this (by decide)
    unfold rd
    rw [← hsx]
    simp only [keyOf, hk, mapKey, R]
    rw [if_pos h1]
    simp
  have hFit : Fit E.P keyT R es' clock := by
    refine ⟨by rw [hsize]; exact Nat.le_trans hsz1 (by decide), ⟨fun x hx => ?_, ?_, ?_⟩, fun x hx => ?_⟩
    · have h1 : x.born ∈ bornF es := hborns ▸ List.mem_map.2 ⟨x, hx, rfl⟩
      rw [bornF_eq] at h1
      obtain ⟨y, hy, hyx⟩ := List.mem_map.1 h1
      have := ble_le (hborn y hy)
      rw [← hyx]; exact this
    · rw [hborns]; exact nodup_nodup _ hnd
    · rw [hkeys]
      exact List.pairwise_map.2 (hksnd.imp fun {a b} hab h => hab (by simpa [encStr] using h))
    · obtain ⟨s, _, h⟩ := hrd x hx; exact ⟨_, h⟩
  let D0 : DataW Unit := .map ((es'.toList.map (rg E.P keyT R)).foldr DataW.insert [])
  have hown : w.ownsMap E.P keyT R lm.blk es'.size D0 := ⟨es', clock, hwm, hFit, Nat.le_refl _, rfl⟩
  have hDsize : Maps.size D0 = es.length := by
    show ((es'.toList.map (rg E.P keyT R)).foldr DataW.insert []).length = _
    rw [(Go.WideShapes.sorted_perm _).length_eq, List.length_map]; exact hESR.1.symm
  have hstr : (strKeys D0).Perm ks := by
    have h1 : (strKeys D0).Perm ((es'.toList.map (rg E.P keyT R)).map fun p => strOf p.1) := (Go.WideShapes.sorted_perm (es'.toList.map (rg E.P keyT R))).map _
    refine h1.trans (List.Perm.of_eq ?_)
    have h2 : (es'.toList.map (rg E.P keyT R)).map (fun p => strOf p.1) = es'.toList.map fun x => strOf (rg E.P keyT R x).1 := by rw [List.map_map]; rfl
    rw [h2]
    have h3 : ks = (ks.map encStr).map fun v => match v with | .string s => s.data.toList | _ => [] := by
      rw [List.map_map]
      symm
      rw [show ((fun v => match v with | .string s => s.data.toList | _ => ([] : List UInt8)) ∘ encStr) = id from funext fun s => by simp]
      exact List.map_id _
    rw [h3, ← hkeys, List.map_map]
    apply List.map_congr_left
    intro x hx
    obtain ⟨s, h4, h5⟩ := hrd x hx
    have : rg E.P keyT R x = (.string s, .nil) := by unfold rg; rw [h5]; rfl
    rw [this]
    simp [strOf, h4, encStr]
  have hcl := hc lm.blk lc.blk es'.size w D0 R hclt hcell hown (by rw [hDsize]; exact Nat.le_trans hsz1 (by decide)) (by rw [hDsize]; omega)
  intro cs
  obtain ⟨en, w', fr, ⟨v', ss, rfl, hS, hrow, hnil, hbel⟩, hst1, hfn, hlv⟩ := hcl cs
  have hmerge : ss.mergeSort (fun x y => decide (x ≤ y)) = rs := (mergeSort_of_perm (hS.trans hstr)).trans (strictF_merge hst hperm)
  have hsl : ss.length = rs.length := by rw [← hmerge, List.length_mergeSort]
  rw [hmerge] at hrow
  have hargs : ([Value.func (.func g) #[] #[.pointer (some ⟨lc.blk, lc.off + 0, none⟩)]] : List Value).toArray = #[.func (.func g) #[] #[.pointer (some ⟨lc.blk, 0, none⟩)]] := by rw [hoff]
  rw [hargs]
  cases rs with
  | nil =>
    have e18 : some (AV.nilslice, h) = some (v, h') := e18
    simp only [Option.some.injEq, Prod.mk.injEq] at e18
    obtain ⟨rfl, rfl⟩ := e18
    have : v' = .slice none 0 0 := hnil.2 (List.eq_nil_of_length_eq_zero hsl)
    subst this
    obtain ⟨h1, h2⟩ := ok.later hbel
    exact ⟨φ, w', _, fr, .nilslice, h1, h2, hst1, hfn, hlv⟩
  | cons r0 rs =>
    obtain ⟨hh, hnew, hpair⟩ := newOb (show ob none (fun h' => some (AV.slice h.nx 0 (llen (r0 :: rs)) (llen (r0 :: rs)) true, h')) (h.new (.cells ((r0 :: rs).map .str) keyT false)) = some (v, h') from e18)
    simp only [Prod.mk.injEq] at hpair
    obtain ⟨rfl, rfl⟩ := hpair
    rw [llen_eq]
    obtain ⟨_, hrow⟩ := hrow
    rcases hrow with ⟨_, hz0⟩ | ⟨gb, cap, cur, rfl, hbase, hgb, hcap, _, hcur, htake⟩
    · rw [hsl] at hz0; simp at hz0
    rw [Nat.mul_one] at hcur htake
    rw [hsl] at hcap htake
    generalize hR : r0 :: rs = rr at *
    obtain ⟨hok, hfr, hle⟩ := ok.fresh (w' := w') hnew ⟨gb, 0, cap - rr.length⟩ (by
      refine ⟨cur, keyT, 0, 0, hgb, ?_, fun k x hk' => ?_, fun _ k _ _ => by omega, fun _ => rfl⟩
      · simp only [slackCells, hsz, Option.getD_some, List.length_map]; omega
      · rw [List.getElem?_map, Option.map_eq_some_iff] at hk'
        obtain ⟨s, hs, rfl⟩ := hk'
        refine ⟨encStr s, ?_, ?_⟩
        · have : (cur.toList.take rr.length)[k]? = some (encStr s) := by rw [htake, List.getElem?_map, hs]; rfl
          rw [List.getElem?_take] at this
          split at this
          · rw [Nat.zero_add, ← Array.getElem?_toList]; exact this
          · cases this
        · have := VR.str (φ := φ.add h.nx ⟨gb, 0, cap - rr.length⟩) (⟨s.toArray⟩ : ByteArray)
          simpa using this) (fun c _ hc' => hbel.block c hc') hbel.size hbase hbel.os hbel.tape hbel.output
    refine ⟨_, w', _, fr, ?_, hok, hfr, hst1, hfn, hlv⟩
    have hself : (φ.add h.nx ⟨gb, 0, cap - rr.length⟩) h.nx = some ⟨gb, 0, cap - rr.length⟩ := by simp [Ph.add]
    have := VR.slice (φ := φ.add h.nx ⟨gb, 0, cap - rr.length⟩) (l := ⟨gb, 0, cap - rr.length⟩) 0 rr.length rr.length true hself
    rw [hsl]
    simpa [capOf, Nat.add_sub_cancel' hcap] using this
/-- maps.Keys -/
noncomputable def keysA (itF : FuncId) (mapT : TypeId) (args : List AV) (h : Heap) : Option (AV × Heap) :=
  l1 (fun a => vMap none (fun i => ob none (fun h' => some (.func itF [] [.ptr h.nx 0], h')) (h.new (.cells [.map i] mapT true))) none a) none args
def MakesKeys (P : Program) (f itF : FuncId) (mapT : TypeId) : Prop := ∀ (mb : Option Nat) (W : World), Calls P f #[.map mb] W fun e w' => e = .returned (.func (.func itF) #[] #[.pointer (some ⟨W.heap.size, 0, none⟩)]) ∧ w' = W.alloc (.cells #[.map mb] mapT)
theorem keysA_ok {E : Env} {f itF : FuncId} {mapT : TypeId} (hcall : ∀ args w, (callFunc f args).run E.P w = .ok (.enter f args) w) (hc : MakesKeys E.P f itF mapT) (args : List AV) (h : Heap) (v : AV) (h' : Heap) (e : keysA itF mapT args h = some (v, h')) : RetOK E f args h v h' := by
  intro φ w vs ok hl
  refine ⟨hcall _ _, ?_⟩
  obtain ⟨a, rfl, e1⟩ := l1_opt e
  obtain ⟨i, rfl, e2⟩ := vMap_opt e1
  obtain ⟨hh, hnew, hpair⟩ := newOb e2
  simp only [Prod.mk.injEq] at hpair
  obtain ⟨rfl, rfl⟩ := hpair
  obtain ⟨x, t, rfl, hx, hl⟩ := hl.uncons
  rw [hl.nil_inv]
  cases hx with
  | map hφ =>
  rename_i lm
  intro cs
  obtain ⟨en, w', fr, ⟨rfl, rfl⟩, hst1, hfn, hlv⟩ := hc (some lm.blk) w cs
  obtain ⟨hok, hfr, hle⟩ := ok.fresh (w' := w.alloc (.cells #[.map (some lm.blk)] mapT)) hnew ⟨w.heap.size, 0, 0⟩ (by
    refine ⟨#[.map (some lm.blk)], mapT, 0, 0, ?_, ?_, fun k x hk => ?_, fun _ k _ _ => by omega, fun _ => rfl⟩
    · rw [show (w.alloc (.cells #[.map (some lm.blk)] mapT)).heap = w.heap.push (.cells #[.map (some lm.blk)] mapT) from rfl]; simp
    · simp [slackCells]
    · cases k with
      | zero =>
        simp at hk; subst hk
        refine ⟨.map (some lm.blk), by simp, ?_⟩
        have hne : i ≠ h.nx := fun e => by have := ok.dom _ _ hφ; omega
        exact VR.map (l := lm) (by simp [Ph.add, hne, hφ])
      | succ k => simp at hk) (fun c hne hc' => by rw [show (w.alloc (.cells #[.map (some lm.blk)] mapT)).heap = w.heap.push (.cells #[.map (some lm.blk)] mapT) from rfl, Array.getElem?_push, if_neg (by omega)]) (by simp) (Nat.le_refl _) rfl rfl rfl
  refine ⟨_, _, _, fr, ?_, hok, hfr, hst1, hfn, hlv⟩
  exact VR.func' itF (a' := []) (b' := [.pointer (some ⟨w.heap.size, 0, none⟩)]) (LR.nil _) (.cons (VR.ptr (l := ⟨w.heap.size, 0, 0⟩) 0 (by simp [Ph.add])) (LR.nil _))
end Go.Ab
