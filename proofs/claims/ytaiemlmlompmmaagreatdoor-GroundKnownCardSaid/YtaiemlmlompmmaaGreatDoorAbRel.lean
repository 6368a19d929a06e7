/-
  WHAT THE ABSTRACT EVALUATOR's VALUES AND HEAPS SAY OF THE MODEL's.
-/
import Derived.Test.YtaiemlmlompmmaaGreatDoorAbDefs
import Derived.Laws.Cells
import Derived.Laws.IdiomCopy
import Derived.Laws.NewBlocks
namespace Go.Ab

structure Loc where
  blk : Nat
  off : Nat
  slack : Nat

abbrev Ph := Nat → Option Loc

def Ph.le (φ φ' : Ph) : Prop := ∀ i l, φ i = some l → φ' i = some l
theorem Ph.le_refl (φ : Ph) : φ.le φ := fun _ _ h => h
theorem Ph.le_trans {a b c : Ph} (h : a.le b) (h' : b.le c) : a.le c := fun i l e => h' i l (h i l e)

def capOf (op : Bool) (cap slack : Nat) : Nat := if op then cap + slack else cap

inductive VR (φ : Ph) : AV → Value → Prop
  | bool (b : Bool) : VR φ (.bool b) (.bool b)
  | int (k : IntKind) (n : Int) : VR φ (.int k n) (.int k n)
  | str (s : ByteArray) : VR φ (.str s.data.toList) (.string s)
  | nilptr : VR φ .nilptr (.pointer none)
  | ptr {i : Nat} {l : Loc} (o : Nat) (h : φ i = some l) : VR φ (.ptr i o) (.pointer (some ⟨l.blk, l.off + o, none⟩))
  | nilslice : VR φ .nilslice (.slice none 0 0)
  | slice {i : Nat} {l : Loc} (o len cap : Nat) (op : Bool) (h : φ i = some l) : VR φ (.slice i o len cap op) (.slice (some ⟨l.blk, l.off + o, none⟩) len (capOf op cap l.slack))
  | zslice (a : Addr) (cap : Nat) : VR φ .zslice (.slice (some a) 0 cap)
  | nilmap : VR φ .nilmap (.map none)
  | map {i : Nat} {l : Loc} (h : φ i = some l) : VR φ (.map i) (.map (some l.blk))
  | func (f : FuncId) (a b : List AV) (a' b' : Array Value) (la : a.length = a'.size) (lb : b.length = b'.size)
      (ha : ∀ (i : Nat) (x : AV) (y : Value), a[i]? = some x → a'[i]? = some y → VR φ x y) (hb : ∀ (i : Nat) (x : AV) (y : Value), b[i]? = some x → b'[i]? = some y → VR φ x y) :
      VR φ (.func f a b) (.func (.func f) a' b')
  | nilFunc : VR φ .nilFunc .nilFunc
  | yield {i : Nat} {l : Loc} (h : φ i = some l) : VR φ (.yieldF i) (.func (.yield l.blk) #[] #[])
  | iface (t : TypeId) (v : AV) (v' : Value) (h : VR φ v v') : VR φ (.iface t v) (.iface t v')
  | nilIface : VR φ .nilIface .nilIface
  | agg (cs : List AV) (cs' : Array Value) (hl : cs.length = cs'.size) (h : ∀ (i : Nat) (x : AV) (y : Value), cs[i]? = some x → cs'[i]? = some y → VR φ x y) : VR φ (.agg cs) (.agg cs')
  | tuple (cs : List AV) (cs' : Array Value) (hl : cs.length = cs'.size) (h : ∀ (i : Nat) (x : AV) (y : Value), cs[i]? = some x → cs'[i]? = some y → VR φ x y) : VR φ (.tuple cs) (.tuple cs')

theorem VR.mono {φ φ' : Ph} (hle : φ.le φ') {v : AV} {v' : Value} (h : VR φ v v') : VR φ' v v' := by
  induction h with
  | bool b => exact .bool b
  | int k n => exact .int k n
  | str s => exact .str s
  | nilptr => exact .nilptr
  | ptr o h => exact .ptr o (hle _ _ h)
  | nilslice => exact .nilslice
  | slice o len cap op h => exact .slice o len cap op (hle _ _ h)
  | zslice a cap => exact .zslice a cap
  | nilmap => exact .nilmap
  | map h => exact .map (hle _ _ h)
  | func f a b a' b' la lb _ _ iha ihb => exact .func f a b a' b' la lb iha ihb
  | nilFunc => exact .nilFunc
  | yield h => exact .yield (hle _ _ h)
  | iface t v v' _ ih => exact .iface t v v' ih
  | nilIface => exact .nilIface
  | agg cs cs' hl _ ih => exact .agg cs cs' hl ih
  | tuple cs cs' hl _ ih => exact .tuple cs cs' hl ih

/-- lists, one by one -/
def LR (φ : Ph) (xs : List AV) (ys : List Value) : Prop := xs.length = ys.length ∧ ∀ (i : Nat) (x : AV) (y : Value), xs[i]? = some x → ys[i]? = some y → VR φ x y

theorem LR.mono {φ φ' : Ph} (hle : φ.le φ') {xs : List AV} {ys : List Value} (h : LR φ xs ys) : LR φ' xs ys := ⟨h.1, fun i x y a b => (h.2 i x y a b).mono hle⟩
theorem LR.nil (φ : Ph) : LR φ [] [] := ⟨rfl, fun i x y a _ => by simp at a⟩
theorem LR.cons {φ : Ph} {x : AV} {y : Value} {xs : List AV} {ys : List Value} (h : VR φ x y) (hs : LR φ xs ys) : LR φ (x :: xs) (y :: ys) := by
  refine ⟨by simp [hs.1], fun i a b ha hb => ?_⟩
  cases i with
  | zero => simp at ha hb; subst ha; subst hb; exact h
  | succ i => simp at ha hb; exact hs.2 i a b ha hb
theorem LR.uncons {φ : Ph} {x : AV} {xs : List AV} {ys : List Value} (h : LR φ (x :: xs) ys) : ∃ y ys', ys = y :: ys' ∧ VR φ x y ∧ LR φ xs ys' := by
  obtain ⟨hl, hv⟩ := h
  cases ys with
  | nil => simp at hl
  | cons y ys =>
    refine ⟨y, ys, rfl, hv 0 x y (by simp) (by simp), by simpa using hl, fun i a b ha hb => hv (i + 1) a b (by simpa using ha) (by simpa using hb)⟩
theorem LR.nil_inv {φ : Ph} {ys : List Value} (h : LR φ [] ys) : ys = [] := by
  cases ys with
  | nil => rfl
  | cons y ys => simp [LR] at h
theorem LR.append {φ : Ph} {xs xs' : List AV} {ys ys' : List Value} (h : LR φ xs ys) (h' : LR φ xs' ys') : LR φ (xs ++ xs') (ys ++ ys') := by
  refine ⟨by simp [h.1, h'.1], fun i a b ha hb => ?_⟩
  by_cases hi : i < xs.length
  · rw [List.getElem?_append_left hi] at ha
    rw [List.getElem?_append_left (by rw [← h.1]; exact hi)] at hb
    exact h.2 i a b ha hb
  · rw [List.getElem?_append_right (by omega)] at ha
    rw [List.getElem?_append_right (by rw [← h.1]; omega)] at hb
    exact h'.2 _ a b ha (by rw [h.1]; exact hb)
theorem LR.drop {φ : Ph} {xs : List AV} {ys : List Value} (h : LR φ xs ys) (n : Nat) : LR φ (xs.drop n) (ys.drop n) :=
  ⟨by simp [h.1], fun i a b ha hb => h.2 (n + i) a b (by simpa using ha) (by simpa using hb)⟩
theorem LR.take {φ : Ph} {xs : List AV} {ys : List Value} (h : LR φ xs ys) (n : Nat) : LR φ (xs.take n) (ys.take n) := by
  refine ⟨by simp [h.1], fun i a b ha hb => ?_⟩
  rw [List.getElem?_take] at ha hb
  by_cases hi : i < n
  · simp only [hi, if_true] at ha hb; exact h.2 i a b ha hb
  · simp [hi] at ha
theorem LR.set {φ : Ph} {xs : List AV} {ys : List Value} (h : LR φ xs ys) {x : AV} {y : Value} (hx : VR φ x y) (n : Nat) : LR φ (xs.set n x) (ys.set n y) := by
  refine ⟨by simp [h.1], fun i a b ha hb => ?_⟩
  rw [List.getElem?_set] at ha hb
  by_cases hi : n = i
  · subst hi
    by_cases hl : n < xs.length
    · simp only [if_true, hl] at ha
      simp only [if_true, ← h.1, hl] at hb
      simp at ha hb; subst ha; subst hb; exact hx
    · simp [hl] at ha
  · simp only [hi, if_false] at ha hb; exact h.2 i a b ha hb
theorem LR.replicate {φ : Ph} {x : AV} {y : Value} (h : VR φ x y) (n : Nat) : LR φ (List.replicate n x) (List.replicate n y) := by
  refine ⟨by simp, fun i a b ha hb => ?_⟩
  rw [List.getElem?_replicate] at ha hb
  by_cases hi : i < n
  · simp [hi] at ha hb; subst ha; subst hb; exact h
  · simp [hi] at ha
theorem LR.get {φ : Ph} {xs : List AV} {ys : List Value} (h : LR φ xs ys) {i : Nat} {x : AV} (hx : xs[i]? = some x) : ∃ y, ys[i]? = some y ∧ VR φ x y := by
  have hi : i < xs.length := (List.getElem?_eq_some_iff.1 hx).1
  have : i < ys.length := by rw [← h.1]; exact hi
  exact ⟨ys[i], by simp [this], h.2 i x _ hx (by simp [this])⟩
theorem LR.getD {φ : Ph} {xs : List AV} {ys : List Value} (h : LR φ xs ys) {d : AV} {d' : Value} (hd : VR φ d d') (i : Nat) : VR φ (xs.getD i d) (ys.getD i d') := by
  by_cases hi : i < xs.length
  · have : i < ys.length := by rw [← h.1]; exact hi
    have e := h.2 i xs[i] ys[i] (by simp [hi]) (by simp [this])
    simpa [List.getD, hi, this] using e
  · have : ¬ i < ys.length := by rw [← h.1]; exact hi
    simpa [List.getD, hi, this] using hd

theorem VR.undef (φ : Ph) : VR φ AV.undef undef := .tuple [] #[] rfl (fun i x y a _ => by simp at a)
theorem VR.agg' {φ : Ph} {cs : List AV} {cs' : List Value} (h : LR φ cs cs') : VR φ (.agg cs) (.agg cs'.toArray) := .agg cs _ (by simp [h.1]) (fun i x y a b => h.2 i x y a (by simpa using b))
theorem VR.tuple' {φ : Ph} {cs : List AV} {cs' : List Value} (h : LR φ cs cs') : VR φ (.tuple cs) (.tuple cs'.toArray) := .tuple cs _ (by simp [h.1]) (fun i x y a b => h.2 i x y a (by simpa using b))
theorem VR.agg_inv {φ : Ph} {cs : List AV} {v : Value} (h : VR φ (.agg cs) v) : ∃ cs' : Array Value, v = .agg cs' ∧ LR φ cs cs'.toList := by
  cases h with
  | agg _ cs' hl h => exact ⟨cs', rfl, by simpa using hl, fun i x y a b => h i x y a (by simpa using b)⟩
theorem VR.tuple_inv {φ : Ph} {cs : List AV} {v : Value} (h : VR φ (.tuple cs) v) : ∃ cs' : Array Value, v = .tuple cs' ∧ LR φ cs cs'.toList := by
  cases h with
  | tuple _ cs' hl h => exact ⟨cs', rfl, by simpa using hl, fun i x y a b => h i x y a (by simpa using b)⟩
theorem VR.func_inv {φ : Ph} {f : FuncId} {a b : List AV} {v : Value} (h : VR φ (.func f a b) v) : ∃ a' b' : Array Value, v = .func (.func f) a' b' ∧ LR φ a a'.toList ∧ LR φ b b'.toList := by
  cases h with
  | func _ _ _ a' b' la lb ha hb => exact ⟨a', b', rfl, ⟨by simpa using la, fun i x y p q => ha i x y p (by simpa using q)⟩, ⟨by simpa using lb, fun i x y p q => hb i x y p (by simpa using q)⟩⟩
theorem VR.func' {φ : Ph} (f : FuncId) {a b : List AV} {a' b' : List Value} (ha : LR φ a a') (hb : LR φ b b') : VR φ (.func f a b) (.func (.func f) a'.toArray b'.toArray) :=
  .func f a b _ _ (by simp [ha.1]) (by simp [hb.1]) (fun i x y p q => ha.2 i x y p (by simpa using q)) (fun i x y p q => hb.2 i x y p (by simpa using q))

/-- one value's cells -/
theorem VR.cells {φ : Ph} {v : AV} {v' : Value} (h : VR φ v v') : LR φ v.cells v'.cells.toList := by
  cases h with
  | agg cs cs' hl h => exact ⟨by simpa [AV.cells, Value.cells] using hl, fun i x y a b => h i x y a (by simpa [Value.cells] using b)⟩
  | bool b => exact .cons (.bool b) (.nil φ)
  | int k n => exact .cons (.int k n) (.nil φ)
  | str s => exact .cons (.str s) (.nil φ)
  | nilptr => exact .cons .nilptr (.nil φ)
  | ptr o h => exact .cons (.ptr o h) (.nil φ)
  | nilslice => exact .cons .nilslice (.nil φ)
  | slice o len cap op h => exact .cons (.slice o len cap op h) (.nil φ)
  | zslice a cap => exact .cons (.zslice a cap) (.nil φ)
  | nilmap => exact .cons .nilmap (.nil φ)
  | map h => exact .cons (.map h) (.nil φ)
  | func f a b a' b' la lb ha hb => exact .cons (.func f a b a' b' la lb ha hb) (.nil φ)
  | nilFunc => exact .cons .nilFunc (.nil φ)
  | yield h => exact .cons (.yield h) (.nil φ)
  | iface t v v' h => exact .cons (.iface t v v' h) (.nil φ)
  | nilIface => exact .cons .nilIface (.nil φ)
  | tuple cs cs' hl h => exact .cons (.tuple cs cs' hl h) (.nil φ)

theorem VR.scalar {φ : Ph} {v : AV} {v' : Value} (h : VR φ v v') (hs : v.scalar = true) : v'.oneCell' = true := by
  cases h <;> simp_all [AV.scalar, Value.oneCell']

/-! ### Constants -/
theorem mapAll_some {α β : Type} {f : α → Option β} : ∀ {l : List α} {r : List β}, mapAll f l = some r → l.length = r.length ∧ ∀ (i : Nat) (x : α), l[i]? = some x → ∃ y, r[i]? = some y ∧ f x = some y
  | [], r, h => by simp [mapAll] at h; subst h; simp
  | x :: xs, r, h => by
    simp only [mapAll] at h
    cases hx : f x with
    | none => simp [hx] at h
    | some y =>
      simp only [hx] at h
      cases hs : mapAll f xs with
      | none => simp [hs] at h
      | some ys =>
        simp only [hs, Option.some.injEq] at h
        subst h
        obtain ⟨hl, hv⟩ := mapAll_some hs
        refine ⟨by simp [hl], fun i z hz => ?_⟩
        cases i with
        | zero => simp at hz; subst hz; exact ⟨y, by simp, hx⟩
        | succ i => simp at hz; simpa using hv i z hz

theorem ofScalar_VR (φ : Ph) {v : Value} {x : AV} (h : ofScalar v = some x) : VR φ x v := by
  unfold ofScalar at h
  split at h <;> simp at h <;> subst h
  · exact .bool _
  · exact .int _ _
  · exact .str _
  · exact .nilptr
  · exact .nilslice
  · exact .nilmap
  · exact .nilFunc
  · exact .nilIface

theorem mapScalar_LR (φ : Ph) {l : List Value} {r : List AV} (h : mapAll ofScalar l = some r) : LR φ r l := by
  obtain ⟨hl, hv⟩ := mapAll_some h
  refine ⟨hl.symm, fun i x y hx hy => ?_⟩
  obtain ⟨z, hz, hf⟩ := hv i y hy
  rw [hx] at hz; simp at hz; subst hz
  exact ofScalar_VR φ hf

theorem ofConst_VR (φ : Ph) {v : Value} {x : AV} (h : ofConst v = some x) : VR φ x v := by
  unfold ofConst at h
  split at h
  · rename_i cs
    cases hm : mapAll ofScalar cs.toList with
    | none => simp [hm] at h
    | some l => simp [hm] at h; subst h; have := VR.agg' (mapScalar_LR φ hm); simpa using this
  · rename_i cs
    cases hm : mapAll ofScalar cs.toList with
    | none => simp [hm] at h
    | some l => simp [hm] at h; subst h; have := VR.tuple' (mapScalar_LR φ hm); simpa using this
  · rename_i t v
    cases hm : ofScalar v with
    | none => simp [hm] at h
    | some l => simp [hm] at h; subst h; exact .iface _ _ _ (ofScalar_VR φ hm)
  · exact ofScalar_VR φ h

/-! ### Objects and heaps -/
variable (E : Env)

structure ER (φ : Ph) (e : AEntry) (e' : MapEntry) : Prop where
  key : VR φ e.key e'.key
  val : VR φ e.val e'.val
  born : e.born = e'.born

def ESR (φ : Ph) (es : List AEntry) (es' : List MapEntry) : Prop := es.length = es'.length ∧ ∀ (i : Nat) (x : AEntry) (y : MapEntry), es[i]? = some x → es'[i]? = some y → ER φ x y

def AObj.rw : AObj → Bool
  | .cells _ _ ro => !ro
  | _ => true

def slackCells (l : Loc) (e : TypeId) : Nat := l.slack * (sizeT E e).getD 0

structure CR (φ : Ph) (cs : List AV) (e : TypeId) (ro : Bool) (l : Loc) (C : Array Value) (lo hi : Nat) : Prop where
  size : l.off + cs.length + slackCells E l e ≤ C.size
  val : ∀ (k : Nat) (x : AV), cs[k]? = some x → ∃ y, C[l.off + k]? = some y ∧ VR φ x y
  free : ro = false → ∀ k, l.off ≤ k → k < l.off + cs.length + slackCells E l e → ¬ (lo ≤ k ∧ k < hi)
  zero : ro = true → l.off = 0

/-- a range over a function's record -/
structure LoopR (φ : Ph) (st : LoopState) (pend : Option Code) (ts : List AV) (ps : List Tmp) (as bd : Code) (dn : Nat) (r : Loop) : Prop where
  state : r.state = st
  pending : r.pending = pend
  tmps : LR φ ts r.tmps.toList
  params : r.params.toList = ps
  assign : r.assign = as
  body : r.body = bd
  defers : ∃ ld, φ dn = some ld ∧ r.defers = ld.blk
  fn : (E.P.funcs[r.fn]?).isSome = true
theorem LoopR.mono {E : Env} {φ φ' : Ph} (hle : φ.le φ') {st : LoopState} {pend : Option Code} {ts : List AV} {ps : List Tmp} {as bd : Code} {dn : Nat} {r : Loop} (h : LoopR E φ st pend ts ps as bd dn r) : LoopR E φ' st pend ts ps as bd dn r :=
  ⟨h.state, h.pending, h.tmps.mono hle, h.params, h.assign, h.body, let ⟨l, a, b⟩ := h.defers; ⟨l, hle _ _ a, b⟩, h.fn⟩

def OR (φ : Ph) : AObj → Loc → Option Obj → Prop
  | .cells cs e ro, l, o => ∃ C e' lo hi, o = some (.cells C e' (lo, hi)) ∧ CR E φ cs e ro l C lo hi
  | .map es clock, l, o => l.off = 0 ∧ ∃ es', o = some (.map es' clock) ∧ ESR φ es es'.toList
  | .siter s pos, l, o => l.off = 0 ∧ ∃ s' : ByteArray, o = some (.stringIter s' pos) ∧ s'.data.toList = s
  | .miter none since seen stepped, l, o => l.off = 0 ∧ o = some (.mapIter none since seen.toArray stepped)
  | .miter (some m) since seen stepped, l, o => l.off = 0 ∧ ∃ lm, φ m = some lm ∧ o = some (.mapIter (some lm.blk) since seen.toArray stepped)
  | .loop st pend ts ps as bd dn, l, o => l.off = 0 ∧ ∃ r, o = some (.loop r) ∧ LoopR E φ st pend ts ps as bd dn r
  | .defd, l, o => l.off = 0 ∧ o = some (.deferred (some []))

theorem OR.absurd {E : Env} {φ : Ph} {o : AObj} {l : Loc} (h : OR E φ o l none) : False := by
  cases o with
  | cells cs e ro => obtain ⟨C, e', lo, hi, hx, hc⟩ := h; simp at hx
  | map es clock => obtain ⟨h0, es', hx, hl, hv⟩ := h; simp at hx
  | siter s pos => obtain ⟨h0, s', hx, _⟩ := h; simp at hx
  | miter m since seen stepped =>
    cases m with
    | none => obtain ⟨h0, hx⟩ := h; simp at hx
    | some m => obtain ⟨h0, lm, hm, hx⟩ := h; simp at hx
  | loop => obtain ⟨h0, r, hx, _⟩ := h; simp at hx
  | defd => obtain ⟨h0, hx⟩ := h; simp at hx

structure OK (φ : Ph) (h : Heap) (w : World) : Prop where
  dom : ∀ i l, φ i = some l → i < h.nx
  nx : E.G ≤ h.nx
  top : h.nx ≤ 2 ^ depth
  glob : ∀ g, g < E.G → φ g = some ⟨g, 0, 0⟩
  live : ∀ i o l, h.get i = some o → φ i = some l → OR E φ o l w.heap[l.blk]?
  inj : ∀ i j o p l m, h.get i = some o → h.get j = some p → φ i = some l → φ j = some m → l.blk = m.blk → i = j

/-- what a piece of text leaves as it was -/
structure Fr (φ : Ph) (h : Heap) (w : World) (φ' : Ph) (h' : Heap) (w' : World) : Prop where
  ext : φ.le φ'
  old : ∀ i, i < h.nx → φ' i = φ i
  nx : h.nx ≤ h'.nx
  os : w'.os = w.os
  tape : w'.tape = w.tape
  output : w'.output = w.output
  size : w.heap.size ≤ w'.heap.size
  keep : ∀ b, b < w.heap.size → (∀ i o l, h.get i = some o → o.rw = true → φ i = some l → l.blk ≠ b) → w'.heap[b]? = w.heap[b]?
  own : ∀ i o l, h'.get i = some o → o.rw = true → φ' i = some l → w.heap.size ≤ l.blk ∨ ∃ j p m, h.get j = some p ∧ p.rw = true ∧ φ j = some m ∧ m.blk = l.blk

theorem Fr.refl (φ : Ph) (h : Heap) (w : World) : Fr φ h w φ h w where
  ext := Ph.le_refl φ
  old _ _ := rfl
  nx := Nat.le_refl _
  os := rfl
  tape := rfl
  output := rfl
  size := Nat.le_refl _
  keep _ _ _ := rfl
  own i o l a b c := .inr ⟨i, o, l, a, b, c, rfl⟩

theorem Fr.trans {φ₁ φ₂ φ₃ : Ph} {h₁ h₂ h₃ : Heap} {w₁ w₂ w₃ : World} (a : Fr φ₁ h₁ w₁ φ₂ h₂ w₂) (b : Fr φ₂ h₂ w₂ φ₃ h₃ w₃) : Fr φ₁ h₁ w₁ φ₃ h₃ w₃ where
  ext := Ph.le_trans a.ext b.ext
  old i hi := (b.old i (Nat.lt_of_lt_of_le hi a.nx)).trans (a.old i hi)
  nx := Nat.le_trans a.nx b.nx
  os := b.os.trans a.os
  tape := b.tape.trans a.tape
  output := b.output.trans a.output
  size := Nat.le_trans a.size b.size
  keep x hx hn := by
    rw [b.keep x (Nat.lt_of_lt_of_le hx a.size) ?_, a.keep x hx hn]
    intro i o l hg hr hp he
    rcases a.own i o l hg hr hp with h | ⟨j, p, m, q1, q2, q3, q4⟩
    · omega
    · exact hn j p m q1 q2 q3 (q4.trans he)
  own i o l hg hr hp := by
    rcases b.own i o l hg hr hp with h | ⟨j, p, m, q1, q2, q3, q4⟩
    · exact .inl (Nat.le_trans a.size h)
    · rcases a.own j p m q1 q2 q3 with h | ⟨j', p', m', r1, r2, r3, r4⟩
      · exact .inl (q4 ▸ h)
      · exact .inr ⟨j', p', m', r1, r2, r3, r4.trans q4⟩

/-! ### The heap's tree -/
theorem nbeq_false {a b : Nat} (h : a ≠ b) : Nat.beq a b = false := by
  cases e : Nat.beq a b
  · rfl
  · exact absurd (Nat.eq_of_beq_eq_true e) h
theorem depth_eq : 2 ^ depth = 262144 := by decide
theorem nble_false {a b : Nat} (h : b < a) : Nat.ble a b = false := by
  rw [Bool.eq_false_iff]; intro e; have := Nat.le_of_ble_eq_true e; omega
theorem hi_get (q : Nat) (t : HT) : (hiP q).get t = sel (q % 8) (sel (q / 8 % 8) (sel (q / 64) t)) := by
  simp only [hiP, s8_eq, e8_eq]; rfl
theorem hi_upd (q : Nat) (f : H3 → H3) (t : HT) : (hiP q).upd f t = epd (q / 64) (epd (q / 8 % 8) (epd (q % 8) f)) t := by
  simp only [hiP, s8_eq, e8_eq]; rfl
theorem lo_get (q : Nat) (t : H3) : (loP q).get t = sel (q % 8) (sel (q / 8 % 8) (sel (q / 64) t)) := by
  simp only [loP, s8_eq, e8_eq]; rfl
theorem lo_upd (q : Nat) (o : Option AObj) (t : H3) : (loP q).upd o t = epd (q / 64) (epd (q / 8 % 8) (epd (q % 8) fun _ => o)) t := by
  simp only [loP, s8_eq, e8_eq]; rfl
theorem hp_get {i : Nat} (hi : i < 2 ^ depth) (t : HT) : (hp i).get t = (loP (i % 512)).get ((hiP (i / 512)).get t) := by
  rw [depth_eq] at hi
  unfold hp
  rw [nble_false hi, canon_eq, canon_eq]; rfl
theorem hp_put {i : Nat} (hi : i < 2 ^ depth) (o : Option AObj) (t : HT) : (hp i).put o t = (hiP (i / 512)).upd ((loP (i % 512)).upd o) t := by
  rw [depth_eq] at hi
  unfold hp
  rw [nble_false hi, canon_eq, canon_eq]; rfl
theorem lo_same (q : Nat) (o : Option AObj) (t : H3) : (loP q).get ((loP q).upd o t) = o := by
  rw [lo_get, lo_upd, sel_epd_same, sel_epd_same, sel_epd_same]
theorem lo_other {q p : Nat} (hq : q < 512) (hp : p < 512) (h : q ≠ p) (o : Option AObj) (t : H3) : (loP p).get ((loP q).upd o t) = (loP p).get t := by
  rw [lo_get, lo_get, lo_upd]
  by_cases h1 : q / 64 = p / 64
  · rw [h1, sel_epd_same]
    by_cases h2 : q / 8 % 8 = p / 8 % 8
    · rw [h2, sel_epd_same, sel_epd_other (by omega) (by omega) (by omega)]
    · rw [sel_epd_other (by omega) (by omega) h2]
  · rw [sel_epd_other (by omega) (by omega) h1]
theorem hi_same (q : Nat) (f : H3 → H3) (t : HT) : (hiP q).get ((hiP q).upd f t) = f ((hiP q).get t) := by
  rw [hi_get, hi_get, hi_upd, sel_epd_same, sel_epd_same, sel_epd_same]
theorem hi_other {q p : Nat} (hq : q < 512) (hp : p < 512) (h : q ≠ p) (f : H3 → H3) (t : HT) : (hiP p).get ((hiP q).upd f t) = (hiP p).get t := by
  rw [hi_get, hi_get, hi_upd]
  by_cases h1 : q / 64 = p / 64
  · rw [h1, sel_epd_same]
    by_cases h2 : q / 8 % 8 = p / 8 % 8
    · rw [h2, sel_epd_same, sel_epd_other (by omega) (by omega) (by omega)]
    · rw [sel_epd_other (by omega) (by omega) h2]
  · rw [sel_epd_other (by omega) (by omega) h1]
theorem hp_same {i : Nat} (hi : i < 2 ^ depth) (o : Option AObj) (t : HT) : (hp i).get ((hp i).put o t) = o := by
  rw [hp_get hi, hp_put hi, hi_same, lo_same]
theorem hp_other {i j : Nat} (hi : i < 2 ^ depth) (hj : j < 2 ^ depth) (h : i ≠ j) (o : Option AObj) (t : HT) : (hp j).get ((hp i).put o t) = (hp j).get t := by
  rw [hp_get hj, hp_get hj, hp_put hi]
  rw [depth_eq] at hi hj
  by_cases h1 : i / 512 = j / 512
  · rw [h1, hi_same, lo_other (by omega) (by omega) (by omega)]
  · rw [hi_other (by omega) (by omega) h1]
theorem hp_out {i : Nat} (hi : ¬ i < 2 ^ depth) : hp i = ⟨fun _ => none, fun _ t => t⟩ := by
  rw [depth_eq] at hi
  unfold hp
  rw [Nat.ble_eq_true_of_le (by omega)]; rfl
theorem Heap.get_lt {h : Heap} {i : Nat} {o : AObj} (e : h.get i = some o) : i < 2 ^ depth := by
  apply Decidable.byContradiction
  intro hn
  unfold Heap.get at e
  rw [hp_out hn] at e
  simp at e
theorem Heap.get_put_same {h : Heap} {i : Nat} (hi : i < 2 ^ depth) (o : Option AObj) : (h.put i o).get i = o := hp_same hi o h.t
theorem Heap.get_put_other {h : Heap} {i j : Nat} (hi : i < 2 ^ depth) (hne : i ≠ j) (o : Option AObj) : (h.put i o).get j = h.get j := by
  by_cases hj : j < 2 ^ depth
  · exact hp_other hi hj hne o h.t
  · unfold Heap.get; rw [hp_out hj]
theorem Heap.new_some {h h' : Heap} {o : AObj} (e : h.new o = some h') : h.nx < 2 ^ depth ∧ h'.nx = h.nx + 1 ∧ h'.get h.nx = some o ∧ ∀ j, j ≠ h.nx → h'.get j = h.get j := by
  unfold Heap.new at e
  by_cases hlt : h.nx < 262144
  · rw [nble_false hlt] at e
    simp at e; subst e
    rw [← depth_eq] at hlt
    refine ⟨hlt, rfl, hp_same hlt _ _, fun j hne => ?_⟩
    exact Heap.get_put_other (h := h) hlt (Ne.symm hne) (some o)
  · rw [Nat.ble_eq_true_of_le (by omega)] at e
    simp at e

end Go.Ab
