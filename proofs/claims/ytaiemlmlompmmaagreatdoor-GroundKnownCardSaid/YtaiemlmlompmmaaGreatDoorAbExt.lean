/-
  EXTERNS THAT ONLY COMPUTE: the evaluator's answers are the model's.
-/
import Derived.Test.YtaiemlmlompmmaaGreatDoorAbPure3
import Derived.Test.YtaiemlmlompmmaaGreatDoorAbFd
import Derived.Laws.Externs
import Derived.Lib.Bytealg
namespace Go.Ab

/-- a function without a text, and the model's entry for it -/
structure ExtAt (P : Program) (f : FuncId) (e : Array Value → Sem Value) : Prop where
  at' : ∃ fn, P.funcs[f]? = some fn ∧ (fn.name == "runtime.NumGoroutine") = false ∧ fn.body.isNone = true ∧ Extern.findNext fn = none ∧ Extern.find fn = some e
theorem ExtAt.run {P : Program} {f : FuncId} {e : Array Value → Sem Value} (h : ExtAt P f e) (args : Array Value) (w : World) : (callFunc f args).run P w = ((e args).run P w).andThen fun v w' => .ok (.value v) w' := by
  obtain ⟨fn, h1, h2, h3, h4, h5⟩ := h.at'
  exact run_callFunc_extern h1 h2 h3 h4 h5 args w
def ExtFn (P : Program) (f : FuncId) (e : List AV → Option AV) : Prop := ∀ vs r, e vs = some r → ∀ φ (vs' : List Value), LR φ vs vs' → ∃ r', VR φ r r' ∧ ∀ w, (callFunc f vs'.toArray).run P w = .ok (.value r') w

section
open Fa
noncomputable def l3 {R : Type} (f : AV → AV → AV → R) (d : R) (l : List AV) : R :=
  List.rec (motive := fun _ => R) d (fun a tl _ => List.rec (motive := fun _ => R) d (fun b tl _ => List.rec (motive := fun _ => R) d (fun c tl _ => List.rec (motive := fun _ => R) (f a b c) (fun _ _ _ => d) tl) tl) tl) l
noncomputable def l2 {R : Type} (f : AV → AV → R) (d : R) (l : List AV) : R :=
  List.rec (motive := fun _ => R) d (fun a tl _ => List.rec (motive := fun _ => R) d (fun b tl _ => List.rec (motive := fun _ => R) (f a b) (fun _ _ _ => d) tl) tl) l
theorem l3_opt {β : Type} {f : AV → AV → AV → Option β} {l : List AV} {v : β} (h : l3 f none l = some v) : ∃ a b c, l = [a, b, c] ∧ f a b c = some v := by
  match l, h with
  | [a, b, c], h => exact ⟨a, b, c, rfl, h⟩
theorem l2_opt {β : Type} {f : AV → AV → Option β} {l : List AV} {v : β} (h : l2 f none l = some v) : ∃ a b, l = [a, b] ∧ f a b = some v := by
  match l, h with
  | [a, b], h => exact ⟨a, b, rfl, h⟩
noncomputable def n3 (f : Nat → Nat → Nat → Option AV) : List AV → Option AV :=
  l3 (fun a b c => vInt (fun _ x => vInt (fun _ y => vInt (fun _ z => iNat (fun x => iNat (fun y => iNat (fun z => f x y z) none z) none y) none x) none c) none b) none a) none
theorem n3_opt {f : Nat → Nat → Nat → Option AV} {l : List AV} {v : AV} (h : n3 f l = some v) : ∃ (k1 k2 k3 : IntKind) (x y z : Nat), l = [.int k1 x, .int k2 y, .int k3 z] ∧ f x y z = some v := by
  obtain ⟨a, b, c, rfl, h1⟩ := l3_opt h
  obtain ⟨k1, x, rfl, h2⟩ := vInt_opt h1
  obtain ⟨k2, y, rfl, h3⟩ := vInt_opt h2
  obtain ⟨k3, z, rfl, h4⟩ := vInt_opt h3
  obtain ⟨x', rfl, h5⟩ := iNat_opt h4
  obtain ⟨y', rfl, h6⟩ := iNat_opt h5
  obtain ⟨z', rfl, h7⟩ := iNat_opt h6
  exact ⟨k1, k2, k3, x', y', z', rfl, h7⟩
noncomputable def add64A : List AV → Option AV := n3 fun x y c => bc (Nat.ble c 1)
  (some (.tuple [.int .u64 (Int.ofNat (Nat.mod (Nat.add (Nat.add x y) c) 18446744073709551616)), .int .u64 (Int.ofNat (Nat.div (Nat.add (Nat.add x y) c) 18446744073709551616))])) none
noncomputable def sub64A : List AV → Option AV := n3 fun x y c => bc (Nat.ble c 1)
  (some (.tuple [.int .u64 (Int.ofNat (Nat.mod (Nat.sub (Nat.sub (Nat.add x 18446744073709551616) y) c) 18446744073709551616)), .int .u64 (Int.ofNat (bc (Nat.ble (Nat.add x 1) (Nat.add y c)) 1 0))])) none
noncomputable def idxA (c : Nat) (l : List UInt8) : Nat → Int := List.rec (motive := fun _ => Nat → Int) (fun _ => Int.negSucc 0) (fun b _ ih i => bc (Nat.beq b.toBitVec.toFin.val c) (Int.ofNat i) (ih (Nat.add i 1))) l
noncomputable def indexByteA : List AV → Option AV := l2 (fun a b => vStr (fun s => vInt (fun k c => kEl none none none none (iNat (fun c => bc (Nat.ble 256 c) none (some (.int .i64 (idxA c s 0)))) none c) none none none k) none b) none a) none
noncomputable def cntA (c : Nat) (l : List UInt8) : Nat := List.rec (motive := fun _ => Nat) 0 (fun b _ ih => bc (Nat.beq b.toBitVec.toFin.val c) (Nat.add ih 1) ih) l
noncomputable def countByteA : List AV → Option AV := l2 (fun a b => vStr (fun s => vInt (fun k c => kEl none none none none (iNat (fun c => bc (Nat.ble 256 c) none (some (.int .i64 (Int.ofNat (cntA c s))))) none c) none none none k) none b) none a) none
end
open Fa

theorem LR.int3 {φ : Ph} {k1 k2 k3 : IntKind} {x y z : Int} {vs : List Value} (h : LR φ [.int k1 x, .int k2 y, .int k3 z] vs) : vs = [.int k1 x, .int k2 y, .int k3 z] := by
  obtain ⟨a, t, rfl, h1, h⟩ := h.uncons
  obtain ⟨b, t, rfl, h2, h⟩ := h.uncons
  obtain ⟨c, t, rfl, h3, h⟩ := h.uncons
  rw [h.nil_inv]
  cases h1; cases h2; cases h3; rfl
theorem pairVR (φ : Ph) (a b : Nat) : VR φ (.tuple [.int .u64 (Int.ofNat a), .int .u64 (Int.ofNat b)]) (Extern.MathBitsCarry.pair a b) :=
  VR.tuple' (cs' := [.int .u64 (Int.ofNat a), .int .u64 (Int.ofNat b)]) (.cons (.int _ _) (.cons (.int _ _) (.nil φ)))
theorem add64_ok {P : Program} {f : FuncId} (h : ExtAt P f add64Entry) : ExtFn P f add64A := by
  intro vs r e φ vs' hl
  obtain ⟨k1, k2, k3, x, y, c, rfl, e1⟩ := n3_opt e
  obtain ⟨e2, e3⟩ := bc_opt e1
  have e2 := ble_le e2
  have e4 := Option.some.inj e3
  rw [hl.int3, ← e4]
  refine ⟨_, pairVR φ _ _, fun w => ?_⟩
  rw [h.run]
  have hc : c = 0 ∨ c = 1 := by omega
  rcases hc with rfl | rfl <;> rfl
def sub64E : Array Value → Sem Value := fun args => do
  let (x, y, b) ← Extern.MathBitsCarry.three "Sub64" args
  pure (Extern.MathBitsCarry.pair ((x + Extern.MathBitsCarry.m64 - y - b) % Extern.MathBitsCarry.m64) (if x < y + b then 1 else 0))
theorem sub64_ok {P : Program} {f : FuncId} (h : ExtAt P f sub64E) : ExtFn P f sub64A := by
  intro vs r e φ vs' hl
  obtain ⟨k1, k2, k3, x, y, c, rfl, e1⟩ := n3_opt e
  obtain ⟨e2, e3⟩ := bc_opt e1
  have e2 := ble_le e2
  have e4 := Option.some.inj e3
  rw [hl.int3, ← e4]
  refine ⟨_, pairVR φ _ _, fun w => ?_⟩
  rw [h.run]
  have hif : bc (Nat.ble (Nat.add x 1) (Nat.add y c)) 1 0 = if x < y + c then 1 else 0 := by
    by_cases hx : x < y + c
    · rw [if_pos hx, Nat.ble_eq_true_of_le (show Nat.add x 1 ≤ Nat.add y c from hx)]; rfl
    · rw [if_neg hx, nble_false (show Nat.add y c < Nat.add x 1 from Nat.lt_succ_of_le (Nat.le_of_not_lt hx))]; rfl
  rw [hif]
  have hc : c = 0 ∨ c = 1 := by omega
  rcases hc with rfl | rfl <;> rfl
theorem u8v (b : UInt8) {c : Nat} (hc : c < 256) : Nat.beq b.toBitVec.toFin.val c = (b == c.toUInt8) := by
  by_cases h : b = c.toUInt8
  · subst h
    rw [show (c.toUInt8).toBitVec.toFin.val = c from by
      show (UInt8.ofNat c).toNat = c
      simp [Nat.mod_eq_of_lt hc]]
    rw [Nat.beq_refl]; simp
  · rw [show (b == c.toUInt8) = false by simp [h]]
    cases hb : Nat.beq b.toBitVec.toFin.val c
    · rfl
    · exfalso; apply h
      have := Nat.eq_of_beq_eq_true hb
      have e : b.toNat = c := this
      apply UInt8.toNat_inj.mp
      rw [e]; show c = (UInt8.ofNat c).toNat; simp [Nat.mod_eq_of_lt hc]
theorem idxA_eq {c : Nat} (hc : c < 256) : ∀ (l : List UInt8) (i : Nat), idxA c l i = if Lib.indexByte l c.toUInt8 = -1 then -1 else (i : Int) + Lib.indexByte l c.toUInt8
  | [], i => rfl
  | b :: l, i => by
    show bc (Nat.beq b.toBitVec.toFin.val c) (Int.ofNat i) (idxA c l (i + 1)) = _
    rw [u8v b hc, idxA_eq hc l (i + 1), Lib.indexByte]
    have hge := Lib.indexByte_ge l c.toUInt8
    generalize Lib.indexByte l c.toUInt8 = q at hge
    cases b == c.toUInt8 with
    | true =>
      rw [bc_true, if_pos rfl]
      rw [if_neg (by decide)]; simp
    | false =>
      rw [bc_false]
      by_cases hx : q = -1
      · subst hx; rfl
      · have : (q == -1) = false := by simpa using hx
        rw [this]
        simp only [Bool.false_eq_true, if_false]
        rw [if_neg hx, if_neg (by omega)]; omega
theorem indexByte_ok {P : Program} {f : FuncId} (h : ExtAt P f Extern.BytealgIndexByte.indexByte) : ExtFn P f indexByteA := by
  intro vs r e φ vs' hl
  obtain ⟨a, b, rfl, e1⟩ := l2_opt e
  obtain ⟨s, rfl, e2⟩ := vStr_opt e1
  obtain ⟨k, n, rfl, e3⟩ := vInt_opt e2
  cases k <;> try (exact absurd e3 (by intro x; cases x))
  obtain ⟨c, rfl, e4⟩ := iNat_opt (show iNat (fun c => bc (Nat.ble 256 c) none (some (.int .i64 (idxA c s 0)))) none n = some r from e3)
  obtain ⟨e5, e6⟩ := bc_opt' e4
  have e5 := ble_lt e5
  obtain ⟨x, t, rfl, h1, hl⟩ := hl.uncons
  obtain ⟨y, t, rfl, h2, hl⟩ := hl.uncons
  rw [hl.nil_inv]
  obtain ⟨sb, rfl, hsb⟩ : ∃ sb : ByteArray, x = .string sb ∧ sb.data.toList = s := by cases h1; exact ⟨_, rfl, rfl⟩
  subst hsb
  cases h2
  refine ⟨.int .i64 (firstIdx sb ((c : Int)).toNat.toUInt8), ?_, fun w => ?_⟩
  · rw [← Option.some.inj e6, idxA_eq e5, Lib.firstIdx_eq]
    show VR φ (.int .i64 (if Lib.indexByte sb.data.toList c.toUInt8 = -1 then -1 else ((0 : Nat) : Int) + Lib.indexByte sb.data.toList c.toUInt8)) (.int .i64 (Lib.indexByte sb.data.toList c.toUInt8))
    by_cases hx : Lib.indexByte sb.data.toList c.toUInt8 = -1
    · rw [if_pos hx, hx]; exact .int _ _
    · rw [if_neg hx]; simp only [Int.natCast_zero, Int.zero_add]; exact .int _ _
  · rw [h.run]
    show ((Extern.BytealgIndexByte.indexByte #[.string sb, .int .u8 (c : Int)]).run P w).andThen _ = _
    rw [run_indexByte_string]; rfl
theorem cntA_eq {c : Nat} (hc : c < 256) : ∀ (l : List UInt8), cntA c l = Lib.countByte l c.toUInt8
  | [] => rfl
  | b :: l => by
    show bc (Nat.beq b.toBitVec.toFin.val c) (cntA c l + 1) (cntA c l) = _
    rw [u8v b hc, cntA_eq hc l]
    unfold Lib.countByte
    rw [List.count_cons]
    cases b == c.toUInt8 <;> rfl
theorem countByte_ok {P : Program} {f : FuncId} (h : ExtAt P f Extern.BytealgCount.count) : ExtFn P f countByteA := by
  intro vs r e φ vs' hl
  obtain ⟨a, b, rfl, e1⟩ := l2_opt e
  obtain ⟨s, rfl, e2⟩ := vStr_opt e1
  obtain ⟨k, n, rfl, e3⟩ := vInt_opt e2
  cases k <;> try (exact absurd e3 (by intro x; cases x))
  obtain ⟨c, rfl, e4⟩ := iNat_opt (show iNat (fun c => bc (Nat.ble 256 c) none (some (.int .i64 (Int.ofNat (cntA c s))))) none n = some r from e3)
  obtain ⟨e5, e6⟩ := bc_opt' e4
  have e5 := ble_lt e5
  obtain ⟨x, t, rfl, h1, hl⟩ := hl.uncons
  obtain ⟨y, t, rfl, h2, hl⟩ := hl.uncons
  rw [hl.nil_inv]
  obtain ⟨sb, rfl, hsb⟩ : ∃ sb : ByteArray, x = .string sb ∧ sb.data.toList = s := by cases h1; exact ⟨_, rfl, rfl⟩
  subst hsb
  cases h2
  refine ⟨.int .i64 (Lib.countByte sb.data.toList ((c : Int)).toNat.toUInt8), ?_, fun w => ?_⟩
  · rw [← Option.some.inj e6, cntA_eq e5]; exact .int _ _
  · rw [h.run]
    show ((Extern.BytealgCount.count #[.string sb, .int .u8 (c : Int)]).run P w).andThen _ = _
    rw [Lib.run_countString]; rfl
end Go.Ab
