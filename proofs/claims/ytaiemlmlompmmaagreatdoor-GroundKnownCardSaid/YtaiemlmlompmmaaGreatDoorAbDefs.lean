/-
  THE ABSTRACT EVALUATOR: a deterministic run of Go text over a heap of named blocks, with what Go leaves open (capacities, orders) left out.
-/
import GoSem.Step
import Derived.Calls
namespace Go.Ab

inductive AV where
  | bool (b : Bool)
  | int (k : IntKind) (n : Int)
  | str (s : List UInt8)
  | nilptr
  | ptr (i off : Nat)
  | nilslice
  | slice (i off len cap : Nat) (op : Bool)
  | nilmap
  | map (i : Nat)
  | func (f : FuncId) (first captured : List AV)
  | yieldF (l : Nat)
  | nilFunc
  | iface (t : TypeId) (v : AV)
  | nilIface
  | agg (cs : List AV)
  | tuple (cs : List AV)
  /-- a slice of length 0 that is not nil; its place and its capacity are not known -/
  | zslice
  deriving Inhabited

def AV.undef : AV := .tuple []

def AV.cells : AV → List AV
  | .agg cs => cs
  | v => [v]

/-- a value of one cell -/
def AV.scalar : AV → Bool
  | .agg _ | .tuple _ => false
  | _ => true

/-- Sameness, sound alone. -/
def listAll2 {α : Type} (f : α → α → Bool) : List α → List α → Bool
  | [], [] => true
  | x :: xs, y :: ys => f x y && listAll2 f xs ys
  | _, _ => false

def AV.same : Nat → AV → AV → Bool
  | 0, _, _ => false
  | n + 1, x, y => match x, y with
    | .bool a, .bool b => a == b
    | .int k a, .int j b => k == j && a == b
    | .str a, .str b => a == b
    | .nilptr, .nilptr => true
    | .ptr i o, .ptr j p => i == j && o == p
    | .nilslice, .nilslice => true
    | .zslice, .zslice => true
    | .slice i o l c b, .slice j p m d e => i == j && o == p && l == m && c == d && b == e
    | .nilmap, .nilmap => true
    | .map i, .map j => i == j
    | .func f a b, .func g c d => f == g && listAll2 (AV.same n) a c && listAll2 (AV.same n) b d
    | .yieldF l, .yieldF m => l == m
    | .nilFunc, .nilFunc => true
    | .iface t a, .iface u b => t == u && AV.same n a b
    | .nilIface, .nilIface => true
    | .agg a, .agg b => listAll2 (AV.same n) a b
    | .tuple a, .tuple b => listAll2 (AV.same n) a b
    | _, _ => false

/-- A constant of the text, without addresses. -/
def ofScalar : Value → Option AV
  | .bool b => some (.bool b)
  | .int k n => some (.int k n)
  | .string s => some (.str s.data.toList)
  | .pointer none => some .nilptr
  | .slice none 0 0 => some .nilslice
  | .map none => some .nilmap
  | .nilFunc => some .nilFunc
  | .nilIface => some .nilIface
  | _ => none

def mapAll {α β : Type} (f : α → Option β) : List α → Option (List β)
  | [] => some []
  | x :: xs => match f x with
    | none => none
    | some y => match mapAll f xs with
      | none => none
      | some ys => some (y :: ys)

def ofConst : Value → Option AV
  | .agg cs => match mapAll ofScalar cs.toList with
    | some l => some (.agg l)
    | none => none
  | .tuple cs => match mapAll ofScalar cs.toList with
    | some l => some (.tuple l)
    | none => none
  | .iface t v => match ofScalar v with
    | some x => some (.iface t x)
    | none => none
  | v => ofScalar v

structure AEntry where
  key : AV
  val : AV
  born : Nat

inductive AObj where
  | cells (cs : List AV) (elem : TypeId) (ro : Bool)
  | map (es : List AEntry) (clock : Nat)
  | siter (s : List UInt8) (pos : Nat)
  | miter (m : Option Nat) (since : Nat) (seen : List Nat) (stepped : Nat)
  | loop (st : LoopState) (pending : Option Code) (ts : List AV) (params : List Tmp) (assign body : Code) (dn : Nat)
  | defd
  deriving Inhabited

/-! ### The heap: a tree of eight branches a node, by the digits of a block's name -/
structure P8 (α : Type) where
  a0 : α
  a1 : α
  a2 : α
  a3 : α
  a4 : α
  a5 : α
  a6 : α
  a7 : α
section
variable {α β : Type}
def P8.all (x : α) : P8 α := ⟨x, x, x, x, x, x, x, x⟩
/-- one of eight, by its number (the last one where the number is greater) -/
def s8 (d : Nat) (k : (P8 α → α) → β) : β := match d with
  | 0 => k P8.a0
  | 1 => k P8.a1
  | 2 => k P8.a2
  | 3 => k P8.a3
  | 4 => k P8.a4
  | 5 => k P8.a5
  | 6 => k P8.a6
  | _ => k P8.a7
def sel (d : Nat) (p : P8 α) : α := s8 d fun s => s p
theorem s8_eq (d : Nat) (k : (P8 α → α) → β) : s8 d k = k (sel d) := by
  rcases d with _ | _ | _ | _ | _ | _ | _ | d <;> rfl
/-- one of eight turned; the node is looked at first -/
noncomputable def pe0 (f : α → α) (p : P8 α) : P8 α := P8.rec (motive := fun _ => P8 α) (fun a b c d e i g h => ⟨f a, b, c, d, e, i, g, h⟩) p
noncomputable def pe1 (f : α → α) (p : P8 α) : P8 α := P8.rec (motive := fun _ => P8 α) (fun a b c d e i g h => ⟨a, f b, c, d, e, i, g, h⟩) p
noncomputable def pe2 (f : α → α) (p : P8 α) : P8 α := P8.rec (motive := fun _ => P8 α) (fun a b c d e i g h => ⟨a, b, f c, d, e, i, g, h⟩) p
noncomputable def pe3 (f : α → α) (p : P8 α) : P8 α := P8.rec (motive := fun _ => P8 α) (fun a b c d e i g h => ⟨a, b, c, f d, e, i, g, h⟩) p
noncomputable def pe4 (f : α → α) (p : P8 α) : P8 α := P8.rec (motive := fun _ => P8 α) (fun a b c d e i g h => ⟨a, b, c, d, f e, i, g, h⟩) p
noncomputable def pe5 (f : α → α) (p : P8 α) : P8 α := P8.rec (motive := fun _ => P8 α) (fun a b c d e i g h => ⟨a, b, c, d, e, f i, g, h⟩) p
noncomputable def pe6 (f : α → α) (p : P8 α) : P8 α := P8.rec (motive := fun _ => P8 α) (fun a b c d e i g h => ⟨a, b, c, d, e, i, f g, h⟩) p
noncomputable def pe7 (f : α → α) (p : P8 α) : P8 α := P8.rec (motive := fun _ => P8 α) (fun a b c d e i g h => ⟨a, b, c, d, e, i, g, f h⟩) p
noncomputable def e8 (d : Nat) (k : ((α → α) → P8 α → P8 α) → β) : β := match d with
  | 0 => k pe0
  | 1 => k pe1
  | 2 => k pe2
  | 3 => k pe3
  | 4 => k pe4
  | 5 => k pe5
  | 6 => k pe6
  | _ => k pe7
noncomputable def epd (d : Nat) (f : α → α) (p : P8 α) : P8 α := e8 d fun u => u f p
theorem e8_eq (d : Nat) (k : ((α → α) → P8 α → P8 α) → β) : e8 d k = k (epd d) := by
  rcases d with _ | _ | _ | _ | _ | _ | _ | d <;> rfl
theorem sel_epd_same (d : Nat) (f : α → α) (p : P8 α) : sel d (epd d f p) = f (sel d p) := by
  rcases d with _ | _ | _ | _ | _ | _ | _ | d <;> rfl
theorem sel_epd_other {d e : Nat} (hd : d < 8) (he : e < 8) (h : d ≠ e) (f : α → α) (p : P8 α) : sel e (epd d f p) = sel e p := by
  rcases (show d = 0 ∨ d = 1 ∨ d = 2 ∨ d = 3 ∨ d = 4 ∨ d = 5 ∨ d = 6 ∨ d = 7 by omega) with rfl | rfl | rfl | rfl | rfl | rfl | rfl | rfl <;>
  rcases (show e = 0 ∨ e = 1 ∨ e = 2 ∨ e = 3 ∨ e = 4 ∨ e = 5 ∨ e = 6 ∨ e = 7 by omega) with rfl | rfl | rfl | rfl | rfl | rfl | rfl | rfl <;>
  first | rfl | exact absurd rfl h
theorem sel_all (d : Nat) (x : α) : sel d (P8.all x) = x := by
  rcases d with _ | _ | _ | _ | _ | _ | _ | d <;> rfl
/-- a number handed on evaluated -/
noncomputable def canon (n : Nat) (f : Nat → β) : β := Nat.rec (motive := fun _ => β) (f 0) (fun m _ => f (Nat.succ m)) n
theorem canon_eq (n : Nat) (f : Nat → β) : canon n f = f n := by cases n <;> rfl
end

abbrev H3 : Type := P8 (P8 (P8 (Option AObj)))
abbrev HT : Type := P8 (P8 (P8 H3))
structure Hi where
  get : HT → H3
  upd : (H3 → H3) → HT → HT
structure Lo where
  get : H3 → Option AObj
  upd : Option AObj → H3 → H3
structure HP where
  get : HT → Option AObj
  put : Option AObj → HT → HT
noncomputable def hiP (q : Nat) : Hi := s8 (Nat.div q 64) fun g1 => s8 (Nat.mod (Nat.div q 8) 8) fun g2 => s8 (Nat.mod q 8) fun g3 =>
  e8 (Nat.div q 64) fun u1 => e8 (Nat.mod (Nat.div q 8) 8) fun u2 => e8 (Nat.mod q 8) fun u3 => ⟨fun t => g3 (g2 (g1 t)), fun f t => u1 (u2 (u3 f)) t⟩
noncomputable def loP (q : Nat) : Lo := s8 (Nat.div q 64) fun g1 => s8 (Nat.mod (Nat.div q 8) 8) fun g2 => s8 (Nat.mod q 8) fun g3 =>
  e8 (Nat.div q 64) fun u1 => e8 (Nat.mod (Nat.div q 8) 8) fun u2 => e8 (Nat.mod q 8) fun u3 => ⟨fun t => g3 (g2 (g1 t)), fun o t => u1 (u2 (u3 fun _ => o)) t⟩
noncomputable def hcat (a : Hi) (b : Lo) : HP := Hi.rec (motive := fun _ => HP) (fun g u => Lo.rec (motive := fun _ => HP) (fun g' u' => ⟨fun t => g' (g t), fun o t => u (u' o) t⟩) b) a
/-- the way to a block -/
noncomputable def hp (i : Nat) : HP := bif Nat.ble 262144 i then ⟨fun _ => none, fun _ t => t⟩ else canon (Nat.div i 512) fun q => canon (Nat.mod i 512) fun p => hcat (hiP q) (loP p)

structure Heap where
  t : HT
  nx : Nat

noncomputable def Heap.get (h : Heap) (i : Nat) : Option AObj := (hp i).get h.t
noncomputable def Heap.put (h : Heap) (i : Nat) (o : Option AObj) : Heap := ⟨(hp i).put o h.t, h.nx⟩
noncomputable def Heap.new (h : Heap) (o : AObj) : Option Heap := bif Nat.ble 262144 h.nx then none else some ⟨(hp h.nx).put (some o) h.t, h.nx + 1⟩
def depth : Nat := 18
def HT.nil : HT := P8.all (P8.all (P8.all (P8.all (P8.all (P8.all none)))))

/-- What is known of the program beside its tables: externs that only compute, and functions whose result is known. -/
structure Env where
  P : Program
  G : Nat
  pureExt : FuncId → Option (List AV → Option AV)
  special : FuncId → Option (List AV → Heap → Option (AV × Heap))

variable (E : Env)

def evs (ts : List AV) : Operand → Option AV
  | .tmp t => some (ts.getD t AV.undef)
  | .const v => ofConst v
  | .global g => if g < E.G then some (.ptr g 0) else none
  | .func f => some (.func f [] [])


def sizeT (t : TypeId) : Option Nat := (E.P.info? t).map (·.size)
def bytesT (t : TypeId) : Option Nat := (E.P.info? t).map (·.bytes)
def zeroT (t : TypeId) : Option AV := match E.P.info? t with
  | some i => match i.zero with
    | some z => ofConst z
    | none => none
  | none => none
def isAggT (t : TypeId) : Option Bool := match E.P.underlying t with
  | some (.struct _) => some true
  | some (.array _ _) => some true
  | some _ => some false
  | none => none

def repCells (z : List AV) : Nat → List AV
  | 0 => []
  | n + 1 => z ++ repCells z n

/-- part of a row of cells as a value of a type -/
def partT (t : TypeId) (cs : List AV) (off : Nat) : Option AV := match isAggT E t with
  | some true => match sizeT E t with
    | some n => if off + n ≤ cs.length then some (.agg ((cs.drop off).take n)) else none
    | none => none
  | some false => cs[off]?
  | none => none

def binInt (op : BinOp) (k : IntKind) (a b : Int) : Option AV := match op with
  | .add => some (.int k (k.wrap (a + b)))
  | .sub => some (.int k (k.wrap (a - b)))
  | .mul => some (.int k (k.wrap (a * b)))
  | .quo => if b = 0 then none else some (.int k (k.wrap (a.tdiv b)))
  | .rem => if b = 0 then none else some (.int k (a.tmod b))
  | .and => some (.int k (k.wrap (BitVec.ofInt k.bits a &&& BitVec.ofInt k.bits b).toNat))
  | .or => some (.int k (k.wrap (BitVec.ofInt k.bits a ||| BitVec.ofInt k.bits b).toNat))
  | .xor => some (.int k (k.wrap (BitVec.ofInt k.bits a ^^^ BitVec.ofInt k.bits b).toNat))
  | .andNot => some (.int k (k.wrap (BitVec.ofInt k.bits a &&& ~~~ BitVec.ofInt k.bits b).toNat))
  | .eql => some (.bool (a == b))
  | .neq => some (.bool (a != b))
  | .lss => some (.bool (a < b))
  | .leq => some (.bool (a ≤ b))
  | .gtr => some (.bool (a > b))
  | .geq => some (.bool (a ≥ b))
  | _ => none

def binStr (op : BinOp) (a b : List UInt8) : Option AV := match op with
  | .add => if a.length + b.length < 1099511627776 then some (.str (a ++ b)) else none
  | .eql => some (.bool (a == b))
  | .neq => some (.bool !(a == b))
  | .lss => some (.bool (Op.bytesLess a b))
  | .leq => some (.bool (Op.bytesLess a b || a == b))
  | .gtr => some (.bool !(Op.bytesLess a b || a == b))
  | .geq => some (.bool !(Op.bytesLess a b))
  | _ => none

/-- Sameness of two values of one type, where it takes no look at memory. -/
def eqAV (t : TypeId) (a b : AV) : Option Bool := match E.P.underlying t with
  | some .bool => match a, b with
    | .bool x, .bool y => some (x == y)
    | _, _ => none
  | some (.pointer _) => match a, b with
    | .nilptr, .nilptr => some true
    | .nilptr, .ptr _ _ => some false
    | .ptr _ _, .nilptr => some false
    | _, _ => none
  | some (.interface _) => match a, b with
    | .nilIface, .nilIface => some true
    | .nilIface, .iface _ _ => some false
    | .iface _ _, .nilIface => some false
    | _, _ => none
  | some (.slice _) => match a, b with
    | .nilslice, .nilslice => some true
    | .nilslice, .slice .. => some false
    | .slice .., .nilslice => some false
    | _, _ => none
  | some (.map _ _) => match a, b with
    | .nilmap, .nilmap => some true
    | .nilmap, .map _ => some false
    | .map _, .nilmap => some false
    | _, _ => none
  | some (.func ..) => match a, b with
    | .nilFunc, .nilFunc => some true
    | .nilFunc, .func .. => some false
    | .func .., .nilFunc => some false
    | _, _ => none
  | _ => none

/-- sameness of structs, field by field -/
def eqFieldsA (eq : TypeId → AV → AV → Option Bool) (xs ys : List AV) : List Field → Option Bool
  | [] => some true
  | f :: fs => if f.name = "_" then eqFieldsA eq xs ys fs else match partT E f.type xs f.offset, partT E f.type ys f.offset with
    | some a, some b => match eq f.type a b with
      | some true => eqFieldsA eq xs ys fs
      | some false => some false
      | none => none
    | _, _ => none
def eqDeep : Nat → TypeId → AV → AV → Option Bool
  | 0, _, _, _ => none
  | n + 1, t, a, b => match a, b with
    | .int k x, .int j y => match E.P.underlying t with
      | some (.int _) => if k = j then some (x == y) else none
      | _ => none
    | .str x, .str y => match E.P.underlying t with
      | some .string => some (x == y)
      | _ => none
    | .agg xs, .agg ys => match E.P.underlying t with
      | some (.struct fs) => if E.P.stoodInHeld t = false then eqFieldsA E (eqDeep n) xs ys fs.toList else none
      | _ => none
    | a, b => eqAV E t a b

def isConst : Operand → Bool
  | .const _ => true
  | _ => false

def guardOK (xc yc : Bool) : AV → AV → Bool
  | .nilIface, .nilIface => xc || yc
  | .agg _, .agg _ => false
  | _, _ => true

def binA (op : BinOp) (t : TypeId) (xc yc : Bool) (a b : AV) : Option AV := match op, a, b with
  | .shl, .int k x, .int _ y => if y < 0 then none else some (.int k (k.wrap (x * 2 ^ (min y.toNat k.bits))))
  | .shr, .int k x, .int _ y => if y < 0 then none else some (.int k (x.fdiv (2 ^ (min y.toNat k.bits))))
  | op, .int k x, .int k' y => if k = k' then binInt op k x y else none
  | op, .str x, .str y => binStr op x y
  | .eql, .agg xs, .agg ys => if E.P.eqGuardType E.P.depth t then none else (match eqDeep E 16 t (.agg xs) (.agg ys) with
    | some r => some (.bool r)
    | none => none)
  | .neq, .agg xs, .agg ys => if E.P.eqGuardType E.P.depth t then none else (match eqDeep E 16 t (.agg xs) (.agg ys) with
    | some r => some (.bool !r)
    | none => none)
  | .eql, x, y => if guardOK xc yc x y then (match eqAV E t x y with
    | some r => some (.bool r)
    | none => none) else none
  | .neq, x, y => if guardOK xc yc x y then (match eqAV E t x y with
    | some r => some (.bool !r)
    | none => none) else none
  | _, _, _ => none

def unA (op : UnOp) (x : AV) : Option AV := match op, x with
  | .neg, .int k n => some (.int k (k.wrap (0 - n)))
  | .xor, .int k n => some (.int k (k.wrap (BitVec.ofInt k.bits (if k.signed then -1 else k.max) ^^^ BitVec.ofInt k.bits n).toNat))
  | .not, .bool b => some (.bool !b)
  | _, _ => none

/-- bounds of a slice expression -/
def boundA (x : AV) (y : Nat) : Option Nat := match x with
  | .int _ i => if 0 ≤ i ∧ i ≤ y then some i.toNat else none
  | _ => none
def boundsA (len cap : Nat) (low high max : Option AV) : Option (Nat × Nat × Nat) :=
  match (match max with | some v => boundA v cap | none => some cap) with
  | none => none
  | some m => match (match high with | some v => boundA v m | none => if max.isSome then none else some len) with
    | none => none
    | some h => match (match low with | some v => boundA v h | none => some 0) with
      | none => none
      | some l => some (l, h, m)

def optOp (ts : List AV) : Option Operand → Option (Option AV)
  | none => some none
  | some o => match evs E ts o with
    | some v => some (some v)
    | none => none

/-- s[low:high:max] -/
def sliceA (t : TypeId) (x : AV) (low high max : Option AV) : Option AV := match E.P.underlying t, x with
  | some (.array n elem), .ptr i o => match boundsA n n low high max, sizeT E elem with
    | some (l, h, m), some size => some (.slice i (if m = l then o else o + l * size) (h - l) (m - l) false)
    | _, _ => none
  | some .string, .str s => match max, boundsA s.length s.length low high none with
    | none, some (l, h, _) => some (.str ((s.drop l).take (h - l)))
    | _, _ => none
  | some (.slice elem), .nilslice => match boundsA 0 0 low high max, sizeT E elem with
    | some _, some _ => some .nilslice
    | _, _ => none
  | some (.slice elem), .slice i o len cap op =>
    -- the bounds that are asked for must lie within what is known of the capacity
    if len ≤ cap then match boundsA len cap low high max, sizeT E elem with
    | some (l, h, m), some size =>
      if m = l then (if op && max.isNone then some .zslice else some (.slice i o (h - l) (m - l) false))
      else some (.slice i (o + l * size) (h - l) (m - l) (op && max.isNone))
    | _, _ => none
    else none
  | _, _ => none

def fieldsAt (t : TypeId) (f : Nat) : Option Field := match E.P.underlying t with
  | some (.struct fs) => fs[f]?
  | _ => none

/-- cells set from a place on -/
def setFrom (cs : List AV) (off : Nat) : List AV → List AV
  | [] => cs
  | v :: vs => setFrom (cs.set off v) (off + 1) vs

def fillA (place : Nat → Option (Nat × Nat)) (cs : List AV) : List (Nat × AV) → Option (List AV)
  | [] => some cs
  | (i, v) :: rest => match place i with
    | none => none
    | some (off, size) => if v.cells.length = size ∧ off + size ≤ cs.length then fillA place (setFrom cs off v.cells) rest else none

def partsA (ts : List AV) : List (Nat × Operand) → Option (List (Nat × AV))
  | [] => some []
  | (i, o) :: rest => match evs E ts o with
    | none => none
    | some v => match partsA ts rest with
      | none => none
      | some l => some ((i, v) :: l)

def placesOf (fs : List Field) : Option (List (Nat × Nat)) := mapAll (fun f => match sizeT E f.type with | some n => some (f.offset, n) | none => none) fs

def buildA (t : TypeId) (parts : List (Nat × AV)) : Option AV := match zeroT E t with
  | none => none
  | some z => match E.P.underlying t with
    | some (.struct fs) => match placesOf E fs.toList with
      | none => none
      | some ps => match fillA (ps[·]?) z.cells parts with
        | some cs => some (.agg cs)
        | none => none
    | some (.array _ elem) => match sizeT E elem with
      | none => none
      | some n => match fillA (fun i => some (i * n, n)) z.cells parts with
        | some cs => some (.agg cs)
        | none => none
    | _ => none

def maxA : AV → List AV → Option AV
  | .int k x, [] => some (.int k x)
  | .int k x, .int _ y :: rest => maxA (.int k (if y > x then y else x)) rest
  | _, _ => none
def minA : AV → List AV → Option AV
  | .int k x, [] => some (.int k x)
  | .int k x, .int _ y :: rest => minA (.int k (if y < x then y else x)) rest
  | _, _ => none

def evAll (ts : List AV) (l : List Operand) : Option (List AV) := mapAll (evs E ts) l

/-- Operations that neither read nor write memory. -/
def pureA (ts : List AV) : Op → Option AV
  | .move x => evs E ts x
  | .assign x => evs E ts x
  | .pick c a b => match evs E ts c with
    | some (.bool true) => evs E ts a
    | some (.bool false) => evs E ts b
    | _ => none
  | .build t parts => match partsA E ts parts.toList with
    | some ps => buildA E t ps
    | none => none
  | .nilCheck x => match evs E ts x with
    | some (.ptr i o) => some (.ptr i o)
    | some (.map i) => some (.map i)
    | some (.slice i o l c b) => some (.slice i o l c b)
    | some (.func f a b) => some (.func f a b)
    | _ => none
  | .binOp op t x y _ => match evs E ts x, evs E ts y with
    | some a, some b => binA E op t (isConst x) (isConst y) a b
    | _, _ => none
  | .unOp op _ x => match evs E ts x with
    | some a => unA op a
    | none => none
  | .convert src dst x => match E.P.underlying src, E.P.underlying dst, evs E ts x with
    | some _, some (.int k), some (.int _ n) => some (.int k (k.wrap n))
    | some _, some .string, some (.str s) => some (.str s)
    | _, _, _ => none
  | .makeInterface t x => match E.P.underlying t, evs E ts x with
    | some (.interface _), _ => none
    | some _, some v => some (.iface t v)
    | _, _ => none
  | .makeFunc (.func f) first captured => match evAll E ts first.toList, evAll E ts captured.toList with
    | some a, some b => some (.func f a b)
    | _, _ => none
  | .slice t x lo hi mx => match evs E ts x, optOp E ts lo, optOp E ts hi, optOp E ts mx with
    | some v, some l, some h, some m => sliceA E t v l h m
    | _, _, _, _ => none
  | .fieldAddr s x f => match fieldsAt E s f, evs E ts x with
    | some fd, some (.ptr i o) => match sizeT E fd.type with
      | some n => if n = 0 then none else some (.ptr i (o + fd.offset))
      | none => none
    | _, _ => none
  | .field s x f => match fieldsAt E s f, evs E ts x with
    | some fd, some (.agg cs) => partT E fd.type cs fd.offset
    | _, _ => none
  | .indexAddr t x ix => match E.P.underlying t, evs E ts x, evs E ts ix with
    | some (.array len elem), some (.ptr i o), some (.int _ n) => match sizeT E elem with
      | some size => if 0 ≤ n ∧ n < len then some (.ptr i (o + n.toNat * size)) else none
      | none => none
    | some (.slice elem), some (.slice i o len _ _), some (.int _ n) => match sizeT E elem with
      | some size => if 0 ≤ n ∧ n < len then some (.ptr i (o + n.toNat * size)) else none
      | none => none
    | _, _, _ => none
  | .index t x ix => match E.P.underlying t, evs E ts x, evs E ts ix with
    | some (.array len elem), some (.agg cs), some (.int _ n) => match sizeT E elem with
      | some size => if 0 ≤ n ∧ n < len then partT E elem cs (n.toNat * size) else none
      | none => none
    | some .string, some (.str s), some (.int _ n) => if 0 ≤ n then (match s[n.toNat]? with | some b => some (.int .u8 b.toNat) | none => none) else none
    | _, _, _ => none
  | .extract x i => match evs E ts x with
    | some (.tuple vs) => vs[i]?
    | _ => none
  | .typeAssert x _ asserted commaOk => match E.P.underlying asserted, evs E ts x with
    | some (.interface _), _ => none
    | some _, some (.iface t v) =>
      if t = asserted then some (if commaOk then .tuple [v, .bool true] else v)
      else if commaOk then (match zeroT E asserted with | some z => some (.tuple [z, .bool false]) | none => none) else none
    | some _, some .nilIface => if commaOk then (match zeroT E asserted with | some z => some (.tuple [z, .bool false]) | none => none) else none
    | _, _ => none
  | .call { callee := .builtin .len, args, argTypes } => match argTypes[0]?, evAll E ts args.toList with
    | some t, some [v] => match E.P.underlying t, v with
      | some .string, .str s => some (.int .i64 s.length)
      | some (.array n _), _ => some (.int .i64 n)
      | some (.slice _), .nilslice => some (.int .i64 0)
      | some (.slice _), .slice _ _ n _ _ => some (.int .i64 n)
      | some (.slice _), .zslice => some (.int .i64 0)
      | some (.map _ _), .nilmap => some (.int .i64 0)
      | _, _ => none
    | _, _ => none
  | .call { callee := .builtin .cap, args, argTypes } => match argTypes[0]?, evAll E ts args.toList with
    | some t, some [v] => match E.P.underlying t, v with
      | some (.array n _), _ => some (.int .i64 n)
      | some (.slice _), .nilslice => some (.int .i64 0)
      | some (.slice _), .slice _ _ _ c false => some (.int .i64 c)
      | _, _ => none
    | _, _ => none
  | .call { callee := .builtin .max, args, .. } => match evAll E ts args.toList with
    | some (x :: rest) => maxA x rest
    | _ => none
  | .call { callee := .builtin .min, args, .. } => match evAll E ts args.toList with
    | some (x :: rest) => minA x rest
    | _ => none
  | .call { callee := .value (.func f), args, .. } => match E.pureExt f, evAll E ts args.toList with
    | some e, some vs => e vs
    | _, _ => none
  | _ => none

noncomputable def loadA (h : Heap) (t : TypeId) (a : AV) : Option AV := match a with
  | .ptr i o => match h.get i with
    | some (.cells cs _ _) => partT E t cs o
    | _ => none
  | _ => none

def keyEq : AV → AV → Option Bool
  | .str a, .str b => some (a == b)
  | .int k a, .int k' b => if k = k' then some (a == b) else none
  | .bool a, .bool b => some (a == b)
  | _, _ => none

def keyKind (d : Option TypeDesc) (k : AV) : Bool := match d, k with
  | some .string, .str _ => true
  | some (.int _), .int _ _ => true
  | some .bool, .bool _ => true
  | _, _ => false

/-- the entry of a key: none: not decided; some none: not there -/
def findA (k : AV) : List AEntry → Nat → Option (Option (Nat × AV))
  | [], _ => some none
  | e :: es, i => match keyEq k e.key with
    | some true => some (some (i, e.val))
    | some false => findA k es (i + 1)
    | none => none

noncomputable def bytesAt (h : Heap) (i o n : Nat) : Option (List UInt8) := match h.get i with
  | some (.cells cs _ _) => if o + n ≤ cs.length then
      mapAll (fun | .int .u8 b => some (UInt8.ofNat b.toNat) | _ => none) ((cs.drop o).take n) else none
  | _ => none

/-- Operations that read memory, and write none. -/
noncomputable def readA (ts : List AV) (h : Heap) : Op → Option AV
  | .load t a => match evs E ts a with
    | some v => loadA E h t v
    | none => none
  | .convert src dst x => match E.P.underlying src, E.P.underlying dst, evs E ts x with
    | some (.slice e), some .string, some v => match E.P.underlying e, v with
      | some (.int .u8), .nilslice => some (.str [])
      | some (.int .u8), .slice i o len _ _ => match bytesAt h i o len with
        | some l => some (.str l)
        | none => none
      | _, _ => none
    | _, _, _ => none
  | .lookup t x ix commaOk => match E.P.underlying t, evs E ts x, evs E ts ix with
    | some (.map key elem), some m, some k =>
      if keyKind (E.P.underlying key) k then
        match (match m with | .nilmap => some [] | .map i => (match h.get i with | some (.map es _) => some es | _ => none) | _ => none) with
        | none => none
        | some es => match findA k es 0 with
          | none => none
          | some (some (_, v)) => some (if commaOk then .tuple [v, .bool true] else v)
          | some none => match zeroT E elem with
            | some z => some (if commaOk then .tuple [z, .bool false] else z)
            | none => none
      else none
    | _, _, _ => none
  | .call { callee := .builtin .len, args, argTypes } => match argTypes[0]?, evAll E ts args.toList with
    | some t, some [.map i] => match E.P.underlying t, h.get i with
      | some (.map _ _), some (.map es _) => some (.int .i64 es.length)
      | _, _ => none
    | _, _ => none
  | _ => none

/-- Operations that only make a block: the block, and what they give of its name. -/
def allocA (ts : List AV) : Op → Option (AObj × (Nat → AV))
  | .alloc t => match zeroT E t with
    | some z => some (.cells z.cells t false, fun i => .ptr i 0)
    | none => none
  | .box t x => match evs E ts x with
    | some v => some (.cells v.cells t false, fun i => .ptr i 0)
    | none => none
  | .buildSlice t len parts => match E.P.underlying t with
    | some (.slice elem) => match sizeT E elem, zeroT E elem, partsA E ts parts.toList with
      | some n, some z, some ps => if z.cells.length = n ∧ len * n ≤ 2 ^ 24 then
          match fillA (fun i => some (i * n, n)) (repCells z.cells len) ps with
          | some cs => some (.cells cs elem false, fun i => .slice i 0 len len false)
          | none => none
        else none
      | _, _, _ => none
    | _ => none
  | .makeSlice t l c => match E.P.underlying t, evs E ts l, evs E ts c with
    | some (.slice elem), some (.int _ len), some (.int _ cap) => match sizeT E elem, bytesT E elem, zeroT E elem with
      | some n, some bytes, some z =>
        if 0 ≤ len ∧ len ≤ cap ∧ cap < 2 ^ 30 ∧ (bytes : Int) * cap ≤ 2 ^ 47 ∧ z.cells.length = n then
          some (.cells (repCells z.cells cap.toNat) elem false, fun i => .slice i 0 len.toNat cap.toNat false)
        else none
      | _, _, _ => none
    | _, _, _ => none
  | .makeMap t r => match r with
    | none => some (.map [] 0, fun i => .map i)
    | some o => match E.P.underlying t, evs E ts o with
      | some (.map _ _), some (.int _ _) => some (.map [] 0, fun i => .map i)
      | _, _ => none
  | .range t x => match E.P.underlying t, evs E ts x with
    | some .string, some (.str s) => some (.siter s 0, fun i => .ptr i 0)
    | some (.map _ _), some .nilmap => some (.miter none 0 [] 0, fun i => .ptr i 0)
    | _, _ => none
  | _ => none

noncomputable def storeA (h : Heap) (t : TypeId) (a v : AV) : Option Heap := match a with
  | .ptr i o => match h.get i, sizeT E t with
    | some (.cells cs e false), some n => if v.cells.length = n ∧ o + n ≤ cs.length ∧ v.cells.all AV.scalar = true then some (h.put i (some (.cells (setFrom cs o v.cells) e false))) else none
    | _, _ => none
  | _ => none

def lenA : AV → Option Nat
  | .nilslice => some 0
  | .slice _ _ n _ _ => some n
  | .str s => some s.length
  | .zslice => some 0
  | _ => none

/-- the first n elements of a slice or string, as cells -/
noncomputable def firstA (h : Heap) (size n : Nat) : AV → Option (List AV)
  | .nilslice => if n = 0 then some [] else none
  | .zslice => if n = 0 then some [] else none
  | .slice i o len _ _ => if n ≤ len then (match h.get i with
      | some (.cells cs _ _) => if o + n * size ≤ cs.length then some ((cs.drop o).take (n * size)) else none
      | _ => none) else none
  | .str s => if size = 1 then some ((s.take n).map fun b => .int .u8 b.toNat) else none
  | _ => none

def isIntD : TypeDesc → Bool
  | .int _ => true
  | _ => false

/-- append(nil, make([]T, n)...) -/
noncomputable def appendMakeA (h : Heap) (elem : TypeId) (s x : AV) : Option (AV × Heap) := match s, x, sizeT E elem, bytesT E elem, zeroT E elem with
  | .nilslice, .int _ k, some size, some bytes, some z =>
    if 0 < k ∧ 0 < size ∧ (4 * k.toNat + 4096) * (bytes + 1) ≤ 1099511627776 ∧ z.cells.length = size then
      match h.new (.cells (repCells z.cells k.toNat) elem false) with
      | some h' => some (.slice h.nx 0 k.toNat k.toNat true, h')
      | none => none
    else none
  | _, _, _, _, _ => none

noncomputable def appendA (h : Heap) (argTypes : Array TypeId) (s x : AV) : Option (AV × Heap) := match argTypes[0]?, argTypes[1]? with
  | some sT, some xT => match E.P.underlying sT, E.P.underlying xT with
    | some (.slice elem), some xd => if isIntD xd then appendMakeA E h elem s x else match sizeT E elem, bytesT E elem, lenA x with
      | some size, some bytes, some n => match firstA h size n x, zeroT E elem with
        | some new, some z => if z.cells.length = size ∧ new.all AV.scalar = true ∧ new.length = n * size then
          match s with
          | .nilslice => if n = 0 then some (.nilslice, h) else if (4 * n + 4096) * (bytes + 1) ≤ 1099511627776 then
              (match h.new (.cells new elem false) with
              | some h' => some (.slice h.nx 0 n n true, h')
              | none => none) else none
          | .slice i o len cap op => match h.get i with
            | some (.cells cs e false) =>
              if len + n ≤ cap then
                if o + (len + n) * size ≤ cs.length then some (.slice i o (len + n) cap op, h.put i (some (.cells (setFrom cs (o + len * size) new) e false))) else none
              else if (4 * (len + n) + 4096) * (bytes + 1) ≤ 1099511627776 ∧ o + len * size ≤ cs.length ∧ (op = true → e = elem ∧ o + cap * size = cs.length) then
                match (if op then h.put i none else h).new (.cells ((cs.drop o).take (len * size) ++ new) elem false) with
                | some h' => some (.slice h.nx 0 (len + n) (len + n) true, h')
                | none => none
              else none
            | _ => none
          | _ => none else none
        | _, _ => none
      | _, _, _ => none
    | _, _ => none
  | _, _ => none

noncomputable def copyA (h : Heap) (argTypes : Array TypeId) (d s : AV) : Option (AV × Heap) := match argTypes[0]? with
  | some dT => match E.P.underlying dT, lenA s with
    | some (.slice elem), some m => match sizeT E elem, d with
      | some _, .nilslice => some (.int .i64 0, h)
      | some size, .slice i o len _ _ => match firstA h size (min m len) s, h.get i with
        | some new, some (.cells cs e false) => if o + new.length ≤ cs.length ∧ new.all AV.scalar = true then some (.int .i64 (min m len : Nat), h.put i (some (.cells (setFrom cs o new) e false))) else none
        | _, _ => none
      | _, _ => none
    | _, _ => none
  | none => none

def setEntry (es : List AEntry) (i : Nat) (v : AV) : List AEntry := match es, i with
  | [], _ => []
  | e :: es, 0 => { e with val := v } :: es
  | e :: es, i + 1 => e :: setEntry es i v

noncomputable def mapUpdateA (h : Heap) (t : TypeId) (m k v : AV) : Option Heap := match E.P.underlying t, m with
  | some (.map key _), .map i => match h.get i with
    | some (.map es clock) => if keyKind (E.P.underlying key) k then
        match findA k es 0 with
        | some (some (j, _)) => some (h.put i (some (.map (setEntry es j v) clock)))
        | some none => some (h.put i (some (.map (es ++ [{ key := k, val := v, born := clock }]) (clock + 1))))
        | none => none
      else none
    | _ => none
  | _, _ => none

noncomputable def nextA (h : Heap) (it : AV) (isString : Bool) : Option (AV × Heap) := match it with
  | .ptr r 0 => match h.get r, isString with
    | some (.siter s pos), true =>
      if pos < s.length then
        -- ASCII alone
        match s[pos]? with
        | some b => if b.toNat < 128 then some (.tuple [.bool true, .int .i64 pos, .int .i32 b.toNat], h.put r (some (.siter s (pos + 1)))) else none
        | none => none
      else some (.tuple [.bool false], h)
    | some (.miter none _ _ _), false => some (.tuple [.bool false], h)
    | _, _ => none
  | _ => none

/-- []byte(s) -/
noncomputable def convA (h : Heap) (src dst : TypeId) (x : Option AV) : Option (AV × Heap) := match E.P.underlying src, E.P.underlying dst, x with
  | some .string, some (.slice e), some (.str s) => match E.P.underlying e, h.new (.cells (s.map fun b => .int .u8 b.toNat) e false) with
    | some (.int .u8), some h' => if sizeT E e = some 1 then some (.slice h.nx 0 s.length s.length true, h') else none
    | _, _ => none
  | _, _, _ => none

/-- what is deferred: a call, or the mark of a range over a function -/
inductive ADef where
  | call (f : FuncId) (args : List AV)
  | col (r : Nat)

/-- what may be called: a function, or a round of a range over a function -/
inductive Fn where
  | fn (f : FuncId)
  | yld (l : Nat)

/-- how a piece of text ends -/
inductive AEx where
  | normal
  | exit (id : Nat)
  | ret
  | panic (v : AV)

/-- whether a recover would find something: no; a panic that is not recovered yet; one that is. bar: in a round, which neither recovers nor defers -/
inductive RC where
  | no
  | pend (v : AV)
  | done
  | bar (l : Nat)

structure St where
  ts : List AV
  h : Heap
  ds : List ADef
  rc : RC

inductive Out where
  | ok (e : AEx) (s : St)
  | fail (why : String) (o : Option Oper)

inductive COut where
  | ret (v : AV) (h : Heap)
  | panic (v : AV) (h : Heap)
  | fail (why : String) (o : Option Oper)

abbrev CallF := Fn → List AV → Heap → COut

inductive EOut where
  | val (v : AV) (h : Heap)
  | defer (d : ADef)
  | recov (v : AV)
  | panic (v : AV) (h : Heap)
  | fail (why : String) (o : Option Oper)

def callee (ts : List AV) (c : Call) : Option (Fn × List AV) := match c.callee with
  | .value f => match evs E ts f, evAll E ts c.args.toList with
    | some (.func g first captured), some args => some (.fn g, first ++ args ++ captured)
    | some (.yieldF l), some args => some (.yld l, args)
    | _, _ => none
  | _ => none

/-- the method of a value in an interface: one of its own type, and of its value -/
def methodA (t : TypeId) (name : String) : Option FuncId := match E.P.info? t with
  | some i => match i.methods.find? (·.name == name) with
    | some m => if m.path.isEmpty then match m.func, E.P.underlying t with
      | _, some (.pointer _) => none
      | some (f, false), some _ => some f
      | _, _ => none
      else none
    | none => none
  | none => none

def specialOf : Fn → Option (List AV → Heap → Option (AV × Heap))
  | .fn f => E.special f
  | .yld _ => none

/-- Operations that write memory, or call. -/
noncomputable def effA (call : CallF) (ts : List AV) (h : Heap) (rc : RC) (o : Oper) : EOut :=
  let v (r : Option (AV × Heap)) : EOut := match r with
    | some (x, h') => .val x h'
    | none => .fail "eff" (some o)
  match o.op with
  | .store t a x => match evs E ts a, evs E ts x with
    | some av, some xv => match storeA E h t av xv with
      | some h' => .val AV.undef h'
      | none => .fail "store" (some o)
    | _, _ => .fail "store ops" (some o)
  | .mapUpdate t m k x => match evs E ts m, evs E ts k, evs E ts x with
    | some mv, some kv, some xv => match mapUpdateA E h t mv kv xv with
      | some h' => .val AV.undef h'
      | none => .fail "mapUpdate" (some o)
    | _, _, _ => .fail "mapUpdate ops" (some o)
  | .insert t m k x => match evs E ts m, evs E ts k, evs E ts x with
    | some mv, some kv, some xv => match mapUpdateA E h t mv kv xv with
      | some h' => .val AV.undef h'
      | none => .fail "insert" (some o)
    | _, _, _ => .fail "insert ops" (some o)
  | .convert src dst x => v (convA E h src dst (evs E ts x))
  | .next it isString => match evs E ts it with
    | some i => v (nextA h i isString)
    | none => .fail "next" (some o)
  | .panic x => match evs E ts x with
    | some (.iface t w) => .panic (.iface t w) h
    | _ => .fail "panic" (some o)
  | .defer c => match rc, callee E ts c with
    | .bar _, _ => .fail "defer in a round" (some o)
    | _, some (.fn f, args) => .defer (.call f args)
    | _, _ => .fail "defer" (some o)
  | .call c => match c.callee with
    | .builtin .append => match evAll E ts c.args.toList with
      | some [s, x] => v (appendA E h c.argTypes s x)
      | _ => .fail "append" (some o)
    | .builtin .copy => match evAll E ts c.args.toList with
      | some [s, x] => v (copyA E h c.argTypes s x)
      | _ => .fail "copy" (some o)
    | .builtin .recover => match rc with
      | .pend x => .recov x
      | .bar _ => .fail "recover in a round" (some o)
      | _ => .val .nilIface h
    | .value _ => match callee E ts c with
      | some (f, args) => match specialOf E f with
       | some g => v (g args h)
       | none => match call f args h with
        | .ret x h' => .val x h'
        | .panic x h' => .panic x h'
        | .fail why q => .fail why q
      | none => .fail "callee" (some o)
    | .invoke r name => match evs E ts r, evAll E ts c.args.toList with
      | some (.iface t x), some args => match methodA E t name with
        | some f => match call (.fn f) (x :: args) h with
          | .ret x h' => .val x h'
          | .panic x h' => .panic x h'
          | .fail why q => .fail why q
        | none => .fail "method" (some o)
      | _, _ => .fail "invoke" (some o)
    | _ => .fail "call" (some o)
  | _ => .fail "op" (some o)

def putT (ts : List AV) (d : Option Tmp) (v : AV) : List AV := match d with
  | some i => ts.set i v
  | none => ts

/-- is an operation wanted? (its guard) -/
def wantedA (ops : Array Oper) (ts : List AV) (o : Oper) : Bool := match o.guard with
  | none => true
  | some (j, want) => match (ops[j]?).bind (·.dst) with
    | some d => match ts[d]? with
      | some (.bool b) => b == want
      | _ => false
    | none => false

/-- one operation, in the order of the list -/
noncomputable def opA (call : CallF) (s : St) (o : Oper) : Out :=
  match pureA E s.ts o.op with
  | some v => .ok .normal { s with ts := putT s.ts o.dst v }
  | none => match readA E s.ts s.h o.op with
    | some v => .ok .normal { s with ts := putT s.ts o.dst v }
    | none => match allocA E s.ts o.op with
      | some (obj, mk) => match s.h.new obj with
        | some h' => .ok .normal { s with ts := putT s.ts o.dst (mk s.h.nx), h := h' }
        | none => .fail "full" (some o)
      | none => match effA E call s.ts s.h s.rc o with
        | .val v h' => .ok .normal { s with ts := putT s.ts o.dst v, h := h' }
        | .defer d => .ok .normal { s with ts := putT s.ts o.dst AV.undef, ds := d :: s.ds }
        | .recov v => .ok .normal { s with ts := putT s.ts o.dst v, rc := .done }
        | .panic v h' => .ok (.panic v) { s with h := h' }
        | .fail why q => .fail why q

noncomputable def opsA (call : CallF) (ops : Array Oper) : List Oper → St → Out
  | [], s => .ok .normal s
  | o :: rest, s =>
    if wantedA ops s.ts o then match opA E call s o with
      | .ok .normal s' => opsA call ops rest s'
      | r => r
    else opsA call ops rest { s with ts := putT s.ts o.dst AV.undef }

/-! ### Regions that draw their order -/

/-- may an operation write, or call? (by its form) -/
def effB : Op → Bool
  | .store .. | .mapUpdate .. | .insert .. | .next .. | .panic _ | .defer _ => true
  | .convert _ dst _ => match E.P.underlying dst with
    | some (.slice _) => true
    | _ => false
  | .call c => match c.callee with
    | .builtin .len | .builtin .cap | .builtin .max | .builtin .min => false
    | .builtin _ => true
    | .value (.func f) => (E.pureExt f).isNone
    | _ => true
  | _ => false

def edgesOf (o : Oper) : List Nat := (o.after.toList.filter (Region.binds .any)).map (·.on)

/-- the operations that must stand ahead of each one -/
def ancs : List Oper → List (List Nat) → List (List Nat)
  | [], acc => acc
  | o :: rest, acc => ancs rest (acc ++ [(edgesOf o).foldl (fun l e => (acc.getD e []).foldl (fun l x => if l.contains x then l else x :: l) (if l.contains e then l else e :: l)) []])

def ancOf (an : List (List Nat)) (i : Nat) : List Nat := an.getD i []
def isAnc (an : List (List Nat)) (i j : Nat) : Bool := (ancOf an i).contains j

def tmpsOf (o : Oper) : List Tmp := o.op.operands.toList.filterMap fun | .tmp t => some t | _ => none

/-- what is asked of the edges -/
def edgesOK (ops : List Oper) (an : List (List Nat)) : Bool :=
  ops.zipIdx.all fun (o, i) =>
    (edgesOf o).all (fun e => decide (e < i) && isAnc an i e) &&
    (ancOf an i).all (fun j => decide (j < i) && (edgesOf o).any fun e => e == j || isAnc an e j)

/-- what is asked of the slots -/
def slotsOK (ops : List Oper) (an : List (List Nat)) : Bool :=
  ops.zipIdx.all fun (o, i) =>
    (match o.guard with
      | none => true
      | some (g, _) => isAnc an i g && ((ops[g]?).bind (·.dst)).isSome) &&
    (ops.zipIdx.all fun (p, j) => i == j || match p.dst with
      | none => true
      | some d => o.dst != some d && (!(tmpsOf o).contains d || isAnc an i j || isAnc an j i))

/-- the operations that may write: each one is ahead of the next -/
def chainOK (an : List (List Nat)) : List Nat → Bool
  | e :: f :: rest => isAnc an f e && chainOK an (f :: rest)
  | _ => true

def effsOf (ops : List Oper) : List Nat := (ops.zipIdx.filter fun (o, _) => effB E o.op).map (·.2)
def rank (effs : List Nat) (an : List (List Nat)) (i : Nat) : Nat := (effs.filter fun e => isAnc an i e).length

/-- one group: what may stand between the writing operations k and k + 1, then that one -/
def group (ops : List Oper) (effs : List Nat) (an : List (List Nat)) (k : Nat) : List Nat :=
  ((ops.zipIdx.filter fun (o, i) => !effB E o.op && rank effs an i == k).map (·.2)) ++ (effs[k]?).toList

def groupsFrom (ops : List Oper) (effs : List Nat) (an : List (List Nat)) : Nat → Nat → List Nat
  | 0, _ => []
  | n + 1, k => group E ops effs an k ++ groupsFrom ops effs an n (k + 1)

/-- the latest state in which a reading or making operation may still be done: ahead of the first writing one that waits for it -/
def latest (effs : List Nat) (an : List (List Nat)) (i : Nat) : Nat := (effs.takeWhile fun e => !isAnc an e i).length

structure Plan where
  an : List (List Nat)
  effs : List Nat
  order : List Nat

/-- what is asked of the order: k writing operations have been seen -/
def orderOK (ops : Array Oper) (an : List (List Nat)) (effs : List Nat) : List Nat → List Nat → Nat → Bool
  | [], seen, k => (List.range ops.size).all (fun i => seen.contains i) && k == effs.length
  | i :: rest, seen, k => decide (i < ops.size) && !seen.contains i && (ancOf an i).all (fun j => seen.contains j) &&
    (if effB E ((ops.getD i default).op) then effs[k]? == some i && orderOK ops an effs rest (i :: seen) (k + 1)
     else rank effs an i == k && orderOK ops an effs rest (i :: seen) k)

def nodup : List Nat → Bool
  | [] => true
  | x :: xs => !xs.contains x && nodup xs

def planOf (ops : Array Oper) : Option Plan :=
  let l := ops.toList
  let an := ancs l []
  let effs := effsOf E l
  let order := groupsFrom E l effs an (effs.length + 1) 0
  if edgesOK l an && slotsOK l an && chainOK an effs && nodup effs && orderOK E ops an effs order [] 0 then some ⟨an, effs, order⟩ else none

/-- what an operation of a region came to -/
inductive TK where
  | off
  | pur
  | red
  | alc (n : Nat) (obj : AObj)
  | eff (h' : Heap)

structure Step where
  i : Nat
  k : Nat
  ts : List AV
  v : AV
  kind : TK

inductive TOut where
  | ok (tr : List Step) (hs : List Heap) (s : St)
  | fail (why : String) (o : Option Oper)

def TOut.step (x : Step) : TOut → TOut
  | .ok tr hs s => .ok (x :: tr) hs s
  | r => r
def TOut.bound (h : Heap) : TOut → TOut
  | .ok tr hs s => .ok tr (h :: hs) s
  | r => r

noncomputable def drawT (call : CallF) (ops : Array Oper) : List Nat → Nat → St → TOut
  | [], _, s => .ok [] [s.h] s
  | i :: rest, k, s => match ops[i]? with
    | none => .fail "order" none
    | some o =>
      if effB E o.op then
        if wantedA ops s.ts o then match effA E call s.ts s.h s.rc o with
          | .val v h' => ((drawT call ops rest (k + 1) { s with ts := putT s.ts o.dst v, h := h' }).bound s.h).step ⟨i, k, s.ts, v, .eff h'⟩
          | .fail why q => .fail why q
          | _ => .fail "draw" (some o)
        else ((drawT call ops rest (k + 1) { s with ts := putT s.ts o.dst AV.undef }).bound s.h).step ⟨i, k, s.ts, AV.undef, .off⟩
      else if wantedA ops s.ts o then match pureA E s.ts o.op with
        | some v => (drawT call ops rest k { s with ts := putT s.ts o.dst v }).step ⟨i, k, s.ts, v, .pur⟩
        | none => match readA E s.ts s.h o.op with
          | some v => (drawT call ops rest k { s with ts := putT s.ts o.dst v }).step ⟨i, k, s.ts, v, .red⟩
          | none => match allocA E s.ts o.op with
            | some (obj, mk) => match s.h.new obj with
              | some h' => (drawT call ops rest k { s with ts := putT s.ts o.dst (mk s.h.nx), h := h' }).step ⟨i, k, s.ts, mk s.h.nx, .alc s.h.nx obj⟩
              | none => .fail "full" (some o)
            | none => .fail "neither" (some o)
      else (drawT call ops rest k { s with ts := putT s.ts o.dst AV.undef }).step ⟨i, k, s.ts, AV.undef, .off⟩

def AObj.same : AObj → AObj → Bool
  | .cells a e r, .cells b f q => listAll2 (AV.same 20) a b && e == f && r == q
  | .map [] c, .map [] d => c == d
  | .siter s p, .siter t q => s == t && p == q
  | _, _ => false

/-- what was read, or made, in a heap that comes later -/
noncomputable def stillS (ops : Array Oper) (x : Step) (h : Heap) : Bool := match x.kind with
  | .red => match readA E x.ts h (ops.getD x.i default).op with
    | some v => AV.same 20 v x.v
    | none => false
  | .alc n obj => match h.get n with
    | some o => AObj.same o obj
    | none => false
  | _ => true

def madeIds (tr : List Step) : List Nat := tr.filterMap fun x => match x.kind with | .alc n _ => some n | _ => none

noncomputable def lastly (ops : Array Oper) (pl : Plan) (tr : List Step) (hs : List Heap) : Bool :=
  nodup (madeIds tr) && tr.all fun x => ((hs.drop x.k).take (latest pl.effs pl.an x.i + 1 - x.k)).all (stillS E ops x)

/-- a region that draws its order, and whose last operation is a call that panics: all others come before it in any order -/
noncomputable def panicA (call : CallF) (ops : Array Oper) (s : St) (pl : Plan) : Option (AV × St) := match pl.order.reverse with
  | [] => none
  | i :: front => match drawT E call ops front.reverse 0 s, ops[i]? with
    | .ok tr hs s1, some ⟨dst, .call c, ty, pos, after, guard⟩ =>
      if effB E (.call c) && wantedA ops s1.ts ⟨dst, .call c, ty, pos, after, guard⟩ && (List.range ops.size).all (fun j => j == i || isAnc pl.an i j) then
        match effA E call s1.ts s1.h s1.rc ⟨dst, .call c, ty, pos, after, guard⟩ with
        | .panic v h' => if lastly E ops pl (tr ++ [⟨i, hs.length - 1, s1.ts, AV.undef, .eff h'⟩]) (hs ++ [h']) then some (v, { s1 with h := h' }) else none
        | _ => none
      else none
    | _, _ => none

noncomputable def drawA (call : CallF) (ops : Array Oper) (s : St) : Out := match planOf E ops with
  | none => .fail "plan" (ops[0]?)
  | some pl => match drawT E call ops pl.order 0 s with
    | .ok tr hs s' => if lastly E ops pl tr hs then .ok .normal s' else .fail "still" (ops[0]?)
    | .fail why o => match panicA E call ops s pl with
      | some (v, s2) => .ok (.panic v) s2
      | none => .fail why o

/-- where the deferred calls of a range over a function's rounds go -/
noncomputable def openA (s : St) : Option (Nat × Heap × List ADef) := match s.rc with
  | .bar l => match s.h.get l with
    | some (.loop _ _ _ _ _ _ dn) => some (dn, s.h, s.ds)
    | _ => none
  | _ => match s.h.new .defd with
    | some h1 => some (s.h.nx, h1, .col s.h.nx :: s.ds)
    | none => none

/-- what a jump out of a round comes to -/
def jumpA : Option Code → Option AEx
  | none => some .normal
  | some (.exit id) => some (.exit id)
  | some .ret => some .ret
  | _ => none

/-- a range over a function -/
noncomputable def rangeA (call : CallF) (f : Operand) (ps : Array Tmp) (as bd : Code) (s : St) : Out := match evs E s.ts f with
  | some (.func g first captured) => match openA s with
    | some (dn, h1, ds1) => match h1.new (.loop .ready none s.ts ps.toList as bd dn) with
      | some h2 => match call (.fn g) (first ++ [.yieldF h1.nx] ++ captured) h2 with
        | .ret _ h3 => match h3.get h1.nx with
          | some (.loop .busy ..) => .fail "range busy" none
          | some (.loop _ pend ts' ps' as' bd' dn') => match jumpA pend with
            | some e => .ok e { s with h := h3.put h1.nx (some (.loop .exhausted pend ts' ps' as' bd' dn')), ds := ds1 }
            | none => .fail "range jump" none
          | _ => .fail "range loop" none
        | .panic v h3 => .ok (.panic v) { s with h := h3, ds := ds1 }
        | .fail why q => .fail why q
      | none => .fail "full" none
    | none => .fail "range open" none
  | _ => .fail "range function" none

/-- text -/
noncomputable def exec (call : CallF) : Nat → Code → St → Out
  | 0, _, _ => .fail "fuel" none
  | n + 1, c, s => match c with
    | .skip => .ok .normal s
    | .label _ => .ok .normal s
    | .ret => .ok .ret s
    | .exit id => .ok (.exit id) s
    | .seq a b => match exec call n a s with
      | .ok .normal s' => exec call n b s'
      | r => r
    | .cond x a b => match evs E s.ts x with
      | some (.bool true) => exec call n a s
      | some (.bool false) => exec call n b s
      | _ => .fail "cond" none
    | .block id b => match exec call n b s with
      | .ok (.exit id') s' => if id' = id then .ok .normal s' else .ok (.exit id') s'
      | r => r
    | .loop b => match exec call n b s with
      | .ok .normal s' => exec call n (.loop b) s'
      | r => r
    | .region _ ops draw => if draw then drawA E call ops s else opsA E call ops ops.toList s
    | .rangeFunc f ps as bd => rangeA E call f ps as bd s
    | _ => .fail "code" none

/-- the results of a function that returns -/
noncomputable def resA (h : Heap) (ts : List AV) : List ResultVar → Option (List AV)
  | [] => some []
  | r :: rest => match (match r with
      | .tmp t => some (ts.getD t AV.undef)
      | .cell a t => loadA E h t (ts.getD a AV.undef)) with
    | none => none
    | some v => match resA h ts rest with
      | none => none
      | some vs => some (v :: vs)

def tupled : List AV → AV
  | [v] => v
  | vs => .tuple vs

/-- the deferred calls of a frame that panics (v) or returns -/
noncomputable def unwindA (callD : FuncId → List AV → Heap → RC → Option (Heap × RC)) : List ADef → Option AV → Heap → Option (Option AV × Heap)
  | [], p, h => some (p, h)
  | .col r :: ds, p, h => match h.get r with
    | some .defd => unwindA callD ds p (h.put r none)
    | _ => none
  | .call f args :: ds, none, h => match callD f args h .no with
    | some (h', _) => unwindA callD ds none h'
    | none => none
  | .call f args :: ds, some v, h => match callD f args h (.pend v) with
    | some (h', .pend _) => unwindA callD ds (some v) h'
    | some (h', .done) => unwindA callD ds none h'
    | _ => none

noncomputable def bodyA (call : CallF) (fuel : Nat) (fn : Func) (b : Code) (args : List AV) (h : Heap) (rc : RC) : Out :=
  exec E call fuel b { ts := args ++ List.replicate (fn.ntmps - args.length) AV.undef, h, ds := [], rc }

/-- the end of a round -/
noncomputable def endA (l : Nat) (jump : Option Code) (s : St) : COut := match s.h.get l with
  | some (.loop _ _ ts ps as bd dn) => .ret (.bool jump.isNone) (s.h.put l (some (.loop (if jump.isNone then .ready else .done) jump ts ps as bd dn)))
  | _ => .fail "round end" none

/-- a round -/
noncomputable def roundA (call : CallF) (fuel : Nat) (l : Nat) (args : List AV) (h : Heap) : COut := match h.get l with
  | some (.loop _ _ ts ps as bd _) => if args.length = ps.length then
      match exec E call fuel as { ts := (ps.zip args).foldl (fun ts x => ts.set x.1 x.2) ts, h, ds := [], rc := .bar l } with
      | .ok .normal s1 => match s1.h.get l with
        | some (.loop .ready pd ts2 ps2 as2 bd2 dn2) =>
          match exec E call fuel bd { s1 with h := s1.h.put l (some (.loop .busy pd ts2 ps2 as2 bd2 dn2)) } with
          | .ok .normal s2 => endA l none s2
          | .ok .ret s2 => endA l (some .ret) s2
          | .ok (.exit id) s2 => endA l (some (.exit id)) s2
          | .ok (.panic v) s2 => if s2.ds.isEmpty then .panic v s2.h else .fail "round defers" none
          | .fail why q => .fail why q
        | _ => .fail "round state" none
      | .ok _ _ => .fail "round assign" none
      | .fail why q => .fail why q
    else .fail "round args" none
  | _ => .fail "round" none

noncomputable def callN : Nat → Nat → CallF
  | 0, _ => fun _ _ _ => .fail "depth" none
  | d + 1, fuel => fun F args h => match F with
   | .yld l => roundA E (callN d fuel) fuel l args h
   | .fn f => match E.P.funcs[f]? with
    | none => .fail "no function" none
    | some fn => match fn.body with
      | none => .fail ("no body " ++ fn.name) none
      | some b =>
        let finish (p : Option AV) (s : St) : COut :=
          -- deferred calls: each one's own body may recover
          match unwindA (fun g as h rc => match E.P.funcs[g]? with
              | none => none
              | some fg => match fg.body with
                | none => none
                | some bg => match bodyA E (callN d fuel) fuel fg bg as h rc with
                  | .ok .normal s' => if s'.ds.isEmpty && (resA E s'.h s'.ts fg.results.toList).isSome then some (s'.h, s'.rc) else none
                  | .ok .ret s' => if s'.ds.isEmpty && (resA E s'.h s'.ts fg.results.toList).isSome then some (s'.h, s'.rc) else none
                  | _ => none) s.ds p s.h with
          | none => .fail "unwind" none
          | some (some v, h') => .panic v h'
          | some (none, h') => match resA E h' s.ts fn.results.toList with
            | some vs => .ret (tupled vs) h'
            | none => .fail "results" none
        match bodyA E (callN d fuel) fuel fn b args h .no with
        | .ok .normal s => finish none s
        | .ok .ret s => finish none s
        | .ok (.panic v) s => finish (some v) s
        | .ok (.exit _) _ => .fail "exit" none
        | .fail why o => .fail (why ++ " in " ++ fn.name) o

end Go.Ab
