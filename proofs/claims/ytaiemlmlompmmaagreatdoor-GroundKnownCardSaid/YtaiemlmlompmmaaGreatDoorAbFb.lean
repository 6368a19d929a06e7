/-
  A FAST RUN, PART 2: what operations do, by eliminators alone.
-/
import Derived.Test.YtaiemlmlompmmaaGreatDoorAbFa
namespace Go.Ab.Fa

/-! ### Eliminators -/
section
variable {R : Type}
noncomputable def vBool (f : Bool → R) (d : R) (v : AV) : R :=
  AV.rec (motive_1 := fun _ => R) (motive_2 := fun _ => Unit) (fun b => f b) (fun _ _ => d) (fun _ => d) d (fun _ _ => d) d (fun _ _ _ _ _ => d) d (fun _ => d) (fun _ _ _ _ _ => d) (fun _ => d) d (fun _ _ _ => d) d (fun _ _ => d) (fun _ _ => d) d () (fun _ _ _ _ => ()) v
noncomputable def vInt (f : IntKind → Int → R) (d : R) (v : AV) : R :=
  AV.rec (motive_1 := fun _ => R) (motive_2 := fun _ => Unit) (fun _ => d) (fun k n => f k n) (fun _ => d) d (fun _ _ => d) d (fun _ _ _ _ _ => d) d (fun _ => d) (fun _ _ _ _ _ => d) (fun _ => d) d (fun _ _ _ => d) d (fun _ _ => d) (fun _ _ => d) d () (fun _ _ _ _ => ()) v
noncomputable def vStr (f : List UInt8 → R) (d : R) (v : AV) : R :=
  AV.rec (motive_1 := fun _ => R) (motive_2 := fun _ => Unit) (fun _ => d) (fun _ _ => d) (fun s => f s) d (fun _ _ => d) d (fun _ _ _ _ _ => d) d (fun _ => d) (fun _ _ _ _ _ => d) (fun _ => d) d (fun _ _ _ => d) d (fun _ _ => d) (fun _ _ => d) d () (fun _ _ _ _ => ()) v
noncomputable def vPtr (f : Nat → Nat → R) (d : R) (v : AV) : R :=
  AV.rec (motive_1 := fun _ => R) (motive_2 := fun _ => Unit) (fun _ => d) (fun _ _ => d) (fun _ => d) d (fun i o => f i o) d (fun _ _ _ _ _ => d) d (fun _ => d) (fun _ _ _ _ _ => d) (fun _ => d) d (fun _ _ _ => d) d (fun _ _ => d) (fun _ _ => d) d () (fun _ _ _ _ => ()) v
/-- nil or not -/
noncomputable def vSlice (e : R) (f : Nat → Nat → Nat → Nat → Bool → R) (d : R) (v : AV) : R :=
  AV.rec (motive_1 := fun _ => R) (motive_2 := fun _ => Unit) (fun _ => d) (fun _ _ => d) (fun _ => d) d (fun _ _ => d) e (fun i o l c b => f i o l c b) d (fun _ => d) (fun _ _ _ _ _ => d) (fun _ => d) d (fun _ _ _ => d) d (fun _ _ => d) (fun _ _ => d) d () (fun _ _ _ _ => ()) v
/-- a slice of length 0 that is not nil -/
noncomputable def vZ (z d : R) (v : AV) : R :=
  AV.rec (motive_1 := fun _ => R) (motive_2 := fun _ => Unit) (fun _ => d) (fun _ _ => d) (fun _ => d) d (fun _ _ => d) d (fun _ _ _ _ _ => d) d (fun _ => d) (fun _ _ _ _ _ => d) (fun _ => d) d (fun _ _ _ => d) d (fun _ _ => d) (fun _ _ => d) z () (fun _ _ _ _ => ()) v
noncomputable def vFunc (f : FuncId → List AV → List AV → R) (y : Nat → R) (d : R) (v : AV) : R :=
  AV.rec (motive_1 := fun _ => R) (motive_2 := fun _ => Unit) (fun _ => d) (fun _ _ => d) (fun _ => d) d (fun _ _ => d) d (fun _ _ _ _ _ => d) d (fun _ => d) (fun g a b _ _ => f g a b) (fun l => y l) d (fun _ _ _ => d) d (fun _ _ => d) (fun _ _ => d) d () (fun _ _ _ _ => ()) v
/-- cells of a value -/
noncomputable def vAgg (f : List AV → R) (t : List AV → R) (d : R) (v : AV) : R :=
  AV.rec (motive_1 := fun _ => R) (motive_2 := fun _ => Unit) (fun _ => d) (fun _ _ => d) (fun _ => d) d (fun _ _ => d) d (fun _ _ _ _ _ => d) d (fun _ => d) (fun _ _ _ _ _ => d) (fun _ => d) d (fun _ _ _ => d) d (fun cs _ => f cs) (fun cs _ => t cs) d () (fun _ _ _ _ => ()) v
noncomputable def vIface (f : TypeId → AV → R) (d : R) (v : AV) : R :=
  AV.rec (motive_1 := fun _ => R) (motive_2 := fun _ => Unit) (fun _ => d) (fun _ _ => d) (fun _ => d) d (fun _ _ => d) d (fun _ _ _ _ _ => d) d (fun _ => d) (fun _ _ _ _ _ => d) (fun _ => d) d (fun t v _ => f t v) d (fun _ _ => d) (fun _ _ => d) d () (fun _ _ _ _ => ()) v
noncomputable def vNilOK (v : AV) : Bool :=
  AV.rec (motive_1 := fun _ => Bool) (motive_2 := fun _ => Unit) (fun _ => false) (fun _ _ => false) (fun _ => false) false (fun _ _ => true) false (fun _ _ _ _ _ => true) false (fun _ => true) (fun _ _ _ _ _ => true) (fun _ => false) false (fun _ _ _ => false) false (fun _ _ => false) (fun _ _ => false) false () (fun _ _ _ _ => ()) v
noncomputable def ob {α : Type} (d : R) (f : α → R) (o : Option α) : R := Option.rec (motive := fun _ => R) d f o
noncomputable def bc (b : Bool) (x y : R) : R := Bool.rec (motive := fun _ => R) y x b
/-- the cells of a block, and whether they may be written -/
noncomputable def oCells (f : List AV → TypeId → Bool → R) (d : R) (o : AObj) : R :=
  AObj.rec (motive := fun _ => R) (fun cs e ro => f cs e ro) (fun _ _ => d) (fun _ _ => d) (fun _ _ _ _ => d) (fun _ _ _ _ _ _ _ => d) d o
noncomputable def iNat (f : Nat → R) (d : R) (n : Int) : R := Int.rec (motive := fun _ => R) f (fun _ => d) n
noncomputable def kEl (a b c d e f g h : R) (k : IntKind) : R := IntKind.rec (motive := fun _ => R) a b c d e f g h k
end

/-! ### Numbers -/
noncomputable def kc (k : IntKind) : Nat := kEl 0 1 2 3 4 5 6 7 k
noncomputable def kbeq (k j : IntKind) : Bool := Nat.beq (kc k) (kc j)
noncomputable def bnd (k : IntKind) : Nat := kEl 128 32768 2147483648 9223372036854775808 256 65536 4294967296 18446744073709551616 k
noncomputable def kbits (k : IntKind) : Nat := kEl 8 16 32 64 8 16 32 64 k
noncomputable def ksg (k : IntKind) : Bool := kEl true true true true false false false false k
/-- wrapped round -/
noncomputable def kwrap (k : IntKind) (n : Int) : Int :=
  Int.rec (motive := fun _ => Int) (fun m => bc (Nat.ble (bnd k) m) (bc (ksg k) (k.wrap (Int.ofNat m)) (Int.ofNat (Nat.mod m (bnd k)))) (Int.ofNat m))
    (fun m => bc (ksg k) (bc (Nat.ble (bnd k) m) (k.wrap (Int.negSucc m)) (Int.negSucc m)) (k.wrap (Int.negSucc m))) n
noncomputable def iadd (a b : Int) : Int := iNat (fun x => iNat (fun y => Int.ofNat (Nat.add x y)) (Int.add a b) b) (Int.add a b) a
noncomputable def isub (a b : Int) : Int := iNat (fun x => iNat (fun y => bc (Nat.ble y x) (Int.ofNat (Nat.sub x y)) (Int.negSucc (Nat.sub (Nat.sub y x) 1))) (Int.sub a b) b) (Int.sub a b) a
noncomputable def imul (a b : Int) : Int := iNat (fun x => iNat (fun y => Int.ofNat (Nat.mul x y)) (Int.mul a b) b) (Int.mul a b) a
noncomputable def ieq (a b : Int) : Bool :=
  Int.rec (motive := fun _ => Bool) (fun x => Int.rec (motive := fun _ => Bool) (fun y => Nat.beq x y) (fun _ => false) b) (fun x => Int.rec (motive := fun _ => Bool) (fun _ => false) (fun y => Nat.beq x y) b) a
noncomputable def ilt (a b : Int) : Bool :=
  Int.rec (motive := fun _ => Bool) (fun x => Int.rec (motive := fun _ => Bool) (fun y => Nat.ble (Nat.add x 1) y) (fun _ => false) b) (fun x => Int.rec (motive := fun _ => Bool) (fun _ => true) (fun y => Nat.ble (Nat.add y 1) x) b) a
noncomputable def bnot (b : Bool) : Bool := bc b false true

/-- numbers of one kind -/
noncomputable def intF (op : BinOp) : IntKind → Int → Int → Option AV := match op with
  | .add => fun k a b => some (.int k (kwrap k (iadd a b)))
  | .sub => fun k a b => some (.int k (kwrap k (isub a b)))
  | .mul => fun k a b => some (.int k (kwrap k (imul a b)))
  | .eql => fun _ a b => some (.bool (ieq a b))
  | .neq => fun _ a b => some (.bool (bnot (ieq a b)))
  | .lss => fun _ a b => some (.bool (ilt a b))
  | .leq => fun _ a b => some (.bool (bnot (ilt b a)))
  | .gtr => fun _ a b => some (.bool (ilt b a))
  | .geq => fun _ a b => some (.bool (bnot (ilt a b)))
  | .quo => fun k a b => iNat (fun x => iNat (fun y => bc (Nat.beq y 0) none (some (.int k (kwrap k (Int.ofNat (Nat.div x y)))))) (binInt .quo k a b) b) (binInt .quo k a b) a
  | .rem => fun k a b => iNat (fun x => iNat (fun y => bc (Nat.beq y 0) none (some (.int k (Int.ofNat (Nat.mod x y))))) (binInt .rem k a b) b) (binInt .rem k a b) a
  | .and => fun k a b => iNat (fun x => iNat (fun y => bc (Nat.ble (bnd k) x) (binInt .and k a b) (bc (Nat.ble (bnd k) y) (binInt .and k a b) (some (.int k (Int.ofNat (Nat.land x y)))))) (binInt .and k a b) b) (binInt .and k a b) a
  | .or => fun k a b => iNat (fun x => iNat (fun y => bc (Nat.ble (bnd k) x) (binInt .or k a b) (bc (Nat.ble (bnd k) y) (binInt .or k a b) (some (.int k (Int.ofNat (Nat.lor x y)))))) (binInt .or k a b) b) (binInt .or k a b) a
  | op => fun k a b => binInt op k a b

noncomputable def kmin (k : IntKind) (y : Nat) : Nat := bc (Nat.ble (kbits k) y) (kbits k) y
noncomputable def shlF (k : IntKind) (a b : Int) : Option AV := iNat (fun y => some (.int k (kwrap k (imul a (Int.ofNat (Nat.pow 2 (kmin k y))))))) none b
noncomputable def shrF (k : IntKind) (a b : Int) : Option AV := iNat (fun y => some (.int k (iNat (fun x => Int.ofNat (Nat.div x (Nat.pow 2 (kmin k y)))) (a.fdiv (2 ^ (min y k.bits))) a))) none b

/-! ### Lists -/
section
variable {α : Type}
noncomputable def llen (l : List α) : Nat := List.rec (motive := fun _ => Nat) 0 (fun _ _ ih => Nat.add ih 1) l
noncomputable def lnth (l : List α) : Nat → Option α := List.rec (motive := fun _ => Nat → Option α) (fun _ => none) (fun v _ ih o => bc (Nat.beq o 0) (some v) (ih (Nat.sub o 1))) l
noncomputable def ldrop (l : List α) : Nat → List α := List.rec (motive := fun _ => Nat → List α) (fun _ => []) (fun v tl ih o => bc (Nat.beq o 0) (v :: tl) (ih (Nat.sub o 1))) l
noncomputable def ltake (l : List α) : Nat → List α := List.rec (motive := fun _ => Nat → List α) (fun _ => []) (fun v _ ih o => bc (Nat.beq o 0) [] (v :: ih (Nat.sub o 1))) l
noncomputable def lapp (l m : List α) : List α := List.rec (motive := fun _ => List α) m (fun v _ ih => v :: ih) l
noncomputable def lall (f : α → Bool) (l : List α) : Bool := List.rec (motive := fun _ => Bool) true (fun v _ ih => bc (f v) ih false) l
/-- the second list's first values, over those of the first -/
noncomputable def lover (vs : List α) : List α → List α :=
  List.rec (motive := fun _ => List α → List α) (fun cs => cs) (fun v _ ih cs => List.rec (motive := fun _ => List α) [] (fun _ tl _ => v :: ih tl) cs) vs
noncomputable def lput (vs cs : List α) : Nat → List α :=
  List.rec (motive := fun _ => Nat → List α) (fun _ => []) (fun c tl ih o => bc (Nat.beq o 0) (lover vs (c :: tl)) (c :: ih (Nat.sub o 1))) cs
/-- whether two lists are equal, by a test -/
noncomputable def leq (f : α → α → Bool) (l : List α) : List α → Bool :=
  List.rec (motive := fun _ => List α → Bool) (fun m => List.rec (motive := fun _ => Bool) true (fun _ _ _ => false) m)
    (fun x _ ih m => List.rec (motive := fun _ => Bool) false (fun y tl _ => bc (f x y) (ih tl) false) m) l
end
noncomputable def u8eq (a b : UInt8) : Bool := Nat.beq a.toBitVec.toFin.val b.toBitVec.toFin.val
noncomputable def strF (op : BinOp) (a b : List UInt8) : Option AV := match op with
  | .eql => some (.bool (leq u8eq a b))
  | .neq => some (.bool (bnot (leq u8eq a b)))
  | op => binStr op a b

noncomputable def isSc (v : AV) : Bool := vAgg (fun _ => false) (fun _ => false) true v
noncomputable def vcells (v : AV) : List AV := vAgg (fun cs => cs) (fun _ => [v]) [v] v
end Go.Ab.Fa
