/-
  A FAST RUN, PART 3: text is made into functions once; these run.
-/
import Derived.Test.YtaiemlmlompmmaaGreatDoorAbFp
namespace Go.Ab.Fa

structure W (α : Type) where
  f : α
section
variable {α β T : Type}
noncomputable def wW (w : W α) (k : α → β) : β := W.rec (motive := fun _ => β) k w
noncomputable def wA (a : Acc T) (k : (T → AV) → β) : β := Acc.rec (motive := fun _ => β) k a
noncomputable def wU (a : Upd T) (k : (AV → T → T) → β) : β := Upd.rec (motive := fun _ => β) k a
end

structure Y where
  ds : List ADef
  rc : RC

inductive FO (T : Type) where
  | nrm (r : T) (h : Heap) (y : Y)
  | jmp (e : AEx) (r : T) (h : Heap) (y : Y)
  | bad

structure I (T : Type) where
  run : CallF → T → Heap → Y → FO T
structure C (T : Type) where
  run : Nat → CallF → T → Heap → Y → FO T

/-- what an operation is -/
inductive Kd (T : Type) where
  | tot (f : T → AV)
  | pur (f : T → Option AV)
  | red (f : T → Heap → Option AV)
  | alc (f : T → Option (AObj × (Nat → AV)))
  | wr (f : T → Heap → Option (AV × Heap))
  | call (g : Fn) (args : T → List AV)
  | eff (f : CallF → T → Heap → RC → EOut)
  | bad

section
variable (E : Env) (F : RF) (n : Nat)

/-! ### Operands -/
noncomputable def wT {β : Type} (i : Nat) (k : (F.T → AV) → β) : β := bc (Nat.ble n i) (k fun _ => AV.undef) (wA (F.get i) k)
noncomputable def wO {β : Type} (x : Operand) (k : (F.T → AV) → β) (d : β) : β := match x with
  | .tmp t => wT F n t k
  | .const v => match ofConst v with
    | some a => k fun _ => a
    | none => d
  | .global g => bc (Nat.ble E.G g) d (k fun _ => .ptr g 0)
  | .func f => k fun _ => .func f [] []
/-- a list of operands -/
noncomputable def wL {β : Type} (l : List Operand) (k : (F.T → List AV) → β) (d : β) : β := match l with
  | [] => k fun _ => []
  | x :: xs => wO E F n x (fun g => wL xs (fun gs => k fun r => g r :: gs r) d) d
noncomputable def wP {β : Type} (o : Option Operand) (k : Option (F.T → AV) → β) (d : β) : β := match o with
  | none => k none
  | some x => wO E F n x (fun g => k (some g)) d
noncomputable def wS {β : Type} (o : Option Tmp) (k : (AV → F.T → F.T) → β) : β := match o with
  | none => k fun _ r => r
  | some i => bc (Nat.ble n i) (k fun _ r => r) (wU (F.set i) k)

/-! ### Look-ups -/
noncomputable def szF (t : TypeId) : Option Nat := ob none (fun i => some i.size) (infoF E.P t)
noncomputable def byF (t : TypeId) : Option Nat := ob none (fun i => some i.bytes) (infoF E.P t)
noncomputable def zeF (t : TypeId) : Option AV := ob none (fun i => ob none (fun z => ofConst z) i.zero) (infoF E.P t)
noncomputable def agF (t : TypeId) : Option Bool := match undF E.P t with
  | some (.struct _) => some true
  | some (.array _ _) => some true
  | some _ => some false
  | none => none
noncomputable def fiF (t : TypeId) (f : Nat) : Option Field := match undF E.P t with
  | some (.struct fs) => lnth fs.toList f
  | _ => none

/-! ### Operations -/
variable {T : Type}
noncomputable def intW (op : BinOp) : W (IntKind → Int → Int → Option AV) := match op with
  | .add => ⟨fun k a b => some (.int k (kwrap k (iadd a b)))⟩
  | .sub => ⟨fun k a b => some (.int k (kwrap k (isub a b)))⟩
  | .mul => ⟨fun k a b => some (.int k (kwrap k (imul a b)))⟩
  | .eql => ⟨fun _ a b => some (.bool (ieq a b))⟩
  | .neq => ⟨fun _ a b => some (.bool (bnot (ieq a b)))⟩
  | .lss => ⟨fun _ a b => some (.bool (ilt a b))⟩
  | .leq => ⟨fun _ a b => some (.bool (bnot (ilt b a)))⟩
  | .gtr => ⟨fun _ a b => some (.bool (ilt b a))⟩
  | .geq => ⟨fun _ a b => some (.bool (bnot (ilt a b)))⟩
  | op => ⟨intF op⟩
noncomputable def strW (op : BinOp) : W (List UInt8 → List UInt8 → Option AV) := match op with
  | .eql => ⟨fun a b => some (.bool (leq u8eq a b))⟩
  | .neq => ⟨fun a b => some (.bool (bnot (leq u8eq a b)))⟩
  | op => ⟨binStr op⟩
noncomputable def bin2 (f : IntKind → Int → Int → Option AV) (g : List UInt8 → List UInt8 → Option AV) (slow : AV → AV → Option AV) (a b : AV) : Option AV :=
  vInt (fun k x => vInt (fun j y => bc (kbeq k j) (f k x y) none) none b) (vStr (fun s => vStr (fun t => g s t) none b) (slow a b) a) a
noncomputable def binK (op : BinOp) (slow : AV → AV → Option AV) (ga gb : T → AV) : Kd T := match op with
  | .shl => .pur fun r => vInt (fun k x => vInt (fun _ y => shlF k x y) none (gb r)) none (ga r)
  | .shr => .pur fun r => vInt (fun k x => vInt (fun _ y => shrF k x y) none (gb r)) none (ga r)
  | op => wW (intW op) fun f => wW (strW op) fun g => .pur fun r => bin2 f g slow (ga r) (gb r)
noncomputable def unK (op : UnOp) (ga : T → AV) : Kd T := match op with
  | .not => .pur fun r => vBool (fun b => some (.bool (bnot b))) none (ga r)
  | op => .pur fun r => unA op (ga r)
noncomputable def part1 (cs : List AV) (o : Nat) : Option AV := lnth cs o
noncomputable def partN (n : Nat) (cs : List AV) (o : Nat) : Option AV := bc (Nat.ble (Nat.add o n) (llen cs)) (some (.agg (ltake (ldrop cs o) n))) none
noncomputable def partW (t : TypeId) (k : (List AV → Nat → Option AV) → Kd T) : Kd T := match agF E t with
  | some true => match szF E t with
    | some n => k (partN n)
    | none => .bad
  | some false => k part1
  | none => .bad
noncomputable def loadF (p : List AV → Nat → Option AV) (h : Heap) (a : AV) : Option AV :=
  vPtr (fun i o => ob none (fun obj => oCells (fun cs _ _ => p cs o) none obj) (h.get i)) none a
noncomputable def storeF (n : Nat) (h : Heap) (a v : AV) : Option (AV × Heap) :=
  vPtr (fun i o => ob none (fun obj => oCells (fun cs e ro => bc ro none
    (bc (Nat.beq (llen (vcells v)) n) (bc (Nat.ble (Nat.add o n) (llen cs)) (bc (lall isSc (vcells v)) (some (AV.undef, h.put i (some (.cells (lput (vcells v) cs o) e false)))) none) none) none)) none obj) (h.get i)) none a
noncomputable def idxF (len size : Nat) (i o : Nat) (ix : AV) : Option AV :=
  vInt (fun _ n => iNat (fun m => bc (Nat.ble len m) none (some (.ptr i (Nat.add o (Nat.mul m size))))) none n) none ix
/-- a bound that may be left out -/
noncomputable def bndF (d y : Nat) (o : Option AV) (k : Nat → Option AV) : Option AV :=
  ob (k d) (fun v => vInt (fun _ i => iNat (fun m => bc (Nat.ble m y) (k m) none) none i) none v) o
noncomputable def slF (size : Nat) (lo hi : Option AV) (v : AV) : Option AV :=
  vSlice (bndF 0 0 hi fun h => bndF 0 h lo fun _ => some .nilslice)
    (fun i o len cap op => bc (Nat.ble len cap) (bndF len cap hi fun h => bndF 0 h lo fun l =>
      bc (Nat.beq cap l) (bc op (some .zslice) (some (.slice i o (Nat.sub h l) (Nat.sub cap l) false))) (some (.slice i (Nat.add o (Nat.mul l size)) (Nat.sub h l) (Nat.sub cap l) op))) none) none v
noncomputable def slS (lo hi : Option AV) (v : AV) : Option AV :=
  vStr (fun s => bndF (llen s) (llen s) hi fun h => bndF 0 h lo fun l => some (.str (ltake (ldrop s l) (Nat.sub h l)))) none v
noncomputable def slA (m size : Nat) (lo hi : Option AV) (v : AV) : Option AV :=
  vPtr (fun i o => bndF m m hi fun h => bndF 0 h lo fun l => some (.slice i (bc (Nat.beq m l) o (Nat.add o (Nat.mul l size))) (Nat.sub h l) (Nat.sub m l) false)) none v
noncomputable def evP (o : Option (T → AV)) (r : T) : Option AV := ob none (fun g => some (g r)) o

/-- append of a slice, a string or nothing -/
noncomputable def lenF (v : AV) : Option Nat := vSlice (some 0) (fun _ _ n _ _ => some n) (vStr (fun s => some (llen s)) (lenA v) v) v
noncomputable def firstF (h : Heap) (size n : Nat) (v : AV) : Option (List AV) :=
  vSlice (bc (Nat.beq n 0) (some []) none) (fun i o len _ _ => bc (Nat.ble n len) (ob none (fun obj => oCells (fun cs _ _ => bc (Nat.ble (Nat.add o (Nat.mul n size)) (llen cs)) (some (ltake (ldrop cs o) (Nat.mul n size))) none) none obj) (h.get i)) none)
    (firstA h size n v) v
noncomputable def appF (elem : TypeId) (size bytes : Nat) (h : Heap) (s x : AV) : Option (AV × Heap) :=
  ob none (fun n => ob none (fun new => bc (lall isSc new) (bc (Nat.beq (llen new) (Nat.mul n size))
    (vSlice
      (bc (Nat.beq n 0) (some (.nilslice, h)) (bc (Nat.ble (Nat.mul (Nat.add (Nat.mul 4 n) 4096) (Nat.add bytes 1)) 1099511627776)
        (ob none (fun h' => some (.slice h.nx 0 n n true, h')) (h.new (.cells new elem false))) none))
      (fun i o len cap op => ob none (fun obj => oCells (fun cs e ro => bc ro none
        (bc (Nat.ble (Nat.add len n) cap)
          (bc (Nat.ble (Nat.add o (Nat.mul (Nat.add len n) size)) (llen cs)) (some (.slice i o (Nat.add len n) cap op, h.put i (some (.cells (lput new cs (Nat.add o (Nat.mul len size))) e false)))) none)
          (bc (Nat.ble (Nat.mul (Nat.add (Nat.mul 4 (Nat.add len n)) 4096) (Nat.add bytes 1)) 1099511627776)
            (bc (Nat.ble (Nat.add o (Nat.mul len size)) (llen cs))
              (bc op
                (bc (Nat.beq e elem) (bc (Nat.beq (Nat.add o (Nat.mul cap size)) (llen cs))
                  (ob none (fun h' => some (.slice h.nx 0 (Nat.add len n) (Nat.add len n) true, h')) ((h.put i none).new (.cells (lapp (ltake (ldrop cs o) (Nat.mul len size)) new) elem false))) none) none)
                (ob none (fun h' => some (.slice h.nx 0 (Nat.add len n) (Nat.add len n) true, h')) (h.new (.cells (lapp (ltake (ldrop cs o) (Nat.mul len size)) new) elem false)))) none) none)))
        none obj) (h.get i))
      none s) none) none) (firstF h size n x)) (lenF x)
noncomputable def appK (argTypes : Array TypeId) (gs gx : T → AV) : Kd T := match lnth argTypes.toList 0, lnth argTypes.toList 1 with
  | some sT, some xT => match undF E.P sT, undF E.P xT with
    | some (.slice elem), some xd => if isIntD xd then .wr fun r h => appendMakeA E h elem (gs r) (gx r) else match szF E elem, byF E elem, zeF E elem with
      | some size, some bytes, some z => if z.cells.length = size then .wr fun r h => appF elem size bytes h (gs r) (gx r) else .bad
      | _, _, _ => .bad
    | _, _ => .bad
  | _, _ => .bad

/-- parts of a struct or an array -/
noncomputable def wPs {β : Type} (l : List (Nat × Operand)) (k : (F.T → List (Nat × AV)) → β) (d : β) : β := match l with
  | [] => k fun _ => []
  | (i, x) :: xs => wO E F n x (fun g => wPs xs (fun gs => k fun r => (i, g r) :: gs r) d) d
noncomputable def placesF (fs : List Field) : Option (List (Nat × Nat)) := List.rec (motive := fun _ => Option (List (Nat × Nat))) (some []) (fun f _ ih => ob none (fun n => ob none (fun l => some ((f.offset, n) :: l)) ih) (szF E f.type)) fs
noncomputable def fillF (ps : List (Nat × Nat)) (cs : List AV) (l : List (Nat × AV)) : Option (List AV) :=
  List.rec (motive := fun _ => List AV → Option (List AV)) (fun cs => some cs) (fun p _ ih cs => ob none (fun (q : Nat × Nat) => bc (Nat.beq (llen (vcells p.2)) q.2) (bc (Nat.ble (Nat.add q.1 q.2) (llen cs)) (ih (lput (vcells p.2) cs q.1)) none) none) (lnth ps p.1)) l cs
noncomputable def lrep (z : List AV) (m : Nat) : List AV := Nat.rec (motive := fun _ => List AV) [] (fun _ ih => lapp z ih) m
noncomputable def mkSl (elem : TypeId) (bytes : Nat) (z : List AV) (l c : AV) : Option (AObj × (Nat → AV)) :=
  vInt (fun _ len => vInt (fun _ cap => iNat (fun len => iNat (fun cap => bc (Nat.ble len cap) (bc (Nat.ble 1073741824 cap) none (bc (Nat.ble (Nat.mul bytes cap) 140737488355328)
    (some (.cells (lrep z cap) elem false, fun i => .slice i 0 len cap false)) none)) none) none cap) none len) none c) none l
/-- the entry of a text -/
noncomputable def findF (k : List UInt8) (l : List AEntry) : Option (Option AV) := List.rec (motive := fun _ => Option (Option AV)) (some none) (fun e _ ih => vStr (fun s => bc (leq u8eq k s) (some (some e.val)) ih) none e.key) l
noncomputable def oMap {R : Type} (f : List AEntry → R) (d : R) (o : AObj) : R :=
  AObj.rec (motive := fun _ => R) (fun _ _ _ => d) (fun es _ => f es) (fun _ _ => d) (fun _ _ _ _ => d) (fun _ _ _ _ _ _ _ => d) d o
noncomputable def vMap {R : Type} (e : R) (f : Nat → R) (d : R) (v : AV) : R :=
  AV.rec (motive_1 := fun _ => R) (motive_2 := fun _ => Unit) (fun _ => d) (fun _ _ => d) (fun _ => d) d (fun _ _ => d) d (fun _ _ _ _ _ => d) e (fun i => f i) (fun _ _ _ _ _ => d) (fun _ => d) d (fun _ _ _ => d) d (fun _ _ => d) (fun _ _ => d) d () (fun _ _ _ _ => ()) v
/-- how many entries a map has -/
noncomputable def mlenF (h : Heap) (m : AV) : Option AV :=
  vMap (some (.int .i64 (Int.ofNat 0))) (fun i => ob none (fun o => oMap (fun es => some (.int .i64 (Int.ofNat (llen es)))) none o) (h.get i)) none m
noncomputable def lookF (z : AV) (ok : Bool) (h : Heap) (m k : AV) : Option AV :=
  vStr (fun s => ob none (fun es => ob none (fun r => some (ob (bc ok (.tuple [z, .bool false]) z) (fun v => bc ok (.tuple [v, .bool true]) v) r)) (findF s es))
    (vMap (some []) (fun i => ob none (fun o => oMap (fun es => some es) none o) (h.get i)) none m)) none k

noncomputable def fromC (o : COut) : EOut := COut.rec (motive := fun _ => EOut) .val .panic .fail o

/-- the method of a type -/
noncomputable def methF (t : TypeId) (name : String) : Option FuncId := methodA E t name
noncomputable def callK (c : Call) (op : Op) : Kd F.T := match c.callee with
  | .invoke x name => wO E F n x (fun gx => wL E F n c.args.toList (fun gs => .eff fun call r h _ => vIface
      (fun t v => ob (.fail "" none) (fun f => fromC (call (.fn f) (v :: gs r) h)) (methF E t name)) (.fail "" none) (gx r)) .bad) .bad
  | .value (.func f) => wL E F n c.args.toList (fun gs => match E.pureExt f with
    | some e => .pur fun r => e (gs r)
    | none => match E.special f with
      | some g => .wr fun r h => g (gs r) h
      | none => .call (.fn f) gs) .bad
  | .value x => wO E F n x (fun gf => wL E F n c.args.toList (fun gs => .eff fun call r h _ => vFunc
      (fun g first captured => ob (fromC (call (.fn g) (lapp first (lapp (gs r) captured)) h)) (fun sp => ob (.fail "" none) (fun p => .val p.1 p.2) (sp (lapp first (lapp (gs r) captured)) h)) (E.special g))
      (fun l => fromC (call (.yld l) (gs r) h)) (.fail "" none) (gf r)) .bad) .bad
  | .builtin .len => match lnth c.argTypes.toList 0, c.args.toList with
    | some t, [x] => wO E F n x (fun g => match undF E.P t with
      | some .string => .pur fun r => vStr (fun s => some (.int .i64 (Int.ofNat (llen s)))) none (g r)
      | some (.array m _) => .pur fun _ => some (.int .i64 (Int.ofNat m))
      | some (.slice _) => .pur fun r => vSlice (some (.int .i64 (Int.ofNat 0))) (fun _ _ m _ _ => some (.int .i64 (Int.ofNat m))) (vZ (some (.int .i64 (Int.ofNat 0))) none (g r)) (g r)
      | some (.map _ _) => .red fun r h => mlenF h (g r)
      | _ => .bad) .bad
    | _, _ => .bad
  | .builtin .cap => match lnth c.argTypes.toList 0, c.args.toList with
    | some t, [x] => wO E F n x (fun g => match undF E.P t with
      | some (.slice _) => .pur fun r => vSlice (some (.int .i64 (Int.ofNat 0))) (fun _ _ _ c b => bc b none (some (.int .i64 (Int.ofNat c)))) none (g r)
      | _ => .bad) .bad
    | _, _ => .bad
  | .builtin .max => .pur fun r => pureA E (toL F n r) op
  | .builtin .min => .pur fun r => pureA E (toL F n r) op
  | .builtin .append => match c.args.toList with
    | [s, x] => wO E F n s (fun gs => wO E F n x (fun gx => appK E c.argTypes gs gx) .bad) .bad
    | _ => .bad
  | .builtin .copy => match c.args.toList with
    | [s, x] => wO E F n s (fun gs => wO E F n x (fun gx => .wr fun r h => copyA E h c.argTypes (gs r) (gx r)) .bad) .bad
    | _ => .bad
  | .builtin .recover => .eff fun _ _ h rc => match rc with
    | .pend x => .recov x
    | .bar _ => .fail "" none
    | _ => .val .nilIface h
  | _ => .bad

noncomputable def convK (src dst : TypeId) (g : T → AV) : Kd T := match undF E.P src, undF E.P dst with
  | some (.int _), some (.int k) => .pur fun r => vInt (fun _ n => some (.int k (kwrap k n))) none (g r)
  | some .string, some .string => .pur fun r => vStr (fun s => some (.str s)) none (g r)
  | some (.slice e), some .string => match undF E.P e with
    | some (.int .u8) => .red fun r h => vSlice (some (.str [])) (fun i o len _ _ => ob none (fun l => some (.str l)) (bytesAt h i o len)) none (g r)
    | _ => .bad
  | some .string, some (.slice _) => .wr fun r h => convA E h src dst (some (g r))
  | _, _ => .bad

/-- the kind of an operation -/
noncomputable def compK (op : Op) : Kd F.T := match op with
  | .move x => wO E F n x .tot .bad
  | .assign x => wO E F n x .tot .bad
  | .pick c a b => wO E F n c (fun gc => wO E F n a (fun ga => wO E F n b (fun gb => .pur fun r => vBool (fun t => bc t (some (ga r)) (some (gb r))) none (gc r)) .bad) .bad) .bad
  | .binOp op t x y _ => wO E F n x (fun gx => wO E F n y (fun gy => binK op (binA E op t (isConst x) (isConst y)) gx gy) .bad) .bad
  | .unOp op _ x => wO E F n x (unK op) .bad
  | .fieldAddr s x f => match fiF E s f with
    | some fd => match szF E fd.type with
      | some (_ + 1) => wO E F n x (fun g => .pur fun r => vPtr (fun i o => some (.ptr i (Nat.add o fd.offset))) none (g r)) .bad
      | _ => .bad
    | none => .bad
  | .load t a => wO E F n a (fun g => partW E t fun p => .red fun r h => loadF p h (g r)) .bad
  | .store t a x => match szF E t with
    | some m => wO E F n a (fun ga => wO E F n x (fun gx => .wr fun r h => storeF m h (ga r) (gx r)) .bad) .bad
    | none => .bad
  | .nilCheck x => wO E F n x (fun g => .pur fun r => bc (vNilOK (g r)) (some (g r)) none) .bad
  | .extract x i => wO E F n x (fun g => .pur fun r => vAgg (fun _ => none) (fun vs => lnth vs i) none (g r)) .bad
  | .field s x f => match fiF E s f with
    | some fd => wO E F n x (fun g => partW E fd.type fun p => .pur fun r => vAgg (fun cs => p cs fd.offset) (fun _ => none) none (g r)) .bad
    | none => .bad
  | .indexAddr t x ix => wO E F n x (fun gx => wO E F n ix (fun gi => match undF E.P t with
    | some (.array len elem) => match szF E elem with
      | some size => .pur fun r => vPtr (fun i o => idxF len size i o (gi r)) none (gx r)
      | none => .bad
    | some (.slice elem) => match szF E elem with
      | some size => .pur fun r => vSlice none (fun i o len _ _ => idxF len size i o (gi r)) none (gx r)
      | none => .bad
    | _ => .bad) .bad) .bad
  | .index t x ix => wO E F n x (fun gx => wO E F n ix (fun gi => match undF E.P t with
    | some .string => .pur fun r => vStr (fun s => vInt (fun _ i => iNat (fun m => ob none (fun (b : UInt8) => some (.int .u8 (Int.ofNat b.toNat))) (lnth s m)) none i) none (gi r)) none (gx r)
    | _ => .pur fun r => pureA E (toL F n r) op) .bad) .bad
  | .slice t x lo hi none => wO E F n x (fun gx => wP E F n lo (fun gl => wP E F n hi (fun gh => match undF E.P t with
    | some (.slice elem) => match szF E elem with
      | some size => .pur fun r => slF size (evP gl r) (evP gh r) (gx r)
      | none => .bad
    | some .string => .pur fun r => slS (evP gl r) (evP gh r) (gx r)
    | some (.array m elem) => match szF E elem with
      | some size => .pur fun r => slA m size (evP gl r) (evP gh r) (gx r)
      | none => .bad
    | _ => .pur fun r => pureA E (toL F n r) op) .bad) .bad) .bad
  | .convert src dst x => wO E F n x (convK E src dst) .bad
  | .makeInterface t x => match undF E.P t with
    | some (.interface _) => .bad
    | some _ => wO E F n x (fun g => .tot fun r => .iface t (g r)) .bad
    | none => .bad
  | .makeFunc (.func f) first captured => wL E F n first.toList (fun ga => wL E F n captured.toList (fun gb => .tot fun r => .func f (ga r) (gb r)) .bad) .bad
  | .alloc t => match zeF E t with
    | some z => .alc fun _ => some (.cells z.cells t false, fun i => .ptr i 0)
    | none => .bad
  | .box t x => wO E F n x (fun g => .alc fun r => some (.cells (vcells (g r)) t false, fun i => .ptr i 0)) .bad
  | .buildSlice t len parts => match undF E.P t with
    | some (.slice elem) => match szF E elem, zeF E elem with
      | some m, some z => if z.cells.length = m ∧ len * m ≤ 2 ^ 24 then wPs E F n parts.toList (fun gp => .alc fun r => ob none (fun cs => some (.cells cs elem false, fun i => .slice i 0 len len false)) (fillA (fun i => some (i * m, m)) (repCells z.cells len) (gp r))) .bad else .bad
      | _, _ => .bad
    | _ => .bad
  | .makeSlice t l c => wO E F n l (fun gl => wO E F n c (fun gc => match undF E.P t with
    | some (.slice elem) => match szF E elem, byF E elem, zeF E elem with
      | some m, some bytes, some z => if z.cells.length = m then .alc fun r => mkSl elem bytes z.cells (gl r) (gc r) else .bad
      | _, _, _ => .bad
    | _ => .bad) .bad) .bad
  | .makeMap _ none => .alc fun _ => some (.map [] 0, fun i => .map i)
  | .makeMap .. | .range .. => .alc fun r => allocA E (toL F n r) op
  | .lookup t x ix ok => wO E F n x (fun gx => wO E F n ix (fun gi => match undF E.P t with
    | some (.map key elem) => match undF E.P key, zeF E elem with
      | some .string, some z => .red fun r h => lookF z ok h (gx r) (gi r)
      | _, _ => .red fun r h => readA E (toL F n r) h op
    | _ => .bad) .bad) .bad
  | .build t parts => match zeF E t, undF E.P t with
    | some z, some (.struct fs) => match placesF E fs.toList with
      | some ps => wPs E F n parts.toList (fun gp => .pur fun r => ob none (fun cs => some (.agg cs)) (fillF ps (vcells z) (gp r))) .bad
      | none => .bad
    | _, _ => .pur fun r => pureA E (toL F n r) op
  | .slice .. | .typeAssert .. => .pur fun r => pureA E (toL F n r) op
  | .mapUpdate t m k x => wO E F n m (fun gm => wO E F n k (fun gk => wO E F n x (fun gx => .wr fun r h => ob none (fun h' => some (AV.undef, h')) (mapUpdateA E h t (gm r) (gk r) (gx r))) .bad) .bad) .bad
  | .insert t m k x => wO E F n m (fun gm => wO E F n k (fun gk => wO E F n x (fun gx => .wr fun r h => ob none (fun h' => some (AV.undef, h')) (mapUpdateA E h t (gm r) (gk r) (gx r))) .bad) .bad) .bad
  | .next it s => wO E F n it (fun g => .wr fun r h => nextA h (g r) s) .bad
  | .panic x => wO E F n x (fun g => .eff fun _ r h _ => vIface (fun t w => .panic (.iface t w) h) (.fail "" none) (g r)) .bad
  | .defer c => .eff fun _ r _ rc => match rc, callee E (toL F n r) c with
    | .bar _, _ => .fail "" none
    | _, some (.fn f, args) => .defer (.call f args)
    | _, _ => .fail "" none
  | .call c => callK E F n c op
  | _ => .bad

/-! ### Regions -/
noncomputable def seqK (kd : Kd T) (s : AV → T → T) (j : I T) : I T := match kd with
  | .tot g => ⟨fun call r h y => j.run call (s (g r) r) h y⟩
  | .pur f => ⟨fun call r h y => ob .bad (fun v => j.run call (s v r) h y) (f r)⟩
  | .red f => ⟨fun call r h y => ob .bad (fun v => j.run call (s v r) h y) (f r h)⟩
  | .alc f => ⟨fun call r h y => ob .bad (fun p => ob .bad (fun h' => j.run call (s (p.2 h.nx) r) h' y) (h.new p.1)) (f r)⟩
  | .wr f => ⟨fun call r h y => ob .bad (fun p => j.run call (s p.1 r) p.2 y) (f r h)⟩
  | .call g args => ⟨fun call r h y => COut.rec (motive := fun _ => FO T) (fun v h' => j.run call (s v r) h' y) (fun v h' => .jmp (.panic v) r h' y) (fun _ _ => .bad) (call g (args r) h)⟩
  | .eff f => ⟨fun call r h y => EOut.rec (motive := fun _ => FO T) (fun v h' => j.run call (s v r) h' y) (fun d => j.run call (s AV.undef r) h ⟨d :: y.ds, y.rc⟩) (fun v => j.run call (s v r) h ⟨y.ds, .done⟩)
      (fun v h' => .jmp (.panic v) r h' y) (fun _ _ => .bad) (f call r h y.rc)⟩
  | .bad => ⟨fun _ _ _ _ => .bad⟩
noncomputable def skipK (s : AV → T → T) (j : I T) : I T := ⟨fun call r h y => j.run call (s AV.undef r) h y⟩
noncomputable def guardK (g : T → AV) (want : Bool) (a b : I T) : I T := match want with
  | true => ⟨fun call r h y => vBool (fun t => bc t (a.run call r h y) (b.run call r h y)) (b.run call r h y) (g r)⟩
  | false => ⟨fun call r h y => vBool (fun t => bc t (b.run call r h y) (a.run call r h y)) (b.run call r h y) (g r)⟩
noncomputable def wantK (ops : Array Oper) (o : Oper) (a b : I F.T) : I F.T := match o.guard with
  | none => a
  | some (j, want) => match ob none (fun p => p.dst) (lnth ops.toList j) with
    | some d => bc (Nat.ble n d) b (wA (F.get d) fun g => guardK g want a b)
    | none => b
noncomputable def compO (ops : Array Oper) (o : Oper) (j : I F.T) : I F.T := wS F n o.dst fun s => wantK F n ops o (seqK (compK E F n o.op) s j) (skipK s j)
noncomputable def compOps (ops : Array Oper) (l : List Oper) : I F.T := List.rec (motive := fun _ => I F.T) ⟨fun _ r h y => .nrm r h y⟩ (fun o _ j => compO E F n ops o j) l

/-! ### Regions that draw their order -/
/-- sameness of what has no parts; else the slow test -/
noncomputable def same1 (slow : AV → AV → Bool) (x y : AV) : Bool :=
  vInt (fun k a => vInt (fun j b => bc (kbeq k j) (ieq a b) false) false y)
    (vStr (fun s => vStr (fun t => leq u8eq s t) false y)
      (vPtr (fun i o => vPtr (fun j p => bc (Nat.beq i j) (Nat.beq o p) false) false y)
        (vBool (fun a => vBool (fun b => bc a b (bnot b)) false y) (slow x y) x) x) x) x
noncomputable def sameF (m : Nat) : AV → AV → Bool := Nat.rec (motive := fun _ => AV → AV → Bool) (fun _ _ => false)
  (fun i ih x y => same1 (fun x y => vAgg (fun a => vAgg (fun b => leq ih a b) (fun _ => false) false y) (fun _ => AV.same (i + 1) x y) (AV.same (i + 1) x y) x) x y) m

structure Chk where
  k : Nat
  m : Nat
  made : Option Nat
  f : Heap → Bool
inductive DO (T : Type) where
  | ok (tr : List Chk) (hs : List Heap) (r : T) (h : Heap) (y : Y)
  | bad
structure D (T : Type) where
  run : CallF → T → Heap → Y → DO T
noncomputable def dstep (x : Chk) (d : DO T) : DO T := DO.rec (motive := fun _ => DO T) (fun tr hs r h y => .ok (x :: tr) hs r h y) .bad d
noncomputable def dbound (h0 : Heap) (d : DO T) : DO T := DO.rec (motive := fun _ => DO T) (fun tr hs r h y => .ok tr (h0 :: hs) r h y) .bad d
noncomputable def dseqE (kd : Kd T) (s : AV → T → T) (j : D T) : D T := match kd with
  | .wr f => ⟨fun call r h y => ob .bad (fun p => dbound h (j.run call (s p.1 r) p.2 y)) (f r h)⟩
  | .call g args => ⟨fun call r h y => COut.rec (motive := fun _ => DO T) (fun v h' => dbound h (j.run call (s v r) h' y)) (fun _ _ => .bad) (fun _ _ => .bad) (call g (args r) h)⟩
  | .eff f => ⟨fun call r h y => EOut.rec (motive := fun _ => DO T) (fun v h' => dbound h (j.run call (s v r) h' y)) (fun _ => .bad) (fun _ => .bad) (fun _ _ => .bad) (fun _ _ => .bad) (f call r h y.rc)⟩
  | _ => ⟨fun _ _ _ _ => .bad⟩
noncomputable def dseqN (k m : Nat) (kd : Kd T) (s : AV → T → T) (j : D T) : D T := match kd with
  | .tot g => ⟨fun call r h y => j.run call (s (g r) r) h y⟩
  | .pur f => ⟨fun call r h y => ob .bad (fun v => j.run call (s v r) h y) (f r)⟩
  | .red f => ⟨fun call r h y => ob .bad (fun v => dstep ⟨k, m, none, fun h' => ob false (fun v' => sameF 20 v' v) (f r h')⟩ (j.run call (s v r) h y)) (f r h)⟩
  | .alc f => ⟨fun call r h y => ob .bad (fun p => ob .bad (fun h' => dstep ⟨k, m, some h.nx, fun h'' => ob false (fun o => AObj.same o p.1) (h''.get h.nx)⟩ (j.run call (s (p.2 h.nx) r) h' y)) (h.new p.1)) (f r)⟩
  | _ => ⟨fun _ _ _ _ => .bad⟩
noncomputable def dskip (s : AV → T → T) (j : D T) : D T := ⟨fun call r h y => j.run call (s AV.undef r) h y⟩
noncomputable def dskipE (s : AV → T → T) (j : D T) : D T := ⟨fun call r h y => dbound h (j.run call (s AV.undef r) h y)⟩
noncomputable def dguard (g : T → AV) (want : Bool) (a b : D T) : D T := match want with
  | true => ⟨fun call r h y => vBool (fun t => bc t (a.run call r h y) (b.run call r h y)) (b.run call r h y) (g r)⟩
  | false => ⟨fun call r h y => vBool (fun t => bc t (b.run call r h y) (a.run call r h y)) (b.run call r h y) (g r)⟩
noncomputable def dwant (ops : Array Oper) (o : Oper) (a b : D F.T) : D F.T := match o.guard with
  | none => a
  | some (j, want) => match ob none (fun p => p.dst) (lnth ops.toList j) with
    | some d => bc (Nat.ble n d) b (wA (F.get d) fun g => dguard g want a b)
    | none => b
noncomputable def compD (ops : Array Oper) (pl : Plan) (l : List Nat) : Nat → D F.T := List.rec (motive := fun _ => Nat → D F.T) (fun _ => ⟨fun _ r h y => .ok [] [h] r h y⟩)
  (fun i _ ih k => ob ⟨fun _ _ _ _ => .bad⟩ (fun o => wS F n o.dst fun s =>
      bc (effBF E o.op) (canon (Nat.add k 1) fun k' => dwant F n ops o (dseqE (compK E F n o.op) s (ih k')) (dskipE s (ih k')))
        (canon (Nat.sub (Nat.add (latestF pl.effs pl.an i) 1) k) fun m => dwant F n ops o (dseqN k m (compK E F n o.op) s (ih k)) (dskip s (ih k)))) (lnth ops.toList i)) l
noncomputable def madeF (tr : List Chk) : List Nat := List.rec (motive := fun _ => List Nat) [] (fun x _ ih => ob ih (fun i => i :: ih) x.made) tr
noncomputable def lastlyF (tr : List Chk) (hs : List Heap) : Bool := bc (nodupF (madeF tr)) (lall (fun x => lall x.f (ltake (ldrop hs x.k) x.m)) tr) false
/-- a region that draws its order, and whose last operation is a call that panics -/
noncomputable def panF (ops : Array Oper) (pl : Plan) (call : CallF) (r : F.T) (h : Heap) (y : Y) : FO F.T := match pl.order.reverse with
  | [] => .bad
  | i :: front => match (compD E F n ops pl front.reverse 0).run call r h y, ops[i]? with
    | .ok tr hs r1 h1 y1, some ⟨dst, .call c, ty, pos, after, guard⟩ =>
      match effB E (.call c) && wantedA ops (toL F n r1) ⟨dst, .call c, ty, pos, after, guard⟩ && (List.range ops.size).all (fun j => j == i || isAnc pl.an i j),
          effA E call (toL F n r1) h1 y1.rc ⟨dst, .call c, ty, pos, after, guard⟩ with
      | true, .panic v h' => match lastlyF tr (hs ++ [h']) with
        | true => .jmp (.panic v) r1 h' y1
        | false => .bad
      | _, _ => .bad
    | _, _ => .bad
noncomputable def drawK (ops : Array Oper) : I F.T := planK E ops (fun pl =>
  ⟨fun call r h y => DO.rec (motive := fun _ => FO F.T) (fun tr hs r' h' y' => bc (lastlyF tr hs) (.nrm r' h' y') .bad) (panF E F n ops pl call r h y) ((compD E F n ops pl pl.order 0).run call r h y)⟩) ⟨fun _ _ _ _ => .bad⟩

/-! ### Text -/
def ofOut (r : T) (o : Out) : FO T := match o with
  | .ok .normal s => .nrm r s.h ⟨s.ds, s.rc⟩
  | .ok e s => .jmp e r s.h ⟨s.ds, s.rc⟩
  | .fail _ _ => .bad
noncomputable def rangeK (f : Operand) (ps : Array Tmp) (as bd : Code) : I F.T :=
  wO E F n f (fun _ => ⟨fun call r h y => ofOut r (rangeA E call f ps as bd ⟨toL F n r, h, y.ds, y.rc⟩)⟩) ⟨fun _ _ _ _ => .bad⟩
noncomputable def nS {R : Type} (d : R) (k : Nat → R) (m : Nat) : R := Nat.rec (motive := fun _ => R) d (fun i _ => k i) m
noncomputable def fo {R : Type} (a : T → Heap → Y → R) (b : AEx → T → Heap → Y → R) (d : R) (o : FO T) : R := FO.rec (motive := fun _ => R) a b d o
noncomputable def exitId {R : Type} (f : Nat → R) (d : R) (e : AEx) : R := AEx.rec (motive := fun _ => R) d f d (fun _ => d) e
noncomputable def loopR (b : C T) (m : Nat) : CallF → T → Heap → Y → FO T :=
  Nat.rec (motive := fun _ => CallF → T → Heap → Y → FO T) (fun _ _ _ _ => .bad) (fun i ih call r h y => fo (fun r' h' y' => ih call r' h' y') .jmp .bad (b.run i call r h y)) m
noncomputable def regK (i : I T) : C T := ⟨fun m call r h y => nS .bad (fun _ => i.run call r h y) m⟩
noncomputable def compC (c : Code) : C F.T := Code.rec (motive := fun _ => C F.T)
  ⟨fun m _ r h y => nS .bad (fun _ => .nrm r h y) m⟩ -- skip
  (fun _ ops draw => bc draw (regK (drawK E F n ops)) (regK (compOps E F n ops ops.toList)))
  (fun _ _ a b => ⟨fun m call r h y => nS .bad (fun i => fo (fun r' h' y' => b.run i call r' h' y') .jmp .bad (a.run i call r h y)) m⟩)
  (fun x _ _ a b => wO E F n x (fun g => ⟨fun m call r h y => nS .bad (fun i => vBool (fun t => bc t (a.run i call r h y) (b.run i call r h y)) .bad (g r)) m⟩) ⟨fun _ _ _ _ _ => .bad⟩)
  (fun id _ b => ⟨fun m call r h y => nS .bad (fun i => fo .nrm (fun e r' h' y' => exitId (fun j => bc (Nat.beq j id) (.nrm r' h' y') (.jmp e r' h' y')) (.jmp e r' h' y') e) .bad (b.run i call r h y)) m⟩)
  (fun _ b => ⟨fun m call r h y => loopR b m call r h y⟩)
  (fun f ps as bd _ _ => regK (rangeK E F n f ps as bd))
  (fun id => ⟨fun m _ r h y => nS .bad (fun _ => .jmp (.exit id) r h y) m⟩)
  (fun _ _ => ⟨fun _ _ _ _ _ => .bad⟩)
  (fun _ => ⟨fun m _ r h y => nS .bad (fun _ => .nrm r h y) m⟩)
  (fun _ => ⟨fun _ _ _ _ _ => .bad⟩)
  ⟨fun m _ r h y => nS .bad (fun _ => .jmp .ret r h y) m⟩
  (fun _ => ⟨fun _ _ _ _ _ => .bad⟩) c
end

/-! ### Functions -/
section
variable (E : Env)
inductive BO where
  | fin (res : Heap → Option (List AV)) (h : Heap) (y : Y)
  | pan (v : AV) (res : Heap → Option (List AV)) (h : Heap) (y : Y)
  | bad
structure CF where
  run : Nat → CallF → List AV → Heap → RC → BO
noncomputable def resK (F : RF) (n : Nat) : List ResultVar → W (F.T → Heap → Option (List AV))
  | [] => ⟨fun _ _ => some []⟩
  | .tmp t :: rest => wT F n t fun g => wW (resK F n rest) fun k => ⟨fun r h => ob none (fun vs => some (g r :: vs)) (k r h)⟩
  | .cell a t :: rest => wT F n a fun g => wW (resK F n rest) fun k => ⟨fun r h => ob none (fun v => ob none (fun vs => some (v :: vs)) (k r h)) (loadA E h t (g r))⟩
noncomputable def bodyK (F : RF) (n : Nat) (fn : Func) (b : Code) : CF :=
  wW (resK E F n fn.results.toList) fun res => ⟨fun fuel call args h rc => bc (Nat.ble (llen args) n)
    (fo (fun r h' y => .fin (res r) h' y) (fun e r h' y => AEx.rec (motive := fun _ => BO) .bad (fun _ => .bad) (.fin (res r) h' y) (fun v => .pan v (res r) h' y) e) .bad
      ((compC E F n b).run fuel call (ofL F args F.z 0) h ⟨[], rc⟩)) .bad⟩
noncomputable def compF (f : FuncId) : CF := match funF E.P f with
  | none => ⟨fun _ _ _ _ _ => .bad⟩
  | some fn => match fn.body with
    | none => ⟨fun _ _ _ _ _ => .bad⟩
    | some b => bc (Nat.ble fn.ntmps 64) (bodyK E rf2 fn.ntmps fn b) (bc (Nat.ble fn.ntmps 512) (bodyK E rf3 fn.ntmps fn b) ⟨fun _ _ _ _ _ => .bad⟩)
noncomputable def bo {R : Type} (a : (Heap → Option (List AV)) → Heap → Y → R) (b : AV → (Heap → Option (List AV)) → Heap → Y → R) (d : R) (o : BO) : R := BO.rec (motive := fun _ => R) a b d o
noncomputable def execK (F : RF) (call : CallF) (fuel : Nat) (c : Code) (s : St) : Out :=
  fo (fun r h y => .ok .normal ⟨toL F s.ts.length r, h, y.ds, y.rc⟩) (fun e r h y => .ok e ⟨toL F s.ts.length r, h, y.ds, y.rc⟩) (.fail "" none) ((compC E F s.ts.length c).run fuel call (ofL F s.ts F.z 0) s.h ⟨s.ds, s.rc⟩)
noncomputable def execL (call : CallF) (fuel : Nat) (c : Code) (s : St) : Out :=
  bc (Nat.ble s.ts.length 64) (execK E rf2 call fuel c s) (bc (Nat.ble s.ts.length 512) (execK E rf3 call fuel c s) (.fail "" none))
noncomputable def roundK (call : CallF) (fuel : Nat) (l : Nat) (args : List AV) (h : Heap) : COut := match h.get l with
  | some (.loop _ _ ts ps as bd _) => if args.length = ps.length then
      match execL E call fuel as { ts := (ps.zip args).foldl (fun ts x => ts.set x.1 x.2) ts, h, ds := [], rc := .bar l } with
      | .ok .normal s1 => match s1.h.get l with
        | some (.loop .ready pd ts2 ps2 as2 bd2 dn2) =>
          match execL E call fuel bd { s1 with h := s1.h.put l (some (.loop .busy pd ts2 ps2 as2 bd2 dn2)) } with
          | .ok .normal s2 => endA l none s2
          | .ok .ret s2 => endA l (some .ret) s2
          | .ok (.exit id) s2 => endA l (some (.exit id)) s2
          | .ok (.panic v) s2 => if s2.ds.isEmpty then .panic v s2.h else .fail "round defers" none
          | .fail why q => .fail why q
        | _ => .fail "round state" none
      | .ok _ _ => .fail "round assign" none
      | .fail why q => .fail why q
    else .fail "round args" none
  | _ => .fail "round" none
noncomputable def callD (call : CallF) (fuel : Nat) (g : FuncId) (as : List AV) (h : Heap) (rc : RC) : Option (Heap × RC) :=
  bo (fun res h' y => bc y.ds.isEmpty (ob none (fun _ => some (h', y.rc)) (res h')) none) (fun _ _ _ _ => none) none ((compF E g).run fuel call as h rc)
noncomputable def finK (call : CallF) (fuel : Nat) (p : Option AV) (res : Heap → Option (List AV)) (h : Heap) (ds : List ADef) : COut := match unwindA (callD E call fuel) ds p h with
  | none => .fail "unwind" none
  | some (some v, h') => .panic v h'
  | some (none, h') => ob (.fail "results" none) (fun vs => .ret (tupled vs) h') (res h')
noncomputable def fFn {R : Type} (a : FuncId → R) (b : Nat → R) (f : Fn) : R := Fn.rec (motive := fun _ => R) a b f
noncomputable def lcase {α R : Type} (a b : R) (l : List α) : R := List.rec (motive := fun _ => R) a (fun _ _ _ => b) l
noncomputable def callS (fuel : Nat) (call : CallF) (g : Fn) (args : List AV) (h : Heap) : COut :=
  fFn (fun f => bo (fun res h' y => lcase (ob (.fail "results" none) (fun vs => .ret (tupled vs) h') (res h')) (finK E call fuel none res h' y.ds) y.ds)
      (fun v res h' y => lcase (.panic v h') (finK E call fuel (some v) res h' y.ds) y.ds) (.fail "body" none) ((compF E f).run fuel call args h .no))
    (fun l => roundK E call fuel l args h) g
noncomputable def callC (d fuel : Nat) : CallF := Nat.rec (motive := fun _ => CallF) (fun _ _ _ => .fail "depth" none) (fun _ ih => callS E fuel ih) d
end
end Go.Ab.Fa
