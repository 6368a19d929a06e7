import Derived.Test.YtogcojohajankaaGreatA4
import Derived.Test.YtogcojohajankaaGreatA0
set_option linter.unusedVariables false
set_option linter.unusedSimpArgs false
section
namespace Go.Ab.Fa
structure W (α:Type) where
 f:α
section
variable {α β T:Type}
noncomputable def wW (w:W α) (k:α→β):β:=W.rec (motive:=fun _=>β) k w
noncomputable def wA (a:Acc T) (k:(T→AV)→β):β:=Acc.rec (motive:=fun _=>β) k a
noncomputable def wU (a:Upd T) (k:(AV→T→T)→β):β:=Upd.rec (motive:=fun _=>β) k a
end
structure Y where
 ds:List sX
 rc:RC
inductive FO (T:Type) where
 | MS (r:T) (h:aw) (y:Y)
 | jmp (e:lY) (r:T) (h:aw) (y:Y)
 | bad
structure I (T:Type) where
 run:bm→T→aw→Y→FO T
structure C (T:Type) where
 run:Nat→bm→T→aw→Y→FO T
inductive Kd (T:Type) where
 | L7 (f:T→AV)
 | iJ (f:T→Option AV)
 | red (f:T→aw→Option AV)
 | vi (f:T→Option (aH×(Nat→AV)))
 | wr (f:T→aw→Option (AV×aw))
 | call (g:Fn) (args:T→List AV)
 | xw (f:bm→T→aw→RC→BE)
 | bad
section
variable (E:Env) (F:RF) (n:Nat)
noncomputable def wT {β:Type} (i:Nat) (k:(F.T→AV)→β):β:=bc (Nat.ble n i) (k fun _=>AV.undef) (wA (F.get i) k)
noncomputable def wO {β:Type} (x:Operand) (k:(F.T→AV)→β) (d:β):β:=match x with
 | .tmp t=>wT F n t k
 | .const v=>match ofConst v with
   | some a=>k fun _=>a
   | none=>d
 | .global g=>bc (Nat.ble E.G g) d (k fun _=> .ptr g 0)
 | .func f=>k fun _=> .func f [] []
noncomputable def wL {β:Type} (l:List Operand) (k:(F.T→List AV)→β) (d:β):β:=match l with
 | []=>k fun _=> []
 | x::xs=>wO E F n x (fun g=>wL xs (fun gs=>k fun r=>g r::gs r) d) d
noncomputable def wP {β:Type} (o:Option Operand) (k:Option (F.T→AV)→β) (d:β):β:=match o with
 | none=>k none
 | some x=>wO E F n x (fun g=>k (some g)) d
noncomputable def wS {β:Type} (o:Option Tmp) (k:(AV→F.T→F.T)→β):β:=match o with
 | none=>k fun _ r=>r
 | some i=>bc (Nat.ble n i) (k fun _ r=>r) (wU (F.set i) k)
noncomputable def zH (t:TypeId):Option Nat:=ob none (fun i=>some i.size) (CX E.P t)
noncomputable def byF (t:TypeId):Option Nat:=ob none (fun i=>some i.bytes) (CX E.P t)
noncomputable def OY (t:TypeId):Option AV:=ob none (fun i=>ob none (fun z=>ofConst z) i.zero) (CX E.P t)
noncomputable def agF (t:TypeId):Option Bool:=match lx E.P t with
 | some (.struct _)=>some true
 | some (.array _ _)=>some true
 | some _=>some false
 | none=>none
noncomputable def fiF (t:TypeId) (f:Nat):Option Field:=match lx E.P t with
 | some (.struct fs)=>j8 fs.toList f
 | _=>none
variable {T:Type}
noncomputable def Wd (op:BinOp):W (IntKind→Int→Int→Option AV):=match op with
 | .add=>⟨fun k a b=>some (.int k (xS k (rn a b)))⟩
 | .sub=>⟨fun k a b=>some (.int k (xS k (vz a b)))⟩
 | .mul=>⟨fun k a b=>some (.int k (xS k (V7 a b)))⟩
 | .eql=>⟨fun _ a b=>some (.bool (ieq a b))⟩
 | .neq=>⟨fun _ a b=>some (.bool (yI (ieq a b)))⟩
 | .lss=>⟨fun _ a b=>some (.bool (ilt a b))⟩
 | .leq=>⟨fun _ a b=>some (.bool (yI (ilt b a)))⟩
 | .gtr=>⟨fun _ a b=>some (.bool (ilt b a))⟩
 | .geq=>⟨fun _ a b=>some (.bool (yI (ilt a b)))⟩
 | op=>⟨aau op⟩
noncomputable def TB (op:BinOp):W (List UInt8→List UInt8→Option AV):=match op with
 | .eql=>⟨fun a b=>some (.bool (leq E0 a b))⟩
 | .neq=>⟨fun a b=>some (.bool (yI (leq E0 a b)))⟩
 | op=>⟨yq op⟩
noncomputable def aaA (f:IntKind→Int→Int→Option AV) (g:List UInt8→List UInt8→Option AV) (B4:AV→AV→Option AV) (a b:AV):Option AV:=
 p_ (fun k x=>p_ (fun j y=>bc (V5 k j) (f k x y) none) none b) (tg (fun s=>tg (fun t=>g s t) none b) (B4 a b) a) a
noncomputable def hD (op:BinOp) (B4:AV→AV→Option AV) (ga gb:T→AV):Kd T:=match op with
 | .shl=> .iJ fun r=>p_ (fun k x=>p_ (fun _ y=>ahc k x y) none (gb r)) none (ga r)
 | .shr=> .iJ fun r=>p_ (fun k x=>p_ (fun _ y=>ahd k x y) none (gb r)) none (ga r)
 | op=>wW (Wd op) fun f=>wW (TB op) fun g=> .iJ fun r=>aaA f g B4 (ga r) (gb r)
noncomputable def unK (op:UnOp) (ga:T→AV):Kd T:=match op with
 | .not=> .iJ fun r=>kP (fun b=>some (.bool (yI b))) none (ga r)
 | op=> .iJ fun r=>unA op (ga r)
noncomputable def Wf (cs:List AV) (o:Nat):Option AV:=j8 cs o
noncomputable def Wg (n:Nat) (cs:List AV) (o:Nat):Option AV:=bc (Nat.ble (Nat.add o n) (j7 cs)) (some (.agg (vB (vA cs o) n))) none
noncomputable def Ac (t:TypeId) (k:(List AV→Nat→Option AV)→Kd T):Kd T:=match agF E t with
 | some true=>match zH E t with
   | some n=>k (Wg n)
   | none=> .bad
 | some false=>k Wf
 | none=> .bad
noncomputable def MT (p:List AV→Nat→Option AV) (h:aw) (a:AV):Option AV:=
 BX (fun i o=>ob none (fun obj=>BZ (fun cs _ _=>p cs o) none obj) (h.get i)) none a
noncomputable def E5 (n:Nat) (h:aw) (a v:AV):Option (AV×aw):=
 BX (fun i o=>ob none (fun obj=>BZ (fun cs e ro=>bc ro none
  (bc (Nat.beq (j7 (mW v)) n) (bc (Nat.ble (Nat.add o n) (j7 cs)) (bc (B0 aav (mW v)) (some (AV.undef,h.put i (some (.cells (MK (mW v) cs o) e false)))) none) none) none)) none obj) (h.get i)) none a
noncomputable def Kf (len size:Nat) (i o:Nat) (ix:AV):Option AV:=
 p_ (fun _ n=>mu (fun m=>bc (Nat.ble len m) none (some (.ptr i (Nat.add o (Nat.mul m size))))) none n) none ix
noncomputable def Kg (d y:Nat) (o:Option AV) (k:Nat→Option AV):Option AV:=
 ob (k d) (fun v=>p_ (fun _ i=>mu (fun m=>bc (Nat.ble m y) (k m) none) none i) none v) o
noncomputable def slF (size:Nat) (lo hi:Option AV) (v:AV):Option AV:=
 kQ (Kg 0 0 hi fun h=>Kg 0 h lo fun _=>some .aD)
  (fun i o len cap op=>bc (Nat.ble len cap) (Kg len cap hi fun h=>Kg 0 h lo fun l=>
   bc (Nat.beq cap l) (bc op (some .fm) (some (.slice i o (Nat.sub h l) (Nat.sub cap l) false))) (some (.slice i (Nat.add o (Nat.mul l size)) (Nat.sub h l) (Nat.sub cap l) op))) none) none v
noncomputable def slS (lo hi:Option AV) (v:AV):Option AV:=
 tg (fun s=>Kg (j7 s) (j7 s) hi fun h=>Kg 0 h lo fun l=>some (.str (vB (vA s l) (Nat.sub h l)))) none v
noncomputable def slA (m size:Nat) (lo hi:Option AV) (v:AV):Option AV:=
 BX (fun i o=>Kg m m hi fun h=>Kg 0 h lo fun l=>some (.slice i (bc (Nat.beq m l) o (Nat.add o (Nat.mul l size))) (Nat.sub h l) (Nat.sub m l) false)) none v
noncomputable def HF (o:Option (T→AV)) (r:T):Option AV:=ob none (fun g=>some (g r)) o
noncomputable def ahe (v:AV):Option Nat:=kQ (some 0) (fun _ _ n _ _=>some n) (tg (fun s=>some (j7 s)) (qF v) v) v
noncomputable def Wh (h:aw) (size n:Nat) (v:AV):Option (List AV):=
 kQ (bc (Nat.beq n 0) (some []) none) (fun i o len _ _=>bc (Nat.ble n len) (ob none (fun obj=>BZ (fun cs _ _=>bc (Nat.ble (Nat.add o (Nat.mul n size)) (j7 cs)) (some (vB (vA cs o) (Nat.mul n size))) none) none obj) (h.get i)) none)
  (fF h size n v) v
noncomputable def ahf (elem:TypeId) (size bytes:Nat) (h:aw) (s x:AV):Option (AV×aw):=
 ob none (fun n=>ob none (fun new=>bc (B0 aav new) (bc (Nat.beq (j7 new) (Nat.mul n size))
  (kQ
   (bc (Nat.beq n 0) (some (.aD,h)) (bc (Nat.ble (Nat.mul (Nat.add (Nat.mul 4 n) 4096) (Nat.add bytes 1)) 1099511627776)
    (ob none (fun h'=>some (.slice h.nx 0 n n true,h')) (h.new (.cells new elem false))) none))
   (fun i o len cap op=>ob none (fun obj=>BZ (fun cs e ro=>bc ro none
    (bc (Nat.ble (Nat.add len n) cap)
     (bc (Nat.ble (Nat.add o (Nat.mul (Nat.add len n) size)) (j7 cs)) (some (.slice i o (Nat.add len n) cap op,h.put i (some (.cells (MK new cs (Nat.add o (Nat.mul len size))) e false)))) none)
     (bc (Nat.ble (Nat.mul (Nat.add (Nat.mul 4 (Nat.add len n)) 4096) (Nat.add bytes 1)) 1099511627776)
      (bc (Nat.ble (Nat.add o (Nat.mul len size)) (j7 cs))
       (bc op
        (bc (Nat.beq e elem) (bc (Nat.beq (Nat.add o (Nat.mul cap size)) (j7 cs))
         (ob none (fun h'=>some (.slice h.nx 0 (Nat.add len n) (Nat.add len n) true,h')) ((h.put i none).new (.cells (mN (vB (vA cs o) (Nat.mul len size)) new) elem false))) none) none)
        (ob none (fun h'=>some (.slice h.nx 0 (Nat.add len n) (Nat.add len n) true,h')) (h.new (.cells (mN (vB (vA cs o) (Nat.mul len size)) new) elem false)))) none) none)))
    none obj) (h.get i))
   none s) none) none) (Wh h size n x)) (ahe x)
noncomputable def Wi (argTypes:Array TypeId) (gs gx:T→AV):Kd T:=match j8 argTypes.toList 0,j8 argTypes.toList 1 with
 | some sT,some xT=>match lx E.P sT,lx E.P xT with
   | some (.slice elem),some xd=>if oZ xd then .wr fun r h=>vg E h elem (gs r) (gx r) else match zH E elem,byF E elem,OY E elem with
     | some size,some bytes,some z=>if z.cells.length=size then .wr fun r h=>ahf elem size bytes h (gs r) (gx r) else .bad
     | _,_,_=> .bad
   | _,_=> .bad
 | _,_=> .bad
noncomputable def wPs {β:Type} (l:List (Nat×Operand)) (k:(F.T→List (Nat×AV))→β) (d:β):β:=match l with
 | []=>k fun _=> []
 | (i,x)::xs=>wO E F n x (fun g=>wPs xs (fun gs=>k fun r=>(i,g r)::gs r) d) d
noncomputable def D' (fs:List Field):Option (List (Nat×Nat)):=List.rec (motive:=fun _=>Option (List (Nat×Nat))) (some []) (fun f _ ih=>ob none (fun n=>ob none (fun l=>some ((f.offset,n)::l)) ih) (zH E f.type)) fs
noncomputable def MU (ps:List (Nat×Nat)) (cs:List AV) (l:List (Nat×AV)):Option (List AV):=
 List.rec (motive:=fun _=>List AV→Option (List AV)) (fun cs=>some cs) (fun p _ ih cs=>ob none (fun (q:Nat×Nat)=>bc (Nat.beq (j7 (mW p.2)) q.2) (bc (Nat.ble (Nat.add q.1 q.2) (j7 cs)) (ih (MK (mW p.2) cs q.1)) none) none) (j8 ps p.1)) l cs
noncomputable def aeg (z:List AV) (m:Nat):List AV:=Nat.rec (motive:=fun _=>List AV) [] (fun _ ih=>mN z ih) m
noncomputable def aaB (elem:TypeId) (bytes:Nat) (z:List AV) (l c:AV):Option (aH×(Nat→AV)):=
 p_ (fun _ len=>p_ (fun _ cap=>mu (fun len=>mu (fun cap=>bc (Nat.ble len cap) (bc (Nat.ble 1073741824 cap) none (bc (Nat.ble (Nat.mul bytes cap) 140737488355328)
  (some (.cells (aeg z cap) elem false,fun i=> .slice i 0 len cap false)) none)) none) none cap) none len) none c) none l
noncomputable def findF (k:List UInt8) (l:List mn):Option (Option AV):=List.rec (motive:=fun _=>Option (Option AV)) (some none) (fun e _ ih=>tg (fun s=>bc (leq E0 k s) (some (some e.val)) ih) none e.key) l
noncomputable def aaC {R:Type} (f:List mn→R) (d:R) (o:aH):R:=
 aH.rec (motive:=fun _=>R) (fun _ _ _=>d) (fun es _=>f es) (fun _ _=>d) (fun _ _ _ _=>d) (fun _ _ _ _ _ _ _=>d) d o
noncomputable def ahg {R:Type} (e:R) (f:Nat→R) (d:R) (v:AV):R:=
 AV.rec (motive_1:=fun _=>R) (motive_2:=fun _=>Unit) (fun _=>d) (fun _ _=>d) (fun _=>d) d (fun _ _=>d) d (fun _ _ _ _ _=>d) e (fun i=>f i) (fun _ _ _ _ _=>d) (fun _=>d) d (fun _ _ _=>d) d (fun _ _=>d) (fun _ _=>d) d d () (fun _ _ _ _=>()) v
noncomputable def Ry (h:aw) (m:AV):Option AV:=
 ahg (some (.int .i64 (Int.ofNat 0))) (fun i=>ob none (fun o=>aaC (fun es=>some (.int .i64 (Int.ofNat (j7 es)))) none o) (h.get i)) none m
noncomputable def Rz (z:AV) (ok:Bool) (h:aw) (m k:AV):Option AV:=
 tg (fun s=>ob none (fun es=>ob none (fun r=>some (ob (bc ok (.tuple [z,.bool false]) z) (fun v=>bc ok (.tuple [v,.bool true]) v) r)) (findF s es))
  (ahg (some []) (fun i=>ob none (fun o=>aaC (fun es=>some es) none o) (h.get i)) none m)) none k
noncomputable def oB (o:ko):BE:=ko.rec (motive:=fun _=>BE) .val .panic .fail o
noncomputable def MV (t:TypeId) (name:String):Option FuncId:=zK E t name
noncomputable def ac8 (c:Call) (op:Op):Kd F.T:=match c.callee with
 | .invoke x name=>wO E F n x (fun gx=>wL E F n c.args.toList (fun gs=> .xw fun call r h _=>th
  (fun t v=>ob (.fail "" none) (fun f=>oB (call (.fn f) (v::gs r) h)) (MV E t name)) (.fail "" none) (gx r)) .bad) .bad
 | .value (.func f)=>wL E F n c.args.toList (fun gs=>match E.n9 f with
   | some e=> .iJ fun r=>e (gs r)
   | none=>match E.jS f with
     | some g=> .wr fun r h=>g (gs r) h
     | none=> .call (.fn f) gs) .bad
 | .value x=>wO E F n x (fun gf=>wL E F n c.args.toList (fun gs=> .xw fun call r h _=>Rv
  (fun g first captured=>ob (oB (call (.fn g) (mN first (mN (gs r) captured)) h)) (fun sp=>ob (.fail "" none) (fun p=> .val p.1 p.2) (sp (mN first (mN (gs r) captured)) h)) (E.jS g))
  (fun l=>oB (call (.CJ l) (gs r) h)) (.fail "" none) (gf r)) .bad) .bad
 | .builtin .len=>match j8 c.argTypes.toList 0,c.args.toList with
   | some t,[x]=>wO E F n x (fun g=>match lx E.P t with
     | some .string=> .iJ fun r=>tg (fun s=>some (.int .i64 (Int.ofNat (j7 s)))) none (g r)
     | some (.array m _)=> .iJ fun _=>some (.int .i64 (Int.ofNat m))
     | some (.slice _)=> .iJ fun r=>kQ (some (.int .i64 (Int.ofNat 0))) (fun _ _ m _ _=>some (.int .i64 (Int.ofNat m))) (vZ (some (.int .i64 (Int.ofNat 0))) none (g r)) (g r)
     | some (.map _ _)=> .red fun r h=>Ry h (g r)
     | _=> .bad) .bad
   | _,_=> .bad
 | .builtin .cap=>match j8 c.argTypes.toList 0,c.args.toList with
   | some t,[x]=>wO E F n x (fun g=>match lx E.P t with
     | some (.slice _)=> .iJ fun r=>kQ (some (.int .i64 (Int.ofNat 0))) (fun _ _ _ c b=>bc b none (some (.int .i64 (Int.ofNat c)))) none (g r)
     | _=> .bad) .bad
   | _,_=> .bad
 | .builtin .max=> .iJ fun r=>bx E (gn F n r) op
 | .builtin .min=> .iJ fun r=>bx E (gn F n r) op
 | .builtin .append=>match c.args.toList with
   | [s,x]=>wO E F n s (fun gs=>wO E F n x (fun gx=>Wi E c.argTypes gs gx) .bad) .bad
   | _=> .bad
 | .builtin .copy=>match c.args.toList with
   | [s,x]=>wO E F n s (fun gs=>wO E F n x (fun gx=> .wr fun r h=>uv E h c.argTypes (gs r) (gx r)) .bad) .bad
   | _=> .bad
 | .builtin .recover=> .xw fun _ _ h rc=>match rc with
   | .j5 x=> .uw x
   | .L4 _=> .fail "" none
   | _=> .val .nilIface h
 | _=> .bad
noncomputable def RA (src dst:TypeId) (g:T→AV):Kd T:=match lx E.P src,lx E.P dst with
 | some (.int _),some (.int k)=> .iJ fun r=>p_ (fun _ n=>some (.int k (xS k n))) none (g r)
 | some .string,some .string=> .iJ fun r=>tg (fun s=>some (.str s)) none (g r)
 | some (.slice e),some .string=>match lx E.P e with
   | some (.int .u8)=> .red fun r h=>kQ (some (.str [])) (fun i o len _ _=>ob none (fun l=>some (.str l)) (JI h i o len)) none (g r)
   | _=> .bad
 | some .string,some (.slice _)=> .wr fun r h=>Ir E h src dst (some (g r))
 | _,_=> .bad
noncomputable def xU (op:Op):Kd F.T:=match op with
 | .move x=>wO E F n x .L7 .bad
 | .assign x=>wO E F n x .L7 .bad
 | .pick c a b=>wO E F n c (fun gc=>wO E F n a (fun ga=>wO E F n b (fun gb=> .iJ fun r=>kP (fun t=>bc t (some (ga r)) (some (gb r))) none (gc r)) .bad) .bad) .bad
 | .binOp op t x y _=>wO E F n x (fun gx=>wO E F n y (fun gy=>hD op (nC E op t (isConst x) (isConst y)) gx gy) .bad) .bad
 | .unOp op _ x=>wO E F n x (unK op) .bad
 | .fieldAddr s x f=>match fiF E s f with
   | some fd=>match zH E fd.type with
     | some (_+1)=>wO E F n x (fun g=> .iJ fun r=>BX (fun i o=>some (.ptr i (Nat.add o fd.offset))) none (g r)) .bad
     | _=> .bad
   | none=> .bad
 | .load t a=>wO E F n a (fun g=>Ac E t fun p=> .red fun r h=>MT p h (g r)) .bad
 | .store t a x=>match zH E t with
   | some m=>wO E F n a (fun ga=>wO E F n x (fun gx=> .wr fun r h=>E5 m h (ga r) (gx r)) .bad) .bad
   | none=> .bad
 | .nilCheck x=>wO E F n x (fun g=> .iJ fun r=>bc (J8 (g r)) (some (g r)) none) .bad
 | .extract x i=>wO E F n x (fun g=> .iJ fun r=>BY (fun _=>none) (fun vs=>j8 vs i) none (g r)) .bad
 | .field s x f=>match fiF E s f with
   | some fd=>wO E F n x (fun g=>Ac E fd.type fun p=> .iJ fun r=>BY (fun cs=>p cs fd.offset) (fun _=>none) none (g r)) .bad
   | none=> .bad
 | .indexAddr t x ix=>wO E F n x (fun gx=>wO E F n ix (fun gi=>match lx E.P t with
   | some (.array len elem)=>match zH E elem with
     | some size=> .iJ fun r=>BX (fun i o=>Kf len size i o (gi r)) none (gx r)
     | none=> .bad
   | some (.slice elem)=>match zH E elem with
     | some size=> .iJ fun r=>kQ none (fun i o len _ _=>Kf len size i o (gi r)) none (gx r)
     | none=> .bad
   | _=> .bad) .bad) .bad
 | .index t x ix=>wO E F n x (fun gx=>wO E F n ix (fun gi=>match lx E.P t with
   | some .string=> .iJ fun r=>tg (fun s=>p_ (fun _ i=>mu (fun m=>ob none (fun (b:UInt8)=>some (.int .u8 (Int.ofNat b.toNat))) (j8 s m)) none i) none (gi r)) none (gx r)
   | _=> .iJ fun r=>bx E (gn F n r) op) .bad) .bad
 | .slice t x lo hi none=>wO E F n x (fun gx=>wP E F n lo (fun gl=>wP E F n hi (fun gh=>match lx E.P t with
   | some (.slice elem)=>match zH E elem with
     | some size=> .iJ fun r=>slF size (HF gl r) (HF gh r) (gx r)
     | none=> .bad
   | some .string=> .iJ fun r=>slS (HF gl r) (HF gh r) (gx r)
   | some (.array m elem)=>match zH E elem with
     | some size=> .iJ fun r=>slA m size (HF gl r) (HF gh r) (gx r)
     | none=> .bad
   | _=> .iJ fun r=>bx E (gn F n r) op) .bad) .bad) .bad
 | .convert src dst x=>wO E F n x (RA E src dst) .bad
 | .makeInterface t x=>match lx E.P t with
   | some (.interface _)=> .bad
   | some _=>wO E F n x (fun g=> .L7 fun r=> .iface t (g r)) .bad
   | none=> .bad
 | .makeFunc (.func f) first captured=>wL E F n first.toList (fun ga=>wL E F n captured.toList (fun gb=> .L7 fun r=> .func f (ga r) (gb r)) .bad) .bad
 | .alloc t=>match OY E t with
   | some z=> .vi fun _=>some (.cells z.cells t false,fun i=> .ptr i 0)
   | none=> .bad
 | .box t x=>wO E F n x (fun g=> .vi fun r=>some (.cells (mW (g r)) t false,fun i=> .ptr i 0)) .bad
 | .buildSlice t len parts=>match lx E.P t with
   | some (.slice elem)=>match zH E elem,OY E elem with
     | some m,some z=>if z.cells.length=m∧len*m≤2^24 then wPs E F n parts.toList (fun gp=> .vi fun r=>ob none (fun cs=>some (.cells cs elem false,fun i=> .slice i 0 len len false)) (pO (fun i=>some (i*m,m)) (bP z.cells len) (gp r))) .bad else .bad
     | _,_=> .bad
   | _=> .bad
 | .makeSlice t l c=>wO E F n l (fun gl=>wO E F n c (fun gc=>match lx E.P t with
   | some (.slice elem)=>match zH E elem,byF E elem,OY E elem with
     | some m,some bytes,some z=>if z.cells.length=m then .vi fun r=>aaB elem bytes z.cells (gl r) (gc r) else .bad
     | _,_,_=> .bad
   | _=> .bad) .bad) .bad
 | .makeMap _ none=> .vi fun _=>some (.map [] 0,fun i=> .map i)
 | .makeMap .. | .range .. => .vi fun r=>fp E (gn F n r) op
 | .lookup t x ix ok=>wO E F n x (fun gx=>wO E F n ix (fun gi=>match lx E.P t with
   | some (.map key elem)=>match lx E.P key,OY E elem with
     | some .string,some z=> .red fun r h=>Rz z ok h (gx r) (gi r)
     | _,_=> .red fun r h=>fb E (gn F n r) h op
   | _=> .bad) .bad) .bad
 | .build t parts=>match OY E t,lx E.P t with
   | some z,some (.struct fs)=>match D' E fs.toList with
     | some ps=>wPs E F n parts.toList (fun gp=> .iJ fun r=>ob none (fun cs=>some (.agg cs)) (MU ps (mW z) (gp r))) .bad
     | none=> .bad
   | _,_=> .iJ fun r=>bx E (gn F n r) op
 | .slice .. | .typeAssert .. => .iJ fun r=>bx E (gn F n r) op
 | .mapUpdate t m k x=>wO E F n m (fun gm=>wO E F n k (fun gk=>wO E F n x (fun gx=> .wr fun r h=>ob none (fun h'=>some (AV.undef,h')) (fM E h t (gm r) (gk r) (gx r))) .bad) .bad) .bad
 | .insert t m k x=>wO E F n m (fun gm=>wO E F n k (fun gk=>wO E F n x (fun gx=> .wr fun r h=>ob none (fun h'=>some (AV.undef,h')) (fM E h t (gm r) (gk r) (gx r))) .bad) .bad) .bad
 | .next it s=>wO E F n it (fun g=> .wr fun r h=>Iq h (g r) s) .bad
 | .panic x=>wO E F n x (fun g=> .xw fun _ r h _=>th (fun t w=> .panic (.iface t w) h) (.fail "" none) (g r)) .bad
 | .defer c=> .xw fun _ r _ rc=>match rc,callee E (gn F n r) c with
   | .L4 _,_=> .fail "" none
   | _,some (.fn f,args)=> .defer (.call f args)
   | _,_=> .fail "" none
 | .call c=>ac8 E F n c op
 | _=> .bad
noncomputable def PA (kd:Kd T) (s:AV→T→T) (j:I T):I T:=match kd with
 | .L7 g=>⟨fun call r h y=>j.run call (s (g r) r) h y⟩
 | .iJ f=>⟨fun call r h y=>ob .bad (fun v=>j.run call (s v r) h y) (f r)⟩
 | .red f=>⟨fun call r h y=>ob .bad (fun v=>j.run call (s v r) h y) (f r h)⟩
 | .vi f=>⟨fun call r h y=>ob .bad (fun p=>ob .bad (fun h'=>j.run call (s (p.2 h.nx) r) h' y) (h.new p.1)) (f r)⟩
 | .wr f=>⟨fun call r h y=>ob .bad (fun p=>j.run call (s p.1 r) p.2 y) (f r h)⟩
 | .call g args=>⟨fun call r h y=>ko.rec (motive:=fun _=>FO T) (fun v h'=>j.run call (s v r) h' y) (fun v h'=> .jmp (.panic v) r h' y) (fun _ _=> .bad) (call g (args r) h)⟩
 | .xw f=>⟨fun call r h y=>BE.rec (motive:=fun _=>FO T) (fun v h'=>j.run call (s v r) h' y) (fun d=>j.run call (s AV.undef r) h ⟨d::y.ds,y.rc⟩) (fun v=>j.run call (s v r) h ⟨y.ds,.done⟩)
  (fun v h'=> .jmp (.panic v) r h' y) (fun _ _=> .bad) (f call r h y.rc)⟩
 | .bad=>⟨fun _ _ _ _=> .bad⟩
noncomputable def ac9 (s:AV→T→T) (j:I T):I T:=⟨fun call r h y=>j.run call (s AV.undef r) h y⟩
noncomputable def PB (g:T→AV) (want:Bool) (a b:I T):I T:=match want with
 | true=>⟨fun call r h y=>kP (fun t=>bc t (a.run call r h y) (b.run call r h y)) (b.run call r h y) (g r)⟩
 | false=>⟨fun call r h y=>kP (fun t=>bc t (b.run call r h y) (a.run call r h y)) (b.run call r h y) (g r)⟩
noncomputable def RB (ops:Array Oper) (o:Oper) (a b:I F.T):I F.T:=match o.guard with
 | none=>a
 | some (j,want)=>match ob none (fun p=>p.dst) (j8 ops.toList j) with
   | some d=>bc (Nat.ble n d) b (wA (F.get d) fun g=>PB g want a b)
   | none=>b
noncomputable def Wj (ops:Array Oper) (o:Oper) (j:I F.T):I F.T:=wS F n o.dst fun s=>RB F n ops o (PA (xU E F n o.op) s j) (ac9 s j)
noncomputable def w_ (ops:Array Oper) (l:List Oper):I F.T:=List.rec (motive:=fun _=>I F.T) ⟨fun _ r h y=> .MS r h y⟩ (fun o _ j=>Wj E F n ops o j) l
noncomputable def ahh (B4:AV→AV→Bool) (x y:AV):Bool:=
 p_ (fun k a=>p_ (fun j b=>bc (V5 k j) (ieq a b) false) false y)
  (tg (fun s=>tg (fun t=>leq E0 s t) false y)
   (BX (fun i o=>BX (fun j p=>bc (Nat.beq i j) (Nat.beq o p) false) false y)
    (kP (fun a=>kP (fun b=>bc a b (yI b)) false y) (B4 x y) x) x) x) x
noncomputable def E6 (m:Nat):AV→AV→Bool:=Nat.rec (motive:=fun _=>AV→AV→Bool) (fun _ _=>false)
 (fun i ih x y=>ahh (fun x y=>BY (fun a=>BY (fun b=>leq ih a b) (fun _=>false) false y) (fun _=>AV.same (i+1) x y) (AV.same (i+1) x y) x) x y) m
structure TC where
 k:Nat
 m:Nat
 made:Option Nat
 f:aw→Bool
inductive DO (T:Type) where
 | ok (tr:List TC) (hs:List aw) (r:T) (h:aw) (y:Y)
 | bad
structure D (T:Type) where
 run:bm→T→aw→Y→DO T
noncomputable def IL (x:TC) (d:DO T):DO T:=DO.rec (motive:=fun _=>DO T) (fun tr hs r h y=> .ok (x::tr) hs r h y) .bad d
noncomputable def tj (h0:aw) (d:DO T):DO T:=DO.rec (motive:=fun _=>DO T) (fun tr hs r h y=> .ok tr (h0::hs) r h y) .bad d
noncomputable def RD (kd:Kd T) (s:AV→T→T) (j:D T):D T:=match kd with
 | .wr f=>⟨fun call r h y=>ob .bad (fun p=>tj h (j.run call (s p.1 r) p.2 y)) (f r h)⟩
 | .call g args=>⟨fun call r h y=>ko.rec (motive:=fun _=>DO T) (fun v h'=>tj h (j.run call (s v r) h' y)) (fun _ _=> .bad) (fun _ _=> .bad) (call g (args r) h)⟩
 | .xw f=>⟨fun call r h y=>BE.rec (motive:=fun _=>DO T) (fun v h'=>tj h (j.run call (s v r) h' y)) (fun _=> .bad) (fun _=> .bad) (fun _ _=> .bad) (fun _ _=> .bad) (f call r h y.rc)⟩
 | _=>⟨fun _ _ _ _=> .bad⟩
noncomputable def RE (k m:Nat) (kd:Kd T) (s:AV→T→T) (j:D T):D T:=match kd with
 | .L7 g=>⟨fun call r h y=>j.run call (s (g r) r) h y⟩
 | .iJ f=>⟨fun call r h y=>ob .bad (fun v=>j.run call (s v r) h y) (f r)⟩
 | .red f=>⟨fun call r h y=>ob .bad (fun v=>IL ⟨k,m,none,fun h'=>ob false (fun v'=>E6 20 v' v) (f r h')⟩ (j.run call (s v r) h y)) (f r h)⟩
 | .vi f=>⟨fun call r h y=>ob .bad (fun p=>ob .bad (fun h'=>IL ⟨k,m,some h.nx,fun RG=>ob false (fun o=>aH.same o p.1) (RG.get h.nx)⟩ (j.run call (s (p.2 h.nx) r) h' y)) (h.new p.1)) (f r)⟩
 | _=>⟨fun _ _ _ _=> .bad⟩
noncomputable def Wk (s:AV→T→T) (j:D T):D T:=⟨fun call r h y=>j.run call (s AV.undef r) h y⟩
noncomputable def PC (s:AV→T→T) (j:D T):D T:=⟨fun call r h y=>tj h (j.run call (s AV.undef r) h y)⟩
noncomputable def Wl (g:T→AV) (want:Bool) (a b:D T):D T:=match want with
 | true=>⟨fun call r h y=>kP (fun t=>bc t (a.run call r h y) (b.run call r h y)) (b.run call r h y) (g r)⟩
 | false=>⟨fun call r h y=>kP (fun t=>bc t (b.run call r h y) (a.run call r h y)) (b.run call r h y) (g r)⟩
noncomputable def CY (ops:Array Oper) (o:Oper) (a b:D F.T):D F.T:=match o.guard with
 | none=>a
 | some (j,want)=>match ob none (fun p=>p.dst) (j8 ops.toList j) with
   | some d=>bc (Nat.ble n d) b (wA (F.get d) fun g=>Wl g want a b)
   | none=>b
noncomputable def kC (ops:Array Oper) (pl:nL) (l:List Nat):Nat→D F.T:=List.rec (motive:=fun _=>Nat→D F.T) (fun _=>⟨fun _ r h y=> .ok [] [h] r h y⟩)
 (fun i _ ih k=>ob ⟨fun _ _ _ _=> .bad⟩ (fun o=>wS F n o.dst fun s=>
  bc (rW E o.op) (canon (Nat.add k 1) fun k'=>CY F n ops o (RD (xU E F n o.op) s (ih k')) (PC s (ih k')))
   (canon (Nat.sub (Nat.add (D_ pl.bT pl.an i) 1) k) fun m=>CY F n ops o (RE k m (xU E F n o.op) s (ih k)) (Wk s (ih k)))) (j8 ops.toList i)) l
noncomputable def RH (tr:List TC):List Nat:=List.rec (motive:=fun _=>List Nat) [] (fun x _ ih=>ob ih (fun i=>i::ih) x.made) tr
noncomputable def tp (tr:List TC) (hs:List aw):Bool:=bc (Ke (RH tr)) (B0 (fun x=>B0 x.f (vB (vA hs x.k) x.m)) tr) false
noncomputable def aaD (ops:Array Oper) (pl:nL) (call:bm) (r:F.T) (h:aw) (y:Y):FO F.T:=match pl.order.reverse with
 | []=> .bad
 | i::front=>match (kC E F n ops pl front.reverse 0).run call r h y,ops[i]? with
   | .ok tr hs r1 h1 y1,some ⟨dst,.call c,ty,pos,after,guard⟩=>
     match gP E (.call c)&&cO ops (gn F n r1) ⟨dst,.call c,ty,pos,after,guard⟩&&(List.range ops.size).all (fun j=>j==i||eM pl.an i j),
      dL E call (gn F n r1) h1 y1.rc ⟨dst,.call c,ty,pos,after,guard⟩ with
     | true,.panic v h'=>match tp tr (hs++[h']) with
       | true=> .jmp (.panic v) r1 h' y1
       | false=> .bad
     | _,_=> .bad
   | _,_=> .bad
noncomputable def RI (ops:Array Oper):I F.T:=Wb E ops (fun pl=>
 ⟨fun call r h y=>DO.rec (motive:=fun _=>FO F.T) (fun tr hs r' h' y'=>bc (tp tr hs) (.MS r' h' y') .bad) (aaD E F n ops pl call r h y) ((kC E F n ops pl pl.order 0).run call r h y)⟩) ⟨fun _ _ _ _=> .bad⟩
def ada (r:T) (o:Out):FO T:=match o with
 | .ok .normal s=> .MS r s.h ⟨s.ds,s.rc⟩
 | .ok e s=> .jmp e r s.h ⟨s.ds,s.rc⟩
 | .fail _ _=> .bad
noncomputable def Kh (f:Operand) (ps:Array Tmp) (as bd:Code):I F.T:=
 wO E F n f (fun _=>⟨fun call r h y=>ada r (o5 E call f ps as bd ⟨gn F n r,h,y.ds,y.rc⟩)⟩) ⟨fun _ _ _ _=> .bad⟩
noncomputable def nS {R:Type} (d:R) (k:Nat→R) (m:Nat):R:=Nat.rec (motive:=fun _=>R) d (fun i _=>k i) m
noncomputable def fo {R:Type} (a:T→aw→Y→R) (b:lY→T→aw→Y→R) (d:R) (o:FO T):R:=FO.rec (motive:=fun _=>R) a b d o
noncomputable def Wm {R:Type} (f:Nat→R) (d:R) (e:lY):R:=lY.rec (motive:=fun _=>R) d f d (fun _=>d) e
noncomputable def Wn (b:C T) (m:Nat):bm→T→aw→Y→FO T:=
 Nat.rec (motive:=fun _=>bm→T→aw→Y→FO T) (fun _ _ _ _=> .bad) (fun i ih call r h y=>fo (fun r' h' y'=>ih call r' h' y') .jmp .bad (b.run i call r h y)) m
noncomputable def aaE (i:I T):C T:=⟨fun m call r h y=>nS .bad (fun _=>i.run call r h y) m⟩
noncomputable def oC (c:Code):C F.T:=Code.rec (motive:=fun _=>C F.T)
 ⟨fun m _ r h y=>nS .bad (fun _=> .MS r h y) m⟩
 (fun _ ops draw=>bc draw (aaE (RI E F n ops)) (aaE (w_ E F n ops ops.toList)))
 (fun _ _ a b=>⟨fun m call r h y=>nS .bad (fun i=>fo (fun r' h' y'=>b.run i call r' h' y') .jmp .bad (a.run i call r h y)) m⟩)
 (fun x _ _ a b=>wO E F n x (fun g=>⟨fun m call r h y=>nS .bad (fun i=>kP (fun t=>bc t (a.run i call r h y) (b.run i call r h y)) .bad (g r)) m⟩) ⟨fun _ _ _ _ _=> .bad⟩)
 (fun id _ b=>⟨fun m call r h y=>nS .bad (fun i=>fo .MS (fun e r' h' y'=>Wm (fun j=>bc (Nat.beq j id) (.MS r' h' y') (.jmp e r' h' y')) (.jmp e r' h' y') e) .bad (b.run i call r h y)) m⟩)
 (fun _ b=>⟨fun m call r h y=>Wn b m call r h y⟩)
 (fun f ps as bd _ _=>aaE (Kh E F n f ps as bd))
 (fun id=>⟨fun m _ r h y=>nS .bad (fun _=> .jmp (.exit id) r h y) m⟩)
 (fun _ b=>⟨fun m call r h y=>nS .bad (fun i=>b.run i call r h y) m⟩)
 (fun _=>⟨fun m _ r h y=>nS .bad (fun _=> .MS r h y) m⟩)
 (fun _=>⟨fun _ _ _ _ _=> .bad⟩)
 ⟨fun m _ r h y=>nS .bad (fun _=> .jmp .ret r h y) m⟩
 (fun _=>⟨fun _ _ _ _ _=> .bad⟩) c
end
section
variable (E:Env)
inductive BO where
 | fin (res:aw→Option (List AV)) (h:aw) (y:Y)
 | pan (v:AV) (res:aw→Option (List AV)) (h:aw) (y:Y)
 | bad
structure CF where
 run:Nat→bm→List AV→aw→RC→BO
noncomputable def B5 (F:RF) (n:Nat):List ResultVar→W (F.T→aw→Option (List AV))
 | []=>⟨fun _ _=>some []⟩
 | .tmp t::rest=>wT F n t fun g=>wW (B5 F n rest) fun k=>⟨fun r h=>ob none (fun vs=>some (g r::vs)) (k r h)⟩
 | .cell a t::rest=>wT F n a fun g=>wW (B5 F n rest) fun k=>⟨fun r h=>ob none (fun v=>ob none (fun vs=>some (v::vs)) (k r h)) (aY E h t (g r))⟩
noncomputable def Wo (F:RF) (n:Nat) (fn:Func) (b:Code):CF:=
 wW (B5 E F n fn.results.toList) fun res=>⟨fun fuel call args h rc=>bc (Nat.ble (j7 args) n)
  (fo (fun r h' y=> .fin (res r) h' y) (fun e r h' y=>lY.rec (motive:=fun _=>BO) .bad (fun _=> .bad) (.fin (res r) h' y) (fun v=> .pan v (res r) h' y) e) .bad
   ((oC E F n b).run fuel call (U8 F args F.z 0) h ⟨[],rc⟩)) .bad⟩
noncomputable def CZ (f:FuncId):CF:=match aec E.P f with
 | none=>⟨fun _ _ _ _ _=> .bad⟩
 | some fn=>match fn.body with
   | none=>⟨fun _ _ _ _ _=> .bad⟩
   | some b=>bc (Nat.ble fn.ntmps 64) (Wo E rf2 fn.ntmps fn b) (bc (Nat.ble fn.ntmps 512) (Wo E rf3 fn.ntmps fn b) ⟨fun _ _ _ _ _=> .bad⟩)
noncomputable def bo {R:Type} (a:(aw→Option (List AV))→aw→Y→R) (b:AV→(aw→Option (List AV))→aw→Y→R) (d:R) (o:BO):R:=BO.rec (motive:=fun _=>R) a b d o
noncomputable def RJ (F:RF) (call:bm) (fuel:Nat) (c:Code) (s:St):Out:=
 fo (fun r h y=> .ok .normal ⟨gn F s.ts.length r,h,y.ds,y.rc⟩) (fun e r h y=> .ok e ⟨gn F s.ts.length r,h,y.ds,y.rc⟩) (.fail "" none) ((oC E F s.ts.length c).run fuel call (U8 F s.ts F.z 0) s.h ⟨s.ds,s.rc⟩)
noncomputable def RK (call:bm) (fuel:Nat) (c:Code) (s:St):Out:=
 bc (Nat.ble s.ts.length 64) (RJ E rf2 call fuel c s) (bc (Nat.ble s.ts.length 512) (RJ E rf3 call fuel c s) (.fail "" none))
noncomputable def E7 (call:bm) (fuel:Nat) (l:Nat) (args:List AV) (h:aw):ko:=match h.get l with
 | some (.loop _ _ ts ps as bd _)=>if args.length=ps.length then
  match RK E call fuel as {ts:=(ps.zip args).foldl (fun ts x=>ts.set x.1 x.2) ts,h,ds:=[],rc:= .L4 l} with
  | .ok .normal s1=>match s1.h.get l with
    | some (.loop .ready pd ts2 ps2 as2 bd2 dn2)=>
      match RK E call fuel bd {s1 with h:=s1.h.put l (some (.loop .busy pd ts2 ps2 as2 bd2 dn2))} with
      | .ok .normal s2=>Er l none s2
      | .ok .ret s2=>Er l (some .ret) s2
      | .ok (.exit id) s2=>Er l (some (.exit id)) s2
      | .ok (.panic v) s2=>if s2.ds.isEmpty then .panic v s2.h else .fail "round defers" none
      | .fail why q=> .fail why q
    | _=> .fail "round state" none
  | .ok _ _=> .fail "round assign" none
  | .fail why q=> .fail why q
   else .fail "round args" none
 | _=> .fail "round" none
noncomputable def jr (call:bm) (fuel:Nat) (g:FuncId) (as:List AV) (h:aw) (rc:RC):Option (aw×RC):=
 bo (fun res h' y=>bc y.ds.isEmpty (ob none (fun _=>some (h',y.rc)) (res h')) none) (fun _ _ _ _=>none) none ((CZ E g).run fuel call as h rc)
noncomputable def MW (call:bm) (fuel:Nat) (p:Option AV) (res:aw→Option (List AV)) (h:aw) (ds:List sX):ko:=match dv (jr E call fuel) ds p h with
 | none=> .fail "unwind" none
 | some (some v,h')=> .panic v h'
 | some (none,h')=>ob (.fail "results" none) (fun vs=> .ret (je vs) h') (res h')
noncomputable def fFn {R:Type} (a:FuncId→R) (b:Nat→R) (f:Fn):R:=Fn.rec (motive:=fun _=>R) a b f
noncomputable def MX {α R:Type} (a b:R) (l:List α):R:=List.rec (motive:=fun _=>R) a (fun _ _ _=>b) l
noncomputable def ahi (fuel:Nat) (call:bm) (g:Fn) (args:List AV) (h:aw):ko:=
 fFn (fun f=>bo (fun res h' y=>MX (ob (.fail "results" none) (fun vs=> .ret (je vs) h') (res h')) (MW E call fuel none res h' y.ds) y.ds)
  (fun v res h' y=>MX (.panic v h') (MW E call fuel (some v) res h' y.ds) y.ds) (.fail "body" none) ((CZ E f).run fuel call args h .no))
  (fun l=>E7 E call fuel l args h) g
noncomputable def C1 (d fuel:Nat):bm:=Nat.rec (motive:=fun _=>bm) (fun _ _ _=> .fail "depth" none) (fun _ ih=>ahi E fuel ih) d
end
end Go.Ab.Fa
end
section
namespace Go.Ab.Fa
theorem aaF {α R:Type} {d:R} {f:α→R} {a:α}:ob d f (some a)=f a:=rfl
theorem kD {R:Type} (x y:R):bc true x y=x:=rfl
theorem fe {R:Type} (x y:R):bc false x y=y:=rfl
theorem iD {α β:Type} {f:α→Option β} {o:Option α} {v:β} (h:ob none f o=some v):∃a,o=some a∧f a=some v:=by
 cases o with
 | none=>exact absurd h (by intro e;cases e)
 | some a=>exact ⟨a,rfl,h⟩
theorem hF {β:Type} {b:Bool} {x:Option β} {v:β} (h:bc b x none=some v):b=true∧x=some v:=by
 cases b with
 | false=>cases h
 | true=>exact ⟨rfl,h⟩
theorem tq {β:Type} {b:Bool} {x:Option β} {v:β} (h:bc b none x=some v):b=false∧x=some v:=by
 cases b with
 | false=>exact ⟨rfl,h⟩
 | true=>cases h
theorem IM {β:Type} {f:Bool→Option β} {a:AV} {v:β} (h:kP f none a=some v):∃b,a= .bool b∧f b=some v:=by
 cases a with
 | bool b=>exact ⟨b,rfl,h⟩
 | _=>exact absurd h (by intro e;cases e)
theorem kR {β:Type} {f:IntKind→Int→Option β} {a:AV} {v:β} (h:p_ f none a=some v):∃k n,a= .int k n∧f k n=some v:=by
 cases a with
 | int k n=>exact ⟨k,n,rfl,h⟩
 | _=>exact absurd h (by intro e;cases e)
theorem qd {β:Type} {f:List UInt8→Option β} {a:AV} {v:β} (h:tg f none a=some v):∃s,a= .str s∧f s=some v:=by
 cases a with
 | str s=>exact ⟨s,rfl,h⟩
 | _=>exact absurd h (by intro e;cases e)
theorem vF {β:Type} {f:Nat→Nat→Option β} {a:AV} {v:β} (h:BX f none a=some v):∃i o,a= .ptr i o∧f i o=some v:=by
 cases a with
 | ptr i o=>exact ⟨i,o,rfl,h⟩
 | _=>exact absurd h (by intro e;cases e)
theorem qe {β:Type} {e:Option β} {f:Nat→Nat→Nat→Nat→Bool→Option β} {a:AV} {v:β} (h:kQ e f none a=some v):
 (a= .aD∧e=some v)∨∃i o l c b,a= .slice i o l c b∧f i o l c b=some v:=by
 cases a with
 | aD=>exact .inl ⟨rfl,h⟩
 | slice i o l c b=>exact .inr ⟨i,o,l,c,b,rfl,h⟩
 | _=>exact absurd h (by intro e;cases e)
theorem MY {β:Type} {e z:Option β} {f:Nat→Nat→Nat→Nat→Bool→Option β} {a:AV} {v:β} (h:kQ e f (vZ z none a) a=some v):
 (a= .aD∧e=some v)∨(∃i o l c b,a= .slice i o l c b∧f i o l c b=some v)∨(a= .fm∧z=some v):=by
 cases a with
 | aD=>exact .inl ⟨rfl,h⟩
 | slice i o l c b=>exact .inr (.inl ⟨i,o,l,c,b,rfl,h⟩)
 | fm=>exact .inr (.inr ⟨rfl,h⟩)
 | _=>exact absurd h (by intro e;cases e)
theorem qf {β:Type} {f:Nat→Option β} {n:Int} {v:β} (h:mu f none n=some v):∃m:Nat,n=(m:Int)∧f m=some v:=by
 cases n with
 | ofNat m=>exact ⟨m,rfl,h⟩
 | negSucc m=>cases h
theorem tu {β:Type} {f:List AV→TypeId→Bool→Option β} {o:aH} {v:β} (h:BZ f none o=some v):∃cs e ro,o= .cells cs e ro∧f cs e ro=some v:=by
 cases o with
 | cells cs e ro=>exact ⟨cs,e,ro,rfl,h⟩
 | _=>exact absurd h (by intro e;cases e)
theorem gU {a b:Nat} (h:Nat.ble a b=true):a≤b:=Nat.le_of_ble_eq_true h
theorem lS {a b:Nat} (h:Nat.ble a b=false):b<a:=by
 apply Decidable.byContradiction;intro hn
 rw[Nat.ble_eq_true_of_le (by omega)] at h;cases h
theorem o_ {a b:Nat} (h:Nat.beq a b=true):a=b:=Nat.eq_of_beq_eq_true h
theorem RL {k j:IntKind} (h:V5 k j=true):k=j:=by
 cases k<;>cases j<;>first | rfl | exact absurd h (by intro e;cases e)
theorem Ad (b:Bool):yI b= !b:=by cases b<;>rfl
theorem Wq {k:IntKind} (h:ksg k=false) (n:Int):k.wrap n=n%(xx k:Int):=by
 cases k<;>first | (cases h;done) | simp [IntKind.wrap,IntKind.bits,IntKind.signed,xx,kEl]
theorem Wr {k:IntKind} (h:ksg k=true) {m:Nat} (hm:m<xx k):k.wrap (Int.negSucc m)=Int.negSucc m:=by
 have hb:(2^(k.bits - 1):Int)=(xx k:Int)∧(2^k.bits:Int)=2*(xx k:Int)∧k.signed=true:=by
  cases k<;>first | (cases h;done) | (refine ⟨rfl,rfl,rfl⟩)
 obtain ⟨h1,h2,h3⟩:=hb
 unfold IntKind.wrap
 rw[h1,h2,h3,Int.negSucc_eq]
 generalize xx k=B at *
 have e: -((m:Int)+1)%(2*(B:Int))=2*(B:Int) -(m+1):=by
  rw[←Int.add_emod_right]
  exact Int.emod_eq_of_lt (by omega) (by omega)
 rw[e]
 simp only[Bool.true_and,decide_eq_true_eq]
 rw[if_pos (by omega)]
 omega
theorem qg (k:IntKind) (n:Int):xS k n=k.wrap n:=by
 cases n with
 | ofNat m=>
   show bc (Nat.ble (xx k) m) (bc (ksg k) (k.wrap (Int.ofNat m)) (Int.ofNat (Nat.mod m (xx k)))) (Int.ofNat m)=_
   cases h:Nat.ble (xx k) m
   · have h:=lS h
     rw[fe]
     cases k<;>simp [IntKind.wrap,IntKind.bits,IntKind.signed]<;>simp only[xx,kEl] at h<;>omega
   · rw[kD]
     cases hs:ksg k
     · rw[fe,Wq hs];rfl
     · rw[kD]
 | negSucc m=>
   show bc (ksg k) (bc (Nat.ble (xx k) m) (k.wrap (Int.negSucc m)) (Int.negSucc m)) (k.wrap (Int.negSucc m))=_
   cases hs:ksg k
   · rw[fe]
   · rw[kD]
     cases h:Nat.ble (xx k) m
     · have h:=lS h
       rw[fe]
       exact (Wr hs h).symm
     · rw[kD]
theorem aaG (a b:Int):rn a b=a+b:=by
 cases a<;>cases b<;>rfl
theorem aaH (a b:Int):vz a b=a - b:=by
 cases a with
 | negSucc x=>rfl
 | ofNat x=>
   cases b with
   | negSucc y=>rfl
   | ofNat y=>
     show bc (Nat.ble y x) (Int.ofNat (x - y)) (Int.negSucc (y - x - 1))=_
     cases h:Nat.ble y x
     · have h:=lS h
       rw[fe,Int.negSucc_eq];simp only[Int.ofNat_eq_natCast];omega
     · have h:=gU h
       rw[kD];simp only[Int.ofNat_eq_natCast];omega
theorem RN (a b:Int):V7 a b=a*b:=by
 cases a<;>cases b<;>rfl
theorem PD (a b:Int):ieq a b=(a==b):=by
 have:ieq a b=decide (a=b):=by
  cases a with
  | ofNat x=>cases b with
    | ofNat y=>
      show Nat.beq x y=_
      rw[←DG]
      by_cases h:x=y
      · subst h;simp
      · rw[show (x==y)=false by simp [h]];symm;apply decide_eq_false;simp only[Int.ofNat_eq_natCast];omega
    | negSucc y=>simp;rfl
  | negSucc x=>cases b with
    | ofNat y=>simp;rfl
    | negSucc y=>
      show Nat.beq x y=_
      rw[←DG]
      by_cases h:x=y
      · subst h;simp
      · simp [h]
 rw[this];rfl
theorem Ki (a b:Int):ilt a b=decide (a<b):=by
 cases a with
 | ofNat x=>cases b with
   | ofNat y=>
     show Nat.ble (x+1) y=_
     rw[←w7];simp only[Int.ofNat_eq_natCast];congr 1;apply propext;omega
   | negSucc y=>
     symm;exact decide_eq_false (by rw[Int.negSucc_eq];simp only[Int.ofNat_eq_natCast];omega)
 | negSucc x=>cases b with
   | ofNat y=>
     symm;exact decide_eq_true (by rw[Int.negSucc_eq];simp only[Int.ofNat_eq_natCast];omega)
   | negSucc y=>
     show Nat.ble (y+1) x=_
     rw[←w7];congr 1;apply propext;rw[Int.negSucc_eq,Int.negSucc_eq];omega
theorem E8 (a b:Int):(!decide (a<b))=decide (b≤a):=by
 by_cases h:a<b
 · rw[decide_eq_true h,decide_eq_false (by omega)];rfl
 · rw[decide_eq_false h,decide_eq_true (by omega)];rfl
theorem aaI (k:IntKind) {x:Nat} (h:x<xx k):x<2^k.bits:=by
 cases k<;>simp only[xx,kEl,IntKind.bits] at * <;>omega
theorem RO (k:IntKind) {x:Nat} (h:x<xx k):k.wrap (x:Int)=x:=by
 have:=qg k (Int.ofNat x)
 rw[Int.ofNat_eq_natCast] at this
 rw[←this]
 show bc (Nat.ble (xx k) x) _ (Int.ofNat x)=_
 rw[pQ h];rfl
theorem aaJ (k:IntKind):∃m,xx k=2^m:=by
 cases k
 · exact ⟨7,rfl⟩
 · exact ⟨15,rfl⟩
 · exact ⟨31,rfl⟩
 · exact ⟨63,rfl⟩
 · exact ⟨8,rfl⟩
 · exact ⟨16,rfl⟩
 · exact ⟨32,rfl⟩
 · exact ⟨64,rfl⟩
theorem toNat_ofInt (k:IntKind) {x:Nat} (h:x<xx k):(BitVec.ofInt k.bits (Int.ofNat x)).toNat=x:=by
 rw[Int.ofNat_eq_natCast,BitVec.ofInt_natCast,BitVec.toNat_ofNat]
 exact Nat.mod_eq_of_lt (aaI k h)
theorem aaK (op:BinOp) (k:IntKind) (a b:Int) {v:AV} (h:aau op k a b=some v):dU op k a b=some v:=by
 cases op<;>simp only[aau] at h<;>try exact h
 · simpa [dU,qg,aaG] using h
 · simpa [dU,qg,aaH] using h
 · simpa [dU,qg,RN] using h
 · cases a with
   | negSucc x=>exact h
   | ofNat x=>cases b with
     | negSucc y=>exact h
     | ofNat y=>
       obtain ⟨h1,h2⟩:=tq h
       rw[qg] at h2
       have:y≠0:=by intro e;subst e;cases h1
       rw[←h2];simp [dU,this];exact congrArg k.wrap (Int.natCast_ediv x y).symm
 · cases a with
   | negSucc x=>exact h
   | ofNat x=>cases b with
     | negSucc y=>exact h
     | ofNat y=>
       obtain ⟨h1,h2⟩:=tq h
       have:y≠0:=by intro e;subst e;cases h1
       rw[←h2];simp [dU,this];rfl
 · cases a with
   | negSucc x=>exact h
   | ofNat x=>cases b with
     | negSucc y=>exact h
     | ofNat y=>
       change bc (Nat.ble (xx k) x) _ (bc (Nat.ble (xx k) y) _ _)=_ at h
       cases h1:Nat.ble (xx k) x with
       | true=>rw[h1] at h;exact h
       | false=>cases h2:Nat.ble (xx k) y with
         | true=>rw[h1,h2] at h;exact h
         | false=>
           rw[h1,h2] at h
           have h1:=lS h1;have h2:=lS h2
           rw[←h,fe,fe]
           show some (AV.int k (k.wrap ((BitVec.ofInt k.bits (Int.ofNat x)&&& BitVec.ofInt k.bits (Int.ofNat y)).toNat:Int)))=_
           rw[BitVec.toNat_and,toNat_ofInt k h1,toNat_ofInt k h2,RO k (Nat.lt_of_le_of_lt Nat.and_le_left h1)]
           rfl
 · cases a with
   | negSucc x=>exact h
   | ofNat x=>cases b with
     | negSucc y=>exact h
     | ofNat y=>
       change bc (Nat.ble (xx k) x) _ (bc (Nat.ble (xx k) y) _ _)=_ at h
       cases h1:Nat.ble (xx k) x with
       | true=>rw[h1] at h;exact h
       | false=>cases h2:Nat.ble (xx k) y with
         | true=>rw[h1,h2] at h;exact h
         | false=>
           rw[h1,h2] at h
           have h1:=lS h1;have h2:=lS h2
           rw[←h,fe,fe]
           show some (AV.int k (k.wrap ((BitVec.ofInt k.bits (Int.ofNat x)||| BitVec.ofInt k.bits (Int.ofNat y)).toNat:Int)))=_
           rw[BitVec.toNat_or,toNat_ofInt k h1,toNat_ofInt k h2,RO k]
           · rfl
           · obtain ⟨m,hm⟩:=aaJ k
             rw[hm] at h1 h2 ⊢
             exact Nat.or_lt_two_pow h1 h2
 · simpa [dU,PD] using h
 · simpa [dU,PD,Ad,bne] using h
 · simpa [dU,Ki] using h
 · simpa [dU,Ki,Ad,E8] using h
 · simpa [dU,Ki] using h
 · simpa [dU,Ki,Ad,E8] using h
theorem aaL (op:BinOp) (k:IntKind) (a b:Int):(Wd op).f k a b=aau op k a b:=by
 cases op<;>rfl
theorem Ws (k:IntKind):V6 k=k.bits:=by cases k<;>rfl
theorem RP (k:IntKind) (y:Nat):V8 k y=min y k.bits:=by
 unfold V8;rw[Ws]
 cases h:Nat.ble k.bits y
 · have:=lS h;rw[fe];omega
 · have:=gU h;rw[kD];omega
theorem aaM {k:IntKind} {x y:Int} {v:AV} (h:ahc k x y=some v):¬y<0∧v= .int k (k.wrap (x*2^(min y.toNat k.bits))):=by
 obtain ⟨m,rfl,h⟩:=qf h
 refine ⟨by omega,?_⟩
 have h:=Option.some.inj h
 rw[←h,qg,RN,RP]
 simp
theorem aaN {k:IntKind} {x y:Int} {v:AV} (h:ahd k x y=some v):¬y<0∧v= .int k (x.fdiv (2^(min y.toNat k.bits))):=by
 obtain ⟨m,rfl,h⟩:=qf h
 refine ⟨by omega,?_⟩
 have h:=Option.some.inj h
 rw[←h]
 cases x with
 | negSucc x=>simp [mu]
 | ofNat x=>
   show AV.int k (Int.ofNat (x/2^V8 k m))=_
   rw[RP]
   simp
   rw[show (2^min m k.bits:Int)=((2^min m k.bits:Nat):Int) by simp]
   exact (Int.fdiv_eq_ediv_of_nonneg _ (Int.natCast_nonneg _)).symm
end Go.Ab.Fa
end
section
namespace Go.Ab.Fa
section
variable {α:Type}
theorem rY (l:List α) (o:Nat):vA l o=l.drop o:=by
 induction l generalizing o with
 | nil=>simp [vA]
 | cons v tl ih=>
   show bc (Nat.beq o 0) (v::tl) (vA tl (o - 1))=_
   rw[ih]
   cases o with
   | zero=>rfl
   | succ o=>simp [show Nat.beq (o+1) 0=false from rfl,fe]
theorem rZ (l:List α) (o:Nat):vB l o=l.take o:=by
 induction l generalizing o with
 | nil=>simp [vB]
 | cons v tl ih=>
   show bc (Nat.beq o 0) [] (v::vB tl (o - 1))=_
   rw[ih]
   cases o with
   | zero=>rfl
   | succ o=>simp [show Nat.beq (o+1) 0=false from rfl,fe]
theorem TD (vs:List α):∀(cs:List α) (k:Nat),(MJ vs cs)[k]? =if k<vs.length∧k<cs.length then vs[k]? else cs[k]? :=by
 induction vs with
 | nil=>intro cs k;rw[if_neg (by simp)];rfl
 | cons v vs ih=>
   intro cs k
   cases cs with
   | nil=>rw[if_neg (by simp)];rfl
   | cons c tl=>
     show (v::MJ vs tl)[k]? =_
     cases k with
     | zero=>rw[if_pos (by simp)];rfl
     | succ k=>simp only[List.getElem?_cons_succ,ih,List.length_cons,Nat.add_lt_add_iff_right]
theorem Wt (vs:List α):∀(cs:List α) (o k:Nat),(MK vs cs o)[k]? =if o≤k∧k<o+vs.length∧k<cs.length then vs[k - o]? else cs[k]? :=by
 intro cs
 induction cs with
 | nil=>intro o k;rw[if_neg (by simp)];rfl
 | cons c tl ih=>
   intro o k
   show (bc (Nat.beq o 0) (MJ vs (c::tl)) (c::MK vs tl (o - 1)))[k]? =_
   cases o with
   | zero=>
     show (MJ vs (c::tl))[k]? =_
     rw[TD];simp
   | succ o=>
     show (c::MK vs tl o)[k]? =_
     cases k with
     | zero=>rw[if_neg (by omega)];rfl
     | succ k=>
       rw[List.getElem?_cons_succ,ih,List.getElem?_cons_succ,List.length_cons]
       by_cases h:o≤k∧k<o+vs.length∧k<tl.length
       · rw[if_pos h,if_pos (by omega),show k+1 -(o+1)=k - o by omega]
       · rw[if_neg h,if_neg (by omega)]
end
theorem Kj (vs cs:List AV) (o:Nat):MK vs cs o=setFrom cs o vs:=by
 apply List.ext_getElem?;intro k;rw[Wt,jK]
theorem PE (l m:List UInt8):leq E0 l m=(l==m):=by
 have key:∀a b:UInt8,E0 a b=(a==b):=by
  intro a b
  unfold E0
  rw[←DG]
  by_cases h:a=b
  · subst h;simp
  · rw[show (a==b)=false by simp [h]]
    rw[beq_eq_false_iff_ne]
    intro e;apply h
    have:a.toNat=b.toNat:=e
    exact UInt8.toNat_inj.mp this
 induction l generalizing m with
 | nil=>cases m<;>rfl
 | cons x tl ih=>
   cases m with
   | nil=>rfl
   | cons y tm=>
     show bc (E0 x y) (leq E0 tl tm) false=_
     rw[ih,key,qb];rfl
theorem aaO (op:BinOp) (a b:List UInt8):(TB op).f a b=yq op a b:=by
 cases op<;>first | rfl | (simp only[TB,yq,PE,Ad])
theorem aaP (v:AV):aav v=AV.scalar v:=by cases v<;>rfl
theorem MZ:aav=AV.scalar:=funext aaP
theorem TE (v:AV):J8 v=true→(match (some v:Option AV) with
 | some (.ptr i o)=>some (.ptr i o)
 | some (.map i)=>some (.map i)
 | some (.slice i o l c b)=>some (.slice i o l c b)
 | some (.func f a b)=>some (.func f a b)
 | _=>none)=some v:=by
 cases v<;>intro h<;>first | rfl | exact absurd h (by intro e;cases e)
theorem M1 {f:TypeId→AV→BE} {why:String} {o:Option Oper} (a:AV):(∃t v,a= .iface t v)∨th f (.fail why o) a= .fail why o:=by
 cases a with
 | iface t v=>exact .inl ⟨t,v,rfl⟩
 | _=>exact .inr rfl
theorem nO (v:AV):mW v=v.cells:=by cases v<;>rfl
section
variable (E:Env) (F:RF) (n:Nat)
theorem Kk {β:Type} (i:Nat) (k:(F.T→AV)→β):∃g,wT F n i k=k g∧∀r,(gn F n r).getD i AV.undef=g r:=by
 unfold wT
 cases h:Nat.ble n i
 · refine ⟨(F.get i).f,rfl,fun r=>?_⟩
   rw[MI,if_pos (lS h)]
 · refine ⟨fun _=>AV.undef,rfl,fun r=>?_⟩
   rw[MI,if_neg (by have:=gU h;omega)]
theorem ch {β:Type} (x:Operand) (k:(F.T→AV)→β) (d:β):wO E F n x k d=d∨∃g,wO E F n x k d=k g∧∀r,fJ E (gn F n r) x=some (g r):=by
 cases x with
 | tmp t=>
   obtain ⟨g,h1,h2⟩:=Kk F n t k
   exact .inr ⟨g,h1,fun r=>by rw[←h2];rfl⟩
 | const v=>
   simp only[wO]
   cases h:ofConst v with
   | none=>exact .inl rfl
   | some a=>exact .inr ⟨fun _=>a,rfl,fun r=>h⟩
 | global g=>
   simp only[wO]
   cases h:Nat.ble E.G g
   · exact .inr ⟨fun _=> .ptr g 0,rfl,fun r=>by rw[fJ,if_pos (lS h)]⟩
   · exact .inl rfl
 | func f=>exact .inr ⟨fun _=> .func f [] [],rfl,fun r=>rfl⟩
theorem xa {β:Type}:∀(l:List Operand) (k:(F.T→List AV)→β) (d:β),wL E F n l k d=d∨∃g,wL E F n l k d=k g∧∀r,hT E (gn F n r) l=some (g r)
 | [],k,d=> .inr ⟨fun _=> [],rfl,fun r=>rfl⟩
 | x::xs,k,d=>by
   rw[wL]
   rcases ch E F n x (fun g=>wL E F n xs (fun gs=>k fun r=>g r::gs r) d) d with h | ⟨g,h,hg⟩
   · exact .inl h
   · rcases xa xs (fun gs=>k fun r=>g r::gs r) d with h' | ⟨gs,h',hgs⟩
     · exact .inl (h.trans h')
     · refine .inr ⟨_,h.trans h',fun r=>?_⟩
       have:=hgs r
       unfold hT at *
       rw[fE,hg r];simp only[this]
theorem RQ {β:Type} (o:Option Operand) (k:Option (F.T→AV)→β) (d:β):wP E F n o k d=d∨∃g,wP E F n o k d=k g∧∀r,ov E (gn F n r) o=some (HF g r):=by
 cases o with
 | none=>exact .inr ⟨none,rfl,fun r=>rfl⟩
 | some x=>
   rcases ch E F n x (fun g=>k (some g)) d with h | ⟨g,h,hg⟩
   · exact .inl h
   · exact .inr ⟨some g,h,fun r=>by rw[ov,hg r];rfl⟩
theorem E9 {β:Type}:∀(l:List (Nat×Operand)) (k:(F.T→List (Nat×AV))→β) (d:β),wPs E F n l k d=d∨∃g,wPs E F n l k d=k g∧∀r,lM E (gn F n r) l=some (g r)
 | [],k,d=> .inr ⟨fun _=> [],rfl,fun r=>rfl⟩
 | (i,x)::xs,k,d=>by
   rw[wPs]
   rcases ch E F n x (fun g=>wPs E F n xs (fun gs=>k fun r=>(i,g r)::gs r) d) d with h | ⟨g,h,hg⟩
   · exact .inl h
   · rcases E9 xs (fun gs=>k fun r=>(i,g r)::gs r) d with h' | ⟨gs,h',hgs⟩
     · exact .inl (h.trans h')
     · refine .inr ⟨_,h.trans h',fun r=>?_⟩
       rw[lM,hg r];simp only[hgs r]
theorem RR {β:Type} (hn:n≤F.N) (o:Option Tmp) (k:(AV→F.T→F.T)→β):∃s,wS F n o k=k s∧∀v r,dA (gn F n r) o v=gn F n (s v r):=by
 cases o with
 | none=>exact ⟨fun _ r=>r,rfl,fun v r=>rfl⟩
 | some i=>
   show ∃s,bc (Nat.ble n i) (k fun _ r=>r) (wU (F.set i) k)=k s∧_
   cases h:Nat.ble n i
   · exact ⟨(F.set i).f,rfl,fun v r=>aas F n hn r (lS h) v⟩
   · refine ⟨fun _ r=>r,rfl,fun v r=>?_⟩
     show (gn F n r).set i v=_
     rw[List.set_eq_of_length_le (by rw[jW];exact gU h)]
theorem qh (t:TypeId):zH E t=b7 E t:=by
 unfold zH b7;rw[vD];cases E.P.info? t<;>rfl
theorem Wu (t:TypeId):byF E t=jT E t:=by
 unfold byF jT;rw[vD];cases E.P.info? t<;>rfl
theorem B6 (t:TypeId):OY E t=g5 E t:=by
 unfold OY g5;rw[vD]
 cases E.P.info? t with
 | none=>rfl
 | some i=>show ob none (fun z=>ofConst z) i.zero=_;cases h:i.zero<;>simp [ob,h]
theorem aeh (t:TypeId):agF E t=fY E t:=by
 unfold agF fY;rw[jX];rfl
theorem Wv (t:TypeId) (f:Nat):fiF E t f=ow E t f:=by
 unfold fiF ow;rw[jX]
 generalize E.P.underlying t=u
 cases u with
 | none=>rfl
 | some d=>cases d with
   | struct fs=>show j8 fs.toList f=fs[f]?;rw[iR];exact Array.getElem?_toList
   | _=>rfl
def vG (op:Op):Prop:=(∀ts,bx E ts op=none)∧(∀ts h,fb E ts h op=none)∧∀ts,fp E ts op=none
def lT (f g:bm):Prop:=∀F as h,(∀v h',f F as h= .ret v h'→g F as h= .ret v h')∧∀v h',f F as h= .panic v h'→g F as h= .panic v h'
def ELe (a b:BE):Prop:=match a with
 | .fail _ _=>True
 | a=>b=a
def h_ (op:Op):Kd F.T→Prop
 | .L7 g=>∀r,bx E (gn F n r) op=some (g r)
 | .iJ f=>∀r v,f r=some v→bx E (gn F n r) op=some v
 | .red f=>∀r h v,f r h=some v→bx E (gn F n r) op=some v∨(bx E (gn F n r) op=none∧fb E (gn F n r) h op=some v)
 | .vi f=>(∀ts,bx E ts op=none)∧(∀ts h,fb E ts h op=none)∧∀r p,f r=some p→fp E (gn F n r) op=some p
 | .wr f=>vG E op∧∀call r h rc o p,o.op=op→f r h=some p→dL E call (gn F n r) h rc o= .val p.1 p.2
 | .call g args=>vG E op∧∀call r h rc o,o.op=op→dL E call (gn F n r) h rc o=oB (call g (args r) h)
 | .xw f=>vG E op∧∀fc call,lT fc call→∀r h rc o,o.op=op→ELe (f fc r h rc) (dL E call (gn F n r) h rc o)
 | .bad=>True
end
end Go.Ab.Fa
end
section
namespace Go.Ab.Fa
variable {E:Env} {F:RF} {n:Nat}
theorem aaQ {op:BinOp} (h1:op≠ .shl) (h2:op≠ .shr) {t:TypeId} {xc yc:Bool} {a b v:AV} (h:aaA (Wd op).f (TB op).f (nC E op t xc yc) a b=some v):nC E op t xc yc a b=some v:=by
 unfold aaA at h
 cases a with
 | int k x=>
   obtain ⟨j,y,rfl,h3⟩:=kR (show p_ (fun j y=>bc (V5 k j) ((Wd op).f k x y) none) none b=some v from h)
   obtain ⟨hk,h4⟩:=hF h3
   have hk:=RL hk
   rw[aaL] at h4
   have:=aaK op k x y h4
   rw[←hk]
   cases op<;>first | exact absurd rfl h1 | exact absurd rfl h2 | simpa [nC] using this
 | str s=>
   obtain ⟨s',rfl,h3⟩:=qd (show tg (fun t=>(TB op).f s t) none b=some v from h)
   rw[aaO] at h3
   cases op<;>first | exact absurd rfl h1 | exact absurd rfl h2 | simpa [nC] using h3
 | _=>exact h
theorem aaR (op:BinOp) (t:TypeId) (x y:Operand) (yt:TypeId) (gx gy:F.T→AV) (hx:∀r,fJ E (gn F n r) x=some (gx r)) (hy:∀r,fJ E (gn F n r) y=some (gy r)):
 h_ E F n (.binOp op t x y yt) (hD op (nC E op t (isConst x) (isConst y)) gx gy):=by
 have red:∀r,bx E (gn F n r) (.binOp op t x y yt)=nC E op t (isConst x) (isConst y) (gx r) (gy r):=by
  intro r;simp only[bx,hx,hy]
 by_cases h1:op= .shl
 · subst h1
   intro r v h
   rw[red]
   obtain ⟨k,m,e1,h⟩:=kR h
   obtain ⟨k',m',e2,h⟩:=kR h
   obtain ⟨h3,rfl⟩:=aaM h
   rw[e1,e2];simp [nC,h3]
 by_cases h2:op= .shr
 · subst h2
   intro r v h
   rw[red]
   obtain ⟨k,m,e1,h⟩:=kR h
   obtain ⟨k',m',e2,h⟩:=kR h
   obtain ⟨h3,rfl⟩:=aaN h
   rw[e1,e2];simp [nC,h3]
 have:hD op (nC E op t (isConst x) (isConst y)) gx gy= .iJ fun r=>aaA (Wd op).f (TB op).f (nC E op t (isConst x) (isConst y)) (gx r) (gy r):=by
  cases op<;>first | exact absurd rfl h1 | exact absurd rfl h2 | rfl
 rw[this]
 intro r v h
 rw[red]
 exact aaQ h1 h2 h
theorem aei (op:UnOp) (t:TypeId) (x:Operand) (g:F.T→AV) (hg:∀r,fJ E (gn F n r) x=some (g r)):h_ E F n (.unOp op t x) (unK op g):=by
 have red:∀r,bx E (gn F n r) (.unOp op t x)=unA op (g r):=by intro r;simp only[bx,hg]
 cases op with
 | not=>
   intro r v h
   rw[red]
   obtain ⟨b,e,h⟩:=IM h
   rw[e,←h,Ad];rfl
 | _=>intro r v h;rw[red];exact h
theorem Ww {t:TypeId} {m:Nat} (h1:fY E t=some true) (h2:b7 E t=some m) {cs:List AV} {o:Nat} {v:AV} (h:Wg m cs o=some v):jq E t cs o=some v:=by
 unfold Wg at h
 obtain ⟨h3,h⟩:=hF h
 have h3:=gU h3
 rw[g_] at h3
 unfold jq
 rw[h1,h2]
 simp only
 rw[if_pos (show o+m≤cs.length from h3),←h,rZ,rY]
theorem Wx {t:TypeId} (h1:fY E t=some false) {cs:List AV} {o:Nat} {v:AV} (h:Wf cs o=some v):jq E t cs o=some v:=by
 unfold Wf at h
 rw[iR] at h
 unfold jq
 rw[h1];exact h
theorem E_ {T:Type} (t:TypeId) (k:(List AV→Nat→Option AV)→Kd T):Ac E t k= .bad∨∃p,Ac E t k=k p∧∀cs o v,p cs o=some v→jq E t cs o=some v:=by
 unfold Ac
 rw[aeh]
 cases h:fY E t with
 | none=>exact .inl rfl
 | some b=>cases b with
   | false=>exact .inr ⟨_,rfl,fun cs o v=>Wx h⟩
   | true=>
     simp only
     rw[qh]
     cases h2:b7 E t with
     | none=>exact .inl rfl
     | some m=>exact .inr ⟨_,rfl,fun cs o v=>Ww h h2⟩
theorem Wy {t:TypeId} {p:List AV→Nat→Option AV} (hp:∀cs o v,p cs o=some v→jq E t cs o=some v) {h:aw} {a v:AV} (e:MT p h a=some v):aY E h t a=some v:=by
 obtain ⟨i,o,rfl,e⟩:=vF e
 obtain ⟨obj,e1,e⟩:=iD e
 obtain ⟨cs,el,ro,rfl,e⟩:=tu e
 simp only[aY,e1]
 exact hp _ _ _ e
theorem aaS (t:TypeId) (a:Operand):h_ E F n (.load t a) (wO E F n a (fun g=>Ac E t fun p=> .red fun r h=>MT p h (g r)) .bad):=by
 rcases ch E F n a (fun g=>Ac E t fun p=>(.red fun r h=>MT p h (g r):Kd F.T)) .bad with h | ⟨g,h,hg⟩<;>rw[h]
 · trivial
 · rcases E_ (E:=E) t (fun p=>(.red fun r h=>MT p h (g r):Kd F.T)) with h | ⟨p,h,hp⟩<;>rw[h]
   · trivial
   · intro r h v e
     refine .inr ⟨rfl,?_⟩
     simp only[fb,hg]
     exact Wy hp e
theorem Wz (s:TypeId) (x:Operand) (f:Nat):h_ E F n (.field s x f) (match fiF E s f with
 | some fd=>wO E F n x (fun g=>Ac E fd.type fun p=> .iJ fun r=>BY (fun cs=>p cs fd.offset) (fun _=>none) none (g r)) .bad
 | none=> .bad):=by
 rw[Wv]
 cases h0:ow E s f with
 | none=>trivial
 | some fd=>
   simp only
   rcases ch E F n x (fun g=>Ac E fd.type fun p=>(.iJ fun r=>BY (fun cs=>p cs fd.offset) (fun _=>none) none (g r):Kd F.T)) .bad with h | ⟨g,h,hg⟩<;>rw[h]
   · trivial
   · rcases E_ (E:=E) fd.type (fun p=>(.iJ fun r=>BY (fun cs=>p cs fd.offset) (fun _=>none) none (g r):Kd F.T)) with h | ⟨p,h,hp⟩<;>rw[h]
     · trivial
     · intro r v e
       change BY (fun cs=>p cs fd.offset) (fun _=>none) none (g r)=some v at e
       simp only[bx,h0,hg]
       cases hv:g r with
       | agg cs=>rw[hv] at e;exact hp _ _ _ e
       | _=>rw[hv] at e;exact absurd e (by intro e;cases e)
theorem Kl (s:TypeId) (x:Operand) (f:Nat):h_ E F n (.fieldAddr s x f) (match fiF E s f with
 | some fd=>match zH E fd.type with
   | some (_+1)=>wO E F n x (fun g=> .iJ fun r=>BX (fun i o=>some (.ptr i (Nat.add o fd.offset))) none (g r)) .bad
   | _=> .bad
 | none=> .bad):=by
 rw[Wv]
 cases h0:ow E s f with
 | none=>trivial
 | some fd=>
   simp only
   rw[qh]
   cases h1:b7 E fd.type with
   | none=>trivial
   | some m=>cases m with
     | zero=>trivial
     | succ m=>
       simp only
       rcases ch E F n x (fun g=>(.iJ fun r=>BX (fun i o=>some (.ptr i (Nat.add o fd.offset))) none (g r):Kd F.T)) .bad with h | ⟨g,h,hg⟩<;>rw[h]
       · trivial
       · intro r v e
         obtain ⟨i,o,e1,e⟩:=vF e
         simp only[bx,h0,hg,e1,h1]
         rw[if_neg (by omega)];exact e
theorem M3 (x:Operand):h_ E F n (.nilCheck x) (wO E F n x (fun g=> .iJ fun r=>bc (J8 (g r)) (some (g r)) none) .bad):=by
 rcases ch E F n x (fun g=>(.iJ fun r=>bc (J8 (g r)) (some (g r)) none:Kd F.T)) .bad with h | ⟨g,h,hg⟩<;>rw[h]
 · trivial
 · intro r v e
   obtain ⟨h1,e⟩:=hF e
   simp only[bx,hg]
   rw[←e]
   exact TE _ h1
theorem PF (x:Operand) (i:Nat):h_ E F n (.extract x i) (wO E F n x (fun g=> .iJ fun r=>BY (fun _=>none) (fun vs=>j8 vs i) none (g r)) .bad):=by
 rcases ch E F n x (fun g=>(.iJ fun r=>BY (fun _=>none) (fun vs=>j8 vs i) none (g r):Kd F.T)) .bad with h | ⟨g,h,hg⟩<;>rw[h]
 · trivial
 · intro r v e
   change BY (fun _=>none) (fun vs=>j8 vs i) none (g r)=some v at e
   simp only[bx,hg]
   cases hv:g r with
   | tuple cs=>rw[hv] at e;show cs[i]? =some v;rw[←iR];exact e
   | _=>rw[hv] at e;exact absurd e (by intro e;cases e)
theorem aaT (c a b:Operand):h_ E F n (.pick c a b) (wO E F n c (fun gc=>wO E F n a (fun ga=>wO E F n b (fun gb=> .iJ fun r=>kP (fun t=>bc t (some (ga r)) (some (gb r))) none (gc r)) .bad) .bad) .bad):=by
 rcases ch E F n c (fun gc=>wO E F n a (fun ga=>wO E F n b (fun gb=>(.iJ fun r=>kP (fun t=>bc t (some (ga r)) (some (gb r))) none (gc r):Kd F.T)) .bad) .bad) .bad with h | ⟨gc,h,hc⟩<;>rw[h]
 · trivial
 rcases ch E F n a (fun ga=>wO E F n b (fun gb=>(.iJ fun r=>kP (fun t=>bc t (some (ga r)) (some (gb r))) none (gc r):Kd F.T)) .bad) .bad with h | ⟨ga,h,ha⟩<;>rw[h]
 · trivial
 rcases ch E F n b (fun gb=>(.iJ fun r=>kP (fun t=>bc t (some (ga r)) (some (gb r))) none (gc r):Kd F.T)) .bad with h | ⟨gb,h,hb⟩<;>rw[h]
 · trivial
 intro r v e
 obtain ⟨t,e1,e⟩:=IM e
 simp only[bx,hc,e1]
 cases t
 · simp only[hb];exact e
 · simp only[ha];exact e
theorem RS {len size i o:Nat} {ix v:AV} (e:Kf len size i o ix=some v):∃k m,ix= .int k m∧0≤m∧m<len∧v= .ptr i (o+m.toNat*size):=by
 obtain ⟨k,m,rfl,e⟩:=kR e
 obtain ⟨m',rfl,e⟩:=qf e
 obtain ⟨h1,e⟩:=tq e
 have h1:=lS h1
 exact ⟨k,m',rfl,by omega,by omega,(Option.some.inj e).symm⟩
theorem Km (t:TypeId) (x ix:Operand):h_ E F n (.indexAddr t x ix) (wO E F n x (fun gx=>wO E F n ix (fun gi=>match lx E.P t with
 | some (.array len elem)=>match zH E elem with
   | some size=> .iJ fun r=>BX (fun i o=>Kf len size i o (gi r)) none (gx r)
   | none=> .bad
 | some (.slice elem)=>match zH E elem with
   | some size=> .iJ fun r=>kQ none (fun i o len _ _=>Kf len size i o (gi r)) none (gx r)
   | none=> .bad
 | _=> .bad) .bad) .bad):=by
 rw[jX]
 rcases ch E F n x (fun gx=>wO E F n ix (fun gi=>match E.P.underlying t with
  | some (.array len elem)=>match zH E elem with
    | some size=>(.iJ fun r=>BX (fun i o=>Kf len size i o (gi r)) none (gx r):Kd F.T)
    | none=> .bad
  | some (.slice elem)=>match zH E elem with
    | some size=> .iJ fun r=>kQ none (fun i o len _ _=>Kf len size i o (gi r)) none (gx r)
    | none=> .bad
  | _=> .bad) .bad) .bad with h | ⟨gx,h,hx⟩<;>rw[h]
 · trivial
 rcases ch E F n ix (fun gi=>match E.P.underlying t with
  | some (.array len elem)=>match zH E elem with
    | some size=>(.iJ fun r=>BX (fun i o=>Kf len size i o (gi r)) none (gx r):Kd F.T)
    | none=> .bad
  | some (.slice elem)=>match zH E elem with
    | some size=> .iJ fun r=>kQ none (fun i o len _ _=>Kf len size i o (gi r)) none (gx r)
    | none=> .bad
  | _=> .bad) .bad with h | ⟨gi,h,hi⟩<;>rw[h]
 · trivial
 cases hu:E.P.underlying t with
 | none=>trivial
 | some d=>cases d with
   | array len elem=>
     simp only
     rw[qh]
     cases hs:b7 E elem with
     | none=>trivial
     | some size=>
       intro r v e
       obtain ⟨i,o,e1,e⟩:=vF e
       obtain ⟨k,m,e2,h1,h2,rfl⟩:=RS e
       simp only[bx,hu,hx,hi,e1,e2,hs]
       rw[if_pos ⟨h1,h2⟩]
   | slice elem=>
     simp only
     rw[qh]
     cases hs:b7 E elem with
     | none=>trivial
     | some size=>
       intro r v e
       rcases qe e with ⟨_,e⟩ | ⟨i,o,l,c,b,e1,e⟩
       · cases e
       obtain ⟨k,m,e2,h1,h2,rfl⟩:=RS e
       simp only[bx,hu,hx,hi,e1,e2,hs]
       rw[if_pos ⟨h1,h2⟩]
   | _=>trivial
theorem WA (t:TypeId) (x ix:Operand):h_ E F n (.index t x ix) (wO E F n x (fun gx=>wO E F n ix (fun gi=>match lx E.P t with
 | some .string=> .iJ fun r=>tg (fun s=>p_ (fun _ i=>mu (fun m=>ob none (fun (b:UInt8)=>some (.int .u8 (Int.ofNat b.toNat))) (j8 s m)) none i) none (gi r)) none (gx r)
 | _=> .iJ fun r=>bx E (gn F n r) (.index t x ix)) .bad) .bad):=by
 rw[jX]
 rcases ch E F n x (fun gx=>wO E F n ix (fun gi=>match E.P.underlying t with
  | some .string=>(.iJ fun r=>tg (fun s=>p_ (fun _ i=>mu (fun m=>ob none (fun (b:UInt8)=>some (.int .u8 (Int.ofNat b.toNat))) (j8 s m)) none i) none (gi r)) none (gx r):Kd F.T)
  | _=> .iJ fun r=>bx E (gn F n r) (.index t x ix)) .bad) .bad with h | ⟨gx,h,hx⟩<;>rw[h]
 · trivial
 rcases ch E F n ix (fun gi=>match E.P.underlying t with
  | some .string=>(.iJ fun r=>tg (fun s=>p_ (fun _ i=>mu (fun m=>ob none (fun (b:UInt8)=>some (.int .u8 (Int.ofNat b.toNat))) (j8 s m)) none i) none (gi r)) none (gx r):Kd F.T)
  | _=> .iJ fun r=>bx E (gn F n r) (.index t x ix)) .bad with h | ⟨gi,h,hi⟩<;>rw[h]
 · trivial
 cases hu:E.P.underlying t with
 | none=>intro r v e;exact e
 | some d=>cases d with
   | string=>
     intro r v e
     obtain ⟨s,e1,e⟩:=qd e
     obtain ⟨k,m,e2,e⟩:=kR e
     obtain ⟨m',rfl,e⟩:=qf e
     obtain ⟨b,e3,e⟩:=iD e
     rw[iR] at e3
     simp only[bx,hu,hx,hi,e1,e2]
     rw[if_pos (by omega)]
     rw[show ((m':Int).toNat)=m' from rfl,e3]
     exact e
   | _=>intro r v e;exact e
theorem qO {d y:Nat} {o:Option AV} {k:Nat→Option AV} {v:AV} (e:Kg d y o k=some v):∃m,(match o with | some v=>pN v y | none=>some d)=some m∧k m=some v:=by
 cases o with
 | none=>exact ⟨d,rfl,e⟩
 | some a=>
   obtain ⟨kk,i,rfl,e⟩:=kR (show p_ (fun _ i=>mu (fun m=>bc (Nat.ble m y) (k m) none) none i) none a=some v from e)
   obtain ⟨m,rfl,e⟩:=qf e
   obtain ⟨h1,e⟩:=hF e
   have h1:=gU h1
   refine ⟨m,?_,e⟩
   simp only[pN]
   rw[if_pos (by omega)];rfl
theorem xb {len cap h l:Nat} {lo hi:Option AV} (h1:(match hi with | some v=>pN v cap | none=>some len)=some h)
 (h2:(match lo with | some v=>pN v h | none=>some 0)=some l):mg len cap lo hi none=some (l,h,cap):=by
 cases hi with
 | none=>cases lo with
   | none=>cases h1;cases h2;rfl
   | some b=>cases h1;simp only[mg,Option.isSome_none];simp at h2;simp [h2]
 | some a=>cases lo with
   | none=>cases h2;simp only[mg];simp at h1;simp [h1]
   | some b=>simp only[mg];simp at h1 h2;simp [h1,h2]
theorem aej {t elem:TypeId} {size:Nat} (hu:E.P.underlying t=some (.slice elem)) (hs:b7 E elem=some size) {lo hi:Option AV} {x v:AV} (e:slF size lo hi x=some v):dV E t x lo hi none=some v:=by
 rcases qe e with ⟨rfl,e1⟩ | ⟨i,o,len,cap,op,rfl,e1⟩
 · obtain ⟨h,h1,e2⟩:=qO e1
   obtain ⟨l,h2,e3⟩:=qO e2
   simp only[dV,hu,xb h1 h2,hs]
   exact e3
 · obtain ⟨h0,e2⟩:=hF e1
   have h0:=gU h0
   obtain ⟨h,h1,e3⟩:=qO e2
   obtain ⟨l,h2,e4⟩:=qO e3
   simp only[dV,hu,xb h1 h2,hs]
   rw[if_pos h0]
   cases h3:Nat.beq cap l
   · rw[h3,fe] at e4
     have:¬cap=l:=by intro ee;rw[ee,Nat.beq_refl] at h3;cases h3
     rw[if_neg this]
     simpa using e4
   · rw[h3,kD] at e4
     rw[if_pos (o_ h3)]
     cases op
     · rw[fe] at e4;simpa using e4
     · rw[kD] at e4;simpa using e4
theorem aek {t:TypeId} (hu:E.P.underlying t=some .string) {lo hi:Option AV} {x v:AV} (e:slS lo hi x=some v):dV E t x lo hi none=some v:=by
 obtain ⟨s,rfl,e1⟩:=qd e
 obtain ⟨h,h1,e2⟩:=qO e1
 obtain ⟨l,h2,e3⟩:=qO e2
 rw[g_] at h1
 simp only[dV,hu,xb h1 h2]
 rw[←e3,rZ,rY];rfl
theorem ael {t elem:TypeId} {m size:Nat} (hu:E.P.underlying t=some (.array m elem)) (hs:b7 E elem=some size) {lo hi:Option AV} {x v:AV} (e:slA m size lo hi x=some v):dV E t x lo hi none=some v:=by
 obtain ⟨i,o,rfl,e1⟩:=vF e
 obtain ⟨h,h1,e2⟩:=qO e1
 obtain ⟨l,h2,e3⟩:=qO e2
 simp only[dV,hu,xb h1 h2,hs]
 rw[←Option.some.inj e3]
 cases h3:Nat.beq m l
 · have:¬m=l:=by intro ee;rw[ee,Nat.beq_refl] at h3;cases h3
   rw[if_neg this];rfl
 · rw[if_pos (o_ h3)];rfl
theorem WB (t:TypeId) (x:Operand) (lo hi:Option Operand):h_ E F n (.slice t x lo hi none) (wO E F n x (fun gx=>wP E F n lo (fun gl=>wP E F n hi (fun gh=>match lx E.P t with
 | some (.slice elem)=>match zH E elem with
   | some size=> .iJ fun r=>slF size (HF gl r) (HF gh r) (gx r)
   | none=> .bad
 | some .string=> .iJ fun r=>slS (HF gl r) (HF gh r) (gx r)
 | some (.array m elem)=>match zH E elem with
   | some size=> .iJ fun r=>slA m size (HF gl r) (HF gh r) (gx r)
   | none=> .bad
 | _=> .iJ fun r=>bx E (gn F n r) (.slice t x lo hi none)) .bad) .bad) .bad):=by
 rw[jX]
 let K:(F.T→AV)→Option (F.T→AV)→Option (F.T→AV)→Kd F.T:=fun gx gl gh=>match E.P.underlying t with
  | some (.slice elem)=>match zH E elem with
    | some size=> .iJ fun r=>slF size (HF gl r) (HF gh r) (gx r)
    | none=> .bad
  | some .string=> .iJ fun r=>slS (HF gl r) (HF gh r) (gx r)
  | some (.array m elem)=>match zH E elem with
    | some size=> .iJ fun r=>slA m size (HF gl r) (HF gh r) (gx r)
    | none=> .bad
  | _=> .iJ fun r=>bx E (gn F n r) (.slice t x lo hi none)
 show h_ E F n _ (wO E F n x (fun gx=>wP E F n lo (fun gl=>wP E F n hi (fun gh=>K gx gl gh) .bad) .bad) .bad)
 rcases ch E F n x (fun gx=>wP E F n lo (fun gl=>wP E F n hi (fun gh=>K gx gl gh) .bad) .bad) .bad with h | ⟨gx,h,hx⟩<;>rw[h]
 · trivial
 rcases RQ E F n lo (fun gl=>wP E F n hi (fun gh=>K gx gl gh) .bad) .bad with h | ⟨gl,h,hl⟩<;>rw[h]
 · trivial
 rcases RQ E F n hi (fun gh=>K gx gl gh) .bad with h | ⟨gh,h,hh⟩<;>rw[h]
 · trivial
 have red:∀r,bx E (gn F n r) (.slice t x lo hi none)=dV E t (gx r) (HF gl r) (HF gh r) none:=by
  intro r;simp only[bx,hx,hl,hh];rfl
 simp only[K]
 cases hu:E.P.underlying t with
 | none=>intro r v e;exact e
 | some d=>cases d with
   | string=>intro r v e;rw[red];exact aek hu e
   | array m elem=>
     simp only
     rw[qh]
     cases hs:b7 E elem with
     | none=>trivial
     | some size=>intro r v e;rw[red];exact ael hu hs e
   | slice elem=>
     simp only
     rw[qh]
     cases hs:b7 E elem with
     | none=>trivial
     | some size=>intro r v e;rw[red];exact aej hu hs e
   | _=>intro r v e;exact e
end Go.Ab.Fa
end
section
namespace Go.Ab.Fa
variable {E:Env} {F:RF} {n:Nat}
theorem TF {t:TypeId} {m:Nat} (hs:b7 E t=some m) {h:aw} {a v:AV} {p:AV×aw} (e:E5 m h a v=some p):p.1=AV.undef∧dW E h t a v=some p.2:=by
 obtain ⟨i,o,rfl,e1⟩:=vF e
 obtain ⟨obj,h1,e2⟩:=iD e1
 obtain ⟨cs,el,ro,rfl,e3⟩:=tu e2
 obtain ⟨h2,e4⟩:=tq e3
 obtain ⟨h3,e5⟩:=hF e4
 obtain ⟨h4,e6⟩:=hF e5
 obtain ⟨h5,e7⟩:=hF e6
 have h3:=o_ h3
 have h4:=gU h4
 rw[g_,nO] at h3
 rw[g_] at h4
 rw[ti,MZ,nO] at h5
 have e8:=Option.some.inj e7
 subst h2
 refine ⟨by rw[←e8],?_⟩
 simp only[dW,h1,hs]
 rw[if_pos ⟨h3,h4,h5⟩,←e8,Kj,nO]
theorem M4 {t:TypeId} {a x:Operand}:vG E (.store t a x):=⟨fun _=>rfl,fun _ _=>rfl,fun _=>rfl⟩
theorem WC (t:TypeId) (a x:Operand):h_ E F n (.store t a x) (match zH E t with
 | some m=>wO E F n a (fun ga=>wO E F n x (fun gx=> .wr fun r h=>E5 m h (ga r) (gx r)) .bad) .bad
 | none=> .bad):=by
 rw[qh]
 cases hs:b7 E t with
 | none=>trivial
 | some m=>
   simp only
   rcases ch E F n a (fun ga=>wO E F n x (fun gx=>(.wr fun r h=>E5 m h (ga r) (gx r):Kd F.T)) .bad) .bad with h | ⟨ga,h,ha⟩<;>rw[h]
   · trivial
   rcases ch E F n x (fun gx=>(.wr fun r h=>E5 m h (ga r) (gx r):Kd F.T)) .bad with h | ⟨gx,h,hx⟩<;>rw[h]
   · trivial
   refine ⟨M4,fun call r h rc o p ho e=>?_⟩
   obtain ⟨h1,h2⟩:=TF hs e
   simp only[dL,ho,ha,hx,h2,h1]
theorem B7 (t:TypeId) (x:Operand):h_ E F n (.makeInterface t x) (match lx E.P t with
 | some (.interface _)=> .bad
 | some _=>wO E F n x (fun g=> .L7 fun r=> .iface t (g r)) .bad
 | none=> .bad):=by
 rw[jX]
 cases hu:E.P.underlying t with
 | none=>trivial
 | some d=>
   cases d with
   | interface ms=>trivial
   | _=>
     simp only
     rcases ch E F n x (fun g=>(.L7 fun r=> .iface t (g r):Kd F.T)) .bad with h | ⟨g,h,hg⟩<;>rw[h]
     · trivial
     · intro r;simp only[bx,hu,hg]
theorem M5 (f:FuncId) (a b:Array Operand):h_ E F n (.makeFunc (.func f) a b) (wL E F n a.toList (fun ga=>wL E F n b.toList (fun gb=> .L7 fun r=> .func f (ga r) (gb r)) .bad) .bad):=by
 rcases xa E F n a.toList (fun ga=>wL E F n b.toList (fun gb=>(.L7 fun r=> .func f (ga r) (gb r):Kd F.T)) .bad) .bad with h | ⟨ga,h,ha⟩<;>rw[h]
 · trivial
 rcases xa E F n b.toList (fun gb=>(.L7 fun r=> .func f (ga r) (gb r):Kd F.T)) .bad with h | ⟨gb,h,hb⟩<;>rw[h]
 · trivial
 intro r;simp only[bx,ha,hb]
theorem WD (t:TypeId):h_ E F n (.alloc t) (match OY E t with
 | some z=> .vi fun _=>some (.cells z.cells t false,fun i=> .ptr i 0)
 | none=> .bad):=by
 rw[B6]
 cases hz:g5 E t with
 | none=>trivial
 | some z=>exact ⟨fun _=>rfl,fun _ _=>rfl,fun r p e=>by simp only[fp,hz];exact e⟩
theorem aem (t:TypeId) (x:Operand):h_ E F n (.box t x) (wO E F n x (fun g=> .vi fun r=>some (.cells (mW (g r)) t false,fun i=> .ptr i 0)) .bad):=by
 rcases ch E F n x (fun g=>(.vi fun r=>some (.cells (mW (g r)) t false,fun i=> .ptr i 0):Kd F.T)) .bad with h | ⟨g,h,hg⟩<;>rw[h]
 · trivial
 · exact ⟨fun _=>rfl,fun _ _=>rfl,fun r p e=>by simp only[fp,hg];rw[←nO];exact e⟩
theorem HG (t:TypeId) (len:Nat) (parts:Array (Nat×Operand)):h_ E F n (.buildSlice t len parts) (match lx E.P t with
 | some (.slice elem)=>match zH E elem,OY E elem with
   | some m,some z=>if z.cells.length=m∧len*m≤2^24 then wPs E F n parts.toList (fun gp=> .vi fun r=>ob none (fun cs=>some (.cells cs elem false,fun i=> .slice i 0 len len false)) (pO (fun i=>some (i*m,m)) (bP z.cells len) (gp r))) .bad else .bad
   | _,_=> .bad
 | _=> .bad):=by
 rw[jX]
 cases hu:E.P.underlying t with
 | none=>trivial
 | some d=>cases d with
   | slice elem=>
     simp only
     rw[qh,B6]
     cases hs:b7 E elem with
     | none=>trivial
     | some m=>cases hz:g5 E elem with
       | none=>trivial
       | some z=>
         simp only
         by_cases hc:z.cells.length=m∧len*m≤2^24
         · rw[if_pos hc]
           rcases E9 E F n parts.toList (fun gp=>(.vi fun r=>ob none (fun cs=>some (.cells cs elem false,fun i=> .slice i 0 len len false)) (pO (fun i=>some (i*m,m)) (bP z.cells len) (gp r)):Kd F.T)) .bad with h | ⟨g,h,hg⟩<;>rw[h]
           · trivial
           · refine ⟨fun _=>rfl,fun _ _=>rfl,fun r p e=>?_⟩
             obtain ⟨cs,h1,e⟩:=iD e
             simp only[fp,hu,hs,hz,hg]
             rw[if_pos hc];simp only[h1];exact e
         · rw[if_neg hc];trivial
   | _=>trivial
theorem aaU (z:List AV) (m:Nat):aeg z m=bP z m:=by
 induction m with
 | zero=>rfl
 | succ m ih=>show mN z (aeg z m)=_;rw[pB,ih];rfl
theorem Kn (t:TypeId) (l c:Operand):h_ E F n (.makeSlice t l c) (wO E F n l (fun gl=>wO E F n c (fun gc=>match lx E.P t with
 | some (.slice elem)=>match zH E elem,byF E elem,OY E elem with
   | some m,some bytes,some z=>if z.cells.length=m then .vi fun r=>aaB elem bytes z.cells (gl r) (gc r) else .bad
   | _,_,_=> .bad
 | _=> .bad) .bad) .bad):=by
 rw[jX]
 rcases ch E F n l (fun gl=>wO E F n c (fun gc=>match E.P.underlying t with
  | some (.slice elem)=>match zH E elem,byF E elem,OY E elem with
    | some m,some bytes,some z=>if z.cells.length=m then (.vi fun r=>aaB elem bytes z.cells (gl r) (gc r):Kd F.T) else .bad
    | _,_,_=> .bad
  | _=> .bad) .bad) .bad with h | ⟨gl,h,hl⟩<;>rw[h]
 · trivial
 rcases ch E F n c (fun gc=>match E.P.underlying t with
  | some (.slice elem)=>match zH E elem,byF E elem,OY E elem with
    | some m,some bytes,some z=>if z.cells.length=m then (.vi fun r=>aaB elem bytes z.cells (gl r) (gc r):Kd F.T) else .bad
    | _,_,_=> .bad
  | _=> .bad) .bad with h | ⟨gc,h,hc⟩<;>rw[h]
 · trivial
 cases hu:E.P.underlying t with
 | none=>trivial
 | some d=>cases d with
   | slice elem=>
     simp only
     rw[qh,Wu,B6]
     cases hs:b7 E elem with
     | none=>trivial
     | some m=>cases hb:jT E elem with
       | none=>trivial
       | some bytes=>cases hz:g5 E elem with
         | none=>trivial
         | some z=>
           simp only
           by_cases hm:z.cells.length=m
           · rw[if_pos hm]
             refine ⟨fun _=>rfl,fun _ _=>rfl,fun r p e=>?_⟩
             obtain ⟨k1,a,e1,q1⟩:=kR e
             obtain ⟨k2,b,e2,q2⟩:=kR q1
             obtain ⟨a',rfl,q3⟩:=qf q2
             obtain ⟨b',rfl,q4⟩:=qf q3
             obtain ⟨c1,q5⟩:=hF q4
             obtain ⟨c2,q6⟩:=tq q5
             obtain ⟨c3,q7⟩:=hF q6
             have c1:=gU c1
             have c2:=lS c2
             have c3:bytes*b'≤140737488355328:=gU c3
             simp only[fp,hu,hs,hb,hz,hl,hc,e1,e2]
             rw[if_pos ⟨by omega,by omega,by omega,by have:(bytes:Int)*(b':Int)=((bytes*b':Nat):Int):=by simp
                                                      rw[this];omega,hm⟩]
             rw[←q7,aaU];rfl
           · rw[if_neg hm];trivial
   | _=>trivial
theorem M6 (k:List UInt8):∀(l:List mn) (i:Nat) {x:Option AV},findF k l=some x→∃y,vf (.str k) l i=some y∧y.map (·.2)=x
 | [],i,x,h=>⟨none,rfl,by cases h;rfl⟩
 | e::es,i,x,h=>by
   obtain ⟨s,h1,h2⟩:=qd (show tg (fun s=>bc (leq E0 k s) (some (some e.val)) (findF k es)) none e.key=some x from h)
   rw[PE] at h2
   rw[vf,h1]
   show ∃y,(match (some (k==s):Option Bool) with | some true=>some (some (i,e.val)) | some false=>vf (.str k) es (i+1) | none=>none)=some y∧_
   cases hb:k==s with
   | true=>
     rw[hb,kD] at h2
     exact ⟨some (i,e.val),rfl,Option.some.inj h2⟩
   | false=>
     rw[hb,fe] at h2
     exact M6 k es (i+1) h2
noncomputable def ahj (h:aw) (m:AV):Option (List mn):=match m with
 | .eY=>some []
 | .map i=>(match h.get i with | some (.map es _)=>some es | _=>none)
 | _=>none
theorem WE {z:AV} {ok:Bool} {h:aw} {m k v:AV} (e:Rz z ok h m k=some v):
 (∃s,k= .str s)∧∃es,(match m with | .eY=>some [] | .map i=>(match h.get i with | some (.map es _)=>some es | _=>none) | _=>none)=some es∧
  ∃y,vf k es 0=some y∧v=(match y with | some (_,w)=>(if ok then .tuple [w,.bool true] else w) | none=>if ok then .tuple [z,.bool false] else z):=by
 obtain ⟨s,rfl,e1⟩:=qd e
 obtain ⟨es,h1,e2⟩:=iD e1
 obtain ⟨x,h2,e3⟩:=iD e2
 refine ⟨⟨s,rfl⟩,es,?_,?_⟩
 · cases m with
   | eY=>exact h1
   | map i=>
     obtain ⟨o,h3,h4⟩:=iD (show ob none (fun o=>aaC (fun es=>some es) none o) (h.get i)=some es from h1)
     simp only[h3]
     cases o with
     | map mj c=>exact h4
     | _=>cases h4
   | _=>cases h1
 · obtain ⟨y,h3,h4⟩:=M6 s es 0 h2
   refine ⟨y,h3,?_⟩
   have e4:=Option.some.inj e3
   rw[←e4,←h4]
   cases y with
   | none=>cases ok<;>rfl
   | some y=>obtain ⟨_,w⟩:=y;cases ok<;>rfl
theorem TG (t:TypeId) (x ix:Operand) (ok:Bool):h_ E F n (.lookup t x ix ok) (wO E F n x (fun gx=>wO E F n ix (fun gi=>match lx E.P t with
 | some (.map key elem)=>match lx E.P key,OY E elem with
   | some .string,some z=> .red fun r h=>Rz z ok h (gx r) (gi r)
   | _,_=> .red fun r h=>fb E (gn F n r) h (.lookup t x ix ok)
 | _=> .bad) .bad) .bad):=by
 let K:(F.T→AV)→(F.T→AV)→Kd F.T:=fun gx gi=>match lx E.P t with
  | some (.map key elem)=>match lx E.P key,OY E elem with
    | some .string,some z=> .red fun r h=>Rz z ok h (gx r) (gi r)
    | _,_=> .red fun r h=>fb E (gn F n r) h (.lookup t x ix ok)
  | _=> .bad
 show h_ E F n _ (wO E F n x (fun gx=>wO E F n ix (fun gi=>K gx gi) .bad) .bad)
 rcases ch E F n x (fun gx=>wO E F n ix (fun gi=>K gx gi) .bad) .bad with h | ⟨gx,h,hx⟩<;>rw[h]
 · trivial
 rcases ch E F n ix (fun gi=>K gx gi) .bad with h | ⟨gi,h,hi⟩<;>rw[h]
 · trivial
 simp only[K,jX,B6]
 have B4:h_ E F n (.lookup t x ix ok) (.red fun r h=>fb E (gn F n r) h (.lookup t x ix ok)):=fun r h v e=> .inr ⟨rfl,e⟩
 cases hu:E.P.underlying t with
 | none=>trivial
 | some d=>cases d with
   | map key elem=>
     simp only
     cases hk:E.P.underlying key with
     | none=>exact B4
     | some kd=>cases kd with
       | string=>cases hz:g5 E elem with
         | none=>exact B4
         | some z=>
           intro r h v e
           refine .inr ⟨rfl,?_⟩
           obtain ⟨⟨s,hs⟩,es,h1,y,h2,rfl⟩:=WE e
           simp only[fb,hu,hx,hi,hk]
           rw[hs] at h2 ⊢
           rw[if_pos (show jU (some TypeDesc.string) (AV.str s)=true from rfl)]
           have h1':ahj h (gx r)=some es:=h1
           change (match ahj h (gx r) with
            | none=>none
            | some es=>match vf (AV.str s) es 0 with
              | none=>none
              | some (some (_,v))=>some (if ok then AV.tuple [v,.bool true] else v)
              | some none=>match g5 E elem with
                | some z=>some (if ok then AV.tuple [z,.bool false] else z)
                | none=>none)=_
           rw[h1']
           simp only[h2,hz]
           cases y with
           | none=>rfl
           | some y=>obtain ⟨_,w⟩:=y;rfl
       | _=>exact B4
   | _=>trivial
theorem E':∀(fs:List Field),D' E fs=placesOf E fs
 | []=>rfl
 | f::fs=>by
   show ob none (fun n=>ob none (fun l=>some ((f.offset,n)::l)) (D' E fs)) (zH E f.type)=_
   rw[E' fs,qh]
   simp only[placesOf,fE]
   cases b7 E f.type with
   | none=>rfl
   | some n=>
     show ob none (fun l=>some ((f.offset,n)::l)) (fE _ fs)=_
     cases fE (fun f=>match b7 E f.type with | some n=>some (f.offset,n) | none=>none) fs<;>rfl
theorem M7 (ps:List (Nat×Nat)):∀(l:List (Nat×AV)) (cs:List AV) {v:List AV},MU ps cs l=some v→pO (ps[·]?) cs l=some v
 | [],cs,v,h=>h
 | (i,x)::l,cs,v,h=>by
   obtain ⟨q,h1,h2⟩:=iD (show ob none (fun (q:Nat×Nat)=>bc (Nat.beq (j7 (mW x)) q.2) (bc (Nat.ble (q.1+q.2) (j7 cs)) (MU ps (MK (mW x) cs q.1) l) none) none) (j8 ps i)=some v from h)
   obtain ⟨h3,h4⟩:=hF h2
   obtain ⟨h5,h6⟩:=hF h4
   have h3:=o_ h3
   have h5:=gU h5
   rw[g_,nO] at h3
   rw[g_] at h5
   rw[iR] at h1
   rw[pO]
   obtain ⟨off,size⟩:=q
   simp only[h1]
   rw[if_pos ⟨h3,h5⟩,←Kj,←nO]
   exact M7 ps l _ h6
theorem WG (t:TypeId) (parts:Array (Nat×Operand)):h_ E F n (.build t parts) (match OY E t,lx E.P t with
 | some z,some (.struct fs)=>match D' E fs.toList with
   | some ps=>wPs E F n parts.toList (fun gp=> .iJ fun r=>ob none (fun cs=>some (.agg cs)) (MU ps (mW z) (gp r))) .bad
   | none=> .bad
 | _,_=> .iJ fun r=>bx E (gn F n r) (.build t parts)):=by
 have B4:h_ E F n (.build t parts) (.iJ fun r=>bx E (gn F n r) (.build t parts)):=fun r v e=>e
 rw[jX,B6]
 cases hz:g5 E t with
 | none=>exact B4
 | some z=>cases hu:E.P.underlying t with
   | none=>exact B4
   | some d=>cases d with
     | struct fs=>
       simp only
       rw[E']
       cases hp:placesOf E fs.toList with
       | none=>trivial
       | some ps=>
         simp only
         rcases E9 E F n parts.toList (fun gp=>(.iJ fun r=>ob none (fun cs=>some (.agg cs)) (MU ps (mW z) (gp r)):Kd F.T)) .bad with h | ⟨g,h,hg⟩<;>rw[h]
         · trivial
         · intro r v e
           obtain ⟨cs,h1,e2⟩:=iD e
           have h1:=M7 ps _ _ h1
           rw[nO] at h1
           simp only[bx,hg,JH,hz,hu,hp,h1]
           exact e2
     | _=>exact B4
theorem Ko (t:TypeId) (m k x:Operand):h_ E F n (.mapUpdate t m k x) (wO E F n m (fun gm=>wO E F n k (fun gk=>wO E F n x (fun gx=> .wr fun r h=>ob none (fun h'=>some (AV.undef,h')) (fM E h t (gm r) (gk r) (gx r))) .bad) .bad) .bad):=by
 rcases ch E F n m (fun gm=>wO E F n k (fun gk=>wO E F n x (fun gx=>(.wr fun r h=>ob none (fun h'=>some (AV.undef,h')) (fM E h t (gm r) (gk r) (gx r)):Kd F.T)) .bad) .bad) .bad with h | ⟨gm,h,hm⟩<;>rw[h]
 · trivial
 rcases ch E F n k (fun gk=>wO E F n x (fun gx=>(.wr fun r h=>ob none (fun h'=>some (AV.undef,h')) (fM E h t (gm r) (gk r) (gx r)):Kd F.T)) .bad) .bad with h | ⟨gk,h,hk⟩<;>rw[h]
 · trivial
 rcases ch E F n x (fun gx=>(.wr fun r h=>ob none (fun h'=>some (AV.undef,h')) (fM E h t (gm r) (gk r) (gx r)):Kd F.T)) .bad with h | ⟨gx,h,hx⟩<;>rw[h]
 · trivial
 refine ⟨⟨fun _=>rfl,fun _ _=>rfl,fun _=>rfl⟩,fun call r h rc o p ho e=>?_⟩
 obtain ⟨h',h1,e2⟩:=iD e
 have e3:=Option.some.inj e2
 simp only[dL,ho,hm,hk,hx,h1,←e3]
theorem TH (t:TypeId) (m k x:Operand):h_ E F n (.insert t m k x) (wO E F n m (fun gm=>wO E F n k (fun gk=>wO E F n x (fun gx=> .wr fun r h=>ob none (fun h'=>some (AV.undef,h')) (fM E h t (gm r) (gk r) (gx r))) .bad) .bad) .bad):=by
 rcases ch E F n m (fun gm=>wO E F n k (fun gk=>wO E F n x (fun gx=>(.wr fun r h=>ob none (fun h'=>some (AV.undef,h')) (fM E h t (gm r) (gk r) (gx r)):Kd F.T)) .bad) .bad) .bad with h | ⟨gm,h,hm⟩<;>rw[h]
 · trivial
 rcases ch E F n k (fun gk=>wO E F n x (fun gx=>(.wr fun r h=>ob none (fun h'=>some (AV.undef,h')) (fM E h t (gm r) (gk r) (gx r)):Kd F.T)) .bad) .bad with h | ⟨gk,h,hk⟩<;>rw[h]
 · trivial
 rcases ch E F n x (fun gx=>(.wr fun r h=>ob none (fun h'=>some (AV.undef,h')) (fM E h t (gm r) (gk r) (gx r)):Kd F.T)) .bad with h | ⟨gx,h,hx⟩<;>rw[h]
 · trivial
 refine ⟨⟨fun _=>rfl,fun _ _=>rfl,fun _=>rfl⟩,fun call r h rc o p ho e=>?_⟩
 obtain ⟨h',h1,e2⟩:=iD e
 have e3:=Option.some.inj e2
 simp only[dL,ho,hm,hk,hx,h1,←e3]
theorem aaV (it:Operand) (s:Bool):h_ E F n (.next it s) (wO E F n it (fun g=> .wr fun r h=>Iq h (g r) s) .bad):=by
 rcases ch E F n it (fun g=>(.wr fun r h=>Iq h (g r) s:Kd F.T)) .bad with h | ⟨g,h,hg⟩<;>rw[h]
 · trivial
 refine ⟨⟨fun _=>rfl,fun _ _=>rfl,fun _=>rfl⟩,fun call r h rc o p ho e=>?_⟩
 simp only[dL,ho,hg,e]
theorem WH (x:Operand):h_ E F n (.panic x) (wO E F n x (fun g=> .xw fun _ r h _=>th (fun t w=> .panic (.iface t w) h) (.fail "" none) (g r)) .bad):=by
 rcases ch E F n x (fun g=>(.xw fun _ r h _=>th (fun t w=> .panic (.iface t w) h) (.fail "" none) (g r):Kd F.T)) .bad with h | ⟨g,h,hg⟩<;>rw[h]
 · trivial
 refine ⟨⟨fun _=>rfl,fun _ _=>rfl,fun _=>rfl⟩,fun fc call _ r h rc o ho=>?_⟩
 rcases M1 (f:=fun t w=>BE.panic (.iface t w) h) (why:= "") (o:=none) (g r) with ⟨t,w,e⟩ | e
 · simp only[dL,ho,hg,e];rfl
 · show ELe (th _ _ _) _
   rw[e];trivial
theorem WI (c:Call):h_ E F n (.defer c) (.xw fun _ r _ rc=>match rc,callee E (gn F n r) c with
 | .L4 _,_=> .fail "" none
 | _,some (.fn f,args)=> .defer (.call f args)
 | _,_=> .fail "" none):=by
 refine ⟨⟨fun _=>rfl,fun _ _=>rfl,fun _=>rfl⟩,fun fc call _ r h rc o ho=>?_⟩
 simp only[dL,ho]
 cases rc with
 | L4 l=>trivial
 | _=>cases hc:callee E (gn F n r) c with
   | none=>trivial
   | some p=>obtain ⟨f,args⟩:=p;cases f<;>first | trivial | rfl
theorem PG (src dst:TypeId) (x:Operand):h_ E F n (.convert src dst x) (wO E F n x (RA E src dst) .bad):=by
 rcases ch E F n x (RA E src dst) (.bad:Kd F.T) with h | ⟨g,h,hg⟩<;>rw[h]
 · trivial
 unfold RA
 simp only[jX]
 cases hs:E.P.underlying src with
 | none=>trivial
 | some ds=>cases hd:E.P.underlying dst with
   | none=>cases ds<;>trivial
   | some dd=>
     cases ds<;>cases dd<;>try trivial
     case int.int k k'=>
      intro r v e
      obtain ⟨j,m,e1,e2⟩:=kR e
      simp only[bx,hs,hd,hg,e1]
      rw[←qg];exact e2
     case string.string=>
      intro r v e
      obtain ⟨s,e1,e2⟩:=qd e
      simp only[bx,hs,hd,hg,e1];exact e2
     case string.slice e=>
      refine ⟨⟨fun _=>by simp only[bx,hs,hd],fun _ _=>by simp only[fb,hs,hd],fun _=>rfl⟩,fun call r h rc o p ho e=>?_⟩
      simp only[dL,ho,hg,e]
     case slice.string el=>
      simp only
      cases he:E.P.underlying el with
      | none=>trivial
      | some de=>
        cases de<;>try trivial
        rename_i k
        cases k<;>try trivial
        intro r h v e
        rcases qe e with ⟨e1,e2⟩ | ⟨i,o,l,c,b,e1,e2⟩
        · refine .inr ⟨by simp only[bx,hs,hd,hg,e1],?_⟩
          simp only[fb,hs,hd,hg,he]
          simp only[e1];exact e2
        · refine .inr ⟨by simp only[bx,hs,hd,hg,e1],?_⟩
          simp only[fb,hs,hd,hg,he]
          simp only[e1]
          obtain ⟨l',h1,e3⟩:=iD e2
          simp only[h1];exact e3
end Go.Ab.Fa
end
