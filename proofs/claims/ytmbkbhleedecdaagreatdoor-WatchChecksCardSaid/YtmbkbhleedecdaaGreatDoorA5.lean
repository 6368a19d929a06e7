import Derived.Test.YtmbkbhleedecdaaGreatDoorA4
import Derived.Test.YtmbkbhleedecdaaGreatDoorA0
set_option linter.unusedVariables false
set_option linter.unusedSimpArgs false
section
namespace Go.Ab.Fa
structure W (α:Type) where
 f:α
section
variable {α β T:Type}
noncomputable def wW (w:W α) (k:α→β):β:=W.rec (motive:=fun _=>β) k w
noncomputable def wA (a:Acc T) (k:(T→AV)→β):β:=Acc.rec (motive:=fun _=>β) k a
noncomputable def wU (a:ZT T) (k:(AV→T→T)→β):β:=ZT.rec (motive:=fun _=>β) k a
end
structure Y where
 ds:List ny
 rc:RC
inductive FO (T:Type) where
 | Hw (r:T) (h:ax) (y:Y)
 | jmp (e:jY) (r:T) (h:ax) (y:Y)
 | bad
structure I (T:Type) where
 run:a_→T→ax→Y→FO T
structure C (T:Type) where
 run:Nat→a_→T→ax→Y→FO T
inductive Kd (T:Type) where
 | Gr (f:T→AV)
 | gG (f:T→Option AV)
 | red (f:T→ax→Option AV)
 | sg (f:T→Option (aK×(Nat→AV)))
 | wr (f:T→ax→Option (AV×ax))
 | call (g:Fn) (args:T→List AV)
 | uF (f:a_→T→ax→RC→yh)
 | bad
section
variable (E:Env) (F:RF) (n:Nat)
noncomputable def wT {β:Type} (i:Nat) (k:(F.T→AV)→β):β:=bc (Nat.ble n i) (k fun _=>AV.undef) (wA (F.get i) k)
noncomputable def wO {β:Type} (x:Operand) (k:(F.T→AV)→β) (d:β):β:=match x with
 | .tmp t=>wT F n t k
 | .const v=>match ofConst v with
   | some a=>k fun _=>a
   | none=>d
 | .global g=>bc (Nat.ble E.G g) d (k fun _=> .ptr g 0)
 | .func f=>k fun _=> .func f [] []
noncomputable def wL {β:Type} (l:List Operand) (k:(F.T→List AV)→β) (d:β):β:=match l with
 | []=>k fun _=> []
 | x::xs=>wO E F n x (fun g=>wL xs (fun gs=>k fun r=>g r::gs r) d) d
noncomputable def wP {β:Type} (o:Option Operand) (k:Option (F.T→AV)→β) (d:β):β:=match o with
 | none=>k none
 | some x=>wO E F n x (fun g=>k (some g)) d
noncomputable def wS {β:Type} (o:Option Tmp) (k:(AV→F.T→F.T)→β):β:=match o with
 | none=>k fun _ r=>r
 | some i=>bc (Nat.ble n i) (k fun _ r=>r) (wU (F.set i) k)
noncomputable def wb (t:TypeId):Option Nat:=ob none (fun i=>some i.size) (zq E.P t)
noncomputable def W0 (t:TypeId):Option Nat:=if E.bld=some t then none else ob none (fun i=>some i.bytes) (zq E.P t)
noncomputable def Je (t:TypeId):Option AV:=ob none (fun i=>ob none (fun z=>ofConst z) i.zero) (zq E.P t)
noncomputable def agF (t:TypeId):Option Bool:=match jM E.P t with
 | some (.struct _)=>some true
 | some (.array _ _)=>some true
 | some _=>some false
 | none=>none
noncomputable def Y2 (t:TypeId) (f:Nat):Option Field:=match jM E.P t with
 | some (.struct fs)=>iL fs.toList f
 | _=>none
variable {T:Type}
noncomputable def Pa (op:BinOp):W (IntKind→Int→Int→Option AV):=match op with
 | .add=>⟨fun k a b=>some (.int k (vc k (qY a b)))⟩
 | .sub=>⟨fun k a b=>some (.int k (vc k (gD a b)))⟩
 | .mul=>⟨fun k a b=>some (.int k (vc k (Hn a b)))⟩
 | .eql=>⟨fun _ a b=>some (.bool (Vv a b))⟩
 | .neq=>⟨fun _ a b=>some (.bool (vx (Vv a b)))⟩
 | .lss=>⟨fun _ a b=>some (.bool (Tp a b))⟩
 | .leq=>⟨fun _ a b=>some (.bool (vx (Tp b a)))⟩
 | .gtr=>⟨fun _ a b=>some (.bool (Tp b a))⟩
 | .geq=>⟨fun _ a b=>some (.bool (vx (Tp a b)))⟩
 | op=>⟨Tq op⟩
noncomputable def M1 (op:BinOp):W (List UInt8→List UInt8→Option AV):=match op with
 | .eql=>⟨fun a b=>some (.bool (leq A8 a b))⟩
 | .neq=>⟨fun a b=>some (.bool (vx (leq A8 a b)))⟩
 | op=>⟨qJ op⟩
noncomputable def Tw (f:IntKind→Int→Int→Option AV) (g:List UInt8→List UInt8→Option AV) (yG:AV→AV→Option AV) (a b:AV):Option AV:=
 nL (fun k x=>nL (fun j y=>bc (O3 k j) (f k x y) none) none b) (qW (fun s=>qW (fun t=>g s t) none b) (yG a b) a) a
noncomputable def bu (op:BinOp) (yG:AV→AV→Option AV) (ga gb:T→AV):Kd T:=match op with
 | .shl=> .gG fun r=>nL (fun k x=>nL (fun _ y=>ZU k x y) none (gb r)) none (ga r)
 | .shr=> .gG fun r=>nL (fun k x=>nL (fun _ y=>ZV k x y) none (gb r)) none (ga r)
 | op=>wW (Pa op) fun f=>wW (M1 op) fun g=> .gG fun r=>Tw f g yG (ga r) (gb r)
noncomputable def ZW (op:UnOp) (ga:T→AV):Kd T:=match op with
 | .not=> .gG fun r=>jo (fun b=>some (.bool (vx b))) none (ga r)
 | op=> .gG fun r=>YM op (ga r)
noncomputable def Pb (cs:List AV) (o:Nat):Option AV:=iL cs o
noncomputable def Pc (n:Nat) (cs:List AV) (o:Nat):Option AV:=bc (Nat.ble (Nat.add o n) (iK cs)) (some (.agg (sB (sA cs o) n))) none
noncomputable def wH (t:TypeId) (k:(List AV→Nat→Option AV)→Kd T):Kd T:=match agF E t with
 | some true=>match wb E t with
   | some n=>k (Pc n)
   | none=> .bad
 | some false=>k Pb
 | none=> .bad
noncomputable def Hx (p:List AV→Nat→Option AV) (h:ax) (a:AV):Option AV:=
 yz (fun i o=>ob none (fun obj=>yB (fun cs _ _=>p cs o) none obj) (h.get i)) none a
noncomputable def Bb (n:Nat) (h:ax) (a v:AV):Option (AV×ax):=
 yz (fun i o=>ob none (fun obj=>yB (fun cs e ro=>bc ro none
  (bc (Nat.beq (iK (lu v)) n) (bc (Nat.ble (Nat.add o n) (iK cs)) (bc (yC Tr (lu v)) (some (AV.undef,h.put i (some (.cells (Hp (lu v) cs o) e false)))) none) none) none)) none obj) (h.get i)) none a
noncomputable def E4 (len size:Nat) (i o:Nat) (ix:AV):Option AV:=
 nL (fun _ n=>kA (fun m=>bc (Nat.ble len m) none (some (.ptr i (Nat.add o (Nat.mul m size))))) none n) none ix
noncomputable def E5 (d y:Nat) (o:Option AV) (k:Nat→Option AV):Option AV:=
 ob (k d) (fun v=>nL (fun _ i=>kA (fun m=>bc (Nat.ble m y) (k m) none) none i) none v) o
noncomputable def slF (size:Nat) (lo hi:Option AV) (v:AV):Option AV:=
 jq (E5 0 0 hi fun h=>E5 0 h lo fun _=>some .aX)
  (fun i o len cap op=>bc (Nat.ble len cap) (E5 len cap hi fun h=>E5 0 h lo fun l=>
   bc (Nat.beq cap l) (bc op (some .eR) (some (.slice i o (Nat.sub h l) (Nat.sub cap l) false))) (some (.slice i (Nat.add o (Nat.mul l size)) (Nat.sub h l) (Nat.sub cap l) op))) none) none v
noncomputable def slS (lo hi:Option AV) (v:AV):Option AV:=
 qW (fun s=>E5 (iK s) (iK s) hi fun h=>E5 0 h lo fun l=>some (.str (sB (sA s l) (Nat.sub h l)))) none v
noncomputable def slA (m size:Nat) (lo hi:Option AV) (v:AV):Option AV:=
 yz (fun i o=>E5 m m hi fun h=>E5 0 h lo fun l=>some (.slice i (bc (Nat.beq m l) o (Nat.add o (Nat.mul l size))) (Nat.sub h l) (Nat.sub m l) false)) none v
noncomputable def Dh (o:Option (T→AV)) (r:T):Option AV:=ob none (fun g=>some (g r)) o
noncomputable def ZX (v:AV):Option Nat:=jq (some 0) (fun _ _ n _ _=>some n) (qW (fun s=>some (iK s)) (rQ v) v) v
noncomputable def Pd (h:ax) (size n:Nat) (v:AV):Option (List AV):=
 jq (bc (Nat.beq n 0) (some []) none) (fun i o len _ _=>bc (Nat.ble n len) (ob none (fun obj=>yB (fun cs _ _=>bc (Nat.ble (Nat.add o (Nat.mul n size)) (iK cs)) (some (sB (sA cs o) (Nat.mul n size))) none) none obj) (h.get i)) none)
  (g_ h size n v) v
noncomputable def ZY (elem:TypeId) (size bytes:Nat) (h:ax) (s x:AV):Option (AV×ax):=
 ob none (fun n=>ob none (fun new=>bc (yC Tr new) (bc (Nat.beq (iK new) (Nat.mul n size))
  (jq
   (bc (Nat.beq n 0) (some (.aX,h)) (bc (Nat.ble (Nat.mul (Nat.add (Nat.mul 4 n) 4096) (Nat.add bytes 1)) 1099511627776)
    (ob none (fun h'=>some (.slice h.nx 0 n n true,h')) (h.new (.cells new elem false))) none))
   (fun i o len cap op=>ob none (fun obj=>yB (fun cs e ro=>bc ro none
    (bc (Nat.ble (Nat.add len n) cap)
     (bc (Nat.ble (Nat.add o (Nat.mul (Nat.add len n) size)) (iK cs)) (some (.slice i o (Nat.add len n) cap op,h.put i (some (.cells (Hp new cs (Nat.add o (Nat.mul len size))) e false)))) none)
     (bc (Nat.ble (Nat.mul (Nat.add (Nat.mul 4 (Nat.add len n)) 4096) (Nat.add bytes 1)) 1099511627776)
      (bc (Nat.ble (Nat.add o (Nat.mul len size)) (iK cs))
       (bc op
        (bc (Nat.beq e elem) (bc (Nat.beq (Nat.add o (Nat.mul cap size)) (iK cs)) (bc (Nat.beq o 0)
         (ob none (fun h'=>some (.slice h.nx 0 (Nat.add len n) (Nat.add len n) true,h')) ((h.put i none).new (.cells (lf (sB (sA cs o) (Nat.mul len size)) new) elem false))) none) none) none)
        (ob none (fun h'=>some (.slice h.nx 0 (Nat.add len n) (Nat.add len n) true,h')) (h.new (.cells (lf (sB (sA cs o) (Nat.mul len size)) new) elem false)))) none) none)))
    none obj) (h.get i))
   none s) none) none) (Pd h size n x)) (ZX x)
noncomputable def JT (argTypes:Array TypeId) (gs gx:T→AV):Kd T:=match iL argTypes.toList 0,iL argTypes.toList 1 with
 | some sT,some xT=>match jM E.P sT,jM E.P xT with
   | some (.slice elem),some xd=>if pM xd then .wr fun r h=>se E h elem (gs r) (gx r) else match wb E elem,W0 E elem,Je E elem with
     | some size,some bytes,some z=>if z.cells.length=size then .wr fun r h=>ZY elem size bytes h (gs r) (gx r) else .bad
     | _,_,_=> .bad
   | _,_=> .bad
 | _,_=> .bad
noncomputable def Tx {β:Type} (l:List (Nat×Operand)) (k:(F.T→List (Nat×AV))→β) (d:β):β:=match l with
 | []=>k fun _=> []
 | (i,x)::xs=>wO E F n x (fun g=>Tx xs (fun gs=>k fun r=>(i,g r)::gs r) d) d
noncomputable def Ar (fs:List Field):Option (List (Nat×Nat)):=List.rec (motive:=fun _=>Option (List (Nat×Nat))) (some []) (fun f _ ih=>ob none (fun n=>ob none (fun l=>some ((f.offset,n)::l)) ih) (wb E f.type)) fs
noncomputable def Hy (ps:List (Nat×Nat)) (cs:List AV) (l:List (Nat×AV)):Option (List AV):=
 List.rec (motive:=fun _=>List AV→Option (List AV)) (fun cs=>some cs) (fun p _ ih cs=>ob none (fun (q:Nat×Nat)=>bc (Nat.beq (iK (lu p.2)) q.2) (bc (Nat.ble (Nat.add q.1 q.2) (iK cs)) (ih (Hp (lu p.2) cs q.1)) none) none) (iL ps p.1)) l cs
noncomputable def W1 (z:List AV) (m:Nat):List AV:=Nat.rec (motive:=fun _=>List AV) [] (fun _ ih=>lf z ih) m
noncomputable def Ty (elem:TypeId) (bytes:Nat) (z:List AV) (l c:AV):Option (aK×(Nat→AV)):=
 nL (fun _ len=>nL (fun _ cap=>kA (fun len=>kA (fun cap=>bc (Nat.ble len cap) (bc (Nat.ble 1073741824 cap) none (bc (Nat.ble (Nat.mul bytes cap) 140737488355328)
  (some (.cells (W1 z cap) elem false,fun i=> .slice i 0 len cap false)) none)) none) none cap) none len) none c) none l
noncomputable def findF (k:List UInt8) (l:List gO):Option (Option AV):=List.rec (motive:=fun _=>Option (Option AV)) (some none) (fun e _ ih=>qW (fun s=>bc (leq A8 k s) (some (some e.val)) ih) none e.key) l
noncomputable def Tz {R:Type} (f:List gO→R) (d:R) (o:aK):R:=
 aK.rec (motive:=fun _=>R) (fun _ _ _=>d) (fun es _=>f es) (fun _ _=>d) (fun _ _ _ _=>d) (fun _ _ _ _ _ _ _=>d) d o
noncomputable def Z0 {R:Type} (e:R) (f:Nat→R) (d:R) (v:AV):R:=
 AV.rec (motive_1:=fun _=>R) (motive_2:=fun _=>Unit) (fun _=>d) (fun _ _=>d) (fun _=>d) d (fun _ _=>d) d (fun _ _ _ _ _=>d) e (fun i=>f i) (fun _ _ _ _ _=>d) (fun _=>d) d (fun _ _ _=>d) d (fun _ _=>d) (fun _ _=>d) d d () (fun _ _ _ _=>()) v
noncomputable def Lw (h:ax) (m:AV):Option AV:=
 Z0 (some (.int .i64 (Int.ofNat 0))) (fun i=>ob none (fun o=>Tz (fun es=>some (.int .i64 (Int.ofNat (iK es)))) none o) (h.get i)) none m
noncomputable def Lx (z:AV) (ok:Bool) (h:ax) (m k:AV):Option AV:=
 qW (fun s=>ob none (fun es=>ob none (fun r=>some (ob (bc ok (.tuple [z,.bool false]) z) (fun v=>bc ok (.tuple [v,.bool true]) v) r)) (findF s es))
  (Z0 (some []) (fun i=>ob none (fun o=>Tz (fun es=>some es) none o) (h.get i)) none m)) none k
noncomputable def mB (o:iQ):yh:=iQ.rec (motive:=fun _=>yh) .val .panic .fail o
noncomputable def Hz (t:TypeId) (name:String):Option FuncId:=wc E t name
noncomputable def Vz (c:Call) (op:Op):Kd F.T:=match c.callee with
 | .invoke x name=>wO E F n x (fun gx=>wL E F n c.args.toList (fun gs=> .uF fun call r h _=>qX
  (fun t v=>ob (.fail "" none) (fun f=>mB (call (.fn f) (v::gs r) h)) (Hz E t name)) (.fail "" none) (gx r)) .bad) .bad
 | .value (.func f)=>wL E F n c.args.toList (fun gs=>match E.mi f with
   | some e=> .gG fun r=>e (gs r)
   | none=>match E.ir f with
     | some g=> .wr fun r h=>g (gs r) h
     | none=> .call (.fn f) gs) .bad
 | .value x=>wO E F n x (fun gf=>wL E F n c.args.toList (fun gs=> .uF fun call r h _=>Lt
  (fun g first captured=>ob (mB (call (.fn g) (lf first (lf (gs r) captured)) h)) (fun sp=>ob (.fail "" none) (fun p=> .val p.1 p.2) (sp (lf first (lf (gs r) captured)) h)) (E.ir g))
  (fun l=>mB (call (.ze l) (gs r) h)) (.fail "" none) (gf r)) .bad) .bad
 | .builtin .len=>match iL c.argTypes.toList 0,c.args.toList with
   | some t,[x]=>wO E F n x (fun g=>match jM E.P t with
     | some .string=> .gG fun r=>qW (fun s=>some (.int .i64 (Int.ofNat (iK s)))) none (g r)
     | some (.array m _)=> .gG fun _=>some (.int .i64 (Int.ofNat m))
     | some (.slice _)=> .gG fun r=>jq (some (.int .i64 (Int.ofNat 0))) (fun _ _ m _ _=>some (.int .i64 (Int.ofNat m))) (vZ (some (.int .i64 (Int.ofNat 0))) none (g r)) (g r)
     | some (.map _ _)=> .red fun r h=>Lw h (g r)
     | _=> .bad) .bad
   | _,_=> .bad
 | .builtin .cap=>match iL c.argTypes.toList 0,c.args.toList with
   | some t,[x]=>wO E F n x (fun g=>match jM E.P t with
     | some (.slice _)=> .gG fun r=>jq (some (.int .i64 (Int.ofNat 0))) (fun _ _ _ c b=>bc b none (some (.int .i64 (Int.ofNat c)))) none (g r)
     | _=> .bad) .bad
   | _,_=> .bad
 | .builtin .max=> .gG fun r=>bp E (eV F n r) op
 | .builtin .min=> .gG fun r=>bp E (eV F n r) op
 | .builtin .append=>match c.args.toList with
   | [s,x]=>wO E F n s (fun gs=>wO E F n x (fun gx=>JT E c.argTypes gs gx) .bad) .bad
   | _=> .bad
 | .builtin .copy=>match c.args.toList with
   | [s,x]=>wO E F n s (fun gs=>wO E F n x (fun gx=> .wr fun r h=>uZ E h c.argTypes (gs r) (gx r)) .bad) .bad
   | _=> .bad
 | .builtin .recover=> .uF fun _ _ h rc=>match rc with
   | .iJ x=> .rK x
   | .Gp _=> .fail "" none
   | _=> .val .nilIface h
 | _=> .bad
noncomputable def Ly (src dst:TypeId) (g:T→AV):Kd T:=match jM E.P src,jM E.P dst with
 | some (.int _),some (.int k)=> .gG fun r=>nL (fun _ n=>some (.int k (vc k n))) none (g r)
 | some .string,some .string=> .gG fun r=>qW (fun s=>some (.str s)) none (g r)
 | some (.slice e),some .string=>match jM E.P e with
   | some (.int .u8)=> .red fun r h=>jq (some (.str [])) (fun i o len _ _=>ob none (fun l=>some (.str l)) (tV h i o len)) none (g r)
   | _=> .bad
 | some .string,some (.slice _)=> .wr fun r h=>Dx E h src dst (some (g r))
 | _,_=> .bad
noncomputable def vd (op:Op):Kd F.T:=match op with
 | .move x=>wO E F n x .Gr .bad
 | .assign x=>wO E F n x .Gr .bad
 | .pick c a b=>wO E F n c (fun gc=>wO E F n a (fun ga=>wO E F n b (fun gb=> .gG fun r=>jo (fun t=>bc t (some (ga r)) (some (gb r))) none (gc r)) .bad) .bad) .bad
 | .binOp op t x y _=>wO E F n x (fun gx=>wO E F n y (fun gy=>bu op (jG E op t (isConst x) (isConst y)) gx gy) .bad) .bad
 | .unOp op _ x=>wO E F n x (ZW op) .bad
 | .fieldAddr s x f=>match Y2 E s f with
   | some fd=>match wb E fd.type with
     | some (_+1)=>wO E F n x (fun g=> .gG fun r=>yz (fun i o=>some (.ptr i (Nat.add o fd.offset))) none (g r)) .bad
     | _=> .bad
   | none=> .bad
 | .load t a=>wO E F n a (fun g=>wH E t fun p=> .red fun r h=>Hx p h (g r)) .bad
 | .store t a x=>match wb E t with
   | some m=>wO E F n a (fun ga=>wO E F n x (fun gx=> .wr fun r h=>Bb m h (ga r) (gx r)) .bad) .bad
   | none=> .bad
 | .nilCheck x=>wO E F n x (fun g=> .gG fun r=>bc (EW (g r)) (some (g r)) none) .bad
 | .extract x i=>wO E F n x (fun g=> .gG fun r=>yA (fun _=>none) (fun vs=>iL vs i) none (g r)) .bad
 | .field s x f=>match Y2 E s f with
   | some fd=>wO E F n x (fun g=>wH E fd.type fun p=> .gG fun r=>yA (fun cs=>p cs fd.offset) (fun _=>none) none (g r)) .bad
   | none=> .bad
 | .indexAddr t x ix=>wO E F n x (fun gx=>wO E F n ix (fun gi=>match jM E.P t with
   | some (.array len elem)=>match wb E elem with
     | some size=> .gG fun r=>yz (fun i o=>E4 len size i o (gi r)) none (gx r)
     | none=> .bad
   | some (.slice elem)=>match wb E elem with
     | some size=> .gG fun r=>jq none (fun i o len _ _=>E4 len size i o (gi r)) none (gx r)
     | none=> .bad
   | _=> .bad) .bad) .bad
 | .index t x ix=>wO E F n x (fun gx=>wO E F n ix (fun gi=>match jM E.P t with
   | some .string=> .gG fun r=>qW (fun s=>nL (fun _ i=>kA (fun m=>ob none (fun (b:UInt8)=>some (.int .u8 (Int.ofNat b.toNat))) (iL s m)) none i) none (gi r)) none (gx r)
   | _=> .gG fun r=>bp E (eV F n r) op) .bad) .bad
 | .slice t x lo hi none=>wO E F n x (fun gx=>wP E F n lo (fun gl=>wP E F n hi (fun gh=>match jM E.P t with
   | some (.slice elem)=>match wb E elem with
     | some size=> .gG fun r=>slF size (Dh gl r) (Dh gh r) (gx r)
     | none=> .bad
   | some .string=> .gG fun r=>slS (Dh gl r) (Dh gh r) (gx r)
   | some (.array m elem)=>match wb E elem with
     | some size=> .gG fun r=>slA m size (Dh gl r) (Dh gh r) (gx r)
     | none=> .bad
   | _=> .gG fun r=>bp E (eV F n r) op) .bad) .bad) .bad
 | .convert src dst x=>wO E F n x (Ly E src dst) .bad
 | .makeInterface t x=>match jM E.P t with
   | some (.interface _)=> .bad
   | some _=>wO E F n x (fun g=> .Gr fun r=> .iface t (g r)) .bad
   | none=> .bad
 | .makeFunc (.func f) first captured=>wL E F n first.toList (fun ga=>wL E F n captured.toList (fun gb=> .Gr fun r=> .func f (ga r) (gb r)) .bad) .bad
 | .alloc t=>match Je E t with
   | some z=> .sg fun _=>some (.cells z.cells t false,fun i=> .ptr i 0)
   | none=> .bad
 | .box t x=>wO E F n x (fun g=> .sg fun r=>some (.cells (lu (g r)) t false,fun i=> .ptr i 0)) .bad
 | .buildSlice t len parts=>match jM E.P t with
   | some (.slice elem)=>match wb E elem,Je E elem with
     | some m,some z=>if z.cells.length=m∧len*m≤2^24 then Tx E F n parts.toList (fun gp=> .sg fun r=>ob none (fun cs=>some (.cells cs elem false,fun i=> .slice i 0 len len false)) (rI (fun i=>some (i*m,m)) (fU z.cells len) (gp r))) .bad else .bad
     | _,_=> .bad
   | _=> .bad
 | .makeSlice t l c=>wO E F n l (fun gl=>wO E F n c (fun gc=>match jM E.P t with
   | some (.slice elem)=>match wb E elem,W0 E elem,Je E elem with
     | some m,some bytes,some z=>if z.cells.length=m then .sg fun r=>Ty elem bytes z.cells (gl r) (gc r) else .bad
     | _,_,_=> .bad
   | _=> .bad) .bad) .bad
 | .makeMap _ none=> .sg fun _=>some (.map [] 0,fun i=> .map i)
 | .makeMap .. | .range .. => .sg fun r=>dZ E (eV F n r) op
 | .lookup t x ix ok=>wO E F n x (fun gx=>wO E F n ix (fun gi=>match jM E.P t with
   | some (.map key elem)=>match jM E.P key,Je E elem with
     | some .string,some z=> .red fun r h=>Lx z ok h (gx r) (gi r)
     | _,_=> .red fun r h=>dE E (eV F n r) h op
   | _=> .bad) .bad) .bad
 | .build t parts=>match Je E t,jM E.P t with
   | some z,some (.struct fs)=>match Ar E fs.toList with
     | some ps=>Tx E F n parts.toList (fun gp=> .gG fun r=>ob none (fun cs=>some (.agg cs)) (Hy ps (lu z) (gp r))) .bad
     | none=> .bad
   | _,_=> .gG fun r=>bp E (eV F n r) op
 | .slice .. | .typeAssert .. => .gG fun r=>bp E (eV F n r) op
 | .mapUpdate t m k x=>wO E F n m (fun gm=>wO E F n k (fun gk=>wO E F n x (fun gx=> .wr fun r h=>ob none (fun h'=>some (AV.undef,h')) (ez E h t (gm r) (gk r) (gx r))) .bad) .bad) .bad
 | .insert t m k x=>wO E F n m (fun gm=>wO E F n k (fun gk=>wO E F n x (fun gx=> .wr fun r h=>ob none (fun h'=>some (AV.undef,h')) (ez E h t (gm r) (gk r) (gx r))) .bad) .bad) .bad
 | .next it s=>wO E F n it (fun g=> .wr fun r h=>Dw h (g r) s) .bad
 | .panic x=>wO E F n x (fun g=> .uF fun _ r h _=>qX (fun t w=> .panic (.iface t w) h) (.fail "" none) (g r)) .bad
 | .defer c=> .uF fun _ r _ rc=>match rc,callee E (eV F n r) c with
   | .Gp _,_=> .fail "" none
   | _,some (.fn f,args)=> .defer (.call f args)
   | _,_=> .fail "" none
 | .call c=>Vz E F n c op
 | _=> .bad
noncomputable def JU (kd:Kd T) (s:AV→T→T) (j:I T):I T:=match kd with
 | .Gr g=>⟨fun call r h y=>j.run call (s (g r) r) h y⟩
 | .gG f=>⟨fun call r h y=>ob .bad (fun v=>j.run call (s v r) h y) (f r)⟩
 | .red f=>⟨fun call r h y=>ob .bad (fun v=>j.run call (s v r) h y) (f r h)⟩
 | .sg f=>⟨fun call r h y=>ob .bad (fun p=>ob .bad (fun h'=>j.run call (s (p.2 h.nx) r) h' y) (h.new p.1)) (f r)⟩
 | .wr f=>⟨fun call r h y=>ob .bad (fun p=>j.run call (s p.1 r) p.2 y) (f r h)⟩
 | .call g args=>⟨fun call r h y=>iQ.rec (motive:=fun _=>FO T) (fun v h'=>j.run call (s v r) h' y) (fun v h'=> .jmp (.panic v) r h' y) (fun _ _=> .bad) (call g (args r) h)⟩
 | .uF f=>⟨fun call r h y=>yh.rec (motive:=fun _=>FO T) (fun v h'=>j.run call (s v r) h' y) (fun d=>j.run call (s AV.undef r) h ⟨d::y.ds,y.rc⟩) (fun v=>j.run call (s v r) h ⟨y.ds,.done⟩)
  (fun v h'=> .jmp (.panic v) r h' y) (fun _ _=> .bad) (f call r h y.rc)⟩
 | .bad=>⟨fun _ _ _ _=> .bad⟩
noncomputable def VA (s:AV→T→T) (j:I T):I T:=⟨fun call r h y=>j.run call (s AV.undef r) h y⟩
noncomputable def JV (g:T→AV) (want:Bool) (a b:I T):I T:=match want with
 | true=>⟨fun call r h y=>jo (fun t=>bc t (a.run call r h y) (b.run call r h y)) (b.run call r h y) (g r)⟩
 | false=>⟨fun call r h y=>jo (fun t=>bc t (b.run call r h y) (a.run call r h y)) (b.run call r h y) (g r)⟩
noncomputable def Lz (ops:Array Oper) (o:Oper) (a b:I F.T):I F.T:=match o.guard with
 | none=>a
 | some (j,want)=>match ob none (fun p=>p.dst) (iL ops.toList j) with
   | some d=>bc (Nat.ble n d) b (wA (F.get d) fun g=>JV g want a b)
   | none=>b
noncomputable def Pe (ops:Array Oper) (o:Oper) (j:I F.T):I F.T:=wS F n o.dst fun s=>Lz F n ops o (JU (vd E F n o.op) s j) (VA s j)
noncomputable def uj (ops:Array Oper) (l:List Oper):I F.T:=List.rec (motive:=fun _=>I F.T) ⟨fun _ r h y=> .Hw r h y⟩ (fun o _ j=>Pe E F n ops o j) l
noncomputable def Z1 (yG:AV→AV→Bool) (x y:AV):Bool:=
 nL (fun k a=>nL (fun j b=>bc (O3 k j) (Vv a b) false) false y)
  (qW (fun s=>qW (fun t=>leq A8 s t) false y)
   (yz (fun i o=>yz (fun j p=>bc (Nat.beq i j) (Nat.beq o p) false) false y)
    (jo (fun a=>jo (fun b=>bc a b (vx b)) false y) (yG x y) x) x) x) x
noncomputable def Bc (m:Nat):AV→AV→Bool:=Nat.rec (motive:=fun _=>AV→AV→Bool) (fun _ _=>false)
 (fun i ih x y=>Z1 (fun x y=>yA (fun a=>yA (fun b=>leq ih a b) (fun _=>false) false y) (fun _=>AV.same (i+1) x y) (AV.same (i+1) x y) x) x y) m
structure M3 where
 k:Nat
 m:Nat
 made:Option Nat
 f:ax→Bool
inductive DO (T:Type) where
 | ok (tr:List M3) (hs:List ax) (r:T) (h:ax) (y:Y)
 | bad
structure D (T:Type) where
 run:a_→T→ax→Y→DO T
noncomputable def DT (x:M3) (d:DO T):DO T:=DO.rec (motive:=fun _=>DO T) (fun tr hs r h y=> .ok (x::tr) hs r h y) .bad d
noncomputable def ra (h0:ax) (d:DO T):DO T:=DO.rec (motive:=fun _=>DO T) (fun tr hs r h y=> .ok tr (h0::hs) r h y) .bad d
noncomputable def LA (kd:Kd T) (s:AV→T→T) (j:D T):D T:=match kd with
 | .wr f=>⟨fun call r h y=>ob .bad (fun p=>ra h (j.run call (s p.1 r) p.2 y)) (f r h)⟩
 | .call g args=>⟨fun call r h y=>iQ.rec (motive:=fun _=>DO T) (fun v h'=>ra h (j.run call (s v r) h' y)) (fun _ _=> .bad) (fun _ _=> .bad) (call g (args r) h)⟩
 | .uF f=>⟨fun call r h y=>yh.rec (motive:=fun _=>DO T) (fun v h'=>ra h (j.run call (s v r) h' y)) (fun _=> .bad) (fun _=> .bad) (fun _ _=> .bad) (fun _ _=> .bad) (f call r h y.rc)⟩
 | _=>⟨fun _ _ _ _=> .bad⟩
noncomputable def LB (k m:Nat) (kd:Kd T) (s:AV→T→T) (j:D T):D T:=match kd with
 | .Gr g=>⟨fun call r h y=>j.run call (s (g r) r) h y⟩
 | .gG f=>⟨fun call r h y=>ob .bad (fun v=>j.run call (s v r) h y) (f r)⟩
 | .red f=>⟨fun call r h y=>ob .bad (fun v=>DT ⟨k,m,none,fun h'=>ob false (fun v'=>Bc 20 v' v) (f r h')⟩ (j.run call (s v r) h y)) (f r h)⟩
 | .sg f=>⟨fun call r h y=>ob .bad (fun p=>ob .bad (fun h'=>DT ⟨k,m,some h.nx,fun LC=>ob false (fun o=>aK.same o p.1) (LC.get h.nx)⟩ (j.run call (s (p.2 h.nx) r) h' y)) (h.new p.1)) (f r)⟩
 | _=>⟨fun _ _ _ _=> .bad⟩
noncomputable def Pf (s:AV→T→T) (j:D T):D T:=⟨fun call r h y=>j.run call (s AV.undef r) h y⟩
noncomputable def JW (s:AV→T→T) (j:D T):D T:=⟨fun call r h y=>ra h (j.run call (s AV.undef r) h y)⟩
noncomputable def Pg (g:T→AV) (want:Bool) (a b:D T):D T:=match want with
 | true=>⟨fun call r h y=>jo (fun t=>bc t (a.run call r h y) (b.run call r h y)) (b.run call r h y) (g r)⟩
 | false=>⟨fun call r h y=>jo (fun t=>bc t (b.run call r h y) (a.run call r h y)) (b.run call r h y) (g r)⟩
noncomputable def zr (ops:Array Oper) (o:Oper) (a b:D F.T):D F.T:=match o.guard with
 | none=>a
 | some (j,want)=>match ob none (fun p=>p.dst) (iL ops.toList j) with
   | some d=>bc (Nat.ble n d) b (wA (F.get d) fun g=>Pg g want a b)
   | none=>b
noncomputable def ja (ops:Array Oper) (pl:bO) (l:List Nat):Nat→D F.T:=List.rec (motive:=fun _=>Nat→D F.T) (fun _=>⟨fun _ r h y=> .ok [] [h] r h y⟩)
 (fun i _ ih k=>ob ⟨fun _ _ _ _=> .bad⟩ (fun o=>wS F n o.dst fun s=>
  bc (qh E o.op) (canon (Nat.add k 1) fun k'=>zr F n ops o (LA (vd E F n o.op) s (ih k')) (JW s (ih k')))
   (canon (Nat.sub (Nat.add (Aq pl.bK pl.an i) 1) k) fun m=>zr F n ops o (LB k m (vd E F n o.op) s (ih k)) (Pf s (ih k)))) (iL ops.toList i)) l
noncomputable def LD (tr:List M3):List Nat:=List.rec (motive:=fun _=>List Nat) [] (fun x _ ih=>ob ih (fun i=>i::ih) x.made) tr
noncomputable def rb (tr:List M3) (hs:List ax):Bool:=bc (E3 (LD tr)) (yC (fun x=>yC x.f (sB (sA hs x.k) x.m)) tr) false
noncomputable def TA (ops:Array Oper) (pl:bO) (call:a_) (r:F.T) (h:ax) (y:Y):FO F.T:=match pl.order.reverse with
 | []=> .bad
 | i::front=>match (ja E F n ops pl front.reverse 0).run call r h y,ops[i]? with
   | .ok tr hs r1 h1 y1,some ⟨dst,.call c,ty,pos,after,guard⟩=>
     match fw E (.call c)&&cm ops (eV F n r1) ⟨dst,.call c,ty,pos,after,guard⟩&&(List.range ops.size).all (fun j=>j==i||dv pl.an i j),
      cZ E call (eV F n r1) h1 y1.rc ⟨dst,.call c,ty,pos,after,guard⟩ with
     | true,.panic v h'=>match rb tr (hs++[h']) with
       | true=> .jmp (.panic v) r1 h' y1
       | false=> .bad
     | _,_=> .bad
   | _,_=> .bad
noncomputable def LF (ops:Array Oper):I F.T:=O_ E ops (fun pl=>
 ⟨fun call r h y=>DO.rec (motive:=fun _=>FO F.T) (fun tr hs r' h' y'=>bc (rb tr hs) (.Hw r' h' y') .bad) (TA E F n ops pl call r h y) ((ja E F n ops pl pl.order 0).run call r h y)⟩) ⟨fun _ _ _ _=> .bad⟩
def VB (r:T) (o:Out):FO T:=match o with
 | .ok .normal s=> .Hw r s.h ⟨s.ds,s.rc⟩
 | .ok e s=> .jmp e r s.h ⟨s.ds,s.rc⟩
 | .fail _ _=> .bad
noncomputable def E6 (f:Operand) (ps:Array Tmp) (as_ bd:Code):I F.T:=
 wO E F n f (fun _=>⟨fun call r h y=>VB r (mM E call f ps as_ bd ⟨eV F n r,h,y.ds,y.rc⟩)⟩) ⟨fun _ _ _ _=> .bad⟩
noncomputable def nS {R:Type} (d:R) (k:Nat→R) (m:Nat):R:=Nat.rec (motive:=fun _=>R) d (fun i _=>k i) m
noncomputable def fo {R:Type} (a:T→ax→Y→R) (b:jY→T→ax→Y→R) (d:R) (o:FO T):R:=FO.rec (motive:=fun _=>R) a b d o
noncomputable def Pj {R:Type} (f:Nat→R) (d:R) (e:jY):R:=jY.rec (motive:=fun _=>R) d f d (fun _=>d) e
noncomputable def Pl (b:C T) (m:Nat):a_→T→ax→Y→FO T:=
 Nat.rec (motive:=fun _=>a_→T→ax→Y→FO T) (fun _ _ _ _=> .bad) (fun i ih call r h y=>fo (fun r' h' y'=>ih call r' h' y') .jmp .bad (b.run i call r h y)) m
noncomputable def TB (i:I T):C T:=⟨fun m call r h y=>nS .bad (fun _=>i.run call r h y) m⟩
noncomputable def mC (c:Code):C F.T:=Code.rec (motive:=fun _=>C F.T)
 ⟨fun m _ r h y=>nS .bad (fun _=> .Hw r h y) m⟩
 (fun _ ops draw=>bc draw (TB (LF E F n ops)) (TB (uj E F n ops ops.toList)))
 (fun _ _ a b=>⟨fun m call r h y=>nS .bad (fun i=>fo (fun r' h' y'=>b.run i call r' h' y') .jmp .bad (a.run i call r h y)) m⟩)
 (fun x _ _ a b=>wO E F n x (fun g=>⟨fun m call r h y=>nS .bad (fun i=>jo (fun t=>bc t (a.run i call r h y) (b.run i call r h y)) .bad (g r)) m⟩) ⟨fun _ _ _ _ _=> .bad⟩)
 (fun id _ b=>⟨fun m call r h y=>nS .bad (fun i=>fo .Hw (fun e r' h' y'=>Pj (fun j=>bc (Nat.beq j id) (.Hw r' h' y') (.jmp e r' h' y')) (.jmp e r' h' y') e) .bad (b.run i call r h y)) m⟩)
 (fun _ b=>⟨fun m call r h y=>Pl b m call r h y⟩)
 (fun f ps as_ bd _ _=>TB (E6 E F n f ps as_ bd))
 (fun id=>⟨fun m _ r h y=>nS .bad (fun _=> .jmp (.exit id) r h y) m⟩)
 (fun _ b=>⟨fun m call r h y=>nS .bad (fun i=>b.run i call r h y) m⟩)
 (fun _=>⟨fun m _ r h y=>nS .bad (fun _=> .Hw r h y) m⟩)
 (fun _=>⟨fun _ _ _ _ _=> .bad⟩)
 ⟨fun m _ r h y=>nS .bad (fun _=> .jmp .ret r h y) m⟩
 (fun _=>⟨fun _ _ _ _ _=> .bad⟩) c
end
section
variable (E:Env)
inductive BO where
 | fin (res:ax→Option (List AV)) (h:ax) (y:Y)
 | Z2 (v:AV) (res:ax→Option (List AV)) (h:ax) (y:Y)
 | bad
structure CF where
 run:Nat→a_→List AV→ax→RC→BO
noncomputable def yH (F:RF) (n:Nat):List ResultVar→W (F.T→ax→Option (List AV))
 | []=>⟨fun _ _=>some []⟩
 | .tmp t::rest=>wT F n t fun g=>wW (yH F n rest) fun k=>⟨fun r h=>ob none (fun vs=>some (g r::vs)) (k r h)⟩
 | .cell a t::rest=>wT F n a fun g=>wW (yH F n rest) fun k=>⟨fun r h=>ob none (fun v=>ob none (fun vs=>some (v::vs)) (k r h)) (bS E h t (g r))⟩
noncomputable def Pm (F:RF) (n:Nat) (fn:Func) (b:Code):CF:=
 wW (yH E F n fn.results.toList) fun res=>⟨fun fuel call args h rc=>bc (Nat.ble (iK args) n)
  (fo (fun r h' y=> .fin (res r) h' y) (fun e r h' y=>jY.rec (motive:=fun _=>BO) .bad (fun _=> .bad) (.fin (res r) h' y) (fun v=> .Z2 v (res r) h' y) e) .bad
   ((mC E F n b).run fuel call (N_ F args F.z 0) h ⟨[],rc⟩)) .bad⟩
noncomputable def zt (f:FuncId):CF:=match WW E.P f with
 | none=>⟨fun _ _ _ _ _=> .bad⟩
 | some fn=>match fn.body with
   | none=>⟨fun _ _ _ _ _=> .bad⟩
   | some b=>bc (Nat.ble fn.ntmps 64) (Pm E rf2 fn.ntmps fn b) (bc (Nat.ble fn.ntmps 512) (Pm E rf3 fn.ntmps fn b) ⟨fun _ _ _ _ _=> .bad⟩)
noncomputable def bo {R:Type} (a:(ax→Option (List AV))→ax→Y→R) (b:AV→(ax→Option (List AV))→ax→Y→R) (d:R) (o:BO):R:=BO.rec (motive:=fun _=>R) a b d o
noncomputable def LG (F:RF) (call:a_) (fuel:Nat) (c:Code) (s:St):Out:=
 fo (fun r h y=> .ok .normal ⟨eV F s.ts.length r,h,y.ds,y.rc⟩) (fun e r h y=> .ok e ⟨eV F s.ts.length r,h,y.ds,y.rc⟩) (.fail "" none) ((mC E F s.ts.length c).run fuel call (N_ F s.ts F.z 0) s.h ⟨s.ds,s.rc⟩)
noncomputable def LH (call:a_) (fuel:Nat) (c:Code) (s:St):Out:=
 bc (Nat.ble s.ts.length 64) (LG E rf2 call fuel c s) (bc (Nat.ble s.ts.length 512) (LG E rf3 call fuel c s) (.fail "" none))
noncomputable def Bd (call:a_) (fuel:Nat) (l:Nat) (args:List AV) (h:ax):iQ:=match h.get l with
 | some (.loop _ _ ts ps as_ bd _)=>if args.length=ps.length then
  match LH E call fuel as_ {ts:=(ps.zip args).foldl (fun ts x=>ts.set x.1 x.2) ts,h,ds:=[],rc:= .Gp l} with
  | .ok .normal s1=>match s1.h.get l with
    | some (.loop .ready pd Wq Vb SU Wr Ws)=>
      match LH E call fuel bd {s1 with h:=s1.h.put l (some (.loop .busy pd Wq Vb SU Wr Ws))} with
      | .ok .normal s2=>AD l none s2
      | .ok .ret s2=>AD l (some .ret) s2
      | .ok (.exit id) s2=>AD l (some (.exit id)) s2
      | .ok (.panic v) s2=>if s2.ds.isEmpty then .panic v s2.h else .fail "round defers" none
      | .fail why q=> .fail why q
    | _=> .fail "round state" none
  | .ok _ _=> .fail "round assign" none
  | .fail why q=> .fail why q
   else .fail "round args" none
 | _=> .fail "round" none
noncomputable def hB (call:a_) (fuel:Nat) (g:FuncId) (as_:List AV) (h:ax) (rc:RC):Option (ax×RC):=
 bo (fun res h' y=>bc y.ds.isEmpty (ob none (fun _=>some (h',y.rc)) (res h')) none) (fun _ _ _ _=>none) none ((zt E g).run fuel call as_ h rc)
noncomputable def HA (call:a_) (fuel:Nat) (p:Option AV) (res:ax→Option (List AV)) (h:ax) (ds:List ny):iQ:=match cS (hB E call fuel) ds p h with
 | none=> .fail "unwind" none
 | some (some v,h')=> .panic v h'
 | some (none,h')=>ob (.fail "results" none) (fun vs=> .ret (gP vs) h') (res h')
noncomputable def fFn {R:Type} (a:FuncId→R) (b:Nat→R) (f:Fn):R:=Fn.rec (motive:=fun _=>R) a b f
noncomputable def HB {α R:Type} (a b:R) (l:List α):R:=List.rec (motive:=fun _=>R) a (fun _ _ _=>b) l
noncomputable def Z3 (fuel:Nat) (call:a_) (g:Fn) (args:List AV) (h:ax):iQ:=
 fFn (fun f=>bo (fun res h' y=>HB (ob (.fail "results" none) (fun vs=> .ret (gP vs) h') (res h')) (HA E call fuel none res h' y.ds) y.ds)
  (fun v res h' y=>HB (.panic v h') (HA E call fuel (some v) res h' y.ds) y.ds) (.fail "body" none) ((zt E f).run fuel call args h .no))
  (fun l=>Bd E call fuel l args h) g
noncomputable def zu (d fuel:Nat):a_:=Nat.rec (motive:=fun _=>a_) (fun _ _ _=> .fail "depth" none) (fun _ ih=>Z3 E fuel ih) d
end
end Go.Ab.Fa
end
section
namespace Go.Ab.Fa
theorem TC {α R:Type} {d:R} {f:α→R} {a:α}:ob d f (some a)=f a:=rfl
theorem jb {R:Type} (x y:R):bc true x y=x:=rfl
theorem dO {R:Type} (x y:R):bc false x y=y:=rfl
theorem gE {α β:Type} {f:α→Option β} {o:Option α} {v:β} (h:ob none f o=some v):∃a,o=some a∧f a=some v:=by
 cases o with
 | none=>exact absurd h (by intro e;cases e)
 | some a=>exact ⟨a,rfl,h⟩
theorem fD {β:Type} {b:Bool} {x:Option β} {v:β} (h:bc b x none=some v):b=true∧x=some v:=by
 cases b with
 | false=>cases h
 | true=>exact ⟨rfl,h⟩
theorem re {β:Type} {b:Bool} {x:Option β} {v:β} (h:bc b none x=some v):b=false∧x=some v:=by
 cases b with
 | false=>exact ⟨rfl,h⟩
 | true=>cases h
theorem DU {β:Type} {f:Bool→Option β} {a:AV} {v:β} (h:jo f none a=some v):∃b,a= .bool b∧f b=some v:=by
 cases a with
 | bool b=>exact ⟨b,rfl,h⟩
 | _=>exact absurd h (by intro e;cases e)
theorem jr {β:Type} {f:IntKind→Int→Option β} {a:AV} {v:β} (h:nL f none a=some v):∃k n,a= .int k n∧f k n=some v:=by
 cases a with
 | int k n=>exact ⟨k,n,rfl,h⟩
 | _=>exact absurd h (by intro e;cases e)
theorem nO {β:Type} {f:List UInt8→Option β} {a:AV} {v:β} (h:qW f none a=some v):∃s,a= .str s∧f s=some v:=by
 cases a with
 | str s=>exact ⟨s,rfl,h⟩
 | _=>exact absurd h (by intro e;cases e)
theorem sF {β:Type} {f:Nat→Nat→Option β} {a:AV} {v:β} (h:yz f none a=some v):∃i o,a= .ptr i o∧f i o=some v:=by
 cases a with
 | ptr i o=>exact ⟨i,o,rfl,h⟩
 | _=>exact absurd h (by intro e;cases e)
theorem nP {β:Type} {e:Option β} {f:Nat→Nat→Nat→Nat→Bool→Option β} {a:AV} {v:β} (h:jq e f none a=some v):
 (a= .aX∧e=some v)∨∃i o l c b,a= .slice i o l c b∧f i o l c b=some v:=by
 cases a with
 | aX=>exact .inl ⟨rfl,h⟩
 | slice i o l c b=>exact .inr ⟨i,o,l,c,b,rfl,h⟩
 | _=>exact absurd h (by intro e;cases e)
theorem HC {β:Type} {e z:Option β} {f:Nat→Nat→Nat→Nat→Bool→Option β} {a:AV} {v:β} (h:jq e f (vZ z none a) a=some v):
 (a= .aX∧e=some v)∨(∃i o l c b,a= .slice i o l c b∧f i o l c b=some v)∨(a= .eR∧z=some v):=by
 cases a with
 | aX=>exact .inl ⟨rfl,h⟩
 | slice i o l c b=>exact .inr (.inl ⟨i,o,l,c,b,rfl,h⟩)
 | eR=>exact .inr (.inr ⟨rfl,h⟩)
 | _=>exact absurd h (by intro e;cases e)
theorem nQ {β:Type} {f:Nat→Option β} {n:Int} {v:β} (h:kA f none n=some v):∃m:Nat,n=(m:Int)∧f m=some v:=by
 cases n with
 | ofNat m=>exact ⟨m,rfl,h⟩
 | negSucc m=>cases h
theorem rf {β:Type} {f:List AV→TypeId→Bool→Option β} {o:aK} {v:β} (h:yB f none o=some v):∃cs e ro,o= .cells cs e ro∧f cs e ro=some v:=by
 cases o with
 | cells cs e ro=>exact ⟨cs,e,ro,rfl,h⟩
 | _=>exact absurd h (by intro e;cases e)
theorem fE {a b:Nat} (h:Nat.ble a b=true):a≤b:=Nat.le_of_ble_eq_true h
theorem j6 {a b:Nat} (h:Nat.ble a b=false):b<a:=by
 apply Decidable.byContradiction;intro hn
 rw[Nat.ble_eq_true_of_le (by omega)] at h;cases h
theorem l7 {a b:Nat} (h:Nat.beq a b=true):a=b:=Nat.eq_of_beq_eq_true h
theorem LI {k j:IntKind} (h:O3 k j=true):k=j:=by
 cases k<;>cases j<;>first | rfl | exact absurd h (by intro e;cases e)
theorem wI (b:Bool):vx b= !b:=by cases b<;>rfl
theorem Pn {k:IntKind} (h:Vu k=false) (n:Int):k.wrap n=n%(uI k:Int):=by
 cases k<;>first | (cases h;done) | simp [IntKind.wrap,IntKind.bits,IntKind.signed,uI,WU]
theorem Po {k:IntKind} (h:Vu k=true) {m:Nat} (hm:m<uI k):k.wrap (Int.negSucc m)=Int.negSucc m:=by
 have hb:(2^(k.bits - 1):Int)=(uI k:Int)∧(2^k.bits:Int)=2*(uI k:Int)∧k.signed=true:=by
  cases k<;>first | (cases h;done) | (refine ⟨rfl,rfl,rfl⟩)
 obtain ⟨h1,h2,h3⟩:=hb
 unfold IntKind.wrap
 rw[h1,h2,h3,Int.negSucc_eq]
 generalize uI k=B at *
 have e: -((m:Int)+1)%(2*(B:Int))=2*(B:Int) -(m+1):=by
  rw[←Int.add_emod_right]
  exact Int.emod_eq_of_lt (by omega) (by omega)
 rw[e]
 simp only[Bool.true_and,decide_eq_true_eq]
 rw[if_pos (by omega)]
 omega
theorem nR (k:IntKind) (n:Int):vc k n=k.wrap n:=by
 cases n with
 | ofNat m=>
   show bc (Nat.ble (uI k) m) (bc (Vu k) (k.wrap (Int.ofNat m)) (Int.ofNat (Nat.mod m (uI k)))) (Int.ofNat m)=_
   cases h:Nat.ble (uI k) m
   · have h:=j6 h
     rw[dO]
     cases k<;>simp [IntKind.wrap,IntKind.bits,IntKind.signed]<;>simp only[uI,WU] at h<;>omega
   · rw[jb]
     cases hs:Vu k
     · rw[dO,Pn hs];rfl
     · rw[jb]
 | negSucc m=>
   show bc (Vu k) (bc (Nat.ble (uI k) m) (k.wrap (Int.negSucc m)) (Int.negSucc m)) (k.wrap (Int.negSucc m))=_
   cases hs:Vu k
   · rw[dO]
   · rw[jb]
     cases h:Nat.ble (uI k) m
     · have h:=j6 h
       rw[dO]
       exact (Po hs h).symm
     · rw[jb]
theorem TD (a b:Int):qY a b=a+b:=by
 cases a<;>cases b<;>rfl
theorem TE (a b:Int):gD a b=a - b:=by
 cases a with
 | negSucc x=>rfl
 | ofNat x=>
   cases b with
   | negSucc y=>rfl
   | ofNat y=>
     show bc (Nat.ble y x) (Int.ofNat (x - y)) (Int.negSucc (y - x - 1))=_
     cases h:Nat.ble y x
     · have h:=j6 h
       rw[dO,Int.negSucc_eq];simp only[Int.ofNat_eq_natCast];omega
     · have h:=fE h
       rw[jb];simp only[Int.ofNat_eq_natCast];omega
theorem LJ (a b:Int):Hn a b=a*b:=by
 cases a<;>cases b<;>rfl
theorem JX (a b:Int):Vv a b=(a==b):=by
 have:Vv a b=decide (a=b):=by
  cases a with
  | ofNat x=>cases b with
    | ofNat y=>
      show Nat.beq x y=_
      rw[←z_]
      by_cases h:x=y
      · subst h;simp
      · rw[show (x==y)=false by simp [h]];symm;apply decide_eq_false;simp only[Int.ofNat_eq_natCast];omega
    | negSucc y=>simp;rfl
  | negSucc x=>cases b with
    | ofNat y=>simp;rfl
    | negSucc y=>
      show Nat.beq x y=_
      rw[←z_]
      by_cases h:x=y
      · subst h;simp
      · simp [h]
 rw[this];rfl
theorem E7 (a b:Int):Tp a b=decide (a<b):=by
 cases a with
 | ofNat x=>cases b with
   | ofNat y=>
     show Nat.ble (x+1) y=_
     rw[←ui];simp only[Int.ofNat_eq_natCast];congr 1;apply propext;omega
   | negSucc y=>
     symm;exact decide_eq_false (by rw[Int.negSucc_eq];simp only[Int.ofNat_eq_natCast];omega)
 | negSucc x=>cases b with
   | ofNat y=>
     symm;exact decide_eq_true (by rw[Int.negSucc_eq];simp only[Int.ofNat_eq_natCast];omega)
   | negSucc y=>
     show Nat.ble (y+1) x=_
     rw[←ui];congr 1;apply propext;rw[Int.negSucc_eq,Int.negSucc_eq];omega
theorem Be (a b:Int):(!decide (a<b))=decide (b≤a):=by
 by_cases h:a<b
 · rw[decide_eq_true h,decide_eq_false (by omega)];rfl
 · rw[decide_eq_false h,decide_eq_true (by omega)];rfl
theorem TF (k:IntKind) {x:Nat} (h:x<uI k):x<2^k.bits:=by
 cases k<;>simp only[uI,WU,IntKind.bits] at * <;>omega
theorem LK (k:IntKind) {x:Nat} (h:x<uI k):k.wrap (x:Int)=x:=by
 have:=nR k (Int.ofNat x)
 rw[Int.ofNat_eq_natCast] at this
 rw[←this]
 show bc (Nat.ble (uI k) x) _ (Int.ofNat x)=_
 rw[nA h];rfl
theorem TG (k:IntKind):∃m,uI k=2^m:=by
 cases k
 · exact ⟨7,rfl⟩
 · exact ⟨15,rfl⟩
 · exact ⟨31,rfl⟩
 · exact ⟨63,rfl⟩
 · exact ⟨8,rfl⟩
 · exact ⟨16,rfl⟩
 · exact ⟨32,rfl⟩
 · exact ⟨64,rfl⟩
theorem toNat_ofInt (k:IntKind) {x:Nat} (h:x<uI k):(BitVec.ofInt k.bits (Int.ofNat x)).toNat=x:=by
 rw[Int.ofNat_eq_natCast,BitVec.ofInt_natCast,BitVec.toNat_ofNat]
 exact Nat.mod_eq_of_lt (TF k h)
theorem TH (op:BinOp) (k:IntKind) (a b:Int) {v:AV} (h:Tq op k a b=some v):cY op k a b=some v:=by
 cases op<;>simp only[Tq] at h<;>try exact h
 · simpa [cY,nR,TD] using h
 · simpa [cY,nR,TE] using h
 · simpa [cY,nR,LJ] using h
 · cases a with
   | negSucc x=>exact h
   | ofNat x=>cases b with
     | negSucc y=>exact h
     | ofNat y=>
       obtain ⟨h1,h2⟩:=re h
       rw[nR] at h2
       have:y≠0:=by intro e;subst e;cases h1
       rw[←h2];simp [cY,this];exact congrArg k.wrap (Int.natCast_ediv x y).symm
 · cases a with
   | negSucc x=>exact h
   | ofNat x=>cases b with
     | negSucc y=>exact h
     | ofNat y=>
       obtain ⟨h1,h2⟩:=re h
       have:y≠0:=by intro e;subst e;cases h1
       rw[←h2];simp [cY,this];rfl
 · cases a with
   | negSucc x=>exact h
   | ofNat x=>cases b with
     | negSucc y=>exact h
     | ofNat y=>
       change bc (Nat.ble (uI k) x) _ (bc (Nat.ble (uI k) y) _ _)=_ at h
       cases h1:Nat.ble (uI k) x with
       | true=>rw[h1] at h;exact h
       | false=>cases h2:Nat.ble (uI k) y with
         | true=>rw[h1,h2] at h;exact h
         | false=>
           rw[h1,h2] at h
           have h1:=j6 h1;have h2:=j6 h2
           rw[←h,dO,dO]
           show some (AV.int k (k.wrap ((BitVec.ofInt k.bits (Int.ofNat x)&&& BitVec.ofInt k.bits (Int.ofNat y)).toNat:Int)))=_
           rw[BitVec.toNat_and,toNat_ofInt k h1,toNat_ofInt k h2,LK k (Nat.lt_of_le_of_lt Nat.and_le_left h1)]
           rfl
 · cases a with
   | negSucc x=>exact h
   | ofNat x=>cases b with
     | negSucc y=>exact h
     | ofNat y=>
       change bc (Nat.ble (uI k) x) _ (bc (Nat.ble (uI k) y) _ _)=_ at h
       cases h1:Nat.ble (uI k) x with
       | true=>rw[h1] at h;exact h
       | false=>cases h2:Nat.ble (uI k) y with
         | true=>rw[h1,h2] at h;exact h
         | false=>
           rw[h1,h2] at h
           have h1:=j6 h1;have h2:=j6 h2
           rw[←h,dO,dO]
           show some (AV.int k (k.wrap ((BitVec.ofInt k.bits (Int.ofNat x)||| BitVec.ofInt k.bits (Int.ofNat y)).toNat:Int)))=_
           rw[BitVec.toNat_or,toNat_ofInt k h1,toNat_ofInt k h2,LK k]
           · rfl
           · obtain ⟨m,hm⟩:=TG k
             rw[hm] at h1 h2 ⊢
             exact Nat.or_lt_two_pow h1 h2
 · simpa [cY,JX] using h
 · simpa [cY,JX,wI,bne] using h
 · simpa [cY,E7] using h
 · simpa [cY,E7,wI,Be] using h
 · simpa [cY,E7] using h
 · simpa [cY,E7,wI,Be] using h
theorem TI (op:BinOp) (k:IntKind) (a b:Int):(Pa op).f k a b=Tq op k a b:=by
 cases op<;>rfl
theorem Pp (k:IntKind):O4 k=k.bits:=by cases k<;>rfl
theorem LM (k:IntKind) (y:Nat):O5 k y=min y k.bits:=by
 unfold O5;rw[Pp]
 cases h:Nat.ble k.bits y
 · have:=j6 h;rw[dO];omega
 · have:=fE h;rw[jb];omega
theorem TJ {k:IntKind} {x y:Int} {v:AV} (h:ZU k x y=some v):¬y<0∧v= .int k (k.wrap (x*2^(min y.toNat k.bits))):=by
 obtain ⟨m,rfl,h⟩:=nQ h
 refine ⟨by omega,?_⟩
 have h:=Option.some.inj h
 rw[←h,nR,LJ,LM]
 simp
theorem TL {k:IntKind} {x y:Int} {v:AV} (h:ZV k x y=some v):¬y<0∧v= .int k (x.fdiv (2^(min y.toNat k.bits))):=by
 obtain ⟨m,rfl,h⟩:=nQ h
 refine ⟨by omega,?_⟩
 have h:=Option.some.inj h
 rw[←h]
 cases x with
 | negSucc x=>simp [kA]
 | ofNat x=>
   show AV.int k (Int.ofNat (x/2^O5 k m))=_
   rw[LM]
   simp
   rw[show (2^min m k.bits:Int)=((2^min m k.bits:Nat):Int) by simp]
   exact (Int.fdiv_eq_ediv_of_nonneg _ (Int.natCast_nonneg _)).symm
end Go.Ab.Fa
end
section
namespace Go.Ab.Fa
section
variable {α:Type}
theorem qj (l:List α) (o:Nat):sA l o=l.drop o:=by
 induction l generalizing o with
 | nil=>simp [sA]
 | cons v tl ih=>
   show bc (Nat.beq o 0) (v::tl) (sA tl (o - 1))=_
   rw[ih]
   cases o with
   | zero=>rfl
   | succ o=>simp [show Nat.beq (o+1) 0=false from rfl,dO]
theorem qk (l:List α) (o:Nat):sB l o=l.take o:=by
 induction l generalizing o with
 | nil=>simp [sB]
 | cons v tl ih=>
   show bc (Nat.beq o 0) [] (v::sB tl (o - 1))=_
   rw[ih]
   cases o with
   | zero=>rfl
   | succ o=>simp [show Nat.beq (o+1) 0=false from rfl,dO]
theorem M4 (vs:List α):∀(cs:List α) (k:Nat),(Ho vs cs)[k]? =if k<vs.length∧k<cs.length then vs[k]? else cs[k]? :=by
 induction vs with
 | nil=>intro cs k;rw[if_neg (by simp)];rfl
 | cons v vs ih=>
   intro cs k
   cases cs with
   | nil=>rw[if_neg (by simp)];rfl
   | cons c tl=>
     show (v::Ho vs tl)[k]? =_
     cases k with
     | zero=>rw[if_pos (by simp)];rfl
     | succ k=>simp only[List.getElem?_cons_succ,ih,List.length_cons,Nat.add_lt_add_iff_right]
theorem Pq (vs:List α):∀(cs:List α) (o k:Nat),(Hp vs cs o)[k]? =if o≤k∧k<o+vs.length∧k<cs.length then vs[k - o]? else cs[k]? :=by
 intro cs
 induction cs with
 | nil=>intro o k;rw[if_neg (by simp)];rfl
 | cons c tl ih=>
   intro o k
   show (bc (Nat.beq o 0) (Ho vs (c::tl)) (c::Hp vs tl (o - 1)))[k]? =_
   cases o with
   | zero=>
     show (Ho vs (c::tl))[k]? =_
     rw[M4];simp
   | succ o=>
     show (c::Hp vs tl o)[k]? =_
     cases k with
     | zero=>rw[if_neg (by omega)];rfl
     | succ k=>
       rw[List.getElem?_cons_succ,ih,List.getElem?_cons_succ,List.length_cons]
       by_cases h:o≤k∧k<o+vs.length∧k<tl.length
       · rw[if_pos h,if_pos (by omega),show k+1 -(o+1)=k - o by omega]
       · rw[if_neg h,if_neg (by omega)]
end
theorem E8 (vs cs:List AV) (o:Nat):Hp vs cs o=setFrom cs o vs:=by
 apply List.ext_getElem?;intro k;rw[Pq,fl]
theorem JY (l m:List UInt8):leq A8 l m=(l==m):=by
 have key:∀a b:UInt8,A8 a b=(a==b):=by
  intro a b
  unfold A8
  rw[←z_]
  by_cases h:a=b
  · subst h;simp
  · rw[show (a==b)=false by simp [h]]
    rw[beq_eq_false_iff_ne]
    intro e;apply h
    have:a.toNat=b.toNat:=e
    exact UInt8.toNat_inj.mp this
 induction l generalizing m with
 | nil=>cases m<;>rfl
 | cons x tl ih=>
   cases m with
   | nil=>rfl
   | cons y tm=>
     show bc (A8 x y) (leq A8 tl tm) false=_
     rw[ih,key,nN];rfl
theorem TM (op:BinOp) (a b:List UInt8):(M1 op).f a b=qJ op a b:=by
 cases op<;>first | rfl | (simp only[M1,qJ,JY,wI])
theorem TN (v:AV):Tr v=AV.scalar v:=by cases v<;>rfl
theorem HD:Tr=AV.scalar:=funext TN
theorem M5 (v:AV):EW v=true→(match (some v:Option AV) with
 | some (.ptr i o)=>some (.ptr i o)
 | some (.map i)=>some (.map i)
 | some (.slice i o l c b)=>some (.slice i o l c b)
 | some (.func f a b)=>some (.func f a b)
 | _=>none)=some v:=by
 cases v<;>intro h<;>first | rfl | exact absurd h (by intro e;cases e)
theorem HE {f:TypeId→AV→yh} {why:String} {o:Option Oper} (a:AV):(∃t v,a= .iface t v)∨qX f (.fail why o) a= .fail why o:=by
 cases a with
 | iface t v=>exact .inl ⟨t,v,rfl⟩
 | _=>exact .inr rfl
theorem l8 (v:AV):lu v=v.cells:=by cases v<;>rfl
section
variable (E:Env) (F:RF) (n:Nat)
theorem E9 {β:Type} (i:Nat) (k:(F.T→AV)→β):∃g,wT F n i k=k g∧∀r,(eV F n r).getD i AV.undef=g r:=by
 unfold wT
 cases h:Nat.ble n i
 · refine ⟨(F.get i).f,rfl,fun r=>?_⟩
   rw[Hm,if_pos (j6 h)]
 · refine ⟨fun _=>AV.undef,rfl,fun r=>?_⟩
   rw[Hm,if_neg (by have:=fE h;omega)]
theorem bZ {β:Type} (x:Operand) (k:(F.T→AV)→β) (d:β):wO E F n x k d=d∨∃g,wO E F n x k d=k g∧∀r,dA E (eV F n r) x=some (g r):=by
 cases x with
 | tmp t=>
   obtain ⟨g,h1,h2⟩:=E9 F n t k
   exact .inr ⟨g,h1,fun r=>by rw[←h2];rfl⟩
 | const v=>
   simp only[wO]
   cases h:ofConst v with
   | none=>exact .inl rfl
   | some a=>exact .inr ⟨fun _=>a,rfl,fun r=>h⟩
 | global g=>
   simp only[wO]
   cases h:Nat.ble E.G g
   · exact .inr ⟨fun _=> .ptr g 0,rfl,fun r=>by rw[dA,if_pos (j6 h)]⟩
   · exact .inl rfl
 | func f=>exact .inr ⟨fun _=> .func f [] [],rfl,fun r=>rfl⟩
theorem uk {β:Type}:∀(l:List Operand) (k:(F.T→List AV)→β) (d:β),wL E F n l k d=d∨∃g,wL E F n l k d=k g∧∀r,fO E (eV F n r) l=some (g r)
 | [],k,d=> .inr ⟨fun _=> [],rfl,fun r=>rfl⟩
 | x::xs,k,d=>by
   rw[wL]
   rcases bZ E F n x (fun g=>wL E F n xs (fun gs=>k fun r=>g r::gs r) d) d with h | ⟨g,h,hg⟩
   · exact .inl h
   · rcases uk xs (fun gs=>k fun r=>g r::gs r) d with h' | ⟨gs,h',hgs⟩
     · exact .inl (h.trans h')
     · refine .inr ⟨_,h.trans h',fun r=>?_⟩
       have:=hgs r
       unfold fO at *
       rw[dL,hg r];simp only[this]
theorem LN {β:Type} (o:Option Operand) (k:Option (F.T→AV)→β) (d:β):wP E F n o k d=d∨∃g,wP E F n o k d=k g∧∀r,mu E (eV F n r) o=some (Dh g r):=by
 cases o with
 | none=>exact .inr ⟨none,rfl,fun r=>rfl⟩
 | some x=>
   rcases bZ E F n x (fun g=>k (some g)) d with h | ⟨g,h,hg⟩
   · exact .inl h
   · exact .inr ⟨some g,h,fun r=>by rw[mu,hg r];rfl⟩
theorem Bf {β:Type}:∀(l:List (Nat×Operand)) (k:(F.T→List (Nat×AV))→β) (d:β),Tx E F n l k d=d∨∃g,Tx E F n l k d=k g∧∀r,j0 E (eV F n r) l=some (g r)
 | [],k,d=> .inr ⟨fun _=> [],rfl,fun r=>rfl⟩
 | (i,x)::xs,k,d=>by
   rw[Tx]
   rcases bZ E F n x (fun g=>Tx E F n xs (fun gs=>k fun r=>(i,g r)::gs r) d) d with h | ⟨g,h,hg⟩
   · exact .inl h
   · rcases Bf xs (fun gs=>k fun r=>(i,g r)::gs r) d with h' | ⟨gs,h',hgs⟩
     · exact .inl (h.trans h')
     · refine .inr ⟨_,h.trans h',fun r=>?_⟩
       rw[j0,hg r];simp only[hgs r]
theorem LO {β:Type} (hn:n≤F.N) (o:Option Tmp) (k:(AV→F.T→F.T)→β):∃s,wS F n o k=k s∧∀v r,dB (eV F n r) o v=eV F n (s v r):=by
 cases o with
 | none=>exact ⟨fun _ r=>r,rfl,fun v r=>rfl⟩
 | some i=>
   show ∃s,bc (Nat.ble n i) (k fun _ r=>r) (wU (F.set i) k)=k s∧_
   cases h:Nat.ble n i
   · exact ⟨(F.set i).f,rfl,fun v r=>Tn F n hn r (j6 h) v⟩
   · refine ⟨fun _ r=>r,rfl,fun v r=>?_⟩
     show (eV F n r).set i v=_
     rw[List.set_eq_of_length_le (by rw[iw];exact fE h)]
theorem nU (t:TypeId):wb E t=b_ E t:=by
 unfold wb b_;rw[sD];cases E.P.info? t<;>rfl
theorem Pr (t:TypeId):W0 E t=iu E t:=by
 unfold W0 iu;rw[sD];split
 · rfl
 · cases E.P.info? t<;>rfl
theorem yI (t:TypeId):Je E t=gz E t:=by
 unfold Je gz;rw[sD]
 cases E.P.info? t with
 | none=>rfl
 | some i=>show ob none (fun z=>ofConst z) i.zero=_;cases h:i.zero<;>simp [ob,h]
theorem W2 (t:TypeId):agF E t=fT E t:=by
 unfold agF fT;rw[iy];rfl
theorem Ps (t:TypeId) (f:Nat):Y2 E t f=mw E t f:=by
 unfold Y2 mw;rw[iy]
 generalize E.P.underlying t=u
 cases u with
 | none=>rfl
 | some d=>cases d with
   | struct fs=>show iL fs.toList f=fs[f]?;rw[gJ];exact Array.getElem?_toList
   | _=>rfl
def sG (op:Op):Prop:=(∀ts,bp E ts op=none)∧(∀ts h,dE E ts h op=none)∧∀ts,dZ E ts op=none
def j7 (f g:a_):Prop:=∀F as_ h,(∀v h',f F as_ h= .ret v h'→g F as_ h= .ret v h')∧∀v h',f F as_ h= .panic v h'→g F as_ h= .panic v h'
def VC (a b:yh):Prop:=match a with
 | .fail _ _=>True
 | a=>b=a
def fQ (op:Op):Kd F.T→Prop
 | .Gr g=>∀r,bp E (eV F n r) op=some (g r)
 | .gG f=>∀r v,f r=some v→bp E (eV F n r) op=some v
 | .red f=>∀r h v,f r h=some v→bp E (eV F n r) op=some v∨(bp E (eV F n r) op=none∧dE E (eV F n r) h op=some v)
 | .sg f=>(∀ts,bp E ts op=none)∧(∀ts h,dE E ts h op=none)∧∀r p,f r=some p→dZ E (eV F n r) op=some p
 | .wr f=>sG E op∧∀call r h rc o p,o.op=op→f r h=some p→cZ E call (eV F n r) h rc o= .val p.1 p.2
 | .call g args=>sG E op∧∀call r h rc o,o.op=op→cZ E call (eV F n r) h rc o=mB (call g (args r) h)
 | .uF f=>sG E op∧∀fc call,j7 fc call→∀r h rc o,o.op=op→VC (f fc r h rc) (cZ E call (eV F n r) h rc o)
 | .bad=>True
end
end Go.Ab.Fa
end
section
namespace Go.Ab.Fa
variable {E:Env} {F:RF} {n:Nat}
theorem TO {op:BinOp} (h1:op≠ .shl) (h2:op≠ .shr) {t:TypeId} {xc yc:Bool} {a b v:AV} (h:Tw (Pa op).f (M1 op).f (jG E op t xc yc) a b=some v):jG E op t xc yc a b=some v:=by
 unfold Tw at h
 cases a with
 | int k x=>
   obtain ⟨j,y,rfl,h3⟩:=jr (show nL (fun j y=>bc (O3 k j) ((Pa op).f k x y) none) none b=some v from h)
   obtain ⟨hk,h4⟩:=fD h3
   have hk:=LI hk
   rw[TI] at h4
   have:=TH op k x y h4
   rw[←hk]
   cases op<;>first | exact absurd rfl h1 | exact absurd rfl h2 | simpa [jG] using this
 | str s=>
   obtain ⟨s',rfl,h3⟩:=nO (show qW (fun t=>(M1 op).f s t) none b=some v from h)
   rw[TM] at h3
   cases op<;>first | exact absurd rfl h1 | exact absurd rfl h2 | simpa [jG] using h3
 | _=>exact h
theorem TP (op:BinOp) (t:TypeId) (x y:Operand) (yt:TypeId) (gx gy:F.T→AV) (hx:∀r,dA E (eV F n r) x=some (gx r)) (hy:∀r,dA E (eV F n r) y=some (gy r)):
 fQ E F n (.binOp op t x y yt) (bu op (jG E op t (isConst x) (isConst y)) gx gy):=by
 have red:∀r,bp E (eV F n r) (.binOp op t x y yt)=jG E op t (isConst x) (isConst y) (gx r) (gy r):=by
  intro r;simp only[bp,hx,hy]
 by_cases h1:op= .shl
 · subst h1
   intro r v h
   rw[red]
   obtain ⟨k,m,e1,h⟩:=jr h
   obtain ⟨k',m',e2,h⟩:=jr h
   obtain ⟨h3,rfl⟩:=TJ h
   rw[e1,e2];simp [jG,h3]
 by_cases h2:op= .shr
 · subst h2
   intro r v h
   rw[red]
   obtain ⟨k,m,e1,h⟩:=jr h
   obtain ⟨k',m',e2,h⟩:=jr h
   obtain ⟨h3,rfl⟩:=TL h
   rw[e1,e2];simp [jG,h3]
 have:bu op (jG E op t (isConst x) (isConst y)) gx gy= .gG fun r=>Tw (Pa op).f (M1 op).f (jG E op t (isConst x) (isConst y)) (gx r) (gy r):=by
  cases op<;>first | exact absurd rfl h1 | exact absurd rfl h2 | rfl
 rw[this]
 intro r v h
 rw[red]
 exact TO h1 h2 h
theorem W3 (op:UnOp) (t:TypeId) (x:Operand) (g:F.T→AV) (hg:∀r,dA E (eV F n r) x=some (g r)):fQ E F n (.unOp op t x) (ZW op g):=by
 have red:∀r,bp E (eV F n r) (.unOp op t x)=YM op (g r):=by intro r;simp only[bp,hg]
 cases op with
 | not=>
   intro r v h
   rw[red]
   obtain ⟨b,e,h⟩:=DU h
   rw[e,←h,wI];rfl
 | _=>intro r v h;rw[red];exact h
theorem Pu {t:TypeId} {m:Nat} (h1:fT E t=some true) (h2:b_ E t=some m) {cs:List AV} {o:Nat} {v:AV} (h:Pc m cs o=some v):iY E t cs o=some v:=by
 unfold Pc at h
 obtain ⟨h3,h⟩:=fD h
 have h3:=fE h3
 rw[fI] at h3
 unfold iY
 rw[h1,h2]
 simp only
 rw[if_pos (show o+m≤cs.length from h3),←h,qk,qj]
theorem Pv {t:TypeId} (h1:fT E t=some false) {cs:List AV} {o:Nat} {v:AV} (h:Pb cs o=some v):iY E t cs o=some v:=by
 unfold Pb at h
 rw[gJ] at h
 unfold iY
 rw[h1];exact h
theorem Bg {T:Type} (t:TypeId) (k:(List AV→Nat→Option AV)→Kd T):wH E t k= .bad∨∃p,wH E t k=k p∧∀cs o v,p cs o=some v→iY E t cs o=some v:=by
 unfold wH
 rw[W2]
 cases h:fT E t with
 | none=>exact .inl rfl
 | some b=>cases b with
   | false=>exact .inr ⟨_,rfl,fun cs o v=>Pv h⟩
   | true=>
     simp only
     rw[nU]
     cases h2:b_ E t with
     | none=>exact .inl rfl
     | some m=>exact .inr ⟨_,rfl,fun cs o v=>Pu h h2⟩
theorem Pw {t:TypeId} {p:List AV→Nat→Option AV} (hp:∀cs o v,p cs o=some v→iY E t cs o=some v) {h:ax} {a v:AV} (e:Hx p h a=some v):bS E h t a=some v:=by
 obtain ⟨i,o,rfl,e⟩:=sF e
 obtain ⟨obj,e1,e⟩:=gE e
 obtain ⟨cs,el,ro,rfl,e⟩:=rf e
 simp only[bS,e1]
 exact hp _ _ _ e
theorem TQ (t:TypeId) (a:Operand):fQ E F n (.load t a) (wO E F n a (fun g=>wH E t fun p=> .red fun r h=>Hx p h (g r)) .bad):=by
 rcases bZ E F n a (fun g=>wH E t fun p=>(.red fun r h=>Hx p h (g r):Kd F.T)) .bad with h | ⟨g,h,hg⟩<;>rw[h]
 · trivial
 · rcases Bg (E:=E) t (fun p=>(.red fun r h=>Hx p h (g r):Kd F.T)) with h | ⟨p,h,hp⟩<;>rw[h]
   · trivial
   · intro r h v e
     refine .inr ⟨rfl,?_⟩
     simp only[dE,hg]
     exact Pw hp e
theorem Px (s:TypeId) (x:Operand) (f:Nat):fQ E F n (.field s x f) (match Y2 E s f with
 | some fd=>wO E F n x (fun g=>wH E fd.type fun p=> .gG fun r=>yA (fun cs=>p cs fd.offset) (fun _=>none) none (g r)) .bad
 | none=> .bad):=by
 rw[Ps]
 cases h0:mw E s f with
 | none=>trivial
 | some fd=>
   simp only
   rcases bZ E F n x (fun g=>wH E fd.type fun p=>(.gG fun r=>yA (fun cs=>p cs fd.offset) (fun _=>none) none (g r):Kd F.T)) .bad with h | ⟨g,h,hg⟩<;>rw[h]
   · trivial
   · rcases Bg (E:=E) fd.type (fun p=>(.gG fun r=>yA (fun cs=>p cs fd.offset) (fun _=>none) none (g r):Kd F.T)) with h | ⟨p,h,hp⟩<;>rw[h]
     · trivial
     · intro r v e
       change yA (fun cs=>p cs fd.offset) (fun _=>none) none (g r)=some v at e
       simp only[bp,h0,hg]
       cases hv:g r with
       | agg cs=>rw[hv] at e;exact hp _ _ _ e
       | _=>rw[hv] at e;exact absurd e (by intro e;cases e)
theorem E_ (s:TypeId) (x:Operand) (f:Nat):fQ E F n (.fieldAddr s x f) (match Y2 E s f with
 | some fd=>match wb E fd.type with
   | some (_+1)=>wO E F n x (fun g=> .gG fun r=>yz (fun i o=>some (.ptr i (Nat.add o fd.offset))) none (g r)) .bad
   | _=> .bad
 | none=> .bad):=by
 rw[Ps]
 cases h0:mw E s f with
 | none=>trivial
 | some fd=>
   simp only
   rw[nU]
   cases h1:b_ E fd.type with
   | none=>trivial
   | some m=>cases m with
     | zero=>trivial
     | succ m=>
       simp only
       rcases bZ E F n x (fun g=>(.gG fun r=>yz (fun i o=>some (.ptr i (Nat.add o fd.offset))) none (g r):Kd F.T)) .bad with h | ⟨g,h,hg⟩<;>rw[h]
       · trivial
       · intro r v e
         obtain ⟨i,o,e1,e⟩:=sF e
         simp only[bp,h0,hg,e1,h1]
         rw[if_neg (by omega)];exact e
theorem HF (x:Operand):fQ E F n (.nilCheck x) (wO E F n x (fun g=> .gG fun r=>bc (EW (g r)) (some (g r)) none) .bad):=by
 rcases bZ E F n x (fun g=>(.gG fun r=>bc (EW (g r)) (some (g r)) none:Kd F.T)) .bad with h | ⟨g,h,hg⟩<;>rw[h]
 · trivial
 · intro r v e
   obtain ⟨h1,e⟩:=fD e
   simp only[bp,hg]
   rw[←e]
   exact M5 _ h1
theorem JZ (x:Operand) (i:Nat):fQ E F n (.extract x i) (wO E F n x (fun g=> .gG fun r=>yA (fun _=>none) (fun vs=>iL vs i) none (g r)) .bad):=by
 rcases bZ E F n x (fun g=>(.gG fun r=>yA (fun _=>none) (fun vs=>iL vs i) none (g r):Kd F.T)) .bad with h | ⟨g,h,hg⟩<;>rw[h]
 · trivial
 · intro r v e
   change yA (fun _=>none) (fun vs=>iL vs i) none (g r)=some v at e
   simp only[bp,hg]
   cases hv:g r with
   | tuple cs=>rw[hv] at e;show cs[i]? =some v;rw[←gJ];exact e
   | _=>rw[hv] at e;exact absurd e (by intro e;cases e)
theorem TR (c a b:Operand):fQ E F n (.pick c a b) (wO E F n c (fun gc=>wO E F n a (fun ga=>wO E F n b (fun gb=> .gG fun r=>jo (fun t=>bc t (some (ga r)) (some (gb r))) none (gc r)) .bad) .bad) .bad):=by
 rcases bZ E F n c (fun gc=>wO E F n a (fun ga=>wO E F n b (fun gb=>(.gG fun r=>jo (fun t=>bc t (some (ga r)) (some (gb r))) none (gc r):Kd F.T)) .bad) .bad) .bad with h | ⟨gc,h,hc⟩<;>rw[h]
 · trivial
 rcases bZ E F n a (fun ga=>wO E F n b (fun gb=>(.gG fun r=>jo (fun t=>bc t (some (ga r)) (some (gb r))) none (gc r):Kd F.T)) .bad) .bad with h | ⟨ga,h,ha⟩<;>rw[h]
 · trivial
 rcases bZ E F n b (fun gb=>(.gG fun r=>jo (fun t=>bc t (some (ga r)) (some (gb r))) none (gc r):Kd F.T)) .bad with h | ⟨gb,h,hb⟩<;>rw[h]
 · trivial
 intro r v e
 obtain ⟨t,e1,e⟩:=DU e
 simp only[bp,hc,e1]
 cases t
 · simp only[hb];exact e
 · simp only[ha];exact e
theorem LP {len size i o:Nat} {ix v:AV} (e:E4 len size i o ix=some v):∃k m,ix= .int k m∧0≤m∧m<len∧v= .ptr i (o+m.toNat*size):=by
 obtain ⟨k,m,rfl,e⟩:=jr e
 obtain ⟨m',rfl,e⟩:=nQ e
 obtain ⟨h1,e⟩:=re e
 have h1:=j6 h1
 exact ⟨k,m',rfl,by omega,by omega,(Option.some.inj e).symm⟩
theorem E' (t:TypeId) (x ix:Operand):fQ E F n (.indexAddr t x ix) (wO E F n x (fun gx=>wO E F n ix (fun gi=>match jM E.P t with
 | some (.array len elem)=>match wb E elem with
   | some size=> .gG fun r=>yz (fun i o=>E4 len size i o (gi r)) none (gx r)
   | none=> .bad
 | some (.slice elem)=>match wb E elem with
   | some size=> .gG fun r=>jq none (fun i o len _ _=>E4 len size i o (gi r)) none (gx r)
   | none=> .bad
 | _=> .bad) .bad) .bad):=by
 rw[iy]
 rcases bZ E F n x (fun gx=>wO E F n ix (fun gi=>match E.P.underlying t with
  | some (.array len elem)=>match wb E elem with
    | some size=>(.gG fun r=>yz (fun i o=>E4 len size i o (gi r)) none (gx r):Kd F.T)
    | none=> .bad
  | some (.slice elem)=>match wb E elem with
    | some size=> .gG fun r=>jq none (fun i o len _ _=>E4 len size i o (gi r)) none (gx r)
    | none=> .bad
  | _=> .bad) .bad) .bad with h | ⟨gx,h,hx⟩<;>rw[h]
 · trivial
 rcases bZ E F n ix (fun gi=>match E.P.underlying t with
  | some (.array len elem)=>match wb E elem with
    | some size=>(.gG fun r=>yz (fun i o=>E4 len size i o (gi r)) none (gx r):Kd F.T)
    | none=> .bad
  | some (.slice elem)=>match wb E elem with
    | some size=> .gG fun r=>jq none (fun i o len _ _=>E4 len size i o (gi r)) none (gx r)
    | none=> .bad
  | _=> .bad) .bad with h | ⟨gi,h,hi⟩<;>rw[h]
 · trivial
 cases hu:E.P.underlying t with
 | none=>trivial
 | some d=>cases d with
   | array len elem=>
     simp only
     rw[nU]
     cases hs:b_ E elem with
     | none=>trivial
     | some size=>
       intro r v e
       obtain ⟨i,o,e1,e⟩:=sF e
       obtain ⟨k,m,e2,h1,h2,rfl⟩:=LP e
       simp only[bp,hu,hx,hi,e1,e2,hs]
       rw[if_pos ⟨h1,h2⟩]
   | slice elem=>
     simp only
     rw[nU]
     cases hs:b_ E elem with
     | none=>trivial
     | some size=>
       intro r v e
       rcases nP e with ⟨_,e⟩ | ⟨i,o,l,c,b,e1,e⟩
       · cases e
       obtain ⟨k,m,e2,h1,h2,rfl⟩:=LP e
       simp only[bp,hu,hx,hi,e1,e2,hs]
       rw[if_pos ⟨h1,h2⟩]
   | _=>trivial
theorem Py (t:TypeId) (x ix:Operand):fQ E F n (.index t x ix) (wO E F n x (fun gx=>wO E F n ix (fun gi=>match jM E.P t with
 | some .string=> .gG fun r=>qW (fun s=>nL (fun _ i=>kA (fun m=>ob none (fun (b:UInt8)=>some (.int .u8 (Int.ofNat b.toNat))) (iL s m)) none i) none (gi r)) none (gx r)
 | _=> .gG fun r=>bp E (eV F n r) (.index t x ix)) .bad) .bad):=by
 rw[iy]
 rcases bZ E F n x (fun gx=>wO E F n ix (fun gi=>match E.P.underlying t with
  | some .string=>(.gG fun r=>qW (fun s=>nL (fun _ i=>kA (fun m=>ob none (fun (b:UInt8)=>some (.int .u8 (Int.ofNat b.toNat))) (iL s m)) none i) none (gi r)) none (gx r):Kd F.T)
  | _=> .gG fun r=>bp E (eV F n r) (.index t x ix)) .bad) .bad with h | ⟨gx,h,hx⟩<;>rw[h]
 · trivial
 rcases bZ E F n ix (fun gi=>match E.P.underlying t with
  | some .string=>(.gG fun r=>qW (fun s=>nL (fun _ i=>kA (fun m=>ob none (fun (b:UInt8)=>some (.int .u8 (Int.ofNat b.toNat))) (iL s m)) none i) none (gi r)) none (gx r):Kd F.T)
  | _=> .gG fun r=>bp E (eV F n r) (.index t x ix)) .bad with h | ⟨gi,h,hi⟩<;>rw[h]
 · trivial
 cases hu:E.P.underlying t with
 | none=>intro r v e;exact e
 | some d=>cases d with
   | string=>
     intro r v e
     obtain ⟨s,e1,e⟩:=nO e
     obtain ⟨k,m,e2,e⟩:=jr e
     obtain ⟨m',rfl,e⟩:=nQ e
     obtain ⟨b,e3,e⟩:=gE e
     rw[gJ] at e3
     simp only[bp,hu,hx,hi,e1,e2]
     rw[if_pos (by omega)]
     rw[show ((m':Int).toNat)=m' from rfl,e3]
     exact e
   | _=>intro r v e;exact e
theorem pg {d y:Nat} {o:Option AV} {k:Nat→Option AV} {v:AV} (e:E5 d y o k=some v):∃m,(match o with | some v=>nv v y | none=>some d)=some m∧k m=some v:=by
 cases o with
 | none=>exact ⟨d,rfl,e⟩
 | some a=>
   obtain ⟨kk,i,rfl,e⟩:=jr (show nL (fun _ i=>kA (fun m=>bc (Nat.ble m y) (k m) none) none i) none a=some v from e)
   obtain ⟨m,rfl,e⟩:=nQ e
   obtain ⟨h1,e⟩:=fD e
   have h1:=fE h1
   refine ⟨m,?_,e⟩
   simp only[nv]
   rw[if_pos (by omega)];rfl
theorem um {len cap h l:Nat} {lo hi:Option AV} (h1:(match hi with | some v=>nv v cap | none=>some len)=some h)
 (h2:(match lo with | some v=>nv v h | none=>some 0)=some l):kr len cap lo hi none=some (l,h,cap):=by
 cases hi with
 | none=>cases lo with
   | none=>cases h1;cases h2;rfl
   | some b=>cases h1;simp only[kr,Option.isSome_none];simp at h2;simp [h2]
 | some a=>cases lo with
   | none=>cases h2;simp only[kr];simp at h1;simp [h1]
   | some b=>simp only[kr];simp at h1 h2;simp [h1,h2]
theorem W5 {t elem:TypeId} {size:Nat} (hu:E.P.underlying t=some (.slice elem)) (hs:b_ E elem=some size) {lo hi:Option AV} {x v:AV} (e:slF size lo hi x=some v):dx E t x lo hi none=some v:=by
 rcases nP e with ⟨rfl,e1⟩ | ⟨i,o,len,cap,op,rfl,e1⟩
 · obtain ⟨h,h1,e2⟩:=pg e1
   obtain ⟨l,h2,e3⟩:=pg e2
   simp only[dx,hu,um h1 h2,hs]
   exact e3
 · obtain ⟨h0,e2⟩:=fD e1
   have h0:=fE h0
   obtain ⟨h,h1,e3⟩:=pg e2
   obtain ⟨l,h2,e4⟩:=pg e3
   simp only[dx,hu,um h1 h2,hs]
   rw[if_pos h0]
   cases h3:Nat.beq cap l
   · rw[h3,dO] at e4
     have:¬cap=l:=by intro ee;rw[ee,Nat.beq_refl] at h3;cases h3
     rw[if_neg this]
     simpa using e4
   · rw[h3,jb] at e4
     rw[if_pos (l7 h3)]
     cases op
     · rw[dO] at e4;simpa using e4
     · rw[jb] at e4;simpa using e4
theorem W6 {t:TypeId} (hu:E.P.underlying t=some .string) {lo hi:Option AV} {x v:AV} (e:slS lo hi x=some v):dx E t x lo hi none=some v:=by
 obtain ⟨s,rfl,e1⟩:=nO e
 obtain ⟨h,h1,e2⟩:=pg e1
 obtain ⟨l,h2,e3⟩:=pg e2
 rw[fI] at h1
 simp only[dx,hu,um h1 h2]
 rw[←e3,qk,qj];rfl
theorem W7 {t elem:TypeId} {m size:Nat} (hu:E.P.underlying t=some (.array m elem)) (hs:b_ E elem=some size) {lo hi:Option AV} {x v:AV} (e:slA m size lo hi x=some v):dx E t x lo hi none=some v:=by
 obtain ⟨i,o,rfl,e1⟩:=sF e
 obtain ⟨h,h1,e2⟩:=pg e1
 obtain ⟨l,h2,e3⟩:=pg e2
 simp only[dx,hu,um h1 h2,hs]
 rw[←Option.some.inj e3]
 cases h3:Nat.beq m l
 · have:¬m=l:=by intro ee;rw[ee,Nat.beq_refl] at h3;cases h3
   rw[if_neg this];rfl
 · rw[if_pos (l7 h3)];rfl
theorem Pz (t:TypeId) (x:Operand) (lo hi:Option Operand):fQ E F n (.slice t x lo hi none) (wO E F n x (fun gx=>wP E F n lo (fun gl=>wP E F n hi (fun gh=>match jM E.P t with
 | some (.slice elem)=>match wb E elem with
   | some size=> .gG fun r=>slF size (Dh gl r) (Dh gh r) (gx r)
   | none=> .bad
 | some .string=> .gG fun r=>slS (Dh gl r) (Dh gh r) (gx r)
 | some (.array m elem)=>match wb E elem with
   | some size=> .gG fun r=>slA m size (Dh gl r) (Dh gh r) (gx r)
   | none=> .bad
 | _=> .gG fun r=>bp E (eV F n r) (.slice t x lo hi none)) .bad) .bad) .bad):=by
 rw[iy]
 let K:(F.T→AV)→Option (F.T→AV)→Option (F.T→AV)→Kd F.T:=fun gx gl gh=>match E.P.underlying t with
  | some (.slice elem)=>match wb E elem with
    | some size=> .gG fun r=>slF size (Dh gl r) (Dh gh r) (gx r)
    | none=> .bad
  | some .string=> .gG fun r=>slS (Dh gl r) (Dh gh r) (gx r)
  | some (.array m elem)=>match wb E elem with
    | some size=> .gG fun r=>slA m size (Dh gl r) (Dh gh r) (gx r)
    | none=> .bad
  | _=> .gG fun r=>bp E (eV F n r) (.slice t x lo hi none)
 show fQ E F n _ (wO E F n x (fun gx=>wP E F n lo (fun gl=>wP E F n hi (fun gh=>K gx gl gh) .bad) .bad) .bad)
 rcases bZ E F n x (fun gx=>wP E F n lo (fun gl=>wP E F n hi (fun gh=>K gx gl gh) .bad) .bad) .bad with h | ⟨gx,h,hx⟩<;>rw[h]
 · trivial
 rcases LN E F n lo (fun gl=>wP E F n hi (fun gh=>K gx gl gh) .bad) .bad with h | ⟨gl,h,hl⟩<;>rw[h]
 · trivial
 rcases LN E F n hi (fun gh=>K gx gl gh) .bad with h | ⟨gh,h,hh⟩<;>rw[h]
 · trivial
 have red:∀r,bp E (eV F n r) (.slice t x lo hi none)=dx E t (gx r) (Dh gl r) (Dh gh r) none:=by
  intro r;simp only[bp,hx,hl,hh];rfl
 simp only[K]
 cases hu:E.P.underlying t with
 | none=>intro r v e;exact e
 | some d=>cases d with
   | string=>intro r v e;rw[red];exact W6 hu e
   | array m elem=>
     simp only
     rw[nU]
     cases hs:b_ E elem with
     | none=>trivial
     | some size=>intro r v e;rw[red];exact W7 hu hs e
   | slice elem=>
     simp only
     rw[nU]
     cases hs:b_ E elem with
     | none=>trivial
     | some size=>intro r v e;rw[red];exact W5 hu hs e
   | _=>intro r v e;exact e
end Go.Ab.Fa
end
section
namespace Go.Ab.Fa
variable {E:Env} {F:RF} {n:Nat}
theorem M6 {t:TypeId} {m:Nat} (hs:b_ E t=some m) {h:ax} {a v:AV} {p:AV×ax} (e:Bb m h a v=some p):p.1=AV.undef∧bY E h t a v=some p.2:=by
 obtain ⟨i,o,rfl,e1⟩:=sF e
 obtain ⟨obj,h1,e2⟩:=gE e1
 obtain ⟨cs,el,ro,rfl,e3⟩:=rf e2
 obtain ⟨h2,e4⟩:=re e3
 obtain ⟨h3,e5⟩:=fD e4
 obtain ⟨h4,e6⟩:=fD e5
 obtain ⟨h5,e7⟩:=fD e6
 have h3:=l7 h3
 have h4:=fE h4
 rw[fI,l8] at h3
 rw[fI] at h4
 rw[qZ,HD,l8] at h5
 have e8:=Option.some.inj e7
 subst h2
 refine ⟨by rw[←e8],?_⟩
 simp only[bY,h1,hs]
 rw[if_pos ⟨h3,h4,h5⟩,←e8,E8,l8]
theorem HG {t:TypeId} {a x:Operand}:sG E (.store t a x):=⟨fun _=>rfl,fun _ _=>rfl,fun _=>rfl⟩
theorem PA (t:TypeId) (a x:Operand):fQ E F n (.store t a x) (match wb E t with
 | some m=>wO E F n a (fun ga=>wO E F n x (fun gx=> .wr fun r h=>Bb m h (ga r) (gx r)) .bad) .bad
 | none=> .bad):=by
 rw[nU]
 cases hs:b_ E t with
 | none=>trivial
 | some m=>
   simp only
   rcases bZ E F n a (fun ga=>wO E F n x (fun gx=>(.wr fun r h=>Bb m h (ga r) (gx r):Kd F.T)) .bad) .bad with h | ⟨ga,h,ha⟩<;>rw[h]
   · trivial
   rcases bZ E F n x (fun gx=>(.wr fun r h=>Bb m h (ga r) (gx r):Kd F.T)) .bad with h | ⟨gx,h,hx⟩<;>rw[h]
   · trivial
   refine ⟨HG,fun call r h rc o p ho e=>?_⟩
   obtain ⟨h1,h2⟩:=M6 hs e
   simp only[cZ,ho,ha,hx,h2,h1]
theorem yJ (t:TypeId) (x:Operand):fQ E F n (.makeInterface t x) (match jM E.P t with
 | some (.interface _)=> .bad
 | some _=>wO E F n x (fun g=> .Gr fun r=> .iface t (g r)) .bad
 | none=> .bad):=by
 rw[iy]
 cases hu:E.P.underlying t with
 | none=>trivial
 | some d=>
   cases d with
   | interface ms=>trivial
   | _=>
     simp only
     rcases bZ E F n x (fun g=>(.Gr fun r=> .iface t (g r):Kd F.T)) .bad with h | ⟨g,h,hg⟩<;>rw[h]
     · trivial
     · intro r;simp only[bp,hu,hg]
theorem HI (f:FuncId) (a b:Array Operand):fQ E F n (.makeFunc (.func f) a b) (wL E F n a.toList (fun ga=>wL E F n b.toList (fun gb=> .Gr fun r=> .func f (ga r) (gb r)) .bad) .bad):=by
 rcases uk E F n a.toList (fun ga=>wL E F n b.toList (fun gb=>(.Gr fun r=> .func f (ga r) (gb r):Kd F.T)) .bad) .bad with h | ⟨ga,h,ha⟩<;>rw[h]
 · trivial
 rcases uk E F n b.toList (fun gb=>(.Gr fun r=> .func f (ga r) (gb r):Kd F.T)) .bad with h | ⟨gb,h,hb⟩<;>rw[h]
 · trivial
 intro r;simp only[bp,ha,hb]
theorem PB (t:TypeId):fQ E F n (.alloc t) (match Je E t with
 | some z=> .sg fun _=>some (.cells z.cells t false,fun i=> .ptr i 0)
 | none=> .bad):=by
 rw[yI]
 cases hz:gz E t with
 | none=>trivial
 | some z=>exact ⟨fun _=>rfl,fun _ _=>rfl,fun r p e=>by simp only[dZ,hz];exact e⟩
theorem W8 (t:TypeId) (x:Operand):fQ E F n (.box t x) (wO E F n x (fun g=> .sg fun r=>some (.cells (lu (g r)) t false,fun i=> .ptr i 0)) .bad):=by
 rcases bZ E F n x (fun g=>(.sg fun r=>some (.cells (lu (g r)) t false,fun i=> .ptr i 0):Kd F.T)) .bad with h | ⟨g,h,hg⟩<;>rw[h]
 · trivial
 · exact ⟨fun _=>rfl,fun _ _=>rfl,fun r p e=>by simp only[dZ,hg];rw[←l8];exact e⟩
theorem Di (t:TypeId) (len:Nat) (parts:Array (Nat×Operand)):fQ E F n (.buildSlice t len parts) (match jM E.P t with
 | some (.slice elem)=>match wb E elem,Je E elem with
   | some m,some z=>if z.cells.length=m∧len*m≤2^24 then Tx E F n parts.toList (fun gp=> .sg fun r=>ob none (fun cs=>some (.cells cs elem false,fun i=> .slice i 0 len len false)) (rI (fun i=>some (i*m,m)) (fU z.cells len) (gp r))) .bad else .bad
   | _,_=> .bad
 | _=> .bad):=by
 rw[iy]
 cases hu:E.P.underlying t with
 | none=>trivial
 | some d=>cases d with
   | slice elem=>
     simp only
     rw[nU,yI]
     cases hs:b_ E elem with
     | none=>trivial
     | some m=>cases hz:gz E elem with
       | none=>trivial
       | some z=>
         simp only
         by_cases hc:z.cells.length=m∧len*m≤2^24
         · rw[if_pos hc]
           rcases Bf E F n parts.toList (fun gp=>(.sg fun r=>ob none (fun cs=>some (.cells cs elem false,fun i=> .slice i 0 len len false)) (rI (fun i=>some (i*m,m)) (fU z.cells len) (gp r)):Kd F.T)) .bad with h | ⟨g,h,hg⟩<;>rw[h]
           · trivial
           · refine ⟨fun _=>rfl,fun _ _=>rfl,fun r p e=>?_⟩
             obtain ⟨cs,h1,e⟩:=gE e
             simp only[dZ,hu,hs,hz,hg]
             rw[if_pos hc];simp only[h1];exact e
         · rw[if_neg hc];trivial
   | _=>trivial
theorem TS (z:List AV) (m:Nat):W1 z m=fU z m:=by
 induction m with
 | zero=>rfl
 | succ m ih=>show lf z (W1 z m)=_;rw[ng,ih];rfl
theorem Ff (t:TypeId) (l c:Operand):fQ E F n (.makeSlice t l c) (wO E F n l (fun gl=>wO E F n c (fun gc=>match jM E.P t with
 | some (.slice elem)=>match wb E elem,W0 E elem,Je E elem with
   | some m,some bytes,some z=>if z.cells.length=m then .sg fun r=>Ty elem bytes z.cells (gl r) (gc r) else .bad
   | _,_,_=> .bad
 | _=> .bad) .bad) .bad):=by
 rw[iy]
 rcases bZ E F n l (fun gl=>wO E F n c (fun gc=>match E.P.underlying t with
  | some (.slice elem)=>match wb E elem,W0 E elem,Je E elem with
    | some m,some bytes,some z=>if z.cells.length=m then (.sg fun r=>Ty elem bytes z.cells (gl r) (gc r):Kd F.T) else .bad
    | _,_,_=> .bad
  | _=> .bad) .bad) .bad with h | ⟨gl,h,hl⟩<;>rw[h]
 · trivial
 rcases bZ E F n c (fun gc=>match E.P.underlying t with
  | some (.slice elem)=>match wb E elem,W0 E elem,Je E elem with
    | some m,some bytes,some z=>if z.cells.length=m then (.sg fun r=>Ty elem bytes z.cells (gl r) (gc r):Kd F.T) else .bad
    | _,_,_=> .bad
  | _=> .bad) .bad with h | ⟨gc,h,hc⟩<;>rw[h]
 · trivial
 cases hu:E.P.underlying t with
 | none=>trivial
 | some d=>cases d with
   | slice elem=>
     simp only
     rw[nU,Pr,yI]
     cases hs:b_ E elem with
     | none=>trivial
     | some m=>cases hb:iu E elem with
       | none=>trivial
       | some bytes=>cases hz:gz E elem with
         | none=>trivial
         | some z=>
           simp only
           by_cases hm:z.cells.length=m
           · rw[if_pos hm]
             refine ⟨fun _=>rfl,fun _ _=>rfl,fun r p e=>?_⟩
             obtain ⟨k1,a,e1,q1⟩:=jr e
             obtain ⟨k2,b,e2,q2⟩:=jr q1
             obtain ⟨a',rfl,q3⟩:=nQ q2
             obtain ⟨b',rfl,q4⟩:=nQ q3
             obtain ⟨c1,q5⟩:=fD q4
             obtain ⟨c2,q6⟩:=re q5
             obtain ⟨c3,q7⟩:=fD q6
             have c1:=fE c1
             have c2:=j6 c2
             have c3:bytes*b'≤140737488355328:=fE c3
             simp only[dZ,hu,hs,hb,hz,hl,hc,e1,e2]
             rw[if_pos ⟨by omega,by omega,by omega,by have:(bytes:Int)*(b':Int)=((bytes*b':Nat):Int):=by simp
                                                      rw[this];omega,hm⟩]
             rw[←q7,TS];rfl
           · rw[if_neg hm];trivial
   | _=>trivial
theorem HJ (k:List UInt8):∀(l:List gO) (i:Nat) {x:Option AV},findF k l=some x→∃y,rJ (.str k) l i=some y∧y.map (·.2)=x
 | [],i,x,h=>⟨none,rfl,by cases h;rfl⟩
 | e::es,i,x,h=>by
   obtain ⟨s,h1,h2⟩:=nO (show qW (fun s=>bc (leq A8 k s) (some (some e.val)) (findF k es)) none e.key=some x from h)
   rw[JY] at h2
   rw[rJ,h1]
   show ∃y,(match (some (k==s):Option Bool) with | some true=>some (some (i,e.val)) | some false=>rJ (.str k) es (i+1) | none=>none)=some y∧_
   cases hb:k==s with
   | true=>
     rw[hb,jb] at h2
     exact ⟨some (i,e.val),rfl,Option.some.inj h2⟩
   | false=>
     rw[hb,dO] at h2
     exact HJ k es (i+1) h2
noncomputable def Z4 (h:ax) (m:AV):Option (List gO):=match m with
 | .dw=>some []
 | .map i=>(match h.get i with | some (.map es _)=>some es | _=>none)
 | _=>none
theorem PC {z:AV} {ok:Bool} {h:ax} {m k v:AV} (e:Lx z ok h m k=some v):
 (∃s,k= .str s)∧∃es,(match m with | .dw=>some [] | .map i=>(match h.get i with | some (.map es _)=>some es | _=>none) | _=>none)=some es∧
  ∃y,rJ k es 0=some y∧v=(match y with | some (_,w)=>(if ok then .tuple [w,.bool true] else w) | none=>if ok then .tuple [z,.bool false] else z):=by
 obtain ⟨s,rfl,e1⟩:=nO e
 obtain ⟨es,h1,e2⟩:=gE e1
 obtain ⟨x,h2,e3⟩:=gE e2
 refine ⟨⟨s,rfl⟩,es,?_,?_⟩
 · cases m with
   | dw=>exact h1
   | map i=>
     obtain ⟨o,h3,h4⟩:=gE (show ob none (fun o=>Tz (fun es=>some es) none o) (h.get i)=some es from h1)
     simp only[h3]
     cases o with
     | map gr c=>exact h4
     | _=>cases h4
   | _=>cases h1
 · obtain ⟨y,h3,h4⟩:=HJ s es 0 h2
   refine ⟨y,h3,?_⟩
   have e4:=Option.some.inj e3
   rw[←e4,←h4]
   cases y with
   | none=>cases ok<;>rfl
   | some y=>obtain ⟨_,w⟩:=y;cases ok<;>rfl
theorem M7 (t:TypeId) (x ix:Operand) (ok:Bool):fQ E F n (.lookup t x ix ok) (wO E F n x (fun gx=>wO E F n ix (fun gi=>match jM E.P t with
 | some (.map key elem)=>match jM E.P key,Je E elem with
   | some .string,some z=> .red fun r h=>Lx z ok h (gx r) (gi r)
   | _,_=> .red fun r h=>dE E (eV F n r) h (.lookup t x ix ok)
 | _=> .bad) .bad) .bad):=by
 let K:(F.T→AV)→(F.T→AV)→Kd F.T:=fun gx gi=>match jM E.P t with
  | some (.map key elem)=>match jM E.P key,Je E elem with
    | some .string,some z=> .red fun r h=>Lx z ok h (gx r) (gi r)
    | _,_=> .red fun r h=>dE E (eV F n r) h (.lookup t x ix ok)
  | _=> .bad
 show fQ E F n _ (wO E F n x (fun gx=>wO E F n ix (fun gi=>K gx gi) .bad) .bad)
 rcases bZ E F n x (fun gx=>wO E F n ix (fun gi=>K gx gi) .bad) .bad with h | ⟨gx,h,hx⟩<;>rw[h]
 · trivial
 rcases bZ E F n ix (fun gi=>K gx gi) .bad with h | ⟨gi,h,hi⟩<;>rw[h]
 · trivial
 simp only[K,iy,yI]
 have yG:fQ E F n (.lookup t x ix ok) (.red fun r h=>dE E (eV F n r) h (.lookup t x ix ok)):=fun r h v e=> .inr ⟨rfl,e⟩
 cases hu:E.P.underlying t with
 | none=>trivial
 | some d=>cases d with
   | map key elem=>
     simp only
     cases hk:E.P.underlying key with
     | none=>exact yG
     | some kd=>cases kd with
       | string=>cases hz:gz E elem with
         | none=>exact yG
         | some z=>
           intro r h v e
           refine .inr ⟨rfl,?_⟩
           obtain ⟨⟨s,hs⟩,es,h1,y,h2,rfl⟩:=PC e
           simp only[dE,hu,hx,hi,hk]
           rw[hs] at h2 ⊢
           rw[if_pos (show gW (some TypeDesc.string) (AV.str s)=true from rfl)]
           have h1':Z4 h (gx r)=some es:=h1
           change (match Z4 h (gx r) with
            | none=>none
            | some es=>match rJ (AV.str s) es 0 with
              | none=>none
              | some (some (_,v))=>some (if ok then AV.tuple [v,.bool true] else v)
              | some none=>match gz E elem with
                | some z=>some (if ok then AV.tuple [z,.bool false] else z)
                | none=>none)=_
           rw[h1']
           simp only[h2,hz]
           cases y with
           | none=>rfl
           | some y=>obtain ⟨_,w⟩:=y;rfl
       | _=>exact yG
   | _=>trivial
theorem Bh:∀(fs:List Field),Ar E fs=placesOf E fs
 | []=>rfl
 | f::fs=>by
   show ob none (fun n=>ob none (fun l=>some ((f.offset,n)::l)) (Ar E fs)) (wb E f.type)=_
   rw[Bh fs,nU]
   simp only[placesOf,dL]
   cases b_ E f.type with
   | none=>rfl
   | some n=>
     show ob none (fun l=>some ((f.offset,n)::l)) (dL _ fs)=_
     cases dL (fun f=>match b_ E f.type with | some n=>some (f.offset,n) | none=>none) fs<;>rfl
theorem HK (ps:List (Nat×Nat)):∀(l:List (Nat×AV)) (cs:List AV) {v:List AV},Hy ps cs l=some v→rI (ps[·]?) cs l=some v
 | [],cs,v,h=>h
 | (i,x)::l,cs,v,h=>by
   obtain ⟨q,h1,h2⟩:=gE (show ob none (fun (q:Nat×Nat)=>bc (Nat.beq (iK (lu x)) q.2) (bc (Nat.ble (q.1+q.2) (iK cs)) (Hy ps (Hp (lu x) cs q.1) l) none) none) (iL ps i)=some v from h)
   obtain ⟨h3,h4⟩:=fD h2
   obtain ⟨h5,h6⟩:=fD h4
   have h3:=l7 h3
   have h5:=fE h5
   rw[fI,l8] at h3
   rw[fI] at h5
   rw[gJ] at h1
   rw[rI]
   obtain ⟨off,size⟩:=q
   simp only[h1]
   rw[if_pos ⟨h3,h5⟩,←E8,←l8]
   exact HK ps l _ h6
theorem PD (t:TypeId) (parts:Array (Nat×Operand)):fQ E F n (.build t parts) (match Je E t,jM E.P t with
 | some z,some (.struct fs)=>match Ar E fs.toList with
   | some ps=>Tx E F n parts.toList (fun gp=> .gG fun r=>ob none (fun cs=>some (.agg cs)) (Hy ps (lu z) (gp r))) .bad
   | none=> .bad
 | _,_=> .gG fun r=>bp E (eV F n r) (.build t parts)):=by
 have yG:fQ E F n (.build t parts) (.gG fun r=>bp E (eV F n r) (.build t parts)):=fun r v e=>e
 rw[iy,yI]
 cases hz:gz E t with
 | none=>exact yG
 | some z=>cases hu:E.P.underlying t with
   | none=>exact yG
   | some d=>cases d with
     | struct fs=>
       simp only
       rw[Bh]
       cases hp:placesOf E fs.toList with
       | none=>trivial
       | some ps=>
         simp only
         rcases Bf E F n parts.toList (fun gp=>(.gG fun r=>ob none (fun cs=>some (.agg cs)) (Hy ps (lu z) (gp r)):Kd F.T)) .bad with h | ⟨g,h,hg⟩<;>rw[h]
         · trivial
         · intro r v e
           obtain ⟨cs,h1,e2⟩:=gE e
           have h1:=HK ps _ _ h1
           rw[l8] at h1
           simp only[bp,hg,Em,hz,hu,hp,h1]
           exact e2
     | _=>exact yG
theorem Fl (t:TypeId) (m k x:Operand):fQ E F n (.mapUpdate t m k x) (wO E F n m (fun gm=>wO E F n k (fun gk=>wO E F n x (fun gx=> .wr fun r h=>ob none (fun h'=>some (AV.undef,h')) (ez E h t (gm r) (gk r) (gx r))) .bad) .bad) .bad):=by
 rcases bZ E F n m (fun gm=>wO E F n k (fun gk=>wO E F n x (fun gx=>(.wr fun r h=>ob none (fun h'=>some (AV.undef,h')) (ez E h t (gm r) (gk r) (gx r)):Kd F.T)) .bad) .bad) .bad with h | ⟨gm,h,hm⟩<;>rw[h]
 · trivial
 rcases bZ E F n k (fun gk=>wO E F n x (fun gx=>(.wr fun r h=>ob none (fun h'=>some (AV.undef,h')) (ez E h t (gm r) (gk r) (gx r)):Kd F.T)) .bad) .bad with h | ⟨gk,h,hk⟩<;>rw[h]
 · trivial
 rcases bZ E F n x (fun gx=>(.wr fun r h=>ob none (fun h'=>some (AV.undef,h')) (ez E h t (gm r) (gk r) (gx r)):Kd F.T)) .bad with h | ⟨gx,h,hx⟩<;>rw[h]
 · trivial
 refine ⟨⟨fun _=>rfl,fun _ _=>rfl,fun _=>rfl⟩,fun call r h rc o p ho e=>?_⟩
 obtain ⟨h',h1,e2⟩:=gE e
 have e3:=Option.some.inj e2
 simp only[cZ,ho,hm,hk,hx,h1,←e3]
theorem M8 (t:TypeId) (m k x:Operand):fQ E F n (.insert t m k x) (wO E F n m (fun gm=>wO E F n k (fun gk=>wO E F n x (fun gx=> .wr fun r h=>ob none (fun h'=>some (AV.undef,h')) (ez E h t (gm r) (gk r) (gx r))) .bad) .bad) .bad):=by
 rcases bZ E F n m (fun gm=>wO E F n k (fun gk=>wO E F n x (fun gx=>(.wr fun r h=>ob none (fun h'=>some (AV.undef,h')) (ez E h t (gm r) (gk r) (gx r)):Kd F.T)) .bad) .bad) .bad with h | ⟨gm,h,hm⟩<;>rw[h]
 · trivial
 rcases bZ E F n k (fun gk=>wO E F n x (fun gx=>(.wr fun r h=>ob none (fun h'=>some (AV.undef,h')) (ez E h t (gm r) (gk r) (gx r)):Kd F.T)) .bad) .bad with h | ⟨gk,h,hk⟩<;>rw[h]
 · trivial
 rcases bZ E F n x (fun gx=>(.wr fun r h=>ob none (fun h'=>some (AV.undef,h')) (ez E h t (gm r) (gk r) (gx r)):Kd F.T)) .bad with h | ⟨gx,h,hx⟩<;>rw[h]
 · trivial
 refine ⟨⟨fun _=>rfl,fun _ _=>rfl,fun _=>rfl⟩,fun call r h rc o p ho e=>?_⟩
 obtain ⟨h',h1,e2⟩:=gE e
 have e3:=Option.some.inj e2
 simp only[cZ,ho,hm,hk,hx,h1,←e3]
theorem TU (it:Operand) (s:Bool):fQ E F n (.next it s) (wO E F n it (fun g=> .wr fun r h=>Dw h (g r) s) .bad):=by
 rcases bZ E F n it (fun g=>(.wr fun r h=>Dw h (g r) s:Kd F.T)) .bad with h | ⟨g,h,hg⟩<;>rw[h]
 · trivial
 refine ⟨⟨fun _=>rfl,fun _ _=>rfl,fun _=>rfl⟩,fun call r h rc o p ho e=>?_⟩
 simp only[cZ,ho,hg,e]
theorem PE (x:Operand):fQ E F n (.panic x) (wO E F n x (fun g=> .uF fun _ r h _=>qX (fun t w=> .panic (.iface t w) h) (.fail "" none) (g r)) .bad):=by
 rcases bZ E F n x (fun g=>(.uF fun _ r h _=>qX (fun t w=> .panic (.iface t w) h) (.fail "" none) (g r):Kd F.T)) .bad with h | ⟨g,h,hg⟩<;>rw[h]
 · trivial
 refine ⟨⟨fun _=>rfl,fun _ _=>rfl,fun _=>rfl⟩,fun fc call _ r h rc o ho=>?_⟩
 rcases HE (f:=fun t w=>yh.panic (.iface t w) h) (why:= "") (o:=none) (g r) with ⟨t,w,e⟩ | e
 · simp only[cZ,ho,hg,e];rfl
 · show VC (qX _ _ _) _
   rw[e];trivial
theorem PF (c:Call):fQ E F n (.defer c) (.uF fun _ r _ rc=>match rc,callee E (eV F n r) c with
 | .Gp _,_=> .fail "" none
 | _,some (.fn f,args)=> .defer (.call f args)
 | _,_=> .fail "" none):=by
 refine ⟨⟨fun _=>rfl,fun _ _=>rfl,fun _=>rfl⟩,fun fc call _ r h rc o ho=>?_⟩
 simp only[cZ,ho]
 cases rc with
 | Gp l=>trivial
 | _=>cases hc:callee E (eV F n r) c with
   | none=>trivial
   | some p=>obtain ⟨f,args⟩:=p;cases f<;>first | trivial | rfl
theorem J0 (src dst:TypeId) (x:Operand):fQ E F n (.convert src dst x) (wO E F n x (Ly E src dst) .bad):=by
 rcases bZ E F n x (Ly E src dst) (.bad:Kd F.T) with h | ⟨g,h,hg⟩<;>rw[h]
 · trivial
 unfold Ly
 simp only[iy]
 cases hs:E.P.underlying src with
 | none=>trivial
 | some ds=>cases hd:E.P.underlying dst with
   | none=>cases ds<;>trivial
   | some dd=>
     cases ds<;>cases dd<;>try trivial
     case int.int k k'=>
      intro r v e
      obtain ⟨j,m,e1,e2⟩:=jr e
      simp only[bp,hs,hd,hg,e1]
      rw[←nR];exact e2
     case string.string=>
      intro r v e
      obtain ⟨s,e1,e2⟩:=nO e
      simp only[bp,hs,hd,hg,e1];exact e2
     case string.slice e=>
      refine ⟨⟨fun _=>by simp only[bp,hs,hd],fun _ _=>by simp only[dE,hs,hd],fun _=>rfl⟩,fun call r h rc o p ho e=>?_⟩
      simp only[cZ,ho,hg,e]
     case slice.string el=>
      simp only
      cases he:E.P.underlying el with
      | none=>trivial
      | some de=>
        cases de<;>try trivial
        rename_i k
        cases k<;>try trivial
        intro r h v e
        rcases nP e with ⟨e1,e2⟩ | ⟨i,o,l,c,b,e1,e2⟩
        · refine .inr ⟨by simp only[bp,hs,hd,hg,e1],?_⟩
          simp only[dE,hs,hd,hg,he]
          simp only[e1];exact e2
        · refine .inr ⟨by simp only[bp,hs,hd,hg,e1],?_⟩
          simp only[dE,hs,hd,hg,he]
          simp only[e1]
          obtain ⟨l',h1,e3⟩:=gE e2
          simp only[h1];exact e3
end Go.Ab.Fa
end
