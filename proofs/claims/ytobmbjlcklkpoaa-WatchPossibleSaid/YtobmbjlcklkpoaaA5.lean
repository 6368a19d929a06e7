import Derived.Test.YtobmbjlcklkpoaaA4
import Derived.Test.YtobmbjlcklkpoaaA0
set_option linter.unusedVariables false
set_option linter.unusedSimpArgs false
section
namespace Go.Ab.Fa
structure W (α:Type) where
 f:α
section
variable {α β T:Type}
noncomputable def wW (w:W α) (k:α→β):β:=W.rec (motive:=fun _=>β) k w
noncomputable def wA (a:Acc T) (k:(T→AV)→β):β:=Acc.rec (motive:=fun _=>β) k a
noncomputable def wU (a:Upd T) (k:(AV→T→T)→β):β:=Upd.rec (motive:=fun _=>β) k a
end
structure Y where
 ds:List oh
 rc:RC
inductive FO (T:Type) where
 | Ie (r:T) (h:aw) (y:Y)
 | jmp (e:iC) (r:T) (h:aw) (y:Y)
 | bad
structure I (T:Type) where
 run:bj→T→aw→Y→FO T
structure C (T:Type) where
 run:Nat→bj→T→aw→Y→FO T
inductive Kd (T:Type) where
 | Hg (f:T→AV)
 | hJ (f:T→Option AV)
 | red (f:T→aw→Option AV)
 | so (f:T→Option (aY×(Nat→AV)))
 | wr (f:T→aw→Option (AV×aw))
 | call (g:Fn) (args:T→List AV)
 | uk (f:bj→T→aw→RC→yb)
 | bad
section
variable (E:Env) (F:RF) (n:Nat)
noncomputable def wT {β:Type} (i:Nat) (k:(F.T→AV)→β):β:=bc (Nat.ble n i) (k fun _=>AV.undef) (wA (F.get i) k)
noncomputable def wO {β:Type} (x:Operand) (k:(F.T→AV)→β) (d:β):β:=match x with
 | .tmp t=>wT F n t k
 | .const v=>match ofConst v with
   | some a=>k fun _=>a
   | none=>d
 | .global g=>bc (Nat.ble E.G g) d (k fun _=> .ptr g 0)
 | .func f=>k fun _=> .func f [] []
noncomputable def wL {β:Type} (l:List Operand) (k:(F.T→List AV)→β) (d:β):β:=match l with
 | []=>k fun _=> []
 | x::xs=>wO E F n x (fun g=>wL xs (fun gs=>k fun r=>g r::gs r) d) d
noncomputable def wP {β:Type} (o:Option Operand) (k:Option (F.T→AV)→β) (d:β):β:=match o with
 | none=>k none
 | some x=>wO E F n x (fun g=>k (some g)) d
noncomputable def wS {β:Type} (o:Option Tmp) (k:(AV→F.T→F.T)→β):β:=match o with
 | none=>k fun _ r=>r
 | some i=>bc (Nat.ble n i) (k fun _ r=>r) (wU (F.set i) k)
noncomputable def vY (t:TypeId):Option Nat:=ob none (fun i=>some i.size) (zo E.P t)
noncomputable def YO (t:TypeId):Option Nat:=if E.bld=some t then none else ob none (fun i=>some i.bytes) (zo E.P t)
noncomputable def J3 (t:TypeId):Option AV:=ob none (fun i=>ob none (fun z=>ofConst z) i.zero) (zo E.P t)
noncomputable def agF (t:TypeId):Option Bool:=match j9 E.P t with
 | some (.struct _)=>some true
 | some (.array _ _)=>some true
 | some _=>some false
 | none=>none
noncomputable def fiF (t:TypeId) (f:Nat):Option Field:=match j9 E.P t with
 | some (.struct fs)=>jn fs.toList f
 | _=>none
variable {T:Type}
noncomputable def QH (op:BinOp):W (IntKind→Int→Int→Option AV):=match op with
 | .add=>⟨fun k a b=>some (.int k (uN k (N5 a b)))⟩
 | .sub=>⟨fun k a b=>some (.int k (uN k (Ft a b)))⟩
 | .mul=>⟨fun k a b=>some (.int k (uN k (Qz a b)))⟩
 | .eql=>⟨fun _ a b=>some (.bool (Xf a b))⟩
 | .neq=>⟨fun _ a b=>some (.bool (vy (Xf a b)))⟩
 | .lss=>⟨fun _ a b=>some (.bool (U3 a b))⟩
 | .leq=>⟨fun _ a b=>some (.bool (vy (U3 b a)))⟩
 | .gtr=>⟨fun _ a b=>some (.bool (U3 b a))⟩
 | .geq=>⟨fun _ a b=>some (.bool (vy (U3 a b)))⟩
 | op=>⟨U4 op⟩
noncomputable def N_ (op:BinOp):W (List UInt8→List UInt8→Option AV):=match op with
 | .eql=>⟨fun a b=>some (.bool (leq Be a b))⟩
 | .neq=>⟨fun a b=>some (.bool (vy (leq Be a b)))⟩
 | op=>⟨vf op⟩
noncomputable def U_ (f:IntKind→Int→Int→Option AV) (g:List UInt8→List UInt8→Option AV) (yC:AV→AV→Option AV) (a b:AV):Option AV:=
 oC (fun k x=>oC (fun j y=>bc (Qx k j) (f k x y) none) none b) (qQ (fun s=>qQ (fun t=>g s t) none b) (yC a b) a) a
noncomputable def cD (op:BinOp) (yC:AV→AV→Option AV) (ga gb:T→AV):Kd T:=match op with
 | .shl=> .hJ fun r=>oC (fun k x=>oC (fun _ y=>abq k x y) none (gb r)) none (ga r)
 | .shr=> .hJ fun r=>oC (fun k x=>oC (fun _ y=>abr k x y) none (gb r)) none (ga r)
 | op=>wW (QH op) fun f=>wW (N_ op) fun g=> .hJ fun r=>U_ f g yC (ga r) (gb r)
noncomputable def unK (op:UnOp) (ga:T→AV):Kd T:=match op with
 | .not=> .hJ fun r=>jF (fun b=>some (.bool (vy b))) none (ga r)
 | op=> .hJ fun r=>unA op (ga r)
noncomputable def QI (cs:List AV) (o:Nat):Option AV:=jn cs o
noncomputable def QJ (n:Nat) (cs:List AV) (o:Nat):Option AV:=bc (Nat.ble (Nat.add o n) (jm cs)) (some (.agg (sI (sH cs o) n))) none
noncomputable def wF (t:TypeId) (k:(List AV→Nat→Option AV)→Kd T):Kd T:=match agF E t with
 | some true=>match vY E t with
   | some n=>k (QJ n)
   | none=> .bad
 | some false=>k QI
 | none=> .bad
noncomputable def Ig (p:List AV→Nat→Option AV) (h:aw) (a:AV):Option AV:=
 yu (fun i o=>ob none (fun obj=>yw (fun cs _ _=>p cs o) none obj) (h.get i)) none a
noncomputable def Bj (n:Nat) (h:aw) (a v:AV):Option (AV×aw):=
 yu (fun i o=>ob none (fun obj=>yw (fun cs e ro=>bc ro none
  (bc (Nat.beq (jm (lS v)) n) (bc (Nat.ble (Nat.add o n) (jm cs)) (bc (yx U5 (lS v)) (some (AV.undef,h.put i (some (.cells (H8 (lS v) cs o) e false)))) none) none) none)) none obj) (h.get i)) none a
noncomputable def FC (len size:Nat) (i o:Nat) (ix:AV):Option AV:=
 oC (fun _ n=>lq (fun m=>bc (Nat.ble len m) none (some (.ptr i (Nat.add o (Nat.mul m size))))) none n) none ix
noncomputable def FD (d y:Nat) (o:Option AV) (k:Nat→Option AV):Option AV:=
 ob (k d) (fun v=>oC (fun _ i=>lq (fun m=>bc (Nat.ble m y) (k m) none) none i) none v) o
noncomputable def slF (size:Nat) (lo hi:Option AV) (v:AV):Option AV:=
 jG (FD 0 0 hi fun h=>FD 0 h lo fun _=>some .aK)
  (fun i o len cap op=>bc (Nat.ble len cap) (FD len cap hi fun h=>FD 0 h lo fun l=>
   bc (Nat.beq cap l) (bc op (some .ff) (some (.slice i o (Nat.sub h l) (Nat.sub cap l) false))) (some (.slice i (Nat.add o (Nat.mul l size)) (Nat.sub h l) (Nat.sub cap l) op))) none) none v
noncomputable def slS (lo hi:Option AV) (v:AV):Option AV:=
 qQ (fun s=>FD (jm s) (jm s) hi fun h=>FD 0 h lo fun l=>some (.str (sI (sH s l) (Nat.sub h l)))) none v
noncomputable def slA (m size:Nat) (lo hi:Option AV) (v:AV):Option AV:=
 yu (fun i o=>FD m m hi fun h=>FD 0 h lo fun l=>some (.slice i (bc (Nat.beq m l) o (Nat.add o (Nat.mul l size))) (Nat.sub h l) (Nat.sub m l) false)) none v
noncomputable def C9 (o:Option (T→AV)) (r:T):Option AV:=ob none (fun g=>some (g r)) o
noncomputable def abt (v:AV):Option Nat:=jG (some 0) (fun _ _ n _ _=>some n) (qQ (fun s=>some (jm s)) (nu v) v) v
noncomputable def QK (h:aw) (size n:Nat) (v:AV):Option (List AV):=
 jG (bc (Nat.beq n 0) (some []) none) (fun i o len _ _=>bc (Nat.ble n len) (ob none (fun obj=>yw (fun cs _ _=>bc (Nat.ble (Nat.add o (Nat.mul n size)) (jm cs)) (some (sI (sH cs o) (Nat.mul n size))) none) none obj) (h.get i)) none)
  (fq h size n v) v
noncomputable def abu (elem:TypeId) (size bytes:Nat) (h:aw) (s x:AV):Option (AV×aw):=
 ob none (fun n=>ob none (fun new=>bc (yx U5 new) (bc (Nat.beq (jm new) (Nat.mul n size))
  (jG
   (bc (Nat.beq n 0) (some (.aK,h)) (bc (Nat.ble (Nat.mul (Nat.add (Nat.mul 4 n) 4096) (Nat.add bytes 1)) 1099511627776)
    (ob none (fun h'=>some (.slice h.nx 0 n n true,h')) (h.new (.cells new elem false))) none))
   (fun i o len cap op=>ob none (fun obj=>yw (fun cs e ro=>bc ro none
    (bc (Nat.ble (Nat.add len n) cap)
     (bc (Nat.ble (Nat.add o (Nat.mul (Nat.add len n) size)) (jm cs)) (some (.slice i o (Nat.add len n) cap op,h.put i (some (.cells (H8 new cs (Nat.add o (Nat.mul len size))) e false)))) none)
     (bc (Nat.ble (Nat.mul (Nat.add (Nat.mul 4 (Nat.add len n)) 4096) (Nat.add bytes 1)) 1099511627776)
      (bc (Nat.ble (Nat.add o (Nat.mul len size)) (jm cs))
       (bc op
        (bc (Nat.beq e elem) (bc (Nat.beq (Nat.add o (Nat.mul cap size)) (jm cs)) (bc (Nat.beq o 0)
         (ob none (fun h'=>some (.slice h.nx 0 (Nat.add len n) (Nat.add len n) true,h')) ((h.put i none).new (.cells (lM (sI (sH cs o) (Nat.mul len size)) new) elem false))) none) none) none)
        (ob none (fun h'=>some (.slice h.nx 0 (Nat.add len n) (Nat.add len n) true,h')) (h.new (.cells (lM (sI (sH cs o) (Nat.mul len size)) new) elem false)))) none) none)))
    none obj) (h.get i))
   none s) none) none) (QK h size n x)) (abt x)
noncomputable def N' (argTypes:Array TypeId) (gs gx:T→AV):Kd T:=match jn argTypes.toList 0,jn argTypes.toList 1 with
 | some sT,some xT=>match j9 E.P sT,j9 E.P xT with
   | some (.slice elem),some xd=>if mC xd then .wr fun r h=>sh E h elem (gs r) (gx r) else match vY E elem,YO E elem,J3 E elem with
     | some size,some bytes,some z=>if z.cells.length=size then .wr fun r h=>abu elem size bytes h (gs r) (gx r) else .bad
     | _,_,_=> .bad
   | _,_=> .bad
 | _,_=> .bad
noncomputable def U' {β:Type} (l:List (Nat×Operand)) (k:(F.T→List (Nat×AV))→β) (d:β):β:=match l with
 | []=>k fun _=> []
 | (i,x)::xs=>wO E F n x (fun g=>U' xs (fun gs=>k fun r=>(i,g r)::gs r) d) d
noncomputable def AD (fs:List Field):Option (List (Nat×Nat)):=List.rec (motive:=fun _=>Option (List (Nat×Nat))) (some []) (fun f _ ih=>ob none (fun n=>ob none (fun l=>some ((f.offset,n)::l)) ih) (vY E f.type)) fs
noncomputable def Ih (ps:List (Nat×Nat)) (cs:List AV) (l:List (Nat×AV)):Option (List AV):=
 List.rec (motive:=fun _=>List AV→Option (List AV)) (fun cs=>some cs) (fun p _ ih cs=>ob none (fun (q:Nat×Nat)=>bc (Nat.beq (jm (lS p.2)) q.2) (bc (Nat.ble (Nat.add q.1 q.2) (jm cs)) (ih (H8 (lS p.2) cs q.1)) none) none) (jn ps p.1)) l cs
noncomputable def YP (z:List AV) (m:Nat):List AV:=Nat.rec (motive:=fun _=>List AV) [] (fun _ ih=>lM z ih) m
noncomputable def Va (elem:TypeId) (bytes:Nat) (z:List AV) (l c:AV):Option (aY×(Nat→AV)):=
 oC (fun _ len=>oC (fun _ cap=>lq (fun len=>lq (fun cap=>bc (Nat.ble len cap) (bc (Nat.ble 1073741824 cap) none (bc (Nat.ble (Nat.mul bytes cap) 140737488355328)
  (some (.cells (YP z cap) elem false,fun i=> .slice i 0 len cap false)) none)) none) none cap) none len) none c) none l
noncomputable def findF (k:List UInt8) (l:List ig):Option (Option AV):=List.rec (motive:=fun _=>Option (Option AV)) (some none) (fun e _ ih=>qQ (fun s=>bc (leq Be k s) (some (some e.val)) ih) none e.key) l
noncomputable def Vb {R:Type} (f:List ig→R) (d:R) (o:aY):R:=
 aY.rec (motive:=fun _=>R) (fun _ _ _=>d) (fun es _=>f es) (fun _ _=>d) (fun _ _ _ _=>d) (fun _ _ _ _ _ _ _=>d) d o
noncomputable def abv {R:Type} (e:R) (f:Nat→R) (d:R) (v:AV):R:=
 AV.rec (motive_1:=fun _=>R) (motive_2:=fun _=>Unit) (fun _=>d) (fun _ _=>d) (fun _=>d) d (fun _ _=>d) d (fun _ _ _ _ _=>d) e (fun i=>f i) (fun _ _ _ _ _=>d) (fun _=>d) d (fun _ _ _=>d) d (fun _ _=>d) (fun _ _=>d) d d () (fun _ _ _ _=>()) v
noncomputable def Mq (h:aw) (m:AV):Option AV:=
 abv (some (.int .i64 (Int.ofNat 0))) (fun i=>ob none (fun o=>Vb (fun es=>some (.int .i64 (Int.ofNat (jm es)))) none o) (h.get i)) none m
noncomputable def Mr (z:AV) (ok:Bool) (h:aw) (m k:AV):Option AV:=
 qQ (fun s=>ob none (fun es=>ob none (fun r=>some (ob (bc ok (.tuple [z,.bool false]) z) (fun v=>bc ok (.tuple [v,.bool true]) v) r)) (findF s es))
  (abv (some []) (fun i=>ob none (fun o=>Vb (fun es=>some es) none o) (h.get i)) none m)) none k
noncomputable def mX (o:ju):yb:=ju.rec (motive:=fun _=>yb) .val .panic .fail o
noncomputable def Ii (t:TypeId) (name:String):Option FuncId:=v7 E t name
noncomputable def Xj (c:Call) (op:Op):Kd F.T:=match c.callee with
 | .invoke x name=>wO E F n x (fun gx=>wL E F n c.args.toList (fun gs=> .uk fun call r h _=>qR
  (fun t v=>ob (.fail "" none) (fun f=>mX (call (.fn f) (v::gs r) h)) (Ii E t name)) (.fail "" none) (gx r)) .bad) .bad
 | .value (.func f)=>wL E F n c.args.toList (fun gs=>match E.mO f with
   | some e=> .hJ fun r=>e (gs r)
   | none=>match E.iW f with
     | some g=> .wr fun r h=>g (gs r) h
     | none=> .call (.fn f) gs) .bad
 | .value x=>wO E F n x (fun gf=>wL E F n c.args.toList (fun gs=> .uk fun call r h _=>Mn
  (fun g first captured=>ob (mX (call (.fn g) (lM first (lM (gs r) captured)) h)) (fun sp=>ob (.fail "" none) (fun p=> .val p.1 p.2) (sp (lM first (lM (gs r) captured)) h)) (E.iW g))
  (fun l=>mX (call (.vg l) (gs r) h)) (.fail "" none) (gf r)) .bad) .bad
 | .builtin .len=>match jn c.argTypes.toList 0,c.args.toList with
   | some t,[x]=>wO E F n x (fun g=>match j9 E.P t with
     | some .string=> .hJ fun r=>qQ (fun s=>some (.int .i64 (Int.ofNat (jm s)))) none (g r)
     | some (.array m _)=> .hJ fun _=>some (.int .i64 (Int.ofNat m))
     | some (.slice _)=> .hJ fun r=>jG (some (.int .i64 (Int.ofNat 0))) (fun _ _ m _ _=>some (.int .i64 (Int.ofNat m))) (vZ (some (.int .i64 (Int.ofNat 0))) none (g r)) (g r)
     | some (.map _ _)=> .red fun r h=>Mq h (g r)
     | _=> .bad) .bad
   | _,_=> .bad
 | .builtin .cap=>match jn c.argTypes.toList 0,c.args.toList with
   | some t,[x]=>wO E F n x (fun g=>match j9 E.P t with
     | some (.slice _)=> .hJ fun r=>jG (some (.int .i64 (Int.ofNat 0))) (fun _ _ _ c b=>bc b none (some (.int .i64 (Int.ofNat c)))) none (g r)
     | _=> .bad) .bad
   | _,_=> .bad
 | .builtin .max=> .hJ fun r=>bE E (fk F n r) op
 | .builtin .min=> .hJ fun r=>bE E (fk F n r) op
 | .builtin .append=>match c.args.toList with
   | [s,x]=>wO E F n s (fun gs=>wO E F n x (fun gx=>N' E c.argTypes gs gx) .bad) .bad
   | _=> .bad
 | .builtin .copy=>match c.args.toList with
   | [s,x]=>wO E F n s (fun gs=>wO E F n x (fun gx=> .wr fun r h=>uJ E h c.argTypes (gs r) (gx r)) .bad) .bad
   | _=> .bad
 | .builtin .recover=> .uk fun _ _ h rc=>match rc with
   | .iy x=> .rG x
   | .pX _=> .fail "" none
   | _=> .val .nilIface h
 | _=> .bad
noncomputable def Ms (src dst:TypeId) (g:T→AV):Kd T:=match j9 E.P src,j9 E.P dst with
 | some (.int _),some (.int k)=> .hJ fun r=>oC (fun _ n=>some (.int k (uN k n))) none (g r)
 | some .string,some .string=> .hJ fun r=>qQ (fun s=>some (.str s)) none (g r)
 | some (.slice e),some .string=>match j9 E.P e with
   | some (.int .u8)=> .red fun r h=>jG (some (.str [])) (fun i o len _ _=>ob none (fun l=>some (.str l)) (EJ h i o len)) none (g r)
   | _=> .bad
 | some .string,some (.slice _)=> .wr fun r h=>Dw E h src dst (some (g r))
 | _,_=> .bad
noncomputable def uO (op:Op):Kd F.T:=match op with
 | .move x=>wO E F n x .Hg .bad
 | .assign x=>wO E F n x .Hg .bad
 | .pick c a b=>wO E F n c (fun gc=>wO E F n a (fun ga=>wO E F n b (fun gb=> .hJ fun r=>jF (fun t=>bc t (some (ga r)) (some (gb r))) none (gc r)) .bad) .bad) .bad
 | .binOp op t x y _=>wO E F n x (fun gx=>wO E F n y (fun gy=>cD op (kr E op t (isConst x) (isConst y)) gx gy) .bad) .bad
 | .unOp op _ x=>wO E F n x (unK op) .bad
 | .fieldAddr s x f=>match fiF E s f with
   | some fd=>match vY E fd.type with
     | some (_+1)=>wO E F n x (fun g=> .hJ fun r=>yu (fun i o=>some (.ptr i (Nat.add o fd.offset))) none (g r)) .bad
     | _=> .bad
   | none=> .bad
 | .load t a=>wO E F n a (fun g=>wF E t fun p=> .red fun r h=>Ig p h (g r)) .bad
 | .store t a x=>match vY E t with
   | some m=>wO E F n a (fun ga=>wO E F n x (fun gx=> .wr fun r h=>Bj m h (ga r) (gx r)) .bad) .bad
   | none=> .bad
 | .nilCheck x=>wO E F n x (fun g=> .hJ fun r=>bc (Fs (g r)) (some (g r)) none) .bad
 | .extract x i=>wO E F n x (fun g=> .hJ fun r=>yv (fun _=>none) (fun vs=>jn vs i) none (g r)) .bad
 | .field s x f=>match fiF E s f with
   | some fd=>wO E F n x (fun g=>wF E fd.type fun p=> .hJ fun r=>yv (fun cs=>p cs fd.offset) (fun _=>none) none (g r)) .bad
   | none=> .bad
 | .indexAddr t x ix=>wO E F n x (fun gx=>wO E F n ix (fun gi=>match j9 E.P t with
   | some (.array len elem)=>match vY E elem with
     | some size=> .hJ fun r=>yu (fun i o=>FC len size i o (gi r)) none (gx r)
     | none=> .bad
   | some (.slice elem)=>match vY E elem with
     | some size=> .hJ fun r=>jG none (fun i o len _ _=>FC len size i o (gi r)) none (gx r)
     | none=> .bad
   | _=> .bad) .bad) .bad
 | .index t x ix=>wO E F n x (fun gx=>wO E F n ix (fun gi=>match j9 E.P t with
   | some .string=> .hJ fun r=>qQ (fun s=>oC (fun _ i=>lq (fun m=>ob none (fun (b:UInt8)=>some (.int .u8 (Int.ofNat b.toNat))) (jn s m)) none i) none (gi r)) none (gx r)
   | _=> .hJ fun r=>bE E (fk F n r) op) .bad) .bad
 | .slice t x lo hi none=>wO E F n x (fun gx=>wP E F n lo (fun gl=>wP E F n hi (fun gh=>match j9 E.P t with
   | some (.slice elem)=>match vY E elem with
     | some size=> .hJ fun r=>slF size (C9 gl r) (C9 gh r) (gx r)
     | none=> .bad
   | some .string=> .hJ fun r=>slS (C9 gl r) (C9 gh r) (gx r)
   | some (.array m elem)=>match vY E elem with
     | some size=> .hJ fun r=>slA m size (C9 gl r) (C9 gh r) (gx r)
     | none=> .bad
   | _=> .hJ fun r=>bE E (fk F n r) op) .bad) .bad) .bad
 | .convert src dst x=>wO E F n x (Ms E src dst) .bad
 | .makeInterface t x=>match j9 E.P t with
   | some (.interface _)=> .bad
   | some _=>wO E F n x (fun g=> .Hg fun r=> .iface t (g r)) .bad
   | none=> .bad
 | .makeFunc (.func f) first captured=>wL E F n first.toList (fun ga=>wL E F n captured.toList (fun gb=> .Hg fun r=> .func f (ga r) (gb r)) .bad) .bad
 | .alloc t=>match J3 E t with
   | some z=> .so fun _=>some (.cells z.cells t false,fun i=> .ptr i 0)
   | none=> .bad
 | .box t x=>wO E F n x (fun g=> .so fun r=>some (.cells (lS (g r)) t false,fun i=> .ptr i 0)) .bad
 | .buildSlice t len parts=>match j9 E.P t with
   | some (.slice elem)=>match vY E elem,J3 E elem with
     | some m,some z=>if z.cells.length=m∧len*m≤2^24 then U' E F n parts.toList (fun gp=> .so fun r=>ob none (fun cs=>some (.cells cs elem false,fun i=> .slice i 0 len len false)) (rF (fun i=>some (i*m,m)) (gE z.cells len) (gp r))) .bad else .bad
     | _,_=> .bad
   | _=> .bad
 | .makeSlice t l c=>wO E F n l (fun gl=>wO E F n c (fun gc=>match j9 E.P t with
   | some (.slice elem)=>match vY E elem,YO E elem,J3 E elem with
     | some m,some bytes,some z=>if z.cells.length=m then .so fun r=>Va elem bytes z.cells (gl r) (gc r) else .bad
     | _,_,_=> .bad
   | _=> .bad) .bad) .bad
 | .makeMap _ none=> .so fun _=>some (.map [] 0,fun i=> .map i)
 | .makeMap .. | .range .. => .so fun r=>ey E (fk F n r) op
 | .lookup t x ix ok=>wO E F n x (fun gx=>wO E F n ix (fun gi=>match j9 E.P t with
   | some (.map key elem)=>match j9 E.P key,J3 E elem with
     | some .string,some z=> .red fun r h=>Mr z ok h (gx r) (gi r)
     | _,_=> .red fun r h=>dW E (fk F n r) h op
   | _=> .bad) .bad) .bad
 | .build t parts=>match J3 E t,j9 E.P t with
   | some z,some (.struct fs)=>match AD E fs.toList with
     | some ps=>U' E F n parts.toList (fun gp=> .hJ fun r=>ob none (fun cs=>some (.agg cs)) (Ih ps (lS z) (gp r))) .bad
     | none=> .bad
   | _,_=> .hJ fun r=>bE E (fk F n r) op
 | .slice .. | .typeAssert .. => .hJ fun r=>bE E (fk F n r) op
 | .mapUpdate t m k x=>wO E F n m (fun gm=>wO E F n k (fun gk=>wO E F n x (fun gx=> .wr fun r h=>ob none (fun h'=>some (AV.undef,h')) (eQ E h t (gm r) (gk r) (gx r))) .bad) .bad) .bad
 | .insert t m k x=>wO E F n m (fun gm=>wO E F n k (fun gk=>wO E F n x (fun gx=> .wr fun r h=>ob none (fun h'=>some (AV.undef,h')) (eQ E h t (gm r) (gk r) (gx r))) .bad) .bad) .bad
 | .next it s=>wO E F n it (fun g=> .wr fun r h=>Dv h (g r) s) .bad
 | .panic x=>wO E F n x (fun g=> .uk fun _ r h _=>qR (fun t w=> .panic (.iface t w) h) (.fail "" none) (g r)) .bad
 | .defer c=> .uk fun _ r _ rc=>match rc,callee E (fk F n r) c with
   | .pX _,_=> .fail "" none
   | _,some (.fn f,args)=> .defer (.call f args)
   | _,_=> .fail "" none
 | .call c=>Xj E F n c op
 | _=> .bad
noncomputable def KI (kd:Kd T) (s:AV→T→T) (j:I T):I T:=match kd with
 | .Hg g=>⟨fun call r h y=>j.run call (s (g r) r) h y⟩
 | .hJ f=>⟨fun call r h y=>ob .bad (fun v=>j.run call (s v r) h y) (f r)⟩
 | .red f=>⟨fun call r h y=>ob .bad (fun v=>j.run call (s v r) h y) (f r h)⟩
 | .so f=>⟨fun call r h y=>ob .bad (fun p=>ob .bad (fun h'=>j.run call (s (p.2 h.nx) r) h' y) (h.new p.1)) (f r)⟩
 | .wr f=>⟨fun call r h y=>ob .bad (fun p=>j.run call (s p.1 r) p.2 y) (f r h)⟩
 | .call g args=>⟨fun call r h y=>ju.rec (motive:=fun _=>FO T) (fun v h'=>j.run call (s v r) h' y) (fun v h'=> .jmp (.panic v) r h' y) (fun _ _=> .bad) (call g (args r) h)⟩
 | .uk f=>⟨fun call r h y=>yb.rec (motive:=fun _=>FO T) (fun v h'=>j.run call (s v r) h' y) (fun d=>j.run call (s AV.undef r) h ⟨d::y.ds,y.rc⟩) (fun v=>j.run call (s v r) h ⟨y.ds,.done⟩)
  (fun v h'=> .jmp (.panic v) r h' y) (fun _ _=> .bad) (f call r h y.rc)⟩
 | .bad=>⟨fun _ _ _ _=> .bad⟩
noncomputable def Xk (s:AV→T→T) (j:I T):I T:=⟨fun call r h y=>j.run call (s AV.undef r) h y⟩
noncomputable def KJ (g:T→AV) (want:Bool) (a b:I T):I T:=match want with
 | true=>⟨fun call r h y=>jF (fun t=>bc t (a.run call r h y) (b.run call r h y)) (b.run call r h y) (g r)⟩
 | false=>⟨fun call r h y=>jF (fun t=>bc t (b.run call r h y) (a.run call r h y)) (b.run call r h y) (g r)⟩
noncomputable def Mt (ops:Array Oper) (o:Oper) (a b:I F.T):I F.T:=match o.guard with
 | none=>a
 | some (j,want)=>match ob none (fun p=>p.dst) (jn ops.toList j) with
   | some d=>bc (Nat.ble n d) b (wA (F.get d) fun g=>KJ g want a b)
   | none=>b
noncomputable def QL (ops:Array Oper) (o:Oper) (j:I F.T):I F.T:=wS F n o.dst fun s=>Mt F n ops o (KI (uO E F n o.op) s j) (Xk s j)
noncomputable def t_ (ops:Array Oper) (l:List Oper):I F.T:=List.rec (motive:=fun _=>I F.T) ⟨fun _ r h y=> .Ie r h y⟩ (fun o _ j=>QL E F n ops o j) l
noncomputable def abw (yC:AV→AV→Bool) (x y:AV):Bool:=
 oC (fun k a=>oC (fun j b=>bc (Qx k j) (Xf a b) false) false y)
  (qQ (fun s=>qQ (fun t=>leq Be s t) false y)
   (yu (fun i o=>yu (fun j p=>bc (Nat.beq i j) (Nat.beq o p) false) false y)
    (jF (fun a=>jF (fun b=>bc a b (vy b)) false y) (yC x y) x) x) x) x
noncomputable def Bk (m:Nat):AV→AV→Bool:=Nat.rec (motive:=fun _=>AV→AV→Bool) (fun _ _=>false)
 (fun i ih x y=>abw (fun x y=>yv (fun a=>yv (fun b=>leq ih a b) (fun _=>false) false y) (fun _=>AV.same (i+1) x y) (AV.same (i+1) x y) x) x y) m
structure Oa where
 k:Nat
 m:Nat
 made:Option Nat
 f:aw→Bool
inductive DO (T:Type) where
 | ok (tr:List Oa) (hs:List aw) (r:T) (h:aw) (y:Y)
 | bad
structure D (T:Type) where
 run:bj→T→aw→Y→DO T
noncomputable def DQ (x:Oa) (d:DO T):DO T:=DO.rec (motive:=fun _=>DO T) (fun tr hs r h y=> .ok (x::tr) hs r h y) .bad d
noncomputable def qT (h0:aw) (d:DO T):DO T:=DO.rec (motive:=fun _=>DO T) (fun tr hs r h y=> .ok tr (h0::hs) r h y) .bad d
noncomputable def Mu (kd:Kd T) (s:AV→T→T) (j:D T):D T:=match kd with
 | .wr f=>⟨fun call r h y=>ob .bad (fun p=>qT h (j.run call (s p.1 r) p.2 y)) (f r h)⟩
 | .call g args=>⟨fun call r h y=>ju.rec (motive:=fun _=>DO T) (fun v h'=>qT h (j.run call (s v r) h' y)) (fun _ _=> .bad) (fun _ _=> .bad) (call g (args r) h)⟩
 | .uk f=>⟨fun call r h y=>yb.rec (motive:=fun _=>DO T) (fun v h'=>qT h (j.run call (s v r) h' y)) (fun _=> .bad) (fun _=> .bad) (fun _ _=> .bad) (fun _ _=> .bad) (f call r h y.rc)⟩
 | _=>⟨fun _ _ _ _=> .bad⟩
noncomputable def Mv (k m:Nat) (kd:Kd T) (s:AV→T→T) (j:D T):D T:=match kd with
 | .Hg g=>⟨fun call r h y=>j.run call (s (g r) r) h y⟩
 | .hJ f=>⟨fun call r h y=>ob .bad (fun v=>j.run call (s v r) h y) (f r)⟩
 | .red f=>⟨fun call r h y=>ob .bad (fun v=>DQ ⟨k,m,none,fun h'=>ob false (fun v'=>Bk 20 v' v) (f r h')⟩ (j.run call (s v r) h y)) (f r h)⟩
 | .so f=>⟨fun call r h y=>ob .bad (fun p=>ob .bad (fun h'=>DQ ⟨k,m,some h.nx,fun Mw=>ob false (fun o=>aY.same o p.1) (Mw.get h.nx)⟩ (j.run call (s (p.2 h.nx) r) h' y)) (h.new p.1)) (f r)⟩
 | _=>⟨fun _ _ _ _=> .bad⟩
noncomputable def QM (s:AV→T→T) (j:D T):D T:=⟨fun call r h y=>j.run call (s AV.undef r) h y⟩
noncomputable def KK (s:AV→T→T) (j:D T):D T:=⟨fun call r h y=>qT h (j.run call (s AV.undef r) h y)⟩
noncomputable def QN (g:T→AV) (want:Bool) (a b:D T):D T:=match want with
 | true=>⟨fun call r h y=>jF (fun t=>bc t (a.run call r h y) (b.run call r h y)) (b.run call r h y) (g r)⟩
 | false=>⟨fun call r h y=>jF (fun t=>bc t (b.run call r h y) (a.run call r h y)) (b.run call r h y) (g r)⟩
noncomputable def zp (ops:Array Oper) (o:Oper) (a b:D F.T):D F.T:=match o.guard with
 | none=>a
 | some (j,want)=>match ob none (fun p=>p.dst) (jn ops.toList j) with
   | some d=>bc (Nat.ble n d) b (wA (F.get d) fun g=>QN g want a b)
   | none=>b
noncomputable def jy (ops:Array Oper) (pl:mD) (l:List Nat):Nat→D F.T:=List.rec (motive:=fun _=>Nat→D F.T) (fun _=>⟨fun _ r h y=> .ok [] [h] r h y⟩)
 (fun i _ ih k=>ob ⟨fun _ _ _ _=> .bad⟩ (fun o=>wS F n o.dst fun s=>
  bc (qf E o.op) (canon (Nat.add k 1) fun k'=>zp F n ops o (Mu (uO E F n o.op) s (ih k')) (KK s (ih k')))
   (canon (Nat.sub (Nat.add (AB pl.bP pl.an i) 1) k) fun m=>zp F n ops o (Mv k m (uO E F n o.op) s (ih k)) (QM s (ih k)))) (jn ops.toList i)) l
noncomputable def Mx (tr:List Oa):List Nat:=List.rec (motive:=fun _=>List Nat) [] (fun x _ ih=>ob ih (fun i=>i::ih) x.made) tr
noncomputable def qU (tr:List Oa) (hs:List aw):Bool:=bc (FB (Mx tr)) (yx (fun x=>yx x.f (sI (sH hs x.k) x.m)) tr) false
noncomputable def Vc (ops:Array Oper) (pl:mD) (call:bj) (r:F.T) (h:aw) (y:Y):FO F.T:=match pl.order.reverse with
 | []=> .bad
 | i::front=>match (jy E F n ops pl front.reverse 0).run call r h y,ops[i]? with
   | .ok tr hs r1 h1 y1,some ⟨dst,.call c,ty,pos,after,guard⟩=>
     match fI E (.call c)&&cF ops (fk F n r1) ⟨dst,.call c,ty,pos,after,guard⟩&&(List.range ops.size).all (fun j=>j==i||dM pl.an i j),
      dp E call (fk F n r1) h1 y1.rc ⟨dst,.call c,ty,pos,after,guard⟩ with
     | true,.panic v h'=>match qU tr (hs++[h']) with
       | true=> .jmp (.panic v) r1 h' y1
       | false=> .bad
     | _,_=> .bad
   | _,_=> .bad
noncomputable def My (ops:Array Oper):I F.T:=QF E ops (fun pl=>
 ⟨fun call r h y=>DO.rec (motive:=fun _=>FO F.T) (fun tr hs r' h' y'=>bc (qU tr hs) (.Ie r' h' y') .bad) (Vc E F n ops pl call r h y) ((jy E F n ops pl pl.order 0).run call r h y)⟩) ⟨fun _ _ _ _=> .bad⟩
def Xl (r:T) (o:Out):FO T:=match o with
 | .ok .normal s=> .Ie r s.h ⟨s.ds,s.rc⟩
 | .ok e s=> .jmp e r s.h ⟨s.ds,s.rc⟩
 | .fail _ _=> .bad
noncomputable def FE (f:Operand) (ps:Array Tmp) (as_ bd:Code):I F.T:=
 wO E F n f (fun _=>⟨fun call r h y=>Xl r (lO E call f ps as_ bd ⟨fk F n r,h,y.ds,y.rc⟩)⟩) ⟨fun _ _ _ _=> .bad⟩
noncomputable def nS {R:Type} (d:R) (k:Nat→R) (m:Nat):R:=Nat.rec (motive:=fun _=>R) d (fun i _=>k i) m
noncomputable def fo {R:Type} (a:T→aw→Y→R) (b:iC→T→aw→Y→R) (d:R) (o:FO T):R:=FO.rec (motive:=fun _=>R) a b d o
noncomputable def QO {R:Type} (f:Nat→R) (d:R) (e:iC):R:=iC.rec (motive:=fun _=>R) d f d (fun _=>d) e
noncomputable def QP (b:C T) (m:Nat):bj→T→aw→Y→FO T:=
 Nat.rec (motive:=fun _=>bj→T→aw→Y→FO T) (fun _ _ _ _=> .bad) (fun i ih call r h y=>fo (fun r' h' y'=>ih call r' h' y') .jmp .bad (b.run i call r h y)) m
noncomputable def Vd (i:I T):C T:=⟨fun m call r h y=>nS .bad (fun _=>i.run call r h y) m⟩
noncomputable def mY (c:Code):C F.T:=Code.rec (motive:=fun _=>C F.T)
 ⟨fun m _ r h y=>nS .bad (fun _=> .Ie r h y) m⟩
 (fun _ ops draw=>bc draw (Vd (My E F n ops)) (Vd (t_ E F n ops ops.toList)))
 (fun _ _ a b=>⟨fun m call r h y=>nS .bad (fun i=>fo (fun r' h' y'=>b.run i call r' h' y') .jmp .bad (a.run i call r h y)) m⟩)
 (fun x _ _ a b=>wO E F n x (fun g=>⟨fun m call r h y=>nS .bad (fun i=>jF (fun t=>bc t (a.run i call r h y) (b.run i call r h y)) .bad (g r)) m⟩) ⟨fun _ _ _ _ _=> .bad⟩)
 (fun id _ b=>⟨fun m call r h y=>nS .bad (fun i=>fo .Ie (fun e r' h' y'=>QO (fun j=>bc (Nat.beq j id) (.Ie r' h' y') (.jmp e r' h' y')) (.jmp e r' h' y') e) .bad (b.run i call r h y)) m⟩)
 (fun _ b=>⟨fun m call r h y=>QP b m call r h y⟩)
 (fun f ps as_ bd _ _=>Vd (FE E F n f ps as_ bd))
 (fun id=>⟨fun m _ r h y=>nS .bad (fun _=> .jmp (.exit id) r h y) m⟩)
 (fun _ b=>⟨fun m call r h y=>nS .bad (fun i=>b.run i call r h y) m⟩)
 (fun _=>⟨fun m _ r h y=>nS .bad (fun _=> .Ie r h y) m⟩)
 (fun _=>⟨fun _ _ _ _ _=> .bad⟩)
 ⟨fun m _ r h y=>nS .bad (fun _=> .jmp .ret r h y) m⟩
 (fun _=>⟨fun _ _ _ _ _=> .bad⟩) c
end
section
variable (E:Env)
inductive BO where
 | fin (res:aw→Option (List AV)) (h:aw) (y:Y)
 | pan (v:AV) (res:aw→Option (List AV)) (h:aw) (y:Y)
 | bad
structure CF where
 run:Nat→bj→List AV→aw→RC→BO
noncomputable def yD (F:RF) (n:Nat):List ResultVar→W (F.T→aw→Option (List AV))
 | []=>⟨fun _ _=>some []⟩
 | .tmp t::rest=>wT F n t fun g=>wW (yD F n rest) fun k=>⟨fun r h=>ob none (fun vs=>some (g r::vs)) (k r h)⟩
 | .cell a t::rest=>wT F n a fun g=>wW (yD F n rest) fun k=>⟨fun r h=>ob none (fun v=>ob none (fun vs=>some (v::vs)) (k r h)) (bA E h t (g r))⟩
noncomputable def QR (F:RF) (n:Nat) (fn:Func) (b:Code):CF:=
 wW (yD E F n fn.results.toList) fun res=>⟨fun fuel call args h rc=>bc (Nat.ble (jm args) n)
  (fo (fun r h' y=> .fin (res r) h' y) (fun e r h' y=>iC.rec (motive:=fun _=>BO) .bad (fun _=> .bad) (.fin (res r) h' y) (fun v=> .pan v (res r) h' y) e) .bad
   ((mY E F n b).run fuel call (Pn F args F.z 0) h ⟨[],rc⟩)) .bad⟩
noncomputable def zq (f:FuncId):CF:=match YK E.P f with
 | none=>⟨fun _ _ _ _ _=> .bad⟩
 | some fn=>match fn.body with
   | none=>⟨fun _ _ _ _ _=> .bad⟩
   | some b=>bc (Nat.ble fn.ntmps 64) (QR E rf2 fn.ntmps fn b) (bc (Nat.ble fn.ntmps 512) (QR E rf3 fn.ntmps fn b) ⟨fun _ _ _ _ _=> .bad⟩)
noncomputable def bo {R:Type} (a:(aw→Option (List AV))→aw→Y→R) (b:AV→(aw→Option (List AV))→aw→Y→R) (d:R) (o:BO):R:=BO.rec (motive:=fun _=>R) a b d o
noncomputable def Mz (F:RF) (call:bj) (fuel:Nat) (c:Code) (s:St):Out:=
 fo (fun r h y=> .ok .normal ⟨fk F s.ts.length r,h,y.ds,y.rc⟩) (fun e r h y=> .ok e ⟨fk F s.ts.length r,h,y.ds,y.rc⟩) (.fail "" none) ((mY E F s.ts.length c).run fuel call (Pn F s.ts F.z 0) s.h ⟨s.ds,s.rc⟩)
noncomputable def MA (call:bj) (fuel:Nat) (c:Code) (s:St):Out:=
 bc (Nat.ble s.ts.length 64) (Mz E rf2 call fuel c s) (bc (Nat.ble s.ts.length 512) (Mz E rf3 call fuel c s) (.fail "" none))
noncomputable def Bl (call:bj) (fuel:Nat) (l:Nat) (args:List AV) (h:aw):ju:=match h.get l with
 | some (.loop _ _ ts ps as_ bd _)=>if args.length=ps.length then
  match MA E call fuel as_ {ts:=(ps.zip args).foldl (fun ts x=>ts.set x.1 x.2) ts,h,ds:=[],rc:= .pX l} with
  | .ok .normal s1=>match s1.h.get l with
    | some (.loop .ready pd T' PF O_ Ua Ub)=>
      match MA E call fuel bd {s1 with h:=s1.h.put l (some (.loop .busy pd T' PF O_ Ua Ub))} with
      | .ok .normal s2=>zZ l none s2
      | .ok .ret s2=>zZ l (some .ret) s2
      | .ok (.exit id) s2=>zZ l (some (.exit id)) s2
      | .ok (.panic v) s2=>if s2.ds.isEmpty then .panic v s2.h else .fail "round defers" none
      | .fail why q=> .fail why q
    | _=> .fail "round state" none
  | .ok _ _=> .fail "round assign" none
  | .fail why q=> .fail why q
   else .fail "round args" none
 | _=> .fail "round" none
noncomputable def iD (call:bj) (fuel:Nat) (g:FuncId) (as_:List AV) (h:aw) (rc:RC):Option (aw×RC):=
 bo (fun res h' y=>bc y.ds.isEmpty (ob none (fun _=>some (h',y.rc)) (res h')) none) (fun _ _ _ _=>none) none ((zq E g).run fuel call as_ h rc)
noncomputable def Ij (call:bj) (fuel:Nat) (p:Option AV) (res:aw→Option (List AV)) (h:aw) (ds:List oh):ju:=match cO (iD E call fuel) ds p h with
 | none=> .fail "unwind" none
 | some (some v,h')=> .panic v h'
 | some (none,h')=>ob (.fail "results" none) (fun vs=> .ret (gF vs) h') (res h')
noncomputable def fFn {R:Type} (a:FuncId→R) (b:Nat→R) (f:Fn):R:=Fn.rec (motive:=fun _=>R) a b f
noncomputable def Ik {α R:Type} (a b:R) (l:List α):R:=List.rec (motive:=fun _=>R) a (fun _ _ _=>b) l
noncomputable def abx (fuel:Nat) (call:bj) (g:Fn) (args:List AV) (h:aw):ju:=
 fFn (fun f=>bo (fun res h' y=>Ik (ob (.fail "results" none) (fun vs=> .ret (gF vs) h') (res h')) (Ij E call fuel none res h' y.ds) y.ds)
  (fun v res h' y=>Ik (.panic v h') (Ij E call fuel (some v) res h' y.ds) y.ds) (.fail "body" none) ((zq E f).run fuel call args h .no))
  (fun l=>Bl E call fuel l args h) g
noncomputable def zr (d fuel:Nat):bj:=Nat.rec (motive:=fun _=>bj) (fun _ _ _=> .fail "depth" none) (fun _ ih=>abx E fuel ih) d
end
end Go.Ab.Fa
end
section
namespace Go.Ab.Fa
theorem Ve {α R:Type} {d:R} {f:α→R} {a:α}:ob d f (some a)=f a:=rfl
theorem jz {R:Type} (x y:R):bc true x y=x:=rfl
theorem dY {R:Type} (x y:R):bc false x y=y:=rfl
theorem hB {α β:Type} {f:α→Option β} {o:Option α} {v:β} (h:ob none f o=some v):∃a,o=some a∧f a=some v:=by
 cases o with
 | none=>exact absurd h (by intro e;cases e)
 | some a=>exact ⟨a,rfl,h⟩
theorem fL {β:Type} {b:Bool} {x:Option β} {v:β} (h:bc b x none=some v):b=true∧x=some v:=by
 cases b with
 | false=>cases h
 | true=>exact ⟨rfl,h⟩
theorem qV {β:Type} {b:Bool} {x:Option β} {v:β} (h:bc b none x=some v):b=false∧x=some v:=by
 cases b with
 | false=>exact ⟨rfl,h⟩
 | true=>cases h
theorem DS {β:Type} {f:Bool→Option β} {a:AV} {v:β} (h:jF f none a=some v):∃b,a= .bool b∧f b=some v:=by
 cases a with
 | bool b=>exact ⟨b,rfl,h⟩
 | _=>exact absurd h (by intro e;cases e)
theorem jH {β:Type} {f:IntKind→Int→Option β} {a:AV} {v:β} (h:oC f none a=some v):∃k n,a= .int k n∧f k n=some v:=by
 cases a with
 | int k n=>exact ⟨k,n,rfl,h⟩
 | _=>exact absurd h (by intro e;cases e)
theorem oF {β:Type} {f:List UInt8→Option β} {a:AV} {v:β} (h:qQ f none a=some v):∃s,a= .str s∧f s=some v:=by
 cases a with
 | str s=>exact ⟨s,rfl,h⟩
 | _=>exact absurd h (by intro e;cases e)
theorem sM {β:Type} {f:Nat→Nat→Option β} {a:AV} {v:β} (h:yu f none a=some v):∃i o,a= .ptr i o∧f i o=some v:=by
 cases a with
 | ptr i o=>exact ⟨i,o,rfl,h⟩
 | _=>exact absurd h (by intro e;cases e)
theorem oG {β:Type} {e:Option β} {f:Nat→Nat→Nat→Nat→Bool→Option β} {a:AV} {v:β} (h:jG e f none a=some v):
 (a= .aK∧e=some v)∨∃i o l c b,a= .slice i o l c b∧f i o l c b=some v:=by
 cases a with
 | aK=>exact .inl ⟨rfl,h⟩
 | slice i o l c b=>exact .inr ⟨i,o,l,c,b,rfl,h⟩
 | _=>exact absurd h (by intro e;cases e)
theorem Il {β:Type} {e z:Option β} {f:Nat→Nat→Nat→Nat→Bool→Option β} {a:AV} {v:β} (h:jG e f (vZ z none a) a=some v):
 (a= .aK∧e=some v)∨(∃i o l c b,a= .slice i o l c b∧f i o l c b=some v)∨(a= .ff∧z=some v):=by
 cases a with
 | aK=>exact .inl ⟨rfl,h⟩
 | slice i o l c b=>exact .inr (.inl ⟨i,o,l,c,b,rfl,h⟩)
 | ff=>exact .inr (.inr ⟨rfl,h⟩)
 | _=>exact absurd h (by intro e;cases e)
theorem oH {β:Type} {f:Nat→Option β} {n:Int} {v:β} (h:lq f none n=some v):∃m:Nat,n=(m:Int)∧f m=some v:=by
 cases n with
 | ofNat m=>exact ⟨m,rfl,h⟩
 | negSucc m=>cases h
theorem qW {β:Type} {f:List AV→TypeId→Bool→Option β} {o:aY} {v:β} (h:yw f none o=some v):∃cs e ro,o= .cells cs e ro∧f cs e ro=some v:=by
 cases o with
 | cells cs e ro=>exact ⟨cs,e,ro,rfl,h⟩
 | _=>exact absurd h (by intro e;cases e)
theorem fM {a b:Nat} (h:Nat.ble a b=true):a≤b:=Nat.le_of_ble_eq_true h
theorem kB {a b:Nat} (h:Nat.ble a b=false):b<a:=by
 apply Decidable.byContradiction;intro hn
 rw[Nat.ble_eq_true_of_le (by omega)] at h;cases h
theorem mF {a b:Nat} (h:Nat.beq a b=true):a=b:=Nat.eq_of_beq_eq_true h
theorem MB {k j:IntKind} (h:Qx k j=true):k=j:=by
 cases k<;>cases j<;>first | rfl | exact absurd h (by intro e;cases e)
theorem wG (b:Bool):vy b= !b:=by cases b<;>rfl
theorem QS {k:IntKind} (h:Xe k=false) (n:Int):k.wrap n=n%(ur k:Int):=by
 cases k<;>first | (cases h;done) | simp [IntKind.wrap,IntKind.bits,IntKind.signed,ur,YI]
theorem QT {k:IntKind} (h:Xe k=true) {m:Nat} (hm:m<ur k):k.wrap (Int.negSucc m)=Int.negSucc m:=by
 have hb:(2^(k.bits - 1):Int)=(ur k:Int)∧(2^k.bits:Int)=2*(ur k:Int)∧k.signed=true:=by
  cases k<;>first | (cases h;done) | (refine ⟨rfl,rfl,rfl⟩)
 obtain ⟨h1,h2,h3⟩:=hb
 unfold IntKind.wrap
 rw[h1,h2,h3,Int.negSucc_eq]
 generalize ur k=B at *
 have e: -((m:Int)+1)%(2*(B:Int))=2*(B:Int) -(m+1):=by
  rw[←Int.add_emod_right]
  exact Int.emod_eq_of_lt (by omega) (by omega)
 rw[e]
 simp only[Bool.true_and,decide_eq_true_eq]
 rw[if_pos (by omega)]
 omega
theorem oI (k:IntKind) (n:Int):uN k n=k.wrap n:=by
 cases n with
 | ofNat m=>
   show bc (Nat.ble (ur k) m) (bc (Xe k) (k.wrap (Int.ofNat m)) (Int.ofNat (Nat.mod m (ur k)))) (Int.ofNat m)=_
   cases h:Nat.ble (ur k) m
   · have h:=kB h
     rw[dY]
     cases k<;>simp [IntKind.wrap,IntKind.bits,IntKind.signed]<;>simp only[ur,YI] at h<;>omega
   · rw[jz]
     cases hs:Xe k
     · rw[dY,QS hs];rfl
     · rw[jz]
 | negSucc m=>
   show bc (Xe k) (bc (Nat.ble (ur k) m) (k.wrap (Int.negSucc m)) (Int.negSucc m)) (k.wrap (Int.negSucc m))=_
   cases hs:Xe k
   · rw[dY]
   · rw[jz]
     cases h:Nat.ble (ur k) m
     · have h:=kB h
       rw[dY]
       exact (QT hs h).symm
     · rw[jz]
theorem Vf (a b:Int):N5 a b=a+b:=by
 cases a<;>cases b<;>rfl
theorem Vg (a b:Int):Ft a b=a - b:=by
 cases a with
 | negSucc x=>rfl
 | ofNat x=>
   cases b with
   | negSucc y=>rfl
   | ofNat y=>
     show bc (Nat.ble y x) (Int.ofNat (x - y)) (Int.negSucc (y - x - 1))=_
     cases h:Nat.ble y x
     · have h:=kB h
       rw[dY,Int.negSucc_eq];simp only[Int.ofNat_eq_natCast];omega
     · have h:=fM h
       rw[jz];simp only[Int.ofNat_eq_natCast];omega
theorem MC (a b:Int):Qz a b=a*b:=by
 cases a<;>cases b<;>rfl
theorem KL (a b:Int):Xf a b=(a==b):=by
 have:Xf a b=decide (a=b):=by
  cases a with
  | ofNat x=>cases b with
    | ofNat y=>
      show Nat.beq x y=_
      rw[←Af]
      by_cases h:x=y
      · subst h;simp
      · rw[show (x==y)=false by simp [h]];symm;apply decide_eq_false;simp only[Int.ofNat_eq_natCast];omega
    | negSucc y=>simp;rfl
  | negSucc x=>cases b with
    | ofNat y=>simp;rfl
    | negSucc y=>
      show Nat.beq x y=_
      rw[←Af]
      by_cases h:x=y
      · subst h;simp
      · simp [h]
 rw[this];rfl
theorem FG (a b:Int):U3 a b=decide (a<b):=by
 cases a with
 | ofNat x=>cases b with
   | ofNat y=>
     show Nat.ble (x+1) y=_
     rw[←tZ];simp only[Int.ofNat_eq_natCast];congr 1;apply propext;omega
   | negSucc y=>
     symm;exact decide_eq_false (by rw[Int.negSucc_eq];simp only[Int.ofNat_eq_natCast];omega)
 | negSucc x=>cases b with
   | ofNat y=>
     symm;exact decide_eq_true (by rw[Int.negSucc_eq];simp only[Int.ofNat_eq_natCast];omega)
   | negSucc y=>
     show Nat.ble (y+1) x=_
     rw[←tZ];congr 1;apply propext;rw[Int.negSucc_eq,Int.negSucc_eq];omega
theorem Bm (a b:Int):(!decide (a<b))=decide (b≤a):=by
 by_cases h:a<b
 · rw[decide_eq_true h,decide_eq_false (by omega)];rfl
 · rw[decide_eq_false h,decide_eq_true (by omega)];rfl
theorem Vh (k:IntKind) {x:Nat} (h:x<ur k):x<2^k.bits:=by
 cases k<;>simp only[ur,YI,IntKind.bits] at * <;>omega
theorem MD (k:IntKind) {x:Nat} (h:x<ur k):k.wrap (x:Int)=x:=by
 have:=oI k (Int.ofNat x)
 rw[Int.ofNat_eq_natCast] at this
 rw[←this]
 show bc (Nat.ble (ur k) x) _ (Int.ofNat x)=_
 rw[om h];rfl
theorem Vi (k:IntKind):∃m,ur k=2^m:=by
 cases k
 · exact ⟨7,rfl⟩
 · exact ⟨15,rfl⟩
 · exact ⟨31,rfl⟩
 · exact ⟨63,rfl⟩
 · exact ⟨8,rfl⟩
 · exact ⟨16,rfl⟩
 · exact ⟨32,rfl⟩
 · exact ⟨64,rfl⟩
theorem toNat_ofInt (k:IntKind) {x:Nat} (h:x<ur k):(BitVec.ofInt k.bits (Int.ofNat x)).toNat=x:=by
 rw[Int.ofNat_eq_natCast,BitVec.ofInt_natCast,BitVec.toNat_ofNat]
 exact Nat.mod_eq_of_lt (Vh k h)
theorem Vj (op:BinOp) (k:IntKind) (a b:Int) {v:AV} (h:U4 op k a b=some v):dg op k a b=some v:=by
 cases op<;>simp only[U4] at h<;>try exact h
 · simpa [dg,oI,Vf] using h
 · simpa [dg,oI,Vg] using h
 · simpa [dg,oI,MC] using h
 · cases a with
   | negSucc x=>exact h
   | ofNat x=>cases b with
     | negSucc y=>exact h
     | ofNat y=>
       obtain ⟨h1,h2⟩:=qV h
       rw[oI] at h2
       have:y≠0:=by intro e;subst e;cases h1
       rw[←h2];simp [dg,this];exact congrArg k.wrap (Int.natCast_ediv x y).symm
 · cases a with
   | negSucc x=>exact h
   | ofNat x=>cases b with
     | negSucc y=>exact h
     | ofNat y=>
       obtain ⟨h1,h2⟩:=qV h
       have:y≠0:=by intro e;subst e;cases h1
       rw[←h2];simp [dg,this];rfl
 · cases a with
   | negSucc x=>exact h
   | ofNat x=>cases b with
     | negSucc y=>exact h
     | ofNat y=>
       change bc (Nat.ble (ur k) x) _ (bc (Nat.ble (ur k) y) _ _)=_ at h
       cases h1:Nat.ble (ur k) x with
       | true=>rw[h1] at h;exact h
       | false=>cases h2:Nat.ble (ur k) y with
         | true=>rw[h1,h2] at h;exact h
         | false=>
           rw[h1,h2] at h
           have h1:=kB h1;have h2:=kB h2
           rw[←h,dY,dY]
           show some (AV.int k (k.wrap ((BitVec.ofInt k.bits (Int.ofNat x)&&& BitVec.ofInt k.bits (Int.ofNat y)).toNat:Int)))=_
           rw[BitVec.toNat_and,toNat_ofInt k h1,toNat_ofInt k h2,MD k (Nat.lt_of_le_of_lt Nat.and_le_left h1)]
           rfl
 · cases a with
   | negSucc x=>exact h
   | ofNat x=>cases b with
     | negSucc y=>exact h
     | ofNat y=>
       change bc (Nat.ble (ur k) x) _ (bc (Nat.ble (ur k) y) _ _)=_ at h
       cases h1:Nat.ble (ur k) x with
       | true=>rw[h1] at h;exact h
       | false=>cases h2:Nat.ble (ur k) y with
         | true=>rw[h1,h2] at h;exact h
         | false=>
           rw[h1,h2] at h
           have h1:=kB h1;have h2:=kB h2
           rw[←h,dY,dY]
           show some (AV.int k (k.wrap ((BitVec.ofInt k.bits (Int.ofNat x)||| BitVec.ofInt k.bits (Int.ofNat y)).toNat:Int)))=_
           rw[BitVec.toNat_or,toNat_ofInt k h1,toNat_ofInt k h2,MD k]
           · rfl
           · obtain ⟨m,hm⟩:=Vi k
             rw[hm] at h1 h2 ⊢
             exact Nat.or_lt_two_pow h1 h2
 · simpa [dg,KL] using h
 · simpa [dg,KL,wG,bne] using h
 · simpa [dg,FG] using h
 · simpa [dg,FG,wG,Bm] using h
 · simpa [dg,FG] using h
 · simpa [dg,FG,wG,Bm] using h
theorem Vk (op:BinOp) (k:IntKind) (a b:Int):(QH op).f k a b=U4 op k a b:=by
 cases op<;>rfl
theorem QU (k:IntKind):Qy k=k.bits:=by cases k<;>rfl
theorem ME (k:IntKind) (y:Nat):QA k y=min y k.bits:=by
 unfold QA;rw[QU]
 cases h:Nat.ble k.bits y
 · have:=kB h;rw[dY];omega
 · have:=fM h;rw[jz];omega
theorem Vl {k:IntKind} {x y:Int} {v:AV} (h:abq k x y=some v):¬y<0∧v= .int k (k.wrap (x*2^(min y.toNat k.bits))):=by
 obtain ⟨m,rfl,h⟩:=oH h
 refine ⟨by omega,?_⟩
 have h:=Option.some.inj h
 rw[←h,oI,MC,ME]
 simp
theorem Vm {k:IntKind} {x y:Int} {v:AV} (h:abr k x y=some v):¬y<0∧v= .int k (x.fdiv (2^(min y.toNat k.bits))):=by
 obtain ⟨m,rfl,h⟩:=oH h
 refine ⟨by omega,?_⟩
 have h:=Option.some.inj h
 rw[←h]
 cases x with
 | negSucc x=>simp [lq]
 | ofNat x=>
   show AV.int k (Int.ofNat (x/2^QA k m))=_
   rw[ME]
   simp
   rw[show (2^min m k.bits:Int)=((2^min m k.bits:Nat):Int) by simp]
   exact (Int.fdiv_eq_ediv_of_nonneg _ (Int.natCast_nonneg _)).symm
end Go.Ab.Fa
end
section
namespace Go.Ab.Fa
section
variable {α:Type}
theorem qh (l:List α) (o:Nat):sH l o=l.drop o:=by
 induction l generalizing o with
 | nil=>simp [sH]
 | cons v tl ih=>
   show bc (Nat.beq o 0) (v::tl) (sH tl (o - 1))=_
   rw[ih]
   cases o with
   | zero=>rfl
   | succ o=>simp [show Nat.beq (o+1) 0=false from rfl,dY]
theorem qi (l:List α) (o:Nat):sI l o=l.take o:=by
 induction l generalizing o with
 | nil=>simp [sI]
 | cons v tl ih=>
   show bc (Nat.beq o 0) [] (v::sI tl (o - 1))=_
   rw[ih]
   cases o with
   | zero=>rfl
   | succ o=>simp [show Nat.beq (o+1) 0=false from rfl,dY]
theorem Ob (vs:List α):∀(cs:List α) (k:Nat),(H7 vs cs)[k]? =if k<vs.length∧k<cs.length then vs[k]? else cs[k]? :=by
 induction vs with
 | nil=>intro cs k;rw[if_neg (by simp)];rfl
 | cons v vs ih=>
   intro cs k
   cases cs with
   | nil=>rw[if_neg (by simp)];rfl
   | cons c tl=>
     show (v::H7 vs tl)[k]? =_
     cases k with
     | zero=>rw[if_pos (by simp)];rfl
     | succ k=>simp only[List.getElem?_cons_succ,ih,List.length_cons,Nat.add_lt_add_iff_right]
theorem QV (vs:List α):∀(cs:List α) (o k:Nat),(H8 vs cs o)[k]? =if o≤k∧k<o+vs.length∧k<cs.length then vs[k - o]? else cs[k]? :=by
 intro cs
 induction cs with
 | nil=>intro o k;rw[if_neg (by simp)];rfl
 | cons c tl ih=>
   intro o k
   show (bc (Nat.beq o 0) (H7 vs (c::tl)) (c::H8 vs tl (o - 1)))[k]? =_
   cases o with
   | zero=>
     show (H7 vs (c::tl))[k]? =_
     rw[Ob];simp
   | succ o=>
     show (c::H8 vs tl o)[k]? =_
     cases k with
     | zero=>rw[if_neg (by omega)];rfl
     | succ k=>
       rw[List.getElem?_cons_succ,ih,List.getElem?_cons_succ,List.length_cons]
       by_cases h:o≤k∧k<o+vs.length∧k<tl.length
       · rw[if_pos h,if_pos (by omega),show k+1 -(o+1)=k - o by omega]
       · rw[if_neg h,if_neg (by omega)]
end
theorem FH (vs cs:List AV) (o:Nat):H8 vs cs o=setFrom cs o vs:=by
 apply List.ext_getElem?;intro k;rw[QV,eD]
theorem KM (l m:List UInt8):leq Be l m=(l==m):=by
 have key:∀a b:UInt8,Be a b=(a==b):=by
  intro a b
  unfold Be
  rw[←Af]
  by_cases h:a=b
  · subst h;simp
  · rw[show (a==b)=false by simp [h]]
    rw[beq_eq_false_iff_ne]
    intro e;apply h
    have:a.toNat=b.toNat:=e
    exact UInt8.toNat_inj.mp this
 induction l generalizing m with
 | nil=>cases m<;>rfl
 | cons x tl ih=>
   cases m with
   | nil=>rfl
   | cons y tm=>
     show bc (Be x y) (leq Be tl tm) false=_
     rw[ih,key,oE];rfl
theorem Vn (op:BinOp) (a b:List UInt8):(N_ op).f a b=vf op a b:=by
 cases op<;>first | rfl | (simp only[N_,vf,KM,wG])
theorem Vo (v:AV):U5 v=AV.scalar v:=by cases v<;>rfl
theorem Im:U5=AV.scalar:=funext Vo
theorem Oc (v:AV):Fs v=true→(match (some v:Option AV) with
 | some (.ptr i o)=>some (.ptr i o)
 | some (.map i)=>some (.map i)
 | some (.slice i o l c b)=>some (.slice i o l c b)
 | some (.func f a b)=>some (.func f a b)
 | _=>none)=some v:=by
 cases v<;>intro h<;>first | rfl | exact absurd h (by intro e;cases e)
theorem Io {f:TypeId→AV→yb} {why:String} {o:Option Oper} (a:AV):(∃t v,a= .iface t v)∨qR f (.fail why o) a= .fail why o:=by
 cases a with
 | iface t v=>exact .inl ⟨t,v,rfl⟩
 | _=>exact .inr rfl
theorem mG (v:AV):lS v=v.cells:=by cases v<;>rfl
section
variable (E:Env) (F:RF) (n:Nat)
theorem FI {β:Type} (i:Nat) (k:(F.T→AV)→β):∃g,wT F n i k=k g∧∀r,(fk F n r).getD i AV.undef=g r:=by
 unfold wT
 cases h:Nat.ble n i
 · refine ⟨(F.get i).f,rfl,fun r=>?_⟩
   rw[H6,if_pos (kB h)]
 · refine ⟨fun _=>AV.undef,rfl,fun r=>?_⟩
   rw[H6,if_neg (by have:=fM h;omega)]
theorem cg {β:Type} (x:Operand) (k:(F.T→AV)→β) (d:β):wO E F n x k d=d∨∃g,wO E F n x k d=k g∧∀r,eu E (fk F n r) x=some (g r):=by
 cases x with
 | tmp t=>
   obtain ⟨g,h1,h2⟩:=FI F n t k
   exact .inr ⟨g,h1,fun r=>by rw[←h2];rfl⟩
 | const v=>
   simp only[wO]
   cases h:ofConst v with
   | none=>exact .inl rfl
   | some a=>exact .inr ⟨fun _=>a,rfl,fun r=>h⟩
 | global g=>
   simp only[wO]
   cases h:Nat.ble E.G g
   · exact .inr ⟨fun _=> .ptr g 0,rfl,fun r=>by rw[eu,if_pos (kB h)]⟩
   · exact .inl rfl
 | func f=>exact .inr ⟨fun _=> .func f [] [],rfl,fun r=>rfl⟩
theorem ua {β:Type}:∀(l:List Operand) (k:(F.T→List AV)→β) (d:β),wL E F n l k d=d∨∃g,wL E F n l k d=k g∧∀r,f' E (fk F n r) l=some (g r)
 | [],k,d=> .inr ⟨fun _=> [],rfl,fun r=>rfl⟩
 | x::xs,k,d=>by
   rw[wL]
   rcases cg E F n x (fun g=>wL E F n xs (fun gs=>k fun r=>g r::gs r) d) d with h | ⟨g,h,hg⟩
   · exact .inl h
   · rcases ua xs (fun gs=>k fun r=>g r::gs r) d with h' | ⟨gs,h',hgs⟩
     · exact .inl (h.trans h')
     · refine .inr ⟨_,h.trans h',fun r=>?_⟩
       have:=hgs r
       unfold f' at *
       rw[eH,hg r];simp only[this]
theorem MF {β:Type} (o:Option Operand) (k:Option (F.T→AV)→β) (d:β):wP E F n o k d=d∨∃g,wP E F n o k d=k g∧∀r,mS E (fk F n r) o=some (C9 g r):=by
 cases o with
 | none=>exact .inr ⟨none,rfl,fun r=>rfl⟩
 | some x=>
   rcases cg E F n x (fun g=>k (some g)) d with h | ⟨g,h,hg⟩
   · exact .inl h
   · exact .inr ⟨some g,h,fun r=>by rw[mS,hg r];rfl⟩
theorem Bn {β:Type}:∀(l:List (Nat×Operand)) (k:(F.T→List (Nat×AV))→β) (d:β),U' E F n l k d=d∨∃g,U' E F n l k d=k g∧∀r,ks E (fk F n r) l=some (g r)
 | [],k,d=> .inr ⟨fun _=> [],rfl,fun r=>rfl⟩
 | (i,x)::xs,k,d=>by
   rw[U']
   rcases cg E F n x (fun g=>U' E F n xs (fun gs=>k fun r=>(i,g r)::gs r) d) d with h | ⟨g,h,hg⟩
   · exact .inl h
   · rcases Bn xs (fun gs=>k fun r=>(i,g r)::gs r) d with h' | ⟨gs,h',hgs⟩
     · exact .inl (h.trans h')
     · refine .inr ⟨_,h.trans h',fun r=>?_⟩
       rw[ks,hg r];simp only[hgs r]
theorem MG {β:Type} (hn:n≤F.N) (o:Option Tmp) (k:(AV→F.T→F.T)→β):∃s,wS F n o k=k s∧∀v r,dR (fk F n r) o v=fk F n (s v r):=by
 cases o with
 | none=>exact ⟨fun _ r=>r,rfl,fun v r=>rfl⟩
 | some i=>
   show ∃s,bc (Nat.ble n i) (k fun _ r=>r) (wU (F.set i) k)=k s∧_
   cases h:Nat.ble n i
   · exact ⟨(F.set i).f,rfl,fun v r=>U1 F n hn r (kB h) v⟩
   · refine ⟨fun _ r=>r,rfl,fun v r=>?_⟩
     show (fk F n r).set i v=_
     rw[List.set_eq_of_length_le (by rw[ja];exact fM h)]
theorem oJ (t:TypeId):vY E t=cq E t:=by
 unfold vY cq;rw[sK];cases E.P.info? t<;>rfl
theorem QW (t:TypeId):YO E t=fT E t:=by
 unfold YO fT;rw[sK];split
 · rfl
 · cases E.P.info? t<;>rfl
theorem yE (t:TypeId):J3 E t=fE E t:=by
 unfold J3 fE;rw[sK]
 cases E.P.info? t with
 | none=>rfl
 | some i=>show ob none (fun z=>ofConst z) i.zero=_;cases h:i.zero<;>simp [ob,h]
theorem YQ (t:TypeId):agF E t=fF E t:=by
 unfold agF fF;rw[jb];rfl
theorem QX (t:TypeId) (f:Nat):fiF E t f=mT E t f:=by
 unfold fiF mT;rw[jb]
 generalize E.P.underlying t=u
 cases u with
 | none=>rfl
 | some d=>cases d with
   | struct fs=>show jn fs.toList f=fs[f]?;rw[hZ];exact Array.getElem?_toList
   | _=>rfl
def sN (op:Op):Prop:=(∀ts,bE E ts op=none)∧(∀ts h,dW E ts h op=none)∧∀ts,ey E ts op=none
def kC (f g:bj):Prop:=∀F as_ h,(∀v h',f F as_ h= .ret v h'→g F as_ h= .ret v h')∧∀v h',f F as_ h= .panic v h'→g F as_ h= .panic v h'
def Xm (a b:yb):Prop:=match a with
 | .fail _ _=>True
 | a=>b=a
def gz (op:Op):Kd F.T→Prop
 | .Hg g=>∀r,bE E (fk F n r) op=some (g r)
 | .hJ f=>∀r v,f r=some v→bE E (fk F n r) op=some v
 | .red f=>∀r h v,f r h=some v→bE E (fk F n r) op=some v∨(bE E (fk F n r) op=none∧dW E (fk F n r) h op=some v)
 | .so f=>(∀ts,bE E ts op=none)∧(∀ts h,dW E ts h op=none)∧∀r p,f r=some p→ey E (fk F n r) op=some p
 | .wr f=>sN E op∧∀call r h rc o p,o.op=op→f r h=some p→dp E call (fk F n r) h rc o= .val p.1 p.2
 | .call g args=>sN E op∧∀call r h rc o,o.op=op→dp E call (fk F n r) h rc o=mX (call g (args r) h)
 | .uk f=>sN E op∧∀fc call,kC fc call→∀r h rc o,o.op=op→Xm (f fc r h rc) (dp E call (fk F n r) h rc o)
 | .bad=>True
end
end Go.Ab.Fa
end
section
namespace Go.Ab.Fa
variable {E:Env} {F:RF} {n:Nat}
theorem Vp {op:BinOp} (h1:op≠ .shl) (h2:op≠ .shr) {t:TypeId} {xc yc:Bool} {a b v:AV} (h:U_ (QH op).f (N_ op).f (kr E op t xc yc) a b=some v):kr E op t xc yc a b=some v:=by
 unfold U_ at h
 cases a with
 | int k x=>
   obtain ⟨j,y,rfl,h3⟩:=jH (show oC (fun j y=>bc (Qx k j) ((QH op).f k x y) none) none b=some v from h)
   obtain ⟨hk,h4⟩:=fL h3
   have hk:=MB hk
   rw[Vk] at h4
   have:=Vj op k x y h4
   rw[←hk]
   cases op<;>first | exact absurd rfl h1 | exact absurd rfl h2 | simpa [kr] using this
 | str s=>
   obtain ⟨s',rfl,h3⟩:=oF (show qQ (fun t=>(N_ op).f s t) none b=some v from h)
   rw[Vn] at h3
   cases op<;>first | exact absurd rfl h1 | exact absurd rfl h2 | simpa [kr] using h3
 | _=>exact h
theorem Vq (op:BinOp) (t:TypeId) (x y:Operand) (yt:TypeId) (gx gy:F.T→AV) (hx:∀r,eu E (fk F n r) x=some (gx r)) (hy:∀r,eu E (fk F n r) y=some (gy r)):
 gz E F n (.binOp op t x y yt) (cD op (kr E op t (isConst x) (isConst y)) gx gy):=by
 have red:∀r,bE E (fk F n r) (.binOp op t x y yt)=kr E op t (isConst x) (isConst y) (gx r) (gy r):=by
  intro r;simp only[bE,hx,hy]
 by_cases h1:op= .shl
 · subst h1
   intro r v h
   rw[red]
   obtain ⟨k,m,e1,h⟩:=jH h
   obtain ⟨k',m',e2,h⟩:=jH h
   obtain ⟨h3,rfl⟩:=Vl h
   rw[e1,e2];simp [kr,h3]
 by_cases h2:op= .shr
 · subst h2
   intro r v h
   rw[red]
   obtain ⟨k,m,e1,h⟩:=jH h
   obtain ⟨k',m',e2,h⟩:=jH h
   obtain ⟨h3,rfl⟩:=Vm h
   rw[e1,e2];simp [kr,h3]
 have:cD op (kr E op t (isConst x) (isConst y)) gx gy= .hJ fun r=>U_ (QH op).f (N_ op).f (kr E op t (isConst x) (isConst y)) (gx r) (gy r):=by
  cases op<;>first | exact absurd rfl h1 | exact absurd rfl h2 | rfl
 rw[this]
 intro r v h
 rw[red]
 exact Vp h1 h2 h
theorem YR (op:UnOp) (t:TypeId) (x:Operand) (g:F.T→AV) (hg:∀r,eu E (fk F n r) x=some (g r)):gz E F n (.unOp op t x) (unK op g):=by
 have red:∀r,bE E (fk F n r) (.unOp op t x)=unA op (g r):=by intro r;simp only[bE,hg]
 cases op with
 | not=>
   intro r v h
   rw[red]
   obtain ⟨b,e,h⟩:=DS h
   rw[e,←h,wG];rfl
 | _=>intro r v h;rw[red];exact h
theorem QY {t:TypeId} {m:Nat} (h1:fF E t=some true) (h2:cq E t=some m) {cs:List AV} {o:Nat} {v:AV} (h:QJ m cs o=some v):iB E t cs o=some v:=by
 unfold QJ at h
 obtain ⟨h3,h⟩:=fL h
 have h3:=fM h3
 rw[fU] at h3
 unfold iB
 rw[h1,h2]
 simp only
 rw[if_pos (show o+m≤cs.length from h3),←h,qi,qh]
theorem QZ {t:TypeId} (h1:fF E t=some false) {cs:List AV} {o:Nat} {v:AV} (h:QI cs o=some v):iB E t cs o=some v:=by
 unfold QI at h
 rw[hZ] at h
 unfold iB
 rw[h1];exact h
theorem Bo {T:Type} (t:TypeId) (k:(List AV→Nat→Option AV)→Kd T):wF E t k= .bad∨∃p,wF E t k=k p∧∀cs o v,p cs o=some v→iB E t cs o=some v:=by
 unfold wF
 rw[YQ]
 cases h:fF E t with
 | none=>exact .inl rfl
 | some b=>cases b with
   | false=>exact .inr ⟨_,rfl,fun cs o v=>QZ h⟩
   | true=>
     simp only
     rw[oJ]
     cases h2:cq E t with
     | none=>exact .inl rfl
     | some m=>exact .inr ⟨_,rfl,fun cs o v=>QY h h2⟩
theorem Q0 {t:TypeId} {p:List AV→Nat→Option AV} (hp:∀cs o v,p cs o=some v→iB E t cs o=some v) {h:aw} {a v:AV} (e:Ig p h a=some v):bA E h t a=some v:=by
 obtain ⟨i,o,rfl,e⟩:=sM e
 obtain ⟨obj,e1,e⟩:=hB e
 obtain ⟨cs,el,ro,rfl,e⟩:=qW e
 simp only[bA,e1]
 exact hp _ _ _ e
theorem Vr (t:TypeId) (a:Operand):gz E F n (.load t a) (wO E F n a (fun g=>wF E t fun p=> .red fun r h=>Ig p h (g r)) .bad):=by
 rcases cg E F n a (fun g=>wF E t fun p=>(.red fun r h=>Ig p h (g r):Kd F.T)) .bad with h | ⟨g,h,hg⟩<;>rw[h]
 · trivial
 · rcases Bo (E:=E) t (fun p=>(.red fun r h=>Ig p h (g r):Kd F.T)) with h | ⟨p,h,hp⟩<;>rw[h]
   · trivial
   · intro r h v e
     refine .inr ⟨rfl,?_⟩
     simp only[dW,hg]
     exact Q0 hp e
theorem Q1 (s:TypeId) (x:Operand) (f:Nat):gz E F n (.field s x f) (match fiF E s f with
 | some fd=>wO E F n x (fun g=>wF E fd.type fun p=> .hJ fun r=>yv (fun cs=>p cs fd.offset) (fun _=>none) none (g r)) .bad
 | none=> .bad):=by
 rw[QX]
 cases h0:mT E s f with
 | none=>trivial
 | some fd=>
   simp only
   rcases cg E F n x (fun g=>wF E fd.type fun p=>(.hJ fun r=>yv (fun cs=>p cs fd.offset) (fun _=>none) none (g r):Kd F.T)) .bad with h | ⟨g,h,hg⟩<;>rw[h]
   · trivial
   · rcases Bo (E:=E) fd.type (fun p=>(.hJ fun r=>yv (fun cs=>p cs fd.offset) (fun _=>none) none (g r):Kd F.T)) with h | ⟨p,h,hp⟩<;>rw[h]
     · trivial
     · intro r v e
       change yv (fun cs=>p cs fd.offset) (fun _=>none) none (g r)=some v at e
       simp only[bE,h0,hg]
       cases hv:g r with
       | agg cs=>rw[hv] at e;exact hp _ _ _ e
       | _=>rw[hv] at e;exact absurd e (by intro e;cases e)
theorem FJ (s:TypeId) (x:Operand) (f:Nat):gz E F n (.fieldAddr s x f) (match fiF E s f with
 | some fd=>match vY E fd.type with
   | some (_+1)=>wO E F n x (fun g=> .hJ fun r=>yu (fun i o=>some (.ptr i (Nat.add o fd.offset))) none (g r)) .bad
   | _=> .bad
 | none=> .bad):=by
 rw[QX]
 cases h0:mT E s f with
 | none=>trivial
 | some fd=>
   simp only
   rw[oJ]
   cases h1:cq E fd.type with
   | none=>trivial
   | some m=>cases m with
     | zero=>trivial
     | succ m=>
       simp only
       rcases cg E F n x (fun g=>(.hJ fun r=>yu (fun i o=>some (.ptr i (Nat.add o fd.offset))) none (g r):Kd F.T)) .bad with h | ⟨g,h,hg⟩<;>rw[h]
       · trivial
       · intro r v e
         obtain ⟨i,o,e1,e⟩:=sM e
         simp only[bE,h0,hg,e1,h1]
         rw[if_neg (by omega)];exact e
theorem Ip (x:Operand):gz E F n (.nilCheck x) (wO E F n x (fun g=> .hJ fun r=>bc (Fs (g r)) (some (g r)) none) .bad):=by
 rcases cg E F n x (fun g=>(.hJ fun r=>bc (Fs (g r)) (some (g r)) none:Kd F.T)) .bad with h | ⟨g,h,hg⟩<;>rw[h]
 · trivial
 · intro r v e
   obtain ⟨h1,e⟩:=fL e
   simp only[bE,hg]
   rw[←e]
   exact Oc _ h1
theorem KN (x:Operand) (i:Nat):gz E F n (.extract x i) (wO E F n x (fun g=> .hJ fun r=>yv (fun _=>none) (fun vs=>jn vs i) none (g r)) .bad):=by
 rcases cg E F n x (fun g=>(.hJ fun r=>yv (fun _=>none) (fun vs=>jn vs i) none (g r):Kd F.T)) .bad with h | ⟨g,h,hg⟩<;>rw[h]
 · trivial
 · intro r v e
   change yv (fun _=>none) (fun vs=>jn vs i) none (g r)=some v at e
   simp only[bE,hg]
   cases hv:g r with
   | tuple cs=>rw[hv] at e;show cs[i]? =some v;rw[←hZ];exact e
   | _=>rw[hv] at e;exact absurd e (by intro e;cases e)
theorem Vs (c a b:Operand):gz E F n (.pick c a b) (wO E F n c (fun gc=>wO E F n a (fun ga=>wO E F n b (fun gb=> .hJ fun r=>jF (fun t=>bc t (some (ga r)) (some (gb r))) none (gc r)) .bad) .bad) .bad):=by
 rcases cg E F n c (fun gc=>wO E F n a (fun ga=>wO E F n b (fun gb=>(.hJ fun r=>jF (fun t=>bc t (some (ga r)) (some (gb r))) none (gc r):Kd F.T)) .bad) .bad) .bad with h | ⟨gc,h,hc⟩<;>rw[h]
 · trivial
 rcases cg E F n a (fun ga=>wO E F n b (fun gb=>(.hJ fun r=>jF (fun t=>bc t (some (ga r)) (some (gb r))) none (gc r):Kd F.T)) .bad) .bad with h | ⟨ga,h,ha⟩<;>rw[h]
 · trivial
 rcases cg E F n b (fun gb=>(.hJ fun r=>jF (fun t=>bc t (some (ga r)) (some (gb r))) none (gc r):Kd F.T)) .bad with h | ⟨gb,h,hb⟩<;>rw[h]
 · trivial
 intro r v e
 obtain ⟨t,e1,e⟩:=DS e
 simp only[bE,hc,e1]
 cases t
 · simp only[hb];exact e
 · simp only[ha];exact e
theorem MH {len size i o:Nat} {ix v:AV} (e:FC len size i o ix=some v):∃k m,ix= .int k m∧0≤m∧m<len∧v= .ptr i (o+m.toNat*size):=by
 obtain ⟨k,m,rfl,e⟩:=jH e
 obtain ⟨m',rfl,e⟩:=oH e
 obtain ⟨h1,e⟩:=qV e
 have h1:=kB h1
 exact ⟨k,m',rfl,by omega,by omega,(Option.some.inj e).symm⟩
theorem FK (t:TypeId) (x ix:Operand):gz E F n (.indexAddr t x ix) (wO E F n x (fun gx=>wO E F n ix (fun gi=>match j9 E.P t with
 | some (.array len elem)=>match vY E elem with
   | some size=> .hJ fun r=>yu (fun i o=>FC len size i o (gi r)) none (gx r)
   | none=> .bad
 | some (.slice elem)=>match vY E elem with
   | some size=> .hJ fun r=>jG none (fun i o len _ _=>FC len size i o (gi r)) none (gx r)
   | none=> .bad
 | _=> .bad) .bad) .bad):=by
 rw[jb]
 rcases cg E F n x (fun gx=>wO E F n ix (fun gi=>match E.P.underlying t with
  | some (.array len elem)=>match vY E elem with
    | some size=>(.hJ fun r=>yu (fun i o=>FC len size i o (gi r)) none (gx r):Kd F.T)
    | none=> .bad
  | some (.slice elem)=>match vY E elem with
    | some size=> .hJ fun r=>jG none (fun i o len _ _=>FC len size i o (gi r)) none (gx r)
    | none=> .bad
  | _=> .bad) .bad) .bad with h | ⟨gx,h,hx⟩<;>rw[h]
 · trivial
 rcases cg E F n ix (fun gi=>match E.P.underlying t with
  | some (.array len elem)=>match vY E elem with
    | some size=>(.hJ fun r=>yu (fun i o=>FC len size i o (gi r)) none (gx r):Kd F.T)
    | none=> .bad
  | some (.slice elem)=>match vY E elem with
    | some size=> .hJ fun r=>jG none (fun i o len _ _=>FC len size i o (gi r)) none (gx r)
    | none=> .bad
  | _=> .bad) .bad with h | ⟨gi,h,hi⟩<;>rw[h]
 · trivial
 cases hu:E.P.underlying t with
 | none=>trivial
 | some d=>cases d with
   | array len elem=>
     simp only
     rw[oJ]
     cases hs:cq E elem with
     | none=>trivial
     | some size=>
       intro r v e
       obtain ⟨i,o,e1,e⟩:=sM e
       obtain ⟨k,m,e2,h1,h2,rfl⟩:=MH e
       simp only[bE,hu,hx,hi,e1,e2,hs]
       rw[if_pos ⟨h1,h2⟩]
   | slice elem=>
     simp only
     rw[oJ]
     cases hs:cq E elem with
     | none=>trivial
     | some size=>
       intro r v e
       rcases oG e with ⟨_,e⟩ | ⟨i,o,l,c,b,e1,e⟩
       · cases e
       obtain ⟨k,m,e2,h1,h2,rfl⟩:=MH e
       simp only[bE,hu,hx,hi,e1,e2,hs]
       rw[if_pos ⟨h1,h2⟩]
   | _=>trivial
theorem Q2 (t:TypeId) (x ix:Operand):gz E F n (.index t x ix) (wO E F n x (fun gx=>wO E F n ix (fun gi=>match j9 E.P t with
 | some .string=> .hJ fun r=>qQ (fun s=>oC (fun _ i=>lq (fun m=>ob none (fun (b:UInt8)=>some (.int .u8 (Int.ofNat b.toNat))) (jn s m)) none i) none (gi r)) none (gx r)
 | _=> .hJ fun r=>bE E (fk F n r) (.index t x ix)) .bad) .bad):=by
 rw[jb]
 rcases cg E F n x (fun gx=>wO E F n ix (fun gi=>match E.P.underlying t with
  | some .string=>(.hJ fun r=>qQ (fun s=>oC (fun _ i=>lq (fun m=>ob none (fun (b:UInt8)=>some (.int .u8 (Int.ofNat b.toNat))) (jn s m)) none i) none (gi r)) none (gx r):Kd F.T)
  | _=> .hJ fun r=>bE E (fk F n r) (.index t x ix)) .bad) .bad with h | ⟨gx,h,hx⟩<;>rw[h]
 · trivial
 rcases cg E F n ix (fun gi=>match E.P.underlying t with
  | some .string=>(.hJ fun r=>qQ (fun s=>oC (fun _ i=>lq (fun m=>ob none (fun (b:UInt8)=>some (.int .u8 (Int.ofNat b.toNat))) (jn s m)) none i) none (gi r)) none (gx r):Kd F.T)
  | _=> .hJ fun r=>bE E (fk F n r) (.index t x ix)) .bad with h | ⟨gi,h,hi⟩<;>rw[h]
 · trivial
 cases hu:E.P.underlying t with
 | none=>intro r v e;exact e
 | some d=>cases d with
   | string=>
     intro r v e
     obtain ⟨s,e1,e⟩:=oF e
     obtain ⟨k,m,e2,e⟩:=jH e
     obtain ⟨m',rfl,e⟩:=oH e
     obtain ⟨b,e3,e⟩:=hB e
     rw[hZ] at e3
     simp only[bE,hu,hx,hi,e1,e2]
     rw[if_pos (by omega)]
     rw[show ((m':Int).toNat)=m' from rfl,e3]
     exact e
   | _=>intro r v e;exact e
theorem pv {d y:Nat} {o:Option AV} {k:Nat→Option AV} {v:AV} (e:FD d y o k=some v):∃m,(match o with | some v=>oe v y | none=>some d)=some m∧k m=some v:=by
 cases o with
 | none=>exact ⟨d,rfl,e⟩
 | some a=>
   obtain ⟨kk,i,rfl,e⟩:=jH (show oC (fun _ i=>lq (fun m=>bc (Nat.ble m y) (k m) none) none i) none a=some v from e)
   obtain ⟨m,rfl,e⟩:=oH e
   obtain ⟨h1,e⟩:=fL e
   have h1:=fM h1
   refine ⟨m,?_,e⟩
   simp only[oe]
   rw[if_pos (by omega)];rfl
theorem ub {len cap h l:Nat} {lo hi:Option AV} (h1:(match hi with | some v=>oe v cap | none=>some len)=some h)
 (h2:(match lo with | some v=>oe v h | none=>some 0)=some l):kV len cap lo hi none=some (l,h,cap):=by
 cases hi with
 | none=>cases lo with
   | none=>cases h1;cases h2;rfl
   | some b=>cases h1;simp only[kV,Option.isSome_none];simp at h2;simp [h2]
 | some a=>cases lo with
   | none=>cases h2;simp only[kV];simp at h1;simp [h1]
   | some b=>simp only[kV];simp at h1 h2;simp [h1,h2]
theorem YS {t elem:TypeId} {size:Nat} (hu:E.P.underlying t=some (.slice elem)) (hs:cq E elem=some size) {lo hi:Option AV} {x v:AV} (e:slF size lo hi x=some v):ij E t x lo hi none=some v:=by
 rcases oG e with ⟨rfl,e1⟩ | ⟨i,o,len,cap,op,rfl,e1⟩
 · obtain ⟨h,h1,e2⟩:=pv e1
   obtain ⟨l,h2,e3⟩:=pv e2
   simp only[ij,hu,ub h1 h2,hs]
   exact e3
 · obtain ⟨h0,e2⟩:=fL e1
   have h0:=fM h0
   obtain ⟨h,h1,e3⟩:=pv e2
   obtain ⟨l,h2,e4⟩:=pv e3
   simp only[ij,hu,ub h1 h2,hs]
   rw[if_pos h0]
   cases h3:Nat.beq cap l
   · rw[h3,dY] at e4
     have:¬cap=l:=by intro ee;rw[ee,Nat.beq_refl] at h3;cases h3
     rw[if_neg this]
     simpa using e4
   · rw[h3,jz] at e4
     rw[if_pos (mF h3)]
     cases op
     · rw[dY] at e4;simpa using e4
     · rw[jz] at e4;simpa using e4
theorem YT {t:TypeId} (hu:E.P.underlying t=some .string) {lo hi:Option AV} {x v:AV} (e:slS lo hi x=some v):ij E t x lo hi none=some v:=by
 obtain ⟨s,rfl,e1⟩:=oF e
 obtain ⟨h,h1,e2⟩:=pv e1
 obtain ⟨l,h2,e3⟩:=pv e2
 rw[fU] at h1
 simp only[ij,hu,ub h1 h2]
 rw[←e3,qi,qh];rfl
theorem YU {t elem:TypeId} {m size:Nat} (hu:E.P.underlying t=some (.array m elem)) (hs:cq E elem=some size) {lo hi:Option AV} {x v:AV} (e:slA m size lo hi x=some v):ij E t x lo hi none=some v:=by
 obtain ⟨i,o,rfl,e1⟩:=sM e
 obtain ⟨h,h1,e2⟩:=pv e1
 obtain ⟨l,h2,e3⟩:=pv e2
 simp only[ij,hu,ub h1 h2,hs]
 rw[←Option.some.inj e3]
 cases h3:Nat.beq m l
 · have:¬m=l:=by intro ee;rw[ee,Nat.beq_refl] at h3;cases h3
   rw[if_neg this];rfl
 · rw[if_pos (mF h3)];rfl
theorem Q3 (t:TypeId) (x:Operand) (lo hi:Option Operand):gz E F n (.slice t x lo hi none) (wO E F n x (fun gx=>wP E F n lo (fun gl=>wP E F n hi (fun gh=>match j9 E.P t with
 | some (.slice elem)=>match vY E elem with
   | some size=> .hJ fun r=>slF size (C9 gl r) (C9 gh r) (gx r)
   | none=> .bad
 | some .string=> .hJ fun r=>slS (C9 gl r) (C9 gh r) (gx r)
 | some (.array m elem)=>match vY E elem with
   | some size=> .hJ fun r=>slA m size (C9 gl r) (C9 gh r) (gx r)
   | none=> .bad
 | _=> .hJ fun r=>bE E (fk F n r) (.slice t x lo hi none)) .bad) .bad) .bad):=by
 rw[jb]
 let K:(F.T→AV)→Option (F.T→AV)→Option (F.T→AV)→Kd F.T:=fun gx gl gh=>match E.P.underlying t with
  | some (.slice elem)=>match vY E elem with
    | some size=> .hJ fun r=>slF size (C9 gl r) (C9 gh r) (gx r)
    | none=> .bad
  | some .string=> .hJ fun r=>slS (C9 gl r) (C9 gh r) (gx r)
  | some (.array m elem)=>match vY E elem with
    | some size=> .hJ fun r=>slA m size (C9 gl r) (C9 gh r) (gx r)
    | none=> .bad
  | _=> .hJ fun r=>bE E (fk F n r) (.slice t x lo hi none)
 show gz E F n _ (wO E F n x (fun gx=>wP E F n lo (fun gl=>wP E F n hi (fun gh=>K gx gl gh) .bad) .bad) .bad)
 rcases cg E F n x (fun gx=>wP E F n lo (fun gl=>wP E F n hi (fun gh=>K gx gl gh) .bad) .bad) .bad with h | ⟨gx,h,hx⟩<;>rw[h]
 · trivial
 rcases MF E F n lo (fun gl=>wP E F n hi (fun gh=>K gx gl gh) .bad) .bad with h | ⟨gl,h,hl⟩<;>rw[h]
 · trivial
 rcases MF E F n hi (fun gh=>K gx gl gh) .bad with h | ⟨gh,h,hh⟩<;>rw[h]
 · trivial
 have red:∀r,bE E (fk F n r) (.slice t x lo hi none)=ij E t (gx r) (C9 gl r) (C9 gh r) none:=by
  intro r;simp only[bE,hx,hl,hh];rfl
 simp only[K]
 cases hu:E.P.underlying t with
 | none=>intro r v e;exact e
 | some d=>cases d with
   | string=>intro r v e;rw[red];exact YT hu e
   | array m elem=>
     simp only
     rw[oJ]
     cases hs:cq E elem with
     | none=>trivial
     | some size=>intro r v e;rw[red];exact YU hu hs e
   | slice elem=>
     simp only
     rw[oJ]
     cases hs:cq E elem with
     | none=>trivial
     | some size=>intro r v e;rw[red];exact YS hu hs e
   | _=>intro r v e;exact e
end Go.Ab.Fa
end
section
namespace Go.Ab.Fa
variable {E:Env} {F:RF} {n:Nat}
theorem Od {t:TypeId} {m:Nat} (hs:cq E t=some m) {h:aw} {a v:AV} {p:AV×aw} (e:Bj m h a v=some p):p.1=AV.undef∧fp E h t a v=some p.2:=by
 obtain ⟨i,o,rfl,e1⟩:=sM e
 obtain ⟨obj,h1,e2⟩:=hB e1
 obtain ⟨cs,el,ro,rfl,e3⟩:=qW e2
 obtain ⟨h2,e4⟩:=qV e3
 obtain ⟨h3,e5⟩:=fL e4
 obtain ⟨h4,e6⟩:=fL e5
 obtain ⟨h5,e7⟩:=fL e6
 have h3:=mF h3
 have h4:=fM h4
 rw[fU,mG] at h3
 rw[fU] at h4
 rw[qS,Im,mG] at h5
 have e8:=Option.some.inj e7
 subst h2
 refine ⟨by rw[←e8],?_⟩
 simp only[fp,h1,hs]
 rw[if_pos ⟨h3,h4,h5⟩,←e8,FH,mG]
theorem Iq {t:TypeId} {a x:Operand}:sN E (.store t a x):=⟨fun _=>rfl,fun _ _=>rfl,fun _=>rfl⟩
theorem Q4 (t:TypeId) (a x:Operand):gz E F n (.store t a x) (match vY E t with
 | some m=>wO E F n a (fun ga=>wO E F n x (fun gx=> .wr fun r h=>Bj m h (ga r) (gx r)) .bad) .bad
 | none=> .bad):=by
 rw[oJ]
 cases hs:cq E t with
 | none=>trivial
 | some m=>
   simp only
   rcases cg E F n a (fun ga=>wO E F n x (fun gx=>(.wr fun r h=>Bj m h (ga r) (gx r):Kd F.T)) .bad) .bad with h | ⟨ga,h,ha⟩<;>rw[h]
   · trivial
   rcases cg E F n x (fun gx=>(.wr fun r h=>Bj m h (ga r) (gx r):Kd F.T)) .bad with h | ⟨gx,h,hx⟩<;>rw[h]
   · trivial
   refine ⟨Iq,fun call r h rc o p ho e=>?_⟩
   obtain ⟨h1,h2⟩:=Od hs e
   simp only[dp,ho,ha,hx,h2,h1]
theorem yG (t:TypeId) (x:Operand):gz E F n (.makeInterface t x) (match j9 E.P t with
 | some (.interface _)=> .bad
 | some _=>wO E F n x (fun g=> .Hg fun r=> .iface t (g r)) .bad
 | none=> .bad):=by
 rw[jb]
 cases hu:E.P.underlying t with
 | none=>trivial
 | some d=>
   cases d with
   | interface ms=>trivial
   | _=>
     simp only
     rcases cg E F n x (fun g=>(.Hg fun r=> .iface t (g r):Kd F.T)) .bad with h | ⟨g,h,hg⟩<;>rw[h]
     · trivial
     · intro r;simp only[bE,hu,hg]
theorem Ir (f:FuncId) (a b:Array Operand):gz E F n (.makeFunc (.func f) a b) (wL E F n a.toList (fun ga=>wL E F n b.toList (fun gb=> .Hg fun r=> .func f (ga r) (gb r)) .bad) .bad):=by
 rcases ua E F n a.toList (fun ga=>wL E F n b.toList (fun gb=>(.Hg fun r=> .func f (ga r) (gb r):Kd F.T)) .bad) .bad with h | ⟨ga,h,ha⟩<;>rw[h]
 · trivial
 rcases ua E F n b.toList (fun gb=>(.Hg fun r=> .func f (ga r) (gb r):Kd F.T)) .bad with h | ⟨gb,h,hb⟩<;>rw[h]
 · trivial
 intro r;simp only[bE,ha,hb]
theorem Q5 (t:TypeId):gz E F n (.alloc t) (match J3 E t with
 | some z=> .so fun _=>some (.cells z.cells t false,fun i=> .ptr i 0)
 | none=> .bad):=by
 rw[yE]
 cases hz:fE E t with
 | none=>trivial
 | some z=>exact ⟨fun _=>rfl,fun _ _=>rfl,fun r p e=>by simp only[ey,hz];exact e⟩
theorem YV (t:TypeId) (x:Operand):gz E F n (.box t x) (wO E F n x (fun g=> .so fun r=>some (.cells (lS (g r)) t false,fun i=> .ptr i 0)) .bad):=by
 rcases cg E F n x (fun g=>(.so fun r=>some (.cells (lS (g r)) t false,fun i=> .ptr i 0):Kd F.T)) .bad with h | ⟨g,h,hg⟩<;>rw[h]
 · trivial
 · exact ⟨fun _=>rfl,fun _ _=>rfl,fun r p e=>by simp only[ey,hg];rw[←mG];exact e⟩
theorem C_ (t:TypeId) (len:Nat) (parts:Array (Nat×Operand)):gz E F n (.buildSlice t len parts) (match j9 E.P t with
 | some (.slice elem)=>match vY E elem,J3 E elem with
   | some m,some z=>if z.cells.length=m∧len*m≤2^24 then U' E F n parts.toList (fun gp=> .so fun r=>ob none (fun cs=>some (.cells cs elem false,fun i=> .slice i 0 len len false)) (rF (fun i=>some (i*m,m)) (gE z.cells len) (gp r))) .bad else .bad
   | _,_=> .bad
 | _=> .bad):=by
 rw[jb]
 cases hu:E.P.underlying t with
 | none=>trivial
 | some d=>cases d with
   | slice elem=>
     simp only
     rw[oJ,yE]
     cases hs:cq E elem with
     | none=>trivial
     | some m=>cases hz:fE E elem with
       | none=>trivial
       | some z=>
         simp only
         by_cases hc:z.cells.length=m∧len*m≤2^24
         · rw[if_pos hc]
           rcases Bn E F n parts.toList (fun gp=>(.so fun r=>ob none (fun cs=>some (.cells cs elem false,fun i=> .slice i 0 len len false)) (rF (fun i=>some (i*m,m)) (gE z.cells len) (gp r)):Kd F.T)) .bad with h | ⟨g,h,hg⟩<;>rw[h]
           · trivial
           · refine ⟨fun _=>rfl,fun _ _=>rfl,fun r p e=>?_⟩
             obtain ⟨cs,h1,e⟩:=hB e
             simp only[ey,hu,hs,hz,hg]
             rw[if_pos hc];simp only[h1];exact e
         · rw[if_neg hc];trivial
   | _=>trivial
theorem Vt (z:List AV) (m:Nat):YP z m=gE z m:=by
 induction m with
 | zero=>rfl
 | succ m ih=>show lM z (YP z m)=_;rw[nN,ih];rfl
theorem FL (t:TypeId) (l c:Operand):gz E F n (.makeSlice t l c) (wO E F n l (fun gl=>wO E F n c (fun gc=>match j9 E.P t with
 | some (.slice elem)=>match vY E elem,YO E elem,J3 E elem with
   | some m,some bytes,some z=>if z.cells.length=m then .so fun r=>Va elem bytes z.cells (gl r) (gc r) else .bad
   | _,_,_=> .bad
 | _=> .bad) .bad) .bad):=by
 rw[jb]
 rcases cg E F n l (fun gl=>wO E F n c (fun gc=>match E.P.underlying t with
  | some (.slice elem)=>match vY E elem,YO E elem,J3 E elem with
    | some m,some bytes,some z=>if z.cells.length=m then (.so fun r=>Va elem bytes z.cells (gl r) (gc r):Kd F.T) else .bad
    | _,_,_=> .bad
  | _=> .bad) .bad) .bad with h | ⟨gl,h,hl⟩<;>rw[h]
 · trivial
 rcases cg E F n c (fun gc=>match E.P.underlying t with
  | some (.slice elem)=>match vY E elem,YO E elem,J3 E elem with
    | some m,some bytes,some z=>if z.cells.length=m then (.so fun r=>Va elem bytes z.cells (gl r) (gc r):Kd F.T) else .bad
    | _,_,_=> .bad
  | _=> .bad) .bad with h | ⟨gc,h,hc⟩<;>rw[h]
 · trivial
 cases hu:E.P.underlying t with
 | none=>trivial
 | some d=>cases d with
   | slice elem=>
     simp only
     rw[oJ,QW,yE]
     cases hs:cq E elem with
     | none=>trivial
     | some m=>cases hb:fT E elem with
       | none=>trivial
       | some bytes=>cases hz:fE E elem with
         | none=>trivial
         | some z=>
           simp only
           by_cases hm:z.cells.length=m
           · rw[if_pos hm]
             refine ⟨fun _=>rfl,fun _ _=>rfl,fun r p e=>?_⟩
             obtain ⟨k1,a,e1,q1⟩:=jH e
             obtain ⟨k2,b,e2,q2⟩:=jH q1
             obtain ⟨a',rfl,q3⟩:=oH q2
             obtain ⟨b',rfl,q4⟩:=oH q3
             obtain ⟨c1,q5⟩:=fL q4
             obtain ⟨c2,q6⟩:=qV q5
             obtain ⟨c3,q7⟩:=fL q6
             have c1:=fM c1
             have c2:=kB c2
             have c3:bytes*b'≤140737488355328:=fM c3
             simp only[ey,hu,hs,hb,hz,hl,hc,e1,e2]
             rw[if_pos ⟨by omega,by omega,by omega,by have:(bytes:Int)*(b':Int)=((bytes*b':Nat):Int):=by simp
                                                      rw[this];omega,hm⟩]
             rw[←q7,Vt];rfl
           · rw[if_neg hm];trivial
   | _=>trivial
theorem Is (k:List UInt8):∀(l:List ig) (i:Nat) {x:Option AV},findF k l=some x→∃y,sf (.str k) l i=some y∧y.map (·.2)=x
 | [],i,x,h=>⟨none,rfl,by cases h;rfl⟩
 | e::es,i,x,h=>by
   obtain ⟨s,h1,h2⟩:=oF (show qQ (fun s=>bc (leq Be k s) (some (some e.val)) (findF k es)) none e.key=some x from h)
   rw[KM] at h2
   rw[sf,h1]
   show ∃y,(match (some (k==s):Option Bool) with | some true=>some (some (i,e.val)) | some false=>sf (.str k) es (i+1) | none=>none)=some y∧_
   cases hb:k==s with
   | true=>
     rw[hb,jz] at h2
     exact ⟨some (i,e.val),rfl,Option.some.inj h2⟩
   | false=>
     rw[hb,dY] at h2
     exact Is k es (i+1) h2
noncomputable def aby (h:aw) (m:AV):Option (List ig):=match m with
 | .dU=>some []
 | .map i=>(match h.get i with | some (.map es _)=>some es | _=>none)
 | _=>none
theorem Q6 {z:AV} {ok:Bool} {h:aw} {m k v:AV} (e:Mr z ok h m k=some v):
 (∃s,k= .str s)∧∃es,(match m with | .dU=>some [] | .map i=>(match h.get i with | some (.map es _)=>some es | _=>none) | _=>none)=some es∧
  ∃y,sf k es 0=some y∧v=(match y with | some (_,w)=>(if ok then .tuple [w,.bool true] else w) | none=>if ok then .tuple [z,.bool false] else z):=by
 obtain ⟨s,rfl,e1⟩:=oF e
 obtain ⟨es,h1,e2⟩:=hB e1
 obtain ⟨x,h2,e3⟩:=hB e2
 refine ⟨⟨s,rfl⟩,es,?_,?_⟩
 · cases m with
   | dU=>exact h1
   | map i=>
     obtain ⟨o,h3,h4⟩:=hB (show ob none (fun o=>Vb (fun es=>some es) none o) (h.get i)=some es from h1)
     simp only[h3]
     cases o with
     | map gL c=>exact h4
     | _=>cases h4
   | _=>cases h1
 · obtain ⟨y,h3,h4⟩:=Is s es 0 h2
   refine ⟨y,h3,?_⟩
   have e4:=Option.some.inj e3
   rw[←e4,←h4]
   cases y with
   | none=>cases ok<;>rfl
   | some y=>obtain ⟨_,w⟩:=y;cases ok<;>rfl
theorem Oe (t:TypeId) (x ix:Operand) (ok:Bool):gz E F n (.lookup t x ix ok) (wO E F n x (fun gx=>wO E F n ix (fun gi=>match j9 E.P t with
 | some (.map key elem)=>match j9 E.P key,J3 E elem with
   | some .string,some z=> .red fun r h=>Mr z ok h (gx r) (gi r)
   | _,_=> .red fun r h=>dW E (fk F n r) h (.lookup t x ix ok)
 | _=> .bad) .bad) .bad):=by
 let K:(F.T→AV)→(F.T→AV)→Kd F.T:=fun gx gi=>match j9 E.P t with
  | some (.map key elem)=>match j9 E.P key,J3 E elem with
    | some .string,some z=> .red fun r h=>Mr z ok h (gx r) (gi r)
    | _,_=> .red fun r h=>dW E (fk F n r) h (.lookup t x ix ok)
  | _=> .bad
 show gz E F n _ (wO E F n x (fun gx=>wO E F n ix (fun gi=>K gx gi) .bad) .bad)
 rcases cg E F n x (fun gx=>wO E F n ix (fun gi=>K gx gi) .bad) .bad with h | ⟨gx,h,hx⟩<;>rw[h]
 · trivial
 rcases cg E F n ix (fun gi=>K gx gi) .bad with h | ⟨gi,h,hi⟩<;>rw[h]
 · trivial
 simp only[K,jb,yE]
 have yC:gz E F n (.lookup t x ix ok) (.red fun r h=>dW E (fk F n r) h (.lookup t x ix ok)):=fun r h v e=> .inr ⟨rfl,e⟩
 cases hu:E.P.underlying t with
 | none=>trivial
 | some d=>cases d with
   | map key elem=>
     simp only
     cases hk:E.P.underlying key with
     | none=>exact yC
     | some kd=>cases kd with
       | string=>cases hz:fE E elem with
         | none=>exact yC
         | some z=>
           intro r h v e
           refine .inr ⟨rfl,?_⟩
           obtain ⟨⟨s,hs⟩,es,h1,y,h2,rfl⟩:=Q6 e
           simp only[dW,hu,hx,hi,hk]
           rw[hs] at h2 ⊢
           rw[if_pos (show iY (some TypeDesc.string) (AV.str s)=true from rfl)]
           have h1':aby h (gx r)=some es:=h1
           change (match aby h (gx r) with
            | none=>none
            | some es=>match sf (AV.str s) es 0 with
              | none=>none
              | some (some (_,v))=>some (if ok then AV.tuple [v,.bool true] else v)
              | some none=>match fE E elem with
                | some z=>some (if ok then AV.tuple [z,.bool false] else z)
                | none=>none)=_
           rw[h1']
           simp only[h2,hz]
           cases y with
           | none=>rfl
           | some y=>obtain ⟨_,w⟩:=y;rfl
       | _=>exact yC
   | _=>trivial
theorem Bp:∀(fs:List Field),AD E fs=placesOf E fs
 | []=>rfl
 | f::fs=>by
   show ob none (fun n=>ob none (fun l=>some ((f.offset,n)::l)) (AD E fs)) (vY E f.type)=_
   rw[Bp fs,oJ]
   simp only[placesOf,eH]
   cases cq E f.type with
   | none=>rfl
   | some n=>
     show ob none (fun l=>some ((f.offset,n)::l)) (eH _ fs)=_
     cases eH (fun f=>match cq E f.type with | some n=>some (f.offset,n) | none=>none) fs<;>rfl
theorem It (ps:List (Nat×Nat)):∀(l:List (Nat×AV)) (cs:List AV) {v:List AV},Ih ps cs l=some v→rF (ps[·]?) cs l=some v
 | [],cs,v,h=>h
 | (i,x)::l,cs,v,h=>by
   obtain ⟨q,h1,h2⟩:=hB (show ob none (fun (q:Nat×Nat)=>bc (Nat.beq (jm (lS x)) q.2) (bc (Nat.ble (q.1+q.2) (jm cs)) (Ih ps (H8 (lS x) cs q.1) l) none) none) (jn ps i)=some v from h)
   obtain ⟨h3,h4⟩:=fL h2
   obtain ⟨h5,h6⟩:=fL h4
   have h3:=mF h3
   have h5:=fM h5
   rw[fU,mG] at h3
   rw[fU] at h5
   rw[hZ] at h1
   rw[rF]
   obtain ⟨off,size⟩:=q
   simp only[h1]
   rw[if_pos ⟨h3,h5⟩,←FH,←mG]
   exact It ps l _ h6
theorem Q7 (t:TypeId) (parts:Array (Nat×Operand)):gz E F n (.build t parts) (match J3 E t,j9 E.P t with
 | some z,some (.struct fs)=>match AD E fs.toList with
   | some ps=>U' E F n parts.toList (fun gp=> .hJ fun r=>ob none (fun cs=>some (.agg cs)) (Ih ps (lS z) (gp r))) .bad
   | none=> .bad
 | _,_=> .hJ fun r=>bE E (fk F n r) (.build t parts)):=by
 have yC:gz E F n (.build t parts) (.hJ fun r=>bE E (fk F n r) (.build t parts)):=fun r v e=>e
 rw[jb,yE]
 cases hz:fE E t with
 | none=>exact yC
 | some z=>cases hu:E.P.underlying t with
   | none=>exact yC
   | some d=>cases d with
     | struct fs=>
       simp only
       rw[Bp]
       cases hp:placesOf E fs.toList with
       | none=>trivial
       | some ps=>
         simp only
         rcases Bn E F n parts.toList (fun gp=>(.hJ fun r=>ob none (fun cs=>some (.agg cs)) (Ih ps (lS z) (gp r)):Kd F.T)) .bad with h | ⟨g,h,hg⟩<;>rw[h]
         · trivial
         · intro r v e
           obtain ⟨cs,h1,e2⟩:=hB e
           have h1:=It ps _ _ h1
           rw[mG] at h1
           simp only[bE,hg,EI,hz,hu,hp,h1]
           exact e2
     | _=>exact yC
theorem FM (t:TypeId) (m k x:Operand):gz E F n (.mapUpdate t m k x) (wO E F n m (fun gm=>wO E F n k (fun gk=>wO E F n x (fun gx=> .wr fun r h=>ob none (fun h'=>some (AV.undef,h')) (eQ E h t (gm r) (gk r) (gx r))) .bad) .bad) .bad):=by
 rcases cg E F n m (fun gm=>wO E F n k (fun gk=>wO E F n x (fun gx=>(.wr fun r h=>ob none (fun h'=>some (AV.undef,h')) (eQ E h t (gm r) (gk r) (gx r)):Kd F.T)) .bad) .bad) .bad with h | ⟨gm,h,hm⟩<;>rw[h]
 · trivial
 rcases cg E F n k (fun gk=>wO E F n x (fun gx=>(.wr fun r h=>ob none (fun h'=>some (AV.undef,h')) (eQ E h t (gm r) (gk r) (gx r)):Kd F.T)) .bad) .bad with h | ⟨gk,h,hk⟩<;>rw[h]
 · trivial
 rcases cg E F n x (fun gx=>(.wr fun r h=>ob none (fun h'=>some (AV.undef,h')) (eQ E h t (gm r) (gk r) (gx r)):Kd F.T)) .bad with h | ⟨gx,h,hx⟩<;>rw[h]
 · trivial
 refine ⟨⟨fun _=>rfl,fun _ _=>rfl,fun _=>rfl⟩,fun call r h rc o p ho e=>?_⟩
 obtain ⟨h',h1,e2⟩:=hB e
 have e3:=Option.some.inj e2
 simp only[dp,ho,hm,hk,hx,h1,←e3]
theorem Of (t:TypeId) (m k x:Operand):gz E F n (.insert t m k x) (wO E F n m (fun gm=>wO E F n k (fun gk=>wO E F n x (fun gx=> .wr fun r h=>ob none (fun h'=>some (AV.undef,h')) (eQ E h t (gm r) (gk r) (gx r))) .bad) .bad) .bad):=by
 rcases cg E F n m (fun gm=>wO E F n k (fun gk=>wO E F n x (fun gx=>(.wr fun r h=>ob none (fun h'=>some (AV.undef,h')) (eQ E h t (gm r) (gk r) (gx r)):Kd F.T)) .bad) .bad) .bad with h | ⟨gm,h,hm⟩<;>rw[h]
 · trivial
 rcases cg E F n k (fun gk=>wO E F n x (fun gx=>(.wr fun r h=>ob none (fun h'=>some (AV.undef,h')) (eQ E h t (gm r) (gk r) (gx r)):Kd F.T)) .bad) .bad with h | ⟨gk,h,hk⟩<;>rw[h]
 · trivial
 rcases cg E F n x (fun gx=>(.wr fun r h=>ob none (fun h'=>some (AV.undef,h')) (eQ E h t (gm r) (gk r) (gx r)):Kd F.T)) .bad with h | ⟨gx,h,hx⟩<;>rw[h]
 · trivial
 refine ⟨⟨fun _=>rfl,fun _ _=>rfl,fun _=>rfl⟩,fun call r h rc o p ho e=>?_⟩
 obtain ⟨h',h1,e2⟩:=hB e
 have e3:=Option.some.inj e2
 simp only[dp,ho,hm,hk,hx,h1,←e3]
theorem Vu (it:Operand) (s:Bool):gz E F n (.next it s) (wO E F n it (fun g=> .wr fun r h=>Dv h (g r) s) .bad):=by
 rcases cg E F n it (fun g=>(.wr fun r h=>Dv h (g r) s:Kd F.T)) .bad with h | ⟨g,h,hg⟩<;>rw[h]
 · trivial
 refine ⟨⟨fun _=>rfl,fun _ _=>rfl,fun _=>rfl⟩,fun call r h rc o p ho e=>?_⟩
 simp only[dp,ho,hg,e]
theorem Q8 (x:Operand):gz E F n (.panic x) (wO E F n x (fun g=> .uk fun _ r h _=>qR (fun t w=> .panic (.iface t w) h) (.fail "" none) (g r)) .bad):=by
 rcases cg E F n x (fun g=>(.uk fun _ r h _=>qR (fun t w=> .panic (.iface t w) h) (.fail "" none) (g r):Kd F.T)) .bad with h | ⟨g,h,hg⟩<;>rw[h]
 · trivial
 refine ⟨⟨fun _=>rfl,fun _ _=>rfl,fun _=>rfl⟩,fun fc call _ r h rc o ho=>?_⟩
 rcases Io (f:=fun t w=>yb.panic (.iface t w) h) (why:= "") (o:=none) (g r) with ⟨t,w,e⟩ | e
 · simp only[dp,ho,hg,e];rfl
 · show Xm (qR _ _ _) _
   rw[e];trivial
theorem Q9 (c:Call):gz E F n (.defer c) (.uk fun _ r _ rc=>match rc,callee E (fk F n r) c with
 | .pX _,_=> .fail "" none
 | _,some (.fn f,args)=> .defer (.call f args)
 | _,_=> .fail "" none):=by
 refine ⟨⟨fun _=>rfl,fun _ _=>rfl,fun _=>rfl⟩,fun fc call _ r h rc o ho=>?_⟩
 simp only[dp,ho]
 cases rc with
 | pX l=>trivial
 | _=>cases hc:callee E (fk F n r) c with
   | none=>trivial
   | some p=>obtain ⟨f,args⟩:=p;cases f<;>first | trivial | rfl
theorem KO (src dst:TypeId) (x:Operand):gz E F n (.convert src dst x) (wO E F n x (Ms E src dst) .bad):=by
 rcases cg E F n x (Ms E src dst) (.bad:Kd F.T) with h | ⟨g,h,hg⟩<;>rw[h]
 · trivial
 unfold Ms
 simp only[jb]
 cases hs:E.P.underlying src with
 | none=>trivial
 | some ds=>cases hd:E.P.underlying dst with
   | none=>cases ds<;>trivial
   | some dd=>
     cases ds<;>cases dd<;>try trivial
     case int.int k k'=>
      intro r v e
      obtain ⟨j,m,e1,e2⟩:=jH e
      simp only[bE,hs,hd,hg,e1]
      rw[←oI];exact e2
     case string.string=>
      intro r v e
      obtain ⟨s,e1,e2⟩:=oF e
      simp only[bE,hs,hd,hg,e1];exact e2
     case string.slice e=>
      refine ⟨⟨fun _=>by simp only[bE,hs,hd],fun _ _=>by simp only[dW,hs,hd],fun _=>rfl⟩,fun call r h rc o p ho e=>?_⟩
      simp only[dp,ho,hg,e]
     case slice.string el=>
      simp only
      cases he:E.P.underlying el with
      | none=>trivial
      | some de=>
        cases de<;>try trivial
        rename_i k
        cases k<;>try trivial
        intro r h v e
        rcases oG e with ⟨e1,e2⟩ | ⟨i,o,l,c,b,e1,e2⟩
        · refine .inr ⟨by simp only[bE,hs,hd,hg,e1],?_⟩
          simp only[dW,hs,hd,hg,he]
          simp only[e1];exact e2
        · refine .inr ⟨by simp only[bE,hs,hd,hg,e1],?_⟩
          simp only[dW,hs,hd,hg,he]
          simp only[e1]
          obtain ⟨l',h1,e3⟩:=hB e2
          simp only[h1];exact e3
end Go.Ab.Fa
end
