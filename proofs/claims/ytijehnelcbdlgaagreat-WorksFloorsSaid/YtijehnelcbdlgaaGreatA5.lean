import Derived.Test.YtijehnelcbdlgaaGreatA4
import Derived.Test.YtijehnelcbdlgaaGreatA0
set_option linter.unusedVariables false
set_option linter.unusedSimpArgs false
section
namespace Go.Ab.Fa
structure W (α:Type) where
 f:α
section
variable {α β T:Type}
noncomputable def wW (w:W α) (k:α→β):β:=W.rec (motive:=fun _=>β) k w
noncomputable def wA (a:Acc T) (k:(T→AV)→β):β:=Acc.rec (motive:=fun _=>β) k a
noncomputable def wU (a:Upd T) (k:(AV→T→T)→β):β:=Upd.rec (motive:=fun _=>β) k a
end
structure Y where
 ds:List qK
 rc:RC
inductive FO (T:Type) where
 | HZ (r:T) (h:ak) (y:Y)
 | jmp (e:kR) (r:T) (h:ak) (y:Y)
 | bad
structure I (T:Type) where
 run:a_→T→ak→Y→FO T
structure C (T:Type) where
 run:Nat→a_→T→ak→Y→FO T
inductive Kd (T:Type) where
 | G8 (f:T→AV)
 | gV (f:T→Option AV)
 | red (f:T→ak→Option AV)
 | sH (f:T→Option (aK×(Nat→AV)))
 | wr (f:T→ak→Option (AV×ak))
 | call (g:Fn) (args:T→List AV)
 | uz (f:a_→T→ak→RC→ym)
 | bad
section
variable (E:Env) (F:RF) (n:Nat)
noncomputable def wT {β:Type} (i:Nat) (k:(F.T→AV)→β):β:=bc (Nat.ble n i) (k fun _=>AV.undef) (wA (F.get i) k)
noncomputable def wO {β:Type} (x:Operand) (k:(F.T→AV)→β) (d:β):β:=match x with
 | .tmp t=>wT F n t k
 | .const v=>match ofConst v with
   | some a=>k fun _=>a
   | none=>d
 | .global g=>bc (Nat.ble E.G g) d (k fun _=> .ptr g 0)
 | .func f=>k fun _=> .func f [] []
noncomputable def wL {β:Type} (l:List Operand) (k:(F.T→List AV)→β) (d:β):β:=match l with
 | []=>k fun _=> []
 | x::xs=>wO E F n x (fun g=>wL xs (fun gs=>k fun r=>g r::gs r) d) d
noncomputable def wP {β:Type} (o:Option Operand) (k:Option (F.T→AV)→β) (d:β):β:=match o with
 | none=>k none
 | some x=>wO E F n x (fun g=>k (some g)) d
noncomputable def wS {β:Type} (o:Option Tmp) (k:(AV→F.T→F.T)→β):β:=match o with
 | none=>k fun _ r=>r
 | some i=>bc (Nat.ble n i) (k fun _ r=>r) (wU (F.set i) k)
noncomputable def wm (t:TypeId):Option Nat:=ob none (fun i=>some i.size) (zF E.P t)
noncomputable def YO (t:TypeId):Option Nat:=if E.bld=some t then none else ob none (fun i=>some i.bytes) (zF E.P t)
noncomputable def JJ (t:TypeId):Option AV:=ob none (fun i=>ob none (fun z=>ofConst z) i.zero) (zF E.P t)
noncomputable def agF (t:TypeId):Option Bool:=match kf E.P t with
 | some (.struct _)=>some true
 | some (.array _ _)=>some true
 | some _=>some false
 | none=>none
noncomputable def fiF (t:TypeId) (f:Nat):Option Field:=match kf E.P t with
 | some (.struct fs)=>jd fs.toList f
 | _=>none
variable {T:Type}
noncomputable def QI (op:BinOp):W (IntKind→Int→Int→Option AV):=match op with
 | .add=>⟨fun k a b=>some (.int k (va k (Ft a b)))⟩
 | .sub=>⟨fun k a b=>some (.int k (va k (Fu a b)))⟩
 | .mul=>⟨fun k a b=>some (.int k (va k (QA a b)))⟩
 | .eql=>⟨fun _ a b=>some (.bool (Xh a b))⟩
 | .neq=>⟨fun _ a b=>some (.bool (vE (Xh a b)))⟩
 | .lss=>⟨fun _ a b=>some (.bool (UQ a b))⟩
 | .leq=>⟨fun _ a b=>some (.bool (vE (UQ b a)))⟩
 | .gtr=>⟨fun _ a b=>some (.bool (UQ b a))⟩
 | .geq=>⟨fun _ a b=>some (.bool (vE (UQ a b)))⟩
 | op=>⟨UR op⟩
noncomputable def Oe (op:BinOp):W (List UInt8→List UInt8→Option AV):=match op with
 | .eql=>⟨fun a b=>some (.bool (leq Bv a b))⟩
 | .neq=>⟨fun a b=>some (.bool (vE (leq Bv a b)))⟩
 | op=>⟨vn op⟩
noncomputable def UY (f:IntKind→Int→Int→Option AV) (g:List UInt8→List UInt8→Option AV) (yM:AV→AV→Option AV) (a b:AV):Option AV:=
 oJ (fun k x=>oJ (fun j y=>bc (Qy k j) (f k x y) none) none b) (qY (fun s=>qY (fun t=>g s t) none b) (yM a b) a) a
noncomputable def fZ (op:BinOp) (yM:AV→AV→Option AV) (ga gb:T→AV):Kd T:=match op with
 | .shl=> .gV fun r=>oJ (fun k x=>oJ (fun _ y=>abg k x y) none (gb r)) none (ga r)
 | .shr=> .gV fun r=>oJ (fun k x=>oJ (fun _ y=>abh k x y) none (gb r)) none (ga r)
 | op=>wW (QI op) fun f=>wW (Oe op) fun g=> .gV fun r=>UY f g yM (ga r) (gb r)
noncomputable def unK (op:UnOp) (ga:T→AV):Kd T:=match op with
 | .not=> .gV fun r=>jQ (fun b=>some (.bool (vE b))) none (ga r)
 | op=> .gV fun r=>unA op (ga r)
noncomputable def QJ (cs:List AV) (o:Nat):Option AV:=jd cs o
noncomputable def QK (n:Nat) (cs:List AV) (o:Nat):Option AV:=bc (Nat.ble (Nat.add o n) (jc cs)) (some (.agg (s5 (s4 cs o) n))) none
noncomputable def wV (t:TypeId) (k:(List AV→Nat→Option AV)→Kd T):Kd T:=match agF E t with
 | some true=>match wm E t with
   | some n=>k (QK n)
   | none=> .bad
 | some false=>k QJ
 | none=> .bad
noncomputable def H0 (p:List AV→Nat→Option AV) (h:ak) (a:AV):Option AV:=
 yF (fun i o=>ob none (fun obj=>yH (fun cs _ _=>p cs o) none obj) (h.get i)) none a
noncomputable def BA (n:Nat) (h:ak) (a v:AV):Option (AV×ak):=
 yF (fun i o=>ob none (fun obj=>yH (fun cs e ro=>bc ro none
  (bc (Nat.beq (jc (lO v)) n) (bc (Nat.ble (Nat.add o n) (jc cs)) (bc (yI US (lO v)) (some (AV.undef,h.put i (some (.cells (HR (lO v) cs o) e false)))) none) none) none)) none obj) (h.get i)) none a
noncomputable def FC (len size:Nat) (i o:Nat) (ix:AV):Option AV:=
 oJ (fun _ n=>lu (fun m=>bc (Nat.ble len m) none (some (.ptr i (Nat.add o (Nat.mul m size))))) none n) none ix
noncomputable def FD (d y:Nat) (o:Option AV) (k:Nat→Option AV):Option AV:=
 ob (k d) (fun v=>oJ (fun _ i=>lu (fun m=>bc (Nat.ble m y) (k m) none) none i) none v) o
noncomputable def slF (size:Nat) (lo hi:Option AV) (v:AV):Option AV:=
 jR (FD 0 0 hi fun h=>FD 0 h lo fun _=>some .aD)
  (fun i o len cap op=>bc (Nat.ble len cap) (FD len cap hi fun h=>FD 0 h lo fun l=>
   bc (Nat.beq cap l) (bc op (some .ei) (some (.slice i o (Nat.sub h l) (Nat.sub cap l) false))) (some (.slice i (Nat.add o (Nat.mul l size)) (Nat.sub h l) (Nat.sub cap l) op))) none) none v
noncomputable def slS (lo hi:Option AV) (v:AV):Option AV:=
 qY (fun s=>FD (jc s) (jc s) hi fun h=>FD 0 h lo fun l=>some (.str (s5 (s4 s l) (Nat.sub h l)))) none v
noncomputable def slA (m size:Nat) (lo hi:Option AV) (v:AV):Option AV:=
 yF (fun i o=>FD m m hi fun h=>FD 0 h lo fun l=>some (.slice i (bc (Nat.beq m l) o (Nat.add o (Nat.mul l size))) (Nat.sub h l) (Nat.sub m l) false)) none v
noncomputable def Df (o:Option (T→AV)) (r:T):Option AV:=ob none (fun g=>some (g r)) o
noncomputable def abi (v:AV):Option Nat:=jR (some 0) (fun _ _ n _ _=>some n) (qY (fun s=>some (jc s)) (pa v) v) v
noncomputable def QL (h:ak) (size n:Nat) (v:AV):Option (List AV):=
 jR (bc (Nat.beq n 0) (some []) none) (fun i o len _ _=>bc (Nat.ble n len) (ob none (fun obj=>yH (fun cs _ _=>bc (Nat.ble (Nat.add o (Nat.mul n size)) (jc cs)) (some (s5 (s4 cs o) (Nat.mul n size))) none) none obj) (h.get i)) none)
  (eO h size n v) v
noncomputable def abj (elem:TypeId) (size bytes:Nat) (h:ak) (s x:AV):Option (AV×ak):=
 ob none (fun n=>ob none (fun new=>bc (yI US new) (bc (Nat.beq (jc new) (Nat.mul n size))
  (jR
   (bc (Nat.beq n 0) (some (.aD,h)) (bc (Nat.ble (Nat.mul (Nat.add (Nat.mul 4 n) 4096) (Nat.add bytes 1)) 1099511627776)
    (ob none (fun h'=>some (.slice h.nx 0 n n true,h')) (h.new (.cells new elem false))) none))
   (fun i o len cap op=>ob none (fun obj=>yH (fun cs e ro=>bc ro none
    (bc (Nat.ble (Nat.add len n) cap)
     (bc (Nat.ble (Nat.add o (Nat.mul (Nat.add len n) size)) (jc cs)) (some (.slice i o (Nat.add len n) cap op,h.put i (some (.cells (HR new cs (Nat.add o (Nat.mul len size))) e false)))) none)
     (bc (Nat.ble (Nat.mul (Nat.add (Nat.mul 4 (Nat.add len n)) 4096) (Nat.add bytes 1)) 1099511627776)
      (bc (Nat.ble (Nat.add o (Nat.mul len size)) (jc cs))
       (bc op
        (bc (Nat.beq e elem) (bc (Nat.beq (Nat.add o (Nat.mul cap size)) (jc cs)) (bc (Nat.beq o 0)
         (ob none (fun h'=>some (.slice h.nx 0 (Nat.add len n) (Nat.add len n) true,h')) ((h.put i none).new (.cells (lF (s5 (s4 cs o) (Nat.mul len size)) new) elem false))) none) none) none)
        (ob none (fun h'=>some (.slice h.nx 0 (Nat.add len n) (Nat.add len n) true,h')) (h.new (.cells (lF (s5 (s4 cs o) (Nat.mul len size)) new) elem false)))) none) none)))
    none obj) (h.get i))
   none s) none) none) (QL h size n x)) (abi x)
noncomputable def QM (argTypes:Array TypeId) (gs gx:T→AV):Kd T:=match jd argTypes.toList 0,jd argTypes.toList 1 with
 | some sT,some xT=>match kf E.P sT,kf E.P xT with
   | some (.slice elem),some xd=>if nA xd then .wr fun r h=>sD E h elem (gs r) (gx r) else match wm E elem,YO E elem,JJ E elem with
     | some size,some bytes,some z=>if z.cells.length=size then .wr fun r h=>abj elem size bytes h (gs r) (gx r) else .bad
     | _,_,_=> .bad
   | _,_=> .bad
 | _,_=> .bad
noncomputable def UZ {β:Type} (l:List (Nat×Operand)) (k:(F.T→List (Nat×AV))→β) (d:β):β:=match l with
 | []=>k fun _=> []
 | (i,x)::xs=>wO E F n x (fun g=>UZ xs (fun gs=>k fun r=>(i,g r)::gs r) d) d
noncomputable def AU (fs:List Field):Option (List (Nat×Nat)):=List.rec (motive:=fun _=>Option (List (Nat×Nat))) (some []) (fun f _ ih=>ob none (fun n=>ob none (fun l=>some ((f.offset,n)::l)) ih) (wm E f.type)) fs
noncomputable def H2 (ps:List (Nat×Nat)) (cs:List AV) (l:List (Nat×AV)):Option (List AV):=
 List.rec (motive:=fun _=>List AV→Option (List AV)) (fun cs=>some cs) (fun p _ ih cs=>ob none (fun (q:Nat×Nat)=>bc (Nat.beq (jc (lO p.2)) q.2) (bc (Nat.ble (Nat.add q.1 q.2) (jc cs)) (ih (HR (lO p.2) cs q.1)) none) none) (jd ps p.1)) l cs
noncomputable def YP (z:List AV) (m:Nat):List AV:=Nat.rec (motive:=fun _=>List AV) [] (fun _ ih=>lF z ih) m
noncomputable def U0 (elem:TypeId) (bytes:Nat) (z:List AV) (l c:AV):Option (aK×(Nat→AV)):=
 oJ (fun _ len=>oJ (fun _ cap=>lu (fun len=>lu (fun cap=>bc (Nat.ble len cap) (bc (Nat.ble 1073741824 cap) none (bc (Nat.ble (Nat.mul bytes cap) 140737488355328)
  (some (.cells (YP z cap) elem false,fun i=> .slice i 0 len cap false)) none)) none) none cap) none len) none c) none l
noncomputable def findF (k:List UInt8) (l:List gO):Option (Option AV):=List.rec (motive:=fun _=>Option (Option AV)) (some none) (fun e _ ih=>qY (fun s=>bc (leq Bv k s) (some (some e.val)) ih) none e.key) l
noncomputable def U1 {R:Type} (f:List gO→R) (d:R) (o:aK):R:=
 aK.rec (motive:=fun _=>R) (fun _ _ _=>d) (fun es _=>f es) (fun _ _=>d) (fun _ _ _ _=>d) (fun _ _ _ _ _ _ _=>d) d o
noncomputable def abk {R:Type} (e:R) (f:Nat→R) (d:R) (v:AV):R:=
 AV.rec (motive_1:=fun _=>R) (motive_2:=fun _=>Unit) (fun _=>d) (fun _ _=>d) (fun _=>d) d (fun _ _=>d) d (fun _ _ _ _ _=>d) e (fun i=>f i) (fun _ _ _ _ _=>d) (fun _=>d) d (fun _ _ _=>d) d (fun _ _=>d) (fun _ _=>d) d d () (fun _ _ _ _=>()) v
noncomputable def Mp (h:ak) (m:AV):Option AV:=
 abk (some (.int .i64 (Int.ofNat 0))) (fun i=>ob none (fun o=>U1 (fun es=>some (.int .i64 (Int.ofNat (jc es)))) none o) (h.get i)) none m
noncomputable def Mq (z:AV) (ok:Bool) (h:ak) (m k:AV):Option AV:=
 qY (fun s=>ob none (fun es=>ob none (fun r=>some (ob (bc ok (.tuple [z,.bool false]) z) (fun v=>bc ok (.tuple [v,.bool true]) v) r)) (findF s es))
  (abk (some []) (fun i=>ob none (fun o=>U1 (fun es=>some es) none o) (h.get i)) none m)) none k
noncomputable def m5 (o:jn):ym:=jn.rec (motive:=fun _=>ym) .val .panic .fail o
noncomputable def H4 (t:TypeId) (name:String):Option FuncId:=wq E t name
noncomputable def Xl (c:Call) (op:Op):Kd F.T:=match c.callee with
 | .invoke x name=>wO E F n x (fun gx=>wL E F n c.args.toList (fun gs=> .uz fun call r h _=>qZ
  (fun t v=>ob (.fail "" none) (fun f=>m5 (call (.fn f) (v::gs r) h)) (H4 E t name)) (.fail "" none) (gx r)) .bad) .bad
 | .value (.func f)=>wL E F n c.args.toList (fun gs=>match E.mO f with
   | some e=> .gV fun r=>e (gs r)
   | none=>match E.iN f with
     | some g=> .wr fun r h=>g (gs r) h
     | none=> .call (.fn f) gs) .bad
 | .value x=>wO E F n x (fun gf=>wL E F n c.args.toList (fun gs=> .uz fun call r h _=>Mm
  (fun g first captured=>ob (m5 (call (.fn g) (lF first (lF (gs r) captured)) h)) (fun sp=>ob (.fail "" none) (fun p=> .val p.1 p.2) (sp (lF first (lF (gs r) captured)) h)) (E.iN g))
  (fun l=>m5 (call (.yl l) (gs r) h)) (.fail "" none) (gf r)) .bad) .bad
 | .builtin .len=>match jd c.argTypes.toList 0,c.args.toList with
   | some t,[x]=>wO E F n x (fun g=>match kf E.P t with
     | some .string=> .gV fun r=>qY (fun s=>some (.int .i64 (Int.ofNat (jc s)))) none (g r)
     | some (.array m _)=> .gV fun _=>some (.int .i64 (Int.ofNat m))
     | some (.slice _)=> .gV fun r=>jR (some (.int .i64 (Int.ofNat 0))) (fun _ _ m _ _=>some (.int .i64 (Int.ofNat m))) (vZ (some (.int .i64 (Int.ofNat 0))) none (g r)) (g r)
     | some (.map _ _)=> .red fun r h=>Mp h (g r)
     | _=> .bad) .bad
   | _,_=> .bad
 | .builtin .cap=>match jd c.argTypes.toList 0,c.args.toList with
   | some t,[x]=>wO E F n x (fun g=>match kf E.P t with
     | some (.slice _)=> .gV fun r=>jR (some (.int .i64 (Int.ofNat 0))) (fun _ _ _ c b=>bc b none (some (.int .i64 (Int.ofNat c)))) none (g r)
     | _=> .bad) .bad
   | _,_=> .bad
 | .builtin .max=> .gV fun r=>bp E (eU F n r) op
 | .builtin .min=> .gV fun r=>bp E (eU F n r) op
 | .builtin .append=>match c.args.toList with
   | [s,x]=>wO E F n s (fun gs=>wO E F n x (fun gx=>QM E c.argTypes gs gx) .bad) .bad
   | _=> .bad
 | .builtin .copy=>match c.args.toList with
   | [s,x]=>wO E F n s (fun gs=>wO E F n x (fun gx=> .wr fun r h=>uW E h c.argTypes (gs r) (gx r)) .bad) .bad
   | _=> .bad
 | .builtin .recover=> .uz fun _ _ h rc=>match rc with
   | .ja x=> .rT x
   | .G4 _=> .fail "" none
   | _=> .val .nilIface h
 | _=> .bad
noncomputable def Mr (src dst:TypeId) (g:T→AV):Kd T:=match kf E.P src,kf E.P dst with
 | some (.int _),some (.int k)=> .gV fun r=>oJ (fun _ n=>some (.int k (va k n))) none (g r)
 | some .string,some .string=> .gV fun r=>qY (fun s=>some (.str s)) none (g r)
 | some (.slice e),some .string=>match kf E.P e with
   | some (.int .u8)=> .red fun r h=>jR (some (.str [])) (fun i o len _ _=>ob none (fun l=>some (.str l)) (EK h i o len)) none (g r)
   | _=> .bad
 | some .string,some (.slice _)=> .wr fun r h=>DI E h src dst (some (g r))
 | _,_=> .bad
noncomputable def vb (op:Op):Kd F.T:=match op with
 | .move x=>wO E F n x .G8 .bad
 | .assign x=>wO E F n x .G8 .bad
 | .pick c a b=>wO E F n c (fun gc=>wO E F n a (fun ga=>wO E F n b (fun gb=> .gV fun r=>jQ (fun t=>bc t (some (ga r)) (some (gb r))) none (gc r)) .bad) .bad) .bad
 | .binOp op t x y _=>wO E F n x (fun gx=>wO E F n y (fun gy=>fZ op (me E op t (isConst x) (isConst y)) gx gy) .bad) .bad
 | .unOp op _ x=>wO E F n x (unK op) .bad
 | .fieldAddr s x f=>match fiF E s f with
   | some fd=>match wm E fd.type with
     | some (_+1)=>wO E F n x (fun g=> .gV fun r=>yF (fun i o=>some (.ptr i (Nat.add o fd.offset))) none (g r)) .bad
     | _=> .bad
   | none=> .bad
 | .load t a=>wO E F n a (fun g=>wV E t fun p=> .red fun r h=>H0 p h (g r)) .bad
 | .store t a x=>match wm E t with
   | some m=>wO E F n a (fun ga=>wO E F n x (fun gx=> .wr fun r h=>BA m h (ga r) (gx r)) .bad) .bad
   | none=> .bad
 | .nilCheck x=>wO E F n x (fun g=> .gV fun r=>bc (Fs (g r)) (some (g r)) none) .bad
 | .extract x i=>wO E F n x (fun g=> .gV fun r=>yG (fun _=>none) (fun vs=>jd vs i) none (g r)) .bad
 | .field s x f=>match fiF E s f with
   | some fd=>wO E F n x (fun g=>wV E fd.type fun p=> .gV fun r=>yG (fun cs=>p cs fd.offset) (fun _=>none) none (g r)) .bad
   | none=> .bad
 | .indexAddr t x ix=>wO E F n x (fun gx=>wO E F n ix (fun gi=>match kf E.P t with
   | some (.array len elem)=>match wm E elem with
     | some size=> .gV fun r=>yF (fun i o=>FC len size i o (gi r)) none (gx r)
     | none=> .bad
   | some (.slice elem)=>match wm E elem with
     | some size=> .gV fun r=>jR none (fun i o len _ _=>FC len size i o (gi r)) none (gx r)
     | none=> .bad
   | _=> .bad) .bad) .bad
 | .index t x ix=>wO E F n x (fun gx=>wO E F n ix (fun gi=>match kf E.P t with
   | some .string=> .gV fun r=>qY (fun s=>oJ (fun _ i=>lu (fun m=>ob none (fun (b:UInt8)=>some (.int .u8 (Int.ofNat b.toNat))) (jd s m)) none i) none (gi r)) none (gx r)
   | _=> .gV fun r=>bp E (eU F n r) op) .bad) .bad
 | .slice t x lo hi none=>wO E F n x (fun gx=>wP E F n lo (fun gl=>wP E F n hi (fun gh=>match kf E.P t with
   | some (.slice elem)=>match wm E elem with
     | some size=> .gV fun r=>slF size (Df gl r) (Df gh r) (gx r)
     | none=> .bad
   | some .string=> .gV fun r=>slS (Df gl r) (Df gh r) (gx r)
   | some (.array m elem)=>match wm E elem with
     | some size=> .gV fun r=>slA m size (Df gl r) (Df gh r) (gx r)
     | none=> .bad
   | _=> .gV fun r=>bp E (eU F n r) op) .bad) .bad) .bad
 | .convert src dst x=>wO E F n x (Mr E src dst) .bad
 | .makeInterface t x=>match kf E.P t with
   | some (.interface _)=> .bad
   | some _=>wO E F n x (fun g=> .G8 fun r=> .iface t (g r)) .bad
   | none=> .bad
 | .makeFunc (.func f) first captured=>wL E F n first.toList (fun ga=>wL E F n captured.toList (fun gb=> .G8 fun r=> .func f (ga r) (gb r)) .bad) .bad
 | .alloc t=>match JJ E t with
   | some z=> .sH fun _=>some (.cells z.cells t false,fun i=> .ptr i 0)
   | none=> .bad
 | .box t x=>wO E F n x (fun g=> .sH fun r=>some (.cells (lO (g r)) t false,fun i=> .ptr i 0)) .bad
 | .buildSlice t len parts=>match kf E.P t with
   | some (.slice elem)=>match wm E elem,JJ E elem with
     | some m,some z=>if z.cells.length=m∧len*m≤2^24 then UZ E F n parts.toList (fun gp=> .sH fun r=>ob none (fun cs=>some (.cells cs elem false,fun i=> .slice i 0 len len false)) (rS (fun i=>some (i*m,m)) (da z.cells len) (gp r))) .bad else .bad
     | _,_=> .bad
   | _=> .bad
 | .makeSlice t l c=>wO E F n l (fun gl=>wO E F n c (fun gc=>match kf E.P t with
   | some (.slice elem)=>match wm E elem,YO E elem,JJ E elem with
     | some m,some bytes,some z=>if z.cells.length=m then .sH fun r=>U0 elem bytes z.cells (gl r) (gc r) else .bad
     | _,_,_=> .bad
   | _=> .bad) .bad) .bad
 | .makeMap _ none=> .sH fun _=>some (.map [] 0,fun i=> .map i)
 | .makeMap .. | .range .. => .sH fun r=>ek E (eU F n r) op
 | .lookup t x ix ok=>wO E F n x (fun gx=>wO E F n ix (fun gi=>match kf E.P t with
   | some (.map key elem)=>match kf E.P key,JJ E elem with
     | some .string,some z=> .red fun r h=>Mq z ok h (gx r) (gi r)
     | _,_=> .red fun r h=>dM E (eU F n r) h op
   | _=> .bad) .bad) .bad
 | .build t parts=>match JJ E t,kf E.P t with
   | some z,some (.struct fs)=>match AU E fs.toList with
     | some ps=>UZ E F n parts.toList (fun gp=> .gV fun r=>ob none (fun cs=>some (.agg cs)) (H2 ps (lO z) (gp r))) .bad
     | none=> .bad
   | _,_=> .gV fun r=>bp E (eU F n r) op
 | .slice .. | .typeAssert .. => .gV fun r=>bp E (eU F n r) op
 | .mapUpdate t m k x=>wO E F n m (fun gm=>wO E F n k (fun gk=>wO E F n x (fun gx=> .wr fun r h=>ob none (fun h'=>some (AV.undef,h')) (dA E h t (gm r) (gk r) (gx r))) .bad) .bad) .bad
 | .insert t m k x=>wO E F n m (fun gm=>wO E F n k (fun gk=>wO E F n x (fun gx=> .wr fun r h=>ob none (fun h'=>some (AV.undef,h')) (dA E h t (gm r) (gk r) (gx r))) .bad) .bad) .bad
 | .next it s=>wO E F n it (fun g=> .wr fun r h=>DH h (g r) s) .bad
 | .panic x=>wO E F n x (fun g=> .uz fun _ r h _=>qZ (fun t w=> .panic (.iface t w) h) (.fail "" none) (g r)) .bad
 | .defer c=> .uz fun _ r _ rc=>match rc,callee E (eU F n r) c with
   | .G4 _,_=> .fail "" none
   | _,some (.fn f,args)=> .defer (.call f args)
   | _,_=> .fail "" none
 | .call c=>Xl E F n c op
 | _=> .bad
noncomputable def Kr (kd:Kd T) (s:AV→T→T) (j:I T):I T:=match kd with
 | .G8 g=>⟨fun call r h y=>j.run call (s (g r) r) h y⟩
 | .gV f=>⟨fun call r h y=>ob .bad (fun v=>j.run call (s v r) h y) (f r)⟩
 | .red f=>⟨fun call r h y=>ob .bad (fun v=>j.run call (s v r) h y) (f r h)⟩
 | .sH f=>⟨fun call r h y=>ob .bad (fun p=>ob .bad (fun h'=>j.run call (s (p.2 h.nx) r) h' y) (h.new p.1)) (f r)⟩
 | .wr f=>⟨fun call r h y=>ob .bad (fun p=>j.run call (s p.1 r) p.2 y) (f r h)⟩
 | .call g args=>⟨fun call r h y=>jn.rec (motive:=fun _=>FO T) (fun v h'=>j.run call (s v r) h' y) (fun v h'=> .jmp (.panic v) r h' y) (fun _ _=> .bad) (call g (args r) h)⟩
 | .uz f=>⟨fun call r h y=>ym.rec (motive:=fun _=>FO T) (fun v h'=>j.run call (s v r) h' y) (fun d=>j.run call (s AV.undef r) h ⟨d::y.ds,y.rc⟩) (fun v=>j.run call (s v r) h ⟨y.ds,.done⟩)
  (fun v h'=> .jmp (.panic v) r h' y) (fun _ _=> .bad) (f call r h y.rc)⟩
 | .bad=>⟨fun _ _ _ _=> .bad⟩
noncomputable def Xm (s:AV→T→T) (j:I T):I T:=⟨fun call r h y=>j.run call (s AV.undef r) h y⟩
noncomputable def Kt (g:T→AV) (want:Bool) (a b:I T):I T:=match want with
 | true=>⟨fun call r h y=>jQ (fun t=>bc t (a.run call r h y) (b.run call r h y)) (b.run call r h y) (g r)⟩
 | false=>⟨fun call r h y=>jQ (fun t=>bc t (b.run call r h y) (a.run call r h y)) (b.run call r h y) (g r)⟩
noncomputable def Ms (ops:Array Oper) (o:Oper) (a b:I F.T):I F.T:=match o.guard with
 | none=>a
 | some (j,want)=>match ob none (fun p=>p.dst) (jd ops.toList j) with
   | some d=>bc (Nat.ble n d) b (wA (F.get d) fun g=>Kt g want a b)
   | none=>b
noncomputable def QN (ops:Array Oper) (o:Oper) (j:I F.T):I F.T:=wS F n o.dst fun s=>Ms F n ops o (Kr (vb E F n o.op) s j) (Xm s j)
noncomputable def uc (ops:Array Oper) (l:List Oper):I F.T:=List.rec (motive:=fun _=>I F.T) ⟨fun _ r h y=> .HZ r h y⟩ (fun o _ j=>QN E F n ops o j) l
noncomputable def abl (yM:AV→AV→Bool) (x y:AV):Bool:=
 oJ (fun k a=>oJ (fun j b=>bc (Qy k j) (Xh a b) false) false y)
  (qY (fun s=>qY (fun t=>leq Bv s t) false y)
   (yF (fun i o=>yF (fun j p=>bc (Nat.beq i j) (Nat.beq o p) false) false y)
    (jQ (fun a=>jQ (fun b=>bc a b (vE b)) false y) (yM x y) x) x) x) x
noncomputable def BD (m:Nat):AV→AV→Bool:=Nat.rec (motive:=fun _=>AV→AV→Bool) (fun _ _=>false)
 (fun i ih x y=>abl (fun x y=>yG (fun a=>yG (fun b=>leq ih a b) (fun _=>false) false y) (fun _=>AV.same (i+1) x y) (AV.same (i+1) x y) x) x y) m
structure Of where
 k:Nat
 m:Nat
 made:Option Nat
 f:ak→Bool
inductive DO (T:Type) where
 | ok (tr:List Of) (hs:List ak) (r:T) (h:ak) (y:Y)
 | bad
structure D (T:Type) where
 run:a_→T→ak→Y→DO T
noncomputable def D5 (x:Of) (d:DO T):DO T:=DO.rec (motive:=fun _=>DO T) (fun tr hs r h y=> .ok (x::tr) hs r h y) .bad d
noncomputable def rb (h0:ak) (d:DO T):DO T:=DO.rec (motive:=fun _=>DO T) (fun tr hs r h y=> .ok tr (h0::hs) r h y) .bad d
noncomputable def Mt (kd:Kd T) (s:AV→T→T) (j:D T):D T:=match kd with
 | .wr f=>⟨fun call r h y=>ob .bad (fun p=>rb h (j.run call (s p.1 r) p.2 y)) (f r h)⟩
 | .call g args=>⟨fun call r h y=>jn.rec (motive:=fun _=>DO T) (fun v h'=>rb h (j.run call (s v r) h' y)) (fun _ _=> .bad) (fun _ _=> .bad) (call g (args r) h)⟩
 | .uz f=>⟨fun call r h y=>ym.rec (motive:=fun _=>DO T) (fun v h'=>rb h (j.run call (s v r) h' y)) (fun _=> .bad) (fun _=> .bad) (fun _ _=> .bad) (fun _ _=> .bad) (f call r h y.rc)⟩
 | _=>⟨fun _ _ _ _=> .bad⟩
noncomputable def Mu (k m:Nat) (kd:Kd T) (s:AV→T→T) (j:D T):D T:=match kd with
 | .G8 g=>⟨fun call r h y=>j.run call (s (g r) r) h y⟩
 | .gV f=>⟨fun call r h y=>ob .bad (fun v=>j.run call (s v r) h y) (f r)⟩
 | .red f=>⟨fun call r h y=>ob .bad (fun v=>D5 ⟨k,m,none,fun h'=>ob false (fun v'=>BD 20 v' v) (f r h')⟩ (j.run call (s v r) h y)) (f r h)⟩
 | .sH f=>⟨fun call r h y=>ob .bad (fun p=>ob .bad (fun h'=>D5 ⟨k,m,some h.nx,fun Mv=>ob false (fun o=>aK.same o p.1) (Mv.get h.nx)⟩ (j.run call (s (p.2 h.nx) r) h' y)) (h.new p.1)) (f r)⟩
 | _=>⟨fun _ _ _ _=> .bad⟩
noncomputable def QO (s:AV→T→T) (j:D T):D T:=⟨fun call r h y=>j.run call (s AV.undef r) h y⟩
noncomputable def Ku (s:AV→T→T) (j:D T):D T:=⟨fun call r h y=>rb h (j.run call (s AV.undef r) h y)⟩
noncomputable def QP (g:T→AV) (want:Bool) (a b:D T):D T:=match want with
 | true=>⟨fun call r h y=>jQ (fun t=>bc t (a.run call r h y) (b.run call r h y)) (b.run call r h y) (g r)⟩
 | false=>⟨fun call r h y=>jQ (fun t=>bc t (b.run call r h y) (a.run call r h y)) (b.run call r h y) (g r)⟩
noncomputable def zG (ops:Array Oper) (o:Oper) (a b:D F.T):D F.T:=match o.guard with
 | none=>a
 | some (j,want)=>match ob none (fun p=>p.dst) (jd ops.toList j) with
   | some d=>bc (Nat.ble n d) b (wA (F.get d) fun g=>QP g want a b)
   | none=>b
noncomputable def jA (ops:Array Oper) (pl:mj) (l:List Nat):Nat→D F.T:=List.rec (motive:=fun _=>Nat→D F.T) (fun _=>⟨fun _ r h y=> .ok [] [h] r h y⟩)
 (fun i _ ih k=>ob ⟨fun _ _ _ _=> .bad⟩ (fun o=>wS F n o.dst fun s=>
  bc (qo E o.op) (canon (Nat.add k 1) fun k'=>zG F n ops o (Mt (vb E F n o.op) s (ih k')) (Ku s (ih k')))
   (canon (Nat.sub (Nat.add (AT pl.bE pl.an i) 1) k) fun m=>zG F n ops o (Mu k m (vb E F n o.op) s (ih k)) (QO s (ih k)))) (jd ops.toList i)) l
noncomputable def Mw (tr:List Of):List Nat:=List.rec (motive:=fun _=>List Nat) [] (fun x _ ih=>ob ih (fun i=>i::ih) x.made) tr
noncomputable def re (tr:List Of) (hs:List ak):Bool:=bc (FB (Mw tr)) (yI (fun x=>yI x.f (s5 (s4 hs x.k) x.m)) tr) false
noncomputable def U2 (ops:Array Oper) (pl:mj) (call:a_) (r:F.T) (h:ak) (y:Y):FO F.T:=match pl.order.reverse with
 | []=> .bad
 | i::front=>match (jA E F n ops pl front.reverse 0).run call r h y,ops[i]? with
   | .ok tr hs r1 h1 y1,some ⟨dst,.call c,ty,pos,after,guard⟩=>
     match fJ E (.call c)&&cu ops (eU F n r1) ⟨dst,.call c,ty,pos,after,guard⟩&&(List.range ops.size).all (fun j=>j==i||dN pl.an i j),
      dr E call (eU F n r1) h1 y1.rc ⟨dst,.call c,ty,pos,after,guard⟩ with
     | true,.panic v h'=>match re tr (hs++[h']) with
       | true=> .jmp (.panic v) r1 h' y1
       | false=> .bad
     | _,_=> .bad
   | _,_=> .bad
noncomputable def Mx (ops:Array Oper):I F.T:=QG E ops (fun pl=>
 ⟨fun call r h y=>DO.rec (motive:=fun _=>FO F.T) (fun tr hs r' h' y'=>bc (re tr hs) (.HZ r' h' y') .bad) (U2 E F n ops pl call r h y) ((jA E F n ops pl pl.order 0).run call r h y)⟩) ⟨fun _ _ _ _=> .bad⟩
def Xn (r:T) (o:Out):FO T:=match o with
 | .ok .normal s=> .HZ r s.h ⟨s.ds,s.rc⟩
 | .ok e s=> .jmp e r s.h ⟨s.ds,s.rc⟩
 | .fail _ _=> .bad
noncomputable def FE (f:Operand) (ps:Array Tmp) (as_ bd:Code):I F.T:=
 wO E F n f (fun _=>⟨fun call r h y=>Xn r (nC E call f ps as_ bd ⟨eU F n r,h,y.ds,y.rc⟩)⟩) ⟨fun _ _ _ _=> .bad⟩
noncomputable def nS {R:Type} (d:R) (k:Nat→R) (m:Nat):R:=Nat.rec (motive:=fun _=>R) d (fun i _=>k i) m
noncomputable def fo {R:Type} (a:T→ak→Y→R) (b:kR→T→ak→Y→R) (d:R) (o:FO T):R:=FO.rec (motive:=fun _=>R) a b d o
noncomputable def QR {R:Type} (f:Nat→R) (d:R) (e:kR):R:=kR.rec (motive:=fun _=>R) d f d (fun _=>d) e
noncomputable def QS (b:C T) (m:Nat):a_→T→ak→Y→FO T:=
 Nat.rec (motive:=fun _=>a_→T→ak→Y→FO T) (fun _ _ _ _=> .bad) (fun i ih call r h y=>fo (fun r' h' y'=>ih call r' h' y') .jmp .bad (b.run i call r h y)) m
noncomputable def U3 (i:I T):C T:=⟨fun m call r h y=>nS .bad (fun _=>i.run call r h y) m⟩
noncomputable def m6 (c:Code):C F.T:=Code.rec (motive:=fun _=>C F.T)
 ⟨fun m _ r h y=>nS .bad (fun _=> .HZ r h y) m⟩
 (fun _ ops draw=>bc draw (U3 (Mx E F n ops)) (U3 (uc E F n ops ops.toList)))
 (fun _ _ a b=>⟨fun m call r h y=>nS .bad (fun i=>fo (fun r' h' y'=>b.run i call r' h' y') .jmp .bad (a.run i call r h y)) m⟩)
 (fun x _ _ a b=>wO E F n x (fun g=>⟨fun m call r h y=>nS .bad (fun i=>jQ (fun t=>bc t (a.run i call r h y) (b.run i call r h y)) .bad (g r)) m⟩) ⟨fun _ _ _ _ _=> .bad⟩)
 (fun id _ b=>⟨fun m call r h y=>nS .bad (fun i=>fo .HZ (fun e r' h' y'=>QR (fun j=>bc (Nat.beq j id) (.HZ r' h' y') (.jmp e r' h' y')) (.jmp e r' h' y') e) .bad (b.run i call r h y)) m⟩)
 (fun _ b=>⟨fun m call r h y=>QS b m call r h y⟩)
 (fun f ps as_ bd _ _=>U3 (FE E F n f ps as_ bd))
 (fun id=>⟨fun m _ r h y=>nS .bad (fun _=> .jmp (.exit id) r h y) m⟩)
 (fun _ b=>⟨fun m call r h y=>nS .bad (fun i=>b.run i call r h y) m⟩)
 (fun _=>⟨fun m _ r h y=>nS .bad (fun _=> .HZ r h y) m⟩)
 (fun _=>⟨fun _ _ _ _ _=> .bad⟩)
 ⟨fun m _ r h y=>nS .bad (fun _=> .jmp .ret r h y) m⟩
 (fun _=>⟨fun _ _ _ _ _=> .bad⟩) c
end
section
variable (E:Env)
inductive BO where
 | fin (res:ak→Option (List AV)) (h:ak) (y:Y)
 | pan (v:AV) (res:ak→Option (List AV)) (h:ak) (y:Y)
 | bad
structure CF where
 run:Nat→a_→List AV→ak→RC→BO
noncomputable def yN (F:RF) (n:Nat):List ResultVar→W (F.T→ak→Option (List AV))
 | []=>⟨fun _ _=>some []⟩
 | .tmp t::rest=>wT F n t fun g=>wW (yN F n rest) fun k=>⟨fun r h=>ob none (fun vs=>some (g r::vs)) (k r h)⟩
 | .cell a t::rest=>wT F n a fun g=>wW (yN F n rest) fun k=>⟨fun r h=>ob none (fun v=>ob none (fun vs=>some (v::vs)) (k r h)) (bm E h t (g r))⟩
noncomputable def QT (F:RF) (n:Nat) (fn:Func) (b:Code):CF:=
 wW (yN E F n fn.results.toList) fun res=>⟨fun fuel call args h rc=>bc (Nat.ble (jc args) n)
  (fo (fun r h' y=> .fin (res r) h' y) (fun e r h' y=>kR.rec (motive:=fun _=>BO) .bad (fun _=> .bad) (.fin (res r) h' y) (fun v=> .pan v (res r) h' y) e) .bad
   ((m6 E F n b).run fuel call (PG F args F.z 0) h ⟨[],rc⟩)) .bad⟩
noncomputable def zH (f:FuncId):CF:=match YK E.P f with
 | none=>⟨fun _ _ _ _ _=> .bad⟩
 | some fn=>match fn.body with
   | none=>⟨fun _ _ _ _ _=> .bad⟩
   | some b=>bc (Nat.ble fn.ntmps 64) (QT E rf2 fn.ntmps fn b) (bc (Nat.ble fn.ntmps 512) (QT E rf3 fn.ntmps fn b) ⟨fun _ _ _ _ _=> .bad⟩)
noncomputable def bo {R:Type} (a:(ak→Option (List AV))→ak→Y→R) (b:AV→(ak→Option (List AV))→ak→Y→R) (d:R) (o:BO):R:=BO.rec (motive:=fun _=>R) a b d o
noncomputable def My (F:RF) (call:a_) (fuel:Nat) (c:Code) (s:St):Out:=
 fo (fun r h y=> .ok .normal ⟨eU F s.ts.length r,h,y.ds,y.rc⟩) (fun e r h y=> .ok e ⟨eU F s.ts.length r,h,y.ds,y.rc⟩) (.fail "" none) ((m6 E F s.ts.length c).run fuel call (PG F s.ts F.z 0) s.h ⟨s.ds,s.rc⟩)
noncomputable def Mz (call:a_) (fuel:Nat) (c:Code) (s:St):Out:=
 bc (Nat.ble s.ts.length 64) (My E rf2 call fuel c s) (bc (Nat.ble s.ts.length 512) (My E rf3 call fuel c s) (.fail "" none))
noncomputable def BE (call:a_) (fuel:Nat) (l:Nat) (args:List AV) (h:ak):jn:=match h.get l with
 | some (.loop _ _ ts ps as_ bd _)=>if args.length=ps.length then
  match Mz E call fuel as_ {ts:=(ps.zip args).foldl (fun ts x=>ts.set x.1 x.2) ts,h,ds:=[],rc:= .G4 l} with
  | .ok .normal s1=>match s1.h.get l with
    | some (.loop .ready pd Ya WY Ul Yb Yc)=>
      match Mz E call fuel bd {s1 with h:=s1.h.put l (some (.loop .busy pd Ya WY Ul Yb Yc))} with
      | .ok .normal s2=>A6 l none s2
      | .ok .ret s2=>A6 l (some .ret) s2
      | .ok (.exit id) s2=>A6 l (some (.exit id)) s2
      | .ok (.panic v) s2=>if s2.ds.isEmpty then .panic v s2.h else .fail "round defers" none
      | .fail why q=> .fail why q
    | _=> .fail "round state" none
  | .ok _ _=> .fail "round assign" none
  | .fail why q=> .fail why q
   else .fail "round args" none
 | _=> .fail "round" none
noncomputable def iy (call:a_) (fuel:Nat) (g:FuncId) (as_:List AV) (h:ak) (rc:RC):Option (ak×RC):=
 bo (fun res h' y=>bc y.ds.isEmpty (ob none (fun _=>some (h',y.rc)) (res h')) none) (fun _ _ _ _=>none) none ((zH E g).run fuel call as_ h rc)
noncomputable def H5 (call:a_) (fuel:Nat) (p:Option AV) (res:ak→Option (List AV)) (h:ak) (ds:List qK):jn:=match cZ (iy E call fuel) ds p h with
 | none=> .fail "unwind" none
 | some (some v,h')=> .panic v h'
 | some (none,h')=>ob (.fail "results" none) (fun vs=> .ret (h_ vs) h') (res h')
noncomputable def fFn {R:Type} (a:FuncId→R) (b:Nat→R) (f:Fn):R:=Fn.rec (motive:=fun _=>R) a b f
noncomputable def H6 {α R:Type} (a b:R) (l:List α):R:=List.rec (motive:=fun _=>R) a (fun _ _ _=>b) l
noncomputable def abm (fuel:Nat) (call:a_) (g:Fn) (args:List AV) (h:ak):jn:=
 fFn (fun f=>bo (fun res h' y=>H6 (ob (.fail "results" none) (fun vs=> .ret (h_ vs) h') (res h')) (H5 E call fuel none res h' y.ds) y.ds)
  (fun v res h' y=>H6 (.panic v h') (H5 E call fuel (some v) res h' y.ds) y.ds) (.fail "body" none) ((zH E f).run fuel call args h .no))
  (fun l=>BE E call fuel l args h) g
noncomputable def zI (d fuel:Nat):a_:=Nat.rec (motive:=fun _=>a_) (fun _ _ _=> .fail "depth" none) (fun _ ih=>abm E fuel ih) d
end
end Go.Ab.Fa
end
section
namespace Go.Ab.Fa
theorem U4 {α R:Type} {d:R} {f:α→R} {a:α}:ob d f (some a)=f a:=rfl
theorem jC {R:Type} (x y:R):bc true x y=x:=rfl
theorem d_ {R:Type} (x y:R):bc false x y=y:=rfl
theorem gR {α β:Type} {f:α→Option β} {o:Option α} {v:β} (h:ob none f o=some v):∃a,o=some a∧f a=some v:=by
 cases o with
 | none=>exact absurd h (by intro e;cases e)
 | some a=>exact ⟨a,rfl,h⟩
theorem fM {β:Type} {b:Bool} {x:Option β} {v:β} (h:bc b x none=some v):b=true∧x=some v:=by
 cases b with
 | false=>cases h
 | true=>exact ⟨rfl,h⟩
theorem rf {β:Type} {b:Bool} {x:Option β} {v:β} (h:bc b none x=some v):b=false∧x=some v:=by
 cases b with
 | false=>exact ⟨rfl,h⟩
 | true=>cases h
theorem D6 {β:Type} {f:Bool→Option β} {a:AV} {v:β} (h:jQ f none a=some v):∃b,a= .bool b∧f b=some v:=by
 cases a with
 | bool b=>exact ⟨b,rfl,h⟩
 | _=>exact absurd h (by intro e;cases e)
theorem jS {β:Type} {f:IntKind→Int→Option β} {a:AV} {v:β} (h:oJ f none a=some v):∃k n,a= .int k n∧f k n=some v:=by
 cases a with
 | int k n=>exact ⟨k,n,rfl,h⟩
 | _=>exact absurd h (by intro e;cases e)
theorem oM {β:Type} {f:List UInt8→Option β} {a:AV} {v:β} (h:qY f none a=some v):∃s,a= .str s∧f s=some v:=by
 cases a with
 | str s=>exact ⟨s,rfl,h⟩
 | _=>exact absurd h (by intro e;cases e)
theorem s_ {β:Type} {f:Nat→Nat→Option β} {a:AV} {v:β} (h:yF f none a=some v):∃i o,a= .ptr i o∧f i o=some v:=by
 cases a with
 | ptr i o=>exact ⟨i,o,rfl,h⟩
 | _=>exact absurd h (by intro e;cases e)
theorem oN {β:Type} {e:Option β} {f:Nat→Nat→Nat→Nat→Bool→Option β} {a:AV} {v:β} (h:jR e f none a=some v):
 (a= .aD∧e=some v)∨∃i o l c b,a= .slice i o l c b∧f i o l c b=some v:=by
 cases a with
 | aD=>exact .inl ⟨rfl,h⟩
 | slice i o l c b=>exact .inr ⟨i,o,l,c,b,rfl,h⟩
 | _=>exact absurd h (by intro e;cases e)
theorem H7 {β:Type} {e z:Option β} {f:Nat→Nat→Nat→Nat→Bool→Option β} {a:AV} {v:β} (h:jR e f (vZ z none a) a=some v):
 (a= .aD∧e=some v)∨(∃i o l c b,a= .slice i o l c b∧f i o l c b=some v)∨(a= .ei∧z=some v):=by
 cases a with
 | aD=>exact .inl ⟨rfl,h⟩
 | slice i o l c b=>exact .inr (.inl ⟨i,o,l,c,b,rfl,h⟩)
 | ei=>exact .inr (.inr ⟨rfl,h⟩)
 | _=>exact absurd h (by intro e;cases e)
theorem oO {β:Type} {f:Nat→Option β} {n:Int} {v:β} (h:lu f none n=some v):∃m:Nat,n=(m:Int)∧f m=some v:=by
 cases n with
 | ofNat m=>exact ⟨m,rfl,h⟩
 | negSucc m=>cases h
theorem rh {β:Type} {f:List AV→TypeId→Bool→Option β} {o:aK} {v:β} (h:yH f none o=some v):∃cs e ro,o= .cells cs e ro∧f cs e ro=some v:=by
 cases o with
 | cells cs e ro=>exact ⟨cs,e,ro,rfl,h⟩
 | _=>exact absurd h (by intro e;cases e)
theorem fN {a b:Nat} (h:Nat.ble a b=true):a≤b:=Nat.le_of_ble_eq_true h
theorem kG {a b:Nat} (h:Nat.ble a b=false):b<a:=by
 apply Decidable.byContradiction;intro hn
 rw[Nat.ble_eq_true_of_le (by omega)] at h;cases h
theorem mq {a b:Nat} (h:Nat.beq a b=true):a=b:=Nat.eq_of_beq_eq_true h
theorem MA {k j:IntKind} (h:Qy k j=true):k=j:=by
 cases k<;>cases j<;>first | rfl | exact absurd h (by intro e;cases e)
theorem wX (b:Bool):vE b= !b:=by cases b<;>rfl
theorem QU {k:IntKind} (h:Xg k=false) (n:Int):k.wrap n=n%(uC k:Int):=by
 cases k<;>first | (cases h;done) | simp [IntKind.wrap,IntKind.bits,IntKind.signed,uC,YI]
theorem QV {k:IntKind} (h:Xg k=true) {m:Nat} (hm:m<uC k):k.wrap (Int.negSucc m)=Int.negSucc m:=by
 have hb:(2^(k.bits - 1):Int)=(uC k:Int)∧(2^k.bits:Int)=2*(uC k:Int)∧k.signed=true:=by
  cases k<;>first | (cases h;done) | (refine ⟨rfl,rfl,rfl⟩)
 obtain ⟨h1,h2,h3⟩:=hb
 unfold IntKind.wrap
 rw[h1,h2,h3,Int.negSucc_eq]
 generalize uC k=B at *
 have e: -((m:Int)+1)%(2*(B:Int))=2*(B:Int) -(m+1):=by
  rw[←Int.add_emod_right]
  exact Int.emod_eq_of_lt (by omega) (by omega)
 rw[e]
 simp only[Bool.true_and,decide_eq_true_eq]
 rw[if_pos (by omega)]
 omega
theorem oP (k:IntKind) (n:Int):va k n=k.wrap n:=by
 cases n with
 | ofNat m=>
   show bc (Nat.ble (uC k) m) (bc (Xg k) (k.wrap (Int.ofNat m)) (Int.ofNat (Nat.mod m (uC k)))) (Int.ofNat m)=_
   cases h:Nat.ble (uC k) m
   · have h:=kG h
     rw[d_]
     cases k<;>simp [IntKind.wrap,IntKind.bits,IntKind.signed]<;>simp only[uC,YI] at h<;>omega
   · rw[jC]
     cases hs:Xg k
     · rw[d_,QU hs];rfl
     · rw[jC]
 | negSucc m=>
   show bc (Xg k) (bc (Nat.ble (uC k) m) (k.wrap (Int.negSucc m)) (Int.negSucc m)) (k.wrap (Int.negSucc m))=_
   cases hs:Xg k
   · rw[d_]
   · rw[jC]
     cases h:Nat.ble (uC k) m
     · have h:=kG h
       rw[d_]
       exact (QV hs h).symm
     · rw[jC]
theorem U5 (a b:Int):Ft a b=a+b:=by
 cases a<;>cases b<;>rfl
theorem U6 (a b:Int):Fu a b=a - b:=by
 cases a with
 | negSucc x=>rfl
 | ofNat x=>
   cases b with
   | negSucc y=>rfl
   | ofNat y=>
     show bc (Nat.ble y x) (Int.ofNat (x - y)) (Int.negSucc (y - x - 1))=_
     cases h:Nat.ble y x
     · have h:=kG h
       rw[d_,Int.negSucc_eq];simp only[Int.ofNat_eq_natCast];omega
     · have h:=fN h
       rw[jC];simp only[Int.ofNat_eq_natCast];omega
theorem MB (a b:Int):QA a b=a*b:=by
 cases a<;>cases b<;>rfl
theorem Kv (a b:Int):Xh a b=(a==b):=by
 have:Xh a b=decide (a=b):=by
  cases a with
  | ofNat x=>cases b with
    | ofNat y=>
      show Nat.beq x y=_
      rw[←At]
      by_cases h:x=y
      · subst h;simp
      · rw[show (x==y)=false by simp [h]];symm;apply decide_eq_false;simp only[Int.ofNat_eq_natCast];omega
    | negSucc y=>simp;rfl
  | negSucc x=>cases b with
    | ofNat y=>simp;rfl
    | negSucc y=>
      show Nat.beq x y=_
      rw[←At]
      by_cases h:x=y
      · subst h;simp
      · simp [h]
 rw[this];rfl
theorem FG (a b:Int):UQ a b=decide (a<b):=by
 cases a with
 | ofNat x=>cases b with
   | ofNat y=>
     show Nat.ble (x+1) y=_
     rw[←ua];simp only[Int.ofNat_eq_natCast];congr 1;apply propext;omega
   | negSucc y=>
     symm;exact decide_eq_false (by rw[Int.negSucc_eq];simp only[Int.ofNat_eq_natCast];omega)
 | negSucc x=>cases b with
   | ofNat y=>
     symm;exact decide_eq_true (by rw[Int.negSucc_eq];simp only[Int.ofNat_eq_natCast];omega)
   | negSucc y=>
     show Nat.ble (y+1) x=_
     rw[←ua];congr 1;apply propext;rw[Int.negSucc_eq,Int.negSucc_eq];omega
theorem BF (a b:Int):(!decide (a<b))=decide (b≤a):=by
 by_cases h:a<b
 · rw[decide_eq_true h,decide_eq_false (by omega)];rfl
 · rw[decide_eq_false h,decide_eq_true (by omega)];rfl
theorem U7 (k:IntKind) {x:Nat} (h:x<uC k):x<2^k.bits:=by
 cases k<;>simp only[uC,YI,IntKind.bits] at * <;>omega
theorem MC (k:IntKind) {x:Nat} (h:x<uC k):k.wrap (x:Int)=x:=by
 have:=oP k (Int.ofNat x)
 rw[Int.ofNat_eq_natCast] at this
 rw[←this]
 show bc (Nat.ble (uC k) x) _ (Int.ofNat x)=_
 rw[oA h];rfl
theorem U8 (k:IntKind):∃m,uC k=2^m:=by
 cases k
 · exact ⟨7,rfl⟩
 · exact ⟨15,rfl⟩
 · exact ⟨31,rfl⟩
 · exact ⟨63,rfl⟩
 · exact ⟨8,rfl⟩
 · exact ⟨16,rfl⟩
 · exact ⟨32,rfl⟩
 · exact ⟨64,rfl⟩
theorem toNat_ofInt (k:IntKind) {x:Nat} (h:x<uC k):(BitVec.ofInt k.bits (Int.ofNat x)).toNat=x:=by
 rw[Int.ofNat_eq_natCast,BitVec.ofInt_natCast,BitVec.toNat_ofNat]
 exact Nat.mod_eq_of_lt (U7 k h)
theorem U9 (op:BinOp) (k:IntKind) (a b:Int) {v:AV} (h:UR op k a b=some v):dz op k a b=some v:=by
 cases op<;>simp only[UR] at h<;>try exact h
 · simpa [dz,oP,U5] using h
 · simpa [dz,oP,U6] using h
 · simpa [dz,oP,MB] using h
 · cases a with
   | negSucc x=>exact h
   | ofNat x=>cases b with
     | negSucc y=>exact h
     | ofNat y=>
       obtain ⟨h1,h2⟩:=rf h
       rw[oP] at h2
       have:y≠0:=by intro e;subst e;cases h1
       rw[←h2];simp [dz,this];exact congrArg k.wrap (Int.natCast_ediv x y).symm
 · cases a with
   | negSucc x=>exact h
   | ofNat x=>cases b with
     | negSucc y=>exact h
     | ofNat y=>
       obtain ⟨h1,h2⟩:=rf h
       have:y≠0:=by intro e;subst e;cases h1
       rw[←h2];simp [dz,this];rfl
 · cases a with
   | negSucc x=>exact h
   | ofNat x=>cases b with
     | negSucc y=>exact h
     | ofNat y=>
       change bc (Nat.ble (uC k) x) _ (bc (Nat.ble (uC k) y) _ _)=_ at h
       cases h1:Nat.ble (uC k) x with
       | true=>rw[h1] at h;exact h
       | false=>cases h2:Nat.ble (uC k) y with
         | true=>rw[h1,h2] at h;exact h
         | false=>
           rw[h1,h2] at h
           have h1:=kG h1;have h2:=kG h2
           rw[←h,d_,d_]
           show some (AV.int k (k.wrap ((BitVec.ofInt k.bits (Int.ofNat x)&&& BitVec.ofInt k.bits (Int.ofNat y)).toNat:Int)))=_
           rw[BitVec.toNat_and,toNat_ofInt k h1,toNat_ofInt k h2,MC k (Nat.lt_of_le_of_lt Nat.and_le_left h1)]
           rfl
 · cases a with
   | negSucc x=>exact h
   | ofNat x=>cases b with
     | negSucc y=>exact h
     | ofNat y=>
       change bc (Nat.ble (uC k) x) _ (bc (Nat.ble (uC k) y) _ _)=_ at h
       cases h1:Nat.ble (uC k) x with
       | true=>rw[h1] at h;exact h
       | false=>cases h2:Nat.ble (uC k) y with
         | true=>rw[h1,h2] at h;exact h
         | false=>
           rw[h1,h2] at h
           have h1:=kG h1;have h2:=kG h2
           rw[←h,d_,d_]
           show some (AV.int k (k.wrap ((BitVec.ofInt k.bits (Int.ofNat x)||| BitVec.ofInt k.bits (Int.ofNat y)).toNat:Int)))=_
           rw[BitVec.toNat_or,toNat_ofInt k h1,toNat_ofInt k h2,MC k]
           · rfl
           · obtain ⟨m,hm⟩:=U8 k
             rw[hm] at h1 h2 ⊢
             exact Nat.or_lt_two_pow h1 h2
 · simpa [dz,Kv] using h
 · simpa [dz,Kv,wX,bne] using h
 · simpa [dz,FG] using h
 · simpa [dz,FG,wX,BF] using h
 · simpa [dz,FG] using h
 · simpa [dz,FG,wX,BF] using h
theorem U_ (op:BinOp) (k:IntKind) (a b:Int):(QI op).f k a b=UR op k a b:=by
 cases op<;>rfl
theorem QW (k:IntKind):Qz k=k.bits:=by cases k<;>rfl
theorem MD (k:IntKind) (y:Nat):QB k y=min y k.bits:=by
 unfold QB;rw[QW]
 cases h:Nat.ble k.bits y
 · have:=kG h;rw[d_];omega
 · have:=fN h;rw[jC];omega
theorem U' {k:IntKind} {x y:Int} {v:AV} (h:abg k x y=some v):¬y<0∧v= .int k (k.wrap (x*2^(min y.toNat k.bits))):=by
 obtain ⟨m,rfl,h⟩:=oO h
 refine ⟨by omega,?_⟩
 have h:=Option.some.inj h
 rw[←h,oP,MB,MD]
 simp
theorem Va {k:IntKind} {x y:Int} {v:AV} (h:abh k x y=some v):¬y<0∧v= .int k (x.fdiv (2^(min y.toNat k.bits))):=by
 obtain ⟨m,rfl,h⟩:=oO h
 refine ⟨by omega,?_⟩
 have h:=Option.some.inj h
 rw[←h]
 cases x with
 | negSucc x=>simp [lu]
 | ofNat x=>
   show AV.int k (Int.ofNat (x/2^QB k m))=_
   rw[MD]
   simp
   rw[show (2^min m k.bits:Int)=((2^min m k.bits:Nat):Int) by simp]
   exact (Int.fdiv_eq_ediv_of_nonneg _ (Int.natCast_nonneg _)).symm
end Go.Ab.Fa
end
section
namespace Go.Ab.Fa
section
variable {α:Type}
theorem qq (l:List α) (o:Nat):s4 l o=l.drop o:=by
 induction l generalizing o with
 | nil=>simp [s4]
 | cons v tl ih=>
   show bc (Nat.beq o 0) (v::tl) (s4 tl (o - 1))=_
   rw[ih]
   cases o with
   | zero=>rfl
   | succ o=>simp [show Nat.beq (o+1) 0=false from rfl,d_]
theorem qt (l:List α) (o:Nat):s5 l o=l.take o:=by
 induction l generalizing o with
 | nil=>simp [s5]
 | cons v tl ih=>
   show bc (Nat.beq o 0) [] (v::s5 tl (o - 1))=_
   rw[ih]
   cases o with
   | zero=>rfl
   | succ o=>simp [show Nat.beq (o+1) 0=false from rfl,d_]
theorem Og (vs:List α):∀(cs:List α) (k:Nat),(HQ vs cs)[k]? =if k<vs.length∧k<cs.length then vs[k]? else cs[k]? :=by
 induction vs with
 | nil=>intro cs k;rw[if_neg (by simp)];rfl
 | cons v vs ih=>
   intro cs k
   cases cs with
   | nil=>rw[if_neg (by simp)];rfl
   | cons c tl=>
     show (v::HQ vs tl)[k]? =_
     cases k with
     | zero=>rw[if_pos (by simp)];rfl
     | succ k=>simp only[List.getElem?_cons_succ,ih,List.length_cons,Nat.add_lt_add_iff_right]
theorem QX (vs:List α):∀(cs:List α) (o k:Nat),(HR vs cs o)[k]? =if o≤k∧k<o+vs.length∧k<cs.length then vs[k - o]? else cs[k]? :=by
 intro cs
 induction cs with
 | nil=>intro o k;rw[if_neg (by simp)];rfl
 | cons c tl ih=>
   intro o k
   show (bc (Nat.beq o 0) (HQ vs (c::tl)) (c::HR vs tl (o - 1)))[k]? =_
   cases o with
   | zero=>
     show (HQ vs (c::tl))[k]? =_
     rw[Og];simp
   | succ o=>
     show (c::HR vs tl o)[k]? =_
     cases k with
     | zero=>rw[if_neg (by omega)];rfl
     | succ k=>
       rw[List.getElem?_cons_succ,ih,List.getElem?_cons_succ,List.length_cons]
       by_cases h:o≤k∧k<o+vs.length∧k<tl.length
       · rw[if_pos h,if_pos (by omega),show k+1 -(o+1)=k - o by omega]
       · rw[if_neg h,if_neg (by omega)]
end
theorem FH (vs cs:List AV) (o:Nat):HR vs cs o=setFrom cs o vs:=by
 apply List.ext_getElem?;intro k;rw[QX,jO]
theorem Kw (l m:List UInt8):leq Bv l m=(l==m):=by
 have key:∀a b:UInt8,Bv a b=(a==b):=by
  intro a b
  unfold Bv
  rw[←At]
  by_cases h:a=b
  · subst h;simp
  · rw[show (a==b)=false by simp [h]]
    rw[beq_eq_false_iff_ne]
    intro e;apply h
    have:a.toNat=b.toNat:=e
    exact UInt8.toNat_inj.mp this
 induction l generalizing m with
 | nil=>cases m<;>rfl
 | cons x tl ih=>
   cases m with
   | nil=>rfl
   | cons y tm=>
     show bc (Bv x y) (leq Bv tl tm) false=_
     rw[ih,key,oL];rfl
theorem Vb (op:BinOp) (a b:List UInt8):(Oe op).f a b=vn op a b:=by
 cases op<;>first | rfl | (simp only[Oe,vn,Kw,wX])
theorem Vc (v:AV):US v=AV.scalar v:=by cases v<;>rfl
theorem H8:US=AV.scalar:=funext Vc
theorem Oh (v:AV):Fs v=true→(match (some v:Option AV) with
 | some (.ptr i o)=>some (.ptr i o)
 | some (.map i)=>some (.map i)
 | some (.slice i o l c b)=>some (.slice i o l c b)
 | some (.func f a b)=>some (.func f a b)
 | _=>none)=some v:=by
 cases v<;>intro h<;>first | rfl | exact absurd h (by intro e;cases e)
theorem H9 {f:TypeId→AV→ym} {why:String} {o:Option Oper} (a:AV):(∃t v,a= .iface t v)∨qZ f (.fail why o) a= .fail why o:=by
 cases a with
 | iface t v=>exact .inl ⟨t,v,rfl⟩
 | _=>exact .inr rfl
theorem mr (v:AV):lO v=v.cells:=by cases v<;>rfl
section
variable (E:Env) (F:RF) (n:Nat)
theorem FI {β:Type} (i:Nat) (k:(F.T→AV)→β):∃g,wT F n i k=k g∧∀r,(eU F n r).getD i AV.undef=g r:=by
 unfold wT
 cases h:Nat.ble n i
 · refine ⟨(F.get i).f,rfl,fun r=>?_⟩
   rw[HO,if_pos (kG h)]
 · refine ⟨fun _=>AV.undef,rfl,fun r=>?_⟩
   rw[HO,if_neg (by have:=fN h;omega)]
theorem bP {β:Type} (x:Operand) (k:(F.T→AV)→β) (d:β):wO E F n x k d=d∨∃g,wO E F n x k d=k g∧∀r,dZ E (eU F n r) x=some (g r):=by
 cases x with
 | tmp t=>
   obtain ⟨g,h1,h2⟩:=FI F n t k
   exact .inr ⟨g,h1,fun r=>by rw[←h2];rfl⟩
 | const v=>
   simp only[wO]
   cases h:ofConst v with
   | none=>exact .inl rfl
   | some a=>exact .inr ⟨fun _=>a,rfl,fun r=>h⟩
 | global g=>
   simp only[wO]
   cases h:Nat.ble E.G g
   · exact .inr ⟨fun _=> .ptr g 0,rfl,fun r=>by rw[dZ,if_pos (kG h)]⟩
   · exact .inl rfl
 | func f=>exact .inr ⟨fun _=> .func f [] [],rfl,fun r=>rfl⟩
theorem uf {β:Type}:∀(l:List Operand) (k:(F.T→List AV)→β) (d:β),wL E F n l k d=d∨∃g,wL E F n l k d=k g∧∀r,f' E (eU F n r) l=some (g r)
 | [],k,d=> .inr ⟨fun _=> [],rfl,fun r=>rfl⟩
 | x::xs,k,d=>by
   rw[wL]
   rcases bP E F n x (fun g=>wL E F n xs (fun gs=>k fun r=>g r::gs r) d) d with h | ⟨g,h,hg⟩
   · exact .inl h
   · rcases uf xs (fun gs=>k fun r=>g r::gs r) d with h' | ⟨gs,h',hgs⟩
     · exact .inl (h.trans h')
     · refine .inr ⟨_,h.trans h',fun r=>?_⟩
       have:=hgs r
       unfold f' at *
       rw[eB,hg r];simp only[this]
theorem ME {β:Type} (o:Option Operand) (k:Option (F.T→AV)→β) (d:β):wP E F n o k d=d∨∃g,wP E F n o k d=k g∧∀r,mY E (eU F n r) o=some (Df g r):=by
 cases o with
 | none=>exact .inr ⟨none,rfl,fun r=>rfl⟩
 | some x=>
   rcases bP E F n x (fun g=>k (some g)) d with h | ⟨g,h,hg⟩
   · exact .inl h
   · exact .inr ⟨some g,h,fun r=>by rw[mY,hg r];rfl⟩
theorem BG {β:Type}:∀(l:List (Nat×Operand)) (k:(F.T→List (Nat×AV))→β) (d:β),UZ E F n l k d=d∨∃g,UZ E F n l k d=k g∧∀r,kA E (eU F n r) l=some (g r)
 | [],k,d=> .inr ⟨fun _=> [],rfl,fun r=>rfl⟩
 | (i,x)::xs,k,d=>by
   rw[UZ]
   rcases bP E F n x (fun g=>UZ E F n xs (fun gs=>k fun r=>(i,g r)::gs r) d) d with h | ⟨g,h,hg⟩
   · exact .inl h
   · rcases BG xs (fun gs=>k fun r=>(i,g r)::gs r) d with h' | ⟨gs,h',hgs⟩
     · exact .inl (h.trans h')
     · refine .inr ⟨_,h.trans h',fun r=>?_⟩
       rw[kA,hg r];simp only[hgs r]
theorem MF {β:Type} (hn:n≤F.N) (o:Option Tmp) (k:(AV→F.T→F.T)→β):∃s,wS F n o k=k s∧∀v r,dR (eU F n r) o v=eU F n (s v r):=by
 cases o with
 | none=>exact ⟨fun _ r=>r,rfl,fun v r=>rfl⟩
 | some i=>
   show ∃s,bc (Nat.ble n i) (k fun _ r=>r) (wU (F.set i) k)=k s∧_
   cases h:Nat.ble n i
   · exact ⟨(F.set i).f,rfl,fun v r=>UO F n hn r (kG h) v⟩
   · refine ⟨fun _ r=>r,rfl,fun v r=>?_⟩
     show (eU F n r).set i v=_
     rw[List.set_eq_of_length_le (by rw[iP];exact fN h)]
theorem oQ (t:TypeId):wm E t=bQ E t:=by
 unfold wm bQ;rw[s7];cases E.P.info? t<;>rfl
theorem QY (t:TypeId):YO E t=gD E t:=by
 unfold YO gD;rw[s7];split
 · rfl
 · cases E.P.info? t<;>rfl
theorem yO (t:TypeId):JJ E t=fl E t:=by
 unfold JJ fl;rw[s7]
 cases E.P.info? t with
 | none=>rfl
 | some i=>show ob none (fun z=>ofConst z) i.zero=_;cases h:i.zero<;>simp [ob,h]
theorem YQ (t:TypeId):agF E t=eN E t:=by
 unfold agF eN;rw[iQ];rfl
theorem QZ (t:TypeId) (f:Nat):fiF E t f=mZ E t f:=by
 unfold fiF mZ;rw[iQ]
 generalize E.P.underlying t=u
 cases u with
 | none=>rfl
 | some d=>cases d with
   | struct fs=>show jd fs.toList f=fs[f]?;rw[g5];exact Array.getElem?_toList
   | _=>rfl
def ta (op:Op):Prop:=(∀ts,bp E ts op=none)∧(∀ts h,dM E ts h op=none)∧∀ts,ek E ts op=none
def kH (f g:a_):Prop:=∀F as_ h,(∀v h',f F as_ h= .ret v h'→g F as_ h= .ret v h')∧∀v h',f F as_ h= .panic v h'→g F as_ h= .panic v h'
def Xo (a b:ym):Prop:=match a with
 | .fail _ _=>True
 | a=>b=a
def gu (op:Op):Kd F.T→Prop
 | .G8 g=>∀r,bp E (eU F n r) op=some (g r)
 | .gV f=>∀r v,f r=some v→bp E (eU F n r) op=some v
 | .red f=>∀r h v,f r h=some v→bp E (eU F n r) op=some v∨(bp E (eU F n r) op=none∧dM E (eU F n r) h op=some v)
 | .sH f=>(∀ts,bp E ts op=none)∧(∀ts h,dM E ts h op=none)∧∀r p,f r=some p→ek E (eU F n r) op=some p
 | .wr f=>ta E op∧∀call r h rc o p,o.op=op→f r h=some p→dr E call (eU F n r) h rc o= .val p.1 p.2
 | .call g args=>ta E op∧∀call r h rc o,o.op=op→dr E call (eU F n r) h rc o=m5 (call g (args r) h)
 | .uz f=>ta E op∧∀fc call,kH fc call→∀r h rc o,o.op=op→Xo (f fc r h rc) (dr E call (eU F n r) h rc o)
 | .bad=>True
end
end Go.Ab.Fa
end
section
namespace Go.Ab.Fa
variable {E:Env} {F:RF} {n:Nat}
theorem Vd {op:BinOp} (h1:op≠ .shl) (h2:op≠ .shr) {t:TypeId} {xc yc:Bool} {a b v:AV} (h:UY (QI op).f (Oe op).f (me E op t xc yc) a b=some v):me E op t xc yc a b=some v:=by
 unfold UY at h
 cases a with
 | int k x=>
   obtain ⟨j,y,rfl,h3⟩:=jS (show oJ (fun j y=>bc (Qy k j) ((QI op).f k x y) none) none b=some v from h)
   obtain ⟨hk,h4⟩:=fM h3
   have hk:=MA hk
   rw[U_] at h4
   have:=U9 op k x y h4
   rw[←hk]
   cases op<;>first | exact absurd rfl h1 | exact absurd rfl h2 | simpa [me] using this
 | str s=>
   obtain ⟨s',rfl,h3⟩:=oM (show qY (fun t=>(Oe op).f s t) none b=some v from h)
   rw[Vb] at h3
   cases op<;>first | exact absurd rfl h1 | exact absurd rfl h2 | simpa [me] using h3
 | _=>exact h
theorem Ve (op:BinOp) (t:TypeId) (x y:Operand) (yt:TypeId) (gx gy:F.T→AV) (hx:∀r,dZ E (eU F n r) x=some (gx r)) (hy:∀r,dZ E (eU F n r) y=some (gy r)):
 gu E F n (.binOp op t x y yt) (fZ op (me E op t (isConst x) (isConst y)) gx gy):=by
 have red:∀r,bp E (eU F n r) (.binOp op t x y yt)=me E op t (isConst x) (isConst y) (gx r) (gy r):=by
  intro r;simp only[bp,hx,hy]
 by_cases h1:op= .shl
 · subst h1
   intro r v h
   rw[red]
   obtain ⟨k,m,e1,h⟩:=jS h
   obtain ⟨k',m',e2,h⟩:=jS h
   obtain ⟨h3,rfl⟩:=U' h
   rw[e1,e2];simp [me,h3]
 by_cases h2:op= .shr
 · subst h2
   intro r v h
   rw[red]
   obtain ⟨k,m,e1,h⟩:=jS h
   obtain ⟨k',m',e2,h⟩:=jS h
   obtain ⟨h3,rfl⟩:=Va h
   rw[e1,e2];simp [me,h3]
 have:fZ op (me E op t (isConst x) (isConst y)) gx gy= .gV fun r=>UY (QI op).f (Oe op).f (me E op t (isConst x) (isConst y)) (gx r) (gy r):=by
  cases op<;>first | exact absurd rfl h1 | exact absurd rfl h2 | rfl
 rw[this]
 intro r v h
 rw[red]
 exact Vd h1 h2 h
theorem YR (op:UnOp) (t:TypeId) (x:Operand) (g:F.T→AV) (hg:∀r,dZ E (eU F n r) x=some (g r)):gu E F n (.unOp op t x) (unK op g):=by
 have red:∀r,bp E (eU F n r) (.unOp op t x)=unA op (g r):=by intro r;simp only[bp,hg]
 cases op with
 | not=>
   intro r v h
   rw[red]
   obtain ⟨b,e,h⟩:=D6 h
   rw[e,←h,wX];rfl
 | _=>intro r v h;rw[red];exact h
theorem Q0 {t:TypeId} {m:Nat} (h1:eN E t=some true) (h2:bQ E t=some m) {cs:List AV} {o:Nat} {v:AV} (h:QK m cs o=some v):jy E t cs o=some v:=by
 unfold QK at h
 obtain ⟨h3,h⟩:=fM h
 have h3:=fN h3
 rw[fY] at h3
 unfold jy
 rw[h1,h2]
 simp only
 rw[if_pos (show o+m≤cs.length from h3),←h,qt,qq]
theorem Q1 {t:TypeId} (h1:eN E t=some false) {cs:List AV} {o:Nat} {v:AV} (h:QJ cs o=some v):jy E t cs o=some v:=by
 unfold QJ at h
 rw[g5] at h
 unfold jy
 rw[h1];exact h
theorem BH {T:Type} (t:TypeId) (k:(List AV→Nat→Option AV)→Kd T):wV E t k= .bad∨∃p,wV E t k=k p∧∀cs o v,p cs o=some v→jy E t cs o=some v:=by
 unfold wV
 rw[YQ]
 cases h:eN E t with
 | none=>exact .inl rfl
 | some b=>cases b with
   | false=>exact .inr ⟨_,rfl,fun cs o v=>Q1 h⟩
   | true=>
     simp only
     rw[oQ]
     cases h2:bQ E t with
     | none=>exact .inl rfl
     | some m=>exact .inr ⟨_,rfl,fun cs o v=>Q0 h h2⟩
theorem Q2 {t:TypeId} {p:List AV→Nat→Option AV} (hp:∀cs o v,p cs o=some v→jy E t cs o=some v) {h:ak} {a v:AV} (e:H0 p h a=some v):bm E h t a=some v:=by
 obtain ⟨i,o,rfl,e⟩:=s_ e
 obtain ⟨obj,e1,e⟩:=gR e
 obtain ⟨cs,el,ro,rfl,e⟩:=rh e
 simp only[bm,e1]
 exact hp _ _ _ e
theorem Vf (t:TypeId) (a:Operand):gu E F n (.load t a) (wO E F n a (fun g=>wV E t fun p=> .red fun r h=>H0 p h (g r)) .bad):=by
 rcases bP E F n a (fun g=>wV E t fun p=>(.red fun r h=>H0 p h (g r):Kd F.T)) .bad with h | ⟨g,h,hg⟩<;>rw[h]
 · trivial
 · rcases BH (E:=E) t (fun p=>(.red fun r h=>H0 p h (g r):Kd F.T)) with h | ⟨p,h,hp⟩<;>rw[h]
   · trivial
   · intro r h v e
     refine .inr ⟨rfl,?_⟩
     simp only[dM,hg]
     exact Q2 hp e
theorem Q3 (s:TypeId) (x:Operand) (f:Nat):gu E F n (.field s x f) (match fiF E s f with
 | some fd=>wO E F n x (fun g=>wV E fd.type fun p=> .gV fun r=>yG (fun cs=>p cs fd.offset) (fun _=>none) none (g r)) .bad
 | none=> .bad):=by
 rw[QZ]
 cases h0:mZ E s f with
 | none=>trivial
 | some fd=>
   simp only
   rcases bP E F n x (fun g=>wV E fd.type fun p=>(.gV fun r=>yG (fun cs=>p cs fd.offset) (fun _=>none) none (g r):Kd F.T)) .bad with h | ⟨g,h,hg⟩<;>rw[h]
   · trivial
   · rcases BH (E:=E) fd.type (fun p=>(.gV fun r=>yG (fun cs=>p cs fd.offset) (fun _=>none) none (g r):Kd F.T)) with h | ⟨p,h,hp⟩<;>rw[h]
     · trivial
     · intro r v e
       change yG (fun cs=>p cs fd.offset) (fun _=>none) none (g r)=some v at e
       simp only[bp,h0,hg]
       cases hv:g r with
       | agg cs=>rw[hv] at e;exact hp _ _ _ e
       | _=>rw[hv] at e;exact absurd e (by intro e;cases e)
theorem FJ (s:TypeId) (x:Operand) (f:Nat):gu E F n (.fieldAddr s x f) (match fiF E s f with
 | some fd=>match wm E fd.type with
   | some (_+1)=>wO E F n x (fun g=> .gV fun r=>yF (fun i o=>some (.ptr i (Nat.add o fd.offset))) none (g r)) .bad
   | _=> .bad
 | none=> .bad):=by
 rw[QZ]
 cases h0:mZ E s f with
 | none=>trivial
 | some fd=>
   simp only
   rw[oQ]
   cases h1:bQ E fd.type with
   | none=>trivial
   | some m=>cases m with
     | zero=>trivial
     | succ m=>
       simp only
       rcases bP E F n x (fun g=>(.gV fun r=>yF (fun i o=>some (.ptr i (Nat.add o fd.offset))) none (g r):Kd F.T)) .bad with h | ⟨g,h,hg⟩<;>rw[h]
       · trivial
       · intro r v e
         obtain ⟨i,o,e1,e⟩:=s_ e
         simp only[bp,h0,hg,e1,h1]
         rw[if_neg (by omega)];exact e
theorem H_ (x:Operand):gu E F n (.nilCheck x) (wO E F n x (fun g=> .gV fun r=>bc (Fs (g r)) (some (g r)) none) .bad):=by
 rcases bP E F n x (fun g=>(.gV fun r=>bc (Fs (g r)) (some (g r)) none:Kd F.T)) .bad with h | ⟨g,h,hg⟩<;>rw[h]
 · trivial
 · intro r v e
   obtain ⟨h1,e⟩:=fM e
   simp only[bp,hg]
   rw[←e]
   exact Oh _ h1
theorem Kx (x:Operand) (i:Nat):gu E F n (.extract x i) (wO E F n x (fun g=> .gV fun r=>yG (fun _=>none) (fun vs=>jd vs i) none (g r)) .bad):=by
 rcases bP E F n x (fun g=>(.gV fun r=>yG (fun _=>none) (fun vs=>jd vs i) none (g r):Kd F.T)) .bad with h | ⟨g,h,hg⟩<;>rw[h]
 · trivial
 · intro r v e
   change yG (fun _=>none) (fun vs=>jd vs i) none (g r)=some v at e
   simp only[bp,hg]
   cases hv:g r with
   | tuple cs=>rw[hv] at e;show cs[i]? =some v;rw[←g5];exact e
   | _=>rw[hv] at e;exact absurd e (by intro e;cases e)
theorem Vg (c a b:Operand):gu E F n (.pick c a b) (wO E F n c (fun gc=>wO E F n a (fun ga=>wO E F n b (fun gb=> .gV fun r=>jQ (fun t=>bc t (some (ga r)) (some (gb r))) none (gc r)) .bad) .bad) .bad):=by
 rcases bP E F n c (fun gc=>wO E F n a (fun ga=>wO E F n b (fun gb=>(.gV fun r=>jQ (fun t=>bc t (some (ga r)) (some (gb r))) none (gc r):Kd F.T)) .bad) .bad) .bad with h | ⟨gc,h,hc⟩<;>rw[h]
 · trivial
 rcases bP E F n a (fun ga=>wO E F n b (fun gb=>(.gV fun r=>jQ (fun t=>bc t (some (ga r)) (some (gb r))) none (gc r):Kd F.T)) .bad) .bad with h | ⟨ga,h,ha⟩<;>rw[h]
 · trivial
 rcases bP E F n b (fun gb=>(.gV fun r=>jQ (fun t=>bc t (some (ga r)) (some (gb r))) none (gc r):Kd F.T)) .bad with h | ⟨gb,h,hb⟩<;>rw[h]
 · trivial
 intro r v e
 obtain ⟨t,e1,e⟩:=D6 e
 simp only[bp,hc,e1]
 cases t
 · simp only[hb];exact e
 · simp only[ha];exact e
theorem MG {len size i o:Nat} {ix v:AV} (e:FC len size i o ix=some v):∃k m,ix= .int k m∧0≤m∧m<len∧v= .ptr i (o+m.toNat*size):=by
 obtain ⟨k,m,rfl,e⟩:=jS e
 obtain ⟨m',rfl,e⟩:=oO e
 obtain ⟨h1,e⟩:=rf e
 have h1:=kG h1
 exact ⟨k,m',rfl,by omega,by omega,(Option.some.inj e).symm⟩
theorem FK (t:TypeId) (x ix:Operand):gu E F n (.indexAddr t x ix) (wO E F n x (fun gx=>wO E F n ix (fun gi=>match kf E.P t with
 | some (.array len elem)=>match wm E elem with
   | some size=> .gV fun r=>yF (fun i o=>FC len size i o (gi r)) none (gx r)
   | none=> .bad
 | some (.slice elem)=>match wm E elem with
   | some size=> .gV fun r=>jR none (fun i o len _ _=>FC len size i o (gi r)) none (gx r)
   | none=> .bad
 | _=> .bad) .bad) .bad):=by
 rw[iQ]
 rcases bP E F n x (fun gx=>wO E F n ix (fun gi=>match E.P.underlying t with
  | some (.array len elem)=>match wm E elem with
    | some size=>(.gV fun r=>yF (fun i o=>FC len size i o (gi r)) none (gx r):Kd F.T)
    | none=> .bad
  | some (.slice elem)=>match wm E elem with
    | some size=> .gV fun r=>jR none (fun i o len _ _=>FC len size i o (gi r)) none (gx r)
    | none=> .bad
  | _=> .bad) .bad) .bad with h | ⟨gx,h,hx⟩<;>rw[h]
 · trivial
 rcases bP E F n ix (fun gi=>match E.P.underlying t with
  | some (.array len elem)=>match wm E elem with
    | some size=>(.gV fun r=>yF (fun i o=>FC len size i o (gi r)) none (gx r):Kd F.T)
    | none=> .bad
  | some (.slice elem)=>match wm E elem with
    | some size=> .gV fun r=>jR none (fun i o len _ _=>FC len size i o (gi r)) none (gx r)
    | none=> .bad
  | _=> .bad) .bad with h | ⟨gi,h,hi⟩<;>rw[h]
 · trivial
 cases hu:E.P.underlying t with
 | none=>trivial
 | some d=>cases d with
   | array len elem=>
     simp only
     rw[oQ]
     cases hs:bQ E elem with
     | none=>trivial
     | some size=>
       intro r v e
       obtain ⟨i,o,e1,e⟩:=s_ e
       obtain ⟨k,m,e2,h1,h2,rfl⟩:=MG e
       simp only[bp,hu,hx,hi,e1,e2,hs]
       rw[if_pos ⟨h1,h2⟩]
   | slice elem=>
     simp only
     rw[oQ]
     cases hs:bQ E elem with
     | none=>trivial
     | some size=>
       intro r v e
       rcases oN e with ⟨_,e⟩ | ⟨i,o,l,c,b,e1,e⟩
       · cases e
       obtain ⟨k,m,e2,h1,h2,rfl⟩:=MG e
       simp only[bp,hu,hx,hi,e1,e2,hs]
       rw[if_pos ⟨h1,h2⟩]
   | _=>trivial
theorem Q4 (t:TypeId) (x ix:Operand):gu E F n (.index t x ix) (wO E F n x (fun gx=>wO E F n ix (fun gi=>match kf E.P t with
 | some .string=> .gV fun r=>qY (fun s=>oJ (fun _ i=>lu (fun m=>ob none (fun (b:UInt8)=>some (.int .u8 (Int.ofNat b.toNat))) (jd s m)) none i) none (gi r)) none (gx r)
 | _=> .gV fun r=>bp E (eU F n r) (.index t x ix)) .bad) .bad):=by
 rw[iQ]
 rcases bP E F n x (fun gx=>wO E F n ix (fun gi=>match E.P.underlying t with
  | some .string=>(.gV fun r=>qY (fun s=>oJ (fun _ i=>lu (fun m=>ob none (fun (b:UInt8)=>some (.int .u8 (Int.ofNat b.toNat))) (jd s m)) none i) none (gi r)) none (gx r):Kd F.T)
  | _=> .gV fun r=>bp E (eU F n r) (.index t x ix)) .bad) .bad with h | ⟨gx,h,hx⟩<;>rw[h]
 · trivial
 rcases bP E F n ix (fun gi=>match E.P.underlying t with
  | some .string=>(.gV fun r=>qY (fun s=>oJ (fun _ i=>lu (fun m=>ob none (fun (b:UInt8)=>some (.int .u8 (Int.ofNat b.toNat))) (jd s m)) none i) none (gi r)) none (gx r):Kd F.T)
  | _=> .gV fun r=>bp E (eU F n r) (.index t x ix)) .bad with h | ⟨gi,h,hi⟩<;>rw[h]
 · trivial
 cases hu:E.P.underlying t with
 | none=>intro r v e;exact e
 | some d=>cases d with
   | string=>
     intro r v e
     obtain ⟨s,e1,e⟩:=oM e
     obtain ⟨k,m,e2,e⟩:=jS e
     obtain ⟨m',rfl,e⟩:=oO e
     obtain ⟨b,e3,e⟩:=gR e
     rw[g5] at e3
     simp only[bp,hu,hx,hi,e1,e2]
     rw[if_pos (by omega)]
     rw[show ((m':Int).toNat)=m' from rfl,e3]
     exact e
   | _=>intro r v e;exact e
theorem py {d y:Nat} {o:Option AV} {k:Nat→Option AV} {v:AV} (e:FD d y o k=some v):∃m,(match o with | some v=>ov v y | none=>some d)=some m∧k m=some v:=by
 cases o with
 | none=>exact ⟨d,rfl,e⟩
 | some a=>
   obtain ⟨kk,i,rfl,e⟩:=jS (show oJ (fun _ i=>lu (fun m=>bc (Nat.ble m y) (k m) none) none i) none a=some v from e)
   obtain ⟨m,rfl,e⟩:=oO e
   obtain ⟨h1,e⟩:=fM e
   have h1:=fN h1
   refine ⟨m,?_,e⟩
   simp only[ov]
   rw[if_pos (by omega)];rfl
theorem ug {len cap h l:Nat} {lo hi:Option AV} (h1:(match hi with | some v=>ov v cap | none=>some len)=some h)
 (h2:(match lo with | some v=>ov v h | none=>some 0)=some l):lh len cap lo hi none=some (l,h,cap):=by
 cases hi with
 | none=>cases lo with
   | none=>cases h1;cases h2;rfl
   | some b=>cases h1;simp only[lh,Option.isSome_none];simp at h2;simp [h2]
 | some a=>cases lo with
   | none=>cases h2;simp only[lh];simp at h1;simp [h1]
   | some b=>simp only[lh];simp at h1 h2;simp [h1,h2]
theorem YS {t elem:TypeId} {size:Nat} (hu:E.P.underlying t=some (.slice elem)) (hs:bQ E elem=some size) {lo hi:Option AV} {x v:AV} (e:slF size lo hi x=some v):fm E t x lo hi none=some v:=by
 rcases oN e with ⟨rfl,e1⟩ | ⟨i,o,len,cap,op,rfl,e1⟩
 · obtain ⟨h,h1,e2⟩:=py e1
   obtain ⟨l,h2,e3⟩:=py e2
   simp only[fm,hu,ug h1 h2,hs]
   exact e3
 · obtain ⟨h0,e2⟩:=fM e1
   have h0:=fN h0
   obtain ⟨h,h1,e3⟩:=py e2
   obtain ⟨l,h2,e4⟩:=py e3
   simp only[fm,hu,ug h1 h2,hs]
   rw[if_pos h0]
   cases h3:Nat.beq cap l
   · rw[h3,d_] at e4
     have:¬cap=l:=by intro ee;rw[ee,Nat.beq_refl] at h3;cases h3
     rw[if_neg this]
     simpa using e4
   · rw[h3,jC] at e4
     rw[if_pos (mq h3)]
     cases op
     · rw[d_] at e4;simpa using e4
     · rw[jC] at e4;simpa using e4
theorem YT {t:TypeId} (hu:E.P.underlying t=some .string) {lo hi:Option AV} {x v:AV} (e:slS lo hi x=some v):fm E t x lo hi none=some v:=by
 obtain ⟨s,rfl,e1⟩:=oM e
 obtain ⟨h,h1,e2⟩:=py e1
 obtain ⟨l,h2,e3⟩:=py e2
 rw[fY] at h1
 simp only[fm,hu,ug h1 h2]
 rw[←e3,qt,qq];rfl
theorem YU {t elem:TypeId} {m size:Nat} (hu:E.P.underlying t=some (.array m elem)) (hs:bQ E elem=some size) {lo hi:Option AV} {x v:AV} (e:slA m size lo hi x=some v):fm E t x lo hi none=some v:=by
 obtain ⟨i,o,rfl,e1⟩:=s_ e
 obtain ⟨h,h1,e2⟩:=py e1
 obtain ⟨l,h2,e3⟩:=py e2
 simp only[fm,hu,ug h1 h2,hs]
 rw[←Option.some.inj e3]
 cases h3:Nat.beq m l
 · have:¬m=l:=by intro ee;rw[ee,Nat.beq_refl] at h3;cases h3
   rw[if_neg this];rfl
 · rw[if_pos (mq h3)];rfl
theorem Q5 (t:TypeId) (x:Operand) (lo hi:Option Operand):gu E F n (.slice t x lo hi none) (wO E F n x (fun gx=>wP E F n lo (fun gl=>wP E F n hi (fun gh=>match kf E.P t with
 | some (.slice elem)=>match wm E elem with
   | some size=> .gV fun r=>slF size (Df gl r) (Df gh r) (gx r)
   | none=> .bad
 | some .string=> .gV fun r=>slS (Df gl r) (Df gh r) (gx r)
 | some (.array m elem)=>match wm E elem with
   | some size=> .gV fun r=>slA m size (Df gl r) (Df gh r) (gx r)
   | none=> .bad
 | _=> .gV fun r=>bp E (eU F n r) (.slice t x lo hi none)) .bad) .bad) .bad):=by
 rw[iQ]
 let K:(F.T→AV)→Option (F.T→AV)→Option (F.T→AV)→Kd F.T:=fun gx gl gh=>match E.P.underlying t with
  | some (.slice elem)=>match wm E elem with
    | some size=> .gV fun r=>slF size (Df gl r) (Df gh r) (gx r)
    | none=> .bad
  | some .string=> .gV fun r=>slS (Df gl r) (Df gh r) (gx r)
  | some (.array m elem)=>match wm E elem with
    | some size=> .gV fun r=>slA m size (Df gl r) (Df gh r) (gx r)
    | none=> .bad
  | _=> .gV fun r=>bp E (eU F n r) (.slice t x lo hi none)
 show gu E F n _ (wO E F n x (fun gx=>wP E F n lo (fun gl=>wP E F n hi (fun gh=>K gx gl gh) .bad) .bad) .bad)
 rcases bP E F n x (fun gx=>wP E F n lo (fun gl=>wP E F n hi (fun gh=>K gx gl gh) .bad) .bad) .bad with h | ⟨gx,h,hx⟩<;>rw[h]
 · trivial
 rcases ME E F n lo (fun gl=>wP E F n hi (fun gh=>K gx gl gh) .bad) .bad with h | ⟨gl,h,hl⟩<;>rw[h]
 · trivial
 rcases ME E F n hi (fun gh=>K gx gl gh) .bad with h | ⟨gh,h,hh⟩<;>rw[h]
 · trivial
 have red:∀r,bp E (eU F n r) (.slice t x lo hi none)=fm E t (gx r) (Df gl r) (Df gh r) none:=by
  intro r;simp only[bp,hx,hl,hh];rfl
 simp only[K]
 cases hu:E.P.underlying t with
 | none=>intro r v e;exact e
 | some d=>cases d with
   | string=>intro r v e;rw[red];exact YT hu e
   | array m elem=>
     simp only
     rw[oQ]
     cases hs:bQ E elem with
     | none=>trivial
     | some size=>intro r v e;rw[red];exact YU hu hs e
   | slice elem=>
     simp only
     rw[oQ]
     cases hs:bQ E elem with
     | none=>trivial
     | some size=>intro r v e;rw[red];exact YS hu hs e
   | _=>intro r v e;exact e
end Go.Ab.Fa
end
section
namespace Go.Ab.Fa
variable {E:Env} {F:RF} {n:Nat}
theorem Oi {t:TypeId} {m:Nat} (hs:bQ E t=some m) {h:ak} {a v:AV} {p:AV×ak} (e:BA m h a v=some p):p.1=AV.undef∧eX E h t a v=some p.2:=by
 obtain ⟨i,o,rfl,e1⟩:=s_ e
 obtain ⟨obj,h1,e2⟩:=gR e1
 obtain ⟨cs,el,ro,rfl,e3⟩:=rh e2
 obtain ⟨h2,e4⟩:=rf e3
 obtain ⟨h3,e5⟩:=fM e4
 obtain ⟨h4,e6⟩:=fM e5
 obtain ⟨h5,e7⟩:=fM e6
 have h3:=mq h3
 have h4:=fN h4
 rw[fY,mr] at h3
 rw[fY] at h4
 rw[ra,H8,mr] at h5
 have e8:=Option.some.inj e7
 subst h2
 refine ⟨by rw[←e8],?_⟩
 simp only[eX,h1,hs]
 rw[if_pos ⟨h3,h4,h5⟩,←e8,FH,mr]
theorem H' {t:TypeId} {a x:Operand}:ta E (.store t a x):=⟨fun _=>rfl,fun _ _=>rfl,fun _=>rfl⟩
theorem Q6 (t:TypeId) (a x:Operand):gu E F n (.store t a x) (match wm E t with
 | some m=>wO E F n a (fun ga=>wO E F n x (fun gx=> .wr fun r h=>BA m h (ga r) (gx r)) .bad) .bad
 | none=> .bad):=by
 rw[oQ]
 cases hs:bQ E t with
 | none=>trivial
 | some m=>
   simp only
   rcases bP E F n a (fun ga=>wO E F n x (fun gx=>(.wr fun r h=>BA m h (ga r) (gx r):Kd F.T)) .bad) .bad with h | ⟨ga,h,ha⟩<;>rw[h]
   · trivial
   rcases bP E F n x (fun gx=>(.wr fun r h=>BA m h (ga r) (gx r):Kd F.T)) .bad with h | ⟨gx,h,hx⟩<;>rw[h]
   · trivial
   refine ⟨H',fun call r h rc o p ho e=>?_⟩
   obtain ⟨h1,h2⟩:=Oi hs e
   simp only[dr,ho,ha,hx,h2,h1]
theorem yP (t:TypeId) (x:Operand):gu E F n (.makeInterface t x) (match kf E.P t with
 | some (.interface _)=> .bad
 | some _=>wO E F n x (fun g=> .G8 fun r=> .iface t (g r)) .bad
 | none=> .bad):=by
 rw[iQ]
 cases hu:E.P.underlying t with
 | none=>trivial
 | some d=>
   cases d with
   | interface ms=>trivial
   | _=>
     simp only
     rcases bP E F n x (fun g=>(.G8 fun r=> .iface t (g r):Kd F.T)) .bad with h | ⟨g,h,hg⟩<;>rw[h]
     · trivial
     · intro r;simp only[bp,hu,hg]
theorem Ia (f:FuncId) (a b:Array Operand):gu E F n (.makeFunc (.func f) a b) (wL E F n a.toList (fun ga=>wL E F n b.toList (fun gb=> .G8 fun r=> .func f (ga r) (gb r)) .bad) .bad):=by
 rcases uf E F n a.toList (fun ga=>wL E F n b.toList (fun gb=>(.G8 fun r=> .func f (ga r) (gb r):Kd F.T)) .bad) .bad with h | ⟨ga,h,ha⟩<;>rw[h]
 · trivial
 rcases uf E F n b.toList (fun gb=>(.G8 fun r=> .func f (ga r) (gb r):Kd F.T)) .bad with h | ⟨gb,h,hb⟩<;>rw[h]
 · trivial
 intro r;simp only[bp,ha,hb]
theorem Q7 (t:TypeId):gu E F n (.alloc t) (match JJ E t with
 | some z=> .sH fun _=>some (.cells z.cells t false,fun i=> .ptr i 0)
 | none=> .bad):=by
 rw[yO]
 cases hz:fl E t with
 | none=>trivial
 | some z=>exact ⟨fun _=>rfl,fun _ _=>rfl,fun r p e=>by simp only[ek,hz];exact e⟩
theorem YV (t:TypeId) (x:Operand):gu E F n (.box t x) (wO E F n x (fun g=> .sH fun r=>some (.cells (lO (g r)) t false,fun i=> .ptr i 0)) .bad):=by
 rcases bP E F n x (fun g=>(.sH fun r=>some (.cells (lO (g r)) t false,fun i=> .ptr i 0):Kd F.T)) .bad with h | ⟨g,h,hg⟩<;>rw[h]
 · trivial
 · exact ⟨fun _=>rfl,fun _ _=>rfl,fun r p e=>by simp only[ek,hg];rw[←mr];exact e⟩
theorem Dg (t:TypeId) (len:Nat) (parts:Array (Nat×Operand)):gu E F n (.buildSlice t len parts) (match kf E.P t with
 | some (.slice elem)=>match wm E elem,JJ E elem with
   | some m,some z=>if z.cells.length=m∧len*m≤2^24 then UZ E F n parts.toList (fun gp=> .sH fun r=>ob none (fun cs=>some (.cells cs elem false,fun i=> .slice i 0 len len false)) (rS (fun i=>some (i*m,m)) (da z.cells len) (gp r))) .bad else .bad
   | _,_=> .bad
 | _=> .bad):=by
 rw[iQ]
 cases hu:E.P.underlying t with
 | none=>trivial
 | some d=>cases d with
   | slice elem=>
     simp only
     rw[oQ,yO]
     cases hs:bQ E elem with
     | none=>trivial
     | some m=>cases hz:fl E elem with
       | none=>trivial
       | some z=>
         simp only
         by_cases hc:z.cells.length=m∧len*m≤2^24
         · rw[if_pos hc]
           rcases BG E F n parts.toList (fun gp=>(.sH fun r=>ob none (fun cs=>some (.cells cs elem false,fun i=> .slice i 0 len len false)) (rS (fun i=>some (i*m,m)) (da z.cells len) (gp r)):Kd F.T)) .bad with h | ⟨g,h,hg⟩<;>rw[h]
           · trivial
           · refine ⟨fun _=>rfl,fun _ _=>rfl,fun r p e=>?_⟩
             obtain ⟨cs,h1,e⟩:=gR e
             simp only[ek,hu,hs,hz,hg]
             rw[if_pos hc];simp only[h1];exact e
         · rw[if_neg hc];trivial
   | _=>trivial
theorem Vh (z:List AV) (m:Nat):YP z m=da z m:=by
 induction m with
 | zero=>rfl
 | succ m ih=>show lF z (YP z m)=_;rw[nX,ih];rfl
theorem FL (t:TypeId) (l c:Operand):gu E F n (.makeSlice t l c) (wO E F n l (fun gl=>wO E F n c (fun gc=>match kf E.P t with
 | some (.slice elem)=>match wm E elem,YO E elem,JJ E elem with
   | some m,some bytes,some z=>if z.cells.length=m then .sH fun r=>U0 elem bytes z.cells (gl r) (gc r) else .bad
   | _,_,_=> .bad
 | _=> .bad) .bad) .bad):=by
 rw[iQ]
 rcases bP E F n l (fun gl=>wO E F n c (fun gc=>match E.P.underlying t with
  | some (.slice elem)=>match wm E elem,YO E elem,JJ E elem with
    | some m,some bytes,some z=>if z.cells.length=m then (.sH fun r=>U0 elem bytes z.cells (gl r) (gc r):Kd F.T) else .bad
    | _,_,_=> .bad
  | _=> .bad) .bad) .bad with h | ⟨gl,h,hl⟩<;>rw[h]
 · trivial
 rcases bP E F n c (fun gc=>match E.P.underlying t with
  | some (.slice elem)=>match wm E elem,YO E elem,JJ E elem with
    | some m,some bytes,some z=>if z.cells.length=m then (.sH fun r=>U0 elem bytes z.cells (gl r) (gc r):Kd F.T) else .bad
    | _,_,_=> .bad
  | _=> .bad) .bad with h | ⟨gc,h,hc⟩<;>rw[h]
 · trivial
 cases hu:E.P.underlying t with
 | none=>trivial
 | some d=>cases d with
   | slice elem=>
     simp only
     rw[oQ,QY,yO]
     cases hs:bQ E elem with
     | none=>trivial
     | some m=>cases hb:gD E elem with
       | none=>trivial
       | some bytes=>cases hz:fl E elem with
         | none=>trivial
         | some z=>
           simp only
           by_cases hm:z.cells.length=m
           · rw[if_pos hm]
             refine ⟨fun _=>rfl,fun _ _=>rfl,fun r p e=>?_⟩
             obtain ⟨k1,a,e1,q1⟩:=jS e
             obtain ⟨k2,b,e2,q2⟩:=jS q1
             obtain ⟨a',rfl,q3⟩:=oO q2
             obtain ⟨b',rfl,q4⟩:=oO q3
             obtain ⟨c1,q5⟩:=fM q4
             obtain ⟨c2,q6⟩:=rf q5
             obtain ⟨c3,q7⟩:=fM q6
             have c1:=fN c1
             have c2:=kG c2
             have c3:bytes*b'≤140737488355328:=fN c3
             simp only[ek,hu,hs,hb,hz,hl,hc,e1,e2]
             rw[if_pos ⟨by omega,by omega,by omega,by have:(bytes:Int)*(b':Int)=((bytes*b':Nat):Int):=by simp
                                                      rw[this];omega,hm⟩]
             rw[←q7,Vh];rfl
           · rw[if_neg hm];trivial
   | _=>trivial
theorem Ib (k:List UInt8):∀(l:List gO) (i:Nat) {x:Option AV},findF k l=some x→∃y,qh (.str k) l i=some y∧y.map (·.2)=x
 | [],i,x,h=>⟨none,rfl,by cases h;rfl⟩
 | e::es,i,x,h=>by
   obtain ⟨s,h1,h2⟩:=oM (show qY (fun s=>bc (leq Bv k s) (some (some e.val)) (findF k es)) none e.key=some x from h)
   rw[Kw] at h2
   rw[qh,h1]
   show ∃y,(match (some (k==s):Option Bool) with | some true=>some (some (i,e.val)) | some false=>qh (.str k) es (i+1) | none=>none)=some y∧_
   cases hb:k==s with
   | true=>
     rw[hb,jC] at h2
     exact ⟨some (i,e.val),rfl,Option.some.inj h2⟩
   | false=>
     rw[hb,d_] at h2
     exact Ib k es (i+1) h2
noncomputable def abn (h:ak) (m:AV):Option (List gO):=match m with
 | .dQ=>some []
 | .map i=>(match h.get i with | some (.map es _)=>some es | _=>none)
 | _=>none
theorem Q8 {z:AV} {ok:Bool} {h:ak} {m k v:AV} (e:Mq z ok h m k=some v):
 (∃s,k= .str s)∧∃es,(match m with | .dQ=>some [] | .map i=>(match h.get i with | some (.map es _)=>some es | _=>none) | _=>none)=some es∧
  ∃y,qh k es 0=some y∧v=(match y with | some (_,w)=>(if ok then .tuple [w,.bool true] else w) | none=>if ok then .tuple [z,.bool false] else z):=by
 obtain ⟨s,rfl,e1⟩:=oM e
 obtain ⟨es,h1,e2⟩:=gR e1
 obtain ⟨x,h2,e3⟩:=gR e2
 refine ⟨⟨s,rfl⟩,es,?_,?_⟩
 · cases m with
   | dQ=>exact h1
   | map i=>
     obtain ⟨o,h3,h4⟩:=gR (show ob none (fun o=>U1 (fun es=>some es) none o) (h.get i)=some es from h1)
     simp only[h3]
     cases o with
     | map gK c=>exact h4
     | _=>cases h4
   | _=>cases h1
 · obtain ⟨y,h3,h4⟩:=Ib s es 0 h2
   refine ⟨y,h3,?_⟩
   have e4:=Option.some.inj e3
   rw[←e4,←h4]
   cases y with
   | none=>cases ok<;>rfl
   | some y=>obtain ⟨_,w⟩:=y;cases ok<;>rfl
theorem Oj (t:TypeId) (x ix:Operand) (ok:Bool):gu E F n (.lookup t x ix ok) (wO E F n x (fun gx=>wO E F n ix (fun gi=>match kf E.P t with
 | some (.map key elem)=>match kf E.P key,JJ E elem with
   | some .string,some z=> .red fun r h=>Mq z ok h (gx r) (gi r)
   | _,_=> .red fun r h=>dM E (eU F n r) h (.lookup t x ix ok)
 | _=> .bad) .bad) .bad):=by
 let K:(F.T→AV)→(F.T→AV)→Kd F.T:=fun gx gi=>match kf E.P t with
  | some (.map key elem)=>match kf E.P key,JJ E elem with
    | some .string,some z=> .red fun r h=>Mq z ok h (gx r) (gi r)
    | _,_=> .red fun r h=>dM E (eU F n r) h (.lookup t x ix ok)
  | _=> .bad
 show gu E F n _ (wO E F n x (fun gx=>wO E F n ix (fun gi=>K gx gi) .bad) .bad)
 rcases bP E F n x (fun gx=>wO E F n ix (fun gi=>K gx gi) .bad) .bad with h | ⟨gx,h,hx⟩<;>rw[h]
 · trivial
 rcases bP E F n ix (fun gi=>K gx gi) .bad with h | ⟨gi,h,hi⟩<;>rw[h]
 · trivial
 simp only[K,iQ,yO]
 have yM:gu E F n (.lookup t x ix ok) (.red fun r h=>dM E (eU F n r) h (.lookup t x ix ok)):=fun r h v e=> .inr ⟨rfl,e⟩
 cases hu:E.P.underlying t with
 | none=>trivial
 | some d=>cases d with
   | map key elem=>
     simp only
     cases hk:E.P.underlying key with
     | none=>exact yM
     | some kd=>cases kd with
       | string=>cases hz:fl E elem with
         | none=>exact yM
         | some z=>
           intro r h v e
           refine .inr ⟨rfl,?_⟩
           obtain ⟨⟨s,hs⟩,es,h1,y,h2,rfl⟩:=Q8 e
           simp only[dM,hu,hx,hi,hk]
           rw[hs] at h2 ⊢
           rw[if_pos (show ij (some TypeDesc.string) (AV.str s)=true from rfl)]
           have h1':abn h (gx r)=some es:=h1
           change (match abn h (gx r) with
            | none=>none
            | some es=>match qh (AV.str s) es 0 with
              | none=>none
              | some (some (_,v))=>some (if ok then AV.tuple [v,.bool true] else v)
              | some none=>match fl E elem with
                | some z=>some (if ok then AV.tuple [z,.bool false] else z)
                | none=>none)=_
           rw[h1']
           simp only[h2,hz]
           cases y with
           | none=>rfl
           | some y=>obtain ⟨_,w⟩:=y;rfl
       | _=>exact yM
   | _=>trivial
theorem BI:∀(fs:List Field),AU E fs=placesOf E fs
 | []=>rfl
 | f::fs=>by
   show ob none (fun n=>ob none (fun l=>some ((f.offset,n)::l)) (AU E fs)) (wm E f.type)=_
   rw[BI fs,oQ]
   simp only[placesOf,eB]
   cases bQ E f.type with
   | none=>rfl
   | some n=>
     show ob none (fun l=>some ((f.offset,n)::l)) (eB _ fs)=_
     cases eB (fun f=>match bQ E f.type with | some n=>some (f.offset,n) | none=>none) fs<;>rfl
theorem Ic (ps:List (Nat×Nat)):∀(l:List (Nat×AV)) (cs:List AV) {v:List AV},H2 ps cs l=some v→rS (ps[·]?) cs l=some v
 | [],cs,v,h=>h
 | (i,x)::l,cs,v,h=>by
   obtain ⟨q,h1,h2⟩:=gR (show ob none (fun (q:Nat×Nat)=>bc (Nat.beq (jc (lO x)) q.2) (bc (Nat.ble (q.1+q.2) (jc cs)) (H2 ps (HR (lO x) cs q.1) l) none) none) (jd ps i)=some v from h)
   obtain ⟨h3,h4⟩:=fM h2
   obtain ⟨h5,h6⟩:=fM h4
   have h3:=mq h3
   have h5:=fN h5
   rw[fY,mr] at h3
   rw[fY] at h5
   rw[g5] at h1
   rw[rS]
   obtain ⟨off,size⟩:=q
   simp only[h1]
   rw[if_pos ⟨h3,h5⟩,←FH,←mr]
   exact Ic ps l _ h6
theorem Q9 (t:TypeId) (parts:Array (Nat×Operand)):gu E F n (.build t parts) (match JJ E t,kf E.P t with
 | some z,some (.struct fs)=>match AU E fs.toList with
   | some ps=>UZ E F n parts.toList (fun gp=> .gV fun r=>ob none (fun cs=>some (.agg cs)) (H2 ps (lO z) (gp r))) .bad
   | none=> .bad
 | _,_=> .gV fun r=>bp E (eU F n r) (.build t parts)):=by
 have yM:gu E F n (.build t parts) (.gV fun r=>bp E (eU F n r) (.build t parts)):=fun r v e=>e
 rw[iQ,yO]
 cases hz:fl E t with
 | none=>exact yM
 | some z=>cases hu:E.P.underlying t with
   | none=>exact yM
   | some d=>cases d with
     | struct fs=>
       simp only
       rw[BI]
       cases hp:placesOf E fs.toList with
       | none=>trivial
       | some ps=>
         simp only
         rcases BG E F n parts.toList (fun gp=>(.gV fun r=>ob none (fun cs=>some (.agg cs)) (H2 ps (lO z) (gp r)):Kd F.T)) .bad with h | ⟨g,h,hg⟩<;>rw[h]
         · trivial
         · intro r v e
           obtain ⟨cs,h1,e2⟩:=gR e
           have h1:=Ic ps _ _ h1
           rw[mr] at h1
           simp only[bp,hg,A4,hz,hu,hp,h1]
           exact e2
     | _=>exact yM
theorem FM (t:TypeId) (m k x:Operand):gu E F n (.mapUpdate t m k x) (wO E F n m (fun gm=>wO E F n k (fun gk=>wO E F n x (fun gx=> .wr fun r h=>ob none (fun h'=>some (AV.undef,h')) (dA E h t (gm r) (gk r) (gx r))) .bad) .bad) .bad):=by
 rcases bP E F n m (fun gm=>wO E F n k (fun gk=>wO E F n x (fun gx=>(.wr fun r h=>ob none (fun h'=>some (AV.undef,h')) (dA E h t (gm r) (gk r) (gx r)):Kd F.T)) .bad) .bad) .bad with h | ⟨gm,h,hm⟩<;>rw[h]
 · trivial
 rcases bP E F n k (fun gk=>wO E F n x (fun gx=>(.wr fun r h=>ob none (fun h'=>some (AV.undef,h')) (dA E h t (gm r) (gk r) (gx r)):Kd F.T)) .bad) .bad with h | ⟨gk,h,hk⟩<;>rw[h]
 · trivial
 rcases bP E F n x (fun gx=>(.wr fun r h=>ob none (fun h'=>some (AV.undef,h')) (dA E h t (gm r) (gk r) (gx r)):Kd F.T)) .bad with h | ⟨gx,h,hx⟩<;>rw[h]
 · trivial
 refine ⟨⟨fun _=>rfl,fun _ _=>rfl,fun _=>rfl⟩,fun call r h rc o p ho e=>?_⟩
 obtain ⟨h',h1,e2⟩:=gR e
 have e3:=Option.some.inj e2
 simp only[dr,ho,hm,hk,hx,h1,←e3]
theorem Ok (t:TypeId) (m k x:Operand):gu E F n (.insert t m k x) (wO E F n m (fun gm=>wO E F n k (fun gk=>wO E F n x (fun gx=> .wr fun r h=>ob none (fun h'=>some (AV.undef,h')) (dA E h t (gm r) (gk r) (gx r))) .bad) .bad) .bad):=by
 rcases bP E F n m (fun gm=>wO E F n k (fun gk=>wO E F n x (fun gx=>(.wr fun r h=>ob none (fun h'=>some (AV.undef,h')) (dA E h t (gm r) (gk r) (gx r)):Kd F.T)) .bad) .bad) .bad with h | ⟨gm,h,hm⟩<;>rw[h]
 · trivial
 rcases bP E F n k (fun gk=>wO E F n x (fun gx=>(.wr fun r h=>ob none (fun h'=>some (AV.undef,h')) (dA E h t (gm r) (gk r) (gx r)):Kd F.T)) .bad) .bad with h | ⟨gk,h,hk⟩<;>rw[h]
 · trivial
 rcases bP E F n x (fun gx=>(.wr fun r h=>ob none (fun h'=>some (AV.undef,h')) (dA E h t (gm r) (gk r) (gx r)):Kd F.T)) .bad with h | ⟨gx,h,hx⟩<;>rw[h]
 · trivial
 refine ⟨⟨fun _=>rfl,fun _ _=>rfl,fun _=>rfl⟩,fun call r h rc o p ho e=>?_⟩
 obtain ⟨h',h1,e2⟩:=gR e
 have e3:=Option.some.inj e2
 simp only[dr,ho,hm,hk,hx,h1,←e3]
theorem Vi (it:Operand) (s:Bool):gu E F n (.next it s) (wO E F n it (fun g=> .wr fun r h=>DH h (g r) s) .bad):=by
 rcases bP E F n it (fun g=>(.wr fun r h=>DH h (g r) s:Kd F.T)) .bad with h | ⟨g,h,hg⟩<;>rw[h]
 · trivial
 refine ⟨⟨fun _=>rfl,fun _ _=>rfl,fun _=>rfl⟩,fun call r h rc o p ho e=>?_⟩
 simp only[dr,ho,hg,e]
theorem Q_ (x:Operand):gu E F n (.panic x) (wO E F n x (fun g=> .uz fun _ r h _=>qZ (fun t w=> .panic (.iface t w) h) (.fail "" none) (g r)) .bad):=by
 rcases bP E F n x (fun g=>(.uz fun _ r h _=>qZ (fun t w=> .panic (.iface t w) h) (.fail "" none) (g r):Kd F.T)) .bad with h | ⟨g,h,hg⟩<;>rw[h]
 · trivial
 refine ⟨⟨fun _=>rfl,fun _ _=>rfl,fun _=>rfl⟩,fun fc call _ r h rc o ho=>?_⟩
 rcases H9 (f:=fun t w=>ym.panic (.iface t w) h) (why:= "") (o:=none) (g r) with ⟨t,w,e⟩ | e
 · simp only[dr,ho,hg,e];rfl
 · show Xo (qZ _ _ _) _
   rw[e];trivial
theorem Q' (c:Call):gu E F n (.defer c) (.uz fun _ r _ rc=>match rc,callee E (eU F n r) c with
 | .G4 _,_=> .fail "" none
 | _,some (.fn f,args)=> .defer (.call f args)
 | _,_=> .fail "" none):=by
 refine ⟨⟨fun _=>rfl,fun _ _=>rfl,fun _=>rfl⟩,fun fc call _ r h rc o ho=>?_⟩
 simp only[dr,ho]
 cases rc with
 | G4 l=>trivial
 | _=>cases hc:callee E (eU F n r) c with
   | none=>trivial
   | some p=>obtain ⟨f,args⟩:=p;cases f<;>first | trivial | rfl
theorem Ky (src dst:TypeId) (x:Operand):gu E F n (.convert src dst x) (wO E F n x (Mr E src dst) .bad):=by
 rcases bP E F n x (Mr E src dst) (.bad:Kd F.T) with h | ⟨g,h,hg⟩<;>rw[h]
 · trivial
 unfold Mr
 simp only[iQ]
 cases hs:E.P.underlying src with
 | none=>trivial
 | some ds=>cases hd:E.P.underlying dst with
   | none=>cases ds<;>trivial
   | some dd=>
     cases ds<;>cases dd<;>try trivial
     case int.int k k'=>
      intro r v e
      obtain ⟨j,m,e1,e2⟩:=jS e
      simp only[bp,hs,hd,hg,e1]
      rw[←oP];exact e2
     case string.string=>
      intro r v e
      obtain ⟨s,e1,e2⟩:=oM e
      simp only[bp,hs,hd,hg,e1];exact e2
     case string.slice e=>
      refine ⟨⟨fun _=>by simp only[bp,hs,hd],fun _ _=>by simp only[dM,hs,hd],fun _=>rfl⟩,fun call r h rc o p ho e=>?_⟩
      simp only[dr,ho,hg,e]
     case slice.string el=>
      simp only
      cases he:E.P.underlying el with
      | none=>trivial
      | some de=>
        cases de<;>try trivial
        rename_i k
        cases k<;>try trivial
        intro r h v e
        rcases oN e with ⟨e1,e2⟩ | ⟨i,o,l,c,b,e1,e2⟩
        · refine .inr ⟨by simp only[bp,hs,hd,hg,e1],?_⟩
          simp only[dM,hs,hd,hg,he]
          simp only[e1];exact e2
        · refine .inr ⟨by simp only[bp,hs,hd,hg,e1],?_⟩
          simp only[dM,hs,hd,hg,he]
          simp only[e1]
          obtain ⟨l',h1,e3⟩:=gR e2
          simp only[h1];exact e3
end Go.Ab.Fa
end
