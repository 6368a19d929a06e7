import Derived.Test.YtemlmndojncekaaGreatA4
import Derived.Test.YtemlmndojncekaaGreatA0
set_option linter.unusedVariables false
set_option linter.unusedSimpArgs false
section
namespace Go.Ab.Fa
structure W (α:Type) where
 f:α
section
variable {α β T:Type}
noncomputable def wW (w:W α) (k:α→β):β:=W.rec (motive:=fun _=>β) k w
noncomputable def wA (a:Acc T) (k:(T→AV)→β):β:=Acc.rec (motive:=fun _=>β) k a
noncomputable def wU (a:Upd T) (k:(AV→T→T)→β):β:=Upd.rec (motive:=fun _=>β) k a
end
structure Y where
 ds:List tG
 rc:RC
inductive FO (T:Type) where
 | NK (r:T) (h:aC) (y:Y)
 | jmp (e:my) (r:T) (h:aC) (y:Y)
 | bad
structure I (T:Type) where
 run:bu→T→aC→Y→FO T
structure C (T:Type) where
 run:Nat→bu→T→aC→Y→FO T
inductive Kd (T:Type) where
 | MT (f:T→AV)
 | iV (f:T→Option AV)
 | red (f:T→aC→Option AV)
 | vW (f:T→Option (aM×(Nat→AV)))
 | wr (f:T→aC→Option (AV×aC))
 | call (g:Fn) (args:T→List AV)
 | yx (f:bu→T→aC→RC→Cs)
 | bad
section
variable (E:Env) (F:RF) (n:Nat)
noncomputable def wT {β:Type} (i:Nat) (k:(F.T→AV)→β):β:=bc (Nat.ble n i) (k fun _=>AV.undef) (wA (F.get i) k)
noncomputable def wO {β:Type} (x:Operand) (k:(F.T→AV)→β) (d:β):β:=match x with
 | .tmp t=>wT F n t k
 | .const v=>match ofConst v with
   | some a=>k fun _=>a
   | none=>d
 | .global g=>bc (Nat.ble E.G g) d (k fun _=> .ptr g 0)
 | .func f=>k fun _=> .func f [] []
noncomputable def wL {β:Type} (l:List Operand) (k:(F.T→List AV)→β) (d:β):β:=match l with
 | []=>k fun _=> []
 | x::xs=>wO E F n x (fun g=>wL xs (fun gs=>k fun r=>g r::gs r) d) d
noncomputable def wP {β:Type} (o:Option Operand) (k:Option (F.T→AV)→β) (d:β):β:=match o with
 | none=>k none
 | some x=>wO E F n x (fun g=>k (some g)) d
noncomputable def wS {β:Type} (o:Option Tmp) (k:(AV→F.T→F.T)→β):β:=match o with
 | none=>k fun _ r=>r
 | some i=>bc (Nat.ble n i) (k fun _ r=>r) (wU (F.set i) k)
noncomputable def AJ (t:TypeId):Option Nat:=ob none (fun i=>some i.size) (DM E.P t)
noncomputable def byF (t:TypeId):Option Nat:=ob none (fun i=>some i.bytes) (DM E.P t)
noncomputable def P4 (t:TypeId):Option AV:=ob none (fun i=>ob none (fun z=>ofConst z) i.zero) (DM E.P t)
noncomputable def agF (t:TypeId):Option Bool:=match lG E.P t with
 | some (.struct _)=>some true
 | some (.array _ _)=>some true
 | some _=>some false
 | none=>none
noncomputable def fiF (t:TypeId) (f:Nat):Option Field:=match lG E.P t with
 | some (.struct fs)=>ky fs.toList f
 | _=>none
variable {T:Type}
noncomputable def X4 (op:BinOp):W (IntKind→Int→Int→Option AV):=match op with
 | .add=>⟨fun k a b=>some (.int k (yT k (qG a b)))⟩
 | .sub=>⟨fun k a b=>some (.int k (yT k (CO a b)))⟩
 | .mul=>⟨fun k a b=>some (.int k (yT k (ab7 a b)))⟩
 | .eql=>⟨fun _ a b=>some (.bool (ieq a b))⟩
 | .neq=>⟨fun _ a b=>some (.bool (zH (ieq a b)))⟩
 | .lss=>⟨fun _ a b=>some (.bool (ilt a b))⟩
 | .leq=>⟨fun _ a b=>some (.bool (zH (ilt b a)))⟩
 | .gtr=>⟨fun _ a b=>some (.bool (ilt b a))⟩
 | .geq=>⟨fun _ a b=>some (.bool (zH (ilt a b)))⟩
 | op=>⟨ab8 op⟩
noncomputable def Vb (op:BinOp):W (List UInt8→List UInt8→Option AV):=match op with
 | .eql=>⟨fun a b=>some (.bool (leq F4 a b))⟩
 | .neq=>⟨fun a b=>some (.bool (zH (leq F4 a b)))⟩
 | op=>⟨zr op⟩
noncomputable def acf (f:IntKind→Int→Int→Option AV) (g:List UInt8→List UInt8→Option AV) (CU:AV→AV→Option AV) (a b:AV):Option AV:=
 sI (fun k x=>sI (fun j y=>bc (XV k j) (f k x y) none) none b) (tX (fun s=>tX (fun t=>g s t) none b) (CU a b) a) a
noncomputable def gQ (op:BinOp) (CU:AV→AV→Option AV) (ga gb:T→AV):Kd T:=match op with
 | .shl=> .iV fun r=>sI (fun k x=>sI (fun _ y=>ai3 k x y) none (gb r)) none (ga r)
 | .shr=> .iV fun r=>sI (fun k x=>sI (fun _ y=>ai4 k x y) none (gb r)) none (ga r)
 | op=>wW (X4 op) fun f=>wW (Vb op) fun g=> .iV fun r=>acf f g CU (ga r) (gb r)
noncomputable def unK (op:UnOp) (ga:T→AV):Kd T:=match op with
 | .not=> .iV fun r=>lP (fun b=>some (.bool (zH b))) none (ga r)
 | op=> .iV fun r=>unA op (ga r)
noncomputable def X5 (cs:List AV) (o:Nat):Option AV:=ky cs o
noncomputable def X6 (n:Nat) (cs:List AV) (o:Nat):Option AV:=bc (Nat.ble (Nat.add o n) (ku cs)) (some (.agg (wq (wm cs o) n))) none
noncomputable def A9 (t:TypeId) (k:(List AV→Nat→Option AV)→Kd T):Kd T:=match agF E t with
 | some true=>match AJ E t with
   | some n=>k (X6 n)
   | none=> .bad
 | some false=>k X5
 | none=> .bad
noncomputable def NL (p:List AV→Nat→Option AV) (h:aC) (a:AV):Option AV:=
 CK (fun i o=>ob none (fun obj=>CM (fun cs _ _=>p cs o) none obj) (h.get i)) none a
noncomputable def F9 (n:Nat) (h:aC) (a v:AV):Option (AV×aC):=
 CK (fun i o=>ob none (fun obj=>CM (fun cs e ro=>bc ro none
  (bc (Nat.beq (ku (nf v)) n) (bc (Nat.ble (Nat.add o n) (ku cs)) (bc (CP ab9 (nf v)) (some (AV.undef,h.put i (some (.cells (NC (nf v) cs o) e false)))) none) none) none)) none obj) (h.get i)) none a
noncomputable def KZ (len size:Nat) (i o:Nat) (ix:AV):Option AV:=
 sI (fun _ n=>nY (fun m=>bc (Nat.ble len m) none (some (.ptr i (Nat.add o (Nat.mul m size))))) none n) none ix
noncomputable def K0 (d y:Nat) (o:Option AV) (k:Nat→Option AV):Option AV:=
 ob (k d) (fun v=>sI (fun _ i=>nY (fun m=>bc (Nat.ble m y) (k m) none) none i) none v) o
noncomputable def slF (size:Nat) (lo hi:Option AV) (v:AV):Option AV:=
 kX (K0 0 0 hi fun h=>K0 0 h lo fun _=>some .aG)
  (fun i o len cap op=>bc (Nat.ble len cap) (K0 len cap hi fun h=>K0 0 h lo fun l=>
   bc (Nat.beq cap l) (bc op (some .fD) (some (.slice i o (Nat.sub h l) (Nat.sub cap l) false))) (some (.slice i (Nat.add o (Nat.mul l size)) (Nat.sub h l) (Nat.sub cap l) op))) none) none v
noncomputable def slS (lo hi:Option AV) (v:AV):Option AV:=
 tX (fun s=>K0 (ku s) (ku s) hi fun h=>K0 0 h lo fun l=>some (.str (wq (wm s l) (Nat.sub h l)))) none v
noncomputable def slA (m size:Nat) (lo hi:Option AV) (v:AV):Option AV:=
 CK (fun i o=>K0 m m hi fun h=>K0 0 h lo fun l=>some (.slice i (bc (Nat.beq m l) o (Nat.add o (Nat.mul l size))) (Nat.sub h l) (Nat.sub m l) false)) none v
noncomputable def Is (o:Option (T→AV)) (r:T):Option AV:=ob none (fun g=>some (g r)) o
noncomputable def ai5 (v:AV):Option Nat:=kX (some 0) (fun _ _ n _ _=>some n) (tX (fun s=>some (ku s)) (yw v) v) v
noncomputable def X7 (h:aC) (size n:Nat) (v:AV):Option (List AV):=
 kX (bc (Nat.beq n 0) (some []) none) (fun i o len _ _=>bc (Nat.ble n len) (ob none (fun obj=>CM (fun cs _ _=>bc (Nat.ble (Nat.add o (Nat.mul n size)) (ku cs)) (some (wq (wm cs o) (Nat.mul n size))) none) none obj) (h.get i)) none)
  (ic h size n v) v
noncomputable def ai6 (elem:TypeId) (size bytes:Nat) (h:aC) (s x:AV):Option (AV×aC):=
 ob none (fun n=>ob none (fun new=>bc (CP ab9 new) (bc (Nat.beq (ku new) (Nat.mul n size))
  (kX
   (bc (Nat.beq n 0) (some (.aG,h)) (bc (Nat.ble (Nat.mul (Nat.add (Nat.mul 4 n) 4096) (Nat.add bytes 1)) 1099511627776)
    (ob none (fun h'=>some (.slice h.nx 0 n n true,h')) (h.new (.cells new elem false))) none))
   (fun i o len cap op=>ob none (fun obj=>CM (fun cs e ro=>bc ro none
    (bc (Nat.ble (Nat.add len n) cap)
     (bc (Nat.ble (Nat.add o (Nat.mul (Nat.add len n) size)) (ku cs)) (some (.slice i o (Nat.add len n) cap op,h.put i (some (.cells (NC new cs (Nat.add o (Nat.mul len size))) e false)))) none)
     (bc (Nat.ble (Nat.mul (Nat.add (Nat.mul 4 (Nat.add len n)) 4096) (Nat.add bytes 1)) 1099511627776)
      (bc (Nat.ble (Nat.add o (Nat.mul len size)) (ku cs))
       (bc op
        (bc (Nat.beq e elem) (bc (Nat.beq (Nat.add o (Nat.mul cap size)) (ku cs))
         (ob none (fun h'=>some (.slice h.nx 0 (Nat.add len n) (Nat.add len n) true,h')) ((h.put i none).new (.cells (mY (wq (wm cs o) (Nat.mul len size)) new) elem false))) none) none)
        (ob none (fun h'=>some (.slice h.nx 0 (Nat.add len n) (Nat.add len n) true,h')) (h.new (.cells (mY (wq (wm cs o) (Nat.mul len size)) new) elem false)))) none) none)))
    none obj) (h.get i))
   none s) none) none) (X7 h size n x)) (ai5 x)
noncomputable def X8 (argTypes:Array TypeId) (gs gx:T→AV):Kd T:=match ky argTypes.toList 0,ky argTypes.toList 1 with
 | some sT,some xT=>match lG E.P sT,lG E.P xT with
   | some (.slice elem),some xd=>if qu xd then .wr fun r h=>vT E h elem (gs r) (gx r) else match AJ E elem,byF E elem,P4 E elem with
     | some size,some bytes,some z=>if z.cells.length=size then .wr fun r h=>ai6 elem size bytes h (gs r) (gx r) else .bad
     | _,_,_=> .bad
   | _,_=> .bad
 | _,_=> .bad
noncomputable def wPs {β:Type} (l:List (Nat×Operand)) (k:(F.T→List (Nat×AV))→β) (d:β):β:=match l with
 | []=>k fun _=> []
 | (i,x)::xs=>wO E F n x (fun g=>wPs xs (fun gs=>k fun r=>(i,g r)::gs r) d) d
noncomputable def E3 (fs:List Field):Option (List (Nat×Nat)):=List.rec (motive:=fun _=>Option (List (Nat×Nat))) (some []) (fun f _ ih=>ob none (fun n=>ob none (fun l=>some ((f.offset,n)::l)) ih) (AJ E f.type)) fs
noncomputable def NM (ps:List (Nat×Nat)) (cs:List AV) (l:List (Nat×AV)):Option (List AV):=
 List.rec (motive:=fun _=>List AV→Option (List AV)) (fun cs=>some cs) (fun p _ ih cs=>ob none (fun (q:Nat×Nat)=>bc (Nat.beq (ku (nf p.2)) q.2) (bc (Nat.ble (Nat.add q.1 q.2) (ku cs)) (ih (NC (nf p.2) cs q.1)) none) none) (ky ps p.1)) l cs
noncomputable def af0 (z:List AV) (m:Nat):List AV:=Nat.rec (motive:=fun _=>List AV) [] (fun _ ih=>mY z ih) m
noncomputable def acg (elem:TypeId) (bytes:Nat) (z:List AV) (l c:AV):Option (aM×(Nat→AV)):=
 sI (fun _ len=>sI (fun _ cap=>nY (fun len=>nY (fun cap=>bc (Nat.ble len cap) (bc (Nat.ble 1073741824 cap) none (bc (Nat.ble (Nat.mul bytes cap) 140737488355328)
  (some (.cells (af0 z cap) elem false,fun i=> .slice i 0 len cap false)) none)) none) none cap) none len) none c) none l
noncomputable def findF (k:List UInt8) (l:List mE):Option (Option AV):=List.rec (motive:=fun _=>Option (Option AV)) (some none) (fun e _ ih=>tX (fun s=>bc (leq F4 k s) (some (some e.val)) ih) none e.key) l
noncomputable def ach {R:Type} (f:List mE→R) (d:R) (o:aM):R:=
 aM.rec (motive:=fun _=>R) (fun _ _ _=>d) (fun es _=>f es) (fun _ _=>d) (fun _ _ _ _=>d) (fun _ _ _ _ _ _ _=>d) d o
noncomputable def ai7 {R:Type} (e:R) (f:Nat→R) (d:R) (v:AV):R:=
 AV.rec (motive_1:=fun _=>R) (motive_2:=fun _=>Unit) (fun _=>d) (fun _ _=>d) (fun _=>d) d (fun _ _=>d) d (fun _ _ _ _ _=>d) e (fun i=>f i) (fun _ _ _ _ _=>d) (fun _=>d) d (fun _ _ _=>d) d (fun _ _=>d) (fun _ _=>d) d d () (fun _ _ _ _=>()) v
noncomputable def S8 (h:aC) (m:AV):Option AV:=
 ai7 (some (.int .i64 (Int.ofNat 0))) (fun i=>ob none (fun o=>ach (fun es=>some (.int .i64 (Int.ofNat (ku es)))) none o) (h.get i)) none m
noncomputable def S9 (z:AV) (ok:Bool) (h:aC) (m k:AV):Option AV:=
 tX (fun s=>ob none (fun es=>ob none (fun r=>some (ob (bc ok (.tuple [z,.bool false]) z) (fun v=>bc ok (.tuple [v,.bool true]) v) r)) (findF s es))
  (ai7 (some []) (fun i=>ob none (fun o=>ach (fun es=>some es) none o) (h.get i)) none m)) none k
noncomputable def oY (o:lV):Cs:=lV.rec (motive:=fun _=>Cs) .val .panic .fail o
noncomputable def NP (t:TypeId) (name:String):Option FuncId:=AN E t name
noncomputable def aeF (c:Call) (op:Op):Kd F.T:=match c.callee with
 | .invoke x name=>wO E F n x (fun gx=>wL E F n c.args.toList (fun gs=> .yx fun call r h _=>tY
  (fun t v=>ob (.fail "" none) (fun f=>oY (call (.fn f) (v::gs r) h)) (NP E t name)) (.fail "" none) (gx r)) .bad) .bad
 | .value (.func f)=>wL E F n c.args.toList (fun gs=>match E.oF f with
   | some e=> .iV fun r=>e (gs r)
   | none=>match E.j5 f with
     | some g=> .wr fun r h=>g (gs r) h
     | none=> .call (.fn f) gs) .bad
 | .value x=>wO E F n x (fun gf=>wL E F n c.args.toList (fun gs=> .yx fun call r h _=>S5
  (fun g first captured=>ob (oY (call (.fn g) (mY first (mY (gs r) captured)) h)) (fun sp=>ob (.fail "" none) (fun p=> .val p.1 p.2) (sp (mY first (mY (gs r) captured)) h)) (E.j5 g))
  (fun l=>oY (call (.DA l) (gs r) h)) (.fail "" none) (gf r)) .bad) .bad
 | .builtin .len=>match ky c.argTypes.toList 0,c.args.toList with
   | some t,[x]=>wO E F n x (fun g=>match lG E.P t with
     | some .string=> .iV fun r=>tX (fun s=>some (.int .i64 (Int.ofNat (ku s)))) none (g r)
     | some (.array m _)=> .iV fun _=>some (.int .i64 (Int.ofNat m))
     | some (.slice _)=> .iV fun r=>kX (some (.int .i64 (Int.ofNat 0))) (fun _ _ m _ _=>some (.int .i64 (Int.ofNat m))) (vZ (some (.int .i64 (Int.ofNat 0))) none (g r)) (g r)
     | some (.map _ _)=> .red fun r h=>S8 h (g r)
     | _=> .bad) .bad
   | _,_=> .bad
 | .builtin .cap=>match ky c.argTypes.toList 0,c.args.toList with
   | some t,[x]=>wO E F n x (fun g=>match lG E.P t with
     | some (.slice _)=> .iV fun r=>kX (some (.int .i64 (Int.ofNat 0))) (fun _ _ _ c b=>bc b none (some (.int .i64 (Int.ofNat c)))) none (g r)
     | _=> .bad) .bad
   | _,_=> .bad
 | .builtin .max=> .iV fun r=>bC E (gd F n r) op
 | .builtin .min=> .iV fun r=>bC E (gd F n r) op
 | .builtin .append=>match c.args.toList with
   | [s,x]=>wO E F n s (fun gs=>wO E F n x (fun gx=>X8 E c.argTypes gs gx) .bad) .bad
   | _=> .bad
 | .builtin .copy=>match c.args.toList with
   | [s,x]=>wO E F n s (fun gs=>wO E F n x (fun gx=> .wr fun r h=>yO E h c.argTypes (gs r) (gx r)) .bad) .bad
   | _=> .bad
 | .builtin .recover=> .yx fun _ _ h rc=>match rc with
   | .ks x=> .vU x
   | .MP _=> .fail "" none
   | _=> .val .nilIface h
 | _=> .bad
noncomputable def S_ (src dst:TypeId) (g:T→AV):Kd T:=match lG E.P src,lG E.P dst with
 | some (.int _),some (.int k)=> .iV fun r=>sI (fun _ n=>some (.int k (yT k n))) none (g r)
 | some .string,some .string=> .iV fun r=>tX (fun s=>some (.str s)) none (g r)
 | some (.slice e),some .string=>match lG E.P e with
   | some (.int .u8)=> .red fun r h=>kX (some (.str [])) (fun i o len _ _=>ob none (fun l=>some (.str l)) (Kq h i o len)) none (g r)
   | _=> .bad
 | some .string,some (.slice _)=> .wr fun r h=>Jb E h src dst (some (g r))
 | _,_=> .bad
noncomputable def yU (op:Op):Kd F.T:=match op with
 | .move x=>wO E F n x .MT .bad
 | .assign x=>wO E F n x .MT .bad
 | .pick c a b=>wO E F n c (fun gc=>wO E F n a (fun ga=>wO E F n b (fun gb=> .iV fun r=>lP (fun t=>bc t (some (ga r)) (some (gb r))) none (gc r)) .bad) .bad) .bad
 | .binOp op t x y _=>wO E F n x (fun gx=>wO E F n y (fun gy=>gQ op (nX E op t (isConst x) (isConst y)) gx gy) .bad) .bad
 | .unOp op _ x=>wO E F n x (unK op) .bad
 | .fieldAddr s x f=>match fiF E s f with
   | some fd=>match AJ E fd.type with
     | some (_+1)=>wO E F n x (fun g=> .iV fun r=>CK (fun i o=>some (.ptr i (Nat.add o fd.offset))) none (g r)) .bad
     | _=> .bad
   | none=> .bad
 | .load t a=>wO E F n a (fun g=>A9 E t fun p=> .red fun r h=>NL p h (g r)) .bad
 | .store t a x=>match AJ E t with
   | some m=>wO E F n a (fun ga=>wO E F n x (fun gx=> .wr fun r h=>F9 m h (ga r) (gx r)) .bad) .bad
   | none=> .bad
 | .nilCheck x=>wO E F n x (fun g=> .iV fun r=>bc (KR (g r)) (some (g r)) none) .bad
 | .extract x i=>wO E F n x (fun g=> .iV fun r=>CL (fun _=>none) (fun vs=>ky vs i) none (g r)) .bad
 | .field s x f=>match fiF E s f with
   | some fd=>wO E F n x (fun g=>A9 E fd.type fun p=> .iV fun r=>CL (fun cs=>p cs fd.offset) (fun _=>none) none (g r)) .bad
   | none=> .bad
 | .indexAddr t x ix=>wO E F n x (fun gx=>wO E F n ix (fun gi=>match lG E.P t with
   | some (.array len elem)=>match AJ E elem with
     | some size=> .iV fun r=>CK (fun i o=>KZ len size i o (gi r)) none (gx r)
     | none=> .bad
   | some (.slice elem)=>match AJ E elem with
     | some size=> .iV fun r=>kX none (fun i o len _ _=>KZ len size i o (gi r)) none (gx r)
     | none=> .bad
   | _=> .bad) .bad) .bad
 | .index t x ix=>wO E F n x (fun gx=>wO E F n ix (fun gi=>match lG E.P t with
   | some .string=> .iV fun r=>tX (fun s=>sI (fun _ i=>nY (fun m=>ob none (fun (b:UInt8)=>some (.int .u8 (Int.ofNat b.toNat))) (ky s m)) none i) none (gi r)) none (gx r)
   | _=> .iV fun r=>bC E (gd F n r) op) .bad) .bad
 | .slice t x lo hi none=>wO E F n x (fun gx=>wP E F n lo (fun gl=>wP E F n hi (fun gh=>match lG E.P t with
   | some (.slice elem)=>match AJ E elem with
     | some size=> .iV fun r=>slF size (Is gl r) (Is gh r) (gx r)
     | none=> .bad
   | some .string=> .iV fun r=>slS (Is gl r) (Is gh r) (gx r)
   | some (.array m elem)=>match AJ E elem with
     | some size=> .iV fun r=>slA m size (Is gl r) (Is gh r) (gx r)
     | none=> .bad
   | _=> .iV fun r=>bC E (gd F n r) op) .bad) .bad) .bad
 | .convert src dst x=>wO E F n x (S_ E src dst) .bad
 | .makeInterface t x=>match lG E.P t with
   | some (.interface _)=> .bad
   | some _=>wO E F n x (fun g=> .MT fun r=> .iface t (g r)) .bad
   | none=> .bad
 | .makeFunc (.func f) first captured=>wL E F n first.toList (fun ga=>wL E F n captured.toList (fun gb=> .MT fun r=> .func f (ga r) (gb r)) .bad) .bad
 | .alloc t=>match P4 E t with
   | some z=> .vW fun _=>some (.cells z.cells t false,fun i=> .ptr i 0)
   | none=> .bad
 | .box t x=>wO E F n x (fun g=> .vW fun r=>some (.cells (nf (g r)) t false,fun i=> .ptr i 0)) .bad
 | .buildSlice t len parts=>match lG E.P t with
   | some (.slice elem)=>match AJ E elem,P4 E elem with
     | some m,some z=>if z.cells.length=m∧len*m≤2^24 then wPs E F n parts.toList (fun gp=> .vW fun r=>ob none (fun cs=>some (.cells cs elem false,fun i=> .slice i 0 len len false)) (qt (fun i=>some (i*m,m)) (bT z.cells len) (gp r))) .bad else .bad
     | _,_=> .bad
   | _=> .bad
 | .makeSlice t l c=>wO E F n l (fun gl=>wO E F n c (fun gc=>match lG E.P t with
   | some (.slice elem)=>match AJ E elem,byF E elem,P4 E elem with
     | some m,some bytes,some z=>if z.cells.length=m then .vW fun r=>acg elem bytes z.cells (gl r) (gc r) else .bad
     | _,_,_=> .bad
   | _=> .bad) .bad) .bad
 | .makeMap _ none=> .vW fun _=>some (.map [] 0,fun i=> .map i)
 | .makeMap .. | .range .. => .vW fun r=>fF E (gd F n r) op
 | .lookup t x ix ok=>wO E F n x (fun gx=>wO E F n ix (fun gi=>match lG E.P t with
   | some (.map key elem)=>match lG E.P key,P4 E elem with
     | some .string,some z=> .red fun r h=>S9 z ok h (gx r) (gi r)
     | _,_=> .red fun r h=>fp E (gd F n r) h op
   | _=> .bad) .bad) .bad
 | .build t parts=>match P4 E t,lG E.P t with
   | some z,some (.struct fs)=>match E3 E fs.toList with
     | some ps=>wPs E F n parts.toList (fun gp=> .iV fun r=>ob none (fun cs=>some (.agg cs)) (NM ps (nf z) (gp r))) .bad
     | none=> .bad
   | _,_=> .iV fun r=>bC E (gd F n r) op
 | .slice .. | .typeAssert .. => .iV fun r=>bC E (gd F n r) op
 | .mapUpdate t m k x=>wO E F n m (fun gm=>wO E F n k (fun gk=>wO E F n x (fun gx=> .wr fun r h=>ob none (fun h'=>some (AV.undef,h')) (fN E h t (gm r) (gk r) (gx r))) .bad) .bad) .bad
 | .insert t m k x=>wO E F n m (fun gm=>wO E F n k (fun gk=>wO E F n x (fun gx=> .wr fun r h=>ob none (fun h'=>some (AV.undef,h')) (fN E h t (gm r) (gk r) (gx r))) .bad) .bad) .bad
 | .next it s=>wO E F n it (fun g=> .wr fun r h=>Ja h (g r) s) .bad
 | .panic x=>wO E F n x (fun g=> .yx fun _ r h _=>tY (fun t w=> .panic (.iface t w) h) (.fail "" none) (g r)) .bad
 | .defer c=> .yx fun _ r _ rc=>match rc,callee E (gd F n r) c with
   | .MP _,_=> .fail "" none
   | _,some (.fn f,args)=> .defer (.call f args)
   | _,_=> .fail "" none
 | .call c=>aeF E F n c op
 | _=> .bad
noncomputable def QL (kd:Kd T) (s:AV→T→T) (j:I T):I T:=match kd with
 | .MT g=>⟨fun call r h y=>j.run call (s (g r) r) h y⟩
 | .iV f=>⟨fun call r h y=>ob .bad (fun v=>j.run call (s v r) h y) (f r)⟩
 | .red f=>⟨fun call r h y=>ob .bad (fun v=>j.run call (s v r) h y) (f r h)⟩
 | .vW f=>⟨fun call r h y=>ob .bad (fun p=>ob .bad (fun h'=>j.run call (s (p.2 h.nx) r) h' y) (h.new p.1)) (f r)⟩
 | .wr f=>⟨fun call r h y=>ob .bad (fun p=>j.run call (s p.1 r) p.2 y) (f r h)⟩
 | .call g args=>⟨fun call r h y=>lV.rec (motive:=fun _=>FO T) (fun v h'=>j.run call (s v r) h' y) (fun v h'=> .jmp (.panic v) r h' y) (fun _ _=> .bad) (call g (args r) h)⟩
 | .yx f=>⟨fun call r h y=>Cs.rec (motive:=fun _=>FO T) (fun v h'=>j.run call (s v r) h' y) (fun d=>j.run call (s AV.undef r) h ⟨d::y.ds,y.rc⟩) (fun v=>j.run call (s v r) h ⟨y.ds,.done⟩)
  (fun v h'=> .jmp (.panic v) r h' y) (fun _ _=> .bad) (f call r h y.rc)⟩
 | .bad=>⟨fun _ _ _ _=> .bad⟩
noncomputable def aeG (s:AV→T→T) (j:I T):I T:=⟨fun call r h y=>j.run call (s AV.undef r) h y⟩
noncomputable def X9 (g:T→AV) (want:Bool) (a b:I T):I T:=match want with
 | true=>⟨fun call r h y=>lP (fun t=>bc t (a.run call r h y) (b.run call r h y)) (b.run call r h y) (g r)⟩
 | false=>⟨fun call r h y=>lP (fun t=>bc t (b.run call r h y) (a.run call r h y)) (b.run call r h y) (g r)⟩
noncomputable def S' (ops:Array Oper) (o:Oper) (a b:I F.T):I F.T:=match o.guard with
 | none=>a
 | some (j,want)=>match ob none (fun p=>p.dst) (ky ops.toList j) with
   | some d=>bc (Nat.ble n d) b (wA (F.get d) fun g=>X9 g want a b)
   | none=>b
noncomputable def X_ (ops:Array Oper) (o:Oper) (j:I F.T):I F.T:=wS F n o.dst fun s=>S' F n ops o (QL (yU E F n o.op) s j) (aeG s j)
noncomputable def ya (ops:Array Oper) (l:List Oper):I F.T:=List.rec (motive:=fun _=>I F.T) ⟨fun _ r h y=> .NK r h y⟩ (fun o _ j=>X_ E F n ops o j) l
noncomputable def ai8 (CU:AV→AV→Bool) (x y:AV):Bool:=
 sI (fun k a=>sI (fun j b=>bc (XV k j) (ieq a b) false) false y)
  (tX (fun s=>tX (fun t=>leq F4 s t) false y)
   (CK (fun i o=>CK (fun j p=>bc (Nat.beq i j) (Nat.beq o p) false) false y)
    (lP (fun a=>lP (fun b=>bc a b (zH b)) false y) (CU x y) x) x) x) x
noncomputable def F_ (m:Nat):AV→AV→Bool:=Nat.rec (motive:=fun _=>AV→AV→Bool) (fun _ _=>false)
 (fun i ih x y=>ai8 (fun x y=>CL (fun a=>CL (fun b=>leq ih a b) (fun _=>false) false y) (fun _=>AV.same (i+1) x y) (AV.same (i+1) x y) x) x y) m
structure Vc where
 k:Nat
 m:Nat
 made:Option Nat
 f:aC→Bool
inductive DO (T:Type) where
 | ok (tr:List Vc) (hs:List aC) (r:T) (h:aC) (y:Y)
 | bad
structure D (T:Type) where
 run:bu→T→aC→Y→DO T
noncomputable def Jw (x:Vc) (d:DO T):DO T:=DO.rec (motive:=fun _=>DO T) (fun tr hs r h y=> .ok (x::tr) hs r h y) .bad d
noncomputable def ua (h0:aC) (d:DO T):DO T:=DO.rec (motive:=fun _=>DO T) (fun tr hs r h y=> .ok tr (h0::hs) r h y) .bad d
noncomputable def Ta (kd:Kd T) (s:AV→T→T) (j:D T):D T:=match kd with
 | .wr f=>⟨fun call r h y=>ob .bad (fun p=>ua h (j.run call (s p.1 r) p.2 y)) (f r h)⟩
 | .call g args=>⟨fun call r h y=>lV.rec (motive:=fun _=>DO T) (fun v h'=>ua h (j.run call (s v r) h' y)) (fun _ _=> .bad) (fun _ _=> .bad) (call g (args r) h)⟩
 | .yx f=>⟨fun call r h y=>Cs.rec (motive:=fun _=>DO T) (fun v h'=>ua h (j.run call (s v r) h' y)) (fun _=> .bad) (fun _=> .bad) (fun _ _=> .bad) (fun _ _=> .bad) (f call r h y.rc)⟩
 | _=>⟨fun _ _ _ _=> .bad⟩
noncomputable def Tb (k m:Nat) (kd:Kd T) (s:AV→T→T) (j:D T):D T:=match kd with
 | .MT g=>⟨fun call r h y=>j.run call (s (g r) r) h y⟩
 | .iV f=>⟨fun call r h y=>ob .bad (fun v=>j.run call (s v r) h y) (f r)⟩
 | .red f=>⟨fun call r h y=>ob .bad (fun v=>Jw ⟨k,m,none,fun h'=>ob false (fun v'=>F_ 20 v' v) (f r h')⟩ (j.run call (s v r) h y)) (f r h)⟩
 | .vW f=>⟨fun call r h y=>ob .bad (fun p=>ob .bad (fun h'=>Jw ⟨k,m,some h.nx,fun Tc=>ob false (fun o=>aM.same o p.1) (Tc.get h.nx)⟩ (j.run call (s (p.2 h.nx) r) h' y)) (h.new p.1)) (f r)⟩
 | _=>⟨fun _ _ _ _=> .bad⟩
noncomputable def X' (s:AV→T→T) (j:D T):D T:=⟨fun call r h y=>j.run call (s AV.undef r) h y⟩
noncomputable def QM (s:AV→T→T) (j:D T):D T:=⟨fun call r h y=>ua h (j.run call (s AV.undef r) h y)⟩
noncomputable def Ya (g:T→AV) (want:Bool) (a b:D T):D T:=match want with
 | true=>⟨fun call r h y=>lP (fun t=>bc t (a.run call r h y) (b.run call r h y)) (b.run call r h y) (g r)⟩
 | false=>⟨fun call r h y=>lP (fun t=>bc t (b.run call r h y) (a.run call r h y)) (b.run call r h y) (g r)⟩
noncomputable def DN (ops:Array Oper) (o:Oper) (a b:D F.T):D F.T:=match o.guard with
 | none=>a
 | some (j,want)=>match ob none (fun p=>p.dst) (ky ops.toList j) with
   | some d=>bc (Nat.ble n d) b (wA (F.get d) fun g=>Ya g want a b)
   | none=>b
noncomputable def kP (ops:Array Oper) (pl:n8) (l:List Nat):Nat→D F.T:=List.rec (motive:=fun _=>Nat→D F.T) (fun _=>⟨fun _ r h y=> .ok [] [h] r h y⟩)
 (fun i _ ih k=>ob ⟨fun _ _ _ _=> .bad⟩ (fun o=>wS F n o.dst fun s=>
  bc (sJ E o.op) (canon (Nat.add k 1) fun k'=>DN F n ops o (Ta (yU E F n o.op) s (ih k')) (QM s (ih k')))
   (canon (Nat.sub (Nat.add (E2 pl.bQ pl.an i) 1) k) fun m=>DN F n ops o (Tb k m (yU E F n o.op) s (ih k)) (X' s (ih k)))) (ky ops.toList i)) l
noncomputable def Td (tr:List Vc):List Nat:=List.rec (motive:=fun _=>List Nat) [] (fun x _ ih=>ob ih (fun i=>i::ih) x.made) tr
noncomputable def uc (tr:List Vc) (hs:List aC):Bool:=bc (KY (Td tr)) (CP (fun x=>CP x.f (wq (wm hs x.k) x.m)) tr) false
noncomputable def aci (ops:Array Oper) (pl:n8) (call:bu) (r:F.T) (h:aC) (y:Y):FO F.T:=match pl.order.reverse with
 | []=> .bad
 | i::front=>match (kP E F n ops pl front.reverse 0).run call r h y,ops[i]? with
   | .ok tr hs r1 h1 y1,some ⟨dst,.call c,ty,pos,after,guard⟩=>
     match gY E (.call c)&&cV ops (gd F n r1) ⟨dst,.call c,ty,pos,after,guard⟩&&(List.range ops.size).all (fun j=>j==i||eN pl.an i j),
      ea E call (gd F n r1) h1 y1.rc ⟨dst,.call c,ty,pos,after,guard⟩ with
     | true,.panic v h'=>match uc tr (hs++[h']) with
       | true=> .jmp (.panic v) r1 h' y1
       | false=> .bad
     | _,_=> .bad
   | _,_=> .bad
noncomputable def Yb (ops:Array Oper):I F.T:=X2 E ops (fun pl=>
 ⟨fun call r h y=>DO.rec (motive:=fun _=>FO F.T) (fun tr hs r' h' y'=>bc (uc tr hs) (.NK r' h' y') .bad) (aci E F n ops pl call r h y) ((kP E F n ops pl pl.order 0).run call r h y)⟩) ⟨fun _ _ _ _=> .bad⟩
def aeH (r:T) (o:Out):FO T:=match o with
 | .ok .normal s=> .NK r s.h ⟨s.ds,s.rc⟩
 | .ok e s=> .jmp e r s.h ⟨s.ds,s.rc⟩
 | .fail _ _=> .bad
noncomputable def K1 (f:Operand) (ps:Array Tmp) (as bd:Code):I F.T:=
 wO E F n f (fun _=>⟨fun call r h y=>aeH r (pz E call f ps as bd ⟨gd F n r,h,y.ds,y.rc⟩)⟩) ⟨fun _ _ _ _=> .bad⟩
noncomputable def nS {R:Type} (d:R) (k:Nat→R) (m:Nat):R:=Nat.rec (motive:=fun _=>R) d (fun i _=>k i) m
noncomputable def fo {R:Type} (a:T→aC→Y→R) (b:my→T→aC→Y→R) (d:R) (o:FO T):R:=FO.rec (motive:=fun _=>R) a b d o
noncomputable def Yc {R:Type} (f:Nat→R) (d:R) (e:my):R:=my.rec (motive:=fun _=>R) d f d (fun _=>d) e
noncomputable def Yd (b:C T) (m:Nat):bu→T→aC→Y→FO T:=
 Nat.rec (motive:=fun _=>bu→T→aC→Y→FO T) (fun _ _ _ _=> .bad) (fun i ih call r h y=>fo (fun r' h' y'=>ih call r' h' y') .jmp .bad (b.run i call r h y)) m
noncomputable def acj (i:I T):C T:=⟨fun m call r h y=>nS .bad (fun _=>i.run call r h y) m⟩
noncomputable def oZ (c:Code):C F.T:=Code.rec (motive:=fun _=>C F.T)
 ⟨fun m _ r h y=>nS .bad (fun _=> .NK r h y) m⟩
 (fun _ ops draw=>bc draw (acj (Yb E F n ops)) (acj (ya E F n ops ops.toList)))
 (fun _ _ a b=>⟨fun m call r h y=>nS .bad (fun i=>fo (fun r' h' y'=>b.run i call r' h' y') .jmp .bad (a.run i call r h y)) m⟩)
 (fun x _ _ a b=>wO E F n x (fun g=>⟨fun m call r h y=>nS .bad (fun i=>lP (fun t=>bc t (a.run i call r h y) (b.run i call r h y)) .bad (g r)) m⟩) ⟨fun _ _ _ _ _=> .bad⟩)
 (fun id _ b=>⟨fun m call r h y=>nS .bad (fun i=>fo .NK (fun e r' h' y'=>Yc (fun j=>bc (Nat.beq j id) (.NK r' h' y') (.jmp e r' h' y')) (.jmp e r' h' y') e) .bad (b.run i call r h y)) m⟩)
 (fun _ b=>⟨fun m call r h y=>Yd b m call r h y⟩)
 (fun f ps as bd _ _=>acj (K1 E F n f ps as bd))
 (fun id=>⟨fun m _ r h y=>nS .bad (fun _=> .jmp (.exit id) r h y) m⟩)
 (fun _ b=>⟨fun m call r h y=>nS .bad (fun i=>b.run i call r h y) m⟩)
 (fun _=>⟨fun m _ r h y=>nS .bad (fun _=> .NK r h y) m⟩)
 (fun _=>⟨fun _ _ _ _ _=> .bad⟩)
 ⟨fun m _ r h y=>nS .bad (fun _=> .jmp .ret r h y) m⟩
 (fun _=>⟨fun _ _ _ _ _=> .bad⟩) c
end
section
variable (E:Env)
inductive BO where
 | fin (res:aC→Option (List AV)) (h:aC) (y:Y)
 | pan (v:AV) (res:aC→Option (List AV)) (h:aC) (y:Y)
 | bad
structure CF where
 run:Nat→bu→List AV→aC→RC→BO
noncomputable def CV (F:RF) (n:Nat):List ResultVar→W (F.T→aC→Option (List AV))
 | []=>⟨fun _ _=>some []⟩
 | .tmp t::rest=>wT F n t fun g=>wW (CV F n rest) fun k=>⟨fun r h=>ob none (fun vs=>some (g r::vs)) (k r h)⟩
 | .cell a t::rest=>wT F n a fun g=>wW (CV F n rest) fun k=>⟨fun r h=>ob none (fun v=>ob none (fun vs=>some (v::vs)) (k r h)) (bh E h t (g r))⟩
noncomputable def Ye (F:RF) (n:Nat) (fn:Func) (b:Code):CF:=
 wW (CV E F n fn.results.toList) fun res=>⟨fun fuel call args h rc=>bc (Nat.ble (ku args) n)
  (fo (fun r h' y=> .fin (res r) h' y) (fun e r h' y=>my.rec (motive:=fun _=>BO) .bad (fun _=> .bad) (.fin (res r) h' y) (fun v=> .pan v (res r) h' y) e) .bad
   ((oZ E F n b).run fuel call (WY F args F.z 0) h ⟨[],rc⟩)) .bad⟩
noncomputable def DP (f:FuncId):CF:=match afW E.P f with
 | none=>⟨fun _ _ _ _ _=> .bad⟩
 | some fn=>match fn.body with
   | none=>⟨fun _ _ _ _ _=> .bad⟩
   | some b=>bc (Nat.ble fn.ntmps 64) (Ye E rf2 fn.ntmps fn b) (bc (Nat.ble fn.ntmps 512) (Ye E rf3 fn.ntmps fn b) ⟨fun _ _ _ _ _=> .bad⟩)
noncomputable def bo {R:Type} (a:(aC→Option (List AV))→aC→Y→R) (b:AV→(aC→Option (List AV))→aC→Y→R) (d:R) (o:BO):R:=BO.rec (motive:=fun _=>R) a b d o
noncomputable def Te (F:RF) (call:bu) (fuel:Nat) (c:Code) (s:St):Out:=
 fo (fun r h y=> .ok .normal ⟨gd F s.ts.length r,h,y.ds,y.rc⟩) (fun e r h y=> .ok e ⟨gd F s.ts.length r,h,y.ds,y.rc⟩) (.fail "" none) ((oZ E F s.ts.length c).run fuel call (WY F s.ts F.z 0) s.h ⟨s.ds,s.rc⟩)
noncomputable def Tf (call:bu) (fuel:Nat) (c:Code) (s:St):Out:=
 bc (Nat.ble s.ts.length 64) (Te E rf2 call fuel c s) (bc (Nat.ble s.ts.length 512) (Te E rf3 call fuel c s) (.fail "" none))
noncomputable def F' (call:bu) (fuel:Nat) (l:Nat) (args:List AV) (h:aC):lV:=match h.get l with
 | some (.loop _ _ ts ps as bd _)=>if args.length=ps.length then
  match Tf E call fuel as {ts:=(ps.zip args).foldl (fun ts x=>ts.set x.1 x.2) ts,h,ds:=[],rc:= .MP l} with
  | .ok .normal s1=>match s1.h.get l with
    | some (.loop .ready pd ts2 ps2 as2 bd2 dn2)=>
      match Tf E call fuel bd {s1 with h:=s1.h.put l (some (.loop .busy pd ts2 ps2 as2 bd2 dn2))} with
      | .ok .normal s2=>Fw l none s2
      | .ok .ret s2=>Fw l (some .ret) s2
      | .ok (.exit id) s2=>Fw l (some (.exit id)) s2
      | .ok (.panic v) s2=>if s2.ds.isEmpty then .panic v s2.h else .fail "round defers" none
      | .fail why q=> .fail why q
    | _=> .fail "round state" none
  | .ok _ _=> .fail "round assign" none
  | .fail why q=> .fail why q
   else .fail "round args" none
 | _=> .fail "round" none
noncomputable def jG (call:bu) (fuel:Nat) (g:FuncId) (as:List AV) (h:aC) (rc:RC):Option (aC×RC):=
 bo (fun res h' y=>bc y.ds.isEmpty (ob none (fun _=>some (h',y.rc)) (res h')) none) (fun _ _ _ _=>none) none ((DP E g).run fuel call as h rc)
noncomputable def QN (call:bu) (fuel:Nat) (p:Option AV) (res:aC→Option (List AV)) (h:aC) (ds:List tG):lV:=match dI (jG E call fuel) ds p h with
 | none=> .fail "unwind" none
 | some (some v,h')=> .panic v h'
 | some (none,h')=>ob (.fail "results" none) (fun vs=> .ret (jF vs) h') (res h')
noncomputable def fFn {R:Type} (a:FuncId→R) (b:Nat→R) (f:Fn):R:=Fn.rec (motive:=fun _=>R) a b f
noncomputable def NQ {α R:Type} (a b:R) (l:List α):R:=List.rec (motive:=fun _=>R) a (fun _ _ _=>b) l
noncomputable def ai9 (fuel:Nat) (call:bu) (g:Fn) (args:List AV) (h:aC):lV:=
 fFn (fun f=>bo (fun res h' y=>NQ (ob (.fail "results" none) (fun vs=> .ret (jF vs) h') (res h')) (QN E call fuel none res h' y.ds) y.ds)
  (fun v res h' y=>NQ (.panic v h') (QN E call fuel (some v) res h' y.ds) y.ds) (.fail "body" none) ((DP E f).run fuel call args h .no))
  (fun l=>F' E call fuel l args h) g
noncomputable def DQ (d fuel:Nat):bu:=Nat.rec (motive:=fun _=>bu) (fun _ _ _=> .fail "depth" none) (fun _ ih=>ai9 E fuel ih) d
end
end Go.Ab.Fa
end
section
namespace Go.Ab.Fa
theorem ack {α R:Type} {d:R} {f:α→R} {a:α}:ob d f (some a)=f a:=rfl
theorem kQ {R:Type} (x y:R):bc true x y=x:=rfl
theorem fh {R:Type} (x y:R):bc false x y=y:=rfl
theorem iS {α β:Type} {f:α→Option β} {o:Option α} {v:β} (h:ob none f o=some v):∃a,o=some a∧f a=some v:=by
 cases o with
 | none=>exact absurd h (by intro e;cases e)
 | some a=>exact ⟨a,rfl,h⟩
theorem ig {β:Type} {b:Bool} {x:Option β} {v:β} (h:bc b x none=some v):b=true∧x=some v:=by
 cases b with
 | false=>cases h
 | true=>exact ⟨rfl,h⟩
theorem ue {β:Type} {b:Bool} {x:Option β} {v:β} (h:bc b none x=some v):b=false∧x=some v:=by
 cases b with
 | false=>exact ⟨rfl,h⟩
 | true=>cases h
theorem Jx {β:Type} {f:Bool→Option β} {a:AV} {v:β} (h:lP f none a=some v):∃b,a= .bool b∧f b=some v:=by
 cases a with
 | bool b=>exact ⟨b,rfl,h⟩
 | _=>exact absurd h (by intro e;cases e)
theorem kY {β:Type} {f:IntKind→Int→Option β} {a:AV} {v:β} (h:sI f none a=some v):∃k n,a= .int k n∧f k n=some v:=by
 cases a with
 | int k n=>exact ⟨k,n,rfl,h⟩
 | _=>exact absurd h (by intro e;cases e)
theorem qJ {β:Type} {f:List UInt8→Option β} {a:AV} {v:β} (h:tX f none a=some v):∃s,a= .str s∧f s=some v:=by
 cases a with
 | str s=>exact ⟨s,rfl,h⟩
 | _=>exact absurd h (by intro e;cases e)
theorem wy {β:Type} {f:Nat→Nat→Option β} {a:AV} {v:β} (h:CK f none a=some v):∃i o,a= .ptr i o∧f i o=some v:=by
 cases a with
 | ptr i o=>exact ⟨i,o,rfl,h⟩
 | _=>exact absurd h (by intro e;cases e)
theorem qK {β:Type} {e:Option β} {f:Nat→Nat→Nat→Nat→Bool→Option β} {a:AV} {v:β} (h:kX e f none a=some v):
 (a= .aG∧e=some v)∨∃i o l c b,a= .slice i o l c b∧f i o l c b=some v:=by
 cases a with
 | aG=>exact .inl ⟨rfl,h⟩
 | slice i o l c b=>exact .inr ⟨i,o,l,c,b,rfl,h⟩
 | _=>exact absurd h (by intro e;cases e)
theorem NR {β:Type} {e z:Option β} {f:Nat→Nat→Nat→Nat→Bool→Option β} {a:AV} {v:β} (h:kX e f (vZ z none a) a=some v):
 (a= .aG∧e=some v)∨(∃i o l c b,a= .slice i o l c b∧f i o l c b=some v)∨(a= .fD∧z=some v):=by
 cases a with
 | aG=>exact .inl ⟨rfl,h⟩
 | slice i o l c b=>exact .inr (.inl ⟨i,o,l,c,b,rfl,h⟩)
 | fD=>exact .inr (.inr ⟨rfl,h⟩)
 | _=>exact absurd h (by intro e;cases e)
theorem qL {β:Type} {f:Nat→Option β} {n:Int} {v:β} (h:nY f none n=some v):∃m:Nat,n=(m:Int)∧f m=some v:=by
 cases n with
 | ofNat m=>exact ⟨m,rfl,h⟩
 | negSucc m=>cases h
theorem ug {β:Type} {f:List AV→TypeId→Bool→Option β} {o:aM} {v:β} (h:CM f none o=some v):∃cs e ro,o= .cells cs e ro∧f cs e ro=some v:=by
 cases o with
 | cells cs e ro=>exact ⟨cs,e,ro,rfl,h⟩
 | _=>exact absurd h (by intro e;cases e)
theorem hD {a b:Nat} (h:Nat.ble a b=true):a≤b:=Nat.le_of_ble_eq_true h
theorem l4 {a b:Nat} (h:Nat.ble a b=false):b<a:=by
 apply Decidable.byContradiction;intro hn
 rw[Nat.ble_eq_true_of_le (by omega)] at h;cases h
theorem pE {a b:Nat} (h:Nat.beq a b=true):a=b:=Nat.eq_of_beq_eq_true h
theorem Tg {k j:IntKind} (h:XV k j=true):k=j:=by
 cases k<;>cases j<;>first | rfl | exact absurd h (by intro e;cases e)
theorem A_ (b:Bool):zH b= !b:=by cases b<;>rfl
theorem Yf {k:IntKind} (h:ksg k=false) (n:Int):k.wrap n=n%(yz k:Int):=by
 cases k<;>first | (cases h;done) | simp [IntKind.wrap,IntKind.bits,IntKind.signed,yz,kEl]
theorem Yg {k:IntKind} (h:ksg k=true) {m:Nat} (hm:m<yz k):k.wrap (Int.negSucc m)=Int.negSucc m:=by
 have hb:(2^(k.bits - 1):Int)=(yz k:Int)∧(2^k.bits:Int)=2*(yz k:Int)∧k.signed=true:=by
  cases k<;>first | (cases h;done) | (refine ⟨rfl,rfl,rfl⟩)
 obtain ⟨h1,h2,h3⟩:=hb
 unfold IntKind.wrap
 rw[h1,h2,h3,Int.negSucc_eq]
 generalize yz k=B at *
 have e: -((m:Int)+1)%(2*(B:Int))=2*(B:Int) -(m+1):=by
  rw[←Int.add_emod_right]
  exact Int.emod_eq_of_lt (by omega) (by omega)
 rw[e]
 simp only[Bool.true_and,decide_eq_true_eq]
 rw[if_pos (by omega)]
 omega
theorem qM (k:IntKind) (n:Int):yT k n=k.wrap n:=by
 cases n with
 | ofNat m=>
   show bc (Nat.ble (yz k) m) (bc (ksg k) (k.wrap (Int.ofNat m)) (Int.ofNat (Nat.mod m (yz k)))) (Int.ofNat m)=_
   cases h:Nat.ble (yz k) m
   · have h:=l4 h
     rw[fh]
     cases k<;>simp [IntKind.wrap,IntKind.bits,IntKind.signed]<;>simp only[yz,kEl] at h<;>omega
   · rw[kQ]
     cases hs:ksg k
     · rw[fh,Yf hs];rfl
     · rw[kQ]
 | negSucc m=>
   show bc (ksg k) (bc (Nat.ble (yz k) m) (k.wrap (Int.negSucc m)) (Int.negSucc m)) (k.wrap (Int.negSucc m))=_
   cases hs:ksg k
   · rw[fh]
   · rw[kQ]
     cases h:Nat.ble (yz k) m
     · have h:=l4 h
       rw[fh]
       exact (Yg hs h).symm
     · rw[kQ]
theorem acm (a b:Int):qG a b=a+b:=by
 cases a<;>cases b<;>rfl
theorem acn (a b:Int):CO a b=a - b:=by
 cases a with
 | negSucc x=>rfl
 | ofNat x=>
   cases b with
   | negSucc y=>rfl
   | ofNat y=>
     show bc (Nat.ble y x) (Int.ofNat (x - y)) (Int.negSucc (y - x - 1))=_
     cases h:Nat.ble y x
     · have h:=l4 h
       rw[fh,Int.negSucc_eq];simp only[Int.ofNat_eq_natCast];omega
     · have h:=hD h
       rw[kQ];simp only[Int.ofNat_eq_natCast];omega
theorem Th (a b:Int):ab7 a b=a*b:=by
 cases a<;>cases b<;>rfl
theorem QO (a b:Int):ieq a b=(a==b):=by
 have:ieq a b=decide (a=b):=by
  cases a with
  | ofNat x=>cases b with
    | ofNat y=>
      show Nat.beq x y=_
      rw[←Eu]
      by_cases h:x=y
      · subst h;simp
      · rw[show (x==y)=false by simp [h]];symm;apply decide_eq_false;simp only[Int.ofNat_eq_natCast];omega
    | negSucc y=>simp;rfl
  | negSucc x=>cases b with
    | ofNat y=>simp;rfl
    | negSucc y=>
      show Nat.beq x y=_
      rw[←Eu]
      by_cases h:x=y
      · subst h;simp
      · simp [h]
 rw[this];rfl
theorem K2 (a b:Int):ilt a b=decide (a<b):=by
 cases a with
 | ofNat x=>cases b with
   | ofNat y=>
     show Nat.ble (x+1) y=_
     rw[←x9];simp only[Int.ofNat_eq_natCast];congr 1;apply propext;omega
   | negSucc y=>
     symm;exact decide_eq_false (by rw[Int.negSucc_eq];simp only[Int.ofNat_eq_natCast];omega)
 | negSucc x=>cases b with
   | ofNat y=>
     symm;exact decide_eq_true (by rw[Int.negSucc_eq];simp only[Int.ofNat_eq_natCast];omega)
   | negSucc y=>
     show Nat.ble (y+1) x=_
     rw[←x9];congr 1;apply propext;rw[Int.negSucc_eq,Int.negSucc_eq];omega
theorem Ga (a b:Int):(!decide (a<b))=decide (b≤a):=by
 by_cases h:a<b
 · rw[decide_eq_true h,decide_eq_false (by omega)];rfl
 · rw[decide_eq_false h,decide_eq_true (by omega)];rfl
theorem aco (k:IntKind) {x:Nat} (h:x<yz k):x<2^k.bits:=by
 cases k<;>simp only[yz,kEl,IntKind.bits] at * <;>omega
theorem Ti (k:IntKind) {x:Nat} (h:x<yz k):k.wrap (x:Int)=x:=by
 have:=qM k (Int.ofNat x)
 rw[Int.ofNat_eq_natCast] at this
 rw[←this]
 show bc (Nat.ble (yz k) x) _ (Int.ofNat x)=_
 rw[qw h];rfl
theorem acp (k:IntKind):∃m,yz k=2^m:=by
 cases k
 · exact ⟨7,rfl⟩
 · exact ⟨15,rfl⟩
 · exact ⟨31,rfl⟩
 · exact ⟨63,rfl⟩
 · exact ⟨8,rfl⟩
 · exact ⟨16,rfl⟩
 · exact ⟨32,rfl⟩
 · exact ⟨64,rfl⟩
theorem toNat_ofInt (k:IntKind) {x:Nat} (h:x<yz k):(BitVec.ofInt k.bits (Int.ofNat x)).toNat=x:=by
 rw[Int.ofNat_eq_natCast,BitVec.ofInt_natCast,BitVec.toNat_ofNat]
 exact Nat.mod_eq_of_lt (aco k h)
theorem acq (op:BinOp) (k:IntKind) (a b:Int) {v:AV} (h:ab8 op k a b=some v):eh op k a b=some v:=by
 cases op<;>simp only[ab8] at h<;>try exact h
 · simpa [eh,qM,acm] using h
 · simpa [eh,qM,acn] using h
 · simpa [eh,qM,Th] using h
 · cases a with
   | negSucc x=>exact h
   | ofNat x=>cases b with
     | negSucc y=>exact h
     | ofNat y=>
       obtain ⟨h1,h2⟩:=ue h
       rw[qM] at h2
       have:y≠0:=by intro e;subst e;cases h1
       rw[←h2];simp [eh,this];exact congrArg k.wrap (Int.natCast_ediv x y).symm
 · cases a with
   | negSucc x=>exact h
   | ofNat x=>cases b with
     | negSucc y=>exact h
     | ofNat y=>
       obtain ⟨h1,h2⟩:=ue h
       have:y≠0:=by intro e;subst e;cases h1
       rw[←h2];simp [eh,this];rfl
 · cases a with
   | negSucc x=>exact h
   | ofNat x=>cases b with
     | negSucc y=>exact h
     | ofNat y=>
       change bc (Nat.ble (yz k) x) _ (bc (Nat.ble (yz k) y) _ _)=_ at h
       cases h1:Nat.ble (yz k) x with
       | true=>rw[h1] at h;exact h
       | false=>cases h2:Nat.ble (yz k) y with
         | true=>rw[h1,h2] at h;exact h
         | false=>
           rw[h1,h2] at h
           have h1:=l4 h1;have h2:=l4 h2
           rw[←h,fh,fh]
           show some (AV.int k (k.wrap ((BitVec.ofInt k.bits (Int.ofNat x)&&& BitVec.ofInt k.bits (Int.ofNat y)).toNat:Int)))=_
           rw[BitVec.toNat_and,toNat_ofInt k h1,toNat_ofInt k h2,Ti k (Nat.lt_of_le_of_lt Nat.and_le_left h1)]
           rfl
 · cases a with
   | negSucc x=>exact h
   | ofNat x=>cases b with
     | negSucc y=>exact h
     | ofNat y=>
       change bc (Nat.ble (yz k) x) _ (bc (Nat.ble (yz k) y) _ _)=_ at h
       cases h1:Nat.ble (yz k) x with
       | true=>rw[h1] at h;exact h
       | false=>cases h2:Nat.ble (yz k) y with
         | true=>rw[h1,h2] at h;exact h
         | false=>
           rw[h1,h2] at h
           have h1:=l4 h1;have h2:=l4 h2
           rw[←h,fh,fh]
           show some (AV.int k (k.wrap ((BitVec.ofInt k.bits (Int.ofNat x)||| BitVec.ofInt k.bits (Int.ofNat y)).toNat:Int)))=_
           rw[BitVec.toNat_or,toNat_ofInt k h1,toNat_ofInt k h2,Ti k]
           · rfl
           · obtain ⟨m,hm⟩:=acp k
             rw[hm] at h1 h2 ⊢
             exact Nat.or_lt_two_pow h1 h2
 · simpa [eh,QO] using h
 · simpa [eh,QO,A_,bne] using h
 · simpa [eh,K2] using h
 · simpa [eh,K2,A_,Ga] using h
 · simpa [eh,K2] using h
 · simpa [eh,K2,A_,Ga] using h
theorem acr (op:BinOp) (k:IntKind) (a b:Int):(X4 op).f k a b=ab8 op k a b:=by
 cases op<;>rfl
theorem Yh (k:IntKind):XW k=k.bits:=by cases k<;>rfl
theorem Tj (k:IntKind) (y:Nat):XX k y=min y k.bits:=by
 unfold XX;rw[Yh]
 cases h:Nat.ble k.bits y
 · have:=l4 h;rw[fh];omega
 · have:=hD h;rw[kQ];omega
theorem acs {k:IntKind} {x y:Int} {v:AV} (h:ai3 k x y=some v):¬y<0∧v= .int k (k.wrap (x*2^(min y.toNat k.bits))):=by
 obtain ⟨m,rfl,h⟩:=qL h
 refine ⟨by omega,?_⟩
 have h:=Option.some.inj h
 rw[←h,qM,Th,Tj]
 simp
theorem acu {k:IntKind} {x y:Int} {v:AV} (h:ai4 k x y=some v):¬y<0∧v= .int k (x.fdiv (2^(min y.toNat k.bits))):=by
 obtain ⟨m,rfl,h⟩:=qL h
 refine ⟨by omega,?_⟩
 have h:=Option.some.inj h
 rw[←h]
 cases x with
 | negSucc x=>simp [nY]
 | ofNat x=>
   show AV.int k (Int.ofNat (x/2^XX k m))=_
   rw[Tj]
   simp
   rw[show (2^min m k.bits:Int)=((2^min m k.bits:Nat):Int) by simp]
   exact (Int.fdiv_eq_ediv_of_nonneg _ (Int.natCast_nonneg _)).symm
end Go.Ab.Fa
end
section
namespace Go.Ab.Fa
section
variable {α:Type}
theorem sL (l:List α) (o:Nat):wm l o=l.drop o:=by
 induction l generalizing o with
 | nil=>simp [wm]
 | cons v tl ih=>
   show bc (Nat.beq o 0) (v::tl) (wm tl (o - 1))=_
   rw[ih]
   cases o with
   | zero=>rfl
   | succ o=>simp [show Nat.beq (o+1) 0=false from rfl,fh]
theorem sM (l:List α) (o:Nat):wq l o=l.take o:=by
 induction l generalizing o with
 | nil=>simp [wq]
 | cons v tl ih=>
   show bc (Nat.beq o 0) [] (v::wq tl (o - 1))=_
   rw[ih]
   cases o with
   | zero=>rfl
   | succ o=>simp [show Nat.beq (o+1) 0=false from rfl,fh]
theorem Vd (vs:List α):∀(cs:List α) (k:Nat),(NA vs cs)[k]? =if k<vs.length∧k<cs.length then vs[k]? else cs[k]? :=by
 induction vs with
 | nil=>intro cs k;rw[if_neg (by simp)];rfl
 | cons v vs ih=>
   intro cs k
   cases cs with
   | nil=>rw[if_neg (by simp)];rfl
   | cons c tl=>
     show (v::NA vs tl)[k]? =_
     cases k with
     | zero=>rw[if_pos (by simp)];rfl
     | succ k=>simp only[List.getElem?_cons_succ,ih,List.length_cons,Nat.add_lt_add_iff_right]
theorem Yi (vs:List α):∀(cs:List α) (o k:Nat),(NC vs cs o)[k]? =if o≤k∧k<o+vs.length∧k<cs.length then vs[k - o]? else cs[k]? :=by
 intro cs
 induction cs with
 | nil=>intro o k;rw[if_neg (by simp)];rfl
 | cons c tl ih=>
   intro o k
   show (bc (Nat.beq o 0) (NA vs (c::tl)) (c::NC vs tl (o - 1)))[k]? =_
   cases o with
   | zero=>
     show (NA vs (c::tl))[k]? =_
     rw[Vd];simp
   | succ o=>
     show (c::NC vs tl o)[k]? =_
     cases k with
     | zero=>rw[if_neg (by omega)];rfl
     | succ k=>
       rw[List.getElem?_cons_succ,ih,List.getElem?_cons_succ,List.length_cons]
       by_cases h:o≤k∧k<o+vs.length∧k<tl.length
       · rw[if_pos h,if_pos (by omega),show k+1 -(o+1)=k - o by omega]
       · rw[if_neg h,if_neg (by omega)]
end
theorem K3 (vs cs:List AV) (o:Nat):NC vs cs o=setFrom cs o vs:=by
 apply List.ext_getElem?;intro k;rw[Yi,mS]
theorem QP (l m:List UInt8):leq F4 l m=(l==m):=by
 have key:∀a b:UInt8,F4 a b=(a==b):=by
  intro a b
  unfold F4
  rw[←Eu]
  by_cases h:a=b
  · subst h;simp
  · rw[show (a==b)=false by simp [h]]
    rw[beq_eq_false_iff_ne]
    intro e;apply h
    have:a.toNat=b.toNat:=e
    exact UInt8.toNat_inj.mp this
 induction l generalizing m with
 | nil=>cases m<;>rfl
 | cons x tl ih=>
   cases m with
   | nil=>rfl
   | cons y tm=>
     show bc (F4 x y) (leq F4 tl tm) false=_
     rw[ih,key,qI];rfl
theorem acv (op:BinOp) (a b:List UInt8):(Vb op).f a b=zr op a b:=by
 cases op<;>first | rfl | (simp only[Vb,zr,QP,A_])
theorem acw (v:AV):ab9 v=AV.scalar v:=by cases v<;>rfl
theorem NS:ab9=AV.scalar:=funext acw
theorem Ve (v:AV):KR v=true→(match (some v:Option AV) with
 | some (.ptr i o)=>some (.ptr i o)
 | some (.map i)=>some (.map i)
 | some (.slice i o l c b)=>some (.slice i o l c b)
 | some (.func f a b)=>some (.func f a b)
 | _=>none)=some v:=by
 cases v<;>intro h<;>first | rfl | exact absurd h (by intro e;cases e)
theorem NT {f:TypeId→AV→Cs} {why:String} {o:Option Oper} (a:AV):(∃t v,a= .iface t v)∨tY f (.fail why o) a= .fail why o:=by
 cases a with
 | iface t v=>exact .inl ⟨t,v,rfl⟩
 | _=>exact .inr rfl
theorem oc (v:AV):nf v=v.cells:=by cases v<;>rfl
section
variable (E:Env) (F:RF) (n:Nat)
theorem K4 {β:Type} (i:Nat) (k:(F.T→AV)→β):∃g,wT F n i k=k g∧∀r,(gd F n r).getD i AV.undef=g r:=by
 unfold wT
 cases h:Nat.ble n i
 · refine ⟨(F.get i).f,rfl,fun r=>?_⟩
   rw[Nz,if_pos (l4 h)]
 · refine ⟨fun _=>AV.undef,rfl,fun r=>?_⟩
   rw[Nz,if_neg (by have:=hD h;omega)]
theorem cr {β:Type} (x:Operand) (k:(F.T→AV)→β) (d:β):wO E F n x k d=d∨∃g,wO E F n x k d=k g∧∀r,fK E (gd F n r) x=some (g r):=by
 cases x with
 | tmp t=>
   obtain ⟨g,h1,h2⟩:=K4 F n t k
   exact .inr ⟨g,h1,fun r=>by rw[←h2];rfl⟩
 | const v=>
   simp only[wO]
   cases h:ofConst v with
   | none=>exact .inl rfl
   | some a=>exact .inr ⟨fun _=>a,rfl,fun r=>h⟩
 | global g=>
   simp only[wO]
   cases h:Nat.ble E.G g
   · exact .inr ⟨fun _=> .ptr g 0,rfl,fun r=>by rw[fK,if_pos (l4 h)]⟩
   · exact .inl rfl
 | func f=>exact .inr ⟨fun _=> .func f [] [],rfl,fun r=>rfl⟩
theorem yb {β:Type}:∀(l:List Operand) (k:(F.T→List AV)→β) (d:β),wL E F n l k d=d∨∃g,wL E F n l k d=k g∧∀r,iv E (gd F n r) l=some (g r)
 | [],k,d=> .inr ⟨fun _=> [],rfl,fun r=>rfl⟩
 | x::xs,k,d=>by
   rw[wL]
   rcases cr E F n x (fun g=>wL E F n xs (fun gs=>k fun r=>g r::gs r) d) d with h | ⟨g,h,hg⟩
   · exact .inl h
   · rcases yb xs (fun gs=>k fun r=>g r::gs r) d with h' | ⟨gs,h',hgs⟩
     · exact .inl (h.trans h')
     · refine .inr ⟨_,h.trans h',fun r=>?_⟩
       have:=hgs r
       unfold iv at *
       rw[fE,hg r];simp only[this]
theorem Tk {β:Type} (o:Option Operand) (k:Option (F.T→AV)→β) (d:β):wP E F n o k d=d∨∃g,wP E F n o k d=k g∧∀r,oT E (gd F n r) o=some (Is g r):=by
 cases o with
 | none=>exact .inr ⟨none,rfl,fun r=>rfl⟩
 | some x=>
   rcases cr E F n x (fun g=>k (some g)) d with h | ⟨g,h,hg⟩
   · exact .inl h
   · exact .inr ⟨some g,h,fun r=>by rw[oT,hg r];rfl⟩
theorem Gb {β:Type}:∀(l:List (Nat×Operand)) (k:(F.T→List (Nat×AV))→β) (d:β),wPs E F n l k d=d∨∃g,wPs E F n l k d=k g∧∀r,lU E (gd F n r) l=some (g r)
 | [],k,d=> .inr ⟨fun _=> [],rfl,fun r=>rfl⟩
 | (i,x)::xs,k,d=>by
   rw[wPs]
   rcases cr E F n x (fun g=>wPs E F n xs (fun gs=>k fun r=>(i,g r)::gs r) d) d with h | ⟨g,h,hg⟩
   · exact .inl h
   · rcases Gb xs (fun gs=>k fun r=>(i,g r)::gs r) d with h' | ⟨gs,h',hgs⟩
     · exact .inl (h.trans h')
     · refine .inr ⟨_,h.trans h',fun r=>?_⟩
       rw[lU,hg r];simp only[hgs r]
theorem Tn {β:Type} (hn:n≤F.N) (o:Option Tmp) (k:(AV→F.T→F.T)→β):∃s,wS F n o k=k s∧∀v r,ew (gd F n r) o v=gd F n (s v r):=by
 cases o with
 | none=>exact ⟨fun _ r=>r,rfl,fun v r=>rfl⟩
 | some i=>
   show ∃s,bc (Nat.ble n i) (k fun _ r=>r) (wU (F.set i) k)=k s∧_
   cases h:Nat.ble n i
   · exact ⟨(F.set i).f,rfl,fun v r=>ab5 F n hn r (l4 h) v⟩
   · refine ⟨fun _ r=>r,rfl,fun v r=>?_⟩
     show (gd F n r).set i v=_
     rw[List.set_eq_of_length_le (by rw[j8];exact hD h)]
theorem qN (t:TypeId):AJ E t=ca E t:=by
 unfold AJ ca;rw[wv];cases E.P.info? t<;>rfl
theorem Yj (t:TypeId):byF E t=kH E t:=by
 unfold byF kH;rw[wv];cases E.P.info? t<;>rfl
theorem CW (t:TypeId):P4 E t=iu E t:=by
 unfold P4 iu;rw[wv]
 cases E.P.info? t with
 | none=>rfl
 | some i=>show ob none (fun z=>ofConst z) i.zero=_;cases h:i.zero<;>simp [ob,h]
theorem af1 (t:TypeId):agF E t=gq E t:=by
 unfold agF gq;rw[j9];rfl
theorem Yk (t:TypeId) (f:Nat):fiF E t f=oU E t f:=by
 unfold fiF oU;rw[j9]
 generalize E.P.underlying t=u
 cases u with
 | none=>rfl
 | some d=>cases d with
   | struct fs=>show ky fs.toList f=fs[f]?;rw[jb];exact Array.getElem?_toList
   | _=>rfl
def wz (op:Op):Prop:=(∀ts,bC E ts op=none)∧(∀ts h,fp E ts h op=none)∧∀ts,fF E ts op=none
def l5 (f g:bu):Prop:=∀F as h,(∀v h',f F as h= .ret v h'→g F as h= .ret v h')∧∀v h',f F as h= .panic v h'→g F as h= .panic v h'
def ELe (a b:Cs):Prop:=match a with
 | .fail _ _=>True
 | a=>b=a
def iB (op:Op):Kd F.T→Prop
 | .MT g=>∀r,bC E (gd F n r) op=some (g r)
 | .iV f=>∀r v,f r=some v→bC E (gd F n r) op=some v
 | .red f=>∀r h v,f r h=some v→bC E (gd F n r) op=some v∨(bC E (gd F n r) op=none∧fp E (gd F n r) h op=some v)
 | .vW f=>(∀ts,bC E ts op=none)∧(∀ts h,fp E ts h op=none)∧∀r p,f r=some p→fF E (gd F n r) op=some p
 | .wr f=>wz E op∧∀call r h rc o p,o.op=op→f r h=some p→ea E call (gd F n r) h rc o= .val p.1 p.2
 | .call g args=>wz E op∧∀call r h rc o,o.op=op→ea E call (gd F n r) h rc o=oY (call g (args r) h)
 | .yx f=>wz E op∧∀fc call,l5 fc call→∀r h rc o,o.op=op→ELe (f fc r h rc) (ea E call (gd F n r) h rc o)
 | .bad=>True
end
end Go.Ab.Fa
end
section
namespace Go.Ab.Fa
variable {E:Env} {F:RF} {n:Nat}
theorem acx {op:BinOp} (h1:op≠ .shl) (h2:op≠ .shr) {t:TypeId} {xc yc:Bool} {a b v:AV} (h:acf (X4 op).f (Vb op).f (nX E op t xc yc) a b=some v):nX E op t xc yc a b=some v:=by
 unfold acf at h
 cases a with
 | int k x=>
   obtain ⟨j,y,rfl,h3⟩:=kY (show sI (fun j y=>bc (XV k j) ((X4 op).f k x y) none) none b=some v from h)
   obtain ⟨hk,h4⟩:=ig h3
   have hk:=Tg hk
   rw[acr] at h4
   have:=acq op k x y h4
   rw[←hk]
   cases op<;>first | exact absurd rfl h1 | exact absurd rfl h2 | simpa [nX] using this
 | str s=>
   obtain ⟨s',rfl,h3⟩:=qJ (show tX (fun t=>(Vb op).f s t) none b=some v from h)
   rw[acv] at h3
   cases op<;>first | exact absurd rfl h1 | exact absurd rfl h2 | simpa [nX] using h3
 | _=>exact h
theorem acy (op:BinOp) (t:TypeId) (x y:Operand) (yt:TypeId) (gx gy:F.T→AV) (hx:∀r,fK E (gd F n r) x=some (gx r)) (hy:∀r,fK E (gd F n r) y=some (gy r)):
 iB E F n (.binOp op t x y yt) (gQ op (nX E op t (isConst x) (isConst y)) gx gy):=by
 have red:∀r,bC E (gd F n r) (.binOp op t x y yt)=nX E op t (isConst x) (isConst y) (gx r) (gy r):=by
  intro r;simp only[bC,hx,hy]
 by_cases h1:op= .shl
 · subst h1
   intro r v h
   rw[red]
   obtain ⟨k,m,e1,h⟩:=kY h
   obtain ⟨k',m',e2,h⟩:=kY h
   obtain ⟨h3,rfl⟩:=acs h
   rw[e1,e2];simp [nX,h3]
 by_cases h2:op= .shr
 · subst h2
   intro r v h
   rw[red]
   obtain ⟨k,m,e1,h⟩:=kY h
   obtain ⟨k',m',e2,h⟩:=kY h
   obtain ⟨h3,rfl⟩:=acu h
   rw[e1,e2];simp [nX,h3]
 have:gQ op (nX E op t (isConst x) (isConst y)) gx gy= .iV fun r=>acf (X4 op).f (Vb op).f (nX E op t (isConst x) (isConst y)) (gx r) (gy r):=by
  cases op<;>first | exact absurd rfl h1 | exact absurd rfl h2 | rfl
 rw[this]
 intro r v h
 rw[red]
 exact acx h1 h2 h
theorem af2 (op:UnOp) (t:TypeId) (x:Operand) (g:F.T→AV) (hg:∀r,fK E (gd F n r) x=some (g r)):iB E F n (.unOp op t x) (unK op g):=by
 have red:∀r,bC E (gd F n r) (.unOp op t x)=unA op (g r):=by intro r;simp only[bC,hg]
 cases op with
 | not=>
   intro r v h
   rw[red]
   obtain ⟨b,e,h⟩:=Jx h
   rw[e,←h,A_];rfl
 | _=>intro r v h;rw[red];exact h
theorem Yl {t:TypeId} {m:Nat} (h1:gq E t=some true) (h2:ca E t=some m) {cs:List AV} {o:Nat} {v:AV} (h:X6 m cs o=some v):jW E t cs o=some v:=by
 unfold X6 at h
 obtain ⟨h3,h⟩:=ig h
 have h3:=hD h3
 rw[ie] at h3
 unfold jW
 rw[h1,h2]
 simp only
 rw[if_pos (show o+m≤cs.length from h3),←h,sM,sL]
theorem Ym {t:TypeId} (h1:gq E t=some false) {cs:List AV} {o:Nat} {v:AV} (h:X5 cs o=some v):jW E t cs o=some v:=by
 unfold X5 at h
 rw[jb] at h
 unfold jW
 rw[h1];exact h
theorem Gc {T:Type} (t:TypeId) (k:(List AV→Nat→Option AV)→Kd T):A9 E t k= .bad∨∃p,A9 E t k=k p∧∀cs o v,p cs o=some v→jW E t cs o=some v:=by
 unfold A9
 rw[af1]
 cases h:gq E t with
 | none=>exact .inl rfl
 | some b=>cases b with
   | false=>exact .inr ⟨_,rfl,fun cs o v=>Ym h⟩
   | true=>
     simp only
     rw[qN]
     cases h2:ca E t with
     | none=>exact .inl rfl
     | some m=>exact .inr ⟨_,rfl,fun cs o v=>Yl h h2⟩
theorem Yn {t:TypeId} {p:List AV→Nat→Option AV} (hp:∀cs o v,p cs o=some v→jW E t cs o=some v) {h:aC} {a v:AV} (e:NL p h a=some v):bh E h t a=some v:=by
 obtain ⟨i,o,rfl,e⟩:=wy e
 obtain ⟨obj,e1,e⟩:=iS e
 obtain ⟨cs,el,ro,rfl,e⟩:=ug e
 simp only[bh,e1]
 exact hp _ _ _ e
theorem acz (t:TypeId) (a:Operand):iB E F n (.load t a) (wO E F n a (fun g=>A9 E t fun p=> .red fun r h=>NL p h (g r)) .bad):=by
 rcases cr E F n a (fun g=>A9 E t fun p=>(.red fun r h=>NL p h (g r):Kd F.T)) .bad with h | ⟨g,h,hg⟩<;>rw[h]
 · trivial
 · rcases Gc (E:=E) t (fun p=>(.red fun r h=>NL p h (g r):Kd F.T)) with h | ⟨p,h,hp⟩<;>rw[h]
   · trivial
   · intro r h v e
     refine .inr ⟨rfl,?_⟩
     simp only[fp,hg]
     exact Yn hp e
theorem Yo (s:TypeId) (x:Operand) (f:Nat):iB E F n (.field s x f) (match fiF E s f with
 | some fd=>wO E F n x (fun g=>A9 E fd.type fun p=> .iV fun r=>CL (fun cs=>p cs fd.offset) (fun _=>none) none (g r)) .bad
 | none=> .bad):=by
 rw[Yk]
 cases h0:oU E s f with
 | none=>trivial
 | some fd=>
   simp only
   rcases cr E F n x (fun g=>A9 E fd.type fun p=>(.iV fun r=>CL (fun cs=>p cs fd.offset) (fun _=>none) none (g r):Kd F.T)) .bad with h | ⟨g,h,hg⟩<;>rw[h]
   · trivial
   · rcases Gc (E:=E) fd.type (fun p=>(.iV fun r=>CL (fun cs=>p cs fd.offset) (fun _=>none) none (g r):Kd F.T)) with h | ⟨p,h,hp⟩<;>rw[h]
     · trivial
     · intro r v e
       change CL (fun cs=>p cs fd.offset) (fun _=>none) none (g r)=some v at e
       simp only[bC,h0,hg]
       cases hv:g r with
       | agg cs=>rw[hv] at e;exact hp _ _ _ e
       | _=>rw[hv] at e;exact absurd e (by intro e;cases e)
theorem K5 (s:TypeId) (x:Operand) (f:Nat):iB E F n (.fieldAddr s x f) (match fiF E s f with
 | some fd=>match AJ E fd.type with
   | some (_+1)=>wO E F n x (fun g=> .iV fun r=>CK (fun i o=>some (.ptr i (Nat.add o fd.offset))) none (g r)) .bad
   | _=> .bad
 | none=> .bad):=by
 rw[Yk]
 cases h0:oU E s f with
 | none=>trivial
 | some fd=>
   simp only
   rw[qN]
   cases h1:ca E fd.type with
   | none=>trivial
   | some m=>cases m with
     | zero=>trivial
     | succ m=>
       simp only
       rcases cr E F n x (fun g=>(.iV fun r=>CK (fun i o=>some (.ptr i (Nat.add o fd.offset))) none (g r):Kd F.T)) .bad with h | ⟨g,h,hg⟩<;>rw[h]
       · trivial
       · intro r v e
         obtain ⟨i,o,e1,e⟩:=wy e
         simp only[bC,h0,hg,e1,h1]
         rw[if_neg (by omega)];exact e
theorem NU (x:Operand):iB E F n (.nilCheck x) (wO E F n x (fun g=> .iV fun r=>bc (KR (g r)) (some (g r)) none) .bad):=by
 rcases cr E F n x (fun g=>(.iV fun r=>bc (KR (g r)) (some (g r)) none:Kd F.T)) .bad with h | ⟨g,h,hg⟩<;>rw[h]
 · trivial
 · intro r v e
   obtain ⟨h1,e⟩:=ig e
   simp only[bC,hg]
   rw[←e]
   exact Ve _ h1
theorem QR (x:Operand) (i:Nat):iB E F n (.extract x i) (wO E F n x (fun g=> .iV fun r=>CL (fun _=>none) (fun vs=>ky vs i) none (g r)) .bad):=by
 rcases cr E F n x (fun g=>(.iV fun r=>CL (fun _=>none) (fun vs=>ky vs i) none (g r):Kd F.T)) .bad with h | ⟨g,h,hg⟩<;>rw[h]
 · trivial
 · intro r v e
   change CL (fun _=>none) (fun vs=>ky vs i) none (g r)=some v at e
   simp only[bC,hg]
   cases hv:g r with
   | tuple cs=>rw[hv] at e;show cs[i]? =some v;rw[←jb];exact e
   | _=>rw[hv] at e;exact absurd e (by intro e;cases e)
theorem acA (c a b:Operand):iB E F n (.pick c a b) (wO E F n c (fun gc=>wO E F n a (fun ga=>wO E F n b (fun gb=> .iV fun r=>lP (fun t=>bc t (some (ga r)) (some (gb r))) none (gc r)) .bad) .bad) .bad):=by
 rcases cr E F n c (fun gc=>wO E F n a (fun ga=>wO E F n b (fun gb=>(.iV fun r=>lP (fun t=>bc t (some (ga r)) (some (gb r))) none (gc r):Kd F.T)) .bad) .bad) .bad with h | ⟨gc,h,hc⟩<;>rw[h]
 · trivial
 rcases cr E F n a (fun ga=>wO E F n b (fun gb=>(.iV fun r=>lP (fun t=>bc t (some (ga r)) (some (gb r))) none (gc r):Kd F.T)) .bad) .bad with h | ⟨ga,h,ha⟩<;>rw[h]
 · trivial
 rcases cr E F n b (fun gb=>(.iV fun r=>lP (fun t=>bc t (some (ga r)) (some (gb r))) none (gc r):Kd F.T)) .bad with h | ⟨gb,h,hb⟩<;>rw[h]
 · trivial
 intro r v e
 obtain ⟨t,e1,e⟩:=Jx e
 simp only[bC,hc,e1]
 cases t
 · simp only[hb];exact e
 · simp only[ha];exact e
theorem To {len size i o:Nat} {ix v:AV} (e:KZ len size i o ix=some v):∃k m,ix= .int k m∧0≤m∧m<len∧v= .ptr i (o+m.toNat*size):=by
 obtain ⟨k,m,rfl,e⟩:=kY e
 obtain ⟨m',rfl,e⟩:=qL e
 obtain ⟨h1,e⟩:=ue e
 have h1:=l4 h1
 exact ⟨k,m',rfl,by omega,by omega,(Option.some.inj e).symm⟩
theorem K6 (t:TypeId) (x ix:Operand):iB E F n (.indexAddr t x ix) (wO E F n x (fun gx=>wO E F n ix (fun gi=>match lG E.P t with
 | some (.array len elem)=>match AJ E elem with
   | some size=> .iV fun r=>CK (fun i o=>KZ len size i o (gi r)) none (gx r)
   | none=> .bad
 | some (.slice elem)=>match AJ E elem with
   | some size=> .iV fun r=>kX none (fun i o len _ _=>KZ len size i o (gi r)) none (gx r)
   | none=> .bad
 | _=> .bad) .bad) .bad):=by
 rw[j9]
 rcases cr E F n x (fun gx=>wO E F n ix (fun gi=>match E.P.underlying t with
  | some (.array len elem)=>match AJ E elem with
    | some size=>(.iV fun r=>CK (fun i o=>KZ len size i o (gi r)) none (gx r):Kd F.T)
    | none=> .bad
  | some (.slice elem)=>match AJ E elem with
    | some size=> .iV fun r=>kX none (fun i o len _ _=>KZ len size i o (gi r)) none (gx r)
    | none=> .bad
  | _=> .bad) .bad) .bad with h | ⟨gx,h,hx⟩<;>rw[h]
 · trivial
 rcases cr E F n ix (fun gi=>match E.P.underlying t with
  | some (.array len elem)=>match AJ E elem with
    | some size=>(.iV fun r=>CK (fun i o=>KZ len size i o (gi r)) none (gx r):Kd F.T)
    | none=> .bad
  | some (.slice elem)=>match AJ E elem with
    | some size=> .iV fun r=>kX none (fun i o len _ _=>KZ len size i o (gi r)) none (gx r)
    | none=> .bad
  | _=> .bad) .bad with h | ⟨gi,h,hi⟩<;>rw[h]
 · trivial
 cases hu:E.P.underlying t with
 | none=>trivial
 | some d=>cases d with
   | array len elem=>
     simp only
     rw[qN]
     cases hs:ca E elem with
     | none=>trivial
     | some size=>
       intro r v e
       obtain ⟨i,o,e1,e⟩:=wy e
       obtain ⟨k,m,e2,h1,h2,rfl⟩:=To e
       simp only[bC,hu,hx,hi,e1,e2,hs]
       rw[if_pos ⟨h1,h2⟩]
   | slice elem=>
     simp only
     rw[qN]
     cases hs:ca E elem with
     | none=>trivial
     | some size=>
       intro r v e
       rcases qK e with ⟨_,e⟩ | ⟨i,o,l,c,b,e1,e⟩
       · cases e
       obtain ⟨k,m,e2,h1,h2,rfl⟩:=To e
       simp only[bC,hu,hx,hi,e1,e2,hs]
       rw[if_pos ⟨h1,h2⟩]
   | _=>trivial
theorem Yp (t:TypeId) (x ix:Operand):iB E F n (.index t x ix) (wO E F n x (fun gx=>wO E F n ix (fun gi=>match lG E.P t with
 | some .string=> .iV fun r=>tX (fun s=>sI (fun _ i=>nY (fun m=>ob none (fun (b:UInt8)=>some (.int .u8 (Int.ofNat b.toNat))) (ky s m)) none i) none (gi r)) none (gx r)
 | _=> .iV fun r=>bC E (gd F n r) (.index t x ix)) .bad) .bad):=by
 rw[j9]
 rcases cr E F n x (fun gx=>wO E F n ix (fun gi=>match E.P.underlying t with
  | some .string=>(.iV fun r=>tX (fun s=>sI (fun _ i=>nY (fun m=>ob none (fun (b:UInt8)=>some (.int .u8 (Int.ofNat b.toNat))) (ky s m)) none i) none (gi r)) none (gx r):Kd F.T)
  | _=> .iV fun r=>bC E (gd F n r) (.index t x ix)) .bad) .bad with h | ⟨gx,h,hx⟩<;>rw[h]
 · trivial
 rcases cr E F n ix (fun gi=>match E.P.underlying t with
  | some .string=>(.iV fun r=>tX (fun s=>sI (fun _ i=>nY (fun m=>ob none (fun (b:UInt8)=>some (.int .u8 (Int.ofNat b.toNat))) (ky s m)) none i) none (gi r)) none (gx r):Kd F.T)
  | _=> .iV fun r=>bC E (gd F n r) (.index t x ix)) .bad with h | ⟨gi,h,hi⟩<;>rw[h]
 · trivial
 cases hu:E.P.underlying t with
 | none=>intro r v e;exact e
 | some d=>cases d with
   | string=>
     intro r v e
     obtain ⟨s,e1,e⟩:=qJ e
     obtain ⟨k,m,e2,e⟩:=kY e
     obtain ⟨m',rfl,e⟩:=qL e
     obtain ⟨b,e3,e⟩:=iS e
     rw[jb] at e3
     simp only[bC,hu,hx,hi,e1,e2]
     rw[if_pos (by omega)]
     rw[show ((m':Int).toNat)=m' from rfl,e3]
     exact e
   | _=>intro r v e;exact e
theorem rE {d y:Nat} {o:Option AV} {k:Nat→Option AV} {v:AV} (e:K0 d y o k=some v):∃m,(match o with | some v=>qq v y | none=>some d)=some m∧k m=some v:=by
 cases o with
 | none=>exact ⟨d,rfl,e⟩
 | some a=>
   obtain ⟨kk,i,rfl,e⟩:=kY (show sI (fun _ i=>nY (fun m=>bc (Nat.ble m y) (k m) none) none i) none a=some v from e)
   obtain ⟨m,rfl,e⟩:=qL e
   obtain ⟨h1,e⟩:=ig e
   have h1:=hD h1
   refine ⟨m,?_,e⟩
   simp only[qq]
   rw[if_pos (by omega)];rfl
theorem yd {len cap h l:Nat} {lo hi:Option AV} (h1:(match hi with | some v=>qq v cap | none=>some len)=some h)
 (h2:(match lo with | some v=>qq v h | none=>some 0)=some l):mw len cap lo hi none=some (l,h,cap):=by
 cases hi with
 | none=>cases lo with
   | none=>cases h1;cases h2;rfl
   | some b=>cases h1;simp only[mw,Option.isSome_none];simp at h2;simp [h2]
 | some a=>cases lo with
   | none=>cases h2;simp only[mw];simp at h1;simp [h1]
   | some b=>simp only[mw];simp at h1 h2;simp [h1,h2]
theorem af3 {t elem:TypeId} {size:Nat} (hu:E.P.underlying t=some (.slice elem)) (hs:ca E elem=some size) {lo hi:Option AV} {x v:AV} (e:slF size lo hi x=some v):fe E t x lo hi none=some v:=by
 rcases qK e with ⟨rfl,e1⟩ | ⟨i,o,len,cap,op,rfl,e1⟩
 · obtain ⟨h,h1,e2⟩:=rE e1
   obtain ⟨l,h2,e3⟩:=rE e2
   simp only[fe,hu,yd h1 h2,hs]
   exact e3
 · obtain ⟨h0,e2⟩:=ig e1
   have h0:=hD h0
   obtain ⟨h,h1,e3⟩:=rE e2
   obtain ⟨l,h2,e4⟩:=rE e3
   simp only[fe,hu,yd h1 h2,hs]
   rw[if_pos h0]
   cases h3:Nat.beq cap l
   · rw[h3,fh] at e4
     have:¬cap=l:=by intro ee;rw[ee,Nat.beq_refl] at h3;cases h3
     rw[if_neg this]
     simpa using e4
   · rw[h3,kQ] at e4
     rw[if_pos (pE h3)]
     cases op
     · rw[fh] at e4;simpa using e4
     · rw[kQ] at e4;simpa using e4
theorem af4 {t:TypeId} (hu:E.P.underlying t=some .string) {lo hi:Option AV} {x v:AV} (e:slS lo hi x=some v):fe E t x lo hi none=some v:=by
 obtain ⟨s,rfl,e1⟩:=qJ e
 obtain ⟨h,h1,e2⟩:=rE e1
 obtain ⟨l,h2,e3⟩:=rE e2
 rw[ie] at h1
 simp only[fe,hu,yd h1 h2]
 rw[←e3,sM,sL];rfl
theorem af5 {t elem:TypeId} {m size:Nat} (hu:E.P.underlying t=some (.array m elem)) (hs:ca E elem=some size) {lo hi:Option AV} {x v:AV} (e:slA m size lo hi x=some v):fe E t x lo hi none=some v:=by
 obtain ⟨i,o,rfl,e1⟩:=wy e
 obtain ⟨h,h1,e2⟩:=rE e1
 obtain ⟨l,h2,e3⟩:=rE e2
 simp only[fe,hu,yd h1 h2,hs]
 rw[←Option.some.inj e3]
 cases h3:Nat.beq m l
 · have:¬m=l:=by intro ee;rw[ee,Nat.beq_refl] at h3;cases h3
   rw[if_neg this];rfl
 · rw[if_pos (pE h3)];rfl
theorem Yq (t:TypeId) (x:Operand) (lo hi:Option Operand):iB E F n (.slice t x lo hi none) (wO E F n x (fun gx=>wP E F n lo (fun gl=>wP E F n hi (fun gh=>match lG E.P t with
 | some (.slice elem)=>match AJ E elem with
   | some size=> .iV fun r=>slF size (Is gl r) (Is gh r) (gx r)
   | none=> .bad
 | some .string=> .iV fun r=>slS (Is gl r) (Is gh r) (gx r)
 | some (.array m elem)=>match AJ E elem with
   | some size=> .iV fun r=>slA m size (Is gl r) (Is gh r) (gx r)
   | none=> .bad
 | _=> .iV fun r=>bC E (gd F n r) (.slice t x lo hi none)) .bad) .bad) .bad):=by
 rw[j9]
 let K:(F.T→AV)→Option (F.T→AV)→Option (F.T→AV)→Kd F.T:=fun gx gl gh=>match E.P.underlying t with
  | some (.slice elem)=>match AJ E elem with
    | some size=> .iV fun r=>slF size (Is gl r) (Is gh r) (gx r)
    | none=> .bad
  | some .string=> .iV fun r=>slS (Is gl r) (Is gh r) (gx r)
  | some (.array m elem)=>match AJ E elem with
    | some size=> .iV fun r=>slA m size (Is gl r) (Is gh r) (gx r)
    | none=> .bad
  | _=> .iV fun r=>bC E (gd F n r) (.slice t x lo hi none)
 show iB E F n _ (wO E F n x (fun gx=>wP E F n lo (fun gl=>wP E F n hi (fun gh=>K gx gl gh) .bad) .bad) .bad)
 rcases cr E F n x (fun gx=>wP E F n lo (fun gl=>wP E F n hi (fun gh=>K gx gl gh) .bad) .bad) .bad with h | ⟨gx,h,hx⟩<;>rw[h]
 · trivial
 rcases Tk E F n lo (fun gl=>wP E F n hi (fun gh=>K gx gl gh) .bad) .bad with h | ⟨gl,h,hl⟩<;>rw[h]
 · trivial
 rcases Tk E F n hi (fun gh=>K gx gl gh) .bad with h | ⟨gh,h,hh⟩<;>rw[h]
 · trivial
 have red:∀r,bC E (gd F n r) (.slice t x lo hi none)=fe E t (gx r) (Is gl r) (Is gh r) none:=by
  intro r;simp only[bC,hx,hl,hh];rfl
 simp only[K]
 cases hu:E.P.underlying t with
 | none=>intro r v e;exact e
 | some d=>cases d with
   | string=>intro r v e;rw[red];exact af4 hu e
   | array m elem=>
     simp only
     rw[qN]
     cases hs:ca E elem with
     | none=>trivial
     | some size=>intro r v e;rw[red];exact af5 hu hs e
   | slice elem=>
     simp only
     rw[qN]
     cases hs:ca E elem with
     | none=>trivial
     | some size=>intro r v e;rw[red];exact af3 hu hs e
   | _=>intro r v e;exact e
end Go.Ab.Fa
end
section
namespace Go.Ab.Fa
variable {E:Env} {F:RF} {n:Nat}
theorem Vf {t:TypeId} {m:Nat} (hs:ca E t=some m) {h:aC} {a v:AV} {p:AV×aC} (e:F9 m h a v=some p):p.1=AV.undef∧dV E h t a v=some p.2:=by
 obtain ⟨i,o,rfl,e1⟩:=wy e
 obtain ⟨obj,h1,e2⟩:=iS e1
 obtain ⟨cs,el,ro,rfl,e3⟩:=ug e2
 obtain ⟨h2,e4⟩:=ue e3
 obtain ⟨h3,e5⟩:=ig e4
 obtain ⟨h4,e6⟩:=ig e5
 obtain ⟨h5,e7⟩:=ig e6
 have h3:=pE h3
 have h4:=hD h4
 rw[ie,oc] at h3
 rw[ie] at h4
 rw[tZ,NS,oc] at h5
 have e8:=Option.some.inj e7
 subst h2
 refine ⟨by rw[←e8],?_⟩
 simp only[dV,h1,hs]
 rw[if_pos ⟨h3,h4,h5⟩,←e8,K3,oc]
theorem NV {t:TypeId} {a x:Operand}:wz E (.store t a x):=⟨fun _=>rfl,fun _ _=>rfl,fun _=>rfl⟩
theorem Yr (t:TypeId) (a x:Operand):iB E F n (.store t a x) (match AJ E t with
 | some m=>wO E F n a (fun ga=>wO E F n x (fun gx=> .wr fun r h=>F9 m h (ga r) (gx r)) .bad) .bad
 | none=> .bad):=by
 rw[qN]
 cases hs:ca E t with
 | none=>trivial
 | some m=>
   simp only
   rcases cr E F n a (fun ga=>wO E F n x (fun gx=>(.wr fun r h=>F9 m h (ga r) (gx r):Kd F.T)) .bad) .bad with h | ⟨ga,h,ha⟩<;>rw[h]
   · trivial
   rcases cr E F n x (fun gx=>(.wr fun r h=>F9 m h (ga r) (gx r):Kd F.T)) .bad with h | ⟨gx,h,hx⟩<;>rw[h]
   · trivial
   refine ⟨NV,fun call r h rc o p ho e=>?_⟩
   obtain ⟨h1,h2⟩:=Vf hs e
   simp only[ea,ho,ha,hx,h2,h1]
theorem CX (t:TypeId) (x:Operand):iB E F n (.makeInterface t x) (match lG E.P t with
 | some (.interface _)=> .bad
 | some _=>wO E F n x (fun g=> .MT fun r=> .iface t (g r)) .bad
 | none=> .bad):=by
 rw[j9]
 cases hu:E.P.underlying t with
 | none=>trivial
 | some d=>
   cases d with
   | interface ms=>trivial
   | _=>
     simp only
     rcases cr E F n x (fun g=>(.MT fun r=> .iface t (g r):Kd F.T)) .bad with h | ⟨g,h,hg⟩<;>rw[h]
     · trivial
     · intro r;simp only[bC,hu,hg]
theorem NW (f:FuncId) (a b:Array Operand):iB E F n (.makeFunc (.func f) a b) (wL E F n a.toList (fun ga=>wL E F n b.toList (fun gb=> .MT fun r=> .func f (ga r) (gb r)) .bad) .bad):=by
 rcases yb E F n a.toList (fun ga=>wL E F n b.toList (fun gb=>(.MT fun r=> .func f (ga r) (gb r):Kd F.T)) .bad) .bad with h | ⟨ga,h,ha⟩<;>rw[h]
 · trivial
 rcases yb E F n b.toList (fun gb=>(.MT fun r=> .func f (ga r) (gb r):Kd F.T)) .bad with h | ⟨gb,h,hb⟩<;>rw[h]
 · trivial
 intro r;simp only[bC,ha,hb]
theorem Ys (t:TypeId):iB E F n (.alloc t) (match P4 E t with
 | some z=> .vW fun _=>some (.cells z.cells t false,fun i=> .ptr i 0)
 | none=> .bad):=by
 rw[CW]
 cases hz:iu E t with
 | none=>trivial
 | some z=>exact ⟨fun _=>rfl,fun _ _=>rfl,fun r p e=>by simp only[fF,hz];exact e⟩
theorem af6 (t:TypeId) (x:Operand):iB E F n (.box t x) (wO E F n x (fun g=> .vW fun r=>some (.cells (nf (g r)) t false,fun i=> .ptr i 0)) .bad):=by
 rcases cr E F n x (fun g=>(.vW fun r=>some (.cells (nf (g r)) t false,fun i=> .ptr i 0):Kd F.T)) .bad with h | ⟨g,h,hg⟩<;>rw[h]
 · trivial
 · exact ⟨fun _=>rfl,fun _ _=>rfl,fun r p e=>by simp only[fF,hg];rw[←oc];exact e⟩
theorem It (t:TypeId) (len:Nat) (parts:Array (Nat×Operand)):iB E F n (.buildSlice t len parts) (match lG E.P t with
 | some (.slice elem)=>match AJ E elem,P4 E elem with
   | some m,some z=>if z.cells.length=m∧len*m≤2^24 then wPs E F n parts.toList (fun gp=> .vW fun r=>ob none (fun cs=>some (.cells cs elem false,fun i=> .slice i 0 len len false)) (qt (fun i=>some (i*m,m)) (bT z.cells len) (gp r))) .bad else .bad
   | _,_=> .bad
 | _=> .bad):=by
 rw[j9]
 cases hu:E.P.underlying t with
 | none=>trivial
 | some d=>cases d with
   | slice elem=>
     simp only
     rw[qN,CW]
     cases hs:ca E elem with
     | none=>trivial
     | some m=>cases hz:iu E elem with
       | none=>trivial
       | some z=>
         simp only
         by_cases hc:z.cells.length=m∧len*m≤2^24
         · rw[if_pos hc]
           rcases Gb E F n parts.toList (fun gp=>(.vW fun r=>ob none (fun cs=>some (.cells cs elem false,fun i=> .slice i 0 len len false)) (qt (fun i=>some (i*m,m)) (bT z.cells len) (gp r)):Kd F.T)) .bad with h | ⟨g,h,hg⟩<;>rw[h]
           · trivial
           · refine ⟨fun _=>rfl,fun _ _=>rfl,fun r p e=>?_⟩
             obtain ⟨cs,h1,e⟩:=iS e
             simp only[fF,hu,hs,hz,hg]
             rw[if_pos hc];simp only[h1];exact e
         · rw[if_neg hc];trivial
   | _=>trivial
theorem acB (z:List AV) (m:Nat):af0 z m=bT z m:=by
 induction m with
 | zero=>rfl
 | succ m ih=>show mY z (af0 z m)=_;rw[pU,ih];rfl
theorem K7 (t:TypeId) (l c:Operand):iB E F n (.makeSlice t l c) (wO E F n l (fun gl=>wO E F n c (fun gc=>match lG E.P t with
 | some (.slice elem)=>match AJ E elem,byF E elem,P4 E elem with
   | some m,some bytes,some z=>if z.cells.length=m then .vW fun r=>acg elem bytes z.cells (gl r) (gc r) else .bad
   | _,_,_=> .bad
 | _=> .bad) .bad) .bad):=by
 rw[j9]
 rcases cr E F n l (fun gl=>wO E F n c (fun gc=>match E.P.underlying t with
  | some (.slice elem)=>match AJ E elem,byF E elem,P4 E elem with
    | some m,some bytes,some z=>if z.cells.length=m then (.vW fun r=>acg elem bytes z.cells (gl r) (gc r):Kd F.T) else .bad
    | _,_,_=> .bad
  | _=> .bad) .bad) .bad with h | ⟨gl,h,hl⟩<;>rw[h]
 · trivial
 rcases cr E F n c (fun gc=>match E.P.underlying t with
  | some (.slice elem)=>match AJ E elem,byF E elem,P4 E elem with
    | some m,some bytes,some z=>if z.cells.length=m then (.vW fun r=>acg elem bytes z.cells (gl r) (gc r):Kd F.T) else .bad
    | _,_,_=> .bad
  | _=> .bad) .bad with h | ⟨gc,h,hc⟩<;>rw[h]
 · trivial
 cases hu:E.P.underlying t with
 | none=>trivial
 | some d=>cases d with
   | slice elem=>
     simp only
     rw[qN,Yj,CW]
     cases hs:ca E elem with
     | none=>trivial
     | some m=>cases hb:kH E elem with
       | none=>trivial
       | some bytes=>cases hz:iu E elem with
         | none=>trivial
         | some z=>
           simp only
           by_cases hm:z.cells.length=m
           · rw[if_pos hm]
             refine ⟨fun _=>rfl,fun _ _=>rfl,fun r p e=>?_⟩
             obtain ⟨k1,a,e1,q1⟩:=kY e
             obtain ⟨k2,b,e2,q2⟩:=kY q1
             obtain ⟨a',rfl,q3⟩:=qL q2
             obtain ⟨b',rfl,q4⟩:=qL q3
             obtain ⟨c1,q5⟩:=ig q4
             obtain ⟨c2,q6⟩:=ue q5
             obtain ⟨c3,q7⟩:=ig q6
             have c1:=hD c1
             have c2:=l4 c2
             have c3:bytes*b'≤140737488355328:=hD c3
             simp only[fF,hu,hs,hb,hz,hl,hc,e1,e2]
             rw[if_pos ⟨by omega,by omega,by omega,by have:(bytes:Int)*(b':Int)=((bytes*b':Nat):Int):=by simp
                                                      rw[this];omega,hm⟩]
             rw[←q7,acB];rfl
           · rw[if_neg hm];trivial
   | _=>trivial
theorem NX (k:List UInt8):∀(l:List mE) (i:Nat) {x:Option AV},findF k l=some x→∃y,vS (.str k) l i=some y∧y.map (·.2)=x
 | [],i,x,h=>⟨none,rfl,by cases h;rfl⟩
 | e::es,i,x,h=>by
   obtain ⟨s,h1,h2⟩:=qJ (show tX (fun s=>bc (leq F4 k s) (some (some e.val)) (findF k es)) none e.key=some x from h)
   rw[QP] at h2
   rw[vS,h1]
   show ∃y,(match (some (k==s):Option Bool) with | some true=>some (some (i,e.val)) | some false=>vS (.str k) es (i+1) | none=>none)=some y∧_
   cases hb:k==s with
   | true=>
     rw[hb,kQ] at h2
     exact ⟨some (i,e.val),rfl,Option.some.inj h2⟩
   | false=>
     rw[hb,fh] at h2
     exact NX k es (i+1) h2
noncomputable def aja (h:aC) (m:AV):Option (List mE):=match m with
 | .eZ=>some []
 | .map i=>(match h.get i with | some (.map es _)=>some es | _=>none)
 | _=>none
theorem Yt {z:AV} {ok:Bool} {h:aC} {m k v:AV} (e:S9 z ok h m k=some v):
 (∃s,k= .str s)∧∃es,(match m with | .eZ=>some [] | .map i=>(match h.get i with | some (.map es _)=>some es | _=>none) | _=>none)=some es∧
  ∃y,vS k es 0=some y∧v=(match y with | some (_,w)=>(if ok then .tuple [w,.bool true] else w) | none=>if ok then .tuple [z,.bool false] else z):=by
 obtain ⟨s,rfl,e1⟩:=qJ e
 obtain ⟨es,h1,e2⟩:=iS e1
 obtain ⟨x,h2,e3⟩:=iS e2
 refine ⟨⟨s,rfl⟩,es,?_,?_⟩
 · cases m with
   | eZ=>exact h1
   | map i=>
     obtain ⟨o,h3,h4⟩:=iS (show ob none (fun o=>ach (fun es=>some es) none o) (h.get i)=some es from h1)
     simp only[h3]
     cases o with
     | map mB c=>exact h4
     | _=>cases h4
   | _=>cases h1
 · obtain ⟨y,h3,h4⟩:=NX s es 0 h2
   refine ⟨y,h3,?_⟩
   have e4:=Option.some.inj e3
   rw[←e4,←h4]
   cases y with
   | none=>cases ok<;>rfl
   | some y=>obtain ⟨_,w⟩:=y;cases ok<;>rfl
theorem Vg (t:TypeId) (x ix:Operand) (ok:Bool):iB E F n (.lookup t x ix ok) (wO E F n x (fun gx=>wO E F n ix (fun gi=>match lG E.P t with
 | some (.map key elem)=>match lG E.P key,P4 E elem with
   | some .string,some z=> .red fun r h=>S9 z ok h (gx r) (gi r)
   | _,_=> .red fun r h=>fp E (gd F n r) h (.lookup t x ix ok)
 | _=> .bad) .bad) .bad):=by
 let K:(F.T→AV)→(F.T→AV)→Kd F.T:=fun gx gi=>match lG E.P t with
  | some (.map key elem)=>match lG E.P key,P4 E elem with
    | some .string,some z=> .red fun r h=>S9 z ok h (gx r) (gi r)
    | _,_=> .red fun r h=>fp E (gd F n r) h (.lookup t x ix ok)
  | _=> .bad
 show iB E F n _ (wO E F n x (fun gx=>wO E F n ix (fun gi=>K gx gi) .bad) .bad)
 rcases cr E F n x (fun gx=>wO E F n ix (fun gi=>K gx gi) .bad) .bad with h | ⟨gx,h,hx⟩<;>rw[h]
 · trivial
 rcases cr E F n ix (fun gi=>K gx gi) .bad with h | ⟨gi,h,hi⟩<;>rw[h]
 · trivial
 simp only[K,j9,CW]
 have CU:iB E F n (.lookup t x ix ok) (.red fun r h=>fp E (gd F n r) h (.lookup t x ix ok)):=fun r h v e=> .inr ⟨rfl,e⟩
 cases hu:E.P.underlying t with
 | none=>trivial
 | some d=>cases d with
   | map key elem=>
     simp only
     cases hk:E.P.underlying key with
     | none=>exact CU
     | some kd=>cases kd with
       | string=>cases hz:iu E elem with
         | none=>exact CU
         | some z=>
           intro r h v e
           refine .inr ⟨rfl,?_⟩
           obtain ⟨⟨s,hs⟩,es,h1,y,h2,rfl⟩:=Yt e
           simp only[fp,hu,hx,hi,hk]
           rw[hs] at h2 ⊢
           rw[if_pos (show j6 (some TypeDesc.string) (AV.str s)=true from rfl)]
           have h1':aja h (gx r)=some es:=h1
           change (match aja h (gx r) with
            | none=>none
            | some es=>match vS (AV.str s) es 0 with
              | none=>none
              | some (some (_,v))=>some (if ok then AV.tuple [v,.bool true] else v)
              | some none=>match iu E elem with
                | some z=>some (if ok then AV.tuple [z,.bool false] else z)
                | none=>none)=_
           rw[h1']
           simp only[h2,hz]
           cases y with
           | none=>rfl
           | some y=>obtain ⟨_,w⟩:=y;rfl
       | _=>exact CU
   | _=>trivial
theorem Ge:∀(fs:List Field),E3 E fs=placesOf E fs
 | []=>rfl
 | f::fs=>by
   show ob none (fun n=>ob none (fun l=>some ((f.offset,n)::l)) (E3 E fs)) (AJ E f.type)=_
   rw[Ge fs,qN]
   simp only[placesOf,fE]
   cases ca E f.type with
   | none=>rfl
   | some n=>
     show ob none (fun l=>some ((f.offset,n)::l)) (fE _ fs)=_
     cases fE (fun f=>match ca E f.type with | some n=>some (f.offset,n) | none=>none) fs<;>rfl
theorem NY (ps:List (Nat×Nat)):∀(l:List (Nat×AV)) (cs:List AV) {v:List AV},NM ps cs l=some v→qt (ps[·]?) cs l=some v
 | [],cs,v,h=>h
 | (i,x)::l,cs,v,h=>by
   obtain ⟨q,h1,h2⟩:=iS (show ob none (fun (q:Nat×Nat)=>bc (Nat.beq (ku (nf x)) q.2) (bc (Nat.ble (q.1+q.2) (ku cs)) (NM ps (NC (nf x) cs q.1) l) none) none) (ky ps i)=some v from h)
   obtain ⟨h3,h4⟩:=ig h2
   obtain ⟨h5,h6⟩:=ig h4
   have h3:=pE h3
   have h5:=hD h5
   rw[ie,oc] at h3
   rw[ie] at h5
   rw[jb] at h1
   rw[qt]
   obtain ⟨off,size⟩:=q
   simp only[h1]
   rw[if_pos ⟨h3,h5⟩,←K3,←oc]
   exact NY ps l _ h6
theorem Yu (t:TypeId) (parts:Array (Nat×Operand)):iB E F n (.build t parts) (match P4 E t,lG E.P t with
 | some z,some (.struct fs)=>match E3 E fs.toList with
   | some ps=>wPs E F n parts.toList (fun gp=> .iV fun r=>ob none (fun cs=>some (.agg cs)) (NM ps (nf z) (gp r))) .bad
   | none=> .bad
 | _,_=> .iV fun r=>bC E (gd F n r) (.build t parts)):=by
 have CU:iB E F n (.build t parts) (.iV fun r=>bC E (gd F n r) (.build t parts)):=fun r v e=>e
 rw[j9,CW]
 cases hz:iu E t with
 | none=>exact CU
 | some z=>cases hu:E.P.underlying t with
   | none=>exact CU
   | some d=>cases d with
     | struct fs=>
       simp only
       rw[Ge]
       cases hp:placesOf E fs.toList with
       | none=>trivial
       | some ps=>
         simp only
         rcases Gb E F n parts.toList (fun gp=>(.iV fun r=>ob none (fun cs=>some (.agg cs)) (NM ps (nf z) (gp r)):Kd F.T)) .bad with h | ⟨g,h,hg⟩<;>rw[h]
         · trivial
         · intro r v e
           obtain ⟨cs,h1,e2⟩:=iS e
           have h1:=NY ps _ _ h1
           rw[oc] at h1
           simp only[bC,hg,Kp,hz,hu,hp,h1]
           exact e2
     | _=>exact CU
theorem K8 (t:TypeId) (m k x:Operand):iB E F n (.mapUpdate t m k x) (wO E F n m (fun gm=>wO E F n k (fun gk=>wO E F n x (fun gx=> .wr fun r h=>ob none (fun h'=>some (AV.undef,h')) (fN E h t (gm r) (gk r) (gx r))) .bad) .bad) .bad):=by
 rcases cr E F n m (fun gm=>wO E F n k (fun gk=>wO E F n x (fun gx=>(.wr fun r h=>ob none (fun h'=>some (AV.undef,h')) (fN E h t (gm r) (gk r) (gx r)):Kd F.T)) .bad) .bad) .bad with h | ⟨gm,h,hm⟩<;>rw[h]
 · trivial
 rcases cr E F n k (fun gk=>wO E F n x (fun gx=>(.wr fun r h=>ob none (fun h'=>some (AV.undef,h')) (fN E h t (gm r) (gk r) (gx r)):Kd F.T)) .bad) .bad with h | ⟨gk,h,hk⟩<;>rw[h]
 · trivial
 rcases cr E F n x (fun gx=>(.wr fun r h=>ob none (fun h'=>some (AV.undef,h')) (fN E h t (gm r) (gk r) (gx r)):Kd F.T)) .bad with h | ⟨gx,h,hx⟩<;>rw[h]
 · trivial
 refine ⟨⟨fun _=>rfl,fun _ _=>rfl,fun _=>rfl⟩,fun call r h rc o p ho e=>?_⟩
 obtain ⟨h',h1,e2⟩:=iS e
 have e3:=Option.some.inj e2
 simp only[ea,ho,hm,hk,hx,h1,←e3]
theorem Vh (t:TypeId) (m k x:Operand):iB E F n (.insert t m k x) (wO E F n m (fun gm=>wO E F n k (fun gk=>wO E F n x (fun gx=> .wr fun r h=>ob none (fun h'=>some (AV.undef,h')) (fN E h t (gm r) (gk r) (gx r))) .bad) .bad) .bad):=by
 rcases cr E F n m (fun gm=>wO E F n k (fun gk=>wO E F n x (fun gx=>(.wr fun r h=>ob none (fun h'=>some (AV.undef,h')) (fN E h t (gm r) (gk r) (gx r)):Kd F.T)) .bad) .bad) .bad with h | ⟨gm,h,hm⟩<;>rw[h]
 · trivial
 rcases cr E F n k (fun gk=>wO E F n x (fun gx=>(.wr fun r h=>ob none (fun h'=>some (AV.undef,h')) (fN E h t (gm r) (gk r) (gx r)):Kd F.T)) .bad) .bad with h | ⟨gk,h,hk⟩<;>rw[h]
 · trivial
 rcases cr E F n x (fun gx=>(.wr fun r h=>ob none (fun h'=>some (AV.undef,h')) (fN E h t (gm r) (gk r) (gx r)):Kd F.T)) .bad with h | ⟨gx,h,hx⟩<;>rw[h]
 · trivial
 refine ⟨⟨fun _=>rfl,fun _ _=>rfl,fun _=>rfl⟩,fun call r h rc o p ho e=>?_⟩
 obtain ⟨h',h1,e2⟩:=iS e
 have e3:=Option.some.inj e2
 simp only[ea,ho,hm,hk,hx,h1,←e3]
theorem acC (it:Operand) (s:Bool):iB E F n (.next it s) (wO E F n it (fun g=> .wr fun r h=>Ja h (g r) s) .bad):=by
 rcases cr E F n it (fun g=>(.wr fun r h=>Ja h (g r) s:Kd F.T)) .bad with h | ⟨g,h,hg⟩<;>rw[h]
 · trivial
 refine ⟨⟨fun _=>rfl,fun _ _=>rfl,fun _=>rfl⟩,fun call r h rc o p ho e=>?_⟩
 simp only[ea,ho,hg,e]
theorem Yv (x:Operand):iB E F n (.panic x) (wO E F n x (fun g=> .yx fun _ r h _=>tY (fun t w=> .panic (.iface t w) h) (.fail "" none) (g r)) .bad):=by
 rcases cr E F n x (fun g=>(.yx fun _ r h _=>tY (fun t w=> .panic (.iface t w) h) (.fail "" none) (g r):Kd F.T)) .bad with h | ⟨g,h,hg⟩<;>rw[h]
 · trivial
 refine ⟨⟨fun _=>rfl,fun _ _=>rfl,fun _=>rfl⟩,fun fc call _ r h rc o ho=>?_⟩
 rcases NT (f:=fun t w=>Cs.panic (.iface t w) h) (why:= "") (o:=none) (g r) with ⟨t,w,e⟩ | e
 · simp only[ea,ho,hg,e];rfl
 · show ELe (tY _ _ _) _
   rw[e];trivial
theorem Yw (c:Call):iB E F n (.defer c) (.yx fun _ r _ rc=>match rc,callee E (gd F n r) c with
 | .MP _,_=> .fail "" none
 | _,some (.fn f,args)=> .defer (.call f args)
 | _,_=> .fail "" none):=by
 refine ⟨⟨fun _=>rfl,fun _ _=>rfl,fun _=>rfl⟩,fun fc call _ r h rc o ho=>?_⟩
 simp only[ea,ho]
 cases rc with
 | MP l=>trivial
 | _=>cases hc:callee E (gd F n r) c with
   | none=>trivial
   | some p=>obtain ⟨f,args⟩:=p;cases f<;>first | trivial | rfl
theorem QS (src dst:TypeId) (x:Operand):iB E F n (.convert src dst x) (wO E F n x (S_ E src dst) .bad):=by
 rcases cr E F n x (S_ E src dst) (.bad:Kd F.T) with h | ⟨g,h,hg⟩<;>rw[h]
 · trivial
 unfold S_
 simp only[j9]
 cases hs:E.P.underlying src with
 | none=>trivial
 | some ds=>cases hd:E.P.underlying dst with
   | none=>cases ds<;>trivial
   | some dd=>
     cases ds<;>cases dd<;>try trivial
     case int.int k k'=>
      intro r v e
      obtain ⟨j,m,e1,e2⟩:=kY e
      simp only[bC,hs,hd,hg,e1]
      rw[←qM];exact e2
     case string.string=>
      intro r v e
      obtain ⟨s,e1,e2⟩:=qJ e
      simp only[bC,hs,hd,hg,e1];exact e2
     case string.slice e=>
      refine ⟨⟨fun _=>by simp only[bC,hs,hd],fun _ _=>by simp only[fp,hs,hd],fun _=>rfl⟩,fun call r h rc o p ho e=>?_⟩
      simp only[ea,ho,hg,e]
     case slice.string el=>
      simp only
      cases he:E.P.underlying el with
      | none=>trivial
      | some de=>
        cases de<;>try trivial
        rename_i k
        cases k<;>try trivial
        intro r h v e
        rcases qK e with ⟨e1,e2⟩ | ⟨i,o,l,c,b,e1,e2⟩
        · refine .inr ⟨by simp only[bC,hs,hd,hg,e1],?_⟩
          simp only[fp,hs,hd,hg,he]
          simp only[e1];exact e2
        · refine .inr ⟨by simp only[bC,hs,hd,hg,e1],?_⟩
          simp only[fp,hs,hd,hg,he]
          simp only[e1]
          obtain ⟨l',h1,e3⟩:=iS e2
          simp only[h1];exact e3
end Go.Ab.Fa
end
