import Derived.Test.YtfllahfbmaafcaaA4
import Derived.Test.YtfllahfbmaafcaaA0
set_option linter.unusedVariables false
set_option linter.unusedSimpArgs false
section
namespace Go.Ab.Fa
structure W (α:Type) where
 f:α
section
variable {α β T:Type}
noncomputable def wW (w:W α) (k:α→β):β:=W.rec (motive:=fun _=>β) k w
noncomputable def wA (a:Acc T) (k:(T→AV)→β):β:=Acc.rec (motive:=fun _=>β) k a
noncomputable def wU (a:Upd T) (k:(AV→T→T)→β):β:=Upd.rec (motive:=fun _=>β) k a
end
structure Y where
 ds:List pw
 rc:RC
inductive FO (T:Type) where
 | Ig (r:T) (h:aw) (y:Y)
 | jmp (e:h_) (r:T) (h:aw) (y:Y)
 | bad
structure I (T:Type) where
 run:bj→T→aw→Y→FO T
structure C (T:Type) where
 run:Nat→bj→T→aw→Y→FO T
inductive Kd (T:Type) where
 | Hj (f:T→AV)
 | gD (f:T→Option AV)
 | red (f:T→aw→Option AV)
 | rV (f:T→Option (aR×(Nat→AV)))
 | wr (f:T→aw→Option (AV×aw))
 | call (g:Fn) (args:T→List AV)
 | ub (f:bj→T→aw→RC→yj)
 | bad
section
variable (E:Env) (F:RF) (n:Nat)
noncomputable def wT {β:Type} (i:Nat) (k:(F.T→AV)→β):β:=bc (Nat.ble n i) (k fun _=>AV.undef) (wA (F.get i) k)
noncomputable def wO {β:Type} (x:Operand) (k:(F.T→AV)→β) (d:β):β:=match x with
 | .tmp t=>wT F n t k
 | .const v=>match ofConst v with
   | some a=>k fun _=>a
   | none=>d
 | .global g=>bc (Nat.ble E.G g) d (k fun _=> .ptr g 0)
 | .func f=>k fun _=> .func f [] []
noncomputable def wL {β:Type} (l:List Operand) (k:(F.T→List AV)→β) (d:β):β:=match l with
 | []=>k fun _=> []
 | x::xs=>wO E F n x (fun g=>wL xs (fun gs=>k fun r=>g r::gs r) d) d
noncomputable def wP {β:Type} (o:Option Operand) (k:Option (F.T→AV)→β) (d:β):β:=match o with
 | none=>k none
 | some x=>wO E F n x (fun g=>k (some g)) d
noncomputable def wS {β:Type} (o:Option Tmp) (k:(AV→F.T→F.T)→β):β:=match o with
 | none=>k fun _ r=>r
 | some i=>bc (Nat.ble n i) (k fun _ r=>r) (wU (F.set i) k)
noncomputable def vW (t:TypeId):Option Nat:=ob none (fun i=>some i.size) (zC E.P t)
noncomputable def byF (t:TypeId):Option Nat:=if E.bld=some t then none else ob none (fun i=>some i.bytes) (zC E.P t)
noncomputable def JX (t:TypeId):Option AV:=ob none (fun i=>ob none (fun z=>ofConst z) i.zero) (zC E.P t)
noncomputable def agF (t:TypeId):Option Bool:=match jB E.P t with
 | some (.struct _)=>some true
 | some (.array _ _)=>some true
 | some _=>some false
 | none=>none
noncomputable def fiF (t:TypeId) (f:Nat):Option Field:=match jB E.P t with
 | some (.struct fs)=>iG fs.toList f
 | _=>none
variable {T:Type}
noncomputable def Rc (op:BinOp):W (IntKind→Int→Int→Option AV):=match op with
 | .add=>⟨fun k a b=>some (.int k (uC k (Q5 a b)))⟩
 | .sub=>⟨fun k a b=>some (.int k (uC k (wC a b)))⟩
 | .mul=>⟨fun k a b=>some (.int k (uC k (Q6 a b)))⟩
 | .eql=>⟨fun _ a b=>some (.bool (Yf a b))⟩
 | .neq=>⟨fun _ a b=>some (.bool (vl (Yf a b)))⟩
 | .lss=>⟨fun _ a b=>some (.bool (VQ a b))⟩
 | .leq=>⟨fun _ a b=>some (.bool (vl (VQ b a)))⟩
 | .gtr=>⟨fun _ a b=>some (.bool (VQ b a))⟩
 | .geq=>⟨fun _ a b=>some (.bool (vl (VQ a b)))⟩
 | op=>⟨VS op⟩
noncomputable def Oz (op:BinOp):W (List UInt8→List UInt8→Option AV):=match op with
 | .eql=>⟨fun a b=>some (.bool (leq Bq a b))⟩
 | .neq=>⟨fun a b=>some (.bool (vl (leq Bq a b)))⟩
 | op=>⟨uU op⟩
noncomputable def VZ (f:IntKind→Int→Int→Option AV) (g:List UInt8→List UInt8→Option AV) (yK:AV→AV→Option AV) (a b:AV):Option AV:=
 oa (fun k x=>oa (fun j y=>bc (Q3 k j) (f k x y) none) none b) (qF (fun s=>qF (fun t=>g s t) none b) (yK a b) a) a
noncomputable def cE (op:BinOp) (yK:AV→AV→Option AV) (ga gb:T→AV):Kd T:=match op with
 | .shl=> .gD fun r=>oa (fun k x=>oa (fun _ y=>ac0 k x y) none (gb r)) none (ga r)
 | .shr=> .gD fun r=>oa (fun k x=>oa (fun _ y=>ac1 k x y) none (gb r)) none (ga r)
 | op=>wW (Rc op) fun f=>wW (Oz op) fun g=> .gD fun r=>VZ f g yK (ga r) (gb r)
noncomputable def unK (op:UnOp) (ga:T→AV):Kd T:=match op with
 | .not=> .gD fun r=>ja (fun b=>some (.bool (vl b))) none (ga r)
 | op=> .gD fun r=>unA op (ga r)
noncomputable def Re (cs:List AV) (o:Nat):Option AV:=iG cs o
noncomputable def Rf (n:Nat) (cs:List AV) (o:Nat):Option AV:=bc (Nat.ble (Nat.add o n) (iE cs)) (some (.agg (so (sm cs o) n))) none
noncomputable def wE (t:TypeId) (k:(List AV→Nat→Option AV)→Kd T):Kd T:=match agF E t with
 | some true=>match vW E t with
   | some n=>k (Rf n)
   | none=> .bad
 | some false=>k Re
 | none=> .bad
noncomputable def Ih (p:List AV→Nat→Option AV) (h:aw) (a:AV):Option AV:=
 yC (fun i o=>ob none (fun obj=>yE (fun cs _ _=>p cs o) none obj) (h.get i)) none a
noncomputable def Bv (n:Nat) (h:aw) (a v:AV):Option (AV×aw):=
 yC (fun i o=>ob none (fun obj=>yE (fun cs e ro=>bc ro none
  (bc (Nat.beq (iE (kS v)) n) (bc (Nat.ble (Nat.add o n) (iE cs)) (bc (yG VT (kS v)) (some (AV.undef,h.put i (some (.cells (H9 (kS v) cs o) e false)))) none) none) none)) none obj) (h.get i)) none a
noncomputable def FY (len size:Nat) (i o:Nat) (ix:AV):Option AV:=
 oa (fun _ n=>ku (fun m=>bc (Nat.ble len m) none (some (.ptr i (Nat.add o (Nat.mul m size))))) none n) none ix
noncomputable def FZ (d y:Nat) (o:Option AV) (k:Nat→Option AV):Option AV:=
 ob (k d) (fun v=>oa (fun _ i=>ku (fun m=>bc (Nat.ble m y) (k m) none) none i) none v) o
noncomputable def slF (size:Nat) (lo hi:Option AV) (v:AV):Option AV:=
 jb (FZ 0 0 hi fun h=>FZ 0 h lo fun _=>some .aN)
  (fun i o len cap op=>bc (Nat.ble len cap) (FZ len cap hi fun h=>FZ 0 h lo fun l=>
   bc (Nat.beq cap l) (bc op (some .dQ) (some (.slice i o (Nat.sub h l) (Nat.sub cap l) false))) (some (.slice i (Nat.add o (Nat.mul l size)) (Nat.sub h l) (Nat.sub cap l) op))) none) none v
noncomputable def slS (lo hi:Option AV) (v:AV):Option AV:=
 qF (fun s=>FZ (iE s) (iE s) hi fun h=>FZ 0 h lo fun l=>some (.str (so (sm s l) (Nat.sub h l)))) none v
noncomputable def slA (m size:Nat) (lo hi:Option AV) (v:AV):Option AV:=
 yC (fun i o=>FZ m m hi fun h=>FZ 0 h lo fun l=>some (.slice i (bc (Nat.beq m l) o (Nat.add o (Nat.mul l size))) (Nat.sub h l) (Nat.sub m l) false)) none v
noncomputable def Dl (o:Option (T→AV)) (r:T):Option AV:=ob none (fun g=>some (g r)) o
noncomputable def ac2 (v:AV):Option Nat:=jb (some 0) (fun _ _ n _ _=>some n) (qF (fun s=>some (iE s)) (kM v) v) v
noncomputable def Rg (h:aw) (size n:Nat) (v:AV):Option (List AV):=
 jb (bc (Nat.beq n 0) (some []) none) (fun i o len _ _=>bc (Nat.ble n len) (ob none (fun obj=>yE (fun cs _ _=>bc (Nat.ble (Nat.add o (Nat.mul n size)) (iE cs)) (some (so (sm cs o) (Nat.mul n size))) none) none obj) (h.get i)) none)
  (eU h size n v) v
noncomputable def ac3 (elem:TypeId) (size bytes:Nat) (h:aw) (s x:AV):Option (AV×aw):=
 ob none (fun n=>ob none (fun new=>bc (yG VT new) (bc (Nat.beq (iE new) (Nat.mul n size))
  (jb
   (bc (Nat.beq n 0) (some (.aN,h)) (bc (Nat.ble (Nat.mul (Nat.add (Nat.mul 4 n) 4096) (Nat.add bytes 1)) 1099511627776)
    (ob none (fun h'=>some (.slice h.nx 0 n n true,h')) (h.new (.cells new elem false))) none))
   (fun i o len cap op=>ob none (fun obj=>yE (fun cs e ro=>bc ro none
    (bc (Nat.ble (Nat.add len n) cap)
     (bc (Nat.ble (Nat.add o (Nat.mul (Nat.add len n) size)) (iE cs)) (some (.slice i o (Nat.add len n) cap op,h.put i (some (.cells (H9 new cs (Nat.add o (Nat.mul len size))) e false)))) none)
     (bc (Nat.ble (Nat.mul (Nat.add (Nat.mul 4 (Nat.add len n)) 4096) (Nat.add bytes 1)) 1099511627776)
      (bc (Nat.ble (Nat.add o (Nat.mul len size)) (iE cs))
       (bc op
        (bc (Nat.beq e elem) (bc (Nat.beq (Nat.add o (Nat.mul cap size)) (iE cs)) (bc (Nat.beq o 0)
         (ob none (fun h'=>some (.slice h.nx 0 (Nat.add len n) (Nat.add len n) true,h')) ((h.put i none).new (.cells (kN (so (sm cs o) (Nat.mul len size)) new) elem false))) none) none) none)
        (ob none (fun h'=>some (.slice h.nx 0 (Nat.add len n) (Nat.add len n) true,h')) (h.new (.cells (kN (so (sm cs o) (Nat.mul len size)) new) elem false)))) none) none)))
    none obj) (h.get i))
   none s) none) none) (Rg h size n x)) (ac2 x)
noncomputable def OA (argTypes:Array TypeId) (gs gx:T→AV):Kd T:=match iG argTypes.toList 0,iG argTypes.toList 1 with
 | some sT,some xT=>match jB E.P sT,jB E.P xT with
   | some (.slice elem),some xd=>if ks xd then .wr fun r h=>rR E h elem (gs r) (gx r) else match vW E elem,byF E elem,JX E elem with
     | some size,some bytes,some z=>if z.cells.length=size then .wr fun r h=>ac3 elem size bytes h (gs r) (gx r) else .bad
     | _,_,_=> .bad
   | _,_=> .bad
 | _,_=> .bad
noncomputable def V0 {β:Type} (l:List (Nat×Operand)) (k:(F.T→List (Nat×AV))→β) (d:β):β:=match l with
 | []=>k fun _=> []
 | (i,x)::xs=>wO E F n x (fun g=>V0 xs (fun gs=>k fun r=>(i,g r)::gs r) d) d
noncomputable def AQ (fs:List Field):Option (List (Nat×Nat)):=List.rec (motive:=fun _=>Option (List (Nat×Nat))) (some []) (fun f _ ih=>ob none (fun n=>ob none (fun l=>some ((f.offset,n)::l)) ih) (vW E f.type)) fs
noncomputable def Ii (ps:List (Nat×Nat)) (cs:List AV) (l:List (Nat×AV)):Option (List AV):=
 List.rec (motive:=fun _=>List AV→Option (List AV)) (fun cs=>some cs) (fun p _ ih cs=>ob none (fun (q:Nat×Nat)=>bc (Nat.beq (iE (kS p.2)) q.2) (bc (Nat.ble (Nat.add q.1 q.2) (iE cs)) (ih (H9 (kS p.2) cs q.1)) none) none) (iG ps p.1)) l cs
noncomputable def aad (z:List AV) (m:Nat):List AV:=Nat.rec (motive:=fun _=>List AV) [] (fun _ ih=>kN z ih) m
noncomputable def V1 (elem:TypeId) (bytes:Nat) (z:List AV) (l c:AV):Option (aR×(Nat→AV)):=
 oa (fun _ len=>oa (fun _ cap=>ku (fun len=>ku (fun cap=>bc (Nat.ble len cap) (bc (Nat.ble 1073741824 cap) none (bc (Nat.ble (Nat.mul bytes cap) 140737488355328)
  (some (.cells (aad z cap) elem false,fun i=> .slice i 0 len cap false)) none)) none) none cap) none len) none c) none l
noncomputable def findF (k:List UInt8) (l:List gO):Option (Option AV):=List.rec (motive:=fun _=>Option (Option AV)) (some none) (fun e _ ih=>qF (fun s=>bc (leq Bq k s) (some (some e.val)) ih) none e.key) l
noncomputable def V2 {R:Type} (f:List gO→R) (d:R) (o:aR):R:=
 aR.rec (motive:=fun _=>R) (fun _ _ _=>d) (fun es _=>f es) (fun _ _=>d) (fun _ _ _ _=>d) (fun _ _ _ _ _ _ _=>d) d o
noncomputable def ac4 {R:Type} (e:R) (f:Nat→R) (d:R) (v:AV):R:=
 AV.rec (motive_1:=fun _=>R) (motive_2:=fun _=>Unit) (fun _=>d) (fun _ _=>d) (fun _=>d) d (fun _ _=>d) d (fun _ _ _ _ _=>d) e (fun i=>f i) (fun _ _ _ _ _=>d) (fun _=>d) d (fun _ _ _=>d) d (fun _ _=>d) (fun _ _=>d) d d () (fun _ _ _ _=>()) v
noncomputable def MP (h:aw) (m:AV):Option AV:=
 ac4 (some (.int .i64 (Int.ofNat 0))) (fun i=>ob none (fun o=>V2 (fun es=>some (.int .i64 (Int.ofNat (iE es)))) none o) (h.get i)) none m
noncomputable def MQ (z:AV) (ok:Bool) (h:aw) (m k:AV):Option AV:=
 qF (fun s=>ob none (fun es=>ob none (fun r=>some (ob (bc ok (.tuple [z,.bool false]) z) (fun v=>bc ok (.tuple [v,.bool true]) v) r)) (findF s es))
  (ac4 (some []) (fun i=>ob none (fun o=>V2 (fun es=>some es) none o) (h.get i)) none m)) none k
noncomputable def mu (o:iQ):yj:=iQ.rec (motive:=fun _=>yj) .val .panic .fail o
noncomputable def Ij (t:TypeId) (name:String):Option FuncId:=vX E t name
noncomputable def Yj (c:Call) (op:Op):Kd F.T:=match c.callee with
 | .invoke x name=>wO E F n x (fun gx=>wL E F n c.args.toList (fun gs=> .ub fun call r h _=>qG
  (fun t v=>ob (.fail "" none) (fun f=>mu (call (.fn f) (v::gs r) h)) (Ij E t name)) (.fail "" none) (gx r)) .bad) .bad
 | .value (.func f)=>wL E F n c.args.toList (fun gs=>match E.lX f with
   | some e=> .gD fun r=>e (gs r)
   | none=>match E.ij f with
     | some g=> .wr fun r h=>g (gs r) h
     | none=> .call (.fn f) gs) .bad
 | .value x=>wO E F n x (fun gf=>wL E F n c.args.toList (fun gs=> .ub fun call r h _=>ML
  (fun g first captured=>ob (mu (call (.fn g) (kN first (kN (gs r) captured)) h)) (fun sp=>ob (.fail "" none) (fun p=> .val p.1 p.2) (sp (kN first (kN (gs r) captured)) h)) (E.ij g))
  (fun l=>mu (call (.uV l) (gs r) h)) (.fail "" none) (gf r)) .bad) .bad
 | .builtin .len=>match iG c.argTypes.toList 0,c.args.toList with
   | some t,[x]=>wO E F n x (fun g=>match jB E.P t with
     | some .string=> .gD fun r=>qF (fun s=>some (.int .i64 (Int.ofNat (iE s)))) none (g r)
     | some (.array m _)=> .gD fun _=>some (.int .i64 (Int.ofNat m))
     | some (.slice _)=> .gD fun r=>jb (some (.int .i64 (Int.ofNat 0))) (fun _ _ m _ _=>some (.int .i64 (Int.ofNat m))) (vZ (some (.int .i64 (Int.ofNat 0))) none (g r)) (g r)
     | some (.map _ _)=> .red fun r h=>MP h (g r)
     | _=> .bad) .bad
   | _,_=> .bad
 | .builtin .cap=>match iG c.argTypes.toList 0,c.args.toList with
   | some t,[x]=>wO E F n x (fun g=>match jB E.P t with
     | some (.slice _)=> .gD fun r=>jb (some (.int .i64 (Int.ofNat 0))) (fun _ _ _ c b=>bc b none (some (.int .i64 (Int.ofNat c)))) none (g r)
     | _=> .bad) .bad
   | _,_=> .bad
 | .builtin .max=> .gD fun r=>bF E (eW F n r) op
 | .builtin .min=> .gD fun r=>bF E (eW F n r) op
 | .builtin .append=>match c.args.toList with
   | [s,x]=>wO E F n s (fun gs=>wO E F n x (fun gx=>OA E c.argTypes gs gx) .bad) .bad
   | _=> .bad
 | .builtin .copy=>match c.args.toList with
   | [s,x]=>wO E F n s (fun gs=>wO E F n x (fun gx=> .wr fun r h=>uy E h c.argTypes (gs r) (gx r)) .bad) .bad
   | _=> .bad
 | .builtin .recover=> .ub fun _ _ h rc=>match rc with
   | .gV x=> .rq x
   | .rN _=> .fail "" none
   | _=> .val .nilIface h
 | _=> .bad
noncomputable def MR (src dst:TypeId) (g:T→AV):Kd T:=match jB E.P src,jB E.P dst with
 | some (.int _),some (.int k)=> .gD fun r=>oa (fun _ n=>some (.int k (uC k n))) none (g r)
 | some .string,some .string=> .gD fun r=>qF (fun s=>some (.str s)) none (g r)
 | some (.slice e),some .string=>match jB E.P e with
   | some (.int .u8)=> .red fun r h=>jb (some (.str [])) (fun i o len _ _=>ob none (fun l=>some (.str l)) (E5 h i o len)) none (g r)
   | _=> .bad
 | some .string,some (.slice _)=> .wr fun r h=>DJ E h src dst (some (g r))
 | _,_=> .bad
noncomputable def uD (op:Op):Kd F.T:=match op with
 | .move x=>wO E F n x .Hj .bad
 | .assign x=>wO E F n x .Hj .bad
 | .pick c a b=>wO E F n c (fun gc=>wO E F n a (fun ga=>wO E F n b (fun gb=> .gD fun r=>ja (fun t=>bc t (some (ga r)) (some (gb r))) none (gc r)) .bad) .bad) .bad
 | .binOp op t x y _=>wO E F n x (fun gx=>wO E F n y (fun gy=>cE op (jM E op t (isConst x) (isConst y)) gx gy) .bad) .bad
 | .unOp op _ x=>wO E F n x (unK op) .bad
 | .fieldAddr s x f=>match fiF E s f with
   | some fd=>match vW E fd.type with
     | some (_+1)=>wO E F n x (fun g=> .gD fun r=>yC (fun i o=>some (.ptr i (Nat.add o fd.offset))) none (g r)) .bad
     | _=> .bad
   | none=> .bad
 | .load t a=>wO E F n a (fun g=>wE E t fun p=> .red fun r h=>Ih p h (g r)) .bad
 | .store t a x=>match vW E t with
   | some m=>wO E F n a (fun ga=>wO E F n x (fun gx=> .wr fun r h=>Bv m h (ga r) (gx r)) .bad) .bad
   | none=> .bad
 | .nilCheck x=>wO E F n x (fun g=> .gD fun r=>bc (FP (g r)) (some (g r)) none) .bad
 | .extract x i=>wO E F n x (fun g=> .gD fun r=>yD (fun _=>none) (fun vs=>iG vs i) none (g r)) .bad
 | .field s x f=>match fiF E s f with
   | some fd=>wO E F n x (fun g=>wE E fd.type fun p=> .gD fun r=>yD (fun cs=>p cs fd.offset) (fun _=>none) none (g r)) .bad
   | none=> .bad
 | .indexAddr t x ix=>wO E F n x (fun gx=>wO E F n ix (fun gi=>match jB E.P t with
   | some (.array len elem)=>match vW E elem with
     | some size=> .gD fun r=>yC (fun i o=>FY len size i o (gi r)) none (gx r)
     | none=> .bad
   | some (.slice elem)=>match vW E elem with
     | some size=> .gD fun r=>jb none (fun i o len _ _=>FY len size i o (gi r)) none (gx r)
     | none=> .bad
   | _=> .bad) .bad) .bad
 | .index t x ix=>wO E F n x (fun gx=>wO E F n ix (fun gi=>match jB E.P t with
   | some .string=> .gD fun r=>qF (fun s=>oa (fun _ i=>ku (fun m=>ob none (fun (b:UInt8)=>some (.int .u8 (Int.ofNat b.toNat))) (iG s m)) none i) none (gi r)) none (gx r)
   | _=> .gD fun r=>bF E (eW F n r) op) .bad) .bad
 | .slice t x lo hi none=>wO E F n x (fun gx=>wP E F n lo (fun gl=>wP E F n hi (fun gh=>match jB E.P t with
   | some (.slice elem)=>match vW E elem with
     | some size=> .gD fun r=>slF size (Dl gl r) (Dl gh r) (gx r)
     | none=> .bad
   | some .string=> .gD fun r=>slS (Dl gl r) (Dl gh r) (gx r)
   | some (.array m elem)=>match vW E elem with
     | some size=> .gD fun r=>slA m size (Dl gl r) (Dl gh r) (gx r)
     | none=> .bad
   | _=> .gD fun r=>bF E (eW F n r) op) .bad) .bad) .bad
 | .convert src dst x=>wO E F n x (MR E src dst) .bad
 | .makeInterface t x=>match jB E.P t with
   | some (.interface _)=> .bad
   | some _=>wO E F n x (fun g=> .Hj fun r=> .iface t (g r)) .bad
   | none=> .bad
 | .makeFunc (.func f) first captured=>wL E F n first.toList (fun ga=>wL E F n captured.toList (fun gb=> .Hj fun r=> .func f (ga r) (gb r)) .bad) .bad
 | .alloc t=>match JX E t with
   | some z=> .rV fun _=>some (.cells z.cells t false,fun i=> .ptr i 0)
   | none=> .bad
 | .box t x=>wO E F n x (fun g=> .rV fun r=>some (.cells (kS (g r)) t false,fun i=> .ptr i 0)) .bad
 | .buildSlice t len parts=>match jB E.P t with
   | some (.slice elem)=>match vW E elem,JX E elem with
     | some m,some z=>if z.cells.length=m∧len*m≤2^24 then V0 E F n parts.toList (fun gp=> .rV fun r=>ob none (fun cs=>some (.cells cs elem false,fun i=> .slice i 0 len len false)) (rp (fun i=>some (i*m,m)) (eB z.cells len) (gp r))) .bad else .bad
     | _,_=> .bad
   | _=> .bad
 | .makeSlice t l c=>wO E F n l (fun gl=>wO E F n c (fun gc=>match jB E.P t with
   | some (.slice elem)=>match vW E elem,byF E elem,JX E elem with
     | some m,some bytes,some z=>if z.cells.length=m then .rV fun r=>V1 elem bytes z.cells (gl r) (gc r) else .bad
     | _,_,_=> .bad
   | _=> .bad) .bad) .bad
 | .makeMap _ none=> .rV fun _=>some (.map [] 0,fun i=> .map i)
 | .makeMap .. | .range .. => .rV fun r=>et E (eW F n r) op
 | .lookup t x ix ok=>wO E F n x (fun gx=>wO E F n ix (fun gi=>match jB E.P t with
   | some (.map key elem)=>match jB E.P key,JX E elem with
     | some .string,some z=> .red fun r h=>MQ z ok h (gx r) (gi r)
     | _,_=> .red fun r h=>dS E (eW F n r) h op
   | _=> .bad) .bad) .bad
 | .build t parts=>match JX E t,jB E.P t with
   | some z,some (.struct fs)=>match AQ E fs.toList with
     | some ps=>V0 E F n parts.toList (fun gp=> .gD fun r=>ob none (fun cs=>some (.agg cs)) (Ii ps (kS z) (gp r))) .bad
     | none=> .bad
   | _,_=> .gD fun r=>bF E (eW F n r) op
 | .slice .. | .typeAssert .. => .gD fun r=>bF E (eW F n r) op
 | .mapUpdate t m k x=>wO E F n m (fun gm=>wO E F n k (fun gk=>wO E F n x (fun gx=> .wr fun r h=>ob none (fun h'=>some (AV.undef,h')) (eK E h t (gm r) (gk r) (gx r))) .bad) .bad) .bad
 | .insert t m k x=>wO E F n m (fun gm=>wO E F n k (fun gk=>wO E F n x (fun gx=> .wr fun r h=>ob none (fun h'=>some (AV.undef,h')) (eK E h t (gm r) (gk r) (gx r))) .bad) .bad) .bad
 | .next it s=>wO E F n it (fun g=> .wr fun r h=>DI h (g r) s) .bad
 | .panic x=>wO E F n x (fun g=> .ub fun _ r h _=>qG (fun t w=> .panic (.iface t w) h) (.fail "" none) (g r)) .bad
 | .defer c=> .ub fun _ r _ rc=>match rc,callee E (eW F n r) c with
   | .rN _,_=> .fail "" none
   | _,some (.fn f,args)=> .defer (.call f args)
   | _,_=> .fail "" none
 | .call c=>Yj E F n c op
 | _=> .bad
noncomputable def KE (kd:Kd T) (s:AV→T→T) (j:I T):I T:=match kd with
 | .Hj g=>⟨fun call r h y=>j.run call (s (g r) r) h y⟩
 | .gD f=>⟨fun call r h y=>ob .bad (fun v=>j.run call (s v r) h y) (f r)⟩
 | .red f=>⟨fun call r h y=>ob .bad (fun v=>j.run call (s v r) h y) (f r h)⟩
 | .rV f=>⟨fun call r h y=>ob .bad (fun p=>ob .bad (fun h'=>j.run call (s (p.2 h.nx) r) h' y) (h.new p.1)) (f r)⟩
 | .wr f=>⟨fun call r h y=>ob .bad (fun p=>j.run call (s p.1 r) p.2 y) (f r h)⟩
 | .call g args=>⟨fun call r h y=>iQ.rec (motive:=fun _=>FO T) (fun v h'=>j.run call (s v r) h' y) (fun v h'=> .jmp (.panic v) r h' y) (fun _ _=> .bad) (call g (args r) h)⟩
 | .ub f=>⟨fun call r h y=>yj.rec (motive:=fun _=>FO T) (fun v h'=>j.run call (s v r) h' y) (fun d=>j.run call (s AV.undef r) h ⟨d::y.ds,y.rc⟩) (fun v=>j.run call (s v r) h ⟨y.ds,.done⟩)
  (fun v h'=> .jmp (.panic v) r h' y) (fun _ _=> .bad) (f call r h y.rc)⟩
 | .bad=>⟨fun _ _ _ _=> .bad⟩
noncomputable def Yk (s:AV→T→T) (j:I T):I T:=⟨fun call r h y=>j.run call (s AV.undef r) h y⟩
noncomputable def KH (g:T→AV) (want:Bool) (a b:I T):I T:=match want with
 | true=>⟨fun call r h y=>ja (fun t=>bc t (a.run call r h y) (b.run call r h y)) (b.run call r h y) (g r)⟩
 | false=>⟨fun call r h y=>ja (fun t=>bc t (b.run call r h y) (a.run call r h y)) (b.run call r h y) (g r)⟩
noncomputable def MS (ops:Array Oper) (o:Oper) (a b:I F.T):I F.T:=match o.guard with
 | none=>a
 | some (j,want)=>match ob none (fun p=>p.dst) (iG ops.toList j) with
   | some d=>bc (Nat.ble n d) b (wA (F.get d) fun g=>KH g want a b)
   | none=>b
noncomputable def Ri (ops:Array Oper) (o:Oper) (j:I F.T):I F.T:=wS F n o.dst fun s=>MS F n ops o (KE (uD E F n o.op) s j) (Yk s j)
noncomputable def tP (ops:Array Oper) (l:List Oper):I F.T:=List.rec (motive:=fun _=>I F.T) ⟨fun _ r h y=> .Ig r h y⟩ (fun o _ j=>Ri E F n ops o j) l
noncomputable def ac5 (yK:AV→AV→Bool) (x y:AV):Bool:=
 oa (fun k a=>oa (fun j b=>bc (Q3 k j) (Yf a b) false) false y)
  (qF (fun s=>qF (fun t=>leq Bq s t) false y)
   (yC (fun i o=>yC (fun j p=>bc (Nat.beq i j) (Nat.beq o p) false) false y)
    (ja (fun a=>ja (fun b=>bc a b (vl b)) false y) (yK x y) x) x) x) x
noncomputable def Bw (m:Nat):AV→AV→Bool:=Nat.rec (motive:=fun _=>AV→AV→Bool) (fun _ _=>false)
 (fun i ih x y=>ac5 (fun x y=>yD (fun a=>yD (fun b=>leq ih a b) (fun _=>false) false y) (fun _=>AV.same (i+1) x y) (AV.same (i+1) x y) x) x y) m
structure OB where
 k:Nat
 m:Nat
 made:Option Nat
 f:aw→Bool
inductive DO (T:Type) where
 | ok (tr:List OB) (hs:List aw) (r:T) (h:aw) (y:Y)
 | bad
structure D (T:Type) where
 run:bj→T→aw→Y→DO T
noncomputable def D5 (x:OB) (d:DO T):DO T:=DO.rec (motive:=fun _=>DO T) (fun tr hs r h y=> .ok (x::tr) hs r h y) .bad d
noncomputable def qI (h0:aw) (d:DO T):DO T:=DO.rec (motive:=fun _=>DO T) (fun tr hs r h y=> .ok tr (h0::hs) r h y) .bad d
noncomputable def MT (kd:Kd T) (s:AV→T→T) (j:D T):D T:=match kd with
 | .wr f=>⟨fun call r h y=>ob .bad (fun p=>qI h (j.run call (s p.1 r) p.2 y)) (f r h)⟩
 | .call g args=>⟨fun call r h y=>iQ.rec (motive:=fun _=>DO T) (fun v h'=>qI h (j.run call (s v r) h' y)) (fun _ _=> .bad) (fun _ _=> .bad) (call g (args r) h)⟩
 | .ub f=>⟨fun call r h y=>yj.rec (motive:=fun _=>DO T) (fun v h'=>qI h (j.run call (s v r) h' y)) (fun _=> .bad) (fun _=> .bad) (fun _ _=> .bad) (fun _ _=> .bad) (f call r h y.rc)⟩
 | _=>⟨fun _ _ _ _=> .bad⟩
noncomputable def MU (k m:Nat) (kd:Kd T) (s:AV→T→T) (j:D T):D T:=match kd with
 | .Hj g=>⟨fun call r h y=>j.run call (s (g r) r) h y⟩
 | .gD f=>⟨fun call r h y=>ob .bad (fun v=>j.run call (s v r) h y) (f r)⟩
 | .red f=>⟨fun call r h y=>ob .bad (fun v=>D5 ⟨k,m,none,fun h'=>ob false (fun v'=>Bw 20 v' v) (f r h')⟩ (j.run call (s v r) h y)) (f r h)⟩
 | .rV f=>⟨fun call r h y=>ob .bad (fun p=>ob .bad (fun h'=>D5 ⟨k,m,some h.nx,fun MV=>ob false (fun o=>aR.same o p.1) (MV.get h.nx)⟩ (j.run call (s (p.2 h.nx) r) h' y)) (h.new p.1)) (f r)⟩
 | _=>⟨fun _ _ _ _=> .bad⟩
noncomputable def Rj (s:AV→T→T) (j:D T):D T:=⟨fun call r h y=>j.run call (s AV.undef r) h y⟩
noncomputable def KI (s:AV→T→T) (j:D T):D T:=⟨fun call r h y=>qI h (j.run call (s AV.undef r) h y)⟩
noncomputable def Rl (g:T→AV) (want:Bool) (a b:D T):D T:=match want with
 | true=>⟨fun call r h y=>ja (fun t=>bc t (a.run call r h y) (b.run call r h y)) (b.run call r h y) (g r)⟩
 | false=>⟨fun call r h y=>ja (fun t=>bc t (b.run call r h y) (a.run call r h y)) (b.run call r h y) (g r)⟩
noncomputable def zD (ops:Array Oper) (o:Oper) (a b:D F.T):D F.T:=match o.guard with
 | none=>a
 | some (j,want)=>match ob none (fun p=>p.dst) (iG ops.toList j) with
   | some d=>bc (Nat.ble n d) b (wA (F.get d) fun g=>Rl g want a b)
   | none=>b
noncomputable def iU (ops:Array Oper) (pl:lL) (l:List Nat):Nat→D F.T:=List.rec (motive:=fun _=>Nat→D F.T) (fun _=>⟨fun _ r h y=> .ok [] [h] r h y⟩)
 (fun i _ ih k=>ob ⟨fun _ _ _ _=> .bad⟩ (fun o=>wS F n o.dst fun s=>
  bc (pV E o.op) (canon (Nat.add k 1) fun k'=>zD F n ops o (MT (uD E F n o.op) s (ih k')) (KI s (ih k')))
   (canon (Nat.sub (Nat.add (AP pl.bP pl.an i) 1) k) fun m=>zD F n ops o (MU k m (uD E F n o.op) s (ih k)) (Rj s (ih k)))) (iG ops.toList i)) l
noncomputable def MW (tr:List OB):List Nat:=List.rec (motive:=fun _=>List Nat) [] (fun x _ ih=>ob ih (fun i=>i::ih) x.made) tr
noncomputable def qJ (tr:List OB) (hs:List aw):Bool:=bc (FX (MW tr)) (yG (fun x=>yG x.f (so (sm hs x.k) x.m)) tr) false
noncomputable def V3 (ops:Array Oper) (pl:lL) (call:bj) (r:F.T) (h:aw) (y:Y):FO F.T:=match pl.order.reverse with
 | []=> .bad
 | i::front=>match (iU E F n ops pl front.reverse 0).run call r h y,ops[i]? with
   | .ok tr hs r1 h1 y1,some ⟨dst,.call c,ty,pos,after,guard⟩=>
     match fj E (.call c)&&cz ops (eW F n r1) ⟨dst,.call c,ty,pos,after,guard⟩&&(List.range ops.size).all (fun j=>j==i||dD pl.an i j),
      dm E call (eW F n r1) h1 y1.rc ⟨dst,.call c,ty,pos,after,guard⟩ with
     | true,.panic v h'=>match qJ tr (hs++[h']) with
       | true=> .jmp (.panic v) r1 h' y1
       | false=> .bad
     | _,_=> .bad
   | _,_=> .bad
noncomputable def MX (ops:Array Oper):I F.T:=Ra E ops (fun pl=>
 ⟨fun call r h y=>DO.rec (motive:=fun _=>FO F.T) (fun tr hs r' h' y'=>bc (qJ tr hs) (.Ig r' h' y') .bad) (V3 E F n ops pl call r h y) ((iU E F n ops pl pl.order 0).run call r h y)⟩) ⟨fun _ _ _ _=> .bad⟩
def Ym (r:T) (o:Out):FO T:=match o with
 | .ok .normal s=> .Ig r s.h ⟨s.ds,s.rc⟩
 | .ok e s=> .jmp e r s.h ⟨s.ds,s.rc⟩
 | .fail _ _=> .bad
noncomputable def F0 (f:Operand) (ps:Array Tmp) (as_ bd:Code):I F.T:=
 wO E F n f (fun _=>⟨fun call r h y=>Ym r (kP E call f ps as_ bd ⟨eW F n r,h,y.ds,y.rc⟩)⟩) ⟨fun _ _ _ _=> .bad⟩
noncomputable def nS {R:Type} (d:R) (k:Nat→R) (m:Nat):R:=Nat.rec (motive:=fun _=>R) d (fun i _=>k i) m
noncomputable def fo {R:Type} (a:T→aw→Y→R) (b:h_→T→aw→Y→R) (d:R) (o:FO T):R:=FO.rec (motive:=fun _=>R) a b d o
noncomputable def Rm {R:Type} (f:Nat→R) (d:R) (e:h_):R:=h_.rec (motive:=fun _=>R) d f d (fun _=>d) e
noncomputable def Ro (b:C T) (m:Nat):bj→T→aw→Y→FO T:=
 Nat.rec (motive:=fun _=>bj→T→aw→Y→FO T) (fun _ _ _ _=> .bad) (fun i ih call r h y=>fo (fun r' h' y'=>ih call r' h' y') .jmp .bad (b.run i call r h y)) m
noncomputable def V4 (i:I T):C T:=⟨fun m call r h y=>nS .bad (fun _=>i.run call r h y) m⟩
noncomputable def mw (c:Code):C F.T:=Code.rec (motive:=fun _=>C F.T)
 ⟨fun m _ r h y=>nS .bad (fun _=> .Ig r h y) m⟩
 (fun _ ops draw=>bc draw (V4 (MX E F n ops)) (V4 (tP E F n ops ops.toList)))
 (fun _ _ a b=>⟨fun m call r h y=>nS .bad (fun i=>fo (fun r' h' y'=>b.run i call r' h' y') .jmp .bad (a.run i call r h y)) m⟩)
 (fun x _ _ a b=>wO E F n x (fun g=>⟨fun m call r h y=>nS .bad (fun i=>ja (fun t=>bc t (a.run i call r h y) (b.run i call r h y)) .bad (g r)) m⟩) ⟨fun _ _ _ _ _=> .bad⟩)
 (fun id _ b=>⟨fun m call r h y=>nS .bad (fun i=>fo .Ig (fun e r' h' y'=>Rm (fun j=>bc (Nat.beq j id) (.Ig r' h' y') (.jmp e r' h' y')) (.jmp e r' h' y') e) .bad (b.run i call r h y)) m⟩)
 (fun _ b=>⟨fun m call r h y=>Ro b m call r h y⟩)
 (fun f ps as_ bd _ _=>V4 (F0 E F n f ps as_ bd))
 (fun id=>⟨fun m _ r h y=>nS .bad (fun _=> .jmp (.exit id) r h y) m⟩)
 (fun _ b=>⟨fun m call r h y=>nS .bad (fun i=>b.run i call r h y) m⟩)
 (fun _=>⟨fun m _ r h y=>nS .bad (fun _=> .Ig r h y) m⟩)
 (fun _=>⟨fun _ _ _ _ _=> .bad⟩)
 ⟨fun m _ r h y=>nS .bad (fun _=> .jmp .ret r h y) m⟩
 (fun _=>⟨fun _ _ _ _ _=> .bad⟩) c
end
section
variable (E:Env)
inductive BO where
 | fin (res:aw→Option (List AV)) (h:aw) (y:Y)
 | pan (v:AV) (res:aw→Option (List AV)) (h:aw) (y:Y)
 | bad
structure CF where
 run:Nat→bj→List AV→aw→RC→BO
noncomputable def yL (F:RF) (n:Nat):List ResultVar→W (F.T→aw→Option (List AV))
 | []=>⟨fun _ _=>some []⟩
 | .tmp t::rest=>wT F n t fun g=>wW (yL F n rest) fun k=>⟨fun r h=>ob none (fun vs=>some (g r::vs)) (k r h)⟩
 | .cell a t::rest=>wT F n a fun g=>wW (yL F n rest) fun k=>⟨fun r h=>ob none (fun v=>ob none (fun vs=>some (v::vs)) (k r h)) (bE E h t (g r))⟩
noncomputable def Rp (F:RF) (n:Nat) (fn:Func) (b:Code):CF:=
 wW (yL E F n fn.results.toList) fun res=>⟨fun fuel call args h rc=>bc (Nat.ble (iE args) n)
  (fo (fun r h' y=> .fin (res r) h' y) (fun e r h' y=>h_.rec (motive:=fun _=>BO) .bad (fun _=> .bad) (.fin (res r) h' y) (fun v=> .pan v (res r) h' y) e) .bad
   ((mw E F n b).run fuel call (P_ F args F.z 0) h ⟨[],rc⟩)) .bad⟩
noncomputable def zE (f:FuncId):CF:=match Z' E.P f with
 | none=>⟨fun _ _ _ _ _=> .bad⟩
 | some fn=>match fn.body with
   | none=>⟨fun _ _ _ _ _=> .bad⟩
   | some b=>bc (Nat.ble fn.ntmps 64) (Rp E rf2 fn.ntmps fn b) (bc (Nat.ble fn.ntmps 512) (Rp E rf3 fn.ntmps fn b) ⟨fun _ _ _ _ _=> .bad⟩)
noncomputable def bo {R:Type} (a:(aw→Option (List AV))→aw→Y→R) (b:AV→(aw→Option (List AV))→aw→Y→R) (d:R) (o:BO):R:=BO.rec (motive:=fun _=>R) a b d o
noncomputable def MY (F:RF) (call:bj) (fuel:Nat) (c:Code) (s:St):Out:=
 fo (fun r h y=> .ok .normal ⟨eW F s.ts.length r,h,y.ds,y.rc⟩) (fun e r h y=> .ok e ⟨eW F s.ts.length r,h,y.ds,y.rc⟩) (.fail "" none) ((mw E F s.ts.length c).run fuel call (P_ F s.ts F.z 0) s.h ⟨s.ds,s.rc⟩)
noncomputable def MZ (call:bj) (fuel:Nat) (c:Code) (s:St):Out:=
 bc (Nat.ble s.ts.length 64) (MY E rf2 call fuel c s) (bc (Nat.ble s.ts.length 512) (MY E rf3 call fuel c s) (.fail "" none))
noncomputable def Bx (call:bj) (fuel:Nat) (l:Nat) (args:List AV) (h:aw):iQ:=match h.get l with
 | some (.loop _ _ ts ps as_ bd _)=>if args.length=ps.length then
  match MZ E call fuel as_ {ts:=(ps.zip args).foldl (fun ts x=>ts.set x.1 x.2) ts,h,ds:=[],rc:= .rN l} with
  | .ok .normal s1=>match s1.h.get l with
    | some (.loop .ready pd U0 Qi PU U1 U2)=>
      match MZ E call fuel bd {s1 with h:=s1.h.put l (some (.loop .busy pd U0 Qi PU U1 U2))} with
      | .ok .normal s2=>An l none s2
      | .ok .ret s2=>An l (some .ret) s2
      | .ok (.exit id) s2=>An l (some (.exit id)) s2
      | .ok (.panic v) s2=>if s2.ds.isEmpty then .panic v s2.h else .fail "round defers" none
      | .fail why q=> .fail why q
    | _=> .fail "round state" none
  | .ok _ _=> .fail "round assign" none
  | .fail why q=> .fail why q
   else .fail "round args" none
 | _=> .fail "round" none
noncomputable def g_ (call:bj) (fuel:Nat) (g:FuncId) (as_:List AV) (h:aw) (rc:RC):Option (aw×RC):=
 bo (fun res h' y=>bc y.ds.isEmpty (ob none (fun _=>some (h',y.rc)) (res h')) none) (fun _ _ _ _=>none) none ((zE E g).run fuel call as_ h rc)
noncomputable def Ik (call:bj) (fuel:Nat) (p:Option AV) (res:aw→Option (List AV)) (h:aw) (ds:List pw):iQ:=match cK (g_ E call fuel) ds p h with
 | none=> .fail "unwind" none
 | some (some v,h')=> .panic v h'
 | some (none,h')=>ob (.fail "results" none) (fun vs=> .ret (fO vs) h') (res h')
noncomputable def fFn {R:Type} (a:FuncId→R) (b:Nat→R) (f:Fn):R:=Fn.rec (motive:=fun _=>R) a b f
noncomputable def Il {α R:Type} (a b:R) (l:List α):R:=List.rec (motive:=fun _=>R) a (fun _ _ _=>b) l
noncomputable def ac6 (fuel:Nat) (call:bj) (g:Fn) (args:List AV) (h:aw):iQ:=
 fFn (fun f=>bo (fun res h' y=>Il (ob (.fail "results" none) (fun vs=> .ret (fO vs) h') (res h')) (Ik E call fuel none res h' y.ds) y.ds)
  (fun v res h' y=>Il (.panic v h') (Ik E call fuel (some v) res h' y.ds) y.ds) (.fail "body" none) ((zE E f).run fuel call args h .no))
  (fun l=>Bx E call fuel l args h) g
noncomputable def zF (d fuel:Nat):bj:=Nat.rec (motive:=fun _=>bj) (fun _ _ _=> .fail "depth" none) (fun _ ih=>ac6 E fuel ih) d
end
end Go.Ab.Fa
end
section
namespace Go.Ab.Fa
theorem V5 {α R:Type} {d:R} {f:α→R} {a:α}:ob d f (some a)=f a:=rfl
theorem iV {R:Type} (x y:R):bc true x y=x:=rfl
theorem dV {R:Type} (x y:R):bc false x y=y:=rfl
theorem gz {α β:Type} {f:α→Option β} {o:Option α} {v:β} (h:ob none f o=some v):∃a,o=some a∧f a=some v:=by
 cases o with
 | none=>exact absurd h (by intro e;cases e)
 | some a=>exact ⟨a,rfl,h⟩
theorem fq {β:Type} {b:Bool} {x:Option β} {v:β} (h:bc b x none=some v):b=true∧x=some v:=by
 cases b with
 | false=>cases h
 | true=>exact ⟨rfl,h⟩
theorem qK {β:Type} {b:Bool} {x:Option β} {v:β} (h:bc b none x=some v):b=false∧x=some v:=by
 cases b with
 | false=>exact ⟨rfl,h⟩
 | true=>cases h
theorem D6 {β:Type} {f:Bool→Option β} {a:AV} {v:β} (h:ja f none a=some v):∃b,a= .bool b∧f b=some v:=by
 cases a with
 | bool b=>exact ⟨b,rfl,h⟩
 | _=>exact absurd h (by intro e;cases e)
theorem jc {β:Type} {f:IntKind→Int→Option β} {a:AV} {v:β} (h:oa f none a=some v):∃k n,a= .int k n∧f k n=some v:=by
 cases a with
 | int k n=>exact ⟨k,n,rfl,h⟩
 | _=>exact absurd h (by intro e;cases e)
theorem oe {β:Type} {f:List UInt8→Option β} {a:AV} {v:β} (h:qF f none a=some v):∃s,a= .str s∧f s=some v:=by
 cases a with
 | str s=>exact ⟨s,rfl,h⟩
 | _=>exact absurd h (by intro e;cases e)
theorem sw {β:Type} {f:Nat→Nat→Option β} {a:AV} {v:β} (h:yC f none a=some v):∃i o,a= .ptr i o∧f i o=some v:=by
 cases a with
 | ptr i o=>exact ⟨i,o,rfl,h⟩
 | _=>exact absurd h (by intro e;cases e)
theorem og {β:Type} {e:Option β} {f:Nat→Nat→Nat→Nat→Bool→Option β} {a:AV} {v:β} (h:jb e f none a=some v):
 (a= .aN∧e=some v)∨∃i o l c b,a= .slice i o l c b∧f i o l c b=some v:=by
 cases a with
 | aN=>exact .inl ⟨rfl,h⟩
 | slice i o l c b=>exact .inr ⟨i,o,l,c,b,rfl,h⟩
 | _=>exact absurd h (by intro e;cases e)
theorem Im {β:Type} {e z:Option β} {f:Nat→Nat→Nat→Nat→Bool→Option β} {a:AV} {v:β} (h:jb e f (vZ z none a) a=some v):
 (a= .aN∧e=some v)∨(∃i o l c b,a= .slice i o l c b∧f i o l c b=some v)∨(a= .dQ∧z=some v):=by
 cases a with
 | aN=>exact .inl ⟨rfl,h⟩
 | slice i o l c b=>exact .inr (.inl ⟨i,o,l,c,b,rfl,h⟩)
 | dQ=>exact .inr (.inr ⟨rfl,h⟩)
 | _=>exact absurd h (by intro e;cases e)
theorem oh {β:Type} {f:Nat→Option β} {n:Int} {v:β} (h:ku f none n=some v):∃m:Nat,n=(m:Int)∧f m=some v:=by
 cases n with
 | ofNat m=>exact ⟨m,rfl,h⟩
 | negSucc m=>cases h
theorem qL {β:Type} {f:List AV→TypeId→Bool→Option β} {o:aR} {v:β} (h:yE f none o=some v):∃cs e ro,o= .cells cs e ro∧f cs e ro=some v:=by
 cases o with
 | cells cs e ro=>exact ⟨cs,e,ro,rfl,h⟩
 | _=>exact absurd h (by intro e;cases e)
theorem ft {a b:Nat} (h:Nat.ble a b=true):a≤b:=Nat.le_of_ble_eq_true h
theorem jU {a b:Nat} (h:Nat.ble a b=false):b<a:=by
 apply Decidable.byContradiction;intro hn
 rw[Nat.ble_eq_true_of_le (by omega)] at h;cases h
theorem lN {a b:Nat} (h:Nat.beq a b=true):a=b:=Nat.eq_of_beq_eq_true h
theorem M1 {k j:IntKind} (h:Q3 k j=true):k=j:=by
 cases k<;>cases j<;>first | rfl | exact absurd h (by intro e;cases e)
theorem wF (b:Bool):vl b= !b:=by cases b<;>rfl
theorem Rq {k:IntKind} (h:Ye k=false) (n:Int):k.wrap n=n%(uf k:Int):=by
 cases k<;>first | (cases h;done) | simp [IntKind.wrap,IntKind.bits,IntKind.signed,uf,Z9]
theorem Rr {k:IntKind} (h:Ye k=true) {m:Nat} (hm:m<uf k):k.wrap (Int.negSucc m)=Int.negSucc m:=by
 have hb:(2^(k.bits - 1):Int)=(uf k:Int)∧(2^k.bits:Int)=2*(uf k:Int)∧k.signed=true:=by
  cases k<;>first | (cases h;done) | (refine ⟨rfl,rfl,rfl⟩)
 obtain ⟨h1,h2,h3⟩:=hb
 unfold IntKind.wrap
 rw[h1,h2,h3,Int.negSucc_eq]
 generalize uf k=B at *
 have e: -((m:Int)+1)%(2*(B:Int))=2*(B:Int) -(m+1):=by
  rw[←Int.add_emod_right]
  exact Int.emod_eq_of_lt (by omega) (by omega)
 rw[e]
 simp only[Bool.true_and,decide_eq_true_eq]
 rw[if_pos (by omega)]
 omega
theorem oi (k:IntKind) (n:Int):uC k n=k.wrap n:=by
 cases n with
 | ofNat m=>
   show bc (Nat.ble (uf k) m) (bc (Ye k) (k.wrap (Int.ofNat m)) (Int.ofNat (Nat.mod m (uf k)))) (Int.ofNat m)=_
   cases h:Nat.ble (uf k) m
   · have h:=jU h
     rw[dV]
     cases k<;>simp [IntKind.wrap,IntKind.bits,IntKind.signed]<;>simp only[uf,Z9] at h<;>omega
   · rw[iV]
     cases hs:Ye k
     · rw[dV,Rq hs];rfl
     · rw[iV]
 | negSucc m=>
   show bc (Ye k) (bc (Nat.ble (uf k) m) (k.wrap (Int.negSucc m)) (Int.negSucc m)) (k.wrap (Int.negSucc m))=_
   cases hs:Ye k
   · rw[dV]
   · rw[iV]
     cases h:Nat.ble (uf k) m
     · have h:=jU h
       rw[dV]
       exact (Rr hs h).symm
     · rw[iV]
theorem V6 (a b:Int):Q5 a b=a+b:=by
 cases a<;>cases b<;>rfl
theorem V7 (a b:Int):wC a b=a - b:=by
 cases a with
 | negSucc x=>rfl
 | ofNat x=>
   cases b with
   | negSucc y=>rfl
   | ofNat y=>
     show bc (Nat.ble y x) (Int.ofNat (x - y)) (Int.negSucc (y - x - 1))=_
     cases h:Nat.ble y x
     · have h:=jU h
       rw[dV,Int.negSucc_eq];simp only[Int.ofNat_eq_natCast];omega
     · have h:=ft h
       rw[iV];simp only[Int.ofNat_eq_natCast];omega
theorem M3 (a b:Int):Q6 a b=a*b:=by
 cases a<;>cases b<;>rfl
theorem KJ (a b:Int):Yf a b=(a==b):=by
 have:Yf a b=decide (a=b):=by
  cases a with
  | ofNat x=>cases b with
    | ofNat y=>
      show Nat.beq x y=_
      rw[←Aw]
      by_cases h:x=y
      · subst h;simp
      · rw[show (x==y)=false by simp [h]];symm;apply decide_eq_false;simp only[Int.ofNat_eq_natCast];omega
    | negSucc y=>simp;rfl
  | negSucc x=>cases b with
    | ofNat y=>simp;rfl
    | negSucc y=>
      show Nat.beq x y=_
      rw[←Aw]
      by_cases h:x=y
      · subst h;simp
      · simp [h]
 rw[this];rfl
theorem F1 (a b:Int):VQ a b=decide (a<b):=by
 cases a with
 | ofNat x=>cases b with
   | ofNat y=>
     show Nat.ble (x+1) y=_
     rw[←tO];simp only[Int.ofNat_eq_natCast];congr 1;apply propext;omega
   | negSucc y=>
     symm;exact decide_eq_false (by rw[Int.negSucc_eq];simp only[Int.ofNat_eq_natCast];omega)
 | negSucc x=>cases b with
   | ofNat y=>
     symm;exact decide_eq_true (by rw[Int.negSucc_eq];simp only[Int.ofNat_eq_natCast];omega)
   | negSucc y=>
     show Nat.ble (y+1) x=_
     rw[←tO];congr 1;apply propext;rw[Int.negSucc_eq,Int.negSucc_eq];omega
theorem By (a b:Int):(!decide (a<b))=decide (b≤a):=by
 by_cases h:a<b
 · rw[decide_eq_true h,decide_eq_false (by omega)];rfl
 · rw[decide_eq_false h,decide_eq_true (by omega)];rfl
theorem V8 (k:IntKind) {x:Nat} (h:x<uf k):x<2^k.bits:=by
 cases k<;>simp only[uf,Z9,IntKind.bits] at * <;>omega
theorem M4 (k:IntKind) {x:Nat} (h:x<uf k):k.wrap (x:Int)=x:=by
 have:=oi k (Int.ofNat x)
 rw[Int.ofNat_eq_natCast] at this
 rw[←this]
 show bc (Nat.ble (uf k) x) _ (Int.ofNat x)=_
 rw[nO h];rfl
theorem V9 (k:IntKind):∃m,uf k=2^m:=by
 cases k
 · exact ⟨7,rfl⟩
 · exact ⟨15,rfl⟩
 · exact ⟨31,rfl⟩
 · exact ⟨63,rfl⟩
 · exact ⟨8,rfl⟩
 · exact ⟨16,rfl⟩
 · exact ⟨32,rfl⟩
 · exact ⟨64,rfl⟩
theorem toNat_ofInt (k:IntKind) {x:Nat} (h:x<uf k):(BitVec.ofInt k.bits (Int.ofNat x)).toNat=x:=by
 rw[Int.ofNat_eq_natCast,BitVec.ofInt_natCast,BitVec.toNat_ofNat]
 exact Nat.mod_eq_of_lt (V8 k h)
theorem V_ (op:BinOp) (k:IntKind) (a b:Int) {v:AV} (h:VS op k a b=some v):cZ op k a b=some v:=by
 cases op<;>simp only[VS] at h<;>try exact h
 · simpa [cZ,oi,V6] using h
 · simpa [cZ,oi,V7] using h
 · simpa [cZ,oi,M3] using h
 · cases a with
   | negSucc x=>exact h
   | ofNat x=>cases b with
     | negSucc y=>exact h
     | ofNat y=>
       obtain ⟨h1,h2⟩:=qK h
       rw[oi] at h2
       have:y≠0:=by intro e;subst e;cases h1
       rw[←h2];simp [cZ,this];exact congrArg k.wrap (Int.natCast_ediv x y).symm
 · cases a with
   | negSucc x=>exact h
   | ofNat x=>cases b with
     | negSucc y=>exact h
     | ofNat y=>
       obtain ⟨h1,h2⟩:=qK h
       have:y≠0:=by intro e;subst e;cases h1
       rw[←h2];simp [cZ,this];rfl
 · cases a with
   | negSucc x=>exact h
   | ofNat x=>cases b with
     | negSucc y=>exact h
     | ofNat y=>
       change bc (Nat.ble (uf k) x) _ (bc (Nat.ble (uf k) y) _ _)=_ at h
       cases h1:Nat.ble (uf k) x with
       | true=>rw[h1] at h;exact h
       | false=>cases h2:Nat.ble (uf k) y with
         | true=>rw[h1,h2] at h;exact h
         | false=>
           rw[h1,h2] at h
           have h1:=jU h1;have h2:=jU h2
           rw[←h,dV,dV]
           show some (AV.int k (k.wrap ((BitVec.ofInt k.bits (Int.ofNat x)&&& BitVec.ofInt k.bits (Int.ofNat y)).toNat:Int)))=_
           rw[BitVec.toNat_and,toNat_ofInt k h1,toNat_ofInt k h2,M4 k (Nat.lt_of_le_of_lt Nat.and_le_left h1)]
           rfl
 · cases a with
   | negSucc x=>exact h
   | ofNat x=>cases b with
     | negSucc y=>exact h
     | ofNat y=>
       change bc (Nat.ble (uf k) x) _ (bc (Nat.ble (uf k) y) _ _)=_ at h
       cases h1:Nat.ble (uf k) x with
       | true=>rw[h1] at h;exact h
       | false=>cases h2:Nat.ble (uf k) y with
         | true=>rw[h1,h2] at h;exact h
         | false=>
           rw[h1,h2] at h
           have h1:=jU h1;have h2:=jU h2
           rw[←h,dV,dV]
           show some (AV.int k (k.wrap ((BitVec.ofInt k.bits (Int.ofNat x)||| BitVec.ofInt k.bits (Int.ofNat y)).toNat:Int)))=_
           rw[BitVec.toNat_or,toNat_ofInt k h1,toNat_ofInt k h2,M4 k]
           · rfl
           · obtain ⟨m,hm⟩:=V9 k
             rw[hm] at h1 h2 ⊢
             exact Nat.or_lt_two_pow h1 h2
 · simpa [cZ,KJ] using h
 · simpa [cZ,KJ,wF,bne] using h
 · simpa [cZ,F1] using h
 · simpa [cZ,F1,wF,By] using h
 · simpa [cZ,F1] using h
 · simpa [cZ,F1,wF,By] using h
theorem V' (op:BinOp) (k:IntKind) (a b:Int):(Rc op).f k a b=VS op k a b:=by
 cases op<;>rfl
theorem Rs (k:IntKind):Q4 k=k.bits:=by cases k<;>rfl
theorem M5 (k:IntKind) (y:Nat):Q7 k y=min y k.bits:=by
 unfold Q7;rw[Rs]
 cases h:Nat.ble k.bits y
 · have:=jU h;rw[dV];omega
 · have:=ft h;rw[iV];omega
theorem Wa {k:IntKind} {x y:Int} {v:AV} (h:ac0 k x y=some v):¬y<0∧v= .int k (k.wrap (x*2^(min y.toNat k.bits))):=by
 obtain ⟨m,rfl,h⟩:=oh h
 refine ⟨by omega,?_⟩
 have h:=Option.some.inj h
 rw[←h,oi,M3,M5]
 simp
theorem Wb {k:IntKind} {x y:Int} {v:AV} (h:ac1 k x y=some v):¬y<0∧v= .int k (x.fdiv (2^(min y.toNat k.bits))):=by
 obtain ⟨m,rfl,h⟩:=oh h
 refine ⟨by omega,?_⟩
 have h:=Option.some.inj h
 rw[←h]
 cases x with
 | negSucc x=>simp [ku]
 | ofNat x=>
   show AV.int k (Int.ofNat (x/2^Q7 k m))=_
   rw[M5]
   simp
   rw[show (2^min m k.bits:Int)=((2^min m k.bits:Nat):Int) by simp]
   exact (Int.fdiv_eq_ediv_of_nonneg _ (Int.natCast_nonneg _)).symm
end Go.Ab.Fa
end
section
namespace Go.Ab.Fa
section
variable {α:Type}
theorem pX (l:List α) (o:Nat):sm l o=l.drop o:=by
 induction l generalizing o with
 | nil=>simp [sm]
 | cons v tl ih=>
   show bc (Nat.beq o 0) (v::tl) (sm tl (o - 1))=_
   rw[ih]
   cases o with
   | zero=>rfl
   | succ o=>simp [show Nat.beq (o+1) 0=false from rfl,dV]
theorem pY (l:List α) (o:Nat):so l o=l.take o:=by
 induction l generalizing o with
 | nil=>simp [so]
 | cons v tl ih=>
   show bc (Nat.beq o 0) [] (v::so tl (o - 1))=_
   rw[ih]
   cases o with
   | zero=>rfl
   | succ o=>simp [show Nat.beq (o+1) 0=false from rfl,dV]
theorem OC (vs:List α):∀(cs:List α) (k:Nat),(H8 vs cs)[k]? =if k<vs.length∧k<cs.length then vs[k]? else cs[k]? :=by
 induction vs with
 | nil=>intro cs k;rw[if_neg (by simp)];rfl
 | cons v vs ih=>
   intro cs k
   cases cs with
   | nil=>rw[if_neg (by simp)];rfl
   | cons c tl=>
     show (v::H8 vs tl)[k]? =_
     cases k with
     | zero=>rw[if_pos (by simp)];rfl
     | succ k=>simp only[List.getElem?_cons_succ,ih,List.length_cons,Nat.add_lt_add_iff_right]
theorem Rt (vs:List α):∀(cs:List α) (o k:Nat),(H9 vs cs o)[k]? =if o≤k∧k<o+vs.length∧k<cs.length then vs[k - o]? else cs[k]? :=by
 intro cs
 induction cs with
 | nil=>intro o k;rw[if_neg (by simp)];rfl
 | cons c tl ih=>
   intro o k
   show (bc (Nat.beq o 0) (H8 vs (c::tl)) (c::H9 vs tl (o - 1)))[k]? =_
   cases o with
   | zero=>
     show (H8 vs (c::tl))[k]? =_
     rw[OC];simp
   | succ o=>
     show (c::H9 vs tl o)[k]? =_
     cases k with
     | zero=>rw[if_neg (by omega)];rfl
     | succ k=>
       rw[List.getElem?_cons_succ,ih,List.getElem?_cons_succ,List.length_cons]
       by_cases h:o≤k∧k<o+vs.length∧k<tl.length
       · rw[if_pos h,if_pos (by omega),show k+1 -(o+1)=k - o by omega]
       · rw[if_neg h,if_neg (by omega)]
end
theorem F2 (vs cs:List AV) (o:Nat):H9 vs cs o=setFrom cs o vs:=by
 apply List.ext_getElem?;intro k;rw[Rt,eC]
theorem KL (l m:List UInt8):leq Bq l m=(l==m):=by
 have key:∀a b:UInt8,Bq a b=(a==b):=by
  intro a b
  unfold Bq
  rw[←Aw]
  by_cases h:a=b
  · subst h;simp
  · rw[show (a==b)=false by simp [h]]
    rw[beq_eq_false_iff_ne]
    intro e;apply h
    have:a.toNat=b.toNat:=e
    exact UInt8.toNat_inj.mp this
 induction l generalizing m with
 | nil=>cases m<;>rfl
 | cons x tl ih=>
   cases m with
   | nil=>rfl
   | cons y tm=>
     show bc (Bq x y) (leq Bq tl tm) false=_
     rw[ih,key,od];rfl
theorem Wc (op:BinOp) (a b:List UInt8):(Oz op).f a b=uU op a b:=by
 cases op<;>first | rfl | (simp only[Oz,uU,KL,wF])
theorem Wd (v:AV):VT v=AV.scalar v:=by cases v<;>rfl
theorem Io:VT=AV.scalar:=funext Wd
theorem OD (v:AV):FP v=true→(match (some v:Option AV) with
 | some (.ptr i o)=>some (.ptr i o)
 | some (.map i)=>some (.map i)
 | some (.slice i o l c b)=>some (.slice i o l c b)
 | some (.func f a b)=>some (.func f a b)
 | _=>none)=some v:=by
 cases v<;>intro h<;>first | rfl | exact absurd h (by intro e;cases e)
theorem Ip {f:TypeId→AV→yj} {why:String} {o:Option Oper} (a:AV):(∃t v,a= .iface t v)∨qG f (.fail why o) a= .fail why o:=by
 cases a with
 | iface t v=>exact .inl ⟨t,v,rfl⟩
 | _=>exact .inr rfl
theorem lO (v:AV):kS v=v.cells:=by cases v<;>rfl
section
variable (E:Env) (F:RF) (n:Nat)
theorem F3 {β:Type} (i:Nat) (k:(F.T→AV)→β):∃g,wT F n i k=k g∧∀r,(eW F n r).getD i AV.undef=g r:=by
 unfold wT
 cases h:Nat.ble n i
 · refine ⟨(F.get i).f,rfl,fun r=>?_⟩
   rw[H7,if_pos (jU h)]
 · refine ⟨fun _=>AV.undef,rfl,fun r=>?_⟩
   rw[H7,if_neg (by have:=ft h;omega)]
theorem bY {β:Type} (x:Operand) (k:(F.T→AV)→β) (d:β):wO E F n x k d=d∨∃g,wO E F n x k d=k g∧∀r,eh E (eW F n r) x=some (g r):=by
 cases x with
 | tmp t=>
   obtain ⟨g,h1,h2⟩:=F3 F n t k
   exact .inr ⟨g,h1,fun r=>by rw[←h2];rfl⟩
 | const v=>
   simp only[wO]
   cases h:ofConst v with
   | none=>exact .inl rfl
   | some a=>exact .inr ⟨fun _=>a,rfl,fun r=>h⟩
 | global g=>
   simp only[wO]
   cases h:Nat.ble E.G g
   · exact .inr ⟨fun _=> .ptr g 0,rfl,fun r=>by rw[eh,if_pos (jU h)]⟩
   · exact .inl rfl
 | func f=>exact .inr ⟨fun _=> .func f [] [],rfl,fun r=>rfl⟩
theorem tQ {β:Type}:∀(l:List Operand) (k:(F.T→List AV)→β) (d:β),wL E F n l k d=d∨∃g,wL E F n l k d=k g∧∀r,fI E (eW F n r) l=some (g r)
 | [],k,d=> .inr ⟨fun _=> [],rfl,fun r=>rfl⟩
 | x::xs,k,d=>by
   rw[wL]
   rcases bY E F n x (fun g=>wL E F n xs (fun gs=>k fun r=>g r::gs r) d) d with h | ⟨g,h,hg⟩
   · exact .inl h
   · rcases tQ xs (fun gs=>k fun r=>g r::gs r) d with h' | ⟨gs,h',hgs⟩
     · exact .inl (h.trans h')
     · refine .inr ⟨_,h.trans h',fun r=>?_⟩
       have:=hgs r
       unfold fI at *
       rw[eF,hg r];simp only[this]
theorem M6 {β:Type} (o:Option Operand) (k:Option (F.T→AV)→β) (d:β):wP E F n o k d=d∨∃g,wP E F n o k d=k g∧∀r,ml E (eW F n r) o=some (Dl g r):=by
 cases o with
 | none=>exact .inr ⟨none,rfl,fun r=>rfl⟩
 | some x=>
   rcases bY E F n x (fun g=>k (some g)) d with h | ⟨g,h,hg⟩
   · exact .inl h
   · exact .inr ⟨some g,h,fun r=>by rw[ml,hg r];rfl⟩
theorem Bz {β:Type}:∀(l:List (Nat×Operand)) (k:(F.T→List (Nat×AV))→β) (d:β),V0 E F n l k d=d∨∃g,V0 E F n l k d=k g∧∀r,jN E (eW F n r) l=some (g r)
 | [],k,d=> .inr ⟨fun _=> [],rfl,fun r=>rfl⟩
 | (i,x)::xs,k,d=>by
   rw[V0]
   rcases bY E F n x (fun g=>V0 E F n xs (fun gs=>k fun r=>(i,g r)::gs r) d) d with h | ⟨g,h,hg⟩
   · exact .inl h
   · rcases Bz xs (fun gs=>k fun r=>(i,g r)::gs r) d with h' | ⟨gs,h',hgs⟩
     · exact .inl (h.trans h')
     · refine .inr ⟨_,h.trans h',fun r=>?_⟩
       rw[jN,hg r];simp only[hgs r]
theorem M7 {β:Type} (hn:n≤F.N) (o:Option Tmp) (k:(AV→F.T→F.T)→β):∃s,wS F n o k=k s∧∀v r,dJ (eW F n r) o v=eW F n (s v r):=by
 cases o with
 | none=>exact ⟨fun _ r=>r,rfl,fun v r=>rfl⟩
 | some i=>
   show ∃s,bc (Nat.ble n i) (k fun _ r=>r) (wU (F.set i) k)=k s∧_
   cases h:Nat.ble n i
   · exact ⟨(F.set i).f,rfl,fun v r=>VO F n hn r (jU h) v⟩
   · refine ⟨fun _ r=>r,rfl,fun v r=>?_⟩
     show (eW F n r).set i v=_
     rw[List.set_eq_of_length_le (by rw[iv];exact ft h)]
theorem om (t:TypeId):vW E t=bZ E t:=by
 unfold vW bZ;rw[su];cases E.P.info? t<;>rfl
theorem Ru (t:TypeId):byF E t=fm E t:=by
 unfold byF fm;rw[su];split
 · rfl
 · cases E.P.info? t<;>rfl
theorem yM (t:TypeId):JX E t=ff E t:=by
 unfold JX ff;rw[su]
 cases E.P.info? t with
 | none=>rfl
 | some i=>show ob none (fun z=>ofConst z) i.zero=_;cases h:i.zero<;>simp [ob,h]
theorem aae (t:TypeId):agF E t=eT E t:=by
 unfold agF eT;rw[iw];rfl
theorem Rv (t:TypeId) (f:Nat):fiF E t f=mn E t f:=by
 unfold fiF mn;rw[iw]
 generalize E.P.underlying t=u
 cases u with
 | none=>rfl
 | some d=>cases d with
   | struct fs=>show iG fs.toList f=fs[f]?;rw[gJ];exact Array.getElem?_toList
   | _=>rfl
def sx (op:Op):Prop:=(∀ts,bF E ts op=none)∧(∀ts h,dS E ts h op=none)∧∀ts,et E ts op=none
def jV (f g:bj):Prop:=∀F as_ h,(∀v h',f F as_ h= .ret v h'→g F as_ h= .ret v h')∧∀v h',f F as_ h= .panic v h'→g F as_ h= .panic v h'
def Yn (a b:yj):Prop:=match a with
 | .fail _ _=>True
 | a=>b=a
def fK (op:Op):Kd F.T→Prop
 | .Hj g=>∀r,bF E (eW F n r) op=some (g r)
 | .gD f=>∀r v,f r=some v→bF E (eW F n r) op=some v
 | .red f=>∀r h v,f r h=some v→bF E (eW F n r) op=some v∨(bF E (eW F n r) op=none∧dS E (eW F n r) h op=some v)
 | .rV f=>(∀ts,bF E ts op=none)∧(∀ts h,dS E ts h op=none)∧∀r p,f r=some p→et E (eW F n r) op=some p
 | .wr f=>sx E op∧∀call r h rc o p,o.op=op→f r h=some p→dm E call (eW F n r) h rc o= .val p.1 p.2
 | .call g args=>sx E op∧∀call r h rc o,o.op=op→dm E call (eW F n r) h rc o=mu (call g (args r) h)
 | .ub f=>sx E op∧∀fc call,jV fc call→∀r h rc o,o.op=op→Yn (f fc r h rc) (dm E call (eW F n r) h rc o)
 | .bad=>True
end
end Go.Ab.Fa
end
section
namespace Go.Ab.Fa
variable {E:Env} {F:RF} {n:Nat}
theorem Wf {op:BinOp} (h1:op≠ .shl) (h2:op≠ .shr) {t:TypeId} {xc yc:Bool} {a b v:AV} (h:VZ (Rc op).f (Oz op).f (jM E op t xc yc) a b=some v):jM E op t xc yc a b=some v:=by
 unfold VZ at h
 cases a with
 | int k x=>
   obtain ⟨j,y,rfl,h3⟩:=jc (show oa (fun j y=>bc (Q3 k j) ((Rc op).f k x y) none) none b=some v from h)
   obtain ⟨hk,h4⟩:=fq h3
   have hk:=M1 hk
   rw[V'] at h4
   have:=V_ op k x y h4
   rw[←hk]
   cases op<;>first | exact absurd rfl h1 | exact absurd rfl h2 | simpa [jM] using this
 | str s=>
   obtain ⟨s',rfl,h3⟩:=oe (show qF (fun t=>(Oz op).f s t) none b=some v from h)
   rw[Wc] at h3
   cases op<;>first | exact absurd rfl h1 | exact absurd rfl h2 | simpa [jM] using h3
 | _=>exact h
theorem Wg (op:BinOp) (t:TypeId) (x y:Operand) (yt:TypeId) (gx gy:F.T→AV) (hx:∀r,eh E (eW F n r) x=some (gx r)) (hy:∀r,eh E (eW F n r) y=some (gy r)):
 fK E F n (.binOp op t x y yt) (cE op (jM E op t (isConst x) (isConst y)) gx gy):=by
 have red:∀r,bF E (eW F n r) (.binOp op t x y yt)=jM E op t (isConst x) (isConst y) (gx r) (gy r):=by
  intro r;simp only[bF,hx,hy]
 by_cases h1:op= .shl
 · subst h1
   intro r v h
   rw[red]
   obtain ⟨k,m,e1,h⟩:=jc h
   obtain ⟨k',m',e2,h⟩:=jc h
   obtain ⟨h3,rfl⟩:=Wa h
   rw[e1,e2];simp [jM,h3]
 by_cases h2:op= .shr
 · subst h2
   intro r v h
   rw[red]
   obtain ⟨k,m,e1,h⟩:=jc h
   obtain ⟨k',m',e2,h⟩:=jc h
   obtain ⟨h3,rfl⟩:=Wb h
   rw[e1,e2];simp [jM,h3]
 have:cE op (jM E op t (isConst x) (isConst y)) gx gy= .gD fun r=>VZ (Rc op).f (Oz op).f (jM E op t (isConst x) (isConst y)) (gx r) (gy r):=by
  cases op<;>first | exact absurd rfl h1 | exact absurd rfl h2 | rfl
 rw[this]
 intro r v h
 rw[red]
 exact Wf h1 h2 h
theorem aaf (op:UnOp) (t:TypeId) (x:Operand) (g:F.T→AV) (hg:∀r,eh E (eW F n r) x=some (g r)):fK E F n (.unOp op t x) (unK op g):=by
 have red:∀r,bF E (eW F n r) (.unOp op t x)=unA op (g r):=by intro r;simp only[bF,hg]
 cases op with
 | not=>
   intro r v h
   rw[red]
   obtain ⟨b,e,h⟩:=D6 h
   rw[e,←h,wF];rfl
 | _=>intro r v h;rw[red];exact h
theorem Rw {t:TypeId} {m:Nat} (h1:eT E t=some true) (h2:bZ E t=some m) {cs:List AV} {o:Nat} {v:AV} (h:Rf m cs o=some v):gU E t cs o=some v:=by
 unfold Rf at h
 obtain ⟨h3,h⟩:=fq h
 have h3:=ft h3
 rw[fD] at h3
 unfold gU
 rw[h1,h2]
 simp only
 rw[if_pos (show o+m≤cs.length from h3),←h,pY,pX]
theorem Rx {t:TypeId} (h1:eT E t=some false) {cs:List AV} {o:Nat} {v:AV} (h:Re cs o=some v):gU E t cs o=some v:=by
 unfold Re at h
 rw[gJ] at h
 unfold gU
 rw[h1];exact h
theorem BA {T:Type} (t:TypeId) (k:(List AV→Nat→Option AV)→Kd T):wE E t k= .bad∨∃p,wE E t k=k p∧∀cs o v,p cs o=some v→gU E t cs o=some v:=by
 unfold wE
 rw[aae]
 cases h:eT E t with
 | none=>exact .inl rfl
 | some b=>cases b with
   | false=>exact .inr ⟨_,rfl,fun cs o v=>Rx h⟩
   | true=>
     simp only
     rw[om]
     cases h2:bZ E t with
     | none=>exact .inl rfl
     | some m=>exact .inr ⟨_,rfl,fun cs o v=>Rw h h2⟩
theorem Ry {t:TypeId} {p:List AV→Nat→Option AV} (hp:∀cs o v,p cs o=some v→gU E t cs o=some v) {h:aw} {a v:AV} (e:Ih p h a=some v):bE E h t a=some v:=by
 obtain ⟨i,o,rfl,e⟩:=sw e
 obtain ⟨obj,e1,e⟩:=gz e
 obtain ⟨cs,el,ro,rfl,e⟩:=qL e
 simp only[bE,e1]
 exact hp _ _ _ e
theorem Wh (t:TypeId) (a:Operand):fK E F n (.load t a) (wO E F n a (fun g=>wE E t fun p=> .red fun r h=>Ih p h (g r)) .bad):=by
 rcases bY E F n a (fun g=>wE E t fun p=>(.red fun r h=>Ih p h (g r):Kd F.T)) .bad with h | ⟨g,h,hg⟩<;>rw[h]
 · trivial
 · rcases BA (E:=E) t (fun p=>(.red fun r h=>Ih p h (g r):Kd F.T)) with h | ⟨p,h,hp⟩<;>rw[h]
   · trivial
   · intro r h v e
     refine .inr ⟨rfl,?_⟩
     simp only[dS,hg]
     exact Ry hp e
theorem Rz (s:TypeId) (x:Operand) (f:Nat):fK E F n (.field s x f) (match fiF E s f with
 | some fd=>wO E F n x (fun g=>wE E fd.type fun p=> .gD fun r=>yD (fun cs=>p cs fd.offset) (fun _=>none) none (g r)) .bad
 | none=> .bad):=by
 rw[Rv]
 cases h0:mn E s f with
 | none=>trivial
 | some fd=>
   simp only
   rcases bY E F n x (fun g=>wE E fd.type fun p=>(.gD fun r=>yD (fun cs=>p cs fd.offset) (fun _=>none) none (g r):Kd F.T)) .bad with h | ⟨g,h,hg⟩<;>rw[h]
   · trivial
   · rcases BA (E:=E) fd.type (fun p=>(.gD fun r=>yD (fun cs=>p cs fd.offset) (fun _=>none) none (g r):Kd F.T)) with h | ⟨p,h,hp⟩<;>rw[h]
     · trivial
     · intro r v e
       change yD (fun cs=>p cs fd.offset) (fun _=>none) none (g r)=some v at e
       simp only[bF,h0,hg]
       cases hv:g r with
       | agg cs=>rw[hv] at e;exact hp _ _ _ e
       | _=>rw[hv] at e;exact absurd e (by intro e;cases e)
theorem F4 (s:TypeId) (x:Operand) (f:Nat):fK E F n (.fieldAddr s x f) (match fiF E s f with
 | some fd=>match vW E fd.type with
   | some (_+1)=>wO E F n x (fun g=> .gD fun r=>yC (fun i o=>some (.ptr i (Nat.add o fd.offset))) none (g r)) .bad
   | _=> .bad
 | none=> .bad):=by
 rw[Rv]
 cases h0:mn E s f with
 | none=>trivial
 | some fd=>
   simp only
   rw[om]
   cases h1:bZ E fd.type with
   | none=>trivial
   | some m=>cases m with
     | zero=>trivial
     | succ m=>
       simp only
       rcases bY E F n x (fun g=>(.gD fun r=>yC (fun i o=>some (.ptr i (Nat.add o fd.offset))) none (g r):Kd F.T)) .bad with h | ⟨g,h,hg⟩<;>rw[h]
       · trivial
       · intro r v e
         obtain ⟨i,o,e1,e⟩:=sw e
         simp only[bF,h0,hg,e1,h1]
         rw[if_neg (by omega)];exact e
theorem Iq (x:Operand):fK E F n (.nilCheck x) (wO E F n x (fun g=> .gD fun r=>bc (FP (g r)) (some (g r)) none) .bad):=by
 rcases bY E F n x (fun g=>(.gD fun r=>bc (FP (g r)) (some (g r)) none:Kd F.T)) .bad with h | ⟨g,h,hg⟩<;>rw[h]
 · trivial
 · intro r v e
   obtain ⟨h1,e⟩:=fq e
   simp only[bF,hg]
   rw[←e]
   exact OD _ h1
theorem KM (x:Operand) (i:Nat):fK E F n (.extract x i) (wO E F n x (fun g=> .gD fun r=>yD (fun _=>none) (fun vs=>iG vs i) none (g r)) .bad):=by
 rcases bY E F n x (fun g=>(.gD fun r=>yD (fun _=>none) (fun vs=>iG vs i) none (g r):Kd F.T)) .bad with h | ⟨g,h,hg⟩<;>rw[h]
 · trivial
 · intro r v e
   change yD (fun _=>none) (fun vs=>iG vs i) none (g r)=some v at e
   simp only[bF,hg]
   cases hv:g r with
   | tuple cs=>rw[hv] at e;show cs[i]? =some v;rw[←gJ];exact e
   | _=>rw[hv] at e;exact absurd e (by intro e;cases e)
theorem Wi (c a b:Operand):fK E F n (.pick c a b) (wO E F n c (fun gc=>wO E F n a (fun ga=>wO E F n b (fun gb=> .gD fun r=>ja (fun t=>bc t (some (ga r)) (some (gb r))) none (gc r)) .bad) .bad) .bad):=by
 rcases bY E F n c (fun gc=>wO E F n a (fun ga=>wO E F n b (fun gb=>(.gD fun r=>ja (fun t=>bc t (some (ga r)) (some (gb r))) none (gc r):Kd F.T)) .bad) .bad) .bad with h | ⟨gc,h,hc⟩<;>rw[h]
 · trivial
 rcases bY E F n a (fun ga=>wO E F n b (fun gb=>(.gD fun r=>ja (fun t=>bc t (some (ga r)) (some (gb r))) none (gc r):Kd F.T)) .bad) .bad with h | ⟨ga,h,ha⟩<;>rw[h]
 · trivial
 rcases bY E F n b (fun gb=>(.gD fun r=>ja (fun t=>bc t (some (ga r)) (some (gb r))) none (gc r):Kd F.T)) .bad with h | ⟨gb,h,hb⟩<;>rw[h]
 · trivial
 intro r v e
 obtain ⟨t,e1,e⟩:=D6 e
 simp only[bF,hc,e1]
 cases t
 · simp only[hb];exact e
 · simp only[ha];exact e
theorem M8 {len size i o:Nat} {ix v:AV} (e:FY len size i o ix=some v):∃k m,ix= .int k m∧0≤m∧m<len∧v= .ptr i (o+m.toNat*size):=by
 obtain ⟨k,m,rfl,e⟩:=jc e
 obtain ⟨m',rfl,e⟩:=oh e
 obtain ⟨h1,e⟩:=qK e
 have h1:=jU h1
 exact ⟨k,m',rfl,by omega,by omega,(Option.some.inj e).symm⟩
theorem F5 (t:TypeId) (x ix:Operand):fK E F n (.indexAddr t x ix) (wO E F n x (fun gx=>wO E F n ix (fun gi=>match jB E.P t with
 | some (.array len elem)=>match vW E elem with
   | some size=> .gD fun r=>yC (fun i o=>FY len size i o (gi r)) none (gx r)
   | none=> .bad
 | some (.slice elem)=>match vW E elem with
   | some size=> .gD fun r=>jb none (fun i o len _ _=>FY len size i o (gi r)) none (gx r)
   | none=> .bad
 | _=> .bad) .bad) .bad):=by
 rw[iw]
 rcases bY E F n x (fun gx=>wO E F n ix (fun gi=>match E.P.underlying t with
  | some (.array len elem)=>match vW E elem with
    | some size=>(.gD fun r=>yC (fun i o=>FY len size i o (gi r)) none (gx r):Kd F.T)
    | none=> .bad
  | some (.slice elem)=>match vW E elem with
    | some size=> .gD fun r=>jb none (fun i o len _ _=>FY len size i o (gi r)) none (gx r)
    | none=> .bad
  | _=> .bad) .bad) .bad with h | ⟨gx,h,hx⟩<;>rw[h]
 · trivial
 rcases bY E F n ix (fun gi=>match E.P.underlying t with
  | some (.array len elem)=>match vW E elem with
    | some size=>(.gD fun r=>yC (fun i o=>FY len size i o (gi r)) none (gx r):Kd F.T)
    | none=> .bad
  | some (.slice elem)=>match vW E elem with
    | some size=> .gD fun r=>jb none (fun i o len _ _=>FY len size i o (gi r)) none (gx r)
    | none=> .bad
  | _=> .bad) .bad with h | ⟨gi,h,hi⟩<;>rw[h]
 · trivial
 cases hu:E.P.underlying t with
 | none=>trivial
 | some d=>cases d with
   | array len elem=>
     simp only
     rw[om]
     cases hs:bZ E elem with
     | none=>trivial
     | some size=>
       intro r v e
       obtain ⟨i,o,e1,e⟩:=sw e
       obtain ⟨k,m,e2,h1,h2,rfl⟩:=M8 e
       simp only[bF,hu,hx,hi,e1,e2,hs]
       rw[if_pos ⟨h1,h2⟩]
   | slice elem=>
     simp only
     rw[om]
     cases hs:bZ E elem with
     | none=>trivial
     | some size=>
       intro r v e
       rcases og e with ⟨_,e⟩ | ⟨i,o,l,c,b,e1,e⟩
       · cases e
       obtain ⟨k,m,e2,h1,h2,rfl⟩:=M8 e
       simp only[bF,hu,hx,hi,e1,e2,hs]
       rw[if_pos ⟨h1,h2⟩]
   | _=>trivial
theorem RA (t:TypeId) (x ix:Operand):fK E F n (.index t x ix) (wO E F n x (fun gx=>wO E F n ix (fun gi=>match jB E.P t with
 | some .string=> .gD fun r=>qF (fun s=>oa (fun _ i=>ku (fun m=>ob none (fun (b:UInt8)=>some (.int .u8 (Int.ofNat b.toNat))) (iG s m)) none i) none (gi r)) none (gx r)
 | _=> .gD fun r=>bF E (eW F n r) (.index t x ix)) .bad) .bad):=by
 rw[iw]
 rcases bY E F n x (fun gx=>wO E F n ix (fun gi=>match E.P.underlying t with
  | some .string=>(.gD fun r=>qF (fun s=>oa (fun _ i=>ku (fun m=>ob none (fun (b:UInt8)=>some (.int .u8 (Int.ofNat b.toNat))) (iG s m)) none i) none (gi r)) none (gx r):Kd F.T)
  | _=> .gD fun r=>bF E (eW F n r) (.index t x ix)) .bad) .bad with h | ⟨gx,h,hx⟩<;>rw[h]
 · trivial
 rcases bY E F n ix (fun gi=>match E.P.underlying t with
  | some .string=>(.gD fun r=>qF (fun s=>oa (fun _ i=>ku (fun m=>ob none (fun (b:UInt8)=>some (.int .u8 (Int.ofNat b.toNat))) (iG s m)) none i) none (gi r)) none (gx r):Kd F.T)
  | _=> .gD fun r=>bF E (eW F n r) (.index t x ix)) .bad with h | ⟨gi,h,hi⟩<;>rw[h]
 · trivial
 cases hu:E.P.underlying t with
 | none=>intro r v e;exact e
 | some d=>cases d with
   | string=>
     intro r v e
     obtain ⟨s,e1,e⟩:=oe e
     obtain ⟨k,m,e2,e⟩:=jc e
     obtain ⟨m',rfl,e⟩:=oh e
     obtain ⟨b,e3,e⟩:=gz e
     rw[gJ] at e3
     simp only[bF,hu,hx,hi,e1,e2]
     rw[if_pos (by omega)]
     rw[show ((m':Int).toNat)=m' from rfl,e3]
     exact e
   | _=>intro r v e;exact e
theorem pa {d y:Nat} {o:Option AV} {k:Nat→Option AV} {v:AV} (e:FZ d y o k=some v):∃m,(match o with | some v=>nL v y | none=>some d)=some m∧k m=some v:=by
 cases o with
 | none=>exact ⟨d,rfl,e⟩
 | some a=>
   obtain ⟨kk,i,rfl,e⟩:=jc (show oa (fun _ i=>ku (fun m=>bc (Nat.ble m y) (k m) none) none i) none a=some v from e)
   obtain ⟨m,rfl,e⟩:=oh e
   obtain ⟨h1,e⟩:=fq e
   have h1:=ft h1
   refine ⟨m,?_,e⟩
   simp only[nL]
   rw[if_pos (by omega)];rfl
theorem tR {len cap h l:Nat} {lo hi:Option AV} (h1:(match hi with | some v=>nL v cap | none=>some len)=some h)
 (h2:(match lo with | some v=>nL v h | none=>some 0)=some l):kh len cap lo hi none=some (l,h,cap):=by
 cases hi with
 | none=>cases lo with
   | none=>cases h1;cases h2;rfl
   | some b=>cases h1;simp only[kh,Option.isSome_none];simp at h2;simp [h2]
 | some a=>cases lo with
   | none=>cases h2;simp only[kh];simp at h1;simp [h1]
   | some b=>simp only[kh];simp at h1 h2;simp [h1,h2]
theorem aag {t elem:TypeId} {size:Nat} (hu:E.P.underlying t=some (.slice elem)) (hs:bZ E elem=some size) {lo hi:Option AV} {x v:AV} (e:slF size lo hi x=some v):dx E t x lo hi none=some v:=by
 rcases og e with ⟨rfl,e1⟩ | ⟨i,o,len,cap,op,rfl,e1⟩
 · obtain ⟨h,h1,e2⟩:=pa e1
   obtain ⟨l,h2,e3⟩:=pa e2
   simp only[dx,hu,tR h1 h2,hs]
   exact e3
 · obtain ⟨h0,e2⟩:=fq e1
   have h0:=ft h0
   obtain ⟨h,h1,e3⟩:=pa e2
   obtain ⟨l,h2,e4⟩:=pa e3
   simp only[dx,hu,tR h1 h2,hs]
   rw[if_pos h0]
   cases h3:Nat.beq cap l
   · rw[h3,dV] at e4
     have:¬cap=l:=by intro ee;rw[ee,Nat.beq_refl] at h3;cases h3
     rw[if_neg this]
     simpa using e4
   · rw[h3,iV] at e4
     rw[if_pos (lN h3)]
     cases op
     · rw[dV] at e4;simpa using e4
     · rw[iV] at e4;simpa using e4
theorem aah {t:TypeId} (hu:E.P.underlying t=some .string) {lo hi:Option AV} {x v:AV} (e:slS lo hi x=some v):dx E t x lo hi none=some v:=by
 obtain ⟨s,rfl,e1⟩:=oe e
 obtain ⟨h,h1,e2⟩:=pa e1
 obtain ⟨l,h2,e3⟩:=pa e2
 rw[fD] at h1
 simp only[dx,hu,tR h1 h2]
 rw[←e3,pY,pX];rfl
theorem aai {t elem:TypeId} {m size:Nat} (hu:E.P.underlying t=some (.array m elem)) (hs:bZ E elem=some size) {lo hi:Option AV} {x v:AV} (e:slA m size lo hi x=some v):dx E t x lo hi none=some v:=by
 obtain ⟨i,o,rfl,e1⟩:=sw e
 obtain ⟨h,h1,e2⟩:=pa e1
 obtain ⟨l,h2,e3⟩:=pa e2
 simp only[dx,hu,tR h1 h2,hs]
 rw[←Option.some.inj e3]
 cases h3:Nat.beq m l
 · have:¬m=l:=by intro ee;rw[ee,Nat.beq_refl] at h3;cases h3
   rw[if_neg this];rfl
 · rw[if_pos (lN h3)];rfl
theorem RB (t:TypeId) (x:Operand) (lo hi:Option Operand):fK E F n (.slice t x lo hi none) (wO E F n x (fun gx=>wP E F n lo (fun gl=>wP E F n hi (fun gh=>match jB E.P t with
 | some (.slice elem)=>match vW E elem with
   | some size=> .gD fun r=>slF size (Dl gl r) (Dl gh r) (gx r)
   | none=> .bad
 | some .string=> .gD fun r=>slS (Dl gl r) (Dl gh r) (gx r)
 | some (.array m elem)=>match vW E elem with
   | some size=> .gD fun r=>slA m size (Dl gl r) (Dl gh r) (gx r)
   | none=> .bad
 | _=> .gD fun r=>bF E (eW F n r) (.slice t x lo hi none)) .bad) .bad) .bad):=by
 rw[iw]
 let K:(F.T→AV)→Option (F.T→AV)→Option (F.T→AV)→Kd F.T:=fun gx gl gh=>match E.P.underlying t with
  | some (.slice elem)=>match vW E elem with
    | some size=> .gD fun r=>slF size (Dl gl r) (Dl gh r) (gx r)
    | none=> .bad
  | some .string=> .gD fun r=>slS (Dl gl r) (Dl gh r) (gx r)
  | some (.array m elem)=>match vW E elem with
    | some size=> .gD fun r=>slA m size (Dl gl r) (Dl gh r) (gx r)
    | none=> .bad
  | _=> .gD fun r=>bF E (eW F n r) (.slice t x lo hi none)
 show fK E F n _ (wO E F n x (fun gx=>wP E F n lo (fun gl=>wP E F n hi (fun gh=>K gx gl gh) .bad) .bad) .bad)
 rcases bY E F n x (fun gx=>wP E F n lo (fun gl=>wP E F n hi (fun gh=>K gx gl gh) .bad) .bad) .bad with h | ⟨gx,h,hx⟩<;>rw[h]
 · trivial
 rcases M6 E F n lo (fun gl=>wP E F n hi (fun gh=>K gx gl gh) .bad) .bad with h | ⟨gl,h,hl⟩<;>rw[h]
 · trivial
 rcases M6 E F n hi (fun gh=>K gx gl gh) .bad with h | ⟨gh,h,hh⟩<;>rw[h]
 · trivial
 have red:∀r,bF E (eW F n r) (.slice t x lo hi none)=dx E t (gx r) (Dl gl r) (Dl gh r) none:=by
  intro r;simp only[bF,hx,hl,hh];rfl
 simp only[K]
 cases hu:E.P.underlying t with
 | none=>intro r v e;exact e
 | some d=>cases d with
   | string=>intro r v e;rw[red];exact aah hu e
   | array m elem=>
     simp only
     rw[om]
     cases hs:bZ E elem with
     | none=>trivial
     | some size=>intro r v e;rw[red];exact aai hu hs e
   | slice elem=>
     simp only
     rw[om]
     cases hs:bZ E elem with
     | none=>trivial
     | some size=>intro r v e;rw[red];exact aag hu hs e
   | _=>intro r v e;exact e
end Go.Ab.Fa
end
section
namespace Go.Ab.Fa
variable {E:Env} {F:RF} {n:Nat}
theorem OE {t:TypeId} {m:Nat} (hs:bZ E t=some m) {h:aw} {a v:AV} {p:AV×aw} (e:Bv m h a v=some p):p.1=AV.undef∧eG E h t a v=some p.2:=by
 obtain ⟨i,o,rfl,e1⟩:=sw e
 obtain ⟨obj,h1,e2⟩:=gz e1
 obtain ⟨cs,el,ro,rfl,e3⟩:=qL e2
 obtain ⟨h2,e4⟩:=qK e3
 obtain ⟨h3,e5⟩:=fq e4
 obtain ⟨h4,e6⟩:=fq e5
 obtain ⟨h5,e7⟩:=fq e6
 have h3:=lN h3
 have h4:=ft h4
 rw[fD,lO] at h3
 rw[fD] at h4
 rw[qH,Io,lO] at h5
 have e8:=Option.some.inj e7
 subst h2
 refine ⟨by rw[←e8],?_⟩
 simp only[eG,h1,hs]
 rw[if_pos ⟨h3,h4,h5⟩,←e8,F2,lO]
theorem Ir {t:TypeId} {a x:Operand}:sx E (.store t a x):=⟨fun _=>rfl,fun _ _=>rfl,fun _=>rfl⟩
theorem RD (t:TypeId) (a x:Operand):fK E F n (.store t a x) (match vW E t with
 | some m=>wO E F n a (fun ga=>wO E F n x (fun gx=> .wr fun r h=>Bv m h (ga r) (gx r)) .bad) .bad
 | none=> .bad):=by
 rw[om]
 cases hs:bZ E t with
 | none=>trivial
 | some m=>
   simp only
   rcases bY E F n a (fun ga=>wO E F n x (fun gx=>(.wr fun r h=>Bv m h (ga r) (gx r):Kd F.T)) .bad) .bad with h | ⟨ga,h,ha⟩<;>rw[h]
   · trivial
   rcases bY E F n x (fun gx=>(.wr fun r h=>Bv m h (ga r) (gx r):Kd F.T)) .bad with h | ⟨gx,h,hx⟩<;>rw[h]
   · trivial
   refine ⟨Ir,fun call r h rc o p ho e=>?_⟩
   obtain ⟨h1,h2⟩:=OE hs e
   simp only[dm,ho,ha,hx,h2,h1]
theorem yN (t:TypeId) (x:Operand):fK E F n (.makeInterface t x) (match jB E.P t with
 | some (.interface _)=> .bad
 | some _=>wO E F n x (fun g=> .Hj fun r=> .iface t (g r)) .bad
 | none=> .bad):=by
 rw[iw]
 cases hu:E.P.underlying t with
 | none=>trivial
 | some d=>
   cases d with
   | interface ms=>trivial
   | _=>
     simp only
     rcases bY E F n x (fun g=>(.Hj fun r=> .iface t (g r):Kd F.T)) .bad with h | ⟨g,h,hg⟩<;>rw[h]
     · trivial
     · intro r;simp only[bF,hu,hg]
theorem Is (f:FuncId) (a b:Array Operand):fK E F n (.makeFunc (.func f) a b) (wL E F n a.toList (fun ga=>wL E F n b.toList (fun gb=> .Hj fun r=> .func f (ga r) (gb r)) .bad) .bad):=by
 rcases tQ E F n a.toList (fun ga=>wL E F n b.toList (fun gb=>(.Hj fun r=> .func f (ga r) (gb r):Kd F.T)) .bad) .bad with h | ⟨ga,h,ha⟩<;>rw[h]
 · trivial
 rcases tQ E F n b.toList (fun gb=>(.Hj fun r=> .func f (ga r) (gb r):Kd F.T)) .bad with h | ⟨gb,h,hb⟩<;>rw[h]
 · trivial
 intro r;simp only[bF,ha,hb]
theorem RE (t:TypeId):fK E F n (.alloc t) (match JX E t with
 | some z=> .rV fun _=>some (.cells z.cells t false,fun i=> .ptr i 0)
 | none=> .bad):=by
 rw[yM]
 cases hz:ff E t with
 | none=>trivial
 | some z=>exact ⟨fun _=>rfl,fun _ _=>rfl,fun r p e=>by simp only[et,hz];exact e⟩
theorem aaj (t:TypeId) (x:Operand):fK E F n (.box t x) (wO E F n x (fun g=> .rV fun r=>some (.cells (kS (g r)) t false,fun i=> .ptr i 0)) .bad):=by
 rcases bY E F n x (fun g=>(.rV fun r=>some (.cells (kS (g r)) t false,fun i=> .ptr i 0):Kd F.T)) .bad with h | ⟨g,h,hg⟩<;>rw[h]
 · trivial
 · exact ⟨fun _=>rfl,fun _ _=>rfl,fun r p e=>by simp only[et,hg];rw[←lO];exact e⟩
theorem Dm (t:TypeId) (len:Nat) (parts:Array (Nat×Operand)):fK E F n (.buildSlice t len parts) (match jB E.P t with
 | some (.slice elem)=>match vW E elem,JX E elem with
   | some m,some z=>if z.cells.length=m∧len*m≤2^24 then V0 E F n parts.toList (fun gp=> .rV fun r=>ob none (fun cs=>some (.cells cs elem false,fun i=> .slice i 0 len len false)) (rp (fun i=>some (i*m,m)) (eB z.cells len) (gp r))) .bad else .bad
   | _,_=> .bad
 | _=> .bad):=by
 rw[iw]
 cases hu:E.P.underlying t with
 | none=>trivial
 | some d=>cases d with
   | slice elem=>
     simp only
     rw[om,yM]
     cases hs:bZ E elem with
     | none=>trivial
     | some m=>cases hz:ff E elem with
       | none=>trivial
       | some z=>
         simp only
         by_cases hc:z.cells.length=m∧len*m≤2^24
         · rw[if_pos hc]
           rcases Bz E F n parts.toList (fun gp=>(.rV fun r=>ob none (fun cs=>some (.cells cs elem false,fun i=> .slice i 0 len len false)) (rp (fun i=>some (i*m,m)) (eB z.cells len) (gp r)):Kd F.T)) .bad with h | ⟨g,h,hg⟩<;>rw[h]
           · trivial
           · refine ⟨fun _=>rfl,fun _ _=>rfl,fun r p e=>?_⟩
             obtain ⟨cs,h1,e⟩:=gz e
             simp only[et,hu,hs,hz,hg]
             rw[if_pos hc];simp only[h1];exact e
         · rw[if_neg hc];trivial
   | _=>trivial
theorem Wj (z:List AV) (m:Nat):aad z m=eB z m:=by
 induction m with
 | zero=>rfl
 | succ m ih=>show kN z (aad z m)=_;rw[nr,ih];rfl
theorem F6 (t:TypeId) (l c:Operand):fK E F n (.makeSlice t l c) (wO E F n l (fun gl=>wO E F n c (fun gc=>match jB E.P t with
 | some (.slice elem)=>match vW E elem,byF E elem,JX E elem with
   | some m,some bytes,some z=>if z.cells.length=m then .rV fun r=>V1 elem bytes z.cells (gl r) (gc r) else .bad
   | _,_,_=> .bad
 | _=> .bad) .bad) .bad):=by
 rw[iw]
 rcases bY E F n l (fun gl=>wO E F n c (fun gc=>match E.P.underlying t with
  | some (.slice elem)=>match vW E elem,byF E elem,JX E elem with
    | some m,some bytes,some z=>if z.cells.length=m then (.rV fun r=>V1 elem bytes z.cells (gl r) (gc r):Kd F.T) else .bad
    | _,_,_=> .bad
  | _=> .bad) .bad) .bad with h | ⟨gl,h,hl⟩<;>rw[h]
 · trivial
 rcases bY E F n c (fun gc=>match E.P.underlying t with
  | some (.slice elem)=>match vW E elem,byF E elem,JX E elem with
    | some m,some bytes,some z=>if z.cells.length=m then (.rV fun r=>V1 elem bytes z.cells (gl r) (gc r):Kd F.T) else .bad
    | _,_,_=> .bad
  | _=> .bad) .bad with h | ⟨gc,h,hc⟩<;>rw[h]
 · trivial
 cases hu:E.P.underlying t with
 | none=>trivial
 | some d=>cases d with
   | slice elem=>
     simp only
     rw[om,Ru,yM]
     cases hs:bZ E elem with
     | none=>trivial
     | some m=>cases hb:fm E elem with
       | none=>trivial
       | some bytes=>cases hz:ff E elem with
         | none=>trivial
         | some z=>
           simp only
           by_cases hm:z.cells.length=m
           · rw[if_pos hm]
             refine ⟨fun _=>rfl,fun _ _=>rfl,fun r p e=>?_⟩
             obtain ⟨k1,a,e1,q1⟩:=jc e
             obtain ⟨k2,b,e2,q2⟩:=jc q1
             obtain ⟨a',rfl,q3⟩:=oh q2
             obtain ⟨b',rfl,q4⟩:=oh q3
             obtain ⟨c1,q5⟩:=fq q4
             obtain ⟨c2,q6⟩:=qK q5
             obtain ⟨c3,q7⟩:=fq q6
             have c1:=ft c1
             have c2:=jU c2
             have c3:bytes*b'≤140737488355328:=ft c3
             simp only[et,hu,hs,hb,hz,hl,hc,e1,e2]
             rw[if_pos ⟨by omega,by omega,by omega,by have:(bytes:Int)*(b':Int)=((bytes*b':Nat):Int):=by simp
                                                      rw[this];omega,hm⟩]
             rw[←q7,Wj];rfl
           · rw[if_neg hm];trivial
   | _=>trivial
theorem It (k:List UInt8):∀(l:List gO) (i:Nat) {x:Option AV},findF k l=some x→∃y,rQ (.str k) l i=some y∧y.map (·.2)=x
 | [],i,x,h=>⟨none,rfl,by cases h;rfl⟩
 | e::es,i,x,h=>by
   obtain ⟨s,h1,h2⟩:=oe (show qF (fun s=>bc (leq Bq k s) (some (some e.val)) (findF k es)) none e.key=some x from h)
   rw[KL] at h2
   rw[rQ,h1]
   show ∃y,(match (some (k==s):Option Bool) with | some true=>some (some (i,e.val)) | some false=>rQ (.str k) es (i+1) | none=>none)=some y∧_
   cases hb:k==s with
   | true=>
     rw[hb,iV] at h2
     exact ⟨some (i,e.val),rfl,Option.some.inj h2⟩
   | false=>
     rw[hb,dV] at h2
     exact It k es (i+1) h2
noncomputable def ac7 (h:aw) (m:AV):Option (List gO):=match m with
 | .dP=>some []
 | .map i=>(match h.get i with | some (.map es _)=>some es | _=>none)
 | _=>none
theorem RG {z:AV} {ok:Bool} {h:aw} {m k v:AV} (e:MQ z ok h m k=some v):
 (∃s,k= .str s)∧∃es,(match m with | .dP=>some [] | .map i=>(match h.get i with | some (.map es _)=>some es | _=>none) | _=>none)=some es∧
  ∃y,rQ k es 0=some y∧v=(match y with | some (_,w)=>(if ok then .tuple [w,.bool true] else w) | none=>if ok then .tuple [z,.bool false] else z):=by
 obtain ⟨s,rfl,e1⟩:=oe e
 obtain ⟨es,h1,e2⟩:=gz e1
 obtain ⟨x,h2,e3⟩:=gz e2
 refine ⟨⟨s,rfl⟩,es,?_,?_⟩
 · cases m with
   | dP=>exact h1
   | map i=>
     obtain ⟨o,h3,h4⟩:=gz (show ob none (fun o=>V2 (fun es=>some es) none o) (h.get i)=some es from h1)
     simp only[h3]
     cases o with
     | map fX c=>exact h4
     | _=>cases h4
   | _=>cases h1
 · obtain ⟨y,h3,h4⟩:=It s es 0 h2
   refine ⟨y,h3,?_⟩
   have e4:=Option.some.inj e3
   rw[←e4,←h4]
   cases y with
   | none=>cases ok<;>rfl
   | some y=>obtain ⟨_,w⟩:=y;cases ok<;>rfl
theorem OF (t:TypeId) (x ix:Operand) (ok:Bool):fK E F n (.lookup t x ix ok) (wO E F n x (fun gx=>wO E F n ix (fun gi=>match jB E.P t with
 | some (.map key elem)=>match jB E.P key,JX E elem with
   | some .string,some z=> .red fun r h=>MQ z ok h (gx r) (gi r)
   | _,_=> .red fun r h=>dS E (eW F n r) h (.lookup t x ix ok)
 | _=> .bad) .bad) .bad):=by
 let K:(F.T→AV)→(F.T→AV)→Kd F.T:=fun gx gi=>match jB E.P t with
  | some (.map key elem)=>match jB E.P key,JX E elem with
    | some .string,some z=> .red fun r h=>MQ z ok h (gx r) (gi r)
    | _,_=> .red fun r h=>dS E (eW F n r) h (.lookup t x ix ok)
  | _=> .bad
 show fK E F n _ (wO E F n x (fun gx=>wO E F n ix (fun gi=>K gx gi) .bad) .bad)
 rcases bY E F n x (fun gx=>wO E F n ix (fun gi=>K gx gi) .bad) .bad with h | ⟨gx,h,hx⟩<;>rw[h]
 · trivial
 rcases bY E F n ix (fun gi=>K gx gi) .bad with h | ⟨gi,h,hi⟩<;>rw[h]
 · trivial
 simp only[K,iw,yM]
 have yK:fK E F n (.lookup t x ix ok) (.red fun r h=>dS E (eW F n r) h (.lookup t x ix ok)):=fun r h v e=> .inr ⟨rfl,e⟩
 cases hu:E.P.underlying t with
 | none=>trivial
 | some d=>cases d with
   | map key elem=>
     simp only
     cases hk:E.P.underlying key with
     | none=>exact yK
     | some kd=>cases kd with
       | string=>cases hz:ff E elem with
         | none=>exact yK
         | some z=>
           intro r h v e
           refine .inr ⟨rfl,?_⟩
           obtain ⟨⟨s,hs⟩,es,h1,y,h2,rfl⟩:=RG e
           simp only[dS,hu,hx,hi,hk]
           rw[hs] at h2 ⊢
           rw[if_pos (show im (some TypeDesc.string) (AV.str s)=true from rfl)]
           have h1':ac7 h (gx r)=some es:=h1
           change (match ac7 h (gx r) with
            | none=>none
            | some es=>match rQ (AV.str s) es 0 with
              | none=>none
              | some (some (_,v))=>some (if ok then AV.tuple [v,.bool true] else v)
              | some none=>match ff E elem with
                | some z=>some (if ok then AV.tuple [z,.bool false] else z)
                | none=>none)=_
           rw[h1']
           simp only[h2,hz]
           cases y with
           | none=>rfl
           | some y=>obtain ⟨_,w⟩:=y;rfl
       | _=>exact yK
   | _=>trivial
theorem BD:∀(fs:List Field),AQ E fs=placesOf E fs
 | []=>rfl
 | f::fs=>by
   show ob none (fun n=>ob none (fun l=>some ((f.offset,n)::l)) (AQ E fs)) (vW E f.type)=_
   rw[BD fs,om]
   simp only[placesOf,eF]
   cases bZ E f.type with
   | none=>rfl
   | some n=>
     show ob none (fun l=>some ((f.offset,n)::l)) (eF _ fs)=_
     cases eF (fun f=>match bZ E f.type with | some n=>some (f.offset,n) | none=>none) fs<;>rfl
theorem Iu (ps:List (Nat×Nat)):∀(l:List (Nat×AV)) (cs:List AV) {v:List AV},Ii ps cs l=some v→rp (ps[·]?) cs l=some v
 | [],cs,v,h=>h
 | (i,x)::l,cs,v,h=>by
   obtain ⟨q,h1,h2⟩:=gz (show ob none (fun (q:Nat×Nat)=>bc (Nat.beq (iE (kS x)) q.2) (bc (Nat.ble (q.1+q.2) (iE cs)) (Ii ps (H9 (kS x) cs q.1) l) none) none) (iG ps i)=some v from h)
   obtain ⟨h3,h4⟩:=fq h2
   obtain ⟨h5,h6⟩:=fq h4
   have h3:=lN h3
   have h5:=ft h5
   rw[fD,lO] at h3
   rw[fD] at h5
   rw[gJ] at h1
   rw[rp]
   obtain ⟨off,size⟩:=q
   simp only[h1]
   rw[if_pos ⟨h3,h5⟩,←F2,←lO]
   exact Iu ps l _ h6
theorem RH (t:TypeId) (parts:Array (Nat×Operand)):fK E F n (.build t parts) (match JX E t,jB E.P t with
 | some z,some (.struct fs)=>match AQ E fs.toList with
   | some ps=>V0 E F n parts.toList (fun gp=> .gD fun r=>ob none (fun cs=>some (.agg cs)) (Ii ps (kS z) (gp r))) .bad
   | none=> .bad
 | _,_=> .gD fun r=>bF E (eW F n r) (.build t parts)):=by
 have yK:fK E F n (.build t parts) (.gD fun r=>bF E (eW F n r) (.build t parts)):=fun r v e=>e
 rw[iw,yM]
 cases hz:ff E t with
 | none=>exact yK
 | some z=>cases hu:E.P.underlying t with
   | none=>exact yK
   | some d=>cases d with
     | struct fs=>
       simp only
       rw[BD]
       cases hp:placesOf E fs.toList with
       | none=>trivial
       | some ps=>
         simp only
         rcases Bz E F n parts.toList (fun gp=>(.gD fun r=>ob none (fun cs=>some (.agg cs)) (Ii ps (kS z) (gp r)):Kd F.T)) .bad with h | ⟨g,h,hg⟩<;>rw[h]
         · trivial
         · intro r v e
           obtain ⟨cs,h1,e2⟩:=gz e
           have h1:=Iu ps _ _ h1
           rw[lO] at h1
           simp only[bF,hg,E4,hz,hu,hp,h1]
           exact e2
     | _=>exact yK
theorem F7 (t:TypeId) (m k x:Operand):fK E F n (.mapUpdate t m k x) (wO E F n m (fun gm=>wO E F n k (fun gk=>wO E F n x (fun gx=> .wr fun r h=>ob none (fun h'=>some (AV.undef,h')) (eK E h t (gm r) (gk r) (gx r))) .bad) .bad) .bad):=by
 rcases bY E F n m (fun gm=>wO E F n k (fun gk=>wO E F n x (fun gx=>(.wr fun r h=>ob none (fun h'=>some (AV.undef,h')) (eK E h t (gm r) (gk r) (gx r)):Kd F.T)) .bad) .bad) .bad with h | ⟨gm,h,hm⟩<;>rw[h]
 · trivial
 rcases bY E F n k (fun gk=>wO E F n x (fun gx=>(.wr fun r h=>ob none (fun h'=>some (AV.undef,h')) (eK E h t (gm r) (gk r) (gx r)):Kd F.T)) .bad) .bad with h | ⟨gk,h,hk⟩<;>rw[h]
 · trivial
 rcases bY E F n x (fun gx=>(.wr fun r h=>ob none (fun h'=>some (AV.undef,h')) (eK E h t (gm r) (gk r) (gx r)):Kd F.T)) .bad with h | ⟨gx,h,hx⟩<;>rw[h]
 · trivial
 refine ⟨⟨fun _=>rfl,fun _ _=>rfl,fun _=>rfl⟩,fun call r h rc o p ho e=>?_⟩
 obtain ⟨h',h1,e2⟩:=gz e
 have e3:=Option.some.inj e2
 simp only[dm,ho,hm,hk,hx,h1,←e3]
theorem OG (t:TypeId) (m k x:Operand):fK E F n (.insert t m k x) (wO E F n m (fun gm=>wO E F n k (fun gk=>wO E F n x (fun gx=> .wr fun r h=>ob none (fun h'=>some (AV.undef,h')) (eK E h t (gm r) (gk r) (gx r))) .bad) .bad) .bad):=by
 rcases bY E F n m (fun gm=>wO E F n k (fun gk=>wO E F n x (fun gx=>(.wr fun r h=>ob none (fun h'=>some (AV.undef,h')) (eK E h t (gm r) (gk r) (gx r)):Kd F.T)) .bad) .bad) .bad with h | ⟨gm,h,hm⟩<;>rw[h]
 · trivial
 rcases bY E F n k (fun gk=>wO E F n x (fun gx=>(.wr fun r h=>ob none (fun h'=>some (AV.undef,h')) (eK E h t (gm r) (gk r) (gx r)):Kd F.T)) .bad) .bad with h | ⟨gk,h,hk⟩<;>rw[h]
 · trivial
 rcases bY E F n x (fun gx=>(.wr fun r h=>ob none (fun h'=>some (AV.undef,h')) (eK E h t (gm r) (gk r) (gx r)):Kd F.T)) .bad with h | ⟨gx,h,hx⟩<;>rw[h]
 · trivial
 refine ⟨⟨fun _=>rfl,fun _ _=>rfl,fun _=>rfl⟩,fun call r h rc o p ho e=>?_⟩
 obtain ⟨h',h1,e2⟩:=gz e
 have e3:=Option.some.inj e2
 simp only[dm,ho,hm,hk,hx,h1,←e3]
theorem Wl (it:Operand) (s:Bool):fK E F n (.next it s) (wO E F n it (fun g=> .wr fun r h=>DI h (g r) s) .bad):=by
 rcases bY E F n it (fun g=>(.wr fun r h=>DI h (g r) s:Kd F.T)) .bad with h | ⟨g,h,hg⟩<;>rw[h]
 · trivial
 refine ⟨⟨fun _=>rfl,fun _ _=>rfl,fun _=>rfl⟩,fun call r h rc o p ho e=>?_⟩
 simp only[dm,ho,hg,e]
theorem RI (x:Operand):fK E F n (.panic x) (wO E F n x (fun g=> .ub fun _ r h _=>qG (fun t w=> .panic (.iface t w) h) (.fail "" none) (g r)) .bad):=by
 rcases bY E F n x (fun g=>(.ub fun _ r h _=>qG (fun t w=> .panic (.iface t w) h) (.fail "" none) (g r):Kd F.T)) .bad with h | ⟨g,h,hg⟩<;>rw[h]
 · trivial
 refine ⟨⟨fun _=>rfl,fun _ _=>rfl,fun _=>rfl⟩,fun fc call _ r h rc o ho=>?_⟩
 rcases Ip (f:=fun t w=>yj.panic (.iface t w) h) (why:= "") (o:=none) (g r) with ⟨t,w,e⟩ | e
 · simp only[dm,ho,hg,e];rfl
 · show Yn (qG _ _ _) _
   rw[e];trivial
theorem RJ (c:Call):fK E F n (.defer c) (.ub fun _ r _ rc=>match rc,callee E (eW F n r) c with
 | .rN _,_=> .fail "" none
 | _,some (.fn f,args)=> .defer (.call f args)
 | _,_=> .fail "" none):=by
 refine ⟨⟨fun _=>rfl,fun _ _=>rfl,fun _=>rfl⟩,fun fc call _ r h rc o ho=>?_⟩
 simp only[dm,ho]
 cases rc with
 | rN l=>trivial
 | _=>cases hc:callee E (eW F n r) c with
   | none=>trivial
   | some p=>obtain ⟨f,args⟩:=p;cases f<;>first | trivial | rfl
theorem KN (src dst:TypeId) (x:Operand):fK E F n (.convert src dst x) (wO E F n x (MR E src dst) .bad):=by
 rcases bY E F n x (MR E src dst) (.bad:Kd F.T) with h | ⟨g,h,hg⟩<;>rw[h]
 · trivial
 unfold MR
 simp only[iw]
 cases hs:E.P.underlying src with
 | none=>trivial
 | some ds=>cases hd:E.P.underlying dst with
   | none=>cases ds<;>trivial
   | some dd=>
     cases ds<;>cases dd<;>try trivial
     case int.int k k'=>
      intro r v e
      obtain ⟨j,m,e1,e2⟩:=jc e
      simp only[bF,hs,hd,hg,e1]
      rw[←oi];exact e2
     case string.string=>
      intro r v e
      obtain ⟨s,e1,e2⟩:=oe e
      simp only[bF,hs,hd,hg,e1];exact e2
     case string.slice e=>
      refine ⟨⟨fun _=>by simp only[bF,hs,hd],fun _ _=>by simp only[dS,hs,hd],fun _=>rfl⟩,fun call r h rc o p ho e=>?_⟩
      simp only[dm,ho,hg,e]
     case slice.string el=>
      simp only
      cases he:E.P.underlying el with
      | none=>trivial
      | some de=>
        cases de<;>try trivial
        rename_i k
        cases k<;>try trivial
        intro r h v e
        rcases og e with ⟨e1,e2⟩ | ⟨i,o,l,c,b,e1,e2⟩
        · refine .inr ⟨by simp only[bF,hs,hd,hg,e1],?_⟩
          simp only[dS,hs,hd,hg,he]
          simp only[e1];exact e2
        · refine .inr ⟨by simp only[bF,hs,hd,hg,e1],?_⟩
          simp only[dS,hs,hd,hg,he]
          simp only[e1]
          obtain ⟨l',h1,e3⟩:=gz e2
          simp only[h1];exact e3
end Go.Ab.Fa
end
