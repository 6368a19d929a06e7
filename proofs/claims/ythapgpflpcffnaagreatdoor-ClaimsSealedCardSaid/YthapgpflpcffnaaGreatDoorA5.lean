import Derived.Test.YthapgpflpcffnaaGreatDoorA4
import Derived.Test.YthapgpflpcffnaaGreatDoorA0
set_option linter.unusedVariables false
set_option linter.unusedSimpArgs false
section
namespace Go.Ab.Fa
structure W (α:Type) where
 f:α
section
variable {α β T:Type}
noncomputable def wW (w:W α) (k:α→β):β:=W.rec (motive:=fun _=>β) k w
noncomputable def wA (a:Acc T) (k:(T→AV)→β):β:=Acc.rec (motive:=fun _=>β) k a
noncomputable def wU (a:Qy T) (k:(AV→T→T)→β):β:=Qy.rec (motive:=fun _=>β) k a
end
structure Y where
 ds:List iI
 rc:RC
inductive FO (T:Type) where
 | zV (r:T) (h:ah) (y:Y)
 | jmp (e:fi) (r:T) (h:ah) (y:Y)
 | bad
structure I (T:Type) where
 run:aI→T→ah→Y→FO T
structure C (T:Type) where
 run:Nat→aI→T→ah→Y→FO T
inductive Kd (T:Type) where
 | zb (f:T→AV)
 | db (f:T→Option AV)
 | red (f:T→ah→Option AV)
 | lK (f:T→Option (aF×(Nat→AV)))
 | wr (f:T→ah→Option (AV×ah))
 | call (g:Fn) (args:T→List AV)
 | nf (f:aI→T→ah→RC→pO)
 | bad
section
variable (E:Env) (F:RF) (n:Nat)
noncomputable def wT {β:Type} (i:Nat) (k:(F.T→AV)→β):β:=bc (Nat.ble n i) (k fun _=>AV.undef) (wA (F.get i) k)
noncomputable def wO {β:Type} (x:Operand) (k:(F.T→AV)→β) (d:β):β:=match x with
 | .tmp t=>wT F n t k
 | .const v=>match ofConst v with
   | some a=>k fun _=>a
   | none=>d
 | .global g=>bc (Nat.ble E.G g) d (k fun _=> .ptr g 0)
 | .func f=>k fun _=> .func f [] []
noncomputable def wL {β:Type} (l:List Operand) (k:(F.T→List AV)→β) (d:β):β:=match l with
 | []=>k fun _=> []
 | x::xs=>wO E F n x (fun g=>wL xs (fun gs=>k fun r=>g r::gs r) d) d
noncomputable def wP {β:Type} (o:Option Operand) (k:Option (F.T→AV)→β) (d:β):β:=match o with
 | none=>k none
 | some x=>wO E F n x (fun g=>k (some g)) d
noncomputable def wS {β:Type} (o:Option Tmp) (k:(AV→F.T→F.T)→β):β:=match o with
 | none=>k fun _ r=>r
 | some i=>bc (Nat.ble n i) (k fun _ r=>r) (wU (F.set i) k)
noncomputable def og (t:TypeId):Option Nat:=ob none (fun i=>some i.size) (qV E.P t)
noncomputable def NV (t:TypeId):Option Nat:=ob none (fun i=>some i.bytes) (qV E.P t)
noncomputable def Bs (t:TypeId):Option AV:=ob none (fun i=>ob none (fun z=>ofConst z) i.zero) (qV E.P t)
noncomputable def Uk (t:TypeId):Option Bool:=match eR E.P t with
 | some (.struct _)=>some true
 | some (.array _ _)=>some true
 | some _=>some false
 | none=>none
noncomputable def PB (t:TypeId) (f:Nat):Option Field:=match eR E.P t with
 | some (.struct fs)=>dY fs.toList f
 | _=>none
variable {T:Type}
noncomputable def GX (op:BinOp):W (IntKind→Int→Int→Option AV):=match op with
 | .add=>⟨fun k a b=>some (.int k (nu k (kA a b)))⟩
 | .sub=>⟨fun k a b=>some (.int k (nu k (cY a b)))⟩
 | .mul=>⟨fun k a b=>some (.int k (nu k (zM a b)))⟩
 | .eql=>⟨fun _ a b=>some (.bool (ME a b))⟩
 | .neq=>⟨fun _ a b=>some (.bool (nP (ME a b)))⟩
 | .lss=>⟨fun _ a b=>some (.bool (KE a b))⟩
 | .leq=>⟨fun _ a b=>some (.bool (nP (KE b a)))⟩
 | .gtr=>⟨fun _ a b=>some (.bool (KE b a))⟩
 | .geq=>⟨fun _ a b=>some (.bool (nP (KE a b)))⟩
 | op=>⟨KF op⟩
noncomputable def ED (op:BinOp):W (List UInt8→List UInt8→Option AV):=match op with
 | .eql=>⟨fun a b=>some (.bool (leq sR a b))⟩
 | .neq=>⟨fun a b=>some (.bool (nP (leq sR a b)))⟩
 | op=>⟨lG op⟩
noncomputable def KL (f:IntKind→Int→Int→Option AV) (g:List UInt8→List UInt8→Option AV) (qg:AV→AV→Option AV) (a b:AV):Option AV:=
 ic (fun k x=>ic (fun j y=>bc (GN k j) (f k x y) none) none b) (jJ (fun s=>jJ (fun t=>g s t) none b) (qg a b) a) a
noncomputable def aJ (op:BinOp) (qg:AV→AV→Option AV) (ga gb:T→AV):Kd T:=match op with
 | .shl=> .db fun r=>ic (fun k x=>ic (fun _ y=>Qz k x y) none (gb r)) none (ga r)
 | .shr=> .db fun r=>ic (fun k x=>ic (fun _ y=>QA k x y) none (gb r)) none (ga r)
 | op=>wW (GX op) fun f=>wW (ED op) fun g=> .db fun r=>KL f g qg (ga r) (gb r)
noncomputable def QB (op:UnOp) (ga:T→AV):Kd T:=match op with
 | .not=> .db fun r=>eB (fun b=>some (.bool (nP b))) none (ga r)
 | op=> .db fun r=>Pm op (ga r)
noncomputable def GY (cs:List AV) (o:Nat):Option AV:=dY cs o
noncomputable def GZ (n:Nat) (cs:List AV) (o:Nat):Option AV:=bc (Nat.ble (Nat.add o n) (dX cs)) (some (.agg (l7 (l6 cs o) n))) none
noncomputable def oN (t:TypeId) (k:(List AV→Nat→Option AV)→Kd T):Kd T:=match Uk E t with
 | some true=>match og E t with
   | some n=>k (GZ n)
   | none=> .bad
 | some false=>k GY
 | none=> .bad
noncomputable def zW (p:List AV→Nat→Option AV) (h:ah) (a:AV):Option AV:=
 p_ (fun i o=>ob none (fun obj=>qb (fun cs _ _=>p cs o) none obj) (h.get i)) none a
noncomputable def sX (n:Nat) (h:ah) (a v:AV):Option (AV×ah):=
 p_ (fun i o=>ob none (fun obj=>qb (fun cs e ro=>bc ro none
  (bc (Nat.beq (dX (fQ v)) n) (bc (Nat.ble (Nat.add o n) (dX cs)) (bc (qc KG (fQ v)) (some (AV.undef,h.put i (some (.cells (zO (fQ v) cs o) e false)))) none) none) none)) none obj) (h.get i)) none a
noncomputable def xP (len size:Nat) (i o:Nat) (ix:AV):Option AV:=
 ic (fun _ n=>eD (fun m=>bc (Nat.ble len m) none (some (.ptr i (Nat.add o (Nat.mul m size))))) none n) none ix
noncomputable def xQ (d y:Nat) (o:Option AV) (k:Nat→Option AV):Option AV:=
 ob (k d) (fun v=>ic (fun _ i=>eD (fun m=>bc (Nat.ble m y) (k m) none) none i) none v) o
noncomputable def S3 (size:Nat) (lo hi:Option AV) (v:AV):Option AV:=
 eC (xQ 0 0 hi fun h=>xQ 0 h lo fun _=>some .aK)
  (fun i o len cap op=>bc (Nat.ble len cap) (xQ len cap hi fun h=>xQ 0 h lo fun l=>
   bc (Nat.beq cap l) (bc op (some .cb) (some (.slice i o (Nat.sub h l) (Nat.sub cap l) false))) (some (.slice i (Nat.add o (Nat.mul l size)) (Nat.sub h l) (Nat.sub cap l) op))) none) none v
noncomputable def S4 (lo hi:Option AV) (v:AV):Option AV:=
 jJ (fun s=>xQ (dX s) (dX s) hi fun h=>xQ 0 h lo fun l=>some (.str (l7 (l6 s l) (Nat.sub h l)))) none v
noncomputable def S5 (m size:Nat) (lo hi:Option AV) (v:AV):Option AV:=
 p_ (fun i o=>xQ m m hi fun h=>xQ 0 h lo fun l=>some (.slice i (bc (Nat.beq m l) o (Nat.add o (Nat.mul l size))) (Nat.sub h l) (Nat.sub m l) false)) none v
noncomputable def vn (o:Option (T→AV)) (r:T):Option AV:=ob none (fun g=>some (g r)) o
noncomputable def QC (v:AV):Option Nat:=eC (some 0) (fun _ _ n _ _=>some n) (jJ (fun s=>some (dX s)) (jq v) v) v
noncomputable def G5 (h:ah) (size n:Nat) (v:AV):Option (List AV):=
 eC (bc (Nat.beq n 0) (some []) none) (fun i o len _ _=>bc (Nat.ble n len) (ob none (fun obj=>qb (fun cs _ _=>bc (Nat.ble (Nat.add o (Nat.mul n size)) (dX cs)) (some (l7 (l6 cs o) (Nat.mul n size))) none) none obj) (h.get i)) none)
  (cN h size n v) v
noncomputable def QD (elem:TypeId) (size bytes:Nat) (h:ah) (s x:AV):Option (AV×ah):=
 ob none (fun n=>ob none (fun new=>bc (qc KG new) (bc (Nat.beq (dX new) (Nat.mul n size))
  (eC
   (bc (Nat.beq n 0) (some (.aK,h)) (bc (Nat.ble (Nat.mul (Nat.add (Nat.mul 4 n) 4096) (Nat.add bytes 1)) 1099511627776)
    (ob none (fun h'=>some (.slice h.nx 0 n n true,h')) (h.new (.cells new elem false))) none))
   (fun i o len cap op=>ob none (fun obj=>qb (fun cs e ro=>bc ro none
    (bc (Nat.ble (Nat.add len n) cap)
     (bc (Nat.ble (Nat.add o (Nat.mul (Nat.add len n) size)) (dX cs)) (some (.slice i o (Nat.add len n) cap op,h.put i (some (.cells (zO new cs (Nat.add o (Nat.mul len size))) e false)))) none)
     (bc (Nat.ble (Nat.mul (Nat.add (Nat.mul 4 (Nat.add len n)) 4096) (Nat.add bytes 1)) 1099511627776)
      (bc (Nat.ble (Nat.add o (Nat.mul len size)) (dX cs))
       (bc op
        (bc (Nat.beq e elem) (bc (Nat.beq (Nat.add o (Nat.mul cap size)) (dX cs))
         (ob none (fun h'=>some (.slice h.nx 0 (Nat.add len n) (Nat.add len n) true,h')) ((h.put i none).new (.cells (fJ (l7 (l6 cs o) (Nat.mul len size)) new) elem false))) none) none)
        (ob none (fun h'=>some (.slice h.nx 0 (Nat.add len n) (Nat.add len n) true,h')) (h.new (.cells (fJ (l7 (l6 cs o) (Nat.mul len size)) new) elem false)))) none) none)))
    none obj) (h.get i))
   none s) none) none) (G5 h size n x)) (QC x)
noncomputable def G6 (argTypes:Array TypeId) (gs gx:T→AV):Kd T:=match dY argTypes.toList 0,dY argTypes.toList 1 with
 | some sT,some xT=>match eR E.P sT,eR E.P xT with
   | some (.slice elem),some xd=>if gz xd then .wr fun r h=>lI E h elem (gs r) (gx r) else match og E elem,NV E elem,Bs E elem with
     | some size,some bytes,some z=>if z.cells.length=size then .wr fun r h=>QD elem size bytes h (gs r) (gx r) else .bad
     | _,_,_=> .bad
   | _,_=> .bad
 | _,_=> .bad
noncomputable def KM {β:Type} (l:List (Nat×Operand)) (k:(F.T→List (Nat×AV))→β) (d:β):β:=match l with
 | []=>k fun _=> []
 | (i,x)::xs=>wO E F n x (fun g=>KM xs (fun gs=>k fun r=>(i,g r)::gs r) d) d
noncomputable def r5 (fs:List Field):Option (List (Nat×Nat)):=List.rec (motive:=fun _=>Option (List (Nat×Nat))) (some []) (fun f _ ih=>ob none (fun n=>ob none (fun l=>some ((f.offset,n)::l)) ih) (og E f.type)) fs
noncomputable def zX (ps:List (Nat×Nat)) (cs:List AV) (l:List (Nat×AV)):Option (List AV):=
 List.rec (motive:=fun _=>List AV→Option (List AV)) (fun cs=>some cs) (fun p _ ih cs=>ob none (fun (q:Nat×Nat)=>bc (Nat.beq (dX (fQ p.2)) q.2) (bc (Nat.ble (Nat.add q.1 q.2) (dX cs)) (ih (zO (fQ p.2) cs q.1)) none) none) (dY ps p.1)) l cs
noncomputable def NW (z:List AV) (m:Nat):List AV:=Nat.rec (motive:=fun _=>List AV) [] (fun _ ih=>fJ z ih) m
noncomputable def KN (elem:TypeId) (bytes:Nat) (z:List AV) (l c:AV):Option (aF×(Nat→AV)):=
 ic (fun _ len=>ic (fun _ cap=>eD (fun len=>eD (fun cap=>bc (Nat.ble len cap) (bc (Nat.ble 1073741824 cap) none (bc (Nat.ble (Nat.mul bytes cap) 140737488355328)
  (some (.cells (NW z cap) elem false,fun i=> .slice i 0 len cap false)) none)) none) none cap) none len) none c) none l
noncomputable def findF (k:List UInt8) (l:List fA):Option (Option AV):=List.rec (motive:=fun _=>Option (Option AV)) (some none) (fun e _ ih=>jJ (fun s=>bc (leq sR k s) (some (some e.val)) ih) none e.key) l
noncomputable def KO {R:Type} (f:List fA→R) (d:R) (o:aF):R:=
 aF.rec (motive:=fun _=>R) (fun _ _ _=>d) (fun es _=>f es) (fun _ _=>d) (fun _ _ _ _=>d) (fun _ _ _ _ _ _ _=>d) d o
noncomputable def QE {R:Type} (e:R) (f:Nat→R) (d:R) (v:AV):R:=
 AV.rec (motive_1:=fun _=>R) (motive_2:=fun _=>Unit) (fun _=>d) (fun _ _=>d) (fun _=>d) d (fun _ _=>d) d (fun _ _ _ _ _=>d) e (fun i=>f i) (fun _ _ _ _ _=>d) (fun _=>d) d (fun _ _ _=>d) d (fun _ _=>d) (fun _ _=>d) d d () (fun _ _ _ _=>()) v
noncomputable def Df (h:ah) (m:AV):Option AV:=
 QE (some (.int .i64 (Int.ofNat 0))) (fun i=>ob none (fun o=>KO (fun es=>some (.int .i64 (Int.ofNat (dX es)))) none o) (h.get i)) none m
noncomputable def Dg (z:AV) (ok:Bool) (h:ah) (m k:AV):Option AV:=
 jJ (fun s=>ob none (fun es=>ob none (fun r=>some (ob (bc ok (.tuple [z,.bool false]) z) (fun v=>bc ok (.tuple [v,.bool true]) v) r)) (findF s es))
  (QE (some []) (fun i=>ob none (fun o=>KO (fun es=>some es) none o) (h.get i)) none m)) none k
noncomputable def gV (o:eg):pO:=eg.rec (motive:=fun _=>pO) .val .panic .fail o
noncomputable def zY (t:TypeId) (name:String):Option FuncId:=oh E t name
noncomputable def MI (c:Call) (op:Op):Kd F.T:=match c.callee with
 | .invoke x name=>wO E F n x (fun gx=>wL E F n c.args.toList (fun gs=> .nf fun call r h _=>kz
  (fun t v=>ob (.fail "" none) (fun f=>gV (call (.fn f) (v::gs r) h)) (zY E t name)) (.fail "" none) (gx r)) .bad) .bad
 | .value (.func f)=>wL E F n c.args.toList (fun gs=>match E.gN f with
   | some e=> .db fun r=>e (gs r)
   | none=>match E.dM f with
     | some g=> .wr fun r h=>g (gs r) h
     | none=> .call (.fn f) gs) .bad
 | .value x=>wO E F n x (fun gf=>wL E F n c.args.toList (fun gs=> .nf fun call r h _=>Dc
  (fun g first captured=>ob (gV (call (.fn g) (fJ first (fJ (gs r) captured)) h)) (fun sp=>ob (.fail "" none) (fun p=> .val p.1 p.2) (sp (fJ first (fJ (gs r) captured)) h)) (E.dM g))
  (fun l=>gV (call (.qK l) (gs r) h)) (.fail "" none) (gf r)) .bad) .bad
 | .builtin .len=>match dY c.argTypes.toList 0,c.args.toList with
   | some t,[x]=>wO E F n x (fun g=>match eR E.P t with
     | some .string=> .db fun r=>jJ (fun s=>some (.int .i64 (Int.ofNat (dX s)))) none (g r)
     | some (.array m _)=> .db fun _=>some (.int .i64 (Int.ofNat m))
     | some (.slice _)=> .db fun r=>eC (some (.int .i64 (Int.ofNat 0))) (fun _ _ m _ _=>some (.int .i64 (Int.ofNat m))) (vZ (some (.int .i64 (Int.ofNat 0))) none (g r)) (g r)
     | some (.map _ _)=> .red fun r h=>Df h (g r)
     | _=> .bad) .bad
   | _,_=> .bad
 | .builtin .cap=>match dY c.argTypes.toList 0,c.args.toList with
   | some t,[x]=>wO E F n x (fun g=>match eR E.P t with
     | some (.slice _)=> .db fun r=>eC (some (.int .i64 (Int.ofNat 0))) (fun _ _ _ c b=>bc b none (some (.int .i64 (Int.ofNat c)))) none (g r)
     | _=> .bad) .bad
   | _,_=> .bad
 | .builtin .max=> .db fun r=>aL E (cf F n r) op
 | .builtin .min=> .db fun r=>aL E (cf F n r) op
 | .builtin .append=>match c.args.toList with
   | [s,x]=>wO E F n s (fun gs=>wO E F n x (fun gx=>G6 E c.argTypes gs gx) .bad) .bad
   | _=> .bad
 | .builtin .copy=>match c.args.toList with
   | [s,x]=>wO E F n s (fun gs=>wO E F n x (fun gx=> .wr fun r h=>nm E h c.argTypes (gs r) (gx r)) .bad) .bad
   | _=> .bad
 | .builtin .recover=> .nf fun _ _ h rc=>match rc with
   | .dV x=> .lg x
   | .y_ _=> .fail "" none
   | _=> .val .nilIface h
 | _=> .bad
noncomputable def Dh (src dst:TypeId) (g:T→AV):Kd T:=match eR E.P src,eR E.P dst with
 | some (.int _),some (.int k)=> .db fun r=>ic (fun _ n=>some (.int k (nu k n))) none (g r)
 | some .string,some .string=> .db fun r=>jJ (fun s=>some (.str s)) none (g r)
 | some (.slice e),some .string=>match eR E.P e with
   | some (.int .u8)=> .red fun r h=>eC (some (.str [])) (fun i o len _ _=>ob none (fun l=>some (.str l)) (mM h i o len)) none (g r)
   | _=> .bad
 | some .string,some (.slice _)=> .wr fun r h=>gS E h src dst (some (g r))
 | _,_=> .bad
noncomputable def nv (op:Op):Kd F.T:=match op with
 | .move x=>wO E F n x .zb .bad
 | .assign x=>wO E F n x .zb .bad
 | .pick c a b=>wO E F n c (fun gc=>wO E F n a (fun ga=>wO E F n b (fun gb=> .db fun r=>eB (fun t=>bc t (some (ga r)) (some (gb r))) none (gc r)) .bad) .bad) .bad
 | .binOp op t x y _=>wO E F n x (fun gx=>wO E F n y (fun gy=>aJ op (eT E op t (isConst x) (isConst y)) gx gy) .bad) .bad
 | .unOp op _ x=>wO E F n x (QB op) .bad
 | .fieldAddr s x f=>match PB E s f with
   | some fd=>match og E fd.type with
     | some (_+1)=>wO E F n x (fun g=> .db fun r=>p_ (fun i o=>some (.ptr i (Nat.add o fd.offset))) none (g r)) .bad
     | _=> .bad
   | none=> .bad
 | .load t a=>wO E F n a (fun g=>oN E t fun p=> .red fun r h=>zW p h (g r)) .bad
 | .store t a x=>match og E t with
   | some m=>wO E F n a (fun ga=>wO E F n x (fun gx=> .wr fun r h=>sX m h (ga r) (gx r)) .bad) .bad
   | none=> .bad
 | .nilCheck x=>wO E F n x (fun g=> .db fun r=>bc (xH (g r)) (some (g r)) none) .bad
 | .extract x i=>wO E F n x (fun g=> .db fun r=>qa (fun _=>none) (fun vs=>dY vs i) none (g r)) .bad
 | .field s x f=>match PB E s f with
   | some fd=>wO E F n x (fun g=>oN E fd.type fun p=> .db fun r=>qa (fun cs=>p cs fd.offset) (fun _=>none) none (g r)) .bad
   | none=> .bad
 | .indexAddr t x ix=>wO E F n x (fun gx=>wO E F n ix (fun gi=>match eR E.P t with
   | some (.array len elem)=>match og E elem with
     | some size=> .db fun r=>p_ (fun i o=>xP len size i o (gi r)) none (gx r)
     | none=> .bad
   | some (.slice elem)=>match og E elem with
     | some size=> .db fun r=>eC none (fun i o len _ _=>xP len size i o (gi r)) none (gx r)
     | none=> .bad
   | _=> .bad) .bad) .bad
 | .index t x ix=>wO E F n x (fun gx=>wO E F n ix (fun gi=>match eR E.P t with
   | some .string=> .db fun r=>jJ (fun s=>ic (fun _ i=>eD (fun m=>ob none (fun (b:UInt8)=>some (.int .u8 (Int.ofNat b.toNat))) (dY s m)) none i) none (gi r)) none (gx r)
   | _=> .db fun r=>aL E (cf F n r) op) .bad) .bad
 | .slice t x lo hi none=>wO E F n x (fun gx=>wP E F n lo (fun gl=>wP E F n hi (fun gh=>match eR E.P t with
   | some (.slice elem)=>match og E elem with
     | some size=> .db fun r=>S3 size (vn gl r) (vn gh r) (gx r)
     | none=> .bad
   | some .string=> .db fun r=>S4 (vn gl r) (vn gh r) (gx r)
   | some (.array m elem)=>match og E elem with
     | some size=> .db fun r=>S5 m size (vn gl r) (vn gh r) (gx r)
     | none=> .bad
   | _=> .db fun r=>aL E (cf F n r) op) .bad) .bad) .bad
 | .convert src dst x=>wO E F n x (Dh E src dst) .bad
 | .makeInterface t x=>match eR E.P t with
   | some (.interface _)=> .bad
   | some _=>wO E F n x (fun g=> .zb fun r=> .iface t (g r)) .bad
   | none=> .bad
 | .makeFunc (.func f) first captured=>wL E F n first.toList (fun ga=>wL E F n captured.toList (fun gb=> .zb fun r=> .func f (ga r) (gb r)) .bad) .bad
 | .alloc t=>match Bs E t with
   | some z=> .lK fun _=>some (.cells z.cells t false,fun i=> .ptr i 0)
   | none=> .bad
 | .box t x=>wO E F n x (fun g=> .lK fun r=>some (.cells (fQ (g r)) t false,fun i=> .ptr i 0)) .bad
 | .buildSlice t len parts=>match eR E.P t with
   | some (.slice elem)=>match og E elem,Bs E elem with
     | some m,some z=>if z.cells.length=m∧len*m≤2^24 then KM E F n parts.toList (fun gp=> .lK fun r=>ob none (fun cs=>some (.cells cs elem false,fun i=> .slice i 0 len len false)) (lf (fun i=>some (i*m,m)) (cM z.cells len) (gp r))) .bad else .bad
     | _,_=> .bad
   | _=> .bad
 | .makeSlice t l c=>wO E F n l (fun gl=>wO E F n c (fun gc=>match eR E.P t with
   | some (.slice elem)=>match og E elem,NV E elem,Bs E elem with
     | some m,some bytes,some z=>if z.cells.length=m then .lK fun r=>KN elem bytes z.cells (gl r) (gc r) else .bad
     | _,_,_=> .bad
   | _=> .bad) .bad) .bad
 | .makeMap _ none=> .lK fun _=>some (.map [] 0,fun i=> .map i)
 | .makeMap .. | .range .. => .lK fun r=>bZ E (cf F n r) op
 | .lookup t x ix ok=>wO E F n x (fun gx=>wO E F n ix (fun gi=>match eR E.P t with
   | some (.map key elem)=>match eR E.P key,Bs E elem with
     | some .string,some z=> .red fun r h=>Dg z ok h (gx r) (gi r)
     | _,_=> .red fun r h=>bW E (cf F n r) h op
   | _=> .bad) .bad) .bad
 | .build t parts=>match Bs E t,eR E.P t with
   | some z,some (.struct fs)=>match r5 E fs.toList with
     | some ps=>KM E F n parts.toList (fun gp=> .db fun r=>ob none (fun cs=>some (.agg cs)) (zX ps (fQ z) (gp r))) .bad
     | none=> .bad
   | _,_=> .db fun r=>aL E (cf F n r) op
 | .slice .. | .typeAssert .. => .db fun r=>aL E (cf F n r) op
 | .mapUpdate t m k x=>wO E F n m (fun gm=>wO E F n k (fun gk=>wO E F n x (fun gx=> .wr fun r h=>ob none (fun h'=>some (AV.undef,h')) (b9 E h t (gm r) (gk r) (gx r))) .bad) .bad) .bad
 | .insert t m k x=>wO E F n m (fun gm=>wO E F n k (fun gk=>wO E F n x (fun gx=> .wr fun r h=>ob none (fun h'=>some (AV.undef,h')) (b9 E h t (gm r) (gk r) (gx r))) .bad) .bad) .bad
 | .next it s=>wO E F n it (fun g=> .wr fun r h=>vC h (g r) s) .bad
 | .panic x=>wO E F n x (fun g=> .nf fun _ r h _=>kz (fun t w=> .panic (.iface t w) h) (.fail "" none) (g r)) .bad
 | .defer c=> .nf fun _ r _ rc=>match rc,callee E (cf F n r) c with
   | .y_ _,_=> .fail "" none
   | _,some (.fn f,args)=> .defer (.call f args)
   | _,_=> .fail "" none
 | .call c=>MI E F n c op
 | _=> .bad
noncomputable def B6 (kd:Kd T) (s:AV→T→T) (j:I T):I T:=match kd with
 | .zb g=>⟨fun call r h y=>j.run call (s (g r) r) h y⟩
 | .db f=>⟨fun call r h y=>ob .bad (fun v=>j.run call (s v r) h y) (f r)⟩
 | .red f=>⟨fun call r h y=>ob .bad (fun v=>j.run call (s v r) h y) (f r h)⟩
 | .lK f=>⟨fun call r h y=>ob .bad (fun p=>ob .bad (fun h'=>j.run call (s (p.2 h.nx) r) h' y) (h.new p.1)) (f r)⟩
 | .wr f=>⟨fun call r h y=>ob .bad (fun p=>j.run call (s p.1 r) p.2 y) (f r h)⟩
 | .call g args=>⟨fun call r h y=>eg.rec (motive:=fun _=>FO T) (fun v h'=>j.run call (s v r) h' y) (fun v h'=> .jmp (.panic v) r h' y) (fun _ _=> .bad) (call g (args r) h)⟩
 | .nf f=>⟨fun call r h y=>pO.rec (motive:=fun _=>FO T) (fun v h'=>j.run call (s v r) h' y) (fun d=>j.run call (s AV.undef r) h ⟨d::y.ds,y.rc⟩) (fun v=>j.run call (s v r) h ⟨y.ds,.done⟩)
  (fun v h'=> .jmp (.panic v) r h' y) (fun _ _=> .bad) (f call r h y.rc)⟩
 | .bad=>⟨fun _ _ _ _=> .bad⟩
noncomputable def MJ (s:AV→T→T) (j:I T):I T:=⟨fun call r h y=>j.run call (s AV.undef r) h y⟩
noncomputable def B7 (g:T→AV) (want:Bool) (a b:I T):I T:=match want with
 | true=>⟨fun call r h y=>eB (fun t=>bc t (a.run call r h y) (b.run call r h y)) (b.run call r h y) (g r)⟩
 | false=>⟨fun call r h y=>eB (fun t=>bc t (b.run call r h y) (a.run call r h y)) (b.run call r h y) (g r)⟩
noncomputable def Di (ops:Array Oper) (o:Oper) (a b:I F.T):I F.T:=match o.guard with
 | none=>a
 | some (j,want)=>match ob none (fun p=>p.dst) (dY ops.toList j) with
   | some d=>bc (Nat.ble n d) b (wA (F.get d) fun g=>B7 g want a b)
   | none=>b
noncomputable def G7 (ops:Array Oper) (o:Oper) (j:I F.T):I F.T:=wS F n o.dst fun s=>Di F n ops o (B6 (nv E F n o.op) s j) (MJ s j)
noncomputable def mY (ops:Array Oper) (l:List Oper):I F.T:=List.rec (motive:=fun _=>I F.T) ⟨fun _ r h y=> .zV r h y⟩ (fun o _ j=>G7 E F n ops o j) l
noncomputable def QF (qg:AV→AV→Bool) (x y:AV):Bool:=
 ic (fun k a=>ic (fun j b=>bc (GN k j) (ME a b) false) false y)
  (jJ (fun s=>jJ (fun t=>leq sR s t) false y)
   (p_ (fun i o=>p_ (fun j p=>bc (Nat.beq i j) (Nat.beq o p) false) false y)
    (eB (fun a=>eB (fun b=>bc a b (nP b)) false y) (qg x y) x) x) x) x
noncomputable def sY (m:Nat):AV→AV→Bool:=Nat.rec (motive:=fun _=>AV→AV→Bool) (fun _ _=>false)
 (fun i ih x y=>QF (fun x y=>qa (fun a=>qa (fun b=>leq ih a b) (fun _=>false) false y) (fun _=>AV.same (i+1) x y) (AV.same (i+1) x y) x) x y) m
structure EF where
 k:Nat
 m:Nat
 made:Option Nat
 f:ah→Bool
inductive DO (T:Type) where
 | ok (tr:List EF) (hs:List ah) (r:T) (h:ah) (y:Y)
 | bad
structure D (T:Type) where
 run:aI→T→ah→Y→DO T
noncomputable def vW (x:EF) (d:DO T):DO T:=DO.rec (motive:=fun _=>DO T) (fun tr hs r h y=> .ok (x::tr) hs r h y) .bad d
noncomputable def kD (h0:ah) (d:DO T):DO T:=DO.rec (motive:=fun _=>DO T) (fun tr hs r h y=> .ok tr (h0::hs) r h y) .bad d
noncomputable def Dj (kd:Kd T) (s:AV→T→T) (j:D T):D T:=match kd with
 | .wr f=>⟨fun call r h y=>ob .bad (fun p=>kD h (j.run call (s p.1 r) p.2 y)) (f r h)⟩
 | .call g args=>⟨fun call r h y=>eg.rec (motive:=fun _=>DO T) (fun v h'=>kD h (j.run call (s v r) h' y)) (fun _ _=> .bad) (fun _ _=> .bad) (call g (args r) h)⟩
 | .nf f=>⟨fun call r h y=>pO.rec (motive:=fun _=>DO T) (fun v h'=>kD h (j.run call (s v r) h' y)) (fun _=> .bad) (fun _=> .bad) (fun _ _=> .bad) (fun _ _=> .bad) (f call r h y.rc)⟩
 | _=>⟨fun _ _ _ _=> .bad⟩
noncomputable def Dk (k m:Nat) (kd:Kd T) (s:AV→T→T) (j:D T):D T:=match kd with
 | .zb g=>⟨fun call r h y=>j.run call (s (g r) r) h y⟩
 | .db f=>⟨fun call r h y=>ob .bad (fun v=>j.run call (s v r) h y) (f r)⟩
 | .red f=>⟨fun call r h y=>ob .bad (fun v=>vW ⟨k,m,none,fun h'=>ob false (fun v'=>sY 20 v' v) (f r h')⟩ (j.run call (s v r) h y)) (f r h)⟩
 | .lK f=>⟨fun call r h y=>ob .bad (fun p=>ob .bad (fun h'=>vW ⟨k,m,some h.nx,fun Dl=>ob false (fun o=>aF.same o p.1) (Dl.get h.nx)⟩ (j.run call (s (p.2 h.nx) r) h' y)) (h.new p.1)) (f r)⟩
 | _=>⟨fun _ _ _ _=> .bad⟩
noncomputable def G8 (s:AV→T→T) (j:D T):D T:=⟨fun call r h y=>j.run call (s AV.undef r) h y⟩
noncomputable def B8 (s:AV→T→T) (j:D T):D T:=⟨fun call r h y=>kD h (j.run call (s AV.undef r) h y)⟩
noncomputable def G9 (g:T→AV) (want:Bool) (a b:D T):D T:=match want with
 | true=>⟨fun call r h y=>eB (fun t=>bc t (a.run call r h y) (b.run call r h y)) (b.run call r h y) (g r)⟩
 | false=>⟨fun call r h y=>eB (fun t=>bc t (b.run call r h y) (a.run call r h y)) (b.run call r h y) (g r)⟩
noncomputable def qW (ops:Array Oper) (o:Oper) (a b:D F.T):D F.T:=match o.guard with
 | none=>a
 | some (j,want)=>match ob none (fun p=>p.dst) (dY ops.toList j) with
   | some d=>bc (Nat.ble n d) b (wA (F.get d) fun g=>G9 g want a b)
   | none=>b
noncomputable def ep (ops:Array Oper) (pl:gA) (l:List Nat):Nat→D F.T:=List.rec (motive:=fun _=>Nat→D F.T) (fun _=>⟨fun _ r h y=> .ok [] [h] r h y⟩)
 (fun i _ ih k=>ob ⟨fun _ _ _ _=> .bad⟩ (fun o=>wS F n o.dst fun s=>
  bc (jZ E o.op) (canon (Nat.add k 1) fun k'=>qW F n ops o (Dj (nv E F n o.op) s (ih k')) (B8 s (ih k')))
   (canon (Nat.sub (Nat.add (rZ pl.aR pl.an i) 1) k) fun m=>qW F n ops o (Dk k m (nv E F n o.op) s (ih k)) (G8 s (ih k)))) (dY ops.toList i)) l
noncomputable def Dm (tr:List EF):List Nat:=List.rec (motive:=fun _=>List Nat) [] (fun x _ ih=>ob ih (fun i=>i::ih) x.made) tr
noncomputable def kE (tr:List EF) (hs:List ah):Bool:=bc (xO (Dm tr)) (qc (fun x=>qc x.f (l7 (l6 hs x.k) x.m)) tr) false
noncomputable def KP (ops:Array Oper) (pl:gA) (call:aI) (r:F.T) (h:ah) (y:Y):FO F.T:=match pl.order.reverse with
 | []=> .bad
 | i::front=>match (ep E F n ops pl front.reverse 0).run call r h y,ops[i]? with
   | .ok tr hs r1 h1 y1,some ⟨dst,.call c,ty,pos,after,guard⟩=>
     match ct E (.call c)&&bp ops (cf F n r1) ⟨dst,.call c,ty,pos,after,guard⟩&&(List.range ops.size).all (fun j=>j==i||bN pl.an i j),
      bF E call (cf F n r1) h1 y1.rc ⟨dst,.call c,ty,pos,after,guard⟩ with
     | true,.panic v h'=>match kE tr (hs++[h']) with
       | true=> .jmp (.panic v) r1 h' y1
       | false=> .bad
     | _,_=> .bad
   | _,_=> .bad
noncomputable def Dn (ops:Array Oper):I F.T:=GV E ops (fun pl=>
 ⟨fun call r h y=>DO.rec (motive:=fun _=>FO F.T) (fun tr hs r' h' y'=>bc (kE tr hs) (.zV r' h' y') .bad) (KP E F n ops pl call r h y) ((ep E F n ops pl pl.order 0).run call r h y)⟩) ⟨fun _ _ _ _=> .bad⟩
def MK (r:T) (o:Out):FO T:=match o with
 | .ok .normal s=> .zV r s.h ⟨s.ds,s.rc⟩
 | .ok e s=> .jmp e r s.h ⟨s.ds,s.rc⟩
 | .fail _ _=> .bad
noncomputable def xR (f:Operand) (ps:Array Tmp) (as_ bd:Code):I F.T:=
 wO E F n f (fun _=>⟨fun call r h y=>MK r (hX E call f ps as_ bd ⟨cf F n r,h,y.ds,y.rc⟩)⟩) ⟨fun _ _ _ _=> .bad⟩
noncomputable def nS {R:Type} (d:R) (k:Nat→R) (m:Nat):R:=Nat.rec (motive:=fun _=>R) d (fun i _=>k i) m
noncomputable def fo {R:Type} (a:T→ah→Y→R) (b:fi→T→ah→Y→R) (d:R) (o:FO T):R:=FO.rec (motive:=fun _=>R) a b d o
noncomputable def G_ {R:Type} (f:Nat→R) (d:R) (e:fi):R:=fi.rec (motive:=fun _=>R) d f d (fun _=>d) e
noncomputable def G' (b:C T) (m:Nat):aI→T→ah→Y→FO T:=
 Nat.rec (motive:=fun _=>aI→T→ah→Y→FO T) (fun _ _ _ _=> .bad) (fun i ih call r h y=>fo (fun r' h' y'=>ih call r' h' y') .jmp .bad (b.run i call r h y)) m
noncomputable def KQ (i:I T):C T:=⟨fun m call r h y=>nS .bad (fun _=>i.run call r h y) m⟩
noncomputable def gW (c:Code):C F.T:=Code.rec (motive:=fun _=>C F.T)
 ⟨fun m _ r h y=>nS .bad (fun _=> .zV r h y) m⟩
 (fun _ ops draw=>bc draw (KQ (Dn E F n ops)) (KQ (mY E F n ops ops.toList)))
 (fun _ _ a b=>⟨fun m call r h y=>nS .bad (fun i=>fo (fun r' h' y'=>b.run i call r' h' y') .jmp .bad (a.run i call r h y)) m⟩)
 (fun x _ _ a b=>wO E F n x (fun g=>⟨fun m call r h y=>nS .bad (fun i=>eB (fun t=>bc t (a.run i call r h y) (b.run i call r h y)) .bad (g r)) m⟩) ⟨fun _ _ _ _ _=> .bad⟩)
 (fun id _ b=>⟨fun m call r h y=>nS .bad (fun i=>fo .zV (fun e r' h' y'=>G_ (fun j=>bc (Nat.beq j id) (.zV r' h' y') (.jmp e r' h' y')) (.jmp e r' h' y') e) .bad (b.run i call r h y)) m⟩)
 (fun _ b=>⟨fun m call r h y=>G' b m call r h y⟩)
 (fun f ps as_ bd _ _=>KQ (xR E F n f ps as_ bd))
 (fun id=>⟨fun m _ r h y=>nS .bad (fun _=> .jmp (.exit id) r h y) m⟩)
 (fun _ b=>⟨fun m call r h y=>nS .bad (fun i=>b.run i call r h y) m⟩)
 (fun _=>⟨fun m _ r h y=>nS .bad (fun _=> .zV r h y) m⟩)
 (fun _=>⟨fun _ _ _ _ _=> .bad⟩)
 ⟨fun m _ r h y=>nS .bad (fun _=> .jmp .ret r h y) m⟩
 (fun _=>⟨fun _ _ _ _ _=> .bad⟩) c
end
section
variable (E:Env)
inductive BO where
 | fin (res:ah→Option (List AV)) (h:ah) (y:Y)
 | QG (v:AV) (res:ah→Option (List AV)) (h:ah) (y:Y)
 | bad
structure CF where
 run:Nat→aI→List AV→ah→RC→BO
noncomputable def qh (F:RF) (n:Nat):List ResultVar→W (F.T→ah→Option (List AV))
 | []=>⟨fun _ _=>some []⟩
 | .tmp t::rest=>wT F n t fun g=>wW (qh F n rest) fun k=>⟨fun r h=>ob none (fun vs=>some (g r::vs)) (k r h)⟩
 | .cell a t::rest=>wT F n a fun g=>wW (qh F n rest) fun k=>⟨fun r h=>ob none (fun v=>ob none (fun vs=>some (v::vs)) (k r h)) (aM E h t (g r))⟩
noncomputable def Ha (F:RF) (n:Nat) (fn:Func) (b:Code):CF:=
 wW (qh E F n fn.results.toList) fun res=>⟨fun fuel call args h rc=>bc (Nat.ble (dX args) n)
  (fo (fun r h' y=> .fin (res r) h' y) (fun e r h' y=>fi.rec (motive:=fun _=>BO) .bad (fun _=> .bad) (.fin (res r) h' y) (fun v=> .QG v (res r) h' y) e) .bad
   ((gW E F n b).run fuel call (FR F args F.z 0) h ⟨[],rc⟩)) .bad⟩
noncomputable def qX (f:FuncId):CF:=match NR E.P f with
 | none=>⟨fun _ _ _ _ _=> .bad⟩
 | some fn=>match fn.body with
   | none=>⟨fun _ _ _ _ _=> .bad⟩
   | some b=>bc (Nat.ble fn.ntmps 64) (Ha E SZ fn.ntmps fn b) (bc (Nat.ble fn.ntmps 512) (Ha E S0 fn.ntmps fn b) ⟨fun _ _ _ _ _=> .bad⟩)
noncomputable def bo {R:Type} (a:(ah→Option (List AV))→ah→Y→R) (b:AV→(ah→Option (List AV))→ah→Y→R) (d:R) (o:BO):R:=BO.rec (motive:=fun _=>R) a b d o
noncomputable def Dp (F:RF) (call:aI) (fuel:Nat) (c:Code) (s:St):Out:=
 fo (fun r h y=> .ok .normal ⟨cf F s.ts.length r,h,y.ds,y.rc⟩) (fun e r h y=> .ok e ⟨cf F s.ts.length r,h,y.ds,y.rc⟩) (.fail "" none) ((gW E F s.ts.length c).run fuel call (FR F s.ts F.z 0) s.h ⟨s.ds,s.rc⟩)
noncomputable def Dq (call:aI) (fuel:Nat) (c:Code) (s:St):Out:=
 bc (Nat.ble s.ts.length 64) (Dp E SZ call fuel c s) (bc (Nat.ble s.ts.length 512) (Dp E S0 call fuel c s) (.fail "" none))
noncomputable def sZ (call:aI) (fuel:Nat) (l:Nat) (args:List AV) (h:ah):eg:=match h.get l with
 | some (.loop _ _ ts ps as_ bd _)=>if args.length=ps.length then
  match Dq E call fuel as_ {ts:=(ps.zip args).foldl (fun ts x=>ts.set x.1 x.2) ts,h,ds:=[],rc:= .y_ l} with
  | .ok .normal s1=>match s1.h.get l with
    | some (.loop .ready pd Nj Mn J7 Nk Nl)=>
      match Dq E call fuel bd {s1 with h:=s1.h.put l (some (.loop .busy pd Nj Mn J7 Nk Nl))} with
      | .ok .normal s2=>sg l none s2
      | .ok .ret s2=>sg l (some .ret) s2
      | .ok (.exit id) s2=>sg l (some (.exit id)) s2
      | .ok (.panic v) s2=>if s2.ds.isEmpty then .panic v s2.h else .fail "round defers" none
      | .fail why q=> .fail why q
    | _=> .fail "round state" none
  | .ok _ _=> .fail "round assign" none
  | .fail why q=> .fail why q
   else .fail "round args" none
 | _=> .fail "round" none
noncomputable def dv (call:aI) (fuel:Nat) (g:FuncId) (as_:List AV) (h:ah) (rc:RC):Option (ah×RC):=
 bo (fun res h' y=>bc y.ds.isEmpty (ob none (fun _=>some (h',y.rc)) (res h')) none) (fun _ _ _ _=>none) none ((qX E g).run fuel call as_ h rc)
noncomputable def zZ (call:aI) (fuel:Nat) (p:Option AV) (res:ah→Option (List AV)) (h:ah) (ds:List iI):eg:=match bA (dv E call fuel) ds p h with
 | none=> .fail "unwind" none
 | some (some v,h')=> .panic v h'
 | some (none,h')=>ob (.fail "results" none) (fun vs=> .ret (dp vs) h') (res h')
noncomputable def Yi {R:Type} (a:FuncId→R) (b:Nat→R) (f:Fn):R:=Fn.rec (motive:=fun _=>R) a b f
noncomputable def z6 {α R:Type} (a b:R) (l:List α):R:=List.rec (motive:=fun _=>R) a (fun _ _ _=>b) l
noncomputable def QH (fuel:Nat) (call:aI) (g:Fn) (args:List AV) (h:ah):eg:=
 Yi (fun f=>bo (fun res h' y=>z6 (ob (.fail "results" none) (fun vs=> .ret (dp vs) h') (res h')) (zZ E call fuel none res h' y.ds) y.ds)
  (fun v res h' y=>z6 (.panic v h') (zZ E call fuel (some v) res h' y.ds) y.ds) (.fail "body" none) ((qX E f).run fuel call args h .no))
  (fun l=>sZ E call fuel l args h) g
noncomputable def qY (d fuel:Nat):aI:=Nat.rec (motive:=fun _=>aI) (fun _ _ _=> .fail "depth" none) (fun _ ih=>QH E fuel ih) d
end
end Go.Ab.Fa
end
section
namespace Go.Ab.Fa
theorem KR {α R:Type} {d:R} {f:α→R} {a:α}:ob d f (some a)=f a:=rfl
theorem dR {R:Type} (x y:R):bc true x y=x:=rfl
theorem bQ {R:Type} (x y:R):bc false x y=y:=rfl
theorem cZ {α β:Type} {f:α→Option β} {o:Option α} {v:β} (h:ob none f o=some v):∃a,o=some a∧f a=some v:=by
 cases o with
 | none=>exact absurd h (by intro e;cases e)
 | some a=>exact ⟨a,rfl,h⟩
theorem cD {β:Type} {b:Bool} {x:Option β} {v:β} (h:bc b x none=some v):b=true∧x=some v:=by
 cases b with
 | false=>cases h
 | true=>exact ⟨rfl,h⟩
theorem iv {β:Type} {b:Bool} {x:Option β} {v:β} (h:bc b none x=some v):b=false∧x=some v:=by
 cases b with
 | false=>exact ⟨rfl,h⟩
 | true=>cases h
theorem vX {β:Type} {f:Bool→Option β} {a:AV} {v:β} (h:eB f none a=some v):∃b,a= .bool b∧f b=some v:=by
 cases a with
 | bool b=>exact ⟨b,rfl,h⟩
 | _=>exact absurd h (by intro e;cases e)
theorem dz {β:Type} {f:IntKind→Int→Option β} {a:AV} {v:β} (h:ic f none a=some v):∃k n,a= .int k n∧f k n=some v:=by
 cases a with
 | int k n=>exact ⟨k,n,rfl,h⟩
 | _=>exact absurd h (by intro e;cases e)
theorem fR {β:Type} {f:List UInt8→Option β} {a:AV} {v:β} (h:jJ f none a=some v):∃s,a= .str s∧f s=some v:=by
 cases a with
 | str s=>exact ⟨s,rfl,h⟩
 | _=>exact absurd h (by intro e;cases e)
theorem mb {β:Type} {f:Nat→Nat→Option β} {a:AV} {v:β} (h:p_ f none a=some v):∃i o,a= .ptr i o∧f i o=some v:=by
 cases a with
 | ptr i o=>exact ⟨i,o,rfl,h⟩
 | _=>exact absurd h (by intro e;cases e)
theorem iV {β:Type} {e:Option β} {f:Nat→Nat→Nat→Nat→Bool→Option β} {a:AV} {v:β} (h:eC e f none a=some v):
 (a= .aK∧e=some v)∨∃i o l c b,a= .slice i o l c b∧f i o l c b=some v:=by
 cases a with
 | aK=>exact .inl ⟨rfl,h⟩
 | slice i o l c b=>exact .inr ⟨i,o,l,c,b,rfl,h⟩
 | _=>exact absurd h (by intro e;cases e)
theorem z8 {β:Type} {e z:Option β} {f:Nat→Nat→Nat→Nat→Bool→Option β} {a:AV} {v:β} (h:eC e f (vZ z none a) a=some v):
 (a= .aK∧e=some v)∨(∃i o l c b,a= .slice i o l c b∧f i o l c b=some v)∨(a= .cb∧z=some v):=by
 cases a with
 | aK=>exact .inl ⟨rfl,h⟩
 | slice i o l c b=>exact .inr (.inl ⟨i,o,l,c,b,rfl,h⟩)
 | cb=>exact .inr (.inr ⟨rfl,h⟩)
 | _=>exact absurd h (by intro e;cases e)
theorem fS {β:Type} {f:Nat→Option β} {n:Int} {v:β} (h:eD f none n=some v):∃m:Nat,n=(m:Int)∧f m=some v:=by
 cases n with
 | ofNat m=>exact ⟨m,rfl,h⟩
 | negSucc m=>cases h
theorem kF {β:Type} {f:List AV→TypeId→Bool→Option β} {o:aF} {v:β} (h:qb f none o=some v):∃cs e ro,o= .cells cs e ro∧f cs e ro=some v:=by
 cases o with
 | cells cs e ro=>exact ⟨cs,e,ro,rfl,h⟩
 | _=>exact absurd h (by intro e;cases e)
theorem cy {a b:Nat} (h:Nat.ble a b=true):a≤b:=Nat.le_of_ble_eq_true h
theorem ei {a b:Nat} (h:Nat.ble a b=false):b<a:=by
 apply Decidable.byContradiction;intro hn
 rw[Nat.ble_eq_true_of_le (by omega)] at h;cases h
theorem ie {a b:Nat} (h:Nat.beq a b=true):a=b:=Nat.eq_of_beq_eq_true h
theorem Dr {k j:IntKind} (h:GN k j=true):k=j:=by
 cases k<;>cases j<;>first | rfl | exact absurd h (by intro e;cases e)
theorem oO (b:Bool):nP b= !b:=by cases b<;>rfl
theorem Hb {k:IntKind} (h:MD k=false) (n:Int):k.wrap n=n%(nh k:Int):=by
 cases k<;>first | (cases h;done) | simp [IntKind.wrap,IntKind.bits,IntKind.signed,nh,KD]
theorem Hc {k:IntKind} (h:MD k=true) {m:Nat} (hm:m<nh k):k.wrap (Int.negSucc m)=Int.negSucc m:=by
 have hb:(2^(k.bits - 1):Int)=(nh k:Int)∧(2^k.bits:Int)=2*(nh k:Int)∧k.signed=true:=by
  cases k<;>first | (cases h;done) | (refine ⟨rfl,rfl,rfl⟩)
 obtain ⟨h1,h2,h3⟩:=hb
 unfold IntKind.wrap
 rw[h1,h2,h3,Int.negSucc_eq]
 generalize nh k=B at *
 have e: -((m:Int)+1)%(2*(B:Int))=2*(B:Int) -(m+1):=by
  rw[←Int.add_emod_right]
  exact Int.emod_eq_of_lt (by omega) (by omega)
 rw[e]
 simp only[Bool.true_and,decide_eq_true_eq]
 rw[if_pos (by omega)]
 omega
theorem iW (k:IntKind) (n:Int):nu k n=k.wrap n:=by
 cases n with
 | ofNat m=>
   show bc (Nat.ble (nh k) m) (bc (MD k) (k.wrap (Int.ofNat m)) (Int.ofNat (Nat.mod m (nh k)))) (Int.ofNat m)=_
   cases h:Nat.ble (nh k) m
   · have h:=ei h
     rw[bQ]
     cases k<;>simp [IntKind.wrap,IntKind.bits,IntKind.signed]<;>simp only[nh,KD] at h<;>omega
   · rw[dR]
     cases hs:MD k
     · rw[bQ,Hb hs];rfl
     · rw[dR]
 | negSucc m=>
   show bc (MD k) (bc (Nat.ble (nh k) m) (k.wrap (Int.negSucc m)) (Int.negSucc m)) (k.wrap (Int.negSucc m))=_
   cases hs:MD k
   · rw[bQ]
   · rw[dR]
     cases h:Nat.ble (nh k) m
     · have h:=ei h
       rw[bQ]
       exact (Hc hs h).symm
     · rw[dR]
theorem KS (a b:Int):kA a b=a+b:=by
 cases a<;>cases b<;>rfl
theorem KT (a b:Int):cY a b=a - b:=by
 cases a with
 | negSucc x=>rfl
 | ofNat x=>
   cases b with
   | negSucc y=>rfl
   | ofNat y=>
     show bc (Nat.ble y x) (Int.ofNat (x - y)) (Int.negSucc (y - x - 1))=_
     cases h:Nat.ble y x
     · have h:=ei h
       rw[bQ,Int.negSucc_eq];simp only[Int.ofNat_eq_natCast];omega
     · have h:=cy h
       rw[dR];simp only[Int.ofNat_eq_natCast];omega
theorem Ds (a b:Int):zM a b=a*b:=by
 cases a<;>cases b<;>rfl
theorem B9 (a b:Int):ME a b=(a==b):=by
 have:ME a b=decide (a=b):=by
  cases a with
  | ofNat x=>cases b with
    | ofNat y=>
      show Nat.beq x y=_
      rw[←rI]
      by_cases h:x=y
      · subst h;simp
      · rw[show (x==y)=false by simp [h]];symm;apply decide_eq_false;simp only[Int.ofNat_eq_natCast];omega
    | negSucc y=>simp;rfl
  | negSucc x=>cases b with
    | ofNat y=>simp;rfl
    | negSucc y=>
      show Nat.beq x y=_
      rw[←rI]
      by_cases h:x=y
      · subst h;simp
      · simp [h]
 rw[this];rfl
theorem xS (a b:Int):KE a b=decide (a<b):=by
 cases a with
 | ofNat x=>cases b with
   | ofNat y=>
     show Nat.ble (x+1) y=_
     rw[←mX];simp only[Int.ofNat_eq_natCast];congr 1;apply propext;omega
   | negSucc y=>
     symm;exact decide_eq_false (by rw[Int.negSucc_eq];simp only[Int.ofNat_eq_natCast];omega)
 | negSucc x=>cases b with
   | ofNat y=>
     symm;exact decide_eq_true (by rw[Int.negSucc_eq];simp only[Int.ofNat_eq_natCast];omega)
   | negSucc y=>
     show Nat.ble (y+1) x=_
     rw[←mX];congr 1;apply propext;rw[Int.negSucc_eq,Int.negSucc_eq];omega
theorem s5 (a b:Int):(!decide (a<b))=decide (b≤a):=by
 by_cases h:a<b
 · rw[decide_eq_true h,decide_eq_false (by omega)];rfl
 · rw[decide_eq_false h,decide_eq_true (by omega)];rfl
theorem KU (k:IntKind) {x:Nat} (h:x<nh k):x<2^k.bits:=by
 cases k<;>simp only[nh,KD,IntKind.bits] at * <;>omega
theorem Dt (k:IntKind) {x:Nat} (h:x<nh k):k.wrap (x:Int)=x:=by
 have:=iW k (Int.ofNat x)
 rw[Int.ofNat_eq_natCast] at this
 rw[←this]
 show bc (Nat.ble (nh k) x) _ (Int.ofNat x)=_
 rw[iK h];rfl
theorem KV (k:IntKind):∃m,nh k=2^m:=by
 cases k
 · exact ⟨7,rfl⟩
 · exact ⟨15,rfl⟩
 · exact ⟨31,rfl⟩
 · exact ⟨63,rfl⟩
 · exact ⟨8,rfl⟩
 · exact ⟨16,rfl⟩
 · exact ⟨32,rfl⟩
 · exact ⟨64,rfl⟩
theorem toNat_ofInt (k:IntKind) {x:Nat} (h:x<nh k):(BitVec.ofInt k.bits (Int.ofNat x)).toNat=x:=by
 rw[Int.ofNat_eq_natCast,BitVec.ofInt_natCast,BitVec.toNat_ofNat]
 exact Nat.mod_eq_of_lt (KU k h)
theorem KW (op:BinOp) (k:IntKind) (a b:Int) {v:AV} (h:KF op k a b=some v):bC op k a b=some v:=by
 cases op<;>simp only[KF] at h<;>try exact h
 · simpa [bC,iW,KS] using h
 · simpa [bC,iW,KT] using h
 · simpa [bC,iW,Ds] using h
 · cases a with
   | negSucc x=>exact h
   | ofNat x=>cases b with
     | negSucc y=>exact h
     | ofNat y=>
       obtain ⟨h1,h2⟩:=iv h
       rw[iW] at h2
       have:y≠0:=by intro e;subst e;cases h1
       rw[←h2];simp [bC,this];exact congrArg k.wrap (Int.natCast_ediv x y).symm
 · cases a with
   | negSucc x=>exact h
   | ofNat x=>cases b with
     | negSucc y=>exact h
     | ofNat y=>
       obtain ⟨h1,h2⟩:=iv h
       have:y≠0:=by intro e;subst e;cases h1
       rw[←h2];simp [bC,this];rfl
 · cases a with
   | negSucc x=>exact h
   | ofNat x=>cases b with
     | negSucc y=>exact h
     | ofNat y=>
       change bc (Nat.ble (nh k) x) _ (bc (Nat.ble (nh k) y) _ _)=_ at h
       cases h1:Nat.ble (nh k) x with
       | true=>rw[h1] at h;exact h
       | false=>cases h2:Nat.ble (nh k) y with
         | true=>rw[h1,h2] at h;exact h
         | false=>
           rw[h1,h2] at h
           have h1:=ei h1;have h2:=ei h2
           rw[←h,bQ,bQ]
           show some (AV.int k (k.wrap ((BitVec.ofInt k.bits (Int.ofNat x)&&& BitVec.ofInt k.bits (Int.ofNat y)).toNat:Int)))=_
           rw[BitVec.toNat_and,toNat_ofInt k h1,toNat_ofInt k h2,Dt k (Nat.lt_of_le_of_lt Nat.and_le_left h1)]
           rfl
 · cases a with
   | negSucc x=>exact h
   | ofNat x=>cases b with
     | negSucc y=>exact h
     | ofNat y=>
       change bc (Nat.ble (nh k) x) _ (bc (Nat.ble (nh k) y) _ _)=_ at h
       cases h1:Nat.ble (nh k) x with
       | true=>rw[h1] at h;exact h
       | false=>cases h2:Nat.ble (nh k) y with
         | true=>rw[h1,h2] at h;exact h
         | false=>
           rw[h1,h2] at h
           have h1:=ei h1;have h2:=ei h2
           rw[←h,bQ,bQ]
           show some (AV.int k (k.wrap ((BitVec.ofInt k.bits (Int.ofNat x)||| BitVec.ofInt k.bits (Int.ofNat y)).toNat:Int)))=_
           rw[BitVec.toNat_or,toNat_ofInt k h1,toNat_ofInt k h2,Dt k]
           · rfl
           · obtain ⟨m,hm⟩:=KV k
             rw[hm] at h1 h2 ⊢
             exact Nat.or_lt_two_pow h1 h2
 · simpa [bC,B9] using h
 · simpa [bC,B9,oO,bne] using h
 · simpa [bC,xS] using h
 · simpa [bC,xS,oO,s5] using h
 · simpa [bC,xS] using h
 · simpa [bC,xS,oO,s5] using h
theorem KX (op:BinOp) (k:IntKind) (a b:Int):(GX op).f k a b=KF op k a b:=by
 cases op<;>rfl
theorem Hd (k:IntKind):GO k=k.bits:=by cases k<;>rfl
theorem Du (k:IntKind) (y:Nat):GP k y=min y k.bits:=by
 unfold GP;rw[Hd]
 cases h:Nat.ble k.bits y
 · have:=ei h;rw[bQ];omega
 · have:=cy h;rw[dR];omega
theorem KY {k:IntKind} {x y:Int} {v:AV} (h:Qz k x y=some v):¬y<0∧v= .int k (k.wrap (x*2^(min y.toNat k.bits))):=by
 obtain ⟨m,rfl,h⟩:=fS h
 refine ⟨by omega,?_⟩
 have h:=Option.some.inj h
 rw[←h,iW,Ds,Du]
 simp
theorem KZ {k:IntKind} {x y:Int} {v:AV} (h:QA k x y=some v):¬y<0∧v= .int k (x.fdiv (2^(min y.toNat k.bits))):=by
 obtain ⟨m,rfl,h⟩:=fS h
 refine ⟨by omega,?_⟩
 have h:=Option.some.inj h
 rw[←h]
 cases x with
 | negSucc x=>simp [eD]
 | ofNat x=>
   show AV.int k (Int.ofNat (x/2^GP k m))=_
   rw[Du]
   simp
   rw[show (2^min m k.bits:Int)=((2^min m k.bits:Nat):Int) by simp]
   exact (Int.fdiv_eq_ediv_of_nonneg _ (Int.natCast_nonneg _)).symm
end Go.Ab.Fa
end
section
namespace Go.Ab.Fa
section
variable {α:Type}
theorem j1 (l:List α) (o:Nat):l6 l o=l.drop o:=by
 induction l generalizing o with
 | nil=>simp [l6]
 | cons v tl ih=>
   show bc (Nat.beq o 0) (v::tl) (l6 tl (o - 1))=_
   rw[ih]
   cases o with
   | zero=>rfl
   | succ o=>simp [show Nat.beq (o+1) 0=false from rfl,bQ]
theorem j2 (l:List α) (o:Nat):l7 l o=l.take o:=by
 induction l generalizing o with
 | nil=>simp [l7]
 | cons v tl ih=>
   show bc (Nat.beq o 0) [] (v::l7 tl (o - 1))=_
   rw[ih]
   cases o with
   | zero=>rfl
   | succ o=>simp [show Nat.beq (o+1) 0=false from rfl,bQ]
theorem EG (vs:List α):∀(cs:List α) (k:Nat),(zN vs cs)[k]? =if k<vs.length∧k<cs.length then vs[k]? else cs[k]? :=by
 induction vs with
 | nil=>intro cs k;rw[if_neg (by simp)];rfl
 | cons v vs ih=>
   intro cs k
   cases cs with
   | nil=>rw[if_neg (by simp)];rfl
   | cons c tl=>
     show (v::zN vs tl)[k]? =_
     cases k with
     | zero=>rw[if_pos (by simp)];rfl
     | succ k=>simp only[List.getElem?_cons_succ,ih,List.length_cons,Nat.add_lt_add_iff_right]
theorem He (vs:List α):∀(cs:List α) (o k:Nat),(zO vs cs o)[k]? =if o≤k∧k<o+vs.length∧k<cs.length then vs[k - o]? else cs[k]? :=by
 intro cs
 induction cs with
 | nil=>intro o k;rw[if_neg (by simp)];rfl
 | cons c tl ih=>
   intro o k
   show (bc (Nat.beq o 0) (zN vs (c::tl)) (c::zO vs tl (o - 1)))[k]? =_
   cases o with
   | zero=>
     show (zN vs (c::tl))[k]? =_
     rw[EG];simp
   | succ o=>
     show (c::zO vs tl o)[k]? =_
     cases k with
     | zero=>rw[if_neg (by omega)];rfl
     | succ k=>
       rw[List.getElem?_cons_succ,ih,List.getElem?_cons_succ,List.length_cons]
       by_cases h:o≤k∧k<o+vs.length∧k<tl.length
       · rw[if_pos h,if_pos (by omega),show k+1 -(o+1)=k - o by omega]
       · rw[if_neg h,if_neg (by omega)]
end
theorem xU (vs cs:List AV) (o:Nat):zO vs cs o=setFrom cs o vs:=by
 apply List.ext_getElem?;intro k;rw[He,b4]
theorem B_ (l m:List UInt8):leq sR l m=(l==m):=by
 have key:∀a b:UInt8,sR a b=(a==b):=by
  intro a b
  unfold sR
  rw[←rI]
  by_cases h:a=b
  · subst h;simp
  · rw[show (a==b)=false by simp [h]]
    rw[beq_eq_false_iff_ne]
    intro e;apply h
    have:a.toNat=b.toNat:=e
    exact UInt8.toNat_inj.mp this
 induction l generalizing m with
 | nil=>cases m<;>rfl
 | cons x tl ih=>
   cases m with
   | nil=>rfl
   | cons y tm=>
     show bc (sR x y) (leq sR tl tm) false=_
     rw[ih,key,iU];rfl
theorem K0 (op:BinOp) (a b:List UInt8):(ED op).f a b=lG op a b:=by
 cases op<;>first | rfl | (simp only[ED,lG,B_,oO])
theorem K1 (v:AV):KG v=AV.scalar v:=by cases v<;>rfl
theorem z_:KG=AV.scalar:=funext K1
theorem EH (v:AV):xH v=true→(match (some v:Option AV) with
 | some (.ptr i o)=>some (.ptr i o)
 | some (.map i)=>some (.map i)
 | some (.slice i o l c b)=>some (.slice i o l c b)
 | some (.func f a b)=>some (.func f a b)
 | _=>none)=some v:=by
 cases v<;>intro h<;>first | rfl | exact absurd h (by intro e;cases e)
theorem Aa {f:TypeId→AV→pO} {why:String} {o:Option Oper} (a:AV):(∃t v,a= .iface t v)∨kz f (.fail why o) a= .fail why o:=by
 cases a with
 | iface t v=>exact .inl ⟨t,v,rfl⟩
 | _=>exact .inr rfl
theorem gD (v:AV):fQ v=v.cells:=by cases v<;>rfl
section
variable (E:Env) (F:RF) (n:Nat)
theorem xV {β:Type} (i:Nat) (k:(F.T→AV)→β):∃g,wT F n i k=k g∧∀r,(cf F n r).getD i AV.undef=g r:=by
 unfold wT
 cases h:Nat.ble n i
 · refine ⟨(F.get i).f,rfl,fun r=>?_⟩
   rw[zL,if_pos (ei h)]
 · refine ⟨fun _=>AV.undef,rfl,fun r=>?_⟩
   rw[zL,if_neg (by have:=cy h;omega)]
theorem aY {β:Type} (x:Operand) (k:(F.T→AV)→β) (d:β):wO E F n x k d=d∨∃g,wO E F n x k d=k g∧∀r,b8 E (cf F n r) x=some (g r):=by
 cases x with
 | tmp t=>
   obtain ⟨g,h1,h2⟩:=xV F n t k
   exact .inr ⟨g,h1,fun r=>by rw[←h2];rfl⟩
 | const v=>
   simp only[wO]
   cases h:ofConst v with
   | none=>exact .inl rfl
   | some a=>exact .inr ⟨fun _=>a,rfl,fun r=>h⟩
 | global g=>
   simp only[wO]
   cases h:Nat.ble E.G g
   · exact .inr ⟨fun _=> .ptr g 0,rfl,fun r=>by rw[b8,if_pos (ei h)]⟩
   · exact .inl rfl
 | func f=>exact .inr ⟨fun _=> .func f [] [],rfl,fun r=>rfl⟩
theorem mZ {β:Type}:∀(l:List Operand) (k:(F.T→List AV)→β) (d:β),wL E F n l k d=d∨∃g,wL E F n l k d=k g∧∀r,cF E (cf F n r) l=some (g r)
 | [],k,d=> .inr ⟨fun _=> [],rfl,fun r=>rfl⟩
 | x::xs,k,d=>by
   rw[wL]
   rcases aY E F n x (fun g=>wL E F n xs (fun gs=>k fun r=>g r::gs r) d) d with h | ⟨g,h,hg⟩
   · exact .inl h
   · rcases mZ xs (fun gs=>k fun r=>g r::gs r) d with h' | ⟨gs,h',Ul⟩
     · exact .inl (h.trans h')
     · refine .inr ⟨_,h.trans h',fun r=>?_⟩
       have:=Ul r
       unfold cF at *
       rw[bO,hg r];simp only[this]
theorem Dv {β:Type} (o:Option Operand) (k:Option (F.T→AV)→β) (d:β):wP E F n o k d=d∨∃g,wP E F n o k d=k g∧∀r,gQ E (cf F n r) o=some (vn g r):=by
 cases o with
 | none=>exact .inr ⟨none,rfl,fun r=>rfl⟩
 | some x=>
   rcases aY E F n x (fun g=>k (some g)) d with h | ⟨g,h,hg⟩
   · exact .inl h
   · exact .inr ⟨some g,h,fun r=>by rw[gQ,hg r];rfl⟩
theorem s6 {β:Type}:∀(l:List (Nat×Operand)) (k:(F.T→List (Nat×AV))→β) (d:β),KM E F n l k d=d∨∃g,KM E F n l k d=k g∧∀r,eU E (cf F n r) l=some (g r)
 | [],k,d=> .inr ⟨fun _=> [],rfl,fun r=>rfl⟩
 | (i,x)::xs,k,d=>by
   rw[KM]
   rcases aY E F n x (fun g=>KM E F n xs (fun gs=>k fun r=>(i,g r)::gs r) d) d with h | ⟨g,h,hg⟩
   · exact .inl h
   · rcases s6 xs (fun gs=>k fun r=>(i,g r)::gs r) d with h' | ⟨gs,h',Ul⟩
     · exact .inl (h.trans h')
     · refine .inr ⟨_,h.trans h',fun r=>?_⟩
       rw[eU,hg r];simp only[Ul r]
theorem Dw {β:Type} (hn:n≤F.N) (o:Option Tmp) (k:(AV→F.T→F.T)→β):∃s,wS F n o k=k s∧∀v r,bR (cf F n r) o v=cf F n (s v r):=by
 cases o with
 | none=>exact ⟨fun _ r=>r,rfl,fun v r=>rfl⟩
 | some i=>
   show ∃s,bc (Nat.ble n i) (k fun _ r=>r) (wU (F.set i) k)=k s∧_
   cases h:Nat.ble n i
   · exact ⟨(F.set i).f,rfl,fun v r=>KB F n hn r (ei h) v⟩
   · refine ⟨fun _ r=>r,rfl,fun v r=>?_⟩
     show (cf F n r).set i v=_
     rw[List.set_eq_of_length_le (by rw[dP];exact cy h)]
theorem iX (t:TypeId):og E t=bb E t:=by
 unfold og bb;rw[l9];cases E.P.info? t<;>rfl
theorem Hf (t:TypeId):NV E t=eu E t:=by
 unfold NV eu;rw[l9];cases E.P.info? t<;>rfl
theorem qi (t:TypeId):Bs E t=cL E t:=by
 unfold Bs cL;rw[l9]
 cases E.P.info? t with
 | none=>rfl
 | some i=>show ob none (fun z=>ofConst z) i.zero=_;cases h:i.zero<;>simp [ob,h]
theorem NX (t:TypeId):Uk E t=cm E t:=by
 unfold Uk cm;rw[dQ];rfl
theorem Hg (t:TypeId) (f:Nat):PB E t f=gR E t f:=by
 unfold PB gR;rw[dQ]
 generalize E.P.underlying t=u
 cases u with
 | none=>rfl
 | some d=>cases d with
   | struct fs=>show dY fs.toList f=fs[f]?;rw[di];exact Array.getElem?_toList
   | _=>rfl
def mc (op:Op):Prop:=(∀ts,aL E ts op=none)∧(∀ts h,bW E ts h op=none)∧∀ts,bZ E ts op=none
def e_ (f g:aI):Prop:=∀F as_ h,(∀v h',f F as_ h= .ret v h'→g F as_ h= .ret v h')∧∀v h',f F as_ h= .panic v h'→g F as_ h= .panic v h'
def ML (a b:pO):Prop:=match a with
 | .fail _ _=>True
 | a=>b=a
def cI (op:Op):Kd F.T→Prop
 | .zb g=>∀r,aL E (cf F n r) op=some (g r)
 | .db f=>∀r v,f r=some v→aL E (cf F n r) op=some v
 | .red f=>∀r h v,f r h=some v→aL E (cf F n r) op=some v∨(aL E (cf F n r) op=none∧bW E (cf F n r) h op=some v)
 | .lK f=>(∀ts,aL E ts op=none)∧(∀ts h,bW E ts h op=none)∧∀r p,f r=some p→bZ E (cf F n r) op=some p
 | .wr f=>mc E op∧∀call r h rc o p,o.op=op→f r h=some p→bF E call (cf F n r) h rc o= .val p.1 p.2
 | .call g args=>mc E op∧∀call r h rc o,o.op=op→bF E call (cf F n r) h rc o=gV (call g (args r) h)
 | .nf f=>mc E op∧∀fc call,e_ fc call→∀r h rc o,o.op=op→ML (f fc r h rc) (bF E call (cf F n r) h rc o)
 | .bad=>True
end
end Go.Ab.Fa
end
section
namespace Go.Ab.Fa
variable {E:Env} {F:RF} {n:Nat}
theorem K2 {op:BinOp} (h1:op≠ .shl) (h2:op≠ .shr) {t:TypeId} {xc yc:Bool} {a b v:AV} (h:KL (GX op).f (ED op).f (eT E op t xc yc) a b=some v):eT E op t xc yc a b=some v:=by
 unfold KL at h
 cases a with
 | int k x=>
   obtain ⟨j,y,rfl,h3⟩:=dz (show ic (fun j y=>bc (GN k j) ((GX op).f k x y) none) none b=some v from h)
   obtain ⟨hk,h4⟩:=cD h3
   have hk:=Dr hk
   rw[KX] at h4
   have:=KW op k x y h4
   rw[←hk]
   cases op<;>first | exact absurd rfl h1 | exact absurd rfl h2 | simpa [eT] using this
 | str s=>
   obtain ⟨s',rfl,h3⟩:=fR (show jJ (fun t=>(ED op).f s t) none b=some v from h)
   rw[K0] at h3
   cases op<;>first | exact absurd rfl h1 | exact absurd rfl h2 | simpa [eT] using h3
 | _=>exact h
theorem K3 (op:BinOp) (t:TypeId) (x y:Operand) (yt:TypeId) (gx gy:F.T→AV) (hx:∀r,b8 E (cf F n r) x=some (gx r)) (hy:∀r,b8 E (cf F n r) y=some (gy r)):
 cI E F n (.binOp op t x y yt) (aJ op (eT E op t (isConst x) (isConst y)) gx gy):=by
 have red:∀r,aL E (cf F n r) (.binOp op t x y yt)=eT E op t (isConst x) (isConst y) (gx r) (gy r):=by
  intro r;simp only[aL,hx,hy]
 by_cases h1:op= .shl
 · subst h1
   intro r v h
   rw[red]
   obtain ⟨k,m,e1,h⟩:=dz h
   obtain ⟨k',m',e2,h⟩:=dz h
   obtain ⟨h3,rfl⟩:=KY h
   rw[e1,e2];simp [eT,h3]
 by_cases h2:op= .shr
 · subst h2
   intro r v h
   rw[red]
   obtain ⟨k,m,e1,h⟩:=dz h
   obtain ⟨k',m',e2,h⟩:=dz h
   obtain ⟨h3,rfl⟩:=KZ h
   rw[e1,e2];simp [eT,h3]
 have:aJ op (eT E op t (isConst x) (isConst y)) gx gy= .db fun r=>KL (GX op).f (ED op).f (eT E op t (isConst x) (isConst y)) (gx r) (gy r):=by
  cases op<;>first | exact absurd rfl h1 | exact absurd rfl h2 | rfl
 rw[this]
 intro r v h
 rw[red]
 exact K2 h1 h2 h
theorem NY (op:UnOp) (t:TypeId) (x:Operand) (g:F.T→AV) (hg:∀r,b8 E (cf F n r) x=some (g r)):cI E F n (.unOp op t x) (QB op g):=by
 have red:∀r,aL E (cf F n r) (.unOp op t x)=Pm op (g r):=by intro r;simp only[aL,hg]
 cases op with
 | not=>
   intro r v h
   rw[red]
   obtain ⟨b,e,h⟩:=vX h
   rw[e,←h,oO];rfl
 | _=>intro r v h;rw[red];exact h
theorem Hh {t:TypeId} {m:Nat} (h1:cm E t=some true) (h2:bb E t=some m) {cs:List AV} {o:Nat} {v:AV} (h:GZ m cs o=some v):dG E t cs o=some v:=by
 unfold GZ at h
 obtain ⟨h3,h⟩:=cD h
 have h3:=cy h3
 rw[cC] at h3
 unfold dG
 rw[h1,h2]
 simp only
 rw[if_pos (show o+m≤cs.length from h3),←h,j2,j1]
theorem Hj {t:TypeId} (h1:cm E t=some false) {cs:List AV} {o:Nat} {v:AV} (h:GY cs o=some v):dG E t cs o=some v:=by
 unfold GY at h
 rw[di] at h
 unfold dG
 rw[h1];exact h
theorem s7 {T:Type} (t:TypeId) (k:(List AV→Nat→Option AV)→Kd T):oN E t k= .bad∨∃p,oN E t k=k p∧∀cs o v,p cs o=some v→dG E t cs o=some v:=by
 unfold oN
 rw[NX]
 cases h:cm E t with
 | none=>exact .inl rfl
 | some b=>cases b with
   | false=>exact .inr ⟨_,rfl,fun cs o v=>Hj h⟩
   | true=>
     simp only
     rw[iX]
     cases h2:bb E t with
     | none=>exact .inl rfl
     | some m=>exact .inr ⟨_,rfl,fun cs o v=>Hh h h2⟩
theorem Hk {t:TypeId} {p:List AV→Nat→Option AV} (hp:∀cs o v,p cs o=some v→dG E t cs o=some v) {h:ah} {a v:AV} (e:zW p h a=some v):aM E h t a=some v:=by
 obtain ⟨i,o,rfl,e⟩:=mb e
 obtain ⟨obj,e1,e⟩:=cZ e
 obtain ⟨cs,el,ro,rfl,e⟩:=kF e
 simp only[aM,e1]
 exact hp _ _ _ e
theorem K4 (t:TypeId) (a:Operand):cI E F n (.load t a) (wO E F n a (fun g=>oN E t fun p=> .red fun r h=>zW p h (g r)) .bad):=by
 rcases aY E F n a (fun g=>oN E t fun p=>(.red fun r h=>zW p h (g r):Kd F.T)) .bad with h | ⟨g,h,hg⟩<;>rw[h]
 · trivial
 · rcases s7 (E:=E) t (fun p=>(.red fun r h=>zW p h (g r):Kd F.T)) with h | ⟨p,h,hp⟩<;>rw[h]
   · trivial
   · intro r h v e
     refine .inr ⟨rfl,?_⟩
     simp only[bW,hg]
     exact Hk hp e
theorem Hl (s:TypeId) (x:Operand) (f:Nat):cI E F n (.field s x f) (match PB E s f with
 | some fd=>wO E F n x (fun g=>oN E fd.type fun p=> .db fun r=>qa (fun cs=>p cs fd.offset) (fun _=>none) none (g r)) .bad
 | none=> .bad):=by
 rw[Hg]
 cases h0:gR E s f with
 | none=>trivial
 | some fd=>
   simp only
   rcases aY E F n x (fun g=>oN E fd.type fun p=>(.db fun r=>qa (fun cs=>p cs fd.offset) (fun _=>none) none (g r):Kd F.T)) .bad with h | ⟨g,h,hg⟩<;>rw[h]
   · trivial
   · rcases s7 (E:=E) fd.type (fun p=>(.db fun r=>qa (fun cs=>p cs fd.offset) (fun _=>none) none (g r):Kd F.T)) with h | ⟨p,h,hp⟩<;>rw[h]
     · trivial
     · intro r v e
       change qa (fun cs=>p cs fd.offset) (fun _=>none) none (g r)=some v at e
       simp only[aL,h0,hg]
       cases hv:g r with
       | agg cs=>rw[hv] at e;exact hp _ _ _ e
       | _=>rw[hv] at e;exact absurd e (by intro e;cases e)
theorem xW (s:TypeId) (x:Operand) (f:Nat):cI E F n (.fieldAddr s x f) (match PB E s f with
 | some fd=>match og E fd.type with
   | some (_+1)=>wO E F n x (fun g=> .db fun r=>p_ (fun i o=>some (.ptr i (Nat.add o fd.offset))) none (g r)) .bad
   | _=> .bad
 | none=> .bad):=by
 rw[Hg]
 cases h0:gR E s f with
 | none=>trivial
 | some fd=>
   simp only
   rw[iX]
   cases h1:bb E fd.type with
   | none=>trivial
   | some m=>cases m with
     | zero=>trivial
     | succ m=>
       simp only
       rcases aY E F n x (fun g=>(.db fun r=>p_ (fun i o=>some (.ptr i (Nat.add o fd.offset))) none (g r):Kd F.T)) .bad with h | ⟨g,h,hg⟩<;>rw[h]
       · trivial
       · intro r v e
         obtain ⟨i,o,e1,e⟩:=mb e
         simp only[aL,h0,hg,e1,h1]
         rw[if_neg (by omega)];exact e
theorem Ac (x:Operand):cI E F n (.nilCheck x) (wO E F n x (fun g=> .db fun r=>bc (xH (g r)) (some (g r)) none) .bad):=by
 rcases aY E F n x (fun g=>(.db fun r=>bc (xH (g r)) (some (g r)) none:Kd F.T)) .bad with h | ⟨g,h,hg⟩<;>rw[h]
 · trivial
 · intro r v e
   obtain ⟨h1,e⟩:=cD e
   simp only[aL,hg]
   rw[←e]
   exact EH _ h1
theorem B' (x:Operand) (i:Nat):cI E F n (.extract x i) (wO E F n x (fun g=> .db fun r=>qa (fun _=>none) (fun vs=>dY vs i) none (g r)) .bad):=by
 rcases aY E F n x (fun g=>(.db fun r=>qa (fun _=>none) (fun vs=>dY vs i) none (g r):Kd F.T)) .bad with h | ⟨g,h,hg⟩<;>rw[h]
 · trivial
 · intro r v e
   change qa (fun _=>none) (fun vs=>dY vs i) none (g r)=some v at e
   simp only[aL,hg]
   cases hv:g r with
   | tuple cs=>rw[hv] at e;show cs[i]? =some v;rw[←di];exact e
   | _=>rw[hv] at e;exact absurd e (by intro e;cases e)
theorem K5 (c a b:Operand):cI E F n (.pick c a b) (wO E F n c (fun gc=>wO E F n a (fun ga=>wO E F n b (fun gb=> .db fun r=>eB (fun t=>bc t (some (ga r)) (some (gb r))) none (gc r)) .bad) .bad) .bad):=by
 rcases aY E F n c (fun gc=>wO E F n a (fun ga=>wO E F n b (fun gb=>(.db fun r=>eB (fun t=>bc t (some (ga r)) (some (gb r))) none (gc r):Kd F.T)) .bad) .bad) .bad with h | ⟨gc,h,hc⟩<;>rw[h]
 · trivial
 rcases aY E F n a (fun ga=>wO E F n b (fun gb=>(.db fun r=>eB (fun t=>bc t (some (ga r)) (some (gb r))) none (gc r):Kd F.T)) .bad) .bad with h | ⟨ga,h,ha⟩<;>rw[h]
 · trivial
 rcases aY E F n b (fun gb=>(.db fun r=>eB (fun t=>bc t (some (ga r)) (some (gb r))) none (gc r):Kd F.T)) .bad with h | ⟨gb,h,hb⟩<;>rw[h]
 · trivial
 intro r v e
 obtain ⟨t,e1,e⟩:=vX e
 simp only[aL,hc,e1]
 cases t
 · simp only[hb];exact e
 · simp only[ha];exact e
theorem Dx {len size i o:Nat} {ix v:AV} (e:xP len size i o ix=some v):∃k m,ix= .int k m∧0≤m∧m<len∧v= .ptr i (o+m.toNat*size):=by
 obtain ⟨k,m,rfl,e⟩:=dz e
 obtain ⟨m',rfl,e⟩:=fS e
 obtain ⟨h1,e⟩:=iv e
 have h1:=ei h1
 exact ⟨k,m',rfl,by omega,by omega,(Option.some.inj e).symm⟩
theorem xX (t:TypeId) (x ix:Operand):cI E F n (.indexAddr t x ix) (wO E F n x (fun gx=>wO E F n ix (fun gi=>match eR E.P t with
 | some (.array len elem)=>match og E elem with
   | some size=> .db fun r=>p_ (fun i o=>xP len size i o (gi r)) none (gx r)
   | none=> .bad
 | some (.slice elem)=>match og E elem with
   | some size=> .db fun r=>eC none (fun i o len _ _=>xP len size i o (gi r)) none (gx r)
   | none=> .bad
 | _=> .bad) .bad) .bad):=by
 rw[dQ]
 rcases aY E F n x (fun gx=>wO E F n ix (fun gi=>match E.P.underlying t with
  | some (.array len elem)=>match og E elem with
    | some size=>(.db fun r=>p_ (fun i o=>xP len size i o (gi r)) none (gx r):Kd F.T)
    | none=> .bad
  | some (.slice elem)=>match og E elem with
    | some size=> .db fun r=>eC none (fun i o len _ _=>xP len size i o (gi r)) none (gx r)
    | none=> .bad
  | _=> .bad) .bad) .bad with h | ⟨gx,h,hx⟩<;>rw[h]
 · trivial
 rcases aY E F n ix (fun gi=>match E.P.underlying t with
  | some (.array len elem)=>match og E elem with
    | some size=>(.db fun r=>p_ (fun i o=>xP len size i o (gi r)) none (gx r):Kd F.T)
    | none=> .bad
  | some (.slice elem)=>match og E elem with
    | some size=> .db fun r=>eC none (fun i o len _ _=>xP len size i o (gi r)) none (gx r)
    | none=> .bad
  | _=> .bad) .bad with h | ⟨gi,h,hi⟩<;>rw[h]
 · trivial
 cases hu:E.P.underlying t with
 | none=>trivial
 | some d=>cases d with
   | array len elem=>
     simp only
     rw[iX]
     cases hs:bb E elem with
     | none=>trivial
     | some size=>
       intro r v e
       obtain ⟨i,o,e1,e⟩:=mb e
       obtain ⟨k,m,e2,h1,h2,rfl⟩:=Dx e
       simp only[aL,hu,hx,hi,e1,e2,hs]
       rw[if_pos ⟨h1,h2⟩]
   | slice elem=>
     simp only
     rw[iX]
     cases hs:bb E elem with
     | none=>trivial
     | some size=>
       intro r v e
       rcases iV e with ⟨_,e⟩ | ⟨i,o,l,c,b,e1,e⟩
       · cases e
       obtain ⟨k,m,e2,h1,h2,rfl⟩:=Dx e
       simp only[aL,hu,hx,hi,e1,e2,hs]
       rw[if_pos ⟨h1,h2⟩]
   | _=>trivial
theorem Hm (t:TypeId) (x ix:Operand):cI E F n (.index t x ix) (wO E F n x (fun gx=>wO E F n ix (fun gi=>match eR E.P t with
 | some .string=> .db fun r=>jJ (fun s=>ic (fun _ i=>eD (fun m=>ob none (fun (b:UInt8)=>some (.int .u8 (Int.ofNat b.toNat))) (dY s m)) none i) none (gi r)) none (gx r)
 | _=> .db fun r=>aL E (cf F n r) (.index t x ix)) .bad) .bad):=by
 rw[dQ]
 rcases aY E F n x (fun gx=>wO E F n ix (fun gi=>match E.P.underlying t with
  | some .string=>(.db fun r=>jJ (fun s=>ic (fun _ i=>eD (fun m=>ob none (fun (b:UInt8)=>some (.int .u8 (Int.ofNat b.toNat))) (dY s m)) none i) none (gi r)) none (gx r):Kd F.T)
  | _=> .db fun r=>aL E (cf F n r) (.index t x ix)) .bad) .bad with h | ⟨gx,h,hx⟩<;>rw[h]
 · trivial
 rcases aY E F n ix (fun gi=>match E.P.underlying t with
  | some .string=>(.db fun r=>jJ (fun s=>ic (fun _ i=>eD (fun m=>ob none (fun (b:UInt8)=>some (.int .u8 (Int.ofNat b.toNat))) (dY s m)) none i) none (gi r)) none (gx r):Kd F.T)
  | _=> .db fun r=>aL E (cf F n r) (.index t x ix)) .bad with h | ⟨gi,h,hi⟩<;>rw[h]
 · trivial
 cases hu:E.P.underlying t with
 | none=>intro r v e;exact e
 | some d=>cases d with
   | string=>
     intro r v e
     obtain ⟨s,e1,e⟩:=fR e
     obtain ⟨k,m,e2,e⟩:=dz e
     obtain ⟨m',rfl,e⟩:=fS e
     obtain ⟨b,e3,e⟩:=cZ e
     rw[di] at e3
     simp only[aL,hu,hx,hi,e1,e2]
     rw[if_pos (by omega)]
     rw[show ((m':Int).toNat)=m' from rfl,e3]
     exact e
   | _=>intro r v e;exact e
theorem jz {d y:Nat} {o:Option AV} {k:Nat→Option AV} {v:AV} (e:xQ d y o k=some v):∃m,(match o with | some v=>iG v y | none=>some d)=some m∧k m=some v:=by
 cases o with
 | none=>exact ⟨d,rfl,e⟩
 | some a=>
   obtain ⟨kk,i,rfl,e⟩:=dz (show ic (fun _ i=>eD (fun m=>bc (Nat.ble m y) (k m) none) none i) none a=some v from e)
   obtain ⟨m,rfl,e⟩:=fS e
   obtain ⟨h1,e⟩:=cD e
   have h1:=cy h1
   refine ⟨m,?_,e⟩
   simp only[iG]
   rw[if_pos (by omega)];rfl
theorem m4 {len cap h l:Nat} {lo hi:Option AV} (h1:(match hi with | some v=>iG v cap | none=>some len)=some h)
 (h2:(match lo with | some v=>iG v h | none=>some 0)=some l):fp len cap lo hi none=some (l,h,cap):=by
 cases hi with
 | none=>cases lo with
   | none=>cases h1;cases h2;rfl
   | some b=>cases h1;simp only[fp,Option.isSome_none];simp at h2;simp [h2]
 | some a=>cases lo with
   | none=>cases h2;simp only[fp];simp at h1;simp [h1]
   | some b=>simp only[fp];simp at h1 h2;simp [h1,h2]
theorem NZ {t elem:TypeId} {size:Nat} (hu:E.P.underlying t=some (.slice elem)) (hs:bb E elem=some size) {lo hi:Option AV} {x v:AV} (e:S3 size lo hi x=some v):bP E t x lo hi none=some v:=by
 rcases iV e with ⟨rfl,e1⟩ | ⟨i,o,len,cap,op,rfl,e1⟩
 · obtain ⟨h,h1,e2⟩:=jz e1
   obtain ⟨l,h2,e3⟩:=jz e2
   simp only[bP,hu,m4 h1 h2,hs]
   exact e3
 · obtain ⟨h0,e2⟩:=cD e1
   have h0:=cy h0
   obtain ⟨h,h1,e3⟩:=jz e2
   obtain ⟨l,h2,e4⟩:=jz e3
   simp only[bP,hu,m4 h1 h2,hs]
   rw[if_pos h0]
   cases h3:Nat.beq cap l
   · rw[h3,bQ] at e4
     have:¬cap=l:=by intro ee;rw[ee,Nat.beq_refl] at h3;cases h3
     rw[if_neg this]
     simpa using e4
   · rw[h3,dR] at e4
     rw[if_pos (ie h3)]
     cases op
     · rw[bQ] at e4;simpa using e4
     · rw[dR] at e4;simpa using e4
theorem N0 {t:TypeId} (hu:E.P.underlying t=some .string) {lo hi:Option AV} {x v:AV} (e:S4 lo hi x=some v):bP E t x lo hi none=some v:=by
 obtain ⟨s,rfl,e1⟩:=fR e
 obtain ⟨h,h1,e2⟩:=jz e1
 obtain ⟨l,h2,e3⟩:=jz e2
 rw[cC] at h1
 simp only[bP,hu,m4 h1 h2]
 rw[←e3,j2,j1];rfl
theorem N1 {t elem:TypeId} {m size:Nat} (hu:E.P.underlying t=some (.array m elem)) (hs:bb E elem=some size) {lo hi:Option AV} {x v:AV} (e:S5 m size lo hi x=some v):bP E t x lo hi none=some v:=by
 obtain ⟨i,o,rfl,e1⟩:=mb e
 obtain ⟨h,h1,e2⟩:=jz e1
 obtain ⟨l,h2,e3⟩:=jz e2
 simp only[bP,hu,m4 h1 h2,hs]
 rw[←Option.some.inj e3]
 cases h3:Nat.beq m l
 · have:¬m=l:=by intro ee;rw[ee,Nat.beq_refl] at h3;cases h3
   rw[if_neg this];rfl
 · rw[if_pos (ie h3)];rfl
theorem Hn (t:TypeId) (x:Operand) (lo hi:Option Operand):cI E F n (.slice t x lo hi none) (wO E F n x (fun gx=>wP E F n lo (fun gl=>wP E F n hi (fun gh=>match eR E.P t with
 | some (.slice elem)=>match og E elem with
   | some size=> .db fun r=>S3 size (vn gl r) (vn gh r) (gx r)
   | none=> .bad
 | some .string=> .db fun r=>S4 (vn gl r) (vn gh r) (gx r)
 | some (.array m elem)=>match og E elem with
   | some size=> .db fun r=>S5 m size (vn gl r) (vn gh r) (gx r)
   | none=> .bad
 | _=> .db fun r=>aL E (cf F n r) (.slice t x lo hi none)) .bad) .bad) .bad):=by
 rw[dQ]
 let K:(F.T→AV)→Option (F.T→AV)→Option (F.T→AV)→Kd F.T:=fun gx gl gh=>match E.P.underlying t with
  | some (.slice elem)=>match og E elem with
    | some size=> .db fun r=>S3 size (vn gl r) (vn gh r) (gx r)
    | none=> .bad
  | some .string=> .db fun r=>S4 (vn gl r) (vn gh r) (gx r)
  | some (.array m elem)=>match og E elem with
    | some size=> .db fun r=>S5 m size (vn gl r) (vn gh r) (gx r)
    | none=> .bad
  | _=> .db fun r=>aL E (cf F n r) (.slice t x lo hi none)
 show cI E F n _ (wO E F n x (fun gx=>wP E F n lo (fun gl=>wP E F n hi (fun gh=>K gx gl gh) .bad) .bad) .bad)
 rcases aY E F n x (fun gx=>wP E F n lo (fun gl=>wP E F n hi (fun gh=>K gx gl gh) .bad) .bad) .bad with h | ⟨gx,h,hx⟩<;>rw[h]
 · trivial
 rcases Dv E F n lo (fun gl=>wP E F n hi (fun gh=>K gx gl gh) .bad) .bad with h | ⟨gl,h,hl⟩<;>rw[h]
 · trivial
 rcases Dv E F n hi (fun gh=>K gx gl gh) .bad with h | ⟨gh,h,hh⟩<;>rw[h]
 · trivial
 have red:∀r,aL E (cf F n r) (.slice t x lo hi none)=bP E t (gx r) (vn gl r) (vn gh r) none:=by
  intro r;simp only[aL,hx,hl,hh];rfl
 simp only[K]
 cases hu:E.P.underlying t with
 | none=>intro r v e;exact e
 | some d=>cases d with
   | string=>intro r v e;rw[red];exact N0 hu e
   | array m elem=>
     simp only
     rw[iX]
     cases hs:bb E elem with
     | none=>trivial
     | some size=>intro r v e;rw[red];exact N1 hu hs e
   | slice elem=>
     simp only
     rw[iX]
     cases hs:bb E elem with
     | none=>trivial
     | some size=>intro r v e;rw[red];exact NZ hu hs e
   | _=>intro r v e;exact e
end Go.Ab.Fa
end
section
namespace Go.Ab.Fa
variable {E:Env} {F:RF} {n:Nat}
theorem EI {t:TypeId} {m:Nat} (hs:bb E t=some m) {h:ah} {a v:AV} {p:AV×ah} (e:sX m h a v=some p):p.1=AV.undef∧aQ E h t a v=some p.2:=by
 obtain ⟨i,o,rfl,e1⟩:=mb e
 obtain ⟨obj,h1,e2⟩:=cZ e1
 obtain ⟨cs,el,ro,rfl,e3⟩:=kF e2
 obtain ⟨h2,e4⟩:=iv e3
 obtain ⟨h3,e5⟩:=cD e4
 obtain ⟨h4,e6⟩:=cD e5
 obtain ⟨h5,e7⟩:=cD e6
 have h3:=ie h3
 have h4:=cy h4
 rw[cC,gD] at h3
 rw[cC] at h4
 rw[kC,z_,gD] at h5
 have e8:=Option.some.inj e7
 subst h2
 refine ⟨by rw[←e8],?_⟩
 simp only[aQ,h1,hs]
 rw[if_pos ⟨h3,h4,h5⟩,←e8,xU,gD]
theorem Ad {t:TypeId} {a x:Operand}:mc E (.store t a x):=⟨fun _=>rfl,fun _ _=>rfl,fun _=>rfl⟩
theorem Ho (t:TypeId) (a x:Operand):cI E F n (.store t a x) (match og E t with
 | some m=>wO E F n a (fun ga=>wO E F n x (fun gx=> .wr fun r h=>sX m h (ga r) (gx r)) .bad) .bad
 | none=> .bad):=by
 rw[iX]
 cases hs:bb E t with
 | none=>trivial
 | some m=>
   simp only
   rcases aY E F n a (fun ga=>wO E F n x (fun gx=>(.wr fun r h=>sX m h (ga r) (gx r):Kd F.T)) .bad) .bad with h | ⟨ga,h,ha⟩<;>rw[h]
   · trivial
   rcases aY E F n x (fun gx=>(.wr fun r h=>sX m h (ga r) (gx r):Kd F.T)) .bad with h | ⟨gx,h,hx⟩<;>rw[h]
   · trivial
   refine ⟨Ad,fun call r h rc o p ho e=>?_⟩
   obtain ⟨h1,h2⟩:=EI hs e
   simp only[bF,ho,ha,hx,h2,h1]
theorem qj (t:TypeId) (x:Operand):cI E F n (.makeInterface t x) (match eR E.P t with
 | some (.interface _)=> .bad
 | some _=>wO E F n x (fun g=> .zb fun r=> .iface t (g r)) .bad
 | none=> .bad):=by
 rw[dQ]
 cases hu:E.P.underlying t with
 | none=>trivial
 | some d=>
   cases d with
   | interface ms=>trivial
   | _=>
     simp only
     rcases aY E F n x (fun g=>(.zb fun r=> .iface t (g r):Kd F.T)) .bad with h | ⟨g,h,hg⟩<;>rw[h]
     · trivial
     · intro r;simp only[aL,hu,hg]
theorem Ae (f:FuncId) (a b:Array Operand):cI E F n (.makeFunc (.func f) a b) (wL E F n a.toList (fun ga=>wL E F n b.toList (fun gb=> .zb fun r=> .func f (ga r) (gb r)) .bad) .bad):=by
 rcases mZ E F n a.toList (fun ga=>wL E F n b.toList (fun gb=>(.zb fun r=> .func f (ga r) (gb r):Kd F.T)) .bad) .bad with h | ⟨ga,h,ha⟩<;>rw[h]
 · trivial
 rcases mZ E F n b.toList (fun gb=>(.zb fun r=> .func f (ga r) (gb r):Kd F.T)) .bad with h | ⟨gb,h,hb⟩<;>rw[h]
 · trivial
 intro r;simp only[aL,ha,hb]
theorem Hp (t:TypeId):cI E F n (.alloc t) (match Bs E t with
 | some z=> .lK fun _=>some (.cells z.cells t false,fun i=> .ptr i 0)
 | none=> .bad):=by
 rw[qi]
 cases hz:cL E t with
 | none=>trivial
 | some z=>exact ⟨fun _=>rfl,fun _ _=>rfl,fun r p e=>by simp only[bZ,hz];exact e⟩
theorem N2 (t:TypeId) (x:Operand):cI E F n (.box t x) (wO E F n x (fun g=> .lK fun r=>some (.cells (fQ (g r)) t false,fun i=> .ptr i 0)) .bad):=by
 rcases aY E F n x (fun g=>(.lK fun r=>some (.cells (fQ (g r)) t false,fun i=> .ptr i 0):Kd F.T)) .bad with h | ⟨g,h,hg⟩<;>rw[h]
 · trivial
 · exact ⟨fun _=>rfl,fun _ _=>rfl,fun r p e=>by simp only[bZ,hg];rw[←gD];exact e⟩
theorem vo (t:TypeId) (len:Nat) (parts:Array (Nat×Operand)):cI E F n (.buildSlice t len parts) (match eR E.P t with
 | some (.slice elem)=>match og E elem,Bs E elem with
   | some m,some z=>if z.cells.length=m∧len*m≤2^24 then KM E F n parts.toList (fun gp=> .lK fun r=>ob none (fun cs=>some (.cells cs elem false,fun i=> .slice i 0 len len false)) (lf (fun i=>some (i*m,m)) (cM z.cells len) (gp r))) .bad else .bad
   | _,_=> .bad
 | _=> .bad):=by
 rw[dQ]
 cases hu:E.P.underlying t with
 | none=>trivial
 | some d=>cases d with
   | slice elem=>
     simp only
     rw[iX,qi]
     cases hs:bb E elem with
     | none=>trivial
     | some m=>cases hz:cL E elem with
       | none=>trivial
       | some z=>
         simp only
         by_cases hc:z.cells.length=m∧len*m≤2^24
         · rw[if_pos hc]
           rcases s6 E F n parts.toList (fun gp=>(.lK fun r=>ob none (fun cs=>some (.cells cs elem false,fun i=> .slice i 0 len len false)) (lf (fun i=>some (i*m,m)) (cM z.cells len) (gp r)):Kd F.T)) .bad with h | ⟨g,h,hg⟩<;>rw[h]
           · trivial
           · refine ⟨fun _=>rfl,fun _ _=>rfl,fun r p e=>?_⟩
             obtain ⟨cs,h1,e⟩:=cZ e
             simp only[bZ,hu,hs,hz,hg]
             rw[if_pos hc];simp only[h1];exact e
         · rw[if_neg hc];trivial
   | _=>trivial
theorem K6 (z:List AV) (m:Nat):NW z m=cM z m:=by
 induction m with
 | zero=>rfl
 | succ m ih=>show fJ z (NW z m)=_;rw[iu,ih];rfl
theorem xY (t:TypeId) (l c:Operand):cI E F n (.makeSlice t l c) (wO E F n l (fun gl=>wO E F n c (fun gc=>match eR E.P t with
 | some (.slice elem)=>match og E elem,NV E elem,Bs E elem with
   | some m,some bytes,some z=>if z.cells.length=m then .lK fun r=>KN elem bytes z.cells (gl r) (gc r) else .bad
   | _,_,_=> .bad
 | _=> .bad) .bad) .bad):=by
 rw[dQ]
 rcases aY E F n l (fun gl=>wO E F n c (fun gc=>match E.P.underlying t with
  | some (.slice elem)=>match og E elem,NV E elem,Bs E elem with
    | some m,some bytes,some z=>if z.cells.length=m then (.lK fun r=>KN elem bytes z.cells (gl r) (gc r):Kd F.T) else .bad
    | _,_,_=> .bad
  | _=> .bad) .bad) .bad with h | ⟨gl,h,hl⟩<;>rw[h]
 · trivial
 rcases aY E F n c (fun gc=>match E.P.underlying t with
  | some (.slice elem)=>match og E elem,NV E elem,Bs E elem with
    | some m,some bytes,some z=>if z.cells.length=m then (.lK fun r=>KN elem bytes z.cells (gl r) (gc r):Kd F.T) else .bad
    | _,_,_=> .bad
  | _=> .bad) .bad with h | ⟨gc,h,hc⟩<;>rw[h]
 · trivial
 cases hu:E.P.underlying t with
 | none=>trivial
 | some d=>cases d with
   | slice elem=>
     simp only
     rw[iX,Hf,qi]
     cases hs:bb E elem with
     | none=>trivial
     | some m=>cases hb:eu E elem with
       | none=>trivial
       | some bytes=>cases hz:cL E elem with
         | none=>trivial
         | some z=>
           simp only
           by_cases hm:z.cells.length=m
           · rw[if_pos hm]
             refine ⟨fun _=>rfl,fun _ _=>rfl,fun r p e=>?_⟩
             obtain ⟨k1,a,e1,q1⟩:=dz e
             obtain ⟨k2,b,e2,q2⟩:=dz q1
             obtain ⟨a',rfl,q3⟩:=fS q2
             obtain ⟨b',rfl,q4⟩:=fS q3
             obtain ⟨c1,q5⟩:=cD q4
             obtain ⟨c2,q6⟩:=iv q5
             obtain ⟨c3,q7⟩:=cD q6
             have c1:=cy c1
             have c2:=ei c2
             have c3:bytes*b'≤140737488355328:=cy c3
             simp only[bZ,hu,hs,hb,hz,hl,hc,e1,e2]
             rw[if_pos ⟨by omega,by omega,by omega,by have:(bytes:Int)*(b':Int)=((bytes*b':Nat):Int):=by simp
                                                      rw[this];omega,hm⟩]
             rw[←q7,K6];rfl
           · rw[if_neg hm];trivial
   | _=>trivial
theorem Af (k:List UInt8):∀(l:List fA) (i:Nat) {x:Option AV},findF k l=some x→∃y,lH (.str k) l i=some y∧y.map (·.2)=x
 | [],i,x,h=>⟨none,rfl,by cases h;rfl⟩
 | e::es,i,x,h=>by
   obtain ⟨s,h1,h2⟩:=fR (show jJ (fun s=>bc (leq sR k s) (some (some e.val)) (findF k es)) none e.key=some x from h)
   rw[B_] at h2
   rw[lH,h1]
   show ∃y,(match (some (k==s):Option Bool) with | some true=>some (some (i,e.val)) | some false=>lH (.str k) es (i+1) | none=>none)=some y∧_
   cases hb:k==s with
   | true=>
     rw[hb,dR] at h2
     exact ⟨some (i,e.val),rfl,Option.some.inj h2⟩
   | false=>
     rw[hb,bQ] at h2
     exact Af k es (i+1) h2
noncomputable def QI (h:ah) (m:AV):Option (List fA):=match m with
 | .bT=>some []
 | .map i=>(match h.get i with | some (.map es _)=>some es | _=>none)
 | _=>none
theorem Hq {z:AV} {ok:Bool} {h:ah} {m k v:AV} (e:Dg z ok h m k=some v):
 (∃s,k= .str s)∧∃es,(match m with | .bT=>some [] | .map i=>(match h.get i with | some (.map es _)=>some es | _=>none) | _=>none)=some es∧
  ∃y,lH k es 0=some y∧v=(match y with | some (_,w)=>(if ok then .tuple [w,.bool true] else w) | none=>if ok then .tuple [z,.bool false] else z):=by
 obtain ⟨s,rfl,e1⟩:=fR e
 obtain ⟨es,h1,e2⟩:=cZ e1
 obtain ⟨x,h2,e3⟩:=cZ e2
 refine ⟨⟨s,rfl⟩,es,?_,?_⟩
 · cases m with
   | bT=>exact h1
   | map i=>
     obtain ⟨o,h3,h4⟩:=cZ (show ob none (fun o=>KO (fun es=>some es) none o) (h.get i)=some es from h1)
     simp only[h3]
     cases o with
     | map fu c=>exact h4
     | _=>cases h4
   | _=>cases h1
 · obtain ⟨y,h3,h4⟩:=Af s es 0 h2
   refine ⟨y,h3,?_⟩
   have e4:=Option.some.inj e3
   rw[←e4,←h4]
   cases y with
   | none=>cases ok<;>rfl
   | some y=>obtain ⟨_,w⟩:=y;cases ok<;>rfl
theorem EJ (t:TypeId) (x ix:Operand) (ok:Bool):cI E F n (.lookup t x ix ok) (wO E F n x (fun gx=>wO E F n ix (fun gi=>match eR E.P t with
 | some (.map key elem)=>match eR E.P key,Bs E elem with
   | some .string,some z=> .red fun r h=>Dg z ok h (gx r) (gi r)
   | _,_=> .red fun r h=>bW E (cf F n r) h (.lookup t x ix ok)
 | _=> .bad) .bad) .bad):=by
 let K:(F.T→AV)→(F.T→AV)→Kd F.T:=fun gx gi=>match eR E.P t with
  | some (.map key elem)=>match eR E.P key,Bs E elem with
    | some .string,some z=> .red fun r h=>Dg z ok h (gx r) (gi r)
    | _,_=> .red fun r h=>bW E (cf F n r) h (.lookup t x ix ok)
  | _=> .bad
 show cI E F n _ (wO E F n x (fun gx=>wO E F n ix (fun gi=>K gx gi) .bad) .bad)
 rcases aY E F n x (fun gx=>wO E F n ix (fun gi=>K gx gi) .bad) .bad with h | ⟨gx,h,hx⟩<;>rw[h]
 · trivial
 rcases aY E F n ix (fun gi=>K gx gi) .bad with h | ⟨gi,h,hi⟩<;>rw[h]
 · trivial
 simp only[K,dQ,qi]
 have qg:cI E F n (.lookup t x ix ok) (.red fun r h=>bW E (cf F n r) h (.lookup t x ix ok)):=fun r h v e=> .inr ⟨rfl,e⟩
 cases hu:E.P.underlying t with
 | none=>trivial
 | some d=>cases d with
   | map key elem=>
     simp only
     cases hk:E.P.underlying key with
     | none=>exact qg
     | some kd=>cases kd with
       | string=>cases hz:cL E elem with
         | none=>exact qg
         | some z=>
           intro r h v e
           refine .inr ⟨rfl,?_⟩
           obtain ⟨⟨s,hs⟩,es,h1,y,h2,rfl⟩:=Hq e
           simp only[bW,hu,hx,hi,hk]
           rw[hs] at h2 ⊢
           rw[if_pos (show dN (some TypeDesc.string) (AV.str s)=true from rfl)]
           have Wy:QI h (gx r)=some es:=h1
           change (match QI h (gx r) with
            | none=>none
            | some es=>match lH (AV.str s) es 0 with
              | none=>none
              | some (some (_,v))=>some (if ok then AV.tuple [v,.bool true] else v)
              | some none=>match cL E elem with
                | some z=>some (if ok then AV.tuple [z,.bool false] else z)
                | none=>none)=_
           rw[Wy]
           simp only[h2,hz]
           cases y with
           | none=>rfl
           | some y=>obtain ⟨_,w⟩:=y;rfl
       | _=>exact qg
   | _=>trivial
theorem s9:∀(fs:List Field),r5 E fs=placesOf E fs
 | []=>rfl
 | f::fs=>by
   show ob none (fun n=>ob none (fun l=>some ((f.offset,n)::l)) (r5 E fs)) (og E f.type)=_
   rw[s9 fs,iX]
   simp only[placesOf,bO]
   cases bb E f.type with
   | none=>rfl
   | some n=>
     show ob none (fun l=>some ((f.offset,n)::l)) (bO _ fs)=_
     cases bO (fun f=>match bb E f.type with | some n=>some (f.offset,n) | none=>none) fs<;>rfl
theorem Ag (ps:List (Nat×Nat)):∀(l:List (Nat×AV)) (cs:List AV) {v:List AV},zX ps cs l=some v→lf (ps[·]?) cs l=some v
 | [],cs,v,h=>h
 | (i,x)::l,cs,v,h=>by
   obtain ⟨q,h1,h2⟩:=cZ (show ob none (fun (q:Nat×Nat)=>bc (Nat.beq (dX (fQ x)) q.2) (bc (Nat.ble (q.1+q.2) (dX cs)) (zX ps (zO (fQ x) cs q.1) l) none) none) (dY ps i)=some v from h)
   obtain ⟨h3,h4⟩:=cD h2
   obtain ⟨h5,h6⟩:=cD h4
   have h3:=ie h3
   have h5:=cy h5
   rw[cC,gD] at h3
   rw[cC] at h5
   rw[di] at h1
   rw[lf]
   obtain ⟨off,size⟩:=q
   simp only[h1]
   rw[if_pos ⟨h3,h5⟩,←xU,←gD]
   exact Ag ps l _ h6
theorem Hr (t:TypeId) (parts:Array (Nat×Operand)):cI E F n (.build t parts) (match Bs E t,eR E.P t with
 | some z,some (.struct fs)=>match r5 E fs.toList with
   | some ps=>KM E F n parts.toList (fun gp=> .db fun r=>ob none (fun cs=>some (.agg cs)) (zX ps (fQ z) (gp r))) .bad
   | none=> .bad
 | _,_=> .db fun r=>aL E (cf F n r) (.build t parts)):=by
 have qg:cI E F n (.build t parts) (.db fun r=>aL E (cf F n r) (.build t parts)):=fun r v e=>e
 rw[dQ,qi]
 cases hz:cL E t with
 | none=>exact qg
 | some z=>cases hu:E.P.underlying t with
   | none=>exact qg
   | some d=>cases d with
     | struct fs=>
       simp only
       rw[s9]
       cases hp:placesOf E fs.toList with
       | none=>trivial
       | some ps=>
         simp only
         rcases s6 E F n parts.toList (fun gp=>(.db fun r=>ob none (fun cs=>some (.agg cs)) (zX ps (fQ z) (gp r)):Kd F.T)) .bad with h | ⟨g,h,hg⟩<;>rw[h]
         · trivial
         · intro r v e
           obtain ⟨cs,h1,e2⟩:=cZ e
           have h1:=Ag ps _ _ h1
           rw[gD] at h1
           simp only[aL,hg,wV,hz,hu,hp,h1]
           exact e2
     | _=>exact qg
theorem xZ (t:TypeId) (m k x:Operand):cI E F n (.mapUpdate t m k x) (wO E F n m (fun gm=>wO E F n k (fun gk=>wO E F n x (fun gx=> .wr fun r h=>ob none (fun h'=>some (AV.undef,h')) (b9 E h t (gm r) (gk r) (gx r))) .bad) .bad) .bad):=by
 rcases aY E F n m (fun gm=>wO E F n k (fun gk=>wO E F n x (fun gx=>(.wr fun r h=>ob none (fun h'=>some (AV.undef,h')) (b9 E h t (gm r) (gk r) (gx r)):Kd F.T)) .bad) .bad) .bad with h | ⟨gm,h,hm⟩<;>rw[h]
 · trivial
 rcases aY E F n k (fun gk=>wO E F n x (fun gx=>(.wr fun r h=>ob none (fun h'=>some (AV.undef,h')) (b9 E h t (gm r) (gk r) (gx r)):Kd F.T)) .bad) .bad with h | ⟨gk,h,hk⟩<;>rw[h]
 · trivial
 rcases aY E F n x (fun gx=>(.wr fun r h=>ob none (fun h'=>some (AV.undef,h')) (b9 E h t (gm r) (gk r) (gx r)):Kd F.T)) .bad with h | ⟨gx,h,hx⟩<;>rw[h]
 · trivial
 refine ⟨⟨fun _=>rfl,fun _ _=>rfl,fun _=>rfl⟩,fun call r h rc o p ho e=>?_⟩
 obtain ⟨h',h1,e2⟩:=cZ e
 have e3:=Option.some.inj e2
 simp only[bF,ho,hm,hk,hx,h1,←e3]
theorem EK (t:TypeId) (m k x:Operand):cI E F n (.insert t m k x) (wO E F n m (fun gm=>wO E F n k (fun gk=>wO E F n x (fun gx=> .wr fun r h=>ob none (fun h'=>some (AV.undef,h')) (b9 E h t (gm r) (gk r) (gx r))) .bad) .bad) .bad):=by
 rcases aY E F n m (fun gm=>wO E F n k (fun gk=>wO E F n x (fun gx=>(.wr fun r h=>ob none (fun h'=>some (AV.undef,h')) (b9 E h t (gm r) (gk r) (gx r)):Kd F.T)) .bad) .bad) .bad with h | ⟨gm,h,hm⟩<;>rw[h]
 · trivial
 rcases aY E F n k (fun gk=>wO E F n x (fun gx=>(.wr fun r h=>ob none (fun h'=>some (AV.undef,h')) (b9 E h t (gm r) (gk r) (gx r)):Kd F.T)) .bad) .bad with h | ⟨gk,h,hk⟩<;>rw[h]
 · trivial
 rcases aY E F n x (fun gx=>(.wr fun r h=>ob none (fun h'=>some (AV.undef,h')) (b9 E h t (gm r) (gk r) (gx r)):Kd F.T)) .bad with h | ⟨gx,h,hx⟩<;>rw[h]
 · trivial
 refine ⟨⟨fun _=>rfl,fun _ _=>rfl,fun _=>rfl⟩,fun call r h rc o p ho e=>?_⟩
 obtain ⟨h',h1,e2⟩:=cZ e
 have e3:=Option.some.inj e2
 simp only[bF,ho,hm,hk,hx,h1,←e3]
theorem K7 (it:Operand) (s:Bool):cI E F n (.next it s) (wO E F n it (fun g=> .wr fun r h=>vC h (g r) s) .bad):=by
 rcases aY E F n it (fun g=>(.wr fun r h=>vC h (g r) s:Kd F.T)) .bad with h | ⟨g,h,hg⟩<;>rw[h]
 · trivial
 refine ⟨⟨fun _=>rfl,fun _ _=>rfl,fun _=>rfl⟩,fun call r h rc o p ho e=>?_⟩
 simp only[bF,ho,hg,e]
theorem Hs (x:Operand):cI E F n (.panic x) (wO E F n x (fun g=> .nf fun _ r h _=>kz (fun t w=> .panic (.iface t w) h) (.fail "" none) (g r)) .bad):=by
 rcases aY E F n x (fun g=>(.nf fun _ r h _=>kz (fun t w=> .panic (.iface t w) h) (.fail "" none) (g r):Kd F.T)) .bad with h | ⟨g,h,hg⟩<;>rw[h]
 · trivial
 refine ⟨⟨fun _=>rfl,fun _ _=>rfl,fun _=>rfl⟩,fun fc call _ r h rc o ho=>?_⟩
 rcases Aa (f:=fun t w=>pO.panic (.iface t w) h) (why:= "") (o:=none) (g r) with ⟨t,w,e⟩ | e
 · simp only[bF,ho,hg,e];rfl
 · show ML (kz _ _ _) _
   rw[e];trivial
theorem Ht (c:Call):cI E F n (.defer c) (.nf fun _ r _ rc=>match rc,callee E (cf F n r) c with
 | .y_ _,_=> .fail "" none
 | _,some (.fn f,args)=> .defer (.call f args)
 | _,_=> .fail "" none):=by
 refine ⟨⟨fun _=>rfl,fun _ _=>rfl,fun _=>rfl⟩,fun fc call _ r h rc o ho=>?_⟩
 simp only[bF,ho]
 cases rc with
 | y_ l=>trivial
 | _=>cases hc:callee E (cf F n r) c with
   | none=>trivial
   | some p=>obtain ⟨f,args⟩:=p;cases f<;>first | trivial | rfl
theorem Ca (src dst:TypeId) (x:Operand):cI E F n (.convert src dst x) (wO E F n x (Dh E src dst) .bad):=by
 rcases aY E F n x (Dh E src dst) (.bad:Kd F.T) with h | ⟨g,h,hg⟩<;>rw[h]
 · trivial
 unfold Dh
 simp only[dQ]
 cases hs:E.P.underlying src with
 | none=>trivial
 | some ds=>cases hd:E.P.underlying dst with
   | none=>cases ds<;>trivial
   | some dd=>
     cases ds<;>cases dd<;>try trivial
     case int.int k k'=>
      intro r v e
      obtain ⟨j,m,e1,e2⟩:=dz e
      simp only[aL,hs,hd,hg,e1]
      rw[←iW];exact e2
     case string.string=>
      intro r v e
      obtain ⟨s,e1,e2⟩:=fR e
      simp only[aL,hs,hd,hg,e1];exact e2
     case string.slice e=>
      refine ⟨⟨fun _=>by simp only[aL,hs,hd],fun _ _=>by simp only[bW,hs,hd],fun _=>rfl⟩,fun call r h rc o p ho e=>?_⟩
      simp only[bF,ho,hg,e]
     case slice.string el=>
      simp only
      cases he:E.P.underlying el with
      | none=>trivial
      | some de=>
        cases de<;>try trivial
        rename_i k
        cases k<;>try trivial
        intro r h v e
        rcases iV e with ⟨e1,e2⟩ | ⟨i,o,l,c,b,e1,e2⟩
        · refine .inr ⟨by simp only[aL,hs,hd,hg,e1],?_⟩
          simp only[bW,hs,hd,hg,he]
          simp only[e1];exact e2
        · refine .inr ⟨by simp only[aL,hs,hd,hg,e1],?_⟩
          simp only[bW,hs,hd,hg,he]
          simp only[e1]
          obtain ⟨l',h1,e3⟩:=cZ e2
          simp only[h1];exact e3
end Go.Ab.Fa
end
