import Derived.Test.YtfllahfbmaafcaaA4
import Derived.Test.YtfllahfbmaafcaaA0
set_option linter.unusedVariables false
set_option linter.unusedSimpArgs false
section
namespace Go.Ab.Fa
structure W (α:Type) where
 f:α
section
variable {α β T:Type}
noncomputable def wW (w:W α) (k:α→β):β:=W.rec (motive:=fun _=>β) k w
noncomputable def wA (a:Acc T) (k:(T→AV)→β):β:=Acc.rec (motive:=fun _=>β) k a
noncomputable def wU (a:Upd T) (k:(AV→T→T)→β):β:=Upd.rec (motive:=fun _=>β) k a
end
structure Y where
 ds:List od
 rc:RC
inductive FO (T:Type) where
 | IY (r:T) (h:au) (y:Y)
 | jmp (e:hZ) (r:T) (h:au) (y:Y)
 | bad
structure I (T:Type) where
 run:bw→T→au→Y→FO T
structure C (T:Type) where
 run:Nat→bw→T→au→Y→FO T
inductive Kd (T:Type) where
 | HX (f:T→AV)
 | gO (f:T→Option AV)
 | red (f:T→au→Option AV)
 | si (f:T→Option (a_×(Nat→AV)))
 | wr (f:T→au→Option (AV×au))
 | call (g:Fn) (args:T→List AV)
 | uw (f:bw→T→au→RC→yv)
 | bad
section
variable (E:Env) (F:RF) (n:Nat)
noncomputable def wT {β:Type} (i:Nat) (k:(F.T→AV)→β):β:=bc (Nat.ble n i) (k fun _=>AV.undef) (wA (F.get i) k)
noncomputable def wO {β:Type} (x:Operand) (k:(F.T→AV)→β) (d:β):β:=match x with
 | .tmp t=>wT F n t k
 | .const v=>match ofConst v with
   | some a=>k fun _=>a
   | none=>d
 | .global g=>bc (Nat.ble E.G g) d (k fun _=> .ptr g 0)
 | .func f=>k fun _=> .func f [] []
noncomputable def wL {β:Type} (l:List Operand) (k:(F.T→List AV)→β) (d:β):β:=match l with
 | []=>k fun _=> []
 | x::xs=>wO E F n x (fun g=>wL xs (fun gs=>k fun r=>g r::gs r) d) d
noncomputable def wP {β:Type} (o:Option Operand) (k:Option (F.T→AV)→β) (d:β):β:=match o with
 | none=>k none
 | some x=>wO E F n x (fun g=>k (some g)) d
noncomputable def wS {β:Type} (o:Option Tmp) (k:(AV→F.T→F.T)→β):β:=match o with
 | none=>k fun _ r=>r
 | some i=>bc (Nat.ble n i) (k fun _ r=>r) (wU (F.set i) k)
noncomputable def wc (t:TypeId):Option Nat:=ob none (fun i=>some i.size) (zQ E.P t)
noncomputable def byF (t:TypeId):Option Nat:=if E.bld=some t then none else ob none (fun i=>some i.bytes) (zQ E.P t)
noncomputable def KD (t:TypeId):Option AV:=ob none (fun i=>ob none (fun z=>ofConst z) i.zero) (zQ E.P t)
noncomputable def agF (t:TypeId):Option Bool:=match jQ E.P t with
 | some (.struct _)=>some true
 | some (.array _ _)=>some true
 | some _=>some false
 | none=>none
noncomputable def fiF (t:TypeId) (f:Nat):Option Field:=match jQ E.P t with
 | some (.struct fs)=>iS fs.toList f
 | _=>none
variable {T:Type}
noncomputable def RX (op:BinOp):W (IntKind→Int→Int→Option AV):=match op with
 | .add=>⟨fun k a b=>some (.int k (uQ k (Lk a b)))⟩
 | .sub=>⟨fun k a b=>some (.int k (uQ k (wM a b)))⟩
 | .mul=>⟨fun k a b=>some (.int k (uQ k (RO a b)))⟩
 | .eql=>⟨fun _ a b=>some (.bool (Ze a b))⟩
 | .neq=>⟨fun _ a b=>some (.bool (vB (Ze a b)))⟩
 | .lss=>⟨fun _ a b=>some (.bool (WS a b))⟩
 | .leq=>⟨fun _ a b=>some (.bool (vB (WS b a)))⟩
 | .gtr=>⟨fun _ a b=>some (.bool (WS b a))⟩
 | .geq=>⟨fun _ a b=>some (.bool (vB (WS a b)))⟩
 | op=>⟨WT op⟩
noncomputable def O3 (op:BinOp):W (List UInt8→List UInt8→Option AV):=match op with
 | .eql=>⟨fun a b=>some (.bool (leq BT a b))⟩
 | .neq=>⟨fun a b=>some (.bool (vB (leq BT a b)))⟩
 | op=>⟨vj op⟩
noncomputable def WZ (f:IntKind→Int→Int→Option AV) (g:List UInt8→List UInt8→Option AV) (yR:AV→AV→Option AV) (a b:AV):Option AV:=
 ox (fun k x=>ox (fun j y=>bc (RM k j) (f k x y) none) none b) (qQ (fun s=>qQ (fun t=>g s t) none b) (yR a b) a) a
noncomputable def cF (op:BinOp) (yR:AV→AV→Option AV) (ga gb:T→AV):Kd T:=match op with
 | .shl=> .gO fun r=>ox (fun k x=>ox (fun _ y=>adE k x y) none (gb r)) none (ga r)
 | .shr=> .gO fun r=>ox (fun k x=>ox (fun _ y=>adF k x y) none (gb r)) none (ga r)
 | op=>wW (RX op) fun f=>wW (O3 op) fun g=> .gO fun r=>WZ f g yR (ga r) (gb r)
noncomputable def unK (op:UnOp) (ga:T→AV):Kd T:=match op with
 | .not=> .gO fun r=>jt (fun b=>some (.bool (vB b))) none (ga r)
 | op=> .gO fun r=>unA op (ga r)
noncomputable def RY (cs:List AV) (o:Nat):Option AV:=iS cs o
noncomputable def RZ (n:Nat) (cs:List AV) (o:Nat):Option AV:=bc (Nat.ble (Nat.add o n) (iR cs)) (some (.agg (sH (sG cs o) n))) none
noncomputable def wQ (t:TypeId) (k:(List AV→Nat→Option AV)→Kd T):Kd T:=match agF E t with
 | some true=>match wc E t with
   | some n=>k (RZ n)
   | none=> .bad
 | some false=>k RY
 | none=> .bad
noncomputable def IZ (p:List AV→Nat→Option AV) (h:au) (a:AV):Option AV:=
 yK (fun i o=>ob none (fun obj=>yM (fun cs _ _=>p cs o) none obj) (h.get i)) none a
noncomputable def BZ (n:Nat) (h:au) (a v:AV):Option (AV×au):=
 yK (fun i o=>ob none (fun obj=>yM (fun cs e ro=>bc ro none
  (bc (Nat.beq (iR (lq v)) n) (bc (Nat.ble (Nat.add o n) (iR cs)) (bc (yN WU (lq v)) (some (AV.undef,h.put i (some (.cells (IQ (lq v) cs o) e false)))) none) none) none)) none obj) (h.get i)) none a
noncomputable def Gr (len size:Nat) (i o:Nat) (ix:AV):Option AV:=
 ox (fun _ n=>kD (fun m=>bc (Nat.ble len m) none (some (.ptr i (Nat.add o (Nat.mul m size))))) none n) none ix
noncomputable def Gs (d y:Nat) (o:Option AV) (k:Nat→Option AV):Option AV:=
 ob (k d) (fun v=>ox (fun _ i=>kD (fun m=>bc (Nat.ble m y) (k m) none) none i) none v) o
noncomputable def slF (size:Nat) (lo hi:Option AV) (v:AV):Option AV:=
 ju (Gs 0 0 hi fun h=>Gs 0 h lo fun _=>some .aQ)
  (fun i o len cap op=>bc (Nat.ble len cap) (Gs len cap hi fun h=>Gs 0 h lo fun l=>
   bc (Nat.beq cap l) (bc op (some .dN) (some (.slice i o (Nat.sub h l) (Nat.sub cap l) false))) (some (.slice i (Nat.add o (Nat.mul l size)) (Nat.sub h l) (Nat.sub cap l) op))) none) none v
noncomputable def slS (lo hi:Option AV) (v:AV):Option AV:=
 qQ (fun s=>Gs (iR s) (iR s) hi fun h=>Gs 0 h lo fun l=>some (.str (sH (sG s l) (Nat.sub h l)))) none v
noncomputable def slA (m size:Nat) (lo hi:Option AV) (v:AV):Option AV:=
 yK (fun i o=>Gs m m hi fun h=>Gs 0 h lo fun l=>some (.slice i (bc (Nat.beq m l) o (Nat.add o (Nat.mul l size))) (Nat.sub h l) (Nat.sub m l) false)) none v
noncomputable def DK (o:Option (T→AV)) (r:T):Option AV:=ob none (fun g=>some (g r)) o
noncomputable def adG (v:AV):Option Nat:=ju (some 0) (fun _ _ n _ _=>some n) (qQ (fun s=>some (iR s)) (kV v) v) v
noncomputable def R0 (h:au) (size n:Nat) (v:AV):Option (List AV):=
 ju (bc (Nat.beq n 0) (some []) none) (fun i o len _ _=>bc (Nat.ble n len) (ob none (fun obj=>yM (fun cs _ _=>bc (Nat.ble (Nat.add o (Nat.mul n size)) (iR cs)) (some (sH (sG cs o) (Nat.mul n size))) none) none obj) (h.get i)) none)
  (eR h size n v) v
noncomputable def adH (elem:TypeId) (size bytes:Nat) (h:au) (s x:AV):Option (AV×au):=
 ob none (fun n=>ob none (fun new=>bc (yN WU new) (bc (Nat.beq (iR new) (Nat.mul n size))
  (ju
   (bc (Nat.beq n 0) (some (.aQ,h)) (bc (Nat.ble (Nat.mul (Nat.add (Nat.mul 4 n) 4096) (Nat.add bytes 1)) 1099511627776)
    (ob none (fun h'=>some (.slice h.nx 0 n n true,h')) (h.new (.cells new elem false))) none))
   (fun i o len cap op=>ob none (fun obj=>yM (fun cs e ro=>bc ro none
    (bc (Nat.ble (Nat.add len n) cap)
     (bc (Nat.ble (Nat.add o (Nat.mul (Nat.add len n) size)) (iR cs)) (some (.slice i o (Nat.add len n) cap op,h.put i (some (.cells (IQ new cs (Nat.add o (Nat.mul len size))) e false)))) none)
     (bc (Nat.ble (Nat.mul (Nat.add (Nat.mul 4 (Nat.add len n)) 4096) (Nat.add bytes 1)) 1099511627776)
      (bc (Nat.ble (Nat.add o (Nat.mul len size)) (iR cs))
       (bc op
        (bc (Nat.beq e elem) (bc (Nat.beq (Nat.add o (Nat.mul cap size)) (iR cs)) (bc (Nat.beq o 0)
         (ob none (fun h'=>some (.slice h.nx 0 (Nat.add len n) (Nat.add len n) true,h')) ((h.put i none).new (.cells (kW (sH (sG cs o) (Nat.mul len size)) new) elem false))) none) none) none)
        (ob none (fun h'=>some (.slice h.nx 0 (Nat.add len n) (Nat.add len n) true,h')) (h.new (.cells (kW (sH (sG cs o) (Nat.mul len size)) new) elem false)))) none) none)))
    none obj) (h.get i))
   none s) none) none) (R0 h size n x)) (adG x)
noncomputable def O4 (argTypes:Array TypeId) (gs gx:T→AV):Kd T:=match iS argTypes.toList 0,iS argTypes.toList 1 with
 | some sT,some xT=>match jQ E.P sT,jQ E.P xT with
   | some (.slice elem),some xd=>if kB xd then .wr fun r h=>se E h elem (gs r) (gx r) else match wc E elem,byF E elem,KD E elem with
     | some size,some bytes,some z=>if z.cells.length=size then .wr fun r h=>adH elem size bytes h (gs r) (gx r) else .bad
     | _,_,_=> .bad
   | _,_=> .bad
 | _,_=> .bad
noncomputable def W0 {β:Type} (l:List (Nat×Operand)) (k:(F.T→List (Nat×AV))→β) (d:β):β:=match l with
 | []=>k fun _=> []
 | (i,x)::xs=>wO E F n x (fun g=>W0 xs (fun gs=>k fun r=>(i,g r)::gs r) d) d
noncomputable def Bh (fs:List Field):Option (List (Nat×Nat)):=List.rec (motive:=fun _=>Option (List (Nat×Nat))) (some []) (fun f _ ih=>ob none (fun n=>ob none (fun l=>some ((f.offset,n)::l)) ih) (wc E f.type)) fs
noncomputable def I0 (ps:List (Nat×Nat)) (cs:List AV) (l:List (Nat×AV)):Option (List AV):=
 List.rec (motive:=fun _=>List AV→Option (List AV)) (fun cs=>some cs) (fun p _ ih cs=>ob none (fun (q:Nat×Nat)=>bc (Nat.beq (iR (lq p.2)) q.2) (bc (Nat.ble (Nat.add q.1 q.2) (iR cs)) (ih (IQ (lq p.2) cs q.1)) none) none) (iS ps p.1)) l cs
noncomputable def aaK (z:List AV) (m:Nat):List AV:=Nat.rec (motive:=fun _=>List AV) [] (fun _ ih=>kW z ih) m
noncomputable def W1 (elem:TypeId) (bytes:Nat) (z:List AV) (l c:AV):Option (a_×(Nat→AV)):=
 ox (fun _ len=>ox (fun _ cap=>kD (fun len=>kD (fun cap=>bc (Nat.ble len cap) (bc (Nat.ble 1073741824 cap) none (bc (Nat.ble (Nat.mul bytes cap) 140737488355328)
  (some (.cells (aaK z cap) elem false,fun i=> .slice i 0 len cap false)) none)) none) none cap) none len) none c) none l
noncomputable def findF (k:List UInt8) (l:List gY):Option (Option AV):=List.rec (motive:=fun _=>Option (Option AV)) (some none) (fun e _ ih=>qQ (fun s=>bc (leq BT k s) (some (some e.val)) ih) none e.key) l
noncomputable def W2 {R:Type} (f:List gY→R) (d:R) (o:a_):R:=
 a_.rec (motive:=fun _=>R) (fun _ _ _=>d) (fun es _=>f es) (fun _ _=>d) (fun _ _ _ _=>d) (fun _ _ _ _ _ _ _=>d) d o
noncomputable def adI {R:Type} (e:R) (f:Nat→R) (d:R) (v:AV):R:=
 AV.rec (motive_1:=fun _=>R) (motive_2:=fun _=>Unit) (fun _=>d) (fun _ _=>d) (fun _=>d) d (fun _ _=>d) d (fun _ _ _ _ _=>d) e (fun i=>f i) (fun _ _ _ _ _=>d) (fun _=>d) d (fun _ _ _=>d) d (fun _ _=>d) (fun _ _=>d) d d () (fun _ _ _ _=>()) v
noncomputable def No (h:au) (m:AV):Option AV:=
 adI (some (.int .i64 (Int.ofNat 0))) (fun i=>ob none (fun o=>W2 (fun es=>some (.int .i64 (Int.ofNat (iR es)))) none o) (h.get i)) none m
noncomputable def Np (z:AV) (ok:Bool) (h:au) (m k:AV):Option AV:=
 qQ (fun s=>ob none (fun es=>ob none (fun r=>some (ob (bc ok (.tuple [z,.bool false]) z) (fun v=>bc ok (.tuple [v,.bool true]) v) r)) (findF s es))
  (adI (some []) (fun i=>ob none (fun o=>W2 (fun es=>some es) none o) (h.get i)) none m)) none k
noncomputable def mG (o:jd):yv:=jd.rec (motive:=fun _=>yv) .val .panic .fail o
noncomputable def I1 (t:TypeId) (name:String):Option FuncId:=wg E t name
noncomputable def Zj (c:Call) (op:Op):Kd F.T:=match c.callee with
 | .invoke x name=>wO E F n x (fun gx=>wL E F n c.args.toList (fun gs=> .uw fun call r h _=>qR
  (fun t v=>ob (.fail "" none) (fun f=>mG (call (.fn f) (v::gs r) h)) (I1 E t name)) (.fail "" none) (gx r)) .bad) .bad
 | .value (.func f)=>wL E F n c.args.toList (fun gs=>match E.mn f with
   | some e=> .gO fun r=>e (gs r)
   | none=>match E.iC f with
     | some g=> .wr fun r h=>g (gs r) h
     | none=> .call (.fn f) gs) .bad
 | .value x=>wO E F n x (fun gf=>wL E F n c.args.toList (fun gs=> .uw fun call r h _=>Nk
  (fun g first captured=>ob (mG (call (.fn g) (kW first (kW (gs r) captured)) h)) (fun sp=>ob (.fail "" none) (fun p=> .val p.1 p.2) (sp (kW first (kW (gs r) captured)) h)) (E.iC g))
  (fun l=>mG (call (.vk l) (gs r) h)) (.fail "" none) (gf r)) .bad) .bad
 | .builtin .len=>match iS c.argTypes.toList 0,c.args.toList with
   | some t,[x]=>wO E F n x (fun g=>match jQ E.P t with
     | some .string=> .gO fun r=>qQ (fun s=>some (.int .i64 (Int.ofNat (iR s)))) none (g r)
     | some (.array m _)=> .gO fun _=>some (.int .i64 (Int.ofNat m))
     | some (.slice _)=> .gO fun r=>ju (some (.int .i64 (Int.ofNat 0))) (fun _ _ m _ _=>some (.int .i64 (Int.ofNat m))) (vZ (some (.int .i64 (Int.ofNat 0))) none (g r)) (g r)
     | some (.map _ _)=> .red fun r h=>No h (g r)
     | _=> .bad) .bad
   | _,_=> .bad
 | .builtin .cap=>match iS c.argTypes.toList 0,c.args.toList with
   | some t,[x]=>wO E F n x (fun g=>match jQ E.P t with
     | some (.slice _)=> .gO fun r=>ju (some (.int .i64 (Int.ofNat 0))) (fun _ _ _ c b=>bc b none (some (.int .i64 (Int.ofNat c)))) none (g r)
     | _=> .bad) .bad
   | _,_=> .bad
 | .builtin .max=> .gO fun r=>bH E (eV F n r) op
 | .builtin .min=> .gO fun r=>bH E (eV F n r) op
 | .builtin .append=>match c.args.toList with
   | [s,x]=>wO E F n s (fun gs=>wO E F n x (fun gx=>O4 E c.argTypes gs gx) .bad) .bad
   | _=> .bad
 | .builtin .copy=>match c.args.toList with
   | [s,x]=>wO E F n s (fun gs=>wO E F n x (fun gx=> .wr fun r h=>uM E h c.argTypes (gs r) (gx r)) .bad) .bad
   | _=> .bad
 | .builtin .recover=> .uw fun _ _ h rc=>match rc with
   | .hQ x=> .rG x
   | .pP _=> .fail "" none
   | _=> .val .nilIface h
 | _=> .bad
noncomputable def Nq (src dst:TypeId) (g:T→AV):Kd T:=match jQ E.P src,jQ E.P dst with
 | some (.int _),some (.int k)=> .gO fun r=>ox (fun _ n=>some (.int k (uQ k n))) none (g r)
 | some .string,some .string=> .gO fun r=>qQ (fun s=>some (.str s)) none (g r)
 | some (.slice e),some .string=>match jQ E.P e with
   | some (.int .u8)=> .red fun r h=>ju (some (.str [])) (fun i o len _ _=>ob none (fun l=>some (.str l)) (FJ h i o len)) none (g r)
   | _=> .bad
 | some .string,some (.slice _)=> .wr fun r h=>D9 E h src dst (some (g r))
 | _,_=> .bad
noncomputable def uR (op:Op):Kd F.T:=match op with
 | .move x=>wO E F n x .HX .bad
 | .assign x=>wO E F n x .HX .bad
 | .pick c a b=>wO E F n c (fun gc=>wO E F n a (fun ga=>wO E F n b (fun gb=> .gO fun r=>jt (fun t=>bc t (some (ga r)) (some (gb r))) none (gc r)) .bad) .bad) .bad
 | .binOp op t x y _=>wO E F n x (fun gx=>wO E F n y (fun gy=>cF op (jI E op t (isConst x) (isConst y)) gx gy) .bad) .bad
 | .unOp op _ x=>wO E F n x (unK op) .bad
 | .fieldAddr s x f=>match fiF E s f with
   | some fd=>match wc E fd.type with
     | some (_+1)=>wO E F n x (fun g=> .gO fun r=>yK (fun i o=>some (.ptr i (Nat.add o fd.offset))) none (g r)) .bad
     | _=> .bad
   | none=> .bad
 | .load t a=>wO E F n a (fun g=>wQ E t fun p=> .red fun r h=>IZ p h (g r)) .bad
 | .store t a x=>match wc E t with
   | some m=>wO E F n a (fun ga=>wO E F n x (fun gx=> .wr fun r h=>BZ m h (ga r) (gx r)) .bad) .bad
   | none=> .bad
 | .nilCheck x=>wO E F n x (fun g=> .gO fun r=>bc (Gi (g r)) (some (g r)) none) .bad
 | .extract x i=>wO E F n x (fun g=> .gO fun r=>yL (fun _=>none) (fun vs=>iS vs i) none (g r)) .bad
 | .field s x f=>match fiF E s f with
   | some fd=>wO E F n x (fun g=>wQ E fd.type fun p=> .gO fun r=>yL (fun cs=>p cs fd.offset) (fun _=>none) none (g r)) .bad
   | none=> .bad
 | .indexAddr t x ix=>wO E F n x (fun gx=>wO E F n ix (fun gi=>match jQ E.P t with
   | some (.array len elem)=>match wc E elem with
     | some size=> .gO fun r=>yK (fun i o=>Gr len size i o (gi r)) none (gx r)
     | none=> .bad
   | some (.slice elem)=>match wc E elem with
     | some size=> .gO fun r=>ju none (fun i o len _ _=>Gr len size i o (gi r)) none (gx r)
     | none=> .bad
   | _=> .bad) .bad) .bad
 | .index t x ix=>wO E F n x (fun gx=>wO E F n ix (fun gi=>match jQ E.P t with
   | some .string=> .gO fun r=>qQ (fun s=>ox (fun _ i=>kD (fun m=>ob none (fun (b:UInt8)=>some (.int .u8 (Int.ofNat b.toNat))) (iS s m)) none i) none (gi r)) none (gx r)
   | _=> .gO fun r=>bH E (eV F n r) op) .bad) .bad
 | .slice t x lo hi none=>wO E F n x (fun gx=>wP E F n lo (fun gl=>wP E F n hi (fun gh=>match jQ E.P t with
   | some (.slice elem)=>match wc E elem with
     | some size=> .gO fun r=>slF size (DK gl r) (DK gh r) (gx r)
     | none=> .bad
   | some .string=> .gO fun r=>slS (DK gl r) (DK gh r) (gx r)
   | some (.array m elem)=>match wc E elem with
     | some size=> .gO fun r=>slA m size (DK gl r) (DK gh r) (gx r)
     | none=> .bad
   | _=> .gO fun r=>bH E (eV F n r) op) .bad) .bad) .bad
 | .convert src dst x=>wO E F n x (Nq E src dst) .bad
 | .makeInterface t x=>match jQ E.P t with
   | some (.interface _)=> .bad
   | some _=>wO E F n x (fun g=> .HX fun r=> .iface t (g r)) .bad
   | none=> .bad
 | .makeFunc (.func f) first captured=>wL E F n first.toList (fun ga=>wL E F n captured.toList (fun gb=> .HX fun r=> .func f (ga r) (gb r)) .bad) .bad
 | .alloc t=>match KD E t with
   | some z=> .si fun _=>some (.cells z.cells t false,fun i=> .ptr i 0)
   | none=> .bad
 | .box t x=>wO E F n x (fun g=> .si fun r=>some (.cells (lq (g r)) t false,fun i=> .ptr i 0)) .bad
 | .buildSlice t len parts=>match jQ E.P t with
   | some (.slice elem)=>match wc E elem,KD E elem with
     | some m,some z=>if z.cells.length=m∧len*m≤2^24 then W0 E F n parts.toList (fun gp=> .si fun r=>ob none (fun cs=>some (.cells cs elem false,fun i=> .slice i 0 len len false)) (rF (fun i=>some (i*m,m)) (et z.cells len) (gp r))) .bad else .bad
     | _,_=> .bad
   | _=> .bad
 | .makeSlice t l c=>wO E F n l (fun gl=>wO E F n c (fun gc=>match jQ E.P t with
   | some (.slice elem)=>match wc E elem,byF E elem,KD E elem with
     | some m,some bytes,some z=>if z.cells.length=m then .si fun r=>W1 elem bytes z.cells (gl r) (gc r) else .bad
     | _,_,_=> .bad
   | _=> .bad) .bad) .bad
 | .makeMap _ none=> .si fun _=>some (.map [] 0,fun i=> .map i)
 | .makeMap .. | .range .. => .si fun r=>ei E (eV F n r) op
 | .lookup t x ix ok=>wO E F n x (fun gx=>wO E F n ix (fun gi=>match jQ E.P t with
   | some (.map key elem)=>match jQ E.P key,KD E elem with
     | some .string,some z=> .red fun r h=>Np z ok h (gx r) (gi r)
     | _,_=> .red fun r h=>dP E (eV F n r) h op
   | _=> .bad) .bad) .bad
 | .build t parts=>match KD E t,jQ E.P t with
   | some z,some (.struct fs)=>match Bh E fs.toList with
     | some ps=>W0 E F n parts.toList (fun gp=> .gO fun r=>ob none (fun cs=>some (.agg cs)) (I0 ps (lq z) (gp r))) .bad
     | none=> .bad
   | _,_=> .gO fun r=>bH E (eV F n r) op
 | .slice .. | .typeAssert .. => .gO fun r=>bH E (eV F n r) op
 | .mapUpdate t m k x=>wO E F n m (fun gm=>wO E F n k (fun gk=>wO E F n x (fun gx=> .wr fun r h=>ob none (fun h'=>some (AV.undef,h')) (eI E h t (gm r) (gk r) (gx r))) .bad) .bad) .bad
 | .insert t m k x=>wO E F n m (fun gm=>wO E F n k (fun gk=>wO E F n x (fun gx=> .wr fun r h=>ob none (fun h'=>some (AV.undef,h')) (eI E h t (gm r) (gk r) (gx r))) .bad) .bad) .bad
 | .next it s=>wO E F n it (fun g=> .wr fun r h=>D8 h (g r) s) .bad
 | .panic x=>wO E F n x (fun g=> .uw fun _ r h _=>qR (fun t w=> .panic (.iface t w) h) (.fail "" none) (g r)) .bad
 | .defer c=> .uw fun _ r _ rc=>match rc,callee E (eV F n r) c with
   | .pP _,_=> .fail "" none
   | _,some (.fn f,args)=> .defer (.call f args)
   | _,_=> .fail "" none
 | .call c=>Zj E F n c op
 | _=> .bad
noncomputable def Lr (kd:Kd T) (s:AV→T→T) (j:I T):I T:=match kd with
 | .HX g=>⟨fun call r h y=>j.run call (s (g r) r) h y⟩
 | .gO f=>⟨fun call r h y=>ob .bad (fun v=>j.run call (s v r) h y) (f r)⟩
 | .red f=>⟨fun call r h y=>ob .bad (fun v=>j.run call (s v r) h y) (f r h)⟩
 | .si f=>⟨fun call r h y=>ob .bad (fun p=>ob .bad (fun h'=>j.run call (s (p.2 h.nx) r) h' y) (h.new p.1)) (f r)⟩
 | .wr f=>⟨fun call r h y=>ob .bad (fun p=>j.run call (s p.1 r) p.2 y) (f r h)⟩
 | .call g args=>⟨fun call r h y=>jd.rec (motive:=fun _=>FO T) (fun v h'=>j.run call (s v r) h' y) (fun v h'=> .jmp (.panic v) r h' y) (fun _ _=> .bad) (call g (args r) h)⟩
 | .uw f=>⟨fun call r h y=>yv.rec (motive:=fun _=>FO T) (fun v h'=>j.run call (s v r) h' y) (fun d=>j.run call (s AV.undef r) h ⟨d::y.ds,y.rc⟩) (fun v=>j.run call (s v r) h ⟨y.ds,.done⟩)
  (fun v h'=> .jmp (.panic v) r h' y) (fun _ _=> .bad) (f call r h y.rc)⟩
 | .bad=>⟨fun _ _ _ _=> .bad⟩
noncomputable def Zk (s:AV→T→T) (j:I T):I T:=⟨fun call r h y=>j.run call (s AV.undef r) h y⟩
noncomputable def Ls (g:T→AV) (want:Bool) (a b:I T):I T:=match want with
 | true=>⟨fun call r h y=>jt (fun t=>bc t (a.run call r h y) (b.run call r h y)) (b.run call r h y) (g r)⟩
 | false=>⟨fun call r h y=>jt (fun t=>bc t (b.run call r h y) (a.run call r h y)) (b.run call r h y) (g r)⟩
noncomputable def Nr (ops:Array Oper) (o:Oper) (a b:I F.T):I F.T:=match o.guard with
 | none=>a
 | some (j,want)=>match ob none (fun p=>p.dst) (iS ops.toList j) with
   | some d=>bc (Nat.ble n d) b (wA (F.get d) fun g=>Ls g want a b)
   | none=>b
noncomputable def R1 (ops:Array Oper) (o:Oper) (j:I F.T):I F.T:=wS F n o.dst fun s=>Nr F n ops o (Lr (uR E F n o.op) s j) (Zk s j)
noncomputable def ua (ops:Array Oper) (l:List Oper):I F.T:=List.rec (motive:=fun _=>I F.T) ⟨fun _ r h y=> .IY r h y⟩ (fun o _ j=>R1 E F n ops o j) l
noncomputable def adJ (yR:AV→AV→Bool) (x y:AV):Bool:=
 ox (fun k a=>ox (fun j b=>bc (RM k j) (Ze a b) false) false y)
  (qQ (fun s=>qQ (fun t=>leq BT s t) false y)
   (yK (fun i o=>yK (fun j p=>bc (Nat.beq i j) (Nat.beq o p) false) false y)
    (jt (fun a=>jt (fun b=>bc a b (vB b)) false y) (yR x y) x) x) x) x
noncomputable def B0 (m:Nat):AV→AV→Bool:=Nat.rec (motive:=fun _=>AV→AV→Bool) (fun _ _=>false)
 (fun i ih x y=>adJ (fun x y=>yL (fun a=>yL (fun b=>leq ih a b) (fun _=>false) false y) (fun _=>AV.same (i+1) x y) (AV.same (i+1) x y) x) x y) m
structure O5 where
 k:Nat
 m:Nat
 made:Option Nat
 f:au→Bool
inductive DO (T:Type) where
 | ok (tr:List O5) (hs:List au) (r:T) (h:au) (y:Y)
 | bad
structure D (T:Type) where
 run:bw→T→au→Y→DO T
noncomputable def Eu (x:O5) (d:DO T):DO T:=DO.rec (motive:=fun _=>DO T) (fun tr hs r h y=> .ok (x::tr) hs r h y) .bad d
noncomputable def qT (h0:au) (d:DO T):DO T:=DO.rec (motive:=fun _=>DO T) (fun tr hs r h y=> .ok tr (h0::hs) r h y) .bad d
noncomputable def Ns (kd:Kd T) (s:AV→T→T) (j:D T):D T:=match kd with
 | .wr f=>⟨fun call r h y=>ob .bad (fun p=>qT h (j.run call (s p.1 r) p.2 y)) (f r h)⟩
 | .call g args=>⟨fun call r h y=>jd.rec (motive:=fun _=>DO T) (fun v h'=>qT h (j.run call (s v r) h' y)) (fun _ _=> .bad) (fun _ _=> .bad) (call g (args r) h)⟩
 | .uw f=>⟨fun call r h y=>yv.rec (motive:=fun _=>DO T) (fun v h'=>qT h (j.run call (s v r) h' y)) (fun _=> .bad) (fun _=> .bad) (fun _ _=> .bad) (fun _ _=> .bad) (f call r h y.rc)⟩
 | _=>⟨fun _ _ _ _=> .bad⟩
noncomputable def Nt (k m:Nat) (kd:Kd T) (s:AV→T→T) (j:D T):D T:=match kd with
 | .HX g=>⟨fun call r h y=>j.run call (s (g r) r) h y⟩
 | .gO f=>⟨fun call r h y=>ob .bad (fun v=>j.run call (s v r) h y) (f r)⟩
 | .red f=>⟨fun call r h y=>ob .bad (fun v=>Eu ⟨k,m,none,fun h'=>ob false (fun v'=>B0 20 v' v) (f r h')⟩ (j.run call (s v r) h y)) (f r h)⟩
 | .si f=>⟨fun call r h y=>ob .bad (fun p=>ob .bad (fun h'=>Eu ⟨k,m,some h.nx,fun Nu=>ob false (fun o=>a_.same o p.1) (Nu.get h.nx)⟩ (j.run call (s (p.2 h.nx) r) h' y)) (h.new p.1)) (f r)⟩
 | _=>⟨fun _ _ _ _=> .bad⟩
noncomputable def R2 (s:AV→T→T) (j:D T):D T:=⟨fun call r h y=>j.run call (s AV.undef r) h y⟩
noncomputable def Lt (s:AV→T→T) (j:D T):D T:=⟨fun call r h y=>qT h (j.run call (s AV.undef r) h y)⟩
noncomputable def R3 (g:T→AV) (want:Bool) (a b:D T):D T:=match want with
 | true=>⟨fun call r h y=>jt (fun t=>bc t (a.run call r h y) (b.run call r h y)) (b.run call r h y) (g r)⟩
 | false=>⟨fun call r h y=>jt (fun t=>bc t (b.run call r h y) (a.run call r h y)) (b.run call r h y) (g r)⟩
noncomputable def zR (ops:Array Oper) (o:Oper) (a b:D F.T):D F.T:=match o.guard with
 | none=>a
 | some (j,want)=>match ob none (fun p=>p.dst) (iS ops.toList j) with
   | some d=>bc (Nat.ble n d) b (wA (F.get d) fun g=>R3 g want a b)
   | none=>b
noncomputable def jk (ops:Array Oper) (pl:lY) (l:List Nat):Nat→D F.T:=List.rec (motive:=fun _=>Nat→D F.T) (fun _=>⟨fun _ r h y=> .ok [] [h] r h y⟩)
 (fun i _ ih k=>ob ⟨fun _ _ _ _=> .bad⟩ (fun o=>wS F n o.dst fun s=>
  bc (pZ E o.op) (canon (Nat.add k 1) fun k'=>zR F n ops o (Ns (uR E F n o.op) s (ih k')) (Lt s (ih k')))
   (canon (Nat.sub (Nat.add (Bg pl.bR pl.an i) 1) k) fun m=>zR F n ops o (Nt k m (uR E F n o.op) s (ih k)) (R2 s (ih k)))) (iS ops.toList i)) l
noncomputable def Nv (tr:List O5):List Nat:=List.rec (motive:=fun _=>List Nat) [] (fun x _ ih=>ob ih (fun i=>i::ih) x.made) tr
noncomputable def qU (tr:List O5) (hs:List au):Bool:=bc (Gq (Nv tr)) (yN (fun x=>yN x.f (sH (sG hs x.k) x.m)) tr) false
noncomputable def W3 (ops:Array Oper) (pl:lY) (call:bw) (r:F.T) (h:au) (y:Y):FO F.T:=match pl.order.reverse with
 | []=> .bad
 | i::front=>match (jk E F n ops pl front.reverse 0).run call r h y,ops[i]? with
   | .ok tr hs r1 h1 y1,some ⟨dst,.call c,ty,pos,after,guard⟩=>
     match fk E (.call c)&&cE ops (eV F n r1) ⟨dst,.call c,ty,pos,after,guard⟩&&(List.range ops.size).all (fun j=>j==i||dC pl.an i j),
      dc E call (eV F n r1) h1 y1.rc ⟨dst,.call c,ty,pos,after,guard⟩ with
     | true,.panic v h'=>match qU tr (hs++[h']) with
       | true=> .jmp (.panic v) r1 h' y1
       | false=> .bad
     | _,_=> .bad
   | _,_=> .bad
noncomputable def Nw (ops:Array Oper):I F.T:=RV E ops (fun pl=>
 ⟨fun call r h y=>DO.rec (motive:=fun _=>FO F.T) (fun tr hs r' h' y'=>bc (qU tr hs) (.IY r' h' y') .bad) (W3 E F n ops pl call r h y) ((jk E F n ops pl pl.order 0).run call r h y)⟩) ⟨fun _ _ _ _=> .bad⟩
def Zl (r:T) (o:Out):FO T:=match o with
 | .ok .normal s=> .IY r s.h ⟨s.ds,s.rc⟩
 | .ok e s=> .jmp e r s.h ⟨s.ds,s.rc⟩
 | .fail _ _=> .bad
noncomputable def Gt (f:Operand) (ps:Array Tmp) (as_ bd:Code):I F.T:=
 wO E F n f (fun _=>⟨fun call r h y=>Zl r (lh E call f ps as_ bd ⟨eV F n r,h,y.ds,y.rc⟩)⟩) ⟨fun _ _ _ _=> .bad⟩
noncomputable def nS {R:Type} (d:R) (k:Nat→R) (m:Nat):R:=Nat.rec (motive:=fun _=>R) d (fun i _=>k i) m
noncomputable def fo {R:Type} (a:T→au→Y→R) (b:hZ→T→au→Y→R) (d:R) (o:FO T):R:=FO.rec (motive:=fun _=>R) a b d o
noncomputable def R4 {R:Type} (f:Nat→R) (d:R) (e:hZ):R:=hZ.rec (motive:=fun _=>R) d f d (fun _=>d) e
noncomputable def R5 (b:C T) (m:Nat):bw→T→au→Y→FO T:=
 Nat.rec (motive:=fun _=>bw→T→au→Y→FO T) (fun _ _ _ _=> .bad) (fun i ih call r h y=>fo (fun r' h' y'=>ih call r' h' y') .jmp .bad (b.run i call r h y)) m
noncomputable def W5 (i:I T):C T:=⟨fun m call r h y=>nS .bad (fun _=>i.run call r h y) m⟩
noncomputable def mH (c:Code):C F.T:=Code.rec (motive:=fun _=>C F.T)
 ⟨fun m _ r h y=>nS .bad (fun _=> .IY r h y) m⟩
 (fun _ ops draw=>bc draw (W5 (Nw E F n ops)) (W5 (ua E F n ops ops.toList)))
 (fun _ _ a b=>⟨fun m call r h y=>nS .bad (fun i=>fo (fun r' h' y'=>b.run i call r' h' y') .jmp .bad (a.run i call r h y)) m⟩)
 (fun x _ _ a b=>wO E F n x (fun g=>⟨fun m call r h y=>nS .bad (fun i=>jt (fun t=>bc t (a.run i call r h y) (b.run i call r h y)) .bad (g r)) m⟩) ⟨fun _ _ _ _ _=> .bad⟩)
 (fun id _ b=>⟨fun m call r h y=>nS .bad (fun i=>fo .IY (fun e r' h' y'=>R4 (fun j=>bc (Nat.beq j id) (.IY r' h' y') (.jmp e r' h' y')) (.jmp e r' h' y') e) .bad (b.run i call r h y)) m⟩)
 (fun _ b=>⟨fun m call r h y=>R5 b m call r h y⟩)
 (fun f ps as_ bd _ _=>W5 (Gt E F n f ps as_ bd))
 (fun id=>⟨fun m _ r h y=>nS .bad (fun _=> .jmp (.exit id) r h y) m⟩)
 (fun _ b=>⟨fun m call r h y=>nS .bad (fun i=>b.run i call r h y) m⟩)
 (fun _=>⟨fun m _ r h y=>nS .bad (fun _=> .IY r h y) m⟩)
 (fun _=>⟨fun _ _ _ _ _=> .bad⟩)
 ⟨fun m _ r h y=>nS .bad (fun _=> .jmp .ret r h y) m⟩
 (fun _=>⟨fun _ _ _ _ _=> .bad⟩) c
end
section
variable (E:Env)
inductive BO where
 | fin (res:au→Option (List AV)) (h:au) (y:Y)
 | pan (v:AV) (res:au→Option (List AV)) (h:au) (y:Y)
 | bad
structure CF where
 run:Nat→bw→List AV→au→RC→BO
noncomputable def yS (F:RF) (n:Nat):List ResultVar→W (F.T→au→Option (List AV))
 | []=>⟨fun _ _=>some []⟩
 | .tmp t::rest=>wT F n t fun g=>wW (yS F n rest) fun k=>⟨fun r h=>ob none (fun vs=>some (g r::vs)) (k r h)⟩
 | .cell a t::rest=>wT F n a fun g=>wW (yS F n rest) fun k=>⟨fun r h=>ob none (fun v=>ob none (fun vs=>some (v::vs)) (k r h)) (bG E h t (g r))⟩
noncomputable def R6 (F:RF) (n:Nat) (fn:Func) (b:Code):CF:=
 wW (yS E F n fn.results.toList) fun res=>⟨fun fuel call args h rc=>bc (Nat.ble (iR args) n)
  (fo (fun r h' y=> .fin (res r) h' y) (fun e r h' y=>hZ.rec (motive:=fun _=>BO) .bad (fun _=> .bad) (.fin (res r) h' y) (fun v=> .pan v (res r) h' y) e) .bad
   ((mH E F n b).run fuel call (QO F args F.z 0) h ⟨[],rc⟩)) .bad⟩
noncomputable def zS (f:FuncId):CF:=match aaG E.P f with
 | none=>⟨fun _ _ _ _ _=> .bad⟩
 | some fn=>match fn.body with
   | none=>⟨fun _ _ _ _ _=> .bad⟩
   | some b=>bc (Nat.ble fn.ntmps 64) (R6 E rf2 fn.ntmps fn b) (bc (Nat.ble fn.ntmps 512) (R6 E rf3 fn.ntmps fn b) ⟨fun _ _ _ _ _=> .bad⟩)
noncomputable def bo {R:Type} (a:(au→Option (List AV))→au→Y→R) (b:AV→(au→Option (List AV))→au→Y→R) (d:R) (o:BO):R:=BO.rec (motive:=fun _=>R) a b d o
noncomputable def Nx (F:RF) (call:bw) (fuel:Nat) (c:Code) (s:St):Out:=
 fo (fun r h y=> .ok .normal ⟨eV F s.ts.length r,h,y.ds,y.rc⟩) (fun e r h y=> .ok e ⟨eV F s.ts.length r,h,y.ds,y.rc⟩) (.fail "" none) ((mH E F s.ts.length c).run fuel call (QO F s.ts F.z 0) s.h ⟨s.ds,s.rc⟩)
noncomputable def Ny (call:bw) (fuel:Nat) (c:Code) (s:St):Out:=
 bc (Nat.ble s.ts.length 64) (Nx E rf2 call fuel c s) (bc (Nat.ble s.ts.length 512) (Nx E rf3 call fuel c s) (.fail "" none))
noncomputable def B1 (call:bw) (fuel:Nat) (l:Nat) (args:List AV) (h:au):jd:=match h.get l with
 | some (.loop _ _ ts ps as_ bd _)=>if args.length=ps.length then
  match Ny E call fuel as_ {ts:=(ps.zip args).foldl (fun ts x=>ts.set x.1 x.2) ts,h,ds:=[],rc:= .pP l} with
  | .ok .normal s1=>match s1.h.get l with
    | some (.loop .ready pd VY Q0 QC VZ V0)=>
      match Ny E call fuel bd {s1 with h:=s1.h.put l (some (.loop .busy pd VY Q0 QC VZ V0))} with
      | .ok .normal s2=>AN l none s2
      | .ok .ret s2=>AN l (some .ret) s2
      | .ok (.exit id) s2=>AN l (some (.exit id)) s2
      | .ok (.panic v) s2=>if s2.ds.isEmpty then .panic v s2.h else .fail "round defers" none
      | .fail why q=> .fail why q
    | _=> .fail "round state" none
  | .ok _ _=> .fail "round assign" none
  | .fail why q=> .fail why q
   else .fail "round args" none
 | _=> .fail "round" none
noncomputable def h_ (call:bw) (fuel:Nat) (g:FuncId) (as_:List AV) (h:au) (rc:RC):Option (au×RC):=
 bo (fun res h' y=>bc y.ds.isEmpty (ob none (fun _=>some (h',y.rc)) (res h')) none) (fun _ _ _ _=>none) none ((zS E g).run fuel call as_ h rc)
noncomputable def I2 (call:bw) (fuel:Nat) (p:Option AV) (res:au→Option (List AV)) (h:au) (ds:List od):jd:=match cJ (h_ E call fuel) ds p h with
 | none=> .fail "unwind" none
 | some (some v,h')=> .panic v h'
 | some (none,h')=>ob (.fail "results" none) (fun vs=> .ret (fY vs) h') (res h')
noncomputable def fFn {R:Type} (a:FuncId→R) (b:Nat→R) (f:Fn):R:=Fn.rec (motive:=fun _=>R) a b f
noncomputable def I3 {α R:Type} (a b:R) (l:List α):R:=List.rec (motive:=fun _=>R) a (fun _ _ _=>b) l
noncomputable def adK (fuel:Nat) (call:bw) (g:Fn) (args:List AV) (h:au):jd:=
 fFn (fun f=>bo (fun res h' y=>I3 (ob (.fail "results" none) (fun vs=> .ret (fY vs) h') (res h')) (I2 E call fuel none res h' y.ds) y.ds)
  (fun v res h' y=>I3 (.panic v h') (I2 E call fuel (some v) res h' y.ds) y.ds) (.fail "body" none) ((zS E f).run fuel call args h .no))
  (fun l=>B1 E call fuel l args h) g
noncomputable def zT (d fuel:Nat):bw:=Nat.rec (motive:=fun _=>bw) (fun _ _ _=> .fail "depth" none) (fun _ ih=>adK E fuel ih) d
end
end Go.Ab.Fa
end
section
namespace Go.Ab.Fa
theorem W6 {α R:Type} {d:R} {f:α→R} {a:α}:ob d f (some a)=f a:=rfl
theorem jl {R:Type} (x y:R):bc true x y=x:=rfl
theorem dS {R:Type} (x y:R):bc false x y=y:=rfl
theorem gL {α β:Type} {f:α→Option β} {o:Option α} {v:β} (h:ob none f o=some v):∃a,o=some a∧f a=some v:=by
 cases o with
 | none=>exact absurd h (by intro e;cases e)
 | some a=>exact ⟨a,rfl,h⟩
theorem fu {β:Type} {b:Bool} {x:Option β} {v:β} (h:bc b x none=some v):b=true∧x=some v:=by
 cases b with
 | false=>cases h
 | true=>exact ⟨rfl,h⟩
theorem qV {β:Type} {b:Bool} {x:Option β} {v:β} (h:bc b none x=some v):b=false∧x=some v:=by
 cases b with
 | false=>exact ⟨rfl,h⟩
 | true=>cases h
theorem Ew {β:Type} {f:Bool→Option β} {a:AV} {v:β} (h:jt f none a=some v):∃b,a= .bool b∧f b=some v:=by
 cases a with
 | bool b=>exact ⟨b,rfl,h⟩
 | _=>exact absurd h (by intro e;cases e)
theorem jv {β:Type} {f:IntKind→Int→Option β} {a:AV} {v:β} (h:ox f none a=some v):∃k n,a= .int k n∧f k n=some v:=by
 cases a with
 | int k n=>exact ⟨k,n,rfl,h⟩
 | _=>exact absurd h (by intro e;cases e)
theorem oC {β:Type} {f:List UInt8→Option β} {a:AV} {v:β} (h:qQ f none a=some v):∃s,a= .str s∧f s=some v:=by
 cases a with
 | str s=>exact ⟨s,rfl,h⟩
 | _=>exact absurd h (by intro e;cases e)
theorem sL {β:Type} {f:Nat→Nat→Option β} {a:AV} {v:β} (h:yK f none a=some v):∃i o,a= .ptr i o∧f i o=some v:=by
 cases a with
 | ptr i o=>exact ⟨i,o,rfl,h⟩
 | _=>exact absurd h (by intro e;cases e)
theorem oD {β:Type} {e:Option β} {f:Nat→Nat→Nat→Nat→Bool→Option β} {a:AV} {v:β} (h:ju e f none a=some v):
 (a= .aQ∧e=some v)∨∃i o l c b,a= .slice i o l c b∧f i o l c b=some v:=by
 cases a with
 | aQ=>exact .inl ⟨rfl,h⟩
 | slice i o l c b=>exact .inr ⟨i,o,l,c,b,rfl,h⟩
 | _=>exact absurd h (by intro e;cases e)
theorem I4 {β:Type} {e z:Option β} {f:Nat→Nat→Nat→Nat→Bool→Option β} {a:AV} {v:β} (h:ju e f (vZ z none a) a=some v):
 (a= .aQ∧e=some v)∨(∃i o l c b,a= .slice i o l c b∧f i o l c b=some v)∨(a= .dN∧z=some v):=by
 cases a with
 | aQ=>exact .inl ⟨rfl,h⟩
 | slice i o l c b=>exact .inr (.inl ⟨i,o,l,c,b,rfl,h⟩)
 | dN=>exact .inr (.inr ⟨rfl,h⟩)
 | _=>exact absurd h (by intro e;cases e)
theorem oE {β:Type} {f:Nat→Option β} {n:Int} {v:β} (h:kD f none n=some v):∃m:Nat,n=(m:Int)∧f m=some v:=by
 cases n with
 | ofNat m=>exact ⟨m,rfl,h⟩
 | negSucc m=>cases h
theorem qW {β:Type} {f:List AV→TypeId→Bool→Option β} {o:a_} {v:β} (h:yM f none o=some v):∃cs e ro,o= .cells cs e ro∧f cs e ro=some v:=by
 cases o with
 | cells cs e ro=>exact ⟨cs,e,ro,rfl,h⟩
 | _=>exact absurd h (by intro e;cases e)
theorem fA {a b:Nat} (h:Nat.ble a b=true):a≤b:=Nat.le_of_ble_eq_true h
theorem j6 {a b:Nat} (h:Nat.ble a b=false):b<a:=by
 apply Decidable.byContradiction;intro hn
 rw[Nat.ble_eq_true_of_le (by omega)] at h;cases h
theorem l7 {a b:Nat} (h:Nat.beq a b=true):a=b:=Nat.eq_of_beq_eq_true h
theorem Nz {k j:IntKind} (h:RM k j=true):k=j:=by
 cases k<;>cases j<;>first | rfl | exact absurd h (by intro e;cases e)
theorem wR (b:Bool):vB b= !b:=by cases b<;>rfl
theorem R7 {k:IntKind} (h:Zd k=false) (n:Int):k.wrap n=n%(uA k:Int):=by
 cases k<;>first | (cases h;done) | simp [IntKind.wrap,IntKind.bits,IntKind.signed,uA,kEl]
theorem R8 {k:IntKind} (h:Zd k=true) {m:Nat} (hm:m<uA k):k.wrap (Int.negSucc m)=Int.negSucc m:=by
 have hb:(2^(k.bits - 1):Int)=(uA k:Int)∧(2^k.bits:Int)=2*(uA k:Int)∧k.signed=true:=by
  cases k<;>first | (cases h;done) | (refine ⟨rfl,rfl,rfl⟩)
 obtain ⟨h1,h2,h3⟩:=hb
 unfold IntKind.wrap
 rw[h1,h2,h3,Int.negSucc_eq]
 generalize uA k=B at *
 have e: -((m:Int)+1)%(2*(B:Int))=2*(B:Int) -(m+1):=by
  rw[←Int.add_emod_right]
  exact Int.emod_eq_of_lt (by omega) (by omega)
 rw[e]
 simp only[Bool.true_and,decide_eq_true_eq]
 rw[if_pos (by omega)]
 omega
theorem oF (k:IntKind) (n:Int):uQ k n=k.wrap n:=by
 cases n with
 | ofNat m=>
   show bc (Nat.ble (uA k) m) (bc (Zd k) (k.wrap (Int.ofNat m)) (Int.ofNat (Nat.mod m (uA k)))) (Int.ofNat m)=_
   cases h:Nat.ble (uA k) m
   · have h:=j6 h
     rw[dS]
     cases k<;>simp [IntKind.wrap,IntKind.bits,IntKind.signed]<;>simp only[uA,kEl] at h<;>omega
   · rw[jl]
     cases hs:Zd k
     · rw[dS,R7 hs];rfl
     · rw[jl]
 | negSucc m=>
   show bc (Zd k) (bc (Nat.ble (uA k) m) (k.wrap (Int.negSucc m)) (Int.negSucc m)) (k.wrap (Int.negSucc m))=_
   cases hs:Zd k
   · rw[dS]
   · rw[jl]
     cases h:Nat.ble (uA k) m
     · have h:=j6 h
       rw[dS]
       exact (R8 hs h).symm
     · rw[jl]
theorem W7 (a b:Int):Lk a b=a+b:=by
 cases a<;>cases b<;>rfl
theorem W8 (a b:Int):wM a b=a - b:=by
 cases a with
 | negSucc x=>rfl
 | ofNat x=>
   cases b with
   | negSucc y=>rfl
   | ofNat y=>
     show bc (Nat.ble y x) (Int.ofNat (x - y)) (Int.negSucc (y - x - 1))=_
     cases h:Nat.ble y x
     · have h:=j6 h
       rw[dS,Int.negSucc_eq];simp only[Int.ofNat_eq_natCast];omega
     · have h:=fA h
       rw[jl];simp only[Int.ofNat_eq_natCast];omega
theorem NA (a b:Int):RO a b=a*b:=by
 cases a<;>cases b<;>rfl
theorem Lu (a b:Int):Ze a b=(a==b):=by
 have:Ze a b=decide (a=b):=by
  cases a with
  | ofNat x=>cases b with
    | ofNat y=>
      show Nat.beq x y=_
      rw[←AU]
      by_cases h:x=y
      · subst h;simp
      · rw[show (x==y)=false by simp [h]];symm;apply decide_eq_false;simp only[Int.ofNat_eq_natCast];omega
    | negSucc y=>simp;rfl
  | negSucc x=>cases b with
    | ofNat y=>simp;rfl
    | negSucc y=>
      show Nat.beq x y=_
      rw[←AU]
      by_cases h:x=y
      · subst h;simp
      · simp [h]
 rw[this];rfl
theorem Gu (a b:Int):WS a b=decide (a<b):=by
 cases a with
 | ofNat x=>cases b with
   | ofNat y=>
     show Nat.ble (x+1) y=_
     rw[←t_];simp only[Int.ofNat_eq_natCast];congr 1;apply propext;omega
   | negSucc y=>
     symm;exact decide_eq_false (by rw[Int.negSucc_eq];simp only[Int.ofNat_eq_natCast];omega)
 | negSucc x=>cases b with
   | ofNat y=>
     symm;exact decide_eq_true (by rw[Int.negSucc_eq];simp only[Int.ofNat_eq_natCast];omega)
   | negSucc y=>
     show Nat.ble (y+1) x=_
     rw[←t_];congr 1;apply propext;rw[Int.negSucc_eq,Int.negSucc_eq];omega
theorem B2 (a b:Int):(!decide (a<b))=decide (b≤a):=by
 by_cases h:a<b
 · rw[decide_eq_true h,decide_eq_false (by omega)];rfl
 · rw[decide_eq_false h,decide_eq_true (by omega)];rfl
theorem W9 (k:IntKind) {x:Nat} (h:x<uA k):x<2^k.bits:=by
 cases k<;>simp only[uA,kEl,IntKind.bits] at * <;>omega
theorem NB (k:IntKind) {x:Nat} (h:x<uA k):k.wrap (x:Int)=x:=by
 have:=oF k (Int.ofNat x)
 rw[Int.ofNat_eq_natCast] at this
 rw[←this]
 show bc (Nat.ble (uA k) x) _ (Int.ofNat x)=_
 rw[og h];rfl
theorem W_ (k:IntKind):∃m,uA k=2^m:=by
 cases k
 · exact ⟨7,rfl⟩
 · exact ⟨15,rfl⟩
 · exact ⟨31,rfl⟩
 · exact ⟨63,rfl⟩
 · exact ⟨8,rfl⟩
 · exact ⟨16,rfl⟩
 · exact ⟨32,rfl⟩
 · exact ⟨64,rfl⟩
theorem toNat_ofInt (k:IntKind) {x:Nat} (h:x<uA k):(BitVec.ofInt k.bits (Int.ofNat x)).toNat=x:=by
 rw[Int.ofNat_eq_natCast,BitVec.ofInt_natCast,BitVec.toNat_ofNat]
 exact Nat.mod_eq_of_lt (W9 k h)
theorem Xa (op:BinOp) (k:IntKind) (a b:Int) {v:AV} (h:WT op k a b=some v):cP op k a b=some v:=by
 cases op<;>simp only[WT] at h<;>try exact h
 · simpa [cP,oF,W7] using h
 · simpa [cP,oF,W8] using h
 · simpa [cP,oF,NA] using h
 · cases a with
   | negSucc x=>exact h
   | ofNat x=>cases b with
     | negSucc y=>exact h
     | ofNat y=>
       obtain ⟨h1,h2⟩:=qV h
       rw[oF] at h2
       have:y≠0:=by intro e;subst e;cases h1
       rw[←h2];simp [cP,this];exact congrArg k.wrap (Int.natCast_ediv x y).symm
 · cases a with
   | negSucc x=>exact h
   | ofNat x=>cases b with
     | negSucc y=>exact h
     | ofNat y=>
       obtain ⟨h1,h2⟩:=qV h
       have:y≠0:=by intro e;subst e;cases h1
       rw[←h2];simp [cP,this];rfl
 · cases a with
   | negSucc x=>exact h
   | ofNat x=>cases b with
     | negSucc y=>exact h
     | ofNat y=>
       change bc (Nat.ble (uA k) x) _ (bc (Nat.ble (uA k) y) _ _)=_ at h
       cases h1:Nat.ble (uA k) x with
       | true=>rw[h1] at h;exact h
       | false=>cases h2:Nat.ble (uA k) y with
         | true=>rw[h1,h2] at h;exact h
         | false=>
           rw[h1,h2] at h
           have h1:=j6 h1;have h2:=j6 h2
           rw[←h,dS,dS]
           show some (AV.int k (k.wrap ((BitVec.ofInt k.bits (Int.ofNat x)&&& BitVec.ofInt k.bits (Int.ofNat y)).toNat:Int)))=_
           rw[BitVec.toNat_and,toNat_ofInt k h1,toNat_ofInt k h2,NB k (Nat.lt_of_le_of_lt Nat.and_le_left h1)]
           rfl
 · cases a with
   | negSucc x=>exact h
   | ofNat x=>cases b with
     | negSucc y=>exact h
     | ofNat y=>
       change bc (Nat.ble (uA k) x) _ (bc (Nat.ble (uA k) y) _ _)=_ at h
       cases h1:Nat.ble (uA k) x with
       | true=>rw[h1] at h;exact h
       | false=>cases h2:Nat.ble (uA k) y with
         | true=>rw[h1,h2] at h;exact h
         | false=>
           rw[h1,h2] at h
           have h1:=j6 h1;have h2:=j6 h2
           rw[←h,dS,dS]
           show some (AV.int k (k.wrap ((BitVec.ofInt k.bits (Int.ofNat x)||| BitVec.ofInt k.bits (Int.ofNat y)).toNat:Int)))=_
           rw[BitVec.toNat_or,toNat_ofInt k h1,toNat_ofInt k h2,NB k]
           · rfl
           · obtain ⟨m,hm⟩:=W_ k
             rw[hm] at h1 h2 ⊢
             exact Nat.or_lt_two_pow h1 h2
 · simpa [cP,Lu] using h
 · simpa [cP,Lu,wR,bne] using h
 · simpa [cP,Gu] using h
 · simpa [cP,Gu,wR,B2] using h
 · simpa [cP,Gu] using h
 · simpa [cP,Gu,wR,B2] using h
theorem Xb (op:BinOp) (k:IntKind) (a b:Int):(RX op).f k a b=WT op k a b:=by
 cases op<;>rfl
theorem R9 (k:IntKind):RN k=k.bits:=by cases k<;>rfl
theorem NC (k:IntKind) (y:Nat):RP k y=min y k.bits:=by
 unfold RP;rw[R9]
 cases h:Nat.ble k.bits y
 · have:=j6 h;rw[dS];omega
 · have:=fA h;rw[jl];omega
theorem Xc {k:IntKind} {x y:Int} {v:AV} (h:adE k x y=some v):¬y<0∧v= .int k (k.wrap (x*2^(min y.toNat k.bits))):=by
 obtain ⟨m,rfl,h⟩:=oE h
 refine ⟨by omega,?_⟩
 have h:=Option.some.inj h
 rw[←h,oF,NA,NC]
 simp
theorem Xd {k:IntKind} {x y:Int} {v:AV} (h:adF k x y=some v):¬y<0∧v= .int k (x.fdiv (2^(min y.toNat k.bits))):=by
 obtain ⟨m,rfl,h⟩:=oE h
 refine ⟨by omega,?_⟩
 have h:=Option.some.inj h
 rw[←h]
 cases x with
 | negSucc x=>simp [kD]
 | ofNat x=>
   show AV.int k (Int.ofNat (x/2^RP k m))=_
   rw[NC]
   simp
   rw[show (2^min m k.bits:Int)=((2^min m k.bits:Nat):Int) by simp]
   exact (Int.fdiv_eq_ediv_of_nonneg _ (Int.natCast_nonneg _)).symm
end Go.Ab.Fa
end
section
namespace Go.Ab.Fa
section
variable {α:Type}
theorem qa (l:List α) (o:Nat):sG l o=l.drop o:=by
 induction l generalizing o with
 | nil=>simp [sG]
 | cons v tl ih=>
   show bc (Nat.beq o 0) (v::tl) (sG tl (o - 1))=_
   rw[ih]
   cases o with
   | zero=>rfl
   | succ o=>simp [show Nat.beq (o+1) 0=false from rfl,dS]
theorem qb (l:List α) (o:Nat):sH l o=l.take o:=by
 induction l generalizing o with
 | nil=>simp [sH]
 | cons v tl ih=>
   show bc (Nat.beq o 0) [] (v::sH tl (o - 1))=_
   rw[ih]
   cases o with
   | zero=>rfl
   | succ o=>simp [show Nat.beq (o+1) 0=false from rfl,dS]
theorem O6 (vs:List α):∀(cs:List α) (k:Nat),(IP vs cs)[k]? =if k<vs.length∧k<cs.length then vs[k]? else cs[k]? :=by
 induction vs with
 | nil=>intro cs k;rw[if_neg (by simp)];rfl
 | cons v vs ih=>
   intro cs k
   cases cs with
   | nil=>rw[if_neg (by simp)];rfl
   | cons c tl=>
     show (v::IP vs tl)[k]? =_
     cases k with
     | zero=>rw[if_pos (by simp)];rfl
     | succ k=>simp only[List.getElem?_cons_succ,ih,List.length_cons,Nat.add_lt_add_iff_right]
theorem R_ (vs:List α):∀(cs:List α) (o k:Nat),(IQ vs cs o)[k]? =if o≤k∧k<o+vs.length∧k<cs.length then vs[k - o]? else cs[k]? :=by
 intro cs
 induction cs with
 | nil=>intro o k;rw[if_neg (by simp)];rfl
 | cons c tl ih=>
   intro o k
   show (bc (Nat.beq o 0) (IP vs (c::tl)) (c::IQ vs tl (o - 1)))[k]? =_
   cases o with
   | zero=>
     show (IP vs (c::tl))[k]? =_
     rw[O6];simp
   | succ o=>
     show (c::IQ vs tl o)[k]? =_
     cases k with
     | zero=>rw[if_neg (by omega)];rfl
     | succ k=>
       rw[List.getElem?_cons_succ,ih,List.getElem?_cons_succ,List.length_cons]
       by_cases h:o≤k∧k<o+vs.length∧k<tl.length
       · rw[if_pos h,if_pos (by omega),show k+1 -(o+1)=k - o by omega]
       · rw[if_neg h,if_neg (by omega)]
end
theorem Gv (vs cs:List AV) (o:Nat):IQ vs cs o=setFrom cs o vs:=by
 apply List.ext_getElem?;intro k;rw[R_,eu]
theorem Lv (l m:List UInt8):leq BT l m=(l==m):=by
 have key:∀a b:UInt8,BT a b=(a==b):=by
  intro a b
  unfold BT
  rw[←AU]
  by_cases h:a=b
  · subst h;simp
  · rw[show (a==b)=false by simp [h]]
    rw[beq_eq_false_iff_ne]
    intro e;apply h
    have:a.toNat=b.toNat:=e
    exact UInt8.toNat_inj.mp this
 induction l generalizing m with
 | nil=>cases m<;>rfl
 | cons x tl ih=>
   cases m with
   | nil=>rfl
   | cons y tm=>
     show bc (BT x y) (leq BT tl tm) false=_
     rw[ih,key,oB];rfl
theorem Xe (op:BinOp) (a b:List UInt8):(O3 op).f a b=vj op a b:=by
 cases op<;>first | rfl | (simp only[O3,vj,Lv,wR])
theorem Xf (v:AV):WU v=AV.scalar v:=by cases v<;>rfl
theorem I5:WU=AV.scalar:=funext Xf
theorem O7 (v:AV):Gi v=true→(match (some v:Option AV) with
 | some (.ptr i o)=>some (.ptr i o)
 | some (.map i)=>some (.map i)
 | some (.slice i o l c b)=>some (.slice i o l c b)
 | some (.func f a b)=>some (.func f a b)
 | _=>none)=some v:=by
 cases v<;>intro h<;>first | rfl | exact absurd h (by intro e;cases e)
theorem I6 {f:TypeId→AV→yv} {why:String} {o:Option Oper} (a:AV):(∃t v,a= .iface t v)∨qR f (.fail why o) a= .fail why o:=by
 cases a with
 | iface t v=>exact .inl ⟨t,v,rfl⟩
 | _=>exact .inr rfl
theorem l8 (v:AV):lq v=v.cells:=by cases v<;>rfl
section
variable (E:Env) (F:RF) (n:Nat)
theorem Gw {β:Type} (i:Nat) (k:(F.T→AV)→β):∃g,wT F n i k=k g∧∀r,(eV F n r).getD i AV.undef=g r:=by
 unfold wT
 cases h:Nat.ble n i
 · refine ⟨(F.get i).f,rfl,fun r=>?_⟩
   rw[IN,if_pos (j6 h)]
 · refine ⟨fun _=>AV.undef,rfl,fun r=>?_⟩
   rw[IN,if_neg (by have:=fA h;omega)]
theorem b6 {β:Type} (x:Operand) (k:(F.T→AV)→β) (d:β):wO E F n x k d=d∨∃g,wO E F n x k d=k g∧∀r,eh E (eV F n r) x=some (g r):=by
 cases x with
 | tmp t=>
   obtain ⟨g,h1,h2⟩:=Gw F n t k
   exact .inr ⟨g,h1,fun r=>by rw[←h2];rfl⟩
 | const v=>
   simp only[wO]
   cases h:ofConst v with
   | none=>exact .inl rfl
   | some a=>exact .inr ⟨fun _=>a,rfl,fun r=>h⟩
 | global g=>
   simp only[wO]
   cases h:Nat.ble E.G g
   · exact .inr ⟨fun _=> .ptr g 0,rfl,fun r=>by rw[eh,if_pos (j6 h)]⟩
   · exact .inl rfl
 | func f=>exact .inr ⟨fun _=> .func f [] [],rfl,fun r=>rfl⟩
theorem ub {β:Type}:∀(l:List Operand) (k:(F.T→List AV)→β) (d:β),wL E F n l k d=d∨∃g,wL E F n l k d=k g∧∀r,fS E (eV F n r) l=some (g r)
 | [],k,d=> .inr ⟨fun _=> [],rfl,fun r=>rfl⟩
 | x::xs,k,d=>by
   rw[wL]
   rcases b6 E F n x (fun g=>wL E F n xs (fun gs=>k fun r=>g r::gs r) d) d with h | ⟨g,h,hg⟩
   · exact .inl h
   · rcases ub xs (fun gs=>k fun r=>g r::gs r) d with h' | ⟨gs,h',hgs⟩
     · exact .inl (h.trans h')
     · refine .inr ⟨_,h.trans h',fun r=>?_⟩
       have:=hgs r
       unfold fS at *
       rw[eE,hg r];simp only[this]
theorem ND {β:Type} (o:Option Operand) (k:Option (F.T→AV)→β) (d:β):wP E F n o k d=d∨∃g,wP E F n o k d=k g∧∀r,mB E (eV F n r) o=some (DK g r):=by
 cases o with
 | none=>exact .inr ⟨none,rfl,fun r=>rfl⟩
 | some x=>
   rcases b6 E F n x (fun g=>k (some g)) d with h | ⟨g,h,hg⟩
   · exact .inl h
   · exact .inr ⟨some g,h,fun r=>by rw[mB,hg r];rfl⟩
theorem B3 {β:Type}:∀(l:List (Nat×Operand)) (k:(F.T→List (Nat×AV))→β) (d:β),W0 E F n l k d=d∨∃g,W0 E F n l k d=k g∧∀r,jY E (eV F n r) l=some (g r)
 | [],k,d=> .inr ⟨fun _=> [],rfl,fun r=>rfl⟩
 | (i,x)::xs,k,d=>by
   rw[W0]
   rcases b6 E F n x (fun g=>W0 E F n xs (fun gs=>k fun r=>(i,g r)::gs r) d) d with h | ⟨g,h,hg⟩
   · exact .inl h
   · rcases B3 xs (fun gs=>k fun r=>(i,g r)::gs r) d with h' | ⟨gs,h',hgs⟩
     · exact .inl (h.trans h')
     · refine .inr ⟨_,h.trans h',fun r=>?_⟩
       rw[jY,hg r];simp only[hgs r]
theorem NF {β:Type} (hn:n≤F.N) (o:Option Tmp) (k:(AV→F.T→F.T)→β):∃s,wS F n o k=k s∧∀v r,dH (eV F n r) o v=eV F n (s v r):=by
 cases o with
 | none=>exact ⟨fun _ r=>r,rfl,fun v r=>rfl⟩
 | some i=>
   show ∃s,bc (Nat.ble n i) (k fun _ r=>r) (wU (F.set i) k)=k s∧_
   cases h:Nat.ble n i
   · exact ⟨(F.set i).f,rfl,fun v r=>WQ F n hn r (j6 h) v⟩
   · refine ⟨fun _ r=>r,rfl,fun v r=>?_⟩
     show (eV F n r).set i v=_
     rw[List.set_eq_of_length_le (by rw[iH];exact fA h)]
theorem oG (t:TypeId):wc E t=b7 E t:=by
 unfold wc b7;rw[sJ];cases E.P.info? t<;>rfl
theorem R' (t:TypeId):byF E t=fh E t:=by
 unfold byF fh;rw[sJ];split
 · rfl
 · cases E.P.info? t<;>rfl
theorem yT (t:TypeId):KD E t=eU E t:=by
 unfold KD eU;rw[sJ]
 cases E.P.info? t with
 | none=>rfl
 | some i=>show ob none (fun z=>ofConst z) i.zero=_;cases h:i.zero<;>simp [ob,h]
theorem aaL (t:TypeId):agF E t=eQ E t:=by
 unfold agF eQ;rw[iI];rfl
theorem Sa (t:TypeId) (f:Nat):fiF E t f=mC E t f:=by
 unfold fiF mC;rw[iI]
 generalize E.P.underlying t=u
 cases u with
 | none=>rfl
 | some d=>cases d with
   | struct fs=>show iS fs.toList f=fs[f]?;rw[gV];exact Array.getElem?_toList
   | _=>rfl
def sM (op:Op):Prop:=(∀ts,bH E ts op=none)∧(∀ts h,dP E ts h op=none)∧∀ts,ei E ts op=none
def j7 (f g:bw):Prop:=∀F as_ h,(∀v h',f F as_ h= .ret v h'→g F as_ h= .ret v h')∧∀v h',f F as_ h= .panic v h'→g F as_ h= .panic v h'
def Zm (a b:yv):Prop:=match a with
 | .fail _ _=>True
 | a=>b=a
def fV (op:Op):Kd F.T→Prop
 | .HX g=>∀r,bH E (eV F n r) op=some (g r)
 | .gO f=>∀r v,f r=some v→bH E (eV F n r) op=some v
 | .red f=>∀r h v,f r h=some v→bH E (eV F n r) op=some v∨(bH E (eV F n r) op=none∧dP E (eV F n r) h op=some v)
 | .si f=>(∀ts,bH E ts op=none)∧(∀ts h,dP E ts h op=none)∧∀r p,f r=some p→ei E (eV F n r) op=some p
 | .wr f=>sM E op∧∀call r h rc o p,o.op=op→f r h=some p→dc E call (eV F n r) h rc o= .val p.1 p.2
 | .call g args=>sM E op∧∀call r h rc o,o.op=op→dc E call (eV F n r) h rc o=mG (call g (args r) h)
 | .uw f=>sM E op∧∀fc call,j7 fc call→∀r h rc o,o.op=op→Zm (f fc r h rc) (dc E call (eV F n r) h rc o)
 | .bad=>True
end
end Go.Ab.Fa
end
section
namespace Go.Ab.Fa
variable {E:Env} {F:RF} {n:Nat}
theorem Xg {op:BinOp} (h1:op≠ .shl) (h2:op≠ .shr) {t:TypeId} {xc yc:Bool} {a b v:AV} (h:WZ (RX op).f (O3 op).f (jI E op t xc yc) a b=some v):jI E op t xc yc a b=some v:=by
 unfold WZ at h
 cases a with
 | int k x=>
   obtain ⟨j,y,rfl,h3⟩:=jv (show ox (fun j y=>bc (RM k j) ((RX op).f k x y) none) none b=some v from h)
   obtain ⟨hk,h4⟩:=fu h3
   have hk:=Nz hk
   rw[Xb] at h4
   have:=Xa op k x y h4
   rw[←hk]
   cases op<;>first | exact absurd rfl h1 | exact absurd rfl h2 | simpa [jI] using this
 | str s=>
   obtain ⟨s',rfl,h3⟩:=oC (show qQ (fun t=>(O3 op).f s t) none b=some v from h)
   rw[Xe] at h3
   cases op<;>first | exact absurd rfl h1 | exact absurd rfl h2 | simpa [jI] using h3
 | _=>exact h
theorem Xh (op:BinOp) (t:TypeId) (x y:Operand) (yt:TypeId) (gx gy:F.T→AV) (hx:∀r,eh E (eV F n r) x=some (gx r)) (hy:∀r,eh E (eV F n r) y=some (gy r)):
 fV E F n (.binOp op t x y yt) (cF op (jI E op t (isConst x) (isConst y)) gx gy):=by
 have red:∀r,bH E (eV F n r) (.binOp op t x y yt)=jI E op t (isConst x) (isConst y) (gx r) (gy r):=by
  intro r;simp only[bH,hx,hy]
 by_cases h1:op= .shl
 · subst h1
   intro r v h
   rw[red]
   obtain ⟨k,m,e1,h⟩:=jv h
   obtain ⟨k',m',e2,h⟩:=jv h
   obtain ⟨h3,rfl⟩:=Xc h
   rw[e1,e2];simp [jI,h3]
 by_cases h2:op= .shr
 · subst h2
   intro r v h
   rw[red]
   obtain ⟨k,m,e1,h⟩:=jv h
   obtain ⟨k',m',e2,h⟩:=jv h
   obtain ⟨h3,rfl⟩:=Xd h
   rw[e1,e2];simp [jI,h3]
 have:cF op (jI E op t (isConst x) (isConst y)) gx gy= .gO fun r=>WZ (RX op).f (O3 op).f (jI E op t (isConst x) (isConst y)) (gx r) (gy r):=by
  cases op<;>first | exact absurd rfl h1 | exact absurd rfl h2 | rfl
 rw[this]
 intro r v h
 rw[red]
 exact Xg h1 h2 h
theorem aaM (op:UnOp) (t:TypeId) (x:Operand) (g:F.T→AV) (hg:∀r,eh E (eV F n r) x=some (g r)):fV E F n (.unOp op t x) (unK op g):=by
 have red:∀r,bH E (eV F n r) (.unOp op t x)=unA op (g r):=by intro r;simp only[bH,hg]
 cases op with
 | not=>
   intro r v h
   rw[red]
   obtain ⟨b,e,h⟩:=Ew h
   rw[e,←h,wR];rfl
 | _=>intro r v h;rw[red];exact h
theorem Sb {t:TypeId} {m:Nat} (h1:eQ E t=some true) (h2:b7 E t=some m) {cs:List AV} {o:Nat} {v:AV} (h:RZ m cs o=some v):hJ E t cs o=some v:=by
 unfold RZ at h
 obtain ⟨h3,h⟩:=fu h
 have h3:=fA h3
 rw[fL] at h3
 unfold hJ
 rw[h1,h2]
 simp only
 rw[if_pos (show o+m≤cs.length from h3),←h,qb,qa]
theorem Sc {t:TypeId} (h1:eQ E t=some false) {cs:List AV} {o:Nat} {v:AV} (h:RY cs o=some v):hJ E t cs o=some v:=by
 unfold RY at h
 rw[gV] at h
 unfold hJ
 rw[h1];exact h
theorem B4 {T:Type} (t:TypeId) (k:(List AV→Nat→Option AV)→Kd T):wQ E t k= .bad∨∃p,wQ E t k=k p∧∀cs o v,p cs o=some v→hJ E t cs o=some v:=by
 unfold wQ
 rw[aaL]
 cases h:eQ E t with
 | none=>exact .inl rfl
 | some b=>cases b with
   | false=>exact .inr ⟨_,rfl,fun cs o v=>Sc h⟩
   | true=>
     simp only
     rw[oG]
     cases h2:b7 E t with
     | none=>exact .inl rfl
     | some m=>exact .inr ⟨_,rfl,fun cs o v=>Sb h h2⟩
theorem Sd {t:TypeId} {p:List AV→Nat→Option AV} (hp:∀cs o v,p cs o=some v→hJ E t cs o=some v) {h:au} {a v:AV} (e:IZ p h a=some v):bG E h t a=some v:=by
 obtain ⟨i,o,rfl,e⟩:=sL e
 obtain ⟨obj,e1,e⟩:=gL e
 obtain ⟨cs,el,ro,rfl,e⟩:=qW e
 simp only[bG,e1]
 exact hp _ _ _ e
theorem Xi (t:TypeId) (a:Operand):fV E F n (.load t a) (wO E F n a (fun g=>wQ E t fun p=> .red fun r h=>IZ p h (g r)) .bad):=by
 rcases b6 E F n a (fun g=>wQ E t fun p=>(.red fun r h=>IZ p h (g r):Kd F.T)) .bad with h | ⟨g,h,hg⟩<;>rw[h]
 · trivial
 · rcases B4 (E:=E) t (fun p=>(.red fun r h=>IZ p h (g r):Kd F.T)) with h | ⟨p,h,hp⟩<;>rw[h]
   · trivial
   · intro r h v e
     refine .inr ⟨rfl,?_⟩
     simp only[dP,hg]
     exact Sd hp e
theorem Se (s:TypeId) (x:Operand) (f:Nat):fV E F n (.field s x f) (match fiF E s f with
 | some fd=>wO E F n x (fun g=>wQ E fd.type fun p=> .gO fun r=>yL (fun cs=>p cs fd.offset) (fun _=>none) none (g r)) .bad
 | none=> .bad):=by
 rw[Sa]
 cases h0:mC E s f with
 | none=>trivial
 | some fd=>
   simp only
   rcases b6 E F n x (fun g=>wQ E fd.type fun p=>(.gO fun r=>yL (fun cs=>p cs fd.offset) (fun _=>none) none (g r):Kd F.T)) .bad with h | ⟨g,h,hg⟩<;>rw[h]
   · trivial
   · rcases B4 (E:=E) fd.type (fun p=>(.gO fun r=>yL (fun cs=>p cs fd.offset) (fun _=>none) none (g r):Kd F.T)) with h | ⟨p,h,hp⟩<;>rw[h]
     · trivial
     · intro r v e
       change yL (fun cs=>p cs fd.offset) (fun _=>none) none (g r)=some v at e
       simp only[bH,h0,hg]
       cases hv:g r with
       | agg cs=>rw[hv] at e;exact hp _ _ _ e
       | _=>rw[hv] at e;exact absurd e (by intro e;cases e)
theorem Gy (s:TypeId) (x:Operand) (f:Nat):fV E F n (.fieldAddr s x f) (match fiF E s f with
 | some fd=>match wc E fd.type with
   | some (_+1)=>wO E F n x (fun g=> .gO fun r=>yK (fun i o=>some (.ptr i (Nat.add o fd.offset))) none (g r)) .bad
   | _=> .bad
 | none=> .bad):=by
 rw[Sa]
 cases h0:mC E s f with
 | none=>trivial
 | some fd=>
   simp only
   rw[oG]
   cases h1:b7 E fd.type with
   | none=>trivial
   | some m=>cases m with
     | zero=>trivial
     | succ m=>
       simp only
       rcases b6 E F n x (fun g=>(.gO fun r=>yK (fun i o=>some (.ptr i (Nat.add o fd.offset))) none (g r):Kd F.T)) .bad with h | ⟨g,h,hg⟩<;>rw[h]
       · trivial
       · intro r v e
         obtain ⟨i,o,e1,e⟩:=sL e
         simp only[bH,h0,hg,e1,h1]
         rw[if_neg (by omega)];exact e
theorem I7 (x:Operand):fV E F n (.nilCheck x) (wO E F n x (fun g=> .gO fun r=>bc (Gi (g r)) (some (g r)) none) .bad):=by
 rcases b6 E F n x (fun g=>(.gO fun r=>bc (Gi (g r)) (some (g r)) none:Kd F.T)) .bad with h | ⟨g,h,hg⟩<;>rw[h]
 · trivial
 · intro r v e
   obtain ⟨h1,e⟩:=fu e
   simp only[bH,hg]
   rw[←e]
   exact O7 _ h1
theorem Lw (x:Operand) (i:Nat):fV E F n (.extract x i) (wO E F n x (fun g=> .gO fun r=>yL (fun _=>none) (fun vs=>iS vs i) none (g r)) .bad):=by
 rcases b6 E F n x (fun g=>(.gO fun r=>yL (fun _=>none) (fun vs=>iS vs i) none (g r):Kd F.T)) .bad with h | ⟨g,h,hg⟩<;>rw[h]
 · trivial
 · intro r v e
   change yL (fun _=>none) (fun vs=>iS vs i) none (g r)=some v at e
   simp only[bH,hg]
   cases hv:g r with
   | tuple cs=>rw[hv] at e;show cs[i]? =some v;rw[←gV];exact e
   | _=>rw[hv] at e;exact absurd e (by intro e;cases e)
theorem Xj (c a b:Operand):fV E F n (.pick c a b) (wO E F n c (fun gc=>wO E F n a (fun ga=>wO E F n b (fun gb=> .gO fun r=>jt (fun t=>bc t (some (ga r)) (some (gb r))) none (gc r)) .bad) .bad) .bad):=by
 rcases b6 E F n c (fun gc=>wO E F n a (fun ga=>wO E F n b (fun gb=>(.gO fun r=>jt (fun t=>bc t (some (ga r)) (some (gb r))) none (gc r):Kd F.T)) .bad) .bad) .bad with h | ⟨gc,h,hc⟩<;>rw[h]
 · trivial
 rcases b6 E F n a (fun ga=>wO E F n b (fun gb=>(.gO fun r=>jt (fun t=>bc t (some (ga r)) (some (gb r))) none (gc r):Kd F.T)) .bad) .bad with h | ⟨ga,h,ha⟩<;>rw[h]
 · trivial
 rcases b6 E F n b (fun gb=>(.gO fun r=>jt (fun t=>bc t (some (ga r)) (some (gb r))) none (gc r):Kd F.T)) .bad with h | ⟨gb,h,hb⟩<;>rw[h]
 · trivial
 intro r v e
 obtain ⟨t,e1,e⟩:=Ew e
 simp only[bH,hc,e1]
 cases t
 · simp only[hb];exact e
 · simp only[ha];exact e
theorem NG {len size i o:Nat} {ix v:AV} (e:Gr len size i o ix=some v):∃k m,ix= .int k m∧0≤m∧m<len∧v= .ptr i (o+m.toNat*size):=by
 obtain ⟨k,m,rfl,e⟩:=jv e
 obtain ⟨m',rfl,e⟩:=oE e
 obtain ⟨h1,e⟩:=qV e
 have h1:=j6 h1
 exact ⟨k,m',rfl,by omega,by omega,(Option.some.inj e).symm⟩
theorem GA (t:TypeId) (x ix:Operand):fV E F n (.indexAddr t x ix) (wO E F n x (fun gx=>wO E F n ix (fun gi=>match jQ E.P t with
 | some (.array len elem)=>match wc E elem with
   | some size=> .gO fun r=>yK (fun i o=>Gr len size i o (gi r)) none (gx r)
   | none=> .bad
 | some (.slice elem)=>match wc E elem with
   | some size=> .gO fun r=>ju none (fun i o len _ _=>Gr len size i o (gi r)) none (gx r)
   | none=> .bad
 | _=> .bad) .bad) .bad):=by
 rw[iI]
 rcases b6 E F n x (fun gx=>wO E F n ix (fun gi=>match E.P.underlying t with
  | some (.array len elem)=>match wc E elem with
    | some size=>(.gO fun r=>yK (fun i o=>Gr len size i o (gi r)) none (gx r):Kd F.T)
    | none=> .bad
  | some (.slice elem)=>match wc E elem with
    | some size=> .gO fun r=>ju none (fun i o len _ _=>Gr len size i o (gi r)) none (gx r)
    | none=> .bad
  | _=> .bad) .bad) .bad with h | ⟨gx,h,hx⟩<;>rw[h]
 · trivial
 rcases b6 E F n ix (fun gi=>match E.P.underlying t with
  | some (.array len elem)=>match wc E elem with
    | some size=>(.gO fun r=>yK (fun i o=>Gr len size i o (gi r)) none (gx r):Kd F.T)
    | none=> .bad
  | some (.slice elem)=>match wc E elem with
    | some size=> .gO fun r=>ju none (fun i o len _ _=>Gr len size i o (gi r)) none (gx r)
    | none=> .bad
  | _=> .bad) .bad with h | ⟨gi,h,hi⟩<;>rw[h]
 · trivial
 cases hu:E.P.underlying t with
 | none=>trivial
 | some d=>cases d with
   | array len elem=>
     simp only
     rw[oG]
     cases hs:b7 E elem with
     | none=>trivial
     | some size=>
       intro r v e
       obtain ⟨i,o,e1,e⟩:=sL e
       obtain ⟨k,m,e2,h1,h2,rfl⟩:=NG e
       simp only[bH,hu,hx,hi,e1,e2,hs]
       rw[if_pos ⟨h1,h2⟩]
   | slice elem=>
     simp only
     rw[oG]
     cases hs:b7 E elem with
     | none=>trivial
     | some size=>
       intro r v e
       rcases oD e with ⟨_,e⟩ | ⟨i,o,l,c,b,e1,e⟩
       · cases e
       obtain ⟨k,m,e2,h1,h2,rfl⟩:=NG e
       simp only[bH,hu,hx,hi,e1,e2,hs]
       rw[if_pos ⟨h1,h2⟩]
   | _=>trivial
theorem Sf (t:TypeId) (x ix:Operand):fV E F n (.index t x ix) (wO E F n x (fun gx=>wO E F n ix (fun gi=>match jQ E.P t with
 | some .string=> .gO fun r=>qQ (fun s=>ox (fun _ i=>kD (fun m=>ob none (fun (b:UInt8)=>some (.int .u8 (Int.ofNat b.toNat))) (iS s m)) none i) none (gi r)) none (gx r)
 | _=> .gO fun r=>bH E (eV F n r) (.index t x ix)) .bad) .bad):=by
 rw[iI]
 rcases b6 E F n x (fun gx=>wO E F n ix (fun gi=>match E.P.underlying t with
  | some .string=>(.gO fun r=>qQ (fun s=>ox (fun _ i=>kD (fun m=>ob none (fun (b:UInt8)=>some (.int .u8 (Int.ofNat b.toNat))) (iS s m)) none i) none (gi r)) none (gx r):Kd F.T)
  | _=> .gO fun r=>bH E (eV F n r) (.index t x ix)) .bad) .bad with h | ⟨gx,h,hx⟩<;>rw[h]
 · trivial
 rcases b6 E F n ix (fun gi=>match E.P.underlying t with
  | some .string=>(.gO fun r=>qQ (fun s=>ox (fun _ i=>kD (fun m=>ob none (fun (b:UInt8)=>some (.int .u8 (Int.ofNat b.toNat))) (iS s m)) none i) none (gi r)) none (gx r):Kd F.T)
  | _=> .gO fun r=>bH E (eV F n r) (.index t x ix)) .bad with h | ⟨gi,h,hi⟩<;>rw[h]
 · trivial
 cases hu:E.P.underlying t with
 | none=>intro r v e;exact e
 | some d=>cases d with
   | string=>
     intro r v e
     obtain ⟨s,e1,e⟩:=oC e
     obtain ⟨k,m,e2,e⟩:=jv e
     obtain ⟨m',rfl,e⟩:=oE e
     obtain ⟨b,e3,e⟩:=gL e
     rw[gV] at e3
     simp only[bH,hu,hx,hi,e1,e2]
     rw[if_pos (by omega)]
     rw[show ((m':Int).toNat)=m' from rfl,e3]
     exact e
   | _=>intro r v e;exact e
theorem pn {d y:Nat} {o:Option AV} {k:Nat→Option AV} {v:AV} (e:Gs d y o k=some v):∃m,(match o with | some v=>oa v y | none=>some d)=some m∧k m=some v:=by
 cases o with
 | none=>exact ⟨d,rfl,e⟩
 | some a=>
   obtain ⟨kk,i,rfl,e⟩:=jv (show ox (fun _ i=>kD (fun m=>bc (Nat.ble m y) (k m) none) none i) none a=some v from e)
   obtain ⟨m,rfl,e⟩:=oE e
   obtain ⟨h1,e⟩:=fu e
   have h1:=fA h1
   refine ⟨m,?_,e⟩
   simp only[oa]
   rw[if_pos (by omega)];rfl
theorem uc {len cap h l:Nat} {lo hi:Option AV} (h1:(match hi with | some v=>oa v cap | none=>some len)=some h)
 (h2:(match lo with | some v=>oa v h | none=>some 0)=some l):ks len cap lo hi none=some (l,h,cap):=by
 cases hi with
 | none=>cases lo with
   | none=>cases h1;cases h2;rfl
   | some b=>cases h1;simp only[ks,Option.isSome_none];simp at h2;simp [h2]
 | some a=>cases lo with
   | none=>cases h2;simp only[ks];simp at h1;simp [h1]
   | some b=>simp only[ks];simp at h1 h2;simp [h1,h2]
theorem aaN {t elem:TypeId} {size:Nat} (hu:E.P.underlying t=some (.slice elem)) (hs:b7 E elem=some size) {lo hi:Option AV} {x v:AV} (e:slF size lo hi x=some v):dw E t x lo hi none=some v:=by
 rcases oD e with ⟨rfl,e1⟩ | ⟨i,o,len,cap,op,rfl,e1⟩
 · obtain ⟨h,h1,e2⟩:=pn e1
   obtain ⟨l,h2,e3⟩:=pn e2
   simp only[dw,hu,uc h1 h2,hs]
   exact e3
 · obtain ⟨h0,e2⟩:=fu e1
   have h0:=fA h0
   obtain ⟨h,h1,e3⟩:=pn e2
   obtain ⟨l,h2,e4⟩:=pn e3
   simp only[dw,hu,uc h1 h2,hs]
   rw[if_pos h0]
   cases h3:Nat.beq cap l
   · rw[h3,dS] at e4
     have:¬cap=l:=by intro ee;rw[ee,Nat.beq_refl] at h3;cases h3
     rw[if_neg this]
     simpa using e4
   · rw[h3,jl] at e4
     rw[if_pos (l7 h3)]
     cases op
     · rw[dS] at e4;simpa using e4
     · rw[jl] at e4;simpa using e4
theorem aaO {t:TypeId} (hu:E.P.underlying t=some .string) {lo hi:Option AV} {x v:AV} (e:slS lo hi x=some v):dw E t x lo hi none=some v:=by
 obtain ⟨s,rfl,e1⟩:=oC e
 obtain ⟨h,h1,e2⟩:=pn e1
 obtain ⟨l,h2,e3⟩:=pn e2
 rw[fL] at h1
 simp only[dw,hu,uc h1 h2]
 rw[←e3,qb,qa];rfl
theorem aaP {t elem:TypeId} {m size:Nat} (hu:E.P.underlying t=some (.array m elem)) (hs:b7 E elem=some size) {lo hi:Option AV} {x v:AV} (e:slA m size lo hi x=some v):dw E t x lo hi none=some v:=by
 obtain ⟨i,o,rfl,e1⟩:=sL e
 obtain ⟨h,h1,e2⟩:=pn e1
 obtain ⟨l,h2,e3⟩:=pn e2
 simp only[dw,hu,uc h1 h2,hs]
 rw[←Option.some.inj e3]
 cases h3:Nat.beq m l
 · have:¬m=l:=by intro ee;rw[ee,Nat.beq_refl] at h3;cases h3
   rw[if_neg this];rfl
 · rw[if_pos (l7 h3)];rfl
theorem Sg (t:TypeId) (x:Operand) (lo hi:Option Operand):fV E F n (.slice t x lo hi none) (wO E F n x (fun gx=>wP E F n lo (fun gl=>wP E F n hi (fun gh=>match jQ E.P t with
 | some (.slice elem)=>match wc E elem with
   | some size=> .gO fun r=>slF size (DK gl r) (DK gh r) (gx r)
   | none=> .bad
 | some .string=> .gO fun r=>slS (DK gl r) (DK gh r) (gx r)
 | some (.array m elem)=>match wc E elem with
   | some size=> .gO fun r=>slA m size (DK gl r) (DK gh r) (gx r)
   | none=> .bad
 | _=> .gO fun r=>bH E (eV F n r) (.slice t x lo hi none)) .bad) .bad) .bad):=by
 rw[iI]
 let K:(F.T→AV)→Option (F.T→AV)→Option (F.T→AV)→Kd F.T:=fun gx gl gh=>match E.P.underlying t with
  | some (.slice elem)=>match wc E elem with
    | some size=> .gO fun r=>slF size (DK gl r) (DK gh r) (gx r)
    | none=> .bad
  | some .string=> .gO fun r=>slS (DK gl r) (DK gh r) (gx r)
  | some (.array m elem)=>match wc E elem with
    | some size=> .gO fun r=>slA m size (DK gl r) (DK gh r) (gx r)
    | none=> .bad
  | _=> .gO fun r=>bH E (eV F n r) (.slice t x lo hi none)
 show fV E F n _ (wO E F n x (fun gx=>wP E F n lo (fun gl=>wP E F n hi (fun gh=>K gx gl gh) .bad) .bad) .bad)
 rcases b6 E F n x (fun gx=>wP E F n lo (fun gl=>wP E F n hi (fun gh=>K gx gl gh) .bad) .bad) .bad with h | ⟨gx,h,hx⟩<;>rw[h]
 · trivial
 rcases ND E F n lo (fun gl=>wP E F n hi (fun gh=>K gx gl gh) .bad) .bad with h | ⟨gl,h,hl⟩<;>rw[h]
 · trivial
 rcases ND E F n hi (fun gh=>K gx gl gh) .bad with h | ⟨gh,h,hh⟩<;>rw[h]
 · trivial
 have red:∀r,bH E (eV F n r) (.slice t x lo hi none)=dw E t (gx r) (DK gl r) (DK gh r) none:=by
  intro r;simp only[bH,hx,hl,hh];rfl
 simp only[K]
 cases hu:E.P.underlying t with
 | none=>intro r v e;exact e
 | some d=>cases d with
   | string=>intro r v e;rw[red];exact aaO hu e
   | array m elem=>
     simp only
     rw[oG]
     cases hs:b7 E elem with
     | none=>trivial
     | some size=>intro r v e;rw[red];exact aaP hu hs e
   | slice elem=>
     simp only
     rw[oG]
     cases hs:b7 E elem with
     | none=>trivial
     | some size=>intro r v e;rw[red];exact aaN hu hs e
   | _=>intro r v e;exact e
end Go.Ab.Fa
end
section
namespace Go.Ab.Fa
variable {E:Env} {F:RF} {n:Nat}
theorem O8 {t:TypeId} {m:Nat} (hs:b7 E t=some m) {h:au} {a v:AV} {p:AV×au} (e:BZ m h a v=some p):p.1=AV.undef∧eF E h t a v=some p.2:=by
 obtain ⟨i,o,rfl,e1⟩:=sL e
 obtain ⟨obj,h1,e2⟩:=gL e1
 obtain ⟨cs,el,ro,rfl,e3⟩:=qW e2
 obtain ⟨h2,e4⟩:=qV e3
 obtain ⟨h3,e5⟩:=fu e4
 obtain ⟨h4,e6⟩:=fu e5
 obtain ⟨h5,e7⟩:=fu e6
 have h3:=l7 h3
 have h4:=fA h4
 rw[fL,l8] at h3
 rw[fL] at h4
 rw[qS,I5,l8] at h5
 have e8:=Option.some.inj e7
 subst h2
 refine ⟨by rw[←e8],?_⟩
 simp only[eF,h1,hs]
 rw[if_pos ⟨h3,h4,h5⟩,←e8,Gv,l8]
theorem I8 {t:TypeId} {a x:Operand}:sM E (.store t a x):=⟨fun _=>rfl,fun _ _=>rfl,fun _=>rfl⟩
theorem Sh (t:TypeId) (a x:Operand):fV E F n (.store t a x) (match wc E t with
 | some m=>wO E F n a (fun ga=>wO E F n x (fun gx=> .wr fun r h=>BZ m h (ga r) (gx r)) .bad) .bad
 | none=> .bad):=by
 rw[oG]
 cases hs:b7 E t with
 | none=>trivial
 | some m=>
   simp only
   rcases b6 E F n a (fun ga=>wO E F n x (fun gx=>(.wr fun r h=>BZ m h (ga r) (gx r):Kd F.T)) .bad) .bad with h | ⟨ga,h,ha⟩<;>rw[h]
   · trivial
   rcases b6 E F n x (fun gx=>(.wr fun r h=>BZ m h (ga r) (gx r):Kd F.T)) .bad with h | ⟨gx,h,hx⟩<;>rw[h]
   · trivial
   refine ⟨I8,fun call r h rc o p ho e=>?_⟩
   obtain ⟨h1,h2⟩:=O8 hs e
   simp only[dc,ho,ha,hx,h2,h1]
theorem yU (t:TypeId) (x:Operand):fV E F n (.makeInterface t x) (match jQ E.P t with
 | some (.interface _)=> .bad
 | some _=>wO E F n x (fun g=> .HX fun r=> .iface t (g r)) .bad
 | none=> .bad):=by
 rw[iI]
 cases hu:E.P.underlying t with
 | none=>trivial
 | some d=>
   cases d with
   | interface ms=>trivial
   | _=>
     simp only
     rcases b6 E F n x (fun g=>(.HX fun r=> .iface t (g r):Kd F.T)) .bad with h | ⟨g,h,hg⟩<;>rw[h]
     · trivial
     · intro r;simp only[bH,hu,hg]
theorem I9 (f:FuncId) (a b:Array Operand):fV E F n (.makeFunc (.func f) a b) (wL E F n a.toList (fun ga=>wL E F n b.toList (fun gb=> .HX fun r=> .func f (ga r) (gb r)) .bad) .bad):=by
 rcases ub E F n a.toList (fun ga=>wL E F n b.toList (fun gb=>(.HX fun r=> .func f (ga r) (gb r):Kd F.T)) .bad) .bad with h | ⟨ga,h,ha⟩<;>rw[h]
 · trivial
 rcases ub E F n b.toList (fun gb=>(.HX fun r=> .func f (ga r) (gb r):Kd F.T)) .bad with h | ⟨gb,h,hb⟩<;>rw[h]
 · trivial
 intro r;simp only[bH,ha,hb]
theorem Si (t:TypeId):fV E F n (.alloc t) (match KD E t with
 | some z=> .si fun _=>some (.cells z.cells t false,fun i=> .ptr i 0)
 | none=> .bad):=by
 rw[yT]
 cases hz:eU E t with
 | none=>trivial
 | some z=>exact ⟨fun _=>rfl,fun _ _=>rfl,fun r p e=>by simp only[ei,hz];exact e⟩
theorem aaQ (t:TypeId) (x:Operand):fV E F n (.box t x) (wO E F n x (fun g=> .si fun r=>some (.cells (lq (g r)) t false,fun i=> .ptr i 0)) .bad):=by
 rcases b6 E F n x (fun g=>(.si fun r=>some (.cells (lq (g r)) t false,fun i=> .ptr i 0):Kd F.T)) .bad with h | ⟨g,h,hg⟩<;>rw[h]
 · trivial
 · exact ⟨fun _=>rfl,fun _ _=>rfl,fun r p e=>by simp only[ei,hg];rw[←l8];exact e⟩
theorem DL (t:TypeId) (len:Nat) (parts:Array (Nat×Operand)):fV E F n (.buildSlice t len parts) (match jQ E.P t with
 | some (.slice elem)=>match wc E elem,KD E elem with
   | some m,some z=>if z.cells.length=m∧len*m≤2^24 then W0 E F n parts.toList (fun gp=> .si fun r=>ob none (fun cs=>some (.cells cs elem false,fun i=> .slice i 0 len len false)) (rF (fun i=>some (i*m,m)) (et z.cells len) (gp r))) .bad else .bad
   | _,_=> .bad
 | _=> .bad):=by
 rw[iI]
 cases hu:E.P.underlying t with
 | none=>trivial
 | some d=>cases d with
   | slice elem=>
     simp only
     rw[oG,yT]
     cases hs:b7 E elem with
     | none=>trivial
     | some m=>cases hz:eU E elem with
       | none=>trivial
       | some z=>
         simp only
         by_cases hc:z.cells.length=m∧len*m≤2^24
         · rw[if_pos hc]
           rcases B3 E F n parts.toList (fun gp=>(.si fun r=>ob none (fun cs=>some (.cells cs elem false,fun i=> .slice i 0 len len false)) (rF (fun i=>some (i*m,m)) (et z.cells len) (gp r)):Kd F.T)) .bad with h | ⟨g,h,hg⟩<;>rw[h]
           · trivial
           · refine ⟨fun _=>rfl,fun _ _=>rfl,fun r p e=>?_⟩
             obtain ⟨cs,h1,e⟩:=gL e
             simp only[ei,hu,hs,hz,hg]
             rw[if_pos hc];simp only[h1];exact e
         · rw[if_neg hc];trivial
   | _=>trivial
theorem Xk (z:List AV) (m:Nat):aaK z m=et z m:=by
 induction m with
 | zero=>rfl
 | succ m ih=>show kW z (aaK z m)=_;rw[nH,ih];rfl
theorem GB (t:TypeId) (l c:Operand):fV E F n (.makeSlice t l c) (wO E F n l (fun gl=>wO E F n c (fun gc=>match jQ E.P t with
 | some (.slice elem)=>match wc E elem,byF E elem,KD E elem with
   | some m,some bytes,some z=>if z.cells.length=m then .si fun r=>W1 elem bytes z.cells (gl r) (gc r) else .bad
   | _,_,_=> .bad
 | _=> .bad) .bad) .bad):=by
 rw[iI]
 rcases b6 E F n l (fun gl=>wO E F n c (fun gc=>match E.P.underlying t with
  | some (.slice elem)=>match wc E elem,byF E elem,KD E elem with
    | some m,some bytes,some z=>if z.cells.length=m then (.si fun r=>W1 elem bytes z.cells (gl r) (gc r):Kd F.T) else .bad
    | _,_,_=> .bad
  | _=> .bad) .bad) .bad with h | ⟨gl,h,hl⟩<;>rw[h]
 · trivial
 rcases b6 E F n c (fun gc=>match E.P.underlying t with
  | some (.slice elem)=>match wc E elem,byF E elem,KD E elem with
    | some m,some bytes,some z=>if z.cells.length=m then (.si fun r=>W1 elem bytes z.cells (gl r) (gc r):Kd F.T) else .bad
    | _,_,_=> .bad
  | _=> .bad) .bad with h | ⟨gc,h,hc⟩<;>rw[h]
 · trivial
 cases hu:E.P.underlying t with
 | none=>trivial
 | some d=>cases d with
   | slice elem=>
     simp only
     rw[oG,R',yT]
     cases hs:b7 E elem with
     | none=>trivial
     | some m=>cases hb:fh E elem with
       | none=>trivial
       | some bytes=>cases hz:eU E elem with
         | none=>trivial
         | some z=>
           simp only
           by_cases hm:z.cells.length=m
           · rw[if_pos hm]
             refine ⟨fun _=>rfl,fun _ _=>rfl,fun r p e=>?_⟩
             obtain ⟨k1,a,e1,q1⟩:=jv e
             obtain ⟨k2,b,e2,q2⟩:=jv q1
             obtain ⟨a',rfl,q3⟩:=oE q2
             obtain ⟨b',rfl,q4⟩:=oE q3
             obtain ⟨c1,q5⟩:=fu q4
             obtain ⟨c2,q6⟩:=qV q5
             obtain ⟨c3,q7⟩:=fu q6
             have c1:=fA c1
             have c2:=j6 c2
             have c3:bytes*b'≤140737488355328:=fA c3
             simp only[ei,hu,hs,hb,hz,hl,hc,e1,e2]
             rw[if_pos ⟨by omega,by omega,by omega,by have:(bytes:Int)*(b':Int)=((bytes*b':Nat):Int):=by simp
                                                      rw[this];omega,hm⟩]
             rw[←q7,Xk];rfl
           · rw[if_neg hm];trivial
   | _=>trivial
theorem I_ (k:List UInt8):∀(l:List gY) (i:Nat) {x:Option AV},findF k l=some x→∃y,sb (.str k) l i=some y∧y.map (·.2)=x
 | [],i,x,h=>⟨none,rfl,by cases h;rfl⟩
 | e::es,i,x,h=>by
   obtain ⟨s,h1,h2⟩:=oC (show qQ (fun s=>bc (leq BT k s) (some (some e.val)) (findF k es)) none e.key=some x from h)
   rw[Lv] at h2
   rw[sb,h1]
   show ∃y,(match (some (k==s):Option Bool) with | some true=>some (some (i,e.val)) | some false=>sb (.str k) es (i+1) | none=>none)=some y∧_
   cases hb:k==s with
   | true=>
     rw[hb,jl] at h2
     exact ⟨some (i,e.val),rfl,Option.some.inj h2⟩
   | false=>
     rw[hb,dS] at h2
     exact I_ k es (i+1) h2
noncomputable def adL (h:au) (m:AV):Option (List gY):=match m with
 | .dM=>some []
 | .map i=>(match h.get i with | some (.map es _)=>some es | _=>none)
 | _=>none
theorem Sj {z:AV} {ok:Bool} {h:au} {m k v:AV} (e:Np z ok h m k=some v):
 (∃s,k= .str s)∧∃es,(match m with | .dM=>some [] | .map i=>(match h.get i with | some (.map es _)=>some es | _=>none) | _=>none)=some es∧
  ∃y,sb k es 0=some y∧v=(match y with | some (_,w)=>(if ok then .tuple [w,.bool true] else w) | none=>if ok then .tuple [z,.bool false] else z):=by
 obtain ⟨s,rfl,e1⟩:=oC e
 obtain ⟨es,h1,e2⟩:=gL e1
 obtain ⟨x,h2,e3⟩:=gL e2
 refine ⟨⟨s,rfl⟩,es,?_,?_⟩
 · cases m with
   | dM=>exact h1
   | map i=>
     obtain ⟨o,h3,h4⟩:=gL (show ob none (fun o=>W2 (fun es=>some es) none o) (h.get i)=some es from h1)
     simp only[h3]
     cases o with
     | map gD c=>exact h4
     | _=>cases h4
   | _=>cases h1
 · obtain ⟨y,h3,h4⟩:=I_ s es 0 h2
   refine ⟨y,h3,?_⟩
   have e4:=Option.some.inj e3
   rw[←e4,←h4]
   cases y with
   | none=>cases ok<;>rfl
   | some y=>obtain ⟨_,w⟩:=y;cases ok<;>rfl
theorem O9 (t:TypeId) (x ix:Operand) (ok:Bool):fV E F n (.lookup t x ix ok) (wO E F n x (fun gx=>wO E F n ix (fun gi=>match jQ E.P t with
 | some (.map key elem)=>match jQ E.P key,KD E elem with
   | some .string,some z=> .red fun r h=>Np z ok h (gx r) (gi r)
   | _,_=> .red fun r h=>dP E (eV F n r) h (.lookup t x ix ok)
 | _=> .bad) .bad) .bad):=by
 let K:(F.T→AV)→(F.T→AV)→Kd F.T:=fun gx gi=>match jQ E.P t with
  | some (.map key elem)=>match jQ E.P key,KD E elem with
    | some .string,some z=> .red fun r h=>Np z ok h (gx r) (gi r)
    | _,_=> .red fun r h=>dP E (eV F n r) h (.lookup t x ix ok)
  | _=> .bad
 show fV E F n _ (wO E F n x (fun gx=>wO E F n ix (fun gi=>K gx gi) .bad) .bad)
 rcases b6 E F n x (fun gx=>wO E F n ix (fun gi=>K gx gi) .bad) .bad with h | ⟨gx,h,hx⟩<;>rw[h]
 · trivial
 rcases b6 E F n ix (fun gi=>K gx gi) .bad with h | ⟨gi,h,hi⟩<;>rw[h]
 · trivial
 simp only[K,iI,yT]
 have yR:fV E F n (.lookup t x ix ok) (.red fun r h=>dP E (eV F n r) h (.lookup t x ix ok)):=fun r h v e=> .inr ⟨rfl,e⟩
 cases hu:E.P.underlying t with
 | none=>trivial
 | some d=>cases d with
   | map key elem=>
     simp only
     cases hk:E.P.underlying key with
     | none=>exact yR
     | some kd=>cases kd with
       | string=>cases hz:eU E elem with
         | none=>exact yR
         | some z=>
           intro r h v e
           refine .inr ⟨rfl,?_⟩
           obtain ⟨⟨s,hs⟩,es,h1,y,h2,rfl⟩:=Sj e
           simp only[dP,hu,hx,hi,hk]
           rw[hs] at h2 ⊢
           rw[if_pos (show iE (some TypeDesc.string) (AV.str s)=true from rfl)]
           have h1':adL h (gx r)=some es:=h1
           change (match adL h (gx r) with
            | none=>none
            | some es=>match sb (AV.str s) es 0 with
              | none=>none
              | some (some (_,v))=>some (if ok then AV.tuple [v,.bool true] else v)
              | some none=>match eU E elem with
                | some z=>some (if ok then AV.tuple [z,.bool false] else z)
                | none=>none)=_
           rw[h1']
           simp only[h2,hz]
           cases y with
           | none=>rfl
           | some y=>obtain ⟨_,w⟩:=y;rfl
       | _=>exact yR
   | _=>trivial
theorem B5:∀(fs:List Field),Bh E fs=placesOf E fs
 | []=>rfl
 | f::fs=>by
   show ob none (fun n=>ob none (fun l=>some ((f.offset,n)::l)) (Bh E fs)) (wc E f.type)=_
   rw[B5 fs,oG]
   simp only[placesOf,eE]
   cases b7 E f.type with
   | none=>rfl
   | some n=>
     show ob none (fun l=>some ((f.offset,n)::l)) (eE _ fs)=_
     cases eE (fun f=>match b7 E f.type with | some n=>some (f.offset,n) | none=>none) fs<;>rfl
theorem I' (ps:List (Nat×Nat)):∀(l:List (Nat×AV)) (cs:List AV) {v:List AV},I0 ps cs l=some v→rF (ps[·]?) cs l=some v
 | [],cs,v,h=>h
 | (i,x)::l,cs,v,h=>by
   obtain ⟨q,h1,h2⟩:=gL (show ob none (fun (q:Nat×Nat)=>bc (Nat.beq (iR (lq x)) q.2) (bc (Nat.ble (q.1+q.2) (iR cs)) (I0 ps (IQ (lq x) cs q.1) l) none) none) (iS ps i)=some v from h)
   obtain ⟨h3,h4⟩:=fu h2
   obtain ⟨h5,h6⟩:=fu h4
   have h3:=l7 h3
   have h5:=fA h5
   rw[fL,l8] at h3
   rw[fL] at h5
   rw[gV] at h1
   rw[rF]
   obtain ⟨off,size⟩:=q
   simp only[h1]
   rw[if_pos ⟨h3,h5⟩,←Gv,←l8]
   exact I' ps l _ h6
theorem Sk (t:TypeId) (parts:Array (Nat×Operand)):fV E F n (.build t parts) (match KD E t,jQ E.P t with
 | some z,some (.struct fs)=>match Bh E fs.toList with
   | some ps=>W0 E F n parts.toList (fun gp=> .gO fun r=>ob none (fun cs=>some (.agg cs)) (I0 ps (lq z) (gp r))) .bad
   | none=> .bad
 | _,_=> .gO fun r=>bH E (eV F n r) (.build t parts)):=by
 have yR:fV E F n (.build t parts) (.gO fun r=>bH E (eV F n r) (.build t parts)):=fun r v e=>e
 rw[iI,yT]
 cases hz:eU E t with
 | none=>exact yR
 | some z=>cases hu:E.P.underlying t with
   | none=>exact yR
   | some d=>cases d with
     | struct fs=>
       simp only
       rw[B5]
       cases hp:placesOf E fs.toList with
       | none=>trivial
       | some ps=>
         simp only
         rcases B3 E F n parts.toList (fun gp=>(.gO fun r=>ob none (fun cs=>some (.agg cs)) (I0 ps (lq z) (gp r)):Kd F.T)) .bad with h | ⟨g,h,hg⟩<;>rw[h]
         · trivial
         · intro r v e
           obtain ⟨cs,h1,e2⟩:=gL e
           have h1:=I' ps _ _ h1
           rw[l8] at h1
           simp only[bH,hg,FI,hz,hu,hp,h1]
           exact e2
     | _=>exact yR
theorem GC (t:TypeId) (m k x:Operand):fV E F n (.mapUpdate t m k x) (wO E F n m (fun gm=>wO E F n k (fun gk=>wO E F n x (fun gx=> .wr fun r h=>ob none (fun h'=>some (AV.undef,h')) (eI E h t (gm r) (gk r) (gx r))) .bad) .bad) .bad):=by
 rcases b6 E F n m (fun gm=>wO E F n k (fun gk=>wO E F n x (fun gx=>(.wr fun r h=>ob none (fun h'=>some (AV.undef,h')) (eI E h t (gm r) (gk r) (gx r)):Kd F.T)) .bad) .bad) .bad with h | ⟨gm,h,hm⟩<;>rw[h]
 · trivial
 rcases b6 E F n k (fun gk=>wO E F n x (fun gx=>(.wr fun r h=>ob none (fun h'=>some (AV.undef,h')) (eI E h t (gm r) (gk r) (gx r)):Kd F.T)) .bad) .bad with h | ⟨gk,h,hk⟩<;>rw[h]
 · trivial
 rcases b6 E F n x (fun gx=>(.wr fun r h=>ob none (fun h'=>some (AV.undef,h')) (eI E h t (gm r) (gk r) (gx r)):Kd F.T)) .bad with h | ⟨gx,h,hx⟩<;>rw[h]
 · trivial
 refine ⟨⟨fun _=>rfl,fun _ _=>rfl,fun _=>rfl⟩,fun call r h rc o p ho e=>?_⟩
 obtain ⟨h',h1,e2⟩:=gL e
 have e3:=Option.some.inj e2
 simp only[dc,ho,hm,hk,hx,h1,←e3]
theorem O_ (t:TypeId) (m k x:Operand):fV E F n (.insert t m k x) (wO E F n m (fun gm=>wO E F n k (fun gk=>wO E F n x (fun gx=> .wr fun r h=>ob none (fun h'=>some (AV.undef,h')) (eI E h t (gm r) (gk r) (gx r))) .bad) .bad) .bad):=by
 rcases b6 E F n m (fun gm=>wO E F n k (fun gk=>wO E F n x (fun gx=>(.wr fun r h=>ob none (fun h'=>some (AV.undef,h')) (eI E h t (gm r) (gk r) (gx r)):Kd F.T)) .bad) .bad) .bad with h | ⟨gm,h,hm⟩<;>rw[h]
 · trivial
 rcases b6 E F n k (fun gk=>wO E F n x (fun gx=>(.wr fun r h=>ob none (fun h'=>some (AV.undef,h')) (eI E h t (gm r) (gk r) (gx r)):Kd F.T)) .bad) .bad with h | ⟨gk,h,hk⟩<;>rw[h]
 · trivial
 rcases b6 E F n x (fun gx=>(.wr fun r h=>ob none (fun h'=>some (AV.undef,h')) (eI E h t (gm r) (gk r) (gx r)):Kd F.T)) .bad with h | ⟨gx,h,hx⟩<;>rw[h]
 · trivial
 refine ⟨⟨fun _=>rfl,fun _ _=>rfl,fun _=>rfl⟩,fun call r h rc o p ho e=>?_⟩
 obtain ⟨h',h1,e2⟩:=gL e
 have e3:=Option.some.inj e2
 simp only[dc,ho,hm,hk,hx,h1,←e3]
theorem Xl (it:Operand) (s:Bool):fV E F n (.next it s) (wO E F n it (fun g=> .wr fun r h=>D8 h (g r) s) .bad):=by
 rcases b6 E F n it (fun g=>(.wr fun r h=>D8 h (g r) s:Kd F.T)) .bad with h | ⟨g,h,hg⟩<;>rw[h]
 · trivial
 refine ⟨⟨fun _=>rfl,fun _ _=>rfl,fun _=>rfl⟩,fun call r h rc o p ho e=>?_⟩
 simp only[dc,ho,hg,e]
theorem Sl (x:Operand):fV E F n (.panic x) (wO E F n x (fun g=> .uw fun _ r h _=>qR (fun t w=> .panic (.iface t w) h) (.fail "" none) (g r)) .bad):=by
 rcases b6 E F n x (fun g=>(.uw fun _ r h _=>qR (fun t w=> .panic (.iface t w) h) (.fail "" none) (g r):Kd F.T)) .bad with h | ⟨g,h,hg⟩<;>rw[h]
 · trivial
 refine ⟨⟨fun _=>rfl,fun _ _=>rfl,fun _=>rfl⟩,fun fc call _ r h rc o ho=>?_⟩
 rcases I6 (f:=fun t w=>yv.panic (.iface t w) h) (why:= "") (o:=none) (g r) with ⟨t,w,e⟩ | e
 · simp only[dc,ho,hg,e];rfl
 · show Zm (qR _ _ _) _
   rw[e];trivial
theorem Sm (c:Call):fV E F n (.defer c) (.uw fun _ r _ rc=>match rc,callee E (eV F n r) c with
 | .pP _,_=> .fail "" none
 | _,some (.fn f,args)=> .defer (.call f args)
 | _,_=> .fail "" none):=by
 refine ⟨⟨fun _=>rfl,fun _ _=>rfl,fun _=>rfl⟩,fun fc call _ r h rc o ho=>?_⟩
 simp only[dc,ho]
 cases rc with
 | pP l=>trivial
 | _=>cases hc:callee E (eV F n r) c with
   | none=>trivial
   | some p=>obtain ⟨f,args⟩:=p;cases f<;>first | trivial | rfl
theorem Lx (src dst:TypeId) (x:Operand):fV E F n (.convert src dst x) (wO E F n x (Nq E src dst) .bad):=by
 rcases b6 E F n x (Nq E src dst) (.bad:Kd F.T) with h | ⟨g,h,hg⟩<;>rw[h]
 · trivial
 unfold Nq
 simp only[iI]
 cases hs:E.P.underlying src with
 | none=>trivial
 | some ds=>cases hd:E.P.underlying dst with
   | none=>cases ds<;>trivial
   | some dd=>
     cases ds<;>cases dd<;>try trivial
     case int.int k k'=>
      intro r v e
      obtain ⟨j,m,e1,e2⟩:=jv e
      simp only[bH,hs,hd,hg,e1]
      rw[←oF];exact e2
     case string.string=>
      intro r v e
      obtain ⟨s,e1,e2⟩:=oC e
      simp only[bH,hs,hd,hg,e1];exact e2
     case string.slice e=>
      refine ⟨⟨fun _=>by simp only[bH,hs,hd],fun _ _=>by simp only[dP,hs,hd],fun _=>rfl⟩,fun call r h rc o p ho e=>?_⟩
      simp only[dc,ho,hg,e]
     case slice.string el=>
      simp only
      cases he:E.P.underlying el with
      | none=>trivial
      | some de=>
        cases de<;>try trivial
        rename_i k
        cases k<;>try trivial
        intro r h v e
        rcases oD e with ⟨e1,e2⟩ | ⟨i,o,l,c,b,e1,e2⟩
        · refine .inr ⟨by simp only[bH,hs,hd,hg,e1],?_⟩
          simp only[dP,hs,hd,hg,he]
          simp only[e1];exact e2
        · refine .inr ⟨by simp only[bH,hs,hd,hg,e1],?_⟩
          simp only[dP,hs,hd,hg,he]
          simp only[e1]
          obtain ⟨l',h1,e3⟩:=gL e2
          simp only[h1];exact e3
end Go.Ab.Fa
end
