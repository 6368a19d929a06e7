import Derived.Test.YtfllahfbmaafcaaA4
import Derived.Test.YtfllahfbmaafcaaA0
set_option linter.unusedVariables false
set_option linter.unusedSimpArgs false
section
namespace Go.Ab.Fa
structure W (α:Type) where
 f:α
section
variable {α β T:Type}
noncomputable def wW (w:W α) (k:α→β):β:=W.rec (motive:=fun _=>β) k w
noncomputable def wA (a:Acc T) (k:(T→AV)→β):β:=Acc.rec (motive:=fun _=>β) k a
noncomputable def wU (a:Upd T) (k:(AV→T→T)→β):β:=Upd.rec (motive:=fun _=>β) k a
end
structure Y where
 ds:List oB
 rc:RC
inductive FO (T:Type) where
 | IX (r:T) (h:aA) (y:Y)
 | jmp (e:iB) (r:T) (h:aA) (y:Y)
 | bad
structure I (T:Type) where
 run:bh→T→aA→Y→FO T
structure C (T:Type) where
 run:Nat→bh→T→aA→Y→FO T
inductive Kd (T:Type) where
 | H2 (f:T→AV)
 | gS (f:T→Option AV)
 | red (f:T→aA→Option AV)
 | sA (f:T→Option (aX×(Nat→AV)))
 | wr (f:T→aA→Option (AV×aA))
 | call (g:Fn) (args:T→List AV)
 | uE (f:bh→T→aA→RC→yE)
 | bad
section
variable (E:Env) (F:RF) (n:Nat)
noncomputable def wT {β:Type} (i:Nat) (k:(F.T→AV)→β):β:=bc (Nat.ble n i) (k fun _=>AV.undef) (wA (F.get i) k)
noncomputable def wO {β:Type} (x:Operand) (k:(F.T→AV)→β) (d:β):β:=match x with
 | .tmp t=>wT F n t k
 | .const v=>match ofConst v with
   | some a=>k fun _=>a
   | none=>d
 | .global g=>bc (Nat.ble E.G g) d (k fun _=> .ptr g 0)
 | .func f=>k fun _=> .func f [] []
noncomputable def wL {β:Type} (l:List Operand) (k:(F.T→List AV)→β) (d:β):β:=match l with
 | []=>k fun _=> []
 | x::xs=>wO E F n x (fun g=>wL xs (fun gs=>k fun r=>g r::gs r) d) d
noncomputable def wP {β:Type} (o:Option Operand) (k:Option (F.T→AV)→β) (d:β):β:=match o with
 | none=>k none
 | some x=>wO E F n x (fun g=>k (some g)) d
noncomputable def wS {β:Type} (o:Option Tmp) (k:(AV→F.T→F.T)→β):β:=match o with
 | none=>k fun _ r=>r
 | some i=>bc (Nat.ble n i) (k fun _ r=>r) (wU (F.set i) k)
noncomputable def wz (t:TypeId):Option Nat:=ob none (fun i=>some i.size) (zK E.P t)
noncomputable def Zy (t:TypeId):Option Nat:=if E.bld=some t then none else ob none (fun i=>some i.bytes) (zK E.P t)
noncomputable def Kt (t:TypeId):Option AV:=ob none (fun i=>ob none (fun z=>ofConst z) i.zero) (zK E.P t)
noncomputable def agF (t:TypeId):Option Bool:=match kl E.P t with
 | some (.struct _)=>some true
 | some (.array _ _)=>some true
 | some _=>some false
 | none=>none
noncomputable def fiF (t:TypeId) (f:Nat):Option Field:=match kl E.P t with
 | some (.struct fs)=>ju fs.toList f
 | _=>none
variable {T:Type}
noncomputable def Rw (op:BinOp):W (IntKind→Int→Int→Option AV):=match op with
 | .add=>⟨fun k a b=>some (.int k (vd k (OW a b)))⟩
 | .sub=>⟨fun k a b=>some (.int k (vd k (OX a b)))⟩
 | .mul=>⟨fun k a b=>some (.int k (vd k (Ro a b)))⟩
 | .eql=>⟨fun _ a b=>some (.bool (XW a b))⟩
 | .neq=>⟨fun _ a b=>some (.bool (vH (XW a b)))⟩
 | .lss=>⟨fun _ a b=>some (.bool (VP a b))⟩
 | .leq=>⟨fun _ a b=>some (.bool (vH (VP b a)))⟩
 | .gtr=>⟨fun _ a b=>some (.bool (VP b a))⟩
 | .geq=>⟨fun _ a b=>some (.bool (vH (VP a b)))⟩
 | op=>⟨VQ op⟩
noncomputable def O2 (op:BinOp):W (List UInt8→List UInt8→Option AV):=match op with
 | .eql=>⟨fun a b=>some (.bool (leq By a b))⟩
 | .neq=>⟨fun a b=>some (.bool (vH (leq By a b)))⟩
 | op=>⟨vq op⟩
noncomputable def VY (f:IntKind→Int→Int→Option AV) (g:List UInt8→List UInt8→Option AV) (yZ:AV→AV→Option AV) (a b:AV):Option AV:=
 oM (fun k x=>oM (fun j y=>bc (Rl k j) (f k x y) none) none b) (rf (fun s=>rf (fun t=>g s t) none b) (yZ a b) a) a
noncomputable def cy (op:BinOp) (yZ:AV→AV→Option AV) (ga gb:T→AV):Kd T:=match op with
 | .shl=> .gS fun r=>oM (fun k x=>oM (fun _ y=>acq k x y) none (gb r)) none (ga r)
 | .shr=> .gS fun r=>oM (fun k x=>oM (fun _ y=>acr k x y) none (gb r)) none (ga r)
 | op=>wW (Rw op) fun f=>wW (O2 op) fun g=> .gS fun r=>VY f g yZ (ga r) (gb r)
noncomputable def unK (op:UnOp) (ga:T→AV):Kd T:=match op with
 | .not=> .gS fun r=>jP (fun b=>some (.bool (vH b))) none (ga r)
 | op=> .gS fun r=>unA op (ga r)
noncomputable def Rx (cs:List AV) (o:Nat):Option AV:=ju cs o
noncomputable def Ry (n:Nat) (cs:List AV) (o:Nat):Option AV:=bc (Nat.ble (Nat.add o n) (jt cs)) (some (.agg (sQ (sP cs o) n))) none
noncomputable def xa (t:TypeId) (k:(List AV→Nat→Option AV)→Kd T):Kd T:=match agF E t with
 | some true=>match wz E t with
   | some n=>k (Ry n)
   | none=> .bad
 | some false=>k Rx
 | none=> .bad
noncomputable def IY (p:List AV→Nat→Option AV) (h:aA) (a:AV):Option AV:=
 yS (fun i o=>ob none (fun obj=>yU (fun cs _ _=>p cs o) none obj) (h.get i)) none a
noncomputable def BF (n:Nat) (h:aA) (a v:AV):Option (AV×aA):=
 yS (fun i o=>ob none (fun obj=>yU (fun cs e ro=>bc ro none
  (bc (Nat.beq (jt (lQ v)) n) (bc (Nat.ble (Nat.add o n) (jt cs)) (bc (yV VS (lQ v)) (some (AV.undef,h.put i (some (.cells (IP (lQ v) cs o) e false)))) none) none) none)) none obj) (h.get i)) none a
noncomputable def Gn (len size:Nat) (i o:Nat) (ix:AV):Option AV:=
 oM (fun _ n=>lq (fun m=>bc (Nat.ble len m) none (some (.ptr i (Nat.add o (Nat.mul m size))))) none n) none ix
noncomputable def Gp (d y:Nat) (o:Option AV) (k:Nat→Option AV):Option AV:=
 ob (k d) (fun v=>oM (fun _ i=>lq (fun m=>bc (Nat.ble m y) (k m) none) none i) none v) o
noncomputable def slF (size:Nat) (lo hi:Option AV) (v:AV):Option AV:=
 jQ (Gp 0 0 hi fun h=>Gp 0 h lo fun _=>some .aP)
  (fun i o len cap op=>bc (Nat.ble len cap) (Gp len cap hi fun h=>Gp 0 h lo fun l=>
   bc (Nat.beq cap l) (bc op (some .ff) (some (.slice i o (Nat.sub h l) (Nat.sub cap l) false))) (some (.slice i (Nat.add o (Nat.mul l size)) (Nat.sub h l) (Nat.sub cap l) op))) none) none v
noncomputable def slS (lo hi:Option AV) (v:AV):Option AV:=
 rf (fun s=>Gp (jt s) (jt s) hi fun h=>Gp 0 h lo fun l=>some (.str (sQ (sP s l) (Nat.sub h l)))) none v
noncomputable def slA (m size:Nat) (lo hi:Option AV) (v:AV):Option AV:=
 yS (fun i o=>Gp m m hi fun h=>Gp 0 h lo fun l=>some (.slice i (bc (Nat.beq m l) o (Nat.add o (Nat.mul l size))) (Nat.sub h l) (Nat.sub m l) false)) none v
noncomputable def DN (o:Option (T→AV)) (r:T):Option AV:=ob none (fun g=>some (g r)) o
noncomputable def acs (v:AV):Option Nat:=jQ (some 0) (fun _ _ n _ _=>some n) (rf (fun s=>some (jt s)) (nE v) v) v
noncomputable def Rz (h:aA) (size n:Nat) (v:AV):Option (List AV):=
 jQ (bc (Nat.beq n 0) (some []) none) (fun i o len _ _=>bc (Nat.ble n len) (ob none (fun obj=>yU (fun cs _ _=>bc (Nat.ble (Nat.add o (Nat.mul n size)) (jt cs)) (some (sQ (sP cs o) (Nat.mul n size))) none) none obj) (h.get i)) none)
  (fj h size n v) v
noncomputable def acu (elem:TypeId) (size bytes:Nat) (h:aA) (s x:AV):Option (AV×aA):=
 ob none (fun n=>ob none (fun new=>bc (yV VS new) (bc (Nat.beq (jt new) (Nat.mul n size))
  (jQ
   (bc (Nat.beq n 0) (some (.aP,h)) (bc (Nat.ble (Nat.mul (Nat.add (Nat.mul 4 n) 4096) (Nat.add bytes 1)) 1099511627776)
    (ob none (fun h'=>some (.slice h.nx 0 n n true,h')) (h.new (.cells new elem false))) none))
   (fun i o len cap op=>ob none (fun obj=>yU (fun cs e ro=>bc ro none
    (bc (Nat.ble (Nat.add len n) cap)
     (bc (Nat.ble (Nat.add o (Nat.mul (Nat.add len n) size)) (jt cs)) (some (.slice i o (Nat.add len n) cap op,h.put i (some (.cells (IP new cs (Nat.add o (Nat.mul len size))) e false)))) none)
     (bc (Nat.ble (Nat.mul (Nat.add (Nat.mul 4 (Nat.add len n)) 4096) (Nat.add bytes 1)) 1099511627776)
      (bc (Nat.ble (Nat.add o (Nat.mul len size)) (jt cs))
       (bc op
        (bc (Nat.beq e elem) (bc (Nat.beq (Nat.add o (Nat.mul cap size)) (jt cs)) (bc (Nat.beq o 0)
         (ob none (fun h'=>some (.slice h.nx 0 (Nat.add len n) (Nat.add len n) true,h')) ((h.put i none).new (.cells (lK (sQ (sP cs o) (Nat.mul len size)) new) elem false))) none) none) none)
        (ob none (fun h'=>some (.slice h.nx 0 (Nat.add len n) (Nat.add len n) true,h')) (h.new (.cells (lK (sQ (sP cs o) (Nat.mul len size)) new) elem false)))) none) none)))
    none obj) (h.get i))
   none s) none) none) (Rz h size n x)) (acs x)
noncomputable def O3 (argTypes:Array TypeId) (gs gx:T→AV):Kd T:=match ju argTypes.toList 0,ju argTypes.toList 1 with
 | some sT,some xT=>match kl E.P sT,kl E.P xT with
   | some (.slice elem),some xd=>if mD xd then .wr fun r h=>sw E h elem (gs r) (gx r) else match wz E elem,Zy E elem,Kt E elem with
     | some size,some bytes,some z=>if z.cells.length=size then .wr fun r h=>acu elem size bytes h (gs r) (gx r) else .bad
     | _,_,_=> .bad
   | _,_=> .bad
 | _,_=> .bad
noncomputable def VZ {β:Type} (l:List (Nat×Operand)) (k:(F.T→List (Nat×AV))→β) (d:β):β:=match l with
 | []=>k fun _=> []
 | (i,x)::xs=>wO E F n x (fun g=>VZ xs (fun gs=>k fun r=>(i,g r)::gs r) d) d
noncomputable def A0 (fs:List Field):Option (List (Nat×Nat)):=List.rec (motive:=fun _=>Option (List (Nat×Nat))) (some []) (fun f _ ih=>ob none (fun n=>ob none (fun l=>some ((f.offset,n)::l)) ih) (wz E f.type)) fs
noncomputable def IZ (ps:List (Nat×Nat)) (cs:List AV) (l:List (Nat×AV)):Option (List AV):=
 List.rec (motive:=fun _=>List AV→Option (List AV)) (fun cs=>some cs) (fun p _ ih cs=>ob none (fun (q:Nat×Nat)=>bc (Nat.beq (jt (lQ p.2)) q.2) (bc (Nat.ble (Nat.add q.1 q.2) (jt cs)) (ih (IP (lQ p.2) cs q.1)) none) none) (ju ps p.1)) l cs
noncomputable def Zz (z:List AV) (m:Nat):List AV:=Nat.rec (motive:=fun _=>List AV) [] (fun _ ih=>lK z ih) m
noncomputable def V0 (elem:TypeId) (bytes:Nat) (z:List AV) (l c:AV):Option (aX×(Nat→AV)):=
 oM (fun _ len=>oM (fun _ cap=>lq (fun len=>lq (fun cap=>bc (Nat.ble len cap) (bc (Nat.ble 1073741824 cap) none (bc (Nat.ble (Nat.mul bytes cap) 140737488355328)
  (some (.cells (Zz z cap) elem false,fun i=> .slice i 0 len cap false)) none)) none) none cap) none len) none c) none l
noncomputable def findF (k:List UInt8) (l:List h_):Option (Option AV):=List.rec (motive:=fun _=>Option (Option AV)) (some none) (fun e _ ih=>rf (fun s=>bc (leq By k s) (some (some e.val)) ih) none e.key) l
noncomputable def V1 {R:Type} (f:List h_→R) (d:R) (o:aX):R:=
 aX.rec (motive:=fun _=>R) (fun _ _ _=>d) (fun es _=>f es) (fun _ _=>d) (fun _ _ _ _=>d) (fun _ _ _ _ _ _ _=>d) d o
noncomputable def acv {R:Type} (e:R) (f:Nat→R) (d:R) (v:AV):R:=
 AV.rec (motive_1:=fun _=>R) (motive_2:=fun _=>Unit) (fun _=>d) (fun _ _=>d) (fun _=>d) d (fun _ _=>d) d (fun _ _ _ _ _=>d) e (fun i=>f i) (fun _ _ _ _ _=>d) (fun _=>d) d (fun _ _ _=>d) d (fun _ _=>d) (fun _ _=>d) d d () (fun _ _ _ _=>()) v
noncomputable def M4 (h:aA) (m:AV):Option AV:=
 acv (some (.int .i64 (Int.ofNat 0))) (fun i=>ob none (fun o=>V1 (fun es=>some (.int .i64 (Int.ofNat (jt es)))) none o) (h.get i)) none m
noncomputable def M5 (z:AV) (ok:Bool) (h:aA) (m k:AV):Option AV:=
 rf (fun s=>ob none (fun es=>ob none (fun r=>some (ob (bc ok (.tuple [z,.bool false]) z) (fun v=>bc ok (.tuple [v,.bool true]) v) r)) (findF s es))
  (acv (some []) (fun i=>ob none (fun o=>V1 (fun es=>some es) none o) (h.get i)) none m)) none k
noncomputable def nf (o:jB):yE:=jB.rec (motive:=fun _=>yE) .val .panic .fail o
noncomputable def I0 (t:TypeId) (name:String):Option FuncId:=wB E t name
noncomputable def X0 (c:Call) (op:Op):Kd F.T:=match c.callee with
 | .invoke x name=>wO E F n x (fun gx=>wL E F n c.args.toList (fun gs=> .uE fun call r h _=>rh
  (fun t v=>ob (.fail "" none) (fun f=>nf (call (.fn f) (v::gs r) h)) (I0 E t name)) (.fail "" none) (gx r)) .bad) .bad
 | .value (.func f)=>wL E F n c.args.toList (fun gs=>match E.mT f with
   | some e=> .gS fun r=>e (gs r)
   | none=>match E.jd f with
     | some g=> .wr fun r h=>g (gs r) h
     | none=> .call (.fn f) gs) .bad
 | .value x=>wO E F n x (fun gf=>wL E F n c.args.toList (fun gs=> .uE fun call r h _=>MZ
  (fun g first captured=>ob (nf (call (.fn g) (lK first (lK (gs r) captured)) h)) (fun sp=>ob (.fail "" none) (fun p=> .val p.1 p.2) (sp (lK first (lK (gs r) captured)) h)) (E.jd g))
  (fun l=>nf (call (.ua l) (gs r) h)) (.fail "" none) (gf r)) .bad) .bad
 | .builtin .len=>match ju c.argTypes.toList 0,c.args.toList with
   | some t,[x]=>wO E F n x (fun g=>match kl E.P t with
     | some .string=> .gS fun r=>rf (fun s=>some (.int .i64 (Int.ofNat (jt s)))) none (g r)
     | some (.array m _)=> .gS fun _=>some (.int .i64 (Int.ofNat m))
     | some (.slice _)=> .gS fun r=>jQ (some (.int .i64 (Int.ofNat 0))) (fun _ _ m _ _=>some (.int .i64 (Int.ofNat m))) (vZ (some (.int .i64 (Int.ofNat 0))) none (g r)) (g r)
     | some (.map _ _)=> .red fun r h=>M4 h (g r)
     | _=> .bad) .bad
   | _,_=> .bad
 | .builtin .cap=>match ju c.argTypes.toList 0,c.args.toList with
   | some t,[x]=>wO E F n x (fun g=>match kl E.P t with
     | some (.slice _)=> .gS fun r=>jQ (some (.int .i64 (Int.ofNat 0))) (fun _ _ _ c b=>bc b none (some (.int .i64 (Int.ofNat c)))) none (g r)
     | _=> .bad) .bad
   | _,_=> .bad
 | .builtin .max=> .gS fun r=>bE E (fi F n r) op
 | .builtin .min=> .gS fun r=>bE E (fi F n r) op
 | .builtin .append=>match c.args.toList with
   | [s,x]=>wO E F n s (fun gs=>wO E F n x (fun gx=>O3 E c.argTypes gs gx) .bad) .bad
   | _=> .bad
 | .builtin .copy=>match c.args.toList with
   | [s,x]=>wO E F n s (fun gs=>wO E F n x (fun gx=> .wr fun r h=>u_ E h c.argTypes (gs r) (gx r)) .bad) .bad
   | _=> .bad
 | .builtin .recover=> .uE fun _ _ h rc=>match rc with
   | .ir x=> .rW x
   | .sm _=> .fail "" none
   | _=> .val .nilIface h
 | _=> .bad
noncomputable def M6 (src dst:TypeId) (g:T→AV):Kd T:=match kl E.P src,kl E.P dst with
 | some (.int _),some (.int k)=> .gS fun r=>oM (fun _ n=>some (.int k (vd k n))) none (g r)
 | some .string,some .string=> .gS fun r=>rf (fun s=>some (.str s)) none (g r)
 | some (.slice e),some .string=>match kl E.P e with
   | some (.int .u8)=> .red fun r h=>jQ (some (.str [])) (fun i o len _ _=>ob none (fun l=>some (.str l)) (FG h i o len)) none (g r)
   | _=> .bad
 | some .string,some (.slice _)=> .wr fun r h=>Ee E h src dst (some (g r))
 | _,_=> .bad
noncomputable def ve (op:Op):Kd F.T:=match op with
 | .move x=>wO E F n x .H2 .bad
 | .assign x=>wO E F n x .H2 .bad
 | .pick c a b=>wO E F n c (fun gc=>wO E F n a (fun ga=>wO E F n b (fun gb=> .gS fun r=>jP (fun t=>bc t (some (ga r)) (some (gb r))) none (gc r)) .bad) .bad) .bad
 | .binOp op t x y _=>wO E F n x (fun gx=>wO E F n y (fun gy=>cy op (ks E op t (isConst x) (isConst y)) gx gy) .bad) .bad
 | .unOp op _ x=>wO E F n x (unK op) .bad
 | .fieldAddr s x f=>match fiF E s f with
   | some fd=>match wz E fd.type with
     | some (_+1)=>wO E F n x (fun g=> .gS fun r=>yS (fun i o=>some (.ptr i (Nat.add o fd.offset))) none (g r)) .bad
     | _=> .bad
   | none=> .bad
 | .load t a=>wO E F n a (fun g=>xa E t fun p=> .red fun r h=>IY p h (g r)) .bad
 | .store t a x=>match wz E t with
   | some m=>wO E F n a (fun ga=>wO E F n x (fun gx=> .wr fun r h=>BF m h (ga r) (gx r)) .bad) .bad
   | none=> .bad
 | .nilCheck x=>wO E F n x (fun g=> .gS fun r=>bc (Ge (g r)) (some (g r)) none) .bad
 | .extract x i=>wO E F n x (fun g=> .gS fun r=>yT (fun _=>none) (fun vs=>ju vs i) none (g r)) .bad
 | .field s x f=>match fiF E s f with
   | some fd=>wO E F n x (fun g=>xa E fd.type fun p=> .gS fun r=>yT (fun cs=>p cs fd.offset) (fun _=>none) none (g r)) .bad
   | none=> .bad
 | .indexAddr t x ix=>wO E F n x (fun gx=>wO E F n ix (fun gi=>match kl E.P t with
   | some (.array len elem)=>match wz E elem with
     | some size=> .gS fun r=>yS (fun i o=>Gn len size i o (gi r)) none (gx r)
     | none=> .bad
   | some (.slice elem)=>match wz E elem with
     | some size=> .gS fun r=>jQ none (fun i o len _ _=>Gn len size i o (gi r)) none (gx r)
     | none=> .bad
   | _=> .bad) .bad) .bad
 | .index t x ix=>wO E F n x (fun gx=>wO E F n ix (fun gi=>match kl E.P t with
   | some .string=> .gS fun r=>rf (fun s=>oM (fun _ i=>lq (fun m=>ob none (fun (b:UInt8)=>some (.int .u8 (Int.ofNat b.toNat))) (ju s m)) none i) none (gi r)) none (gx r)
   | _=> .gS fun r=>bE E (fi F n r) op) .bad) .bad
 | .slice t x lo hi none=>wO E F n x (fun gx=>wP E F n lo (fun gl=>wP E F n hi (fun gh=>match kl E.P t with
   | some (.slice elem)=>match wz E elem with
     | some size=> .gS fun r=>slF size (DN gl r) (DN gh r) (gx r)
     | none=> .bad
   | some .string=> .gS fun r=>slS (DN gl r) (DN gh r) (gx r)
   | some (.array m elem)=>match wz E elem with
     | some size=> .gS fun r=>slA m size (DN gl r) (DN gh r) (gx r)
     | none=> .bad
   | _=> .gS fun r=>bE E (fi F n r) op) .bad) .bad) .bad
 | .convert src dst x=>wO E F n x (M6 E src dst) .bad
 | .makeInterface t x=>match kl E.P t with
   | some (.interface _)=> .bad
   | some _=>wO E F n x (fun g=> .H2 fun r=> .iface t (g r)) .bad
   | none=> .bad
 | .makeFunc (.func f) first captured=>wL E F n first.toList (fun ga=>wL E F n captured.toList (fun gb=> .H2 fun r=> .func f (ga r) (gb r)) .bad) .bad
 | .alloc t=>match Kt E t with
   | some z=> .sA fun _=>some (.cells z.cells t false,fun i=> .ptr i 0)
   | none=> .bad
 | .box t x=>wO E F n x (fun g=> .sA fun r=>some (.cells (lQ (g r)) t false,fun i=> .ptr i 0)) .bad
 | .buildSlice t len parts=>match kl E.P t with
   | some (.slice elem)=>match wz E elem,Kt E elem with
     | some m,some z=>if z.cells.length=m∧len*m≤2^24 then VZ E F n parts.toList (fun gp=> .sA fun r=>ob none (fun cs=>some (.cells cs elem false,fun i=> .slice i 0 len len false)) (rV (fun i=>some (i*m,m)) (gA z.cells len) (gp r))) .bad else .bad
     | _,_=> .bad
   | _=> .bad
 | .makeSlice t l c=>wO E F n l (fun gl=>wO E F n c (fun gc=>match kl E.P t with
   | some (.slice elem)=>match wz E elem,Zy E elem,Kt E elem with
     | some m,some bytes,some z=>if z.cells.length=m then .sA fun r=>V0 elem bytes z.cells (gl r) (gc r) else .bad
     | _,_,_=> .bad
   | _=> .bad) .bad) .bad
 | .makeMap _ none=> .sA fun _=>some (.map [] 0,fun i=> .map i)
 | .makeMap .. | .range .. => .sA fun r=>eB E (fi F n r) op
 | .lookup t x ix ok=>wO E F n x (fun gx=>wO E F n ix (fun gi=>match kl E.P t with
   | some (.map key elem)=>match kl E.P key,Kt E elem with
     | some .string,some z=> .red fun r h=>M5 z ok h (gx r) (gi r)
     | _,_=> .red fun r h=>dW E (fi F n r) h op
   | _=> .bad) .bad) .bad
 | .build t parts=>match Kt E t,kl E.P t with
   | some z,some (.struct fs)=>match A0 E fs.toList with
     | some ps=>VZ E F n parts.toList (fun gp=> .gS fun r=>ob none (fun cs=>some (.agg cs)) (IZ ps (lQ z) (gp r))) .bad
     | none=> .bad
   | _,_=> .gS fun r=>bE E (fi F n r) op
 | .slice .. | .typeAssert .. => .gS fun r=>bE E (fi F n r) op
 | .mapUpdate t m k x=>wO E F n m (fun gm=>wO E F n k (fun gk=>wO E F n x (fun gx=> .wr fun r h=>ob none (fun h'=>some (AV.undef,h')) (eK E h t (gm r) (gk r) (gx r))) .bad) .bad) .bad
 | .insert t m k x=>wO E F n m (fun gm=>wO E F n k (fun gk=>wO E F n x (fun gx=> .wr fun r h=>ob none (fun h'=>some (AV.undef,h')) (eK E h t (gm r) (gk r) (gx r))) .bad) .bad) .bad
 | .next it s=>wO E F n it (fun g=> .wr fun r h=>Ed h (g r) s) .bad
 | .panic x=>wO E F n x (fun g=> .uE fun _ r h _=>rh (fun t w=> .panic (.iface t w) h) (.fail "" none) (g r)) .bad
 | .defer c=> .uE fun _ r _ rc=>match rc,callee E (fi F n r) c with
   | .sm _,_=> .fail "" none
   | _,some (.fn f,args)=> .defer (.call f args)
   | _,_=> .fail "" none
 | .call c=>X0 E F n c op
 | _=> .bad
noncomputable def Le (kd:Kd T) (s:AV→T→T) (j:I T):I T:=match kd with
 | .H2 g=>⟨fun call r h y=>j.run call (s (g r) r) h y⟩
 | .gS f=>⟨fun call r h y=>ob .bad (fun v=>j.run call (s v r) h y) (f r)⟩
 | .red f=>⟨fun call r h y=>ob .bad (fun v=>j.run call (s v r) h y) (f r h)⟩
 | .sA f=>⟨fun call r h y=>ob .bad (fun p=>ob .bad (fun h'=>j.run call (s (p.2 h.nx) r) h' y) (h.new p.1)) (f r)⟩
 | .wr f=>⟨fun call r h y=>ob .bad (fun p=>j.run call (s p.1 r) p.2 y) (f r h)⟩
 | .call g args=>⟨fun call r h y=>jB.rec (motive:=fun _=>FO T) (fun v h'=>j.run call (s v r) h' y) (fun v h'=> .jmp (.panic v) r h' y) (fun _ _=> .bad) (call g (args r) h)⟩
 | .uE f=>⟨fun call r h y=>yE.rec (motive:=fun _=>FO T) (fun v h'=>j.run call (s v r) h' y) (fun d=>j.run call (s AV.undef r) h ⟨d::y.ds,y.rc⟩) (fun v=>j.run call (s v r) h ⟨y.ds,.done⟩)
  (fun v h'=> .jmp (.panic v) r h' y) (fun _ _=> .bad) (f call r h y.rc)⟩
 | .bad=>⟨fun _ _ _ _=> .bad⟩
noncomputable def X1 (s:AV→T→T) (j:I T):I T:=⟨fun call r h y=>j.run call (s AV.undef r) h y⟩
noncomputable def Lf (g:T→AV) (want:Bool) (a b:I T):I T:=match want with
 | true=>⟨fun call r h y=>jP (fun t=>bc t (a.run call r h y) (b.run call r h y)) (b.run call r h y) (g r)⟩
 | false=>⟨fun call r h y=>jP (fun t=>bc t (b.run call r h y) (a.run call r h y)) (b.run call r h y) (g r)⟩
noncomputable def M7 (ops:Array Oper) (o:Oper) (a b:I F.T):I F.T:=match o.guard with
 | none=>a
 | some (j,want)=>match ob none (fun p=>p.dst) (ju ops.toList j) with
   | some d=>bc (Nat.ble n d) b (wA (F.get d) fun g=>Lf g want a b)
   | none=>b
noncomputable def RA (ops:Array Oper) (o:Oper) (j:I F.T):I F.T:=wS F n o.dst fun s=>M7 F n ops o (Le (ve E F n o.op) s j) (X1 s j)
noncomputable def ur (ops:Array Oper) (l:List Oper):I F.T:=List.rec (motive:=fun _=>I F.T) ⟨fun _ r h y=> .IX r h y⟩ (fun o _ j=>RA E F n ops o j) l
noncomputable def acw (yZ:AV→AV→Bool) (x y:AV):Bool:=
 oM (fun k a=>oM (fun j b=>bc (Rl k j) (XW a b) false) false y)
  (rf (fun s=>rf (fun t=>leq By s t) false y)
   (yS (fun i o=>yS (fun j p=>bc (Nat.beq i j) (Nat.beq o p) false) false y)
    (jP (fun a=>jP (fun b=>bc a b (vH b)) false y) (yZ x y) x) x) x) x
noncomputable def BG (m:Nat):AV→AV→Bool:=Nat.rec (motive:=fun _=>AV→AV→Bool) (fun _ _=>false)
 (fun i ih x y=>acw (fun x y=>yT (fun a=>yT (fun b=>leq ih a b) (fun _=>false) false y) (fun _=>AV.same (i+1) x y) (AV.same (i+1) x y) x) x y) m
structure O4 where
 k:Nat
 m:Nat
 made:Option Nat
 f:aA→Bool
inductive DO (T:Type) where
 | ok (tr:List O4) (hs:List aA) (r:T) (h:aA) (y:Y)
 | bad
structure D (T:Type) where
 run:bh→T→aA→Y→DO T
noncomputable def EA (x:O4) (d:DO T):DO T:=DO.rec (motive:=fun _=>DO T) (fun tr hs r h y=> .ok (x::tr) hs r h y) .bad d
noncomputable def rj (h0:aA) (d:DO T):DO T:=DO.rec (motive:=fun _=>DO T) (fun tr hs r h y=> .ok tr (h0::hs) r h y) .bad d
noncomputable def M8 (kd:Kd T) (s:AV→T→T) (j:D T):D T:=match kd with
 | .wr f=>⟨fun call r h y=>ob .bad (fun p=>rj h (j.run call (s p.1 r) p.2 y)) (f r h)⟩
 | .call g args=>⟨fun call r h y=>jB.rec (motive:=fun _=>DO T) (fun v h'=>rj h (j.run call (s v r) h' y)) (fun _ _=> .bad) (fun _ _=> .bad) (call g (args r) h)⟩
 | .uE f=>⟨fun call r h y=>yE.rec (motive:=fun _=>DO T) (fun v h'=>rj h (j.run call (s v r) h' y)) (fun _=> .bad) (fun _=> .bad) (fun _ _=> .bad) (fun _ _=> .bad) (f call r h y.rc)⟩
 | _=>⟨fun _ _ _ _=> .bad⟩
noncomputable def M9 (k m:Nat) (kd:Kd T) (s:AV→T→T) (j:D T):D T:=match kd with
 | .H2 g=>⟨fun call r h y=>j.run call (s (g r) r) h y⟩
 | .gS f=>⟨fun call r h y=>ob .bad (fun v=>j.run call (s v r) h y) (f r)⟩
 | .red f=>⟨fun call r h y=>ob .bad (fun v=>EA ⟨k,m,none,fun h'=>ob false (fun v'=>BG 20 v' v) (f r h')⟩ (j.run call (s v r) h y)) (f r h)⟩
 | .sA f=>⟨fun call r h y=>ob .bad (fun p=>ob .bad (fun h'=>EA ⟨k,m,some h.nx,fun M_=>ob false (fun o=>aX.same o p.1) (M_.get h.nx)⟩ (j.run call (s (p.2 h.nx) r) h' y)) (h.new p.1)) (f r)⟩
 | _=>⟨fun _ _ _ _=> .bad⟩
noncomputable def RB (s:AV→T→T) (j:D T):D T:=⟨fun call r h y=>j.run call (s AV.undef r) h y⟩
noncomputable def Lg (s:AV→T→T) (j:D T):D T:=⟨fun call r h y=>rj h (j.run call (s AV.undef r) h y)⟩
noncomputable def RD (g:T→AV) (want:Bool) (a b:D T):D T:=match want with
 | true=>⟨fun call r h y=>jP (fun t=>bc t (a.run call r h y) (b.run call r h y)) (b.run call r h y) (g r)⟩
 | false=>⟨fun call r h y=>jP (fun t=>bc t (b.run call r h y) (a.run call r h y)) (b.run call r h y) (g r)⟩
noncomputable def zL (ops:Array Oper) (o:Oper) (a b:D F.T):D F.T:=match o.guard with
 | none=>a
 | some (j,want)=>match ob none (fun p=>p.dst) (ju ops.toList j) with
   | some d=>bc (Nat.ble n d) b (wA (F.get d) fun g=>RD g want a b)
   | none=>b
noncomputable def jG (ops:Array Oper) (pl:mE) (l:List Nat):Nat→D F.T:=List.rec (motive:=fun _=>Nat→D F.T) (fun _=>⟨fun _ r h y=> .ok [] [h] r h y⟩)
 (fun i _ ih k=>ob ⟨fun _ _ _ _=> .bad⟩ (fun o=>wS F n o.dst fun s=>
  bc (qj E o.op) (canon (Nat.add k 1) fun k'=>zL F n ops o (M8 (ve E F n o.op) s (ih k')) (Lg s (ih k')))
   (canon (Nat.sub (Nat.add (AZ pl.bM pl.an i) 1) k) fun m=>zL F n ops o (M9 k m (ve E F n o.op) s (ih k)) (RB s (ih k)))) (ju ops.toList i)) l
noncomputable def M' (tr:List O4):List Nat:=List.rec (motive:=fun _=>List Nat) [] (fun x _ ih=>ob ih (fun i=>i::ih) x.made) tr
noncomputable def rk (tr:List O4) (hs:List aA):Bool:=bc (Gm (M' tr)) (yV (fun x=>yV x.f (sQ (sP hs x.k) x.m)) tr) false
noncomputable def V2 (ops:Array Oper) (pl:mE) (call:bh) (r:F.T) (h:aA) (y:Y):FO F.T:=match pl.order.reverse with
 | []=> .bad
 | i::front=>match (jG E F n ops pl front.reverse 0).run call r h y,ops[i]? with
   | .ok tr hs r1 h1 y1,some ⟨dst,.call c,ty,pos,after,guard⟩=>
     match fI E (.call c)&&cD ops (fi F n r1) ⟨dst,.call c,ty,pos,after,guard⟩&&(List.range ops.size).all (fun j=>j==i||dI pl.an i j),
      dm E call (fi F n r1) h1 y1.rc ⟨dst,.call c,ty,pos,after,guard⟩ with
     | true,.panic v h'=>match rk tr (hs++[h']) with
       | true=> .jmp (.panic v) r1 h' y1
       | false=> .bad
     | _,_=> .bad
   | _,_=> .bad
noncomputable def Na (ops:Array Oper):I F.T:=Ru E ops (fun pl=>
 ⟨fun call r h y=>DO.rec (motive:=fun _=>FO F.T) (fun tr hs r' h' y'=>bc (rk tr hs) (.IX r' h' y') .bad) (V2 E F n ops pl call r h y) ((jG E F n ops pl pl.order 0).run call r h y)⟩) ⟨fun _ _ _ _=> .bad⟩
def X2 (r:T) (o:Out):FO T:=match o with
 | .ok .normal s=> .IX r s.h ⟨s.ds,s.rc⟩
 | .ok e s=> .jmp e r s.h ⟨s.ds,s.rc⟩
 | .fail _ _=> .bad
noncomputable def Gq (f:Operand) (ps:Array Tmp) (as_ bd:Code):I F.T:=
 wO E F n f (fun _=>⟨fun call r h y=>X2 r (lN E call f ps as_ bd ⟨fi F n r,h,y.ds,y.rc⟩)⟩) ⟨fun _ _ _ _=> .bad⟩
noncomputable def nS {R:Type} (d:R) (k:Nat→R) (m:Nat):R:=Nat.rec (motive:=fun _=>R) d (fun i _=>k i) m
noncomputable def fo {R:Type} (a:T→aA→Y→R) (b:iB→T→aA→Y→R) (d:R) (o:FO T):R:=FO.rec (motive:=fun _=>R) a b d o
noncomputable def RE {R:Type} (f:Nat→R) (d:R) (e:iB):R:=iB.rec (motive:=fun _=>R) d f d (fun _=>d) e
noncomputable def RG (b:C T) (m:Nat):bh→T→aA→Y→FO T:=
 Nat.rec (motive:=fun _=>bh→T→aA→Y→FO T) (fun _ _ _ _=> .bad) (fun i ih call r h y=>fo (fun r' h' y'=>ih call r' h' y') .jmp .bad (b.run i call r h y)) m
noncomputable def V3 (i:I T):C T:=⟨fun m call r h y=>nS .bad (fun _=>i.run call r h y) m⟩
noncomputable def ng (c:Code):C F.T:=Code.rec (motive:=fun _=>C F.T)
 ⟨fun m _ r h y=>nS .bad (fun _=> .IX r h y) m⟩
 (fun _ ops draw=>bc draw (V3 (Na E F n ops)) (V3 (ur E F n ops ops.toList)))
 (fun _ _ a b=>⟨fun m call r h y=>nS .bad (fun i=>fo (fun r' h' y'=>b.run i call r' h' y') .jmp .bad (a.run i call r h y)) m⟩)
 (fun x _ _ a b=>wO E F n x (fun g=>⟨fun m call r h y=>nS .bad (fun i=>jP (fun t=>bc t (a.run i call r h y) (b.run i call r h y)) .bad (g r)) m⟩) ⟨fun _ _ _ _ _=> .bad⟩)
 (fun id _ b=>⟨fun m call r h y=>nS .bad (fun i=>fo .IX (fun e r' h' y'=>RE (fun j=>bc (Nat.beq j id) (.IX r' h' y') (.jmp e r' h' y')) (.jmp e r' h' y') e) .bad (b.run i call r h y)) m⟩)
 (fun _ b=>⟨fun m call r h y=>RG b m call r h y⟩)
 (fun f ps as_ bd _ _=>V3 (Gq E F n f ps as_ bd))
 (fun id=>⟨fun m _ r h y=>nS .bad (fun _=> .jmp (.exit id) r h y) m⟩)
 (fun _ b=>⟨fun m call r h y=>nS .bad (fun i=>b.run i call r h y) m⟩)
 (fun _=>⟨fun m _ r h y=>nS .bad (fun _=> .IX r h y) m⟩)
 (fun _=>⟨fun _ _ _ _ _=> .bad⟩)
 ⟨fun m _ r h y=>nS .bad (fun _=> .jmp .ret r h y) m⟩
 (fun _=>⟨fun _ _ _ _ _=> .bad⟩) c
end
section
variable (E:Env)
inductive BO where
 | fin (res:aA→Option (List AV)) (h:aA) (y:Y)
 | pan (v:AV) (res:aA→Option (List AV)) (h:aA) (y:Y)
 | bad
structure CF where
 run:Nat→bh→List AV→aA→RC→BO
noncomputable def za (F:RF) (n:Nat):List ResultVar→W (F.T→aA→Option (List AV))
 | []=>⟨fun _ _=>some []⟩
 | .tmp t::rest=>wT F n t fun g=>wW (za F n rest) fun k=>⟨fun r h=>ob none (fun vs=>some (g r::vs)) (k r h)⟩
 | .cell a t::rest=>wT F n a fun g=>wW (za F n rest) fun k=>⟨fun r h=>ob none (fun v=>ob none (fun vs=>some (v::vs)) (k r h)) (bk E h t (g r))⟩
noncomputable def RH (F:RF) (n:Nat) (fn:Func) (b:Code):CF:=
 wW (za E F n fn.results.toList) fun res=>⟨fun fuel call args h rc=>bc (Nat.ble (jt args) n)
  (fo (fun r h' y=> .fin (res r) h' y) (fun e r h' y=>iB.rec (motive:=fun _=>BO) .bad (fun _=> .bad) (.fin (res r) h' y) (fun v=> .pan v (res r) h' y) e) .bad
   ((ng E F n b).run fuel call (Qm F args F.z 0) h ⟨[],rc⟩)) .bad⟩
noncomputable def zM (f:FuncId):CF:=match Zu E.P f with
 | none=>⟨fun _ _ _ _ _=> .bad⟩
 | some fn=>match fn.body with
   | none=>⟨fun _ _ _ _ _=> .bad⟩
   | some b=>bc (Nat.ble fn.ntmps 64) (RH E rf2 fn.ntmps fn b) (bc (Nat.ble fn.ntmps 512) (RH E rf3 fn.ntmps fn b) ⟨fun _ _ _ _ _=> .bad⟩)
noncomputable def bo {R:Type} (a:(aA→Option (List AV))→aA→Y→R) (b:AV→(aA→Option (List AV))→aA→Y→R) (d:R) (o:BO):R:=BO.rec (motive:=fun _=>R) a b d o
noncomputable def Nb (F:RF) (call:bh) (fuel:Nat) (c:Code) (s:St):Out:=
 fo (fun r h y=> .ok .normal ⟨fi F s.ts.length r,h,y.ds,y.rc⟩) (fun e r h y=> .ok e ⟨fi F s.ts.length r,h,y.ds,y.rc⟩) (.fail "" none) ((ng E F s.ts.length c).run fuel call (Qm F s.ts F.z 0) s.h ⟨s.ds,s.rc⟩)
noncomputable def Nc (call:bh) (fuel:Nat) (c:Code) (s:St):Out:=
 bc (Nat.ble s.ts.length 64) (Nb E rf2 call fuel c s) (bc (Nat.ble s.ts.length 512) (Nb E rf3 call fuel c s) (.fail "" none))
noncomputable def BH (call:bh) (fuel:Nat) (l:Nat) (args:List AV) (h:aA):jB:=match h.get l with
 | some (.loop _ _ ts ps as_ bd _)=>if args.length=ps.length then
  match Nc E call fuel as_ {ts:=(ps.zip args).foldl (fun ts x=>ts.set x.1 x.2) ts,h,ds:=[],rc:= .sm l} with
  | .ok .normal s1=>match s1.h.get l with
    | some (.loop .ready pd UW QB P9 UX UY)=>
      match Nc E call fuel bd {s1 with h:=s1.h.put l (some (.loop .busy pd UW QB P9 UX UY))} with
      | .ok .normal s2=>Av l none s2
      | .ok .ret s2=>Av l (some .ret) s2
      | .ok (.exit id) s2=>Av l (some (.exit id)) s2
      | .ok (.panic v) s2=>if s2.ds.isEmpty then .panic v s2.h else .fail "round defers" none
      | .fail why q=> .fail why q
    | _=> .fail "round state" none
  | .ok _ _=> .fail "round assign" none
  | .fail why q=> .fail why q
   else .fail "round args" none
 | _=> .fail "round" none
noncomputable def iG (call:bh) (fuel:Nat) (g:FuncId) (as_:List AV) (h:aA) (rc:RC):Option (aA×RC):=
 bo (fun res h' y=>bc y.ds.isEmpty (ob none (fun _=>some (h',y.rc)) (res h')) none) (fun _ _ _ _=>none) none ((zM E g).run fuel call as_ h rc)
noncomputable def I1 (call:bh) (fuel:Nat) (p:Option AV) (res:aA→Option (List AV)) (h:aA) (ds:List oB):jB:=match cN (iG E call fuel) ds p h with
 | none=> .fail "unwind" none
 | some (some v,h')=> .panic v h'
 | some (none,h')=>ob (.fail "results" none) (fun vs=> .ret (fR vs) h') (res h')
noncomputable def fFn {R:Type} (a:FuncId→R) (b:Nat→R) (f:Fn):R:=Fn.rec (motive:=fun _=>R) a b f
noncomputable def I2 {α R:Type} (a b:R) (l:List α):R:=List.rec (motive:=fun _=>R) a (fun _ _ _=>b) l
noncomputable def acx (fuel:Nat) (call:bh) (g:Fn) (args:List AV) (h:aA):jB:=
 fFn (fun f=>bo (fun res h' y=>I2 (ob (.fail "results" none) (fun vs=> .ret (fR vs) h') (res h')) (I1 E call fuel none res h' y.ds) y.ds)
  (fun v res h' y=>I2 (.panic v h') (I1 E call fuel (some v) res h' y.ds) y.ds) (.fail "body" none) ((zM E f).run fuel call args h .no))
  (fun l=>BH E call fuel l args h) g
noncomputable def zN (d fuel:Nat):bh:=Nat.rec (motive:=fun _=>bh) (fun _ _ _=> .fail "depth" none) (fun _ ih=>acx E fuel ih) d
end
end Go.Ab.Fa
end
section
namespace Go.Ab.Fa
theorem V4 {α R:Type} {d:R} {f:α→R} {a:α}:ob d f (some a)=f a:=rfl
theorem jH {R:Type} (x y:R):bc true x y=x:=rfl
theorem dY {R:Type} (x y:R):bc false x y=y:=rfl
theorem gN {α β:Type} {f:α→Option β} {o:Option α} {v:β} (h:ob none f o=some v):∃a,o=some a∧f a=some v:=by
 cases o with
 | none=>exact absurd h (by intro e;cases e)
 | some a=>exact ⟨a,rfl,h⟩
theorem fM {β:Type} {b:Bool} {x:Option β} {v:β} (h:bc b x none=some v):b=true∧x=some v:=by
 cases b with
 | false=>cases h
 | true=>exact ⟨rfl,h⟩
theorem rl {β:Type} {b:Bool} {x:Option β} {v:β} (h:bc b none x=some v):b=false∧x=some v:=by
 cases b with
 | false=>exact ⟨rfl,h⟩
 | true=>cases h
theorem EB {β:Type} {f:Bool→Option β} {a:AV} {v:β} (h:jP f none a=some v):∃b,a= .bool b∧f b=some v:=by
 cases a with
 | bool b=>exact ⟨b,rfl,h⟩
 | _=>exact absurd h (by intro e;cases e)
theorem jR {β:Type} {f:IntKind→Int→Option β} {a:AV} {v:β} (h:oM f none a=some v):∃k n,a= .int k n∧f k n=some v:=by
 cases a with
 | int k n=>exact ⟨k,n,rfl,h⟩
 | _=>exact absurd h (by intro e;cases e)
theorem oP {β:Type} {f:List UInt8→Option β} {a:AV} {v:β} (h:rf f none a=some v):∃s,a= .str s∧f s=some v:=by
 cases a with
 | str s=>exact ⟨s,rfl,h⟩
 | _=>exact absurd h (by intro e;cases e)
theorem sW {β:Type} {f:Nat→Nat→Option β} {a:AV} {v:β} (h:yS f none a=some v):∃i o,a= .ptr i o∧f i o=some v:=by
 cases a with
 | ptr i o=>exact ⟨i,o,rfl,h⟩
 | _=>exact absurd h (by intro e;cases e)
theorem oQ {β:Type} {e:Option β} {f:Nat→Nat→Nat→Nat→Bool→Option β} {a:AV} {v:β} (h:jQ e f none a=some v):
 (a= .aP∧e=some v)∨∃i o l c b,a= .slice i o l c b∧f i o l c b=some v:=by
 cases a with
 | aP=>exact .inl ⟨rfl,h⟩
 | slice i o l c b=>exact .inr ⟨i,o,l,c,b,rfl,h⟩
 | _=>exact absurd h (by intro e;cases e)
theorem I3 {β:Type} {e z:Option β} {f:Nat→Nat→Nat→Nat→Bool→Option β} {a:AV} {v:β} (h:jQ e f (vZ z none a) a=some v):
 (a= .aP∧e=some v)∨(∃i o l c b,a= .slice i o l c b∧f i o l c b=some v)∨(a= .ff∧z=some v):=by
 cases a with
 | aP=>exact .inl ⟨rfl,h⟩
 | slice i o l c b=>exact .inr (.inl ⟨i,o,l,c,b,rfl,h⟩)
 | ff=>exact .inr (.inr ⟨rfl,h⟩)
 | _=>exact absurd h (by intro e;cases e)
theorem oR {β:Type} {f:Nat→Option β} {n:Int} {v:β} (h:lq f none n=some v):∃m:Nat,n=(m:Int)∧f m=some v:=by
 cases n with
 | ofNat m=>exact ⟨m,rfl,h⟩
 | negSucc m=>cases h
theorem rm {β:Type} {f:List AV→TypeId→Bool→Option β} {o:aX} {v:β} (h:yU f none o=some v):∃cs e ro,o= .cells cs e ro∧f cs e ro=some v:=by
 cases o with
 | cells cs e ro=>exact ⟨cs,e,ro,rfl,h⟩
 | _=>exact absurd h (by intro e;cases e)
theorem fN {a b:Nat} (h:Nat.ble a b=true):a≤b:=Nat.le_of_ble_eq_true h
theorem kD {a b:Nat} (h:Nat.ble a b=false):b<a:=by
 apply Decidable.byContradiction;intro hn
 rw[Nat.ble_eq_true_of_le (by omega)] at h;cases h
theorem mG {a b:Nat} (h:Nat.beq a b=true):a=b:=Nat.eq_of_beq_eq_true h
theorem Nd {k j:IntKind} (h:Rl k j=true):k=j:=by
 cases k<;>cases j<;>first | rfl | exact absurd h (by intro e;cases e)
theorem xe (b:Bool):vH b= !b:=by cases b<;>rfl
theorem RI {k:IntKind} (h:XV k=false) (n:Int):k.wrap n=n%(uI k:Int):=by
 cases k<;>first | (cases h;done) | simp [IntKind.wrap,IntKind.bits,IntKind.signed,uI,Zs]
theorem RJ {k:IntKind} (h:XV k=true) {m:Nat} (hm:m<uI k):k.wrap (Int.negSucc m)=Int.negSucc m:=by
 have hb:(2^(k.bits - 1):Int)=(uI k:Int)∧(2^k.bits:Int)=2*(uI k:Int)∧k.signed=true:=by
  cases k<;>first | (cases h;done) | (refine ⟨rfl,rfl,rfl⟩)
 obtain ⟨h1,h2,h3⟩:=hb
 unfold IntKind.wrap
 rw[h1,h2,h3,Int.negSucc_eq]
 generalize uI k=B at *
 have e: -((m:Int)+1)%(2*(B:Int))=2*(B:Int) -(m+1):=by
  rw[←Int.add_emod_right]
  exact Int.emod_eq_of_lt (by omega) (by omega)
 rw[e]
 simp only[Bool.true_and,decide_eq_true_eq]
 rw[if_pos (by omega)]
 omega
theorem oS (k:IntKind) (n:Int):vd k n=k.wrap n:=by
 cases n with
 | ofNat m=>
   show bc (Nat.ble (uI k) m) (bc (XV k) (k.wrap (Int.ofNat m)) (Int.ofNat (Nat.mod m (uI k)))) (Int.ofNat m)=_
   cases h:Nat.ble (uI k) m
   · have h:=kD h
     rw[dY]
     cases k<;>simp [IntKind.wrap,IntKind.bits,IntKind.signed]<;>simp only[uI,Zs] at h<;>omega
   · rw[jH]
     cases hs:XV k
     · rw[dY,RI hs];rfl
     · rw[jH]
 | negSucc m=>
   show bc (XV k) (bc (Nat.ble (uI k) m) (k.wrap (Int.negSucc m)) (Int.negSucc m)) (k.wrap (Int.negSucc m))=_
   cases hs:XV k
   · rw[dY]
   · rw[jH]
     cases h:Nat.ble (uI k) m
     · have h:=kD h
       rw[dY]
       exact (RJ hs h).symm
     · rw[jH]
theorem V5 (a b:Int):OW a b=a+b:=by
 cases a<;>cases b<;>rfl
theorem V6 (a b:Int):OX a b=a - b:=by
 cases a with
 | negSucc x=>rfl
 | ofNat x=>
   cases b with
   | negSucc y=>rfl
   | ofNat y=>
     show bc (Nat.ble y x) (Int.ofNat (x - y)) (Int.negSucc (y - x - 1))=_
     cases h:Nat.ble y x
     · have h:=kD h
       rw[dY,Int.negSucc_eq];simp only[Int.ofNat_eq_natCast];omega
     · have h:=fN h
       rw[jH];simp only[Int.ofNat_eq_natCast];omega
theorem Nf (a b:Int):Ro a b=a*b:=by
 cases a<;>cases b<;>rfl
theorem Lh (a b:Int):XW a b=(a==b):=by
 have:XW a b=decide (a=b):=by
  cases a with
  | ofNat x=>cases b with
    | ofNat y=>
      show Nat.beq x y=_
      rw[←AD]
      by_cases h:x=y
      · subst h;simp
      · rw[show (x==y)=false by simp [h]];symm;apply decide_eq_false;simp only[Int.ofNat_eq_natCast];omega
    | negSucc y=>simp;rfl
  | negSucc x=>cases b with
    | ofNat y=>simp;rfl
    | negSucc y=>
      show Nat.beq x y=_
      rw[←AD]
      by_cases h:x=y
      · subst h;simp
      · simp [h]
 rw[this];rfl
theorem Gr (a b:Int):VP a b=decide (a<b):=by
 cases a with
 | ofNat x=>cases b with
   | ofNat y=>
     show Nat.ble (x+1) y=_
     rw[←uq];simp only[Int.ofNat_eq_natCast];congr 1;apply propext;omega
   | negSucc y=>
     symm;exact decide_eq_false (by rw[Int.negSucc_eq];simp only[Int.ofNat_eq_natCast];omega)
 | negSucc x=>cases b with
   | ofNat y=>
     symm;exact decide_eq_true (by rw[Int.negSucc_eq];simp only[Int.ofNat_eq_natCast];omega)
   | negSucc y=>
     show Nat.ble (y+1) x=_
     rw[←uq];congr 1;apply propext;rw[Int.negSucc_eq,Int.negSucc_eq];omega
theorem BI (a b:Int):(!decide (a<b))=decide (b≤a):=by
 by_cases h:a<b
 · rw[decide_eq_true h,decide_eq_false (by omega)];rfl
 · rw[decide_eq_false h,decide_eq_true (by omega)];rfl
theorem V7 (k:IntKind) {x:Nat} (h:x<uI k):x<2^k.bits:=by
 cases k<;>simp only[uI,Zs,IntKind.bits] at * <;>omega
theorem Ng (k:IntKind) {x:Nat} (h:x<uI k):k.wrap (x:Int)=x:=by
 have:=oS k (Int.ofNat x)
 rw[Int.ofNat_eq_natCast] at this
 rw[←this]
 show bc (Nat.ble (uI k) x) _ (Int.ofNat x)=_
 rw[oD h];rfl
theorem V8 (k:IntKind):∃m,uI k=2^m:=by
 cases k
 · exact ⟨7,rfl⟩
 · exact ⟨15,rfl⟩
 · exact ⟨31,rfl⟩
 · exact ⟨63,rfl⟩
 · exact ⟨8,rfl⟩
 · exact ⟨16,rfl⟩
 · exact ⟨32,rfl⟩
 · exact ⟨64,rfl⟩
theorem toNat_ofInt (k:IntKind) {x:Nat} (h:x<uI k):(BitVec.ofInt k.bits (Int.ofNat x)).toNat=x:=by
 rw[Int.ofNat_eq_natCast,BitVec.ofInt_natCast,BitVec.toNat_ofNat]
 exact Nat.mod_eq_of_lt (V7 k h)
theorem V9 (op:BinOp) (k:IntKind) (a b:Int) {v:AV} (h:VQ op k a b=some v):c_ op k a b=some v:=by
 cases op<;>simp only[VQ] at h<;>try exact h
 · simpa [c_,oS,V5] using h
 · simpa [c_,oS,V6] using h
 · simpa [c_,oS,Nf] using h
 · cases a with
   | negSucc x=>exact h
   | ofNat x=>cases b with
     | negSucc y=>exact h
     | ofNat y=>
       obtain ⟨h1,h2⟩:=rl h
       rw[oS] at h2
       have:y≠0:=by intro e;subst e;cases h1
       rw[←h2];simp [c_,this];exact congrArg k.wrap (Int.natCast_ediv x y).symm
 · cases a with
   | negSucc x=>exact h
   | ofNat x=>cases b with
     | negSucc y=>exact h
     | ofNat y=>
       obtain ⟨h1,h2⟩:=rl h
       have:y≠0:=by intro e;subst e;cases h1
       rw[←h2];simp [c_,this];rfl
 · cases a with
   | negSucc x=>exact h
   | ofNat x=>cases b with
     | negSucc y=>exact h
     | ofNat y=>
       change bc (Nat.ble (uI k) x) _ (bc (Nat.ble (uI k) y) _ _)=_ at h
       cases h1:Nat.ble (uI k) x with
       | true=>rw[h1] at h;exact h
       | false=>cases h2:Nat.ble (uI k) y with
         | true=>rw[h1,h2] at h;exact h
         | false=>
           rw[h1,h2] at h
           have h1:=kD h1;have h2:=kD h2
           rw[←h,dY,dY]
           show some (AV.int k (k.wrap ((BitVec.ofInt k.bits (Int.ofNat x)&&& BitVec.ofInt k.bits (Int.ofNat y)).toNat:Int)))=_
           rw[BitVec.toNat_and,toNat_ofInt k h1,toNat_ofInt k h2,Ng k (Nat.lt_of_le_of_lt Nat.and_le_left h1)]
           rfl
 · cases a with
   | negSucc x=>exact h
   | ofNat x=>cases b with
     | negSucc y=>exact h
     | ofNat y=>
       change bc (Nat.ble (uI k) x) _ (bc (Nat.ble (uI k) y) _ _)=_ at h
       cases h1:Nat.ble (uI k) x with
       | true=>rw[h1] at h;exact h
       | false=>cases h2:Nat.ble (uI k) y with
         | true=>rw[h1,h2] at h;exact h
         | false=>
           rw[h1,h2] at h
           have h1:=kD h1;have h2:=kD h2
           rw[←h,dY,dY]
           show some (AV.int k (k.wrap ((BitVec.ofInt k.bits (Int.ofNat x)||| BitVec.ofInt k.bits (Int.ofNat y)).toNat:Int)))=_
           rw[BitVec.toNat_or,toNat_ofInt k h1,toNat_ofInt k h2,Ng k]
           · rfl
           · obtain ⟨m,hm⟩:=V8 k
             rw[hm] at h1 h2 ⊢
             exact Nat.or_lt_two_pow h1 h2
 · simpa [c_,Lh] using h
 · simpa [c_,Lh,xe,bne] using h
 · simpa [c_,Gr] using h
 · simpa [c_,Gr,xe,BI] using h
 · simpa [c_,Gr] using h
 · simpa [c_,Gr,xe,BI] using h
theorem V_ (op:BinOp) (k:IntKind) (a b:Int):(Rw op).f k a b=VQ op k a b:=by
 cases op<;>rfl
theorem RK (k:IntKind):Rm k=k.bits:=by cases k<;>rfl
theorem Nh (k:IntKind) (y:Nat):Rp k y=min y k.bits:=by
 unfold Rp;rw[RK]
 cases h:Nat.ble k.bits y
 · have:=kD h;rw[dY];omega
 · have:=fN h;rw[jH];omega
theorem V' {k:IntKind} {x y:Int} {v:AV} (h:acq k x y=some v):¬y<0∧v= .int k (k.wrap (x*2^(min y.toNat k.bits))):=by
 obtain ⟨m,rfl,h⟩:=oR h
 refine ⟨by omega,?_⟩
 have h:=Option.some.inj h
 rw[←h,oS,Nf,Nh]
 simp
theorem Wa {k:IntKind} {x y:Int} {v:AV} (h:acr k x y=some v):¬y<0∧v= .int k (x.fdiv (2^(min y.toNat k.bits))):=by
 obtain ⟨m,rfl,h⟩:=oR h
 refine ⟨by omega,?_⟩
 have h:=Option.some.inj h
 rw[←h]
 cases x with
 | negSucc x=>simp [lq]
 | ofNat x=>
   show AV.int k (Int.ofNat (x/2^Rp k m))=_
   rw[Nh]
   simp
   rw[show (2^min m k.bits:Int)=((2^min m k.bits:Nat):Int) by simp]
   exact (Int.fdiv_eq_ediv_of_nonneg _ (Int.natCast_nonneg _)).symm
end Go.Ab.Fa
end
section
namespace Go.Ab.Fa
section
variable {α:Type}
theorem ql (l:List α) (o:Nat):sP l o=l.drop o:=by
 induction l generalizing o with
 | nil=>simp [sP]
 | cons v tl ih=>
   show bc (Nat.beq o 0) (v::tl) (sP tl (o - 1))=_
   rw[ih]
   cases o with
   | zero=>rfl
   | succ o=>simp [show Nat.beq (o+1) 0=false from rfl,dY]
theorem qm (l:List α) (o:Nat):sQ l o=l.take o:=by
 induction l generalizing o with
 | nil=>simp [sQ]
 | cons v tl ih=>
   show bc (Nat.beq o 0) [] (v::sQ tl (o - 1))=_
   rw[ih]
   cases o with
   | zero=>rfl
   | succ o=>simp [show Nat.beq (o+1) 0=false from rfl,dY]
theorem O5 (vs:List α):∀(cs:List α) (k:Nat),(IN vs cs)[k]? =if k<vs.length∧k<cs.length then vs[k]? else cs[k]? :=by
 induction vs with
 | nil=>intro cs k;rw[if_neg (by simp)];rfl
 | cons v vs ih=>
   intro cs k
   cases cs with
   | nil=>rw[if_neg (by simp)];rfl
   | cons c tl=>
     show (v::IN vs tl)[k]? =_
     cases k with
     | zero=>rw[if_pos (by simp)];rfl
     | succ k=>simp only[List.getElem?_cons_succ,ih,List.length_cons,Nat.add_lt_add_iff_right]
theorem RL (vs:List α):∀(cs:List α) (o k:Nat),(IP vs cs o)[k]? =if o≤k∧k<o+vs.length∧k<cs.length then vs[k - o]? else cs[k]? :=by
 intro cs
 induction cs with
 | nil=>intro o k;rw[if_neg (by simp)];rfl
 | cons c tl ih=>
   intro o k
   show (bc (Nat.beq o 0) (IN vs (c::tl)) (c::IP vs tl (o - 1)))[k]? =_
   cases o with
   | zero=>
     show (IN vs (c::tl))[k]? =_
     rw[O5];simp
   | succ o=>
     show (c::IP vs tl o)[k]? =_
     cases k with
     | zero=>rw[if_neg (by omega)];rfl
     | succ k=>
       rw[List.getElem?_cons_succ,ih,List.getElem?_cons_succ,List.length_cons]
       by_cases h:o≤k∧k<o+vs.length∧k<tl.length
       · rw[if_pos h,if_pos (by omega),show k+1 -(o+1)=k - o by omega]
       · rw[if_neg h,if_neg (by omega)]
end
theorem Gs (vs cs:List AV) (o:Nat):IP vs cs o=setFrom cs o vs:=by
 apply List.ext_getElem?;intro k;rw[RL,fX]
theorem Li (l m:List UInt8):leq By l m=(l==m):=by
 have key:∀a b:UInt8,By a b=(a==b):=by
  intro a b
  unfold By
  rw[←AD]
  by_cases h:a=b
  · subst h;simp
  · rw[show (a==b)=false by simp [h]]
    rw[beq_eq_false_iff_ne]
    intro e;apply h
    have:a.toNat=b.toNat:=e
    exact UInt8.toNat_inj.mp this
 induction l generalizing m with
 | nil=>cases m<;>rfl
 | cons x tl ih=>
   cases m with
   | nil=>rfl
   | cons y tm=>
     show bc (By x y) (leq By tl tm) false=_
     rw[ih,key,oO];rfl
theorem Wb (op:BinOp) (a b:List UInt8):(O2 op).f a b=vq op a b:=by
 cases op<;>first | rfl | (simp only[O2,vq,Li,xe])
theorem Wc (v:AV):VS v=AV.scalar v:=by cases v<;>rfl
theorem I4:VS=AV.scalar:=funext Wc
theorem O6 (v:AV):Ge v=true→(match (some v:Option AV) with
 | some (.ptr i o)=>some (.ptr i o)
 | some (.map i)=>some (.map i)
 | some (.slice i o l c b)=>some (.slice i o l c b)
 | some (.func f a b)=>some (.func f a b)
 | _=>none)=some v:=by
 cases v<;>intro h<;>first | rfl | exact absurd h (by intro e;cases e)
theorem I5 {f:TypeId→AV→yE} {why:String} {o:Option Oper} (a:AV):(∃t v,a= .iface t v)∨rh f (.fail why o) a= .fail why o:=by
 cases a with
 | iface t v=>exact .inl ⟨t,v,rfl⟩
 | _=>exact .inr rfl
theorem mH (v:AV):lQ v=v.cells:=by cases v<;>rfl
section
variable (E:Env) (F:RF) (n:Nat)
theorem Gt {β:Type} (i:Nat) (k:(F.T→AV)→β):∃g,wT F n i k=k g∧∀r,(fi F n r).getD i AV.undef=g r:=by
 unfold wT
 cases h:Nat.ble n i
 · refine ⟨(F.get i).f,rfl,fun r=>?_⟩
   rw[IM,if_pos (kD h)]
 · refine ⟨fun _=>AV.undef,rfl,fun r=>?_⟩
   rw[IM,if_neg (by have:=fN h;omega)]
theorem b7 {β:Type} (x:Operand) (k:(F.T→AV)→β) (d:β):wO E F n x k d=d∨∃g,wO E F n x k d=k g∧∀r,eA E (fi F n r) x=some (g r):=by
 cases x with
 | tmp t=>
   obtain ⟨g,h1,h2⟩:=Gt F n t k
   exact .inr ⟨g,h1,fun r=>by rw[←h2];rfl⟩
 | const v=>
   simp only[wO]
   cases h:ofConst v with
   | none=>exact .inl rfl
   | some a=>exact .inr ⟨fun _=>a,rfl,fun r=>h⟩
 | global g=>
   simp only[wO]
   cases h:Nat.ble E.G g
   · exact .inr ⟨fun _=> .ptr g 0,rfl,fun r=>by rw[eA,if_pos (kD h)]⟩
   · exact .inl rfl
 | func f=>exact .inr ⟨fun _=> .func f [] [],rfl,fun r=>rfl⟩
theorem uu {β:Type}:∀(l:List Operand) (k:(F.T→List AV)→β) (d:β),wL E F n l k d=d∨∃g,wL E F n l k d=k g∧∀r,fW E (fi F n r) l=some (g r)
 | [],k,d=> .inr ⟨fun _=> [],rfl,fun r=>rfl⟩
 | x::xs,k,d=>by
   rw[wL]
   rcases b7 E F n x (fun g=>wL E F n xs (fun gs=>k fun r=>g r::gs r) d) d with h | ⟨g,h,hg⟩
   · exact .inl h
   · rcases uu xs (fun gs=>k fun r=>g r::gs r) d with h' | ⟨gs,h',hgs⟩
     · exact .inl (h.trans h')
     · refine .inr ⟨_,h.trans h',fun r=>?_⟩
       have:=hgs r
       unfold fW at *
       rw[eH,hg r];simp only[this]
theorem Ni {β:Type} (o:Option Operand) (k:Option (F.T→AV)→β) (d:β):wP E F n o k d=d∨∃g,wP E F n o k d=k g∧∀r,mX E (fi F n r) o=some (DN g r):=by
 cases o with
 | none=>exact .inr ⟨none,rfl,fun r=>rfl⟩
 | some x=>
   rcases b7 E F n x (fun g=>k (some g)) d with h | ⟨g,h,hg⟩
   · exact .inl h
   · exact .inr ⟨some g,h,fun r=>by rw[mX,hg r];rfl⟩
theorem BJ {β:Type}:∀(l:List (Nat×Operand)) (k:(F.T→List (Nat×AV))→β) (d:β),VZ E F n l k d=d∨∃g,VZ E F n l k d=k g∧∀r,kt E (fi F n r) l=some (g r)
 | [],k,d=> .inr ⟨fun _=> [],rfl,fun r=>rfl⟩
 | (i,x)::xs,k,d=>by
   rw[VZ]
   rcases b7 E F n x (fun g=>VZ E F n xs (fun gs=>k fun r=>(i,g r)::gs r) d) d with h | ⟨g,h,hg⟩
   · exact .inl h
   · rcases BJ xs (fun gs=>k fun r=>(i,g r)::gs r) d with h' | ⟨gs,h',hgs⟩
     · exact .inl (h.trans h')
     · refine .inr ⟨_,h.trans h',fun r=>?_⟩
       rw[kt,hg r];simp only[hgs r]
theorem Nj {β:Type} (hn:n≤F.N) (o:Option Tmp) (k:(AV→F.T→F.T)→β):∃s,wS F n o k=k s∧∀v r,dN (fi F n r) o v=fi F n (s v r):=by
 cases o with
 | none=>exact ⟨fun _ r=>r,rfl,fun v r=>rfl⟩
 | some i=>
   show ∃s,bc (Nat.ble n i) (k fun _ r=>r) (wU (F.set i) k)=k s∧_
   cases h:Nat.ble n i
   · exact ⟨(F.set i).f,rfl,fun v r=>VN F n hn r (kD h) v⟩
   · refine ⟨fun _ r=>r,rfl,fun v r=>?_⟩
     show (fi F n r).set i v=_
     rw[List.set_eq_of_length_le (by rw[jh];exact fN h)]
theorem oT (t:TypeId):wz E t=ch E t:=by
 unfold wz ch;rw[sS];cases E.P.info? t<;>rfl
theorem RM (t:TypeId):Zy E t=fQ E t:=by
 unfold Zy fQ;rw[sS];split
 · rfl
 · cases E.P.info? t<;>rfl
theorem zb (t:TypeId):Kt E t=fC E t:=by
 unfold Kt fC;rw[sS]
 cases E.P.info? t with
 | none=>rfl
 | some i=>show ob none (fun z=>ofConst z) i.zero=_;cases h:i.zero<;>simp [ob,h]
theorem ZA (t:TypeId):agF E t=fD E t:=by
 unfold agF fD;rw[ji];rfl
theorem RN (t:TypeId) (f:Nat):fiF E t f=mY E t f:=by
 unfold fiF mY;rw[ji]
 generalize E.P.underlying t=u
 cases u with
 | none=>rfl
 | some d=>cases d with
   | struct fs=>show ju fs.toList f=fs[f]?;rw[gY];exact Array.getElem?_toList
   | _=>rfl
def sX (op:Op):Prop:=(∀ts,bE E ts op=none)∧(∀ts h,dW E ts h op=none)∧∀ts,eB E ts op=none
def kE (f g:bh):Prop:=∀F as_ h,(∀v h',f F as_ h= .ret v h'→g F as_ h= .ret v h')∧∀v h',f F as_ h= .panic v h'→g F as_ h= .panic v h'
def X3 (a b:yE):Prop:=match a with
 | .fail _ _=>True
 | a=>b=a
def gu (op:Op):Kd F.T→Prop
 | .H2 g=>∀r,bE E (fi F n r) op=some (g r)
 | .gS f=>∀r v,f r=some v→bE E (fi F n r) op=some v
 | .red f=>∀r h v,f r h=some v→bE E (fi F n r) op=some v∨(bE E (fi F n r) op=none∧dW E (fi F n r) h op=some v)
 | .sA f=>(∀ts,bE E ts op=none)∧(∀ts h,dW E ts h op=none)∧∀r p,f r=some p→eB E (fi F n r) op=some p
 | .wr f=>sX E op∧∀call r h rc o p,o.op=op→f r h=some p→dm E call (fi F n r) h rc o= .val p.1 p.2
 | .call g args=>sX E op∧∀call r h rc o,o.op=op→dm E call (fi F n r) h rc o=nf (call g (args r) h)
 | .uE f=>sX E op∧∀fc call,kE fc call→∀r h rc o,o.op=op→X3 (f fc r h rc) (dm E call (fi F n r) h rc o)
 | .bad=>True
end
end Go.Ab.Fa
end
section
namespace Go.Ab.Fa
variable {E:Env} {F:RF} {n:Nat}
theorem Wd {op:BinOp} (h1:op≠ .shl) (h2:op≠ .shr) {t:TypeId} {xc yc:Bool} {a b v:AV} (h:VY (Rw op).f (O2 op).f (ks E op t xc yc) a b=some v):ks E op t xc yc a b=some v:=by
 unfold VY at h
 cases a with
 | int k x=>
   obtain ⟨j,y,rfl,h3⟩:=jR (show oM (fun j y=>bc (Rl k j) ((Rw op).f k x y) none) none b=some v from h)
   obtain ⟨hk,h4⟩:=fM h3
   have hk:=Nd hk
   rw[V_] at h4
   have:=V9 op k x y h4
   rw[←hk]
   cases op<;>first | exact absurd rfl h1 | exact absurd rfl h2 | simpa [ks] using this
 | str s=>
   obtain ⟨s',rfl,h3⟩:=oP (show rf (fun t=>(O2 op).f s t) none b=some v from h)
   rw[Wb] at h3
   cases op<;>first | exact absurd rfl h1 | exact absurd rfl h2 | simpa [ks] using h3
 | _=>exact h
theorem Wf (op:BinOp) (t:TypeId) (x y:Operand) (yt:TypeId) (gx gy:F.T→AV) (hx:∀r,eA E (fi F n r) x=some (gx r)) (hy:∀r,eA E (fi F n r) y=some (gy r)):
 gu E F n (.binOp op t x y yt) (cy op (ks E op t (isConst x) (isConst y)) gx gy):=by
 have red:∀r,bE E (fi F n r) (.binOp op t x y yt)=ks E op t (isConst x) (isConst y) (gx r) (gy r):=by
  intro r;simp only[bE,hx,hy]
 by_cases h1:op= .shl
 · subst h1
   intro r v h
   rw[red]
   obtain ⟨k,m,e1,h⟩:=jR h
   obtain ⟨k',m',e2,h⟩:=jR h
   obtain ⟨h3,rfl⟩:=V' h
   rw[e1,e2];simp [ks,h3]
 by_cases h2:op= .shr
 · subst h2
   intro r v h
   rw[red]
   obtain ⟨k,m,e1,h⟩:=jR h
   obtain ⟨k',m',e2,h⟩:=jR h
   obtain ⟨h3,rfl⟩:=Wa h
   rw[e1,e2];simp [ks,h3]
 have:cy op (ks E op t (isConst x) (isConst y)) gx gy= .gS fun r=>VY (Rw op).f (O2 op).f (ks E op t (isConst x) (isConst y)) (gx r) (gy r):=by
  cases op<;>first | exact absurd rfl h1 | exact absurd rfl h2 | rfl
 rw[this]
 intro r v h
 rw[red]
 exact Wd h1 h2 h
theorem ZB (op:UnOp) (t:TypeId) (x:Operand) (g:F.T→AV) (hg:∀r,eA E (fi F n r) x=some (g r)):gu E F n (.unOp op t x) (unK op g):=by
 have red:∀r,bE E (fi F n r) (.unOp op t x)=unA op (g r):=by intro r;simp only[bE,hg]
 cases op with
 | not=>
   intro r v h
   rw[red]
   obtain ⟨b,e,h⟩:=EB h
   rw[e,←h,xe];rfl
 | _=>intro r v h;rw[red];exact h
theorem RO {t:TypeId} {m:Nat} (h1:fD E t=some true) (h2:ch E t=some m) {cs:List AV} {o:Nat} {v:AV} (h:Ry m cs o=some v):iE E t cs o=some v:=by
 unfold Ry at h
 obtain ⟨h3,h⟩:=fM h
 have h3:=fN h3
 rw[fS] at h3
 unfold iE
 rw[h1,h2]
 simp only
 rw[if_pos (show o+m≤cs.length from h3),←h,qm,ql]
theorem RP {t:TypeId} (h1:fD E t=some false) {cs:List AV} {o:Nat} {v:AV} (h:Rx cs o=some v):iE E t cs o=some v:=by
 unfold Rx at h
 rw[gY] at h
 unfold iE
 rw[h1];exact h
theorem BK {T:Type} (t:TypeId) (k:(List AV→Nat→Option AV)→Kd T):xa E t k= .bad∨∃p,xa E t k=k p∧∀cs o v,p cs o=some v→iE E t cs o=some v:=by
 unfold xa
 rw[ZA]
 cases h:fD E t with
 | none=>exact .inl rfl
 | some b=>cases b with
   | false=>exact .inr ⟨_,rfl,fun cs o v=>RP h⟩
   | true=>
     simp only
     rw[oT]
     cases h2:ch E t with
     | none=>exact .inl rfl
     | some m=>exact .inr ⟨_,rfl,fun cs o v=>RO h h2⟩
theorem RQ {t:TypeId} {p:List AV→Nat→Option AV} (hp:∀cs o v,p cs o=some v→iE E t cs o=some v) {h:aA} {a v:AV} (e:IY p h a=some v):bk E h t a=some v:=by
 obtain ⟨i,o,rfl,e⟩:=sW e
 obtain ⟨obj,e1,e⟩:=gN e
 obtain ⟨cs,el,ro,rfl,e⟩:=rm e
 simp only[bk,e1]
 exact hp _ _ _ e
theorem Wg (t:TypeId) (a:Operand):gu E F n (.load t a) (wO E F n a (fun g=>xa E t fun p=> .red fun r h=>IY p h (g r)) .bad):=by
 rcases b7 E F n a (fun g=>xa E t fun p=>(.red fun r h=>IY p h (g r):Kd F.T)) .bad with h | ⟨g,h,hg⟩<;>rw[h]
 · trivial
 · rcases BK (E:=E) t (fun p=>(.red fun r h=>IY p h (g r):Kd F.T)) with h | ⟨p,h,hp⟩<;>rw[h]
   · trivial
   · intro r h v e
     refine .inr ⟨rfl,?_⟩
     simp only[dW,hg]
     exact RQ hp e
theorem RR (s:TypeId) (x:Operand) (f:Nat):gu E F n (.field s x f) (match fiF E s f with
 | some fd=>wO E F n x (fun g=>xa E fd.type fun p=> .gS fun r=>yT (fun cs=>p cs fd.offset) (fun _=>none) none (g r)) .bad
 | none=> .bad):=by
 rw[RN]
 cases h0:mY E s f with
 | none=>trivial
 | some fd=>
   simp only
   rcases b7 E F n x (fun g=>xa E fd.type fun p=>(.gS fun r=>yT (fun cs=>p cs fd.offset) (fun _=>none) none (g r):Kd F.T)) .bad with h | ⟨g,h,hg⟩<;>rw[h]
   · trivial
   · rcases BK (E:=E) fd.type (fun p=>(.gS fun r=>yT (fun cs=>p cs fd.offset) (fun _=>none) none (g r):Kd F.T)) with h | ⟨p,h,hp⟩<;>rw[h]
     · trivial
     · intro r v e
       change yT (fun cs=>p cs fd.offset) (fun _=>none) none (g r)=some v at e
       simp only[bE,h0,hg]
       cases hv:g r with
       | agg cs=>rw[hv] at e;exact hp _ _ _ e
       | _=>rw[hv] at e;exact absurd e (by intro e;cases e)
theorem Gu (s:TypeId) (x:Operand) (f:Nat):gu E F n (.fieldAddr s x f) (match fiF E s f with
 | some fd=>match wz E fd.type with
   | some (_+1)=>wO E F n x (fun g=> .gS fun r=>yS (fun i o=>some (.ptr i (Nat.add o fd.offset))) none (g r)) .bad
   | _=> .bad
 | none=> .bad):=by
 rw[RN]
 cases h0:mY E s f with
 | none=>trivial
 | some fd=>
   simp only
   rw[oT]
   cases h1:ch E fd.type with
   | none=>trivial
   | some m=>cases m with
     | zero=>trivial
     | succ m=>
       simp only
       rcases b7 E F n x (fun g=>(.gS fun r=>yS (fun i o=>some (.ptr i (Nat.add o fd.offset))) none (g r):Kd F.T)) .bad with h | ⟨g,h,hg⟩<;>rw[h]
       · trivial
       · intro r v e
         obtain ⟨i,o,e1,e⟩:=sW e
         simp only[bE,h0,hg,e1,h1]
         rw[if_neg (by omega)];exact e
theorem I6 (x:Operand):gu E F n (.nilCheck x) (wO E F n x (fun g=> .gS fun r=>bc (Ge (g r)) (some (g r)) none) .bad):=by
 rcases b7 E F n x (fun g=>(.gS fun r=>bc (Ge (g r)) (some (g r)) none:Kd F.T)) .bad with h | ⟨g,h,hg⟩<;>rw[h]
 · trivial
 · intro r v e
   obtain ⟨h1,e⟩:=fM e
   simp only[bE,hg]
   rw[←e]
   exact O6 _ h1
theorem Lj (x:Operand) (i:Nat):gu E F n (.extract x i) (wO E F n x (fun g=> .gS fun r=>yT (fun _=>none) (fun vs=>ju vs i) none (g r)) .bad):=by
 rcases b7 E F n x (fun g=>(.gS fun r=>yT (fun _=>none) (fun vs=>ju vs i) none (g r):Kd F.T)) .bad with h | ⟨g,h,hg⟩<;>rw[h]
 · trivial
 · intro r v e
   change yT (fun _=>none) (fun vs=>ju vs i) none (g r)=some v at e
   simp only[bE,hg]
   cases hv:g r with
   | tuple cs=>rw[hv] at e;show cs[i]? =some v;rw[←gY];exact e
   | _=>rw[hv] at e;exact absurd e (by intro e;cases e)
theorem Wh (c a b:Operand):gu E F n (.pick c a b) (wO E F n c (fun gc=>wO E F n a (fun ga=>wO E F n b (fun gb=> .gS fun r=>jP (fun t=>bc t (some (ga r)) (some (gb r))) none (gc r)) .bad) .bad) .bad):=by
 rcases b7 E F n c (fun gc=>wO E F n a (fun ga=>wO E F n b (fun gb=>(.gS fun r=>jP (fun t=>bc t (some (ga r)) (some (gb r))) none (gc r):Kd F.T)) .bad) .bad) .bad with h | ⟨gc,h,hc⟩<;>rw[h]
 · trivial
 rcases b7 E F n a (fun ga=>wO E F n b (fun gb=>(.gS fun r=>jP (fun t=>bc t (some (ga r)) (some (gb r))) none (gc r):Kd F.T)) .bad) .bad with h | ⟨ga,h,ha⟩<;>rw[h]
 · trivial
 rcases b7 E F n b (fun gb=>(.gS fun r=>jP (fun t=>bc t (some (ga r)) (some (gb r))) none (gc r):Kd F.T)) .bad with h | ⟨gb,h,hb⟩<;>rw[h]
 · trivial
 intro r v e
 obtain ⟨t,e1,e⟩:=EB e
 simp only[bE,hc,e1]
 cases t
 · simp only[hb];exact e
 · simp only[ha];exact e
theorem Nk {len size i o:Nat} {ix v:AV} (e:Gn len size i o ix=some v):∃k m,ix= .int k m∧0≤m∧m<len∧v= .ptr i (o+m.toNat*size):=by
 obtain ⟨k,m,rfl,e⟩:=jR e
 obtain ⟨m',rfl,e⟩:=oR e
 obtain ⟨h1,e⟩:=rl e
 have h1:=kD h1
 exact ⟨k,m',rfl,by omega,by omega,(Option.some.inj e).symm⟩
theorem Gv (t:TypeId) (x ix:Operand):gu E F n (.indexAddr t x ix) (wO E F n x (fun gx=>wO E F n ix (fun gi=>match kl E.P t with
 | some (.array len elem)=>match wz E elem with
   | some size=> .gS fun r=>yS (fun i o=>Gn len size i o (gi r)) none (gx r)
   | none=> .bad
 | some (.slice elem)=>match wz E elem with
   | some size=> .gS fun r=>jQ none (fun i o len _ _=>Gn len size i o (gi r)) none (gx r)
   | none=> .bad
 | _=> .bad) .bad) .bad):=by
 rw[ji]
 rcases b7 E F n x (fun gx=>wO E F n ix (fun gi=>match E.P.underlying t with
  | some (.array len elem)=>match wz E elem with
    | some size=>(.gS fun r=>yS (fun i o=>Gn len size i o (gi r)) none (gx r):Kd F.T)
    | none=> .bad
  | some (.slice elem)=>match wz E elem with
    | some size=> .gS fun r=>jQ none (fun i o len _ _=>Gn len size i o (gi r)) none (gx r)
    | none=> .bad
  | _=> .bad) .bad) .bad with h | ⟨gx,h,hx⟩<;>rw[h]
 · trivial
 rcases b7 E F n ix (fun gi=>match E.P.underlying t with
  | some (.array len elem)=>match wz E elem with
    | some size=>(.gS fun r=>yS (fun i o=>Gn len size i o (gi r)) none (gx r):Kd F.T)
    | none=> .bad
  | some (.slice elem)=>match wz E elem with
    | some size=> .gS fun r=>jQ none (fun i o len _ _=>Gn len size i o (gi r)) none (gx r)
    | none=> .bad
  | _=> .bad) .bad with h | ⟨gi,h,hi⟩<;>rw[h]
 · trivial
 cases hu:E.P.underlying t with
 | none=>trivial
 | some d=>cases d with
   | array len elem=>
     simp only
     rw[oT]
     cases hs:ch E elem with
     | none=>trivial
     | some size=>
       intro r v e
       obtain ⟨i,o,e1,e⟩:=sW e
       obtain ⟨k,m,e2,h1,h2,rfl⟩:=Nk e
       simp only[bE,hu,hx,hi,e1,e2,hs]
       rw[if_pos ⟨h1,h2⟩]
   | slice elem=>
     simp only
     rw[oT]
     cases hs:ch E elem with
     | none=>trivial
     | some size=>
       intro r v e
       rcases oQ e with ⟨_,e⟩ | ⟨i,o,l,c,b,e1,e⟩
       · cases e
       obtain ⟨k,m,e2,h1,h2,rfl⟩:=Nk e
       simp only[bE,hu,hx,hi,e1,e2,hs]
       rw[if_pos ⟨h1,h2⟩]
   | _=>trivial
theorem RS (t:TypeId) (x ix:Operand):gu E F n (.index t x ix) (wO E F n x (fun gx=>wO E F n ix (fun gi=>match kl E.P t with
 | some .string=> .gS fun r=>rf (fun s=>oM (fun _ i=>lq (fun m=>ob none (fun (b:UInt8)=>some (.int .u8 (Int.ofNat b.toNat))) (ju s m)) none i) none (gi r)) none (gx r)
 | _=> .gS fun r=>bE E (fi F n r) (.index t x ix)) .bad) .bad):=by
 rw[ji]
 rcases b7 E F n x (fun gx=>wO E F n ix (fun gi=>match E.P.underlying t with
  | some .string=>(.gS fun r=>rf (fun s=>oM (fun _ i=>lq (fun m=>ob none (fun (b:UInt8)=>some (.int .u8 (Int.ofNat b.toNat))) (ju s m)) none i) none (gi r)) none (gx r):Kd F.T)
  | _=> .gS fun r=>bE E (fi F n r) (.index t x ix)) .bad) .bad with h | ⟨gx,h,hx⟩<;>rw[h]
 · trivial
 rcases b7 E F n ix (fun gi=>match E.P.underlying t with
  | some .string=>(.gS fun r=>rf (fun s=>oM (fun _ i=>lq (fun m=>ob none (fun (b:UInt8)=>some (.int .u8 (Int.ofNat b.toNat))) (ju s m)) none i) none (gi r)) none (gx r):Kd F.T)
  | _=> .gS fun r=>bE E (fi F n r) (.index t x ix)) .bad with h | ⟨gi,h,hi⟩<;>rw[h]
 · trivial
 cases hu:E.P.underlying t with
 | none=>intro r v e;exact e
 | some d=>cases d with
   | string=>
     intro r v e
     obtain ⟨s,e1,e⟩:=oP e
     obtain ⟨k,m,e2,e⟩:=jR e
     obtain ⟨m',rfl,e⟩:=oR e
     obtain ⟨b,e3,e⟩:=gN e
     rw[gY] at e3
     simp only[bE,hu,hx,hi,e1,e2]
     rw[if_pos (by omega)]
     rw[show ((m':Int).toNat)=m' from rfl,e3]
     exact e
   | _=>intro r v e;exact e
theorem pA {d y:Nat} {o:Option AV} {k:Nat→Option AV} {v:AV} (e:Gp d y o k=some v):∃m,(match o with | some v=>ox v y | none=>some d)=some m∧k m=some v:=by
 cases o with
 | none=>exact ⟨d,rfl,e⟩
 | some a=>
   obtain ⟨kk,i,rfl,e⟩:=jR (show oM (fun _ i=>lq (fun m=>bc (Nat.ble m y) (k m) none) none i) none a=some v from e)
   obtain ⟨m,rfl,e⟩:=oR e
   obtain ⟨h1,e⟩:=fM e
   have h1:=fN h1
   refine ⟨m,?_,e⟩
   simp only[ox]
   rw[if_pos (by omega)];rfl
theorem uv {len cap h l:Nat} {lo hi:Option AV} (h1:(match hi with | some v=>ox v cap | none=>some len)=some h)
 (h2:(match lo with | some v=>ox v h | none=>some 0)=some l):kT len cap lo hi none=some (l,h,cap):=by
 cases hi with
 | none=>cases lo with
   | none=>cases h1;cases h2;rfl
   | some b=>cases h1;simp only[kT,Option.isSome_none];simp at h2;simp [h2]
 | some a=>cases lo with
   | none=>cases h2;simp only[kT];simp at h1;simp [h1]
   | some b=>simp only[kT];simp at h1 h2;simp [h1,h2]
theorem ZC {t elem:TypeId} {size:Nat} (hu:E.P.underlying t=some (.slice elem)) (hs:ch E elem=some size) {lo hi:Option AV} {x v:AV} (e:slF size lo hi x=some v):fK E t x lo hi none=some v:=by
 rcases oQ e with ⟨rfl,e1⟩ | ⟨i,o,len,cap,op,rfl,e1⟩
 · obtain ⟨h,h1,e2⟩:=pA e1
   obtain ⟨l,h2,e3⟩:=pA e2
   simp only[fK,hu,uv h1 h2,hs]
   exact e3
 · obtain ⟨h0,e2⟩:=fM e1
   have h0:=fN h0
   obtain ⟨h,h1,e3⟩:=pA e2
   obtain ⟨l,h2,e4⟩:=pA e3
   simp only[fK,hu,uv h1 h2,hs]
   rw[if_pos h0]
   cases h3:Nat.beq cap l
   · rw[h3,dY] at e4
     have:¬cap=l:=by intro ee;rw[ee,Nat.beq_refl] at h3;cases h3
     rw[if_neg this]
     simpa using e4
   · rw[h3,jH] at e4
     rw[if_pos (mG h3)]
     cases op
     · rw[dY] at e4;simpa using e4
     · rw[jH] at e4;simpa using e4
theorem ZD {t:TypeId} (hu:E.P.underlying t=some .string) {lo hi:Option AV} {x v:AV} (e:slS lo hi x=some v):fK E t x lo hi none=some v:=by
 obtain ⟨s,rfl,e1⟩:=oP e
 obtain ⟨h,h1,e2⟩:=pA e1
 obtain ⟨l,h2,e3⟩:=pA e2
 rw[fS] at h1
 simp only[fK,hu,uv h1 h2]
 rw[←e3,qm,ql];rfl
theorem ZE {t elem:TypeId} {m size:Nat} (hu:E.P.underlying t=some (.array m elem)) (hs:ch E elem=some size) {lo hi:Option AV} {x v:AV} (e:slA m size lo hi x=some v):fK E t x lo hi none=some v:=by
 obtain ⟨i,o,rfl,e1⟩:=sW e
 obtain ⟨h,h1,e2⟩:=pA e1
 obtain ⟨l,h2,e3⟩:=pA e2
 simp only[fK,hu,uv h1 h2,hs]
 rw[←Option.some.inj e3]
 cases h3:Nat.beq m l
 · have:¬m=l:=by intro ee;rw[ee,Nat.beq_refl] at h3;cases h3
   rw[if_neg this];rfl
 · rw[if_pos (mG h3)];rfl
theorem RU (t:TypeId) (x:Operand) (lo hi:Option Operand):gu E F n (.slice t x lo hi none) (wO E F n x (fun gx=>wP E F n lo (fun gl=>wP E F n hi (fun gh=>match kl E.P t with
 | some (.slice elem)=>match wz E elem with
   | some size=> .gS fun r=>slF size (DN gl r) (DN gh r) (gx r)
   | none=> .bad
 | some .string=> .gS fun r=>slS (DN gl r) (DN gh r) (gx r)
 | some (.array m elem)=>match wz E elem with
   | some size=> .gS fun r=>slA m size (DN gl r) (DN gh r) (gx r)
   | none=> .bad
 | _=> .gS fun r=>bE E (fi F n r) (.slice t x lo hi none)) .bad) .bad) .bad):=by
 rw[ji]
 let K:(F.T→AV)→Option (F.T→AV)→Option (F.T→AV)→Kd F.T:=fun gx gl gh=>match E.P.underlying t with
  | some (.slice elem)=>match wz E elem with
    | some size=> .gS fun r=>slF size (DN gl r) (DN gh r) (gx r)
    | none=> .bad
  | some .string=> .gS fun r=>slS (DN gl r) (DN gh r) (gx r)
  | some (.array m elem)=>match wz E elem with
    | some size=> .gS fun r=>slA m size (DN gl r) (DN gh r) (gx r)
    | none=> .bad
  | _=> .gS fun r=>bE E (fi F n r) (.slice t x lo hi none)
 show gu E F n _ (wO E F n x (fun gx=>wP E F n lo (fun gl=>wP E F n hi (fun gh=>K gx gl gh) .bad) .bad) .bad)
 rcases b7 E F n x (fun gx=>wP E F n lo (fun gl=>wP E F n hi (fun gh=>K gx gl gh) .bad) .bad) .bad with h | ⟨gx,h,hx⟩<;>rw[h]
 · trivial
 rcases Ni E F n lo (fun gl=>wP E F n hi (fun gh=>K gx gl gh) .bad) .bad with h | ⟨gl,h,hl⟩<;>rw[h]
 · trivial
 rcases Ni E F n hi (fun gh=>K gx gl gh) .bad with h | ⟨gh,h,hh⟩<;>rw[h]
 · trivial
 have red:∀r,bE E (fi F n r) (.slice t x lo hi none)=fK E t (gx r) (DN gl r) (DN gh r) none:=by
  intro r;simp only[bE,hx,hl,hh];rfl
 simp only[K]
 cases hu:E.P.underlying t with
 | none=>intro r v e;exact e
 | some d=>cases d with
   | string=>intro r v e;rw[red];exact ZD hu e
   | array m elem=>
     simp only
     rw[oT]
     cases hs:ch E elem with
     | none=>trivial
     | some size=>intro r v e;rw[red];exact ZE hu hs e
   | slice elem=>
     simp only
     rw[oT]
     cases hs:ch E elem with
     | none=>trivial
     | some size=>intro r v e;rw[red];exact ZC hu hs e
   | _=>intro r v e;exact e
end Go.Ab.Fa
end
section
namespace Go.Ab.Fa
variable {E:Env} {F:RF} {n:Nat}
theorem O7 {t:TypeId} {m:Nat} (hs:ch E t=some m) {h:aA} {a v:AV} {p:AV×aA} (e:BF m h a v=some p):p.1=AV.undef∧fE E h t a v=some p.2:=by
 obtain ⟨i,o,rfl,e1⟩:=sW e
 obtain ⟨obj,h1,e2⟩:=gN e1
 obtain ⟨cs,el,ro,rfl,e3⟩:=rm e2
 obtain ⟨h2,e4⟩:=rl e3
 obtain ⟨h3,e5⟩:=fM e4
 obtain ⟨h4,e6⟩:=fM e5
 obtain ⟨h5,e7⟩:=fM e6
 have h3:=mG h3
 have h4:=fN h4
 rw[fS,mH] at h3
 rw[fS] at h4
 rw[ri,I4,mH] at h5
 have e8:=Option.some.inj e7
 subst h2
 refine ⟨by rw[←e8],?_⟩
 simp only[fE,h1,hs]
 rw[if_pos ⟨h3,h4,h5⟩,←e8,Gs,mH]
theorem I7 {t:TypeId} {a x:Operand}:sX E (.store t a x):=⟨fun _=>rfl,fun _ _=>rfl,fun _=>rfl⟩
theorem RV (t:TypeId) (a x:Operand):gu E F n (.store t a x) (match wz E t with
 | some m=>wO E F n a (fun ga=>wO E F n x (fun gx=> .wr fun r h=>BF m h (ga r) (gx r)) .bad) .bad
 | none=> .bad):=by
 rw[oT]
 cases hs:ch E t with
 | none=>trivial
 | some m=>
   simp only
   rcases b7 E F n a (fun ga=>wO E F n x (fun gx=>(.wr fun r h=>BF m h (ga r) (gx r):Kd F.T)) .bad) .bad with h | ⟨ga,h,ha⟩<;>rw[h]
   · trivial
   rcases b7 E F n x (fun gx=>(.wr fun r h=>BF m h (ga r) (gx r):Kd F.T)) .bad with h | ⟨gx,h,hx⟩<;>rw[h]
   · trivial
   refine ⟨I7,fun call r h rc o p ho e=>?_⟩
   obtain ⟨h1,h2⟩:=O7 hs e
   simp only[dm,ho,ha,hx,h2,h1]
theorem zc (t:TypeId) (x:Operand):gu E F n (.makeInterface t x) (match kl E.P t with
 | some (.interface _)=> .bad
 | some _=>wO E F n x (fun g=> .H2 fun r=> .iface t (g r)) .bad
 | none=> .bad):=by
 rw[ji]
 cases hu:E.P.underlying t with
 | none=>trivial
 | some d=>
   cases d with
   | interface ms=>trivial
   | _=>
     simp only
     rcases b7 E F n x (fun g=>(.H2 fun r=> .iface t (g r):Kd F.T)) .bad with h | ⟨g,h,hg⟩<;>rw[h]
     · trivial
     · intro r;simp only[bE,hu,hg]
theorem I8 (f:FuncId) (a b:Array Operand):gu E F n (.makeFunc (.func f) a b) (wL E F n a.toList (fun ga=>wL E F n b.toList (fun gb=> .H2 fun r=> .func f (ga r) (gb r)) .bad) .bad):=by
 rcases uu E F n a.toList (fun ga=>wL E F n b.toList (fun gb=>(.H2 fun r=> .func f (ga r) (gb r):Kd F.T)) .bad) .bad with h | ⟨ga,h,ha⟩<;>rw[h]
 · trivial
 rcases uu E F n b.toList (fun gb=>(.H2 fun r=> .func f (ga r) (gb r):Kd F.T)) .bad with h | ⟨gb,h,hb⟩<;>rw[h]
 · trivial
 intro r;simp only[bE,ha,hb]
theorem RW (t:TypeId):gu E F n (.alloc t) (match Kt E t with
 | some z=> .sA fun _=>some (.cells z.cells t false,fun i=> .ptr i 0)
 | none=> .bad):=by
 rw[zb]
 cases hz:fC E t with
 | none=>trivial
 | some z=>exact ⟨fun _=>rfl,fun _ _=>rfl,fun r p e=>by simp only[eB,hz];exact e⟩
theorem ZF (t:TypeId) (x:Operand):gu E F n (.box t x) (wO E F n x (fun g=> .sA fun r=>some (.cells (lQ (g r)) t false,fun i=> .ptr i 0)) .bad):=by
 rcases b7 E F n x (fun g=>(.sA fun r=>some (.cells (lQ (g r)) t false,fun i=> .ptr i 0):Kd F.T)) .bad with h | ⟨g,h,hg⟩<;>rw[h]
 · trivial
 · exact ⟨fun _=>rfl,fun _ _=>rfl,fun r p e=>by simp only[eB,hg];rw[←mH];exact e⟩
theorem DP (t:TypeId) (len:Nat) (parts:Array (Nat×Operand)):gu E F n (.buildSlice t len parts) (match kl E.P t with
 | some (.slice elem)=>match wz E elem,Kt E elem with
   | some m,some z=>if z.cells.length=m∧len*m≤2^24 then VZ E F n parts.toList (fun gp=> .sA fun r=>ob none (fun cs=>some (.cells cs elem false,fun i=> .slice i 0 len len false)) (rV (fun i=>some (i*m,m)) (gA z.cells len) (gp r))) .bad else .bad
   | _,_=> .bad
 | _=> .bad):=by
 rw[ji]
 cases hu:E.P.underlying t with
 | none=>trivial
 | some d=>cases d with
   | slice elem=>
     simp only
     rw[oT,zb]
     cases hs:ch E elem with
     | none=>trivial
     | some m=>cases hz:fC E elem with
       | none=>trivial
       | some z=>
         simp only
         by_cases hc:z.cells.length=m∧len*m≤2^24
         · rw[if_pos hc]
           rcases BJ E F n parts.toList (fun gp=>(.sA fun r=>ob none (fun cs=>some (.cells cs elem false,fun i=> .slice i 0 len len false)) (rV (fun i=>some (i*m,m)) (gA z.cells len) (gp r)):Kd F.T)) .bad with h | ⟨g,h,hg⟩<;>rw[h]
           · trivial
           · refine ⟨fun _=>rfl,fun _ _=>rfl,fun r p e=>?_⟩
             obtain ⟨cs,h1,e⟩:=gN e
             simp only[eB,hu,hs,hz,hg]
             rw[if_pos hc];simp only[h1];exact e
         · rw[if_neg hc];trivial
   | _=>trivial
theorem Wi (z:List AV) (m:Nat):Zz z m=gA z m:=by
 induction m with
 | zero=>rfl
 | succ m ih=>show lK z (Zz z m)=_;rw[n_,ih];rfl
theorem Gw (t:TypeId) (l c:Operand):gu E F n (.makeSlice t l c) (wO E F n l (fun gl=>wO E F n c (fun gc=>match kl E.P t with
 | some (.slice elem)=>match wz E elem,Zy E elem,Kt E elem with
   | some m,some bytes,some z=>if z.cells.length=m then .sA fun r=>V0 elem bytes z.cells (gl r) (gc r) else .bad
   | _,_,_=> .bad
 | _=> .bad) .bad) .bad):=by
 rw[ji]
 rcases b7 E F n l (fun gl=>wO E F n c (fun gc=>match E.P.underlying t with
  | some (.slice elem)=>match wz E elem,Zy E elem,Kt E elem with
    | some m,some bytes,some z=>if z.cells.length=m then (.sA fun r=>V0 elem bytes z.cells (gl r) (gc r):Kd F.T) else .bad
    | _,_,_=> .bad
  | _=> .bad) .bad) .bad with h | ⟨gl,h,hl⟩<;>rw[h]
 · trivial
 rcases b7 E F n c (fun gc=>match E.P.underlying t with
  | some (.slice elem)=>match wz E elem,Zy E elem,Kt E elem with
    | some m,some bytes,some z=>if z.cells.length=m then (.sA fun r=>V0 elem bytes z.cells (gl r) (gc r):Kd F.T) else .bad
    | _,_,_=> .bad
  | _=> .bad) .bad with h | ⟨gc,h,hc⟩<;>rw[h]
 · trivial
 cases hu:E.P.underlying t with
 | none=>trivial
 | some d=>cases d with
   | slice elem=>
     simp only
     rw[oT,RM,zb]
     cases hs:ch E elem with
     | none=>trivial
     | some m=>cases hb:fQ E elem with
       | none=>trivial
       | some bytes=>cases hz:fC E elem with
         | none=>trivial
         | some z=>
           simp only
           by_cases hm:z.cells.length=m
           · rw[if_pos hm]
             refine ⟨fun _=>rfl,fun _ _=>rfl,fun r p e=>?_⟩
             obtain ⟨k1,a,e1,q1⟩:=jR e
             obtain ⟨k2,b,e2,q2⟩:=jR q1
             obtain ⟨a',rfl,q3⟩:=oR q2
             obtain ⟨b',rfl,q4⟩:=oR q3
             obtain ⟨c1,q5⟩:=fM q4
             obtain ⟨c2,q6⟩:=rl q5
             obtain ⟨c3,q7⟩:=fM q6
             have c1:=fN c1
             have c2:=kD c2
             have c3:bytes*b'≤140737488355328:=fN c3
             simp only[eB,hu,hs,hb,hz,hl,hc,e1,e2]
             rw[if_pos ⟨by omega,by omega,by omega,by have:(bytes:Int)*(b':Int)=((bytes*b':Nat):Int):=by simp
                                                      rw[this];omega,hm⟩]
             rw[←q7,Wi];rfl
           · rw[if_neg hm];trivial
   | _=>trivial
theorem I9 (k:List UInt8):∀(l:List h_) (i:Nat) {x:Option AV},findF k l=some x→∃y,sv (.str k) l i=some y∧y.map (·.2)=x
 | [],i,x,h=>⟨none,rfl,by cases h;rfl⟩
 | e::es,i,x,h=>by
   obtain ⟨s,h1,h2⟩:=oP (show rf (fun s=>bc (leq By k s) (some (some e.val)) (findF k es)) none e.key=some x from h)
   rw[Li] at h2
   rw[sv,h1]
   show ∃y,(match (some (k==s):Option Bool) with | some true=>some (some (i,e.val)) | some false=>sv (.str k) es (i+1) | none=>none)=some y∧_
   cases hb:k==s with
   | true=>
     rw[hb,jH] at h2
     exact ⟨some (i,e.val),rfl,Option.some.inj h2⟩
   | false=>
     rw[hb,dY] at h2
     exact I9 k es (i+1) h2
noncomputable def acy (h:aA) (m:AV):Option (List h_):=match m with
 | .dU=>some []
 | .map i=>(match h.get i with | some (.map es _)=>some es | _=>none)
 | _=>none
theorem RX {z:AV} {ok:Bool} {h:aA} {m k v:AV} (e:M5 z ok h m k=some v):
 (∃s,k= .str s)∧∃es,(match m with | .dU=>some [] | .map i=>(match h.get i with | some (.map es _)=>some es | _=>none) | _=>none)=some es∧
  ∃y,sv k es 0=some y∧v=(match y with | some (_,w)=>(if ok then .tuple [w,.bool true] else w) | none=>if ok then .tuple [z,.bool false] else z):=by
 obtain ⟨s,rfl,e1⟩:=oP e
 obtain ⟨es,h1,e2⟩:=gN e1
 obtain ⟨x,h2,e3⟩:=gN e2
 refine ⟨⟨s,rfl⟩,es,?_,?_⟩
 · cases m with
   | dU=>exact h1
   | map i=>
     obtain ⟨o,h3,h4⟩:=gN (show ob none (fun o=>V1 (fun es=>some es) none o) (h.get i)=some es from h1)
     simp only[h3]
     cases o with
     | map gF c=>exact h4
     | _=>cases h4
   | _=>cases h1
 · obtain ⟨y,h3,h4⟩:=I9 s es 0 h2
   refine ⟨y,h3,?_⟩
   have e4:=Option.some.inj e3
   rw[←e4,←h4]
   cases y with
   | none=>cases ok<;>rfl
   | some y=>obtain ⟨_,w⟩:=y;cases ok<;>rfl
theorem O8 (t:TypeId) (x ix:Operand) (ok:Bool):gu E F n (.lookup t x ix ok) (wO E F n x (fun gx=>wO E F n ix (fun gi=>match kl E.P t with
 | some (.map key elem)=>match kl E.P key,Kt E elem with
   | some .string,some z=> .red fun r h=>M5 z ok h (gx r) (gi r)
   | _,_=> .red fun r h=>dW E (fi F n r) h (.lookup t x ix ok)
 | _=> .bad) .bad) .bad):=by
 let K:(F.T→AV)→(F.T→AV)→Kd F.T:=fun gx gi=>match kl E.P t with
  | some (.map key elem)=>match kl E.P key,Kt E elem with
    | some .string,some z=> .red fun r h=>M5 z ok h (gx r) (gi r)
    | _,_=> .red fun r h=>dW E (fi F n r) h (.lookup t x ix ok)
  | _=> .bad
 show gu E F n _ (wO E F n x (fun gx=>wO E F n ix (fun gi=>K gx gi) .bad) .bad)
 rcases b7 E F n x (fun gx=>wO E F n ix (fun gi=>K gx gi) .bad) .bad with h | ⟨gx,h,hx⟩<;>rw[h]
 · trivial
 rcases b7 E F n ix (fun gi=>K gx gi) .bad with h | ⟨gi,h,hi⟩<;>rw[h]
 · trivial
 simp only[K,ji,zb]
 have yZ:gu E F n (.lookup t x ix ok) (.red fun r h=>dW E (fi F n r) h (.lookup t x ix ok)):=fun r h v e=> .inr ⟨rfl,e⟩
 cases hu:E.P.underlying t with
 | none=>trivial
 | some d=>cases d with
   | map key elem=>
     simp only
     cases hk:E.P.underlying key with
     | none=>exact yZ
     | some kd=>cases kd with
       | string=>cases hz:fC E elem with
         | none=>exact yZ
         | some z=>
           intro r h v e
           refine .inr ⟨rfl,?_⟩
           obtain ⟨⟨s,hs⟩,es,h1,y,h2,rfl⟩:=RX e
           simp only[dW,hu,hx,hi,hk]
           rw[hs] at h2 ⊢
           rw[if_pos (show jf (some TypeDesc.string) (AV.str s)=true from rfl)]
           have h1':acy h (gx r)=some es:=h1
           change (match acy h (gx r) with
            | none=>none
            | some es=>match sv (AV.str s) es 0 with
              | none=>none
              | some (some (_,v))=>some (if ok then AV.tuple [v,.bool true] else v)
              | some none=>match fC E elem with
                | some z=>some (if ok then AV.tuple [z,.bool false] else z)
                | none=>none)=_
           rw[h1']
           simp only[h2,hz]
           cases y with
           | none=>rfl
           | some y=>obtain ⟨_,w⟩:=y;rfl
       | _=>exact yZ
   | _=>trivial
theorem BL:∀(fs:List Field),A0 E fs=placesOf E fs
 | []=>rfl
 | f::fs=>by
   show ob none (fun n=>ob none (fun l=>some ((f.offset,n)::l)) (A0 E fs)) (wz E f.type)=_
   rw[BL fs,oT]
   simp only[placesOf,eH]
   cases ch E f.type with
   | none=>rfl
   | some n=>
     show ob none (fun l=>some ((f.offset,n)::l)) (eH _ fs)=_
     cases eH (fun f=>match ch E f.type with | some n=>some (f.offset,n) | none=>none) fs<;>rfl
theorem I_ (ps:List (Nat×Nat)):∀(l:List (Nat×AV)) (cs:List AV) {v:List AV},IZ ps cs l=some v→rV (ps[·]?) cs l=some v
 | [],cs,v,h=>h
 | (i,x)::l,cs,v,h=>by
   obtain ⟨q,h1,h2⟩:=gN (show ob none (fun (q:Nat×Nat)=>bc (Nat.beq (jt (lQ x)) q.2) (bc (Nat.ble (q.1+q.2) (jt cs)) (IZ ps (IP (lQ x) cs q.1) l) none) none) (ju ps i)=some v from h)
   obtain ⟨h3,h4⟩:=fM h2
   obtain ⟨h5,h6⟩:=fM h4
   have h3:=mG h3
   have h5:=fN h5
   rw[fS,mH] at h3
   rw[fS] at h5
   rw[gY] at h1
   rw[rV]
   obtain ⟨off,size⟩:=q
   simp only[h1]
   rw[if_pos ⟨h3,h5⟩,←Gs,←mH]
   exact I_ ps l _ h6
theorem RY (t:TypeId) (parts:Array (Nat×Operand)):gu E F n (.build t parts) (match Kt E t,kl E.P t with
 | some z,some (.struct fs)=>match A0 E fs.toList with
   | some ps=>VZ E F n parts.toList (fun gp=> .gS fun r=>ob none (fun cs=>some (.agg cs)) (IZ ps (lQ z) (gp r))) .bad
   | none=> .bad
 | _,_=> .gS fun r=>bE E (fi F n r) (.build t parts)):=by
 have yZ:gu E F n (.build t parts) (.gS fun r=>bE E (fi F n r) (.build t parts)):=fun r v e=>e
 rw[ji,zb]
 cases hz:fC E t with
 | none=>exact yZ
 | some z=>cases hu:E.P.underlying t with
   | none=>exact yZ
   | some d=>cases d with
     | struct fs=>
       simp only
       rw[BL]
       cases hp:placesOf E fs.toList with
       | none=>trivial
       | some ps=>
         simp only
         rcases BJ E F n parts.toList (fun gp=>(.gS fun r=>ob none (fun cs=>some (.agg cs)) (IZ ps (lQ z) (gp r)):Kd F.T)) .bad with h | ⟨g,h,hg⟩<;>rw[h]
         · trivial
         · intro r v e
           obtain ⟨cs,h1,e2⟩:=gN e
           have h1:=I_ ps _ _ h1
           rw[mH] at h1
           simp only[bE,hg,FE,hz,hu,hp,h1]
           exact e2
     | _=>exact yZ
theorem Gy (t:TypeId) (m k x:Operand):gu E F n (.mapUpdate t m k x) (wO E F n m (fun gm=>wO E F n k (fun gk=>wO E F n x (fun gx=> .wr fun r h=>ob none (fun h'=>some (AV.undef,h')) (eK E h t (gm r) (gk r) (gx r))) .bad) .bad) .bad):=by
 rcases b7 E F n m (fun gm=>wO E F n k (fun gk=>wO E F n x (fun gx=>(.wr fun r h=>ob none (fun h'=>some (AV.undef,h')) (eK E h t (gm r) (gk r) (gx r)):Kd F.T)) .bad) .bad) .bad with h | ⟨gm,h,hm⟩<;>rw[h]
 · trivial
 rcases b7 E F n k (fun gk=>wO E F n x (fun gx=>(.wr fun r h=>ob none (fun h'=>some (AV.undef,h')) (eK E h t (gm r) (gk r) (gx r)):Kd F.T)) .bad) .bad with h | ⟨gk,h,hk⟩<;>rw[h]
 · trivial
 rcases b7 E F n x (fun gx=>(.wr fun r h=>ob none (fun h'=>some (AV.undef,h')) (eK E h t (gm r) (gk r) (gx r)):Kd F.T)) .bad with h | ⟨gx,h,hx⟩<;>rw[h]
 · trivial
 refine ⟨⟨fun _=>rfl,fun _ _=>rfl,fun _=>rfl⟩,fun call r h rc o p ho e=>?_⟩
 obtain ⟨h',h1,e2⟩:=gN e
 have e3:=Option.some.inj e2
 simp only[dm,ho,hm,hk,hx,h1,←e3]
theorem O9 (t:TypeId) (m k x:Operand):gu E F n (.insert t m k x) (wO E F n m (fun gm=>wO E F n k (fun gk=>wO E F n x (fun gx=> .wr fun r h=>ob none (fun h'=>some (AV.undef,h')) (eK E h t (gm r) (gk r) (gx r))) .bad) .bad) .bad):=by
 rcases b7 E F n m (fun gm=>wO E F n k (fun gk=>wO E F n x (fun gx=>(.wr fun r h=>ob none (fun h'=>some (AV.undef,h')) (eK E h t (gm r) (gk r) (gx r)):Kd F.T)) .bad) .bad) .bad with h | ⟨gm,h,hm⟩<;>rw[h]
 · trivial
 rcases b7 E F n k (fun gk=>wO E F n x (fun gx=>(.wr fun r h=>ob none (fun h'=>some (AV.undef,h')) (eK E h t (gm r) (gk r) (gx r)):Kd F.T)) .bad) .bad with h | ⟨gk,h,hk⟩<;>rw[h]
 · trivial
 rcases b7 E F n x (fun gx=>(.wr fun r h=>ob none (fun h'=>some (AV.undef,h')) (eK E h t (gm r) (gk r) (gx r)):Kd F.T)) .bad with h | ⟨gx,h,hx⟩<;>rw[h]
 · trivial
 refine ⟨⟨fun _=>rfl,fun _ _=>rfl,fun _=>rfl⟩,fun call r h rc o p ho e=>?_⟩
 obtain ⟨h',h1,e2⟩:=gN e
 have e3:=Option.some.inj e2
 simp only[dm,ho,hm,hk,hx,h1,←e3]
theorem Wj (it:Operand) (s:Bool):gu E F n (.next it s) (wO E F n it (fun g=> .wr fun r h=>Ed h (g r) s) .bad):=by
 rcases b7 E F n it (fun g=>(.wr fun r h=>Ed h (g r) s:Kd F.T)) .bad with h | ⟨g,h,hg⟩<;>rw[h]
 · trivial
 refine ⟨⟨fun _=>rfl,fun _ _=>rfl,fun _=>rfl⟩,fun call r h rc o p ho e=>?_⟩
 simp only[dm,ho,hg,e]
theorem RZ (x:Operand):gu E F n (.panic x) (wO E F n x (fun g=> .uE fun _ r h _=>rh (fun t w=> .panic (.iface t w) h) (.fail "" none) (g r)) .bad):=by
 rcases b7 E F n x (fun g=>(.uE fun _ r h _=>rh (fun t w=> .panic (.iface t w) h) (.fail "" none) (g r):Kd F.T)) .bad with h | ⟨g,h,hg⟩<;>rw[h]
 · trivial
 refine ⟨⟨fun _=>rfl,fun _ _=>rfl,fun _=>rfl⟩,fun fc call _ r h rc o ho=>?_⟩
 rcases I5 (f:=fun t w=>yE.panic (.iface t w) h) (why:= "") (o:=none) (g r) with ⟨t,w,e⟩ | e
 · simp only[dm,ho,hg,e];rfl
 · show X3 (rh _ _ _) _
   rw[e];trivial
theorem R0 (c:Call):gu E F n (.defer c) (.uE fun _ r _ rc=>match rc,callee E (fi F n r) c with
 | .sm _,_=> .fail "" none
 | _,some (.fn f,args)=> .defer (.call f args)
 | _,_=> .fail "" none):=by
 refine ⟨⟨fun _=>rfl,fun _ _=>rfl,fun _=>rfl⟩,fun fc call _ r h rc o ho=>?_⟩
 simp only[dm,ho]
 cases rc with
 | sm l=>trivial
 | _=>cases hc:callee E (fi F n r) c with
   | none=>trivial
   | some p=>obtain ⟨f,args⟩:=p;cases f<;>first | trivial | rfl
theorem Lk (src dst:TypeId) (x:Operand):gu E F n (.convert src dst x) (wO E F n x (M6 E src dst) .bad):=by
 rcases b7 E F n x (M6 E src dst) (.bad:Kd F.T) with h | ⟨g,h,hg⟩<;>rw[h]
 · trivial
 unfold M6
 simp only[ji]
 cases hs:E.P.underlying src with
 | none=>trivial
 | some ds=>cases hd:E.P.underlying dst with
   | none=>cases ds<;>trivial
   | some dd=>
     cases ds<;>cases dd<;>try trivial
     case int.int k k'=>
      intro r v e
      obtain ⟨j,m,e1,e2⟩:=jR e
      simp only[bE,hs,hd,hg,e1]
      rw[←oS];exact e2
     case string.string=>
      intro r v e
      obtain ⟨s,e1,e2⟩:=oP e
      simp only[bE,hs,hd,hg,e1];exact e2
     case string.slice e=>
      refine ⟨⟨fun _=>by simp only[bE,hs,hd],fun _ _=>by simp only[dW,hs,hd],fun _=>rfl⟩,fun call r h rc o p ho e=>?_⟩
      simp only[dm,ho,hg,e]
     case slice.string el=>
      simp only
      cases he:E.P.underlying el with
      | none=>trivial
      | some de=>
        cases de<;>try trivial
        rename_i k
        cases k<;>try trivial
        intro r h v e
        rcases oQ e with ⟨e1,e2⟩ | ⟨i,o,l,c,b,e1,e2⟩
        · refine .inr ⟨by simp only[bE,hs,hd,hg,e1],?_⟩
          simp only[dW,hs,hd,hg,he]
          simp only[e1];exact e2
        · refine .inr ⟨by simp only[bE,hs,hd,hg,e1],?_⟩
          simp only[dW,hs,hd,hg,he]
          simp only[e1]
          obtain ⟨l',h1,e3⟩:=gN e2
          simp only[h1];exact e3
end Go.Ab.Fa
end
