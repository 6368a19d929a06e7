import Derived.Test.YtjbgioidmaofiaaGreatDoorA4
import Derived.Test.YtjbgioidmaofiaaGreatDoorA0
set_option linter.unusedVariables false
set_option linter.unusedSimpArgs false
section
namespace Go.Ab.Fa
structure W (α:Type) where
 f:α
section
variable {α β T:Type}
noncomputable def wW (w:W α) (k:α→β):β:=W.rec (motive:=fun _=>β) k w
noncomputable def wA (a:Acc T) (k:(T→AV)→β):β:=Acc.rec (motive:=fun _=>β) k a
noncomputable def wU (a:VO T) (k:(AV→T→T)→β):β:=VO.rec (motive:=fun _=>β) k a
end
structure Y where
 ds:List kb
 rc:RC
inductive FO (T:Type) where
 | CY (r:T) (h:ag) (y:Y)
 | jmp (e:gR) (r:T) (h:ag) (y:Y)
 | bad
structure I (T:Type) where
 run:aB→T→ag→Y→FO T
structure C (T:Type) where
 run:Nat→aB→T→ag→Y→FO T
inductive Kd (T:Type) where
 | B8 (f:T→AV)
 | ei (f:T→Option AV)
 | red (f:T→ag→Option AV)
 | nZ (f:T→Option (aw×(Nat→AV)))
 | wr (f:T→ag→Option (AV×ag))
 | call (g:Fn) (args:T→List AV)
 | pS (f:aB→T→ag→RC→sD)
 | bad
section
variable (E:Env) (F:RF) (n:Nat)
noncomputable def wT {β:Type} (i:Nat) (k:(F.T→AV)→β):β:=bc (Nat.ble n i) (k fun _=>AV.undef) (wA (F.get i) k)
noncomputable def wO {β:Type} (x:Operand) (k:(F.T→AV)→β) (d:β):β:=match x with
 | .tmp t=>wT F n t k
 | .const v=>match ofConst v with
   | some a=>k fun _=>a
   | none=>d
 | .global g=>bc (Nat.ble E.G g) d (k fun _=> .ptr g 0)
 | .func f=>k fun _=> .func f [] []
noncomputable def wL {β:Type} (l:List Operand) (k:(F.T→List AV)→β) (d:β):β:=match l with
 | []=>k fun _=> []
 | x::xs=>wO E F n x (fun g=>wL xs (fun gs=>k fun r=>g r::gs r) d) d
noncomputable def wP {β:Type} (o:Option Operand) (k:Option (F.T→AV)→β) (d:β):β:=match o with
 | none=>k none
 | some x=>wO E F n x (fun g=>k (some g)) d
noncomputable def wS {β:Type} (o:Option Tmp) (k:(AV→F.T→F.T)→β):β:=match o with
 | none=>k fun _ r=>r
 | some i=>bc (Nat.ble n i) (k fun _ r=>r) (wU (F.set i) k)
noncomputable def qZ (t:TypeId):Option Nat:=ob none (fun i=>some i.size) (tW E.P t)
noncomputable def SP (t:TypeId):Option Nat:=if E.Yc=some t then none else ob none (fun i=>some i.bytes) (tW E.P t)
noncomputable def EM (t:TypeId):Option AV:=ob none (fun i=>ob none (fun z=>ofConst z) i.zero) (tW E.P t)
noncomputable def Z4 (t:TypeId):Option Bool:=match gN E.P t with
 | some (.struct _)=>some true
 | some (.array _ _)=>some true
 | some _=>some false
 | none=>none
noncomputable def UP (t:TypeId) (f:Nat):Option Field:=match gN E.P t with
 | some (.struct fs)=>fK fs.toList f
 | _=>none
variable {T:Type}
noncomputable def KC (op:BinOp):W (IntKind→Int→Int→Option AV):=match op with
 | .add=>⟨fun k a b=>some (.int k (qa k (mT a b)))⟩
 | .sub=>⟨fun k a b=>some (.int k (qa k (ea a b)))⟩
 | .mul=>⟨fun k a b=>some (.int k (qa k (CM a b)))⟩
 | .eql=>⟨fun _ a b=>some (.bool (Q9 a b))⟩
 | .neq=>⟨fun _ a b=>some (.bool (qA (Q9 a b)))⟩
 | .lss=>⟨fun _ a b=>some (.bool (OZ a b))⟩
 | .leq=>⟨fun _ a b=>some (.bool (qA (OZ b a)))⟩
 | .gtr=>⟨fun _ a b=>some (.bool (OZ b a))⟩
 | .geq=>⟨fun _ a b=>some (.bool (qA (OZ a b)))⟩
 | op=>⟨O0 op⟩
noncomputable def Iy (op:BinOp):W (List UInt8→List UInt8→Option AV):=match op with
 | .eql=>⟨fun a b=>some (.bool (leq vz a b))⟩
 | .neq=>⟨fun a b=>some (.bool (qA (leq vz a b)))⟩
 | op=>⟨mF op⟩
noncomputable def O6 (f:IntKind→Int→Int→Option AV) (g:List UInt8→List UInt8→Option AV) (s5:AV→AV→Option AV) (a b:AV):Option AV:=
 jH (fun k x=>jH (fun j y=>bc (Kt k j) (f k x y) none) none b) (lQ (fun s=>lQ (fun t=>g s t) none b) (s5 a b) a) a
noncomputable def aN (op:BinOp) (s5:AV→AV→Option AV) (ga gb:T→AV):Kd T:=match op with
 | .shl=> .ei fun r=>jH (fun k x=>jH (fun _ y=>VP k x y) none (gb r)) none (ga r)
 | .shr=> .ei fun r=>jH (fun k x=>jH (fun _ y=>VQ k x y) none (gb r)) none (ga r)
 | op=>wW (KC op) fun f=>wW (Iy op) fun g=> .ei fun r=>O6 f g s5 (ga r) (gb r)
noncomputable def VS (op:UnOp) (ga:T→AV):Kd T:=match op with
 | .not=> .ei fun r=>gd (fun b=>some (.bool (qA b))) none (ga r)
 | op=> .ei fun r=>Uz op (ga r)
noncomputable def KD (cs:List AV) (o:Nat):Option AV:=fK cs o
noncomputable def KE (n:Nat) (cs:List AV) (o:Nat):Option AV:=bc (Nat.ble (Nat.add o n) (fJ cs)) (some (.agg (oq (oo cs o) n))) none
noncomputable def rE (t:TypeId) (k:(List AV→Nat→Option AV)→Kd T):Kd T:=match Z4 E t with
 | some true=>match qZ E t with
   | some n=>k (KE n)
   | none=> .bad
 | some false=>k KD
 | none=> .bad
noncomputable def CZ (p:List AV→Nat→Option AV) (h:ag) (a:AV):Option AV:=
 sR (fun i o=>ob none (fun obj=>sU (fun cs _ _=>p cs o) none obj) (h.get i)) none a
noncomputable def vE (n:Nat) (h:ag) (a v:AV):Option (AV×ag):=
 sR (fun i o=>ob none (fun obj=>sU (fun cs e ro=>bc ro none
  (bc (Nat.beq (fJ (iw v)) n) (bc (Nat.ble (Nat.add o n) (fJ cs)) (bc (sW O1 (iw v)) (some (AV.undef,h.put i (some (.cells (CP (iw v) cs o) e false)))) none) none) none)) none obj) (h.get i)) none a
noncomputable def AR (len size:Nat) (i o:Nat) (ix:AV):Option AV:=
 jH (fun _ n=>gq (fun m=>bc (Nat.ble len m) none (some (.ptr i (Nat.add o (Nat.mul m size))))) none n) none ix
noncomputable def AS (d y:Nat) (o:Option AV) (k:Nat→Option AV):Option AV:=
 ob (k d) (fun v=>jH (fun _ i=>gq (fun m=>bc (Nat.ble m y) (k m) none) none i) none v) o
noncomputable def Yx (size:Nat) (lo hi:Option AV) (v:AV):Option AV:=
 gn (AS 0 0 hi fun h=>AS 0 h lo fun _=>some .aj)
  (fun i o len cap op=>bc (Nat.ble len cap) (AS len cap hi fun h=>AS 0 h lo fun l=>
   bc (Nat.beq cap l) (bc op (some .cJ) (some (.slice i o (Nat.sub h l) (Nat.sub cap l) false))) (some (.slice i (Nat.add o (Nat.mul l size)) (Nat.sub h l) (Nat.sub cap l) op))) none) none v
noncomputable def Yy (lo hi:Option AV) (v:AV):Option AV:=
 lQ (fun s=>AS (fJ s) (fJ s) hi fun h=>AS 0 h lo fun l=>some (.str (oq (oo s l) (Nat.sub h l)))) none v
noncomputable def Yz (m size:Nat) (lo hi:Option AV) (v:AV):Option AV:=
 sR (fun i o=>AS m m hi fun h=>AS 0 h lo fun l=>some (.slice i (bc (Nat.beq m l) o (Nat.add o (Nat.mul l size))) (Nat.sub h l) (Nat.sub m l) false)) none v
noncomputable def yA (o:Option (T→AV)) (r:T):Option AV:=ob none (fun g=>some (g r)) o
noncomputable def VT (v:AV):Option Nat:=gn (some 0) (fun _ _ n _ _=>some n) (lQ (fun s=>some (fJ s)) (jU v) v) v
noncomputable def KF (h:ag) (size n:Nat) (v:AV):Option (List AV):=
 gn (bc (Nat.beq n 0) (some []) none) (fun i o len _ _=>bc (Nat.ble n len) (ob none (fun obj=>sU (fun cs _ _=>bc (Nat.ble (Nat.add o (Nat.mul n size)) (fJ cs)) (some (oq (oo cs o) (Nat.mul n size))) none) none obj) (h.get i)) none)
  (cP h size n v) v
noncomputable def VU (elem:TypeId) (size bytes:Nat) (h:ag) (s x:AV):Option (AV×ag):=
 ob none (fun n=>ob none (fun new=>bc (sW O1 new) (bc (Nat.beq (fJ new) (Nat.mul n size))
  (gn
   (bc (Nat.beq n 0) (some (.aj,h)) (bc (Nat.ble (Nat.mul (Nat.add (Nat.mul 4 n) 4096) (Nat.add bytes 1)) 1099511627776)
    (ob none (fun h'=>some (.slice h.nx 0 n n true,h')) (h.new (.cells new elem false))) none))
   (fun i o len cap op=>ob none (fun obj=>sU (fun cs e ro=>bc ro none
    (bc (Nat.ble (Nat.add len n) cap)
     (bc (Nat.ble (Nat.add o (Nat.mul (Nat.add len n) size)) (fJ cs)) (some (.slice i o (Nat.add len n) cap op,h.put i (some (.cells (CP new cs (Nat.add o (Nat.mul len size))) e false)))) none)
     (bc (Nat.ble (Nat.mul (Nat.add (Nat.mul 4 (Nat.add len n)) 4096) (Nat.add bytes 1)) 1099511627776)
      (bc (Nat.ble (Nat.add o (Nat.mul len size)) (fJ cs))
       (bc op
        (bc (Nat.beq e elem) (bc (Nat.beq (Nat.add o (Nat.mul cap size)) (fJ cs)) (bc (Nat.beq o 0)
         (ob none (fun h'=>some (.slice h.nx 0 (Nat.add len n) (Nat.add len n) true,h')) ((h.put i none).new (.cells (il (oq (oo cs o) (Nat.mul len size)) new) elem false))) none) none) none)
        (ob none (fun h'=>some (.slice h.nx 0 (Nat.add len n) (Nat.add len n) true,h')) (h.new (.cells (il (oq (oo cs o) (Nat.mul len size)) new) elem false)))) none) none)))
    none obj) (h.get i))
   none s) none) none) (KF h size n x)) (VT x)
noncomputable def FA (argTypes:Array TypeId) (gs gx:T→AV):Kd T:=match fK argTypes.toList 0,fK argTypes.toList 1 with
 | some sT,some xT=>match gN E.P sT,gN E.P xT with
   | some (.slice elem),some xd=>if iS xd then .wr fun r h=>nX E h elem (gs r) (gx r) else match qZ E elem,SP E elem,EM E elem with
     | some size,some bytes,some z=>if z.cells.length=size then .wr fun r h=>VU elem size bytes h (gs r) (gx r) else .bad
     | _,_,_=> .bad
   | _,_=> .bad
 | _,_=> .bad
noncomputable def O7 {β:Type} (l:List (Nat×Operand)) (k:(F.T→List (Nat×AV))→β) (d:β):β:=match l with
 | []=>k fun _=> []
 | (i,x)::xs=>wO E F n x (fun g=>O7 xs (fun gs=>k fun r=>(i,g r)::gs r) d) d
noncomputable def uS (fs:List Field):Option (List (Nat×Nat)):=List.rec (motive:=fun _=>Option (List (Nat×Nat))) (some []) (fun f _ ih=>ob none (fun n=>ob none (fun l=>some ((f.offset,n)::l)) ih) (qZ E f.type)) fs
noncomputable def C1 (ps:List (Nat×Nat)) (cs:List AV) (l:List (Nat×AV)):Option (List AV):=
 List.rec (motive:=fun _=>List AV→Option (List AV)) (fun cs=>some cs) (fun p _ ih cs=>ob none (fun (q:Nat×Nat)=>bc (Nat.beq (fJ (iw p.2)) q.2) (bc (Nat.ble (Nat.add q.1 q.2) (fJ cs)) (ih (CP (iw p.2) cs q.1)) none) none) (fK ps p.1)) l cs
noncomputable def SQ (z:List AV) (m:Nat):List AV:=Nat.rec (motive:=fun _=>List AV) [] (fun _ ih=>il z ih) m
noncomputable def O8 (elem:TypeId) (bytes:Nat) (z:List AV) (l c:AV):Option (aw×(Nat→AV)):=
 jH (fun _ len=>jH (fun _ cap=>gq (fun len=>gq (fun cap=>bc (Nat.ble len cap) (bc (Nat.ble 1073741824 cap) none (bc (Nat.ble (Nat.mul bytes cap) 140737488355328)
  (some (.cells (SQ z cap) elem false,fun i=> .slice i 0 len cap false)) none)) none) none cap) none len) none c) none l
noncomputable def findF (k:List UInt8) (l:List dY):Option (Option AV):=List.rec (motive:=fun _=>Option (Option AV)) (some none) (fun e _ ih=>lQ (fun s=>bc (leq vz k s) (some (some e.val)) ih) none e.key) l
noncomputable def O9 {R:Type} (f:List dY→R) (d:R) (o:aw):R:=
 aw.rec (motive:=fun _=>R) (fun _ _ _=>d) (fun es _=>f es) (fun _ _=>d) (fun _ _ _ _=>d) (fun _ _ _ _ _ _ _=>d) d o
noncomputable def VW {R:Type} (e:R) (f:Nat→R) (d:R) (v:AV):R:=
 AV.rec (motive_1:=fun _=>R) (motive_2:=fun _=>Unit) (fun _=>d) (fun _ _=>d) (fun _=>d) d (fun _ _=>d) d (fun _ _ _ _ _=>d) e (fun i=>f i) (fun _ _ _ _ _=>d) (fun _=>d) d (fun _ _ _=>d) d (fun _ _=>d) (fun _ _=>d) d d () (fun _ _ _ _=>()) v
noncomputable def Ha (h:ag) (m:AV):Option AV:=
 VW (some (.int .i64 (Int.ofNat 0))) (fun i=>ob none (fun o=>O9 (fun es=>some (.int .i64 (Int.ofNat (fJ es)))) none o) (h.get i)) none m
noncomputable def Hb (z:AV) (ok:Bool) (h:ag) (m k:AV):Option AV:=
 lQ (fun s=>ob none (fun es=>ob none (fun r=>some (ob (bc ok (.tuple [z,.bool false]) z) (fun v=>bc ok (.tuple [v,.bool true]) v) r)) (findF s es))
  (VW (some []) (fun i=>ob none (fun o=>O9 (fun es=>some es) none o) (h.get i)) none m)) none k
noncomputable def jo (o:fR):sD:=fR.rec (motive:=fun _=>sD) .val .panic .fail o
noncomputable def C2 (t:TypeId) (name:String):Option FuncId:=rb E t name
noncomputable def Rb (c:Call) (op:Op):Kd F.T:=match c.callee with
 | .invoke x name=>wO E F n x (fun gx=>wL E F n c.args.toList (fun gs=> .pS fun call r h _=>mS
  (fun t v=>ob (.fail "" none) (fun f=>jo (call (.fn f) (v::gs r) h)) (C2 E t name)) (.fail "" none) (gx r)) .bad) .bad
 | .value (.func f)=>wL E F n c.args.toList (fun gs=>match E.jg f with
   | some e=> .ei fun r=>e (gs r)
   | none=>match E.ff f with
     | some g=> .wr fun r h=>g (gs r) h
     | none=> .call (.fn f) gs) .bad
 | .value x=>wO E F n x (fun gf=>wL E F n c.args.toList (fun gs=> .pS fun call r h _=>G9
  (fun g first captured=>ob (jo (call (.fn g) (il first (il (gs r) captured)) h)) (fun sp=>ob (.fail "" none) (fun p=> .val p.1 p.2) (sp (il first (il (gs r) captured)) h)) (E.ff g))
  (fun l=>jo (call (.tK l) (gs r) h)) (.fail "" none) (gf r)) .bad) .bad
 | .builtin .len=>match fK c.argTypes.toList 0,c.args.toList with
   | some t,[x]=>wO E F n x (fun g=>match gN E.P t with
     | some .string=> .ei fun r=>lQ (fun s=>some (.int .i64 (Int.ofNat (fJ s)))) none (g r)
     | some (.array m _)=> .ei fun _=>some (.int .i64 (Int.ofNat m))
     | some (.slice _)=> .ei fun r=>gn (some (.int .i64 (Int.ofNat 0))) (fun _ _ m _ _=>some (.int .i64 (Int.ofNat m))) (vZ (some (.int .i64 (Int.ofNat 0))) none (g r)) (g r)
     | some (.map _ _)=> .red fun r h=>Ha h (g r)
     | _=> .bad) .bad
   | _,_=> .bad
 | .builtin .cap=>match fK c.argTypes.toList 0,c.args.toList with
   | some t,[x]=>wO E F n x (fun g=>match gN E.P t with
     | some (.slice _)=> .ei fun r=>gn (some (.int .i64 (Int.ofNat 0))) (fun _ _ _ c b=>bc b none (some (.int .i64 (Int.ofNat c)))) none (g r)
     | _=> .bad) .bad
   | _,_=> .bad
 | .builtin .max=> .ei fun r=>aG E (cX F n r) op
 | .builtin .min=> .ei fun r=>aG E (cX F n r) op
 | .builtin .append=>match c.args.toList with
   | [s,x]=>wO E F n s (fun gs=>wO E F n x (fun gx=>FA E c.argTypes gs gx) .bad) .bad
   | _=> .bad
 | .builtin .copy=>match c.args.toList with
   | [s,x]=>wO E F n s (fun gs=>wO E F n x (fun gx=> .wr fun r h=>pZ E h c.argTypes (gs r) (gx r)) .bad) .bad
   | _=> .bad
 | .builtin .recover=> .pS fun _ _ h rc=>match rc with
   | .fH x=> .nz x
   | .B6 _=> .fail "" none
   | _=> .val .nilIface h
 | _=> .bad
noncomputable def Hc (src dst:TypeId) (g:T→AV):Kd T:=match gN E.P src,gN E.P dst with
 | some (.int _),some (.int k)=> .ei fun r=>jH (fun _ n=>some (.int k (qa k n))) none (g r)
 | some .string,some .string=> .ei fun r=>lQ (fun s=>some (.str s)) none (g r)
 | some (.slice e),some .string=>match gN E.P e with
   | some (.int .u8)=> .red fun r h=>gn (some (.str [])) (fun i o len _ _=>ob none (fun l=>some (.str l)) (pq h i o len)) none (g r)
   | _=> .bad
 | some .string,some (.slice _)=> .wr fun r h=>ra E h src dst (some (g r))
 | _,_=> .bad
noncomputable def qb (op:Op):Kd F.T:=match op with
 | .move x=>wO E F n x .B8 .bad
 | .assign x=>wO E F n x .B8 .bad
 | .pick c a b=>wO E F n c (fun gc=>wO E F n a (fun ga=>wO E F n b (fun gb=> .ei fun r=>gd (fun t=>bc t (some (ga r)) (some (gb r))) none (gc r)) .bad) .bad) .bad
 | .binOp op t x y _=>wO E F n x (fun gx=>wO E F n y (fun gy=>aN op (gH E op t (isConst x) (isConst y)) gx gy) .bad) .bad
 | .unOp op _ x=>wO E F n x (VS op) .bad
 | .fieldAddr s x f=>match UP E s f with
   | some fd=>match qZ E fd.type with
     | some (_+1)=>wO E F n x (fun g=> .ei fun r=>sR (fun i o=>some (.ptr i (Nat.add o fd.offset))) none (g r)) .bad
     | _=> .bad
   | none=> .bad
 | .load t a=>wO E F n a (fun g=>rE E t fun p=> .red fun r h=>CZ p h (g r)) .bad
 | .store t a x=>match qZ E t with
   | some m=>wO E F n a (fun ga=>wO E F n x (fun gx=> .wr fun r h=>vE m h (ga r) (gx r)) .bad) .bad
   | none=> .bad
 | .nilCheck x=>wO E F n x (fun g=> .ei fun r=>bc (AJ (g r)) (some (g r)) none) .bad
 | .extract x i=>wO E F n x (fun g=> .ei fun r=>sS (fun _=>none) (fun vs=>fK vs i) none (g r)) .bad
 | .field s x f=>match UP E s f with
   | some fd=>wO E F n x (fun g=>rE E fd.type fun p=> .ei fun r=>sS (fun cs=>p cs fd.offset) (fun _=>none) none (g r)) .bad
   | none=> .bad
 | .indexAddr t x ix=>wO E F n x (fun gx=>wO E F n ix (fun gi=>match gN E.P t with
   | some (.array len elem)=>match qZ E elem with
     | some size=> .ei fun r=>sR (fun i o=>AR len size i o (gi r)) none (gx r)
     | none=> .bad
   | some (.slice elem)=>match qZ E elem with
     | some size=> .ei fun r=>gn none (fun i o len _ _=>AR len size i o (gi r)) none (gx r)
     | none=> .bad
   | _=> .bad) .bad) .bad
 | .index t x ix=>wO E F n x (fun gx=>wO E F n ix (fun gi=>match gN E.P t with
   | some .string=> .ei fun r=>lQ (fun s=>jH (fun _ i=>gq (fun m=>ob none (fun (b:UInt8)=>some (.int .u8 (Int.ofNat b.toNat))) (fK s m)) none i) none (gi r)) none (gx r)
   | _=> .ei fun r=>aG E (cX F n r) op) .bad) .bad
 | .slice t x lo hi none=>wO E F n x (fun gx=>wP E F n lo (fun gl=>wP E F n hi (fun gh=>match gN E.P t with
   | some (.slice elem)=>match qZ E elem with
     | some size=> .ei fun r=>Yx size (yA gl r) (yA gh r) (gx r)
     | none=> .bad
   | some .string=> .ei fun r=>Yy (yA gl r) (yA gh r) (gx r)
   | some (.array m elem)=>match qZ E elem with
     | some size=> .ei fun r=>Yz m size (yA gl r) (yA gh r) (gx r)
     | none=> .bad
   | _=> .ei fun r=>aG E (cX F n r) op) .bad) .bad) .bad
 | .convert src dst x=>wO E F n x (Hc E src dst) .bad
 | .makeInterface t x=>match gN E.P t with
   | some (.interface _)=> .bad
   | some _=>wO E F n x (fun g=> .B8 fun r=> .iface t (g r)) .bad
   | none=> .bad
 | .makeFunc (.func f) first captured=>wL E F n first.toList (fun ga=>wL E F n captured.toList (fun gb=> .B8 fun r=> .func f (ga r) (gb r)) .bad) .bad
 | .alloc t=>match EM E t with
   | some z=> .nZ fun _=>some (.cells z.cells t false,fun i=> .ptr i 0)
   | none=> .bad
 | .box t x=>wO E F n x (fun g=> .nZ fun r=>some (.cells (iw (g r)) t false,fun i=> .ptr i 0)) .bad
 | .buildSlice t len parts=>match gN E.P t with
   | some (.slice elem)=>match qZ E elem,EM E elem with
     | some m,some z=>if z.cells.length=m∧len*m≤2^24 then O7 E F n parts.toList (fun gp=> .nZ fun r=>ob none (fun cs=>some (.cells cs elem false,fun i=> .slice i 0 len len false)) (mb (fun i=>some (i*m,m)) (dD z.cells len) (gp r))) .bad else .bad
     | _,_=> .bad
   | _=> .bad
 | .makeSlice t l c=>wO E F n l (fun gl=>wO E F n c (fun gc=>match gN E.P t with
   | some (.slice elem)=>match qZ E elem,SP E elem,EM E elem with
     | some m,some bytes,some z=>if z.cells.length=m then .nZ fun r=>O8 elem bytes z.cells (gl r) (gc r) else .bad
     | _,_,_=> .bad
   | _=> .bad) .bad) .bad
 | .makeMap _ none=> .nZ fun _=>some (.map [] 0,fun i=> .map i)
 | .makeMap .. | .range .. => .nZ fun r=>cq E (cX F n r) op
 | .lookup t x ix ok=>wO E F n x (fun gx=>wO E F n ix (fun gi=>match gN E.P t with
   | some (.map key elem)=>match gN E.P key,EM E elem with
     | some .string,some z=> .red fun r h=>Hb z ok h (gx r) (gi r)
     | _,_=> .red fun r h=>cB E (cX F n r) h op
   | _=> .bad) .bad) .bad
 | .build t parts=>match EM E t,gN E.P t with
   | some z,some (.struct fs)=>match uS E fs.toList with
     | some ps=>O7 E F n parts.toList (fun gp=> .ei fun r=>ob none (fun cs=>some (.agg cs)) (C1 ps (iw z) (gp r))) .bad
     | none=> .bad
   | _,_=> .ei fun r=>aG E (cX F n r) op
 | .slice .. | .typeAssert .. => .ei fun r=>aG E (cX F n r) op
 | .mapUpdate t m k x=>wO E F n m (fun gm=>wO E F n k (fun gk=>wO E F n x (fun gx=> .wr fun r h=>ob none (fun h'=>some (AV.undef,h')) (cQ E h t (gm r) (gk r) (gx r))) .bad) .bad) .bad
 | .insert t m k x=>wO E F n m (fun gm=>wO E F n k (fun gk=>wO E F n x (fun gx=> .wr fun r h=>ob none (fun h'=>some (AV.undef,h')) (cQ E h t (gm r) (gk r) (gx r))) .bad) .bad) .bad
 | .next it s=>wO E F n it (fun g=> .wr fun r h=>yR h (g r) s) .bad
 | .panic x=>wO E F n x (fun g=> .pS fun _ r h _=>mS (fun t w=> .panic (.iface t w) h) (.fail "" none) (g r)) .bad
 | .defer c=> .pS fun _ r _ rc=>match rc,callee E (cX F n r) c with
   | .B6 _,_=> .fail "" none
   | _,some (.fn f,args)=> .defer (.call f args)
   | _,_=> .fail "" none
 | .call c=>Rb E F n c op
 | _=> .bad
noncomputable def FC (kd:Kd T) (s:AV→T→T) (j:I T):I T:=match kd with
 | .B8 g=>⟨fun call r h y=>j.run call (s (g r) r) h y⟩
 | .ei f=>⟨fun call r h y=>ob .bad (fun v=>j.run call (s v r) h y) (f r)⟩
 | .red f=>⟨fun call r h y=>ob .bad (fun v=>j.run call (s v r) h y) (f r h)⟩
 | .nZ f=>⟨fun call r h y=>ob .bad (fun p=>ob .bad (fun h'=>j.run call (s (p.2 h.nx) r) h' y) (h.new p.1)) (f r)⟩
 | .wr f=>⟨fun call r h y=>ob .bad (fun p=>j.run call (s p.1 r) p.2 y) (f r h)⟩
 | .call g args=>⟨fun call r h y=>fR.rec (motive:=fun _=>FO T) (fun v h'=>j.run call (s v r) h' y) (fun v h'=> .jmp (.panic v) r h' y) (fun _ _=> .bad) (call g (args r) h)⟩
 | .pS f=>⟨fun call r h y=>sD.rec (motive:=fun _=>FO T) (fun v h'=>j.run call (s v r) h' y) (fun d=>j.run call (s AV.undef r) h ⟨d::y.ds,y.rc⟩) (fun v=>j.run call (s v r) h ⟨y.ds,.done⟩)
  (fun v h'=> .jmp (.panic v) r h' y) (fun _ _=> .bad) (f call r h y.rc)⟩
 | .bad=>⟨fun _ _ _ _=> .bad⟩
noncomputable def Rc (s:AV→T→T) (j:I T):I T:=⟨fun call r h y=>j.run call (s AV.undef r) h y⟩
noncomputable def FD (g:T→AV) (want:Bool) (a b:I T):I T:=match want with
 | true=>⟨fun call r h y=>gd (fun t=>bc t (a.run call r h y) (b.run call r h y)) (b.run call r h y) (g r)⟩
 | false=>⟨fun call r h y=>gd (fun t=>bc t (b.run call r h y) (a.run call r h y)) (b.run call r h y) (g r)⟩
noncomputable def Hd (ops:Array Oper) (o:Oper) (a b:I F.T):I F.T:=match o.guard with
 | none=>a
 | some (j,want)=>match ob none (fun p=>p.dst) (fK ops.toList j) with
   | some d=>bc (Nat.ble n d) b (wA (F.get d) fun g=>FD g want a b)
   | none=>b
noncomputable def KG (ops:Array Oper) (o:Oper) (j:I F.T):I F.T:=wS F n o.dst fun s=>Hd F n ops o (FC (qb E F n o.op) s j) (Rc s j)
noncomputable def pG (ops:Array Oper) (l:List Oper):I F.T:=List.rec (motive:=fun _=>I F.T) ⟨fun _ r h y=> .CY r h y⟩ (fun o _ j=>KG E F n ops o j) l
noncomputable def VX (s5:AV→AV→Bool) (x y:AV):Bool:=
 jH (fun k a=>jH (fun j b=>bc (Kt k j) (Q9 a b) false) false y)
  (lQ (fun s=>lQ (fun t=>leq vz s t) false y)
   (sR (fun i o=>sR (fun j p=>bc (Nat.beq i j) (Nat.beq o p) false) false y)
    (gd (fun a=>gd (fun b=>bc a b (qA b)) false y) (s5 x y) x) x) x) x
noncomputable def vF (m:Nat):AV→AV→Bool:=Nat.rec (motive:=fun _=>AV→AV→Bool) (fun _ _=>false)
 (fun i ih x y=>VX (fun x y=>sS (fun a=>sS (fun b=>leq ih a b) (fun _=>false) false y) (fun _=>AV.same (i+1) x y) (AV.same (i+1) x y) x) x y) m
structure Iz where
 k:Nat
 m:Nat
 made:Option Nat
 f:ag→Bool
inductive DO (T:Type) where
 | ok (tr:List Iz) (hs:List ag) (r:T) (h:ag) (y:Y)
 | bad
structure D (T:Type) where
 run:aB→T→ag→Y→DO T
noncomputable def zj (x:Iz) (d:DO T):DO T:=DO.rec (motive:=fun _=>DO T) (fun tr hs r h y=> .ok (x::tr) hs r h y) .bad d
noncomputable def mV (h0:ag) (d:DO T):DO T:=DO.rec (motive:=fun _=>DO T) (fun tr hs r h y=> .ok tr (h0::hs) r h y) .bad d
noncomputable def He (kd:Kd T) (s:AV→T→T) (j:D T):D T:=match kd with
 | .wr f=>⟨fun call r h y=>ob .bad (fun p=>mV h (j.run call (s p.1 r) p.2 y)) (f r h)⟩
 | .call g args=>⟨fun call r h y=>fR.rec (motive:=fun _=>DO T) (fun v h'=>mV h (j.run call (s v r) h' y)) (fun _ _=> .bad) (fun _ _=> .bad) (call g (args r) h)⟩
 | .pS f=>⟨fun call r h y=>sD.rec (motive:=fun _=>DO T) (fun v h'=>mV h (j.run call (s v r) h' y)) (fun _=> .bad) (fun _=> .bad) (fun _ _=> .bad) (fun _ _=> .bad) (f call r h y.rc)⟩
 | _=>⟨fun _ _ _ _=> .bad⟩
noncomputable def Hf (k m:Nat) (kd:Kd T) (s:AV→T→T) (j:D T):D T:=match kd with
 | .B8 g=>⟨fun call r h y=>j.run call (s (g r) r) h y⟩
 | .ei f=>⟨fun call r h y=>ob .bad (fun v=>j.run call (s v r) h y) (f r)⟩
 | .red f=>⟨fun call r h y=>ob .bad (fun v=>zj ⟨k,m,none,fun h'=>ob false (fun v'=>vF 20 v' v) (f r h')⟩ (j.run call (s v r) h y)) (f r h)⟩
 | .nZ f=>⟨fun call r h y=>ob .bad (fun p=>ob .bad (fun h'=>zj ⟨k,m,some h.nx,fun Hg=>ob false (fun o=>aw.same o p.1) (Hg.get h.nx)⟩ (j.run call (s (p.2 h.nx) r) h' y)) (h.new p.1)) (f r)⟩
 | _=>⟨fun _ _ _ _=> .bad⟩
noncomputable def KH (s:AV→T→T) (j:D T):D T:=⟨fun call r h y=>j.run call (s AV.undef r) h y⟩
noncomputable def FE (s:AV→T→T) (j:D T):D T:=⟨fun call r h y=>mV h (j.run call (s AV.undef r) h y)⟩
noncomputable def KI (g:T→AV) (want:Bool) (a b:D T):D T:=match want with
 | true=>⟨fun call r h y=>gd (fun t=>bc t (a.run call r h y) (b.run call r h y)) (b.run call r h y) (g r)⟩
 | false=>⟨fun call r h y=>gd (fun t=>bc t (b.run call r h y) (a.run call r h y)) (b.run call r h y) (g r)⟩
noncomputable def tX (ops:Array Oper) (o:Oper) (a b:D F.T):D F.T:=match o.guard with
 | none=>a
 | some (j,want)=>match ob none (fun p=>p.dst) (fK ops.toList j) with
   | some d=>bc (Nat.ble n d) b (wA (F.get d) fun g=>KI g want a b)
   | none=>b
noncomputable def fU (ops:Array Oper) (pl:iT) (l:List Nat):Nat→D F.T:=List.rec (motive:=fun _=>Nat→D F.T) (fun _=>⟨fun _ r h y=> .ok [] [h] r h y⟩)
 (fun i _ ih k=>ob ⟨fun _ _ _ _=> .bad⟩ (fun o=>wS F n o.dst fun s=>
  bc (mj E o.op) (canon (Nat.add k 1) fun k'=>tX F n ops o (He (qb E F n o.op) s (ih k')) (FE s (ih k')))
   (canon (Nat.sub (Nat.add (uR pl.aW pl.an i) 1) k) fun m=>tX F n ops o (Hf k m (qb E F n o.op) s (ih k)) (KH s (ih k)))) (fK ops.toList i)) l
noncomputable def Hh (tr:List Iz):List Nat:=List.rec (motive:=fun _=>List Nat) [] (fun x _ ih=>ob ih (fun i=>i::ih) x.made) tr
noncomputable def mW (tr:List Iz) (hs:List ag):Bool:=bc (AQ (Hh tr)) (sW (fun x=>sW x.f (oq (oo hs x.k) x.m)) tr) false
noncomputable def O_ (ops:Array Oper) (pl:iT) (call:aB) (r:F.T) (h:ag) (y:Y):FO F.T:=match pl.order.reverse with
 | []=> .bad
 | i::front=>match (fU E F n ops pl front.reverse 0).run call r h y,ops[i]? with
   | .ok tr hs r1 h1 y1,some ⟨dst,.call c,ty,pos,after,guard⟩=>
     match dv E (.call c)&&bE ops (cX F n r1) ⟨dst,.call c,ty,pos,after,guard⟩&&(List.range ops.size).all (fun j=>j==i||cm pl.an i j),
      bX E call (cX F n r1) h1 y1.rc ⟨dst,.call c,ty,pos,after,guard⟩ with
     | true,.panic v h'=>match mW tr (hs++[h']) with
       | true=> .jmp (.panic v) r1 h' y1
       | false=> .bad
     | _,_=> .bad
   | _,_=> .bad
noncomputable def Hj (ops:Array Oper):I F.T:=KA E ops (fun pl=>
 ⟨fun call r h y=>DO.rec (motive:=fun _=>FO F.T) (fun tr hs r' h' y'=>bc (mW tr hs) (.CY r' h' y') .bad) (O_ E F n ops pl call r h y) ((fU E F n ops pl pl.order 0).run call r h y)⟩) ⟨fun _ _ _ _=> .bad⟩
def Rd (r:T) (o:Out):FO T:=match o with
 | .ok .normal s=> .CY r s.h ⟨s.ds,s.rc⟩
 | .ok e s=> .jmp e r s.h ⟨s.ds,s.rc⟩
 | .fail _ _=> .bad
noncomputable def AT (f:Operand) (ps:Array Tmp) (as_ bd:Code):I F.T:=
 wO E F n f (fun _=>⟨fun call r h y=>Rd r (jC E call f ps as_ bd ⟨cX F n r,h,y.ds,y.rc⟩)⟩) ⟨fun _ _ _ _=> .bad⟩
noncomputable def nS {R:Type} (d:R) (k:Nat→R) (m:Nat):R:=Nat.rec (motive:=fun _=>R) d (fun i _=>k i) m
noncomputable def fo {R:Type} (a:T→ag→Y→R) (b:gR→T→ag→Y→R) (d:R) (o:FO T):R:=FO.rec (motive:=fun _=>R) a b d o
noncomputable def KJ {R:Type} (f:Nat→R) (d:R) (e:gR):R:=gR.rec (motive:=fun _=>R) d f d (fun _=>d) e
noncomputable def KL (b:C T) (m:Nat):aB→T→ag→Y→FO T:=
 Nat.rec (motive:=fun _=>aB→T→ag→Y→FO T) (fun _ _ _ _=> .bad) (fun i ih call r h y=>fo (fun r' h' y'=>ih call r' h' y') .jmp .bad (b.run i call r h y)) m
noncomputable def O' (i:I T):C T:=⟨fun m call r h y=>nS .bad (fun _=>i.run call r h y) m⟩
noncomputable def jq (c:Code):C F.T:=Code.rec (motive:=fun _=>C F.T)
 ⟨fun m _ r h y=>nS .bad (fun _=> .CY r h y) m⟩
 (fun _ ops draw=>bc draw (O' (Hj E F n ops)) (O' (pG E F n ops ops.toList)))
 (fun _ _ a b=>⟨fun m call r h y=>nS .bad (fun i=>fo (fun r' h' y'=>b.run i call r' h' y') .jmp .bad (a.run i call r h y)) m⟩)
 (fun x _ _ a b=>wO E F n x (fun g=>⟨fun m call r h y=>nS .bad (fun i=>gd (fun t=>bc t (a.run i call r h y) (b.run i call r h y)) .bad (g r)) m⟩) ⟨fun _ _ _ _ _=> .bad⟩)
 (fun id _ b=>⟨fun m call r h y=>nS .bad (fun i=>fo .CY (fun e r' h' y'=>KJ (fun j=>bc (Nat.beq j id) (.CY r' h' y') (.jmp e r' h' y')) (.jmp e r' h' y') e) .bad (b.run i call r h y)) m⟩)
 (fun _ b=>⟨fun m call r h y=>KL b m call r h y⟩)
 (fun f ps as_ bd _ _=>O' (AT E F n f ps as_ bd))
 (fun id=>⟨fun m _ r h y=>nS .bad (fun _=> .jmp (.exit id) r h y) m⟩)
 (fun _ b=>⟨fun m call r h y=>nS .bad (fun i=>b.run i call r h y) m⟩)
 (fun _=>⟨fun m _ r h y=>nS .bad (fun _=> .CY r h y) m⟩)
 (fun _=>⟨fun _ _ _ _ _=> .bad⟩)
 ⟨fun m _ r h y=>nS .bad (fun _=> .jmp .ret r h y) m⟩
 (fun _=>⟨fun _ _ _ _ _=> .bad⟩) c
end
section
variable (E:Env)
inductive BO where
 | fin (res:ag→Option (List AV)) (h:ag) (y:Y)
 | VY (v:AV) (res:ag→Option (List AV)) (h:ag) (y:Y)
 | bad
structure CF where
 run:Nat→aB→List AV→ag→RC→BO
noncomputable def s6 (F:RF) (n:Nat):List ResultVar→W (F.T→ag→Option (List AV))
 | []=>⟨fun _ _=>some []⟩
 | .tmp t::rest=>wT F n t fun g=>wW (s6 F n rest) fun k=>⟨fun r h=>ob none (fun vs=>some (g r::vs)) (k r h)⟩
 | .cell a t::rest=>wT F n a fun g=>wW (s6 F n rest) fun k=>⟨fun r h=>ob none (fun v=>ob none (fun vs=>some (v::vs)) (k r h)) (bH E h t (g r))⟩
noncomputable def KM (F:RF) (n:Nat) (fn:Func) (b:Code):CF:=
 wW (s6 E F n fn.results.toList) fun res=>⟨fun fuel call args h rc=>bc (Nat.ble (fJ args) n)
  (fo (fun r h' y=> .fin (res r) h' y) (fun e r h' y=>gR.rec (motive:=fun _=>BO) .bad (fun _=> .bad) (.fin (res r) h' y) (fun v=> .VY v (res r) h' y) e) .bad
   ((jq E F n b).run fuel call (JE F args F.z 0) h ⟨[],rc⟩)) .bad⟩
noncomputable def tY (f:FuncId):CF:=match SL E.P f with
 | none=>⟨fun _ _ _ _ _=> .bad⟩
 | some fn=>match fn.body with
   | none=>⟨fun _ _ _ _ _=> .bad⟩
   | some b=>bc (Nat.ble fn.ntmps 64) (KM E Yt fn.ntmps fn b) (bc (Nat.ble fn.ntmps 512) (KM E Yu fn.ntmps fn b) ⟨fun _ _ _ _ _=> .bad⟩)
noncomputable def bo {R:Type} (a:(ag→Option (List AV))→ag→Y→R) (b:AV→(ag→Option (List AV))→ag→Y→R) (d:R) (o:BO):R:=BO.rec (motive:=fun _=>R) a b d o
noncomputable def Hk (F:RF) (call:aB) (fuel:Nat) (c:Code) (s:St):Out:=
 fo (fun r h y=> .ok .normal ⟨cX F s.ts.length r,h,y.ds,y.rc⟩) (fun e r h y=> .ok e ⟨cX F s.ts.length r,h,y.ds,y.rc⟩) (.fail "" none) ((jq E F s.ts.length c).run fuel call (JE F s.ts F.z 0) s.h ⟨s.ds,s.rc⟩)
noncomputable def Hl (call:aB) (fuel:Nat) (c:Code) (s:St):Out:=
 bc (Nat.ble s.ts.length 64) (Hk E Yt call fuel c s) (bc (Nat.ble s.ts.length 512) (Hk E Yu call fuel c s) (.fail "" none))
noncomputable def vG (call:aB) (fuel:Nat) (l:Nat) (args:List AV) (h:ag):fR:=match h.get l with
 | some (.loop _ _ ts ps as_ bd _)=>if args.length=ps.length then
  match Hl E call fuel as_ {ts:=(ps.zip args).foldl (fun ts x=>ts.set x.1 x.2) ts,h,ds:=[],rc:= .B6 l} with
  | .ok .normal s1=>match s1.h.get l with
    | some (.loop .ready pd Sg QR Om Sh Si)=>
      match Hl E call fuel bd {s1 with h:=s1.h.put l (some (.loop .busy pd Sg QR Om Sh Si))} with
      | .ok .normal s2=>uW l none s2
      | .ok .ret s2=>uW l (some .ret) s2
      | .ok (.exit id) s2=>uW l (some (.exit id)) s2
      | .ok (.panic v) s2=>if s2.ds.isEmpty then .panic v s2.h else .fail "round defers" none
      | .fail why q=> .fail why q
    | _=> .fail "round state" none
  | .ok _ _=> .fail "round assign" none
  | .fail why q=> .fail why q
   else .fail "round args" none
 | _=> .fail "round" none
noncomputable def eN (call:aB) (fuel:Nat) (g:FuncId) (as_:List AV) (h:ag) (rc:RC):Option (ag×RC):=
 bo (fun res h' y=>bc y.ds.isEmpty (ob none (fun _=>some (h',y.rc)) (res h')) none) (fun _ _ _ _=>none) none ((tY E g).run fuel call as_ h rc)
noncomputable def C3 (call:aB) (fuel:Nat) (p:Option AV) (res:ag→Option (List AV)) (h:ag) (ds:List kb):fR:=match bT (eN E call fuel) ds p h with
 | none=> .fail "unwind" none
 | some (some v,h')=> .panic v h'
 | some (none,h')=>ob (.fail "results" none) (fun vs=> .ret (eG vs) h') (res h')
noncomputable def fFn {R:Type} (a:FuncId→R) (b:Nat→R) (f:Fn):R:=Fn.rec (motive:=fun _=>R) a b f
noncomputable def C4 {α R:Type} (a b:R) (l:List α):R:=List.rec (motive:=fun _=>R) a (fun _ _ _=>b) l
noncomputable def VZ (fuel:Nat) (call:aB) (g:Fn) (args:List AV) (h:ag):fR:=
 fFn (fun f=>bo (fun res h' y=>C4 (ob (.fail "results" none) (fun vs=> .ret (eG vs) h') (res h')) (C3 E call fuel none res h' y.ds) y.ds)
  (fun v res h' y=>C4 (.panic v h') (C3 E call fuel (some v) res h' y.ds) y.ds) (.fail "body" none) ((tY E f).run fuel call args h .no))
  (fun l=>vG E call fuel l args h) g
noncomputable def tZ (d fuel:Nat):aB:=Nat.rec (motive:=fun _=>aB) (fun _ _ _=> .fail "depth" none) (fun _ ih=>VZ E fuel ih) d
end
end Go.Ab.Fa
end
section
namespace Go.Ab.Fa
theorem Pa {α R:Type} {d:R} {f:α→R} {a:α}:ob d f (some a)=f a:=rfl
theorem fl {R:Type} (x y:R):bc true x y=x:=rfl
theorem cy {R:Type} (x y:R):bc false x y=y:=rfl
theorem eb {α β:Type} {f:α→Option β} {o:Option α} {v:β} (h:ob none f o=some v):∃a,o=some a∧f a=some v:=by
 cases o with
 | none=>exact absurd h (by intro e;cases e)
 | some a=>exact ⟨a,rfl,h⟩
theorem dz {β:Type} {b:Bool} {x:Option β} {v:β} (h:bc b x none=some v):b=true∧x=some v:=by
 cases b with
 | false=>cases h
 | true=>exact ⟨rfl,h⟩
theorem jY {β:Type} {b:Bool} {x:Option β} {v:β} (h:bc b none x=some v):b=false∧x=some v:=by
 cases b with
 | false=>exact ⟨rfl,h⟩
 | true=>cases h
theorem zk {β:Type} {f:Bool→Option β} {a:AV} {v:β} (h:gd f none a=some v):∃b,a= .bool b∧f b=some v:=by
 cases a with
 | bool b=>exact ⟨b,rfl,h⟩
 | _=>exact absurd h (by intro e;cases e)
theorem eS {β:Type} {f:IntKind→Int→Option β} {a:AV} {v:β} (h:jH f none a=some v):∃k n,a= .int k n∧f k n=some v:=by
 cases a with
 | int k n=>exact ⟨k,n,rfl,h⟩
 | _=>exact absurd h (by intro e;cases e)
theorem iy {β:Type} {f:List UInt8→Option β} {a:AV} {v:β} (h:lQ f none a=some v):∃s,a= .str s∧f s=some v:=by
 cases a with
 | str s=>exact ⟨s,rfl,h⟩
 | _=>exact absurd h (by intro e;cases e)
theorem ow {β:Type} {f:Nat→Nat→Option β} {a:AV} {v:β} (h:sR f none a=some v):∃i o,a= .ptr i o∧f i o=some v:=by
 cases a with
 | ptr i o=>exact ⟨i,o,rfl,h⟩
 | _=>exact absurd h (by intro e;cases e)
theorem ky {β:Type} {e:Option β} {f:Nat→Nat→Nat→Nat→Bool→Option β} {a:AV} {v:β} (h:gn e f none a=some v):
 (a= .aj∧e=some v)∨∃i o l c b,a= .slice i o l c b∧f i o l c b=some v:=by
 cases a with
 | aj=>exact .inl ⟨rfl,h⟩
 | slice i o l c b=>exact .inr ⟨i,o,l,c,b,rfl,h⟩
 | _=>exact absurd h (by intro e;cases e)
theorem C5 {β:Type} {e z:Option β} {f:Nat→Nat→Nat→Nat→Bool→Option β} {a:AV} {v:β} (h:gn e f (vZ z none a) a=some v):
 (a= .aj∧e=some v)∨(∃i o l c b,a= .slice i o l c b∧f i o l c b=some v)∨(a= .cJ∧z=some v):=by
 cases a with
 | aj=>exact .inl ⟨rfl,h⟩
 | slice i o l c b=>exact .inr (.inl ⟨i,o,l,c,b,rfl,h⟩)
 | cJ=>exact .inr (.inr ⟨rfl,h⟩)
 | _=>exact absurd h (by intro e;cases e)
theorem iz {β:Type} {f:Nat→Option β} {n:Int} {v:β} (h:gq f none n=some v):∃m:Nat,n=(m:Int)∧f m=some v:=by
 cases n with
 | ofNat m=>exact ⟨m,rfl,h⟩
 | negSucc m=>cases h
theorem mX {β:Type} {f:List AV→TypeId→Bool→Option β} {o:aw} {v:β} (h:sU f none o=some v):∃cs e ro,o= .cells cs e ro∧f cs e ro=some v:=by
 cases o with
 | cells cs e ro=>exact ⟨cs,e,ro,rfl,h⟩
 | _=>exact absurd h (by intro e;cases e)
theorem dA {a b:Nat} (h:Nat.ble a b=true):a≤b:=Nat.le_of_ble_eq_true h
theorem fT {a b:Nat} (h:Nat.ble a b=false):b<a:=by
 apply Decidable.byContradiction;intro hn
 rw[Nat.ble_eq_true_of_le (by omega)] at h;cases h
theorem iX {a b:Nat} (h:Nat.beq a b=true):a=b:=Nat.eq_of_beq_eq_true h
theorem Hm {k j:IntKind} (h:Kt k j=true):k=j:=by
 cases k<;>cases j<;>first | rfl | exact absurd h (by intro e;cases e)
theorem rF (b:Bool):qA b= !b:=by cases b<;>rfl
theorem KN {k:IntKind} (h:Q8 k=false) (n:Int):k.wrap n=n%(pU k:Int):=by
 cases k<;>first | (cases h;done) | simp [IntKind.wrap,IntKind.bits,IntKind.signed,pU,OY]
theorem KO {k:IntKind} (h:Q8 k=true) {m:Nat} (hm:m<pU k):k.wrap (Int.negSucc m)=Int.negSucc m:=by
 have hb:(2^(k.bits - 1):Int)=(pU k:Int)∧(2^k.bits:Int)=2*(pU k:Int)∧k.signed=true:=by
  cases k<;>first | (cases h;done) | (refine ⟨rfl,rfl,rfl⟩)
 obtain ⟨h1,h2,h3⟩:=hb
 unfold IntKind.wrap
 rw[h1,h2,h3,Int.negSucc_eq]
 generalize pU k=B at *
 have e: -((m:Int)+1)%(2*(B:Int))=2*(B:Int) -(m+1):=by
  rw[←Int.add_emod_right]
  exact Int.emod_eq_of_lt (by omega) (by omega)
 rw[e]
 simp only[Bool.true_and,decide_eq_true_eq]
 rw[if_pos (by omega)]
 omega
theorem kz (k:IntKind) (n:Int):qa k n=k.wrap n:=by
 cases n with
 | ofNat m=>
   show bc (Nat.ble (pU k) m) (bc (Q8 k) (k.wrap (Int.ofNat m)) (Int.ofNat (Nat.mod m (pU k)))) (Int.ofNat m)=_
   cases h:Nat.ble (pU k) m
   · have h:=fT h
     rw[cy]
     cases k<;>simp [IntKind.wrap,IntKind.bits,IntKind.signed]<;>simp only[pU,OY] at h<;>omega
   · rw[fl]
     cases hs:Q8 k
     · rw[cy,KN hs];rfl
     · rw[fl]
 | negSucc m=>
   show bc (Q8 k) (bc (Nat.ble (pU k) m) (k.wrap (Int.negSucc m)) (Int.negSucc m)) (k.wrap (Int.negSucc m))=_
   cases hs:Q8 k
   · rw[cy]
   · rw[fl]
     cases h:Nat.ble (pU k) m
     · have h:=fT h
       rw[cy]
       exact (KO hs h).symm
     · rw[fl]
theorem Pb (a b:Int):mT a b=a+b:=by
 cases a<;>cases b<;>rfl
theorem Pc (a b:Int):ea a b=a - b:=by
 cases a with
 | negSucc x=>rfl
 | ofNat x=>
   cases b with
   | negSucc y=>rfl
   | ofNat y=>
     show bc (Nat.ble y x) (Int.ofNat (x - y)) (Int.negSucc (y - x - 1))=_
     cases h:Nat.ble y x
     · have h:=fT h
       rw[cy,Int.negSucc_eq];simp only[Int.ofNat_eq_natCast];omega
     · have h:=dA h
       rw[fl];simp only[Int.ofNat_eq_natCast];omega
theorem Hn (a b:Int):CM a b=a*b:=by
 cases a<;>cases b<;>rfl
theorem FH (a b:Int):Q9 a b=(a==b):=by
 have:Q9 a b=decide (a=b):=by
  cases a with
  | ofNat x=>cases b with
    | ofNat y=>
      show Nat.beq x y=_
      rw[←uC]
      by_cases h:x=y
      · subst h;simp
      · rw[show (x==y)=false by simp [h]];symm;apply decide_eq_false;simp only[Int.ofNat_eq_natCast];omega
    | negSucc y=>simp;rfl
  | negSucc x=>cases b with
    | ofNat y=>simp;rfl
    | negSucc y=>
      show Nat.beq x y=_
      rw[←uC]
      by_cases h:x=y
      · subst h;simp
      · simp [h]
 rw[this];rfl
theorem AU (a b:Int):OZ a b=decide (a<b):=by
 cases a with
 | ofNat x=>cases b with
   | ofNat y=>
     show Nat.ble (x+1) y=_
     rw[←pF];simp only[Int.ofNat_eq_natCast];congr 1;apply propext;omega
   | negSucc y=>
     symm;exact decide_eq_false (by rw[Int.negSucc_eq];simp only[Int.ofNat_eq_natCast];omega)
 | negSucc x=>cases b with
   | ofNat y=>
     symm;exact decide_eq_true (by rw[Int.negSucc_eq];simp only[Int.ofNat_eq_natCast];omega)
   | negSucc y=>
     show Nat.ble (y+1) x=_
     rw[←pF];congr 1;apply propext;rw[Int.negSucc_eq,Int.negSucc_eq];omega
theorem vH (a b:Int):(!decide (a<b))=decide (b≤a):=by
 by_cases h:a<b
 · rw[decide_eq_true h,decide_eq_false (by omega)];rfl
 · rw[decide_eq_false h,decide_eq_true (by omega)];rfl
theorem Pd (k:IntKind) {x:Nat} (h:x<pU k):x<2^k.bits:=by
 cases k<;>simp only[pU,OY,IntKind.bits] at * <;>omega
theorem Ho (k:IntKind) {x:Nat} (h:x<pU k):k.wrap (x:Int)=x:=by
 have:=kz k (Int.ofNat x)
 rw[Int.ofNat_eq_natCast] at this
 rw[←this]
 show bc (Nat.ble (pU k) x) _ (Int.ofNat x)=_
 rw[kf h];rfl
theorem Pe (k:IntKind):∃m,pU k=2^m:=by
 cases k
 · exact ⟨7,rfl⟩
 · exact ⟨15,rfl⟩
 · exact ⟨31,rfl⟩
 · exact ⟨63,rfl⟩
 · exact ⟨8,rfl⟩
 · exact ⟨16,rfl⟩
 · exact ⟨32,rfl⟩
 · exact ⟨64,rfl⟩
theorem toNat_ofInt (k:IntKind) {x:Nat} (h:x<pU k):(BitVec.ofInt k.bits (Int.ofNat x)).toNat=x:=by
 rw[Int.ofNat_eq_natCast,BitVec.ofInt_natCast,BitVec.toNat_ofNat]
 exact Nat.mod_eq_of_lt (Pd k h)
theorem Pf (op:BinOp) (k:IntKind) (a b:Int) {v:AV} (h:O0 op k a b=some v):bW op k a b=some v:=by
 cases op<;>simp only[O0] at h<;>try exact h
 · simpa [bW,kz,Pb] using h
 · simpa [bW,kz,Pc] using h
 · simpa [bW,kz,Hn] using h
 · cases a with
   | negSucc x=>exact h
   | ofNat x=>cases b with
     | negSucc y=>exact h
     | ofNat y=>
       obtain ⟨h1,h2⟩:=jY h
       rw[kz] at h2
       have:y≠0:=by intro e;subst e;cases h1
       rw[←h2];simp [bW,this];exact congrArg k.wrap (Int.natCast_ediv x y).symm
 · cases a with
   | negSucc x=>exact h
   | ofNat x=>cases b with
     | negSucc y=>exact h
     | ofNat y=>
       obtain ⟨h1,h2⟩:=jY h
       have:y≠0:=by intro e;subst e;cases h1
       rw[←h2];simp [bW,this];rfl
 · cases a with
   | negSucc x=>exact h
   | ofNat x=>cases b with
     | negSucc y=>exact h
     | ofNat y=>
       change bc (Nat.ble (pU k) x) _ (bc (Nat.ble (pU k) y) _ _)=_ at h
       cases h1:Nat.ble (pU k) x with
       | true=>rw[h1] at h;exact h
       | false=>cases h2:Nat.ble (pU k) y with
         | true=>rw[h1,h2] at h;exact h
         | false=>
           rw[h1,h2] at h
           have h1:=fT h1;have h2:=fT h2
           rw[←h,cy,cy]
           show some (AV.int k (k.wrap ((BitVec.ofInt k.bits (Int.ofNat x)&&& BitVec.ofInt k.bits (Int.ofNat y)).toNat:Int)))=_
           rw[BitVec.toNat_and,toNat_ofInt k h1,toNat_ofInt k h2,Ho k (Nat.lt_of_le_of_lt Nat.and_le_left h1)]
           rfl
 · cases a with
   | negSucc x=>exact h
   | ofNat x=>cases b with
     | negSucc y=>exact h
     | ofNat y=>
       change bc (Nat.ble (pU k) x) _ (bc (Nat.ble (pU k) y) _ _)=_ at h
       cases h1:Nat.ble (pU k) x with
       | true=>rw[h1] at h;exact h
       | false=>cases h2:Nat.ble (pU k) y with
         | true=>rw[h1,h2] at h;exact h
         | false=>
           rw[h1,h2] at h
           have h1:=fT h1;have h2:=fT h2
           rw[←h,cy,cy]
           show some (AV.int k (k.wrap ((BitVec.ofInt k.bits (Int.ofNat x)||| BitVec.ofInt k.bits (Int.ofNat y)).toNat:Int)))=_
           rw[BitVec.toNat_or,toNat_ofInt k h1,toNat_ofInt k h2,Ho k]
           · rfl
           · obtain ⟨m,hm⟩:=Pe k
             rw[hm] at h1 h2 ⊢
             exact Nat.or_lt_two_pow h1 h2
 · simpa [bW,FH] using h
 · simpa [bW,FH,rF,bne] using h
 · simpa [bW,AU] using h
 · simpa [bW,AU,rF,vH] using h
 · simpa [bW,AU] using h
 · simpa [bW,AU,rF,vH] using h
theorem Pg (op:BinOp) (k:IntKind) (a b:Int):(KC op).f k a b=O0 op k a b:=by
 cases op<;>rfl
theorem KP (k:IntKind):Ku k=k.bits:=by cases k<;>rfl
theorem Hp (k:IntKind) (y:Nat):Kv k y=min y k.bits:=by
 unfold Kv;rw[KP]
 cases h:Nat.ble k.bits y
 · have:=fT h;rw[cy];omega
 · have:=dA h;rw[fl];omega
theorem Pj {k:IntKind} {x y:Int} {v:AV} (h:VP k x y=some v):¬y<0∧v= .int k (k.wrap (x*2^(min y.toNat k.bits))):=by
 obtain ⟨m,rfl,h⟩:=iz h
 refine ⟨by omega,?_⟩
 have h:=Option.some.inj h
 rw[←h,kz,Hn,Hp]
 simp
theorem Pl {k:IntKind} {x y:Int} {v:AV} (h:VQ k x y=some v):¬y<0∧v= .int k (x.fdiv (2^(min y.toNat k.bits))):=by
 obtain ⟨m,rfl,h⟩:=iz h
 refine ⟨by omega,?_⟩
 have h:=Option.some.inj h
 rw[←h]
 cases x with
 | negSucc x=>simp [gq]
 | ofNat x=>
   show AV.int k (Int.ofNat (x/2^Kv k m))=_
   rw[Hp]
   simp
   rw[show (2^min m k.bits:Int)=((2^min m k.bits:Nat):Int) by simp]
   exact (Int.fdiv_eq_ediv_of_nonneg _ (Int.natCast_nonneg _)).symm
end Go.Ab.Fa
end
section
namespace Go.Ab.Fa
section
variable {α:Type}
theorem mn (l:List α) (o:Nat):oo l o=l.drop o:=by
 induction l generalizing o with
 | nil=>simp [oo]
 | cons v tl ih=>
   show bc (Nat.beq o 0) (v::tl) (oo tl (o - 1))=_
   rw[ih]
   cases o with
   | zero=>rfl
   | succ o=>simp [show Nat.beq (o+1) 0=false from rfl,cy]
theorem mo (l:List α) (o:Nat):oq l o=l.take o:=by
 induction l generalizing o with
 | nil=>simp [oq]
 | cons v tl ih=>
   show bc (Nat.beq o 0) [] (v::oq tl (o - 1))=_
   rw[ih]
   cases o with
   | zero=>rfl
   | succ o=>simp [show Nat.beq (o+1) 0=false from rfl,cy]
theorem IA (vs:List α):∀(cs:List α) (k:Nat),(CO vs cs)[k]? =if k<vs.length∧k<cs.length then vs[k]? else cs[k]? :=by
 induction vs with
 | nil=>intro cs k;rw[if_neg (by simp)];rfl
 | cons v vs ih=>
   intro cs k
   cases cs with
   | nil=>rw[if_neg (by simp)];rfl
   | cons c tl=>
     show (v::CO vs tl)[k]? =_
     cases k with
     | zero=>rw[if_pos (by simp)];rfl
     | succ k=>simp only[List.getElem?_cons_succ,ih,List.length_cons,Nat.add_lt_add_iff_right]
theorem KQ (vs:List α):∀(cs:List α) (o k:Nat),(CP vs cs o)[k]? =if o≤k∧k<o+vs.length∧k<cs.length then vs[k - o]? else cs[k]? :=by
 intro cs
 induction cs with
 | nil=>intro o k;rw[if_neg (by simp)];rfl
 | cons c tl ih=>
   intro o k
   show (bc (Nat.beq o 0) (CO vs (c::tl)) (c::CP vs tl (o - 1)))[k]? =_
   cases o with
   | zero=>
     show (CO vs (c::tl))[k]? =_
     rw[IA];simp
   | succ o=>
     show (c::CP vs tl o)[k]? =_
     cases k with
     | zero=>rw[if_neg (by omega)];rfl
     | succ k=>
       rw[List.getElem?_cons_succ,ih,List.getElem?_cons_succ,List.length_cons]
       by_cases h:o≤k∧k<o+vs.length∧k<tl.length
       · rw[if_pos h,if_pos (by omega),show k+1 -(o+1)=k - o by omega]
       · rw[if_neg h,if_neg (by omega)]
end
theorem AW (vs cs:List AV) (o:Nat):CP vs cs o=setFrom cs o vs:=by
 apply List.ext_getElem?;intro k;rw[KQ,dm]
theorem FI (l m:List UInt8):leq vz l m=(l==m):=by
 have key:∀a b:UInt8,vz a b=(a==b):=by
  intro a b
  unfold vz
  rw[←uC]
  by_cases h:a=b
  · subst h;simp
  · rw[show (a==b)=false by simp [h]]
    rw[beq_eq_false_iff_ne]
    intro e;apply h
    have:a.toNat=b.toNat:=e
    exact UInt8.toNat_inj.mp this
 induction l generalizing m with
 | nil=>cases m<;>rfl
 | cons x tl ih=>
   cases m with
   | nil=>rfl
   | cons y tm=>
     show bc (vz x y) (leq vz tl tm) false=_
     rw[ih,key,ku];rfl
theorem Pm (op:BinOp) (a b:List UInt8):(Iy op).f a b=mF op a b:=by
 cases op<;>first | rfl | (simp only[Iy,mF,FI,rF])
theorem Pn (v:AV):O1 v=AV.scalar v:=by cases v<;>rfl
theorem C6:O1=AV.scalar:=funext Pn
theorem IB (v:AV):AJ v=true→(match (some v:Option AV) with
 | some (.ptr i o)=>some (.ptr i o)
 | some (.map i)=>some (.map i)
 | some (.slice i o l c b)=>some (.slice i o l c b)
 | some (.func f a b)=>some (.func f a b)
 | _=>none)=some v:=by
 cases v<;>intro h<;>first | rfl | exact absurd h (by intro e;cases e)
theorem C7 {f:TypeId→AV→sD} {why:String} {o:Option Oper} (a:AV):(∃t v,a= .iface t v)∨mS f (.fail why o) a= .fail why o:=by
 cases a with
 | iface t v=>exact .inl ⟨t,v,rfl⟩
 | _=>exact .inr rfl
theorem iY (v:AV):iw v=v.cells:=by cases v<;>rfl
section
variable (E:Env) (F:RF) (n:Nat)
theorem AX {β:Type} (i:Nat) (k:(F.T→AV)→β):∃g,wT F n i k=k g∧∀r,(cX F n r).getD i AV.undef=g r:=by
 unfold wT
 cases h:Nat.ble n i
 · refine ⟨(F.get i).f,rfl,fun r=>?_⟩
   rw[CL,if_pos (fT h)]
 · refine ⟨fun _=>AV.undef,rfl,fun r=>?_⟩
   rw[CL,if_neg (by have:=dA h;omega)]
theorem bf {β:Type} (x:Operand) (k:(F.T→AV)→β) (d:β):wO E F n x k d=d∨∃g,wO E F n x k d=k g∧∀r,cx E (cX F n r) x=some (g r):=by
 cases x with
 | tmp t=>
   obtain ⟨g,h1,h2⟩:=AX F n t k
   exact .inr ⟨g,h1,fun r=>by rw[←h2];rfl⟩
 | const v=>
   simp only[wO]
   cases h:ofConst v with
   | none=>exact .inl rfl
   | some a=>exact .inr ⟨fun _=>a,rfl,fun r=>h⟩
 | global g=>
   simp only[wO]
   cases h:Nat.ble E.G g
   · exact .inr ⟨fun _=> .ptr g 0,rfl,fun r=>by rw[cx,if_pos (fT h)]⟩
   · exact .inl rfl
 | func f=>exact .inr ⟨fun _=> .func f [] [],rfl,fun r=>rfl⟩
theorem pH {β:Type}:∀(l:List Operand) (k:(F.T→List AV)→β) (d:β),wL E F n l k d=d∨∃g,wL E F n l k d=k g∧∀r,dJ E (cX F n r) l=some (g r)
 | [],k,d=> .inr ⟨fun _=> [],rfl,fun r=>rfl⟩
 | x::xs,k,d=>by
   rw[wL]
   rcases bf E F n x (fun g=>wL E F n xs (fun gs=>k fun r=>g r::gs r) d) d with h | ⟨g,h,hg⟩
   · exact .inl h
   · rcases pH xs (fun gs=>k fun r=>g r::gs r) d with h' | ⟨gs,h',Z5⟩
     · exact .inl (h.trans h')
     · refine .inr ⟨_,h.trans h',fun r=>?_⟩
       have:=Z5 r
       unfold dJ at *
       rw[cD,hg r];simp only[this]
theorem Hq {β:Type} (o:Option Operand) (k:Option (F.T→AV)→β) (d:β):wP E F n o k d=d∨∃g,wP E F n o k d=k g∧∀r,jk E (cX F n r) o=some (yA g r):=by
 cases o with
 | none=>exact .inr ⟨none,rfl,fun r=>rfl⟩
 | some x=>
   rcases bf E F n x (fun g=>k (some g)) d with h | ⟨g,h,hg⟩
   · exact .inl h
   · exact .inr ⟨some g,h,fun r=>by rw[jk,hg r];rfl⟩
theorem vI {β:Type}:∀(l:List (Nat×Operand)) (k:(F.T→List (Nat×AV))→β) (d:β),O7 E F n l k d=d∨∃g,O7 E F n l k d=k g∧∀r,fZ E (cX F n r) l=some (g r)
 | [],k,d=> .inr ⟨fun _=> [],rfl,fun r=>rfl⟩
 | (i,x)::xs,k,d=>by
   rw[O7]
   rcases bf E F n x (fun g=>O7 E F n xs (fun gs=>k fun r=>(i,g r)::gs r) d) d with h | ⟨g,h,hg⟩
   · exact .inl h
   · rcases vI xs (fun gs=>k fun r=>(i,g r)::gs r) d with h' | ⟨gs,h',Z5⟩
     · exact .inl (h.trans h')
     · refine .inr ⟨_,h.trans h',fun r=>?_⟩
       rw[fZ,hg r];simp only[Z5 r]
theorem Hr {β:Type} (hn:n≤F.N) (o:Option Tmp) (k:(AV→F.T→F.T)→β):∃s,wS F n o k=k s∧∀v r,cA (cX F n r) o v=cX F n (s v r):=by
 cases o with
 | none=>exact ⟨fun _ r=>r,rfl,fun v r=>rfl⟩
 | some i=>
   show ∃s,bc (Nat.ble n i) (k fun _ r=>r) (wU (F.set i) k)=k s∧_
   cases h:Nat.ble n i
   · exact ⟨(F.set i).f,rfl,fun v r=>OW F n hn r (fT h) v⟩
   · refine ⟨fun _ r=>r,rfl,fun v r=>?_⟩
     show (cX F n r).set i v=_
     rw[List.set_eq_of_length_le (by rw[fj];exact dA h)]
theorem kA (t:TypeId):qZ E t=bh E t:=by
 unfold qZ bh;rw[ou];cases E.P.info? t<;>rfl
theorem KR (t:TypeId):SP E t=dj E t:=by
 unfold SP dj;rw[ou];split
 · rfl
 · cases E.P.info? t<;>rfl
theorem s7 (t:TypeId):EM E t=cO E t:=by
 unfold EM cO;rw[ou]
 cases E.P.info? t with
 | none=>rfl
 | some i=>show ob none (fun z=>ofConst z) i.zero=_;cases h:i.zero<;>simp [ob,h]
theorem SU (t:TypeId):Z4 E t=dk E t:=by
 unfold Z4 dk;rw[fk];rfl
theorem KS (t:TypeId) (f:Nat):UP E t f=jl E t f:=by
 unfold UP jl;rw[fk]
 generalize E.P.underlying t=u
 cases u with
 | none=>rfl
 | some d=>cases d with
   | struct fs=>show fK fs.toList f=fs[f]?;rw[ey];exact Array.getElem?_toList
   | _=>rfl
def ox (op:Op):Prop:=(∀ts,aG E ts op=none)∧(∀ts h,cB E ts h op=none)∧∀ts,cq E ts op=none
def gZ (f g:aB):Prop:=∀F as_ h,(∀v h',f F as_ h= .ret v h'→g F as_ h= .ret v h')∧∀v h',f F as_ h= .panic v h'→g F as_ h= .panic v h'
def Re (a b:sD):Prop:=match a with
 | .fail _ _=>True
 | a=>b=a
def dN (op:Op):Kd F.T→Prop
 | .B8 g=>∀r,aG E (cX F n r) op=some (g r)
 | .ei f=>∀r v,f r=some v→aG E (cX F n r) op=some v
 | .red f=>∀r h v,f r h=some v→aG E (cX F n r) op=some v∨(aG E (cX F n r) op=none∧cB E (cX F n r) h op=some v)
 | .nZ f=>(∀ts,aG E ts op=none)∧(∀ts h,cB E ts h op=none)∧∀r p,f r=some p→cq E (cX F n r) op=some p
 | .wr f=>ox E op∧∀call r h rc o p,o.op=op→f r h=some p→bX E call (cX F n r) h rc o= .val p.1 p.2
 | .call g args=>ox E op∧∀call r h rc o,o.op=op→bX E call (cX F n r) h rc o=jo (call g (args r) h)
 | .pS f=>ox E op∧∀fc call,gZ fc call→∀r h rc o,o.op=op→Re (f fc r h rc) (bX E call (cX F n r) h rc o)
 | .bad=>True
end
end Go.Ab.Fa
end
section
namespace Go.Ab.Fa
variable {E:Env} {F:RF} {n:Nat}
theorem Po {op:BinOp} (h1:op≠ .shl) (h2:op≠ .shr) {t:TypeId} {xc yc:Bool} {a b v:AV} (h:O6 (KC op).f (Iy op).f (gH E op t xc yc) a b=some v):gH E op t xc yc a b=some v:=by
 unfold O6 at h
 cases a with
 | int k x=>
   obtain ⟨j,y,rfl,h3⟩:=eS (show jH (fun j y=>bc (Kt k j) ((KC op).f k x y) none) none b=some v from h)
   obtain ⟨hk,h4⟩:=dz h3
   have hk:=Hm hk
   rw[Pg] at h4
   have:=Pf op k x y h4
   rw[←hk]
   cases op<;>first | exact absurd rfl h1 | exact absurd rfl h2 | simpa [gH] using this
 | str s=>
   obtain ⟨s',rfl,h3⟩:=iy (show lQ (fun t=>(Iy op).f s t) none b=some v from h)
   rw[Pm] at h3
   cases op<;>first | exact absurd rfl h1 | exact absurd rfl h2 | simpa [gH] using h3
 | _=>exact h
theorem Pp (op:BinOp) (t:TypeId) (x y:Operand) (yt:TypeId) (gx gy:F.T→AV) (hx:∀r,cx E (cX F n r) x=some (gx r)) (hy:∀r,cx E (cX F n r) y=some (gy r)):
 dN E F n (.binOp op t x y yt) (aN op (gH E op t (isConst x) (isConst y)) gx gy):=by
 have red:∀r,aG E (cX F n r) (.binOp op t x y yt)=gH E op t (isConst x) (isConst y) (gx r) (gy r):=by
  intro r;simp only[aG,hx,hy]
 by_cases h1:op= .shl
 · subst h1
   intro r v h
   rw[red]
   obtain ⟨k,m,e1,h⟩:=eS h
   obtain ⟨k',m',e2,h⟩:=eS h
   obtain ⟨h3,rfl⟩:=Pj h
   rw[e1,e2];simp [gH,h3]
 by_cases h2:op= .shr
 · subst h2
   intro r v h
   rw[red]
   obtain ⟨k,m,e1,h⟩:=eS h
   obtain ⟨k',m',e2,h⟩:=eS h
   obtain ⟨h3,rfl⟩:=Pl h
   rw[e1,e2];simp [gH,h3]
 have:aN op (gH E op t (isConst x) (isConst y)) gx gy= .ei fun r=>O6 (KC op).f (Iy op).f (gH E op t (isConst x) (isConst y)) (gx r) (gy r):=by
  cases op<;>first | exact absurd rfl h1 | exact absurd rfl h2 | rfl
 rw[this]
 intro r v h
 rw[red]
 exact Po h1 h2 h
theorem SV (op:UnOp) (t:TypeId) (x:Operand) (g:F.T→AV) (hg:∀r,cx E (cX F n r) x=some (g r)):dN E F n (.unOp op t x) (VS op g):=by
 have red:∀r,aG E (cX F n r) (.unOp op t x)=Uz op (g r):=by intro r;simp only[aG,hg]
 cases op with
 | not=>
   intro r v h
   rw[red]
   obtain ⟨b,e,h⟩:=zk h
   rw[e,←h,rF];rfl
 | _=>intro r v h;rw[red];exact h
theorem KT {t:TypeId} {m:Nat} (h1:dk E t=some true) (h2:bh E t=some m) {cs:List AV} {o:Nat} {v:AV} (h:KE m cs o=some v):fG E t cs o=some v:=by
 unfold KE at h
 obtain ⟨h3,h⟩:=dz h
 have h3:=dA h3
 rw[dH] at h3
 unfold fG
 rw[h1,h2]
 simp only
 rw[if_pos (show o+m≤cs.length from h3),←h,mo,mn]
theorem KU {t:TypeId} (h1:dk E t=some false) {cs:List AV} {o:Nat} {v:AV} (h:KD cs o=some v):fG E t cs o=some v:=by
 unfold KD at h
 rw[ey] at h
 unfold fG
 rw[h1];exact h
theorem vJ {T:Type} (t:TypeId) (k:(List AV→Nat→Option AV)→Kd T):rE E t k= .bad∨∃p,rE E t k=k p∧∀cs o v,p cs o=some v→fG E t cs o=some v:=by
 unfold rE
 rw[SU]
 cases h:dk E t with
 | none=>exact .inl rfl
 | some b=>cases b with
   | false=>exact .inr ⟨_,rfl,fun cs o v=>KU h⟩
   | true=>
     simp only
     rw[kA]
     cases h2:bh E t with
     | none=>exact .inl rfl
     | some m=>exact .inr ⟨_,rfl,fun cs o v=>KT h h2⟩
theorem KV {t:TypeId} {p:List AV→Nat→Option AV} (hp:∀cs o v,p cs o=some v→fG E t cs o=some v) {h:ag} {a v:AV} (e:CZ p h a=some v):bH E h t a=some v:=by
 obtain ⟨i,o,rfl,e⟩:=ow e
 obtain ⟨obj,e1,e⟩:=eb e
 obtain ⟨cs,el,ro,rfl,e⟩:=mX e
 simp only[bH,e1]
 exact hp _ _ _ e
theorem Pq (t:TypeId) (a:Operand):dN E F n (.load t a) (wO E F n a (fun g=>rE E t fun p=> .red fun r h=>CZ p h (g r)) .bad):=by
 rcases bf E F n a (fun g=>rE E t fun p=>(.red fun r h=>CZ p h (g r):Kd F.T)) .bad with h | ⟨g,h,hg⟩<;>rw[h]
 · trivial
 · rcases vJ (E:=E) t (fun p=>(.red fun r h=>CZ p h (g r):Kd F.T)) with h | ⟨p,h,hp⟩<;>rw[h]
   · trivial
   · intro r h v e
     refine .inr ⟨rfl,?_⟩
     simp only[cB,hg]
     exact KV hp e
theorem KW (s:TypeId) (x:Operand) (f:Nat):dN E F n (.field s x f) (match UP E s f with
 | some fd=>wO E F n x (fun g=>rE E fd.type fun p=> .ei fun r=>sS (fun cs=>p cs fd.offset) (fun _=>none) none (g r)) .bad
 | none=> .bad):=by
 rw[KS]
 cases h0:jl E s f with
 | none=>trivial
 | some fd=>
   simp only
   rcases bf E F n x (fun g=>rE E fd.type fun p=>(.ei fun r=>sS (fun cs=>p cs fd.offset) (fun _=>none) none (g r):Kd F.T)) .bad with h | ⟨g,h,hg⟩<;>rw[h]
   · trivial
   · rcases vJ (E:=E) fd.type (fun p=>(.ei fun r=>sS (fun cs=>p cs fd.offset) (fun _=>none) none (g r):Kd F.T)) with h | ⟨p,h,hp⟩<;>rw[h]
     · trivial
     · intro r v e
       change sS (fun cs=>p cs fd.offset) (fun _=>none) none (g r)=some v at e
       simp only[aG,h0,hg]
       cases hv:g r with
       | agg cs=>rw[hv] at e;exact hp _ _ _ e
       | _=>rw[hv] at e;exact absurd e (by intro e;cases e)
theorem AY (s:TypeId) (x:Operand) (f:Nat):dN E F n (.fieldAddr s x f) (match UP E s f with
 | some fd=>match qZ E fd.type with
   | some (_+1)=>wO E F n x (fun g=> .ei fun r=>sR (fun i o=>some (.ptr i (Nat.add o fd.offset))) none (g r)) .bad
   | _=> .bad
 | none=> .bad):=by
 rw[KS]
 cases h0:jl E s f with
 | none=>trivial
 | some fd=>
   simp only
   rw[kA]
   cases h1:bh E fd.type with
   | none=>trivial
   | some m=>cases m with
     | zero=>trivial
     | succ m=>
       simp only
       rcases bf E F n x (fun g=>(.ei fun r=>sR (fun i o=>some (.ptr i (Nat.add o fd.offset))) none (g r):Kd F.T)) .bad with h | ⟨g,h,hg⟩<;>rw[h]
       · trivial
       · intro r v e
         obtain ⟨i,o,e1,e⟩:=ow e
         simp only[aG,h0,hg,e1,h1]
         rw[if_neg (by omega)];exact e
theorem C8 (x:Operand):dN E F n (.nilCheck x) (wO E F n x (fun g=> .ei fun r=>bc (AJ (g r)) (some (g r)) none) .bad):=by
 rcases bf E F n x (fun g=>(.ei fun r=>bc (AJ (g r)) (some (g r)) none:Kd F.T)) .bad with h | ⟨g,h,hg⟩<;>rw[h]
 · trivial
 · intro r v e
   obtain ⟨h1,e⟩:=dz e
   simp only[aG,hg]
   rw[←e]
   exact IB _ h1
theorem FJ (x:Operand) (i:Nat):dN E F n (.extract x i) (wO E F n x (fun g=> .ei fun r=>sS (fun _=>none) (fun vs=>fK vs i) none (g r)) .bad):=by
 rcases bf E F n x (fun g=>(.ei fun r=>sS (fun _=>none) (fun vs=>fK vs i) none (g r):Kd F.T)) .bad with h | ⟨g,h,hg⟩<;>rw[h]
 · trivial
 · intro r v e
   change sS (fun _=>none) (fun vs=>fK vs i) none (g r)=some v at e
   simp only[aG,hg]
   cases hv:g r with
   | tuple cs=>rw[hv] at e;show cs[i]? =some v;rw[←ey];exact e
   | _=>rw[hv] at e;exact absurd e (by intro e;cases e)
theorem Pr (c a b:Operand):dN E F n (.pick c a b) (wO E F n c (fun gc=>wO E F n a (fun ga=>wO E F n b (fun gb=> .ei fun r=>gd (fun t=>bc t (some (ga r)) (some (gb r))) none (gc r)) .bad) .bad) .bad):=by
 rcases bf E F n c (fun gc=>wO E F n a (fun ga=>wO E F n b (fun gb=>(.ei fun r=>gd (fun t=>bc t (some (ga r)) (some (gb r))) none (gc r):Kd F.T)) .bad) .bad) .bad with h | ⟨gc,h,hc⟩<;>rw[h]
 · trivial
 rcases bf E F n a (fun ga=>wO E F n b (fun gb=>(.ei fun r=>gd (fun t=>bc t (some (ga r)) (some (gb r))) none (gc r):Kd F.T)) .bad) .bad with h | ⟨ga,h,ha⟩<;>rw[h]
 · trivial
 rcases bf E F n b (fun gb=>(.ei fun r=>gd (fun t=>bc t (some (ga r)) (some (gb r))) none (gc r):Kd F.T)) .bad with h | ⟨gb,h,hb⟩<;>rw[h]
 · trivial
 intro r v e
 obtain ⟨t,e1,e⟩:=zk e
 simp only[aG,hc,e1]
 cases t
 · simp only[hb];exact e
 · simp only[ha];exact e
theorem Hs {len size i o:Nat} {ix v:AV} (e:AR len size i o ix=some v):∃k m,ix= .int k m∧0≤m∧m<len∧v= .ptr i (o+m.toNat*size):=by
 obtain ⟨k,m,rfl,e⟩:=eS e
 obtain ⟨m',rfl,e⟩:=iz e
 obtain ⟨h1,e⟩:=jY e
 have h1:=fT h1
 exact ⟨k,m',rfl,by omega,by omega,(Option.some.inj e).symm⟩
theorem AZ (t:TypeId) (x ix:Operand):dN E F n (.indexAddr t x ix) (wO E F n x (fun gx=>wO E F n ix (fun gi=>match gN E.P t with
 | some (.array len elem)=>match qZ E elem with
   | some size=> .ei fun r=>sR (fun i o=>AR len size i o (gi r)) none (gx r)
   | none=> .bad
 | some (.slice elem)=>match qZ E elem with
   | some size=> .ei fun r=>gn none (fun i o len _ _=>AR len size i o (gi r)) none (gx r)
   | none=> .bad
 | _=> .bad) .bad) .bad):=by
 rw[fk]
 rcases bf E F n x (fun gx=>wO E F n ix (fun gi=>match E.P.underlying t with
  | some (.array len elem)=>match qZ E elem with
    | some size=>(.ei fun r=>sR (fun i o=>AR len size i o (gi r)) none (gx r):Kd F.T)
    | none=> .bad
  | some (.slice elem)=>match qZ E elem with
    | some size=> .ei fun r=>gn none (fun i o len _ _=>AR len size i o (gi r)) none (gx r)
    | none=> .bad
  | _=> .bad) .bad) .bad with h | ⟨gx,h,hx⟩<;>rw[h]
 · trivial
 rcases bf E F n ix (fun gi=>match E.P.underlying t with
  | some (.array len elem)=>match qZ E elem with
    | some size=>(.ei fun r=>sR (fun i o=>AR len size i o (gi r)) none (gx r):Kd F.T)
    | none=> .bad
  | some (.slice elem)=>match qZ E elem with
    | some size=> .ei fun r=>gn none (fun i o len _ _=>AR len size i o (gi r)) none (gx r)
    | none=> .bad
  | _=> .bad) .bad with h | ⟨gi,h,hi⟩<;>rw[h]
 · trivial
 cases hu:E.P.underlying t with
 | none=>trivial
 | some d=>cases d with
   | array len elem=>
     simp only
     rw[kA]
     cases hs:bh E elem with
     | none=>trivial
     | some size=>
       intro r v e
       obtain ⟨i,o,e1,e⟩:=ow e
       obtain ⟨k,m,e2,h1,h2,rfl⟩:=Hs e
       simp only[aG,hu,hx,hi,e1,e2,hs]
       rw[if_pos ⟨h1,h2⟩]
   | slice elem=>
     simp only
     rw[kA]
     cases hs:bh E elem with
     | none=>trivial
     | some size=>
       intro r v e
       rcases ky e with ⟨_,e⟩ | ⟨i,o,l,c,b,e1,e⟩
       · cases e
       obtain ⟨k,m,e2,h1,h2,rfl⟩:=Hs e
       simp only[aG,hu,hx,hi,e1,e2,hs]
       rw[if_pos ⟨h1,h2⟩]
   | _=>trivial
theorem KX (t:TypeId) (x ix:Operand):dN E F n (.index t x ix) (wO E F n x (fun gx=>wO E F n ix (fun gi=>match gN E.P t with
 | some .string=> .ei fun r=>lQ (fun s=>jH (fun _ i=>gq (fun m=>ob none (fun (b:UInt8)=>some (.int .u8 (Int.ofNat b.toNat))) (fK s m)) none i) none (gi r)) none (gx r)
 | _=> .ei fun r=>aG E (cX F n r) (.index t x ix)) .bad) .bad):=by
 rw[fk]
 rcases bf E F n x (fun gx=>wO E F n ix (fun gi=>match E.P.underlying t with
  | some .string=>(.ei fun r=>lQ (fun s=>jH (fun _ i=>gq (fun m=>ob none (fun (b:UInt8)=>some (.int .u8 (Int.ofNat b.toNat))) (fK s m)) none i) none (gi r)) none (gx r):Kd F.T)
  | _=> .ei fun r=>aG E (cX F n r) (.index t x ix)) .bad) .bad with h | ⟨gx,h,hx⟩<;>rw[h]
 · trivial
 rcases bf E F n ix (fun gi=>match E.P.underlying t with
  | some .string=>(.ei fun r=>lQ (fun s=>jH (fun _ i=>gq (fun m=>ob none (fun (b:UInt8)=>some (.int .u8 (Int.ofNat b.toNat))) (fK s m)) none i) none (gi r)) none (gx r):Kd F.T)
  | _=> .ei fun r=>aG E (cX F n r) (.index t x ix)) .bad with h | ⟨gi,h,hi⟩<;>rw[h]
 · trivial
 cases hu:E.P.underlying t with
 | none=>intro r v e;exact e
 | some d=>cases d with
   | string=>
     intro r v e
     obtain ⟨s,e1,e⟩:=iy e
     obtain ⟨k,m,e2,e⟩:=eS e
     obtain ⟨m',rfl,e⟩:=iz e
     obtain ⟨b,e3,e⟩:=eb e
     rw[ey] at e3
     simp only[aG,hu,hx,hi,e1,e2]
     rw[if_pos (by omega)]
     rw[show ((m':Int).toNat)=m' from rfl,e3]
     exact e
   | _=>intro r v e;exact e
theorem lF {d y:Nat} {o:Option AV} {k:Nat→Option AV} {v:AV} (e:AS d y o k=some v):∃m,(match o with | some v=>ka v y | none=>some d)=some m∧k m=some v:=by
 cases o with
 | none=>exact ⟨d,rfl,e⟩
 | some a=>
   obtain ⟨kk,i,rfl,e⟩:=eS (show jH (fun _ i=>gq (fun m=>bc (Nat.ble m y) (k m) none) none i) none a=some v from e)
   obtain ⟨m,rfl,e⟩:=iz e
   obtain ⟨h1,e⟩:=dz e
   have h1:=dA h1
   refine ⟨m,?_,e⟩
   simp only[ka]
   rw[if_pos (by omega)];rfl
theorem pI {len cap h l:Nat} {lo hi:Option AV} (h1:(match hi with | some v=>ka v cap | none=>some len)=some h)
 (h2:(match lo with | some v=>ka v h | none=>some 0)=some l):hZ len cap lo hi none=some (l,h,cap):=by
 cases hi with
 | none=>cases lo with
   | none=>cases h1;cases h2;rfl
   | some b=>cases h1;simp only[hZ,Option.isSome_none];simp at h2;simp [h2]
 | some a=>cases lo with
   | none=>cases h2;simp only[hZ];simp at h1;simp [h1]
   | some b=>simp only[hZ];simp at h1 h2;simp [h1,h2]
theorem SW {t elem:TypeId} {size:Nat} (hu:E.P.underlying t=some (.slice elem)) (hs:bh E elem=some size) {lo hi:Option AV} {x v:AV} (e:Yx size lo hi x=some v):cK E t x lo hi none=some v:=by
 rcases ky e with ⟨rfl,e1⟩ | ⟨i,o,len,cap,op,rfl,e1⟩
 · obtain ⟨h,h1,e2⟩:=lF e1
   obtain ⟨l,h2,e3⟩:=lF e2
   simp only[cK,hu,pI h1 h2,hs]
   exact e3
 · obtain ⟨h0,e2⟩:=dz e1
   have h0:=dA h0
   obtain ⟨h,h1,e3⟩:=lF e2
   obtain ⟨l,h2,e4⟩:=lF e3
   simp only[cK,hu,pI h1 h2,hs]
   rw[if_pos h0]
   cases h3:Nat.beq cap l
   · rw[h3,cy] at e4
     have:¬cap=l:=by intro ee;rw[ee,Nat.beq_refl] at h3;cases h3
     rw[if_neg this]
     simpa using e4
   · rw[h3,fl] at e4
     rw[if_pos (iX h3)]
     cases op
     · rw[cy] at e4;simpa using e4
     · rw[fl] at e4;simpa using e4
theorem SX {t:TypeId} (hu:E.P.underlying t=some .string) {lo hi:Option AV} {x v:AV} (e:Yy lo hi x=some v):cK E t x lo hi none=some v:=by
 obtain ⟨s,rfl,e1⟩:=iy e
 obtain ⟨h,h1,e2⟩:=lF e1
 obtain ⟨l,h2,e3⟩:=lF e2
 rw[dH] at h1
 simp only[cK,hu,pI h1 h2]
 rw[←e3,mo,mn];rfl
theorem SY {t elem:TypeId} {m size:Nat} (hu:E.P.underlying t=some (.array m elem)) (hs:bh E elem=some size) {lo hi:Option AV} {x v:AV} (e:Yz m size lo hi x=some v):cK E t x lo hi none=some v:=by
 obtain ⟨i,o,rfl,e1⟩:=ow e
 obtain ⟨h,h1,e2⟩:=lF e1
 obtain ⟨l,h2,e3⟩:=lF e2
 simp only[cK,hu,pI h1 h2,hs]
 rw[←Option.some.inj e3]
 cases h3:Nat.beq m l
 · have:¬m=l:=by intro ee;rw[ee,Nat.beq_refl] at h3;cases h3
   rw[if_neg this];rfl
 · rw[if_pos (iX h3)];rfl
theorem KY (t:TypeId) (x:Operand) (lo hi:Option Operand):dN E F n (.slice t x lo hi none) (wO E F n x (fun gx=>wP E F n lo (fun gl=>wP E F n hi (fun gh=>match gN E.P t with
 | some (.slice elem)=>match qZ E elem with
   | some size=> .ei fun r=>Yx size (yA gl r) (yA gh r) (gx r)
   | none=> .bad
 | some .string=> .ei fun r=>Yy (yA gl r) (yA gh r) (gx r)
 | some (.array m elem)=>match qZ E elem with
   | some size=> .ei fun r=>Yz m size (yA gl r) (yA gh r) (gx r)
   | none=> .bad
 | _=> .ei fun r=>aG E (cX F n r) (.slice t x lo hi none)) .bad) .bad) .bad):=by
 rw[fk]
 let K:(F.T→AV)→Option (F.T→AV)→Option (F.T→AV)→Kd F.T:=fun gx gl gh=>match E.P.underlying t with
  | some (.slice elem)=>match qZ E elem with
    | some size=> .ei fun r=>Yx size (yA gl r) (yA gh r) (gx r)
    | none=> .bad
  | some .string=> .ei fun r=>Yy (yA gl r) (yA gh r) (gx r)
  | some (.array m elem)=>match qZ E elem with
    | some size=> .ei fun r=>Yz m size (yA gl r) (yA gh r) (gx r)
    | none=> .bad
  | _=> .ei fun r=>aG E (cX F n r) (.slice t x lo hi none)
 show dN E F n _ (wO E F n x (fun gx=>wP E F n lo (fun gl=>wP E F n hi (fun gh=>K gx gl gh) .bad) .bad) .bad)
 rcases bf E F n x (fun gx=>wP E F n lo (fun gl=>wP E F n hi (fun gh=>K gx gl gh) .bad) .bad) .bad with h | ⟨gx,h,hx⟩<;>rw[h]
 · trivial
 rcases Hq E F n lo (fun gl=>wP E F n hi (fun gh=>K gx gl gh) .bad) .bad with h | ⟨gl,h,hl⟩<;>rw[h]
 · trivial
 rcases Hq E F n hi (fun gh=>K gx gl gh) .bad with h | ⟨gh,h,hh⟩<;>rw[h]
 · trivial
 have red:∀r,aG E (cX F n r) (.slice t x lo hi none)=cK E t (gx r) (yA gl r) (yA gh r) none:=by
  intro r;simp only[aG,hx,hl,hh];rfl
 simp only[K]
 cases hu:E.P.underlying t with
 | none=>intro r v e;exact e
 | some d=>cases d with
   | string=>intro r v e;rw[red];exact SX hu e
   | array m elem=>
     simp only
     rw[kA]
     cases hs:bh E elem with
     | none=>trivial
     | some size=>intro r v e;rw[red];exact SY hu hs e
   | slice elem=>
     simp only
     rw[kA]
     cases hs:bh E elem with
     | none=>trivial
     | some size=>intro r v e;rw[red];exact SW hu hs e
   | _=>intro r v e;exact e
end Go.Ab.Fa
end
section
namespace Go.Ab.Fa
variable {E:Env} {F:RF} {n:Nat}
theorem IC {t:TypeId} {m:Nat} (hs:bh E t=some m) {h:ag} {a v:AV} {p:AV×ag} (e:vE m h a v=some p):p.1=AV.undef∧a_ E h t a v=some p.2:=by
 obtain ⟨i,o,rfl,e1⟩:=ow e
 obtain ⟨obj,h1,e2⟩:=eb e1
 obtain ⟨cs,el,ro,rfl,e3⟩:=mX e2
 obtain ⟨h2,e4⟩:=jY e3
 obtain ⟨h3,e5⟩:=dz e4
 obtain ⟨h4,e6⟩:=dz e5
 obtain ⟨h5,e7⟩:=dz e6
 have h3:=iX h3
 have h4:=dA h4
 rw[dH,iY] at h3
 rw[dH] at h4
 rw[mU,C6,iY] at h5
 have e8:=Option.some.inj e7
 subst h2
 refine ⟨by rw[←e8],?_⟩
 simp only[a_,h1,hs]
 rw[if_pos ⟨h3,h4,h5⟩,←e8,AW,iY]
theorem C9 {t:TypeId} {a x:Operand}:ox E (.store t a x):=⟨fun _=>rfl,fun _ _=>rfl,fun _=>rfl⟩
theorem KZ (t:TypeId) (a x:Operand):dN E F n (.store t a x) (match qZ E t with
 | some m=>wO E F n a (fun ga=>wO E F n x (fun gx=> .wr fun r h=>vE m h (ga r) (gx r)) .bad) .bad
 | none=> .bad):=by
 rw[kA]
 cases hs:bh E t with
 | none=>trivial
 | some m=>
   simp only
   rcases bf E F n a (fun ga=>wO E F n x (fun gx=>(.wr fun r h=>vE m h (ga r) (gx r):Kd F.T)) .bad) .bad with h | ⟨ga,h,ha⟩<;>rw[h]
   · trivial
   rcases bf E F n x (fun gx=>(.wr fun r h=>vE m h (ga r) (gx r):Kd F.T)) .bad with h | ⟨gx,h,hx⟩<;>rw[h]
   · trivial
   refine ⟨C9,fun call r h rc o p ho e=>?_⟩
   obtain ⟨h1,h2⟩:=IC hs e
   simp only[bX,ho,ha,hx,h2,h1]
theorem s9 (t:TypeId) (x:Operand):dN E F n (.makeInterface t x) (match gN E.P t with
 | some (.interface _)=> .bad
 | some _=>wO E F n x (fun g=> .B8 fun r=> .iface t (g r)) .bad
 | none=> .bad):=by
 rw[fk]
 cases hu:E.P.underlying t with
 | none=>trivial
 | some d=>
   cases d with
   | interface ms=>trivial
   | _=>
     simp only
     rcases bf E F n x (fun g=>(.B8 fun r=> .iface t (g r):Kd F.T)) .bad with h | ⟨g,h,hg⟩<;>rw[h]
     · trivial
     · intro r;simp only[aG,hu,hg]
theorem C_ (f:FuncId) (a b:Array Operand):dN E F n (.makeFunc (.func f) a b) (wL E F n a.toList (fun ga=>wL E F n b.toList (fun gb=> .B8 fun r=> .func f (ga r) (gb r)) .bad) .bad):=by
 rcases pH E F n a.toList (fun ga=>wL E F n b.toList (fun gb=>(.B8 fun r=> .func f (ga r) (gb r):Kd F.T)) .bad) .bad with h | ⟨ga,h,ha⟩<;>rw[h]
 · trivial
 rcases pH E F n b.toList (fun gb=>(.B8 fun r=> .func f (ga r) (gb r):Kd F.T)) .bad with h | ⟨gb,h,hb⟩<;>rw[h]
 · trivial
 intro r;simp only[aG,ha,hb]
theorem K0 (t:TypeId):dN E F n (.alloc t) (match EM E t with
 | some z=> .nZ fun _=>some (.cells z.cells t false,fun i=> .ptr i 0)
 | none=> .bad):=by
 rw[s7]
 cases hz:cO E t with
 | none=>trivial
 | some z=>exact ⟨fun _=>rfl,fun _ _=>rfl,fun r p e=>by simp only[cq,hz];exact e⟩
theorem SZ (t:TypeId) (x:Operand):dN E F n (.box t x) (wO E F n x (fun g=> .nZ fun r=>some (.cells (iw (g r)) t false,fun i=> .ptr i 0)) .bad):=by
 rcases bf E F n x (fun g=>(.nZ fun r=>some (.cells (iw (g r)) t false,fun i=> .ptr i 0):Kd F.T)) .bad with h | ⟨g,h,hg⟩<;>rw[h]
 · trivial
 · exact ⟨fun _=>rfl,fun _ _=>rfl,fun r p e=>by simp only[cq,hg];rw[←iY];exact e⟩
theorem yB (t:TypeId) (len:Nat) (parts:Array (Nat×Operand)):dN E F n (.buildSlice t len parts) (match gN E.P t with
 | some (.slice elem)=>match qZ E elem,EM E elem with
   | some m,some z=>if z.cells.length=m∧len*m≤2^24 then O7 E F n parts.toList (fun gp=> .nZ fun r=>ob none (fun cs=>some (.cells cs elem false,fun i=> .slice i 0 len len false)) (mb (fun i=>some (i*m,m)) (dD z.cells len) (gp r))) .bad else .bad
   | _,_=> .bad
 | _=> .bad):=by
 rw[fk]
 cases hu:E.P.underlying t with
 | none=>trivial
 | some d=>cases d with
   | slice elem=>
     simp only
     rw[kA,s7]
     cases hs:bh E elem with
     | none=>trivial
     | some m=>cases hz:cO E elem with
       | none=>trivial
       | some z=>
         simp only
         by_cases hc:z.cells.length=m∧len*m≤2^24
         · rw[if_pos hc]
           rcases vI E F n parts.toList (fun gp=>(.nZ fun r=>ob none (fun cs=>some (.cells cs elem false,fun i=> .slice i 0 len len false)) (mb (fun i=>some (i*m,m)) (dD z.cells len) (gp r)):Kd F.T)) .bad with h | ⟨g,h,hg⟩<;>rw[h]
           · trivial
           · refine ⟨fun _=>rfl,fun _ _=>rfl,fun r p e=>?_⟩
             obtain ⟨cs,h1,e⟩:=eb e
             simp only[cq,hu,hs,hz,hg]
             rw[if_pos hc];simp only[h1];exact e
         · rw[if_neg hc];trivial
   | _=>trivial
theorem Ps (z:List AV) (m:Nat):SQ z m=dD z m:=by
 induction m with
 | zero=>rfl
 | succ m ih=>show il z (SQ z m)=_;rw[jX,ih];rfl
theorem A0 (t:TypeId) (l c:Operand):dN E F n (.makeSlice t l c) (wO E F n l (fun gl=>wO E F n c (fun gc=>match gN E.P t with
 | some (.slice elem)=>match qZ E elem,SP E elem,EM E elem with
   | some m,some bytes,some z=>if z.cells.length=m then .nZ fun r=>O8 elem bytes z.cells (gl r) (gc r) else .bad
   | _,_,_=> .bad
 | _=> .bad) .bad) .bad):=by
 rw[fk]
 rcases bf E F n l (fun gl=>wO E F n c (fun gc=>match E.P.underlying t with
  | some (.slice elem)=>match qZ E elem,SP E elem,EM E elem with
    | some m,some bytes,some z=>if z.cells.length=m then (.nZ fun r=>O8 elem bytes z.cells (gl r) (gc r):Kd F.T) else .bad
    | _,_,_=> .bad
  | _=> .bad) .bad) .bad with h | ⟨gl,h,hl⟩<;>rw[h]
 · trivial
 rcases bf E F n c (fun gc=>match E.P.underlying t with
  | some (.slice elem)=>match qZ E elem,SP E elem,EM E elem with
    | some m,some bytes,some z=>if z.cells.length=m then (.nZ fun r=>O8 elem bytes z.cells (gl r) (gc r):Kd F.T) else .bad
    | _,_,_=> .bad
  | _=> .bad) .bad with h | ⟨gc,h,hc⟩<;>rw[h]
 · trivial
 cases hu:E.P.underlying t with
 | none=>trivial
 | some d=>cases d with
   | slice elem=>
     simp only
     rw[kA,KR,s7]
     cases hs:bh E elem with
     | none=>trivial
     | some m=>cases hb:dj E elem with
       | none=>trivial
       | some bytes=>cases hz:cO E elem with
         | none=>trivial
         | some z=>
           simp only
           by_cases hm:z.cells.length=m
           · rw[if_pos hm]
             refine ⟨fun _=>rfl,fun _ _=>rfl,fun r p e=>?_⟩
             obtain ⟨k1,a,e1,q1⟩:=eS e
             obtain ⟨k2,b,e2,q2⟩:=eS q1
             obtain ⟨a',rfl,q3⟩:=iz q2
             obtain ⟨b',rfl,q4⟩:=iz q3
             obtain ⟨c1,q5⟩:=dz q4
             obtain ⟨c2,q6⟩:=jY q5
             obtain ⟨c3,q7⟩:=dz q6
             have c1:=dA c1
             have c2:=fT c2
             have c3:bytes*b'≤140737488355328:=dA c3
             simp only[cq,hu,hs,hb,hz,hl,hc,e1,e2]
             rw[if_pos ⟨by omega,by omega,by omega,by have:(bytes:Int)*(b':Int)=((bytes*b':Nat):Int):=by simp
                                                      rw[this];omega,hm⟩]
             rw[←q7,Ps];rfl
           · rw[if_neg hm];trivial
   | _=>trivial
theorem Da (k:List UInt8):∀(l:List dY) (i:Nat) {x:Option AV},findF k l=some x→∃y,ny (.str k) l i=some y∧y.map (·.2)=x
 | [],i,x,h=>⟨none,rfl,by cases h;rfl⟩
 | e::es,i,x,h=>by
   obtain ⟨s,h1,h2⟩:=iy (show lQ (fun s=>bc (leq vz k s) (some (some e.val)) (findF k es)) none e.key=some x from h)
   rw[FI] at h2
   rw[ny,h1]
   show ∃y,(match (some (k==s):Option Bool) with | some true=>some (some (i,e.val)) | some false=>ny (.str k) es (i+1) | none=>none)=some y∧_
   cases hb:k==s with
   | true=>
     rw[hb,fl] at h2
     exact ⟨some (i,e.val),rfl,Option.some.inj h2⟩
   | false=>
     rw[hb,cy] at h2
     exact Da k es (i+1) h2
noncomputable def V0 (h:ag) (m:AV):Option (List dY):=match m with
 | .cn=>some []
 | .map i=>(match h.get i with | some (.map es _)=>some es | _=>none)
 | _=>none
theorem K1 {z:AV} {ok:Bool} {h:ag} {m k v:AV} (e:Hb z ok h m k=some v):
 (∃s,k= .str s)∧∃es,(match m with | .cn=>some [] | .map i=>(match h.get i with | some (.map es _)=>some es | _=>none) | _=>none)=some es∧
  ∃y,ny k es 0=some y∧v=(match y with | some (_,w)=>(if ok then .tuple [w,.bool true] else w) | none=>if ok then .tuple [z,.bool false] else z):=by
 obtain ⟨s,rfl,e1⟩:=iy e
 obtain ⟨es,h1,e2⟩:=eb e1
 obtain ⟨x,h2,e3⟩:=eb e2
 refine ⟨⟨s,rfl⟩,es,?_,?_⟩
 · cases m with
   | cn=>exact h1
   | map i=>
     obtain ⟨o,h3,h4⟩:=eb (show ob none (fun o=>O9 (fun es=>some es) none o) (h.get i)=some es from h1)
     simp only[h3]
     cases o with
     | map dU c=>exact h4
     | _=>cases h4
   | _=>cases h1
 · obtain ⟨y,h3,h4⟩:=Da s es 0 h2
   refine ⟨y,h3,?_⟩
   have e4:=Option.some.inj e3
   rw[←e4,←h4]
   cases y with
   | none=>cases ok<;>rfl
   | some y=>obtain ⟨_,w⟩:=y;cases ok<;>rfl
theorem ID (t:TypeId) (x ix:Operand) (ok:Bool):dN E F n (.lookup t x ix ok) (wO E F n x (fun gx=>wO E F n ix (fun gi=>match gN E.P t with
 | some (.map key elem)=>match gN E.P key,EM E elem with
   | some .string,some z=> .red fun r h=>Hb z ok h (gx r) (gi r)
   | _,_=> .red fun r h=>cB E (cX F n r) h (.lookup t x ix ok)
 | _=> .bad) .bad) .bad):=by
 let K:(F.T→AV)→(F.T→AV)→Kd F.T:=fun gx gi=>match gN E.P t with
  | some (.map key elem)=>match gN E.P key,EM E elem with
    | some .string,some z=> .red fun r h=>Hb z ok h (gx r) (gi r)
    | _,_=> .red fun r h=>cB E (cX F n r) h (.lookup t x ix ok)
  | _=> .bad
 show dN E F n _ (wO E F n x (fun gx=>wO E F n ix (fun gi=>K gx gi) .bad) .bad)
 rcases bf E F n x (fun gx=>wO E F n ix (fun gi=>K gx gi) .bad) .bad with h | ⟨gx,h,hx⟩<;>rw[h]
 · trivial
 rcases bf E F n ix (fun gi=>K gx gi) .bad with h | ⟨gi,h,hi⟩<;>rw[h]
 · trivial
 simp only[K,fk,s7]
 have s5:dN E F n (.lookup t x ix ok) (.red fun r h=>cB E (cX F n r) h (.lookup t x ix ok)):=fun r h v e=> .inr ⟨rfl,e⟩
 cases hu:E.P.underlying t with
 | none=>trivial
 | some d=>cases d with
   | map key elem=>
     simp only
     cases hk:E.P.underlying key with
     | none=>exact s5
     | some kd=>cases kd with
       | string=>cases hz:cO E elem with
         | none=>exact s5
         | some z=>
           intro r h v e
           refine .inr ⟨rfl,?_⟩
           obtain ⟨⟨s,hs⟩,es,h1,y,h2,rfl⟩:=K1 e
           simp only[cB,hu,hx,hi,hk]
           rw[hs] at h2 ⊢
           rw[if_pos (show er (some TypeDesc.string) (AV.str s)=true from rfl)]
           have h1':V0 h (gx r)=some es:=h1
           change (match V0 h (gx r) with
            | none=>none
            | some es=>match ny (AV.str s) es 0 with
              | none=>none
              | some (some (_,v))=>some (if ok then AV.tuple [v,.bool true] else v)
              | some none=>match cO E elem with
                | some z=>some (if ok then AV.tuple [z,.bool false] else z)
                | none=>none)=_
           rw[h1']
           simp only[h2,hz]
           cases y with
           | none=>rfl
           | some y=>obtain ⟨_,w⟩:=y;rfl
       | _=>exact s5
   | _=>trivial
theorem vK:∀(fs:List Field),uS E fs=placesOf E fs
 | []=>rfl
 | f::fs=>by
   show ob none (fun n=>ob none (fun l=>some ((f.offset,n)::l)) (uS E fs)) (qZ E f.type)=_
   rw[vK fs,kA]
   simp only[placesOf,cD]
   cases bh E f.type with
   | none=>rfl
   | some n=>
     show ob none (fun l=>some ((f.offset,n)::l)) (cD _ fs)=_
     cases cD (fun f=>match bh E f.type with | some n=>some (f.offset,n) | none=>none) fs<;>rfl
theorem Db (ps:List (Nat×Nat)):∀(l:List (Nat×AV)) (cs:List AV) {v:List AV},C1 ps cs l=some v→mb (ps[·]?) cs l=some v
 | [],cs,v,h=>h
 | (i,x)::l,cs,v,h=>by
   obtain ⟨q,h1,h2⟩:=eb (show ob none (fun (q:Nat×Nat)=>bc (Nat.beq (fJ (iw x)) q.2) (bc (Nat.ble (q.1+q.2) (fJ cs)) (C1 ps (CP (iw x) cs q.1) l) none) none) (fK ps i)=some v from h)
   obtain ⟨h3,h4⟩:=dz h2
   obtain ⟨h5,h6⟩:=dz h4
   have h3:=iX h3
   have h5:=dA h5
   rw[dH,iY] at h3
   rw[dH] at h5
   rw[ey] at h1
   rw[mb]
   obtain ⟨off,size⟩:=q
   simp only[h1]
   rw[if_pos ⟨h3,h5⟩,←AW,←iY]
   exact Db ps l _ h6
theorem K2 (t:TypeId) (parts:Array (Nat×Operand)):dN E F n (.build t parts) (match EM E t,gN E.P t with
 | some z,some (.struct fs)=>match uS E fs.toList with
   | some ps=>O7 E F n parts.toList (fun gp=> .ei fun r=>ob none (fun cs=>some (.agg cs)) (C1 ps (iw z) (gp r))) .bad
   | none=> .bad
 | _,_=> .ei fun r=>aG E (cX F n r) (.build t parts)):=by
 have s5:dN E F n (.build t parts) (.ei fun r=>aG E (cX F n r) (.build t parts)):=fun r v e=>e
 rw[fk,s7]
 cases hz:cO E t with
 | none=>exact s5
 | some z=>cases hu:E.P.underlying t with
   | none=>exact s5
   | some d=>cases d with
     | struct fs=>
       simp only
       rw[vK]
       cases hp:placesOf E fs.toList with
       | none=>trivial
       | some ps=>
         simp only
         rcases vI E F n parts.toList (fun gp=>(.ei fun r=>ob none (fun cs=>some (.agg cs)) (C1 ps (iw z) (gp r)):Kd F.T)) .bad with h | ⟨g,h,hg⟩<;>rw[h]
         · trivial
         · intro r v e
           obtain ⟨cs,h1,e2⟩:=eb e
           have h1:=Db ps _ _ h1
           rw[iY] at h1
           simp only[aG,hg,z8,hz,hu,hp,h1]
           exact e2
     | _=>exact s5
theorem A1 (t:TypeId) (m k x:Operand):dN E F n (.mapUpdate t m k x) (wO E F n m (fun gm=>wO E F n k (fun gk=>wO E F n x (fun gx=> .wr fun r h=>ob none (fun h'=>some (AV.undef,h')) (cQ E h t (gm r) (gk r) (gx r))) .bad) .bad) .bad):=by
 rcases bf E F n m (fun gm=>wO E F n k (fun gk=>wO E F n x (fun gx=>(.wr fun r h=>ob none (fun h'=>some (AV.undef,h')) (cQ E h t (gm r) (gk r) (gx r)):Kd F.T)) .bad) .bad) .bad with h | ⟨gm,h,hm⟩<;>rw[h]
 · trivial
 rcases bf E F n k (fun gk=>wO E F n x (fun gx=>(.wr fun r h=>ob none (fun h'=>some (AV.undef,h')) (cQ E h t (gm r) (gk r) (gx r)):Kd F.T)) .bad) .bad with h | ⟨gk,h,hk⟩<;>rw[h]
 · trivial
 rcases bf E F n x (fun gx=>(.wr fun r h=>ob none (fun h'=>some (AV.undef,h')) (cQ E h t (gm r) (gk r) (gx r)):Kd F.T)) .bad with h | ⟨gx,h,hx⟩<;>rw[h]
 · trivial
 refine ⟨⟨fun _=>rfl,fun _ _=>rfl,fun _=>rfl⟩,fun call r h rc o p ho e=>?_⟩
 obtain ⟨h',h1,e2⟩:=eb e
 have e3:=Option.some.inj e2
 simp only[bX,ho,hm,hk,hx,h1,←e3]
theorem IE (t:TypeId) (m k x:Operand):dN E F n (.insert t m k x) (wO E F n m (fun gm=>wO E F n k (fun gk=>wO E F n x (fun gx=> .wr fun r h=>ob none (fun h'=>some (AV.undef,h')) (cQ E h t (gm r) (gk r) (gx r))) .bad) .bad) .bad):=by
 rcases bf E F n m (fun gm=>wO E F n k (fun gk=>wO E F n x (fun gx=>(.wr fun r h=>ob none (fun h'=>some (AV.undef,h')) (cQ E h t (gm r) (gk r) (gx r)):Kd F.T)) .bad) .bad) .bad with h | ⟨gm,h,hm⟩<;>rw[h]
 · trivial
 rcases bf E F n k (fun gk=>wO E F n x (fun gx=>(.wr fun r h=>ob none (fun h'=>some (AV.undef,h')) (cQ E h t (gm r) (gk r) (gx r)):Kd F.T)) .bad) .bad with h | ⟨gk,h,hk⟩<;>rw[h]
 · trivial
 rcases bf E F n x (fun gx=>(.wr fun r h=>ob none (fun h'=>some (AV.undef,h')) (cQ E h t (gm r) (gk r) (gx r)):Kd F.T)) .bad with h | ⟨gx,h,hx⟩<;>rw[h]
 · trivial
 refine ⟨⟨fun _=>rfl,fun _ _=>rfl,fun _=>rfl⟩,fun call r h rc o p ho e=>?_⟩
 obtain ⟨h',h1,e2⟩:=eb e
 have e3:=Option.some.inj e2
 simp only[bX,ho,hm,hk,hx,h1,←e3]
theorem Pu (it:Operand) (s:Bool):dN E F n (.next it s) (wO E F n it (fun g=> .wr fun r h=>yR h (g r) s) .bad):=by
 rcases bf E F n it (fun g=>(.wr fun r h=>yR h (g r) s:Kd F.T)) .bad with h | ⟨g,h,hg⟩<;>rw[h]
 · trivial
 refine ⟨⟨fun _=>rfl,fun _ _=>rfl,fun _=>rfl⟩,fun call r h rc o p ho e=>?_⟩
 simp only[bX,ho,hg,e]
theorem K3 (x:Operand):dN E F n (.panic x) (wO E F n x (fun g=> .pS fun _ r h _=>mS (fun t w=> .panic (.iface t w) h) (.fail "" none) (g r)) .bad):=by
 rcases bf E F n x (fun g=>(.pS fun _ r h _=>mS (fun t w=> .panic (.iface t w) h) (.fail "" none) (g r):Kd F.T)) .bad with h | ⟨g,h,hg⟩<;>rw[h]
 · trivial
 refine ⟨⟨fun _=>rfl,fun _ _=>rfl,fun _=>rfl⟩,fun fc call _ r h rc o ho=>?_⟩
 rcases C7 (f:=fun t w=>sD.panic (.iface t w) h) (why:= "") (o:=none) (g r) with ⟨t,w,e⟩ | e
 · simp only[bX,ho,hg,e];rfl
 · show Re (mS _ _ _) _
   rw[e];trivial
theorem K4 (c:Call):dN E F n (.defer c) (.pS fun _ r _ rc=>match rc,callee E (cX F n r) c with
 | .B6 _,_=> .fail "" none
 | _,some (.fn f,args)=> .defer (.call f args)
 | _,_=> .fail "" none):=by
 refine ⟨⟨fun _=>rfl,fun _ _=>rfl,fun _=>rfl⟩,fun fc call _ r h rc o ho=>?_⟩
 simp only[bX,ho]
 cases rc with
 | B6 l=>trivial
 | _=>cases hc:callee E (cX F n r) c with
   | none=>trivial
   | some p=>obtain ⟨f,args⟩:=p;cases f<;>first | trivial | rfl
theorem FK (src dst:TypeId) (x:Operand):dN E F n (.convert src dst x) (wO E F n x (Hc E src dst) .bad):=by
 rcases bf E F n x (Hc E src dst) (.bad:Kd F.T) with h | ⟨g,h,hg⟩<;>rw[h]
 · trivial
 unfold Hc
 simp only[fk]
 cases hs:E.P.underlying src with
 | none=>trivial
 | some ds=>cases hd:E.P.underlying dst with
   | none=>cases ds<;>trivial
   | some dd=>
     cases ds<;>cases dd<;>try trivial
     case int.int k k'=>
      intro r v e
      obtain ⟨j,m,e1,e2⟩:=eS e
      simp only[aG,hs,hd,hg,e1]
      rw[←kz];exact e2
     case string.string=>
      intro r v e
      obtain ⟨s,e1,e2⟩:=iy e
      simp only[aG,hs,hd,hg,e1];exact e2
     case string.slice e=>
      refine ⟨⟨fun _=>by simp only[aG,hs,hd],fun _ _=>by simp only[cB,hs,hd],fun _=>rfl⟩,fun call r h rc o p ho e=>?_⟩
      simp only[bX,ho,hg,e]
     case slice.string el=>
      simp only
      cases he:E.P.underlying el with
      | none=>trivial
      | some de=>
        cases de<;>try trivial
        rename_i k
        cases k<;>try trivial
        intro r h v e
        rcases ky e with ⟨e1,e2⟩ | ⟨i,o,l,c,b,e1,e2⟩
        · refine .inr ⟨by simp only[aG,hs,hd,hg,e1],?_⟩
          simp only[cB,hs,hd,hg,he]
          simp only[e1];exact e2
        · refine .inr ⟨by simp only[aG,hs,hd,hg,e1],?_⟩
          simp only[cB,hs,hd,hg,he]
          simp only[e1]
          obtain ⟨l',h1,e3⟩:=eb e2
          simp only[h1];exact e3
end Go.Ab.Fa
end
