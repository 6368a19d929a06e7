import Derived.Test.YtjohpcpopggbkaaGreatA4
import Derived.Test.YtjohpcpopggbkaaGreatA0
set_option linter.unusedVariables false
set_option linter.unusedSimpArgs false
section
namespace Go.Ab.Fa
structure W (α:Type) where
 f:α
section
variable {α β T:Type}
noncomputable def wW (w:W α) (k:α→β):β:=W.rec (motive:=fun _=>β) k w
noncomputable def wA (a:Acc T) (k:(T→AV)→β):β:=Acc.rec (motive:=fun _=>β) k a
noncomputable def wU (a:Rm T) (k:(AV→T→T)→β):β:=Rm.rec (motive:=fun _=>β) k a
end
structure Y where
 ds:List nD
 rc:RC
inductive FO (T:Type) where
 | Bq (r:T) (h:aq) (y:Y)
 | jmp (e:iS) (r:T) (h:aq) (y:Y)
 | bad
structure I (T:Type) where
 run:aY→T→aq→Y→FO T
structure C (T:Type) where
 run:Nat→aY→T→aq→Y→FO T
inductive Kd (T:Type) where
 | AH (f:T→AV)
 | fi (f:T→Option AV)
 | red (f:T→aq→Option AV)
 | oW (f:T→Option (aP×(Nat→AV)))
 | wr (f:T→aq→Option (AV×aq))
 | call (g:Fn) (args:T→List AV)
 | qi (f:aY→T→aq→RC→sX)
 | bad
section
variable (E:Env) (F:RF) (n:Nat)
noncomputable def wT {β:Type} (i:Nat) (k:(F.T→AV)→β):β:=bc (Nat.ble n i) (k fun _=>AV.undef) (wA (F.get i) k)
noncomputable def wO {β:Type} (x:Operand) (k:(F.T→AV)→β) (d:β):β:=match x with
 | .tmp t=>wT F n t k
 | .const v=>match ofConst v with
   | some a=>k fun _=>a
   | none=>d
 | .global g=>bc (Nat.ble E.G g) d (k fun _=> .ptr g 0)
 | .func f=>k fun _=> .func f [] []
noncomputable def wL {β:Type} (l:List Operand) (k:(F.T→List AV)→β) (d:β):β:=match l with
 | []=>k fun _=> []
 | x::xs=>wO E F n x (fun g=>wL xs (fun gs=>k fun r=>g r::gs r) d) d
noncomputable def wP {β:Type} (o:Option Operand) (k:Option (F.T→AV)→β) (d:β):β:=match o with
 | none=>k none
 | some x=>wO E F n x (fun g=>k (some g)) d
noncomputable def wS {β:Type} (o:Option Tmp) (k:(AV→F.T→F.T)→β):β:=match o with
 | none=>k fun _ r=>r
 | some i=>bc (Nat.ble n i) (k fun _ r=>r) (wU (F.set i) k)
noncomputable def rv (t:TypeId):Option Nat:=ob none (fun i=>some i.size) (ue E.P t)
noncomputable def OI (t:TypeId):Option Nat:=ob none (fun i=>some i.bytes) (ue E.P t)
noncomputable def Cv (t:TypeId):Option AV:=ob none (fun i=>ob none (fun z=>ofConst z) i.zero) (ue E.P t)
noncomputable def Ve (t:TypeId):Option Bool:=match h_ E.P t with
 | some (.struct _)=>some true
 | some (.array _ _)=>some true
 | some _=>some false
 | none=>none
noncomputable def Qf (t:TypeId) (f:Nat):Option Field:=match h_ E.P t with
 | some (.struct fs)=>gK fs.toList f
 | _=>none
variable {T:Type}
noncomputable def H5 (op:BinOp):W (IntKind→Int→Int→Option AV):=match op with
 | .add=>⟨fun k a b=>some (.int k (qy k (zM a b)))⟩
 | .sub=>⟨fun k a b=>some (.int k (qy k (HU a b)))⟩
 | .mul=>⟨fun k a b=>some (.int k (qy k (HV a b)))⟩
 | .eql=>⟨fun _ a b=>some (.bool (MS a b))⟩
 | .neq=>⟨fun _ a b=>some (.bool (qV (MS a b)))⟩
 | .lss=>⟨fun _ a b=>some (.bool (KW a b))⟩
 | .leq=>⟨fun _ a b=>some (.bool (qV (KW b a)))⟩
 | .gtr=>⟨fun _ a b=>some (.bool (KW b a))⟩
 | .geq=>⟨fun _ a b=>some (.bool (qV (KW a b)))⟩
 | op=>⟨KX op⟩
noncomputable def FB (op:BinOp):W (List UInt8→List UInt8→Option AV):=match op with
 | .eql=>⟨fun a b=>some (.bool (leq vP a b))⟩
 | .neq=>⟨fun a b=>some (.bool (qV (leq vP a b)))⟩
 | op=>⟨oR op⟩
noncomputable def K3 (f:IntKind→Int→Int→Option AV) (g:List UInt8→List UInt8→Option AV) (rV:AV→AV→Option AV) (a b:AV):Option AV:=
 nh (fun k x=>nh (fun j y=>bc (HR k j) (f k x y) none) none b) (nV (fun s=>nV (fun t=>g s t) none b) (rV a b) a) a
noncomputable def dX (op:BinOp) (rV:AV→AV→Option AV) (ga gb:T→AV):Kd T:=match op with
 | .shl=> .fi fun r=>nh (fun k x=>nh (fun _ y=>Rn k x y) none (gb r)) none (ga r)
 | .shr=> .fi fun r=>nh (fun k x=>nh (fun _ y=>Ro k x y) none (gb r)) none (ga r)
 | op=>wW (H5 op) fun f=>wW (FB op) fun g=> .fi fun r=>K3 f g rV (ga r) (gb r)
noncomputable def Rp (op:UnOp) (ga:T→AV):Kd T:=match op with
 | .not=> .fi fun r=>g_ (fun b=>some (.bool (qV b))) none (ga r)
 | op=> .fi fun r=>P2 op (ga r)
noncomputable def H6 (cs:List AV) (o:Nat):Option AV:=gK cs o
noncomputable def H7 (n:Nat) (cs:List AV) (o:Nat):Option AV:=bc (Nat.ble (Nat.add o n) (gJ cs)) (some (.agg (po (pn cs o) n))) none
noncomputable def rW (t:TypeId) (k:(List AV→Nat→Option AV)→Kd T):Kd T:=match Ve E t with
 | some true=>match rv E t with
   | some n=>k (H7 n)
   | none=> .bad
 | some false=>k H6
 | none=> .bad
noncomputable def Br (p:List AV→Nat→Option AV) (h:aq) (a:AV):Option AV:=
 tq (fun i o=>ob none (fun obj=>tv (fun cs _ _=>p cs o) none obj) (h.get i)) none a
noncomputable def vU (n:Nat) (h:aq) (a v:AV):Option (AV×aq):=
 tq (fun i o=>ob none (fun obj=>tv (fun cs e ro=>bc ro none
  (bc (Nat.beq (gJ (jv v)) n) (bc (Nat.ble (Nat.add o n) (gJ cs)) (bc (tw KY (jv v)) (some (AV.undef,h.put i (some (.cells (Bj (jv v) cs o) e false)))) none) none) none)) none obj) (h.get i)) none a
noncomputable def zV (len size:Nat) (i o:Nat) (ix:AV):Option AV:=
 nh (fun _ n=>jU (fun m=>bc (Nat.ble len m) none (some (.ptr i (Nat.add o (Nat.mul m size))))) none n) none ix
noncomputable def zW (d y:Nat) (o:Option AV) (k:Nat→Option AV):Option AV:=
 ob (k d) (fun v=>nh (fun _ i=>jU (fun m=>bc (Nat.ble m y) (k m) none) none i) none v) o
noncomputable def TQ (size:Nat) (lo hi:Option AV) (v:AV):Option AV:=
 hB (zW 0 0 hi fun h=>zW 0 h lo fun _=>some .aF)
  (fun i o len cap op=>bc (Nat.ble len cap) (zW len cap hi fun h=>zW 0 h lo fun l=>
   bc (Nat.beq cap l) (bc op (some .dG) (some (.slice i o (Nat.sub h l) (Nat.sub cap l) false))) (some (.slice i (Nat.add o (Nat.mul l size)) (Nat.sub h l) (Nat.sub cap l) op))) none) none v
noncomputable def TR (lo hi:Option AV) (v:AV):Option AV:=
 nV (fun s=>zW (gJ s) (gJ s) hi fun h=>zW 0 h lo fun l=>some (.str (po (pn s l) (Nat.sub h l)))) none v
noncomputable def TS (m size:Nat) (lo hi:Option AV) (v:AV):Option AV:=
 tq (fun i o=>zW m m hi fun h=>zW 0 h lo fun l=>some (.slice i (bc (Nat.beq m l) o (Nat.add o (Nat.mul l size))) (Nat.sub h l) (Nat.sub m l) false)) none v
noncomputable def xM (o:Option (T→AV)) (r:T):Option AV:=ob none (fun g=>some (g r)) o
noncomputable def Rq (v:AV):Option Nat:=hB (some 0) (fun _ _ n _ _=>some n) (nV (fun s=>some (gJ s)) (mK v) v) v
noncomputable def H8 (h:aq) (size n:Nat) (v:AV):Option (List AV):=
 hB (bc (Nat.beq n 0) (some []) none) (fun i o len _ _=>bc (Nat.ble n len) (ob none (fun obj=>tv (fun cs _ _=>bc (Nat.ble (Nat.add o (Nat.mul n size)) (gJ cs)) (some (po (pn cs o) (Nat.mul n size))) none) none obj) (h.get i)) none)
  (ez h size n v) v
noncomputable def Rr (elem:TypeId) (size bytes:Nat) (h:aq) (s x:AV):Option (AV×aq):=
 ob none (fun n=>ob none (fun new=>bc (tw KY new) (bc (Nat.beq (gJ new) (Nat.mul n size))
  (hB
   (bc (Nat.beq n 0) (some (.aF,h)) (bc (Nat.ble (Nat.mul (Nat.add (Nat.mul 4 n) 4096) (Nat.add bytes 1)) 1099511627776)
    (ob none (fun h'=>some (.slice h.nx 0 n n true,h')) (h.new (.cells new elem false))) none))
   (fun i o len cap op=>ob none (fun obj=>tv (fun cs e ro=>bc ro none
    (bc (Nat.ble (Nat.add len n) cap)
     (bc (Nat.ble (Nat.add o (Nat.mul (Nat.add len n) size)) (gJ cs)) (some (.slice i o (Nat.add len n) cap op,h.put i (some (.cells (Bj new cs (Nat.add o (Nat.mul len size))) e false)))) none)
     (bc (Nat.ble (Nat.mul (Nat.add (Nat.mul 4 (Nat.add len n)) 4096) (Nat.add bytes 1)) 1099511627776)
      (bc (Nat.ble (Nat.add o (Nat.mul len size)) (gJ cs))
       (bc op
        (bc (Nat.beq e elem) (bc (Nat.beq (Nat.add o (Nat.mul cap size)) (gJ cs))
         (ob none (fun h'=>some (.slice h.nx 0 (Nat.add len n) (Nat.add len n) true,h')) ((h.put i none).new (.cells (jk (po (pn cs o) (Nat.mul len size)) new) elem false))) none) none)
        (ob none (fun h'=>some (.slice h.nx 0 (Nat.add len n) (Nat.add len n) true,h')) (h.new (.cells (jk (po (pn cs o) (Nat.mul len size)) new) elem false)))) none) none)))
    none obj) (h.get i))
   none s) none) none) (H8 h size n x)) (Rq x)
noncomputable def H9 (argTypes:Array TypeId) (gs gx:T→AV):Kd T:=match gK argTypes.toList 0,gK argTypes.toList 1 with
 | some sT,some xT=>match h_ E.P sT,h_ E.P xT with
   | some (.slice elem),some xd=>if jY xd then .wr fun r h=>oU E h elem (gs r) (gx r) else match rv E elem,OI E elem,Cv E elem with
     | some size,some bytes,some z=>if z.cells.length=size then .wr fun r h=>Rr elem size bytes h (gs r) (gx r) else .bad
     | _,_,_=> .bad
   | _,_=> .bad
 | _,_=> .bad
noncomputable def K4 {β:Type} (l:List (Nat×Operand)) (k:(F.T→List (Nat×AV))→β) (d:β):β:=match l with
 | []=>k fun _=> []
 | (i,x)::xs=>wO E F n x (fun g=>K4 xs (fun gs=>k fun r=>(i,g r)::gs r) d) d
noncomputable def vc (fs:List Field):Option (List (Nat×Nat)):=List.rec (motive:=fun _=>Option (List (Nat×Nat))) (some []) (fun f _ ih=>ob none (fun n=>ob none (fun l=>some ((f.offset,n)::l)) ih) (rv E f.type)) fs
noncomputable def Bs (ps:List (Nat×Nat)) (cs:List AV) (l:List (Nat×AV)):Option (List AV):=
 List.rec (motive:=fun _=>List AV→Option (List AV)) (fun cs=>some cs) (fun p _ ih cs=>ob none (fun (q:Nat×Nat)=>bc (Nat.beq (gJ (jv p.2)) q.2) (bc (Nat.ble (Nat.add q.1 q.2) (gJ cs)) (ih (Bj (jv p.2) cs q.1)) none) none) (gK ps p.1)) l cs
noncomputable def OJ (z:List AV) (m:Nat):List AV:=Nat.rec (motive:=fun _=>List AV) [] (fun _ ih=>jk z ih) m
noncomputable def K5 (elem:TypeId) (bytes:Nat) (z:List AV) (l c:AV):Option (aP×(Nat→AV)):=
 nh (fun _ len=>nh (fun _ cap=>jU (fun len=>jU (fun cap=>bc (Nat.ble len cap) (bc (Nat.ble 1073741824 cap) none (bc (Nat.ble (Nat.mul bytes cap) 140737488355328)
  (some (.cells (OJ z cap) elem false,fun i=> .slice i 0 len cap false)) none)) none) none cap) none len) none c) none l
noncomputable def findF (k:List UInt8) (l:List ja):Option (Option AV):=List.rec (motive:=fun _=>Option (Option AV)) (some none) (fun e _ ih=>nV (fun s=>bc (leq vP k s) (some (some e.val)) ih) none e.key) l
noncomputable def K6 {R:Type} (f:List ja→R) (d:R) (o:aP):R:=
 aP.rec (motive:=fun _=>R) (fun _ _ _=>d) (fun es _=>f es) (fun _ _=>d) (fun _ _ _ _=>d) (fun _ _ _ _ _ _ _=>d) d o
noncomputable def Rs {R:Type} (e:R) (f:Nat→R) (d:R) (v:AV):R:=
 AV.rec (motive_1:=fun _=>R) (motive_2:=fun _=>Unit) (fun _=>d) (fun _ _=>d) (fun _=>d) d (fun _ _=>d) d (fun _ _ _ _ _=>d) e (fun i=>f i) (fun _ _ _ _ _=>d) (fun _=>d) d (fun _ _ _=>d) d (fun _ _=>d) (fun _ _=>d) d d () (fun _ _ _ _=>()) v
noncomputable def D_ (h:aq) (m:AV):Option AV:=
 Rs (some (.int .i64 (Int.ofNat 0))) (fun i=>ob none (fun o=>K6 (fun es=>some (.int .i64 (Int.ofNat (gJ es)))) none o) (h.get i)) none m
noncomputable def D' (z:AV) (ok:Bool) (h:aq) (m k:AV):Option AV:=
 nV (fun s=>ob none (fun es=>ob none (fun r=>some (ob (bc ok (.tuple [z,.bool false]) z) (fun v=>bc ok (.tuple [v,.bool true]) v) r)) (findF s es))
  (Rs (some []) (fun i=>ob none (fun o=>K6 (fun es=>some es) none o) (h.get i)) none m)) none k
noncomputable def kC (o:gQ):sX:=gQ.rec (motive:=fun _=>sX) .val .panic .fail o
noncomputable def Bt (t:TypeId) (name:String):Option FuncId:=rz E t name
noncomputable def MW (c:Call) (op:Op):Kd F.T:=match c.callee with
 | .invoke x name=>wO E F n x (fun gx=>wL E F n c.args.toList (fun gs=> .qi fun call r h _=>nW
  (fun t v=>ob (.fail "" none) (fun f=>kC (call (.fn f) (v::gs r) h)) (Bt E t name)) (.fail "" none) (gx r)) .bad) .bad
 | .value (.func f)=>wL E F n c.args.toList (fun gs=>match E.km f with
   | some e=> .fi fun r=>e (gs r)
   | none=>match E.gu f with
     | some g=> .wr fun r h=>g (gs r) h
     | none=> .call (.fn f) gs) .bad
 | .value x=>wO E F n x (fun gf=>wL E F n c.args.toList (fun gs=> .qi fun call r h _=>D7
  (fun g first captured=>ob (kC (call (.fn g) (jk first (jk (gs r) captured)) h)) (fun sp=>ob (.fail "" none) (fun p=> .val p.1 p.2) (sp (jk first (jk (gs r) captured)) h)) (E.gu g))
  (fun l=>kC (call (.tV l) (gs r) h)) (.fail "" none) (gf r)) .bad) .bad
 | .builtin .len=>match gK c.argTypes.toList 0,c.args.toList with
   | some t,[x]=>wO E F n x (fun g=>match h_ E.P t with
     | some .string=> .fi fun r=>nV (fun s=>some (.int .i64 (Int.ofNat (gJ s)))) none (g r)
     | some (.array m _)=> .fi fun _=>some (.int .i64 (Int.ofNat m))
     | some (.slice _)=> .fi fun r=>hB (some (.int .i64 (Int.ofNat 0))) (fun _ _ m _ _=>some (.int .i64 (Int.ofNat m))) (vZ (some (.int .i64 (Int.ofNat 0))) none (g r)) (g r)
     | some (.map _ _)=> .red fun r h=>D_ h (g r)
     | _=> .bad) .bad
   | _,_=> .bad
 | .builtin .cap=>match gK c.argTypes.toList 0,c.args.toList with
   | some t,[x]=>wO E F n x (fun g=>match h_ E.P t with
     | some (.slice _)=> .fi fun r=>hB (some (.int .i64 (Int.ofNat 0))) (fun _ _ _ c b=>bc b none (some (.int .i64 (Int.ofNat c)))) none (g r)
     | _=> .bad) .bad
   | _,_=> .bad
 | .builtin .max=> .fi fun r=>bm E (dJ F n r) op
 | .builtin .min=> .fi fun r=>bm E (dJ F n r) op
 | .builtin .append=>match c.args.toList with
   | [s,x]=>wO E F n s (fun gs=>wO E F n x (fun gx=>H9 E c.argTypes gs gx) .bad) .bad
   | _=> .bad
 | .builtin .copy=>match c.args.toList with
   | [s,x]=>wO E F n s (fun gs=>wO E F n x (fun gx=> .wr fun r h=>qt E h c.argTypes (gs r) (gx r)) .bad) .bad
   | _=> .bad
 | .builtin .recover=> .qi fun _ _ h rc=>match rc with
   | .gH x=> .ov x
   | .AE _=> .fail "" none
   | _=> .val .nilIface h
 | _=> .bad
noncomputable def Ea (src dst:TypeId) (g:T→AV):Kd T:=match h_ E.P src,h_ E.P dst with
 | some (.int _),some (.int k)=> .fi fun r=>nh (fun _ n=>some (.int k (qy k n))) none (g r)
 | some .string,some .string=> .fi fun r=>nV (fun s=>some (.str s)) none (g r)
 | some (.slice e),some .string=>match h_ E.P e with
   | some (.int .u8)=> .red fun r h=>hB (some (.str [])) (fun i o len _ _=>ob none (fun l=>some (.str l)) (zj h i o len)) none (g r)
   | _=> .bad
 | some .string,some (.slice _)=> .wr fun r h=>ye E h src dst (some (g r))
 | _,_=> .bad
noncomputable def qz (op:Op):Kd F.T:=match op with
 | .move x=>wO E F n x .AH .bad
 | .assign x=>wO E F n x .AH .bad
 | .pick c a b=>wO E F n c (fun gc=>wO E F n a (fun ga=>wO E F n b (fun gb=> .fi fun r=>g_ (fun t=>bc t (some (ga r)) (some (gb r))) none (gc r)) .bad) .bad) .bad
 | .binOp op t x y _=>wO E F n x (fun gx=>wO E F n y (fun gy=>dX op (jq E op t (isConst x) (isConst y)) gx gy) .bad) .bad
 | .unOp op _ x=>wO E F n x (Rp op) .bad
 | .fieldAddr s x f=>match Qf E s f with
   | some fd=>match rv E fd.type with
     | some (_+1)=>wO E F n x (fun g=> .fi fun r=>tq (fun i o=>some (.ptr i (Nat.add o fd.offset))) none (g r)) .bad
     | _=> .bad
   | none=> .bad
 | .load t a=>wO E F n a (fun g=>rW E t fun p=> .red fun r h=>Br p h (g r)) .bad
 | .store t a x=>match rv E t with
   | some m=>wO E F n a (fun ga=>wO E F n x (fun gx=> .wr fun r h=>vU m h (ga r) (gx r)) .bad) .bad
   | none=> .bad
 | .nilCheck x=>wO E F n x (fun g=> .fi fun r=>bc (zL (g r)) (some (g r)) none) .bad
 | .extract x i=>wO E F n x (fun g=> .fi fun r=>tu (fun _=>none) (fun vs=>gK vs i) none (g r)) .bad
 | .field s x f=>match Qf E s f with
   | some fd=>wO E F n x (fun g=>rW E fd.type fun p=> .fi fun r=>tu (fun cs=>p cs fd.offset) (fun _=>none) none (g r)) .bad
   | none=> .bad
 | .indexAddr t x ix=>wO E F n x (fun gx=>wO E F n ix (fun gi=>match h_ E.P t with
   | some (.array len elem)=>match rv E elem with
     | some size=> .fi fun r=>tq (fun i o=>zV len size i o (gi r)) none (gx r)
     | none=> .bad
   | some (.slice elem)=>match rv E elem with
     | some size=> .fi fun r=>hB none (fun i o len _ _=>zV len size i o (gi r)) none (gx r)
     | none=> .bad
   | _=> .bad) .bad) .bad
 | .index t x ix=>wO E F n x (fun gx=>wO E F n ix (fun gi=>match h_ E.P t with
   | some .string=> .fi fun r=>nV (fun s=>nh (fun _ i=>jU (fun m=>ob none (fun (b:UInt8)=>some (.int .u8 (Int.ofNat b.toNat))) (gK s m)) none i) none (gi r)) none (gx r)
   | _=> .fi fun r=>bm E (dJ F n r) op) .bad) .bad
 | .slice t x lo hi none=>wO E F n x (fun gx=>wP E F n lo (fun gl=>wP E F n hi (fun gh=>match h_ E.P t with
   | some (.slice elem)=>match rv E elem with
     | some size=> .fi fun r=>TQ size (xM gl r) (xM gh r) (gx r)
     | none=> .bad
   | some .string=> .fi fun r=>TR (xM gl r) (xM gh r) (gx r)
   | some (.array m elem)=>match rv E elem with
     | some size=> .fi fun r=>TS m size (xM gl r) (xM gh r) (gx r)
     | none=> .bad
   | _=> .fi fun r=>bm E (dJ F n r) op) .bad) .bad) .bad
 | .convert src dst x=>wO E F n x (Ea E src dst) .bad
 | .makeInterface t x=>match h_ E.P t with
   | some (.interface _)=> .bad
   | some _=>wO E F n x (fun g=> .AH fun r=> .iface t (g r)) .bad
   | none=> .bad
 | .makeFunc (.func f) first captured=>wL E F n first.toList (fun ga=>wL E F n captured.toList (fun gb=> .AH fun r=> .func f (ga r) (gb r)) .bad) .bad
 | .alloc t=>match Cv E t with
   | some z=> .oW fun _=>some (.cells z.cells t false,fun i=> .ptr i 0)
   | none=> .bad
 | .box t x=>wO E F n x (fun g=> .oW fun r=>some (.cells (jv (g r)) t false,fun i=> .ptr i 0)) .bad
 | .buildSlice t len parts=>match h_ E.P t with
   | some (.slice elem)=>match rv E elem,Cv E elem with
     | some m,some z=>if z.cells.length=m∧len*m≤2^24 then K4 E F n parts.toList (fun gp=> .oW fun r=>ob none (fun cs=>some (.cells cs elem false,fun i=> .slice i 0 len len false)) (ou (fun i=>some (i*m,m)) (eN z.cells len) (gp r))) .bad else .bad
     | _,_=> .bad
   | _=> .bad
 | .makeSlice t l c=>wO E F n l (fun gl=>wO E F n c (fun gc=>match h_ E.P t with
   | some (.slice elem)=>match rv E elem,OI E elem,Cv E elem with
     | some m,some bytes,some z=>if z.cells.length=m then .oW fun r=>K5 elem bytes z.cells (gl r) (gc r) else .bad
     | _,_,_=> .bad
   | _=> .bad) .bad) .bad
 | .makeMap _ none=> .oW fun _=>some (.map [] 0,fun i=> .map i)
 | .makeMap .. | .range .. => .oW fun r=>dj E (dJ F n r) op
 | .lookup t x ix ok=>wO E F n x (fun gx=>wO E F n ix (fun gi=>match h_ E.P t with
   | some (.map key elem)=>match h_ E.P key,Cv E elem with
     | some .string,some z=> .red fun r h=>D' z ok h (gx r) (gi r)
     | _,_=> .red fun r h=>c9 E (dJ F n r) h op
   | _=> .bad) .bad) .bad
 | .build t parts=>match Cv E t,h_ E.P t with
   | some z,some (.struct fs)=>match vc E fs.toList with
     | some ps=>K4 E F n parts.toList (fun gp=> .fi fun r=>ob none (fun cs=>some (.agg cs)) (Bs ps (jv z) (gp r))) .bad
     | none=> .bad
   | _,_=> .fi fun r=>bm E (dJ F n r) op
 | .slice .. | .typeAssert .. => .fi fun r=>bm E (dJ F n r) op
 | .mapUpdate t m k x=>wO E F n m (fun gm=>wO E F n k (fun gk=>wO E F n x (fun gx=> .wr fun r h=>ob none (fun h'=>some (AV.undef,h')) (dv E h t (gm r) (gk r) (gx r))) .bad) .bad) .bad
 | .insert t m k x=>wO E F n m (fun gm=>wO E F n k (fun gk=>wO E F n x (fun gx=> .wr fun r h=>ob none (fun h'=>some (AV.undef,h')) (dv E h t (gm r) (gk r) (gx r))) .bad) .bad) .bad
 | .next it s=>wO E F n it (fun g=> .wr fun r h=>yd h (g r) s) .bad
 | .panic x=>wO E F n x (fun g=> .qi fun _ r h _=>nW (fun t w=> .panic (.iface t w) h) (.fail "" none) (g r)) .bad
 | .defer c=> .qi fun _ r _ rc=>match rc,callee E (dJ F n r) c with
   | .AE _,_=> .fail "" none
   | _,some (.fn f,args)=> .defer (.call f args)
   | _,_=> .fail "" none
 | .call c=>MW E F n c op
 | _=> .bad
noncomputable def C7 (kd:Kd T) (s:AV→T→T) (j:I T):I T:=match kd with
 | .AH g=>⟨fun call r h y=>j.run call (s (g r) r) h y⟩
 | .fi f=>⟨fun call r h y=>ob .bad (fun v=>j.run call (s v r) h y) (f r)⟩
 | .red f=>⟨fun call r h y=>ob .bad (fun v=>j.run call (s v r) h y) (f r h)⟩
 | .oW f=>⟨fun call r h y=>ob .bad (fun p=>ob .bad (fun h'=>j.run call (s (p.2 h.nx) r) h' y) (h.new p.1)) (f r)⟩
 | .wr f=>⟨fun call r h y=>ob .bad (fun p=>j.run call (s p.1 r) p.2 y) (f r h)⟩
 | .call g args=>⟨fun call r h y=>gQ.rec (motive:=fun _=>FO T) (fun v h'=>j.run call (s v r) h' y) (fun v h'=> .jmp (.panic v) r h' y) (fun _ _=> .bad) (call g (args r) h)⟩
 | .qi f=>⟨fun call r h y=>sX.rec (motive:=fun _=>FO T) (fun v h'=>j.run call (s v r) h' y) (fun d=>j.run call (s AV.undef r) h ⟨d::y.ds,y.rc⟩) (fun v=>j.run call (s v r) h ⟨y.ds,.done⟩)
  (fun v h'=> .jmp (.panic v) r h' y) (fun _ _=> .bad) (f call r h y.rc)⟩
 | .bad=>⟨fun _ _ _ _=> .bad⟩
noncomputable def MX (s:AV→T→T) (j:I T):I T:=⟨fun call r h y=>j.run call (s AV.undef r) h y⟩
noncomputable def C8 (g:T→AV) (want:Bool) (a b:I T):I T:=match want with
 | true=>⟨fun call r h y=>g_ (fun t=>bc t (a.run call r h y) (b.run call r h y)) (b.run call r h y) (g r)⟩
 | false=>⟨fun call r h y=>g_ (fun t=>bc t (b.run call r h y) (a.run call r h y)) (b.run call r h y) (g r)⟩
noncomputable def Eb (ops:Array Oper) (o:Oper) (a b:I F.T):I F.T:=match o.guard with
 | none=>a
 | some (j,want)=>match ob none (fun p=>p.dst) (gK ops.toList j) with
   | some d=>bc (Nat.ble n d) b (wA (F.get d) fun g=>C8 g want a b)
   | none=>b
noncomputable def H_ (ops:Array Oper) (o:Oper) (j:I F.T):I F.T:=wS F n o.dst fun s=>Eb F n ops o (C7 (qz E F n o.op) s j) (MX s j)
noncomputable def qa (ops:Array Oper) (l:List Oper):I F.T:=List.rec (motive:=fun _=>I F.T) ⟨fun _ r h y=> .Bq r h y⟩ (fun o _ j=>H_ E F n ops o j) l
noncomputable def Rt (rV:AV→AV→Bool) (x y:AV):Bool:=
 nh (fun k a=>nh (fun j b=>bc (HR k j) (MS a b) false) false y)
  (nV (fun s=>nV (fun t=>leq vP s t) false y)
   (tq (fun i o=>tq (fun j p=>bc (Nat.beq i j) (Nat.beq o p) false) false y)
    (g_ (fun a=>g_ (fun b=>bc a b (qV b)) false y) (rV x y) x) x) x) x
noncomputable def vV (m:Nat):AV→AV→Bool:=Nat.rec (motive:=fun _=>AV→AV→Bool) (fun _ _=>false)
 (fun i ih x y=>Rt (fun x y=>tu (fun a=>tu (fun b=>leq ih a b) (fun _=>false) false y) (fun _=>AV.same (i+1) x y) (AV.same (i+1) x y) x) x y) m
structure FC where
 k:Nat
 m:Nat
 made:Option Nat
 f:aq→Bool
inductive DO (T:Type) where
 | ok (tr:List FC) (hs:List aq) (r:T) (h:aq) (y:Y)
 | bad
structure D (T:Type) where
 run:aY→T→aq→Y→DO T
noncomputable def yE (x:FC) (d:DO T):DO T:=DO.rec (motive:=fun _=>DO T) (fun tr hs r h y=> .ok (x::tr) hs r h y) .bad d
noncomputable def nY (h0:aq) (d:DO T):DO T:=DO.rec (motive:=fun _=>DO T) (fun tr hs r h y=> .ok tr (h0::hs) r h y) .bad d
noncomputable def Ec (kd:Kd T) (s:AV→T→T) (j:D T):D T:=match kd with
 | .wr f=>⟨fun call r h y=>ob .bad (fun p=>nY h (j.run call (s p.1 r) p.2 y)) (f r h)⟩
 | .call g args=>⟨fun call r h y=>gQ.rec (motive:=fun _=>DO T) (fun v h'=>nY h (j.run call (s v r) h' y)) (fun _ _=> .bad) (fun _ _=> .bad) (call g (args r) h)⟩
 | .qi f=>⟨fun call r h y=>sX.rec (motive:=fun _=>DO T) (fun v h'=>nY h (j.run call (s v r) h' y)) (fun _=> .bad) (fun _=> .bad) (fun _ _=> .bad) (fun _ _=> .bad) (f call r h y.rc)⟩
 | _=>⟨fun _ _ _ _=> .bad⟩
noncomputable def Ed (k m:Nat) (kd:Kd T) (s:AV→T→T) (j:D T):D T:=match kd with
 | .AH g=>⟨fun call r h y=>j.run call (s (g r) r) h y⟩
 | .fi f=>⟨fun call r h y=>ob .bad (fun v=>j.run call (s v r) h y) (f r)⟩
 | .red f=>⟨fun call r h y=>ob .bad (fun v=>yE ⟨k,m,none,fun h'=>ob false (fun v'=>vV 20 v' v) (f r h')⟩ (j.run call (s v r) h y)) (f r h)⟩
 | .oW f=>⟨fun call r h y=>ob .bad (fun p=>ob .bad (fun h'=>yE ⟨k,m,some h.nx,fun Ee=>ob false (fun o=>aP.same o p.1) (Ee.get h.nx)⟩ (j.run call (s (p.2 h.nx) r) h' y)) (h.new p.1)) (f r)⟩
 | _=>⟨fun _ _ _ _=> .bad⟩
noncomputable def H' (s:AV→T→T) (j:D T):D T:=⟨fun call r h y=>j.run call (s AV.undef r) h y⟩
noncomputable def C9 (s:AV→T→T) (j:D T):D T:=⟨fun call r h y=>nY h (j.run call (s AV.undef r) h y)⟩
noncomputable def Ia (g:T→AV) (want:Bool) (a b:D T):D T:=match want with
 | true=>⟨fun call r h y=>g_ (fun t=>bc t (a.run call r h y) (b.run call r h y)) (b.run call r h y) (g r)⟩
 | false=>⟨fun call r h y=>g_ (fun t=>bc t (b.run call r h y) (a.run call r h y)) (b.run call r h y) (g r)⟩
noncomputable def uf (ops:Array Oper) (o:Oper) (a b:D F.T):D F.T:=match o.guard with
 | none=>a
 | some (j,want)=>match ob none (fun p=>p.dst) (gK ops.toList j) with
   | some d=>bc (Nat.ble n d) b (wA (F.get d) fun g=>Ia g want a b)
   | none=>b
noncomputable def gV (ops:Array Oper) (pl:jZ) (l:List Nat):Nat→D F.T:=List.rec (motive:=fun _=>Nat→D F.T) (fun _=>⟨fun _ r h y=> .ok [] [h] r h y⟩)
 (fun i _ ih k=>ob ⟨fun _ _ _ _=> .bad⟩ (fun o=>wS F n o.dst fun s=>
  bc (ni E o.op) (canon (Nat.add k 1) fun k'=>uf F n ops o (Ec (qz E F n o.op) s (ih k')) (C9 s (ih k')))
   (canon (Nat.sub (Nat.add (vb pl.bA pl.an i) 1) k) fun m=>uf F n ops o (Ed k m (qz E F n o.op) s (ih k)) (H' s (ih k)))) (gK ops.toList i)) l
noncomputable def Ef (tr:List FC):List Nat:=List.rec (motive:=fun _=>List Nat) [] (fun x _ ih=>ob ih (fun i=>i::ih) x.made) tr
noncomputable def nZ (tr:List FC) (hs:List aq):Bool:=bc (zU (Ef tr)) (tw (fun x=>tw x.f (po (pn hs x.k) x.m)) tr) false
noncomputable def K7 (ops:Array Oper) (pl:jZ) (call:aY) (r:F.T) (h:aq) (y:Y):FO F.T:=match pl.order.reverse with
 | []=> .bad
 | i::front=>match (gV E F n ops pl front.reverse 0).run call r h y,ops[i]? with
   | .ok tr hs r1 h1 y1,some ⟨dst,.call c,ty,pos,after,guard⟩=>
     match eg E (.call c)&&b_ ops (dJ F n r1) ⟨dst,.call c,ty,pos,after,guard⟩&&(List.range ops.size).all (fun j=>j==i||cN pl.an i j),
      cD E call (dJ F n r1) h1 y1.rc ⟨dst,.call c,ty,pos,after,guard⟩ with
     | true,.panic v h'=>match nZ tr (hs++[h']) with
       | true=> .jmp (.panic v) r1 h' y1
       | false=> .bad
     | _,_=> .bad
   | _,_=> .bad
noncomputable def Eg (ops:Array Oper):I F.T:=H2 E ops (fun pl=>
 ⟨fun call r h y=>DO.rec (motive:=fun _=>FO F.T) (fun tr hs r' h' y'=>bc (nZ tr hs) (.Bq r' h' y') .bad) (K7 E F n ops pl call r h y) ((gV E F n ops pl pl.order 0).run call r h y)⟩) ⟨fun _ _ _ _=> .bad⟩
def MY (r:T) (o:Out):FO T:=match o with
 | .ok .normal s=> .Bq r s.h ⟨s.ds,s.rc⟩
 | .ok e s=> .jmp e r s.h ⟨s.ds,s.rc⟩
 | .fail _ _=> .bad
noncomputable def zX (f:Operand) (ps:Array Tmp) (as bd:Code):I F.T:=
 wO E F n f (fun _=>⟨fun call r h y=>MY r (kQ E call f ps as bd ⟨dJ F n r,h,y.ds,y.rc⟩)⟩) ⟨fun _ _ _ _=> .bad⟩
noncomputable def nS {R:Type} (d:R) (k:Nat→R) (m:Nat):R:=Nat.rec (motive:=fun _=>R) d (fun i _=>k i) m
noncomputable def fo {R:Type} (a:T→aq→Y→R) (b:iS→T→aq→Y→R) (d:R) (o:FO T):R:=FO.rec (motive:=fun _=>R) a b d o
noncomputable def Ib {R:Type} (f:Nat→R) (d:R) (e:iS):R:=iS.rec (motive:=fun _=>R) d f d (fun _=>d) e
noncomputable def Ic (b:C T) (m:Nat):aY→T→aq→Y→FO T:=
 Nat.rec (motive:=fun _=>aY→T→aq→Y→FO T) (fun _ _ _ _=> .bad) (fun i ih call r h y=>fo (fun r' h' y'=>ih call r' h' y') .jmp .bad (b.run i call r h y)) m
noncomputable def K8 (i:I T):C T:=⟨fun m call r h y=>nS .bad (fun _=>i.run call r h y) m⟩
noncomputable def kD (c:Code):C F.T:=Code.rec (motive:=fun _=>C F.T)
 ⟨fun m _ r h y=>nS .bad (fun _=> .Bq r h y) m⟩
 (fun _ ops draw=>bc draw (K8 (Eg E F n ops)) (K8 (qa E F n ops ops.toList)))
 (fun _ _ a b=>⟨fun m call r h y=>nS .bad (fun i=>fo (fun r' h' y'=>b.run i call r' h' y') .jmp .bad (a.run i call r h y)) m⟩)
 (fun x _ _ a b=>wO E F n x (fun g=>⟨fun m call r h y=>nS .bad (fun i=>g_ (fun t=>bc t (a.run i call r h y) (b.run i call r h y)) .bad (g r)) m⟩) ⟨fun _ _ _ _ _=> .bad⟩)
 (fun id _ b=>⟨fun m call r h y=>nS .bad (fun i=>fo .Bq (fun e r' h' y'=>Ib (fun j=>bc (Nat.beq j id) (.Bq r' h' y') (.jmp e r' h' y')) (.jmp e r' h' y') e) .bad (b.run i call r h y)) m⟩)
 (fun _ b=>⟨fun m call r h y=>Ic b m call r h y⟩)
 (fun f ps as bd _ _=>K8 (zX E F n f ps as bd))
 (fun id=>⟨fun m _ r h y=>nS .bad (fun _=> .jmp (.exit id) r h y) m⟩)
 (fun _ b=>⟨fun m call r h y=>nS .bad (fun i=>b.run i call r h y) m⟩)
 (fun _=>⟨fun m _ r h y=>nS .bad (fun _=> .Bq r h y) m⟩)
 (fun _=>⟨fun _ _ _ _ _=> .bad⟩)
 ⟨fun m _ r h y=>nS .bad (fun _=> .jmp .ret r h y) m⟩
 (fun _=>⟨fun _ _ _ _ _=> .bad⟩) c
end
section
variable (E:Env)
inductive BO where
 | fin (res:aq→Option (List AV)) (h:aq) (y:Y)
 | Ru (v:AV) (res:aq→Option (List AV)) (h:aq) (y:Y)
 | bad
structure CF where
 run:Nat→aY→List AV→aq→RC→BO
noncomputable def tC (F:RF) (n:Nat):List ResultVar→W (F.T→aq→Option (List AV))
 | []=>⟨fun _ _=>some []⟩
 | .tmp t::rest=>wT F n t fun g=>wW (tC F n rest) fun k=>⟨fun r h=>ob none (fun vs=>some (g r::vs)) (k r h)⟩
 | .cell a t::rest=>wT F n a fun g=>wW (tC F n rest) fun k=>⟨fun r h=>ob none (fun v=>ob none (fun vs=>some (v::vs)) (k r h)) (b9 E h t (g r))⟩
noncomputable def Ie (F:RF) (n:Nat) (fn:Func) (b:Code):CF:=
 wW (tC E F n fn.results.toList) fun res=>⟨fun fuel call args h rc=>bc (Nat.ble (gJ args) n)
  (fo (fun r h' y=> .fin (res r) h' y) (fun e r h' y=>iS.rec (motive:=fun _=>BO) .bad (fun _=> .bad) (.fin (res r) h' y) (fun v=> .Ru v (res r) h' y) e) .bad
   ((kD E F n b).run fuel call (GR F args F.z 0) h ⟨[],rc⟩)) .bad⟩
noncomputable def ug (f:FuncId):CF:=match OE E.P f with
 | none=>⟨fun _ _ _ _ _=> .bad⟩
 | some fn=>match fn.body with
   | none=>⟨fun _ _ _ _ _=> .bad⟩
   | some b=>bc (Nat.ble fn.ntmps 64) (Ie E TM fn.ntmps fn b) (bc (Nat.ble fn.ntmps 512) (Ie E TN fn.ntmps fn b) ⟨fun _ _ _ _ _=> .bad⟩)
noncomputable def bo {R:Type} (a:(aq→Option (List AV))→aq→Y→R) (b:AV→(aq→Option (List AV))→aq→Y→R) (d:R) (o:BO):R:=BO.rec (motive:=fun _=>R) a b d o
noncomputable def Eh (F:RF) (call:aY) (fuel:Nat) (c:Code) (s:St):Out:=
 fo (fun r h y=> .ok .normal ⟨dJ F s.ts.length r,h,y.ds,y.rc⟩) (fun e r h y=> .ok e ⟨dJ F s.ts.length r,h,y.ds,y.rc⟩) (.fail "" none) ((kD E F s.ts.length c).run fuel call (GR F s.ts F.z 0) s.h ⟨s.ds,s.rc⟩)
noncomputable def Ei (call:aY) (fuel:Nat) (c:Code) (s:St):Out:=
 bc (Nat.ble s.ts.length 64) (Eh E TM call fuel c s) (bc (Nat.ble s.ts.length 512) (Eh E TN call fuel c s) (.fail "" none))
noncomputable def vW (call:aY) (fuel:Nat) (l:Nat) (args:List AV) (h:aq):gQ:=match h.get l with
 | some (.loop _ _ ts ps as bd _)=>if args.length=ps.length then
  match Ei E call fuel as {ts:=(ps.zip args).foldl (fun ts x=>ts.set x.1 x.2) ts,h,ds:=[],rc:= .AE l} with
  | .ok .normal s1=>match s1.h.get l with
    | some (.loop .ready pd N2 Mw Kq N3 N4)=>
      match Ei E call fuel bd {s1 with h:=s1.h.put l (some (.loop .busy pd N2 Mw Kq N3 N4))} with
      | .ok .normal s2=>vh l none s2
      | .ok .ret s2=>vh l (some .ret) s2
      | .ok (.exit id) s2=>vh l (some (.exit id)) s2
      | .ok (.panic v) s2=>if s2.ds.isEmpty then .panic v s2.h else .fail "round defers" none
      | .fail why q=> .fail why q
    | _=> .fail "round state" none
  | .ok _ _=> .fail "round assign" none
  | .fail why q=> .fail why q
   else .fail "round args" none
 | _=> .fail "round" none
noncomputable def fM (call:aY) (fuel:Nat) (g:FuncId) (as:List AV) (h:aq) (rc:RC):Option (aq×RC):=
 bo (fun res h' y=>bc y.ds.isEmpty (ob none (fun _=>some (h',y.rc)) (res h')) none) (fun _ _ _ _=>none) none ((ug E g).run fuel call as h rc)
noncomputable def Bu (call:aY) (fuel:Nat) (p:Option AV) (res:aq→Option (List AV)) (h:aq) (ds:List nD):gQ:=match cz (fM E call fuel) ds p h with
 | none=> .fail "unwind" none
 | some (some v,h')=> .panic v h'
 | some (none,h')=>ob (.fail "results" none) (fun vs=> .ret (fF vs) h') (res h')
noncomputable def YG {R:Type} (a:FuncId→R) (b:Nat→R) (f:Fn):R:=Fn.rec (motive:=fun _=>R) a b f
noncomputable def Bv {α R:Type} (a b:R) (l:List α):R:=List.rec (motive:=fun _=>R) a (fun _ _ _=>b) l
noncomputable def Rv (fuel:Nat) (call:aY) (g:Fn) (args:List AV) (h:aq):gQ:=
 YG (fun f=>bo (fun res h' y=>Bv (ob (.fail "results" none) (fun vs=> .ret (fF vs) h') (res h')) (Bu E call fuel none res h' y.ds) y.ds)
  (fun v res h' y=>Bv (.panic v h') (Bu E call fuel (some v) res h' y.ds) y.ds) (.fail "body" none) ((ug E f).run fuel call args h .no))
  (fun l=>vW E call fuel l args h) g
noncomputable def uh (d fuel:Nat):aY:=Nat.rec (motive:=fun _=>aY) (fun _ _ _=> .fail "depth" none) (fun _ ih=>Rv E fuel ih) d
end
end Go.Ab.Fa
end
section
namespace Go.Ab.Fa
theorem K9 {α R:Type} {d:R} {f:α→R} {a:α}:ob d f (some a)=f a:=rfl
theorem gW {R:Type} (x y:R):bc true x y=x:=rfl
theorem c_ {R:Type} (x y:R):bc false x y=y:=rfl
theorem fb {α β:Type} {f:α→Option β} {o:Option α} {v:β} (h:ob none f o=some v):∃a,o=some a∧f a=some v:=by
 cases o with
 | none=>exact absurd h (by intro e;cases e)
 | some a=>exact ⟨a,rfl,h⟩
theorem eB {β:Type} {b:Bool} {x:Option β} {v:β} (h:bc b x none=some v):b=true∧x=some v:=by
 cases b with
 | false=>cases h
 | true=>exact ⟨rfl,h⟩
theorem n3 {β:Type} {b:Bool} {x:Option β} {v:β} (h:bc b none x=some v):b=false∧x=some v:=by
 cases b with
 | false=>exact ⟨rfl,h⟩
 | true=>cases h
theorem yF {β:Type} {f:Bool→Option β} {a:AV} {v:β} (h:g_ f none a=some v):∃b,a= .bool b∧f b=some v:=by
 cases a with
 | bool b=>exact ⟨b,rfl,h⟩
 | _=>exact absurd h (by intro e;cases e)
theorem hD {β:Type} {f:IntKind→Int→Option β} {a:AV} {v:β} (h:nh f none a=some v):∃k n,a= .int k n∧f k n=some v:=by
 cases a with
 | int k n=>exact ⟨k,n,rfl,h⟩
 | _=>exact absurd h (by intro e;cases e)
theorem l8 {β:Type} {f:List UInt8→Option β} {a:AV} {v:β} (h:nV f none a=some v):∃s,a= .str s∧f s=some v:=by
 cases a with
 | str s=>exact ⟨s,rfl,h⟩
 | _=>exact absurd h (by intro e;cases e)
theorem pv {β:Type} {f:Nat→Nat→Option β} {a:AV} {v:β} (h:tq f none a=some v):∃i o,a= .ptr i o∧f i o=some v:=by
 cases a with
 | ptr i o=>exact ⟨i,o,rfl,h⟩
 | _=>exact absurd h (by intro e;cases e)
theorem l9 {β:Type} {e:Option β} {f:Nat→Nat→Nat→Nat→Bool→Option β} {a:AV} {v:β} (h:hB e f none a=some v):
 (a= .aF∧e=some v)∨∃i o l c b,a= .slice i o l c b∧f i o l c b=some v:=by
 cases a with
 | aF=>exact .inl ⟨rfl,h⟩
 | slice i o l c b=>exact .inr ⟨i,o,l,c,b,rfl,h⟩
 | _=>exact absurd h (by intro e;cases e)
theorem Bw {β:Type} {e z:Option β} {f:Nat→Nat→Nat→Nat→Bool→Option β} {a:AV} {v:β} (h:hB e f (vZ z none a) a=some v):
 (a= .aF∧e=some v)∨(∃i o l c b,a= .slice i o l c b∧f i o l c b=some v)∨(a= .dG∧z=some v):=by
 cases a with
 | aF=>exact .inl ⟨rfl,h⟩
 | slice i o l c b=>exact .inr (.inl ⟨i,o,l,c,b,rfl,h⟩)
 | dG=>exact .inr (.inr ⟨rfl,h⟩)
 | _=>exact absurd h (by intro e;cases e)
theorem ma {β:Type} {f:Nat→Option β} {n:Int} {v:β} (h:jU f none n=some v):∃m:Nat,n=(m:Int)∧f m=some v:=by
 cases n with
 | ofNat m=>exact ⟨m,rfl,h⟩
 | negSucc m=>cases h
theorem n4 {β:Type} {f:List AV→TypeId→Bool→Option β} {o:aP} {v:β} (h:tv f none o=some v):∃cs e ro,o= .cells cs e ro∧f cs e ro=some v:=by
 cases o with
 | cells cs e ro=>exact ⟨cs,e,ro,rfl,h⟩
 | _=>exact absurd h (by intro e;cases e)
theorem ek {a b:Nat} (h:Nat.ble a b=true):a≤b:=Nat.le_of_ble_eq_true h
theorem iB {a b:Nat} (h:Nat.ble a b=false):b<a:=by
 apply Decidable.byContradiction;intro hn
 rw[Nat.ble_eq_true_of_le (by omega)] at h;cases h
theorem kV {a b:Nat} (h:Nat.beq a b=true):a=b:=Nat.eq_of_beq_eq_true h
theorem Ej {k j:IntKind} (h:HR k j=true):k=j:=by
 cases k<;>cases j<;>first | rfl | exact absurd h (by intro e;cases e)
theorem rX (b:Bool):qV b= !b:=by cases b<;>rfl
theorem Ig {k:IntKind} (h:MR k=false) (n:Int):k.wrap n=n%(qj k:Int):=by
 cases k<;>first | (cases h;done) | simp [IntKind.wrap,IntKind.bits,IntKind.signed,qj,OC]
theorem Ih {k:IntKind} (h:MR k=true) {m:Nat} (hm:m<qj k):k.wrap (Int.negSucc m)=Int.negSucc m:=by
 have hb:(2^(k.bits - 1):Int)=(qj k:Int)∧(2^k.bits:Int)=2*(qj k:Int)∧k.signed=true:=by
  cases k<;>first | (cases h;done) | (refine ⟨rfl,rfl,rfl⟩)
 obtain ⟨h1,h2,h3⟩:=hb
 unfold IntKind.wrap
 rw[h1,h2,h3,Int.negSucc_eq]
 generalize qj k=B at *
 have e: -((m:Int)+1)%(2*(B:Int))=2*(B:Int) -(m+1):=by
  rw[←Int.add_emod_right]
  exact Int.emod_eq_of_lt (by omega) (by omega)
 rw[e]
 simp only[Bool.true_and,decide_eq_true_eq]
 rw[if_pos (by omega)]
 omega
theorem mb (k:IntKind) (n:Int):qy k n=k.wrap n:=by
 cases n with
 | ofNat m=>
   show bc (Nat.ble (qj k) m) (bc (MR k) (k.wrap (Int.ofNat m)) (Int.ofNat (Nat.mod m (qj k)))) (Int.ofNat m)=_
   cases h:Nat.ble (qj k) m
   · have h:=iB h
     rw[c_]
     cases k<;>simp [IntKind.wrap,IntKind.bits,IntKind.signed]<;>simp only[qj,OC] at h<;>omega
   · rw[gW]
     cases hs:MR k
     · rw[c_,Ig hs];rfl
     · rw[gW]
 | negSucc m=>
   show bc (MR k) (bc (Nat.ble (qj k) m) (k.wrap (Int.negSucc m)) (Int.negSucc m)) (k.wrap (Int.negSucc m))=_
   cases hs:MR k
   · rw[c_]
   · rw[gW]
     cases h:Nat.ble (qj k) m
     · have h:=iB h
       rw[c_]
       exact (Ih hs h).symm
     · rw[gW]
theorem K_ (a b:Int):zM a b=a+b:=by
 cases a<;>cases b<;>rfl
theorem La (a b:Int):HU a b=a - b:=by
 cases a with
 | negSucc x=>rfl
 | ofNat x=>
   cases b with
   | negSucc y=>rfl
   | ofNat y=>
     show bc (Nat.ble y x) (Int.ofNat (x - y)) (Int.negSucc (y - x - 1))=_
     cases h:Nat.ble y x
     · have h:=iB h
       rw[c_,Int.negSucc_eq];simp only[Int.ofNat_eq_natCast];omega
     · have h:=ek h
       rw[gW];simp only[Int.ofNat_eq_natCast];omega
theorem Ek (a b:Int):HV a b=a*b:=by
 cases a<;>cases b<;>rfl
theorem C_ (a b:Int):MS a b=(a==b):=by
 have:MS a b=decide (a=b):=by
  cases a with
  | ofNat x=>cases b with
    | ofNat y=>
      show Nat.beq x y=_
      rw[←uP]
      by_cases h:x=y
      · subst h;simp
      · rw[show (x==y)=false by simp [h]];symm;apply decide_eq_false;simp only[Int.ofNat_eq_natCast];omega
    | negSucc y=>simp;rfl
  | negSucc x=>cases b with
    | ofNat y=>simp;rfl
    | negSucc y=>
      show Nat.beq x y=_
      rw[←uP]
      by_cases h:x=y
      · subst h;simp
      · simp [h]
 rw[this];rfl
theorem zY (a b:Int):KW a b=decide (a<b):=by
 cases a with
 | ofNat x=>cases b with
   | ofNat y=>
     show Nat.ble (x+1) y=_
     rw[←p_];simp only[Int.ofNat_eq_natCast];congr 1;apply propext;omega
   | negSucc y=>
     symm;exact decide_eq_false (by rw[Int.negSucc_eq];simp only[Int.ofNat_eq_natCast];omega)
 | negSucc x=>cases b with
   | ofNat y=>
     symm;exact decide_eq_true (by rw[Int.negSucc_eq];simp only[Int.ofNat_eq_natCast];omega)
   | negSucc y=>
     show Nat.ble (y+1) x=_
     rw[←p_];congr 1;apply propext;rw[Int.negSucc_eq,Int.negSucc_eq];omega
theorem vX (a b:Int):(!decide (a<b))=decide (b≤a):=by
 by_cases h:a<b
 · rw[decide_eq_true h,decide_eq_false (by omega)];rfl
 · rw[decide_eq_false h,decide_eq_true (by omega)];rfl
theorem Lb (k:IntKind) {x:Nat} (h:x<qj k):x<2^k.bits:=by
 cases k<;>simp only[qj,OC,IntKind.bits] at * <;>omega
theorem El (k:IntKind) {x:Nat} (h:x<qj k):k.wrap (x:Int)=x:=by
 have:=mb k (Int.ofNat x)
 rw[Int.ofNat_eq_natCast] at this
 rw[←this]
 show bc (Nat.ble (qj k) x) _ (Int.ofNat x)=_
 rw[lP h];rfl
theorem Lc (k:IntKind):∃m,qj k=2^m:=by
 cases k
 · exact ⟨7,rfl⟩
 · exact ⟨15,rfl⟩
 · exact ⟨31,rfl⟩
 · exact ⟨63,rfl⟩
 · exact ⟨8,rfl⟩
 · exact ⟨16,rfl⟩
 · exact ⟨32,rfl⟩
 · exact ⟨64,rfl⟩
theorem toNat_ofInt (k:IntKind) {x:Nat} (h:x<qj k):(BitVec.ofInt k.bits (Int.ofNat x)).toNat=x:=by
 rw[Int.ofNat_eq_natCast,BitVec.ofInt_natCast,BitVec.toNat_ofNat]
 exact Nat.mod_eq_of_lt (Lb k h)
theorem Ld (op:BinOp) (k:IntKind) (a b:Int) {v:AV} (h:KX op k a b=some v):cG op k a b=some v:=by
 cases op<;>simp only[KX] at h<;>try exact h
 · simpa [cG,mb,K_] using h
 · simpa [cG,mb,La] using h
 · simpa [cG,mb,Ek] using h
 · cases a with
   | negSucc x=>exact h
   | ofNat x=>cases b with
     | negSucc y=>exact h
     | ofNat y=>
       obtain ⟨h1,h2⟩:=n3 h
       rw[mb] at h2
       have:y≠0:=by intro e;subst e;cases h1
       rw[←h2];simp [cG,this];exact congrArg k.wrap (Int.natCast_ediv x y).symm
 · cases a with
   | negSucc x=>exact h
   | ofNat x=>cases b with
     | negSucc y=>exact h
     | ofNat y=>
       obtain ⟨h1,h2⟩:=n3 h
       have:y≠0:=by intro e;subst e;cases h1
       rw[←h2];simp [cG,this];rfl
 · cases a with
   | negSucc x=>exact h
   | ofNat x=>cases b with
     | negSucc y=>exact h
     | ofNat y=>
       change bc (Nat.ble (qj k) x) _ (bc (Nat.ble (qj k) y) _ _)=_ at h
       cases h1:Nat.ble (qj k) x with
       | true=>rw[h1] at h;exact h
       | false=>cases h2:Nat.ble (qj k) y with
         | true=>rw[h1,h2] at h;exact h
         | false=>
           rw[h1,h2] at h
           have h1:=iB h1;have h2:=iB h2
           rw[←h,c_,c_]
           show some (AV.int k (k.wrap ((BitVec.ofInt k.bits (Int.ofNat x)&&& BitVec.ofInt k.bits (Int.ofNat y)).toNat:Int)))=_
           rw[BitVec.toNat_and,toNat_ofInt k h1,toNat_ofInt k h2,El k (Nat.lt_of_le_of_lt Nat.and_le_left h1)]
           rfl
 · cases a with
   | negSucc x=>exact h
   | ofNat x=>cases b with
     | negSucc y=>exact h
     | ofNat y=>
       change bc (Nat.ble (qj k) x) _ (bc (Nat.ble (qj k) y) _ _)=_ at h
       cases h1:Nat.ble (qj k) x with
       | true=>rw[h1] at h;exact h
       | false=>cases h2:Nat.ble (qj k) y with
         | true=>rw[h1,h2] at h;exact h
         | false=>
           rw[h1,h2] at h
           have h1:=iB h1;have h2:=iB h2
           rw[←h,c_,c_]
           show some (AV.int k (k.wrap ((BitVec.ofInt k.bits (Int.ofNat x)||| BitVec.ofInt k.bits (Int.ofNat y)).toNat:Int)))=_
           rw[BitVec.toNat_or,toNat_ofInt k h1,toNat_ofInt k h2,El k]
           · rfl
           · obtain ⟨m,hm⟩:=Lc k
             rw[hm] at h1 h2 ⊢
             exact Nat.or_lt_two_pow h1 h2
 · simpa [cG,C_] using h
 · simpa [cG,C_,rX,bne] using h
 · simpa [cG,zY] using h
 · simpa [cG,zY,rX,vX] using h
 · simpa [cG,zY] using h
 · simpa [cG,zY,rX,vX] using h
theorem Le (op:BinOp) (k:IntKind) (a b:Int):(H5 op).f k a b=KX op k a b:=by
 cases op<;>rfl
theorem Ii (k:IntKind):HS k=k.bits:=by cases k<;>rfl
theorem Em (k:IntKind) (y:Nat):HW k y=min y k.bits:=by
 unfold HW;rw[Ii]
 cases h:Nat.ble k.bits y
 · have:=iB h;rw[c_];omega
 · have:=ek h;rw[gW];omega
theorem Lf {k:IntKind} {x y:Int} {v:AV} (h:Rn k x y=some v):¬y<0∧v= .int k (k.wrap (x*2^(min y.toNat k.bits))):=by
 obtain ⟨m,rfl,h⟩:=ma h
 refine ⟨by omega,?_⟩
 have h:=Option.some.inj h
 rw[←h,mb,Ek,Em]
 simp
theorem Lg {k:IntKind} {x y:Int} {v:AV} (h:Ro k x y=some v):¬y<0∧v= .int k (x.fdiv (2^(min y.toNat k.bits))):=by
 obtain ⟨m,rfl,h⟩:=ma h
 refine ⟨by omega,?_⟩
 have h:=Option.some.inj h
 rw[←h]
 cases x with
 | negSucc x=>simp [jU]
 | ofNat x=>
   show AV.int k (Int.ofNat (x/2^HW k m))=_
   rw[Em]
   simp
   rw[show (2^min m k.bits:Int)=((2^min m k.bits:Nat):Int) by simp]
   exact (Int.fdiv_eq_ediv_of_nonneg _ (Int.natCast_nonneg _)).symm
end Go.Ab.Fa
end
section
namespace Go.Ab.Fa
section
variable {α:Type}
theorem nk (l:List α) (o:Nat):pn l o=l.drop o:=by
 induction l generalizing o with
 | nil=>simp [pn]
 | cons v tl ih=>
   show bc (Nat.beq o 0) (v::tl) (pn tl (o - 1))=_
   rw[ih]
   cases o with
   | zero=>rfl
   | succ o=>simp [show Nat.beq (o+1) 0=false from rfl,c_]
theorem nm (l:List α) (o:Nat):po l o=l.take o:=by
 induction l generalizing o with
 | nil=>simp [po]
 | cons v tl ih=>
   show bc (Nat.beq o 0) [] (v::po tl (o - 1))=_
   rw[ih]
   cases o with
   | zero=>rfl
   | succ o=>simp [show Nat.beq (o+1) 0=false from rfl,c_]
theorem FD (vs:List α):∀(cs:List α) (k:Nat),(Bi vs cs)[k]? =if k<vs.length∧k<cs.length then vs[k]? else cs[k]? :=by
 induction vs with
 | nil=>intro cs k;rw[if_neg (by simp)];rfl
 | cons v vs ih=>
   intro cs k
   cases cs with
   | nil=>rw[if_neg (by simp)];rfl
   | cons c tl=>
     show (v::Bi vs tl)[k]? =_
     cases k with
     | zero=>rw[if_pos (by simp)];rfl
     | succ k=>simp only[List.getElem?_cons_succ,ih,List.length_cons,Nat.add_lt_add_iff_right]
theorem Ij (vs:List α):∀(cs:List α) (o k:Nat),(Bj vs cs o)[k]? =if o≤k∧k<o+vs.length∧k<cs.length then vs[k - o]? else cs[k]? :=by
 intro cs
 induction cs with
 | nil=>intro o k;rw[if_neg (by simp)];rfl
 | cons c tl ih=>
   intro o k
   show (bc (Nat.beq o 0) (Bi vs (c::tl)) (c::Bj vs tl (o - 1)))[k]? =_
   cases o with
   | zero=>
     show (Bi vs (c::tl))[k]? =_
     rw[FD];simp
   | succ o=>
     show (c::Bj vs tl o)[k]? =_
     cases k with
     | zero=>rw[if_neg (by omega)];rfl
     | succ k=>
       rw[List.getElem?_cons_succ,ih,List.getElem?_cons_succ,List.length_cons]
       by_cases h:o≤k∧k<o+vs.length∧k<tl.length
       · rw[if_pos h,if_pos (by omega),show k+1 -(o+1)=k - o by omega]
       · rw[if_neg h,if_neg (by omega)]
end
theorem zZ (vs cs:List AV) (o:Nat):Bj vs cs o=setFrom cs o vs:=by
 apply List.ext_getElem?;intro k;rw[Ij,g9]
theorem Da (l m:List UInt8):leq vP l m=(l==m):=by
 have key:∀a b:UInt8,vP a b=(a==b):=by
  intro a b
  unfold vP
  rw[←uP]
  by_cases h:a=b
  · subst h;simp
  · rw[show (a==b)=false by simp [h]]
    rw[beq_eq_false_iff_ne]
    intro e;apply h
    have:a.toNat=b.toNat:=e
    exact UInt8.toNat_inj.mp this
 induction l generalizing m with
 | nil=>cases m<;>rfl
 | cons x tl ih=>
   cases m with
   | nil=>rfl
   | cons y tm=>
     show bc (vP x y) (leq vP tl tm) false=_
     rw[ih,key,l7];rfl
theorem Lh (op:BinOp) (a b:List UInt8):(FB op).f a b=oR op a b:=by
 cases op<;>first | rfl | (simp only[FB,oR,Da,rX])
theorem Li (v:AV):KY v=AV.scalar v:=by cases v<;>rfl
theorem Bx:KY=AV.scalar:=funext Li
theorem FE (v:AV):zL v=true→(match (some v:Option AV) with
 | some (.ptr i o)=>some (.ptr i o)
 | some (.map i)=>some (.map i)
 | some (.slice i o l c b)=>some (.slice i o l c b)
 | some (.func f a b)=>some (.func f a b)
 | _=>none)=some v:=by
 cases v<;>intro h<;>first | rfl | exact absurd h (by intro e;cases e)
theorem By {f:TypeId→AV→sX} {why:String} {o:Option Oper} (a:AV):(∃t v,a= .iface t v)∨nW f (.fail why o) a= .fail why o:=by
 cases a with
 | iface t v=>exact .inl ⟨t,v,rfl⟩
 | _=>exact .inr rfl
theorem j5 (v:AV):jv v=v.cells:=by cases v<;>rfl
section
variable (E:Env) (F:RF) (n:Nat)
theorem z4 {β:Type} (i:Nat) (k:(F.T→AV)→β):∃g,wT F n i k=k g∧∀r,(dJ F n r).getD i AV.undef=g r:=by
 unfold wT
 cases h:Nat.ble n i
 · refine ⟨(F.get i).f,rfl,fun r=>?_⟩
   rw[Bh,if_pos (iB h)]
 · refine ⟨fun _=>AV.undef,rfl,fun r=>?_⟩
   rw[Bh,if_neg (by have:=ek h;omega)]
theorem bH {β:Type} (x:Operand) (k:(F.T→AV)→β) (d:β):wO E F n x k d=d∨∃g,wO E F n x k d=k g∧∀r,dr E (dJ F n r) x=some (g r):=by
 cases x with
 | tmp t=>
   obtain ⟨g,h1,h2⟩:=z4 F n t k
   exact .inr ⟨g,h1,fun r=>by rw[←h2];rfl⟩
 | const v=>
   simp only[wO]
   cases h:ofConst v with
   | none=>exact .inl rfl
   | some a=>exact .inr ⟨fun _=>a,rfl,fun r=>h⟩
 | global g=>
   simp only[wO]
   cases h:Nat.ble E.G g
   · exact .inr ⟨fun _=> .ptr g 0,rfl,fun r=>by rw[dr,if_pos (iB h)]⟩
   · exact .inl rfl
 | func f=>exact .inr ⟨fun _=> .func f [] [],rfl,fun r=>rfl⟩
theorem qb {β:Type}:∀(l:List Operand) (k:(F.T→List AV)→β) (d:β),wL E F n l k d=d∨∃g,wL E F n l k d=k g∧∀r,eF E (dJ F n r) l=some (g r)
 | [],k,d=> .inr ⟨fun _=> [],rfl,fun r=>rfl⟩
 | x::xs,k,d=>by
   rw[wL]
   rcases bH E F n x (fun g=>wL E F n xs (fun gs=>k fun r=>g r::gs r) d) d with h | ⟨g,h,hg⟩
   · exact .inl h
   · rcases qb xs (fun gs=>k fun r=>g r::gs r) d with h' | ⟨gs,h',Vf⟩
     · exact .inl (h.trans h')
     · refine .inr ⟨_,h.trans h',fun r=>?_⟩
       have:=Vf r
       unfold eF at *
       rw[dp,hg r];simp only[this]
theorem En {β:Type} (o:Option Operand) (k:Option (F.T→AV)→β) (d:β):wP E F n o k d=d∨∃g,wP E F n o k d=k g∧∀r,ky E (dJ F n r) o=some (xM g r):=by
 cases o with
 | none=>exact .inr ⟨none,rfl,fun r=>rfl⟩
 | some x=>
   rcases bH E F n x (fun g=>k (some g)) d with h | ⟨g,h,hg⟩
   · exact .inl h
   · exact .inr ⟨some g,h,fun r=>by rw[ky,hg r];rfl⟩
theorem vY {β:Type}:∀(l:List (Nat×Operand)) (k:(F.T→List (Nat×AV))→β) (d:β),K4 E F n l k d=d∨∃g,K4 E F n l k d=k g∧∀r,ir E (dJ F n r) l=some (g r)
 | [],k,d=> .inr ⟨fun _=> [],rfl,fun r=>rfl⟩
 | (i,x)::xs,k,d=>by
   rw[K4]
   rcases bH E F n x (fun g=>K4 E F n xs (fun gs=>k fun r=>(i,g r)::gs r) d) d with h | ⟨g,h,hg⟩
   · exact .inl h
   · rcases vY xs (fun gs=>k fun r=>(i,g r)::gs r) d with h' | ⟨gs,h',Vf⟩
     · exact .inl (h.trans h')
     · refine .inr ⟨_,h.trans h',fun r=>?_⟩
       rw[ir,hg r];simp only[Vf r]
theorem Eo {β:Type} (hn:n≤F.N) (o:Option Tmp) (k:(AV→F.T→F.T)→β):∃s,wS F n o k=k s∧∀v r,cU (dJ F n r) o v=dJ F n (s v r):=by
 cases o with
 | none=>exact ⟨fun _ r=>r,rfl,fun v r=>rfl⟩
 | some i=>
   show ∃s,bc (Nat.ble n i) (k fun _ r=>r) (wU (F.set i) k)=k s∧_
   cases h:Nat.ble n i
   · exact ⟨(F.set i).f,rfl,fun v r=>KU F n hn r (iB h) v⟩
   · refine ⟨fun _ r=>r,rfl,fun v r=>?_⟩
     show (dJ F n r).set i v=_
     rw[List.set_eq_of_length_le (by rw[gA];exact ek h)]
theorem mc (t:TypeId):rv E t=bY E t:=by
 unfold rv bY;rw[pr];cases E.P.info? t<;>rfl
theorem Ik (t:TypeId):OI E t=im E t:=by
 unfold OI im;rw[pr];cases E.P.info? t<;>rfl
theorem tD (t:TypeId):Cv E t=eW E t:=by
 unfold Cv eW;rw[pr]
 cases E.P.info? t with
 | none=>rfl
 | some i=>show ob none (fun z=>ofConst z) i.zero=_;cases h:i.zero<;>simp [ob,h]
theorem OL (t:TypeId):Ve E t=eM E t:=by
 unfold Ve eM;rw[gB];rfl
theorem Il (t:TypeId) (f:Nat):Qf E t f=kz E t f:=by
 unfold Qf kz;rw[gB]
 generalize E.P.underlying t=u
 cases u with
 | none=>rfl
 | some d=>cases d with
   | struct fs=>show gK fs.toList f=fs[f]?;rw[ft];exact Array.getElem?_toList
   | _=>rfl
def pw (op:Op):Prop:=(∀ts,bm E ts op=none)∧(∀ts h,c9 E ts h op=none)∧∀ts,dj E ts op=none
def iC (f g:aY):Prop:=∀F as h,(∀v h',f F as h= .ret v h'→g F as h= .ret v h')∧∀v h',f F as h= .panic v h'→g F as h= .panic v h'
def MZ (a b:sX):Prop:=match a with
 | .fail _ _=>True
 | a=>b=a
def eI (op:Op):Kd F.T→Prop
 | .AH g=>∀r,bm E (dJ F n r) op=some (g r)
 | .fi f=>∀r v,f r=some v→bm E (dJ F n r) op=some v
 | .red f=>∀r h v,f r h=some v→bm E (dJ F n r) op=some v∨(bm E (dJ F n r) op=none∧c9 E (dJ F n r) h op=some v)
 | .oW f=>(∀ts,bm E ts op=none)∧(∀ts h,c9 E ts h op=none)∧∀r p,f r=some p→dj E (dJ F n r) op=some p
 | .wr f=>pw E op∧∀call r h rc o p,o.op=op→f r h=some p→cD E call (dJ F n r) h rc o= .val p.1 p.2
 | .call g args=>pw E op∧∀call r h rc o,o.op=op→cD E call (dJ F n r) h rc o=kC (call g (args r) h)
 | .qi f=>pw E op∧∀fc call,iC fc call→∀r h rc o,o.op=op→MZ (f fc r h rc) (cD E call (dJ F n r) h rc o)
 | .bad=>True
end
end Go.Ab.Fa
end
section
namespace Go.Ab.Fa
variable {E:Env} {F:RF} {n:Nat}
theorem Lj {op:BinOp} (h1:op≠ .shl) (h2:op≠ .shr) {t:TypeId} {xc yc:Bool} {a b v:AV} (h:K3 (H5 op).f (FB op).f (jq E op t xc yc) a b=some v):jq E op t xc yc a b=some v:=by
 unfold K3 at h
 cases a with
 | int k x=>
   obtain ⟨j,y,rfl,h3⟩:=hD (show nh (fun j y=>bc (HR k j) ((H5 op).f k x y) none) none b=some v from h)
   obtain ⟨hk,h4⟩:=eB h3
   have hk:=Ej hk
   rw[Le] at h4
   have:=Ld op k x y h4
   rw[←hk]
   cases op<;>first | exact absurd rfl h1 | exact absurd rfl h2 | simpa [jq] using this
 | str s=>
   obtain ⟨s',rfl,h3⟩:=l8 (show nV (fun t=>(FB op).f s t) none b=some v from h)
   rw[Lh] at h3
   cases op<;>first | exact absurd rfl h1 | exact absurd rfl h2 | simpa [jq] using h3
 | _=>exact h
theorem Lk (op:BinOp) (t:TypeId) (x y:Operand) (yt:TypeId) (gx gy:F.T→AV) (hx:∀r,dr E (dJ F n r) x=some (gx r)) (hy:∀r,dr E (dJ F n r) y=some (gy r)):
 eI E F n (.binOp op t x y yt) (dX op (jq E op t (isConst x) (isConst y)) gx gy):=by
 have red:∀r,bm E (dJ F n r) (.binOp op t x y yt)=jq E op t (isConst x) (isConst y) (gx r) (gy r):=by
  intro r;simp only[bm,hx,hy]
 by_cases h1:op= .shl
 · subst h1
   intro r v h
   rw[red]
   obtain ⟨k,m,e1,h⟩:=hD h
   obtain ⟨k',m',e2,h⟩:=hD h
   obtain ⟨h3,rfl⟩:=Lf h
   rw[e1,e2];simp [jq,h3]
 by_cases h2:op= .shr
 · subst h2
   intro r v h
   rw[red]
   obtain ⟨k,m,e1,h⟩:=hD h
   obtain ⟨k',m',e2,h⟩:=hD h
   obtain ⟨h3,rfl⟩:=Lg h
   rw[e1,e2];simp [jq,h3]
 have:dX op (jq E op t (isConst x) (isConst y)) gx gy= .fi fun r=>K3 (H5 op).f (FB op).f (jq E op t (isConst x) (isConst y)) (gx r) (gy r):=by
  cases op<;>first | exact absurd rfl h1 | exact absurd rfl h2 | rfl
 rw[this]
 intro r v h
 rw[red]
 exact Lj h1 h2 h
theorem OM (op:UnOp) (t:TypeId) (x:Operand) (g:F.T→AV) (hg:∀r,dr E (dJ F n r) x=some (g r)):eI E F n (.unOp op t x) (Rp op g):=by
 have red:∀r,bm E (dJ F n r) (.unOp op t x)=P2 op (g r):=by intro r;simp only[bm,hg]
 cases op with
 | not=>
   intro r v h
   rw[red]
   obtain ⟨b,e,h⟩:=yF h
   rw[e,←h,rX];rfl
 | _=>intro r v h;rw[red];exact h
theorem Im {t:TypeId} {m:Nat} (h1:eM E t=some true) (h2:bY E t=some m) {cs:List AV} {o:Nat} {v:AV} (h:H7 m cs o=some v):g7 E t cs o=some v:=by
 unfold H7 at h
 obtain ⟨h3,h⟩:=eB h
 have h3:=ek h3
 rw[eA] at h3
 unfold g7
 rw[h1,h2]
 simp only
 rw[if_pos (show o+m≤cs.length from h3),←h,nm,nk]
theorem Io {t:TypeId} (h1:eM E t=some false) {cs:List AV} {o:Nat} {v:AV} (h:H6 cs o=some v):g7 E t cs o=some v:=by
 unfold H6 at h
 rw[ft] at h
 unfold g7
 rw[h1];exact h
theorem v7 {T:Type} (t:TypeId) (k:(List AV→Nat→Option AV)→Kd T):rW E t k= .bad∨∃p,rW E t k=k p∧∀cs o v,p cs o=some v→g7 E t cs o=some v:=by
 unfold rW
 rw[OL]
 cases h:eM E t with
 | none=>exact .inl rfl
 | some b=>cases b with
   | false=>exact .inr ⟨_,rfl,fun cs o v=>Io h⟩
   | true=>
     simp only
     rw[mc]
     cases h2:bY E t with
     | none=>exact .inl rfl
     | some m=>exact .inr ⟨_,rfl,fun cs o v=>Im h h2⟩
theorem Ip {t:TypeId} {p:List AV→Nat→Option AV} (hp:∀cs o v,p cs o=some v→g7 E t cs o=some v) {h:aq} {a v:AV} (e:Br p h a=some v):b9 E h t a=some v:=by
 obtain ⟨i,o,rfl,e⟩:=pv e
 obtain ⟨obj,e1,e⟩:=fb e
 obtain ⟨cs,el,ro,rfl,e⟩:=n4 e
 simp only[b9,e1]
 exact hp _ _ _ e
theorem Ll (t:TypeId) (a:Operand):eI E F n (.load t a) (wO E F n a (fun g=>rW E t fun p=> .red fun r h=>Br p h (g r)) .bad):=by
 rcases bH E F n a (fun g=>rW E t fun p=>(.red fun r h=>Br p h (g r):Kd F.T)) .bad with h | ⟨g,h,hg⟩<;>rw[h]
 · trivial
 · rcases v7 (E:=E) t (fun p=>(.red fun r h=>Br p h (g r):Kd F.T)) with h | ⟨p,h,hp⟩<;>rw[h]
   · trivial
   · intro r h v e
     refine .inr ⟨rfl,?_⟩
     simp only[c9,hg]
     exact Ip hp e
theorem Iq (s:TypeId) (x:Operand) (f:Nat):eI E F n (.field s x f) (match Qf E s f with
 | some fd=>wO E F n x (fun g=>rW E fd.type fun p=> .fi fun r=>tu (fun cs=>p cs fd.offset) (fun _=>none) none (g r)) .bad
 | none=> .bad):=by
 rw[Il]
 cases h0:kz E s f with
 | none=>trivial
 | some fd=>
   simp only
   rcases bH E F n x (fun g=>rW E fd.type fun p=>(.fi fun r=>tu (fun cs=>p cs fd.offset) (fun _=>none) none (g r):Kd F.T)) .bad with h | ⟨g,h,hg⟩<;>rw[h]
   · trivial
   · rcases v7 (E:=E) fd.type (fun p=>(.fi fun r=>tu (fun cs=>p cs fd.offset) (fun _=>none) none (g r):Kd F.T)) with h | ⟨p,h,hp⟩<;>rw[h]
     · trivial
     · intro r v e
       change tu (fun cs=>p cs fd.offset) (fun _=>none) none (g r)=some v at e
       simp only[bm,h0,hg]
       cases hv:g r with
       | agg cs=>rw[hv] at e;exact hp _ _ _ e
       | _=>rw[hv] at e;exact absurd e (by intro e;cases e)
theorem z5 (s:TypeId) (x:Operand) (f:Nat):eI E F n (.fieldAddr s x f) (match Qf E s f with
 | some fd=>match rv E fd.type with
   | some (_+1)=>wO E F n x (fun g=> .fi fun r=>tq (fun i o=>some (.ptr i (Nat.add o fd.offset))) none (g r)) .bad
   | _=> .bad
 | none=> .bad):=by
 rw[Il]
 cases h0:kz E s f with
 | none=>trivial
 | some fd=>
   simp only
   rw[mc]
   cases h1:bY E fd.type with
   | none=>trivial
   | some m=>cases m with
     | zero=>trivial
     | succ m=>
       simp only
       rcases bH E F n x (fun g=>(.fi fun r=>tq (fun i o=>some (.ptr i (Nat.add o fd.offset))) none (g r):Kd F.T)) .bad with h | ⟨g,h,hg⟩<;>rw[h]
       · trivial
       · intro r v e
         obtain ⟨i,o,e1,e⟩:=pv e
         simp only[bm,h0,hg,e1,h1]
         rw[if_neg (by omega)];exact e
theorem Bz (x:Operand):eI E F n (.nilCheck x) (wO E F n x (fun g=> .fi fun r=>bc (zL (g r)) (some (g r)) none) .bad):=by
 rcases bH E F n x (fun g=>(.fi fun r=>bc (zL (g r)) (some (g r)) none:Kd F.T)) .bad with h | ⟨g,h,hg⟩<;>rw[h]
 · trivial
 · intro r v e
   obtain ⟨h1,e⟩:=eB e
   simp only[bm,hg]
   rw[←e]
   exact FE _ h1
theorem Db (x:Operand) (i:Nat):eI E F n (.extract x i) (wO E F n x (fun g=> .fi fun r=>tu (fun _=>none) (fun vs=>gK vs i) none (g r)) .bad):=by
 rcases bH E F n x (fun g=>(.fi fun r=>tu (fun _=>none) (fun vs=>gK vs i) none (g r):Kd F.T)) .bad with h | ⟨g,h,hg⟩<;>rw[h]
 · trivial
 · intro r v e
   change tu (fun _=>none) (fun vs=>gK vs i) none (g r)=some v at e
   simp only[bm,hg]
   cases hv:g r with
   | tuple cs=>rw[hv] at e;show cs[i]? =some v;rw[←ft];exact e
   | _=>rw[hv] at e;exact absurd e (by intro e;cases e)
theorem Lm (c a b:Operand):eI E F n (.pick c a b) (wO E F n c (fun gc=>wO E F n a (fun ga=>wO E F n b (fun gb=> .fi fun r=>g_ (fun t=>bc t (some (ga r)) (some (gb r))) none (gc r)) .bad) .bad) .bad):=by
 rcases bH E F n c (fun gc=>wO E F n a (fun ga=>wO E F n b (fun gb=>(.fi fun r=>g_ (fun t=>bc t (some (ga r)) (some (gb r))) none (gc r):Kd F.T)) .bad) .bad) .bad with h | ⟨gc,h,hc⟩<;>rw[h]
 · trivial
 rcases bH E F n a (fun ga=>wO E F n b (fun gb=>(.fi fun r=>g_ (fun t=>bc t (some (ga r)) (some (gb r))) none (gc r):Kd F.T)) .bad) .bad with h | ⟨ga,h,ha⟩<;>rw[h]
 · trivial
 rcases bH E F n b (fun gb=>(.fi fun r=>g_ (fun t=>bc t (some (ga r)) (some (gb r))) none (gc r):Kd F.T)) .bad with h | ⟨gb,h,hb⟩<;>rw[h]
 · trivial
 intro r v e
 obtain ⟨t,e1,e⟩:=yF e
 simp only[bm,hc,e1]
 cases t
 · simp only[hb];exact e
 · simp only[ha];exact e
theorem Ep {len size i o:Nat} {ix v:AV} (e:zV len size i o ix=some v):∃k m,ix= .int k m∧0≤m∧m<len∧v= .ptr i (o+m.toNat*size):=by
 obtain ⟨k,m,rfl,e⟩:=hD e
 obtain ⟨m',rfl,e⟩:=ma e
 obtain ⟨h1,e⟩:=n3 e
 have h1:=iB h1
 exact ⟨k,m',rfl,by omega,by omega,(Option.some.inj e).symm⟩
theorem z7 (t:TypeId) (x ix:Operand):eI E F n (.indexAddr t x ix) (wO E F n x (fun gx=>wO E F n ix (fun gi=>match h_ E.P t with
 | some (.array len elem)=>match rv E elem with
   | some size=> .fi fun r=>tq (fun i o=>zV len size i o (gi r)) none (gx r)
   | none=> .bad
 | some (.slice elem)=>match rv E elem with
   | some size=> .fi fun r=>hB none (fun i o len _ _=>zV len size i o (gi r)) none (gx r)
   | none=> .bad
 | _=> .bad) .bad) .bad):=by
 rw[gB]
 rcases bH E F n x (fun gx=>wO E F n ix (fun gi=>match E.P.underlying t with
  | some (.array len elem)=>match rv E elem with
    | some size=>(.fi fun r=>tq (fun i o=>zV len size i o (gi r)) none (gx r):Kd F.T)
    | none=> .bad
  | some (.slice elem)=>match rv E elem with
    | some size=> .fi fun r=>hB none (fun i o len _ _=>zV len size i o (gi r)) none (gx r)
    | none=> .bad
  | _=> .bad) .bad) .bad with h | ⟨gx,h,hx⟩<;>rw[h]
 · trivial
 rcases bH E F n ix (fun gi=>match E.P.underlying t with
  | some (.array len elem)=>match rv E elem with
    | some size=>(.fi fun r=>tq (fun i o=>zV len size i o (gi r)) none (gx r):Kd F.T)
    | none=> .bad
  | some (.slice elem)=>match rv E elem with
    | some size=> .fi fun r=>hB none (fun i o len _ _=>zV len size i o (gi r)) none (gx r)
    | none=> .bad
  | _=> .bad) .bad with h | ⟨gi,h,hi⟩<;>rw[h]
 · trivial
 cases hu:E.P.underlying t with
 | none=>trivial
 | some d=>cases d with
   | array len elem=>
     simp only
     rw[mc]
     cases hs:bY E elem with
     | none=>trivial
     | some size=>
       intro r v e
       obtain ⟨i,o,e1,e⟩:=pv e
       obtain ⟨k,m,e2,h1,h2,rfl⟩:=Ep e
       simp only[bm,hu,hx,hi,e1,e2,hs]
       rw[if_pos ⟨h1,h2⟩]
   | slice elem=>
     simp only
     rw[mc]
     cases hs:bY E elem with
     | none=>trivial
     | some size=>
       intro r v e
       rcases l9 e with ⟨_,e⟩ | ⟨i,o,l,c,b,e1,e⟩
       · cases e
       obtain ⟨k,m,e2,h1,h2,rfl⟩:=Ep e
       simp only[bm,hu,hx,hi,e1,e2,hs]
       rw[if_pos ⟨h1,h2⟩]
   | _=>trivial
theorem Ir (t:TypeId) (x ix:Operand):eI E F n (.index t x ix) (wO E F n x (fun gx=>wO E F n ix (fun gi=>match h_ E.P t with
 | some .string=> .fi fun r=>nV (fun s=>nh (fun _ i=>jU (fun m=>ob none (fun (b:UInt8)=>some (.int .u8 (Int.ofNat b.toNat))) (gK s m)) none i) none (gi r)) none (gx r)
 | _=> .fi fun r=>bm E (dJ F n r) (.index t x ix)) .bad) .bad):=by
 rw[gB]
 rcases bH E F n x (fun gx=>wO E F n ix (fun gi=>match E.P.underlying t with
  | some .string=>(.fi fun r=>nV (fun s=>nh (fun _ i=>jU (fun m=>ob none (fun (b:UInt8)=>some (.int .u8 (Int.ofNat b.toNat))) (gK s m)) none i) none (gi r)) none (gx r):Kd F.T)
  | _=> .fi fun r=>bm E (dJ F n r) (.index t x ix)) .bad) .bad with h | ⟨gx,h,hx⟩<;>rw[h]
 · trivial
 rcases bH E F n ix (fun gi=>match E.P.underlying t with
  | some .string=>(.fi fun r=>nV (fun s=>nh (fun _ i=>jU (fun m=>ob none (fun (b:UInt8)=>some (.int .u8 (Int.ofNat b.toNat))) (gK s m)) none i) none (gi r)) none (gx r):Kd F.T)
  | _=> .fi fun r=>bm E (dJ F n r) (.index t x ix)) .bad with h | ⟨gi,h,hi⟩<;>rw[h]
 · trivial
 cases hu:E.P.underlying t with
 | none=>intro r v e;exact e
 | some d=>cases d with
   | string=>
     intro r v e
     obtain ⟨s,e1,e⟩:=l8 e
     obtain ⟨k,m,e2,e⟩:=hD e
     obtain ⟨m',rfl,e⟩:=ma e
     obtain ⟨b,e3,e⟩:=fb e
     rw[ft] at e3
     simp only[bm,hu,hx,hi,e1,e2]
     rw[if_pos (by omega)]
     rw[show ((m':Int).toNat)=m' from rfl,e3]
     exact e
   | _=>intro r v e;exact e
theorem mB {d y:Nat} {o:Option AV} {k:Nat→Option AV} {v:AV} (e:zW d y o k=some v):∃m,(match o with | some v=>lN v y | none=>some d)=some m∧k m=some v:=by
 cases o with
 | none=>exact ⟨d,rfl,e⟩
 | some a=>
   obtain ⟨kk,i,rfl,e⟩:=hD (show nh (fun _ i=>jU (fun m=>bc (Nat.ble m y) (k m) none) none i) none a=some v from e)
   obtain ⟨m,rfl,e⟩:=ma e
   obtain ⟨h1,e⟩:=eB e
   have h1:=ek h1
   refine ⟨m,?_,e⟩
   simp only[lN]
   rw[if_pos (by omega)];rfl
theorem qc {len cap h l:Nat} {lo hi:Option AV} (h1:(match hi with | some v=>lN v cap | none=>some len)=some h)
 (h2:(match lo with | some v=>lN v h | none=>some 0)=some l):iR len cap lo hi none=some (l,h,cap):=by
 cases hi with
 | none=>cases lo with
   | none=>cases h1;cases h2;rfl
   | some b=>cases h1;simp only[iR,Option.isSome_none];simp at h2;simp [h2]
 | some a=>cases lo with
   | none=>cases h2;simp only[iR];simp at h1;simp [h1]
   | some b=>simp only[iR];simp at h1 h2;simp [h1,h2]
theorem ON {t elem:TypeId} {size:Nat} (hu:E.P.underlying t=some (.slice elem)) (hs:bY E elem=some size) {lo hi:Option AV} {x v:AV} (e:TQ size lo hi x=some v):eY E t x lo hi none=some v:=by
 rcases l9 e with ⟨rfl,e1⟩ | ⟨i,o,len,cap,op,rfl,e1⟩
 · obtain ⟨h,h1,e2⟩:=mB e1
   obtain ⟨l,h2,e3⟩:=mB e2
   simp only[eY,hu,qc h1 h2,hs]
   exact e3
 · obtain ⟨h0,e2⟩:=eB e1
   have h0:=ek h0
   obtain ⟨h,h1,e3⟩:=mB e2
   obtain ⟨l,h2,e4⟩:=mB e3
   simp only[eY,hu,qc h1 h2,hs]
   rw[if_pos h0]
   cases h3:Nat.beq cap l
   · rw[h3,c_] at e4
     have:¬cap=l:=by intro ee;rw[ee,Nat.beq_refl] at h3;cases h3
     rw[if_neg this]
     simpa using e4
   · rw[h3,gW] at e4
     rw[if_pos (kV h3)]
     cases op
     · rw[c_] at e4;simpa using e4
     · rw[gW] at e4;simpa using e4
theorem OO {t:TypeId} (hu:E.P.underlying t=some .string) {lo hi:Option AV} {x v:AV} (e:TR lo hi x=some v):eY E t x lo hi none=some v:=by
 obtain ⟨s,rfl,e1⟩:=l8 e
 obtain ⟨h,h1,e2⟩:=mB e1
 obtain ⟨l,h2,e3⟩:=mB e2
 rw[eA] at h1
 simp only[eY,hu,qc h1 h2]
 rw[←e3,nm,nk];rfl
theorem OP {t elem:TypeId} {m size:Nat} (hu:E.P.underlying t=some (.array m elem)) (hs:bY E elem=some size) {lo hi:Option AV} {x v:AV} (e:TS m size lo hi x=some v):eY E t x lo hi none=some v:=by
 obtain ⟨i,o,rfl,e1⟩:=pv e
 obtain ⟨h,h1,e2⟩:=mB e1
 obtain ⟨l,h2,e3⟩:=mB e2
 simp only[eY,hu,qc h1 h2,hs]
 rw[←Option.some.inj e3]
 cases h3:Nat.beq m l
 · have:¬m=l:=by intro ee;rw[ee,Nat.beq_refl] at h3;cases h3
   rw[if_neg this];rfl
 · rw[if_pos (kV h3)];rfl
theorem Is (t:TypeId) (x:Operand) (lo hi:Option Operand):eI E F n (.slice t x lo hi none) (wO E F n x (fun gx=>wP E F n lo (fun gl=>wP E F n hi (fun gh=>match h_ E.P t with
 | some (.slice elem)=>match rv E elem with
   | some size=> .fi fun r=>TQ size (xM gl r) (xM gh r) (gx r)
   | none=> .bad
 | some .string=> .fi fun r=>TR (xM gl r) (xM gh r) (gx r)
 | some (.array m elem)=>match rv E elem with
   | some size=> .fi fun r=>TS m size (xM gl r) (xM gh r) (gx r)
   | none=> .bad
 | _=> .fi fun r=>bm E (dJ F n r) (.slice t x lo hi none)) .bad) .bad) .bad):=by
 rw[gB]
 let K:(F.T→AV)→Option (F.T→AV)→Option (F.T→AV)→Kd F.T:=fun gx gl gh=>match E.P.underlying t with
  | some (.slice elem)=>match rv E elem with
    | some size=> .fi fun r=>TQ size (xM gl r) (xM gh r) (gx r)
    | none=> .bad
  | some .string=> .fi fun r=>TR (xM gl r) (xM gh r) (gx r)
  | some (.array m elem)=>match rv E elem with
    | some size=> .fi fun r=>TS m size (xM gl r) (xM gh r) (gx r)
    | none=> .bad
  | _=> .fi fun r=>bm E (dJ F n r) (.slice t x lo hi none)
 show eI E F n _ (wO E F n x (fun gx=>wP E F n lo (fun gl=>wP E F n hi (fun gh=>K gx gl gh) .bad) .bad) .bad)
 rcases bH E F n x (fun gx=>wP E F n lo (fun gl=>wP E F n hi (fun gh=>K gx gl gh) .bad) .bad) .bad with h | ⟨gx,h,hx⟩<;>rw[h]
 · trivial
 rcases En E F n lo (fun gl=>wP E F n hi (fun gh=>K gx gl gh) .bad) .bad with h | ⟨gl,h,hl⟩<;>rw[h]
 · trivial
 rcases En E F n hi (fun gh=>K gx gl gh) .bad with h | ⟨gh,h,hh⟩<;>rw[h]
 · trivial
 have red:∀r,bm E (dJ F n r) (.slice t x lo hi none)=eY E t (gx r) (xM gl r) (xM gh r) none:=by
  intro r;simp only[bm,hx,hl,hh];rfl
 simp only[K]
 cases hu:E.P.underlying t with
 | none=>intro r v e;exact e
 | some d=>cases d with
   | string=>intro r v e;rw[red];exact OO hu e
   | array m elem=>
     simp only
     rw[mc]
     cases hs:bY E elem with
     | none=>trivial
     | some size=>intro r v e;rw[red];exact OP hu hs e
   | slice elem=>
     simp only
     rw[mc]
     cases hs:bY E elem with
     | none=>trivial
     | some size=>intro r v e;rw[red];exact ON hu hs e
   | _=>intro r v e;exact e
end Go.Ab.Fa
end
section
namespace Go.Ab.Fa
variable {E:Env} {F:RF} {n:Nat}
theorem FG {t:TypeId} {m:Nat} (hs:bY E t=some m) {h:aq} {a v:AV} {p:AV×aq} (e:vU m h a v=some p):p.1=AV.undef∧fE E h t a v=some p.2:=by
 obtain ⟨i,o,rfl,e1⟩:=pv e
 obtain ⟨obj,h1,e2⟩:=fb e1
 obtain ⟨cs,el,ro,rfl,e3⟩:=n4 e2
 obtain ⟨h2,e4⟩:=n3 e3
 obtain ⟨h3,e5⟩:=eB e4
 obtain ⟨h4,e6⟩:=eB e5
 obtain ⟨h5,e7⟩:=eB e6
 have h3:=kV h3
 have h4:=ek h4
 rw[eA,j5] at h3
 rw[eA] at h4
 rw[nX,Bx,j5] at h5
 have e8:=Option.some.inj e7
 subst h2
 refine ⟨by rw[←e8],?_⟩
 simp only[fE,h1,hs]
 rw[if_pos ⟨h3,h4,h5⟩,←e8,zZ,j5]
theorem BA {t:TypeId} {a x:Operand}:pw E (.store t a x):=⟨fun _=>rfl,fun _ _=>rfl,fun _=>rfl⟩
theorem It (t:TypeId) (a x:Operand):eI E F n (.store t a x) (match rv E t with
 | some m=>wO E F n a (fun ga=>wO E F n x (fun gx=> .wr fun r h=>vU m h (ga r) (gx r)) .bad) .bad
 | none=> .bad):=by
 rw[mc]
 cases hs:bY E t with
 | none=>trivial
 | some m=>
   simp only
   rcases bH E F n a (fun ga=>wO E F n x (fun gx=>(.wr fun r h=>vU m h (ga r) (gx r):Kd F.T)) .bad) .bad with h | ⟨ga,h,ha⟩<;>rw[h]
   · trivial
   rcases bH E F n x (fun gx=>(.wr fun r h=>vU m h (ga r) (gx r):Kd F.T)) .bad with h | ⟨gx,h,hx⟩<;>rw[h]
   · trivial
   refine ⟨BA,fun call r h rc o p ho e=>?_⟩
   obtain ⟨h1,h2⟩:=FG hs e
   simp only[cD,ho,ha,hx,h2,h1]
theorem tE (t:TypeId) (x:Operand):eI E F n (.makeInterface t x) (match h_ E.P t with
 | some (.interface _)=> .bad
 | some _=>wO E F n x (fun g=> .AH fun r=> .iface t (g r)) .bad
 | none=> .bad):=by
 rw[gB]
 cases hu:E.P.underlying t with
 | none=>trivial
 | some d=>
   cases d with
   | interface ms=>trivial
   | _=>
     simp only
     rcases bH E F n x (fun g=>(.AH fun r=> .iface t (g r):Kd F.T)) .bad with h | ⟨g,h,hg⟩<;>rw[h]
     · trivial
     · intro r;simp only[bm,hu,hg]
theorem BC (f:FuncId) (a b:Array Operand):eI E F n (.makeFunc (.func f) a b) (wL E F n a.toList (fun ga=>wL E F n b.toList (fun gb=> .AH fun r=> .func f (ga r) (gb r)) .bad) .bad):=by
 rcases qb E F n a.toList (fun ga=>wL E F n b.toList (fun gb=>(.AH fun r=> .func f (ga r) (gb r):Kd F.T)) .bad) .bad with h | ⟨ga,h,ha⟩<;>rw[h]
 · trivial
 rcases qb E F n b.toList (fun gb=>(.AH fun r=> .func f (ga r) (gb r):Kd F.T)) .bad with h | ⟨gb,h,hb⟩<;>rw[h]
 · trivial
 intro r;simp only[bm,ha,hb]
theorem Iu (t:TypeId):eI E F n (.alloc t) (match Cv E t with
 | some z=> .oW fun _=>some (.cells z.cells t false,fun i=> .ptr i 0)
 | none=> .bad):=by
 rw[tD]
 cases hz:eW E t with
 | none=>trivial
 | some z=>exact ⟨fun _=>rfl,fun _ _=>rfl,fun r p e=>by simp only[dj,hz];exact e⟩
theorem OQ (t:TypeId) (x:Operand):eI E F n (.box t x) (wO E F n x (fun g=> .oW fun r=>some (.cells (jv (g r)) t false,fun i=> .ptr i 0)) .bad):=by
 rcases bH E F n x (fun g=>(.oW fun r=>some (.cells (jv (g r)) t false,fun i=> .ptr i 0):Kd F.T)) .bad with h | ⟨g,h,hg⟩<;>rw[h]
 · trivial
 · exact ⟨fun _=>rfl,fun _ _=>rfl,fun r p e=>by simp only[dj,hg];rw[←j5];exact e⟩
theorem xN (t:TypeId) (len:Nat) (parts:Array (Nat×Operand)):eI E F n (.buildSlice t len parts) (match h_ E.P t with
 | some (.slice elem)=>match rv E elem,Cv E elem with
   | some m,some z=>if z.cells.length=m∧len*m≤2^24 then K4 E F n parts.toList (fun gp=> .oW fun r=>ob none (fun cs=>some (.cells cs elem false,fun i=> .slice i 0 len len false)) (ou (fun i=>some (i*m,m)) (eN z.cells len) (gp r))) .bad else .bad
   | _,_=> .bad
 | _=> .bad):=by
 rw[gB]
 cases hu:E.P.underlying t with
 | none=>trivial
 | some d=>cases d with
   | slice elem=>
     simp only
     rw[mc,tD]
     cases hs:bY E elem with
     | none=>trivial
     | some m=>cases hz:eW E elem with
       | none=>trivial
       | some z=>
         simp only
         by_cases hc:z.cells.length=m∧len*m≤2^24
         · rw[if_pos hc]
           rcases vY E F n parts.toList (fun gp=>(.oW fun r=>ob none (fun cs=>some (.cells cs elem false,fun i=> .slice i 0 len len false)) (ou (fun i=>some (i*m,m)) (eN z.cells len) (gp r)):Kd F.T)) .bad with h | ⟨g,h,hg⟩<;>rw[h]
           · trivial
           · refine ⟨fun _=>rfl,fun _ _=>rfl,fun r p e=>?_⟩
             obtain ⟨cs,h1,e⟩:=fb e
             simp only[dj,hu,hs,hz,hg]
             rw[if_pos hc];simp only[h1];exact e
         · rw[if_neg hc];trivial
   | _=>trivial
theorem Ln (z:List AV) (m:Nat):OJ z m=eN z m:=by
 induction m with
 | zero=>rfl
 | succ m ih=>show jk z (OJ z m)=_;rw[lA,ih];rfl
theorem z8 (t:TypeId) (l c:Operand):eI E F n (.makeSlice t l c) (wO E F n l (fun gl=>wO E F n c (fun gc=>match h_ E.P t with
 | some (.slice elem)=>match rv E elem,OI E elem,Cv E elem with
   | some m,some bytes,some z=>if z.cells.length=m then .oW fun r=>K5 elem bytes z.cells (gl r) (gc r) else .bad
   | _,_,_=> .bad
 | _=> .bad) .bad) .bad):=by
 rw[gB]
 rcases bH E F n l (fun gl=>wO E F n c (fun gc=>match E.P.underlying t with
  | some (.slice elem)=>match rv E elem,OI E elem,Cv E elem with
    | some m,some bytes,some z=>if z.cells.length=m then (.oW fun r=>K5 elem bytes z.cells (gl r) (gc r):Kd F.T) else .bad
    | _,_,_=> .bad
  | _=> .bad) .bad) .bad with h | ⟨gl,h,hl⟩<;>rw[h]
 · trivial
 rcases bH E F n c (fun gc=>match E.P.underlying t with
  | some (.slice elem)=>match rv E elem,OI E elem,Cv E elem with
    | some m,some bytes,some z=>if z.cells.length=m then (.oW fun r=>K5 elem bytes z.cells (gl r) (gc r):Kd F.T) else .bad
    | _,_,_=> .bad
  | _=> .bad) .bad with h | ⟨gc,h,hc⟩<;>rw[h]
 · trivial
 cases hu:E.P.underlying t with
 | none=>trivial
 | some d=>cases d with
   | slice elem=>
     simp only
     rw[mc,Ik,tD]
     cases hs:bY E elem with
     | none=>trivial
     | some m=>cases hb:im E elem with
       | none=>trivial
       | some bytes=>cases hz:eW E elem with
         | none=>trivial
         | some z=>
           simp only
           by_cases hm:z.cells.length=m
           · rw[if_pos hm]
             refine ⟨fun _=>rfl,fun _ _=>rfl,fun r p e=>?_⟩
             obtain ⟨k1,a,e1,q1⟩:=hD e
             obtain ⟨k2,b,e2,q2⟩:=hD q1
             obtain ⟨a',rfl,q3⟩:=ma q2
             obtain ⟨b',rfl,q4⟩:=ma q3
             obtain ⟨c1,q5⟩:=eB q4
             obtain ⟨c2,q6⟩:=n3 q5
             obtain ⟨c3,q7⟩:=eB q6
             have c1:=ek c1
             have c2:=iB c2
             have c3:bytes*b'≤140737488355328:=ek c3
             simp only[dj,hu,hs,hb,hz,hl,hc,e1,e2]
             rw[if_pos ⟨by omega,by omega,by omega,by have:(bytes:Int)*(b':Int)=((bytes*b':Nat):Int):=by simp
                                                      rw[this];omega,hm⟩]
             rw[←q7,Ln];rfl
           · rw[if_neg hm];trivial
   | _=>trivial
theorem BD (k:List UInt8):∀(l:List ja) (i:Nat) {x:Option AV},findF k l=some x→∃y,oT (.str k) l i=some y∧y.map (·.2)=x
 | [],i,x,h=>⟨none,rfl,by cases h;rfl⟩
 | e::es,i,x,h=>by
   obtain ⟨s,h1,h2⟩:=l8 (show nV (fun s=>bc (leq vP k s) (some (some e.val)) (findF k es)) none e.key=some x from h)
   rw[Da] at h2
   rw[oT,h1]
   show ∃y,(match (some (k==s):Option Bool) with | some true=>some (some (i,e.val)) | some false=>oT (.str k) es (i+1) | none=>none)=some y∧_
   cases hb:k==s with
   | true=>
     rw[hb,gW] at h2
     exact ⟨some (i,e.val),rfl,Option.some.inj h2⟩
   | false=>
     rw[hb,c_] at h2
     exact BD k es (i+1) h2
noncomputable def Rw (h:aq) (m:AV):Option (List ja):=match m with
 | .cZ=>some []
 | .map i=>(match h.get i with | some (.map es _)=>some es | _=>none)
 | _=>none
theorem Iv {z:AV} {ok:Bool} {h:aq} {m k v:AV} (e:D' z ok h m k=some v):
 (∃s,k= .str s)∧∃es,(match m with | .cZ=>some [] | .map i=>(match h.get i with | some (.map es _)=>some es | _=>none) | _=>none)=some es∧
  ∃y,oT k es 0=some y∧v=(match y with | some (_,w)=>(if ok then .tuple [w,.bool true] else w) | none=>if ok then .tuple [z,.bool false] else z):=by
 obtain ⟨s,rfl,e1⟩:=l8 e
 obtain ⟨es,h1,e2⟩:=fb e1
 obtain ⟨x,h2,e3⟩:=fb e2
 refine ⟨⟨s,rfl⟩,es,?_,?_⟩
 · cases m with
   | cZ=>exact h1
   | map i=>
     obtain ⟨o,h3,h4⟩:=fb (show ob none (fun o=>K6 (fun es=>some es) none o) (h.get i)=some es from h1)
     simp only[h3]
     cases o with
     | map iV c=>exact h4
     | _=>cases h4
   | _=>cases h1
 · obtain ⟨y,h3,h4⟩:=BD s es 0 h2
   refine ⟨y,h3,?_⟩
   have e4:=Option.some.inj e3
   rw[←e4,←h4]
   cases y with
   | none=>cases ok<;>rfl
   | some y=>obtain ⟨_,w⟩:=y;cases ok<;>rfl
theorem FH (t:TypeId) (x ix:Operand) (ok:Bool):eI E F n (.lookup t x ix ok) (wO E F n x (fun gx=>wO E F n ix (fun gi=>match h_ E.P t with
 | some (.map key elem)=>match h_ E.P key,Cv E elem with
   | some .string,some z=> .red fun r h=>D' z ok h (gx r) (gi r)
   | _,_=> .red fun r h=>c9 E (dJ F n r) h (.lookup t x ix ok)
 | _=> .bad) .bad) .bad):=by
 let K:(F.T→AV)→(F.T→AV)→Kd F.T:=fun gx gi=>match h_ E.P t with
  | some (.map key elem)=>match h_ E.P key,Cv E elem with
    | some .string,some z=> .red fun r h=>D' z ok h (gx r) (gi r)
    | _,_=> .red fun r h=>c9 E (dJ F n r) h (.lookup t x ix ok)
  | _=> .bad
 show eI E F n _ (wO E F n x (fun gx=>wO E F n ix (fun gi=>K gx gi) .bad) .bad)
 rcases bH E F n x (fun gx=>wO E F n ix (fun gi=>K gx gi) .bad) .bad with h | ⟨gx,h,hx⟩<;>rw[h]
 · trivial
 rcases bH E F n ix (fun gi=>K gx gi) .bad with h | ⟨gi,h,hi⟩<;>rw[h]
 · trivial
 simp only[K,gB,tD]
 have rV:eI E F n (.lookup t x ix ok) (.red fun r h=>c9 E (dJ F n r) h (.lookup t x ix ok)):=fun r h v e=> .inr ⟨rfl,e⟩
 cases hu:E.P.underlying t with
 | none=>trivial
 | some d=>cases d with
   | map key elem=>
     simp only
     cases hk:E.P.underlying key with
     | none=>exact rV
     | some kd=>cases kd with
       | string=>cases hz:eW E elem with
         | none=>exact rV
         | some z=>
           intro r h v e
           refine .inr ⟨rfl,?_⟩
           obtain ⟨⟨s,hs⟩,es,h1,y,h2,rfl⟩:=Iv e
           simp only[c9,hu,hx,hi,hk]
           rw[hs] at h2 ⊢
           rw[if_pos (show gv (some TypeDesc.string) (AV.str s)=true from rfl)]
           have WQ:Rw h (gx r)=some es:=h1
           change (match Rw h (gx r) with
            | none=>none
            | some es=>match oT (AV.str s) es 0 with
              | none=>none
              | some (some (_,v))=>some (if ok then AV.tuple [v,.bool true] else v)
              | some none=>match eW E elem with
                | some z=>some (if ok then AV.tuple [z,.bool false] else z)
                | none=>none)=_
           rw[WQ]
           simp only[h2,hz]
           cases y with
           | none=>rfl
           | some y=>obtain ⟨_,w⟩:=y;rfl
       | _=>exact rV
   | _=>trivial
theorem v8:∀(fs:List Field),vc E fs=placesOf E fs
 | []=>rfl
 | f::fs=>by
   show ob none (fun n=>ob none (fun l=>some ((f.offset,n)::l)) (vc E fs)) (rv E f.type)=_
   rw[v8 fs,mc]
   simp only[placesOf,dp]
   cases bY E f.type with
   | none=>rfl
   | some n=>
     show ob none (fun l=>some ((f.offset,n)::l)) (dp _ fs)=_
     cases dp (fun f=>match bY E f.type with | some n=>some (f.offset,n) | none=>none) fs<;>rfl
theorem BE (ps:List (Nat×Nat)):∀(l:List (Nat×AV)) (cs:List AV) {v:List AV},Bs ps cs l=some v→ou (ps[·]?) cs l=some v
 | [],cs,v,h=>h
 | (i,x)::l,cs,v,h=>by
   obtain ⟨q,h1,h2⟩:=fb (show ob none (fun (q:Nat×Nat)=>bc (Nat.beq (gJ (jv x)) q.2) (bc (Nat.ble (q.1+q.2) (gJ cs)) (Bs ps (Bj (jv x) cs q.1) l) none) none) (gK ps i)=some v from h)
   obtain ⟨h3,h4⟩:=eB h2
   obtain ⟨h5,h6⟩:=eB h4
   have h3:=kV h3
   have h5:=ek h5
   rw[eA,j5] at h3
   rw[eA] at h5
   rw[ft] at h1
   rw[ou]
   obtain ⟨off,size⟩:=q
   simp only[h1]
   rw[if_pos ⟨h3,h5⟩,←zZ,←j5]
   exact BE ps l _ h6
theorem Iw (t:TypeId) (parts:Array (Nat×Operand)):eI E F n (.build t parts) (match Cv E t,h_ E.P t with
 | some z,some (.struct fs)=>match vc E fs.toList with
   | some ps=>K4 E F n parts.toList (fun gp=> .fi fun r=>ob none (fun cs=>some (.agg cs)) (Bs ps (jv z) (gp r))) .bad
   | none=> .bad
 | _,_=> .fi fun r=>bm E (dJ F n r) (.build t parts)):=by
 have rV:eI E F n (.build t parts) (.fi fun r=>bm E (dJ F n r) (.build t parts)):=fun r v e=>e
 rw[gB,tD]
 cases hz:eW E t with
 | none=>exact rV
 | some z=>cases hu:E.P.underlying t with
   | none=>exact rV
   | some d=>cases d with
     | struct fs=>
       simp only
       rw[v8]
       cases hp:placesOf E fs.toList with
       | none=>trivial
       | some ps=>
         simp only
         rcases vY E F n parts.toList (fun gp=>(.fi fun r=>ob none (fun cs=>some (.agg cs)) (Bs ps (jv z) (gp r)):Kd F.T)) .bad with h | ⟨g,h,hg⟩<;>rw[h]
         · trivial
         · intro r v e
           obtain ⟨cs,h1,e2⟩:=fb e
           have h1:=BE ps _ _ h1
           rw[j5] at h1
           simp only[bm,hg,sW,hz,hu,hp,h1]
           exact e2
     | _=>exact rV
theorem z9 (t:TypeId) (m k x:Operand):eI E F n (.mapUpdate t m k x) (wO E F n m (fun gm=>wO E F n k (fun gk=>wO E F n x (fun gx=> .wr fun r h=>ob none (fun h'=>some (AV.undef,h')) (dv E h t (gm r) (gk r) (gx r))) .bad) .bad) .bad):=by
 rcases bH E F n m (fun gm=>wO E F n k (fun gk=>wO E F n x (fun gx=>(.wr fun r h=>ob none (fun h'=>some (AV.undef,h')) (dv E h t (gm r) (gk r) (gx r)):Kd F.T)) .bad) .bad) .bad with h | ⟨gm,h,hm⟩<;>rw[h]
 · trivial
 rcases bH E F n k (fun gk=>wO E F n x (fun gx=>(.wr fun r h=>ob none (fun h'=>some (AV.undef,h')) (dv E h t (gm r) (gk r) (gx r)):Kd F.T)) .bad) .bad with h | ⟨gk,h,hk⟩<;>rw[h]
 · trivial
 rcases bH E F n x (fun gx=>(.wr fun r h=>ob none (fun h'=>some (AV.undef,h')) (dv E h t (gm r) (gk r) (gx r)):Kd F.T)) .bad with h | ⟨gx,h,hx⟩<;>rw[h]
 · trivial
 refine ⟨⟨fun _=>rfl,fun _ _=>rfl,fun _=>rfl⟩,fun call r h rc o p ho e=>?_⟩
 obtain ⟨h',h1,e2⟩:=fb e
 have e3:=Option.some.inj e2
 simp only[cD,ho,hm,hk,hx,h1,←e3]
theorem FI (t:TypeId) (m k x:Operand):eI E F n (.insert t m k x) (wO E F n m (fun gm=>wO E F n k (fun gk=>wO E F n x (fun gx=> .wr fun r h=>ob none (fun h'=>some (AV.undef,h')) (dv E h t (gm r) (gk r) (gx r))) .bad) .bad) .bad):=by
 rcases bH E F n m (fun gm=>wO E F n k (fun gk=>wO E F n x (fun gx=>(.wr fun r h=>ob none (fun h'=>some (AV.undef,h')) (dv E h t (gm r) (gk r) (gx r)):Kd F.T)) .bad) .bad) .bad with h | ⟨gm,h,hm⟩<;>rw[h]
 · trivial
 rcases bH E F n k (fun gk=>wO E F n x (fun gx=>(.wr fun r h=>ob none (fun h'=>some (AV.undef,h')) (dv E h t (gm r) (gk r) (gx r)):Kd F.T)) .bad) .bad with h | ⟨gk,h,hk⟩<;>rw[h]
 · trivial
 rcases bH E F n x (fun gx=>(.wr fun r h=>ob none (fun h'=>some (AV.undef,h')) (dv E h t (gm r) (gk r) (gx r)):Kd F.T)) .bad with h | ⟨gx,h,hx⟩<;>rw[h]
 · trivial
 refine ⟨⟨fun _=>rfl,fun _ _=>rfl,fun _=>rfl⟩,fun call r h rc o p ho e=>?_⟩
 obtain ⟨h',h1,e2⟩:=fb e
 have e3:=Option.some.inj e2
 simp only[cD,ho,hm,hk,hx,h1,←e3]
theorem Lp (it:Operand) (s:Bool):eI E F n (.next it s) (wO E F n it (fun g=> .wr fun r h=>yd h (g r) s) .bad):=by
 rcases bH E F n it (fun g=>(.wr fun r h=>yd h (g r) s:Kd F.T)) .bad with h | ⟨g,h,hg⟩<;>rw[h]
 · trivial
 refine ⟨⟨fun _=>rfl,fun _ _=>rfl,fun _=>rfl⟩,fun call r h rc o p ho e=>?_⟩
 simp only[cD,ho,hg,e]
theorem Ix (x:Operand):eI E F n (.panic x) (wO E F n x (fun g=> .qi fun _ r h _=>nW (fun t w=> .panic (.iface t w) h) (.fail "" none) (g r)) .bad):=by
 rcases bH E F n x (fun g=>(.qi fun _ r h _=>nW (fun t w=> .panic (.iface t w) h) (.fail "" none) (g r):Kd F.T)) .bad with h | ⟨g,h,hg⟩<;>rw[h]
 · trivial
 refine ⟨⟨fun _=>rfl,fun _ _=>rfl,fun _=>rfl⟩,fun fc call _ r h rc o ho=>?_⟩
 rcases By (f:=fun t w=>sX.panic (.iface t w) h) (why:= "") (o:=none) (g r) with ⟨t,w,e⟩ | e
 · simp only[cD,ho,hg,e];rfl
 · show MZ (nW _ _ _) _
   rw[e];trivial
theorem Iy (c:Call):eI E F n (.defer c) (.qi fun _ r _ rc=>match rc,callee E (dJ F n r) c with
 | .AE _,_=> .fail "" none
 | _,some (.fn f,args)=> .defer (.call f args)
 | _,_=> .fail "" none):=by
 refine ⟨⟨fun _=>rfl,fun _ _=>rfl,fun _=>rfl⟩,fun fc call _ r h rc o ho=>?_⟩
 simp only[cD,ho]
 cases rc with
 | AE l=>trivial
 | _=>cases hc:callee E (dJ F n r) c with
   | none=>trivial
   | some p=>obtain ⟨f,args⟩:=p;cases f<;>first | trivial | rfl
theorem Dc (src dst:TypeId) (x:Operand):eI E F n (.convert src dst x) (wO E F n x (Ea E src dst) .bad):=by
 rcases bH E F n x (Ea E src dst) (.bad:Kd F.T) with h | ⟨g,h,hg⟩<;>rw[h]
 · trivial
 unfold Ea
 simp only[gB]
 cases hs:E.P.underlying src with
 | none=>trivial
 | some ds=>cases hd:E.P.underlying dst with
   | none=>cases ds<;>trivial
   | some dd=>
     cases ds<;>cases dd<;>try trivial
     case int.int k k'=>
      intro r v e
      obtain ⟨j,m,e1,e2⟩:=hD e
      simp only[bm,hs,hd,hg,e1]
      rw[←mb];exact e2
     case string.string=>
      intro r v e
      obtain ⟨s,e1,e2⟩:=l8 e
      simp only[bm,hs,hd,hg,e1];exact e2
     case string.slice e=>
      refine ⟨⟨fun _=>by simp only[bm,hs,hd],fun _ _=>by simp only[c9,hs,hd],fun _=>rfl⟩,fun call r h rc o p ho e=>?_⟩
      simp only[cD,ho,hg,e]
     case slice.string el=>
      simp only
      cases he:E.P.underlying el with
      | none=>trivial
      | some de=>
        cases de<;>try trivial
        rename_i k
        cases k<;>try trivial
        intro r h v e
        rcases l9 e with ⟨e1,e2⟩ | ⟨i,o,l,c,b,e1,e2⟩
        · refine .inr ⟨by simp only[bm,hs,hd,hg,e1],?_⟩
          simp only[c9,hs,hd,hg,he]
          simp only[e1];exact e2
        · refine .inr ⟨by simp only[bm,hs,hd,hg,e1],?_⟩
          simp only[c9,hs,hd,hg,he]
          simp only[e1]
          obtain ⟨l',h1,e3⟩:=fb e2
          simp only[h1];exact e3
end Go.Ab.Fa
end
