import Derived.Test.YtfllahfbmaafcaaA4
import Derived.Test.YtfllahfbmaafcaaA0
set_option linter.unusedVariables false
set_option linter.unusedSimpArgs false
section
namespace Go.Ab.Fa
structure W (α:Type) where
 f:α
section
variable {α β T:Type}
noncomputable def wW (w:W α) (k:α→β):β:=W.rec (motive:=fun _=>β) k w
noncomputable def wA (a:Acc T) (k:(T→AV)→β):β:=Acc.rec (motive:=fun _=>β) k a
noncomputable def wU (a:ZT T) (k:(AV→T→T)→β):β:=ZT.rec (motive:=fun _=>β) k a
end
structure Y where
 ds:List nw
 rc:RC
inductive FO (T:Type) where
 | EY (r:T) (h:au) (y:Y)
 | jmp (e:gR) (r:T) (h:au) (y:Y)
 | bad
structure I (T:Type) where
 run:aW→T→au→Y→FO T
structure C (T:Type) where
 run:Nat→aW→T→au→Y→FO T
inductive Kd (T:Type) where
 | D2 (f:T→AV)
 | fF (f:T→Option AV)
 | red (f:T→au→Option AV)
 | p_ (f:T→Option (aR×(Nat→AV)))
 | wr (f:T→au→Option (AV×au))
 | call (g:Fn) (args:T→List AV)
 | rW (f:aW→T→au→RC→vr)
 | bad
section
variable (E:Env) (F:RF) (n:Nat)
noncomputable def wT {β:Type} (i:Nat) (k:(F.T→AV)→β):β:=bc (Nat.ble n i) (k fun _=>AV.undef) (wA (F.get i) k)
noncomputable def wO {β:Type} (x:Operand) (k:(F.T→AV)→β) (d:β):β:=match x with
 | .tmp t=>wT F n t k
 | .const v=>match ofConst v with
   | some a=>k fun _=>a
   | none=>d
 | .global g=>bc (Nat.ble E.G g) d (k fun _=> .ptr g 0)
 | .func f=>k fun _=> .func f [] []
noncomputable def wL {β:Type} (l:List Operand) (k:(F.T→List AV)→β) (d:β):β:=match l with
 | []=>k fun _=> []
 | x::xs=>wO E F n x (fun g=>wL xs (fun gs=>k fun r=>g r::gs r) d) d
noncomputable def wP {β:Type} (o:Option Operand) (k:Option (F.T→AV)→β) (d:β):β:=match o with
 | none=>k none
 | some x=>wO E F n x (fun g=>k (some g)) d
noncomputable def wS {β:Type} (o:Option Tmp) (k:(AV→F.T→F.T)→β):β:=match o with
 | none=>k fun _ r=>r
 | some i=>bc (Nat.ble n i) (k fun _ r=>r) (wU (F.set i) k)
noncomputable def tH (t:TypeId):Option Nat:=ob none (fun i=>some i.size) (wF E.P t)
noncomputable def WC (t:TypeId):Option Nat:=if E.bld=some t then none else ob none (fun i=>some i.bytes) (wF E.P t)
noncomputable def GI (t:TypeId):Option AV:=ob none (fun i=>ob none (fun z=>ofConst z) i.zero) (wF E.P t)
noncomputable def agF (t:TypeId):Option Bool:=match iC E.P t with
 | some (.struct _)=>some true
 | some (.array _ _)=>some true
 | some _=>some false
 | none=>none
noncomputable def YE (t:TypeId) (f:Nat):Option Field:=match iC E.P t with
 | some (.struct fs)=>gT fs.toList f
 | _=>none
variable {T:Type}
noncomputable def N3 (op:BinOp):W (IntKind→Int→Int→Option AV):=match op with
 | .add=>⟨fun k a b=>some (.int k (sv k (oU a b)))⟩
 | .sub=>⟨fun k a b=>some (.int k (sv k (CU a b)))⟩
 | .mul=>⟨fun k a b=>some (.int k (sv k (NV a b)))⟩
 | .eql=>⟨fun _ a b=>some (.bool (U3 a b))⟩
 | .neq=>⟨fun _ a b=>some (.bool (s_ (U3 a b)))⟩
 | .lss=>⟨fun _ a b=>some (.bool (Sx a b))⟩
 | .leq=>⟨fun _ a b=>some (.bool (s_ (Sx b a)))⟩
 | .gtr=>⟨fun _ a b=>some (.bool (Sx b a))⟩
 | .geq=>⟨fun _ a b=>some (.bool (s_ (Sx a b)))⟩
 | op=>⟨Sy op⟩
noncomputable def KN (op:BinOp):W (List UInt8→List UInt8→Option AV):=match op with
 | .eql=>⟨fun a b=>some (.bool (leq yR a b))⟩
 | .neq=>⟨fun a b=>some (.bool (s_ (leq yR a b)))⟩
 | op=>⟨sK op⟩
noncomputable def SE (f:IntKind→Int→Int→Option AV) (g:List UInt8→List UInt8→Option AV) (vM:AV→AV→Option AV) (a b:AV):Option AV:=
 mh (fun k x=>mh (fun j y=>bc (NT k j) (f k x y) none) none b) (oS (fun s=>oS (fun t=>g s t) none b) (vM a b) a) a
noncomputable def bU (op:BinOp) (vM:AV→AV→Option AV) (ga gb:T→AV):Kd T:=match op with
 | .shl=> .fF fun r=>mh (fun k x=>mh (fun _ y=>ZU k x y) none (gb r)) none (ga r)
 | .shr=> .fF fun r=>mh (fun k x=>mh (fun _ y=>ZV k x y) none (gb r)) none (ga r)
 | op=>wW (N3 op) fun f=>wW (KN op) fun g=> .fF fun r=>SE f g vM (ga r) (gb r)
noncomputable def ZW (op:UnOp) (ga:T→AV):Kd T:=match op with
 | .not=> .fF fun r=>hX (fun b=>some (.bool (s_ b))) none (ga r)
 | op=> .fF fun r=>Ys op (ga r)
noncomputable def N4 (cs:List AV) (o:Nat):Option AV:=gT cs o
noncomputable def N5 (n:Nat) (cs:List AV) (o:Nat):Option AV:=bc (Nat.ble (Nat.add o n) (gS cs)) (some (.agg (qp (qo cs o) n))) none
noncomputable def ue (t:TypeId) (k:(List AV→Nat→Option AV)→Kd T):Kd T:=match agF E t with
 | some true=>match tH E t with
   | some n=>k (N5 n)
   | none=> .bad
 | some false=>k N4
 | none=> .bad
noncomputable def EZ (p:List AV→Nat→Option AV) (h:au) (a:AV):Option AV:=
 vF (fun i o=>ob none (fun obj=>vH (fun cs _ _=>p cs o) none obj) (h.get i)) none a
noncomputable def yW (n:Nat) (h:au) (a v:AV):Option (AV×au):=
 vF (fun i o=>ob none (fun obj=>vH (fun cs e ro=>bc ro none
  (bc (Nat.beq (gS (jM v)) n) (bc (Nat.ble (Nat.add o n) (gS cs)) (bc (vI Sz (jM v)) (some (AV.undef,h.put i (some (.cells (EP (jM v) cs o) e false)))) none) none) none)) none obj) (h.get i)) none a
noncomputable def C3 (len size:Nat) (i o:Nat) (ix:AV):Option AV:=
 mh (fun _ n=>jm (fun m=>bc (Nat.ble len m) none (some (.ptr i (Nat.add o (Nat.mul m size))))) none n) none ix
noncomputable def C4 (d y:Nat) (o:Option AV) (k:Nat→Option AV):Option AV:=
 ob (k d) (fun v=>mh (fun _ i=>jm (fun m=>bc (Nat.ble m y) (k m) none) none i) none v) o
noncomputable def slF (size:Nat) (lo hi:Option AV) (v:AV):Option AV:=
 hZ (C4 0 0 hi fun h=>C4 0 h lo fun _=>some .aI)
  (fun i o len cap op=>bc (Nat.ble len cap) (C4 len cap hi fun h=>C4 0 h lo fun l=>
   bc (Nat.beq cap l) (bc op (some .dG) (some (.slice i o (Nat.sub h l) (Nat.sub cap l) false))) (some (.slice i (Nat.add o (Nat.mul l size)) (Nat.sub h l) (Nat.sub cap l) op))) none) none v
noncomputable def slS (lo hi:Option AV) (v:AV):Option AV:=
 oS (fun s=>C4 (gS s) (gS s) hi fun h=>C4 0 h lo fun l=>some (.str (qp (qo s l) (Nat.sub h l)))) none v
noncomputable def slA (m size:Nat) (lo hi:Option AV) (v:AV):Option AV:=
 vF (fun i o=>C4 m m hi fun h=>C4 0 h lo fun l=>some (.slice i (bc (Nat.beq m l) o (Nat.add o (Nat.mul l size))) (Nat.sub h l) (Nat.sub m l) false)) none v
noncomputable def AU (o:Option (T→AV)) (r:T):Option AV:=ob none (fun g=>some (g r)) o
noncomputable def ZX (v:AV):Option Nat:=hZ (some 0) (fun _ _ n _ _=>some n) (oS (fun s=>some (gS s)) (jD v) v) v
noncomputable def N6 (h:au) (size n:Nat) (v:AV):Option (List AV):=
 hZ (bc (Nat.beq n 0) (some []) none) (fun i o len _ _=>bc (Nat.ble n len) (ob none (fun obj=>vH (fun cs _ _=>bc (Nat.ble (Nat.add o (Nat.mul n size)) (gS cs)) (some (qp (qo cs o) (Nat.mul n size))) none) none obj) (h.get i)) none)
  (dP h size n v) v
noncomputable def ZY (elem:TypeId) (size bytes:Nat) (h:au) (s x:AV):Option (AV×au):=
 ob none (fun n=>ob none (fun new=>bc (vI Sz new) (bc (Nat.beq (gS new) (Nat.mul n size))
  (hZ
   (bc (Nat.beq n 0) (some (.aI,h)) (bc (Nat.ble (Nat.mul (Nat.add (Nat.mul 4 n) 4096) (Nat.add bytes 1)) 1099511627776)
    (ob none (fun h'=>some (.slice h.nx 0 n n true,h')) (h.new (.cells new elem false))) none))
   (fun i o len cap op=>ob none (fun obj=>vH (fun cs e ro=>bc ro none
    (bc (Nat.ble (Nat.add len n) cap)
     (bc (Nat.ble (Nat.add o (Nat.mul (Nat.add len n) size)) (gS cs)) (some (.slice i o (Nat.add len n) cap op,h.put i (some (.cells (EP new cs (Nat.add o (Nat.mul len size))) e false)))) none)
     (bc (Nat.ble (Nat.mul (Nat.add (Nat.mul 4 (Nat.add len n)) 4096) (Nat.add bytes 1)) 1099511627776)
      (bc (Nat.ble (Nat.add o (Nat.mul len size)) (gS cs))
       (bc op
        (bc (Nat.beq e elem) (bc (Nat.beq (Nat.add o (Nat.mul cap size)) (gS cs)) (bc (Nat.beq o 0)
         (ob none (fun h'=>some (.slice h.nx 0 (Nat.add len n) (Nat.add len n) true,h')) ((h.put i none).new (.cells (jF (qp (qo cs o) (Nat.mul len size)) new) elem false))) none) none) none)
        (ob none (fun h'=>some (.slice h.nx 0 (Nat.add len n) (Nat.add len n) true,h')) (h.new (.cells (jF (qp (qo cs o) (Nat.mul len size)) new) elem false)))) none) none)))
    none obj) (h.get i))
   none s) none) none) (N6 h size n x)) (ZX x)
noncomputable def KO (argTypes:Array TypeId) (gs gx:T→AV):Kd T:=match gT argTypes.toList 0,gT argTypes.toList 1 with
 | some sT,some xT=>match iC E.P sT,iC E.P xT with
   | some (.slice elem),some xd=>if jk xd then .wr fun r h=>pY E h elem (gs r) (gx r) else match tH E elem,WC E elem,GI E elem with
     | some size,some bytes,some z=>if z.cells.length=size then .wr fun r h=>ZY elem size bytes h (gs r) (gx r) else .bad
     | _,_,_=> .bad
   | _,_=> .bad
 | _,_=> .bad
noncomputable def SF {β:Type} (l:List (Nat×Operand)) (k:(F.T→List (Nat×AV))→β) (d:β):β:=match l with
 | []=>k fun _=> []
 | (i,x)::xs=>wO E F n x (fun g=>SF xs (fun gs=>k fun r=>(i,g r)::gs r) d) d
noncomputable def xZ (fs:List Field):Option (List (Nat×Nat)):=List.rec (motive:=fun _=>Option (List (Nat×Nat))) (some []) (fun f _ ih=>ob none (fun n=>ob none (fun l=>some ((f.offset,n)::l)) ih) (tH E f.type)) fs
noncomputable def E0 (ps:List (Nat×Nat)) (cs:List AV) (l:List (Nat×AV)):Option (List AV):=
 List.rec (motive:=fun _=>List AV→Option (List AV)) (fun cs=>some cs) (fun p _ ih cs=>ob none (fun (q:Nat×Nat)=>bc (Nat.beq (gS (jM p.2)) q.2) (bc (Nat.ble (Nat.add q.1 q.2) (gS cs)) (ih (EP (jM p.2) cs q.1)) none) none) (gT ps p.1)) l cs
noncomputable def WD (z:List AV) (m:Nat):List AV:=Nat.rec (motive:=fun _=>List AV) [] (fun _ ih=>jF z ih) m
noncomputable def SG (elem:TypeId) (bytes:Nat) (z:List AV) (l c:AV):Option (aR×(Nat→AV)):=
 mh (fun _ len=>mh (fun _ cap=>jm (fun len=>jm (fun cap=>bc (Nat.ble len cap) (bc (Nat.ble 1073741824 cap) none (bc (Nat.ble (Nat.mul bytes cap) 140737488355328)
  (some (.cells (WD z cap) elem false,fun i=> .slice i 0 len cap false)) none)) none) none cap) none len) none c) none l
noncomputable def findF (k:List UInt8) (l:List fO):Option (Option AV):=List.rec (motive:=fun _=>Option (Option AV)) (some none) (fun e _ ih=>oS (fun s=>bc (leq yR k s) (some (some e.val)) ih) none e.key) l
noncomputable def SH {R:Type} (f:List fO→R) (d:R) (o:aR):R:=
 aR.rec (motive:=fun _=>R) (fun _ _ _=>d) (fun es _=>f es) (fun _ _=>d) (fun _ _ _ _=>d) (fun _ _ _ _ _ _ _=>d) d o
noncomputable def Z0 {R:Type} (e:R) (f:Nat→R) (d:R) (v:AV):R:=
 AV.rec (motive_1:=fun _=>R) (motive_2:=fun _=>Unit) (fun _=>d) (fun _ _=>d) (fun _=>d) d (fun _ _=>d) d (fun _ _ _ _ _=>d) e (fun i=>f i) (fun _ _ _ _ _=>d) (fun _=>d) d (fun _ _ _=>d) d (fun _ _=>d) (fun _ _=>d) d d () (fun _ _ _ _=>()) v
noncomputable def I' (h:au) (m:AV):Option AV:=
 Z0 (some (.int .i64 (Int.ofNat 0))) (fun i=>ob none (fun o=>SH (fun es=>some (.int .i64 (Int.ofNat (gS es)))) none o) (h.get i)) none m
noncomputable def Ja (z:AV) (ok:Bool) (h:au) (m k:AV):Option AV:=
 oS (fun s=>ob none (fun es=>ob none (fun r=>some (ob (bc ok (.tuple [z,.bool false]) z) (fun v=>bc ok (.tuple [v,.bool true]) v) r)) (findF s es))
  (Z0 (some []) (fun i=>ob none (fun o=>SH (fun es=>some es) none o) (h.get i)) none m)) none k
noncomputable def kO (o:gY):vr:=gY.rec (motive:=fun _=>vr) .val .panic .fail o
noncomputable def E1 (t:TypeId) (name:String):Option FuncId:=tK E t name
noncomputable def U7 (c:Call) (op:Op):Kd F.T:=match c.callee with
 | .invoke x name=>wO E F n x (fun gx=>wL E F n c.args.toList (fun gs=> .rW fun call r h _=>oT
  (fun t v=>ob (.fail "" none) (fun f=>kO (call (.fn f) (v::gs r) h)) (E1 E t name)) (.fail "" none) (gx r)) .bad) .bad
 | .value (.func f)=>wL E F n c.args.toList (fun gs=>match E.kB f with
   | some e=> .fF fun r=>e (gs r)
   | none=>match E.gF f with
     | some g=> .wr fun r h=>g (gs r) h
     | none=> .call (.fn f) gs) .bad
 | .value x=>wO E F n x (fun gf=>wL E F n c.args.toList (fun gs=> .rW fun call r h _=>I8
  (fun g first captured=>ob (kO (call (.fn g) (jF first (jF (gs r) captured)) h)) (fun sp=>ob (.fail "" none) (fun p=> .val p.1 p.2) (sp (jF first (jF (gs r) captured)) h)) (E.gF g))
  (fun l=>kO (call (.sL l) (gs r) h)) (.fail "" none) (gf r)) .bad) .bad
 | .builtin .len=>match gT c.argTypes.toList 0,c.args.toList with
   | some t,[x]=>wO E F n x (fun g=>match iC E.P t with
     | some .string=> .fF fun r=>oS (fun s=>some (.int .i64 (Int.ofNat (gS s)))) none (g r)
     | some (.array m _)=> .fF fun _=>some (.int .i64 (Int.ofNat m))
     | some (.slice _)=> .fF fun r=>hZ (some (.int .i64 (Int.ofNat 0))) (fun _ _ m _ _=>some (.int .i64 (Int.ofNat m))) (vZ (some (.int .i64 (Int.ofNat 0))) none (g r)) (g r)
     | some (.map _ _)=> .red fun r h=>I' h (g r)
     | _=> .bad) .bad
   | _,_=> .bad
 | .builtin .cap=>match gT c.argTypes.toList 0,c.args.toList with
   | some t,[x]=>wO E F n x (fun g=>match iC E.P t with
     | some (.slice _)=> .fF fun r=>hZ (some (.int .i64 (Int.ofNat 0))) (fun _ _ _ c b=>bc b none (some (.int .i64 (Int.ofNat c)))) none (g r)
     | _=> .bad) .bad
   | _,_=> .bad
 | .builtin .max=> .fF fun r=>bk E (dS F n r) op
 | .builtin .min=> .fF fun r=>bk E (dS F n r) op
 | .builtin .append=>match c.args.toList with
   | [s,x]=>wO E F n s (fun gs=>wO E F n x (fun gx=>KO E c.argTypes gs gx) .bad) .bad
   | _=> .bad
 | .builtin .copy=>match c.args.toList with
   | [s,x]=>wO E F n s (fun gs=>wO E F n x (fun gx=> .wr fun r h=>so E h c.argTypes (gs r) (gx r)) .bad) .bad
   | _=> .bad
 | .builtin .recover=> .rW fun _ _ h rc=>match rc with
   | .fS x=> .pD x
   | .pT _=> .fail "" none
   | _=> .val .nilIface h
 | _=> .bad
noncomputable def Jb (src dst:TypeId) (g:T→AV):Kd T:=match iC E.P src,iC E.P dst with
 | some (.int _),some (.int k)=> .fF fun r=>mh (fun _ n=>some (.int k (sv k n))) none (g r)
 | some .string,some .string=> .fF fun r=>oS (fun s=>some (.str s)) none (g r)
 | some (.slice e),some .string=>match iC E.P e with
   | some (.int .u8)=> .red fun r h=>hZ (some (.str [])) (fun i o len _ _=>ob none (fun l=>some (.str l)) (Cj h i o len)) none (g r)
   | _=> .bad
 | some .string,some (.slice _)=> .wr fun r h=>Bf E h src dst (some (g r))
 | _,_=> .bad
noncomputable def sw (op:Op):Kd F.T:=match op with
 | .move x=>wO E F n x .D2 .bad
 | .assign x=>wO E F n x .D2 .bad
 | .pick c a b=>wO E F n c (fun gc=>wO E F n a (fun ga=>wO E F n b (fun gb=> .fF fun r=>hX (fun t=>bc t (some (ga r)) (some (gb r))) none (gc r)) .bad) .bad) .bad
 | .binOp op t x y _=>wO E F n x (fun gx=>wO E F n y (fun gy=>bU op (iJ E op t (isConst x) (isConst y)) gx gy) .bad) .bad
 | .unOp op _ x=>wO E F n x (ZW op) .bad
 | .fieldAddr s x f=>match YE E s f with
   | some fd=>match tH E fd.type with
     | some (_+1)=>wO E F n x (fun g=> .fF fun r=>vF (fun i o=>some (.ptr i (Nat.add o fd.offset))) none (g r)) .bad
     | _=> .bad
   | none=> .bad
 | .load t a=>wO E F n a (fun g=>ue E t fun p=> .red fun r h=>EZ p h (g r)) .bad
 | .store t a x=>match tH E t with
   | some m=>wO E F n a (fun ga=>wO E F n x (fun gx=> .wr fun r h=>yW m h (ga r) (gx r)) .bad) .bad
   | none=> .bad
 | .nilCheck x=>wO E F n x (fun g=> .fF fun r=>bc (CT (g r)) (some (g r)) none) .bad
 | .extract x i=>wO E F n x (fun g=> .fF fun r=>vG (fun _=>none) (fun vs=>gT vs i) none (g r)) .bad
 | .field s x f=>match YE E s f with
   | some fd=>wO E F n x (fun g=>ue E fd.type fun p=> .fF fun r=>vG (fun cs=>p cs fd.offset) (fun _=>none) none (g r)) .bad
   | none=> .bad
 | .indexAddr t x ix=>wO E F n x (fun gx=>wO E F n ix (fun gi=>match iC E.P t with
   | some (.array len elem)=>match tH E elem with
     | some size=> .fF fun r=>vF (fun i o=>C3 len size i o (gi r)) none (gx r)
     | none=> .bad
   | some (.slice elem)=>match tH E elem with
     | some size=> .fF fun r=>hZ none (fun i o len _ _=>C3 len size i o (gi r)) none (gx r)
     | none=> .bad
   | _=> .bad) .bad) .bad
 | .index t x ix=>wO E F n x (fun gx=>wO E F n ix (fun gi=>match iC E.P t with
   | some .string=> .fF fun r=>oS (fun s=>mh (fun _ i=>jm (fun m=>ob none (fun (b:UInt8)=>some (.int .u8 (Int.ofNat b.toNat))) (gT s m)) none i) none (gi r)) none (gx r)
   | _=> .fF fun r=>bk E (dS F n r) op) .bad) .bad
 | .slice t x lo hi none=>wO E F n x (fun gx=>wP E F n lo (fun gl=>wP E F n hi (fun gh=>match iC E.P t with
   | some (.slice elem)=>match tH E elem with
     | some size=> .fF fun r=>slF size (AU gl r) (AU gh r) (gx r)
     | none=> .bad
   | some .string=> .fF fun r=>slS (AU gl r) (AU gh r) (gx r)
   | some (.array m elem)=>match tH E elem with
     | some size=> .fF fun r=>slA m size (AU gl r) (AU gh r) (gx r)
     | none=> .bad
   | _=> .fF fun r=>bk E (dS F n r) op) .bad) .bad) .bad
 | .convert src dst x=>wO E F n x (Jb E src dst) .bad
 | .makeInterface t x=>match iC E.P t with
   | some (.interface _)=> .bad
   | some _=>wO E F n x (fun g=> .D2 fun r=> .iface t (g r)) .bad
   | none=> .bad
 | .makeFunc (.func f) first captured=>wL E F n first.toList (fun ga=>wL E F n captured.toList (fun gb=> .D2 fun r=> .func f (ga r) (gb r)) .bad) .bad
 | .alloc t=>match GI E t with
   | some z=> .p_ fun _=>some (.cells z.cells t false,fun i=> .ptr i 0)
   | none=> .bad
 | .box t x=>wO E F n x (fun g=> .p_ fun r=>some (.cells (jM (g r)) t false,fun i=> .ptr i 0)) .bad
 | .buildSlice t len parts=>match iC E.P t with
   | some (.slice elem)=>match tH E elem,GI E elem with
     | some m,some z=>if z.cells.length=m∧len*m≤2^24 then SF E F n parts.toList (fun gp=> .p_ fun r=>ob none (fun cs=>some (.cells cs elem false,fun i=> .slice i 0 len len false)) (pC (fun i=>some (i*m,m)) (eV z.cells len) (gp r))) .bad else .bad
     | _,_=> .bad
   | _=> .bad
 | .makeSlice t l c=>wO E F n l (fun gl=>wO E F n c (fun gc=>match iC E.P t with
   | some (.slice elem)=>match tH E elem,WC E elem,GI E elem with
     | some m,some bytes,some z=>if z.cells.length=m then .p_ fun r=>SG elem bytes z.cells (gl r) (gc r) else .bad
     | _,_,_=> .bad
   | _=> .bad) .bad) .bad
 | .makeMap _ none=> .p_ fun _=>some (.map [] 0,fun i=> .map i)
 | .makeMap .. | .range .. => .p_ fun r=>dv E (dS F n r) op
 | .lookup t x ix ok=>wO E F n x (fun gx=>wO E F n ix (fun gi=>match iC E.P t with
   | some (.map key elem)=>match iC E.P key,GI E elem with
     | some .string,some z=> .red fun r h=>Ja z ok h (gx r) (gi r)
     | _,_=> .red fun r h=>dh E (dS F n r) h op
   | _=> .bad) .bad) .bad
 | .build t parts=>match GI E t,iC E.P t with
   | some z,some (.struct fs)=>match xZ E fs.toList with
     | some ps=>SF E F n parts.toList (fun gp=> .fF fun r=>ob none (fun cs=>some (.agg cs)) (E0 ps (jM z) (gp r))) .bad
     | none=> .bad
   | _,_=> .fF fun r=>bk E (dS F n r) op
 | .slice .. | .typeAssert .. => .fF fun r=>bk E (dS F n r) op
 | .mapUpdate t m k x=>wO E F n m (fun gm=>wO E F n k (fun gk=>wO E F n x (fun gx=> .wr fun r h=>ob none (fun h'=>some (AV.undef,h')) (dH E h t (gm r) (gk r) (gx r))) .bad) .bad) .bad
 | .insert t m k x=>wO E F n m (fun gm=>wO E F n k (fun gk=>wO E F n x (fun gx=> .wr fun r h=>ob none (fun h'=>some (AV.undef,h')) (dH E h t (gm r) (gk r) (gx r))) .bad) .bad) .bad
 | .next it s=>wO E F n it (fun g=> .wr fun r h=>Be h (g r) s) .bad
 | .panic x=>wO E F n x (fun g=> .rW fun _ r h _=>oT (fun t w=> .panic (.iface t w) h) (.fail "" none) (g r)) .bad
 | .defer c=> .rW fun _ r _ rc=>match rc,callee E (dS F n r) c with
   | .pT _,_=> .fail "" none
   | _,some (.fn f,args)=> .defer (.call f args)
   | _,_=> .fail "" none
 | .call c=>U7 E F n c op
 | _=> .bad
noncomputable def Hr (kd:Kd T) (s:AV→T→T) (j:I T):I T:=match kd with
 | .D2 g=>⟨fun call r h y=>j.run call (s (g r) r) h y⟩
 | .fF f=>⟨fun call r h y=>ob .bad (fun v=>j.run call (s v r) h y) (f r)⟩
 | .red f=>⟨fun call r h y=>ob .bad (fun v=>j.run call (s v r) h y) (f r h)⟩
 | .p_ f=>⟨fun call r h y=>ob .bad (fun p=>ob .bad (fun h'=>j.run call (s (p.2 h.nx) r) h' y) (h.new p.1)) (f r)⟩
 | .wr f=>⟨fun call r h y=>ob .bad (fun p=>j.run call (s p.1 r) p.2 y) (f r h)⟩
 | .call g args=>⟨fun call r h y=>gY.rec (motive:=fun _=>FO T) (fun v h'=>j.run call (s v r) h' y) (fun v h'=> .jmp (.panic v) r h' y) (fun _ _=> .bad) (call g (args r) h)⟩
 | .rW f=>⟨fun call r h y=>vr.rec (motive:=fun _=>FO T) (fun v h'=>j.run call (s v r) h' y) (fun d=>j.run call (s AV.undef r) h ⟨d::y.ds,y.rc⟩) (fun v=>j.run call (s v r) h ⟨y.ds,.done⟩)
  (fun v h'=> .jmp (.panic v) r h' y) (fun _ _=> .bad) (f call r h y.rc)⟩
 | .bad=>⟨fun _ _ _ _=> .bad⟩
noncomputable def U8 (s:AV→T→T) (j:I T):I T:=⟨fun call r h y=>j.run call (s AV.undef r) h y⟩
noncomputable def Hs (g:T→AV) (want:Bool) (a b:I T):I T:=match want with
 | true=>⟨fun call r h y=>hX (fun t=>bc t (a.run call r h y) (b.run call r h y)) (b.run call r h y) (g r)⟩
 | false=>⟨fun call r h y=>hX (fun t=>bc t (b.run call r h y) (a.run call r h y)) (b.run call r h y) (g r)⟩
noncomputable def Jc (ops:Array Oper) (o:Oper) (a b:I F.T):I F.T:=match o.guard with
 | none=>a
 | some (j,want)=>match ob none (fun p=>p.dst) (gT ops.toList j) with
   | some d=>bc (Nat.ble n d) b (wA (F.get d) fun g=>Hs g want a b)
   | none=>b
noncomputable def N7 (ops:Array Oper) (o:Oper) (j:I F.T):I F.T:=wS F n o.dst fun s=>Jc F n ops o (Hr (sw E F n o.op) s j) (U8 s j)
noncomputable def rI (ops:Array Oper) (l:List Oper):I F.T:=List.rec (motive:=fun _=>I F.T) ⟨fun _ r h y=> .EY r h y⟩ (fun o _ j=>N7 E F n ops o j) l
noncomputable def Z1 (vM:AV→AV→Bool) (x y:AV):Bool:=
 mh (fun k a=>mh (fun j b=>bc (NT k j) (U3 a b) false) false y)
  (oS (fun s=>oS (fun t=>leq yR s t) false y)
   (vF (fun i o=>vF (fun j p=>bc (Nat.beq i j) (Nat.beq o p) false) false y)
    (hX (fun a=>hX (fun b=>bc a b (s_ b)) false y) (vM x y) x) x) x) x
noncomputable def yX (m:Nat):AV→AV→Bool:=Nat.rec (motive:=fun _=>AV→AV→Bool) (fun _ _=>false)
 (fun i ih x y=>Z1 (fun x y=>vG (fun a=>vG (fun b=>leq ih a b) (fun _=>false) false y) (fun _=>AV.same (i+1) x y) (AV.same (i+1) x y) x) x y) m
structure KP where
 k:Nat
 m:Nat
 made:Option Nat
 f:au→Bool
inductive DO (T:Type) where
 | ok (tr:List KP) (hs:List au) (r:T) (h:au) (y:Y)
 | bad
structure D (T:Type) where
 run:aW→T→au→Y→DO T
noncomputable def By (x:KP) (d:DO T):DO T:=DO.rec (motive:=fun _=>DO T) (fun tr hs r h y=> .ok (x::tr) hs r h y) .bad d
noncomputable def oW (h0:au) (d:DO T):DO T:=DO.rec (motive:=fun _=>DO T) (fun tr hs r h y=> .ok tr (h0::hs) r h y) .bad d
noncomputable def Jd (kd:Kd T) (s:AV→T→T) (j:D T):D T:=match kd with
 | .wr f=>⟨fun call r h y=>ob .bad (fun p=>oW h (j.run call (s p.1 r) p.2 y)) (f r h)⟩
 | .call g args=>⟨fun call r h y=>gY.rec (motive:=fun _=>DO T) (fun v h'=>oW h (j.run call (s v r) h' y)) (fun _ _=> .bad) (fun _ _=> .bad) (call g (args r) h)⟩
 | .rW f=>⟨fun call r h y=>vr.rec (motive:=fun _=>DO T) (fun v h'=>oW h (j.run call (s v r) h' y)) (fun _=> .bad) (fun _=> .bad) (fun _ _=> .bad) (fun _ _=> .bad) (f call r h y.rc)⟩
 | _=>⟨fun _ _ _ _=> .bad⟩
noncomputable def Je (k m:Nat) (kd:Kd T) (s:AV→T→T) (j:D T):D T:=match kd with
 | .D2 g=>⟨fun call r h y=>j.run call (s (g r) r) h y⟩
 | .fF f=>⟨fun call r h y=>ob .bad (fun v=>j.run call (s v r) h y) (f r)⟩
 | .red f=>⟨fun call r h y=>ob .bad (fun v=>By ⟨k,m,none,fun h'=>ob false (fun v'=>yX 20 v' v) (f r h')⟩ (j.run call (s v r) h y)) (f r h)⟩
 | .p_ f=>⟨fun call r h y=>ob .bad (fun p=>ob .bad (fun h'=>By ⟨k,m,some h.nx,fun Jf=>ob false (fun o=>aR.same o p.1) (Jf.get h.nx)⟩ (j.run call (s (p.2 h.nx) r) h' y)) (h.new p.1)) (f r)⟩
 | _=>⟨fun _ _ _ _=> .bad⟩
noncomputable def N8 (s:AV→T→T) (j:D T):D T:=⟨fun call r h y=>j.run call (s AV.undef r) h y⟩
noncomputable def Ht (s:AV→T→T) (j:D T):D T:=⟨fun call r h y=>oW h (j.run call (s AV.undef r) h y)⟩
noncomputable def N9 (g:T→AV) (want:Bool) (a b:D T):D T:=match want with
 | true=>⟨fun call r h y=>hX (fun t=>bc t (a.run call r h y) (b.run call r h y)) (b.run call r h y) (g r)⟩
 | false=>⟨fun call r h y=>hX (fun t=>bc t (b.run call r h y) (a.run call r h y)) (b.run call r h y) (g r)⟩
noncomputable def wG (ops:Array Oper) (o:Oper) (a b:D F.T):D F.T:=match o.guard with
 | none=>a
 | some (j,want)=>match ob none (fun p=>p.dst) (gT ops.toList j) with
   | some d=>bc (Nat.ble n d) b (wA (F.get d) fun g=>N9 g want a b)
   | none=>b
noncomputable def hF (ops:Array Oper) (pl:kh) (l:List Nat):Nat→D F.T:=List.rec (motive:=fun _=>Nat→D F.T) (fun _=>⟨fun _ r h y=> .ok [] [h] r h y⟩)
 (fun i _ ih k=>ob ⟨fun _ _ _ _=> .bad⟩ (fun o=>wS F n o.dst fun s=>
  bc (oa E o.op) (canon (Nat.add k 1) fun k'=>wG F n ops o (Jd (sw E F n o.op) s (ih k')) (Ht s (ih k')))
   (canon (Nat.sub (Nat.add (xY pl.bD pl.an i) 1) k) fun m=>wG F n ops o (Je k m (sw E F n o.op) s (ih k)) (N8 s (ih k)))) (gT ops.toList i)) l
noncomputable def Jg (tr:List KP):List Nat:=List.rec (motive:=fun _=>List Nat) [] (fun x _ ih=>ob ih (fun i=>i::ih) x.made) tr
noncomputable def oX (tr:List KP) (hs:List au):Bool:=bc (C2 (Jg tr)) (vI (fun x=>vI x.f (qp (qo hs x.k) x.m)) tr) false
noncomputable def SI (ops:Array Oper) (pl:kh) (call:aW) (r:F.T) (h:au) (y:Y):FO F.T:=match pl.order.reverse with
 | []=> .bad
 | i::front=>match (hF E F n ops pl front.reverse 0).run call r h y,ops[i]? with
   | .ok tr hs r1 h1 y1,some ⟨dst,.call c,ty,pos,after,guard⟩=>
     match et E (.call c)&&b_ ops (dS F n r1) ⟨dst,.call c,ty,pos,after,guard⟩&&(List.range ops.size).all (fun j=>j==i||cU pl.an i j),
      cI E call (dS F n r1) h1 y1.rc ⟨dst,.call c,ty,pos,after,guard⟩ with
     | true,.panic v h'=>match oX tr (hs++[h']) with
       | true=> .jmp (.panic v) r1 h' y1
       | false=> .bad
     | _,_=> .bad
   | _,_=> .bad
noncomputable def Jh (ops:Array Oper):I F.T:=N1 E ops (fun pl=>
 ⟨fun call r h y=>DO.rec (motive:=fun _=>FO F.T) (fun tr hs r' h' y'=>bc (oX tr hs) (.EY r' h' y') .bad) (SI E F n ops pl call r h y) ((hF E F n ops pl pl.order 0).run call r h y)⟩) ⟨fun _ _ _ _=> .bad⟩
def U9 (r:T) (o:Out):FO T:=match o with
 | .ok .normal s=> .EY r s.h ⟨s.ds,s.rc⟩
 | .ok e s=> .jmp e r s.h ⟨s.ds,s.rc⟩
 | .fail _ _=> .bad
noncomputable def C5 (f:Operand) (ps:Array Tmp) (as_ bd:Code):I F.T:=
 wO E F n f (fun _=>⟨fun call r h y=>U9 r (jJ E call f ps as_ bd ⟨dS F n r,h,y.ds,y.rc⟩)⟩) ⟨fun _ _ _ _=> .bad⟩
noncomputable def nS {R:Type} (d:R) (k:Nat→R) (m:Nat):R:=Nat.rec (motive:=fun _=>R) d (fun i _=>k i) m
noncomputable def fo {R:Type} (a:T→au→Y→R) (b:gR→T→au→Y→R) (d:R) (o:FO T):R:=FO.rec (motive:=fun _=>R) a b d o
noncomputable def N_ {R:Type} (f:Nat→R) (d:R) (e:gR):R:=gR.rec (motive:=fun _=>R) d f d (fun _=>d) e
noncomputable def N' (b:C T) (m:Nat):aW→T→au→Y→FO T:=
 Nat.rec (motive:=fun _=>aW→T→au→Y→FO T) (fun _ _ _ _=> .bad) (fun i ih call r h y=>fo (fun r' h' y'=>ih call r' h' y') .jmp .bad (b.run i call r h y)) m
noncomputable def SJ (i:I T):C T:=⟨fun m call r h y=>nS .bad (fun _=>i.run call r h y) m⟩
noncomputable def kP (c:Code):C F.T:=Code.rec (motive:=fun _=>C F.T)
 ⟨fun m _ r h y=>nS .bad (fun _=> .EY r h y) m⟩
 (fun _ ops draw=>bc draw (SJ (Jh E F n ops)) (SJ (rI E F n ops ops.toList)))
 (fun _ _ a b=>⟨fun m call r h y=>nS .bad (fun i=>fo (fun r' h' y'=>b.run i call r' h' y') .jmp .bad (a.run i call r h y)) m⟩)
 (fun x _ _ a b=>wO E F n x (fun g=>⟨fun m call r h y=>nS .bad (fun i=>hX (fun t=>bc t (a.run i call r h y) (b.run i call r h y)) .bad (g r)) m⟩) ⟨fun _ _ _ _ _=> .bad⟩)
 (fun id _ b=>⟨fun m call r h y=>nS .bad (fun i=>fo .EY (fun e r' h' y'=>N_ (fun j=>bc (Nat.beq j id) (.EY r' h' y') (.jmp e r' h' y')) (.jmp e r' h' y') e) .bad (b.run i call r h y)) m⟩)
 (fun _ b=>⟨fun m call r h y=>N' b m call r h y⟩)
 (fun f ps as_ bd _ _=>SJ (C5 E F n f ps as_ bd))
 (fun id=>⟨fun m _ r h y=>nS .bad (fun _=> .jmp (.exit id) r h y) m⟩)
 (fun _ b=>⟨fun m call r h y=>nS .bad (fun i=>b.run i call r h y) m⟩)
 (fun _=>⟨fun m _ r h y=>nS .bad (fun _=> .EY r h y) m⟩)
 (fun _=>⟨fun _ _ _ _ _=> .bad⟩)
 ⟨fun m _ r h y=>nS .bad (fun _=> .jmp .ret r h y) m⟩
 (fun _=>⟨fun _ _ _ _ _=> .bad⟩) c
end
section
variable (E:Env)
inductive BO where
 | fin (res:au→Option (List AV)) (h:au) (y:Y)
 | Z2 (v:AV) (res:au→Option (List AV)) (h:au) (y:Y)
 | bad
structure CF where
 run:Nat→aW→List AV→au→RC→BO
noncomputable def vN (F:RF) (n:Nat):List ResultVar→W (F.T→au→Option (List AV))
 | []=>⟨fun _ _=>some []⟩
 | .tmp t::rest=>wT F n t fun g=>wW (vN F n rest) fun k=>⟨fun r h=>ob none (fun vs=>some (g r::vs)) (k r h)⟩
 | .cell a t::rest=>wT F n a fun g=>wW (vN F n rest) fun k=>⟨fun r h=>ob none (fun v=>ob none (fun vs=>some (v::vs)) (k r h)) (bw E h t (g r))⟩
noncomputable def Oa (F:RF) (n:Nat) (fn:Func) (b:Code):CF:=
 wW (vN E F n fn.results.toList) fun res=>⟨fun fuel call args h rc=>bc (Nat.ble (gS args) n)
  (fo (fun r h' y=> .fin (res r) h' y) (fun e r h' y=>gR.rec (motive:=fun _=>BO) .bad (fun _=> .bad) (.fin (res r) h' y) (fun v=> .Z2 v (res r) h' y) e) .bad
   ((kP E F n b).run fuel call (MV F args F.z 0) h ⟨[],rc⟩)) .bad⟩
noncomputable def wH (f:FuncId):CF:=match Wy E.P f with
 | none=>⟨fun _ _ _ _ _=> .bad⟩
 | some fn=>match fn.body with
   | none=>⟨fun _ _ _ _ _=> .bad⟩
   | some b=>bc (Nat.ble fn.ntmps 64) (Oa E rf2 fn.ntmps fn b) (bc (Nat.ble fn.ntmps 512) (Oa E rf3 fn.ntmps fn b) ⟨fun _ _ _ _ _=> .bad⟩)
noncomputable def bo {R:Type} (a:(au→Option (List AV))→au→Y→R) (b:AV→(au→Option (List AV))→au→Y→R) (d:R) (o:BO):R:=BO.rec (motive:=fun _=>R) a b d o
noncomputable def Ji (F:RF) (call:aW) (fuel:Nat) (c:Code) (s:St):Out:=
 fo (fun r h y=> .ok .normal ⟨dS F s.ts.length r,h,y.ds,y.rc⟩) (fun e r h y=> .ok e ⟨dS F s.ts.length r,h,y.ds,y.rc⟩) (.fail "" none) ((kP E F s.ts.length c).run fuel call (MV F s.ts F.z 0) s.h ⟨s.ds,s.rc⟩)
noncomputable def Jj (call:aW) (fuel:Nat) (c:Code) (s:St):Out:=
 bc (Nat.ble s.ts.length 64) (Ji E rf2 call fuel c s) (bc (Nat.ble s.ts.length 512) (Ji E rf3 call fuel c s) (.fail "" none))
noncomputable def yY (call:aW) (fuel:Nat) (l:Nat) (args:List AV) (h:au):gY:=match h.get l with
 | some (.loop _ _ ts ps as_ bd _)=>if args.length=ps.length then
  match Jj E call fuel as_ {ts:=(ps.zip args).foldl (fun ts x=>ts.set x.1 x.2) ts,h,ds:=[],rc:= .pT l} with
  | .ok .normal s1=>match s1.h.get l with
    | some (.loop .ready pd RA M8 MK RB RD)=>
      match Jj E call fuel bd {s1 with h:=s1.h.put l (some (.loop .busy pd RA M8 MK RB RD))} with
      | .ok .normal s2=>xy l none s2
      | .ok .ret s2=>xy l (some .ret) s2
      | .ok (.exit id) s2=>xy l (some (.exit id)) s2
      | .ok (.panic v) s2=>if s2.ds.isEmpty then .panic v s2.h else .fail "round defers" none
      | .fail why q=> .fail why q
    | _=> .fail "round state" none
  | .ok _ _=> .fail "round assign" none
  | .fail why q=> .fail why q
   else .fail "round args" none
 | _=> .fail "round" none
noncomputable def fV (call:aW) (fuel:Nat) (g:FuncId) (as_:List AV) (h:au) (rc:RC):Option (au×RC):=
 bo (fun res h' y=>bc y.ds.isEmpty (ob none (fun _=>some (h',y.rc)) (res h')) none) (fun _ _ _ _=>none) none ((wH E g).run fuel call as_ h rc)
noncomputable def E2 (call:aW) (fuel:Nat) (p:Option AV) (res:au→Option (List AV)) (h:au) (ds:List nw):gY:=match cn (fV E call fuel) ds p h with
 | none=> .fail "unwind" none
 | some (some v,h')=> .panic v h'
 | some (none,h')=>ob (.fail "results" none) (fun vs=> .ret (eW vs) h') (res h')
noncomputable def fFn {R:Type} (a:FuncId→R) (b:Nat→R) (f:Fn):R:=Fn.rec (motive:=fun _=>R) a b f
noncomputable def E3 {α R:Type} (a b:R) (l:List α):R:=List.rec (motive:=fun _=>R) a (fun _ _ _=>b) l
noncomputable def Z3 (fuel:Nat) (call:aW) (g:Fn) (args:List AV) (h:au):gY:=
 fFn (fun f=>bo (fun res h' y=>E3 (ob (.fail "results" none) (fun vs=> .ret (eW vs) h') (res h')) (E2 E call fuel none res h' y.ds) y.ds)
  (fun v res h' y=>E3 (.panic v h') (E2 E call fuel (some v) res h' y.ds) y.ds) (.fail "body" none) ((wH E f).run fuel call args h .no))
  (fun l=>yY E call fuel l args h) g
noncomputable def wI (d fuel:Nat):aW:=Nat.rec (motive:=fun _=>aW) (fun _ _ _=> .fail "depth" none) (fun _ ih=>Z3 E fuel ih) d
end
end Go.Ab.Fa
end
section
namespace Go.Ab.Fa
theorem SK {α R:Type} {d:R} {f:α→R} {a:α}:ob d f (some a)=f a:=rfl
theorem hI {R:Type} (x y:R):bc true x y=x:=rfl
theorem dj {R:Type} (x y:R):bc false x y=y:=rfl
theorem fD {α β:Type} {f:α→Option β} {o:Option α} {v:β} (h:ob none f o=some v):∃a,o=some a∧f a=some v:=by
 cases o with
 | none=>exact absurd h (by intro e;cases e)
 | some a=>exact ⟨a,rfl,h⟩
theorem eC {β:Type} {b:Bool} {x:Option β} {v:β} (h:bc b x none=some v):b=true∧x=some v:=by
 cases b with
 | false=>cases h
 | true=>exact ⟨rfl,h⟩
theorem oY {β:Type} {b:Bool} {x:Option β} {v:β} (h:bc b none x=some v):b=false∧x=some v:=by
 cases b with
 | false=>exact ⟨rfl,h⟩
 | true=>cases h
theorem Bz {β:Type} {f:Bool→Option β} {a:AV} {v:β} (h:hX f none a=some v):∃b,a= .bool b∧f b=some v:=by
 cases a with
 | bool b=>exact ⟨b,rfl,h⟩
 | _=>exact absurd h (by intro e;cases e)
theorem ia {β:Type} {f:IntKind→Int→Option β} {a:AV} {v:β} (h:mh f none a=some v):∃k n,a= .int k n∧f k n=some v:=by
 cases a with
 | int k n=>exact ⟨k,n,rfl,h⟩
 | _=>exact absurd h (by intro e;cases e)
theorem ml {β:Type} {f:List UInt8→Option β} {a:AV} {v:β} (h:oS f none a=some v):∃s,a= .str s∧f s=some v:=by
 cases a with
 | str s=>exact ⟨s,rfl,h⟩
 | _=>exact absurd h (by intro e;cases e)
theorem qv {β:Type} {f:Nat→Nat→Option β} {a:AV} {v:β} (h:vF f none a=some v):∃i o,a= .ptr i o∧f i o=some v:=by
 cases a with
 | ptr i o=>exact ⟨i,o,rfl,h⟩
 | _=>exact absurd h (by intro e;cases e)
theorem mn {β:Type} {e:Option β} {f:Nat→Nat→Nat→Nat→Bool→Option β} {a:AV} {v:β} (h:hZ e f none a=some v):
 (a= .aI∧e=some v)∨∃i o l c b,a= .slice i o l c b∧f i o l c b=some v:=by
 cases a with
 | aI=>exact .inl ⟨rfl,h⟩
 | slice i o l c b=>exact .inr ⟨i,o,l,c,b,rfl,h⟩
 | _=>exact absurd h (by intro e;cases e)
theorem E4 {β:Type} {e z:Option β} {f:Nat→Nat→Nat→Nat→Bool→Option β} {a:AV} {v:β} (h:hZ e f (vZ z none a) a=some v):
 (a= .aI∧e=some v)∨(∃i o l c b,a= .slice i o l c b∧f i o l c b=some v)∨(a= .dG∧z=some v):=by
 cases a with
 | aI=>exact .inl ⟨rfl,h⟩
 | slice i o l c b=>exact .inr (.inl ⟨i,o,l,c,b,rfl,h⟩)
 | dG=>exact .inr (.inr ⟨rfl,h⟩)
 | _=>exact absurd h (by intro e;cases e)
theorem mo {β:Type} {f:Nat→Option β} {n:Int} {v:β} (h:jm f none n=some v):∃m:Nat,n=(m:Int)∧f m=some v:=by
 cases n with
 | ofNat m=>exact ⟨m,rfl,h⟩
 | negSucc m=>cases h
theorem oZ {β:Type} {f:List AV→TypeId→Bool→Option β} {o:aR} {v:β} (h:vH f none o=some v):∃cs e ro,o= .cells cs e ro∧f cs e ro=some v:=by
 cases o with
 | cells cs e ro=>exact ⟨cs,e,ro,rfl,h⟩
 | _=>exact absurd h (by intro e;cases e)
theorem eD {a b:Nat} (h:Nat.ble a b=true):a≤b:=Nat.le_of_ble_eq_true h
theorem iR {a b:Nat} (h:Nat.ble a b=false):b<a:=by
 apply Decidable.byContradiction;intro hn
 rw[Nat.ble_eq_true_of_le (by omega)] at h;cases h
theorem km {a b:Nat} (h:Nat.beq a b=true):a=b:=Nat.eq_of_beq_eq_true h
theorem Jk {k j:IntKind} (h:NT k j=true):k=j:=by
 cases k<;>cases j<;>first | rfl | exact absurd h (by intro e;cases e)
theorem uf (b:Bool):s_ b= !b:=by cases b<;>rfl
theorem Ob {k:IntKind} (h:U2 k=false) (n:Int):k.wrap n=n%(r5 k:Int):=by
 cases k<;>first | (cases h;done) | simp [IntKind.wrap,IntKind.bits,IntKind.signed,r5,Ww]
theorem Oc {k:IntKind} (h:U2 k=true) {m:Nat} (hm:m<r5 k):k.wrap (Int.negSucc m)=Int.negSucc m:=by
 have hb:(2^(k.bits - 1):Int)=(r5 k:Int)∧(2^k.bits:Int)=2*(r5 k:Int)∧k.signed=true:=by
  cases k<;>first | (cases h;done) | (refine ⟨rfl,rfl,rfl⟩)
 obtain ⟨h1,h2,h3⟩:=hb
 unfold IntKind.wrap
 rw[h1,h2,h3,Int.negSucc_eq]
 generalize r5 k=B at *
 have e: -((m:Int)+1)%(2*(B:Int))=2*(B:Int) -(m+1):=by
  rw[←Int.add_emod_right]
  exact Int.emod_eq_of_lt (by omega) (by omega)
 rw[e]
 simp only[Bool.true_and,decide_eq_true_eq]
 rw[if_pos (by omega)]
 omega
theorem mq (k:IntKind) (n:Int):sv k n=k.wrap n:=by
 cases n with
 | ofNat m=>
   show bc (Nat.ble (r5 k) m) (bc (U2 k) (k.wrap (Int.ofNat m)) (Int.ofNat (Nat.mod m (r5 k)))) (Int.ofNat m)=_
   cases h:Nat.ble (r5 k) m
   · have h:=iR h
     rw[dj]
     cases k<;>simp [IntKind.wrap,IntKind.bits,IntKind.signed]<;>simp only[r5,Ww] at h<;>omega
   · rw[hI]
     cases hs:U2 k
     · rw[dj,Ob hs];rfl
     · rw[hI]
 | negSucc m=>
   show bc (U2 k) (bc (Nat.ble (r5 k) m) (k.wrap (Int.negSucc m)) (Int.negSucc m)) (k.wrap (Int.negSucc m))=_
   cases hs:U2 k
   · rw[dj]
   · rw[hI]
     cases h:Nat.ble (r5 k) m
     · have h:=iR h
       rw[dj]
       exact (Oc hs h).symm
     · rw[hI]
theorem SL (a b:Int):oU a b=a+b:=by
 cases a<;>cases b<;>rfl
theorem SM (a b:Int):CU a b=a - b:=by
 cases a with
 | negSucc x=>rfl
 | ofNat x=>
   cases b with
   | negSucc y=>rfl
   | ofNat y=>
     show bc (Nat.ble y x) (Int.ofNat (x - y)) (Int.negSucc (y - x - 1))=_
     cases h:Nat.ble y x
     · have h:=iR h
       rw[dj,Int.negSucc_eq];simp only[Int.ofNat_eq_natCast];omega
     · have h:=eD h
       rw[hI];simp only[Int.ofNat_eq_natCast];omega
theorem Jl (a b:Int):NV a b=a*b:=by
 cases a<;>cases b<;>rfl
theorem Hu (a b:Int):U3 a b=(a==b):=by
 have:U3 a b=decide (a=b):=by
  cases a with
  | ofNat x=>cases b with
    | ofNat y=>
      show Nat.beq x y=_
      rw[←xF]
      by_cases h:x=y
      · subst h;simp
      · rw[show (x==y)=false by simp [h]];symm;apply decide_eq_false;simp only[Int.ofNat_eq_natCast];omega
    | negSucc y=>simp;rfl
  | negSucc x=>cases b with
    | ofNat y=>simp;rfl
    | negSucc y=>
      show Nat.beq x y=_
      rw[←xF]
      by_cases h:x=y
      · subst h;simp
      · simp [h]
 rw[this];rfl
theorem C6 (a b:Int):Sx a b=decide (a<b):=by
 cases a with
 | ofNat x=>cases b with
   | ofNat y=>
     show Nat.ble (x+1) y=_
     rw[←rH];simp only[Int.ofNat_eq_natCast];congr 1;apply propext;omega
   | negSucc y=>
     symm;exact decide_eq_false (by rw[Int.negSucc_eq];simp only[Int.ofNat_eq_natCast];omega)
 | negSucc x=>cases b with
   | ofNat y=>
     symm;exact decide_eq_true (by rw[Int.negSucc_eq];simp only[Int.ofNat_eq_natCast];omega)
   | negSucc y=>
     show Nat.ble (y+1) x=_
     rw[←rH];congr 1;apply propext;rw[Int.negSucc_eq,Int.negSucc_eq];omega
theorem yZ (a b:Int):(!decide (a<b))=decide (b≤a):=by
 by_cases h:a<b
 · rw[decide_eq_true h,decide_eq_false (by omega)];rfl
 · rw[decide_eq_false h,decide_eq_true (by omega)];rfl
theorem SN (k:IntKind) {x:Nat} (h:x<r5 k):x<2^k.bits:=by
 cases k<;>simp only[r5,Ww,IntKind.bits] at * <;>omega
theorem Jm (k:IntKind) {x:Nat} (h:x<r5 k):k.wrap (x:Int)=x:=by
 have:=mq k (Int.ofNat x)
 rw[Int.ofNat_eq_natCast] at this
 rw[←this]
 show bc (Nat.ble (r5 k) x) _ (Int.ofNat x)=_
 rw[lY h];rfl
theorem SO (k:IntKind):∃m,r5 k=2^m:=by
 cases k
 · exact ⟨7,rfl⟩
 · exact ⟨15,rfl⟩
 · exact ⟨31,rfl⟩
 · exact ⟨63,rfl⟩
 · exact ⟨8,rfl⟩
 · exact ⟨16,rfl⟩
 · exact ⟨32,rfl⟩
 · exact ⟨64,rfl⟩
theorem toNat_ofInt (k:IntKind) {x:Nat} (h:x<r5 k):(BitVec.ofInt k.bits (Int.ofNat x)).toNat=x:=by
 rw[Int.ofNat_eq_natCast,BitVec.ofInt_natCast,BitVec.toNat_ofNat]
 exact Nat.mod_eq_of_lt (SN k h)
theorem SP (op:BinOp) (k:IntKind) (a b:Int) {v:AV} (h:Sy op k a b=some v):cF op k a b=some v:=by
 cases op<;>simp only[Sy] at h<;>try exact h
 · simpa [cF,mq,SL] using h
 · simpa [cF,mq,SM] using h
 · simpa [cF,mq,Jl] using h
 · cases a with
   | negSucc x=>exact h
   | ofNat x=>cases b with
     | negSucc y=>exact h
     | ofNat y=>
       obtain ⟨h1,h2⟩:=oY h
       rw[mq] at h2
       have:y≠0:=by intro e;subst e;cases h1
       rw[←h2];simp [cF,this];exact congrArg k.wrap (Int.natCast_ediv x y).symm
 · cases a with
   | negSucc x=>exact h
   | ofNat x=>cases b with
     | negSucc y=>exact h
     | ofNat y=>
       obtain ⟨h1,h2⟩:=oY h
       have:y≠0:=by intro e;subst e;cases h1
       rw[←h2];simp [cF,this];rfl
 · cases a with
   | negSucc x=>exact h
   | ofNat x=>cases b with
     | negSucc y=>exact h
     | ofNat y=>
       change bc (Nat.ble (r5 k) x) _ (bc (Nat.ble (r5 k) y) _ _)=_ at h
       cases h1:Nat.ble (r5 k) x with
       | true=>rw[h1] at h;exact h
       | false=>cases h2:Nat.ble (r5 k) y with
         | true=>rw[h1,h2] at h;exact h
         | false=>
           rw[h1,h2] at h
           have h1:=iR h1;have h2:=iR h2
           rw[←h,dj,dj]
           show some (AV.int k (k.wrap ((BitVec.ofInt k.bits (Int.ofNat x)&&& BitVec.ofInt k.bits (Int.ofNat y)).toNat:Int)))=_
           rw[BitVec.toNat_and,toNat_ofInt k h1,toNat_ofInt k h2,Jm k (Nat.lt_of_le_of_lt Nat.and_le_left h1)]
           rfl
 · cases a with
   | negSucc x=>exact h
   | ofNat x=>cases b with
     | negSucc y=>exact h
     | ofNat y=>
       change bc (Nat.ble (r5 k) x) _ (bc (Nat.ble (r5 k) y) _ _)=_ at h
       cases h1:Nat.ble (r5 k) x with
       | true=>rw[h1] at h;exact h
       | false=>cases h2:Nat.ble (r5 k) y with
         | true=>rw[h1,h2] at h;exact h
         | false=>
           rw[h1,h2] at h
           have h1:=iR h1;have h2:=iR h2
           rw[←h,dj,dj]
           show some (AV.int k (k.wrap ((BitVec.ofInt k.bits (Int.ofNat x)||| BitVec.ofInt k.bits (Int.ofNat y)).toNat:Int)))=_
           rw[BitVec.toNat_or,toNat_ofInt k h1,toNat_ofInt k h2,Jm k]
           · rfl
           · obtain ⟨m,hm⟩:=SO k
             rw[hm] at h1 h2 ⊢
             exact Nat.or_lt_two_pow h1 h2
 · simpa [cF,Hu] using h
 · simpa [cF,Hu,uf,bne] using h
 · simpa [cF,C6] using h
 · simpa [cF,C6,uf,yZ] using h
 · simpa [cF,C6] using h
 · simpa [cF,C6,uf,yZ] using h
theorem SQ (op:BinOp) (k:IntKind) (a b:Int):(N3 op).f k a b=Sy op k a b:=by
 cases op<;>rfl
theorem Od (k:IntKind):NU k=k.bits:=by cases k<;>rfl
theorem Jn (k:IntKind) (y:Nat):NW k y=min y k.bits:=by
 unfold NW;rw[Od]
 cases h:Nat.ble k.bits y
 · have:=iR h;rw[dj];omega
 · have:=eD h;rw[hI];omega
theorem SU {k:IntKind} {x y:Int} {v:AV} (h:ZU k x y=some v):¬y<0∧v= .int k (k.wrap (x*2^(min y.toNat k.bits))):=by
 obtain ⟨m,rfl,h⟩:=mo h
 refine ⟨by omega,?_⟩
 have h:=Option.some.inj h
 rw[←h,mq,Jl,Jn]
 simp
theorem SV {k:IntKind} {x y:Int} {v:AV} (h:ZV k x y=some v):¬y<0∧v= .int k (x.fdiv (2^(min y.toNat k.bits))):=by
 obtain ⟨m,rfl,h⟩:=mo h
 refine ⟨by omega,?_⟩
 have h:=Option.some.inj h
 rw[←h]
 cases x with
 | negSucc x=>simp [jm]
 | ofNat x=>
   show AV.int k (Int.ofNat (x/2^NW k m))=_
   rw[Jn]
   simp
   rw[show (2^min m k.bits:Int)=((2^min m k.bits:Nat):Int) by simp]
   exact (Int.fdiv_eq_ediv_of_nonneg _ (Int.natCast_nonneg _)).symm
end Go.Ab.Fa
end
section
namespace Go.Ab.Fa
section
variable {α:Type}
theorem od (l:List α) (o:Nat):qo l o=l.drop o:=by
 induction l generalizing o with
 | nil=>simp [qo]
 | cons v tl ih=>
   show bc (Nat.beq o 0) (v::tl) (qo tl (o - 1))=_
   rw[ih]
   cases o with
   | zero=>rfl
   | succ o=>simp [show Nat.beq (o+1) 0=false from rfl,dj]
theorem oe (l:List α) (o:Nat):qp l o=l.take o:=by
 induction l generalizing o with
 | nil=>simp [qp]
 | cons v tl ih=>
   show bc (Nat.beq o 0) [] (v::qp tl (o - 1))=_
   rw[ih]
   cases o with
   | zero=>rfl
   | succ o=>simp [show Nat.beq (o+1) 0=false from rfl,dj]
theorem KQ (vs:List α):∀(cs:List α) (k:Nat),(EO vs cs)[k]? =if k<vs.length∧k<cs.length then vs[k]? else cs[k]? :=by
 induction vs with
 | nil=>intro cs k;rw[if_neg (by simp)];rfl
 | cons v vs ih=>
   intro cs k
   cases cs with
   | nil=>rw[if_neg (by simp)];rfl
   | cons c tl=>
     show (v::EO vs tl)[k]? =_
     cases k with
     | zero=>rw[if_pos (by simp)];rfl
     | succ k=>simp only[List.getElem?_cons_succ,ih,List.length_cons,Nat.add_lt_add_iff_right]
theorem Oe (vs:List α):∀(cs:List α) (o k:Nat),(EP vs cs o)[k]? =if o≤k∧k<o+vs.length∧k<cs.length then vs[k - o]? else cs[k]? :=by
 intro cs
 induction cs with
 | nil=>intro o k;rw[if_neg (by simp)];rfl
 | cons c tl ih=>
   intro o k
   show (bc (Nat.beq o 0) (EO vs (c::tl)) (c::EP vs tl (o - 1)))[k]? =_
   cases o with
   | zero=>
     show (EO vs (c::tl))[k]? =_
     rw[KQ];simp
   | succ o=>
     show (c::EP vs tl o)[k]? =_
     cases k with
     | zero=>rw[if_neg (by omega)];rfl
     | succ k=>
       rw[List.getElem?_cons_succ,ih,List.getElem?_cons_succ,List.length_cons]
       by_cases h:o≤k∧k<o+vs.length∧k<tl.length
       · rw[if_pos h,if_pos (by omega),show k+1 -(o+1)=k - o by omega]
       · rw[if_neg h,if_neg (by omega)]
end
theorem C7 (vs cs:List AV) (o:Nat):EP vs cs o=setFrom cs o vs:=by
 apply List.ext_getElem?;intro k;rw[Oe,dy]
theorem Hv (l m:List UInt8):leq yR l m=(l==m):=by
 have key:∀a b:UInt8,yR a b=(a==b):=by
  intro a b
  unfold yR
  rw[←xF]
  by_cases h:a=b
  · subst h;simp
  · rw[show (a==b)=false by simp [h]]
    rw[beq_eq_false_iff_ne]
    intro e;apply h
    have:a.toNat=b.toNat:=e
    exact UInt8.toNat_inj.mp this
 induction l generalizing m with
 | nil=>cases m<;>rfl
 | cons x tl ih=>
   cases m with
   | nil=>rfl
   | cons y tm=>
     show bc (yR x y) (leq yR tl tm) false=_
     rw[ih,key,mj];rfl
theorem SX (op:BinOp) (a b:List UInt8):(KN op).f a b=sK op a b:=by
 cases op<;>first | rfl | (simp only[KN,sK,Hv,uf])
theorem SY (v:AV):Sz v=AV.scalar v:=by cases v<;>rfl
theorem E5:Sz=AV.scalar:=funext SY
theorem KR (v:AV):CT v=true→(match (some v:Option AV) with
 | some (.ptr i o)=>some (.ptr i o)
 | some (.map i)=>some (.map i)
 | some (.slice i o l c b)=>some (.slice i o l c b)
 | some (.func f a b)=>some (.func f a b)
 | _=>none)=some v:=by
 cases v<;>intro h<;>first | rfl | exact absurd h (by intro e;cases e)
theorem E6 {f:TypeId→AV→vr} {why:String} {o:Option Oper} (a:AV):(∃t v,a= .iface t v)∨oT f (.fail why o) a= .fail why o:=by
 cases a with
 | iface t v=>exact .inl ⟨t,v,rfl⟩
 | _=>exact .inr rfl
theorem ko (v:AV):jM v=v.cells:=by cases v<;>rfl
section
variable (E:Env) (F:RF) (n:Nat)
theorem C8 {β:Type} (i:Nat) (k:(F.T→AV)→β):∃g,wT F n i k=k g∧∀r,(dS F n r).getD i AV.undef=g r:=by
 unfold wT
 cases h:Nat.ble n i
 · refine ⟨(F.get i).f,rfl,fun r=>?_⟩
   rw[EN,if_pos (iR h)]
 · refine ⟨fun _=>AV.undef,rfl,fun r=>?_⟩
   rw[EN,if_neg (by have:=eD h;omega)]
theorem bM {β:Type} (x:Operand) (k:(F.T→AV)→β) (d:β):wO E F n x k d=d∨∃g,wO E F n x k d=k g∧∀r,du E (dS F n r) x=some (g r):=by
 cases x with
 | tmp t=>
   obtain ⟨g,h1,h2⟩:=C8 F n t k
   exact .inr ⟨g,h1,fun r=>by rw[←h2];rfl⟩
 | const v=>
   simp only[wO]
   cases h:ofConst v with
   | none=>exact .inl rfl
   | some a=>exact .inr ⟨fun _=>a,rfl,fun r=>h⟩
 | global g=>
   simp only[wO]
   cases h:Nat.ble E.G g
   · exact .inr ⟨fun _=> .ptr g 0,rfl,fun r=>by rw[du,if_pos (iR h)]⟩
   · exact .inl rfl
 | func f=>exact .inr ⟨fun _=> .func f [] [],rfl,fun r=>rfl⟩
theorem rJ {β:Type}:∀(l:List Operand) (k:(F.T→List AV)→β) (d:β),wL E F n l k d=d∨∃g,wL E F n l k d=k g∧∀r,eQ E (dS F n r) l=some (g r)
 | [],k,d=> .inr ⟨fun _=> [],rfl,fun r=>rfl⟩
 | x::xs,k,d=>by
   rw[wL]
   rcases bM E F n x (fun g=>wL E F n xs (fun gs=>k fun r=>g r::gs r) d) d with h | ⟨g,h,hg⟩
   · exact .inl h
   · rcases rJ xs (fun gs=>k fun r=>g r::gs r) d with h' | ⟨gs,h',hgs⟩
     · exact .inl (h.trans h')
     · refine .inr ⟨_,h.trans h',fun r=>?_⟩
       have:=hgs r
       unfold eQ at *
       rw[dC,hg r];simp only[this]
theorem Jo {β:Type} (o:Option Operand) (k:Option (F.T→AV)→β) (d:β):wP E F n o k d=d∨∃g,wP E F n o k d=k g∧∀r,kJ E (dS F n r) o=some (AU g r):=by
 cases o with
 | none=>exact .inr ⟨none,rfl,fun r=>rfl⟩
 | some x=>
   rcases bM E F n x (fun g=>k (some g)) d with h | ⟨g,h,hg⟩
   · exact .inl h
   · exact .inr ⟨some g,h,fun r=>by rw[kJ,hg r];rfl⟩
theorem za {β:Type}:∀(l:List (Nat×Operand)) (k:(F.T→List (Nat×AV))→β) (d:β),SF E F n l k d=d∨∃g,SF E F n l k d=k g∧∀r,iK E (dS F n r) l=some (g r)
 | [],k,d=> .inr ⟨fun _=> [],rfl,fun r=>rfl⟩
 | (i,x)::xs,k,d=>by
   rw[SF]
   rcases bM E F n x (fun g=>SF E F n xs (fun gs=>k fun r=>(i,g r)::gs r) d) d with h | ⟨g,h,hg⟩
   · exact .inl h
   · rcases za xs (fun gs=>k fun r=>(i,g r)::gs r) d with h' | ⟨gs,h',hgs⟩
     · exact .inl (h.trans h')
     · refine .inr ⟨_,h.trans h',fun r=>?_⟩
       rw[iK,hg r];simp only[hgs r]
theorem Jp {β:Type} (hn:n≤F.N) (o:Option Tmp) (k:(AV→F.T→F.T)→β):∃s,wS F n o k=k s∧∀v r,c_ (dS F n r) o v=dS F n (s v r):=by
 cases o with
 | none=>exact ⟨fun _ r=>r,rfl,fun v r=>rfl⟩
 | some i=>
   show ∃s,bc (Nat.ble n i) (k fun _ r=>r) (wU (F.set i) k)=k s∧_
   cases h:Nat.ble n i
   · exact ⟨(F.set i).f,rfl,fun v r=>Sv F n hn r (iR h) v⟩
   · refine ⟨fun _ r=>r,rfl,fun v r=>?_⟩
     show (dS F n r).set i v=_
     rw[List.set_eq_of_length_le (by rw[gJ];exact eD h)]
theorem mr (t:TypeId):tH E t=bT E t:=by
 unfold tH bT;rw[qt];cases E.P.info? t<;>rfl
theorem Of (t:TypeId):WC E t=eK E t:=by
 unfold WC eK;rw[qt];split
 · rfl
 · cases E.P.info? t<;>rfl
theorem vO (t:TypeId):GI E t=eh E t:=by
 unfold GI eh;rw[qt]
 cases E.P.info? t with
 | none=>rfl
 | some i=>show ob none (fun z=>ofConst z) i.zero=_;cases h:i.zero<;>simp [ob,h]
theorem WE (t:TypeId):agF E t=eA E t:=by
 unfold agF eA;rw[gK];rfl
theorem Og (t:TypeId) (f:Nat):YE E t f=kK E t f:=by
 unfold YE kK;rw[gK]
 generalize E.P.underlying t=u
 cases u with
 | none=>rfl
 | some d=>cases d with
   | struct fs=>show gT fs.toList f=fs[f]?;rw[fK];exact Array.getElem?_toList
   | _=>rfl
def qw (op:Op):Prop:=(∀ts,bk E ts op=none)∧(∀ts h,dh E ts h op=none)∧∀ts,dv E ts op=none
def iS (f g:aW):Prop:=∀F as_ h,(∀v h',f F as_ h= .ret v h'→g F as_ h= .ret v h')∧∀v h',f F as_ h= .panic v h'→g F as_ h= .panic v h'
def U_ (a b:vr):Prop:=match a with
 | .fail _ _=>True
 | a=>b=a
def eS (op:Op):Kd F.T→Prop
 | .D2 g=>∀r,bk E (dS F n r) op=some (g r)
 | .fF f=>∀r v,f r=some v→bk E (dS F n r) op=some v
 | .red f=>∀r h v,f r h=some v→bk E (dS F n r) op=some v∨(bk E (dS F n r) op=none∧dh E (dS F n r) h op=some v)
 | .p_ f=>(∀ts,bk E ts op=none)∧(∀ts h,dh E ts h op=none)∧∀r p,f r=some p→dv E (dS F n r) op=some p
 | .wr f=>qw E op∧∀call r h rc o p,o.op=op→f r h=some p→cI E call (dS F n r) h rc o= .val p.1 p.2
 | .call g args=>qw E op∧∀call r h rc o,o.op=op→cI E call (dS F n r) h rc o=kO (call g (args r) h)
 | .rW f=>qw E op∧∀fc call,iS fc call→∀r h rc o,o.op=op→U_ (f fc r h rc) (cI E call (dS F n r) h rc o)
 | .bad=>True
end
end Go.Ab.Fa
end
section
namespace Go.Ab.Fa
variable {E:Env} {F:RF} {n:Nat}
theorem SZ {op:BinOp} (h1:op≠ .shl) (h2:op≠ .shr) {t:TypeId} {xc yc:Bool} {a b v:AV} (h:SE (N3 op).f (KN op).f (iJ E op t xc yc) a b=some v):iJ E op t xc yc a b=some v:=by
 unfold SE at h
 cases a with
 | int k x=>
   obtain ⟨j,y,rfl,h3⟩:=ia (show mh (fun j y=>bc (NT k j) ((N3 op).f k x y) none) none b=some v from h)
   obtain ⟨hk,h4⟩:=eC h3
   have hk:=Jk hk
   rw[SQ] at h4
   have:=SP op k x y h4
   rw[←hk]
   cases op<;>first | exact absurd rfl h1 | exact absurd rfl h2 | simpa [iJ] using this
 | str s=>
   obtain ⟨s',rfl,h3⟩:=ml (show oS (fun t=>(KN op).f s t) none b=some v from h)
   rw[SX] at h3
   cases op<;>first | exact absurd rfl h1 | exact absurd rfl h2 | simpa [iJ] using h3
 | _=>exact h
theorem S0 (op:BinOp) (t:TypeId) (x y:Operand) (yt:TypeId) (gx gy:F.T→AV) (hx:∀r,du E (dS F n r) x=some (gx r)) (hy:∀r,du E (dS F n r) y=some (gy r)):
 eS E F n (.binOp op t x y yt) (bU op (iJ E op t (isConst x) (isConst y)) gx gy):=by
 have red:∀r,bk E (dS F n r) (.binOp op t x y yt)=iJ E op t (isConst x) (isConst y) (gx r) (gy r):=by
  intro r;simp only[bk,hx,hy]
 by_cases h1:op= .shl
 · subst h1
   intro r v h
   rw[red]
   obtain ⟨k,m,e1,h⟩:=ia h
   obtain ⟨k',m',e2,h⟩:=ia h
   obtain ⟨h3,rfl⟩:=SU h
   rw[e1,e2];simp [iJ,h3]
 by_cases h2:op= .shr
 · subst h2
   intro r v h
   rw[red]
   obtain ⟨k,m,e1,h⟩:=ia h
   obtain ⟨k',m',e2,h⟩:=ia h
   obtain ⟨h3,rfl⟩:=SV h
   rw[e1,e2];simp [iJ,h3]
 have:bU op (iJ E op t (isConst x) (isConst y)) gx gy= .fF fun r=>SE (N3 op).f (KN op).f (iJ E op t (isConst x) (isConst y)) (gx r) (gy r):=by
  cases op<;>first | exact absurd rfl h1 | exact absurd rfl h2 | rfl
 rw[this]
 intro r v h
 rw[red]
 exact SZ h1 h2 h
theorem WG (op:UnOp) (t:TypeId) (x:Operand) (g:F.T→AV) (hg:∀r,du E (dS F n r) x=some (g r)):eS E F n (.unOp op t x) (ZW op g):=by
 have red:∀r,bk E (dS F n r) (.unOp op t x)=Ys op (g r):=by intro r;simp only[bk,hg]
 cases op with
 | not=>
   intro r v h
   rw[red]
   obtain ⟨b,e,h⟩:=Bz h
   rw[e,←h,uf];rfl
 | _=>intro r v h;rw[red];exact h
theorem Oh {t:TypeId} {m:Nat} (h1:eA E t=some true) (h2:bT E t=some m) {cs:List AV} {o:Nat} {v:AV} (h:N5 m cs o=some v):fU E t cs o=some v:=by
 unfold N5 at h
 obtain ⟨h3,h⟩:=eC h
 have h3:=eD h3
 rw[eL] at h3
 unfold fU
 rw[h1,h2]
 simp only
 rw[if_pos (show o+m≤cs.length from h3),←h,oe,od]
theorem Oi {t:TypeId} (h1:eA E t=some false) {cs:List AV} {o:Nat} {v:AV} (h:N4 cs o=some v):fU E t cs o=some v:=by
 unfold N4 at h
 rw[fK] at h
 unfold fU
 rw[h1];exact h
theorem zb {T:Type} (t:TypeId) (k:(List AV→Nat→Option AV)→Kd T):ue E t k= .bad∨∃p,ue E t k=k p∧∀cs o v,p cs o=some v→fU E t cs o=some v:=by
 unfold ue
 rw[WE]
 cases h:eA E t with
 | none=>exact .inl rfl
 | some b=>cases b with
   | false=>exact .inr ⟨_,rfl,fun cs o v=>Oi h⟩
   | true=>
     simp only
     rw[mr]
     cases h2:bT E t with
     | none=>exact .inl rfl
     | some m=>exact .inr ⟨_,rfl,fun cs o v=>Oh h h2⟩
theorem Oj {t:TypeId} {p:List AV→Nat→Option AV} (hp:∀cs o v,p cs o=some v→fU E t cs o=some v) {h:au} {a v:AV} (e:EZ p h a=some v):bw E h t a=some v:=by
 obtain ⟨i,o,rfl,e⟩:=qv e
 obtain ⟨obj,e1,e⟩:=fD e
 obtain ⟨cs,el,ro,rfl,e⟩:=oZ e
 simp only[bw,e1]
 exact hp _ _ _ e
theorem S1 (t:TypeId) (a:Operand):eS E F n (.load t a) (wO E F n a (fun g=>ue E t fun p=> .red fun r h=>EZ p h (g r)) .bad):=by
 rcases bM E F n a (fun g=>ue E t fun p=>(.red fun r h=>EZ p h (g r):Kd F.T)) .bad with h | ⟨g,h,hg⟩<;>rw[h]
 · trivial
 · rcases zb (E:=E) t (fun p=>(.red fun r h=>EZ p h (g r):Kd F.T)) with h | ⟨p,h,hp⟩<;>rw[h]
   · trivial
   · intro r h v e
     refine .inr ⟨rfl,?_⟩
     simp only[dh,hg]
     exact Oj hp e
theorem Ol (s:TypeId) (x:Operand) (f:Nat):eS E F n (.field s x f) (match YE E s f with
 | some fd=>wO E F n x (fun g=>ue E fd.type fun p=> .fF fun r=>vG (fun cs=>p cs fd.offset) (fun _=>none) none (g r)) .bad
 | none=> .bad):=by
 rw[Og]
 cases h0:kK E s f with
 | none=>trivial
 | some fd=>
   simp only
   rcases bM E F n x (fun g=>ue E fd.type fun p=>(.fF fun r=>vG (fun cs=>p cs fd.offset) (fun _=>none) none (g r):Kd F.T)) .bad with h | ⟨g,h,hg⟩<;>rw[h]
   · trivial
   · rcases zb (E:=E) fd.type (fun p=>(.fF fun r=>vG (fun cs=>p cs fd.offset) (fun _=>none) none (g r):Kd F.T)) with h | ⟨p,h,hp⟩<;>rw[h]
     · trivial
     · intro r v e
       change vG (fun cs=>p cs fd.offset) (fun _=>none) none (g r)=some v at e
       simp only[bk,h0,hg]
       cases hv:g r with
       | agg cs=>rw[hv] at e;exact hp _ _ _ e
       | _=>rw[hv] at e;exact absurd e (by intro e;cases e)
theorem C9 (s:TypeId) (x:Operand) (f:Nat):eS E F n (.fieldAddr s x f) (match YE E s f with
 | some fd=>match tH E fd.type with
   | some (_+1)=>wO E F n x (fun g=> .fF fun r=>vF (fun i o=>some (.ptr i (Nat.add o fd.offset))) none (g r)) .bad
   | _=> .bad
 | none=> .bad):=by
 rw[Og]
 cases h0:kK E s f with
 | none=>trivial
 | some fd=>
   simp only
   rw[mr]
   cases h1:bT E fd.type with
   | none=>trivial
   | some m=>cases m with
     | zero=>trivial
     | succ m=>
       simp only
       rcases bM E F n x (fun g=>(.fF fun r=>vF (fun i o=>some (.ptr i (Nat.add o fd.offset))) none (g r):Kd F.T)) .bad with h | ⟨g,h,hg⟩<;>rw[h]
       · trivial
       · intro r v e
         obtain ⟨i,o,e1,e⟩:=qv e
         simp only[bk,h0,hg,e1,h1]
         rw[if_neg (by omega)];exact e
theorem E7 (x:Operand):eS E F n (.nilCheck x) (wO E F n x (fun g=> .fF fun r=>bc (CT (g r)) (some (g r)) none) .bad):=by
 rcases bM E F n x (fun g=>(.fF fun r=>bc (CT (g r)) (some (g r)) none:Kd F.T)) .bad with h | ⟨g,h,hg⟩<;>rw[h]
 · trivial
 · intro r v e
   obtain ⟨h1,e⟩:=eC e
   simp only[bk,hg]
   rw[←e]
   exact KR _ h1
theorem Hw (x:Operand) (i:Nat):eS E F n (.extract x i) (wO E F n x (fun g=> .fF fun r=>vG (fun _=>none) (fun vs=>gT vs i) none (g r)) .bad):=by
 rcases bM E F n x (fun g=>(.fF fun r=>vG (fun _=>none) (fun vs=>gT vs i) none (g r):Kd F.T)) .bad with h | ⟨g,h,hg⟩<;>rw[h]
 · trivial
 · intro r v e
   change vG (fun _=>none) (fun vs=>gT vs i) none (g r)=some v at e
   simp only[bk,hg]
   cases hv:g r with
   | tuple cs=>rw[hv] at e;show cs[i]? =some v;rw[←fK];exact e
   | _=>rw[hv] at e;exact absurd e (by intro e;cases e)
theorem S2 (c a b:Operand):eS E F n (.pick c a b) (wO E F n c (fun gc=>wO E F n a (fun ga=>wO E F n b (fun gb=> .fF fun r=>hX (fun t=>bc t (some (ga r)) (some (gb r))) none (gc r)) .bad) .bad) .bad):=by
 rcases bM E F n c (fun gc=>wO E F n a (fun ga=>wO E F n b (fun gb=>(.fF fun r=>hX (fun t=>bc t (some (ga r)) (some (gb r))) none (gc r):Kd F.T)) .bad) .bad) .bad with h | ⟨gc,h,hc⟩<;>rw[h]
 · trivial
 rcases bM E F n a (fun ga=>wO E F n b (fun gb=>(.fF fun r=>hX (fun t=>bc t (some (ga r)) (some (gb r))) none (gc r):Kd F.T)) .bad) .bad with h | ⟨ga,h,ha⟩<;>rw[h]
 · trivial
 rcases bM E F n b (fun gb=>(.fF fun r=>hX (fun t=>bc t (some (ga r)) (some (gb r))) none (gc r):Kd F.T)) .bad with h | ⟨gb,h,hb⟩<;>rw[h]
 · trivial
 intro r v e
 obtain ⟨t,e1,e⟩:=Bz e
 simp only[bk,hc,e1]
 cases t
 · simp only[hb];exact e
 · simp only[ha];exact e
theorem Jq {len size i o:Nat} {ix v:AV} (e:C3 len size i o ix=some v):∃k m,ix= .int k m∧0≤m∧m<len∧v= .ptr i (o+m.toNat*size):=by
 obtain ⟨k,m,rfl,e⟩:=ia e
 obtain ⟨m',rfl,e⟩:=mo e
 obtain ⟨h1,e⟩:=oY e
 have h1:=iR h1
 exact ⟨k,m',rfl,by omega,by omega,(Option.some.inj e).symm⟩
theorem C_ (t:TypeId) (x ix:Operand):eS E F n (.indexAddr t x ix) (wO E F n x (fun gx=>wO E F n ix (fun gi=>match iC E.P t with
 | some (.array len elem)=>match tH E elem with
   | some size=> .fF fun r=>vF (fun i o=>C3 len size i o (gi r)) none (gx r)
   | none=> .bad
 | some (.slice elem)=>match tH E elem with
   | some size=> .fF fun r=>hZ none (fun i o len _ _=>C3 len size i o (gi r)) none (gx r)
   | none=> .bad
 | _=> .bad) .bad) .bad):=by
 rw[gK]
 rcases bM E F n x (fun gx=>wO E F n ix (fun gi=>match E.P.underlying t with
  | some (.array len elem)=>match tH E elem with
    | some size=>(.fF fun r=>vF (fun i o=>C3 len size i o (gi r)) none (gx r):Kd F.T)
    | none=> .bad
  | some (.slice elem)=>match tH E elem with
    | some size=> .fF fun r=>hZ none (fun i o len _ _=>C3 len size i o (gi r)) none (gx r)
    | none=> .bad
  | _=> .bad) .bad) .bad with h | ⟨gx,h,hx⟩<;>rw[h]
 · trivial
 rcases bM E F n ix (fun gi=>match E.P.underlying t with
  | some (.array len elem)=>match tH E elem with
    | some size=>(.fF fun r=>vF (fun i o=>C3 len size i o (gi r)) none (gx r):Kd F.T)
    | none=> .bad
  | some (.slice elem)=>match tH E elem with
    | some size=> .fF fun r=>hZ none (fun i o len _ _=>C3 len size i o (gi r)) none (gx r)
    | none=> .bad
  | _=> .bad) .bad with h | ⟨gi,h,hi⟩<;>rw[h]
 · trivial
 cases hu:E.P.underlying t with
 | none=>trivial
 | some d=>cases d with
   | array len elem=>
     simp only
     rw[mr]
     cases hs:bT E elem with
     | none=>trivial
     | some size=>
       intro r v e
       obtain ⟨i,o,e1,e⟩:=qv e
       obtain ⟨k,m,e2,h1,h2,rfl⟩:=Jq e
       simp only[bk,hu,hx,hi,e1,e2,hs]
       rw[if_pos ⟨h1,h2⟩]
   | slice elem=>
     simp only
     rw[mr]
     cases hs:bT E elem with
     | none=>trivial
     | some size=>
       intro r v e
       rcases mn e with ⟨_,e⟩ | ⟨i,o,l,c,b,e1,e⟩
       · cases e
       obtain ⟨k,m,e2,h1,h2,rfl⟩:=Jq e
       simp only[bk,hu,hx,hi,e1,e2,hs]
       rw[if_pos ⟨h1,h2⟩]
   | _=>trivial
theorem Om (t:TypeId) (x ix:Operand):eS E F n (.index t x ix) (wO E F n x (fun gx=>wO E F n ix (fun gi=>match iC E.P t with
 | some .string=> .fF fun r=>oS (fun s=>mh (fun _ i=>jm (fun m=>ob none (fun (b:UInt8)=>some (.int .u8 (Int.ofNat b.toNat))) (gT s m)) none i) none (gi r)) none (gx r)
 | _=> .fF fun r=>bk E (dS F n r) (.index t x ix)) .bad) .bad):=by
 rw[gK]
 rcases bM E F n x (fun gx=>wO E F n ix (fun gi=>match E.P.underlying t with
  | some .string=>(.fF fun r=>oS (fun s=>mh (fun _ i=>jm (fun m=>ob none (fun (b:UInt8)=>some (.int .u8 (Int.ofNat b.toNat))) (gT s m)) none i) none (gi r)) none (gx r):Kd F.T)
  | _=> .fF fun r=>bk E (dS F n r) (.index t x ix)) .bad) .bad with h | ⟨gx,h,hx⟩<;>rw[h]
 · trivial
 rcases bM E F n ix (fun gi=>match E.P.underlying t with
  | some .string=>(.fF fun r=>oS (fun s=>mh (fun _ i=>jm (fun m=>ob none (fun (b:UInt8)=>some (.int .u8 (Int.ofNat b.toNat))) (gT s m)) none i) none (gi r)) none (gx r):Kd F.T)
  | _=> .fF fun r=>bk E (dS F n r) (.index t x ix)) .bad with h | ⟨gi,h,hi⟩<;>rw[h]
 · trivial
 cases hu:E.P.underlying t with
 | none=>intro r v e;exact e
 | some d=>cases d with
   | string=>
     intro r v e
     obtain ⟨s,e1,e⟩:=ml e
     obtain ⟨k,m,e2,e⟩:=ia e
     obtain ⟨m',rfl,e⟩:=mo e
     obtain ⟨b,e3,e⟩:=fD e
     rw[fK] at e3
     simp only[bk,hu,hx,hi,e1,e2]
     rw[if_pos (by omega)]
     rw[show ((m':Int).toNat)=m' from rfl,e3]
     exact e
   | _=>intro r v e;exact e
theorem nf {d y:Nat} {o:Option AV} {k:Nat→Option AV} {v:AV} (e:C4 d y o k=some v):∃m,(match o with | some v=>lV v y | none=>some d)=some m∧k m=some v:=by
 cases o with
 | none=>exact ⟨d,rfl,e⟩
 | some a=>
   obtain ⟨kk,i,rfl,e⟩:=ia (show mh (fun _ i=>jm (fun m=>bc (Nat.ble m y) (k m) none) none i) none a=some v from e)
   obtain ⟨m,rfl,e⟩:=mo e
   obtain ⟨h1,e⟩:=eC e
   have h1:=eD h1
   refine ⟨m,?_,e⟩
   simp only[lV]
   rw[if_pos (by omega)];rfl
theorem rK {len cap h l:Nat} {lo hi:Option AV} (h1:(match hi with | some v=>lV v cap | none=>some len)=some h)
 (h2:(match lo with | some v=>lV v h | none=>some 0)=some l):jf len cap lo hi none=some (l,h,cap):=by
 cases hi with
 | none=>cases lo with
   | none=>cases h1;cases h2;rfl
   | some b=>cases h1;simp only[jf,Option.isSome_none];simp at h2;simp [h2]
 | some a=>cases lo with
   | none=>cases h2;simp only[jf];simp at h1;simp [h1]
   | some b=>simp only[jf];simp at h1 h2;simp [h1,h2]
theorem WH {t elem:TypeId} {size:Nat} (hu:E.P.underlying t=some (.slice elem)) (hs:bT E elem=some size) {lo hi:Option AV} {x v:AV} (e:slF size lo hi x=some v):dW E t x lo hi none=some v:=by
 rcases mn e with ⟨rfl,e1⟩ | ⟨i,o,len,cap,op,rfl,e1⟩
 · obtain ⟨h,h1,e2⟩:=nf e1
   obtain ⟨l,h2,e3⟩:=nf e2
   simp only[dW,hu,rK h1 h2,hs]
   exact e3
 · obtain ⟨h0,e2⟩:=eC e1
   have h0:=eD h0
   obtain ⟨h,h1,e3⟩:=nf e2
   obtain ⟨l,h2,e4⟩:=nf e3
   simp only[dW,hu,rK h1 h2,hs]
   rw[if_pos h0]
   cases h3:Nat.beq cap l
   · rw[h3,dj] at e4
     have:¬cap=l:=by intro ee;rw[ee,Nat.beq_refl] at h3;cases h3
     rw[if_neg this]
     simpa using e4
   · rw[h3,hI] at e4
     rw[if_pos (km h3)]
     cases op
     · rw[dj] at e4;simpa using e4
     · rw[hI] at e4;simpa using e4
theorem WI {t:TypeId} (hu:E.P.underlying t=some .string) {lo hi:Option AV} {x v:AV} (e:slS lo hi x=some v):dW E t x lo hi none=some v:=by
 obtain ⟨s,rfl,e1⟩:=ml e
 obtain ⟨h,h1,e2⟩:=nf e1
 obtain ⟨l,h2,e3⟩:=nf e2
 rw[eL] at h1
 simp only[dW,hu,rK h1 h2]
 rw[←e3,oe,od];rfl
theorem WJ {t elem:TypeId} {m size:Nat} (hu:E.P.underlying t=some (.array m elem)) (hs:bT E elem=some size) {lo hi:Option AV} {x v:AV} (e:slA m size lo hi x=some v):dW E t x lo hi none=some v:=by
 obtain ⟨i,o,rfl,e1⟩:=qv e
 obtain ⟨h,h1,e2⟩:=nf e1
 obtain ⟨l,h2,e3⟩:=nf e2
 simp only[dW,hu,rK h1 h2,hs]
 rw[←Option.some.inj e3]
 cases h3:Nat.beq m l
 · have:¬m=l:=by intro ee;rw[ee,Nat.beq_refl] at h3;cases h3
   rw[if_neg this];rfl
 · rw[if_pos (km h3)];rfl
theorem On (t:TypeId) (x:Operand) (lo hi:Option Operand):eS E F n (.slice t x lo hi none) (wO E F n x (fun gx=>wP E F n lo (fun gl=>wP E F n hi (fun gh=>match iC E.P t with
 | some (.slice elem)=>match tH E elem with
   | some size=> .fF fun r=>slF size (AU gl r) (AU gh r) (gx r)
   | none=> .bad
 | some .string=> .fF fun r=>slS (AU gl r) (AU gh r) (gx r)
 | some (.array m elem)=>match tH E elem with
   | some size=> .fF fun r=>slA m size (AU gl r) (AU gh r) (gx r)
   | none=> .bad
 | _=> .fF fun r=>bk E (dS F n r) (.slice t x lo hi none)) .bad) .bad) .bad):=by
 rw[gK]
 let K:(F.T→AV)→Option (F.T→AV)→Option (F.T→AV)→Kd F.T:=fun gx gl gh=>match E.P.underlying t with
  | some (.slice elem)=>match tH E elem with
    | some size=> .fF fun r=>slF size (AU gl r) (AU gh r) (gx r)
    | none=> .bad
  | some .string=> .fF fun r=>slS (AU gl r) (AU gh r) (gx r)
  | some (.array m elem)=>match tH E elem with
    | some size=> .fF fun r=>slA m size (AU gl r) (AU gh r) (gx r)
    | none=> .bad
  | _=> .fF fun r=>bk E (dS F n r) (.slice t x lo hi none)
 show eS E F n _ (wO E F n x (fun gx=>wP E F n lo (fun gl=>wP E F n hi (fun gh=>K gx gl gh) .bad) .bad) .bad)
 rcases bM E F n x (fun gx=>wP E F n lo (fun gl=>wP E F n hi (fun gh=>K gx gl gh) .bad) .bad) .bad with h | ⟨gx,h,hx⟩<;>rw[h]
 · trivial
 rcases Jo E F n lo (fun gl=>wP E F n hi (fun gh=>K gx gl gh) .bad) .bad with h | ⟨gl,h,hl⟩<;>rw[h]
 · trivial
 rcases Jo E F n hi (fun gh=>K gx gl gh) .bad with h | ⟨gh,h,hh⟩<;>rw[h]
 · trivial
 have red:∀r,bk E (dS F n r) (.slice t x lo hi none)=dW E t (gx r) (AU gl r) (AU gh r) none:=by
  intro r;simp only[bk,hx,hl,hh];rfl
 simp only[K]
 cases hu:E.P.underlying t with
 | none=>intro r v e;exact e
 | some d=>cases d with
   | string=>intro r v e;rw[red];exact WI hu e
   | array m elem=>
     simp only
     rw[mr]
     cases hs:bT E elem with
     | none=>trivial
     | some size=>intro r v e;rw[red];exact WJ hu hs e
   | slice elem=>
     simp only
     rw[mr]
     cases hs:bT E elem with
     | none=>trivial
     | some size=>intro r v e;rw[red];exact WH hu hs e
   | _=>intro r v e;exact e
end Go.Ab.Fa
end
section
namespace Go.Ab.Fa
variable {E:Env} {F:RF} {n:Nat}
theorem KT {t:TypeId} {m:Nat} (hs:bT E t=some m) {h:au} {a v:AV} {p:AV×au} (e:yW m h a v=some p):p.1=AV.undef∧dX E h t a v=some p.2:=by
 obtain ⟨i,o,rfl,e1⟩:=qv e
 obtain ⟨obj,h1,e2⟩:=fD e1
 obtain ⟨cs,el,ro,rfl,e3⟩:=oZ e2
 obtain ⟨h2,e4⟩:=oY e3
 obtain ⟨h3,e5⟩:=eC e4
 obtain ⟨h4,e6⟩:=eC e5
 obtain ⟨h5,e7⟩:=eC e6
 have h3:=km h3
 have h4:=eD h4
 rw[eL,ko] at h3
 rw[eL] at h4
 rw[oV,E5,ko] at h5
 have e8:=Option.some.inj e7
 subst h2
 refine ⟨by rw[←e8],?_⟩
 simp only[dX,h1,hs]
 rw[if_pos ⟨h3,h4,h5⟩,←e8,C7,ko]
theorem E8 {t:TypeId} {a x:Operand}:qw E (.store t a x):=⟨fun _=>rfl,fun _ _=>rfl,fun _=>rfl⟩
theorem Oo (t:TypeId) (a x:Operand):eS E F n (.store t a x) (match tH E t with
 | some m=>wO E F n a (fun ga=>wO E F n x (fun gx=> .wr fun r h=>yW m h (ga r) (gx r)) .bad) .bad
 | none=> .bad):=by
 rw[mr]
 cases hs:bT E t with
 | none=>trivial
 | some m=>
   simp only
   rcases bM E F n a (fun ga=>wO E F n x (fun gx=>(.wr fun r h=>yW m h (ga r) (gx r):Kd F.T)) .bad) .bad with h | ⟨ga,h,ha⟩<;>rw[h]
   · trivial
   rcases bM E F n x (fun gx=>(.wr fun r h=>yW m h (ga r) (gx r):Kd F.T)) .bad with h | ⟨gx,h,hx⟩<;>rw[h]
   · trivial
   refine ⟨E8,fun call r h rc o p ho e=>?_⟩
   obtain ⟨h1,h2⟩:=KT hs e
   simp only[cI,ho,ha,hx,h2,h1]
theorem vP (t:TypeId) (x:Operand):eS E F n (.makeInterface t x) (match iC E.P t with
 | some (.interface _)=> .bad
 | some _=>wO E F n x (fun g=> .D2 fun r=> .iface t (g r)) .bad
 | none=> .bad):=by
 rw[gK]
 cases hu:E.P.underlying t with
 | none=>trivial
 | some d=>
   cases d with
   | interface ms=>trivial
   | _=>
     simp only
     rcases bM E F n x (fun g=>(.D2 fun r=> .iface t (g r):Kd F.T)) .bad with h | ⟨g,h,hg⟩<;>rw[h]
     · trivial
     · intro r;simp only[bk,hu,hg]
theorem E9 (f:FuncId) (a b:Array Operand):eS E F n (.makeFunc (.func f) a b) (wL E F n a.toList (fun ga=>wL E F n b.toList (fun gb=> .D2 fun r=> .func f (ga r) (gb r)) .bad) .bad):=by
 rcases rJ E F n a.toList (fun ga=>wL E F n b.toList (fun gb=>(.D2 fun r=> .func f (ga r) (gb r):Kd F.T)) .bad) .bad with h | ⟨ga,h,ha⟩<;>rw[h]
 · trivial
 rcases rJ E F n b.toList (fun gb=>(.D2 fun r=> .func f (ga r) (gb r):Kd F.T)) .bad with h | ⟨gb,h,hb⟩<;>rw[h]
 · trivial
 intro r;simp only[bk,ha,hb]
theorem Oq (t:TypeId):eS E F n (.alloc t) (match GI E t with
 | some z=> .p_ fun _=>some (.cells z.cells t false,fun i=> .ptr i 0)
 | none=> .bad):=by
 rw[vO]
 cases hz:eh E t with
 | none=>trivial
 | some z=>exact ⟨fun _=>rfl,fun _ _=>rfl,fun r p e=>by simp only[dv,hz];exact e⟩
theorem WK (t:TypeId) (x:Operand):eS E F n (.box t x) (wO E F n x (fun g=> .p_ fun r=>some (.cells (jM (g r)) t false,fun i=> .ptr i 0)) .bad):=by
 rcases bM E F n x (fun g=>(.p_ fun r=>some (.cells (jM (g r)) t false,fun i=> .ptr i 0):Kd F.T)) .bad with h | ⟨g,h,hg⟩<;>rw[h]
 · trivial
 · exact ⟨fun _=>rfl,fun _ _=>rfl,fun r p e=>by simp only[dv,hg];rw[←ko];exact e⟩
theorem AW (t:TypeId) (len:Nat) (parts:Array (Nat×Operand)):eS E F n (.buildSlice t len parts) (match iC E.P t with
 | some (.slice elem)=>match tH E elem,GI E elem with
   | some m,some z=>if z.cells.length=m∧len*m≤2^24 then SF E F n parts.toList (fun gp=> .p_ fun r=>ob none (fun cs=>some (.cells cs elem false,fun i=> .slice i 0 len len false)) (pC (fun i=>some (i*m,m)) (eV z.cells len) (gp r))) .bad else .bad
   | _,_=> .bad
 | _=> .bad):=by
 rw[gK]
 cases hu:E.P.underlying t with
 | none=>trivial
 | some d=>cases d with
   | slice elem=>
     simp only
     rw[mr,vO]
     cases hs:bT E elem with
     | none=>trivial
     | some m=>cases hz:eh E elem with
       | none=>trivial
       | some z=>
         simp only
         by_cases hc:z.cells.length=m∧len*m≤2^24
         · rw[if_pos hc]
           rcases za E F n parts.toList (fun gp=>(.p_ fun r=>ob none (fun cs=>some (.cells cs elem false,fun i=> .slice i 0 len len false)) (pC (fun i=>some (i*m,m)) (eV z.cells len) (gp r)):Kd F.T)) .bad with h | ⟨g,h,hg⟩<;>rw[h]
           · trivial
           · refine ⟨fun _=>rfl,fun _ _=>rfl,fun r p e=>?_⟩
             obtain ⟨cs,h1,e⟩:=fD e
             simp only[dv,hu,hs,hz,hg]
             rw[if_pos hc];simp only[h1];exact e
         · rw[if_neg hc];trivial
   | _=>trivial
theorem S3 (z:List AV) (m:Nat):WD z m=eV z m:=by
 induction m with
 | zero=>rfl
 | succ m ih=>show jF z (WD z m)=_;rw[lK,ih];rfl
theorem Da (t:TypeId) (l c:Operand):eS E F n (.makeSlice t l c) (wO E F n l (fun gl=>wO E F n c (fun gc=>match iC E.P t with
 | some (.slice elem)=>match tH E elem,WC E elem,GI E elem with
   | some m,some bytes,some z=>if z.cells.length=m then .p_ fun r=>SG elem bytes z.cells (gl r) (gc r) else .bad
   | _,_,_=> .bad
 | _=> .bad) .bad) .bad):=by
 rw[gK]
 rcases bM E F n l (fun gl=>wO E F n c (fun gc=>match E.P.underlying t with
  | some (.slice elem)=>match tH E elem,WC E elem,GI E elem with
    | some m,some bytes,some z=>if z.cells.length=m then (.p_ fun r=>SG elem bytes z.cells (gl r) (gc r):Kd F.T) else .bad
    | _,_,_=> .bad
  | _=> .bad) .bad) .bad with h | ⟨gl,h,hl⟩<;>rw[h]
 · trivial
 rcases bM E F n c (fun gc=>match E.P.underlying t with
  | some (.slice elem)=>match tH E elem,WC E elem,GI E elem with
    | some m,some bytes,some z=>if z.cells.length=m then (.p_ fun r=>SG elem bytes z.cells (gl r) (gc r):Kd F.T) else .bad
    | _,_,_=> .bad
  | _=> .bad) .bad with h | ⟨gc,h,hc⟩<;>rw[h]
 · trivial
 cases hu:E.P.underlying t with
 | none=>trivial
 | some d=>cases d with
   | slice elem=>
     simp only
     rw[mr,Of,vO]
     cases hs:bT E elem with
     | none=>trivial
     | some m=>cases hb:eK E elem with
       | none=>trivial
       | some bytes=>cases hz:eh E elem with
         | none=>trivial
         | some z=>
           simp only
           by_cases hm:z.cells.length=m
           · rw[if_pos hm]
             refine ⟨fun _=>rfl,fun _ _=>rfl,fun r p e=>?_⟩
             obtain ⟨k1,a,e1,q1⟩:=ia e
             obtain ⟨k2,b,e2,q2⟩:=ia q1
             obtain ⟨a',rfl,q3⟩:=mo q2
             obtain ⟨b',rfl,q4⟩:=mo q3
             obtain ⟨c1,q5⟩:=eC q4
             obtain ⟨c2,q6⟩:=oY q5
             obtain ⟨c3,q7⟩:=eC q6
             have c1:=eD c1
             have c2:=iR c2
             have c3:bytes*b'≤140737488355328:=eD c3
             simp only[dv,hu,hs,hb,hz,hl,hc,e1,e2]
             rw[if_pos ⟨by omega,by omega,by omega,by have:(bytes:Int)*(b':Int)=((bytes*b':Nat):Int):=by simp
                                                      rw[this];omega,hm⟩]
             rw[←q7,S3];rfl
           · rw[if_neg hm];trivial
   | _=>trivial
theorem E_ (k:List UInt8):∀(l:List fO) (i:Nat) {x:Option AV},findF k l=some x→∃y,pX (.str k) l i=some y∧y.map (·.2)=x
 | [],i,x,h=>⟨none,rfl,by cases h;rfl⟩
 | e::es,i,x,h=>by
   obtain ⟨s,h1,h2⟩:=ml (show oS (fun s=>bc (leq yR k s) (some (some e.val)) (findF k es)) none e.key=some x from h)
   rw[Hv] at h2
   rw[pX,h1]
   show ∃y,(match (some (k==s):Option Bool) with | some true=>some (some (i,e.val)) | some false=>pX (.str k) es (i+1) | none=>none)=some y∧_
   cases hb:k==s with
   | true=>
     rw[hb,hI] at h2
     exact ⟨some (i,e.val),rfl,Option.some.inj h2⟩
   | false=>
     rw[hb,dj] at h2
     exact E_ k es (i+1) h2
noncomputable def Z4 (h:au) (m:AV):Option (List fO):=match m with
 | .dc=>some []
 | .map i=>(match h.get i with | some (.map es _)=>some es | _=>none)
 | _=>none
theorem Ot {z:AV} {ok:Bool} {h:au} {m k v:AV} (e:Ja z ok h m k=some v):
 (∃s,k= .str s)∧∃es,(match m with | .dc=>some [] | .map i=>(match h.get i with | some (.map es _)=>some es | _=>none) | _=>none)=some es∧
  ∃y,pX k es 0=some y∧v=(match y with | some (_,w)=>(if ok then .tuple [w,.bool true] else w) | none=>if ok then .tuple [z,.bool false] else z):=by
 obtain ⟨s,rfl,e1⟩:=ml e
 obtain ⟨es,h1,e2⟩:=fD e1
 obtain ⟨x,h2,e3⟩:=fD e2
 refine ⟨⟨s,rfl⟩,es,?_,?_⟩
 · cases m with
   | dc=>exact h1
   | map i=>
     obtain ⟨o,h3,h4⟩:=fD (show ob none (fun o=>SH (fun es=>some es) none o) (h.get i)=some es from h1)
     simp only[h3]
     cases o with
     | map fj c=>exact h4
     | _=>cases h4
   | _=>cases h1
 · obtain ⟨y,h3,h4⟩:=E_ s es 0 h2
   refine ⟨y,h3,?_⟩
   have e4:=Option.some.inj e3
   rw[←e4,←h4]
   cases y with
   | none=>cases ok<;>rfl
   | some y=>obtain ⟨_,w⟩:=y;cases ok<;>rfl
theorem KU (t:TypeId) (x ix:Operand) (ok:Bool):eS E F n (.lookup t x ix ok) (wO E F n x (fun gx=>wO E F n ix (fun gi=>match iC E.P t with
 | some (.map key elem)=>match iC E.P key,GI E elem with
   | some .string,some z=> .red fun r h=>Ja z ok h (gx r) (gi r)
   | _,_=> .red fun r h=>dh E (dS F n r) h (.lookup t x ix ok)
 | _=> .bad) .bad) .bad):=by
 let K:(F.T→AV)→(F.T→AV)→Kd F.T:=fun gx gi=>match iC E.P t with
  | some (.map key elem)=>match iC E.P key,GI E elem with
    | some .string,some z=> .red fun r h=>Ja z ok h (gx r) (gi r)
    | _,_=> .red fun r h=>dh E (dS F n r) h (.lookup t x ix ok)
  | _=> .bad
 show eS E F n _ (wO E F n x (fun gx=>wO E F n ix (fun gi=>K gx gi) .bad) .bad)
 rcases bM E F n x (fun gx=>wO E F n ix (fun gi=>K gx gi) .bad) .bad with h | ⟨gx,h,hx⟩<;>rw[h]
 · trivial
 rcases bM E F n ix (fun gi=>K gx gi) .bad with h | ⟨gi,h,hi⟩<;>rw[h]
 · trivial
 simp only[K,gK,vO]
 have vM:eS E F n (.lookup t x ix ok) (.red fun r h=>dh E (dS F n r) h (.lookup t x ix ok)):=fun r h v e=> .inr ⟨rfl,e⟩
 cases hu:E.P.underlying t with
 | none=>trivial
 | some d=>cases d with
   | map key elem=>
     simp only
     cases hk:E.P.underlying key with
     | none=>exact vM
     | some kd=>cases kd with
       | string=>cases hz:eh E elem with
         | none=>exact vM
         | some z=>
           intro r h v e
           refine .inr ⟨rfl,?_⟩
           obtain ⟨⟨s,hs⟩,es,h1,y,h2,rfl⟩:=Ot e
           simp only[dh,hu,hx,hi,hk]
           rw[hs] at h2 ⊢
           rw[if_pos (show gH (some TypeDesc.string) (AV.str s)=true from rfl)]
           have h1':Z4 h (gx r)=some es:=h1
           change (match Z4 h (gx r) with
            | none=>none
            | some es=>match pX (AV.str s) es 0 with
              | none=>none
              | some (some (_,v))=>some (if ok then AV.tuple [v,.bool true] else v)
              | some none=>match eh E elem with
                | some z=>some (if ok then AV.tuple [z,.bool false] else z)
                | none=>none)=_
           rw[h1']
           simp only[h2,hz]
           cases y with
           | none=>rfl
           | some y=>obtain ⟨_,w⟩:=y;rfl
       | _=>exact vM
   | _=>trivial
theorem zc:∀(fs:List Field),xZ E fs=placesOf E fs
 | []=>rfl
 | f::fs=>by
   show ob none (fun n=>ob none (fun l=>some ((f.offset,n)::l)) (xZ E fs)) (tH E f.type)=_
   rw[zc fs,mr]
   simp only[placesOf,dC]
   cases bT E f.type with
   | none=>rfl
   | some n=>
     show ob none (fun l=>some ((f.offset,n)::l)) (dC _ fs)=_
     cases dC (fun f=>match bT E f.type with | some n=>some (f.offset,n) | none=>none) fs<;>rfl
theorem E' (ps:List (Nat×Nat)):∀(l:List (Nat×AV)) (cs:List AV) {v:List AV},E0 ps cs l=some v→pC (ps[·]?) cs l=some v
 | [],cs,v,h=>h
 | (i,x)::l,cs,v,h=>by
   obtain ⟨q,h1,h2⟩:=fD (show ob none (fun (q:Nat×Nat)=>bc (Nat.beq (gS (jM x)) q.2) (bc (Nat.ble (q.1+q.2) (gS cs)) (E0 ps (EP (jM x) cs q.1) l) none) none) (gT ps i)=some v from h)
   obtain ⟨h3,h4⟩:=eC h2
   obtain ⟨h5,h6⟩:=eC h4
   have h3:=km h3
   have h5:=eD h5
   rw[eL,ko] at h3
   rw[eL] at h5
   rw[fK] at h1
   rw[pC]
   obtain ⟨off,size⟩:=q
   simp only[h1]
   rw[if_pos ⟨h3,h5⟩,←C7,←ko]
   exact E' ps l _ h6
theorem Ou (t:TypeId) (parts:Array (Nat×Operand)):eS E F n (.build t parts) (match GI E t,iC E.P t with
 | some z,some (.struct fs)=>match xZ E fs.toList with
   | some ps=>SF E F n parts.toList (fun gp=> .fF fun r=>ob none (fun cs=>some (.agg cs)) (E0 ps (jM z) (gp r))) .bad
   | none=> .bad
 | _,_=> .fF fun r=>bk E (dS F n r) (.build t parts)):=by
 have vM:eS E F n (.build t parts) (.fF fun r=>bk E (dS F n r) (.build t parts)):=fun r v e=>e
 rw[gK,vO]
 cases hz:eh E t with
 | none=>exact vM
 | some z=>cases hu:E.P.underlying t with
   | none=>exact vM
   | some d=>cases d with
     | struct fs=>
       simp only
       rw[zc]
       cases hp:placesOf E fs.toList with
       | none=>trivial
       | some ps=>
         simp only
         rcases za E F n parts.toList (fun gp=>(.fF fun r=>ob none (fun cs=>some (.agg cs)) (E0 ps (jM z) (gp r)):Kd F.T)) .bad with h | ⟨g,h,hg⟩<;>rw[h]
         · trivial
         · intro r v e
           obtain ⟨cs,h1,e2⟩:=fD e
           have h1:=E' ps _ _ h1
           rw[ko] at h1
           simp only[bk,hg,Ci,hz,hu,hp,h1]
           exact e2
     | _=>exact vM
theorem Db (t:TypeId) (m k x:Operand):eS E F n (.mapUpdate t m k x) (wO E F n m (fun gm=>wO E F n k (fun gk=>wO E F n x (fun gx=> .wr fun r h=>ob none (fun h'=>some (AV.undef,h')) (dH E h t (gm r) (gk r) (gx r))) .bad) .bad) .bad):=by
 rcases bM E F n m (fun gm=>wO E F n k (fun gk=>wO E F n x (fun gx=>(.wr fun r h=>ob none (fun h'=>some (AV.undef,h')) (dH E h t (gm r) (gk r) (gx r)):Kd F.T)) .bad) .bad) .bad with h | ⟨gm,h,hm⟩<;>rw[h]
 · trivial
 rcases bM E F n k (fun gk=>wO E F n x (fun gx=>(.wr fun r h=>ob none (fun h'=>some (AV.undef,h')) (dH E h t (gm r) (gk r) (gx r)):Kd F.T)) .bad) .bad with h | ⟨gk,h,hk⟩<;>rw[h]
 · trivial
 rcases bM E F n x (fun gx=>(.wr fun r h=>ob none (fun h'=>some (AV.undef,h')) (dH E h t (gm r) (gk r) (gx r)):Kd F.T)) .bad with h | ⟨gx,h,hx⟩<;>rw[h]
 · trivial
 refine ⟨⟨fun _=>rfl,fun _ _=>rfl,fun _=>rfl⟩,fun call r h rc o p ho e=>?_⟩
 obtain ⟨h',h1,e2⟩:=fD e
 have e3:=Option.some.inj e2
 simp only[cI,ho,hm,hk,hx,h1,←e3]
theorem KV (t:TypeId) (m k x:Operand):eS E F n (.insert t m k x) (wO E F n m (fun gm=>wO E F n k (fun gk=>wO E F n x (fun gx=> .wr fun r h=>ob none (fun h'=>some (AV.undef,h')) (dH E h t (gm r) (gk r) (gx r))) .bad) .bad) .bad):=by
 rcases bM E F n m (fun gm=>wO E F n k (fun gk=>wO E F n x (fun gx=>(.wr fun r h=>ob none (fun h'=>some (AV.undef,h')) (dH E h t (gm r) (gk r) (gx r)):Kd F.T)) .bad) .bad) .bad with h | ⟨gm,h,hm⟩<;>rw[h]
 · trivial
 rcases bM E F n k (fun gk=>wO E F n x (fun gx=>(.wr fun r h=>ob none (fun h'=>some (AV.undef,h')) (dH E h t (gm r) (gk r) (gx r)):Kd F.T)) .bad) .bad with h | ⟨gk,h,hk⟩<;>rw[h]
 · trivial
 rcases bM E F n x (fun gx=>(.wr fun r h=>ob none (fun h'=>some (AV.undef,h')) (dH E h t (gm r) (gk r) (gx r)):Kd F.T)) .bad with h | ⟨gx,h,hx⟩<;>rw[h]
 · trivial
 refine ⟨⟨fun _=>rfl,fun _ _=>rfl,fun _=>rfl⟩,fun call r h rc o p ho e=>?_⟩
 obtain ⟨h',h1,e2⟩:=fD e
 have e3:=Option.some.inj e2
 simp only[cI,ho,hm,hk,hx,h1,←e3]
theorem S4 (it:Operand) (s:Bool):eS E F n (.next it s) (wO E F n it (fun g=> .wr fun r h=>Be h (g r) s) .bad):=by
 rcases bM E F n it (fun g=>(.wr fun r h=>Be h (g r) s:Kd F.T)) .bad with h | ⟨g,h,hg⟩<;>rw[h]
 · trivial
 refine ⟨⟨fun _=>rfl,fun _ _=>rfl,fun _=>rfl⟩,fun call r h rc o p ho e=>?_⟩
 simp only[cI,ho,hg,e]
theorem Ov (x:Operand):eS E F n (.panic x) (wO E F n x (fun g=> .rW fun _ r h _=>oT (fun t w=> .panic (.iface t w) h) (.fail "" none) (g r)) .bad):=by
 rcases bM E F n x (fun g=>(.rW fun _ r h _=>oT (fun t w=> .panic (.iface t w) h) (.fail "" none) (g r):Kd F.T)) .bad with h | ⟨g,h,hg⟩<;>rw[h]
 · trivial
 refine ⟨⟨fun _=>rfl,fun _ _=>rfl,fun _=>rfl⟩,fun fc call _ r h rc o ho=>?_⟩
 rcases E6 (f:=fun t w=>vr.panic (.iface t w) h) (why:= "") (o:=none) (g r) with ⟨t,w,e⟩ | e
 · simp only[cI,ho,hg,e];rfl
 · show U_ (oT _ _ _) _
   rw[e];trivial
theorem Ow (c:Call):eS E F n (.defer c) (.rW fun _ r _ rc=>match rc,callee E (dS F n r) c with
 | .pT _,_=> .fail "" none
 | _,some (.fn f,args)=> .defer (.call f args)
 | _,_=> .fail "" none):=by
 refine ⟨⟨fun _=>rfl,fun _ _=>rfl,fun _=>rfl⟩,fun fc call _ r h rc o ho=>?_⟩
 simp only[cI,ho]
 cases rc with
 | pT l=>trivial
 | _=>cases hc:callee E (dS F n r) c with
   | none=>trivial
   | some p=>obtain ⟨f,args⟩:=p;cases f<;>first | trivial | rfl
theorem Hx (src dst:TypeId) (x:Operand):eS E F n (.convert src dst x) (wO E F n x (Jb E src dst) .bad):=by
 rcases bM E F n x (Jb E src dst) (.bad:Kd F.T) with h | ⟨g,h,hg⟩<;>rw[h]
 · trivial
 unfold Jb
 simp only[gK]
 cases hs:E.P.underlying src with
 | none=>trivial
 | some ds=>cases hd:E.P.underlying dst with
   | none=>cases ds<;>trivial
   | some dd=>
     cases ds<;>cases dd<;>try trivial
     case int.int k k'=>
      intro r v e
      obtain ⟨j,m,e1,e2⟩:=ia e
      simp only[bk,hs,hd,hg,e1]
      rw[←mq];exact e2
     case string.string=>
      intro r v e
      obtain ⟨s,e1,e2⟩:=ml e
      simp only[bk,hs,hd,hg,e1];exact e2
     case string.slice e=>
      refine ⟨⟨fun _=>by simp only[bk,hs,hd],fun _ _=>by simp only[dh,hs,hd],fun _=>rfl⟩,fun call r h rc o p ho e=>?_⟩
      simp only[cI,ho,hg,e]
     case slice.string el=>
      simp only
      cases he:E.P.underlying el with
      | none=>trivial
      | some de=>
        cases de<;>try trivial
        rename_i k
        cases k<;>try trivial
        intro r h v e
        rcases mn e with ⟨e1,e2⟩ | ⟨i,o,l,c,b,e1,e2⟩
        · refine .inr ⟨by simp only[bk,hs,hd,hg,e1],?_⟩
          simp only[dh,hs,hd,hg,he]
          simp only[e1];exact e2
        · refine .inr ⟨by simp only[bk,hs,hd,hg,e1],?_⟩
          simp only[dh,hs,hd,hg,he]
          simp only[e1]
          obtain ⟨l',h1,e3⟩:=fD e2
          simp only[h1];exact e3
end Go.Ab.Fa
end
