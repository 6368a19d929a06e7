import Derived.Test.YtaglmdbkfcpbbaaGreatA4
import Derived.Test.YtaglmdbkfcpbbaaGreatA0
set_option linter.unusedVariables false
set_option linter.unusedSimpArgs false
section
namespace Go.Ab.Fa
structure W (α:Type) where
 f:α
section
variable {α β T:Type}
noncomputable def wW (w:W α) (k:α→β):β:=W.rec (motive:=fun _=>β) k w
noncomputable def wA (a:Acc T) (k:(T→AV)→β):β:=Acc.rec (motive:=fun _=>β) k a
noncomputable def wU (a:Sp T) (k:(AV→T→T)→β):β:=Sp.rec (motive:=fun _=>β) k a
end
structure Y where
 ds:List pf
 rc:RC
inductive FO (T:Type) where
 | CZ (r:T) (h:ar) (y:Y)
 | jmp (e:j8) (r:T) (h:ar) (y:Y)
 | bad
structure I (T:Type) where
 run:bx→T→ar→Y→FO T
structure C (T:Type) where
 run:Nat→bx→T→ar→Y→FO T
inductive Kd (T:Type) where
 | Cd (f:T→AV)
 | gR (f:T→Option AV)
 | red (f:T→ar→Option AV)
 | qz (f:T→Option (aH×(Nat→AV)))
 | wr (f:T→ar→Option (AV×ar))
 | call (g:Fn) (args:T→List AV)
 | rZ (f:bx→T→ar→RC→uP)
 | bad
section
variable (E:Env) (F:RF) (n:Nat)
noncomputable def wT {β:Type} (i:Nat) (k:(F.T→AV)→β):β:=bc (Nat.ble n i) (k fun _=>AV.undef) (wA (F.get i) k)
noncomputable def wO {β:Type} (x:Operand) (k:(F.T→AV)→β) (d:β):β:=match x with
 | .tmp t=>wT F n t k
 | .const v=>match ofConst v with
   | some a=>k fun _=>a
   | none=>d
 | .global g=>bc (Nat.ble E.G g) d (k fun _=> .ptr g 0)
 | .func f=>k fun _=> .func f [] []
noncomputable def wL {β:Type} (l:List Operand) (k:(F.T→List AV)→β) (d:β):β:=match l with
 | []=>k fun _=> []
 | x::xs=>wO E F n x (fun g=>wL xs (fun gs=>k fun r=>g r::gs r) d) d
noncomputable def wP {β:Type} (o:Option Operand) (k:Option (F.T→AV)→β) (d:β):β:=match o with
 | none=>k none
 | some x=>wO E F n x (fun g=>k (some g)) d
noncomputable def wS {β:Type} (o:Option Tmp) (k:(AV→F.T→F.T)→β):β:=match o with
 | none=>k fun _ r=>r
 | some i=>bc (Nat.ble n i) (k fun _ r=>r) (wU (F.set i) k)
noncomputable def tp (t:TypeId):Option Nat:=ob none (fun i=>some i.size) (vX E.P t)
noncomputable def PN (t:TypeId):Option Nat:=ob none (fun i=>some i.bytes) (vX E.P t)
noncomputable def En (t:TypeId):Option AV:=ob none (fun i=>ob none (fun z=>ofConst z) i.zero) (vX E.P t)
noncomputable def VP (t:TypeId):Option Bool:=match jB E.P t with
 | some (.struct _)=>some true
 | some (.array _ _)=>some true
 | some _=>some false
 | none=>none
noncomputable def RB (t:TypeId) (f:Nat):Option Field:=match jB E.P t with
 | some (.struct fs)=>iH fs.toList f
 | _=>none
variable {T:Type}
noncomputable def JP (op:BinOp):W (IntKind→Int→Int→Option AV):=match op with
 | .add=>⟨fun k a b=>some (.int k (sj k (nK a b)))⟩
 | .sub=>⟨fun k a b=>some (.int k (sj k (MF a b)))⟩
 | .mul=>⟨fun k a b=>some (.int k (sj k (JH a b)))⟩
 | .eql=>⟨fun _ a b=>some (.bool (Ot a b))⟩
 | .neq=>⟨fun _ a b=>some (.bool (sM (Ot a b)))⟩
 | .lss=>⟨fun _ a b=>some (.bool (MG a b))⟩
 | .leq=>⟨fun _ a b=>some (.bool (sM (MG b a)))⟩
 | .gtr=>⟨fun _ a b=>some (.bool (MG b a))⟩
 | .geq=>⟨fun _ a b=>some (.bool (sM (MG a b)))⟩
 | op=>⟨MH op⟩
noncomputable def HR (op:BinOp):W (List UInt8→List UInt8→Option AV):=match op with
 | .eql=>⟨fun a b=>some (.bool (leq xV a b))⟩
 | .neq=>⟨fun a b=>some (.bool (sM (leq xV a b)))⟩
 | op=>⟨qu op⟩
noncomputable def MO (f:IntKind→Int→Int→Option AV) (g:List UInt8→List UInt8→Option AV) (tQ:AV→AV→Option AV) (a b:AV):Option AV:=
 oH (fun k x=>oH (fun j y=>bc (JF k j) (f k x y) none) none b) (pB (fun s=>pB (fun t=>g s t) none b) (tQ a b) a) a
noncomputable def eW (op:BinOp) (tQ:AV→AV→Option AV) (ga gb:T→AV):Kd T:=match op with
 | .shl=> .gR fun r=>oH (fun k x=>oH (fun _ y=>Sq k x y) none (gb r)) none (ga r)
 | .shr=> .gR fun r=>oH (fun k x=>oH (fun _ y=>Sr k x y) none (gb r)) none (ga r)
 | op=>wW (JP op) fun f=>wW (HR op) fun g=> .gR fun r=>MO f g tQ (ga r) (gb r)
noncomputable def Ss (op:UnOp) (ga:T→AV):Kd T:=match op with
 | .not=> .gR fun r=>jg (fun b=>some (.bool (sM b))) none (ga r)
 | op=> .gR fun r=>Rl op (ga r)
noncomputable def JQ (cs:List AV) (o:Nat):Option AV:=iH cs o
noncomputable def JR (n:Nat) (cs:List AV) (o:Nat):Option AV:=bc (Nat.ble (Nat.add o n) (iG cs)) (some (.agg (qQ (qP cs o) n))) none
noncomputable def tR (t:TypeId) (k:(List AV→Nat→Option AV)→Kd T):Kd T:=match VP E t with
 | some true=>match tp E t with
   | some n=>k (JR n)
   | none=> .bad
 | some false=>k JQ
 | none=> .bad
noncomputable def C1 (p:List AV→Nat→Option AV) (h:ar) (a:AV):Option AV:=
 vf (fun i o=>ob none (fun obj=>vh (fun cs _ _=>p cs o) none obj) (h.get i)) none a
noncomputable def x7 (n:Nat) (h:ar) (a v:AV):Option (AV×ar):=
 vf (fun i o=>ob none (fun obj=>vh (fun cs e ro=>bc ro none
  (bc (Nat.beq (iG (kI v)) n) (bc (Nat.ble (Nat.add o n) (iG cs)) (bc (vi MI (kI v)) (some (AV.undef,h.put i (some (.cells (CS (kI v) cs o) e false)))) none) none) none)) none obj) (h.get i)) none a
noncomputable def Bm (len size:Nat) (i o:Nat) (ix:AV):Option AV:=
 oH (fun _ n=>lg (fun m=>bc (Nat.ble len m) none (some (.ptr i (Nat.add o (Nat.mul m size))))) none n) none ix
noncomputable def Bn (d y:Nat) (o:Option AV) (k:Nat→Option AV):Option AV:=
 ob (k d) (fun v=>oH (fun _ i=>lg (fun m=>bc (Nat.ble m y) (k m) none) none i) none v) o
noncomputable def Uy (size:Nat) (lo hi:Option AV) (v:AV):Option AV:=
 jh (Bn 0 0 hi fun h=>Bn 0 h lo fun _=>some .aI)
  (fun i o len cap op=>bc (Nat.ble len cap) (Bn len cap hi fun h=>Bn 0 h lo fun l=>
   bc (Nat.beq cap l) (bc op (some .eS) (some (.slice i o (Nat.sub h l) (Nat.sub cap l) false))) (some (.slice i (Nat.add o (Nat.mul l size)) (Nat.sub h l) (Nat.sub cap l) op))) none) none v
noncomputable def Uz (lo hi:Option AV) (v:AV):Option AV:=
 pB (fun s=>Bn (iG s) (iG s) hi fun h=>Bn 0 h lo fun l=>some (.str (qQ (qP s l) (Nat.sub h l)))) none v
noncomputable def UA (m size:Nat) (lo hi:Option AV) (v:AV):Option AV:=
 vf (fun i o=>Bn m m hi fun h=>Bn 0 h lo fun l=>some (.slice i (bc (Nat.beq m l) o (Nat.add o (Nat.mul l size))) (Nat.sub h l) (Nat.sub m l) false)) none v
noncomputable def zD (o:Option (T→AV)) (r:T):Option AV:=ob none (fun g=>some (g r)) o
noncomputable def Su (v:AV):Option Nat:=jh (some 0) (fun _ _ n _ _=>some n) (pB (fun s=>some (iG s)) (nH v) v) v
noncomputable def JS (h:ar) (size n:Nat) (v:AV):Option (List AV):=
 jh (bc (Nat.beq n 0) (some []) none) (fun i o len _ _=>bc (Nat.ble n len) (ob none (fun obj=>vh (fun cs _ _=>bc (Nat.ble (Nat.add o (Nat.mul n size)) (iG cs)) (some (qQ (qP cs o) (Nat.mul n size))) none) none obj) (h.get i)) none)
  (fS h size n v) v
noncomputable def Sv (elem:TypeId) (size bytes:Nat) (h:ar) (s x:AV):Option (AV×ar):=
 ob none (fun n=>ob none (fun new=>bc (vi MI new) (bc (Nat.beq (iG new) (Nat.mul n size))
  (jh
   (bc (Nat.beq n 0) (some (.aI,h)) (bc (Nat.ble (Nat.mul (Nat.add (Nat.mul 4 n) 4096) (Nat.add bytes 1)) 1099511627776)
    (ob none (fun h'=>some (.slice h.nx 0 n n true,h')) (h.new (.cells new elem false))) none))
   (fun i o len cap op=>ob none (fun obj=>vh (fun cs e ro=>bc ro none
    (bc (Nat.ble (Nat.add len n) cap)
     (bc (Nat.ble (Nat.add o (Nat.mul (Nat.add len n) size)) (iG cs)) (some (.slice i o (Nat.add len n) cap op,h.put i (some (.cells (CS new cs (Nat.add o (Nat.mul len size))) e false)))) none)
     (bc (Nat.ble (Nat.mul (Nat.add (Nat.mul 4 (Nat.add len n)) 4096) (Nat.add bytes 1)) 1099511627776)
      (bc (Nat.ble (Nat.add o (Nat.mul len size)) (iG cs))
       (bc op
        (bc (Nat.beq e elem) (bc (Nat.beq (Nat.add o (Nat.mul cap size)) (iG cs))
         (ob none (fun h'=>some (.slice h.nx 0 (Nat.add len n) (Nat.add len n) true,h')) ((h.put i none).new (.cells (ky (qQ (qP cs o) (Nat.mul len size)) new) elem false))) none) none)
        (ob none (fun h'=>some (.slice h.nx 0 (Nat.add len n) (Nat.add len n) true,h')) (h.new (.cells (ky (qQ (qP cs o) (Nat.mul len size)) new) elem false)))) none) none)))
    none obj) (h.get i))
   none s) none) none) (JS h size n x)) (Su x)
noncomputable def JT (argTypes:Array TypeId) (gs gx:T→AV):Kd T:=match iH argTypes.toList 0,iH argTypes.toList 1 with
 | some sT,some xT=>match jB E.P sT,jB E.P xT with
   | some (.slice elem),some xd=>if lr xd then .wr fun r h=>qx E h elem (gs r) (gx r) else match tp E elem,PN E elem,En E elem with
     | some size,some bytes,some z=>if z.cells.length=size then .wr fun r h=>Sv elem size bytes h (gs r) (gx r) else .bad
     | _,_,_=> .bad
   | _,_=> .bad
 | _,_=> .bad
noncomputable def MP {β:Type} (l:List (Nat×Operand)) (k:(F.T→List (Nat×AV))→β) (d:β):β:=match l with
 | []=>k fun _=> []
 | (i,x)::xs=>wO E F n x (fun g=>MP xs (fun gs=>k fun r=>(i,g r)::gs r) d) d
noncomputable def w9 (fs:List Field):Option (List (Nat×Nat)):=List.rec (motive:=fun _=>Option (List (Nat×Nat))) (some []) (fun f _ ih=>ob none (fun n=>ob none (fun l=>some ((f.offset,n)::l)) ih) (tp E f.type)) fs
noncomputable def C2 (ps:List (Nat×Nat)) (cs:List AV) (l:List (Nat×AV)):Option (List AV):=
 List.rec (motive:=fun _=>List AV→Option (List AV)) (fun cs=>some cs) (fun p _ ih cs=>ob none (fun (q:Nat×Nat)=>bc (Nat.beq (iG (kI p.2)) q.2) (bc (Nat.ble (Nat.add q.1 q.2) (iG cs)) (ih (CS (kI p.2) cs q.1)) none) none) (iH ps p.1)) l cs
noncomputable def PO (z:List AV) (m:Nat):List AV:=Nat.rec (motive:=fun _=>List AV) [] (fun _ ih=>ky z ih) m
noncomputable def MQ (elem:TypeId) (bytes:Nat) (z:List AV) (l c:AV):Option (aH×(Nat→AV)):=
 oH (fun _ len=>oH (fun _ cap=>lg (fun len=>lg (fun cap=>bc (Nat.ble len cap) (bc (Nat.ble 1073741824 cap) none (bc (Nat.ble (Nat.mul bytes cap) 140737488355328)
  (some (.cells (PO z cap) elem false,fun i=> .slice i 0 len cap false)) none)) none) none cap) none len) none c) none l
noncomputable def findF (k:List UInt8) (l:List kh):Option (Option AV):=List.rec (motive:=fun _=>Option (Option AV)) (some none) (fun e _ ih=>pB (fun s=>bc (leq xV k s) (some (some e.val)) ih) none e.key) l
noncomputable def MR {R:Type} (f:List kh→R) (d:R) (o:aH):R:=
 aH.rec (motive:=fun _=>R) (fun _ _ _=>d) (fun es _=>f es) (fun _ _=>d) (fun _ _ _ _=>d) (fun _ _ _ _ _ _ _=>d) d o
noncomputable def Sw {R:Type} (e:R) (f:Nat→R) (d:R) (v:AV):R:=
 AV.rec (motive_1:=fun _=>R) (motive_2:=fun _=>Unit) (fun _=>d) (fun _ _=>d) (fun _=>d) d (fun _ _=>d) d (fun _ _ _ _ _=>d) e (fun i=>f i) (fun _ _ _ _ _=>d) (fun _=>d) d (fun _ _ _=>d) d (fun _ _=>d) (fun _ _=>d) d d () (fun _ _ _ _=>()) v
noncomputable def Gi (h:ar) (m:AV):Option AV:=
 Sw (some (.int .i64 (Int.ofNat 0))) (fun i=>ob none (fun o=>MR (fun es=>some (.int .i64 (Int.ofNat (iG es)))) none o) (h.get i)) none m
noncomputable def Gj (z:AV) (ok:Bool) (h:ar) (m k:AV):Option AV:=
 pB (fun s=>ob none (fun es=>ob none (fun r=>some (ob (bc ok (.tuple [z,.bool false]) z) (fun v=>bc ok (.tuple [v,.bool true]) v) r)) (findF s es))
  (Sw (some []) (fun i=>ob none (fun o=>MR (fun es=>some es) none o) (h.get i)) none m)) none k
noncomputable def lW (o:iT):uP:=iT.rec (motive:=fun _=>uP) .val .panic .fail o
noncomputable def C3 (t:TypeId) (name:String):Option FuncId:=tq E t name
noncomputable def Ox (c:Call) (op:Op):Kd F.T:=match c.callee with
 | .invoke x name=>wO E F n x (fun gx=>wL E F n c.args.toList (fun gs=> .rZ fun call r h _=>pC
  (fun t v=>ob (.fail "" none) (fun f=>lW (call (.fn f) (v::gs r) h)) (C3 E t name)) (.fail "" none) (gx r)) .bad) .bad
 | .value (.func f)=>wL E F n c.args.toList (fun gs=>match E.lJ f with
   | some e=> .gR fun r=>e (gs r)
   | none=>match E.im f with
     | some g=> .wr fun r h=>g (gs r) h
     | none=> .call (.fn f) gs) .bad
 | .value x=>wO E F n x (fun gf=>wL E F n c.args.toList (fun gs=> .rZ fun call r h _=>Ge
  (fun g first captured=>ob (lW (call (.fn g) (ky first (ky (gs r) captured)) h)) (fun sp=>ob (.fail "" none) (fun p=> .val p.1 p.2) (sp (ky first (ky (gs r) captured)) h)) (E.im g))
  (fun l=>lW (call (.vN l) (gs r) h)) (.fail "" none) (gf r)) .bad) .bad
 | .builtin .len=>match iH c.argTypes.toList 0,c.args.toList with
   | some t,[x]=>wO E F n x (fun g=>match jB E.P t with
     | some .string=> .gR fun r=>pB (fun s=>some (.int .i64 (Int.ofNat (iG s)))) none (g r)
     | some (.array m _)=> .gR fun _=>some (.int .i64 (Int.ofNat m))
     | some (.slice _)=> .gR fun r=>jh (some (.int .i64 (Int.ofNat 0))) (fun _ _ m _ _=>some (.int .i64 (Int.ofNat m))) (vZ (some (.int .i64 (Int.ofNat 0))) none (g r)) (g r)
     | some (.map _ _)=> .red fun r h=>Gi h (g r)
     | _=> .bad) .bad
   | _,_=> .bad
 | .builtin .cap=>match iH c.argTypes.toList 0,c.args.toList with
   | some t,[x]=>wO E F n x (fun g=>match jB E.P t with
     | some (.slice _)=> .gR fun r=>jh (some (.int .i64 (Int.ofNat 0))) (fun _ _ _ c b=>bc b none (some (.int .i64 (Int.ofNat c)))) none (g r)
     | _=> .bad) .bad
   | _,_=> .bad
 | .builtin .max=> .gR fun r=>bH E (eU F n r) op
 | .builtin .min=> .gR fun r=>bH E (eU F n r) op
 | .builtin .append=>match c.args.toList with
   | [s,x]=>wO E F n s (fun gs=>wO E F n x (fun gx=>JT E c.argTypes gs gx) .bad) .bad
   | _=> .bad
 | .builtin .copy=>match c.args.toList with
   | [s,x]=>wO E F n s (fun gs=>wO E F n x (fun gx=> .wr fun r h=>se E h c.argTypes (gs r) (gx r)) .bad) .bad
   | _=> .bad
 | .builtin .recover=> .rZ fun _ _ h rc=>match rc with
   | .iE x=> .p6 x
   | .Ca _=> .fail "" none
   | _=> .val .nilIface h
 | _=> .bad
noncomputable def Gk (src dst:TypeId) (g:T→AV):Kd T:=match jB E.P src,jB E.P dst with
 | some (.int _),some (.int k)=> .gR fun r=>oH (fun _ n=>some (.int k (sj k n))) none (g r)
 | some .string,some .string=> .gR fun r=>pB (fun s=>some (.str s)) none (g r)
 | some (.slice e),some .string=>match jB E.P e with
   | some (.int .u8)=> .red fun r h=>jh (some (.str [])) (fun i o len _ _=>ob none (fun l=>some (.str l)) (AO h i o len)) none (g r)
   | _=> .bad
 | some .string,some (.slice _)=> .wr fun r h=>zU E h src dst (some (g r))
 | _,_=> .bad
noncomputable def sm (op:Op):Kd F.T:=match op with
 | .move x=>wO E F n x .Cd .bad
 | .assign x=>wO E F n x .Cd .bad
 | .pick c a b=>wO E F n c (fun gc=>wO E F n a (fun ga=>wO E F n b (fun gb=> .gR fun r=>jg (fun t=>bc t (some (ga r)) (some (gb r))) none (gc r)) .bad) .bad) .bad
 | .binOp op t x y _=>wO E F n x (fun gx=>wO E F n y (fun gy=>eW op (kD E op t (isConst x) (isConst y)) gx gy) .bad) .bad
 | .unOp op _ x=>wO E F n x (Ss op) .bad
 | .fieldAddr s x f=>match RB E s f with
   | some fd=>match tp E fd.type with
     | some (_+1)=>wO E F n x (fun g=> .gR fun r=>vf (fun i o=>some (.ptr i (Nat.add o fd.offset))) none (g r)) .bad
     | _=> .bad
   | none=> .bad
 | .load t a=>wO E F n a (fun g=>tR E t fun p=> .red fun r h=>C1 p h (g r)) .bad
 | .store t a x=>match tp E t with
   | some m=>wO E F n a (fun ga=>wO E F n x (fun gx=> .wr fun r h=>x7 m h (ga r) (gx r)) .bad) .bad
   | none=> .bad
 | .nilCheck x=>wO E F n x (fun g=> .gR fun r=>bc (Be (g r)) (some (g r)) none) .bad
 | .extract x i=>wO E F n x (fun g=> .gR fun r=>vg (fun _=>none) (fun vs=>iH vs i) none (g r)) .bad
 | .field s x f=>match RB E s f with
   | some fd=>wO E F n x (fun g=>tR E fd.type fun p=> .gR fun r=>vg (fun cs=>p cs fd.offset) (fun _=>none) none (g r)) .bad
   | none=> .bad
 | .indexAddr t x ix=>wO E F n x (fun gx=>wO E F n ix (fun gi=>match jB E.P t with
   | some (.array len elem)=>match tp E elem with
     | some size=> .gR fun r=>vf (fun i o=>Bm len size i o (gi r)) none (gx r)
     | none=> .bad
   | some (.slice elem)=>match tp E elem with
     | some size=> .gR fun r=>jh none (fun i o len _ _=>Bm len size i o (gi r)) none (gx r)
     | none=> .bad
   | _=> .bad) .bad) .bad
 | .index t x ix=>wO E F n x (fun gx=>wO E F n ix (fun gi=>match jB E.P t with
   | some .string=> .gR fun r=>pB (fun s=>oH (fun _ i=>lg (fun m=>ob none (fun (b:UInt8)=>some (.int .u8 (Int.ofNat b.toNat))) (iH s m)) none i) none (gi r)) none (gx r)
   | _=> .gR fun r=>bH E (eU F n r) op) .bad) .bad
 | .slice t x lo hi none=>wO E F n x (fun gx=>wP E F n lo (fun gl=>wP E F n hi (fun gh=>match jB E.P t with
   | some (.slice elem)=>match tp E elem with
     | some size=> .gR fun r=>Uy size (zD gl r) (zD gh r) (gx r)
     | none=> .bad
   | some .string=> .gR fun r=>Uz (zD gl r) (zD gh r) (gx r)
   | some (.array m elem)=>match tp E elem with
     | some size=> .gR fun r=>UA m size (zD gl r) (zD gh r) (gx r)
     | none=> .bad
   | _=> .gR fun r=>bH E (eU F n r) op) .bad) .bad) .bad
 | .convert src dst x=>wO E F n x (Gk E src dst) .bad
 | .makeInterface t x=>match jB E.P t with
   | some (.interface _)=> .bad
   | some _=>wO E F n x (fun g=> .Cd fun r=> .iface t (g r)) .bad
   | none=> .bad
 | .makeFunc (.func f) first captured=>wL E F n first.toList (fun ga=>wL E F n captured.toList (fun gb=> .Cd fun r=> .func f (ga r) (gb r)) .bad) .bad
 | .alloc t=>match En E t with
   | some z=> .qz fun _=>some (.cells z.cells t false,fun i=> .ptr i 0)
   | none=> .bad
 | .box t x=>wO E F n x (fun g=> .qz fun r=>some (.cells (kI (g r)) t false,fun i=> .ptr i 0)) .bad
 | .buildSlice t len parts=>match jB E.P t with
   | some (.slice elem)=>match tp E elem,En E elem with
     | some m,some z=>if z.cells.length=m∧len*m≤2^24 then MP E F n parts.toList (fun gp=> .qz fun r=>ob none (fun cs=>some (.cells cs elem false,fun i=> .slice i 0 len len false)) (pZ (fun i=>some (i*m,m)) (gu z.cells len) (gp r))) .bad else .bad
     | _,_=> .bad
   | _=> .bad
 | .makeSlice t l c=>wO E F n l (fun gl=>wO E F n c (fun gc=>match jB E.P t with
   | some (.slice elem)=>match tp E elem,PN E elem,En E elem with
     | some m,some bytes,some z=>if z.cells.length=m then .qz fun r=>MQ elem bytes z.cells (gl r) (gc r) else .bad
     | _,_,_=> .bad
   | _=> .bad) .bad) .bad
 | .makeMap _ none=> .qz fun _=>some (.map [] 0,fun i=> .map i)
 | .makeMap .. | .range .. => .qz fun r=>eu E (eU F n r) op
 | .lookup t x ix ok=>wO E F n x (fun gx=>wO E F n ix (fun gi=>match jB E.P t with
   | some (.map key elem)=>match jB E.P key,En E elem with
     | some .string,some z=> .red fun r h=>Gj z ok h (gx r) (gi r)
     | _,_=> .red fun r h=>ef E (eU F n r) h op
   | _=> .bad) .bad) .bad
 | .build t parts=>match En E t,jB E.P t with
   | some z,some (.struct fs)=>match w9 E fs.toList with
     | some ps=>MP E F n parts.toList (fun gp=> .gR fun r=>ob none (fun cs=>some (.agg cs)) (C2 ps (kI z) (gp r))) .bad
     | none=> .bad
   | _,_=> .gR fun r=>bH E (eU F n r) op
 | .slice .. | .typeAssert .. => .gR fun r=>bH E (eU F n r) op
 | .mapUpdate t m k x=>wO E F n m (fun gm=>wO E F n k (fun gk=>wO E F n x (fun gx=> .wr fun r h=>ob none (fun h'=>some (AV.undef,h')) (eE E h t (gm r) (gk r) (gx r))) .bad) .bad) .bad
 | .insert t m k x=>wO E F n m (fun gm=>wO E F n k (fun gk=>wO E F n x (fun gx=> .wr fun r h=>ob none (fun h'=>some (AV.undef,h')) (eE E h t (gm r) (gk r) (gx r))) .bad) .bad) .bad
 | .next it s=>wO E F n it (fun g=> .wr fun r h=>zT h (g r) s) .bad
 | .panic x=>wO E F n x (fun g=> .rZ fun _ r h _=>pC (fun t w=> .panic (.iface t w) h) (.fail "" none) (g r)) .bad
 | .defer c=> .rZ fun _ r _ rc=>match rc,callee E (eU F n r) c with
   | .Ca _,_=> .fail "" none
   | _,some (.fn f,args)=> .defer (.call f args)
   | _,_=> .fail "" none
 | .call c=>Ox E F n c op
 | _=> .bad
noncomputable def EY (kd:Kd T) (s:AV→T→T) (j:I T):I T:=match kd with
 | .Cd g=>⟨fun call r h y=>j.run call (s (g r) r) h y⟩
 | .gR f=>⟨fun call r h y=>ob .bad (fun v=>j.run call (s v r) h y) (f r)⟩
 | .red f=>⟨fun call r h y=>ob .bad (fun v=>j.run call (s v r) h y) (f r h)⟩
 | .qz f=>⟨fun call r h y=>ob .bad (fun p=>ob .bad (fun h'=>j.run call (s (p.2 h.nx) r) h' y) (h.new p.1)) (f r)⟩
 | .wr f=>⟨fun call r h y=>ob .bad (fun p=>j.run call (s p.1 r) p.2 y) (f r h)⟩
 | .call g args=>⟨fun call r h y=>iT.rec (motive:=fun _=>FO T) (fun v h'=>j.run call (s v r) h' y) (fun v h'=> .jmp (.panic v) r h' y) (fun _ _=> .bad) (call g (args r) h)⟩
 | .rZ f=>⟨fun call r h y=>uP.rec (motive:=fun _=>FO T) (fun v h'=>j.run call (s v r) h' y) (fun d=>j.run call (s AV.undef r) h ⟨d::y.ds,y.rc⟩) (fun v=>j.run call (s v r) h ⟨y.ds,.done⟩)
  (fun v h'=> .jmp (.panic v) r h' y) (fun _ _=> .bad) (f call r h y.rc)⟩
 | .bad=>⟨fun _ _ _ _=> .bad⟩
noncomputable def Oy (s:AV→T→T) (j:I T):I T:=⟨fun call r h y=>j.run call (s AV.undef r) h y⟩
noncomputable def EZ (g:T→AV) (want:Bool) (a b:I T):I T:=match want with
 | true=>⟨fun call r h y=>jg (fun t=>bc t (a.run call r h y) (b.run call r h y)) (b.run call r h y) (g r)⟩
 | false=>⟨fun call r h y=>jg (fun t=>bc t (b.run call r h y) (a.run call r h y)) (b.run call r h y) (g r)⟩
noncomputable def Gl (ops:Array Oper) (o:Oper) (a b:I F.T):I F.T:=match o.guard with
 | none=>a
 | some (j,want)=>match ob none (fun p=>p.dst) (iH ops.toList j) with
   | some d=>bc (Nat.ble n d) b (wA (F.get d) fun g=>EZ g want a b)
   | none=>b
noncomputable def JU (ops:Array Oper) (o:Oper) (j:I F.T):I F.T:=wS F n o.dst fun s=>Gl F n ops o (EY (sm E F n o.op) s j) (Oy s j)
noncomputable def rQ (ops:Array Oper) (l:List Oper):I F.T:=List.rec (motive:=fun _=>I F.T) ⟨fun _ r h y=> .CZ r h y⟩ (fun o _ j=>JU E F n ops o j) l
noncomputable def Sx (tQ:AV→AV→Bool) (x y:AV):Bool:=
 oH (fun k a=>oH (fun j b=>bc (JF k j) (Ot a b) false) false y)
  (pB (fun s=>pB (fun t=>leq xV s t) false y)
   (vf (fun i o=>vf (fun j p=>bc (Nat.beq i j) (Nat.beq o p) false) false y)
    (jg (fun a=>jg (fun b=>bc a b (sM b)) false y) (tQ x y) x) x) x) x
noncomputable def x8 (m:Nat):AV→AV→Bool:=Nat.rec (motive:=fun _=>AV→AV→Bool) (fun _ _=>false)
 (fun i ih x y=>Sx (fun x y=>vg (fun a=>vg (fun b=>leq ih a b) (fun _=>false) false y) (fun _=>AV.same (i+1) x y) (AV.same (i+1) x y) x) x y) m
structure HS where
 k:Nat
 m:Nat
 made:Option Nat
 f:ar→Bool
inductive DO (T:Type) where
 | ok (tr:List HS) (hs:List ar) (r:T) (h:ar) (y:Y)
 | bad
structure D (T:Type) where
 run:bx→T→ar→Y→DO T
noncomputable def Ak (x:HS) (d:DO T):DO T:=DO.rec (motive:=fun _=>DO T) (fun tr hs r h y=> .ok (x::tr) hs r h y) .bad d
noncomputable def pE (h0:ar) (d:DO T):DO T:=DO.rec (motive:=fun _=>DO T) (fun tr hs r h y=> .ok tr (h0::hs) r h y) .bad d
noncomputable def Gm (kd:Kd T) (s:AV→T→T) (j:D T):D T:=match kd with
 | .wr f=>⟨fun call r h y=>ob .bad (fun p=>pE h (j.run call (s p.1 r) p.2 y)) (f r h)⟩
 | .call g args=>⟨fun call r h y=>iT.rec (motive:=fun _=>DO T) (fun v h'=>pE h (j.run call (s v r) h' y)) (fun _ _=> .bad) (fun _ _=> .bad) (call g (args r) h)⟩
 | .rZ f=>⟨fun call r h y=>uP.rec (motive:=fun _=>DO T) (fun v h'=>pE h (j.run call (s v r) h' y)) (fun _=> .bad) (fun _=> .bad) (fun _ _=> .bad) (fun _ _=> .bad) (f call r h y.rc)⟩
 | _=>⟨fun _ _ _ _=> .bad⟩
noncomputable def Gn (k m:Nat) (kd:Kd T) (s:AV→T→T) (j:D T):D T:=match kd with
 | .Cd g=>⟨fun call r h y=>j.run call (s (g r) r) h y⟩
 | .gR f=>⟨fun call r h y=>ob .bad (fun v=>j.run call (s v r) h y) (f r)⟩
 | .red f=>⟨fun call r h y=>ob .bad (fun v=>Ak ⟨k,m,none,fun h'=>ob false (fun v'=>x8 20 v' v) (f r h')⟩ (j.run call (s v r) h y)) (f r h)⟩
 | .qz f=>⟨fun call r h y=>ob .bad (fun p=>ob .bad (fun h'=>Ak ⟨k,m,some h.nx,fun Gp=>ob false (fun o=>aH.same o p.1) (Gp.get h.nx)⟩ (j.run call (s (p.2 h.nx) r) h' y)) (h.new p.1)) (f r)⟩
 | _=>⟨fun _ _ _ _=> .bad⟩
noncomputable def JV (s:AV→T→T) (j:D T):D T:=⟨fun call r h y=>j.run call (s AV.undef r) h y⟩
noncomputable def E0 (s:AV→T→T) (j:D T):D T:=⟨fun call r h y=>pE h (j.run call (s AV.undef r) h y)⟩
noncomputable def JW (g:T→AV) (want:Bool) (a b:D T):D T:=match want with
 | true=>⟨fun call r h y=>jg (fun t=>bc t (a.run call r h y) (b.run call r h y)) (b.run call r h y) (g r)⟩
 | false=>⟨fun call r h y=>jg (fun t=>bc t (b.run call r h y) (a.run call r h y)) (b.run call r h y) (g r)⟩
noncomputable def vY (ops:Array Oper) (o:Oper) (a b:D F.T):D F.T:=match o.guard with
 | none=>a
 | some (j,want)=>match ob none (fun p=>p.dst) (iH ops.toList j) with
   | some d=>bc (Nat.ble n d) b (wA (F.get d) fun g=>JW g want a b)
   | none=>b
noncomputable def iY (ops:Array Oper) (pl:lu) (l:List Nat):Nat→D F.T:=List.rec (motive:=fun _=>Nat→D F.T) (fun _=>⟨fun _ r h y=> .ok [] [h] r h y⟩)
 (fun i _ ih k=>ob ⟨fun _ _ _ _=> .bad⟩ (fun o=>wS F n o.dst fun s=>
  bc (oI E o.op) (canon (Nat.add k 1) fun k'=>vY F n ops o (Gm (sm E F n o.op) s (ih k')) (E0 s (ih k')))
   (canon (Nat.sub (Nat.add (w8 pl.bZ pl.an i) 1) k) fun m=>vY F n ops o (Gn k m (sm E F n o.op) s (ih k)) (JV s (ih k)))) (iH ops.toList i)) l
noncomputable def Gq (tr:List HS):List Nat:=List.rec (motive:=fun _=>List Nat) [] (fun x _ ih=>ob ih (fun i=>i::ih) x.made) tr
noncomputable def pF (tr:List HS) (hs:List ar):Bool:=bc (Bl (Gq tr)) (vi (fun x=>vi x.f (qQ (qP hs x.k) x.m)) tr) false
noncomputable def MS (ops:Array Oper) (pl:lu) (call:bx) (r:F.T) (h:ar) (y:Y):FO F.T:=match pl.order.reverse with
 | []=> .bad
 | i::front=>match (iY E F n ops pl front.reverse 0).run call r h y,ops[i]? with
   | .ok tr hs r1 h1 y1,some ⟨dst,.call c,ty,pos,after,guard⟩=>
     match fG E (.call c)&&cP ops (eU F n r1) ⟨dst,.call c,ty,pos,after,guard⟩&&(List.range ops.size).all (fun j=>j==i||dP pl.an i j),
      dv E call (eU F n r1) h1 y1.rc ⟨dst,.call c,ty,pos,after,guard⟩ with
     | true,.panic v h'=>match pF tr (hs++[h']) with
       | true=> .jmp (.panic v) r1 h' y1
       | false=> .bad
     | _,_=> .bad
   | _,_=> .bad
noncomputable def Gr (ops:Array Oper):I F.T:=JN E ops (fun pl=>
 ⟨fun call r h y=>DO.rec (motive:=fun _=>FO F.T) (fun tr hs r' h' y'=>bc (pF tr hs) (.CZ r' h' y') .bad) (MS E F n ops pl call r h y) ((iY E F n ops pl pl.order 0).run call r h y)⟩) ⟨fun _ _ _ _=> .bad⟩
def Oz (r:T) (o:Out):FO T:=match o with
 | .ok .normal s=> .CZ r s.h ⟨s.ds,s.rc⟩
 | .ok e s=> .jmp e r s.h ⟨s.ds,s.rc⟩
 | .fail _ _=> .bad
noncomputable def Bo (f:Operand) (ps:Array Tmp) (as bd:Code):I F.T:=
 wO E F n f (fun _=>⟨fun call r h y=>Oz r (mj E call f ps as bd ⟨eU F n r,h,y.ds,y.rc⟩)⟩) ⟨fun _ _ _ _=> .bad⟩
noncomputable def nS {R:Type} (d:R) (k:Nat→R) (m:Nat):R:=Nat.rec (motive:=fun _=>R) d (fun i _=>k i) m
noncomputable def fo {R:Type} (a:T→ar→Y→R) (b:j8→T→ar→Y→R) (d:R) (o:FO T):R:=FO.rec (motive:=fun _=>R) a b d o
noncomputable def JX {R:Type} (f:Nat→R) (d:R) (e:j8):R:=j8.rec (motive:=fun _=>R) d f d (fun _=>d) e
noncomputable def JY (b:C T) (m:Nat):bx→T→ar→Y→FO T:=
 Nat.rec (motive:=fun _=>bx→T→ar→Y→FO T) (fun _ _ _ _=> .bad) (fun i ih call r h y=>fo (fun r' h' y'=>ih call r' h' y') .jmp .bad (b.run i call r h y)) m
noncomputable def MT (i:I T):C T:=⟨fun m call r h y=>nS .bad (fun _=>i.run call r h y) m⟩
noncomputable def lX (c:Code):C F.T:=Code.rec (motive:=fun _=>C F.T)
 ⟨fun m _ r h y=>nS .bad (fun _=> .CZ r h y) m⟩
 (fun _ ops draw=>bc draw (MT (Gr E F n ops)) (MT (rQ E F n ops ops.toList)))
 (fun _ _ a b=>⟨fun m call r h y=>nS .bad (fun i=>fo (fun r' h' y'=>b.run i call r' h' y') .jmp .bad (a.run i call r h y)) m⟩)
 (fun x _ _ a b=>wO E F n x (fun g=>⟨fun m call r h y=>nS .bad (fun i=>jg (fun t=>bc t (a.run i call r h y) (b.run i call r h y)) .bad (g r)) m⟩) ⟨fun _ _ _ _ _=> .bad⟩)
 (fun id _ b=>⟨fun m call r h y=>nS .bad (fun i=>fo .CZ (fun e r' h' y'=>JX (fun j=>bc (Nat.beq j id) (.CZ r' h' y') (.jmp e r' h' y')) (.jmp e r' h' y') e) .bad (b.run i call r h y)) m⟩)
 (fun _ b=>⟨fun m call r h y=>JY b m call r h y⟩)
 (fun f ps as bd _ _=>MT (Bo E F n f ps as bd))
 (fun id=>⟨fun m _ r h y=>nS .bad (fun _=> .jmp (.exit id) r h y) m⟩)
 (fun _ b=>⟨fun m call r h y=>nS .bad (fun i=>b.run i call r h y) m⟩)
 (fun _=>⟨fun m _ r h y=>nS .bad (fun _=> .CZ r h y) m⟩)
 (fun _=>⟨fun _ _ _ _ _=> .bad⟩)
 ⟨fun m _ r h y=>nS .bad (fun _=> .jmp .ret r h y) m⟩
 (fun _=>⟨fun _ _ _ _ _=> .bad⟩) c
end
section
variable (E:Env)
inductive BO where
 | fin (res:ar→Option (List AV)) (h:ar) (y:Y)
 | Sy (v:AV) (res:ar→Option (List AV)) (h:ar) (y:Y)
 | bad
structure CF where
 run:Nat→bx→List AV→ar→RC→BO
noncomputable def vm (F:RF) (n:Nat):List ResultVar→W (F.T→ar→Option (List AV))
 | []=>⟨fun _ _=>some []⟩
 | .tmp t::rest=>wT F n t fun g=>wW (vm F n rest) fun k=>⟨fun r h=>ob none (fun vs=>some (g r::vs)) (k r h)⟩
 | .cell a t::rest=>wT F n a fun g=>wW (vm F n rest) fun k=>⟨fun r h=>ob none (fun v=>ob none (fun vs=>some (v::vs)) (k r h)) (bN E h t (g r))⟩
noncomputable def JZ (F:RF) (n:Nat) (fn:Func) (b:Code):CF:=
 wW (vm E F n fn.results.toList) fun res=>⟨fun fuel call args h rc=>bc (Nat.ble (iG args) n)
  (fo (fun r h' y=> .fin (res r) h' y) (fun e r h' y=>j8.rec (motive:=fun _=>BO) .bad (fun _=> .bad) (.fin (res r) h' y) (fun v=> .Sy v (res r) h' y) e) .bad
   ((lX E F n b).run fuel call (IU F args F.z 0) h ⟨[],rc⟩)) .bad⟩
noncomputable def v7 (f:FuncId):CF:=match PJ E.P f with
 | none=>⟨fun _ _ _ _ _=> .bad⟩
 | some fn=>match fn.body with
   | none=>⟨fun _ _ _ _ _=> .bad⟩
   | some b=>bc (Nat.ble fn.ntmps 64) (JZ E Uu fn.ntmps fn b) (bc (Nat.ble fn.ntmps 512) (JZ E Uv fn.ntmps fn b) ⟨fun _ _ _ _ _=> .bad⟩)
noncomputable def bo {R:Type} (a:(ar→Option (List AV))→ar→Y→R) (b:AV→(ar→Option (List AV))→ar→Y→R) (d:R) (o:BO):R:=BO.rec (motive:=fun _=>R) a b d o
noncomputable def Gs (F:RF) (call:bx) (fuel:Nat) (c:Code) (s:St):Out:=
 fo (fun r h y=> .ok .normal ⟨eU F s.ts.length r,h,y.ds,y.rc⟩) (fun e r h y=> .ok e ⟨eU F s.ts.length r,h,y.ds,y.rc⟩) (.fail "" none) ((lX E F s.ts.length c).run fuel call (IU F s.ts F.z 0) s.h ⟨s.ds,s.rc⟩)
noncomputable def Gt (call:bx) (fuel:Nat) (c:Code) (s:St):Out:=
 bc (Nat.ble s.ts.length 64) (Gs E Uu call fuel c s) (bc (Nat.ble s.ts.length 512) (Gs E Uv call fuel c s) (.fail "" none))
noncomputable def x9 (call:bx) (fuel:Nat) (l:Nat) (args:List AV) (h:ar):iT:=match h.get l with
 | some (.loop _ _ ts ps as bd _)=>if args.length=ps.length then
  match Gt E call fuel as {ts:=(ps.zip args).foldl (fun ts x=>ts.set x.1 x.2) ts,h,ds:=[],rc:= .Ca l} with
  | .ok .normal s1=>match s1.h.get l with
    | some (.loop .ready pd O8 N8 Ma O9 O_)=>
      match Gt E call fuel bd {s1 with h:=s1.h.put l (some (.loop .busy pd O8 N8 Ma O9 O_))} with
      | .ok .normal s2=>xj l none s2
      | .ok .ret s2=>xj l (some .ret) s2
      | .ok (.exit id) s2=>xj l (some (.exit id)) s2
      | .ok (.panic v) s2=>if s2.ds.isEmpty then .panic v s2.h else .fail "round defers" none
      | .fail why q=> .fail why q
    | _=> .fail "round state" none
  | .ok _ _=> .fail "round assign" none
  | .fail why q=> .fail why q
   else .fail "round args" none
 | _=> .fail "round" none
noncomputable def ia (call:bx) (fuel:Nat) (g:FuncId) (as:List AV) (h:ar) (rc:RC):Option (ar×RC):=
 bo (fun res h' y=>bc y.ds.isEmpty (ob none (fun _=>some (h',y.rc)) (res h')) none) (fun _ _ _ _=>none) none ((v7 E g).run fuel call as h rc)
noncomputable def C4 (call:bx) (fuel:Nat) (p:Option AV) (res:ar→Option (List AV)) (h:ar) (ds:List pf):iT:=match dk (ia E call fuel) ds p h with
 | none=> .fail "unwind" none
 | some (some v,h')=> .panic v h'
 | some (none,h')=>ob (.fail "results" none) (fun vs=> .ret (hG vs) h') (res h')
noncomputable def YC {R:Type} (a:FuncId→R) (b:Nat→R) (f:Fn):R:=Fn.rec (motive:=fun _=>R) a b f
noncomputable def C5 {α R:Type} (a b:R) (l:List α):R:=List.rec (motive:=fun _=>R) a (fun _ _ _=>b) l
noncomputable def Sz (fuel:Nat) (call:bx) (g:Fn) (args:List AV) (h:ar):iT:=
 YC (fun f=>bo (fun res h' y=>C5 (ob (.fail "results" none) (fun vs=> .ret (hG vs) h') (res h')) (C4 E call fuel none res h' y.ds) y.ds)
  (fun v res h' y=>C5 (.panic v h') (C4 E call fuel (some v) res h' y.ds) y.ds) (.fail "body" none) ((v7 E f).run fuel call args h .no))
  (fun l=>x9 E call fuel l args h) g
noncomputable def v8 (d fuel:Nat):bx:=Nat.rec (motive:=fun _=>bx) (fun _ _ _=> .fail "depth" none) (fun _ ih=>Sz E fuel ih) d
end
end Go.Ab.Fa
end
section
namespace Go.Ab.Fa
theorem MU {α R:Type} {d:R} {f:α→R} {a:α}:ob d f (some a)=f a:=rfl
theorem iZ {R:Type} (x y:R):bc true x y=x:=rfl
theorem eg {R:Type} (x y:R):bc false x y=y:=rfl
theorem gM {α β:Type} {f:α→Option β} {o:Option α} {v:β} (h:ob none f o=some v):∃a,o=some a∧f a=some v:=by
 cases o with
 | none=>exact absurd h (by intro e;cases e)
 | some a=>exact ⟨a,rfl,h⟩
theorem fU {β:Type} {b:Bool} {x:Option β} {v:β} (h:bc b x none=some v):b=true∧x=some v:=by
 cases b with
 | false=>cases h
 | true=>exact ⟨rfl,h⟩
theorem pG {β:Type} {b:Bool} {x:Option β} {v:β} (h:bc b none x=some v):b=false∧x=some v:=by
 cases b with
 | false=>exact ⟨rfl,h⟩
 | true=>cases h
theorem Al {β:Type} {f:Bool→Option β} {a:AV} {v:β} (h:jg f none a=some v):∃b,a= .bool b∧f b=some v:=by
 cases a with
 | bool b=>exact ⟨b,rfl,h⟩
 | _=>exact absurd h (by intro e;cases e)
theorem ji {β:Type} {f:IntKind→Int→Option β} {a:AV} {v:β} (h:oH f none a=some v):∃k n,a= .int k n∧f k n=some v:=by
 cases a with
 | int k n=>exact ⟨k,n,rfl,h⟩
 | _=>exact absurd h (by intro e;cases e)
theorem m_ {β:Type} {f:List UInt8→Option β} {a:AV} {v:β} (h:pB f none a=some v):∃s,a= .str s∧f s=some v:=by
 cases a with
 | str s=>exact ⟨s,rfl,h⟩
 | _=>exact absurd h (by intro e;cases e)
theorem qU {β:Type} {f:Nat→Nat→Option β} {a:AV} {v:β} (h:vf f none a=some v):∃i o,a= .ptr i o∧f i o=some v:=by
 cases a with
 | ptr i o=>exact ⟨i,o,rfl,h⟩
 | _=>exact absurd h (by intro e;cases e)
theorem na {β:Type} {e:Option β} {f:Nat→Nat→Nat→Nat→Bool→Option β} {a:AV} {v:β} (h:jh e f none a=some v):
 (a= .aI∧e=some v)∨∃i o l c b,a= .slice i o l c b∧f i o l c b=some v:=by
 cases a with
 | aI=>exact .inl ⟨rfl,h⟩
 | slice i o l c b=>exact .inr ⟨i,o,l,c,b,rfl,h⟩
 | _=>exact absurd h (by intro e;cases e)
theorem C6 {β:Type} {e z:Option β} {f:Nat→Nat→Nat→Nat→Bool→Option β} {a:AV} {v:β} (h:jh e f (vZ z none a) a=some v):
 (a= .aI∧e=some v)∨(∃i o l c b,a= .slice i o l c b∧f i o l c b=some v)∨(a= .eS∧z=some v):=by
 cases a with
 | aI=>exact .inl ⟨rfl,h⟩
 | slice i o l c b=>exact .inr (.inl ⟨i,o,l,c,b,rfl,h⟩)
 | eS=>exact .inr (.inr ⟨rfl,h⟩)
 | _=>exact absurd h (by intro e;cases e)
theorem nb {β:Type} {f:Nat→Option β} {n:Int} {v:β} (h:lg f none n=some v):∃m:Nat,n=(m:Int)∧f m=some v:=by
 cases n with
 | ofNat m=>exact ⟨m,rfl,h⟩
 | negSucc m=>cases h
theorem pH {β:Type} {f:List AV→TypeId→Bool→Option β} {o:aH} {v:β} (h:vh f none o=some v):∃cs e ro,o= .cells cs e ro∧f cs e ro=some v:=by
 cases o with
 | cells cs e ro=>exact ⟨cs,e,ro,rfl,h⟩
 | _=>exact absurd h (by intro e;cases e)
theorem fJ {a b:Nat} (h:Nat.ble a b=true):a≤b:=Nat.le_of_ble_eq_true h
theorem jQ {a b:Nat} (h:Nat.ble a b=false):b<a:=by
 apply Decidable.byContradiction;intro hn
 rw[Nat.ble_eq_true_of_le (by omega)] at h;cases h
theorem mq {a b:Nat} (h:Nat.beq a b=true):a=b:=Nat.eq_of_beq_eq_true h
theorem Gu {k j:IntKind} (h:JF k j=true):k=j:=by
 cases k<;>cases j<;>first | rfl | exact absurd h (by intro e;cases e)
theorem tS (b:Bool):sM b= !b:=by cases b<;>rfl
theorem J0 {k:IntKind} (h:Oq k=false) (n:Int):k.wrap n=n%(r6 k:Int):=by
 cases k<;>first | (cases h;done) | simp [IntKind.wrap,IntKind.bits,IntKind.signed,r6,PH]
theorem J1 {k:IntKind} (h:Oq k=true) {m:Nat} (hm:m<r6 k):k.wrap (Int.negSucc m)=Int.negSucc m:=by
 have hb:(2^(k.bits - 1):Int)=(r6 k:Int)∧(2^k.bits:Int)=2*(r6 k:Int)∧k.signed=true:=by
  cases k<;>first | (cases h;done) | (refine ⟨rfl,rfl,rfl⟩)
 obtain ⟨h1,h2,h3⟩:=hb
 unfold IntKind.wrap
 rw[h1,h2,h3,Int.negSucc_eq]
 generalize r6 k=B at *
 have e: -((m:Int)+1)%(2*(B:Int))=2*(B:Int) -(m+1):=by
  rw[←Int.add_emod_right]
  exact Int.emod_eq_of_lt (by omega) (by omega)
 rw[e]
 simp only[Bool.true_and,decide_eq_true_eq]
 rw[if_pos (by omega)]
 omega
theorem ng (k:IntKind) (n:Int):sj k n=k.wrap n:=by
 cases n with
 | ofNat m=>
   show bc (Nat.ble (r6 k) m) (bc (Oq k) (k.wrap (Int.ofNat m)) (Int.ofNat (Nat.mod m (r6 k)))) (Int.ofNat m)=_
   cases h:Nat.ble (r6 k) m
   · have h:=jQ h
     rw[eg]
     cases k<;>simp [IntKind.wrap,IntKind.bits,IntKind.signed]<;>simp only[r6,PH] at h<;>omega
   · rw[iZ]
     cases hs:Oq k
     · rw[eg,J0 hs];rfl
     · rw[iZ]
 | negSucc m=>
   show bc (Oq k) (bc (Nat.ble (r6 k) m) (k.wrap (Int.negSucc m)) (Int.negSucc m)) (k.wrap (Int.negSucc m))=_
   cases hs:Oq k
   · rw[eg]
   · rw[iZ]
     cases h:Nat.ble (r6 k) m
     · have h:=jQ h
       rw[eg]
       exact (J1 hs h).symm
     · rw[iZ]
theorem MV (a b:Int):nK a b=a+b:=by
 cases a<;>cases b<;>rfl
theorem MW (a b:Int):MF a b=a - b:=by
 cases a with
 | negSucc x=>rfl
 | ofNat x=>
   cases b with
   | negSucc y=>rfl
   | ofNat y=>
     show bc (Nat.ble y x) (Int.ofNat (x - y)) (Int.negSucc (y - x - 1))=_
     cases h:Nat.ble y x
     · have h:=jQ h
       rw[eg,Int.negSucc_eq];simp only[Int.ofNat_eq_natCast];omega
     · have h:=fJ h
       rw[iZ];simp only[Int.ofNat_eq_natCast];omega
theorem Gv (a b:Int):JH a b=a*b:=by
 cases a<;>cases b<;>rfl
theorem E1 (a b:Int):Ot a b=(a==b):=by
 have:Ot a b=decide (a=b):=by
  cases a with
  | ofNat x=>cases b with
    | ofNat y=>
      show Nat.beq x y=_
      rw[←wH]
      by_cases h:x=y
      · subst h;simp
      · rw[show (x==y)=false by simp [h]];symm;apply decide_eq_false;simp only[Int.ofNat_eq_natCast];omega
    | negSucc y=>simp;rfl
  | negSucc x=>cases b with
    | ofNat y=>simp;rfl
    | negSucc y=>
      show Nat.beq x y=_
      rw[←wH]
      by_cases h:x=y
      · subst h;simp
      · simp [h]
 rw[this];rfl
theorem Bp (a b:Int):MG a b=decide (a<b):=by
 cases a with
 | ofNat x=>cases b with
   | ofNat y=>
     show Nat.ble (x+1) y=_
     rw[←rP];simp only[Int.ofNat_eq_natCast];congr 1;apply propext;omega
   | negSucc y=>
     symm;exact decide_eq_false (by rw[Int.negSucc_eq];simp only[Int.ofNat_eq_natCast];omega)
 | negSucc x=>cases b with
   | ofNat y=>
     symm;exact decide_eq_true (by rw[Int.negSucc_eq];simp only[Int.ofNat_eq_natCast];omega)
   | negSucc y=>
     show Nat.ble (y+1) x=_
     rw[←rP];congr 1;apply propext;rw[Int.negSucc_eq,Int.negSucc_eq];omega
theorem ya (a b:Int):(!decide (a<b))=decide (b≤a):=by
 by_cases h:a<b
 · rw[decide_eq_true h,decide_eq_false (by omega)];rfl
 · rw[decide_eq_false h,decide_eq_true (by omega)];rfl
theorem MX (k:IntKind) {x:Nat} (h:x<r6 k):x<2^k.bits:=by
 cases k<;>simp only[r6,PH,IntKind.bits] at * <;>omega
theorem Gw (k:IntKind) {x:Nat} (h:x<r6 k):k.wrap (x:Int)=x:=by
 have:=ng k (Int.ofNat x)
 rw[Int.ofNat_eq_natCast] at this
 rw[←this]
 show bc (Nat.ble (r6 k) x) _ (Int.ofNat x)=_
 rw[mR h];rfl
theorem MY (k:IntKind):∃m,r6 k=2^m:=by
 cases k
 · exact ⟨7,rfl⟩
 · exact ⟨15,rfl⟩
 · exact ⟨31,rfl⟩
 · exact ⟨63,rfl⟩
 · exact ⟨8,rfl⟩
 · exact ⟨16,rfl⟩
 · exact ⟨32,rfl⟩
 · exact ⟨64,rfl⟩
theorem toNat_ofInt (k:IntKind) {x:Nat} (h:x<r6 k):(BitVec.ofInt k.bits (Int.ofNat x)).toNat=x:=by
 rw[Int.ofNat_eq_natCast,BitVec.ofInt_natCast,BitVec.toNat_ofNat]
 exact Nat.mod_eq_of_lt (MX k h)
theorem MZ (op:BinOp) (k:IntKind) (a b:Int) {v:AV} (h:MH op k a b=some v):dz op k a b=some v:=by
 cases op<;>simp only[MH] at h<;>try exact h
 · simpa [dz,ng,MV] using h
 · simpa [dz,ng,MW] using h
 · simpa [dz,ng,Gv] using h
 · cases a with
   | negSucc x=>exact h
   | ofNat x=>cases b with
     | negSucc y=>exact h
     | ofNat y=>
       obtain ⟨h1,h2⟩:=pG h
       rw[ng] at h2
       have:y≠0:=by intro e;subst e;cases h1
       rw[←h2];simp [dz,this];exact congrArg k.wrap (Int.natCast_ediv x y).symm
 · cases a with
   | negSucc x=>exact h
   | ofNat x=>cases b with
     | negSucc y=>exact h
     | ofNat y=>
       obtain ⟨h1,h2⟩:=pG h
       have:y≠0:=by intro e;subst e;cases h1
       rw[←h2];simp [dz,this];rfl
 · cases a with
   | negSucc x=>exact h
   | ofNat x=>cases b with
     | negSucc y=>exact h
     | ofNat y=>
       change bc (Nat.ble (r6 k) x) _ (bc (Nat.ble (r6 k) y) _ _)=_ at h
       cases h1:Nat.ble (r6 k) x with
       | true=>rw[h1] at h;exact h
       | false=>cases h2:Nat.ble (r6 k) y with
         | true=>rw[h1,h2] at h;exact h
         | false=>
           rw[h1,h2] at h
           have h1:=jQ h1;have h2:=jQ h2
           rw[←h,eg,eg]
           show some (AV.int k (k.wrap ((BitVec.ofInt k.bits (Int.ofNat x)&&& BitVec.ofInt k.bits (Int.ofNat y)).toNat:Int)))=_
           rw[BitVec.toNat_and,toNat_ofInt k h1,toNat_ofInt k h2,Gw k (Nat.lt_of_le_of_lt Nat.and_le_left h1)]
           rfl
 · cases a with
   | negSucc x=>exact h
   | ofNat x=>cases b with
     | negSucc y=>exact h
     | ofNat y=>
       change bc (Nat.ble (r6 k) x) _ (bc (Nat.ble (r6 k) y) _ _)=_ at h
       cases h1:Nat.ble (r6 k) x with
       | true=>rw[h1] at h;exact h
       | false=>cases h2:Nat.ble (r6 k) y with
         | true=>rw[h1,h2] at h;exact h
         | false=>
           rw[h1,h2] at h
           have h1:=jQ h1;have h2:=jQ h2
           rw[←h,eg,eg]
           show some (AV.int k (k.wrap ((BitVec.ofInt k.bits (Int.ofNat x)||| BitVec.ofInt k.bits (Int.ofNat y)).toNat:Int)))=_
           rw[BitVec.toNat_or,toNat_ofInt k h1,toNat_ofInt k h2,Gw k]
           · rfl
           · obtain ⟨m,hm⟩:=MY k
             rw[hm] at h1 h2 ⊢
             exact Nat.or_lt_two_pow h1 h2
 · simpa [dz,E1] using h
 · simpa [dz,E1,tS,bne] using h
 · simpa [dz,Bp] using h
 · simpa [dz,Bp,tS,ya] using h
 · simpa [dz,Bp] using h
 · simpa [dz,Bp,tS,ya] using h
theorem M1 (op:BinOp) (k:IntKind) (a b:Int):(JP op).f k a b=MH op k a b:=by
 cases op<;>rfl
theorem J2 (k:IntKind):JG k=k.bits:=by cases k<;>rfl
theorem Gy (k:IntKind) (y:Nat):JI k y=min y k.bits:=by
 unfold JI;rw[J2]
 cases h:Nat.ble k.bits y
 · have:=jQ h;rw[eg];omega
 · have:=fJ h;rw[iZ];omega
theorem M3 {k:IntKind} {x y:Int} {v:AV} (h:Sq k x y=some v):¬y<0∧v= .int k (k.wrap (x*2^(min y.toNat k.bits))):=by
 obtain ⟨m,rfl,h⟩:=nb h
 refine ⟨by omega,?_⟩
 have h:=Option.some.inj h
 rw[←h,ng,Gv,Gy]
 simp
theorem M4 {k:IntKind} {x y:Int} {v:AV} (h:Sr k x y=some v):¬y<0∧v= .int k (x.fdiv (2^(min y.toNat k.bits))):=by
 obtain ⟨m,rfl,h⟩:=nb h
 refine ⟨by omega,?_⟩
 have h:=Option.some.inj h
 rw[←h]
 cases x with
 | negSucc x=>simp [lg]
 | ofNat x=>
   show AV.int k (Int.ofNat (x/2^JI k m))=_
   rw[Gy]
   simp
   rw[show (2^min m k.bits:Int)=((2^min m k.bits:Nat):Int) by simp]
   exact (Int.fdiv_eq_ediv_of_nonneg _ (Int.natCast_nonneg _)).symm
end Go.Ab.Fa
end
section
namespace Go.Ab.Fa
section
variable {α:Type}
theorem oK (l:List α) (o:Nat):qP l o=l.drop o:=by
 induction l generalizing o with
 | nil=>simp [qP]
 | cons v tl ih=>
   show bc (Nat.beq o 0) (v::tl) (qP tl (o - 1))=_
   rw[ih]
   cases o with
   | zero=>rfl
   | succ o=>simp [show Nat.beq (o+1) 0=false from rfl,eg]
theorem oL (l:List α) (o:Nat):qQ l o=l.take o:=by
 induction l generalizing o with
 | nil=>simp [qQ]
 | cons v tl ih=>
   show bc (Nat.beq o 0) [] (v::qQ tl (o - 1))=_
   rw[ih]
   cases o with
   | zero=>rfl
   | succ o=>simp [show Nat.beq (o+1) 0=false from rfl,eg]
theorem HU (vs:List α):∀(cs:List α) (k:Nat),(CQ vs cs)[k]? =if k<vs.length∧k<cs.length then vs[k]? else cs[k]? :=by
 induction vs with
 | nil=>intro cs k;rw[if_neg (by simp)];rfl
 | cons v vs ih=>
   intro cs k
   cases cs with
   | nil=>rw[if_neg (by simp)];rfl
   | cons c tl=>
     show (v::CQ vs tl)[k]? =_
     cases k with
     | zero=>rw[if_pos (by simp)];rfl
     | succ k=>simp only[List.getElem?_cons_succ,ih,List.length_cons,Nat.add_lt_add_iff_right]
theorem J3 (vs:List α):∀(cs:List α) (o k:Nat),(CS vs cs o)[k]? =if o≤k∧k<o+vs.length∧k<cs.length then vs[k - o]? else cs[k]? :=by
 intro cs
 induction cs with
 | nil=>intro o k;rw[if_neg (by simp)];rfl
 | cons c tl ih=>
   intro o k
   show (bc (Nat.beq o 0) (CQ vs (c::tl)) (c::CS vs tl (o - 1)))[k]? =_
   cases o with
   | zero=>
     show (CQ vs (c::tl))[k]? =_
     rw[HU];simp
   | succ o=>
     show (c::CS vs tl o)[k]? =_
     cases k with
     | zero=>rw[if_neg (by omega)];rfl
     | succ k=>
       rw[List.getElem?_cons_succ,ih,List.getElem?_cons_succ,List.length_cons]
       by_cases h:o≤k∧k<o+vs.length∧k<tl.length
       · rw[if_pos h,if_pos (by omega),show k+1 -(o+1)=k - o by omega]
       · rw[if_neg h,if_neg (by omega)]
end
theorem Bq (vs cs:List AV) (o:Nat):CS vs cs o=setFrom cs o vs:=by
 apply List.ext_getElem?;intro k;rw[J3,kq]
theorem E2 (l m:List UInt8):leq xV l m=(l==m):=by
 have key:∀a b:UInt8,xV a b=(a==b):=by
  intro a b
  unfold xV
  rw[←wH]
  by_cases h:a=b
  · subst h;simp
  · rw[show (a==b)=false by simp [h]]
    rw[beq_eq_false_iff_ne]
    intro e;apply h
    have:a.toNat=b.toNat:=e
    exact UInt8.toNat_inj.mp this
 induction l generalizing m with
 | nil=>cases m<;>rfl
 | cons x tl ih=>
   cases m with
   | nil=>rfl
   | cons y tm=>
     show bc (xV x y) (leq xV tl tm) false=_
     rw[ih,key,m9];rfl
theorem M5 (op:BinOp) (a b:List UInt8):(HR op).f a b=qu op a b:=by
 cases op<;>first | rfl | (simp only[HR,qu,E2,tS])
theorem M6 (v:AV):MI v=AV.scalar v:=by cases v<;>rfl
theorem C7:MI=AV.scalar:=funext M6
theorem HV (v:AV):Be v=true→(match (some v:Option AV) with
 | some (.ptr i o)=>some (.ptr i o)
 | some (.map i)=>some (.map i)
 | some (.slice i o l c b)=>some (.slice i o l c b)
 | some (.func f a b)=>some (.func f a b)
 | _=>none)=some v:=by
 cases v<;>intro h<;>first | rfl | exact absurd h (by intro e;cases e)
theorem C8 {f:TypeId→AV→uP} {why:String} {o:Option Oper} (a:AV):(∃t v,a= .iface t v)∨pC f (.fail why o) a= .fail why o:=by
 cases a with
 | iface t v=>exact .inl ⟨t,v,rfl⟩
 | _=>exact .inr rfl
theorem ly (v:AV):kI v=v.cells:=by cases v<;>rfl
section
variable (E:Env) (F:RF) (n:Nat)
theorem Br {β:Type} (i:Nat) (k:(F.T→AV)→β):∃g,wT F n i k=k g∧∀r,(eU F n r).getD i AV.undef=g r:=by
 unfold wT
 cases h:Nat.ble n i
 · refine ⟨(F.get i).f,rfl,fun r=>?_⟩
   rw[CP,if_pos (jQ h)]
 · refine ⟨fun _=>AV.undef,rfl,fun r=>?_⟩
   rw[CP,if_neg (by have:=fJ h;omega)]
theorem ca {β:Type} (x:Operand) (k:(F.T→AV)→β) (d:β):wO E F n x k d=d∨∃g,wO E F n x k d=k g∧∀r,ez E (eU F n r) x=some (g r):=by
 cases x with
 | tmp t=>
   obtain ⟨g,h1,h2⟩:=Br F n t k
   exact .inr ⟨g,h1,fun r=>by rw[←h2];rfl⟩
 | const v=>
   simp only[wO]
   cases h:ofConst v with
   | none=>exact .inl rfl
   | some a=>exact .inr ⟨fun _=>a,rfl,fun r=>h⟩
 | global g=>
   simp only[wO]
   cases h:Nat.ble E.G g
   · exact .inr ⟨fun _=> .ptr g 0,rfl,fun r=>by rw[ez,if_pos (jQ h)]⟩
   · exact .inl rfl
 | func f=>exact .inr ⟨fun _=> .func f [] [],rfl,fun r=>rfl⟩
theorem rR {β:Type}:∀(l:List Operand) (k:(F.T→List AV)→β) (d:β),wL E F n l k d=d∨∃g,wL E F n l k d=k g∧∀r,fY E (eU F n r) l=some (g r)
 | [],k,d=> .inr ⟨fun _=> [],rfl,fun r=>rfl⟩
 | x::xs,k,d=>by
   rw[wL]
   rcases ca E F n x (fun g=>wL E F n xs (fun gs=>k fun r=>g r::gs r) d) d with h | ⟨g,h,hg⟩
   · exact .inl h
   · rcases rR xs (fun gs=>k fun r=>g r::gs r) d with h' | ⟨gs,h',VQ⟩
     · exact .inl (h.trans h')
     · refine .inr ⟨_,h.trans h',fun r=>?_⟩
       have:=VQ r
       unfold fY at *
       rw[ey,hg r];simp only[this]
theorem GA {β:Type} (o:Option Operand) (k:Option (F.T→AV)→β) (d:β):wP E F n o k d=d∨∃g,wP E F n o k d=k g∧∀r,lS E (eU F n r) o=some (zD g r):=by
 cases o with
 | none=>exact .inr ⟨none,rfl,fun r=>rfl⟩
 | some x=>
   rcases ca E F n x (fun g=>k (some g)) d with h | ⟨g,h,hg⟩
   · exact .inl h
   · exact .inr ⟨some g,h,fun r=>by rw[lS,hg r];rfl⟩
theorem yb {β:Type}:∀(l:List (Nat×Operand)) (k:(F.T→List (Nat×AV))→β) (d:β),MP E F n l k d=d∨∃g,MP E F n l k d=k g∧∀r,jJ E (eU F n r) l=some (g r)
 | [],k,d=> .inr ⟨fun _=> [],rfl,fun r=>rfl⟩
 | (i,x)::xs,k,d=>by
   rw[MP]
   rcases ca E F n x (fun g=>MP E F n xs (fun gs=>k fun r=>(i,g r)::gs r) d) d with h | ⟨g,h,hg⟩
   · exact .inl h
   · rcases yb xs (fun gs=>k fun r=>(i,g r)::gs r) d with h' | ⟨gs,h',VQ⟩
     · exact .inl (h.trans h')
     · refine .inr ⟨_,h.trans h',fun r=>?_⟩
       rw[jJ,hg r];simp only[VQ r]
theorem GB {β:Type} (hn:n≤F.N) (o:Option Tmp) (k:(AV→F.T→F.T)→β):∃s,wS F n o k=k s∧∀v r,dV (eU F n r) o v=eU F n (s v r):=by
 cases o with
 | none=>exact ⟨fun _ r=>r,rfl,fun v r=>rfl⟩
 | some i=>
   show ∃s,bc (Nat.ble n i) (k fun _ r=>r) (wU (F.set i) k)=k s∧_
   cases h:Nat.ble n i
   · exact ⟨(F.set i).f,rfl,fun v r=>MD F n hn r (jQ h) v⟩
   · refine ⟨fun _ r=>r,rfl,fun v r=>?_⟩
     show (eU F n r).set i v=_
     rw[List.set_eq_of_length_le (by rw[iv];exact fJ h)]
theorem nh (t:TypeId):tp E t=cE E t:=by
 unfold tp cE;rw[qS];cases E.P.info? t<;>rfl
theorem J4 (t:TypeId):PN E t=jI E t:=by
 unfold PN jI;rw[qS];cases E.P.info? t<;>rfl
theorem vn (t:TypeId):En E t=gH E t:=by
 unfold En gH;rw[qS]
 cases E.P.info? t with
 | none=>rfl
 | some i=>show ob none (fun z=>ofConst z) i.zero=_;cases h:i.zero<;>simp [ob,h]
theorem PQ (t:TypeId):VP E t=gr E t:=by
 unfold VP gr;rw[iw];rfl
theorem J5 (t:TypeId) (f:Nat):RB E t f=lT E t f:=by
 unfold RB lT;rw[iw]
 generalize E.P.underlying t=u
 cases u with
 | none=>rfl
 | some d=>cases d with
   | struct fs=>show iH fs.toList f=fs[f]?;rw[gY];exact Array.getElem?_toList
   | _=>rfl
def qV (op:Op):Prop:=(∀ts,bH E ts op=none)∧(∀ts h,ef E ts h op=none)∧∀ts,eu E ts op=none
def jR (f g:bx):Prop:=∀F as h,(∀v h',f F as h= .ret v h'→g F as h= .ret v h')∧∀v h',f F as h= .panic v h'→g F as h= .panic v h'
def OA (a b:uP):Prop:=match a with
 | .fail _ _=>True
 | a=>b=a
def f' (op:Op):Kd F.T→Prop
 | .Cd g=>∀r,bH E (eU F n r) op=some (g r)
 | .gR f=>∀r v,f r=some v→bH E (eU F n r) op=some v
 | .red f=>∀r h v,f r h=some v→bH E (eU F n r) op=some v∨(bH E (eU F n r) op=none∧ef E (eU F n r) h op=some v)
 | .qz f=>(∀ts,bH E ts op=none)∧(∀ts h,ef E ts h op=none)∧∀r p,f r=some p→eu E (eU F n r) op=some p
 | .wr f=>qV E op∧∀call r h rc o p,o.op=op→f r h=some p→dv E call (eU F n r) h rc o= .val p.1 p.2
 | .call g args=>qV E op∧∀call r h rc o,o.op=op→dv E call (eU F n r) h rc o=lW (call g (args r) h)
 | .rZ f=>qV E op∧∀fc call,jR fc call→∀r h rc o,o.op=op→OA (f fc r h rc) (dv E call (eU F n r) h rc o)
 | .bad=>True
end
end Go.Ab.Fa
end
section
namespace Go.Ab.Fa
variable {E:Env} {F:RF} {n:Nat}
theorem M7 {op:BinOp} (h1:op≠ .shl) (h2:op≠ .shr) {t:TypeId} {xc yc:Bool} {a b v:AV} (h:MO (JP op).f (HR op).f (kD E op t xc yc) a b=some v):kD E op t xc yc a b=some v:=by
 unfold MO at h
 cases a with
 | int k x=>
   obtain ⟨j,y,rfl,h3⟩:=ji (show oH (fun j y=>bc (JF k j) ((JP op).f k x y) none) none b=some v from h)
   obtain ⟨hk,h4⟩:=fU h3
   have hk:=Gu hk
   rw[M1] at h4
   have:=MZ op k x y h4
   rw[←hk]
   cases op<;>first | exact absurd rfl h1 | exact absurd rfl h2 | simpa [kD] using this
 | str s=>
   obtain ⟨s',rfl,h3⟩:=m_ (show pB (fun t=>(HR op).f s t) none b=some v from h)
   rw[M5] at h3
   cases op<;>first | exact absurd rfl h1 | exact absurd rfl h2 | simpa [kD] using h3
 | _=>exact h
theorem M8 (op:BinOp) (t:TypeId) (x y:Operand) (yt:TypeId) (gx gy:F.T→AV) (hx:∀r,ez E (eU F n r) x=some (gx r)) (hy:∀r,ez E (eU F n r) y=some (gy r)):
 f' E F n (.binOp op t x y yt) (eW op (kD E op t (isConst x) (isConst y)) gx gy):=by
 have red:∀r,bH E (eU F n r) (.binOp op t x y yt)=kD E op t (isConst x) (isConst y) (gx r) (gy r):=by
  intro r;simp only[bH,hx,hy]
 by_cases h1:op= .shl
 · subst h1
   intro r v h
   rw[red]
   obtain ⟨k,m,e1,h⟩:=ji h
   obtain ⟨k',m',e2,h⟩:=ji h
   obtain ⟨h3,rfl⟩:=M3 h
   rw[e1,e2];simp [kD,h3]
 by_cases h2:op= .shr
 · subst h2
   intro r v h
   rw[red]
   obtain ⟨k,m,e1,h⟩:=ji h
   obtain ⟨k',m',e2,h⟩:=ji h
   obtain ⟨h3,rfl⟩:=M4 h
   rw[e1,e2];simp [kD,h3]
 have:eW op (kD E op t (isConst x) (isConst y)) gx gy= .gR fun r=>MO (JP op).f (HR op).f (kD E op t (isConst x) (isConst y)) (gx r) (gy r):=by
  cases op<;>first | exact absurd rfl h1 | exact absurd rfl h2 | rfl
 rw[this]
 intro r v h
 rw[red]
 exact M7 h1 h2 h
theorem PS (op:UnOp) (t:TypeId) (x:Operand) (g:F.T→AV) (hg:∀r,ez E (eU F n r) x=some (g r)):f' E F n (.unOp op t x) (Ss op g):=by
 have red:∀r,bH E (eU F n r) (.unOp op t x)=Rl op (g r):=by intro r;simp only[bH,hg]
 cases op with
 | not=>
   intro r v h
   rw[red]
   obtain ⟨b,e,h⟩:=Al h
   rw[e,←h,tS];rfl
 | _=>intro r v h;rw[red];exact h
theorem J6 {t:TypeId} {m:Nat} (h1:gr E t=some true) (h2:cE E t=some m) {cs:List AV} {o:Nat} {v:AV} (h:JR m cs o=some v):je E t cs o=some v:=by
 unfold JR at h
 obtain ⟨h3,h⟩:=fU h
 have h3:=fJ h3
 rw[fT] at h3
 unfold je
 rw[h1,h2]
 simp only
 rw[if_pos (show o+m≤cs.length from h3),←h,oL,oK]
theorem J7 {t:TypeId} (h1:gr E t=some false) {cs:List AV} {o:Nat} {v:AV} (h:JQ cs o=some v):je E t cs o=some v:=by
 unfold JQ at h
 rw[gY] at h
 unfold je
 rw[h1];exact h
theorem yd {T:Type} (t:TypeId) (k:(List AV→Nat→Option AV)→Kd T):tR E t k= .bad∨∃p,tR E t k=k p∧∀cs o v,p cs o=some v→je E t cs o=some v:=by
 unfold tR
 rw[PQ]
 cases h:gr E t with
 | none=>exact .inl rfl
 | some b=>cases b with
   | false=>exact .inr ⟨_,rfl,fun cs o v=>J7 h⟩
   | true=>
     simp only
     rw[nh]
     cases h2:cE E t with
     | none=>exact .inl rfl
     | some m=>exact .inr ⟨_,rfl,fun cs o v=>J6 h h2⟩
theorem J8 {t:TypeId} {p:List AV→Nat→Option AV} (hp:∀cs o v,p cs o=some v→je E t cs o=some v) {h:ar} {a v:AV} (e:C1 p h a=some v):bN E h t a=some v:=by
 obtain ⟨i,o,rfl,e⟩:=qU e
 obtain ⟨obj,e1,e⟩:=gM e
 obtain ⟨cs,el,ro,rfl,e⟩:=pH e
 simp only[bN,e1]
 exact hp _ _ _ e
theorem M9 (t:TypeId) (a:Operand):f' E F n (.load t a) (wO E F n a (fun g=>tR E t fun p=> .red fun r h=>C1 p h (g r)) .bad):=by
 rcases ca E F n a (fun g=>tR E t fun p=>(.red fun r h=>C1 p h (g r):Kd F.T)) .bad with h | ⟨g,h,hg⟩<;>rw[h]
 · trivial
 · rcases yd (E:=E) t (fun p=>(.red fun r h=>C1 p h (g r):Kd F.T)) with h | ⟨p,h,hp⟩<;>rw[h]
   · trivial
   · intro r h v e
     refine .inr ⟨rfl,?_⟩
     simp only[ef,hg]
     exact J8 hp e
theorem J9 (s:TypeId) (x:Operand) (f:Nat):f' E F n (.field s x f) (match RB E s f with
 | some fd=>wO E F n x (fun g=>tR E fd.type fun p=> .gR fun r=>vg (fun cs=>p cs fd.offset) (fun _=>none) none (g r)) .bad
 | none=> .bad):=by
 rw[J5]
 cases h0:lT E s f with
 | none=>trivial
 | some fd=>
   simp only
   rcases ca E F n x (fun g=>tR E fd.type fun p=>(.gR fun r=>vg (fun cs=>p cs fd.offset) (fun _=>none) none (g r):Kd F.T)) .bad with h | ⟨g,h,hg⟩<;>rw[h]
   · trivial
   · rcases yd (E:=E) fd.type (fun p=>(.gR fun r=>vg (fun cs=>p cs fd.offset) (fun _=>none) none (g r):Kd F.T)) with h | ⟨p,h,hp⟩<;>rw[h]
     · trivial
     · intro r v e
       change vg (fun cs=>p cs fd.offset) (fun _=>none) none (g r)=some v at e
       simp only[bH,h0,hg]
       cases hv:g r with
       | agg cs=>rw[hv] at e;exact hp _ _ _ e
       | _=>rw[hv] at e;exact absurd e (by intro e;cases e)
theorem Bs (s:TypeId) (x:Operand) (f:Nat):f' E F n (.fieldAddr s x f) (match RB E s f with
 | some fd=>match tp E fd.type with
   | some (_+1)=>wO E F n x (fun g=> .gR fun r=>vf (fun i o=>some (.ptr i (Nat.add o fd.offset))) none (g r)) .bad
   | _=> .bad
 | none=> .bad):=by
 rw[J5]
 cases h0:lT E s f with
 | none=>trivial
 | some fd=>
   simp only
   rw[nh]
   cases h1:cE E fd.type with
   | none=>trivial
   | some m=>cases m with
     | zero=>trivial
     | succ m=>
       simp only
       rcases ca E F n x (fun g=>(.gR fun r=>vf (fun i o=>some (.ptr i (Nat.add o fd.offset))) none (g r):Kd F.T)) .bad with h | ⟨g,h,hg⟩<;>rw[h]
       · trivial
       · intro r v e
         obtain ⟨i,o,e1,e⟩:=qU e
         simp only[bH,h0,hg,e1,h1]
         rw[if_neg (by omega)];exact e
theorem C9 (x:Operand):f' E F n (.nilCheck x) (wO E F n x (fun g=> .gR fun r=>bc (Be (g r)) (some (g r)) none) .bad):=by
 rcases ca E F n x (fun g=>(.gR fun r=>bc (Be (g r)) (some (g r)) none:Kd F.T)) .bad with h | ⟨g,h,hg⟩<;>rw[h]
 · trivial
 · intro r v e
   obtain ⟨h1,e⟩:=fU e
   simp only[bH,hg]
   rw[←e]
   exact HV _ h1
theorem E3 (x:Operand) (i:Nat):f' E F n (.extract x i) (wO E F n x (fun g=> .gR fun r=>vg (fun _=>none) (fun vs=>iH vs i) none (g r)) .bad):=by
 rcases ca E F n x (fun g=>(.gR fun r=>vg (fun _=>none) (fun vs=>iH vs i) none (g r):Kd F.T)) .bad with h | ⟨g,h,hg⟩<;>rw[h]
 · trivial
 · intro r v e
   change vg (fun _=>none) (fun vs=>iH vs i) none (g r)=some v at e
   simp only[bH,hg]
   cases hv:g r with
   | tuple cs=>rw[hv] at e;show cs[i]? =some v;rw[←gY];exact e
   | _=>rw[hv] at e;exact absurd e (by intro e;cases e)
theorem M_ (c a b:Operand):f' E F n (.pick c a b) (wO E F n c (fun gc=>wO E F n a (fun ga=>wO E F n b (fun gb=> .gR fun r=>jg (fun t=>bc t (some (ga r)) (some (gb r))) none (gc r)) .bad) .bad) .bad):=by
 rcases ca E F n c (fun gc=>wO E F n a (fun ga=>wO E F n b (fun gb=>(.gR fun r=>jg (fun t=>bc t (some (ga r)) (some (gb r))) none (gc r):Kd F.T)) .bad) .bad) .bad with h | ⟨gc,h,hc⟩<;>rw[h]
 · trivial
 rcases ca E F n a (fun ga=>wO E F n b (fun gb=>(.gR fun r=>jg (fun t=>bc t (some (ga r)) (some (gb r))) none (gc r):Kd F.T)) .bad) .bad with h | ⟨ga,h,ha⟩<;>rw[h]
 · trivial
 rcases ca E F n b (fun gb=>(.gR fun r=>jg (fun t=>bc t (some (ga r)) (some (gb r))) none (gc r):Kd F.T)) .bad with h | ⟨gb,h,hb⟩<;>rw[h]
 · trivial
 intro r v e
 obtain ⟨t,e1,e⟩:=Al e
 simp only[bH,hc,e1]
 cases t
 · simp only[hb];exact e
 · simp only[ha];exact e
theorem GC {len size i o:Nat} {ix v:AV} (e:Bm len size i o ix=some v):∃k m,ix= .int k m∧0≤m∧m<len∧v= .ptr i (o+m.toNat*size):=by
 obtain ⟨k,m,rfl,e⟩:=ji e
 obtain ⟨m',rfl,e⟩:=nb e
 obtain ⟨h1,e⟩:=pG e
 have h1:=jQ h1
 exact ⟨k,m',rfl,by omega,by omega,(Option.some.inj e).symm⟩
theorem Bt (t:TypeId) (x ix:Operand):f' E F n (.indexAddr t x ix) (wO E F n x (fun gx=>wO E F n ix (fun gi=>match jB E.P t with
 | some (.array len elem)=>match tp E elem with
   | some size=> .gR fun r=>vf (fun i o=>Bm len size i o (gi r)) none (gx r)
   | none=> .bad
 | some (.slice elem)=>match tp E elem with
   | some size=> .gR fun r=>jh none (fun i o len _ _=>Bm len size i o (gi r)) none (gx r)
   | none=> .bad
 | _=> .bad) .bad) .bad):=by
 rw[iw]
 rcases ca E F n x (fun gx=>wO E F n ix (fun gi=>match E.P.underlying t with
  | some (.array len elem)=>match tp E elem with
    | some size=>(.gR fun r=>vf (fun i o=>Bm len size i o (gi r)) none (gx r):Kd F.T)
    | none=> .bad
  | some (.slice elem)=>match tp E elem with
    | some size=> .gR fun r=>jh none (fun i o len _ _=>Bm len size i o (gi r)) none (gx r)
    | none=> .bad
  | _=> .bad) .bad) .bad with h | ⟨gx,h,hx⟩<;>rw[h]
 · trivial
 rcases ca E F n ix (fun gi=>match E.P.underlying t with
  | some (.array len elem)=>match tp E elem with
    | some size=>(.gR fun r=>vf (fun i o=>Bm len size i o (gi r)) none (gx r):Kd F.T)
    | none=> .bad
  | some (.slice elem)=>match tp E elem with
    | some size=> .gR fun r=>jh none (fun i o len _ _=>Bm len size i o (gi r)) none (gx r)
    | none=> .bad
  | _=> .bad) .bad with h | ⟨gi,h,hi⟩<;>rw[h]
 · trivial
 cases hu:E.P.underlying t with
 | none=>trivial
 | some d=>cases d with
   | array len elem=>
     simp only
     rw[nh]
     cases hs:cE E elem with
     | none=>trivial
     | some size=>
       intro r v e
       obtain ⟨i,o,e1,e⟩:=qU e
       obtain ⟨k,m,e2,h1,h2,rfl⟩:=GC e
       simp only[bH,hu,hx,hi,e1,e2,hs]
       rw[if_pos ⟨h1,h2⟩]
   | slice elem=>
     simp only
     rw[nh]
     cases hs:cE E elem with
     | none=>trivial
     | some size=>
       intro r v e
       rcases na e with ⟨_,e⟩ | ⟨i,o,l,c,b,e1,e⟩
       · cases e
       obtain ⟨k,m,e2,h1,h2,rfl⟩:=GC e
       simp only[bH,hu,hx,hi,e1,e2,hs]
       rw[if_pos ⟨h1,h2⟩]
   | _=>trivial
theorem J_ (t:TypeId) (x ix:Operand):f' E F n (.index t x ix) (wO E F n x (fun gx=>wO E F n ix (fun gi=>match jB E.P t with
 | some .string=> .gR fun r=>pB (fun s=>oH (fun _ i=>lg (fun m=>ob none (fun (b:UInt8)=>some (.int .u8 (Int.ofNat b.toNat))) (iH s m)) none i) none (gi r)) none (gx r)
 | _=> .gR fun r=>bH E (eU F n r) (.index t x ix)) .bad) .bad):=by
 rw[iw]
 rcases ca E F n x (fun gx=>wO E F n ix (fun gi=>match E.P.underlying t with
  | some .string=>(.gR fun r=>pB (fun s=>oH (fun _ i=>lg (fun m=>ob none (fun (b:UInt8)=>some (.int .u8 (Int.ofNat b.toNat))) (iH s m)) none i) none (gi r)) none (gx r):Kd F.T)
  | _=> .gR fun r=>bH E (eU F n r) (.index t x ix)) .bad) .bad with h | ⟨gx,h,hx⟩<;>rw[h]
 · trivial
 rcases ca E F n ix (fun gi=>match E.P.underlying t with
  | some .string=>(.gR fun r=>pB (fun s=>oH (fun _ i=>lg (fun m=>ob none (fun (b:UInt8)=>some (.int .u8 (Int.ofNat b.toNat))) (iH s m)) none i) none (gi r)) none (gx r):Kd F.T)
  | _=> .gR fun r=>bH E (eU F n r) (.index t x ix)) .bad with h | ⟨gi,h,hi⟩<;>rw[h]
 · trivial
 cases hu:E.P.underlying t with
 | none=>intro r v e;exact e
 | some d=>cases d with
   | string=>
     intro r v e
     obtain ⟨s,e1,e⟩:=m_ e
     obtain ⟨k,m,e2,e⟩:=ji e
     obtain ⟨m',rfl,e⟩:=nb e
     obtain ⟨b,e3,e⟩:=gM e
     rw[gY] at e3
     simp only[bH,hu,hx,hi,e1,e2]
     rw[if_pos (by omega)]
     rw[show ((m':Int).toNat)=m' from rfl,e3]
     exact e
   | _=>intro r v e;exact e
theorem nR {d y:Nat} {o:Option AV} {k:Nat→Option AV} {v:AV} (e:Bn d y o k=some v):∃m,(match o with | some v=>mP v y | none=>some d)=some m∧k m=some v:=by
 cases o with
 | none=>exact ⟨d,rfl,e⟩
 | some a=>
   obtain ⟨kk,i,rfl,e⟩:=ji (show oH (fun _ i=>lg (fun m=>bc (Nat.ble m y) (k m) none) none i) none a=some v from e)
   obtain ⟨m,rfl,e⟩:=nb e
   obtain ⟨h1,e⟩:=fU e
   have h1:=fJ h1
   refine ⟨m,?_,e⟩
   simp only[mP]
   rw[if_pos (by omega)];rfl
theorem rS {len cap h l:Nat} {lo hi:Option AV} (h1:(match hi with | some v=>mP v cap | none=>some len)=some h)
 (h2:(match lo with | some v=>mP v h | none=>some 0)=some l):j7 len cap lo hi none=some (l,h,cap):=by
 cases hi with
 | none=>cases lo with
   | none=>cases h1;cases h2;rfl
   | some b=>cases h1;simp only[j7,Option.isSome_none];simp at h2;simp [h2]
 | some a=>cases lo with
   | none=>cases h2;simp only[j7];simp at h1;simp [h1]
   | some b=>simp only[j7];simp at h1 h2;simp [h1,h2]
theorem PT {t elem:TypeId} {size:Nat} (hu:E.P.underlying t=some (.slice elem)) (hs:cE E elem=some size) {lo hi:Option AV} {x v:AV} (e:Uy size lo hi x=some v):fR E t x lo hi none=some v:=by
 rcases na e with ⟨rfl,e1⟩ | ⟨i,o,len,cap,op,rfl,e1⟩
 · obtain ⟨h,h1,e2⟩:=nR e1
   obtain ⟨l,h2,e3⟩:=nR e2
   simp only[fR,hu,rS h1 h2,hs]
   exact e3
 · obtain ⟨h0,e2⟩:=fU e1
   have h0:=fJ h0
   obtain ⟨h,h1,e3⟩:=nR e2
   obtain ⟨l,h2,e4⟩:=nR e3
   simp only[fR,hu,rS h1 h2,hs]
   rw[if_pos h0]
   cases h3:Nat.beq cap l
   · rw[h3,eg] at e4
     have:¬cap=l:=by intro ee;rw[ee,Nat.beq_refl] at h3;cases h3
     rw[if_neg this]
     simpa using e4
   · rw[h3,iZ] at e4
     rw[if_pos (mq h3)]
     cases op
     · rw[eg] at e4;simpa using e4
     · rw[iZ] at e4;simpa using e4
theorem PU {t:TypeId} (hu:E.P.underlying t=some .string) {lo hi:Option AV} {x v:AV} (e:Uz lo hi x=some v):fR E t x lo hi none=some v:=by
 obtain ⟨s,rfl,e1⟩:=m_ e
 obtain ⟨h,h1,e2⟩:=nR e1
 obtain ⟨l,h2,e3⟩:=nR e2
 rw[fT] at h1
 simp only[fR,hu,rS h1 h2]
 rw[←e3,oL,oK];rfl
theorem PV {t elem:TypeId} {m size:Nat} (hu:E.P.underlying t=some (.array m elem)) (hs:cE E elem=some size) {lo hi:Option AV} {x v:AV} (e:UA m size lo hi x=some v):fR E t x lo hi none=some v:=by
 obtain ⟨i,o,rfl,e1⟩:=qU e
 obtain ⟨h,h1,e2⟩:=nR e1
 obtain ⟨l,h2,e3⟩:=nR e2
 simp only[fR,hu,rS h1 h2,hs]
 rw[←Option.some.inj e3]
 cases h3:Nat.beq m l
 · have:¬m=l:=by intro ee;rw[ee,Nat.beq_refl] at h3;cases h3
   rw[if_neg this];rfl
 · rw[if_pos (mq h3)];rfl
theorem J' (t:TypeId) (x:Operand) (lo hi:Option Operand):f' E F n (.slice t x lo hi none) (wO E F n x (fun gx=>wP E F n lo (fun gl=>wP E F n hi (fun gh=>match jB E.P t with
 | some (.slice elem)=>match tp E elem with
   | some size=> .gR fun r=>Uy size (zD gl r) (zD gh r) (gx r)
   | none=> .bad
 | some .string=> .gR fun r=>Uz (zD gl r) (zD gh r) (gx r)
 | some (.array m elem)=>match tp E elem with
   | some size=> .gR fun r=>UA m size (zD gl r) (zD gh r) (gx r)
   | none=> .bad
 | _=> .gR fun r=>bH E (eU F n r) (.slice t x lo hi none)) .bad) .bad) .bad):=by
 rw[iw]
 let K:(F.T→AV)→Option (F.T→AV)→Option (F.T→AV)→Kd F.T:=fun gx gl gh=>match E.P.underlying t with
  | some (.slice elem)=>match tp E elem with
    | some size=> .gR fun r=>Uy size (zD gl r) (zD gh r) (gx r)
    | none=> .bad
  | some .string=> .gR fun r=>Uz (zD gl r) (zD gh r) (gx r)
  | some (.array m elem)=>match tp E elem with
    | some size=> .gR fun r=>UA m size (zD gl r) (zD gh r) (gx r)
    | none=> .bad
  | _=> .gR fun r=>bH E (eU F n r) (.slice t x lo hi none)
 show f' E F n _ (wO E F n x (fun gx=>wP E F n lo (fun gl=>wP E F n hi (fun gh=>K gx gl gh) .bad) .bad) .bad)
 rcases ca E F n x (fun gx=>wP E F n lo (fun gl=>wP E F n hi (fun gh=>K gx gl gh) .bad) .bad) .bad with h | ⟨gx,h,hx⟩<;>rw[h]
 · trivial
 rcases GA E F n lo (fun gl=>wP E F n hi (fun gh=>K gx gl gh) .bad) .bad with h | ⟨gl,h,hl⟩<;>rw[h]
 · trivial
 rcases GA E F n hi (fun gh=>K gx gl gh) .bad with h | ⟨gh,h,hh⟩<;>rw[h]
 · trivial
 have red:∀r,bH E (eU F n r) (.slice t x lo hi none)=fR E t (gx r) (zD gl r) (zD gh r) none:=by
  intro r;simp only[bH,hx,hl,hh];rfl
 simp only[K]
 cases hu:E.P.underlying t with
 | none=>intro r v e;exact e
 | some d=>cases d with
   | string=>intro r v e;rw[red];exact PU hu e
   | array m elem=>
     simp only
     rw[nh]
     cases hs:cE E elem with
     | none=>trivial
     | some size=>intro r v e;rw[red];exact PV hu hs e
   | slice elem=>
     simp only
     rw[nh]
     cases hs:cE E elem with
     | none=>trivial
     | some size=>intro r v e;rw[red];exact PT hu hs e
   | _=>intro r v e;exact e
end Go.Ab.Fa
end
section
namespace Go.Ab.Fa
variable {E:Env} {F:RF} {n:Nat}
theorem HW {t:TypeId} {m:Nat} (hs:cE E t=some m) {h:ar} {a v:AV} {p:AV×ar} (e:x7 m h a v=some p):p.1=AV.undef∧h_ E h t a v=some p.2:=by
 obtain ⟨i,o,rfl,e1⟩:=qU e
 obtain ⟨obj,h1,e2⟩:=gM e1
 obtain ⟨cs,el,ro,rfl,e3⟩:=pH e2
 obtain ⟨h2,e4⟩:=pG e3
 obtain ⟨h3,e5⟩:=fU e4
 obtain ⟨h4,e6⟩:=fU e5
 obtain ⟨h5,e7⟩:=fU e6
 have h3:=mq h3
 have h4:=fJ h4
 rw[fT,ly] at h3
 rw[fT] at h4
 rw[pD,C7,ly] at h5
 have e8:=Option.some.inj e7
 subst h2
 refine ⟨by rw[←e8],?_⟩
 simp only[h_,h1,hs]
 rw[if_pos ⟨h3,h4,h5⟩,←e8,Bq,ly]
theorem C_ {t:TypeId} {a x:Operand}:qV E (.store t a x):=⟨fun _=>rfl,fun _ _=>rfl,fun _=>rfl⟩
theorem Ka (t:TypeId) (a x:Operand):f' E F n (.store t a x) (match tp E t with
 | some m=>wO E F n a (fun ga=>wO E F n x (fun gx=> .wr fun r h=>x7 m h (ga r) (gx r)) .bad) .bad
 | none=> .bad):=by
 rw[nh]
 cases hs:cE E t with
 | none=>trivial
 | some m=>
   simp only
   rcases ca E F n a (fun ga=>wO E F n x (fun gx=>(.wr fun r h=>x7 m h (ga r) (gx r):Kd F.T)) .bad) .bad with h | ⟨ga,h,ha⟩<;>rw[h]
   · trivial
   rcases ca E F n x (fun gx=>(.wr fun r h=>x7 m h (ga r) (gx r):Kd F.T)) .bad with h | ⟨gx,h,hx⟩<;>rw[h]
   · trivial
   refine ⟨C_,fun call r h rc o p ho e=>?_⟩
   obtain ⟨h1,h2⟩:=HW hs e
   simp only[dv,ho,ha,hx,h2,h1]
theorem vo (t:TypeId) (x:Operand):f' E F n (.makeInterface t x) (match jB E.P t with
 | some (.interface _)=> .bad
 | some _=>wO E F n x (fun g=> .Cd fun r=> .iface t (g r)) .bad
 | none=> .bad):=by
 rw[iw]
 cases hu:E.P.underlying t with
 | none=>trivial
 | some d=>
   cases d with
   | interface ms=>trivial
   | _=>
     simp only
     rcases ca E F n x (fun g=>(.Cd fun r=> .iface t (g r):Kd F.T)) .bad with h | ⟨g,h,hg⟩<;>rw[h]
     · trivial
     · intro r;simp only[bH,hu,hg]
theorem Da (f:FuncId) (a b:Array Operand):f' E F n (.makeFunc (.func f) a b) (wL E F n a.toList (fun ga=>wL E F n b.toList (fun gb=> .Cd fun r=> .func f (ga r) (gb r)) .bad) .bad):=by
 rcases rR E F n a.toList (fun ga=>wL E F n b.toList (fun gb=>(.Cd fun r=> .func f (ga r) (gb r):Kd F.T)) .bad) .bad with h | ⟨ga,h,ha⟩<;>rw[h]
 · trivial
 rcases rR E F n b.toList (fun gb=>(.Cd fun r=> .func f (ga r) (gb r):Kd F.T)) .bad with h | ⟨gb,h,hb⟩<;>rw[h]
 · trivial
 intro r;simp only[bH,ha,hb]
theorem Kb (t:TypeId):f' E F n (.alloc t) (match En E t with
 | some z=> .qz fun _=>some (.cells z.cells t false,fun i=> .ptr i 0)
 | none=> .bad):=by
 rw[vn]
 cases hz:gH E t with
 | none=>trivial
 | some z=>exact ⟨fun _=>rfl,fun _ _=>rfl,fun r p e=>by simp only[eu,hz];exact e⟩
theorem PW (t:TypeId) (x:Operand):f' E F n (.box t x) (wO E F n x (fun g=> .qz fun r=>some (.cells (kI (g r)) t false,fun i=> .ptr i 0)) .bad):=by
 rcases ca E F n x (fun g=>(.qz fun r=>some (.cells (kI (g r)) t false,fun i=> .ptr i 0):Kd F.T)) .bad with h | ⟨g,h,hg⟩<;>rw[h]
 · trivial
 · exact ⟨fun _=>rfl,fun _ _=>rfl,fun r p e=>by simp only[eu,hg];rw[←ly];exact e⟩
theorem zE (t:TypeId) (len:Nat) (parts:Array (Nat×Operand)):f' E F n (.buildSlice t len parts) (match jB E.P t with
 | some (.slice elem)=>match tp E elem,En E elem with
   | some m,some z=>if z.cells.length=m∧len*m≤2^24 then MP E F n parts.toList (fun gp=> .qz fun r=>ob none (fun cs=>some (.cells cs elem false,fun i=> .slice i 0 len len false)) (pZ (fun i=>some (i*m,m)) (gu z.cells len) (gp r))) .bad else .bad
   | _,_=> .bad
 | _=> .bad):=by
 rw[iw]
 cases hu:E.P.underlying t with
 | none=>trivial
 | some d=>cases d with
   | slice elem=>
     simp only
     rw[nh,vn]
     cases hs:cE E elem with
     | none=>trivial
     | some m=>cases hz:gH E elem with
       | none=>trivial
       | some z=>
         simp only
         by_cases hc:z.cells.length=m∧len*m≤2^24
         · rw[if_pos hc]
           rcases yb E F n parts.toList (fun gp=>(.qz fun r=>ob none (fun cs=>some (.cells cs elem false,fun i=> .slice i 0 len len false)) (pZ (fun i=>some (i*m,m)) (gu z.cells len) (gp r)):Kd F.T)) .bad with h | ⟨g,h,hg⟩<;>rw[h]
           · trivial
           · refine ⟨fun _=>rfl,fun _ _=>rfl,fun r p e=>?_⟩
             obtain ⟨cs,h1,e⟩:=gM e
             simp only[eu,hu,hs,hz,hg]
             rw[if_pos hc];simp only[h1];exact e
         · rw[if_neg hc];trivial
   | _=>trivial
theorem M' (z:List AV) (m:Nat):PO z m=gu z m:=by
 induction m with
 | zero=>rfl
 | succ m ih=>show ky z (PO z m)=_;rw[mG,ih];rfl
theorem Bu (t:TypeId) (l c:Operand):f' E F n (.makeSlice t l c) (wO E F n l (fun gl=>wO E F n c (fun gc=>match jB E.P t with
 | some (.slice elem)=>match tp E elem,PN E elem,En E elem with
   | some m,some bytes,some z=>if z.cells.length=m then .qz fun r=>MQ elem bytes z.cells (gl r) (gc r) else .bad
   | _,_,_=> .bad
 | _=> .bad) .bad) .bad):=by
 rw[iw]
 rcases ca E F n l (fun gl=>wO E F n c (fun gc=>match E.P.underlying t with
  | some (.slice elem)=>match tp E elem,PN E elem,En E elem with
    | some m,some bytes,some z=>if z.cells.length=m then (.qz fun r=>MQ elem bytes z.cells (gl r) (gc r):Kd F.T) else .bad
    | _,_,_=> .bad
  | _=> .bad) .bad) .bad with h | ⟨gl,h,hl⟩<;>rw[h]
 · trivial
 rcases ca E F n c (fun gc=>match E.P.underlying t with
  | some (.slice elem)=>match tp E elem,PN E elem,En E elem with
    | some m,some bytes,some z=>if z.cells.length=m then (.qz fun r=>MQ elem bytes z.cells (gl r) (gc r):Kd F.T) else .bad
    | _,_,_=> .bad
  | _=> .bad) .bad with h | ⟨gc,h,hc⟩<;>rw[h]
 · trivial
 cases hu:E.P.underlying t with
 | none=>trivial
 | some d=>cases d with
   | slice elem=>
     simp only
     rw[nh,J4,vn]
     cases hs:cE E elem with
     | none=>trivial
     | some m=>cases hb:jI E elem with
       | none=>trivial
       | some bytes=>cases hz:gH E elem with
         | none=>trivial
         | some z=>
           simp only
           by_cases hm:z.cells.length=m
           · rw[if_pos hm]
             refine ⟨fun _=>rfl,fun _ _=>rfl,fun r p e=>?_⟩
             obtain ⟨k1,a,e1,q1⟩:=ji e
             obtain ⟨k2,b,e2,q2⟩:=ji q1
             obtain ⟨a',rfl,q3⟩:=nb q2
             obtain ⟨b',rfl,q4⟩:=nb q3
             obtain ⟨c1,q5⟩:=fU q4
             obtain ⟨c2,q6⟩:=pG q5
             obtain ⟨c3,q7⟩:=fU q6
             have c1:=fJ c1
             have c2:=jQ c2
             have c3:bytes*b'≤140737488355328:=fJ c3
             simp only[eu,hu,hs,hb,hz,hl,hc,e1,e2]
             rw[if_pos ⟨by omega,by omega,by omega,by have:(bytes:Int)*(b':Int)=((bytes*b':Nat):Int):=by simp
                                                      rw[this];omega,hm⟩]
             rw[←q7,M'];rfl
           · rw[if_neg hm];trivial
   | _=>trivial
theorem Db (k:List UInt8):∀(l:List kh) (i:Nat) {x:Option AV},findF k l=some x→∃y,qw (.str k) l i=some y∧y.map (·.2)=x
 | [],i,x,h=>⟨none,rfl,by cases h;rfl⟩
 | e::es,i,x,h=>by
   obtain ⟨s,h1,h2⟩:=m_ (show pB (fun s=>bc (leq xV k s) (some (some e.val)) (findF k es)) none e.key=some x from h)
   rw[E2] at h2
   rw[qw,h1]
   show ∃y,(match (some (k==s):Option Bool) with | some true=>some (some (i,e.val)) | some false=>qw (.str k) es (i+1) | none=>none)=some y∧_
   cases hb:k==s with
   | true=>
     rw[hb,iZ] at h2
     exact ⟨some (i,e.val),rfl,Option.some.inj h2⟩
   | false=>
     rw[hb,eg] at h2
     exact Db k es (i+1) h2
noncomputable def SA (h:ar) (m:AV):Option (List kh):=match m with
 | .ea=>some []
 | .map i=>(match h.get i with | some (.map es _)=>some es | _=>none)
 | _=>none
theorem Kc {z:AV} {ok:Bool} {h:ar} {m k v:AV} (e:Gj z ok h m k=some v):
 (∃s,k= .str s)∧∃es,(match m with | .ea=>some [] | .map i=>(match h.get i with | some (.map es _)=>some es | _=>none) | _=>none)=some es∧
  ∃y,qw k es 0=some y∧v=(match y with | some (_,w)=>(if ok then .tuple [w,.bool true] else w) | none=>if ok then .tuple [z,.bool false] else z):=by
 obtain ⟨s,rfl,e1⟩:=m_ e
 obtain ⟨es,h1,e2⟩:=gM e1
 obtain ⟨x,h2,e3⟩:=gM e2
 refine ⟨⟨s,rfl⟩,es,?_,?_⟩
 · cases m with
   | ea=>exact h1
   | map i=>
     obtain ⟨o,h3,h4⟩:=gM (show ob none (fun o=>MR (fun es=>some es) none o) (h.get i)=some es from h1)
     simp only[h3]
     cases o with
     | map ka c=>exact h4
     | _=>cases h4
   | _=>cases h1
 · obtain ⟨y,h3,h4⟩:=Db s es 0 h2
   refine ⟨y,h3,?_⟩
   have e4:=Option.some.inj e3
   rw[←e4,←h4]
   cases y with
   | none=>cases ok<;>rfl
   | some y=>obtain ⟨_,w⟩:=y;cases ok<;>rfl
theorem HX (t:TypeId) (x ix:Operand) (ok:Bool):f' E F n (.lookup t x ix ok) (wO E F n x (fun gx=>wO E F n ix (fun gi=>match jB E.P t with
 | some (.map key elem)=>match jB E.P key,En E elem with
   | some .string,some z=> .red fun r h=>Gj z ok h (gx r) (gi r)
   | _,_=> .red fun r h=>ef E (eU F n r) h (.lookup t x ix ok)
 | _=> .bad) .bad) .bad):=by
 let K:(F.T→AV)→(F.T→AV)→Kd F.T:=fun gx gi=>match jB E.P t with
  | some (.map key elem)=>match jB E.P key,En E elem with
    | some .string,some z=> .red fun r h=>Gj z ok h (gx r) (gi r)
    | _,_=> .red fun r h=>ef E (eU F n r) h (.lookup t x ix ok)
  | _=> .bad
 show f' E F n _ (wO E F n x (fun gx=>wO E F n ix (fun gi=>K gx gi) .bad) .bad)
 rcases ca E F n x (fun gx=>wO E F n ix (fun gi=>K gx gi) .bad) .bad with h | ⟨gx,h,hx⟩<;>rw[h]
 · trivial
 rcases ca E F n ix (fun gi=>K gx gi) .bad with h | ⟨gi,h,hi⟩<;>rw[h]
 · trivial
 simp only[K,iw,vn]
 have tQ:f' E F n (.lookup t x ix ok) (.red fun r h=>ef E (eU F n r) h (.lookup t x ix ok)):=fun r h v e=> .inr ⟨rfl,e⟩
 cases hu:E.P.underlying t with
 | none=>trivial
 | some d=>cases d with
   | map key elem=>
     simp only
     cases hk:E.P.underlying key with
     | none=>exact tQ
     | some kd=>cases kd with
       | string=>cases hz:gH E elem with
         | none=>exact tQ
         | some z=>
           intro r h v e
           refine .inr ⟨rfl,?_⟩
           obtain ⟨⟨s,hs⟩,es,h1,y,h2,rfl⟩:=Kc e
           simp only[ef,hu,hx,hi,hk]
           rw[hs] at h2 ⊢
           rw[if_pos (show ir (some TypeDesc.string) (AV.str s)=true from rfl)]
           have Xp:SA h (gx r)=some es:=h1
           change (match SA h (gx r) with
            | none=>none
            | some es=>match qw (AV.str s) es 0 with
              | none=>none
              | some (some (_,v))=>some (if ok then AV.tuple [v,.bool true] else v)
              | some none=>match gH E elem with
                | some z=>some (if ok then AV.tuple [z,.bool false] else z)
                | none=>none)=_
           rw[Xp]
           simp only[h2,hz]
           cases y with
           | none=>rfl
           | some y=>obtain ⟨_,w⟩:=y;rfl
       | _=>exact tQ
   | _=>trivial
theorem ye:∀(fs:List Field),w9 E fs=placesOf E fs
 | []=>rfl
 | f::fs=>by
   show ob none (fun n=>ob none (fun l=>some ((f.offset,n)::l)) (w9 E fs)) (tp E f.type)=_
   rw[ye fs,nh]
   simp only[placesOf,ey]
   cases cE E f.type with
   | none=>rfl
   | some n=>
     show ob none (fun l=>some ((f.offset,n)::l)) (ey _ fs)=_
     cases ey (fun f=>match cE E f.type with | some n=>some (f.offset,n) | none=>none) fs<;>rfl
theorem Dc (ps:List (Nat×Nat)):∀(l:List (Nat×AV)) (cs:List AV) {v:List AV},C2 ps cs l=some v→pZ (ps[·]?) cs l=some v
 | [],cs,v,h=>h
 | (i,x)::l,cs,v,h=>by
   obtain ⟨q,h1,h2⟩:=gM (show ob none (fun (q:Nat×Nat)=>bc (Nat.beq (iG (kI x)) q.2) (bc (Nat.ble (q.1+q.2) (iG cs)) (C2 ps (CS (kI x) cs q.1) l) none) none) (iH ps i)=some v from h)
   obtain ⟨h3,h4⟩:=fU h2
   obtain ⟨h5,h6⟩:=fU h4
   have h3:=mq h3
   have h5:=fJ h5
   rw[fT,ly] at h3
   rw[fT] at h5
   rw[gY] at h1
   rw[pZ]
   obtain ⟨off,size⟩:=q
   simp only[h1]
   rw[if_pos ⟨h3,h5⟩,←Bq,←ly]
   exact Dc ps l _ h6
theorem Ke (t:TypeId) (parts:Array (Nat×Operand)):f' E F n (.build t parts) (match En E t,jB E.P t with
 | some z,some (.struct fs)=>match w9 E fs.toList with
   | some ps=>MP E F n parts.toList (fun gp=> .gR fun r=>ob none (fun cs=>some (.agg cs)) (C2 ps (kI z) (gp r))) .bad
   | none=> .bad
 | _,_=> .gR fun r=>bH E (eU F n r) (.build t parts)):=by
 have tQ:f' E F n (.build t parts) (.gR fun r=>bH E (eU F n r) (.build t parts)):=fun r v e=>e
 rw[iw,vn]
 cases hz:gH E t with
 | none=>exact tQ
 | some z=>cases hu:E.P.underlying t with
   | none=>exact tQ
   | some d=>cases d with
     | struct fs=>
       simp only
       rw[ye]
       cases hp:placesOf E fs.toList with
       | none=>trivial
       | some ps=>
         simp only
         rcases yb E F n parts.toList (fun gp=>(.gR fun r=>ob none (fun cs=>some (.agg cs)) (C2 ps (kI z) (gp r)):Kd F.T)) .bad with h | ⟨g,h,hg⟩<;>rw[h]
         · trivial
         · intro r v e
           obtain ⟨cs,h1,e2⟩:=gM e
           have h1:=Dc ps _ _ h1
           rw[ly] at h1
           simp only[bH,hg,uO,hz,hu,hp,h1]
           exact e2
     | _=>exact tQ
theorem Bv (t:TypeId) (m k x:Operand):f' E F n (.mapUpdate t m k x) (wO E F n m (fun gm=>wO E F n k (fun gk=>wO E F n x (fun gx=> .wr fun r h=>ob none (fun h'=>some (AV.undef,h')) (eE E h t (gm r) (gk r) (gx r))) .bad) .bad) .bad):=by
 rcases ca E F n m (fun gm=>wO E F n k (fun gk=>wO E F n x (fun gx=>(.wr fun r h=>ob none (fun h'=>some (AV.undef,h')) (eE E h t (gm r) (gk r) (gx r)):Kd F.T)) .bad) .bad) .bad with h | ⟨gm,h,hm⟩<;>rw[h]
 · trivial
 rcases ca E F n k (fun gk=>wO E F n x (fun gx=>(.wr fun r h=>ob none (fun h'=>some (AV.undef,h')) (eE E h t (gm r) (gk r) (gx r)):Kd F.T)) .bad) .bad with h | ⟨gk,h,hk⟩<;>rw[h]
 · trivial
 rcases ca E F n x (fun gx=>(.wr fun r h=>ob none (fun h'=>some (AV.undef,h')) (eE E h t (gm r) (gk r) (gx r)):Kd F.T)) .bad with h | ⟨gx,h,hx⟩<;>rw[h]
 · trivial
 refine ⟨⟨fun _=>rfl,fun _ _=>rfl,fun _=>rfl⟩,fun call r h rc o p ho e=>?_⟩
 obtain ⟨h',h1,e2⟩:=gM e
 have e3:=Option.some.inj e2
 simp only[dv,ho,hm,hk,hx,h1,←e3]
theorem HY (t:TypeId) (m k x:Operand):f' E F n (.insert t m k x) (wO E F n m (fun gm=>wO E F n k (fun gk=>wO E F n x (fun gx=> .wr fun r h=>ob none (fun h'=>some (AV.undef,h')) (eE E h t (gm r) (gk r) (gx r))) .bad) .bad) .bad):=by
 rcases ca E F n m (fun gm=>wO E F n k (fun gk=>wO E F n x (fun gx=>(.wr fun r h=>ob none (fun h'=>some (AV.undef,h')) (eE E h t (gm r) (gk r) (gx r)):Kd F.T)) .bad) .bad) .bad with h | ⟨gm,h,hm⟩<;>rw[h]
 · trivial
 rcases ca E F n k (fun gk=>wO E F n x (fun gx=>(.wr fun r h=>ob none (fun h'=>some (AV.undef,h')) (eE E h t (gm r) (gk r) (gx r)):Kd F.T)) .bad) .bad with h | ⟨gk,h,hk⟩<;>rw[h]
 · trivial
 rcases ca E F n x (fun gx=>(.wr fun r h=>ob none (fun h'=>some (AV.undef,h')) (eE E h t (gm r) (gk r) (gx r)):Kd F.T)) .bad with h | ⟨gx,h,hx⟩<;>rw[h]
 · trivial
 refine ⟨⟨fun _=>rfl,fun _ _=>rfl,fun _=>rfl⟩,fun call r h rc o p ho e=>?_⟩
 obtain ⟨h',h1,e2⟩:=gM e
 have e3:=Option.some.inj e2
 simp only[dv,ho,hm,hk,hx,h1,←e3]
theorem Na (it:Operand) (s:Bool):f' E F n (.next it s) (wO E F n it (fun g=> .wr fun r h=>zT h (g r) s) .bad):=by
 rcases ca E F n it (fun g=>(.wr fun r h=>zT h (g r) s:Kd F.T)) .bad with h | ⟨g,h,hg⟩<;>rw[h]
 · trivial
 refine ⟨⟨fun _=>rfl,fun _ _=>rfl,fun _=>rfl⟩,fun call r h rc o p ho e=>?_⟩
 simp only[dv,ho,hg,e]
theorem Kf (x:Operand):f' E F n (.panic x) (wO E F n x (fun g=> .rZ fun _ r h _=>pC (fun t w=> .panic (.iface t w) h) (.fail "" none) (g r)) .bad):=by
 rcases ca E F n x (fun g=>(.rZ fun _ r h _=>pC (fun t w=> .panic (.iface t w) h) (.fail "" none) (g r):Kd F.T)) .bad with h | ⟨g,h,hg⟩<;>rw[h]
 · trivial
 refine ⟨⟨fun _=>rfl,fun _ _=>rfl,fun _=>rfl⟩,fun fc call _ r h rc o ho=>?_⟩
 rcases C8 (f:=fun t w=>uP.panic (.iface t w) h) (why:= "") (o:=none) (g r) with ⟨t,w,e⟩ | e
 · simp only[dv,ho,hg,e];rfl
 · show OA (pC _ _ _) _
   rw[e];trivial
theorem Kg (c:Call):f' E F n (.defer c) (.rZ fun _ r _ rc=>match rc,callee E (eU F n r) c with
 | .Ca _,_=> .fail "" none
 | _,some (.fn f,args)=> .defer (.call f args)
 | _,_=> .fail "" none):=by
 refine ⟨⟨fun _=>rfl,fun _ _=>rfl,fun _=>rfl⟩,fun fc call _ r h rc o ho=>?_⟩
 simp only[dv,ho]
 cases rc with
 | Ca l=>trivial
 | _=>cases hc:callee E (eU F n r) c with
   | none=>trivial
   | some p=>obtain ⟨f,args⟩:=p;cases f<;>first | trivial | rfl
theorem E4 (src dst:TypeId) (x:Operand):f' E F n (.convert src dst x) (wO E F n x (Gk E src dst) .bad):=by
 rcases ca E F n x (Gk E src dst) (.bad:Kd F.T) with h | ⟨g,h,hg⟩<;>rw[h]
 · trivial
 unfold Gk
 simp only[iw]
 cases hs:E.P.underlying src with
 | none=>trivial
 | some ds=>cases hd:E.P.underlying dst with
   | none=>cases ds<;>trivial
   | some dd=>
     cases ds<;>cases dd<;>try trivial
     case int.int k k'=>
      intro r v e
      obtain ⟨j,m,e1,e2⟩:=ji e
      simp only[bH,hs,hd,hg,e1]
      rw[←ng];exact e2
     case string.string=>
      intro r v e
      obtain ⟨s,e1,e2⟩:=m_ e
      simp only[bH,hs,hd,hg,e1];exact e2
     case string.slice e=>
      refine ⟨⟨fun _=>by simp only[bH,hs,hd],fun _ _=>by simp only[ef,hs,hd],fun _=>rfl⟩,fun call r h rc o p ho e=>?_⟩
      simp only[dv,ho,hg,e]
     case slice.string el=>
      simp only
      cases he:E.P.underlying el with
      | none=>trivial
      | some de=>
        cases de<;>try trivial
        rename_i k
        cases k<;>try trivial
        intro r h v e
        rcases na e with ⟨e1,e2⟩ | ⟨i,o,l,c,b,e1,e2⟩
        · refine .inr ⟨by simp only[bH,hs,hd,hg,e1],?_⟩
          simp only[ef,hs,hd,hg,he]
          simp only[e1];exact e2
        · refine .inr ⟨by simp only[bH,hs,hd,hg,e1],?_⟩
          simp only[ef,hs,hd,hg,he]
          simp only[e1]
          obtain ⟨l',h1,e3⟩:=gM e2
          simp only[h1];exact e3
end Go.Ab.Fa
end
