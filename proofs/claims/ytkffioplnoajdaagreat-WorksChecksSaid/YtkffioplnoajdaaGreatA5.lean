import Derived.Test.YtkffioplnoajdaaGreatA4
import Derived.Test.YtkffioplnoajdaaGreatA0
set_option linter.unusedVariables false
set_option linter.unusedSimpArgs false
section
namespace Go.Ab.Fa
structure W (α:Type) where
 f:α
section
variable {α β T:Type}
noncomputable def wW (w:W α) (k:α→β):β:=W.rec (motive:=fun _=>β) k w
noncomputable def wA (a:Acc T) (k:(T→AV)→β):β:=Acc.rec (motive:=fun _=>β) k a
noncomputable def wU (a:Upd T) (k:(AV→T→T)→β):β:=Upd.rec (motive:=fun _=>β) k a
end
structure Y where
 ds:List rR
 rc:RC
inductive FO (T:Type) where
 | Kr (r:T) (h:au) (y:Y)
 | jmp (e:lY) (r:T) (h:au) (y:Y)
 | bad
structure I (T:Type) where
 run:bq→T→au→Y→FO T
structure C (T:Type) where
 run:Nat→bq→T→au→Y→FO T
inductive Kd (T:Type) where
 | JE (f:T→AV)
 | hG (f:T→Option AV)
 | red (f:T→au→Option AV)
 | tY (f:T→Option (aM×(Nat→AV)))
 | wr (f:T→au→Option (AV×au))
 | call (g:Fn) (args:T→List AV)
 | vV (f:bq→T→au→RC→Ah)
 | bad
section
variable (E:Env) (F:RF) (n:Nat)
noncomputable def wT {β:Type} (i:Nat) (k:(F.T→AV)→β):β:=bc (Nat.ble n i) (k fun _=>AV.undef) (wA (F.get i) k)
noncomputable def wO {β:Type} (x:Operand) (k:(F.T→AV)→β) (d:β):β:=match x with
 | .tmp t=>wT F n t k
 | .const v=>match ofConst v with
   | some a=>k fun _=>a
   | none=>d
 | .global g=>bc (Nat.ble E.G g) d (k fun _=> .ptr g 0)
 | .func f=>k fun _=> .func f [] []
noncomputable def wL {β:Type} (l:List Operand) (k:(F.T→List AV)→β) (d:β):β:=match l with
 | []=>k fun _=> []
 | x::xs=>wO E F n x (fun g=>wL xs (fun gs=>k fun r=>g r::gs r) d) d
noncomputable def wP {β:Type} (o:Option Operand) (k:Option (F.T→AV)→β) (d:β):β:=match o with
 | none=>k none
 | some x=>wO E F n x (fun g=>k (some g)) d
noncomputable def wS {β:Type} (o:Option Tmp) (k:(AV→F.T→F.T)→β):β:=match o with
 | none=>k fun _ r=>r
 | some i=>bc (Nat.ble n i) (k fun _ r=>r) (wU (F.set i) k)
noncomputable def yj (t:TypeId):Option Nat:=ob none (fun i=>some i.size) (Bs E.P t)
noncomputable def byF (t:TypeId):Option Nat:=ob none (fun i=>some i.bytes) (Bs E.P t)
noncomputable def Mk (t:TypeId):Option AV:=ob none (fun i=>ob none (fun z=>ofConst z) i.zero) (Bs E.P t)
noncomputable def agF (t:TypeId):Option Bool:=match kN E.P t with
 | some (.struct _)=>some true
 | some (.array _ _)=>some true
 | some _=>some false
 | none=>none
noncomputable def fiF (t:TypeId) (f:Nat):Option Field:=match kN E.P t with
 | some (.struct fs)=>jP fs.toList f
 | _=>none
variable {T:Type}
noncomputable def Tu (op:BinOp):W (IntKind→Int→Int→Option AV):=match op with
 | .add=>⟨fun k a b=>some (.int k (wh k (pK a b)))⟩
 | .sub=>⟨fun k a b=>some (.int k (wh k (uz a b)))⟩
 | .mul=>⟨fun k a b=>some (.int k (wh k (Tk a b)))⟩
 | .eql=>⟨fun _ a b=>some (.bool (Z_ a b))⟩
 | .neq=>⟨fun _ a b=>some (.bool (xg (Z_ a b)))⟩
 | .lss=>⟨fun _ a b=>some (.bool (XA a b))⟩
 | .leq=>⟨fun _ a b=>some (.bool (xg (XA b a)))⟩
 | .gtr=>⟨fun _ a b=>some (.bool (XA b a))⟩
 | .geq=>⟨fun _ a b=>some (.bool (xg (XA a b)))⟩
 | op=>⟨XB op⟩
noncomputable def QG (op:BinOp):W (List UInt8→List UInt8→Option AV):=match op with
 | .eql=>⟨fun a b=>some (.bool (leq Dw a b))⟩
 | .neq=>⟨fun a b=>some (.bool (xg (leq Dw a b)))⟩
 | op=>⟨wK op⟩
noncomputable def XH (f:IntKind→Int→Int→Option AV) (g:List UInt8→List UInt8→Option AV) (AG:AV→AV→Option AV) (a b:AV):Option AV:=
 pJ (fun k x=>pJ (fun j y=>bc (Ti k j) (f k x y) none) none b) (sc (fun s=>sc (fun t=>g s t) none b) (AG a b) a) a
noncomputable def gE (op:BinOp) (AG:AV→AV→Option AV) (ga gb:T→AV):Kd T:=match op with
 | .shl=> .hG fun r=>pJ (fun k x=>pJ (fun _ y=>aep k x y) none (gb r)) none (ga r)
 | .shr=> .hG fun r=>pJ (fun k x=>pJ (fun _ y=>aeq k x y) none (gb r)) none (ga r)
 | op=>wW (Tu op) fun f=>wW (QG op) fun g=> .hG fun r=>XH f g AG (ga r) (gb r)
noncomputable def unK (op:UnOp) (ga:T→AV):Kd T:=match op with
 | .not=> .hG fun r=>kg (fun b=>some (.bool (xg b))) none (ga r)
 | op=> .hG fun r=>unA op (ga r)
noncomputable def Tv (cs:List AV) (o:Nat):Option AV:=jP cs o
noncomputable def Tw (n:Nat) (cs:List AV) (o:Nat):Option AV:=bc (Nat.ble (Nat.add o n) (jO cs)) (some (.agg (uC (uA cs o) n))) none
noncomputable def yL (t:TypeId) (k:(List AV→Nat→Option AV)→Kd T):Kd T:=match agF E t with
 | some true=>match yj E t with
   | some n=>k (Tw n)
   | none=> .bad
 | some false=>k Tv
 | none=> .bad
noncomputable def Kt (p:List AV→Nat→Option AV) (h:au) (a:AV):Option AV:=
 Ax (fun i o=>ob none (fun obj=>Az (fun cs _ _=>p cs o) none obj) (h.get i)) none a
noncomputable def DB (n:Nat) (h:au) (a v:AV):Option (AV×au):=
 Ax (fun i o=>ob none (fun obj=>Az (fun cs e ro=>bc ro none
  (bc (Nat.beq (jO (mG v)) n) (bc (Nat.ble (Nat.add o n) (jO cs)) (bc (AB XC (mG v)) (some (AV.undef,h.put i (some (.cells (Kk (mG v) cs o) e false)))) none) none) none)) none obj) (h.get i)) none a
noncomputable def H' (len size:Nat) (i o:Nat) (ix:AV):Option AV:=
 pJ (fun _ n=>l5 (fun m=>bc (Nat.ble len m) none (some (.ptr i (Nat.add o (Nat.mul m size))))) none n) none ix
noncomputable def Ia (d y:Nat) (o:Option AV) (k:Nat→Option AV):Option AV:=
 ob (k d) (fun v=>pJ (fun _ i=>l5 (fun m=>bc (Nat.ble m y) (k m) none) none i) none v) o
noncomputable def slF (size:Nat) (lo hi:Option AV) (v:AV):Option AV:=
 kh (Ia 0 0 hi fun h=>Ia 0 h lo fun _=>some .aH)
  (fun i o len cap op=>bc (Nat.ble len cap) (Ia len cap hi fun h=>Ia 0 h lo fun l=>
   bc (Nat.beq cap l) (bc op (some .eN) (some (.slice i o (Nat.sub h l) (Nat.sub cap l) false))) (some (.slice i (Nat.add o (Nat.mul l size)) (Nat.sub h l) (Nat.sub cap l) op))) none) none v
noncomputable def slS (lo hi:Option AV) (v:AV):Option AV:=
 sc (fun s=>Ia (jO s) (jO s) hi fun h=>Ia 0 h lo fun l=>some (.str (uC (uA s l) (Nat.sub h l)))) none v
noncomputable def slA (m size:Nat) (lo hi:Option AV) (v:AV):Option AV:=
 Ax (fun i o=>Ia m m hi fun h=>Ia 0 h lo fun l=>some (.slice i (bc (Nat.beq m l) o (Nat.add o (Nat.mul l size))) (Nat.sub h l) (Nat.sub m l) false)) none v
noncomputable def FG (o:Option (T→AV)) (r:T):Option AV:=ob none (fun g=>some (g r)) o
noncomputable def aer (v:AV):Option Nat:=kh (some 0) (fun _ _ n _ _=>some n) (sc (fun s=>some (jO s)) (rf v) v) v
noncomputable def Tx (h:au) (size n:Nat) (v:AV):Option (List AV):=
 kh (bc (Nat.beq n 0) (some []) none) (fun i o len _ _=>bc (Nat.ble n len) (ob none (fun obj=>Az (fun cs _ _=>bc (Nat.ble (Nat.add o (Nat.mul n size)) (jO cs)) (some (uC (uA cs o) (Nat.mul n size))) none) none obj) (h.get i)) none)
  (fA h size n v) v
noncomputable def aes (elem:TypeId) (size bytes:Nat) (h:au) (s x:AV):Option (AV×au):=
 ob none (fun n=>ob none (fun new=>bc (AB XC new) (bc (Nat.beq (jO new) (Nat.mul n size))
  (kh
   (bc (Nat.beq n 0) (some (.aH,h)) (bc (Nat.ble (Nat.mul (Nat.add (Nat.mul 4 n) 4096) (Nat.add bytes 1)) 1099511627776)
    (ob none (fun h'=>some (.slice h.nx 0 n n true,h')) (h.new (.cells new elem false))) none))
   (fun i o len cap op=>ob none (fun obj=>Az (fun cs e ro=>bc ro none
    (bc (Nat.ble (Nat.add len n) cap)
     (bc (Nat.ble (Nat.add o (Nat.mul (Nat.add len n) size)) (jO cs)) (some (.slice i o (Nat.add len n) cap op,h.put i (some (.cells (Kk new cs (Nat.add o (Nat.mul len size))) e false)))) none)
     (bc (Nat.ble (Nat.mul (Nat.add (Nat.mul 4 (Nat.add len n)) 4096) (Nat.add bytes 1)) 1099511627776)
      (bc (Nat.ble (Nat.add o (Nat.mul len size)) (jO cs))
       (bc op
        (bc (Nat.beq e elem) (bc (Nat.beq (Nat.add o (Nat.mul cap size)) (jO cs))
         (ob none (fun h'=>some (.slice h.nx 0 (Nat.add len n) (Nat.add len n) true,h')) ((h.put i none).new (.cells (mw (uC (uA cs o) (Nat.mul len size)) new) elem false))) none) none)
        (ob none (fun h'=>some (.slice h.nx 0 (Nat.add len n) (Nat.add len n) true,h')) (h.new (.cells (mw (uC (uA cs o) (Nat.mul len size)) new) elem false)))) none) none)))
    none obj) (h.get i))
   none s) none) none) (Tx h size n x)) (aer x)
noncomputable def Ty (argTypes:Array TypeId) (gs gx:T→AV):Kd T:=match jP argTypes.toList 0,jP argTypes.toList 1 with
 | some sT,some xT=>match kN E.P sT,kN E.P xT with
   | some (.slice elem),some xd=>if px xd then .wr fun r h=>tW E h elem (gs r) (gx r) else match yj E elem,byF E elem,Mk E elem with
     | some size,some bytes,some z=>if z.cells.length=size then .wr fun r h=>aes elem size bytes h (gs r) (gx r) else .bad
     | _,_,_=> .bad
   | _,_=> .bad
 | _,_=> .bad
noncomputable def XI {β:Type} (l:List (Nat×Operand)) (k:(F.T→List (Nat×AV))→β) (d:β):β:=match l with
 | []=>k fun _=> []
 | (i,x)::xs=>wO E F n x (fun g=>XI xs (fun gs=>k fun r=>(i,g r)::gs r) d) d
noncomputable def CE (fs:List Field):Option (List (Nat×Nat)):=List.rec (motive:=fun _=>Option (List (Nat×Nat))) (some []) (fun f _ ih=>ob none (fun n=>ob none (fun l=>some ((f.offset,n)::l)) ih) (yj E f.type)) fs
noncomputable def Ku (ps:List (Nat×Nat)) (cs:List AV) (l:List (Nat×AV)):Option (List AV):=
 List.rec (motive:=fun _=>List AV→Option (List AV)) (fun cs=>some cs) (fun p _ ih cs=>ob none (fun (q:Nat×Nat)=>bc (Nat.beq (jO (mG p.2)) q.2) (bc (Nat.ble (Nat.add q.1 q.2) (jO cs)) (ih (Kk (mG p.2) cs q.1)) none) none) (jP ps p.1)) l cs
noncomputable def abp (z:List AV) (m:Nat):List AV:=Nat.rec (motive:=fun _=>List AV) [] (fun _ ih=>mw z ih) m
noncomputable def XJ (elem:TypeId) (bytes:Nat) (z:List AV) (l c:AV):Option (aM×(Nat→AV)):=
 pJ (fun _ len=>pJ (fun _ cap=>l5 (fun len=>l5 (fun cap=>bc (Nat.ble len cap) (bc (Nat.ble 1073741824 cap) none (bc (Nat.ble (Nat.mul bytes cap) 140737488355328)
  (some (.cells (abp z cap) elem false,fun i=> .slice i 0 len cap false)) none)) none) none cap) none len) none c) none l
noncomputable def findF (k:List UInt8) (l:List lW):Option (Option AV):=List.rec (motive:=fun _=>Option (Option AV)) (some none) (fun e _ ih=>sc (fun s=>bc (leq Dw k s) (some (some e.val)) ih) none e.key) l
noncomputable def XK {R:Type} (f:List lW→R) (d:R) (o:aM):R:=
 aM.rec (motive:=fun _=>R) (fun _ _ _=>d) (fun es _=>f es) (fun _ _=>d) (fun _ _ _ _=>d) (fun _ _ _ _ _ _ _=>d) d o
noncomputable def aet {R:Type} (e:R) (f:Nat→R) (d:R) (v:AV):R:=
 AV.rec (motive_1:=fun _=>R) (motive_2:=fun _=>Unit) (fun _=>d) (fun _ _=>d) (fun _=>d) d (fun _ _=>d) d (fun _ _ _ _ _=>d) e (fun i=>f i) (fun _ _ _ _ _=>d) (fun _=>d) d (fun _ _ _=>d) d (fun _ _=>d) (fun _ _=>d) d d () (fun _ _ _ _=>()) v
noncomputable def OZ (h:au) (m:AV):Option AV:=
 aet (some (.int .i64 (Int.ofNat 0))) (fun i=>ob none (fun o=>XK (fun es=>some (.int .i64 (Int.ofNat (jO es)))) none o) (h.get i)) none m
noncomputable def O0 (z:AV) (ok:Bool) (h:au) (m k:AV):Option AV:=
 sc (fun s=>ob none (fun es=>ob none (fun r=>some (ob (bc ok (.tuple [z,.bool false]) z) (fun v=>bc ok (.tuple [v,.bool true]) v) r)) (findF s es))
  (aet (some []) (fun i=>ob none (fun o=>XK (fun es=>some es) none o) (h.get i)) none m)) none k
noncomputable def n8 (o:j3):Ah:=j3.rec (motive:=fun _=>Ah) .val .panic .fail o
noncomputable def Kv (t:TypeId) (name:String):Option FuncId:=ym E t name
noncomputable def aac (c:Call) (op:Op):Kd F.T:=match c.callee with
 | .invoke x name=>wO E F n x (fun gx=>wL E F n c.args.toList (fun gs=> .vV fun call r h _=>se
  (fun t v=>ob (.fail "" none) (fun f=>n8 (call (.fn f) (v::gs r) h)) (Kv E t name)) (.fail "" none) (gx r)) .bad) .bad
 | .value (.func f)=>wL E F n c.args.toList (fun gs=>match E.nN f with
   | some e=> .hG fun r=>e (gs r)
   | none=>match E.jm f with
     | some g=> .wr fun r h=>g (gs r) h
     | none=> .call (.fn f) gs) .bad
 | .value x=>wO E F n x (fun gf=>wL E F n c.args.toList (fun gs=> .vV fun call r h _=>OW
  (fun g first captured=>ob (n8 (call (.fn g) (mw first (mw (gs r) captured)) h)) (fun sp=>ob (.fail "" none) (fun p=> .val p.1 p.2) (sp (mw first (mw (gs r) captured)) h)) (E.jm g))
  (fun l=>n8 (call (.Bh l) (gs r) h)) (.fail "" none) (gf r)) .bad) .bad
 | .builtin .len=>match jP c.argTypes.toList 0,c.args.toList with
   | some t,[x]=>wO E F n x (fun g=>match kN E.P t with
     | some .string=> .hG fun r=>sc (fun s=>some (.int .i64 (Int.ofNat (jO s)))) none (g r)
     | some (.array m _)=> .hG fun _=>some (.int .i64 (Int.ofNat m))
     | some (.slice _)=> .hG fun r=>kh (some (.int .i64 (Int.ofNat 0))) (fun _ _ m _ _=>some (.int .i64 (Int.ofNat m))) (vZ (some (.int .i64 (Int.ofNat 0))) none (g r)) (g r)
     | some (.map _ _)=> .red fun r h=>OZ h (g r)
     | _=> .bad) .bad
   | _,_=> .bad
 | .builtin .cap=>match jP c.argTypes.toList 0,c.args.toList with
   | some t,[x]=>wO E F n x (fun g=>match kN E.P t with
     | some (.slice _)=> .hG fun r=>kh (some (.int .i64 (Int.ofNat 0))) (fun _ _ _ c b=>bc b none (some (.int .i64 (Int.ofNat c)))) none (g r)
     | _=> .bad) .bad
   | _,_=> .bad
 | .builtin .max=> .hG fun r=>bC E (fC F n r) op
 | .builtin .min=> .hG fun r=>bC E (fC F n r) op
 | .builtin .append=>match c.args.toList with
   | [s,x]=>wO E F n s (fun gs=>wO E F n x (fun gx=>Ty E c.argTypes gs gx) .bad) .bad
   | _=> .bad
 | .builtin .copy=>match c.args.toList with
   | [s,x]=>wO E F n s (fun gs=>wO E F n x (fun gx=> .wr fun r h=>s9 E h c.argTypes (gs r) (gx r)) .bad) .bad
   | _=> .bad
 | .builtin .recover=> .vV fun _ _ h rc=>match rc with
   | .jM x=> .s_ x
   | .JB _=> .fail "" none
   | _=> .val .nilIface h
 | _=> .bad
noncomputable def O1 (src dst:TypeId) (g:T→AV):Kd T:=match kN E.P src,kN E.P dst with
 | some (.int _),some (.int k)=> .hG fun r=>pJ (fun _ n=>some (.int k (wh k n))) none (g r)
 | some .string,some .string=> .hG fun r=>sc (fun s=>some (.str s)) none (g r)
 | some (.slice e),some .string=>match kN E.P e with
   | some (.int .u8)=> .red fun r h=>kh (some (.str [])) (fun i o len _ _=>ob none (fun l=>some (.str l)) (Hy h i o len)) none (g r)
   | _=> .bad
 | some .string,some (.slice _)=> .wr fun r h=>Gm E h src dst (some (g r))
 | _,_=> .bad
noncomputable def wi (op:Op):Kd F.T:=match op with
 | .move x=>wO E F n x .JE .bad
 | .assign x=>wO E F n x .JE .bad
 | .pick c a b=>wO E F n c (fun gc=>wO E F n a (fun ga=>wO E F n b (fun gb=> .hG fun r=>kg (fun t=>bc t (some (ga r)) (some (gb r))) none (gc r)) .bad) .bad) .bad
 | .binOp op t x y _=>wO E F n x (fun gx=>wO E F n y (fun gy=>gE op (nf E op t (isConst x) (isConst y)) gx gy) .bad) .bad
 | .unOp op _ x=>wO E F n x (unK op) .bad
 | .fieldAddr s x f=>match fiF E s f with
   | some fd=>match yj E fd.type with
     | some (_+1)=>wO E F n x (fun g=> .hG fun r=>Ax (fun i o=>some (.ptr i (Nat.add o fd.offset))) none (g r)) .bad
     | _=> .bad
   | none=> .bad
 | .load t a=>wO E F n a (fun g=>yL E t fun p=> .red fun r h=>Kt p h (g r)) .bad
 | .store t a x=>match yj E t with
   | some m=>wO E F n a (fun ga=>wO E F n x (fun gx=> .wr fun r h=>DB m h (ga r) (gx r)) .bad) .bad
   | none=> .bad
 | .nilCheck x=>wO E F n x (fun g=> .hG fun r=>bc (H2 (g r)) (some (g r)) none) .bad
 | .extract x i=>wO E F n x (fun g=> .hG fun r=>Ay (fun _=>none) (fun vs=>jP vs i) none (g r)) .bad
 | .field s x f=>match fiF E s f with
   | some fd=>wO E F n x (fun g=>yL E fd.type fun p=> .hG fun r=>Ay (fun cs=>p cs fd.offset) (fun _=>none) none (g r)) .bad
   | none=> .bad
 | .indexAddr t x ix=>wO E F n x (fun gx=>wO E F n ix (fun gi=>match kN E.P t with
   | some (.array len elem)=>match yj E elem with
     | some size=> .hG fun r=>Ax (fun i o=>H' len size i o (gi r)) none (gx r)
     | none=> .bad
   | some (.slice elem)=>match yj E elem with
     | some size=> .hG fun r=>kh none (fun i o len _ _=>H' len size i o (gi r)) none (gx r)
     | none=> .bad
   | _=> .bad) .bad) .bad
 | .index t x ix=>wO E F n x (fun gx=>wO E F n ix (fun gi=>match kN E.P t with
   | some .string=> .hG fun r=>sc (fun s=>pJ (fun _ i=>l5 (fun m=>ob none (fun (b:UInt8)=>some (.int .u8 (Int.ofNat b.toNat))) (jP s m)) none i) none (gi r)) none (gx r)
   | _=> .hG fun r=>bC E (fC F n r) op) .bad) .bad
 | .slice t x lo hi none=>wO E F n x (fun gx=>wP E F n lo (fun gl=>wP E F n hi (fun gh=>match kN E.P t with
   | some (.slice elem)=>match yj E elem with
     | some size=> .hG fun r=>slF size (FG gl r) (FG gh r) (gx r)
     | none=> .bad
   | some .string=> .hG fun r=>slS (FG gl r) (FG gh r) (gx r)
   | some (.array m elem)=>match yj E elem with
     | some size=> .hG fun r=>slA m size (FG gl r) (FG gh r) (gx r)
     | none=> .bad
   | _=> .hG fun r=>bC E (fC F n r) op) .bad) .bad) .bad
 | .convert src dst x=>wO E F n x (O1 E src dst) .bad
 | .makeInterface t x=>match kN E.P t with
   | some (.interface _)=> .bad
   | some _=>wO E F n x (fun g=> .JE fun r=> .iface t (g r)) .bad
   | none=> .bad
 | .makeFunc (.func f) first captured=>wL E F n first.toList (fun ga=>wL E F n captured.toList (fun gb=> .JE fun r=> .func f (ga r) (gb r)) .bad) .bad
 | .alloc t=>match Mk E t with
   | some z=> .tY fun _=>some (.cells z.cells t false,fun i=> .ptr i 0)
   | none=> .bad
 | .box t x=>wO E F n x (fun g=> .tY fun r=>some (.cells (mG (g r)) t false,fun i=> .ptr i 0)) .bad
 | .buildSlice t len parts=>match kN E.P t with
   | some (.slice elem)=>match yj E elem,Mk E elem with
     | some m,some z=>if z.cells.length=m∧len*m≤2^24 then XI E F n parts.toList (fun gp=> .tY fun r=>ob none (fun cs=>some (.cells cs elem false,fun i=> .slice i 0 len len false)) (pw (fun i=>some (i*m,m)) (bT z.cells len) (gp r))) .bad else .bad
     | _,_=> .bad
   | _=> .bad
 | .makeSlice t l c=>wO E F n l (fun gl=>wO E F n c (fun gc=>match kN E.P t with
   | some (.slice elem)=>match yj E elem,byF E elem,Mk E elem with
     | some m,some bytes,some z=>if z.cells.length=m then .tY fun r=>XJ elem bytes z.cells (gl r) (gc r) else .bad
     | _,_,_=> .bad
   | _=> .bad) .bad) .bad
 | .makeMap _ none=> .tY fun _=>some (.map [] 0,fun i=> .map i)
 | .makeMap .. | .range .. => .tY fun r=>eO E (fC F n r) op
 | .lookup t x ix ok=>wO E F n x (fun gx=>wO E F n ix (fun gi=>match kN E.P t with
   | some (.map key elem)=>match kN E.P key,Mk E elem with
     | some .string,some z=> .red fun r h=>O0 z ok h (gx r) (gi r)
     | _,_=> .red fun r h=>eH E (fC F n r) h op
   | _=> .bad) .bad) .bad
 | .build t parts=>match Mk E t,kN E.P t with
   | some z,some (.struct fs)=>match CE E fs.toList with
     | some ps=>XI E F n parts.toList (fun gp=> .hG fun r=>ob none (fun cs=>some (.agg cs)) (Ku ps (mG z) (gp r))) .bad
     | none=> .bad
   | _,_=> .hG fun r=>bC E (fC F n r) op
 | .slice .. | .typeAssert .. => .hG fun r=>bC E (fC F n r) op
 | .mapUpdate t m k x=>wO E F n m (fun gm=>wO E F n k (fun gk=>wO E F n x (fun gx=> .wr fun r h=>ob none (fun h'=>some (AV.undef,h')) (fi E h t (gm r) (gk r) (gx r))) .bad) .bad) .bad
 | .insert t m k x=>wO E F n m (fun gm=>wO E F n k (fun gk=>wO E F n x (fun gx=> .wr fun r h=>ob none (fun h'=>some (AV.undef,h')) (fi E h t (gm r) (gk r) (gx r))) .bad) .bad) .bad
 | .next it s=>wO E F n it (fun g=> .wr fun r h=>Gl h (g r) s) .bad
 | .panic x=>wO E F n x (fun g=> .vV fun _ r h _=>se (fun t w=> .panic (.iface t w) h) (.fail "" none) (g r)) .bad
 | .defer c=> .vV fun _ r _ rc=>match rc,callee E (fC F n r) c with
   | .JB _,_=> .fail "" none
   | _,some (.fn f,args)=> .defer (.call f args)
   | _,_=> .fail "" none
 | .call c=>aac E F n c op
 | _=> .bad
noncomputable def MW (kd:Kd T) (s:AV→T→T) (j:I T):I T:=match kd with
 | .JE g=>⟨fun call r h y=>j.run call (s (g r) r) h y⟩
 | .hG f=>⟨fun call r h y=>ob .bad (fun v=>j.run call (s v r) h y) (f r)⟩
 | .red f=>⟨fun call r h y=>ob .bad (fun v=>j.run call (s v r) h y) (f r h)⟩
 | .tY f=>⟨fun call r h y=>ob .bad (fun p=>ob .bad (fun h'=>j.run call (s (p.2 h.nx) r) h' y) (h.new p.1)) (f r)⟩
 | .wr f=>⟨fun call r h y=>ob .bad (fun p=>j.run call (s p.1 r) p.2 y) (f r h)⟩
 | .call g args=>⟨fun call r h y=>j3.rec (motive:=fun _=>FO T) (fun v h'=>j.run call (s v r) h' y) (fun v h'=> .jmp (.panic v) r h' y) (fun _ _=> .bad) (call g (args r) h)⟩
 | .vV f=>⟨fun call r h y=>Ah.rec (motive:=fun _=>FO T) (fun v h'=>j.run call (s v r) h' y) (fun d=>j.run call (s AV.undef r) h ⟨d::y.ds,y.rc⟩) (fun v=>j.run call (s v r) h ⟨y.ds,.done⟩)
  (fun v h'=> .jmp (.panic v) r h' y) (fun _ _=> .bad) (f call r h y.rc)⟩
 | .bad=>⟨fun _ _ _ _=> .bad⟩
noncomputable def aad (s:AV→T→T) (j:I T):I T:=⟨fun call r h y=>j.run call (s AV.undef r) h y⟩
noncomputable def MX (g:T→AV) (want:Bool) (a b:I T):I T:=match want with
 | true=>⟨fun call r h y=>kg (fun t=>bc t (a.run call r h y) (b.run call r h y)) (b.run call r h y) (g r)⟩
 | false=>⟨fun call r h y=>kg (fun t=>bc t (b.run call r h y) (a.run call r h y)) (b.run call r h y) (g r)⟩
noncomputable def O2 (ops:Array Oper) (o:Oper) (a b:I F.T):I F.T:=match o.guard with
 | none=>a
 | some (j,want)=>match ob none (fun p=>p.dst) (jP ops.toList j) with
   | some d=>bc (Nat.ble n d) b (wA (F.get d) fun g=>MX g want a b)
   | none=>b
noncomputable def Tz (ops:Array Oper) (o:Oper) (j:I F.T):I F.T:=wS F n o.dst fun s=>O2 F n ops o (MW (wi E F n o.op) s j) (aad s j)
noncomputable def vD (ops:Array Oper) (l:List Oper):I F.T:=List.rec (motive:=fun _=>I F.T) ⟨fun _ r h y=> .Kr r h y⟩ (fun o _ j=>Tz E F n ops o j) l
noncomputable def aeu (AG:AV→AV→Bool) (x y:AV):Bool:=
 pJ (fun k a=>pJ (fun j b=>bc (Ti k j) (Z_ a b) false) false y)
  (sc (fun s=>sc (fun t=>leq Dw s t) false y)
   (Ax (fun i o=>Ax (fun j p=>bc (Nat.beq i j) (Nat.beq o p) false) false y)
    (kg (fun a=>kg (fun b=>bc a b (xg b)) false y) (AG x y) x) x) x) x
noncomputable def DC (m:Nat):AV→AV→Bool:=Nat.rec (motive:=fun _=>AV→AV→Bool) (fun _ _=>false)
 (fun i ih x y=>aeu (fun x y=>Ay (fun a=>Ay (fun b=>leq ih a b) (fun _=>false) false y) (fun _=>AV.same (i+1) x y) (AV.same (i+1) x y) x) x y) m
structure QH where
 k:Nat
 m:Nat
 made:Option Nat
 f:au→Bool
inductive DO (T:Type) where
 | ok (tr:List QH) (hs:List au) (r:T) (h:au) (y:Y)
 | bad
structure D (T:Type) where
 run:bq→T→au→Y→DO T
noncomputable def GM (x:QH) (d:DO T):DO T:=DO.rec (motive:=fun _=>DO T) (fun tr hs r h y=> .ok (x::tr) hs r h y) .bad d
noncomputable def sh (h0:au) (d:DO T):DO T:=DO.rec (motive:=fun _=>DO T) (fun tr hs r h y=> .ok tr (h0::hs) r h y) .bad d
noncomputable def O3 (kd:Kd T) (s:AV→T→T) (j:D T):D T:=match kd with
 | .wr f=>⟨fun call r h y=>ob .bad (fun p=>sh h (j.run call (s p.1 r) p.2 y)) (f r h)⟩
 | .call g args=>⟨fun call r h y=>j3.rec (motive:=fun _=>DO T) (fun v h'=>sh h (j.run call (s v r) h' y)) (fun _ _=> .bad) (fun _ _=> .bad) (call g (args r) h)⟩
 | .vV f=>⟨fun call r h y=>Ah.rec (motive:=fun _=>DO T) (fun v h'=>sh h (j.run call (s v r) h' y)) (fun _=> .bad) (fun _=> .bad) (fun _ _=> .bad) (fun _ _=> .bad) (f call r h y.rc)⟩
 | _=>⟨fun _ _ _ _=> .bad⟩
noncomputable def O4 (k m:Nat) (kd:Kd T) (s:AV→T→T) (j:D T):D T:=match kd with
 | .JE g=>⟨fun call r h y=>j.run call (s (g r) r) h y⟩
 | .hG f=>⟨fun call r h y=>ob .bad (fun v=>j.run call (s v r) h y) (f r)⟩
 | .red f=>⟨fun call r h y=>ob .bad (fun v=>GM ⟨k,m,none,fun h'=>ob false (fun v'=>DC 20 v' v) (f r h')⟩ (j.run call (s v r) h y)) (f r h)⟩
 | .tY f=>⟨fun call r h y=>ob .bad (fun p=>ob .bad (fun h'=>GM ⟨k,m,some h.nx,fun O5=>ob false (fun o=>aM.same o p.1) (O5.get h.nx)⟩ (j.run call (s (p.2 h.nx) r) h' y)) (h.new p.1)) (f r)⟩
 | _=>⟨fun _ _ _ _=> .bad⟩
noncomputable def TA (s:AV→T→T) (j:D T):D T:=⟨fun call r h y=>j.run call (s AV.undef r) h y⟩
noncomputable def MY (s:AV→T→T) (j:D T):D T:=⟨fun call r h y=>sh h (j.run call (s AV.undef r) h y)⟩
noncomputable def TB (g:T→AV) (want:Bool) (a b:D T):D T:=match want with
 | true=>⟨fun call r h y=>kg (fun t=>bc t (a.run call r h y) (b.run call r h y)) (b.run call r h y) (g r)⟩
 | false=>⟨fun call r h y=>kg (fun t=>bc t (b.run call r h y) (a.run call r h y)) (b.run call r h y) (g r)⟩
noncomputable def Bt (ops:Array Oper) (o:Oper) (a b:D F.T):D F.T:=match o.guard with
 | none=>a
 | some (j,want)=>match ob none (fun p=>p.dst) (jP ops.toList j) with
   | some d=>bc (Nat.ble n d) b (wA (F.get d) fun g=>TB g want a b)
   | none=>b
noncomputable def j7 (ops:Array Oper) (pl:nk) (l:List Nat):Nat→D F.T:=List.rec (motive:=fun _=>Nat→D F.T) (fun _=>⟨fun _ r h y=> .ok [] [h] r h y⟩)
 (fun i _ ih k=>ob ⟨fun _ _ _ _=> .bad⟩ (fun o=>wS F n o.dst fun s=>
  bc (rz E o.op) (canon (Nat.add k 1) fun k'=>Bt F n ops o (O3 (wi E F n o.op) s (ih k')) (MY s (ih k')))
   (canon (Nat.sub (Nat.add (CD pl.bP pl.an i) 1) k) fun m=>Bt F n ops o (O4 k m (wi E F n o.op) s (ih k)) (TA s (ih k)))) (jP ops.toList i)) l
noncomputable def O6 (tr:List QH):List Nat:=List.rec (motive:=fun _=>List Nat) [] (fun x _ ih=>ob ih (fun i=>i::ih) x.made) tr
noncomputable def si (tr:List QH) (hs:List au):Bool:=bc (H_ (O6 tr)) (AB (fun x=>AB x.f (uC (uA hs x.k) x.m)) tr) false
noncomputable def XL (ops:Array Oper) (pl:nk) (call:bq) (r:F.T) (h:au) (y:Y):FO F.T:=match pl.order.reverse with
 | []=> .bad
 | i::front=>match (j7 E F n ops pl front.reverse 0).run call r h y,ops[i]? with
   | .ok tr hs r1 h1 y1,some ⟨dst,.call c,ty,pos,after,guard⟩=>
     match fW E (.call c)&&cJ ops (fC F n r1) ⟨dst,.call c,ty,pos,after,guard⟩&&(List.range ops.size).all (fun j=>j==i||d_ pl.an i j),
      dA E call (fC F n r1) h1 y1.rc ⟨dst,.call c,ty,pos,after,guard⟩ with
     | true,.panic v h'=>match si tr (hs++[h']) with
       | true=> .jmp (.panic v) r1 h' y1
       | false=> .bad
     | _,_=> .bad
   | _,_=> .bad
noncomputable def O7 (ops:Array Oper):I F.T:=Ts E ops (fun pl=>
 ⟨fun call r h y=>DO.rec (motive:=fun _=>FO F.T) (fun tr hs r' h' y'=>bc (si tr hs) (.Kr r' h' y') .bad) (XL E F n ops pl call r h y) ((j7 E F n ops pl pl.order 0).run call r h y)⟩) ⟨fun _ _ _ _=> .bad⟩
def aae (r:T) (o:Out):FO T:=match o with
 | .ok .normal s=> .Kr r s.h ⟨s.ds,s.rc⟩
 | .ok e s=> .jmp e r s.h ⟨s.ds,s.rc⟩
 | .fail _ _=> .bad
noncomputable def Ib (f:Operand) (ps:Array Tmp) (as bd:Code):I F.T:=
 wO E F n f (fun _=>⟨fun call r h y=>aae r (oF E call f ps as bd ⟨fC F n r,h,y.ds,y.rc⟩)⟩) ⟨fun _ _ _ _=> .bad⟩
noncomputable def nS {R:Type} (d:R) (k:Nat→R) (m:Nat):R:=Nat.rec (motive:=fun _=>R) d (fun i _=>k i) m
noncomputable def fo {R:Type} (a:T→au→Y→R) (b:lY→T→au→Y→R) (d:R) (o:FO T):R:=FO.rec (motive:=fun _=>R) a b d o
noncomputable def TC {R:Type} (f:Nat→R) (d:R) (e:lY):R:=lY.rec (motive:=fun _=>R) d f d (fun _=>d) e
noncomputable def TD (b:C T) (m:Nat):bq→T→au→Y→FO T:=
 Nat.rec (motive:=fun _=>bq→T→au→Y→FO T) (fun _ _ _ _=> .bad) (fun i ih call r h y=>fo (fun r' h' y'=>ih call r' h' y') .jmp .bad (b.run i call r h y)) m
noncomputable def XM (i:I T):C T:=⟨fun m call r h y=>nS .bad (fun _=>i.run call r h y) m⟩
noncomputable def n9 (c:Code):C F.T:=Code.rec (motive:=fun _=>C F.T)
 ⟨fun m _ r h y=>nS .bad (fun _=> .Kr r h y) m⟩
 (fun _ ops draw=>bc draw (XM (O7 E F n ops)) (XM (vD E F n ops ops.toList)))
 (fun _ _ a b=>⟨fun m call r h y=>nS .bad (fun i=>fo (fun r' h' y'=>b.run i call r' h' y') .jmp .bad (a.run i call r h y)) m⟩)
 (fun x _ _ a b=>wO E F n x (fun g=>⟨fun m call r h y=>nS .bad (fun i=>kg (fun t=>bc t (a.run i call r h y) (b.run i call r h y)) .bad (g r)) m⟩) ⟨fun _ _ _ _ _=> .bad⟩)
 (fun id _ b=>⟨fun m call r h y=>nS .bad (fun i=>fo .Kr (fun e r' h' y'=>TC (fun j=>bc (Nat.beq j id) (.Kr r' h' y') (.jmp e r' h' y')) (.jmp e r' h' y') e) .bad (b.run i call r h y)) m⟩)
 (fun _ b=>⟨fun m call r h y=>TD b m call r h y⟩)
 (fun f ps as bd _ _=>XM (Ib E F n f ps as bd))
 (fun id=>⟨fun m _ r h y=>nS .bad (fun _=> .jmp (.exit id) r h y) m⟩)
 (fun _ b=>⟨fun m call r h y=>nS .bad (fun i=>b.run i call r h y) m⟩)
 (fun _=>⟨fun m _ r h y=>nS .bad (fun _=> .Kr r h y) m⟩)
 (fun _=>⟨fun _ _ _ _ _=> .bad⟩)
 ⟨fun m _ r h y=>nS .bad (fun _=> .jmp .ret r h y) m⟩
 (fun _=>⟨fun _ _ _ _ _=> .bad⟩) c
end
section
variable (E:Env)
inductive BO where
 | fin (res:au→Option (List AV)) (h:au) (y:Y)
 | pan (v:AV) (res:au→Option (List AV)) (h:au) (y:Y)
 | bad
structure CF where
 run:Nat→bq→List AV→au→RC→BO
noncomputable def AH (F:RF) (n:Nat):List ResultVar→W (F.T→au→Option (List AV))
 | []=>⟨fun _ _=>some []⟩
 | .tmp t::rest=>wT F n t fun g=>wW (AH F n rest) fun k=>⟨fun r h=>ob none (fun vs=>some (g r::vs)) (k r h)⟩
 | .cell a t::rest=>wT F n a fun g=>wW (AH F n rest) fun k=>⟨fun r h=>ob none (fun v=>ob none (fun vs=>some (v::vs)) (k r h)) (bh E h t (g r))⟩
noncomputable def TE (F:RF) (n:Nat) (fn:Func) (b:Code):CF:=
 wW (AH E F n fn.results.toList) fun res=>⟨fun fuel call args h rc=>bc (Nat.ble (jO args) n)
  (fo (fun r h' y=> .fin (res r) h' y) (fun e r h' y=>lY.rec (motive:=fun _=>BO) .bad (fun _=> .bad) (.fin (res r) h' y) (fun v=> .pan v (res r) h' y) e) .bad
   ((n9 E F n b).run fuel call (Sq F args F.z 0) h ⟨[],rc⟩)) .bad⟩
noncomputable def Bu (f:FuncId):CF:=match abl E.P f with
 | none=>⟨fun _ _ _ _ _=> .bad⟩
 | some fn=>match fn.body with
   | none=>⟨fun _ _ _ _ _=> .bad⟩
   | some b=>bc (Nat.ble fn.ntmps 64) (TE E rf2 fn.ntmps fn b) (bc (Nat.ble fn.ntmps 512) (TE E rf3 fn.ntmps fn b) ⟨fun _ _ _ _ _=> .bad⟩)
noncomputable def bo {R:Type} (a:(au→Option (List AV))→au→Y→R) (b:AV→(au→Option (List AV))→au→Y→R) (d:R) (o:BO):R:=BO.rec (motive:=fun _=>R) a b d o
noncomputable def O8 (F:RF) (call:bq) (fuel:Nat) (c:Code) (s:St):Out:=
 fo (fun r h y=> .ok .normal ⟨fC F s.ts.length r,h,y.ds,y.rc⟩) (fun e r h y=> .ok e ⟨fC F s.ts.length r,h,y.ds,y.rc⟩) (.fail "" none) ((n9 E F s.ts.length c).run fuel call (Sq F s.ts F.z 0) s.h ⟨s.ds,s.rc⟩)
noncomputable def O9 (call:bq) (fuel:Nat) (c:Code) (s:St):Out:=
 bc (Nat.ble s.ts.length 64) (O8 E rf2 call fuel c s) (bc (Nat.ble s.ts.length 512) (O8 E rf3 call fuel c s) (.fail "" none))
noncomputable def DD (call:bq) (fuel:Nat) (l:Nat) (args:List AV) (h:au):j3:=match h.get l with
 | some (.loop _ _ ts ps as bd _)=>if args.length=ps.length then
  match O9 E call fuel as {ts:=(ps.zip args).foldl (fun ts x=>ts.set x.1 x.2) ts,h,ds:=[],rc:= .JB l} with
  | .ok .normal s1=>match s1.h.get l with
    | some (.loop .ready pd ts2 ZP W6 bd2 dn2)=>
      match O9 E call fuel bd {s1 with h:=s1.h.put l (some (.loop .busy pd ts2 ZP W6 bd2 dn2))} with
      | .ok .normal s2=>C1 l none s2
      | .ok .ret s2=>C1 l (some .ret) s2
      | .ok (.exit id) s2=>C1 l (some (.exit id)) s2
      | .ok (.panic v) s2=>if s2.ds.isEmpty then .panic v s2.h else .fail "round defers" none
      | .fail why q=> .fail why q
    | _=> .fail "round state" none
  | .ok _ _=> .fail "round assign" none
  | .fail why q=> .fail why q
   else .fail "round args" none
 | _=> .fail "round" none
noncomputable def iL (call:bq) (fuel:Nat) (g:FuncId) (as:List AV) (h:au) (rc:RC):Option (au×RC):=
 bo (fun res h' y=>bc y.ds.isEmpty (ob none (fun _=>some (h',y.rc)) (res h')) none) (fun _ _ _ _=>none) none ((Bu E g).run fuel call as h rc)
noncomputable def Kw (call:bq) (fuel:Nat) (p:Option AV) (res:au→Option (List AV)) (h:au) (ds:List rR):j3:=match dp (iL E call fuel) ds p h with
 | none=> .fail "unwind" none
 | some (some v,h')=> .panic v h'
 | some (none,h')=>ob (.fail "results" none) (fun vs=> .ret (iu vs) h') (res h')
noncomputable def fFn {R:Type} (a:FuncId→R) (b:Nat→R) (f:Fn):R:=Fn.rec (motive:=fun _=>R) a b f
noncomputable def Kx {α R:Type} (a b:R) (l:List α):R:=List.rec (motive:=fun _=>R) a (fun _ _ _=>b) l
noncomputable def aev (fuel:Nat) (call:bq) (g:Fn) (args:List AV) (h:au):j3:=
 fFn (fun f=>bo (fun res h' y=>Kx (ob (.fail "results" none) (fun vs=> .ret (iu vs) h') (res h')) (Kw E call fuel none res h' y.ds) y.ds)
  (fun v res h' y=>Kx (.panic v h') (Kw E call fuel (some v) res h' y.ds) y.ds) (.fail "body" none) ((Bu E f).run fuel call args h .no))
  (fun l=>DD E call fuel l args h) g
noncomputable def Bv (d fuel:Nat):bq:=Nat.rec (motive:=fun _=>bq) (fun _ _ _=> .fail "depth" none) (fun _ ih=>aev E fuel ih) d
end
end Go.Ab.Fa
end
section
namespace Go.Ab.Fa
theorem XN {α R:Type} {d:R} {f:α→R} {a:α}:ob d f (some a)=f a:=rfl
theorem j8 {R:Type} (x y:R):bc true x y=x:=rfl
theorem eI {R:Type} (x y:R):bc false x y=y:=rfl
theorem hD {α β:Type} {f:α→Option β} {o:Option α} {v:β} (h:ob none f o=some v):∃a,o=some a∧f a=some v:=by
 cases o with
 | none=>exact absurd h (by intro e;cases e)
 | some a=>exact ⟨a,rfl,h⟩
theorem gF {β:Type} {b:Bool} {x:Option β} {v:β} (h:bc b x none=some v):b=true∧x=some v:=by
 cases b with
 | false=>cases h
 | true=>exact ⟨rfl,h⟩
theorem sj {β:Type} {b:Bool} {x:Option β} {v:β} (h:bc b none x=some v):b=false∧x=some v:=by
 cases b with
 | false=>exact ⟨rfl,h⟩
 | true=>cases h
theorem GN {β:Type} {f:Bool→Option β} {a:AV} {v:β} (h:kg f none a=some v):∃b,a= .bool b∧f b=some v:=by
 cases a with
 | bool b=>exact ⟨b,rfl,h⟩
 | _=>exact absurd h (by intro e;cases e)
theorem kl {β:Type} {f:IntKind→Int→Option β} {a:AV} {v:β} (h:pJ f none a=some v):∃k n,a= .int k n∧f k n=some v:=by
 cases a with
 | int k n=>exact ⟨k,n,rfl,h⟩
 | _=>exact absurd h (by intro e;cases e)
theorem pN {β:Type} {f:List UInt8→Option β} {a:AV} {v:β} (h:sc f none a=some v):∃s,a= .str s∧f s=some v:=by
 cases a with
 | str s=>exact ⟨s,rfl,h⟩
 | _=>exact absurd h (by intro e;cases e)
theorem uG {β:Type} {f:Nat→Nat→Option β} {a:AV} {v:β} (h:Ax f none a=some v):∃i o,a= .ptr i o∧f i o=some v:=by
 cases a with
 | ptr i o=>exact ⟨i,o,rfl,h⟩
 | _=>exact absurd h (by intro e;cases e)
theorem pO {β:Type} {e:Option β} {f:Nat→Nat→Nat→Nat→Bool→Option β} {a:AV} {v:β} (h:kh e f none a=some v):
 (a= .aH∧e=some v)∨∃i o l c b,a= .slice i o l c b∧f i o l c b=some v:=by
 cases a with
 | aH=>exact .inl ⟨rfl,h⟩
 | slice i o l c b=>exact .inr ⟨i,o,l,c,b,rfl,h⟩
 | _=>exact absurd h (by intro e;cases e)
theorem Ky {β:Type} {e z:Option β} {f:Nat→Nat→Nat→Nat→Bool→Option β} {a:AV} {v:β} (h:kh e f (vZ z none a) a=some v):
 (a= .aH∧e=some v)∨(∃i o l c b,a= .slice i o l c b∧f i o l c b=some v)∨(a= .eN∧z=some v):=by
 cases a with
 | aH=>exact .inl ⟨rfl,h⟩
 | slice i o l c b=>exact .inr (.inl ⟨i,o,l,c,b,rfl,h⟩)
 | eN=>exact .inr (.inr ⟨rfl,h⟩)
 | _=>exact absurd h (by intro e;cases e)
theorem pP {β:Type} {f:Nat→Option β} {n:Int} {v:β} (h:l5 f none n=some v):∃m:Nat,n=(m:Int)∧f m=some v:=by
 cases n with
 | ofNat m=>exact ⟨m,rfl,h⟩
 | negSucc m=>cases h
theorem sl {β:Type} {f:List AV→TypeId→Bool→Option β} {o:aM} {v:β} (h:Az f none o=some v):∃cs e ro,o= .cells cs e ro∧f cs e ro=some v:=by
 cases o with
 | cells cs e ro=>exact ⟨cs,e,ro,rfl,h⟩
 | _=>exact absurd h (by intro e;cases e)
theorem gd {a b:Nat} (h:Nat.ble a b=true):a≤b:=Nat.le_of_ble_eq_true h
theorem lp {a b:Nat} (h:Nat.ble a b=false):b<a:=by
 apply Decidable.byContradiction;intro hn
 rw[Nat.ble_eq_true_of_le (by omega)] at h;cases h
theorem oK {a b:Nat} (h:Nat.beq a b=true):a=b:=Nat.eq_of_beq_eq_true h
theorem O_ {k j:IntKind} (h:Ti k j=true):k=j:=by
 cases k<;>cases j<;>first | rfl | exact absurd h (by intro e;cases e)
theorem yM (b:Bool):xg b= !b:=by cases b<;>rfl
theorem TF {k:IntKind} (h:Z9 k=false) (n:Int):k.wrap n=n%(vW k:Int):=by
 cases k<;>first | (cases h;done) | simp [IntKind.wrap,IntKind.bits,IntKind.signed,vW,kEl]
theorem TG {k:IntKind} (h:Z9 k=true) {m:Nat} (hm:m<vW k):k.wrap (Int.negSucc m)=Int.negSucc m:=by
 have hb:(2^(k.bits - 1):Int)=(vW k:Int)∧(2^k.bits:Int)=2*(vW k:Int)∧k.signed=true:=by
  cases k<;>first | (cases h;done) | (refine ⟨rfl,rfl,rfl⟩)
 obtain ⟨h1,h2,h3⟩:=hb
 unfold IntKind.wrap
 rw[h1,h2,h3,Int.negSucc_eq]
 generalize vW k=B at *
 have e: -((m:Int)+1)%(2*(B:Int))=2*(B:Int) -(m+1):=by
  rw[←Int.add_emod_right]
  exact Int.emod_eq_of_lt (by omega) (by omega)
 rw[e]
 simp only[Bool.true_and,decide_eq_true_eq]
 rw[if_pos (by omega)]
 omega
theorem pQ (k:IntKind) (n:Int):wh k n=k.wrap n:=by
 cases n with
 | ofNat m=>
   show bc (Nat.ble (vW k) m) (bc (Z9 k) (k.wrap (Int.ofNat m)) (Int.ofNat (Nat.mod m (vW k)))) (Int.ofNat m)=_
   cases h:Nat.ble (vW k) m
   · have h:=lp h
     rw[eI]
     cases k<;>simp [IntKind.wrap,IntKind.bits,IntKind.signed]<;>simp only[vW,kEl] at h<;>omega
   · rw[j8]
     cases hs:Z9 k
     · rw[eI,TF hs];rfl
     · rw[j8]
 | negSucc m=>
   show bc (Z9 k) (bc (Nat.ble (vW k) m) (k.wrap (Int.negSucc m)) (Int.negSucc m)) (k.wrap (Int.negSucc m))=_
   cases hs:Z9 k
   · rw[eI]
   · rw[j8]
     cases h:Nat.ble (vW k) m
     · have h:=lp h
       rw[eI]
       exact (TG hs h).symm
     · rw[j8]
theorem XO (a b:Int):pK a b=a+b:=by
 cases a<;>cases b<;>rfl
theorem XP (a b:Int):uz a b=a - b:=by
 cases a with
 | negSucc x=>rfl
 | ofNat x=>
   cases b with
   | negSucc y=>rfl
   | ofNat y=>
     show bc (Nat.ble y x) (Int.ofNat (x - y)) (Int.negSucc (y - x - 1))=_
     cases h:Nat.ble y x
     · have h:=lp h
       rw[eI,Int.negSucc_eq];simp only[Int.ofNat_eq_natCast];omega
     · have h:=gd h
       rw[j8];simp only[Int.ofNat_eq_natCast];omega
theorem O' (a b:Int):Tk a b=a*b:=by
 cases a<;>cases b<;>rfl
theorem MZ (a b:Int):Z_ a b=(a==b):=by
 have:Z_ a b=decide (a=b):=by
  cases a with
  | ofNat x=>cases b with
    | ofNat y=>
      show Nat.beq x y=_
      rw[←Cc]
      by_cases h:x=y
      · subst h;simp
      · rw[show (x==y)=false by simp [h]];symm;apply decide_eq_false;simp only[Int.ofNat_eq_natCast];omega
    | negSucc y=>simp;rfl
  | negSucc x=>cases b with
    | ofNat y=>simp;rfl
    | negSucc y=>
      show Nat.beq x y=_
      rw[←Cc]
      by_cases h:x=y
      · subst h;simp
      · simp [h]
 rw[this];rfl
theorem Ic (a b:Int):XA a b=decide (a<b):=by
 cases a with
 | ofNat x=>cases b with
   | ofNat y=>
     show Nat.ble (x+1) y=_
     rw[←vC];simp only[Int.ofNat_eq_natCast];congr 1;apply propext;omega
   | negSucc y=>
     symm;exact decide_eq_false (by rw[Int.negSucc_eq];simp only[Int.ofNat_eq_natCast];omega)
 | negSucc x=>cases b with
   | ofNat y=>
     symm;exact decide_eq_true (by rw[Int.negSucc_eq];simp only[Int.ofNat_eq_natCast];omega)
   | negSucc y=>
     show Nat.ble (y+1) x=_
     rw[←vC];congr 1;apply propext;rw[Int.negSucc_eq,Int.negSucc_eq];omega
theorem DE (a b:Int):(!decide (a<b))=decide (b≤a):=by
 by_cases h:a<b
 · rw[decide_eq_true h,decide_eq_false (by omega)];rfl
 · rw[decide_eq_false h,decide_eq_true (by omega)];rfl
theorem XQ (k:IntKind) {x:Nat} (h:x<vW k):x<2^k.bits:=by
 cases k<;>simp only[vW,kEl,IntKind.bits] at * <;>omega
theorem Pa (k:IntKind) {x:Nat} (h:x<vW k):k.wrap (x:Int)=x:=by
 have:=pQ k (Int.ofNat x)
 rw[Int.ofNat_eq_natCast] at this
 rw[←this]
 show bc (Nat.ble (vW k) x) _ (Int.ofNat x)=_
 rw[pz h];rfl
theorem XR (k:IntKind):∃m,vW k=2^m:=by
 cases k
 · exact ⟨7,rfl⟩
 · exact ⟨15,rfl⟩
 · exact ⟨31,rfl⟩
 · exact ⟨63,rfl⟩
 · exact ⟨8,rfl⟩
 · exact ⟨16,rfl⟩
 · exact ⟨32,rfl⟩
 · exact ⟨64,rfl⟩
theorem toNat_ofInt (k:IntKind) {x:Nat} (h:x<vW k):(BitVec.ofInt k.bits (Int.ofNat x)).toNat=x:=by
 rw[Int.ofNat_eq_natCast,BitVec.ofInt_natCast,BitVec.toNat_ofNat]
 exact Nat.mod_eq_of_lt (XQ k h)
theorem XS (op:BinOp) (k:IntKind) (a b:Int) {v:AV} (h:XB op k a b=some v):dK op k a b=some v:=by
 cases op<;>simp only[XB] at h<;>try exact h
 · simpa [dK,pQ,XO] using h
 · simpa [dK,pQ,XP] using h
 · simpa [dK,pQ,O'] using h
 · cases a with
   | negSucc x=>exact h
   | ofNat x=>cases b with
     | negSucc y=>exact h
     | ofNat y=>
       obtain ⟨h1,h2⟩:=sj h
       rw[pQ] at h2
       have:y≠0:=by intro e;subst e;cases h1
       rw[←h2];simp [dK,this];exact congrArg k.wrap (Int.natCast_ediv x y).symm
 · cases a with
   | negSucc x=>exact h
   | ofNat x=>cases b with
     | negSucc y=>exact h
     | ofNat y=>
       obtain ⟨h1,h2⟩:=sj h
       have:y≠0:=by intro e;subst e;cases h1
       rw[←h2];simp [dK,this];rfl
 · cases a with
   | negSucc x=>exact h
   | ofNat x=>cases b with
     | negSucc y=>exact h
     | ofNat y=>
       change bc (Nat.ble (vW k) x) _ (bc (Nat.ble (vW k) y) _ _)=_ at h
       cases h1:Nat.ble (vW k) x with
       | true=>rw[h1] at h;exact h
       | false=>cases h2:Nat.ble (vW k) y with
         | true=>rw[h1,h2] at h;exact h
         | false=>
           rw[h1,h2] at h
           have h1:=lp h1;have h2:=lp h2
           rw[←h,eI,eI]
           show some (AV.int k (k.wrap ((BitVec.ofInt k.bits (Int.ofNat x)&&& BitVec.ofInt k.bits (Int.ofNat y)).toNat:Int)))=_
           rw[BitVec.toNat_and,toNat_ofInt k h1,toNat_ofInt k h2,Pa k (Nat.lt_of_le_of_lt Nat.and_le_left h1)]
           rfl
 · cases a with
   | negSucc x=>exact h
   | ofNat x=>cases b with
     | negSucc y=>exact h
     | ofNat y=>
       change bc (Nat.ble (vW k) x) _ (bc (Nat.ble (vW k) y) _ _)=_ at h
       cases h1:Nat.ble (vW k) x with
       | true=>rw[h1] at h;exact h
       | false=>cases h2:Nat.ble (vW k) y with
         | true=>rw[h1,h2] at h;exact h
         | false=>
           rw[h1,h2] at h
           have h1:=lp h1;have h2:=lp h2
           rw[←h,eI,eI]
           show some (AV.int k (k.wrap ((BitVec.ofInt k.bits (Int.ofNat x)||| BitVec.ofInt k.bits (Int.ofNat y)).toNat:Int)))=_
           rw[BitVec.toNat_or,toNat_ofInt k h1,toNat_ofInt k h2,Pa k]
           · rfl
           · obtain ⟨m,hm⟩:=XR k
             rw[hm] at h1 h2 ⊢
             exact Nat.or_lt_two_pow h1 h2
 · simpa [dK,MZ] using h
 · simpa [dK,MZ,yM,bne] using h
 · simpa [dK,Ic] using h
 · simpa [dK,Ic,yM,DE] using h
 · simpa [dK,Ic] using h
 · simpa [dK,Ic,yM,DE] using h
theorem XT (op:BinOp) (k:IntKind) (a b:Int):(Tu op).f k a b=XB op k a b:=by
 cases op<;>rfl
theorem TH (k:IntKind):Tj k=k.bits:=by cases k<;>rfl
theorem Pb (k:IntKind) (y:Nat):Tn k y=min y k.bits:=by
 unfold Tn;rw[TH]
 cases h:Nat.ble k.bits y
 · have:=lp h;rw[eI];omega
 · have:=gd h;rw[j8];omega
theorem XU {k:IntKind} {x y:Int} {v:AV} (h:aep k x y=some v):¬y<0∧v= .int k (k.wrap (x*2^(min y.toNat k.bits))):=by
 obtain ⟨m,rfl,h⟩:=pP h
 refine ⟨by omega,?_⟩
 have h:=Option.some.inj h
 rw[←h,pQ,O',Pb]
 simp
theorem XV {k:IntKind} {x y:Int} {v:AV} (h:aeq k x y=some v):¬y<0∧v= .int k (x.fdiv (2^(min y.toNat k.bits))):=by
 obtain ⟨m,rfl,h⟩:=pP h
 refine ⟨by omega,?_⟩
 have h:=Option.some.inj h
 rw[←h]
 cases x with
 | negSucc x=>simp [l5]
 | ofNat x=>
   show AV.int k (Int.ofNat (x/2^Tn k m))=_
   rw[Pb]
   simp
   rw[show (2^min m k.bits:Int)=((2^min m k.bits:Nat):Int) by simp]
   exact (Int.fdiv_eq_ediv_of_nonneg _ (Int.natCast_nonneg _)).symm
end Go.Ab.Fa
end
section
namespace Go.Ab.Fa
section
variable {α:Type}
theorem rC (l:List α) (o:Nat):uA l o=l.drop o:=by
 induction l generalizing o with
 | nil=>simp [uA]
 | cons v tl ih=>
   show bc (Nat.beq o 0) (v::tl) (uA tl (o - 1))=_
   rw[ih]
   cases o with
   | zero=>rfl
   | succ o=>simp [show Nat.beq (o+1) 0=false from rfl,eI]
theorem rD (l:List α) (o:Nat):uC l o=l.take o:=by
 induction l generalizing o with
 | nil=>simp [uC]
 | cons v tl ih=>
   show bc (Nat.beq o 0) [] (v::uC tl (o - 1))=_
   rw[ih]
   cases o with
   | zero=>rfl
   | succ o=>simp [show Nat.beq (o+1) 0=false from rfl,eI]
theorem QI (vs:List α):∀(cs:List α) (k:Nat),(Kj vs cs)[k]? =if k<vs.length∧k<cs.length then vs[k]? else cs[k]? :=by
 induction vs with
 | nil=>intro cs k;rw[if_neg (by simp)];rfl
 | cons v vs ih=>
   intro cs k
   cases cs with
   | nil=>rw[if_neg (by simp)];rfl
   | cons c tl=>
     show (v::Kj vs tl)[k]? =_
     cases k with
     | zero=>rw[if_pos (by simp)];rfl
     | succ k=>simp only[List.getElem?_cons_succ,ih,List.length_cons,Nat.add_lt_add_iff_right]
theorem TI (vs:List α):∀(cs:List α) (o k:Nat),(Kk vs cs o)[k]? =if o≤k∧k<o+vs.length∧k<cs.length then vs[k - o]? else cs[k]? :=by
 intro cs
 induction cs with
 | nil=>intro o k;rw[if_neg (by simp)];rfl
 | cons c tl ih=>
   intro o k
   show (bc (Nat.beq o 0) (Kj vs (c::tl)) (c::Kk vs tl (o - 1)))[k]? =_
   cases o with
   | zero=>
     show (Kj vs (c::tl))[k]? =_
     rw[QI];simp
   | succ o=>
     show (c::Kk vs tl o)[k]? =_
     cases k with
     | zero=>rw[if_neg (by omega)];rfl
     | succ k=>
       rw[List.getElem?_cons_succ,ih,List.getElem?_cons_succ,List.length_cons]
       by_cases h:o≤k∧k<o+vs.length∧k<tl.length
       · rw[if_pos h,if_pos (by omega),show k+1 -(o+1)=k - o by omega]
       · rw[if_neg h,if_neg (by omega)]
end
theorem Ie (vs cs:List AV) (o:Nat):Kk vs cs o=setFrom cs o vs:=by
 apply List.ext_getElem?;intro k;rw[TI,jg]
theorem M1 (l m:List UInt8):leq Dw l m=(l==m):=by
 have key:∀a b:UInt8,Dw a b=(a==b):=by
  intro a b
  unfold Dw
  rw[←Cc]
  by_cases h:a=b
  · subst h;simp
  · rw[show (a==b)=false by simp [h]]
    rw[beq_eq_false_iff_ne]
    intro e;apply h
    have:a.toNat=b.toNat:=e
    exact UInt8.toNat_inj.mp this
 induction l generalizing m with
 | nil=>cases m<;>rfl
 | cons x tl ih=>
   cases m with
   | nil=>rfl
   | cons y tm=>
     show bc (Dw x y) (leq Dw tl tm) false=_
     rw[ih,key,pM];rfl
theorem XW (op:BinOp) (a b:List UInt8):(QG op).f a b=wK op a b:=by
 cases op<;>first | rfl | (simp only[QG,wK,M1,yM])
theorem XX (v:AV):XC v=AV.scalar v:=by cases v<;>rfl
theorem Kz:XC=AV.scalar:=funext XX
theorem QJ (v:AV):H2 v=true→(match (some v:Option AV) with
 | some (.ptr i o)=>some (.ptr i o)
 | some (.map i)=>some (.map i)
 | some (.slice i o l c b)=>some (.slice i o l c b)
 | some (.func f a b)=>some (.func f a b)
 | _=>none)=some v:=by
 cases v<;>intro h<;>first | rfl | exact absurd h (by intro e;cases e)
theorem KA {f:TypeId→AV→Ah} {why:String} {o:Option Oper} (a:AV):(∃t v,a= .iface t v)∨se f (.fail why o) a= .fail why o:=by
 cases a with
 | iface t v=>exact .inl ⟨t,v,rfl⟩
 | _=>exact .inr rfl
theorem nq (v:AV):mG v=v.cells:=by cases v<;>rfl
section
variable (E:Env) (F:RF) (n:Nat)
theorem Ig {β:Type} (i:Nat) (k:(F.T→AV)→β):∃g,wT F n i k=k g∧∀r,(fC F n r).getD i AV.undef=g r:=by
 unfold wT
 cases h:Nat.ble n i
 · refine ⟨(F.get i).f,rfl,fun r=>?_⟩
   rw[Ki,if_pos (lp h)]
 · refine ⟨fun _=>AV.undef,rfl,fun r=>?_⟩
   rw[Ki,if_neg (by have:=gd h;omega)]
theorem bY {β:Type} (x:Operand) (k:(F.T→AV)→β) (d:β):wO E F n x k d=d∨∃g,wO E F n x k d=k g∧∀r,fb E (fC F n r) x=some (g r):=by
 cases x with
 | tmp t=>
   obtain ⟨g,h1,h2⟩:=Ig F n t k
   exact .inr ⟨g,h1,fun r=>by rw[←h2];rfl⟩
 | const v=>
   simp only[wO]
   cases h:ofConst v with
   | none=>exact .inl rfl
   | some a=>exact .inr ⟨fun _=>a,rfl,fun r=>h⟩
 | global g=>
   simp only[wO]
   cases h:Nat.ble E.G g
   · exact .inr ⟨fun _=> .ptr g 0,rfl,fun r=>by rw[fb,if_pos (lp h)]⟩
   · exact .inl rfl
 | func f=>exact .inr ⟨fun _=> .func f [] [],rfl,fun r=>rfl⟩
theorem vE {β:Type}:∀(l:List Operand) (k:(F.T→List AV)→β) (d:β),wL E F n l k d=d∨∃g,wL E F n l k d=k g∧∀r,gI E (fC F n r) l=some (g r)
 | [],k,d=> .inr ⟨fun _=> [],rfl,fun r=>rfl⟩
 | x::xs,k,d=>by
   rw[wL]
   rcases bY E F n x (fun g=>wL E F n xs (fun gs=>k fun r=>g r::gs r) d) d with h | ⟨g,h,hg⟩
   · exact .inl h
   · rcases vE xs (fun gs=>k fun r=>g r::gs r) d with h' | ⟨gs,h',hgs⟩
     · exact .inl (h.trans h')
     · refine .inr ⟨_,h.trans h',fun r=>?_⟩
       have:=hgs r
       unfold gI at *
       rw[eX,hg r];simp only[this]
theorem Pc {β:Type} (o:Option Operand) (k:Option (F.T→AV)→β) (d:β):wP E F n o k d=d∨∃g,wP E F n o k d=k g∧∀r,nZ E (fC F n r) o=some (FG g r):=by
 cases o with
 | none=>exact .inr ⟨none,rfl,fun r=>rfl⟩
 | some x=>
   rcases bY E F n x (fun g=>k (some g)) d with h | ⟨g,h,hg⟩
   · exact .inl h
   · exact .inr ⟨some g,h,fun r=>by rw[nZ,hg r];rfl⟩
theorem DF {β:Type}:∀(l:List (Nat×Operand)) (k:(F.T→List (Nat×AV))→β) (d:β),XI E F n l k d=d∨∃g,XI E F n l k d=k g∧∀r,kZ E (fC F n r) l=some (g r)
 | [],k,d=> .inr ⟨fun _=> [],rfl,fun r=>rfl⟩
 | (i,x)::xs,k,d=>by
   rw[XI]
   rcases bY E F n x (fun g=>XI E F n xs (fun gs=>k fun r=>(i,g r)::gs r) d) d with h | ⟨g,h,hg⟩
   · exact .inl h
   · rcases DF xs (fun gs=>k fun r=>(i,g r)::gs r) d with h' | ⟨gs,h',hgs⟩
     · exact .inl (h.trans h')
     · refine .inr ⟨_,h.trans h',fun r=>?_⟩
       rw[kZ,hg r];simp only[hgs r]
theorem Pd {β:Type} (hn:n≤F.N) (o:Option Tmp) (k:(AV→F.T→F.T)→β):∃s,wS F n o k=k s∧∀v r,dt (fC F n r) o v=fC F n (s v r):=by
 cases o with
 | none=>exact ⟨fun _ r=>r,rfl,fun v r=>rfl⟩
 | some i=>
   show ∃s,bc (Nat.ble n i) (k fun _ r=>r) (wU (F.set i) k)=k s∧_
   cases h:Nat.ble n i
   · exact ⟨(F.set i).f,rfl,fun v r=>Xy F n hn r (lp h) v⟩
   · refine ⟨fun _ r=>r,rfl,fun v r=>?_⟩
     show (fC F n r).set i v=_
     rw[List.set_eq_of_length_le (by rw[jq];exact gd h)]
theorem pR (t:TypeId):yj E t=bU E t:=by
 unfold yj bU;rw[uE];cases E.P.info? t<;>rfl
theorem TJ (t:TypeId):byF E t=ke E t:=by
 unfold byF ke;rw[uE];cases E.P.info? t<;>rfl
theorem AI (t:TypeId):Mk E t=gR E t:=by
 unfold Mk gR;rw[uE]
 cases E.P.info? t with
 | none=>rfl
 | some i=>show ob none (fun z=>ofConst z) i.zero=_;cases h:i.zero<;>simp [ob,h]
theorem abq (t:TypeId):agF E t=fw E t:=by
 unfold agF fw;rw[jr];rfl
theorem TL (t:TypeId) (f:Nat):fiF E t f=n5 E t f:=by
 unfold fiF n5;rw[jr]
 generalize E.P.underlying t=u
 cases u with
 | none=>rfl
 | some d=>cases d with
   | struct fs=>show jP fs.toList f=fs[f]?;rw[hU];exact Array.getElem?_toList
   | _=>rfl
def uH (op:Op):Prop:=(∀ts,bC E ts op=none)∧(∀ts h,eH E ts h op=none)∧∀ts,eO E ts op=none
def lq (f g:bq):Prop:=∀F as h,(∀v h',f F as h= .ret v h'→g F as h= .ret v h')∧∀v h',f F as h= .panic v h'→g F as h= .panic v h'
def ELe (a b:Ah):Prop:=match a with
 | .fail _ _=>True
 | a=>b=a
def gO (op:Op):Kd F.T→Prop
 | .JE g=>∀r,bC E (fC F n r) op=some (g r)
 | .hG f=>∀r v,f r=some v→bC E (fC F n r) op=some v
 | .red f=>∀r h v,f r h=some v→bC E (fC F n r) op=some v∨(bC E (fC F n r) op=none∧eH E (fC F n r) h op=some v)
 | .tY f=>(∀ts,bC E ts op=none)∧(∀ts h,eH E ts h op=none)∧∀r p,f r=some p→eO E (fC F n r) op=some p
 | .wr f=>uH E op∧∀call r h rc o p,o.op=op→f r h=some p→dA E call (fC F n r) h rc o= .val p.1 p.2
 | .call g args=>uH E op∧∀call r h rc o,o.op=op→dA E call (fC F n r) h rc o=n8 (call g (args r) h)
 | .vV f=>uH E op∧∀fc call,lq fc call→∀r h rc o,o.op=op→ELe (f fc r h rc) (dA E call (fC F n r) h rc o)
 | .bad=>True
end
end Go.Ab.Fa
end
section
namespace Go.Ab.Fa
variable {E:Env} {F:RF} {n:Nat}
theorem XY {op:BinOp} (h1:op≠ .shl) (h2:op≠ .shr) {t:TypeId} {xc yc:Bool} {a b v:AV} (h:XH (Tu op).f (QG op).f (nf E op t xc yc) a b=some v):nf E op t xc yc a b=some v:=by
 unfold XH at h
 cases a with
 | int k x=>
   obtain ⟨j,y,rfl,h3⟩:=kl (show pJ (fun j y=>bc (Ti k j) ((Tu op).f k x y) none) none b=some v from h)
   obtain ⟨hk,h4⟩:=gF h3
   have hk:=O_ hk
   rw[XT] at h4
   have:=XS op k x y h4
   rw[←hk]
   cases op<;>first | exact absurd rfl h1 | exact absurd rfl h2 | simpa [nf] using this
 | str s=>
   obtain ⟨s',rfl,h3⟩:=pN (show sc (fun t=>(QG op).f s t) none b=some v from h)
   rw[XW] at h3
   cases op<;>first | exact absurd rfl h1 | exact absurd rfl h2 | simpa [nf] using h3
 | _=>exact h
theorem XZ (op:BinOp) (t:TypeId) (x y:Operand) (yt:TypeId) (gx gy:F.T→AV) (hx:∀r,fb E (fC F n r) x=some (gx r)) (hy:∀r,fb E (fC F n r) y=some (gy r)):
 gO E F n (.binOp op t x y yt) (gE op (nf E op t (isConst x) (isConst y)) gx gy):=by
 have red:∀r,bC E (fC F n r) (.binOp op t x y yt)=nf E op t (isConst x) (isConst y) (gx r) (gy r):=by
  intro r;simp only[bC,hx,hy]
 by_cases h1:op= .shl
 · subst h1
   intro r v h
   rw[red]
   obtain ⟨k,m,e1,h⟩:=kl h
   obtain ⟨k',m',e2,h⟩:=kl h
   obtain ⟨h3,rfl⟩:=XU h
   rw[e1,e2];simp [nf,h3]
 by_cases h2:op= .shr
 · subst h2
   intro r v h
   rw[red]
   obtain ⟨k,m,e1,h⟩:=kl h
   obtain ⟨k',m',e2,h⟩:=kl h
   obtain ⟨h3,rfl⟩:=XV h
   rw[e1,e2];simp [nf,h3]
 have:gE op (nf E op t (isConst x) (isConst y)) gx gy= .hG fun r=>XH (Tu op).f (QG op).f (nf E op t (isConst x) (isConst y)) (gx r) (gy r):=by
  cases op<;>first | exact absurd rfl h1 | exact absurd rfl h2 | rfl
 rw[this]
 intro r v h
 rw[red]
 exact XY h1 h2 h
theorem abr (op:UnOp) (t:TypeId) (x:Operand) (g:F.T→AV) (hg:∀r,fb E (fC F n r) x=some (g r)):gO E F n (.unOp op t x) (unK op g):=by
 have red:∀r,bC E (fC F n r) (.unOp op t x)=unA op (g r):=by intro r;simp only[bC,hg]
 cases op with
 | not=>
   intro r v h
   rw[red]
   obtain ⟨b,e,h⟩:=GN h
   rw[e,←h,yM];rfl
 | _=>intro r v h;rw[red];exact h
theorem TM {t:TypeId} {m:Nat} (h1:fw E t=some true) (h2:bU E t=some m) {cs:List AV} {o:Nat} {v:AV} (h:Tw m cs o=some v):iK E t cs o=some v:=by
 unfold Tw at h
 obtain ⟨h3,h⟩:=gF h
 have h3:=gd h3
 rw[gD] at h3
 unfold iK
 rw[h1,h2]
 simp only
 rw[if_pos (show o+m≤cs.length from h3),←h,rD,rC]
theorem TN {t:TypeId} (h1:fw E t=some false) {cs:List AV} {o:Nat} {v:AV} (h:Tv cs o=some v):iK E t cs o=some v:=by
 unfold Tv at h
 rw[hU] at h
 unfold iK
 rw[h1];exact h
theorem DG {T:Type} (t:TypeId) (k:(List AV→Nat→Option AV)→Kd T):yL E t k= .bad∨∃p,yL E t k=k p∧∀cs o v,p cs o=some v→iK E t cs o=some v:=by
 unfold yL
 rw[abq]
 cases h:fw E t with
 | none=>exact .inl rfl
 | some b=>cases b with
   | false=>exact .inr ⟨_,rfl,fun cs o v=>TN h⟩
   | true=>
     simp only
     rw[pR]
     cases h2:bU E t with
     | none=>exact .inl rfl
     | some m=>exact .inr ⟨_,rfl,fun cs o v=>TM h h2⟩
theorem TO {t:TypeId} {p:List AV→Nat→Option AV} (hp:∀cs o v,p cs o=some v→iK E t cs o=some v) {h:au} {a v:AV} (e:Kt p h a=some v):bh E h t a=some v:=by
 obtain ⟨i,o,rfl,e⟩:=uG e
 obtain ⟨obj,e1,e⟩:=hD e
 obtain ⟨cs,el,ro,rfl,e⟩:=sl e
 simp only[bh,e1]
 exact hp _ _ _ e
theorem X0 (t:TypeId) (a:Operand):gO E F n (.load t a) (wO E F n a (fun g=>yL E t fun p=> .red fun r h=>Kt p h (g r)) .bad):=by
 rcases bY E F n a (fun g=>yL E t fun p=>(.red fun r h=>Kt p h (g r):Kd F.T)) .bad with h | ⟨g,h,hg⟩<;>rw[h]
 · trivial
 · rcases DG (E:=E) t (fun p=>(.red fun r h=>Kt p h (g r):Kd F.T)) with h | ⟨p,h,hp⟩<;>rw[h]
   · trivial
   · intro r h v e
     refine .inr ⟨rfl,?_⟩
     simp only[eH,hg]
     exact TO hp e
theorem TP (s:TypeId) (x:Operand) (f:Nat):gO E F n (.field s x f) (match fiF E s f with
 | some fd=>wO E F n x (fun g=>yL E fd.type fun p=> .hG fun r=>Ay (fun cs=>p cs fd.offset) (fun _=>none) none (g r)) .bad
 | none=> .bad):=by
 rw[TL]
 cases h0:n5 E s f with
 | none=>trivial
 | some fd=>
   simp only
   rcases bY E F n x (fun g=>yL E fd.type fun p=>(.hG fun r=>Ay (fun cs=>p cs fd.offset) (fun _=>none) none (g r):Kd F.T)) .bad with h | ⟨g,h,hg⟩<;>rw[h]
   · trivial
   · rcases DG (E:=E) fd.type (fun p=>(.hG fun r=>Ay (fun cs=>p cs fd.offset) (fun _=>none) none (g r):Kd F.T)) with h | ⟨p,h,hp⟩<;>rw[h]
     · trivial
     · intro r v e
       change Ay (fun cs=>p cs fd.offset) (fun _=>none) none (g r)=some v at e
       simp only[bC,h0,hg]
       cases hv:g r with
       | agg cs=>rw[hv] at e;exact hp _ _ _ e
       | _=>rw[hv] at e;exact absurd e (by intro e;cases e)
theorem Ih (s:TypeId) (x:Operand) (f:Nat):gO E F n (.fieldAddr s x f) (match fiF E s f with
 | some fd=>match yj E fd.type with
   | some (_+1)=>wO E F n x (fun g=> .hG fun r=>Ax (fun i o=>some (.ptr i (Nat.add o fd.offset))) none (g r)) .bad
   | _=> .bad
 | none=> .bad):=by
 rw[TL]
 cases h0:n5 E s f with
 | none=>trivial
 | some fd=>
   simp only
   rw[pR]
   cases h1:bU E fd.type with
   | none=>trivial
   | some m=>cases m with
     | zero=>trivial
     | succ m=>
       simp only
       rcases bY E F n x (fun g=>(.hG fun r=>Ax (fun i o=>some (.ptr i (Nat.add o fd.offset))) none (g r):Kd F.T)) .bad with h | ⟨g,h,hg⟩<;>rw[h]
       · trivial
       · intro r v e
         obtain ⟨i,o,e1,e⟩:=uG e
         simp only[bC,h0,hg,e1,h1]
         rw[if_neg (by omega)];exact e
theorem KB (x:Operand):gO E F n (.nilCheck x) (wO E F n x (fun g=> .hG fun r=>bc (H2 (g r)) (some (g r)) none) .bad):=by
 rcases bY E F n x (fun g=>(.hG fun r=>bc (H2 (g r)) (some (g r)) none:Kd F.T)) .bad with h | ⟨g,h,hg⟩<;>rw[h]
 · trivial
 · intro r v e
   obtain ⟨h1,e⟩:=gF e
   simp only[bC,hg]
   rw[←e]
   exact QJ _ h1
theorem M3 (x:Operand) (i:Nat):gO E F n (.extract x i) (wO E F n x (fun g=> .hG fun r=>Ay (fun _=>none) (fun vs=>jP vs i) none (g r)) .bad):=by
 rcases bY E F n x (fun g=>(.hG fun r=>Ay (fun _=>none) (fun vs=>jP vs i) none (g r):Kd F.T)) .bad with h | ⟨g,h,hg⟩<;>rw[h]
 · trivial
 · intro r v e
   change Ay (fun _=>none) (fun vs=>jP vs i) none (g r)=some v at e
   simp only[bC,hg]
   cases hv:g r with
   | tuple cs=>rw[hv] at e;show cs[i]? =some v;rw[←hU];exact e
   | _=>rw[hv] at e;exact absurd e (by intro e;cases e)
theorem X1 (c a b:Operand):gO E F n (.pick c a b) (wO E F n c (fun gc=>wO E F n a (fun ga=>wO E F n b (fun gb=> .hG fun r=>kg (fun t=>bc t (some (ga r)) (some (gb r))) none (gc r)) .bad) .bad) .bad):=by
 rcases bY E F n c (fun gc=>wO E F n a (fun ga=>wO E F n b (fun gb=>(.hG fun r=>kg (fun t=>bc t (some (ga r)) (some (gb r))) none (gc r):Kd F.T)) .bad) .bad) .bad with h | ⟨gc,h,hc⟩<;>rw[h]
 · trivial
 rcases bY E F n a (fun ga=>wO E F n b (fun gb=>(.hG fun r=>kg (fun t=>bc t (some (ga r)) (some (gb r))) none (gc r):Kd F.T)) .bad) .bad with h | ⟨ga,h,ha⟩<;>rw[h]
 · trivial
 rcases bY E F n b (fun gb=>(.hG fun r=>kg (fun t=>bc t (some (ga r)) (some (gb r))) none (gc r):Kd F.T)) .bad with h | ⟨gb,h,hb⟩<;>rw[h]
 · trivial
 intro r v e
 obtain ⟨t,e1,e⟩:=GN e
 simp only[bC,hc,e1]
 cases t
 · simp only[hb];exact e
 · simp only[ha];exact e
theorem Pe {len size i o:Nat} {ix v:AV} (e:H' len size i o ix=some v):∃k m,ix= .int k m∧0≤m∧m<len∧v= .ptr i (o+m.toNat*size):=by
 obtain ⟨k,m,rfl,e⟩:=kl e
 obtain ⟨m',rfl,e⟩:=pP e
 obtain ⟨h1,e⟩:=sj e
 have h1:=lp h1
 exact ⟨k,m',rfl,by omega,by omega,(Option.some.inj e).symm⟩
theorem Ii (t:TypeId) (x ix:Operand):gO E F n (.indexAddr t x ix) (wO E F n x (fun gx=>wO E F n ix (fun gi=>match kN E.P t with
 | some (.array len elem)=>match yj E elem with
   | some size=> .hG fun r=>Ax (fun i o=>H' len size i o (gi r)) none (gx r)
   | none=> .bad
 | some (.slice elem)=>match yj E elem with
   | some size=> .hG fun r=>kh none (fun i o len _ _=>H' len size i o (gi r)) none (gx r)
   | none=> .bad
 | _=> .bad) .bad) .bad):=by
 rw[jr]
 rcases bY E F n x (fun gx=>wO E F n ix (fun gi=>match E.P.underlying t with
  | some (.array len elem)=>match yj E elem with
    | some size=>(.hG fun r=>Ax (fun i o=>H' len size i o (gi r)) none (gx r):Kd F.T)
    | none=> .bad
  | some (.slice elem)=>match yj E elem with
    | some size=> .hG fun r=>kh none (fun i o len _ _=>H' len size i o (gi r)) none (gx r)
    | none=> .bad
  | _=> .bad) .bad) .bad with h | ⟨gx,h,hx⟩<;>rw[h]
 · trivial
 rcases bY E F n ix (fun gi=>match E.P.underlying t with
  | some (.array len elem)=>match yj E elem with
    | some size=>(.hG fun r=>Ax (fun i o=>H' len size i o (gi r)) none (gx r):Kd F.T)
    | none=> .bad
  | some (.slice elem)=>match yj E elem with
    | some size=> .hG fun r=>kh none (fun i o len _ _=>H' len size i o (gi r)) none (gx r)
    | none=> .bad
  | _=> .bad) .bad with h | ⟨gi,h,hi⟩<;>rw[h]
 · trivial
 cases hu:E.P.underlying t with
 | none=>trivial
 | some d=>cases d with
   | array len elem=>
     simp only
     rw[pR]
     cases hs:bU E elem with
     | none=>trivial
     | some size=>
       intro r v e
       obtain ⟨i,o,e1,e⟩:=uG e
       obtain ⟨k,m,e2,h1,h2,rfl⟩:=Pe e
       simp only[bC,hu,hx,hi,e1,e2,hs]
       rw[if_pos ⟨h1,h2⟩]
   | slice elem=>
     simp only
     rw[pR]
     cases hs:bU E elem with
     | none=>trivial
     | some size=>
       intro r v e
       rcases pO e with ⟨_,e⟩ | ⟨i,o,l,c,b,e1,e⟩
       · cases e
       obtain ⟨k,m,e2,h1,h2,rfl⟩:=Pe e
       simp only[bC,hu,hx,hi,e1,e2,hs]
       rw[if_pos ⟨h1,h2⟩]
   | _=>trivial
theorem TQ (t:TypeId) (x ix:Operand):gO E F n (.index t x ix) (wO E F n x (fun gx=>wO E F n ix (fun gi=>match kN E.P t with
 | some .string=> .hG fun r=>sc (fun s=>pJ (fun _ i=>l5 (fun m=>ob none (fun (b:UInt8)=>some (.int .u8 (Int.ofNat b.toNat))) (jP s m)) none i) none (gi r)) none (gx r)
 | _=> .hG fun r=>bC E (fC F n r) (.index t x ix)) .bad) .bad):=by
 rw[jr]
 rcases bY E F n x (fun gx=>wO E F n ix (fun gi=>match E.P.underlying t with
  | some .string=>(.hG fun r=>sc (fun s=>pJ (fun _ i=>l5 (fun m=>ob none (fun (b:UInt8)=>some (.int .u8 (Int.ofNat b.toNat))) (jP s m)) none i) none (gi r)) none (gx r):Kd F.T)
  | _=> .hG fun r=>bC E (fC F n r) (.index t x ix)) .bad) .bad with h | ⟨gx,h,hx⟩<;>rw[h]
 · trivial
 rcases bY E F n ix (fun gi=>match E.P.underlying t with
  | some .string=>(.hG fun r=>sc (fun s=>pJ (fun _ i=>l5 (fun m=>ob none (fun (b:UInt8)=>some (.int .u8 (Int.ofNat b.toNat))) (jP s m)) none i) none (gi r)) none (gx r):Kd F.T)
  | _=> .hG fun r=>bC E (fC F n r) (.index t x ix)) .bad with h | ⟨gi,h,hi⟩<;>rw[h]
 · trivial
 cases hu:E.P.underlying t with
 | none=>intro r v e;exact e
 | some d=>cases d with
   | string=>
     intro r v e
     obtain ⟨s,e1,e⟩:=pN e
     obtain ⟨k,m,e2,e⟩:=kl e
     obtain ⟨m',rfl,e⟩:=pP e
     obtain ⟨b,e3,e⟩:=hD e
     rw[hU] at e3
     simp only[bC,hu,hx,hi,e1,e2]
     rw[if_pos (by omega)]
     rw[show ((m':Int).toNat)=m' from rfl,e3]
     exact e
   | _=>intro r v e;exact e
theorem qm {d y:Nat} {o:Option AV} {k:Nat→Option AV} {v:AV} (e:Ia d y o k=some v):∃m,(match o with | some v=>pv v y | none=>some d)=some m∧k m=some v:=by
 cases o with
 | none=>exact ⟨d,rfl,e⟩
 | some a=>
   obtain ⟨kk,i,rfl,e⟩:=kl (show pJ (fun _ i=>l5 (fun m=>bc (Nat.ble m y) (k m) none) none i) none a=some v from e)
   obtain ⟨m,rfl,e⟩:=pP e
   obtain ⟨h1,e⟩:=gF e
   have h1:=gd h1
   refine ⟨m,?_,e⟩
   simp only[pv]
   rw[if_pos (by omega)];rfl
theorem vF {len cap h l:Nat} {lo hi:Option AV} (h1:(match hi with | some v=>pv v cap | none=>some len)=some h)
 (h2:(match lo with | some v=>pv v h | none=>some 0)=some l):lR len cap lo hi none=some (l,h,cap):=by
 cases hi with
 | none=>cases lo with
   | none=>cases h1;cases h2;rfl
   | some b=>cases h1;simp only[lR,Option.isSome_none];simp at h2;simp [h2]
 | some a=>cases lo with
   | none=>cases h2;simp only[lR];simp at h1;simp [h1]
   | some b=>simp only[lR];simp at h1 h2;simp [h1,h2]
theorem abt {t elem:TypeId} {size:Nat} (hu:E.P.underlying t=some (.slice elem)) (hs:bU E elem=some size) {lo hi:Option AV} {x v:AV} (e:slF size lo hi x=some v):db E t x lo hi none=some v:=by
 rcases pO e with ⟨rfl,e1⟩ | ⟨i,o,len,cap,op,rfl,e1⟩
 · obtain ⟨h,h1,e2⟩:=qm e1
   obtain ⟨l,h2,e3⟩:=qm e2
   simp only[db,hu,vF h1 h2,hs]
   exact e3
 · obtain ⟨h0,e2⟩:=gF e1
   have h0:=gd h0
   obtain ⟨h,h1,e3⟩:=qm e2
   obtain ⟨l,h2,e4⟩:=qm e3
   simp only[db,hu,vF h1 h2,hs]
   rw[if_pos h0]
   cases h3:Nat.beq cap l
   · rw[h3,eI] at e4
     have:¬cap=l:=by intro ee;rw[ee,Nat.beq_refl] at h3;cases h3
     rw[if_neg this]
     simpa using e4
   · rw[h3,j8] at e4
     rw[if_pos (oK h3)]
     cases op
     · rw[eI] at e4;simpa using e4
     · rw[j8] at e4;simpa using e4
theorem abu {t:TypeId} (hu:E.P.underlying t=some .string) {lo hi:Option AV} {x v:AV} (e:slS lo hi x=some v):db E t x lo hi none=some v:=by
 obtain ⟨s,rfl,e1⟩:=pN e
 obtain ⟨h,h1,e2⟩:=qm e1
 obtain ⟨l,h2,e3⟩:=qm e2
 rw[gD] at h1
 simp only[db,hu,vF h1 h2]
 rw[←e3,rD,rC];rfl
theorem abv {t elem:TypeId} {m size:Nat} (hu:E.P.underlying t=some (.array m elem)) (hs:bU E elem=some size) {lo hi:Option AV} {x v:AV} (e:slA m size lo hi x=some v):db E t x lo hi none=some v:=by
 obtain ⟨i,o,rfl,e1⟩:=uG e
 obtain ⟨h,h1,e2⟩:=qm e1
 obtain ⟨l,h2,e3⟩:=qm e2
 simp only[db,hu,vF h1 h2,hs]
 rw[←Option.some.inj e3]
 cases h3:Nat.beq m l
 · have:¬m=l:=by intro ee;rw[ee,Nat.beq_refl] at h3;cases h3
   rw[if_neg this];rfl
 · rw[if_pos (oK h3)];rfl
theorem TS (t:TypeId) (x:Operand) (lo hi:Option Operand):gO E F n (.slice t x lo hi none) (wO E F n x (fun gx=>wP E F n lo (fun gl=>wP E F n hi (fun gh=>match kN E.P t with
 | some (.slice elem)=>match yj E elem with
   | some size=> .hG fun r=>slF size (FG gl r) (FG gh r) (gx r)
   | none=> .bad
 | some .string=> .hG fun r=>slS (FG gl r) (FG gh r) (gx r)
 | some (.array m elem)=>match yj E elem with
   | some size=> .hG fun r=>slA m size (FG gl r) (FG gh r) (gx r)
   | none=> .bad
 | _=> .hG fun r=>bC E (fC F n r) (.slice t x lo hi none)) .bad) .bad) .bad):=by
 rw[jr]
 let K:(F.T→AV)→Option (F.T→AV)→Option (F.T→AV)→Kd F.T:=fun gx gl gh=>match E.P.underlying t with
  | some (.slice elem)=>match yj E elem with
    | some size=> .hG fun r=>slF size (FG gl r) (FG gh r) (gx r)
    | none=> .bad
  | some .string=> .hG fun r=>slS (FG gl r) (FG gh r) (gx r)
  | some (.array m elem)=>match yj E elem with
    | some size=> .hG fun r=>slA m size (FG gl r) (FG gh r) (gx r)
    | none=> .bad
  | _=> .hG fun r=>bC E (fC F n r) (.slice t x lo hi none)
 show gO E F n _ (wO E F n x (fun gx=>wP E F n lo (fun gl=>wP E F n hi (fun gh=>K gx gl gh) .bad) .bad) .bad)
 rcases bY E F n x (fun gx=>wP E F n lo (fun gl=>wP E F n hi (fun gh=>K gx gl gh) .bad) .bad) .bad with h | ⟨gx,h,hx⟩<;>rw[h]
 · trivial
 rcases Pc E F n lo (fun gl=>wP E F n hi (fun gh=>K gx gl gh) .bad) .bad with h | ⟨gl,h,hl⟩<;>rw[h]
 · trivial
 rcases Pc E F n hi (fun gh=>K gx gl gh) .bad with h | ⟨gh,h,hh⟩<;>rw[h]
 · trivial
 have red:∀r,bC E (fC F n r) (.slice t x lo hi none)=db E t (gx r) (FG gl r) (FG gh r) none:=by
  intro r;simp only[bC,hx,hl,hh];rfl
 simp only[K]
 cases hu:E.P.underlying t with
 | none=>intro r v e;exact e
 | some d=>cases d with
   | string=>intro r v e;rw[red];exact abu hu e
   | array m elem=>
     simp only
     rw[pR]
     cases hs:bU E elem with
     | none=>trivial
     | some size=>intro r v e;rw[red];exact abv hu hs e
   | slice elem=>
     simp only
     rw[pR]
     cases hs:bU E elem with
     | none=>trivial
     | some size=>intro r v e;rw[red];exact abt hu hs e
   | _=>intro r v e;exact e
end Go.Ab.Fa
end
section
namespace Go.Ab.Fa
variable {E:Env} {F:RF} {n:Nat}
theorem QK {t:TypeId} {m:Nat} (hs:bU E t=some m) {h:au} {a v:AV} {p:AV×au} (e:DB m h a v=some p):p.1=AV.undef∧dL E h t a v=some p.2:=by
 obtain ⟨i,o,rfl,e1⟩:=uG e
 obtain ⟨obj,h1,e2⟩:=hD e1
 obtain ⟨cs,el,ro,rfl,e3⟩:=sl e2
 obtain ⟨h2,e4⟩:=sj e3
 obtain ⟨h3,e5⟩:=gF e4
 obtain ⟨h4,e6⟩:=gF e5
 obtain ⟨h5,e7⟩:=gF e6
 have h3:=oK h3
 have h4:=gd h4
 rw[gD,nq] at h3
 rw[gD] at h4
 rw[sg,Kz,nq] at h5
 have e8:=Option.some.inj e7
 subst h2
 refine ⟨by rw[←e8],?_⟩
 simp only[dL,h1,hs]
 rw[if_pos ⟨h3,h4,h5⟩,←e8,Ie,nq]
theorem KC {t:TypeId} {a x:Operand}:uH E (.store t a x):=⟨fun _=>rfl,fun _ _=>rfl,fun _=>rfl⟩
theorem TU (t:TypeId) (a x:Operand):gO E F n (.store t a x) (match yj E t with
 | some m=>wO E F n a (fun ga=>wO E F n x (fun gx=> .wr fun r h=>DB m h (ga r) (gx r)) .bad) .bad
 | none=> .bad):=by
 rw[pR]
 cases hs:bU E t with
 | none=>trivial
 | some m=>
   simp only
   rcases bY E F n a (fun ga=>wO E F n x (fun gx=>(.wr fun r h=>DB m h (ga r) (gx r):Kd F.T)) .bad) .bad with h | ⟨ga,h,ha⟩<;>rw[h]
   · trivial
   rcases bY E F n x (fun gx=>(.wr fun r h=>DB m h (ga r) (gx r):Kd F.T)) .bad with h | ⟨gx,h,hx⟩<;>rw[h]
   · trivial
   refine ⟨KC,fun call r h rc o p ho e=>?_⟩
   obtain ⟨h1,h2⟩:=QK hs e
   simp only[dA,ho,ha,hx,h2,h1]
theorem AJ (t:TypeId) (x:Operand):gO E F n (.makeInterface t x) (match kN E.P t with
 | some (.interface _)=> .bad
 | some _=>wO E F n x (fun g=> .JE fun r=> .iface t (g r)) .bad
 | none=> .bad):=by
 rw[jr]
 cases hu:E.P.underlying t with
 | none=>trivial
 | some d=>
   cases d with
   | interface ms=>trivial
   | _=>
     simp only
     rcases bY E F n x (fun g=>(.JE fun r=> .iface t (g r):Kd F.T)) .bad with h | ⟨g,h,hg⟩<;>rw[h]
     · trivial
     · intro r;simp only[bC,hu,hg]
theorem KD (f:FuncId) (a b:Array Operand):gO E F n (.makeFunc (.func f) a b) (wL E F n a.toList (fun ga=>wL E F n b.toList (fun gb=> .JE fun r=> .func f (ga r) (gb r)) .bad) .bad):=by
 rcases vE E F n a.toList (fun ga=>wL E F n b.toList (fun gb=>(.JE fun r=> .func f (ga r) (gb r):Kd F.T)) .bad) .bad with h | ⟨ga,h,ha⟩<;>rw[h]
 · trivial
 rcases vE E F n b.toList (fun gb=>(.JE fun r=> .func f (ga r) (gb r):Kd F.T)) .bad with h | ⟨gb,h,hb⟩<;>rw[h]
 · trivial
 intro r;simp only[bC,ha,hb]
theorem TV (t:TypeId):gO E F n (.alloc t) (match Mk E t with
 | some z=> .tY fun _=>some (.cells z.cells t false,fun i=> .ptr i 0)
 | none=> .bad):=by
 rw[AI]
 cases hz:gR E t with
 | none=>trivial
 | some z=>exact ⟨fun _=>rfl,fun _ _=>rfl,fun r p e=>by simp only[eO,hz];exact e⟩
theorem abw (t:TypeId) (x:Operand):gO E F n (.box t x) (wO E F n x (fun g=> .tY fun r=>some (.cells (mG (g r)) t false,fun i=> .ptr i 0)) .bad):=by
 rcases bY E F n x (fun g=>(.tY fun r=>some (.cells (mG (g r)) t false,fun i=> .ptr i 0):Kd F.T)) .bad with h | ⟨g,h,hg⟩<;>rw[h]
 · trivial
 · exact ⟨fun _=>rfl,fun _ _=>rfl,fun r p e=>by simp only[eO,hg];rw[←nq];exact e⟩
theorem FH (t:TypeId) (len:Nat) (parts:Array (Nat×Operand)):gO E F n (.buildSlice t len parts) (match kN E.P t with
 | some (.slice elem)=>match yj E elem,Mk E elem with
   | some m,some z=>if z.cells.length=m∧len*m≤2^24 then XI E F n parts.toList (fun gp=> .tY fun r=>ob none (fun cs=>some (.cells cs elem false,fun i=> .slice i 0 len len false)) (pw (fun i=>some (i*m,m)) (bT z.cells len) (gp r))) .bad else .bad
   | _,_=> .bad
 | _=> .bad):=by
 rw[jr]
 cases hu:E.P.underlying t with
 | none=>trivial
 | some d=>cases d with
   | slice elem=>
     simp only
     rw[pR,AI]
     cases hs:bU E elem with
     | none=>trivial
     | some m=>cases hz:gR E elem with
       | none=>trivial
       | some z=>
         simp only
         by_cases hc:z.cells.length=m∧len*m≤2^24
         · rw[if_pos hc]
           rcases DF E F n parts.toList (fun gp=>(.tY fun r=>ob none (fun cs=>some (.cells cs elem false,fun i=> .slice i 0 len len false)) (pw (fun i=>some (i*m,m)) (bT z.cells len) (gp r)):Kd F.T)) .bad with h | ⟨g,h,hg⟩<;>rw[h]
           · trivial
           · refine ⟨fun _=>rfl,fun _ _=>rfl,fun r p e=>?_⟩
             obtain ⟨cs,h1,e⟩:=hD e
             simp only[eO,hu,hs,hz,hg]
             rw[if_pos hc];simp only[h1];exact e
         · rw[if_neg hc];trivial
   | _=>trivial
theorem X2 (z:List AV) (m:Nat):abp z m=bT z m:=by
 induction m with
 | zero=>rfl
 | succ m ih=>show mw z (abp z m)=_;rw[o7,ih];rfl
theorem Ij (t:TypeId) (l c:Operand):gO E F n (.makeSlice t l c) (wO E F n l (fun gl=>wO E F n c (fun gc=>match kN E.P t with
 | some (.slice elem)=>match yj E elem,byF E elem,Mk E elem with
   | some m,some bytes,some z=>if z.cells.length=m then .tY fun r=>XJ elem bytes z.cells (gl r) (gc r) else .bad
   | _,_,_=> .bad
 | _=> .bad) .bad) .bad):=by
 rw[jr]
 rcases bY E F n l (fun gl=>wO E F n c (fun gc=>match E.P.underlying t with
  | some (.slice elem)=>match yj E elem,byF E elem,Mk E elem with
    | some m,some bytes,some z=>if z.cells.length=m then (.tY fun r=>XJ elem bytes z.cells (gl r) (gc r):Kd F.T) else .bad
    | _,_,_=> .bad
  | _=> .bad) .bad) .bad with h | ⟨gl,h,hl⟩<;>rw[h]
 · trivial
 rcases bY E F n c (fun gc=>match E.P.underlying t with
  | some (.slice elem)=>match yj E elem,byF E elem,Mk E elem with
    | some m,some bytes,some z=>if z.cells.length=m then (.tY fun r=>XJ elem bytes z.cells (gl r) (gc r):Kd F.T) else .bad
    | _,_,_=> .bad
  | _=> .bad) .bad with h | ⟨gc,h,hc⟩<;>rw[h]
 · trivial
 cases hu:E.P.underlying t with
 | none=>trivial
 | some d=>cases d with
   | slice elem=>
     simp only
     rw[pR,TJ,AI]
     cases hs:bU E elem with
     | none=>trivial
     | some m=>cases hb:ke E elem with
       | none=>trivial
       | some bytes=>cases hz:gR E elem with
         | none=>trivial
         | some z=>
           simp only
           by_cases hm:z.cells.length=m
           · rw[if_pos hm]
             refine ⟨fun _=>rfl,fun _ _=>rfl,fun r p e=>?_⟩
             obtain ⟨k1,a,e1,q1⟩:=kl e
             obtain ⟨k2,b,e2,q2⟩:=kl q1
             obtain ⟨a',rfl,q3⟩:=pP q2
             obtain ⟨b',rfl,q4⟩:=pP q3
             obtain ⟨c1,q5⟩:=gF q4
             obtain ⟨c2,q6⟩:=sj q5
             obtain ⟨c3,q7⟩:=gF q6
             have c1:=gd c1
             have c2:=lp c2
             have c3:bytes*b'≤140737488355328:=gd c3
             simp only[eO,hu,hs,hb,hz,hl,hc,e1,e2]
             rw[if_pos ⟨by omega,by omega,by omega,by have:(bytes:Int)*(b':Int)=((bytes*b':Nat):Int):=by simp
                                                      rw[this];omega,hm⟩]
             rw[←q7,X2];rfl
           · rw[if_neg hm];trivial
   | _=>trivial
theorem KE (k:List UInt8):∀(l:List lW) (i:Nat) {x:Option AV},findF k l=some x→∃y,tV (.str k) l i=some y∧y.map (·.2)=x
 | [],i,x,h=>⟨none,rfl,by cases h;rfl⟩
 | e::es,i,x,h=>by
   obtain ⟨s,h1,h2⟩:=pN (show sc (fun s=>bc (leq Dw k s) (some (some e.val)) (findF k es)) none e.key=some x from h)
   rw[M1] at h2
   rw[tV,h1]
   show ∃y,(match (some (k==s):Option Bool) with | some true=>some (some (i,e.val)) | some false=>tV (.str k) es (i+1) | none=>none)=some y∧_
   cases hb:k==s with
   | true=>
     rw[hb,j8] at h2
     exact ⟨some (i,e.val),rfl,Option.some.inj h2⟩
   | false=>
     rw[hb,eI] at h2
     exact KE k es (i+1) h2
noncomputable def aew (h:au) (m:AV):Option (List lW):=match m with
 | .eF=>some []
 | .map i=>(match h.get i with | some (.map es _)=>some es | _=>none)
 | _=>none
theorem TW {z:AV} {ok:Bool} {h:au} {m k v:AV} (e:O0 z ok h m k=some v):
 (∃s,k= .str s)∧∃es,(match m with | .eF=>some [] | .map i=>(match h.get i with | some (.map es _)=>some es | _=>none) | _=>none)=some es∧
  ∃y,tV k es 0=some y∧v=(match y with | some (_,w)=>(if ok then .tuple [w,.bool true] else w) | none=>if ok then .tuple [z,.bool false] else z):=by
 obtain ⟨s,rfl,e1⟩:=pN e
 obtain ⟨es,h1,e2⟩:=hD e1
 obtain ⟨x,h2,e3⟩:=hD e2
 refine ⟨⟨s,rfl⟩,es,?_,?_⟩
 · cases m with
   | eF=>exact h1
   | map i=>
     obtain ⟨o,h3,h4⟩:=hD (show ob none (fun o=>XK (fun es=>some es) none o) (h.get i)=some es from h1)
     simp only[h3]
     cases o with
     | map lU c=>exact h4
     | _=>cases h4
   | _=>cases h1
 · obtain ⟨y,h3,h4⟩:=KE s es 0 h2
   refine ⟨y,h3,?_⟩
   have e4:=Option.some.inj e3
   rw[←e4,←h4]
   cases y with
   | none=>cases ok<;>rfl
   | some y=>obtain ⟨_,w⟩:=y;cases ok<;>rfl
theorem QL (t:TypeId) (x ix:Operand) (ok:Bool):gO E F n (.lookup t x ix ok) (wO E F n x (fun gx=>wO E F n ix (fun gi=>match kN E.P t with
 | some (.map key elem)=>match kN E.P key,Mk E elem with
   | some .string,some z=> .red fun r h=>O0 z ok h (gx r) (gi r)
   | _,_=> .red fun r h=>eH E (fC F n r) h (.lookup t x ix ok)
 | _=> .bad) .bad) .bad):=by
 let K:(F.T→AV)→(F.T→AV)→Kd F.T:=fun gx gi=>match kN E.P t with
  | some (.map key elem)=>match kN E.P key,Mk E elem with
    | some .string,some z=> .red fun r h=>O0 z ok h (gx r) (gi r)
    | _,_=> .red fun r h=>eH E (fC F n r) h (.lookup t x ix ok)
  | _=> .bad
 show gO E F n _ (wO E F n x (fun gx=>wO E F n ix (fun gi=>K gx gi) .bad) .bad)
 rcases bY E F n x (fun gx=>wO E F n ix (fun gi=>K gx gi) .bad) .bad with h | ⟨gx,h,hx⟩<;>rw[h]
 · trivial
 rcases bY E F n ix (fun gi=>K gx gi) .bad with h | ⟨gi,h,hi⟩<;>rw[h]
 · trivial
 simp only[K,jr,AI]
 have AG:gO E F n (.lookup t x ix ok) (.red fun r h=>eH E (fC F n r) h (.lookup t x ix ok)):=fun r h v e=> .inr ⟨rfl,e⟩
 cases hu:E.P.underlying t with
 | none=>trivial
 | some d=>cases d with
   | map key elem=>
     simp only
     cases hk:E.P.underlying key with
     | none=>exact AG
     | some kd=>cases kd with
       | string=>cases hz:gR E elem with
         | none=>exact AG
         | some z=>
           intro r h v e
           refine .inr ⟨rfl,?_⟩
           obtain ⟨⟨s,hs⟩,es,h1,y,h2,rfl⟩:=TW e
           simp only[eH,hu,hx,hi,hk]
           rw[hs] at h2 ⊢
           rw[if_pos (show jn (some TypeDesc.string) (AV.str s)=true from rfl)]
           have h1':aew h (gx r)=some es:=h1
           change (match aew h (gx r) with
            | none=>none
            | some es=>match tV (AV.str s) es 0 with
              | none=>none
              | some (some (_,v))=>some (if ok then AV.tuple [v,.bool true] else v)
              | some none=>match gR E elem with
                | some z=>some (if ok then AV.tuple [z,.bool false] else z)
                | none=>none)=_
           rw[h1']
           simp only[h2,hz]
           cases y with
           | none=>rfl
           | some y=>obtain ⟨_,w⟩:=y;rfl
       | _=>exact AG
   | _=>trivial
theorem DH:∀(fs:List Field),CE E fs=placesOf E fs
 | []=>rfl
 | f::fs=>by
   show ob none (fun n=>ob none (fun l=>some ((f.offset,n)::l)) (CE E fs)) (yj E f.type)=_
   rw[DH fs,pR]
   simp only[placesOf,eX]
   cases bU E f.type with
   | none=>rfl
   | some n=>
     show ob none (fun l=>some ((f.offset,n)::l)) (eX _ fs)=_
     cases eX (fun f=>match bU E f.type with | some n=>some (f.offset,n) | none=>none) fs<;>rfl
theorem KF (ps:List (Nat×Nat)):∀(l:List (Nat×AV)) (cs:List AV) {v:List AV},Ku ps cs l=some v→pw (ps[·]?) cs l=some v
 | [],cs,v,h=>h
 | (i,x)::l,cs,v,h=>by
   obtain ⟨q,h1,h2⟩:=hD (show ob none (fun (q:Nat×Nat)=>bc (Nat.beq (jO (mG x)) q.2) (bc (Nat.ble (q.1+q.2) (jO cs)) (Ku ps (Kk (mG x) cs q.1) l) none) none) (jP ps i)=some v from h)
   obtain ⟨h3,h4⟩:=gF h2
   obtain ⟨h5,h6⟩:=gF h4
   have h3:=oK h3
   have h5:=gd h5
   rw[gD,nq] at h3
   rw[gD] at h5
   rw[hU] at h1
   rw[pw]
   obtain ⟨off,size⟩:=q
   simp only[h1]
   rw[if_pos ⟨h3,h5⟩,←Ie,←nq]
   exact KF ps l _ h6
theorem TX (t:TypeId) (parts:Array (Nat×Operand)):gO E F n (.build t parts) (match Mk E t,kN E.P t with
 | some z,some (.struct fs)=>match CE E fs.toList with
   | some ps=>XI E F n parts.toList (fun gp=> .hG fun r=>ob none (fun cs=>some (.agg cs)) (Ku ps (mG z) (gp r))) .bad
   | none=> .bad
 | _,_=> .hG fun r=>bC E (fC F n r) (.build t parts)):=by
 have AG:gO E F n (.build t parts) (.hG fun r=>bC E (fC F n r) (.build t parts)):=fun r v e=>e
 rw[jr,AI]
 cases hz:gR E t with
 | none=>exact AG
 | some z=>cases hu:E.P.underlying t with
   | none=>exact AG
   | some d=>cases d with
     | struct fs=>
       simp only
       rw[DH]
       cases hp:placesOf E fs.toList with
       | none=>trivial
       | some ps=>
         simp only
         rcases DF E F n parts.toList (fun gp=>(.hG fun r=>ob none (fun cs=>some (.agg cs)) (Ku ps (mG z) (gp r)):Kd F.T)) .bad with h | ⟨g,h,hg⟩<;>rw[h]
         · trivial
         · intro r v e
           obtain ⟨cs,h1,e2⟩:=hD e
           have h1:=KF ps _ _ h1
           rw[nq] at h1
           simp only[bC,hg,Hx,hz,hu,hp,h1]
           exact e2
     | _=>exact AG
theorem Ik (t:TypeId) (m k x:Operand):gO E F n (.mapUpdate t m k x) (wO E F n m (fun gm=>wO E F n k (fun gk=>wO E F n x (fun gx=> .wr fun r h=>ob none (fun h'=>some (AV.undef,h')) (fi E h t (gm r) (gk r) (gx r))) .bad) .bad) .bad):=by
 rcases bY E F n m (fun gm=>wO E F n k (fun gk=>wO E F n x (fun gx=>(.wr fun r h=>ob none (fun h'=>some (AV.undef,h')) (fi E h t (gm r) (gk r) (gx r)):Kd F.T)) .bad) .bad) .bad with h | ⟨gm,h,hm⟩<;>rw[h]
 · trivial
 rcases bY E F n k (fun gk=>wO E F n x (fun gx=>(.wr fun r h=>ob none (fun h'=>some (AV.undef,h')) (fi E h t (gm r) (gk r) (gx r)):Kd F.T)) .bad) .bad with h | ⟨gk,h,hk⟩<;>rw[h]
 · trivial
 rcases bY E F n x (fun gx=>(.wr fun r h=>ob none (fun h'=>some (AV.undef,h')) (fi E h t (gm r) (gk r) (gx r)):Kd F.T)) .bad with h | ⟨gx,h,hx⟩<;>rw[h]
 · trivial
 refine ⟨⟨fun _=>rfl,fun _ _=>rfl,fun _=>rfl⟩,fun call r h rc o p ho e=>?_⟩
 obtain ⟨h',h1,e2⟩:=hD e
 have e3:=Option.some.inj e2
 simp only[dA,ho,hm,hk,hx,h1,←e3]
theorem QM (t:TypeId) (m k x:Operand):gO E F n (.insert t m k x) (wO E F n m (fun gm=>wO E F n k (fun gk=>wO E F n x (fun gx=> .wr fun r h=>ob none (fun h'=>some (AV.undef,h')) (fi E h t (gm r) (gk r) (gx r))) .bad) .bad) .bad):=by
 rcases bY E F n m (fun gm=>wO E F n k (fun gk=>wO E F n x (fun gx=>(.wr fun r h=>ob none (fun h'=>some (AV.undef,h')) (fi E h t (gm r) (gk r) (gx r)):Kd F.T)) .bad) .bad) .bad with h | ⟨gm,h,hm⟩<;>rw[h]
 · trivial
 rcases bY E F n k (fun gk=>wO E F n x (fun gx=>(.wr fun r h=>ob none (fun h'=>some (AV.undef,h')) (fi E h t (gm r) (gk r) (gx r)):Kd F.T)) .bad) .bad with h | ⟨gk,h,hk⟩<;>rw[h]
 · trivial
 rcases bY E F n x (fun gx=>(.wr fun r h=>ob none (fun h'=>some (AV.undef,h')) (fi E h t (gm r) (gk r) (gx r)):Kd F.T)) .bad with h | ⟨gx,h,hx⟩<;>rw[h]
 · trivial
 refine ⟨⟨fun _=>rfl,fun _ _=>rfl,fun _=>rfl⟩,fun call r h rc o p ho e=>?_⟩
 obtain ⟨h',h1,e2⟩:=hD e
 have e3:=Option.some.inj e2
 simp only[dA,ho,hm,hk,hx,h1,←e3]
theorem X3 (it:Operand) (s:Bool):gO E F n (.next it s) (wO E F n it (fun g=> .wr fun r h=>Gl h (g r) s) .bad):=by
 rcases bY E F n it (fun g=>(.wr fun r h=>Gl h (g r) s:Kd F.T)) .bad with h | ⟨g,h,hg⟩<;>rw[h]
 · trivial
 refine ⟨⟨fun _=>rfl,fun _ _=>rfl,fun _=>rfl⟩,fun call r h rc o p ho e=>?_⟩
 simp only[dA,ho,hg,e]
theorem TY (x:Operand):gO E F n (.panic x) (wO E F n x (fun g=> .vV fun _ r h _=>se (fun t w=> .panic (.iface t w) h) (.fail "" none) (g r)) .bad):=by
 rcases bY E F n x (fun g=>(.vV fun _ r h _=>se (fun t w=> .panic (.iface t w) h) (.fail "" none) (g r):Kd F.T)) .bad with h | ⟨g,h,hg⟩<;>rw[h]
 · trivial
 refine ⟨⟨fun _=>rfl,fun _ _=>rfl,fun _=>rfl⟩,fun fc call _ r h rc o ho=>?_⟩
 rcases KA (f:=fun t w=>Ah.panic (.iface t w) h) (why:= "") (o:=none) (g r) with ⟨t,w,e⟩ | e
 · simp only[dA,ho,hg,e];rfl
 · show ELe (se _ _ _) _
   rw[e];trivial
theorem TZ (c:Call):gO E F n (.defer c) (.vV fun _ r _ rc=>match rc,callee E (fC F n r) c with
 | .JB _,_=> .fail "" none
 | _,some (.fn f,args)=> .defer (.call f args)
 | _,_=> .fail "" none):=by
 refine ⟨⟨fun _=>rfl,fun _ _=>rfl,fun _=>rfl⟩,fun fc call _ r h rc o ho=>?_⟩
 simp only[dA,ho]
 cases rc with
 | JB l=>trivial
 | _=>cases hc:callee E (fC F n r) c with
   | none=>trivial
   | some p=>obtain ⟨f,args⟩:=p;cases f<;>first | trivial | rfl
theorem M4 (src dst:TypeId) (x:Operand):gO E F n (.convert src dst x) (wO E F n x (O1 E src dst) .bad):=by
 rcases bY E F n x (O1 E src dst) (.bad:Kd F.T) with h | ⟨g,h,hg⟩<;>rw[h]
 · trivial
 unfold O1
 simp only[jr]
 cases hs:E.P.underlying src with
 | none=>trivial
 | some ds=>cases hd:E.P.underlying dst with
   | none=>cases ds<;>trivial
   | some dd=>
     cases ds<;>cases dd<;>try trivial
     case int.int k k'=>
      intro r v e
      obtain ⟨j,m,e1,e2⟩:=kl e
      simp only[bC,hs,hd,hg,e1]
      rw[←pQ];exact e2
     case string.string=>
      intro r v e
      obtain ⟨s,e1,e2⟩:=pN e
      simp only[bC,hs,hd,hg,e1];exact e2
     case string.slice e=>
      refine ⟨⟨fun _=>by simp only[bC,hs,hd],fun _ _=>by simp only[eH,hs,hd],fun _=>rfl⟩,fun call r h rc o p ho e=>?_⟩
      simp only[dA,ho,hg,e]
     case slice.string el=>
      simp only
      cases he:E.P.underlying el with
      | none=>trivial
      | some de=>
        cases de<;>try trivial
        rename_i k
        cases k<;>try trivial
        intro r h v e
        rcases pO e with ⟨e1,e2⟩ | ⟨i,o,l,c,b,e1,e2⟩
        · refine .inr ⟨by simp only[bC,hs,hd,hg,e1],?_⟩
          simp only[eH,hs,hd,hg,he]
          simp only[e1];exact e2
        · refine .inr ⟨by simp only[bC,hs,hd,hg,e1],?_⟩
          simp only[eH,hs,hd,hg,he]
          simp only[e1]
          obtain ⟨l',h1,e3⟩:=hD e2
          simp only[h1];exact e3
end Go.Ab.Fa
end
