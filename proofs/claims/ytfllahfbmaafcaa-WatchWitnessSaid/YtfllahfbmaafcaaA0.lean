import GoSem.Step
import Derived.Calls
import Derived.Laws.Cells
import Derived.Laws.IdiomCopy
import Derived.Laws.NewBlocks
set_option linter.unusedVariables false
set_option linter.unusedSimpArgs false
section
namespace Go.Ab
theorem bZq (b:Bool):b=true∨b=false:=Bool.eq_false_or_eq_true b
inductive AV where
 | bool (b:Bool)
 | int (k:IntKind) (n:Int)
 | str (s:List UInt8)
 | gz
 | ptr (i off:Nat)
 | aP
 | slice (i off len cap:Nat) (op:Bool)
 | dU
 | map (i:Nat)
 | func (f:FuncId) (first captured:List AV)
 | cE (l:Nat)
 | nilFunc
 | iface (t:TypeId) (v:AV)
 | nilIface
 | agg (cs:List AV)
 | tuple (cs:List AV)
 | ff
 | any
 deriving Inhabited
def AV.undef:AV:= .tuple []
def AV.cells:AV→List AV
 | .agg cs=>cs
 | v=> [v]
def AV.scalar:AV→Bool
 | .agg _ | .tuple _=>false
 | _=>true
def da {α:Type} (f:α→α→Bool):List α→List α→Bool
 | [],[]=>true
 | x::xs,y::ys=>f x y&&da f xs ys
 | _,_=>false
def AV.same:Nat→AV→AV→Bool
 | 0,_,_=>false
 | n+1,x,y=>match x,y with
   | .bool a,.bool b=>a==b
   | .int k a,.int j b=>k==j&&a==b
   | .str a,.str b=>a==b
   | .gz,.gz=>true
   | .ptr i o,.ptr j p=>i==j&&o==p
   | .aP,.aP=>true
   | .ff,.ff=>true
   | .slice i o l c b,.slice j p m d e=>i==j&&o==p&&l==m&&c==d&&b==e
   | .dU,.dU=>true
   | .map i,.map j=>i==j
   | .func f a b,.func g c d=>f==g&&da (AV.same n) a c&&da (AV.same n) b d
   | .cE l,.cE m=>l==m
   | .nilFunc,.nilFunc=>true
   | .iface t a,.iface u b=>t==u&&AV.same n a b
   | .nilIface,.nilIface=>true
   | .agg a,.agg b=>da (AV.same n) a b
   | .tuple a,.tuple b=>da (AV.same n) a b
   | _,_=>false
def kK:Value→Option AV
 | .bool b=>some (.bool b)
 | .int k n=>some (.int k n)
 | .string s=>some (.str s.data.toList)
 | .pointer none=>some .gz
 | .slice none 0 0=>some .aP
 | .map none=>some .dU
 | .nilFunc=>some .nilFunc
 | .nilIface=>some .nilIface
 | _=>none
def eH {α β:Type} (f:α→Option β):List α→Option (List β)
 | []=>some []
 | x::xs=>match f x with
   | none=>none
   | some y=>match eH f xs with
     | none=>none
     | some ys=>some (y::ys)
def ofConst:Value→Option AV
 | .agg cs=>match eH kK cs.toList with
   | some l=>some (.agg l)
   | none=>none
 | .tuple cs=>match eH kK cs.toList with
   | some l=>some (.tuple l)
   | none=>none
 | .iface t v=>match kK v with
   | some x=>some (.iface t x)
   | none=>none
 | v=>kK v
structure h_ where
 key:AV
 val:AV
 born:Nat
inductive aX where
 | cells (cs:List AV) (elem:TypeId) (ro:Bool)
 | map (es:List h_) (clock:Nat)
 | uY (s:List UInt8) (pos:Nat)
 | A9 (m:Option Nat) (since:Nat) (seen:List Nat) (qP:Nat)
 | loop (st:LoopState) (pending:Option Code) (ts:List AV) (params:List Tmp) (assign body:Code) (dn:Nat)
 | qQ
 deriving Inhabited
structure P8 (α:Type) where
 a0:α
 a1:α
 a2:α
 a3:α
 a4:α
 a5:α
 a6:α
 a7:α
section
variable {α β:Type}
def P8.all (x:α):P8 α:=⟨x,x,x,x,x,x,x,x⟩
def s8 (d:Nat) (k:(P8 α→α)→β):β:=match d with
 | 0=>k P8.a0
 | 1=>k P8.a1
 | 2=>k P8.a2
 | 3=>k P8.a3
 | 4=>k P8.a4
 | 5=>k P8.a5
 | 6=>k P8.a6
 | _=>k P8.a7
def P4 (d:Nat) (p:P8 α):α:=s8 d fun s=>s p
theorem uZ (d:Nat) (k:(P8 α→α)→β):s8 d k=k (P4 d):=by
 rcases d with _ | _ | _ | _ | _ | _ | _ | d<;>rfl
noncomputable def pe0 (f:α→α) (p:P8 α):P8 α:=P8.rec (motive:=fun _=>P8 α) (fun a b c d e i g h=>⟨f a,b,c,d,e,i,g,h⟩) p
noncomputable def pe1 (f:α→α) (p:P8 α):P8 α:=P8.rec (motive:=fun _=>P8 α) (fun a b c d e i g h=>⟨a,f b,c,d,e,i,g,h⟩) p
noncomputable def pe2 (f:α→α) (p:P8 α):P8 α:=P8.rec (motive:=fun _=>P8 α) (fun a b c d e i g h=>⟨a,b,f c,d,e,i,g,h⟩) p
noncomputable def pe3 (f:α→α) (p:P8 α):P8 α:=P8.rec (motive:=fun _=>P8 α) (fun a b c d e i g h=>⟨a,b,c,f d,e,i,g,h⟩) p
noncomputable def pe4 (f:α→α) (p:P8 α):P8 α:=P8.rec (motive:=fun _=>P8 α) (fun a b c d e i g h=>⟨a,b,c,d,f e,i,g,h⟩) p
noncomputable def pe5 (f:α→α) (p:P8 α):P8 α:=P8.rec (motive:=fun _=>P8 α) (fun a b c d e i g h=>⟨a,b,c,d,e,f i,g,h⟩) p
noncomputable def pe6 (f:α→α) (p:P8 α):P8 α:=P8.rec (motive:=fun _=>P8 α) (fun a b c d e i g h=>⟨a,b,c,d,e,i,f g,h⟩) p
noncomputable def pe7 (f:α→α) (p:P8 α):P8 α:=P8.rec (motive:=fun _=>P8 α) (fun a b c d e i g h=>⟨a,b,c,d,e,i,g,f h⟩) p
noncomputable def e8 (d:Nat) (k:((α→α)→P8 α→P8 α)→β):β:=match d with
 | 0=>k pe0
 | 1=>k pe1
 | 2=>k pe2
 | 3=>k pe3
 | 4=>k pe4
 | 5=>k pe5
 | 6=>k pe6
 | _=>k pe7
noncomputable def Vg (d:Nat) (f:α→α) (p:P8 α):P8 α:=e8 d fun u=>u f p
theorem zz (d:Nat) (k:((α→α)→P8 α→P8 α)→β):e8 d k=k (Vg d):=by
 rcases d with _ | _ | _ | _ | _ | _ | _ | d<;>rfl
theorem di (d:Nat) (f:α→α) (p:P8 α):P4 d (Vg d f p)=f (P4 d p):=by
 rcases d with _ | _ | _ | _ | _ | _ | _ | d<;>rfl
theorem dV {d e:Nat} (hd:d<8) (he:e<8) (h:d≠e) (f:α→α) (p:P8 α):P4 e (Vg d f p)=P4 e p:=by
 rcases (show d=0∨d=1∨d=2∨d=3∨d=4∨d=5∨d=6∨d=7 by omega) with rfl | rfl | rfl | rfl | rfl | rfl | rfl | rfl<;>
 rcases (show e=0∨e=1∨e=2∨e=3∨e=4∨e=5∨e=6∨e=7 by omega) with rfl | rfl | rfl | rfl | rfl | rfl | rfl | rfl<;>
 first | rfl | exact absurd rfl h
theorem AT (d:Nat) (x:α):P4 d (P8.all x)=x:=by
 rcases d with _ | _ | _ | _ | _ | _ | _ | d<;>rfl
noncomputable def canon (n:Nat) (f:Nat→β):β:=Nat.rec (motive:=fun _=>β) (f 0) (fun m _=>f (Nat.succ m)) n
theorem lM (n:Nat) (f:Nat→β):canon n f=f n:=by cases n<;>rfl
end
abbrev H3:Type:=P8 (P8 (P8 (Option aX)))
abbrev HT:Type:=P8 (P8 (P8 H3))
structure Hi where
 get:HT→H3
 Vh:(H3→H3)→HT→HT
structure Lo where
 get:H3→Option aX
 Vh:Option aX→H3→H3
structure HP where
 get:HT→Option aX
 put:Option aX→HT→HT
noncomputable def OD (q:Nat):Hi:=s8 (Nat.div q 64) fun g1=>s8 (Nat.mod (Nat.div q 8) 8) fun g2=>s8 (Nat.mod q 8) fun g3=>
 e8 (Nat.div q 64) fun u1=>e8 (Nat.mod (Nat.div q 8) 8) fun u2=>e8 (Nat.mod q 8) fun u3=>⟨fun t=>g3 (g2 (g1 t)),fun f t=>u1 (u2 (u3 f)) t⟩
noncomputable def P5 (q:Nat):Lo:=s8 (Nat.div q 64) fun g1=>s8 (Nat.mod (Nat.div q 8) 8) fun g2=>s8 (Nat.mod q 8) fun g3=>
 e8 (Nat.div q 64) fun u1=>e8 (Nat.mod (Nat.div q 8) 8) fun u2=>e8 (Nat.mod q 8) fun u3=>⟨fun t=>g3 (g2 (g1 t)),fun o t=>u1 (u2 (u3 fun _=>o)) t⟩
noncomputable def ae1 (a:Hi) (b:Lo):HP:=Hi.rec (motive:=fun _=>HP) (fun g u=>Lo.rec (motive:=fun _=>HP) (fun g' u'=>⟨fun t=>g' (g t),fun o t=>u (u' o) t⟩) b) a
noncomputable def hp (i:Nat):HP:=bif Nat.ble 262144 i then ⟨fun _=>none,fun _ t=>t⟩ else canon (Nat.div i 512) fun q=>canon (Nat.mod i 512) fun p=>ae1 (OD q) (P5 p)
structure aA where
 t:HT
 nx:Nat
 f:Nat→Option aX
noncomputable def aA.get (h:aA) (i:Nat):Option aX:=bif Nat.ble 262144 i then h.f i else (hp i).get h.t
def Kz (f:Nat→Option aX) (i:Nat) (o:Option aX):Nat→Option aX:=fun j=>bif Nat.beq j i then o else f j
noncomputable def aA.put (h:aA) (i:Nat) (o:Option aX):aA:=⟨bif Nat.ble 262144 i then h.t else (hp i).put o h.t,h.nx,bif Nat.ble 262144 i then Kz h.f i o else h.f⟩
noncomputable def aA.new (h:aA) (o:aX):Option aA:=some ⟨bif Nat.ble 262144 h.nx then h.t else (hp h.nx).put (some o) h.t,h.nx+1,bif Nat.ble 262144 h.nx then Kz h.f h.nx (some o) else h.f⟩
def HT.nil:HT:=P8.all (P8.all (P8.all (P8.all (P8.all (P8.all none)))))
structure Env where
 P:Program
 G:Nat
 mT:FuncId→Option (List AV→Option AV)
 jd:FuncId→Option (List AV→aA→Option (AV×aA))
 bld:Option TypeId:=none
variable (E:Env)
def eA (ts:List AV):Operand→Option AV
 | .tmp t=>some (ts.getD t AV.undef)
 | .const v=>ofConst v
 | .global g=>if g<E.G then some (.ptr g 0) else none
 | .func f=>some (.func f [] [])
def ch (t:TypeId):Option Nat:=(E.P.info? t).map (·.size)
def fQ (t:TypeId):Option Nat:=if E.bld=some t then none else (E.P.info? t).map (·.bytes)
def fC (t:TypeId):Option AV:=match E.P.info? t with
 | some i=>match i.zero with
   | some z=>ofConst z
   | none=>none
 | none=>none
def fD (t:TypeId):Option Bool:=match E.P.underlying t with
 | some (.struct _)=>some true
 | some (.array _ _)=>some true
 | some _=>some false
 | none=>none
def gA (z:List AV):Nat→List AV
 | 0=> []
 | n+1=>z++gA z n
def iE (t:TypeId) (cs:List AV) (off:Nat):Option AV:=match fD E t with
 | some true=>match ch E t with
   | some n=>if off+n≤cs.length then some (.agg ((cs.drop off).take n)) else none
   | none=>none
 | some false=>cs[off]?
 | none=>none
def c_ (op:BinOp) (k:IntKind) (a b:Int):Option AV:=match op with
 | .add=>some (.int k (k.wrap (a+b)))
 | .sub=>some (.int k (k.wrap (a - b)))
 | .mul=>some (.int k (k.wrap (a*b)))
 | .quo=>if b=0 then none else some (.int k (k.wrap (a.tdiv b)))
 | .rem=>if b=0 then none else some (.int k (a.tmod b))
 | .and=>some (.int k (k.wrap (BitVec.ofInt k.bits a&&& BitVec.ofInt k.bits b).toNat))
 | .or=>some (.int k (k.wrap (BitVec.ofInt k.bits a||| BitVec.ofInt k.bits b).toNat))
 | .xor=>some (.int k (k.wrap (BitVec.ofInt k.bits a^^^BitVec.ofInt k.bits b).toNat))
 | .andNot=>some (.int k (k.wrap (BitVec.ofInt k.bits a&&& ~~~ BitVec.ofInt k.bits b).toNat))
 | .eql=>some (.bool (a==b))
 | .neq=>some (.bool (a !=b))
 | .lss=>some (.bool (a<b))
 | .leq=>some (.bool (a≤b))
 | .gtr=>some (.bool (a>b))
 | .geq=>some (.bool (a≥b))
 | _=>none
def vq (op:BinOp) (a b:List UInt8):Option AV:=match op with
 | .add=>if a.length+b.length<1099511627776 then some (.str (a++b)) else none
 | .eql=>some (.bool (a==b))
 | .neq=>some (.bool !(a==b))
 | .lss=>some (.bool (Op.bytesLess a b))
 | .leq=>some (.bool (Op.bytesLess a b||a==b))
 | .gtr=>some (.bool !(Op.bytesLess a b||a==b))
 | .geq=>some (.bool !(Op.bytesLess a b))
 | _=>none
def OE (t:TypeId) (a b:AV):Option Bool:=match E.P.underlying t with
 | some .bool=>match a,b with
   | .bool x,.bool y=>some (x==y)
   | _,_=>none
 | some (.pointer _)=>match a,b with
   | .gz,.gz=>some true
   | .gz,.ptr _ _=>some false
   | .ptr _ _,.gz=>some false
   | _,_=>none
 | some (.interface _)=>match a,b with
   | .nilIface,.nilIface=>some true
   | .nilIface,.iface _ _=>some false
   | .iface _ _,.nilIface=>some false
   | _,_=>none
 | some (.slice _)=>match a,b with
   | .aP,.aP=>some true
   | .aP,.slice .. =>some false
   | .slice ..,.aP=>some false
   | _,_=>none
 | some (.map _ _)=>match a,b with
   | .dU,.dU=>some true
   | .dU,.map _=>some false
   | .map _,.dU=>some false
   | _,_=>none
 | some (.func ..)=>match a,b with
   | .nilFunc,.nilFunc=>some true
   | .nilFunc,.func .. =>some false
   | .func ..,.nilFunc=>some false
   | _,_=>none
 | _=>none
def oq (eq:TypeId→AV→AV→Option Bool) (xs ys:List AV):List Field→Option Bool
 | []=>some true
 | f::fs=>if f.name= "_" then oq eq xs ys fs else match iE E f.type xs f.offset,iE E f.type ys f.offset with
   | some a,some b=>match eq f.type a b with
     | some true=>oq eq xs ys fs
     | some false=>some false
     | none=>none
   | _,_=>none
def je:Nat→TypeId→AV→AV→Option Bool
 | 0,_,_,_=>none
 | n+1,t,a,b=>match a,b with
   | .int k x,.int j y=>match E.P.underlying t with
     | some (.int _)=>if k=j then some (x==y) else none
     | _=>none
   | .str x,.str y=>match E.P.underlying t with
     | some .string=>some (x==y)
     | _=>none
   | .agg xs,.agg ys=>match E.P.underlying t with
     | some (.struct fs)=>if E.P.stoodInHeld t=false then oq E (je n) xs ys fs.toList else none
     | _=>none
   | a,b=>OE E t a b
def isConst:Operand→Bool
 | .const _=>true
 | _=>false
def pv (xc yc:Bool):AV→AV→Bool
 | .nilIface,.nilIface=>xc||yc
 | .agg _,.agg _=>false
 | .any,_=>false
 | _,.any=>false
 | _,_=>true
def ks (op:BinOp) (t:TypeId) (xc yc:Bool) (a b:AV):Option AV:=match op,a,b with
 | .shl,.int k x,.int _ y=>if y<0 then none else some (.int k (k.wrap (x*2^(min y.toNat k.bits))))
 | .shr,.int k x,.int _ y=>if y<0 then none else some (.int k (x.fdiv (2^(min y.toNat k.bits))))
 | op,.int k x,.int k' y=>if k=k' then c_ op k x y else none
 | op,.str x,.str y=>vq op x y
 | .eql,.agg xs,.agg ys=>if E.P.eqGuardType E.P.depth t then none else (match je E 16 t (.agg xs) (.agg ys) with
   | some r=>some (.bool r)
   | none=>none)
 | .neq,.agg xs,.agg ys=>if E.P.eqGuardType E.P.depth t then none else (match je E 16 t (.agg xs) (.agg ys) with
   | some r=>some (.bool !r)
   | none=>none)
 | .eql,x,y=>if pv xc yc x y then (match OE E t x y with
   | some r=>some (.bool r)
   | none=>none) else none
 | .neq,x,y=>if pv xc yc x y then (match OE E t x y with
   | some r=>some (.bool !r)
   | none=>none) else none
 | _,_,_=>none
def unA (op:UnOp) (x:AV):Option AV:=match op,x with
 | .neg,.int k n=>some (.int k (k.wrap (0 - n)))
 | .xor,.int k n=>some (.int k (k.wrap (BitVec.ofInt k.bits (if k.signed then -1 else k.max)^^^BitVec.ofInt k.bits n).toNat))
 | .not,.bool b=>some (.bool !b)
 | _,_=>none
def ox (x:AV) (y:Nat):Option Nat:=match x with
 | .int _ i=>if 0≤i∧i≤y then some i.toNat else none
 | _=>none
def kT (len cap:Nat) (low high max:Option AV):Option (Nat×Nat×Nat):=
 match (match max with | some v=>ox v cap | none=>some cap) with
 | none=>none
 | some m=>match (match high with | some v=>ox v m | none=>if max.isSome then none else some len) with
   | none=>none
   | some h=>match (match low with | some v=>ox v h | none=>some 0) with
     | none=>none
     | some l=>some (l,h,m)
def mX (ts:List AV):Option Operand→Option (Option AV)
 | none=>some none
 | some o=>match eA E ts o with
   | some v=>some (some v)
   | none=>none
def fK (t:TypeId) (x:AV) (low high max:Option AV):Option AV:=match E.P.underlying t,x with
 | some (.array n elem),.ptr i o=>match kT n n low high max,ch E elem with
   | some (l,h,m),some size=>some (.slice i (if m=l then o else o+l*size) (h - l) (m - l) false)
   | _,_=>none
 | some .string,.str s=>match max,kT s.length s.length low high none with
   | none,some (l,h,_)=>some (.str ((s.drop l).take (h - l)))
   | _,_=>none
 | some (.slice elem),.aP=>match kT 0 0 low high max,ch E elem with
   | some _,some _=>some .aP
   | _,_=>none
 | some (.slice elem),.slice i o len cap op=>
   if len≤cap then match kT len cap low high max,ch E elem with
   | some (l,h,m),some size=>
     if m=l then (if op&&max.isNone then some .ff else some (.slice i o (h - l) (m - l) false))
     else some (.slice i (o+l*size) (h - l) (m - l) (op&&max.isNone))
   | _,_=>none
   else none
 | _,_=>none
def mY (t:TypeId) (f:Nat):Option Field:=match E.P.underlying t with
 | some (.struct fs)=>fs[f]?
 | _=>none
def setFrom (cs:List AV) (off:Nat):List AV→List AV
 | []=>cs
 | v::vs=>setFrom (cs.set off v) (off+1) vs
def rV (place:Nat→Option (Nat×Nat)) (cs:List AV):List (Nat×AV)→Option (List AV)
 | []=>some cs
 | (i,v)::rest=>match place i with
   | none=>none
   | some (off,size)=>if v.cells.length=size∧off+size≤cs.length then rV place (setFrom cs off v.cells) rest else none
def kt (ts:List AV):List (Nat×Operand)→Option (List (Nat×AV))
 | []=>some []
 | (i,o)::rest=>match eA E ts o with
   | none=>none
   | some v=>match kt ts rest with
     | none=>none
     | some l=>some ((i,v)::l)
def placesOf (fs:List Field):Option (List (Nat×Nat)):=eH (fun f=>match ch E f.type with | some n=>some (f.offset,n) | none=>none) fs
def FE (t:TypeId) (parts:List (Nat×AV)):Option AV:=match fC E t with
 | none=>none
 | some z=>match E.P.underlying t with
   | some (.struct fs)=>match placesOf E fs.toList with
     | none=>none
     | some ps=>match rV (ps[·]?) z.cells parts with
       | some cs=>some (.agg cs)
       | none=>none
   | some (.array _ elem)=>match ch E elem with
     | none=>none
     | some n=>match rV (fun i=>some (i*n,n)) z.cells parts with
       | some cs=>some (.agg cs)
       | none=>none
   | _=>none
def KA:AV→List AV→Option AV
 | .int k x,[]=>some (.int k x)
 | .int k x,.int _ y::rest=>KA (.int k (if y>x then y else x)) rest
 | _,_=>none
def KC:AV→List AV→Option AV
 | .int k x,[]=>some (.int k x)
 | .int k x,.int _ y::rest=>KC (.int k (if y<x then y else x)) rest
 | _,_=>none
def fW (ts:List AV) (l:List Operand):Option (List AV):=eH (eA E ts) l
def MJ (n:Int):Option AV:=if 0≤n∧n<128 then some (.str [UInt8.ofNat n.toNat]) else none
def bE (ts:List AV):Op→Option AV
 | .move x=>eA E ts x
 | .assign x=>eA E ts x
 | .pick c a b=>match eA E ts c with
   | some (.bool true)=>eA E ts a
   | some (.bool false)=>eA E ts b
   | _=>none
 | .build t parts=>match kt E ts parts.toList with
   | some ps=>FE E t ps
   | none=>none
 | .nilCheck x=>match eA E ts x with
   | some (.ptr i o)=>some (.ptr i o)
   | some (.map i)=>some (.map i)
   | some (.slice i o l c b)=>some (.slice i o l c b)
   | some (.func f a b)=>some (.func f a b)
   | _=>none
 | .binOp op t x y _=>match eA E ts x,eA E ts y with
   | some a,some b=>ks E op t (isConst x) (isConst y) a b
   | _,_=>none
 | .unOp op _ x=>match eA E ts x with
   | some a=>unA op a
   | none=>none
 | .convert src dst x=>match E.P.underlying src,E.P.underlying dst,eA E ts x with
   | some _,some (.int k),some (.int _ n)=>some (.int k (k.wrap n))
   | some _,some .string,some (.str s)=>some (.str s)
   | some _,some .string,some (.int _ n)=>MJ n
   | _,_,_=>none
 | .makeInterface t x=>match E.P.underlying t,eA E ts x with
   | some (.interface _),_=>none
   | some _,some v=>some (.iface t v)
   | _,_=>none
 | .makeFunc (.func f) first captured=>match fW E ts first.toList,fW E ts captured.toList with
   | some a,some b=>some (.func f a b)
   | _,_=>none
 | .slice t x lo hi mx=>match eA E ts x,mX E ts lo,mX E ts hi,mX E ts mx with
   | some v,some l,some h,some m=>fK E t v l h m
   | _,_,_,_=>none
 | .fieldAddr s x f=>match mY E s f,eA E ts x with
   | some fd,some (.ptr i o)=>match ch E fd.type with
     | some n=>if n=0 then none else some (.ptr i (o+fd.offset))
     | none=>none
   | _,_=>none
 | .field s x f=>match mY E s f,eA E ts x with
   | some fd,some (.agg cs)=>iE E fd.type cs fd.offset
   | _,_=>none
 | .indexAddr t x ix=>match E.P.underlying t,eA E ts x,eA E ts ix with
   | some (.array len elem),some (.ptr i o),some (.int _ n)=>match ch E elem with
     | some size=>if 0≤n∧n<len then some (.ptr i (o+n.toNat*size)) else none
     | none=>none
   | some (.slice elem),some (.slice i o len _ _),some (.int _ n)=>match ch E elem with
     | some size=>if 0≤n∧n<len then some (.ptr i (o+n.toNat*size)) else none
     | none=>none
   | _,_,_=>none
 | .index t x ix=>match E.P.underlying t,eA E ts x,eA E ts ix with
   | some (.array len elem),some (.agg cs),some (.int _ n)=>match ch E elem with
     | some size=>if 0≤n∧n<len then iE E elem cs (n.toNat*size) else none
     | none=>none
   | some .string,some (.str s),some (.int _ n)=>if 0≤n then (match s[n.toNat]? with | some b=>some (.int .u8 b.toNat) | none=>none) else none
   | _,_,_=>none
 | .extract x i=>match eA E ts x with
   | some (.tuple vs)=>vs[i]?
   | _=>none
 | .typeAssert x _ asserted gW=>match E.P.underlying asserted,eA E ts x with
   | some (.interface _),_=>none
   | some _,some (.iface t v)=>
     if t=asserted then some (if gW then .tuple [v,.bool true] else v)
     else if gW then (match fC E asserted with | some z=>some (.tuple [z,.bool false]) | none=>none) else none
   | some _,some .nilIface=>if gW then (match fC E asserted with | some z=>some (.tuple [z,.bool false]) | none=>none) else none
   | _,_=>none
 | .call {callee:= .builtin .len,args,argTypes}=>match argTypes[0]?,fW E ts args.toList with
   | some t,some [v]=>match E.P.underlying t,v with
     | some .string,.str s=>some (.int .i64 s.length)
     | some (.array n _),_=>some (.int .i64 n)
     | some (.slice _),.aP=>some (.int .i64 0)
     | some (.slice _),.slice _ _ n _ _=>some (.int .i64 n)
     | some (.slice _),.ff=>some (.int .i64 0)
     | some (.map _ _),.dU=>some (.int .i64 0)
     | _,_=>none
   | _,_=>none
 | .call {callee:= .builtin .cap,args,argTypes}=>match argTypes[0]?,fW E ts args.toList with
   | some t,some [v]=>match E.P.underlying t,v with
     | some (.array n _),_=>some (.int .i64 n)
     | some (.slice _),.aP=>some (.int .i64 0)
     | some (.slice _),.slice _ _ _ c false=>some (.int .i64 c)
     | _,_=>none
   | _,_=>none
 | .call {callee:= .builtin .max,args,..}=>match fW E ts args.toList with
   | some (x::rest)=>KA x rest
   | _=>none
 | .call {callee:= .builtin .min,args,..}=>match fW E ts args.toList with
   | some (x::rest)=>KC x rest
   | _=>none
 | .call {callee:= .value (.func f),args,..}=>match E.mT f,fW E ts args.toList with
   | some e,some vs=>e vs
   | _,_=>none
 | _=>none
noncomputable def bk (h:aA) (t:TypeId) (a:AV):Option AV:=match a with
 | .ptr i o=>match h.get i with
   | some (.cells cs _ _)=>iE E t cs o
   | _=>none
 | _=>none
def Ec:AV→AV→Option Bool
 | .str a,.str b=>some (a==b)
 | .int k a,.int k' b=>if k=k' then some (a==b) else none
 | .bool a,.bool b=>some (a==b)
 | _,_=>none
def jf (d:Option TypeDesc) (k:AV):Bool:=match d,k with
 | some .string,.str _=>true
 | some (.int _),.int _ _=>true
 | some .bool,.bool _=>true
 | _,_=>false
def oA:List AV→List AV→Bool
 | [],[]=>true
 | .int k a::xs,.int j b::ys=>decide (k=j)&&decide (a=b)&&oA xs ys
 | .str a::xs,.str b::ys=>(a==b)&&oA xs ys
 | _,_=>false
def j9 (d:Option TypeDesc) (k:AV):Bool:=match d,k with
 | some (.struct fs),.agg xs=>fs.toList.all fun f=>match E.P.underlying f.type,iE E f.type xs f.offset with
   | some (.int _),some (.int _ _)=>true
   | some .string,some (.str _)=>true
   | _,_=>false
 | _,_=>false
def findD (key:TypeId) (k:AV):List h_→Nat→Option (Option (Nat×AV))
 | [],_=>some none
 | e::es,i=>match je E 16 key k e.key with
   | some true=>(match k,e.key with | .agg xs,.agg ys=>if oA xs ys then some (some (i,e.val)) else none | _,_=>none)
   | some false=>findD key k es (i+1)
   | none=>none
def sv (k:AV):List h_→Nat→Option (Option (Nat×AV))
 | [],_=>some none
 | e::es,i=>match Ec k e.key with
   | some true=>some (some (i,e.val))
   | some false=>sv k es (i+1)
   | none=>none
noncomputable def FG (h:aA) (i o n:Nat):Option (List UInt8):=match h.get i with
 | some (.cells cs _ _)=>if o+n≤cs.length then
  eH (fun | .int .u8 b=>some (UInt8.ofNat b.toNat) | _=>none) ((cs.drop o).take n) else none
 | _=>none
noncomputable def dW (ts:List AV) (h:aA):Op→Option AV
 | .load t a=>match eA E ts a with
   | some v=>bk E h t v
   | none=>none
 | .convert src dst x=>match E.P.underlying src,E.P.underlying dst,eA E ts x with
   | some (.slice e),some .string,some v=>match E.P.underlying e,v with
     | some (.int .u8),.aP=>some (.str [])
     | some (.int .u8),.slice i o len _ _=>match FG h i o len with
       | some l=>some (.str l)
       | none=>none
     | _,_=>none
   | _,_,_=>none
 | .lookup t x ix gW=>match E.P.underlying t,eA E ts x,eA E ts ix with
   | some (.map key elem),some m,some k=>
     if jf (E.P.underlying key) k then
      match (match m with | .dU=>some [] | .map i=>(match h.get i with | some (.map es _)=>some es | _=>none) | _=>none) with
      | none=>none
      | some es=>match sv k es 0 with
        | none=>none
        | some (some (_,v))=>some (if gW then .tuple [v,.bool true] else v)
        | some none=>match fC E elem with
          | some z=>some (if gW then .tuple [z,.bool false] else z)
          | none=>none
     else if j9 E (E.P.underlying key) k then
      match (match m with | .dU=>some [] | .map i=>(match h.get i with | some (.map es _)=>some es | _=>none) | _=>none) with
      | none=>none
      | some es=>match findD E key k es 0 with
        | none=>none
        | some (some (_,v))=>some (if gW then .tuple [v,.bool true] else v)
        | some none=>match fC E elem with
          | some z=>some (if gW then .tuple [z,.bool false] else z)
          | none=>none
     else none
   | _,_,_=>none
 | .call {callee:= .builtin .len,args,argTypes}=>match argTypes[0]?,fW E ts args.toList with
   | some t,some [.map i]=>match E.P.underlying t,h.get i with
     | some (.map _ _),some (.map es _)=>some (.int .i64 es.length)
     | _,_=>none
   | _,_=>none
 | _=>none
def eB (ts:List AV):Op→Option (aX×(Nat→AV))
 | .alloc t=>match fC E t with
   | some z=>some (.cells z.cells t false,fun i=> .ptr i 0)
   | none=>none
 | .box t x=>match eA E ts x with
   | some v=>some (.cells v.cells t false,fun i=> .ptr i 0)
   | none=>none
 | .buildSlice t len parts=>match E.P.underlying t with
   | some (.slice elem)=>match ch E elem,fC E elem,kt E ts parts.toList with
     | some n,some z,some ps=>if z.cells.length=n∧len*n≤2^24 then
      match rV (fun i=>some (i*n,n)) (gA z.cells len) ps with
      | some cs=>some (.cells cs elem false,fun i=> .slice i 0 len len false)
      | none=>none
       else none
     | _,_,_=>none
   | _=>none
 | .makeSlice t l c=>match E.P.underlying t,eA E ts l,eA E ts c with
   | some (.slice elem),some (.int _ len),some (.int _ cap)=>match ch E elem,fQ E elem,fC E elem with
     | some n,some bytes,some z=>
       if 0≤len∧len≤cap∧cap<2^30∧(bytes:Int)*cap≤2^47∧z.cells.length=n then
        some (.cells (gA z.cells cap.toNat) elem false,fun i=> .slice i 0 len.toNat cap.toNat false)
       else none
     | _,_,_=>none
   | _,_,_=>none
 | .makeMap t r=>match r with
   | none=>some (.map [] 0,fun i=> .map i)
   | some o=>match E.P.underlying t,eA E ts o with
     | some (.map _ _),some (.int _ _)=>some (.map [] 0,fun i=> .map i)
     | _,_=>none
 | .range t x=>match E.P.underlying t,eA E ts x with
   | some .string,some (.str s)=>some (.uY s 0,fun i=> .ptr i 0)
   | some (.map _ _),some .dU=>some (.A9 none 0 [] 0,fun i=> .ptr i 0)
   | _,_=>none
 | _=>none
noncomputable def fE (h:aA) (t:TypeId) (a v:AV):Option aA:=match a with
 | .ptr i o=>match h.get i,ch E t with
   | some (.cells cs e false),some n=>if v.cells.length=n∧o+n≤cs.length∧v.cells.all AV.scalar=true then some (h.put i (some (.cells (setFrom cs o v.cells) e false))) else none
   | _,_=>none
 | _=>none
def nE:AV→Option Nat
 | .aP=>some 0
 | .slice _ _ n _ _=>some n
 | .str s=>some s.length
 | .ff=>some 0
 | _=>none
noncomputable def fj (h:aA) (size n:Nat):AV→Option (List AV)
 | .aP=>if n=0 then some [] else none
 | .ff=>if n=0 then some [] else none
 | .slice i o len _ _=>if n≤len then (if n=0 then some [] else match h.get i with
  | some (.cells cs _ _)=>if o+n*size≤cs.length then some ((cs.drop o).take (n*size)) else none
  | _=>none) else none
 | .str s=>if size=1 then some ((s.take n).map fun b=> .int .u8 b.toNat) else none
 | _=>none
def mD:TypeDesc→Bool
 | .int _=>true
 | _=>false
noncomputable def sw (h:aA) (elem:TypeId) (s x:AV):Option (AV×aA):=match s,x,ch E elem,fQ E elem,fC E elem with
 | .aP,.int _ k,some size,some bytes,some z=>
   if 0<k∧0<size∧(4*k.toNat+4096)*(bytes+1)≤1099511627776∧z.cells.length=size then
    match h.new (.cells (gA z.cells k.toNat) elem false) with
    | some h'=>some (.slice h.nx 0 k.toNat k.toNat true,h')
    | none=>none
   else none
 | _,_,_,_,_=>none
noncomputable def bX (h:aA) (argTypes:Array TypeId) (s x:AV):Option (AV×aA):=match argTypes[0]?,argTypes[1]? with
 | some sT,some xT=>match E.P.underlying sT,E.P.underlying xT with
   | some (.slice elem),some xd=>if mD xd then sw E h elem s x else match ch E elem,fQ E elem,nE x with
     | some size,some bytes,some n=>match fj h size n x,fC E elem with
       | some new,some z=>if z.cells.length=size∧new.all AV.scalar=true∧new.length=n*size then
         match s with
         | .aP=>if n=0 then some (.aP,h) else if (4*n+4096)*(bytes+1)≤1099511627776 then
          (match h.new (.cells new elem false) with
          | some h'=>some (.slice h.nx 0 n n true,h')
          | none=>none) else none
         | .slice i o len cap op=>match h.get i with
           | some (.cells cs e false)=>
             if len+n≤cap then
              if o+(len+n)*size≤cs.length then some (.slice i o (len+n) cap op,h.put i (some (.cells (setFrom cs (o+len*size) new) e false))) else none
             else if (4*(len+n)+4096)*(bytes+1)≤1099511627776∧o+len*size≤cs.length∧(op=true→e=elem∧o+cap*size=cs.length∧o=0) then
              match (if op then h.put i none else h).new (.cells ((cs.drop o).take (len*size)++new) elem false) with
              | some h'=>some (.slice h.nx 0 (len+n) (len+n) true,h')
              | none=>none
             else none
           | _=>none
         | _=>none else none
       | _,_=>none
     | _,_,_=>none
   | _,_=>none
 | _,_=>none
noncomputable def u_ (h:aA) (argTypes:Array TypeId) (d s:AV):Option (AV×aA):=match argTypes[0]? with
 | some dT=>match E.P.underlying dT,nE s with
   | some (.slice elem),some m=>match ch E elem,d with
     | some _,.aP=>some (.int .i64 0,h)
     | some size,.slice i o len _ _=>match fj h size (min m len) s,h.get i with
       | some new,some (.cells cs e false)=>if o+new.length≤cs.length∧new.all AV.scalar=true then some (.int .i64 (min m len:Nat),h.put i (some (.cells (setFrom cs o new) e false))) else none
       | _,_=>none
     | _,_=>none
   | _,_=>none
 | none=>none
def dX (es:List h_) (i:Nat) (v:AV):List h_:=match es,i with
 | [],_=> []
 | e::es,0=>{e with val:=v}::es
 | e::es,i+1=>e::dX es i v
noncomputable def eK (h:aA) (t:TypeId) (m k v:AV):Option aA:=match E.P.underlying t,m with
 | some (.map key _),.map i=>match h.get i with
   | some (.map es clock)=>if jf (E.P.underlying key) k then
    match sv k es 0 with
    | some (some (j,_))=>some (h.put i (some (.map (dX es j v) clock)))
    | some none=>some (h.put i (some (.map (es++[{key:=k,val:=v,born:=clock}]) (clock+1))))
    | none=>none
     else if j9 E (E.P.underlying key) k then
      match findD E key k es 0 with
      | some (some (j,_))=>some (h.put i (some (.map (dX es j v) clock)))
      | some none=>some (h.put i (some (.map (es++[{key:=k,val:=v,born:=clock}]) (clock+1))))
      | none=>none
     else none
   | _=>none
 | _,_=>none
noncomputable def yD (h:aA) (t:TypeId) (m k:AV):Option (AV×aA):=match E.P.underlying t,m with
 | some (.map key elem),.map i=>match h.get i with
   | some (.map es clock)=>if j9 E (E.P.underlying key) k then
    match findD E key k es 0 with
    | some (some (j,v))=>(match es[j]? with
      | some e=>some (.tuple [v,.int .i64 e.born],h.put i (some (.map es clock)))
      | none=>none)
    | some none=>(match fC E elem with
      | some z=>some (.tuple [z,.int .i64 clock],h.put i (some (.map (es++[{key:=k,val:=z,born:=clock}]) (clock+1))))
      | none=>none)
    | none=>none
     else none
   | _=>none
 | _,_=>none
noncomputable def sx (h:aA) (m s x:AV):Option aA:=match m,s with
 | .map i,.int _ n=>match h.get i with
   | some (.map es clock)=>match es.findIdx? (fun e=>(e.born:Int)==n) with
     | some j=>some (h.put i (some (.map (dX es j x) clock)))
     | none=>none
   | _=>none
 | _,_=>none
noncomputable def Ed (h:aA) (it:AV) (isString:Bool):Option (AV×aA):=match it with
 | .ptr r 0=>match h.get r,isString with
   | some (.uY s pos),true=>
     if pos<s.length then
      match s[pos]? with
      | some b=>if b.toNat<128 then some (.tuple [.bool true,.int .i64 pos,.int .i32 b.toNat],h.put r (some (.uY s (pos+1)))) else none
      | none=>none
     else some (.tuple [.bool false],h)
   | some (.A9 none _ _ _),false=>some (.tuple [.bool false],h)
   | _,_=>none
 | _=>none
noncomputable def Ee (h:aA) (src dst:TypeId) (x:Option AV):Option (AV×aA):=match E.P.underlying src,E.P.underlying dst,x with
 | some .string,some (.slice e),some (.str s)=>match E.P.underlying e,h.new (.cells (s.map fun b=> .int .u8 b.toNat) e false) with
   | some (.int .u8),some h'=>if ch E e=some 1 then some (.slice h.nx 0 s.length s.length true,h') else none
   | _,_=>none
 | _,_,_=>none
inductive oB where
 | call (f:FuncId) (args:List AV)
 | pj (r:Nat)
inductive Fn where
 | fn (f:FuncId)
 | ua (l:Nat)
inductive iB where
 | normal
 | exit (id:Nat)
 | ret
 | panic (v:AV)
inductive RC where
 | no
 | ir (v:AV)
 | done
 | sm (l:Nat)
structure St where
 ts:List AV
 h:aA
 ds:List oB
 rc:RC
inductive Out where
 | ok (e:iB) (s:St)
 | fail (why:String) (o:Option Oper)
inductive jB where
 | ret (v:AV) (h:aA)
 | panic (v:AV) (h:aA)
 | fail (why:String) (o:Option Oper)
abbrev bh:=Fn→List AV→aA→jB
inductive yE where
 | val (v:AV) (h:aA)
 | defer (d:oB)
 | rW (v:AV)
 | panic (v:AV) (h:aA)
 | fail (why:String) (o:Option Oper)
def callee (ts:List AV) (c:Call):Option (Fn×List AV):=match c.callee with
 | .value f=>match eA E ts f,fW E ts c.args.toList with
   | some (.func g first captured),some args=>some (.fn g,first++args++captured)
   | some (.cE l),some args=>some (.ua l,args)
   | _,_=>none
 | _=>none
def wB (t:TypeId) (name:String):Option FuncId:=match E.P.info? t with
 | some i=>match i.methods.find? (·.name==name) with
   | some m=>if m.path.isEmpty then match m.func,E.P.underlying t with
     | _,some (.pointer _)=>none
     | some (f,false),some _=>some f
     | _,_=>none
     else none
   | none=>none
 | none=>none
def j_:Fn→Option (List AV→aA→Option (AV×aA))
 | .fn f=>E.jd f
 | .ua _=>none
noncomputable def dm (call:bh) (ts:List AV) (h:aA) (rc:RC) (o:Oper):yE:=
 let v (r:Option (AV×aA)):yE:=match r with
  | some (x,h')=> .val x h'
  | none=> .fail "eff" (some o)
 match o.op with
 | .store t a x=>match eA E ts a,eA E ts x with
   | some av,some xv=>match fE E h t av xv with
     | some h'=> .val AV.undef h'
     | none=> .fail "store" (some o)
   | _,_=> .fail "store ops" (some o)
 | .mapUpdate t m k x=>match eA E ts m,eA E ts k,eA E ts x with
   | some mv,some kv,some xv=>match eK E h t mv kv xv with
     | some h'=> .val AV.undef h'
     | none=> .fail "mapUpdate" (some o)
   | _,_,_=> .fail "mapUpdate ops" (some o)
 | .insert t m k x=>match eA E ts m,eA E ts k,eA E ts x with
   | some mv,some kv,some xv=>match eK E h t mv kv xv with
     | some h'=> .val AV.undef h'
     | none=> .fail "insert" (some o)
   | _,_,_=> .fail "insert ops" (some o)
 | .mapEntry t m k=>match eA E ts m,eA E ts k with
   | some mv,some kv=>v (yD E h t mv kv)
   | _,_=> .fail "mapEntry ops" (some o)
 | .entryStore _ m b x=>match eA E ts m,eA E ts b,eA E ts x with
   | some mv,some bv,some xv=>match sx h mv bv xv with
     | some h'=> .val AV.undef h'
     | none=> .fail "entryStore" (some o)
   | _,_,_=> .fail "entryStore ops" (some o)
 | .convert src dst x=>v (Ee E h src dst (eA E ts x))
 | .next it isString=>match eA E ts it with
   | some i=>v (Ed h i isString)
   | none=> .fail "next" (some o)
 | .panic x=>match eA E ts x with
   | some (.iface t w)=> .panic (.iface t w) h
   | _=> .fail "panic" (some o)
 | .defer c=>match rc,callee E ts c with
   | .sm _,_=> .fail "defer in a round" (some o)
   | _,some (.fn f,args)=> .defer (.call f args)
   | _,_=> .fail "defer" (some o)
 | .call c=>match c.callee with
   | .builtin .append=>match fW E ts c.args.toList with
     | some [s,x]=>v (bX E h c.argTypes s x)
     | _=> .fail "append" (some o)
   | .builtin .copy=>match fW E ts c.args.toList with
     | some [s,x]=>v (u_ E h c.argTypes s x)
     | _=> .fail "copy" (some o)
   | .builtin .recover=>match rc with
     | .ir x=> .rW x
     | .sm _=> .fail "recover in a round" (some o)
     | _=> .val .nilIface h
   | .value _=>match callee E ts c with
     | some (f,args)=>match j_ E f with
      | some g=>v (g args h)
      | none=>match call f args h with
       | .ret x h'=> .val x h'
       | .panic x h'=> .panic x h'
       | .fail why q=> .fail why q
     | none=> .fail "callee" (some o)
   | .invoke r name=>match eA E ts r,fW E ts c.args.toList with
     | some (.iface t x),some args=>match wB E t name with
       | some f=>match call (.fn f) (x::args) h with
         | .ret x h'=> .val x h'
         | .panic x h'=> .panic x h'
         | .fail why q=> .fail why q
       | none=> .fail "method" (some o)
     | _,_=> .fail "invoke" (some o)
   | _=> .fail "call" (some o)
 | _=> .fail "op" (some o)
def dN (ts:List AV) (d:Option Tmp) (v:AV):List AV:=match d with
 | some i=>ts.set i v
 | none=>ts
def cD (ops:Array Oper) (ts:List AV) (o:Oper):Bool:=match o.guard with
 | none=>true
 | some (j,want)=>match (ops[j]?).bind (·.dst) with
   | some d=>match ts[d]? with
     | some (.bool b)=>b==want
     | _=>false
   | none=>false
noncomputable def FH (call:bh) (s:St) (o:Oper):Out:=
 match bE E s.ts o.op with
 | some v=> .ok .normal {s with ts:=dN s.ts o.dst v}
 | none=>match dW E s.ts s.h o.op with
   | some v=> .ok .normal {s with ts:=dN s.ts o.dst v}
   | none=>match eB E s.ts o.op with
     | some (obj,mk)=>match s.h.new obj with
       | some h'=> .ok .normal {s with ts:=dN s.ts o.dst (mk s.h.nx),h:=h'}
       | none=> .fail "full" (some o)
     | none=>match dm E call s.ts s.h s.rc o with
       | .val v h'=> .ok .normal {s with ts:=dN s.ts o.dst v,h:=h'}
       | .defer d=> .ok .normal {s with ts:=dN s.ts o.dst AV.undef,ds:=d::s.ds}
       | .rW v=> .ok .normal {s with ts:=dN s.ts o.dst v,rc:= .done}
       | .panic v h'=> .ok (.panic v) {s with h:=h'}
       | .fail why q=> .fail why q
noncomputable def ku (call:bh) (ops:Array Oper):List Oper→St→Out
 | [],s=> .ok .normal s
 | o::rest,s=>
   if cD ops s.ts o then match FH E call s o with
    | .ok .normal s'=>ku call ops rest s'
    | r=>r
   else ku call ops rest {s with ts:=dN s.ts o.dst AV.undef}
def fI:Op→Bool
 | .store .. | .mapUpdate .. | .insert .. | .mapEntry .. | .entryStore .. | .next .. | .panic _ | .defer _=>true
 | .convert _ dst _=>match E.P.underlying dst with
   | some (.slice _)=>true
   | _=>false
 | .call c=>match c.callee with
   | .builtin .len | .builtin .cap | .builtin .max | .builtin .min=>false
   | .builtin _=>true
   | .value (.func f)=>(E.mT f).isNone
   | _=>true
 | _=>false
def kU (o:Oper):List Nat:=(o.after.toList.filter (Region.binds .any)).map (·.on)
def H8:List Oper→List (List Nat)→List (List Nat)
 | [],acc=>acc
 | o::rest,acc=>H8 rest (acc++[(kU o).foldl (fun l e=>(acc.getD e []).foldl (fun l x=>if l.contains x then l else x::l) (if l.contains e then l else e::l)) []])
def H9 (an:List (List Nat)) (i:Nat):List Nat:=an.getD i []
def dI (an:List (List Nat)) (i j:Nat):Bool:=(H9 an i).contains j
def tmpsOf (o:Oper):List Tmp:=o.op.operands.toList.filterMap fun | .tmp t=>some t | _=>none
def AU (ops:List Oper) (an:List (List Nat)):Bool:=
 ops.zipIdx.all fun (o,i)=>
  (kU o).all (fun e=>decide (e<i)&&dI an i e)&&
  (H9 an i).all (fun j=>decide (j<i)&&(kU o).any fun e=>e==j||dI an e j)
def AW (ops:List Oper) (an:List (List Nat)):Bool:=
 ops.zipIdx.all fun (o,i)=>
  (match o.guard with
   | none=>true
   | some (g,_)=>dI an i g&&((ops[g]?).bind (·.dst)).isSome)&&
  (ops.zipIdx.all fun (p,j)=>i==j||match p.dst with
   | none=>true
   | some d=>o.dst !=some d&&(!(tmpsOf o).contains d||dI an i j||dI an j i))
def ub (an:List (List Nat)):List Nat→Bool
 | e::f::rest=>dI an f e&&ub an (f::rest)
 | _=>true
def nG (ops:List Oper):List Nat:=(ops.zipIdx.filter fun (o,_)=>fI E o.op).map (·.2)
def FI (bM:List Nat) (an:List (List Nat)) (i:Nat):Nat:=(bM.filter fun e=>dI an i e).length
def group (ops:List Oper) (bM:List Nat) (an:List (List Nat)) (k:Nat):List Nat:=
 ((ops.zipIdx.filter fun (o,i)=> !fI E o.op&&FI bM an i==k).map (·.2))++(bM[k]?).toList
def oC (ops:List Oper) (bM:List Nat) (an:List (List Nat)):Nat→Nat→List Nat
 | 0,_=> []
 | n+1,k=>group E ops bM an k++oC ops bM an n (k+1)
def ky (bM:List Nat) (an:List (List Nat)) (i:Nat):Nat:=(bM.takeWhile fun e=> !dI an e i).length
structure mE where
 an:List (List Nat)
 bM:List Nat
 order:List Nat
def kV (ops:Array Oper) (an:List (List Nat)) (bM:List Nat):List Nat→List Nat→Nat→Bool
 | [],seen,k=>(List.range ops.size).all (fun i=>seen.contains i)&&k==bM.length
 | i::rest,seen,k=>decide (i<ops.size)&& !seen.contains i&&(H9 an i).all (fun j=>seen.contains j)&&
   (if fI E ((ops.getD i default).op) then bM[k]? ==some i&&kV ops an bM rest (i::seen) (k+1)
    else FI bM an i==k&&kV ops an bM rest (i::seen) k)
def nodup:List Nat→Bool
 | []=>true
 | x::xs=> !xs.contains x&&nodup xs
def sy (ops:Array Oper):Option mE:=
 let l:=ops.toList
 let an:=H8 l []
 let bM:=nG E l
 let order:=oC E l bM an (bM.length+1) 0
 if AU l an&&AW l an&&ub an bM&&nodup bM&&kV E ops an bM order [] 0 then some ⟨an,bM,order⟩ else none
inductive TK where
 | off
 | gS
 | red
 | sA (n:Nat) (obj:aX)
 | uE (h':aA)
structure Step where
 i:Nat
 k:Nat
 ts:List AV
 v:AV
 kind:TK
inductive ka where
 | ok (tr:List Step) (hs:List aA) (s:St)
 | fail (why:String) (o:Option Oper)
def ka.step (x:Step):ka→ka
 | .ok tr hs s=> .ok (x::tr) hs s
 | r=>r
def ka.bound (h:aA):ka→ka
 | .ok tr hs s=> .ok tr (h::hs) s
 | r=>r
noncomputable def cT (call:bh) (ops:Array Oper):List Nat→Nat→St→ka
 | [],_,s=> .ok [] [s.h] s
 | i::rest,k,s=>match ops[i]? with
   | none=> .fail "order" none
   | some o=>
     if fI E o.op then
      if cD ops s.ts o then match dm E call s.ts s.h s.rc o with
       | .val v h'=>((cT call ops rest (k+1) {s with ts:=dN s.ts o.dst v,h:=h'}).bound s.h).step ⟨i,k,s.ts,v,.uE h'⟩
       | .fail why q=> .fail why q
       | _=> .fail "draw" (some o)
      else ((cT call ops rest (k+1) {s with ts:=dN s.ts o.dst AV.undef}).bound s.h).step ⟨i,k,s.ts,AV.undef,.off⟩
     else if cD ops s.ts o then match bE E s.ts o.op with
      | some v=>(cT call ops rest k {s with ts:=dN s.ts o.dst v}).step ⟨i,k,s.ts,v,.gS⟩
      | none=>match dW E s.ts s.h o.op with
        | some v=>(cT call ops rest k {s with ts:=dN s.ts o.dst v}).step ⟨i,k,s.ts,v,.red⟩
        | none=>match eB E s.ts o.op with
          | some (obj,mk)=>match s.h.new obj with
            | some h'=>(cT call ops rest k {s with ts:=dN s.ts o.dst (mk s.h.nx),h:=h'}).step ⟨i,k,s.ts,mk s.h.nx,.sA s.h.nx obj⟩
            | none=> .fail "full" (some o)
          | none=> .fail "neither" (some o)
     else (cT call ops rest k {s with ts:=dN s.ts o.dst AV.undef}).step ⟨i,k,s.ts,AV.undef,.off⟩
def aX.same:aX→aX→Bool
 | .cells a e r,.cells b f q=>da (AV.same 20) a b&&e==f&&r==q
 | .map [] c,.map [] d=>c==d
 | .uY s p,.uY t q=>s==t&&p==q
 | _,_=>false
noncomputable def jN (ops:Array Oper) (x:Step) (h:aA):Bool:=match x.kind with
 | .red=>match dW E x.ts h (ops.getD x.i default).op with
   | some v=>AV.same 20 v x.v
   | none=>false
 | .sA n obj=>match h.get n with
   | some o=>aX.same o obj
   | none=>false
 | _=>true
def qR (tr:List Step):List Nat:=tr.filterMap fun x=>match x.kind with | .sA n _=>some n | _=>none
noncomputable def qS (ops:Array Oper) (pl:mE) (tr:List Step) (hs:List aA):Bool:=
 nodup (qR tr)&&tr.all fun x=>((hs.drop x.k).take (ky pl.bM pl.an x.i+1 - x.k)).all (jN E ops x)
noncomputable def A_ (call:bh) (ops:Array Oper) (s:St) (pl:mE):Option (AV×St):=match pl.order.reverse with
 | []=>none
 | i::front=>match cT E call ops front.reverse 0 s,ops[i]? with
   | .ok tr hs s1,some ⟨dst,.call c,ty,pos,after,guard⟩=>
     if fI E (.call c)&&cD ops s1.ts ⟨dst,.call c,ty,pos,after,guard⟩&&(List.range ops.size).all (fun j=>j==i||dI pl.an i j) then
      match dm E call s1.ts s1.h s1.rc ⟨dst,.call c,ty,pos,after,guard⟩ with
      | .panic v h'=>if qS E ops pl (tr++[⟨i,hs.length - 1,s1.ts,AV.undef,.uE h'⟩]) (hs++[h']) then some (v,{s1 with h:=h'}) else none
      | _=>none
     else none
   | _,_=>none
noncomputable def wC (call:bh) (ops:Array Oper) (s:St):Out:=match sy E ops with
 | none=> .fail "plan" (ops[0]?)
 | some pl=>match cT E call ops pl.order 0 s with
   | .ok tr hs s'=>if qS E ops pl tr hs then .ok .normal s' else .fail "still" (ops[0]?)
   | .fail why o=>match A_ E call ops s pl with
     | some (v,s2)=> .ok (.panic v) s2
     | none=> .fail why o
noncomputable def MK (s:St):Option (Nat×aA×List oB):=match s.rc with
 | .sm l=>match s.h.get l with
   | some (.loop _ _ _ _ _ _ dn)=>some (dn,s.h,s.ds)
   | _=>none
 | _=>match s.h.new .qQ with
   | some h1=>some (s.h.nx,h1,.pj s.h.nx::s.ds)
   | none=>none
def Ef:Option Code→Option iB
 | none=>some .normal
 | some (.exit id)=>some (.exit id)
 | some .ret=>some .ret
 | _=>none
noncomputable def lN (call:bh) (f:Operand) (ps:Array Tmp) (as_ bd:Code) (s:St):Out:=match eA E s.ts f with
 | some (.func g first captured)=>match MK s with
   | some (dn,h1,Y0)=>match h1.new (.loop .ready none s.ts ps.toList as_ bd dn) with
     | some h2=>match call (.fn g) (first++[.cE h1.nx]++captured) h2 with
       | .ret _ h3=>match h3.get h1.nx with
         | some (.loop .busy ..)=> .fail "range busy" none
         | some (.loop _ ir kz qM uF Vi Vj)=>match Ef ir with
           | some e=> .ok e {s with h:=h3.put h1.nx (some (.loop .exhausted ir kz qM uF Vi Vj)),ds:=Y0}
           | none=> .fail "range jump" none
         | _=> .fail "range loop" none
       | .panic v h3=> .ok (.panic v) {s with h:=h3,ds:=Y0}
       | .fail why q=> .fail why q
     | none=> .fail "full" none
   | none=> .fail "range open" none
 | _=> .fail "range function" none
noncomputable def exec (call:bh):Nat→Code→St→Out
 | 0,_,_=> .fail "fuel" none
 | n+1,c,s=>match c with
   | .skip=> .ok .normal s
   | .label _=> .ok .normal s
   | .ret=> .ok .ret s
   | .exit id=> .ok (.exit id) s
   | .seq a b=>match exec call n a s with
     | .ok .normal s'=>exec call n b s'
     | r=>r
   | .cond x a b=>match eA E s.ts x with
     | some (.bool true)=>exec call n a s
     | some (.bool false)=>exec call n b s
     | _=> .fail "cond" none
   | .block id b=>match exec call n b s with
     | .ok (.exit P7) s'=>if P7=id then .ok .normal s' else .ok (.exit P7) s'
     | r=>r
   | .loop b=>match exec call n b s with
     | .ok .normal s'=>exec call n (.loop b) s'
     | r=>r
   | .region _ ops draw=>if draw then wC E call ops s else ku E call ops ops.toList s
   | .rangeFunc f ps as_ bd=>lN E call f ps as_ bd s
   | .scope b=>exec call n b s
   | _=> .fail "code" none
noncomputable def jL (h:aA) (ts:List AV):List ResultVar→Option (List AV)
 | []=>some []
 | r::rest=>match (match r with
  | .tmp t=>some (ts.getD t AV.undef)
  | .cell a t=>bk E h t (ts.getD a AV.undef)) with
   | none=>none
   | some v=>match jL h ts rest with
     | none=>none
     | some vs=>some (v::vs)
def fR:List AV→AV
 | [v]=>v
 | vs=> .tuple vs
noncomputable def cN (iG:FuncId→List AV→aA→RC→Option (aA×RC)):List oB→Option AV→aA→Option (Option AV×aA)
 | [],p,h=>some (p,h)
 | .pj r::ds,p,h=>match h.get r with
   | some .qQ=>cN iG ds p (h.put r none)
   | _=>none
 | .call f args::ds,none,h=>match iG f args h .no with
   | some (h',_)=>cN iG ds none h'
   | none=>none
 | .call f args::ds,some v,h=>match iG f args h (.ir v) with
   | some (h',.ir _)=>cN iG ds (some v) h'
   | some (h',.done)=>cN iG ds none h'
   | _=>none
noncomputable def mZ (call:bh) (fuel:Nat) (fn:Func) (b:Code) (args:List AV) (h:aA) (rc:RC):Out:=
 exec E call fuel b {ts:=args++List.replicate (fn.ntmps - args.length) AV.undef,h,ds:=[],rc}
noncomputable def Av (l:Nat) (jump:Option Code) (s:St):jB:=match s.h.get l with
 | some (.loop _ _ ts ps as_ bd dn)=> .ret (.bool jump.isNone) (s.h.put l (some (.loop (if jump.isNone then .ready else .done) jump ts ps as_ bd dn)))
 | _=> .fail "round end" none
noncomputable def qT (call:bh) (fuel:Nat) (l:Nat) (args:List AV) (h:aA):jB:=match h.get l with
 | some (.loop _ _ ts ps as_ bd _)=>if args.length=ps.length then
  match exec E call fuel as_ {ts:=(ps.zip args).foldl (fun ts x=>ts.set x.1 x.2) ts,h,ds:=[],rc:= .sm l} with
  | .ok .normal s1=>match s1.h.get l with
    | some (.loop .ready pd UW QB P9 UX UY)=>
      match exec E call fuel bd {s1 with h:=s1.h.put l (some (.loop .busy pd UW QB P9 UX UY))} with
      | .ok .normal s2=>Av l none s2
      | .ok .ret s2=>Av l (some .ret) s2
      | .ok (.exit id) s2=>Av l (some (.exit id)) s2
      | .ok (.panic v) s2=>if s2.ds.isEmpty then .panic v s2.h else .fail "round defers" none
      | .fail why q=> .fail why q
    | _=> .fail "round state" none
  | .ok _ _=> .fail "round assign" none
  | .fail why q=> .fail why q
   else .fail "round args" none
 | _=> .fail "round" none
noncomputable def gJ:Nat→Nat→bh
 | 0,_=>fun _ _ _=> .fail "depth" none
 | d+1,fuel=>fun F args h=>match F with
  | .ua l=>qT E (gJ d fuel) fuel l args h
  | .fn f=>match E.P.funcs[f]? with
   | none=> .fail "no function" none
   | some fn=>match fn.body with
     | none=> .fail ("no body " ++fn.name) none
     | some b=>
       let finish (p:Option AV) (s:St):jB:=
        match cN (fun g as_ h rc=>match E.P.funcs[g]? with
         | none=>none
         | some fg=>match fg.body with
           | none=>none
           | some bg=>match mZ E (gJ d fuel) fuel fg bg as_ h rc with
             | .ok .normal s'=>if s'.ds.isEmpty&&(jL E s'.h s'.ts fg.results.toList).isSome then some (s'.h,s'.rc) else none
             | .ok .ret s'=>if s'.ds.isEmpty&&(jL E s'.h s'.ts fg.results.toList).isSome then some (s'.h,s'.rc) else none
             | _=>none) s.ds p s.h with
        | none=> .fail "unwind" none
        | some (some v,h')=> .panic v h'
        | some (none,h')=>match jL E h' s.ts fn.results.toList with
          | some vs=> .ret (fR vs) h'
          | none=> .fail "results" none
       match mZ E (gJ d fuel) fuel fn b args h .no with
       | .ok .normal s=>finish none s
       | .ok .ret s=>finish none s
       | .ok (.panic v) s=>finish (some v) s
       | .ok (.exit _) _=> .fail "exit" none
       | .fail why o=> .fail (why++ " in " ++fn.name) o
end Go.Ab
end
section
namespace Go.Ab
structure Loc where
 eg:Nat
 off:Nat
 iX:Nat
abbrev Ph:=Nat→Option Loc
def Ph.le (φ φ':Ph):Prop:=∀i l,φ i=some l→φ' i=some l
theorem Ph.le_refl (φ:Ph):φ.le φ:=fun _ _ h=>h
theorem Ph.le_trans {a b c:Ph} (h:a.le b) (h':b.le c):a.le c:=fun i l e=>h' i l (h i l e)
def gK (op:Bool) (cap iX:Nat):Nat:=if op then cap+iX else cap
def abX:Value→Bool
 | .agg _ | .tuple _ | .float .. | .complex .. | .bool _=>false
 | _=>true
inductive VR (φ:Ph):AV→Value→Prop
 | bool (b:Bool):VR φ (.bool b) (.bool b)
 | int (k:IntKind) (n:Int):VR φ (.int k n) (.int k n)
 | str (s:ByteArray):VR φ (.str s.data.toList) (.string s)
 | gz:VR φ .gz (.pointer none)
 | ptr {i:Nat} {l:Loc} (o:Nat) (h:φ i=some l):VR φ (.ptr i o) (.pointer (some ⟨l.eg,l.off+o,none⟩))
 | aP:VR φ .aP (.slice none 0 0)
 | slice {i:Nat} {l:Loc} (o len cap:Nat) (op:Bool) (h:φ i=some l):VR φ (.slice i o len cap op) (.slice (some ⟨l.eg,l.off+o,none⟩) len (gK op cap l.iX))
 | ff (a:Addr) (cap:Nat):VR φ .ff (.slice (some a) 0 cap)
 | dU:VR φ .dU (.map none)
 | map {i:Nat} {l:Loc} (h:φ i=some l):VR φ (.map i) (.map (some l.eg))
 | func (f:FuncId) (a b:List AV) (a' b':Array Value) (la:a.length=a'.size) (lb:b.length=b'.size)
  (ha:∀(i:Nat) (x:AV) (y:Value),a[i]? =some x→a'[i]? =some y→VR φ x y) (hb:∀(i:Nat) (x:AV) (y:Value),b[i]? =some x→b'[i]? =some y→VR φ x y):
  VR φ (.func f a b) (.func (.func f) a' b')
 | nilFunc:VR φ .nilFunc .nilFunc
 | yield {i:Nat} {l:Loc} (h:φ i=some l):VR φ (.cE i) (.func (.yield l.eg) #[] #[])
 | iface (t:TypeId) (v:AV) (v':Value) (h:VR φ v v'):VR φ (.iface t v) (.iface t v')
 | nilIface:VR φ .nilIface .nilIface
 | agg (cs:List AV) (iW:Array Value) (hl:cs.length=iW.size) (h:∀(i:Nat) (x:AV) (y:Value),cs[i]? =some x→iW[i]? =some y→VR φ x y):VR φ (.agg cs) (.agg iW)
 | tuple (cs:List AV) (iW:Array Value) (hl:cs.length=iW.size) (h:∀(i:Nat) (x:AV) (y:Value),cs[i]? =some x→iW[i]? =some y→VR φ x y):VR φ (.tuple cs) (.tuple iW)
 | any (v:Value) (h:abX v=true):VR φ .any v
theorem VR.mono {φ φ':Ph} (hle:φ.le φ') {v:AV} {v':Value} (h:VR φ v v'):VR φ' v v':=by
 induction h with
 | bool b=>exact .bool b
 | int k n=>exact .int k n
 | str s=>exact .str s
 | gz=>exact .gz
 | ptr o h=>exact .ptr o (hle _ _ h)
 | aP=>exact .aP
 | slice o len cap op h=>exact .slice o len cap op (hle _ _ h)
 | ff a cap=>exact .ff a cap
 | dU=>exact .dU
 | map h=>exact .map (hle _ _ h)
 | func f a b a' b' la lb _ _ iha ihb=>exact .func f a b a' b' la lb iha ihb
 | nilFunc=>exact .nilFunc
 | yield h=>exact .yield (hle _ _ h)
 | iface t v v' _ ih=>exact .iface t v v' ih
 | nilIface=>exact .nilIface
 | agg cs iW hl _ ih=>exact .agg cs iW hl ih
 | tuple cs iW hl _ ih=>exact .tuple cs iW hl ih
 | any v h=>exact .any v h
def LR (φ:Ph) (xs:List AV) (ys:List Value):Prop:=xs.length=ys.length∧∀(i:Nat) (x:AV) (y:Value),xs[i]? =some x→ys[i]? =some y→VR φ x y
theorem LR.mono {φ φ':Ph} (hle:φ.le φ') {xs:List AV} {ys:List Value} (h:LR φ xs ys):LR φ' xs ys:=⟨h.1,fun i x y a b=>(h.2 i x y a b).mono hle⟩
theorem LR.nil (φ:Ph):LR φ [] []:=⟨rfl,fun i x y a _=>by simp at a⟩
theorem LR.cons {φ:Ph} {x:AV} {y:Value} {xs:List AV} {ys:List Value} (h:VR φ x y) (hs:LR φ xs ys):LR φ (x::xs) (y::ys):=by
 refine ⟨by simp [hs.1],fun i a b ha hb=>?_⟩
 cases i with
 | zero=>simp at ha hb;subst ha;subst hb;exact h
 | succ i=>simp at ha hb;exact hs.2 i a b ha hb
theorem LR.cu {φ:Ph} {x:AV} {xs:List AV} {ys:List Value} (h:LR φ (x::xs) ys):∃y yz,ys=y::yz∧VR φ x y∧LR φ xs yz:=by
 obtain ⟨hl,hv⟩:=h
 cases ys with
 | nil=>simp at hl
 | cons y ys=>
   refine ⟨y,ys,rfl,hv 0 x y (by simp) (by simp),by simpa using hl,fun i a b ha hb=>hv (i+1) a b (by simpa using ha) (by simpa using hb)⟩
theorem LR.gE {φ:Ph} {ys:List Value} (h:LR φ [] ys):ys=[]:=by
 cases ys with
 | nil=>rfl
 | cons y ys=>simp [LR] at h
theorem LR.append {φ:Ph} {xs AX:List AV} {ys yz:List Value} (h:LR φ xs ys) (h':LR φ AX yz):LR φ (xs++AX) (ys++yz):=by
 refine ⟨by simp [h.1,h'.1],fun i a b ha hb=>?_⟩
 by_cases hi:i<xs.length
 · rw[List.getElem?_append_left hi] at ha
   rw[List.getElem?_append_left (by rw[←h.1];exact hi)] at hb
   exact h.2 i a b ha hb
 · rw[List.getElem?_append_right (by omega)] at ha
   rw[List.getElem?_append_right (by rw[←h.1];omega)] at hb
   exact h'.2 _ a b ha (by rw[h.1];exact hb)
theorem LR.drop {φ:Ph} {xs:List AV} {ys:List Value} (h:LR φ xs ys) (n:Nat):LR φ (xs.drop n) (ys.drop n):=
 ⟨by simp [h.1],fun i a b ha hb=>h.2 (n+i) a b (by simpa using ha) (by simpa using hb)⟩
theorem LR.take {φ:Ph} {xs:List AV} {ys:List Value} (h:LR φ xs ys) (n:Nat):LR φ (xs.take n) (ys.take n):=by
 refine ⟨by simp [h.1],fun i a b ha hb=>?_⟩
 rw[List.getElem?_take] at ha hb
 by_cases hi:i<n
 · simp only[hi,if_true] at ha hb;exact h.2 i a b ha hb
 · simp [hi] at ha
theorem LR.set {φ:Ph} {xs:List AV} {ys:List Value} (h:LR φ xs ys) {x:AV} {y:Value} (hx:VR φ x y) (n:Nat):LR φ (xs.set n x) (ys.set n y):=by
 refine ⟨by simp [h.1],fun i a b ha hb=>?_⟩
 rw[List.getElem?_set] at ha hb
 by_cases hi:n=i
 · subst hi
   by_cases hl:n<xs.length
   · simp only[if_true,hl] at ha
     simp only[if_true,←h.1,hl] at hb
     simp at ha hb;subst ha;subst hb;exact hx
   · simp [hl] at ha
 · simp only[hi,if_false] at ha hb;exact h.2 i a b ha hb
theorem LR.replicate {φ:Ph} {x:AV} {y:Value} (h:VR φ x y) (n:Nat):LR φ (List.replicate n x) (List.replicate n y):=by
 refine ⟨by simp,fun i a b ha hb=>?_⟩
 rw[List.getElem?_replicate] at ha hb
 by_cases hi:i<n
 · simp [hi] at ha hb;subst ha;subst hb;exact h
 · simp [hi] at ha
theorem LR.get {φ:Ph} {xs:List AV} {ys:List Value} (h:LR φ xs ys) {i:Nat} {x:AV} (hx:xs[i]? =some x):∃y,ys[i]? =some y∧VR φ x y:=by
 have hi:i<xs.length:=(List.getElem?_eq_some_iff.1 hx).1
 have:i<ys.length:=by rw[←h.1];exact hi
 exact ⟨ys[i],by simp [this],h.2 i x _ hx (by simp [this])⟩
theorem LR.getD {φ:Ph} {xs:List AV} {ys:List Value} (h:LR φ xs ys) {d:AV} {d':Value} (hd:VR φ d d') (i:Nat):VR φ (xs.getD i d) (ys.getD i d'):=by
 by_cases hi:i<xs.length
 · have:i<ys.length:=by rw[←h.1];exact hi
   have e:=h.2 i xs[i] ys[i] (by simp [hi]) (by simp [this])
   simpa [List.getD,hi,this] using e
 · have:¬i<ys.length:=by rw[←h.1];exact hi
   simpa [List.getD,hi,this] using hd
theorem VR.undef (φ:Ph):VR φ AV.undef undef:= .tuple [] #[] rfl (fun i x y a _=>by simp at a)
theorem VR.OF {φ:Ph} {cs:List AV} {iW:List Value} (h:LR φ cs iW):VR φ (.agg cs) (.agg iW.toArray):= .agg cs _ (by simp [h.1]) (fun i x y a b=>h.2 i x y a (by simpa using b))
theorem VR.tuple' {φ:Ph} {cs:List AV} {iW:List Value} (h:LR φ cs iW):VR φ (.tuple cs) (.tuple iW.toArray):= .tuple cs _ (by simp [h.1]) (fun i x y a b=>h.2 i x y a (by simpa using b))
theorem VR.ke {φ:Ph} {cs:List AV} {v:Value} (h:VR φ (.agg cs) v):∃iW:Array Value,v= .agg iW∧LR φ cs iW.toList:=by
 cases h with
 | agg _ iW hl h=>exact ⟨iW,rfl,by simpa using hl,fun i x y a b=>h i x y a (by simpa using b)⟩
theorem VR.Eg {φ:Ph} {cs:List AV} {v:Value} (h:VR φ (.tuple cs) v):∃iW:Array Value,v= .tuple iW∧LR φ cs iW.toList:=by
 cases h with
 | tuple _ iW hl h=>exact ⟨iW,rfl,by simpa using hl,fun i x y a b=>h i x y a (by simpa using b)⟩
theorem VR.wD {φ:Ph} {f:FuncId} {a b:List AV} {v:Value} (h:VR φ (.func f a b) v):∃a' b':Array Value,v= .func (.func f) a' b'∧LR φ a a'.toList∧LR φ b b'.toList:=by
 cases h with
 | func _ _ _ a' b' la lb ha hb=>exact ⟨a',b',rfl,⟨by simpa using la,fun i x y p q=>ha i x y p (by simpa using q)⟩,⟨by simpa using lb,fun i x y p q=>hb i x y p (by simpa using q)⟩⟩
theorem VR.QC {φ:Ph} (f:FuncId) {a b:List AV} {a' b':List Value} (ha:LR φ a a') (hb:LR φ b b'):VR φ (.func f a b) (.func (.func f) a'.toArray b'.toArray):=
 .func f a b _ _ (by simp [ha.1]) (by simp [hb.1]) (fun i x y p q=>ha.2 i x y p (by simpa using q)) (fun i x y p q=>hb.2 i x y p (by simpa using q))
theorem VR.cells {φ:Ph} {v:AV} {v':Value} (h:VR φ v v'):LR φ v.cells v'.cells.toList:=by
 cases h with
 | agg cs iW hl h=>exact ⟨by simpa [AV.cells,Value.cells] using hl,fun i x y a b=>h i x y a (by simpa [Value.cells] using b)⟩
 | bool b=>exact .cons (.bool b) (.nil φ)
 | int k n=>exact .cons (.int k n) (.nil φ)
 | str s=>exact .cons (.str s) (.nil φ)
 | gz=>exact .cons .gz (.nil φ)
 | ptr o h=>exact .cons (.ptr o h) (.nil φ)
 | aP=>exact .cons .aP (.nil φ)
 | slice o len cap op h=>exact .cons (.slice o len cap op h) (.nil φ)
 | ff a cap=>exact .cons (.ff a cap) (.nil φ)
 | dU=>exact .cons .dU (.nil φ)
 | map h=>exact .cons (.map h) (.nil φ)
 | func f a b a' b' la lb ha hb=>exact .cons (.func f a b a' b' la lb ha hb) (.nil φ)
 | nilFunc=>exact .cons .nilFunc (.nil φ)
 | yield h=>exact .cons (.yield h) (.nil φ)
 | iface t v v' h=>exact .cons (.iface t v v' h) (.nil φ)
 | nilIface=>exact .cons .nilIface (.nil φ)
 | tuple cs iW hl h=>exact .cons (.tuple cs iW hl h) (.nil φ)
 | any _ h=>
   have e:v'.cells= #[v']:=by cases v'<;>first | rfl | cases h
   rw[e]
   exact .cons (.any v' h) (.nil φ)
theorem VR.scalar {φ:Ph} {v:AV} {v':Value} (h:VR φ v v') (hs:v.scalar=true):v'.oneCell'=true:=by
 cases h with
 | any _ h=>cases v'<;>first | rfl | cases h
 | _=>simp_all [AV.scalar,Value.oneCell']
theorem sB {α β:Type} {f:α→Option β}:∀{l:List α} {r:List β},eH f l=some r→l.length=r.length∧∀(i:Nat) (x:α),l[i]? =some x→∃y,r[i]? =some y∧f x=some y
 | [],r,h=>by simp [eH] at h;subst h;simp
 | x::xs,r,h=>by
   simp only[eH] at h
   cases hx:f x with
   | none=>simp [hx] at h
   | some y=>
     simp only[hx] at h
     cases hs:eH f xs with
     | none=>simp [hs] at h
     | some ys=>
       simp only[hs,Option.some.injEq] at h
       subst h
       obtain ⟨hl,hv⟩:=sB hs
       refine ⟨by simp [hl],fun i z hz=>?_⟩
       cases i with
       | zero=>simp at hz;subst hz;exact ⟨y,by simp,hx⟩
       | succ i=>simp at hz;simpa using hv i z hz
theorem sC (φ:Ph) {v:Value} {x:AV} (h:kK v=some x):VR φ x v:=by
 unfold kK at h
 split at h<;>simp at h<;>subst h
 · exact .bool _
 · exact .int _ _
 · exact .str _
 · exact .gz
 · exact .aP
 · exact .dU
 · exact .nilFunc
 · exact .nilIface
theorem wE (φ:Ph) {l:List Value} {r:List AV} (h:eH kK l=some r):LR φ r l:=by
 obtain ⟨hl,hv⟩:=sB h
 refine ⟨hl.symm,fun i x y hx hy=>?_⟩
 obtain ⟨z,hz,hf⟩:=hv i y hy
 rw[hx] at hz;simp at hz;subst hz
 exact sC φ hf
theorem A' (φ:Ph) {v:Value} {x:AV} (h:ofConst v=some x):VR φ x v:=by
 unfold ofConst at h
 split at h
 · rename_i cs
   cases hm:eH kK cs.toList with
   | none=>simp [hm] at h
   | some l=>simp [hm] at h;subst h;have:=VR.OF (wE φ hm);simpa using this
 · rename_i cs
   cases hm:eH kK cs.toList with
   | none=>simp [hm] at h
   | some l=>simp [hm] at h;subst h;have:=VR.tuple' (wE φ hm);simpa using this
 · rename_i t v
   cases hm:kK v with
   | none=>simp [hm] at h
   | some l=>simp [hm] at h;subst h;exact .iface _ _ _ (sC φ hm)
 · exact sC φ h
variable (E:Env)
structure ER (φ:Ph) (e:h_) (e':MapEntry):Prop where
 key:VR φ e.key e'.key
 val:VR φ e.val e'.val
 born:e.born=e'.born
def H_ (φ:Ph) (es:List h_) (gF:List MapEntry):Prop:=es.length=gF.length∧∀(i:Nat) (x:h_) (y:MapEntry),es[i]? =some x→gF[i]? =some y→ER φ x y
def aX.rw:aX→Bool
 | .cells _ _ ro=> !ro
 | _=>true
def fL (l:Loc) (e:TypeId):Nat:=l.iX*(ch E e).getD 0
structure CR (φ:Ph) (cs:List AV) (e:TypeId) (ro:Bool) (l:Loc) (C:Array Value) (lo hi:Nat):Prop where
 size:l.off+cs.length+fL E l e≤C.size
 val:∀(k:Nat) (x:AV),cs[k]? =some x→∃y,C[l.off+k]? =some y∧VR φ x y
 free:ro=false→∀k,l.off≤k→k<l.off+cs.length+fL E l e→¬(lo≤k∧k<hi)
 zero:ro=true→∀m,cs=[.map m]→l.off=0
structure CS (φ:Ph) (cs:List AV) (e:TypeId) (ro:Bool) (l:Loc) (C:Array Value) (e':TypeId) (lo hi:Nat):Prop extends CR E φ cs e ro l C lo hi where
 shape:ro=false→e'=e∧l.off=0∧(∀fs,E.P.underlying e=some (.struct fs)→fQ E e=none→C.size=cs.length)
theorem uc {t:TypeId} {n:Nat} (h:fQ E t=some n):(E.P.info? t).map (·.bytes)=some n:=by
 unfold fQ at h;split at h
 · cases h
 · exact h
structure MN (φ:Ph) (st:LoopState) (ir:Option Code) (ts:List AV) (ps:List Tmp) (as_ bd:Code) (dn:Nat) (r:Loop):Prop where
 state:r.state=st
 pending:r.pending=ir
 tmps:LR φ ts r.tmps.toList
 params:r.params.toList=ps
 assign:r.assign=as_
 body:r.body=bd
 defers:∃ld,φ dn=some ld∧r.defers=ld.eg
 fn:(E.P.funcs[r.fn]?).isSome=true
theorem MN.mono {E:Env} {φ φ':Ph} (hle:φ.le φ') {st:LoopState} {ir:Option Code} {ts:List AV} {ps:List Tmp} {as_ bd:Code} {dn:Nat} {r:Loop} (h:MN E φ st ir ts ps as_ bd dn r):MN E φ' st ir ts ps as_ bd dn r:=
 ⟨h.state,h.pending,h.tmps.mono hle,h.params,h.assign,h.body,let ⟨l,a,b⟩:=h.defers;⟨l,hle _ _ a,b⟩,h.fn⟩
def OR (φ:Ph):aX→Loc→Option Obj→Prop
 | .cells cs e ro,l,o=>∃C e' lo hi,o=some (.cells C e' (lo,hi))∧CS E φ cs e ro l C e' lo hi
 | .map es clock,l,o=>l.off=0∧∃gF,o=some (.map gF clock)∧H_ φ es gF.toList
 | .uY s pos,l,o=>l.off=0∧∃s':ByteArray,o=some (.stringIter s' pos)∧s'.data.toList=s
 | .A9 none since seen qP,l,o=>l.off=0∧o=some (.mapIter none since seen.toArray qP)
 | .A9 (some m) since seen qP,l,o=>l.off=0∧∃lm,φ m=some lm∧o=some (.mapIter (some lm.eg) since seen.toArray qP)
 | .loop st ir ts ps as_ bd dn,l,o=>l.off=0∧∃r,o=some (.loop r)∧MN E φ st ir ts ps as_ bd dn r
 | .qQ,l,o=>l.off=0∧o=some (.deferred (some []))
theorem OR.absurd {E:Env} {φ:Ph} {o:aX} {l:Loc} (h:OR E φ o l none):False:=by
 cases o with
 | cells cs e ro=>obtain ⟨C,e',lo,hi,hx,hc⟩:=h;simp at hx
 | map es clock=>obtain ⟨h0,gF,hx,hl,hv⟩:=h;simp at hx
 | uY s pos=>obtain ⟨h0,s',hx,_⟩:=h;simp at hx
 | A9 m since seen qP=>
   cases m with
   | none=>obtain ⟨h0,hx⟩:=h;simp at hx
   | some m=>obtain ⟨h0,lm,hm,hx⟩:=h;simp at hx
 | loop=>obtain ⟨h0,r,hx,_⟩:=h;simp at hx
 | qQ=>obtain ⟨h0,hx⟩:=h;simp at hx
structure OK (φ:Ph) (h:aA) (w:World):Prop where
 Aw:∀i l,φ i=some l→i<h.nx
 nx:E.G≤h.nx
 vr:∀g,g<E.G→φ g=some ⟨g,0,0⟩
 live:∀i o l,h.get i=some o→φ i=some l→OR E φ o l w.heap[l.eg]?
 inj:∀i j o p l m,h.get i=some o→h.get j=some p→φ i=some l→φ j=some m→(o.rw=true∨p.rw=true)→l.eg=m.eg→i=j
structure Fr (φ:Ph) (h:aA) (w:World) (φ':Ph) (h':aA) (w':World):Prop where
 ext:φ.le φ'
 old:∀i,i<h.nx→φ' i=φ i
 nx:h.nx≤h'.nx
 os:w'.os=w.os
 tape:w'.tape=w.tape
 output:w'.output=w.output
 size:w.heap.size≤w'.heap.size
 wF:∀b,b<w.heap.size→(∀i o l,h.get i=some o→o.rw=true→φ i=some l→l.eg≠b)→w'.heap[b]? =w.heap[b]?
 own:∀i o l,h'.get i=some o→o.rw=true→φ' i=some l→w.heap.size≤l.eg∨∃j p m,h.get j=some p∧p.rw=true∧φ j=some m∧m.eg=l.eg
theorem Fr.refl (φ:Ph) (h:aA) (w:World):Fr φ h w φ h w where
 ext:=Ph.le_refl φ
 old _ _:=rfl
 nx:=Nat.le_refl _
 os:=rfl
 tape:=rfl
 output:=rfl
 size:=Nat.le_refl _
 wF _ _ _:=rfl
 own i o l a b c:= .inr ⟨i,o,l,a,b,c,rfl⟩
theorem Fr.trans {φ₁ φ₂ φ₃:Ph} {h₁ h₂ h₃:aA} {w₁ w₂ w₃:World} (a:Fr φ₁ h₁ w₁ φ₂ h₂ w₂) (b:Fr φ₂ h₂ w₂ φ₃ h₃ w₃):Fr φ₁ h₁ w₁ φ₃ h₃ w₃ where
 ext:=Ph.le_trans a.ext b.ext
 old i hi:=(b.old i (Nat.lt_of_lt_of_le hi a.nx)).trans (a.old i hi)
 nx:=Nat.le_trans a.nx b.nx
 os:=b.os.trans a.os
 tape:=b.tape.trans a.tape
 output:=b.output.trans a.output
 size:=Nat.le_trans a.size b.size
 wF x hx hn:=by
  rw[b.wF x (Nat.lt_of_lt_of_le hx a.size) ?_,a.wF x hx hn]
  intro i o l hg hr hp he
  rcases a.own i o l hg hr hp with h | ⟨j,p,m,q1,q2,q3,q4⟩
  · omega
  · exact hn j p m q1 q2 q3 (q4.trans he)
 own i o l hg hr hp:=by
  rcases b.own i o l hg hr hp with h | ⟨j,p,m,q1,q2,q3,q4⟩
  · exact .inl (Nat.le_trans a.size h)
  · rcases a.own j p m q1 q2 q3 with h | ⟨j',p',m',r1,r2,r3,r4⟩
    · exact .inl (q4▸h)
    · exact .inr ⟨j',p',m',r1,r2,r3,r4.trans q4⟩
theorem KD {a b:Nat} (h:a≠b):Nat.beq a b=false:=by
 cases e:Nat.beq a b
 · rfl
 · exact absurd (Nat.eq_of_beq_eq_true e) h
theorem oD {a b:Nat} (h:b<a):Nat.ble a b=false:=by
 rw[Bool.eq_false_iff];intro e;have:=Nat.le_of_ble_eq_true e;omega
theorem yG (q:Nat) (t:HT):(OD q).get t=P4 (q%8) (P4 (q/8%8) (P4 (q/64) t)):=by
 simp only[OD,uZ,zz];rfl
theorem QD (q:Nat) (f:H3→H3) (t:HT):(OD q).Vh f t=Vg (q/64) (Vg (q/8%8) (Vg (q%8) f)) t:=by
 simp only[OD,uZ,zz];rfl
theorem Ba (q:Nat) (t:H3):(P5 q).get t=P4 (q%8) (P4 (q/8%8) (P4 (q/64) t)):=by
 simp only[P5,uZ,zz];rfl
theorem QE (q:Nat) (o:Option aX) (t:H3):(P5 q).Vh o t=Vg (q/64) (Vg (q/8%8) (Vg (q%8) fun _=>o)) t:=by
 simp only[P5,uZ,zz];rfl
theorem Bb {i:Nat} (hi:i<262144) (t:HT):(hp i).get t=(P5 (i%512)).get ((OD (i/512)).get t):=by
 unfold hp
 rw[oD hi,lM,lM];rfl
theorem QF {i:Nat} (hi:i<262144) (o:Option aX) (t:HT):(hp i).put o t=(OD (i/512)).Vh ((P5 (i%512)).Vh o) t:=by
 unfold hp
 rw[oD hi,lM,lM];rfl
theorem Vk (q:Nat) (o:Option aX) (t:H3):(P5 q).get ((P5 q).Vh o t)=o:=by
 rw[Ba,QE,di,di,di]
theorem QG {q p:Nat} (hq:q<512) (hp:p<512) (h:q≠p) (o:Option aX) (t:H3):(P5 p).get ((P5 q).Vh o t)=(P5 p).get t:=by
 rw[Ba,Ba,QE]
 by_cases h1:q/64=p/64
 · rw[h1,di]
   by_cases h2:q/8%8=p/8%8
   · rw[h2,di,dV (by omega) (by omega) (by omega)]
   · rw[dV (by omega) (by omega) h2]
 · rw[dV (by omega) (by omega) h1]
theorem MO (q:Nat) (f:H3→H3) (t:HT):(OD q).get ((OD q).Vh f t)=f ((OD q).get t):=by
 rw[yG,yG,QD,di,di,di]
theorem QH {q p:Nat} (hq:q<512) (hp:p<512) (h:q≠p) (f:H3→H3) (t:HT):(OD p).get ((OD q).Vh f t)=(OD p).get t:=by
 rw[yG,yG,QD]
 by_cases h1:q/64=p/64
 · rw[h1,di]
   by_cases h2:q/8%8=p/8%8
   · rw[h2,di,dV (by omega) (by omega) (by omega)]
   · rw[dV (by omega) (by omega) h2]
 · rw[dV (by omega) (by omega) h1]
theorem Vl {i:Nat} (hi:i<262144) (o:Option aX) (t:HT):(hp i).get ((hp i).put o t)=o:=by
 rw[Bb hi,QF hi,MO,Vk]
theorem QI {i j:Nat} (hi:i<262144) (hj:j<262144) (h:i≠j) (o:Option aX) (t:HT):(hp j).get ((hp i).put o t)=(hp j).get t:=by
 rw[Bb hj,Bb hj,QF hi]
 by_cases h1:i/512=j/512
 · rw[h1,MO,QG (by omega) (by omega) (by omega)]
 · rw[QH (by omega) (by omega) h1]
theorem Eh {a b:Nat} (h:¬b<a):Nat.ble a b=true:=Nat.ble_eq_true_of_le (by omega)
theorem aA.vt {h:aA} {i:Nat} (hi:i<262144):h.get i=(hp i).get h.t:=by
 unfold aA.get;rw[oD hi];rfl
theorem aA.qU {h:aA} {i:Nat} (hi:¬i<262144):h.get i=h.f i:=by
 unfold aA.get;rw[Eh hi];rfl
theorem aA.QJ {h:aA} {i:Nat} (hi:i<262144) (o:Option aX):h.put i o=⟨(hp i).put o h.t,h.nx,h.f⟩:=by
 unfold aA.put;rw[oD hi];rfl
theorem aA.MP {h:aA} {i:Nat} (hi:¬i<262144) (o:Option aX):h.put i o=⟨h.t,h.nx,Kz h.f i o⟩:=by
 unfold aA.put;rw[Eh hi];rfl
theorem aA.Y1 (h:aA) (i:Nat) (o:Option aX):(h.put i o).nx=h.nx:=rfl
theorem OG (f:Nat→Option aX) (i:Nat) (o:Option aX):Kz f i o i=o:=by
 unfold Kz;rw[Nat.beq_refl];rfl
theorem KE (f:Nat→Option aX) {i j:Nat} (h:i≠j) (o:Option aX):Kz f i o j=f j:=by
 unfold Kz;rw[KD (Ne.symm h)];rfl
theorem aA.ck {h:aA} {i:Nat} (o:Option aX):(h.put i o).get i=o:=by
 by_cases hi:i<262144
 · rw[aA.QJ hi,aA.vt hi];exact Vl hi o h.t
 · rw[aA.MP hi,aA.qU hi];exact OG _ _ _
theorem aA.bB {h:aA} {i j:Nat} (eF:i≠j) (o:Option aX):(h.put i o).get j=h.get j:=by
 by_cases hi:i<262144
 · rw[aA.QJ hi]
   by_cases hj:j<262144
   · rw[aA.vt hj,aA.vt hj];exact QI hi hj eF o h.t
   · rw[aA.qU hj,aA.qU hj]
 · rw[aA.MP hi]
   by_cases hj:j<262144
   · rw[aA.vt hj,aA.vt hj]
   · rw[aA.qU hj,aA.qU hj];exact KE _ eF _
theorem aA.FJ (h:aA) (o:aX):h.new o=some ⟨(h.put h.nx (some o)).t,h.nx+1,(h.put h.nx (some o)).f⟩:=rfl
theorem aA.lO {h h':aA} {o:aX} (e:h.new o=some h'):True∧h'.nx=h.nx+1∧h'.get h.nx=some o∧∀j,j≠h.nx→h'.get j=h.get j:=by
 rw[aA.FJ] at e
 cases e
 exact ⟨trivial,rfl,aA.ck (h:=h) (some o),fun j eF=>aA.bB (h:=h) (Ne.symm eF) (some o)⟩
end Go.Ab
end
section
namespace Go.Ab
variable {E:Env}
def kA (C:Array Value):Nat→List Value→Array Value
 | _,[]=>C
 | o,v::vs=>kA (C.setIfInBounds o v) (o+1) vs
theorem pw:∀(vs:List Value) (C:Array Value) (o:Nat),(kA C o vs).size=C.size
 | [],_,_=>rfl
 | v::vs,C,o=>by simp [kA,pw vs]
theorem vu:∀(vs:List Value) (C:Array Value) (o k:Nat),(kA C o vs)[k]? =if o≤k∧k<o+vs.length∧k<C.size then vs[k - o]? else C[k]?
 | [],C,o,k=>by simp [kA];omega
 | v::vs,C,o,k=>by
   rw[kA,vu vs]
   simp only[Array.size_setIfInBounds,List.length_cons,Array.getElem?_setIfInBounds]
   by_cases h1:o=k
   · subst h1
     by_cases h2:o<C.size
     · rw[if_neg (by omega)];simp [h2]
     · rw[if_neg (by omega)];simp [h2]
   · by_cases h2:o+1≤k∧k<o+1+vs.length∧k<C.size
     · rw[if_pos h2,if_pos (by omega)]
       obtain ⟨m,hm⟩:∃m,k - o=m+1:=⟨k - o - 1,by omega⟩
       rw[hm,show k -(o+1)=m by omega];simp
     · rw[if_neg h2];simp only[h1,if_false];rw[if_neg (by omega)]
theorem lP:∀(vs:List AV) (cs:List AV) (o:Nat),(setFrom cs o vs).length=cs.length
 | [],_,_=>rfl
 | v::vs,cs,o=>by simp [setFrom,lP vs]
theorem fX:∀(vs:List AV) (cs:List AV) (o k:Nat),(setFrom cs o vs)[k]? =if o≤k∧k<o+vs.length∧k<cs.length then vs[k - o]? else cs[k]?
 | [],cs,o,k=>by simp [setFrom];omega
 | v::vs,cs,o,k=>by
   rw[setFrom,fX vs]
   simp only[List.length_set,List.length_cons,List.getElem?_set]
   by_cases h1:o=k
   · subst h1
     by_cases h2:o<cs.length
     · rw[if_neg (by omega)];simp [h2]
     · rw[if_neg (by omega)];simp [h2]
   · by_cases h2:o+1≤k∧k<o+1+vs.length∧k<cs.length
     · rw[if_pos h2,if_pos (by omega)]
       obtain ⟨m,hm⟩:∃m,k - o=m+1:=⟨k - o - 1,by omega⟩
       rw[hm,show k -(o+1)=m by omega];simp
     · rw[if_neg h2];simp only[h1,if_false];rw[if_neg (by omega)]
theorem heap_setCell {w:World} {b:Nat} {C:Array Value} {e:TypeId} {f:Nat×Nat} (h:w.heap[b]? =some (.cells C e f)) (o:Nat) (v:Value):
 (w.setCell ⟨b,o,none⟩ v).heap[b]? =some (.cells (C.setIfInBounds o v) e f):=by
 obtain ⟨lo,hi⟩:=f
 simp [World.setCell,Array.getElem?_modify,h]
theorem heap_setCell_other {w:World} {b c:Nat} (h:b≠c) (o:Nat) (v:Value):(w.setCell ⟨b,o,none⟩ v).heap[c]? =w.heap[c]? :=by
 simp [World.setCell,Array.getElem?_modify,h]
theorem pN:∀(vs:List Value) {w:World} {b:Nat} {C:Array Value} {e:TypeId} {f:Nat×Nat} (_:w.heap[b]? =some (.cells C e f)) (o:Nat),
 (w.setCells b o vs).heap[b]? =some (.cells (kA C o vs) e f)
 | [],_,_,_,_,_,h,_=>h
 | v::vs,w,b,C,e,f,h,o=>by
   rw[World.setCells,kA]
   exact pN vs (heap_setCell h o v) (o+1)
theorem kB:∀(vs:List Value) {w:World} {b c:Nat} (_:b≠c) (o:Nat),(w.setCells b o vs).heap[c]? =w.heap[c]?
 | [],_,_,_,_,_=>rfl
 | v::vs,w,b,c,h,o=>by rw[World.setCells,kB vs h,heap_setCell_other h]
theorem size_setCells:∀(vs:List Value) (w:World) (b o:Nat),(w.setCells b o vs).heap.size=w.heap.size
 | [],_,_,_=>rfl
 | v::vs,w,b,o=>by rw[World.setCells,size_setCells vs];simp
theorem sD:∀(vs:List Value) (w:World) (b o:Nat),(w.setCells b o vs).os=w.os∧(w.setCells b o vs).tape=w.tape∧(w.setCells b o vs).output=w.output
 | [],_,_,_=>⟨rfl,rfl,rfl⟩
 | v::vs,w,b,o=>by rw[World.setCells];exact sD vs _ b (o+1)
theorem cell_of_heap {w:World} {b:Nat} {C:Array Value} {e:TypeId} {f:Nat×Nat} (h:w.heap[b]? =some (.cells C e f)) (k:Nat):w.cell? ⟨b,k,none⟩=C[k]? :=by
 obtain ⟨lo,hi⟩:=f
 simp [World.cell?,h]
theorem frozen_of_heap {w:World} {b:Nat} {C:Array Value} {e:TypeId} {lo hi:Nat} (h:w.heap[b]? =some (.cells C e (lo,hi))) (k:Nat):w.frozen? ⟨b,k,none⟩=(decide (lo≤k)&&decide (k<hi)):=by
 simp [World.frozen?,h]
theorem pO {P:Program} {w:World} {b:Nat} {C:Array Value} {e:TypeId} {lo hi:Nat} (h:w.heap[b]? =some (.cells C e (lo,hi))) (O:Nat) (vs:List Value)
 (hs:O+vs.length≤C.size) (hf:∀k,O≤k→k<O+vs.length→¬(lo≤k∧k<hi)) (h1:∀v∈vs,v.oneCell'=true):
 (storeCells ⟨b,O,none⟩ vs).run P w= .ok () (w.setCells b O vs):=by
 have:=run_storeCells_cells (P:=P) b O vs 0 w (fun j hj=>by
  rw[cell_of_heap h];simp;omega) (fun j hj=>by
  rw[frozen_of_heap h]
  have:=hf (O+j) (by omega) (by omega)
  simp only[Nat.add_zero,Bool.and_eq_false_iff,decide_eq_false_iff_not];omega) h1
 simpa using this
theorem n9 {P:Program} {w:World} {b:Nat} {C:Array Value} {e:TypeId} {f:Nat×Nat} (h:w.heap[b]? =some (.cells C e f)) (O:Nat) (cs:List Value)
 (hv:∀(j:Nat) (v:Value),cs[j]? =some v→C[O+j]? =some v):(loadCells ⟨b,O,none⟩ cs.length).run P w= .ok cs.toArray w:=
 run_loadCells_list (P:=P) w ⟨b,O,none⟩ cs (fun j v hj=>by
  have:(⟨b,O,none⟩:Addr).add j=⟨b,O+j,none⟩:=by unfold Addr.add;split<;>simp_all
  rw[this,cell_of_heap h];exact hv j v hj)
theorem CR.range {φ:Ph} {cs:List AV} {e:TypeId} {ro:Bool} {l:Loc} {C:Array Value} {lo hi:Nat} (h:CR E φ cs e ro l C lo hi) (o n:Nat) (hn:o+n≤cs.length):
 ∃vs:List Value,vs.length=n∧(∀(j:Nat) (v:Value),vs[j]? =some v→C[l.off+o+j]? =some v)∧LR φ ((cs.drop o).take n) vs:=by
 have OH:=h.size
 refine ⟨((C.toList.drop (l.off+o)).take n),by simp;omega,fun j v hj=>?_,by simp;omega,fun j x y hx hy=>?_⟩
 · rw[List.getElem?_take] at hj
   split at hj
   · simpa [Nat.add_assoc] using hj
   · simp at hj
 · rw[List.getElem?_take] at hx hy
   split at hx
   · rename_i hjn
     simp only[hjn,if_true] at hy
     rw[List.getElem?_drop] at hx hy
     obtain ⟨z,hz,hr⟩:=h.val (o+j) x hx
     simp at hy
     rw[show l.off+(o+j)=l.off+o+j by omega] at hz
     rw[hz] at hy;simp at hy;subst hy;exact hr
   · simp at hx
theorem OK.change {φ:Ph} {h:aA} {w w':World} (ok:OK E φ h w) {i:Nat} {o o':aX} {l:Loc} (hg:h.get i=some o) (HZ:o.rw=true) (hl:φ i=some l)
 (ho:OR E φ o' l w'.heap[l.eg]?) (sE:∀c,c≠l.eg→w'.heap[c]? =w.heap[c]?) (fO:w'.heap.size=w.heap.size)
 (hos:w'.os=w.os) (H':w'.tape=w.tape) (qc:w'.output=w.output):
 OK E φ (h.put i (some o')) w'∧Fr φ h w φ (h.put i (some o')) w':=by
 have gL:∀j p,(h.put i (some o')).get j=some p→(j=i∧p=o')∨(j≠i∧h.get j=some p):=fun j p hj=>by
  by_cases e:i=j
  · subst e;rw[aA.ck] at hj;simp at hj;exact .inl ⟨rfl,hj.symm⟩
  · rw[aA.bB e] at hj;exact .inr ⟨Ne.symm e,hj⟩
 refine ⟨⟨ok.Aw,ok.nx,ok.vr,fun j p m hj hm=>?_,fun j k p q m n hj hk hm hn hw hb=>?_⟩,⟨Ph.le_refl φ,fun _ _=>rfl,Nat.le_refl _,hos,H',qc,Nat.le_of_eq fO.symm,fun b _ hn=>?_,fun j p m hj hr hm=>?_⟩⟩
 · rcases gL j p hj with ⟨rfl,rfl⟩ | ⟨eF,nD⟩
   · rw[hl] at hm;simp at hm;subst hm;exact ho
   · rw[sE _ (fun e=>eF (ok.inj j i p o m l nD hg hm hl (.inr HZ) e))]
     exact ok.live j p m nD hm
 · rcases gL j p hj with ⟨rfl,rfl⟩ | ⟨_,nD⟩<;>rcases gL k q hk with ⟨rfl,rfl⟩ | ⟨_,Ia⟩
   · rfl
   · exact ok.inj _ _ _ _ _ _ hg Ia hm hn (.inl HZ) hb
   · exact ok.inj _ _ _ _ _ _ nD hg hm hn (.inr HZ) hb
   · exact ok.inj _ _ _ _ _ _ nD Ia hm hn hw hb
 · exact sE b (fun e=>hn i o l hg HZ hl e.symm)
 · rcases gL j p hj with ⟨rfl,rfl⟩ | ⟨_,nD⟩
   · rw[hl] at hm;simp at hm;subst hm;exact .inr ⟨j,o,l,hg,HZ,hl,rfl⟩
   · exact .inr ⟨j,p,m,nD,hr,hm,rfl⟩
theorem OR.mono {φ φ':Ph} (hle:φ.le φ') {o:aX} {l:Loc} {x:Option Obj} (h:OR E φ o l x):OR E φ' o l x:=by
 cases o with
 | cells cs e ro=>
   obtain ⟨C,e',lo,hi,hx,hc⟩:=h
   exact ⟨C,e',lo,hi,hx,⟨hc.size,fun k x hk=>let ⟨y,a,b⟩:=hc.val k x hk;⟨y,a,b.mono hle⟩,hc.free,hc.zero⟩,hc.shape⟩
 | map es clock=>
   obtain ⟨h0,gF,hx,hl,hv⟩:=h
   exact ⟨h0,gF,hx,hl,fun i a b p q=>let r:=hv i a b p q;⟨r.key.mono hle,r.val.mono hle,r.born⟩⟩
 | uY s pos=>exact h
 | A9 m since seen qP=>
   cases m with
   | none=>exact h
   | some m=>obtain ⟨h0,lm,hm,hx⟩:=h;exact ⟨h0,lm,hle _ _ hm,hx⟩
 | loop st ir ts ps as_ bd dn=>obtain ⟨h0,r,hx,hr⟩:=h;exact ⟨h0,r,hx,hr.mono hle⟩
 | qQ=>exact h
def Ph.add (φ:Ph) (i:Nat) (l:Loc):Ph:=fun j=>if j=i then some l else φ j
theorem OK.fresh {φ:Ph} {h h':aA} {w w':World} (ok:OK E φ h w) {o:aX} (hn:h.new o=some h') (l:Loc)
 (ho:OR E (φ.add h.nx l) o l w'.heap[l.eg]?) (sE:∀c,c≠l.eg→c<w.heap.size→w'.heap[c]? =w.heap[c]?) (fO:w.heap.size≤w'.heap.size)
 (abY:w.heap.size≤l.eg) (hos:w'.os=w.os) (H':w'.tape=w.tape) (qc:w'.output=w.output):
 OK E (φ.add h.nx l) h' w'∧Fr φ h w (φ.add h.nx l) h' w'∧φ.le (φ.add h.nx l):=by
 obtain ⟨lJ,hnx,Bc,hold⟩:=aA.lO hn
 have FK:φ h.nx=none:=by
  cases e:φ h.nx with
  | none=>rfl
  | some m=>exact absurd (ok.Aw _ _ e) (Nat.lt_irrefl _)
 have hle:φ.le (φ.add h.nx l):=fun i m hm=>by
  unfold Ph.add;split
  · rename_i e;subst e;rw[FK] at hm;simp at hm
  · exact hm
 have hblk:∀j p m,h.get j=some p→φ j=some m→m.eg<w.heap.size:=fun j p m hj hm=>by
  have AY:=ok.live j p m hj hm
  rcases Nat.lt_or_ge m.eg w.heap.size with a | a
  · exact a
  · exfalso
    rw[Array.getElem?_eq_none a] at AY
    exact AY.absurd
 have gL:∀j p,h'.get j=some p→(j=h.nx∧p=o)∨(j≠h.nx∧h.get j=some p):=fun j p hj=>by
  by_cases e:j=h.nx
  · subst e;rw[Bc] at hj;simp at hj;exact .inl ⟨rfl,hj.symm⟩
  · rw[hold j e] at hj;exact .inr ⟨e,hj⟩
 have kC:∀j,j≠h.nx→(φ.add h.nx l) j=φ j:=fun j hj=>by simp [Ph.add,hj]
 have iH:(φ.add h.nx l) h.nx=some l:=by simp [Ph.add]
 refine ⟨⟨fun i m hm=>?_,?_,fun g hg=>hle _ _ (ok.vr g hg),fun j p m hj hm=>?_,fun j k p q m n hj hk hm r7 hw hb=>?_⟩,
  ⟨hle,fun i hi=>kC i (by omega),by omega,hos,H',qc,fO,fun b hb Y2=>sE b (by omega) hb,fun j p m hj hr hm=>?_⟩,hle⟩
 · rw[hnx]
   by_cases e:i=h.nx
   · omega
   · rw[kC i e] at hm;have:=ok.Aw i m hm;omega
 · have:=ok.nx;omega
 · rcases gL j p hj with ⟨rfl,rfl⟩ | ⟨eF,nD⟩
   · rw[iH] at hm;simp at hm;subst hm;exact ho
   · rw[kC j eF] at hm
     rw[sE _ (by have:=hblk j p m nD hm;omega) (hblk j p m nD hm)]
     exact (ok.live j p m nD hm).mono hle
 · rcases gL j p hj with ⟨rfl,rfl⟩ | ⟨eF,nD⟩<;>rcases gL k q hk with ⟨rfl,rfl⟩ | ⟨FL,Ia⟩
   · rfl
   · rw[iH] at hm;simp at hm;subst hm
     rw[kC k FL] at r7;have:=hblk k q n Ia r7;omega
   · rw[iH] at r7;simp at r7;subst r7
     rw[kC j eF] at hm;have:=hblk j p m nD hm;omega
   · rw[kC j eF] at hm;rw[kC k FL] at r7;exact ok.inj _ _ _ _ _ _ nD Ia hm r7 hw hb
 · rcases gL j p hj with ⟨rfl,rfl⟩ | ⟨eF,nD⟩
   · rw[iH] at hm;simp at hm;subst hm;exact .inl abY
   · rw[kC j eF] at hm;exact .inr ⟨j,p,m,nD,hr,hm,rfl⟩
theorem OK.kill {φ:Ph} {h:aA} {w:World} (ok:OK E φ h w) {i:Nat}:OK E φ (h.put i none) w:=by
 have gL:∀j p,(h.put i none).get j=some p→h.get j=some p∧j≠i:=fun j p hj=>by
  by_cases e:i=j
  · subst e;rw[aA.ck] at hj;simp at hj
  · rw[aA.bB e] at hj;exact ⟨hj,Ne.symm e⟩
 exact ⟨ok.Aw,ok.nx,ok.vr,fun j p l hj hl=>ok.live j p l (gL j p hj).1 hl,fun j k p q m n hj hk=>ok.inj j k p q m n (gL j p hj).1 (gL k q hk).1⟩
end Go.Ab
end
