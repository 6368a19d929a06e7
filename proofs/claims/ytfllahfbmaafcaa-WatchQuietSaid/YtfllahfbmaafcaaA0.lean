import GoSem.Step
import Derived.Calls
import Derived.Laws.Cells
import Derived.Laws.IdiomCopy
import Derived.Laws.NewBlocks
set_option linter.unusedVariables false
set_option linter.unusedSimpArgs false
section
namespace Go.Ab
inductive AV where
 | bool (b:Bool)
 | int (k:IntKind) (n:Int)
 | str (s:List UInt8)
 | fN
 | ptr (i off:Nat)
 | aN
 | slice (i off len cap:Nat) (op:Bool)
 | dP
 | map (i:Nat)
 | func (f:FuncId) (first captured:List AV)
 | cO (l:Nat)
 | nilFunc
 | iface (t:TypeId) (v:AV)
 | nilIface
 | agg (cs:List AV)
 | tuple (cs:List AV)
 | dQ
 | any
 deriving Inhabited
def AV.undef:AV:= .tuple []
def AV.cells:AV→List AV
 | .agg cs=>cs
 | v=> [v]
def AV.scalar:AV→Bool
 | .agg _ | .tuple _=>false
 | _=>true
def cM {α:Type} (f:α→α→Bool):List α→List α→Bool
 | [],[]=>true
 | x::xs,y::ys=>f x y&&cM f xs ys
 | _,_=>false
def AV.same:Nat→AV→AV→Bool
 | 0,_,_=>false
 | n+1,x,y=>match x,y with
   | .bool a,.bool b=>a==b
   | .int k a,.int j b=>k==j&&a==b
   | .str a,.str b=>a==b
   | .fN,.fN=>true
   | .ptr i o,.ptr j p=>i==j&&o==p
   | .aN,.aN=>true
   | .dQ,.dQ=>true
   | .slice i o l c b,.slice j p m d e=>i==j&&o==p&&l==m&&c==d&&b==e
   | .dP,.dP=>true
   | .map i,.map j=>i==j
   | .func f a b,.func g c d=>f==g&&cM (AV.same n) a c&&cM (AV.same n) b d
   | .cO l,.cO m=>l==m
   | .nilFunc,.nilFunc=>true
   | .iface t a,.iface u b=>t==u&&AV.same n a b
   | .nilIface,.nilIface=>true
   | .agg a,.agg b=>cM (AV.same n) a b
   | .tuple a,.tuple b=>cM (AV.same n) a b
   | _,_=>false
def jZ:Value→Option AV
 | .bool b=>some (.bool b)
 | .int k n=>some (.int k n)
 | .string s=>some (.str s.data.toList)
 | .pointer none=>some .fN
 | .slice none 0 0=>some .aN
 | .map none=>some .dP
 | .nilFunc=>some .nilFunc
 | .nilIface=>some .nilIface
 | _=>none
def eF {α β:Type} (f:α→Option β):List α→Option (List β)
 | []=>some []
 | x::xs=>match f x with
   | none=>none
   | some y=>match eF f xs with
     | none=>none
     | some ys=>some (y::ys)
def ofConst:Value→Option AV
 | .agg cs=>match eF jZ cs.toList with
   | some l=>some (.agg l)
   | none=>none
 | .tuple cs=>match eF jZ cs.toList with
   | some l=>some (.tuple l)
   | none=>none
 | .iface t v=>match jZ v with
   | some x=>some (.iface t x)
   | none=>none
 | v=>jZ v
structure gO where
 key:AV
 val:AV
 born:Nat
inductive aR where
 | cells (cs:List AV) (elem:TypeId) (ro:Bool)
 | map (es:List gO) (clock:Nat)
 | uw (s:List UInt8) (pos:Nat)
 | A2 (m:Option Nat) (since:Nat) (seen:List Nat) (qo:Nat)
 | loop (st:LoopState) (pending:Option Code) (ts:List AV) (params:List Tmp) (assign body:Code) (dn:Nat)
 | uT
 deriving Inhabited
structure P8 (α:Type) where
 a0:α
 a1:α
 a2:α
 a3:α
 a4:α
 a5:α
 a6:α
 a7:α
section
variable {α β:Type}
def P8.all (x:α):P8 α:=⟨x,x,x,x,x,x,x,x⟩
def s8 (d:Nat) (k:(P8 α→α)→β):β:=match d with
 | 0=>k P8.a0
 | 1=>k P8.a1
 | 2=>k P8.a2
 | 3=>k P8.a3
 | 4=>k P8.a4
 | 5=>k P8.a5
 | 6=>k P8.a6
 | _=>k P8.a7
def PQ (d:Nat) (p:P8 α):α:=s8 d fun s=>s p
theorem ux (d:Nat) (k:(P8 α→α)→β):s8 d k=k (PQ d):=by
 rcases d with _ | _ | _ | _ | _ | _ | _ | d<;>rfl
noncomputable def pe0 (f:α→α) (p:P8 α):P8 α:=P8.rec (motive:=fun _=>P8 α) (fun a b c d e i g h=>⟨f a,b,c,d,e,i,g,h⟩) p
noncomputable def pe1 (f:α→α) (p:P8 α):P8 α:=P8.rec (motive:=fun _=>P8 α) (fun a b c d e i g h=>⟨a,f b,c,d,e,i,g,h⟩) p
noncomputable def pe2 (f:α→α) (p:P8 α):P8 α:=P8.rec (motive:=fun _=>P8 α) (fun a b c d e i g h=>⟨a,b,f c,d,e,i,g,h⟩) p
noncomputable def pe3 (f:α→α) (p:P8 α):P8 α:=P8.rec (motive:=fun _=>P8 α) (fun a b c d e i g h=>⟨a,b,c,f d,e,i,g,h⟩) p
noncomputable def pe4 (f:α→α) (p:P8 α):P8 α:=P8.rec (motive:=fun _=>P8 α) (fun a b c d e i g h=>⟨a,b,c,d,f e,i,g,h⟩) p
noncomputable def pe5 (f:α→α) (p:P8 α):P8 α:=P8.rec (motive:=fun _=>P8 α) (fun a b c d e i g h=>⟨a,b,c,d,e,f i,g,h⟩) p
noncomputable def pe6 (f:α→α) (p:P8 α):P8 α:=P8.rec (motive:=fun _=>P8 α) (fun a b c d e i g h=>⟨a,b,c,d,e,i,f g,h⟩) p
noncomputable def pe7 (f:α→α) (p:P8 α):P8 α:=P8.rec (motive:=fun _=>P8 α) (fun a b c d e i g h=>⟨a,b,c,d,e,i,g,f h⟩) p
noncomputable def e8 (d:Nat) (k:((α→α)→P8 α→P8 α)→β):β:=match d with
 | 0=>k pe0
 | 1=>k pe1
 | 2=>k pe2
 | 3=>k pe3
 | 4=>k pe4
 | 5=>k pe5
 | 6=>k pe6
 | _=>k pe7
noncomputable def Vi (d:Nat) (f:α→α) (p:P8 α):P8 α:=e8 d fun u=>u f p
theorem zp (d:Nat) (k:((α→α)→P8 α→P8 α)→β):e8 d k=k (Vi d):=by
 rcases d with _ | _ | _ | _ | _ | _ | _ | d<;>rfl
theorem dg (d:Nat) (f:α→α) (p:P8 α):PQ d (Vi d f p)=f (PQ d p):=by
 rcases d with _ | _ | _ | _ | _ | _ | _ | d<;>rfl
theorem dR {d e:Nat} (hd:d<8) (he:e<8) (h:d≠e) (f:α→α) (p:P8 α):PQ e (Vi d f p)=PQ e p:=by
 rcases (show d=0∨d=1∨d=2∨d=3∨d=4∨d=5∨d=6∨d=7 by omega) with rfl | rfl | rfl | rfl | rfl | rfl | rfl | rfl<;>
 rcases (show e=0∨e=1∨e=2∨e=3∨e=4∨e=5∨e=6∨e=7 by omega) with rfl | rfl | rfl | rfl | rfl | rfl | rfl | rfl<;>
 first | rfl | exact absurd rfl h
theorem AK (d:Nat) (x:α):PQ d (P8.all x)=x:=by
 rcases d with _ | _ | _ | _ | _ | _ | _ | d<;>rfl
noncomputable def canon (n:Nat) (f:Nat→β):β:=Nat.rec (motive:=fun _=>β) (f 0) (fun m _=>f (Nat.succ m)) n
theorem kO (n:Nat) (f:Nat→β):canon n f=f n:=by cases n<;>rfl
end
abbrev H3:Type:=P8 (P8 (P8 (Option aR)))
abbrev HT:Type:=P8 (P8 (P8 H3))
structure Hi where
 get:HT→H3
 Vj:(H3→H3)→HT→HT
structure Lo where
 get:H3→Option aR
 Vj:Option aR→H3→H3
structure HP where
 get:HT→Option aR
 put:Option aR→HT→HT
noncomputable def Ob (q:Nat):Hi:=s8 (Nat.div q 64) fun g1=>s8 (Nat.mod (Nat.div q 8) 8) fun g2=>s8 (Nat.mod q 8) fun g3=>
 e8 (Nat.div q 64) fun u1=>e8 (Nat.mod (Nat.div q 8) 8) fun u2=>e8 (Nat.mod q 8) fun u3=>⟨fun t=>g3 (g2 (g1 t)),fun f t=>u1 (u2 (u3 f)) t⟩
noncomputable def PS (q:Nat):Lo:=s8 (Nat.div q 64) fun g1=>s8 (Nat.mod (Nat.div q 8) 8) fun g2=>s8 (Nat.mod q 8) fun g3=>
 e8 (Nat.div q 64) fun u1=>e8 (Nat.mod (Nat.div q 8) 8) fun u2=>e8 (Nat.mod q 8) fun u3=>⟨fun t=>g3 (g2 (g1 t)),fun o t=>u1 (u2 (u3 fun _=>o)) t⟩
noncomputable def af7 (a:Hi) (b:Lo):HP:=Hi.rec (motive:=fun _=>HP) (fun g u=>Lo.rec (motive:=fun _=>HP) (fun g' u'=>⟨fun t=>g' (g t),fun o t=>u (u' o) t⟩) b) a
noncomputable def hp (i:Nat):HP:=bif Nat.ble 262144 i then ⟨fun _=>none,fun _ t=>t⟩ else canon (Nat.div i 512) fun q=>canon (Nat.mod i 512) fun p=>af7 (Ob q) (PS p)
structure aw where
 t:HT
 nx:Nat
 f:Nat→Option aR
noncomputable def aw.get (h:aw) (i:Nat):Option aR:=bif Nat.ble 262144 i then h.f i else (hp i).get h.t
def J5 (f:Nat→Option aR) (i:Nat) (o:Option aR):Nat→Option aR:=fun j=>bif Nat.beq j i then o else f j
noncomputable def aw.put (h:aw) (i:Nat) (o:Option aR):aw:=⟨bif Nat.ble 262144 i then h.t else (hp i).put o h.t,h.nx,bif Nat.ble 262144 i then J5 h.f i o else h.f⟩
noncomputable def aw.new (h:aw) (o:aR):Option aw:=some ⟨bif Nat.ble 262144 h.nx then h.t else (hp h.nx).put (some o) h.t,h.nx+1,bif Nat.ble 262144 h.nx then J5 h.f h.nx (some o) else h.f⟩
def HT.nil:HT:=P8.all (P8.all (P8.all (P8.all (P8.all (P8.all none)))))
structure Env where
 P:Program
 G:Nat
 lX:FuncId→Option (List AV→Option AV)
 ij:FuncId→Option (List AV→aw→Option (AV×aw))
 bld:Option TypeId:=none
variable (E:Env)
def eh (ts:List AV):Operand→Option AV
 | .tmp t=>some (ts.getD t AV.undef)
 | .const v=>ofConst v
 | .global g=>if g<E.G then some (.ptr g 0) else none
 | .func f=>some (.func f [] [])
def bZ (t:TypeId):Option Nat:=(E.P.info? t).map (·.size)
def fm (t:TypeId):Option Nat:=if E.bld=some t then none else (E.P.info? t).map (·.bytes)
def ff (t:TypeId):Option AV:=match E.P.info? t with
 | some i=>match i.zero with
   | some z=>ofConst z
   | none=>none
 | none=>none
def eT (t:TypeId):Option Bool:=match E.P.underlying t with
 | some (.struct _)=>some true
 | some (.array _ _)=>some true
 | some _=>some false
 | none=>none
def eB (z:List AV):Nat→List AV
 | 0=> []
 | n+1=>z++eB z n
def gU (t:TypeId) (cs:List AV) (off:Nat):Option AV:=match eT E t with
 | some true=>match bZ E t with
   | some n=>if off+n≤cs.length then some (.agg ((cs.drop off).take n)) else none
   | none=>none
 | some false=>cs[off]?
 | none=>none
def cZ (op:BinOp) (k:IntKind) (a b:Int):Option AV:=match op with
 | .add=>some (.int k (k.wrap (a+b)))
 | .sub=>some (.int k (k.wrap (a - b)))
 | .mul=>some (.int k (k.wrap (a*b)))
 | .quo=>if b=0 then none else some (.int k (k.wrap (a.tdiv b)))
 | .rem=>if b=0 then none else some (.int k (a.tmod b))
 | .and=>some (.int k (k.wrap (BitVec.ofInt k.bits a&&& BitVec.ofInt k.bits b).toNat))
 | .or=>some (.int k (k.wrap (BitVec.ofInt k.bits a||| BitVec.ofInt k.bits b).toNat))
 | .xor=>some (.int k (k.wrap (BitVec.ofInt k.bits a^^^BitVec.ofInt k.bits b).toNat))
 | .andNot=>some (.int k (k.wrap (BitVec.ofInt k.bits a&&& ~~~ BitVec.ofInt k.bits b).toNat))
 | .eql=>some (.bool (a==b))
 | .neq=>some (.bool (a !=b))
 | .lss=>some (.bool (a<b))
 | .leq=>some (.bool (a≤b))
 | .gtr=>some (.bool (a>b))
 | .geq=>some (.bool (a≥b))
 | _=>none
def uU (op:BinOp) (a b:List UInt8):Option AV:=match op with
 | .add=>if a.length+b.length<1099511627776 then some (.str (a++b)) else none
 | .eql=>some (.bool (a==b))
 | .neq=>some (.bool !(a==b))
 | .lss=>some (.bool (Op.bytesLess a b))
 | .leq=>some (.bool (Op.bytesLess a b||a==b))
 | .gtr=>some (.bool !(Op.bytesLess a b||a==b))
 | .geq=>some (.bool !(Op.bytesLess a b))
 | _=>none
def Oc (t:TypeId) (a b:AV):Option Bool:=match E.P.underlying t with
 | some .bool=>match a,b with
   | .bool x,.bool y=>some (x==y)
   | _,_=>none
 | some (.pointer _)=>match a,b with
   | .fN,.fN=>some true
   | .fN,.ptr _ _=>some false
   | .ptr _ _,.fN=>some false
   | _,_=>none
 | some (.interface _)=>match a,b with
   | .nilIface,.nilIface=>some true
   | .nilIface,.iface _ _=>some false
   | .iface _ _,.nilIface=>some false
   | _,_=>none
 | some (.slice _)=>match a,b with
   | .aN,.aN=>some true
   | .aN,.slice .. =>some false
   | .slice ..,.aN=>some false
   | _,_=>none
 | some (.map _ _)=>match a,b with
   | .dP,.dP=>some true
   | .dP,.map _=>some false
   | .map _,.dP=>some false
   | _,_=>none
 | some (.func ..)=>match a,b with
   | .nilFunc,.nilFunc=>some true
   | .nilFunc,.func .. =>some false
   | .func ..,.nilFunc=>some false
   | _,_=>none
 | _=>none
def nC (eq:TypeId→AV→AV→Option Bool) (xs ys:List AV):List Field→Option Bool
 | []=>some true
 | f::fs=>if f.name= "_" then nC eq xs ys fs else match gU E f.type xs f.offset,gU E f.type ys f.offset with
   | some a,some b=>match eq f.type a b with
     | some true=>nC eq xs ys fs
     | some false=>some false
     | none=>none
   | _,_=>none
def ik:Nat→TypeId→AV→AV→Option Bool
 | 0,_,_,_=>none
 | n+1,t,a,b=>match a,b with
   | .int k x,.int j y=>match E.P.underlying t with
     | some (.int _)=>if k=j then some (x==y) else none
     | _=>none
   | .str x,.str y=>match E.P.underlying t with
     | some .string=>some (x==y)
     | _=>none
   | .agg xs,.agg ys=>match E.P.underlying t with
     | some (.struct fs)=>if E.P.stoodInHeld t=false then nC E (ik n) xs ys fs.toList else none
     | _=>none
   | a,b=>Oc E t a b
def isConst:Operand→Bool
 | .const _=>true
 | _=>false
def oZ (xc yc:Bool):AV→AV→Bool
 | .nilIface,.nilIface=>xc||yc
 | .agg _,.agg _=>false
 | .any,_=>false
 | _,.any=>false
 | _,_=>true
def jM (op:BinOp) (t:TypeId) (xc yc:Bool) (a b:AV):Option AV:=match op,a,b with
 | .shl,.int k x,.int _ y=>if y<0 then none else some (.int k (k.wrap (x*2^(min y.toNat k.bits))))
 | .shr,.int k x,.int _ y=>if y<0 then none else some (.int k (x.fdiv (2^(min y.toNat k.bits))))
 | op,.int k x,.int k' y=>if k=k' then cZ op k x y else none
 | op,.str x,.str y=>uU op x y
 | .eql,.agg xs,.agg ys=>if E.P.eqGuardType E.P.depth t then none else (match ik E 16 t (.agg xs) (.agg ys) with
   | some r=>some (.bool r)
   | none=>none)
 | .neq,.agg xs,.agg ys=>if E.P.eqGuardType E.P.depth t then none else (match ik E 16 t (.agg xs) (.agg ys) with
   | some r=>some (.bool !r)
   | none=>none)
 | .eql,x,y=>if oZ xc yc x y then (match Oc E t x y with
   | some r=>some (.bool r)
   | none=>none) else none
 | .neq,x,y=>if oZ xc yc x y then (match Oc E t x y with
   | some r=>some (.bool !r)
   | none=>none) else none
 | _,_,_=>none
def unA (op:UnOp) (x:AV):Option AV:=match op,x with
 | .neg,.int k n=>some (.int k (k.wrap (0 - n)))
 | .xor,.int k n=>some (.int k (k.wrap (BitVec.ofInt k.bits (if k.signed then -1 else k.max)^^^BitVec.ofInt k.bits n).toNat))
 | .not,.bool b=>some (.bool !b)
 | _,_=>none
def nL (x:AV) (y:Nat):Option Nat:=match x with
 | .int _ i=>if 0≤i∧i≤y then some i.toNat else none
 | _=>none
def kh (len cap:Nat) (low high max:Option AV):Option (Nat×Nat×Nat):=
 match (match max with | some v=>nL v cap | none=>some cap) with
 | none=>none
 | some m=>match (match high with | some v=>nL v m | none=>if max.isSome then none else some len) with
   | none=>none
   | some h=>match (match low with | some v=>nL v h | none=>some 0) with
     | none=>none
     | some l=>some (l,h,m)
def ml (ts:List AV):Option Operand→Option (Option AV)
 | none=>some none
 | some o=>match eh E ts o with
   | some v=>some (some v)
   | none=>none
def dx (t:TypeId) (x:AV) (low high max:Option AV):Option AV:=match E.P.underlying t,x with
 | some (.array n elem),.ptr i o=>match kh n n low high max,bZ E elem with
   | some (l,h,m),some size=>some (.slice i (if m=l then o else o+l*size) (h - l) (m - l) false)
   | _,_=>none
 | some .string,.str s=>match max,kh s.length s.length low high none with
   | none,some (l,h,_)=>some (.str ((s.drop l).take (h - l)))
   | _,_=>none
 | some (.slice elem),.aN=>match kh 0 0 low high max,bZ E elem with
   | some _,some _=>some .aN
   | _,_=>none
 | some (.slice elem),.slice i o len cap op=>
   if len≤cap then match kh len cap low high max,bZ E elem with
   | some (l,h,m),some size=>
     if m=l then (if op&&max.isNone then some .dQ else some (.slice i o (h - l) (m - l) false))
     else some (.slice i (o+l*size) (h - l) (m - l) (op&&max.isNone))
   | _,_=>none
   else none
 | _,_=>none
def mn (t:TypeId) (f:Nat):Option Field:=match E.P.underlying t with
 | some (.struct fs)=>fs[f]?
 | _=>none
def setFrom (cs:List AV) (off:Nat):List AV→List AV
 | []=>cs
 | v::vs=>setFrom (cs.set off v) (off+1) vs
def rp (place:Nat→Option (Nat×Nat)) (cs:List AV):List (Nat×AV)→Option (List AV)
 | []=>some cs
 | (i,v)::rest=>match place i with
   | none=>none
   | some (off,size)=>if v.cells.length=size∧off+size≤cs.length then rp place (setFrom cs off v.cells) rest else none
def jN (ts:List AV):List (Nat×Operand)→Option (List (Nat×AV))
 | []=>some []
 | (i,o)::rest=>match eh E ts o with
   | none=>none
   | some v=>match jN ts rest with
     | none=>none
     | some l=>some ((i,v)::l)
def placesOf (fs:List Field):Option (List (Nat×Nat)):=eF (fun f=>match bZ E f.type with | some n=>some (f.offset,n) | none=>none) fs
def E4 (t:TypeId) (parts:List (Nat×AV)):Option AV:=match ff E t with
 | none=>none
 | some z=>match E.P.underlying t with
   | some (.struct fs)=>match placesOf E fs.toList with
     | none=>none
     | some ps=>match rp (ps[·]?) z.cells parts with
       | some cs=>some (.agg cs)
       | none=>none
   | some (.array _ elem)=>match bZ E elem with
     | none=>none
     | some n=>match rp (fun i=>some (i*n,n)) z.cells parts with
       | some cs=>some (.agg cs)
       | none=>none
   | _=>none
def J6:AV→List AV→Option AV
 | .int k x,[]=>some (.int k x)
 | .int k x,.int _ y::rest=>J6 (.int k (if y>x then y else x)) rest
 | _,_=>none
def J7:AV→List AV→Option AV
 | .int k x,[]=>some (.int k x)
 | .int k x,.int _ y::rest=>J7 (.int k (if y<x then y else x)) rest
 | _,_=>none
def fI (ts:List AV) (l:List Operand):Option (List AV):=eF (eh E ts) l
def Mu (n:Int):Option AV:=if 0≤n∧n<128 then some (.str [UInt8.ofNat n.toNat]) else none
def bF (ts:List AV):Op→Option AV
 | .move x=>eh E ts x
 | .assign x=>eh E ts x
 | .pick c a b=>match eh E ts c with
   | some (.bool true)=>eh E ts a
   | some (.bool false)=>eh E ts b
   | _=>none
 | .build t parts=>match jN E ts parts.toList with
   | some ps=>E4 E t ps
   | none=>none
 | .nilCheck x=>match eh E ts x with
   | some (.ptr i o)=>some (.ptr i o)
   | some (.map i)=>some (.map i)
   | some (.slice i o l c b)=>some (.slice i o l c b)
   | some (.func f a b)=>some (.func f a b)
   | _=>none
 | .binOp op t x y _=>match eh E ts x,eh E ts y with
   | some a,some b=>jM E op t (isConst x) (isConst y) a b
   | _,_=>none
 | .unOp op _ x=>match eh E ts x with
   | some a=>unA op a
   | none=>none
 | .convert src dst x=>match E.P.underlying src,E.P.underlying dst,eh E ts x with
   | some _,some (.int k),some (.int _ n)=>some (.int k (k.wrap n))
   | some _,some .string,some (.str s)=>some (.str s)
   | some _,some .string,some (.int _ n)=>Mu n
   | _,_,_=>none
 | .makeInterface t x=>match E.P.underlying t,eh E ts x with
   | some (.interface _),_=>none
   | some _,some v=>some (.iface t v)
   | _,_=>none
 | .makeFunc (.func f) first captured=>match fI E ts first.toList,fI E ts captured.toList with
   | some a,some b=>some (.func f a b)
   | _,_=>none
 | .slice t x lo hi mx=>match eh E ts x,ml E ts lo,ml E ts hi,ml E ts mx with
   | some v,some l,some h,some m=>dx E t v l h m
   | _,_,_,_=>none
 | .fieldAddr s x f=>match mn E s f,eh E ts x with
   | some fd,some (.ptr i o)=>match bZ E fd.type with
     | some n=>if n=0 then none else some (.ptr i (o+fd.offset))
     | none=>none
   | _,_=>none
 | .field s x f=>match mn E s f,eh E ts x with
   | some fd,some (.agg cs)=>gU E fd.type cs fd.offset
   | _,_=>none
 | .indexAddr t x ix=>match E.P.underlying t,eh E ts x,eh E ts ix with
   | some (.array len elem),some (.ptr i o),some (.int _ n)=>match bZ E elem with
     | some size=>if 0≤n∧n<len then some (.ptr i (o+n.toNat*size)) else none
     | none=>none
   | some (.slice elem),some (.slice i o len _ _),some (.int _ n)=>match bZ E elem with
     | some size=>if 0≤n∧n<len then some (.ptr i (o+n.toNat*size)) else none
     | none=>none
   | _,_,_=>none
 | .index t x ix=>match E.P.underlying t,eh E ts x,eh E ts ix with
   | some (.array len elem),some (.agg cs),some (.int _ n)=>match bZ E elem with
     | some size=>if 0≤n∧n<len then gU E elem cs (n.toNat*size) else none
     | none=>none
   | some .string,some (.str s),some (.int _ n)=>if 0≤n then (match s[n.toNat]? with | some b=>some (.int .u8 b.toNat) | none=>none) else none
   | _,_,_=>none
 | .extract x i=>match eh E ts x with
   | some (.tuple vs)=>vs[i]?
   | _=>none
 | .typeAssert x _ asserted gG=>match E.P.underlying asserted,eh E ts x with
   | some (.interface _),_=>none
   | some _,some (.iface t v)=>
     if t=asserted then some (if gG then .tuple [v,.bool true] else v)
     else if gG then (match ff E asserted with | some z=>some (.tuple [z,.bool false]) | none=>none) else none
   | some _,some .nilIface=>if gG then (match ff E asserted with | some z=>some (.tuple [z,.bool false]) | none=>none) else none
   | _,_=>none
 | .call {callee:= .builtin .len,args,argTypes}=>match argTypes[0]?,fI E ts args.toList with
   | some t,some [v]=>match E.P.underlying t,v with
     | some .string,.str s=>some (.int .i64 s.length)
     | some (.array n _),_=>some (.int .i64 n)
     | some (.slice _),.aN=>some (.int .i64 0)
     | some (.slice _),.slice _ _ n _ _=>some (.int .i64 n)
     | some (.slice _),.dQ=>some (.int .i64 0)
     | some (.map _ _),.dP=>some (.int .i64 0)
     | _,_=>none
   | _,_=>none
 | .call {callee:= .builtin .cap,args,argTypes}=>match argTypes[0]?,fI E ts args.toList with
   | some t,some [v]=>match E.P.underlying t,v with
     | some (.array n _),_=>some (.int .i64 n)
     | some (.slice _),.aN=>some (.int .i64 0)
     | some (.slice _),.slice _ _ _ c false=>some (.int .i64 c)
     | _,_=>none
   | _,_=>none
 | .call {callee:= .builtin .max,args,..}=>match fI E ts args.toList with
   | some (x::rest)=>J6 x rest
   | _=>none
 | .call {callee:= .builtin .min,args,..}=>match fI E ts args.toList with
   | some (x::rest)=>J7 x rest
   | _=>none
 | .call {callee:= .value (.func f),args,..}=>match E.lX f,fI E ts args.toList with
   | some e,some vs=>e vs
   | _,_=>none
 | _=>none
noncomputable def bE (h:aw) (t:TypeId) (a:AV):Option AV:=match a with
 | .ptr i o=>match h.get i with
   | some (.cells cs _ _)=>gU E t cs o
   | _=>none
 | _=>none
def DH:AV→AV→Option Bool
 | .str a,.str b=>some (a==b)
 | .int k a,.int k' b=>if k=k' then some (a==b) else none
 | .bool a,.bool b=>some (a==b)
 | _,_=>none
def im (d:Option TypeDesc) (k:AV):Bool:=match d,k with
 | some .string,.str _=>true
 | some (.int _),.int _ _=>true
 | some .bool,.bool _=>true
 | _,_=>false
def nM:List AV→List AV→Bool
 | [],[]=>true
 | .int k a::xs,.int j b::ys=>decide (k=j)&&decide (a=b)&&nM xs ys
 | .str a::xs,.str b::ys=>(a==b)&&nM xs ys
 | _,_=>false
def jt (d:Option TypeDesc) (k:AV):Bool:=match d,k with
 | some (.struct fs),.agg xs=>fs.toList.all fun f=>match E.P.underlying f.type,gU E f.type xs f.offset with
   | some (.int _),some (.int _ _)=>true
   | some .string,some (.str _)=>true
   | _,_=>false
 | _,_=>false
def findD (key:TypeId) (k:AV):List gO→Nat→Option (Option (Nat×AV))
 | [],_=>some none
 | e::es,i=>match ik E 16 key k e.key with
   | some true=>(match k,e.key with | .agg xs,.agg ys=>if nM xs ys then some (some (i,e.val)) else none | _,_=>none)
   | some false=>findD key k es (i+1)
   | none=>none
def rQ (k:AV):List gO→Nat→Option (Option (Nat×AV))
 | [],_=>some none
 | e::es,i=>match DH k e.key with
   | some true=>some (some (i,e.val))
   | some false=>rQ k es (i+1)
   | none=>none
noncomputable def E5 (h:aw) (i o n:Nat):Option (List UInt8):=match h.get i with
 | some (.cells cs _ _)=>if o+n≤cs.length then
  eF (fun | .int .u8 b=>some (UInt8.ofNat b.toNat) | _=>none) ((cs.drop o).take n) else none
 | _=>none
noncomputable def dS (ts:List AV) (h:aw):Op→Option AV
 | .load t a=>match eh E ts a with
   | some v=>bE E h t v
   | none=>none
 | .convert src dst x=>match E.P.underlying src,E.P.underlying dst,eh E ts x with
   | some (.slice e),some .string,some v=>match E.P.underlying e,v with
     | some (.int .u8),.aN=>some (.str [])
     | some (.int .u8),.slice i o len _ _=>match E5 h i o len with
       | some l=>some (.str l)
       | none=>none
     | _,_=>none
   | _,_,_=>none
 | .lookup t x ix gG=>match E.P.underlying t,eh E ts x,eh E ts ix with
   | some (.map key elem),some m,some k=>
     if im (E.P.underlying key) k then
      match (match m with | .dP=>some [] | .map i=>(match h.get i with | some (.map es _)=>some es | _=>none) | _=>none) with
      | none=>none
      | some es=>match rQ k es 0 with
        | none=>none
        | some (some (_,v))=>some (if gG then .tuple [v,.bool true] else v)
        | some none=>match ff E elem with
          | some z=>some (if gG then .tuple [z,.bool false] else z)
          | none=>none
     else if jt E (E.P.underlying key) k then
      match (match m with | .dP=>some [] | .map i=>(match h.get i with | some (.map es _)=>some es | _=>none) | _=>none) with
      | none=>none
      | some es=>match findD E key k es 0 with
        | none=>none
        | some (some (_,v))=>some (if gG then .tuple [v,.bool true] else v)
        | some none=>match ff E elem with
          | some z=>some (if gG then .tuple [z,.bool false] else z)
          | none=>none
     else none
   | _,_,_=>none
 | .call {callee:= .builtin .len,args,argTypes}=>match argTypes[0]?,fI E ts args.toList with
   | some t,some [.map i]=>match E.P.underlying t,h.get i with
     | some (.map _ _),some (.map es _)=>some (.int .i64 es.length)
     | _,_=>none
   | _,_=>none
 | _=>none
def et (ts:List AV):Op→Option (aR×(Nat→AV))
 | .alloc t=>match ff E t with
   | some z=>some (.cells z.cells t false,fun i=> .ptr i 0)
   | none=>none
 | .box t x=>match eh E ts x with
   | some v=>some (.cells v.cells t false,fun i=> .ptr i 0)
   | none=>none
 | .buildSlice t len parts=>match E.P.underlying t with
   | some (.slice elem)=>match bZ E elem,ff E elem,jN E ts parts.toList with
     | some n,some z,some ps=>if z.cells.length=n∧len*n≤2^24 then
      match rp (fun i=>some (i*n,n)) (eB z.cells len) ps with
      | some cs=>some (.cells cs elem false,fun i=> .slice i 0 len len false)
      | none=>none
       else none
     | _,_,_=>none
   | _=>none
 | .makeSlice t l c=>match E.P.underlying t,eh E ts l,eh E ts c with
   | some (.slice elem),some (.int _ len),some (.int _ cap)=>match bZ E elem,fm E elem,ff E elem with
     | some n,some bytes,some z=>
       if 0≤len∧len≤cap∧cap<2^30∧(bytes:Int)*cap≤2^47∧z.cells.length=n then
        some (.cells (eB z.cells cap.toNat) elem false,fun i=> .slice i 0 len.toNat cap.toNat false)
       else none
     | _,_,_=>none
   | _,_,_=>none
 | .makeMap t r=>match r with
   | none=>some (.map [] 0,fun i=> .map i)
   | some o=>match E.P.underlying t,eh E ts o with
     | some (.map _ _),some (.int _ _)=>some (.map [] 0,fun i=> .map i)
     | _,_=>none
 | .range t x=>match E.P.underlying t,eh E ts x with
   | some .string,some (.str s)=>some (.uw s 0,fun i=> .ptr i 0)
   | some (.map _ _),some .dP=>some (.A2 none 0 [] 0,fun i=> .ptr i 0)
   | _,_=>none
 | _=>none
noncomputable def eG (h:aw) (t:TypeId) (a v:AV):Option aw:=match a with
 | .ptr i o=>match h.get i,bZ E t with
   | some (.cells cs e false),some n=>if v.cells.length=n∧o+n≤cs.length∧v.cells.all AV.scalar=true then some (h.put i (some (.cells (setFrom cs o v.cells) e false))) else none
   | _,_=>none
 | _=>none
def kM:AV→Option Nat
 | .aN=>some 0
 | .slice _ _ n _ _=>some n
 | .str s=>some s.length
 | .dQ=>some 0
 | _=>none
noncomputable def eU (h:aw) (size n:Nat):AV→Option (List AV)
 | .aN=>if n=0 then some [] else none
 | .dQ=>if n=0 then some [] else none
 | .slice i o len _ _=>if n≤len then (if n=0 then some [] else match h.get i with
  | some (.cells cs _ _)=>if o+n*size≤cs.length then some ((cs.drop o).take (n*size)) else none
  | _=>none) else none
 | .str s=>if size=1 then some ((s.take n).map fun b=> .int .u8 b.toNat) else none
 | _=>none
def ks:TypeDesc→Bool
 | .int _=>true
 | _=>false
noncomputable def rR (h:aw) (elem:TypeId) (s x:AV):Option (AV×aw):=match s,x,bZ E elem,fm E elem,ff E elem with
 | .aN,.int _ k,some size,some bytes,some z=>
   if 0<k∧0<size∧(4*k.toNat+4096)*(bytes+1)≤1099511627776∧z.cells.length=size then
    match h.new (.cells (eB z.cells k.toNat) elem false) with
    | some h'=>some (.slice h.nx 0 k.toNat k.toNat true,h')
    | none=>none
   else none
 | _,_,_,_,_=>none
noncomputable def bR (h:aw) (argTypes:Array TypeId) (s x:AV):Option (AV×aw):=match argTypes[0]?,argTypes[1]? with
 | some sT,some xT=>match E.P.underlying sT,E.P.underlying xT with
   | some (.slice elem),some xd=>if ks xd then rR E h elem s x else match bZ E elem,fm E elem,kM x with
     | some size,some bytes,some n=>match eU h size n x,ff E elem with
       | some new,some z=>if z.cells.length=size∧new.all AV.scalar=true∧new.length=n*size then
         match s with
         | .aN=>if n=0 then some (.aN,h) else if (4*n+4096)*(bytes+1)≤1099511627776 then
          (match h.new (.cells new elem false) with
          | some h'=>some (.slice h.nx 0 n n true,h')
          | none=>none) else none
         | .slice i o len cap op=>match h.get i with
           | some (.cells cs e false)=>
             if len+n≤cap then
              if o+(len+n)*size≤cs.length then some (.slice i o (len+n) cap op,h.put i (some (.cells (setFrom cs (o+len*size) new) e false))) else none
             else if (4*(len+n)+4096)*(bytes+1)≤1099511627776∧o+len*size≤cs.length∧(op=true→e=elem∧o+cap*size=cs.length∧o=0) then
              match (if op then h.put i none else h).new (.cells ((cs.drop o).take (len*size)++new) elem false) with
              | some h'=>some (.slice h.nx 0 (len+n) (len+n) true,h')
              | none=>none
             else none
           | _=>none
         | _=>none else none
       | _,_=>none
     | _,_,_=>none
   | _,_=>none
 | _,_=>none
noncomputable def uy (h:aw) (argTypes:Array TypeId) (d s:AV):Option (AV×aw):=match argTypes[0]? with
 | some dT=>match E.P.underlying dT,kM s with
   | some (.slice elem),some m=>match bZ E elem,d with
     | some _,.aN=>some (.int .i64 0,h)
     | some size,.slice i o len _ _=>match eU h size (min m len) s,h.get i with
       | some new,some (.cells cs e false)=>if o+new.length≤cs.length∧new.all AV.scalar=true then some (.int .i64 (min m len:Nat),h.put i (some (.cells (setFrom cs o new) e false))) else none
       | _,_=>none
     | _,_=>none
   | _,_=>none
 | none=>none
def dU (es:List gO) (i:Nat) (v:AV):List gO:=match es,i with
 | [],_=> []
 | e::es,0=>{e with val:=v}::es
 | e::es,i+1=>e::dU es i v
noncomputable def eK (h:aw) (t:TypeId) (m k v:AV):Option aw:=match E.P.underlying t,m with
 | some (.map key _),.map i=>match h.get i with
   | some (.map es clock)=>if im (E.P.underlying key) k then
    match rQ k es 0 with
    | some (some (j,_))=>some (h.put i (some (.map (dU es j v) clock)))
    | some none=>some (h.put i (some (.map (es++[{key:=k,val:=v,born:=clock}]) (clock+1))))
    | none=>none
     else if jt E (E.P.underlying key) k then
      match findD E key k es 0 with
      | some (some (j,_))=>some (h.put i (some (.map (dU es j v) clock)))
      | some none=>some (h.put i (some (.map (es++[{key:=k,val:=v,born:=clock}]) (clock+1))))
      | none=>none
     else none
   | _=>none
 | _,_=>none
noncomputable def yi (h:aw) (t:TypeId) (m k:AV):Option (AV×aw):=match E.P.underlying t,m with
 | some (.map key elem),.map i=>match h.get i with
   | some (.map es clock)=>if jt E (E.P.underlying key) k then
    match findD E key k es 0 with
    | some (some (j,v))=>(match es[j]? with
      | some e=>some (.tuple [v,.int .i64 e.born],h.put i (some (.map es clock)))
      | none=>none)
    | some none=>(match ff E elem with
      | some z=>some (.tuple [z,.int .i64 clock],h.put i (some (.map (es++[{key:=k,val:=z,born:=clock}]) (clock+1))))
      | none=>none)
    | none=>none
     else none
   | _=>none
 | _,_=>none
noncomputable def rT (h:aw) (m s x:AV):Option aw:=match m,s with
 | .map i,.int _ n=>match h.get i with
   | some (.map es clock)=>match es.findIdx? (fun e=>(e.born:Int)==n) with
     | some j=>some (h.put i (some (.map (dU es j x) clock)))
     | none=>none
   | _=>none
 | _,_=>none
noncomputable def DI (h:aw) (it:AV) (isString:Bool):Option (AV×aw):=match it with
 | .ptr r 0=>match h.get r,isString with
   | some (.uw s pos),true=>
     if pos<s.length then
      match s[pos]? with
      | some b=>if b.toNat<128 then some (.tuple [.bool true,.int .i64 pos,.int .i32 b.toNat],h.put r (some (.uw s (pos+1)))) else none
      | none=>none
     else some (.tuple [.bool false],h)
   | some (.A2 none _ _ _),false=>some (.tuple [.bool false],h)
   | _,_=>none
 | _=>none
noncomputable def DJ (h:aw) (src dst:TypeId) (x:Option AV):Option (AV×aw):=match E.P.underlying src,E.P.underlying dst,x with
 | some .string,some (.slice e),some (.str s)=>match E.P.underlying e,h.new (.cells (s.map fun b=> .int .u8 b.toNat) e false) with
   | some (.int .u8),some h'=>if bZ E e=some 1 then some (.slice h.nx 0 s.length s.length true,h') else none
   | _,_=>none
 | _,_,_=>none
inductive pw where
 | call (f:FuncId) (args:List AV)
 | Db (r:Nat)
inductive Fn where
 | fn (f:FuncId)
 | uV (l:Nat)
inductive h_ where
 | normal
 | exit (id:Nat)
 | ret
 | panic (v:AV)
inductive RC where
 | no
 | gV (v:AV)
 | done
 | rN (l:Nat)
structure St where
 ts:List AV
 h:aw
 ds:List pw
 rc:RC
inductive Out where
 | ok (e:h_) (s:St)
 | fail (why:String) (o:Option Oper)
inductive iQ where
 | ret (v:AV) (h:aw)
 | panic (v:AV) (h:aw)
 | fail (why:String) (o:Option Oper)
abbrev bj:=Fn→List AV→aw→iQ
inductive yj where
 | val (v:AV) (h:aw)
 | defer (d:pw)
 | rq (v:AV)
 | panic (v:AV) (h:aw)
 | fail (why:String) (o:Option Oper)
def callee (ts:List AV) (c:Call):Option (Fn×List AV):=match c.callee with
 | .value f=>match eh E ts f,fI E ts c.args.toList with
   | some (.func g first captured),some args=>some (.fn g,first++args++captured)
   | some (.cO l),some args=>some (.uV l,args)
   | _,_=>none
 | _=>none
def vX (t:TypeId) (name:String):Option FuncId:=match E.P.info? t with
 | some i=>match i.methods.find? (·.name==name) with
   | some m=>if m.path.isEmpty then match m.func,E.P.underlying t with
     | _,some (.pointer _)=>none
     | some (f,false),some _=>some f
     | _,_=>none
     else none
   | none=>none
 | none=>none
def ju:Fn→Option (List AV→aw→Option (AV×aw))
 | .fn f=>E.ij f
 | .uV _=>none
noncomputable def dm (call:bj) (ts:List AV) (h:aw) (rc:RC) (o:Oper):yj:=
 let v (r:Option (AV×aw)):yj:=match r with
  | some (x,h')=> .val x h'
  | none=> .fail "eff" (some o)
 match o.op with
 | .store t a x=>match eh E ts a,eh E ts x with
   | some av,some xv=>match eG E h t av xv with
     | some h'=> .val AV.undef h'
     | none=> .fail "store" (some o)
   | _,_=> .fail "store ops" (some o)
 | .mapUpdate t m k x=>match eh E ts m,eh E ts k,eh E ts x with
   | some mv,some kv,some xv=>match eK E h t mv kv xv with
     | some h'=> .val AV.undef h'
     | none=> .fail "mapUpdate" (some o)
   | _,_,_=> .fail "mapUpdate ops" (some o)
 | .insert t m k x=>match eh E ts m,eh E ts k,eh E ts x with
   | some mv,some kv,some xv=>match eK E h t mv kv xv with
     | some h'=> .val AV.undef h'
     | none=> .fail "insert" (some o)
   | _,_,_=> .fail "insert ops" (some o)
 | .mapEntry t m k=>match eh E ts m,eh E ts k with
   | some mv,some kv=>v (yi E h t mv kv)
   | _,_=> .fail "mapEntry ops" (some o)
 | .entryStore _ m b x=>match eh E ts m,eh E ts b,eh E ts x with
   | some mv,some bv,some xv=>match rT h mv bv xv with
     | some h'=> .val AV.undef h'
     | none=> .fail "entryStore" (some o)
   | _,_,_=> .fail "entryStore ops" (some o)
 | .convert src dst x=>v (DJ E h src dst (eh E ts x))
 | .next it isString=>match eh E ts it with
   | some i=>v (DI h i isString)
   | none=> .fail "next" (some o)
 | .panic x=>match eh E ts x with
   | some (.iface t w)=> .panic (.iface t w) h
   | _=> .fail "panic" (some o)
 | .defer c=>match rc,callee E ts c with
   | .rN _,_=> .fail "defer in a round" (some o)
   | _,some (.fn f,args)=> .defer (.call f args)
   | _,_=> .fail "defer" (some o)
 | .call c=>match c.callee with
   | .builtin .append=>match fI E ts c.args.toList with
     | some [s,x]=>v (bR E h c.argTypes s x)
     | _=> .fail "append" (some o)
   | .builtin .copy=>match fI E ts c.args.toList with
     | some [s,x]=>v (uy E h c.argTypes s x)
     | _=> .fail "copy" (some o)
   | .builtin .recover=>match rc with
     | .gV x=> .rq x
     | .rN _=> .fail "recover in a round" (some o)
     | _=> .val .nilIface h
   | .value _=>match callee E ts c with
     | some (f,args)=>match ju E f with
      | some g=>v (g args h)
      | none=>match call f args h with
       | .ret x h'=> .val x h'
       | .panic x h'=> .panic x h'
       | .fail why q=> .fail why q
     | none=> .fail "callee" (some o)
   | .invoke r name=>match eh E ts r,fI E ts c.args.toList with
     | some (.iface t x),some args=>match vX E t name with
       | some f=>match call (.fn f) (x::args) h with
         | .ret x h'=> .val x h'
         | .panic x h'=> .panic x h'
         | .fail why q=> .fail why q
       | none=> .fail "method" (some o)
     | _,_=> .fail "invoke" (some o)
   | _=> .fail "call" (some o)
 | _=> .fail "op" (some o)
def dJ (ts:List AV) (d:Option Tmp) (v:AV):List AV:=match d with
 | some i=>ts.set i v
 | none=>ts
def cz (ops:Array Oper) (ts:List AV) (o:Oper):Bool:=match o.guard with
 | none=>true
 | some (j,want)=>match (ops[j]?).bind (·.dst) with
   | some d=>match ts[d]? with
     | some (.bool b)=>b==want
     | _=>false
   | none=>false
noncomputable def E6 (call:bj) (s:St) (o:Oper):Out:=
 match bF E s.ts o.op with
 | some v=> .ok .normal {s with ts:=dJ s.ts o.dst v}
 | none=>match dS E s.ts s.h o.op with
   | some v=> .ok .normal {s with ts:=dJ s.ts o.dst v}
   | none=>match et E s.ts o.op with
     | some (obj,mk)=>match s.h.new obj with
       | some h'=> .ok .normal {s with ts:=dJ s.ts o.dst (mk s.h.nx),h:=h'}
       | none=> .fail "full" (some o)
     | none=>match dm E call s.ts s.h s.rc o with
       | .val v h'=> .ok .normal {s with ts:=dJ s.ts o.dst v,h:=h'}
       | .defer d=> .ok .normal {s with ts:=dJ s.ts o.dst AV.undef,ds:=d::s.ds}
       | .rq v=> .ok .normal {s with ts:=dJ s.ts o.dst v,rc:= .done}
       | .panic v h'=> .ok (.panic v) {s with h:=h'}
       | .fail why q=> .fail why q
noncomputable def jO (call:bj) (ops:Array Oper):List Oper→St→Out
 | [],s=> .ok .normal s
 | o::rest,s=>
   if cz ops s.ts o then match E6 E call s o with
    | .ok .normal s'=>jO call ops rest s'
    | r=>r
   else jO call ops rest {s with ts:=dJ s.ts o.dst AV.undef}
def fj:Op→Bool
 | .store .. | .mapUpdate .. | .insert .. | .mapEntry .. | .entryStore .. | .next .. | .panic _ | .defer _=>true
 | .convert _ dst _=>match E.P.underlying dst with
   | some (.slice _)=>true
   | _=>false
 | .call c=>match c.callee with
   | .builtin .len | .builtin .cap | .builtin .max | .builtin .min=>false
   | .builtin _=>true
   | .value (.func f)=>(E.lX f).isNone
   | _=>true
 | _=>false
def kl (o:Oper):List Nat:=(o.after.toList.filter (Region.binds .any)).map (·.on)
def Hp:List Oper→List (List Nat)→List (List Nat)
 | [],acc=>acc
 | o::rest,acc=>Hp rest (acc++[(kl o).foldl (fun l e=>(acc.getD e []).foldl (fun l x=>if l.contains x then l else x::l) (if l.contains e then l else e::l)) []])
def Hq (an:List (List Nat)) (i:Nat):List Nat:=an.getD i []
def dD (an:List (List Nat)) (i j:Nat):Bool:=(Hq an i).contains j
def tmpsOf (o:Oper):List Tmp:=o.op.operands.toList.filterMap fun | .tmp t=>some t | _=>none
def AL (ops:List Oper) (an:List (List Nat)):Bool:=
 ops.zipIdx.all fun (o,i)=>
  (kl o).all (fun e=>decide (e<i)&&dD an i e)&&
  (Hq an i).all (fun j=>decide (j<i)&&(kl o).any fun e=>e==j||dD an e j)
def AM (ops:List Oper) (an:List (List Nat)):Bool:=
 ops.zipIdx.all fun (o,i)=>
  (match o.guard with
   | none=>true
   | some (g,_)=>dD an i g&&((ops[g]?).bind (·.dst)).isSome)&&
  (ops.zipIdx.all fun (p,j)=>i==j||match p.dst with
   | none=>true
   | some d=>o.dst !=some d&&(!(tmpsOf o).contains d||dD an i j||dD an j i))
def tC (an:List (List Nat)):List Nat→Bool
 | e::f::rest=>dD an f e&&tC an (f::rest)
 | _=>true
def mS (ops:List Oper):List Nat:=(ops.zipIdx.filter fun (o,_)=>fj E o.op).map (·.2)
def E7 (bP:List Nat) (an:List (List Nat)) (i:Nat):Nat:=(bP.filter fun e=>dD an i e).length
def group (ops:List Oper) (bP:List Nat) (an:List (List Nat)) (k:Nat):List Nat:=
 ((ops.zipIdx.filter fun (o,i)=> !fj E o.op&&E7 bP an i==k).map (·.2))++(bP[k]?).toList
def nN (ops:List Oper) (bP:List Nat) (an:List (List Nat)):Nat→Nat→List Nat
 | 0,_=> []
 | n+1,k=>group E ops bP an k++nN ops bP an n (k+1)
def jP (bP:List Nat) (an:List (List Nat)) (i:Nat):Nat:=(bP.takeWhile fun e=> !dD an e i).length
structure lL where
 an:List (List Nat)
 bP:List Nat
 order:List Nat
def km (ops:Array Oper) (an:List (List Nat)) (bP:List Nat):List Nat→List Nat→Nat→Bool
 | [],seen,k=>(List.range ops.size).all (fun i=>seen.contains i)&&k==bP.length
 | i::rest,seen,k=>decide (i<ops.size)&& !seen.contains i&&(Hq an i).all (fun j=>seen.contains j)&&
   (if fj E ((ops.getD i default).op) then bP[k]? ==some i&&km ops an bP rest (i::seen) (k+1)
    else E7 bP an i==k&&km ops an bP rest (i::seen) k)
def nodup:List Nat→Bool
 | []=>true
 | x::xs=> !xs.contains x&&nodup xs
def rU (ops:Array Oper):Option lL:=
 let l:=ops.toList
 let an:=Hp l []
 let bP:=mS E l
 let order:=nN E l bP an (bP.length+1) 0
 if AL l an&&AM l an&&tC an bP&&nodup bP&&km E ops an bP order [] 0 then some ⟨an,bP,order⟩ else none
inductive TK where
 | off
 | gD
 | red
 | rV (n:Nat) (obj:aR)
 | ub (h':aw)
structure Step where
 i:Nat
 k:Nat
 ts:List AV
 v:AV
 kind:TK
inductive jv where
 | ok (tr:List Step) (hs:List aw) (s:St)
 | fail (why:String) (o:Option Oper)
def jv.step (x:Step):jv→jv
 | .ok tr hs s=> .ok (x::tr) hs s
 | r=>r
def jv.bound (h:aw):jv→jv
 | .ok tr hs s=> .ok tr (h::hs) s
 | r=>r
noncomputable def cR (call:bj) (ops:Array Oper):List Nat→Nat→St→jv
 | [],_,s=> .ok [] [s.h] s
 | i::rest,k,s=>match ops[i]? with
   | none=> .fail "order" none
   | some o=>
     if fj E o.op then
      if cz ops s.ts o then match dm E call s.ts s.h s.rc o with
       | .val v h'=>((cR call ops rest (k+1) {s with ts:=dJ s.ts o.dst v,h:=h'}).bound s.h).step ⟨i,k,s.ts,v,.ub h'⟩
       | .fail why q=> .fail why q
       | _=> .fail "draw" (some o)
      else ((cR call ops rest (k+1) {s with ts:=dJ s.ts o.dst AV.undef}).bound s.h).step ⟨i,k,s.ts,AV.undef,.off⟩
     else if cz ops s.ts o then match bF E s.ts o.op with
      | some v=>(cR call ops rest k {s with ts:=dJ s.ts o.dst v}).step ⟨i,k,s.ts,v,.gD⟩
      | none=>match dS E s.ts s.h o.op with
        | some v=>(cR call ops rest k {s with ts:=dJ s.ts o.dst v}).step ⟨i,k,s.ts,v,.red⟩
        | none=>match et E s.ts o.op with
          | some (obj,mk)=>match s.h.new obj with
            | some h'=>(cR call ops rest k {s with ts:=dJ s.ts o.dst (mk s.h.nx),h:=h'}).step ⟨i,k,s.ts,mk s.h.nx,.rV s.h.nx obj⟩
            | none=> .fail "full" (some o)
          | none=> .fail "neither" (some o)
     else (cR call ops rest k {s with ts:=dJ s.ts o.dst AV.undef}).step ⟨i,k,s.ts,AV.undef,.off⟩
def aR.same:aR→aR→Bool
 | .cells a e r,.cells b f q=>cM (AV.same 20) a b&&e==f&&r==q
 | .map [] c,.map [] d=>c==d
 | .uw s p,.uw t q=>s==t&&p==q
 | _,_=>false
noncomputable def iY (ops:Array Oper) (x:Step) (h:aw):Bool:=match x.kind with
 | .red=>match dS E x.ts h (ops.getD x.i default).op with
   | some v=>AV.same 20 v x.v
   | none=>false
 | .rV n obj=>match h.get n with
   | some o=>aR.same o obj
   | none=>false
 | _=>true
def qp (tr:List Step):List Nat:=tr.filterMap fun x=>match x.kind with | .rV n _=>some n | _=>none
noncomputable def qq (ops:Array Oper) (pl:lL) (tr:List Step) (hs:List aw):Bool:=
 nodup (qp tr)&&tr.all fun x=>((hs.drop x.k).take (jP pl.bP pl.an x.i+1 - x.k)).all (iY E ops x)
noncomputable def A3 (call:bj) (ops:Array Oper) (s:St) (pl:lL):Option (AV×St):=match pl.order.reverse with
 | []=>none
 | i::front=>match cR E call ops front.reverse 0 s,ops[i]? with
   | .ok tr hs s1,some ⟨dst,.call c,ty,pos,after,guard⟩=>
     if fj E (.call c)&&cz ops s1.ts ⟨dst,.call c,ty,pos,after,guard⟩&&(List.range ops.size).all (fun j=>j==i||dD pl.an i j) then
      match dm E call s1.ts s1.h s1.rc ⟨dst,.call c,ty,pos,after,guard⟩ with
      | .panic v h'=>if qq E ops pl (tr++[⟨i,hs.length - 1,s1.ts,AV.undef,.ub h'⟩]) (hs++[h']) then some (v,{s1 with h:=h'}) else none
      | _=>none
     else none
   | _,_=>none
noncomputable def vY (call:bj) (ops:Array Oper) (s:St):Out:=match rU E ops with
 | none=> .fail "plan" (ops[0]?)
 | some pl=>match cR E call ops pl.order 0 s with
   | .ok tr hs s'=>if qq E ops pl tr hs then .ok .normal s' else .fail "still" (ops[0]?)
   | .fail why o=>match A3 E call ops s pl with
     | some (v,s2)=> .ok (.panic v) s2
     | none=> .fail why o
noncomputable def Mv (s:St):Option (Nat×aw×List pw):=match s.rc with
 | .rN l=>match s.h.get l with
   | some (.loop _ _ _ _ _ _ dn)=>some (dn,s.h,s.ds)
   | _=>none
 | _=>match s.h.new .uT with
   | some h1=>some (s.h.nx,h1,.Db s.h.nx::s.ds)
   | none=>none
def Hr:Option Code→Option h_
 | none=>some .normal
 | some (.exit id)=>some (.exit id)
 | some .ret=>some .ret
 | _=>none
noncomputable def kP (call:bj) (f:Operand) (ps:Array Tmp) (as_ bd:Code) (s:St):Out:=match eh E s.ts f with
 | some (.func g first captured)=>match Mv s with
   | some (dn,h1,ZC)=>match h1.new (.loop .ready none s.ts ps.toList as_ bd dn) with
     | some h2=>match call (.fn g) (first++[.cO h1.nx]++captured) h2 with
       | .ret _ h3=>match h3.get h1.nx with
         | some (.loop .busy ..)=> .fail "range busy" none
         | some (.loop _ gV jQ qn uc Vk Vl)=>match Hr gV with
           | some e=> .ok e {s with h:=h3.put h1.nx (some (.loop .exhausted gV jQ qn uc Vk Vl)),ds:=ZC}
           | none=> .fail "range jump" none
         | _=> .fail "range loop" none
       | .panic v h3=> .ok (.panic v) {s with h:=h3,ds:=ZC}
       | .fail why q=> .fail why q
     | none=> .fail "full" none
   | none=> .fail "range open" none
 | _=> .fail "range function" none
noncomputable def exec (call:bj):Nat→Code→St→Out
 | 0,_,_=> .fail "fuel" none
 | n+1,c,s=>match c with
   | .skip=> .ok .normal s
   | .label _=> .ok .normal s
   | .ret=> .ok .ret s
   | .exit id=> .ok (.exit id) s
   | .seq a b=>match exec call n a s with
     | .ok .normal s'=>exec call n b s'
     | r=>r
   | .cond x a b=>match eh E s.ts x with
     | some (.bool true)=>exec call n a s
     | some (.bool false)=>exec call n b s
     | _=> .fail "cond" none
   | .block id b=>match exec call n b s with
     | .ok (.exit PT) s'=>if PT=id then .ok .normal s' else .ok (.exit PT) s'
     | r=>r
   | .loop b=>match exec call n b s with
     | .ok .normal s'=>exec call n (.loop b) s'
     | r=>r
   | .region _ ops draw=>if draw then vY E call ops s else jO E call ops ops.toList s
   | .rangeFunc f ps as_ bd=>kP E call f ps as_ bd s
   | .scope b=>exec call n b s
   | _=> .fail "code" none
noncomputable def jw (h:aw) (ts:List AV):List ResultVar→Option (List AV)
 | []=>some []
 | r::rest=>match (match r with
  | .tmp t=>some (ts.getD t AV.undef)
  | .cell a t=>bE E h t (ts.getD a AV.undef)) with
   | none=>none
   | some v=>match jw h ts rest with
     | none=>none
     | some vs=>some (v::vs)
def fO:List AV→AV
 | [v]=>v
 | vs=> .tuple vs
noncomputable def cK (g_:FuncId→List AV→aw→RC→Option (aw×RC)):List pw→Option AV→aw→Option (Option AV×aw)
 | [],p,h=>some (p,h)
 | .Db r::ds,p,h=>match h.get r with
   | some .uT=>cK g_ ds p (h.put r none)
   | _=>none
 | .call f args::ds,none,h=>match g_ f args h .no with
   | some (h',_)=>cK g_ ds none h'
   | none=>none
 | .call f args::ds,some v,h=>match g_ f args h (.gV v) with
   | some (h',.gV _)=>cK g_ ds (some v) h'
   | some (h',.done)=>cK g_ ds none h'
   | _=>none
noncomputable def mo (call:bj) (fuel:Nat) (fn:Func) (b:Code) (args:List AV) (h:aw) (rc:RC):Out:=
 exec E call fuel b {ts:=args++List.replicate (fn.ntmps - args.length) AV.undef,h,ds:=[],rc}
noncomputable def An (l:Nat) (jump:Option Code) (s:St):iQ:=match s.h.get l with
 | some (.loop _ _ ts ps as_ bd dn)=> .ret (.bool jump.isNone) (s.h.put l (some (.loop (if jump.isNone then .ready else .done) jump ts ps as_ bd dn)))
 | _=> .fail "round end" none
noncomputable def qt (call:bj) (fuel:Nat) (l:Nat) (args:List AV) (h:aw):iQ:=match h.get l with
 | some (.loop _ _ ts ps as_ bd _)=>if args.length=ps.length then
  match exec E call fuel as_ {ts:=(ps.zip args).foldl (fun ts x=>ts.set x.1 x.2) ts,h,ds:=[],rc:= .rN l} with
  | .ok .normal s1=>match s1.h.get l with
    | some (.loop .ready pd U0 Qi PU U1 U2)=>
      match exec E call fuel bd {s1 with h:=s1.h.put l (some (.loop .busy pd U0 Qi PU U1 U2))} with
      | .ok .normal s2=>An l none s2
      | .ok .ret s2=>An l (some .ret) s2
      | .ok (.exit id) s2=>An l (some (.exit id)) s2
      | .ok (.panic v) s2=>if s2.ds.isEmpty then .panic v s2.h else .fail "round defers" none
      | .fail why q=> .fail why q
    | _=> .fail "round state" none
  | .ok _ _=> .fail "round assign" none
  | .fail why q=> .fail why q
   else .fail "round args" none
 | _=> .fail "round" none
noncomputable def f':Nat→Nat→bj
 | 0,_=>fun _ _ _=> .fail "depth" none
 | d+1,fuel=>fun F args h=>match F with
  | .uV l=>qt E (f' d fuel) fuel l args h
  | .fn f=>match E.P.funcs[f]? with
   | none=> .fail "no function" none
   | some fn=>match fn.body with
     | none=> .fail ("no body " ++fn.name) none
     | some b=>
       let finish (p:Option AV) (s:St):iQ:=
        match cK (fun g as_ h rc=>match E.P.funcs[g]? with
         | none=>none
         | some fg=>match fg.body with
           | none=>none
           | some bg=>match mo E (f' d fuel) fuel fg bg as_ h rc with
             | .ok .normal s'=>if s'.ds.isEmpty&&(jw E s'.h s'.ts fg.results.toList).isSome then some (s'.h,s'.rc) else none
             | .ok .ret s'=>if s'.ds.isEmpty&&(jw E s'.h s'.ts fg.results.toList).isSome then some (s'.h,s'.rc) else none
             | _=>none) s.ds p s.h with
        | none=> .fail "unwind" none
        | some (some v,h')=> .panic v h'
        | some (none,h')=>match jw E h' s.ts fn.results.toList with
          | some vs=> .ret (fO vs) h'
          | none=> .fail "results" none
       match mo E (f' d fuel) fuel fn b args h .no with
       | .ok .normal s=>finish none s
       | .ok .ret s=>finish none s
       | .ok (.panic v) s=>finish (some v) s
       | .ok (.exit _) _=> .fail "exit" none
       | .fail why o=> .fail (why++ " in " ++fn.name) o
end Go.Ab
end
section
namespace Go.Ab
structure Loc where
 dZ:Nat
 off:Nat
 ic:Nat
abbrev Ph:=Nat→Option Loc
def Ph.le (φ φ':Ph):Prop:=∀i l,φ i=some l→φ' i=some l
theorem Ph.le_refl (φ:Ph):φ.le φ:=fun _ _ h=>h
theorem Ph.le_trans {a b c:Ph} (h:a.le b) (h':b.le c):a.le c:=fun i l e=>h' i l (h i l e)
def gu (op:Bool) (cap ic:Nat):Nat:=if op then cap+ic else cap
def acz:Value→Bool
 | .agg _ | .tuple _ | .float .. | .complex .. | .bool _=>false
 | _=>true
inductive VR (φ:Ph):AV→Value→Prop
 | bool (b:Bool):VR φ (.bool b) (.bool b)
 | int (k:IntKind) (n:Int):VR φ (.int k n) (.int k n)
 | str (s:ByteArray):VR φ (.str s.data.toList) (.string s)
 | fN:VR φ .fN (.pointer none)
 | ptr {i:Nat} {l:Loc} (o:Nat) (h:φ i=some l):VR φ (.ptr i o) (.pointer (some ⟨l.dZ,l.off+o,none⟩))
 | aN:VR φ .aN (.slice none 0 0)
 | slice {i:Nat} {l:Loc} (o len cap:Nat) (op:Bool) (h:φ i=some l):VR φ (.slice i o len cap op) (.slice (some ⟨l.dZ,l.off+o,none⟩) len (gu op cap l.ic))
 | dQ (a:Addr) (cap:Nat):VR φ .dQ (.slice (some a) 0 cap)
 | dP:VR φ .dP (.map none)
 | map {i:Nat} {l:Loc} (h:φ i=some l):VR φ (.map i) (.map (some l.dZ))
 | func (f:FuncId) (a b:List AV) (a' b':Array Value) (la:a.length=a'.size) (lb:b.length=b'.size)
  (ha:∀(i:Nat) (x:AV) (y:Value),a[i]? =some x→a'[i]? =some y→VR φ x y) (hb:∀(i:Nat) (x:AV) (y:Value),b[i]? =some x→b'[i]? =some y→VR φ x y):
  VR φ (.func f a b) (.func (.func f) a' b')
 | nilFunc:VR φ .nilFunc .nilFunc
 | yield {i:Nat} {l:Loc} (h:φ i=some l):VR φ (.cO i) (.func (.yield l.dZ) #[] #[])
 | iface (t:TypeId) (v:AV) (v':Value) (h:VR φ v v'):VR φ (.iface t v) (.iface t v')
 | nilIface:VR φ .nilIface .nilIface
 | agg (cs:List AV) (hZ:Array Value) (hl:cs.length=hZ.size) (h:∀(i:Nat) (x:AV) (y:Value),cs[i]? =some x→hZ[i]? =some y→VR φ x y):VR φ (.agg cs) (.agg hZ)
 | tuple (cs:List AV) (hZ:Array Value) (hl:cs.length=hZ.size) (h:∀(i:Nat) (x:AV) (y:Value),cs[i]? =some x→hZ[i]? =some y→VR φ x y):VR φ (.tuple cs) (.tuple hZ)
 | any (v:Value) (h:acz v=true):VR φ .any v
theorem VR.mono {φ φ':Ph} (hle:φ.le φ') {v:AV} {v':Value} (h:VR φ v v'):VR φ' v v':=by
 induction h with
 | bool b=>exact .bool b
 | int k n=>exact .int k n
 | str s=>exact .str s
 | fN=>exact .fN
 | ptr o h=>exact .ptr o (hle _ _ h)
 | aN=>exact .aN
 | slice o len cap op h=>exact .slice o len cap op (hle _ _ h)
 | dQ a cap=>exact .dQ a cap
 | dP=>exact .dP
 | map h=>exact .map (hle _ _ h)
 | func f a b a' b' la lb _ _ iha ihb=>exact .func f a b a' b' la lb iha ihb
 | nilFunc=>exact .nilFunc
 | yield h=>exact .yield (hle _ _ h)
 | iface t v v' _ ih=>exact .iface t v v' ih
 | nilIface=>exact .nilIface
 | agg cs hZ hl _ ih=>exact .agg cs hZ hl ih
 | tuple cs hZ hl _ ih=>exact .tuple cs hZ hl ih
 | any v h=>exact .any v h
def LR (φ:Ph) (xs:List AV) (ys:List Value):Prop:=xs.length=ys.length∧∀(i:Nat) (x:AV) (y:Value),xs[i]? =some x→ys[i]? =some y→VR φ x y
theorem LR.mono {φ φ':Ph} (hle:φ.le φ') {xs:List AV} {ys:List Value} (h:LR φ xs ys):LR φ' xs ys:=⟨h.1,fun i x y a b=>(h.2 i x y a b).mono hle⟩
theorem LR.nil (φ:Ph):LR φ [] []:=⟨rfl,fun i x y a _=>by simp at a⟩
theorem LR.cons {φ:Ph} {x:AV} {y:Value} {xs:List AV} {ys:List Value} (h:VR φ x y) (hs:LR φ xs ys):LR φ (x::xs) (y::ys):=by
 refine ⟨by simp [hs.1],fun i a b ha hb=>?_⟩
 cases i with
 | zero=>simp at ha hb;subst ha;subst hb;exact h
 | succ i=>simp at ha hb;exact hs.2 i a b ha hb
theorem LR.cf {φ:Ph} {x:AV} {xs:List AV} {ys:List Value} (h:LR φ (x::xs) ys):∃y ye,ys=y::ye∧VR φ x y∧LR φ xs ye:=by
 obtain ⟨hl,hv⟩:=h
 cases ys with
 | nil=>simp at hl
 | cons y ys=>
   refine ⟨y,ys,rfl,hv 0 x y (by simp) (by simp),by simpa using hl,fun i a b ha hb=>hv (i+1) a b (by simpa using ha) (by simpa using hb)⟩
theorem LR.fW {φ:Ph} {ys:List Value} (h:LR φ [] ys):ys=[]:=by
 cases ys with
 | nil=>rfl
 | cons y ys=>simp [LR] at h
theorem LR.append {φ:Ph} {xs AN:List AV} {ys ye:List Value} (h:LR φ xs ys) (h':LR φ AN ye):LR φ (xs++AN) (ys++ye):=by
 refine ⟨by simp [h.1,h'.1],fun i a b ha hb=>?_⟩
 by_cases hi:i<xs.length
 · rw[List.getElem?_append_left hi] at ha
   rw[List.getElem?_append_left (by rw[←h.1];exact hi)] at hb
   exact h.2 i a b ha hb
 · rw[List.getElem?_append_right (by omega)] at ha
   rw[List.getElem?_append_right (by rw[←h.1];omega)] at hb
   exact h'.2 _ a b ha (by rw[h.1];exact hb)
theorem LR.drop {φ:Ph} {xs:List AV} {ys:List Value} (h:LR φ xs ys) (n:Nat):LR φ (xs.drop n) (ys.drop n):=
 ⟨by simp [h.1],fun i a b ha hb=>h.2 (n+i) a b (by simpa using ha) (by simpa using hb)⟩
theorem LR.take {φ:Ph} {xs:List AV} {ys:List Value} (h:LR φ xs ys) (n:Nat):LR φ (xs.take n) (ys.take n):=by
 refine ⟨by simp [h.1],fun i a b ha hb=>?_⟩
 rw[List.getElem?_take] at ha hb
 by_cases hi:i<n
 · simp only[hi,if_true] at ha hb;exact h.2 i a b ha hb
 · simp [hi] at ha
theorem LR.set {φ:Ph} {xs:List AV} {ys:List Value} (h:LR φ xs ys) {x:AV} {y:Value} (hx:VR φ x y) (n:Nat):LR φ (xs.set n x) (ys.set n y):=by
 refine ⟨by simp [h.1],fun i a b ha hb=>?_⟩
 rw[List.getElem?_set] at ha hb
 by_cases hi:n=i
 · subst hi
   by_cases hl:n<xs.length
   · simp only[if_true,hl] at ha
     simp only[if_true,←h.1,hl] at hb
     simp at ha hb;subst ha;subst hb;exact hx
   · simp [hl] at ha
 · simp only[hi,if_false] at ha hb;exact h.2 i a b ha hb
theorem LR.replicate {φ:Ph} {x:AV} {y:Value} (h:VR φ x y) (n:Nat):LR φ (List.replicate n x) (List.replicate n y):=by
 refine ⟨by simp,fun i a b ha hb=>?_⟩
 rw[List.getElem?_replicate] at ha hb
 by_cases hi:i<n
 · simp [hi] at ha hb;subst ha;subst hb;exact h
 · simp [hi] at ha
theorem LR.get {φ:Ph} {xs:List AV} {ys:List Value} (h:LR φ xs ys) {i:Nat} {x:AV} (hx:xs[i]? =some x):∃y,ys[i]? =some y∧VR φ x y:=by
 have hi:i<xs.length:=(List.getElem?_eq_some_iff.1 hx).1
 have:i<ys.length:=by rw[←h.1];exact hi
 exact ⟨ys[i],by simp [this],h.2 i x _ hx (by simp [this])⟩
theorem LR.getD {φ:Ph} {xs:List AV} {ys:List Value} (h:LR φ xs ys) {d:AV} {d':Value} (hd:VR φ d d') (i:Nat):VR φ (xs.getD i d) (ys.getD i d'):=by
 by_cases hi:i<xs.length
 · have:i<ys.length:=by rw[←h.1];exact hi
   have e:=h.2 i xs[i] ys[i] (by simp [hi]) (by simp [this])
   simpa [List.getD,hi,this] using e
 · have:¬i<ys.length:=by rw[←h.1];exact hi
   simpa [List.getD,hi,this] using hd
theorem VR.undef (φ:Ph):VR φ AV.undef undef:= .tuple [] #[] rfl (fun i x y a _=>by simp at a)
theorem VR.Od {φ:Ph} {cs:List AV} {hZ:List Value} (h:LR φ cs hZ):VR φ (.agg cs) (.agg hZ.toArray):= .agg cs _ (by simp [h.1]) (fun i x y a b=>h.2 i x y a (by simpa using b))
theorem VR.tuple' {φ:Ph} {cs:List AV} {hZ:List Value} (h:LR φ cs hZ):VR φ (.tuple cs) (.tuple hZ.toArray):= .tuple cs _ (by simp [h.1]) (fun i x y a b=>h.2 i x y a (by simpa using b))
theorem VR.jy {φ:Ph} {cs:List AV} {v:Value} (h:VR φ (.agg cs) v):∃hZ:Array Value,v= .agg hZ∧LR φ cs hZ.toList:=by
 cases h with
 | agg _ hZ hl h=>exact ⟨hZ,rfl,by simpa using hl,fun i x y a b=>h i x y a (by simpa using b)⟩
theorem VR.DK {φ:Ph} {cs:List AV} {v:Value} (h:VR φ (.tuple cs) v):∃hZ:Array Value,v= .tuple hZ∧LR φ cs hZ.toList:=by
 cases h with
 | tuple _ hZ hl h=>exact ⟨hZ,rfl,by simpa using hl,fun i x y a b=>h i x y a (by simpa using b)⟩
theorem VR.v7 {φ:Ph} {f:FuncId} {a b:List AV} {v:Value} (h:VR φ (.func f a b) v):∃a' b':Array Value,v= .func (.func f) a' b'∧LR φ a a'.toList∧LR φ b b'.toList:=by
 cases h with
 | func _ _ _ a' b' la lb ha hb=>exact ⟨a',b',rfl,⟨by simpa using la,fun i x y p q=>ha i x y p (by simpa using q)⟩,⟨by simpa using lb,fun i x y p q=>hb i x y p (by simpa using q)⟩⟩
theorem VR.Qj {φ:Ph} (f:FuncId) {a b:List AV} {a' b':List Value} (ha:LR φ a a') (hb:LR φ b b'):VR φ (.func f a b) (.func (.func f) a'.toArray b'.toArray):=
 .func f a b _ _ (by simp [ha.1]) (by simp [hb.1]) (fun i x y p q=>ha.2 i x y p (by simpa using q)) (fun i x y p q=>hb.2 i x y p (by simpa using q))
theorem VR.cells {φ:Ph} {v:AV} {v':Value} (h:VR φ v v'):LR φ v.cells v'.cells.toList:=by
 cases h with
 | agg cs hZ hl h=>exact ⟨by simpa [AV.cells,Value.cells] using hl,fun i x y a b=>h i x y a (by simpa [Value.cells] using b)⟩
 | bool b=>exact .cons (.bool b) (.nil φ)
 | int k n=>exact .cons (.int k n) (.nil φ)
 | str s=>exact .cons (.str s) (.nil φ)
 | fN=>exact .cons .fN (.nil φ)
 | ptr o h=>exact .cons (.ptr o h) (.nil φ)
 | aN=>exact .cons .aN (.nil φ)
 | slice o len cap op h=>exact .cons (.slice o len cap op h) (.nil φ)
 | dQ a cap=>exact .cons (.dQ a cap) (.nil φ)
 | dP=>exact .cons .dP (.nil φ)
 | map h=>exact .cons (.map h) (.nil φ)
 | func f a b a' b' la lb ha hb=>exact .cons (.func f a b a' b' la lb ha hb) (.nil φ)
 | nilFunc=>exact .cons .nilFunc (.nil φ)
 | yield h=>exact .cons (.yield h) (.nil φ)
 | iface t v v' h=>exact .cons (.iface t v v' h) (.nil φ)
 | nilIface=>exact .cons .nilIface (.nil φ)
 | tuple cs hZ hl h=>exact .cons (.tuple cs hZ hl h) (.nil φ)
 | any _ h=>
   have e:v'.cells= #[v']:=by cases v'<;>first | rfl | cases h
   rw[e]
   exact .cons (.any v' h) (.nil φ)
theorem VR.scalar {φ:Ph} {v:AV} {v':Value} (h:VR φ v v') (hs:v.scalar=true):v'.oneCell'=true:=by
 cases h with
 | any _ h=>cases v'<;>first | rfl | cases h
 | _=>simp_all [AV.scalar,Value.oneCell']
theorem rW {α β:Type} {f:α→Option β}:∀{l:List α} {r:List β},eF f l=some r→l.length=r.length∧∀(i:Nat) (x:α),l[i]? =some x→∃y,r[i]? =some y∧f x=some y
 | [],r,h=>by simp [eF] at h;subst h;simp
 | x::xs,r,h=>by
   simp only[eF] at h
   cases hx:f x with
   | none=>simp [hx] at h
   | some y=>
     simp only[hx] at h
     cases hs:eF f xs with
     | none=>simp [hs] at h
     | some ys=>
       simp only[hs,Option.some.injEq] at h
       subst h
       obtain ⟨hl,hv⟩:=rW hs
       refine ⟨by simp [hl],fun i z hz=>?_⟩
       cases i with
       | zero=>simp at hz;subst hz;exact ⟨y,by simp,hx⟩
       | succ i=>simp at hz;simpa using hv i z hz
theorem rX (φ:Ph) {v:Value} {x:AV} (h:jZ v=some x):VR φ x v:=by
 unfold jZ at h
 split at h<;>simp at h<;>subst h
 · exact .bool _
 · exact .int _ _
 · exact .str _
 · exact .fN
 · exact .aN
 · exact .dP
 · exact .nilFunc
 · exact .nilIface
theorem v8 (φ:Ph) {l:List Value} {r:List AV} (h:eF jZ l=some r):LR φ r l:=by
 obtain ⟨hl,hv⟩:=rW h
 refine ⟨hl.symm,fun i x y hx hy=>?_⟩
 obtain ⟨z,hz,hf⟩:=hv i y hy
 rw[hx] at hz;simp at hz;subst hz
 exact rX φ hf
theorem A4 (φ:Ph) {v:Value} {x:AV} (h:ofConst v=some x):VR φ x v:=by
 unfold ofConst at h
 split at h
 · rename_i cs
   cases hm:eF jZ cs.toList with
   | none=>simp [hm] at h
   | some l=>simp [hm] at h;subst h;have:=VR.Od (v8 φ hm);simpa using this
 · rename_i cs
   cases hm:eF jZ cs.toList with
   | none=>simp [hm] at h
   | some l=>simp [hm] at h;subst h;have:=VR.tuple' (v8 φ hm);simpa using this
 · rename_i t v
   cases hm:jZ v with
   | none=>simp [hm] at h
   | some l=>simp [hm] at h;subst h;exact .iface _ _ _ (rX φ hm)
 · exact rX φ h
variable (E:Env)
structure ER (φ:Ph) (e:gO) (e':MapEntry):Prop where
 key:VR φ e.key e'.key
 val:VR φ e.val e'.val
 born:e.born=e'.born
def Hs (φ:Ph) (es:List gO) (fX:List MapEntry):Prop:=es.length=fX.length∧∀(i:Nat) (x:gO) (y:MapEntry),es[i]? =some x→fX[i]? =some y→ER φ x y
def aR.rw:aR→Bool
 | .cells _ _ ro=> !ro
 | _=>true
def fp (l:Loc) (e:TypeId):Nat:=l.ic*(bZ E e).getD 0
structure CR (φ:Ph) (cs:List AV) (e:TypeId) (ro:Bool) (l:Loc) (C:Array Value) (lo hi:Nat):Prop where
 size:l.off+cs.length+fp E l e≤C.size
 val:∀(k:Nat) (x:AV),cs[k]? =some x→∃y,C[l.off+k]? =some y∧VR φ x y
 free:ro=false→∀k,l.off≤k→k<l.off+cs.length+fp E l e→¬(lo≤k∧k<hi)
 zero:ro=true→∀m,cs=[.map m]→l.off=0
structure CS (φ:Ph) (cs:List AV) (e:TypeId) (ro:Bool) (l:Loc) (C:Array Value) (e':TypeId) (lo hi:Nat):Prop extends CR E φ cs e ro l C lo hi where
 shape:ro=false→e'=e∧l.off=0∧(∀fs,E.P.underlying e=some (.struct fs)→fm E e=none→C.size=cs.length)
theorem tD {t:TypeId} {n:Nat} (h:fm E t=some n):(E.P.info? t).map (·.bytes)=some n:=by
 unfold fm at h;split at h
 · cases h
 · exact h
structure Mw (φ:Ph) (st:LoopState) (gV:Option Code) (ts:List AV) (ps:List Tmp) (as_ bd:Code) (dn:Nat) (r:Loop):Prop where
 state:r.state=st
 pending:r.pending=gV
 tmps:LR φ ts r.tmps.toList
 params:r.params.toList=ps
 assign:r.assign=as_
 body:r.body=bd
 defers:∃ld,φ dn=some ld∧r.defers=ld.dZ
 fn:(E.P.funcs[r.fn]?).isSome=true
theorem Mw.mono {E:Env} {φ φ':Ph} (hle:φ.le φ') {st:LoopState} {gV:Option Code} {ts:List AV} {ps:List Tmp} {as_ bd:Code} {dn:Nat} {r:Loop} (h:Mw E φ st gV ts ps as_ bd dn r):Mw E φ' st gV ts ps as_ bd dn r:=
 ⟨h.state,h.pending,h.tmps.mono hle,h.params,h.assign,h.body,let ⟨l,a,b⟩:=h.defers;⟨l,hle _ _ a,b⟩,h.fn⟩
def OR (φ:Ph):aR→Loc→Option Obj→Prop
 | .cells cs e ro,l,o=>∃C e' lo hi,o=some (.cells C e' (lo,hi))∧CS E φ cs e ro l C e' lo hi
 | .map es clock,l,o=>l.off=0∧∃fX,o=some (.map fX clock)∧Hs φ es fX.toList
 | .uw s pos,l,o=>l.off=0∧∃s':ByteArray,o=some (.stringIter s' pos)∧s'.data.toList=s
 | .A2 none since seen qo,l,o=>l.off=0∧o=some (.mapIter none since seen.toArray qo)
 | .A2 (some m) since seen qo,l,o=>l.off=0∧∃lm,φ m=some lm∧o=some (.mapIter (some lm.dZ) since seen.toArray qo)
 | .loop st gV ts ps as_ bd dn,l,o=>l.off=0∧∃r,o=some (.loop r)∧Mw E φ st gV ts ps as_ bd dn r
 | .uT,l,o=>l.off=0∧o=some (.deferred (some []))
theorem OR.absurd {E:Env} {φ:Ph} {o:aR} {l:Loc} (h:OR E φ o l none):False:=by
 cases o with
 | cells cs e ro=>obtain ⟨C,e',lo,hi,hx,hc⟩:=h;simp at hx
 | map es clock=>obtain ⟨h0,fX,hx,hl,hv⟩:=h;simp at hx
 | uw s pos=>obtain ⟨h0,s',hx,_⟩:=h;simp at hx
 | A2 m since seen qo=>
   cases m with
   | none=>obtain ⟨h0,hx⟩:=h;simp at hx
   | some m=>obtain ⟨h0,lm,hm,hx⟩:=h;simp at hx
 | loop=>obtain ⟨h0,r,hx,_⟩:=h;simp at hx
 | uT=>obtain ⟨h0,hx⟩:=h;simp at hx
structure OK (φ:Ph) (h:aw) (w:World):Prop where
 Ao:∀i l,φ i=some l→i<h.nx
 nx:E.G≤h.nx
 uW:∀g,g<E.G→φ g=some ⟨g,0,0⟩
 live:∀i o l,h.get i=some o→φ i=some l→OR E φ o l w.heap[l.dZ]?
 inj:∀i j o p l m,h.get i=some o→h.get j=some p→φ i=some l→φ j=some m→(o.rw=true∨p.rw=true)→l.dZ=m.dZ→i=j
structure Fr (φ:Ph) (h:aw) (w:World) (φ':Ph) (h':aw) (w':World):Prop where
 ext:φ.le φ'
 old:∀i,i<h.nx→φ' i=φ i
 nx:h.nx≤h'.nx
 os:w'.os=w.os
 tape:w'.tape=w.tape
 output:w'.output=w.output
 size:w.heap.size≤w'.heap.size
 Ap:∀b,b<w.heap.size→(∀i o l,h.get i=some o→o.rw=true→φ i=some l→l.dZ≠b)→w'.heap[b]? =w.heap[b]?
 own:∀i o l,h'.get i=some o→o.rw=true→φ' i=some l→w.heap.size≤l.dZ∨∃j p m,h.get j=some p∧p.rw=true∧φ j=some m∧m.dZ=l.dZ
theorem Fr.refl (φ:Ph) (h:aw) (w:World):Fr φ h w φ h w where
 ext:=Ph.le_refl φ
 old _ _:=rfl
 nx:=Nat.le_refl _
 os:=rfl
 tape:=rfl
 output:=rfl
 size:=Nat.le_refl _
 Ap _ _ _:=rfl
 own i o l a b c:= .inr ⟨i,o,l,a,b,c,rfl⟩
theorem Fr.trans {φ₁ φ₂ φ₃:Ph} {h₁ h₂ h₃:aw} {w₁ w₂ w₃:World} (a:Fr φ₁ h₁ w₁ φ₂ h₂ w₂) (b:Fr φ₂ h₂ w₂ φ₃ h₃ w₃):Fr φ₁ h₁ w₁ φ₃ h₃ w₃ where
 ext:=Ph.le_trans a.ext b.ext
 old i hi:=(b.old i (Nat.lt_of_lt_of_le hi a.nx)).trans (a.old i hi)
 nx:=Nat.le_trans a.nx b.nx
 os:=b.os.trans a.os
 tape:=b.tape.trans a.tape
 output:=b.output.trans a.output
 size:=Nat.le_trans a.size b.size
 Ap x hx hn:=by
  rw[b.Ap x (Nat.lt_of_lt_of_le hx a.size) ?_,a.Ap x hx hn]
  intro i o l hg hr hp he
  rcases a.own i o l hg hr hp with h | ⟨j,p,m,q1,q2,q3,q4⟩
  · omega
  · exact hn j p m q1 q2 q3 (q4.trans he)
 own i o l hg hr hp:=by
  rcases b.own i o l hg hr hp with h | ⟨j,p,m,q1,q2,q3,q4⟩
  · exact .inl (Nat.le_trans a.size h)
  · rcases a.own j p m q1 q2 q3 with h | ⟨j',p',m',r1,r2,r3,r4⟩
    · exact .inl (q4▸h)
    · exact .inr ⟨j',p',m',r1,r2,r3,r4.trans q4⟩
theorem J8 {a b:Nat} (h:a≠b):Nat.beq a b=false:=by
 cases e:Nat.beq a b
 · rfl
 · exact absurd (Nat.eq_of_beq_eq_true e) h
theorem nO {a b:Nat} (h:b<a):Nat.ble a b=false:=by
 rw[Bool.eq_false_iff];intro e;have:=Nat.le_of_ble_eq_true e;omega
theorem ym (q:Nat) (t:HT):(Ob q).get t=PQ (q%8) (PQ (q/8%8) (PQ (q/64) t)):=by
 simp only[Ob,ux,zp];rfl
theorem Qk (q:Nat) (f:H3→H3) (t:HT):(Ob q).Vj f t=Vi (q/64) (Vi (q/8%8) (Vi (q%8) f)) t:=by
 simp only[Ob,ux,zp];rfl
theorem A5 (q:Nat) (t:H3):(PS q).get t=PQ (q%8) (PQ (q/8%8) (PQ (q/64) t)):=by
 simp only[PS,ux,zp];rfl
theorem Ql (q:Nat) (o:Option aR) (t:H3):(PS q).Vj o t=Vi (q/64) (Vi (q/8%8) (Vi (q%8) fun _=>o)) t:=by
 simp only[PS,ux,zp];rfl
theorem A6 {i:Nat} (hi:i<262144) (t:HT):(hp i).get t=(PS (i%512)).get ((Ob (i/512)).get t):=by
 unfold hp
 rw[nO hi,kO,kO];rfl
theorem Qm {i:Nat} (hi:i<262144) (o:Option aR) (t:HT):(hp i).put o t=(Ob (i/512)).Vj ((PS (i%512)).Vj o) t:=by
 unfold hp
 rw[nO hi,kO,kO];rfl
theorem Vm (q:Nat) (o:Option aR) (t:H3):(PS q).get ((PS q).Vj o t)=o:=by
 rw[A5,Ql,dg,dg,dg]
theorem Qo {q p:Nat} (hq:q<512) (hp:p<512) (h:q≠p) (o:Option aR) (t:H3):(PS p).get ((PS q).Vj o t)=(PS p).get t:=by
 rw[A5,A5,Ql]
 by_cases h1:q/64=p/64
 · rw[h1,dg]
   by_cases h2:q/8%8=p/8%8
   · rw[h2,dg,dR (by omega) (by omega) (by omega)]
   · rw[dR (by omega) (by omega) h2]
 · rw[dR (by omega) (by omega) h1]
theorem Mx (q:Nat) (f:H3→H3) (t:HT):(Ob q).get ((Ob q).Vj f t)=f ((Ob q).get t):=by
 rw[ym,ym,Qk,dg,dg,dg]
theorem Qp {q p:Nat} (hq:q<512) (hp:p<512) (h:q≠p) (f:H3→H3) (t:HT):(Ob p).get ((Ob q).Vj f t)=(Ob p).get t:=by
 rw[ym,ym,Qk]
 by_cases h1:q/64=p/64
 · rw[h1,dg]
   by_cases h2:q/8%8=p/8%8
   · rw[h2,dg,dR (by omega) (by omega) (by omega)]
   · rw[dR (by omega) (by omega) h2]
 · rw[dR (by omega) (by omega) h1]
theorem Vn {i:Nat} (hi:i<262144) (o:Option aR) (t:HT):(hp i).get ((hp i).put o t)=o:=by
 rw[A6 hi,Qm hi,Mx,Vm]
theorem Qq {i j:Nat} (hi:i<262144) (hj:j<262144) (h:i≠j) (o:Option aR) (t:HT):(hp j).get ((hp i).put o t)=(hp j).get t:=by
 rw[A6 hj,A6 hj,Qm hi]
 by_cases h1:i/512=j/512
 · rw[h1,Mx,Qo (by omega) (by omega) (by omega)]
 · rw[Qp (by omega) (by omega) h1]
theorem DL {a b:Nat} (h:¬b<a):Nat.ble a b=true:=Nat.ble_eq_true_of_le (by omega)
theorem aw.uX {h:aw} {i:Nat} (hi:i<262144):h.get i=(hp i).get h.t:=by
 unfold aw.get;rw[nO hi];rfl
theorem aw.qu {h:aw} {i:Nat} (hi:¬i<262144):h.get i=h.f i:=by
 unfold aw.get;rw[DL hi];rfl
theorem aw.Qs {h:aw} {i:Nat} (hi:i<262144) (o:Option aR):h.put i o=⟨(hp i).put o h.t,h.nx,h.f⟩:=by
 unfold aw.put;rw[nO hi];rfl
theorem aw.My {h:aw} {i:Nat} (hi:¬i<262144) (o:Option aR):h.put i o=⟨h.t,h.nx,J5 h.f i o⟩:=by
 unfold aw.put;rw[DL hi];rfl
theorem aw.ZD (h:aw) (i:Nat) (o:Option aR):(h.put i o).nx=h.nx:=rfl
theorem Oe (f:Nat→Option aR) (i:Nat) (o:Option aR):J5 f i o i=o:=by
 unfold J5;rw[Nat.beq_refl];rfl
theorem J9 (f:Nat→Option aR) {i j:Nat} (h:i≠j) (o:Option aR):J5 f i o j=f j:=by
 unfold J5;rw[J8 (Ne.symm h)];rfl
theorem aw.bS {h:aw} {i:Nat} (o:Option aR):(h.put i o).get i=o:=by
 by_cases hi:i<262144
 · rw[aw.Qs hi,aw.uX hi];exact Vn hi o h.t
 · rw[aw.My hi,aw.qu hi];exact Oe _ _ _
theorem aw.bx {h:aw} {i j:Nat} (eu:i≠j) (o:Option aR):(h.put i o).get j=h.get j:=by
 by_cases hi:i<262144
 · rw[aw.Qs hi]
   by_cases hj:j<262144
   · rw[aw.uX hj,aw.uX hj];exact Qq hi hj eu o h.t
   · rw[aw.qu hj,aw.qu hj]
 · rw[aw.My hi]
   by_cases hj:j<262144
   · rw[aw.uX hj,aw.uX hj]
   · rw[aw.qu hj,aw.qu hj];exact J9 _ eu _
theorem aw.E8 (h:aw) (o:aR):h.new o=some ⟨(h.put h.nx (some o)).t,h.nx+1,(h.put h.nx (some o)).f⟩:=rfl
theorem aw.kQ {h h':aw} {o:aR} (e:h.new o=some h'):True∧h'.nx=h.nx+1∧h'.get h.nx=some o∧∀j,j≠h.nx→h'.get j=h.get j:=by
 rw[aw.E8] at e
 cases e
 exact ⟨trivial,rfl,aw.bS (h:=h) (some o),fun j eu=>aw.bx (h:=h) (Ne.symm eu) (some o)⟩
end Go.Ab
end
section
namespace Go.Ab
variable {E:Env}
def jR (C:Array Value):Nat→List Value→Array Value
 | _,[]=>C
 | o,v::vs=>jR (C.setIfInBounds o v) (o+1) vs
theorem o7:∀(vs:List Value) (C:Array Value) (o:Nat),(jR C o vs).size=C.size
 | [],_,_=>rfl
 | v::vs,C,o=>by simp [jR,o7 vs]
theorem uY:∀(vs:List Value) (C:Array Value) (o k:Nat),(jR C o vs)[k]? =if o≤k∧k<o+vs.length∧k<C.size then vs[k - o]? else C[k]?
 | [],C,o,k=>by simp [jR];omega
 | v::vs,C,o,k=>by
   rw[jR,uY vs]
   simp only[Array.size_setIfInBounds,List.length_cons,Array.getElem?_setIfInBounds]
   by_cases h1:o=k
   · subst h1
     by_cases h2:o<C.size
     · rw[if_neg (by omega)];simp [h2]
     · rw[if_neg (by omega)];simp [h2]
   · by_cases h2:o+1≤k∧k<o+1+vs.length∧k<C.size
     · rw[if_pos h2,if_pos (by omega)]
       obtain ⟨m,hm⟩:∃m,k - o=m+1:=⟨k - o - 1,by omega⟩
       rw[hm,show k -(o+1)=m by omega];simp
     · rw[if_neg h2];simp only[h1,if_false];rw[if_neg (by omega)]
theorem kR:∀(vs:List AV) (cs:List AV) (o:Nat),(setFrom cs o vs).length=cs.length
 | [],_,_=>rfl
 | v::vs,cs,o=>by simp [setFrom,kR vs]
theorem eC:∀(vs:List AV) (cs:List AV) (o k:Nat),(setFrom cs o vs)[k]? =if o≤k∧k<o+vs.length∧k<cs.length then vs[k - o]? else cs[k]?
 | [],cs,o,k=>by simp [setFrom];omega
 | v::vs,cs,o,k=>by
   rw[setFrom,eC vs]
   simp only[List.length_set,List.length_cons,List.getElem?_set]
   by_cases h1:o=k
   · subst h1
     by_cases h2:o<cs.length
     · rw[if_neg (by omega)];simp [h2]
     · rw[if_neg (by omega)];simp [h2]
   · by_cases h2:o+1≤k∧k<o+1+vs.length∧k<cs.length
     · rw[if_pos h2,if_pos (by omega)]
       obtain ⟨m,hm⟩:∃m,k - o=m+1:=⟨k - o - 1,by omega⟩
       rw[hm,show k -(o+1)=m by omega];simp
     · rw[if_neg h2];simp only[h1,if_false];rw[if_neg (by omega)]
theorem heap_setCell {w:World} {b:Nat} {C:Array Value} {e:TypeId} {f:Nat×Nat} (h:w.heap[b]? =some (.cells C e f)) (o:Nat) (v:Value):
 (w.setCell ⟨b,o,none⟩ v).heap[b]? =some (.cells (C.setIfInBounds o v) e f):=by
 obtain ⟨lo,hi⟩:=f
 simp [World.setCell,Array.getElem?_modify,h]
theorem heap_setCell_other {w:World} {b c:Nat} (h:b≠c) (o:Nat) (v:Value):(w.setCell ⟨b,o,none⟩ v).heap[c]? =w.heap[c]? :=by
 simp [World.setCell,Array.getElem?_modify,h]
theorem px:∀(vs:List Value) {w:World} {b:Nat} {C:Array Value} {e:TypeId} {f:Nat×Nat} (_:w.heap[b]? =some (.cells C e f)) (o:Nat),
 (w.setCells b o vs).heap[b]? =some (.cells (jR C o vs) e f)
 | [],_,_,_,_,_,h,_=>h
 | v::vs,w,b,C,e,f,h,o=>by
   rw[World.setCells,jR]
   exact px vs (heap_setCell h o v) (o+1)
theorem jS:∀(vs:List Value) {w:World} {b c:Nat} (_:b≠c) (o:Nat),(w.setCells b o vs).heap[c]? =w.heap[c]?
 | [],_,_,_,_,_=>rfl
 | v::vs,w,b,c,h,o=>by rw[World.setCells,jS vs h,heap_setCell_other h]
theorem size_setCells:∀(vs:List Value) (w:World) (b o:Nat),(w.setCells b o vs).heap.size=w.heap.size
 | [],_,_,_=>rfl
 | v::vs,w,b,o=>by rw[World.setCells,size_setCells vs];simp
theorem rY:∀(vs:List Value) (w:World) (b o:Nat),(w.setCells b o vs).os=w.os∧(w.setCells b o vs).tape=w.tape∧(w.setCells b o vs).output=w.output
 | [],_,_,_=>⟨rfl,rfl,rfl⟩
 | v::vs,w,b,o=>by rw[World.setCells];exact rY vs _ b (o+1)
theorem cell_of_heap {w:World} {b:Nat} {C:Array Value} {e:TypeId} {f:Nat×Nat} (h:w.heap[b]? =some (.cells C e f)) (k:Nat):w.cell? ⟨b,k,none⟩=C[k]? :=by
 obtain ⟨lo,hi⟩:=f
 simp [World.cell?,h]
theorem frozen_of_heap {w:World} {b:Nat} {C:Array Value} {e:TypeId} {lo hi:Nat} (h:w.heap[b]? =some (.cells C e (lo,hi))) (k:Nat):w.frozen? ⟨b,k,none⟩=(decide (lo≤k)&&decide (k<hi)):=by
 simp [World.frozen?,h]
theorem py {P:Program} {w:World} {b:Nat} {C:Array Value} {e:TypeId} {lo hi:Nat} (h:w.heap[b]? =some (.cells C e (lo,hi))) (O:Nat) (vs:List Value)
 (hs:O+vs.length≤C.size) (hf:∀k,O≤k→k<O+vs.length→¬(lo≤k∧k<hi)) (h1:∀v∈vs,v.oneCell'=true):
 (storeCells ⟨b,O,none⟩ vs).run P w= .ok () (w.setCells b O vs):=by
 have:=run_storeCells_cells (P:=P) b O vs 0 w (fun j hj=>by
  rw[cell_of_heap h];simp;omega) (fun j hj=>by
  rw[frozen_of_heap h]
  have:=hf (O+j) (by omega) (by omega)
  simp only[Nat.add_zero,Bool.and_eq_false_iff,decide_eq_false_iff_not];omega) h1
 simpa using this
theorem nq {P:Program} {w:World} {b:Nat} {C:Array Value} {e:TypeId} {f:Nat×Nat} (h:w.heap[b]? =some (.cells C e f)) (O:Nat) (cs:List Value)
 (hv:∀(j:Nat) (v:Value),cs[j]? =some v→C[O+j]? =some v):(loadCells ⟨b,O,none⟩ cs.length).run P w= .ok cs.toArray w:=
 run_loadCells_list (P:=P) w ⟨b,O,none⟩ cs (fun j v hj=>by
  have:(⟨b,O,none⟩:Addr).add j=⟨b,O+j,none⟩:=by unfold Addr.add;split<;>simp_all
  rw[this,cell_of_heap h];exact hv j v hj)
theorem CR.range {φ:Ph} {cs:List AV} {e:TypeId} {ro:Bool} {l:Loc} {C:Array Value} {lo hi:Nat} (h:CR E φ cs e ro l C lo hi) (o n:Nat) (hn:o+n≤cs.length):
 ∃vs:List Value,vs.length=n∧(∀(j:Nat) (v:Value),vs[j]? =some v→C[l.off+o+j]? =some v)∧LR φ ((cs.drop o).take n) vs:=by
 have E9:=h.size
 refine ⟨((C.toList.drop (l.off+o)).take n),by simp;omega,fun j v hj=>?_,by simp;omega,fun j x y hx hy=>?_⟩
 · rw[List.getElem?_take] at hj
   split at hj
   · simpa [Nat.add_assoc] using hj
   · simp at hj
 · rw[List.getElem?_take] at hx hy
   split at hx
   · rename_i hjn
     simp only[hjn,if_true] at hy
     rw[List.getElem?_drop] at hx hy
     obtain ⟨z,hz,hr⟩:=h.val (o+j) x hx
     simp at hy
     rw[show l.off+(o+j)=l.off+o+j by omega] at hz
     rw[hz] at hy;simp at hy;subst hy;exact hr
   · simp at hx
theorem OK.change {φ:Ph} {h:aw} {w w':World} (ok:OK E φ h w) {i:Nat} {o o':aR} {l:Loc} (hg:h.get i=some o) (Hg:o.rw=true) (hl:φ i=some l)
 (ho:OR E φ o' l w'.heap[l.dZ]?) (rZ:∀c,c≠l.dZ→w'.heap[c]? =w.heap[c]?) (fA:w'.heap.size=w.heap.size)
 (hos:w'.os=w.os) (Ht:w'.tape=w.tape) (pN:w'.output=w.output):
 OK E φ (h.put i (some o')) w'∧Fr φ h w φ (h.put i (some o')) w':=by
 have fP:∀j p,(h.put i (some o')).get j=some p→(j=i∧p=o')∨(j≠i∧h.get j=some p):=fun j p hj=>by
  by_cases e:i=j
  · subst e;rw[aw.bS] at hj;simp at hj;exact .inl ⟨rfl,hj.symm⟩
  · rw[aw.bx e] at hj;exact .inr ⟨Ne.symm e,hj⟩
 refine ⟨⟨ok.Ao,ok.nx,ok.uW,fun j p m hj hm=>?_,fun j k p q m n hj hk hm hn hw hb=>?_⟩,⟨Ph.le_refl φ,fun _ _=>rfl,Nat.le_refl _,hos,Ht,pN,Nat.le_of_eq fA.symm,fun b _ hn=>?_,fun j p m hj hr hm=>?_⟩⟩
 · rcases fP j p hj with ⟨rfl,rfl⟩ | ⟨eu,nD⟩
   · rw[hl] at hm;simp at hm;subst hm;exact ho
   · rw[rZ _ (fun e=>eu (ok.inj j i p o m l nD hg hm hl (.inr Hg) e))]
     exact ok.live j p m nD hm
 · rcases fP j p hj with ⟨rfl,rfl⟩ | ⟨_,nD⟩<;>rcases fP k q hk with ⟨rfl,rfl⟩ | ⟨_,DM⟩
   · rfl
   · exact ok.inj _ _ _ _ _ _ hg DM hm hn (.inl Hg) hb
   · exact ok.inj _ _ _ _ _ _ nD hg hm hn (.inr Hg) hb
   · exact ok.inj _ _ _ _ _ _ nD DM hm hn hw hb
 · exact rZ b (fun e=>hn i o l hg Hg hl e.symm)
 · rcases fP j p hj with ⟨rfl,rfl⟩ | ⟨_,nD⟩
   · rw[hl] at hm;simp at hm;subst hm;exact .inr ⟨j,o,l,hg,Hg,hl,rfl⟩
   · exact .inr ⟨j,p,m,nD,hr,hm,rfl⟩
theorem OR.mono {φ φ':Ph} (hle:φ.le φ') {o:aR} {l:Loc} {x:Option Obj} (h:OR E φ o l x):OR E φ' o l x:=by
 cases o with
 | cells cs e ro=>
   obtain ⟨C,e',lo,hi,hx,hc⟩:=h
   exact ⟨C,e',lo,hi,hx,⟨hc.size,fun k x hk=>let ⟨y,a,b⟩:=hc.val k x hk;⟨y,a,b.mono hle⟩,hc.free,hc.zero⟩,hc.shape⟩
 | map es clock=>
   obtain ⟨h0,fX,hx,hl,hv⟩:=h
   exact ⟨h0,fX,hx,hl,fun i a b p q=>let r:=hv i a b p q;⟨r.key.mono hle,r.val.mono hle,r.born⟩⟩
 | uw s pos=>exact h
 | A2 m since seen qo=>
   cases m with
   | none=>exact h
   | some m=>obtain ⟨h0,lm,hm,hx⟩:=h;exact ⟨h0,lm,hle _ _ hm,hx⟩
 | loop st gV ts ps as_ bd dn=>obtain ⟨h0,r,hx,hr⟩:=h;exact ⟨h0,r,hx,hr.mono hle⟩
 | uT=>exact h
def Ph.add (φ:Ph) (i:Nat) (l:Loc):Ph:=fun j=>if j=i then some l else φ j
theorem OK.fresh {φ:Ph} {h h':aw} {w w':World} (ok:OK E φ h w) {o:aR} (hn:h.new o=some h') (l:Loc)
 (ho:OR E (φ.add h.nx l) o l w'.heap[l.dZ]?) (rZ:∀c,c≠l.dZ→c<w.heap.size→w'.heap[c]? =w.heap[c]?) (fA:w.heap.size≤w'.heap.size)
 (acA:w.heap.size≤l.dZ) (hos:w'.os=w.os) (Ht:w'.tape=w.tape) (pN:w'.output=w.output):
 OK E (φ.add h.nx l) h' w'∧Fr φ h w (φ.add h.nx l) h' w'∧φ.le (φ.add h.nx l):=by
 obtain ⟨j0,hnx,A7,hold⟩:=aw.kQ hn
 have E_:φ h.nx=none:=by
  cases e:φ h.nx with
  | none=>rfl
  | some m=>exact absurd (ok.Ao _ _ e) (Nat.lt_irrefl _)
 have hle:φ.le (φ.add h.nx l):=fun i m hm=>by
  unfold Ph.add;split
  · rename_i e;subst e;rw[E_] at hm;simp at hm
  · exact hm
 have hblk:∀j p m,h.get j=some p→φ j=some m→m.dZ<w.heap.size:=fun j p m hj hm=>by
  have AO:=ok.live j p m hj hm
  rcases Nat.lt_or_ge m.dZ w.heap.size with a | a
  · exact a
  · exfalso
    rw[Array.getElem?_eq_none a] at AO
    exact AO.absurd
 have fP:∀j p,h'.get j=some p→(j=h.nx∧p=o)∨(j≠h.nx∧h.get j=some p):=fun j p hj=>by
  by_cases e:j=h.nx
  · subst e;rw[A7] at hj;simp at hj;exact .inl ⟨rfl,hj.symm⟩
  · rw[hold j e] at hj;exact .inr ⟨e,hj⟩
 have jT:∀j,j≠h.nx→(φ.add h.nx l) j=φ j:=fun j hj=>by simp [Ph.add,hj]
 have gH:(φ.add h.nx l) h.nx=some l:=by simp [Ph.add]
 refine ⟨⟨fun i m hm=>?_,?_,fun g hg=>hle _ _ (ok.uW g hg),fun j p m hj hm=>?_,fun j k p q m n hj hk hm rE hw hb=>?_⟩,
  ⟨hle,fun i hi=>jT i (by omega),by omega,hos,Ht,pN,fA,fun b hb ZE=>rZ b (by omega) hb,fun j p m hj hr hm=>?_⟩,hle⟩
 · rw[hnx]
   by_cases e:i=h.nx
   · omega
   · rw[jT i e] at hm;have:=ok.Ao i m hm;omega
 · have:=ok.nx;omega
 · rcases fP j p hj with ⟨rfl,rfl⟩ | ⟨eu,nD⟩
   · rw[gH] at hm;simp at hm;subst hm;exact ho
   · rw[jT j eu] at hm
     rw[rZ _ (by have:=hblk j p m nD hm;omega) (hblk j p m nD hm)]
     exact (ok.live j p m nD hm).mono hle
 · rcases fP j p hj with ⟨rfl,rfl⟩ | ⟨eu,nD⟩<;>rcases fP k q hk with ⟨rfl,rfl⟩ | ⟨E',DM⟩
   · rfl
   · rw[gH] at hm;simp at hm;subst hm
     rw[jT k E'] at rE;have:=hblk k q n DM rE;omega
   · rw[gH] at rE;simp at rE;subst rE
     rw[jT j eu] at hm;have:=hblk j p m nD hm;omega
   · rw[jT j eu] at hm;rw[jT k E'] at rE;exact ok.inj _ _ _ _ _ _ nD DM hm rE hw hb
 · rcases fP j p hj with ⟨rfl,rfl⟩ | ⟨eu,nD⟩
   · rw[gH] at hm;simp at hm;subst hm;exact .inl acA
   · rw[jT j eu] at hm;exact .inr ⟨j,p,m,nD,hr,hm,rfl⟩
theorem OK.kill {φ:Ph} {h:aw} {w:World} (ok:OK E φ h w) {i:Nat}:OK E φ (h.put i none) w:=by
 have fP:∀j p,(h.put i none).get j=some p→h.get j=some p∧j≠i:=fun j p hj=>by
  by_cases e:i=j
  · subst e;rw[aw.bS] at hj;simp at hj
  · rw[aw.bx e] at hj;exact ⟨hj,Ne.symm e⟩
 exact ⟨ok.Ao,ok.nx,ok.uW,fun j p l hj hl=>ok.live j p l (fP j p hj).1 hl,fun j k p q m n hj hk=>ok.inj j k p q m n (fP j p hj).1 (fP k q hk).1⟩
end Go.Ab
end
