import GoSem.Step
import Derived.Calls
import Derived.Laws.Cells
import Derived.Laws.IdiomCopy
import Derived.Laws.NewBlocks
set_option linter.unusedVariables false
set_option linter.unusedSimpArgs false
section
namespace Go.Ab
inductive AV where
 | bool (b:Bool)
 | int (k:IntKind) (n:Int)
 | str (s:List UInt8)
 | eU
 | ptr (i off:Nat)
 | aI
 | slice (i off len cap:Nat) (op:Bool)
 | dc
 | map (i:Nat)
 | func (f:FuncId) (first captured:List AV)
 | cr (l:Nat)
 | nilFunc
 | iface (t:TypeId) (v:AV)
 | nilIface
 | agg (cs:List AV)
 | tuple (cs:List AV)
 | dG
 | any
 deriving Inhabited
def AV.undef:AV:= .tuple []
def AV.cells:AV→List AV
 | .agg cs=>cs
 | v=> [v]
def AV.scalar:AV→Bool
 | .agg _ | .tuple _=>false
 | _=>true
def cg {α:Type} (f:α→α→Bool):List α→List α→Bool
 | [],[]=>true
 | x::xs,y::ys=>f x y&&cg f xs ys
 | _,_=>false
def AV.same:Nat→AV→AV→Bool
 | 0,_,_=>false
 | n+1,x,y=>match x,y with
   | .bool a,.bool b=>a==b
   | .int k a,.int j b=>k==j&&a==b
   | .str a,.str b=>a==b
   | .eU,.eU=>true
   | .ptr i o,.ptr j p=>i==j&&o==p
   | .aI,.aI=>true
   | .dG,.dG=>true
   | .slice i o l c b,.slice j p m d e=>i==j&&o==p&&l==m&&c==d&&b==e
   | .dc,.dc=>true
   | .map i,.map j=>i==j
   | .func f a b,.func g c d=>f==g&&cg (AV.same n) a c&&cg (AV.same n) b d
   | .cr l,.cr m=>l==m
   | .nilFunc,.nilFunc=>true
   | .iface t a,.iface u b=>t==u&&AV.same n a b
   | .nilIface,.nilIface=>true
   | .agg a,.agg b=>cg (AV.same n) a b
   | .tuple a,.tuple b=>cg (AV.same n) a b
   | _,_=>false
def iX:Value→Option AV
 | .bool b=>some (.bool b)
 | .int k n=>some (.int k n)
 | .string s=>some (.str s.data.toList)
 | .pointer none=>some .eU
 | .slice none 0 0=>some .aI
 | .map none=>some .dc
 | .nilFunc=>some .nilFunc
 | .nilIface=>some .nilIface
 | _=>none
def dC {α β:Type} (f:α→Option β):List α→Option (List β)
 | []=>some []
 | x::xs=>match f x with
   | none=>none
   | some y=>match dC f xs with
     | none=>none
     | some ys=>some (y::ys)
def ofConst:Value→Option AV
 | .agg cs=>match dC iX cs.toList with
   | some l=>some (.agg l)
   | none=>none
 | .tuple cs=>match dC iX cs.toList with
   | some l=>some (.tuple l)
   | none=>none
 | .iface t v=>match iX v with
   | some x=>some (.iface t x)
   | none=>none
 | v=>iX v
structure fO where
 key:AV
 val:AV
 born:Nat
inductive aR where
 | cells (cs:List AV) (elem:TypeId) (ro:Bool)
 | map (es:List fO) (clock:Nat)
 | sj (s:List UInt8) (pos:Nat)
 | ym (m:Option Nat) (since:Nat) (seen:List Nat) (oD:Nat)
 | loop (st:LoopState) (pending:Option Code) (ts:List AV) (params:List Tmp) (assign body:Code) (dn:Nat)
 | tJ
 deriving Inhabited
structure P8 (α:Type) where
 a0:α
 a1:α
 a2:α
 a3:α
 a4:α
 a5:α
 a6:α
 a7:α
section
variable {α β:Type}
def P8.all (x:α):P8 α:=⟨x,x,x,x,x,x,x,x⟩
def s8 (d:Nat) (k:(P8 α→α)→β):β:=match d with
 | 0=>k P8.a0
 | 1=>k P8.a1
 | 2=>k P8.a2
 | 3=>k P8.a3
 | 4=>k P8.a4
 | 5=>k P8.a5
 | 6=>k P8.a6
 | _=>k P8.a7
def MG (d:Nat) (p:P8 α):α:=s8 d fun s=>s p
theorem sm (d:Nat) (k:(P8 α→α)→β):s8 d k=k (MG d):=by
 rcases d with _ | _ | _ | _ | _ | _ | _ | d<;>rfl
noncomputable def pe0 (f:α→α) (p:P8 α):P8 α:=P8.rec (motive:=fun _=>P8 α) (fun a b c d e i g h=>⟨f a,b,c,d,e,i,g,h⟩) p
noncomputable def pe1 (f:α→α) (p:P8 α):P8 α:=P8.rec (motive:=fun _=>P8 α) (fun a b c d e i g h=>⟨a,f b,c,d,e,i,g,h⟩) p
noncomputable def pe2 (f:α→α) (p:P8 α):P8 α:=P8.rec (motive:=fun _=>P8 α) (fun a b c d e i g h=>⟨a,b,f c,d,e,i,g,h⟩) p
noncomputable def pe3 (f:α→α) (p:P8 α):P8 α:=P8.rec (motive:=fun _=>P8 α) (fun a b c d e i g h=>⟨a,b,c,f d,e,i,g,h⟩) p
noncomputable def pe4 (f:α→α) (p:P8 α):P8 α:=P8.rec (motive:=fun _=>P8 α) (fun a b c d e i g h=>⟨a,b,c,d,f e,i,g,h⟩) p
noncomputable def pe5 (f:α→α) (p:P8 α):P8 α:=P8.rec (motive:=fun _=>P8 α) (fun a b c d e i g h=>⟨a,b,c,d,e,f i,g,h⟩) p
noncomputable def pe6 (f:α→α) (p:P8 α):P8 α:=P8.rec (motive:=fun _=>P8 α) (fun a b c d e i g h=>⟨a,b,c,d,e,i,f g,h⟩) p
noncomputable def pe7 (f:α→α) (p:P8 α):P8 α:=P8.rec (motive:=fun _=>P8 α) (fun a b c d e i g h=>⟨a,b,c,d,e,i,g,f h⟩) p
noncomputable def e8 (d:Nat) (k:((α→α)→P8 α→P8 α)→β):β:=match d with
 | 0=>k pe0
 | 1=>k pe1
 | 2=>k pe2
 | 3=>k pe3
 | 4=>k pe4
 | 5=>k pe5
 | 6=>k pe6
 | _=>k pe7
noncomputable def RZ (d:Nat) (f:α→α) (p:P8 α):P8 α:=e8 d fun u=>u f p
theorem wo (d:Nat) (k:((α→α)→P8 α→P8 α)→β):e8 d k=k (RZ d):=by
 rcases d with _ | _ | _ | _ | _ | _ | _ | d<;>rfl
theorem cG (d:Nat) (f:α→α) (p:P8 α):MG d (RZ d f p)=f (MG d p):=by
 rcases d with _ | _ | _ | _ | _ | _ | _ | d<;>rfl
theorem dg {d e:Nat} (hd:d<8) (he:e<8) (h:d≠e) (f:α→α) (p:P8 α):MG e (RZ d f p)=MG e p:=by
 rcases (show d=0∨d=1∨d=2∨d=3∨d=4∨d=5∨d=6∨d=7 by omega) with rfl | rfl | rfl | rfl | rfl | rfl | rfl | rfl<;>
 rcases (show e=0∨e=1∨e=2∨e=3∨e=4∨e=5∨e=6∨e=7 by omega) with rfl | rfl | rfl | rfl | rfl | rfl | rfl | rfl<;>
 first | rfl | exact absurd rfl h
theorem xS (d:Nat) (x:α):MG d (P8.all x)=x:=by
 rcases d with _ | _ | _ | _ | _ | _ | _ | d<;>rfl
noncomputable def canon (n:Nat) (f:Nat→β):β:=Nat.rec (motive:=fun _=>β) (f 0) (fun m _=>f (Nat.succ m)) n
theorem jI (n:Nat) (f:Nat→β):canon n f=f n:=by cases n<;>rfl
end
abbrev H3:Type:=P8 (P8 (P8 (Option aR)))
abbrev HT:Type:=P8 (P8 (P8 H3))
structure Hi where
 get:HT→H3
 R0:(H3→H3)→HT→HT
structure Lo where
 get:H3→Option aR
 R0:Option aR→H3→H3
structure HP where
 get:HT→Option aR
 put:Option aR→HT→HT
noncomputable def Ko (q:Nat):Hi:=s8 (Nat.div q 64) fun g1=>s8 (Nat.mod (Nat.div q 8) 8) fun g2=>s8 (Nat.mod q 8) fun g3=>
 e8 (Nat.div q 64) fun u1=>e8 (Nat.mod (Nat.div q 8) 8) fun u2=>e8 (Nat.mod q 8) fun u3=>⟨fun t=>g3 (g2 (g1 t)),fun f t=>u1 (u2 (u3 f)) t⟩
noncomputable def MH (q:Nat):Lo:=s8 (Nat.div q 64) fun g1=>s8 (Nat.mod (Nat.div q 8) 8) fun g2=>s8 (Nat.mod q 8) fun g3=>
 e8 (Nat.div q 64) fun u1=>e8 (Nat.mod (Nat.div q 8) 8) fun u2=>e8 (Nat.mod q 8) fun u3=>⟨fun t=>g3 (g2 (g1 t)),fun o t=>u1 (u2 (u3 fun _=>o)) t⟩
noncomputable def acH (a:Hi) (b:Lo):HP:=Hi.rec (motive:=fun _=>HP) (fun g u=>Lo.rec (motive:=fun _=>HP) (fun g' u'=>⟨fun t=>g' (g t),fun o t=>u (u' o) t⟩) b) a
noncomputable def hp (i:Nat):HP:=bif Nat.ble 262144 i then ⟨fun _=>none,fun _ t=>t⟩ else canon (Nat.div i 512) fun q=>canon (Nat.mod i 512) fun p=>acH (Ko q) (MH p)
structure au where
 t:HT
 nx:Nat
 f:Nat→Option aR
noncomputable def au.get (h:au) (i:Nat):Option aR:=bif Nat.ble 262144 i then h.f i else (hp i).get h.t
def GP (f:Nat→Option aR) (i:Nat) (o:Option aR):Nat→Option aR:=fun j=>bif Nat.beq j i then o else f j
noncomputable def au.put (h:au) (i:Nat) (o:Option aR):au:=⟨bif Nat.ble 262144 i then h.t else (hp i).put o h.t,h.nx,bif Nat.ble 262144 i then GP h.f i o else h.f⟩
noncomputable def au.new (h:au) (o:aR):Option au:=some ⟨bif Nat.ble 262144 h.nx then h.t else (hp h.nx).put (some o) h.t,h.nx+1,bif Nat.ble 262144 h.nx then GP h.f h.nx (some o) else h.f⟩
def HT.nil:HT:=P8.all (P8.all (P8.all (P8.all (P8.all (P8.all none)))))
structure Env where
 P:Program
 G:Nat
 kB:FuncId→Option (List AV→Option AV)
 gF:FuncId→Option (List AV→au→Option (AV×au))
 bld:Option TypeId:=none
variable (E:Env)
def du (ts:List AV):Operand→Option AV
 | .tmp t=>some (ts.getD t AV.undef)
 | .const v=>ofConst v
 | .global g=>if g<E.G then some (.ptr g 0) else none
 | .func f=>some (.func f [] [])
def bT (t:TypeId):Option Nat:=(E.P.info? t).map (·.size)
def eK (t:TypeId):Option Nat:=if E.bld=some t then none else (E.P.info? t).map (·.bytes)
def eh (t:TypeId):Option AV:=match E.P.info? t with
 | some i=>match i.zero with
   | some z=>ofConst z
   | none=>none
 | none=>none
def eA (t:TypeId):Option Bool:=match E.P.underlying t with
 | some (.struct _)=>some true
 | some (.array _ _)=>some true
 | some _=>some false
 | none=>none
def eV (z:List AV):Nat→List AV
 | 0=> []
 | n+1=>z++eV z n
def fU (t:TypeId) (cs:List AV) (off:Nat):Option AV:=match eA E t with
 | some true=>match bT E t with
   | some n=>if off+n≤cs.length then some (.agg ((cs.drop off).take n)) else none
   | none=>none
 | some false=>cs[off]?
 | none=>none
def cF (op:BinOp) (k:IntKind) (a b:Int):Option AV:=match op with
 | .add=>some (.int k (k.wrap (a+b)))
 | .sub=>some (.int k (k.wrap (a - b)))
 | .mul=>some (.int k (k.wrap (a*b)))
 | .quo=>if b=0 then none else some (.int k (k.wrap (a.tdiv b)))
 | .rem=>if b=0 then none else some (.int k (a.tmod b))
 | .and=>some (.int k (k.wrap (BitVec.ofInt k.bits a&&& BitVec.ofInt k.bits b).toNat))
 | .or=>some (.int k (k.wrap (BitVec.ofInt k.bits a||| BitVec.ofInt k.bits b).toNat))
 | .xor=>some (.int k (k.wrap (BitVec.ofInt k.bits a^^^BitVec.ofInt k.bits b).toNat))
 | .andNot=>some (.int k (k.wrap (BitVec.ofInt k.bits a&&& ~~~ BitVec.ofInt k.bits b).toNat))
 | .eql=>some (.bool (a==b))
 | .neq=>some (.bool (a !=b))
 | .lss=>some (.bool (a<b))
 | .leq=>some (.bool (a≤b))
 | .gtr=>some (.bool (a>b))
 | .geq=>some (.bool (a≥b))
 | _=>none
def sK (op:BinOp) (a b:List UInt8):Option AV:=match op with
 | .add=>if a.length+b.length<1099511627776 then some (.str (a++b)) else none
 | .eql=>some (.bool (a==b))
 | .neq=>some (.bool !(a==b))
 | .lss=>some (.bool (Op.bytesLess a b))
 | .leq=>some (.bool (Op.bytesLess a b||a==b))
 | .gtr=>some (.bool !(Op.bytesLess a b||a==b))
 | .geq=>some (.bool !(Op.bytesLess a b))
 | _=>none
def Kp (t:TypeId) (a b:AV):Option Bool:=match E.P.underlying t with
 | some .bool=>match a,b with
   | .bool x,.bool y=>some (x==y)
   | _,_=>none
 | some (.pointer _)=>match a,b with
   | .eU,.eU=>some true
   | .eU,.ptr _ _=>some false
   | .ptr _ _,.eU=>some false
   | _,_=>none
 | some (.interface _)=>match a,b with
   | .nilIface,.nilIface=>some true
   | .nilIface,.iface _ _=>some false
   | .iface _ _,.nilIface=>some false
   | _,_=>none
 | some (.slice _)=>match a,b with
   | .aI,.aI=>some true
   | .aI,.slice .. =>some false
   | .slice ..,.aI=>some false
   | _,_=>none
 | some (.map _ _)=>match a,b with
   | .dc,.dc=>some true
   | .dc,.map _=>some false
   | .map _,.dc=>some false
   | _,_=>none
 | some (.func ..)=>match a,b with
   | .nilFunc,.nilFunc=>some true
   | .nilFunc,.func .. =>some false
   | .func ..,.nilFunc=>some false
   | _,_=>none
 | _=>none
def lS (eq:TypeId→AV→AV→Option Bool) (xs ys:List AV):List Field→Option Bool
 | []=>some true
 | f::fs=>if f.name= "_" then lS eq xs ys fs else match fU E f.type xs f.offset,fU E f.type ys f.offset with
   | some a,some b=>match eq f.type a b with
     | some true=>lS eq xs ys fs
     | some false=>some false
     | none=>none
   | _,_=>none
def gG:Nat→TypeId→AV→AV→Option Bool
 | 0,_,_,_=>none
 | n+1,t,a,b=>match a,b with
   | .int k x,.int j y=>match E.P.underlying t with
     | some (.int _)=>if k=j then some (x==y) else none
     | _=>none
   | .str x,.str y=>match E.P.underlying t with
     | some .string=>some (x==y)
     | _=>none
   | .agg xs,.agg ys=>match E.P.underlying t with
     | some (.struct fs)=>if E.P.stoodInHeld t=false then lS E (gG n) xs ys fs.toList else none
     | _=>none
   | a,b=>Kp E t a b
def isConst:Operand→Bool
 | .const _=>true
 | _=>false
def mX (xc yc:Bool):AV→AV→Bool
 | .nilIface,.nilIface=>xc||yc
 | .agg _,.agg _=>false
 | .any,_=>false
 | _,.any=>false
 | _,_=>true
def iJ (op:BinOp) (t:TypeId) (xc yc:Bool) (a b:AV):Option AV:=match op,a,b with
 | .shl,.int k x,.int _ y=>if y<0 then none else some (.int k (k.wrap (x*2^(min y.toNat k.bits))))
 | .shr,.int k x,.int _ y=>if y<0 then none else some (.int k (x.fdiv (2^(min y.toNat k.bits))))
 | op,.int k x,.int k' y=>if k=k' then cF op k x y else none
 | op,.str x,.str y=>sK op x y
 | .eql,.agg xs,.agg ys=>if E.P.eqGuardType E.P.depth t then none else (match gG E 16 t (.agg xs) (.agg ys) with
   | some r=>some (.bool r)
   | none=>none)
 | .neq,.agg xs,.agg ys=>if E.P.eqGuardType E.P.depth t then none else (match gG E 16 t (.agg xs) (.agg ys) with
   | some r=>some (.bool !r)
   | none=>none)
 | .eql,x,y=>if mX xc yc x y then (match Kp E t x y with
   | some r=>some (.bool r)
   | none=>none) else none
 | .neq,x,y=>if mX xc yc x y then (match Kp E t x y with
   | some r=>some (.bool !r)
   | none=>none) else none
 | _,_,_=>none
def Ys (op:UnOp) (x:AV):Option AV:=match op,x with
 | .neg,.int k n=>some (.int k (k.wrap (0 - n)))
 | .xor,.int k n=>some (.int k (k.wrap (BitVec.ofInt k.bits (if k.signed then -1 else k.max)^^^BitVec.ofInt k.bits n).toNat))
 | .not,.bool b=>some (.bool !b)
 | _,_=>none
def lV (x:AV) (y:Nat):Option Nat:=match x with
 | .int _ i=>if 0≤i∧i≤y then some i.toNat else none
 | _=>none
def jf (len cap:Nat) (low high max:Option AV):Option (Nat×Nat×Nat):=
 match (match max with | some v=>lV v cap | none=>some cap) with
 | none=>none
 | some m=>match (match high with | some v=>lV v m | none=>if max.isSome then none else some len) with
   | none=>none
   | some h=>match (match low with | some v=>lV v h | none=>some 0) with
     | none=>none
     | some l=>some (l,h,m)
def kJ (ts:List AV):Option Operand→Option (Option AV)
 | none=>some none
 | some o=>match du E ts o with
   | some v=>some (some v)
   | none=>none
def dW (t:TypeId) (x:AV) (low high max:Option AV):Option AV:=match E.P.underlying t,x with
 | some (.array n elem),.ptr i o=>match jf n n low high max,bT E elem with
   | some (l,h,m),some size=>some (.slice i (if m=l then o else o+l*size) (h - l) (m - l) false)
   | _,_=>none
 | some .string,.str s=>match max,jf s.length s.length low high none with
   | none,some (l,h,_)=>some (.str ((s.drop l).take (h - l)))
   | _,_=>none
 | some (.slice elem),.aI=>match jf 0 0 low high max,bT E elem with
   | some _,some _=>some .aI
   | _,_=>none
 | some (.slice elem),.slice i o len cap op=>
   if len≤cap then match jf len cap low high max,bT E elem with
   | some (l,h,m),some size=>
     if m=l then (if op&&max.isNone then some .dG else some (.slice i o (h - l) (m - l) false))
     else some (.slice i (o+l*size) (h - l) (m - l) (op&&max.isNone))
   | _,_=>none
   else none
 | _,_=>none
def kK (t:TypeId) (f:Nat):Option Field:=match E.P.underlying t with
 | some (.struct fs)=>fs[f]?
 | _=>none
def setFrom (cs:List AV) (off:Nat):List AV→List AV
 | []=>cs
 | v::vs=>setFrom (cs.set off v) (off+1) vs
def pC (place:Nat→Option (Nat×Nat)) (cs:List AV):List (Nat×AV)→Option (List AV)
 | []=>some cs
 | (i,v)::rest=>match place i with
   | none=>none
   | some (off,size)=>if v.cells.length=size∧off+size≤cs.length then pC place (setFrom cs off v.cells) rest else none
def iK (ts:List AV):List (Nat×Operand)→Option (List (Nat×AV))
 | []=>some []
 | (i,o)::rest=>match du E ts o with
   | none=>none
   | some v=>match iK ts rest with
     | none=>none
     | some l=>some ((i,v)::l)
def placesOf (fs:List Field):Option (List (Nat×Nat)):=dC (fun f=>match bT E f.type with | some n=>some (f.offset,n) | none=>none) fs
def Ci (t:TypeId) (parts:List (Nat×AV)):Option AV:=match eh E t with
 | none=>none
 | some z=>match E.P.underlying t with
   | some (.struct fs)=>match placesOf E fs.toList with
     | none=>none
     | some ps=>match pC (ps[·]?) z.cells parts with
       | some cs=>some (.agg cs)
       | none=>none
   | some (.array _ elem)=>match bT E elem with
     | none=>none
     | some n=>match pC (fun i=>some (i*n,n)) z.cells parts with
       | some cs=>some (.agg cs)
       | none=>none
   | _=>none
def GQ:AV→List AV→Option AV
 | .int k x,[]=>some (.int k x)
 | .int k x,.int _ y::rest=>GQ (.int k (if y>x then y else x)) rest
 | _,_=>none
def GR:AV→List AV→Option AV
 | .int k x,[]=>some (.int k x)
 | .int k x,.int _ y::rest=>GR (.int k (if y<x then y else x)) rest
 | _,_=>none
def eQ (ts:List AV) (l:List Operand):Option (List AV):=dC (du E ts) l
def IS (n:Int):Option AV:=if 0≤n∧n<128 then some (.str [UInt8.ofNat n.toNat]) else none
def bk (ts:List AV):Op→Option AV
 | .move x=>du E ts x
 | .assign x=>du E ts x
 | .pick c a b=>match du E ts c with
   | some (.bool true)=>du E ts a
   | some (.bool false)=>du E ts b
   | _=>none
 | .build t parts=>match iK E ts parts.toList with
   | some ps=>Ci E t ps
   | none=>none
 | .nilCheck x=>match du E ts x with
   | some (.ptr i o)=>some (.ptr i o)
   | some (.map i)=>some (.map i)
   | some (.slice i o l c b)=>some (.slice i o l c b)
   | some (.func f a b)=>some (.func f a b)
   | _=>none
 | .binOp op t x y _=>match du E ts x,du E ts y with
   | some a,some b=>iJ E op t (isConst x) (isConst y) a b
   | _,_=>none
 | .unOp op _ x=>match du E ts x with
   | some a=>Ys op a
   | none=>none
 | .convert src dst x=>match E.P.underlying src,E.P.underlying dst,du E ts x with
   | some _,some (.int k),some (.int _ n)=>some (.int k (k.wrap n))
   | some _,some .string,some (.str s)=>some (.str s)
   | some _,some .string,some (.int _ n)=>IS n
   | _,_,_=>none
 | .makeInterface t x=>match E.P.underlying t,du E ts x with
   | some (.interface _),_=>none
   | some _,some v=>some (.iface t v)
   | _,_=>none
 | .makeFunc (.func f) first captured=>match eQ E ts first.toList,eQ E ts captured.toList with
   | some a,some b=>some (.func f a b)
   | _,_=>none
 | .slice t x lo hi mx=>match du E ts x,kJ E ts lo,kJ E ts hi,kJ E ts mx with
   | some v,some l,some h,some m=>dW E t v l h m
   | _,_,_,_=>none
 | .fieldAddr s x f=>match kK E s f,du E ts x with
   | some fd,some (.ptr i o)=>match bT E fd.type with
     | some n=>if n=0 then none else some (.ptr i (o+fd.offset))
     | none=>none
   | _,_=>none
 | .field s x f=>match kK E s f,du E ts x with
   | some fd,some (.agg cs)=>fU E fd.type cs fd.offset
   | _,_=>none
 | .indexAddr t x ix=>match E.P.underlying t,du E ts x,du E ts ix with
   | some (.array len elem),some (.ptr i o),some (.int _ n)=>match bT E elem with
     | some size=>if 0≤n∧n<len then some (.ptr i (o+n.toNat*size)) else none
     | none=>none
   | some (.slice elem),some (.slice i o len _ _),some (.int _ n)=>match bT E elem with
     | some size=>if 0≤n∧n<len then some (.ptr i (o+n.toNat*size)) else none
     | none=>none
   | _,_,_=>none
 | .index t x ix=>match E.P.underlying t,du E ts x,du E ts ix with
   | some (.array len elem),some (.agg cs),some (.int _ n)=>match bT E elem with
     | some size=>if 0≤n∧n<len then fU E elem cs (n.toNat*size) else none
     | none=>none
   | some .string,some (.str s),some (.int _ n)=>if 0≤n then (match s[n.toNat]? with | some b=>some (.int .u8 b.toNat) | none=>none) else none
   | _,_,_=>none
 | .extract x i=>match du E ts x with
   | some (.tuple vs)=>vs[i]?
   | _=>none
 | .typeAssert x _ asserted fI=>match E.P.underlying asserted,du E ts x with
   | some (.interface _),_=>none
   | some _,some (.iface t v)=>
     if t=asserted then some (if fI then .tuple [v,.bool true] else v)
     else if fI then (match eh E asserted with | some z=>some (.tuple [z,.bool false]) | none=>none) else none
   | some _,some .nilIface=>if fI then (match eh E asserted with | some z=>some (.tuple [z,.bool false]) | none=>none) else none
   | _,_=>none
 | .call {callee:= .builtin .len,args,argTypes}=>match argTypes[0]?,eQ E ts args.toList with
   | some t,some [v]=>match E.P.underlying t,v with
     | some .string,.str s=>some (.int .i64 s.length)
     | some (.array n _),_=>some (.int .i64 n)
     | some (.slice _),.aI=>some (.int .i64 0)
     | some (.slice _),.slice _ _ n _ _=>some (.int .i64 n)
     | some (.slice _),.dG=>some (.int .i64 0)
     | some (.map _ _),.dc=>some (.int .i64 0)
     | _,_=>none
   | _,_=>none
 | .call {callee:= .builtin .cap,args,argTypes}=>match argTypes[0]?,eQ E ts args.toList with
   | some t,some [v]=>match E.P.underlying t,v with
     | some (.array n _),_=>some (.int .i64 n)
     | some (.slice _),.aI=>some (.int .i64 0)
     | some (.slice _),.slice _ _ _ c false=>some (.int .i64 c)
     | _,_=>none
   | _,_=>none
 | .call {callee:= .builtin .max,args,..}=>match eQ E ts args.toList with
   | some (x::rest)=>GQ x rest
   | _=>none
 | .call {callee:= .builtin .min,args,..}=>match eQ E ts args.toList with
   | some (x::rest)=>GR x rest
   | _=>none
 | .call {callee:= .value (.func f),args,..}=>match E.kB f,eQ E ts args.toList with
   | some e,some vs=>e vs
   | _,_=>none
 | _=>none
noncomputable def bw (h:au) (t:TypeId) (a:AV):Option AV:=match a with
 | .ptr i o=>match h.get i with
   | some (.cells cs _ _)=>fU E t cs o
   | _=>none
 | _=>none
def Bc:AV→AV→Option Bool
 | .str a,.str b=>some (a==b)
 | .int k a,.int k' b=>if k=k' then some (a==b) else none
 | .bool a,.bool b=>some (a==b)
 | _,_=>none
def gH (d:Option TypeDesc) (k:AV):Bool:=match d,k with
 | some .string,.str _=>true
 | some (.int _),.int _ _=>true
 | some .bool,.bool _=>true
 | _,_=>false
def lW:List AV→List AV→Bool
 | [],[]=>true
 | .int k a::xs,.int j b::ys=>decide (k=j)&&decide (a=b)&&lW xs ys
 | .str a::xs,.str b::ys=>(a==b)&&lW xs ys
 | _,_=>false
def iu (d:Option TypeDesc) (k:AV):Bool:=match d,k with
 | some (.struct fs),.agg xs=>fs.toList.all fun f=>match E.P.underlying f.type,fU E f.type xs f.offset with
   | some (.int _),some (.int _ _)=>true
   | some .string,some (.str _)=>true
   | _,_=>false
 | _,_=>false
def findD (key:TypeId) (k:AV):List fO→Nat→Option (Option (Nat×AV))
 | [],_=>some none
 | e::es,i=>match gG E 16 key k e.key with
   | some true=>(match k,e.key with | .agg xs,.agg ys=>if lW xs ys then some (some (i,e.val)) else none | _,_=>none)
   | some false=>findD key k es (i+1)
   | none=>none
def pX (k:AV):List fO→Nat→Option (Option (Nat×AV))
 | [],_=>some none
 | e::es,i=>match Bc k e.key with
   | some true=>some (some (i,e.val))
   | some false=>pX k es (i+1)
   | none=>none
noncomputable def Cj (h:au) (i o n:Nat):Option (List UInt8):=match h.get i with
 | some (.cells cs _ _)=>if o+n≤cs.length then
  dC (fun | .int .u8 b=>some (UInt8.ofNat b.toNat) | _=>none) ((cs.drop o).take n) else none
 | _=>none
noncomputable def dh (ts:List AV) (h:au):Op→Option AV
 | .load t a=>match du E ts a with
   | some v=>bw E h t v
   | none=>none
 | .convert src dst x=>match E.P.underlying src,E.P.underlying dst,du E ts x with
   | some (.slice e),some .string,some v=>match E.P.underlying e,v with
     | some (.int .u8),.aI=>some (.str [])
     | some (.int .u8),.slice i o len _ _=>match Cj h i o len with
       | some l=>some (.str l)
       | none=>none
     | _,_=>none
   | _,_,_=>none
 | .lookup t x ix fI=>match E.P.underlying t,du E ts x,du E ts ix with
   | some (.map key elem),some m,some k=>
     if gH (E.P.underlying key) k then
      match (match m with | .dc=>some [] | .map i=>(match h.get i with | some (.map es _)=>some es | _=>none) | _=>none) with
      | none=>none
      | some es=>match pX k es 0 with
        | none=>none
        | some (some (_,v))=>some (if fI then .tuple [v,.bool true] else v)
        | some none=>match eh E elem with
          | some z=>some (if fI then .tuple [z,.bool false] else z)
          | none=>none
     else if iu E (E.P.underlying key) k then
      match (match m with | .dc=>some [] | .map i=>(match h.get i with | some (.map es _)=>some es | _=>none) | _=>none) with
      | none=>none
      | some es=>match findD E key k es 0 with
        | none=>none
        | some (some (_,v))=>some (if fI then .tuple [v,.bool true] else v)
        | some none=>match eh E elem with
          | some z=>some (if fI then .tuple [z,.bool false] else z)
          | none=>none
     else none
   | _,_,_=>none
 | .call {callee:= .builtin .len,args,argTypes}=>match argTypes[0]?,eQ E ts args.toList with
   | some t,some [.map i]=>match E.P.underlying t,h.get i with
     | some (.map _ _),some (.map es _)=>some (.int .i64 es.length)
     | _,_=>none
   | _,_=>none
 | _=>none
def dv (ts:List AV):Op→Option (aR×(Nat→AV))
 | .alloc t=>match eh E t with
   | some z=>some (.cells z.cells t false,fun i=> .ptr i 0)
   | none=>none
 | .box t x=>match du E ts x with
   | some v=>some (.cells v.cells t false,fun i=> .ptr i 0)
   | none=>none
 | .buildSlice t len parts=>match E.P.underlying t with
   | some (.slice elem)=>match bT E elem,eh E elem,iK E ts parts.toList with
     | some n,some z,some ps=>if z.cells.length=n∧len*n≤2^24 then
      match pC (fun i=>some (i*n,n)) (eV z.cells len) ps with
      | some cs=>some (.cells cs elem false,fun i=> .slice i 0 len len false)
      | none=>none
       else none
     | _,_,_=>none
   | _=>none
 | .makeSlice t l c=>match E.P.underlying t,du E ts l,du E ts c with
   | some (.slice elem),some (.int _ len),some (.int _ cap)=>match bT E elem,eK E elem,eh E elem with
     | some n,some bytes,some z=>
       if 0≤len∧len≤cap∧cap<2^30∧(bytes:Int)*cap≤2^47∧z.cells.length=n then
        some (.cells (eV z.cells cap.toNat) elem false,fun i=> .slice i 0 len.toNat cap.toNat false)
       else none
     | _,_,_=>none
   | _,_,_=>none
 | .makeMap t r=>match r with
   | none=>some (.map [] 0,fun i=> .map i)
   | some o=>match E.P.underlying t,du E ts o with
     | some (.map _ _),some (.int _ _)=>some (.map [] 0,fun i=> .map i)
     | _,_=>none
 | .range t x=>match E.P.underlying t,du E ts x with
   | some .string,some (.str s)=>some (.sj s 0,fun i=> .ptr i 0)
   | some (.map _ _),some .dc=>some (.ym none 0 [] 0,fun i=> .ptr i 0)
   | _,_=>none
 | _=>none
noncomputable def dX (h:au) (t:TypeId) (a v:AV):Option au:=match a with
 | .ptr i o=>match h.get i,bT E t with
   | some (.cells cs e false),some n=>if v.cells.length=n∧o+n≤cs.length∧v.cells.all AV.scalar=true then some (h.put i (some (.cells (setFrom cs o v.cells) e false))) else none
   | _,_=>none
 | _=>none
def jD:AV→Option Nat
 | .aI=>some 0
 | .slice _ _ n _ _=>some n
 | .str s=>some s.length
 | .dG=>some 0
 | _=>none
noncomputable def dP (h:au) (size n:Nat):AV→Option (List AV)
 | .aI=>if n=0 then some [] else none
 | .dG=>if n=0 then some [] else none
 | .slice i o len _ _=>if n≤len then (if n=0 then some [] else match h.get i with
  | some (.cells cs _ _)=>if o+n*size≤cs.length then some ((cs.drop o).take (n*size)) else none
  | _=>none) else none
 | .str s=>if size=1 then some ((s.take n).map fun b=> .int .u8 b.toNat) else none
 | _=>none
def jk:TypeDesc→Bool
 | .int _=>true
 | _=>false
noncomputable def pY (h:au) (elem:TypeId) (s x:AV):Option (AV×au):=match s,x,bT E elem,eK E elem,eh E elem with
 | .aI,.int _ k,some size,some bytes,some z=>
   if 0<k∧0<size∧(4*k.toNat+4096)*(bytes+1)≤1099511627776∧z.cells.length=size then
    match h.new (.cells (eV z.cells k.toNat) elem false) with
    | some h'=>some (.slice h.nx 0 k.toNat k.toNat true,h')
    | none=>none
   else none
 | _,_,_,_,_=>none
noncomputable def bf (h:au) (argTypes:Array TypeId) (s x:AV):Option (AV×au):=match argTypes[0]?,argTypes[1]? with
 | some sT,some xT=>match E.P.underlying sT,E.P.underlying xT with
   | some (.slice elem),some xd=>if jk xd then pY E h elem s x else match bT E elem,eK E elem,jD x with
     | some size,some bytes,some n=>match dP h size n x,eh E elem with
       | some new,some z=>if z.cells.length=size∧new.all AV.scalar=true∧new.length=n*size then
         match s with
         | .aI=>if n=0 then some (.aI,h) else if (4*n+4096)*(bytes+1)≤1099511627776 then
          (match h.new (.cells new elem false) with
          | some h'=>some (.slice h.nx 0 n n true,h')
          | none=>none) else none
         | .slice i o len cap op=>match h.get i with
           | some (.cells cs e false)=>
             if len+n≤cap then
              if o+(len+n)*size≤cs.length then some (.slice i o (len+n) cap op,h.put i (some (.cells (setFrom cs (o+len*size) new) e false))) else none
             else if (4*(len+n)+4096)*(bytes+1)≤1099511627776∧o+len*size≤cs.length∧(op=true→e=elem∧o+cap*size=cs.length∧o=0) then
              match (if op then h.put i none else h).new (.cells ((cs.drop o).take (len*size)++new) elem false) with
              | some h'=>some (.slice h.nx 0 (len+n) (len+n) true,h')
              | none=>none
             else none
           | _=>none
         | _=>none else none
       | _,_=>none
     | _,_,_=>none
   | _,_=>none
 | _,_=>none
noncomputable def so (h:au) (argTypes:Array TypeId) (d s:AV):Option (AV×au):=match argTypes[0]? with
 | some dT=>match E.P.underlying dT,jD s with
   | some (.slice elem),some m=>match bT E elem,d with
     | some _,.aI=>some (.int .i64 0,h)
     | some size,.slice i o len _ _=>match dP h size (min m len) s,h.get i with
       | some new,some (.cells cs e false)=>if o+new.length≤cs.length∧new.all AV.scalar=true then some (.int .i64 (min m len:Nat),h.put i (some (.cells (setFrom cs o new) e false))) else none
       | _,_=>none
     | _,_=>none
   | _,_=>none
 | none=>none
def di (es:List fO) (i:Nat) (v:AV):List fO:=match es,i with
 | [],_=> []
 | e::es,0=>{e with val:=v}::es
 | e::es,i+1=>e::di es i v
noncomputable def dH (h:au) (t:TypeId) (m k v:AV):Option au:=match E.P.underlying t,m with
 | some (.map key _),.map i=>match h.get i with
   | some (.map es clock)=>if gH (E.P.underlying key) k then
    match pX k es 0 with
    | some (some (j,_))=>some (h.put i (some (.map (di es j v) clock)))
    | some none=>some (h.put i (some (.map (es++[{key:=k,val:=v,born:=clock}]) (clock+1))))
    | none=>none
     else if iu E (E.P.underlying key) k then
      match findD E key k es 0 with
      | some (some (j,_))=>some (h.put i (some (.map (di es j v) clock)))
      | some none=>some (h.put i (some (.map (es++[{key:=k,val:=v,born:=clock}]) (clock+1))))
      | none=>none
     else none
   | _=>none
 | _,_=>none
noncomputable def vq (h:au) (t:TypeId) (m k:AV):Option (AV×au):=match E.P.underlying t,m with
 | some (.map key elem),.map i=>match h.get i with
   | some (.map es clock)=>if iu E (E.P.underlying key) k then
    match findD E key k es 0 with
    | some (some (j,v))=>(match es[j]? with
      | some e=>some (.tuple [v,.int .i64 e.born],h.put i (some (.map es clock)))
      | none=>none)
    | some none=>(match eh E elem with
      | some z=>some (.tuple [z,.int .i64 clock],h.put i (some (.map (es++[{key:=k,val:=z,born:=clock}]) (clock+1))))
      | none=>none)
    | none=>none
     else none
   | _=>none
 | _,_=>none
noncomputable def pZ (h:au) (m s x:AV):Option au:=match m,s with
 | .map i,.int _ n=>match h.get i with
   | some (.map es clock)=>match es.findIdx? (fun e=>(e.born:Int)==n) with
     | some j=>some (h.put i (some (.map (di es j x) clock)))
     | none=>none
   | _=>none
 | _,_=>none
noncomputable def Be (h:au) (it:AV) (isString:Bool):Option (AV×au):=match it with
 | .ptr r 0=>match h.get r,isString with
   | some (.sj s pos),true=>
     if pos<s.length then
      match s[pos]? with
      | some b=>if b.toNat<128 then some (.tuple [.bool true,.int .i64 pos,.int .i32 b.toNat],h.put r (some (.sj s (pos+1)))) else none
      | none=>none
     else some (.tuple [.bool false],h)
   | some (.ym none _ _ _),false=>some (.tuple [.bool false],h)
   | _,_=>none
 | _=>none
noncomputable def Bf (h:au) (src dst:TypeId) (x:Option AV):Option (AV×au):=match E.P.underlying src,E.P.underlying dst,x with
 | some .string,some (.slice e),some (.str s)=>match E.P.underlying e,h.new (.cells (s.map fun b=> .int .u8 b.toNat) e false) with
   | some (.int .u8),some h'=>if bT E e=some 1 then some (.slice h.nx 0 s.length s.length true,h') else none
   | _,_=>none
 | _,_,_=>none
inductive nw where
 | call (f:FuncId) (args:List AV)
 | MI (r:Nat)
inductive Fn where
 | fn (f:FuncId)
 | sL (l:Nat)
inductive gR where
 | normal
 | exit (id:Nat)
 | ret
 | panic (v:AV)
inductive RC where
 | no
 | fS (v:AV)
 | done
 | pT (l:Nat)
structure St where
 ts:List AV
 h:au
 ds:List nw
 rc:RC
inductive Out where
 | ok (e:gR) (s:St)
 | fail (why:String) (o:Option Oper)
inductive gY where
 | ret (v:AV) (h:au)
 | panic (v:AV) (h:au)
 | fail (why:String) (o:Option Oper)
abbrev aW:=Fn→List AV→au→gY
inductive vr where
 | val (v:AV) (h:au)
 | defer (d:nw)
 | pD (v:AV)
 | panic (v:AV) (h:au)
 | fail (why:String) (o:Option Oper)
def callee (ts:List AV) (c:Call):Option (Fn×List AV):=match c.callee with
 | .value f=>match du E ts f,eQ E ts c.args.toList with
   | some (.func g first captured),some args=>some (.fn g,first++args++captured)
   | some (.cr l),some args=>some (.sL l,args)
   | _,_=>none
 | _=>none
def tK (t:TypeId) (name:String):Option FuncId:=match E.P.info? t with
 | some i=>match i.methods.find? (·.name==name) with
   | some m=>if m.path.isEmpty then match m.func,E.P.underlying t with
     | _,some (.pointer _)=>none
     | some (f,false),some _=>some f
     | _,_=>none
     else none
   | none=>none
 | none=>none
def iv:Fn→Option (List AV→au→Option (AV×au))
 | .fn f=>E.gF f
 | .sL _=>none
noncomputable def cI (call:aW) (ts:List AV) (h:au) (rc:RC) (o:Oper):vr:=
 let v (r:Option (AV×au)):vr:=match r with
  | some (x,h')=> .val x h'
  | none=> .fail "eff" (some o)
 match o.op with
 | .store t a x=>match du E ts a,du E ts x with
   | some av,some xv=>match dX E h t av xv with
     | some h'=> .val AV.undef h'
     | none=> .fail "store" (some o)
   | _,_=> .fail "store ops" (some o)
 | .mapUpdate t m k x=>match du E ts m,du E ts k,du E ts x with
   | some mv,some kv,some xv=>match dH E h t mv kv xv with
     | some h'=> .val AV.undef h'
     | none=> .fail "mapUpdate" (some o)
   | _,_,_=> .fail "mapUpdate ops" (some o)
 | .insert t m k x=>match du E ts m,du E ts k,du E ts x with
   | some mv,some kv,some xv=>match dH E h t mv kv xv with
     | some h'=> .val AV.undef h'
     | none=> .fail "insert" (some o)
   | _,_,_=> .fail "insert ops" (some o)
 | .mapEntry t m k=>match du E ts m,du E ts k with
   | some mv,some kv=>v (vq E h t mv kv)
   | _,_=> .fail "mapEntry ops" (some o)
 | .entryStore _ m b x=>match du E ts m,du E ts b,du E ts x with
   | some mv,some bv,some xv=>match pZ h mv bv xv with
     | some h'=> .val AV.undef h'
     | none=> .fail "entryStore" (some o)
   | _,_,_=> .fail "entryStore ops" (some o)
 | .convert src dst x=>v (Bf E h src dst (du E ts x))
 | .next it isString=>match du E ts it with
   | some i=>v (Be h i isString)
   | none=> .fail "next" (some o)
 | .panic x=>match du E ts x with
   | some (.iface t w)=> .panic (.iface t w) h
   | _=> .fail "panic" (some o)
 | .defer c=>match rc,callee E ts c with
   | .pT _,_=> .fail "defer in a round" (some o)
   | _,some (.fn f,args)=> .defer (.call f args)
   | _,_=> .fail "defer" (some o)
 | .call c=>match c.callee with
   | .builtin .append=>match eQ E ts c.args.toList with
     | some [s,x]=>v (bf E h c.argTypes s x)
     | _=> .fail "append" (some o)
   | .builtin .copy=>match eQ E ts c.args.toList with
     | some [s,x]=>v (so E h c.argTypes s x)
     | _=> .fail "copy" (some o)
   | .builtin .recover=>match rc with
     | .fS x=> .pD x
     | .pT _=> .fail "recover in a round" (some o)
     | _=> .val .nilIface h
   | .value _=>match callee E ts c with
     | some (f,args)=>match iv E f with
      | some g=>v (g args h)
      | none=>match call f args h with
       | .ret x h'=> .val x h'
       | .panic x h'=> .panic x h'
       | .fail why q=> .fail why q
     | none=> .fail "callee" (some o)
   | .invoke r name=>match du E ts r,eQ E ts c.args.toList with
     | some (.iface t x),some args=>match tK E t name with
       | some f=>match call (.fn f) (x::args) h with
         | .ret x h'=> .val x h'
         | .panic x h'=> .panic x h'
         | .fail why q=> .fail why q
       | none=> .fail "method" (some o)
     | _,_=> .fail "invoke" (some o)
   | _=> .fail "call" (some o)
 | _=> .fail "op" (some o)
def c_ (ts:List AV) (d:Option Tmp) (v:AV):List AV:=match d with
 | some i=>ts.set i v
 | none=>ts
def b_ (ops:Array Oper) (ts:List AV) (o:Oper):Bool:=match o.guard with
 | none=>true
 | some (j,want)=>match (ops[j]?).bind (·.dst) with
   | some d=>match ts[d]? with
     | some (.bool b)=>b==want
     | _=>false
   | none=>false
noncomputable def Ck (call:aW) (s:St) (o:Oper):Out:=
 match bk E s.ts o.op with
 | some v=> .ok .normal {s with ts:=c_ s.ts o.dst v}
 | none=>match dh E s.ts s.h o.op with
   | some v=> .ok .normal {s with ts:=c_ s.ts o.dst v}
   | none=>match dv E s.ts o.op with
     | some (obj,mk)=>match s.h.new obj with
       | some h'=> .ok .normal {s with ts:=c_ s.ts o.dst (mk s.h.nx),h:=h'}
       | none=> .fail "full" (some o)
     | none=>match cI E call s.ts s.h s.rc o with
       | .val v h'=> .ok .normal {s with ts:=c_ s.ts o.dst v,h:=h'}
       | .defer d=> .ok .normal {s with ts:=c_ s.ts o.dst AV.undef,ds:=d::s.ds}
       | .pD v=> .ok .normal {s with ts:=c_ s.ts o.dst v,rc:= .done}
       | .panic v h'=> .ok (.panic v) {s with h:=h'}
       | .fail why q=> .fail why q
noncomputable def iL (call:aW) (ops:Array Oper):List Oper→St→Out
 | [],s=> .ok .normal s
 | o::rest,s=>
   if b_ ops s.ts o then match Ck E call s o with
    | .ok .normal s'=>iL call ops rest s'
    | r=>r
   else iL call ops rest {s with ts:=c_ s.ts o.dst AV.undef}
def et:Op→Bool
 | .store .. | .mapUpdate .. | .insert .. | .mapEntry .. | .entryStore .. | .next .. | .panic _ | .defer _=>true
 | .convert _ dst _=>match E.P.underlying dst with
   | some (.slice _)=>true
   | _=>false
 | .call c=>match c.callee with
   | .builtin .len | .builtin .cap | .builtin .max | .builtin .min=>false
   | .builtin _=>true
   | .value (.func f)=>(E.kB f).isNone
   | _=>true
 | _=>false
def jg (o:Oper):List Nat:=(o.after.toList.filter (Region.binds .any)).map (·.on)
def D8:List Oper→List (List Nat)→List (List Nat)
 | [],acc=>acc
 | o::rest,acc=>D8 rest (acc++[(jg o).foldl (fun l e=>(acc.getD e []).foldl (fun l x=>if l.contains x then l else x::l) (if l.contains e then l else e::l)) []])
def D9 (an:List (List Nat)) (i:Nat):List Nat:=an.getD i []
def cU (an:List (List Nat)) (i j:Nat):Bool:=(D9 an i).contains j
def tmpsOf (o:Oper):List Tmp:=o.op.operands.toList.filterMap fun | .tmp t=>some t | _=>none
def xU (ops:List Oper) (an:List (List Nat)):Bool:=
 ops.zipIdx.all fun (o,i)=>
  (jg o).all (fun e=>decide (e<i)&&cU an i e)&&
  (D9 an i).all (fun j=>decide (j<i)&&(jg o).any fun e=>e==j||cU an e j)
def xV (ops:List Oper) (an:List (List Nat)):Bool:=
 ops.zipIdx.all fun (o,i)=>
  (match o.guard with
   | none=>true
   | some (g,_)=>cU an i g&&((ops[g]?).bind (·.dst)).isSome)&&
  (ops.zipIdx.all fun (p,j)=>i==j||match p.dst with
   | none=>true
   | some d=>o.dst !=some d&&(!(tmpsOf o).contains d||cU an i j||cU an j i))
def rp (an:List (List Nat)):List Nat→Bool
 | e::f::rest=>cU an f e&&rp an (f::rest)
 | _=>true
def lr (ops:List Oper):List Nat:=(ops.zipIdx.filter fun (o,_)=>et E o.op).map (·.2)
def Cl (bD:List Nat) (an:List (List Nat)) (i:Nat):Nat:=(bD.filter fun e=>cU an i e).length
def group (ops:List Oper) (bD:List Nat) (an:List (List Nat)) (k:Nat):List Nat:=
 ((ops.zipIdx.filter fun (o,i)=> !et E o.op&&Cl bD an i==k).map (·.2))++(bD[k]?).toList
def lX (ops:List Oper) (bD:List Nat) (an:List (List Nat)):Nat→Nat→List Nat
 | 0,_=> []
 | n+1,k=>group E ops bD an k++lX ops bD an n (k+1)
def iM (bD:List Nat) (an:List (List Nat)) (i:Nat):Nat:=(bD.takeWhile fun e=> !cU an e i).length
structure kh where
 an:List (List Nat)
 bD:List Nat
 order:List Nat
def jh (ops:Array Oper) (an:List (List Nat)) (bD:List Nat):List Nat→List Nat→Nat→Bool
 | [],seen,k=>(List.range ops.size).all (fun i=>seen.contains i)&&k==bD.length
 | i::rest,seen,k=>decide (i<ops.size)&& !seen.contains i&&(D9 an i).all (fun j=>seen.contains j)&&
   (if et E ((ops.getD i default).op) then bD[k]? ==some i&&jh ops an bD rest (i::seen) (k+1)
    else Cl bD an i==k&&jh ops an bD rest (i::seen) k)
def nodup:List Nat→Bool
 | []=>true
 | x::xs=> !xs.contains x&&nodup xs
def p8 (ops:Array Oper):Option kh:=
 let l:=ops.toList
 let an:=D8 l []
 let bD:=lr E l
 let order:=lX E l bD an (bD.length+1) 0
 if xU l an&&xV l an&&rp an bD&&nodup bD&&jh E ops an bD order [] 0 then some ⟨an,bD,order⟩ else none
inductive TK where
 | off
 | fF
 | red
 | p_ (n:Nat) (obj:aR)
 | rW (h':au)
structure Step where
 i:Nat
 k:Nat
 ts:List AV
 v:AV
 kind:TK
inductive iw where
 | ok (tr:List Step) (hs:List au) (s:St)
 | fail (why:String) (o:Option Oper)
def iw.step (x:Step):iw→iw
 | .ok tr hs s=> .ok (x::tr) hs s
 | r=>r
def iw.bound (h:au):iw→iw
 | .ok tr hs s=> .ok tr (h::hs) s
 | r=>r
noncomputable def cx (call:aW) (ops:Array Oper):List Nat→Nat→St→iw
 | [],_,s=> .ok [] [s.h] s
 | i::rest,k,s=>match ops[i]? with
   | none=> .fail "order" none
   | some o=>
     if et E o.op then
      if b_ ops s.ts o then match cI E call s.ts s.h s.rc o with
       | .val v h'=>((cx call ops rest (k+1) {s with ts:=c_ s.ts o.dst v,h:=h'}).bound s.h).step ⟨i,k,s.ts,v,.rW h'⟩
       | .fail why q=> .fail why q
       | _=> .fail "draw" (some o)
      else ((cx call ops rest (k+1) {s with ts:=c_ s.ts o.dst AV.undef}).bound s.h).step ⟨i,k,s.ts,AV.undef,.off⟩
     else if b_ ops s.ts o then match bk E s.ts o.op with
      | some v=>(cx call ops rest k {s with ts:=c_ s.ts o.dst v}).step ⟨i,k,s.ts,v,.fF⟩
      | none=>match dh E s.ts s.h o.op with
        | some v=>(cx call ops rest k {s with ts:=c_ s.ts o.dst v}).step ⟨i,k,s.ts,v,.red⟩
        | none=>match dv E s.ts o.op with
          | some (obj,mk)=>match s.h.new obj with
            | some h'=>(cx call ops rest k {s with ts:=c_ s.ts o.dst (mk s.h.nx),h:=h'}).step ⟨i,k,s.ts,mk s.h.nx,.p_ s.h.nx obj⟩
            | none=> .fail "full" (some o)
          | none=> .fail "neither" (some o)
     else (cx call ops rest k {s with ts:=c_ s.ts o.dst AV.undef}).step ⟨i,k,s.ts,AV.undef,.off⟩
def aR.same:aR→aR→Bool
 | .cells a e r,.cells b f q=>cg (AV.same 20) a b&&e==f&&r==q
 | .map [] c,.map [] d=>c==d
 | .sj s p,.sj t q=>s==t&&p==q
 | _,_=>false
noncomputable def hT (ops:Array Oper) (x:Step) (h:au):Bool:=match x.kind with
 | .red=>match dh E x.ts h (ops.getD x.i default).op with
   | some v=>AV.same 20 v x.v
   | none=>false
 | .p_ n obj=>match h.get n with
   | some o=>aR.same o obj
   | none=>false
 | _=>true
def oE (tr:List Step):List Nat:=tr.filterMap fun x=>match x.kind with | .p_ n _=>some n | _=>none
noncomputable def oF (ops:Array Oper) (pl:kh) (tr:List Step) (hs:List au):Bool:=
 nodup (oE tr)&&tr.all fun x=>((hs.drop x.k).take (iM pl.bD pl.an x.i+1 - x.k)).all (hT E ops x)
noncomputable def yn (call:aW) (ops:Array Oper) (s:St) (pl:kh):Option (AV×St):=match pl.order.reverse with
 | []=>none
 | i::front=>match cx E call ops front.reverse 0 s,ops[i]? with
   | .ok tr hs s1,some ⟨dst,.call c,ty,pos,after,guard⟩=>
     if et E (.call c)&&b_ ops s1.ts ⟨dst,.call c,ty,pos,after,guard⟩&&(List.range ops.size).all (fun j=>j==i||cU pl.an i j) then
      match cI E call s1.ts s1.h s1.rc ⟨dst,.call c,ty,pos,after,guard⟩ with
      | .panic v h'=>if oF E ops pl (tr++[⟨i,hs.length - 1,s1.ts,AV.undef,.rW h'⟩]) (hs++[h']) then some (v,{s1 with h:=h'}) else none
      | _=>none
     else none
   | _,_=>none
noncomputable def tL (call:aW) (ops:Array Oper) (s:St):Out:=match p8 E ops with
 | none=> .fail "plan" (ops[0]?)
 | some pl=>match cx E call ops pl.order 0 s with
   | .ok tr hs s'=>if oF E ops pl tr hs then .ok .normal s' else .fail "still" (ops[0]?)
   | .fail why o=>match yn E call ops s pl with
     | some (v,s2)=> .ok (.panic v) s2
     | none=> .fail why o
noncomputable def IT (s:St):Option (Nat×au×List nw):=match s.rc with
 | .pT l=>match s.h.get l with
   | some (.loop _ _ _ _ _ _ dn)=>some (dn,s.h,s.ds)
   | _=>none
 | _=>match s.h.new .tJ with
   | some h1=>some (s.h.nx,h1,.MI s.h.nx::s.ds)
   | none=>none
def D_:Option Code→Option gR
 | none=>some .normal
 | some (.exit id)=>some (.exit id)
 | some .ret=>some .ret
 | _=>none
noncomputable def jJ (call:aW) (f:Operand) (ps:Array Tmp) (as_ bd:Code) (s:St):Out:=match du E s.ts f with
 | some (.func g first captured)=>match IT s with
   | some (dn,h1,V2)=>match h1.new (.loop .ready none s.ts ps.toList as_ bd dn) with
     | some h2=>match call (.fn g) (first++[.cr h1.nx]++captured) h2 with
       | .ret _ h3=>match h3.get h1.nx with
         | some (.loop .busy ..)=> .fail "range busy" none
         | some (.loop _ fS iN oA rX R1 R2)=>match D_ fS with
           | some e=> .ok e {s with h:=h3.put h1.nx (some (.loop .exhausted fS iN oA rX R1 R2)),ds:=V2}
           | none=> .fail "range jump" none
         | _=> .fail "range loop" none
       | .panic v h3=> .ok (.panic v) {s with h:=h3,ds:=V2}
       | .fail why q=> .fail why q
     | none=> .fail "full" none
   | none=> .fail "range open" none
 | _=> .fail "range function" none
noncomputable def exec (call:aW):Nat→Code→St→Out
 | 0,_,_=> .fail "fuel" none
 | n+1,c,s=>match c with
   | .skip=> .ok .normal s
   | .label _=> .ok .normal s
   | .ret=> .ok .ret s
   | .exit id=> .ok (.exit id) s
   | .seq a b=>match exec call n a s with
     | .ok .normal s'=>exec call n b s'
     | r=>r
   | .cond x a b=>match du E s.ts x with
     | some (.bool true)=>exec call n a s
     | some (.bool false)=>exec call n b s
     | _=> .fail "cond" none
   | .block id b=>match exec call n b s with
     | .ok (.exit MJ) s'=>if MJ=id then .ok .normal s' else .ok (.exit MJ) s'
     | r=>r
   | .loop b=>match exec call n b s with
     | .ok .normal s'=>exec call n (.loop b) s'
     | r=>r
   | .region _ ops draw=>if draw then tL E call ops s else iL E call ops ops.toList s
   | .rangeFunc f ps as_ bd=>jJ E call f ps as_ bd s
   | .scope b=>exec call n b s
   | _=> .fail "code" none
noncomputable def iy (h:au) (ts:List AV):List ResultVar→Option (List AV)
 | []=>some []
 | r::rest=>match (match r with
  | .tmp t=>some (ts.getD t AV.undef)
  | .cell a t=>bw E h t (ts.getD a AV.undef)) with
   | none=>none
   | some v=>match iy h ts rest with
     | none=>none
     | some vs=>some (v::vs)
def eW:List AV→AV
 | [v]=>v
 | vs=> .tuple vs
noncomputable def cn (fV:FuncId→List AV→au→RC→Option (au×RC)):List nw→Option AV→au→Option (Option AV×au)
 | [],p,h=>some (p,h)
 | .MI r::ds,p,h=>match h.get r with
   | some .tJ=>cn fV ds p (h.put r none)
   | _=>none
 | .call f args::ds,none,h=>match fV f args h .no with
   | some (h',_)=>cn fV ds none h'
   | none=>none
 | .call f args::ds,some v,h=>match fV f args h (.fS v) with
   | some (h',.fS _)=>cn fV ds (some v) h'
   | some (h',.done)=>cn fV ds none h'
   | _=>none
noncomputable def kL (call:aW) (fuel:Nat) (fn:Func) (b:Code) (args:List AV) (h:au) (rc:RC):Out:=
 exec E call fuel b {ts:=args++List.replicate (fn.ntmps - args.length) AV.undef,h,ds:=[],rc}
noncomputable def xy (l:Nat) (jump:Option Code) (s:St):gY:=match s.h.get l with
 | some (.loop _ _ ts ps as_ bd dn)=> .ret (.bool jump.isNone) (s.h.put l (some (.loop (if jump.isNone then .ready else .done) jump ts ps as_ bd dn)))
 | _=> .fail "round end" none
noncomputable def oG (call:aW) (fuel:Nat) (l:Nat) (args:List AV) (h:au):gY:=match h.get l with
 | some (.loop _ _ ts ps as_ bd _)=>if args.length=ps.length then
  match exec E call fuel as_ {ts:=(ps.zip args).foldl (fun ts x=>ts.set x.1 x.2) ts,h,ds:=[],rc:= .pT l} with
  | .ok .normal s1=>match s1.h.get l with
    | some (.loop .ready pd RA M8 MK RB RD)=>
      match exec E call fuel bd {s1 with h:=s1.h.put l (some (.loop .busy pd RA M8 MK RB RD))} with
      | .ok .normal s2=>xy l none s2
      | .ok .ret s2=>xy l (some .ret) s2
      | .ok (.exit id) s2=>xy l (some (.exit id)) s2
      | .ok (.panic v) s2=>if s2.ds.isEmpty then .panic v s2.h else .fail "round defers" none
      | .fail why q=> .fail why q
    | _=> .fail "round state" none
  | .ok _ _=> .fail "round assign" none
  | .fail why q=> .fail why q
   else .fail "round args" none
 | _=> .fail "round" none
noncomputable def ft:Nat→Nat→aW
 | 0,_=>fun _ _ _=> .fail "depth" none
 | d+1,fuel=>fun F args h=>match F with
  | .sL l=>oG E (ft d fuel) fuel l args h
  | .fn f=>match E.P.funcs[f]? with
   | none=> .fail "no function" none
   | some fn=>match fn.body with
     | none=> .fail ("no body " ++fn.name) none
     | some b=>
       let finish (p:Option AV) (s:St):gY:=
        match cn (fun g as_ h rc=>match E.P.funcs[g]? with
         | none=>none
         | some fg=>match fg.body with
           | none=>none
           | some bg=>match kL E (ft d fuel) fuel fg bg as_ h rc with
             | .ok .normal s'=>if s'.ds.isEmpty&&(iy E s'.h s'.ts fg.results.toList).isSome then some (s'.h,s'.rc) else none
             | .ok .ret s'=>if s'.ds.isEmpty&&(iy E s'.h s'.ts fg.results.toList).isSome then some (s'.h,s'.rc) else none
             | _=>none) s.ds p s.h with
        | none=> .fail "unwind" none
        | some (some v,h')=> .panic v h'
        | some (none,h')=>match iy E h' s.ts fn.results.toList with
          | some vs=> .ret (eW vs) h'
          | none=> .fail "results" none
       match kL E (ft d fuel) fuel fn b args h .no with
       | .ok .normal s=>finish none s
       | .ok .ret s=>finish none s
       | .ok (.panic v) s=>finish (some v) s
       | .ok (.exit _) _=> .fail "exit" none
       | .fail why o=> .fail (why++ " in " ++fn.name) o
end Go.Ab
end
section
namespace Go.Ab
structure Loc where
 dq:Nat
 off:Nat
 gC:Nat
abbrev Ph:=Nat→Option Loc
def Ph.le (φ φ':Ph):Prop:=∀i l,φ i=some l→φ' i=some l
theorem Ph.le_refl (φ:Ph):φ.le φ:=fun _ _ h=>h
theorem Ph.le_trans {a b c:Ph} (h:a.le b) (h':b.le c):a.le c:=fun i l e=>h' i l (h i l e)
def fu (op:Bool) (cap gC:Nat):Nat:=if op then cap+gC else cap
def Zc:Value→Bool
 | .agg _ | .tuple _ | .float .. | .complex .. | .bool _=>false
 | _=>true
inductive VR (φ:Ph):AV→Value→Prop
 | bool (b:Bool):VR φ (.bool b) (.bool b)
 | int (k:IntKind) (n:Int):VR φ (.int k n) (.int k n)
 | str (s:ByteArray):VR φ (.str s.data.toList) (.string s)
 | eU:VR φ .eU (.pointer none)
 | ptr {i:Nat} {l:Loc} (o:Nat) (h:φ i=some l):VR φ (.ptr i o) (.pointer (some ⟨l.dq,l.off+o,none⟩))
 | aI:VR φ .aI (.slice none 0 0)
 | slice {i:Nat} {l:Loc} (o len cap:Nat) (op:Bool) (h:φ i=some l):VR φ (.slice i o len cap op) (.slice (some ⟨l.dq,l.off+o,none⟩) len (fu op cap l.gC))
 | dG (a:Addr) (cap:Nat):VR φ .dG (.slice (some a) 0 cap)
 | dc:VR φ .dc (.map none)
 | map {i:Nat} {l:Loc} (h:φ i=some l):VR φ (.map i) (.map (some l.dq))
 | func (f:FuncId) (a b:List AV) (a' b':Array Value) (la:a.length=a'.size) (lb:b.length=b'.size)
  (ha:∀(i:Nat) (x:AV) (y:Value),a[i]? =some x→a'[i]? =some y→VR φ x y) (hb:∀(i:Nat) (x:AV) (y:Value),b[i]? =some x→b'[i]? =some y→VR φ x y):
  VR φ (.func f a b) (.func (.func f) a' b')
 | nilFunc:VR φ .nilFunc .nilFunc
 | yield {i:Nat} {l:Loc} (h:φ i=some l):VR φ (.cr i) (.func (.yield l.dq) #[] #[])
 | iface (t:TypeId) (v:AV) (v':Value) (h:VR φ v v'):VR φ (.iface t v) (.iface t v')
 | nilIface:VR φ .nilIface .nilIface
 | agg (cs:List AV) (gz:Array Value) (hl:cs.length=gz.size) (h:∀(i:Nat) (x:AV) (y:Value),cs[i]? =some x→gz[i]? =some y→VR φ x y):VR φ (.agg cs) (.agg gz)
 | tuple (cs:List AV) (gz:Array Value) (hl:cs.length=gz.size) (h:∀(i:Nat) (x:AV) (y:Value),cs[i]? =some x→gz[i]? =some y→VR φ x y):VR φ (.tuple cs) (.tuple gz)
 | any (v:Value) (h:Zc v=true):VR φ .any v
theorem VR.mono {φ φ':Ph} (hle:φ.le φ') {v:AV} {v':Value} (h:VR φ v v'):VR φ' v v':=by
 induction h with
 | bool b=>exact .bool b
 | int k n=>exact .int k n
 | str s=>exact .str s
 | eU=>exact .eU
 | ptr o h=>exact .ptr o (hle _ _ h)
 | aI=>exact .aI
 | slice o len cap op h=>exact .slice o len cap op (hle _ _ h)
 | dG a cap=>exact .dG a cap
 | dc=>exact .dc
 | map h=>exact .map (hle _ _ h)
 | func f a b a' b' la lb _ _ iha ihb=>exact .func f a b a' b' la lb iha ihb
 | nilFunc=>exact .nilFunc
 | yield h=>exact .yield (hle _ _ h)
 | iface t v v' _ ih=>exact .iface t v v' ih
 | nilIface=>exact .nilIface
 | agg cs gz hl _ ih=>exact .agg cs gz hl ih
 | tuple cs gz hl _ ih=>exact .tuple cs gz hl ih
 | any v h=>exact .any v h
def LR (φ:Ph) (xs:List AV) (ys:List Value):Prop:=xs.length=ys.length∧∀(i:Nat) (x:AV) (y:Value),xs[i]? =some x→ys[i]? =some y→VR φ x y
theorem LR.mono {φ φ':Ph} (hle:φ.le φ') {xs:List AV} {ys:List Value} (h:LR φ xs ys):LR φ' xs ys:=⟨h.1,fun i x y a b=>(h.2 i x y a b).mono hle⟩
theorem LR.nil (φ:Ph):LR φ [] []:=⟨rfl,fun i x y a _=>by simp at a⟩
theorem LR.cons {φ:Ph} {x:AV} {y:Value} {xs:List AV} {ys:List Value} (h:VR φ x y) (hs:LR φ xs ys):LR φ (x::xs) (y::ys):=by
 refine ⟨by simp [hs.1],fun i a b ha hb=>?_⟩
 cases i with
 | zero=>simp at ha hb;subst ha;subst hb;exact h
 | succ i=>simp at ha hb;exact hs.2 i a b ha hb
theorem LR.bZ {φ:Ph} {x:AV} {xs:List AV} {ys:List Value} (h:LR φ (x::xs) ys):∃y vn,ys=y::vn∧VR φ x y∧LR φ xs vn:=by
 obtain ⟨hl,hv⟩:=h
 cases ys with
 | nil=>simp at hl
 | cons y ys=>
   refine ⟨y,ys,rfl,hv 0 x y (by simp) (by simp),by simpa using hl,fun i a b ha hb=>hv (i+1) a b (by simpa using ha) (by simpa using hb)⟩
theorem LR.fi {φ:Ph} {ys:List Value} (h:LR φ [] ys):ys=[]:=by
 cases ys with
 | nil=>rfl
 | cons y ys=>simp [LR] at h
theorem LR.append {φ:Ph} {xs xW:List AV} {ys vn:List Value} (h:LR φ xs ys) (h':LR φ xW vn):LR φ (xs++xW) (ys++vn):=by
 refine ⟨by simp [h.1,h'.1],fun i a b ha hb=>?_⟩
 by_cases hi:i<xs.length
 · rw[List.getElem?_append_left hi] at ha
   rw[List.getElem?_append_left (by rw[←h.1];exact hi)] at hb
   exact h.2 i a b ha hb
 · rw[List.getElem?_append_right (by omega)] at ha
   rw[List.getElem?_append_right (by rw[←h.1];omega)] at hb
   exact h'.2 _ a b ha (by rw[h.1];exact hb)
theorem LR.drop {φ:Ph} {xs:List AV} {ys:List Value} (h:LR φ xs ys) (n:Nat):LR φ (xs.drop n) (ys.drop n):=
 ⟨by simp [h.1],fun i a b ha hb=>h.2 (n+i) a b (by simpa using ha) (by simpa using hb)⟩
theorem LR.take {φ:Ph} {xs:List AV} {ys:List Value} (h:LR φ xs ys) (n:Nat):LR φ (xs.take n) (ys.take n):=by
 refine ⟨by simp [h.1],fun i a b ha hb=>?_⟩
 rw[List.getElem?_take] at ha hb
 by_cases hi:i<n
 · simp only[hi,if_true] at ha hb;exact h.2 i a b ha hb
 · simp [hi] at ha
theorem LR.set {φ:Ph} {xs:List AV} {ys:List Value} (h:LR φ xs ys) {x:AV} {y:Value} (hx:VR φ x y) (n:Nat):LR φ (xs.set n x) (ys.set n y):=by
 refine ⟨by simp [h.1],fun i a b ha hb=>?_⟩
 rw[List.getElem?_set] at ha hb
 by_cases hi:n=i
 · subst hi
   by_cases hl:n<xs.length
   · simp only[if_true,hl] at ha
     simp only[if_true,←h.1,hl] at hb
     simp at ha hb;subst ha;subst hb;exact hx
   · simp [hl] at ha
 · simp only[hi,if_false] at ha hb;exact h.2 i a b ha hb
theorem LR.replicate {φ:Ph} {x:AV} {y:Value} (h:VR φ x y) (n:Nat):LR φ (List.replicate n x) (List.replicate n y):=by
 refine ⟨by simp,fun i a b ha hb=>?_⟩
 rw[List.getElem?_replicate] at ha hb
 by_cases hi:i<n
 · simp [hi] at ha hb;subst ha;subst hb;exact h
 · simp [hi] at ha
theorem LR.get {φ:Ph} {xs:List AV} {ys:List Value} (h:LR φ xs ys) {i:Nat} {x:AV} (hx:xs[i]? =some x):∃y,ys[i]? =some y∧VR φ x y:=by
 have hi:i<xs.length:=(List.getElem?_eq_some_iff.1 hx).1
 have:i<ys.length:=by rw[←h.1];exact hi
 exact ⟨ys[i],by simp [this],h.2 i x _ hx (by simp [this])⟩
theorem LR.getD {φ:Ph} {xs:List AV} {ys:List Value} (h:LR φ xs ys) {d:AV} {d':Value} (hd:VR φ d d') (i:Nat):VR φ (xs.getD i d) (ys.getD i d'):=by
 by_cases hi:i<xs.length
 · have:i<ys.length:=by rw[←h.1];exact hi
   have e:=h.2 i xs[i] ys[i] (by simp [hi]) (by simp [this])
   simpa [List.getD,hi,this] using e
 · have:¬i<ys.length:=by rw[←h.1];exact hi
   simpa [List.getD,hi,this] using hd
theorem VR.undef (φ:Ph):VR φ AV.undef undef:= .tuple [] #[] rfl (fun i x y a _=>by simp at a)
theorem VR.Kq {φ:Ph} {cs:List AV} {gz:List Value} (h:LR φ cs gz):VR φ (.agg cs) (.agg gz.toArray):= .agg cs _ (by simp [h.1]) (fun i x y a b=>h.2 i x y a (by simpa using b))
theorem VR.tuple' {φ:Ph} {cs:List AV} {gz:List Value} (h:LR φ cs gz):VR φ (.tuple cs) (.tuple gz.toArray):= .tuple cs _ (by simp [h.1]) (fun i x y a b=>h.2 i x y a (by simpa using b))
theorem VR.iz {φ:Ph} {cs:List AV} {v:Value} (h:VR φ (.agg cs) v):∃gz:Array Value,v= .agg gz∧LR φ cs gz.toList:=by
 cases h with
 | agg _ gz hl h=>exact ⟨gz,rfl,by simpa using hl,fun i x y a b=>h i x y a (by simpa using b)⟩
theorem VR.Bg {φ:Ph} {cs:List AV} {v:Value} (h:VR φ (.tuple cs) v):∃gz:Array Value,v= .tuple gz∧LR φ cs gz.toList:=by
 cases h with
 | tuple _ gz hl h=>exact ⟨gz,rfl,by simpa using hl,fun i x y a b=>h i x y a (by simpa using b)⟩
theorem VR.tM {φ:Ph} {f:FuncId} {a b:List AV} {v:Value} (h:VR φ (.func f a b) v):∃a' b':Array Value,v= .func (.func f) a' b'∧LR φ a a'.toList∧LR φ b b'.toList:=by
 cases h with
 | func _ _ _ a' b' la lb ha hb=>exact ⟨a',b',rfl,⟨by simpa using la,fun i x y p q=>ha i x y p (by simpa using q)⟩,⟨by simpa using lb,fun i x y p q=>hb i x y p (by simpa using q)⟩⟩
theorem VR.M9 {φ:Ph} (f:FuncId) {a b:List AV} {a' b':List Value} (ha:LR φ a a') (hb:LR φ b b'):VR φ (.func f a b) (.func (.func f) a'.toArray b'.toArray):=
 .func f a b _ _ (by simp [ha.1]) (by simp [hb.1]) (fun i x y p q=>ha.2 i x y p (by simpa using q)) (fun i x y p q=>hb.2 i x y p (by simpa using q))
theorem VR.cells {φ:Ph} {v:AV} {v':Value} (h:VR φ v v'):LR φ v.cells v'.cells.toList:=by
 cases h with
 | agg cs gz hl h=>exact ⟨by simpa [AV.cells,Value.cells] using hl,fun i x y a b=>h i x y a (by simpa [Value.cells] using b)⟩
 | bool b=>exact .cons (.bool b) (.nil φ)
 | int k n=>exact .cons (.int k n) (.nil φ)
 | str s=>exact .cons (.str s) (.nil φ)
 | eU=>exact .cons .eU (.nil φ)
 | ptr o h=>exact .cons (.ptr o h) (.nil φ)
 | aI=>exact .cons .aI (.nil φ)
 | slice o len cap op h=>exact .cons (.slice o len cap op h) (.nil φ)
 | dG a cap=>exact .cons (.dG a cap) (.nil φ)
 | dc=>exact .cons .dc (.nil φ)
 | map h=>exact .cons (.map h) (.nil φ)
 | func f a b a' b' la lb ha hb=>exact .cons (.func f a b a' b' la lb ha hb) (.nil φ)
 | nilFunc=>exact .cons .nilFunc (.nil φ)
 | yield h=>exact .cons (.yield h) (.nil φ)
 | iface t v v' h=>exact .cons (.iface t v v' h) (.nil φ)
 | nilIface=>exact .cons .nilIface (.nil φ)
 | tuple cs gz hl h=>exact .cons (.tuple cs gz hl h) (.nil φ)
 | any _ h=>
   have e:v'.cells= #[v']:=by cases v'<;>first | rfl | cases h
   rw[e]
   exact .cons (.any v' h) (.nil φ)
theorem VR.scalar {φ:Ph} {v:AV} {v':Value} (h:VR φ v v') (hs:v.scalar=true):v'.oneCell'=true:=by
 cases h with
 | any _ h=>cases v'<;>first | rfl | cases h
 | _=>simp_all [AV.scalar,Value.oneCell']
theorem qa {α β:Type} {f:α→Option β}:∀{l:List α} {r:List β},dC f l=some r→l.length=r.length∧∀(i:Nat) (x:α),l[i]? =some x→∃y,r[i]? =some y∧f x=some y
 | [],r,h=>by simp [dC] at h;subst h;simp
 | x::xs,r,h=>by
   simp only[dC] at h
   cases hx:f x with
   | none=>simp [hx] at h
   | some y=>
     simp only[hx] at h
     cases hs:dC f xs with
     | none=>simp [hs] at h
     | some ys=>
       simp only[hs,Option.some.injEq] at h
       subst h
       obtain ⟨hl,hv⟩:=qa hs
       refine ⟨by simp [hl],fun i z hz=>?_⟩
       cases i with
       | zero=>simp at hz;subst hz;exact ⟨y,by simp,hx⟩
       | succ i=>simp at hz;simpa using hv i z hz
theorem qb (φ:Ph) {v:Value} {x:AV} (h:iX v=some x):VR φ x v:=by
 unfold iX at h
 split at h<;>simp at h<;>subst h
 · exact .bool _
 · exact .int _ _
 · exact .str _
 · exact .eU
 · exact .aI
 · exact .dc
 · exact .nilFunc
 · exact .nilIface
theorem tN (φ:Ph) {l:List Value} {r:List AV} (h:dC iX l=some r):LR φ r l:=by
 obtain ⟨hl,hv⟩:=qa h
 refine ⟨hl.symm,fun i x y hx hy=>?_⟩
 obtain ⟨z,hz,hf⟩:=hv i y hy
 rw[hx] at hz;simp at hz;subst hz
 exact qb φ hf
theorem yp (φ:Ph) {v:Value} {x:AV} (h:ofConst v=some x):VR φ x v:=by
 unfold ofConst at h
 split at h
 · rename_i cs
   cases hm:dC iX cs.toList with
   | none=>simp [hm] at h
   | some l=>simp [hm] at h;subst h;have:=VR.Kq (tN φ hm);simpa using this
 · rename_i cs
   cases hm:dC iX cs.toList with
   | none=>simp [hm] at h
   | some l=>simp [hm] at h;subst h;have:=VR.tuple' (tN φ hm);simpa using this
 · rename_i t v
   cases hm:iX v with
   | none=>simp [hm] at h
   | some l=>simp [hm] at h;subst h;exact .iface _ _ _ (qb φ hm)
 · exact qb φ h
variable (E:Env)
structure ER (φ:Ph) (e:fO) (e':MapEntry):Prop where
 key:VR φ e.key e'.key
 val:VR φ e.val e'.val
 born:e.born=e'.born
def D' (φ:Ph) (es:List fO) (fj:List MapEntry):Prop:=es.length=fj.length∧∀(i:Nat) (x:fO) (y:MapEntry),es[i]? =some x→fj[i]? =some y→ER φ x y
def aR.rw:aR→Bool
 | .cells _ _ ro=> !ro
 | _=>true
def eB (l:Loc) (e:TypeId):Nat:=l.gC*(bT E e).getD 0
structure CR (φ:Ph) (cs:List AV) (e:TypeId) (ro:Bool) (l:Loc) (C:Array Value) (lo hi:Nat):Prop where
 size:l.off+cs.length+eB E l e≤C.size
 val:∀(k:Nat) (x:AV),cs[k]? =some x→∃y,C[l.off+k]? =some y∧VR φ x y
 free:ro=false→∀k,l.off≤k→k<l.off+cs.length+eB E l e→¬(lo≤k∧k<hi)
 zero:ro=true→∀m,cs=[.map m]→l.off=0
structure CS (φ:Ph) (cs:List AV) (e:TypeId) (ro:Bool) (l:Loc) (C:Array Value) (e':TypeId) (lo hi:Nat):Prop extends CR E φ cs e ro l C lo hi where
 shape:ro=false→e'=e∧l.off=0∧(∀fs,E.P.underlying e=some (.struct fs)→eK E e=none→C.size=cs.length)
theorem rq {t:TypeId} {n:Nat} (h:eK E t=some n):(E.P.info? t).map (·.bytes)=some n:=by
 unfold eK at h;split at h
 · cases h
 · exact h
structure IU (φ:Ph) (st:LoopState) (fS:Option Code) (ts:List AV) (ps:List Tmp) (as_ bd:Code) (dn:Nat) (r:Loop):Prop where
 state:r.state=st
 pending:r.pending=fS
 tmps:LR φ ts r.tmps.toList
 params:r.params.toList=ps
 assign:r.assign=as_
 body:r.body=bd
 defers:∃ld,φ dn=some ld∧r.defers=ld.dq
 fn:(E.P.funcs[r.fn]?).isSome=true
theorem IU.mono {E:Env} {φ φ':Ph} (hle:φ.le φ') {st:LoopState} {fS:Option Code} {ts:List AV} {ps:List Tmp} {as_ bd:Code} {dn:Nat} {r:Loop} (h:IU E φ st fS ts ps as_ bd dn r):IU E φ' st fS ts ps as_ bd dn r:=
 ⟨h.state,h.pending,h.tmps.mono hle,h.params,h.assign,h.body,let ⟨l,a,b⟩:=h.defers;⟨l,hle _ _ a,b⟩,h.fn⟩
def OR (φ:Ph):aR→Loc→Option Obj→Prop
 | .cells cs e ro,l,o=>∃C e' lo hi,o=some (.cells C e' (lo,hi))∧CS E φ cs e ro l C e' lo hi
 | .map es clock,l,o=>l.off=0∧∃fj,o=some (.map fj clock)∧D' φ es fj.toList
 | .sj s pos,l,o=>l.off=0∧∃s':ByteArray,o=some (.stringIter s' pos)∧s'.data.toList=s
 | .ym none since seen oD,l,o=>l.off=0∧o=some (.mapIter none since seen.toArray oD)
 | .ym (some m) since seen oD,l,o=>l.off=0∧∃lm,φ m=some lm∧o=some (.mapIter (some lm.dq) since seen.toArray oD)
 | .loop st fS ts ps as_ bd dn,l,o=>l.off=0∧∃r,o=some (.loop r)∧IU E φ st fS ts ps as_ bd dn r
 | .tJ,l,o=>l.off=0∧o=some (.deferred (some []))
theorem OR.absurd {E:Env} {φ:Ph} {o:aR} {l:Loc} (h:OR E φ o l none):False:=by
 cases o with
 | cells cs e ro=>obtain ⟨C,e',lo,hi,hx,hc⟩:=h;simp at hx
 | map es clock=>obtain ⟨h0,fj,hx,hl,hv⟩:=h;simp at hx
 | sj s pos=>obtain ⟨h0,s',hx,_⟩:=h;simp at hx
 | ym m since seen oD=>
   cases m with
   | none=>obtain ⟨h0,hx⟩:=h;simp at hx
   | some m=>obtain ⟨h0,lm,hm,hx⟩:=h;simp at hx
 | loop=>obtain ⟨h0,r,hx,_⟩:=h;simp at hx
 | tJ=>obtain ⟨h0,hx⟩:=h;simp at hx
structure OK (φ:Ph) (h:au) (w:World):Prop where
 xz:∀i l,φ i=some l→i<h.nx
 nx:E.G≤h.nx
 sM:∀g,g<E.G→φ g=some ⟨g,0,0⟩
 live:∀i o l,h.get i=some o→φ i=some l→OR E φ o l w.heap[l.dq]?
 inj:∀i j o p l m,h.get i=some o→h.get j=some p→φ i=some l→φ j=some m→(o.rw=true∨p.rw=true)→l.dq=m.dq→i=j
structure Fr (φ:Ph) (h:au) (w:World) (φ':Ph) (h':au) (w':World):Prop where
 ext:φ.le φ'
 old:∀i,i<h.nx→φ' i=φ i
 nx:h.nx≤h'.nx
 os:w'.os=w.os
 tape:w'.tape=w.tape
 output:w'.output=w.output
 size:w.heap.size≤w'.heap.size
 xA:∀b,b<w.heap.size→(∀i o l,h.get i=some o→o.rw=true→φ i=some l→l.dq≠b)→w'.heap[b]? =w.heap[b]?
 own:∀i o l,h'.get i=some o→o.rw=true→φ' i=some l→w.heap.size≤l.dq∨∃j p m,h.get j=some p∧p.rw=true∧φ j=some m∧m.dq=l.dq
theorem Fr.refl (φ:Ph) (h:au) (w:World):Fr φ h w φ h w where
 ext:=Ph.le_refl φ
 old _ _:=rfl
 nx:=Nat.le_refl _
 os:=rfl
 tape:=rfl
 output:=rfl
 size:=Nat.le_refl _
 xA _ _ _:=rfl
 own i o l a b c:= .inr ⟨i,o,l,a,b,c,rfl⟩
theorem Fr.trans {φ₁ φ₂ φ₃:Ph} {h₁ h₂ h₃:au} {w₁ w₂ w₃:World} (a:Fr φ₁ h₁ w₁ φ₂ h₂ w₂) (b:Fr φ₂ h₂ w₂ φ₃ h₃ w₃):Fr φ₁ h₁ w₁ φ₃ h₃ w₃ where
 ext:=Ph.le_trans a.ext b.ext
 old i hi:=(b.old i (Nat.lt_of_lt_of_le hi a.nx)).trans (a.old i hi)
 nx:=Nat.le_trans a.nx b.nx
 os:=b.os.trans a.os
 tape:=b.tape.trans a.tape
 output:=b.output.trans a.output
 size:=Nat.le_trans a.size b.size
 xA x hx hn:=by
  rw[b.xA x (Nat.lt_of_lt_of_le hx a.size) ?_,a.xA x hx hn]
  intro i o l hg hr hp he
  rcases a.own i o l hg hr hp with h | ⟨j,p,m,q1,q2,q3,q4⟩
  · omega
  · exact hn j p m q1 q2 q3 (q4.trans he)
 own i o l hg hr hp:=by
  rcases b.own i o l hg hr hp with h | ⟨j,p,m,q1,q2,q3,q4⟩
  · exact .inl (Nat.le_trans a.size h)
  · rcases a.own j p m q1 q2 q3 with h | ⟨j',p',m',r1,r2,r3,r4⟩
    · exact .inl (q4▸h)
    · exact .inr ⟨j',p',m',r1,r2,r3,r4.trans q4⟩
theorem GS {a b:Nat} (h:a≠b):Nat.beq a b=false:=by
 cases e:Nat.beq a b
 · rfl
 · exact absurd (Nat.eq_of_beq_eq_true e) h
theorem lY {a b:Nat} (h:b<a):Nat.ble a b=false:=by
 rw[Bool.eq_false_iff];intro e;have:=Nat.le_of_ble_eq_true e;omega
theorem vt (q:Nat) (t:HT):(Ko q).get t=MG (q%8) (MG (q/8%8) (MG (q/64) t)):=by
 simp only[Ko,sm,wo];rfl
theorem M_ (q:Nat) (f:H3→H3) (t:HT):(Ko q).R0 f t=RZ (q/64) (RZ (q/8%8) (RZ (q%8) f)) t:=by
 simp only[Ko,sm,wo];rfl
theorem yq (q:Nat) (t:H3):(MH q).get t=MG (q%8) (MG (q/8%8) (MG (q/64) t)):=by
 simp only[MH,sm,wo];rfl
theorem M' (q:Nat) (o:Option aR) (t:H3):(MH q).R0 o t=RZ (q/64) (RZ (q/8%8) (RZ (q%8) fun _=>o)) t:=by
 simp only[MH,sm,wo];rfl
theorem yr {i:Nat} (hi:i<262144) (t:HT):(hp i).get t=(MH (i%512)).get ((Ko (i/512)).get t):=by
 unfold hp
 rw[lY hi,jI,jI];rfl
theorem Na {i:Nat} (hi:i<262144) (o:Option aR) (t:HT):(hp i).put o t=(Ko (i/512)).R0 ((MH (i%512)).R0 o) t:=by
 unfold hp
 rw[lY hi,jI,jI];rfl
theorem R3 (q:Nat) (o:Option aR) (t:H3):(MH q).get ((MH q).R0 o t)=o:=by
 rw[yq,M',cG,cG,cG]
theorem Nb {q p:Nat} (hq:q<512) (hp:p<512) (h:q≠p) (o:Option aR) (t:H3):(MH p).get ((MH q).R0 o t)=(MH p).get t:=by
 rw[yq,yq,M']
 by_cases h1:q/64=p/64
 · rw[h1,cG]
   by_cases h2:q/8%8=p/8%8
   · rw[h2,cG,dg (by omega) (by omega) (by omega)]
   · rw[dg (by omega) (by omega) h2]
 · rw[dg (by omega) (by omega) h1]
theorem IV (q:Nat) (f:H3→H3) (t:HT):(Ko q).get ((Ko q).R0 f t)=f ((Ko q).get t):=by
 rw[vt,vt,M_,cG,cG,cG]
theorem Nc {q p:Nat} (hq:q<512) (hp:p<512) (h:q≠p) (f:H3→H3) (t:HT):(Ko p).get ((Ko q).R0 f t)=(Ko p).get t:=by
 rw[vt,vt,M_]
 by_cases h1:q/64=p/64
 · rw[h1,cG]
   by_cases h2:q/8%8=p/8%8
   · rw[h2,cG,dg (by omega) (by omega) (by omega)]
   · rw[dg (by omega) (by omega) h2]
 · rw[dg (by omega) (by omega) h1]
theorem R4 {i:Nat} (hi:i<262144) (o:Option aR) (t:HT):(hp i).get ((hp i).put o t)=o:=by
 rw[yr hi,Na hi,IV,R3]
theorem Nd {i j:Nat} (hi:i<262144) (hj:j<262144) (h:i≠j) (o:Option aR) (t:HT):(hp j).get ((hp i).put o t)=(hp j).get t:=by
 rw[yr hj,yr hj,Na hi]
 by_cases h1:i/512=j/512
 · rw[h1,IV,Nb (by omega) (by omega) (by omega)]
 · rw[Nc (by omega) (by omega) h1]
theorem Bh {a b:Nat} (h:¬b<a):Nat.ble a b=true:=Nat.ble_eq_true_of_le (by omega)
theorem au.sN {h:au} {i:Nat} (hi:i<262144):h.get i=(hp i).get h.t:=by
 unfold au.get;rw[lY hi];rfl
theorem au.oH {h:au} {i:Nat} (hi:¬i<262144):h.get i=h.f i:=by
 unfold au.get;rw[Bh hi];rfl
theorem au.Nf {h:au} {i:Nat} (hi:i<262144) (o:Option aR):h.put i o=⟨(hp i).put o h.t,h.nx,h.f⟩:=by
 unfold au.put;rw[lY hi];rfl
theorem au.IW {h:au} {i:Nat} (hi:¬i<262144) (o:Option aR):h.put i o=⟨h.t,h.nx,GP h.f i o⟩:=by
 unfold au.put;rw[Bh hi];rfl
theorem au.V3 (h:au) (i:Nat) (o:Option aR):(h.put i o).nx=h.nx:=rfl
theorem Kr (f:Nat→Option aR) (i:Nat) (o:Option aR):GP f i o i=o:=by
 unfold GP;rw[Nat.beq_refl];rfl
theorem GU (f:Nat→Option aR) {i j:Nat} (h:i≠j) (o:Option aR):GP f i o j=f j:=by
 unfold GP;rw[GS (Ne.symm h)];rfl
theorem au.bF {h:au} {i:Nat} (o:Option aR):(h.put i o).get i=o:=by
 by_cases hi:i<262144
 · rw[au.Nf hi,au.sN hi];exact R4 hi o h.t
 · rw[au.IW hi,au.oH hi];exact Kr _ _ _
theorem au.aY {h:au} {i j:Nat} (dD:i≠j) (o:Option aR):(h.put i o).get j=h.get j:=by
 by_cases hi:i<262144
 · rw[au.Nf hi]
   by_cases hj:j<262144
   · rw[au.sN hj,au.sN hj];exact Nd hi hj dD o h.t
   · rw[au.oH hj,au.oH hj]
 · rw[au.IW hi]
   by_cases hj:j<262144
   · rw[au.sN hj,au.sN hj]
   · rw[au.oH hj,au.oH hj];exact GU _ dD _
theorem au.Cm (h:au) (o:aR):h.new o=some ⟨(h.put h.nx (some o)).t,h.nx+1,(h.put h.nx (some o)).f⟩:=rfl
theorem au.jK {h h':au} {o:aR} (e:h.new o=some h'):True∧h'.nx=h.nx+1∧h'.get h.nx=some o∧∀j,j≠h.nx→h'.get j=h.get j:=by
 rw[au.Cm] at e
 cases e
 exact ⟨trivial,rfl,au.bF (h:=h) (some o),fun j dD=>au.aY (h:=h) (Ne.symm dD) (some o)⟩
end Go.Ab
end
section
namespace Go.Ab
variable {E:Env}
def iO (C:Array Value):Nat→List Value→Array Value
 | _,[]=>C
 | o,v::vs=>iO (C.setIfInBounds o v) (o+1) vs
theorem mY:∀(vs:List Value) (C:Array Value) (o:Nat),(iO C o vs).size=C.size
 | [],_,_=>rfl
 | v::vs,C,o=>by simp [iO,mY vs]
theorem sO:∀(vs:List Value) (C:Array Value) (o k:Nat),(iO C o vs)[k]? =if o≤k∧k<o+vs.length∧k<C.size then vs[k - o]? else C[k]?
 | [],C,o,k=>by simp [iO];omega
 | v::vs,C,o,k=>by
   rw[iO,sO vs]
   simp only[Array.size_setIfInBounds,List.length_cons,Array.getElem?_setIfInBounds]
   by_cases h1:o=k
   · subst h1
     by_cases h2:o<C.size
     · rw[if_neg (by omega)];simp [h2]
     · rw[if_neg (by omega)];simp [h2]
   · by_cases h2:o+1≤k∧k<o+1+vs.length∧k<C.size
     · rw[if_pos h2,if_pos (by omega)]
       obtain ⟨m,hm⟩:∃m,k - o=m+1:=⟨k - o - 1,by omega⟩
       rw[hm,show k -(o+1)=m by omega];simp
     · rw[if_neg h2];simp only[h1,if_false];rw[if_neg (by omega)]
theorem jL:∀(vs:List AV) (cs:List AV) (o:Nat),(setFrom cs o vs).length=cs.length
 | [],_,_=>rfl
 | v::vs,cs,o=>by simp [setFrom,jL vs]
theorem dy:∀(vs:List AV) (cs:List AV) (o k:Nat),(setFrom cs o vs)[k]? =if o≤k∧k<o+vs.length∧k<cs.length then vs[k - o]? else cs[k]?
 | [],cs,o,k=>by simp [setFrom];omega
 | v::vs,cs,o,k=>by
   rw[setFrom,dy vs]
   simp only[List.length_set,List.length_cons,List.getElem?_set]
   by_cases h1:o=k
   · subst h1
     by_cases h2:o<cs.length
     · rw[if_neg (by omega)];simp [h2]
     · rw[if_neg (by omega)];simp [h2]
   · by_cases h2:o+1≤k∧k<o+1+vs.length∧k<cs.length
     · rw[if_pos h2,if_pos (by omega)]
       obtain ⟨m,hm⟩:∃m,k - o=m+1:=⟨k - o - 1,by omega⟩
       rw[hm,show k -(o+1)=m by omega];simp
     · rw[if_neg h2];simp only[h1,if_false];rw[if_neg (by omega)]
theorem heap_setCell {w:World} {b:Nat} {C:Array Value} {e:TypeId} {f:Nat×Nat} (h:w.heap[b]? =some (.cells C e f)) (o:Nat) (v:Value):
 (w.setCell ⟨b,o,none⟩ v).heap[b]? =some (.cells (C.setIfInBounds o v) e f):=by
 obtain ⟨lo,hi⟩:=f
 simp [World.setCell,Array.getElem?_modify,h]
theorem heap_setCell_other {w:World} {b c:Nat} (h:b≠c) (o:Nat) (v:Value):(w.setCell ⟨b,o,none⟩ v).heap[c]? =w.heap[c]? :=by
 simp [World.setCell,Array.getElem?_modify,h]
theorem ny:∀(vs:List Value) {w:World} {b:Nat} {C:Array Value} {e:TypeId} {f:Nat×Nat} (_:w.heap[b]? =some (.cells C e f)) (o:Nat),
 (w.setCells b o vs).heap[b]? =some (.cells (iO C o vs) e f)
 | [],_,_,_,_,_,h,_=>h
 | v::vs,w,b,C,e,f,h,o=>by
   rw[World.setCells,iO]
   exact ny vs (heap_setCell h o v) (o+1)
theorem iP:∀(vs:List Value) {w:World} {b c:Nat} (_:b≠c) (o:Nat),(w.setCells b o vs).heap[c]? =w.heap[c]?
 | [],_,_,_,_,_=>rfl
 | v::vs,w,b,c,h,o=>by rw[World.setCells,iP vs h,heap_setCell_other h]
theorem size_setCells:∀(vs:List Value) (w:World) (b o:Nat),(w.setCells b o vs).heap.size=w.heap.size
 | [],_,_,_=>rfl
 | v::vs,w,b,o=>by rw[World.setCells,size_setCells vs];simp
theorem qc:∀(vs:List Value) (w:World) (b o:Nat),(w.setCells b o vs).os=w.os∧(w.setCells b o vs).tape=w.tape∧(w.setCells b o vs).output=w.output
 | [],_,_,_=>⟨rfl,rfl,rfl⟩
 | v::vs,w,b,o=>by rw[World.setCells];exact qc vs _ b (o+1)
theorem cell_of_heap {w:World} {b:Nat} {C:Array Value} {e:TypeId} {f:Nat×Nat} (h:w.heap[b]? =some (.cells C e f)) (k:Nat):w.cell? ⟨b,k,none⟩=C[k]? :=by
 obtain ⟨lo,hi⟩:=f
 simp [World.cell?,h]
theorem frozen_of_heap {w:World} {b:Nat} {C:Array Value} {e:TypeId} {lo hi:Nat} (h:w.heap[b]? =some (.cells C e (lo,hi))) (k:Nat):w.frozen? ⟨b,k,none⟩=(decide (lo≤k)&&decide (k<hi)):=by
 simp [World.frozen?,h]
theorem nA {P:Program} {w:World} {b:Nat} {C:Array Value} {e:TypeId} {lo hi:Nat} (h:w.heap[b]? =some (.cells C e (lo,hi))) (O:Nat) (vs:List Value)
 (hs:O+vs.length≤C.size) (hf:∀k,O≤k→k<O+vs.length→¬(lo≤k∧k<hi)) (h1:∀v∈vs,v.oneCell'=true):
 (storeCells ⟨b,O,none⟩ vs).run P w= .ok () (w.setCells b O vs):=by
 have:=run_storeCells_cells (P:=P) b O vs 0 w (fun j hj=>by
  rw[cell_of_heap h];simp;omega) (fun j hj=>by
  rw[frozen_of_heap h]
  have:=hf (O+j) (by omega) (by omega)
  simp only[Nat.add_zero,Bool.and_eq_false_iff,decide_eq_false_iff_not];omega) h1
 simpa using this
theorem lJ {P:Program} {w:World} {b:Nat} {C:Array Value} {e:TypeId} {f:Nat×Nat} (h:w.heap[b]? =some (.cells C e f)) (O:Nat) (cs:List Value)
 (hv:∀(j:Nat) (v:Value),cs[j]? =some v→C[O+j]? =some v):(loadCells ⟨b,O,none⟩ cs.length).run P w= .ok cs.toArray w:=
 run_loadCells_list (P:=P) w ⟨b,O,none⟩ cs (fun j v hj=>by
  have:(⟨b,O,none⟩:Addr).add j=⟨b,O+j,none⟩:=by unfold Addr.add;split<;>simp_all
  rw[this,cell_of_heap h];exact hv j v hj)
theorem CR.range {φ:Ph} {cs:List AV} {e:TypeId} {ro:Bool} {l:Loc} {C:Array Value} {lo hi:Nat} (h:CR E φ cs e ro l C lo hi) (o n:Nat) (hn:o+n≤cs.length):
 ∃vs:List Value,vs.length=n∧(∀(j:Nat) (v:Value),vs[j]? =some v→C[l.off+o+j]? =some v)∧LR φ ((cs.drop o).take n) vs:=by
 have Kt:=h.size
 refine ⟨((C.toList.drop (l.off+o)).take n),by simp;omega,fun j v hj=>?_,by simp;omega,fun j x y hx hy=>?_⟩
 · rw[List.getElem?_take] at hj
   split at hj
   · simpa [Nat.add_assoc] using hj
   · simp at hj
 · rw[List.getElem?_take] at hx hy
   split at hx
   · rename_i hjn
     simp only[hjn,if_true] at hy
     rw[List.getElem?_drop] at hx hy
     obtain ⟨z,hz,hr⟩:=h.val (o+j) x hx
     simp at hy
     rw[show l.off+(o+j)=l.off+o+j by omega] at hz
     rw[hz] at hy;simp at hy;subst hy;exact hr
   · simp at hx
theorem OK.change {φ:Ph} {h:au} {w w':World} (ok:OK E φ h w) {i:Nat} {o o':aR} {l:Loc} (hg:h.get i=some o) (D0:o.rw=true) (hl:φ i=some l)
 (ho:OR E φ o' l w'.heap[l.dq]?) (qd:∀c,c≠l.dq→w'.heap[c]? =w.heap[c]?) (eE:w'.heap.size=w.heap.size)
 (Zd:w'.os=w.os) (Ea:w'.tape=w.tape) (nV:w'.output=w.output):
 OK E φ (h.put i (some o')) w'∧Fr φ h w φ (h.put i (some o')) w':=by
 have fB:∀j p,(h.put i (some o')).get j=some p→(j=i∧p=o')∨(j≠i∧h.get j=some p):=fun j p hj=>by
  by_cases e:i=j
  · subst e;rw[au.bF] at hj;simp at hj;exact .inl ⟨rfl,hj.symm⟩
  · rw[au.aY e] at hj;exact .inr ⟨Ne.symm e,hj⟩
 refine ⟨⟨ok.xz,ok.nx,ok.sM,fun j p m hj hm=>?_,fun j k p q m n hj hk hm hn hw hb=>?_⟩,⟨Ph.le_refl φ,fun _ _=>rfl,Nat.le_refl _,Zd,Ea,nV,Nat.le_of_eq eE.symm,fun b _ hn=>?_,fun j p m hj hr hm=>?_⟩⟩
 · rcases fB j p hj with ⟨rfl,rfl⟩ | ⟨dD,mQ⟩
   · rw[hl] at hm;simp at hm;subst hm;exact ho
   · rw[qd _ (fun e=>dD (ok.inj j i p o m l mQ hg hm hl (.inr D0) e))]
     exact ok.live j p m mQ hm
 · rcases fB j p hj with ⟨rfl,rfl⟩ | ⟨_,mQ⟩<;>rcases fB k q hk with ⟨rfl,rfl⟩ | ⟨_,Eb⟩
   · rfl
   · exact ok.inj _ _ _ _ _ _ hg Eb hm hn (.inl D0) hb
   · exact ok.inj _ _ _ _ _ _ mQ hg hm hn (.inr D0) hb
   · exact ok.inj _ _ _ _ _ _ mQ Eb hm hn hw hb
 · exact qd b (fun e=>hn i o l hg D0 hl e.symm)
 · rcases fB j p hj with ⟨rfl,rfl⟩ | ⟨_,mQ⟩
   · rw[hl] at hm;simp at hm;subst hm;exact .inr ⟨j,o,l,hg,D0,hl,rfl⟩
   · exact .inr ⟨j,p,m,mQ,hr,hm,rfl⟩
theorem OR.mono {φ φ':Ph} (hle:φ.le φ') {o:aR} {l:Loc} {x:Option Obj} (h:OR E φ o l x):OR E φ' o l x:=by
 cases o with
 | cells cs e ro=>
   obtain ⟨C,e',lo,hi,hx,hc⟩:=h
   exact ⟨C,e',lo,hi,hx,⟨hc.size,fun k x hk=>let ⟨y,a,b⟩:=hc.val k x hk;⟨y,a,b.mono hle⟩,hc.free,hc.zero⟩,hc.shape⟩
 | map es clock=>
   obtain ⟨h0,fj,hx,hl,hv⟩:=h
   exact ⟨h0,fj,hx,hl,fun i a b p q=>let r:=hv i a b p q;⟨r.key.mono hle,r.val.mono hle,r.born⟩⟩
 | sj s pos=>exact h
 | ym m since seen oD=>
   cases m with
   | none=>exact h
   | some m=>obtain ⟨h0,lm,hm,hx⟩:=h;exact ⟨h0,lm,hle _ _ hm,hx⟩
 | loop st fS ts ps as_ bd dn=>obtain ⟨h0,r,hx,hr⟩:=h;exact ⟨h0,r,hx,hr.mono hle⟩
 | tJ=>exact h
def Ph.add (φ:Ph) (i:Nat) (l:Loc):Ph:=fun j=>if j=i then some l else φ j
theorem OK.fresh {φ:Ph} {h h':au} {w w':World} (ok:OK E φ h w) {o:aR} (hn:h.new o=some h') (l:Loc)
 (ho:OR E (φ.add h.nx l) o l w'.heap[l.dq]?) (qd:∀c,c≠l.dq→c<w.heap.size→w'.heap[c]? =w.heap[c]?) (eE:w.heap.size≤w'.heap.size)
 (Ze:w.heap.size≤l.dq) (Zd:w'.os=w.os) (Ea:w'.tape=w.tape) (nV:w'.output=w.output):
 OK E (φ.add h.nx l) h' w'∧Fr φ h w (φ.add h.nx l) h' w'∧φ.le (φ.add h.nx l):=by
 obtain ⟨jE,Yt,yu,hold⟩:=au.jK hn
 have Cn:φ h.nx=none:=by
  cases e:φ h.nx with
  | none=>rfl
  | some m=>exact absurd (ok.xz _ _ e) (Nat.lt_irrefl _)
 have hle:φ.le (φ.add h.nx l):=fun i m hm=>by
  unfold Ph.add;split
  · rename_i e;subst e;rw[Cn] at hm;simp at hm
  · exact hm
 have hblk:∀j p m,h.get j=some p→φ j=some m→m.dq<w.heap.size:=fun j p m hj hm=>by
  have xX:=ok.live j p m hj hm
  rcases Nat.lt_or_ge m.dq w.heap.size with a | a
  · exact a
  · exfalso
    rw[Array.getElem?_eq_none a] at xX
    exact xX.absurd
 have fB:∀j p,h'.get j=some p→(j=h.nx∧p=o)∨(j≠h.nx∧h.get j=some p):=fun j p hj=>by
  by_cases e:j=h.nx
  · subst e;rw[yu] at hj;simp at hj;exact .inl ⟨rfl,hj.symm⟩
  · rw[hold j e] at hj;exact .inr ⟨e,hj⟩
 have iQ:∀j,j≠h.nx→(φ.add h.nx l) j=φ j:=fun j hj=>by simp [Ph.add,hj]
 have fW:(φ.add h.nx l) h.nx=some l:=by simp [Ph.add]
 refine ⟨⟨fun i m hm=>?_,?_,fun g hg=>hle _ _ (ok.sM g hg),fun j p m hj hm=>?_,fun j k p q m n hj hk hm pL hw hb=>?_⟩,
  ⟨hle,fun i hi=>iQ i (by omega),by omega,Zd,Ea,nV,eE,fun b hb V4=>qd b (by omega) hb,fun j p m hj hr hm=>?_⟩,hle⟩
 · rw[Yt]
   by_cases e:i=h.nx
   · omega
   · rw[iQ i e] at hm;have:=ok.xz i m hm;omega
 · have:=ok.nx;omega
 · rcases fB j p hj with ⟨rfl,rfl⟩ | ⟨dD,mQ⟩
   · rw[fW] at hm;simp at hm;subst hm;exact ho
   · rw[iQ j dD] at hm
     rw[qd _ (by have:=hblk j p m mQ hm;omega) (hblk j p m mQ hm)]
     exact (ok.live j p m mQ hm).mono hle
 · rcases fB j p hj with ⟨rfl,rfl⟩ | ⟨dD,mQ⟩<;>rcases fB k q hk with ⟨rfl,rfl⟩ | ⟨Co,Eb⟩
   · rfl
   · rw[fW] at hm;simp at hm;subst hm
     rw[iQ k Co] at pL;have:=hblk k q n Eb pL;omega
   · rw[fW] at pL;simp at pL;subst pL
     rw[iQ j dD] at hm;have:=hblk j p m mQ hm;omega
   · rw[iQ j dD] at hm;rw[iQ k Co] at pL;exact ok.inj _ _ _ _ _ _ mQ Eb hm pL hw hb
 · rcases fB j p hj with ⟨rfl,rfl⟩ | ⟨dD,mQ⟩
   · rw[fW] at hm;simp at hm;subst hm;exact .inl Ze
   · rw[iQ j dD] at hm;exact .inr ⟨j,p,m,mQ,hr,hm,rfl⟩
theorem OK.kill {φ:Ph} {h:au} {w:World} (ok:OK E φ h w) {i:Nat}:OK E φ (h.put i none) w:=by
 have fB:∀j p,(h.put i none).get j=some p→h.get j=some p∧j≠i:=fun j p hj=>by
  by_cases e:i=j
  · subst e;rw[au.bF] at hj;simp at hj
  · rw[au.aY e] at hj;exact ⟨hj,Ne.symm e⟩
 exact ⟨ok.xz,ok.nx,ok.sM,fun j p l hj hl=>ok.live j p l (fB j p hj).1 hl,fun j k p q m n hj hk=>ok.inj j k p q m n (fB j p hj).1 (fB k q hk).1⟩
end Go.Ab
end
