import GoSem.Step
import Derived.Calls
import Derived.Laws.Cells
import Derived.Laws.IdiomCopy
import Derived.Laws.NewBlocks
set_option linter.unusedVariables false
set_option linter.unusedSimpArgs false
section
namespace Go.Ab
inductive AV where
 | bool (b:Bool)
 | int (k:IntKind) (n:Int)
 | str (s:List UInt8)
 | iG
 | ptr (i off:Nat)
 | aG
 | slice (i off len cap:Nat) (op:Bool)
 | eZ
 | map (i:Nat)
 | func (f:FuncId) (first captured:List AV)
 | vQ (l:Nat)
 | nilFunc
 | iface (t:TypeId) (v:AV)
 | nilIface
 | agg (cs:List AV)
 | tuple (cs:List AV)
 | fD
 | any
 deriving Inhabited
def AV.undef:AV:= .tuple []
def AV.cells:AV→List AV
 | .agg cs=>cs
 | v=> [v]
def AV.scalar:AV→Bool
 | .agg _ | .tuple _=>false
 | _=>true
def eD {α:Type} (f:α→α→Bool):List α→List α→Bool
 | [],[]=>true
 | x::xs,y::ys=>f x y&&eD f xs ys
 | _,_=>false
def AV.same:Nat→AV→AV→Bool
 | 0,_,_=>false
 | n+1,x,y=>match x,y with
   | .bool a,.bool b=>a==b
   | .int k a,.int j b=>k==j&&a==b
   | .str a,.str b=>a==b
   | .iG,.iG=>true
   | .ptr i o,.ptr j p=>i==j&&o==p
   | .aG,.aG=>true
   | .fD,.fD=>true
   | .slice i o l c b,.slice j p m d e=>i==j&&o==p&&l==m&&c==d&&b==e
   | .eZ,.eZ=>true
   | .map i,.map j=>i==j
   | .func f a b,.func g c d=>f==g&&eD (AV.same n) a c&&eD (AV.same n) b d
   | .vQ l,.vQ m=>l==m
   | .nilFunc,.nilFunc=>true
   | .iface t a,.iface u b=>t==u&&AV.same n a b
   | .nilIface,.nilIface=>true
   | .agg a,.agg b=>eD (AV.same n) a b
   | .tuple a,.tuple b=>eD (AV.same n) a b
   | _,_=>false
def ma:Value→Option AV
 | .bool b=>some (.bool b)
 | .int k n=>some (.int k n)
 | .string s=>some (.str s.data.toList)
 | .pointer none=>some .iG
 | .slice none 0 0=>some .aG
 | .map none=>some .eZ
 | .nilFunc=>some .nilFunc
 | .nilIface=>some .nilIface
 | _=>none
def fE {α β:Type} (f:α→Option β):List α→Option (List β)
 | []=>some []
 | x::xs=>match f x with
   | none=>none
   | some y=>match fE f xs with
     | none=>none
     | some ys=>some (y::ys)
def ofConst:Value→Option AV
 | .agg cs=>match fE ma cs.toList with
   | some l=>some (.agg l)
   | none=>none
 | .tuple cs=>match fE ma cs.toList with
   | some l=>some (.tuple l)
   | none=>none
 | .iface t v=>match ma v with
   | some x=>some (.iface t x)
   | none=>none
 | v=>ma v
structure mE where
 key:AV
 val:AV
 born:Nat
inductive aM where
 | cells (cs:List AV) (elem:TypeId) (ro:Bool)
 | map (es:List mE) (clock:Nat)
 | yM (s:List UInt8) (pos:Nat)
 | Fu (m:Option Nat) (since:Nat) (seen:List Nat) (tF:Nat)
 | loop (st:LoopState) (pending:Option Code) (ts:List AV) (params:List Tmp) (assign body:Code) (dn:Nat)
 | UR
 deriving Inhabited
structure P8 (α:Type) where
 a0:α
 a1:α
 a2:α
 a3:α
 a4:α
 a5:α
 a6:α
 a7:α
section
variable {α β:Type}
def P8.all (x:α):P8 α:=⟨x,x,x,x,x,x,x,x⟩
def s8 (d:Nat) (k:(P8 α→α)→β):β:=match d with
 | 0=>k P8.a0
 | 1=>k P8.a1
 | 2=>k P8.a2
 | 3=>k P8.a3
 | 4=>k P8.a4
 | 5=>k P8.a5
 | 6=>k P8.a6
 | _=>k P8.a7
def WO (d:Nat) (p:P8 α):α:=s8 d fun s=>s p
theorem yN (d:Nat) (k:(P8 α→α)→β):s8 d k=k (WO d):=by
 rcases d with _ | _ | _ | _ | _ | _ | _ | d<;>rfl
noncomputable def pe0 (f:α→α) (p:P8 α):P8 α:=P8.rec (motive:=fun _=>P8 α) (fun a b c d e i g h=>⟨f a,b,c,d,e,i,g,h⟩) p
noncomputable def pe1 (f:α→α) (p:P8 α):P8 α:=P8.rec (motive:=fun _=>P8 α) (fun a b c d e i g h=>⟨a,f b,c,d,e,i,g,h⟩) p
noncomputable def pe2 (f:α→α) (p:P8 α):P8 α:=P8.rec (motive:=fun _=>P8 α) (fun a b c d e i g h=>⟨a,b,f c,d,e,i,g,h⟩) p
noncomputable def pe3 (f:α→α) (p:P8 α):P8 α:=P8.rec (motive:=fun _=>P8 α) (fun a b c d e i g h=>⟨a,b,c,f d,e,i,g,h⟩) p
noncomputable def pe4 (f:α→α) (p:P8 α):P8 α:=P8.rec (motive:=fun _=>P8 α) (fun a b c d e i g h=>⟨a,b,c,d,f e,i,g,h⟩) p
noncomputable def pe5 (f:α→α) (p:P8 α):P8 α:=P8.rec (motive:=fun _=>P8 α) (fun a b c d e i g h=>⟨a,b,c,d,e,f i,g,h⟩) p
noncomputable def pe6 (f:α→α) (p:P8 α):P8 α:=P8.rec (motive:=fun _=>P8 α) (fun a b c d e i g h=>⟨a,b,c,d,e,i,f g,h⟩) p
noncomputable def pe7 (f:α→α) (p:P8 α):P8 α:=P8.rec (motive:=fun _=>P8 α) (fun a b c d e i g h=>⟨a,b,c,d,e,i,g,f h⟩) p
noncomputable def e8 (d:Nat) (k:((α→α)→P8 α→P8 α)→β):β:=match d with
 | 0=>k pe0
 | 1=>k pe1
 | 2=>k pe2
 | 3=>k pe3
 | 4=>k pe4
 | 5=>k pe5
 | 6=>k pe6
 | _=>k pe7
noncomputable def epd (d:Nat) (f:α→α) (p:P8 α):P8 α:=e8 d fun u=>u f p
theorem Dz (d:Nat) (k:((α→α)→P8 α→P8 α)→β):e8 d k=k (epd d):=by
 rcases d with _ | _ | _ | _ | _ | _ | _ | d<;>rfl
theorem dO (d:Nat) (f:α→α) (p:P8 α):WO d (epd d f p)=f (WO d p):=by
 rcases d with _ | _ | _ | _ | _ | _ | _ | d<;>rfl
theorem fb {d e:Nat} (hd:d<8) (he:e<8) (h:d≠e) (f:α→α) (p:P8 α):WO e (epd d f p)=WO e p:=by
 rcases (show d=0∨d=1∨d=2∨d=3∨d=4∨d=5∨d=6∨d=7 by omega) with rfl | rfl | rfl | rfl | rfl | rfl | rfl | rfl<;>
 rcases (show e=0∨e=1∨e=2∨e=3∨e=4∨e=5∨e=6∨e=7 by omega) with rfl | rfl | rfl | rfl | rfl | rfl | rfl | rfl<;>
 first | rfl | exact absurd rfl h
theorem EY (d:Nat) (x:α):WO d (P8.all x)=x:=by
 rcases d with _ | _ | _ | _ | _ | _ | _ | d<;>rfl
noncomputable def canon (n:Nat) (f:Nat→β):β:=Nat.rec (motive:=fun _=>β) (f 0) (fun m _=>f (Nat.succ m)) n
theorem m6 (n:Nat) (f:Nat→β):canon n f=f n:=by cases n<;>rfl
end
abbrev H3:Type:=P8 (P8 (P8 (Option aM)))
abbrev HT:Type:=P8 (P8 (P8 H3))
structure Hi where
 get:HT→H3
 upd:(H3→H3)→HT→HT
structure Lo where
 get:H3→Option aM
 upd:Option aM→H3→H3
structure HP where
 get:HT→Option aM
 put:Option aM→HT→HT
noncomputable def US (q:Nat):Hi:=s8 (Nat.div q 64) fun g1=>s8 (Nat.mod (Nat.div q 8) 8) fun g2=>s8 (Nat.mod q 8) fun g3=>
 e8 (Nat.div q 64) fun u1=>e8 (Nat.mod (Nat.div q 8) 8) fun u2=>e8 (Nat.mod q 8) fun u3=>⟨fun t=>g3 (g2 (g1 t)),fun f t=>u1 (u2 (u3 f)) t⟩
noncomputable def WQ (q:Nat):Lo:=s8 (Nat.div q 64) fun g1=>s8 (Nat.mod (Nat.div q 8) 8) fun g2=>s8 (Nat.mod q 8) fun g3=>
 e8 (Nat.div q 64) fun u1=>e8 (Nat.mod (Nat.div q 8) 8) fun u2=>e8 (Nat.mod q 8) fun u3=>⟨fun t=>g3 (g2 (g1 t)),fun o t=>u1 (u2 (u3 fun _=>o)) t⟩
noncomputable def aly (a:Hi) (b:Lo):HP:=Hi.rec (motive:=fun _=>HP) (fun g u=>Lo.rec (motive:=fun _=>HP) (fun g' u'=>⟨fun t=>g' (g t),fun o t=>u (u' o) t⟩) b) a
noncomputable def hp (i:Nat):HP:=bif Nat.ble 262144 i then ⟨fun _=>none,fun _ t=>t⟩ else canon (Nat.div i 512) fun q=>canon (Nat.mod i 512) fun p=>aly (US q) (WQ p)
structure aC where
 t:HT
 nx:Nat
 f:Nat→Option aM
noncomputable def aC.get (h:aC) (i:Nat):Option aM:=bif Nat.ble 262144 i then h.f i else (hp i).get h.t
def Qb (f:Nat→Option aM) (i:Nat) (o:Option aM):Nat→Option aM:=fun j=>bif Nat.beq j i then o else f j
noncomputable def aC.put (h:aC) (i:Nat) (o:Option aM):aC:=⟨bif Nat.ble 262144 i then h.t else (hp i).put o h.t,h.nx,bif Nat.ble 262144 i then Qb h.f i o else h.f⟩
noncomputable def aC.new (h:aC) (o:aM):Option aC:=some ⟨bif Nat.ble 262144 h.nx then h.t else (hp h.nx).put (some o) h.t,h.nx+1,bif Nat.ble 262144 h.nx then Qb h.f h.nx (some o) else h.f⟩
def HT.nil:HT:=P8.all (P8.all (P8.all (P8.all (P8.all (P8.all none)))))
structure Env where
 P:Program
 G:Nat
 oF:FuncId→Option (List AV→Option AV)
 j5:FuncId→Option (List AV→aC→Option (AV×aC))
variable (E:Env)
def fK (ts:List AV):Operand→Option AV
 | .tmp t=>some (ts.getD t AV.undef)
 | .const v=>ofConst v
 | .global g=>if g<E.G then some (.ptr g 0) else none
 | .func f=>some (.func f [] [])
def ca (t:TypeId):Option Nat:=(E.P.info? t).map (·.size)
def kH (t:TypeId):Option Nat:=(E.P.info? t).map (·.bytes)
def iu (t:TypeId):Option AV:=match E.P.info? t with
 | some i=>match i.zero with
   | some z=>ofConst z
   | none=>none
 | none=>none
def gq (t:TypeId):Option Bool:=match E.P.underlying t with
 | some (.struct _)=>some true
 | some (.array _ _)=>some true
 | some _=>some false
 | none=>none
def bT (z:List AV):Nat→List AV
 | 0=> []
 | n+1=>z++bT z n
def jW (t:TypeId) (cs:List AV) (off:Nat):Option AV:=match gq E t with
 | some true=>match ca E t with
   | some n=>if off+n≤cs.length then some (.agg ((cs.drop off).take n)) else none
   | none=>none
 | some false=>cs[off]?
 | none=>none
def eh (op:BinOp) (k:IntKind) (a b:Int):Option AV:=match op with
 | .add=>some (.int k (k.wrap (a+b)))
 | .sub=>some (.int k (k.wrap (a - b)))
 | .mul=>some (.int k (k.wrap (a*b)))
 | .quo=>if b=0 then none else some (.int k (k.wrap (a.tdiv b)))
 | .rem=>if b=0 then none else some (.int k (a.tmod b))
 | .and=>some (.int k (k.wrap (BitVec.ofInt k.bits a&&& BitVec.ofInt k.bits b).toNat))
 | .or=>some (.int k (k.wrap (BitVec.ofInt k.bits a||| BitVec.ofInt k.bits b).toNat))
 | .xor=>some (.int k (k.wrap (BitVec.ofInt k.bits a^^^BitVec.ofInt k.bits b).toNat))
 | .andNot=>some (.int k (k.wrap (BitVec.ofInt k.bits a&&& ~~~ BitVec.ofInt k.bits b).toNat))
 | .eql=>some (.bool (a==b))
 | .neq=>some (.bool (a !=b))
 | .lss=>some (.bool (a<b))
 | .leq=>some (.bool (a≤b))
 | .gtr=>some (.bool (a>b))
 | .geq=>some (.bool (a≥b))
 | _=>none
def zr (op:BinOp) (a b:List UInt8):Option AV:=match op with
 | .add=>if a.length+b.length<1099511627776 then some (.str (a++b)) else none
 | .eql=>some (.bool (a==b))
 | .neq=>some (.bool !(a==b))
 | .lss=>some (.bool (Op.bytesLess a b))
 | .leq=>some (.bool (Op.bytesLess a b||a==b))
 | .gtr=>some (.bool !(Op.bytesLess a b||a==b))
 | .geq=>some (.bool !(Op.bytesLess a b))
 | _=>none
def UT (t:TypeId) (a b:AV):Option Bool:=match E.P.underlying t with
 | some .bool=>match a,b with
   | .bool x,.bool y=>some (x==y)
   | _,_=>none
 | some (.pointer _)=>match a,b with
   | .iG,.iG=>some true
   | .iG,.ptr _ _=>some false
   | .ptr _ _,.iG=>some false
   | _,_=>none
 | some (.interface _)=>match a,b with
   | .nilIface,.nilIface=>some true
   | .nilIface,.iface _ _=>some false
   | .iface _ _,.nilIface=>some false
   | _,_=>none
 | some (.slice _)=>match a,b with
   | .aG,.aG=>some true
   | .aG,.slice .. =>some false
   | .slice ..,.aG=>some false
   | _,_=>none
 | some (.map _ _)=>match a,b with
   | .eZ,.eZ=>some true
   | .eZ,.map _=>some false
   | .map _,.eZ=>some false
   | _,_=>none
 | some (.func ..)=>match a,b with
   | .nilFunc,.nilFunc=>some true
   | .nilFunc,.func .. =>some false
   | .func ..,.nilFunc=>some false
   | _,_=>none
 | _=>none
def ql (eq:TypeId→AV→AV→Option Bool) (xs ys:List AV):List Field→Option Bool
 | []=>some true
 | f::fs=>if f.name= "_" then ql eq xs ys fs else match jW E f.type xs f.offset,jW E f.type ys f.offset with
   | some a,some b=>match eq f.type a b with
     | some true=>ql eq xs ys fs
     | some false=>some false
     | none=>none
   | _,_=>none
def zt:Nat→TypeId→AV→AV→Option Bool
 | 0,_,_,_=>none
 | n+1,t,a,b=>match a,b with
   | .int k x,.int j y=>match E.P.underlying t with
     | some (.int _)=>if k=j then some (x==y) else none
     | _=>none
   | .str x,.str y=>match E.P.underlying t with
     | some .string=>some (x==y)
     | _=>none
   | .agg xs,.agg ys=>match E.P.underlying t with
     | some (.struct fs)=>if E.P.stoodInHeld t=false then ql E (zt n) xs ys fs.toList else none
     | _=>none
   | a,b=>UT E t a b
def isConst:Operand→Bool
 | .const _=>true
 | _=>false
def rA (xc yc:Bool):AV→AV→Bool
 | .nilIface,.nilIface=>xc||yc
 | .agg _,.agg _=>false
 | .any,_=>false
 | _,.any=>false
 | _,_=>true
def nX (op:BinOp) (t:TypeId) (xc yc:Bool) (a b:AV):Option AV:=match op,a,b with
 | .shl,.int k x,.int _ y=>if y<0 then none else some (.int k (k.wrap (x*2^(min y.toNat k.bits))))
 | .shr,.int k x,.int _ y=>if y<0 then none else some (.int k (x.fdiv (2^(min y.toNat k.bits))))
 | op,.int k x,.int k' y=>if k=k' then eh op k x y else none
 | op,.str x,.str y=>zr op x y
 | .eql,.agg xs,.agg ys=>if E.P.eqGuardType E.P.depth t then none else (match zt E 16 t (.agg xs) (.agg ys) with
   | some r=>some (.bool r)
   | none=>none)
 | .neq,.agg xs,.agg ys=>if E.P.eqGuardType E.P.depth t then none else (match zt E 16 t (.agg xs) (.agg ys) with
   | some r=>some (.bool !r)
   | none=>none)
 | .eql,x,y=>if rA xc yc x y then (match UT E t x y with
   | some r=>some (.bool r)
   | none=>none) else none
 | .neq,x,y=>if rA xc yc x y then (match UT E t x y with
   | some r=>some (.bool !r)
   | none=>none) else none
 | _,_,_=>none
def unA (op:UnOp) (x:AV):Option AV:=match op,x with
 | .neg,.int k n=>some (.int k (k.wrap (0 - n)))
 | .xor,.int k n=>some (.int k (k.wrap (BitVec.ofInt k.bits (if k.signed then -1 else k.max)^^^BitVec.ofInt k.bits n).toNat))
 | .not,.bool b=>some (.bool !b)
 | _,_=>none
def qq (x:AV) (y:Nat):Option Nat:=match x with
 | .int _ i=>if 0≤i∧i≤y then some i.toNat else none
 | _=>none
def mw (len cap:Nat) (low high max:Option AV):Option (Nat×Nat×Nat):=
 match (match max with | some v=>qq v cap | none=>some cap) with
 | none=>none
 | some m=>match (match high with | some v=>qq v m | none=>if max.isSome then none else some len) with
   | none=>none
   | some h=>match (match low with | some v=>qq v h | none=>some 0) with
     | none=>none
     | some l=>some (l,h,m)
def oT (ts:List AV):Option Operand→Option (Option AV)
 | none=>some none
 | some o=>match fK E ts o with
   | some v=>some (some v)
   | none=>none
def fe (t:TypeId) (x:AV) (low high max:Option AV):Option AV:=match E.P.underlying t,x with
 | some (.array n elem),.ptr i o=>match mw n n low high max,ca E elem with
   | some (l,h,m),some size=>some (.slice i (if m=l then o else o+l*size) (h - l) (m - l) false)
   | _,_=>none
 | some .string,.str s=>match max,mw s.length s.length low high none with
   | none,some (l,h,_)=>some (.str ((s.drop l).take (h - l)))
   | _,_=>none
 | some (.slice elem),.aG=>match mw 0 0 low high max,ca E elem with
   | some _,some _=>some .aG
   | _,_=>none
 | some (.slice elem),.slice i o len cap op=>
   if len≤cap then match mw len cap low high max,ca E elem with
   | some (l,h,m),some size=>
     if m=l then (if op&&max.isNone then some .fD else some (.slice i o (h - l) (m - l) false))
     else some (.slice i (o+l*size) (h - l) (m - l) (op&&max.isNone))
   | _,_=>none
   else none
 | _,_=>none
def oU (t:TypeId) (f:Nat):Option Field:=match E.P.underlying t with
 | some (.struct fs)=>fs[f]?
 | _=>none
def setFrom (cs:List AV) (off:Nat):List AV→List AV
 | []=>cs
 | v::vs=>setFrom (cs.set off v) (off+1) vs
def qt (place:Nat→Option (Nat×Nat)) (cs:List AV):List (Nat×AV)→Option (List AV)
 | []=>some cs
 | (i,v)::rest=>match place i with
   | none=>none
   | some (off,size)=>if v.cells.length=size∧off+size≤cs.length then qt place (setFrom cs off v.cells) rest else none
def lU (ts:List AV):List (Nat×Operand)→Option (List (Nat×AV))
 | []=>some []
 | (i,o)::rest=>match fK E ts o with
   | none=>none
   | some v=>match lU ts rest with
     | none=>none
     | some l=>some ((i,v)::l)
def placesOf (fs:List Field):Option (List (Nat×Nat)):=fE (fun f=>match ca E f.type with | some n=>some (f.offset,n) | none=>none) fs
def Kp (t:TypeId) (parts:List (Nat×AV)):Option AV:=match iu E t with
 | none=>none
 | some z=>match E.P.underlying t with
   | some (.struct fs)=>match placesOf E fs.toList with
     | none=>none
     | some ps=>match qt (ps[·]?) z.cells parts with
       | some cs=>some (.agg cs)
       | none=>none
   | some (.array _ elem)=>match ca E elem with
     | none=>none
     | some n=>match qt (fun i=>some (i*n,n)) z.cells parts with
       | some cs=>some (.agg cs)
       | none=>none
   | _=>none
def Qc:AV→List AV→Option AV
 | .int k x,[]=>some (.int k x)
 | .int k x,.int _ y::rest=>Qc (.int k (if y>x then y else x)) rest
 | _,_=>none
def Qd:AV→List AV→Option AV
 | .int k x,[]=>some (.int k x)
 | .int k x,.int _ y::rest=>Qd (.int k (if y<x then y else x)) rest
 | _,_=>none
def iv (ts:List AV) (l:List Operand):Option (List AV):=fE (fK E ts) l
def SO (n:Int):Option AV:=if 0≤n∧n<128 then some (.str [UInt8.ofNat n.toNat]) else none
def bC (ts:List AV):Op→Option AV
 | .move x=>fK E ts x
 | .assign x=>fK E ts x
 | .pick c a b=>match fK E ts c with
   | some (.bool true)=>fK E ts a
   | some (.bool false)=>fK E ts b
   | _=>none
 | .build t parts=>match lU E ts parts.toList with
   | some ps=>Kp E t ps
   | none=>none
 | .nilCheck x=>match fK E ts x with
   | some (.ptr i o)=>some (.ptr i o)
   | some (.map i)=>some (.map i)
   | some (.slice i o l c b)=>some (.slice i o l c b)
   | some (.func f a b)=>some (.func f a b)
   | _=>none
 | .binOp op t x y _=>match fK E ts x,fK E ts y with
   | some a,some b=>nX E op t (isConst x) (isConst y) a b
   | _,_=>none
 | .unOp op _ x=>match fK E ts x with
   | some a=>unA op a
   | none=>none
 | .convert src dst x=>match E.P.underlying src,E.P.underlying dst,fK E ts x with
   | some _,some (.int k),some (.int _ n)=>some (.int k (k.wrap n))
   | some _,some .string,some (.str s)=>some (.str s)
   | some _,some .string,some (.int _ n)=>SO n
   | _,_,_=>none
 | .makeInterface t x=>match E.P.underlying t,fK E ts x with
   | some (.interface _),_=>none
   | some _,some v=>some (.iface t v)
   | _,_=>none
 | .makeFunc (.func f) first captured=>match iv E ts first.toList,iv E ts captured.toList with
   | some a,some b=>some (.func f a b)
   | _,_=>none
 | .slice t x lo hi mx=>match fK E ts x,oT E ts lo,oT E ts hi,oT E ts mx with
   | some v,some l,some h,some m=>fe E t v l h m
   | _,_,_,_=>none
 | .fieldAddr s x f=>match oU E s f,fK E ts x with
   | some fd,some (.ptr i o)=>match ca E fd.type with
     | some n=>if n=0 then none else some (.ptr i (o+fd.offset))
     | none=>none
   | _,_=>none
 | .field s x f=>match oU E s f,fK E ts x with
   | some fd,some (.agg cs)=>jW E fd.type cs fd.offset
   | _,_=>none
 | .indexAddr t x ix=>match E.P.underlying t,fK E ts x,fK E ts ix with
   | some (.array len elem),some (.ptr i o),some (.int _ n)=>match ca E elem with
     | some size=>if 0≤n∧n<len then some (.ptr i (o+n.toNat*size)) else none
     | none=>none
   | some (.slice elem),some (.slice i o len _ _),some (.int _ n)=>match ca E elem with
     | some size=>if 0≤n∧n<len then some (.ptr i (o+n.toNat*size)) else none
     | none=>none
   | _,_,_=>none
 | .index t x ix=>match E.P.underlying t,fK E ts x,fK E ts ix with
   | some (.array len elem),some (.agg cs),some (.int _ n)=>match ca E elem with
     | some size=>if 0≤n∧n<len then jW E elem cs (n.toNat*size) else none
     | none=>none
   | some .string,some (.str s),some (.int _ n)=>if 0≤n then (match s[n.toNat]? with | some b=>some (.int .u8 b.toNat) | none=>none) else none
   | _,_,_=>none
 | .extract x i=>match fK E ts x with
   | some (.tuple vs)=>vs[i]?
   | _=>none
 | .typeAssert x _ asserted iX=>match E.P.underlying asserted,fK E ts x with
   | some (.interface _),_=>none
   | some _,some (.iface t v)=>
     if t=asserted then some (if iX then .tuple [v,.bool true] else v)
     else if iX then (match iu E asserted with | some z=>some (.tuple [z,.bool false]) | none=>none) else none
   | some _,some .nilIface=>if iX then (match iu E asserted with | some z=>some (.tuple [z,.bool false]) | none=>none) else none
   | _,_=>none
 | .call {callee:= .builtin .len,args,argTypes}=>match argTypes[0]?,iv E ts args.toList with
   | some t,some [v]=>match E.P.underlying t,v with
     | some .string,.str s=>some (.int .i64 s.length)
     | some (.array n _),_=>some (.int .i64 n)
     | some (.slice _),.aG=>some (.int .i64 0)
     | some (.slice _),.slice _ _ n _ _=>some (.int .i64 n)
     | some (.slice _),.fD=>some (.int .i64 0)
     | some (.map _ _),.eZ=>some (.int .i64 0)
     | _,_=>none
   | _,_=>none
 | .call {callee:= .builtin .cap,args,argTypes}=>match argTypes[0]?,iv E ts args.toList with
   | some t,some [v]=>match E.P.underlying t,v with
     | some (.array n _),_=>some (.int .i64 n)
     | some (.slice _),.aG=>some (.int .i64 0)
     | some (.slice _),.slice _ _ _ c false=>some (.int .i64 c)
     | _,_=>none
   | _,_=>none
 | .call {callee:= .builtin .max,args,..}=>match iv E ts args.toList with
   | some (x::rest)=>Qc x rest
   | _=>none
 | .call {callee:= .builtin .min,args,..}=>match iv E ts args.toList with
   | some (x::rest)=>Qd x rest
   | _=>none
 | .call {callee:= .value (.func f),args,..}=>match E.oF f,iv E ts args.toList with
   | some e,some vs=>e vs
   | _,_=>none
 | _=>none
noncomputable def bh (h:aC) (t:TypeId) (a:AV):Option AV:=match a with
 | .ptr i o=>match h.get i with
   | some (.cells cs _ _)=>jW E t cs o
   | _=>none
 | _=>none
def I':AV→AV→Option Bool
 | .str a,.str b=>some (a==b)
 | .int k a,.int k' b=>if k=k' then some (a==b) else none
 | .bool a,.bool b=>some (a==b)
 | _,_=>none
def j6 (d:Option TypeDesc) (k:AV):Bool:=match d,k with
 | some .string,.str _=>true
 | some (.int _),.int _ _=>true
 | some .bool,.bool _=>true
 | _,_=>false
def vR:List AV→List AV→Bool
 | [],[]=>true
 | .int k a::xs,.int j b::ys=>decide (k=j)&&decide (a=b)&&vR xs ys
 | _,_=>false
def oG (d:Option TypeDesc) (k:AV):Bool:=match d,k with
 | some (.struct fs),.agg xs=>fs.toList.all fun f=>match E.P.underlying f.type,jW E f.type xs f.offset with
   | some (.int _),some (.int _ _)=>true
   | _,_=>false
 | _,_=>false
def findD (key:TypeId) (k:AV):List mE→Nat→Option (Option (Nat×AV))
 | [],_=>some none
 | e::es,i=>match zt E 16 key k e.key with
   | some true=>(match k,e.key with | .agg xs,.agg ys=>if vR xs ys then some (some (i,e.val)) else none | _,_=>none)
   | some false=>findD key k es (i+1)
   | none=>none
def vS (k:AV):List mE→Nat→Option (Option (Nat×AV))
 | [],_=>some none
 | e::es,i=>match I' k e.key with
   | some true=>some (some (i,e.val))
   | some false=>vS k es (i+1)
   | none=>none
noncomputable def Kq (h:aC) (i o n:Nat):Option (List UInt8):=match h.get i with
 | some (.cells cs _ _)=>if o+n≤cs.length then
  fE (fun | .int .u8 b=>some (UInt8.ofNat b.toNat) | _=>none) ((cs.drop o).take n) else none
 | _=>none
noncomputable def fp (ts:List AV) (h:aC):Op→Option AV
 | .load t a=>match fK E ts a with
   | some v=>bh E h t v
   | none=>none
 | .convert src dst x=>match E.P.underlying src,E.P.underlying dst,fK E ts x with
   | some (.slice e),some .string,some v=>match E.P.underlying e,v with
     | some (.int .u8),.aG=>some (.str [])
     | some (.int .u8),.slice i o len _ _=>match Kq h i o len with
       | some l=>some (.str l)
       | none=>none
     | _,_=>none
   | _,_,_=>none
 | .lookup t x ix iX=>match E.P.underlying t,fK E ts x,fK E ts ix with
   | some (.map key elem),some m,some k=>
     if j6 (E.P.underlying key) k then
      match (match m with | .eZ=>some [] | .map i=>(match h.get i with | some (.map es _)=>some es | _=>none) | _=>none) with
      | none=>none
      | some es=>match vS k es 0 with
        | none=>none
        | some (some (_,v))=>some (if iX then .tuple [v,.bool true] else v)
        | some none=>match iu E elem with
          | some z=>some (if iX then .tuple [z,.bool false] else z)
          | none=>none
     else if oG E (E.P.underlying key) k then
      match (match m with | .eZ=>some [] | .map i=>(match h.get i with | some (.map es _)=>some es | _=>none) | _=>none) with
      | none=>none
      | some es=>match findD E key k es 0 with
        | none=>none
        | some (some (_,v))=>some (if iX then .tuple [v,.bool true] else v)
        | some none=>match iu E elem with
          | some z=>some (if iX then .tuple [z,.bool false] else z)
          | none=>none
     else none
   | _,_,_=>none
 | .call {callee:= .builtin .len,args,argTypes}=>match argTypes[0]?,iv E ts args.toList with
   | some t,some [.map i]=>match E.P.underlying t,h.get i with
     | some (.map _ _),some (.map es _)=>some (.int .i64 es.length)
     | _,_=>none
   | _,_=>none
 | _=>none
def fF (ts:List AV):Op→Option (aM×(Nat→AV))
 | .alloc t=>match iu E t with
   | some z=>some (.cells z.cells t false,fun i=> .ptr i 0)
   | none=>none
 | .box t x=>match fK E ts x with
   | some v=>some (.cells v.cells t false,fun i=> .ptr i 0)
   | none=>none
 | .buildSlice t len parts=>match E.P.underlying t with
   | some (.slice elem)=>match ca E elem,iu E elem,lU E ts parts.toList with
     | some n,some z,some ps=>if z.cells.length=n∧len*n≤2^24 then
      match qt (fun i=>some (i*n,n)) (bT z.cells len) ps with
      | some cs=>some (.cells cs elem false,fun i=> .slice i 0 len len false)
      | none=>none
       else none
     | _,_,_=>none
   | _=>none
 | .makeSlice t l c=>match E.P.underlying t,fK E ts l,fK E ts c with
   | some (.slice elem),some (.int _ len),some (.int _ cap)=>match ca E elem,kH E elem,iu E elem with
     | some n,some bytes,some z=>
       if 0≤len∧len≤cap∧cap<2^30∧(bytes:Int)*cap≤2^47∧z.cells.length=n then
        some (.cells (bT z.cells cap.toNat) elem false,fun i=> .slice i 0 len.toNat cap.toNat false)
       else none
     | _,_,_=>none
   | _,_,_=>none
 | .makeMap t r=>match r with
   | none=>some (.map [] 0,fun i=> .map i)
   | some o=>match E.P.underlying t,fK E ts o with
     | some (.map _ _),some (.int _ _)=>some (.map [] 0,fun i=> .map i)
     | _,_=>none
 | .range t x=>match E.P.underlying t,fK E ts x with
   | some .string,some (.str s)=>some (.yM s 0,fun i=> .ptr i 0)
   | some (.map _ _),some .eZ=>some (.Fu none 0 [] 0,fun i=> .ptr i 0)
   | _,_=>none
 | _=>none
noncomputable def dV (h:aC) (t:TypeId) (a v:AV):Option aC:=match a with
 | .ptr i o=>match h.get i,ca E t with
   | some (.cells cs e false),some n=>if v.cells.length=n∧o+n≤cs.length∧v.cells.all AV.scalar=true then some (h.put i (some (.cells (setFrom cs o v.cells) e false))) else none
   | _,_=>none
 | _=>none
def yw:AV→Option Nat
 | .aG=>some 0
 | .slice _ _ n _ _=>some n
 | .str s=>some s.length
 | .fD=>some 0
 | _=>none
noncomputable def ic (h:aC) (size n:Nat):AV→Option (List AV)
 | .aG=>if n=0 then some [] else none
 | .fD=>if n=0 then some [] else none
 | .slice i o len _ _=>if n≤len then (if n=0 then some [] else match h.get i with
  | some (.cells cs _ _)=>if o+n*size≤cs.length then some ((cs.drop o).take (n*size)) else none
  | _=>none) else none
 | .str s=>if size=1 then some ((s.take n).map fun b=> .int .u8 b.toNat) else none
 | _=>none
def qu:TypeDesc→Bool
 | .int _=>true
 | _=>false
noncomputable def vT (h:aC) (elem:TypeId) (s x:AV):Option (AV×aC):=match s,x,ca E elem,kH E elem,iu E elem with
 | .aG,.int _ k,some size,some bytes,some z=>
   if 0<k∧0<size∧(4*k.toNat+4096)*(bytes+1)≤1099511627776∧z.cells.length=size then
    match h.new (.cells (bT z.cells k.toNat) elem false) with
    | some h'=>some (.slice h.nx 0 k.toNat k.toNat true,h')
    | none=>none
   else none
 | _,_,_,_,_=>none
noncomputable def du (h:aC) (argTypes:Array TypeId) (s x:AV):Option (AV×aC):=match argTypes[0]?,argTypes[1]? with
 | some sT,some xT=>match E.P.underlying sT,E.P.underlying xT with
   | some (.slice elem),some xd=>if qu xd then vT E h elem s x else match ca E elem,kH E elem,yw x with
     | some size,some bytes,some n=>match ic h size n x,iu E elem with
       | some new,some z=>if z.cells.length=size∧new.all AV.scalar=true∧new.length=n*size then
         match s with
         | .aG=>if n=0 then some (.aG,h) else if (4*n+4096)*(bytes+1)≤1099511627776 then
          (match h.new (.cells new elem false) with
          | some h'=>some (.slice h.nx 0 n n true,h')
          | none=>none) else none
         | .slice i o len cap op=>match h.get i with
           | some (.cells cs e false)=>
             if len+n≤cap then
              if o+(len+n)*size≤cs.length then some (.slice i o (len+n) cap op,h.put i (some (.cells (setFrom cs (o+len*size) new) e false))) else none
             else if (4*(len+n)+4096)*(bytes+1)≤1099511627776∧o+len*size≤cs.length∧(op=true→e=elem∧o+cap*size=cs.length) then
              match (if op then h.put i none else h).new (.cells ((cs.drop o).take (len*size)++new) elem false) with
              | some h'=>some (.slice h.nx 0 (len+n) (len+n) true,h')
              | none=>none
             else none
           | _=>none
         | _=>none else none
       | _,_=>none
     | _,_,_=>none
   | _,_=>none
 | _,_=>none
noncomputable def yO (h:aC) (argTypes:Array TypeId) (d s:AV):Option (AV×aC):=match argTypes[0]? with
 | some dT=>match E.P.underlying dT,yw s with
   | some (.slice elem),some m=>match ca E elem,d with
     | some _,.aG=>some (.int .i64 0,h)
     | some size,.slice i o len _ _=>match ic h size (min m len) s,h.get i with
       | some new,some (.cells cs e false)=>if o+new.length≤cs.length∧new.all AV.scalar=true then some (.int .i64 (min m len:Nat),h.put i (some (.cells (setFrom cs o new) e false))) else none
       | _,_=>none
     | _,_=>none
   | _,_=>none
 | none=>none
def m7 (es:List mE) (i:Nat) (v:AV):List mE:=match es,i with
 | [],_=> []
 | e::es,0=>{e with val:=v}::es
 | e::es,i+1=>e::m7 es i v
noncomputable def fN (h:aC) (t:TypeId) (m k v:AV):Option aC:=match E.P.underlying t,m with
 | some (.map key _),.map i=>match h.get i with
   | some (.map es clock)=>if j6 (E.P.underlying key) k then
    match vS k es 0 with
    | some (some (j,_))=>some (h.put i (some (.map (m7 es j v) clock)))
    | some none=>some (h.put i (some (.map (es++[{key:=k,val:=v,born:=clock}]) (clock+1))))
    | none=>none
     else if oG E (E.P.underlying key) k then
      match findD E key k es 0 with
      | some (some (j,_))=>some (h.put i (some (.map (m7 es j v) clock)))
      | some none=>some (h.put i (some (.map (es++[{key:=k,val:=v,born:=clock}]) (clock+1))))
      | none=>none
     else none
   | _=>none
 | _,_=>none
noncomputable def Ja (h:aC) (it:AV) (isString:Bool):Option (AV×aC):=match it with
 | .ptr r 0=>match h.get r,isString with
   | some (.yM s pos),true=>
     if pos<s.length then
      match s[pos]? with
      | some b=>if b.toNat<128 then some (.tuple [.bool true,.int .i64 pos,.int .i32 b.toNat],h.put r (some (.yM s (pos+1)))) else none
      | none=>none
     else some (.tuple [.bool false],h)
   | some (.Fu none _ _ _),false=>some (.tuple [.bool false],h)
   | _,_=>none
 | _=>none
noncomputable def Jb (h:aC) (src dst:TypeId) (x:Option AV):Option (AV×aC):=match E.P.underlying src,E.P.underlying dst,x with
 | some .string,some (.slice e),some (.str s)=>match E.P.underlying e,h.new (.cells (s.map fun b=> .int .u8 b.toNat) e false) with
   | some (.int .u8),some h'=>if ca E e=some 1 then some (.slice h.nx 0 s.length s.length true,h') else none
   | _,_=>none
 | _,_,_=>none
inductive tG where
 | call (f:FuncId) (args:List AV)
 | col (r:Nat)
inductive Fn where
 | fn (f:FuncId)
 | DA (l:Nat)
inductive my where
 | normal
 | exit (id:Nat)
 | ret
 | panic (v:AV)
inductive RC where
 | no
 | ks (v:AV)
 | done
 | MP (l:Nat)
structure St where
 ts:List AV
 h:aC
 ds:List tG
 rc:RC
inductive Out where
 | ok (e:my) (s:St)
 | fail (why:String) (o:Option Oper)
inductive lV where
 | ret (v:AV) (h:aC)
 | panic (v:AV) (h:aC)
 | fail (why:String) (o:Option Oper)
abbrev bu:=Fn→List AV→aC→lV
inductive Cs where
 | val (v:AV) (h:aC)
 | defer (d:tG)
 | vU (v:AV)
 | panic (v:AV) (h:aC)
 | fail (why:String) (o:Option Oper)
def callee (ts:List AV) (c:Call):Option (Fn×List AV):=match c.callee with
 | .value f=>match fK E ts f,iv E ts c.args.toList with
   | some (.func g first captured),some args=>some (.fn g,first++args++captured)
   | some (.vQ l),some args=>some (.DA l,args)
   | _,_=>none
 | _=>none
def AN (t:TypeId) (name:String):Option FuncId:=match E.P.info? t with
 | some i=>match i.methods.find? (·.name==name) with
   | some m=>if m.path.isEmpty then match m.func,E.P.underlying t with
     | _,some (.pointer _)=>none
     | some (f,false),some _=>some f
     | _,_=>none
     else none
   | none=>none
 | none=>none
def lC:Fn→Option (List AV→aC→Option (AV×aC))
 | .fn f=>E.j5 f
 | .DA _=>none
noncomputable def ea (call:bu) (ts:List AV) (h:aC) (rc:RC) (o:Oper):Cs:=
 let v (r:Option (AV×aC)):Cs:=match r with
  | some (x,h')=> .val x h'
  | none=> .fail "eff" (some o)
 match o.op with
 | .store t a x=>match fK E ts a,fK E ts x with
   | some av,some xv=>match dV E h t av xv with
     | some h'=> .val AV.undef h'
     | none=> .fail "store" (some o)
   | _,_=> .fail "store ops" (some o)
 | .mapUpdate t m k x=>match fK E ts m,fK E ts k,fK E ts x with
   | some mv,some kv,some xv=>match fN E h t mv kv xv with
     | some h'=> .val AV.undef h'
     | none=> .fail "mapUpdate" (some o)
   | _,_,_=> .fail "mapUpdate ops" (some o)
 | .insert t m k x=>match fK E ts m,fK E ts k,fK E ts x with
   | some mv,some kv,some xv=>match fN E h t mv kv xv with
     | some h'=> .val AV.undef h'
     | none=> .fail "insert" (some o)
   | _,_,_=> .fail "insert ops" (some o)
 | .convert src dst x=>v (Jb E h src dst (fK E ts x))
 | .next it isString=>match fK E ts it with
   | some i=>v (Ja h i isString)
   | none=> .fail "next" (some o)
 | .panic x=>match fK E ts x with
   | some (.iface t w)=> .panic (.iface t w) h
   | _=> .fail "panic" (some o)
 | .defer c=>match rc,callee E ts c with
   | .MP _,_=> .fail "defer in a round" (some o)
   | _,some (.fn f,args)=> .defer (.call f args)
   | _,_=> .fail "defer" (some o)
 | .call c=>match c.callee with
   | .builtin .append=>match iv E ts c.args.toList with
     | some [s,x]=>v (du E h c.argTypes s x)
     | _=> .fail "append" (some o)
   | .builtin .copy=>match iv E ts c.args.toList with
     | some [s,x]=>v (yO E h c.argTypes s x)
     | _=> .fail "copy" (some o)
   | .builtin .recover=>match rc with
     | .ks x=> .vU x
     | .MP _=> .fail "recover in a round" (some o)
     | _=> .val .nilIface h
   | .value _=>match callee E ts c with
     | some (f,args)=>match lC E f with
      | some g=>v (g args h)
      | none=>match call f args h with
       | .ret x h'=> .val x h'
       | .panic x h'=> .panic x h'
       | .fail why q=> .fail why q
     | none=> .fail "callee" (some o)
   | .invoke r name=>match fK E ts r,iv E ts c.args.toList with
     | some (.iface t x),some args=>match AN E t name with
       | some f=>match call (.fn f) (x::args) h with
         | .ret x h'=> .val x h'
         | .panic x h'=> .panic x h'
         | .fail why q=> .fail why q
       | none=> .fail "method" (some o)
     | _,_=> .fail "invoke" (some o)
   | _=> .fail "call" (some o)
 | _=> .fail "op" (some o)
def ew (ts:List AV) (d:Option Tmp) (v:AV):List AV:=match d with
 | some i=>ts.set i v
 | none=>ts
def cV (ops:Array Oper) (ts:List AV) (o:Oper):Bool:=match o.guard with
 | none=>true
 | some (j,want)=>match (ops[j]?).bind (·.dst) with
   | some d=>match ts[d]? with
     | some (.bool b)=>b==want
     | _=>false
   | none=>false
noncomputable def Kr (call:bu) (s:St) (o:Oper):Out:=
 match bC E s.ts o.op with
 | some v=> .ok .normal {s with ts:=ew s.ts o.dst v}
 | none=>match fp E s.ts s.h o.op with
   | some v=> .ok .normal {s with ts:=ew s.ts o.dst v}
   | none=>match fF E s.ts o.op with
     | some (obj,mk)=>match s.h.new obj with
       | some h'=> .ok .normal {s with ts:=ew s.ts o.dst (mk s.h.nx),h:=h'}
       | none=> .fail "full" (some o)
     | none=>match ea E call s.ts s.h s.rc o with
       | .val v h'=> .ok .normal {s with ts:=ew s.ts o.dst v,h:=h'}
       | .defer d=> .ok .normal {s with ts:=ew s.ts o.dst AV.undef,ds:=d::s.ds}
       | .vU v=> .ok .normal {s with ts:=ew s.ts o.dst v,rc:= .done}
       | .panic v h'=> .ok (.panic v) {s with h:=h'}
       | .fail why q=> .fail why q
noncomputable def oV (call:bu) (ops:Array Oper):List Oper→St→Out
 | [],s=> .ok .normal s
 | o::rest,s=>
   if cV ops s.ts o then match Kr E call s o with
    | .ok .normal s'=>oV call ops rest s'
    | r=>r
   else oV call ops rest {s with ts:=ew s.ts o.dst AV.undef}
def gY:Op→Bool
 | .store .. | .mapUpdate .. | .insert .. | .next .. | .panic _ | .defer _=>true
 | .convert _ dst _=>match E.P.underlying dst with
   | some (.slice _)=>true
   | _=>false
 | .call c=>match c.callee with
   | .builtin .len | .builtin .cap | .builtin .max | .builtin .min=>false
   | .builtin _=>true
   | .value (.func f)=>(E.oF f).isNone
   | _=>true
 | _=>false
def mz (o:Oper):List Nat:=(o.after.toList.filter (Region.binds .any)).map (·.on)
def MY:List Oper→List (List Nat)→List (List Nat)
 | [],acc=>acc
 | o::rest,acc=>MY rest (acc++[(mz o).foldl (fun l e=>(acc.getD e []).foldl (fun l x=>if l.contains x then l else x::l) (if l.contains e then l else e::l)) []])
def MZ (an:List (List Nat)) (i:Nat):List Nat:=an.getD i []
def eN (an:List (List Nat)) (i j:Nat):Bool:=(MZ an i).contains j
def tmpsOf (o:Oper):List Tmp:=o.op.operands.toList.filterMap fun | .tmp t=>some t | _=>none
def EZ (ops:List Oper) (an:List (List Nat)):Bool:=
 ops.zipIdx.all fun (o,i)=>
  (mz o).all (fun e=>decide (e<i)&&eN an i e)&&
  (MZ an i).all (fun j=>decide (j<i)&&(mz o).any fun e=>e==j||eN an e j)
def E0 (ops:List Oper) (an:List (List Nat)):Bool:=
 ops.zipIdx.all fun (o,i)=>
  (match o.guard with
   | none=>true
   | some (g,_)=>eN an i g&&((ops[g]?).bind (·.dst)).isSome)&&
  (ops.zipIdx.all fun (p,j)=>i==j||match p.dst with
   | none=>true
   | some d=>o.dst !=some d&&(!(tmpsOf o).contains d||eN an i j||eN an j i))
def xR (an:List (List Nat)):List Nat→Bool
 | e::f::rest=>eN an f e&&xR an (f::rest)
 | _=>true
def py (ops:List Oper):List Nat:=(ops.zipIdx.filter fun (o,_)=>gY E o.op).map (·.2)
def Kt (bQ:List Nat) (an:List (List Nat)) (i:Nat):Nat:=(bQ.filter fun e=>eN an i e).length
def group (ops:List Oper) (bQ:List Nat) (an:List (List Nat)) (k:Nat):List Nat:=
 ((ops.zipIdx.filter fun (o,i)=> !gY E o.op&&Kt bQ an i==k).map (·.2))++(bQ[k]?).toList
def qv (ops:List Oper) (bQ:List Nat) (an:List (List Nat)):Nat→Nat→List Nat
 | 0,_=> []
 | n+1,k=>group E ops bQ an k++qv ops bQ an n (k+1)
def lW (bQ:List Nat) (an:List (List Nat)) (i:Nat):Nat:=(bQ.takeWhile fun e=> !eN an e i).length
structure n8 where
 an:List (List Nat)
 bQ:List Nat
 order:List Nat
def mA (ops:Array Oper) (an:List (List Nat)) (bQ:List Nat):List Nat→List Nat→Nat→Bool
 | [],seen,k=>(List.range ops.size).all (fun i=>seen.contains i)&&k==bQ.length
 | i::rest,seen,k=>decide (i<ops.size)&& !seen.contains i&&(MZ an i).all (fun j=>seen.contains j)&&
   (if gY E ((ops.getD i default).op) then bQ[k]? ==some i&&mA ops an bQ rest (i::seen) (k+1)
    else Kt bQ an i==k&&mA ops an bQ rest (i::seen) k)
def nodup:List Nat→Bool
 | []=>true
 | x::xs=> !xs.contains x&&nodup xs
def vV (ops:Array Oper):Option n8:=
 let l:=ops.toList
 let an:=MY l []
 let bQ:=py E l
 let order:=qv E l bQ an (bQ.length+1) 0
 if EZ l an&&E0 l an&&xR an bQ&&nodup bQ&&mA E ops an bQ order [] 0 then some ⟨an,bQ,order⟩ else none
inductive TK where
 | off
 | iV
 | red
 | vW (n:Nat) (obj:aM)
 | yx (h':aC)
structure Step where
 i:Nat
 k:Nat
 ts:List AV
 v:AV
 kind:TK
inductive lD where
 | ok (tr:List Step) (hs:List aC) (s:St)
 | fail (why:String) (o:Option Oper)
def lD.step (x:Step):lD→lD
 | .ok tr hs s=> .ok (x::tr) hs s
 | r=>r
def lD.bound (h:aC):lD→lD
 | .ok tr hs s=> .ok tr (h::hs) s
 | r=>r
noncomputable def dE (call:bu) (ops:Array Oper):List Nat→Nat→St→lD
 | [],_,s=> .ok [] [s.h] s
 | i::rest,k,s=>match ops[i]? with
   | none=> .fail "order" none
   | some o=>
     if gY E o.op then
      if cV ops s.ts o then match ea E call s.ts s.h s.rc o with
       | .val v h'=>((dE call ops rest (k+1) {s with ts:=ew s.ts o.dst v,h:=h'}).bound s.h).step ⟨i,k,s.ts,v,.yx h'⟩
       | .fail why q=> .fail why q
       | _=> .fail "draw" (some o)
      else ((dE call ops rest (k+1) {s with ts:=ew s.ts o.dst AV.undef}).bound s.h).step ⟨i,k,s.ts,AV.undef,.off⟩
     else if cV ops s.ts o then match bC E s.ts o.op with
      | some v=>(dE call ops rest k {s with ts:=ew s.ts o.dst v}).step ⟨i,k,s.ts,v,.iV⟩
      | none=>match fp E s.ts s.h o.op with
        | some v=>(dE call ops rest k {s with ts:=ew s.ts o.dst v}).step ⟨i,k,s.ts,v,.red⟩
        | none=>match fF E s.ts o.op with
          | some (obj,mk)=>match s.h.new obj with
            | some h'=>(dE call ops rest k {s with ts:=ew s.ts o.dst (mk s.h.nx),h:=h'}).step ⟨i,k,s.ts,mk s.h.nx,.vW s.h.nx obj⟩
            | none=> .fail "full" (some o)
          | none=> .fail "neither" (some o)
     else (dE call ops rest k {s with ts:=ew s.ts o.dst AV.undef}).step ⟨i,k,s.ts,AV.undef,.off⟩
def aM.same:aM→aM→Bool
 | .cells a e r,.cells b f q=>eD (AV.same 20) a b&&e==f&&r==q
 | .map [] c,.map [] d=>c==d
 | .yM s p,.yM t q=>s==t&&p==q
 | _,_=>false
noncomputable def kW (ops:Array Oper) (x:Step) (h:aC):Bool:=match x.kind with
 | .red=>match fp E x.ts h (ops.getD x.i default).op with
   | some v=>AV.same 20 v x.v
   | none=>false
 | .vW n obj=>match h.get n with
   | some o=>aM.same o obj
   | none=>false
 | _=>true
def tH (tr:List Step):List Nat:=tr.filterMap fun x=>match x.kind with | .vW n _=>some n | _=>none
noncomputable def tI (ops:Array Oper) (pl:n8) (tr:List Step) (hs:List aC):Bool:=
 nodup (tH tr)&&tr.all fun x=>((hs.drop x.k).take (lW pl.bQ pl.an x.i+1 - x.k)).all (kW E ops x)
noncomputable def Fv (call:bu) (ops:Array Oper) (s:St) (pl:n8):Option (AV×St):=match pl.order.reverse with
 | []=>none
 | i::front=>match dE E call ops front.reverse 0 s,ops[i]? with
   | .ok tr hs s1,some ⟨dst,.call c,ty,pos,after,guard⟩=>
     if gY E (.call c)&&cV ops s1.ts ⟨dst,.call c,ty,pos,after,guard⟩&&(List.range ops.size).all (fun j=>j==i||eN pl.an i j) then
      match ea E call s1.ts s1.h s1.rc ⟨dst,.call c,ty,pos,after,guard⟩ with
      | .panic v h'=>if tI E ops pl (tr++[⟨i,hs.length - 1,s1.ts,AV.undef,.yx h'⟩]) (hs++[h']) then some (v,{s1 with h:=h'}) else none
      | _=>none
     else none
   | _,_=>none
noncomputable def DB (call:bu) (ops:Array Oper) (s:St):Out:=match vV E ops with
 | none=> .fail "plan" (ops[0]?)
 | some pl=>match dE E call ops pl.order 0 s with
   | .ok tr hs s'=>if tI E ops pl tr hs then .ok .normal s' else .fail "still" (ops[0]?)
   | .fail why o=>match Fv E call ops s pl with
     | some (v,s2)=> .ok (.panic v) s2
     | none=> .fail why o
noncomputable def Xb (s:St):Option (Nat×aC×List tG):=match s.rc with
 | .MP l=>match s.h.get l with
   | some (.loop _ _ _ _ _ _ dn)=>some (dn,s.h,s.ds)
   | _=>none
 | _=>match s.h.new .UR with
   | some h1=>some (s.h.nx,h1,.col s.h.nx::s.ds)
   | none=>none
def SP:Option Code→Option my
 | none=>some .normal
 | some (.exit id)=>some (.exit id)
 | some .ret=>some .ret
 | _=>none
noncomputable def pz (call:bu) (f:Operand) (ps:Array Tmp) (as bd:Code) (s:St):Out:=match fK E s.ts f with
 | some (.func g first captured)=>match Xb s with
   | some (dn,h1,ds1)=>match h1.new (.loop .ready none s.ts ps.toList as bd dn) with
     | some h2=>match call (.fn g) (first++[.vQ h1.nx]++captured) h2 with
       | .ret _ h3=>match h3.get h1.nx with
         | some (.loop .busy ..)=> .fail "range busy" none
         | some (.loop _ ks n9 vy AH bd' dn')=>match SP ks with
           | some e=> .ok e {s with h:=h3.put h1.nx (some (.loop .exhausted ks n9 vy AH bd' dn')),ds:=ds1}
           | none=> .fail "range jump" none
         | _=> .fail "range loop" none
       | .panic v h3=> .ok (.panic v) {s with h:=h3,ds:=ds1}
       | .fail why q=> .fail why q
     | none=> .fail "full" none
   | none=> .fail "range open" none
 | _=> .fail "range function" none
noncomputable def exec (call:bu):Nat→Code→St→Out
 | 0,_,_=> .fail "fuel" none
 | n+1,c,s=>match c with
   | .skip=> .ok .normal s
   | .label _=> .ok .normal s
   | .ret=> .ok .ret s
   | .exit id=> .ok (.exit id) s
   | .seq a b=>match exec call n a s with
     | .ok .normal s'=>exec call n b s'
     | r=>r
   | .cond x a b=>match fK E s.ts x with
     | some (.bool true)=>exec call n a s
     | some (.bool false)=>exec call n b s
     | _=> .fail "cond" none
   | .block id b=>match exec call n b s with
     | .ok (.exit WR) s'=>if WR=id then .ok .normal s' else .ok (.exit WR) s'
     | r=>r
   | .loop b=>match exec call n b s with
     | .ok .normal s'=>exec call n (.loop b) s'
     | r=>r
   | .region _ ops draw=>if draw then DB E call ops s else oV E call ops ops.toList s
   | .rangeFunc f ps as bd=>pz E call f ps as bd s
   | .scope b=>exec call n b s
   | _=> .fail "code" none
noncomputable def mF (h:aC) (ts:List AV):List ResultVar→Option (List AV)
 | []=>some []
 | r::rest=>match (match r with
  | .tmp t=>some (ts.getD t AV.undef)
  | .cell a t=>bh E h t (ts.getD a AV.undef)) with
   | none=>none
   | some v=>match mF h ts rest with
     | none=>none
     | some vs=>some (v::vs)
def jF:List AV→AV
 | [v]=>v
 | vs=> .tuple vs
noncomputable def dI (jG:FuncId→List AV→aC→RC→Option (aC×RC)):List tG→Option AV→aC→Option (Option AV×aC)
 | [],p,h=>some (p,h)
 | .col r::ds,p,h=>match h.get r with
   | some .UR=>dI jG ds p (h.put r none)
   | _=>none
 | .call f args::ds,none,h=>match jG f args h .no with
   | some (h',_)=>dI jG ds none h'
   | none=>none
 | .call f args::ds,some v,h=>match jG f args h (.ks v) with
   | some (h',.ks _)=>dI jG ds (some v) h'
   | some (h',.done)=>dI jG ds none h'
   | _=>none
noncomputable def pK (call:bu) (fuel:Nat) (fn:Func) (b:Code) (args:List AV) (h:aC) (rc:RC):Out:=
 exec E call fuel b {ts:=args++List.replicate (fn.ntmps - args.length) AV.undef,h,ds:=[],rc}
noncomputable def Fw (l:Nat) (Ct:Option Code) (s:St):lV:=match s.h.get l with
 | some (.loop _ _ ts ps as bd dn)=> .ret (.bool Ct.isNone) (s.h.put l (some (.loop (if Ct.isNone then .ready else .done) Ct ts ps as bd dn)))
 | _=> .fail "round end" none
noncomputable def zu (call:bu) (fuel:Nat) (l:Nat) (args:List AV) (h:aC):lV:=match h.get l with
 | some (.loop _ _ ts ps as bd _)=>if args.length=ps.length then
  match exec E call fuel as {ts:=(ps.zip args).foldl (fun ts x=>ts.set x.1 x.2) ts,h,ds:=[],rc:= .MP l} with
  | .ok .normal s1=>match s1.h.get l with
    | some (.loop .ready pd ts2 ps2 as2 bd2 dn2)=>
      match exec E call fuel bd {s1 with h:=s1.h.put l (some (.loop .busy pd ts2 ps2 as2 bd2 dn2))} with
      | .ok .normal s2=>Fw l none s2
      | .ok .ret s2=>Fw l (some .ret) s2
      | .ok (.exit id) s2=>Fw l (some (.exit id)) s2
      | .ok (.panic v) s2=>if s2.ds.isEmpty then .panic v s2.h else .fail "round defers" none
      | .fail why q=> .fail why q
    | _=> .fail "round state" none
  | .ok _ _=> .fail "round assign" none
  | .fail why q=> .fail why q
   else .fail "round args" none
 | _=> .fail "round" none
noncomputable def iP:Nat→Nat→bu
 | 0,_=>fun _ _ _=> .fail "depth" none
 | d+1,fuel=>fun F args h=>match F with
  | .DA l=>zu E (iP d fuel) fuel l args h
  | .fn f=>match E.P.funcs[f]? with
   | none=> .fail "no function" none
   | some fn=>match fn.body with
     | none=> .fail ("no body " ++fn.name) none
     | some b=>
       let finish (p:Option AV) (s:St):lV:=
        match dI (fun g as h rc=>match E.P.funcs[g]? with
         | none=>none
         | some fg=>match fg.body with
           | none=>none
           | some bg=>match pK E (iP d fuel) fuel fg bg as h rc with
             | .ok .normal s'=>if s'.ds.isEmpty&&(mF E s'.h s'.ts fg.results.toList).isSome then some (s'.h,s'.rc) else none
             | .ok .ret s'=>if s'.ds.isEmpty&&(mF E s'.h s'.ts fg.results.toList).isSome then some (s'.h,s'.rc) else none
             | _=>none) s.ds p s.h with
        | none=> .fail "unwind" none
        | some (some v,h')=> .panic v h'
        | some (none,h')=>match mF E h' s.ts fn.results.toList with
          | some vs=> .ret (jF vs) h'
          | none=> .fail "results" none
       match pK E (iP d fuel) fuel fn b args h .no with
       | .ok .normal s=>finish none s
       | .ok .ret s=>finish none s
       | .ok (.panic v) s=>finish (some v) s
       | .ok (.exit _) _=> .fail "exit" none
       | .fail why o=> .fail (why++ " in " ++fn.name) o
end Go.Ab
end
section
namespace Go.Ab
structure Loc where
 iR:Nat
 off:Nat
 kt:Nat
abbrev Ph:=Nat→Option Loc
def Ph.le (φ φ':Ph):Prop:=∀i l,φ i=some l→φ' i=some l
theorem Ph.le_refl (φ:Ph):φ.le φ:=fun _ _ h=>h
theorem Ph.le_trans {a b c:Ph} (h:a.le b) (h':b.le c):a.le c:=fun i l e=>h' i l (h i l e)
def iY (op:Bool) (cap kt:Nat):Nat:=if op then cap+kt else cap
def aiC:Value→Bool
 | .agg _ | .tuple _ | .float .. | .complex .. | .bool _=>false
 | _=>true
inductive VR (φ:Ph):AV→Value→Prop
 | bool (b:Bool):VR φ (.bool b) (.bool b)
 | int (k:IntKind) (n:Int):VR φ (.int k n) (.int k n)
 | str (s:ByteArray):VR φ (.str s.data.toList) (.string s)
 | iG:VR φ .iG (.pointer none)
 | ptr {i:Nat} {l:Loc} (o:Nat) (h:φ i=some l):VR φ (.ptr i o) (.pointer (some ⟨l.iR,l.off+o,none⟩))
 | aG:VR φ .aG (.slice none 0 0)
 | slice {i:Nat} {l:Loc} (o len cap:Nat) (op:Bool) (h:φ i=some l):VR φ (.slice i o len cap op) (.slice (some ⟨l.iR,l.off+o,none⟩) len (iY op cap l.kt))
 | fD (a:Addr) (cap:Nat):VR φ .fD (.slice (some a) 0 cap)
 | eZ:VR φ .eZ (.map none)
 | map {i:Nat} {l:Loc} (h:φ i=some l):VR φ (.map i) (.map (some l.iR))
 | func (f:FuncId) (a b:List AV) (a' b':Array Value) (la:a.length=a'.size) (lb:b.length=b'.size)
  (ha:∀(i:Nat) (x:AV) (y:Value),a[i]? =some x→a'[i]? =some y→VR φ x y) (hb:∀(i:Nat) (x:AV) (y:Value),b[i]? =some x→b'[i]? =some y→VR φ x y):
  VR φ (.func f a b) (.func (.func f) a' b')
 | nilFunc:VR φ .nilFunc .nilFunc
 | yield {i:Nat} {l:Loc} (h:φ i=some l):VR φ (.vQ i) (.func (.yield l.iR) #[] #[])
 | iface (t:TypeId) (v:AV) (v':Value) (h:VR φ v v'):VR φ (.iface t v) (.iface t v')
 | nilIface:VR φ .nilIface .nilIface
 | agg (cs:List AV) (kr:Array Value) (hl:cs.length=kr.size) (h:∀(i:Nat) (x:AV) (y:Value),cs[i]? =some x→kr[i]? =some y→VR φ x y):VR φ (.agg cs) (.agg kr)
 | tuple (cs:List AV) (kr:Array Value) (hl:cs.length=kr.size) (h:∀(i:Nat) (x:AV) (y:Value),cs[i]? =some x→kr[i]? =some y→VR φ x y):VR φ (.tuple cs) (.tuple kr)
 | any (v:Value) (h:aiC v=true):VR φ .any v
theorem VR.mono {φ φ':Ph} (hle:φ.le φ') {v:AV} {v':Value} (h:VR φ v v'):VR φ' v v':=by
 induction h with
 | bool b=>exact .bool b
 | int k n=>exact .int k n
 | str s=>exact .str s
 | iG=>exact .iG
 | ptr o h=>exact .ptr o (hle _ _ h)
 | aG=>exact .aG
 | slice o len cap op h=>exact .slice o len cap op (hle _ _ h)
 | fD a cap=>exact .fD a cap
 | eZ=>exact .eZ
 | map h=>exact .map (hle _ _ h)
 | func f a b a' b' la lb _ _ iha ihb=>exact .func f a b a' b' la lb iha ihb
 | nilFunc=>exact .nilFunc
 | yield h=>exact .yield (hle _ _ h)
 | iface t v v' _ ih=>exact .iface t v v' ih
 | nilIface=>exact .nilIface
 | agg cs kr hl _ ih=>exact .agg cs kr hl ih
 | tuple cs kr hl _ ih=>exact .tuple cs kr hl ih
 | any v h=>exact .any v h
def LR (φ:Ph) (xs:List AV) (ys:List Value):Prop:=xs.length=ys.length∧∀(i:Nat) (x:AV) (y:Value),xs[i]? =some x→ys[i]? =some y→VR φ x y
theorem LR.mono {φ φ':Ph} (hle:φ.le φ') {xs:List AV} {ys:List Value} (h:LR φ xs ys):LR φ' xs ys:=⟨h.1,fun i x y a b=>(h.2 i x y a b).mono hle⟩
theorem LR.nil (φ:Ph):LR φ [] []:=⟨rfl,fun i x y a _=>by simp at a⟩
theorem LR.cons {φ:Ph} {x:AV} {y:Value} {xs:List AV} {ys:List Value} (h:VR φ x y) (hs:LR φ xs ys):LR φ (x::xs) (y::ys):=by
 refine ⟨by simp [hs.1],fun i a b ha hb=>?_⟩
 cases i with
 | zero=>simp at ha hb;subst ha;subst hb;exact h
 | succ i=>simp at ha hb;exact hs.2 i a b ha hb
theorem LR.dv {φ:Ph} {x:AV} {xs:List AV} {ys:List Value} (h:LR φ (x::xs) ys):∃y Cu,ys=y::Cu∧VR φ x y∧LR φ xs Cu:=by
 obtain ⟨hl,hv⟩:=h
 cases ys with
 | nil=>simp at hl
 | cons y ys=>
   refine ⟨y,ys,rfl,hv 0 x y (by simp) (by simp),by simpa using hl,fun i a b ha hb=>hv (i+1) a b (by simpa using ha) (by simpa using hb)⟩
theorem LR.kN {φ:Ph} {ys:List Value} (h:LR φ [] ys):ys=[]:=by
 cases ys with
 | nil=>rfl
 | cons y ys=>simp [LR] at h
theorem LR.append {φ:Ph} {xs Fx:List AV} {ys Cu:List Value} (h:LR φ xs ys) (h':LR φ Fx Cu):LR φ (xs++Fx) (ys++Cu):=by
 refine ⟨by simp [h.1,h'.1],fun i a b ha hb=>?_⟩
 by_cases hi:i<xs.length
 · rw[List.getElem?_append_left hi] at ha
   rw[List.getElem?_append_left (by rw[←h.1];exact hi)] at hb
   exact h.2 i a b ha hb
 · rw[List.getElem?_append_right (by omega)] at ha
   rw[List.getElem?_append_right (by rw[←h.1];omega)] at hb
   exact h'.2 _ a b ha (by rw[h.1];exact hb)
theorem LR.drop {φ:Ph} {xs:List AV} {ys:List Value} (h:LR φ xs ys) (n:Nat):LR φ (xs.drop n) (ys.drop n):=
 ⟨by simp [h.1],fun i a b ha hb=>h.2 (n+i) a b (by simpa using ha) (by simpa using hb)⟩
theorem LR.take {φ:Ph} {xs:List AV} {ys:List Value} (h:LR φ xs ys) (n:Nat):LR φ (xs.take n) (ys.take n):=by
 refine ⟨by simp [h.1],fun i a b ha hb=>?_⟩
 rw[List.getElem?_take] at ha hb
 by_cases hi:i<n
 · simp only[hi,if_true] at ha hb;exact h.2 i a b ha hb
 · simp [hi] at ha
theorem LR.set {φ:Ph} {xs:List AV} {ys:List Value} (h:LR φ xs ys) {x:AV} {y:Value} (hx:VR φ x y) (n:Nat):LR φ (xs.set n x) (ys.set n y):=by
 refine ⟨by simp [h.1],fun i a b ha hb=>?_⟩
 rw[List.getElem?_set] at ha hb
 by_cases hi:n=i
 · subst hi
   by_cases hl:n<xs.length
   · simp only[if_true,hl] at ha
     simp only[if_true,←h.1,hl] at hb
     simp at ha hb;subst ha;subst hb;exact hx
   · simp [hl] at ha
 · simp only[hi,if_false] at ha hb;exact h.2 i a b ha hb
theorem LR.replicate {φ:Ph} {x:AV} {y:Value} (h:VR φ x y) (n:Nat):LR φ (List.replicate n x) (List.replicate n y):=by
 refine ⟨by simp,fun i a b ha hb=>?_⟩
 rw[List.getElem?_replicate] at ha hb
 by_cases hi:i<n
 · simp [hi] at ha hb;subst ha;subst hb;exact h
 · simp [hi] at ha
theorem LR.get {φ:Ph} {xs:List AV} {ys:List Value} (h:LR φ xs ys) {i:Nat} {x:AV} (hx:xs[i]? =some x):∃y,ys[i]? =some y∧VR φ x y:=by
 have hi:i<xs.length:=(List.getElem?_eq_some_iff.1 hx).1
 have:i<ys.length:=by rw[←h.1];exact hi
 exact ⟨ys[i],by simp [this],h.2 i x _ hx (by simp [this])⟩
theorem LR.getD {φ:Ph} {xs:List AV} {ys:List Value} (h:LR φ xs ys) {d:AV} {d':Value} (hd:VR φ d d') (i:Nat):VR φ (xs.getD i d) (ys.getD i d'):=by
 by_cases hi:i<xs.length
 · have:i<ys.length:=by rw[←h.1];exact hi
   have e:=h.2 i xs[i] ys[i] (by simp [hi]) (by simp [this])
   simpa [List.getD,hi,this] using e
 · have:¬i<ys.length:=by rw[←h.1];exact hi
   simpa [List.getD,hi,this] using hd
theorem VR.undef (φ:Ph):VR φ AV.undef undef:= .tuple [] #[] rfl (fun i x y a _=>by simp at a)
theorem VR.UU {φ:Ph} {cs:List AV} {kr:List Value} (h:LR φ cs kr):VR φ (.agg cs) (.agg kr.toArray):= .agg cs _ (by simp [h.1]) (fun i x y a b=>h.2 i x y a (by simpa using b))
theorem VR.tuple' {φ:Ph} {cs:List AV} {kr:List Value} (h:LR φ cs kr):VR φ (.tuple cs) (.tuple kr.toArray):= .tuple cs _ (by simp [h.1]) (fun i x y a b=>h.2 i x y a (by simpa using b))
theorem VR.lE {φ:Ph} {cs:List AV} {v:Value} (h:VR φ (.agg cs) v):∃kr:Array Value,v= .agg kr∧LR φ cs kr.toList:=by
 cases h with
 | agg _ kr hl h=>exact ⟨kr,rfl,by simpa using hl,fun i x y a b=>h i x y a (by simpa using b)⟩
theorem VR.Jc {φ:Ph} {cs:List AV} {v:Value} (h:VR φ (.tuple cs) v):∃kr:Array Value,v= .tuple kr∧LR φ cs kr.toList:=by
 cases h with
 | tuple _ kr hl h=>exact ⟨kr,rfl,by simpa using hl,fun i x y a b=>h i x y a (by simpa using b)⟩
theorem VR.Fy {φ:Ph} {f:FuncId} {a b:List AV} {v:Value} (h:VR φ (.func f a b) v):∃a' b':Array Value,v= .func (.func f) a' b'∧LR φ a a'.toList∧LR φ b b'.toList:=by
 cases h with
 | func _ _ _ a' b' la lb ha hb=>exact ⟨a',b',rfl,⟨by simpa using la,fun i x y p q=>ha i x y p (by simpa using q)⟩,⟨by simpa using lb,fun i x y p q=>hb i x y p (by simpa using q)⟩⟩
theorem VR.Xc {φ:Ph} (f:FuncId) {a b:List AV} {a' b':List Value} (ha:LR φ a a') (hb:LR φ b b'):VR φ (.func f a b) (.func (.func f) a'.toArray b'.toArray):=
 .func f a b _ _ (by simp [ha.1]) (by simp [hb.1]) (fun i x y p q=>ha.2 i x y p (by simpa using q)) (fun i x y p q=>hb.2 i x y p (by simpa using q))
theorem VR.cells {φ:Ph} {v:AV} {v':Value} (h:VR φ v v'):LR φ v.cells v'.cells.toList:=by
 cases h with
 | agg cs kr hl h=>exact ⟨by simpa [AV.cells,Value.cells] using hl,fun i x y a b=>h i x y a (by simpa [Value.cells] using b)⟩
 | bool b=>exact .cons (.bool b) (.nil φ)
 | int k n=>exact .cons (.int k n) (.nil φ)
 | str s=>exact .cons (.str s) (.nil φ)
 | iG=>exact .cons .iG (.nil φ)
 | ptr o h=>exact .cons (.ptr o h) (.nil φ)
 | aG=>exact .cons .aG (.nil φ)
 | slice o len cap op h=>exact .cons (.slice o len cap op h) (.nil φ)
 | fD a cap=>exact .cons (.fD a cap) (.nil φ)
 | eZ=>exact .cons .eZ (.nil φ)
 | map h=>exact .cons (.map h) (.nil φ)
 | func f a b a' b' la lb ha hb=>exact .cons (.func f a b a' b' la lb ha hb) (.nil φ)
 | nilFunc=>exact .cons .nilFunc (.nil φ)
 | yield h=>exact .cons (.yield h) (.nil φ)
 | iface t v v' h=>exact .cons (.iface t v v' h) (.nil φ)
 | nilIface=>exact .cons .nilIface (.nil φ)
 | tuple cs kr hl h=>exact .cons (.tuple cs kr hl h) (.nil φ)
 | any _ h=>
   have e:v'.cells= #[v']:=by cases v'<;>first | rfl | cases h
   rw[e]
   exact .cons (.any v' h) (.nil φ)
theorem VR.scalar {φ:Ph} {v:AV} {v':Value} (h:VR φ v v') (hs:v.scalar=true):v'.oneCell'=true:=by
 cases h with
 | any _ h=>cases v'<;>first | rfl | cases h
 | _=>simp_all [AV.scalar,Value.oneCell']
theorem vX {α β:Type} {f:α→Option β}:∀{l:List α} {r:List β},fE f l=some r→l.length=r.length∧∀(i:Nat) (x:α),l[i]? =some x→∃y,r[i]? =some y∧f x=some y
 | [],r,h=>by simp [fE] at h;subst h;simp
 | x::xs,r,h=>by
   simp only[fE] at h
   cases hx:f x with
   | none=>simp [hx] at h
   | some y=>
     simp only[hx] at h
     cases hs:fE f xs with
     | none=>simp [hs] at h
     | some ys=>
       simp only[hs,Option.some.injEq] at h
       subst h
       obtain ⟨hl,hv⟩:=vX hs
       refine ⟨by simp [hl],fun i z hz=>?_⟩
       cases i with
       | zero=>simp at hz;subst hz;exact ⟨y,by simp,hx⟩
       | succ i=>simp at hz;simpa using hv i z hz
theorem vY (φ:Ph) {v:Value} {x:AV} (h:ma v=some x):VR φ x v:=by
 unfold ma at h
 split at h<;>simp at h<;>subst h
 · exact .bool _
 · exact .int _ _
 · exact .str _
 · exact .iG
 · exact .aG
 · exact .eZ
 · exact .nilFunc
 · exact .nilIface
theorem AO (φ:Ph) {l:List Value} {r:List AV} (h:fE ma l=some r):LR φ r l:=by
 obtain ⟨hl,hv⟩:=vX h
 refine ⟨hl.symm,fun i x y hx hy=>?_⟩
 obtain ⟨z,hz,hf⟩:=hv i y hy
 rw[hx] at hz;simp at hz;subst hz
 exact vY φ hf
theorem Fz (φ:Ph) {v:Value} {x:AV} (h:ofConst v=some x):VR φ x v:=by
 unfold ofConst at h
 split at h
 · rename_i cs
   cases hm:fE ma cs.toList with
   | none=>simp [hm] at h
   | some l=>simp [hm] at h;subst h;have:=VR.UU (AO φ hm);simpa using this
 · rename_i cs
   cases hm:fE ma cs.toList with
   | none=>simp [hm] at h
   | some l=>simp [hm] at h;subst h;have:=VR.tuple' (AO φ hm);simpa using this
 · rename_i t v
   cases hm:ma v with
   | none=>simp [hm] at h
   | some l=>simp [hm] at h;subst h;exact .iface _ _ _ (vY φ hm)
 · exact vY φ h
variable (E:Env)
structure ER (φ:Ph) (e:mE) (e':MapEntry):Prop where
 key:VR φ e.key e'.key
 val:VR φ e.val e'.val
 born:e.born=e'.born
def Xd (φ:Ph) (es:List mE) (mB:List MapEntry):Prop:=es.length=mB.length∧∀(i:Nat) (x:mE) (y:MapEntry),es[i]? =some x→mB[i]? =some y→ER φ x y
def aM.rw:aM→Bool
 | .cells _ _ ro=> !ro
 | _=>true
def g_ (l:Loc) (e:TypeId):Nat:=l.kt*(ca E e).getD 0
structure CR (φ:Ph) (cs:List AV) (e:TypeId) (ro:Bool) (l:Loc) (C:Array Value) (lo hi:Nat):Prop where
 size:l.off+cs.length+g_ E l e≤C.size
 val:∀(k:Nat) (x:AV),cs[k]? =some x→∃y,C[l.off+k]? =some y∧VR φ x y
 free:ro=false→∀k,l.off≤k→k<l.off+cs.length+g_ E l e→¬(lo≤k∧k<hi)
 zero:ro=true→∀m,cs=[.map m]→l.off=0
structure SQ (φ:Ph) (st:LoopState) (ks:Option Code) (ts:List AV) (ps:List Tmp) (as bd:Code) (dn:Nat) (r:Loop):Prop where
 state:r.state=st
 pending:r.pending=ks
 tmps:LR φ ts r.tmps.toList
 params:r.params.toList=ps
 assign:r.assign=as
 body:r.body=bd
 defers:∃ld,φ dn=some ld∧r.defers=ld.iR
 fn:(E.P.funcs[r.fn]?).isSome=true
theorem SQ.mono {E:Env} {φ φ':Ph} (hle:φ.le φ') {st:LoopState} {ks:Option Code} {ts:List AV} {ps:List Tmp} {as bd:Code} {dn:Nat} {r:Loop} (h:SQ E φ st ks ts ps as bd dn r):SQ E φ' st ks ts ps as bd dn r:=
 ⟨h.state,h.pending,h.tmps.mono hle,h.params,h.assign,h.body,let ⟨l,a,b⟩:=h.defers;⟨l,hle _ _ a,b⟩,h.fn⟩
def OR (φ:Ph):aM→Loc→Option Obj→Prop
 | .cells cs e ro,l,o=>∃C e' lo hi,o=some (.cells C e' (lo,hi))∧CR E φ cs e ro l C lo hi
 | .map es clock,l,o=>l.off=0∧∃mB,o=some (.map mB clock)∧Xd φ es mB.toList
 | .yM s pos,l,o=>l.off=0∧∃s':ByteArray,o=some (.stringIter s' pos)∧s'.data.toList=s
 | .Fu none since seen tF,l,o=>l.off=0∧o=some (.mapIter none since seen.toArray tF)
 | .Fu (some m) since seen tF,l,o=>l.off=0∧∃lm,φ m=some lm∧o=some (.mapIter (some lm.iR) since seen.toArray tF)
 | .loop st ks ts ps as bd dn,l,o=>l.off=0∧∃r,o=some (.loop r)∧SQ E φ st ks ts ps as bd dn r
 | .UR,l,o=>l.off=0∧o=some (.deferred (some []))
theorem OR.absurd {E:Env} {φ:Ph} {o:aM} {l:Loc} (h:OR E φ o l none):False:=by
 cases o with
 | cells cs e ro=>obtain ⟨C,e',lo,hi,hx,hc⟩:=h;simp at hx
 | map es clock=>obtain ⟨h0,mB,hx,hl,hv⟩:=h;simp at hx
 | yM s pos=>obtain ⟨h0,s',hx,_⟩:=h;simp at hx
 | Fu m since seen tF=>
   cases m with
   | none=>obtain ⟨h0,hx⟩:=h;simp at hx
   | some m=>obtain ⟨h0,lm,hm,hx⟩:=h;simp at hx
 | loop=>obtain ⟨h0,r,hx,_⟩:=h;simp at hx
 | UR=>obtain ⟨h0,hx⟩:=h;simp at hx
structure OK (φ:Ph) (h:aC) (w:World):Prop where
 E1:∀i l,φ i=some l→i<h.nx
 nx:E.G≤h.nx
 AP:∀g,g<E.G→φ g=some ⟨g,0,0⟩
 live:∀i o l,h.get i=some o→φ i=some l→OR E φ o l w.heap[l.iR]?
 inj:∀i j o p l m,h.get i=some o→h.get j=some p→φ i=some l→φ j=some m→(o.rw=true∨p.rw=true)→l.iR=m.iR→i=j
structure Fr (φ:Ph) (h:aC) (w:World) (φ':Ph) (h':aC) (w':World):Prop where
 ext:φ.le φ'
 old:∀i,i<h.nx→φ' i=φ i
 nx:h.nx≤h'.nx
 os:w'.os=w.os
 tape:w'.tape=w.tape
 output:w'.output=w.output
 size:w.heap.size≤w'.heap.size
 Ie:∀b,b<w.heap.size→(∀i o l,h.get i=some o→o.rw=true→φ i=some l→l.iR≠b)→w'.heap[b]? =w.heap[b]?
 own:∀i o l,h'.get i=some o→o.rw=true→φ' i=some l→w.heap.size≤l.iR∨∃j p m,h.get j=some p∧p.rw=true∧φ j=some m∧m.iR=l.iR
theorem Fr.refl (φ:Ph) (h:aC) (w:World):Fr φ h w φ h w where
 ext:=Ph.le_refl φ
 old _ _:=rfl
 nx:=Nat.le_refl _
 os:=rfl
 tape:=rfl
 output:=rfl
 size:=Nat.le_refl _
 Ie _ _ _:=rfl
 own i o l a b c:= .inr ⟨i,o,l,a,b,c,rfl⟩
theorem Fr.trans {φ₁ φ₂ φ₃:Ph} {h₁ h₂ h₃:aC} {w₁ w₂ w₃:World} (a:Fr φ₁ h₁ w₁ φ₂ h₂ w₂) (b:Fr φ₂ h₂ w₂ φ₃ h₃ w₃):Fr φ₁ h₁ w₁ φ₃ h₃ w₃ where
 ext:=Ph.le_trans a.ext b.ext
 old i hi:=(b.old i (Nat.lt_of_lt_of_le hi a.nx)).trans (a.old i hi)
 nx:=Nat.le_trans a.nx b.nx
 os:=b.os.trans a.os
 tape:=b.tape.trans a.tape
 output:=b.output.trans a.output
 size:=Nat.le_trans a.size b.size
 Ie x hx hn:=by
  rw[b.Ie x (Nat.lt_of_lt_of_le hx a.size) ?_,a.Ie x hx hn]
  intro i o l hg hr hp he
  rcases a.own i o l hg hr hp with h | ⟨j,p,m,q1,q2,q3,q4⟩
  · omega
  · exact hn j p m q1 q2 q3 (q4.trans he)
 own i o l hg hr hp:=by
  rcases b.own i o l hg hr hp with h | ⟨j,p,m,q1,q2,q3,q4⟩
  · exact .inl (Nat.le_trans a.size h)
  · rcases a.own j p m q1 q2 q3 with h | ⟨j',p',m',r1,r2,r3,r4⟩
    · exact .inl (q4▸h)
    · exact .inr ⟨j',p',m',r1,r2,r3,r4.trans q4⟩
theorem Qe {a b:Nat} (h:a≠b):Nat.beq a b=false:=by
 cases e:Nat.beq a b
 · rfl
 · exact absurd (Nat.eq_of_beq_eq_true e) h
theorem qw {a b:Nat} (h:b<a):Nat.ble a b=false:=by
 rw[Bool.eq_false_iff];intro e;have:=Nat.le_of_ble_eq_true e;omega
theorem Cv (q:Nat) (t:HT):(US q).get t=WO (q%8) (WO (q/8%8) (WO (q/64) t)):=by
 simp only[US,yN,Dz];rfl
theorem Xe (q:Nat) (f:H3→H3) (t:HT):(US q).upd f t=epd (q/64) (epd (q/8%8) (epd (q%8) f)) t:=by
 simp only[US,yN,Dz];rfl
theorem FA (q:Nat) (t:H3):(WQ q).get t=WO (q%8) (WO (q/8%8) (WO (q/64) t)):=by
 simp only[WQ,yN,Dz];rfl
theorem Xf (q:Nat) (o:Option aM) (t:H3):(WQ q).upd o t=epd (q/64) (epd (q/8%8) (epd (q%8) fun _=>o)) t:=by
 simp only[WQ,yN,Dz];rfl
theorem FB {i:Nat} (hi:i<262144) (t:HT):(hp i).get t=(WQ (i%512)).get ((US (i/512)).get t):=by
 unfold hp
 rw[qw hi,m6,m6];rfl
theorem Xg {i:Nat} (hi:i<262144) (o:Option aM) (t:HT):(hp i).put o t=(US (i/512)).upd ((WQ (i%512)).upd o) t:=by
 unfold hp
 rw[qw hi,m6,m6];rfl
theorem abN (q:Nat) (o:Option aM) (t:H3):(WQ q).get ((WQ q).upd o t)=o:=by
 rw[FA,Xf,dO,dO,dO]
theorem Xh {q p:Nat} (hq:q<512) (hp:p<512) (h:q≠p) (o:Option aM) (t:H3):(WQ p).get ((WQ q).upd o t)=(WQ p).get t:=by
 rw[FA,FA,Xf]
 by_cases h1:q/64=p/64
 · rw[h1,dO]
   by_cases h2:q/8%8=p/8%8
   · rw[h2,dO,fb (by omega) (by omega) (by omega)]
   · rw[fb (by omega) (by omega) h2]
 · rw[fb (by omega) (by omega) h1]
theorem SU (q:Nat) (f:H3→H3) (t:HT):(US q).get ((US q).upd f t)=f ((US q).get t):=by
 rw[Cv,Cv,Xe,dO,dO,dO]
theorem Xi {q p:Nat} (hq:q<512) (hp:p<512) (h:q≠p) (f:H3→H3) (t:HT):(US p).get ((US q).upd f t)=(US p).get t:=by
 rw[Cv,Cv,Xe]
 by_cases h1:q/64=p/64
 · rw[h1,dO]
   by_cases h2:q/8%8=p/8%8
   · rw[h2,dO,fb (by omega) (by omega) (by omega)]
   · rw[fb (by omega) (by omega) h2]
 · rw[fb (by omega) (by omega) h1]
theorem abO {i:Nat} (hi:i<262144) (o:Option aM) (t:HT):(hp i).get ((hp i).put o t)=o:=by
 rw[FB hi,Xg hi,SU,abN]
theorem Xj {i j:Nat} (hi:i<262144) (hj:j<262144) (h:i≠j) (o:Option aM) (t:HT):(hp j).get ((hp i).put o t)=(hp j).get t:=by
 rw[FB hj,FB hj,Xg hi]
 by_cases h1:i/512=j/512
 · rw[h1,SU,Xh (by omega) (by omega) (by omega)]
 · rw[Xi (by omega) (by omega) h1]
theorem Jd {a b:Nat} (h:¬b<a):Nat.ble a b=true:=Nat.ble_eq_true_of_le (by omega)
theorem aC.zv {h:aC} {i:Nat} (hi:i<262144):h.get i=(hp i).get h.t:=by
 unfold aC.get;rw[qw hi];rfl
theorem aC.tJ {h:aC} {i:Nat} (hi:¬i<262144):h.get i=h.f i:=by
 unfold aC.get;rw[Jd hi];rfl
theorem aC.Xk {h:aC} {i:Nat} (hi:i<262144) (o:Option aM):h.put i o=⟨(hp i).put o h.t,h.nx,h.f⟩:=by
 unfold aC.put;rw[qw hi];rfl
theorem aC.SV {h:aC} {i:Nat} (hi:¬i<262144) (o:Option aM):h.put i o=⟨h.t,h.nx,Qb h.f i o⟩:=by
 unfold aC.put;rw[Jd hi];rfl
theorem aC.afE (h:aC) (i:Nat) (o:Option aM):(h.put i o).nx=h.nx:=rfl
theorem UW (f:Nat→Option aM) (i:Nat) (o:Option aM):Qb f i o i=o:=by
 unfold Qb;rw[Nat.beq_refl];rfl
theorem Qf (f:Nat→Option aM) {i j:Nat} (h:i≠j) (o:Option aM):Qb f i o j=f j:=by
 unfold Qb;rw[Qe (Ne.symm h)];rfl
theorem aC.dP {h:aC} {i:Nat} (o:Option aM):(h.put i o).get i=o:=by
 by_cases hi:i<262144
 · rw[aC.Xk hi,aC.zv hi];exact abO hi o h.t
 · rw[aC.SV hi,aC.tJ hi];exact UW _ _ _
theorem aC.cu {h:aC} {i j:Nat} (f':i≠j) (o:Option aM):(h.put i o).get j=h.get j:=by
 by_cases hi:i<262144
 · rw[aC.Xk hi]
   by_cases hj:j<262144
   · rw[aC.zv hj,aC.zv hj];exact Xj hi hj f' o h.t
   · rw[aC.tJ hj,aC.tJ hj]
 · rw[aC.SV hi]
   by_cases hj:j<262144
   · rw[aC.zv hj,aC.zv hj]
   · rw[aC.tJ hj,aC.tJ hj];exact Qf _ f' _
theorem aC.Ku (h:aC) (o:aM):h.new o=some ⟨(h.put h.nx (some o)).t,h.nx+1,(h.put h.nx (some o)).f⟩:=rfl
theorem aC.m8 {h h':aC} {o:aM} (e:h.new o=some h'):True∧h'.nx=h.nx+1∧h'.get h.nx=some o∧∀j,j≠h.nx→h'.get j=h.get j:=by
 rw[aC.Ku] at e
 cases e
 exact ⟨trivial,rfl,aC.dP (h:=h) (some o),fun j f'=>aC.cu (h:=h) (Ne.symm f') (some o)⟩
end Go.Ab
end
section
namespace Go.Ab
variable {E:Env}
def lX (C:Array Value):Nat→List Value→Array Value
 | _,[]=>C
 | o,v::vs=>lX (C.setIfInBounds o v) (o+1) vs
theorem v5:∀(vs:List Value) (C:Array Value) (o:Nat),(lX C o vs).size=C.size
 | [],_,_=>rfl
 | v::vs,C,o=>by simp [lX,v5 vs]
theorem zw:∀(vs:List Value) (C:Array Value) (o k:Nat),(lX C o vs)[k]? =if o≤k∧k<o+vs.length∧k<C.size then vs[k - o]? else C[k]?
 | [],C,o,k=>by simp [lX];omega
 | v::vs,C,o,k=>by
   rw[lX,zw vs]
   simp only[Array.size_setIfInBounds,List.length_cons,Array.getElem?_setIfInBounds]
   by_cases h1:o=k
   · subst h1
     by_cases h2:o<C.size
     · rw[if_neg (by omega)];simp [h2]
     · rw[if_neg (by omega)];simp [h2]
   · by_cases h2:o+1≤k∧k<o+1+vs.length∧k<C.size
     · rw[if_pos h2,if_pos (by omega)]
       obtain ⟨m,hm⟩:∃m,k - o=m+1:=⟨k - o - 1,by omega⟩
       rw[hm,show k -(o+1)=m by omega];simp
     · rw[if_neg h2];simp only[h1,if_false];rw[if_neg (by omega)]
theorem qx:∀(vs:List AV) (cs:List AV) (o:Nat),(setFrom cs o vs).length=cs.length
 | [],_,_=>rfl
 | v::vs,cs,o=>by simp [setFrom,qx vs]
theorem mS:∀(vs:List AV) (cs:List AV) (o k:Nat),(setFrom cs o vs)[k]? =if o≤k∧k<o+vs.length∧k<cs.length then vs[k - o]? else cs[k]?
 | [],cs,o,k=>by simp [setFrom];omega
 | v::vs,cs,o,k=>by
   rw[setFrom,mS vs]
   simp only[List.length_set,List.length_cons,List.getElem?_set]
   by_cases h1:o=k
   · subst h1
     by_cases h2:o<cs.length
     · rw[if_neg (by omega)];simp [h2]
     · rw[if_neg (by omega)];simp [h2]
   · by_cases h2:o+1≤k∧k<o+1+vs.length∧k<cs.length
     · rw[if_pos h2,if_pos (by omega)]
       obtain ⟨m,hm⟩:∃m,k - o=m+1:=⟨k - o - 1,by omega⟩
       rw[hm,show k -(o+1)=m by omega];simp
     · rw[if_neg h2];simp only[h1,if_false];rw[if_neg (by omega)]
theorem heap_setCell {w:World} {b:Nat} {C:Array Value} {e:TypeId} {f:Nat×Nat} (h:w.heap[b]? =some (.cells C e f)) (o:Nat) (v:Value):
 (w.setCell ⟨b,o,none⟩ v).heap[b]? =some (.cells (C.setIfInBounds o v) e f):=by
 obtain ⟨lo,hi⟩:=f
 simp [World.setCell,Array.getElem?_modify,h]
theorem heap_setCell_other {w:World} {b c:Nat} (h:b≠c) (o:Nat) (v:Value):(w.setCell ⟨b,o,none⟩ v).heap[c]? =w.heap[c]? :=by
 simp [World.setCell,Array.getElem?_modify,h]
theorem rR:∀(vs:List Value) {w:World} {b:Nat} {C:Array Value} {e:TypeId} {f:Nat×Nat} (_:w.heap[b]? =some (.cells C e f)) (o:Nat),
 (w.setCells b o vs).heap[b]? =some (.cells (lX C o vs) e f)
 | [],_,_,_,_,_,h,_=>h
 | v::vs,w,b,C,e,f,h,o=>by
   rw[World.setCells,lX]
   exact rR vs (heap_setCell h o v) (o+1)
theorem lY:∀(vs:List Value) {w:World} {b c:Nat} (_:b≠c) (o:Nat),(w.setCells b o vs).heap[c]? =w.heap[c]?
 | [],_,_,_,_,_=>rfl
 | v::vs,w,b,c,h,o=>by rw[World.setCells,lY vs h,heap_setCell_other h]
theorem rS:∀(vs:List Value) (w:World) (b o:Nat),(w.setCells b o vs).heap.size=w.heap.size
 | [],_,_,_=>rfl
 | v::vs,w,b,o=>by rw[World.setCells,rS vs];simp
theorem v7:∀(vs:List Value) (w:World) (b o:Nat),(w.setCells b o vs).os=w.os∧(w.setCells b o vs).tape=w.tape∧(w.setCells b o vs).output=w.output
 | [],_,_,_=>⟨rfl,rfl,rfl⟩
 | v::vs,w,b,o=>by rw[World.setCells];exact v7 vs _ b (o+1)
theorem tK {w:World} {b:Nat} {C:Array Value} {e:TypeId} {f:Nat×Nat} (h:w.heap[b]? =some (.cells C e f)) (k:Nat):w.cell? ⟨b,k,none⟩=C[k]? :=by
 obtain ⟨lo,hi⟩:=f
 simp [World.cell?,h]
theorem FC {w:World} {b:Nat} {C:Array Value} {e:TypeId} {lo hi:Nat} (h:w.heap[b]? =some (.cells C e (lo,hi))) (k:Nat):w.frozen? ⟨b,k,none⟩=(decide (lo≤k)&&decide (k<hi)):=by
 simp [World.frozen?,h]
theorem yP {P:Program} {w:World} {b:Nat} {C:Array Value} {e:TypeId} {lo hi:Nat} (h:w.heap[b]? =some (.cells C e (lo,hi))) (O:Nat) (vs:List Value)
 (hs:O+vs.length≤C.size) (hf:∀k,O≤k→k<O+vs.length→¬(lo≤k∧k<hi)) (h1:∀v∈vs,v.oneCell'=true):
 (storeCells ⟨b,O,none⟩ vs).run P w= .ok () (w.setCells b O vs):=by
 have:=run_storeCells_cells (P:=P) b O vs 0 w (fun j hj=>by
  rw[tK h];simp;omega) (fun j hj=>by
  rw[FC h]
  have:=hf (O+j) (by omega) (by omega)
  simp only[Nat.add_zero,Bool.and_eq_false_iff,decide_eq_false_iff_not];omega) h1
 simpa using this
theorem pS {P:Program} {w:World} {b:Nat} {C:Array Value} {e:TypeId} {f:Nat×Nat} (h:w.heap[b]? =some (.cells C e f)) (O:Nat) (cs:List Value)
 (hv:∀(j:Nat) (v:Value),cs[j]? =some v→C[O+j]? =some v):(loadCells ⟨b,O,none⟩ cs.length).run P w= .ok cs.toArray w:=
 run_loadCells_list (P:=P) w ⟨b,O,none⟩ cs (fun j v hj=>by
  have:(⟨b,O,none⟩:Addr).add j=⟨b,O+j,none⟩:=by unfold Addr.add;split<;>simp_all
  rw[this,tK h];exact hv j v hj)
theorem CR.range {φ:Ph} {cs:List AV} {e:TypeId} {ro:Bool} {l:Loc} {C:Array Value} {lo hi:Nat} (h:CR E φ cs e ro l C lo hi) (o n:Nat) (hn:o+n≤cs.length):
 ∃vs:List Value,vs.length=n∧(∀(j:Nat) (v:Value),vs[j]? =some v→C[l.off+o+j]? =some v)∧LR φ ((cs.drop o).take n) vs:=by
 have M1:=h.size
 refine ⟨((C.toList.drop (l.off+o)).take n),by simp;omega,fun j v hj=>?_,by simp;omega,fun j x y hx hy=>?_⟩
 · rw[List.getElem?_take] at hj
   split at hj
   · simpa [Nat.add_assoc] using hj
   · simp at hj
 · rw[List.getElem?_take] at hx hy
   split at hx
   · rename_i hjn
     simp only[hjn,if_true] at hy
     rw[List.getElem?_drop] at hx hy
     obtain ⟨z,hz,hr⟩:=h.val (o+j) x hx
     simp at hy
     rw[show l.off+(o+j)=l.off+o+j by omega] at hz
     rw[hz] at hy;simp at hy;subst hy;exact hr
   · simp at hx
theorem OK.change {φ:Ph} {h:aC} {w w':World} (ok:OK E φ h w) {i:Nat} {o o':aM} {l:Loc} (hg:h.get i=some o) (MQ:o.rw=true) (hl:φ i=some l)
 (ho:OR E φ o' l w'.heap[l.iR]?) (v8:∀c,c≠l.iR→w'.heap[c]? =w.heap[c]?) (hS:w'.heap.size=w.heap.size)
 (hos:w'.os=w.os) (M3:w'.tape=w.tape) (sw:w'.output=w.output):
 OK E φ (h.put i (some o')) w'∧Fr φ h w φ (h.put i (some o')) w':=by
 have iH:∀j p,(h.put i (some o')).get j=some p→(j=i∧p=o')∨(j≠i∧h.get j=some p):=fun j p hj=>by
  by_cases e:i=j
  · subst e;rw[aC.dP] at hj;simp at hj;exact .inl ⟨rfl,hj.symm⟩
  · rw[aC.cu e] at hj;exact .inr ⟨Ne.symm e,hj⟩
 refine ⟨⟨ok.E1,ok.nx,ok.AP,fun j p m hj hm=>?_,fun j k p q m n hj hk hm hn hw hb=>?_⟩,⟨Ph.le_refl φ,fun _ _=>rfl,Nat.le_refl _,hos,M3,sw,Nat.le_of_eq hS.symm,fun b _ hn=>?_,fun j p m hj hr hm=>?_⟩⟩
 · rcases iH j p hj with ⟨rfl,rfl⟩ | ⟨f',sx⟩
   · rw[hl] at hm;simp at hm;subst hm;exact ho
   · rw[v8 _ (fun e=>f' (ok.inj j i p o m l sx hg hm hl (.inr MQ) e))]
     exact ok.live j p m sx hm
 · rcases iH j p hj with ⟨rfl,rfl⟩ | ⟨_,sx⟩<;>rcases iH k q hk with ⟨rfl,rfl⟩ | ⟨_,Ig⟩
   · rfl
   · exact ok.inj _ _ _ _ _ _ hg Ig hm hn (.inl MQ) hb
   · exact ok.inj _ _ _ _ _ _ sx hg hm hn (.inr MQ) hb
   · exact ok.inj _ _ _ _ _ _ sx Ig hm hn hw hb
 · exact v8 b (fun e=>hn i o l hg MQ hl e.symm)
 · rcases iH j p hj with ⟨rfl,rfl⟩ | ⟨_,sx⟩
   · rw[hl] at hm;simp at hm;subst hm;exact .inr ⟨j,o,l,hg,MQ,hl,rfl⟩
   · exact .inr ⟨j,p,m,sx,hr,hm,rfl⟩
theorem OR.mono {φ φ':Ph} (hle:φ.le φ') {o:aM} {l:Loc} {x:Option Obj} (h:OR E φ o l x):OR E φ' o l x:=by
 cases o with
 | cells cs e ro=>
   obtain ⟨C,e',lo,hi,hx,hc⟩:=h
   exact ⟨C,e',lo,hi,hx,hc.size,fun k x hk=>let ⟨y,a,b⟩:=hc.val k x hk;⟨y,a,b.mono hle⟩,hc.free,hc.zero⟩
 | map es clock=>
   obtain ⟨h0,mB,hx,hl,hv⟩:=h
   exact ⟨h0,mB,hx,hl,fun i a b p q=>let r:=hv i a b p q;⟨r.key.mono hle,r.val.mono hle,r.born⟩⟩
 | yM s pos=>exact h
 | Fu m since seen tF=>
   cases m with
   | none=>exact h
   | some m=>obtain ⟨h0,lm,hm,hx⟩:=h;exact ⟨h0,lm,hle _ _ hm,hx⟩
 | loop st ks ts ps as bd dn=>obtain ⟨h0,r,hx,hr⟩:=h;exact ⟨h0,r,hx,hr.mono hle⟩
 | UR=>exact h
def Ph.add (φ:Ph) (i:Nat) (l:Loc):Ph:=fun j=>if j=i then some l else φ j
theorem OK.fresh {φ:Ph} {h h':aC} {w w':World} (ok:OK E φ h w) {o:aM} (hn:h.new o=some h') (l:Loc)
 (ho:OR E (φ.add h.nx l) o l w'.heap[l.iR]?) (v8:∀c,c≠l.iR→c<w.heap.size→w'.heap[c]? =w.heap[c]?) (hS:w.heap.size≤w'.heap.size)
 (aiD:w.heap.size≤l.iR) (hos:w'.os=w.os) (M3:w'.tape=w.tape) (sw:w'.output=w.output):
 OK E (φ.add h.nx l) h' w'∧Fr φ h w (φ.add h.nx l) h' w'∧φ.le (φ.add h.nx l):=by
 obtain ⟨oa,hnx,FD,hold⟩:=aC.m8 hn
 have H_:φ h.nx=none:=by
  cases e:φ h.nx with
  | none=>rfl
  | some m=>exact absurd (ok.E1 _ _ e) (Nat.lt_irrefl _)
 have hle:φ.le (φ.add h.nx l):=fun i m hm=>by
  unfold Ph.add;split
  · rename_i e;subst e;rw[H_] at hm;simp at hm
  · exact hm
 have M4:∀j p m,h.get j=some p→φ j=some m→m.iR<w.heap.size:=fun j p m hj hm=>by
  have Kv:=ok.live j p m hj hm
  rcases Nat.lt_or_ge m.iR w.heap.size with a | a
  · exact a
  · exfalso
    rw[Array.getElem?_eq_none a] at Kv
    exact Kv.absurd
 have iH:∀j p,h'.get j=some p→(j=h.nx∧p=o)∨(j≠h.nx∧h.get j=some p):=fun j p hj=>by
  by_cases e:j=h.nx
  · subst e;rw[FD] at hj;simp at hj;exact .inl ⟨rfl,hj.symm⟩
  · rw[hold j e] at hj;exact .inr ⟨e,hj⟩
 have lZ:∀j,j≠h.nx→(φ.add h.nx l) j=φ j:=fun j hj=>by simp [Ph.add,hj]
 have iZ:(φ.add h.nx l) h.nx=some l:=by simp [Ph.add]
 refine ⟨⟨fun i m hm=>?_,?_,fun g hg=>hle _ _ (ok.AP g hg),fun j p m hj hm=>?_,fun j k p q m n hj hk hm vz hw hb=>?_⟩,
  ⟨hle,fun i hi=>lZ i (by omega),by omega,hos,M3,sw,hS,fun b hb hn'=>v8 b (by omega) hb,fun j p m hj hr hm=>?_⟩,hle⟩
 · rw[hnx]
   by_cases e:i=h.nx
   · omega
   · rw[lZ i e] at hm;have:=ok.E1 i m hm;omega
 · have:=ok.nx;omega
 · rcases iH j p hj with ⟨rfl,rfl⟩ | ⟨f',sx⟩
   · rw[iZ] at hm;simp at hm;subst hm;exact ho
   · rw[lZ j f'] at hm
     rw[v8 _ (by have:=M4 j p m sx hm;omega) (M4 j p m sx hm)]
     exact (ok.live j p m sx hm).mono hle
 · rcases iH j p hj with ⟨rfl,rfl⟩ | ⟨f',sx⟩<;>rcases iH k q hk with ⟨rfl,rfl⟩ | ⟨Kw,Ig⟩
   · rfl
   · rw[iZ] at hm;simp at hm;subst hm
     rw[lZ k Kw] at vz;have:=M4 k q n Ig vz;omega
   · rw[iZ] at vz;simp at vz;subst vz
     rw[lZ j f'] at hm;have:=M4 j p m sx hm;omega
   · rw[lZ j f'] at hm;rw[lZ k Kw] at vz;exact ok.inj _ _ _ _ _ _ sx Ig hm vz hw hb
 · rcases iH j p hj with ⟨rfl,rfl⟩ | ⟨f',sx⟩
   · rw[iZ] at hm;simp at hm;subst hm;exact .inl aiD
   · rw[lZ j f'] at hm;exact .inr ⟨j,p,m,sx,hr,hm,rfl⟩
theorem OK.kill {φ:Ph} {h:aC} {w:World} (ok:OK E φ h w) {i:Nat}:OK E φ (h.put i none) w:=by
 have iH:∀j p,(h.put i none).get j=some p→h.get j=some p∧j≠i:=fun j p hj=>by
  by_cases e:i=j
  · subst e;rw[aC.dP] at hj;simp at hj
  · rw[aC.cu e] at hj;exact ⟨hj,Ne.symm e⟩
 exact ⟨ok.E1,ok.nx,ok.AP,fun j p l hj hl=>ok.live j p l (iH j p hj).1 hl,fun j k p q m n hj hk=>ok.inj j k p q m n (iH j p hj).1 (iH k q hk).1⟩
end Go.Ab
end
