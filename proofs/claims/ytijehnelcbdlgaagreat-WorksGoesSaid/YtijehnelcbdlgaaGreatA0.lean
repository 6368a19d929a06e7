import GoSem.Step
import Derived.Calls
import Derived.Laws.Cells
import Derived.Laws.IdiomCopy
import Derived.Laws.NewBlocks
set_option linter.unusedVariables false
set_option linter.unusedSimpArgs false
section
namespace Go.Ab
inductive AV where
 | bool (b:Bool)
 | int (k:IntKind) (n:Int)
 | str (s:List UInt8)
 | jq
 | ptr (i off:Nat)
 | aw
 | slice (i off len cap:Nat) (op:Bool)
 | gI
 | map (i:Nat)
 | func (f:FuncId) (first captured:List AV)
 | Ey (l:Nat)
 | nilFunc
 | iface (t:TypeId) (v:AV)
 | nilIface
 | agg (cs:List AV)
 | tuple (cs:List AV)
 | fJ
 | any
 deriving Inhabited
def AV.undef:AV:= .tuple []
def AV.cells:AV→List AV
 | .agg cs=>cs
 | v=> [v]
def AV.scalar:AV→Bool
 | .agg _ | .tuple _=>false
 | _=>true
def dR {α:Type} (f:α→α→Bool):List α→List α→Bool
 | [],[]=>true
 | x::xs,y::ys=>f x y&&dR f xs ys
 | _,_=>false
def AV.same:Nat→AV→AV→Bool
 | 0,_,_=>false
 | n+1,x,y=>match x,y with
  | .bool a,.bool b=>a==b
  | .int k a,.int j b=>k==j&&a==b
  | .str a,.str b=>a==b
  | .jq,.jq=>true
  | .ptr i o,.ptr j p=>i==j&&o==p
  | .aw,.aw=>true
  | .fJ,.fJ=>true
  | .slice i o l c b,.slice j p m d e=>i==j&&o==p&&l==m&&c==d&&b==e
  | .gI,.gI=>true
  | .map i,.map j=>i==j
  | .func f a b,.func g c d=>f==g&&dR (AV.same n) a c&&dR (AV.same n) b d
  | .Ey l,.Ey m=>l==m
  | .nilFunc,.nilFunc=>true
  | .iface t a,.iface u b=>t==u&&AV.same n a b
  | .nilIface,.nilIface=>true
  | .agg a,.agg b=>dR (AV.same n) a b
  | .tuple a,.tuple b=>dR (AV.same n) a b
  | _,_=>false
def nE:Value→Option AV
 | .bool b=>some (.bool b)
 | .int k n=>some (.int k n)
 | .string s=>some (.str s.data.toList)
 | .pointer none=>some .jq
 | .slice none 0 0=>some .aw
 | .map none=>some .gI
 | .nilFunc=>some .nilFunc
 | .nilIface=>some .nilIface
 | _=>none
def iX {α β:Type} (f:α→Option β):List α→Option (List β)
 | []=>some []
 | x::xs=>match f x with
  | none=>none
  | some y=>match iX f xs with
   | none=>none
   | some ys=>some (y::ys)
def ofConst:Value→Option AV
 | .agg cs=>match iX nE cs.toList with
  | some l=>some (.agg l)
  | none=>none
 | .tuple cs=>match iX nE cs.toList with
  | some l=>some (.tuple l)
  | none=>none
 | .iface t v=>match nE v with
  | some x=>some (.iface t x)
  | none=>none
 | v=>nE v
structure kO where
 key:AV
 val:AV
 born:Nat
inductive aN where
 | cells (cs:List AV) (elem:TypeId) (ro:Bool)
 | map (es:List kO) (clock:Nat)
 | xb (s:List UInt8) (pos:Nat)
 | x9 (m:Option Nat) (since:Nat) (seen:List Nat) (vS:Nat)
 | loop (st:LoopState) (pending:Option Code) (ts:List AV) (params:List Tmp) (assign body:Code) (dn:Nat)
 | Qk
 deriving Inhabited
structure P8 (α:Type) where
 a0:α
 a1:α
 a2:α
 a3:α
 a4:α
 a5:α
 a6:α
 a7:α
section
variable {α β:Type}
def P8.all (x:α):P8 α:=⟨x,x,x,x,x,x,x,x⟩
def s8 (d:Nat) (k:(P8 α→α)→β):β:=match d with
 | 0=>k P8.a0
 | 1=>k P8.a1
 | 2=>k P8.a2
 | 3=>k P8.a3
 | 4=>k P8.a4
 | 5=>k P8.a5
 | 6=>k P8.a6
 | _=>k P8.a7
def sel (d:Nat) (p:P8 α):α:=s8 d fun s=>s p
theorem V3 (d:Nat) (k:(P8 α→α)→β):s8 d k=k (sel d):=by
 rcases d with _ | _ | _ | _ | _ | _ | _ | d<;>rfl
noncomputable def pe0 (f:α→α) (p:P8 α):P8 α:=P8.rec (motive:=fun _=>P8 α) (fun a b c d e i g h=>⟨f a,b,c,d,e,i,g,h⟩) p
noncomputable def pe1 (f:α→α) (p:P8 α):P8 α:=P8.rec (motive:=fun _=>P8 α) (fun a b c d e i g h=>⟨a,f b,c,d,e,i,g,h⟩) p
noncomputable def pe2 (f:α→α) (p:P8 α):P8 α:=P8.rec (motive:=fun _=>P8 α) (fun a b c d e i g h=>⟨a,b,f c,d,e,i,g,h⟩) p
noncomputable def pe3 (f:α→α) (p:P8 α):P8 α:=P8.rec (motive:=fun _=>P8 α) (fun a b c d e i g h=>⟨a,b,c,f d,e,i,g,h⟩) p
noncomputable def pe4 (f:α→α) (p:P8 α):P8 α:=P8.rec (motive:=fun _=>P8 α) (fun a b c d e i g h=>⟨a,b,c,d,f e,i,g,h⟩) p
noncomputable def pe5 (f:α→α) (p:P8 α):P8 α:=P8.rec (motive:=fun _=>P8 α) (fun a b c d e i g h=>⟨a,b,c,d,e,f i,g,h⟩) p
noncomputable def pe6 (f:α→α) (p:P8 α):P8 α:=P8.rec (motive:=fun _=>P8 α) (fun a b c d e i g h=>⟨a,b,c,d,e,i,f g,h⟩) p
noncomputable def pe7 (f:α→α) (p:P8 α):P8 α:=P8.rec (motive:=fun _=>P8 α) (fun a b c d e i g h=>⟨a,b,c,d,e,i,g,f h⟩) p
noncomputable def e8 (d:Nat) (k:((α→α)→P8 α→P8 α)→β):β:=match d with
 | 0=>k pe0
 | 1=>k pe1
 | 2=>k pe2
 | 3=>k pe3
 | 4=>k pe4
 | 5=>k pe5
 | 6=>k pe6
 | _=>k pe7
noncomputable def epd (d:Nat) (f:α→α) (p:P8 α):P8 α:=e8 d fun u=>u f p
theorem V4 (d:Nat) (k:((α→α)→P8 α→P8 α)→β):e8 d k=k (epd d):=by
 rcases d with _ | _ | _ | _ | _ | _ | _ | d<;>rfl
theorem hF (d:Nat) (f:α→α) (p:P8 α):sel d (epd d f p)=f (sel d p):=by
 rcases d with _ | _ | _ | _ | _ | _ | _ | d<;>rfl
theorem lS {d e:Nat} (hd:d<8) (he:e<8) (h:d≠e) (f:α→α) (p:P8 α):sel e (epd d f p)=sel e p:=by
 rcases (show d=0∨d=1∨d=2∨d=3∨d=4∨d=5∨d=6∨d=7 by omega) with rfl | rfl | rfl | rfl | rfl | rfl | rfl | rfl<;>
 rcases (show e=0∨e=1∨e=2∨e=3∨e=4∨e=5∨e=6∨e=7 by omega) with rfl | rfl | rfl | rfl | rfl | rfl | rfl | rfl<;>
 first | rfl | exact absurd rfl h
theorem V5 (d:Nat) (x:α):sel d (P8.all x)=x:=by
 rcases d with _ | _ | _ | _ | _ | _ | _ | d<;>rfl
noncomputable def canon (n:Nat) (f:Nat→β):β:=Nat.rec (motive:=fun _=>β) (f 0) (fun m _=>f (Nat.succ m)) n
theorem Ci (n:Nat) (f:Nat→β):canon n f=f n:=by cases n<;>rfl
end
abbrev H3:Type:=P8 (P8 (P8 (Option aN)))
abbrev HT:Type:=P8 (P8 (P8 H3))
structure Hi where
 get:HT→H3
 upd:(H3→H3)→HT→HT
structure Lo where
 get:H3→Option aN
 upd:Option aN→H3→H3
structure HP where
 get:HT→Option aN
 put:Option aN→HT→HT
noncomputable def Yd (q:Nat):Hi:=s8 (Nat.div q 64) fun g1=>s8 (Nat.mod (Nat.div q 8) 8) fun g2=>s8 (Nat.mod q 8) fun g3=>
 e8 (Nat.div q 64) fun u1=>e8 (Nat.mod (Nat.div q 8) 8) fun u2=>e8 (Nat.mod q 8) fun u3=>⟨fun t=>g3 (g2 (g1 t)),fun f t=>u1 (u2 (u3 f)) t⟩
noncomputable def loP (q:Nat):Lo:=s8 (Nat.div q 64) fun g1=>s8 (Nat.mod (Nat.div q 8) 8) fun g2=>s8 (Nat.mod q 8) fun g3=>
 e8 (Nat.div q 64) fun u1=>e8 (Nat.mod (Nat.div q 8) 8) fun u2=>e8 (Nat.mod q 8) fun u3=>⟨fun t=>g3 (g2 (g1 t)),fun o t=>u1 (u2 (u3 fun _=>o)) t⟩
noncomputable def aqS (a:Hi) (b:Lo):HP:=Hi.rec (motive:=fun _=>HP) (fun g u=>Lo.rec (motive:=fun _=>HP) (fun g' u'=>⟨fun t=>g' (g t),fun o t=>u (u' o) t⟩) b) a
noncomputable def hp (i:Nat):HP:=bif Nat.ble 262144 i then ⟨fun _=>none,fun _ t=>t⟩ else canon (Nat.div i 512) fun q=>canon (Nat.mod i 512) fun p=>aqS (Yd q) (loP p)
structure az where
 t:HT
 nx:Nat
 f:Nat→Option aN
noncomputable def az.get (h:az) (i:Nat):Option aN:=bif Nat.ble 262144 i then h.f i else (hp i).get h.t
def Ti (f:Nat→Option aN) (i:Nat) (o:Option aN):Nat→Option aN:=fun j=>bif Nat.beq j i then o else f j
noncomputable def az.put (h:az) (i:Nat) (o:Option aN):az:=⟨bif Nat.ble 262144 i then h.t else (hp i).put o h.t,h.nx,bif Nat.ble 262144 i then Ti h.f i o else h.f⟩
noncomputable def az.new (h:az) (o:aN):Option az:=some ⟨bif Nat.ble 262144 h.nx then h.t else (hp h.nx).put (some o) h.t,h.nx+1,bif Nat.ble 262144 h.nx then Ti h.f h.nx (some o) else h.f⟩
def HT.nil:HT:=P8.all (P8.all (P8.all (P8.all (P8.all (P8.all none)))))
structure Env where
 P:Program
 G:Nat
 HF:FuncId→Option (List AV→Option AV)
 zC:FuncId→Option (List AV→az→Option (AV×az))
 bld:Option TypeId:=none
variable (E:Env)
def gn (ts:List AV):Operand→Option AV
 | .tmp t=>some (ts.getD t AV.undef)
 | .const v=>ofConst v
 | .global g=>if g<E.G then some (.ptr g 0) else none
 | .func f=>some (.func f [] [])
def dm (t:TypeId):Option Nat:=(E.P.info? t).map (·.size)
def jT (t:TypeId):Option Nat:=if E.bld=some t then none else (E.P.info? t).map (·.bytes)
def kE (t:TypeId):Option AV:=match E.P.info? t with
 | some i=>match i.zero with
  | some z=>ofConst z
  | none=>none
 | none=>none
def jr (t:TypeId):Option Bool:=match E.P.underlying t with
 | some (.struct _)=>some true
 | some (.array _ _)=>some true
 | some _=>some false
 | none=>none
def cB (z:List AV):Nat→List AV
 | 0=> []
 | n+1=>z++cB z n
def nG (t:TypeId) (cs:List AV) (off:Nat):Option AV:=match jr E t with
 | some true=>match dm E t with
  | some n=>if off+n≤cs.length then some (.agg ((cs.drop off).take n)) else none
  | none=>none
 | some false=>cs[off]?
 | none=>none
def sA (op:BinOp) (k:IntKind) (a b:Int):Option AV:=match op with
 | .add=>some (.int k (k.wrap (a+b)))
 | .sub=>some (.int k (k.wrap (a - b)))
 | .mul=>some (.int k (k.wrap (a*b)))
 | .quo=>if b=0 then none else some (.int k (k.wrap (a.tdiv b)))
 | .rem=>if b=0 then none else some (.int k (a.tmod b))
 | .and=>some (.int k (k.wrap (BitVec.ofInt k.bits a&&& BitVec.ofInt k.bits b).toNat))
 | .or=>some (.int k (k.wrap (BitVec.ofInt k.bits a||| BitVec.ofInt k.bits b).toNat))
 | .xor=>some (.int k (k.wrap (BitVec.ofInt k.bits a^^^BitVec.ofInt k.bits b).toNat))
 | .andNot=>some (.int k (k.wrap (BitVec.ofInt k.bits a&&& ~~~ BitVec.ofInt k.bits b).toNat))
 | .eql=>some (.bool (a==b))
 | .neq=>some (.bool (a !=b))
 | .lss=>some (.bool (a<b))
 | .leq=>some (.bool (a≤b))
 | .gtr=>some (.bool (a>b))
 | .geq=>some (.bool (a≥b))
 | _=>none
def Ie (op:BinOp) (a b:List UInt8):Option AV:=match op with
 | .add=>if a.length+b.length<1099511627776 then some (.str (a++b)) else none
 | .eql=>some (.bool (a==b))
 | .neq=>some (.bool !(a==b))
 | .lss=>some (.bool (Op.bytesLess a b))
 | .leq=>some (.bool (Op.bytesLess a b||a==b))
 | .gtr=>some (.bool !(Op.bytesLess a b||a==b))
 | .geq=>some (.bool !(Op.bytesLess a b))
 | _=>none
def Ye (t:TypeId) (a b:AV):Option Bool:=match E.P.underlying t with
 | some .bool=>match a,b with
  | .bool x,.bool y=>some (x==y)
  | _,_=>none
 | some (.pointer _)=>match a,b with
  | .jq,.jq=>some true
  | .jq,.ptr _ _=>some false
  | .ptr _ _,.jq=>some false
  | _,_=>none
 | some (.interface _)=>match a,b with
  | .nilIface,.nilIface=>some true
  | .nilIface,.iface _ _=>some false
  | .iface _ _,.nilIface=>some false
  | _,_=>none
 | some (.slice _)=>match a,b with
  | .aw,.aw=>some true
  | .aw,.slice .. =>some false
  | .slice ..,.aw=>some false
  | .fJ,.aw=>some false
  | .aw,.fJ=>some false
  | _,_=>none
 | some (.map _ _)=>match a,b with
  | .gI,.gI=>some true
  | .gI,.map _=>some false
  | .map _,.gI=>some false
  | _,_=>none
 | some (.func ..)=>match a,b with
  | .nilFunc,.nilFunc=>some true
  | .nilFunc,.func .. =>some false
  | .func ..,.nilFunc=>some false
  | _,_=>none
 | _=>none
def ss (eq:TypeId→AV→AV→Option Bool) (xs ys:List AV):List Field→Option Bool
 | []=>some true
 | f::fs=>if f.name= "_" then ss eq xs ys fs else match nG E f.type xs f.offset,nG E f.type ys f.offset with
  | some a,some b=>match eq f.type a b with
   | some true=>ss eq xs ys fs
   | some false=>some false
   | none=>none
  | _,_=>none
def pP:Nat→TypeId→AV→AV→Option Bool
 | 0,_,_,_=>none
 | n+1,t,a,b=>match a,b with
  | .int k x,.int j y=>match E.P.underlying t with
   | some (.int _)=>if k=j then some (x==y) else none
   | _=>none
  | .str x,.str y=>match E.P.underlying t with
   | some .string=>some (x==y)
   | _=>none
  | .agg xs,.agg ys=>match E.P.underlying t with
   | some (.struct fs)=>if E.P.stoodInHeld t=false then ss E (pP n) xs ys fs.toList else none
   | _=>none
  | a,b=>Ye E t a b
def isConst:Operand→Bool
 | .const _=>true
 | _=>false
def tI (xc yc:Bool):AV→AV→Bool
 | .nilIface,.nilIface=>xc||yc
 | .agg _,.agg _=>false
 | .any,_=>false
 | _,.any=>false
 | _,_=>true
def Cj (op:BinOp) (t:TypeId) (xc yc:Bool) (a b:AV):Option AV:=match op,a,b with
 | .shl,.int k x,.int _ y=>if y<0 then none else some (.int k (k.wrap (x*2^(min y.toNat k.bits))))
 | .shr,.int k x,.int _ y=>if y<0 then none else some (.int k (x.fdiv (2^(min y.toNat k.bits))))
 | op,.int k x,.int k' y=>if k=k' then sA op k x y else none
 | op,.str x,.str y=>Ie op x y
 | .eql,.agg xs,.agg ys=>if E.P.eqGuardType E.P.depth t then none else (match pP E 16 t (.agg xs) (.agg ys) with
  | some r=>some (.bool r)
  | none=>none)
 | .neq,.agg xs,.agg ys=>if E.P.eqGuardType E.P.depth t then none else (match pP E 16 t (.agg xs) (.agg ys) with
  | some r=>some (.bool !r)
  | none=>none)
 | .eql,x,y=>if tI xc yc x y then (match Ye E t x y with
  | some r=>some (.bool r)
  | none=>none) else none
 | .neq,x,y=>if tI xc yc x y then (match Ye E t x y with
  | some r=>some (.bool !r)
  | none=>none) else none
 | _,_,_=>none
def unA (op:UnOp) (x:AV):Option AV:=match op,x with
 | .neg,.int k n=>some (.int k (k.wrap (0 - n)))
 | .xor,.int k n=>some (.int k (k.wrap (BitVec.ofInt k.bits (if k.signed then -1 else k.max)^^^BitVec.ofInt k.bits n).toNat))
 | .not,.bool b=>some (.bool !b)
 | _,_=>none
def A5 (x:AV) (y:Nat):Option Nat:=match x with
 | .int _ i=>if 0≤i∧i≤y then some i.toNat else none
 | _=>none
def tJ (len cap:Nat) (low high max:Option AV):Option (Nat×Nat×Nat):=
 match (match max with | some v=>A5 v cap | none=>some cap) with
 | none=>none
 | some m=>match (match high with | some v=>A5 v m | none=>if max.isSome then none else some len) with
  | none=>none
  | some h=>match (match low with | some v=>A5 v h | none=>some 0) with
   | none=>none
   | some l=>some (l,h,m)
def sC (ts:List AV):Option Operand→Option (Option AV)
 | none=>some none
 | some o=>match gn E ts o with
  | some v=>some (some v)
  | none=>none
def iY (t:TypeId) (x:AV) (low high max:Option AV):Option AV:=match E.P.underlying t,x with
 | some (.array n elem),.ptr i o=>match tJ n n low high max,dm E elem with
  | some (l,h,m),some size=>some (.slice i (if m=l then o else o+l*size) (h - l) (m - l) false)
  | _,_=>none
 | some .string,.str s=>match max,tJ s.length s.length low high none with
  | none,some (l,h,_)=>some (.str ((s.drop l).take (h - l)))
  | _,_=>none
 | some (.slice elem),.aw=>match tJ 0 0 low high max,dm E elem with
  | some _,some _=>some .aw
  | _,_=>none
 | some (.slice elem),.slice i o len cap op=>
  if len≤cap then match tJ len cap low high max,dm E elem with
  | some (l,h,m),some size=>
   if m=l then (if op&&max.isNone then some .fJ else some (.slice i o (h - l) (m - l) false))
   else some (.slice i (o+l*size) (h - l) (m - l) (op&&max.isNone))
  | _,_=>none
  else none
 | _,_=>none
def Ck (t:TypeId) (f:Nat):Option Field:=match E.P.underlying t with
 | some (.struct fs)=>fs[f]?
 | _=>none
def setFrom (cs:List AV) (off:Nat):List AV→List AV
 | []=>cs
 | v::vs=>setFrom (cs.set off v) (off+1) vs
def Av (place:Nat→Option (Nat×Nat)) (cs:List AV):List (Nat×AV)→Option (List AV)
 | []=>some cs
 | (i,v)::rest=>match place i with
  | none=>none
  | some (off,size)=>if v.cells.length=size∧off+size≤cs.length then Av place (setFrom cs off v.cells) rest else none
def oV (ts:List AV):List (Nat×Operand)→Option (List (Nat×AV))
 | []=>some []
 | (i,o)::rest=>match gn E ts o with
  | none=>none
  | some v=>match oV ts rest with
   | none=>none
   | some l=>some ((i,v)::l)
def placesOf (fs:List Field):Option (List (Nat×Nat)):=iX (fun f=>match dm E f.type with | some n=>some (f.offset,n) | none=>none) fs
def Tj (t:TypeId) (parts:List (Nat×AV)):Option AV:=match kE E t with
 | none=>none
 | some z=>match E.P.underlying t with
  | some (.struct fs)=>match placesOf E fs.toList with
   | none=>none
   | some ps=>match Av (ps[·]?) z.cells parts with
    | some cs=>some (.agg cs)
    | none=>none
  | some (.array _ elem)=>match dm E elem with
   | none=>none
   | some n=>match Av (fun i=>some (i*n,n)) z.cells parts with
    | some cs=>some (.agg cs)
    | none=>none
  | _=>none
def Tk:AV→List AV→Option AV
 | .int k x,[]=>some (.int k x)
 | .int k x,.int _ y::rest=>Tk (.int k (if y>x then y else x)) rest
 | _,_=>none
def Tn:AV→List AV→Option AV
 | .int k x,[]=>some (.int k x)
 | .int k x,.int _ y::rest=>Tn (.int k (if y<x then y else x)) rest
 | _,_=>none
def lq (ts:List AV) (l:List Operand):Option (List AV):=iX (gn E ts) l
def V6 (n:Int):Option AV:=if 0≤n∧n<128 then some (.str [UInt8.ofNat n.toNat]) else none
def dY (ts:List AV):Op→Option AV
 | .move x=>gn E ts x
 | .assign x=>gn E ts x
 | .pick c a b=>match gn E ts c with
  | some (.bool true)=>gn E ts a
  | some (.bool false)=>gn E ts b
  | _=>none
 | .build t parts=>match oV E ts parts.toList with
  | some ps=>Tj E t ps
  | none=>none
 | .nilCheck x=>match gn E ts x with
  | some (.ptr i o)=>some (.ptr i o)
  | some (.map i)=>some (.map i)
  | some (.slice i o l c b)=>some (.slice i o l c b)
  | some (.func f a b)=>some (.func f a b)
  | _=>none
 | .binOp op t x y _=>match gn E ts x,gn E ts y with
  | some a,some b=>Cj E op t (isConst x) (isConst y) a b
  | _,_=>none
 | .unOp op _ x=>match gn E ts x with
  | some a=>unA op a
  | none=>none
 | .convert src dst x=>match E.P.underlying src,E.P.underlying dst,gn E ts x with
  | some _,some (.int k),some (.int _ n)=>some (.int k (k.wrap n))
  | some _,some .string,some (.str s)=>some (.str s)
  | some _,some .string,some (.int _ n)=>V6 n
  | _,_,_=>none
 | .makeInterface t x=>match E.P.underlying t,gn E ts x with
  | some (.interface _),_=>none
  | some _,some v=>some (.iface t v)
  | _,_=>none
 | .makeFunc (.func f) first captured=>match lq E ts first.toList,lq E ts captured.toList with
  | some a,some b=>some (.func f a b)
  | _,_=>none
 | .slice t x lo hi mx=>match gn E ts x,sC E ts lo,sC E ts hi,sC E ts mx with
  | some v,some l,some h,some m=>iY E t v l h m
  | _,_,_,_=>none
 | .fieldAddr s x f=>match Ck E s f,gn E ts x with
  | some fd,some (.ptr i o)=>match dm E fd.type with
   | some n=>if n=0 then none else some (.ptr i (o+fd.offset))
   | none=>none
  | _,_=>none
 | .field s x f=>match Ck E s f,gn E ts x with
  | some fd,some (.agg cs)=>nG E fd.type cs fd.offset
  | _,_=>none
 | .indexAddr t x ix=>match E.P.underlying t,gn E ts x,gn E ts ix with
  | some (.array len elem),some (.ptr i o),some (.int _ n)=>match dm E elem with
   | some size=>if 0≤n∧n<len then some (.ptr i (o+n.toNat*size)) else none
   | none=>none
  | some (.slice elem),some (.slice i o len _ _),some (.int _ n)=>match dm E elem with
   | some size=>if 0≤n∧n<len then some (.ptr i (o+n.toNat*size)) else none
   | none=>none
  | _,_,_=>none
 | .index t x ix=>match E.P.underlying t,gn E ts x,gn E ts ix with
  | some (.array len elem),some (.agg cs),some (.int _ n)=>match dm E elem with
   | some size=>if 0≤n∧n<len then nG E elem cs (n.toNat*size) else none
   | none=>none
  | some .string,some (.str s),some (.int _ n)=>if 0≤n then (match s[n.toNat]? with | some b=>some (.int .u8 b.toNat) | none=>none) else none
  | _,_,_=>none
 | .extract x i=>match gn E ts x with
  | some (.tuple vs)=>vs[i]?
  | _=>none
 | .typeAssert x _ asserted j1=>match E.P.underlying asserted,gn E ts x with
  | some (.interface _),_=>none
  | some _,some (.iface t v)=>
   if t=asserted then some (if j1 then .tuple [v,.bool true] else v)
   else if j1 then (match kE E asserted with | some z=>some (.tuple [z,.bool false]) | none=>none) else none
  | some _,some .nilIface=>if j1 then (match kE E asserted with | some z=>some (.tuple [z,.bool false]) | none=>none) else none
  | _,_=>none
 | .call {callee:= .builtin .len,args,argTypes}=>match argTypes[0]?,lq E ts args.toList with
  | some t,some [v]=>match E.P.underlying t,v with
   | some .string,.str s=>some (.int .i64 s.length)
   | some (.array n _),_=>some (.int .i64 n)
   | some (.slice _),.aw=>some (.int .i64 0)
   | some (.slice _),.slice _ _ n _ _=>some (.int .i64 n)
   | some (.slice _),.fJ=>some (.int .i64 0)
   | some (.map _ _),.gI=>some (.int .i64 0)
   | _,_=>none
  | _,_=>none
 | .call {callee:= .builtin .cap,args,argTypes}=>match argTypes[0]?,lq E ts args.toList with
  | some t,some [v]=>match E.P.underlying t,v with
   | some (.array n _),_=>some (.int .i64 n)
   | some (.slice _),.aw=>some (.int .i64 0)
   | some (.slice _),.slice _ _ _ c false=>some (.int .i64 c)
   | _,_=>none
  | _,_=>none
 | .call {callee:= .builtin .max,args,..}=>match lq E ts args.toList with
  | some (x::rest)=>Tk x rest
  | _=>none
 | .call {callee:= .builtin .min,args,..}=>match lq E ts args.toList with
  | some (x::rest)=>Tn x rest
  | _=>none
 | .call {callee:= .value (.func f),args,..}=>match E.HF f,lq E ts args.toList with
  | some e,some vs=>e vs
  | _,_=>none
 | _=>none
noncomputable def cX (h:az) (t:TypeId) (a:AV):Option AV:=match a with
 | .ptr i o=>match h.get i with
  | some (.cells cs _ _)=>nG E t cs o
  | _=>none
 | _=>none
def L5:AV→AV→Option Bool
 | .str a,.str b=>some (a==b)
 | .int k a,.int k' b=>if k=k' then some (a==b) else none
 | .bool a,.bool b=>some (a==b)
 | _,_=>none
def l6 (d:Option TypeDesc) (k:AV):Bool:=match d,k with
 | some .string,.str _=>true
 | some (.int _),.int _ _=>true
 | some .bool,.bool _=>true
 | _,_=>false
def sD:List AV→List AV→Bool
 | [],[]=>true
 | .int k a::xs,.int j b::ys=>decide (k=j)&&decide (a=b)&&sD xs ys
 | .str a::xs,.str b::ys=>(a==b)&&sD xs ys
 | _,_=>false
def mI (d:Option TypeDesc) (k:AV):Bool:=match d,k with
 | some (.struct fs),.agg xs=>fs.toList.all fun f=>match E.P.underlying f.type,nG E f.type xs f.offset with
  | some (.int _),some (.int _ _)=>true
  | some .string,some (.str _)=>true
  | _,_=>false
 | _,_=>false
def findD (key:TypeId) (k:AV):List kO→Nat→Option (Option (Nat×AV))
 | [],_=>some none
 | e::es,i=>match pP E 16 key k e.key with
  | some true=>(match k,e.key with | .agg xs,.agg ys=>if sD xs ys then some (some (i,e.val)) else none | _,_=>none)
  | some false=>findD key k es (i+1)
  | none=>none
def L6 (k:AV):List kO→Nat→Option (Option (Nat×AV))
 | [],_=>some none
 | e::es,i=>match L5 k e.key with
  | some true=>some (some (i,e.val))
  | some false=>L6 k es (i+1)
  | none=>none
noncomputable def V7 (h:az) (i o n:Nat):Option (List UInt8):=match h.get i with
 | some (.cells cs _ _)=>if o+n≤cs.length then
  iX (fun | .int .u8 b=>some (UInt8.ofNat b.toNat) | _=>none) ((cs.drop o).take n) else none
 | _=>none
noncomputable def kF (ts:List AV) (h:az):Op→Option AV
 | .load t a=>match gn E ts a with
  | some v=>cX E h t v
  | none=>none
 | .convert src dst x=>match E.P.underlying src,E.P.underlying dst,gn E ts x with
  | some (.slice e),some .string,some v=>match E.P.underlying e,v with
   | some (.int .u8),.aw=>some (.str [])
   | some (.int .u8),.slice i o len _ _=>match V7 h i o len with
    | some l=>some (.str l)
    | none=>none
   | _,_=>none
  | _,_,_=>none
 | .lookup t x ix j1=>match E.P.underlying t,gn E ts x,gn E ts ix with
  | some (.map key elem),some m,some k=>
   if l6 (E.P.underlying key) k then
    match (match m with | .gI=>some [] | .map i=>(match h.get i with | some (.map es _)=>some es | _=>none) | _=>none) with
    | none=>none
    | some es=>match L6 k es 0 with
     | none=>none
     | some (some (_,v))=>some (if j1 then .tuple [v,.bool true] else v)
     | some none=>match kE E elem with
      | some z=>some (if j1 then .tuple [z,.bool false] else z)
      | none=>none
   else if mI E (E.P.underlying key) k then
    match (match m with | .gI=>some [] | .map i=>(match h.get i with | some (.map es _)=>some es | _=>none) | _=>none) with
    | none=>none
    | some es=>match findD E key k es 0 with
     | none=>none
     | some (some (_,v))=>some (if j1 then .tuple [v,.bool true] else v)
     | some none=>match kE E elem with
      | some z=>some (if j1 then .tuple [z,.bool false] else z)
      | none=>none
   else none
  | _,_,_=>none
 | .call {callee:= .builtin .len,args,argTypes}=>match argTypes[0]?,lq E ts args.toList with
  | some t,some [.map i]=>match E.P.underlying t,h.get i with
   | some (.map _ _),some (.map es _)=>some (.int .i64 es.length)
   | _,_=>none
  | _,_=>none
 | _=>none
def jt (ts:List AV):Op→Option (aN×(Nat→AV))
 | .alloc t=>match kE E t with
  | some z=>some (.cells z.cells t false,fun i=> .ptr i 0)
  | none=>none
 | .box t x=>match gn E ts x with
  | some v=>some (.cells v.cells t false,fun i=> .ptr i 0)
  | none=>none
 | .buildSlice t len parts=>match E.P.underlying t with
  | some (.slice elem)=>match dm E elem,kE E elem,oV E ts parts.toList with
   | some n,some z,some ps=>if z.cells.length=n∧len*n≤2^24 then
    match Av (fun i=>some (i*n,n)) (cB z.cells len) ps with
    | some cs=>some (.cells cs elem false,fun i=> .slice i 0 len len false)
    | none=>none
    else none
   | _,_,_=>none
  | _=>none
 | .makeSlice t l c=>match E.P.underlying t,gn E ts l,gn E ts c with
  | some (.slice elem),some (.int _ len),some (.int _ cap)=>match dm E elem,jT E elem,kE E elem with
   | some n,some bytes,some z=>
    if 0≤len∧len≤cap∧cap<2^30∧(bytes:Int)*cap≤2^47∧z.cells.length=n then
     some (.cells (cB z.cells cap.toNat) elem false,fun i=> .slice i 0 len.toNat cap.toNat false)
    else none
   | _,_,_=>none
  | _,_,_=>none
 | .makeMap t r=>match r with
  | none=>some (.map [] 0,fun i=> .map i)
  | some o=>match E.P.underlying t,gn E ts o with
   | some (.map _ _),some (.int _ _)=>some (.map [] 0,fun i=> .map i)
   | _,_=>none
 | .range t x=>match E.P.underlying t,gn E ts x with
  | some .string,some (.str s)=>some (.xb s 0,fun i=> .ptr i 0)
  | some (.map _ _),some .gI=>some (.x9 none 0 [] 0,fun i=> .ptr i 0)
  | _,_=>none
 | _=>none
noncomputable def eS (h:az) (t:TypeId) (a v:AV):Option az:=match a with
 | .ptr i o=>match h.get i,dm E t with
  | some (.cells cs e false),some n=>if v.cells.length=n∧o+n≤cs.length∧v.cells.all AV.scalar=true then some (h.put i (some (.cells (setFrom cs o v.cells) e false))) else none
  | _,_=>none
 | _=>none
def sE:AV→Option Nat
 | .aw=>some 0
 | .slice _ _ n _ _=>some n
 | .str s=>some s.length
 | .fJ=>some 0
 | _=>none
noncomputable def gJ (h:az) (size n:Nat):AV→Option (List AV)
 | .aw=>if n=0 then some [] else none
 | .fJ=>if n=0 then some [] else none
 | .slice i o len _ _=>if n≤len then (if n=0 then some [] else match h.get i with
  | some (.cells cs _ _)=>if o+n*size≤cs.length then some ((cs.drop o).take (n*size)) else none
  | _=>none) else none
 | .str s=>if size=1 then some ((s.take n).map fun b=> .int .u8 b.toNat) else none
 | _=>none
def sG:TypeDesc→Bool
 | .int _=>true
 | _=>false
noncomputable def F6 (h:az) (elem:TypeId) (s x:AV):Option (AV×az):=match s,x,dm E elem,jT E elem,kE E elem with
 | .aw,.int _ k,some size,some bytes,some z=>
  if 0<k∧0<size∧(4*k.toNat+4096)*(bytes+1)≤1099511627776∧z.cells.length=size then
   match h.new (.cells (cB z.cells k.toNat) elem false) with
   | some h'=>some (.slice h.nx 0 k.toNat k.toNat true,h')
   | none=>none
  else none
 | _,_,_,_,_=>none
noncomputable def cb (h:az) (argTypes:Array TypeId) (s x:AV):Option (AV×az):=match argTypes[0]?,argTypes[1]? with
 | some sT,some xT=>match E.P.underlying sT,E.P.underlying xT with
  | some (.slice elem),some xd=>if sG xd then F6 E h elem s x else match dm E elem,jT E elem,sE x with
   | some size,some bytes,some n=>match gJ h size n x,kE E elem with
    | some new,some z=>if z.cells.length=size∧new.all AV.scalar=true∧new.length=n*size then
     match s with
     | .aw=>if n=0 then some (.aw,h) else if (4*n+4096)*(bytes+1)≤1099511627776 then
      (match h.new (.cells new elem false) with
      | some h'=>some (.slice h.nx 0 n n true,h')
      | none=>none) else none
     | .slice i o len cap op=>match h.get i with
      | some (.cells cs e false)=>
       if len+n≤cap then
        if o+(len+n)*size≤cs.length then some (.slice i o (len+n) cap op,h.put i (some (.cells (setFrom cs (o+len*size) new) e false))) else none
       else if (4*(len+n)+4096)*(bytes+1)≤1099511627776∧o+len*size≤cs.length∧(op=true→e=elem∧o+cap*size=cs.length∧o=0) then
        match (if op then h.put i none else h).new (.cells ((cs.drop o).take (len*size)++new) elem false) with
        | some h'=>some (.slice h.nx 0 (len+n) (len+n) true,h')
        | none=>none
       else none
      | _=>none
     | _=>none else none
    | _,_=>none
   | _,_,_=>none
  | _,_=>none
 | _,_=>none
noncomputable def L7 (h:az) (argTypes:Array TypeId) (d s:AV):Option (AV×az):=match argTypes[0]? with
 | some dT=>match E.P.underlying dT,sE s with
  | some (.slice elem),some m=>match dm E elem,d with
   | some _,.aw=>some (.int .i64 0,h)
   | some size,.slice i o len _ _=>match gJ h size (min m len) s,h.get i with
    | some new,some (.cells cs e false)=>if o+new.length≤cs.length∧new.all AV.scalar=true then some (.int .i64 (min m len:Nat),h.put i (some (.cells (setFrom cs o new) e false))) else none
    | _,_=>none
   | _,_=>none
  | _,_=>none
 | none=>none
def fK (es:List kO) (i:Nat) (v:AV):List kO:=match es,i with
 | [],_=> []
 | e::es,0=>{e with val:=v}::es
 | e::es,i+1=>e::fK es i v
noncomputable def sH (h:az) (t:TypeId) (m k v:AV):Option az:=match E.P.underlying t,m with
 | some (.map key _),.map i=>match h.get i with
  | some (.map es clock)=>if l6 (E.P.underlying key) k then
   match L6 k es 0 with
   | some (some (j,_))=>some (h.put i (some (.map (fK es j v) clock)))
   | some none=>some (h.put i (some (.map (es++[{key:=k,val:=v,born:=clock}]) (clock+1))))
   | none=>none
   else if mI E (E.P.underlying key) k then
    match findD E key k es 0 with
    | some (some (j,_))=>some (h.put i (some (.map (fK es j v) clock)))
    | some none=>some (h.put i (some (.map (es++[{key:=k,val:=v,born:=clock}]) (clock+1))))
    | none=>none
   else none
  | _=>none
 | _,_=>none
noncomputable def Ez (h:az) (t:TypeId) (m k:AV):Option (AV×az):=match E.P.underlying t,m with
 | some (.map key elem),.map i=>match h.get i with
  | some (.map es clock)=>if mI E (E.P.underlying key) k then
   match findD E key k es 0 with
   | some (some (j,v))=>(match es[j]? with
    | some e=>some (.tuple [v,.int .i64 e.born],h.put i (some (.map es clock)))
    | none=>none)
   | some none=>(match kE E elem with
    | some z=>some (.tuple [z,.int .i64 clock],h.put i (some (.map (es++[{key:=k,val:=z,born:=clock}]) (clock+1))))
    | none=>none)
   | none=>none
   else none
  | _=>none
 | _,_=>none
noncomputable def ya (h:az) (m s x:AV):Option az:=match m,s with
 | .map i,.int _ n=>match h.get i with
  | some (.map es clock)=>match es.findIdx? (fun e=>(e.born:Int)==n) with
   | some j=>some (h.put i (some (.map (fK es j x) clock)))
   | none=>none
  | _=>none
 | _,_=>none
noncomputable def aax (h:az) (it:AV) (isString:Bool):Option (AV×az):=match it with
 | .ptr r 0=>match h.get r,isString with
  | some (.xb s pos),true=>
   if pos<s.length then
    match s[pos]? with
    | some b=>if b.toNat<128 then some (.tuple [.bool true,.int .i64 pos,.int .i32 b.toNat],h.put r (some (.xb s (pos+1)))) else none
    | none=>none
   else some (.tuple [.bool false],h)
  | some (.x9 none _ _ _),false=>some (.tuple [.bool false],h)
  | _,_=>none
 | _=>none
noncomputable def Ql (h:az) (src dst:TypeId) (x:Option AV):Option (AV×az):=match E.P.underlying src,E.P.underlying dst,x with
 | some .string,some (.slice e),some (.str s)=>match E.P.underlying e,h.new (.cells (s.map fun b=> .int .u8 b.toNat) e false) with
  | some (.int .u8),some h'=>if dm E e=some 1 then some (.slice h.nx 0 s.length s.length true,h') else none
  | _,_=>none
 | _,_,_=>none
inductive Ae where
 | call (f:FuncId) (args:List AV)
 | col (r:Nat)
inductive Fn where
 | fn (f:FuncId)
 | K_ (l:Nat)
inductive oP where
 | normal
 | exit (id:Nat)
 | ret
 | panic (v:AV)
inductive RC where
 | no
 | mJ (v:AV)
 | done
 | bar (l:Nat)
structure St where
 ts:List AV
 h:az
 ds:List Ae
 rc:RC
inductive Out where
 | ok (e:oP) (s:St)
 | fail (yd:String) (o:Option Oper)
inductive A6 where
 | ret (v:AV) (h:az)
 | panic (v:AV) (h:az)
 | fail (yd:String) (o:Option Oper)
abbrev b8:=Fn→List AV→az→A6
inductive ajd where
 | val (v:AV) (h:az)
 | defer (d:Ae)
 | L8 (v:AV)
 | panic (v:AV) (h:az)
 | fail (yd:String) (o:Option Oper)
def callee (ts:List AV) (c:Call):Option (Fn×List AV):=match c.callee with
 | .value f=>match gn E ts f,lq E ts c.args.toList with
  | some (.func g first captured),some args=>some (.fn g,first++args++captured)
  | some (.Ey l),some args=>some (.K_ l,args)
  | _,_=>none
 | _=>none
def Nw (t:TypeId) (name:String):Option FuncId:=match E.P.info? t with
 | some i=>match i.methods.find? (·.name==name) with
  | some m=>if m.path.isEmpty then match m.func,E.P.underlying t with
   | _,some (.pointer _)=>none
   | some (f,false),some _=>some f
   | _,_=>none
   else none
  | none=>none
 | none=>none
def EA:Fn→Option (List AV→az→Option (AV×az))
 | .fn f=>E.zC f
 | .K_ _=>none
noncomputable def j4 (call:b8) (ts:List AV) (h:az) (rc:RC) (o:Oper):ajd:=
 let v (r:Option (AV×az)):ajd:=match r with
  | some (x,h')=> .val x h'
  | none=> .fail "eff" (some o)
 match o.op with
 | .store t a x=>match gn E ts a,gn E ts x with
  | some av,some xv=>match eS E h t av xv with
   | some h'=> .val AV.undef h'
   | none=> .fail "store" (some o)
  | _,_=> .fail "store ops" (some o)
 | .mapUpdate t m k x=>match gn E ts m,gn E ts k,gn E ts x with
  | some mv,some kv,some xv=>match sH E h t mv kv xv with
   | some h'=> .val AV.undef h'
   | none=> .fail "mapUpdate" (some o)
  | _,_,_=> .fail "mapUpdate ops" (some o)
 | .insert t m k x=>match gn E ts m,gn E ts k,gn E ts x with
  | some mv,some kv,some xv=>match sH E h t mv kv xv with
   | some h'=> .val AV.undef h'
   | none=> .fail "insert" (some o)
  | _,_,_=> .fail "insert ops" (some o)
 | .mapEntry t m k=>match gn E ts m,gn E ts k with
  | some mv,some kv=>v (Ez E h t mv kv)
  | _,_=> .fail "mapEntry ops" (some o)
 | .entryStore _ m b x=>match gn E ts m,gn E ts b,gn E ts x with
  | some mv,some bv,some xv=>match ya h mv bv xv with
   | some h'=> .val AV.undef h'
   | none=> .fail "entryStore" (some o)
  | _,_,_=> .fail "entryStore ops" (some o)
 | .convert src dst x=>v (Ql E h src dst (gn E ts x))
 | .next it isString=>match gn E ts it with
  | some i=>v (aax h i isString)
  | none=> .fail "next" (some o)
 | .panic x=>match gn E ts x with
  | some (.iface t w)=> .panic (.iface t w) h
  | _=> .fail "panic" (some o)
 | .defer c=>match rc,callee E ts c with
  | .bar _,_=> .fail "defer in a round" (some o)
  | _,some (.fn f,args)=> .defer (.call f args)
  | _,_=> .fail "defer" (some o)
 | .call c=>match c.callee with
  | .builtin .append=>match lq E ts c.args.toList with
   | some [s,x]=>v (cb E h c.argTypes s x)
   | _=> .fail "append" (some o)
  | .builtin .copy=>match lq E ts c.args.toList with
   | some [s,x]=>v (L7 E h c.argTypes s x)
   | _=> .fail "copy" (some o)
  | .builtin .recover=>match rc with
   | .mJ x=> .L8 x
   | .bar _=> .fail "recover in a round" (some o)
   | _=> .val .nilIface h
  | .value _=>match callee E ts c with
   | some (f,args)=>match EA E f with
    | some g=>v (g args h)
    | none=>match call f args h with
     | .ret x h'=> .val x h'
     | .panic x h'=> .panic x h'
     | .fail yd q=> .fail yd q
   | none=> .fail "callee" (some o)
  | .invoke r name=>match gn E ts r,lq E ts c.args.toList with
   | some (.iface t x),some args=>match Nw E t name with
    | some f=>match call (.fn f) (x::args) h with
     | .ret x h'=> .val x h'
     | .panic x h'=> .panic x h'
     | .fail yd q=> .fail yd q
    | none=> .fail "method" (some o)
   | _,_=> .fail "invoke" (some o)
  | _=> .fail "call" (some o)
 | _=> .fail "op" (some o)
def gR (ts:List AV) (d:Option Tmp) (v:AV):List AV:=match d with
 | some i=>ts.set i v
 | none=>ts
def fA (ops:Array Oper) (ts:List AV) (o:Oper):Bool:=match o.guard with
 | none=>true
 | some (j,want)=>match (ops[j]?).bind (·.dst) with
  | some d=>match ts[d]? with
   | some (.bool b)=>b==want
   | _=>false
  | none=>false
noncomputable def opA (call:b8) (s:St) (o:Oper):Out:=
 match dY E s.ts o.op with
 | some v=> .ok .normal {s with ts:=gR s.ts o.dst v}
 | none=>match kF E s.ts s.h o.op with
  | some v=> .ok .normal {s with ts:=gR s.ts o.dst v}
  | none=>match jt E s.ts o.op with
   | some (obj,mk)=>match s.h.new obj with
    | some h'=> .ok .normal {s with ts:=gR s.ts o.dst (mk s.h.nx),h:=h'}
    | none=> .fail "full" (some o)
   | none=>match j4 E call s.ts s.h s.rc o with
    | .val v h'=> .ok .normal {s with ts:=gR s.ts o.dst v,h:=h'}
    | .defer d=> .ok .normal {s with ts:=gR s.ts o.dst AV.undef,ds:=d::s.ds}
    | .L8 v=> .ok .normal {s with ts:=gR s.ts o.dst v,rc:= .done}
    | .panic v h'=> .ok (.panic v) {s with h:=h'}
    | .fail yd q=> .fail yd q
noncomputable def EB (call:b8) (ops:Array Oper):List Oper→St→Out
 | [],s=> .ok .normal s
 | o::rest,s=>
  if fA ops s.ts o then match opA E call s o with
   | .ok .normal s'=>EB call ops rest s'
   | r=>r
  else EB call ops rest {s with ts:=gR s.ts o.dst AV.undef}
def kI:Op→Bool
 | .store .. | .mapUpdate .. | .insert .. | .mapEntry .. | .entryStore .. | .next .. | .panic _ | .defer _=>true
 | .convert _ dst _=>match E.P.underlying dst with
  | some (.slice _)=>true
  | _=>false
 | .call c=>match c.callee with
  | .builtin .len | .builtin .cap | .builtin .max | .builtin .min=>false
  | .builtin _=>true
  | .value (.func f)=>(E.HF f).isNone
  | _=>true
 | _=>false
def rU (o:Oper):List Nat:=(o.after.toList.filter (Region.binds .any)).map (·.on)
def amP:List Oper→List (List Nat)→List (List Nat)
 | [],acc=>acc
 | o::rest,acc=>amP rest (acc++[(rU o).foldl (fun l e=>(acc.getD e []).foldl (fun l x=>if l.contains x then l else x::l) (if l.contains e then l else e::l)) []])
def aay (an:List (List Nat)) (i:Nat):List Nat:=an.getD i []
def gS (an:List (List Nat)) (i j:Nat):Bool:=(aay an i).contains j
def tmpsOf (o:Oper):List Tmp:=o.op.operands.toList.filterMap fun | .tmp t=>some t | _=>none
def afw (ops:List Oper) (an:List (List Nat)):Bool:=
 ops.zipIdx.all fun (o,i)=>
  (rU o).all (fun e=>decide (e<i)&&gS an i e)&&
  (aay an i).all (fun j=>decide (j<i)&&(rU o).any fun e=>e==j||gS an e j)
def afx (ops:List Oper) (an:List (List Nat)):Bool:=
 ops.zipIdx.all fun (o,i)=>
  (match o.guard with
   | none=>true
   | some (g,_)=>gS an i g&&((ops[g]?).bind (·.dst)).isSome)&&
  (ops.zipIdx.all fun (p,j)=>i==j||match p.dst with
   | none=>true
   | some d=>o.dst !=some d&&(!(tmpsOf o).contains d||gS an i j||gS an j i))
def HG (an:List (List Nat)):List Nat→Bool
 | e::f::rest=>gS an f e&&HG an (f::rest)
 | _=>true
def Nx (ops:List Oper):List Nat:=(ops.zipIdx.filter fun (o,_)=>kI E o.op).map (·.2)
def aaz (ez:List Nat) (an:List (List Nat)) (i:Nat):Nat:=(ez.filter fun e=>gS an i e).length
def group (ops:List Oper) (ez:List Nat) (an:List (List Nat)) (k:Nat):List Nat:=
 ((ops.zipIdx.filter fun (o,i)=> !kI E o.op&&aaz ez an i==k).map (·.2))++(ez[k]?).toList
def Ig (ops:List Oper) (ez:List Nat) (an:List (List Nat)):Nat→Nat→List Nat
 | 0,_=> []
 | n+1,k=>group E ops ez an k++Ig ops ez an n (k+1)
def vT (ez:List Nat) (an:List (List Nat)) (i:Nat):Nat:=(ez.takeWhile fun e=> !gS an e i).length
structure G6 where
 an:List (List Nat)
 ez:List Nat
 order:List Nat
def vU (ops:Array Oper) (an:List (List Nat)) (ez:List Nat):List Nat→List Nat→Nat→Bool
 | [],seen,k=>(List.range ops.size).all (fun i=>seen.contains i)&&k==ez.length
 | i::rest,seen,k=>decide (i<ops.size)&& !seen.contains i&&(aay an i).all (fun j=>seen.contains j)&&
  (if kI E ((ops.getD i default).op) then ez[k]? ==some i&&vU ops an ez rest (i::seen) (k+1)
   else aaz ez an i==k&&vU ops an ez rest (i::seen) k)
def nodup:List Nat→Bool
 | []=>true
 | x::xs=> !xs.contains x&&nodup xs
def Ih (ops:Array Oper):Option G6:=
 let l:=ops.toList
 let an:=amP l []
 let ez:=Nx E l
 let order:=Ig E l ez an (ez.length+1) 0
 if afw l an&&afx l an&&HG an ez&&nodup ez&&vU E ops an ez order [] 0 then some ⟨an,ez,order⟩ else none
inductive TK where
 | off
 | pur
 | red
 | V8 (n:Nat) (obj:aN)
 | V9 (h':az)
structure Step where
 i:Nat
 k:Nat
 ts:List AV
 v:AV
 kind:TK
inductive rV where
 | ok (tr:List Step) (hs:List az) (s:St)
 | fail (yd:String) (o:Option Oper)
def rV.step (x:Step):rV→rV
 | .ok tr hs s=> .ok (x::tr) hs s
 | r=>r
def rV.bound (h:az):rV→rV
 | .ok tr hs s=> .ok tr (h::hs) s
 | r=>r
noncomputable def fY (call:b8) (ops:Array Oper):List Nat→Nat→St→rV
 | [],_,s=> .ok [] [s.h] s
 | i::rest,k,s=>match ops[i]? with
  | none=> .fail "order" none
  | some o=>
   if kI E o.op then
    if fA ops s.ts o then match j4 E call s.ts s.h s.rc o with
     | .val v h'=>((fY call ops rest (k+1) {s with ts:=gR s.ts o.dst v,h:=h'}).bound s.h).step ⟨i,k,s.ts,v,.V9 h'⟩
     | .fail yd q=> .fail yd q
     | _=> .fail "draw" (some o)
    else ((fY call ops rest (k+1) {s with ts:=gR s.ts o.dst AV.undef}).bound s.h).step ⟨i,k,s.ts,AV.undef,.off⟩
   else if fA ops s.ts o then match dY E s.ts o.op with
    | some v=>(fY call ops rest k {s with ts:=gR s.ts o.dst v}).step ⟨i,k,s.ts,v,.pur⟩
    | none=>match kF E s.ts s.h o.op with
     | some v=>(fY call ops rest k {s with ts:=gR s.ts o.dst v}).step ⟨i,k,s.ts,v,.red⟩
     | none=>match jt E s.ts o.op with
      | some (obj,mk)=>match s.h.new obj with
       | some h'=>(fY call ops rest k {s with ts:=gR s.ts o.dst (mk s.h.nx),h:=h'}).step ⟨i,k,s.ts,mk s.h.nx,.V8 s.h.nx obj⟩
       | none=> .fail "full" (some o)
      | none=> .fail "neither" (some o)
   else (fY call ops rest k {s with ts:=gR s.ts o.dst AV.undef}).step ⟨i,k,s.ts,AV.undef,.off⟩
def aN.same:aN→aN→Bool
 | .cells a e r,.cells b f q=>dR (AV.same 20) a b&&e==f&&r==q
 | .map [] c,.map [] d=>c==d
 | .xb s p,.xb t q=>s==t&&p==q
 | _,_=>false
noncomputable def vV (ops:Array Oper) (x:Step) (h:az):Bool:=match x.kind with
 | .red=>match kF E x.ts h (ops.getD x.i default).op with
  | some v=>AV.same 20 v x.v
  | none=>false
 | .V8 n obj=>match h.get n with
  | some o=>aN.same o obj
  | none=>false
 | _=>true
def Ny (tr:List Step):List Nat:=tr.filterMap fun x=>match x.kind with | .V8 n _=>some n | _=>none
noncomputable def EC (ops:Array Oper) (pl:G6) (tr:List Step) (hs:List az):Bool:=
 nodup (Ny tr)&&tr.all fun x=>((hs.drop x.k).take (vT pl.ez pl.an x.i+1 - x.k)).all (vV E ops x)
noncomputable def aaA (call:b8) (ops:Array Oper) (s:St) (pl:G6):Option (AV×St):=match pl.order.reverse with
 | []=>none
 | i::front=>match fY E call ops front.reverse 0 s,ops[i]? with
  | .ok tr hs s1,some ⟨dst,.call c,ty,pos,after,guard⟩=>
   if kI E (.call c)&&fA ops s1.ts ⟨dst,.call c,ty,pos,after,guard⟩&&(List.range ops.size).all (fun j=>j==i||gS pl.an i j) then
    match j4 E call s1.ts s1.h s1.rc ⟨dst,.call c,ty,pos,after,guard⟩ with
    | .panic v h'=>if EC E ops pl (tr++[⟨i,hs.length - 1,s1.ts,AV.undef,.V9 h'⟩]) (hs++[h']) then some (v,{s1 with h:=h'}) else none
    | _=>none
   else none
  | _,_=>none
noncomputable def L9 (call:b8) (ops:Array Oper) (s:St):Out:=match Ih E ops with
 | none=> .fail "plan" (ops[0]?)
 | some pl=>match fY E call ops pl.order 0 s with
  | .ok tr hs s'=>if EC E ops pl tr hs then .ok .normal s' else .fail "still" (ops[0]?)
  | .fail yd o=>match aaA E call ops s pl with
   | some (v,s2)=> .ok (.panic v) s2
   | none=> .fail yd o
noncomputable def aaB (s:St):Option (Nat×az×List Ae):=match s.rc with
 | .bar l=>match s.h.get l with
  | some (.loop _ _ _ _ _ _ dn)=>some (dn,s.h,s.ds)
  | _=>none
 | _=>match s.h.new .Qk with
  | some h1=>some (s.h.nx,h1,.col s.h.nx::s.ds)
  | none=>none
def V_:Option Code→Option oP
 | none=>some .normal
 | some (.exit id)=>some (.exit id)
 | some .ret=>some .ret
 | _=>none
noncomputable def To (call:b8) (f:Operand) (ps:Array Tmp) (as_ bd:Code) (s:St):Out:=match gn E s.ts f with
 | some (.func g first captured)=>match aaB s with
  | some (dn,h1,ds1)=>match h1.new (.loop .ready none s.ts ps.toList as_ bd dn) with
   | some h2=>match call (.fn g) (first++[.Ey h1.nx]++captured) h2 with
    | .ret _ h3=>match h3.get h1.nx with
     | some (.loop .busy ..)=> .fail "range busy" none
     | some (.loop _ mJ pQ xM Ce bd' dn')=>match V_ mJ with
      | some e=> .ok e {s with h:=h3.put h1.nx (some (.loop .exhausted mJ pQ xM Ce bd' dn')),ds:=ds1}
      | none=> .fail "range jump" none
     | _=> .fail "range loop" none
    | .panic v h3=> .ok (.panic v) {s with h:=h3,ds:=ds1}
    | .fail yd q=> .fail yd q
   | none=> .fail "full" none
  | none=> .fail "range open" none
 | _=> .fail "range function" none
noncomputable def exec (call:b8):Nat→Code→St→Out
 | 0,_,_=> .fail "fuel" none
 | n+1,c,s=>match c with
  | .skip=> .ok .normal s
  | .label _=> .ok .normal s
  | .ret=> .ok .ret s
  | .exit id=> .ok (.exit id) s
  | .seq a b=>match exec call n a s with
   | .ok .normal s'=>exec call n b s'
   | r=>r
  | .cond x a b=>match gn E s.ts x with
   | some (.bool true)=>exec call n a s
   | some (.bool false)=>exec call n b s
   | _=> .fail "cond" none
  | .block id b=>match exec call n b s with
   | .ok (.exit id') s'=>if id'=id then .ok .normal s' else .ok (.exit id') s'
   | r=>r
  | .loop b=>match exec call n b s with
   | .ok .normal s'=>exec call n (.loop b) s'
   | r=>r
  | .region _ ops draw=>if draw then L9 E call ops s else EB E call ops ops.toList s
  | .rangeFunc f ps as_ bd=>To E call f ps as_ bd s
  | .scope b=>exec call n b s
  | _=> .fail "code" none
noncomputable def xN (h:az) (ts:List AV):List ResultVar→Option (List AV)
 | []=>some []
 | r::rest=>match (match r with
  | .tmp t=>some (ts.getD t AV.undef)
  | .cell a t=>cX E h t (ts.getD a AV.undef)) with
  | none=>none
  | some v=>match xN h ts rest with
   | none=>none
   | some vs=>some (v::vs)
def vW:List AV→AV
 | [v]=>v
 | vs=> .tuple vs
noncomputable def kM (rJ:FuncId→List AV→az→RC→Option (az×RC)):List Ae→Option AV→az→Option (Option AV×az)
 | [],p,h=>some (p,h)
 | .col r::ds,p,h=>match h.get r with
  | some .Qk=>kM rJ ds p (h.put r none)
  | _=>none
 | .call f args::ds,none,h=>match rJ f args h .no with
  | some (h',_)=>kM rJ ds none h'
  | none=>none
 | .call f args::ds,some v,h=>match rJ f args h (.mJ v) with
  | some (h',.mJ _)=>kM rJ ds (some v) h'
  | some (h',.done)=>kM rJ ds none h'
  | _=>none
noncomputable def Ii (call:b8) (fuel:Nat) (fn:Func) (b:Code) (args:List AV) (h:az) (rc:RC):Out:=
 exec E call fuel b {ts:=args++List.replicate (fn.ntmps - args.length) AV.undef,h,ds:=[],rc}
noncomputable def Qm (l:Nat) (jump:Option Code) (s:St):A6:=match s.h.get l with
 | some (.loop _ _ ts ps as_ bd dn)=> .ret (.bool jump.isNone) (s.h.put l (some (.loop (if jump.isNone then .ready else .done) jump ts ps as_ bd dn)))
 | _=> .fail "round end" none
noncomputable def ED (call:b8) (fuel:Nat) (l:Nat) (args:List AV) (h:az):A6:=match h.get l with
 | some (.loop _ _ ts ps as_ bd _)=>if args.length=ps.length then
  match exec E call fuel as_ {ts:=(ps.zip args).foldl (fun ts x=>ts.set x.1 x.2) ts,h,ds:=[],rc:= .bar l} with
  | .ok .normal s1=>match s1.h.get l with
   | some (.loop .ready pd ts2 ps2 as2 bd2 dn2)=>
    match exec E call fuel bd {s1 with h:=s1.h.put l (some (.loop .busy pd ts2 ps2 as2 bd2 dn2))} with
    | .ok .normal s2=>Qm l none s2
    | .ok .ret s2=>Qm l (some .ret) s2
    | .ok (.exit id) s2=>Qm l (some (.exit id)) s2
    | .ok (.panic v) s2=>if s2.ds.isEmpty then .panic v s2.h else .fail "round defers" none
    | .fail yd q=> .fail yd q
   | _=> .fail "round state" none
  | .ok _ _=> .fail "round assign" none
  | .fail yd q=> .fail yd q
  else .fail "round args" none
 | _=> .fail "round" none
end Go.Ab
end
section
namespace Go.Ab
structure Loc where
 fB:Nat
 off:Nat
 lr:Nat
abbrev Ph:=Nat→Option Loc
def Ph.le (φ φ':Ph):Prop:=∀i l,φ i=some l→φ' i=some l
theorem Ph.le_refl (φ:Ph):φ.le φ:=fun _ _ h=>h
theorem Ph.le_trans {a b c:Ph} (h:a.le b) (h':b.le c):a.le c:=fun i l e=>h' i l (h i l e)
def jQ (op:Bool) (cap lr:Nat):Nat:=if op then cap+lr else cap
def amQ:Value→Bool
 | .agg _ | .tuple _ | .float .. | .complex .. | .bool _=>false
 | _=>true
inductive VR (φ:Ph):AV→Value→Prop
 | bool (b:Bool):VR φ (.bool b) (.bool b)
 | int (k:IntKind) (n:Int):VR φ (.int k n) (.int k n)
 | str (s:ByteArray):VR φ (.str s.data.toList) (.string s)
 | jq:VR φ .jq (.pointer none)
 | ptr {i:Nat} {l:Loc} (o:Nat) (h:φ i=some l):VR φ (.ptr i o) (.pointer (some ⟨l.fB,l.off+o,none⟩))
 | aw:VR φ .aw (.slice none 0 0)
 | slice {i:Nat} {l:Loc} (o len cap:Nat) (op:Bool) (h:φ i=some l):VR φ (.slice i o len cap op) (.slice (some ⟨l.fB,l.off+o,none⟩) len (jQ op cap l.lr))
 | fJ (a:Addr) (cap:Nat):VR φ .fJ (.slice (some a) 0 cap)
 | gI:VR φ .gI (.map none)
 | map {i:Nat} {l:Loc} (h:φ i=some l):VR φ (.map i) (.map (some l.fB))
 | func (f:FuncId) (a b:List AV) (a' b':Array Value) (la:a.length=a'.size) (lb:b.length=b'.size)
  (ha:∀(i:Nat) (x:AV) (y:Value),a[i]? =some x→a'[i]? =some y→VR φ x y) (hb:∀(i:Nat) (x:AV) (y:Value),b[i]? =some x→b'[i]? =some y→VR φ x y):
  VR φ (.func f a b) (.func (.func f) a' b')
 | nilFunc:VR φ .nilFunc .nilFunc
 | yield {i:Nat} {l:Loc} (h:φ i=some l):VR φ (.Ey i) (.func (.yield l.fB) #[] #[])
 | iface (t:TypeId) (v:AV) (v':Value) (h:VR φ v v'):VR φ (.iface t v) (.iface t v')
 | nilIface:VR φ .nilIface .nilIface
 | agg (cs:List AV) (lj:Array Value) (hl:cs.length=lj.size) (h:∀(i:Nat) (x:AV) (y:Value),cs[i]? =some x→lj[i]? =some y→VR φ x y):VR φ (.agg cs) (.agg lj)
 | tuple (cs:List AV) (lj:Array Value) (hl:cs.length=lj.size) (h:∀(i:Nat) (x:AV) (y:Value),cs[i]? =some x→lj[i]? =some y→VR φ x y):VR φ (.tuple cs) (.tuple lj)
 | any (v:Value) (h:amQ v=true):VR φ .any v
theorem VR.mono {φ φ':Ph} (hle:φ.le φ') {v:AV} {v':Value} (h:VR φ v v'):VR φ' v v':=by
 induction h with
 | bool b=>exact .bool b
 | int k n=>exact .int k n
 | str s=>exact .str s
 | jq=>exact .jq
 | ptr o h=>exact .ptr o (hle _ _ h)
 | aw=>exact .aw
 | slice o len cap op h=>exact .slice o len cap op (hle _ _ h)
 | fJ a cap=>exact .fJ a cap
 | gI=>exact .gI
 | map h=>exact .map (hle _ _ h)
 | func f a b a' b' la lb _ _ iha ihb=>exact .func f a b a' b' la lb iha ihb
 | nilFunc=>exact .nilFunc
 | yield h=>exact .yield (hle _ _ h)
 | iface t v v' _ ih=>exact .iface t v v' ih
 | nilIface=>exact .nilIface
 | agg cs lj hl _ ih=>exact .agg cs lj hl ih
 | tuple cs lj hl _ ih=>exact .tuple cs lj hl ih
 | any v h=>exact .any v h
def LR (φ:Ph) (xs:List AV) (ys:List Value):Prop:=xs.length=ys.length∧∀(i:Nat) (x:AV) (y:Value),xs[i]? =some x→ys[i]? =some y→VR φ x y
theorem LR.mono {φ φ':Ph} (hle:φ.le φ') {xs:List AV} {ys:List Value} (h:LR φ xs ys):LR φ' xs ys:=⟨h.1,fun i x y a b=>(h.2 i x y a b).mono hle⟩
theorem LR.nil (φ:Ph):LR φ [] []:=⟨rfl,fun i x y a _=>by simp at a⟩
theorem LR.cons {φ:Ph} {x:AV} {y:Value} {xs:List AV} {ys:List Value} (h:VR φ x y) (hs:LR φ xs ys):LR φ (x::xs) (y::ys):=by
 refine ⟨by simp [hs.1],fun i a b ha hb=>?_⟩
 cases i with
 | zero=>simp at ha hb;subst ha;subst hb;exact h
 | succ i=>simp at ha hb;exact hs.2 i a b ha hb
theorem LR.dp {φ:Ph} {x:AV} {xs:List AV} {ys:List Value} (h:LR φ (x::xs) ys):∃y Ep,ys=y::Ep∧VR φ x y∧LR φ xs Ep:=by
 obtain ⟨hl,hv⟩:=h
 cases ys with
 | nil=>simp at hl
 | cons y ys=>
  refine ⟨y,ys,rfl,hv 0 x y (by simp) (by simp),by simpa using hl,fun i a b ha hb=>hv (i+1) a b (by simpa using ha) (by simpa using hb)⟩
theorem LR.jJ {φ:Ph} {ys:List Value} (h:LR φ [] ys):ys=[]:=by
 cases ys with
 | nil=>rfl
 | cons y ys=>simp [LR] at h
theorem LR.append {φ:Ph} {xs HI:List AV} {ys Ep:List Value} (h:LR φ xs ys) (h':LR φ HI Ep):LR φ (xs++HI) (ys++Ep):=by
 refine ⟨by simp [h.1,h'.1],fun i a b ha hb=>?_⟩
 by_cases hi:i<xs.length
 · rw[List.getElem?_append_left hi] at ha
   rw[List.getElem?_append_left (by rw[←h.1];exact hi)] at hb
   exact h.2 i a b ha hb
 · rw[List.getElem?_append_right (by omega)] at ha
   rw[List.getElem?_append_right (by rw[←h.1];omega)] at hb
   exact h'.2 _ a b ha (by rw[h.1];exact hb)
theorem LR.drop {φ:Ph} {xs:List AV} {ys:List Value} (h:LR φ xs ys) (n:Nat):LR φ (xs.drop n) (ys.drop n):=
 ⟨by simp [h.1],fun i a b ha hb=>h.2 (n+i) a b (by simpa using ha) (by simpa using hb)⟩
theorem LR.take {φ:Ph} {xs:List AV} {ys:List Value} (h:LR φ xs ys) (n:Nat):LR φ (xs.take n) (ys.take n):=by
 refine ⟨by simp [h.1],fun i a b ha hb=>?_⟩
 rw[List.getElem?_take] at ha hb
 by_cases hi:i<n
 · simp only[hi,if_true] at ha hb;exact h.2 i a b ha hb
 · simp [hi] at ha
theorem LR.set {φ:Ph} {xs:List AV} {ys:List Value} (h:LR φ xs ys) {x:AV} {y:Value} (hx:VR φ x y) (n:Nat):LR φ (xs.set n x) (ys.set n y):=by
 refine ⟨by simp [h.1],fun i a b ha hb=>?_⟩
 rw[List.getElem?_set] at ha hb
 by_cases hi:n=i
 · subst hi
   by_cases hl:n<xs.length
   · simp only[if_true,hl] at ha
     simp only[if_true,←h.1,hl] at hb
     simp at ha hb;subst ha;subst hb;exact hx
   · simp [hl] at ha
 · simp only[hi,if_false] at ha hb;exact h.2 i a b ha hb
theorem LR.replicate {φ:Ph} {x:AV} {y:Value} (h:VR φ x y) (n:Nat):LR φ (List.replicate n x) (List.replicate n y):=by
 refine ⟨by simp,fun i a b ha hb=>?_⟩
 rw[List.getElem?_replicate] at ha hb
 by_cases hi:i<n
 · simp [hi] at ha hb;subst ha;subst hb;exact h
 · simp [hi] at ha
theorem LR.get {φ:Ph} {xs:List AV} {ys:List Value} (h:LR φ xs ys) {i:Nat} {x:AV} (hx:xs[i]? =some x):∃y,ys[i]? =some y∧VR φ x y:=by
 have hi:i<xs.length:=(List.getElem?_eq_some_iff.1 hx).1
 have:i<ys.length:=by rw[←h.1];exact hi
 exact ⟨ys[i],by simp [this],h.2 i x _ hx (by simp [this])⟩
theorem LR.getD {φ:Ph} {xs:List AV} {ys:List Value} (h:LR φ xs ys) {d:AV} {d':Value} (hd:VR φ d d') (i:Nat):VR φ (xs.getD i d) (ys.getD i d'):=by
 by_cases hi:i<xs.length
 · have:i<ys.length:=by rw[←h.1];exact hi
   have e:=h.2 i xs[i] ys[i] (by simp [hi]) (by simp [this])
   simpa [List.getD,hi,this] using e
 · have:¬i<ys.length:=by rw[←h.1];exact hi
   simpa [List.getD,hi,this] using hd
theorem VR.undef (φ:Ph):VR φ AV.undef undef:= .tuple [] #[] rfl (fun i x y a _=>by simp at a)
theorem VR.Yf {φ:Ph} {cs:List AV} {lj:List Value} (h:LR φ cs lj):VR φ (.agg cs) (.agg lj.toArray):= .agg cs _ (by simp [h.1]) (fun i x y a b=>h.2 i x y a (by simpa using b))
theorem VR.tuple' {φ:Ph} {cs:List AV} {lj:List Value} (h:LR φ cs lj):VR φ (.tuple cs) (.tuple lj.toArray):= .tuple cs _ (by simp [h.1]) (fun i x y a b=>h.2 i x y a (by simpa using b))
theorem VR.mK {φ:Ph} {cs:List AV} {v:Value} (h:VR φ (.agg cs) v):∃lj:Array Value,v= .agg lj∧LR φ cs lj.toList:=by
 cases h with
 | agg _ lj hl h=>exact ⟨lj,rfl,by simpa using hl,fun i x y a b=>h i x y a (by simpa using b)⟩
theorem VR.L_ {φ:Ph} {cs:List AV} {v:Value} (h:VR φ (.tuple cs) v):∃lj:Array Value,v= .tuple lj∧LR φ cs lj.toList:=by
 cases h with
 | tuple _ lj hl h=>exact ⟨lj,rfl,by simpa using hl,fun i x y a b=>h i x y a (by simpa using b)⟩
theorem VR.Cm {φ:Ph} {f:FuncId} {a b:List AV} {v:Value} (h:VR φ (.func f a b) v):∃a' b':Array Value,v= .func (.func f) a' b'∧LR φ a a'.toList∧LR φ b b'.toList:=by
 cases h with
 | func _ _ _ a' b' la lb ha hb=>exact ⟨a',b',rfl,⟨by simpa using la,fun i x y p q=>ha i x y p (by simpa using q)⟩,⟨by simpa using lb,fun i x y p q=>hb i x y p (by simpa using q)⟩⟩
theorem VR.aaC {φ:Ph} (f:FuncId) {a b:List AV} {a' b':List Value} (ha:LR φ a a') (hb:LR φ b b'):VR φ (.func f a b) (.func (.func f) a'.toArray b'.toArray):=
 .func f a b _ _ (by simp [ha.1]) (by simp [hb.1]) (fun i x y p q=>ha.2 i x y p (by simpa using q)) (fun i x y p q=>hb.2 i x y p (by simpa using q))
theorem VR.cells {φ:Ph} {v:AV} {v':Value} (h:VR φ v v'):LR φ v.cells v'.cells.toList:=by
 cases h with
 | agg cs lj hl h=>exact ⟨by simpa [AV.cells,Value.cells] using hl,fun i x y a b=>h i x y a (by simpa [Value.cells] using b)⟩
 | bool b=>exact .cons (.bool b) (.nil φ)
 | int k n=>exact .cons (.int k n) (.nil φ)
 | str s=>exact .cons (.str s) (.nil φ)
 | jq=>exact .cons .jq (.nil φ)
 | ptr o h=>exact .cons (.ptr o h) (.nil φ)
 | aw=>exact .cons .aw (.nil φ)
 | slice o len cap op h=>exact .cons (.slice o len cap op h) (.nil φ)
 | fJ a cap=>exact .cons (.fJ a cap) (.nil φ)
 | gI=>exact .cons .gI (.nil φ)
 | map h=>exact .cons (.map h) (.nil φ)
 | func f a b a' b' la lb ha hb=>exact .cons (.func f a b a' b' la lb ha hb) (.nil φ)
 | nilFunc=>exact .cons .nilFunc (.nil φ)
 | yield h=>exact .cons (.yield h) (.nil φ)
 | iface t v v' h=>exact .cons (.iface t v v' h) (.nil φ)
 | nilIface=>exact .cons .nilIface (.nil φ)
 | tuple cs lj hl h=>exact .cons (.tuple cs lj hl h) (.nil φ)
 | any _ h=>
  have e:v'.cells= #[v']:=by cases v'<;>first | rfl | cases h
  rw[e]
  exact .cons (.any v' h) (.nil φ)
theorem VR.scalar {φ:Ph} {v:AV} {v':Value} (h:VR φ v v') (hs:v.scalar=true):v'.oneCell'=true:=by
 cases h with
 | any _ h=>cases v'<;>first | rfl | cases h
 | _=>simp_all [AV.scalar,Value.oneCell']
theorem yf {α β:Type} {f:α→Option β}:∀{l:List α} {r:List β},iX f l=some r→l.length=r.length∧∀(i:Nat) (x:α),l[i]? =some x→∃y,r[i]? =some y∧f x=some y
 | [],r,h=>by simp [iX] at h;subst h;simp
 | x::xs,r,h=>by
  simp only[iX] at h
  cases hx:f x with
  | none=>simp [hx] at h
  | some y=>
   simp only[hx] at h
   cases hs:iX f xs with
   | none=>simp [hs] at h
   | some ys=>
    simp only[hs,Option.some.injEq] at h
    subst h
    obtain ⟨hl,hv⟩:=yf hs
    refine ⟨by simp [hl],fun i z hz=>?_⟩
    cases i with
    | zero=>simp at hz;subst hz;exact ⟨y,by simp,hx⟩
    | succ i=>simp at hz;simpa using hv i z hz
theorem yg (φ:Ph) {v:Value} {x:AV} (h:nE v=some x):VR φ x v:=by
 unfold nE at h
 split at h<;>simp at h<;>subst h
 · exact .bool _
 · exact .int _ _
 · exact .str _
 · exact .jq
 · exact .aw
 · exact .gI
 · exact .nilFunc
 · exact .nilIface
theorem Cn (φ:Ph) {l:List Value} {r:List AV} (h:iX nE l=some r):LR φ r l:=by
 obtain ⟨hl,hv⟩:=yf h
 refine ⟨hl.symm,fun i x y hx hy=>?_⟩
 obtain ⟨z,hz,hf⟩:=hv i y hy
 rw[hx] at hz;simp at hz;subst hz
 exact yg φ hf
theorem Ij (φ:Ph) {v:Value} {x:AV} (h:ofConst v=some x):VR φ x v:=by
 unfold ofConst at h
 split at h
 · rename_i cs
   cases hm:iX nE cs.toList with
   | none=>simp [hm] at h
   | some l=>simp [hm] at h;subst h;have:=VR.Yf (Cn φ hm);simpa using this
 · rename_i cs
   cases hm:iX nE cs.toList with
   | none=>simp [hm] at h
   | some l=>simp [hm] at h;subst h;have:=VR.tuple' (Cn φ hm);simpa using this
 · rename_i t v
   cases hm:nE v with
   | none=>simp [hm] at h
   | some l=>simp [hm] at h;subst h;exact .iface _ _ _ (yg φ hm)
 · exact yg φ h
variable (E:Env)
structure ER (φ:Ph) (e:kO) (e':MapEntry):Prop where
 key:VR φ e.key e'.key
 val:VR φ e.val e'.val
 born:e.born=e'.born
def Qo (φ:Ph) (es:List kO) (jO:List MapEntry):Prop:=es.length=jO.length∧∀(i:Nat) (x:kO) (y:MapEntry),es[i]? =some x→jO[i]? =some y→ER φ x y
def aN.rw:aN→Bool
 | .cells _ _ ro=> !ro
 | _=>true
def iJ (l:Loc) (e:TypeId):Nat:=l.lr*(dm E e).getD 0
structure CR (φ:Ph) (cs:List AV) (e:TypeId) (ro:Bool) (l:Loc) (C:Array Value) (lo hi:Nat):Prop where
 size:l.off+cs.length+iJ E l e≤C.size
 val:∀(k:Nat) (x:AV),cs[k]? =some x→∃y,C[l.off+k]? =some y∧VR φ x y
 free:ro=false→∀k,l.off≤k→k<l.off+cs.length+iJ E l e→¬(lo≤k∧k<hi)
 zero:ro=true→∀m,cs=[.map m]→l.off=0
structure CS (φ:Ph) (cs:List AV) (e:TypeId) (ro:Bool) (l:Loc) (C:Array Value) (e':TypeId) (lo hi:Nat):Prop extends CR E φ cs e ro l C lo hi where
 shape:ro=false→e'=e∧l.off=0∧(∀fs,E.P.underlying e=some (.struct fs)→jT E e=none→C.size=cs.length)
theorem zD {t:TypeId} {n:Nat} (h:jT E t=some n):(E.P.info? t).map (·.bytes)=some n:=by
 unfold jT at h;split at h
 · cases h
 · exact h
structure V' (φ:Ph) (st:LoopState) (mJ:Option Code) (ts:List AV) (ps:List Tmp) (as_ bd:Code) (dn:Nat) (r:Loop):Prop where
 state:r.state=st
 pending:r.pending=mJ
 tmps:LR φ ts r.tmps.toList
 params:r.params.toList=ps
 assign:r.assign=as_
 body:r.body=bd
 defers:∃ld,φ dn=some ld∧r.defers=ld.fB
 fn:(E.P.funcs[r.fn]?).isSome=true
theorem V'.mono {E:Env} {φ φ':Ph} (hle:φ.le φ') {st:LoopState} {mJ:Option Code} {ts:List AV} {ps:List Tmp} {as_ bd:Code} {dn:Nat} {r:Loop} (h:V' E φ st mJ ts ps as_ bd dn r):V' E φ' st mJ ts ps as_ bd dn r:=
 ⟨h.state,h.pending,h.tmps.mono hle,h.params,h.assign,h.body,let ⟨l,a,b⟩:=h.defers;⟨l,hle _ _ a,b⟩,h.fn⟩
def OR (φ:Ph):aN→Loc→Option Obj→Prop
 | .cells cs e ro,l,o=>∃C e' lo hi,o=some (.cells C e' (lo,hi))∧CS E φ cs e ro l C e' lo hi
 | .map es clock,l,o=>l.off=0∧∃jO,o=some (.map jO clock)∧Qo φ es jO.toList
 | .xb s pos,l,o=>l.off=0∧∃s':ByteArray,o=some (.stringIter s' pos)∧s'.data.toList=s
 | .x9 none since seen vS,l,o=>l.off=0∧o=some (.mapIter none since seen.toArray vS)
 | .x9 (some m) since seen vS,l,o=>l.off=0∧∃lm,φ m=some lm∧o=some (.mapIter (some lm.fB) since seen.toArray vS)
 | .loop st mJ ts ps as_ bd dn,l,o=>l.off=0∧∃r,o=some (.loop r)∧V' E φ st mJ ts ps as_ bd dn r
 | .Qk,l,o=>l.off=0∧o=some (.deferred (some []))
theorem OR.absurd {E:Env} {φ:Ph} {o:aN} {l:Loc} (h:OR E φ o l none):False:=by
 cases o with
 | cells cs e ro=>obtain ⟨C,e',lo,hi,hx,hc⟩:=h;simp at hx
 | map es clock=>obtain ⟨h0,jO,hx,hl,hv⟩:=h;simp at hx
 | xb s pos=>obtain ⟨h0,s',hx,_⟩:=h;simp at hx
 | x9 m since seen vS=>
  cases m with
  | none=>obtain ⟨h0,hx⟩:=h;simp at hx
  | some m=>obtain ⟨h0,lm,hm,hx⟩:=h;simp at hx
 | loop=>obtain ⟨h0,r,hx,_⟩:=h;simp at hx
 | Qk=>obtain ⟨h0,hx⟩:=h;simp at hx
structure OK (φ:Ph) (h:az) (w:World):Prop where
 EF:∀i l,φ i=some l→i<h.nx
 nx:E.G≤h.nx
 yh:∀g,g<E.G→φ g=some ⟨g,0,0⟩
 live:∀i o l,h.get i=some o→φ i=some l→OR E φ o l w.heap[l.fB]?
 inj:∀i j o p l m,h.get i=some o→h.get j=some p→φ i=some l→φ j=some m→(o.rw=true∨p.rw=true)→l.fB=m.fB→i=j
structure Fr (φ:Ph) (h:az) (w:World) (φ':Ph) (h':az) (w':World):Prop where
 ext:φ.le φ'
 old:∀i,i<h.nx→φ' i=φ i
 nx:h.nx≤h'.nx
 os:w'.os=w.os
 tape:w'.tape=w.tape
 output:w'.output=w.output
 size:w.heap.size≤w'.heap.size
 G7:∀b,b<w.heap.size→(∀i o l,h.get i=some o→o.rw=true→φ i=some l→l.fB≠b)→w'.heap[b]? =w.heap[b]?
 own:∀i o l,h'.get i=some o→o.rw=true→φ' i=some l→w.heap.size≤l.fB∨∃j p m,h.get j=some p∧p.rw=true∧φ j=some m∧m.fB=l.fB
theorem Fr.refl (φ:Ph) (h:az) (w:World):Fr φ h w φ h w where
 ext:=Ph.le_refl φ
 old _ _:=rfl
 nx:=Nat.le_refl _
 os:=rfl
 tape:=rfl
 output:=rfl
 size:=Nat.le_refl _
 G7 _ _ _:=rfl
 own i o l a b c:= .inr ⟨i,o,l,a,b,c,rfl⟩
theorem Fr.trans {φ₁ φ₂ φ₃:Ph} {h₁ h₂ h₃:az} {w₁ w₂ w₃:World} (a:Fr φ₁ h₁ w₁ φ₂ h₂ w₂) (b:Fr φ₂ h₂ w₂ φ₃ h₃ w₃):Fr φ₁ h₁ w₁ φ₃ h₃ w₃ where
 ext:=Ph.le_trans a.ext b.ext
 old i hi:=(b.old i (Nat.lt_of_lt_of_le hi a.nx)).trans (a.old i hi)
 nx:=Nat.le_trans a.nx b.nx
 os:=b.os.trans a.os
 tape:=b.tape.trans a.tape
 output:=b.output.trans a.output
 size:=Nat.le_trans a.size b.size
 G7 x hx hn:=by
  rw[b.G7 x (Nat.lt_of_lt_of_le hx a.size) ?_,a.G7 x hx hn]
  intro i o l hg hr hp he
  rcases a.own i o l hg hr hp with h | ⟨j,p,m,q1,q2,q3,q4⟩
  · omega
  · exact hn j p m q1 q2 q3 (q4.trans he)
 own i o l hg hr hp:=by
  rcases b.own i o l hg hr hp with h | ⟨j,p,m,q1,q2,q3,q4⟩
  · exact .inl (Nat.le_trans a.size h)
  · rcases a.own j p m q1 q2 q3 with h | ⟨j',p',m',r1,r2,r3,r4⟩
    · exact .inl (q4▸h)
    · exact .inr ⟨j',p',m',r1,r2,r3,r4.trans q4⟩
theorem Tp {a b:Nat} (h:a≠b):Nat.beq a b=false:=by
 cases e:Nat.beq a b
 · rfl
 · exact absurd (Nat.eq_of_beq_eq_true e) h
theorem vX {a b:Nat} (h:b<a):Nat.ble a b=false:=by
 rw[Bool.eq_false_iff];intro e;have:=Nat.le_of_ble_eq_true e;omega
theorem EG (q:Nat) (t:HT):(Yd q).get t=sel (q%8) (sel (q/8%8) (sel (q/64) t)):=by
 simp only[Yd,V3,V4];rfl
theorem aaD (q:Nat) (f:H3→H3) (t:HT):(Yd q).upd f t=epd (q/64) (epd (q/8%8) (epd (q%8) f)) t:=by
 simp only[Yd,V3,V4];rfl
theorem Ik (q:Nat) (t:H3):(loP q).get t=sel (q%8) (sel (q/8%8) (sel (q/64) t)):=by
 simp only[loP,V3,V4];rfl
theorem aaE (q:Nat) (o:Option aN) (t:H3):(loP q).upd o t=epd (q/64) (epd (q/8%8) (epd (q%8) fun _=>o)) t:=by
 simp only[loP,V3,V4];rfl
theorem Il {i:Nat} (hi:i<262144) (t:HT):(hp i).get t=(loP (i%512)).get ((Yd (i/512)).get t):=by
 unfold hp
 rw[vX hi,Ci,Ci];rfl
theorem aaF {i:Nat} (hi:i<262144) (o:Option aN) (t:HT):(hp i).put o t=(Yd (i/512)).upd ((loP (i%512)).upd o) t:=by
 unfold hp
 rw[vX hi,Ci,Ci];rfl
theorem afy (q:Nat) (o:Option aN) (t:H3):(loP q).get ((loP q).upd o t)=o:=by
 rw[Ik,aaE,hF,hF,hF]
theorem aaG {q p:Nat} (hq:q<512) (hp:p<512) (h:q≠p) (o:Option aN) (t:H3):(loP p).get ((loP q).upd o t)=(loP p).get t:=by
 rw[Ik,Ik,aaE]
 by_cases h1:q/64=p/64
 · rw[h1,hF]
   by_cases h2:q/8%8=p/8%8
   · rw[h2,hF,lS (by omega) (by omega) (by omega)]
   · rw[lS (by omega) (by omega) h2]
 · rw[lS (by omega) (by omega) h1]
theorem Wa (q:Nat) (f:H3→H3) (t:HT):(Yd q).get ((Yd q).upd f t)=f ((Yd q).get t):=by
 rw[EG,EG,aaD,hF,hF,hF]
theorem aaH {q p:Nat} (hq:q<512) (hp:p<512) (h:q≠p) (f:H3→H3) (t:HT):(Yd p).get ((Yd q).upd f t)=(Yd p).get t:=by
 rw[EG,EG,aaD]
 by_cases h1:q/64=p/64
 · rw[h1,hF]
   by_cases h2:q/8%8=p/8%8
   · rw[h2,hF,lS (by omega) (by omega) (by omega)]
   · rw[lS (by omega) (by omega) h2]
 · rw[lS (by omega) (by omega) h1]
theorem afz {i:Nat} (hi:i<262144) (o:Option aN) (t:HT):(hp i).get ((hp i).put o t)=o:=by
 rw[Il hi,aaF hi,Wa,afy]
theorem aaI {i j:Nat} (hi:i<262144) (hj:j<262144) (h:i≠j) (o:Option aN) (t:HT):(hp j).get ((hp i).put o t)=(hp j).get t:=by
 rw[Il hj,Il hj,aaF hi]
 by_cases h1:i/512=j/512
 · rw[h1,Wa,aaG (by omega) (by omega) (by omega)]
 · rw[aaH (by omega) (by omega) h1]
theorem Ma {a b:Nat} (h:¬b<a):Nat.ble a b=true:=Nat.ble_eq_true_of_le (by omega)
theorem az.A7 {h:az} {i:Nat} (hi:i<262144):h.get i=(hp i).get h.t:=by
 unfold az.get;rw[vX hi];rfl
theorem az.vY {h:az} {i:Nat} (hi:¬i<262144):h.get i=h.f i:=by
 unfold az.get;rw[Ma hi];rfl
theorem az.aaJ {h:az} {i:Nat} (hi:i<262144) (o:Option aN):h.put i o=⟨(hp i).put o h.t,h.nx,h.f⟩:=by
 unfold az.put;rw[vX hi];rfl
theorem az.Wb {h:az} {i:Nat} (hi:¬i<262144) (o:Option aN):h.put i o=⟨h.t,h.nx,Ti h.f i o⟩:=by
 unfold az.put;rw[Ma hi];rfl
theorem az.aaK (h:az) (i:Nat) (o:Option aN):(h.put i o).nx=h.nx:=rfl
theorem Yg (f:Nat→Option aN) (i:Nat) (o:Option aN):Ti f i o i=o:=by
 unfold Ti;rw[Nat.beq_refl];rfl
theorem Tq (f:Nat→Option aN) {i j:Nat} (h:i≠j) (o:Option aN):Ti f i o j=f j:=by
 unfold Ti;rw[Tp (Ne.symm h)];rfl
theorem az.cY {h:az} {i:Nat} (o:Option aN):(h.put i o).get i=o:=by
 by_cases hi:i<262144
 · rw[az.aaJ hi,az.A7 hi];exact afz hi o h.t
 · rw[az.Wb hi,az.vY hi];exact Yg _ _ _
theorem az.bQ {h:az} {i j:Nat} (gX:i≠j) (o:Option aN):(h.put i o).get j=h.get j:=by
 by_cases hi:i<262144
 · rw[az.aaJ hi]
   by_cases hj:j<262144
   · rw[az.A7 hj,az.A7 hj];exact aaI hi hj gX o h.t
   · rw[az.vY hj,az.vY hj]
 · rw[az.Wb hi]
   by_cases hj:j<262144
   · rw[az.A7 hj,az.A7 hj]
   · rw[az.vY hj,az.vY hj];exact Tq _ gX _
theorem az.Nz (h:az) (o:aN):h.new o=some ⟨(h.put h.nx (some o)).t,h.nx+1,(h.put h.nx (some o)).f⟩:=rfl
theorem az.oW {h h':az} {o:aN} (e:h.new o=some h'):True∧h'.nx=h.nx+1∧h'.get h.nx=some o∧∀j,j≠h.nx→h'.get j=h.get j:=by
 rw[az.Nz] at e
 cases e
 exact ⟨trivial,rfl,az.cY (h:=h) (some o),fun j gX=>az.bQ (h:=h) (Ne.symm gX) (some o)⟩
end Go.Ab
end
section
namespace Go.Ab
variable {E:Env}
def nj (C:Array Value):Nat→List Value→Array Value
 | _,[]=>C
 | o,v::vs=>nj (C.setIfInBounds o v) (o+1) vs
theorem tK:∀(vs:List Value) (C:Array Value) (o:Nat),(nj C o vs).size=C.size
 | [],_,_=>rfl
 | v::vs,C,o=>by simp [nj,tK vs]
theorem A8:∀(vs:List Value) (C:Array Value) (o k:Nat),(nj C o vs)[k]? =if o≤k∧k<o+vs.length∧k<C.size then vs[k - o]? else C[k]?
 | [],C,o,k=>by simp [nj];omega
 | v::vs,C,o,k=>by
  rw[nj,A8 vs]
  simp only[Array.size_setIfInBounds,List.length_cons,Array.getElem?_setIfInBounds]
  by_cases h1:o=k
  · subst h1
    by_cases h2:o<C.size
    · rw[if_neg (by omega)];simp [h2]
    · rw[if_neg (by omega)];simp [h2]
  · by_cases h2:o+1≤k∧k<o+1+vs.length∧k<C.size
    · rw[if_pos h2,if_pos (by omega)]
      obtain ⟨m,hm⟩:∃m,k - o=m+1:=⟨k - o - 1,by omega⟩
      rw[hm,show k -(o+1)=m by omega];simp
    · rw[if_neg h2];simp only[h1,if_false];rw[if_neg (by omega)]
theorem oX:∀(vs:List AV) (cs:List AV) (o:Nat),(setFrom cs o vs).length=cs.length
 | [],_,_=>rfl
 | v::vs,cs,o=>by simp [setFrom,oX vs]
theorem j5:∀(vs:List AV) (cs:List AV) (o k:Nat),(setFrom cs o vs)[k]? =if o≤k∧k<o+vs.length∧k<cs.length then vs[k - o]? else cs[k]?
 | [],cs,o,k=>by simp [setFrom];omega
 | v::vs,cs,o,k=>by
  rw[setFrom,j5 vs]
  simp only[List.length_set,List.length_cons,List.getElem?_set]
  by_cases h1:o=k
  · subst h1
    by_cases h2:o<cs.length
    · rw[if_neg (by omega)];simp [h2]
    · rw[if_neg (by omega)];simp [h2]
  · by_cases h2:o+1≤k∧k<o+1+vs.length∧k<cs.length
    · rw[if_pos h2,if_pos (by omega)]
      obtain ⟨m,hm⟩:∃m,k - o=m+1:=⟨k - o - 1,by omega⟩
      rw[hm,show k -(o+1)=m by omega];simp
    · rw[if_neg h2];simp only[h1,if_false];rw[if_neg (by omega)]
theorem heap_setCell {w:World} {b:Nat} {C:Array Value} {e:TypeId} {f:Nat×Nat} (h:w.heap[b]? =some (.cells C e f)) (o:Nat) (v:Value):
 (w.setCell ⟨b,o,none⟩ v).heap[b]? =some (.cells (C.setIfInBounds o v) e f):=by
 obtain ⟨lo,hi⟩:=f
 simp [World.setCell,Array.getElem?_modify,h]
theorem heap_setCell_other {w:World} {b c:Nat} (h:b≠c) (o:Nat) (v:Value):(w.setCell ⟨b,o,none⟩ v).heap[c]? =w.heap[c]? :=by
 simp [World.setCell,Array.getElem?_modify,h]
theorem ui:∀(vs:List Value) {w:World} {b:Nat} {C:Array Value} {e:TypeId} {f:Nat×Nat} (_:w.heap[b]? =some (.cells C e f)) (o:Nat),
 (w.setCells b o vs).heap[b]? =some (.cells (nj C o vs) e f)
 | [],_,_,_,_,_,h,_=>h
 | v::vs,w,b,C,e,f,h,o=>by
  rw[World.setCells,nj]
  exact ui vs (heap_setCell h o v) (o+1)
theorem nq:∀(vs:List Value) {w:World} {b c:Nat} (_:b≠c) (o:Nat),(w.setCells b o vs).heap[c]? =w.heap[c]?
 | [],_,_,_,_,_=>rfl
 | v::vs,w,b,c,h,o=>by rw[World.setCells,nq vs h,heap_setCell_other h]
theorem size_setCells:∀(vs:List Value) (w:World) (b o:Nat),(w.setCells b o vs).heap.size=w.heap.size
 | [],_,_,_=>rfl
 | v::vs,w,b,o=>by rw[World.setCells,size_setCells vs];simp
theorem yi:∀(vs:List Value) (w:World) (b o:Nat),(w.setCells b o vs).os=w.os∧(w.setCells b o vs).tape=w.tape∧(w.setCells b o vs).output=w.output
 | [],_,_,_=>⟨rfl,rfl,rfl⟩
 | v::vs,w,b,o=>by rw[World.setCells];exact yi vs _ b (o+1)
theorem cell_of_heap {w:World} {b:Nat} {C:Array Value} {e:TypeId} {f:Nat×Nat} (h:w.heap[b]? =some (.cells C e f)) (k:Nat):w.cell? ⟨b,k,none⟩=C[k]? :=by
 obtain ⟨lo,hi⟩:=f
 simp [World.cell?,h]
theorem frozen_of_heap {w:World} {b:Nat} {C:Array Value} {e:TypeId} {lo hi:Nat} (h:w.heap[b]? =some (.cells C e (lo,hi))) (k:Nat):w.frozen? ⟨b,k,none⟩=(decide (lo≤k)&&decide (k<hi)):=by
 simp [World.frozen?,h]
theorem uj {P:Program} {w:World} {b:Nat} {C:Array Value} {e:TypeId} {lo hi:Nat} (h:w.heap[b]? =some (.cells C e (lo,hi))) (O:Nat) (vs:List Value)
 (hs:O+vs.length≤C.size) (hf:∀k,O≤k→k<O+vs.length→¬(lo≤k∧k<hi)) (h1:∀v∈vs,v.oneCell'=true):
 (storeCells ⟨b,O,none⟩ vs).run P w= .ok () (w.setCells b O vs):=by
 have:=run_storeCells_cells (P:=P) b O vs 0 w (fun j hj=>by
  rw[cell_of_heap h];simp;omega) (fun j hj=>by
  rw[frozen_of_heap h]
  have:=hf (O+j) (by omega) (by omega)
  simp only[Nat.add_zero,Bool.and_eq_false_iff,decide_eq_false_iff_not];omega) h1
 simpa using this
theorem rW {P:Program} {w:World} {b:Nat} {C:Array Value} {e:TypeId} {f:Nat×Nat} (h:w.heap[b]? =some (.cells C e f)) (O:Nat) (cs:List Value)
 (hv:∀(j:Nat) (v:Value),cs[j]? =some v→C[O+j]? =some v):(loadCells ⟨b,O,none⟩ cs.length).run P w= .ok cs.toArray w:=
 run_loadCells_list (P:=P) w ⟨b,O,none⟩ cs (fun j v hj=>by
  have:(⟨b,O,none⟩:Addr).add j=⟨b,O+j,none⟩:=by unfold Addr.add;split<;>simp_all
  rw[this,cell_of_heap h];exact hv j v hj)
theorem CR.range {φ:Ph} {cs:List AV} {e:TypeId} {ro:Bool} {l:Loc} {C:Array Value} {lo hi:Nat} (h:CR E φ cs e ro l C lo hi) (o n:Nat) (hn:o+n≤cs.length):
 ∃vs:List Value,vs.length=n∧(∀(j:Nat) (v:Value),vs[j]? =some v→C[l.off+o+j]? =some v)∧LR φ ((cs.drop o).take n) vs:=by
 have NA:=h.size
 refine ⟨((C.toList.drop (l.off+o)).take n),by simp;omega,fun j v hj=>?_,by simp;omega,fun j x y hx hy=>?_⟩
 · rw[List.getElem?_take] at hj
   split at hj
   · simpa [Nat.add_assoc] using hj
   · simp at hj
 · rw[List.getElem?_take] at hx hy
   split at hx
   · rename_i hjn
     simp only[hjn,if_true] at hy
     rw[List.getElem?_drop] at hx hy
     obtain ⟨z,hz,hr⟩:=h.val (o+j) x hx
     simp at hy
     rw[show l.off+(o+j)=l.off+o+j by omega] at hz
     rw[hz] at hy;simp at hy;subst hy;exact hr
   · simp at hx
theorem OK.change {φ:Ph} {h:az} {w w':World} (ok:OK E φ h w) {i:Nat} {o o':aN} {l:Loc} (hg:h.get i=some o) (Qb:o.rw=true) (hl:φ i=some l)
 (ho:OR E φ o' l w'.heap[l.fB]?) (yj:∀c,c≠l.fB→w'.heap[c]? =w.heap[c]?) (iR:w'.heap.size=w.heap.size)
 (hos:w'.os=w.os) (Qp:w'.tape=w.tape) (NC:w'.output=w.output):
 OK E φ (h.put i (some o')) w'∧Fr φ h w φ (h.put i (some o')) w':=by
 have jU:∀j p,(h.put i (some o')).get j=some p→(j=i∧p=o')∨(j≠i∧h.get j=some p):=fun j p hj=>by
  by_cases e:i=j
  · subst e;rw[az.cY] at hj;simp at hj;exact .inl ⟨rfl,hj.symm⟩
  · rw[az.bQ e] at hj;exact .inr ⟨Ne.symm e,hj⟩
 refine ⟨⟨ok.EF,ok.nx,ok.yh,fun j p m hj hm=>?_,fun j k p q m n hj hk hm hn hw hb=>?_⟩,⟨Ph.le_refl φ,fun _ _=>rfl,Nat.le_refl _,hos,Qp,NC,Nat.le_of_eq iR.symm,fun b _ hn=>?_,fun j p m hj hr hm=>?_⟩⟩
 · rcases jU j p hj with ⟨rfl,rfl⟩ | ⟨gX,tu⟩
   · rw[hl] at hm;simp at hm;subst hm;exact ho
   · rw[yj _ (fun e=>gX (ok.inj j i p o m l tu hg hm hl (.inr Qb) e))]
     exact ok.live j p m tu hm
 · rcases jU j p hj with ⟨rfl,rfl⟩ | ⟨_,tu⟩<;>rcases jU k q hk with ⟨rfl,rfl⟩ | ⟨_,La⟩
   · rfl
   · exact ok.inj _ _ _ _ _ _ hg La hm hn (.inl Qb) hb
   · exact ok.inj _ _ _ _ _ _ tu hg hm hn (.inr Qb) hb
   · exact ok.inj _ _ _ _ _ _ tu La hm hn hw hb
 · exact yj b (fun e=>hn i o l hg Qb hl e.symm)
 · rcases jU j p hj with ⟨rfl,rfl⟩ | ⟨_,tu⟩
   · rw[hl] at hm;simp at hm;subst hm;exact .inr ⟨j,o,l,hg,Qb,hl,rfl⟩
   · exact .inr ⟨j,p,m,tu,hr,hm,rfl⟩
theorem OR.mono {φ φ':Ph} (hle:φ.le φ') {o:aN} {l:Loc} {x:Option Obj} (h:OR E φ o l x):OR E φ' o l x:=by
 cases o with
 | cells cs e ro=>
  obtain ⟨C,e',lo,hi,hx,hc⟩:=h
  exact ⟨C,e',lo,hi,hx,⟨hc.size,fun k x hk=>let ⟨y,a,b⟩:=hc.val k x hk;⟨y,a,b.mono hle⟩,hc.free,hc.zero⟩,hc.shape⟩
 | map es clock=>
  obtain ⟨h0,jO,hx,hl,hv⟩:=h
  exact ⟨h0,jO,hx,hl,fun i a b p q=>let r:=hv i a b p q;⟨r.key.mono hle,r.val.mono hle,r.born⟩⟩
 | xb s pos=>exact h
 | x9 m since seen vS=>
  cases m with
  | none=>exact h
  | some m=>obtain ⟨h0,lm,hm,hx⟩:=h;exact ⟨h0,lm,hle _ _ hm,hx⟩
 | loop st mJ ts ps as_ bd dn=>obtain ⟨h0,r,hx,hr⟩:=h;exact ⟨h0,r,hx,hr.mono hle⟩
 | Qk=>exact h
def Ph.add (φ:Ph) (i:Nat) (l:Loc):Ph:=fun j=>if j=i then some l else φ j
theorem OK.fresh {φ:Ph} {h h':az} {w w':World} (ok:OK E φ h w) {o:aN} (hn:h.new o=some h') (l:Loc)
 (ho:OR E (φ.add h.nx l) o l w'.heap[l.fB]?) (yj:∀c,c≠l.fB→c<w.heap.size→w'.heap[c]? =w.heap[c]?) (iR:w.heap.size≤w'.heap.size)
 (amR:w.heap.size≤l.fB) (hos:w'.os=w.os) (Qp:w'.tape=w.tape) (NC:w'.output=w.output):
 OK E (φ.add h.nx l) h' w'∧Fr φ h w (φ.add h.nx l) h' w'∧φ.le (φ.add h.nx l):=by
 obtain ⟨pI,hnx,Im,hold⟩:=az.oW hn
 have K5:φ h.nx=none:=by
  cases e:φ h.nx with
  | none=>rfl
  | some m=>exact absurd (ok.EF _ _ e) (Nat.lt_irrefl _)
 have hle:φ.le (φ.add h.nx l):=fun i m hm=>by
  unfold Ph.add;split
  · rename_i e;subst e;rw[K5] at hm;simp at hm
  · exact hm
 have hblk:∀j p m,h.get j=some p→φ j=some m→m.fB<w.heap.size:=fun j p m hj hm=>by
  have HJ:=ok.live j p m hj hm
  rcases Nat.lt_or_ge m.fB w.heap.size with a | a
  · exact a
  · exfalso
    rw[Array.getElem?_eq_none a] at HJ
    exact HJ.absurd
 have jU:∀j p,h'.get j=some p→(j=h.nx∧p=o)∨(j≠h.nx∧h.get j=some p):=fun j p hj=>by
  by_cases e:j=h.nx
  · subst e;rw[Im] at hj;simp at hj;exact .inl ⟨rfl,hj.symm⟩
  · rw[hold j e] at hj;exact .inr ⟨e,hj⟩
 have ny:∀j,j≠h.nx→(φ.add h.nx l) j=φ j:=fun j hj=>by simp [Ph.add,hj]
 have j6:(φ.add h.nx l) h.nx=some l:=by simp [Ph.add]
 refine ⟨⟨fun i m hm=>?_,?_,fun g hg=>hle _ _ (ok.yh g hg),fun j p m hj hm=>?_,fun j k p q m n hj hk hm xO hw hb=>?_⟩,
  ⟨hle,fun i hi=>ny i (by omega),by omega,hos,Qp,NC,iR,fun b hb hn'=>yj b (by omega) hb,fun j p m hj hr hm=>?_⟩,hle⟩
 · rw[hnx]
   by_cases e:i=h.nx
   · omega
   · rw[ny i e] at hm;have:=ok.EF i m hm;omega
 · have:=ok.nx;omega
 · rcases jU j p hj with ⟨rfl,rfl⟩ | ⟨gX,tu⟩
   · rw[j6] at hm;simp at hm;subst hm;exact ho
   · rw[ny j gX] at hm
     rw[yj _ (by have:=hblk j p m tu hm;omega) (hblk j p m tu hm)]
     exact (ok.live j p m tu hm).mono hle
 · rcases jU j p hj with ⟨rfl,rfl⟩ | ⟨gX,tu⟩<;>rcases jU k q hk with ⟨rfl,rfl⟩ | ⟨ND,La⟩
   · rfl
   · rw[j6] at hm;simp at hm;subst hm
     rw[ny k ND] at xO;have:=hblk k q n La xO;omega
   · rw[j6] at xO;simp at xO;subst xO
     rw[ny j gX] at hm;have:=hblk j p m tu hm;omega
   · rw[ny j gX] at hm;rw[ny k ND] at xO;exact ok.inj _ _ _ _ _ _ tu La hm xO hw hb
 · rcases jU j p hj with ⟨rfl,rfl⟩ | ⟨gX,tu⟩
   · rw[j6] at hm;simp at hm;subst hm;exact .inl amR
   · rw[ny j gX] at hm;exact .inr ⟨j,p,m,tu,hr,hm,rfl⟩
theorem OK.kill {φ:Ph} {h:az} {w:World} (ok:OK E φ h w) {i:Nat}:OK E φ (h.put i none) w:=by
 have jU:∀j p,(h.put i none).get j=some p→h.get j=some p∧j≠i:=fun j p hj=>by
  by_cases e:i=j
  · subst e;rw[az.cY] at hj;simp at hj
  · rw[az.bQ e] at hj;exact ⟨hj,Ne.symm e⟩
 exact ⟨ok.EF,ok.nx,ok.yh,fun j p l hj hl=>ok.live j p l (jU j p hj).1 hl,fun j k p q m n hj hk=>ok.inj j k p q m n (jU j p hj).1 (jU k q hk).1⟩
end Go.Ab
end
