import Derived.ChangeShapes
import Derived.ChangeStays
import Derived.ChangeBook
import Derived.ChangeOld
import Derived.ChangeAgain
import Derived.ChangeCalls
import Derived.Shelf.Strings.OnBuilder
import Derived.Shelf.SlSortCmp.WholeK
import Derived.Shelf.SlSortCmp.NoneTotal
import Derived.Sort.AssemblyPlain
import Derived.Test.YtfllahfbmaafcaaA6
set_option linter.unusedVariables false
set_option linter.unusedSimpArgs false
section
namespace Go.Ab
variable {E:Env} {call:aW} {n:Nat} {s:St}
def WR {α β:Type} (o:Option α) (f:α→β) (d:β):β:=match o with
 | some a=>f a
 | none=>d
noncomputable def Hr (E:Env) (call:aW) (n:Nat) (o:Out) (b:Code):Out:=match o with
 | .ok .normal s=>exec E call n b s
 | r=>r
theorem wN (s:St) (b:Code):Hr E call n (.ok .normal s) b=exec E call n b s:=rfl
def OI (id:Nat) (o:Out):Out:=match o with
 | .ok (.exit MJ) s'=>if MJ=id then .ok .normal s' else .ok (.exit MJ) s'
 | r=>r
theorem wQ (i j:Nat) (s:St):OI i (.ok (.exit j) s)=if j=i then .ok .normal s else .ok (.exit j) s:=rfl
noncomputable def OJ (E:Env) (call:aW) (n:Nat) (o:Option AV) (a b:Code) (s:St):Out:=match o with
 | some (.bool true)=>exec E call n a s
 | some (.bool false)=>exec E call n b s
 | _=> .fail "cond" none
theorem HA (a b:Code):OJ E call n (some (.bool true)) a b s=exec E call n a s:=rfl
theorem Fv (a b:Code):OJ E call n (some (.bool false)) a b s=exec E call n b s:=rfl
theorem Vd (a b:Code):exec E call (n+1) (.seq a b) s=Hr E call n (exec E call n a s) b:=rfl
theorem OL (x:Operand) (a b:Code):exec E call (n+1) (.cond x a b) s=OJ E call n (du E s.ts x) a b s:=rfl
theorem ya (id:Nat) (b:Code):exec E call (n+1) (.block id b) s=OI id (exec E call n b s):=rfl
theorem OM (b:Code):exec E call (n+1) (.loop b) s=Hr E call n (exec E call n b s) (.loop b):=rfl
theorem ON (i:Nat) (ops:Array Oper):exec E call (n+1) (.region i ops false) s=iL E call ops ops.toList s:=rfl
theorem Ta (i:Nat) (ops:Array Oper):exec E call (n+1) (.region i ops true) s=tL E call ops s:=rfl
noncomputable def Z' (E:Env) (call:aW) (ops:Array Oper) (o:Oper) (rest:List Oper) (s:St):Out:=match cI E call s.ts s.h s.rc o with
 | .val v h'=>iL E call ops rest {s with ts:=c_ s.ts o.dst v,h:=h'}
 | .defer d=>iL E call ops rest {s with ts:=c_ s.ts o.dst AV.undef,ds:=d::s.ds}
 | .pD v=>iL E call ops rest {s with ts:=c_ s.ts o.dst v,rc:= .done}
 | .panic v h'=> .ok (.panic v) {s with h:=h'}
 | .fail why q=> .fail why q
noncomputable def aaa (E:Env) (call:aW) (ops:Array Oper) (o:Oper) (rest:List Oper) (s:St):Out:=
 WR (dv E s.ts o.op) (fun p=>WR (s.h.new p.1) (fun h'=>iL E call ops rest {s with ts:=c_ s.ts o.dst (p.2 s.h.nx),h:=h'}) (.fail "full" (some o))) (Z' E call ops o rest s)
noncomputable def aab (E:Env) (call:aW) (ops:Array Oper) (o:Oper) (rest:List Oper) (s:St):Out:=
 WR (dh E s.ts s.h o.op) (fun v=>iL E call ops rest {s with ts:=c_ s.ts o.dst v}) (aaa E call ops o rest s)
noncomputable def aac (E:Env) (call:aW) (ops:Array Oper) (v:Option AV) (o:Oper) (rest:List Oper) (s:St):Out:=WR v (fun v=>iL E call ops rest {s with ts:=c_ s.ts o.dst v}) (aab E call ops o rest s)
section
variable {ops:Array Oper} {rest:List Oper} {d:Option Tmp} {op:Op} {ty:TypeId} {pos:String} {aft:Array Edge} {g:Option (Nat×Bool)}
noncomputable def Hs (E:Env) (call:aW) (ops:Array Oper) (w:Bool) (o:Oper) (rest:List Oper) (s:St):Out:=
 if w=true then aac E call ops (bk E s.ts o.op) o rest s else iL E call ops rest {s with ts:=c_ s.ts o.dst AV.undef}
end
theorem zi (m:Nat) (a:List UInt8):AV.same (m+1) (.str a) (.str a)=true:=by simp [AV.same]
theorem aN (m:Nat) (k:IntKind) (a:Int):AV.same (m+1) (.int k a) (.int k a)=true:=by simp [AV.same]
theorem zj (m i o l c:Nat) (b:Bool):AV.same (m+1) (.slice i o l c b) (.slice i o l c b)=true:=by simp [AV.same]
open Classical in
section
variable {ops:Array Oper} {rest:List Nat} {d:Option Tmp} {op:Op} {ty:TypeId} {pos:String} {aft:Array Edge} {g:Option (Nat×Bool)}
noncomputable def Jh (E:Env) (call:aW) (ops:Array Oper) (r:Option St) (s:St):Out:=WR r (fun s'=> .ok .normal s') (tL E call ops s)
end
theorem wrap_i64 {n:Int} (h0: -9223372036854775808≤n) (h1:n<9223372036854775808):IntKind.i64.wrap n=n:=by
 show (if (true&&decide (n%2^64≥2^63))=true then n%2^64 - 2^64 else n%2^64)=n
 by_cases hn:n%2^64≥2^63
 · rw[if_pos (by rw[Bool.true_and];exact decide_eq_true hn)];omega
 · rw[if_neg (by rw[Bool.true_and];exact fun e=>hn (of_decide_eq_true e))];omega
noncomputable def E2 (E:Env) (fn:Func) (h:au) (ts:List AV):gY:=match iy E h ts fn.results.toList with
 | some vs=> .ret (eW vs) h
 | none=> .fail "results" none
theorem K3 {fuel:Nat} {f:FuncId} {fn:Func} {c:Code} (hf:E.P.funcs[f]? =some fn) (hb:fn.body=some c) {args:List AV} {h h':au} {ts:List AV} {x:gR} (hx:x= .normal∨x= .ret)
 (e:exec E call fuel c ⟨args++List.replicate (fn.ntmps - args.length) AV.undef,h,[],.no⟩= .ok x ⟨ts,h',[],.no⟩) {vs:List AV} (hr:iy E h' ts fn.results.toList=some vs):uk E call fuel f args h= .ret (eW vs) h':=by
 unfold uk
 simp only[hf,hb,kL,e]
 rcases hx with rfl | rfl<;>simp only[o7,cn,hr]
def zk (M:Fa.Df):aW:=fun F args h=>match F with
 | .fn f=>match M f args h with
   | some p=> .ret p.1 p.2
   | none=> .fail "" none
 | .sL _=> .fail "" none
theorem K4 {M:Fa.Df} (hM:Fa.Dg E M):fZ E (zk M):=by
 refine ⟨fun F args h v h' e=>?_,fun F args h v h' e=>?_⟩
 · cases F with
   | sL l=>cases e
   | fn f=>
     simp only[zk] at e
     cases hm:M f args h with
     | none=>rw[hm] at e;cases e
     | some p=>
       rw[hm] at e
       simp only[gY.ret.injEq] at e
       obtain ⟨rfl,rfl⟩:=e
       exact (hM _ _ _ _ _ hm).any
 · cases F with
   | sL l=>cases e
   | fn f=>
     simp only[zk] at e
     cases hm:M f args h with
     | none=>rw[hm] at e;cases e
     | some p=>rw[hm] at e;cases e
def ac7 (E:Env) (x:Option (TypeId×Nat)) (v:Option AV):Option AV:=match x,v with
 | some (t,o),some (.ptr i off)=>match bT E t with
   | some n=>if n=0 then none else some (.ptr i (off+o))
   | none=>none
 | _,_=>none
def bU (E:Env) (op:BinOp) (t:TypeId) (xc yc:Bool) (a b:Option AV):Option AV:=match a,b with
 | some a,some b=>iJ E op t xc yc a b
 | _,_=>none
theorem Tb {ts:List AV} (op:BinOp) (t t':TypeId) (x y:Operand):bk E ts (.binOp op t x y t')=bU E op t (isConst x) (isConst y) (du E ts x) (du E ts y):=by
 simp only[bk,bU]
 cases du E ts x<;>cases du E ts y<;>rfl
theorem Ju (t:TypeId) (c d:Bool) (k:IntKind) (a b:Int):bU E .add t c d (some (.int k a)) (some (.int k b))=some (.int k (k.wrap (a+b))):=by simp [bU,iJ,cF]
theorem Tc (t:TypeId) (c d:Bool) (k:IntKind) (a b:Int):bU E .sub t c d (some (.int k a)) (some (.int k b))=some (.int k (k.wrap (a - b))):=by simp [bU,iJ,cF]
theorem Td (t:TypeId) (c d:Bool) (k:IntKind) (a b:Int):bU E .mul t c d (some (.int k a)) (some (.int k b))=some (.int k (k.wrap (a*b))):=by simp [bU,iJ,cF]
theorem Te (t:TypeId) (c d:Bool) (k:IntKind) (a b:Int):bU E .eql t c d (some (.int k a)) (some (.int k b))=some (.bool (decide (a=b))):=by simp [bU,iJ,cF];rfl
theorem Tf (t:TypeId) (c d:Bool) (k:IntKind) (a b:Int):bU E .neq t c d (some (.int k a)) (some (.int k b))=some (.bool (!decide (a=b))):=by simp [bU,iJ,cF];rfl
theorem Tg (t:TypeId) (c d:Bool) (k:IntKind) (a b:Int):bU E .lss t c d (some (.int k a)) (some (.int k b))=some (.bool (decide (a<b))):=by simp [bU,iJ,cF]
theorem Th (t:TypeId) (c d:Bool) (k:IntKind) (a b:Int):bU E .leq t c d (some (.int k a)) (some (.int k b))=some (.bool (decide (a≤b))):=by simp [bU,iJ,cF]
theorem Ti (t:TypeId) (c d:Bool) (k:IntKind) (a b:Int):bU E .gtr t c d (some (.int k a)) (some (.int k b))=some (.bool (decide (b<a))):=by simp [bU,iJ,cF]
theorem Tj (t:TypeId) (c d:Bool) (k:IntKind) (a b:Int):bU E .geq t c d (some (.int k a)) (some (.int k b))=some (.bool (decide (b≤a))):=by simp [bU,iJ,cF]
theorem OO (t:TypeId) (c d:Bool) (a b:List UInt8):bU E .eql t c d (some (.str a)) (some (.str b))=some (.bool (decide (a=b))):=by
 simp only[bU,iJ,sK,Option.some.injEq,AV.bool.injEq]
 exact Bool.eq_iff_iff.2 (by simp)
def ZW (op:UnOp) (a:Option AV):Option AV:=match a with
 | some a=>Ys op a
 | none=>none
def dL (E:Env) (d:Option TypeDesc) (v i:Option AV):Option AV:=match d,v,i with
 | some (.slice elem),some (.slice i o len _ _),some (.int _ n)=>match bT E elem with
  | some size=>if 0≤n∧n<len then some (.ptr i (o+n.toNat*size)) else none
  | none=>none
 | some (.array len elem),some (.ptr i o),some (.int _ n)=>match bT E elem with
  | some size=>if 0≤n∧n<len then some (.ptr i (o+n.toNat*size)) else none
  | none=>none
 | _,_,_=>none
theorem Fx {ts:List AV} (t:TypeId) (x i:Operand):bk E ts (.indexAddr t x i)=dL E (E.P.underlying t) (du E ts x) (du E ts i):=by
 simp only[bk,dL]
 split<;>simp_all<;>(split<;>simp_all)
theorem b7 {e:TypeId} {i o len c z:Nat} {b:Bool} {size:Nat} (hs:bT E e=some size) (hz:z<len):dL E (some (.slice e)) (some (.slice i o len c b)) (some (.int .i64 (z:Int)))=some (.ptr i (o+z*size)):=by
 simp only[dL,hs]
 rw[if_pos ⟨by omega,by omega⟩,Int.toNat_natCast]
def eF (d:Option TypeDesc) (v:Option AV):Option AV:=match d,v with
 | some (.slice _),some .aI=>some (.int .i64 0)
 | some (.slice _),some (.slice _ _ n _ _)=>some (.int .i64 n)
 | some (.slice _),some .dG=>some (.int .i64 0)
 | some .string,some (.str s)=>some (.int .i64 s.length)
 | some (.array n _),some _=>some (.int .i64 n)
 | some (.map _ _),some .dc=>some (.int .i64 0)
 | _,_=>none
theorem aad {ts:List AV} (x:Operand) (t:TypeId):bk E ts (.call ⟨.builtin .len, #[x], #[t]⟩)=eF (E.P.underlying t) (du E ts x):=by
 simp only[bk,eQ,dC,List.getElem?_toArray,List.getElem?_cons_zero]
 generalize du E ts x=o
 cases o with
 | none=>
   generalize E.P.underlying t=u
   cases u with
   | none=>rfl
   | some d=>cases d<;>rfl
 | some v=>
   simp only
   generalize E.P.underlying t=u
   cases u with
   | none=>rfl
   | some d=>cases d<;>cases v<;>rfl
theorem WS {ts:List AV} {h:au} (t:TypeId) (x:Operand):dh E ts h (.load t x)=WR (du E ts x) (bw E h t) none:=by
 simp only[dh];cases du E ts x<;>rfl
theorem eY (e:TypeId) (i o n c:Nat) (b:Bool):eF (some (.slice e)) (some (.slice i o n c b))=some (.int .i64 n):=rfl
theorem uo (e:TypeId):eF (some (.slice e)) (some .aI)=some (.int .i64 0):=rfl
theorem WT (e:TypeId):eF (some (.slice e)) (some .dG)=some (.int .i64 0):=rfl
def Tidy (h:au):Prop:=∀i o,h.get i=some o→i<h.nx
def r6 (E:Env) (d:Option TypeDesc) (v i:Option AV):Option AV:=match d,v,i with
 | some (.array len elem),some (.agg cs),some (.int _ n)=>match bT E elem with
  | some size=>if 0≤n∧n<len then fU E elem cs (n.toNat*size) else none
  | none=>none
 | some .string,some (.str s),some (.int _ n)=>if 0≤n then (match s[n.toNat]? with | some b=>some (.int .u8 b.toNat) | none=>none) else none
 | _,_,_=>none
theorem Tk {ts:List AV} (t:TypeId) (x i:Operand):bk E ts (.index t x i)=r6 E (E.P.underlying t) (du E ts x) (du E ts i):=by
 simp only[bk,r6]
 split
 · simp_all
   split<;>simp_all
 · rename_i s k n _ _ _
   simp_all
   cases s[n.toNat]? <;>rfl
 · simp_all
theorem OP {s:List UInt8} {z:Nat} {b:UInt8} (h:s[z]? =some b):r6 E (some .string) (some (.str s)) (some (.int .i64 (z:Int)))=some (.int .u8 b.toNat):=by
 simp only[r6]
 rw[if_pos (by omega),Int.toNat_natCast,h]
end Go.Ab
end
section
namespace Go.Ab
open Go.ChangeShapes Go.WideShapes Go.RowKit
variable {E:Env}
def uq (h:au):Prop:=∀i o,h.get i=some o→o.rw=false
theorem OK.show {φ:Ph} {h:au} {w:World} (ok:OK E φ h w) (Nu:uq h) {b off:Nat} {cs:List AV} {e:TypeId} (dD:cs≠ []) (hz:∀m,cs≠ [.map m])
 (hC:∀(k:Nat) (x:AV),cs[k]? =some x→∃y,w.cell? ⟨b,off+k,none⟩=some y∧VR φ x y):
 ∃h',h.new (.cells cs e true)=some h'∧OK E (φ.add h.nx ⟨b,off,0⟩) h' w∧φ.le (φ.add h.nx ⟨b,off,0⟩)∧uq h'∧h'.nx=h.nx+1∧h'.get h.nx=some (.cells cs e true)∧(∀j,j≠h.nx→h'.get j=h.get j)∧(φ.add h.nx ⟨b,off,0⟩) h.nx=some ⟨b,off,0⟩:=by
 obtain ⟨h',hn⟩:∃h',h.new (.cells cs e true)=some h':=by
  exact ⟨_,au.Cm _ _⟩
 obtain ⟨jE,WU,yu,hold⟩:=au.jK hn
 have Cn:φ h.nx=none:=by
  cases e:φ h.nx with
  | none=>rfl
  | some m=>exact absurd (ok.xz _ _ e) (Nat.lt_irrefl _)
 have hle:φ.le (φ.add h.nx ⟨b,off,0⟩):=fun i m hm=>by
  unfold Ph.add;split
  · rename_i e;subst e;rw[Cn] at hm;simp at hm
  · exact hm
 have iQ:∀j,j≠h.nx→(φ.add h.nx ⟨b,off,0⟩) j=φ j:=fun j hj=>by simp [Ph.add,hj]
 have fW:(φ.add h.nx ⟨b,off,0⟩) h.nx=some ⟨b,off,0⟩:=by simp [Ph.add]
 have fB:∀j p,h'.get j=some p→(j=h.nx∧p= .cells cs e true)∨(j≠h.nx∧h.get j=some p):=fun j p hj=>by
  by_cases e:j=h.nx
  · subst e;rw[yu] at hj;simp at hj;exact .inl ⟨rfl,hj.symm⟩
  · rw[hold j e] at hj;exact .inr ⟨e,hj⟩
 have hlen:0<cs.length:=List.length_pos_iff.2 dD
 obtain ⟨y0,hy0,_⟩:=hC 0 cs[0] (by simp [hlen])
 obtain ⟨C,e',lo,hi,hw⟩:∃C e' lo hi,w.heap[b]? =some (.cells C e' (lo,hi)):=by
  unfold World.cell? at hy0
  split at hy0
  · rename_i C e' fz hw;obtain ⟨lo,hi⟩:=fz;exact ⟨C,e',lo,hi,hw⟩
  · cases hy0
 have Jv:∀k,w.cell? ⟨b,off+k,none⟩=C[off+k]? :=fun k=>by simp [World.cell?,hw]
 refine ⟨h',hn,⟨fun i m hm=>?_,by rw[WU];exact Nat.le_succ_of_le ok.nx,fun g hg=>hle _ _ (ok.sM g hg),fun j p m hj hm=>?_,fun j k p q m n hj hk hm pL hw hb=>?_⟩,hle,fun j p hj=>?_,WU,yu,hold,fW⟩
 · rw[WU]
   by_cases e:i=h.nx
   · omega
   · rw[iQ i e] at hm;have:=ok.xz i m hm;omega
 · rcases fB j p hj with ⟨rfl,rfl⟩ | ⟨Co,mQ⟩
   · rw[fW] at hm;simp at hm;subst hm
     refine ⟨C,e',lo,hi,hw,⟨?_,fun k x hk=>?_,(fun h=>by cases h),fun _ m hm=>absurd hm (hz m)⟩,fun h=>by cases h⟩
     · obtain ⟨y,hy,_⟩:=hC (cs.length - 1) cs[cs.length - 1] (List.getElem?_eq_getElem (by omega))
       rw[Jv] at hy
       have:=(Array.getElem?_eq_some_iff.1 hy).1
       simp only[eB,Nat.zero_mul]
       omega
     · obtain ⟨y,hy,hv⟩:=hC k x hk
       rw[Jv] at hy
       exact ⟨y,hy,hv.mono hle⟩
   · rw[iQ j Co] at hm
     exact (ok.live j p m mQ hm).mono hle
 · rcases fB j p hj with ⟨rfl,rfl⟩ | ⟨ac8,mQ⟩<;>rcases fB k q hk with ⟨rfl,rfl⟩ | ⟨ac9,Eb⟩
   · rfl
   · rw[Nu k q Eb] at hw;rcases hw with h | h<;>cases h
   · rw[Nu j p mQ] at hw;rcases hw with h | h<;>cases h
   · rw[iQ j ac8] at hm;rw[iQ k ac9] at pL;exact ok.inj _ _ _ _ _ _ mQ Eb hm pL hw hb
 · rcases fB j p hj with ⟨_,rfl⟩ | ⟨_,mQ⟩
   · rfl
   · exact Nu j p mQ
theorem uq.begin {G:Nat} {l:List S'}:uq (jQ G l):=fun i o h=>by
 obtain ⟨x,_,_,rfl⟩:=o6 h;rfl
theorem Dh {f:FuncId} {avs:List AV} {h h':au} (r:ju E f avs h (.bool true) h') {φ:Ph} {w:World} {vs:List Value} (ok:OK E φ h w) (hl:LR φ avs vs) (Nu:uq h):
 Calls E.P f vs.toArray w fun en w'=>en= .returned (.bool true)∧w.keptBut w' (fun _=>False):=fun cs=>by
 obtain ⟨_,gQ⟩:=r φ w vs ok hl
 obtain ⟨φ',w',v',fr,hv,_,lU,h1,h2,h3⟩:=gQ cs
 cases hv
 refine ⟨.returned (.bool true),w',fr,⟨rfl,lU.os,lU.output,fun i hi=>?_⟩,h1,h2,h3⟩
 rw[lU.xA i hi (fun j o l' q1 q2 _=>by rw[Nu j o q1] at q2;cases q2)]
 cases w.heap[i]? with
 | none=>rfl
 | some o=>cases o with
   | cells c t fz=>exact ⟨rfl,rfl,rfl,fun _ _=>rfl⟩
   | map es c=>exact .inr ⟨rfl,rfl⟩
   | _=>rfl
section
variable {H:Type} {enc:TypeId×Value→H} {w:World} {base:Nat} {spare:Nat→Bool} {held:Bool} {fuel:Nat} {t:TypeId} {x:DataW H×List MemPlace}
end
section
variable {H:Type} {enc:TypeId×Value→H} {P:Program} {w w':World}
theorem zm (hk:w.keptBut w' (fun _=>False)) {p:MemPlace} (hp:p.block<w.heap.size):w.sameAt w' p:=by
 have h:=hk.block hp (fun _ h=>h.elim)
 cases p with
 | cell b off=>simp only[World.sameAt,World.cell?];rw[show w'.heap[b]? =w.heap[b]? from h]
 | map b=>exact h
theorem BE (hl:laidOutB P=true) (hk:w.keptBut w' (fun _=>False)):∀{ts:List TypeId} {vs:List Value} {ds:List (DataW H)} {ps:List MemPlace},(∀t∈ts,P.readableRec t=true∧t<P.types.size)→
 DataW.TrodAll enc P w 0 (fun _=>true) true ts vs ds ps→DataW.TrodAll enc P w' 0 (fun b=>decide (b<w.heap.size)) true ts vs ds ps
 | [],vs,ds,ps,_,h=>by
   obtain ⟨rfl,rfl,rfl⟩:=trodAll_nil h
   exact trodAll_mk0
 | t::ts,vs,ds,ps,hr,h=>by
   have jE:=DataW.TrodAll.lt h
   obtain ⟨v,oK,d,vz,p,p',rfl,rfl,rfl,⟨n,h1⟩,h2⟩:=trodAll_cons h
   obtain ⟨h3,h4⟩:=hr t (by simp)
   refine trodAll_cons_mk ⟨n,?_⟩ (BE hl hk (fun t ht=>hr t (by simp [ht])) h2)
   exact DataW.trod_stays (kids_book hl h3) (book_sized h3) (fun h=>by cases h) ⟨h4,book_self t⟩ h1 (fun q hq=>zm hk (jE q (by simp [hq]))) (fun q hq=>by simpa using jE q (by simp [hq]))
end
end Go.Ab
end
section
namespace Go.Ab
variable {E:Env}
end Go.Ab
end
section
namespace Go.Ab
variable {E:Env} {call:aW}
def Ev (E:Env) (call:aW) (c:Code) (s:St) (e:gR) (s':St):Prop:=∃n0,∀n,n0≤n→exec E call n c s= .ok e s'
theorem Ev.of {c:Code} {s:St} {e:gR} {s':St} (h:∀n,exec E call (n+1) c s= .ok e s'):Ev E call c s e s':=⟨1,fun n hn=>by
 obtain ⟨k,rfl⟩:∃k,n=k+1:=⟨n - 1,by omega⟩
 exact h k⟩
theorem Ev.seq {a b:Code} {s s1 s':St} {e:gR} (h1:Ev E call a s .normal s1) (h2:Ev E call b s1 e s'):Ev E call (.seq a b) s e s':=by
 obtain ⟨n1,h1⟩:=h1
 obtain ⟨n2,h2⟩:=h2
 refine ⟨n1+n2+1,fun n hn=>?_⟩
 obtain ⟨k,rfl⟩:∃k,n=k+1:=⟨n - 1,by omega⟩
 rw[Vd,h1 k (by omega),wN]
 exact h2 k (by omega)
theorem Ev.seq' {a b:Code} {s s':St} {e:gR} (he:e≠ .normal) (h1:Ev E call a s e s'):Ev E call (.seq a b) s e s':=by
 obtain ⟨n1,h1⟩:=h1
 refine ⟨n1+1,fun n hn=>?_⟩
 obtain ⟨k,rfl⟩:∃k,n=k+1:=⟨n - 1,by omega⟩
 rw[Vd,h1 k (by omega)]
 cases e with
 | normal=>exact absurd rfl he
 | _=>rfl
theorem Ev.loop {b:Code} {s s1 s':St} {e:gR} (h1:Ev E call b s .normal s1) (h2:Ev E call (.loop b) s1 e s'):Ev E call (.loop b) s e s':=by
 obtain ⟨n1,h1⟩:=h1
 obtain ⟨n2,h2⟩:=h2
 refine ⟨n1+n2+1,fun n hn=>?_⟩
 obtain ⟨k,rfl⟩:∃k,n=k+1:=⟨n - 1,by omega⟩
 rw[OM,h1 k (by omega),wN]
 exact h2 k (by omega)
theorem Ev.exit {b:Code} {s s':St} {e:gR} (he:e≠ .normal) (h1:Ev E call b s e s'):Ev E call (.loop b) s e s':=by
 obtain ⟨n1,h1⟩:=h1
 refine ⟨n1+1,fun n hn=>?_⟩
 obtain ⟨k,rfl⟩:∃k,n=k+1:=⟨n - 1,by omega⟩
 rw[OM,h1 k (by omega)]
 cases e with
 | normal=>exact absurd rfl he
 | _=>rfl
theorem Ev.ret {b:Code} {s s':St} (h1:Ev E call b s .ret s'):Ev E call (.loop b) s .ret s':=Ev.exit (by simp) h1
theorem Ev.out {b:Code} {s s':St} {i:Nat} (h1:Ev E call b s (.exit i) s'):Ev E call (.loop b) s (.exit i) s':=Ev.exit (by simp) h1
inductive lB where
 | c
 | v (x:AV)
 | q (x:AV)
 | m (x:AV)
 | n (h:au)
 | a (obj:aR) (x:AV) (h:au)
 | e (x:AV) (h:au)
 | p (x:AV) (h:au)
 | b (x:Bool)
 | l (e:gR) (s:St)
def ke:List Prop→Prop
 | []=>True
 | p::ps=>p∧ke ps
inductive R where
 | bad
 | at (e:gR) (s:St) (as_:List lB) (ps:List Prop)
def R.go (k:St→List lB→List Prop→R):R→R
 | .at .normal s as_ ps=>k s as_ ps
 | r=>r
theorem R.aae {k:St→List lB→List Prop→R} {r:R} {e:gR} {s:St} {as_:List lB} {ps:List Prop} (h:r.go k= .at e s as_ ps):(∃s1 pP og,r= .at .normal s1 pP og∧k s1 pP og= .at e s as_ ps)∨(r= .at e s as_ ps∧e≠ .normal):=by
 unfold R.go at h
 split at h
 · exact .inl ⟨_,_,_,rfl,h⟩
 · rename_i dD
   refine .inr ⟨h,fun he=>?_⟩
   subst he;exact dD _ _ _ h
def aaf (E:Env) (ts:List AV):List Operand→List TypeId→Option AV
 | [x],[t]=>eF (E.P.underlying t) (du E ts x)
 | _,_=>none
def wR (c a b:Option AV):Option AV:=match c with
 | some (.bool true)=>a
 | some (.bool false)=>b
 | _=>none
theorem Tl {ts:List AV} (c a b:Operand):bk E ts (.pick c a b)=wR (du E ts c) (du E ts a) (du E ts b):=by
 simp only[bk]
 generalize du E ts c=x
 cases x with
 | none=>rfl
 | some v=>cases v with
   | bool b=>cases b<;>rfl
   | _=>rfl
theorem OQ {c:Bool} {a b:Option AV} (h:c=true):wR (some (.bool c)) a b=a:=by rw[h];rfl
theorem bJ {c:Bool} {a b:Option AV} (h:c=false):wR (some (.bool c)) a b=b:=by rw[h];rfl
def Tm (E:Env) (ts:List AV) (op:Op):Option AV:=match op with
 | .indexAddr t x i=>dL E (E.P.underlying t) (du E ts x) (du E ts i)
 | .index t x i=>r6 E (E.P.underlying t) (du E ts x) (du E ts i)
 | .binOp op t x y _=>bU E op t (isConst x) (isConst y) (du E ts x) (du E ts y)
 | .pick c a b=>wR (du E ts c) (du E ts a) (du E ts b)
 | .call c=>match c.callee with
   | .builtin .len=>aaf E ts c.args.toList c.argTypes.toList
   | _=>none
 | _=>none
theorem zn {α:Type} {a:Array α} {l:List α} (h:a.toList=l):a=l.toArray:=by rw[←h]
theorem Jw {ts:List AV} {op:Op} {v:AV} (e:Tm E ts op=some v):bk E ts op=some v:=by
 unfold Tm at e
 split at e
 · rw[←Fx] at e;exact e
 · rw[←Tk] at e;exact e
 · rename_i o t x y t';exact (Tb o t t' x y).trans e
 · rename_i c a b;exact (Tl c a b).trans e
 · rename_i c
   obtain ⟨cl,args,tys⟩:=c
   simp only at e
   split at e
   · unfold aaf at e
     split at e
     · rename_i x t hx ht
       rw[zn hx,zn ht]
       exact (aad x t).trans e
     · cases e
   · cases e
 · cases e
noncomputable def OS (E:Env) (ts:List AV) (h:au) (op:Op):Option AV:=match op with
 | .load t x=>WR (du E ts x) (bw E h t) none
 | op=>dh E ts h op
theorem Di {ts:List AV} {h:au} {op:Op} {v:AV} (e:OS E ts h op=some v):dh E ts h op=some v:=by
 unfold OS at e
 split at e
 · rw[WS];exact e
 · exact e
def aag (E:Env) (d:Option TypeDesc) (l c:Option AV):Option (aR×(Nat→AV)):=match d,l,c with
 | some (.slice elem),some (.int _ len),some (.int _ cap)=>match bT E elem,eK E elem,eh E elem with
   | some n,some bytes,some z=>
     if 0≤len∧len≤cap∧cap<2^30∧(bytes:Int)*cap≤2^47∧z.cells.length=n then
      some (.cells (eV z.cells cap.toNat) elem false,fun i=> .slice i 0 len.toNat cap.toNat false)
     else none
   | _,_,_=>none
 | _,_,_=>none
def Tn (E:Env) (ts:List AV) (op:Op):Option (aR×(Nat→AV)):=match op with
 | .makeSlice t l c=>aag E (E.P.underlying t) (du E ts l) (du E ts c)
 | op=>dv E ts op
theorem Jx (ts:List AV) (op:Op):Tn E ts op=dv E ts op:=by
 unfold Tn
 split
 · rename_i t l c
   simp only[dv]
   generalize E.P.underlying t=d
   generalize du E ts l=x
   generalize du E ts c=y
   rfl
 · rfl
noncomputable def To (E:Env) (call:aW) (ts:List AV) (h:au) (rc:RC) (o:Oper) (x:AV) (h':au):Prop:=match o.op with
 | .store t a v=>match du E ts a,du E ts v with
   | some a,some v=>x=AV.undef∧dX E h t a v=some h'
   | _,_=>False
 | .call c=>match c.callee with
   | .builtin .append=>match eQ E ts c.args.toList with
     | some [s,y]=>bf E h c.argTypes s y=some (x,h')
     | _=>False
   | .builtin .copy=>match eQ E ts c.args.toList with
     | some [s,y]=>so E h c.argTypes s y=some (x,h')
     | _=>False
   | .value _=>match callee E ts c with
     | some (f,args)=>match iv E f with
       | some g=>g args h=some (x,h')
       | none=>call f args h= .ret x h'
     | none=>False
   | _=>cI E call ts h rc o= .val x h'
 | .convert src dst y=>Bf E h src dst (du E ts y)=some (x,h')
 | _=>cI E call ts h rc o= .val x h'
theorem Jy {ts:List AV} {h:au} {rc:RC} {o:Oper} {x:AV} {h':au} (e:To E call ts h rc o x h'):cI E call ts h rc o= .val x h':=by
 unfold To at e
 split at e
 · rename_i t a v ho
   split at e
   · rename_i a' v' h1 h2
     obtain ⟨rfl,e⟩:=e
     unfold cI
     simp only[ho,h1,h2,e]
   · exact e.elim
 · rename_i c ho
   split at e
   · rename_i hc
     split at e
     · rename_i h1
       unfold cI
       simp only[ho,hc,h1,e]
     · exact e.elim
   · rename_i hc
     split at e
     · rename_i h1
       unfold cI
       simp only[ho,hc,h1,e]
     · exact e.elim
   · rename_i hc
     split at e
     · rename_i h1
       split at e
       · rename_i h2
         unfold cI
         simp only[ho,hc,h1,h2,e]
       · rename_i h2
         unfold cI
         simp only[ho,hc,h1,h2,e]
     · exact e.elim
   · exact e
 · rename_i src dst y ho
   unfold cI
   simp only[ho,e]
 · exact e
def K6 {β:Type} (k:List AV→β):List AV→Nat→AV→β
 | [],_,_=>k []
 | _::xs,0,v=>k (v::xs)
 | x::xs,d+1,v=>K6 (fun ys=>k (x::ys)) xs d v
theorem Dj {β:Type}:∀(k:List AV→β) (ts:List AV) (d:Nat) (v:AV),K6 k ts d v=k (ts.set d v)
 | k,[],_,_=>by simp [K6]
 | k,_::xs,0,v=>rfl
 | k,x::xs,d+1,v=>by rw[K6,Dj];rfl
def qy (s:St) (d:Option Tmp) (v:AV) (h:au) (as_:List lB) (ps:List Prop):R:=match d with
 | some i=>K6 (fun ts=> .at .normal ⟨ts,h,s.ds,s.rc⟩ as_ ps) s.ts i v
 | none=> .at .normal ⟨s.ts,h,s.ds,s.rc⟩ as_ ps
theorem kQ (s:St) (d:Option Tmp) (v:AV) (h:au) (as_:List lB) (ps:List Prop):Go.Ab.qy s d v h as_ ps= .at .normal {s with ts:=c_ s.ts d v,h:=h} as_ ps:=by
 cases d with
 | none=>rfl
 | some i=>exact Dj _ _ _ _
noncomputable def Fy (E:Env) (call:aW) (o:Oper) (s:St) (as_:List lB) (ps:List Prop):R:=match as_ with
 | .c::as_=>match bk E s.ts o.op with
   | some v=>qy s o.dst v s.h as_ ps
   | none=> .bad
 | .v x::as_=>qy s o.dst x s.h as_ ((Tm E s.ts o.op=some x)::ps)
 | .q x::as_=>qy s o.dst x s.h as_ ((bk E s.ts o.op=some x)::ps)
 | .m x::as_=>match bk E s.ts o.op with
   | none=>qy s o.dst x s.h as_ ((OS E s.ts s.h o.op=some x)::ps)
   | some _=> .bad
 | .n h'::as_=>match bk E s.ts o.op,dh E s.ts s.h o.op,dv E s.ts o.op with
   | none,none,some (obj,mk)=>qy s o.dst (mk s.h.nx) h' as_ ((s.h.new obj=some h')::ps)
   | _,_,_=> .bad
 | .a obj x h'::as_=>match bk E s.ts o.op,dh E s.ts s.h o.op with
   | none,none=>qy s o.dst x h' as_ ((∃mk,Tn E s.ts o.op=some (obj,mk)∧mk s.h.nx=x)::(s.h.new obj=some h')::ps)
   | _,_=> .bad
 | .e x h'::as_=>match bk E s.ts o.op,dh E s.ts s.h o.op,dv E s.ts o.op with
   | none,none,none=>qy s o.dst x h' as_ (To E call s.ts s.h s.rc o x h'::ps)
   | _,_,_=> .bad
 | .p x h'::as_=>match bk E s.ts o.op,dh E s.ts s.h o.op,dv E s.ts o.op with
   | none,none,none=> .at (.panic x) {s with h:=h'} as_ ((cI E call s.ts s.h s.rc o= .panic x h')::ps)
   | _,_,_=> .bad
 | _=> .bad
theorem wV {o:Oper} {s:St} {as_:List lB} {ps:List Prop} {e:gR} {s':St} {rX:List lB} {oA:List Prop} (hr:Fy E call o s as_ ps= .at e s' rX oA) (hp:ke oA):ke ps∧Ck E call s o= .ok e s':=by
 have seen:∀{x:AV},(bk E s.ts o.op=some x∨(bk E s.ts o.op=none∧dh E s.ts s.h o.op=some x))→Ck E call s o= .ok .normal {s with ts:=c_ s.ts o.dst x}:=by
  rintro x (h | ⟨h1,h2⟩)<;>unfold Ck
  · rw[h]
  · rw[h1,h2]
 unfold Fy at hr
 split at hr
 · split at hr
   · rename_i v hv
     rw[kQ] at hr;cases hr
     exact ⟨hp,seen (.inl hv)⟩
   · cases hr
 · rw[kQ] at hr;cases hr
   exact ⟨hp.2,seen (.inl (Jw hp.1))⟩
 · rw[kQ] at hr;cases hr
   exact ⟨hp.2,seen (.inl hp.1)⟩
 · split at hr
   · rename_i h1
     rw[kQ] at hr;cases hr
     exact ⟨hp.2,seen (.inr ⟨h1,Di hp.1⟩)⟩
   · cases hr
 · split at hr
   · rename_i h1 h2 h3
     rw[kQ] at hr;cases hr
     refine ⟨hp.2,?_⟩
     unfold Ck
     simp only[h1,h2,h3,hp.1]
   · cases hr
 · split at hr
   · rename_i h1 h2
     rw[kQ] at hr;cases hr
     obtain ⟨⟨mk,h3,h4⟩,h5,hp⟩:=hp
     rw[Jx] at h3
     refine ⟨hp,?_⟩
     unfold Ck
     simp only[h1,h2,h3,h4,h5]
   · cases hr
 · split at hr
   · rename_i h1 h2 h3
     rw[kQ] at hr;cases hr
     refine ⟨hp.2,?_⟩
     unfold Ck
     simp only[h1,h2,h3,Jy hp.1]
   · cases hr
 · split at hr
   · rename_i h1 h2 h3
     cases hr
     refine ⟨hp.2,?_⟩
     unfold Ck
     simp only[h1,h2,h3,hp.1]
   · cases hr
 · cases hr
inductive Gd where
 | yes
 | no
 | ask (v want:Bool)
def Fz (want:Bool):Option AV→Gd
 | some (.bool v)=> .ask v want
 | _=> .no
def Dk (ops:Array Oper) (ts:List AV) (g:Option (Nat×Bool)):Gd:=match g with
 | none=> .yes
 | some (j,want)=>match (ops[j]?).bind (·.dst) with
   | none=> .no
   | some d=>Fz want ts[d]?
theorem BF (ops:Array Oper) (ts:List AV) (o:Oper):b_ ops ts o=(match Dk ops ts o.guard with
 | .yes=>true
 | .no=>false
 | .ask v want=>v==want):=by
 unfold b_ Dk
 cases o.guard with
 | none=>rfl
 | some q=>
   obtain ⟨j,want⟩:=q
   simp only
   cases (ops[j]?).bind (·.dst) with
   | none=>rfl
   | some d=>
     simp only
     generalize ts[d]? =y
     unfold Fz
     cases y with
     | none=>rfl
     | some z=>cases z<;>rfl
noncomputable def nD (E:Env) (call:aW) (ops:Array Oper):List Oper→St→List lB→List Prop→R
 | [],s,as_,ps=> .at .normal s as_ ps
 | o::rest,s,as_,ps=>match Dk ops s.ts o.guard with
   | .yes=>(Fy E call o s as_ ps).go (nD E call ops rest)
   | .no=>(qy s o.dst AV.undef s.h as_ ps).go (nD E call ops rest)
   | .ask v want=>match as_ with
     | .b x::as_=>bif x==want then (Fy E call o s as_ ((v=x)::ps)).go (nD E call ops rest) else (qy s o.dst AV.undef s.h as_ ((v=x)::ps)).go (nD E call ops rest)
     | _=> .bad
theorem ur {ops:Array Oper}:∀(l:List Oper) (s:St) (as_:List lB) (ps:List Prop) (e:gR) (s':St) (rX:List lB) (oA:List Prop),nD E call ops l s as_ ps= .at e s' rX oA→ke oA→ke ps∧iL E call ops l s= .ok e s'
 | [],s,as_,ps,e,s',rX,oA,hr,hp=>by cases hr;exact ⟨hp,rfl⟩
 | o::rest,s,as_,ps,e,s',rX,oA,hr,hp=>by
   have ih:=ur (ops:=ops) rest
   have WV:∀(pP:List lB) (og:List Prop),(Fy E call o s pP og).go (nD E call ops rest)= .at e s' rX oA→ke og∧(b_ ops s.ts o=true→iL E call ops (o::rest) s= .ok e s'):=by
    intro pP og h
    rcases R.aae h with ⟨s1,MK,M8,h1,h2⟩ | ⟨h1,dD⟩
    · obtain ⟨h3,h4⟩:=ih _ _ _ _ _ _ _ h2 hp
      obtain ⟨h5,h6⟩:=wV h1 h3
      refine ⟨h5,fun hw=>?_⟩
      unfold iL
      rw[if_pos hw,h6];exact h4
    · obtain ⟨h5,h6⟩:=wV h1 hp
      refine ⟨h5,fun hw=>?_⟩
      unfold iL
      rw[if_pos hw,h6]
      cases e with
      | normal=>exact absurd rfl dD
      | _=>rfl
   have WW:∀(pP:List lB) (og:List Prop),(qy s o.dst AV.undef s.h pP og).go (nD E call ops rest)= .at e s' rX oA→ke og∧(b_ ops s.ts o=false→iL E call ops (o::rest) s= .ok e s'):=by
    intro pP og h
    rw[kQ] at h
    obtain ⟨h3,h4⟩:=ih _ _ _ _ _ _ _ (show nD E call ops rest _ pP og=_ from h) hp
    refine ⟨h3,fun hw=>?_⟩
    unfold iL
    rw[if_neg (by rw[hw];exact Bool.false_ne_true)]
    exact h4
   have hg:=BF ops s.ts o
   unfold nD at hr
   split at hr
   · rename_i h1;rw[h1] at hg;exact ⟨(WV _ _ hr).1,(WV _ _ hr).2 hg⟩
   · rename_i h1;rw[h1] at hg;exact ⟨(WW _ _ hr).1,(WW _ _ hr).2 hg⟩
   · rename_i v want h1
     rw[h1] at hg
     split at hr
     · rename_i x pP
       cases hx:x==want with
       | true=>
         rw[hx] at hr
         obtain ⟨⟨h2,h3⟩,h4⟩:=WV _ _ hr
         exact ⟨h3,h4 (by rw[hg,h2];exact hx)⟩
       | false=>
         rw[hx] at hr
         obtain ⟨⟨h2,h3⟩,h4⟩:=WW _ _ hr
         exact ⟨h3,h4 (by rw[hg,h2];exact hx)⟩
     · cases hr
inductive RT where
 | bad
 | ok (tr:List Step) (hs:List au) (s:St) (as_:List lB) (ps:List Prop)
def RT.step (x:Step):RT→RT
 | .ok tr hs s as_ ps=> .ok (x::tr) hs s as_ ps
 | .bad=> .bad
def RT.bound (x:Step) (h:au):RT→RT
 | .ok tr hs s as_ ps=> .ok (x::tr) (h::hs) s as_ ps
 | .bad=> .bad
def RT.put (s:St) (d:Option Tmp) (v:AV) (h:au) (k:St→RT):RT:=match d with
 | some i=>K6 (fun ts=>k ⟨ts,h,s.ds,s.rc⟩) s.ts i v
 | none=>k ⟨s.ts,h,s.ds,s.rc⟩
theorem RT.put_eq (s:St) (d:Option Tmp) (v:AV) (h:au) (k:St→RT):RT.put s d v h k=k {s with ts:=c_ s.ts d v,h:=h}:=by
 cases d with
 | none=>rfl
 | some i=>exact Dj _ _ _ _
noncomputable def FA (E:Env) (call:aW) (i k:Nat) (o:Oper) (s:St) (as_:List lB) (ps:List Prop) (go:Nat→St→List lB→List Prop→RT):RT:=match as_ with
 | .e x h'::as_=>(RT.put s o.dst x h' fun s'=>go (k+1) s' as_ (To E call s.ts s.h s.rc o x h'::ps)).bound ⟨i,k,s.ts,x,.rW h'⟩ s.h
 | _=> .bad
noncomputable def FB (E:Env) (i k:Nat) (o:Oper) (s:St) (as_:List lB) (ps:List Prop) (go:Nat→St→List lB→List Prop→RT):RT:=match as_ with
 | .c::as_=>match bk E s.ts o.op with
   | some v=>(RT.put s o.dst v s.h fun s'=>go k s' as_ ps).step ⟨i,k,s.ts,v,.fF⟩
   | none=> .bad
 | .v x::as_=>(RT.put s o.dst x s.h fun s'=>go k s' as_ ((Tm E s.ts o.op=some x)::ps)).step ⟨i,k,s.ts,x,.fF⟩
 | .q x::as_=>(RT.put s o.dst x s.h fun s'=>go k s' as_ ((bk E s.ts o.op=some x)::ps)).step ⟨i,k,s.ts,x,.fF⟩
 | .m x::as_=>match bk E s.ts o.op with
   | none=>(RT.put s o.dst x s.h fun s'=>go k s' as_ ((OS E s.ts s.h o.op=some x)::ps)).step ⟨i,k,s.ts,x,.red⟩
   | some _=> .bad
 | .n h'::as_=>match bk E s.ts o.op,dh E s.ts s.h o.op,dv E s.ts o.op with
   | none,none,some (obj,mk)=>(RT.put s o.dst (mk s.h.nx) h' fun s'=>go k s' as_ ((s.h.new obj=some h')::ps)).step ⟨i,k,s.ts,mk s.h.nx,.p_ s.h.nx obj⟩
   | _,_,_=> .bad
 | .a obj x h'::as_=>match bk E s.ts o.op,dh E s.ts s.h o.op with
   | none,none=>(RT.put s o.dst x h' fun s'=>go k s' as_ ((∃mk,Tn E s.ts o.op=some (obj,mk)∧mk s.h.nx=x)::(s.h.new obj=some h')::ps)).step ⟨i,k,s.ts,x,.p_ s.h.nx obj⟩
   | _,_=> .bad
 | _=> .bad
noncomputable def runT (E:Env) (call:aW) (ops:Array Oper):List Nat→Nat→St→List lB→List Prop→RT
 | [],_,s,as_,ps=> .ok [] [s.h] s as_ ps
 | i::rest,k,s,as_,ps=>match ops[i]? with
   | none=> .bad
   | some o=>match Dk ops s.ts o.guard with
     | .yes=>bif et E o.op then FA E call i k o s as_ ps (runT E call ops rest) else FB E i k o s as_ ps (runT E call ops rest)
     | .no=>bif et E o.op then (RT.put s o.dst AV.undef s.h fun s'=>runT E call ops rest (k+1) s' as_ ps).bound ⟨i,k,s.ts,AV.undef,.off⟩ s.h else (RT.put s o.dst AV.undef s.h fun s'=>runT E call ops rest k s' as_ ps).step ⟨i,k,s.ts,AV.undef,.off⟩
     | .ask v want=>match as_ with
       | .b x::as_=>bif x==want then (bif et E o.op then FA E call i k o s as_ ((v=x)::ps) (runT E call ops rest) else FB E i k o s as_ ((v=x)::ps) (runT E call ops rest))
         else (bif et E o.op then (RT.put s o.dst AV.undef s.h fun s'=>runT E call ops rest (k+1) s' as_ ((v=x)::ps)).bound ⟨i,k,s.ts,AV.undef,.off⟩ s.h else (RT.put s o.dst AV.undef s.h fun s'=>runT E call ops rest k s' as_ ((v=x)::ps)).step ⟨i,k,s.ts,AV.undef,.off⟩)
       | _=> .bad
theorem RT.o8 {x:Step} {r:RT} {tr:List Step} {hs:List au} {s:St} {as_:List lB} {ps:List Prop} (h:r.step x= .ok tr hs s as_ ps):∃GJ,tr=x::GJ∧r= .ok GJ hs s as_ ps:=by
 cases r with
 | bad=>cases h
 | ok a b c d e=>cases h;exact ⟨_,rfl,rfl⟩
theorem RT.FC {x:Step} {g:au} {r:RT} {tr:List Step} {hs:List au} {s:St} {as_:List lB} {ps:List Prop} (h:r.bound x g= .ok tr hs s as_ ps):∃GJ oJ,tr=x::GJ∧hs=g::oJ∧r= .ok GJ oJ s as_ ps:=by
 cases r with
 | bad=>cases h
 | ok a b c d e=>cases h;exact ⟨_,_,rfl,rfl,rfl⟩
theorem zo {ops:Array Oper}:∀(l:List Nat) (k:Nat) (s:St) (as_:List lB) (ps:List Prop) (tr:List Step) (hs:List au) (s':St) (rX:List lB) (oA:List Prop),
 runT E call ops l k s as_ ps= .ok tr hs s' rX oA→ke oA→ke ps∧cx E call ops l k s= .ok tr hs s'
 | [],k,s,as_,ps,tr,hs,s',rX,oA,hr,hp=>by cases hr;exact ⟨hp,rfl⟩
 | i::rest,k,s,as_,ps,tr,hs,s',rX,oA,hr,hp=>by
   have ih:=zo (ops:=ops) rest
   unfold runT at hr
   split at hr
   · cases hr
   rename_i o hi
   have hE:∀{pP:List lB} {og:List Prop},et E o.op=true→FA E call i k o s pP og (runT E call ops rest)= .ok tr hs s' rX oA→ke og∧(b_ ops s.ts o=true→cx E call ops (i::rest) k s= .ok tr hs s'):=by
    intro pP og he h
    unfold FA at h
    split at h
    · rename_i x h' MK
      rw[RT.put_eq] at h
      obtain ⟨I1,pU,rfl,rfl,h9⟩:=RT.FC h
      obtain ⟨h1,h2⟩:=ih _ _ _ _ _ _ _ _ _ h9 hp
      refine ⟨h1.2,fun hw=>?_⟩
      unfold cx
      simp only[hi,he,hw,if_true,Jy h1.1,h2]
      rfl
    · cases h
   have hN:∀{pP:List lB} {og:List Prop},et E o.op=false→FB E i k o s pP og (runT E call ops rest)= .ok tr hs s' rX oA→ke og∧(b_ ops s.ts o=true→cx E call ops (i::rest) k s= .ok tr hs s'):=by
    intro pP og he h
    unfold FB at h
    split at h
    · split at h
      · rename_i v hv
        rw[RT.put_eq] at h
        obtain ⟨I1,rfl,h9⟩:=RT.o8 h
        obtain ⟨h1,h2⟩:=ih _ _ _ _ _ _ _ _ _ h9 hp
        refine ⟨h1,fun hw=>?_⟩
        unfold cx
        simp only[hi,he,hw,if_true,hv,Bool.false_eq_true,if_false]
        rw[h2]
        rfl
      · cases h
    · rw[RT.put_eq] at h
      obtain ⟨I1,rfl,h9⟩:=RT.o8 h
      obtain ⟨h1,h2⟩:=ih _ _ _ _ _ _ _ _ _ h9 hp
      refine ⟨h1.2,fun hw=>?_⟩
      unfold cx
      simp only[hi,he,hw,if_true,Jw h1.1,Bool.false_eq_true,if_false]
      rw[h2]
      rfl
    · rw[RT.put_eq] at h
      obtain ⟨I1,rfl,h9⟩:=RT.o8 h
      obtain ⟨h1,h2⟩:=ih _ _ _ _ _ _ _ _ _ h9 hp
      refine ⟨h1.2,fun hw=>?_⟩
      unfold cx
      simp only[hi,he,hw,if_true,h1.1,Bool.false_eq_true,if_false]
      rw[h2]
      rfl
    · split at h
      · rename_i hv
        rw[RT.put_eq] at h
        obtain ⟨I1,rfl,h9⟩:=RT.o8 h
        obtain ⟨h1,h2⟩:=ih _ _ _ _ _ _ _ _ _ h9 hp
        refine ⟨h1.2,fun hw=>?_⟩
        unfold cx
        simp only[hi,he,hw,if_true,hv,Di h1.1,Bool.false_eq_true,if_false]
        rw[h2]
        rfl
      · cases h
    · split at h
      · rename_i q1 q2 q3
        rw[RT.put_eq] at h
        obtain ⟨I1,rfl,h9⟩:=RT.o8 h
        obtain ⟨h1,h2⟩:=ih _ _ _ _ _ _ _ _ _ h9 hp
        refine ⟨h1.2,fun hw=>?_⟩
        unfold cx
        simp only[hi,he,hw,if_true,q1,q2,q3,h1.1,Bool.false_eq_true,if_false,h2]
        rfl
      · cases h
    · split at h
      · rename_i q1 q2
        rw[RT.put_eq] at h
        obtain ⟨I1,rfl,h9⟩:=RT.o8 h
        obtain ⟨h1,h2⟩:=ih _ _ _ _ _ _ _ _ _ h9 hp
        obtain ⟨⟨mk,h3,h4⟩,h5,h6⟩:=h1
        rw[Jx] at h3
        subst h4
        refine ⟨h6,fun hw=>?_⟩
        unfold cx
        simp only[hi,he,hw,if_true,q1,q2,h3,h5,Bool.false_eq_true,if_false,h2]
        rfl
      · cases h
    · cases h
   have hO:∀{pP:List lB} {og:List Prop},(bif et E o.op then (RT.put s o.dst AV.undef s.h fun s'=>runT E call ops rest (k+1) s' pP og).bound ⟨i,k,s.ts,AV.undef,.off⟩ s.h else (RT.put s o.dst AV.undef s.h fun s'=>runT E call ops rest k s' pP og).step ⟨i,k,s.ts,AV.undef,.off⟩)= .ok tr hs s' rX oA→
    ke og∧(b_ ops s.ts o=false→cx E call ops (i::rest) k s= .ok tr hs s'):=by
    intro pP og h
    cases he:et E o.op with
    | true=>
      rw[he,cond_true,RT.put_eq] at h
      obtain ⟨I1,pU,rfl,rfl,h9⟩:=RT.FC h
      obtain ⟨h1,h2⟩:=ih _ _ _ _ _ _ _ _ _ h9 hp
      refine ⟨h1,fun hw=>?_⟩
      unfold cx
      simp only[hi,he,hw,if_true,Bool.false_eq_true,if_false]
      rw[h2]
      rfl
    | false=>
      rw[he,cond_false,RT.put_eq] at h
      obtain ⟨I1,rfl,h9⟩:=RT.o8 h
      obtain ⟨h1,h2⟩:=ih _ _ _ _ _ _ _ _ _ h9 hp
      refine ⟨h1,fun hw=>?_⟩
      unfold cx
      simp only[hi,he,hw,Bool.false_eq_true,if_false]
      rw[h2]
      rfl
   have hY:∀{pP:List lB} {og:List Prop},(bif et E o.op then FA E call i k o s pP og (runT E call ops rest) else FB E i k o s pP og (runT E call ops rest))= .ok tr hs s' rX oA→
    ke og∧(b_ ops s.ts o=true→cx E call ops (i::rest) k s= .ok tr hs s'):=by
    intro pP og h
    cases he:et E o.op with
    | true=>rw[he] at h;exact hE he h
    | false=>rw[he] at h;exact hN he h
   have hg:=BF ops s.ts o
   split at hr
   · rename_i h1;rw[h1] at hg;exact ⟨(hY hr).1,(hY hr).2 hg⟩
   · rename_i h1;rw[h1] at hg;exact ⟨(hO hr).1,(hO hr).2 hg⟩
   · rename_i v want h1
     rw[h1] at hg
     split at hr
     · rename_i x pP
       cases hx:x==want with
       | true=>
         rw[hx] at hr
         obtain ⟨⟨h2,h3⟩,h4⟩:=hY hr
         exact ⟨h3,h4 (by rw[hg,h2];exact hx)⟩
       | false=>
         rw[hx] at hr
         obtain ⟨⟨h2,h3⟩,h4⟩:=hO hr
         exact ⟨h3,h4 (by rw[hg,h2];exact hx)⟩
     · cases hr
noncomputable def HB (E:Env) (ops:Array Oper) (x:Step) (h:au) (ps:List Prop):List Prop:=match x.kind with
 | .red=>match ops[x.i]? with
   | some o=>(AV.same 20 x.v x.v=true)::(OS E x.ts h o.op=some x.v)::ps
   | none=>False::ps
 | .p_ n obj=>(∃o,h.get n=some o∧aR.same o obj=true)::ps
 | _=>ps
noncomputable def HC (E:Env) (ops:Array Oper) (x:Step):List au→List Prop→List Prop
 | [],ps=>ps
 | h::hs,ps=>HC E ops x hs (HB E ops x h ps)
noncomputable def uu (E:Env) (ops:Array Oper) (bD:List Nat) (an:List (List Nat)) (hs:List au):List Step→List Prop→List Prop
 | [],ps=>ps
 | x::tr,ps=>uu E ops bD an hs tr (HC E ops x ((hs.drop x.k).take (iM bD an x.i+1 - x.k)) ps)
theorem K7 {ops:Array Oper} {x:Step} {h:au} {ps:List Prop} (hc:ke (HB E ops x h ps)):ke ps∧hT E ops x h=true:=by
 unfold HB at hc
 unfold hT
 split at hc
 · rename_i hk
   simp only[hk]
   split at hc
   · rename_i o ho
     have fB:ops.getD x.i default=o:=by simp [Array.getD_eq_getD_getElem?,ho]
     simp only[fB,Di hc.2.1,hc.1]
     exact ⟨hc.2.2,trivial⟩
   · exact hc.1.elim
 · rename_i n obj hk
   obtain ⟨⟨o,h1,h2⟩,h3⟩:=hc
   simp only[hk,h1,h2]
   exact ⟨h3,trivial⟩
 · rename_i h1 h2
   refine ⟨hc,?_⟩
   split
   · rename_i hk;exact absurd hk (by assumption)
   · rename_i hk;exact absurd hk (h2 _ _)
   · rfl
theorem BG {ops:Array Oper} {x:Step}:∀(hs:List au) (ps:List Prop),ke (HC E ops x hs ps)→ke ps∧hs.all (hT E ops x)=true
 | [],ps,hc=>⟨hc,rfl⟩
 | h::hs,ps,hc=>by
   obtain ⟨h1,h2⟩:=BG hs _ hc
   obtain ⟨h3,h4⟩:=K7 h1
   exact ⟨h3,by simp only[List.all_cons,h4,h2,Bool.and_self]⟩
theorem wX {ops:Array Oper} {bD:List Nat} {an:List (List Nat)} {hs:List au}:∀(tr:List Step) (ps:List Prop),ke (uu E ops bD an hs tr ps)→
 ke ps∧(tr.all fun x=>((hs.drop x.k).take (iM bD an x.i+1 - x.k)).all (hT E ops x))=true
 | [],ps,hc=>⟨hc,rfl⟩
 | x::tr,ps,hc=>by
   obtain ⟨h1,h2⟩:=wX tr _ hc
   obtain ⟨h3,h4⟩:=BG _ _ h1
   exact ⟨h3,by simp only[List.all_cons,h4,h2,Bool.and_self]⟩
noncomputable def OT (l:List Nat) (ps:List Prop):List Prop:=match l with
 | []=>ps
 | [_]=>ps
 | l=>(nodup l=true)::ps
noncomputable def Dl (E:Env) (call:aW) (ops:Array Oper) (s:St) (as_:List lB) (ps:List Prop):R:=match p8 E ops with
 | none=> .bad
 | some pl=>match runT E call ops pl.order 0 s as_ ps with
   | .ok tr hs s' rX oA=> .at .normal s' rX (OT (oE tr) (uu E ops pl.bD pl.an hs tr oA))
   | .bad=> .bad
theorem AX {ops:Array Oper} {s:St} {as_:List lB} {ps:List Prop} {e:gR} {s':St} {rX:List lB} {oA:List Prop} (hr:Dl E call ops s as_ ps= .at e s' rX oA) (hp:ke oA):ke ps∧tL E call ops s= .ok e s':=by
 unfold Dl at hr
 split at hr
 · cases hr
 rename_i pl Ku
 split at hr
 · rename_i tr hs s1 pP og h1
   cases hr
   have hn:ke (uu E ops pl.bD pl.an hs tr og)∧nodup (oE tr)=true:=by
    unfold OT at hp
    split at hp
    · rename_i hm;exact ⟨hp,by rw[hm];rfl⟩
    · rename_i hm;exact ⟨hp,by rw[hm];rfl⟩
    · exact ⟨hp.2,hp.1⟩
   obtain ⟨h2,h3⟩:=wX _ _ hn.1
   obtain ⟨h4,h5⟩:=zo _ _ _ _ _ _ _ _ _ _ h1 h2
   refine ⟨h4,?_⟩
   unfold tL
   simp only[Ku,h5]
   have:oF E ops pl tr hs=true:=by
    unfold oF
    rw[hn.2,Bool.true_and]
    exact h3
   rw[if_pos this]
 · cases hr
noncomputable def run (E:Env) (call:aW):Nat→Code→St→List lB→List Prop→R
 | 0,_,_,_,_=> .bad
 | n+1,c,s,as_,ps=>match c with
   | .skip=> .at .normal s as_ ps
   | .ret=> .at .ret s as_ ps
   | .exit i=> .at (.exit i) s as_ ps
   | .seq a b=>match run E call n a s as_ ps with
     | .at .normal s1 pP og=>run E call n b s1 pP og
     | r=>r
   | .cond x a b=>match as_ with
     | .b v::as_=>match du E s.ts x with
       | some (.bool u)=>bif v then run E call n a s as_ ((u=true)::ps) else run E call n b s as_ ((u=false)::ps)
       | _=> .bad
     | .l e s'::as_=> .at e s' as_ (Ev E call (.cond x a b) s e s'::ps)
     | _=> .bad
   | .block id b=>match run E call n b s as_ ps with
     | .at (.exit j) s1 pP og=>bif Nat.beq j id then .at .normal s1 pP og else .at (.exit j) s1 pP og
     | r=>r
   | .loop b=>match as_ with
     | .l e s'::as_=> .at e s' as_ (Ev E call (.loop b) s e s'::ps)
     | _=> .bad
   | .rangeFunc f oA a b=>match as_ with
     | .l e s'::as_=> .at e s' as_ (Ev E call (.rangeFunc f oA a b) s e s'::ps)
     | _=> .bad
   | .region i ops draw=>match as_ with
     | .l e s'::as_=> .at e s' as_ (Ev E call (.region i ops draw) s e s'::ps)
     | as_=>bif draw then Dl E call ops s as_ ps else nD E call ops ops.toList s as_ ps
   | .scope b=>run E call n b s as_ ps
   | .label _=> .at .normal s as_ ps
   | _=> .bad
theorem BH:∀(n:Nat) (c:Code) (s:St) (as_:List lB) (ps:List Prop) (e:gR) (s':St) (rX:List lB) (oA:List Prop),run E call n c s as_ ps= .at e s' rX oA→ke oA→ke ps∧Ev E call c s e s'
 | 0,c,s,as_,ps,e,s',rX,oA,hr,hp=>by cases hr
 | n+1,c,s,as_,ps,e,s',rX,oA,hr,hp=>by
   have ih:=BH n
   unfold run at hr
   split at hr
   · cases hr;exact ⟨hp,.of fun _=>rfl⟩
   · cases hr;exact ⟨hp,.of fun _=>rfl⟩
   · cases hr;exact ⟨hp,.of fun _=>rfl⟩
   · split at hr
     · rename_i s1 pP og h1
       obtain ⟨h2,h3⟩:=ih _ _ _ _ _ _ _ _ hr hp
       obtain ⟨h4,h5⟩:=ih _ _ _ _ _ _ _ _ h1 h2
       exact ⟨h4,h5.seq h3⟩
     · rename_i dD
       obtain ⟨h4,h5⟩:=ih _ _ _ _ _ _ _ _ hr hp
       refine ⟨h4,h5.seq' fun he=>?_⟩
       subst he;exact dD _ _ _ hr
   · split at hr
     · rename_i v pP
       split at hr
       · rename_i u hu
         cases v with
         | true=>
           obtain ⟨⟨h1,h2⟩,n0,h3⟩:=ih _ _ _ _ _ _ _ _ hr hp
           refine ⟨h2,n0+1,fun n hn=>?_⟩
           obtain ⟨k,rfl⟩:∃k,n=k+1:=⟨n - 1,by omega⟩
           rw[OL,hu,h1,HA];exact h3 k (by omega)
         | false=>
           obtain ⟨⟨h1,h2⟩,n0,h3⟩:=ih _ _ _ _ _ _ _ _ hr hp
           refine ⟨h2,n0+1,fun n hn=>?_⟩
           obtain ⟨k,rfl⟩:∃k,n=k+1:=⟨n - 1,by omega⟩
           rw[OL,hu,h1,Fv];exact h3 k (by omega)
       · cases hr
     · cases hr;exact ⟨hp.2,hp.1⟩
     · cases hr
   · split at hr
     · rename_i id b _ j s1 pP og h1
       cases hj:Nat.beq j id with
       | true=>
         rw[hj] at hr
         cases hr
         obtain ⟨h2,n0,h3⟩:=ih _ _ _ _ _ _ _ _ h1 hp
         refine ⟨h2,n0+1,fun n hn=>?_⟩
         obtain ⟨k,rfl⟩:∃k,n=k+1:=⟨n - 1,by omega⟩
         rw[ya,h3 k (by omega),wQ,if_pos (Nat.eq_of_beq_eq_true hj)]
       | false=>
         rw[hj] at hr
         cases hr
         obtain ⟨h2,n0,h3⟩:=ih _ _ _ _ _ _ _ _ h1 hp
         refine ⟨h2,n0+1,fun n hn=>?_⟩
         obtain ⟨k,rfl⟩:∃k,n=k+1:=⟨n - 1,by omega⟩
         rw[ya,h3 k (by omega),wQ,if_neg (Nat.ne_of_beq_eq_false hj)]
     · rename_i id b _ dD
       obtain ⟨h2,n0,h3⟩:=ih _ _ _ _ _ _ _ _ hr hp
       refine ⟨h2,n0+1,fun n hn=>?_⟩
       obtain ⟨k,rfl⟩:∃k,n=k+1:=⟨n - 1,by omega⟩
       rw[ya,h3 k (by omega)]
       cases e with
       | exit j=>exact absurd hr (dD _ _ _ _)
       | _=>rfl
   · split at hr
     · cases hr;exact ⟨hp.2,hp.1⟩
     · cases hr
   · split at hr
     · cases hr;exact ⟨hp.2,hp.1⟩
     · cases hr
   · rename_i i ops draw
     split at hr
     · cases hr;exact ⟨hp.2,hp.1⟩
     cases draw with
     | true=>
       simp only[cond_true] at hr
       obtain ⟨h1,h2⟩:=AX hr hp
       exact ⟨h1,.of fun n=>by rw[Ta];exact h2⟩
     | false=>
       simp only[cond_false] at hr
       obtain ⟨h1,h2⟩:=ur _ _ _ _ _ _ _ _ hr hp
       exact ⟨h1,.of fun n=>by rw[ON];exact h2⟩
   · obtain ⟨h1,n0,h2⟩:=ih _ _ _ _ _ _ _ _ hr hp
     exact ⟨h1,n0+1,fun n hn=>by
      obtain ⟨k,rfl⟩:∃k,n=k+1:=⟨n - 1,by omega⟩
      show exec E call k _ s=_
      exact h2 k (by omega)⟩
   · cases hr;exact ⟨hp,.of fun _=>rfl⟩
   · cases hr
theorem HD {n:Nat} {c:Code} {s:St} {al:List lB} {e:gR} {s':St} {ps:List Prop} (hr:run E call n c s al []= .at e s' [] ps) (hp:ke ps):Ev E call c s e s':=(BH _ _ _ _ _ _ _ _ _ hr hp).2
theorem Dm {tmpl:(Nat→AV)→List AV} {c:Code} {s:St} {e:gR} {h:au} {ds:List nw} {rc:RC} {L:List AV} (ev:Ev E call c s e ⟨L,h,ds,rc⟩) (hl:L=tmpl fun k=>L.getD k AV.undef):∃y,Ev E call c s e ⟨tmpl y,h,ds,rc⟩:=by
 refine ⟨fun k=>L.getD k AV.undef,?_⟩
 rw[←hl];exact ev
theorem Tp {f:FuncId} {fn:Func} {c:Code} (hf:E.P.funcs[f]? =some fn) (hb:fn.body=some c) {args:List AV} {h h':au} {ts:List AV} {x:gR} (hx:x= .normal∨x= .ret)
 (e:Ev E call c ⟨args++List.replicate (fn.ntmps - args.length) AV.undef,h,[],.no⟩ x ⟨ts,h',[],.no⟩) {vs:List AV} (hr:iy E h' ts fn.results.toList=some vs):∃n0,∀n,n0≤n→uk E call n f args h= .ret (eW vs) h':=by
 obtain ⟨n0,e⟩:=e
 exact ⟨n0,fun n hn=>K3 hf hb hx (e n hn) hr⟩
def r7 (E:Env) (call:aW) (f:FuncId) (args:List AV) (h:au) (v:AV) (h':au):Prop:=∃n0,∀n,n0≤n→uk E call n f args h= .ret v h'
theorem bu {f:FuncId} {fn:Func} {c:Code} {args Ve ts:List AV} {h h':au} {x:gR} {v:AV} (hf:E.P.funcs[f]? =some fn) (hb:fn.body=some c) (ht:args++List.replicate (fn.ntmps - args.length) AV.undef=Ve) (hx:x= .normal∨x= .ret)
 (e:Ev E call c ⟨Ve,h,[],.no⟩ x ⟨ts,h',[],.no⟩) (hr:(iy E h' ts fn.results.toList).map eW=some v):r7 E call f args h v h':=by
 subst ht
 cases hv:iy E h' ts fn.results.toList with
 | none=>rw[hv] at hr;cases hr
 | some vs=>
   rw[hv] at hr
   obtain rfl:eW vs=v:=Option.some.inj hr
   exact Tp hf hb hx e hv
end Go.Ab
end
section
namespace Go.Ab
variable {E:Env}
theorem zp {t:TypeId} {c d:Bool} {k:IntKind} {a b z:Int} (h:k.wrap (a+b)=z):bU E .add t c d (some (.int k a)) (some (.int k b))=some (.int k z):=by rw[Ju,h]
theorem zq {t:TypeId} {c d:Bool} {k:IntKind} {a b z:Int} (h:k.wrap (a - b)=z):bU E .sub t c d (some (.int k a)) (some (.int k b))=some (.int k z):=by rw[Tc,h]
theorem HE {t:TypeId} {c d:Bool} {k:IntKind} {a b z:Int} (h:k.wrap (a*b)=z):bU E .mul t c d (some (.int k a)) (some (.int k b))=some (.int k z):=by rw[Td,h]
theorem cy {t:TypeId} {c d:Bool} {k:IntKind} {a b z:Int} (hb:b≠0) (h:a.tmod b=z):bU E .rem t c d (some (.int k a)) (some (.int k b))=some (.int k z):=by simp [bU,iJ,cF,hb,h]
theorem ib (k:IntKind) (n:Int):AV.scalar (.int k n)=true:=rfl
theorem fL (b:Bool):AV.scalar (.bool b)=true:=rfl
theorem ic (b:List UInt8):AV.scalar (.str b)=true:=rfl
theorem ie (i o:Nat):AV.scalar (.ptr i o)=true:=rfl
theorem ei (i o n c:Nat) (b:Bool):AV.scalar (.slice i o n c b)=true:=rfl
theorem kR:AV.scalar .aI=true:=rfl
theorem kS:AV.scalar .eU=true:=rfl
theorem kT:AV.scalar .dc=true:=rfl
theorem kU:AV.scalar .nilFunc=true:=rfl
theorem kV:AV.scalar .nilIface=true:=rfl
theorem ig (i:Nat):AV.scalar (.map i)=true:=rfl
theorem oh {h:au} {t:TypeId} {i o:Nat} {cs:List AV} {e:TypeId} {ro:Bool} {v:AV} (hg:h.get i=some (.cells cs e ro)) (hv:fU E t cs o=some v):bw E h t (.ptr i o)=some v:=by
 simp only[bw,hg,hv]
theorem iD {h h':au} {o:aR} (n:h.new o=some h'):h'.get h.nx=some o:=(au.jK n).2.2.1
theorem kq {h h':au} {o:aR} (n:h.new o=some h'):h'.nx=h.nx+1:=(au.jK n).2.1
theorem eZ {h h':au} {o x:aR} {i:Nat} (y:Tidy h) (n:h.new o=some h') (g:h.get i=some x):h'.get i=some x:=by
 have:=y i x g
 rw[(au.jK n).2.2.2 i (by omega)];exact g
theorem uv {h h':au} {o:aR} (y:Tidy h) (n:h.new o=some h'):Has h h':=fun _ _ g=>eZ y n g
theorem fM {h h':au} {o:aR} (y:Tidy h) (n:h.new o=some h'):Tidy h':=fun i x g=>by
 obtain ⟨_,h2,h3,h4⟩:=au.jK n
 by_cases hx:i=h.nx
 · omega
 · rw[h4 i hx] at g;have:=y i x g;omega
theorem kr {h:au} (o:aR):∃h',h.new o=some h':=⟨_,au.Cm _ _⟩
theorem uw {h:au} {t e:TypeId} {i o n:Nat} {cs:List AV} {v:AV} (g:h.get i=some (.cells cs e false)) (hs:bT E t=some n) (hv:v.cells.length=n) (ho:o+n≤cs.length) (hk:v.cells.all AV.scalar=true):∃h',dX E h t (.ptr i o) v=some h':=by
 refine ⟨h.put i (some (.cells (setFrom cs o v.cells) e false)),?_⟩
 simp only[dX,g,hs]
 rw[if_pos ⟨hv,ho,hk⟩]
theorem ux {h h':au} {t e:TypeId} {i o:Nat} {cs:List AV} {v:AV} (s:dX E h t (.ptr i o) v=some h') (g:h.get i=some (.cells cs e false)):h'=h.put i (some (.cells (setFrom cs o v.cells) e false)):=by
 simp only[dX,g] at s
 split at s
 · rename_i h1 _
   cases h1
   split at s
   · exact (Option.some.inj s).symm
   · cases s
 · cases s
theorem rL {h h':au} {t e:TypeId} {i o:Nat} {cs:List AV} {v:AV} (y:Tidy h) (s:dX E h t (.ptr i o) v=some h') (g:h.get i=some (.cells cs e false)):h'.get i=some (.cells (setFrom cs o v.cells) e false):=by
 rw[ux s g]
 have:=y i _ g
 exact au.bF _
theorem mu {h h':au} {t e:TypeId} {i j o:Nat} {cs:List AV} {v:AV} {x:aR} (y:Tidy h) (s:dX E h t (.ptr i o) v=some h') (g:h.get i=some (.cells cs e false)) (hj:j≠i) (gx:h.get j=some x):h'.get j=some x:=by
 rw[ux s g]
 have:=y i _ g
 rw[au.aY (Ne.symm hj)];exact gx
theorem qz {h h':au} {t e:TypeId} {i o:Nat} {cs:List AV} {v:AV} (s:dX E h t (.ptr i o) v=some h') (g:h.get i=some (.cells cs e false)):h'.nx=h.nx:=by
 rw[ux s g];exact au.V3 _ _ _
theorem o9 {h h':au} {t e:TypeId} {i o:Nat} {cs:List AV} {v:AV} (y:Tidy h) (s:dX E h t (.ptr i o) v=some h') (g:h.get i=some (.cells cs e false)):Tidy h':=fun j x gj=>by
 have hi:=y i _ g
 rw[qz s g]
 by_cases hx:j=i
 · omega
 · rw[ux s g,au.aY (Ne.symm hx)] at gj
   exact y j x gj
def Chg (h h':au) (b:Nat) (o:aR):Prop:=Tidy h'∧h'.get b=some o∧∀i x,i≠b→h.get i=some x→h'.get i=some x
end Go.Ab
end
section
namespace Go.Ab
variable {E:Env}
theorem dT {p:Prop} [Decidable p] (h:p):decide p=true:=decide_eq_true h
theorem dF {p:Prop} [Decidable p] (h:¬p):decide p=false:=decide_eq_false h
theorem nT {p:Prop} [Decidable p] (h:¬p):(!decide p)=true:=by rw[decide_eq_false h];rfl
theorem nF {p:Prop} [Decidable p] (h:p):(!decide p)=false:=by rw[decide_eq_true h];rfl
def cX:Code→List Code
 | .seq a b=>cX a++cX b
 | .cond _ a b=>cX a++cX b
 | .block _ b=>cX b
 | .loop b=>b::cX b
 | .scope b=>cX b
 | .rangeFunc _ _ _ b=>b::cX b
 | _=> []
structure lL (E:Env) (h:au) (e:TypeId) (n:Nat) (av:AV) (len:Nat) (cs:List AV):Prop where
 size:bT E e=some n
 cells:cs.length=len*n
 small:len<2^60
 lens:eF (some (.slice e)) (some av)=some (.int .i64 (len:Nat))
 block:len=0∨∃p o m c b C f ro,av= .slice p o m c b∧m≤c∧h.get p=some (.cells C f ro)∧(∀j,j<cs.length→C[o+j]? =cs[j]?)
theorem lL.has {h h':au} {e:TypeId} {n:Nat} {av:AV} {len:Nat} {cs:List AV} (x:lL E h e n av len cs) (hh:Has h h'):lL E h' e n av len cs:=
 ⟨x.size,x.cells,x.small,x.lens,x.block.imp id fun ⟨p,o,m,c,b,C,f,ro,h1,h0,h2,h3⟩=>⟨p,o,m,c,b,C,f,ro,h1,h0,hh _ _ h2,h3⟩⟩
theorem lL.elem {h:au} {e:TypeId} {av:AV} {len:Nat} {cs:List AV} (x:lL E h e 1 av len cs) (ha:eA E e=some false) {i:Nat} {v:AV} (hv:cs[i]? =some v):
 ∃p q,dL E (some (.slice e)) (some av) (some (.int .i64 (i:Nat)))=some (.ptr p q)∧bw E h e (.ptr p q)=some v:=by
 have hi:=(List.getElem?_eq_some_iff.1 hv).1
 have hl:cs.length=len:=by rw[x.cells,Nat.mul_one]
 rcases x.block with h0 | ⟨p,o,m,c,b,C,f,ro,h1,_,h2,h3⟩
 · omega
 · subst h1
   have hm:m=len:=by
    have:=x.lens
    rw[eY] at this
    simp only[Option.some.injEq,AV.int.injEq,true_and] at this
    omega
   refine ⟨p,o+i*1,b7 x.size (by omega),?_⟩
   simp only[bw,h2,fU,ha,Nat.mul_one]
   rw[h3 i hi,hv]
def r9 (k:IntKind) (l:List Nat):List AV:=l.map fun (n:Nat)=> .int k (n:Int)
structure dY (E:Env) (h:au) (k:IntKind) (e:TypeId) (av:AV) (l:List Nat):Prop where
 at_:lL E h e 1 av l.length (r9 k l)
 agg:eA E e=some false
 known:av= .aI∨∃p o n c b,av= .slice p o n c b∧(b=true→0<c)
theorem qA {k:IntKind} {l:List Nat} {i:Nat} {z:Nat} (h:l[i]? =some z):(r9 k l)[i]? =some (.int k (z:Int)):=by simp [r9,h]
theorem dY.elem {h:au} {k:IntKind} {e:TypeId} {av:AV} {l:List Nat} (x:dY E h k e av l) {i:Nat} {z:Nat} (hz:l[i]? =some z):
 ∃p q,dL E (some (.slice e)) (some av) (some (.int .i64 (i:Nat)))=some (.ptr p q)∧bw E h e (.ptr p q)=some (.int k (z:Int)):=x.at_.elem x.agg (qA hz)
theorem dY.len {h:au} {k:IntKind} {e:TypeId} {av:AV} {l:List Nat} (x:dY E h k e av l):eF (some (.slice e)) (some av)=some (.int .i64 (l.length:Nat)):=x.at_.lens
theorem kW (k:IntKind) (l:List Nat):(r9 k l).length=l.length:=by simp [r9]
theorem dY.small {h:au} {k:IntKind} {e:TypeId} {av:AV} {l:List Nat} (x:dY E h k e av l):l.length<2^60:=x.at_.small
def Off (p:Nat) (av:AV):Prop:=∀o n c b,av≠ .slice p o n c b
theorem dY.of {h:au} {k:IntKind} {e:TypeId} {l:List Nat} {p o c:Nat} {b:Bool} {C:List AV} {f:TypeId} {ro:Bool} (hs:bT E e=some 1) (ha:eA E e=some false) (hl:l.length<2^60) (hc:l.length≤c) (hb:b=true→0<c) (hg:h.get p=some (.cells C f ro))
 (hv:∀(i:Nat) z,l[i]? =some z→C[o+i]? =some (.int k (z:Int))):dY E h k e (.slice p o l.length c b) l:=
 ⟨⟨hs,by rw[kW];omega,hl,rfl,.inr ⟨p,o,_,c,b,C,f,ro,rfl,hc,hg,fun j hj=>by
   rw[kW] at hj
   rw[hv j l[j] (List.getElem?_eq_getElem hj),qA (List.getElem?_eq_getElem hj)]⟩⟩,ha,.inr ⟨p,o,_,c,b,rfl,hb⟩⟩
theorem dY.nil {h:au} {k:IntKind} {e:TypeId} (hs:bT E e=some 1) (ha:eA E e=some false):dY E h k e .aI []:=
 ⟨⟨hs,rfl,by decide,rfl,.inl rfl⟩,ha,.inl rfl⟩
theorem dY.inv {h:au} {k:IntKind} {e:TypeId} {l:List Nat} {p o n c:Nat} {b:Bool} (x:dY E h k e (.slice p o n c b) l):n=l.length∧(l≠ []→l.length≤c∧∃C f ro,h.get p=some (.cells C f ro)∧∀(i:Nat) z,l[i]? =some z→C[o+i]? =some (.int k (z:Int))):=by
 have hn:n=l.length:=by
  have:=x.len
  rw[eY] at this
  simp only[Option.some.injEq,AV.int.injEq,true_and] at this
  omega
 refine ⟨hn,fun dD=>?_⟩
 rcases x.at_.block with h0 | ⟨p',o',m,c',b',C,f,ro,h1,h0,h2,h3⟩
 · exact absurd (List.length_eq_zero_iff.1 h0) dD
 · cases h1
   refine ⟨by omega,C,f,ro,h2,fun i z hz=>?_⟩
   rw[h3 i (by rw[kW];exact (List.getElem?_eq_some_iff.1 hz).1),qA hz]
theorem oi {len cap lo hi:Nat} (low high:Option AV) (hl:low=some (.int .i64 (lo:Nat))∨(low=none∧lo=0)) (hh:high=some (.int .i64 (hi:Nat))∨(high=none∧hi=len)) (h1:lo≤hi) (h2:hi≤cap):jf len cap low high none=some (lo,hi,cap):=by
 have b:∀(x y:Nat),x≤y→lV (.int .i64 (x:Nat)) y=some x:=fun x y h=>by
  simp only[lV]
  rw[if_pos ⟨by omega,by omega⟩,Int.toNat_natCast]
 unfold jf
 rcases hh with rfl | ⟨rfl,rfl⟩<;>rcases hl with rfl | ⟨rfl,rfl⟩<;>simp [b,h1,h2]
theorem dY.slice {h:au} {k:IntKind} {e t:TypeId} {av:AV} {l:List Nat} (x:dY E h k e av l) (ht:E.P.underlying t=some (.slice e)) {lo hi:Nat} (low high:Option AV) (hl:low=some (.int .i64 (lo:Nat))∨(low=none∧lo=0)) (hh:high=some (.int .i64 (hi:Nat))∨(high=none∧hi=l.length)) (h1:lo≤hi) (h2:hi≤l.length) (h3:l.length=0∨lo<l.length):
 ∃r,dW E t av low high none=some r∧dY E h k e r ((l.take hi).drop lo)∧∀p,Off p av→Off p r:=by
 rcases x.known with rfl | ⟨p,o,n,c,b,rfl,hb⟩
 · have V6:l.length=0:=by
    have:=x.len
    rw[uo] at this
    simp only[Option.some.injEq,AV.int.injEq,true_and] at this
    omega
   obtain rfl:=List.length_eq_zero_iff.1 V6
   simp only[List.length_nil] at *
   have RG:hi=0:=by omega
   subst RG
   have RE:lo=0:=by omega
   subst RE
   refine ⟨.aI,?_,by simpa using x,fun p hp=>hp⟩
   simp only[dW,ht,x.at_.size,oi (len:=0) (cap:=0) low high hl hh (Nat.le_refl 0) (Nat.le_refl 0)]
 · obtain ⟨rfl,hx⟩:=x.inv
   have Zh:l.length≤c:=by
    by_cases dD:l=[]
    · subst dD;exact Nat.zero_le _
    · exact (hx dD).1
   have hr:∃o' c',dW E t (.slice p o l.length c b) low high none=some (.slice p o' (hi - lo) c' b)∧(b=true→0<c')∧hi - lo≤c'∧(hi - lo≠0→o'=o+lo):=by
    simp only[dW,ht,x.at_.size,Zh,if_true,oi (len:=l.length) (cap:=c) low high hl hh h1 (by omega)]
    by_cases hm:c=lo
    · have V':b=false:=by
       cases b with
       | false=>rfl
       | true=>have:=hb rfl;omega
      subst V'
      rw[if_pos hm]
      exact ⟨o,c - lo,rfl,by simp,by omega,fun h=>by omega⟩
    · rw[if_neg hm]
      refine ⟨o+lo*1,c - lo,by simp,fun h=>by omega,by omega,fun h=>by omega⟩
   obtain ⟨o',c',e1,e2,e3,e4⟩:=hr
   refine ⟨_,e1,?_,fun q hq o' n' c' b' he=>by cases he;exact hq _ _ _ _ rfl⟩
   have hlen:((l.take hi).drop lo).length=hi - lo:=by simp;omega
   rw[←hlen]
   by_cases h0:hi - lo=0
   · have:(l.take hi).drop lo=[]:=List.length_eq_zero_iff.1 (by omega)
     rw[this]
     exact ⟨⟨x.at_.size,rfl,by decide,rfl,.inl rfl⟩,x.agg,.inr ⟨_,_,_,_,_,rfl,e2⟩⟩
   · have dD:l≠ []:=fun e=>by subst e;simp at h2;omega
     obtain ⟨_,C,f,ro,g1,g2⟩:=hx dD
     refine dY.of x.at_.size x.agg (by have:=x.small;omega) (by omega) e2 g1 fun i z hz=>?_
     have Cq:i<hi - lo:=by rw[←hlen];exact (List.getElem?_eq_some_iff.1 hz).1
     rw[e4 h0,Nat.add_assoc]
     apply g2
     rw[List.getElem?_drop,List.getElem?_take_of_lt (by omega)] at hz
     exact hz
structure RO (h:au) (av:AV) (p o n:Nat) (C:List AV) (f:TypeId):Prop where
 is:∃c b,av= .slice p o n c b∧n≤c
 get:h.get p=some (.cells C f false)
 fits:o+n≤C.length
theorem RO.len {h:au} {av:AV} {p o n:Nat} {C:List AV} {f e:TypeId} (w:RO h av p o n C f):eF (some (.slice e)) (some av)=some (.int .i64 (n:Nat)):=by
 obtain ⟨c,b,rfl,_⟩:=w.is
 rfl
theorem RO.slice {h:au} {av:AV} {p o n:Nat} {C:List AV} {f e t:TypeId} (w:RO h av p o n C f) (hs:bT E e=some 1) (ht:E.P.underlying t=some (.slice e)) {lo hi:Nat} (low high:Option AV) (hl:low=some (.int .i64 (lo:Nat))∨(low=none∧lo=0)) (hh:high=some (.int .i64 (hi:Nat))∨(high=none∧hi=n)) (h1:lo≤hi) (h2:hi≤n) (h3:lo<n):
 ∃r,dW E t av low high none=some r∧RO h r p (o+lo) (hi - lo) C f:=by
 obtain ⟨c,b,rfl,hc⟩:=w.is
 have:=w.fits
 refine ⟨.slice p (o+lo) (hi - lo) (c - lo) b,?_,⟨⟨_,_,rfl,by omega⟩,w.get,by omega⟩⟩
 simp only[dW,ht,hs,hc,if_true,oi (len:=n) (cap:=c) low high hl hh h1 (by omega)]
 rw[if_neg (by omega)]
 simp
def Holds (k:IntKind) (C:List AV) (o:Nat) (l:List Nat):Prop:=∀(i z:Nat),l[i]? =some z→C[o+i]? =some (.int k (z:Int))
theorem Holds.behind {k:IntKind} {C:List AV} {o:Nat} {l ws:List Nat} (x:Holds k C o l) {i z:Nat} (hi:ws.length≤i) (hz:l[i]? =some z):(setFrom C o (r9 k ws))[o+i]? =some (.int k (z:Int)):=by
 rw[dy,if_neg (by rw[kW];omega)]
 exact x i z hz
theorem RO.load {h:au} {av:AV} {p o n:Nat} {C:List AV} {f e:TypeId} {i:Nat} {v:AV} (w:RO h av p o n C f) (ha:eA E e=some false) (hv:C[o+i]? =some v):bw E h e (.ptr p (o+i))=some v:=by
 simp only[bw,w.get,fU,ha,hv]
theorem RO.r9 {h:au} {av:AV} {p o n:Nat} {C:List AV} {f e:TypeId} {k:IntKind} {l:List Nat} (w:RO h av p o n C f) (hs:bT E e=some 1) (ha:eA E e=some false) (hn:l.length=n) (RI:n<2^60) (x:Holds k C o l) (hb:∀c b,av= .slice p o n c b→b=true→0<c):dY E h k e av l:=by
 obtain ⟨c,b,rfl,hc⟩:=w.is
 subst hn
 exact dY.of hs ha RI hc (hb c b rfl) w.get x
theorem Holds.of {k:IntKind} {C:List AV} {o:Nat} {l:List Nat} (hf:o+l.length≤C.length):Holds k (setFrom C o (r9 k l)) o l:=fun i z hz=>by
 have hi:=(List.getElem?_eq_some_iff.1 hz).1
 rw[dy,if_pos ⟨by omega,by rw[kW];omega,by omega⟩,Nat.add_sub_cancel_left,qA hz]
end Go.Ab
end
section
namespace Go.Ab
open Go.WideElems Go.RowKit Go.Proofs
variable {E:Env}
theorem CR.plain {φ φ':Ph} {cs:List AV} {t:TypeId} {ro:Bool} {l:Loc} {C:Array Value} {lo hi:Nat} (h:CR E φ' cs t ro l C lo hi) (hp:cs.all (AV.plain 20)=true):CR E φ cs t ro l C lo hi where
 size:=h.size
 val k x hk:=by
  obtain ⟨y,hy,hv⟩:=h.val k x hk
  exact ⟨y,hy,hv.plain 20 (List.all_eq_true.1 hp x (List.mem_of_getElem? hk))⟩
 free:=h.free
 zero:=h.zero
end Go.Ab
end
section
namespace Go.Ab
variable {E:Env} {M0:Fa.Df}
theorem r7.unique {call:aW} {f:FuncId} {args:List AV} {h h1 h2:au} {v1 v2:AV} (a:r7 E call f args h v1 h1) (b:r7 E call f args h v2 h2):v1=v2∧h1=h2:=by
 obtain ⟨n,a⟩:=a
 obtain ⟨m,b⟩:=b
 have:=(a (n+m) (by omega)).symm.trans (b (n+m) (by omega))
 simpa using this
def AV.within (nx:Nat):Nat→AV→Bool
 | 0,_=>false
 | n+1,x=>match x with
   | .bool _ | .int .. | .str _ | .eU | .aI | .dc | .nilFunc | .nilIface | .dG=>true
   | .ptr i _=>decide (i<nx)
   | .slice i _ _ _ _=>decide (i<nx)
   | .map i=>decide (i<nx)
   | .iface _ v=>AV.within nx n v
   | .agg cs=>cs.all (AV.within nx n)
   | .tuple cs=>cs.all (AV.within nx n)
   | _=>false
theorem VR.within {φ φ':Ph} {nx:Nat} (ho:∀i,i<nx→φ' i=φ i):∀(n:Nat) {x:AV} (_:AV.within nx n x=true) {y:Value},VR φ' x y→VR φ x y
 | 0,_,h,_,_=>by cases h
 | n+1,x,h,y,hv=>by
   have ih:= @VR.within φ φ' nx ho n
   cases hv with
   | bool b=>exact .bool b
   | int k m=>exact .int k m
   | str s=>exact .str s
   | eU=>exact .eU
   | aI=>exact .aI
   | dc=>exact .dc
   | nilFunc=>exact .nilFunc
   | nilIface=>exact .nilIface
   | dG a c=>exact .dG a c
   | ptr o hl=>rw[ho _ (of_decide_eq_true h)] at hl;exact .ptr o hl
   | slice o len cap op hl=>rw[ho _ (of_decide_eq_true h)] at hl;exact .slice o len cap op hl
   | map hl=>rw[ho _ (of_decide_eq_true h)] at hl;exact .map hl
   | iface t v v' h'=>exact .iface t v v' (ih (by simpa [AV.within] using h) h')
   | agg cs gz hl hc=>
     refine .agg cs gz hl fun i x y a b=>ih ?_ (hc i x y a b)
     simp only[AV.within,List.all_eq_true] at h
     exact h x (List.mem_of_getElem? a)
   | tuple cs gz hl hc=>
     refine .tuple cs gz hl fun i x y a b=>ih ?_ (hc i x y a b)
     simp only[AV.within,List.all_eq_true] at h
     exact h x (List.mem_of_getElem? a)
   | _=>cases h
theorem ju.Jz {f:FuncId} {args:List AV} {h h':au} {v:AV} (r:ju E f args h v h') (hs:Has h h') (hv:AV.within h.nx 20 v=true):ju E f args h v h:=fun φ w vs ok hl=>by
 obtain ⟨h1,h2⟩:=r φ w vs ok hl
 refine ⟨h1,fun cs=>?_⟩
 obtain ⟨φ',w',v',fr,x1,x2,x3,x4⟩:=h2 cs
 exact ⟨φ,w',v',fr,x1.within x3.old 20 hv,ok.forget x3.ext x2 hs,x3.forget,x4⟩
def BI (E:Env) (call:aW) (l:Nat) (args:List AV) (h:au) (v:AV) (h':au):Prop:=∃n0,∀n,n0≤n→oG E call n l args h= .ret v h'
theorem BI.unique {call:aW} {l:Nat} {args:List AV} {h h1 h2:au} {v1 v2:AV} (a:BI E call l args h v1 h1) (b:BI E call l args h v2 h2):v1=v2∧h1=h2:=by
 obtain ⟨n,a⟩:=a
 obtain ⟨m,b⟩:=b
 have:=(a (n+m) (by omega)).symm.trans (b (n+m) (by omega))
 simpa using this
open Classical in
noncomputable def dU (E:Env) (M0:Fa.Df):Nat→aW
 | 0=>zk M0
 | d+1=>fun F args h=>match F with
   | .sL l=>if hy:∃p:AV×au,BI E (dU E M0 d) l args h p.1 p.2 then .ret hy.choose.1 hy.choose.2 else .fail "" none
   | .fn f=>match M0 f args h with
     | some p=> .ret p.1 p.2
     | none=>
       if hx:∃v,∃h',r7 E (dU E M0 d) f args h v h'∧Has h h'∧AV.within h.nx 20 v=true then .ret hx.choose h
       else if hy:∃p:AV×au,r7 E (dU E M0 d) f args h p.1 p.2 then .ret hy.choose.1 hy.choose.2 else .fail "" none
theorem zr (hE:iZ E) (hM:Fa.Dg E M0):∀d,fZ E (dU E M0 d)
 | 0=>K4 hM
 | d+1=>by
   have ih:=zr hE hM d
   have key:∀{f:FuncId} {args:List AV} {h:au} {o:gY},dU E M0 (d+1) (.fn f) args h=o→(∃v h',o= .ret v h'∧ju E f args h v h')∨o= .fail "" none:=by
    intro f args h o e
    simp only[dU] at e
    split at e
    · rename_i p hp
      exact .inl ⟨_,_,e.symm,hM _ _ _ _ _ hp⟩
    · split at e
      · rename_i hx
        obtain ⟨h',⟨n,h1⟩,h2,h3⟩:=hx.choose_spec
        exact .inl ⟨_,_,e.symm,ju.Jz ((nh hE n ih).1 _ _ _ _ _ (h1 n (Nat.le_refl n))) h2 h3⟩
      · split at e
        · rename_i hy
          obtain ⟨n,h1⟩:=hy.choose_spec
          exact .inl ⟨_,_,e.symm,(nh hE n ih).1 _ _ _ _ _ (h1 n (Nat.le_refl n))⟩
        · exact .inr e.symm
   refine ⟨fun F args h v h' e=>?_,fun F args h v h' e=>?_⟩
   · cases F with
     | sL l=>
       simp only[dU] at e
       split at e
       · rename_i hy
         cases e
         obtain ⟨n,h1⟩:=hy.choose_spec
         intro φ w vs ok hf hl
         obtain ⟨ll,hφ⟩:=hf
         obtain ⟨f,tmps,assign,body,hy2,eR⟩:=s9 hE ih (h1 n (Nat.le_refl n)) (by simp) ok hφ hl
         exact ⟨_,_,.sL l ll hφ vs f tmps assign body hy2,fun c cs=>(eR c cs).1 _ _ rfl⟩
       · cases e
     | fn f=>
       rcases key e with ⟨w,k,h1,h2⟩ | h1
       · cases h1;exact h2.any
       · cases h1
   · cases F with
     | sL l=>
       simp only[dU] at e
       split at e<;>cases e
     | fn f=>
       rcases key e with ⟨w,k,h1,h2⟩ | h1
       · cases h1
       · cases h1
theorem aF {d:Nat} {f:FuncId} {args:List AV} {h h':au} {v:AV} (hm:M0 f args h=none) (hd:r7 E (dU E M0 d) f args h v h') (hh:Has h h') (hv:AV.within h.nx 20 v=true):dU E M0 (d+1) (.fn f) args h= .ret v h:=by
 simp only[dU,hm]
 have hx:∃v,∃h',r7 E (dU E M0 d) f args h v h'∧Has h h'∧AV.within h.nx 20 v=true:=⟨v,h',hd,hh,hv⟩
 rw[dif_pos hx]
 obtain ⟨k,h1,_,_⟩:=hx.choose_spec
 rw[(h1.unique hd).1]
theorem om {d:Nat} {f:FuncId} {args:List AV} {h h':au} {v:AV} (hm:M0 f args h=none) (hd:r7 E (dU E M0 d) f args h v h') (hv:¬(Has h h'∧AV.within h.nx 20 v=true)):dU E M0 (d+1) (.fn f) args h= .ret v h':=by
 simp only[dU,hm]
 have hx:¬∃v,∃h',r7 E (dU E M0 d) f args h v h'∧Has h h'∧AV.within h.nx 20 v=true:=by
  rintro ⟨w,k,h1,h2,h3⟩
  obtain ⟨rfl,rfl⟩:=h1.unique hd
  exact hv ⟨h2,h3⟩
 have hy:∃p:AV×au,r7 E (dU E M0 d) f args h p.1 p.2:=⟨(v,h'),hd⟩
 rw[dif_neg hx,dif_pos hy]
 obtain ⟨h1,h2⟩:=hy.choose_spec.unique hd
 rw[h1,h2]
theorem K9 {d l:Nat} {args:List AV} {h h':au} {v:AV} (hd:BI E (dU E M0 d) l args h v h'):dU E M0 (d+1) (.sL l) args h= .ret v h':=by
 simp only[dU]
 have hy:∃p:AV×au,BI E (dU E M0 d) l args h p.1 p.2:=⟨(v,h'),hd⟩
 rw[dif_pos hy]
 obtain ⟨h1,h2⟩:=hy.choose_spec.unique hd
 rw[h1,h2]
theorem FD (hE:iZ E) (hM:Fa.Dg E M0) {d:Nat} {f:FuncId} {args:List AV} {h h':au} {v:AV} (e:dU E M0 d (.fn f) args h= .ret v h'):ju E f args h v h':=by
 cases d with
 | zero=>
   simp only[dU,zk] at e
   split at e
   · rename_i p hp
     cases e
     exact hM _ _ _ _ _ hp
   · cases e
 | succ d=>
   simp only[dU] at e
   split at e
   · rename_i p hp
     cases e
     exact hM _ _ _ _ _ hp
   · split at e
     · rename_i hx
       cases e
       obtain ⟨h',⟨n,h1⟩,h2,h3⟩:=hx.choose_spec
       exact ju.Jz ((nh hE n (zr hE hM d)).1 _ _ _ _ _ (h1 n (Nat.le_refl n))) h2 h3
     · split at e
       · rename_i hy
         cases e
         obtain ⟨n,h1⟩:=hy.choose_spec
         exact (nh hE n (zr hE hM d)).1 _ _ _ _ _ (h1 n (Nat.le_refl n))
       · cases e
end Go.Ab
end
section
namespace Go.Ab
variable {E:Env}
theorem wrap_u64 (n:Nat):IntKind.u64.wrap (n:Int)=((n%18446744073709551616:Nat):Int):=by
 show (if (false&&decide ((n:Int)%2^64≥2^63))=true then (n:Int)%2^64 - 2^64 else (n:Int)%2^64)=_
 rw[if_neg (by simp)]
 omega
theorem Dn (a b:Nat):IntKind.u64.wrap ((a:Int)+b)=(((a+b)%18446744073709551616:Nat):Int):=by rw[←wrap_u64];congr 1
theorem wY {t:TypeId} {c d:Bool} {a b:Nat} (h:a+b<18446744073709551616):bU E .add t c d (some (.int .u64 (a:Int))) (some (.int .u64 (b:Int)))=some (.int .u64 ((a+b:Nat):Int)):=by
 rw[Ju,Dn,Nat.mod_eq_of_lt h]
end Go.Ab
end
section
namespace Go.Ab
variable {E:Env} {M0:Fa.Df}
structure Grow (h h':au):Prop where
 y:Tidy h'
 a:Has h h'
 n:h.nx≤h'.nx
theorem Grow.refl {h:au} (y:Tidy h):Grow h h:=⟨y,Has.refl h,Nat.le_refl _⟩
theorem Grow.trans {a b c:au} (x:Grow a b) (y:Grow b c):Grow a c:=⟨y.y,x.a.trans y.a,Nat.le_trans x.n y.n⟩
theorem zt {d:Nat} {f:FuncId} {args:List AV} {h h':au} {v:AV} {P:au→Prop} (hm:M0 f args h=none) (hd:r7 E (dU E M0 d) f args h v h') (y:Tidy h) (g:Grow h h') (p1:P h') (p2:AV.within h.nx 20 v=true→P h):
 ∃hk,dU E M0 (d+1) (.fn f) args h= .ret v hk∧Grow h hk∧P hk:=by
 by_cases hv:AV.within h.nx 20 v=true
 · exact ⟨h,aF hm hd g.a hv,Grow.refl y,p2 hv⟩
 · exact ⟨h',om hm hd fun c=>hv c.2,g,p1⟩
theorem jn {d:Nat} {f:FuncId} {args:List AV} {h h':au} {v:AV} (hm:M0 f args h=none) (hd:r7 E (dU E M0 d) f args h v h'):
 ∃hk,dU E M0 (d+1) (.fn f) args h= .ret v hk∧(hk=h'∨(hk=h∧Has h h')):=by
 by_cases hv:Has h h'∧AV.within h.nx 20 v=true
 · exact ⟨h,aF hm hd hv.1 hv.2,.inr ⟨rfl,hv.1⟩⟩
 · exact ⟨h',om hm hd hv,.inl rfl⟩
theorem lM {h:au} {p:Nat} {x o:aR} (y:Tidy h) (g:h.get p=some x):Chg h (h.put p (some o)) p o:=
 ⟨fun i z hz=>by
  by_cases e:i=p
  · subst e;exact y _ _ g
  · rw[au.aY (Ne.symm e)] at hz;exact y _ _ hz,
  au.bF _,fun i z hi hz=>by rw[au.aY (Ne.symm hi)];exact hz⟩
def Kept (p:Nat) (h h':au):Prop:=∀i x,i≠p→h.get i=some x→h'.get i=some x
theorem Has.kept {p:Nat} {h h':au} (a:Has h h'):Kept p h h':=fun i x _ g=>a i x g
theorem Kept.store {h h':au} {t e:TypeId} {i o:Nat} {cs:List AV} {v:AV} (y:Tidy h) (s:dX E h t (.ptr i o) v=some h') (g:h.get i=some (.cells cs e false)):Kept i h h':=fun _ _ hj gj=>mu y s g hj gj
theorem dY.kept {h h':au} {k:IntKind} {e:TypeId} {av:AV} {l:List Nat} {p:Nat} (x:dY E h k e av l) (c:Kept p h h') (ho:Off p av):dY E h' k e av l:=by
 refine ⟨⟨x.at_.size,x.at_.cells,x.at_.small,x.at_.lens,x.at_.block.imp id fun ⟨p',o',m,c',b,C,f,ro,h1,h0,h2,h3⟩=>⟨p',o',m,c',b,C,f,ro,h1,h0,c p' _ (fun e=>?_) h2,h3⟩⟩,x.agg,x.known⟩
 subst e
 exact ho _ _ _ _ h1
theorem wZ (k:IntKind) (l:List Nat):(r9 k l).all AV.scalar=true:=by
 simp [r9,AV.scalar]
theorem dY.jD {h:au} {k:IntKind} {e:TypeId} {av:AV} {l:List Nat} (x:dY E h k e av l):jD av=some l.length:=by
 rcases x.known with rfl | ⟨p,o,n,c,b,rfl,_⟩
 · have:=x.len
   rw[uo] at this
   simp only[Option.some.injEq,AV.int.injEq,true_and] at this
   rw[show l.length=0 by omega];rfl
 · rw[x.inv.1];rfl
theorem dY.first {h:au} {k:IntKind} {e:TypeId} {av:AV} {l:List Nat} (x:dY E h k e av l):dP h 1 l.length av=some (r9 k l):=by
 by_cases hl:l=[]
 · subst hl
   rcases x.known with rfl | ⟨p,o,n,c,b,rfl,_⟩<;>simp [dP,r9]
 rcases x.known with rfl | ⟨p,o,n,c,b,rfl,_⟩
 · have:=x.len
   rw[uo] at this
   simp only[Option.some.injEq,AV.int.injEq,true_and] at this
   exact absurd (List.length_eq_zero_iff.1 (show l.length=0 by omega)) hl
 · obtain ⟨rfl,h2⟩:=x.inv
   obtain ⟨_,C,f,ro,g,hv⟩:=h2 hl
   have hC:o+l.length≤C.length:=by
    have hp:0<l.length:=List.length_pos_iff.2 hl
    have:=hv (l.length - 1) _ (List.getElem?_eq_getElem (show l.length - 1<l.length by omega))
    have:=(List.getElem?_eq_some_iff.1 this).1
    omega
   have h0:¬l.length=0:=fun e=>hl (List.length_eq_zero_iff.1 e)
   simp only[dP,Nat.le_refl,if_true,h0,if_false,g,Nat.mul_one,hC]
   refine congrArg some (List.ext_getElem? fun i=>?_)
   by_cases hi:i<l.length
   · rw[List.getElem?_take_of_lt hi,List.getElem?_drop,hv i _ (List.getElem?_eq_getElem hi),qA (List.getElem?_eq_getElem hi)]
   · rw[List.getElem?_eq_none (by simp;omega),List.getElem?_eq_none (by rw[kW];omega)]
theorem Jr {h:au} {k:IntKind} {e t:TypeId} {tys:Array TypeId} {d s:AV} {l:List Nat} {p o n:Nat} {C:List AV} {f:TypeId} (h0:tys[0]? =some t) (ht:E.P.underlying t=some (.slice e)) (hs:bT E e=some 1) (w:RO h d p o n C f) (x:dY E h k e s l) (hn:l.length≤n):
 so E h tys d s=some (.int .i64 (l.length:Nat),h.put p (some (.cells (setFrom C o (r9 k l)) f false))):=by
 obtain ⟨c,b,rfl,hc⟩:=w.is
 have hf:=w.fits
 have yE:dP h 1 (min l.length n) s=some (r9 k l):=by
  rw[Nat.min_eq_left hn];exact x.first
 simp only[so,h0,ht,x.jD,hs,yE,w.get]
 rw[if_pos ⟨by rw[kW];omega,wZ k l⟩,Nat.min_eq_left hn]
theorem append_nil {h:au} {k:IntKind} {e s xt:TypeId} {tys:Array TypeId} {bytes:Nat} {z x:AV} {m:List Nat} (h0:tys[0]? =some s) (h1:tys[1]? =some xt) (hs:E.P.underlying s=some (.slice e)) (hx:E.P.underlying xt=some (.slice e)) (GK:bT E e=some 1) (hb:eK E e=some bytes) (o_:eh E e=some z) (hz:z.cells.length=1) (h8:bytes≤15) (x1:dY E h k e x m) (hm:m≠ []) (hl:m.length≤1073741824):
 ∃h',bf E h tys .aI x=some (.slice h.nx 0 m.length m.length true,h')∧h.new (.cells (r9 k m) e false)=some h':=by
 obtain ⟨h',n⟩:=kr (h:=h) (.cells (r9 k m) e false)
 refine ⟨h',?_,n⟩
 have hn:¬m.length=0:=fun e=>hm (List.length_eq_zero_iff.1 e)
 have Cy:(4*m.length+4096)*(bytes+1)≤1099511627776:=Nat.le_trans (Nat.mul_le_mul (show 4*m.length+4096≤68719476736 by omega) (show bytes+1≤16 by omega)) (by decide)
 simp only[bf,h0,h1,hs,hx,jk,GK,hb,x1.jD,x1.first,o_,hz,wZ,kW,Nat.mul_one,hn,Cy,n,if_true,if_false,and_self,Bool.false_eq_true]
end Go.Ab
end
section
namespace Go.Ab
variable {E:Env}
structure Pk (al:List lB) (p0 ps:List Prop):Prop where
 ok:ke p0→ke ps
section
variable {al:List lB} {p0 ps:List Prop}
theorem ZZ {p:List Prop}:Pk [] p p:=⟨id⟩
theorem AA (a:lB) (k:Pk al p0 ps):Pk (a::al) p0 ps:=⟨k.ok⟩
theorem CC (k:Pk al p0 ps):Pk (.c::al) p0 ps:=⟨k.ok⟩
def cs:Nat→List lB→List lB
 | 0,l=>l
 | n+1,l=> .c::cs n l
theorem CN (n:Nat) (k:Pk al p0 ps):Pk (cs n al) p0 ps:=⟨k.ok⟩
theorem HH {P:Prop} (h:P) (k:Pk al (P::p0) ps):Pk al p0 ps:=⟨fun c=>k.ok ⟨h,c⟩⟩
theorem VV {l:Option AV} {x:AV} (h:l=some x) (k:Pk al ((l=some x)::p0) ps):Pk (.v x::al) p0 ps:=⟨fun c=>k.ok ⟨h,c⟩⟩
theorem QQ {l:Option AV} {x:AV} (h:l=some x) (k:Pk al ((l=some x)::p0) ps):Pk (.q x::al) p0 ps:=⟨fun c=>k.ok ⟨h,c⟩⟩
theorem MM {l:Option AV} {x:AV} (h:l=some x) (k:Pk al ((l=some x)::p0) ps):Pk (.m x::al) p0 ps:=⟨fun c=>k.ok ⟨h,c⟩⟩
theorem TT (k:Pk al ((true=true)::p0) ps):Pk (.b true::al) p0 ps:=⟨fun c=>k.ok ⟨rfl,c⟩⟩
theorem FF (k:Pk al ((false=false)::p0) ps):Pk (.b false::al) p0 ps:=⟨fun c=>k.ok ⟨rfl,c⟩⟩
theorem BB {u v:Bool} (h:u=v) (k:Pk al ((u=v)::p0) ps):Pk (.b v::al) p0 ps:=⟨fun c=>k.ok ⟨h,c⟩⟩
theorem EE {call:aW} {f:Fn} {args:List AV} {h h':au} {x:AV} (e:call f args h= .ret x h') (k:Pk al ((call f args h= .ret x h')::p0) ps):Pk (.e x h'::al) p0 ps:=⟨fun c=>k.ok ⟨e,c⟩⟩
theorem SS {h h':au} {t:TypeId} {a v:AV} (s:dX E h t a v=some h') (k:Pk al ((AV.undef=AV.undef∧dX E h t a v=some h')::p0) ps):Pk (.e AV.undef h'::al) p0 ps:=⟨fun c=>k.ok ⟨⟨rfl,s⟩,c⟩⟩
theorem PP {l:Option (AV×au)} {x:AV} {h':au} (e:l=some (x,h')) (k:Pk al ((l=some (x,h'))::p0) ps):Pk (.e x h'::al) p0 ps:=⟨fun c=>k.ok ⟨e,c⟩⟩
theorem NN {h h':au} {obj:aR} (n:h.new obj=some h') (f:Nat→AV) (k:Pk al ((∃mk:Nat→AV,some (obj,f)=some (obj,mk)∧mk h.nx=f h.nx)::(h.new obj=some h')::p0) ps):Pk (.a obj (f h.nx) h'::al) p0 ps:=⟨fun c=>k.ok ⟨⟨f,rfl,rfl⟩,n,c⟩⟩
theorem LL {call:aW} {b:Code} {s s':St} {e:gR} (ev:Ev E call b s e s') (k:Pk al ((Ev E call b s e s')::p0) ps):Pk (.l e s'::al) p0 ps:=⟨fun c=>k.ok ⟨ev,c⟩⟩
end
@[irreducible] def w6:R→List AV
  | .at _ s _ _=>s.ts
  | .bad=> []
theorem Vg {call:aW} {c:Code} {ts:List AV} {h h':au} {ds:List nw} {rc:RC} {n:Nat} {e:gR} {al:List lB} {ps:List Prop} (k:Pk al [] ps) (hr:run E call n c ⟨ts,h,ds,rc⟩ al []= .at e ⟨w6 (run E call n c ⟨ts,h,ds,rc⟩ al []),h',ds,rc⟩ [] ps):Ev E call c ⟨ts,h,ds,rc⟩ e ⟨w6 (run E call n c ⟨ts,h,ds,rc⟩ al []),h',ds,rc⟩:=HD hr (k.ok trivial)
def rx (x:Nat→AV):Nat→Nat→List AV→List AV
 | _,0,l=>l
 | i,n+1,l=>x i::rx x (i+1) n l
def ka:Nat→List AV
 | 0=> []
 | n+1=>AV.undef::ka n
end Go.Ab
end
section
set_option linter.unusedVariables false
namespace Go.Ab
open Go.WideElems Go.RowKit Go.Proofs Go.Shelf
variable {E:Env}
def tc (x:Int×Int):List Value:=[.int .i64 x.1,.int .i64 x.2]
def r_ (x y:Int×Int):Int:=Lib.compareInt x.1 y.1
def iI (L:List (Int×Int)):List (Int×Int):=(Sort.pdq (ltOf r_) L.toArray 0 L.toArray.size (Lib.bitLen L.toArray.size) true true).toList
def jR:List (Int×Int)→List AV
 | []=> []
 | x::l=> .int .i64 x.1:: .int .i64 x.2::jR l
def lG:List (Int×Int)→List Value
 | []=> []
 | x::l=> .int .i64 x.1:: .int .i64 x.2::lG l
def te:List AV→Option (List (Int×Int))
 | []=>some []
 | .int .i64 a:: .int .i64 b::l=>match te l with
   | some r=>some ((a,b)::r)
   | none=>none
 | _=>none
theorem BJ:∀L:List (Int×Int),te (jR L)=some L
 | []=>rfl
 | x::l=>by
   show (match te (jR l) with | some r=>some ((x.1,x.2)::r) | none=>none)=_
   rw[BJ l]
theorem zu:∀{cs:List AV} {L:List (Int×Int)},te cs=some L→cs=jR L
 | [],L,h=>by cases h;rfl
 | .int .i64 a:: .int .i64 b::cs,L,h=>by
   simp only[te] at h
   split at h
   · rename_i r hr
     cases h
     rw[zu hr];rfl
   · cases h
theorem jv:∀L:List (Int×Int),(jR L).length=L.length*2
 | []=>rfl
 | x::l=>by simp only[jR,List.length_cons,jv l];omega
theorem rM:∀L:List (Int×Int),(lG L).length=L.length*2
 | []=>rfl
 | x::l=>by simp only[lG,List.length_cons,rM l];omega
theorem BK:∀(L:List (Int×Int)) (j:Nat),j<L.length*2→(jR L)[j]? =some (.int .i64 (if j%2=0 then L[j/2]!.1 else L[j/2]!.2))
 | [],j,h=>by simp at h
 | x::l,0,h=>rfl
 | x::l,1,h=>rfl
 | x::l,j+2,h=>by
   show (jR l)[j]? =_
   rw[BK l j (by simp at h;omega),Nat.add_mod_right,Nat.add_div_right j (by decide)]
   rfl
theorem BL:∀(L:List (Int×Int)) (j:Nat),j<L.length*2→(lG L)[j]? =some (.int .i64 (if j%2=0 then L[j/2]!.1 else L[j/2]!.2))
 | [],j,h=>by simp at h
 | x::l,0,h=>rfl
 | x::l,1,h=>rfl
 | x::l,j+2,h=>by
   show (lG l)[j]? =_
   rw[BL l j (by simp at h;omega),Nat.add_mod_right,Nat.add_div_right j (by decide)]
   rfl
theorem zv (φ:Ph):∀L:List (Int×Int),LR φ (jR L) (lG L)
 | []=>LR.nil φ
 | x::l=>LR.cons (.int _ _) (LR.cons (.int _ _) (zv φ l))
theorem pa:∀L:List (Int×Int),(jR L).all AV.scalar=true
 | []=>rfl
 | x::l=>by show (true&&(true&&(jR l).all AV.scalar))=true;rw[pa l];rfl
theorem BN (d:Array (Int×Int)) (j:Nat) (h:j<d.size*2):(Sort.flatK tc 2 d)[j]! = .int .i64 (if j%2=0 then d.toList[j/2]!.1 else d.toList[j/2]!.2):=by
 rw[Sort.get_flatK tc 2 d j h]
 have e:d.toList[j/2]! =d[j/2]! :=by
  rw[getElem!_pos d (j/2) (by omega),getElem!_pos d.toList (j/2) (by rw[Array.length_toList];omega)];simp
 rw[e]
 rcases Nat.mod_two_eq_zero_or_one j with q | q<;>rw[q]<;>rfl
theorem qC (L:List (Int×Int)):(iI L).Perm L∧(iI L).length=L.length∧∀i j,i<j→j<L.length→(iI L)[i]!.1≤(iI L)[j]!.1:=by
 have lt:∀x y:Int×Int,ltOf r_ x y=decide (x.1<y.1):=fun x y=>by
  unfold ltOf r_ Lib.compareInt
  by_cases h1:x.1<y.1
  · simp [h1]
  · by_cases h2:y.1<x.1<;>simp [h1,h2]
 have hO:Sort.SWO (ltOf r_):=by
  refine ⟨fun x=>by rw[lt];simp,fun x y z h1 h2=>?_,fun x y z h1 h2=>?_⟩<;>rw[lt] at * <;>simp at * <;>omega
 have hp:=Sort.pdq_sorts (ltOf r_) hO L.toArray 0 L.toArray.size (Lib.bitLen L.toArray.size) true true (Nat.zero_le _) (Nat.le_refl _) (Or.inl rfl)
 show (Array.toList (Sort.pdq (ltOf r_) L.toArray 0 L.toArray.size (Lib.bitLen L.toArray.size) true true)).Perm L∧(Array.toList (Sort.pdq (ltOf r_) L.toArray 0 L.toArray.size (Lib.bitLen L.toArray.size) true true)).length=L.length∧∀i j,i<j→j<L.length→(Array.toList (Sort.pdq (ltOf r_) L.toArray 0 L.toArray.size (Lib.bitLen L.toArray.size) true true))[i]!.1≤(Array.toList (Sort.pdq (ltOf r_) L.toArray 0 L.toArray.size (Lib.bitLen L.toArray.size) true true))[j]!.1
 generalize Sort.pdq (ltOf r_) L.toArray 0 L.toArray.size (Lib.bitLen L.toArray.size) true true=D at hp
 obtain ⟨⟨h1,_,h3⟩,h4⟩:=hp
 have hs:D.size=L.length:=by simpa using h1
 refine ⟨?_,by rw[Array.length_toList,hs],fun i j ZG hj=>?_⟩
 · have e1:(D.extract 0 L.toArray.size).toList=D.toList:=by rw[←h1];simp
   have e2:(L.toArray.extract 0 L.toArray.size).toList=L:=by simp
   rw[e1,e2] at h3
   exact h3
 · have:=h4 i j (Nat.zero_le _) ZG (by simpa using hj)
   rw[lt] at this
   have e:∀k,k<L.length→D.toList[k]! =D[k]! :=fun k hk=>by
    rw[getElem!_pos D k (by omega),getElem!_pos D.toList k (by rw[Array.length_toList];omega)];simp
   rw[e i (by omega),e j hj]
   have:=of_decide_eq_false this
   omega
theorem ade:Sort.SWO (ltOf r_):=by
 have lt:∀x y:Int×Int,ltOf r_ x y=decide (x.1<y.1):=fun x y=>by
  unfold ltOf r_ Lib.compareInt
  by_cases h1:x.1<y.1
  · simp [h1]
  · by_cases h2:y.1<x.1<;>simp [h1,h2]
 refine ⟨fun x=>by rw[lt];simp,fun x y z h1 h2=>?_,fun x y z h1 h2=>?_⟩<;>rw[lt] at * <;>simp at * <;>omega
noncomputable def zw (g:Nat) (args:List AV) (h:au):Option (AV×au):=match args with
 | [.aI,.func g' [] []]=>if g'=g then some (.tuple [],h) else none
 | [.slice i 0 n c _,.func g' [] []]=>if g'=g then (match h.get i with
   | some (.cells cs t false)=>(match te cs with
     | some L=>if L.length=n∧n≤c∧n<1000000 then some (.tuple [],h.put i (some (.cells (jR (iI L)) t false))) else none
     | none=>none)
   | _=>none) else none
 | _=>none
structure JA (P:Program) (f g:FuncId):Prop where
 nothing:∀(p:Option Addr) (cap:Nat) (fv:Value) (w:World),Calls P f #[.slice p 0 cap,fv] w fun e w'=>e= .returned (.tuple #[])∧w'=w
 row:∀(dq off cap:Nat) (d:Array (Int×Int)) (w:World),Sort.HoldsK tc 2 w dq off d→dq<w.heap.size→d.size<1000000→Calls P f #[.slice (some ⟨dq,off,none⟩) d.size cap,.func (.func g) #[] #[]] w fun e w'=>
  e= .returned (.tuple #[])∧∃n os,w'=sortWorldK tc 2 w dq off n (Sort.pdq (ltOf r_) d 0 d.size (Lib.bitLen d.size) true true) os
theorem FE {F G:Array Value} (h:G.size=F.size):Sort.setMany F 0 G.toList=G:=by
 apply Array.ext
 · rw[Sort.size_setMany,h]
 · intro i h1 h2
   have e:=Sort.get_setMany G.toList 0 F i (by omega)
   rw[if_pos ⟨Nat.zero_le _,by simpa using h2⟩,Nat.sub_zero] at e
   rw[getElem!_pos _ i h1] at e
   rw[e]
   simp [h2]
theorem OU {f g:FuncId} (cJ:∀args w,(callFunc f args).run E.P w= .ok (.enter f args) w) (hc:JA E.P f g) (args:List AV) (h:au) (v:AV) (h':au) (e:zw g args h=some (v,h')):ju E f args h v h':=by
 intro φ w vs ok hl
 refine ⟨cJ _ _,?_⟩
 unfold zw at e
 split at e
 · rename_i g'
   split at e
   · obtain ⟨rfl,rfl⟩:=Prod.mk.inj (Option.some.inj e)
     obtain ⟨x,t2,rfl,hx,hl⟩:=hl.bZ
     obtain ⟨y,t3,rfl,hy,hl⟩:=hl.bZ
     rw[hl.fi]
     cases hx with
     | aI=>
     intro gz
     obtain ⟨en,w',fr,⟨rfl,rfl⟩,rZ,AG,Nk⟩:=hc.nothing none 0 y w gz
     exact ⟨φ,_,_,fr,VR.tuple' (LR.nil φ),ok,Fr.refl φ h _,rZ,AG,Nk⟩
   · cases e
 · rename_i i n c op g'
   split at e
   · rename_i WX
     subst WX
     split at e
     · rename_i cs t hg
       split at e
       · rename_i L hL
         split at e
         · rename_i G6
           obtain ⟨hn,MP,hn6⟩:=G6
           obtain ⟨rfl,rfl⟩:=Prod.mk.inj (Option.some.inj e)
           obtain ⟨x,t2,rfl,hx,hl⟩:=hl.bZ
           obtain ⟨y,t3,rfl,hy,hl⟩:=hl.bZ
           rw[hl.fi]
           obtain ⟨a',b',rfl,la,lb⟩:=hy.tM
           have ea:a'= #[]:=by have:=la.fi;simpa using this
           have eb:b'= #[]:=by have:=lb.fi;simpa using this
           subst ea;subst eb
           have hcs:=zu hL
           subst hcs
           subst hn
           cases hx with
           | @slice _ l _ _ _ _ hφ=>
           obtain ⟨C,e',lo,hi,hwc,hC⟩:=ok.live i _ l hg hφ
           have Kt:=hC.size
           have hle:=jv L
           have hblk:l.dq<w.heap.size:=by
            rcases Nat.lt_or_ge l.dq w.heap.size with a | a
            · exact a
            · rw[Array.getElem?_eq_none a] at hwc;cases hwc
           have hH:Sort.HoldsK tc 2 w l.dq (l.off+0) L.toArray:=fun j hj=>by
            rw[Sort.size_flatK] at hj
            rw[BN _ j hj]
            have RQ:j<L.length*2:=by simpa using hj
            obtain ⟨y,hy,hyv⟩:=hC.val j _ (BK L j RQ)
            cases hyv with
            | int=>
            refine ⟨?_,?_⟩
            · simp only[World.cell?,hwc,Nat.add_zero,id]
              exact hy
            · rw[frozen_of_heap hwc]
              have:=hC.free rfl (l.off+j) (by omega) (by omega)
              simp only[Nat.add_zero,Bool.and_eq_false_iff,decide_eq_false_iff_not]
              omega
           have MN:=qC L
           have key:=hc.row l.dq (l.off+0) (fu op c l.gC) L.toArray w hH hblk (by simpa using hn6)
           intro gz
           obtain ⟨en,w',fr,⟨rfl,n,os,rfl⟩,rZ,AG,Nk⟩:=key gz
           let d':=Sort.pdq (ltOf r_) L.toArray 0 L.toArray.size (Lib.bitLen L.toArray.size) true true
           have GG:d'.size=L.toArray.size:=by have:=MN.2.1;rw[List.size_toArray];exact this
           have Eg:(Sort.flatK tc 2 d').toList=lG (iI L):=by
            apply List.ext_getElem?
            intro j
            have z1:(Sort.flatK tc 2 d').size=L.length*2:=by rw[Sort.size_flatK,GG];simp
            have z2:(lG (iI L)).length=L.length*2:=by rw[rM,MN.2.1]
            by_cases hj:j<L.length*2
            · have e1:=BN d' j (by rw[GG];simpa using hj)
              rw[getElem!_pos _ j (by rw[z1];exact hj)] at e1
              rw[BL _ j (by rw[MN.2.1];exact hj),Array.getElem?_toList,Array.getElem?_eq_getElem (by rw[z1];exact hj),e1]
              rfl
            · rw[List.getElem?_eq_none (by simp only[Array.length_toList,z1];omega),List.getElem?_eq_none (by omega)]
           obtain ⟨w2,gQ,iW,lU⟩:=rz ok hg hφ (zv φ (iI L)) 0 (by rw[jv,jv,MN.2.1];omega) (pa _)
           have eR:=nA (P:=E.P) hwc (l.off+0) (lG (iI L)) (by rw[rM,MN.2.1];omega) (fun k h1 h2=>hC.free rfl k (by omega) (by rw[rM,MN.2.1] at h2;omega)) (sR (zv φ (iI L)) (pa _))
           rw[gQ] at eR
           obtain rfl:w2=w.setCells l.dq (l.off+0) (lG (iI L)):=by injection eR
           have n9:setFrom (jR L) 0 (jR (iI L))=jR (iI L):=by
            apply List.ext_getElem?
            intro k
            rw[dy,jv,jv,MN.2.1,Nat.zero_add,Nat.sub_zero]
            by_cases hk:k<L.length*2
            · rw[if_pos ⟨Nat.zero_le _,hk,hk⟩]
            · rw[if_neg (by omega),List.getElem?_eq_none (by rw[jv];omega),List.getElem?_eq_none (by rw[jv,MN.2.1];omega)]
           rw[n9] at iW lU
           have adf:Sort.putRowK tc 2 w l.dq (l.off+0) d'=w.setCells l.dq (l.off+0) (lG (iI L)):=by
            have e1:w.setCells l.dq (l.off+0+0) (Sort.flatK tc 2 d').toList=Sort.putRow id w l.dq (l.off+0) (Sort.setMany (Sort.flatK tc 2 L.toArray) 0 (Sort.flatK tc 2 d').toList):=by
             conv=>lhs;rw[←Sort.putRow_self id w l.dq (l.off+0) _ hH]
             exact Sort.setCells_putRow _ _ _ _ _ _ (by simp [GG])
            rw[FE (by simp [GG]),Eg] at e1
            exact e1.symm
           have adg:Below (w.setCells l.dq (l.off+0) (lG (iI L))).heap.size (w.setCells l.dq (l.off+0) (lG (iI L))) (sortWorldK tc 2 w l.dq (l.off+0) n d' os):=by
            have ew:sortWorldK tc 2 w l.dq (l.off+0) n d' os=Sort.grow (Sort.ahead (w.setCells l.dq (l.off+0) (lG (iI L))) n) os:=by
             unfold sortWorldK
             rw[←adf];rfl
            rw[ew]
            refine ⟨rfl,rfl,rfl,?_,fun k hk=>?_⟩
            · show _≤((w.setCells l.dq (l.off+0) (lG (iI L))).heap++os).size
              rw[Array.size_append];omega
            · show ((w.setCells l.dq (l.off+0) (lG (iI L))).heap++os)[k]? =_
              rw[Array.getElem?_append_left hk]
           have OV:=iW.later adg
           exact ⟨φ,_,_,fr,VR.tuple' (LR.nil φ),OV.1,lU.trans OV.2,rZ,AG,Nk⟩
         · cases e
       · cases e
     · cases e
   · cases e
 · cases e
end Go.Ab
end
