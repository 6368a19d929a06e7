import Derived.ChangeShapes
import Derived.ChangeStays
import Derived.ChangeBook
import Derived.ChangeOld
import Derived.ChangeAgain
import Derived.ChangeCalls
import Derived.Shelf.Strings.OnBuilder
import Derived.Shelf.SlSortCmp.WholeK
import Derived.Shelf.SlSortCmp.NoneTotal
import Derived.Sort.AssemblyPlain
import Derived.Test.YtfllahfbmaafcaaA6
set_option linter.unusedVariables false
set_option linter.unusedSimpArgs false
section
namespace Go.Ab
variable {E:Env} {call:bh} {n:Nat} {s:St}
def ZM {α β:Type} (o:Option α) (f:α→β) (d:β):β:=match o with
 | some a=>f a
 | none=>d
noncomputable def Le (E:Env) (call:bh) (n:Nat) (o:Out) (b:Code):Out:=match o with
 | .ok .normal s=>exec E call n b s
 | r=>r
theorem zR (s:St) (b:Code):Le E call n (.ok .normal s) b=exec E call n b s:=rfl
def Sa (id:Nat) (o:Out):Out:=match o with
 | .ok (.exit P7) s'=>if P7=id then .ok .normal s' else .ok (.exit P7) s'
 | r=>r
theorem zS (i j:Nat) (s:St):Sa i (.ok (.exit j) s)=if j=i then .ok .normal s else .ok (.exit j) s:=rfl
noncomputable def Sb (E:Env) (call:bh) (n:Nat) (o:Option AV) (a b:Code) (s:St):Out:=match o with
 | some (.bool true)=>exec E call n a s
 | some (.bool false)=>exec E call n b s
 | _=> .fail "cond" none
theorem Ln (a b:Code):Sb E call n (some (.bool true)) a b s=exec E call n a s:=rfl
theorem Jh (a b:Code):Sb E call n (some (.bool false)) a b s=exec E call n b s:=rfl
theorem X8 (a b:Code):exec E call (n+1) (.seq a b) s=Le E call n (exec E call n a s) b:=rfl
theorem Sc (x:Operand) (a b:Code):exec E call (n+1) (.cond x a b) s=Sb E call n (eA E s.ts x) a b s:=rfl
theorem xn (id:Nat) (b:Code):exec E call (n+1) (.block id b) s=Sa id (exec E call n b s):=rfl
theorem Sd (b:Code):exec E call (n+1) (.loop b) s=Le E call n (exec E call n b s) (.loop b):=rfl
theorem Se (i:Nat) (ops:Array Oper):exec E call (n+1) (.region i ops false) s=ku E call ops ops.toList s:=rfl
theorem Ws (i:Nat) (ops:Array Oper):exec E call (n+1) (.region i ops true) s=wC E call ops s:=rfl
noncomputable def acD (E:Env) (call:bh) (ops:Array Oper) (o:Oper) (rest:List Oper) (s:St):Out:=match dm E call s.ts s.h s.rc o with
 | .val v h'=>ku E call ops rest {s with ts:=dN s.ts o.dst v,h:=h'}
 | .defer d=>ku E call ops rest {s with ts:=dN s.ts o.dst AV.undef,ds:=d::s.ds}
 | .rW v=>ku E call ops rest {s with ts:=dN s.ts o.dst v,rc:= .done}
 | .panic v h'=> .ok (.panic v) {s with h:=h'}
 | .fail why q=> .fail why q
noncomputable def acE (E:Env) (call:bh) (ops:Array Oper) (o:Oper) (rest:List Oper) (s:St):Out:=
 ZM (eB E s.ts o.op) (fun p=>ZM (s.h.new p.1) (fun h'=>ku E call ops rest {s with ts:=dN s.ts o.dst (p.2 s.h.nx),h:=h'}) (.fail "full" (some o))) (acD E call ops o rest s)
noncomputable def acF (E:Env) (call:bh) (ops:Array Oper) (o:Oper) (rest:List Oper) (s:St):Out:=
 ZM (dW E s.ts s.h o.op) (fun v=>ku E call ops rest {s with ts:=dN s.ts o.dst v}) (acE E call ops o rest s)
noncomputable def acG (E:Env) (call:bh) (ops:Array Oper) (v:Option AV) (o:Oper) (rest:List Oper) (s:St):Out:=ZM v (fun v=>ku E call ops rest {s with ts:=dN s.ts o.dst v}) (acF E call ops o rest s)
section
variable {ops:Array Oper} {rest:List Oper} {d:Option Tmp} {op:Op} {ty:TypeId} {pos:String} {aft:Array Edge} {g:Option (Nat×Bool)}
noncomputable def Lf (E:Env) (call:bh) (ops:Array Oper) (w:Bool) (o:Oper) (rest:List Oper) (s:St):Out:=
 if w=true then acG E call ops (bE E s.ts o.op) o rest s else ku E call ops rest {s with ts:=dN s.ts o.dst AV.undef}
end
theorem jS (m:Nat) (a:List UInt8):AV.same (m+1) (.str a) (.str a)=true:=by simp [AV.same]
theorem aJ (m:Nat) (k:IntKind) (a:Int):AV.same (m+1) (.int k a) (.int k a)=true:=by simp [AV.same]
theorem BT (m i o l c:Nat) (b:Bool):AV.same (m+1) (.slice i o l c b) (.slice i o l c b)=true:=by simp [AV.same]
open Classical in
section
variable {ops:Array Oper} {rest:List Nat} {d:Option Tmp} {op:Op} {ty:TypeId} {pos:String} {aft:Array Edge} {g:Option (Nat×Bool)}
noncomputable def Na (E:Env) (call:bh) (ops:Array Oper) (r:Option St) (s:St):Out:=ZM r (fun s'=> .ok .normal s') (wC E call ops s)
end
theorem wrap_i64 {n:Int} (h0: -9223372036854775808≤n) (h1:n<9223372036854775808):IntKind.i64.wrap n=n:=by
 show (if (true&&decide (n%2^64≥2^63))=true then n%2^64 - 2^64 else n%2^64)=n
 by_cases hn:n%2^64≥2^63
 · rw[if_pos (by rw[Bool.true_and];exact decide_eq_true hn)];omega
 · rw[if_neg (by rw[Bool.true_and];exact fun e=>hn (of_decide_eq_true e))];omega
noncomputable def I1 (E:Env) (fn:Func) (h:aA) (ts:List AV):jB:=match jL E h ts fn.results.toList with
 | some vs=> .ret (fR vs) h
 | none=> .fail "results" none
theorem Pe {fuel:Nat} {f:FuncId} {fn:Func} {c:Code} (hf:E.P.funcs[f]? =some fn) (hb:fn.body=some c) {args:List AV} {h h':aA} {ts:List AV} {x:iB} (hx:x= .normal∨x= .ret)
 (e:exec E call fuel c ⟨args++List.replicate (fn.ntmps - args.length) AV.undef,h,[],.no⟩= .ok x ⟨ts,h',[],.no⟩) {vs:List AV} (hr:jL E h' ts fn.results.toList=some vs):xk E call fuel f args h= .ret (fR vs) h':=by
 unfold xk
 simp only[hf,hb,mZ,e]
 rcases hx with rfl | rfl<;>simp only[rp,cN,hr]
def BU (M:Fa.GD):bh:=fun F args h=>match F with
 | .fn f=>match M f args h with
   | some p=> .ret p.1 p.2
   | none=> .fail "" none
 | .ua _=> .fail "" none
theorem Pf {M:Fa.GD} (hM:Fa.GF E M):iK E (BU M):=by
 refine ⟨fun F args h v h' e=>?_,fun F args h v h' e=>?_⟩
 · cases F with
   | ua l=>cases e
   | fn f=>
     simp only[BU] at e
     cases hm:M f args h with
     | none=>rw[hm] at e;cases e
     | some p=>
       rw[hm] at e
       simp only[jB.ret.injEq] at e
       obtain ⟨rfl,rfl⟩:=e
       exact (hM _ _ _ _ _ hm).any
 · cases F with
   | ua l=>cases e
   | fn f=>
     simp only[BU] at e
     cases hm:M f args h with
     | none=>rw[hm] at e;cases e
     | some p=>rw[hm] at e;cases e
def afr (E:Env) (x:Option (TypeId×Nat)) (v:Option AV):Option AV:=match x,v with
 | some (t,o),some (.ptr i off)=>match ch E t with
   | some n=>if n=0 then none else some (.ptr i (off+o))
   | none=>none
 | _,_=>none
def cy (E:Env) (op:BinOp) (t:TypeId) (xc yc:Bool) (a b:Option AV):Option AV:=match a,b with
 | some a,some b=>ks E op t xc yc a b
 | _,_=>none
theorem Wt {ts:List AV} (op:BinOp) (t t':TypeId) (x y:Operand):bE E ts (.binOp op t x y t')=cy E op t (isConst x) (isConst y) (eA E ts x) (eA E ts y):=by
 simp only[bE,cy]
 cases eA E ts x<;>cases eA E ts y<;>rfl
theorem Nq (t:TypeId) (c d:Bool) (k:IntKind) (a b:Int):cy E .add t c d (some (.int k a)) (some (.int k b))=some (.int k (k.wrap (a+b))):=by simp [cy,ks,c_]
theorem Wu (t:TypeId) (c d:Bool) (k:IntKind) (a b:Int):cy E .sub t c d (some (.int k a)) (some (.int k b))=some (.int k (k.wrap (a - b))):=by simp [cy,ks,c_]
theorem Wv (t:TypeId) (c d:Bool) (k:IntKind) (a b:Int):cy E .mul t c d (some (.int k a)) (some (.int k b))=some (.int k (k.wrap (a*b))):=by simp [cy,ks,c_]
theorem Ww (t:TypeId) (c d:Bool) (k:IntKind) (a b:Int):cy E .eql t c d (some (.int k a)) (some (.int k b))=some (.bool (decide (a=b))):=by simp [cy,ks,c_];rfl
theorem Wx (t:TypeId) (c d:Bool) (k:IntKind) (a b:Int):cy E .neq t c d (some (.int k a)) (some (.int k b))=some (.bool (!decide (a=b))):=by simp [cy,ks,c_];rfl
theorem Wy (t:TypeId) (c d:Bool) (k:IntKind) (a b:Int):cy E .lss t c d (some (.int k a)) (some (.int k b))=some (.bool (decide (a<b))):=by simp [cy,ks,c_]
theorem Wz (t:TypeId) (c d:Bool) (k:IntKind) (a b:Int):cy E .leq t c d (some (.int k a)) (some (.int k b))=some (.bool (decide (a≤b))):=by simp [cy,ks,c_]
theorem WA (t:TypeId) (c d:Bool) (k:IntKind) (a b:Int):cy E .gtr t c d (some (.int k a)) (some (.int k b))=some (.bool (decide (b<a))):=by simp [cy,ks,c_]
theorem WB (t:TypeId) (c d:Bool) (k:IntKind) (a b:Int):cy E .geq t c d (some (.int k a)) (some (.int k b))=some (.bool (decide (b≤a))):=by simp [cy,ks,c_]
theorem Sf (t:TypeId) (c d:Bool) (a b:List UInt8):cy E .eql t c d (some (.str a)) (some (.str b))=some (.bool (decide (a=b))):=by
 simp only[cy,ks,vq,Option.some.injEq,AV.bool.injEq]
 exact Bool.eq_iff_iff.2 (by simp)
def unK (op:UnOp) (a:Option AV):Option AV:=match a with
 | some a=>unA op a
 | none=>none
def cK (E:Env) (d:Option TypeDesc) (v i:Option AV):Option AV:=match d,v,i with
 | some (.slice elem),some (.slice i o len _ _),some (.int _ n)=>match ch E elem with
  | some size=>if 0≤n∧n<len then some (.ptr i (o+n.toNat*size)) else none
  | none=>none
 | some (.array len elem),some (.ptr i o),some (.int _ n)=>match ch E elem with
  | some size=>if 0≤n∧n<len then some (.ptr i (o+n.toNat*size)) else none
  | none=>none
 | _,_,_=>none
theorem Ji {ts:List AV} (t:TypeId) (x i:Operand):bE E ts (.indexAddr t x i)=cK E (E.P.underlying t) (eA E ts x) (eA E ts i):=by
 simp only[bE,cK]
 split<;>simp_all<;>(split<;>simp_all)
theorem cA {e:TypeId} {i o len c z:Nat} {b:Bool} {size:Nat} (hs:ch E e=some size) (hz:z<len):cK E (some (.slice e)) (some (.slice i o len c b)) (some (.int .i64 (z:Int)))=some (.ptr i (o+z*size)):=by
 simp only[cK,hs]
 rw[if_pos ⟨by omega,by omega⟩,Int.toNat_natCast]
def dy (d:Option TypeDesc) (v:Option AV):Option AV:=match d,v with
 | some (.slice _),some .aP=>some (.int .i64 0)
 | some (.slice _),some (.slice _ _ n _ _)=>some (.int .i64 n)
 | some (.slice _),some .ff=>some (.int .i64 0)
 | some .string,some (.str s)=>some (.int .i64 s.length)
 | some (.array n _),some _=>some (.int .i64 n)
 | some (.map _ _),some .dU=>some (.int .i64 0)
 | _,_=>none
theorem acH {ts:List AV} (x:Operand) (t:TypeId):bE E ts (.call ⟨.builtin .len, #[x], #[t]⟩)=dy (E.P.underlying t) (eA E ts x):=by
 simp only[bE,fW,eH,List.getElem?_toArray,List.getElem?_cons_zero]
 generalize eA E ts x=o
 cases o with
 | none=>
   generalize E.P.underlying t=u
   cases u with
   | none=>rfl
   | some d=>cases d<;>rfl
 | some v=>
   simp only
   generalize E.P.underlying t=u
   cases u with
   | none=>rfl
   | some d=>cases d<;>cases v<;>rfl
theorem ZN {ts:List AV} {h:aA} (t:TypeId) (x:Operand):dW E ts h (.load t x)=ZM (eA E ts x) (bk E h t) none:=by
 simp only[dW];cases eA E ts x<;>rfl
theorem jT (e:TypeId) (i o n c:Nat) (b:Bool):dy (some (.slice e)) (some (.slice i o n c b))=some (.int .i64 n):=rfl
theorem xp (e:TypeId):dy (some (.slice e)) (some .aP)=some (.int .i64 0):=rfl
theorem ZO (e:TypeId):dy (some (.slice e)) (some .ff)=some (.int .i64 0):=rfl
def Tidy (h:aA):Prop:=∀i o,h.get i=some o→i<h.nx
def rq (E:Env) (d:Option TypeDesc) (v i:Option AV):Option AV:=match d,v,i with
 | some (.array len elem),some (.agg cs),some (.int _ n)=>match ch E elem with
  | some size=>if 0≤n∧n<len then iE E elem cs (n.toNat*size) else none
  | none=>none
 | some .string,some (.str s),some (.int _ n)=>if 0≤n then (match s[n.toNat]? with | some b=>some (.int .u8 b.toNat) | none=>none) else none
 | _,_,_=>none
theorem WC {ts:List AV} (t:TypeId) (x i:Operand):bE E ts (.index t x i)=rq E (E.P.underlying t) (eA E ts x) (eA E ts i):=by
 simp only[bE,rq]
 split
 · simp_all
   split<;>simp_all
 · rename_i s k n _ _ _
   simp_all
   cases s[n.toNat]? <;>rfl
 · simp_all
theorem Sg {s:List UInt8} {z:Nat} {b:UInt8} (h:s[z]? =some b):rq E (some .string) (some (.str s)) (some (.int .i64 (z:Int)))=some (.int .u8 b.toNat):=by
 simp only[rq]
 rw[if_pos (by omega),Int.toNat_natCast,h]
end Go.Ab
end
section
namespace Go.Ab
open Go.ChangeShapes Go.WideShapes Go.RowKit
variable {E:Env}
def xq (h:aA):Prop:=∀i o,h.get i=some o→o.rw=false
theorem OK.show {φ:Ph} {h:aA} {w:World} (ok:OK E φ h w) (QY:xq h) {b off:Nat} {cs:List AV} {e:TypeId} (eF:cs≠ []) (hz:∀m,cs≠ [.map m])
 (hC:∀(k:Nat) (x:AV),cs[k]? =some x→∃y,w.cell? ⟨b,off+k,none⟩=some y∧VR φ x y):
 ∃h',h.new (.cells cs e true)=some h'∧OK E (φ.add h.nx ⟨b,off,0⟩) h' w∧φ.le (φ.add h.nx ⟨b,off,0⟩)∧xq h'∧h'.nx=h.nx+1∧h'.get h.nx=some (.cells cs e true)∧(∀j,j≠h.nx→h'.get j=h.get j)∧(φ.add h.nx ⟨b,off,0⟩) h.nx=some ⟨b,off,0⟩:=by
 obtain ⟨h',hn⟩:∃h',h.new (.cells cs e true)=some h':=by
  exact ⟨_,aA.FJ _ _⟩
 obtain ⟨lJ,ZP,Bc,hold⟩:=aA.lO hn
 have FK:φ h.nx=none:=by
  cases e:φ h.nx with
  | none=>rfl
  | some m=>exact absurd (ok.Aw _ _ e) (Nat.lt_irrefl _)
 have hle:φ.le (φ.add h.nx ⟨b,off,0⟩):=fun i m hm=>by
  unfold Ph.add;split
  · rename_i e;subst e;rw[FK] at hm;simp at hm
  · exact hm
 have kC:∀j,j≠h.nx→(φ.add h.nx ⟨b,off,0⟩) j=φ j:=fun j hj=>by simp [Ph.add,hj]
 have iH:(φ.add h.nx ⟨b,off,0⟩) h.nx=some ⟨b,off,0⟩:=by simp [Ph.add]
 have gL:∀j p,h'.get j=some p→(j=h.nx∧p= .cells cs e true)∨(j≠h.nx∧h.get j=some p):=fun j p hj=>by
  by_cases e:j=h.nx
  · subst e;rw[Bc] at hj;simp at hj;exact .inl ⟨rfl,hj.symm⟩
  · rw[hold j e] at hj;exact .inr ⟨e,hj⟩
 have hlen:0<cs.length:=List.length_pos_iff.2 eF
 obtain ⟨y0,hy0,_⟩:=hC 0 cs[0] (by simp [hlen])
 obtain ⟨C,e',lo,hi,hw⟩:∃C e' lo hi,w.heap[b]? =some (.cells C e' (lo,hi)):=by
  unfold World.cell? at hy0
  split at hy0
  · rename_i C e' fz hw;obtain ⟨lo,hi⟩:=fz;exact ⟨C,e',lo,hi,hw⟩
  · cases hy0
 have Nr:∀k,w.cell? ⟨b,off+k,none⟩=C[off+k]? :=fun k=>by simp [World.cell?,hw]
 refine ⟨h',hn,⟨fun i m hm=>?_,by rw[ZP];exact Nat.le_succ_of_le ok.nx,fun g hg=>hle _ _ (ok.vr g hg),fun j p m hj hm=>?_,fun j k p q m n hj hk hm r7 hw hb=>?_⟩,hle,fun j p hj=>?_,ZP,Bc,hold,iH⟩
 · rw[ZP]
   by_cases e:i=h.nx
   · omega
   · rw[kC i e] at hm;have:=ok.Aw i m hm;omega
 · rcases gL j p hj with ⟨rfl,rfl⟩ | ⟨FL,nD⟩
   · rw[iH] at hm;simp at hm;subst hm
     refine ⟨C,e',lo,hi,hw,⟨?_,fun k x hk=>?_,(fun h=>by cases h),fun _ m hm=>absurd hm (hz m)⟩,fun h=>by cases h⟩
     · obtain ⟨y,hy,_⟩:=hC (cs.length - 1) cs[cs.length - 1] (List.getElem?_eq_getElem (by omega))
       rw[Nr] at hy
       have:=(Array.getElem?_eq_some_iff.1 hy).1
       simp only[fL,Nat.zero_mul]
       omega
     · obtain ⟨y,hy,hv⟩:=hC k x hk
       rw[Nr] at hy
       exact ⟨y,hy,hv.mono hle⟩
   · rw[kC j FL] at hm
     exact (ok.live j p m nD hm).mono hle
 · rcases gL j p hj with ⟨rfl,rfl⟩ | ⟨afs,nD⟩<;>rcases gL k q hk with ⟨rfl,rfl⟩ | ⟨afu,Ia⟩
   · rfl
   · rw[QY k q Ia] at hw;rcases hw with h | h<;>cases h
   · rw[QY j p nD] at hw;rcases hw with h | h<;>cases h
   · rw[kC j afs] at hm;rw[kC k afu] at r7;exact ok.inj _ _ _ _ _ _ nD Ia hm r7 hw hb
 · rcases gL j p hj with ⟨_,rfl⟩ | ⟨_,nD⟩
   · rfl
   · exact QY j p nD
theorem xq.begin {G:Nat} {l:List Wr}:xq (lU G l):=fun i o h=>by
 obtain ⟨x,_,_,rfl⟩:=rn h;rfl
theorem GG {f:FuncId} {avs:List AV} {h h':aA} (r:lB E f avs h (.bool true) h') {φ:Ph} {w:World} {vs:List Value} (ok:OK E φ h w) (hl:LR φ avs vs) (QY:xq h):
 Calls E.P f vs.toArray w fun en w'=>en= .returned (.bool true)∧w.keptBut w' (fun _=>False):=fun cs=>by
 obtain ⟨_,iY⟩:=r φ w vs ok hl
 obtain ⟨φ',w',v',fr,hv,_,ou,h1,h2,h3⟩:=iY cs
 cases hv
 refine ⟨.returned (.bool true),w',fr,⟨rfl,ou.os,ou.output,fun i hi=>?_⟩,h1,h2,h3⟩
 rw[ou.wF i hi (fun j o l' q1 q2 _=>by rw[QY j o q1] at q2;cases q2)]
 cases w.heap[i]? with
 | none=>rfl
 | some o=>cases o with
   | cells c t fz=>exact ⟨rfl,rfl,rfl,fun _ _=>rfl⟩
   | map es c=>exact .inr ⟨rfl,rfl⟩
   | _=>rfl
section
variable {H:Type} {enc:TypeId×Value→H} {w:World} {base:Nat} {spare:Nat→Bool} {held:Bool} {fuel:Nat} {t:TypeId} {x:DataW H×List MemPlace}
end
section
variable {H:Type} {enc:TypeId×Value→H} {P:Program} {w w':World}
theorem BW (hk:w.keptBut w' (fun _=>False)) {p:MemPlace} (hp:p.block<w.heap.size):w.sameAt w' p:=by
 have h:=hk.block hp (fun _ h=>h.elim)
 cases p with
 | cell b off=>simp only[World.sameAt,World.cell?];rw[show w'.heap[b]? =w.heap[b]? from h]
 | map b=>exact h
theorem EF (hl:laidOutB P=true) (hk:w.keptBut w' (fun _=>False)):∀{ts:List TypeId} {vs:List Value} {ds:List (DataW H)} {ps:List MemPlace},(∀t∈ts,P.readableRec t=true∧t<P.types.size)→
 DataW.TrodAll enc P w 0 (fun _=>true) true ts vs ds ps→DataW.TrodAll enc P w' 0 (fun b=>decide (b<w.heap.size)) true ts vs ds ps
 | [],vs,ds,ps,_,h=>by
   obtain ⟨rfl,rfl,rfl⟩:=trodAll_nil h
   exact trodAll_mk0
 | t::ts,vs,ds,ps,hr,h=>by
   have lJ:=DataW.TrodAll.lt h
   obtain ⟨v,qX,d,yM,p,p',rfl,rfl,rfl,⟨n,h1⟩,h2⟩:=trodAll_cons h
   obtain ⟨h3,h4⟩:=hr t (by simp)
   refine trodAll_cons_mk ⟨n,?_⟩ (EF hl hk (fun t ht=>hr t (by simp [ht])) h2)
   exact DataW.trod_stays (kids_book hl h3) (book_sized h3) (fun h=>by cases h) ⟨h4,book_self t⟩ h1 (fun q hq=>BW hk (lJ q (by simp [hq]))) (fun q hq=>by simpa using lJ q (by simp [hq]))
end
end Go.Ab
end
section
namespace Go.Ab
variable {E:Env}
end Go.Ab
end
section
namespace Go.Ab
variable {E:Env} {call:bh}
def Ev (E:Env) (call:bh) (c:Code) (s:St) (e:iB) (s':St):Prop:=∃n0,∀n,n0≤n→exec E call n c s= .ok e s'
theorem Ev.of {c:Code} {s:St} {e:iB} {s':St} (h:∀n,exec E call (n+1) c s= .ok e s'):Ev E call c s e s':=⟨1,fun n hn=>by
 obtain ⟨k,rfl⟩:∃k,n=k+1:=⟨n - 1,by omega⟩
 exact h k⟩
theorem Ev.seq {a b:Code} {s s1 s':St} {e:iB} (h1:Ev E call a s .normal s1) (h2:Ev E call b s1 e s'):Ev E call (.seq a b) s e s':=by
 obtain ⟨n1,h1⟩:=h1
 obtain ⟨n2,h2⟩:=h2
 refine ⟨n1+n2+1,fun n hn=>?_⟩
 obtain ⟨k,rfl⟩:∃k,n=k+1:=⟨n - 1,by omega⟩
 rw[X8,h1 k (by omega),zR]
 exact h2 k (by omega)
theorem Ev.seq' {a b:Code} {s s':St} {e:iB} (he:e≠ .normal) (h1:Ev E call a s e s'):Ev E call (.seq a b) s e s':=by
 obtain ⟨n1,h1⟩:=h1
 refine ⟨n1+1,fun n hn=>?_⟩
 obtain ⟨k,rfl⟩:∃k,n=k+1:=⟨n - 1,by omega⟩
 rw[X8,h1 k (by omega)]
 cases e with
 | normal=>exact absurd rfl he
 | _=>rfl
theorem Ev.loop {b:Code} {s s1 s':St} {e:iB} (h1:Ev E call b s .normal s1) (h2:Ev E call (.loop b) s1 e s'):Ev E call (.loop b) s e s':=by
 obtain ⟨n1,h1⟩:=h1
 obtain ⟨n2,h2⟩:=h2
 refine ⟨n1+n2+1,fun n hn=>?_⟩
 obtain ⟨k,rfl⟩:∃k,n=k+1:=⟨n - 1,by omega⟩
 rw[Sd,h1 k (by omega),zR]
 exact h2 k (by omega)
theorem Ev.exit {b:Code} {s s':St} {e:iB} (he:e≠ .normal) (h1:Ev E call b s e s'):Ev E call (.loop b) s e s':=by
 obtain ⟨n1,h1⟩:=h1
 refine ⟨n1+1,fun n hn=>?_⟩
 obtain ⟨k,rfl⟩:∃k,n=k+1:=⟨n - 1,by omega⟩
 rw[Sd,h1 k (by omega)]
 cases e with
 | normal=>exact absurd rfl he
 | _=>rfl
theorem Ev.ret {b:Code} {s s':St} (h1:Ev E call b s .ret s'):Ev E call (.loop b) s .ret s':=Ev.exit (by simp) h1
theorem Ev.out {b:Code} {s s':St} {i:Nat} (h1:Ev E call b s (.exit i) s'):Ev E call (.loop b) s (.exit i) s':=Ev.exit (by simp) h1
inductive nh where
 | c
 | v (x:AV)
 | q (x:AV)
 | m (x:AV)
 | n (h:aA)
 | a (obj:aX) (x:AV) (h:aA)
 | e (x:AV) (h:aA)
 | p (x:AV) (h:aA)
 | b (x:Bool)
 | l (e:iB) (s:St)
def mw:List Prop→Prop
 | []=>True
 | p::ps=>p∧mw ps
inductive R where
 | bad
 | at (e:iB) (s:St) (as_:List nh) (ps:List Prop)
def R.go (k:St→List nh→List Prop→R):R→R
 | .at .normal s as_ ps=>k s as_ ps
 | r=>r
theorem R.acI {k:St→List nh→List Prop→R} {r:R} {e:iB} {s:St} {as_:List nh} {ps:List Prop} (h:r.go k= .at e s as_ ps):(∃s1 se qn,r= .at .normal s1 se qn∧k s1 se qn= .at e s as_ ps)∨(r= .at e s as_ ps∧e≠ .normal):=by
 unfold R.go at h
 split at h
 · exact .inl ⟨_,_,_,rfl,h⟩
 · rename_i eF
   refine .inr ⟨h,fun he=>?_⟩
   subst he;exact eF _ _ _ h
def acJ (E:Env) (ts:List AV):List Operand→List TypeId→Option AV
 | [x],[t]=>dy (E.P.underlying t) (eA E ts x)
 | _,_=>none
def zT (c a b:Option AV):Option AV:=match c with
 | some (.bool true)=>a
 | some (.bool false)=>b
 | _=>none
theorem WD {ts:List AV} (c a b:Operand):bE E ts (.pick c a b)=zT (eA E ts c) (eA E ts a) (eA E ts b):=by
 simp only[bE]
 generalize eA E ts c=x
 cases x with
 | none=>rfl
 | some v=>cases v with
   | bool b=>cases b<;>rfl
   | _=>rfl
theorem Sh {c:Bool} {a b:Option AV} (h:c=true):zT (some (.bool c)) a b=a:=by rw[h];rfl
theorem aZ {c:Bool} {a b:Option AV} (h:c=false):zT (some (.bool c)) a b=b:=by rw[h];rfl
def WE (E:Env) (ts:List AV) (op:Op):Option AV:=match op with
 | .indexAddr t x i=>cK E (E.P.underlying t) (eA E ts x) (eA E ts i)
 | .index t x i=>rq E (E.P.underlying t) (eA E ts x) (eA E ts i)
 | .binOp op t x y _=>cy E op t (isConst x) (isConst y) (eA E ts x) (eA E ts y)
 | .pick c a b=>zT (eA E ts c) (eA E ts a) (eA E ts b)
 | .call c=>match c.callee with
   | .builtin .len=>acJ E ts c.args.toList c.argTypes.toList
   | _=>none
 | _=>none
theorem BX {α:Type} {a:Array α} {l:List α} (h:a.toList=l):a=l.toArray:=by rw[←h]
theorem Ns {ts:List AV} {op:Op} {v:AV} (e:WE E ts op=some v):bE E ts op=some v:=by
 unfold WE at e
 split at e
 · rw[←Ji] at e;exact e
 · rw[←WC] at e;exact e
 · rename_i o t x y t';exact (Wt o t t' x y).trans e
 · rename_i c a b;exact (WD c a b).trans e
 · rename_i c
   obtain ⟨cl,args,tys⟩:=c
   simp only at e
   split at e
   · unfold acJ at e
     split at e
     · rename_i x t hx ht
       rw[BX hx,BX ht]
       exact (acH x t).trans e
     · cases e
   · cases e
 · cases e
noncomputable def Si (E:Env) (ts:List AV) (h:aA) (op:Op):Option AV:=match op with
 | .load t x=>ZM (eA E ts x) (bk E h t) none
 | op=>dW E ts h op
theorem GH {ts:List AV} {h:aA} {op:Op} {v:AV} (e:Si E ts h op=some v):dW E ts h op=some v:=by
 unfold Si at e
 split at e
 · rw[ZN];exact e
 · exact e
def acK (E:Env) (d:Option TypeDesc) (l c:Option AV):Option (aX×(Nat→AV)):=match d,l,c with
 | some (.slice elem),some (.int _ len),some (.int _ cap)=>match ch E elem,fQ E elem,fC E elem with
   | some n,some bytes,some z=>
     if 0≤len∧len≤cap∧cap<2^30∧(bytes:Int)*cap≤2^47∧z.cells.length=n then
      some (.cells (gA z.cells cap.toNat) elem false,fun i=> .slice i 0 len.toNat cap.toNat false)
     else none
   | _,_,_=>none
 | _,_,_=>none
def WG (E:Env) (ts:List AV) (op:Op):Option (aX×(Nat→AV)):=match op with
 | .makeSlice t l c=>acK E (E.P.underlying t) (eA E ts l) (eA E ts c)
 | op=>eB E ts op
theorem Nt (ts:List AV) (op:Op):WG E ts op=eB E ts op:=by
 unfold WG
 split
 · rename_i t l c
   simp only[eB]
   generalize E.P.underlying t=d
   generalize eA E ts l=x
   generalize eA E ts c=y
   rfl
 · rfl
noncomputable def WH (E:Env) (call:bh) (ts:List AV) (h:aA) (rc:RC) (o:Oper) (x:AV) (h':aA):Prop:=match o.op with
 | .store t a v=>match eA E ts a,eA E ts v with
   | some a,some v=>x=AV.undef∧fE E h t a v=some h'
   | _,_=>False
 | .call c=>match c.callee with
   | .builtin .append=>match fW E ts c.args.toList with
     | some [s,y]=>bX E h c.argTypes s y=some (x,h')
     | _=>False
   | .builtin .copy=>match fW E ts c.args.toList with
     | some [s,y]=>u_ E h c.argTypes s y=some (x,h')
     | _=>False
   | .value _=>match callee E ts c with
     | some (f,args)=>match j_ E f with
       | some g=>g args h=some (x,h')
       | none=>call f args h= .ret x h'
     | none=>False
   | _=>dm E call ts h rc o= .val x h'
 | .convert src dst y=>Ee E h src dst (eA E ts y)=some (x,h')
 | _=>dm E call ts h rc o= .val x h'
theorem Nu {ts:List AV} {h:aA} {rc:RC} {o:Oper} {x:AV} {h':aA} (e:WH E call ts h rc o x h'):dm E call ts h rc o= .val x h':=by
 unfold WH at e
 split at e
 · rename_i t a v ho
   split at e
   · rename_i a' v' h1 h2
     obtain ⟨rfl,e⟩:=e
     unfold dm
     simp only[ho,h1,h2,e]
   · exact e.elim
 · rename_i c ho
   split at e
   · rename_i hc
     split at e
     · rename_i h1
       unfold dm
       simp only[ho,hc,h1,e]
     · exact e.elim
   · rename_i hc
     split at e
     · rename_i h1
       unfold dm
       simp only[ho,hc,h1,e]
     · exact e.elim
   · rename_i hc
     split at e
     · rename_i h1
       split at e
       · rename_i h2
         unfold dm
         simp only[ho,hc,h1,h2,e]
       · rename_i h2
         unfold dm
         simp only[ho,hc,h1,h2,e]
     · exact e.elim
   · exact e
 · rename_i src dst y ho
   unfold dm
   simp only[ho,e]
 · exact e
def Pg {β:Type} (k:List AV→β):List AV→Nat→AV→β
 | [],_,_=>k []
 | _::xs,0,v=>k (v::xs)
 | x::xs,d+1,v=>Pg (fun ys=>k (x::ys)) xs d v
theorem GI {β:Type}:∀(k:List AV→β) (ts:List AV) (d:Nat) (v:AV),Pg k ts d v=k (ts.set d v)
 | k,[],_,_=>by simp [Pg]
 | k,_::xs,0,v=>rfl
 | k,x::xs,d+1,v=>by rw[Pg,GI];rfl
def sZ (s:St) (d:Option Tmp) (v:AV) (h:aA) (as_:List nh) (ps:List Prop):R:=match d with
 | some i=>Pg (fun ts=> .at .normal ⟨ts,h,s.ds,s.rc⟩ as_ ps) s.ts i v
 | none=> .at .normal ⟨s.ts,h,s.ds,s.rc⟩ as_ ps
theorem nm (s:St) (d:Option Tmp) (v:AV) (h:aA) (as_:List nh) (ps:List Prop):Go.Ab.sZ s d v h as_ ps= .at .normal {s with ts:=dN s.ts d v,h:=h} as_ ps:=by
 cases d with
 | none=>rfl
 | some i=>exact GI _ _ _ _
noncomputable def Jj (E:Env) (call:bh) (o:Oper) (s:St) (as_:List nh) (ps:List Prop):R:=match as_ with
 | .c::as_=>match bE E s.ts o.op with
   | some v=>sZ s o.dst v s.h as_ ps
   | none=> .bad
 | .v x::as_=>sZ s o.dst x s.h as_ ((WE E s.ts o.op=some x)::ps)
 | .q x::as_=>sZ s o.dst x s.h as_ ((bE E s.ts o.op=some x)::ps)
 | .m x::as_=>match bE E s.ts o.op with
   | none=>sZ s o.dst x s.h as_ ((Si E s.ts s.h o.op=some x)::ps)
   | some _=> .bad
 | .n h'::as_=>match bE E s.ts o.op,dW E s.ts s.h o.op,eB E s.ts o.op with
   | none,none,some (obj,mk)=>sZ s o.dst (mk s.h.nx) h' as_ ((s.h.new obj=some h')::ps)
   | _,_,_=> .bad
 | .a obj x h'::as_=>match bE E s.ts o.op,dW E s.ts s.h o.op with
   | none,none=>sZ s o.dst x h' as_ ((∃mk,WG E s.ts o.op=some (obj,mk)∧mk s.h.nx=x)::(s.h.new obj=some h')::ps)
   | _,_=> .bad
 | .e x h'::as_=>match bE E s.ts o.op,dW E s.ts s.h o.op,eB E s.ts o.op with
   | none,none,none=>sZ s o.dst x h' as_ (WH E call s.ts s.h s.rc o x h'::ps)
   | _,_,_=> .bad
 | .p x h'::as_=>match bE E s.ts o.op,dW E s.ts s.h o.op,eB E s.ts o.op with
   | none,none,none=> .at (.panic x) {s with h:=h'} as_ ((dm E call s.ts s.h s.rc o= .panic x h')::ps)
   | _,_,_=> .bad
 | _=> .bad
theorem zU {o:Oper} {s:St} {as_:List nh} {ps:List Prop} {e:iB} {s':St} {uF:List nh} {qM:List Prop} (hr:Jj E call o s as_ ps= .at e s' uF qM) (hp:mw qM):mw ps∧FH E call s o= .ok e s':=by
 have seen:∀{x:AV},(bE E s.ts o.op=some x∨(bE E s.ts o.op=none∧dW E s.ts s.h o.op=some x))→FH E call s o= .ok .normal {s with ts:=dN s.ts o.dst x}:=by
  rintro x (h | ⟨h1,h2⟩)<;>unfold FH
  · rw[h]
  · rw[h1,h2]
 unfold Jj at hr
 split at hr
 · split at hr
   · rename_i v hv
     rw[nm] at hr;cases hr
     exact ⟨hp,seen (.inl hv)⟩
   · cases hr
 · rw[nm] at hr;cases hr
   exact ⟨hp.2,seen (.inl (Ns hp.1))⟩
 · rw[nm] at hr;cases hr
   exact ⟨hp.2,seen (.inl hp.1)⟩
 · split at hr
   · rename_i h1
     rw[nm] at hr;cases hr
     exact ⟨hp.2,seen (.inr ⟨h1,GH hp.1⟩)⟩
   · cases hr
 · split at hr
   · rename_i h1 h2 h3
     rw[nm] at hr;cases hr
     refine ⟨hp.2,?_⟩
     unfold FH
     simp only[h1,h2,h3,hp.1]
   · cases hr
 · split at hr
   · rename_i h1 h2
     rw[nm] at hr;cases hr
     obtain ⟨⟨mk,h3,h4⟩,h5,hp⟩:=hp
     rw[Nt] at h3
     refine ⟨hp,?_⟩
     unfold FH
     simp only[h1,h2,h3,h4,h5]
   · cases hr
 · split at hr
   · rename_i h1 h2 h3
     rw[nm] at hr;cases hr
     refine ⟨hp.2,?_⟩
     unfold FH
     simp only[h1,h2,h3,Nu hp.1]
   · cases hr
 · split at hr
   · rename_i h1 h2 h3
     cases hr
     refine ⟨hp.2,?_⟩
     unfold FH
     simp only[h1,h2,h3,hp.1]
   · cases hr
 · cases hr
inductive Gd where
 | yes
 | no
 | ask (v want:Bool)
def Jk (want:Bool):Option AV→Gd
 | some (.bool v)=> .ask v want
 | _=> .no
def GJ (ops:Array Oper) (ts:List AV) (g:Option (Nat×Bool)):Gd:=match g with
 | none=> .yes
 | some (j,want)=>match (ops[j]?).bind (·.dst) with
   | none=> .no
   | some d=>Jk want ts[d]?
theorem EG (ops:Array Oper) (ts:List AV) (o:Oper):cD ops ts o=(match GJ ops ts o.guard with
 | .yes=>true
 | .no=>false
 | .ask v want=>v==want):=by
 unfold cD GJ
 cases o.guard with
 | none=>rfl
 | some q=>
   obtain ⟨j,want⟩:=q
   simp only
   cases (ops[j]?).bind (·.dst) with
   | none=>rfl
   | some d=>
     simp only
     generalize ts[d]? =y
     unfold Jk
     cases y with
     | none=>rfl
     | some z=>cases z<;>rfl
noncomputable def pR (E:Env) (call:bh) (ops:Array Oper):List Oper→St→List nh→List Prop→R
 | [],s,as_,ps=> .at .normal s as_ ps
 | o::rest,s,as_,ps=>match GJ ops s.ts o.guard with
   | .yes=>(Jj E call o s as_ ps).go (pR E call ops rest)
   | .no=>(sZ s o.dst AV.undef s.h as_ ps).go (pR E call ops rest)
   | .ask v want=>match as_ with
     | .b x::as_=>bif x==want then (Jj E call o s as_ ((v=x)::ps)).go (pR E call ops rest) else (sZ s o.dst AV.undef s.h as_ ((v=x)::ps)).go (pR E call ops rest)
     | _=> .bad
theorem xr {ops:Array Oper}:∀(l:List Oper) (s:St) (as_:List nh) (ps:List Prop) (e:iB) (s':St) (uF:List nh) (qM:List Prop),pR E call ops l s as_ ps= .at e s' uF qM→mw qM→mw ps∧ku E call ops l s= .ok e s'
 | [],s,as_,ps,e,s',uF,qM,hr,hp=>by cases hr;exact ⟨hp,rfl⟩
 | o::rest,s,as_,ps,e,s',uF,qM,hr,hp=>by
   have ih:=xr (ops:=ops) rest
   have ZQ:∀(se:List nh) (qn:List Prop),(Jj E call o s se qn).go (pR E call ops rest)= .at e s' uF qM→mw qn∧(cD ops s.ts o=true→ku E call ops (o::rest) s= .ok e s'):=by
    intro se qn h
    rcases R.acI h with ⟨s1,P9,QB,h1,h2⟩ | ⟨h1,eF⟩
    · obtain ⟨h3,h4⟩:=ih _ _ _ _ _ _ _ h2 hp
      obtain ⟨h5,h6⟩:=zU h1 h3
      refine ⟨h5,fun hw=>?_⟩
      unfold ku
      rw[if_pos hw,h6];exact h4
    · obtain ⟨h5,h6⟩:=zU h1 hp
      refine ⟨h5,fun hw=>?_⟩
      unfold ku
      rw[if_pos hw,h6]
      cases e with
      | normal=>exact absurd rfl eF
      | _=>rfl
   have ZR:∀(se:List nh) (qn:List Prop),(sZ s o.dst AV.undef s.h se qn).go (pR E call ops rest)= .at e s' uF qM→mw qn∧(cD ops s.ts o=false→ku E call ops (o::rest) s= .ok e s'):=by
    intro se qn h
    rw[nm] at h
    obtain ⟨h3,h4⟩:=ih _ _ _ _ _ _ _ (show pR E call ops rest _ se qn=_ from h) hp
    refine ⟨h3,fun hw=>?_⟩
    unfold ku
    rw[if_neg (by rw[hw];exact Bool.false_ne_true)]
    exact h4
   have hg:=EG ops s.ts o
   unfold pR at hr
   split at hr
   · rename_i h1;rw[h1] at hg;exact ⟨(ZQ _ _ hr).1,(ZQ _ _ hr).2 hg⟩
   · rename_i h1;rw[h1] at hg;exact ⟨(ZR _ _ hr).1,(ZR _ _ hr).2 hg⟩
   · rename_i v want h1
     rw[h1] at hg
     split at hr
     · rename_i x se
       cases hx:x==want with
       | true=>
         rw[hx] at hr
         obtain ⟨⟨h2,h3⟩,h4⟩:=ZQ _ _ hr
         exact ⟨h3,h4 (by rw[hg,h2];exact hx)⟩
       | false=>
         rw[hx] at hr
         obtain ⟨⟨h2,h3⟩,h4⟩:=ZR _ _ hr
         exact ⟨h3,h4 (by rw[hg,h2];exact hx)⟩
     · cases hr
inductive RT where
 | bad
 | ok (tr:List Step) (hs:List aA) (s:St) (as_:List nh) (ps:List Prop)
def RT.step (x:Step):RT→RT
 | .ok tr hs s as_ ps=> .ok (x::tr) hs s as_ ps
 | .bad=> .bad
def RT.bound (x:Step) (h:aA):RT→RT
 | .ok tr hs s as_ ps=> .ok (x::tr) (h::hs) s as_ ps
 | .bad=> .bad
def RT.put (s:St) (d:Option Tmp) (v:AV) (h:aA) (k:St→RT):RT:=match d with
 | some i=>Pg (fun ts=>k ⟨ts,h,s.ds,s.rc⟩) s.ts i v
 | none=>k ⟨s.ts,h,s.ds,s.rc⟩
theorem RT.put_eq (s:St) (d:Option Tmp) (v:AV) (h:aA) (k:St→RT):RT.put s d v h k=k {s with ts:=dN s.ts d v,h:=h}:=by
 cases d with
 | none=>rfl
 | some i=>exact GI _ _ _ _
noncomputable def Jl (E:Env) (call:bh) (i k:Nat) (o:Oper) (s:St) (as_:List nh) (ps:List Prop) (go:Nat→St→List nh→List Prop→RT):RT:=match as_ with
 | .e x h'::as_=>(RT.put s o.dst x h' fun s'=>go (k+1) s' as_ (WH E call s.ts s.h s.rc o x h'::ps)).bound ⟨i,k,s.ts,x,.uE h'⟩ s.h
 | _=> .bad
noncomputable def Jm (E:Env) (i k:Nat) (o:Oper) (s:St) (as_:List nh) (ps:List Prop) (go:Nat→St→List nh→List Prop→RT):RT:=match as_ with
 | .c::as_=>match bE E s.ts o.op with
   | some v=>(RT.put s o.dst v s.h fun s'=>go k s' as_ ps).step ⟨i,k,s.ts,v,.gS⟩
   | none=> .bad
 | .v x::as_=>(RT.put s o.dst x s.h fun s'=>go k s' as_ ((WE E s.ts o.op=some x)::ps)).step ⟨i,k,s.ts,x,.gS⟩
 | .q x::as_=>(RT.put s o.dst x s.h fun s'=>go k s' as_ ((bE E s.ts o.op=some x)::ps)).step ⟨i,k,s.ts,x,.gS⟩
 | .m x::as_=>match bE E s.ts o.op with
   | none=>(RT.put s o.dst x s.h fun s'=>go k s' as_ ((Si E s.ts s.h o.op=some x)::ps)).step ⟨i,k,s.ts,x,.red⟩
   | some _=> .bad
 | .n h'::as_=>match bE E s.ts o.op,dW E s.ts s.h o.op,eB E s.ts o.op with
   | none,none,some (obj,mk)=>(RT.put s o.dst (mk s.h.nx) h' fun s'=>go k s' as_ ((s.h.new obj=some h')::ps)).step ⟨i,k,s.ts,mk s.h.nx,.sA s.h.nx obj⟩
   | _,_,_=> .bad
 | .a obj x h'::as_=>match bE E s.ts o.op,dW E s.ts s.h o.op with
   | none,none=>(RT.put s o.dst x h' fun s'=>go k s' as_ ((∃mk,WG E s.ts o.op=some (obj,mk)∧mk s.h.nx=x)::(s.h.new obj=some h')::ps)).step ⟨i,k,s.ts,x,.sA s.h.nx obj⟩
   | _,_=> .bad
 | _=> .bad
noncomputable def runT (E:Env) (call:bh) (ops:Array Oper):List Nat→Nat→St→List nh→List Prop→RT
 | [],_,s,as_,ps=> .ok [] [s.h] s as_ ps
 | i::rest,k,s,as_,ps=>match ops[i]? with
   | none=> .bad
   | some o=>match GJ ops s.ts o.guard with
     | .yes=>bif fI E o.op then Jl E call i k o s as_ ps (runT E call ops rest) else Jm E i k o s as_ ps (runT E call ops rest)
     | .no=>bif fI E o.op then (RT.put s o.dst AV.undef s.h fun s'=>runT E call ops rest (k+1) s' as_ ps).bound ⟨i,k,s.ts,AV.undef,.off⟩ s.h else (RT.put s o.dst AV.undef s.h fun s'=>runT E call ops rest k s' as_ ps).step ⟨i,k,s.ts,AV.undef,.off⟩
     | .ask v want=>match as_ with
       | .b x::as_=>bif x==want then (bif fI E o.op then Jl E call i k o s as_ ((v=x)::ps) (runT E call ops rest) else Jm E i k o s as_ ((v=x)::ps) (runT E call ops rest))
         else (bif fI E o.op then (RT.put s o.dst AV.undef s.h fun s'=>runT E call ops rest (k+1) s' as_ ((v=x)::ps)).bound ⟨i,k,s.ts,AV.undef,.off⟩ s.h else (RT.put s o.dst AV.undef s.h fun s'=>runT E call ops rest k s' as_ ((v=x)::ps)).step ⟨i,k,s.ts,AV.undef,.off⟩)
       | _=> .bad
theorem RT.ru {x:Step} {r:RT} {tr:List Step} {hs:List aA} {s:St} {as_:List nh} {ps:List Prop} (h:r.step x= .ok tr hs s as_ ps):∃Ku,tr=x::Ku∧r= .ok Ku hs s as_ ps:=by
 cases r with
 | bad=>cases h
 | ok a b c d e=>cases h;exact ⟨_,rfl,rfl⟩
theorem RT.Jn {x:Step} {g:aA} {r:RT} {tr:List Step} {hs:List aA} {s:St} {as_:List nh} {ps:List Prop} (h:r.bound x g= .ok tr hs s as_ ps):∃Ku qW,tr=x::Ku∧hs=g::qW∧r= .ok Ku qW s as_ ps:=by
 cases r with
 | bad=>cases h
 | ok a b c d e=>cases h;exact ⟨_,_,rfl,rfl,rfl⟩
theorem BY {ops:Array Oper}:∀(l:List Nat) (k:Nat) (s:St) (as_:List nh) (ps:List Prop) (tr:List Step) (hs:List aA) (s':St) (uF:List nh) (qM:List Prop),
 runT E call ops l k s as_ ps= .ok tr hs s' uF qM→mw qM→mw ps∧cT E call ops l k s= .ok tr hs s'
 | [],k,s,as_,ps,tr,hs,s',uF,qM,hr,hp=>by cases hr;exact ⟨hp,rfl⟩
 | i::rest,k,s,as_,ps,tr,hs,s',uF,qM,hr,hp=>by
   have ih:=BY (ops:=ops) rest
   unfold runT at hr
   split at hr
   · cases hr
   rename_i o hi
   have hE:∀{se:List nh} {qn:List Prop},fI E o.op=true→Jl E call i k o s se qn (runT E call ops rest)= .ok tr hs s' uF qM→mw qn∧(cD ops s.ts o=true→cT E call ops (i::rest) k s= .ok tr hs s'):=by
    intro se qn he h
    unfold Jl at h
    split at h
    · rename_i x h' P9
      rw[RT.put_eq] at h
      obtain ⟨MT,so,rfl,rfl,h9⟩:=RT.Jn h
      obtain ⟨h1,h2⟩:=ih _ _ _ _ _ _ _ _ _ h9 hp
      refine ⟨h1.2,fun hw=>?_⟩
      unfold cT
      simp only[hi,he,hw,if_true,Nu h1.1,h2]
      rfl
    · cases h
   have hN:∀{se:List nh} {qn:List Prop},fI E o.op=false→Jm E i k o s se qn (runT E call ops rest)= .ok tr hs s' uF qM→mw qn∧(cD ops s.ts o=true→cT E call ops (i::rest) k s= .ok tr hs s'):=by
    intro se qn he h
    unfold Jm at h
    split at h
    · split at h
      · rename_i v hv
        rw[RT.put_eq] at h
        obtain ⟨MT,rfl,h9⟩:=RT.ru h
        obtain ⟨h1,h2⟩:=ih _ _ _ _ _ _ _ _ _ h9 hp
        refine ⟨h1,fun hw=>?_⟩
        unfold cT
        simp only[hi,he,hw,if_true,hv,Bool.false_eq_true,if_false]
        rw[h2]
        rfl
      · cases h
    · rw[RT.put_eq] at h
      obtain ⟨MT,rfl,h9⟩:=RT.ru h
      obtain ⟨h1,h2⟩:=ih _ _ _ _ _ _ _ _ _ h9 hp
      refine ⟨h1.2,fun hw=>?_⟩
      unfold cT
      simp only[hi,he,hw,if_true,Ns h1.1,Bool.false_eq_true,if_false]
      rw[h2]
      rfl
    · rw[RT.put_eq] at h
      obtain ⟨MT,rfl,h9⟩:=RT.ru h
      obtain ⟨h1,h2⟩:=ih _ _ _ _ _ _ _ _ _ h9 hp
      refine ⟨h1.2,fun hw=>?_⟩
      unfold cT
      simp only[hi,he,hw,if_true,h1.1,Bool.false_eq_true,if_false]
      rw[h2]
      rfl
    · split at h
      · rename_i hv
        rw[RT.put_eq] at h
        obtain ⟨MT,rfl,h9⟩:=RT.ru h
        obtain ⟨h1,h2⟩:=ih _ _ _ _ _ _ _ _ _ h9 hp
        refine ⟨h1.2,fun hw=>?_⟩
        unfold cT
        simp only[hi,he,hw,if_true,hv,GH h1.1,Bool.false_eq_true,if_false]
        rw[h2]
        rfl
      · cases h
    · split at h
      · rename_i q1 q2 q3
        rw[RT.put_eq] at h
        obtain ⟨MT,rfl,h9⟩:=RT.ru h
        obtain ⟨h1,h2⟩:=ih _ _ _ _ _ _ _ _ _ h9 hp
        refine ⟨h1.2,fun hw=>?_⟩
        unfold cT
        simp only[hi,he,hw,if_true,q1,q2,q3,h1.1,Bool.false_eq_true,if_false,h2]
        rfl
      · cases h
    · split at h
      · rename_i q1 q2
        rw[RT.put_eq] at h
        obtain ⟨MT,rfl,h9⟩:=RT.ru h
        obtain ⟨h1,h2⟩:=ih _ _ _ _ _ _ _ _ _ h9 hp
        obtain ⟨⟨mk,h3,h4⟩,h5,h6⟩:=h1
        rw[Nt] at h3
        subst h4
        refine ⟨h6,fun hw=>?_⟩
        unfold cT
        simp only[hi,he,hw,if_true,q1,q2,h3,h5,Bool.false_eq_true,if_false,h2]
        rfl
      · cases h
    · cases h
   have hO:∀{se:List nh} {qn:List Prop},(bif fI E o.op then (RT.put s o.dst AV.undef s.h fun s'=>runT E call ops rest (k+1) s' se qn).bound ⟨i,k,s.ts,AV.undef,.off⟩ s.h else (RT.put s o.dst AV.undef s.h fun s'=>runT E call ops rest k s' se qn).step ⟨i,k,s.ts,AV.undef,.off⟩)= .ok tr hs s' uF qM→
    mw qn∧(cD ops s.ts o=false→cT E call ops (i::rest) k s= .ok tr hs s'):=by
    intro se qn h
    cases he:fI E o.op with
    | true=>
      rw[he,cond_true,RT.put_eq] at h
      obtain ⟨MT,so,rfl,rfl,h9⟩:=RT.Jn h
      obtain ⟨h1,h2⟩:=ih _ _ _ _ _ _ _ _ _ h9 hp
      refine ⟨h1,fun hw=>?_⟩
      unfold cT
      simp only[hi,he,hw,if_true,Bool.false_eq_true,if_false]
      rw[h2]
      rfl
    | false=>
      rw[he,cond_false,RT.put_eq] at h
      obtain ⟨MT,rfl,h9⟩:=RT.ru h
      obtain ⟨h1,h2⟩:=ih _ _ _ _ _ _ _ _ _ h9 hp
      refine ⟨h1,fun hw=>?_⟩
      unfold cT
      simp only[hi,he,hw,Bool.false_eq_true,if_false]
      rw[h2]
      rfl
   have hY:∀{se:List nh} {qn:List Prop},(bif fI E o.op then Jl E call i k o s se qn (runT E call ops rest) else Jm E i k o s se qn (runT E call ops rest))= .ok tr hs s' uF qM→
    mw qn∧(cD ops s.ts o=true→cT E call ops (i::rest) k s= .ok tr hs s'):=by
    intro se qn h
    cases he:fI E o.op with
    | true=>rw[he] at h;exact hE he h
    | false=>rw[he] at h;exact hN he h
   have hg:=EG ops s.ts o
   split at hr
   · rename_i h1;rw[h1] at hg;exact ⟨(hY hr).1,(hY hr).2 hg⟩
   · rename_i h1;rw[h1] at hg;exact ⟨(hO hr).1,(hO hr).2 hg⟩
   · rename_i v want h1
     rw[h1] at hg
     split at hr
     · rename_i x se
       cases hx:x==want with
       | true=>
         rw[hx] at hr
         obtain ⟨⟨h2,h3⟩,h4⟩:=hY hr
         exact ⟨h3,h4 (by rw[hg,h2];exact hx)⟩
       | false=>
         rw[hx] at hr
         obtain ⟨⟨h2,h3⟩,h4⟩:=hO hr
         exact ⟨h3,h4 (by rw[hg,h2];exact hx)⟩
     · cases hr
noncomputable def Lp (E:Env) (ops:Array Oper) (x:Step) (h:aA) (ps:List Prop):List Prop:=match x.kind with
 | .red=>match ops[x.i]? with
   | some o=>(AV.same 20 x.v x.v=true)::(Si E x.ts h o.op=some x.v)::ps
   | none=>False::ps
 | .sA n obj=>(∃o,h.get n=some o∧aX.same o obj=true)::ps
 | _=>ps
noncomputable def Lq (E:Env) (ops:Array Oper) (x:Step):List aA→List Prop→List Prop
 | [],ps=>ps
 | h::hs,ps=>Lq E ops x hs (Lp E ops x h ps)
noncomputable def xu (E:Env) (ops:Array Oper) (bM:List Nat) (an:List (List Nat)) (hs:List aA):List Step→List Prop→List Prop
 | [],ps=>ps
 | x::tr,ps=>xu E ops bM an hs tr (Lq E ops x ((hs.drop x.k).take (ky bM an x.i+1 - x.k)) ps)
theorem Pj {ops:Array Oper} {x:Step} {h:aA} {ps:List Prop} (hc:mw (Lp E ops x h ps)):mw ps∧jN E ops x h=true:=by
 unfold Lp at hc
 unfold jN
 split at hc
 · rename_i hk
   simp only[hk]
   split at hc
   · rename_i o ho
     have gL:ops.getD x.i default=o:=by simp [Array.getD_eq_getD_getElem?,ho]
     simp only[gL,GH hc.2.1,hc.1]
     exact ⟨hc.2.2,trivial⟩
   · exact hc.1.elim
 · rename_i n obj hk
   obtain ⟨⟨o,h1,h2⟩,h3⟩:=hc
   simp only[hk,h1,h2]
   exact ⟨h3,trivial⟩
 · rename_i h1 h2
   refine ⟨hc,?_⟩
   split
   · rename_i hk;exact absurd hk (by assumption)
   · rename_i hk;exact absurd hk (h2 _ _)
   · rfl
theorem EH {ops:Array Oper} {x:Step}:∀(hs:List aA) (ps:List Prop),mw (Lq E ops x hs ps)→mw ps∧hs.all (jN E ops x)=true
 | [],ps,hc=>⟨hc,rfl⟩
 | h::hs,ps,hc=>by
   obtain ⟨h1,h2⟩:=EH hs _ hc
   obtain ⟨h3,h4⟩:=Pj h1
   exact ⟨h3,by simp only[List.all_cons,h4,h2,Bool.and_self]⟩
theorem zV {ops:Array Oper} {bM:List Nat} {an:List (List Nat)} {hs:List aA}:∀(tr:List Step) (ps:List Prop),mw (xu E ops bM an hs tr ps)→
 mw ps∧(tr.all fun x=>((hs.drop x.k).take (ky bM an x.i+1 - x.k)).all (jN E ops x))=true
 | [],ps,hc=>⟨hc,rfl⟩
 | x::tr,ps,hc=>by
   obtain ⟨h1,h2⟩:=zV tr _ hc
   obtain ⟨h3,h4⟩:=EH _ _ h1
   exact ⟨h3,by simp only[List.all_cons,h4,h2,Bool.and_self]⟩
noncomputable def Sj (l:List Nat) (ps:List Prop):List Prop:=match l with
 | []=>ps
 | [_]=>ps
 | l=>(nodup l=true)::ps
noncomputable def GK (E:Env) (call:bh) (ops:Array Oper) (s:St) (as_:List nh) (ps:List Prop):R:=match sy E ops with
 | none=> .bad
 | some pl=>match runT E call ops pl.order 0 s as_ ps with
   | .ok tr hs s' uF qM=> .at .normal s' uF (Sj (qR tr) (xu E ops pl.bM pl.an hs tr qM))
   | .bad=> .bad
theorem DQ {ops:Array Oper} {s:St} {as_:List nh} {ps:List Prop} {e:iB} {s':St} {uF:List nh} {qM:List Prop} (hr:GK E call ops s as_ ps= .at e s' uF qM) (hp:mw qM):mw ps∧wC E call ops s= .ok e s':=by
 unfold GK at hr
 split at hr
 · cases hr
 rename_i pl OI
 split at hr
 · rename_i tr hs s1 se qn h1
   cases hr
   have hn:mw (xu E ops pl.bM pl.an hs tr qn)∧nodup (qR tr)=true:=by
    unfold Sj at hp
    split at hp
    · rename_i hm;exact ⟨hp,by rw[hm];rfl⟩
    · rename_i hm;exact ⟨hp,by rw[hm];rfl⟩
    · exact ⟨hp.2,hp.1⟩
   obtain ⟨h2,h3⟩:=zV _ _ hn.1
   obtain ⟨h4,h5⟩:=BY _ _ _ _ _ _ _ _ _ _ h1 h2
   refine ⟨h4,?_⟩
   unfold wC
   simp only[OI,h5]
   have:qS E ops pl tr hs=true:=by
    unfold qS
    rw[hn.2,Bool.true_and]
    exact h3
   rw[if_pos this]
 · cases hr
noncomputable def run (E:Env) (call:bh):Nat→Code→St→List nh→List Prop→R
 | 0,_,_,_,_=> .bad
 | n+1,c,s,as_,ps=>match c with
   | .skip=> .at .normal s as_ ps
   | .ret=> .at .ret s as_ ps
   | .exit i=> .at (.exit i) s as_ ps
   | .seq a b=>match run E call n a s as_ ps with
     | .at .normal s1 se qn=>run E call n b s1 se qn
     | r=>r
   | .cond x a b=>match as_ with
     | .b v::as_=>match eA E s.ts x with
       | some (.bool u)=>bif v then run E call n a s as_ ((u=true)::ps) else run E call n b s as_ ((u=false)::ps)
       | _=> .bad
     | .l e s'::as_=> .at e s' as_ (Ev E call (.cond x a b) s e s'::ps)
     | _=> .bad
   | .block id b=>match run E call n b s as_ ps with
     | .at (.exit j) s1 se qn=>bif Nat.beq j id then .at .normal s1 se qn else .at (.exit j) s1 se qn
     | r=>r
   | .loop b=>match as_ with
     | .l e s'::as_=> .at e s' as_ (Ev E call (.loop b) s e s'::ps)
     | _=> .bad
   | .rangeFunc f qM a b=>match as_ with
     | .l e s'::as_=> .at e s' as_ (Ev E call (.rangeFunc f qM a b) s e s'::ps)
     | _=> .bad
   | .region i ops draw=>match as_ with
     | .l e s'::as_=> .at e s' as_ (Ev E call (.region i ops draw) s e s'::ps)
     | as_=>bif draw then GK E call ops s as_ ps else pR E call ops ops.toList s as_ ps
   | .scope b=>run E call n b s as_ ps
   | .label _=> .at .normal s as_ ps
   | _=> .bad
theorem EI:∀(n:Nat) (c:Code) (s:St) (as_:List nh) (ps:List Prop) (e:iB) (s':St) (uF:List nh) (qM:List Prop),run E call n c s as_ ps= .at e s' uF qM→mw qM→mw ps∧Ev E call c s e s'
 | 0,c,s,as_,ps,e,s',uF,qM,hr,hp=>by cases hr
 | n+1,c,s,as_,ps,e,s',uF,qM,hr,hp=>by
   have ih:=EI n
   unfold run at hr
   split at hr
   · cases hr;exact ⟨hp,.of fun _=>rfl⟩
   · cases hr;exact ⟨hp,.of fun _=>rfl⟩
   · cases hr;exact ⟨hp,.of fun _=>rfl⟩
   · split at hr
     · rename_i s1 se qn h1
       obtain ⟨h2,h3⟩:=ih _ _ _ _ _ _ _ _ hr hp
       obtain ⟨h4,h5⟩:=ih _ _ _ _ _ _ _ _ h1 h2
       exact ⟨h4,h5.seq h3⟩
     · rename_i eF
       obtain ⟨h4,h5⟩:=ih _ _ _ _ _ _ _ _ hr hp
       refine ⟨h4,h5.seq' fun he=>?_⟩
       subst he;exact eF _ _ _ hr
   · split at hr
     · rename_i v se
       split at hr
       · rename_i u hu
         cases v with
         | true=>
           obtain ⟨⟨h1,h2⟩,n0,h3⟩:=ih _ _ _ _ _ _ _ _ hr hp
           refine ⟨h2,n0+1,fun n hn=>?_⟩
           obtain ⟨k,rfl⟩:∃k,n=k+1:=⟨n - 1,by omega⟩
           rw[Sc,hu,h1,Ln];exact h3 k (by omega)
         | false=>
           obtain ⟨⟨h1,h2⟩,n0,h3⟩:=ih _ _ _ _ _ _ _ _ hr hp
           refine ⟨h2,n0+1,fun n hn=>?_⟩
           obtain ⟨k,rfl⟩:∃k,n=k+1:=⟨n - 1,by omega⟩
           rw[Sc,hu,h1,Jh];exact h3 k (by omega)
       · cases hr
     · cases hr;exact ⟨hp.2,hp.1⟩
     · cases hr
   · split at hr
     · rename_i id b _ j s1 se qn h1
       cases hj:Nat.beq j id with
       | true=>
         rw[hj] at hr
         cases hr
         obtain ⟨h2,n0,h3⟩:=ih _ _ _ _ _ _ _ _ h1 hp
         refine ⟨h2,n0+1,fun n hn=>?_⟩
         obtain ⟨k,rfl⟩:∃k,n=k+1:=⟨n - 1,by omega⟩
         rw[xn,h3 k (by omega),zS,if_pos (Nat.eq_of_beq_eq_true hj)]
       | false=>
         rw[hj] at hr
         cases hr
         obtain ⟨h2,n0,h3⟩:=ih _ _ _ _ _ _ _ _ h1 hp
         refine ⟨h2,n0+1,fun n hn=>?_⟩
         obtain ⟨k,rfl⟩:∃k,n=k+1:=⟨n - 1,by omega⟩
         rw[xn,h3 k (by omega),zS,if_neg (Nat.ne_of_beq_eq_false hj)]
     · rename_i id b _ eF
       obtain ⟨h2,n0,h3⟩:=ih _ _ _ _ _ _ _ _ hr hp
       refine ⟨h2,n0+1,fun n hn=>?_⟩
       obtain ⟨k,rfl⟩:∃k,n=k+1:=⟨n - 1,by omega⟩
       rw[xn,h3 k (by omega)]
       cases e with
       | exit j=>exact absurd hr (eF _ _ _ _)
       | _=>rfl
   · split at hr
     · cases hr;exact ⟨hp.2,hp.1⟩
     · cases hr
   · split at hr
     · cases hr;exact ⟨hp.2,hp.1⟩
     · cases hr
   · rename_i i ops draw
     split at hr
     · cases hr;exact ⟨hp.2,hp.1⟩
     cases draw with
     | true=>
       simp only[cond_true] at hr
       obtain ⟨h1,h2⟩:=DQ hr hp
       exact ⟨h1,.of fun n=>by rw[Ws];exact h2⟩
     | false=>
       simp only[cond_false] at hr
       obtain ⟨h1,h2⟩:=xr _ _ _ _ _ _ _ _ hr hp
       exact ⟨h1,.of fun n=>by rw[Se];exact h2⟩
   · obtain ⟨h1,n0,h2⟩:=ih _ _ _ _ _ _ _ _ hr hp
     exact ⟨h1,n0+1,fun n hn=>by
      obtain ⟨k,rfl⟩:∃k,n=k+1:=⟨n - 1,by omega⟩
      show exec E call k _ s=_
      exact h2 k (by omega)⟩
   · cases hr;exact ⟨hp,.of fun _=>rfl⟩
   · cases hr
theorem BZ {n:Nat} {c:Code} {s:St} {al:List nh} {e:iB} {s':St} {ps:List Prop} (hr:run E call n c s al []= .at e s' [] ps) (hp:mw ps):Ev E call c s e s':=(EI _ _ _ _ _ _ _ _ _ hr hp).2
theorem xw {tmpl:(Nat→AV)→List AV} {c:Code} {s:St} {e:iB} {h:aA} {ds:List oB} {rc:RC} {L:List AV} (ev:Ev E call c s e ⟨L,h,ds,rc⟩) (hl:L=tmpl fun k=>L.getD k AV.undef):∃y,Ev E call c s e ⟨tmpl y,h,ds,rc⟩:=by
 refine ⟨fun k=>L.getD k AV.undef,?_⟩
 rw[←hl];exact ev
theorem WI {f:FuncId} {fn:Func} {c:Code} (hf:E.P.funcs[f]? =some fn) (hb:fn.body=some c) {args:List AV} {h h':aA} {ts:List AV} {x:iB} (hx:x= .normal∨x= .ret)
 (e:Ev E call c ⟨args++List.replicate (fn.ntmps - args.length) AV.undef,h,[],.no⟩ x ⟨ts,h',[],.no⟩) {vs:List AV} (hr:jL E h' ts fn.results.toList=some vs):∃n0,∀n,n0≤n→xk E call n f args h= .ret (fR vs) h':=by
 obtain ⟨n0,e⟩:=e
 exact ⟨n0,fun n hn=>Pe hf hb hx (e n hn) hr⟩
def uJ (E:Env) (call:bh) (f:FuncId) (args:List AV) (h:aA) (v:AV) (h':aA):Prop:=∃n0,∀n,n0≤n→xk E call n f args h= .ret v h'
theorem ba {f:FuncId} {fn:Func} {c:Code} {args X9 ts:List AV} {h h':aA} {x:iB} {v:AV} (hf:E.P.funcs[f]? =some fn) (hb:fn.body=some c) (ht:args++List.replicate (fn.ntmps - args.length) AV.undef=X9) (hx:x= .normal∨x= .ret)
 (e:Ev E call c ⟨X9,h,[],.no⟩ x ⟨ts,h',[],.no⟩) (hr:(jL E h' ts fn.results.toList).map fR=some v):uJ E call f args h v h':=by
 subst ht
 cases hv:jL E h' ts fn.results.toList with
 | none=>rw[hv] at hr;cases hr
 | some vs=>
   rw[hv] at hr
   obtain rfl:fR vs=v:=Option.some.inj hr
   exact WI hf hb hx e hv
end Go.Ab
end
section
namespace Go.Ab
variable {E:Env}
theorem B0 {t:TypeId} {c d:Bool} {k:IntKind} {a b z:Int} (h:k.wrap (a+b)=z):cy E .add t c d (some (.int k a)) (some (.int k b))=some (.int k z):=by rw[Nq,h]
theorem B1 {t:TypeId} {c d:Bool} {k:IntKind} {a b z:Int} (h:k.wrap (a - b)=z):cy E .sub t c d (some (.int k a)) (some (.int k b))=some (.int k z):=by rw[Wu,h]
theorem Lr {t:TypeId} {c d:Bool} {k:IntKind} {a b z:Int} (h:k.wrap (a*b)=z):cy E .mul t c d (some (.int k a)) (some (.int k b))=some (.int k z):=by rw[Wv,h]
theorem eL (k:IntKind) (n:Int):AV.scalar (.int k n)=true:=rfl
theorem dw (b:Bool):AV.scalar (.bool b)=true:=rfl
theorem eM (b:List UInt8):AV.scalar (.str b)=true:=rfl
theorem eN (i o:Nat):AV.scalar (.ptr i o)=true:=rfl
theorem cH (i o n c:Nat) (b:Bool):AV.scalar (.slice i o n c b)=true:=rfl
theorem gZ:AV.scalar .aP=true:=rfl
theorem g_:AV.scalar .gz=true:=rfl
theorem hB:AV.scalar .dU=true:=rfl
theorem hD:AV.scalar .nilFunc=true:=rfl
theorem hI:AV.scalar .nilIface=true:=rfl
theorem eO (i:Nat):AV.scalar (.map i)=true:=rfl
theorem kN {h:aA} {t:TypeId} {i o:Nat} {cs:List AV} {e:TypeId} {ro:Bool} {v:AV} (hg:h.get i=some (.cells cs e ro)) (hv:iE E t cs o=some v):bk E h t (.ptr i o)=some v:=by
 simp only[bk,hg,hv]
theorem km {h h':aA} {o:aX} (n:h.new o=some h'):h'.get h.nx=some o:=(aA.lO n).2.2.1
theorem mI {h h':aA} {o:aX} (n:h.new o=some h'):h'.nx=h.nx+1:=(aA.lO n).2.1
theorem hJ {h h':aA} {o x:aX} {i:Nat} (y:Tidy h) (n:h.new o=some h') (g:h.get i=some x):h'.get i=some x:=by
 have:=y i x g
 rw[(aA.lO n).2.2.2 i (by omega)];exact g
theorem xy {h h':aA} {o:aX} (y:Tidy h) (n:h.new o=some h'):Has h h':=fun _ _ g=>hJ y n g
theorem hQ {h h':aA} {o:aX} (y:Tidy h) (n:h.new o=some h'):Tidy h':=fun i x g=>by
 obtain ⟨_,h2,h3,h4⟩:=aA.lO n
 by_cases hx:i=h.nx
 · omega
 · rw[h4 i hx] at g;have:=y i x g;omega
theorem nL {h:aA} (o:aX):∃h',h.new o=some h':=⟨_,aA.FJ _ _⟩
theorem B2 {h:aA} {t e:TypeId} {i o n:Nat} {cs:List AV} {v:AV} (g:h.get i=some (.cells cs e false)) (hs:ch E t=some n) (hv:v.cells.length=n) (ho:o+n≤cs.length) (hk:v.cells.all AV.scalar=true):∃h',fE E h t (.ptr i o) v=some h':=by
 refine ⟨h.put i (some (.cells (setFrom cs o v.cells) e false)),?_⟩
 simp only[fE,g,hs]
 rw[if_pos ⟨hv,ho,hk⟩]
theorem xz {h h':aA} {t e:TypeId} {i o:Nat} {cs:List AV} {v:AV} (s:fE E h t (.ptr i o) v=some h') (g:h.get i=some (.cells cs e false)):h'=h.put i (some (.cells (setFrom cs o v.cells) e false)):=by
 simp only[fE,g] at s
 split at s
 · rename_i h1 _
   cases h1
   split at s
   · exact (Option.some.inj s).symm
   · cases s
 · cases s
theorem zf {h h':aA} {t e:TypeId} {i o:Nat} {cs:List AV} {v:AV} (y:Tidy h) (s:fE E h t (.ptr i o) v=some h') (g:h.get i=some (.cells cs e false)):h'.get i=some (.cells (setFrom cs o v.cells) e false):=by
 rw[xz s g]
 have:=y i _ g
 exact aA.ck _
theorem vK {h h':aA} {t e:TypeId} {i j o:Nat} {cs:List AV} {v:AV} {x:aX} (y:Tidy h) (s:fE E h t (.ptr i o) v=some h') (g:h.get i=some (.cells cs e false)) (hj:j≠i) (gx:h.get j=some x):h'.get j=some x:=by
 rw[xz s g]
 have:=y i _ g
 rw[aA.bB (Ne.symm hj)];exact gx
theorem xA {h h':aA} {t e:TypeId} {i o:Nat} {cs:List AV} {v:AV} (s:fE E h t (.ptr i o) v=some h') (g:h.get i=some (.cells cs e false)):h'.nx=h.nx:=by
 rw[xz s g];exact aA.Y1 _ _ _
theorem vL {h h':aA} {t e:TypeId} {i o:Nat} {cs:List AV} {v:AV} (y:Tidy h) (s:fE E h t (.ptr i o) v=some h') (g:h.get i=some (.cells cs e false)):Tidy h':=fun j x gj=>by
 have hi:=y i _ g
 rw[xA s g]
 by_cases hx:j=i
 · omega
 · rw[xz s g,aA.bB (Ne.symm hx)] at gj
   exact y j x gj
def Chg (h h':aA) (b:Nat) (o:aX):Prop:=Tidy h'∧h'.get b=some o∧∀i x,i≠b→h.get i=some x→h'.get i=some x
end Go.Ab
end
section
namespace Go.Ab
variable {E:Env}
theorem dT {p:Prop} [Decidable p] (h:p):decide p=true:=decide_eq_true h
theorem dF {p:Prop} [Decidable p] (h:¬p):decide p=false:=decide_eq_false h
theorem nT {p:Prop} [Decidable p] (h:¬p):(!decide p)=true:=by rw[decide_eq_false h];rfl
theorem nF {p:Prop} [Decidable p] (h:p):(!decide p)=false:=by rw[decide_eq_true h];rfl
def cc:Code→List Code
 | .seq a b=>cc a++cc b
 | .cond _ a b=>cc a++cc b
 | .block _ b=>cc b
 | .loop b=>b::cc b
 | .scope b=>cc b
 | .rangeFunc _ _ _ b=>b::cc b
 | _=> []
structure oa (E:Env) (h:aA) (e:TypeId) (n:Nat) (av:AV) (len:Nat) (cs:List AV):Prop where
 size:ch E e=some n
 cells:cs.length=len*n
 small:len<2^60
 lens:dy (some (.slice e)) (some av)=some (.int .i64 (len:Nat))
 block:len=0∨∃p o m c b C f ro,av= .slice p o m c b∧m≤c∧h.get p=some (.cells C f ro)∧(∀j,j<cs.length→C[o+j]? =cs[j]?)
theorem oa.has {h h':aA} {e:TypeId} {n:Nat} {av:AV} {len:Nat} {cs:List AV} (x:oa E h e n av len cs) (hh:Has h h'):oa E h' e n av len cs:=
 ⟨x.size,x.cells,x.small,x.lens,x.block.imp id fun ⟨p,o,m,c,b,C,f,ro,h1,h0,h2,h3⟩=>⟨p,o,m,c,b,C,f,ro,h1,h0,hh _ _ h2,h3⟩⟩
theorem oa.elem {h:aA} {e:TypeId} {av:AV} {len:Nat} {cs:List AV} (x:oa E h e 1 av len cs) (ha:fD E e=some false) {i:Nat} {v:AV} (hv:cs[i]? =some v):
 ∃p q,cK E (some (.slice e)) (some av) (some (.int .i64 (i:Nat)))=some (.ptr p q)∧bk E h e (.ptr p q)=some v:=by
 have hi:=(List.getElem?_eq_some_iff.1 hv).1
 have hl:cs.length=len:=by rw[x.cells,Nat.mul_one]
 rcases x.block with h0 | ⟨p,o,m,c,b,C,f,ro,h1,_,h2,h3⟩
 · omega
 · subst h1
   have hm:m=len:=by
    have:=x.lens
    rw[jT] at this
    simp only[Option.some.injEq,AV.int.injEq,true_and] at this
    omega
   refine ⟨p,o+i*1,cA x.size (by omega),?_⟩
   simp only[bk,h2,iE,ha,Nat.mul_one]
   rw[h3 i hi,hv]
def vM (k:IntKind) (l:List Nat):List AV:=l.map fun (n:Nat)=> .int k (n:Int)
structure fk (E:Env) (h:aA) (k:IntKind) (e:TypeId) (av:AV) (l:List Nat):Prop where
 at_:oa E h e 1 av l.length (vM k l)
 agg:fD E e=some false
 known:av= .aP∨∃p o n c b,av= .slice p o n c b∧(b=true→0<c)
theorem s6 {k:IntKind} {l:List Nat} {i:Nat} {z:Nat} (h:l[i]? =some z):(vM k l)[i]? =some (.int k (z:Int)):=by simp [vM,h]
theorem fk.elem {h:aA} {k:IntKind} {e:TypeId} {av:AV} {l:List Nat} (x:fk E h k e av l) {i:Nat} {z:Nat} (hz:l[i]? =some z):
 ∃p q,cK E (some (.slice e)) (some av) (some (.int .i64 (i:Nat)))=some (.ptr p q)∧bk E h e (.ptr p q)=some (.int k (z:Int)):=x.at_.elem x.agg (s6 hz)
theorem fk.len {h:aA} {k:IntKind} {e:TypeId} {av:AV} {l:List Nat} (x:fk E h k e av l):dy (some (.slice e)) (some av)=some (.int .i64 (l.length:Nat)):=x.at_.lens
theorem oU (k:IntKind) (l:List Nat):(vM k l).length=l.length:=by simp [vM]
theorem fk.small {h:aA} {k:IntKind} {e:TypeId} {av:AV} {l:List Nat} (x:fk E h k e av l):l.length<2^60:=x.at_.small
def Off (p:Nat) (av:AV):Prop:=∀o n c b,av≠ .slice p o n c b
theorem fk.of {h:aA} {k:IntKind} {e:TypeId} {l:List Nat} {p o c:Nat} {b:Bool} {C:List AV} {f:TypeId} {ro:Bool} (hs:ch E e=some 1) (ha:fD E e=some false) (hl:l.length<2^60) (hc:l.length≤c) (hb:b=true→0<c) (hg:h.get p=some (.cells C f ro))
 (hv:∀(i:Nat) z,l[i]? =some z→C[o+i]? =some (.int k (z:Int))):fk E h k e (.slice p o l.length c b) l:=
 ⟨⟨hs,by rw[oU];omega,hl,rfl,.inr ⟨p,o,_,c,b,C,f,ro,rfl,hc,hg,fun j hj=>by
   rw[oU] at hj
   rw[hv j l[j] (List.getElem?_eq_getElem hj),s6 (List.getElem?_eq_getElem hj)]⟩⟩,ha,.inr ⟨p,o,_,c,b,rfl,hb⟩⟩
theorem fk.nil {h:aA} {k:IntKind} {e:TypeId} (hs:ch E e=some 1) (ha:fD E e=some false):fk E h k e .aP []:=
 ⟨⟨hs,rfl,by decide,rfl,.inl rfl⟩,ha,.inl rfl⟩
theorem fk.inv {h:aA} {k:IntKind} {e:TypeId} {l:List Nat} {p o n c:Nat} {b:Bool} (x:fk E h k e (.slice p o n c b) l):n=l.length∧(l≠ []→l.length≤c∧∃C f ro,h.get p=some (.cells C f ro)∧∀(i:Nat) z,l[i]? =some z→C[o+i]? =some (.int k (z:Int))):=by
 have hn:n=l.length:=by
  have:=x.len
  rw[jT] at this
  simp only[Option.some.injEq,AV.int.injEq,true_and] at this
  omega
 refine ⟨hn,fun eF=>?_⟩
 rcases x.at_.block with h0 | ⟨p',o',m,c',b',C,f,ro,h1,h0,h2,h3⟩
 · exact absurd (List.length_eq_zero_iff.1 h0) eF
 · cases h1
   refine ⟨by omega,C,f,ro,h2,fun i z hz=>?_⟩
   rw[h3 i (by rw[oU];exact (List.getElem?_eq_some_iff.1 hz).1),s6 hz]
theorem qo {len cap lo hi:Nat} (low high:Option AV) (hl:low=some (.int .i64 (lo:Nat))∨(low=none∧lo=0)) (hh:high=some (.int .i64 (hi:Nat))∨(high=none∧hi=len)) (h1:lo≤hi) (h2:hi≤cap):kT len cap low high none=some (lo,hi,cap):=by
 have b:∀(x y:Nat),x≤y→ox (.int .i64 (x:Nat)) y=some x:=fun x y h=>by
  simp only[ox]
  rw[if_pos ⟨by omega,by omega⟩,Int.toNat_natCast]
 unfold kT
 rcases hh with rfl | ⟨rfl,rfl⟩<;>rcases hl with rfl | ⟨rfl,rfl⟩<;>simp [b,h1,h2]
theorem fk.slice {h:aA} {k:IntKind} {e t:TypeId} {av:AV} {l:List Nat} (x:fk E h k e av l) (ht:E.P.underlying t=some (.slice e)) {lo hi:Nat} (low high:Option AV) (hl:low=some (.int .i64 (lo:Nat))∨(low=none∧lo=0)) (hh:high=some (.int .i64 (hi:Nat))∨(high=none∧hi=l.length)) (h1:lo≤hi) (h2:hi≤l.length) (h3:l.length=0∨lo<l.length):
 ∃r,fK E t av low high none=some r∧fk E h k e r ((l.take hi).drop lo)∧∀p,Off p av→Off p r:=by
 rcases x.known with rfl | ⟨p,o,n,c,b,rfl,hb⟩
 · have Y4:l.length=0:=by
    have:=x.len
    rw[xp] at this
    simp only[Option.some.injEq,AV.int.injEq,true_and] at this
    omega
   obtain rfl:=List.length_eq_zero_iff.1 Y4
   simp only[List.length_nil] at *
   have U0:hi=0:=by omega
   subst U0
   have UZ:lo=0:=by omega
   subst UZ
   refine ⟨.aP,?_,by simpa using x,fun p hp=>hp⟩
   simp only[fK,ht,x.at_.size,qo (len:=0) (cap:=0) low high hl hh (Nat.le_refl 0) (Nat.le_refl 0)]
 · obtain ⟨rfl,hx⟩:=x.inv
   have hlc:l.length≤c:=by
    by_cases eF:l=[]
    · subst eF;exact Nat.zero_le _
    · exact (hx eF).1
   have hr:∃o' c',fK E t (.slice p o l.length c b) low high none=some (.slice p o' (hi - lo) c' b)∧(b=true→0<c')∧hi - lo≤c'∧(hi - lo≠0→o'=o+lo):=by
    simp only[fK,ht,x.at_.size,hlc,if_true,qo (len:=l.length) (cap:=c) low high hl hh h1 (by omega)]
    by_cases hm:c=lo
    · have Qd:b=false:=by
       cases b with
       | false=>rfl
       | true=>have:=hb rfl;omega
      subst Qd
      rw[if_pos hm]
      exact ⟨o,c - lo,rfl,by simp,by omega,fun h=>by omega⟩
    · rw[if_neg hm]
      refine ⟨o+lo*1,c - lo,by simp,fun h=>by omega,by omega,fun h=>by omega⟩
   obtain ⟨o',c',e1,e2,e3,e4⟩:=hr
   refine ⟨_,e1,?_,fun q hq o' n' c' b' he=>by cases he;exact hq _ _ _ _ rfl⟩
   have hlen:((l.take hi).drop lo).length=hi - lo:=by simp;omega
   rw[←hlen]
   by_cases h0:hi - lo=0
   · have:(l.take hi).drop lo=[]:=List.length_eq_zero_iff.1 (by omega)
     rw[this]
     exact ⟨⟨x.at_.size,rfl,by decide,rfl,.inl rfl⟩,x.agg,.inr ⟨_,_,_,_,_,rfl,e2⟩⟩
   · have eF:l≠ []:=fun e=>by subst e;simp at h2;omega
     obtain ⟨_,C,f,ro,g1,g2⟩:=hx eF
     refine fk.of x.at_.size x.agg (by have:=x.small;omega) (by omega) e2 g1 fun i z hz=>?_
     have FN:i<hi - lo:=by rw[←hlen];exact (List.getElem?_eq_some_iff.1 hz).1
     rw[e4 h0,Nat.add_assoc]
     apply g2
     rw[List.getElem?_drop,List.getElem?_take_of_lt (by omega)] at hz
     exact hz
structure U7 (h:aA) (av:AV) (p o n:Nat) (C:List AV) (f:TypeId):Prop where
 is:∃c b,av= .slice p o n c b∧n≤c
 get:h.get p=some (.cells C f false)
 fits:o+n≤C.length
theorem U7.len {h:aA} {av:AV} {p o n:Nat} {C:List AV} {f e:TypeId} (w:U7 h av p o n C f):dy (some (.slice e)) (some av)=some (.int .i64 (n:Nat)):=by
 obtain ⟨c,b,rfl,_⟩:=w.is
 rfl
theorem U7.slice {h:aA} {av:AV} {p o n:Nat} {C:List AV} {f e t:TypeId} (w:U7 h av p o n C f) (hs:ch E e=some 1) (ht:E.P.underlying t=some (.slice e)) {lo hi:Nat} (low high:Option AV) (hl:low=some (.int .i64 (lo:Nat))∨(low=none∧lo=0)) (hh:high=some (.int .i64 (hi:Nat))∨(high=none∧hi=n)) (h1:lo≤hi) (h2:hi≤n) (h3:lo<n):
 ∃r,fK E t av low high none=some r∧U7 h r p (o+lo) (hi - lo) C f:=by
 obtain ⟨c,b,rfl,hc⟩:=w.is
 have:=w.fits
 refine ⟨.slice p (o+lo) (hi - lo) (c - lo) b,?_,⟨⟨_,_,rfl,by omega⟩,w.get,by omega⟩⟩
 simp only[fK,ht,hs,hc,if_true,qo (len:=n) (cap:=c) low high hl hh h1 (by omega)]
 rw[if_neg (by omega)]
 simp
def Holds (k:IntKind) (C:List AV) (o:Nat) (l:List Nat):Prop:=∀(i z:Nat),l[i]? =some z→C[o+i]? =some (.int k (z:Int))
theorem U7.load {h:aA} {av:AV} {p o n:Nat} {C:List AV} {f e:TypeId} {i:Nat} {v:AV} (w:U7 h av p o n C f) (ha:fD E e=some false) (hv:C[o+i]? =some v):bk E h e (.ptr p (o+i))=some v:=by
 simp only[bk,w.get,iE,ha,hv]
theorem U7.vM {h:aA} {av:AV} {p o n:Nat} {C:List AV} {f e:TypeId} {k:IntKind} {l:List Nat} (w:U7 h av p o n C f) (hs:ch E e=some 1) (ha:fD E e=some false) (hn:l.length=n) (Vs:n<2^60) (x:Holds k C o l) (hb:∀c b,av= .slice p o n c b→b=true→0<c):fk E h k e av l:=by
 obtain ⟨c,b,rfl,hc⟩:=w.is
 subst hn
 exact fk.of hs ha Vs hc (hb c b rfl) w.get x
theorem Holds.of {k:IntKind} {C:List AV} {o:Nat} {l:List Nat} (hf:o+l.length≤C.length):Holds k (setFrom C o (vM k l)) o l:=fun i z hz=>by
 have hi:=(List.getElem?_eq_some_iff.1 hz).1
 rw[fX,if_pos ⟨by omega,by rw[oU];omega,by omega⟩,Nat.add_sub_cancel_left,s6 hz]
end Go.Ab
end
section
namespace Go.Ab
open Go.WideElems Go.RowKit Go.Proofs
variable {E:Env}
theorem CR.plain {φ φ':Ph} {cs:List AV} {t:TypeId} {ro:Bool} {l:Loc} {C:Array Value} {lo hi:Nat} (h:CR E φ' cs t ro l C lo hi) (hp:cs.all (AV.plain 20)=true):CR E φ cs t ro l C lo hi where
 size:=h.size
 val k x hk:=by
  obtain ⟨y,hy,hv⟩:=h.val k x hk
  exact ⟨y,hy,hv.plain 20 (List.all_eq_true.1 hp x (List.mem_of_getElem? hk))⟩
 free:=h.free
 zero:=h.zero
end Go.Ab
end
section
namespace Go.Ab
variable {E:Env} {M0:Fa.GD}
theorem uJ.unique {call:bh} {f:FuncId} {args:List AV} {h h1 h2:aA} {v1 v2:AV} (a:uJ E call f args h v1 h1) (b:uJ E call f args h v2 h2):v1=v2∧h1=h2:=by
 obtain ⟨n,a⟩:=a
 obtain ⟨m,b⟩:=b
 have:=(a (n+m) (by omega)).symm.trans (b (n+m) (by omega))
 simpa using this
def AV.within (nx:Nat):Nat→AV→Bool
 | 0,_=>false
 | n+1,x=>match x with
   | .bool _ | .int .. | .str _ | .gz | .aP | .dU | .nilFunc | .nilIface | .ff=>true
   | .ptr i _=>decide (i<nx)
   | .slice i _ _ _ _=>decide (i<nx)
   | .map i=>decide (i<nx)
   | .iface _ v=>AV.within nx n v
   | .agg cs=>cs.all (AV.within nx n)
   | .tuple cs=>cs.all (AV.within nx n)
   | _=>false
theorem VR.within {φ φ':Ph} {nx:Nat} (ho:∀i,i<nx→φ' i=φ i):∀(n:Nat) {x:AV} (_:AV.within nx n x=true) {y:Value},VR φ' x y→VR φ x y
 | 0,_,h,_,_=>by cases h
 | n+1,x,h,y,hv=>by
   have ih:= @VR.within φ φ' nx ho n
   cases hv with
   | bool b=>exact .bool b
   | int k m=>exact .int k m
   | str s=>exact .str s
   | gz=>exact .gz
   | aP=>exact .aP
   | dU=>exact .dU
   | nilFunc=>exact .nilFunc
   | nilIface=>exact .nilIface
   | ff a c=>exact .ff a c
   | ptr o hl=>rw[ho _ (of_decide_eq_true h)] at hl;exact .ptr o hl
   | slice o len cap op hl=>rw[ho _ (of_decide_eq_true h)] at hl;exact .slice o len cap op hl
   | map hl=>rw[ho _ (of_decide_eq_true h)] at hl;exact .map hl
   | iface t v v' h'=>exact .iface t v v' (ih (by simpa [AV.within] using h) h')
   | agg cs iW hl hc=>
     refine .agg cs iW hl fun i x y a b=>ih ?_ (hc i x y a b)
     simp only[AV.within,List.all_eq_true] at h
     exact h x (List.mem_of_getElem? a)
   | tuple cs iW hl hc=>
     refine .tuple cs iW hl fun i x y a b=>ih ?_ (hc i x y a b)
     simp only[AV.within,List.all_eq_true] at h
     exact h x (List.mem_of_getElem? a)
   | _=>cases h
theorem lB.Nv {f:FuncId} {args:List AV} {h h':aA} {v:AV} (r:lB E f args h v h') (hs:Has h h') (hv:AV.within h.nx 20 v=true):lB E f args h v h:=fun φ w vs ok hl=>by
 obtain ⟨h1,h2⟩:=r φ w vs ok hl
 refine ⟨h1,fun cs=>?_⟩
 obtain ⟨φ',w',v',fr,x1,x2,x3,x4⟩:=h2 cs
 exact ⟨φ,w',v',fr,x1.within x3.old 20 hv,ok.forget x3.ext x2 hs,x3.forget,x4⟩
def EJ (E:Env) (call:bh) (l:Nat) (args:List AV) (h:aA) (v:AV) (h':aA):Prop:=∃n0,∀n,n0≤n→qT E call n l args h= .ret v h'
theorem EJ.unique {call:bh} {l:Nat} {args:List AV} {h h1 h2:aA} {v1 v2:AV} (a:EJ E call l args h v1 h1) (b:EJ E call l args h v2 h2):v1=v2∧h1=h2:=by
 obtain ⟨n,a⟩:=a
 obtain ⟨m,b⟩:=b
 have:=(a (n+m) (by omega)).symm.trans (b (n+m) (by omega))
 simpa using this
open Classical in
noncomputable def fF (E:Env) (M0:Fa.GD):Nat→bh
 | 0=>BU M0
 | d+1=>fun F args h=>match F with
   | .ua l=>if hy:∃p:AV×aA,EJ E (fF E M0 d) l args h p.1 p.2 then .ret hy.choose.1 hy.choose.2 else .fail "" none
   | .fn f=>match M0 f args h with
     | some p=> .ret p.1 p.2
     | none=>
       if hx:∃v,∃h',uJ E (fF E M0 d) f args h v h'∧Has h h'∧AV.within h.nx 20 v=true then .ret hx.choose h
       else if hy:∃p:AV×aA,uJ E (fF E M0 d) f args h p.1 p.2 then .ret hy.choose.1 hy.choose.2 else .fail "" none
theorem B3 (hE:kM E) (hM:Fa.GF E M0):∀d,iK E (fF E M0 d)
 | 0=>Pf hM
 | d+1=>by
   have ih:=B3 hE hM d
   have key:∀{f:FuncId} {args:List AV} {h:aA} {o:jB},fF E M0 (d+1) (.fn f) args h=o→(∃v h',o= .ret v h'∧lB E f args h v h')∨o= .fail "" none:=by
    intro f args h o e
    simp only[fF] at e
    split at e
    · rename_i p hp
      exact .inl ⟨_,_,e.symm,hM _ _ _ _ _ hp⟩
    · split at e
      · rename_i hx
        obtain ⟨h',⟨n,h1⟩,h2,h3⟩:=hx.choose_spec
        exact .inl ⟨_,_,e.symm,lB.Nv ((pC hE n ih).1 _ _ _ _ _ (h1 n (Nat.le_refl n))) h2 h3⟩
      · split at e
        · rename_i hy
          obtain ⟨n,h1⟩:=hy.choose_spec
          exact .inl ⟨_,_,e.symm,(pC hE n ih).1 _ _ _ _ _ (h1 n (Nat.le_refl n))⟩
        · exact .inr e.symm
   refine ⟨fun F args h v h' e=>?_,fun F args h v h' e=>?_⟩
   · cases F with
     | ua l=>
       simp only[fF] at e
       split at e
       · rename_i hy
         cases e
         obtain ⟨n,h1⟩:=hy.choose_spec
         intro φ w vs ok hf hl
         obtain ⟨ll,hφ⟩:=hf
         obtain ⟨f,tmps,assign,body,hy2,f'⟩:=vG hE ih (h1 n (Nat.le_refl n)) (by simp) ok hφ hl
         exact ⟨_,_,.ua l ll hφ vs f tmps assign body hy2,fun c cs=>(f' c cs).1 _ _ rfl⟩
       · cases e
     | fn f=>
       rcases key e with ⟨w,k,h1,h2⟩ | h1
       · cases h1;exact h2.any
       · cases h1
   · cases F with
     | ua l=>
       simp only[fF] at e
       split at e<;>cases e
     | fn f=>
       rcases key e with ⟨w,k,h1,h2⟩ | h1
       · cases h1
       · cases h1
theorem aE {d:Nat} {f:FuncId} {args:List AV} {h h':aA} {v:AV} (hm:M0 f args h=none) (hd:uJ E (fF E M0 d) f args h v h') (hh:Has h h') (hv:AV.within h.nx 20 v=true):fF E M0 (d+1) (.fn f) args h= .ret v h:=by
 simp only[fF,hm]
 have hx:∃v,∃h',uJ E (fF E M0 d) f args h v h'∧Has h h'∧AV.within h.nx 20 v=true:=⟨v,h',hd,hh,hv⟩
 rw[dif_pos hx]
 obtain ⟨k,h1,_,_⟩:=hx.choose_spec
 rw[(h1.unique hd).1]
theorem qp {d:Nat} {f:FuncId} {args:List AV} {h h':aA} {v:AV} (hm:M0 f args h=none) (hd:uJ E (fF E M0 d) f args h v h') (hv:¬(Has h h'∧AV.within h.nx 20 v=true)):fF E M0 (d+1) (.fn f) args h= .ret v h':=by
 simp only[fF,hm]
 have hx:¬∃v,∃h',uJ E (fF E M0 d) f args h v h'∧Has h h'∧AV.within h.nx 20 v=true:=by
  rintro ⟨w,k,h1,h2,h3⟩
  obtain ⟨rfl,rfl⟩:=h1.unique hd
  exact hv ⟨h2,h3⟩
 have hy:∃p:AV×aA,uJ E (fF E M0 d) f args h p.1 p.2:=⟨(v,h'),hd⟩
 rw[dif_neg hx,dif_pos hy]
 obtain ⟨h1,h2⟩:=hy.choose_spec.unique hd
 rw[h1,h2]
theorem Pl {d l:Nat} {args:List AV} {h h':aA} {v:AV} (hd:EJ E (fF E M0 d) l args h v h'):fF E M0 (d+1) (.ua l) args h= .ret v h':=by
 simp only[fF]
 have hy:∃p:AV×aA,EJ E (fF E M0 d) l args h p.1 p.2:=⟨(v,h'),hd⟩
 rw[dif_pos hy]
 obtain ⟨h1,h2⟩:=hy.choose_spec.unique hd
 rw[h1,h2]
theorem Jo (hE:kM E) (hM:Fa.GF E M0) {d:Nat} {f:FuncId} {args:List AV} {h h':aA} {v:AV} (e:fF E M0 d (.fn f) args h= .ret v h'):lB E f args h v h':=by
 cases d with
 | zero=>
   simp only[fF,BU] at e
   split at e
   · rename_i p hp
     cases e
     exact hM _ _ _ _ _ hp
   · cases e
 | succ d=>
   simp only[fF] at e
   split at e
   · rename_i p hp
     cases e
     exact hM _ _ _ _ _ hp
   · split at e
     · rename_i hx
       cases e
       obtain ⟨h',⟨n,h1⟩,h2,h3⟩:=hx.choose_spec
       exact lB.Nv ((pC hE n (B3 hE hM d)).1 _ _ _ _ _ (h1 n (Nat.le_refl n))) h2 h3
     · split at e
       · rename_i hy
         cases e
         obtain ⟨n,h1⟩:=hy.choose_spec
         exact (pC hE n (B3 hE hM d)).1 _ _ _ _ _ (h1 n (Nat.le_refl n))
       · cases e
end Go.Ab
end
section
namespace Go.Ab
variable {E:Env}
theorem wrap_u64 (n:Nat):IntKind.u64.wrap (n:Int)=((n%18446744073709551616:Nat):Int):=by
 show (if (false&&decide ((n:Int)%2^64≥2^63))=true then (n:Int)%2^64 - 2^64 else (n:Int)%2^64)=_
 rw[if_neg (by simp)]
 omega
theorem GM (a b:Nat):IntKind.u64.wrap ((a:Int)+b)=(((a+b)%18446744073709551616:Nat):Int):=by rw[←wrap_u64];congr 1
theorem zW {t:TypeId} {c d:Bool} {a b:Nat} (h:a+b<18446744073709551616):cy E .add t c d (some (.int .u64 (a:Int))) (some (.int .u64 (b:Int)))=some (.int .u64 ((a+b:Nat):Int)):=by
 rw[Nq,GM,Nat.mod_eq_of_lt h]
end Go.Ab
end
section
namespace Go.Ab
variable {E:Env} {M0:Fa.GD}
structure Grow (h h':aA):Prop where
 y:Tidy h'
 a:Has h h'
 n:h.nx≤h'.nx
theorem Grow.refl {h:aA} (y:Tidy h):Grow h h:=⟨y,Has.refl h,Nat.le_refl _⟩
theorem Grow.trans {a b c:aA} (x:Grow a b) (y:Grow b c):Grow a c:=⟨y.y,x.a.trans y.a,Nat.le_trans x.n y.n⟩
theorem jj {d:Nat} {f:FuncId} {args:List AV} {h h':aA} {v:AV} {P:aA→Prop} (hm:M0 f args h=none) (hd:uJ E (fF E M0 d) f args h v h') (y:Tidy h) (g:Grow h h') (p1:P h') (p2:AV.within h.nx 20 v=true→P h):
 ∃hk,fF E M0 (d+1) (.fn f) args h= .ret v hk∧Grow h hk∧P hk:=by
 by_cases hv:AV.within h.nx 20 v=true
 · exact ⟨h,aE hm hd g.a hv,Grow.refl y,p2 hv⟩
 · exact ⟨h',qp hm hd fun c=>hv c.2,g,p1⟩
theorem ib {d:Nat} {f:FuncId} {args:List AV} {h h':aA} {v:AV} (hm:M0 f args h=none) (hd:uJ E (fF E M0 d) f args h v h'):
 ∃hk,fF E M0 (d+1) (.fn f) args h= .ret v hk∧(hk=h'∨(hk=h∧Has h h')):=by
 by_cases hv:Has h h'∧AV.within h.nx 20 v=true
 · exact ⟨h,aE hm hd hv.1 hv.2,.inr ⟨rfl,hv.1⟩⟩
 · exact ⟨h',qp hm hd hv,.inl rfl⟩
theorem od {h:aA} {p:Nat} {x o:aX} (y:Tidy h) (g:h.get p=some x):Chg h (h.put p (some o)) p o:=
 ⟨fun i z hz=>by
  by_cases e:i=p
  · subst e;exact y _ _ g
  · rw[aA.bB (Ne.symm e)] at hz;exact y _ _ hz,
  aA.ck _,fun i z hi hz=>by rw[aA.bB (Ne.symm hi)];exact hz⟩
def Kept (p:Nat) (h h':aA):Prop:=∀i x,i≠p→h.get i=some x→h'.get i=some x
theorem Has.kept {p:Nat} {h h':aA} (a:Has h h'):Kept p h h':=fun i x _ g=>a i x g
theorem Kept.store {h h':aA} {t e:TypeId} {i o:Nat} {cs:List AV} {v:AV} (y:Tidy h) (s:fE E h t (.ptr i o) v=some h') (g:h.get i=some (.cells cs e false)):Kept i h h':=fun _ _ hj gj=>vK y s g hj gj
theorem fk.kept {h h':aA} {k:IntKind} {e:TypeId} {av:AV} {l:List Nat} {p:Nat} (x:fk E h k e av l) (c:Kept p h h') (ho:Off p av):fk E h' k e av l:=by
 refine ⟨⟨x.at_.size,x.at_.cells,x.at_.small,x.at_.lens,x.at_.block.imp id fun ⟨p',o',m,c',b,C,f,ro,h1,h0,h2,h3⟩=>⟨p',o',m,c',b,C,f,ro,h1,h0,c p' _ (fun e=>?_) h2,h3⟩⟩,x.agg,x.known⟩
 subst e
 exact ho _ _ _ _ h1
theorem zX (k:IntKind) (l:List Nat):(vM k l).all AV.scalar=true:=by
 simp [vM,AV.scalar]
theorem fk.nE {h:aA} {k:IntKind} {e:TypeId} {av:AV} {l:List Nat} (x:fk E h k e av l):nE av=some l.length:=by
 rcases x.known with rfl | ⟨p,o,n,c,b,rfl,_⟩
 · have:=x.len
   rw[xp] at this
   simp only[Option.some.injEq,AV.int.injEq,true_and] at this
   rw[show l.length=0 by omega];rfl
 · rw[x.inv.1];rfl
theorem fk.first {h:aA} {k:IntKind} {e:TypeId} {av:AV} {l:List Nat} (x:fk E h k e av l):fj h 1 l.length av=some (vM k l):=by
 by_cases hl:l=[]
 · subst hl
   rcases x.known with rfl | ⟨p,o,n,c,b,rfl,_⟩<;>simp [fj,vM]
 rcases x.known with rfl | ⟨p,o,n,c,b,rfl,_⟩
 · have:=x.len
   rw[xp] at this
   simp only[Option.some.injEq,AV.int.injEq,true_and] at this
   exact absurd (List.length_eq_zero_iff.1 (show l.length=0 by omega)) hl
 · obtain ⟨rfl,h2⟩:=x.inv
   obtain ⟨_,C,f,ro,g,hv⟩:=h2 hl
   have hC:o+l.length≤C.length:=by
    have hp:0<l.length:=List.length_pos_iff.2 hl
    have:=hv (l.length - 1) _ (List.getElem?_eq_getElem (show l.length - 1<l.length by omega))
    have:=(List.getElem?_eq_some_iff.1 this).1
    omega
   have h0:¬l.length=0:=fun e=>hl (List.length_eq_zero_iff.1 e)
   simp only[fj,Nat.le_refl,if_true,h0,if_false,g,Nat.mul_one,hC]
   refine congrArg some (List.ext_getElem? fun i=>?_)
   by_cases hi:i<l.length
   · rw[List.getElem?_take_of_lt hi,List.getElem?_drop,hv i _ (List.getElem?_eq_getElem hi),s6 (List.getElem?_eq_getElem hi)]
   · rw[List.getElem?_eq_none (by simp;omega),List.getElem?_eq_none (by rw[oU];omega)]
theorem Nl {h:aA} {k:IntKind} {e t:TypeId} {tys:Array TypeId} {d s:AV} {l:List Nat} {p o n:Nat} {C:List AV} {f:TypeId} (h0:tys[0]? =some t) (ht:E.P.underlying t=some (.slice e)) (hs:ch E e=some 1) (w:U7 h d p o n C f) (x:fk E h k e s l) (hn:l.length≤n):
 u_ E h tys d s=some (.int .i64 (l.length:Nat),h.put p (some (.cells (setFrom C o (vM k l)) f false))):=by
 obtain ⟨c,b,rfl,hc⟩:=w.is
 have hf:=w.fits
 have Bm:fj h 1 (min l.length n) s=some (vM k l):=by
  rw[Nat.min_eq_left hn];exact x.first
 simp only[u_,h0,ht,x.nE,hs,Bm,w.get]
 rw[if_pos ⟨by rw[oU];omega,zX k l⟩,Nat.min_eq_left hn]
theorem append_nil {h:aA} {k:IntKind} {e s xt:TypeId} {tys:Array TypeId} {bytes:Nat} {z x:AV} {m:List Nat} (h0:tys[0]? =some s) (h1:tys[1]? =some xt) (hs:E.P.underlying s=some (.slice e)) (hx:E.P.underlying xt=some (.slice e)) (H4:ch E e=some 1) (hb:fQ E e=some bytes) (ss:fC E e=some z) (hz:z.cells.length=1) (h8:bytes≤15) (x1:fk E h k e x m) (hm:m≠ []) (hl:m.length≤1073741824):
 ∃h',bX E h tys .aP x=some (.slice h.nx 0 m.length m.length true,h')∧h.new (.cells (vM k m) e false)=some h':=by
 obtain ⟨h',n⟩:=nL (h:=h) (.cells (vM k m) e false)
 refine ⟨h',?_,n⟩
 have hn:¬m.length=0:=fun e=>hm (List.length_eq_zero_iff.1 e)
 have FY:(4*m.length+4096)*(bytes+1)≤1099511627776:=Nat.le_trans (Nat.mul_le_mul (show 4*m.length+4096≤68719476736 by omega) (show bytes+1≤16 by omega)) (by decide)
 simp only[bX,h0,h1,hs,hx,mD,H4,hb,x1.nE,x1.first,ss,hz,zX,oU,Nat.mul_one,hn,FY,n,if_true,if_false,and_self,Bool.false_eq_true]
end Go.Ab
end
section
namespace Go.Ab
variable {E:Env}
structure Pk (al:List nh) (p0 ps:List Prop):Prop where
 ok:mw p0→mw ps
section
variable {al:List nh} {p0 ps:List Prop}
theorem ZZ {p:List Prop}:Pk [] p p:=⟨id⟩
theorem AA (a:nh) (k:Pk al p0 ps):Pk (a::al) p0 ps:=⟨k.ok⟩
theorem CC (k:Pk al p0 ps):Pk (.c::al) p0 ps:=⟨k.ok⟩
def cs:Nat→List nh→List nh
 | 0,l=>l
 | n+1,l=> .c::cs n l
theorem CN (n:Nat) (k:Pk al p0 ps):Pk (cs n al) p0 ps:=⟨k.ok⟩
theorem HH {P:Prop} (h:P) (k:Pk al (P::p0) ps):Pk al p0 ps:=⟨fun c=>k.ok ⟨h,c⟩⟩
theorem VV {l:Option AV} {x:AV} (h:l=some x) (k:Pk al ((l=some x)::p0) ps):Pk (.v x::al) p0 ps:=⟨fun c=>k.ok ⟨h,c⟩⟩
theorem QQ {l:Option AV} {x:AV} (h:l=some x) (k:Pk al ((l=some x)::p0) ps):Pk (.q x::al) p0 ps:=⟨fun c=>k.ok ⟨h,c⟩⟩
theorem MM {l:Option AV} {x:AV} (h:l=some x) (k:Pk al ((l=some x)::p0) ps):Pk (.m x::al) p0 ps:=⟨fun c=>k.ok ⟨h,c⟩⟩
theorem TT (k:Pk al ((true=true)::p0) ps):Pk (.b true::al) p0 ps:=⟨fun c=>k.ok ⟨rfl,c⟩⟩
theorem FF (k:Pk al ((false=false)::p0) ps):Pk (.b false::al) p0 ps:=⟨fun c=>k.ok ⟨rfl,c⟩⟩
theorem BB {u v:Bool} (h:u=v) (k:Pk al ((u=v)::p0) ps):Pk (.b v::al) p0 ps:=⟨fun c=>k.ok ⟨h,c⟩⟩
theorem EE {call:bh} {f:Fn} {args:List AV} {h h':aA} {x:AV} (e:call f args h= .ret x h') (k:Pk al ((call f args h= .ret x h')::p0) ps):Pk (.e x h'::al) p0 ps:=⟨fun c=>k.ok ⟨e,c⟩⟩
theorem SS {h h':aA} {t:TypeId} {a v:AV} (s:fE E h t a v=some h') (k:Pk al ((AV.undef=AV.undef∧fE E h t a v=some h')::p0) ps):Pk (.e AV.undef h'::al) p0 ps:=⟨fun c=>k.ok ⟨⟨rfl,s⟩,c⟩⟩
theorem PP {l:Option (AV×aA)} {x:AV} {h':aA} (e:l=some (x,h')) (k:Pk al ((l=some (x,h'))::p0) ps):Pk (.e x h'::al) p0 ps:=⟨fun c=>k.ok ⟨e,c⟩⟩
theorem NN {h h':aA} {obj:aX} (n:h.new obj=some h') (f:Nat→AV) (k:Pk al ((∃mk:Nat→AV,some (obj,f)=some (obj,mk)∧mk h.nx=f h.nx)::(h.new obj=some h')::p0) ps):Pk (.a obj (f h.nx) h'::al) p0 ps:=⟨fun c=>k.ok ⟨⟨f,rfl,rfl⟩,n,c⟩⟩
theorem LL {call:bh} {b:Code} {s s':St} {e:iB} (ev:Ev E call b s e s') (k:Pk al ((Ev E call b s e s')::p0) ps):Pk (.l e s'::al) p0 ps:=⟨fun c=>k.ok ⟨ev,c⟩⟩
end
@[irreducible] def vf:R→List AV
  | .at _ s _ _=>s.ts
  | .bad=> []
theorem X' {call:bh} {c:Code} {ts:List AV} {h h':aA} {ds:List oB} {rc:RC} {n:Nat} {e:iB} {al:List nh} {ps:List Prop} (k:Pk al [] ps) (hr:run E call n c ⟨ts,h,ds,rc⟩ al []= .at e ⟨vf (run E call n c ⟨ts,h,ds,rc⟩ al []),h',ds,rc⟩ [] ps):Ev E call c ⟨ts,h,ds,rc⟩ e ⟨vf (run E call n c ⟨ts,h,ds,rc⟩ al []),h',ds,rc⟩:=BZ hr (k.ok trivial)
theorem ZS {call:bh} {c:Code} {s s':St} {n:Nat} {e:iB} {al:List nh} {ps:List Prop} (k:Pk al [] ps) (hr:run E call n c s al []= .at e s' [] ps):Ev E call c s e s':=BZ hr (k.ok trivial)
def rx (x:Nat→AV):Nat→Nat→List AV→List AV
 | _,0,l=>l
 | i,n+1,l=>x i::rx x (i+1) n l
def iL:Nat→List AV
 | 0=> []
 | n+1=>AV.undef::iL n
end Go.Ab
end
section
namespace Go.Ab
open Go.WideElems Go.RowKit Go.Proofs Go.Shelf
variable {E:Env}
def vN (x:Int×Int):List Value:=[.int .i64 x.1,.int .i64 x.2]
def uK (x y:Int×Int):Int:=Lib.compareInt x.1 y.1
def lC (L:List (Int×Int)):List (Int×Int):=(Sort.pdq (ltOf uK) L.toArray 0 L.toArray.size (Lib.bitLen L.toArray.size) true true).toList
def qq:List (Int×Int)→List AV
 | []=> []
 | x::l=> .int .i64 x.1:: .int .i64 x.2::qq l
def nW:List (Int×Int)→List Value
 | []=> []
 | x::l=> .int .i64 x.1:: .int .i64 x.2::nW l
def GN:List AV→Option (List (Int×Int))
 | []=>some []
 | .int .i64 a:: .int .i64 b::l=>match GN l with
   | some r=>some ((a,b)::r)
   | none=>none
 | _=>none
theorem B4:∀{cs:List AV} {L:List (Int×Int)},GN cs=some L→cs=qq L
 | [],L,h=>by cases h;rfl
 | .int .i64 a:: .int .i64 b::cs,L,h=>by
   simp only[GN] at h
   split at h
   · rename_i r hr
     cases h
     rw[B4 hr];rfl
   · cases h
theorem lD:∀L:List (Int×Int),(qq L).length=L.length*2
 | []=>rfl
 | x::l=>by simp only[qq,List.length_cons,lD l];omega
theorem uw:∀L:List (Int×Int),(nW L).length=L.length*2
 | []=>rfl
 | x::l=>by simp only[nW,List.length_cons,uw l];omega
theorem EK:∀(L:List (Int×Int)) (j:Nat),j<L.length*2→(qq L)[j]? =some (.int .i64 (if j%2=0 then L[j/2]!.1 else L[j/2]!.2))
 | [],j,h=>by simp at h
 | x::l,0,h=>rfl
 | x::l,1,h=>rfl
 | x::l,j+2,h=>by
   show (qq l)[j]? =_
   rw[EK l j (by simp at h;omega),Nat.add_mod_right,Nat.add_div_right j (by decide)]
   rfl
theorem EL:∀(L:List (Int×Int)) (j:Nat),j<L.length*2→(nW L)[j]? =some (.int .i64 (if j%2=0 then L[j/2]!.1 else L[j/2]!.2))
 | [],j,h=>by simp at h
 | x::l,0,h=>rfl
 | x::l,1,h=>rfl
 | x::l,j+2,h=>by
   show (nW l)[j]? =_
   rw[EL l j (by simp at h;omega),Nat.add_mod_right,Nat.add_div_right j (by decide)]
   rfl
theorem B5 (φ:Ph):∀L:List (Int×Int),LR φ (qq L) (nW L)
 | []=>LR.nil φ
 | x::l=>LR.cons (.int _ _) (LR.cons (.int _ _) (B5 φ l))
theorem ry:∀L:List (Int×Int),(qq L).all AV.scalar=true
 | []=>rfl
 | x::l=>by show (true&&(true&&(qq l).all AV.scalar))=true;rw[ry l];rfl
theorem EM (d:Array (Int×Int)) (j:Nat) (h:j<d.size*2):(Sort.flatK vN 2 d)[j]! = .int .i64 (if j%2=0 then d.toList[j/2]!.1 else d.toList[j/2]!.2):=by
 rw[Sort.get_flatK vN 2 d j h]
 have e:d.toList[j/2]! =d[j/2]! :=by
  rw[getElem!_pos d (j/2) (by omega),getElem!_pos d.toList (j/2) (by rw[Array.length_toList];omega)];simp
 rw[e]
 rcases Nat.mod_two_eq_zero_or_one j with q | q<;>rw[q]<;>rfl
theorem B6 (L:List (Int×Int)):(lC L).Perm L∧(lC L).length=L.length∧∀i j,i<j→j<L.length→(lC L)[i]!.1≤(lC L)[j]!.1:=by
 have lt:∀x y:Int×Int,ltOf uK x y=decide (x.1<y.1):=fun x y=>by
  unfold ltOf uK Lib.compareInt
  by_cases h1:x.1<y.1
  · simp [h1]
  · by_cases h2:y.1<x.1<;>simp [h1,h2]
 have hO:Sort.SWO (ltOf uK):=by
  refine ⟨fun x=>by rw[lt];simp,fun x y z h1 h2=>?_,fun x y z h1 h2=>?_⟩<;>rw[lt] at * <;>simp at * <;>omega
 have hp:=Sort.pdq_sorts (ltOf uK) hO L.toArray 0 L.toArray.size (Lib.bitLen L.toArray.size) true true (Nat.zero_le _) (Nat.le_refl _) (Or.inl rfl)
 show (Array.toList (Sort.pdq (ltOf uK) L.toArray 0 L.toArray.size (Lib.bitLen L.toArray.size) true true)).Perm L∧(Array.toList (Sort.pdq (ltOf uK) L.toArray 0 L.toArray.size (Lib.bitLen L.toArray.size) true true)).length=L.length∧∀i j,i<j→j<L.length→(Array.toList (Sort.pdq (ltOf uK) L.toArray 0 L.toArray.size (Lib.bitLen L.toArray.size) true true))[i]!.1≤(Array.toList (Sort.pdq (ltOf uK) L.toArray 0 L.toArray.size (Lib.bitLen L.toArray.size) true true))[j]!.1
 generalize Sort.pdq (ltOf uK) L.toArray 0 L.toArray.size (Lib.bitLen L.toArray.size) true true=D at hp
 obtain ⟨⟨h1,_,h3⟩,h4⟩:=hp
 have hs:D.size=L.length:=by simpa using h1
 refine ⟨?_,by rw[Array.length_toList,hs],fun i j hij hj=>?_⟩
 · have e1:(D.extract 0 L.toArray.size).toList=D.toList:=by rw[←h1];simp
   have e2:(L.toArray.extract 0 L.toArray.size).toList=L:=by simp
   rw[e1,e2] at h3
   exact h3
 · have:=h4 i j (Nat.zero_le _) hij (by simpa using hj)
   rw[lt] at this
   have e:∀k,k<L.length→D.toList[k]! =D[k]! :=fun k hk=>by
    rw[getElem!_pos D k (by omega),getElem!_pos D.toList k (by rw[Array.length_toList];omega)];simp
   rw[e i (by omega),e j hj]
   have:=of_decide_eq_false this
   omega
theorem afx:Sort.SWO (ltOf uK):=by
 have lt:∀x y:Int×Int,ltOf uK x y=decide (x.1<y.1):=fun x y=>by
  unfold ltOf uK Lib.compareInt
  by_cases h1:x.1<y.1
  · simp [h1]
  · by_cases h2:y.1<x.1<;>simp [h1,h2]
 refine ⟨fun x=>by rw[lt];simp,fun x y z h1 h2=>?_,fun x y z h1 h2=>?_⟩<;>rw[lt] at * <;>simp at * <;>omega
noncomputable def Sk (g:Nat) (args:List AV) (h:aA):Option (AV×aA):=match args with
 | [.aP,.func g' [] []]=>if g'=g then some (.tuple [],h) else none
 | [.slice i 0 n c _,.func g' [] []]=>if g'=g then (match h.get i with
   | some (.cells cs t false)=>(match GN cs with
     | some L=>if L.length=n∧n≤c∧n<1000000 then some (.tuple [],h.put i (some (.cells (qq (lC L)) t false))) else none
     | none=>none)
   | _=>none) else none
 | _=>none
structure Nw (P:Program) (f g:FuncId):Prop where
 nothing:∀(p:Option Addr) (cap:Nat) (fv:Value) (w:World),Calls P f #[.slice p 0 cap,fv] w fun e w'=>e= .returned (.tuple #[])∧w'=w
 row:∀(eg off cap:Nat) (d:Array (Int×Int)) (w:World),Sort.HoldsK vN 2 w eg off d→eg<w.heap.size→d.size<1000000→Calls P f #[.slice (some ⟨eg,off,none⟩) d.size cap,.func (.func g) #[] #[]] w fun e w'=>
  e= .returned (.tuple #[])∧∃n os,w'=sortWorldK vN 2 w eg off n (Sort.pdq (ltOf uK) d 0 d.size (Lib.bitLen d.size) true true) os
theorem Jp {F G:Array Value} (h:G.size=F.size):Sort.setMany F 0 G.toList=G:=by
 apply Array.ext
 · rw[Sort.size_setMany,h]
 · intro i h1 h2
   have e:=Sort.get_setMany G.toList 0 F i (by omega)
   rw[if_pos ⟨Nat.zero_le _,by simpa using h2⟩,Nat.sub_zero] at e
   rw[getElem!_pos _ i h1] at e
   rw[e]
   simp [h2]
theorem Sl {f g:FuncId} (dp:∀args w,(callFunc f args).run E.P w= .ok (.enter f args) w) (hc:Nw E.P f g) (args:List AV) (h:aA) (v:AV) (h':aA) (e:Sk g args h=some (v,h')):lB E f args h v h':=by
 intro φ w vs ok hl
 refine ⟨dp _ _,?_⟩
 unfold Sk at e
 split at e
 · rename_i g'
   split at e
   · obtain ⟨rfl,rfl⟩:=Prod.mk.inj (Option.some.inj e)
     obtain ⟨x,t2,rfl,hx,hl⟩:=hl.cu
     obtain ⟨y,t3,rfl,hy,hl⟩:=hl.cu
     rw[hl.gE]
     cases hx with
     | aP=>
     intro iW
     obtain ⟨en,w',fr,⟨rfl,rfl⟩,uH,DA,QO⟩:=hc.nothing none 0 y w iW
     exact ⟨φ,_,_,fr,VR.tuple' (LR.nil φ),ok,Fr.refl φ h _,uH,DA,QO⟩
   · cases e
 · rename_i i n c op g'
   split at e
   · rename_i hgg
     subst hgg
     split at e
     · rename_i cs t hg
       split at e
       · rename_i L hL
         split at e
         · rename_i KM
           obtain ⟨hn,Qe,hn6⟩:=KM
           obtain ⟨rfl,rfl⟩:=Prod.mk.inj (Option.some.inj e)
           obtain ⟨x,t2,rfl,hx,hl⟩:=hl.cu
           obtain ⟨y,t3,rfl,hy,hl⟩:=hl.cu
           rw[hl.gE]
           obtain ⟨a',b',rfl,la,lb⟩:=hy.wD
           have ea:a'= #[]:=by have:=la.gE;simpa using this
           have eb:b'= #[]:=by have:=lb.gE;simpa using this
           subst ea;subst eb
           have hcs:=B4 hL
           subst hcs
           subst hn
           cases hx with
           | @slice _ l _ _ _ _ hφ=>
           obtain ⟨C,e',lo,hi,hwc,hC⟩:=ok.live i _ l hg hφ
           have OH:=hC.size
           have hle:=lD L
           have hblk:l.eg<w.heap.size:=by
            rcases Nat.lt_or_ge l.eg w.heap.size with a | a
            · exact a
            · rw[Array.getElem?_eq_none a] at hwc;cases hwc
           have hH:Sort.HoldsK vN 2 w l.eg (l.off+0) L.toArray:=fun j hj=>by
            rw[Sort.size_flatK] at hj
            rw[EM _ j hj]
            have U9:j<L.length*2:=by simpa using hj
            obtain ⟨y,hy,hyv⟩:=hC.val j _ (EK L j U9)
            cases hyv with
            | int=>
            refine ⟨?_,?_⟩
            · simp only[World.cell?,hwc,Nat.add_zero,id]
              exact hy
            · rw[frozen_of_heap hwc]
              have:=hC.free rfl (l.off+j) (by omega) (by omega)
              simp only[Nat.add_zero,Bool.and_eq_false_iff,decide_eq_false_iff_not]
              omega
           have Qa:=B6 L
           have key:=hc.row l.eg (l.off+0) (gK op c l.iX) L.toArray w hH hblk (by simpa using hn6)
           intro iW
           obtain ⟨en,w',fr,⟨rfl,n,os,rfl⟩,uH,DA,QO⟩:=key iW
           let d':=Sort.pdq (ltOf uK) L.toArray 0 L.toArray.size (Lib.bitLen L.toArray.size) true true
           have Kq:d'.size=L.toArray.size:=by have:=Qa.2.1;rw[List.size_toArray];exact this
           have Ih:(Sort.flatK vN 2 d').toList=nW (lC L):=by
            apply List.ext_getElem?
            intro j
            have z1:(Sort.flatK vN 2 d').size=L.length*2:=by rw[Sort.size_flatK,Kq];simp
            have z2:(nW (lC L)).length=L.length*2:=by rw[uw,Qa.2.1]
            by_cases hj:j<L.length*2
            · have e1:=EM d' j (by rw[Kq];simpa using hj)
              rw[getElem!_pos _ j (by rw[z1];exact hj)] at e1
              rw[EL _ j (by rw[Qa.2.1];exact hj),Array.getElem?_toList,Array.getElem?_eq_getElem (by rw[z1];exact hj),e1]
              rfl
            · rw[List.getElem?_eq_none (by simp only[Array.length_toList,z1];omega),List.getElem?_eq_none (by omega)]
           obtain ⟨w2,iY,js,ou⟩:=uf ok hg hφ (B5 φ (lC L)) 0 (by rw[lD,lD,Qa.2.1];omega) (ry _)
           have f':=pO (P:=E.P) hwc (l.off+0) (nW (lC L)) (by rw[uw,Qa.2.1];omega) (fun k h1 h2=>hC.free rfl k (by omega) (by rw[uw,Qa.2.1] at h2;omega)) (vx (B5 φ (lC L)) (ry _))
           rw[iY] at f'
           obtain rfl:w2=w.setCells l.eg (l.off+0) (nW (lC L)):=by injection f'
           have qh:setFrom (qq L) 0 (qq (lC L))=qq (lC L):=by
            apply List.ext_getElem?
            intro k
            rw[fX,lD,lD,Qa.2.1,Nat.zero_add,Nat.sub_zero]
            by_cases hk:k<L.length*2
            · rw[if_pos ⟨Nat.zero_le _,hk,hk⟩]
            · rw[if_neg (by omega),List.getElem?_eq_none (by rw[lD];omega),List.getElem?_eq_none (by rw[lD,Qa.2.1];omega)]
           rw[qh] at js ou
           have afy:Sort.putRowK vN 2 w l.eg (l.off+0) d'=w.setCells l.eg (l.off+0) (nW (lC L)):=by
            have e1:w.setCells l.eg (l.off+0+0) (Sort.flatK vN 2 d').toList=Sort.putRow id w l.eg (l.off+0) (Sort.setMany (Sort.flatK vN 2 L.toArray) 0 (Sort.flatK vN 2 d').toList):=by
             conv=>lhs;rw[←Sort.putRow_self id w l.eg (l.off+0) _ hH]
             exact Sort.setCells_putRow _ _ _ _ _ _ (by simp [Kq])
            rw[Jp (by simp [Kq]),Ih] at e1
            exact e1.symm
           have afz:Below (w.setCells l.eg (l.off+0) (nW (lC L))).heap.size (w.setCells l.eg (l.off+0) (nW (lC L))) (sortWorldK vN 2 w l.eg (l.off+0) n d' os):=by
            have ew:sortWorldK vN 2 w l.eg (l.off+0) n d' os=Sort.grow (Sort.ahead (w.setCells l.eg (l.off+0) (nW (lC L))) n) os:=by
             unfold sortWorldK
             rw[←afy];rfl
            rw[ew]
            refine ⟨rfl,rfl,rfl,?_,fun k hk=>?_⟩
            · show _≤((w.setCells l.eg (l.off+0) (nW (lC L))).heap++os).size
              rw[Array.size_append];omega
            · show ((w.setCells l.eg (l.off+0) (nW (lC L))).heap++os)[k]? =_
              rw[Array.getElem?_append_left hk]
           have Sm:=js.later afz
           exact ⟨φ,_,_,fr,VR.tuple' (LR.nil φ),Sm.1,ou.trans Sm.2,uH,DA,QO⟩
         · cases e
       · cases e
     · cases e
   · cases e
 · cases e
end Go.Ab
end
