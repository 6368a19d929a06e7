import Derived.ChangeShapes
import Derived.ChangeStays
import Derived.ChangeBook
import Derived.ChangeOld
import Derived.ChangeAgain
import Derived.ChangeCalls
import Derived.Test.YtjohpcpopggbkaaGreatA6
set_option linter.unusedVariables false
set_option linter.unusedSimpArgs false
section
namespace Go.Ab
variable {E:Env} {call:aY} {n:Nat} {s:St}
def OY {α β:Type} (o:Option α) (f:α→β) (d:β):β:=match o with
 | some a=>f a
 | none=>d
noncomputable def C7 (E:Env) (call:aY) (n:Nat) (o:Out) (b:Code):Out:=match o with
 | .ok .normal s=>exec E call n b s
 | r=>r
theorem uo (s:St) (b:Code):C7 E call n (.ok .normal s) b=exec E call n b s:=rfl
def IJ (id:Nat) (o:Out):Out:=match o with
 | .ok (.exit GI) s'=>if GI=id then .ok .normal s' else .ok (.exit GI) s'
 | r=>r
theorem uq (i j:Nat) (s:St):IJ i (.ok (.exit j) s)=if j=i then .ok .normal s else .ok (.exit j) s:=rfl
noncomputable def IK (E:Env) (call:aY) (n:Nat) (o:Option AV) (a b:Code) (s:St):Out:=match o with
 | some (.bool true)=>exec E call n a s
 | some (.bool false)=>exec E call n b s
 | _=> .fail "cond" none
theorem Df (a b:Code):IK E call n (some (.bool true)) a b s=exec E call n a s:=rfl
theorem BP (a b:Code):IK E call n (some (.bool false)) a b s=exec E call n b s:=rfl
theorem M5 (a b:Code):exec E call (n+1) (.seq a b) s=C7 E call n (exec E call n a s) b:=rfl
theorem IL (x:Operand) (a b:Code):exec E call (n+1) (.cond x a b) s=IK E call n (dr E s.ts x) a b s:=rfl
theorem Ae (id:Nat) (b:Code):exec E call (n+1) (.block id b) s=IJ id (exec E call n b s):=rfl
theorem IM (b:Code):exec E call (n+1) (.loop b) s=C7 E call n (exec E call n b s) (.loop b):=rfl
theorem IN (i:Nat) (ops:Array Oper):exec E call (n+1) (.region i ops false) s=iu E call ops ops.toList s:=rfl
theorem Ly (i:Nat) (ops:Array Oper):exec E call (n+1) (.region i ops true) s=rA E call ops s:=rfl
noncomputable def RD (E:Env) (call:aY) (ops:Array Oper) (o:Oper) (rest:List Oper) (s:St):Out:=match cD E call s.ts s.h s.rc o with
 | .val v h'=>iu E call ops rest {s with ts:=cU s.ts o.dst v,h:=h'}
 | .defer d=>iu E call ops rest {s with ts:=cU s.ts o.dst AV.undef,ds:=d::s.ds}
 | .ov v=>iu E call ops rest {s with ts:=cU s.ts o.dst v,rc:= .done}
 | .panic v h'=> .ok (.panic v) {s with h:=h'}
 | .fail why q=> .fail why q
noncomputable def RE (E:Env) (call:aY) (ops:Array Oper) (o:Oper) (rest:List Oper) (s:St):Out:=
 OY (dj E s.ts o.op) (fun p=>OY (s.h.new p.1) (fun h'=>iu E call ops rest {s with ts:=cU s.ts o.dst (p.2 s.h.nx),h:=h'}) (.fail "full" (some o))) (RD E call ops o rest s)
noncomputable def RG (E:Env) (call:aY) (ops:Array Oper) (o:Oper) (rest:List Oper) (s:St):Out:=
 OY (c9 E s.ts s.h o.op) (fun v=>iu E call ops rest {s with ts:=cU s.ts o.dst v}) (RE E call ops o rest s)
noncomputable def RH (E:Env) (call:aY) (ops:Array Oper) (v:Option AV) (o:Oper) (rest:List Oper) (s:St):Out:=OY v (fun v=>iu E call ops rest {s with ts:=cU s.ts o.dst v}) (RG E call ops o rest s)
section
variable {ops:Array Oper} {rest:List Oper} {d:Option Tmp} {op:Op} {ty:TypeId} {pos:String} {YQ:Array Edge} {g:Option (Nat×Bool)}
noncomputable def C8 (E:Env) (call:aY) (ops:Array Oper) (w:Bool) (o:Oper) (rest:List Oper) (s:St):Out:=
 if w=true then RH E call ops (bm E s.ts o.op) o rest s else iu E call ops rest {s with ts:=cU s.ts o.dst AV.undef}
end
theorem iK (m:Nat) (a:List UInt8):AV.same (m+1) (.str a) (.str a)=true:=by simp [AV.same]
theorem aU (m:Nat) (k:IntKind) (a:Int):AV.same (m+1) (.int k a) (.int k a)=true:=by simp [AV.same]
theorem wg (m i o l c:Nat) (b:Bool):AV.same (m+1) (.slice i o l c b) (.slice i o l c b)=true:=by simp [AV.same]
open Classical in
section
variable {ops:Array Oper} {rest:List Nat} {d:Option Tmp} {op:Op} {ty:TypeId} {pos:String} {YQ:Array Edge} {g:Option (Nat×Bool)}
noncomputable def Eg (E:Env) (call:aY) (ops:Array Oper) (r:Option St) (s:St):Out:=OY r (fun s'=> .ok .normal s') (rA E call ops s)
end
theorem wrap_i64 {n:Int} (h0: -9223372036854775808≤n) (h1:n<9223372036854775808):IntKind.i64.wrap n=n:=by
 show (if (true&&decide (n%2^64≥2^63))=true then n%2^64 - 2^64 else n%2^64)=n
 by_cases hn:n%2^64≥2^63
 · rw[if_pos (by rw[Bool.true_and];exact decide_eq_true hn)];omega
 · rw[if_neg (by rw[Bool.true_and];exact fun e=>hn (of_decide_eq_true e))];omega
noncomputable def Bu (E:Env) (fn:Func) (h:aq) (ts:List AV):gQ:=match iw E h ts fn.results.toList with
 | some vs=> .ret (fF vs) h
 | none=> .fail "results" none
theorem FQ {fuel:Nat} {f:FuncId} {fn:Func} {c:Code} (hf:E.P.funcs[f]? =some fn) (hb:fn.body=some c) {args:List AV} {h h':aq} {ts:List AV} {x:iS} (hx:x= .normal∨x= .ret)
 (e:exec E call fuel c ⟨args++List.replicate (fn.ntmps - args.length) AV.undef,h,[],.no⟩= .ok x ⟨ts,h',[],.no⟩) {vs:List AV} (hr:iw E h' ts fn.results.toList=some vs):um E call fuel f args h= .ret (fF vs) h':=by
 unfold um
 simp only[hf,hb,lk,e]
 rcases hx with rfl | rfl<;>simp only[qd,cz,hr]
def wh (M:Fa.BM):aY:=fun F args h=>match F with
 | .fn f=>match M f args h with
   | some p=> .ret p.1 p.2
   | none=> .fail "" none
 | .tV _=> .fail "" none
theorem FR {M:Fa.BM} (hM:Fa.Ad E M):fP E (wh M):=by
 refine ⟨fun F args h v h' e=>?_,fun F args h v h' e=>?_⟩
 · cases F with
   | tV l=>cases e
   | fn f=>
     simp only[wh] at e
     cases hm:M f args h with
     | none=>rw[hm] at e;cases e
     | some p=>
       rw[hm] at e
       simp only[gQ.ret.injEq] at e
       obtain ⟨rfl,rfl⟩:=e
       exact (hM _ _ _ _ _ hm).any
 · cases F with
   | tV l=>cases e
   | fn f=>
     simp only[wh] at e
     cases hm:M f args h with
     | none=>rw[hm] at e;cases e
     | some p=>rw[hm] at e;cases e
def Vh (E:Env) (x:Option (TypeId×Nat)) (v:Option AV):Option AV:=match x,v with
 | some (t,o),some (.ptr i off)=>match bY E t with
   | some n=>if n=0 then none else some (.ptr i (off+o))
   | none=>none
 | _,_=>none
def dX (E:Env) (op:BinOp) (t:TypeId) (xc yc:Bool) (a b:Option AV):Option AV:=match a,b with
 | some a,some b=>jq E op t xc yc a b
 | _,_=>none
theorem Lz {ts:List AV} (op:BinOp) (t t':TypeId) (x y:Operand):bm E ts (.binOp op t x y t')=dX E op t (isConst x) (isConst y) (dr E ts x) (dr E ts y):=by
 simp only[bm,dX]
 cases dr E ts x<;>cases dr E ts y<;>rfl
theorem LA (t:TypeId) (c d:Bool) (k:IntKind) (a b:Int):dX E .add t c d (some (.int k a)) (some (.int k b))=some (.int k (k.wrap (a+b))):=by simp [dX,jq,cG]
theorem LB (t:TypeId) (c d:Bool) (k:IntKind) (a b:Int):dX E .sub t c d (some (.int k a)) (some (.int k b))=some (.int k (k.wrap (a - b))):=by simp [dX,jq,cG]
theorem LC (t:TypeId) (c d:Bool) (k:IntKind) (a b:Int):dX E .mul t c d (some (.int k a)) (some (.int k b))=some (.int k (k.wrap (a*b))):=by simp [dX,jq,cG]
theorem LD (t:TypeId) (c d:Bool) (k:IntKind) (a b:Int):dX E .eql t c d (some (.int k a)) (some (.int k b))=some (.bool (decide (a=b))):=by simp [dX,jq,cG];rfl
theorem LF (t:TypeId) (c d:Bool) (k:IntKind) (a b:Int):dX E .neq t c d (some (.int k a)) (some (.int k b))=some (.bool (!decide (a=b))):=by simp [dX,jq,cG];rfl
theorem LG (t:TypeId) (c d:Bool) (k:IntKind) (a b:Int):dX E .lss t c d (some (.int k a)) (some (.int k b))=some (.bool (decide (a<b))):=by simp [dX,jq,cG]
theorem LH (t:TypeId) (c d:Bool) (k:IntKind) (a b:Int):dX E .leq t c d (some (.int k a)) (some (.int k b))=some (.bool (decide (a≤b))):=by simp [dX,jq,cG]
theorem LI (t:TypeId) (c d:Bool) (k:IntKind) (a b:Int):dX E .gtr t c d (some (.int k a)) (some (.int k b))=some (.bool (decide (b<a))):=by simp [dX,jq,cG]
theorem LJ (t:TypeId) (c d:Bool) (k:IntKind) (a b:Int):dX E .geq t c d (some (.int k a)) (some (.int k b))=some (.bool (decide (b≤a))):=by simp [dX,jq,cG]
theorem IP (t:TypeId) (c d:Bool) (a b:List UInt8):dX E .eql t c d (some (.str a)) (some (.str b))=some (.bool (decide (a=b))):=by
 simp only[dX,jq,oR,Option.some.injEq,AV.bool.injEq]
 exact Bool.eq_iff_iff.2 (by simp)
theorem IQ (t:TypeId) (c d:Bool) (a b:List UInt8):dX E .neq t c d (some (.str a)) (some (.str b))=some (.bool (!decide (a=b))):=by
 simp only[dX,jq,oR,Option.some.injEq,AV.bool.injEq]
 exact congrArg (!·) (Bool.eq_iff_iff.2 (by simp))
def Rp (op:UnOp) (a:Option AV):Option AV:=match a with
 | some a=>P2 op a
 | none=>none
def ep (E:Env) (d:Option TypeDesc) (v i:Option AV):Option AV:=match d,v,i with
 | some (.slice elem),some (.slice i o len _ _),some (.int _ n)=>match bY E elem with
  | some size=>if 0≤n∧n<len then some (.ptr i (o+n.toNat*size)) else none
  | none=>none
 | some (.array len elem),some (.ptr i o),some (.int _ n)=>match bY E elem with
  | some size=>if 0≤n∧n<len then some (.ptr i (o+n.toNat*size)) else none
  | none=>none
 | _,_,_=>none
theorem BQ {ts:List AV} (t:TypeId) (x i:Operand):bm E ts (.indexAddr t x i)=ep E (E.P.underlying t) (dr E ts x) (dr E ts i):=by
 simp only[bm,ep]
 split<;>simp_all<;>(split<;>simp_all)
theorem n6 {e:TypeId} {i o len c z:Nat} {b:Bool} {size:Nat} (hs:bY E e=some size) (hz:z<len):ep E (some (.slice e)) (some (.slice i o len c b)) (some (.int .i64 (z:Int)))=some (.ptr i (o+z*size)):=by
 simp only[ep,hs]
 rw[if_pos ⟨by omega,by omega⟩,Int.toNat_natCast]
def dU (d:Option TypeDesc) (v:Option AV):Option AV:=match d,v with
 | some (.slice _),some .aF=>some (.int .i64 0)
 | some (.slice _),some (.slice _ _ n _ _)=>some (.int .i64 n)
 | some (.slice _),some .dG=>some (.int .i64 0)
 | some .string,some (.str s)=>some (.int .i64 s.length)
 | some (.array n _),some _=>some (.int .i64 n)
 | some (.map _ _),some .cZ=>some (.int .i64 0)
 | _,_=>none
theorem RI {ts:List AV} (x:Operand) (t:TypeId):bm E ts (.call ⟨.builtin .len, #[x], #[t]⟩)=dU (E.P.underlying t) (dr E ts x):=by
 simp only[bm,eF,dp,List.getElem?_toArray,List.getElem?_cons_zero]
 generalize dr E ts x=o
 cases o with
 | none=>
   generalize E.P.underlying t=u
   cases u with
   | none=>rfl
   | some d=>cases d<;>rfl
 | some v=>
   simp only
   generalize E.P.underlying t=u
   cases u with
   | none=>rfl
   | some d=>cases d<;>cases v<;>rfl
theorem OZ {ts:List AV} {h:aq} (t:TypeId) (x:Operand):c9 E ts h (.load t x)=OY (dr E ts x) (b9 E h t) none:=by
 simp only[c9];cases dr E ts x<;>rfl
theorem hF (e:TypeId) (i o n c:Nat) (b:Bool):dU (some (.slice e)) (some (.slice i o n c b))=some (.int .i64 n):=rfl
theorem r_ (e:TypeId):dU (some (.slice e)) (some .aF)=some (.int .i64 0):=rfl
theorem O0 (e:TypeId):dU (some (.slice e)) (some .dG)=some (.int .i64 0):=rfl
def Tidy (h:aq):Prop:=∀i o,h.get i=some o→i<h.nx
def n7 (E:Env) (d:Option TypeDesc) (v i:Option AV):Option AV:=match d,v,i with
 | some (.array len elem),some (.agg cs),some (.int _ n)=>match bY E elem with
  | some size=>if 0≤n∧n<len then g7 E elem cs (n.toNat*size) else none
  | none=>none
 | some .string,some (.str s),some (.int _ n)=>if 0≤n then (match s[n.toNat]? with | some b=>some (.int .u8 b.toNat) | none=>none) else none
 | _,_,_=>none
theorem LK {ts:List AV} (t:TypeId) (x i:Operand):bm E ts (.index t x i)=n7 E (E.P.underlying t) (dr E ts x) (dr E ts i):=by
 simp only[bm,n7]
 split
 · simp_all
   split<;>simp_all
 · rename_i s k n _ _ _
   simp_all
   cases s[n.toNat]? <;>rfl
 · simp_all
theorem IS {s:List UInt8} {z:Nat} {b:UInt8} (h:s[z]? =some b):n7 E (some .string) (some (.str s)) (some (.int .i64 (z:Int)))=some (.int .u8 b.toNat):=by
 simp only[n7]
 rw[if_pos (by omega),Int.toNat_natCast,h]
end Go.Ab
end
section
namespace Go.Ab
open Go.ChangeShapes Go.WideShapes Go.RowKit
variable {E:Env}
def sa (h:aq):Prop:=∀i o,h.get i=some o→o.rw=false
theorem OK.show {φ:Ph} {h:aq} {w:World} (ok:OK E φ h w) (Hu:sa h) {b off:Nat} {cs:List AV} {e:TypeId} (dt:cs≠ []) (hz:∀m,cs≠ [.map m])
 (hC:∀(k:Nat) (x:AV),cs[k]? =some x→∃y,w.cell? ⟨b,off+k,none⟩=some y∧VR φ x y):
 ∃h',h.new (.cells cs e true)=some h'∧OK E (φ.add h.nx ⟨b,off,0⟩) h' w∧φ.le (φ.add h.nx ⟨b,off,0⟩)∧sa h'∧h'.nx=h.nx+1∧h'.get h.nx=some (.cells cs e true)∧(∀j,j≠h.nx→h'.get j=h.get j)∧(φ.add h.nx ⟨b,off,0⟩) h.nx=some ⟨b,off,0⟩:=by
 obtain ⟨h',hn⟩:∃h',h.new (.cells cs e true)=some h':=by
  exact ⟨_,aq.zm _ _⟩
 obtain ⟨jT,O1,vo,hold⟩:=aq.js hn
 have zn:φ h.nx=none:=by
  cases e:φ h.nx with
  | none=>rfl
  | some m=>exact absurd (ok.uJ _ _ e) (Nat.lt_irrefl _)
 have hle:φ.le (φ.add h.nx ⟨b,off,0⟩):=fun i m hm=>by
  unfold Ph.add;split
  · rename_i e;subst e;rw[zn] at hm;simp at hm
  · exact hm
 have iA:∀j,j≠h.nx→(φ.add h.nx ⟨b,off,0⟩) j=φ j:=fun j hj=>by simp [Ph.add,hj]
 have fN:(φ.add h.nx ⟨b,off,0⟩) h.nx=some ⟨b,off,0⟩:=by simp [Ph.add]
 have eZ:∀j p,h'.get j=some p→(j=h.nx∧p= .cells cs e true)∨(j≠h.nx∧h.get j=some p):=fun j p hj=>by
  by_cases e:j=h.nx
  · subst e;rw[vo] at hj;simp at hj;exact .inl ⟨rfl,hj.symm⟩
  · rw[hold j e] at hj;exact .inr ⟨e,hj⟩
 have hlen:0<cs.length:=List.length_pos_iff.2 dt
 obtain ⟨y0,Vi,_⟩:=hC 0 cs[0] (by simp [hlen])
 obtain ⟨C,e',lo,hi,hw⟩:∃C e' lo hi,w.heap[b]? =some (.cells C e' (lo,hi)):=by
  unfold World.cell? at Vi
  split at Vi
  · rename_i C e' fz hw;obtain ⟨lo,hi⟩:=fz;exact ⟨C,e',lo,hi,hw⟩
  · cases Vi
 have Et:∀k,w.cell? ⟨b,off+k,none⟩=C[off+k]? :=fun k=>by simp [World.cell?,hw]
 refine ⟨h',hn,⟨fun i m hm=>?_,by rw[O1];exact Nat.le_succ_of_le ok.nx,fun g hg=>hle _ _ (ok.qI g hg),fun j p m hj hm=>?_,fun j k p q m n hj hk hm oE hw hb=>?_⟩,hle,fun j p hj=>?_,O1,vo,hold,fN⟩
 · rw[O1]
   by_cases e:i=h.nx
   · omega
   · rw[iA i e] at hm;have:=ok.uJ i m hm;omega
 · rcases eZ j p hj with ⟨rfl,rfl⟩ | ⟨zo,nJ⟩
   · rw[fN] at hm;simp at hm;subst hm
     refine ⟨C,e',lo,hi,hw,?_,fun k x hk=>?_,(fun h=>by cases h),fun _ m hm=>absurd hm (hz m)⟩
     · obtain ⟨y,hy,_⟩:=hC (cs.length - 1) cs[cs.length - 1] (List.getElem?_eq_getElem (by omega))
       rw[Et] at hy
       have:=(Array.getElem?_eq_some_iff.1 hy).1
       simp only[ei,Nat.zero_mul]
       omega
     · obtain ⟨y,hy,hv⟩:=hC k x hk
       rw[Et] at hy
       exact ⟨y,hy,hv.mono hle⟩
   · rw[iA j zo] at hm
     exact (ok.live j p m nJ hm).mono hle
 · rcases eZ j p hj with ⟨rfl,rfl⟩ | ⟨Vj,nJ⟩<;>rcases eZ k q hk with ⟨rfl,rfl⟩ | ⟨Vk,AN⟩
   · rfl
   · rw[Hu k q AN] at hw;rcases hw with h | h<;>cases h
   · rw[Hu j p nJ] at hw;rcases hw with h | h<;>cases h
   · rw[iA j Vj] at hm;rw[iA k Vk] at oE;exact ok.inj _ _ _ _ _ _ nJ AN hm oE hw hb
 · rcases eZ j p hj with ⟨_,rfl⟩ | ⟨_,nJ⟩
   · rfl
   · exact Hu j p nJ
theorem sa.begin {G:Nat} {l:List Lw}:sa (jz G l):=fun i o h=>by
 obtain ⟨x,_,_,rfl⟩:=n5 h;rfl
theorem Af {f:FuncId} {W1:List AV} {h h':aq} (r:ju E f W1 h (.bool true) h') {φ:Ph} {w:World} {vs:List Value} (ok:OK E φ h w) (hl:LR φ W1 vs) (Hu:sa h):
 Calls E.P f vs.toArray w fun en w'=>en= .returned (.bool true)∧w.keptBut w' (fun _=>False):=fun cs=>by
 obtain ⟨_,gZ⟩:=r φ w vs ok hl
 obtain ⟨φ',w',v',fr,hv,_,oF,h1,h2,h3⟩:=gZ cs
 cases hv
 refine ⟨.returned (.bool true),w',fr,⟨rfl,oF.os,oF.output,fun i hi=>?_⟩,h1,h2,h3⟩
 rw[oF.xC i hi (fun j o l' q1 q2 _=>by rw[Hu j o q1] at q2;cases q2)]
 cases w.heap[i]? with
 | none=>rfl
 | some o=>cases o with
   | cells c t fz=>exact ⟨rfl,rfl,rfl,fun _ _=>rfl⟩
   | map es c=>exact .inr ⟨rfl,rfl⟩
   | _=>rfl
section
variable {H:Type} {enc:TypeId×Value→H} {w:World} {base:Nat} {spare:Nat→Bool} {held:Bool} {fuel:Nat} {t:TypeId} {x:DataW H×List MemPlace}
end
section
variable {H:Type} {enc:TypeId×Value→H} {P:Program} {w w':World}
theorem wi (hk:w.keptBut w' (fun _=>False)) {p:MemPlace} (hp:p.block<w.heap.size):w.sameAt w' p:=by
 have h:=hk.block hp (fun _ h=>h.elim)
 cases p with
 | cell b off=>simp only[World.sameAt,World.cell?];rw[show w'.heap[b]? =w.heap[b]? from h]
 | map b=>exact h
theorem yI (hl:laidOutB P=true) (hk:w.keptBut w' (fun _=>False)):∀{ts:List TypeId} {vs:List Value} {ds:List (DataW H)} {ps:List MemPlace},(∀t∈ts,P.readableRec t=true∧t<P.types.size)→
 DataW.TrodAll enc P w 0 (fun _=>true) true ts vs ds ps→DataW.TrodAll enc P w' 0 (fun b=>decide (b<w.heap.size)) true ts vs ds ps
 | [],vs,ds,ps,_,h=>by
   obtain ⟨rfl,rfl,rfl⟩:=trodAll_nil h
   exact trodAll_mk0
 | t::ts,vs,ds,ps,hr,h=>by
   have jT:=DataW.TrodAll.lt h
   obtain ⟨v,nM,d,tg,p,p',rfl,rfl,rfl,⟨n,h1⟩,h2⟩:=trodAll_cons h
   obtain ⟨h3,h4⟩:=hr t (by simp)
   refine trodAll_cons_mk ⟨n,?_⟩ (yI hl hk (fun t ht=>hr t (by simp [ht])) h2)
   exact DataW.trod_stays (kids_book hl h3) (book_sized h3) (fun h=>by cases h) ⟨h4,book_self t⟩ h1 (fun q hq=>wi hk (jT q (by simp [hq]))) (fun q hq=>by simpa using jT q (by simp [hq]))
end
end Go.Ab
end
section
namespace Go.Ab
variable {E:Env}
end Go.Ab
end
section
namespace Go.Ab
variable {E:Env} {call:aY}
def Ev (E:Env) (call:aY) (c:Code) (s:St) (e:iS) (s':St):Prop:=∃n0,∀n,n0≤n→exec E call n c s= .ok e s'
theorem Ev.of {c:Code} {s:St} {e:iS} {s':St} (h:∀n,exec E call (n+1) c s= .ok e s'):Ev E call c s e s':=⟨1,fun n hn=>by
 obtain ⟨k,rfl⟩:∃k,n=k+1:=⟨n - 1,by omega⟩
 exact h k⟩
theorem Ev.seq {a b:Code} {s s1 s':St} {e:iS} (h1:Ev E call a s .normal s1) (h2:Ev E call b s1 e s'):Ev E call (.seq a b) s e s':=by
 obtain ⟨n1,h1⟩:=h1
 obtain ⟨n2,h2⟩:=h2
 refine ⟨n1+n2+1,fun n hn=>?_⟩
 obtain ⟨k,rfl⟩:∃k,n=k+1:=⟨n - 1,by omega⟩
 rw[M5,h1 k (by omega),uo]
 exact h2 k (by omega)
theorem Ev.seq' {a b:Code} {s s':St} {e:iS} (he:e≠ .normal) (h1:Ev E call a s e s'):Ev E call (.seq a b) s e s':=by
 obtain ⟨n1,h1⟩:=h1
 refine ⟨n1+1,fun n hn=>?_⟩
 obtain ⟨k,rfl⟩:∃k,n=k+1:=⟨n - 1,by omega⟩
 rw[M5,h1 k (by omega)]
 cases e with
 | normal=>exact absurd rfl he
 | _=>rfl
theorem Ev.loop {b:Code} {s s1 s':St} {e:iS} (h1:Ev E call b s .normal s1) (h2:Ev E call (.loop b) s1 e s'):Ev E call (.loop b) s e s':=by
 obtain ⟨n1,h1⟩:=h1
 obtain ⟨n2,h2⟩:=h2
 refine ⟨n1+n2+1,fun n hn=>?_⟩
 obtain ⟨k,rfl⟩:∃k,n=k+1:=⟨n - 1,by omega⟩
 rw[IM,h1 k (by omega),uo]
 exact h2 k (by omega)
theorem Ev.exit {b:Code} {s s':St} {e:iS} (he:e≠ .normal) (h1:Ev E call b s e s'):Ev E call (.loop b) s e s':=by
 obtain ⟨n1,h1⟩:=h1
 refine ⟨n1+1,fun n hn=>?_⟩
 obtain ⟨k,rfl⟩:∃k,n=k+1:=⟨n - 1,by omega⟩
 rw[IM,h1 k (by omega)]
 cases e with
 | normal=>exact absurd rfl he
 | _=>rfl
theorem Ev.ret {b:Code} {s s':St} (h1:Ev E call b s .ret s'):Ev E call (.loop b) s .ret s':=Ev.exit (by simp) h1
theorem Ev.out {b:Code} {s s':St} {i:Nat} (h1:Ev E call b s (.exit i) s'):Ev E call (.loop b) s (.exit i) s':=Ev.exit (by simp) h1
inductive md where
 | c
 | v (x:AV)
 | q (x:AV)
 | m (x:AV)
 | n (h:aq)
 | a (obj:aP) (x:AV) (h:aq)
 | e (x:AV) (h:aq)
 | p (x:AV) (h:aq)
 | b (x:Bool)
 | l (e:iS) (s:St)
def jV:List Prop→Prop
 | []=>True
 | p::ps=>p∧jV ps
inductive R where
 | bad
 | at (e:iS) (s:St) (as:List md) (ps:List Prop)
def R.go (k:St→List md→List Prop→R):R→R
 | .at .normal s as ps=>k s as ps
 | r=>r
theorem R.RJ {k:St→List md→List Prop→R} {r:R} {e:iS} {s:St} {as:List md} {ps:List Prop} (h:r.go k= .at e s as ps):(∃s1 qe ox,r= .at .normal s1 qe ox∧k s1 qe ox= .at e s as ps)∨(r= .at e s as ps∧e≠ .normal):=by
 unfold R.go at h
 split at h
 · exact .inl ⟨_,_,_,rfl,h⟩
 · rename_i dt
   refine .inr ⟨h,fun he=>?_⟩
   subst he;exact dt _ _ _ h
def RK (E:Env) (ts:List AV):List Operand→List TypeId→Option AV
 | [x],[t]=>dU (E.P.underlying t) (dr E ts x)
 | _,_=>none
def Eu (c a b:Option AV):Option AV:=match c with
 | some (.bool true)=>a
 | some (.bool false)=>b
 | _=>none
theorem LM {ts:List AV} (c a b:Operand):bm E ts (.pick c a b)=Eu (dr E ts c) (dr E ts a) (dr E ts b):=by
 simp only[bm]
 generalize dr E ts c=x
 cases x with
 | none=>rfl
 | some v=>cases v with
   | bool b=>cases b<;>rfl
   | _=>rfl
theorem aM {c:Bool} {a b:Option AV} (h:c=true):Eu (some (.bool c)) a b=a:=by rw[h];rfl
theorem aL {c:Bool} {a b:Option AV} (h:c=false):Eu (some (.bool c)) a b=b:=by rw[h];rfl
def LN (E:Env) (ts:List AV) (op:Op):Option AV:=match op with
 | .indexAddr t x i=>ep E (E.P.underlying t) (dr E ts x) (dr E ts i)
 | .index t x i=>n7 E (E.P.underlying t) (dr E ts x) (dr E ts i)
 | .binOp op t x y _=>dX E op t (isConst x) (isConst y) (dr E ts x) (dr E ts y)
 | .pick c a b=>Eu (dr E ts c) (dr E ts a) (dr E ts b)
 | .call c=>match c.callee with
   | .builtin .len=>RK E ts c.args.toList c.argTypes.toList
   | _=>none
 | _=>none
theorem wj {α:Type} {a:Array α} {l:List α} (h:a.toList=l):a=l.toArray:=by rw[←h]
theorem Ew {ts:List AV} {op:Op} {v:AV} (e:LN E ts op=some v):bm E ts op=some v:=by
 unfold LN at e
 split at e
 · rw[←BQ] at e;exact e
 · rw[←LK] at e;exact e
 · rename_i o t x y t';exact (Lz o t t' x y).trans e
 · rename_i c a b;exact (LM c a b).trans e
 · rename_i c
   obtain ⟨cl,args,tys⟩:=c
   simp only at e
   split at e
   · unfold RK at e
     split at e
     · rename_i x t hx ht
       rw[wj hx,wj ht]
       exact (RI x t).trans e
     · cases e
   · cases e
 · cases e
noncomputable def IT (E:Env) (ts:List AV) (h:aq) (op:Op):Option AV:=match op with
 | .load t x=>OY (dr E ts x) (b9 E h t) none
 | op=>c9 E ts h op
theorem Ag {ts:List AV} {h:aq} {op:Op} {v:AV} (e:IT E ts h op=some v):c9 E ts h op=some v:=by
 unfold IT at e
 split at e
 · rw[OZ];exact e
 · exact e
def RL (E:Env) (d:Option TypeDesc) (l c:Option AV):Option (aP×(Nat→AV)):=match d,l,c with
 | some (.slice elem),some (.int _ len),some (.int _ cap)=>match bY E elem,im E elem,eW E elem with
   | some n,some bytes,some z=>
     if 0≤len∧len≤cap∧cap<2^30∧(bytes:Int)*cap≤2^47∧z.cells.length=n then
      some (.cells (eN z.cells cap.toNat) elem false,fun i=> .slice i 0 len.toNat cap.toNat false)
     else none
   | _,_,_=>none
 | _,_,_=>none
def LO (E:Env) (ts:List AV) (op:Op):Option (aP×(Nat→AV)):=match op with
 | .makeSlice t l c=>RL E (E.P.underlying t) (dr E ts l) (dr E ts c)
 | op=>dj E ts op
theorem Ex (ts:List AV) (op:Op):LO E ts op=dj E ts op:=by
 unfold LO
 split
 · rename_i t l c
   simp only[dj]
   generalize E.P.underlying t=d
   generalize dr E ts l=x
   generalize dr E ts c=y
   rfl
 · rfl
noncomputable def LP (E:Env) (call:aY) (ts:List AV) (h:aq) (rc:RC) (o:Oper) (x:AV) (h':aq):Prop:=match o.op with
 | .store t a v=>match dr E ts a,dr E ts v with
   | some a,some v=>x=AV.undef∧fE E h t a v=some h'
   | _,_=>False
 | .call c=>match c.callee with
   | .builtin .append=>match eF E ts c.args.toList with
     | some [s,y]=>bN E h c.argTypes s y=some (x,h')
     | _=>False
   | .builtin .copy=>match eF E ts c.args.toList with
     | some [s,y]=>qt E h c.argTypes s y=some (x,h')
     | _=>False
   | .value _=>match callee E ts c with
     | some (f,args)=>match hT E f with
       | some g=>g args h=some (x,h')
       | none=>call f args h= .ret x h'
     | none=>False
   | _=>cD E call ts h rc o= .val x h'
 | .convert src dst y=>ye E h src dst (dr E ts y)=some (x,h')
 | _=>cD E call ts h rc o= .val x h'
theorem Ey {ts:List AV} {h:aq} {rc:RC} {o:Oper} {x:AV} {h':aq} (e:LP E call ts h rc o x h'):cD E call ts h rc o= .val x h':=by
 unfold LP at e
 split at e
 · rename_i t a v ho
   split at e
   · rename_i a' v' h1 h2
     obtain ⟨rfl,e⟩:=e
     unfold cD
     simp only[ho,h1,h2,e]
   · exact e.elim
 · rename_i c ho
   split at e
   · rename_i hc
     split at e
     · rename_i h1
       unfold cD
       simp only[ho,hc,h1,e]
     · exact e.elim
   · rename_i hc
     split at e
     · rename_i h1
       unfold cD
       simp only[ho,hc,h1,e]
     · exact e.elim
   · rename_i hc
     split at e
     · rename_i h1
       split at e
       · rename_i h2
         unfold cD
         simp only[ho,hc,h1,h2,e]
       · rename_i h2
         unfold cD
         simp only[ho,hc,h1,h2,e]
     · exact e.elim
   · exact e
 · rename_i src dst y ho
   unfold cD
   simp only[ho,e]
 · exact e
def FT {β:Type} (k:List AV→β):List AV→Nat→AV→β
 | [],_,_=>k []
 | _::xs,0,v=>k (v::xs)
 | x::xs,d+1,v=>FT (fun ys=>k (x::ys)) xs d v
theorem Ah {β:Type}:∀(k:List AV→β) (ts:List AV) (d:Nat) (v:AV),FT k ts d v=k (ts.set d v)
 | k,[],_,_=>by simp [FT]
 | k,_::xs,0,v=>rfl
 | k,x::xs,d+1,v=>by rw[FT,Ah];rfl
def py (s:St) (d:Option Tmp) (v:AV) (h:aq) (as:List md) (ps:List Prop):R:=match d with
 | some i=>FT (fun ts=> .at .normal ⟨ts,h,s.ds,s.rc⟩ as ps) s.ts i v
 | none=> .at .normal ⟨s.ts,h,s.ds,s.rc⟩ as ps
theorem kE (s:St) (d:Option Tmp) (v:AV) (h:aq) (as:List md) (ps:List Prop):Go.Ab.py s d v h as ps= .at .normal {s with ts:=cU s.ts d v,h:=h} as ps:=by
 cases d with
 | none=>rfl
 | some i=>exact Ah _ _ _ _
noncomputable def BR (E:Env) (call:aY) (o:Oper) (s:St) (as:List md) (ps:List Prop):R:=match as with
 | .c::as=>match bm E s.ts o.op with
   | some v=>py s o.dst v s.h as ps
   | none=> .bad
 | .v x::as=>py s o.dst x s.h as ((LN E s.ts o.op=some x)::ps)
 | .q x::as=>py s o.dst x s.h as ((bm E s.ts o.op=some x)::ps)
 | .m x::as=>match bm E s.ts o.op with
   | none=>py s o.dst x s.h as ((IT E s.ts s.h o.op=some x)::ps)
   | some _=> .bad
 | .n h'::as=>match bm E s.ts o.op,c9 E s.ts s.h o.op,dj E s.ts o.op with
   | none,none,some (obj,mk)=>py s o.dst (mk s.h.nx) h' as ((s.h.new obj=some h')::ps)
   | _,_,_=> .bad
 | .a obj x h'::as=>match bm E s.ts o.op,c9 E s.ts s.h o.op with
   | none,none=>py s o.dst x h' as ((∃mk,LO E s.ts o.op=some (obj,mk)∧mk s.h.nx=x)::(s.h.new obj=some h')::ps)
   | _,_=> .bad
 | .e x h'::as=>match bm E s.ts o.op,c9 E s.ts s.h o.op,dj E s.ts o.op with
   | none,none,none=>py s o.dst x h' as (LP E call s.ts s.h s.rc o x h'::ps)
   | _,_,_=> .bad
 | .p x h'::as=>match bm E s.ts o.op,c9 E s.ts s.h o.op,dj E s.ts o.op with
   | none,none,none=> .at (.panic x) {s with h:=h'} as ((cD E call s.ts s.h s.rc o= .panic x h')::ps)
   | _,_,_=> .bad
 | _=> .bad
theorem ur {o:Oper} {s:St} {as:List md} {ps:List Prop} {e:iS} {s':St} {rq:List md} {oD:List Prop} (hr:BR E call o s as ps= .at e s' rq oD) (hp:jV oD):jV ps∧zk E call s o= .ok e s':=by
 have seen:∀{x:AV},(bm E s.ts o.op=some x∨(bm E s.ts o.op=none∧c9 E s.ts s.h o.op=some x))→zk E call s o= .ok .normal {s with ts:=cU s.ts o.dst x}:=by
  rintro x (h | ⟨h1,h2⟩)<;>unfold zk
  · rw[h]
  · rw[h1,h2]
 unfold BR at hr
 split at hr
 · split at hr
   · rename_i v hv
     rw[kE] at hr;cases hr
     exact ⟨hp,seen (.inl hv)⟩
   · cases hr
 · rw[kE] at hr;cases hr
   exact ⟨hp.2,seen (.inl (Ew hp.1))⟩
 · rw[kE] at hr;cases hr
   exact ⟨hp.2,seen (.inl hp.1)⟩
 · split at hr
   · rename_i h1
     rw[kE] at hr;cases hr
     exact ⟨hp.2,seen (.inr ⟨h1,Ag hp.1⟩)⟩
   · cases hr
 · split at hr
   · rename_i h1 h2 h3
     rw[kE] at hr;cases hr
     refine ⟨hp.2,?_⟩
     unfold zk
     simp only[h1,h2,h3,hp.1]
   · cases hr
 · split at hr
   · rename_i h1 h2
     rw[kE] at hr;cases hr
     obtain ⟨⟨mk,h3,h4⟩,h5,hp⟩:=hp
     rw[Ex] at h3
     refine ⟨hp,?_⟩
     unfold zk
     simp only[h1,h2,h3,h4,h5]
   · cases hr
 · split at hr
   · rename_i h1 h2 h3
     rw[kE] at hr;cases hr
     refine ⟨hp.2,?_⟩
     unfold zk
     simp only[h1,h2,h3,Ey hp.1]
   · cases hr
 · split at hr
   · rename_i h1 h2 h3
     cases hr
     refine ⟨hp.2,?_⟩
     unfold zk
     simp only[h1,h2,h3,hp.1]
   · cases hr
 · cases hr
inductive Gd where
 | yes
 | no
 | ask (v want:Bool)
def BS (want:Bool):Option AV→Gd
 | some (.bool v)=> .ask v want
 | _=> .no
def Ai (ops:Array Oper) (ts:List AV) (g:Option (Nat×Bool)):Gd:=match g with
 | none=> .yes
 | some (j,want)=>match (ops[j]?).bind (·.dst) with
   | none=> .no
   | some d=>BS want ts[d]?
theorem yJ (ops:Array Oper) (ts:List AV) (o:Oper):b_ ops ts o=(match Ai ops ts o.guard with
 | .yes=>true
 | .no=>false
 | .ask v want=>v==want):=by
 unfold b_ Ai
 cases o.guard with
 | none=>rfl
 | some q=>
   obtain ⟨j,want⟩:=q
   simp only
   cases (ops[j]?).bind (·.dst) with
   | none=>rfl
   | some d=>
     simp only
     generalize ts[d]? =y
     unfold BS
     cases y with
     | none=>rfl
     | some z=>cases z<;>rfl
noncomputable def mP (E:Env) (call:aY) (ops:Array Oper):List Oper→St→List md→List Prop→R
 | [],s,as,ps=> .at .normal s as ps
 | o::rest,s,as,ps=>match Ai ops s.ts o.guard with
   | .yes=>(BR E call o s as ps).go (mP E call ops rest)
   | .no=>(py s o.dst AV.undef s.h as ps).go (mP E call ops rest)
   | .ask v want=>match as with
     | .b x::as=>bif x==want then (BR E call o s as ((v=x)::ps)).go (mP E call ops rest) else (py s o.dst AV.undef s.h as ((v=x)::ps)).go (mP E call ops rest)
     | _=> .bad
theorem se {ops:Array Oper}:∀(l:List Oper) (s:St) (as:List md) (ps:List Prop) (e:iS) (s':St) (rq:List md) (oD:List Prop),mP E call ops l s as ps= .at e s' rq oD→jV oD→jV ps∧iu E call ops l s= .ok e s'
 | [],s,as,ps,e,s',rq,oD,hr,hp=>by cases hr;exact ⟨hp,rfl⟩
 | o::rest,s,as,ps,e,s',rq,oD,hr,hp=>by
   have ih:=se (ops:=ops) rest
   have O2:∀(qe:List md) (ox:List Prop),(BR E call o s qe ox).go (mP E call ops rest)= .at e s' rq oD→jV ox∧(b_ ops s.ts o=true→iu E call ops (o::rest) s= .ok e s'):=by
    intro qe ox h
    rcases R.RJ h with ⟨s1,Kq,Mw,h1,h2⟩ | ⟨h1,dt⟩
    · obtain ⟨h3,h4⟩:=ih _ _ _ _ _ _ _ h2 hp
      obtain ⟨h5,h6⟩:=ur h1 h3
      refine ⟨h5,fun hw=>?_⟩
      unfold iu
      rw[if_pos hw,h6];exact h4
    · obtain ⟨h5,h6⟩:=ur h1 hp
      refine ⟨h5,fun hw=>?_⟩
      unfold iu
      rw[if_pos hw,h6]
      cases e with
      | normal=>exact absurd rfl dt
      | _=>rfl
   have O3:∀(qe:List md) (ox:List Prop),(py s o.dst AV.undef s.h qe ox).go (mP E call ops rest)= .at e s' rq oD→jV ox∧(b_ ops s.ts o=false→iu E call ops (o::rest) s= .ok e s'):=by
    intro qe ox h
    rw[kE] at h
    obtain ⟨h3,h4⟩:=ih _ _ _ _ _ _ _ (show mP E call ops rest _ qe ox=_ from h) hp
    refine ⟨h3,fun hw=>?_⟩
    unfold iu
    rw[if_neg (by rw[hw];exact Bool.false_ne_true)]
    exact h4
   have hg:=yJ ops s.ts o
   unfold mP at hr
   split at hr
   · rename_i h1;rw[h1] at hg;exact ⟨(O2 _ _ hr).1,(O2 _ _ hr).2 hg⟩
   · rename_i h1;rw[h1] at hg;exact ⟨(O3 _ _ hr).1,(O3 _ _ hr).2 hg⟩
   · rename_i v want h1
     rw[h1] at hg
     split at hr
     · rename_i x qe
       cases hx:x==want with
       | true=>
         rw[hx] at hr
         obtain ⟨⟨h2,h3⟩,h4⟩:=O2 _ _ hr
         exact ⟨h3,h4 (by rw[hg,h2];exact hx)⟩
       | false=>
         rw[hx] at hr
         obtain ⟨⟨h2,h3⟩,h4⟩:=O3 _ _ hr
         exact ⟨h3,h4 (by rw[hg,h2];exact hx)⟩
     · cases hr
inductive RT where
 | bad
 | ok (tr:List Step) (hs:List aq) (s:St) (as:List md) (ps:List Prop)
def RT.step (x:Step):RT→RT
 | .ok tr hs s as ps=> .ok (x::tr) hs s as ps
 | .bad=> .bad
def RT.bound (x:Step) (h:aq):RT→RT
 | .ok tr hs s as ps=> .ok (x::tr) (h::hs) s as ps
 | .bad=> .bad
def RT.put (s:St) (d:Option Tmp) (v:AV) (h:aq) (k:St→RT):RT:=match d with
 | some i=>FT (fun ts=>k ⟨ts,h,s.ds,s.rc⟩) s.ts i v
 | none=>k ⟨s.ts,h,s.ds,s.rc⟩
theorem RT.put_eq (s:St) (d:Option Tmp) (v:AV) (h:aq) (k:St→RT):RT.put s d v h k=k {s with ts:=cU s.ts d v,h:=h}:=by
 cases d with
 | none=>rfl
 | some i=>exact Ah _ _ _ _
noncomputable def BT (E:Env) (call:aY) (i k:Nat) (o:Oper) (s:St) (as:List md) (ps:List Prop) (go:Nat→St→List md→List Prop→RT):RT:=match as with
 | .e x h'::as=>(RT.put s o.dst x h' fun s'=>go (k+1) s' as (LP E call s.ts s.h s.rc o x h'::ps)).bound ⟨i,k,s.ts,x,.qi h'⟩ s.h
 | _=> .bad
noncomputable def BU (E:Env) (i k:Nat) (o:Oper) (s:St) (as:List md) (ps:List Prop) (go:Nat→St→List md→List Prop→RT):RT:=match as with
 | .c::as=>match bm E s.ts o.op with
   | some v=>(RT.put s o.dst v s.h fun s'=>go k s' as ps).step ⟨i,k,s.ts,v,.fi⟩
   | none=> .bad
 | .v x::as=>(RT.put s o.dst x s.h fun s'=>go k s' as ((LN E s.ts o.op=some x)::ps)).step ⟨i,k,s.ts,x,.fi⟩
 | .q x::as=>(RT.put s o.dst x s.h fun s'=>go k s' as ((bm E s.ts o.op=some x)::ps)).step ⟨i,k,s.ts,x,.fi⟩
 | .m x::as=>match bm E s.ts o.op with
   | none=>(RT.put s o.dst x s.h fun s'=>go k s' as ((IT E s.ts s.h o.op=some x)::ps)).step ⟨i,k,s.ts,x,.red⟩
   | some _=> .bad
 | .n h'::as=>match bm E s.ts o.op,c9 E s.ts s.h o.op,dj E s.ts o.op with
   | none,none,some (obj,mk)=>(RT.put s o.dst (mk s.h.nx) h' fun s'=>go k s' as ((s.h.new obj=some h')::ps)).step ⟨i,k,s.ts,mk s.h.nx,.oW s.h.nx obj⟩
   | _,_,_=> .bad
 | .a obj x h'::as=>match bm E s.ts o.op,c9 E s.ts s.h o.op with
   | none,none=>(RT.put s o.dst x h' fun s'=>go k s' as ((∃mk,LO E s.ts o.op=some (obj,mk)∧mk s.h.nx=x)::(s.h.new obj=some h')::ps)).step ⟨i,k,s.ts,x,.oW s.h.nx obj⟩
   | _,_=> .bad
 | _=> .bad
noncomputable def runT (E:Env) (call:aY) (ops:Array Oper):List Nat→Nat→St→List md→List Prop→RT
 | [],_,s,as,ps=> .ok [] [s.h] s as ps
 | i::rest,k,s,as,ps=>match ops[i]? with
   | none=> .bad
   | some o=>match Ai ops s.ts o.guard with
     | .yes=>bif eg E o.op then BT E call i k o s as ps (runT E call ops rest) else BU E i k o s as ps (runT E call ops rest)
     | .no=>bif eg E o.op then (RT.put s o.dst AV.undef s.h fun s'=>runT E call ops rest (k+1) s' as ps).bound ⟨i,k,s.ts,AV.undef,.off⟩ s.h else (RT.put s o.dst AV.undef s.h fun s'=>runT E call ops rest k s' as ps).step ⟨i,k,s.ts,AV.undef,.off⟩
     | .ask v want=>match as with
       | .b x::as=>bif x==want then (bif eg E o.op then BT E call i k o s as ((v=x)::ps) (runT E call ops rest) else BU E i k o s as ((v=x)::ps) (runT E call ops rest))
         else (bif eg E o.op then (RT.put s o.dst AV.undef s.h fun s'=>runT E call ops rest (k+1) s' as ((v=x)::ps)).bound ⟨i,k,s.ts,AV.undef,.off⟩ s.h else (RT.put s o.dst AV.undef s.h fun s'=>runT E call ops rest k s' as ((v=x)::ps)).step ⟨i,k,s.ts,AV.undef,.off⟩)
       | _=> .bad
theorem RT.n8 {x:Step} {r:RT} {tr:List Step} {hs:List aq} {s:St} {as:List md} {ps:List Prop} (h:r.step x= .ok tr hs s as ps):∃Cw,tr=x::Cw∧r= .ok Cw hs s as ps:=by
 cases r with
 | bad=>cases h
 | ok a b c d e=>cases h;exact ⟨_,rfl,rfl⟩
theorem RT.BV {x:Step} {g:aq} {r:RT} {tr:List Step} {hs:List aq} {s:St} {as:List md} {ps:List Prop} (h:r.bound x g= .ok tr hs s as ps):∃Cw nL,tr=x::Cw∧hs=g::nL∧r= .ok Cw nL s as ps:=by
 cases r with
 | bad=>cases h
 | ok a b c d e=>cases h;exact ⟨_,_,rfl,rfl,rfl⟩
theorem wk {ops:Array Oper}:∀(l:List Nat) (k:Nat) (s:St) (as:List md) (ps:List Prop) (tr:List Step) (hs:List aq) (s':St) (rq:List md) (oD:List Prop),
 runT E call ops l k s as ps= .ok tr hs s' rq oD→jV oD→jV ps∧ct E call ops l k s= .ok tr hs s'
 | [],k,s,as,ps,tr,hs,s',rq,oD,hr,hp=>by cases hr;exact ⟨hp,rfl⟩
 | i::rest,k,s,as,ps,tr,hs,s',rq,oD,hr,hp=>by
   have ih:=wk (ops:=ops) rest
   unfold runT at hr
   split at hr
   · cases hr
   rename_i o hi
   have hE:∀{qe:List md} {ox:List Prop},eg E o.op=true→BT E call i k o s qe ox (runT E call ops rest)= .ok tr hs s' rq oD→jV ox∧(b_ ops s.ts o=true→ct E call ops (i::rest) k s= .ok tr hs s'):=by
    intro qe ox he h
    unfold BT at h
    split at h
    · rename_i x h' Kq
      rw[RT.put_eq] at h
      obtain ⟨D1,oN,rfl,rfl,h9⟩:=RT.BV h
      obtain ⟨h1,h2⟩:=ih _ _ _ _ _ _ _ _ _ h9 hp
      refine ⟨h1.2,fun hw=>?_⟩
      unfold ct
      simp only[hi,he,hw,if_true,Ey h1.1,h2]
      rfl
    · cases h
   have hN:∀{qe:List md} {ox:List Prop},eg E o.op=false→BU E i k o s qe ox (runT E call ops rest)= .ok tr hs s' rq oD→jV ox∧(b_ ops s.ts o=true→ct E call ops (i::rest) k s= .ok tr hs s'):=by
    intro qe ox he h
    unfold BU at h
    split at h
    · split at h
      · rename_i v hv
        rw[RT.put_eq] at h
        obtain ⟨D1,rfl,h9⟩:=RT.n8 h
        obtain ⟨h1,h2⟩:=ih _ _ _ _ _ _ _ _ _ h9 hp
        refine ⟨h1,fun hw=>?_⟩
        unfold ct
        simp only[hi,he,hw,if_true,hv,Bool.false_eq_true,if_false]
        rw[h2]
        rfl
      · cases h
    · rw[RT.put_eq] at h
      obtain ⟨D1,rfl,h9⟩:=RT.n8 h
      obtain ⟨h1,h2⟩:=ih _ _ _ _ _ _ _ _ _ h9 hp
      refine ⟨h1.2,fun hw=>?_⟩
      unfold ct
      simp only[hi,he,hw,if_true,Ew h1.1,Bool.false_eq_true,if_false]
      rw[h2]
      rfl
    · rw[RT.put_eq] at h
      obtain ⟨D1,rfl,h9⟩:=RT.n8 h
      obtain ⟨h1,h2⟩:=ih _ _ _ _ _ _ _ _ _ h9 hp
      refine ⟨h1.2,fun hw=>?_⟩
      unfold ct
      simp only[hi,he,hw,if_true,h1.1,Bool.false_eq_true,if_false]
      rw[h2]
      rfl
    · split at h
      · rename_i hv
        rw[RT.put_eq] at h
        obtain ⟨D1,rfl,h9⟩:=RT.n8 h
        obtain ⟨h1,h2⟩:=ih _ _ _ _ _ _ _ _ _ h9 hp
        refine ⟨h1.2,fun hw=>?_⟩
        unfold ct
        simp only[hi,he,hw,if_true,hv,Ag h1.1,Bool.false_eq_true,if_false]
        rw[h2]
        rfl
      · cases h
    · split at h
      · rename_i q1 q2 q3
        rw[RT.put_eq] at h
        obtain ⟨D1,rfl,h9⟩:=RT.n8 h
        obtain ⟨h1,h2⟩:=ih _ _ _ _ _ _ _ _ _ h9 hp
        refine ⟨h1.2,fun hw=>?_⟩
        unfold ct
        simp only[hi,he,hw,if_true,q1,q2,q3,h1.1,Bool.false_eq_true,if_false,h2]
        rfl
      · cases h
    · split at h
      · rename_i q1 q2
        rw[RT.put_eq] at h
        obtain ⟨D1,rfl,h9⟩:=RT.n8 h
        obtain ⟨h1,h2⟩:=ih _ _ _ _ _ _ _ _ _ h9 hp
        obtain ⟨⟨mk,h3,h4⟩,h5,h6⟩:=h1
        rw[Ex] at h3
        subst h4
        refine ⟨h6,fun hw=>?_⟩
        unfold ct
        simp only[hi,he,hw,if_true,q1,q2,h3,h5,Bool.false_eq_true,if_false,h2]
        rfl
      · cases h
    · cases h
   have hO:∀{qe:List md} {ox:List Prop},(bif eg E o.op then (RT.put s o.dst AV.undef s.h fun s'=>runT E call ops rest (k+1) s' qe ox).bound ⟨i,k,s.ts,AV.undef,.off⟩ s.h else (RT.put s o.dst AV.undef s.h fun s'=>runT E call ops rest k s' qe ox).step ⟨i,k,s.ts,AV.undef,.off⟩)= .ok tr hs s' rq oD→
    jV ox∧(b_ ops s.ts o=false→ct E call ops (i::rest) k s= .ok tr hs s'):=by
    intro qe ox h
    cases he:eg E o.op with
    | true=>
      rw[he,cond_true,RT.put_eq] at h
      obtain ⟨D1,oN,rfl,rfl,h9⟩:=RT.BV h
      obtain ⟨h1,h2⟩:=ih _ _ _ _ _ _ _ _ _ h9 hp
      refine ⟨h1,fun hw=>?_⟩
      unfold ct
      simp only[hi,he,hw,if_true,Bool.false_eq_true,if_false]
      rw[h2]
      rfl
    | false=>
      rw[he,cond_false,RT.put_eq] at h
      obtain ⟨D1,rfl,h9⟩:=RT.n8 h
      obtain ⟨h1,h2⟩:=ih _ _ _ _ _ _ _ _ _ h9 hp
      refine ⟨h1,fun hw=>?_⟩
      unfold ct
      simp only[hi,he,hw,Bool.false_eq_true,if_false]
      rw[h2]
      rfl
   have hY:∀{qe:List md} {ox:List Prop},(bif eg E o.op then BT E call i k o s qe ox (runT E call ops rest) else BU E i k o s qe ox (runT E call ops rest))= .ok tr hs s' rq oD→
    jV ox∧(b_ ops s.ts o=true→ct E call ops (i::rest) k s= .ok tr hs s'):=by
    intro qe ox h
    cases he:eg E o.op with
    | true=>rw[he] at h;exact hE he h
    | false=>rw[he] at h;exact hN he h
   have hg:=yJ ops s.ts o
   split at hr
   · rename_i h1;rw[h1] at hg;exact ⟨(hY hr).1,(hY hr).2 hg⟩
   · rename_i h1;rw[h1] at hg;exact ⟨(hO hr).1,(hO hr).2 hg⟩
   · rename_i v want h1
     rw[h1] at hg
     split at hr
     · rename_i x qe
       cases hx:x==want with
       | true=>
         rw[hx] at hr
         obtain ⟨⟨h2,h3⟩,h4⟩:=hY hr
         exact ⟨h3,h4 (by rw[hg,h2];exact hx)⟩
       | false=>
         rw[hx] at hr
         obtain ⟨⟨h2,h3⟩,h4⟩:=hO hr
         exact ⟨h3,h4 (by rw[hg,h2];exact hx)⟩
     · cases hr
noncomputable def Dg (E:Env) (ops:Array Oper) (x:Step) (h:aq) (ps:List Prop):List Prop:=match x.kind with
 | .red=>match ops[x.i]? with
   | some o=>(AV.same 20 x.v x.v=true)::(IT E x.ts h o.op=some x.v)::ps
   | none=>False::ps
 | .oW n obj=>(∃o,h.get n=some o∧aP.same o obj=true)::ps
 | _=>ps
noncomputable def Dh (E:Env) (ops:Array Oper) (x:Step):List aq→List Prop→List Prop
 | [],ps=>ps
 | h::hs,ps=>Dh E ops x hs (Dg E ops x h ps)
noncomputable def sf (E:Env) (ops:Array Oper) (bA:List Nat) (an:List (List Nat)) (hs:List aq):List Step→List Prop→List Prop
 | [],ps=>ps
 | x::tr,ps=>sf E ops bA an hs tr (Dh E ops x ((hs.drop x.k).take (iv bA an x.i+1 - x.k)) ps)
theorem FU {ops:Array Oper} {x:Step} {h:aq} {ps:List Prop} (hc:jV (Dg E ops x h ps)):jV ps∧g8 E ops x h=true:=by
 unfold Dg at hc
 unfold g8
 split at hc
 · rename_i hk
   simp only[hk]
   split at hc
   · rename_i o ho
     have eZ:ops.getD x.i default=o:=by simp [Array.getD_eq_getD_getElem?,ho]
     simp only[eZ,Ag hc.2.1,hc.1]
     exact ⟨hc.2.2,trivial⟩
   · exact hc.1.elim
 · rename_i n obj hk
   obtain ⟨⟨o,h1,h2⟩,h3⟩:=hc
   simp only[hk,h1,h2]
   exact ⟨h3,trivial⟩
 · rename_i h1 h2
   refine ⟨hc,?_⟩
   split
   · rename_i hk;exact absurd hk (by assumption)
   · rename_i hk;exact absurd hk (h2 _ _)
   · rfl
theorem yK {ops:Array Oper} {x:Step}:∀(hs:List aq) (ps:List Prop),jV (Dh E ops x hs ps)→jV ps∧hs.all (g8 E ops x)=true
 | [],ps,hc=>⟨hc,rfl⟩
 | h::hs,ps,hc=>by
   obtain ⟨h1,h2⟩:=yK hs _ hc
   obtain ⟨h3,h4⟩:=FU h1
   exact ⟨h3,by simp only[List.all_cons,h4,h2,Bool.and_self]⟩
theorem uu {ops:Array Oper} {bA:List Nat} {an:List (List Nat)} {hs:List aq}:∀(tr:List Step) (ps:List Prop),jV (sf E ops bA an hs tr ps)→
 jV ps∧(tr.all fun x=>((hs.drop x.k).take (iv bA an x.i+1 - x.k)).all (g8 E ops x))=true
 | [],ps,hc=>⟨hc,rfl⟩
 | x::tr,ps,hc=>by
   obtain ⟨h1,h2⟩:=uu tr _ hc
   obtain ⟨h3,h4⟩:=yK _ _ h1
   exact ⟨h3,by simp only[List.all_cons,h4,h2,Bool.and_self]⟩
noncomputable def IU (l:List Nat) (ps:List Prop):List Prop:=match l with
 | []=>ps
 | [_]=>ps
 | l=>(nodup l=true)::ps
noncomputable def Aj (E:Env) (call:aY) (ops:Array Oper) (s:St) (as:List md) (ps:List Prop):R:=match oV E ops with
 | none=> .bad
 | some pl=>match runT E call ops pl.order 0 s as ps with
   | .ok tr hs s' rq oD=> .at .normal s' rq (IU (nE tr) (sf E ops pl.bA pl.an hs tr oD))
   | .bad=> .bad
theorem xO {ops:Array Oper} {s:St} {as:List md} {ps:List Prop} {e:iS} {s':St} {rq:List md} {oD:List Prop} (hr:Aj E call ops s as ps= .at e s' rq oD) (hp:jV oD):jV ps∧rA E call ops s= .ok e s':=by
 unfold Aj at hr
 split at hr
 · cases hr
 rename_i pl E'
 split at hr
 · rename_i tr hs s1 qe ox h1
   cases hr
   have hn:jV (sf E ops pl.bA pl.an hs tr ox)∧nodup (nE tr)=true:=by
    unfold IU at hp
    split at hp
    · rename_i hm;exact ⟨hp,by rw[hm];rfl⟩
    · rename_i hm;exact ⟨hp,by rw[hm];rfl⟩
    · exact ⟨hp.2,hp.1⟩
   obtain ⟨h2,h3⟩:=uu _ _ hn.1
   obtain ⟨h4,h5⟩:=wk _ _ _ _ _ _ _ _ _ _ h1 h2
   refine ⟨h4,?_⟩
   unfold rA
   simp only[E',h5]
   have:nG E ops pl tr hs=true:=by
    unfold nG
    rw[hn.2,Bool.true_and]
    exact h3
   rw[if_pos this]
 · cases hr
noncomputable def run (E:Env) (call:aY):Nat→Code→St→List md→List Prop→R
 | 0,_,_,_,_=> .bad
 | n+1,c,s,as,ps=>match c with
   | .skip=> .at .normal s as ps
   | .ret=> .at .ret s as ps
   | .exit i=> .at (.exit i) s as ps
   | .seq a b=>match run E call n a s as ps with
     | .at .normal s1 qe ox=>run E call n b s1 qe ox
     | r=>r
   | .cond x a b=>match as with
     | .b v::as=>match dr E s.ts x with
       | some (.bool u)=>bif v then run E call n a s as ((u=true)::ps) else run E call n b s as ((u=false)::ps)
       | _=> .bad
     | .l e s'::as=> .at e s' as (Ev E call (.cond x a b) s e s'::ps)
     | _=> .bad
   | .block id b=>match run E call n b s as ps with
     | .at (.exit j) s1 qe ox=>bif Nat.beq j id then .at .normal s1 qe ox else .at (.exit j) s1 qe ox
     | r=>r
   | .loop b=>match as with
     | .l e s'::as=> .at e s' as (Ev E call (.loop b) s e s'::ps)
     | _=> .bad
   | .rangeFunc f oD a b=>match as with
     | .l e s'::as=> .at e s' as (Ev E call (.rangeFunc f oD a b) s e s'::ps)
     | _=> .bad
   | .region i ops draw=>match as with
     | .l e s'::as=> .at e s' as (Ev E call (.region i ops draw) s e s'::ps)
     | as=>bif draw then Aj E call ops s as ps else mP E call ops ops.toList s as ps
   | .scope b=>run E call n b s as ps
   | .label _=> .at .normal s as ps
   | _=> .bad
theorem yL:∀(n:Nat) (c:Code) (s:St) (as:List md) (ps:List Prop) (e:iS) (s':St) (rq:List md) (oD:List Prop),run E call n c s as ps= .at e s' rq oD→jV oD→jV ps∧Ev E call c s e s'
 | 0,c,s,as,ps,e,s',rq,oD,hr,hp=>by cases hr
 | n+1,c,s,as,ps,e,s',rq,oD,hr,hp=>by
   have ih:=yL n
   unfold run at hr
   split at hr
   · cases hr;exact ⟨hp,.of fun _=>rfl⟩
   · cases hr;exact ⟨hp,.of fun _=>rfl⟩
   · cases hr;exact ⟨hp,.of fun _=>rfl⟩
   · split at hr
     · rename_i s1 qe ox h1
       obtain ⟨h2,h3⟩:=ih _ _ _ _ _ _ _ _ hr hp
       obtain ⟨h4,h5⟩:=ih _ _ _ _ _ _ _ _ h1 h2
       exact ⟨h4,h5.seq h3⟩
     · rename_i dt
       obtain ⟨h4,h5⟩:=ih _ _ _ _ _ _ _ _ hr hp
       refine ⟨h4,h5.seq' fun he=>?_⟩
       subst he;exact dt _ _ _ hr
   · split at hr
     · rename_i v qe
       split at hr
       · rename_i u hu
         cases v with
         | true=>
           obtain ⟨⟨h1,h2⟩,n0,h3⟩:=ih _ _ _ _ _ _ _ _ hr hp
           refine ⟨h2,n0+1,fun n hn=>?_⟩
           obtain ⟨k,rfl⟩:∃k,n=k+1:=⟨n - 1,by omega⟩
           rw[IL,hu,h1,Df];exact h3 k (by omega)
         | false=>
           obtain ⟨⟨h1,h2⟩,n0,h3⟩:=ih _ _ _ _ _ _ _ _ hr hp
           refine ⟨h2,n0+1,fun n hn=>?_⟩
           obtain ⟨k,rfl⟩:∃k,n=k+1:=⟨n - 1,by omega⟩
           rw[IL,hu,h1,BP];exact h3 k (by omega)
       · cases hr
     · cases hr;exact ⟨hp.2,hp.1⟩
     · cases hr
   · split at hr
     · rename_i id b _ j s1 qe ox h1
       cases hj:Nat.beq j id with
       | true=>
         rw[hj] at hr
         cases hr
         obtain ⟨h2,n0,h3⟩:=ih _ _ _ _ _ _ _ _ h1 hp
         refine ⟨h2,n0+1,fun n hn=>?_⟩
         obtain ⟨k,rfl⟩:∃k,n=k+1:=⟨n - 1,by omega⟩
         rw[Ae,h3 k (by omega),uq,if_pos (Nat.eq_of_beq_eq_true hj)]
       | false=>
         rw[hj] at hr
         cases hr
         obtain ⟨h2,n0,h3⟩:=ih _ _ _ _ _ _ _ _ h1 hp
         refine ⟨h2,n0+1,fun n hn=>?_⟩
         obtain ⟨k,rfl⟩:∃k,n=k+1:=⟨n - 1,by omega⟩
         rw[Ae,h3 k (by omega),uq,if_neg (Nat.ne_of_beq_eq_false hj)]
     · rename_i id b _ dt
       obtain ⟨h2,n0,h3⟩:=ih _ _ _ _ _ _ _ _ hr hp
       refine ⟨h2,n0+1,fun n hn=>?_⟩
       obtain ⟨k,rfl⟩:∃k,n=k+1:=⟨n - 1,by omega⟩
       rw[Ae,h3 k (by omega)]
       cases e with
       | exit j=>exact absurd hr (dt _ _ _ _)
       | _=>rfl
   · split at hr
     · cases hr;exact ⟨hp.2,hp.1⟩
     · cases hr
   · split at hr
     · cases hr;exact ⟨hp.2,hp.1⟩
     · cases hr
   · rename_i i ops draw
     split at hr
     · cases hr;exact ⟨hp.2,hp.1⟩
     cases draw with
     | true=>
       simp only[cond_true] at hr
       obtain ⟨h1,h2⟩:=xO hr hp
       exact ⟨h1,.of fun n=>by rw[Ly];exact h2⟩
     | false=>
       simp only[cond_false] at hr
       obtain ⟨h1,h2⟩:=se _ _ _ _ _ _ _ _ hr hp
       exact ⟨h1,.of fun n=>by rw[IN];exact h2⟩
   · obtain ⟨h1,n0,h2⟩:=ih _ _ _ _ _ _ _ _ hr hp
     exact ⟨h1,n0+1,fun n hn=>by
      obtain ⟨k,rfl⟩:∃k,n=k+1:=⟨n - 1,by omega⟩
      show exec E call k _ s=_
      exact h2 k (by omega)⟩
   · cases hr;exact ⟨hp,.of fun _=>rfl⟩
   · cases hr
theorem Di {n:Nat} {c:Code} {s:St} {al:List md} {e:iS} {s':St} {ps:List Prop} (hr:run E call n c s al []= .at e s' [] ps) (hp:jV ps):Ev E call c s e s':=(yL _ _ _ _ _ _ _ _ _ hr hp).2
theorem j6 {tmpl:(Nat→AV)→List AV} {c:Code} {s:St} {e:iS} {h:aq} {ds:List nD} {rc:RC} {L:List AV} (ev:Ev E call c s e ⟨L,h,ds,rc⟩) (hl:L=tmpl fun k=>L.getD k AV.undef):∃y,Ev E call c s e ⟨tmpl y,h,ds,rc⟩:=by
 refine ⟨fun k=>L.getD k AV.undef,?_⟩
 rw[←hl];exact ev
theorem LQ {f:FuncId} {fn:Func} {c:Code} (hf:E.P.funcs[f]? =some fn) (hb:fn.body=some c) {args:List AV} {h h':aq} {ts:List AV} {x:iS} (hx:x= .normal∨x= .ret)
 (e:Ev E call c ⟨args++List.replicate (fn.ntmps - args.length) AV.undef,h,[],.no⟩ x ⟨ts,h',[],.no⟩) {vs:List AV} (hr:iw E h' ts fn.results.toList=some vs):∃n0,∀n,n0≤n→um E call n f args h= .ret (fF vs) h':=by
 obtain ⟨n0,e⟩:=e
 exact ⟨n0,fun n hn=>FQ hf hb hx (e n hn) hr⟩
def sg (E:Env) (call:aY) (f:FuncId) (args:List AV) (h:aq) (v:AV) (h':aq):Prop:=∃n0,∀n,n0≤n→um E call n f args h= .ret v h'
theorem bb {f:FuncId} {fn:Func} {c:Code} {args M6 ts:List AV} {h h':aq} {x:iS} {v:AV} (hf:E.P.funcs[f]? =some fn) (hb:fn.body=some c) (ht:args++List.replicate (fn.ntmps - args.length) AV.undef=M6) (hx:x= .normal∨x= .ret)
 (e:Ev E call c ⟨M6,h,[],.no⟩ x ⟨ts,h',[],.no⟩) (hr:(iw E h' ts fn.results.toList).map fF=some v):sg E call f args h v h':=by
 subst ht
 cases hv:iw E h' ts fn.results.toList with
 | none=>rw[hv] at hr;cases hr
 | some vs=>
   rw[hv] at hr
   obtain rfl:fF vs=v:=Option.some.inj hr
   exact LQ hf hb hx e hv
end Go.Ab
end
section
namespace Go.Ab
variable {E:Env}
theorem wm {t:TypeId} {c d:Bool} {k:IntKind} {a b z:Int} (h:k.wrap (a+b)=z):dX E .add t c d (some (.int k a)) (some (.int k b))=some (.int k z):=by rw[LA,h]
theorem wo {t:TypeId} {c d:Bool} {k:IntKind} {a b z:Int} (h:k.wrap (a - b)=z):dX E .sub t c d (some (.int k a)) (some (.int k b))=some (.int k z):=by rw[LB,h]
theorem Dj {t:TypeId} {c d:Bool} {k:IntKind} {a b z:Int} (h:k.wrap (a*b)=z):dX E .mul t c d (some (.int k a)) (some (.int k b))=some (.int k z):=by rw[LC,h]
theorem dL (k:IntKind) (n:Int):AV.scalar (.int k n)=true:=rfl
theorem cO (b:Bool):AV.scalar (.bool b)=true:=rfl
theorem dM (b:List UInt8):AV.scalar (.str b)=true:=rfl
theorem dN (i o:Nat):AV.scalar (.ptr i o)=true:=rfl
theorem cu (i o n c:Nat) (b:Bool):AV.scalar (.slice i o n c b)=true:=rfl
theorem fQ:AV.scalar .aF=true:=rfl
theorem fR:AV.scalar .eL=true:=rfl
theorem fS:AV.scalar .cZ=true:=rfl
theorem fT:AV.scalar .nilFunc=true:=rfl
theorem fU:AV.scalar .nilIface=true:=rfl
theorem dO (i:Nat):AV.scalar (.map i)=true:=rfl
theorem hG {h:aq} {t:TypeId} {i o:Nat} {cs:List AV} {e:TypeId} {ro:Bool} {v:AV} (hg:h.get i=some (.cells cs e ro)) (hv:g7 E t cs o=some v):b9 E h t (.ptr i o)=some v:=by
 simp only[b9,hg,hv]
theorem sh {h h':aq} {o:aP} (n:h.new o=some h'):h'.get h.nx=some o:=(aq.js n).2.2.1
theorem wq {h h':aq} {o:aP} (n:h.new o=some h'):h'.nx=h.nx+1:=(aq.js n).2.1
theorem pz {h h':aq} {o x:aP} {i:Nat} (y:Tidy h) (n:h.new o=some h') (g:h.get i=some x):h'.get i=some x:=by
 have:=y i x g
 rw[(aq.js n).2.2.2 i (by omega)];exact g
theorem vd {h h':aq} {o:aP} (y:Tidy h) (n:h.new o=some h'):Has h h':=fun _ _ g=>pz y n g
theorem np {h h':aq} {o:aP} (y:Tidy h) (n:h.new o=some h'):Tidy h':=fun i x g=>by
 obtain ⟨_,h2,h3,h4⟩:=aq.js n
 by_cases hx:i=h.nx
 · omega
 · rw[h4 i hx] at g;have:=y i x g;omega
theorem qY {h:aq} (o:aP):∃h',h.new o=some h':=⟨_,aq.zm _ _⟩
theorem BW {h:aq} {t e:TypeId} {i o n:Nat} {cs:List AV} {v:AV} (g:h.get i=some (.cells cs e false)) (hs:bY E t=some n) (hv:v.cells.length=n) (ho:o+n≤cs.length) (hk:v.cells.all AV.scalar=true):∃h',fE E h t (.ptr i o) v=some h':=by
 refine ⟨h.put i (some (.cells (setFrom cs o v.cells) e false)),?_⟩
 simp only[fE,g,hs]
 rw[if_pos ⟨hv,ho,hk⟩]
theorem si {h h':aq} {t e:TypeId} {i o:Nat} {cs:List AV} {v:AV} (s:fE E h t (.ptr i o) v=some h') (g:h.get i=some (.cells cs e false)):h'=h.put i (some (.cells (setFrom cs o v.cells) e false)):=by
 simp only[fE,g] at s
 split at s
 · rename_i h1 _
   cases h1
   split at s
   · exact (Option.some.inj s).symm
   · cases s
 · cases s
theorem yM {h h':aq} {t e:TypeId} {i o:Nat} {cs:List AV} {v:AV} (y:Tidy h) (s:fE E h t (.ptr i o) v=some h') (g:h.get i=some (.cells cs e false)):h'.get i=some (.cells (setFrom cs o v.cells) e false):=by
 rw[si s g]
 have:=y i _ g
 exact aq.dw _
theorem wu {h h':aq} {t e:TypeId} {i j o:Nat} {cs:List AV} {v:AV} {x:aP} (y:Tidy h) (s:fE E h t (.ptr i o) v=some h') (g:h.get i=some (.cells cs e false)) (hj:j≠i) (gx:h.get j=some x):h'.get j=some x:=by
 rw[si s g]
 have:=y i _ g
 rw[aq.ck (Ne.symm hj)];exact gx
theorem wv {h h':aq} {t e:TypeId} {i o:Nat} {cs:List AV} {v:AV} (s:fE E h t (.ptr i o) v=some h') (g:h.get i=some (.cells cs e false)):h'.nx=h.nx:=by
 rw[si s g];exact aq.N5 _ _ _
theorem wx {h h':aq} {t e:TypeId} {i o:Nat} {cs:List AV} {v:AV} (y:Tidy h) (s:fE E h t (.ptr i o) v=some h') (g:h.get i=some (.cells cs e false)):Tidy h':=fun j x gj=>by
 have hi:=y i _ g
 rw[wv s g]
 by_cases hx:j=i
 · omega
 · rw[si s g,aq.ck (Ne.symm hx)] at gj
   exact y j x gj
end Go.Ab
end
section
namespace Go.Ab
variable {E:Env}
theorem dT {p:Prop} [Decidable p] (h:p):decide p=true:=decide_eq_true h
theorem dF {p:Prop} [Decidable p] (h:¬p):decide p=false:=decide_eq_false h
theorem nT {p:Prop} [Decidable p] (h:¬p):(!decide p)=true:=by rw[decide_eq_false h];rfl
theorem nF {p:Prop} [Decidable p] (h:p):(!decide p)=false:=by rw[decide_eq_true h];rfl
def cP:Code→List Code
 | .seq a b=>cP a++cP b
 | .cond _ a b=>cP a++cP b
 | .block _ b=>cP b
 | .loop b=>b::cP b
 | .scope b=>cP b
 | .rangeFunc _ _ _ b=>b::cP b
 | _=> []
structure lB (E:Env) (h:aq) (e:TypeId) (n:Nat) (av:AV) (len:Nat) (cs:List AV):Prop where
 size:bY E e=some n
 cells:cs.length=len*n
 small:len<2^60
 lens:dU (some (.slice e)) (some av)=some (.int .i64 (len:Nat))
 block:len=0∨∃p o m c b C f ro,av= .slice p o m c b∧m≤c∧h.get p=some (.cells C f ro)∧(∀j,j<cs.length→C[o+j]? =cs[j]?)
theorem lB.has {h h':aq} {e:TypeId} {n:Nat} {av:AV} {len:Nat} {cs:List AV} (x:lB E h e n av len cs) (hh:Has h h'):lB E h' e n av len cs:=
 ⟨x.size,x.cells,x.small,x.lens,x.block.imp id fun ⟨p,o,m,c,b,C,f,ro,h1,h0,h2,h3⟩=>⟨p,o,m,c,b,C,f,ro,h1,h0,hh _ _ h2,h3⟩⟩
theorem lB.elem {h:aq} {e:TypeId} {av:AV} {len:Nat} {cs:List AV} (x:lB E h e 1 av len cs) (ha:eM E e=some false) {i:Nat} {v:AV} (hv:cs[i]? =some v):
 ∃p q,ep E (some (.slice e)) (some av) (some (.int .i64 (i:Nat)))=some (.ptr p q)∧b9 E h e (.ptr p q)=some v:=by
 have hi:=(List.getElem?_eq_some_iff.1 hv).1
 have hl:cs.length=len:=by rw[x.cells,Nat.mul_one]
 rcases x.block with h0 | ⟨p,o,m,c,b,C,f,ro,h1,_,h2,h3⟩
 · omega
 · subst h1
   have hm:m=len:=by
    have:=x.lens
    rw[hF] at this
    simp only[Option.some.injEq,AV.int.injEq,true_and] at this
    omega
   refine ⟨p,o+i*1,n6 x.size (by omega),?_⟩
   simp only[b9,h2,g7,ha,Nat.mul_one]
   rw[h3 i hi,hv]
def qk (k:IntKind) (l:List Nat):List AV:=l.map fun (n:Nat)=> .int k (n:Int)
structure eC (E:Env) (h:aq) (k:IntKind) (e:TypeId) (av:AV) (l:List Nat):Prop where
 at_:lB E h e 1 av l.length (qk k l)
 agg:eM E e=some false
 known:av= .aF∨∃p o n c b,av= .slice p o n c b∧(b=true→0<c)
theorem pA {k:IntKind} {l:List Nat} {i:Nat} {z:Nat} (h:l[i]? =some z):(qk k l)[i]? =some (.int k (z:Int)):=by simp [qk,h]
theorem eC.elem {h:aq} {k:IntKind} {e:TypeId} {av:AV} {l:List Nat} (x:eC E h k e av l) {i:Nat} {z:Nat} (hz:l[i]? =some z):
 ∃p q,ep E (some (.slice e)) (some av) (some (.int .i64 (i:Nat)))=some (.ptr p q)∧b9 E h e (.ptr p q)=some (.int k (z:Int)):=x.at_.elem x.agg (pA hz)
theorem eC.len {h:aq} {k:IntKind} {e:TypeId} {av:AV} {l:List Nat} (x:eC E h k e av l):dU (some (.slice e)) (some av)=some (.int .i64 (l.length:Nat)):=x.at_.lens
theorem kF (k:IntKind) (l:List Nat):(qk k l).length=l.length:=by simp [qk]
theorem eC.small {h:aq} {k:IntKind} {e:TypeId} {av:AV} {l:List Nat} (x:eC E h k e av l):l.length<2^60:=x.at_.small
def W2 (p:Nat) (av:AV):Prop:=∀o n c b,av≠ .slice p o n c b
theorem eC.of {h:aq} {k:IntKind} {e:TypeId} {l:List Nat} {p o c:Nat} {b:Bool} {C:List AV} {f:TypeId} {ro:Bool} (hs:bY E e=some 1) (ha:eM E e=some false) (hl:l.length<2^60) (hc:l.length≤c) (hb:b=true→0<c) (hg:h.get p=some (.cells C f ro))
 (hv:∀(i:Nat) z,l[i]? =some z→C[o+i]? =some (.int k (z:Int))):eC E h k e (.slice p o l.length c b) l:=
 ⟨⟨hs,by rw[kF];omega,hl,rfl,.inr ⟨p,o,_,c,b,C,f,ro,rfl,hc,hg,fun j hj=>by
   rw[kF] at hj
   rw[hv j l[j] (List.getElem?_eq_getElem hj),pA (List.getElem?_eq_getElem hj)]⟩⟩,ha,.inr ⟨p,o,_,c,b,rfl,hb⟩⟩
theorem eC.nil {h:aq} {k:IntKind} {e:TypeId} (hs:bY E e=some 1) (ha:eM E e=some false):eC E h k e .aF []:=
 ⟨⟨hs,rfl,by decide,rfl,.inl rfl⟩,ha,.inl rfl⟩
theorem eC.inv {h:aq} {k:IntKind} {e:TypeId} {l:List Nat} {p o n c:Nat} {b:Bool} (x:eC E h k e (.slice p o n c b) l):n=l.length∧(l≠ []→l.length≤c∧∃C f ro,h.get p=some (.cells C f ro)∧∀(i:Nat) z,l[i]? =some z→C[o+i]? =some (.int k (z:Int))):=by
 have hn:n=l.length:=by
  have:=x.len
  rw[hF] at this
  simp only[Option.some.injEq,AV.int.injEq,true_and] at this
  omega
 refine ⟨hn,fun dt=>?_⟩
 rcases x.at_.block with h0 | ⟨p',o',m,c',b',C,f,ro,h1,h0,h2,h3⟩
 · exact absurd (List.length_eq_zero_iff.1 h0) dt
 · cases h1
   refine ⟨by omega,C,f,ro,h2,fun i z hz=>?_⟩
   rw[h3 i (by rw[kF];exact (List.getElem?_eq_some_iff.1 hz).1),pA hz]
theorem qf {len cap lo hi:Nat} (low high:Option AV) (hl:low=some (.int .i64 (lo:Nat))∨(low=none∧lo=0)) (hh:high=some (.int .i64 (hi:Nat))∨(high=none∧hi=len)) (h1:lo≤hi) (h2:hi≤cap):iR len cap low high none=some (lo,hi,cap):=by
 have b:∀(x y:Nat),x≤y→lN (.int .i64 (x:Nat)) y=some x:=fun x y h=>by
  simp only[lN]
  rw[if_pos ⟨by omega,by omega⟩,Int.toNat_natCast]
 unfold iR
 rcases hh with rfl | ⟨rfl,rfl⟩<;>rcases hl with rfl | ⟨rfl,rfl⟩<;>simp [b,h1,h2]
theorem eC.slice {h:aq} {k:IntKind} {e t:TypeId} {av:AV} {l:List Nat} (x:eC E h k e av l) (ht:E.P.underlying t=some (.slice e)) {lo hi:Nat} (low high:Option AV) (hl:low=some (.int .i64 (lo:Nat))∨(low=none∧lo=0)) (hh:high=some (.int .i64 (hi:Nat))∨(high=none∧hi=l.length)) (h1:lo≤hi) (h2:hi≤l.length) (h3:l.length=0∨lo<l.length):
 ∃r,eY E t av low high none=some r∧eC E h k e r ((l.take hi).drop lo)∧∀p,W2 p av→W2 p r:=by
 rcases x.known with rfl | ⟨p,o,n,c,b,rfl,hb⟩
 · have N7:l.length=0:=by
    have:=x.len
    rw[r_] at this
    simp only[Option.some.injEq,AV.int.injEq,true_and] at this
    omega
   obtain rfl:=List.length_eq_zero_iff.1 N7
   simp only[List.length_nil] at *
   have Kb:hi=0:=by omega
   subst Kb
   have Ka:lo=0:=by omega
   subst Ka
   refine ⟨.aF,?_,by simpa using x,fun p hp=>hp⟩
   simp only[eY,ht,x.at_.size,qf (len:=0) (cap:=0) low high hl hh (Nat.le_refl 0) (Nat.le_refl 0)]
 · obtain ⟨rfl,hx⟩:=x.inv
   have QK:l.length≤c:=by
    by_cases dt:l=[]
    · subst dt;exact Nat.zero_le _
    · exact (hx dt).1
   have hr:∃o' c',eY E t (.slice p o l.length c b) low high none=some (.slice p o' (hi - lo) c' b)∧(b=true→0<c')∧hi - lo≤c'∧(hi - lo≠0→o'=o+lo):=by
    simp only[eY,ht,x.at_.size,QK,if_true,qf (len:=l.length) (cap:=c) low high hl hh h1 (by omega)]
    by_cases hm:c=lo
    · have Ob:b=false:=by
       cases b with
       | false=>rfl
       | true=>have:=hb rfl;omega
      subst Ob
      rw[if_pos hm]
      exact ⟨o,c - lo,rfl,by simp,by omega,fun h=>by omega⟩
    · rw[if_neg hm]
      refine ⟨o+lo*1,c - lo,by simp,fun h=>by omega,by omega,fun h=>by omega⟩
   obtain ⟨o',c',e1,e2,e3,e4⟩:=hr
   refine ⟨_,e1,?_,fun q hq o' n' c' b' he=>by cases he;exact hq _ _ _ _ rfl⟩
   have hlen:((l.take hi).drop lo).length=hi - lo:=by simp;omega
   rw[←hlen]
   by_cases h0:hi - lo=0
   · have:(l.take hi).drop lo=[]:=List.length_eq_zero_iff.1 (by omega)
     rw[this]
     exact ⟨⟨x.at_.size,rfl,by decide,rfl,.inl rfl⟩,x.agg,.inr ⟨_,_,_,_,_,rfl,e2⟩⟩
   · have dt:l≠ []:=fun e=>by subst e;simp at h2;omega
     obtain ⟨_,C,f,ro,g1,g2⟩:=hx dt
     refine eC.of x.at_.size x.agg (by have:=x.small;omega) (by omega) e2 g1 fun i z hz=>?_
     have zq:i<hi - lo:=by rw[←hlen];exact (List.getElem?_eq_some_iff.1 hz).1
     rw[e4 h0,Nat.add_assoc]
     apply g2
     rw[List.getElem?_drop,List.getElem?_take_of_lt (by omega)] at hz
     exact hz
structure Ki (h:aq) (av:AV) (p o n:Nat) (C:List AV) (f:TypeId):Prop where
 is:∃c b,av= .slice p o n c b∧n≤c
 get:h.get p=some (.cells C f false)
 fits:o+n≤C.length
theorem Ki.len {h:aq} {av:AV} {p o n:Nat} {C:List AV} {f e:TypeId} (w:Ki h av p o n C f):dU (some (.slice e)) (some av)=some (.int .i64 (n:Nat)):=by
 obtain ⟨c,b,rfl,_⟩:=w.is
 rfl
theorem Ki.slice {h:aq} {av:AV} {p o n:Nat} {C:List AV} {f e t:TypeId} (w:Ki h av p o n C f) (hs:bY E e=some 1) (ht:E.P.underlying t=some (.slice e)) {lo hi:Nat} (low high:Option AV) (hl:low=some (.int .i64 (lo:Nat))∨(low=none∧lo=0)) (hh:high=some (.int .i64 (hi:Nat))∨(high=none∧hi=n)) (h1:lo≤hi) (h2:hi≤n) (h3:lo<n):
 ∃r,eY E t av low high none=some r∧Ki h r p (o+lo) (hi - lo) C f:=by
 obtain ⟨c,b,rfl,hc⟩:=w.is
 have:=w.fits
 refine ⟨.slice p (o+lo) (hi - lo) (c - lo) b,?_,⟨⟨_,_,rfl,by omega⟩,w.get,by omega⟩⟩
 simp only[eY,ht,hs,hc,if_true,qf (len:=n) (cap:=c) low high hl hh h1 (by omega)]
 rw[if_neg (by omega)]
 simp
def Holds (k:IntKind) (C:List AV) (o:Nat) (l:List Nat):Prop:=∀(i z:Nat),l[i]? =some z→C[o+i]? =some (.int k (z:Int))
theorem Holds.behind {k:IntKind} {C:List AV} {o:Nat} {l ws:List Nat} (x:Holds k C o l) {i z:Nat} (hi:ws.length≤i) (hz:l[i]? =some z):(setFrom C o (qk k ws))[o+i]? =some (.int k (z:Int)):=by
 rw[g9,if_neg (by rw[kF];omega)]
 exact x i z hz
theorem Ki.load {h:aq} {av:AV} {p o n:Nat} {C:List AV} {f e:TypeId} {i:Nat} {v:AV} (w:Ki h av p o n C f) (ha:eM E e=some false) (hv:C[o+i]? =some v):b9 E h e (.ptr p (o+i))=some v:=by
 simp only[b9,w.get,g7,ha,hv]
theorem Ki.qk {h:aq} {av:AV} {p o n:Nat} {C:List AV} {f e:TypeId} {k:IntKind} {l:List Nat} (w:Ki h av p o n C f) (hs:bY E e=some 1) (ha:eM E e=some false) (hn:l.length=n) (KA:n<2^60) (x:Holds k C o l) (hb:∀c b,av= .slice p o n c b→b=true→0<c):eC E h k e av l:=by
 obtain ⟨c,b,rfl,hc⟩:=w.is
 subst hn
 exact eC.of hs ha KA hc (hb c b rfl) w.get x
theorem Holds.of {k:IntKind} {C:List AV} {o:Nat} {l:List Nat} (hf:o+l.length≤C.length):Holds k (setFrom C o (qk k l)) o l:=fun i z hz=>by
 have hi:=(List.getElem?_eq_some_iff.1 hz).1
 rw[g9,if_pos ⟨by omega,by rw[kF];omega,by omega⟩,Nat.add_sub_cancel_left,pA hz]
end Go.Ab
end
section
namespace Go.Ab
variable {E:Env} {M0:Fa.BM}
theorem sg.unique {call:aY} {f:FuncId} {args:List AV} {h h1 h2:aq} {v1 v2:AV} (a:sg E call f args h v1 h1) (b:sg E call f args h v2 h2):v1=v2∧h1=h2:=by
 obtain ⟨n,a⟩:=a
 obtain ⟨m,b⟩:=b
 have:=(a (n+m) (by omega)).symm.trans (b (n+m) (by omega))
 simpa using this
def AV.within (nx:Nat):Nat→AV→Bool
 | 0,_=>false
 | n+1,x=>match x with
   | .bool _ | .int .. | .str _ | .eL | .aF | .cZ | .nilFunc | .nilIface | .dG=>true
   | .ptr i _=>decide (i<nx)
   | .slice i _ _ _ _=>decide (i<nx)
   | .map i=>decide (i<nx)
   | .iface _ v=>AV.within nx n v
   | .agg cs=>cs.all (AV.within nx n)
   | .tuple cs=>cs.all (AV.within nx n)
   | _=>false
theorem VR.within {φ φ':Ph} {nx:Nat} (ho:∀i,i<nx→φ' i=φ i):∀(n:Nat) {x:AV} (_:AV.within nx n x=true) {y:Value},VR φ' x y→VR φ x y
 | 0,_,h,_,_=>by cases h
 | n+1,x,h,y,hv=>by
   have ih:= @VR.within φ φ' nx ho n
   cases hv with
   | bool b=>exact .bool b
   | int k m=>exact .int k m
   | str s=>exact .str s
   | eL=>exact .eL
   | aF=>exact .aF
   | cZ=>exact .cZ
   | nilFunc=>exact .nilFunc
   | nilIface=>exact .nilIface
   | dG a c=>exact .dG a c
   | ptr o hl=>rw[ho _ (of_decide_eq_true h)] at hl;exact .ptr o hl
   | slice o len cap op hl=>rw[ho _ (of_decide_eq_true h)] at hl;exact .slice o len cap op hl
   | map hl=>rw[ho _ (of_decide_eq_true h)] at hl;exact .map hl
   | iface t v v' h'=>exact .iface t v v' (ih (by simpa [AV.within] using h) h')
   | agg cs gG hl hc=>
     refine .agg cs gG hl fun i x y a b=>ih ?_ (hc i x y a b)
     simp only[AV.within,List.all_eq_true] at h
     exact h x (List.mem_of_getElem? a)
   | tuple cs gG hl hc=>
     refine .tuple cs gG hl fun i x y a b=>ih ?_ (hc i x y a b)
     simp only[AV.within,List.all_eq_true] at h
     exact h x (List.mem_of_getElem? a)
   | _=>cases h
theorem ju.Ez {f:FuncId} {args:List AV} {h h':aq} {v:AV} (r:ju E f args h v h') (hs:Has h h') (hv:AV.within h.nx 20 v=true):ju E f args h v h:=fun φ w vs ok hl=>by
 obtain ⟨h1,h2⟩:=r φ w vs ok hl
 refine ⟨h1,fun cs=>?_⟩
 obtain ⟨φ',w',v',fr,x1,x2,x3,x4⟩:=h2 cs
 exact ⟨φ,w',v',fr,x1.within x3.old 20 hv,ok.forget x3.ext x2 hs,x3.forget,x4⟩
open Classical in
noncomputable def jf (E:Env) (M0:Fa.BM):Nat→aY
 | 0=>wh M0
 | d+1=>fun F args h=>match F with
   | .tV _=> .fail "" none
   | .fn f=>match M0 f args h with
     | some p=> .ret p.1 p.2
     | none=>
       if hx:∃v,∃h',sg E (jf E M0 d) f args h v h'∧Has h h'∧AV.within h.nx 20 v=true then .ret hx.choose h
       else if hy:∃p:AV×aq,sg E (jf E M0 d) f args h p.1 p.2 then .ret hy.choose.1 hy.choose.2 else .fail "" none
theorem wy (hE:iJ E) (hM:Fa.Ad E M0):∀d,fP E (jf E M0 d)
 | 0=>FR hM
 | d+1=>by
   have ih:=wy hE hM d
   have key:∀{f:FuncId} {args:List AV} {h:aq} {o:gQ},jf E M0 (d+1) (.fn f) args h=o→(∃v h',o= .ret v h'∧ju E f args h v h')∨o= .fail "" none:=by
    intro f args h o e
    simp only[jf] at e
    split at e
    · rename_i p hp
      exact .inl ⟨_,_,e.symm,hM _ _ _ _ _ hp⟩
    · split at e
      · rename_i hx
        obtain ⟨h',⟨n,h1⟩,h2,h3⟩:=hx.choose_spec
        exact .inl ⟨_,_,e.symm,ju.Ez ((mD hE n ih).1 _ _ _ _ _ (h1 n (Nat.le_refl n))) h2 h3⟩
      · split at e
        · rename_i hy
          obtain ⟨n,h1⟩:=hy.choose_spec
          exact .inl ⟨_,_,e.symm,(mD hE n ih).1 _ _ _ _ _ (h1 n (Nat.le_refl n))⟩
        · exact .inr e.symm
   refine ⟨fun F args h v h' e=>?_,fun F args h v h' e=>?_⟩
   · cases F with
     | tV l=>cases e
     | fn f=>
       rcases key e with ⟨w,k,h1,h2⟩ | h1
       · cases h1;exact h2.any
       · cases h1
   · cases F with
     | tV l=>cases e
     | fn f=>
       rcases key e with ⟨w,k,h1,h2⟩ | h1
       · cases h1
       · cases h1
theorem ay {d:Nat} {f:FuncId} {args:List AV} {h h':aq} {v:AV} (hm:M0 f args h=none) (hd:sg E (jf E M0 d) f args h v h') (hh:Has h h') (hv:AV.within h.nx 20 v=true):jf E M0 (d+1) (.fn f) args h= .ret v h:=by
 simp only[jf,hm]
 have hx:∃v,∃h',sg E (jf E M0 d) f args h v h'∧Has h h'∧AV.within h.nx 20 v=true:=⟨v,h',hd,hh,hv⟩
 rw[dif_pos hx]
 obtain ⟨k,h1,_,_⟩:=hx.choose_spec
 rw[(h1.unique hd).1]
theorem FV {d:Nat} {f:FuncId} {args:List AV} {h h':aq} {v:AV} (hm:M0 f args h=none) (hd:sg E (jf E M0 d) f args h v h') (hv:¬(Has h h'∧AV.within h.nx 20 v=true)):jf E M0 (d+1) (.fn f) args h= .ret v h':=by
 simp only[jf,hm]
 have hx:¬∃v,∃h',sg E (jf E M0 d) f args h v h'∧Has h h'∧AV.within h.nx 20 v=true:=by
  rintro ⟨w,k,h1,h2,h3⟩
  obtain ⟨rfl,rfl⟩:=h1.unique hd
  exact hv ⟨h2,h3⟩
 have hy:∃p:AV×aq,sg E (jf E M0 d) f args h p.1 p.2:=⟨(v,h'),hd⟩
 rw[dif_neg hx,dif_pos hy]
 obtain ⟨h1,h2⟩:=hy.choose_spec.unique hd
 rw[h1,h2]
theorem BX (hE:iJ E) (hM:Fa.Ad E M0) {d:Nat} {f:FuncId} {args:List AV} {h h':aq} {v:AV} (e:jf E M0 d (.fn f) args h= .ret v h'):ju E f args h v h':=by
 cases d with
 | zero=>
   simp only[jf,wh] at e
   split at e
   · rename_i p hp
     cases e
     exact hM _ _ _ _ _ hp
   · cases e
 | succ d=>
   simp only[jf] at e
   split at e
   · rename_i p hp
     cases e
     exact hM _ _ _ _ _ hp
   · split at e
     · rename_i hx
       cases e
       obtain ⟨h',⟨n,h1⟩,h2,h3⟩:=hx.choose_spec
       exact ju.Ez ((mD hE n (wy hE hM d)).1 _ _ _ _ _ (h1 n (Nat.le_refl n))) h2 h3
     · split at e
       · rename_i hy
         cases e
         obtain ⟨n,h1⟩:=hy.choose_spec
         exact (mD hE n (wy hE hM d)).1 _ _ _ _ _ (h1 n (Nat.le_refl n))
       · cases e
end Go.Ab
end
section
namespace Go.Ab
variable {E:Env}
theorem IV (n:Nat):IntKind.u64.wrap (n:Int)=((n%18446744073709551616:Nat):Int):=by
 show (if (false&&decide ((n:Int)%2^64≥2^63))=true then (n:Int)%2^64 - 2^64 else (n:Int)%2^64)=_
 rw[if_neg (by simp)]
 omega
end Go.Ab
end
section
namespace Go.Ab
variable {E:Env} {M0:Fa.BM}
structure b4 (h h':aq):Prop where
 y:Tidy h'
 a:Has h h'
 n:h.nx≤h'.nx
theorem b4.refl {h:aq} (y:Tidy h):b4 h h:=⟨y,Has.refl h,Nat.le_refl _⟩
theorem b4.trans {a b c:aq} (x:b4 a b) (y:b4 b c):b4 a c:=⟨y.y,x.a.trans y.a,Nat.le_trans x.n y.n⟩
theorem gC {d:Nat} {f:FuncId} {args:List AV} {h h':aq} {v:AV} {P:aq→Prop} (hm:M0 f args h=none) (hd:sg E (jf E M0 d) f args h v h') (y:Tidy h) (g:b4 h h') (p1:P h') (p2:AV.within h.nx 20 v=true→P h):
 ∃hk,jf E M0 (d+1) (.fn f) args h= .ret v hk∧b4 h hk∧P hk:=by
 by_cases hv:AV.within h.nx 20 v=true
 · exact ⟨h,ay hm hd g.a hv,b4.refl y,p2 hv⟩
 · exact ⟨h',FV hm hd fun c=>hv c.2,g,p1⟩
def Kept (p:Nat) (h h':aq):Prop:=∀i x,i≠p→h.get i=some x→h'.get i=some x
theorem Kept.store {h h':aq} {t e:TypeId} {i o:Nat} {cs:List AV} {v:AV} (y:Tidy h) (s:fE E h t (.ptr i o) v=some h') (g:h.get i=some (.cells cs e false)):Kept i h h':=fun _ _ hj gj=>wu y s g hj gj
theorem uv (k:IntKind) (l:List Nat):(qk k l).all AV.scalar=true:=by
 simp [qk,AV.scalar]
theorem eC.mK {h:aq} {k:IntKind} {e:TypeId} {av:AV} {l:List Nat} (x:eC E h k e av l):mK av=some l.length:=by
 rcases x.known with rfl | ⟨p,o,n,c,b,rfl,_⟩
 · have:=x.len
   rw[r_] at this
   simp only[Option.some.injEq,AV.int.injEq,true_and] at this
   rw[show l.length=0 by omega];rfl
 · rw[x.inv.1];rfl
theorem eC.first {h:aq} {k:IntKind} {e:TypeId} {av:AV} {l:List Nat} (x:eC E h k e av l):ez h 1 l.length av=some (qk k l):=by
 by_cases hl:l=[]
 · subst hl
   rcases x.known with rfl | ⟨p,o,n,c,b,rfl,_⟩<;>simp [ez,qk]
 rcases x.known with rfl | ⟨p,o,n,c,b,rfl,_⟩
 · have:=x.len
   rw[r_] at this
   simp only[Option.some.injEq,AV.int.injEq,true_and] at this
   exact absurd (List.length_eq_zero_iff.1 (show l.length=0 by omega)) hl
 · obtain ⟨rfl,h2⟩:=x.inv
   obtain ⟨_,C,f,ro,g,hv⟩:=h2 hl
   have hC:o+l.length≤C.length:=by
    have hp:0<l.length:=List.length_pos_iff.2 hl
    have:=hv (l.length - 1) _ (List.getElem?_eq_getElem (show l.length - 1<l.length by omega))
    have:=(List.getElem?_eq_some_iff.1 this).1
    omega
   have h0:¬l.length=0:=fun e=>hl (List.length_eq_zero_iff.1 e)
   simp only[ez,Nat.le_refl,if_true,h0,if_false,g,Nat.mul_one,hC]
   refine congrArg some (List.ext_getElem? fun i=>?_)
   by_cases hi:i<l.length
   · rw[List.getElem?_take_of_lt hi,List.getElem?_drop,hv i _ (List.getElem?_eq_getElem hi),pA (List.getElem?_eq_getElem hi)]
   · rw[List.getElem?_eq_none (by simp;omega),List.getElem?_eq_none (by rw[kF];omega)]
theorem Er {h:aq} {k:IntKind} {e t:TypeId} {tys:Array TypeId} {d s:AV} {l:List Nat} {p o n:Nat} {C:List AV} {f:TypeId} (h0:tys[0]? =some t) (ht:E.P.underlying t=some (.slice e)) (hs:bY E e=some 1) (w:Ki h d p o n C f) (x:eC E h k e s l) (hn:l.length≤n):
 qt E h tys d s=some (.int .i64 (l.length:Nat),h.put p (some (.cells (setFrom C o (qk k l)) f false))):=by
 obtain ⟨c,b,rfl,hc⟩:=w.is
 have hf:=w.fits
 have vB:ez h 1 (min l.length n) s=some (qk k l):=by
  rw[Nat.min_eq_left hn];exact x.first
 simp only[qt,h0,ht,x.mK,hs,vB,w.get]
 rw[if_pos ⟨by rw[kF];omega,uv k l⟩,Nat.min_eq_left hn]
theorem append_nil {h:aq} {k:IntKind} {e s xt:TypeId} {tys:Array TypeId} {bytes:Nat} {z x:AV} {m:List Nat} (h0:tys[0]? =some s) (h1:tys[1]? =some xt) (hs:E.P.underlying s=some (.slice e)) (hx:E.P.underlying xt=some (.slice e)) (Kj:bY E e=some 1) (hb:im E e=some bytes) (xz:eW E e=some z) (hz:z.cells.length=1) (h8:bytes≤15) (x1:eC E h k e x m) (hm:m≠ []) (hl:m.length≤1073741824):
 ∃h',bN E h tys .aF x=some (.slice h.nx 0 m.length m.length true,h')∧h.new (.cells (qk k m) e false)=some h':=by
 obtain ⟨h',n⟩:=qY (h:=h) (.cells (qk k m) e false)
 refine ⟨h',?_,n⟩
 have hn:¬m.length=0:=fun e=>hm (List.length_eq_zero_iff.1 e)
 have zw:(4*m.length+4096)*(bytes+1)≤1099511627776:=Nat.le_trans (Nat.mul_le_mul (show 4*m.length+4096≤68719476736 by omega) (show bytes+1≤16 by omega)) (by decide)
 simp only[bN,h0,h1,hs,hx,jY,Kj,hb,x1.mK,x1.first,xz,hz,uv,kF,Nat.mul_one,hn,zw,n,if_true,if_false,and_self,Bool.false_eq_true]
end Go.Ab
end
section
namespace Go.Ab
variable {E:Env}
structure Pk (al:List md) (p0 ps:List Prop):Prop where
 ok:jV p0→jV ps
section
variable {al:List md} {p0 ps:List Prop}
theorem ZZ {p:List Prop}:Pk [] p p:=⟨id⟩
theorem CC (k:Pk al p0 ps):Pk (.c::al) p0 ps:=⟨k.ok⟩
def cs:Nat→List md→List md
 | 0,l=>l
 | n+1,l=> .c::cs n l
theorem CN (n:Nat) (k:Pk al p0 ps):Pk (cs n al) p0 ps:=⟨k.ok⟩
theorem HH {P:Prop} (h:P) (k:Pk al (P::p0) ps):Pk al p0 ps:=⟨fun c=>k.ok ⟨h,c⟩⟩
theorem VV {l:Option AV} {x:AV} (h:l=some x) (k:Pk al ((l=some x)::p0) ps):Pk (.v x::al) p0 ps:=⟨fun c=>k.ok ⟨h,c⟩⟩
theorem QQ {l:Option AV} {x:AV} (h:l=some x) (k:Pk al ((l=some x)::p0) ps):Pk (.q x::al) p0 ps:=⟨fun c=>k.ok ⟨h,c⟩⟩
theorem MM {l:Option AV} {x:AV} (h:l=some x) (k:Pk al ((l=some x)::p0) ps):Pk (.m x::al) p0 ps:=⟨fun c=>k.ok ⟨h,c⟩⟩
theorem TT (k:Pk al ((true=true)::p0) ps):Pk (.b true::al) p0 ps:=⟨fun c=>k.ok ⟨rfl,c⟩⟩
theorem FF (k:Pk al ((false=false)::p0) ps):Pk (.b false::al) p0 ps:=⟨fun c=>k.ok ⟨rfl,c⟩⟩
theorem BB {u v:Bool} (h:u=v) (k:Pk al ((u=v)::p0) ps):Pk (.b v::al) p0 ps:=⟨fun c=>k.ok ⟨h,c⟩⟩
theorem EE {call:aY} {f:Fn} {args:List AV} {h h':aq} {x:AV} (e:call f args h= .ret x h') (k:Pk al ((call f args h= .ret x h')::p0) ps):Pk (.e x h'::al) p0 ps:=⟨fun c=>k.ok ⟨e,c⟩⟩
theorem SS {h h':aq} {t:TypeId} {a v:AV} (s:fE E h t a v=some h') (k:Pk al ((AV.undef=AV.undef∧fE E h t a v=some h')::p0) ps):Pk (.e AV.undef h'::al) p0 ps:=⟨fun c=>k.ok ⟨⟨rfl,s⟩,c⟩⟩
theorem PP {l:Option (AV×aq)} {x:AV} {h':aq} (e:l=some (x,h')) (k:Pk al ((l=some (x,h'))::p0) ps):Pk (.e x h'::al) p0 ps:=⟨fun c=>k.ok ⟨e,c⟩⟩
theorem NN {h h':aq} {obj:aP} (n:h.new obj=some h') (f:Nat→AV) (k:Pk al ((∃mk:Nat→AV,some (obj,f)=some (obj,mk)∧mk h.nx=f h.nx)::(h.new obj=some h')::p0) ps):Pk (.a obj (f h.nx) h'::al) p0 ps:=⟨fun c=>k.ok ⟨⟨f,rfl,rfl⟩,n,c⟩⟩
theorem LL {call:aY} {b:Code} {s s':St} {e:iS} (ev:Ev E call b s e s') (k:Pk al ((Ev E call b s e s')::p0) ps):Pk (.l e s'::al) p0 ps:=⟨fun c=>k.ok ⟨ev,c⟩⟩
end
@[irreducible] def EA:R→List AV
  | .at _ s _ _=>s.ts
  | .bad=> []
theorem RM {call:aY} {c:Code} {ts:List AV} {h h':aq} {ds:List nD} {rc:RC} {n:Nat} {e:iS} {al:List md} {ps:List Prop} (k:Pk al [] ps) (hr:run E call n c ⟨ts,h,ds,rc⟩ al []= .at e ⟨EA (run E call n c ⟨ts,h,ds,rc⟩ al []),h',ds,rc⟩ [] ps):Ev E call c ⟨ts,h,ds,rc⟩ e ⟨EA (run E call n c ⟨ts,h,ds,rc⟩ al []),h',ds,rc⟩:=Di hr (k.ok trivial)
def rx (x:Nat→AV):Nat→Nat→List AV→List AV
 | _,0,l=>l
 | i,n+1,l=>x i::rx x (i+1) n l
def cx:Nat→List AV
 | 0=> []
 | n+1=>AV.undef::cx n
end Go.Ab
end
