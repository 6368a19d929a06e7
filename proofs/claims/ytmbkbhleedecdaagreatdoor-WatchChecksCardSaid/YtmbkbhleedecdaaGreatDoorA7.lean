import Derived.ChangeShapes
import Derived.ChangeStays
import Derived.ChangeBook
import Derived.ChangeOld
import Derived.ChangeAgain
import Derived.ChangeCalls
import Derived.Shelf.Strings.OnBuilder
import Derived.Test.YtmbkbhleedecdaaGreatDoorA6
set_option linter.unusedVariables false
set_option linter.unusedSimpArgs false
section
namespace Go.Ab
variable {E:Env} {call:a_} {n:Nat} {s:St}
def Xd {α β:Type} (o:Option α) (f:α→β) (d:β):β:=match o with
 | some a=>f a
 | none=>d
noncomputable def JU (E:Env) (call:a_) (n:Nat) (o:Out) (b:Code):Out:=match o with
 | .ok .normal s=>exec E call n b s
 | r=>r
theorem zz (s:St) (b:Code):JU E call n (.ok .normal s) b=exec E call n b s:=rfl
def PU (id:Nat) (o:Out):Out:=match o with
 | .ok (.exit N3) s'=>if N3=id then .ok .normal s' else .ok (.exit N3) s'
 | r=>r
theorem zA (i j:Nat) (s:St):PU i (.ok (.exit j) s)=if j=i then .ok .normal s else .ok (.exit j) s:=rfl
noncomputable def PV (E:Env) (call:a_) (n:Nat) (o:Option AV) (a b:Code) (s:St):Out:=match o with
 | some (.bool true)=>exec E call n a s
 | some (.bool false)=>exec E call n b s
 | _=> .fail "cond" none
theorem J3 (a b:Code):PV E call n (some (.bool true)) a b s=exec E call n a s:=rfl
theorem HX (a b:Code):PV E call n (some (.bool false)) a b s=exec E call n b s:=rfl
theorem VH (a b:Code):exec E call (n+1) (.seq a b) s=JU E call n (exec E call n a s) b:=rfl
theorem PW (x:Operand) (a b:Code):exec E call (n+1) (.cond x a b) s=PV E call n (dA E s.ts x) a b s:=rfl
theorem Ft (id:Nat) (b:Code):exec E call (n+1) (.block id b) s=PU id (exec E call n b s):=rfl
theorem PX (b:Code):exec E call (n+1) (.loop b) s=JU E call n (exec E call n b s) (.loop b):=rfl
theorem PY (i:Nat) (ops:Array Oper):exec E call (n+1) (.region i ops false) s=j1 E call ops ops.toList s:=rfl
theorem T2 (i:Nat) (ops:Array Oper):exec E call (n+1) (.region i ops true) s=we E call ops s:=rfl
noncomputable def Z9 (E:Env) (call:a_) (ops:Array Oper) (o:Oper) (rest:List Oper) (s:St):Out:=match cZ E call s.ts s.h s.rc o with
 | .val v h'=>j1 E call ops rest {s with ts:=dB s.ts o.dst v,h:=h'}
 | .defer d=>j1 E call ops rest {s with ts:=dB s.ts o.dst AV.undef,ds:=d::s.ds}
 | .rK v=>j1 E call ops rest {s with ts:=dB s.ts o.dst v,rc:= .done}
 | .panic v h'=> .ok (.panic v) {s with h:=h'}
 | .fail why q=> .fail why q
noncomputable def Z_ (E:Env) (call:a_) (ops:Array Oper) (o:Oper) (rest:List Oper) (s:St):Out:=
 Xd (dZ E s.ts o.op) (fun p=>Xd (s.h.new p.1) (fun h'=>j1 E call ops rest {s with ts:=dB s.ts o.dst (p.2 s.h.nx),h:=h'}) (.fail "full" (some o))) (Z9 E call ops o rest s)
noncomputable def Z' (E:Env) (call:a_) (ops:Array Oper) (o:Oper) (rest:List Oper) (s:St):Out:=
 Xd (dE E s.ts s.h o.op) (fun v=>j1 E call ops rest {s with ts:=dB s.ts o.dst v}) (Z_ E call ops o rest s)
noncomputable def aaa (E:Env) (call:a_) (ops:Array Oper) (v:Option AV) (o:Oper) (rest:List Oper) (s:St):Out:=Xd v (fun v=>j1 E call ops rest {s with ts:=dB s.ts o.dst v}) (Z' E call ops o rest s)
section
variable {ops:Array Oper} {rest:List Oper} {d:Option Tmp} {op:Op} {ty:TypeId} {pos:String} {aft:Array Edge} {g:Option (Nat×Bool)}
noncomputable def JV (E:Env) (call:a_) (ops:Array Oper) (w:Bool) (o:Oper) (rest:List Oper) (s:St):Out:=
 if w=true then aaa E call ops (bp E s.ts o.op) o rest s else j1 E call ops rest {s with ts:=dB s.ts o.dst AV.undef}
end
theorem aP (m:Nat) (a:List UInt8):AV.same (m+1) (.str a) (.str a)=true:=by simp [AV.same]
theorem aC (m:Nat) (k:IntKind) (a:Int):AV.same (m+1) (.int k a) (.int k a)=true:=by simp [AV.same]
theorem Bn (m i o l c:Nat) (b:Bool):AV.same (m+1) (.slice i o l c b) (.slice i o l c b)=true:=by simp [AV.same]
open Classical in
section
variable {ops:Array Oper} {rest:List Nat} {d:Option Tmp} {op:Op} {ty:TypeId} {pos:String} {aft:Array Edge} {g:Option (Nat×Bool)}
noncomputable def LF (E:Env) (call:a_) (ops:Array Oper) (r:Option St) (s:St):Out:=Xd r (fun s'=> .ok .normal s') (we E call ops s)
end
theorem wrap_i64 {n:Int} (h0: -9223372036854775808≤n) (h1:n<9223372036854775808):IntKind.i64.wrap n=n:=by
 show (if (true&&decide (n%2^64≥2^63))=true then n%2^64 - 2^64 else n%2^64)=n
 by_cases hn:n%2^64≥2^63
 · rw[if_pos (by rw[Bool.true_and];exact decide_eq_true hn)];omega
 · rw[if_neg (by rw[Bool.true_and];exact fun e=>hn (of_decide_eq_true e))];omega
noncomputable def HA (E:Env) (fn:Func) (h:ax) (ts:List AV):iQ:=match ky E h ts fn.results.toList with
 | some vs=> .ret (gP vs) h
 | none=> .fail "results" none
theorem Nd {fuel:Nat} {f:FuncId} {fn:Func} {c:Code} (hf:E.P.funcs[f]? =some fn) (hb:fn.body=some c) {args:List AV} {h h':ax} {ts:List AV} {x:jY} (hx:x= .normal∨x= .ret)
 (e:exec E call fuel c ⟨args++List.replicate (fn.ntmps - args.length) AV.undef,h,[],.no⟩= .ok x ⟨ts,h',[],.no⟩) {vs:List AV} (hr:ky E h' ts fn.results.toList=some vs):zy E call fuel f args h= .ret (gP vs) h':=by
 unfold zy
 simp only[hf,hb,mW,e]
 rcases hx with rfl | rfl<;>simp only[uq,cS,hr]
def Bo (M:Fa.HV):a_:=fun F args h=>match F with
 | .fn f=>match M f args h with
   | some p=> .ret p.1 p.2
   | none=> .fail "" none
 | .ze _=> .fail "" none
theorem Nf {M:Fa.HV} (hM:Fa.Fs E M):hS E (Bo M):=by
 refine ⟨fun F args h v h' e=>?_,fun F args h v h' e=>?_⟩
 · cases F with
   | ze l=>cases e
   | fn f=>
     simp only[Bo] at e
     cases hm:M f args h with
     | none=>rw[hm] at e;cases e
     | some p=>
       rw[hm] at e
       simp only[iQ.ret.injEq] at e
       obtain ⟨rfl,rfl⟩:=e
       exact (hM _ _ _ _ _ hm).any
 · cases F with
   | ze l=>cases e
   | fn f=>
     simp only[Bo] at e
     cases hm:M f args h with
     | none=>rw[hm] at e;cases e
     | some p=>rw[hm] at e;cases e
def acf (E:Env) (x:Option (TypeId×Nat)) (v:Option AV):Option AV:=match x,v with
 | some (t,o),some (.ptr i off)=>match b_ E t with
   | some n=>if n=0 then none else some (.ptr i (off+o))
   | none=>none
 | _,_=>none
def bu (E:Env) (op:BinOp) (t:TypeId) (xc yc:Bool) (a b:Option AV):Option AV:=match a,b with
 | some a,some b=>jG E op t xc yc a b
 | _,_=>none
theorem T3 {ts:List AV} (op:BinOp) (t t':TypeId) (x y:Operand):bp E ts (.binOp op t x y t')=bu E op t (isConst x) (isConst y) (dA E ts x) (dA E ts y):=by
 simp only[bp,bu]
 cases dA E ts x<;>cases dA E ts y<;>rfl
theorem T4 (t:TypeId) (c d:Bool) (k:IntKind) (a b:Int):bu E .add t c d (some (.int k a)) (some (.int k b))=some (.int k (k.wrap (a+b))):=by simp [bu,jG,cY]
theorem T5 (t:TypeId) (c d:Bool) (k:IntKind) (a b:Int):bu E .sub t c d (some (.int k a)) (some (.int k b))=some (.int k (k.wrap (a - b))):=by simp [bu,jG,cY]
theorem T6 (t:TypeId) (c d:Bool) (k:IntKind) (a b:Int):bu E .mul t c d (some (.int k a)) (some (.int k b))=some (.int k (k.wrap (a*b))):=by simp [bu,jG,cY]
theorem T7 (t:TypeId) (c d:Bool) (k:IntKind) (a b:Int):bu E .eql t c d (some (.int k a)) (some (.int k b))=some (.bool (decide (a=b))):=by simp [bu,jG,cY];rfl
theorem T8 (t:TypeId) (c d:Bool) (k:IntKind) (a b:Int):bu E .neq t c d (some (.int k a)) (some (.int k b))=some (.bool (!decide (a=b))):=by simp [bu,jG,cY];rfl
theorem T9 (t:TypeId) (c d:Bool) (k:IntKind) (a b:Int):bu E .lss t c d (some (.int k a)) (some (.int k b))=some (.bool (decide (a<b))):=by simp [bu,jG,cY]
theorem T_ (t:TypeId) (c d:Bool) (k:IntKind) (a b:Int):bu E .leq t c d (some (.int k a)) (some (.int k b))=some (.bool (decide (a≤b))):=by simp [bu,jG,cY]
theorem T' (t:TypeId) (c d:Bool) (k:IntKind) (a b:Int):bu E .gtr t c d (some (.int k a)) (some (.int k b))=some (.bool (decide (b<a))):=by simp [bu,jG,cY]
theorem Ua (t:TypeId) (c d:Bool) (k:IntKind) (a b:Int):bu E .geq t c d (some (.int k a)) (some (.int k b))=some (.bool (decide (b≤a))):=by simp [bu,jG,cY]
theorem PZ (t:TypeId) (c d:Bool) (a b:List UInt8):bu E .eql t c d (some (.str a)) (some (.str b))=some (.bool (decide (a=b))):=by
 simp only[bu,jG,qJ,Option.some.injEq,AV.bool.injEq]
 exact Bool.eq_iff_iff.2 (by simp)
theorem P4 (t:TypeId) (c d:Bool) (a b:List UInt8):bu E .neq t c d (some (.str a)) (some (.str b))=some (.bool (!decide (a=b))):=by
 simp only[bu,jG,qJ,Option.some.injEq,AV.bool.injEq]
 exact congrArg (!·) (Bool.eq_iff_iff.2 (by simp))
def ZW (op:UnOp) (a:Option AV):Option AV:=match a with
 | some a=>YM op a
 | none=>none
def b8 (E:Env) (d:Option TypeDesc) (v i:Option AV):Option AV:=match d,v,i with
 | some (.slice elem),some (.slice i o len _ _),some (.int _ n)=>match b_ E elem with
  | some size=>if 0≤n∧n<len then some (.ptr i (o+n.toNat*size)) else none
  | none=>none
 | some (.array len elem),some (.ptr i o),some (.int _ n)=>match b_ E elem with
  | some size=>if 0≤n∧n<len then some (.ptr i (o+n.toNat*size)) else none
  | none=>none
 | _,_,_=>none
theorem HY {ts:List AV} (t:TypeId) (x i:Operand):bp E ts (.indexAddr t x i)=b8 E (E.P.underlying t) (dA E ts x) (dA E ts i):=by
 simp only[bp,b8]
 split<;>simp_all<;>(split<;>simp_all)
theorem nV {e:TypeId} {i o len c z:Nat} {b:Bool} {size:Nat} (hs:b_ E e=some size) (hz:z<len):b8 E (some (.slice e)) (some (.slice i o len c b)) (some (.int .i64 (z:Int)))=some (.ptr i (o+z*size)):=by
 simp only[b8,hs]
 rw[if_pos ⟨by omega,by omega⟩,Int.toNat_natCast]
def cg (d:Option TypeDesc) (v:Option AV):Option AV:=match d,v with
 | some (.slice _),some .aX=>some (.int .i64 0)
 | some (.slice _),some (.slice _ _ n _ _)=>some (.int .i64 n)
 | some (.slice _),some .eR=>some (.int .i64 0)
 | some .string,some (.str s)=>some (.int .i64 s.length)
 | some (.array n _),some _=>some (.int .i64 n)
 | some (.map _ _),some .dw=>some (.int .i64 0)
 | _,_=>none
theorem aab {ts:List AV} (x:Operand) (t:TypeId):bp E ts (.call ⟨.builtin .len, #[x], #[t]⟩)=cg (E.P.underlying t) (dA E ts x):=by
 simp only[bp,fO,dL,List.getElem?_toArray,List.getElem?_cons_zero]
 generalize dA E ts x=o
 cases o with
 | none=>
   generalize E.P.underlying t=u
   cases u with
   | none=>rfl
   | some d=>cases d<;>rfl
 | some v=>
   simp only
   generalize E.P.underlying t=u
   cases u with
   | none=>rfl
   | some d=>cases d<;>cases v<;>rfl
theorem Xe {ts:List AV} {h:ax} (t:TypeId) (x:Operand):dE E ts h (.load t x)=Xd (dA E ts x) (bS E h t) none:=by
 simp only[dE];cases dA E ts x<;>rfl
theorem iz (e:TypeId) (i o n c:Nat) (b:Bool):cg (some (.slice e)) (some (.slice i o n c b))=some (.int .i64 n):=rfl
theorem sI (e:TypeId):cg (some (.slice e)) (some .aX)=some (.int .i64 0):=rfl
theorem Xf (e:TypeId):cg (some (.slice e)) (some .eR)=some (.int .i64 0):=rfl
def Tidy (h:ax):Prop:=∀i o,h.get i=some o→i<h.nx
def j9 (E:Env) (d:Option TypeDesc) (v i:Option AV):Option AV:=match d,v,i with
 | some (.array len elem),some (.agg cs),some (.int _ n)=>match b_ E elem with
  | some size=>if 0≤n∧n<len then iY E elem cs (n.toNat*size) else none
  | none=>none
 | some .string,some (.str s),some (.int _ n)=>if 0≤n then (match s[n.toNat]? with | some b=>some (.int .u8 b.toNat) | none=>none) else none
 | _,_,_=>none
theorem Ub {ts:List AV} (t:TypeId) (x i:Operand):bp E ts (.index t x i)=j9 E (E.P.underlying t) (dA E ts x) (dA E ts i):=by
 simp only[bp,j9]
 split
 · simp_all
   split<;>simp_all
 · rename_i s k n _ _ _
   simp_all
   cases s[n.toNat]? <;>rfl
 · simp_all
theorem P5 {s:List UInt8} {z:Nat} {b:UInt8} (h:s[z]? =some b):j9 E (some .string) (some (.str s)) (some (.int .i64 (z:Int)))=some (.int .u8 b.toNat):=by
 simp only[j9]
 rw[if_pos (by omega),Int.toNat_natCast,h]
theorem Uc (t:TypeId) (c d:Bool) (k:IntKind) (a b:Int) (hb:b≠0):bu E .quo t c d (some (.int k a)) (some (.int k b))=some (.int k (k.wrap (a.tdiv b))):=by simp [bu,jG,cY,hb]
end Go.Ab
end
section
namespace Go.Ab
open Go.ChangeShapes Go.WideShapes Go.RowKit
variable {E:Env}
def wR (h:ax):Prop:=∀i o,h.get i=some o→o.rw=false
theorem OK.show {φ:Ph} {h:ax} {w:World} (ok:OK E φ h w) (OG:wR h) {b off:Nat} {cs:List AV} {e:TypeId} (ea:cs≠ []) (hz:∀m,cs≠ [.map m])
 (hC:∀(k:Nat) (x:AV),cs[k]? =some x→∃y,w.cell? ⟨b,off+k,none⟩=some y∧VR φ x y):
 ∃h',h.new (.cells cs e true)=some h'∧OK E (φ.add h.nx ⟨b,off,0⟩) h' w∧φ.le (φ.add h.nx ⟨b,off,0⟩)∧wR h'∧h'.nx=h.nx+1∧h'.get h.nx=some (.cells cs e true)∧(∀j,j≠h.nx→h'.get j=h.get j)∧(φ.add h.nx ⟨b,off,0⟩) h.nx=some ⟨b,off,0⟩:=by
 obtain ⟨h',hn⟩:∃h',h.new (.cells cs e true)=some h':=by
  exact ⟨_,ax.Eo _ _⟩
 obtain ⟨lr,Xg,AJ,hold⟩:=ax.lq hn
 have Ep:φ h.nx=none:=by
  cases e:φ h.nx with
  | none=>rfl
  | some m=>exact absurd (ok.zf _ _ e) (Nat.lt_irrefl _)
 have hle:φ.le (φ.add h.nx ⟨b,off,0⟩):=fun i m hm=>by
  unfold Ph.add;split
  · rename_i e;subst e;rw[Ep] at hm;simp at hm
  · exact hm
 have j5:∀j,j≠h.nx→(φ.add h.nx ⟨b,off,0⟩) j=φ j:=fun j hj=>by simp [Ph.add,hj]
 have hI:(φ.add h.nx ⟨b,off,0⟩) h.nx=some ⟨b,off,0⟩:=by simp [Ph.add]
 have fG:∀j p,h'.get j=some p→(j=h.nx∧p= .cells cs e true)∨(j≠h.nx∧h.get j=some p):=fun j p hj=>by
  by_cases e:j=h.nx
  · subst e;rw[AJ] at hj;simp at hj;exact .inl ⟨rfl,hj.symm⟩
  · rw[hold j e] at hj;exact .inr ⟨e,hj⟩
 have hlen:0<cs.length:=List.length_pos_iff.2 ea
 obtain ⟨y0,Y4,_⟩:=hC 0 cs[0] (by simp [hlen])
 obtain ⟨C,e',lo,hi,hw⟩:∃C e' lo hi,w.heap[b]? =some (.cells C e' (lo,hi)):=by
  unfold World.cell? at Y4
  split at Y4
  · rename_i C e' fz hw;obtain ⟨lo,hi⟩:=fz;exact ⟨C,e',lo,hi,hw⟩
  · cases Y4
 have pn:∀k,w.cell? ⟨b,off+k,none⟩=C[off+k]? :=fun k=>by simp [World.cell?,hw]
 refine ⟨h',hn,⟨fun i m hm=>?_,by rw[Xg];exact Nat.le_succ_of_le ok.nx,fun g hg=>hle _ _ (ok.uG g hg),fun j p m hj hm=>?_,fun j k p q m n hj hk hm rS hw hb=>?_⟩,hle,fun j p hj=>?_,Xg,AJ,hold,hI⟩
 · rw[Xg]
   by_cases e:i=h.nx
   · omega
   · rw[j5 i e] at hm;have:=ok.zf i m hm;omega
 · rcases fG j p hj with ⟨rfl,rfl⟩ | ⟨Er,oQ⟩
   · rw[hI] at hm;simp at hm;subst hm
     refine ⟨C,e',lo,hi,hw,⟨?_,fun k x hk=>?_,(fun h=>by cases h),fun _ m hm=>absurd hm (hz m)⟩,fun h=>by cases h⟩
     · obtain ⟨y,hy,_⟩:=hC (cs.length - 1) cs[cs.length - 1] (List.getElem?_eq_getElem (by omega))
       rw[pn] at hy
       have:=(Array.getElem?_eq_some_iff.1 hy).1
       simp only[fC,Nat.zero_mul]
       omega
     · obtain ⟨y,hy,hv⟩:=hC k x hk
       rw[pn] at hy
       exact ⟨y,hy,hv.mono hle⟩
   · rw[j5 j Er] at hm
     exact (ok.live j p m oQ hm).mono hle
 · rcases fG j p hj with ⟨rfl,rfl⟩ | ⟨acg,oQ⟩<;>rcases fG k q hk with ⟨rfl,rfl⟩ | ⟨ach,GI⟩
   · rfl
   · rw[OG k q GI] at hw;rcases hw with h | h<;>cases h
   · rw[OG j p oQ] at hw;rcases hw with h | h<;>cases h
   · rw[j5 j acg] at hm;rw[j5 k ach] at rS;exact ok.inj _ _ _ _ _ _ oQ GI hm rS hw hb
 · rcases fG j p hj with ⟨_,rfl⟩ | ⟨_,oQ⟩
   · rfl
   · exact OG j p oQ
theorem wR.begin {G:Nat} {l:List SH}:wR (j8 G l):=fun i o h=>by
 obtain ⟨x,_,_,rfl⟩:=rh h;rfl
theorem Fu {f:FuncId} {avs:List AV} {h h':ax} (r:jZ E f avs h (.bool true) h') {φ:Ph} {w:World} {vs:List Value} (ok:OK E φ h w) (hl:LR φ avs vs) (OG:wR h):
 Calls E.P f vs.toArray w fun en w'=>en= .returned (.bool true)∧w.keptBut w' (fun _=>False):=fun cs=>by
 obtain ⟨_,il⟩:=r φ w vs ok hl
 obtain ⟨φ',w',v',fr,hv,_,nf,h1,h2,h3⟩:=il cs
 cases hv
 refine ⟨.returned (.bool true),w',fr,⟨rfl,nf.os,nf.output,fun i hi=>?_⟩,h1,h2,h3⟩
 rw[nf.zX i hi (fun j o l' q1 q2 _=>by rw[OG j o q1] at q2;cases q2)]
 cases w.heap[i]? with
 | none=>rfl
 | some o=>cases o with
   | cells c t fz=>exact ⟨rfl,rfl,rfl,fun _ _=>rfl⟩
   | map es c=>exact .inr ⟨rfl,rfl⟩
   | _=>rfl
section
variable {H:Type} {enc:TypeId×Value→H} {w:World} {base:Nat} {spare:Nat→Bool} {held:Bool} {fuel:Nat} {t:TypeId} {x:DataW H×List MemPlace}
end
section
variable {H:Type} {enc:TypeId×Value→H} {P:Program} {w w':World}
theorem Bp (hk:w.keptBut w' (fun _=>False)) {p:MemPlace} (hp:p.block<w.heap.size):w.sameAt w' p:=by
 have h:=hk.block hp (fun _ h=>h.elim)
 cases p with
 | cell b off=>simp only[World.sameAt,World.cell?];rw[show w'.heap[b]? =w.heap[b]? from h]
 | map b=>exact h
theorem DX (hl:laidOutB P=true) (hk:w.keptBut w' (fun _=>False)):∀{ts:List TypeId} {vs:List Value} {ds:List (DataW H)} {ps:List MemPlace},(∀t∈ts,P.readableRec t=true∧t<P.types.size)→
 DataW.TrodAll enc P w 0 (fun _=>true) true ts vs ds ps→DataW.TrodAll enc P w' 0 (fun b=>decide (b<w.heap.size)) true ts vs ds ps
 | [],vs,ds,ps,_,h=>by
   obtain ⟨rfl,rfl,rfl⟩:=trodAll_nil h
   exact trodAll_mk0
 | t::ts,vs,ds,ps,hr,h=>by
   have lr:=DataW.TrodAll.lt h
   obtain ⟨v,qG,d,yq,p,p',rfl,rfl,rfl,⟨n,h1⟩,h2⟩:=trodAll_cons h
   obtain ⟨h3,h4⟩:=hr t (by simp)
   refine trodAll_cons_mk ⟨n,?_⟩ (DX hl hk (fun t ht=>hr t (by simp [ht])) h2)
   exact DataW.trod_stays (kids_book hl h3) (book_sized h3) (fun h=>by cases h) ⟨h4,book_self t⟩ h1 (fun q hq=>Bp hk (lr q (by simp [hq]))) (fun q hq=>by simpa using lr q (by simp [hq]))
end
end Go.Ab
end
section
namespace Go.Ab
variable {E:Env}
end Go.Ab
end
section
namespace Go.Ab
variable {E:Env} {call:a_}
def Ev (E:Env) (call:a_) (c:Code) (s:St) (e:jY) (s':St):Prop:=∃n0,∀n,n0≤n→exec E call n c s= .ok e s'
theorem Ev.of {c:Code} {s:St} {e:jY} {s':St} (h:∀n,exec E call (n+1) c s= .ok e s'):Ev E call c s e s':=⟨1,fun n hn=>by
 obtain ⟨k,rfl⟩:∃k,n=k+1:=⟨n - 1,by omega⟩
 exact h k⟩
theorem Ev.seq {a b:Code} {s s1 s':St} {e:jY} (h1:Ev E call a s .normal s1) (h2:Ev E call b s1 e s'):Ev E call (.seq a b) s e s':=by
 obtain ⟨n1,h1⟩:=h1
 obtain ⟨n2,h2⟩:=h2
 refine ⟨n1+n2+1,fun n hn=>?_⟩
 obtain ⟨k,rfl⟩:∃k,n=k+1:=⟨n - 1,by omega⟩
 rw[VH,h1 k (by omega),zz]
 exact h2 k (by omega)
theorem Ev.seq' {a b:Code} {s s':St} {e:jY} (he:e≠ .normal) (h1:Ev E call a s e s'):Ev E call (.seq a b) s e s':=by
 obtain ⟨n1,h1⟩:=h1
 refine ⟨n1+1,fun n hn=>?_⟩
 obtain ⟨k,rfl⟩:∃k,n=k+1:=⟨n - 1,by omega⟩
 rw[VH,h1 k (by omega)]
 cases e with
 | normal=>exact absurd rfl he
 | _=>rfl
theorem Ev.loop {b:Code} {s s1 s':St} {e:jY} (h1:Ev E call b s .normal s1) (h2:Ev E call (.loop b) s1 e s'):Ev E call (.loop b) s e s':=by
 obtain ⟨n1,h1⟩:=h1
 obtain ⟨n2,h2⟩:=h2
 refine ⟨n1+n2+1,fun n hn=>?_⟩
 obtain ⟨k,rfl⟩:∃k,n=k+1:=⟨n - 1,by omega⟩
 rw[PX,h1 k (by omega),zz]
 exact h2 k (by omega)
theorem Ev.exit {b:Code} {s s':St} {e:jY} (he:e≠ .normal) (h1:Ev E call b s e s'):Ev E call (.loop b) s e s':=by
 obtain ⟨n1,h1⟩:=h1
 refine ⟨n1+1,fun n hn=>?_⟩
 obtain ⟨k,rfl⟩:∃k,n=k+1:=⟨n - 1,by omega⟩
 rw[PX,h1 k (by omega)]
 cases e with
 | normal=>exact absurd rfl he
 | _=>rfl
theorem Ev.ret {b:Code} {s s':St} (h1:Ev E call b s .ret s'):Ev E call (.loop b) s .ret s':=Ev.exit (by simp) h1
theorem Ev.out {b:Code} {s s':St} {i:Nat} (h1:Ev E call b s (.exit i) s'):Ev E call (.loop b) s (.exit i) s':=Ev.exit (by simp) h1
inductive mX where
 | c
 | v (x:AV)
 | q (x:AV)
 | m (x:AV)
 | n (h:ax)
 | a (obj:aK) (x:AV) (h:ax)
 | e (x:AV) (h:ax)
 | p (x:AV) (h:ax)
 | b (x:Bool)
 | l (e:jY) (s:St)
def lQ:List Prop→Prop
 | []=>True
 | p::ps=>p∧lQ ps
inductive R where
 | bad
 | at (e:jY) (s:St) (as_:List mX) (ps:List Prop)
def R.go (k:St→List mX→List Prop→R):R→R
 | .at .normal s as_ ps=>k s as_ ps
 | r=>r
theorem R.aac {k:St→List mX→List Prop→R} {r:R} {e:jY} {s:St} {as_:List mX} {ps:List Prop} (h:r.go k= .at e s as_ ps):(∃s1 ur rN,r= .at .normal s1 ur rN∧k s1 ur rN= .at e s as_ ps)∨(r= .at e s as_ ps∧e≠ .normal):=by
 unfold R.go at h
 split at h
 · exact .inl ⟨_,_,_,rfl,h⟩
 · rename_i ea
   refine .inr ⟨h,fun he=>?_⟩
   subst he;exact ea _ _ _ h
def aad (E:Env) (ts:List AV):List Operand→List TypeId→Option AV
 | [x],[t]=>cg (E.P.underlying t) (dA E ts x)
 | _,_=>none
def zB (c a b:Option AV):Option AV:=match c with
 | some (.bool true)=>a
 | some (.bool false)=>b
 | _=>none
theorem Ud {ts:List AV} (c a b:Operand):bp E ts (.pick c a b)=zB (dA E ts c) (dA E ts a) (dA E ts b):=by
 simp only[bp]
 generalize dA E ts c=x
 cases x with
 | none=>rfl
 | some v=>cases v with
   | bool b=>cases b<;>rfl
   | _=>rfl
theorem Fv {c:Bool} {a b:Option AV} (h:c=true):zB (some (.bool c)) a b=a:=by rw[h];rfl
theorem aE {c:Bool} {a b:Option AV} (h:c=false):zB (some (.bool c)) a b=b:=by rw[h];rfl
def Ue (E:Env) (ts:List AV) (op:Op):Option AV:=match op with
 | .indexAddr t x i=>b8 E (E.P.underlying t) (dA E ts x) (dA E ts i)
 | .index t x i=>j9 E (E.P.underlying t) (dA E ts x) (dA E ts i)
 | .binOp op t x y _=>bu E op t (isConst x) (isConst y) (dA E ts x) (dA E ts y)
 | .pick c a b=>zB (dA E ts c) (dA E ts a) (dA E ts b)
 | .call c=>match c.callee with
   | .builtin .len=>aad E ts c.args.toList c.argTypes.toList
   | _=>none
 | _=>none
theorem Bq {α:Type} {a:Array α} {l:List α} (h:a.toList=l):a=l.toArray:=by rw[←h]
theorem LU {ts:List AV} {op:Op} {v:AV} (e:Ue E ts op=some v):bp E ts op=some v:=by
 unfold Ue at e
 split at e
 · rw[←HY] at e;exact e
 · rw[←Ub] at e;exact e
 · rename_i o t x y t';exact (T3 o t t' x y).trans e
 · rename_i c a b;exact (Ud c a b).trans e
 · rename_i c
   obtain ⟨cl,args,tys⟩:=c
   simp only at e
   split at e
   · unfold aad at e
     split at e
     · rename_i x t hx ht
       rw[Bq hx,Bq ht]
       exact (aab x t).trans e
     · cases e
   · cases e
 · cases e
noncomputable def VI (E:Env) (h:ax) (t:TypeId) (x ix:Option AV) (eT:Bool):Option AV:=match E.P.underlying t,x,ix with
 | some (.map key elem),some m,some k=>
   if gW (E.P.underlying key) k then
    match (match m with | .dw=>some [] | .map i=>(match h.get i with | some (.map es _)=>some es | _=>none) | _=>none) with
    | none=>none
    | some es=>match rJ k es 0 with
      | none=>none
      | some (some (_,v))=>some (if eT then .tuple [v,.bool true] else v)
      | some none=>match gz E elem with
        | some z=>some (if eT then .tuple [z,.bool false] else z)
        | none=>none
   else if iZ E (E.P.underlying key) k then
    match (match m with | .dw=>some [] | .map i=>(match h.get i with | some (.map es _)=>some es | _=>none) | _=>none) with
    | none=>none
    | some es=>match findD E key k es 0 with
      | none=>none
      | some (some (_,v))=>some (if eT then .tuple [v,.bool true] else v)
      | some none=>match gz E elem with
        | some z=>some (if eT then .tuple [z,.bool false] else z)
        | none=>none
   else none
 | _,_,_=>none
theorem Xh (E:Env) (ts:List AV) (h:ax) (t:TypeId) (x ix:Operand) (ok:Bool):dE E ts h (.lookup t x ix ok)=VI E h t (dA E ts x) (dA E ts ix) ok:=rfl
noncomputable def P6 (E:Env) (ts:List AV) (h:ax) (op:Op):Option AV:=match op with
 | .load t x=>Xd (dA E ts x) (bS E h t) none
 | .lookup t x ix ok=>VI E h t (dA E ts x) (dA E ts ix) ok
 | op=>dE E ts h op
theorem Fw {ts:List AV} {h:ax} {op:Op} {v:AV} (e:P6 E ts h op=some v):dE E ts h op=some v:=by
 unfold P6 at e
 split at e
 · rw[Xe];exact e
 · rw[Xh];exact e
 · exact e
def aae (E:Env) (d:Option TypeDesc) (l c:Option AV):Option (aK×(Nat→AV)):=match d,l,c with
 | some (.slice elem),some (.int _ len),some (.int _ cap)=>match b_ E elem,iu E elem,gz E elem with
   | some n,some bytes,some z=>
     if 0≤len∧len≤cap∧cap<2^30∧(bytes:Int)*cap≤2^47∧z.cells.length=n then
      some (.cells (fU z.cells cap.toNat) elem false,fun i=> .slice i 0 len.toNat cap.toNat false)
     else none
   | _,_,_=>none
 | _,_,_=>none
def Uf (E:Env) (ts:List AV) (op:Op):Option (aK×(Nat→AV)):=match op with
 | .makeSlice t l c=>aae E (E.P.underlying t) (dA E ts l) (dA E ts c)
 | op=>dZ E ts op
theorem LV (ts:List AV) (op:Op):Uf E ts op=dZ E ts op:=by
 unfold Uf
 split
 · rename_i t l c
   simp only[dZ]
   generalize E.P.underlying t=d
   generalize dA E ts l=x
   generalize dA E ts c=y
   rfl
 · rfl
noncomputable def Ug (E:Env) (call:a_) (ts:List AV) (h:ax) (rc:RC) (o:Oper) (x:AV) (h':ax):Prop:=match o.op with
 | .store t a v=>match dA E ts a,dA E ts v with
   | some a,some v=>x=AV.undef∧bY E h t a v=some h'
   | _,_=>False
 | .call c=>match c.callee with
   | .builtin .append=>match fO E ts c.args.toList with
     | some [s,y]=>gq E h c.argTypes s y=some (x,h')
     | _=>False
   | .builtin .copy=>match fO E ts c.args.toList with
     | some [s,y]=>uZ E h c.argTypes s y=some (x,h')
     | _=>False
   | .value _=>match callee E ts c with
     | some (f,args)=>match jH E f with
       | some g=>g args h=some (x,h')
       | none=>call f args h= .ret x h'
     | none=>False
   | _=>cZ E call ts h rc o= .val x h'
 | .convert src dst y=>Dx E h src dst (dA E ts y)=some (x,h')
 | .mapEntry t m k=>match dA E ts m,dA E ts k with
   | some a,some b=>tW E h t a b=some (x,h')
   | _,_=>False
 | .entryStore _ m b v=>match dA E ts m,dA E ts b,dA E ts v with
   | some a,some b,some v=>x=AV.undef∧o_ h a b v=some h'
   | _,_,_=>False
 | _=>cZ E call ts h rc o= .val x h'
theorem LW {ts:List AV} {h:ax} {rc:RC} {o:Oper} {x:AV} {h':ax} (e:Ug E call ts h rc o x h'):cZ E call ts h rc o= .val x h':=by
 unfold Ug at e
 split at e
 · rename_i t a v ho
   split at e
   · rename_i a' v' h1 h2
     obtain ⟨rfl,e⟩:=e
     unfold cZ
     simp only[ho,h1,h2,e]
   · exact e.elim
 · rename_i c ho
   split at e
   · rename_i hc
     split at e
     · rename_i h1
       unfold cZ
       simp only[ho,hc,h1,e]
     · exact e.elim
   · rename_i hc
     split at e
     · rename_i h1
       unfold cZ
       simp only[ho,hc,h1,e]
     · exact e.elim
   · rename_i hc
     split at e
     · rename_i h1
       split at e
       · rename_i h2
         unfold cZ
         simp only[ho,hc,h1,h2,e]
       · rename_i h2
         unfold cZ
         simp only[ho,hc,h1,h2,e]
     · exact e.elim
   · exact e
 · rename_i src dst y ho
   unfold cZ
   simp only[ho,e]
 · rename_i t m k ho
   split at e
   · rename_i a b h1 h2
     unfold cZ
     simp only[ho,h1,h2,e]
   · exact e.elim
 · rename_i t m b v ho
   split at e
   · rename_i a' b' v' h1 h2 h3
     obtain ⟨rfl,e⟩:=e
     unfold cZ
     simp only[ho,h1,h2,h3,e]
   · exact e.elim
 · exact e
def Ng {β:Type} (k:List AV→β):List AV→Nat→AV→β
 | [],_,_=>k []
 | _::xs,0,v=>k (v::xs)
 | x::xs,d+1,v=>Ng (fun ys=>k (x::ys)) xs d v
theorem Fx {β:Type}:∀(k:List AV→β) (ts:List AV) (d:Nat) (v:AV),Ng k ts d v=k (ts.set d v)
 | k,[],_,_=>by simp [Ng]
 | k,_::xs,0,v=>rfl
 | k,x::xs,d+1,v=>by rw[Ng,Fx];rfl
def sJ (s:St) (d:Option Tmp) (v:AV) (h:ax) (as_:List mX) (ps:List Prop):R:=match d with
 | some i=>Ng (fun ts=> .at .normal ⟨ts,h,s.ds,s.rc⟩ as_ ps) s.ts i v
 | none=> .at .normal ⟨s.ts,h,s.ds,s.rc⟩ as_ ps
theorem mD (s:St) (d:Option Tmp) (v:AV) (h:ax) (as_:List mX) (ps:List Prop):Go.Ab.sJ s d v h as_ ps= .at .normal {s with ts:=dB s.ts d v,h:=h} as_ ps:=by
 cases d with
 | none=>rfl
 | some i=>exact Fx _ _ _ _
noncomputable def HZ (E:Env) (call:a_) (o:Oper) (s:St) (as_:List mX) (ps:List Prop):R:=match as_ with
 | .c::as_=>match bp E s.ts o.op with
   | some v=>sJ s o.dst v s.h as_ ps
   | none=> .bad
 | .v x::as_=>sJ s o.dst x s.h as_ ((Ue E s.ts o.op=some x)::ps)
 | .q x::as_=>sJ s o.dst x s.h as_ ((bp E s.ts o.op=some x)::ps)
 | .m x::as_=>match bp E s.ts o.op with
   | none=>sJ s o.dst x s.h as_ ((P6 E s.ts s.h o.op=some x)::ps)
   | some _=> .bad
 | .n h'::as_=>match bp E s.ts o.op,dE E s.ts s.h o.op,dZ E s.ts o.op with
   | none,none,some (obj,mk)=>sJ s o.dst (mk s.h.nx) h' as_ ((s.h.new obj=some h')::ps)
   | _,_,_=> .bad
 | .a obj x h'::as_=>match bp E s.ts o.op,dE E s.ts s.h o.op with
   | none,none=>sJ s o.dst x h' as_ ((∃mk,Uf E s.ts o.op=some (obj,mk)∧mk s.h.nx=x)::(s.h.new obj=some h')::ps)
   | _,_=> .bad
 | .e x h'::as_=>match bp E s.ts o.op,dE E s.ts s.h o.op,dZ E s.ts o.op with
   | none,none,none=>sJ s o.dst x h' as_ (Ug E call s.ts s.h s.rc o x h'::ps)
   | _,_,_=> .bad
 | .p x h'::as_=>match bp E s.ts o.op,dE E s.ts s.h o.op,dZ E s.ts o.op with
   | none,none,none=> .at (.panic x) {s with h:=h'} as_ ((cZ E call s.ts s.h s.rc o= .panic x h')::ps)
   | _,_,_=> .bad
 | _=> .bad
theorem zC {o:Oper} {s:St} {as_:List mX} {ps:List Prop} {e:jY} {s':St} {v8:List mX} {rR:List Prop} (hr:HZ E call o s as_ ps= .at e s' v8 rR) (hp:lQ rR):lQ ps∧En E call s o= .ok e s':=by
 have seen:∀{x:AV},(bp E s.ts o.op=some x∨(bp E s.ts o.op=none∧dE E s.ts s.h o.op=some x))→En E call s o= .ok .normal {s with ts:=dB s.ts o.dst x}:=by
  rintro x (h | ⟨h1,h2⟩)<;>unfold En
  · rw[h]
  · rw[h1,h2]
 unfold HZ at hr
 split at hr
 · split at hr
   · rename_i v hv
     rw[mD] at hr;cases hr
     exact ⟨hp,seen (.inl hv)⟩
   · cases hr
 · rw[mD] at hr;cases hr
   exact ⟨hp.2,seen (.inl (LU hp.1))⟩
 · rw[mD] at hr;cases hr
   exact ⟨hp.2,seen (.inl hp.1)⟩
 · split at hr
   · rename_i h1
     rw[mD] at hr;cases hr
     exact ⟨hp.2,seen (.inr ⟨h1,Fw hp.1⟩)⟩
   · cases hr
 · split at hr
   · rename_i h1 h2 h3
     rw[mD] at hr;cases hr
     refine ⟨hp.2,?_⟩
     unfold En
     simp only[h1,h2,h3,hp.1]
   · cases hr
 · split at hr
   · rename_i h1 h2
     rw[mD] at hr;cases hr
     obtain ⟨⟨mk,h3,h4⟩,h5,hp⟩:=hp
     rw[LV] at h3
     refine ⟨hp,?_⟩
     unfold En
     simp only[h1,h2,h3,h4,h5]
   · cases hr
 · split at hr
   · rename_i h1 h2 h3
     rw[mD] at hr;cases hr
     refine ⟨hp.2,?_⟩
     unfold En
     simp only[h1,h2,h3,LW hp.1]
   · cases hr
 · split at hr
   · rename_i h1 h2 h3
     cases hr
     refine ⟨hp.2,?_⟩
     unfold En
     simp only[h1,h2,h3,hp.1]
   · cases hr
 · cases hr
inductive Gd where
 | yes
 | no
 | ask (v want:Bool)
def H0 (want:Bool):Option AV→Gd
 | some (.bool v)=> .ask v want
 | _=> .no
def Fy (ops:Array Oper) (ts:List AV) (g:Option (Nat×Bool)):Gd:=match g with
 | none=> .yes
 | some (j,want)=>match (ops[j]?).bind (·.dst) with
   | none=> .no
   | some d=>H0 want ts[d]?
theorem DY (ops:Array Oper) (ts:List AV) (o:Oper):cm ops ts o=(match Fy ops ts o.guard with
 | .yes=>true
 | .no=>false
 | .ask v want=>v==want):=by
 unfold cm Fy
 cases o.guard with
 | none=>rfl
 | some q=>
   obtain ⟨j,want⟩:=q
   simp only
   cases (ops[j]?).bind (·.dst) with
   | none=>rfl
   | some d=>
     simp only
     generalize ts[d]? =y
     unfold H0
     cases y with
     | none=>rfl
     | some z=>cases z<;>rfl
noncomputable def pS (E:Env) (call:a_) (ops:Array Oper):List Oper→St→List mX→List Prop→R
 | [],s,as_,ps=> .at .normal s as_ ps
 | o::rest,s,as_,ps=>match Fy ops s.ts o.guard with
   | .yes=>(HZ E call o s as_ ps).go (pS E call ops rest)
   | .no=>(sJ s o.dst AV.undef s.h as_ ps).go (pS E call ops rest)
   | .ask v want=>match as_ with
     | .b x::as_=>bif x==want then (HZ E call o s as_ ((v=x)::ps)).go (pS E call ops rest) else (sJ s o.dst AV.undef s.h as_ ((v=x)::ps)).go (pS E call ops rest)
     | _=> .bad
theorem wV {ops:Array Oper}:∀(l:List Oper) (s:St) (as_:List mX) (ps:List Prop) (e:jY) (s':St) (v8:List mX) (rR:List Prop),pS E call ops l s as_ ps= .at e s' v8 rR→lQ rR→lQ ps∧j1 E call ops l s= .ok e s'
 | [],s,as_,ps,e,s',v8,rR,hr,hp=>by cases hr;exact ⟨hp,rfl⟩
 | o::rest,s,as_,ps,e,s',v8,rR,hr,hp=>by
   have ih:=wV (ops:=ops) rest
   have Xi:∀(ur:List mX) (rN:List Prop),(HZ E call o s ur rN).go (pS E call ops rest)= .at e s' v8 rR→lQ rN∧(cm ops s.ts o=true→j1 E call ops (o::rest) s= .ok e s'):=by
    intro ur rN h
    rcases R.aac h with ⟨s1,SU,Vb,h1,h2⟩ | ⟨h1,ea⟩
    · obtain ⟨h3,h4⟩:=ih _ _ _ _ _ _ _ h2 hp
      obtain ⟨h5,h6⟩:=zC h1 h3
      refine ⟨h5,fun hw=>?_⟩
      unfold j1
      rw[if_pos hw,h6];exact h4
    · obtain ⟨h5,h6⟩:=zC h1 hp
      refine ⟨h5,fun hw=>?_⟩
      unfold j1
      rw[if_pos hw,h6]
      cases e with
      | normal=>exact absurd rfl ea
      | _=>rfl
   have Xj:∀(ur:List mX) (rN:List Prop),(sJ s o.dst AV.undef s.h ur rN).go (pS E call ops rest)= .at e s' v8 rR→lQ rN∧(cm ops s.ts o=false→j1 E call ops (o::rest) s= .ok e s'):=by
    intro ur rN h
    rw[mD] at h
    obtain ⟨h3,h4⟩:=ih _ _ _ _ _ _ _ (show pS E call ops rest _ ur rN=_ from h) hp
    refine ⟨h3,fun hw=>?_⟩
    unfold j1
    rw[if_neg (by rw[hw];exact Bool.false_ne_true)]
    exact h4
   have hg:=DY ops s.ts o
   unfold pS at hr
   split at hr
   · rename_i h1;rw[h1] at hg;exact ⟨(Xi _ _ hr).1,(Xi _ _ hr).2 hg⟩
   · rename_i h1;rw[h1] at hg;exact ⟨(Xj _ _ hr).1,(Xj _ _ hr).2 hg⟩
   · rename_i v want h1
     rw[h1] at hg
     split at hr
     · rename_i x ur
       cases hx:x==want with
       | true=>
         rw[hx] at hr
         obtain ⟨⟨h2,h3⟩,h4⟩:=Xi _ _ hr
         exact ⟨h3,h4 (by rw[hg,h2];exact hx)⟩
       | false=>
         rw[hx] at hr
         obtain ⟨⟨h2,h3⟩,h4⟩:=Xj _ _ hr
         exact ⟨h3,h4 (by rw[hg,h2];exact hx)⟩
     · cases hr
inductive RT where
 | bad
 | ok (tr:List Step) (hs:List ax) (s:St) (as_:List mX) (ps:List Prop)
def RT.step (x:Step):RT→RT
 | .ok tr hs s as_ ps=> .ok (x::tr) hs s as_ ps
 | .bad=> .bad
def RT.bound (x:Step) (h:ax):RT→RT
 | .ok tr hs s as_ ps=> .ok (x::tr) (h::hs) s as_ ps
 | .bad=> .bad
def RT.put (s:St) (d:Option Tmp) (v:AV) (h:ax) (k:St→RT):RT:=match d with
 | some i=>Ng (fun ts=>k ⟨ts,h,s.ds,s.rc⟩) s.ts i v
 | none=>k ⟨s.ts,h,s.ds,s.rc⟩
theorem RT.put_eq (s:St) (d:Option Tmp) (v:AV) (h:ax) (k:St→RT):RT.put s d v h k=k {s with ts:=dB s.ts d v,h:=h}:=by
 cases d with
 | none=>rfl
 | some i=>exact Fx _ _ _ _
noncomputable def H2 (E:Env) (call:a_) (i k:Nat) (o:Oper) (s:St) (as_:List mX) (ps:List Prop) (go:Nat→St→List mX→List Prop→RT):RT:=match as_ with
 | .e x h'::as_=>(RT.put s o.dst x h' fun s'=>go (k+1) s' as_ (Ug E call s.ts s.h s.rc o x h'::ps)).bound ⟨i,k,s.ts,x,.uF h'⟩ s.h
 | _=> .bad
noncomputable def H4 (E:Env) (i k:Nat) (o:Oper) (s:St) (as_:List mX) (ps:List Prop) (go:Nat→St→List mX→List Prop→RT):RT:=match as_ with
 | .c::as_=>match bp E s.ts o.op with
   | some v=>(RT.put s o.dst v s.h fun s'=>go k s' as_ ps).step ⟨i,k,s.ts,v,.gG⟩
   | none=> .bad
 | .v x::as_=>(RT.put s o.dst x s.h fun s'=>go k s' as_ ((Ue E s.ts o.op=some x)::ps)).step ⟨i,k,s.ts,x,.gG⟩
 | .q x::as_=>(RT.put s o.dst x s.h fun s'=>go k s' as_ ((bp E s.ts o.op=some x)::ps)).step ⟨i,k,s.ts,x,.gG⟩
 | .m x::as_=>match bp E s.ts o.op with
   | none=>(RT.put s o.dst x s.h fun s'=>go k s' as_ ((P6 E s.ts s.h o.op=some x)::ps)).step ⟨i,k,s.ts,x,.red⟩
   | some _=> .bad
 | .n h'::as_=>match bp E s.ts o.op,dE E s.ts s.h o.op,dZ E s.ts o.op with
   | none,none,some (obj,mk)=>(RT.put s o.dst (mk s.h.nx) h' fun s'=>go k s' as_ ((s.h.new obj=some h')::ps)).step ⟨i,k,s.ts,mk s.h.nx,.sg s.h.nx obj⟩
   | _,_,_=> .bad
 | .a obj x h'::as_=>match bp E s.ts o.op,dE E s.ts s.h o.op with
   | none,none=>(RT.put s o.dst x h' fun s'=>go k s' as_ ((∃mk,Uf E s.ts o.op=some (obj,mk)∧mk s.h.nx=x)::(s.h.new obj=some h')::ps)).step ⟨i,k,s.ts,x,.sg s.h.nx obj⟩
   | _,_=> .bad
 | _=> .bad
noncomputable def runT (E:Env) (call:a_) (ops:Array Oper):List Nat→Nat→St→List mX→List Prop→RT
 | [],_,s,as_,ps=> .ok [] [s.h] s as_ ps
 | i::rest,k,s,as_,ps=>match ops[i]? with
   | none=> .bad
   | some o=>match Fy ops s.ts o.guard with
     | .yes=>bif fw E o.op then H2 E call i k o s as_ ps (runT E call ops rest) else H4 E i k o s as_ ps (runT E call ops rest)
     | .no=>bif fw E o.op then (RT.put s o.dst AV.undef s.h fun s'=>runT E call ops rest (k+1) s' as_ ps).bound ⟨i,k,s.ts,AV.undef,.off⟩ s.h else (RT.put s o.dst AV.undef s.h fun s'=>runT E call ops rest k s' as_ ps).step ⟨i,k,s.ts,AV.undef,.off⟩
     | .ask v want=>match as_ with
       | .b x::as_=>bif x==want then (bif fw E o.op then H2 E call i k o s as_ ((v=x)::ps) (runT E call ops rest) else H4 E i k o s as_ ((v=x)::ps) (runT E call ops rest))
         else (bif fw E o.op then (RT.put s o.dst AV.undef s.h fun s'=>runT E call ops rest (k+1) s' as_ ((v=x)::ps)).bound ⟨i,k,s.ts,AV.undef,.off⟩ s.h else (RT.put s o.dst AV.undef s.h fun s'=>runT E call ops rest k s' as_ ((v=x)::ps)).step ⟨i,k,s.ts,AV.undef,.off⟩)
       | _=> .bad
theorem RT.ri {x:Step} {r:RT} {tr:List Step} {hs:List ax} {s:St} {as_:List mX} {ps:List Prop} (h:r.step x= .ok tr hs s as_ ps):∃Jf,tr=x::Jf∧r= .ok Jf hs s as_ ps:=by
 cases r with
 | bad=>cases h
 | ok a b c d e=>cases h;exact ⟨_,rfl,rfl⟩
theorem RT.H5 {x:Step} {g:ax} {r:RT} {tr:List Step} {hs:List ax} {s:St} {as_:List mX} {ps:List Prop} (h:r.bound x g= .ok tr hs s as_ ps):∃Jf qO,tr=x::Jf∧hs=g::qO∧r= .ok Jf qO s as_ ps:=by
 cases r with
 | bad=>cases h
 | ok a b c d e=>cases h;exact ⟨_,_,rfl,rfl,rfl⟩
theorem Br {ops:Array Oper}:∀(l:List Nat) (k:Nat) (s:St) (as_:List mX) (ps:List Prop) (tr:List Step) (hs:List ax) (s':St) (v8:List mX) (rR:List Prop),
 runT E call ops l k s as_ ps= .ok tr hs s' v8 rR→lQ rR→lQ ps∧cM E call ops l k s= .ok tr hs s'
 | [],k,s,as_,ps,tr,hs,s',v8,rR,hr,hp=>by cases hr;exact ⟨hp,rfl⟩
 | i::rest,k,s,as_,ps,tr,hs,s',v8,rR,hr,hp=>by
   have ih:=Br (ops:=ops) rest
   unfold runT at hr
   split at hr
   · cases hr
   rename_i o hi
   have hE:∀{ur:List mX} {rN:List Prop},fw E o.op=true→H2 E call i k o s ur rN (runT E call ops rest)= .ok tr hs s' v8 rR→lQ rN∧(cm ops s.ts o=true→cM E call ops (i::rest) k s= .ok tr hs s'):=by
    intro ur rN he h
    unfold H2 at h
    split at h
    · rename_i x h' SU
      rw[RT.put_eq] at h
      obtain ⟨Ll,qQ,rfl,rfl,h9⟩:=RT.H5 h
      obtain ⟨h1,h2⟩:=ih _ _ _ _ _ _ _ _ _ h9 hp
      refine ⟨h1.2,fun hw=>?_⟩
      unfold cM
      simp only[hi,he,hw,if_true,LW h1.1,h2]
      rfl
    · cases h
   have hN:∀{ur:List mX} {rN:List Prop},fw E o.op=false→H4 E i k o s ur rN (runT E call ops rest)= .ok tr hs s' v8 rR→lQ rN∧(cm ops s.ts o=true→cM E call ops (i::rest) k s= .ok tr hs s'):=by
    intro ur rN he h
    unfold H4 at h
    split at h
    · split at h
      · rename_i v hv
        rw[RT.put_eq] at h
        obtain ⟨Ll,rfl,h9⟩:=RT.ri h
        obtain ⟨h1,h2⟩:=ih _ _ _ _ _ _ _ _ _ h9 hp
        refine ⟨h1,fun hw=>?_⟩
        unfold cM
        simp only[hi,he,hw,if_true,hv,Bool.false_eq_true,if_false]
        rw[h2]
        rfl
      · cases h
    · rw[RT.put_eq] at h
      obtain ⟨Ll,rfl,h9⟩:=RT.ri h
      obtain ⟨h1,h2⟩:=ih _ _ _ _ _ _ _ _ _ h9 hp
      refine ⟨h1.2,fun hw=>?_⟩
      unfold cM
      simp only[hi,he,hw,if_true,LU h1.1,Bool.false_eq_true,if_false]
      rw[h2]
      rfl
    · rw[RT.put_eq] at h
      obtain ⟨Ll,rfl,h9⟩:=RT.ri h
      obtain ⟨h1,h2⟩:=ih _ _ _ _ _ _ _ _ _ h9 hp
      refine ⟨h1.2,fun hw=>?_⟩
      unfold cM
      simp only[hi,he,hw,if_true,h1.1,Bool.false_eq_true,if_false]
      rw[h2]
      rfl
    · split at h
      · rename_i hv
        rw[RT.put_eq] at h
        obtain ⟨Ll,rfl,h9⟩:=RT.ri h
        obtain ⟨h1,h2⟩:=ih _ _ _ _ _ _ _ _ _ h9 hp
        refine ⟨h1.2,fun hw=>?_⟩
        unfold cM
        simp only[hi,he,hw,if_true,hv,Fw h1.1,Bool.false_eq_true,if_false]
        rw[h2]
        rfl
      · cases h
    · split at h
      · rename_i q1 q2 q3
        rw[RT.put_eq] at h
        obtain ⟨Ll,rfl,h9⟩:=RT.ri h
        obtain ⟨h1,h2⟩:=ih _ _ _ _ _ _ _ _ _ h9 hp
        refine ⟨h1.2,fun hw=>?_⟩
        unfold cM
        simp only[hi,he,hw,if_true,q1,q2,q3,h1.1,Bool.false_eq_true,if_false,h2]
        rfl
      · cases h
    · split at h
      · rename_i q1 q2
        rw[RT.put_eq] at h
        obtain ⟨Ll,rfl,h9⟩:=RT.ri h
        obtain ⟨h1,h2⟩:=ih _ _ _ _ _ _ _ _ _ h9 hp
        obtain ⟨⟨mk,h3,h4⟩,h5,h6⟩:=h1
        rw[LV] at h3
        subst h4
        refine ⟨h6,fun hw=>?_⟩
        unfold cM
        simp only[hi,he,hw,if_true,q1,q2,h3,h5,Bool.false_eq_true,if_false,h2]
        rfl
      · cases h
    · cases h
   have hO:∀{ur:List mX} {rN:List Prop},(bif fw E o.op then (RT.put s o.dst AV.undef s.h fun s'=>runT E call ops rest (k+1) s' ur rN).bound ⟨i,k,s.ts,AV.undef,.off⟩ s.h else (RT.put s o.dst AV.undef s.h fun s'=>runT E call ops rest k s' ur rN).step ⟨i,k,s.ts,AV.undef,.off⟩)= .ok tr hs s' v8 rR→
    lQ rN∧(cm ops s.ts o=false→cM E call ops (i::rest) k s= .ok tr hs s'):=by
    intro ur rN h
    cases he:fw E o.op with
    | true=>
      rw[he,cond_true,RT.put_eq] at h
      obtain ⟨Ll,qQ,rfl,rfl,h9⟩:=RT.H5 h
      obtain ⟨h1,h2⟩:=ih _ _ _ _ _ _ _ _ _ h9 hp
      refine ⟨h1,fun hw=>?_⟩
      unfold cM
      simp only[hi,he,hw,if_true,Bool.false_eq_true,if_false]
      rw[h2]
      rfl
    | false=>
      rw[he,cond_false,RT.put_eq] at h
      obtain ⟨Ll,rfl,h9⟩:=RT.ri h
      obtain ⟨h1,h2⟩:=ih _ _ _ _ _ _ _ _ _ h9 hp
      refine ⟨h1,fun hw=>?_⟩
      unfold cM
      simp only[hi,he,hw,Bool.false_eq_true,if_false]
      rw[h2]
      rfl
   have hY:∀{ur:List mX} {rN:List Prop},(bif fw E o.op then H2 E call i k o s ur rN (runT E call ops rest) else H4 E i k o s ur rN (runT E call ops rest))= .ok tr hs s' v8 rR→
    lQ rN∧(cm ops s.ts o=true→cM E call ops (i::rest) k s= .ok tr hs s'):=by
    intro ur rN h
    cases he:fw E o.op with
    | true=>rw[he] at h;exact hE he h
    | false=>rw[he] at h;exact hN he h
   have hg:=DY ops s.ts o
   split at hr
   · rename_i h1;rw[h1] at hg;exact ⟨(hY hr).1,(hY hr).2 hg⟩
   · rename_i h1;rw[h1] at hg;exact ⟨(hO hr).1,(hO hr).2 hg⟩
   · rename_i v want h1
     rw[h1] at hg
     split at hr
     · rename_i x ur
       cases hx:x==want with
       | true=>
         rw[hx] at hr
         obtain ⟨⟨h2,h3⟩,h4⟩:=hY hr
         exact ⟨h3,h4 (by rw[hg,h2];exact hx)⟩
       | false=>
         rw[hx] at hr
         obtain ⟨⟨h2,h3⟩,h4⟩:=hO hr
         exact ⟨h3,h4 (by rw[hg,h2];exact hx)⟩
     · cases hr
noncomputable def J4 (E:Env) (ops:Array Oper) (x:Step) (h:ax) (ps:List Prop):List Prop:=match x.kind with
 | .red=>match ops[x.i]? with
   | some o=>(AV.same 20 x.v x.v=true)::(P6 E x.ts h o.op=some x.v)::ps
   | none=>False::ps
 | .sg n obj=>(∃o,h.get n=some o∧aK.same o obj=true)::ps
 | _=>ps
noncomputable def J5 (E:Env) (ops:Array Oper) (x:Step):List ax→List Prop→List Prop
 | [],ps=>ps
 | h::hs,ps=>J5 E ops x hs (J4 E ops x h ps)
noncomputable def wX (E:Env) (ops:Array Oper) (bK:List Nat) (an:List (List Nat)) (hs:List ax):List Step→List Prop→List Prop
 | [],ps=>ps
 | x::tr,ps=>wX E ops bK an hs tr (J5 E ops x ((hs.drop x.k).take (j2 bK an x.i+1 - x.k)) ps)
theorem Nh {ops:Array Oper} {x:Step} {h:ax} {ps:List Prop} (hc:lQ (J4 E ops x h ps)):lQ ps∧jm E ops x h=true:=by
 unfold J4 at hc
 unfold jm
 split at hc
 · rename_i hk
   simp only[hk]
   split at hc
   · rename_i o ho
     have fG:ops.getD x.i default=o:=by simp [Array.getD_eq_getD_getElem?,ho]
     simp only[fG,Fw hc.2.1,hc.1]
     exact ⟨hc.2.2,trivial⟩
   · exact hc.1.elim
 · rename_i n obj hk
   obtain ⟨⟨o,h1,h2⟩,h3⟩:=hc
   simp only[hk,h1,h2]
   exact ⟨h3,trivial⟩
 · rename_i h1 h2
   refine ⟨hc,?_⟩
   split
   · rename_i hk;exact absurd hk (by assumption)
   · rename_i hk;exact absurd hk (h2 _ _)
   · rfl
theorem DZ {ops:Array Oper} {x:Step}:∀(hs:List ax) (ps:List Prop),lQ (J5 E ops x hs ps)→lQ ps∧hs.all (jm E ops x)=true
 | [],ps,hc=>⟨hc,rfl⟩
 | h::hs,ps,hc=>by
   obtain ⟨h1,h2⟩:=DZ hs _ hc
   obtain ⟨h3,h4⟩:=Nh h1
   exact ⟨h3,by simp only[List.all_cons,h4,h2,Bool.and_self]⟩
theorem zD {ops:Array Oper} {bK:List Nat} {an:List (List Nat)} {hs:List ax}:∀(tr:List Step) (ps:List Prop),lQ (wX E ops bK an hs tr ps)→
 lQ ps∧(tr.all fun x=>((hs.drop x.k).take (j2 bK an x.i+1 - x.k)).all (jm E ops x))=true
 | [],ps,hc=>⟨hc,rfl⟩
 | x::tr,ps,hc=>by
   obtain ⟨h1,h2⟩:=zD tr _ hc
   obtain ⟨h3,h4⟩:=DZ _ _ h1
   exact ⟨h3,by simp only[List.all_cons,h4,h2,Bool.and_self]⟩
noncomputable def P7 (l:List Nat) (ps:List Prop):List Prop:=match l with
 | []=>ps
 | [_]=>ps
 | l=>(nodup l=true)::ps
noncomputable def Fz (E:Env) (call:a_) (ops:Array Oper) (s:St) (as_:List mX) (ps:List Prop):R:=match sf E ops with
 | none=> .bad
 | some pl=>match runT E call ops pl.order 0 s as_ ps with
   | .ok tr hs s' v8 rR=> .at .normal s' v8 (P7 (qK tr) (wX E ops pl.bK pl.an hs tr rR))
   | .bad=> .bad
theorem Dj {ops:Array Oper} {s:St} {as_:List mX} {ps:List Prop} {e:jY} {s':St} {v8:List mX} {rR:List Prop} (hr:Fz E call ops s as_ ps= .at e s' v8 rR) (hp:lQ rR):lQ ps∧we E call ops s= .ok e s':=by
 unfold Fz at hr
 split at hr
 · cases hr
 rename_i pl MH
 split at hr
 · rename_i tr hs s1 ur rN h1
   cases hr
   have hn:lQ (wX E ops pl.bK pl.an hs tr rN)∧nodup (qK tr)=true:=by
    unfold P7 at hp
    split at hp
    · rename_i hm;exact ⟨hp,by rw[hm];rfl⟩
    · rename_i hm;exact ⟨hp,by rw[hm];rfl⟩
    · exact ⟨hp.2,hp.1⟩
   obtain ⟨h2,h3⟩:=zD _ _ hn.1
   obtain ⟨h4,h5⟩:=Br _ _ _ _ _ _ _ _ _ _ h1 h2
   refine ⟨h4,?_⟩
   unfold we
   simp only[MH,h5]
   have:qL E ops pl tr hs=true:=by
    unfold qL
    rw[hn.2,Bool.true_and]
    exact h3
   rw[if_pos this]
 · cases hr
noncomputable def run (E:Env) (call:a_):Nat→Code→St→List mX→List Prop→R
 | 0,_,_,_,_=> .bad
 | n+1,c,s,as_,ps=>match c with
   | .skip=> .at .normal s as_ ps
   | .ret=> .at .ret s as_ ps
   | .exit i=> .at (.exit i) s as_ ps
   | .seq a b=>match run E call n a s as_ ps with
     | .at .normal s1 ur rN=>run E call n b s1 ur rN
     | r=>r
   | .cond x a b=>match as_ with
     | .b v::as_=>match dA E s.ts x with
       | some (.bool u)=>bif v then run E call n a s as_ ((u=true)::ps) else run E call n b s as_ ((u=false)::ps)
       | _=> .bad
     | .l e s'::as_=> .at e s' as_ (Ev E call (.cond x a b) s e s'::ps)
     | _=> .bad
   | .block id b=>match run E call n b s as_ ps with
     | .at (.exit j) s1 ur rN=>bif Nat.beq j id then .at .normal s1 ur rN else .at (.exit j) s1 ur rN
     | r=>r
   | .loop b=>match as_ with
     | .l e s'::as_=> .at e s' as_ (Ev E call (.loop b) s e s'::ps)
     | _=> .bad
   | .rangeFunc f rR a b=>match as_ with
     | .l e s'::as_=> .at e s' as_ (Ev E call (.rangeFunc f rR a b) s e s'::ps)
     | _=> .bad
   | .region i ops draw=>match as_ with
     | .l e s'::as_=> .at e s' as_ (Ev E call (.region i ops draw) s e s'::ps)
     | as_=>bif draw then Fz E call ops s as_ ps else pS E call ops ops.toList s as_ ps
   | .scope b=>run E call n b s as_ ps
   | .label _=> .at .normal s as_ ps
   | _=> .bad
theorem D0:∀(n:Nat) (c:Code) (s:St) (as_:List mX) (ps:List Prop) (e:jY) (s':St) (v8:List mX) (rR:List Prop),run E call n c s as_ ps= .at e s' v8 rR→lQ rR→lQ ps∧Ev E call c s e s'
 | 0,c,s,as_,ps,e,s',v8,rR,hr,hp=>by cases hr
 | n+1,c,s,as_,ps,e,s',v8,rR,hr,hp=>by
   have ih:=D0 n
   unfold run at hr
   split at hr
   · cases hr;exact ⟨hp,.of fun _=>rfl⟩
   · cases hr;exact ⟨hp,.of fun _=>rfl⟩
   · cases hr;exact ⟨hp,.of fun _=>rfl⟩
   · split at hr
     · rename_i s1 ur rN h1
       obtain ⟨h2,h3⟩:=ih _ _ _ _ _ _ _ _ hr hp
       obtain ⟨h4,h5⟩:=ih _ _ _ _ _ _ _ _ h1 h2
       exact ⟨h4,h5.seq h3⟩
     · rename_i ea
       obtain ⟨h4,h5⟩:=ih _ _ _ _ _ _ _ _ hr hp
       refine ⟨h4,h5.seq' fun he=>?_⟩
       subst he;exact ea _ _ _ hr
   · split at hr
     · rename_i v ur
       split at hr
       · rename_i u hu
         cases v with
         | true=>
           obtain ⟨⟨h1,h2⟩,n0,h3⟩:=ih _ _ _ _ _ _ _ _ hr hp
           refine ⟨h2,n0+1,fun n hn=>?_⟩
           obtain ⟨k,rfl⟩:∃k,n=k+1:=⟨n - 1,by omega⟩
           rw[PW,hu,h1,J3];exact h3 k (by omega)
         | false=>
           obtain ⟨⟨h1,h2⟩,n0,h3⟩:=ih _ _ _ _ _ _ _ _ hr hp
           refine ⟨h2,n0+1,fun n hn=>?_⟩
           obtain ⟨k,rfl⟩:∃k,n=k+1:=⟨n - 1,by omega⟩
           rw[PW,hu,h1,HX];exact h3 k (by omega)
       · cases hr
     · cases hr;exact ⟨hp.2,hp.1⟩
     · cases hr
   · split at hr
     · rename_i id b _ j s1 ur rN h1
       cases hj:Nat.beq j id with
       | true=>
         rw[hj] at hr
         cases hr
         obtain ⟨h2,n0,h3⟩:=ih _ _ _ _ _ _ _ _ h1 hp
         refine ⟨h2,n0+1,fun n hn=>?_⟩
         obtain ⟨k,rfl⟩:∃k,n=k+1:=⟨n - 1,by omega⟩
         rw[Ft,h3 k (by omega),zA,if_pos (Nat.eq_of_beq_eq_true hj)]
       | false=>
         rw[hj] at hr
         cases hr
         obtain ⟨h2,n0,h3⟩:=ih _ _ _ _ _ _ _ _ h1 hp
         refine ⟨h2,n0+1,fun n hn=>?_⟩
         obtain ⟨k,rfl⟩:∃k,n=k+1:=⟨n - 1,by omega⟩
         rw[Ft,h3 k (by omega),zA,if_neg (Nat.ne_of_beq_eq_false hj)]
     · rename_i id b _ ea
       obtain ⟨h2,n0,h3⟩:=ih _ _ _ _ _ _ _ _ hr hp
       refine ⟨h2,n0+1,fun n hn=>?_⟩
       obtain ⟨k,rfl⟩:∃k,n=k+1:=⟨n - 1,by omega⟩
       rw[Ft,h3 k (by omega)]
       cases e with
       | exit j=>exact absurd hr (ea _ _ _ _)
       | _=>rfl
   · split at hr
     · cases hr;exact ⟨hp.2,hp.1⟩
     · cases hr
   · split at hr
     · cases hr;exact ⟨hp.2,hp.1⟩
     · cases hr
   · rename_i i ops draw
     split at hr
     · cases hr;exact ⟨hp.2,hp.1⟩
     cases draw with
     | true=>
       simp only[cond_true] at hr
       obtain ⟨h1,h2⟩:=Dj hr hp
       exact ⟨h1,.of fun n=>by rw[T2];exact h2⟩
     | false=>
       simp only[cond_false] at hr
       obtain ⟨h1,h2⟩:=wV _ _ _ _ _ _ _ _ hr hp
       exact ⟨h1,.of fun n=>by rw[PY];exact h2⟩
   · obtain ⟨h1,n0,h2⟩:=ih _ _ _ _ _ _ _ _ hr hp
     exact ⟨h1,n0+1,fun n hn=>by
      obtain ⟨k,rfl⟩:∃k,n=k+1:=⟨n - 1,by omega⟩
      show exec E call k _ s=_
      exact h2 k (by omega)⟩
   · cases hr;exact ⟨hp,.of fun _=>rfl⟩
   · cases hr
theorem Bs {n:Nat} {c:Code} {s:St} {al:List mX} {e:jY} {s':St} {ps:List Prop} (hr:run E call n c s al []= .at e s' [] ps) (hp:lQ ps):Ev E call c s e s':=(D0 _ _ _ _ _ _ _ _ _ hr hp).2
theorem Dk {tmpl:(Nat→AV)→List AV} {c:Code} {s:St} {e:jY} {h:ax} {ds:List ny} {rc:RC} {L:List AV} (ev:Ev E call c s e ⟨L,h,ds,rc⟩) (hl:L=tmpl fun k=>L.getD k AV.undef):∃y,Ev E call c s e ⟨tmpl y,h,ds,rc⟩:=by
 refine ⟨fun k=>L.getD k AV.undef,?_⟩
 rw[←hl];exact ev
theorem Ni {tmpl:(Nat→AV)→List AV} {b:Code} {s s':St} {h:ax} {ds:List ny} {rc:RC} {L:List AV} {e:jY} (ev:Ev E call b s .normal ⟨L,h,ds,rc⟩) (hl:L=tmpl fun k=>L.getD k AV.undef) (ih:Ev E call (.loop b) ⟨tmpl fun k=>L.getD k AV.undef,h,ds,rc⟩ e s'):Ev E call (.loop b) s e s':=by
 rw[←hl] at ih
 exact ev.loop ih
theorem Uh {f:FuncId} {fn:Func} {c:Code} (hf:E.P.funcs[f]? =some fn) (hb:fn.body=some c) {args:List AV} {h h':ax} {ts:List AV} {x:jY} (hx:x= .normal∨x= .ret)
 (e:Ev E call c ⟨args++List.replicate (fn.ntmps - args.length) AV.undef,h,[],.no⟩ x ⟨ts,h',[],.no⟩) {vs:List AV} (hr:ky E h' ts fn.results.toList=some vs):∃n0,∀n,n0≤n→zy E call n f args h= .ret (gP vs) h':=by
 obtain ⟨n0,e⟩:=e
 exact ⟨n0,fun n hn=>Nd hf hb hx (e n hn) hr⟩
def wY (E:Env) (call:a_) (f:FuncId) (args:List AV) (h:ax) (v:AV) (h':ax):Prop:=∃n0,∀n,n0≤n→zy E call n f args h= .ret v h'
theorem aI {f:FuncId} {fn:Func} {c:Code} {args ts0 ts:List AV} {h h':ax} {x:jY} {v:AV} (hf:E.P.funcs[f]? =some fn) (hb:fn.body=some c) (ht:args++List.replicate (fn.ntmps - args.length) AV.undef=ts0) (hx:x= .normal∨x= .ret)
 (e:Ev E call c ⟨ts0,h,[],.no⟩ x ⟨ts,h',[],.no⟩) (hr:(ky E h' ts fn.results.toList).map gP=some v):wY E call f args h v h':=by
 subst ht
 cases hv:ky E h' ts fn.results.toList with
 | none=>rw[hv] at hr;cases hr
 | some vs=>
   rw[hv] at hr
   obtain rfl:gP vs=v:=Option.some.inj hr
   exact Uh hf hb hx e hv
end Go.Ab
end
section
namespace Go.Ab
variable {E:Env}
theorem vB {t:TypeId} {c d:Bool} {k:IntKind} {a b z:Int} (h:k.wrap (a+b)=z):bu E .add t c d (some (.int k a)) (some (.int k b))=some (.int k z):=by rw[T4,h]
theorem J6 {t:TypeId} {c d:Bool} {k:IntKind} {a b z:Int} (h:k.wrap (a - b)=z):bu E .sub t c d (some (.int k a)) (some (.int k b))=some (.int k z):=by rw[T5,h]
theorem Bt {t:TypeId} {c d:Bool} {k:IntKind} {a b z:Int} (h:k.wrap (a*b)=z):bu E .mul t c d (some (.int k a)) (some (.int k b))=some (.int k z):=by rw[T6,h]
theorem Bu {t:TypeId} {c d:Bool} {k:IntKind} {a b z:Int} (hb:b≠0) (h:k.wrap (a.tdiv b)=z):bu E .quo t c d (some (.int k a)) (some (.int k b))=some (.int k z):=by rw[Uc _ _ _ _ _ _ hb,h]
theorem Bv {t:TypeId} {c d:Bool} {k:IntKind} {a b z:Int} (hb:b≠0) (h:a.tmod b=z):bu E .rem t c d (some (.int k a)) (some (.int k b))=some (.int k z):=by simp [bu,jG,cY,hb,h]
theorem kC (k:IntKind) (n:Int):AV.scalar (.int k n)=true:=rfl
theorem iA (b:Bool):AV.scalar (.bool b)=true:=rfl
theorem kD (b:List UInt8):AV.scalar (.str b)=true:=rfl
theorem kE (i o:Nat):AV.scalar (.ptr i o)=true:=rfl
theorem fY (i o n c:Nat) (b:Bool):AV.scalar (.slice i o n c b)=true:=rfl
theorem nW:AV.scalar .aX=true:=rfl
theorem nX:AV.scalar .dc=true:=rfl
theorem nY:AV.scalar .dw=true:=rfl
theorem nZ:AV.scalar .nilFunc=true:=rfl
theorem n4:AV.scalar .nilIface=true:=rfl
theorem kF (i:Nat):AV.scalar (.map i)=true:=rfl
theorem P9 {h:ax} {t:TypeId} {i o:Nat} {cs:List AV} {e:TypeId} {ro:Bool} {v:AV} (hg:h.get i=some (.cells cs e ro)) (hv:iY E t cs o=some v):bS E h t (.ptr i o)=some v:=by
 simp only[bS,hg,hv]
theorem FA {h h':ax} {o:aK} (n:h.new o=some h'):h'.get h.nx=some o:=(ax.lq n).2.2.1
theorem J7 {h h':ax} {o:aK} (n:h.new o=some h'):h'.nx=h.nx+1:=(ax.lq n).2.1
theorem Bw {h h':ax} {o x:aK} {i:Nat} (y:Tidy h) (n:h.new o=some h') (g:h.get i=some x):h'.get i=some x:=by
 have:=y i x g
 rw[(ax.lq n).2.2.2 i (by omega)];exact g
theorem LX {h h':ax} {o:aK} (y:Tidy h) (n:h.new o=some h'):Has h h':=fun _ _ g=>Bw y n g
theorem wZ {h h':ax} {o:aK} (y:Tidy h) (n:h.new o=some h'):Tidy h':=fun i x g=>by
 obtain ⟨_,h2,h3,h4⟩:=ax.lq n
 by_cases hx:i=h.nx
 · omega
 · rw[h4 i hx] at g;have:=y i x g;omega
theorem FC {h:ax} (o:aK):∃h',h.new o=some h':=⟨_,ax.Eo _ _⟩
theorem H6 {h:ax} {t e:TypeId} {i o n:Nat} {cs:List AV} {v:AV} (g:h.get i=some (.cells cs e false)) (hs:b_ E t=some n) (hv:v.cells.length=n) (ho:o+n≤cs.length) (hk:v.cells.all AV.scalar=true):∃h',bY E h t (.ptr i o) v=some h':=by
 refine ⟨h.put i (some (.cells (setFrom cs o v.cells) e false)),?_⟩
 simp only[bY,g,hs]
 rw[if_pos ⟨hv,ho,hk⟩]
theorem w_ {h h':ax} {t e:TypeId} {i o:Nat} {cs:List AV} {v:AV} (s:bY E h t (.ptr i o) v=some h') (g:h.get i=some (.cells cs e false)):h'=h.put i (some (.cells (setFrom cs o v.cells) e false)):=by
 simp only[bY,g] at s
 split at s
 · rename_i h1 _
   cases h1
   split at s
   · exact (Option.some.inj s).symm
   · cases s
 · cases s
theorem D1 {h h':ax} {t e:TypeId} {i o:Nat} {cs:List AV} {v:AV} (y:Tidy h) (s:bY E h t (.ptr i o) v=some h') (g:h.get i=some (.cells cs e false)):h'.get i=some (.cells (setFrom cs o v.cells) e false):=by
 rw[w_ s g]
 have:=y i _ g
 exact ax.cn _
theorem Bx {h h':ax} {t e:TypeId} {i j o:Nat} {cs:List AV} {v:AV} {x:aK} (y:Tidy h) (s:bY E h t (.ptr i o) v=some h') (g:h.get i=some (.cells cs e false)) (hj:j≠i) (gx:h.get j=some x):h'.get j=some x:=by
 rw[w_ s g]
 have:=y i _ g
 rw[ax.bP (Ne.symm hj)];exact gx
theorem By {h h':ax} {t e:TypeId} {i o:Nat} {cs:List AV} {v:AV} (s:bY E h t (.ptr i o) v=some h') (g:h.get i=some (.cells cs e false)):h'.nx=h.nx:=by
 rw[w_ s g];exact ax.Wt _ _ _
theorem Bz {h h':ax} {t e:TypeId} {i o:Nat} {cs:List AV} {v:AV} (y:Tidy h) (s:bY E h t (.ptr i o) v=some h') (g:h.get i=some (.cells cs e false)):Tidy h':=fun j x gj=>by
 have hi:=y i _ g
 rw[By s g]
 by_cases hx:j=i
 · omega
 · rw[w_ s g,ax.bP (Ne.symm hx)] at gj
   exact y j x gj
def n5 (h h':ax) (b:Nat) (o:aK):Prop:=Tidy h'∧h'.get b=some o∧∀i x,i≠b→h.get i=some x→h'.get i=some x
theorem n5.has {h0 h h':ax} {b:Nat} {o:aK} (c:n5 h h' b o) (a:Has h0 h) (y:Tidy h0) (hb:h0.nx≤b):Has h0 h':=fun i x g=>by
 have:=y i x g
 exact c.2.2 i x (by omega) (a i x g)
end Go.Ab
end
section
namespace Go.Ab
variable {E:Env}
theorem dT {p:Prop} [Decidable p] (h:p):decide p=true:=decide_eq_true h
theorem dF {p:Prop} [Decidable p] (h:¬p):decide p=false:=decide_eq_false h
theorem nT {p:Prop} [Decidable p] (h:¬p):(!decide p)=true:=by rw[decide_eq_false h];rfl
theorem nF {p:Prop} [Decidable p] (h:p):(!decide p)=false:=by rw[decide_eq_true h];rfl
theorem Ui {l:List Nat} {k:Nat} (h:k<l.length):l[k]? =some (l.getD k 0):=by simp [List.getD_eq_getElem?_getD,List.getElem?_eq_getElem h]
def b5:Code→List Code
 | .seq a b=>b5 a++b5 b
 | .cond _ a b=>b5 a++b5 b
 | .block _ b=>b5 b
 | .loop b=>b::b5 b
 | .scope b=>b5 b
 | .rangeFunc _ _ _ b=>b::b5 b
 | _=> []
structure nh (E:Env) (h:ax) (e:TypeId) (n:Nat) (av:AV) (len:Nat) (cs:List AV):Prop where
 size:b_ E e=some n
 cells:cs.length=len*n
 small:len<2^60
 lens:cg (some (.slice e)) (some av)=some (.int .i64 (len:Nat))
 block:len=0∨∃p o m c b C f ro,av= .slice p o m c b∧m≤c∧h.get p=some (.cells C f ro)∧(∀j,j<cs.length→C[o+j]? =cs[j]?)
theorem nh.has {h h':ax} {e:TypeId} {n:Nat} {av:AV} {len:Nat} {cs:List AV} (x:nh E h e n av len cs) (hh:Has h h'):nh E h' e n av len cs:=
 ⟨x.size,x.cells,x.small,x.lens,x.block.imp id fun ⟨p,o,m,c,b,C,f,ro,h1,h0,h2,h3⟩=>⟨p,o,m,c,b,C,f,ro,h1,h0,hh _ _ h2,h3⟩⟩
theorem nh.elem {h:ax} {e:TypeId} {av:AV} {len:Nat} {cs:List AV} (x:nh E h e 1 av len cs) (ha:fT E e=some false) {i:Nat} {v:AV} (hv:cs[i]? =some v):
 ∃p q,b8 E (some (.slice e)) (some av) (some (.int .i64 (i:Nat)))=some (.ptr p q)∧bS E h e (.ptr p q)=some v:=by
 have hi:=(List.getElem?_eq_some_iff.1 hv).1
 have hl:cs.length=len:=by rw[x.cells,Nat.mul_one]
 rcases x.block with h0 | ⟨p,o,m,c,b,C,f,ro,h1,_,h2,h3⟩
 · omega
 · subst h1
   have hm:m=len:=by
    have:=x.lens
    rw[iz] at this
    simp only[Option.some.injEq,AV.int.injEq,true_and] at this
    omega
   refine ⟨p,o+i*1,nV x.size (by omega),?_⟩
   simp only[bS,h2,iY,ha,Nat.mul_one]
   rw[h3 i hi,hv]
def bE (k:IntKind) (l:List Nat):List AV:=l.map fun (n:Nat)=> .int k (n:Int)
structure eY (E:Env) (h:ax) (k:IntKind) (e:TypeId) (av:AV) (l:List Nat):Prop where
 at_:nh E h e 1 av l.length (bE k l)
 agg:fT E e=some false
 known:av= .aX∨∃p o n c b,av= .slice p o n c b∧(b=true→0<c)
theorem mE {k:IntKind} {l:List Nat} {i:Nat} {z:Nat} (h:l[i]? =some z):(bE k l)[i]? =some (.int k (z:Int)):=by simp [bE,h]
theorem eY.elem {h:ax} {k:IntKind} {e:TypeId} {av:AV} {l:List Nat} (x:eY E h k e av l) {i:Nat} {z:Nat} (hz:l[i]? =some z):
 ∃p q,b8 E (some (.slice e)) (some av) (some (.int .i64 (i:Nat)))=some (.ptr p q)∧bS E h e (.ptr p q)=some (.int k (z:Int)):=x.at_.elem x.agg (mE hz)
theorem eY.len {h:ax} {k:IntKind} {e:TypeId} {av:AV} {l:List Nat} (x:eY E h k e av l):cg (some (.slice e)) (some av)=some (.int .i64 (l.length:Nat)):=x.at_.lens
theorem fp (k:IntKind) (l:List Nat):(bE k l).length=l.length:=by simp [bE]
theorem eY.small {h:ax} {k:IntKind} {e:TypeId} {av:AV} {l:List Nat} (x:eY E h k e av l):l.length<2^60:=x.at_.small
def Off (p:Nat) (av:AV):Prop:=∀o n c b,av≠ .slice p o n c b
theorem eY.of {h:ax} {k:IntKind} {e:TypeId} {l:List Nat} {p o c:Nat} {b:Bool} {C:List AV} {f:TypeId} {ro:Bool} (hs:b_ E e=some 1) (ha:fT E e=some false) (hl:l.length<2^60) (hc:l.length≤c) (hb:b=true→0<c) (hg:h.get p=some (.cells C f ro))
 (hv:∀(i:Nat) z,l[i]? =some z→C[o+i]? =some (.int k (z:Int))):eY E h k e (.slice p o l.length c b) l:=
 ⟨⟨hs,by rw[fp];omega,hl,rfl,.inr ⟨p,o,_,c,b,C,f,ro,rfl,hc,hg,fun j hj=>by
   rw[fp] at hj
   rw[hv j l[j] (List.getElem?_eq_getElem hj),mE (List.getElem?_eq_getElem hj)]⟩⟩,ha,.inr ⟨p,o,_,c,b,rfl,hb⟩⟩
theorem eY.nil {h:ax} {k:IntKind} {e:TypeId} (hs:b_ E e=some 1) (ha:fT E e=some false):eY E h k e .aX []:=
 ⟨⟨hs,rfl,by decide,rfl,.inl rfl⟩,ha,.inl rfl⟩
theorem eY.inv {h:ax} {k:IntKind} {e:TypeId} {l:List Nat} {p o n c:Nat} {b:Bool} (x:eY E h k e (.slice p o n c b) l):n=l.length∧(l≠ []→l.length≤c∧∃C f ro,h.get p=some (.cells C f ro)∧∀(i:Nat) z,l[i]? =some z→C[o+i]? =some (.int k (z:Int))):=by
 have hn:n=l.length:=by
  have:=x.len
  rw[iz] at this
  simp only[Option.some.injEq,AV.int.injEq,true_and] at this
  omega
 refine ⟨hn,fun ea=>?_⟩
 rcases x.at_.block with h0 | ⟨p',o',m,c',b',C,f,ro,h1,h0,h2,h3⟩
 · exact absurd (List.length_eq_zero_iff.1 h0) ea
 · cases h1
   refine ⟨by omega,C,f,ro,h2,fun i z hz=>?_⟩
   rw[h3 i (by rw[fp];exact (List.getElem?_eq_some_iff.1 hz).1),mE hz]
theorem nu {len cap lo hi:Nat} (low high:Option AV) (hl:low=some (.int .i64 (lo:Nat))∨(low=none∧lo=0)) (hh:high=some (.int .i64 (hi:Nat))∨(high=none∧hi=len)) (h1:lo≤hi) (h2:hi≤cap):kr len cap low high none=some (lo,hi,cap):=by
 have b:∀(x y:Nat),x≤y→nv (.int .i64 (x:Nat)) y=some x:=fun x y h=>by
  simp only[nv]
  rw[if_pos ⟨by omega,by omega⟩,Int.toNat_natCast]
 unfold kr
 rcases hh with rfl | ⟨rfl,rfl⟩<;>rcases hl with rfl | ⟨rfl,rfl⟩<;>simp [b,h1,h2]
theorem eY.slice {h:ax} {k:IntKind} {e t:TypeId} {av:AV} {l:List Nat} (x:eY E h k e av l) (ht:E.P.underlying t=some (.slice e)) {lo hi:Nat} (low high:Option AV) (hl:low=some (.int .i64 (lo:Nat))∨(low=none∧lo=0)) (hh:high=some (.int .i64 (hi:Nat))∨(high=none∧hi=l.length)) (h1:lo≤hi) (h2:hi≤l.length) (h3:l.length=0∨lo<l.length):
 ∃r,dx E t av low high none=some r∧eY E h k e r ((l.take hi).drop lo)∧∀p,Off p av→Off p r:=by
 rcases x.known with rfl | ⟨p,o,n,c,b,rfl,hb⟩
 · have Vc:l.length=0:=by
    have:=x.len
    rw[sI] at this
    simp only[Option.some.injEq,AV.int.injEq,true_and] at this
    omega
   obtain rfl:=List.length_eq_zero_iff.1 Vc
   simp only[List.length_nil] at *
   have SB:hi=0:=by omega
   subst SB
   have SA:lo=0:=by omega
   subst SA
   refine ⟨.aX,?_,by simpa using x,fun p hp=>hp⟩
   simp only[dx,ht,x.at_.size,nu (len:=0) (cap:=0) low high hl hh (Nat.le_refl 0) (Nat.le_refl 0)]
 · obtain ⟨rfl,hx⟩:=x.inv
   have Zh:l.length≤c:=by
    by_cases ea:l=[]
    · subst ea;exact Nat.zero_le _
    · exact (hx ea).1
   have hr:∃o' c',dx E t (.slice p o l.length c b) low high none=some (.slice p o' (hi - lo) c' b)∧(b=true→0<c')∧hi - lo≤c'∧(hi - lo≠0→o'=o+lo):=by
    simp only[dx,ht,x.at_.size,Zh,if_true,nu (len:=l.length) (cap:=c) low high hl hh h1 (by omega)]
    by_cases hm:c=lo
    · have Wz:b=false:=by
       cases b with
       | false=>rfl
       | true=>have:=hb rfl;omega
      subst Wz
      rw[if_pos hm]
      exact ⟨o,c - lo,rfl,by simp,by omega,fun h=>by omega⟩
    · rw[if_neg hm]
      refine ⟨o+lo*1,c - lo,by simp,fun h=>by omega,by omega,fun h=>by omega⟩
   obtain ⟨o',c',e1,e2,e3,e4⟩:=hr
   refine ⟨_,e1,?_,fun q hq o' n' c' b' he=>by cases he;exact hq _ _ _ _ rfl⟩
   have hlen:((l.take hi).drop lo).length=hi - lo:=by simp;omega
   rw[←hlen]
   by_cases h0:hi - lo=0
   · have:(l.take hi).drop lo=[]:=List.length_eq_zero_iff.1 (by omega)
     rw[this]
     exact ⟨⟨x.at_.size,rfl,by decide,rfl,.inl rfl⟩,x.agg,.inr ⟨_,_,_,_,_,rfl,e2⟩⟩
   · have ea:l≠ []:=fun e=>by subst e;simp at h2;omega
     obtain ⟨_,C,f,ro,g1,g2⟩:=hx ea
     refine eY.of x.at_.size x.agg (by have:=x.small;omega) (by omega) e2 g1 fun i z hz=>?_
     have Et:i<hi - lo:=by rw[←hlen];exact (List.getElem?_eq_some_iff.1 hz).1
     rw[e4 h0,Nat.add_assoc]
     apply g2
     rw[List.getElem?_drop,List.getElem?_take_of_lt (by omega)] at hz
     exact hz
structure SI (h:ax) (av:AV) (p o n:Nat) (C:List AV) (f:TypeId):Prop where
 is:∃c b,av= .slice p o n c b∧n≤c
 get:h.get p=some (.cells C f false)
 fits:o+n≤C.length
theorem SI.len {h:ax} {av:AV} {p o n:Nat} {C:List AV} {f e:TypeId} (w:SI h av p o n C f):cg (some (.slice e)) (some av)=some (.int .i64 (n:Nat)):=by
 obtain ⟨c,b,rfl,_⟩:=w.is
 rfl
theorem SI.slice {h:ax} {av:AV} {p o n:Nat} {C:List AV} {f e t:TypeId} (w:SI h av p o n C f) (hs:b_ E e=some 1) (ht:E.P.underlying t=some (.slice e)) {lo hi:Nat} (low high:Option AV) (hl:low=some (.int .i64 (lo:Nat))∨(low=none∧lo=0)) (hh:high=some (.int .i64 (hi:Nat))∨(high=none∧hi=n)) (h1:lo≤hi) (h2:hi≤n) (h3:lo<n):
 ∃r,dx E t av low high none=some r∧SI h r p (o+lo) (hi - lo) C f:=by
 obtain ⟨c,b,rfl,hc⟩:=w.is
 have:=w.fits
 refine ⟨.slice p (o+lo) (hi - lo) (c - lo) b,?_,⟨⟨_,_,rfl,by omega⟩,w.get,by omega⟩⟩
 simp only[dx,ht,hs,hc,if_true,nu (len:=n) (cap:=c) low high hl hh h1 (by omega)]
 rw[if_neg (by omega)]
 simp
def Holds (k:IntKind) (C:List AV) (o:Nat) (l:List Nat):Prop:=∀(i z:Nat),l[i]? =some z→C[o+i]? =some (.int k (z:Int))
theorem Holds.behind {k:IntKind} {C:List AV} {o:Nat} {l ws:List Nat} (x:Holds k C o l) {i z:Nat} (hi:ws.length≤i) (hz:l[i]? =some z):(setFrom C o (bE k ws))[o+i]? =some (.int k (z:Int)):=by
 rw[fl,if_neg (by rw[fp];omega)]
 exact x i z hz
theorem SI.load {h:ax} {av:AV} {p o n:Nat} {C:List AV} {f e:TypeId} {i:Nat} {v:AV} (w:SI h av p o n C f) (ha:fT E e=some false) (hv:C[o+i]? =some v):bS E h e (.ptr p (o+i))=some v:=by
 simp only[bS,w.get,iY,ha,hv]
theorem SI.bE {h:ax} {av:AV} {p o n:Nat} {C:List AV} {f e:TypeId} {k:IntKind} {l:List Nat} (w:SI h av p o n C f) (hs:b_ E e=some 1) (ha:fT E e=some false) (hn:l.length=n) (C4:n<2^60) (x:Holds k C o l) (hb:∀c b,av= .slice p o n c b→b=true→0<c):eY E h k e av l:=by
 obtain ⟨c,b,rfl,hc⟩:=w.is
 subst hn
 exact eY.of hs ha C4 hc (hb c b rfl) w.get x
theorem Holds.of {k:IntKind} {C:List AV} {o:Nat} {l:List Nat} (hf:o+l.length≤C.length):Holds k (setFrom C o (bE k l)) o l:=fun i z hz=>by
 have hi:=(List.getElem?_eq_some_iff.1 hz).1
 rw[fl,if_pos ⟨by omega,by rw[fp];omega,by omega⟩,Nat.add_sub_cancel_left,mE hz]
end Go.Ab
end
section
namespace Go.Ab
open Go.WideElems Go.RowKit Go.Proofs
variable {E:Env}
def LY:List AV→List Nat→Bool
 | [],[]=>true
 | .int .u64 n::l,k::r=>decide (n=(k:Int))&&LY l r
 | _,_=>false
noncomputable def adJ (g t:Nat) (ns:List Nat) (h:ax):Bool:=match h.get g with
 | some (.cells cs t' true)=>decide (t'=t)&&LY cs ns
 | _=>false
theorem CR.plain {φ φ':Ph} {cs:List AV} {t:TypeId} {ro:Bool} {l:Loc} {C:Array Value} {lo hi:Nat} (h:CR E φ' cs t ro l C lo hi) (hp:cs.all (AV.plain 20)=true):CR E φ cs t ro l C lo hi where
 size:=h.size
 val k x hk:=by
  obtain ⟨y,hy,hv⟩:=h.val k x hk
  exact ⟨y,hy,hv.plain 20 (List.all_eq_true.1 hp x (List.mem_of_getElem? hk))⟩
 free:=h.free
 zero:=h.zero
def D2:List AV→Option (List (List UInt8))
 | []=>some []
 | .str s::l=>match D2 l with
   | some r=>some (s::r)
   | none=>none
 | _=>none
theorem H7:∀l:List (List UInt8),D2 (l.map .str)=some l
 | []=>rfl
 | s::l=>by
   show (match D2 (l.map .str) with | some r=>some (s::r) | none=>none)=_
   rw[H7 l]
theorem D3:∀{cs:List AV} {l:List (List UInt8)},D2 cs=some l→cs=l.map .str
 | [],l,h=>by cases h;rfl
 | .str s::cs,l,h=>by
   simp only[D2] at h
   split at h
   · rename_i r hr
     cases h
     rw[D3 hr];rfl
   · cases h
noncomputable def H8 (args:List AV) (h:ax):Option (AV×ax):=match args with
 | [.slice i o n c _,.str sep]=>match h.get i with
   | some (.cells cs _ _)=>if o+n≤cs.length∧n≤c∧n≤100000 then (match D2 ((cs.drop o).take n) with
    | some l=>if (Lib.join l sep).length≤1000000000 then some (.str (Lib.join l sep),h) else none
    | none=>none) else none
   | _=>none
 | _=>none
def LZ (P:Program) (f:FuncId):Prop:=∀(bk o c:Nat) (xs:List ByteArray) (sep:ByteArray) (w:World),(∀(j:Nat) x,xs[j]? =some x→w.cell? ⟨bk,o+j,none⟩=some (.string x))→bk<w.heap.size→xs.length≤140737488355328→xs.length≤c→
 (Lib.join (xs.map (·.data.toList)) sep.data.toList).length≤140737488355328→
 Calls P f #[.slice (some ⟨bk,o,none⟩) xs.length c,.string sep] w fun e w'=>e= .returned (.string ⟨(Lib.join (xs.map (·.data.toList)) sep.data.toList).toArray⟩)∧Below w.heap.size w w'
theorem P_ {f:FuncId} (cN:∀args w,(callFunc f args).run E.P w= .ok (.enter f args) w) (hc:LZ E.P f) (args:List AV) (h:ax) (v:AV) (h':ax) (e:H8 args h=some (v,h')):jZ E f args h v h':=by
 intro φ w vs ok hl
 refine ⟨cN _ _,?_⟩
 unfold H8 at e
 split at e
 · rename_i i o n c b sep
   split at e
   · rename_i cs t ro hg
     split at e
     · rename_i hb
       obtain ⟨hb1,hb2,hb3⟩:=hb
       split at e
       · rename_i l SE
         split at e
         · rename_i hlen
           simp only[Option.some.injEq,Prod.mk.injEq] at e
           obtain ⟨rfl,rfl⟩:=e
           obtain ⟨x,t2,rfl,hx,hl⟩:=hl.b4
           obtain ⟨y,t3,rfl,hy,hl⟩:=hl.b4
           rw[hl.gH]
           cases hx with
           | slice _ _ _ _ hφ=>
           rename_i lc
           generalize hq:AV.str sep=q at hy
           cases hy with
           | str sp=>
             injection hq with hq
             obtain ⟨C,e',lo,hi,P',hCR⟩:=ok.live i _ lc hg hφ
             have hs:=D3 SE
             have hln:l.length=n:=by
              have:=congrArg List.length hs
              simp only[List.length_take,List.length_drop,List.length_map] at this
              omega
             have zY:lc.dY<w.heap.size:=(Array.getElem?_eq_some_iff.1 P').1
             have wh:(l.map fun s=>(⟨s.toArray⟩:ByteArray)).map (·.data.toList)=l:=by
              rw[List.map_map];exact List.map_id'' (fun s=>rfl) l
             have Eu:∀(j:Nat) (x:ByteArray),(l.map fun s=>(⟨s.toArray⟩:ByteArray))[j]? =some x→w.cell? ⟨lc.dY,lc.off+o+j,none⟩=some (.string x):=by
              intro j x hj
              rw[List.getElem?_map,Option.map_eq_some_iff] at hj
              obtain ⟨s,qQ,rfl⟩:=hj
              have Lm:j<n:=by rw[←hln];exact (List.getElem?_eq_some_iff.1 qQ).1
              have h1:cs[o+j]? =some (.str s):=by
               have h2:((cs.drop o).take n)[j]? =some (.str s):=by rw[hs,List.getElem?_map,qQ];rfl
               rw[List.getElem?_take_of_lt Lm,List.getElem?_drop] at h2
               exact h2
              obtain ⟨z,hz,hzv⟩:=hCR.val _ _ h1
              generalize hq2:AV.str s=q2 at hzv
              cases hzv with
              | str sb=>
                injection hq2 with hq2
                have:(⟨s.toArray⟩:ByteArray)=sb:=by rw[hq2]
                rw[this]
                simp only[World.cell?,P']
                rw[Nat.add_assoc];exact hz
              | _=>cases hq2
             have Tc:=hc lc.dY (lc.off+o) (fA b c lc.gU) _ sp w Eu zY (by rw[List.length_map];omega) (by rw[List.length_map];unfold fA;split<;>omega) (by rw[wh,←hq];omega)
             rw[wh,←hq,List.length_map,hln] at Tc
             intro gN
             obtain ⟨en,w',fr,⟨rfl,Qa⟩,oU,wa,GO⟩:=Tc gN
             exact ⟨φ,w',_,fr,VR.str ⟨(Lib.join l sep).toArray⟩,(ok.later Qa).1,(ok.later Qa).2,oU,wa,GO⟩
           | _=>cases hq
         · cases e
       · cases e
     · cases e
   · cases e
 · cases e
end Go.Ab
end
section
set_option linter.unusedVariables false
namespace Go.Proofs
open Go.Shelf Go.RowKit
variable {P:Program} {ρ:Ren}
set_option maxHeartbeats 2000000 in
set_option maxRecDepth 100000 in
theorem Any.vC (L:Lays.n169 P ρ) (X:Builder.Extra P ρ) (b g cap cells:Nat) (l:List UInt8) (w:World) (c0:w.cell? ⟨b,1,none⟩=some (.slice (some ⟨g,0,none⟩) l.length cap))
 (hsh:w.shape? g=some (ρ.t 5,cells)) (h0:l≠ []) (hc:l.length≤cap) (hn:l.length≤cells) (h63:l.length≤9223372036854775807) (pn:∀j x,l[j]? =some x→w.cell? ((⟨g,0,none⟩:Addr).add j)=some (.int .u8 x.toNat)):
 Calls P (ρ.f 169) #[.pointer (some ⟨b,0,none⟩)] w fun e w'=>e= .returned (.string ⟨l.toArray⟩)∧w'=w.drew.freeze ⟨g,0,none⟩ l.length:=by
 have Vc:l.length≠0:=by simpa using h0
 have c1:w.drew.cell? ⟨b,1,none⟩=some (.slice (some ⟨g,0,none⟩) l.length cap):=c0
 have hSD:(Builtin.unsafeSliceData_ #[(ρ.t 37)] (ρ.t 127) #[.slice (some ⟨g,0,none⟩) l.length cap]).run P w.drew= .ok (.pointer (some ⟨g,0,none⟩)) w.drew:=
  Lib.run_unsafeSliceData_row _ _ _ _ _ _ (by omega)
 have hUS:(Builtin.unsafeString_ #[(ρ.t 127),(ρ.t 3)] (ρ.t 9) #[.pointer (some ⟨g,0,none⟩),.int .i64 l.length]).run P w.drew= .ok (.string ⟨l.toArray⟩) (w.drew.freeze ⟨g,0,none⟩ l.length):=
  Lib.run_unsafeString_row w.drew (ρ.t 127) (ρ.t 3) (ρ.t 9) (ρ.t 5) L.t127 X.cellsByte g cells hsh l h0 hn h63 pn
 have mixed:=L.mixed
 have t72:=L.t72;have a72:=L.a72;have z72:=L.z72;have v72:=L.v72;have u72:=run_underlying L.t72
 have t70:=L.t70;have a70:=L.a70;have z70:=L.z70;have v70:=L.v70;have u70:=run_underlying L.t70
 have t37:=L.t37;have a37:=L.a37;have z37:=L.z37;have v37:=L.v37;have u37:=run_underlying L.t37
 have t127:=L.t127;have a127:=L.a127;have z127:=L.z127;have v127:=L.v127;have acj:=run_underlying L.t127
 have t3:=L.t3;have a3:=L.a3;have z3:=L.z3;have v3:=L.v3;have u3:=run_underlying L.t3
 have t9:=L.t9;have a9:=L.a9;have z9:=L.z9;have v9:=L.v9;have u9:=run_underlying L.t9
 have t5:=X.t5;have a5:=X.a5;have z5:=X.z5;have v5:=X.v5;have u5:=run_underlying X.t5
 go_enter L.f169,Body.n169_ntmps ρ
 go_wp2
 go_region_o
 all_goals (go_wp2;go_ret;exact ⟨rfl,rfl⟩)
set_option maxHeartbeats 2000000 in
set_option maxRecDepth 100000 in
theorem Any.rj (L:Lays.n169 P ρ) (X:Builder.Extra P ρ) (b:Nat) (w:World) (c0:w.cell? ⟨b,1,none⟩=some (.slice none 0 0)):
 Calls P (ρ.f 169) #[.pointer (some ⟨b,0,none⟩)] w fun e w'=>e= .returned (.string ⟨#[]⟩)∧w'=w.drew:=by
 have hUS:=Any.unsafeString_none L X
 have c1:w.drew.cell? ⟨b,1,none⟩=some (.slice none 0 0):=c0
 have hSD:(Builtin.unsafeSliceData_ #[(ρ.t 37)] (ρ.t 127) #[.slice none 0 0]).run P w.drew= .ok (.pointer none) w.drew:=rfl
 have mixed:=L.mixed
 have t72:=L.t72;have a72:=L.a72;have z72:=L.z72;have v72:=L.v72;have u72:=run_underlying L.t72
 have t70:=L.t70;have a70:=L.a70;have z70:=L.z70;have v70:=L.v70;have u70:=run_underlying L.t70
 have t37:=L.t37;have a37:=L.a37;have z37:=L.z37;have v37:=L.v37;have u37:=run_underlying L.t37
 have t127:=L.t127;have a127:=L.a127;have z127:=L.z127;have v127:=L.v127;have acj:=run_underlying L.t127
 have t3:=L.t3;have a3:=L.a3;have z3:=L.z3;have v3:=L.v3;have u3:=run_underlying L.t3
 have t9:=L.t9;have a9:=L.a9;have z9:=L.z9;have v9:=L.v9;have u9:=run_underlying L.t9
 have t5:=X.t5;have a5:=X.a5;have z5:=X.z5;have v5:=X.v5;have u5:=run_underlying X.t5
 go_enter L.f169,Body.n169_ntmps ρ
 go_wp2
 go_region_o
 all_goals (go_wp2;go_ret;exact ⟨rfl,rfl⟩)
end Go.Proofs
namespace Go.Ab
open Go.WideElems Go.RowKit Go.Proofs
variable {E:Env}
theorem OK.ack {φ:Ph} {h:ax} {w w':World} (ok:OK E φ h w) {i:Nat} {o:aK} {l:Loc} (hg:h.get i=some o) (C8:o.rw=true) (hl:φ i=some l)
 (nB:∀c,c≠l.dY→w'.heap[c]? =w.heap[c]?) (fm:w'.heap.size=w.heap.size) (Wu:w'.os=w.os) (AI:w'.tape=w.tape) (oR:w'.output=w.output):
 OK E φ (h.put i none) w'∧Fr φ h w φ (h.put i none) w':=by
 have fG:∀j p,(h.put i none).get j=some p→h.get j=some p∧j≠i:=fun j p hj=>by
  by_cases e:i=j
  · subst e;rw[ax.cn] at hj;simp at hj
  · rw[ax.bP e] at hj;exact ⟨hj,Ne.symm e⟩
 refine ⟨⟨ok.zf,ok.nx,ok.uG,fun j p m hj hm=>?_,fun j k p q m n hj hk=>ok.inj j k p q m n (fG j p hj).1 (fG k q hk).1⟩,
  ⟨Ph.le_refl φ,fun _ _=>rfl,Nat.le_refl _,Wu,AI,oR,Nat.le_of_eq fm.symm,fun b _ hn=>nB b (fun e=>hn i o l hg C8 hl e.symm),fun j p m hj hr hm=> .inr ⟨j,p,m,(fG j p hj).1,hr,hm,rfl⟩⟩⟩
 obtain ⟨oQ,ea⟩:=fG j p hj
 rw[nB _ (fun e=>ea (ok.inj j i p o m l oQ hg hm hl (.inr C8) e))]
 exact ok.live j p m oQ hm
noncomputable def vD (bt:TypeId) (args:List AV) (h:ax):Option (AV×ax):=match args with
 | [.ptr i 0]=>match h.get i with
   | some (.cells [a,z] t false)=>if t=bt then (match a with
    | .dc=>some (.tuple [],h.put i (some (.cells [.ptr i 0,z] t false)))
    | .ptr j 0=>if j=i then some (.tuple [],h) else none
    | _=>none) else none
   | _=>none
 | _=>none
structure H9 (P:Program) (f:FuncId) (bt:TypeId):Prop where
 fresh:∀(b:Nat) (w:World),w.cell? ⟨b,0,none⟩=some (.pointer none)→w.shape? b=some (bt,2)→w.frozen? ⟨b,0,none⟩=false→Calls P f #[.pointer (some ⟨b,0,none⟩)] w fun e w'=>e= .returned (.tuple #[])∧w'=w.setCell ⟨b,0,none⟩ (.pointer (some ⟨b,0,none⟩))
 used:∀(b:Nat) (w:World),w.cell? ⟨b,0,none⟩=some (.pointer (some ⟨b,0,none⟩))→Calls P f #[.pointer (some ⟨b,0,none⟩)] w fun e w'=>e= .returned (.tuple #[])∧w'=w
theorem Nj {f:FuncId} {bt:TypeId} {fs:Array Field} (hbt:E.P.underlying bt=some (.struct fs)) (acm:E.bld=some bt) (cN:∀args w,(callFunc f args).run E.P w= .ok (.enter f args) w) (hc:H9 E.P f bt) (args:List AV) (h:ax) (v:AV) (h':ax) (e:vD bt args h=some (v,h')):jZ E f args h v h':=by
 intro φ w vs ok hl
 refine ⟨cN _ _,?_⟩
 have hb:iu E bt=none:=by simp [iu,acm]
 unfold vD at e
 split at e
 · rename_i i
   split at e
   · rename_i a z t hg
     split at e
     · rename_i ht
       subst ht
       obtain ⟨x,t2,rfl,hx,hl⟩:=hl.b4
       rw[hl.gH]
       cases hx with
       | @ptr _ l _ hφ=>
       obtain ⟨C,e',lo,hi,P',hC⟩:=ok.live i _ l hg hφ
       obtain ⟨rfl,A7,Jb⟩:=hC.shape rfl
       have Jb:=Jb fs hbt hb
       obtain ⟨y0,Y4,hv0⟩:=hC.val 0 a rfl
       have pn:w.cell? ⟨l.dY,0,none⟩=some y0:=by
        simp only[World.cell?,P'];rw[A7] at Y4;exact Y4
       rw[A7]
       split at e
       ·
        obtain ⟨rfl,rfl⟩:=Prod.mk.inj (Option.some.inj e)
        cases hv0 with
        | dc=>
        have hfz:w.frozen? ⟨l.dY,0,none⟩=false:=by
         rw[frozen_of_heap P']
         have:=hC.free rfl 0 (by omega) (by simp;omega)
         simp only[Bool.and_eq_false_iff,decide_eq_false_iff_not]
         omega
        have Tc:=hc.fresh l.dY w pn (by simp only[World.shape?,P'];rw[Jb];rfl) hfz
        intro gN
        obtain ⟨en,w',fr,⟨rfl,rfl⟩,oU,wa,GO⟩:=Tc gN
        obtain ⟨w2,il,my,nf⟩:=ua ok hg hφ (vs:=[.ptr i 0]) (qG:=[.pointer (some ⟨l.dY,l.off+0,none⟩)]) (LR.cons (VR.ptr 0 hφ) (LR.nil φ)) 0 (by simp) rfl
        have gB:=pP (P:=E.P) P' 0 [.pointer (some ⟨l.dY,0,none⟩)] (by rw[Jb];simp) (fun k h1 h2=>hC.free rfl k (by omega) (by simp at h2 ⊢;omega)) (by intro v hv;simp at hv;subst hv;rfl)
        rw[A7] at il
        rw[Nat.add_zero] at il
        rw[gB] at il
        obtain rfl:w.setCells l.dY 0 [.pointer (some ⟨l.dY,0,none⟩)]=w2:=by
         injection il
        exact ⟨φ,_,_,fr,VR.tuple' (LR.nil φ),my,nf,oU,wa,GO⟩
       · rename_i j
         split at e
         · rename_i Vn
           subst Vn
           obtain ⟨rfl,rfl⟩:=Prod.mk.inj (Option.some.inj e)
           cases hv0 with
           | @ptr _ l' _ hφ'=>
           rw[hφ] at hφ'
           obtain rfl:=Option.some.inj hφ'
           rw[A7] at pn
           have Tc:=hc.used l.dY w pn
           intro gN
           obtain ⟨en,w',fr,⟨rfl,rfl⟩,oU,wa,GO⟩:=Tc gN
           exact ⟨φ,_,_,fr,VR.tuple' (LR.nil φ),ok,Fr.refl φ h _,oU,wa,GO⟩
         · cases e
       · cases e
     · cases e
   · cases e
 · cases e
def J8:List AV→Option (List UInt8)
 | []=>some []
 | .int .u8 n::l=>if 0≤n∧n<256 then (match J8 l with
   | some r=>some (UInt8.ofNat n.toNat::r)
   | none=>none) else none
 | _=>none
theorem H_:∀{cs:List AV} {l:List UInt8},J8 cs=some l→cs=l.map fun b=>AV.int .u8 b.toNat
 | [],l,h=>by cases h;rfl
 | .int .u8 n::cs,l,h=>by
   simp only[J8] at h
   split at h
   · rename_i hn
     split at h
     · rename_i r hr
       cases h
       rw[H_ hr,List.map_cons]
       have:((UInt8.ofNat n.toNat).toNat:Int)=n:=by
        rw[UInt8.toNat_ofNat'];omega
       rw[this]
     · cases h
   · cases h
theorem L6:∀l:List UInt8,J8 (l.map fun b=>AV.int .u8 b.toNat)=some l
 | []=>rfl
 | b::l=>by
   have h1:=b.toNat_lt
   simp only[List.map_cons,J8]
   rw[if_pos ⟨by omega,by omega⟩,L6 l]
   simp
noncomputable def rk (bt u8:TypeId) (args:List AV) (h:ax):Option (AV×ax):=match args with
 | [.ptr i 0]=>match h.get i with
   | some (.cells [_,.aX] t false)=>if t=bt then some (.str [],h) else none
   | some (.cells [_,.slice j 0 n c _] t false)=>if t=bt then (match h.get j with
    | some (.cells cs e false)=>if e=u8∧0<n∧n≤c∧n≤cs.length∧n≤1099511627776 then (match J8 (cs.take n) with
      | some l=>some (.str l,h.put j none)
      | none=>none) else none
    | _=>none) else none
   | _=>none
 | _=>none
structure D4 (P:Program) (f:FuncId) (u8:TypeId):Prop where
 nothing:∀(b:Nat) (w:World),w.cell? ⟨b,1,none⟩=some (.slice none 0 0)→Calls P f #[.pointer (some ⟨b,0,none⟩)] w fun e w'=>e= .returned (.string ⟨#[]⟩)∧w'=w.drew
 row:∀(b g cap cells:Nat) (l:List UInt8) (w:World),w.cell? ⟨b,1,none⟩=some (.slice (some ⟨g,0,none⟩) l.length cap)→w.shape? g=some (u8,cells)→l≠ []→l.length≤cap→l.length≤cells→l.length≤9223372036854775807→
  (∀j x,l[j]? =some x→w.cell? ((⟨g,0,none⟩:Addr).add j)=some (.int .u8 x.toNat))→Calls P f #[.pointer (some ⟨b,0,none⟩)] w fun e w'=>e= .returned (.string ⟨l.toArray⟩)∧w'=w.drew.freeze ⟨g,0,none⟩ l.length
theorem Dl {w:World} {b c n:Nat} (h:b≠c):(w.freeze ⟨b,0,none⟩ n).heap[c]? =w.heap[c]? :=by
 unfold World.freeze;split
 · rfl
 · simp [Array.getElem?_modify,h]
theorem FD (w:World) (b n:Nat):(w.freeze ⟨b,0,none⟩ n).heap.size=w.heap.size:=by
 unfold World.freeze;split<;>simp
theorem sK (w:World) (b n:Nat):(w.freeze ⟨b,0,none⟩ n).os=w.os∧(w.freeze ⟨b,0,none⟩ n).tape=w.tape∧(w.freeze ⟨b,0,none⟩ n).output=w.output:=by
 unfold World.freeze;split<;>exact ⟨rfl,rfl,rfl⟩
theorem J9 {f:FuncId} {bt u8:TypeId} (cN:∀args w,(callFunc f args).run E.P w= .ok (.enter f args) w) (hc:D4 E.P f u8) (args:List AV) (h:ax) (v:AV) (h':ax) (e:rk bt u8 args h=some (v,h')):jZ E f args h v h':=by
 intro φ w vs ok hl
 refine ⟨cN _ _,?_⟩
 unfold rk at e
 split at e
 · rename_i i
   obtain ⟨x,t2,rfl,hx,hl⟩:=hl.b4
   rw[hl.gH]
   cases hx with
   | @ptr _ l _ hφ=>
   split at e
   · rename_i a t hg
     split at e
     · obtain ⟨rfl,rfl⟩:=Prod.mk.inj (Option.some.inj e)
       obtain ⟨C,e',lo,hi,P',hC⟩:=ok.live i _ l hg hφ
       obtain ⟨_,A7,_⟩:=hC.shape rfl
       obtain ⟨y1,Y5,SZ⟩:=hC.val 1 .aX rfl
       cases SZ with
       | aX=>
       have pn:w.cell? ⟨l.dY,1,none⟩=some (.slice none 0 0):=by
        simp only[World.cell?,P'];rw[A7] at Y5;exact Y5
       rw[A7]
       intro gN
       obtain ⟨en,w',fr,⟨rfl,rfl⟩,oU,wa,GO⟩:=hc.nothing l.dY w pn gN
       have Qa:Below w.heap.size w w.drew:=Below.drew (Below.refl _ _)
       exact ⟨φ,_,_,fr,VR.str ⟨#[]⟩,(ok.later Qa).1,(ok.later Qa).2,oU,wa,GO⟩
     · cases e
   · rename_i a j n c op t hg
     split at e
     · split at e
       · rename_i cs el hgj
         split at e
         · rename_i Jw
           obtain ⟨rfl,Zl,N6,aec,aed⟩:=Jw
           split at e
           · rename_i s hs
             obtain ⟨rfl,rfl⟩:=Prod.mk.inj (Option.some.inj e)
             obtain ⟨C,e',lo,hi,P',hC⟩:=ok.live i _ l hg hφ
             obtain ⟨_,A7,_⟩:=hC.shape rfl
             obtain ⟨y1,Y5,SZ⟩:=hC.val 1 (.slice j 0 n c op) rfl
             cases SZ with
             | @slice _ lj _ _ _ _ hφj=>
             obtain ⟨D,e2,lo2,hi2,hwd,hD⟩:=ok.live j _ lj hgj hφj
             obtain ⟨rfl,VK,_⟩:=hD.shape rfl
             have hsl:=H_ hs
             have hsn:s.length=n:=by
              have:=congrArg List.length hsl
              simp only[List.length_take,List.length_map] at this
              omega
             have pn:w.cell? ⟨l.dY,1,none⟩=some (.slice (some ⟨lj.dY,0,none⟩) s.length (fA op c lj.gU)):=by
              simp only[World.cell?,P'];rw[A7] at Y5;rw[VK] at Y5;rw[hsn];exact Y5
             have S4:c≤fA op c lj.gU:=by unfold fA;split<;>omega
             have hDs:=hD.size
             have fW:∀(k:Nat) (x:UInt8),s[k]? =some x→w.cell? ((⟨lj.dY,0,none⟩:Addr).add k)=some (.int .u8 x.toNat):=fun k x hk=>by
              have hkn:k<n:=by rw[←hsn];exact (List.getElem?_eq_some_iff.1 hk).1
              have h1:cs[k]? =some (.int .u8 x.toNat):=by
               have:(cs.take n)[k]? =some (.int .u8 x.toNat):=by rw[hsl,List.getElem?_map,hk];rfl
               rw[List.getElem?_take_of_lt hkn] at this
               exact this
              obtain ⟨y,hy,hyv⟩:=hD.val k _ h1
              cases hyv with
              | int=>
              have:(⟨lj.dY,0,none⟩:Addr).add k=⟨lj.dY,k,none⟩:=by unfold Addr.add;split<;>simp_all
              rw[this]
              simp only[World.cell?,hwd]
              rw[VK,Nat.zero_add] at hy;exact hy
             rw[A7]
             intro gN
             obtain ⟨en,w',fr,⟨rfl,rfl⟩,oU,wa,GO⟩:=hc.row l.dY lj.dY _ D.size s w pn (by simp only[World.shape?,hwd]) (fun q=>by rw[q] at hsn;simp at hsn;omega) (by omega) (by omega) (by omega) fW gN
             obtain ⟨my,nf⟩:=ok.ack (w':=w.drew.freeze ⟨lj.dY,0,none⟩ s.length) hgj rfl hφj (fun c ea=>(Dl (Ne.symm ea)).trans rfl) (FD _ _ _) (sK _ _ _).1 (sK _ _ _).2.1 (sK _ _ _).2.2
             exact ⟨φ,_,_,fr,VR.str ⟨s.toArray⟩,my,nf,oU,wa,GO⟩
           · cases e
         · cases e
       · cases e
     · cases e
   · cases e
 · cases e
end Go.Ab
end
