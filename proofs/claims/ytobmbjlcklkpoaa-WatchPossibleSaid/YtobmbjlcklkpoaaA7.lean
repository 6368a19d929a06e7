import Derived.ChangeShapes
import Derived.ChangeStays
import Derived.ChangeBook
import Derived.ChangeOld
import Derived.ChangeAgain
import Derived.ChangeCalls
import Derived.Shelf.Strings.OnBuilder
import Derived.Shelf.SlSortCmp.WholeK
import Derived.Shelf.SlSortCmp.NoneTotal
import Derived.Sort.AssemblyPlain
import Derived.Test.YtobmbjlcklkpoaaA6
set_option linter.unusedVariables false
set_option linter.unusedSimpArgs false
section
namespace Go.Ab
variable {E:Env} {call:bj} {n:Nat} {s:St}
def Y3 {α β:Type} (o:Option α) (f:α→β) (d:β):β:=match o with
 | some a=>f a
 | none=>d
noncomputable def KI (E:Env) (call:bj) (n:Nat) (o:Out) (b:Code):Out:=match o with
 | .ok .normal s=>exec E call n b s
 | r=>r
theorem zw (s:St) (b:Code):KI E call n (.ok .normal s) b=exec E call n b s:=rfl
def Rm (id:Nat) (o:Out):Out:=match o with
 | .ok (.exit O9) s'=>if O9=id then .ok .normal s' else .ok (.exit O9) s'
 | r=>r
theorem zx (i j:Nat) (s:St):Rm i (.ok (.exit j) s)=if j=i then .ok .normal s else .ok (.exit j) s:=rfl
noncomputable def Ro (E:Env) (call:bj) (n:Nat) (o:Option AV) (a b:Code) (s:St):Out:=match o with
 | some (.bool true)=>exec E call n a s
 | some (.bool false)=>exec E call n b s
 | _=> .fail "cond" none
theorem KR (a b:Code):Ro E call n (some (.bool true)) a b s=exec E call n a s:=rfl
theorem IC (a b:Code):Ro E call n (some (.bool false)) a b s=exec E call n b s:=rfl
theorem Xq (a b:Code):exec E call (n+1) (.seq a b) s=KI E call n (exec E call n a s) b:=rfl
theorem Rp (x:Operand) (a b:Code):exec E call (n+1) (.cond x a b) s=Ro E call n (eu E s.ts x) a b s:=rfl
theorem AE (id:Nat) (b:Code):exec E call (n+1) (.block id b) s=Rm id (exec E call n b s):=rfl
theorem Rq (b:Code):exec E call (n+1) (.loop b) s=KI E call n (exec E call n b s) (.loop b):=rfl
theorem Rr (i:Nat) (ops:Array Oper):exec E call (n+1) (.region i ops false) s=kt E call ops ops.toList s:=rfl
theorem VC (i:Nat) (ops:Array Oper):exec E call (n+1) (.region i ops true) s=v8 E call ops s:=rfl
noncomputable def abD (E:Env) (call:bj) (ops:Array Oper) (o:Oper) (rest:List Oper) (s:St):Out:=match dp E call s.ts s.h s.rc o with
 | .val v h'=>kt E call ops rest {s with ts:=dR s.ts o.dst v,h:=h'}
 | .defer d=>kt E call ops rest {s with ts:=dR s.ts o.dst AV.undef,ds:=d::s.ds}
 | .rG v=>kt E call ops rest {s with ts:=dR s.ts o.dst v,rc:= .done}
 | .panic v h'=> .ok (.panic v) {s with h:=h'}
 | .fail why q=> .fail why q
noncomputable def abE (E:Env) (call:bj) (ops:Array Oper) (o:Oper) (rest:List Oper) (s:St):Out:=
 Y3 (ey E s.ts o.op) (fun p=>Y3 (s.h.new p.1) (fun h'=>kt E call ops rest {s with ts:=dR s.ts o.dst (p.2 s.h.nx),h:=h'}) (.fail "full" (some o))) (abD E call ops o rest s)
noncomputable def abF (E:Env) (call:bj) (ops:Array Oper) (o:Oper) (rest:List Oper) (s:St):Out:=
 Y3 (dW E s.ts s.h o.op) (fun v=>kt E call ops rest {s with ts:=dR s.ts o.dst v}) (abE E call ops o rest s)
noncomputable def abG (E:Env) (call:bj) (ops:Array Oper) (v:Option AV) (o:Oper) (rest:List Oper) (s:St):Out:=Y3 v (fun v=>kt E call ops rest {s with ts:=dR s.ts o.dst v}) (abF E call ops o rest s)
section
variable {ops:Array Oper} {rest:List Oper} {d:Option Tmp} {op:Op} {ty:TypeId} {pos:String} {aft:Array Edge} {g:Option (Nat×Bool)}
noncomputable def KJ (E:Env) (call:bj) (ops:Array Oper) (w:Bool) (o:Oper) (rest:List Oper) (s:St):Out:=
 if w=true then abG E call ops (bE E s.ts o.op) o rest s else kt E call ops rest {s with ts:=dR s.ts o.dst AV.undef}
end
theorem iJ (m:Nat) (a:List UInt8):AV.same (m+1) (.str a) (.str a)=true:=by simp [AV.same]
theorem aG (m:Nat) (k:IntKind) (a:Int):AV.same (m+1) (.int k a) (.int k a)=true:=by simp [AV.same]
theorem Bv (m i o l c:Nat) (b:Bool):AV.same (m+1) (.slice i o l c b) (.slice i o l c b)=true:=by simp [AV.same]
open Classical in
section
variable {ops:Array Oper} {rest:List Nat} {d:Option Tmp} {op:Op} {ty:TypeId} {pos:String} {aft:Array Edge} {g:Option (Nat×Bool)}
noncomputable def My (E:Env) (call:bj) (ops:Array Oper) (r:Option St) (s:St):Out:=Y3 r (fun s'=> .ok .normal s') (v8 E call ops s)
end
theorem wrap_i64 {n:Int} (h0: -9223372036854775808≤n) (h1:n<9223372036854775808):IntKind.i64.wrap n=n:=by
 show (if (true&&decide (n%2^64≥2^63))=true then n%2^64 - 2^64 else n%2^64)=n
 by_cases hn:n%2^64≥2^63
 · rw[if_pos (by rw[Bool.true_and];exact decide_eq_true hn)];omega
 · rw[if_neg (by rw[Bool.true_and];exact fun e=>hn (of_decide_eq_true e))];omega
noncomputable def Ij (E:Env) (fn:Func) (h:aw) (ts:List AV):ju:=match j5 E h ts fn.results.toList with
 | some vs=> .ret (gF vs) h
 | none=> .fail "results" none
theorem On {fuel:Nat} {f:FuncId} {fn:Func} {c:Code} (hf:E.P.funcs[f]? =some fn) (hb:fn.body=some c) {args:List AV} {h h':aw} {ts:List AV} {x:iC} (hx:x= .normal∨x= .ret)
 (e:exec E call fuel c ⟨args++List.replicate (fn.ntmps - args.length) AV.undef,h,[],.no⟩= .ok x ⟨ts,h',[],.no⟩) {vs:List AV} (hr:j5 E h' ts fn.results.toList=some vs):wM E call fuel f args h= .ret (gF vs) h':=by
 unfold wM
 simp only[hf,hb,mU,e]
 rcases hx with rfl | rfl<;>simp only[qY,cO,hr]
def Bw (M:Fa.FR):bj:=fun F args h=>match F with
 | .fn f=>match M f args h with
   | some p=> .ret p.1 p.2
   | none=> .fail "" none
 | .vg _=> .fail "" none
theorem Oo {M:Fa.FR} (hM:Fa.FT E M):iI E (Bw M):=by
 refine ⟨fun F args h v h' e=>?_,fun F args h v h' e=>?_⟩
 · cases F with
   | vg l=>cases e
   | fn f=>
     simp only[Bw] at e
     cases hm:M f args h with
     | none=>rw[hm] at e;cases e
     | some p=>
       rw[hm] at e
       simp only[ju.ret.injEq] at e
       obtain ⟨rfl,rfl⟩:=e
       exact (hM _ _ _ _ _ hm).any
 · cases F with
   | vg l=>cases e
   | fn f=>
     simp only[Bw] at e
     cases hm:M f args h with
     | none=>rw[hm] at e;cases e
     | some p=>rw[hm] at e;cases e
def aez (E:Env) (x:Option (TypeId×Nat)) (v:Option AV):Option AV:=match x,v with
 | some (t,o),some (.ptr i off)=>match cq E t with
   | some n=>if n=0 then none else some (.ptr i (off+o))
   | none=>none
 | _,_=>none
def cD (E:Env) (op:BinOp) (t:TypeId) (xc yc:Bool) (a b:Option AV):Option AV:=match a,b with
 | some a,some b=>kr E op t xc yc a b
 | _,_=>none
theorem VD {ts:List AV} (op:BinOp) (t t':TypeId) (x y:Operand):bE E ts (.binOp op t x y t')=cD E op t (isConst x) (isConst y) (eu E ts x) (eu E ts y):=by
 simp only[bE,cD]
 cases eu E ts x<;>cases eu E ts y<;>rfl
theorem ML (t:TypeId) (c d:Bool) (k:IntKind) (a b:Int):cD E .add t c d (some (.int k a)) (some (.int k b))=some (.int k (k.wrap (a+b))):=by simp [cD,kr,dg]
theorem VE (t:TypeId) (c d:Bool) (k:IntKind) (a b:Int):cD E .sub t c d (some (.int k a)) (some (.int k b))=some (.int k (k.wrap (a - b))):=by simp [cD,kr,dg]
theorem VF (t:TypeId) (c d:Bool) (k:IntKind) (a b:Int):cD E .mul t c d (some (.int k a)) (some (.int k b))=some (.int k (k.wrap (a*b))):=by simp [cD,kr,dg]
theorem VG (t:TypeId) (c d:Bool) (k:IntKind) (a b:Int):cD E .eql t c d (some (.int k a)) (some (.int k b))=some (.bool (decide (a=b))):=by simp [cD,kr,dg];rfl
theorem VH (t:TypeId) (c d:Bool) (k:IntKind) (a b:Int):cD E .neq t c d (some (.int k a)) (some (.int k b))=some (.bool (!decide (a=b))):=by simp [cD,kr,dg];rfl
theorem VI (t:TypeId) (c d:Bool) (k:IntKind) (a b:Int):cD E .lss t c d (some (.int k a)) (some (.int k b))=some (.bool (decide (a<b))):=by simp [cD,kr,dg]
theorem VJ (t:TypeId) (c d:Bool) (k:IntKind) (a b:Int):cD E .leq t c d (some (.int k a)) (some (.int k b))=some (.bool (decide (a≤b))):=by simp [cD,kr,dg]
theorem VK (t:TypeId) (c d:Bool) (k:IntKind) (a b:Int):cD E .gtr t c d (some (.int k a)) (some (.int k b))=some (.bool (decide (b<a))):=by simp [cD,kr,dg]
theorem VL (t:TypeId) (c d:Bool) (k:IntKind) (a b:Int):cD E .geq t c d (some (.int k a)) (some (.int k b))=some (.bool (decide (b≤a))):=by simp [cD,kr,dg]
theorem Rs (t:TypeId) (c d:Bool) (a b:List UInt8):cD E .eql t c d (some (.str a)) (some (.str b))=some (.bool (decide (a=b))):=by
 simp only[cD,kr,vf,Option.some.injEq,AV.bool.injEq]
 exact Bool.eq_iff_iff.2 (by simp)
def unK (op:UnOp) (a:Option AV):Option AV:=match a with
 | some a=>unA op a
 | none=>none
def di (E:Env) (d:Option TypeDesc) (v i:Option AV):Option AV:=match d,v,i with
 | some (.slice elem),some (.slice i o len _ _),some (.int _ n)=>match cq E elem with
  | some size=>if 0≤n∧n<len then some (.ptr i (o+n.toNat*size)) else none
  | none=>none
 | some (.array len elem),some (.ptr i o),some (.int _ n)=>match cq E elem with
  | some size=>if 0≤n∧n<len then some (.ptr i (o+n.toNat*size)) else none
  | none=>none
 | _,_,_=>none
theorem ID {ts:List AV} (t:TypeId) (x i:Operand):bE E ts (.indexAddr t x i)=di E (E.P.underlying t) (eu E ts x) (eu E ts i):=by
 simp only[bE,di]
 split<;>simp_all<;>(split<;>simp_all)
theorem cA {e:TypeId} {i o len c z:Nat} {b:Bool} {size:Nat} (hs:cq E e=some size) (hz:z<len):di E (some (.slice e)) (some (.slice i o len c b)) (some (.int .i64 (z:Int)))=some (.ptr i (o+z*size)):=by
 simp only[di,hs]
 rw[if_pos ⟨by omega,by omega⟩,Int.toNat_natCast]
def dw (d:Option TypeDesc) (v:Option AV):Option AV:=match d,v with
 | some (.slice _),some .aK=>some (.int .i64 0)
 | some (.slice _),some (.slice _ _ n _ _)=>some (.int .i64 n)
 | some (.slice _),some .ff=>some (.int .i64 0)
 | some .string,some (.str s)=>some (.int .i64 s.length)
 | some (.array n _),some _=>some (.int .i64 n)
 | some (.map _ _),some .dU=>some (.int .i64 0)
 | _,_=>none
theorem abH {ts:List AV} (x:Operand) (t:TypeId):bE E ts (.call ⟨.builtin .len, #[x], #[t]⟩)=dw (E.P.underlying t) (eu E ts x):=by
 simp only[bE,f',eH,List.getElem?_toArray,List.getElem?_cons_zero]
 generalize eu E ts x=o
 cases o with
 | none=>
   generalize E.P.underlying t=u
   cases u with
   | none=>rfl
   | some d=>cases d<;>rfl
 | some v=>
   simp only
   generalize E.P.underlying t=u
   cases u with
   | none=>rfl
   | some d=>cases d<;>cases v<;>rfl
theorem Y4 {ts:List AV} {h:aw} (t:TypeId) (x:Operand):dW E ts h (.load t x)=Y3 (eu E ts x) (bA E h t) none:=by
 simp only[dW];cases eu E ts x<;>rfl
theorem jI (e:TypeId) (i o n c:Nat) (b:Bool):dw (some (.slice e)) (some (.slice i o n c b))=some (.int .i64 n):=rfl
theorem wQ (e:TypeId):dw (some (.slice e)) (some .aK)=some (.int .i64 0):=rfl
theorem Y5 (e:TypeId):dw (some (.slice e)) (some .ff)=some (.int .i64 0):=rfl
def Tidy (h:aw):Prop:=∀i o,h.get i=some o→i<h.nx
def qZ (E:Env) (d:Option TypeDesc) (v i:Option AV):Option AV:=match d,v,i with
 | some (.array len elem),some (.agg cs),some (.int _ n)=>match cq E elem with
  | some size=>if 0≤n∧n<len then iB E elem cs (n.toNat*size) else none
  | none=>none
 | some .string,some (.str s),some (.int _ n)=>if 0≤n then (match s[n.toNat]? with | some b=>some (.int .u8 b.toNat) | none=>none) else none
 | _,_,_=>none
theorem VM {ts:List AV} (t:TypeId) (x i:Operand):bE E ts (.index t x i)=qZ E (E.P.underlying t) (eu E ts x) (eu E ts i):=by
 simp only[bE,qZ]
 split
 · simp_all
   split<;>simp_all
 · rename_i s k n _ _ _
   simp_all
   cases s[n.toNat]? <;>rfl
 · simp_all
theorem Rt {s:List UInt8} {z:Nat} {b:UInt8} (h:s[z]? =some b):qZ E (some .string) (some (.str s)) (some (.int .i64 (z:Int)))=some (.int .u8 b.toNat):=by
 simp only[qZ]
 rw[if_pos (by omega),Int.toNat_natCast,h]
end Go.Ab
end
section
namespace Go.Ab
open Go.ChangeShapes Go.WideShapes Go.RowKit
variable {E:Env}
def wR (h:aw):Prop:=∀i o,h.get i=some o→o.rw=false
theorem OK.show {φ:Ph} {h:aw} {w:World} (ok:OK E φ h w) (P7:wR h) {b off:Nat} {cs:List AV} {e:TypeId} (eM:cs≠ []) (hz:∀m,cs≠ [.map m])
 (hC:∀(k:Nat) (x:AV),cs[k]? =some x→∃y,w.cell? ⟨b,off+k,none⟩=some y∧VR φ x y):
 ∃h',h.new (.cells cs e true)=some h'∧OK E (φ.add h.nx ⟨b,off,0⟩) h' w∧φ.le (φ.add h.nx ⟨b,off,0⟩)∧wR h'∧h'.nx=h.nx+1∧h'.get h.nx=some (.cells cs e true)∧(∀j,j≠h.nx→h'.get j=h.get j)∧(φ.add h.nx ⟨b,off,0⟩) h.nx=some ⟨b,off,0⟩:=by
 obtain ⟨h',hn⟩:∃h',h.new (.cells cs e true)=some h':=by
  exact ⟨_,aw.EM _ _⟩
 obtain ⟨lR,Y6,AT,hold⟩:=aw.lP hn
 have EN:φ h.nx=none:=by
  cases e:φ h.nx with
  | none=>rfl
  | some m=>exact absurd (ok.z_ _ _ e) (Nat.lt_irrefl _)
 have hle:φ.le (φ.add h.nx ⟨b,off,0⟩):=fun i m hm=>by
  unfold Ph.add;split
  · rename_i e;subst e;rw[EN] at hm;simp at hm
  · exact hm
 have kA:∀j,j≠h.nx→(φ.add h.nx ⟨b,off,0⟩) j=φ j:=fun j hj=>by simp [Ph.add,hj]
 have iE:(φ.add h.nx ⟨b,off,0⟩) h.nx=some ⟨b,off,0⟩:=by simp [Ph.add]
 have gZ:∀j p,h'.get j=some p→(j=h.nx∧p= .cells cs e true)∨(j≠h.nx∧h.get j=some p):=fun j p hj=>by
  by_cases e:j=h.nx
  · subst e;rw[AT] at hj;simp at hj;exact .inl ⟨rfl,hj.symm⟩
  · rw[hold j e] at hj;exact .inr ⟨e,hj⟩
 have hlen:0<cs.length:=List.length_pos_iff.2 eM
 obtain ⟨y0,hy0,_⟩:=hC 0 cs[0] (by simp [hlen])
 obtain ⟨C,e',lo,hi,hw⟩:∃C e' lo hi,w.heap[b]? =some (.cells C e' (lo,hi)):=by
  unfold World.cell? at hy0
  split at hy0
  · rename_i C e' fz hw;obtain ⟨lo,hi⟩:=fz;exact ⟨C,e',lo,hi,hw⟩
  · cases hy0
 have MN:∀k,w.cell? ⟨b,off+k,none⟩=C[off+k]? :=fun k=>by simp [World.cell?,hw]
 refine ⟨h',hn,⟨fun i m hm=>?_,by rw[Y6];exact Nat.le_succ_of_le ok.nx,fun g hg=>hle _ _ (ok.vh g hg),fun j p m hj hm=>?_,fun j k p q m n hj hk hm rR hw hb=>?_⟩,hle,fun j p hj=>?_,Y6,AT,hold,iE⟩
 · rw[Y6]
   by_cases e:i=h.nx
   · omega
   · rw[kA i e] at hm;have:=ok.z_ i m hm;omega
 · rcases gZ j p hj with ⟨rfl,rfl⟩ | ⟨EO,pf⟩
   · rw[iE] at hm;simp at hm;subst hm
     refine ⟨C,e',lo,hi,hw,⟨?_,fun k x hk=>?_,(fun h=>by cases h),fun _ m hm=>absurd hm (hz m)⟩,fun h=>by cases h⟩
     · obtain ⟨y,hy,_⟩:=hC (cs.length - 1) cs[cs.length - 1] (List.getElem?_eq_getElem (by omega))
       rw[MN] at hy
       have:=(Array.getElem?_eq_some_iff.1 hy).1
       simp only[fK,Nat.zero_mul]
       omega
     · obtain ⟨y,hy,hv⟩:=hC k x hk
       rw[MN] at hy
       exact ⟨y,hy,hv.mono hle⟩
   · rw[kA j EO] at hm
     exact (ok.live j p m pf hm).mono hle
 · rcases gZ j p hj with ⟨rfl,rfl⟩ | ⟨aeA,pf⟩<;>rcases gZ k q hk with ⟨rfl,rfl⟩ | ⟨aeB,Ht⟩
   · rfl
   · rw[P7 k q Ht] at hw;rcases hw with h | h<;>cases h
   · rw[P7 j p pf] at hw;rcases hw with h | h<;>cases h
   · rw[kA j aeA] at hm;rw[kA k aeB] at rR;exact ok.inj _ _ _ _ _ _ pf Ht hm rR hw hb
 · rcases gZ j p hj with ⟨_,rfl⟩ | ⟨_,pf⟩
   · rfl
   · exact P7 j p pf
theorem wR.begin {G:Nat} {l:List VB}:wR (lW G l):=fun i o h=>by
 obtain ⟨x,_,_,rfl⟩:=qX h;rfl
theorem FU {f:FuncId} {avs:List AV} {h h':aw} (r:lD E f avs h (.bool true) h') {φ:Ph} {w:World} {vs:List Value} (ok:OK E φ h w) (hl:LR φ avs vs) (P7:wR h):
 Calls E.P f vs.toArray w fun en w'=>en= .returned (.bool true)∧w.keptBut w' (fun _=>False):=fun cs=>by
 obtain ⟨_,jk⟩:=r φ w vs ok hl
 obtain ⟨φ',w',v',fr,hv,_,oa,h1,h2,h3⟩:=jk cs
 cases hv
 refine ⟨.returned (.bool true),w',fr,⟨rfl,oa.os,oa.output,fun i hi=>?_⟩,h1,h2,h3⟩
 rw[oa.wb i hi (fun j o l' q1 q2 _=>by rw[P7 j o q1] at q2;cases q2)]
 cases w.heap[i]? with
 | none=>rfl
 | some o=>cases o with
   | cells c t fz=>exact ⟨rfl,rfl,rfl,fun _ _=>rfl⟩
   | map es c=>exact .inr ⟨rfl,rfl⟩
   | _=>rfl
section
variable {H:Type} {enc:TypeId×Value→H} {w:World} {base:Nat} {spare:Nat→Bool} {held:Bool} {fuel:Nat} {t:TypeId} {x:DataW H×List MemPlace}
end
section
variable {H:Type} {enc:TypeId×Value→H} {P:Program} {w w':World}
theorem Bx (hk:w.keptBut w' (fun _=>False)) {p:MemPlace} (hp:p.block<w.heap.size):w.sameAt w' p:=by
 have h:=hk.block hp (fun _ h=>h.elim)
 cases p with
 | cell b off=>simp only[World.sameAt,World.cell?];rw[show w'.heap[b]? =w.heap[b]? from h]
 | map b=>exact h
theorem DV (hl:laidOutB P=true) (hk:w.keptBut w' (fun _=>False)):∀{ts:List TypeId} {vs:List Value} {ds:List (DataW H)} {ps:List MemPlace},(∀t∈ts,P.readableRec t=true∧t<P.types.size)→
 DataW.TrodAll enc P w 0 (fun _=>true) true ts vs ds ps→DataW.TrodAll enc P w' 0 (fun b=>decide (b<w.heap.size)) true ts vs ds ps
 | [],vs,ds,ps,_,h=>by
   obtain ⟨rfl,rfl,rfl⟩:=trodAll_nil h
   exact trodAll_mk0
 | t::ts,vs,ds,ps,hr,h=>by
   have lR:=DataW.TrodAll.lt h
   obtain ⟨v,qJ,d,yj,p,p',rfl,rfl,rfl,⟨n,h1⟩,h2⟩:=trodAll_cons h
   obtain ⟨h3,h4⟩:=hr t (by simp)
   refine trodAll_cons_mk ⟨n,?_⟩ (DV hl hk (fun t ht=>hr t (by simp [ht])) h2)
   exact DataW.trod_stays (kids_book hl h3) (book_sized h3) (fun h=>by cases h) ⟨h4,book_self t⟩ h1 (fun q hq=>Bx hk (lR q (by simp [hq]))) (fun q hq=>by simpa using lR q (by simp [hq]))
end
end Go.Ab
end
section
namespace Go.Ab
variable {E:Env}
end Go.Ab
end
section
namespace Go.Ab
variable {E:Env} {call:bj}
def Ev (E:Env) (call:bj) (c:Code) (s:St) (e:iC) (s':St):Prop:=∃n0,∀n,n0≤n→exec E call n c s= .ok e s'
theorem Ev.of {c:Code} {s:St} {e:iC} {s':St} (h:∀n,exec E call (n+1) c s= .ok e s'):Ev E call c s e s':=⟨1,fun n hn=>by
 obtain ⟨k,rfl⟩:∃k,n=k+1:=⟨n - 1,by omega⟩
 exact h k⟩
theorem Ev.seq {a b:Code} {s s1 s':St} {e:iC} (h1:Ev E call a s .normal s1) (h2:Ev E call b s1 e s'):Ev E call (.seq a b) s e s':=by
 obtain ⟨n1,h1⟩:=h1
 obtain ⟨n2,h2⟩:=h2
 refine ⟨n1+n2+1,fun n hn=>?_⟩
 obtain ⟨k,rfl⟩:∃k,n=k+1:=⟨n - 1,by omega⟩
 rw[Xq,h1 k (by omega),zw]
 exact h2 k (by omega)
theorem Ev.seq' {a b:Code} {s s':St} {e:iC} (he:e≠ .normal) (h1:Ev E call a s e s'):Ev E call (.seq a b) s e s':=by
 obtain ⟨n1,h1⟩:=h1
 refine ⟨n1+1,fun n hn=>?_⟩
 obtain ⟨k,rfl⟩:∃k,n=k+1:=⟨n - 1,by omega⟩
 rw[Xq,h1 k (by omega)]
 cases e with
 | normal=>exact absurd rfl he
 | _=>rfl
theorem Ev.loop {b:Code} {s s1 s':St} {e:iC} (h1:Ev E call b s .normal s1) (h2:Ev E call (.loop b) s1 e s'):Ev E call (.loop b) s e s':=by
 obtain ⟨n1,h1⟩:=h1
 obtain ⟨n2,h2⟩:=h2
 refine ⟨n1+n2+1,fun n hn=>?_⟩
 obtain ⟨k,rfl⟩:∃k,n=k+1:=⟨n - 1,by omega⟩
 rw[Rq,h1 k (by omega),zw]
 exact h2 k (by omega)
theorem Ev.exit {b:Code} {s s':St} {e:iC} (he:e≠ .normal) (h1:Ev E call b s e s'):Ev E call (.loop b) s e s':=by
 obtain ⟨n1,h1⟩:=h1
 refine ⟨n1+1,fun n hn=>?_⟩
 obtain ⟨k,rfl⟩:∃k,n=k+1:=⟨n - 1,by omega⟩
 rw[Rq,h1 k (by omega)]
 cases e with
 | normal=>exact absurd rfl he
 | _=>rfl
theorem Ev.ret {b:Code} {s s':St} (h1:Ev E call b s .ret s'):Ev E call (.loop b) s .ret s':=Ev.exit (by simp) h1
theorem Ev.out {b:Code} {s s':St} {i:Nat} (h1:Ev E call b s (.exit i) s'):Ev E call (.loop b) s (.exit i) s':=Ev.exit (by simp) h1
inductive mZ where
 | c
 | v (x:AV)
 | q (x:AV)
 | m (x:AV)
 | n (h:aw)
 | a (obj:aY) (x:AV) (h:aw)
 | e (x:AV) (h:aw)
 | p (x:AV) (h:aw)
 | b (x:Bool)
 | l (e:iC) (s:St)
def my:List Prop→Prop
 | []=>True
 | p::ps=>p∧my ps
inductive R where
 | bad
 | at (e:iC) (s:St) (as_:List mZ) (ps:List Prop)
def R.go (k:St→List mZ→List Prop→R):R→R
 | .at .normal s as_ ps=>k s as_ ps
 | r=>r
theorem R.abI {k:St→List mZ→List Prop→R} {r:R} {e:iC} {s:St} {as_:List mZ} {ps:List Prop} (h:r.go k= .at e s as_ ps):(∃s1 rW qj,r= .at .normal s1 rW qj∧k s1 rW qj= .at e s as_ ps)∨(r= .at e s as_ ps∧e≠ .normal):=by
 unfold R.go at h
 split at h
 · exact .inl ⟨_,_,_,rfl,h⟩
 · rename_i eM
   refine .inr ⟨h,fun he=>?_⟩
   subst he;exact eM _ _ _ h
def abJ (E:Env) (ts:List AV):List Operand→List TypeId→Option AV
 | [x],[t]=>dw (E.P.underlying t) (eu E ts x)
 | _,_=>none
def zy (c a b:Option AV):Option AV:=match c with
 | some (.bool true)=>a
 | some (.bool false)=>b
 | _=>none
theorem VN {ts:List AV} (c a b:Operand):bE E ts (.pick c a b)=zy (eu E ts c) (eu E ts a) (eu E ts b):=by
 simp only[bE]
 generalize eu E ts c=x
 cases x with
 | none=>rfl
 | some v=>cases v with
   | bool b=>cases b<;>rfl
   | _=>rfl
theorem Ru {c:Bool} {a b:Option AV} (h:c=true):zy (some (.bool c)) a b=a:=by rw[h];rfl
theorem aR {c:Bool} {a b:Option AV} (h:c=false):zy (some (.bool c)) a b=b:=by rw[h];rfl
def VO (E:Env) (ts:List AV) (op:Op):Option AV:=match op with
 | .indexAddr t x i=>di E (E.P.underlying t) (eu E ts x) (eu E ts i)
 | .index t x i=>qZ E (E.P.underlying t) (eu E ts x) (eu E ts i)
 | .binOp op t x y _=>cD E op t (isConst x) (isConst y) (eu E ts x) (eu E ts y)
 | .pick c a b=>zy (eu E ts c) (eu E ts a) (eu E ts b)
 | .call c=>match c.callee with
   | .builtin .len=>abJ E ts c.args.toList c.argTypes.toList
   | _=>none
 | _=>none
theorem By {α:Type} {a:Array α} {l:List α} (h:a.toList=l):a=l.toArray:=by rw[←h]
theorem MO {ts:List AV} {op:Op} {v:AV} (e:VO E ts op=some v):bE E ts op=some v:=by
 unfold VO at e
 split at e
 · rw[←ID] at e;exact e
 · rw[←VM] at e;exact e
 · rename_i o t x y t';exact (VD o t t' x y).trans e
 · rename_i c a b;exact (VN c a b).trans e
 · rename_i c
   obtain ⟨cl,args,tys⟩:=c
   simp only at e
   split at e
   · unfold abJ at e
     split at e
     · rename_i x t hx ht
       rw[By hx,By ht]
       exact (abH x t).trans e
     · cases e
   · cases e
 · cases e
noncomputable def Rv (E:Env) (ts:List AV) (h:aw) (op:Op):Option AV:=match op with
 | .load t x=>Y3 (eu E ts x) (bA E h t) none
 | op=>dW E ts h op
theorem FV {ts:List AV} {h:aw} {op:Op} {v:AV} (e:Rv E ts h op=some v):dW E ts h op=some v:=by
 unfold Rv at e
 split at e
 · rw[Y4];exact e
 · exact e
def abK (E:Env) (d:Option TypeDesc) (l c:Option AV):Option (aY×(Nat→AV)):=match d,l,c with
 | some (.slice elem),some (.int _ len),some (.int _ cap)=>match cq E elem,fT E elem,fE E elem with
   | some n,some bytes,some z=>
     if 0≤len∧len≤cap∧cap<2^30∧(bytes:Int)*cap≤2^47∧z.cells.length=n then
      some (.cells (gE z.cells cap.toNat) elem false,fun i=> .slice i 0 len.toNat cap.toNat false)
     else none
   | _,_,_=>none
 | _,_,_=>none
def VP (E:Env) (ts:List AV) (op:Op):Option (aY×(Nat→AV)):=match op with
 | .makeSlice t l c=>abK E (E.P.underlying t) (eu E ts l) (eu E ts c)
 | op=>ey E ts op
theorem MP (ts:List AV) (op:Op):VP E ts op=ey E ts op:=by
 unfold VP
 split
 · rename_i t l c
   simp only[ey]
   generalize E.P.underlying t=d
   generalize eu E ts l=x
   generalize eu E ts c=y
   rfl
 · rfl
noncomputable def VQ (E:Env) (call:bj) (ts:List AV) (h:aw) (rc:RC) (o:Oper) (x:AV) (h':aw):Prop:=match o.op with
 | .store t a v=>match eu E ts a,eu E ts v with
   | some a,some v=>x=AV.undef∧fp E h t a v=some h'
   | _,_=>False
 | .call c=>match c.callee with
   | .builtin .append=>match f' E ts c.args.toList with
     | some [s,y]=>b8 E h c.argTypes s y=some (x,h')
     | _=>False
   | .builtin .copy=>match f' E ts c.args.toList with
     | some [s,y]=>uJ E h c.argTypes s y=some (x,h')
     | _=>False
   | .value _=>match callee E ts c with
     | some (f,args)=>match j3 E f with
       | some g=>g args h=some (x,h')
       | none=>call f args h= .ret x h'
     | none=>False
   | _=>dp E call ts h rc o= .val x h'
 | .convert src dst y=>Dw E h src dst (eu E ts y)=some (x,h')
 | _=>dp E call ts h rc o= .val x h'
theorem MQ {ts:List AV} {h:aw} {rc:RC} {o:Oper} {x:AV} {h':aw} (e:VQ E call ts h rc o x h'):dp E call ts h rc o= .val x h':=by
 unfold VQ at e
 split at e
 · rename_i t a v ho
   split at e
   · rename_i a' v' h1 h2
     obtain ⟨rfl,e⟩:=e
     unfold dp
     simp only[ho,h1,h2,e]
   · exact e.elim
 · rename_i c ho
   split at e
   · rename_i hc
     split at e
     · rename_i h1
       unfold dp
       simp only[ho,hc,h1,e]
     · exact e.elim
   · rename_i hc
     split at e
     · rename_i h1
       unfold dp
       simp only[ho,hc,h1,e]
     · exact e.elim
   · rename_i hc
     split at e
     · rename_i h1
       split at e
       · rename_i h2
         unfold dp
         simp only[ho,hc,h1,h2,e]
       · rename_i h2
         unfold dp
         simp only[ho,hc,h1,h2,e]
     · exact e.elim
   · exact e
 · rename_i src dst y ho
   unfold dp
   simp only[ho,e]
 · exact e
def Oq {β:Type} (k:List AV→β):List AV→Nat→AV→β
 | [],_,_=>k []
 | _::xs,0,v=>k (v::xs)
 | x::xs,d+1,v=>Oq (fun ys=>k (x::ys)) xs d v
theorem FW {β:Type}:∀(k:List AV→β) (ts:List AV) (d:Nat) (v:AV),Oq k ts d v=k (ts.set d v)
 | k,[],_,_=>by simp [Oq]
 | k,_::xs,0,v=>rfl
 | k,x::xs,d+1,v=>by rw[Oq,FW];rfl
def sP (s:St) (d:Option Tmp) (v:AV) (h:aw) (as_:List mZ) (ps:List Prop):R:=match d with
 | some i=>Oq (fun ts=> .at .normal ⟨ts,h,s.ds,s.rc⟩ as_ ps) s.ts i v
 | none=> .at .normal ⟨s.ts,h,s.ds,s.rc⟩ as_ ps
theorem m_ (s:St) (d:Option Tmp) (v:AV) (h:aw) (as_:List mZ) (ps:List Prop):Go.Ab.sP s d v h as_ ps= .at .normal {s with ts:=dR s.ts d v,h:=h} as_ ps:=by
 cases d with
 | none=>rfl
 | some i=>exact FW _ _ _ _
noncomputable def IE (E:Env) (call:bj) (o:Oper) (s:St) (as_:List mZ) (ps:List Prop):R:=match as_ with
 | .c::as_=>match bE E s.ts o.op with
   | some v=>sP s o.dst v s.h as_ ps
   | none=> .bad
 | .v x::as_=>sP s o.dst x s.h as_ ((VO E s.ts o.op=some x)::ps)
 | .q x::as_=>sP s o.dst x s.h as_ ((bE E s.ts o.op=some x)::ps)
 | .m x::as_=>match bE E s.ts o.op with
   | none=>sP s o.dst x s.h as_ ((Rv E s.ts s.h o.op=some x)::ps)
   | some _=> .bad
 | .n h'::as_=>match bE E s.ts o.op,dW E s.ts s.h o.op,ey E s.ts o.op with
   | none,none,some (obj,mk)=>sP s o.dst (mk s.h.nx) h' as_ ((s.h.new obj=some h')::ps)
   | _,_,_=> .bad
 | .a obj x h'::as_=>match bE E s.ts o.op,dW E s.ts s.h o.op with
   | none,none=>sP s o.dst x h' as_ ((∃mk,VP E s.ts o.op=some (obj,mk)∧mk s.h.nx=x)::(s.h.new obj=some h')::ps)
   | _,_=> .bad
 | .e x h'::as_=>match bE E s.ts o.op,dW E s.ts s.h o.op,ey E s.ts o.op with
   | none,none,none=>sP s o.dst x h' as_ (VQ E call s.ts s.h s.rc o x h'::ps)
   | _,_,_=> .bad
 | .p x h'::as_=>match bE E s.ts o.op,dW E s.ts s.h o.op,ey E s.ts o.op with
   | none,none,none=> .at (.panic x) {s with h:=h'} as_ ((dp E call s.ts s.h s.rc o= .panic x h')::ps)
   | _,_,_=> .bad
 | _=> .bad
theorem zz {o:Oper} {s:St} {as_:List mZ} {ps:List Prop} {e:iC} {s':St} {um:List mZ} {qy:List Prop} (hr:IE E call o s as_ ps= .at e s' um qy) (hp:my qy):my ps∧EK E call s o= .ok e s':=by
 have seen:∀{x:AV},(bE E s.ts o.op=some x∨(bE E s.ts o.op=none∧dW E s.ts s.h o.op=some x))→EK E call s o= .ok .normal {s with ts:=dR s.ts o.dst x}:=by
  rintro x (h | ⟨h1,h2⟩)<;>unfold EK
  · rw[h]
  · rw[h1,h2]
 unfold IE at hr
 split at hr
 · split at hr
   · rename_i v hv
     rw[m_] at hr;cases hr
     exact ⟨hp,seen (.inl hv)⟩
   · cases hr
 · rw[m_] at hr;cases hr
   exact ⟨hp.2,seen (.inl (MO hp.1))⟩
 · rw[m_] at hr;cases hr
   exact ⟨hp.2,seen (.inl hp.1)⟩
 · split at hr
   · rename_i h1
     rw[m_] at hr;cases hr
     exact ⟨hp.2,seen (.inr ⟨h1,FV hp.1⟩)⟩
   · cases hr
 · split at hr
   · rename_i h1 h2 h3
     rw[m_] at hr;cases hr
     refine ⟨hp.2,?_⟩
     unfold EK
     simp only[h1,h2,h3,hp.1]
   · cases hr
 · split at hr
   · rename_i h1 h2
     rw[m_] at hr;cases hr
     obtain ⟨⟨mk,h3,h4⟩,h5,hp⟩:=hp
     rw[MP] at h3
     refine ⟨hp,?_⟩
     unfold EK
     simp only[h1,h2,h3,h4,h5]
   · cases hr
 · split at hr
   · rename_i h1 h2 h3
     rw[m_] at hr;cases hr
     refine ⟨hp.2,?_⟩
     unfold EK
     simp only[h1,h2,h3,MQ hp.1]
   · cases hr
 · split at hr
   · rename_i h1 h2 h3
     cases hr
     refine ⟨hp.2,?_⟩
     unfold EK
     simp only[h1,h2,h3,hp.1]
   · cases hr
 · cases hr
inductive Gd where
 | yes
 | no
 | ask (v want:Bool)
def IF (want:Bool):Option AV→Gd
 | some (.bool v)=> .ask v want
 | _=> .no
def FX (ops:Array Oper) (ts:List AV) (g:Option (Nat×Bool)):Gd:=match g with
 | none=> .yes
 | some (j,want)=>match (ops[j]?).bind (·.dst) with
   | none=> .no
   | some d=>IF want ts[d]?
theorem DW (ops:Array Oper) (ts:List AV) (o:Oper):cF ops ts o=(match FX ops ts o.guard with
 | .yes=>true
 | .no=>false
 | .ask v want=>v==want):=by
 unfold cF FX
 cases o.guard with
 | none=>rfl
 | some q=>
   obtain ⟨j,want⟩:=q
   simp only
   cases (ops[j]?).bind (·.dst) with
   | none=>rfl
   | some d=>
     simp only
     generalize ts[d]? =y
     unfold IF
     cases y with
     | none=>rfl
     | some z=>cases z<;>rfl
noncomputable def pL (E:Env) (call:bj) (ops:Array Oper):List Oper→St→List mZ→List Prop→R
 | [],s,as_,ps=> .at .normal s as_ ps
 | o::rest,s,as_,ps=>match FX ops s.ts o.guard with
   | .yes=>(IE E call o s as_ ps).go (pL E call ops rest)
   | .no=>(sP s o.dst AV.undef s.h as_ ps).go (pL E call ops rest)
   | .ask v want=>match as_ with
     | .b x::as_=>bif x==want then (IE E call o s as_ ((v=x)::ps)).go (pL E call ops rest) else (sP s o.dst AV.undef s.h as_ ((v=x)::ps)).go (pL E call ops rest)
     | _=> .bad
theorem wV {ops:Array Oper}:∀(l:List Oper) (s:St) (as_:List mZ) (ps:List Prop) (e:iC) (s':St) (um:List mZ) (qy:List Prop),pL E call ops l s as_ ps= .at e s' um qy→my qy→my ps∧kt E call ops l s= .ok e s'
 | [],s,as_,ps,e,s',um,qy,hr,hp=>by cases hr;exact ⟨hp,rfl⟩
 | o::rest,s,as_,ps,e,s',um,qy,hr,hp=>by
   have ih:=wV (ops:=ops) rest
   have Y7:∀(rW:List mZ) (qj:List Prop),(IE E call o s rW qj).go (pL E call ops rest)= .at e s' um qy→my qj∧(cF ops s.ts o=true→kt E call ops (o::rest) s= .ok e s'):=by
    intro rW qj h
    rcases R.abI h with ⟨s1,O_,PF,h1,h2⟩ | ⟨h1,eM⟩
    · obtain ⟨h3,h4⟩:=ih _ _ _ _ _ _ _ h2 hp
      obtain ⟨h5,h6⟩:=zz h1 h3
      refine ⟨h5,fun hw=>?_⟩
      unfold kt
      rw[if_pos hw,h6];exact h4
    · obtain ⟨h5,h6⟩:=zz h1 hp
      refine ⟨h5,fun hw=>?_⟩
      unfold kt
      rw[if_pos hw,h6]
      cases e with
      | normal=>exact absurd rfl eM
      | _=>rfl
   have Y8:∀(rW:List mZ) (qj:List Prop),(sP s o.dst AV.undef s.h rW qj).go (pL E call ops rest)= .at e s' um qy→my qj∧(cF ops s.ts o=false→kt E call ops (o::rest) s= .ok e s'):=by
    intro rW qj h
    rw[m_] at h
    obtain ⟨h3,h4⟩:=ih _ _ _ _ _ _ _ (show pL E call ops rest _ rW qj=_ from h) hp
    refine ⟨h3,fun hw=>?_⟩
    unfold kt
    rw[if_neg (by rw[hw];exact Bool.false_ne_true)]
    exact h4
   have hg:=DW ops s.ts o
   unfold pL at hr
   split at hr
   · rename_i h1;rw[h1] at hg;exact ⟨(Y7 _ _ hr).1,(Y7 _ _ hr).2 hg⟩
   · rename_i h1;rw[h1] at hg;exact ⟨(Y8 _ _ hr).1,(Y8 _ _ hr).2 hg⟩
   · rename_i v want h1
     rw[h1] at hg
     split at hr
     · rename_i x rW
       cases hx:x==want with
       | true=>
         rw[hx] at hr
         obtain ⟨⟨h2,h3⟩,h4⟩:=Y7 _ _ hr
         exact ⟨h3,h4 (by rw[hg,h2];exact hx)⟩
       | false=>
         rw[hx] at hr
         obtain ⟨⟨h2,h3⟩,h4⟩:=Y8 _ _ hr
         exact ⟨h3,h4 (by rw[hg,h2];exact hx)⟩
     · cases hr
inductive RT where
 | bad
 | ok (tr:List Step) (hs:List aw) (s:St) (as_:List mZ) (ps:List Prop)
def RT.step (x:Step):RT→RT
 | .ok tr hs s as_ ps=> .ok (x::tr) hs s as_ ps
 | .bad=> .bad
def RT.bound (x:Step) (h:aw):RT→RT
 | .ok tr hs s as_ ps=> .ok (x::tr) (h::hs) s as_ ps
 | .bad=> .bad
def RT.put (s:St) (d:Option Tmp) (v:AV) (h:aw) (k:St→RT):RT:=match d with
 | some i=>Oq (fun ts=>k ⟨ts,h,s.ds,s.rc⟩) s.ts i v
 | none=>k ⟨s.ts,h,s.ds,s.rc⟩
theorem RT.put_eq (s:St) (d:Option Tmp) (v:AV) (h:aw) (k:St→RT):RT.put s d v h k=k {s with ts:=dR s.ts d v,h:=h}:=by
 cases d with
 | none=>rfl
 | some i=>exact FW _ _ _ _
noncomputable def IG (E:Env) (call:bj) (i k:Nat) (o:Oper) (s:St) (as_:List mZ) (ps:List Prop) (go:Nat→St→List mZ→List Prop→RT):RT:=match as_ with
 | .e x h'::as_=>(RT.put s o.dst x h' fun s'=>go (k+1) s' as_ (VQ E call s.ts s.h s.rc o x h'::ps)).bound ⟨i,k,s.ts,x,.uk h'⟩ s.h
 | _=> .bad
noncomputable def IH (E:Env) (i k:Nat) (o:Oper) (s:St) (as_:List mZ) (ps:List Prop) (go:Nat→St→List mZ→List Prop→RT):RT:=match as_ with
 | .c::as_=>match bE E s.ts o.op with
   | some v=>(RT.put s o.dst v s.h fun s'=>go k s' as_ ps).step ⟨i,k,s.ts,v,.hJ⟩
   | none=> .bad
 | .v x::as_=>(RT.put s o.dst x s.h fun s'=>go k s' as_ ((VO E s.ts o.op=some x)::ps)).step ⟨i,k,s.ts,x,.hJ⟩
 | .q x::as_=>(RT.put s o.dst x s.h fun s'=>go k s' as_ ((bE E s.ts o.op=some x)::ps)).step ⟨i,k,s.ts,x,.hJ⟩
 | .m x::as_=>match bE E s.ts o.op with
   | none=>(RT.put s o.dst x s.h fun s'=>go k s' as_ ((Rv E s.ts s.h o.op=some x)::ps)).step ⟨i,k,s.ts,x,.red⟩
   | some _=> .bad
 | .n h'::as_=>match bE E s.ts o.op,dW E s.ts s.h o.op,ey E s.ts o.op with
   | none,none,some (obj,mk)=>(RT.put s o.dst (mk s.h.nx) h' fun s'=>go k s' as_ ((s.h.new obj=some h')::ps)).step ⟨i,k,s.ts,mk s.h.nx,.so s.h.nx obj⟩
   | _,_,_=> .bad
 | .a obj x h'::as_=>match bE E s.ts o.op,dW E s.ts s.h o.op with
   | none,none=>(RT.put s o.dst x h' fun s'=>go k s' as_ ((∃mk,VP E s.ts o.op=some (obj,mk)∧mk s.h.nx=x)::(s.h.new obj=some h')::ps)).step ⟨i,k,s.ts,x,.so s.h.nx obj⟩
   | _,_=> .bad
 | _=> .bad
noncomputable def runT (E:Env) (call:bj) (ops:Array Oper):List Nat→Nat→St→List mZ→List Prop→RT
 | [],_,s,as_,ps=> .ok [] [s.h] s as_ ps
 | i::rest,k,s,as_,ps=>match ops[i]? with
   | none=> .bad
   | some o=>match FX ops s.ts o.guard with
     | .yes=>bif fI E o.op then IG E call i k o s as_ ps (runT E call ops rest) else IH E i k o s as_ ps (runT E call ops rest)
     | .no=>bif fI E o.op then (RT.put s o.dst AV.undef s.h fun s'=>runT E call ops rest (k+1) s' as_ ps).bound ⟨i,k,s.ts,AV.undef,.off⟩ s.h else (RT.put s o.dst AV.undef s.h fun s'=>runT E call ops rest k s' as_ ps).step ⟨i,k,s.ts,AV.undef,.off⟩
     | .ask v want=>match as_ with
       | .b x::as_=>bif x==want then (bif fI E o.op then IG E call i k o s as_ ((v=x)::ps) (runT E call ops rest) else IH E i k o s as_ ((v=x)::ps) (runT E call ops rest))
         else (bif fI E o.op then (RT.put s o.dst AV.undef s.h fun s'=>runT E call ops rest (k+1) s' as_ ((v=x)::ps)).bound ⟨i,k,s.ts,AV.undef,.off⟩ s.h else (RT.put s o.dst AV.undef s.h fun s'=>runT E call ops rest k s' as_ ((v=x)::ps)).step ⟨i,k,s.ts,AV.undef,.off⟩)
       | _=> .bad
theorem RT.q_ {x:Step} {r:RT} {tr:List Step} {hs:List aw} {s:St} {as_:List mZ} {ps:List Prop} (h:r.step x= .ok tr hs s as_ ps):∃J4,tr=x::J4∧r= .ok J4 hs s as_ ps:=by
 cases r with
 | bad=>cases h
 | ok a b c d e=>cases h;exact ⟨_,rfl,rfl⟩
theorem RT.II {x:Step} {g:aw} {r:RT} {tr:List Step} {hs:List aw} {s:St} {as_:List mZ} {ps:List Prop} (h:r.bound x g= .ok tr hs s as_ ps):∃J4 qI,tr=x::J4∧hs=g::qI∧r= .ok J4 qI s as_ ps:=by
 cases r with
 | bad=>cases h
 | ok a b c d e=>cases h;exact ⟨_,_,rfl,rfl,rfl⟩
theorem Bz {ops:Array Oper}:∀(l:List Nat) (k:Nat) (s:St) (as_:List mZ) (ps:List Prop) (tr:List Step) (hs:List aw) (s':St) (um:List mZ) (qy:List Prop),
 runT E call ops l k s as_ ps= .ok tr hs s' um qy→my qy→my ps∧cW E call ops l k s= .ok tr hs s'
 | [],k,s,as_,ps,tr,hs,s',um,qy,hr,hp=>by cases hr;exact ⟨hp,rfl⟩
 | i::rest,k,s,as_,ps,tr,hs,s',um,qy,hr,hp=>by
   have ih:=Bz (ops:=ops) rest
   unfold runT at hr
   split at hr
   · cases hr
   rename_i o hi
   have hE:∀{rW:List mZ} {qj:List Prop},fI E o.op=true→IG E call i k o s rW qj (runT E call ops rest)= .ok tr hs s' um qy→my qj∧(cF ops s.ts o=true→cW E call ops (i::rest) k s= .ok tr hs s'):=by
    intro rW qj he h
    unfold IG at h
    split at h
    · rename_i x h' O_
      rw[RT.put_eq] at h
      obtain ⟨Mg,r7,rfl,rfl,h9⟩:=RT.II h
      obtain ⟨h1,h2⟩:=ih _ _ _ _ _ _ _ _ _ h9 hp
      refine ⟨h1.2,fun hw=>?_⟩
      unfold cW
      simp only[hi,he,hw,if_true,MQ h1.1,h2]
      rfl
    · cases h
   have hN:∀{rW:List mZ} {qj:List Prop},fI E o.op=false→IH E i k o s rW qj (runT E call ops rest)= .ok tr hs s' um qy→my qj∧(cF ops s.ts o=true→cW E call ops (i::rest) k s= .ok tr hs s'):=by
    intro rW qj he h
    unfold IH at h
    split at h
    · split at h
      · rename_i v hv
        rw[RT.put_eq] at h
        obtain ⟨Mg,rfl,h9⟩:=RT.q_ h
        obtain ⟨h1,h2⟩:=ih _ _ _ _ _ _ _ _ _ h9 hp
        refine ⟨h1,fun hw=>?_⟩
        unfold cW
        simp only[hi,he,hw,if_true,hv,Bool.false_eq_true,if_false]
        rw[h2]
        rfl
      · cases h
    · rw[RT.put_eq] at h
      obtain ⟨Mg,rfl,h9⟩:=RT.q_ h
      obtain ⟨h1,h2⟩:=ih _ _ _ _ _ _ _ _ _ h9 hp
      refine ⟨h1.2,fun hw=>?_⟩
      unfold cW
      simp only[hi,he,hw,if_true,MO h1.1,Bool.false_eq_true,if_false]
      rw[h2]
      rfl
    · rw[RT.put_eq] at h
      obtain ⟨Mg,rfl,h9⟩:=RT.q_ h
      obtain ⟨h1,h2⟩:=ih _ _ _ _ _ _ _ _ _ h9 hp
      refine ⟨h1.2,fun hw=>?_⟩
      unfold cW
      simp only[hi,he,hw,if_true,h1.1,Bool.false_eq_true,if_false]
      rw[h2]
      rfl
    · split at h
      · rename_i hv
        rw[RT.put_eq] at h
        obtain ⟨Mg,rfl,h9⟩:=RT.q_ h
        obtain ⟨h1,h2⟩:=ih _ _ _ _ _ _ _ _ _ h9 hp
        refine ⟨h1.2,fun hw=>?_⟩
        unfold cW
        simp only[hi,he,hw,if_true,hv,FV h1.1,Bool.false_eq_true,if_false]
        rw[h2]
        rfl
      · cases h
    · split at h
      · rename_i q1 q2 q3
        rw[RT.put_eq] at h
        obtain ⟨Mg,rfl,h9⟩:=RT.q_ h
        obtain ⟨h1,h2⟩:=ih _ _ _ _ _ _ _ _ _ h9 hp
        refine ⟨h1.2,fun hw=>?_⟩
        unfold cW
        simp only[hi,he,hw,if_true,q1,q2,q3,h1.1,Bool.false_eq_true,if_false,h2]
        rfl
      · cases h
    · split at h
      · rename_i q1 q2
        rw[RT.put_eq] at h
        obtain ⟨Mg,rfl,h9⟩:=RT.q_ h
        obtain ⟨h1,h2⟩:=ih _ _ _ _ _ _ _ _ _ h9 hp
        obtain ⟨⟨mk,h3,h4⟩,h5,h6⟩:=h1
        rw[MP] at h3
        subst h4
        refine ⟨h6,fun hw=>?_⟩
        unfold cW
        simp only[hi,he,hw,if_true,q1,q2,h3,h5,Bool.false_eq_true,if_false,h2]
        rfl
      · cases h
    · cases h
   have hO:∀{rW:List mZ} {qj:List Prop},(bif fI E o.op then (RT.put s o.dst AV.undef s.h fun s'=>runT E call ops rest (k+1) s' rW qj).bound ⟨i,k,s.ts,AV.undef,.off⟩ s.h else (RT.put s o.dst AV.undef s.h fun s'=>runT E call ops rest k s' rW qj).step ⟨i,k,s.ts,AV.undef,.off⟩)= .ok tr hs s' um qy→
    my qj∧(cF ops s.ts o=false→cW E call ops (i::rest) k s= .ok tr hs s'):=by
    intro rW qj h
    cases he:fI E o.op with
    | true=>
      rw[he,cond_true,RT.put_eq] at h
      obtain ⟨Mg,r7,rfl,rfl,h9⟩:=RT.II h
      obtain ⟨h1,h2⟩:=ih _ _ _ _ _ _ _ _ _ h9 hp
      refine ⟨h1,fun hw=>?_⟩
      unfold cW
      simp only[hi,he,hw,if_true,Bool.false_eq_true,if_false]
      rw[h2]
      rfl
    | false=>
      rw[he,cond_false,RT.put_eq] at h
      obtain ⟨Mg,rfl,h9⟩:=RT.q_ h
      obtain ⟨h1,h2⟩:=ih _ _ _ _ _ _ _ _ _ h9 hp
      refine ⟨h1,fun hw=>?_⟩
      unfold cW
      simp only[hi,he,hw,Bool.false_eq_true,if_false]
      rw[h2]
      rfl
   have hY:∀{rW:List mZ} {qj:List Prop},(bif fI E o.op then IG E call i k o s rW qj (runT E call ops rest) else IH E i k o s rW qj (runT E call ops rest))= .ok tr hs s' um qy→
    my qj∧(cF ops s.ts o=true→cW E call ops (i::rest) k s= .ok tr hs s'):=by
    intro rW qj h
    cases he:fI E o.op with
    | true=>rw[he] at h;exact hE he h
    | false=>rw[he] at h;exact hN he h
   have hg:=DW ops s.ts o
   split at hr
   · rename_i h1;rw[h1] at hg;exact ⟨(hY hr).1,(hY hr).2 hg⟩
   · rename_i h1;rw[h1] at hg;exact ⟨(hO hr).1,(hO hr).2 hg⟩
   · rename_i v want h1
     rw[h1] at hg
     split at hr
     · rename_i x rW
       cases hx:x==want with
       | true=>
         rw[hx] at hr
         obtain ⟨⟨h2,h3⟩,h4⟩:=hY hr
         exact ⟨h3,h4 (by rw[hg,h2];exact hx)⟩
       | false=>
         rw[hx] at hr
         obtain ⟨⟨h2,h3⟩,h4⟩:=hO hr
         exact ⟨h3,h4 (by rw[hg,h2];exact hx)⟩
     · cases hr
noncomputable def KT (E:Env) (ops:Array Oper) (x:Step) (h:aw) (ps:List Prop):List Prop:=match x.kind with
 | .red=>match ops[x.i]? with
   | some o=>(AV.same 20 x.v x.v=true)::(Rv E x.ts h o.op=some x.v)::ps
   | none=>False::ps
 | .so n obj=>(∃o,h.get n=some o∧aY.same o obj=true)::ps
 | _=>ps
noncomputable def KU (E:Env) (ops:Array Oper) (x:Step):List aw→List Prop→List Prop
 | [],ps=>ps
 | h::hs,ps=>KU E ops x hs (KT E ops x h ps)
noncomputable def wX (E:Env) (ops:Array Oper) (bP:List Nat) (an:List (List Nat)) (hs:List aw):List Step→List Prop→List Prop
 | [],ps=>ps
 | x::tr,ps=>wX E ops bP an hs tr (KU E ops x ((hs.drop x.k).take (ku bP an x.i+1 - x.k)) ps)
theorem Ot {ops:Array Oper} {x:Step} {h:aw} {ps:List Prop} (hc:my (KT E ops x h ps)):my ps∧jD E ops x h=true:=by
 unfold KT at hc
 unfold jD
 split at hc
 · rename_i hk
   simp only[hk]
   split at hc
   · rename_i o ho
     have gZ:ops.getD x.i default=o:=by simp [Array.getD_eq_getD_getElem?,ho]
     simp only[gZ,FV hc.2.1,hc.1]
     exact ⟨hc.2.2,trivial⟩
   · exact hc.1.elim
 · rename_i n obj hk
   obtain ⟨⟨o,h1,h2⟩,h3⟩:=hc
   simp only[hk,h1,h2]
   exact ⟨h3,trivial⟩
 · rename_i h1 h2
   refine ⟨hc,?_⟩
   split
   · rename_i hk;exact absurd hk (by assumption)
   · rename_i hk;exact absurd hk (h2 _ _)
   · rfl
theorem DX {ops:Array Oper} {x:Step}:∀(hs:List aw) (ps:List Prop),my (KU E ops x hs ps)→my ps∧hs.all (jD E ops x)=true
 | [],ps,hc=>⟨hc,rfl⟩
 | h::hs,ps,hc=>by
   obtain ⟨h1,h2⟩:=DX hs _ hc
   obtain ⟨h3,h4⟩:=Ot h1
   exact ⟨h3,by simp only[List.all_cons,h4,h2,Bool.and_self]⟩
theorem zA {ops:Array Oper} {bP:List Nat} {an:List (List Nat)} {hs:List aw}:∀(tr:List Step) (ps:List Prop),my (wX E ops bP an hs tr ps)→
 my ps∧(tr.all fun x=>((hs.drop x.k).take (ku bP an x.i+1 - x.k)).all (jD E ops x))=true
 | [],ps,hc=>⟨hc,rfl⟩
 | x::tr,ps,hc=>by
   obtain ⟨h1,h2⟩:=zA tr _ hc
   obtain ⟨h3,h4⟩:=DX _ _ h1
   exact ⟨h3,by simp only[List.all_cons,h4,h2,Bool.and_self]⟩
noncomputable def Rw (l:List Nat) (ps:List Prop):List Prop:=match l with
 | []=>ps
 | [_]=>ps
 | l=>(nodup l=true)::ps
noncomputable def FY (E:Env) (call:bj) (ops:Array Oper) (s:St) (as_:List mZ) (ps:List Prop):R:=match sj E ops with
 | none=> .bad
 | some pl=>match runT E call ops pl.order 0 s as_ ps with
   | .ok tr hs s' um qy=> .at .normal s' um (Rw (qD tr) (wX E ops pl.bP pl.an hs tr qy))
   | .bad=> .bad
theorem Da {ops:Array Oper} {s:St} {as_:List mZ} {ps:List Prop} {e:iC} {s':St} {um:List mZ} {qy:List Prop} (hr:FY E call ops s as_ ps= .at e s' um qy) (hp:my qy):my ps∧v8 E call ops s= .ok e s':=by
 unfold FY at hr
 split at hr
 · cases hr
 rename_i pl NT
 split at hr
 · rename_i tr hs s1 rW qj h1
   cases hr
   have hn:my (wX E ops pl.bP pl.an hs tr qj)∧nodup (qD tr)=true:=by
    unfold Rw at hp
    split at hp
    · rename_i hm;exact ⟨hp,by rw[hm];rfl⟩
    · rename_i hm;exact ⟨hp,by rw[hm];rfl⟩
    · exact ⟨hp.2,hp.1⟩
   obtain ⟨h2,h3⟩:=zA _ _ hn.1
   obtain ⟨h4,h5⟩:=Bz _ _ _ _ _ _ _ _ _ _ h1 h2
   refine ⟨h4,?_⟩
   unfold v8
   simp only[NT,h5]
   have:qE E ops pl tr hs=true:=by
    unfold qE
    rw[hn.2,Bool.true_and]
    exact h3
   rw[if_pos this]
 · cases hr
noncomputable def run (E:Env) (call:bj):Nat→Code→St→List mZ→List Prop→R
 | 0,_,_,_,_=> .bad
 | n+1,c,s,as_,ps=>match c with
   | .skip=> .at .normal s as_ ps
   | .ret=> .at .ret s as_ ps
   | .exit i=> .at (.exit i) s as_ ps
   | .seq a b=>match run E call n a s as_ ps with
     | .at .normal s1 rW qj=>run E call n b s1 rW qj
     | r=>r
   | .cond x a b=>match as_ with
     | .b v::as_=>match eu E s.ts x with
       | some (.bool u)=>bif v then run E call n a s as_ ((u=true)::ps) else run E call n b s as_ ((u=false)::ps)
       | _=> .bad
     | .l e s'::as_=> .at e s' as_ (Ev E call (.cond x a b) s e s'::ps)
     | _=> .bad
   | .block id b=>match run E call n b s as_ ps with
     | .at (.exit j) s1 rW qj=>bif Nat.beq j id then .at .normal s1 rW qj else .at (.exit j) s1 rW qj
     | r=>r
   | .loop b=>match as_ with
     | .l e s'::as_=> .at e s' as_ (Ev E call (.loop b) s e s'::ps)
     | _=> .bad
   | .rangeFunc f qy a b=>match as_ with
     | .l e s'::as_=> .at e s' as_ (Ev E call (.rangeFunc f qy a b) s e s'::ps)
     | _=> .bad
   | .region i ops draw=>match as_ with
     | .l e s'::as_=> .at e s' as_ (Ev E call (.region i ops draw) s e s'::ps)
     | as_=>bif draw then FY E call ops s as_ ps else pL E call ops ops.toList s as_ ps
   | .scope b=>run E call n b s as_ ps
   | .label _=> .at .normal s as_ ps
   | _=> .bad
theorem DY:∀(n:Nat) (c:Code) (s:St) (as_:List mZ) (ps:List Prop) (e:iC) (s':St) (um:List mZ) (qy:List Prop),run E call n c s as_ ps= .at e s' um qy→my qy→my ps∧Ev E call c s e s'
 | 0,c,s,as_,ps,e,s',um,qy,hr,hp=>by cases hr
 | n+1,c,s,as_,ps,e,s',um,qy,hr,hp=>by
   have ih:=DY n
   unfold run at hr
   split at hr
   · cases hr;exact ⟨hp,.of fun _=>rfl⟩
   · cases hr;exact ⟨hp,.of fun _=>rfl⟩
   · cases hr;exact ⟨hp,.of fun _=>rfl⟩
   · split at hr
     · rename_i s1 rW qj h1
       obtain ⟨h2,h3⟩:=ih _ _ _ _ _ _ _ _ hr hp
       obtain ⟨h4,h5⟩:=ih _ _ _ _ _ _ _ _ h1 h2
       exact ⟨h4,h5.seq h3⟩
     · rename_i eM
       obtain ⟨h4,h5⟩:=ih _ _ _ _ _ _ _ _ hr hp
       refine ⟨h4,h5.seq' fun he=>?_⟩
       subst he;exact eM _ _ _ hr
   · split at hr
     · rename_i v rW
       split at hr
       · rename_i u hu
         cases v with
         | true=>
           obtain ⟨⟨h1,h2⟩,n0,h3⟩:=ih _ _ _ _ _ _ _ _ hr hp
           refine ⟨h2,n0+1,fun n hn=>?_⟩
           obtain ⟨k,rfl⟩:∃k,n=k+1:=⟨n - 1,by omega⟩
           rw[Rp,hu,h1,KR];exact h3 k (by omega)
         | false=>
           obtain ⟨⟨h1,h2⟩,n0,h3⟩:=ih _ _ _ _ _ _ _ _ hr hp
           refine ⟨h2,n0+1,fun n hn=>?_⟩
           obtain ⟨k,rfl⟩:∃k,n=k+1:=⟨n - 1,by omega⟩
           rw[Rp,hu,h1,IC];exact h3 k (by omega)
       · cases hr
     · cases hr;exact ⟨hp.2,hp.1⟩
     · cases hr
   · split at hr
     · rename_i id b _ j s1 rW qj h1
       cases hj:Nat.beq j id with
       | true=>
         rw[hj] at hr
         cases hr
         obtain ⟨h2,n0,h3⟩:=ih _ _ _ _ _ _ _ _ h1 hp
         refine ⟨h2,n0+1,fun n hn=>?_⟩
         obtain ⟨k,rfl⟩:∃k,n=k+1:=⟨n - 1,by omega⟩
         rw[AE,h3 k (by omega),zx,if_pos (Nat.eq_of_beq_eq_true hj)]
       | false=>
         rw[hj] at hr
         cases hr
         obtain ⟨h2,n0,h3⟩:=ih _ _ _ _ _ _ _ _ h1 hp
         refine ⟨h2,n0+1,fun n hn=>?_⟩
         obtain ⟨k,rfl⟩:∃k,n=k+1:=⟨n - 1,by omega⟩
         rw[AE,h3 k (by omega),zx,if_neg (Nat.ne_of_beq_eq_false hj)]
     · rename_i id b _ eM
       obtain ⟨h2,n0,h3⟩:=ih _ _ _ _ _ _ _ _ hr hp
       refine ⟨h2,n0+1,fun n hn=>?_⟩
       obtain ⟨k,rfl⟩:∃k,n=k+1:=⟨n - 1,by omega⟩
       rw[AE,h3 k (by omega)]
       cases e with
       | exit j=>exact absurd hr (eM _ _ _ _)
       | _=>rfl
   · split at hr
     · cases hr;exact ⟨hp.2,hp.1⟩
     · cases hr
   · split at hr
     · cases hr;exact ⟨hp.2,hp.1⟩
     · cases hr
   · rename_i i ops draw
     split at hr
     · cases hr;exact ⟨hp.2,hp.1⟩
     cases draw with
     | true=>
       simp only[cond_true] at hr
       obtain ⟨h1,h2⟩:=Da hr hp
       exact ⟨h1,.of fun n=>by rw[VC];exact h2⟩
     | false=>
       simp only[cond_false] at hr
       obtain ⟨h1,h2⟩:=wV _ _ _ _ _ _ _ _ hr hp
       exact ⟨h1,.of fun n=>by rw[Rr];exact h2⟩
   · obtain ⟨h1,n0,h2⟩:=ih _ _ _ _ _ _ _ _ hr hp
     exact ⟨h1,n0+1,fun n hn=>by
      obtain ⟨k,rfl⟩:∃k,n=k+1:=⟨n - 1,by omega⟩
      show exec E call k _ s=_
      exact h2 k (by omega)⟩
   · cases hr;exact ⟨hp,.of fun _=>rfl⟩
   · cases hr
theorem BA {n:Nat} {c:Code} {s:St} {al:List mZ} {e:iC} {s':St} {ps:List Prop} (hr:run E call n c s al []= .at e s' [] ps) (hp:my ps):Ev E call c s e s':=(DY _ _ _ _ _ _ _ _ _ hr hp).2
theorem yJ {tmpl:(Nat→AV)→List AV} {c:Code} {s:St} {e:iC} {h:aw} {ds:List oh} {rc:RC} {L:List AV} (ev:Ev E call c s e ⟨L,h,ds,rc⟩) (hl:L=tmpl fun k=>L.getD k AV.undef):∃y,Ev E call c s e ⟨tmpl y,h,ds,rc⟩:=by
 refine ⟨fun k=>L.getD k AV.undef,?_⟩
 rw[←hl];exact ev
theorem VS {f:FuncId} {fn:Func} {c:Code} (hf:E.P.funcs[f]? =some fn) (hb:fn.body=some c) {args:List AV} {h h':aw} {ts:List AV} {x:iC} (hx:x= .normal∨x= .ret)
 (e:Ev E call c ⟨args++List.replicate (fn.ntmps - args.length) AV.undef,h,[],.no⟩ x ⟨ts,h',[],.no⟩) {vs:List AV} (hr:j5 E h' ts fn.results.toList=some vs):∃n0,∀n,n0≤n→wM E call n f args h= .ret (gF vs) h':=by
 obtain ⟨n0,e⟩:=e
 exact ⟨n0,fun n hn=>On hf hb hx (e n hn) hr⟩
def sQ (E:Env) (call:bj) (f:FuncId) (args:List AV) (h:aw) (v:AV) (h':aw):Prop:=∃n0,∀n,n0≤n→wM E call n f args h= .ret v h'
theorem a_ {f:FuncId} {fn:Func} {c:Code} {args Xr ts:List AV} {h h':aw} {x:iC} {v:AV} (hf:E.P.funcs[f]? =some fn) (hb:fn.body=some c) (ht:args++List.replicate (fn.ntmps - args.length) AV.undef=Xr) (hx:x= .normal∨x= .ret)
 (e:Ev E call c ⟨Xr,h,[],.no⟩ x ⟨ts,h',[],.no⟩) (hr:(j5 E h' ts fn.results.toList).map gF=some v):sQ E call f args h v h':=by
 subst ht
 cases hv:j5 E h' ts fn.results.toList with
 | none=>rw[hv] at hr;cases hr
 | some vs=>
   rw[hv] at hr
   obtain rfl:gF vs=v:=Option.some.inj hr
   exact VS hf hb hx e hv
end Go.Ab
end
section
namespace Go.Ab
variable {E:Env}
theorem BD {t:TypeId} {c d:Bool} {k:IntKind} {a b z:Int} (h:k.wrap (a+b)=z):cD E .add t c d (some (.int k a)) (some (.int k b))=some (.int k z):=by rw[ML,h]
theorem BE {t:TypeId} {c d:Bool} {k:IntKind} {a b z:Int} (h:k.wrap (a - b)=z):cD E .sub t c d (some (.int k a)) (some (.int k b))=some (.int k z):=by rw[VE,h]
theorem KV {t:TypeId} {c d:Bool} {k:IntKind} {a b z:Int} (h:k.wrap (a*b)=z):cD E .mul t c d (some (.int k a)) (some (.int k b))=some (.int k z):=by rw[VF,h]
theorem eI (k:IntKind) (n:Int):AV.scalar (.int k n)=true:=rfl
theorem dt (b:Bool):AV.scalar (.bool b)=true:=rfl
theorem eJ (b:List UInt8):AV.scalar (.str b)=true:=rfl
theorem eK (i o:Nat):AV.scalar (.ptr i o)=true:=rfl
theorem cI (i o n c:Nat) (b:Bool):AV.scalar (.slice i o n c b)=true:=rfl
theorem gU:AV.scalar .aK=true:=rfl
theorem gV:AV.scalar .gD=true:=rfl
theorem gW:AV.scalar .dU=true:=rfl
theorem gX:AV.scalar .nilFunc=true:=rfl
theorem gY:AV.scalar .nilIface=true:=rfl
theorem eL (i:Nat):AV.scalar (.map i)=true:=rfl
theorem kL {h:aw} {t:TypeId} {i o:Nat} {cs:List AV} {e:TypeId} {ro:Bool} {v:AV} (hg:h.get i=some (.cells cs e ro)) (hv:iB E t cs o=some v):bA E h t (.ptr i o)=some v:=by
 simp only[bA,hg,hv]
theorem jc {h h':aw} {o:aY} (n:h.new o=some h'):h'.get h.nx=some o:=(aw.lP n).2.2.1
theorem lr {h h':aw} {o:aY} (n:h.new o=some h'):h'.nx=h.nx+1:=(aw.lP n).2.1
theorem fG {h h':aw} {o x:aY} {i:Nat} (y:Tidy h) (n:h.new o=some h') (g:h.get i=some x):h'.get i=some x:=by
 have:=y i x g
 rw[(aw.lP n).2.2.2 i (by omega)];exact g
theorem wY {h h':aw} {o:aY} (y:Tidy h) (n:h.new o=some h'):Has h h':=fun _ _ g=>fG y n g
theorem fQ {h h':aw} {o:aY} (y:Tidy h) (n:h.new o=some h'):Tidy h':=fun i x g=>by
 obtain ⟨_,h2,h3,h4⟩:=aw.lP n
 by_cases hx:i=h.nx
 · omega
 · rw[h4 i hx] at g;have:=y i x g;omega
theorem lX {h:aw} (o:aY):∃h',h.new o=some h':=⟨_,aw.EM _ _⟩
theorem wZ {h:aw} {t e:TypeId} {i o n:Nat} {cs:List AV} {v:AV} (g:h.get i=some (.cells cs e false)) (hs:cq E t=some n) (hv:v.cells.length=n) (ho:o+n≤cs.length) (hk:v.cells.all AV.scalar=true):∃h',fp E h t (.ptr i o) v=some h':=by
 refine ⟨h.put i (some (.cells (setFrom cs o v.cells) e false)),?_⟩
 simp only[fp,g,hs]
 rw[if_pos ⟨hv,ho,hk⟩]
theorem w6 {h h':aw} {t e:TypeId} {i o:Nat} {cs:List AV} {v:AV} (s:fp E h t (.ptr i o) v=some h') (g:h.get i=some (.cells cs e false)):h'=h.put i (some (.cells (setFrom cs o v.cells) e false)):=by
 simp only[fp,g] at s
 split at s
 · rename_i h1 _
   cases h1
   split at s
   · exact (Option.some.inj s).symm
   · cases s
 · cases s
theorem uc {h h':aw} {t e:TypeId} {i o:Nat} {cs:List AV} {v:AV} (y:Tidy h) (s:fp E h t (.ptr i o) v=some h') (g:h.get i=some (.cells cs e false)):h'.get i=some (.cells (setFrom cs o v.cells) e false):=by
 rw[w6 s g]
 have:=y i _ g
 exact aw.bU _
theorem oK {h h':aw} {t e:TypeId} {i j o:Nat} {cs:List AV} {v:AV} {x:aY} (y:Tidy h) (s:fp E h t (.ptr i o) v=some h') (g:h.get i=some (.cells cs e false)) (hj:j≠i) (gx:h.get j=some x):h'.get j=some x:=by
 rw[w6 s g]
 have:=y i _ g
 rw[aw.bx (Ne.symm hj)];exact gx
theorem sR {h h':aw} {t e:TypeId} {i o:Nat} {cs:List AV} {v:AV} (s:fp E h t (.ptr i o) v=some h') (g:h.get i=some (.cells cs e false)):h'.nx=h.nx:=by
 rw[w6 s g];exact aw.Yf _ _ _
theorem ra {h h':aw} {t e:TypeId} {i o:Nat} {cs:List AV} {v:AV} (y:Tidy h) (s:fp E h t (.ptr i o) v=some h') (g:h.get i=some (.cells cs e false)):Tidy h':=fun j x gj=>by
 have hi:=y i _ g
 rw[sR s g]
 by_cases hx:j=i
 · omega
 · rw[w6 s g,aw.bx (Ne.symm hx)] at gj
   exact y j x gj
def Chg (h h':aw) (b:Nat) (o:aY):Prop:=Tidy h'∧h'.get b=some o∧∀i x,i≠b→h.get i=some x→h'.get i=some x
end Go.Ab
end
section
namespace Go.Ab
variable {E:Env}
theorem dT {p:Prop} [Decidable p] (h:p):decide p=true:=decide_eq_true h
theorem dF {p:Prop} [Decidable p] (h:¬p):decide p=false:=decide_eq_false h
theorem nT {p:Prop} [Decidable p] (h:¬p):(!decide p)=true:=by rw[decide_eq_false h];rfl
theorem nF {p:Prop} [Decidable p] (h:p):(!decide p)=false:=by rw[decide_eq_true h];rfl
def ck:Code→List Code
 | .seq a b=>ck a++ck b
 | .cond _ a b=>ck a++ck b
 | .block _ b=>ck b
 | .loop b=>b::ck b
 | .scope b=>ck b
 | .rangeFunc _ _ _ b=>b::ck b
 | _=> []
structure nO (E:Env) (h:aw) (e:TypeId) (n:Nat) (av:AV) (len:Nat) (cs:List AV):Prop where
 size:cq E e=some n
 cells:cs.length=len*n
 small:len<2^60
 lens:dw (some (.slice e)) (some av)=some (.int .i64 (len:Nat))
 block:len=0∨∃p o m c b C f ro,av= .slice p o m c b∧m≤c∧h.get p=some (.cells C f ro)∧(∀j,j<cs.length→C[o+j]? =cs[j]?)
theorem nO.has {h h':aw} {e:TypeId} {n:Nat} {av:AV} {len:Nat} {cs:List AV} (x:nO E h e n av len cs) (hh:Has h h'):nO E h' e n av len cs:=
 ⟨x.size,x.cells,x.small,x.lens,x.block.imp id fun ⟨p,o,m,c,b,C,f,ro,h1,h0,h2,h3⟩=>⟨p,o,m,c,b,C,f,ro,h1,h0,hh _ _ h2,h3⟩⟩
theorem nO.elem {h:aw} {e:TypeId} {av:AV} {len:Nat} {cs:List AV} (x:nO E h e 1 av len cs) (ha:fF E e=some false) {i:Nat} {v:AV} (hv:cs[i]? =some v):
 ∃p q,di E (some (.slice e)) (some av) (some (.int .i64 (i:Nat)))=some (.ptr p q)∧bA E h e (.ptr p q)=some v:=by
 have hi:=(List.getElem?_eq_some_iff.1 hv).1
 have hl:cs.length=len:=by rw[x.cells,Nat.mul_one]
 rcases x.block with h0 | ⟨p,o,m,c,b,C,f,ro,h1,_,h2,h3⟩
 · omega
 · subst h1
   have hm:m=len:=by
    have:=x.lens
    rw[jI] at this
    simp only[Option.some.injEq,AV.int.injEq,true_and] at this
    omega
   refine ⟨p,o+i*1,cA x.size (by omega),?_⟩
   simp only[bA,h2,iB,ha,Nat.mul_one]
   rw[h3 i hi,hv]
def uu (k:IntKind) (l:List Nat):List AV:=l.map fun (n:Nat)=> .int k (n:Int)
structure ft (E:Env) (h:aw) (k:IntKind) (e:TypeId) (av:AV) (l:List Nat):Prop where
 at_:nO E h e 1 av l.length (uu k l)
 agg:fF E e=some false
 known:av= .aK∨∃p o n c b,av= .slice p o n c b∧(b=true→0<c)
theorem sS {k:IntKind} {l:List Nat} {i:Nat} {z:Nat} (h:l[i]? =some z):(uu k l)[i]? =some (.int k (z:Int)):=by simp [uu,h]
theorem ft.elem {h:aw} {k:IntKind} {e:TypeId} {av:AV} {l:List Nat} (x:ft E h k e av l) {i:Nat} {z:Nat} (hz:l[i]? =some z):
 ∃p q,di E (some (.slice e)) (some av) (some (.int .i64 (i:Nat)))=some (.ptr p q)∧bA E h e (.ptr p q)=some (.int k (z:Int)):=x.at_.elem x.agg (sS hz)
theorem ft.len {h:aw} {k:IntKind} {e:TypeId} {av:AV} {l:List Nat} (x:ft E h k e av l):dw (some (.slice e)) (some av)=some (.int .i64 (l.length:Nat)):=x.at_.lens
theorem na (k:IntKind) (l:List Nat):(uu k l).length=l.length:=by simp [uu]
theorem ft.small {h:aw} {k:IntKind} {e:TypeId} {av:AV} {l:List Nat} (x:ft E h k e av l):l.length<2^60:=x.at_.small
def Off (p:Nat) (av:AV):Prop:=∀o n c b,av≠ .slice p o n c b
theorem ft.of {h:aw} {k:IntKind} {e:TypeId} {l:List Nat} {p o c:Nat} {b:Bool} {C:List AV} {f:TypeId} {ro:Bool} (hs:cq E e=some 1) (ha:fF E e=some false) (hl:l.length<2^60) (hc:l.length≤c) (hb:b=true→0<c) (hg:h.get p=some (.cells C f ro))
 (hv:∀(i:Nat) z,l[i]? =some z→C[o+i]? =some (.int k (z:Int))):ft E h k e (.slice p o l.length c b) l:=
 ⟨⟨hs,by rw[na];omega,hl,rfl,.inr ⟨p,o,_,c,b,C,f,ro,rfl,hc,hg,fun j hj=>by
   rw[na] at hj
   rw[hv j l[j] (List.getElem?_eq_getElem hj),sS (List.getElem?_eq_getElem hj)]⟩⟩,ha,.inr ⟨p,o,_,c,b,rfl,hb⟩⟩
theorem ft.nil {h:aw} {k:IntKind} {e:TypeId} (hs:cq E e=some 1) (ha:fF E e=some false):ft E h k e .aK []:=
 ⟨⟨hs,rfl,by decide,rfl,.inl rfl⟩,ha,.inl rfl⟩
theorem ft.inv {h:aw} {k:IntKind} {e:TypeId} {l:List Nat} {p o n c:Nat} {b:Bool} (x:ft E h k e (.slice p o n c b) l):n=l.length∧(l≠ []→l.length≤c∧∃C f ro,h.get p=some (.cells C f ro)∧∀(i:Nat) z,l[i]? =some z→C[o+i]? =some (.int k (z:Int))):=by
 have hn:n=l.length:=by
  have:=x.len
  rw[jI] at this
  simp only[Option.some.injEq,AV.int.injEq,true_and] at this
  omega
 refine ⟨hn,fun eM=>?_⟩
 rcases x.at_.block with h0 | ⟨p',o',m,c',b',C,f,ro,h1,h0,h2,h3⟩
 · exact absurd (List.length_eq_zero_iff.1 h0) eM
 · cases h1
   refine ⟨by omega,C,f,ro,h2,fun i z hz=>?_⟩
   rw[h3 i (by rw[na];exact (List.getElem?_eq_some_iff.1 hz).1),sS hz]
theorem ud {len cap lo hi:Nat} (low high:Option AV) (hl:low=some (.int .i64 (lo:Nat))∨(low=none∧lo=0)) (hh:high=some (.int .i64 (hi:Nat))∨(high=none∧hi=len)) (h1:lo≤hi) (h2:hi≤cap):kV len cap low high none=some (lo,hi,cap):=by
 have b:∀(x y:Nat),x≤y→oe (.int .i64 (x:Nat)) y=some x:=fun x y h=>by
  simp only[oe]
  rw[if_pos ⟨by omega,by omega⟩,Int.toNat_natCast]
 unfold kV
 rcases hh with rfl | ⟨rfl,rfl⟩<;>rcases hl with rfl | ⟨rfl,rfl⟩<;>simp [b,h1,h2]
theorem ft.slice {h:aw} {k:IntKind} {e t:TypeId} {av:AV} {l:List Nat} (x:ft E h k e av l) (ht:E.P.underlying t=some (.slice e)) {lo hi:Nat} (low high:Option AV) (hl:low=some (.int .i64 (lo:Nat))∨(low=none∧lo=0)) (hh:high=some (.int .i64 (hi:Nat))∨(high=none∧hi=l.length)) (h1:lo≤hi) (h2:hi≤l.length) (h3:l.length=0∨lo<l.length):
 ∃r,ij E t av low high none=some r∧ft E h k e r ((l.take hi).drop lo)∧∀p,Off p av→Off p r:=by
 rcases x.known with rfl | ⟨p,o,n,c,b,rfl,hb⟩
 · have Yi:l.length=0:=by
    have:=x.len
    rw[wQ] at this
    simp only[Option.some.injEq,AV.int.injEq,true_and] at this
    omega
   obtain rfl:=List.length_eq_zero_iff.1 Yi
   simp only[List.length_nil] at *
   have Ud:hi=0:=by omega
   subst Ud
   have Uc:lo=0:=by omega
   subst Uc
   refine ⟨.aK,?_,by simpa using x,fun p hp=>hp⟩
   simp only[ij,ht,x.at_.size,ud (len:=0) (cap:=0) low high hl hh (Nat.le_refl 0) (Nat.le_refl 0)]
 · obtain ⟨rfl,hx⟩:=x.inv
   have hlc:l.length≤c:=by
    by_cases eM:l=[]
    · subst eM;exact Nat.zero_le _
    · exact (hx eM).1
   have hr:∃o' c',ij E t (.slice p o l.length c b) low high none=some (.slice p o' (hi - lo) c' b)∧(b=true→0<c')∧hi - lo≤c'∧(hi - lo≠0→o'=o+lo):=by
    simp only[ij,ht,x.at_.size,hlc,if_true,ud (len:=l.length) (cap:=c) low high hl hh h1 (by omega)]
    by_cases hm:c=lo
    · have Pd:b=false:=by
       cases b with
       | false=>rfl
       | true=>have:=hb rfl;omega
      subst Pd
      rw[if_pos hm]
      exact ⟨o,c - lo,rfl,by simp,by omega,fun h=>by omega⟩
    · rw[if_neg hm]
      refine ⟨o+lo*1,c - lo,by simp,fun h=>by omega,by omega,fun h=>by omega⟩
   obtain ⟨o',c',e1,e2,e3,e4⟩:=hr
   refine ⟨_,e1,?_,fun q hq o' n' c' b' he=>by cases he;exact hq _ _ _ _ rfl⟩
   have hlen:((l.take hi).drop lo).length=hi - lo:=by simp;omega
   rw[←hlen]
   by_cases h0:hi - lo=0
   · have:(l.take hi).drop lo=[]:=List.length_eq_zero_iff.1 (by omega)
     rw[this]
     exact ⟨⟨x.at_.size,rfl,by decide,rfl,.inl rfl⟩,x.agg,.inr ⟨_,_,_,_,_,rfl,e2⟩⟩
   · have eM:l≠ []:=fun e=>by subst e;simp at h2;omega
     obtain ⟨_,C,f,ro,g1,g2⟩:=hx eM
     refine ft.of x.at_.size x.agg (by have:=x.small;omega) (by omega) e2 g1 fun i z hz=>?_
     have ES:i<hi - lo:=by rw[←hlen];exact (List.getElem?_eq_some_iff.1 hz).1
     rw[e4 h0,Nat.add_assoc]
     apply g2
     rw[List.getElem?_drop,List.getElem?_take_of_lt (by omega)] at hz
     exact hz
structure Uk (h:aw) (av:AV) (p o n:Nat) (C:List AV) (f:TypeId):Prop where
 is:∃c b,av= .slice p o n c b∧n≤c
 get:h.get p=some (.cells C f false)
 fits:o+n≤C.length
theorem Uk.len {h:aw} {av:AV} {p o n:Nat} {C:List AV} {f e:TypeId} (w:Uk h av p o n C f):dw (some (.slice e)) (some av)=some (.int .i64 (n:Nat)):=by
 obtain ⟨c,b,rfl,_⟩:=w.is
 rfl
theorem Uk.slice {h:aw} {av:AV} {p o n:Nat} {C:List AV} {f e t:TypeId} (w:Uk h av p o n C f) (hs:cq E e=some 1) (ht:E.P.underlying t=some (.slice e)) {lo hi:Nat} (low high:Option AV) (hl:low=some (.int .i64 (lo:Nat))∨(low=none∧lo=0)) (hh:high=some (.int .i64 (hi:Nat))∨(high=none∧hi=n)) (h1:lo≤hi) (h2:hi≤n) (h3:lo<n):
 ∃r,ij E t av low high none=some r∧Uk h r p (o+lo) (hi - lo) C f:=by
 obtain ⟨c,b,rfl,hc⟩:=w.is
 have:=w.fits
 refine ⟨.slice p (o+lo) (hi - lo) (c - lo) b,?_,⟨⟨_,_,rfl,by omega⟩,w.get,by omega⟩⟩
 simp only[ij,ht,hs,hc,if_true,ud (len:=n) (cap:=c) low high hl hh h1 (by omega)]
 rw[if_neg (by omega)]
 simp
def Holds (k:IntKind) (C:List AV) (o:Nat) (l:List Nat):Prop:=∀(i z:Nat),l[i]? =some z→C[o+i]? =some (.int k (z:Int))
theorem Holds.behind {k:IntKind} {C:List AV} {o:Nat} {l ws:List Nat} (x:Holds k C o l) {i z:Nat} (hi:ws.length≤i) (hz:l[i]? =some z):(setFrom C o (uu k ws))[o+i]? =some (.int k (z:Int)):=by
 rw[eD,if_neg (by rw[na];omega)]
 exact x i z hz
theorem Uk.load {h:aw} {av:AV} {p o n:Nat} {C:List AV} {f e:TypeId} {i:Nat} {v:AV} (w:Uk h av p o n C f) (ha:fF E e=some false) (hv:C[o+i]? =some v):bA E h e (.ptr p (o+i))=some v:=by
 simp only[bA,w.get,iB,ha,hv]
theorem Uk.uu {h:aw} {av:AV} {p o n:Nat} {C:List AV} {f e:TypeId} {k:IntKind} {l:List Nat} (w:Uk h av p o n C f) (hs:cq E e=some 1) (ha:fF E e=some false) (hn:l.length=n) (UG:n<2^60) (x:Holds k C o l) (hb:∀c b,av= .slice p o n c b→b=true→0<c):ft E h k e av l:=by
 obtain ⟨c,b,rfl,hc⟩:=w.is
 subst hn
 exact ft.of hs ha UG hc (hb c b rfl) w.get x
theorem Holds.of {k:IntKind} {C:List AV} {o:Nat} {l:List Nat} (hf:o+l.length≤C.length):Holds k (setFrom C o (uu k l)) o l:=fun i z hz=>by
 have hi:=(List.getElem?_eq_some_iff.1 hz).1
 rw[eD,if_pos ⟨by omega,by rw[na];omega,by omega⟩,Nat.add_sub_cancel_left,sS hz]
end Go.Ab
end
section
namespace Go.Ab
open Go.WideElems Go.RowKit Go.Proofs
variable {E:Env}
theorem CR.plain {φ φ':Ph} {cs:List AV} {t:TypeId} {ro:Bool} {l:Loc} {C:Array Value} {lo hi:Nat} (h:CR E φ' cs t ro l C lo hi) (hp:cs.all (AV.plain 20)=true):CR E φ cs t ro l C lo hi where
 size:=h.size
 val k x hk:=by
  obtain ⟨y,hy,hv⟩:=h.val k x hk
  exact ⟨y,hy,hv.plain 20 (List.all_eq_true.1 hp x (List.mem_of_getElem? hk))⟩
 free:=h.free
 zero:=h.zero
end Go.Ab
end
section
namespace Go.Ab
variable {E:Env} {M0:Fa.FR}
theorem sQ.unique {call:bj} {f:FuncId} {args:List AV} {h h1 h2:aw} {v1 v2:AV} (a:sQ E call f args h v1 h1) (b:sQ E call f args h v2 h2):v1=v2∧h1=h2:=by
 obtain ⟨n,a⟩:=a
 obtain ⟨m,b⟩:=b
 have:=(a (n+m) (by omega)).symm.trans (b (n+m) (by omega))
 simpa using this
def AV.within (nx:Nat):Nat→AV→Bool
 | 0,_=>false
 | n+1,x=>match x with
   | .bool _ | .int .. | .str _ | .gD | .aK | .dU | .nilFunc | .nilIface | .ff=>true
   | .ptr i _=>decide (i<nx)
   | .slice i _ _ _ _=>decide (i<nx)
   | .map i=>decide (i<nx)
   | .iface _ v=>AV.within nx n v
   | .agg cs=>cs.all (AV.within nx n)
   | .tuple cs=>cs.all (AV.within nx n)
   | _=>false
theorem VR.within {φ φ':Ph} {nx:Nat} (ho:∀i,i<nx→φ' i=φ i):∀(n:Nat) {x:AV} (_:AV.within nx n x=true) {y:Value},VR φ' x y→VR φ x y
 | 0,_,h,_,_=>by cases h
 | n+1,x,h,y,hv=>by
   have ih:= @VR.within φ φ' nx ho n
   cases hv with
   | bool b=>exact .bool b
   | int k m=>exact .int k m
   | str s=>exact .str s
   | gD=>exact .gD
   | aK=>exact .aK
   | dU=>exact .dU
   | nilFunc=>exact .nilFunc
   | nilIface=>exact .nilIface
   | ff a c=>exact .ff a c
   | ptr o hl=>rw[ho _ (of_decide_eq_true h)] at hl;exact .ptr o hl
   | slice o len cap op hl=>rw[ho _ (of_decide_eq_true h)] at hl;exact .slice o len cap op hl
   | map hl=>rw[ho _ (of_decide_eq_true h)] at hl;exact .map hl
   | iface t v v' h'=>exact .iface t v v' (ih (by simpa [AV.within] using h) h')
   | agg cs iO hl hc=>
     refine .agg cs iO hl fun i x y a b=>ih ?_ (hc i x y a b)
     simp only[AV.within,List.all_eq_true] at h
     exact h x (List.mem_of_getElem? a)
   | tuple cs iO hl hc=>
     refine .tuple cs iO hl fun i x y a b=>ih ?_ (hc i x y a b)
     simp only[AV.within,List.all_eq_true] at h
     exact h x (List.mem_of_getElem? a)
   | _=>cases h
theorem lD.MR {f:FuncId} {args:List AV} {h h':aw} {v:AV} (r:lD E f args h v h') (hs:Has h h') (hv:AV.within h.nx 20 v=true):lD E f args h v h:=fun φ w vs ok hl=>by
 obtain ⟨h1,h2⟩:=r φ w vs ok hl
 refine ⟨h1,fun cs=>?_⟩
 obtain ⟨φ',w',v',fr,x1,x2,x3,x4⟩:=h2 cs
 exact ⟨φ,w',v',fr,x1.within x3.old 20 hv,ok.forget x3.ext x2 hs,x3.forget,x4⟩
def DZ (E:Env) (call:bj) (l:Nat) (args:List AV) (h:aw) (v:AV) (h':aw):Prop:=∃n0,∀n,n0≤n→qF E call n l args h= .ret v h'
theorem DZ.unique {call:bj} {l:Nat} {args:List AV} {h h1 h2:aw} {v1 v2:AV} (a:DZ E call l args h v1 h1) (b:DZ E call l args h v2 h2):v1=v2∧h1=h2:=by
 obtain ⟨n,a⟩:=a
 obtain ⟨m,b⟩:=b
 have:=(a (n+m) (by omega)).symm.trans (b (n+m) (by omega))
 simpa using this
open Classical in
noncomputable def e_ (E:Env) (M0:Fa.FR):Nat→bj
 | 0=>Bw M0
 | d+1=>fun F args h=>match F with
   | .vg l=>if hy:∃p:AV×aw,DZ E (e_ E M0 d) l args h p.1 p.2 then .ret hy.choose.1 hy.choose.2 else .fail "" none
   | .fn f=>match M0 f args h with
     | some p=> .ret p.1 p.2
     | none=>
       if hx:∃v,∃h',sQ E (e_ E M0 d) f args h v h'∧Has h h'∧AV.within h.nx 20 v=true then .ret hx.choose h
       else if hy:∃p:AV×aw,sQ E (e_ E M0 d) f args h p.1 p.2 then .ret hy.choose.1 hy.choose.2 else .fail "" none
theorem BF (hE:kK E) (hM:Fa.FT E M0):∀d,iI E (e_ E M0 d)
 | 0=>Oo hM
 | d+1=>by
   have ih:=BF hE hM d
   have key:∀{f:FuncId} {args:List AV} {h:aw} {o:ju},e_ E M0 (d+1) (.fn f) args h=o→(∃v h',o= .ret v h'∧lD E f args h v h')∨o= .fail "" none:=by
    intro f args h o e
    simp only[e_] at e
    split at e
    · rename_i p hp
      exact .inl ⟨_,_,e.symm,hM _ _ _ _ _ hp⟩
    · split at e
      · rename_i hx
        obtain ⟨h',⟨n,h1⟩,h2,h3⟩:=hx.choose_spec
        exact .inl ⟨_,_,e.symm,lD.MR ((px hE n ih).1 _ _ _ _ _ (h1 n (Nat.le_refl n))) h2 h3⟩
      · split at e
        · rename_i hy
          obtain ⟨n,h1⟩:=hy.choose_spec
          exact .inl ⟨_,_,e.symm,(px hE n ih).1 _ _ _ _ _ (h1 n (Nat.le_refl n))⟩
        · exact .inr e.symm
   refine ⟨fun F args h v h' e=>?_,fun F args h v h' e=>?_⟩
   · cases F with
     | vg l=>
       simp only[e_] at e
       split at e
       · rename_i hy
         cases e
         obtain ⟨n,h1⟩:=hy.choose_spec
         intro φ w vs ok hf hl
         obtain ⟨ll,hφ⟩:=hf
         obtain ⟨f,tmps,assign,body,hy2,gv⟩:=vx hE ih (h1 n (Nat.le_refl n)) (by simp) ok hφ hl
         exact ⟨_,_,.vg l ll hφ vs f tmps assign body hy2,fun c cs=>(gv c cs).1 _ _ rfl⟩
       · cases e
     | fn f=>
       rcases key e with ⟨w,k,h1,h2⟩ | h1
       · cases h1;exact h2.any
       · cases h1
   · cases F with
     | vg l=>
       simp only[e_] at e
       split at e<;>cases e
     | fn f=>
       rcases key e with ⟨w,k,h1,h2⟩ | h1
       · cases h1
       · cases h1
theorem az {d:Nat} {f:FuncId} {args:List AV} {h h':aw} {v:AV} (hm:M0 f args h=none) (hd:sQ E (e_ E M0 d) f args h v h') (hh:Has h h') (hv:AV.within h.nx 20 v=true):e_ E M0 (d+1) (.fn f) args h= .ret v h:=by
 simp only[e_,hm]
 have hx:∃v,∃h',sQ E (e_ E M0 d) f args h v h'∧Has h h'∧AV.within h.nx 20 v=true:=⟨v,h',hd,hh,hv⟩
 rw[dif_pos hx]
 obtain ⟨k,h1,_,_⟩:=hx.choose_spec
 rw[(h1.unique hd).1]
theorem oc {d:Nat} {f:FuncId} {args:List AV} {h h':aw} {v:AV} (hm:M0 f args h=none) (hd:sQ E (e_ E M0 d) f args h v h') (hv:¬(Has h h'∧AV.within h.nx 20 v=true)):e_ E M0 (d+1) (.fn f) args h= .ret v h':=by
 simp only[e_,hm]
 have hx:¬∃v,∃h',sQ E (e_ E M0 d) f args h v h'∧Has h h'∧AV.within h.nx 20 v=true:=by
  rintro ⟨w,k,h1,h2,h3⟩
  obtain ⟨rfl,rfl⟩:=h1.unique hd
  exact hv ⟨h2,h3⟩
 have hy:∃p:AV×aw,sQ E (e_ E M0 d) f args h p.1 p.2:=⟨(v,h'),hd⟩
 rw[dif_neg hx,dif_pos hy]
 obtain ⟨h1,h2⟩:=hy.choose_spec.unique hd
 rw[h1,h2]
theorem Ou {d l:Nat} {args:List AV} {h h':aw} {v:AV} (hd:DZ E (e_ E M0 d) l args h v h'):e_ E M0 (d+1) (.vg l) args h= .ret v h':=by
 simp only[e_]
 have hy:∃p:AV×aw,DZ E (e_ E M0 d) l args h p.1 p.2:=⟨(v,h'),hd⟩
 rw[dif_pos hy]
 obtain ⟨h1,h2⟩:=hy.choose_spec.unique hd
 rw[h1,h2]
theorem IJ (hE:kK E) (hM:Fa.FT E M0) {d:Nat} {f:FuncId} {args:List AV} {h h':aw} {v:AV} (e:e_ E M0 d (.fn f) args h= .ret v h'):lD E f args h v h':=by
 cases d with
 | zero=>
   simp only[e_,Bw] at e
   split at e
   · rename_i p hp
     cases e
     exact hM _ _ _ _ _ hp
   · cases e
 | succ d=>
   simp only[e_] at e
   split at e
   · rename_i p hp
     cases e
     exact hM _ _ _ _ _ hp
   · split at e
     · rename_i hx
       cases e
       obtain ⟨h',⟨n,h1⟩,h2,h3⟩:=hx.choose_spec
       exact lD.MR ((px hE n (BF hE hM d)).1 _ _ _ _ _ (h1 n (Nat.le_refl n))) h2 h3
     · split at e
       · rename_i hy
         cases e
         obtain ⟨n,h1⟩:=hy.choose_spec
         exact (px hE n (BF hE hM d)).1 _ _ _ _ _ (h1 n (Nat.le_refl n))
       · cases e
end Go.Ab
end
section
namespace Go.Ab
variable {E:Env}
theorem wrap_u64 (n:Nat):IntKind.u64.wrap (n:Int)=((n%18446744073709551616:Nat):Int):=by
 show (if (false&&decide ((n:Int)%2^64≥2^63))=true then (n:Int)%2^64 - 2^64 else (n:Int)%2^64)=_
 rw[if_neg (by simp)]
 omega
theorem FZ (a b:Nat):IntKind.u64.wrap ((a:Int)+b)=(((a+b)%18446744073709551616:Nat):Int):=by rw[←wrap_u64];congr 1
theorem zB {t:TypeId} {c d:Bool} {a b:Nat} (h:a+b<18446744073709551616):cD E .add t c d (some (.int .u64 (a:Int))) (some (.int .u64 (b:Int)))=some (.int .u64 ((a+b:Nat):Int)):=by
 rw[ML,FZ,Nat.mod_eq_of_lt h]
end Go.Ab
end
section
namespace Go.Ab
variable {E:Env} {M0:Fa.FR}
structure Grow (h h':aw):Prop where
 y:Tidy h'
 a:Has h h'
 n:h.nx≤h'.nx
theorem Grow.refl {h:aw} (y:Tidy h):Grow h h:=⟨y,Has.refl h,Nat.le_refl _⟩
theorem Grow.trans {a b c:aw} (x:Grow a b) (y:Grow b c):Grow a c:=⟨y.y,x.a.trans y.a,Nat.le_trans x.n y.n⟩
theorem gH {d:Nat} {f:FuncId} {args:List AV} {h h':aw} {v:AV} {P:aw→Prop} (hm:M0 f args h=none) (hd:sQ E (e_ E M0 d) f args h v h') (y:Tidy h) (g:Grow h h') (p1:P h') (p2:AV.within h.nx 20 v=true→P h):
 ∃hk,e_ E M0 (d+1) (.fn f) args h= .ret v hk∧Grow h hk∧P hk:=by
 by_cases hv:AV.within h.nx 20 v=true
 · exact ⟨h,az hm hd g.a hv,Grow.refl y,p2 hv⟩
 · exact ⟨h',oc hm hd fun c=>hv c.2,g,p1⟩
theorem lu {d:Nat} {f:FuncId} {args:List AV} {h h':aw} {v:AV} (hm:M0 f args h=none) (hd:sQ E (e_ E M0 d) f args h v h'):
 ∃hk,e_ E M0 (d+1) (.fn f) args h= .ret v hk∧(hk=h'∨(hk=h∧Has h h')):=by
 by_cases hv:Has h h'∧AV.within h.nx 20 v=true
 · exact ⟨h,az hm hd hv.1 hv.2,.inr ⟨rfl,hv.1⟩⟩
 · exact ⟨h',oc hm hd hv,.inl rfl⟩
theorem kY {h:aw} {p:Nat} {x o:aY} (y:Tidy h) (g:h.get p=some x):Chg h (h.put p (some o)) p o:=
 ⟨fun i z hz=>by
  by_cases e:i=p
  · subst e;exact y _ _ g
  · rw[aw.bx (Ne.symm e)] at hz;exact y _ _ hz,
  aw.bU _,fun i z hi hz=>by rw[aw.bx (Ne.symm hi)];exact hz⟩
def Kept (p:Nat) (h h':aw):Prop:=∀i x,i≠p→h.get i=some x→h'.get i=some x
theorem Has.kept {p:Nat} {h h':aw} (a:Has h h'):Kept p h h':=fun i x _ g=>a i x g
theorem Kept.store {h h':aw} {t e:TypeId} {i o:Nat} {cs:List AV} {v:AV} (y:Tidy h) (s:fp E h t (.ptr i o) v=some h') (g:h.get i=some (.cells cs e false)):Kept i h h':=fun _ _ hj gj=>oK y s g hj gj
theorem ft.kept {h h':aw} {k:IntKind} {e:TypeId} {av:AV} {l:List Nat} {p:Nat} (x:ft E h k e av l) (c:Kept p h h') (ho:Off p av):ft E h' k e av l:=by
 refine ⟨⟨x.at_.size,x.at_.cells,x.at_.small,x.at_.lens,x.at_.block.imp id fun ⟨p',o',m,c',b,C,f,ro,h1,h0,h2,h3⟩=>⟨p',o',m,c',b,C,f,ro,h1,h0,c p' _ (fun e=>?_) h2,h3⟩⟩,x.agg,x.known⟩
 subst e
 exact ho _ _ _ _ h1
theorem zC (k:IntKind) (l:List Nat):(uu k l).all AV.scalar=true:=by
 simp [uu,AV.scalar]
theorem ft.nu {h:aw} {k:IntKind} {e:TypeId} {av:AV} {l:List Nat} (x:ft E h k e av l):nu av=some l.length:=by
 rcases x.known with rfl | ⟨p,o,n,c,b,rfl,_⟩
 · have:=x.len
   rw[wQ] at this
   simp only[Option.some.injEq,AV.int.injEq,true_and] at this
   rw[show l.length=0 by omega];rfl
 · rw[x.inv.1];rfl
theorem ft.first {h:aw} {k:IntKind} {e:TypeId} {av:AV} {l:List Nat} (x:ft E h k e av l):fq h 1 l.length av=some (uu k l):=by
 by_cases hl:l=[]
 · subst hl
   rcases x.known with rfl | ⟨p,o,n,c,b,rfl,_⟩<;>simp [fq,uu]
 rcases x.known with rfl | ⟨p,o,n,c,b,rfl,_⟩
 · have:=x.len
   rw[wQ] at this
   simp only[Option.some.injEq,AV.int.injEq,true_and] at this
   exact absurd (List.length_eq_zero_iff.1 (show l.length=0 by omega)) hl
 · obtain ⟨rfl,h2⟩:=x.inv
   obtain ⟨_,C,f,ro,g,hv⟩:=h2 hl
   have hC:o+l.length≤C.length:=by
    have hp:0<l.length:=List.length_pos_iff.2 hl
    have:=hv (l.length - 1) _ (List.getElem?_eq_getElem (show l.length - 1<l.length by omega))
    have:=(List.getElem?_eq_some_iff.1 this).1
    omega
   have h0:¬l.length=0:=fun e=>hl (List.length_eq_zero_iff.1 e)
   simp only[fq,Nat.le_refl,if_true,h0,if_false,g,Nat.mul_one,hC]
   refine congrArg some (List.ext_getElem? fun i=>?_)
   by_cases hi:i<l.length
   · rw[List.getElem?_take_of_lt hi,List.getElem?_drop,hv i _ (List.getElem?_eq_getElem hi),sS (List.getElem?_eq_getElem hi)]
   · rw[List.getElem?_eq_none (by simp;omega),List.getElem?_eq_none (by rw[na];omega)]
theorem MI {h:aw} {k:IntKind} {e t:TypeId} {tys:Array TypeId} {d s:AV} {l:List Nat} {p o n:Nat} {C:List AV} {f:TypeId} (h0:tys[0]? =some t) (ht:E.P.underlying t=some (.slice e)) (hs:cq E e=some 1) (w:Uk h d p o n C f) (x:ft E h k e s l) (hn:l.length≤n):
 uJ E h tys d s=some (.int .i64 (l.length:Nat),h.put p (some (.cells (setFrom C o (uu k l)) f false))):=by
 obtain ⟨c,b,rfl,hc⟩:=w.is
 have hf:=w.fits
 have A3:fq h 1 (min l.length n) s=some (uu k l):=by
  rw[Nat.min_eq_left hn];exact x.first
 simp only[uJ,h0,ht,x.nu,hs,A3,w.get]
 rw[if_pos ⟨by rw[na];omega,zC k l⟩,Nat.min_eq_left hn]
theorem append_nil {h:aw} {k:IntKind} {e s xt:TypeId} {tys:Array TypeId} {bytes:Nat} {z x:AV} {m:List Nat} (h0:tys[0]? =some s) (h1:tys[1]? =some xt) (hs:E.P.underlying s=some (.slice e)) (hx:E.P.underlying xt=some (.slice e)) (Hh:cq E e=some 1) (hb:fT E e=some bytes) (sb:fE E e=some z) (hz:z.cells.length=1) (h8:bytes≤15) (x1:ft E h k e x m) (hm:m≠ []) (hl:m.length≤1073741824):
 ∃h',b8 E h tys .aK x=some (.slice h.nx 0 m.length m.length true,h')∧h.new (.cells (uu k m) e false)=some h':=by
 obtain ⟨h',n⟩:=lX (h:=h) (.cells (uu k m) e false)
 refine ⟨h',?_,n⟩
 have hn:¬m.length=0:=fun e=>hm (List.length_eq_zero_iff.1 e)
 have E0:(4*m.length+4096)*(bytes+1)≤1099511627776:=Nat.le_trans (Nat.mul_le_mul (show 4*m.length+4096≤68719476736 by omega) (show bytes+1≤16 by omega)) (by decide)
 simp only[b8,h0,h1,hs,hx,mC,Hh,hb,x1.nu,x1.first,sb,hz,zC,na,Nat.mul_one,hn,E0,n,if_true,if_false,and_self,Bool.false_eq_true]
end Go.Ab
end
section
namespace Go.Ab
variable {E:Env}
structure Pk (al:List mZ) (p0 ps:List Prop):Prop where
 ok:my p0→my ps
section
variable {al:List mZ} {p0 ps:List Prop}
theorem ZZ {p:List Prop}:Pk [] p p:=⟨id⟩
theorem AA (a:mZ) (k:Pk al p0 ps):Pk (a::al) p0 ps:=⟨k.ok⟩
theorem CC (k:Pk al p0 ps):Pk (.c::al) p0 ps:=⟨k.ok⟩
def cs:Nat→List mZ→List mZ
 | 0,l=>l
 | n+1,l=> .c::cs n l
theorem CN (n:Nat) (k:Pk al p0 ps):Pk (cs n al) p0 ps:=⟨k.ok⟩
theorem HH {P:Prop} (h:P) (k:Pk al (P::p0) ps):Pk al p0 ps:=⟨fun c=>k.ok ⟨h,c⟩⟩
theorem VV {l:Option AV} {x:AV} (h:l=some x) (k:Pk al ((l=some x)::p0) ps):Pk (.v x::al) p0 ps:=⟨fun c=>k.ok ⟨h,c⟩⟩
theorem QQ {l:Option AV} {x:AV} (h:l=some x) (k:Pk al ((l=some x)::p0) ps):Pk (.q x::al) p0 ps:=⟨fun c=>k.ok ⟨h,c⟩⟩
theorem MM {l:Option AV} {x:AV} (h:l=some x) (k:Pk al ((l=some x)::p0) ps):Pk (.m x::al) p0 ps:=⟨fun c=>k.ok ⟨h,c⟩⟩
theorem TT (k:Pk al ((true=true)::p0) ps):Pk (.b true::al) p0 ps:=⟨fun c=>k.ok ⟨rfl,c⟩⟩
theorem FF (k:Pk al ((false=false)::p0) ps):Pk (.b false::al) p0 ps:=⟨fun c=>k.ok ⟨rfl,c⟩⟩
theorem BB {u v:Bool} (h:u=v) (k:Pk al ((u=v)::p0) ps):Pk (.b v::al) p0 ps:=⟨fun c=>k.ok ⟨h,c⟩⟩
theorem EE {call:bj} {f:Fn} {args:List AV} {h h':aw} {x:AV} (e:call f args h= .ret x h') (k:Pk al ((call f args h= .ret x h')::p0) ps):Pk (.e x h'::al) p0 ps:=⟨fun c=>k.ok ⟨e,c⟩⟩
theorem SS {h h':aw} {t:TypeId} {a v:AV} (s:fp E h t a v=some h') (k:Pk al ((AV.undef=AV.undef∧fp E h t a v=some h')::p0) ps):Pk (.e AV.undef h'::al) p0 ps:=⟨fun c=>k.ok ⟨⟨rfl,s⟩,c⟩⟩
theorem PP {l:Option (AV×aw)} {x:AV} {h':aw} (e:l=some (x,h')) (k:Pk al ((l=some (x,h'))::p0) ps):Pk (.e x h'::al) p0 ps:=⟨fun c=>k.ok ⟨e,c⟩⟩
theorem NN {h h':aw} {obj:aY} (n:h.new obj=some h') (f:Nat→AV) (k:Pk al ((∃mk:Nat→AV,some (obj,f)=some (obj,mk)∧mk h.nx=f h.nx)::(h.new obj=some h')::p0) ps):Pk (.a obj (f h.nx) h'::al) p0 ps:=⟨fun c=>k.ok ⟨⟨f,rfl,rfl⟩,n,c⟩⟩
theorem LL {call:bj} {b:Code} {s s':St} {e:iC} (ev:Ev E call b s e s') (k:Pk al ((Ev E call b s e s')::p0) ps):Pk (.l e s'::al) p0 ps:=⟨fun c=>k.ok ⟨ev,c⟩⟩
end
@[irreducible] def uP:R→List AV
  | .at _ s _ _=>s.ts
  | .bad=> []
theorem Xt {call:bj} {c:Code} {ts:List AV} {h h':aw} {ds:List oh} {rc:RC} {n:Nat} {e:iC} {al:List mZ} {ps:List Prop} (k:Pk al [] ps) (hr:run E call n c ⟨ts,h,ds,rc⟩ al []= .at e ⟨uP (run E call n c ⟨ts,h,ds,rc⟩ al []),h',ds,rc⟩ [] ps):Ev E call c ⟨ts,h,ds,rc⟩ e ⟨uP (run E call n c ⟨ts,h,ds,rc⟩ al []),h',ds,rc⟩:=BA hr (k.ok trivial)
theorem Y9 {call:bj} {c:Code} {s s':St} {n:Nat} {e:iC} {al:List mZ} {ps:List Prop} (k:Pk al [] ps) (hr:run E call n c s al []= .at e s' [] ps):Ev E call c s e s':=BA hr (k.ok trivial)
def rx (x:Nat→AV):Nat→Nat→List AV→List AV
 | _,0,l=>l
 | i,n+1,l=>x i::rx x (i+1) n l
def jl:Nat→List AV
 | 0=> []
 | n+1=>AV.undef::jl n
end Go.Ab
end
section
set_option linter.unusedVariables false
namespace Go.Ab
open Go.WideElems Go.RowKit Go.Proofs Go.Shelf
variable {E:Env}
def vB (x:Int×Int):List Value:=[.int .i64 x.1,.int .i64 x.2]
def uv (x y:Int×Int):Int:=Lib.compareInt x.1 y.1
def ko (L:List (Int×Int)):List (Int×Int):=(Sort.pdq (ltOf uv) L.toArray 0 L.toArray.size (Lib.bitLen L.toArray.size) true true).toList
def lY:List (Int×Int)→List AV
 | []=> []
 | x::l=> .int .i64 x.1:: .int .i64 x.2::lY l
def nH:List (Int×Int)→List Value
 | []=> []
 | x::l=> .int .i64 x.1:: .int .i64 x.2::nH l
def vC:List AV→Option (List (Int×Int))
 | []=>some []
 | .int .i64 a:: .int .i64 b::l=>match vC l with
   | some r=>some ((a,b)::r)
   | none=>none
 | _=>none
theorem D0:∀L:List (Int×Int),vC (lY L)=some L
 | []=>rfl
 | x::l=>by
   show (match vC (lY l) with | some r=>some ((x.1,x.2)::r) | none=>none)=_
   rw[D0 l]
theorem BG:∀{cs:List AV} {L:List (Int×Int)},vC cs=some L→cs=lY L
 | [],L,h=>by cases h;rfl
 | .int .i64 a:: .int .i64 b::cs,L,h=>by
   simp only[vC] at h
   split at h
   · rename_i r hr
     cases h
     rw[BG hr];rfl
   · cases h
theorem lE:∀L:List (Int×Int),(lY L).length=L.length*2
 | []=>rfl
 | x::l=>by simp only[lY,List.length_cons,lE l];omega
theorem ue:∀L:List (Int×Int),(nH L).length=L.length*2
 | []=>rfl
 | x::l=>by simp only[nH,List.length_cons,ue l];omega
theorem D1:∀(L:List (Int×Int)) (j:Nat),j<L.length*2→(lY L)[j]? =some (.int .i64 (if j%2=0 then L[j/2]!.1 else L[j/2]!.2))
 | [],j,h=>by simp at h
 | x::l,0,h=>rfl
 | x::l,1,h=>rfl
 | x::l,j+2,h=>by
   show (lY l)[j]? =_
   rw[D1 l j (by simp at h;omega),Nat.add_mod_right,Nat.add_div_right j (by decide)]
   rfl
theorem D2:∀(L:List (Int×Int)) (j:Nat),j<L.length*2→(nH L)[j]? =some (.int .i64 (if j%2=0 then L[j/2]!.1 else L[j/2]!.2))
 | [],j,h=>by simp at h
 | x::l,0,h=>rfl
 | x::l,1,h=>rfl
 | x::l,j+2,h=>by
   show (nH l)[j]? =_
   rw[D2 l j (by simp at h;omega),Nat.add_mod_right,Nat.add_div_right j (by decide)]
   rfl
theorem BH (φ:Ph):∀L:List (Int×Int),LR φ (lY L) (nH L)
 | []=>LR.nil φ
 | x::l=>LR.cons (.int _ _) (LR.cons (.int _ _) (BH φ l))
theorem rb:∀L:List (Int×Int),(lY L).all AV.scalar=true
 | []=>rfl
 | x::l=>by show (true&&(true&&(lY l).all AV.scalar))=true;rw[rb l];rfl
theorem D3 (d:Array (Int×Int)) (j:Nat) (h:j<d.size*2):(Sort.flatK vB 2 d)[j]! = .int .i64 (if j%2=0 then d.toList[j/2]!.1 else d.toList[j/2]!.2):=by
 rw[Sort.get_flatK vB 2 d j h]
 have e:d.toList[j/2]! =d[j/2]! :=by
  rw[getElem!_pos d (j/2) (by omega),getElem!_pos d.toList (j/2) (by rw[Array.length_toList];omega)];simp
 rw[e]
 rcases Nat.mod_two_eq_zero_or_one j with q | q<;>rw[q]<;>rfl
theorem sU (L:List (Int×Int)):(ko L).Perm L∧(ko L).length=L.length∧∀i j,i<j→j<L.length→(ko L)[i]!.1≤(ko L)[j]!.1:=by
 have lt:∀x y:Int×Int,ltOf uv x y=decide (x.1<y.1):=fun x y=>by
  unfold ltOf uv Lib.compareInt
  by_cases h1:x.1<y.1
  · simp [h1]
  · by_cases h2:y.1<x.1<;>simp [h1,h2]
 have hO:Sort.SWO (ltOf uv):=by
  refine ⟨fun x=>by rw[lt];simp,fun x y z h1 h2=>?_,fun x y z h1 h2=>?_⟩<;>rw[lt] at * <;>simp at * <;>omega
 have hp:=Sort.pdq_sorts (ltOf uv) hO L.toArray 0 L.toArray.size (Lib.bitLen L.toArray.size) true true (Nat.zero_le _) (Nat.le_refl _) (Or.inl rfl)
 show (Array.toList (Sort.pdq (ltOf uv) L.toArray 0 L.toArray.size (Lib.bitLen L.toArray.size) true true)).Perm L∧(Array.toList (Sort.pdq (ltOf uv) L.toArray 0 L.toArray.size (Lib.bitLen L.toArray.size) true true)).length=L.length∧∀i j,i<j→j<L.length→(Array.toList (Sort.pdq (ltOf uv) L.toArray 0 L.toArray.size (Lib.bitLen L.toArray.size) true true))[i]!.1≤(Array.toList (Sort.pdq (ltOf uv) L.toArray 0 L.toArray.size (Lib.bitLen L.toArray.size) true true))[j]!.1
 generalize Sort.pdq (ltOf uv) L.toArray 0 L.toArray.size (Lib.bitLen L.toArray.size) true true=D at hp
 obtain ⟨⟨h1,_,h3⟩,h4⟩:=hp
 have hs:D.size=L.length:=by simpa using h1
 refine ⟨?_,by rw[Array.length_toList,hs],fun i j hij hj=>?_⟩
 · have e1:(D.extract 0 L.toArray.size).toList=D.toList:=by rw[←h1];simp
   have e2:(L.toArray.extract 0 L.toArray.size).toList=L:=by simp
   rw[e1,e2] at h3
   exact h3
 · have:=h4 i j (Nat.zero_le _) hij (by simpa using hj)
   rw[lt] at this
   have e:∀k,k<L.length→D.toList[k]! =D[k]! :=fun k hk=>by
    rw[getElem!_pos D k (by omega),getElem!_pos D.toList k (by rw[Array.length_toList];omega)];simp
   rw[e i (by omega),e j hj]
   have:=of_decide_eq_false this
   omega
theorem aeE:Sort.SWO (ltOf uv):=by
 have lt:∀x y:Int×Int,ltOf uv x y=decide (x.1<y.1):=fun x y=>by
  unfold ltOf uv Lib.compareInt
  by_cases h1:x.1<y.1
  · simp [h1]
  · by_cases h2:y.1<x.1<;>simp [h1,h2]
 refine ⟨fun x=>by rw[lt];simp,fun x y z h1 h2=>?_,fun x y z h1 h2=>?_⟩<;>rw[lt] at * <;>simp at * <;>omega
noncomputable def BI (g:Nat) (args:List AV) (h:aw):Option (AV×aw):=match args with
 | [.aK,.func g' [] []]=>if g'=g then some (.tuple [],h) else none
 | [.slice i 0 n c _,.func g' [] []]=>if g'=g then (match h.get i with
   | some (.cells cs t false)=>(match vC cs with
     | some L=>if L.length=n∧n≤c∧n<1000000 then some (.tuple [],h.put i (some (.cells (lY (ko L)) t false))) else none
     | none=>none)
   | _=>none) else none
 | _=>none
structure MS (P:Program) (f g:FuncId):Prop where
 nothing:∀(p:Option Addr) (cap:Nat) (fv:Value) (w:World),Calls P f #[.slice p 0 cap,fv] w fun e w'=>e= .returned (.tuple #[])∧w'=w
 row:∀(eg off cap:Nat) (d:Array (Int×Int)) (w:World),Sort.HoldsK vB 2 w eg off d→eg<w.heap.size→d.size<1000000→Calls P f #[.slice (some ⟨eg,off,none⟩) d.size cap,.func (.func g) #[] #[]] w fun e w'=>
  e= .returned (.tuple #[])∧∃n os,w'=sortWorldK vB 2 w eg off n (Sort.pdq (ltOf uv) d 0 d.size (Lib.bitLen d.size) true true) os
theorem IK {F G:Array Value} (h:G.size=F.size):Sort.setMany F 0 G.toList=G:=by
 apply Array.ext
 · rw[Sort.size_setMany,h]
 · intro i h1 h2
   have e:=Sort.get_setMany G.toList 0 F i (by omega)
   rw[if_pos ⟨Nat.zero_le _,by simpa using h2⟩,Nat.sub_zero] at e
   rw[getElem!_pos _ i h1] at e
   rw[e]
   simp [h2]
theorem Rx {f g:FuncId} (dq:∀args w,(callFunc f args).run E.P w= .ok (.enter f args) w) (hc:MS E.P f g) (args:List AV) (h:aw) (v:AV) (h':aw) (e:BI g args h=some (v,h')):lD E f args h v h':=by
 intro φ w vs ok hl
 refine ⟨dq _ _,?_⟩
 unfold BI at e
 split at e
 · rename_i g'
   split at e
   · obtain ⟨rfl,rfl⟩:=Prod.mk.inj (Option.some.inj e)
     obtain ⟨x,t2,rfl,hx,hl⟩:=hl.cz
     obtain ⟨y,t3,rfl,hy,hl⟩:=hl.cz
     rw[hl.gK]
     cases hx with
     | aK=>
     intro iO
     obtain ⟨en,w',fr,⟨rfl,rfl⟩,uq,CX,PU⟩:=hc.nothing none 0 y w iO
     exact ⟨φ,_,_,fr,VR.tuple' (LR.nil φ),ok,Fr.refl φ h _,uq,CX,PU⟩
   · cases e
 · rename_i i n c op g'
   split at e
   · rename_i VT
     subst VT
     split at e
     · rename_i cs t hg
       split at e
       · rename_i L hL
         split at e
         · rename_i Kh
           obtain ⟨hn,Pe,hn6⟩:=Kh
           obtain ⟨rfl,rfl⟩:=Prod.mk.inj (Option.some.inj e)
           obtain ⟨x,t2,rfl,hx,hl⟩:=hl.cz
           obtain ⟨y,t3,rfl,hy,hl⟩:=hl.cz
           rw[hl.gK]
           obtain ⟨a',b',rfl,la,lb⟩:=hy.v_
           have ea:a'= #[]:=by have:=la.gK;simpa using this
           have eb:b'= #[]:=by have:=lb.gK;simpa using this
           subst ea;subst eb
           have hcs:=BG hL
           subst hcs
           subst hn
           cases hx with
           | @slice _ l _ _ _ _ hφ=>
           obtain ⟨C,e',lo,hi,hwc,hC⟩:=ok.live i _ l hg hφ
           have NS:=hC.size
           have hle:=lE L
           have hblk:l.eg<w.heap.size:=by
            rcases Nat.lt_or_ge l.eg w.heap.size with a | a
            · exact a
            · rw[Array.getElem?_eq_none a] at hwc;cases hwc
           have hH:Sort.HoldsK vB 2 w l.eg (l.off+0) L.toArray:=fun j hj=>by
            rw[Sort.size_flatK] at hj
            rw[D3 _ j hj]
            have Um:j<L.length*2:=by simpa using hj
            obtain ⟨y,hy,hyv⟩:=hC.val j _ (D1 L j Um)
            cases hyv with
            | int=>
            refine ⟨?_,?_⟩
            · simp only[World.cell?,hwc,Nat.add_zero,id]
              exact hy
            · rw[frozen_of_heap hwc]
              have:=hC.free rfl (l.off+j) (by omega) (by omega)
              simp only[Nat.add_zero,Bool.and_eq_false_iff,decide_eq_false_iff_not]
              omega
           have Pa:=sU L
           have key:=hc.row l.eg (l.off+0) (gT op c l.iT) L.toArray w hH hblk (by simpa using hn6)
           intro iO
           obtain ⟨en,w',fr,⟨rfl,n,os,rfl⟩,uq,CX,PU⟩:=key iO
           let d':=Sort.pdq (ltOf uv) L.toArray 0 L.toArray.size (Lib.bitLen L.toArray.size) true true
           have J1:d'.size=L.toArray.size:=by have:=Pa.2.1;rw[List.size_toArray];exact this
           have Hy:(Sort.flatK vB 2 d').toList=nH (ko L):=by
            apply List.ext_getElem?
            intro j
            have z1:(Sort.flatK vB 2 d').size=L.length*2:=by rw[Sort.size_flatK,J1];simp
            have z2:(nH (ko L)).length=L.length*2:=by rw[ue,Pa.2.1]
            by_cases hj:j<L.length*2
            · have e1:=D3 d' j (by rw[J1];simpa using hj)
              rw[getElem!_pos _ j (by rw[z1];exact hj)] at e1
              rw[D2 _ j (by rw[Pa.2.1];exact hj),Array.getElem?_toList,Array.getElem?_eq_getElem (by rw[z1];exact hj),e1]
              rfl
            · rw[List.getElem?_eq_none (by simp only[Array.length_toList,z1];omega),List.getElem?_eq_none (by omega)]
           obtain ⟨w2,jk,kH,oa⟩:=tR ok hg hφ (BH φ (ko L)) 0 (by rw[lE,lE,Pa.2.1];omega) (rb _)
           have gv:=pI (P:=E.P) hwc (l.off+0) (nH (ko L)) (by rw[ue,Pa.2.1];omega) (fun k h1 h2=>hC.free rfl k (by omega) (by rw[ue,Pa.2.1] at h2;omega)) (vn (BH φ (ko L)) (rb _))
           rw[jk] at gv
           obtain rfl:w2=w.setCells l.eg (l.off+0) (nH (ko L)):=by injection gv
           have qd:setFrom (lY L) 0 (lY (ko L))=lY (ko L):=by
            apply List.ext_getElem?
            intro k
            rw[eD,lE,lE,Pa.2.1,Nat.zero_add,Nat.sub_zero]
            by_cases hk:k<L.length*2
            · rw[if_pos ⟨Nat.zero_le _,hk,hk⟩]
            · rw[if_neg (by omega),List.getElem?_eq_none (by rw[lE];omega),List.getElem?_eq_none (by rw[lE,Pa.2.1];omega)]
           rw[qd] at kH oa
           have aeF:Sort.putRowK vB 2 w l.eg (l.off+0) d'=w.setCells l.eg (l.off+0) (nH (ko L)):=by
            have e1:w.setCells l.eg (l.off+0+0) (Sort.flatK vB 2 d').toList=Sort.putRow id w l.eg (l.off+0) (Sort.setMany (Sort.flatK vB 2 L.toArray) 0 (Sort.flatK vB 2 d').toList):=by
             conv=>lhs;rw[←Sort.putRow_self id w l.eg (l.off+0) _ hH]
             exact Sort.setCells_putRow _ _ _ _ _ _ (by simp [J1])
            rw[IK (by simp [J1]),Hy] at e1
            exact e1.symm
           have aeG:Below (w.setCells l.eg (l.off+0) (nH (ko L))).heap.size (w.setCells l.eg (l.off+0) (nH (ko L))) (sortWorldK vB 2 w l.eg (l.off+0) n d' os):=by
            have ew:sortWorldK vB 2 w l.eg (l.off+0) n d' os=Sort.grow (Sort.ahead (w.setCells l.eg (l.off+0) (nH (ko L))) n) os:=by
             unfold sortWorldK
             rw[←aeF];rfl
            rw[ew]
            refine ⟨rfl,rfl,rfl,?_,fun k hk=>?_⟩
            · show _≤((w.setCells l.eg (l.off+0) (nH (ko L))).heap++os).size
              rw[Array.size_append];omega
            · show ((w.setCells l.eg (l.off+0) (nH (ko L))).heap++os)[k]? =_
              rw[Array.getElem?_append_left hk]
           have Ry:=kH.later aeG
           exact ⟨φ,_,_,fr,VR.tuple' (LR.nil φ),Ry.1,oa.trans Ry.2,uq,CX,PU⟩
         · cases e
       · cases e
     · cases e
   · cases e
 · cases e
end Go.Ab
end
