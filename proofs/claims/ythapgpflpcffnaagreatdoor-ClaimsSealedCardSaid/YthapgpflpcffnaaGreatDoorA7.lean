import Derived.ChangeShapes
import Derived.ChangeStays
import Derived.ChangeBook
import Derived.ChangeOld
import Derived.ChangeAgain
import Derived.ChangeCalls
import Derived.Shelf.Strings.OnBuilder
import Derived.Test.YthapgpflpcffnaaGreatDoorA6
set_option linter.unusedVariables false
set_option linter.unusedSimpArgs false
section
namespace Go.Ab
variable {E:Env} {call:aI} {n:Nat} {s:St}
def N8 {α β:Type} (o:Option α) (f:α→β) (d:β):β:=match o with
 | some a=>f a
 | none=>d
noncomputable def B6 (E:Env) (call:aI) (n:Nat) (o:Out) (b:Code):Out:=match o with
 | .ok .normal s=>exec E call n b s
 | r=>r
theorem re (s:St) (b:Code):B6 E call n (.ok .normal s) b=exec E call n b s:=rfl
def HJ (id:Nat) (o:Out):Out:=match o with
 | .ok (.exit FK) s'=>if FK=id then .ok .normal s' else .ok (.exit FK) s'
 | r=>r
theorem rf (i j:Nat) (s:St):HJ i (.ok (.exit j) s)=if j=i then .ok .normal s else .ok (.exit j) s:=rfl
noncomputable def HK (E:Env) (call:aI) (n:Nat) (o:Option AV) (a b:Code) (s:St):Out:=match o with
 | some (.bool true)=>exec E call n a s
 | some (.bool false)=>exec E call n b s
 | _=> .fail "cond" none
theorem Cd (a b:Code):HK E call n (some (.bool true)) a b s=exec E call n a s:=rfl
theorem Ar (a b:Code):HK E call n (some (.bool false)) a b s=exec E call n b s:=rfl
theorem MQ (a b:Code):exec E call (n+1) (.seq a b) s=B6 E call n (exec E call n a s) b:=rfl
theorem HL (x:Operand) (a b:Code):exec E call (n+1) (.cond x a b) s=HK E call n (b8 E s.ts x) a b s:=rfl
theorem yd (id:Nat) (b:Code):exec E call (n+1) (.block id b) s=HJ id (exec E call n b s):=rfl
theorem HM (b:Code):exec E call (n+1) (.loop b) s=B6 E call n (exec E call n b s) (.loop b):=rfl
theorem HN (i:Nat) (ops:Array Oper):exec E call (n+1) (.region i ops false) s=eV E call ops ops.toList s:=rfl
theorem Lf (i:Nat) (ops:Array Oper):exec E call (n+1) (.region i ops true) s=oi E call ops s:=rfl
noncomputable def QN (E:Env) (call:aI) (ops:Array Oper) (o:Oper) (rest:List Oper) (s:St):Out:=match bF E call s.ts s.h s.rc o with
 | .val v h'=>eV E call ops rest {s with ts:=bR s.ts o.dst v,h:=h'}
 | .defer d=>eV E call ops rest {s with ts:=bR s.ts o.dst AV.undef,ds:=d::s.ds}
 | .lg v=>eV E call ops rest {s with ts:=bR s.ts o.dst v,rc:= .done}
 | .panic v h'=> .ok (.panic v) {s with h:=h'}
 | .fail why q=> .fail why q
noncomputable def QO (E:Env) (call:aI) (ops:Array Oper) (o:Oper) (rest:List Oper) (s:St):Out:=
 N8 (bZ E s.ts o.op) (fun p=>N8 (s.h.new p.1) (fun h'=>eV E call ops rest {s with ts:=bR s.ts o.dst (p.2 s.h.nx),h:=h'}) (.fail "full" (some o))) (QN E call ops o rest s)
noncomputable def QP (E:Env) (call:aI) (ops:Array Oper) (o:Oper) (rest:List Oper) (s:St):Out:=
 N8 (bW E s.ts s.h o.op) (fun v=>eV E call ops rest {s with ts:=bR s.ts o.dst v}) (QO E call ops o rest s)
noncomputable def QR (E:Env) (call:aI) (ops:Array Oper) (v:Option AV) (o:Oper) (rest:List Oper) (s:St):Out:=N8 v (fun v=>eV E call ops rest {s with ts:=bR s.ts o.dst v}) (QP E call ops o rest s)
section
variable {ops:Array Oper} {rest:List Oper} {d:Option Tmp} {op:Op} {ty:TypeId} {pos:String} {Yr:Array Edge} {g:Option (Nat×Bool)}
noncomputable def B7 (E:Env) (call:aI) (ops:Array Oper) (w:Bool) (o:Oper) (rest:List Oper) (s:St):Out:=
 if w=true then QR E call ops (aL E s.ts o.op) o rest s else eV E call ops rest {s with ts:=bR s.ts o.dst AV.undef}
end
theorem az (m:Nat) (a:List UInt8):AV.same (m+1) (.str a) (.str a)=true:=by simp [AV.same]
theorem dA (m:Nat) (k:IntKind) (a:Int):AV.same (m+1) (.int k a) (.int k a)=true:=by simp [AV.same]
theorem ti (m i o l c:Nat) (b:Bool):AV.same (m+1) (.slice i o l c b) (.slice i o l c b)=true:=by simp [AV.same]
open Classical in
section
variable {ops:Array Oper} {rest:List Nat} {d:Option Tmp} {op:Op} {ty:TypeId} {pos:String} {Yr:Array Edge} {g:Option (Nat×Bool)}
noncomputable def Dn (E:Env) (call:aI) (ops:Array Oper) (r:Option St) (s:St):Out:=N8 r (fun s'=> .ok .normal s') (oi E call ops s)
end
theorem wrap_i64 {n:Int} (h0: -9223372036854775808≤n) (h1:n<9223372036854775808):IntKind.i64.wrap n=n:=by
 show (if (true&&decide (n%2^64≥2^63))=true then n%2^64 - 2^64 else n%2^64)=n
 by_cases hn:n%2^64≥2^63
 · rw[if_pos (by rw[Bool.true_and];exact decide_eq_true hn)];omega
 · rw[if_neg (by rw[Bool.true_and];exact fun e=>hn (of_decide_eq_true e))];omega
noncomputable def zZ (E:Env) (fn:Func) (h:ah) (ts:List AV):eg:=match fB E h ts fn.results.toList with
 | some vs=> .ret (dp vs) h
 | none=> .fail "results" none
theorem ET {fuel:Nat} {f:FuncId} {fn:Func} {c:Code} (hf:E.P.funcs[f]? =some fn) (hb:fn.body=some c) {args:List AV} {h h':ah} {ts:List AV} {x:fi} (hx:x= .normal∨x= .ret)
 (e:exec E call fuel c ⟨args++List.replicate (fn.ntmps - args.length) AV.undef,h,[],.no⟩= .ok x ⟨ts,h',[],.no⟩) {vs:List AV} (hr:fB E h' ts fn.results.toList=some vs):rb E call fuel f args h= .ret (dp vs) h':=by
 unfold rb
 simp only[hf,hb,ij,e]
 rcases hx with rfl | rfl<;>simp only[m6,bA,hr]
def tj (M:Fa.Ap):aI:=fun F args h=>match F with
 | .fn f=>match M f args h with
   | some p=> .ret p.1 p.2
   | none=> .fail "" none
 | .qK _=> .fail "" none
theorem EU {M:Fa.Ap} (hM:Fa.yb E M):dy E (tj M):=by
 refine ⟨fun F args h v h' e=>?_,fun F args h v h' e=>?_⟩
 · cases F with
   | qK l=>cases e
   | fn f=>
     simp only[tj] at e
     cases hm:M f args h with
     | none=>rw[hm] at e;cases e
     | some p=>
       rw[hm] at e
       simp only[eg.ret.injEq] at e
       obtain ⟨rfl,rfl⟩:=e
       exact (hM _ _ _ _ _ hm).any
 · cases F with
   | qK l=>cases e
   | fn f=>
     simp only[tj] at e
     cases hm:M f args h with
     | none=>rw[hm] at e;cases e
     | some p=>rw[hm] at e;cases e
def Uo (E:Env) (x:Option (TypeId×Nat)) (v:Option AV):Option AV:=match x,v with
 | some (t,o),some (.ptr i off)=>match bb E t with
   | some n=>if n=0 then none else some (.ptr i (off+o))
   | none=>none
 | _,_=>none
def aJ (E:Env) (op:BinOp) (t:TypeId) (xc yc:Bool) (a b:Option AV):Option AV:=match a,b with
 | some a,some b=>eT E op t xc yc a b
 | _,_=>none
theorem Lg {ts:List AV} (op:BinOp) (t t':TypeId) (x y:Operand):aL E ts (.binOp op t x y t')=aJ E op t (isConst x) (isConst y) (b8 E ts x) (b8 E ts y):=by
 simp only[aL,aJ]
 cases b8 E ts x<;>cases b8 E ts y<;>rfl
theorem Lh (t:TypeId) (c d:Bool) (k:IntKind) (a b:Int):aJ E .add t c d (some (.int k a)) (some (.int k b))=some (.int k (k.wrap (a+b))):=by simp [aJ,eT,bC]
theorem Li (t:TypeId) (c d:Bool) (k:IntKind) (a b:Int):aJ E .sub t c d (some (.int k a)) (some (.int k b))=some (.int k (k.wrap (a - b))):=by simp [aJ,eT,bC]
theorem Lj (t:TypeId) (c d:Bool) (k:IntKind) (a b:Int):aJ E .mul t c d (some (.int k a)) (some (.int k b))=some (.int k (k.wrap (a*b))):=by simp [aJ,eT,bC]
theorem Lk (t:TypeId) (c d:Bool) (k:IntKind) (a b:Int):aJ E .eql t c d (some (.int k a)) (some (.int k b))=some (.bool (decide (a=b))):=by simp [aJ,eT,bC];rfl
theorem Ll (t:TypeId) (c d:Bool) (k:IntKind) (a b:Int):aJ E .neq t c d (some (.int k a)) (some (.int k b))=some (.bool (!decide (a=b))):=by simp [aJ,eT,bC];rfl
theorem Lm (t:TypeId) (c d:Bool) (k:IntKind) (a b:Int):aJ E .lss t c d (some (.int k a)) (some (.int k b))=some (.bool (decide (a<b))):=by simp [aJ,eT,bC]
theorem Ln (t:TypeId) (c d:Bool) (k:IntKind) (a b:Int):aJ E .leq t c d (some (.int k a)) (some (.int k b))=some (.bool (decide (a≤b))):=by simp [aJ,eT,bC]
theorem Lp (t:TypeId) (c d:Bool) (k:IntKind) (a b:Int):aJ E .gtr t c d (some (.int k a)) (some (.int k b))=some (.bool (decide (b<a))):=by simp [aJ,eT,bC]
theorem Lq (t:TypeId) (c d:Bool) (k:IntKind) (a b:Int):aJ E .geq t c d (some (.int k a)) (some (.int k b))=some (.bool (decide (b≤a))):=by simp [aJ,eT,bC]
theorem HO (t:TypeId) (c d:Bool) (a b:List UInt8):aJ E .eql t c d (some (.str a)) (some (.str b))=some (.bool (decide (a=b))):=by
 simp only[aJ,eT,lG,Option.some.injEq,AV.bool.injEq]
 exact Bool.eq_iff_iff.2 (by simp)
def QB (op:UnOp) (a:Option AV):Option AV:=match a with
 | some a=>Pm op a
 | none=>none
def bD (E:Env) (d:Option TypeDesc) (v i:Option AV):Option AV:=match d,v,i with
 | some (.slice elem),some (.slice i o len _ _),some (.int _ n)=>match bb E elem with
  | some size=>if 0≤n∧n<len then some (.ptr i (o+n.toNat*size)) else none
  | none=>none
 | some (.array len elem),some (.ptr i o),some (.int _ n)=>match bb E elem with
  | some size=>if 0≤n∧n<len then some (.ptr i (o+n.toNat*size)) else none
  | none=>none
 | _,_,_=>none
theorem As {ts:List AV} (t:TypeId) (x i:Operand):aL E ts (.indexAddr t x i)=bD E (E.P.underlying t) (b8 E ts x) (b8 E ts i):=by
 simp only[aL,bD]
 split<;>simp_all<;>(split<;>simp_all)
theorem eE {e:TypeId} {i o len c z:Nat} {b:Bool} {size:Nat} (hs:bb E e=some size) (hz:z<len):bD E (some (.slice e)) (some (.slice i o len c b)) (some (.int .i64 (z:Int)))=some (.ptr i (o+z*size)):=by
 simp only[bD,hs]
 rw[if_pos ⟨by omega,by omega⟩,Int.toNat_natCast]
def dS (d:Option TypeDesc) (v:Option AV):Option AV:=match d,v with
 | some (.slice _),some .aK=>some (.int .i64 0)
 | some (.slice _),some (.slice _ _ n _ _)=>some (.int .i64 n)
 | some (.slice _),some .cb=>some (.int .i64 0)
 | some .string,some (.str s)=>some (.int .i64 s.length)
 | some (.array n _),some _=>some (.int .i64 n)
 | some (.map _ _),some .bT=>some (.int .i64 0)
 | _,_=>none
theorem QS {ts:List AV} (x:Operand) (t:TypeId):aL E ts (.call ⟨.builtin .len, #[x], #[t]⟩)=dS (E.P.underlying t) (b8 E ts x):=by
 simp only[aL,cF,bO,List.getElem?_toArray,List.getElem?_cons_zero]
 generalize b8 E ts x=o
 cases o with
 | none=>
   generalize E.P.underlying t=u
   cases u with
   | none=>rfl
   | some d=>cases d<;>rfl
 | some v=>
   simp only
   generalize E.P.underlying t=u
   cases u with
   | none=>rfl
   | some d=>cases d<;>cases v<;>rfl
theorem N9 {ts:List AV} {h:ah} (t:TypeId) (x:Operand):bW E ts h (.load t x)=N8 (b8 E ts x) (aM E h t) none:=by
 simp only[bW];cases b8 E ts x<;>rfl
theorem dr (e:TypeId) (i o n c:Nat) (b:Bool):dS (some (.slice e)) (some (.slice i o n c b))=some (.int .i64 n):=rfl
theorem oU (e:TypeId):dS (some (.slice e)) (some .aK)=some (.int .i64 0):=rfl
theorem N_ (e:TypeId):dS (some (.slice e)) (some .cb)=some (.int .i64 0):=rfl
def Tidy (h:ah):Prop:=∀i o,h.get i=some o→i<h.nx
def gX (E:Env) (d:Option TypeDesc) (v i:Option AV):Option AV:=match d,v,i with
 | some (.array len elem),some (.agg cs),some (.int _ n)=>match bb E elem with
  | some size=>if 0≤n∧n<len then dG E elem cs (n.toNat*size) else none
  | none=>none
 | some .string,some (.str s),some (.int _ n)=>if 0≤n then (match s[n.toNat]? with | some b=>some (.int .u8 b.toNat) | none=>none) else none
 | _,_,_=>none
theorem Lr {ts:List AV} (t:TypeId) (x i:Operand):aL E ts (.index t x i)=gX E (E.P.underlying t) (b8 E ts x) (b8 E ts i):=by
 simp only[aL,gX]
 split
 · simp_all
   split<;>simp_all
 · rename_i s k n _ _ _
   simp_all
   cases s[n.toNat]? <;>rfl
 · simp_all
theorem HQ {s:List UInt8} {z:Nat} {b:UInt8} (h:s[z]? =some b):gX E (some .string) (some (.str s)) (some (.int .i64 (z:Int)))=some (.int .u8 b.toNat):=by
 simp only[gX]
 rw[if_pos (by omega),Int.toNat_natCast,h]
theorem Ls (t:TypeId) (c d:Bool) (k:IntKind) (a b:Int) (hb:b≠0):aJ E .quo t c d (some (.int k a)) (some (.int k b))=some (.int k (k.wrap (a.tdiv b))):=by simp [aJ,eT,bC,hb]
end Go.Ab
end
section
namespace Go.Ab
open Go.ChangeShapes Go.WideShapes Go.RowKit
variable {E:Env}
def oV (h:ah):Prop:=∀i o,h.get i=some o→o.rw=false
theorem OK.show {φ:Ph} {h:ah} {w:World} (ok:OK E φ h w) (Gn:oV h) {b off:Nat} {cs:List AV} {e:TypeId} (bY:cs≠ []) (hz:∀m,cs≠ [.map m])
 (hC:∀(k:Nat) (x:AV),cs[k]? =some x→∃y,w.cell? ⟨b,off+k,none⟩=some y∧VR φ x y):
 ∃h',h.new (.cells cs e true)=some h'∧OK E (φ.add h.nx ⟨b,off,0⟩) h' w∧φ.le (φ.add h.nx ⟨b,off,0⟩)∧oV h'∧h'.nx=h.nx+1∧h'.get h.nx=some (.cells cs e true)∧(∀j,j≠h.nx→h'.get j=h.get j)∧(φ.add h.nx ⟨b,off,0⟩) h.nx=some ⟨b,off,0⟩:=by
 obtain ⟨h',hn⟩:∃h',h.new (.cells cs e true)=some h':=by
  exact ⟨_,ah.wZ _ _⟩
 obtain ⟨gC,N',sq,hold⟩:=ah.fO hn
 have w_:φ h.nx=none:=by
  cases e:φ h.nx with
  | none=>rfl
  | some m=>exact absurd (ok.qL _ _ e) (Nat.lt_irrefl _)
 have hle:φ.le (φ.add h.nx ⟨b,off,0⟩):=fun i m hm=>by
  unfold Ph.add;split
  · rename_i e;subst e;rw[w_] at hm;simp at hm
  · exact hm
 have eZ:∀j,j≠h.nx→(φ.add h.nx ⟨b,off,0⟩) j=φ j:=fun j hj=>by simp [Ph.add,hj]
 have dw:(φ.add h.nx ⟨b,off,0⟩) h.nx=some ⟨b,off,0⟩:=by simp [Ph.add]
 have cX:∀j p,h'.get j=some p→(j=h.nx∧p= .cells cs e true)∨(j≠h.nx∧h.get j=some p):=fun j p hj=>by
  by_cases e:j=h.nx
  · subst e;rw[sq] at hj;simp at hj;exact .inl ⟨rfl,hj.symm⟩
  · rw[hold j e] at hj;exact .inr ⟨e,hj⟩
 have hlen:0<cs.length:=List.length_pos_iff.2 bY
 obtain ⟨y0,Up,_⟩:=hC 0 cs[0] (by simp [hlen])
 obtain ⟨C,e',lo,hi,hw⟩:∃C e' lo hi,w.heap[b]? =some (.cells C e' (lo,hi)):=by
  unfold World.cell? at Up
  split at Up
  · rename_i C e' fz hw;obtain ⟨lo,hi⟩:=fz;exact ⟨C,e',lo,hi,hw⟩
  · cases Up
 have DC:∀k,w.cell? ⟨b,off+k,none⟩=C[off+k]? :=fun k=>by simp [World.cell?,hw]
 refine ⟨h',hn,⟨fun i m hm=>?_,by rw[N'];exact Nat.le_succ_of_le ok.nx,fun g hg=>hle _ _ (ok.lN g hg),fun j p m hj hm=>?_,fun j k p q m n hj hk hm lr hw hb=>?_⟩,hle,fun j p hj=>?_,N',sq,hold,dw⟩
 · rw[N']
   by_cases e:i=h.nx
   · omega
   · rw[eZ i e] at hm;have:=ok.qL i m hm;omega
 · rcases cX j p hj with ⟨rfl,rfl⟩ | ⟨xa,kl⟩
   · rw[dw] at hm;simp at hm;subst hm
     refine ⟨C,e',lo,hi,hw,?_,fun k x hk=>?_,(fun h=>by cases h),fun _ m hm=>absurd hm (hz m)⟩
     · obtain ⟨y,hy,_⟩:=hC (cs.length - 1) cs[cs.length - 1] (List.getElem?_eq_getElem (by omega))
       rw[DC] at hy
       have:=(Array.getElem?_eq_some_iff.1 hy).1
       simp only[cx,Nat.zero_mul]
       omega
     · obtain ⟨y,hy,hv⟩:=hC k x hk
       rw[DC] at hy
       exact ⟨y,hy,hv.mono hle⟩
   · rw[eZ j xa] at hm
     exact (ok.live j p m kl hm).mono hle
 · rcases cX j p hj with ⟨rfl,rfl⟩ | ⟨Uq,kl⟩<;>rcases cX k q hk with ⟨rfl,rfl⟩ | ⟨Ur,zf⟩
   · rfl
   · rw[Gn k q zf] at hw;rcases hw with h | h<;>cases h
   · rw[Gn j p kl] at hw;rcases hw with h | h<;>cases h
   · rw[eZ j Uq] at hm;rw[eZ k Ur] at lr;exact ok.inj _ _ _ _ _ _ kl zf hm lr hw hb
 · rcases cX j p hj with ⟨_,rfl⟩ | ⟨_,kl⟩
   · rfl
   · exact Gn j p kl
theorem oV.begin {G:Nat} {l:List JX}:oV (fe G l):=fun i o h=>by
 obtain ⟨x,_,_,rfl⟩:=kG h;rfl
theorem ye {f:FuncId} {WI:List AV} {h h':ah} (r:eA E f WI h (.bool true) h') {φ:Ph} {w:World} {vs:List Value} (ok:OK E φ h w) (hl:LR φ WI vs) (Gn:oV h):
 Calls E.P f vs.toArray w fun en w'=>en= .returned (.bool true)∧w.keptBut w' (fun _=>False):=fun cs=>by
 obtain ⟨_,er⟩:=r φ w vs ok hl
 obtain ⟨φ',w',v',fr,hv,_,lx,h1,h2,h3⟩:=er cs
 cases hv
 refine ⟨.returned (.bool true),w',fr,⟨rfl,lx.os,lx.output,fun i hi=>?_⟩,h1,h2,h3⟩
 rw[lx.sj i hi (fun j o l' q1 q2 _=>by rw[Gn j o q1] at q2;cases q2)]
 cases w.heap[i]? with
 | none=>rfl
 | some o=>cases o with
   | cells c t fz=>exact ⟨rfl,rfl,rfl,fun _ _=>rfl⟩
   | map es c=>exact .inr ⟨rfl,rfl⟩
   | _=>rfl
section
variable {H:Type} {enc:TypeId×Value→H} {w:World} {base:Nat} {spare:Nat→Bool} {held:Bool} {fuel:Nat} {t:TypeId} {x:DataW H×List MemPlace}
end
section
variable {H:Type} {enc:TypeId×Value→H} {P:Program} {w w':World}
theorem tk (hk:w.keptBut w' (fun _=>False)) {p:MemPlace} (hp:p.block<w.heap.size):w.sameAt w' p:=by
 have h:=hk.block hp (fun _ h=>h.elim)
 cases p with
 | cell b off=>simp only[World.sameAt,World.cell?];rw[show w'.heap[b]? =w.heap[b]? from h]
 | map b=>exact h
theorem v8 (hl:laidOutB P=true) (hk:w.keptBut w' (fun _=>False)):∀{ts:List TypeId} {vs:List Value} {ds:List (DataW H)} {ps:List MemPlace},(∀t∈ts,P.readableRec t=true∧t<P.types.size)→
 DataW.TrodAll enc P w 0 (fun _=>true) true ts vs ds ps→DataW.TrodAll enc P w' 0 (fun b=>decide (b<w.heap.size)) true ts vs ds ps
 | [],vs,ds,ps,_,h=>by
   obtain ⟨rfl,rfl,rfl⟩:=trodAll_nil h
   exact trodAll_mk0
 | t::ts,vs,ds,ps,hr,h=>by
   have gC:=DataW.TrodAll.lt h
   obtain ⟨v,jw,d,pX,p,p',rfl,rfl,rfl,⟨n,h1⟩,h2⟩:=trodAll_cons h
   obtain ⟨h3,h4⟩:=hr t (by simp)
   refine trodAll_cons_mk ⟨n,?_⟩ (v8 hl hk (fun t ht=>hr t (by simp [ht])) h2)
   exact DataW.trod_stays (kids_book hl h3) (book_sized h3) (fun h=>by cases h) ⟨h4,book_self t⟩ h1 (fun q hq=>tk hk (gC q (by simp [hq]))) (fun q hq=>by simpa using gC q (by simp [hq]))
end
end Go.Ab
end
section
namespace Go.Ab
variable {E:Env}
end Go.Ab
end
section
namespace Go.Ab
variable {E:Env} {call:aI}
def Ev (E:Env) (call:aI) (c:Code) (s:St) (e:fi) (s':St):Prop:=∃n0,∀n,n0≤n→exec E call n c s= .ok e s'
theorem Ev.of {c:Code} {s:St} {e:fi} {s':St} (h:∀n,exec E call (n+1) c s= .ok e s'):Ev E call c s e s':=⟨1,fun n hn=>by
 obtain ⟨k,rfl⟩:∃k,n=k+1:=⟨n - 1,by omega⟩
 exact h k⟩
theorem Ev.seq {a b:Code} {s s1 s':St} {e:fi} (h1:Ev E call a s .normal s1) (h2:Ev E call b s1 e s'):Ev E call (.seq a b) s e s':=by
 obtain ⟨n1,h1⟩:=h1
 obtain ⟨n2,h2⟩:=h2
 refine ⟨n1+n2+1,fun n hn=>?_⟩
 obtain ⟨k,rfl⟩:∃k,n=k+1:=⟨n - 1,by omega⟩
 rw[MQ,h1 k (by omega),re]
 exact h2 k (by omega)
theorem Ev.seq' {a b:Code} {s s':St} {e:fi} (he:e≠ .normal) (h1:Ev E call a s e s'):Ev E call (.seq a b) s e s':=by
 obtain ⟨n1,h1⟩:=h1
 refine ⟨n1+1,fun n hn=>?_⟩
 obtain ⟨k,rfl⟩:∃k,n=k+1:=⟨n - 1,by omega⟩
 rw[MQ,h1 k (by omega)]
 cases e with
 | normal=>exact absurd rfl he
 | _=>rfl
theorem Ev.loop {b:Code} {s s1 s':St} {e:fi} (h1:Ev E call b s .normal s1) (h2:Ev E call (.loop b) s1 e s'):Ev E call (.loop b) s e s':=by
 obtain ⟨n1,h1⟩:=h1
 obtain ⟨n2,h2⟩:=h2
 refine ⟨n1+n2+1,fun n hn=>?_⟩
 obtain ⟨k,rfl⟩:∃k,n=k+1:=⟨n - 1,by omega⟩
 rw[HM,h1 k (by omega),re]
 exact h2 k (by omega)
theorem Ev.exit {b:Code} {s s':St} {e:fi} (he:e≠ .normal) (h1:Ev E call b s e s'):Ev E call (.loop b) s e s':=by
 obtain ⟨n1,h1⟩:=h1
 refine ⟨n1+1,fun n hn=>?_⟩
 obtain ⟨k,rfl⟩:∃k,n=k+1:=⟨n - 1,by omega⟩
 rw[HM,h1 k (by omega)]
 cases e with
 | normal=>exact absurd rfl he
 | _=>rfl
theorem Ev.ret {b:Code} {s s':St} (h1:Ev E call b s .ret s'):Ev E call (.loop b) s .ret s':=Ev.exit (by simp) h1
theorem Ev.out {b:Code} {s s':St} {i:Nat} (h1:Ev E call b s (.exit i) s'):Ev E call (.loop b) s (.exit i) s':=Ev.exit (by simp) h1
inductive ik where
 | c
 | v (x:AV)
 | q (x:AV)
 | m (x:AV)
 | n (h:ah)
 | a (obj:aF) (x:AV) (h:ah)
 | e (x:AV) (h:ah)
 | p (x:AV) (h:ah)
 | b (x:Bool)
 | l (e:fi) (s:St)
def gr:List Prop→Prop
 | []=>True
 | p::ps=>p∧gr ps
inductive R where
 | bad
 | at (e:fi) (s:St) (as_:List ik) (ps:List Prop)
def R.go (k:St→List ik→List Prop→R):R→R
 | .at .normal s as_ ps=>k s as_ ps
 | r=>r
theorem R.QT {k:St→List ik→List Prop→R} {r:R} {e:fi} {s:St} {as_:List ik} {ps:List Prop} (h:r.go k= .at e s as_ ps):(∃s1 m7 lj,r= .at .normal s1 m7 lj∧k s1 m7 lj= .at e s as_ ps)∨(r= .at e s as_ ps∧e≠ .normal):=by
 unfold R.go at h
 split at h
 · exact .inl ⟨_,_,_,rfl,h⟩
 · rename_i bY
   refine .inr ⟨h,fun he=>?_⟩
   subst he;exact bY _ _ _ h
def QU (E:Env) (ts:List AV):List Operand→List TypeId→Option AV
 | [x],[t]=>dS (E.P.underlying t) (b8 E ts x)
 | _,_=>none
def tp (c a b:Option AV):Option AV:=match c with
 | some (.bool true)=>a
 | some (.bool false)=>b
 | _=>none
theorem Lt {ts:List AV} (c a b:Operand):aL E ts (.pick c a b)=tp (b8 E ts c) (b8 E ts a) (b8 E ts b):=by
 simp only[aL]
 generalize b8 E ts c=x
 cases x with
 | none=>rfl
 | some v=>cases v with
   | bool b=>cases b<;>rfl
   | _=>rfl
theorem yf {c:Bool} {a b:Option AV} (h:c=true):tp (some (.bool c)) a b=a:=by rw[h];rfl
theorem aW {c:Bool} {a b:Option AV} (h:c=false):tp (some (.bool c)) a b=b:=by rw[h];rfl
def Lu (E:Env) (ts:List AV) (op:Op):Option AV:=match op with
 | .indexAddr t x i=>bD E (E.P.underlying t) (b8 E ts x) (b8 E ts i)
 | .index t x i=>gX E (E.P.underlying t) (b8 E ts x) (b8 E ts i)
 | .binOp op t x y _=>aJ E op t (isConst x) (isConst y) (b8 E ts x) (b8 E ts y)
 | .pick c a b=>tp (b8 E ts c) (b8 E ts a) (b8 E ts b)
 | .call c=>match c.callee with
   | .builtin .len=>QU E ts c.args.toList c.argTypes.toList
   | _=>none
 | _=>none
theorem tq {α:Type} {a:Array α} {l:List α} (h:a.toList=l):a=l.toArray:=by rw[←h]
theorem DD {ts:List AV} {op:Op} {v:AV} (e:Lu E ts op=some v):aL E ts op=some v:=by
 unfold Lu at e
 split at e
 · rw[←As] at e;exact e
 · rw[←Lr] at e;exact e
 · rename_i o t x y t';exact (Lg o t t' x y).trans e
 · rename_i c a b;exact (Lt c a b).trans e
 · rename_i c
   obtain ⟨cl,args,tys⟩:=c
   simp only at e
   split at e
   · unfold QU at e
     split at e
     · rename_i x t hx ht
       rw[tq hx,tq ht]
       exact (QS x t).trans e
     · cases e
   · cases e
 · cases e
noncomputable def HR (E:Env) (ts:List AV) (h:ah) (op:Op):Option AV:=match op with
 | .load t x=>N8 (b8 E ts x) (aM E h t) none
 | op=>bW E ts h op
theorem yg {ts:List AV} {h:ah} {op:Op} {v:AV} (e:HR E ts h op=some v):bW E ts h op=some v:=by
 unfold HR at e
 split at e
 · rw[N9];exact e
 · exact e
def QV (E:Env) (d:Option TypeDesc) (l c:Option AV):Option (aF×(Nat→AV)):=match d,l,c with
 | some (.slice elem),some (.int _ len),some (.int _ cap)=>match bb E elem,eu E elem,cL E elem with
   | some n,some bytes,some z=>
     if 0≤len∧len≤cap∧cap<2^30∧(bytes:Int)*cap≤2^47∧z.cells.length=n then
      some (.cells (cM z.cells cap.toNat) elem false,fun i=> .slice i 0 len.toNat cap.toNat false)
     else none
   | _,_,_=>none
 | _,_,_=>none
def Lv (E:Env) (ts:List AV) (op:Op):Option (aF×(Nat→AV)):=match op with
 | .makeSlice t l c=>QV E (E.P.underlying t) (b8 E ts l) (b8 E ts c)
 | op=>bZ E ts op
theorem DE (ts:List AV) (op:Op):Lv E ts op=bZ E ts op:=by
 unfold Lv
 split
 · rename_i t l c
   simp only[bZ]
   generalize E.P.underlying t=d
   generalize b8 E ts l=x
   generalize b8 E ts c=y
   rfl
 · rfl
noncomputable def Lw (E:Env) (call:aI) (ts:List AV) (h:ah) (rc:RC) (o:Oper) (x:AV) (h':ah):Prop:=match o.op with
 | .store t a v=>match b8 E ts a,b8 E ts v with
   | some a,some v=>x=AV.undef∧aQ E h t a v=some h'
   | _,_=>False
 | .call c=>match c.callee with
   | .builtin .append=>match cF E ts c.args.toList with
     | some [s,y]=>bq E h c.argTypes s y=some (x,h')
     | _=>False
   | .builtin .copy=>match cF E ts c.args.toList with
     | some [s,y]=>nm E h c.argTypes s y=some (x,h')
     | _=>False
   | .value _=>match callee E ts c with
     | some (f,args)=>match eN E f with
       | some g=>g args h=some (x,h')
       | none=>call f args h= .ret x h'
     | none=>False
   | _=>bF E call ts h rc o= .val x h'
 | .convert src dst y=>gS E h src dst (b8 E ts y)=some (x,h')
 | _=>bF E call ts h rc o= .val x h'
theorem DF {ts:List AV} {h:ah} {rc:RC} {o:Oper} {x:AV} {h':ah} (e:Lw E call ts h rc o x h'):bF E call ts h rc o= .val x h':=by
 unfold Lw at e
 split at e
 · rename_i t a v ho
   split at e
   · rename_i a' v' h1 h2
     obtain ⟨rfl,e⟩:=e
     unfold bF
     simp only[ho,h1,h2,e]
   · exact e.elim
 · rename_i c ho
   split at e
   · rename_i hc
     split at e
     · rename_i h1
       unfold bF
       simp only[ho,hc,h1,e]
     · exact e.elim
   · rename_i hc
     split at e
     · rename_i h1
       unfold bF
       simp only[ho,hc,h1,e]
     · exact e.elim
   · rename_i hc
     split at e
     · rename_i h1
       split at e
       · rename_i h2
         unfold bF
         simp only[ho,hc,h1,h2,e]
       · rename_i h2
         unfold bF
         simp only[ho,hc,h1,h2,e]
     · exact e.elim
   · exact e
 · rename_i src dst y ho
   unfold bF
   simp only[ho,e]
 · exact e
def EV {β:Type} (k:List AV→β):List AV→Nat→AV→β
 | [],_,_=>k []
 | _::xs,0,v=>k (v::xs)
 | x::xs,d+1,v=>EV (fun ys=>k (x::ys)) xs d v
theorem yh {β:Type}:∀(k:List AV→β) (ts:List AV) (d:Nat) (v:AV),EV k ts d v=k (ts.set d v)
 | k,[],_,_=>by simp [EV]
 | k,_::xs,0,v=>rfl
 | k,x::xs,d+1,v=>by rw[EV,yh];rfl
def mg (s:St) (d:Option Tmp) (v:AV) (h:ah) (as_:List ik) (ps:List Prop):R:=match d with
 | some i=>EV (fun ts=> .at .normal ⟨ts,h,s.ds,s.rc⟩ as_ ps) s.ts i v
 | none=> .at .normal ⟨s.ts,h,s.ds,s.rc⟩ as_ ps
theorem gY (s:St) (d:Option Tmp) (v:AV) (h:ah) (as_:List ik) (ps:List Prop):Go.Ab.mg s d v h as_ ps= .at .normal {s with ts:=bR s.ts d v,h:=h} as_ ps:=by
 cases d with
 | none=>rfl
 | some i=>exact yh _ _ _ _
noncomputable def At (E:Env) (call:aI) (o:Oper) (s:St) (as_:List ik) (ps:List Prop):R:=match as_ with
 | .c::as_=>match aL E s.ts o.op with
   | some v=>mg s o.dst v s.h as_ ps
   | none=> .bad
 | .v x::as_=>mg s o.dst x s.h as_ ((Lu E s.ts o.op=some x)::ps)
 | .q x::as_=>mg s o.dst x s.h as_ ((aL E s.ts o.op=some x)::ps)
 | .m x::as_=>match aL E s.ts o.op with
   | none=>mg s o.dst x s.h as_ ((HR E s.ts s.h o.op=some x)::ps)
   | some _=> .bad
 | .n h'::as_=>match aL E s.ts o.op,bW E s.ts s.h o.op,bZ E s.ts o.op with
   | none,none,some (obj,mk)=>mg s o.dst (mk s.h.nx) h' as_ ((s.h.new obj=some h')::ps)
   | _,_,_=> .bad
 | .a obj x h'::as_=>match aL E s.ts o.op,bW E s.ts s.h o.op with
   | none,none=>mg s o.dst x h' as_ ((∃mk,Lv E s.ts o.op=some (obj,mk)∧mk s.h.nx=x)::(s.h.new obj=some h')::ps)
   | _,_=> .bad
 | .e x h'::as_=>match aL E s.ts o.op,bW E s.ts s.h o.op,bZ E s.ts o.op with
   | none,none,none=>mg s o.dst x h' as_ (Lw E call s.ts s.h s.rc o x h'::ps)
   | _,_,_=> .bad
 | .p x h'::as_=>match aL E s.ts o.op,bW E s.ts s.h o.op,bZ E s.ts o.op with
   | none,none,none=> .at (.panic x) {s with h:=h'} as_ ((bF E call s.ts s.h s.rc o= .panic x h')::ps)
   | _,_,_=> .bad
 | _=> .bad
theorem rh {o:Oper} {s:St} {as_:List ik} {ps:List Prop} {e:fi} {s':St} {od:List ik} {lq:List Prop} (hr:At E call o s as_ ps= .at e s' od lq) (hp:gr lq):gr ps∧wX E call s o= .ok e s':=by
 have seen:∀{x:AV},(aL E s.ts o.op=some x∨(aL E s.ts o.op=none∧bW E s.ts s.h o.op=some x))→wX E call s o= .ok .normal {s with ts:=bR s.ts o.dst x}:=by
  rintro x (h | ⟨h1,h2⟩)<;>unfold wX
  · rw[h]
  · rw[h1,h2]
 unfold At at hr
 split at hr
 · split at hr
   · rename_i v hv
     rw[gY] at hr;cases hr
     exact ⟨hp,seen (.inl hv)⟩
   · cases hr
 · rw[gY] at hr;cases hr
   exact ⟨hp.2,seen (.inl (DD hp.1))⟩
 · rw[gY] at hr;cases hr
   exact ⟨hp.2,seen (.inl hp.1)⟩
 · split at hr
   · rename_i h1
     rw[gY] at hr;cases hr
     exact ⟨hp.2,seen (.inr ⟨h1,yg hp.1⟩)⟩
   · cases hr
 · split at hr
   · rename_i h1 h2 h3
     rw[gY] at hr;cases hr
     refine ⟨hp.2,?_⟩
     unfold wX
     simp only[h1,h2,h3,hp.1]
   · cases hr
 · split at hr
   · rename_i h1 h2
     rw[gY] at hr;cases hr
     obtain ⟨⟨mk,h3,h4⟩,h5,hp⟩:=hp
     rw[DE] at h3
     refine ⟨hp,?_⟩
     unfold wX
     simp only[h1,h2,h3,h4,h5]
   · cases hr
 · split at hr
   · rename_i h1 h2 h3
     rw[gY] at hr;cases hr
     refine ⟨hp.2,?_⟩
     unfold wX
     simp only[h1,h2,h3,DF hp.1]
   · cases hr
 · split at hr
   · rename_i h1 h2 h3
     cases hr
     refine ⟨hp.2,?_⟩
     unfold wX
     simp only[h1,h2,h3,hp.1]
   · cases hr
 · cases hr
inductive Gd where
 | yes
 | no
 | ask (v want:Bool)
def Au (want:Bool):Option AV→Gd
 | some (.bool v)=> .ask v want
 | _=> .no
def yi (ops:Array Oper) (ts:List AV) (g:Option (Nat×Bool)):Gd:=match g with
 | none=> .yes
 | some (j,want)=>match (ops[j]?).bind (·.dst) with
   | none=> .no
   | some d=>Au want ts[d]?
theorem v_ (ops:Array Oper) (ts:List AV) (o:Oper):bp ops ts o=(match yi ops ts o.guard with
 | .yes=>true
 | .no=>false
 | .ask v want=>v==want):=by
 unfold bp yi
 cases o.guard with
 | none=>rfl
 | some q=>
   obtain ⟨j,want⟩:=q
   simp only
   cases (ops[j]?).bind (·.dst) with
   | none=>rfl
   | some d=>
     simp only
     generalize ts[d]? =y
     unfold Au
     cases y with
     | none=>rfl
     | some z=>cases z<;>rfl
noncomputable def jL (E:Env) (call:aI) (ops:Array Oper):List Oper→St→List ik→List Prop→R
 | [],s,as_,ps=> .at .normal s as_ ps
 | o::rest,s,as_,ps=>match yi ops s.ts o.guard with
   | .yes=>(At E call o s as_ ps).go (jL E call ops rest)
   | .no=>(mg s o.dst AV.undef s.h as_ ps).go (jL E call ops rest)
   | .ask v want=>match as_ with
     | .b x::as_=>bif x==want then (At E call o s as_ ((v=x)::ps)).go (jL E call ops rest) else (mg s o.dst AV.undef s.h as_ ((v=x)::ps)).go (jL E call ops rest)
     | _=> .bad
theorem oW {ops:Array Oper}:∀(l:List Oper) (s:St) (as_:List ik) (ps:List Prop) (e:fi) (s':St) (od:List ik) (lq:List Prop),jL E call ops l s as_ ps= .at e s' od lq→gr lq→gr ps∧eV E call ops l s= .ok e s'
 | [],s,as_,ps,e,s',od,lq,hr,hp=>by cases hr;exact ⟨hp,rfl⟩
 | o::rest,s,as_,ps,e,s',od,lq,hr,hp=>by
   have ih:=oW (ops:=ops) rest
   have Oa:∀(m7:List ik) (lj:List Prop),(At E call o s m7 lj).go (jL E call ops rest)= .at e s' od lq→gr lj∧(bp ops s.ts o=true→eV E call ops (o::rest) s= .ok e s'):=by
    intro m7 lj h
    rcases R.QT h with ⟨s1,J7,Mn,h1,h2⟩ | ⟨h1,bY⟩
    · obtain ⟨h3,h4⟩:=ih _ _ _ _ _ _ _ h2 hp
      obtain ⟨h5,h6⟩:=rh h1 h3
      refine ⟨h5,fun hw=>?_⟩
      unfold eV
      rw[if_pos hw,h6];exact h4
    · obtain ⟨h5,h6⟩:=rh h1 hp
      refine ⟨h5,fun hw=>?_⟩
      unfold eV
      rw[if_pos hw,h6]
      cases e with
      | normal=>exact absurd rfl bY
      | _=>rfl
   have Ob:∀(m7:List ik) (lj:List Prop),(mg s o.dst AV.undef s.h m7 lj).go (jL E call ops rest)= .at e s' od lq→gr lj∧(bp ops s.ts o=false→eV E call ops (o::rest) s= .ok e s'):=by
    intro m7 lj h
    rw[gY] at h
    obtain ⟨h3,h4⟩:=ih _ _ _ _ _ _ _ (show jL E call ops rest _ m7 lj=_ from h) hp
    refine ⟨h3,fun hw=>?_⟩
    unfold eV
    rw[if_neg (by rw[hw];exact Bool.false_ne_true)]
    exact h4
   have hg:=v_ ops s.ts o
   unfold jL at hr
   split at hr
   · rename_i h1;rw[h1] at hg;exact ⟨(Oa _ _ hr).1,(Oa _ _ hr).2 hg⟩
   · rename_i h1;rw[h1] at hg;exact ⟨(Ob _ _ hr).1,(Ob _ _ hr).2 hg⟩
   · rename_i v want h1
     rw[h1] at hg
     split at hr
     · rename_i x m7
       cases hx:x==want with
       | true=>
         rw[hx] at hr
         obtain ⟨⟨h2,h3⟩,h4⟩:=Oa _ _ hr
         exact ⟨h3,h4 (by rw[hg,h2];exact hx)⟩
       | false=>
         rw[hx] at hr
         obtain ⟨⟨h2,h3⟩,h4⟩:=Ob _ _ hr
         exact ⟨h3,h4 (by rw[hg,h2];exact hx)⟩
     · cases hr
inductive RT where
 | bad
 | ok (tr:List Step) (hs:List ah) (s:St) (as_:List ik) (ps:List Prop)
def RT.step (x:Step):RT→RT
 | .ok tr hs s as_ ps=> .ok (x::tr) hs s as_ ps
 | .bad=> .bad
def RT.bound (x:Step) (h:ah):RT→RT
 | .ok tr hs s as_ ps=> .ok (x::tr) (h::hs) s as_ ps
 | .bad=> .bad
def RT.put (s:St) (d:Option Tmp) (v:AV) (h:ah) (k:St→RT):RT:=match d with
 | some i=>EV (fun ts=>k ⟨ts,h,s.ds,s.rc⟩) s.ts i v
 | none=>k ⟨s.ts,h,s.ds,s.rc⟩
theorem RT.put_eq (s:St) (d:Option Tmp) (v:AV) (h:ah) (k:St→RT):RT.put s d v h k=k {s with ts:=bR s.ts d v,h:=h}:=by
 cases d with
 | none=>rfl
 | some i=>exact yh _ _ _ _
noncomputable def Av (E:Env) (call:aI) (i k:Nat) (o:Oper) (s:St) (as_:List ik) (ps:List Prop) (go:Nat→St→List ik→List Prop→RT):RT:=match as_ with
 | .e x h'::as_=>(RT.put s o.dst x h' fun s'=>go (k+1) s' as_ (Lw E call s.ts s.h s.rc o x h'::ps)).bound ⟨i,k,s.ts,x,.nf h'⟩ s.h
 | _=> .bad
noncomputable def Aw (E:Env) (i k:Nat) (o:Oper) (s:St) (as_:List ik) (ps:List Prop) (go:Nat→St→List ik→List Prop→RT):RT:=match as_ with
 | .c::as_=>match aL E s.ts o.op with
   | some v=>(RT.put s o.dst v s.h fun s'=>go k s' as_ ps).step ⟨i,k,s.ts,v,.db⟩
   | none=> .bad
 | .v x::as_=>(RT.put s o.dst x s.h fun s'=>go k s' as_ ((Lu E s.ts o.op=some x)::ps)).step ⟨i,k,s.ts,x,.db⟩
 | .q x::as_=>(RT.put s o.dst x s.h fun s'=>go k s' as_ ((aL E s.ts o.op=some x)::ps)).step ⟨i,k,s.ts,x,.db⟩
 | .m x::as_=>match aL E s.ts o.op with
   | none=>(RT.put s o.dst x s.h fun s'=>go k s' as_ ((HR E s.ts s.h o.op=some x)::ps)).step ⟨i,k,s.ts,x,.red⟩
   | some _=> .bad
 | .n h'::as_=>match aL E s.ts o.op,bW E s.ts s.h o.op,bZ E s.ts o.op with
   | none,none,some (obj,mk)=>(RT.put s o.dst (mk s.h.nx) h' fun s'=>go k s' as_ ((s.h.new obj=some h')::ps)).step ⟨i,k,s.ts,mk s.h.nx,.lK s.h.nx obj⟩
   | _,_,_=> .bad
 | .a obj x h'::as_=>match aL E s.ts o.op,bW E s.ts s.h o.op with
   | none,none=>(RT.put s o.dst x h' fun s'=>go k s' as_ ((∃mk,Lv E s.ts o.op=some (obj,mk)∧mk s.h.nx=x)::(s.h.new obj=some h')::ps)).step ⟨i,k,s.ts,x,.lK s.h.nx obj⟩
   | _,_=> .bad
 | _=> .bad
noncomputable def runT (E:Env) (call:aI) (ops:Array Oper):List Nat→Nat→St→List ik→List Prop→RT
 | [],_,s,as_,ps=> .ok [] [s.h] s as_ ps
 | i::rest,k,s,as_,ps=>match ops[i]? with
   | none=> .bad
   | some o=>match yi ops s.ts o.guard with
     | .yes=>bif ct E o.op then Av E call i k o s as_ ps (runT E call ops rest) else Aw E i k o s as_ ps (runT E call ops rest)
     | .no=>bif ct E o.op then (RT.put s o.dst AV.undef s.h fun s'=>runT E call ops rest (k+1) s' as_ ps).bound ⟨i,k,s.ts,AV.undef,.off⟩ s.h else (RT.put s o.dst AV.undef s.h fun s'=>runT E call ops rest k s' as_ ps).step ⟨i,k,s.ts,AV.undef,.off⟩
     | .ask v want=>match as_ with
       | .b x::as_=>bif x==want then (bif ct E o.op then Av E call i k o s as_ ((v=x)::ps) (runT E call ops rest) else Aw E i k o s as_ ((v=x)::ps) (runT E call ops rest))
         else (bif ct E o.op then (RT.put s o.dst AV.undef s.h fun s'=>runT E call ops rest (k+1) s' as_ ((v=x)::ps)).bound ⟨i,k,s.ts,AV.undef,.off⟩ s.h else (RT.put s o.dst AV.undef s.h fun s'=>runT E call ops rest k s' as_ ((v=x)::ps)).step ⟨i,k,s.ts,AV.undef,.off⟩)
       | _=> .bad
theorem RT.kH {x:Step} {r:RT} {tr:List Step} {hs:List ah} {s:St} {as_:List ik} {ps:List Prop} (h:r.step x= .ok tr hs s as_ ps):∃Bt,tr=x::Bt∧r= .ok Bt hs s as_ ps:=by
 cases r with
 | bad=>cases h
 | ok a b c d e=>cases h;exact ⟨_,rfl,rfl⟩
theorem RT.Ax {x:Step} {g:ah} {r:RT} {tr:List Step} {hs:List ah} {s:St} {as_:List ik} {ps:List Prop} (h:r.bound x g= .ok tr hs s as_ ps):∃Bt kn,tr=x::Bt∧hs=g::kn∧r= .ok Bt kn s as_ ps:=by
 cases r with
 | bad=>cases h
 | ok a b c d e=>cases h;exact ⟨_,_,rfl,rfl,rfl⟩
theorem tu {ops:Array Oper}:∀(l:List Nat) (k:Nat) (s:St) (as_:List ik) (ps:List Prop) (tr:List Step) (hs:List ah) (s':St) (od:List ik) (lq:List Prop),
 runT E call ops l k s as_ ps= .ok tr hs s' od lq→gr lq→gr ps∧bz E call ops l k s= .ok tr hs s'
 | [],k,s,as_,ps,tr,hs,s',od,lq,hr,hp=>by cases hr;exact ⟨hp,rfl⟩
 | i::rest,k,s,as_,ps,tr,hs,s',od,lq,hr,hp=>by
   have ih:=tu (ops:=ops) rest
   unfold runT at hr
   split at hr
   · cases hr
   rename_i o hi
   have hE:∀{m7:List ik} {lj:List Prop},ct E o.op=true→Av E call i k o s m7 lj (runT E call ops rest)= .ok tr hs s' od lq→gr lj∧(bp ops s.ts o=true→bz E call ops (i::rest) k s= .ok tr hs s'):=by
    intro m7 lj he h
    unfold Av at h
    split at h
    · rename_i x h' J7
      rw[RT.put_eq] at h
      obtain ⟨C6,kq,rfl,rfl,h9⟩:=RT.Ax h
      obtain ⟨h1,h2⟩:=ih _ _ _ _ _ _ _ _ _ h9 hp
      refine ⟨h1.2,fun hw=>?_⟩
      unfold bz
      simp only[hi,he,hw,if_true,DF h1.1,h2]
      rfl
    · cases h
   have hN:∀{m7:List ik} {lj:List Prop},ct E o.op=false→Aw E i k o s m7 lj (runT E call ops rest)= .ok tr hs s' od lq→gr lj∧(bp ops s.ts o=true→bz E call ops (i::rest) k s= .ok tr hs s'):=by
    intro m7 lj he h
    unfold Aw at h
    split at h
    · split at h
      · rename_i v hv
        rw[RT.put_eq] at h
        obtain ⟨C6,rfl,h9⟩:=RT.kH h
        obtain ⟨h1,h2⟩:=ih _ _ _ _ _ _ _ _ _ h9 hp
        refine ⟨h1,fun hw=>?_⟩
        unfold bz
        simp only[hi,he,hw,if_true,hv,Bool.false_eq_true,if_false]
        rw[h2]
        rfl
      · cases h
    · rw[RT.put_eq] at h
      obtain ⟨C6,rfl,h9⟩:=RT.kH h
      obtain ⟨h1,h2⟩:=ih _ _ _ _ _ _ _ _ _ h9 hp
      refine ⟨h1.2,fun hw=>?_⟩
      unfold bz
      simp only[hi,he,hw,if_true,DD h1.1,Bool.false_eq_true,if_false]
      rw[h2]
      rfl
    · rw[RT.put_eq] at h
      obtain ⟨C6,rfl,h9⟩:=RT.kH h
      obtain ⟨h1,h2⟩:=ih _ _ _ _ _ _ _ _ _ h9 hp
      refine ⟨h1.2,fun hw=>?_⟩
      unfold bz
      simp only[hi,he,hw,if_true,h1.1,Bool.false_eq_true,if_false]
      rw[h2]
      rfl
    · split at h
      · rename_i hv
        rw[RT.put_eq] at h
        obtain ⟨C6,rfl,h9⟩:=RT.kH h
        obtain ⟨h1,h2⟩:=ih _ _ _ _ _ _ _ _ _ h9 hp
        refine ⟨h1.2,fun hw=>?_⟩
        unfold bz
        simp only[hi,he,hw,if_true,hv,yg h1.1,Bool.false_eq_true,if_false]
        rw[h2]
        rfl
      · cases h
    · split at h
      · rename_i q1 q2 q3
        rw[RT.put_eq] at h
        obtain ⟨C6,rfl,h9⟩:=RT.kH h
        obtain ⟨h1,h2⟩:=ih _ _ _ _ _ _ _ _ _ h9 hp
        refine ⟨h1.2,fun hw=>?_⟩
        unfold bz
        simp only[hi,he,hw,if_true,q1,q2,q3,h1.1,Bool.false_eq_true,if_false,h2]
        rfl
      · cases h
    · split at h
      · rename_i q1 q2
        rw[RT.put_eq] at h
        obtain ⟨C6,rfl,h9⟩:=RT.kH h
        obtain ⟨h1,h2⟩:=ih _ _ _ _ _ _ _ _ _ h9 hp
        obtain ⟨⟨mk,h3,h4⟩,h5,h6⟩:=h1
        rw[DE] at h3
        subst h4
        refine ⟨h6,fun hw=>?_⟩
        unfold bz
        simp only[hi,he,hw,if_true,q1,q2,h3,h5,Bool.false_eq_true,if_false,h2]
        rfl
      · cases h
    · cases h
   have hO:∀{m7:List ik} {lj:List Prop},(bif ct E o.op then (RT.put s o.dst AV.undef s.h fun s'=>runT E call ops rest (k+1) s' m7 lj).bound ⟨i,k,s.ts,AV.undef,.off⟩ s.h else (RT.put s o.dst AV.undef s.h fun s'=>runT E call ops rest k s' m7 lj).step ⟨i,k,s.ts,AV.undef,.off⟩)= .ok tr hs s' od lq→
    gr lj∧(bp ops s.ts o=false→bz E call ops (i::rest) k s= .ok tr hs s'):=by
    intro m7 lj h
    cases he:ct E o.op with
    | true=>
      rw[he,cond_true,RT.put_eq] at h
      obtain ⟨C6,kq,rfl,rfl,h9⟩:=RT.Ax h
      obtain ⟨h1,h2⟩:=ih _ _ _ _ _ _ _ _ _ h9 hp
      refine ⟨h1,fun hw=>?_⟩
      unfold bz
      simp only[hi,he,hw,if_true,Bool.false_eq_true,if_false]
      rw[h2]
      rfl
    | false=>
      rw[he,cond_false,RT.put_eq] at h
      obtain ⟨C6,rfl,h9⟩:=RT.kH h
      obtain ⟨h1,h2⟩:=ih _ _ _ _ _ _ _ _ _ h9 hp
      refine ⟨h1,fun hw=>?_⟩
      unfold bz
      simp only[hi,he,hw,Bool.false_eq_true,if_false]
      rw[h2]
      rfl
   have hY:∀{m7:List ik} {lj:List Prop},(bif ct E o.op then Av E call i k o s m7 lj (runT E call ops rest) else Aw E i k o s m7 lj (runT E call ops rest))= .ok tr hs s' od lq→
    gr lj∧(bp ops s.ts o=true→bz E call ops (i::rest) k s= .ok tr hs s'):=by
    intro m7 lj h
    cases he:ct E o.op with
    | true=>rw[he] at h;exact hE he h
    | false=>rw[he] at h;exact hN he h
   have hg:=v_ ops s.ts o
   split at hr
   · rename_i h1;rw[h1] at hg;exact ⟨(hY hr).1,(hY hr).2 hg⟩
   · rename_i h1;rw[h1] at hg;exact ⟨(hO hr).1,(hO hr).2 hg⟩
   · rename_i v want h1
     rw[h1] at hg
     split at hr
     · rename_i x m7
       cases hx:x==want with
       | true=>
         rw[hx] at hr
         obtain ⟨⟨h2,h3⟩,h4⟩:=hY hr
         exact ⟨h3,h4 (by rw[hg,h2];exact hx)⟩
       | false=>
         rw[hx] at hr
         obtain ⟨⟨h2,h3⟩,h4⟩:=hO hr
         exact ⟨h3,h4 (by rw[hg,h2];exact hx)⟩
     · cases hr
noncomputable def Ce (E:Env) (ops:Array Oper) (x:Step) (h:ah) (ps:List Prop):List Prop:=match x.kind with
 | .red=>match ops[x.i]? with
   | some o=>(AV.same 20 x.v x.v=true)::(HR E x.ts h o.op=some x.v)::ps
   | none=>False::ps
 | .lK n obj=>(∃o,h.get n=some o∧aF.same o obj=true)::ps
 | _=>ps
noncomputable def Cf (E:Env) (ops:Array Oper) (x:Step):List ah→List Prop→List Prop
 | [],ps=>ps
 | h::hs,ps=>Cf E ops x hs (Ce E ops x h ps)
noncomputable def oX (E:Env) (ops:Array Oper) (aR:List Nat) (an:List (List Nat)) (hs:List ah):List Step→List Prop→List Prop
 | [],ps=>ps
 | x::tr,ps=>oX E ops aR an hs tr (Cf E ops x ((hs.drop x.k).take (eW aR an x.i+1 - x.k)) ps)
theorem EW {ops:Array Oper} {x:Step} {h:ah} {ps:List Prop} (hc:gr (Ce E ops x h ps)):gr ps∧ey E ops x h=true:=by
 unfold Ce at hc
 unfold ey
 split at hc
 · rename_i hk
   simp only[hk]
   split at hc
   · rename_i o ho
     have cX:ops.getD x.i default=o:=by simp [Array.getD_eq_getD_getElem?,ho]
     simp only[cX,yg hc.2.1,hc.1]
     exact ⟨hc.2.2,trivial⟩
   · exact hc.1.elim
 · rename_i n obj hk
   obtain ⟨⟨o,h1,h2⟩,h3⟩:=hc
   simp only[hk,h1,h2]
   exact ⟨h3,trivial⟩
 · rename_i h1 h2
   refine ⟨hc,?_⟩
   split
   · rename_i hk;exact absurd hk (by assumption)
   · rename_i hk;exact absurd hk (h2 _ _)
   · rfl
theorem wa {ops:Array Oper} {x:Step}:∀(hs:List ah) (ps:List Prop),gr (Cf E ops x hs ps)→gr ps∧hs.all (ey E ops x)=true
 | [],ps,hc=>⟨hc,rfl⟩
 | h::hs,ps,hc=>by
   obtain ⟨h1,h2⟩:=wa hs _ hc
   obtain ⟨h3,h4⟩:=EW h1
   exact ⟨h3,by simp only[List.all_cons,h4,h2,Bool.and_self]⟩
theorem ri {ops:Array Oper} {aR:List Nat} {an:List (List Nat)} {hs:List ah}:∀(tr:List Step) (ps:List Prop),gr (oX E ops aR an hs tr ps)→
 gr ps∧(tr.all fun x=>((hs.drop x.k).take (eW aR an x.i+1 - x.k)).all (ey E ops x))=true
 | [],ps,hc=>⟨hc,rfl⟩
 | x::tr,ps,hc=>by
   obtain ⟨h1,h2⟩:=ri tr _ hc
   obtain ⟨h3,h4⟩:=wa _ _ h1
   exact ⟨h3,by simp only[List.all_cons,h4,h2,Bool.and_self]⟩
noncomputable def HS (l:List Nat) (ps:List Prop):List Prop:=match l with
 | []=>ps
 | [_]=>ps
 | l=>(nodup l=true)::ps
noncomputable def yj (E:Env) (call:aI) (ops:Array Oper) (s:St) (as_:List ik) (ps:List Prop):R:=match lJ E ops with
 | none=> .bad
 | some pl=>match runT E call ops pl.order 0 s as_ ps with
   | .ok tr hs s' od lq=> .at .normal s' od (HS (kf tr) (oX E ops pl.aR pl.an hs tr lq))
   | .bad=> .bad
theorem vp {ops:Array Oper} {s:St} {as_:List ik} {ps:List Prop} {e:fi} {s':St} {od:List ik} {lq:List Prop} (hr:yj E call ops s as_ ps= .at e s' od lq) (hp:gr lq):gr ps∧oi E call ops s= .ok e s':=by
 unfold yj at hr
 split at hr
 · cases hr
 rename_i pl El
 split at hr
 · rename_i tr hs s1 m7 lj h1
   cases hr
   have hn:gr (oX E ops pl.aR pl.an hs tr lj)∧nodup (kf tr)=true:=by
    unfold HS at hp
    split at hp
    · rename_i hm;exact ⟨hp,by rw[hm];rfl⟩
    · rename_i hm;exact ⟨hp,by rw[hm];rfl⟩
    · exact ⟨hp.2,hp.1⟩
   obtain ⟨h2,h3⟩:=ri _ _ hn.1
   obtain ⟨h4,h5⟩:=tu _ _ _ _ _ _ _ _ _ _ h1 h2
   refine ⟨h4,?_⟩
   unfold oi
   simp only[El,h5]
   have:kg E ops pl tr hs=true:=by
    unfold kg
    rw[hn.2,Bool.true_and]
    exact h3
   rw[if_pos this]
 · cases hr
noncomputable def run (E:Env) (call:aI):Nat→Code→St→List ik→List Prop→R
 | 0,_,_,_,_=> .bad
 | n+1,c,s,as_,ps=>match c with
   | .skip=> .at .normal s as_ ps
   | .ret=> .at .ret s as_ ps
   | .exit i=> .at (.exit i) s as_ ps
   | .seq a b=>match run E call n a s as_ ps with
     | .at .normal s1 m7 lj=>run E call n b s1 m7 lj
     | r=>r
   | .cond x a b=>match as_ with
     | .b v::as_=>match b8 E s.ts x with
       | some (.bool u)=>bif v then run E call n a s as_ ((u=true)::ps) else run E call n b s as_ ((u=false)::ps)
       | _=> .bad
     | .l e s'::as_=> .at e s' as_ (Ev E call (.cond x a b) s e s'::ps)
     | _=> .bad
   | .block id b=>match run E call n b s as_ ps with
     | .at (.exit j) s1 m7 lj=>bif Nat.beq j id then .at .normal s1 m7 lj else .at (.exit j) s1 m7 lj
     | r=>r
   | .loop b=>match as_ with
     | .l e s'::as_=> .at e s' as_ (Ev E call (.loop b) s e s'::ps)
     | _=> .bad
   | .rangeFunc f lq a b=>match as_ with
     | .l e s'::as_=> .at e s' as_ (Ev E call (.rangeFunc f lq a b) s e s'::ps)
     | _=> .bad
   | .region i ops draw=>match as_ with
     | .l e s'::as_=> .at e s' as_ (Ev E call (.region i ops draw) s e s'::ps)
     | as_=>bif draw then yj E call ops s as_ ps else jL E call ops ops.toList s as_ ps
   | .scope b=>run E call n b s as_ ps
   | .label _=> .at .normal s as_ ps
   | _=> .bad
theorem wb:∀(n:Nat) (c:Code) (s:St) (as_:List ik) (ps:List Prop) (e:fi) (s':St) (od:List ik) (lq:List Prop),run E call n c s as_ ps= .at e s' od lq→gr lq→gr ps∧Ev E call c s e s'
 | 0,c,s,as_,ps,e,s',od,lq,hr,hp=>by cases hr
 | n+1,c,s,as_,ps,e,s',od,lq,hr,hp=>by
   have ih:=wb n
   unfold run at hr
   split at hr
   · cases hr;exact ⟨hp,.of fun _=>rfl⟩
   · cases hr;exact ⟨hp,.of fun _=>rfl⟩
   · cases hr;exact ⟨hp,.of fun _=>rfl⟩
   · split at hr
     · rename_i s1 m7 lj h1
       obtain ⟨h2,h3⟩:=ih _ _ _ _ _ _ _ _ hr hp
       obtain ⟨h4,h5⟩:=ih _ _ _ _ _ _ _ _ h1 h2
       exact ⟨h4,h5.seq h3⟩
     · rename_i bY
       obtain ⟨h4,h5⟩:=ih _ _ _ _ _ _ _ _ hr hp
       refine ⟨h4,h5.seq' fun he=>?_⟩
       subst he;exact bY _ _ _ hr
   · split at hr
     · rename_i v m7
       split at hr
       · rename_i u hu
         cases v with
         | true=>
           obtain ⟨⟨h1,h2⟩,n0,h3⟩:=ih _ _ _ _ _ _ _ _ hr hp
           refine ⟨h2,n0+1,fun n hn=>?_⟩
           obtain ⟨k,rfl⟩:∃k,n=k+1:=⟨n - 1,by omega⟩
           rw[HL,hu,h1,Cd];exact h3 k (by omega)
         | false=>
           obtain ⟨⟨h1,h2⟩,n0,h3⟩:=ih _ _ _ _ _ _ _ _ hr hp
           refine ⟨h2,n0+1,fun n hn=>?_⟩
           obtain ⟨k,rfl⟩:∃k,n=k+1:=⟨n - 1,by omega⟩
           rw[HL,hu,h1,Ar];exact h3 k (by omega)
       · cases hr
     · cases hr;exact ⟨hp.2,hp.1⟩
     · cases hr
   · split at hr
     · rename_i id b _ j s1 m7 lj h1
       cases hj:Nat.beq j id with
       | true=>
         rw[hj] at hr
         cases hr
         obtain ⟨h2,n0,h3⟩:=ih _ _ _ _ _ _ _ _ h1 hp
         refine ⟨h2,n0+1,fun n hn=>?_⟩
         obtain ⟨k,rfl⟩:∃k,n=k+1:=⟨n - 1,by omega⟩
         rw[yd,h3 k (by omega),rf,if_pos (Nat.eq_of_beq_eq_true hj)]
       | false=>
         rw[hj] at hr
         cases hr
         obtain ⟨h2,n0,h3⟩:=ih _ _ _ _ _ _ _ _ h1 hp
         refine ⟨h2,n0+1,fun n hn=>?_⟩
         obtain ⟨k,rfl⟩:∃k,n=k+1:=⟨n - 1,by omega⟩
         rw[yd,h3 k (by omega),rf,if_neg (Nat.ne_of_beq_eq_false hj)]
     · rename_i id b _ bY
       obtain ⟨h2,n0,h3⟩:=ih _ _ _ _ _ _ _ _ hr hp
       refine ⟨h2,n0+1,fun n hn=>?_⟩
       obtain ⟨k,rfl⟩:∃k,n=k+1:=⟨n - 1,by omega⟩
       rw[yd,h3 k (by omega)]
       cases e with
       | exit j=>exact absurd hr (bY _ _ _ _)
       | _=>rfl
   · split at hr
     · cases hr;exact ⟨hp.2,hp.1⟩
     · cases hr
   · split at hr
     · cases hr;exact ⟨hp.2,hp.1⟩
     · cases hr
   · rename_i i ops draw
     split at hr
     · cases hr;exact ⟨hp.2,hp.1⟩
     cases draw with
     | true=>
       simp only[cond_true] at hr
       obtain ⟨h1,h2⟩:=vp hr hp
       exact ⟨h1,.of fun n=>by rw[Lf];exact h2⟩
     | false=>
       simp only[cond_false] at hr
       obtain ⟨h1,h2⟩:=oW _ _ _ _ _ _ _ _ hr hp
       exact ⟨h1,.of fun n=>by rw[HN];exact h2⟩
   · obtain ⟨h1,n0,h2⟩:=ih _ _ _ _ _ _ _ _ hr hp
     exact ⟨h1,n0+1,fun n hn=>by
      obtain ⟨k,rfl⟩:∃k,n=k+1:=⟨n - 1,by omega⟩
      show exec E call k _ s=_
      exact h2 k (by omega)⟩
   · cases hr;exact ⟨hp,.of fun _=>rfl⟩
   · cases hr
theorem tv {n:Nat} {c:Code} {s:St} {al:List ik} {e:fi} {s':St} {ps:List Prop} (hr:run E call n c s al []= .at e s' [] ps) (hp:gr ps):Ev E call c s e s':=(wb _ _ _ _ _ _ _ _ _ hr hp).2
theorem kI {tmpl:(Nat→AV)→List AV} {c:Code} {s:St} {e:fi} {h:ah} {ds:List iI} {rc:RC} {L:List AV} (ev:Ev E call c s e ⟨L,h,ds,rc⟩) (hl:L=tmpl fun k=>L.getD k AV.undef):∃y,Ev E call c s e ⟨tmpl y,h,ds,rc⟩:=by
 refine ⟨fun k=>L.getD k AV.undef,?_⟩
 rw[←hl];exact ev
theorem EX {tmpl:(Nat→AV)→List AV} {b:Code} {s s':St} {h:ah} {ds:List iI} {rc:RC} {L:List AV} {e:fi} (ev:Ev E call b s .normal ⟨L,h,ds,rc⟩) (hl:L=tmpl fun k=>L.getD k AV.undef) (ih:Ev E call (.loop b) ⟨tmpl fun k=>L.getD k AV.undef,h,ds,rc⟩ e s'):Ev E call (.loop b) s e s':=by
 rw[←hl] at ih
 exact ev.loop ih
theorem Lx {f:FuncId} {fn:Func} {c:Code} (hf:E.P.funcs[f]? =some fn) (hb:fn.body=some c) {args:List AV} {h h':ah} {ts:List AV} {x:fi} (hx:x= .normal∨x= .ret)
 (e:Ev E call c ⟨args++List.replicate (fn.ntmps - args.length) AV.undef,h,[],.no⟩ x ⟨ts,h',[],.no⟩) {vs:List AV} (hr:fB E h' ts fn.results.toList=some vs):∃n0,∀n,n0≤n→rb E call n f args h= .ret (dp vs) h':=by
 obtain ⟨n0,e⟩:=e
 exact ⟨n0,fun n hn=>ET hf hb hx (e n hn) hr⟩
def oY (E:Env) (call:aI) (f:FuncId) (args:List AV) (h:ah) (v:AV) (h':ah):Prop:=∃n0,∀n,n0≤n→rb E call n f args h= .ret v h'
theorem aX {f:FuncId} {fn:Func} {c:Code} {args WJ ts:List AV} {h h':ah} {x:fi} {v:AV} (hf:E.P.funcs[f]? =some fn) (hb:fn.body=some c) (ht:args++List.replicate (fn.ntmps - args.length) AV.undef=WJ) (hx:x= .normal∨x= .ret)
 (e:Ev E call c ⟨WJ,h,[],.no⟩ x ⟨ts,h',[],.no⟩) (hr:(fB E h' ts fn.results.toList).map dp=some v):oY E call f args h v h':=by
 subst ht
 cases hv:fB E h' ts fn.results.toList with
 | none=>rw[hv] at hr;cases hr
 | some vs=>
   rw[hv] at hr
   obtain rfl:dp vs=v:=Option.some.inj hr
   exact Lx hf hb hx e hv
end Go.Ab
end
section
namespace Go.Ab
variable {E:Env}
theorem nU {t:TypeId} {c d:Bool} {k:IntKind} {a b z:Int} (h:k.wrap (a+b)=z):aJ E .add t c d (some (.int k a)) (some (.int k b))=some (.int k z):=by rw[Lh,h]
theorem tw {t:TypeId} {c d:Bool} {k:IntKind} {a b z:Int} (h:k.wrap (a - b)=z):aJ E .sub t c d (some (.int k a)) (some (.int k b))=some (.int k z):=by rw[Li,h]
theorem tx {t:TypeId} {c d:Bool} {k:IntKind} {a b z:Int} (h:k.wrap (a*b)=z):aJ E .mul t c d (some (.int k a)) (some (.int k b))=some (.int k z):=by rw[Lj,h]
theorem tz {t:TypeId} {c d:Bool} {k:IntKind} {a b z:Int} (hb:b≠0) (h:k.wrap (a.tdiv b)=z):aJ E .quo t c d (some (.int k a)) (some (.int k b))=some (.int k z):=by rw[Ls _ _ _ _ _ _ hb,h]
theorem aH {t:TypeId} {c d:Bool} {k:IntKind} {a b z:Int} (hb:b≠0) (h:a.tmod b=z):aJ E .rem t c d (some (.int k a)) (some (.int k b))=some (.int k z):=by simp [aJ,eT,bC,hb,h]
theorem yk (k:IntKind) (n:Int):AV.scalar (.int k n)=true:=rfl
theorem r6 (b:Bool):AV.scalar (.bool b)=true:=rfl
theorem ym (b:List UInt8):AV.scalar (.str b)=true:=rfl
theorem yn (i o:Nat):AV.scalar (.ptr i o)=true:=rfl
theorem oZ (i o n c:Nat) (b:Bool):AV.scalar (.slice i o n c b)=true:=rfl
theorem DG:AV.scalar .aK=true:=rfl
theorem DH:AV.scalar .cK=true:=rfl
theorem DI:AV.scalar .bT=true:=rfl
theorem DJ:AV.scalar .nilFunc=true:=rfl
theorem DK:AV.scalar .nilIface=true:=rfl
theorem yp (i:Nat):AV.scalar (.map i)=true:=rfl
theorem HU {h:ah} {t:TypeId} {i o:Nat} {cs:List AV} {e:TypeId} {ro:Bool} {v:AV} (hg:h.get i=some (.cells cs e ro)) (hv:dG E t cs o=some v):aM E h t (.ptr i o)=some v:=by
 simp only[aM,hg,hv]
theorem o5 {h h':ah} {o:aF} (n:h.new o=some h'):h'.get h.nx=some o:=(ah.fO n).2.2.1
theorem tA {h h':ah} {o:aF} (n:h.new o=some h'):h'.nx=h.nx+1:=(ah.fO n).2.1
theorem mh {h h':ah} {o x:aF} {i:Nat} (y:Tidy h) (n:h.new o=some h') (g:h.get i=some x):h'.get i=some x:=by
 have:=y i x g
 rw[(ah.fO n).2.2.2 i (by omega)];exact g
theorem r7 {h h':ah} {o:aF} (y:Tidy h) (n:h.new o=some h'):Has h h':=fun _ _ g=>mh y n g
theorem j3 {h h':ah} {o:aF} (y:Tidy h) (n:h.new o=some h'):Tidy h':=fun i x g=>by
 obtain ⟨_,h2,h3,h4⟩:=ah.fO n
 by_cases hx:i=h.nx
 · omega
 · rw[h4 i hx] at g;have:=y i x g;omega
theorem nV {h:ah} (o:aF):∃h',h.new o=some h':=⟨_,ah.wZ _ _⟩
theorem o6 {h:ah} {t e:TypeId} {i o n:Nat} {cs:List AV} {v:AV} (g:h.get i=some (.cells cs e false)) (hs:bb E t=some n) (hv:v.cells.length=n) (ho:o+n≤cs.length) (hk:v.cells.all AV.scalar=true):∃h',aQ E h t (.ptr i o) v=some h':=by
 refine ⟨h.put i (some (.cells (setFrom cs o v.cells) e false)),?_⟩
 simp only[aQ,g,hs]
 rw[if_pos ⟨hv,ho,hk⟩]
theorem mi {h h':ah} {t e:TypeId} {i o:Nat} {cs:List AV} {v:AV} (s:aQ E h t (.ptr i o) v=some h') (g:h.get i=some (.cells cs e false)):h'=h.put i (some (.cells (setFrom cs o v.cells) e false)):=by
 simp only[aQ,g] at s
 split at s
 · rename_i h1 _
   cases h1
   split at s
   · exact (Option.some.inj s).symm
   · cases s
 · cases s
theorem qm {h h':ah} {t e:TypeId} {i o:Nat} {cs:List AV} {v:AV} (y:Tidy h) (s:aQ E h t (.ptr i o) v=some h') (g:h.get i=some (.cells cs e false)):h'.get i=some (.cells (setFrom cs o v.cells) e false):=by
 rw[mi s g]
 have:=y i _ g
 exact ah.bx _
theorem kJ {h h':ah} {t e:TypeId} {i j o:Nat} {cs:List AV} {v:AV} {x:aF} (y:Tidy h) (s:aQ E h t (.ptr i o) v=some h') (g:h.get i=some (.cells cs e false)) (hj:j≠i) (gx:h.get j=some x):h'.get j=some x:=by
 rw[mi s g]
 have:=y i _ g
 rw[ah.bf (Ne.symm hj)];exact gx
theorem o7 {h h':ah} {t e:TypeId} {i o:Nat} {cs:List AV} {v:AV} (s:aQ E h t (.ptr i o) v=some h') (g:h.get i=some (.cells cs e false)):h'.nx=h.nx:=by
 rw[mi s g];exact ah.F8 _ _ _
theorem nW {h h':ah} {t e:TypeId} {i o:Nat} {cs:List AV} {v:AV} (y:Tidy h) (s:aQ E h t (.ptr i o) v=some h') (g:h.get i=some (.cells cs e false)):Tidy h':=fun j x gj=>by
 have hi:=y i _ g
 rw[o7 s g]
 by_cases hx:j=i
 · omega
 · rw[mi s g,ah.bf (Ne.symm hx)] at gj
   exact y j x gj
def iE (h h':ah) (b:Nat) (o:aF):Prop:=Tidy h'∧h'.get b=some o∧∀i x,i≠b→h.get i=some x→h'.get i=some x
theorem iE.has {h0 h h':ah} {b:Nat} {o:aF} (c:iE h h' b o) (a:Has h0 h) (y:Tidy h0) (hb:h0.nx≤b):Has h0 h':=fun i x g=>by
 have:=y i x g
 exact c.2.2 i x (by omega) (a i x g)
theorem iw {h h':ah} {src dst e:TypeId} {s:List UInt8} {v:AV} (h1:E.P.underlying src=some .string) (h2:E.P.underlying dst=some (.slice e)) (h3:E.P.underlying e=some (.int .u8)) (h4:bb E e=some 1)
 (n:h.new (.cells (s.map fun b=> .int .u8 b.toNat) e false)=some h') (hv:v= .slice h.nx 0 s.length s.length true):gS E h src dst (some (.str s))=some (v,h'):=by
 simp only[gS,h1,h2,h3,n,h4,if_true,hv]
end Go.Ab
end
section
namespace Go.Ab
variable {E:Env}
theorem dT {p:Prop} [Decidable p] (h:p):decide p=true:=decide_eq_true h
theorem dF {p:Prop} [Decidable p] (h:¬p):decide p=false:=decide_eq_false h
theorem nT {p:Prop} [Decidable p] (h:¬p):(!decide p)=true:=by rw[decide_eq_false h];rfl
theorem nF {p:Prop} [Decidable p] (h:p):(!decide p)=false:=by rw[decide_eq_true h];rfl
theorem Ly {l:List Nat} {k:Nat} (h:k<l.length):l[k]? =some (l.getD k 0):=by simp [List.getD_eq_getElem?_getD,List.getElem?_eq_getElem h]
def dj:Code→List Code
 | .seq a b=>dj a++dj b
 | .cond _ a b=>dj a++dj b
 | .block _ b=>dj b
 | .loop b=>b::dj b
 | .scope b=>dj b
 | .rangeFunc _ _ _ b=>b::dj b
 | _=> []
structure iy (E:Env) (h:ah) (e:TypeId) (n:Nat) (av:AV) (len:Nat) (cs:List AV):Prop where
 size:bb E e=some n
 cells:cs.length=len*n
 small:len<2^60
 lens:dS (some (.slice e)) (some av)=some (.int .i64 (len:Nat))
 block:len=0∨∃p o m c b C f ro,av= .slice p o m c b∧m≤c∧h.get p=some (.cells C f ro)∧(∀j,j<cs.length→C[o+j]? =cs[j]?)
theorem iy.has {h h':ah} {e:TypeId} {n:Nat} {av:AV} {len:Nat} {cs:List AV} (x:iy E h e n av len cs) (hh:Has h h'):iy E h' e n av len cs:=
 ⟨x.size,x.cells,x.small,x.lens,x.block.imp id fun ⟨p,o,m,c,b,C,f,ro,h1,h0,h2,h3⟩=>⟨p,o,m,c,b,C,f,ro,h1,h0,hh _ _ h2,h3⟩⟩
theorem iy.elem {h:ah} {e:TypeId} {av:AV} {len:Nat} {cs:List AV} (x:iy E h e 1 av len cs) (ha:cm E e=some false) {i:Nat} {v:AV} (hv:cs[i]? =some v):
 ∃p q,bD E (some (.slice e)) (some av) (some (.int .i64 (i:Nat)))=some (.ptr p q)∧aM E h e (.ptr p q)=some v:=by
 have hi:=(List.getElem?_eq_some_iff.1 hv).1
 have hl:cs.length=len:=by rw[x.cells,Nat.mul_one]
 rcases x.block with h0 | ⟨p,o,m,c,b,C,f,ro,h1,_,h2,h3⟩
 · omega
 · subst h1
   have hm:m=len:=by
    have:=x.lens
    rw[dr] at this
    simp only[Option.some.injEq,AV.int.injEq,true_and] at this
    omega
   refine ⟨p,o+i*1,eE x.size (by omega),?_⟩
   simp only[aM,h2,dG,ha,Nat.mul_one]
   rw[h3 i hi,hv]
def aO (k:IntKind) (l:List Nat):List AV:=l.map fun (n:Nat)=> .int k (n:Int)
structure cE (E:Env) (h:ah) (k:IntKind) (e:TypeId) (av:AV) (l:List Nat):Prop where
 at_:iy E h e 1 av l.length (aO k l)
 agg:cm E e=some false
 known:av= .aK∨∃p o n c b,av= .slice p o n c b∧(b=true→0<c)
theorem gZ {k:IntKind} {l:List Nat} {i:Nat} {z:Nat} (h:l[i]? =some z):(aO k l)[i]? =some (.int k (z:Int)):=by simp [aO,h]
theorem cE.elem {h:ah} {k:IntKind} {e:TypeId} {av:AV} {l:List Nat} (x:cE E h k e av l) {i:Nat} {z:Nat} (hz:l[i]? =some z):
 ∃p q,bD E (some (.slice e)) (some av) (some (.int .i64 (i:Nat)))=some (.ptr p q)∧aM E h e (.ptr p q)=some (.int k (z:Int)):=x.at_.elem x.agg (gZ hz)
theorem cE.len {h:ah} {k:IntKind} {e:TypeId} {av:AV} {l:List Nat} (x:cE E h k e av l):dS (some (.slice e)) (some av)=some (.int .i64 (l.length:Nat)):=x.at_.lens
theorem cn (k:IntKind) (l:List Nat):(aO k l).length=l.length:=by simp [aO]
theorem cE.small {h:ah} {k:IntKind} {e:TypeId} {av:AV} {l:List Nat} (x:cE E h k e av l):l.length<2^60:=x.at_.small
def WK (p:Nat) (av:AV):Prop:=∀o n c b,av≠ .slice p o n c b
theorem cE.of {h:ah} {k:IntKind} {e:TypeId} {l:List Nat} {p o c:Nat} {b:Bool} {C:List AV} {f:TypeId} {ro:Bool} (hs:bb E e=some 1) (ha:cm E e=some false) (hl:l.length<2^60) (hc:l.length≤c) (hb:b=true→0<c) (hg:h.get p=some (.cells C f ro))
 (hv:∀(i:Nat) z,l[i]? =some z→C[o+i]? =some (.int k (z:Int))):cE E h k e (.slice p o l.length c b) l:=
 ⟨⟨hs,by rw[cn];omega,hl,rfl,.inr ⟨p,o,_,c,b,C,f,ro,rfl,hc,hg,fun j hj=>by
   rw[cn] at hj
   rw[hv j l[j] (List.getElem?_eq_getElem hj),gZ (List.getElem?_eq_getElem hj)]⟩⟩,ha,.inr ⟨p,o,_,c,b,rfl,hb⟩⟩
theorem cE.nil {h:ah} {k:IntKind} {e:TypeId} (hs:bb E e=some 1) (ha:cm E e=some false):cE E h k e .aK []:=
 ⟨⟨hs,rfl,by decide,rfl,.inl rfl⟩,ha,.inl rfl⟩
theorem cE.inv {h:ah} {k:IntKind} {e:TypeId} {l:List Nat} {p o n c:Nat} {b:Bool} (x:cE E h k e (.slice p o n c b) l):n=l.length∧(l≠ []→l.length≤c∧∃C f ro,h.get p=some (.cells C f ro)∧∀(i:Nat) z,l[i]? =some z→C[o+i]? =some (.int k (z:Int))):=by
 have hn:n=l.length:=by
  have:=x.len
  rw[dr] at this
  simp only[Option.some.injEq,AV.int.injEq,true_and] at this
  omega
 refine ⟨hn,fun bY=>?_⟩
 rcases x.at_.block with h0 | ⟨p',o',m,c',b',C,f,ro,h1,h0,h2,h3⟩
 · exact absurd (List.length_eq_zero_iff.1 h0) bY
 · cases h1
   refine ⟨by omega,C,f,ro,h2,fun i z hz=>?_⟩
   rw[h3 i (by rw[cn];exact (List.getElem?_eq_some_iff.1 hz).1),gZ hz]
theorem gE {len cap lo hi:Nat} (low high:Option AV) (hl:low=some (.int .i64 (lo:Nat))∨(low=none∧lo=0)) (hh:high=some (.int .i64 (hi:Nat))∨(high=none∧hi=len)) (h1:lo≤hi) (h2:hi≤cap):fp len cap low high none=some (lo,hi,cap):=by
 have b:∀(x y:Nat),x≤y→iG (.int .i64 (x:Nat)) y=some x:=fun x y h=>by
  simp only[iG]
  rw[if_pos ⟨by omega,by omega⟩,Int.toNat_natCast]
 unfold fp
 rcases hh with rfl | ⟨rfl,rfl⟩<;>rcases hl with rfl | ⟨rfl,rfl⟩<;>simp [b,h1,h2]
theorem cE.slice {h:ah} {k:IntKind} {e t:TypeId} {av:AV} {l:List Nat} (x:cE E h k e av l) (ht:E.P.underlying t=some (.slice e)) {lo hi:Nat} (low high:Option AV) (hl:low=some (.int .i64 (lo:Nat))∨(low=none∧lo=0)) (hh:high=some (.int .i64 (hi:Nat))∨(high=none∧hi=l.length)) (h1:lo≤hi) (h2:hi≤l.length) (h3:l.length=0∨lo<l.length):
 ∃r,bP E t av low high none=some r∧cE E h k e r ((l.take hi).drop lo)∧∀p,WK p av→WK p r:=by
 rcases x.known with rfl | ⟨p,o,n,c,b,rfl,hb⟩
 · have Ka:l.length=0:=by
    have:=x.len
    rw[oU] at this
    simp only[Option.some.injEq,AV.int.injEq,true_and] at this
    omega
   obtain rfl:=List.length_eq_zero_iff.1 Ka
   simp only[List.length_nil] at *
   have JP:hi=0:=by omega
   subst JP
   have JO:lo=0:=by omega
   subst JO
   refine ⟨.aK,?_,by simpa using x,fun p hp=>hp⟩
   simp only[bP,ht,x.at_.size,gE (len:=0) (cap:=0) low high hl hh (Nat.le_refl 0) (Nat.le_refl 0)]
 · obtain ⟨rfl,hx⟩:=x.inv
   have PT:l.length≤c:=by
    by_cases bY:l=[]
    · subst bY;exact Nat.zero_le _
    · exact (hx bY).1
   have hr:∃o' c',bP E t (.slice p o l.length c b) low high none=some (.slice p o' (hi - lo) c' b)∧(b=true→0<c')∧hi - lo≤c'∧(hi - lo≠0→o'=o+lo):=by
    simp only[bP,ht,x.at_.size,PT,if_true,gE (len:=l.length) (cap:=c) low high hl hh h1 (by omega)]
    by_cases hm:c=lo
    · have Nr:b=false:=by
       cases b with
       | false=>rfl
       | true=>have:=hb rfl;omega
      subst Nr
      rw[if_pos hm]
      exact ⟨o,c - lo,rfl,by simp,by omega,fun h=>by omega⟩
    · rw[if_neg hm]
      refine ⟨o+lo*1,c - lo,by simp,fun h=>by omega,by omega,fun h=>by omega⟩
   obtain ⟨o',c',e1,e2,e3,e4⟩:=hr
   refine ⟨_,e1,?_,fun q hq o' n' c' b' he=>by cases he;exact hq _ _ _ _ rfl⟩
   have hlen:((l.take hi).drop lo).length=hi - lo:=by simp;omega
   rw[←hlen]
   by_cases h0:hi - lo=0
   · have:(l.take hi).drop lo=[]:=List.length_eq_zero_iff.1 (by omega)
     rw[this]
     exact ⟨⟨x.at_.size,rfl,by decide,rfl,.inl rfl⟩,x.agg,.inr ⟨_,_,_,_,_,rfl,e2⟩⟩
   · have bY:l≠ []:=fun e=>by subst e;simp at h2;omega
     obtain ⟨_,C,f,ro,g1,g2⟩:=hx bY
     refine cE.of x.at_.size x.agg (by have:=x.small;omega) (by omega) e2 g1 fun i z hz=>?_
     have xf:i<hi - lo:=by rw[←hlen];exact (List.getElem?_eq_some_iff.1 hz).1
     rw[e4 h0,Nat.add_assoc]
     apply g2
     rw[List.getElem?_drop,List.getElem?_take_of_lt (by omega)] at hz
     exact hz
structure JY (h:ah) (av:AV) (p o n:Nat) (C:List AV) (f:TypeId):Prop where
 is:∃c b,av= .slice p o n c b∧n≤c
 get:h.get p=some (.cells C f false)
 fits:o+n≤C.length
theorem JY.len {h:ah} {av:AV} {p o n:Nat} {C:List AV} {f e:TypeId} (w:JY h av p o n C f):dS (some (.slice e)) (some av)=some (.int .i64 (n:Nat)):=by
 obtain ⟨c,b,rfl,_⟩:=w.is
 rfl
theorem JY.slice {h:ah} {av:AV} {p o n:Nat} {C:List AV} {f e t:TypeId} (w:JY h av p o n C f) (hs:bb E e=some 1) (ht:E.P.underlying t=some (.slice e)) {lo hi:Nat} (low high:Option AV) (hl:low=some (.int .i64 (lo:Nat))∨(low=none∧lo=0)) (hh:high=some (.int .i64 (hi:Nat))∨(high=none∧hi=n)) (h1:lo≤hi) (h2:hi≤n) (h3:lo<n):
 ∃r,bP E t av low high none=some r∧JY h r p (o+lo) (hi - lo) C f:=by
 obtain ⟨c,b,rfl,hc⟩:=w.is
 have:=w.fits
 refine ⟨.slice p (o+lo) (hi - lo) (c - lo) b,?_,⟨⟨_,_,rfl,by omega⟩,w.get,by omega⟩⟩
 simp only[bP,ht,hs,hc,if_true,gE (len:=n) (cap:=c) low high hl hh h1 (by omega)]
 rw[if_neg (by omega)]
 simp
def Holds (k:IntKind) (C:List AV) (o:Nat) (l:List Nat):Prop:=∀(i z:Nat),l[i]? =some z→C[o+i]? =some (.int k (z:Int))
theorem Holds.behind {k:IntKind} {C:List AV} {o:Nat} {l ws:List Nat} (x:Holds k C o l) {i z:Nat} (hi:ws.length≤i) (hz:l[i]? =some z):(setFrom C o (aO k ws))[o+i]? =some (.int k (z:Int)):=by
 rw[b4,if_neg (by rw[cn];omega)]
 exact x i z hz
theorem JY.load {h:ah} {av:AV} {p o n:Nat} {C:List AV} {f e:TypeId} {i:Nat} {v:AV} (w:JY h av p o n C f) (ha:cm E e=some false) (hv:C[o+i]? =some v):aM E h e (.ptr p (o+i))=some v:=by
 simp only[aM,w.get,dG,ha,hv]
theorem JY.aO {h:ah} {av:AV} {p o n:Nat} {C:List AV} {f e:TypeId} {k:IntKind} {l:List Nat} (w:JY h av p o n C f) (hs:bb E e=some 1) (ha:cm E e=some false) (hn:l.length=n) (va:n<2^60) (x:Holds k C o l) (hb:∀c b,av= .slice p o n c b→b=true→0<c):cE E h k e av l:=by
 obtain ⟨c,b,rfl,hc⟩:=w.is
 subst hn
 exact cE.of hs ha va hc (hb c b rfl) w.get x
theorem Holds.of {k:IntKind} {C:List AV} {o:Nat} {l:List Nat} (hf:o+l.length≤C.length):Holds k (setFrom C o (aO k l)) o l:=fun i z hz=>by
 have hi:=(List.getElem?_eq_some_iff.1 hz).1
 rw[b4,if_pos ⟨by omega,by rw[cn];omega,by omega⟩,Nat.add_sub_cancel_left,gZ hz]
end Go.Ab
end
section
namespace Go.Ab
open Go.WideElems Go.RowKit Go.Proofs
variable {E:Env}
def m8:List AV→List Nat→Bool
 | [],[]=>true
 | .int .u64 n::l,k::r=>decide (n=(k:Int))&&m8 l r
 | _,_=>false
theorem tB:∀{l:List AV} {r:List Nat},m8 l r=true→l=aO .u64 r
 | [],[],_=>rfl
 | .int .u64 n::l,k::r,h=>by
   simp only[m8,Bool.and_eq_true,decide_eq_true_eq] at h
   rw[tB h.2,h.1];rfl
theorem o8:∀r:List Nat,m8 (aO .u64 r) r=true
 | []=>rfl
 | k::r=>by
   show (decide ((k:Int)=(k:Int))&&m8 (aO .u64 r) r)=true
   rw[o8 r,decide_eq_true rfl];rfl
noncomputable def wc (g t:Nat) (ns:List Nat) (h:ah):Bool:=match h.get g with
 | some (.cells cs t' true)=>decide (t'=t)&&m8 cs ns
 | _=>false
theorem EY {g t:Nat} {ns:List Nat} {h:ah} (e:wc g t ns h=true):h.get g=some (.cells (aO .u64 ns) t true):=by
 unfold wc at e
 split at e
 · rename_i cs t' hg
   simp only[Bool.and_eq_true,decide_eq_true_eq] at e
   rw[hg,e.1,tB e.2]
 · cases e
theorem HV {g t:Nat} {ns:List Nat} {h:ah} (e:h.get g=some (.cells (aO .u64 ns) t true)):wc g t ns h=true:=by
 unfold wc
 rw[e]
 simp only[o8,decide_true,Bool.and_self]
theorem CR.plain {φ φ':Ph} {cs:List AV} {t:TypeId} {ro:Bool} {l:Loc} {C:Array Value} {lo hi:Nat} (h:CR E φ' cs t ro l C lo hi) (hp:cs.all (AV.plain 20)=true):CR E φ cs t ro l C lo hi where
 size:=h.size
 val k x hk:=by
  obtain ⟨y,hy,hv⟩:=h.val k x hk
  exact ⟨y,hy,hv.plain 20 (List.all_eq_true.1 hp x (List.mem_of_getElem? hk))⟩
 free:=h.free
 zero:=h.zero
theorem eA.Lz {f:FuncId} {args:List AV} {h':ah} {v:AV} {L:List (Nat×aF)} (r:eA E f args (Fa.mf E.G L) v h') (ha:args.all (AV.plain 20)=true) (hv:AV.plain 20 v=true) (h:ah)
 (hL:∀g o,(g,o)∈L→g<E.G∧(∃cs t,o= .cells cs t true∧cs.all (AV.plain 20)=true)∧h.get g=some o):eA E f args h v h:=fun φ w vs ok hl=>by
 let φ0:Ph:=fun i=>if i<E.G then φ i else none
 have hle:φ0.le φ:=fun i l e=>by
  simp only[φ0] at e
  split at e
  · exact e
  · cases e
 have has:∀{i o},(Fa.mf E.G L).get i=some o→i<E.G∧(∃cs t,o= .cells cs t true∧cs.all (AV.plain 20)=true)∧h.get i=some o:=fun e=>hL _ _ (Fa.ql e)
 have ro:∀{i o},(Fa.mf E.G L).get i=some o→o.rw=true→False:=fun e hr=>by
  obtain ⟨_,⟨cs,t,rfl,_⟩,_⟩:=has e
  cases hr
 have Un:OK E φ0 (Fa.mf E.G L) w:=by
  refine ⟨fun i l e=>?_,by rw[Fa.th];exact Nat.le_refl _,fun g hg=>?_,fun i o l e b=>?_,fun i j o p l m e1 e2 _ _ hr=>(hr.elim (ro e1) (ro e2)).elim⟩
  · rw[Fa.th]
    simp only[φ0] at e
    split at e
    · assumption
    · cases e
  · simp only[φ0,hg,if_true];exact ok.lN g hg
  · obtain ⟨_,⟨cs,t,rfl,hp⟩,hg⟩:=has e
    obtain ⟨C,e',lo,hi,hx,hc⟩:=ok.live i _ l hg (hle _ _ b)
    exact ⟨C,e',lo,hi,hx,hc.plain hp⟩
 have Ka:LR φ0 args vs:=⟨hl.1,fun i x y a b=>(hl.2 i x y a b).plain 20 (List.all_eq_true.1 ha x (List.mem_of_getElem? a))⟩
 obtain ⟨h1,h2⟩:=r φ0 w vs Un Ka
 refine ⟨h1,fun cs=>?_⟩
 obtain ⟨φ',w',v',fr,x1,x2,x3,x4⟩:=h2 cs
 have Aq:∀b,b<w.heap.size→w'.heap[b]? =w.heap[b]? :=fun b hb=>x3.sj b hb fun i o l e hr=>(ro e hr).elim
 refine ⟨φ,w',v',fr,x1.plain 20 hv,⟨ok.qL,ok.nx,ok.lN,fun i o l a b=>?_,ok.inj⟩,⟨Ph.le_refl φ,fun _ _=>rfl,Nat.le_refl _,x3.os,x3.tape,x3.output,x3.size,fun b hb _=>Aq b hb,fun i o l a b c=> .inr ⟨i,o,l,a,b,c,rfl⟩⟩,x4⟩
 have hr:=ok.live i o l a b
 by_cases hb:l.cH<w.heap.size
 · rw[Aq _ hb];exact hr
 · rw[Array.getElem?_eq_none (by omega)] at hr
   exact hr.absurd.elim
def we:List AV→Option (List (List UInt8))
 | []=>some []
 | .str s::l=>match we l with
   | some r=>some (s::r)
   | none=>none
 | _=>none
theorem Ay:∀l:List (List UInt8),we (l.map .str)=some l
 | []=>rfl
 | s::l=>by
   show (match we (l.map .str) with | some r=>some (s::r) | none=>none)=_
   rw[Ay l]
theorem wg:∀{cs:List AV} {l:List (List UInt8)},we cs=some l→cs=l.map .str
 | [],l,h=>by cases h;rfl
 | .str s::cs,l,h=>by
   simp only[we] at h
   split at h
   · rename_i r hr
     cases h
     rw[wg hr];rfl
   · cases h
noncomputable def Az (args:List AV) (h:ah):Option (AV×ah):=match args with
 | [.slice i o n c _,.str sep]=>match h.get i with
   | some (.cells cs _ _)=>if o+n≤cs.length∧n≤c∧n≤100000 then (match we ((cs.drop o).take n) with
    | some l=>if (Lib.join l sep).length≤1000000000 then some (.str (Lib.join l sep),h) else none
    | none=>none) else none
   | _=>none
 | _=>none
def DL (P:Program) (f:FuncId):Prop:=∀(bk o c:Nat) (xs:List ByteArray) (sep:ByteArray) (w:World),(∀(j:Nat) x,xs[j]? =some x→w.cell? ⟨bk,o+j,none⟩=some (.string x))→bk<w.heap.size→xs.length≤140737488355328→xs.length≤c→
 (Lib.join (xs.map (·.data.toList)) sep.data.toList).length≤140737488355328→
 Calls P f #[.slice (some ⟨bk,o,none⟩) xs.length c,.string sep] w fun e w'=>e= .returned (.string ⟨(Lib.join (xs.map (·.data.toList)) sep.data.toList).toArray⟩)∧Below w.heap.size w w'
theorem HW {f:FuncId} (bG:∀args w,(callFunc f args).run E.P w= .ok (.enter f args) w) (hc:DL E.P f) (args:List AV) (h:ah) (v:AV) (h':ah) (e:Az args h=some (v,h')):eA E f args h v h':=by
 intro φ w vs ok hl
 refine ⟨bG _ _,?_⟩
 unfold Az at e
 split at e
 · rename_i i o n c b sep
   split at e
   · rename_i cs t ro hg
     split at e
     · rename_i hb
       obtain ⟨hb1,hb2,hb3⟩:=hb
       split at e
       · rename_i l JT
         split at e
         · rename_i hlen
           simp only[Option.some.injEq,Prod.mk.injEq] at e
           obtain ⟨rfl,rfl⟩:=e
           obtain ⟨x,t2,rfl,hx,hl⟩:=hl.bw
           obtain ⟨y,t3,rfl,hy,hl⟩:=hl.bw
           rw[hl.dg]
           cases hx with
           | slice _ _ _ _ hφ=>
           rename_i lc
           generalize hq:AV.str sep=q at hy
           cases hy with
           | str sp=>
             injection hq with hq
             obtain ⟨C,e',lo,hi,WL,Ys⟩:=ok.live i _ lc hg hφ
             have hs:=wg JT
             have WM:l.length=n:=by
              have:=congrArg List.length hs
              simp only[List.length_take,List.length_drop,List.length_map] at this
              omega
             have rD:lc.cH<w.heap.size:=(Array.getElem?_eq_some_iff.1 WL).1
             have xb:(l.map fun s=>(⟨s.toArray⟩:ByteArray)).map (·.data.toList)=l:=by
              rw[List.map_map];exact List.map_id'' (fun s=>rfl) l
             have xg:∀(j:Nat) (x:ByteArray),(l.map fun s=>(⟨s.toArray⟩:ByteArray))[j]? =some x→w.cell? ⟨lc.cH,lc.off+o+j,none⟩=some (.string x):=by
              intro j x hj
              rw[List.getElem?_map,Option.map_eq_some_iff] at hj
              obtain ⟨s,kq,rfl⟩:=hj
              have C7:j<n:=by rw[←WM];exact (List.getElem?_eq_some_iff.1 kq).1
              have h1:cs[o+j]? =some (.str s):=by
               have h2:((cs.drop o).take n)[j]? =some (.str s):=by rw[hs,List.getElem?_map,kq];rfl
               rw[List.getElem?_take_of_lt C7,List.getElem?_drop] at h2
               exact h2
              obtain ⟨z,hz,WN⟩:=Ys.val _ _ h1
              generalize S9:AV.str s=q2 at WN
              cases WN with
              | str sb=>
                injection S9 with S9
                have:(⟨s.toArray⟩:ByteArray)=sb:=by rw[S9]
                rw[this]
                simp only[World.cell?,WL]
                rw[Nat.add_assoc];exact hz
              | _=>cases S9
             have JU:=hc lc.cH (lc.off+o) (cO b c lc.dH) _ sp w xg rD (by rw[List.length_map];omega) (by rw[List.length_map];unfold cO;split<;>omega) (by rw[xb,←hq];omega)
             rw[xb,←hq,List.length_map,WM] at JU
             intro dI
             obtain ⟨en,w',fr,⟨rfl,QW⟩,oH,vd,Ke⟩:=JU dI
             exact ⟨φ,w',_,fr,VR.str ⟨(Lib.join l sep).toArray⟩,(ok.later QW).1,(ok.later QW).2,oH,vd,Ke⟩
           | _=>cases hq
         · cases e
       · cases e
     · cases e
   · cases e
 · cases e
end Go.Ab
end
section
namespace Go.Ab
variable {E:Env} {M0:Fa.Ap}
theorem oY.unique {call:aI} {f:FuncId} {args:List AV} {h h1 h2:ah} {v1 v2:AV} (a:oY E call f args h v1 h1) (b:oY E call f args h v2 h2):v1=v2∧h1=h2:=by
 obtain ⟨n,a⟩:=a
 obtain ⟨m,b⟩:=b
 have:=(a (n+m) (by omega)).symm.trans (b (n+m) (by omega))
 simpa using this
def AV.within (nx:Nat):Nat→AV→Bool
 | 0,_=>false
 | n+1,x=>match x with
   | .bool _ | .int .. | .str _ | .cK | .aK | .bT | .nilFunc | .nilIface | .cb=>true
   | .ptr i _=>decide (i<nx)
   | .slice i _ _ _ _=>decide (i<nx)
   | .map i=>decide (i<nx)
   | .iface _ v=>AV.within nx n v
   | .agg cs=>cs.all (AV.within nx n)
   | .tuple cs=>cs.all (AV.within nx n)
   | _=>false
theorem VR.within {φ φ':Ph} {nx:Nat} (ho:∀i,i<nx→φ' i=φ i):∀(n:Nat) {x:AV} (_:AV.within nx n x=true) {y:Value},VR φ' x y→VR φ x y
 | 0,_,h,_,_=>by cases h
 | n+1,x,h,y,hv=>by
   have ih:= @VR.within φ φ' nx ho n
   cases hv with
   | bool b=>exact .bool b
   | int k m=>exact .int k m
   | str s=>exact .str s
   | cK=>exact .cK
   | aK=>exact .aK
   | bT=>exact .bT
   | nilFunc=>exact .nilFunc
   | nilIface=>exact .nilIface
   | cb a c=>exact .cb a c
   | ptr o hl=>rw[ho _ (of_decide_eq_true h)] at hl;exact .ptr o hl
   | slice o len cap op hl=>rw[ho _ (of_decide_eq_true h)] at hl;exact .slice o len cap op hl
   | map hl=>rw[ho _ (of_decide_eq_true h)] at hl;exact .map hl
   | iface t v v' h'=>exact .iface t v v' (ih (by simpa [AV.within] using h) h')
   | agg cs dI hl hc=>
     refine .agg cs dI hl fun i x y a b=>ih ?_ (hc i x y a b)
     simp only[AV.within,List.all_eq_true] at h
     exact h x (List.mem_of_getElem? a)
   | tuple cs dI hl hc=>
     refine .tuple cs dI hl fun i x y a b=>ih ?_ (hc i x y a b)
     simp only[AV.within,List.all_eq_true] at h
     exact h x (List.mem_of_getElem? a)
   | _=>cases h
theorem eA.DM {f:FuncId} {args:List AV} {h h':ah} {v:AV} (r:eA E f args h v h') (hs:Has h h') (hv:AV.within h.nx 20 v=true):eA E f args h v h:=fun φ w vs ok hl=>by
 obtain ⟨h1,h2⟩:=r φ w vs ok hl
 refine ⟨h1,fun cs=>?_⟩
 obtain ⟨φ',w',v',fr,x1,x2,x3,x4⟩:=h2 cs
 exact ⟨φ,w',v',fr,x1.within x3.old 20 hv,ok.forget x3.ext x2 hs,x3.forget,x4⟩
open Classical in
noncomputable def dK (E:Env) (M0:Fa.Ap):Nat→aI
 | 0=>tj M0
 | d+1=>fun F args h=>match F with
   | .qK _=> .fail "" none
   | .fn f=>match M0 f args h with
     | some p=> .ret p.1 p.2
     | none=>
       if hx:∃v,∃h',oY E (dK E M0 d) f args h v h'∧Has h h'∧AV.within h.nx 20 v=true then .ret hx.choose h
       else if hy:∃p:AV×ah,oY E (dK E M0 d) f args h p.1 p.2 then .ret hy.choose.1 hy.choose.2 else .fail "" none
theorem tC (hE:fm E) (hM:Fa.yb E M0):∀d,dy E (dK E M0 d)
 | 0=>EU hM
 | d+1=>by
   have ih:=tC hE hM d
   have key:∀{f:FuncId} {args:List AV} {h:ah} {o:eg},dK E M0 (d+1) (.fn f) args h=o→(∃v h',o= .ret v h'∧eA E f args h v h')∨o= .fail "" none:=by
    intro f args h o e
    simp only[dK] at e
    split at e
    · rename_i p hp
      exact .inl ⟨_,_,e.symm,hM _ _ _ _ _ hp⟩
    · split at e
      · rename_i hx
        obtain ⟨h',⟨n,h1⟩,h2,h3⟩:=hx.choose_spec
        exact .inl ⟨_,_,e.symm,eA.DM ((jB hE n ih).1 _ _ _ _ _ (h1 n (Nat.le_refl n))) h2 h3⟩
      · split at e
        · rename_i hy
          obtain ⟨n,h1⟩:=hy.choose_spec
          exact .inl ⟨_,_,e.symm,(jB hE n ih).1 _ _ _ _ _ (h1 n (Nat.le_refl n))⟩
        · exact .inr e.symm
   refine ⟨fun F args h v h' e=>?_,fun F args h v h' e=>?_⟩
   · cases F with
     | qK l=>cases e
     | fn f=>
       rcases key e with ⟨w,k,h1,h2⟩ | h1
       · cases h1;exact h2.any
       · cases h1
   · cases F with
     | qK l=>cases e
     | fn f=>
       rcases key e with ⟨w,k,h1,h2⟩ | h1
       · cases h1
       · cases h1
theorem aA {d:Nat} {f:FuncId} {args:List AV} {h h':ah} {v:AV} (hm:M0 f args h=none) (hd:oY E (dK E M0 d) f args h v h') (hh:Has h h') (hv:AV.within h.nx 20 v=true):dK E M0 (d+1) (.fn f) args h= .ret v h:=by
 simp only[dK,hm]
 have hx:∃v,∃h',oY E (dK E M0 d) f args h v h'∧Has h h'∧AV.within h.nx 20 v=true:=⟨v,h',hd,hh,hv⟩
 rw[dif_pos hx]
 obtain ⟨k,h1,_,_⟩:=hx.choose_spec
 rw[(h1.unique hd).1]
theorem wh {d:Nat} {f:FuncId} {args:List AV} {h h':ah} {v:AV} (hm:M0 f args h=none) (hd:oY E (dK E M0 d) f args h v h') (hv:¬(Has h h'∧AV.within h.nx 20 v=true)):dK E M0 (d+1) (.fn f) args h= .ret v h':=by
 simp only[dK,hm]
 have hx:¬∃v,∃h',oY E (dK E M0 d) f args h v h'∧Has h h'∧AV.within h.nx 20 v=true:=by
  rintro ⟨w,k,h1,h2,h3⟩
  obtain ⟨rfl,rfl⟩:=h1.unique hd
  exact hv ⟨h2,h3⟩
 have hy:∃p:AV×ah,oY E (dK E M0 d) f args h p.1 p.2:=⟨(v,h'),hd⟩
 rw[dif_neg hx,dif_pos hy]
 obtain ⟨h1,h2⟩:=hy.choose_spec.unique hd
 rw[h1,h2]
theorem fH {d:Nat} {f:FuncId} {args:List AV} {h h':ah} {v:AV} {p:Nat} {o x:aF} (hm:M0 f args h=none) (hd:oY E (dK E M0 d) f args h v h') (c:iE h h' p o) (hy:Tidy h) (hg:h.get p=some x) (hn:h'.nx=h.nx):
 ∃hk,dK E M0 (d+1) (.fn f) args h= .ret v hk∧iE h hk p o∧hk.nx=h.nx:=by
 by_cases hq:Has h h'∧AV.within h.nx 20 v=true
 · refine ⟨h,aA hm hd hq.1 hq.2,⟨hy,?_,fun i y _ g=>g⟩,rfl⟩
   have:=hq.1 p x hg
   rw[c.2.1] at this
   rw[hg];exact this.symm
 · exact ⟨h',wh hm hd hq,c,hn⟩
theorem AA (hE:fm E) (hM:Fa.yb E M0) {d:Nat} {f:FuncId} {args:List AV} {h h':ah} {v:AV} (e:dK E M0 d (.fn f) args h= .ret v h'):eA E f args h v h':=by
 cases d with
 | zero=>
   simp only[dK,tj] at e
   split at e
   · rename_i p hp
     cases e
     exact hM _ _ _ _ _ hp
   · cases e
 | succ d=>
   simp only[dK] at e
   split at e
   · rename_i p hp
     cases e
     exact hM _ _ _ _ _ hp
   · split at e
     · rename_i hx
       cases e
       obtain ⟨h',⟨n,h1⟩,h2,h3⟩:=hx.choose_spec
       exact eA.DM ((jB hE n (tC hE hM d)).1 _ _ _ _ _ (h1 n (Nat.le_refl n))) h2 h3
     · split at e
       · rename_i hy
         cases e
         obtain ⟨n,h1⟩:=hy.choose_spec
         exact (jB hE n (tC hE hM d)).1 _ _ _ _ _ (h1 n (Nat.le_refl n))
       · cases e
end Go.Ab
end
section
namespace Go.Ab
variable {E:Env}
theorem wrap_u64 (n:Nat):IntKind.u64.wrap (n:Int)=((n%18446744073709551616:Nat):Int):=by
 show (if (false&&decide ((n:Int)%2^64≥2^63))=true then (n:Int)%2^64 - 2^64 else (n:Int)%2^64)=_
 rw[if_neg (by simp)]
 omega
theorem mj (t:TypeId) (c d:Bool) (x s:Nat) (j:IntKind) (hs:s≤64):aJ E .shr t c d (some (.int .u64 (x:Int))) (some (.int j (s:Int)))=some (.int .u64 ((x/2^s:Nat):Int)):=by
 have h1:min s 64=s:=by omega
 have h2:((x:Int).fdiv (2^s))=((x/2^s:Nat):Int):=by
  rw[Int.fdiv_eq_ediv_of_nonneg _ (Int.pow_nonneg (by decide))]
  norm_cast
 simp only[aJ,eT,Int.toNat_natCast]
 rw[if_neg (by omega)]
 show some (AV.int .u64 ((x:Int).fdiv (2^(min s 64))))=_
 rw[h1,h2]
theorem AB {t:TypeId} {c d:Bool} {a b:Nat} (hb:b≠0) (ha:a<18446744073709551616):aJ E .quo t c d (some (.int .u64 (a:Int))) (some (.int .u64 (b:Int)))=some (.int .u64 ((a/b:Nat):Int)):=by
 have:a/b≤a:=Nat.div_le_self _ _
 exact tz (by omega) (by rw[←Int.ofNat_tdiv,wrap_u64,Nat.mod_eq_of_lt (by omega)])
theorem AD {t:TypeId} {c d:Bool} {a b:Nat} (hb:b≠0):aJ E .rem t c d (some (.int .u64 (a:Int))) (some (.int .u64 (b:Int)))=some (.int .u64 ((a%b:Nat):Int)):=
 aH (by omega) (by rw[←Int.ofNat_tmod])
end Go.Ab
end
section
namespace Go.Ab
variable {E:Env} {M0:Fa.Ap}
structure dB (h h':ah):Prop where
 y:Tidy h'
 a:Has h h'
 n:h.nx≤h'.nx
theorem dB.refl {h:ah} (y:Tidy h):dB h h:=⟨y,Has.refl h,Nat.le_refl _⟩
theorem dB.trans {a b c:ah} (x:dB a b) (y:dB b c):dB a c:=⟨y.y,x.a.trans y.a,Nat.le_trans x.n y.n⟩
theorem tD {d:Nat} {f:FuncId} {args:List AV} {h h':ah} {v:AV} {P:ah→Prop} (hm:M0 f args h=none) (hd:oY E (dK E M0 d) f args h v h') (y:Tidy h) (g:dB h h') (p1:P h') (p2:AV.within h.nx 20 v=true→P h):
 ∃hk,dK E M0 (d+1) (.fn f) args h= .ret v hk∧dB h hk∧P hk:=by
 by_cases hv:AV.within h.nx 20 v=true
 · exact ⟨h,aA hm hd g.a hv,dB.refl y,p2 hv⟩
 · exact ⟨h',wh hm hd fun c=>hv c.2,g,p1⟩
theorem bj {h:ah} {p:Nat} {x o:aF} (y:Tidy h) (g:h.get p=some x):iE h (h.put p (some o)) p o:=
 ⟨fun i z hz=>by
  by_cases e:i=p
  · subst e;exact y _ _ g
  · rw[ah.bf (Ne.symm e)] at hz;exact y _ _ hz,
  ah.bx _,fun i z hi hz=>by rw[ah.bf (Ne.symm hi)];exact hz⟩
def Kept (p:Nat) (h h':ah):Prop:=∀i x,i≠p→h.get i=some x→h'.get i=some x
theorem Kept.refl (p:Nat) (h:ah):Kept p h h:=fun _ _ _ g=>g
theorem Kept.trans {p:Nat} {a b c:ah} (x:Kept p a b) (y:Kept p b c):Kept p a c:=fun i o hi g=>y i o hi (x i o hi g)
theorem Kept.store {h h':ah} {t e:TypeId} {i o:Nat} {cs:List AV} {v:AV} (y:Tidy h) (s:aQ E h t (.ptr i o) v=some h') (g:h.get i=some (.cells cs e false)):Kept i h h':=fun _ _ hj gj=>kJ y s g hj gj
theorem rj (k:IntKind) (l:List Nat):(aO k l).all AV.scalar=true:=by
 simp [aO,AV.scalar]
theorem cE.jq {h:ah} {k:IntKind} {e:TypeId} {av:AV} {l:List Nat} (x:cE E h k e av l):jq av=some l.length:=by
 rcases x.known with rfl | ⟨p,o,n,c,b,rfl,_⟩
 · have:=x.len
   rw[oU] at this
   simp only[Option.some.injEq,AV.int.injEq,true_and] at this
   rw[show l.length=0 by omega];rfl
 · rw[x.inv.1];rfl
theorem cE.first {h:ah} {k:IntKind} {e:TypeId} {av:AV} {l:List Nat} (x:cE E h k e av l):cN h 1 l.length av=some (aO k l):=by
 by_cases hl:l=[]
 · subst hl
   rcases x.known with rfl | ⟨p,o,n,c,b,rfl,_⟩<;>simp [cN,aO]
 rcases x.known with rfl | ⟨p,o,n,c,b,rfl,_⟩
 · have:=x.len
   rw[oU] at this
   simp only[Option.some.injEq,AV.int.injEq,true_and] at this
   exact absurd (List.length_eq_zero_iff.1 (show l.length=0 by omega)) hl
 · obtain ⟨rfl,h2⟩:=x.inv
   obtain ⟨_,C,f,ro,g,hv⟩:=h2 hl
   have hC:o+l.length≤C.length:=by
    have hp:0<l.length:=List.length_pos_iff.2 hl
    have:=hv (l.length - 1) _ (List.getElem?_eq_getElem (show l.length - 1<l.length by omega))
    have:=(List.getElem?_eq_some_iff.1 this).1
    omega
   have h0:¬l.length=0:=fun e=>hl (List.length_eq_zero_iff.1 e)
   simp only[cN,Nat.le_refl,if_true,h0,if_false,g,Nat.mul_one,hC]
   refine congrArg some (List.ext_getElem? fun i=>?_)
   by_cases hi:i<l.length
   · rw[List.getElem?_take_of_lt hi,List.getElem?_drop,hv i _ (List.getElem?_eq_getElem hi),gZ (List.getElem?_eq_getElem hi)]
   · rw[List.getElem?_eq_none (by simp;omega),List.getElem?_eq_none (by rw[cn];omega)]
theorem Dy {h:ah} {k:IntKind} {e t:TypeId} {tys:Array TypeId} {d s:AV} {l:List Nat} {p o n:Nat} {C:List AV} {f:TypeId} (h0:tys[0]? =some t) (ht:E.P.underlying t=some (.slice e)) (hs:bb E e=some 1) (w:JY h d p o n C f) (x:cE E h k e s l) (hn:l.length≤n):
 nm E h tys d s=some (.int .i64 (l.length:Nat),h.put p (some (.cells (setFrom C o (aO k l)) f false))):=by
 obtain ⟨c,b,rfl,hc⟩:=w.is
 have hf:=w.fits
 have sE:cN h 1 (min l.length n) s=some (aO k l):=by
  rw[Nat.min_eq_left hn];exact x.first
 simp only[nm,h0,ht,x.jq,hs,sE,w.get]
 rw[if_pos ⟨by rw[cn];omega,rj k l⟩,Nat.min_eq_left hn]
theorem o9 {e:TypeId} {p n c i:Nat} {op:Bool} {z:Int} (hs:bb E e=some 1) (hi:i<n) (hz:z=(i:Nat)):bD E (some (.slice e)) (some (.slice p 0 n c op)) (some (.int .i64 z))=some (.ptr p i):=by
 subst hz
 have:=eE (E:=E) (e:=e) (i:=p) (o:=0) (len:=n) (c:=c) (z:=i) (b:=op) hs hi
 rw[Nat.zero_add,Nat.mul_one] at this
 exact this
theorem EZ {h:ah} {t e:TypeId} {p i:Nat} {k:IntKind} {l:List Nat} {ro:Bool} (ht:cm E t=some false) (hg:h.get p=some (.cells (aO k l) e ro)) (hi:i<l.length):aM E h t (.ptr p i)=some (.int k ((l.getD i 0:Nat):Int)):=by
 simp only[aM,hg,dG,ht]
 exact gZ (Ly hi)
theorem HX (k:IntKind) (l:List Nat) (i v:Nat):setFrom (aO k l) i [.int k (v:Int)]=aO k (l.set i v):=by
 show (aO k l).set i _=_
 simp [aO,List.map_set]
theorem Cg {h:ah} {t e:TypeId} {p i v:Nat} {k:IntKind} {l:List Nat} (hs:bb E t=some 1) (hg:h.get p=some (.cells (aO k l) e false)) (hi:i<l.length):
 aQ E h t (.ptr p i) (.int k (v:Int))=some (h.put p (some (.cells (aO k (l.set i v)) e false))):=by
 simp only[aQ,hg,hs]
 rw[if_pos ⟨rfl,by rw[cn];omega,rfl⟩]
 rw[show (AV.int k (v:Int)).cells=[.int k (v:Int)] from rfl,HX]
theorem append_nil {h:ah} {k:IntKind} {e s xt:TypeId} {tys:Array TypeId} {bytes:Nat} {z x:AV} {m:List Nat} (h0:tys[0]? =some s) (h1:tys[1]? =some xt) (hs:E.P.underlying s=some (.slice e)) (hx:E.P.underlying xt=some (.slice e)) (JZ:bb E e=some 1) (hb:eu E e=some bytes) (r9:cL E e=some z) (hz:z.cells.length=1) (h8:bytes≤15) (x1:cE E h k e x m) (hm:m≠ []) (hl:m.length≤1073741824):
 ∃h',bq E h tys .aK x=some (.slice h.nx 0 m.length m.length true,h')∧h.new (.cells (aO k m) e false)=some h':=by
 obtain ⟨h',n⟩:=nV (h:=h) (.cells (aO k m) e false)
 refine ⟨h',?_,n⟩
 have hn:¬m.length=0:=fun e=>hm (List.length_eq_zero_iff.1 e)
 have xp:(4*m.length+4096)*(bytes+1)≤1099511627776:=Nat.le_trans (Nat.mul_le_mul (show 4*m.length+4096≤68719476736 by omega) (show bytes+1≤16 by omega)) (by decide)
 simp only[bq,h0,h1,hs,hx,gz,JZ,hb,x1.jq,x1.first,r9,hz,rj,cn,Nat.mul_one,hn,xp,n,if_true,if_false,and_self,Bool.false_eq_true]
theorem wi {t:TypeId} {s:List UInt8} {m n:Nat} {y z:Int} (ht:E.P.underlying t=some .string) (hy:y=(m:Nat)) (hz:z=(n:Nat)) (hm:m≤n) (hn:n≤s.length):bP E t (.str s) (some (.int .i64 y)) (some (.int .i64 z)) none=some (.str ((s.drop m).take (n - m))):=by
 subst hy hz
 simp only[bP,ht,gE (len:=s.length) (cap:=s.length) (lo:=m) (hi:=n) (some (.int .i64 (m:Nat))) (some (.int .i64 (n:Nat))) (.inl rfl) (.inl rfl) hm hn]
theorem br {e:TypeId} {p o n c i:Nat} {op:Bool} {z:Int} (hs:bb E e=some 1) (hi:i<n) (hz:z=(i:Nat)):bD E (some (.slice e)) (some (.slice p o n c op)) (some (.int .i64 z))=some (.ptr p (o+i)):=by
 subst hz
 have:=eE (E:=E) (e:=e) (i:=p) (o:=o) (len:=n) (c:=c) (z:=i) (b:=op) hs hi
 rw[Nat.mul_one] at this
 exact this
theorem AE {C:List AV} {o i v:Nat} {k:IntKind} {l:List Nat} (hf:o+l.length≤C.length) (hi:i<l.length):setFrom (setFrom C o (aO k l)) (o+i) [.int k (v:Int)]=setFrom C o (aO k (l.set i v)):=by
 show (setFrom C o (aO k l)).set (o+i) _=_
 apply List.ext_getElem?
 intro j
 rw[List.getElem?_set,ez,b4,b4,cn,cn,List.length_set]
 by_cases hj:o+i=j
 · subst hj
   rw[if_pos rfl,if_pos (by omega),if_pos ⟨by omega,by omega,by omega⟩,Nat.add_sub_cancel_left]
   simp [aO,hi]
 · rw[if_neg hj]
   split
   · rename_i h3
     have:(aO k (l.set i v))[j - o]? =(aO k l)[j - o]? :=by
      simp only[aO,List.getElem?_map,List.getElem?_set]
      rw[if_neg (by omega)]
     rw[this]
   · rfl
theorem aU {h:ah} {t f:TypeId} {p o i v:Nat} {k:IntKind} {l:List Nat} {C:List AV} (hs:bb E t=some 1) (hf:o+l.length≤C.length) (hg:h.get p=some (.cells (setFrom C o (aO k l)) f false)) (hi:i<l.length):
 aQ E h t (.ptr p (o+i)) (.int k (v:Int))=some (h.put p (some (.cells (setFrom C o (aO k (l.set i v))) f false))):=by
 simp only[aQ,hg,hs]
 rw[if_pos ⟨rfl,by rw[ez];omega,rfl⟩]
 rw[show (AV.int k (v:Int)).cells=[.int k (v:Int)] from rfl,AE hf hi]
theorem Oc {C:List AV} {o:Nat} {k:IntKind} {l:List Nat} (x:Holds k C o l):setFrom C o (aO k l)=C:=by
 apply List.ext_getElem?
 intro j
 rw[b4]
 split
 · rename_i h3
   rw[cn] at h3
   have:=x (j - o) _ (List.getElem?_eq_getElem (show j - o<l.length by omega))
   rw[show o+(j - o)=j by omega] at this
   rw[this,gZ (List.getElem?_eq_getElem (show j - o<l.length by omega))]
 · rfl
theorem HY {o:Nat} {k:IntKind} {R l:List Nat} (hf:o+l.length≤R.length):setFrom (aO k R) o (aO k l)=aO k (R.take o++l++R.drop (o+l.length)):=by
 apply List.ext_getElem?
 intro j
 rw[b4,cn,cn]
 simp only[aO,List.getElem?_map]
 split
 · rename_i h3
   rw[List.append_assoc,List.getElem?_append_right (by simp;omega),List.getElem?_append_left (by simp;omega)]
   congr 2
   simp;omega
 · rename_i h3
   congr 1
   by_cases hj:j<o
   · rw[List.append_assoc,List.getElem?_append_left (by simp;omega),List.getElem?_take_of_lt hj]
   · by_cases hk:j<R.length
     · have:¬j<o+l.length:=fun h=>h3 ⟨by omega,by omega,by omega⟩
       rw[List.getElem?_append_right (by simp;omega),List.getElem?_drop]
       congr 1
       simp;omega
     · rw[List.getElem?_eq_none (by omega),List.getElem?_eq_none (by simp;omega)]
end Go.Ab
end
