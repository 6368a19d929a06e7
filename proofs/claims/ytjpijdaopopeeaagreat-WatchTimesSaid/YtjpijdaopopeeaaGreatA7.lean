import Derived.ChangeShapes
import Derived.ChangeStays
import Derived.ChangeBook
import Derived.ChangeOld
import Derived.ChangeAgain
import Derived.ChangeCalls
import Derived.Test.YtjpijdaopopeeaaGreatA6
set_option linter.unusedVariables false
set_option linter.unusedSimpArgs false
section
namespace Go.Ab
variable {E:Env} {call:CallF} {n:Nat} {s:St}
def opK {α β:Type} (o:Option α) (f:α→β) (d:β):β:=match o with
 | some a=>f a
 | none=>d
noncomputable def seqK (E:Env) (call:CallF) (n:Nat) (o:Out) (b:Code):Out:=match o with
 | .ok .normal s=>exec E call n b s
 | r=>r
theorem seqK_normal (s:St) (b:Code):seqK E call n (.ok .normal s) b=exec E call n b s:=rfl
def blockK (id:Nat) (o:Out):Out:=match o with
 | .ok (.exit id') s'=>if id'=id then .ok .normal s' else .ok (.exit id') s'
 | r=>r
theorem blockK_exit (i j:Nat) (s:St):blockK i (.ok (.exit j) s)=if j=i then .ok .normal s else .ok (.exit j) s:=rfl
noncomputable def condK (E:Env) (call:CallF) (n:Nat) (o:Option AV) (a b:Code) (s:St):Out:=match o with
 | some (.bool true)=>exec E call n a s
 | some (.bool false)=>exec E call n b s
 | _=> .fail "cond" none
theorem condK_true (a b:Code):condK E call n (some (.bool true)) a b s=exec E call n a s:=rfl
theorem condK_false (a b:Code):condK E call n (some (.bool false)) a b s=exec E call n b s:=rfl
theorem x_seq (a b:Code):exec E call (n+1) (.seq a b) s=seqK E call n (exec E call n a s) b:=rfl
theorem x_cond (x:Operand) (a b:Code):exec E call (n+1) (.cond x a b) s=condK E call n (evs E s.ts x) a b s:=rfl
theorem x_block (id:Nat) (b:Code):exec E call (n+1) (.block id b) s=blockK id (exec E call n b s):=rfl
theorem x_loop (b:Code):exec E call (n+1) (.loop b) s=seqK E call n (exec E call n b s) (.loop b):=rfl
theorem x_region (i:Nat) (ops:Array Oper):exec E call (n+1) (.region i ops false) s=opsA E call ops ops.toList s:=rfl
theorem x_drawn (i:Nat) (ops:Array Oper):exec E call (n+1) (.region i ops true) s=drawA E call ops s:=rfl
noncomputable def slow3 (E:Env) (call:CallF) (ops:Array Oper) (o:Oper) (rest:List Oper) (s:St):Out:=match effA E call s.ts s.h s.rc o with
 | .val v h'=>opsA E call ops rest {s with ts:=putT s.ts o.dst v,h:=h'}
 | .defer d=>opsA E call ops rest {s with ts:=putT s.ts o.dst AV.undef,ds:=d::s.ds}
 | .recov v=>opsA E call ops rest {s with ts:=putT s.ts o.dst v,rc:= .done}
 | .panic v h'=> .ok (.panic v) {s with h:=h'}
 | .fail why q=> .fail why q
noncomputable def slow2 (E:Env) (call:CallF) (ops:Array Oper) (o:Oper) (rest:List Oper) (s:St):Out:=
 opK (allocA E s.ts o.op) (fun p=>opK (s.h.new p.1) (fun h'=>opsA E call ops rest {s with ts:=putT s.ts o.dst (p.2 s.h.nx),h:=h'}) (.fail "full" (some o))) (slow3 E call ops o rest s)
noncomputable def slow1 (E:Env) (call:CallF) (ops:Array Oper) (o:Oper) (rest:List Oper) (s:St):Out:=
 opK (readA E s.ts s.h o.op) (fun v=>opsA E call ops rest {s with ts:=putT s.ts o.dst v}) (slow2 E call ops o rest s)
noncomputable def pureK (E:Env) (call:CallF) (ops:Array Oper) (v:Option AV) (o:Oper) (rest:List Oper) (s:St):Out:=opK v (fun v=>opsA E call ops rest {s with ts:=putT s.ts o.dst v}) (slow1 E call ops o rest s)
section
variable {ops:Array Oper} {rest:List Oper} {d:Option Tmp} {op:Op} {ty:TypeId} {pos:String} {aft:Array Edge} {g:Option (Nat×Bool)}
noncomputable def guardK (E:Env) (call:CallF) (ops:Array Oper) (w:Bool) (o:Oper) (rest:List Oper) (s:St):Out:=
 if w=true then pureK E call ops (pureA E s.ts o.op) o rest s else opsA E call ops rest {s with ts:=putT s.ts o.dst AV.undef}
end
theorem same_str (m:Nat) (a:List UInt8):AV.same (m+1) (.str a) (.str a)=true:=by simp [AV.same]
theorem same_int (m:Nat) (k:IntKind) (a:Int):AV.same (m+1) (.int k a) (.int k a)=true:=by simp [AV.same]
theorem same_slice (m i o l c:Nat) (b:Bool):AV.same (m+1) (.slice i o l c b) (.slice i o l c b)=true:=by simp [AV.same]
open Classical in
section
variable {ops:Array Oper} {rest:List Nat} {d:Option Tmp} {op:Op} {ty:TypeId} {pos:String} {aft:Array Edge} {g:Option (Nat×Bool)}
noncomputable def drawK (E:Env) (call:CallF) (ops:Array Oper) (r:Option St) (s:St):Out:=opK r (fun s'=> .ok .normal s') (drawA E call ops s)
end
theorem wrap_i64 {n:Int} (h0: -9223372036854775808≤n) (h1:n<9223372036854775808):IntKind.i64.wrap n=n:=by
 show (if (true&&decide (n%2^64≥2^63))=true then n%2^64 - 2^64 else n%2^64)=n
 by_cases hn:n%2^64≥2^63
 · rw[if_pos (by rw[Bool.true_and];exact decide_eq_true hn)];omega
 · rw[if_neg (by rw[Bool.true_and];exact fun e=>hn (of_decide_eq_true e))];omega
noncomputable def finK (E:Env) (fn:Func) (h:Heap) (ts:List AV):COut:=match resA E h ts fn.results.toList with
 | some vs=> .ret (tupled vs) h
 | none=> .fail "results" none
theorem stepA_ret {fuel:Nat} {f:FuncId} {fn:Func} {c:Code} (hf:E.P.funcs[f]? =some fn) (hb:fn.body=some c) {args:List AV} {h h':Heap} {ts:List AV} {x:AEx} (hx:x= .normal∨x= .ret)
 (e:exec E call fuel c ⟨args++List.replicate (fn.ntmps - args.length) AV.undef,h,[],.no⟩= .ok x ⟨ts,h',[],.no⟩) {vs:List AV} (hr:resA E h' ts fn.results.toList=some vs):stepA E call fuel f args h= .ret (tupled vs) h':=by
 unfold stepA
 simp only[hf,hb,bodyA,e]
 rcases hx with rfl | rfl<;>simp only[finishA,unwindA,hr]
def tableC (M:Fa.Memo):CallF:=fun F args h=>match F with
 | .fn f=>match M f args h with
   | some p=> .ret p.1 p.2
   | none=> .fail "" none
 | .yld _=> .fail "" none
theorem tableC_OK {M:Fa.Memo} (hM:Fa.MemoOK E M):CallOK E (tableC M):=by
 refine ⟨fun F args h v h' e=>?_,fun F args h v h' e=>?_⟩
 · cases F with
   | yld l=>cases e
   | fn f=>
     simp only[tableC] at e
     cases hm:M f args h with
     | none=>rw[hm] at e;cases e
     | some p=>
       rw[hm] at e
       simp only[COut.ret.injEq] at e
       obtain ⟨rfl,rfl⟩:=e
       exact (hM _ _ _ _ _ hm).any
 · cases F with
   | yld l=>cases e
   | fn f=>
     simp only[tableC] at e
     cases hm:M f args h with
     | none=>rw[hm] at e;cases e
     | some p=>rw[hm] at e;cases e
def fieldK (E:Env) (x:Option (TypeId×Nat)) (v:Option AV):Option AV:=match x,v with
 | some (t,o),some (.ptr i off)=>match sizeT E t with
   | some n=>if n=0 then none else some (.ptr i (off+o))
   | none=>none
 | _,_=>none
def binK (E:Env) (op:BinOp) (t:TypeId) (xc yc:Bool) (a b:Option AV):Option AV:=match a,b with
 | some a,some b=>binA E op t xc yc a b
 | _,_=>none
theorem p_binOp {ts:List AV} (op:BinOp) (t t':TypeId) (x y:Operand):pureA E ts (.binOp op t x y t')=binK E op t (isConst x) (isConst y) (evs E ts x) (evs E ts y):=by
 simp only[pureA,binK]
 cases evs E ts x<;>cases evs E ts y<;>rfl
theorem bin_add (t:TypeId) (c d:Bool) (k:IntKind) (a b:Int):binK E .add t c d (some (.int k a)) (some (.int k b))=some (.int k (k.wrap (a+b))):=by simp [binK,binA,binInt]
theorem bin_sub (t:TypeId) (c d:Bool) (k:IntKind) (a b:Int):binK E .sub t c d (some (.int k a)) (some (.int k b))=some (.int k (k.wrap (a - b))):=by simp [binK,binA,binInt]
theorem bin_mul (t:TypeId) (c d:Bool) (k:IntKind) (a b:Int):binK E .mul t c d (some (.int k a)) (some (.int k b))=some (.int k (k.wrap (a*b))):=by simp [binK,binA,binInt]
theorem bin_eql (t:TypeId) (c d:Bool) (k:IntKind) (a b:Int):binK E .eql t c d (some (.int k a)) (some (.int k b))=some (.bool (decide (a=b))):=by simp [binK,binA,binInt];rfl
theorem bin_neq (t:TypeId) (c d:Bool) (k:IntKind) (a b:Int):binK E .neq t c d (some (.int k a)) (some (.int k b))=some (.bool (!decide (a=b))):=by simp [binK,binA,binInt];rfl
theorem bin_lss (t:TypeId) (c d:Bool) (k:IntKind) (a b:Int):binK E .lss t c d (some (.int k a)) (some (.int k b))=some (.bool (decide (a<b))):=by simp [binK,binA,binInt]
theorem bin_leq (t:TypeId) (c d:Bool) (k:IntKind) (a b:Int):binK E .leq t c d (some (.int k a)) (some (.int k b))=some (.bool (decide (a≤b))):=by simp [binK,binA,binInt]
theorem bin_gtr (t:TypeId) (c d:Bool) (k:IntKind) (a b:Int):binK E .gtr t c d (some (.int k a)) (some (.int k b))=some (.bool (decide (b<a))):=by simp [binK,binA,binInt]
theorem bin_geq (t:TypeId) (c d:Bool) (k:IntKind) (a b:Int):binK E .geq t c d (some (.int k a)) (some (.int k b))=some (.bool (decide (b≤a))):=by simp [binK,binA,binInt]
theorem bin_seql (t:TypeId) (c d:Bool) (a b:List UInt8):binK E .eql t c d (some (.str a)) (some (.str b))=some (.bool (decide (a=b))):=by
 simp only[binK,binA,binStr,Option.some.injEq,AV.bool.injEq]
 exact Bool.eq_iff_iff.2 (by simp)
theorem bin_sneq (t:TypeId) (c d:Bool) (a b:List UInt8):binK E .neq t c d (some (.str a)) (some (.str b))=some (.bool (!decide (a=b))):=by
 simp only[binK,binA,binStr,Option.some.injEq,AV.bool.injEq]
 exact congrArg (!·) (Bool.eq_iff_iff.2 (by simp))
def unK (op:UnOp) (a:Option AV):Option AV:=match a with
 | some a=>unA op a
 | none=>none
def idxK (E:Env) (d:Option TypeDesc) (v i:Option AV):Option AV:=match d,v,i with
 | some (.slice elem),some (.slice i o len _ _),some (.int _ n)=>match sizeT E elem with
  | some size=>if 0≤n∧n<len then some (.ptr i (o+n.toNat*size)) else none
  | none=>none
 | some (.array len elem),some (.ptr i o),some (.int _ n)=>match sizeT E elem with
  | some size=>if 0≤n∧n<len then some (.ptr i (o+n.toNat*size)) else none
  | none=>none
 | _,_,_=>none
theorem p_indexAddr {ts:List AV} (t:TypeId) (x i:Operand):pureA E ts (.indexAddr t x i)=idxK E (E.P.underlying t) (evs E ts x) (evs E ts i):=by
 simp only[pureA,idxK]
 split<;>simp_all<;>(split<;>simp_all)
theorem idxK_slice {e:TypeId} {i o len c z:Nat} {b:Bool} {size:Nat} (hs:sizeT E e=some size) (hz:z<len):idxK E (some (.slice e)) (some (.slice i o len c b)) (some (.int .i64 (z:Int)))=some (.ptr i (o+z*size)):=by
 simp only[idxK,hs]
 rw[if_pos ⟨by omega,by omega⟩,Int.toNat_natCast]
def lenK (d:Option TypeDesc) (v:Option AV):Option AV:=match d,v with
 | some (.slice _),some .nilslice=>some (.int .i64 0)
 | some (.slice _),some (.slice _ _ n _ _)=>some (.int .i64 n)
 | some (.slice _),some .zslice=>some (.int .i64 0)
 | some .string,some (.str s)=>some (.int .i64 s.length)
 | some (.array n _),some _=>some (.int .i64 n)
 | some (.map _ _),some .nilmap=>some (.int .i64 0)
 | _,_=>none
theorem p_len {ts:List AV} (x:Operand) (t:TypeId):pureA E ts (.call ⟨.builtin .len, #[x], #[t]⟩)=lenK (E.P.underlying t) (evs E ts x):=by
 simp only[pureA,evAll,mapAll,List.getElem?_toArray,List.getElem?_cons_zero]
 generalize evs E ts x=o
 cases o with
 | none=>
   generalize E.P.underlying t=u
   cases u with
   | none=>rfl
   | some d=>cases d<;>rfl
 | some v=>
   simp only
   generalize E.P.underlying t=u
   cases u with
   | none=>rfl
   | some d=>cases d<;>cases v<;>rfl
theorem r_load {ts:List AV} {h:Heap} (t:TypeId) (x:Operand):readA E ts h (.load t x)=opK (evs E ts x) (loadA E h t) none:=by
 simp only[readA];cases evs E ts x<;>rfl
theorem lenK_slice (e:TypeId) (i o n c:Nat) (b:Bool):lenK (some (.slice e)) (some (.slice i o n c b))=some (.int .i64 n):=rfl
theorem lenK_nil (e:TypeId):lenK (some (.slice e)) (some .nilslice)=some (.int .i64 0):=rfl
def Tidy (h:Heap):Prop:=∀i o,h.get i=some o→i<h.nx
def idxV (E:Env) (d:Option TypeDesc) (v i:Option AV):Option AV:=match d,v,i with
 | some (.array len elem),some (.agg cs),some (.int _ n)=>match sizeT E elem with
  | some size=>if 0≤n∧n<len then partT E elem cs (n.toNat*size) else none
  | none=>none
 | some .string,some (.str s),some (.int _ n)=>if 0≤n then (match s[n.toNat]? with | some b=>some (.int .u8 b.toNat) | none=>none) else none
 | _,_,_=>none
theorem p_index {ts:List AV} (t:TypeId) (x i:Operand):pureA E ts (.index t x i)=idxV E (E.P.underlying t) (evs E ts x) (evs E ts i):=by
 simp only[pureA,idxV]
 split
 · simp_all
   split<;>simp_all
 · rename_i s k n _ _ _
   simp_all
   cases s[n.toNat]? <;>rfl
 · simp_all
theorem idxV_str {s:List UInt8} {z:Nat} {b:UInt8} (h:s[z]? =some b):idxV E (some .string) (some (.str s)) (some (.int .i64 (z:Int)))=some (.int .u8 b.toNat):=by
 simp only[idxV]
 rw[if_pos (by omega),Int.toNat_natCast,h]
end Go.Ab
end
section
namespace Go.Ab
open Go.ChangeShapes Go.WideShapes Go.RowKit
variable {E:Env}
def AllRo (h:Heap):Prop:=∀i o,h.get i=some o→o.rw=false
theorem OK.show {φ:Ph} {h:Heap} {w:World} (ok:OK E φ h w) (hro:AllRo h) {b off:Nat} {cs:List AV} {e:TypeId} (hne:cs≠ []) (hz:∀m,cs≠ [.map m])
 (hC:∀(k:Nat) (x:AV),cs[k]? =some x→∃y,w.cell? ⟨b,off+k,none⟩=some y∧VR φ x y):
 ∃h',h.new (.cells cs e true)=some h'∧OK E (φ.add h.nx ⟨b,off,0⟩) h' w∧φ.le (φ.add h.nx ⟨b,off,0⟩)∧AllRo h'∧h'.nx=h.nx+1∧h'.get h.nx=some (.cells cs e true)∧(∀j,j≠h.nx→h'.get j=h.get j)∧(φ.add h.nx ⟨b,off,0⟩) h.nx=some ⟨b,off,0⟩:=by
 obtain ⟨h',hn⟩:∃h',h.new (.cells cs e true)=some h':=by
  exact ⟨_,Heap.new_put _ _⟩
 obtain ⟨hlt,hnx1,hnew,hold⟩:=Heap.new_some hn
 have hno:φ h.nx=none:=by
  cases e:φ h.nx with
  | none=>rfl
  | some m=>exact absurd (ok.dom _ _ e) (Nat.lt_irrefl _)
 have hle:φ.le (φ.add h.nx ⟨b,off,0⟩):=fun i m hm=>by
  unfold Ph.add;split
  · rename_i e;subst e;rw[hno] at hm;simp at hm
  · exact hm
 have hadd:∀j,j≠h.nx→(φ.add h.nx ⟨b,off,0⟩) j=φ j:=fun j hj=>by simp [Ph.add,hj]
 have hself:(φ.add h.nx ⟨b,off,0⟩) h.nx=some ⟨b,off,0⟩:=by simp [Ph.add]
 have hget:∀j p,h'.get j=some p→(j=h.nx∧p= .cells cs e true)∨(j≠h.nx∧h.get j=some p):=fun j p hj=>by
  by_cases e:j=h.nx
  · subst e;rw[hnew] at hj;simp at hj;exact .inl ⟨rfl,hj.symm⟩
  · rw[hold j e] at hj;exact .inr ⟨e,hj⟩
 have hlen:0<cs.length:=List.length_pos_iff.2 hne
 obtain ⟨y0,hy0,_⟩:=hC 0 cs[0] (by simp [hlen])
 obtain ⟨C,e',lo,hi,hw⟩:∃C e' lo hi,w.heap[b]? =some (.cells C e' (lo,hi)):=by
  unfold World.cell? at hy0
  split at hy0
  · rename_i C e' fz hw;obtain ⟨lo,hi⟩:=fz;exact ⟨C,e',lo,hi,hw⟩
  · cases hy0
 have hcell:∀k,w.cell? ⟨b,off+k,none⟩=C[off+k]? :=fun k=>by simp [World.cell?,hw]
 refine ⟨h',hn,⟨fun i m hm=>?_,by rw[hnx1];exact Nat.le_succ_of_le ok.nx,fun g hg=>hle _ _ (ok.glob g hg),fun j p m hj hm=>?_,fun j k p q m n hj hk hm hn'' hw hb=>?_⟩,hle,fun j p hj=>?_,hnx1,hnew,hold,hself⟩
 · rw[hnx1]
   by_cases e:i=h.nx
   · omega
   · rw[hadd i e] at hm;have:=ok.dom i m hm;omega
 · rcases hget j p hj with ⟨rfl,rfl⟩ | ⟨hne',hj'⟩
   · rw[hself] at hm;simp at hm;subst hm
     refine ⟨C,e',lo,hi,hw,?_,fun k x hk=>?_,(fun h=>by cases h),fun _ m hm=>absurd hm (hz m)⟩
     · obtain ⟨y,hy,_⟩:=hC (cs.length - 1) cs[cs.length - 1] (List.getElem?_eq_getElem (by omega))
       rw[hcell] at hy
       have:=(Array.getElem?_eq_some_iff.1 hy).1
       simp only[slackCells,Nat.zero_mul]
       omega
     · obtain ⟨y,hy,hv⟩:=hC k x hk
       rw[hcell] at hy
       exact ⟨y,hy,hv.mono hle⟩
   · rw[hadd j hne'] at hm
     exact (ok.live j p m hj' hm).mono hle
 · rcases hget j p hj with ⟨rfl,rfl⟩ | ⟨hne1,hj'⟩<;>rcases hget k q hk with ⟨rfl,rfl⟩ | ⟨hne2,hk'⟩
   · rfl
   · rw[hro k q hk'] at hw;rcases hw with h | h<;>cases h
   · rw[hro j p hj'] at hw;rcases hw with h | h<;>cases h
   · rw[hadd j hne1] at hm;rw[hadd k hne2] at hn'';exact ok.inj _ _ _ _ _ _ hj' hk' hm hn'' hw hb
 · rcases hget j p hj with ⟨_,rfl⟩ | ⟨_,hj'⟩
   · rfl
   · exact hro j p hj'
theorem AllRo.begin {G:Nat} {l:List Tab}:AllRo (heapOf G l):=fun i o h=>by
 obtain ⟨x,_,_,rfl⟩:=heapOf_get h;rfl
theorem calls_of_law {f:FuncId} {avs:List AV} {h h':Heap} (r:RetOK E f avs h (.bool true) h') {φ:Ph} {w:World} {vs:List Value} (ok:OK E φ h w) (hl:LR φ avs vs) (hro:AllRo h):
 Calls E.P f vs.toArray w fun en w'=>en= .returned (.bool true)∧w.keptBut w' (fun _=>False):=fun cs=>by
 obtain ⟨_,hst⟩:=r φ w vs ok hl
 obtain ⟨φ',w',v',fr,hv,_,hfr,h1,h2,h3⟩:=hst cs
 cases hv
 refine ⟨.returned (.bool true),w',fr,⟨rfl,hfr.os,hfr.output,fun i hi=>?_⟩,h1,h2,h3⟩
 rw[hfr.keep i hi (fun j o l' q1 q2 _=>by rw[hro j o q1] at q2;cases q2)]
 cases w.heap[i]? with
 | none=>rfl
 | some o=>cases o with
   | cells c t fz=>exact ⟨rfl,rfl,rfl,fun _ _=>rfl⟩
   | map es c=>exact .inr ⟨rfl,rfl⟩
   | _=>rfl
section
variable {H:Type} {enc:TypeId×Value→H} {w:World} {base:Nat} {spare:Nat→Bool} {held:Bool} {fuel:Nat} {t:TypeId} {x:DataW H×List MemPlace}
end
section
variable {H:Type} {enc:TypeId×Value→H} {P:Program} {w w':World}
theorem sameAt_of_kept (hk:w.keptBut w' (fun _=>False)) {p:MemPlace} (hp:p.block<w.heap.size):w.sameAt w' p:=by
 have h:=hk.block hp (fun _ h=>h.elim)
 cases p with
 | cell b off=>simp only[World.sameAt,World.cell?];rw[show w'.heap[b]? =w.heap[b]? from h]
 | map b=>exact h
theorem args_stay (hl:laidOutB P=true) (hk:w.keptBut w' (fun _=>False)):∀{ts:List TypeId} {vs:List Value} {ds:List (DataW H)} {ps:List MemPlace},(∀t∈ts,P.readableRec t=true∧t<P.types.size)→
 DataW.TrodAll enc P w 0 (fun _=>true) true ts vs ds ps→DataW.TrodAll enc P w' 0 (fun b=>decide (b<w.heap.size)) true ts vs ds ps
 | [],vs,ds,ps,_,h=>by
   obtain ⟨rfl,rfl,rfl⟩:=trodAll_nil h
   exact trodAll_mk0
 | t::ts,vs,ds,ps,hr,h=>by
   have hlt:=DataW.TrodAll.lt h
   obtain ⟨v,vs',d,ds',p,p',rfl,rfl,rfl,⟨n,h1⟩,h2⟩:=trodAll_cons h
   obtain ⟨h3,h4⟩:=hr t (by simp)
   refine trodAll_cons_mk ⟨n,?_⟩ (args_stay hl hk (fun t ht=>hr t (by simp [ht])) h2)
   exact DataW.trod_stays (kids_book hl h3) (book_sized h3) (fun h=>by cases h) ⟨h4,book_self t⟩ h1 (fun q hq=>sameAt_of_kept hk (hlt q (by simp [hq]))) (fun q hq=>by simpa using hlt q (by simp [hq]))
end
end Go.Ab
end
section
namespace Go.Ab
variable {E:Env}
end Go.Ab
end
section
namespace Go.Ab
variable {E:Env} {call:CallF}
def Ev (E:Env) (call:CallF) (c:Code) (s:St) (e:AEx) (s':St):Prop:=∃n0,∀n,n0≤n→exec E call n c s= .ok e s'
theorem Ev.of {c:Code} {s:St} {e:AEx} {s':St} (h:∀n,exec E call (n+1) c s= .ok e s'):Ev E call c s e s':=⟨1,fun n hn=>by
 obtain ⟨k,rfl⟩:∃k,n=k+1:=⟨n - 1,by omega⟩
 exact h k⟩
theorem Ev.seq {a b:Code} {s s1 s':St} {e:AEx} (h1:Ev E call a s .normal s1) (h2:Ev E call b s1 e s'):Ev E call (.seq a b) s e s':=by
 obtain ⟨n1,h1⟩:=h1
 obtain ⟨n2,h2⟩:=h2
 refine ⟨n1+n2+1,fun n hn=>?_⟩
 obtain ⟨k,rfl⟩:∃k,n=k+1:=⟨n - 1,by omega⟩
 rw[x_seq,h1 k (by omega),seqK_normal]
 exact h2 k (by omega)
theorem Ev.seq' {a b:Code} {s s':St} {e:AEx} (he:e≠ .normal) (h1:Ev E call a s e s'):Ev E call (.seq a b) s e s':=by
 obtain ⟨n1,h1⟩:=h1
 refine ⟨n1+1,fun n hn=>?_⟩
 obtain ⟨k,rfl⟩:∃k,n=k+1:=⟨n - 1,by omega⟩
 rw[x_seq,h1 k (by omega)]
 cases e with
 | normal=>exact absurd rfl he
 | _=>rfl
theorem Ev.loop {b:Code} {s s1 s':St} {e:AEx} (h1:Ev E call b s .normal s1) (h2:Ev E call (.loop b) s1 e s'):Ev E call (.loop b) s e s':=by
 obtain ⟨n1,h1⟩:=h1
 obtain ⟨n2,h2⟩:=h2
 refine ⟨n1+n2+1,fun n hn=>?_⟩
 obtain ⟨k,rfl⟩:∃k,n=k+1:=⟨n - 1,by omega⟩
 rw[x_loop,h1 k (by omega),seqK_normal]
 exact h2 k (by omega)
theorem Ev.exit {b:Code} {s s':St} {e:AEx} (he:e≠ .normal) (h1:Ev E call b s e s'):Ev E call (.loop b) s e s':=by
 obtain ⟨n1,h1⟩:=h1
 refine ⟨n1+1,fun n hn=>?_⟩
 obtain ⟨k,rfl⟩:∃k,n=k+1:=⟨n - 1,by omega⟩
 rw[x_loop,h1 k (by omega)]
 cases e with
 | normal=>exact absurd rfl he
 | _=>rfl
theorem Ev.ret {b:Code} {s s':St} (h1:Ev E call b s .ret s'):Ev E call (.loop b) s .ret s':=Ev.exit (by simp) h1
theorem Ev.out {b:Code} {s s':St} {i:Nat} (h1:Ev E call b s (.exit i) s'):Ev E call (.loop b) s (.exit i) s':=Ev.exit (by simp) h1
inductive Ans where
 | c
 | v (x:AV)
 | q (x:AV)
 | m (x:AV)
 | n (h:Heap)
 | a (obj:AObj) (x:AV) (h:Heap)
 | e (x:AV) (h:Heap)
 | p (x:AV) (h:Heap)
 | b (x:Bool)
 | l (e:AEx) (s:St)
def Conj:List Prop→Prop
 | []=>True
 | p::ps=>p∧Conj ps
inductive R where
 | bad
 | at (e:AEx) (s:St) (as:List Ans) (ps:List Prop)
def R.go (k:St→List Ans→List Prop→R):R→R
 | .at .normal s as ps=>k s as ps
 | r=>r
theorem R.go_at {k:St→List Ans→List Prop→R} {r:R} {e:AEx} {s:St} {as:List Ans} {ps:List Prop} (h:r.go k= .at e s as ps):(∃s1 as1 ps1,r= .at .normal s1 as1 ps1∧k s1 as1 ps1= .at e s as ps)∨(r= .at e s as ps∧e≠ .normal):=by
 unfold R.go at h
 split at h
 · exact .inl ⟨_,_,_,rfl,h⟩
 · rename_i hne
   refine .inr ⟨h,fun he=>?_⟩
   subst he;exact hne _ _ _ h
def len1 (E:Env) (ts:List AV):List Operand→List TypeId→Option AV
 | [x],[t]=>lenK (E.P.underlying t) (evs E ts x)
 | _,_=>none
def pickV (c a b:Option AV):Option AV:=match c with
 | some (.bool true)=>a
 | some (.bool false)=>b
 | _=>none
theorem p_pickV {ts:List AV} (c a b:Operand):pureA E ts (.pick c a b)=pickV (evs E ts c) (evs E ts a) (evs E ts b):=by
 simp only[pureA]
 generalize evs E ts c=x
 cases x with
 | none=>rfl
 | some v=>cases v with
   | bool b=>cases b<;>rfl
   | _=>rfl
theorem pick_t {c:Bool} {a b:Option AV} (h:c=true):pickV (some (.bool c)) a b=a:=by rw[h];rfl
theorem pick_f {c:Bool} {a b:Option AV} (h:c=false):pickV (some (.bool c)) a b=b:=by rw[h];rfl
def seeA (E:Env) (ts:List AV) (op:Op):Option AV:=match op with
 | .indexAddr t x i=>idxK E (E.P.underlying t) (evs E ts x) (evs E ts i)
 | .index t x i=>idxV E (E.P.underlying t) (evs E ts x) (evs E ts i)
 | .binOp op t x y _=>binK E op t (isConst x) (isConst y) (evs E ts x) (evs E ts y)
 | .pick c a b=>pickV (evs E ts c) (evs E ts a) (evs E ts b)
 | .call c=>match c.callee with
   | .builtin .len=>len1 E ts c.args.toList c.argTypes.toList
   | _=>none
 | _=>none
theorem toArray_of {α:Type} {a:Array α} {l:List α} (h:a.toList=l):a=l.toArray:=by rw[←h]
theorem seeA_ok {ts:List AV} {op:Op} {v:AV} (e:seeA E ts op=some v):pureA E ts op=some v:=by
 unfold seeA at e
 split at e
 · rw[←p_indexAddr] at e;exact e
 · rw[←p_index] at e;exact e
 · rename_i o t x y t';exact (p_binOp o t t' x y).trans e
 · rename_i c a b;exact (p_pickV c a b).trans e
 · rename_i c
   obtain ⟨cl,args,tys⟩:=c
   simp only at e
   split at e
   · unfold len1 at e
     split at e
     · rename_i x t hx ht
       rw[toArray_of hx,toArray_of ht]
       exact (p_len x t).trans e
     · cases e
   · cases e
 · cases e
noncomputable def seeM (E:Env) (ts:List AV) (h:Heap) (op:Op):Option AV:=match op with
 | .load t x=>opK (evs E ts x) (loadA E h t) none
 | op=>readA E ts h op
theorem seeM_ok {ts:List AV} {h:Heap} {op:Op} {v:AV} (e:seeM E ts h op=some v):readA E ts h op=some v:=by
 unfold seeM at e
 split at e
 · rw[r_load];exact e
 · exact e
def makeK (E:Env) (d:Option TypeDesc) (l c:Option AV):Option (AObj×(Nat→AV)):=match d,l,c with
 | some (.slice elem),some (.int _ len),some (.int _ cap)=>match sizeT E elem,bytesT E elem,zeroT E elem with
   | some n,some bytes,some z=>
     if 0≤len∧len≤cap∧cap<2^30∧(bytes:Int)*cap≤2^47∧z.cells.length=n then
      some (.cells (repCells z.cells cap.toNat) elem false,fun i=> .slice i 0 len.toNat cap.toNat false)
     else none
   | _,_,_=>none
 | _,_,_=>none
def seeN (E:Env) (ts:List AV) (op:Op):Option (AObj×(Nat→AV)):=match op with
 | .makeSlice t l c=>makeK E (E.P.underlying t) (evs E ts l) (evs E ts c)
 | op=>allocA E ts op
theorem seeN_eq (ts:List AV) (op:Op):seeN E ts op=allocA E ts op:=by
 unfold seeN
 split
 · rename_i t l c
   simp only[allocA]
   generalize E.P.underlying t=d
   generalize evs E ts l=x
   generalize evs E ts c=y
   rfl
 · rfl
noncomputable def effC (E:Env) (call:CallF) (ts:List AV) (h:Heap) (rc:RC) (o:Oper) (x:AV) (h':Heap):Prop:=match o.op with
 | .store t a v=>match evs E ts a,evs E ts v with
   | some a,some v=>x=AV.undef∧storeA E h t a v=some h'
   | _,_=>False
 | .call c=>match c.callee with
   | .builtin .append=>match evAll E ts c.args.toList with
     | some [s,y]=>appendA E h c.argTypes s y=some (x,h')
     | _=>False
   | .builtin .copy=>match evAll E ts c.args.toList with
     | some [s,y]=>copyA E h c.argTypes s y=some (x,h')
     | _=>False
   | .value _=>match callee E ts c with
     | some (f,args)=>match specialOf E f with
       | some g=>g args h=some (x,h')
       | none=>call f args h= .ret x h'
     | none=>False
   | _=>effA E call ts h rc o= .val x h'
 | .convert src dst y=>convA E h src dst (evs E ts y)=some (x,h')
 | _=>effA E call ts h rc o= .val x h'
theorem effC_ok {ts:List AV} {h:Heap} {rc:RC} {o:Oper} {x:AV} {h':Heap} (e:effC E call ts h rc o x h'):effA E call ts h rc o= .val x h':=by
 unfold effC at e
 split at e
 · rename_i t a v ho
   split at e
   · rename_i a' v' h1 h2
     obtain ⟨rfl,e⟩:=e
     unfold effA
     simp only[ho,h1,h2,e]
   · exact e.elim
 · rename_i c ho
   split at e
   · rename_i hc
     split at e
     · rename_i h1
       unfold effA
       simp only[ho,hc,h1,e]
     · exact e.elim
   · rename_i hc
     split at e
     · rename_i h1
       unfold effA
       simp only[ho,hc,h1,e]
     · exact e.elim
   · rename_i hc
     split at e
     · rename_i h1
       split at e
       · rename_i h2
         unfold effA
         simp only[ho,hc,h1,h2,e]
       · rename_i h2
         unfold effA
         simp only[ho,hc,h1,h2,e]
     · exact e.elim
   · exact e
 · rename_i src dst y ho
   unfold effA
   simp only[ho,e]
 · exact e
def setF {β:Type} (k:List AV→β):List AV→Nat→AV→β
 | [],_,_=>k []
 | _::xs,0,v=>k (v::xs)
 | x::xs,d+1,v=>setF (fun ys=>k (x::ys)) xs d v
theorem setF_eq {β:Type}:∀(k:List AV→β) (ts:List AV) (d:Nat) (v:AV),setF k ts d v=k (ts.set d v)
 | k,[],_,_=>by simp [setF]
 | k,_::xs,0,v=>rfl
 | k,x::xs,d+1,v=>by rw[setF,setF_eq];rfl
def stepR (s:St) (d:Option Tmp) (v:AV) (h:Heap) (as:List Ans) (ps:List Prop):R:=match d with
 | some i=>setF (fun ts=> .at .normal ⟨ts,h,s.ds,s.rc⟩ as ps) s.ts i v
 | none=> .at .normal ⟨s.ts,h,s.ds,s.rc⟩ as ps
theorem stepR_eq (s:St) (d:Option Tmp) (v:AV) (h:Heap) (as:List Ans) (ps:List Prop):Go.Ab.stepR s d v h as ps= .at .normal {s with ts:=putT s.ts d v,h:=h} as ps:=by
 cases d with
 | none=>rfl
 | some i=>exact setF_eq _ _ _ _
noncomputable def runOp (E:Env) (call:CallF) (o:Oper) (s:St) (as:List Ans) (ps:List Prop):R:=match as with
 | .c::as=>match pureA E s.ts o.op with
   | some v=>stepR s o.dst v s.h as ps
   | none=> .bad
 | .v x::as=>stepR s o.dst x s.h as ((seeA E s.ts o.op=some x)::ps)
 | .q x::as=>stepR s o.dst x s.h as ((pureA E s.ts o.op=some x)::ps)
 | .m x::as=>match pureA E s.ts o.op with
   | none=>stepR s o.dst x s.h as ((seeM E s.ts s.h o.op=some x)::ps)
   | some _=> .bad
 | .n h'::as=>match pureA E s.ts o.op,readA E s.ts s.h o.op,allocA E s.ts o.op with
   | none,none,some (obj,mk)=>stepR s o.dst (mk s.h.nx) h' as ((s.h.new obj=some h')::ps)
   | _,_,_=> .bad
 | .a obj x h'::as=>match pureA E s.ts o.op,readA E s.ts s.h o.op with
   | none,none=>stepR s o.dst x h' as ((∃mk,seeN E s.ts o.op=some (obj,mk)∧mk s.h.nx=x)::(s.h.new obj=some h')::ps)
   | _,_=> .bad
 | .e x h'::as=>match pureA E s.ts o.op,readA E s.ts s.h o.op,allocA E s.ts o.op with
   | none,none,none=>stepR s o.dst x h' as (effC E call s.ts s.h s.rc o x h'::ps)
   | _,_,_=> .bad
 | .p x h'::as=>match pureA E s.ts o.op,readA E s.ts s.h o.op,allocA E s.ts o.op with
   | none,none,none=> .at (.panic x) {s with h:=h'} as ((effA E call s.ts s.h s.rc o= .panic x h')::ps)
   | _,_,_=> .bad
 | _=> .bad
theorem runOp_sound {o:Oper} {s:St} {as:List Ans} {ps:List Prop} {e:AEx} {s':St} {as':List Ans} {ps':List Prop} (hr:runOp E call o s as ps= .at e s' as' ps') (hp:Conj ps'):Conj ps∧opA E call s o= .ok e s':=by
 have seen:∀{x:AV},(pureA E s.ts o.op=some x∨(pureA E s.ts o.op=none∧readA E s.ts s.h o.op=some x))→opA E call s o= .ok .normal {s with ts:=putT s.ts o.dst x}:=by
  rintro x (h | ⟨h1,h2⟩)<;>unfold opA
  · rw[h]
  · rw[h1,h2]
 unfold runOp at hr
 split at hr
 · split at hr
   · rename_i v hv
     rw[stepR_eq] at hr;cases hr
     exact ⟨hp,seen (.inl hv)⟩
   · cases hr
 · rw[stepR_eq] at hr;cases hr
   exact ⟨hp.2,seen (.inl (seeA_ok hp.1))⟩
 · rw[stepR_eq] at hr;cases hr
   exact ⟨hp.2,seen (.inl hp.1)⟩
 · split at hr
   · rename_i h1
     rw[stepR_eq] at hr;cases hr
     exact ⟨hp.2,seen (.inr ⟨h1,seeM_ok hp.1⟩)⟩
   · cases hr
 · split at hr
   · rename_i h1 h2 h3
     rw[stepR_eq] at hr;cases hr
     refine ⟨hp.2,?_⟩
     unfold opA
     simp only[h1,h2,h3,hp.1]
   · cases hr
 · split at hr
   · rename_i h1 h2
     rw[stepR_eq] at hr;cases hr
     obtain ⟨⟨mk,h3,h4⟩,h5,hp⟩:=hp
     rw[seeN_eq] at h3
     refine ⟨hp,?_⟩
     unfold opA
     simp only[h1,h2,h3,h4,h5]
   · cases hr
 · split at hr
   · rename_i h1 h2 h3
     rw[stepR_eq] at hr;cases hr
     refine ⟨hp.2,?_⟩
     unfold opA
     simp only[h1,h2,h3,effC_ok hp.1]
   · cases hr
 · split at hr
   · rename_i h1 h2 h3
     cases hr
     refine ⟨hp.2,?_⟩
     unfold opA
     simp only[h1,h2,h3,hp.1]
   · cases hr
 · cases hr
inductive Gd where
 | yes
 | no
 | ask (v want:Bool)
def guardAsk (want:Bool):Option AV→Gd
 | some (.bool v)=> .ask v want
 | _=> .no
def guardR (ops:Array Oper) (ts:List AV) (g:Option (Nat×Bool)):Gd:=match g with
 | none=> .yes
 | some (j,want)=>match (ops[j]?).bind (·.dst) with
   | none=> .no
   | some d=>guardAsk want ts[d]?
theorem guardR_eq (ops:Array Oper) (ts:List AV) (o:Oper):wantedA ops ts o=(match guardR ops ts o.guard with
 | .yes=>true
 | .no=>false
 | .ask v want=>v==want):=by
 unfold wantedA guardR
 cases o.guard with
 | none=>rfl
 | some q=>
   obtain ⟨j,want⟩:=q
   simp only
   cases (ops[j]?).bind (·.dst) with
   | none=>rfl
   | some d=>
     simp only
     generalize ts[d]? =y
     unfold guardAsk
     cases y with
     | none=>rfl
     | some z=>cases z<;>rfl
noncomputable def runOps (E:Env) (call:CallF) (ops:Array Oper):List Oper→St→List Ans→List Prop→R
 | [],s,as,ps=> .at .normal s as ps
 | o::rest,s,as,ps=>match guardR ops s.ts o.guard with
   | .yes=>(runOp E call o s as ps).go (runOps E call ops rest)
   | .no=>(stepR s o.dst AV.undef s.h as ps).go (runOps E call ops rest)
   | .ask v want=>match as with
     | .b x::as=>bif x==want then (runOp E call o s as ((v=x)::ps)).go (runOps E call ops rest) else (stepR s o.dst AV.undef s.h as ((v=x)::ps)).go (runOps E call ops rest)
     | _=> .bad
theorem runOps_sound {ops:Array Oper}:∀(l:List Oper) (s:St) (as:List Ans) (ps:List Prop) (e:AEx) (s':St) (as':List Ans) (ps':List Prop),runOps E call ops l s as ps= .at e s' as' ps'→Conj ps'→Conj ps∧opsA E call ops l s= .ok e s'
 | [],s,as,ps,e,s',as',ps',hr,hp=>by cases hr;exact ⟨hp,rfl⟩
 | o::rest,s,as,ps,e,s',as',ps',hr,hp=>by
   have ih:=runOps_sound (ops:=ops) rest
   have goOp:∀(as1:List Ans) (ps1:List Prop),(runOp E call o s as1 ps1).go (runOps E call ops rest)= .at e s' as' ps'→Conj ps1∧(wantedA ops s.ts o=true→opsA E call ops (o::rest) s= .ok e s'):=by
    intro as1 ps1 h
    rcases R.go_at h with ⟨s1,as2,ps2,h1,h2⟩ | ⟨h1,hne⟩
    · obtain ⟨h3,h4⟩:=ih _ _ _ _ _ _ _ h2 hp
      obtain ⟨h5,h6⟩:=runOp_sound h1 h3
      refine ⟨h5,fun hw=>?_⟩
      unfold opsA
      rw[if_pos hw,h6];exact h4
    · obtain ⟨h5,h6⟩:=runOp_sound h1 hp
      refine ⟨h5,fun hw=>?_⟩
      unfold opsA
      rw[if_pos hw,h6]
      cases e with
      | normal=>exact absurd rfl hne
      | _=>rfl
   have goNo:∀(as1:List Ans) (ps1:List Prop),(stepR s o.dst AV.undef s.h as1 ps1).go (runOps E call ops rest)= .at e s' as' ps'→Conj ps1∧(wantedA ops s.ts o=false→opsA E call ops (o::rest) s= .ok e s'):=by
    intro as1 ps1 h
    rw[stepR_eq] at h
    obtain ⟨h3,h4⟩:=ih _ _ _ _ _ _ _ (show runOps E call ops rest _ as1 ps1=_ from h) hp
    refine ⟨h3,fun hw=>?_⟩
    unfold opsA
    rw[if_neg (by rw[hw];exact Bool.false_ne_true)]
    exact h4
   have hg:=guardR_eq ops s.ts o
   unfold runOps at hr
   split at hr
   · rename_i h1;rw[h1] at hg;exact ⟨(goOp _ _ hr).1,(goOp _ _ hr).2 hg⟩
   · rename_i h1;rw[h1] at hg;exact ⟨(goNo _ _ hr).1,(goNo _ _ hr).2 hg⟩
   · rename_i v want h1
     rw[h1] at hg
     split at hr
     · rename_i x as1
       cases hx:x==want with
       | true=>
         rw[hx] at hr
         obtain ⟨⟨h2,h3⟩,h4⟩:=goOp _ _ hr
         exact ⟨h3,h4 (by rw[hg,h2];exact hx)⟩
       | false=>
         rw[hx] at hr
         obtain ⟨⟨h2,h3⟩,h4⟩:=goNo _ _ hr
         exact ⟨h3,h4 (by rw[hg,h2];exact hx)⟩
     · cases hr
inductive RT where
 | bad
 | ok (tr:List Step) (hs:List Heap) (s:St) (as:List Ans) (ps:List Prop)
def RT.step (x:Step):RT→RT
 | .ok tr hs s as ps=> .ok (x::tr) hs s as ps
 | .bad=> .bad
def RT.bound (x:Step) (h:Heap):RT→RT
 | .ok tr hs s as ps=> .ok (x::tr) (h::hs) s as ps
 | .bad=> .bad
def RT.put (s:St) (d:Option Tmp) (v:AV) (h:Heap) (k:St→RT):RT:=match d with
 | some i=>setF (fun ts=>k ⟨ts,h,s.ds,s.rc⟩) s.ts i v
 | none=>k ⟨s.ts,h,s.ds,s.rc⟩
theorem RT.put_eq (s:St) (d:Option Tmp) (v:AV) (h:Heap) (k:St→RT):RT.put s d v h k=k {s with ts:=putT s.ts d v,h:=h}:=by
 cases d with
 | none=>rfl
 | some i=>exact setF_eq _ _ _ _
noncomputable def drawE (E:Env) (call:CallF) (i k:Nat) (o:Oper) (s:St) (as:List Ans) (ps:List Prop) (go:Nat→St→List Ans→List Prop→RT):RT:=match as with
 | .e x h'::as=>(RT.put s o.dst x h' fun s'=>go (k+1) s' as (effC E call s.ts s.h s.rc o x h'::ps)).bound ⟨i,k,s.ts,x,.eff h'⟩ s.h
 | _=> .bad
noncomputable def drawN (E:Env) (i k:Nat) (o:Oper) (s:St) (as:List Ans) (ps:List Prop) (go:Nat→St→List Ans→List Prop→RT):RT:=match as with
 | .c::as=>match pureA E s.ts o.op with
   | some v=>(RT.put s o.dst v s.h fun s'=>go k s' as ps).step ⟨i,k,s.ts,v,.pur⟩
   | none=> .bad
 | .v x::as=>(RT.put s o.dst x s.h fun s'=>go k s' as ((seeA E s.ts o.op=some x)::ps)).step ⟨i,k,s.ts,x,.pur⟩
 | .q x::as=>(RT.put s o.dst x s.h fun s'=>go k s' as ((pureA E s.ts o.op=some x)::ps)).step ⟨i,k,s.ts,x,.pur⟩
 | .m x::as=>match pureA E s.ts o.op with
   | none=>(RT.put s o.dst x s.h fun s'=>go k s' as ((seeM E s.ts s.h o.op=some x)::ps)).step ⟨i,k,s.ts,x,.red⟩
   | some _=> .bad
 | .n h'::as=>match pureA E s.ts o.op,readA E s.ts s.h o.op,allocA E s.ts o.op with
   | none,none,some (obj,mk)=>(RT.put s o.dst (mk s.h.nx) h' fun s'=>go k s' as ((s.h.new obj=some h')::ps)).step ⟨i,k,s.ts,mk s.h.nx,.alc s.h.nx obj⟩
   | _,_,_=> .bad
 | .a obj x h'::as=>match pureA E s.ts o.op,readA E s.ts s.h o.op with
   | none,none=>(RT.put s o.dst x h' fun s'=>go k s' as ((∃mk,seeN E s.ts o.op=some (obj,mk)∧mk s.h.nx=x)::(s.h.new obj=some h')::ps)).step ⟨i,k,s.ts,x,.alc s.h.nx obj⟩
   | _,_=> .bad
 | _=> .bad
noncomputable def runT (E:Env) (call:CallF) (ops:Array Oper):List Nat→Nat→St→List Ans→List Prop→RT
 | [],_,s,as,ps=> .ok [] [s.h] s as ps
 | i::rest,k,s,as,ps=>match ops[i]? with
   | none=> .bad
   | some o=>match guardR ops s.ts o.guard with
     | .yes=>bif effB E o.op then drawE E call i k o s as ps (runT E call ops rest) else drawN E i k o s as ps (runT E call ops rest)
     | .no=>bif effB E o.op then (RT.put s o.dst AV.undef s.h fun s'=>runT E call ops rest (k+1) s' as ps).bound ⟨i,k,s.ts,AV.undef,.off⟩ s.h else (RT.put s o.dst AV.undef s.h fun s'=>runT E call ops rest k s' as ps).step ⟨i,k,s.ts,AV.undef,.off⟩
     | .ask v want=>match as with
       | .b x::as=>bif x==want then (bif effB E o.op then drawE E call i k o s as ((v=x)::ps) (runT E call ops rest) else drawN E i k o s as ((v=x)::ps) (runT E call ops rest))
         else (bif effB E o.op then (RT.put s o.dst AV.undef s.h fun s'=>runT E call ops rest (k+1) s' as ((v=x)::ps)).bound ⟨i,k,s.ts,AV.undef,.off⟩ s.h else (RT.put s o.dst AV.undef s.h fun s'=>runT E call ops rest k s' as ((v=x)::ps)).step ⟨i,k,s.ts,AV.undef,.off⟩)
       | _=> .bad
theorem RT.step_ok {x:Step} {r:RT} {tr:List Step} {hs:List Heap} {s:St} {as:List Ans} {ps:List Prop} (h:r.step x= .ok tr hs s as ps):∃tr',tr=x::tr'∧r= .ok tr' hs s as ps:=by
 cases r with
 | bad=>cases h
 | ok a b c d e=>cases h;exact ⟨_,rfl,rfl⟩
theorem RT.bound_ok {x:Step} {g:Heap} {r:RT} {tr:List Step} {hs:List Heap} {s:St} {as:List Ans} {ps:List Prop} (h:r.bound x g= .ok tr hs s as ps):∃tr' hs',tr=x::tr'∧hs=g::hs'∧r= .ok tr' hs' s as ps:=by
 cases r with
 | bad=>cases h
 | ok a b c d e=>cases h;exact ⟨_,_,rfl,rfl,rfl⟩
theorem runT_sound {ops:Array Oper}:∀(l:List Nat) (k:Nat) (s:St) (as:List Ans) (ps:List Prop) (tr:List Step) (hs:List Heap) (s':St) (as':List Ans) (ps':List Prop),
 runT E call ops l k s as ps= .ok tr hs s' as' ps'→Conj ps'→Conj ps∧drawT E call ops l k s= .ok tr hs s'
 | [],k,s,as,ps,tr,hs,s',as',ps',hr,hp=>by cases hr;exact ⟨hp,rfl⟩
 | i::rest,k,s,as,ps,tr,hs,s',as',ps',hr,hp=>by
   have ih:=runT_sound (ops:=ops) rest
   unfold runT at hr
   split at hr
   · cases hr
   rename_i o hi
   have hE:∀{as1:List Ans} {ps1:List Prop},effB E o.op=true→drawE E call i k o s as1 ps1 (runT E call ops rest)= .ok tr hs s' as' ps'→Conj ps1∧(wantedA ops s.ts o=true→drawT E call ops (i::rest) k s= .ok tr hs s'):=by
    intro as1 ps1 he h
    unfold drawE at h
    split at h
    · rename_i x h' as2
      rw[RT.put_eq] at h
      obtain ⟨tr1,hs1,rfl,rfl,h9⟩:=RT.bound_ok h
      obtain ⟨h1,h2⟩:=ih _ _ _ _ _ _ _ _ _ h9 hp
      refine ⟨h1.2,fun hw=>?_⟩
      unfold drawT
      simp only[hi,he,hw,if_true,effC_ok h1.1,h2]
      rfl
    · cases h
   have hN:∀{as1:List Ans} {ps1:List Prop},effB E o.op=false→drawN E i k o s as1 ps1 (runT E call ops rest)= .ok tr hs s' as' ps'→Conj ps1∧(wantedA ops s.ts o=true→drawT E call ops (i::rest) k s= .ok tr hs s'):=by
    intro as1 ps1 he h
    unfold drawN at h
    split at h
    · split at h
      · rename_i v hv
        rw[RT.put_eq] at h
        obtain ⟨tr1,rfl,h9⟩:=RT.step_ok h
        obtain ⟨h1,h2⟩:=ih _ _ _ _ _ _ _ _ _ h9 hp
        refine ⟨h1,fun hw=>?_⟩
        unfold drawT
        simp only[hi,he,hw,if_true,hv,Bool.false_eq_true,if_false]
        rw[h2]
        rfl
      · cases h
    · rw[RT.put_eq] at h
      obtain ⟨tr1,rfl,h9⟩:=RT.step_ok h
      obtain ⟨h1,h2⟩:=ih _ _ _ _ _ _ _ _ _ h9 hp
      refine ⟨h1.2,fun hw=>?_⟩
      unfold drawT
      simp only[hi,he,hw,if_true,seeA_ok h1.1,Bool.false_eq_true,if_false]
      rw[h2]
      rfl
    · rw[RT.put_eq] at h
      obtain ⟨tr1,rfl,h9⟩:=RT.step_ok h
      obtain ⟨h1,h2⟩:=ih _ _ _ _ _ _ _ _ _ h9 hp
      refine ⟨h1.2,fun hw=>?_⟩
      unfold drawT
      simp only[hi,he,hw,if_true,h1.1,Bool.false_eq_true,if_false]
      rw[h2]
      rfl
    · split at h
      · rename_i hv
        rw[RT.put_eq] at h
        obtain ⟨tr1,rfl,h9⟩:=RT.step_ok h
        obtain ⟨h1,h2⟩:=ih _ _ _ _ _ _ _ _ _ h9 hp
        refine ⟨h1.2,fun hw=>?_⟩
        unfold drawT
        simp only[hi,he,hw,if_true,hv,seeM_ok h1.1,Bool.false_eq_true,if_false]
        rw[h2]
        rfl
      · cases h
    · split at h
      · rename_i q1 q2 q3
        rw[RT.put_eq] at h
        obtain ⟨tr1,rfl,h9⟩:=RT.step_ok h
        obtain ⟨h1,h2⟩:=ih _ _ _ _ _ _ _ _ _ h9 hp
        refine ⟨h1.2,fun hw=>?_⟩
        unfold drawT
        simp only[hi,he,hw,if_true,q1,q2,q3,h1.1,Bool.false_eq_true,if_false,h2]
        rfl
      · cases h
    · split at h
      · rename_i q1 q2
        rw[RT.put_eq] at h
        obtain ⟨tr1,rfl,h9⟩:=RT.step_ok h
        obtain ⟨h1,h2⟩:=ih _ _ _ _ _ _ _ _ _ h9 hp
        obtain ⟨⟨mk,h3,h4⟩,h5,h6⟩:=h1
        rw[seeN_eq] at h3
        subst h4
        refine ⟨h6,fun hw=>?_⟩
        unfold drawT
        simp only[hi,he,hw,if_true,q1,q2,h3,h5,Bool.false_eq_true,if_false,h2]
        rfl
      · cases h
    · cases h
   have hO:∀{as1:List Ans} {ps1:List Prop},(bif effB E o.op then (RT.put s o.dst AV.undef s.h fun s'=>runT E call ops rest (k+1) s' as1 ps1).bound ⟨i,k,s.ts,AV.undef,.off⟩ s.h else (RT.put s o.dst AV.undef s.h fun s'=>runT E call ops rest k s' as1 ps1).step ⟨i,k,s.ts,AV.undef,.off⟩)= .ok tr hs s' as' ps'→
    Conj ps1∧(wantedA ops s.ts o=false→drawT E call ops (i::rest) k s= .ok tr hs s'):=by
    intro as1 ps1 h
    cases he:effB E o.op with
    | true=>
      rw[he,cond_true,RT.put_eq] at h
      obtain ⟨tr1,hs1,rfl,rfl,h9⟩:=RT.bound_ok h
      obtain ⟨h1,h2⟩:=ih _ _ _ _ _ _ _ _ _ h9 hp
      refine ⟨h1,fun hw=>?_⟩
      unfold drawT
      simp only[hi,he,hw,if_true,Bool.false_eq_true,if_false]
      rw[h2]
      rfl
    | false=>
      rw[he,cond_false,RT.put_eq] at h
      obtain ⟨tr1,rfl,h9⟩:=RT.step_ok h
      obtain ⟨h1,h2⟩:=ih _ _ _ _ _ _ _ _ _ h9 hp
      refine ⟨h1,fun hw=>?_⟩
      unfold drawT
      simp only[hi,he,hw,Bool.false_eq_true,if_false]
      rw[h2]
      rfl
   have hY:∀{as1:List Ans} {ps1:List Prop},(bif effB E o.op then drawE E call i k o s as1 ps1 (runT E call ops rest) else drawN E i k o s as1 ps1 (runT E call ops rest))= .ok tr hs s' as' ps'→
    Conj ps1∧(wantedA ops s.ts o=true→drawT E call ops (i::rest) k s= .ok tr hs s'):=by
    intro as1 ps1 h
    cases he:effB E o.op with
    | true=>rw[he] at h;exact hE he h
    | false=>rw[he] at h;exact hN he h
   have hg:=guardR_eq ops s.ts o
   split at hr
   · rename_i h1;rw[h1] at hg;exact ⟨(hY hr).1,(hY hr).2 hg⟩
   · rename_i h1;rw[h1] at hg;exact ⟨(hO hr).1,(hO hr).2 hg⟩
   · rename_i v want h1
     rw[h1] at hg
     split at hr
     · rename_i x as1
       cases hx:x==want with
       | true=>
         rw[hx] at hr
         obtain ⟨⟨h2,h3⟩,h4⟩:=hY hr
         exact ⟨h3,h4 (by rw[hg,h2];exact hx)⟩
       | false=>
         rw[hx] at hr
         obtain ⟨⟨h2,h3⟩,h4⟩:=hO hr
         exact ⟨h3,h4 (by rw[hg,h2];exact hx)⟩
     · cases hr
noncomputable def stillP (E:Env) (ops:Array Oper) (x:Step) (h:Heap) (ps:List Prop):List Prop:=match x.kind with
 | .red=>match ops[x.i]? with
   | some o=>(AV.same 20 x.v x.v=true)::(seeM E x.ts h o.op=some x.v)::ps
   | none=>False::ps
 | .alc n obj=>(∃o,h.get n=some o∧AObj.same o obj=true)::ps
 | _=>ps
noncomputable def stillL (E:Env) (ops:Array Oper) (x:Step):List Heap→List Prop→List Prop
 | [],ps=>ps
 | h::hs,ps=>stillL E ops x hs (stillP E ops x h ps)
noncomputable def stillAll (E:Env) (ops:Array Oper) (effs:List Nat) (an:List (List Nat)) (hs:List Heap):List Step→List Prop→List Prop
 | [],ps=>ps
 | x::tr,ps=>stillAll E ops effs an hs tr (stillL E ops x ((hs.drop x.k).take (latest effs an x.i+1 - x.k)) ps)
theorem stillP_ok {ops:Array Oper} {x:Step} {h:Heap} {ps:List Prop} (hc:Conj (stillP E ops x h ps)):Conj ps∧stillS E ops x h=true:=by
 unfold stillP at hc
 unfold stillS
 split at hc
 · rename_i hk
   simp only[hk]
   split at hc
   · rename_i o ho
     have hget:ops.getD x.i default=o:=by simp [Array.getD_eq_getD_getElem?,ho]
     simp only[hget,seeM_ok hc.2.1,hc.1]
     exact ⟨hc.2.2,trivial⟩
   · exact hc.1.elim
 · rename_i n obj hk
   obtain ⟨⟨o,h1,h2⟩,h3⟩:=hc
   simp only[hk,h1,h2]
   exact ⟨h3,trivial⟩
 · rename_i h1 h2
   refine ⟨hc,?_⟩
   split
   · rename_i hk;exact absurd hk (by assumption)
   · rename_i hk;exact absurd hk (h2 _ _)
   · rfl
theorem stillL_ok {ops:Array Oper} {x:Step}:∀(hs:List Heap) (ps:List Prop),Conj (stillL E ops x hs ps)→Conj ps∧hs.all (stillS E ops x)=true
 | [],ps,hc=>⟨hc,rfl⟩
 | h::hs,ps,hc=>by
   obtain ⟨h1,h2⟩:=stillL_ok hs _ hc
   obtain ⟨h3,h4⟩:=stillP_ok h1
   exact ⟨h3,by simp only[List.all_cons,h4,h2,Bool.and_self]⟩
theorem stillAll_ok {ops:Array Oper} {effs:List Nat} {an:List (List Nat)} {hs:List Heap}:∀(tr:List Step) (ps:List Prop),Conj (stillAll E ops effs an hs tr ps)→
 Conj ps∧(tr.all fun x=>((hs.drop x.k).take (latest effs an x.i+1 - x.k)).all (stillS E ops x))=true
 | [],ps,hc=>⟨hc,rfl⟩
 | x::tr,ps,hc=>by
   obtain ⟨h1,h2⟩:=stillAll_ok tr _ hc
   obtain ⟨h3,h4⟩:=stillL_ok _ _ h1
   exact ⟨h3,by simp only[List.all_cons,h4,h2,Bool.and_self]⟩
noncomputable def nodupP (l:List Nat) (ps:List Prop):List Prop:=match l with
 | []=>ps
 | [_]=>ps
 | l=>(nodup l=true)::ps
noncomputable def runDraw (E:Env) (call:CallF) (ops:Array Oper) (s:St) (as:List Ans) (ps:List Prop):R:=match planOf E ops with
 | none=> .bad
 | some pl=>match runT E call ops pl.order 0 s as ps with
   | .ok tr hs s' as' ps'=> .at .normal s' as' (nodupP (madeIds tr) (stillAll E ops pl.effs pl.an hs tr ps'))
   | .bad=> .bad
theorem runDraw_sound {ops:Array Oper} {s:St} {as:List Ans} {ps:List Prop} {e:AEx} {s':St} {as':List Ans} {ps':List Prop} (hr:runDraw E call ops s as ps= .at e s' as' ps') (hp:Conj ps'):Conj ps∧drawA E call ops s= .ok e s':=by
 unfold runDraw at hr
 split at hr
 · cases hr
 rename_i pl hpl
 split at hr
 · rename_i tr hs s1 as1 ps1 h1
   cases hr
   have hn:Conj (stillAll E ops pl.effs pl.an hs tr ps1)∧nodup (madeIds tr)=true:=by
    unfold nodupP at hp
    split at hp
    · rename_i hm;exact ⟨hp,by rw[hm];rfl⟩
    · rename_i hm;exact ⟨hp,by rw[hm];rfl⟩
    · exact ⟨hp.2,hp.1⟩
   obtain ⟨h2,h3⟩:=stillAll_ok _ _ hn.1
   obtain ⟨h4,h5⟩:=runT_sound _ _ _ _ _ _ _ _ _ _ h1 h2
   refine ⟨h4,?_⟩
   unfold drawA
   simp only[hpl,h5]
   have:lastly E ops pl tr hs=true:=by
    unfold lastly
    rw[hn.2,Bool.true_and]
    exact h3
   rw[if_pos this]
 · cases hr
noncomputable def run (E:Env) (call:CallF):Nat→Code→St→List Ans→List Prop→R
 | 0,_,_,_,_=> .bad
 | n+1,c,s,as,ps=>match c with
   | .skip=> .at .normal s as ps
   | .ret=> .at .ret s as ps
   | .exit i=> .at (.exit i) s as ps
   | .seq a b=>match run E call n a s as ps with
     | .at .normal s1 as1 ps1=>run E call n b s1 as1 ps1
     | r=>r
   | .cond x a b=>match as with
     | .b v::as=>match evs E s.ts x with
       | some (.bool u)=>bif v then run E call n a s as ((u=true)::ps) else run E call n b s as ((u=false)::ps)
       | _=> .bad
     | _=> .bad
   | .block id b=>match run E call n b s as ps with
     | .at (.exit j) s1 as1 ps1=>bif Nat.beq j id then .at .normal s1 as1 ps1 else .at (.exit j) s1 as1 ps1
     | r=>r
   | .loop b=>match as with
     | .l e s'::as=> .at e s' as (Ev E call (.loop b) s e s'::ps)
     | _=> .bad
   | .rangeFunc f ps' a b=>match as with
     | .l e s'::as=> .at e s' as (Ev E call (.rangeFunc f ps' a b) s e s'::ps)
     | _=> .bad
   | .region _ ops draw=>bif draw then runDraw E call ops s as ps else runOps E call ops ops.toList s as ps
   | _=> .bad
theorem run_sound:∀(n:Nat) (c:Code) (s:St) (as:List Ans) (ps:List Prop) (e:AEx) (s':St) (as':List Ans) (ps':List Prop),run E call n c s as ps= .at e s' as' ps'→Conj ps'→Conj ps∧Ev E call c s e s'
 | 0,c,s,as,ps,e,s',as',ps',hr,hp=>by cases hr
 | n+1,c,s,as,ps,e,s',as',ps',hr,hp=>by
   have ih:=run_sound n
   unfold run at hr
   split at hr
   · cases hr;exact ⟨hp,.of fun _=>rfl⟩
   · cases hr;exact ⟨hp,.of fun _=>rfl⟩
   · cases hr;exact ⟨hp,.of fun _=>rfl⟩
   · split at hr
     · rename_i s1 as1 ps1 h1
       obtain ⟨h2,h3⟩:=ih _ _ _ _ _ _ _ _ hr hp
       obtain ⟨h4,h5⟩:=ih _ _ _ _ _ _ _ _ h1 h2
       exact ⟨h4,h5.seq h3⟩
     · rename_i hne
       obtain ⟨h4,h5⟩:=ih _ _ _ _ _ _ _ _ hr hp
       refine ⟨h4,h5.seq' fun he=>?_⟩
       subst he;exact hne _ _ _ hr
   · split at hr
     · rename_i v as1
       split at hr
       · rename_i u hu
         cases v with
         | true=>
           obtain ⟨⟨h1,h2⟩,n0,h3⟩:=ih _ _ _ _ _ _ _ _ hr hp
           refine ⟨h2,n0+1,fun n hn=>?_⟩
           obtain ⟨k,rfl⟩:∃k,n=k+1:=⟨n - 1,by omega⟩
           rw[x_cond,hu,h1,condK_true];exact h3 k (by omega)
         | false=>
           obtain ⟨⟨h1,h2⟩,n0,h3⟩:=ih _ _ _ _ _ _ _ _ hr hp
           refine ⟨h2,n0+1,fun n hn=>?_⟩
           obtain ⟨k,rfl⟩:∃k,n=k+1:=⟨n - 1,by omega⟩
           rw[x_cond,hu,h1,condK_false];exact h3 k (by omega)
       · cases hr
     · cases hr
   · split at hr
     · rename_i id b _ j s1 as1 ps1 h1
       cases hj:Nat.beq j id with
       | true=>
         rw[hj] at hr
         cases hr
         obtain ⟨h2,n0,h3⟩:=ih _ _ _ _ _ _ _ _ h1 hp
         refine ⟨h2,n0+1,fun n hn=>?_⟩
         obtain ⟨k,rfl⟩:∃k,n=k+1:=⟨n - 1,by omega⟩
         rw[x_block,h3 k (by omega),blockK_exit,if_pos (Nat.eq_of_beq_eq_true hj)]
       | false=>
         rw[hj] at hr
         cases hr
         obtain ⟨h2,n0,h3⟩:=ih _ _ _ _ _ _ _ _ h1 hp
         refine ⟨h2,n0+1,fun n hn=>?_⟩
         obtain ⟨k,rfl⟩:∃k,n=k+1:=⟨n - 1,by omega⟩
         rw[x_block,h3 k (by omega),blockK_exit,if_neg (Nat.ne_of_beq_eq_false hj)]
     · rename_i id b _ hne
       obtain ⟨h2,n0,h3⟩:=ih _ _ _ _ _ _ _ _ hr hp
       refine ⟨h2,n0+1,fun n hn=>?_⟩
       obtain ⟨k,rfl⟩:∃k,n=k+1:=⟨n - 1,by omega⟩
       rw[x_block,h3 k (by omega)]
       cases e with
       | exit j=>exact absurd hr (hne _ _ _ _)
       | _=>rfl
   · split at hr
     · cases hr;exact ⟨hp.2,hp.1⟩
     · cases hr
   · split at hr
     · cases hr;exact ⟨hp.2,hp.1⟩
     · cases hr
   · rename_i i ops draw
     cases draw with
     | true=>
       simp only[cond_true] at hr
       obtain ⟨h1,h2⟩:=runDraw_sound hr hp
       exact ⟨h1,.of fun n=>by rw[x_drawn];exact h2⟩
     | false=>
       simp only[cond_false] at hr
       obtain ⟨h1,h2⟩:=runOps_sound _ _ _ _ _ _ _ _ hr hp
       exact ⟨h1,.of fun n=>by rw[x_region];exact h2⟩
   · cases hr
theorem by_answers {n:Nat} {c:Code} {s:St} {al:List Ans} {e:AEx} {s':St} {ps:List Prop} (hr:run E call n c s al []= .at e s' [] ps) (hp:Conj ps):Ev E call c s e s':=(run_sound _ _ _ _ _ _ _ _ _ hr hp).2
theorem junk {tmpl:(Nat→AV)→List AV} {c:Code} {s:St} {e:AEx} {h:Heap} {ds:List ADef} {rc:RC} {L:List AV} (ev:Ev E call c s e ⟨L,h,ds,rc⟩) (hl:L=tmpl fun k=>L.getD k AV.undef):∃y,Ev E call c s e ⟨tmpl y,h,ds,rc⟩:=by
 refine ⟨fun k=>L.getD k AV.undef,?_⟩
 rw[←hl];exact ev
theorem step_of {f:FuncId} {fn:Func} {c:Code} (hf:E.P.funcs[f]? =some fn) (hb:fn.body=some c) {args:List AV} {h h':Heap} {ts:List AV} {x:AEx} (hx:x= .normal∨x= .ret)
 (e:Ev E call c ⟨args++List.replicate (fn.ntmps - args.length) AV.undef,h,[],.no⟩ x ⟨ts,h',[],.no⟩) {vs:List AV} (hr:resA E h' ts fn.results.toList=some vs):∃n0,∀n,n0≤n→stepA E call n f args h= .ret (tupled vs) h':=by
 obtain ⟨n0,e⟩:=e
 exact ⟨n0,fun n hn=>stepA_ret hf hb hx (e n hn) hr⟩
def Does (E:Env) (call:CallF) (f:FuncId) (args:List AV) (h:Heap) (v:AV) (h':Heap):Prop:=∃n0,∀n,n0≤n→stepA E call n f args h= .ret v h'
theorem fn_of {f:FuncId} {fn:Func} {c:Code} {args ts0 ts:List AV} {h h':Heap} {x:AEx} {v:AV} (hf:E.P.funcs[f]? =some fn) (hb:fn.body=some c) (ht:args++List.replicate (fn.ntmps - args.length) AV.undef=ts0) (hx:x= .normal∨x= .ret)
 (e:Ev E call c ⟨ts0,h,[],.no⟩ x ⟨ts,h',[],.no⟩) (hr:(resA E h' ts fn.results.toList).map tupled=some v):Does E call f args h v h':=by
 subst ht
 cases hv:resA E h' ts fn.results.toList with
 | none=>rw[hv] at hr;cases hr
 | some vs=>
   rw[hv] at hr
   obtain rfl:tupled vs=v:=Option.some.inj hr
   exact step_of hf hb hx e hv
end Go.Ab
end
section
namespace Go.Ab
variable {E:Env}
theorem bin_add_ok {t:TypeId} {c d:Bool} {k:IntKind} {a b z:Int} (h:k.wrap (a+b)=z):binK E .add t c d (some (.int k a)) (some (.int k b))=some (.int k z):=by rw[bin_add,h]
theorem bin_sub_ok {t:TypeId} {c d:Bool} {k:IntKind} {a b z:Int} (h:k.wrap (a - b)=z):binK E .sub t c d (some (.int k a)) (some (.int k b))=some (.int k z):=by rw[bin_sub,h]
theorem bin_mul_ok {t:TypeId} {c d:Bool} {k:IntKind} {a b z:Int} (h:k.wrap (a*b)=z):binK E .mul t c d (some (.int k a)) (some (.int k b))=some (.int k z):=by rw[bin_mul,h]
theorem sc_int (k:IntKind) (n:Int):AV.scalar (.int k n)=true:=rfl
theorem sc_bool (b:Bool):AV.scalar (.bool b)=true:=rfl
theorem sc_str (b:List UInt8):AV.scalar (.str b)=true:=rfl
theorem sc_ptr (i o:Nat):AV.scalar (.ptr i o)=true:=rfl
theorem sc_slice (i o n c:Nat) (b:Bool):AV.scalar (.slice i o n c b)=true:=rfl
theorem sc_ns:AV.scalar .nilslice=true:=rfl
theorem sc_np:AV.scalar .nilptr=true:=rfl
theorem sc_nm:AV.scalar .nilmap=true:=rfl
theorem sc_nf:AV.scalar .nilFunc=true:=rfl
theorem sc_ni:AV.scalar .nilIface=true:=rfl
theorem sc_map (i:Nat):AV.scalar (.map i)=true:=rfl
theorem load_own {h:Heap} {t:TypeId} {i o:Nat} {cs:List AV} {e:TypeId} {ro:Bool} {v:AV} (hg:h.get i=some (.cells cs e ro)) (hv:partT E t cs o=some v):loadA E h t (.ptr i o)=some v:=by
 simp only[loadA,hg,hv]
theorem new_get {h h':Heap} {o:AObj} (n:h.new o=some h'):h'.get h.nx=some o:=(Heap.new_some n).2.2.1
theorem new_nx {h h':Heap} {o:AObj} (n:h.new o=some h'):h'.nx=h.nx+1:=(Heap.new_some n).2.1
theorem new_keep {h h':Heap} {o x:AObj} {i:Nat} (y:Tidy h) (n:h.new o=some h') (g:h.get i=some x):h'.get i=some x:=by
 have:=y i x g
 rw[(Heap.new_some n).2.2.2 i (by omega)];exact g
theorem new_has {h h':Heap} {o:AObj} (y:Tidy h) (n:h.new o=some h'):Has h h':=fun _ _ g=>new_keep y n g
theorem new_tidy {h h':Heap} {o:AObj} (y:Tidy h) (n:h.new o=some h'):Tidy h':=fun i x g=>by
 obtain ⟨_,h2,h3,h4⟩:=Heap.new_some n
 by_cases hx:i=h.nx
 · omega
 · rw[h4 i hx] at g;have:=y i x g;omega
theorem new_ex {h:Heap} (o:AObj):∃h',h.new o=some h':=⟨_,Heap.new_put _ _⟩
theorem store_ex {h:Heap} {t e:TypeId} {i o n:Nat} {cs:List AV} {v:AV} (g:h.get i=some (.cells cs e false)) (hs:sizeT E t=some n) (hv:v.cells.length=n) (ho:o+n≤cs.length) (hk:v.cells.all AV.scalar=true):∃h',storeA E h t (.ptr i o) v=some h':=by
 refine ⟨h.put i (some (.cells (setFrom cs o v.cells) e false)),?_⟩
 simp only[storeA,g,hs]
 rw[if_pos ⟨hv,ho,hk⟩]
theorem store_eq {h h':Heap} {t e:TypeId} {i o:Nat} {cs:List AV} {v:AV} (s:storeA E h t (.ptr i o) v=some h') (g:h.get i=some (.cells cs e false)):h'=h.put i (some (.cells (setFrom cs o v.cells) e false)):=by
 simp only[storeA,g] at s
 split at s
 · rename_i h1 _
   cases h1
   split at s
   · exact (Option.some.inj s).symm
   · cases s
 · cases s
theorem store_get {h h':Heap} {t e:TypeId} {i o:Nat} {cs:List AV} {v:AV} (y:Tidy h) (s:storeA E h t (.ptr i o) v=some h') (g:h.get i=some (.cells cs e false)):h'.get i=some (.cells (setFrom cs o v.cells) e false):=by
 rw[store_eq s g]
 have:=y i _ g
 exact Heap.get_put_same _
theorem store_keep {h h':Heap} {t e:TypeId} {i j o:Nat} {cs:List AV} {v:AV} {x:AObj} (y:Tidy h) (s:storeA E h t (.ptr i o) v=some h') (g:h.get i=some (.cells cs e false)) (hj:j≠i) (gx:h.get j=some x):h'.get j=some x:=by
 rw[store_eq s g]
 have:=y i _ g
 rw[Heap.get_put_other (Ne.symm hj)];exact gx
theorem store_nx {h h':Heap} {t e:TypeId} {i o:Nat} {cs:List AV} {v:AV} (s:storeA E h t (.ptr i o) v=some h') (g:h.get i=some (.cells cs e false)):h'.nx=h.nx:=by
 rw[store_eq s g];exact Heap.put_nx _ _ _
theorem store_tidy {h h':Heap} {t e:TypeId} {i o:Nat} {cs:List AV} {v:AV} (y:Tidy h) (s:storeA E h t (.ptr i o) v=some h') (g:h.get i=some (.cells cs e false)):Tidy h':=fun j x gj=>by
 have hi:=y i _ g
 rw[store_nx s g]
 by_cases hx:j=i
 · omega
 · rw[store_eq s g,Heap.get_put_other (Ne.symm hx)] at gj
   exact y j x gj
end Go.Ab
end
section
namespace Go.Ab
variable {E:Env}
theorem dT {p:Prop} [Decidable p] (h:p):decide p=true:=decide_eq_true h
theorem dF {p:Prop} [Decidable p] (h:¬p):decide p=false:=decide_eq_false h
theorem nT {p:Prop} [Decidable p] (h:¬p):(!decide p)=true:=by rw[decide_eq_false h];rfl
theorem nF {p:Prop} [Decidable p] (h:p):(!decide p)=false:=by rw[decide_eq_true h];rfl
def loopsIn:Code→List Code
 | .seq a b=>loopsIn a++loopsIn b
 | .cond _ a b=>loopsIn a++loopsIn b
 | .block _ b=>loopsIn b
 | .loop b=>b::loopsIn b
 | .scope b=>loopsIn b
 | .rangeFunc _ _ _ b=>b::loopsIn b
 | _=> []
structure SliceAt (E:Env) (h:Heap) (e:TypeId) (n:Nat) (av:AV) (len:Nat) (cs:List AV):Prop where
 size:sizeT E e=some n
 cells:cs.length=len*n
 small:len<2^60
 lens:lenK (some (.slice e)) (some av)=some (.int .i64 (len:Nat))
 block:len=0∨∃p o m c b C f ro,av= .slice p o m c b∧m≤c∧h.get p=some (.cells C f ro)∧(∀j,j<cs.length→C[o+j]? =cs[j]?)
theorem SliceAt.has {h h':Heap} {e:TypeId} {n:Nat} {av:AV} {len:Nat} {cs:List AV} (x:SliceAt E h e n av len cs) (hh:Has h h'):SliceAt E h' e n av len cs:=
 ⟨x.size,x.cells,x.small,x.lens,x.block.imp id fun ⟨p,o,m,c,b,C,f,ro,h1,h0,h2,h3⟩=>⟨p,o,m,c,b,C,f,ro,h1,h0,hh _ _ h2,h3⟩⟩
theorem SliceAt.elem {h:Heap} {e:TypeId} {av:AV} {len:Nat} {cs:List AV} (x:SliceAt E h e 1 av len cs) (ha:isAggT E e=some false) {i:Nat} {v:AV} (hv:cs[i]? =some v):
 ∃p q,idxK E (some (.slice e)) (some av) (some (.int .i64 (i:Nat)))=some (.ptr p q)∧loadA E h e (.ptr p q)=some v:=by
 have hi:=(List.getElem?_eq_some_iff.1 hv).1
 have hl:cs.length=len:=by rw[x.cells,Nat.mul_one]
 rcases x.block with h0 | ⟨p,o,m,c,b,C,f,ro,h1,_,h2,h3⟩
 · omega
 · subst h1
   have hm:m=len:=by
    have:=x.lens
    rw[lenK_slice] at this
    simp only[Option.some.injEq,AV.int.injEq,true_and] at this
    omega
   refine ⟨p,o+i*1,idxK_slice x.size (by omega),?_⟩
   simp only[loadA,h2,partT,ha,Nat.mul_one]
   rw[h3 i hi,hv]
def nats (k:IntKind) (l:List Nat):List AV:=l.map fun (n:Nat)=> .int k (n:Int)
structure NatsAt (E:Env) (h:Heap) (k:IntKind) (e:TypeId) (av:AV) (l:List Nat):Prop where
 at_:SliceAt E h e 1 av l.length (nats k l)
 agg:isAggT E e=some false
 known:av= .nilslice∨∃p o n c b,av= .slice p o n c b∧(b=true→0<c)
theorem nats_get {k:IntKind} {l:List Nat} {i:Nat} {z:Nat} (h:l[i]? =some z):(nats k l)[i]? =some (.int k (z:Int)):=by simp [nats,h]
theorem NatsAt.elem {h:Heap} {k:IntKind} {e:TypeId} {av:AV} {l:List Nat} (x:NatsAt E h k e av l) {i:Nat} {z:Nat} (hz:l[i]? =some z):
 ∃p q,idxK E (some (.slice e)) (some av) (some (.int .i64 (i:Nat)))=some (.ptr p q)∧loadA E h e (.ptr p q)=some (.int k (z:Int)):=x.at_.elem x.agg (nats_get hz)
theorem NatsAt.len {h:Heap} {k:IntKind} {e:TypeId} {av:AV} {l:List Nat} (x:NatsAt E h k e av l):lenK (some (.slice e)) (some av)=some (.int .i64 (l.length:Nat)):=x.at_.lens
theorem nats_len (k:IntKind) (l:List Nat):(nats k l).length=l.length:=by simp [nats]
theorem NatsAt.small {h:Heap} {k:IntKind} {e:TypeId} {av:AV} {l:List Nat} (x:NatsAt E h k e av l):l.length<2^60:=x.at_.small
def Off (p:Nat) (av:AV):Prop:=∀o n c b,av≠ .slice p o n c b
theorem NatsAt.of {h:Heap} {k:IntKind} {e:TypeId} {l:List Nat} {p o c:Nat} {b:Bool} {C:List AV} {f:TypeId} {ro:Bool} (hs:sizeT E e=some 1) (ha:isAggT E e=some false) (hl:l.length<2^60) (hc:l.length≤c) (hb:b=true→0<c) (hg:h.get p=some (.cells C f ro))
 (hv:∀(i:Nat) z,l[i]? =some z→C[o+i]? =some (.int k (z:Int))):NatsAt E h k e (.slice p o l.length c b) l:=
 ⟨⟨hs,by rw[nats_len];omega,hl,rfl,.inr ⟨p,o,_,c,b,C,f,ro,rfl,hc,hg,fun j hj=>by
   rw[nats_len] at hj
   rw[hv j l[j] (List.getElem?_eq_getElem hj),nats_get (List.getElem?_eq_getElem hj)]⟩⟩,ha,.inr ⟨p,o,_,c,b,rfl,hb⟩⟩
theorem NatsAt.nil {h:Heap} {k:IntKind} {e:TypeId} (hs:sizeT E e=some 1) (ha:isAggT E e=some false):NatsAt E h k e .nilslice []:=
 ⟨⟨hs,rfl,by decide,rfl,.inl rfl⟩,ha,.inl rfl⟩
theorem NatsAt.inv {h:Heap} {k:IntKind} {e:TypeId} {l:List Nat} {p o n c:Nat} {b:Bool} (x:NatsAt E h k e (.slice p o n c b) l):n=l.length∧(l≠ []→l.length≤c∧∃C f ro,h.get p=some (.cells C f ro)∧∀(i:Nat) z,l[i]? =some z→C[o+i]? =some (.int k (z:Int))):=by
 have hn:n=l.length:=by
  have:=x.len
  rw[lenK_slice] at this
  simp only[Option.some.injEq,AV.int.injEq,true_and] at this
  omega
 refine ⟨hn,fun hne=>?_⟩
 rcases x.at_.block with h0 | ⟨p',o',m,c',b',C,f,ro,h1,h0,h2,h3⟩
 · exact absurd (List.length_eq_zero_iff.1 h0) hne
 · cases h1
   refine ⟨by omega,C,f,ro,h2,fun i z hz=>?_⟩
   rw[h3 i (by rw[nats_len];exact (List.getElem?_eq_some_iff.1 hz).1),nats_get hz]
theorem bounds_ok {len cap lo hi:Nat} (low high:Option AV) (hl:low=some (.int .i64 (lo:Nat))∨(low=none∧lo=0)) (hh:high=some (.int .i64 (hi:Nat))∨(high=none∧hi=len)) (h1:lo≤hi) (h2:hi≤cap):boundsA len cap low high none=some (lo,hi,cap):=by
 have b:∀(x y:Nat),x≤y→boundA (.int .i64 (x:Nat)) y=some x:=fun x y h=>by
  simp only[boundA]
  rw[if_pos ⟨by omega,by omega⟩,Int.toNat_natCast]
 unfold boundsA
 rcases hh with rfl | ⟨rfl,rfl⟩<;>rcases hl with rfl | ⟨rfl,rfl⟩<;>simp [b,h1,h2]
theorem NatsAt.slice {h:Heap} {k:IntKind} {e t:TypeId} {av:AV} {l:List Nat} (x:NatsAt E h k e av l) (ht:E.P.underlying t=some (.slice e)) {lo hi:Nat} (low high:Option AV) (hl:low=some (.int .i64 (lo:Nat))∨(low=none∧lo=0)) (hh:high=some (.int .i64 (hi:Nat))∨(high=none∧hi=l.length)) (h1:lo≤hi) (h2:hi≤l.length) (h3:l.length=0∨lo<l.length):
 ∃r,sliceA E t av low high none=some r∧NatsAt E h k e r ((l.take hi).drop lo)∧∀p,Off p av→Off p r:=by
 rcases x.known with rfl | ⟨p,o,n,c,b,rfl,hb⟩
 · have hl0:l.length=0:=by
    have:=x.len
    rw[lenK_nil] at this
    simp only[Option.some.injEq,AV.int.injEq,true_and] at this
    omega
   obtain rfl:=List.length_eq_zero_iff.1 hl0
   simp only[List.length_nil] at *
   have hhi:hi=0:=by omega
   subst hhi
   have hlo:lo=0:=by omega
   subst hlo
   refine ⟨.nilslice,?_,by simpa using x,fun p hp=>hp⟩
   simp only[sliceA,ht,x.at_.size,bounds_ok (len:=0) (cap:=0) low high hl hh (Nat.le_refl 0) (Nat.le_refl 0)]
 · obtain ⟨rfl,hx⟩:=x.inv
   have hlc:l.length≤c:=by
    by_cases hne:l=[]
    · subst hne;exact Nat.zero_le _
    · exact (hx hne).1
   have hr:∃o' c',sliceA E t (.slice p o l.length c b) low high none=some (.slice p o' (hi - lo) c' b)∧(b=true→0<c')∧hi - lo≤c'∧(hi - lo≠0→o'=o+lo):=by
    simp only[sliceA,ht,x.at_.size,hlc,if_true,bounds_ok (len:=l.length) (cap:=c) low high hl hh h1 (by omega)]
    by_cases hm:c=lo
    · have hb0:b=false:=by
       cases b with
       | false=>rfl
       | true=>have:=hb rfl;omega
      subst hb0
      rw[if_pos hm]
      exact ⟨o,c - lo,rfl,by simp,by omega,fun h=>by omega⟩
    · rw[if_neg hm]
      refine ⟨o+lo*1,c - lo,by simp,fun h=>by omega,by omega,fun h=>by omega⟩
   obtain ⟨o',c',e1,e2,e3,e4⟩:=hr
   refine ⟨_,e1,?_,fun q hq o' n' c' b' he=>by cases he;exact hq _ _ _ _ rfl⟩
   have hlen:((l.take hi).drop lo).length=hi - lo:=by simp;omega
   rw[←hlen]
   by_cases h0:hi - lo=0
   · have:(l.take hi).drop lo=[]:=List.length_eq_zero_iff.1 (by omega)
     rw[this]
     exact ⟨⟨x.at_.size,rfl,by decide,rfl,.inl rfl⟩,x.agg,.inr ⟨_,_,_,_,_,rfl,e2⟩⟩
   · have hne:l≠ []:=fun e=>by subst e;simp at h2;omega
     obtain ⟨_,C,f,ro,g1,g2⟩:=hx hne
     refine NatsAt.of x.at_.size x.agg (by have:=x.small;omega) (by omega) e2 g1 fun i z hz=>?_
     have hi':i<hi - lo:=by rw[←hlen];exact (List.getElem?_eq_some_iff.1 hz).1
     rw[e4 h0,Nat.add_assoc]
     apply g2
     rw[List.getElem?_drop,List.getElem?_take_of_lt (by omega)] at hz
     exact hz
structure Win (h:Heap) (av:AV) (p o n:Nat) (C:List AV) (f:TypeId):Prop where
 is:∃c b,av= .slice p o n c b∧n≤c
 get:h.get p=some (.cells C f false)
 fits:o+n≤C.length
theorem Win.len {h:Heap} {av:AV} {p o n:Nat} {C:List AV} {f e:TypeId} (w:Win h av p o n C f):lenK (some (.slice e)) (some av)=some (.int .i64 (n:Nat)):=by
 obtain ⟨c,b,rfl,_⟩:=w.is
 rfl
theorem Win.slice {h:Heap} {av:AV} {p o n:Nat} {C:List AV} {f e t:TypeId} (w:Win h av p o n C f) (hs:sizeT E e=some 1) (ht:E.P.underlying t=some (.slice e)) {lo hi:Nat} (low high:Option AV) (hl:low=some (.int .i64 (lo:Nat))∨(low=none∧lo=0)) (hh:high=some (.int .i64 (hi:Nat))∨(high=none∧hi=n)) (h1:lo≤hi) (h2:hi≤n) (h3:lo<n):
 ∃r,sliceA E t av low high none=some r∧Win h r p (o+lo) (hi - lo) C f:=by
 obtain ⟨c,b,rfl,hc⟩:=w.is
 have:=w.fits
 refine ⟨.slice p (o+lo) (hi - lo) (c - lo) b,?_,⟨⟨_,_,rfl,by omega⟩,w.get,by omega⟩⟩
 simp only[sliceA,ht,hs,hc,if_true,bounds_ok (len:=n) (cap:=c) low high hl hh h1 (by omega)]
 rw[if_neg (by omega)]
 simp
def Holds (k:IntKind) (C:List AV) (o:Nat) (l:List Nat):Prop:=∀(i z:Nat),l[i]? =some z→C[o+i]? =some (.int k (z:Int))
theorem Holds.behind {k:IntKind} {C:List AV} {o:Nat} {l ws:List Nat} (x:Holds k C o l) {i z:Nat} (hi:ws.length≤i) (hz:l[i]? =some z):(setFrom C o (nats k ws))[o+i]? =some (.int k (z:Int)):=by
 rw[setFrom_get,if_neg (by rw[nats_len];omega)]
 exact x i z hz
theorem Win.load {h:Heap} {av:AV} {p o n:Nat} {C:List AV} {f e:TypeId} {i:Nat} {v:AV} (w:Win h av p o n C f) (ha:isAggT E e=some false) (hv:C[o+i]? =some v):loadA E h e (.ptr p (o+i))=some v:=by
 simp only[loadA,w.get,partT,ha,hv]
theorem Win.nats {h:Heap} {av:AV} {p o n:Nat} {C:List AV} {f e:TypeId} {k:IntKind} {l:List Nat} (w:Win h av p o n C f) (hs:sizeT E e=some 1) (ha:isAggT E e=some false) (hn:l.length=n) (hsm:n<2^60) (x:Holds k C o l) (hb:∀c b,av= .slice p o n c b→b=true→0<c):NatsAt E h k e av l:=by
 obtain ⟨c,b,rfl,hc⟩:=w.is
 subst hn
 exact NatsAt.of hs ha hsm hc (hb c b rfl) w.get x
theorem Holds.of {k:IntKind} {C:List AV} {o:Nat} {l:List Nat} (hf:o+l.length≤C.length):Holds k (setFrom C o (nats k l)) o l:=fun i z hz=>by
 have hi:=(List.getElem?_eq_some_iff.1 hz).1
 rw[setFrom_get,if_pos ⟨by omega,by rw[nats_len];omega,by omega⟩,Nat.add_sub_cancel_left,nats_get hz]
end Go.Ab
end
section
namespace Go.Ab
variable {E:Env} {M0:Fa.Memo}
theorem Does.unique {call:CallF} {f:FuncId} {args:List AV} {h h1 h2:Heap} {v1 v2:AV} (a:Does E call f args h v1 h1) (b:Does E call f args h v2 h2):v1=v2∧h1=h2:=by
 obtain ⟨n,a⟩:=a
 obtain ⟨m,b⟩:=b
 have:=(a (n+m) (by omega)).symm.trans (b (n+m) (by omega))
 simpa using this
def AV.within (nx:Nat):Nat→AV→Bool
 | 0,_=>false
 | n+1,x=>match x with
   | .bool _ | .int .. | .str _ | .nilptr | .nilslice | .nilmap | .nilFunc | .nilIface | .zslice=>true
   | .ptr i _=>decide (i<nx)
   | .slice i _ _ _ _=>decide (i<nx)
   | .map i=>decide (i<nx)
   | .iface _ v=>AV.within nx n v
   | .agg cs=>cs.all (AV.within nx n)
   | .tuple cs=>cs.all (AV.within nx n)
   | _=>false
theorem VR.within {φ φ':Ph} {nx:Nat} (ho:∀i,i<nx→φ' i=φ i):∀(n:Nat) {x:AV} (_:AV.within nx n x=true) {y:Value},VR φ' x y→VR φ x y
 | 0,_,h,_,_=>by cases h
 | n+1,x,h,y,hv=>by
   have ih:= @VR.within φ φ' nx ho n
   cases hv with
   | bool b=>exact .bool b
   | int k m=>exact .int k m
   | str s=>exact .str s
   | nilptr=>exact .nilptr
   | nilslice=>exact .nilslice
   | nilmap=>exact .nilmap
   | nilFunc=>exact .nilFunc
   | nilIface=>exact .nilIface
   | zslice a c=>exact .zslice a c
   | ptr o hl=>rw[ho _ (of_decide_eq_true h)] at hl;exact .ptr o hl
   | slice o len cap op hl=>rw[ho _ (of_decide_eq_true h)] at hl;exact .slice o len cap op hl
   | map hl=>rw[ho _ (of_decide_eq_true h)] at hl;exact .map hl
   | iface t v v' h'=>exact .iface t v v' (ih (by simpa [AV.within] using h) h')
   | agg cs cs' hl hc=>
     refine .agg cs cs' hl fun i x y a b=>ih ?_ (hc i x y a b)
     simp only[AV.within,List.all_eq_true] at h
     exact h x (List.mem_of_getElem? a)
   | tuple cs cs' hl hc=>
     refine .tuple cs cs' hl fun i x y a b=>ih ?_ (hc i x y a b)
     simp only[AV.within,List.all_eq_true] at h
     exact h x (List.mem_of_getElem? a)
   | _=>cases h
theorem RetOK.forgetW {f:FuncId} {args:List AV} {h h':Heap} {v:AV} (r:RetOK E f args h v h') (hs:Has h h') (hv:AV.within h.nx 20 v=true):RetOK E f args h v h:=fun φ w vs ok hl=>by
 obtain ⟨h1,h2⟩:=r φ w vs ok hl
 refine ⟨h1,fun cs=>?_⟩
 obtain ⟨φ',w',v',fr,x1,x2,x3,x4⟩:=h2 cs
 exact ⟨φ,w',v',fr,x1.within x3.old 20 hv,ok.forget x3.ext x2 hs,x3.forget,x4⟩
open Classical in
noncomputable def callP (E:Env) (M0:Fa.Memo):Nat→CallF
 | 0=>tableC M0
 | d+1=>fun F args h=>match F with
   | .yld _=> .fail "" none
   | .fn f=>match M0 f args h with
     | some p=> .ret p.1 p.2
     | none=>
       if hx:∃v,∃h',Does E (callP E M0 d) f args h v h'∧Has h h'∧AV.within h.nx 20 v=true then .ret hx.choose h
       else if hy:∃p:AV×Heap,Does E (callP E M0 d) f args h p.1 p.2 then .ret hy.choose.1 hy.choose.2 else .fail "" none
theorem callP_OK (hE:EnvOK E) (hM:Fa.MemoOK E M0):∀d,CallOK E (callP E M0 d)
 | 0=>tableC_OK hM
 | d+1=>by
   have ih:=callP_OK hE hM d
   have key:∀{f:FuncId} {args:List AV} {h:Heap} {o:COut},callP E M0 (d+1) (.fn f) args h=o→(∃v h',o= .ret v h'∧RetOK E f args h v h')∨o= .fail "" none:=by
    intro f args h o e
    simp only[callP] at e
    split at e
    · rename_i p hp
      exact .inl ⟨_,_,e.symm,hM _ _ _ _ _ hp⟩
    · split at e
      · rename_i hx
        obtain ⟨h',⟨n,h1⟩,h2,h3⟩:=hx.choose_spec
        exact .inl ⟨_,_,e.symm,RetOK.forgetW ((stepA_sound hE n ih).1 _ _ _ _ _ (h1 n (Nat.le_refl n))) h2 h3⟩
      · split at e
        · rename_i hy
          obtain ⟨n,h1⟩:=hy.choose_spec
          exact .inl ⟨_,_,e.symm,(stepA_sound hE n ih).1 _ _ _ _ _ (h1 n (Nat.le_refl n))⟩
        · exact .inr e.symm
   refine ⟨fun F args h v h' e=>?_,fun F args h v h' e=>?_⟩
   · cases F with
     | yld l=>cases e
     | fn f=>
       rcases key e with ⟨w,k,h1,h2⟩ | h1
       · cases h1;exact h2.any
       · cases h1
   · cases F with
     | yld l=>cases e
     | fn f=>
       rcases key e with ⟨w,k,h1,h2⟩ | h1
       · cases h1
       · cases h1
theorem callP_pure {d:Nat} {f:FuncId} {args:List AV} {h h':Heap} {v:AV} (hm:M0 f args h=none) (hd:Does E (callP E M0 d) f args h v h') (hh:Has h h') (hv:AV.within h.nx 20 v=true):callP E M0 (d+1) (.fn f) args h= .ret v h:=by
 simp only[callP,hm]
 have hx:∃v,∃h',Does E (callP E M0 d) f args h v h'∧Has h h'∧AV.within h.nx 20 v=true:=⟨v,h',hd,hh,hv⟩
 rw[dif_pos hx]
 obtain ⟨k,h1,_,_⟩:=hx.choose_spec
 rw[(h1.unique hd).1]
theorem callP_ret {d:Nat} {f:FuncId} {args:List AV} {h h':Heap} {v:AV} (hm:M0 f args h=none) (hd:Does E (callP E M0 d) f args h v h') (hv:¬(Has h h'∧AV.within h.nx 20 v=true)):callP E M0 (d+1) (.fn f) args h= .ret v h':=by
 simp only[callP,hm]
 have hx:¬∃v,∃h',Does E (callP E M0 d) f args h v h'∧Has h h'∧AV.within h.nx 20 v=true:=by
  rintro ⟨w,k,h1,h2,h3⟩
  obtain ⟨rfl,rfl⟩:=h1.unique hd
  exact hv ⟨h2,h3⟩
 have hy:∃p:AV×Heap,Does E (callP E M0 d) f args h p.1 p.2:=⟨(v,h'),hd⟩
 rw[dif_neg hx,dif_pos hy]
 obtain ⟨h1,h2⟩:=hy.choose_spec.unique hd
 rw[h1,h2]
theorem callP_sound (hE:EnvOK E) (hM:Fa.MemoOK E M0) {d:Nat} {f:FuncId} {args:List AV} {h h':Heap} {v:AV} (e:callP E M0 d (.fn f) args h= .ret v h'):RetOK E f args h v h':=by
 cases d with
 | zero=>
   simp only[callP,tableC] at e
   split at e
   · rename_i p hp
     cases e
     exact hM _ _ _ _ _ hp
   · cases e
 | succ d=>
   simp only[callP] at e
   split at e
   · rename_i p hp
     cases e
     exact hM _ _ _ _ _ hp
   · split at e
     · rename_i hx
       cases e
       obtain ⟨h',⟨n,h1⟩,h2,h3⟩:=hx.choose_spec
       exact RetOK.forgetW ((stepA_sound hE n (callP_OK hE hM d)).1 _ _ _ _ _ (h1 n (Nat.le_refl n))) h2 h3
     · split at e
       · rename_i hy
         cases e
         obtain ⟨n,h1⟩:=hy.choose_spec
         exact (stepA_sound hE n (callP_OK hE hM d)).1 _ _ _ _ _ (h1 n (Nat.le_refl n))
       · cases e
end Go.Ab
end
section
namespace Go.Ab
variable {E:Env}
end Go.Ab
end
section
namespace Go.Ab
variable {E:Env} {M0:Fa.Memo}
structure Grow (h h':Heap):Prop where
 y:Tidy h'
 a:Has h h'
 n:h.nx≤h'.nx
theorem Grow.refl {h:Heap} (y:Tidy h):Grow h h:=⟨y,Has.refl h,Nat.le_refl _⟩
theorem Grow.trans {a b c:Heap} (x:Grow a b) (y:Grow b c):Grow a c:=⟨y.y,x.a.trans y.a,Nat.le_trans x.n y.n⟩
theorem callP_grow {d:Nat} {f:FuncId} {args:List AV} {h h':Heap} {v:AV} {P:Heap→Prop} (hm:M0 f args h=none) (hd:Does E (callP E M0 d) f args h v h') (y:Tidy h) (g:Grow h h') (p1:P h') (p2:AV.within h.nx 20 v=true→P h):
 ∃hk,callP E M0 (d+1) (.fn f) args h= .ret v hk∧Grow h hk∧P hk:=by
 by_cases hv:AV.within h.nx 20 v=true
 · exact ⟨h,callP_pure hm hd g.a hv,Grow.refl y,p2 hv⟩
 · exact ⟨h',callP_ret hm hd fun c=>hv c.2,g,p1⟩
def Kept (p:Nat) (h h':Heap):Prop:=∀i x,i≠p→h.get i=some x→h'.get i=some x
theorem Kept.store {h h':Heap} {t e:TypeId} {i o:Nat} {cs:List AV} {v:AV} (y:Tidy h) (s:storeA E h t (.ptr i o) v=some h') (g:h.get i=some (.cells cs e false)):Kept i h h':=fun _ _ hj gj=>store_keep y s g hj gj
theorem nats_scalar (k:IntKind) (l:List Nat):(nats k l).all AV.scalar=true:=by
 simp [nats,AV.scalar]
theorem NatsAt.lenA {h:Heap} {k:IntKind} {e:TypeId} {av:AV} {l:List Nat} (x:NatsAt E h k e av l):lenA av=some l.length:=by
 rcases x.known with rfl | ⟨p,o,n,c,b,rfl,_⟩
 · have:=x.len
   rw[lenK_nil] at this
   simp only[Option.some.injEq,AV.int.injEq,true_and] at this
   rw[show l.length=0 by omega];rfl
 · rw[x.inv.1];rfl
theorem NatsAt.first {h:Heap} {k:IntKind} {e:TypeId} {av:AV} {l:List Nat} (x:NatsAt E h k e av l):firstA h 1 l.length av=some (nats k l):=by
 by_cases hl:l=[]
 · subst hl
   rcases x.known with rfl | ⟨p,o,n,c,b,rfl,_⟩<;>simp [firstA,nats]
 rcases x.known with rfl | ⟨p,o,n,c,b,rfl,_⟩
 · have:=x.len
   rw[lenK_nil] at this
   simp only[Option.some.injEq,AV.int.injEq,true_and] at this
   exact absurd (List.length_eq_zero_iff.1 (show l.length=0 by omega)) hl
 · obtain ⟨rfl,h2⟩:=x.inv
   obtain ⟨_,C,f,ro,g,hv⟩:=h2 hl
   have hC:o+l.length≤C.length:=by
    have hp:0<l.length:=List.length_pos_iff.2 hl
    have:=hv (l.length - 1) _ (List.getElem?_eq_getElem (show l.length - 1<l.length by omega))
    have:=(List.getElem?_eq_some_iff.1 this).1
    omega
   have h0:¬l.length=0:=fun e=>hl (List.length_eq_zero_iff.1 e)
   simp only[firstA,Nat.le_refl,if_true,h0,if_false,g,Nat.mul_one,hC]
   refine congrArg some (List.ext_getElem? fun i=>?_)
   by_cases hi:i<l.length
   · rw[List.getElem?_take_of_lt hi,List.getElem?_drop,hv i _ (List.getElem?_eq_getElem hi),nats_get (List.getElem?_eq_getElem hi)]
   · rw[List.getElem?_eq_none (by simp;omega),List.getElem?_eq_none (by rw[nats_len];omega)]
theorem copy_ok {h:Heap} {k:IntKind} {e t:TypeId} {tys:Array TypeId} {d s:AV} {l:List Nat} {p o n:Nat} {C:List AV} {f:TypeId} (h0:tys[0]? =some t) (ht:E.P.underlying t=some (.slice e)) (hs:sizeT E e=some 1) (w:Win h d p o n C f) (x:NatsAt E h k e s l) (hn:l.length≤n):
 copyA E h tys d s=some (.int .i64 (l.length:Nat),h.put p (some (.cells (setFrom C o (nats k l)) f false))):=by
 obtain ⟨c,b,rfl,hc⟩:=w.is
 have hf:=w.fits
 have hfirst:firstA h 1 (min l.length n) s=some (nats k l):=by
  rw[Nat.min_eq_left hn];exact x.first
 simp only[copyA,h0,ht,x.lenA,hs,hfirst,w.get]
 rw[if_pos ⟨by rw[nats_len];omega,nats_scalar k l⟩,Nat.min_eq_left hn]
theorem append_nil {h:Heap} {k:IntKind} {e s xt:TypeId} {tys:Array TypeId} {bytes:Nat} {z x:AV} {m:List Nat} (h0:tys[0]? =some s) (h1:tys[1]? =some xt) (hs:E.P.underlying s=some (.slice e)) (hx:E.P.underlying xt=some (.slice e)) (hz1:sizeT E e=some 1) (hb:bytesT E e=some bytes) (hzz:zeroT E e=some z) (hz:z.cells.length=1) (h8:bytes≤15) (x1:NatsAt E h k e x m) (hm:m≠ []) (hl:m.length≤1073741824):
 ∃h',appendA E h tys .nilslice x=some (.slice h.nx 0 m.length m.length true,h')∧h.new (.cells (nats k m) e false)=some h':=by
 obtain ⟨h',n⟩:=new_ex (h:=h) (.cells (nats k m) e false)
 refine ⟨h',?_,n⟩
 have hn:¬m.length=0:=fun e=>hm (List.length_eq_zero_iff.1 e)
 have hbig:(4*m.length+4096)*(bytes+1)≤1099511627776:=Nat.le_trans (Nat.mul_le_mul (show 4*m.length+4096≤68719476736 by omega) (show bytes+1≤16 by omega)) (by decide)
 simp only[appendA,h0,h1,hs,hx,isIntD,hz1,hb,x1.lenA,x1.first,hzz,hz,nats_scalar,nats_len,Nat.mul_one,hn,hbig,n,if_true,if_false,and_self,Bool.false_eq_true]
end Go.Ab
end
section
namespace Go.Ab
variable {E:Env}
structure Pk (al:List Ans) (p0 ps:List Prop):Prop where
 ok:Conj p0→Conj ps
section
variable {al:List Ans} {p0 ps:List Prop}
theorem ZZ {p:List Prop}:Pk [] p p:=⟨id⟩
theorem CC (k:Pk al p0 ps):Pk (.c::al) p0 ps:=⟨k.ok⟩
def cs:Nat→List Ans→List Ans
 | 0,l=>l
 | n+1,l=> .c::cs n l
theorem CN (n:Nat) (k:Pk al p0 ps):Pk (cs n al) p0 ps:=⟨k.ok⟩
theorem HH {P:Prop} (h:P) (k:Pk al (P::p0) ps):Pk al p0 ps:=⟨fun c=>k.ok ⟨h,c⟩⟩
theorem VV {l:Option AV} {x:AV} (h:l=some x) (k:Pk al ((l=some x)::p0) ps):Pk (.v x::al) p0 ps:=⟨fun c=>k.ok ⟨h,c⟩⟩
theorem QQ {l:Option AV} {x:AV} (h:l=some x) (k:Pk al ((l=some x)::p0) ps):Pk (.q x::al) p0 ps:=⟨fun c=>k.ok ⟨h,c⟩⟩
theorem MM {l:Option AV} {x:AV} (h:l=some x) (k:Pk al ((l=some x)::p0) ps):Pk (.m x::al) p0 ps:=⟨fun c=>k.ok ⟨h,c⟩⟩
theorem TT (k:Pk al ((true=true)::p0) ps):Pk (.b true::al) p0 ps:=⟨fun c=>k.ok ⟨rfl,c⟩⟩
theorem FF (k:Pk al ((false=false)::p0) ps):Pk (.b false::al) p0 ps:=⟨fun c=>k.ok ⟨rfl,c⟩⟩
theorem BB {u v:Bool} (h:u=v) (k:Pk al ((u=v)::p0) ps):Pk (.b v::al) p0 ps:=⟨fun c=>k.ok ⟨h,c⟩⟩
theorem EE {call:CallF} {f:Fn} {args:List AV} {h h':Heap} {x:AV} (e:call f args h= .ret x h') (k:Pk al ((call f args h= .ret x h')::p0) ps):Pk (.e x h'::al) p0 ps:=⟨fun c=>k.ok ⟨e,c⟩⟩
theorem SS {h h':Heap} {t:TypeId} {a v:AV} (s:storeA E h t a v=some h') (k:Pk al ((AV.undef=AV.undef∧storeA E h t a v=some h')::p0) ps):Pk (.e AV.undef h'::al) p0 ps:=⟨fun c=>k.ok ⟨⟨rfl,s⟩,c⟩⟩
theorem PP {l:Option (AV×Heap)} {x:AV} {h':Heap} (e:l=some (x,h')) (k:Pk al ((l=some (x,h'))::p0) ps):Pk (.e x h'::al) p0 ps:=⟨fun c=>k.ok ⟨e,c⟩⟩
theorem NN {h h':Heap} {obj:AObj} (n:h.new obj=some h') (f:Nat→AV) (k:Pk al ((∃mk:Nat→AV,some (obj,f)=some (obj,mk)∧mk h.nx=f h.nx)::(h.new obj=some h')::p0) ps):Pk (.a obj (f h.nx) h'::al) p0 ps:=⟨fun c=>k.ok ⟨⟨f,rfl,rfl⟩,n,c⟩⟩
theorem LL {call:CallF} {b:Code} {s s':St} {e:AEx} (ev:Ev E call b s e s') (k:Pk al ((Ev E call b s e s')::p0) ps):Pk (.l e s'::al) p0 ps:=⟨fun c=>k.ok ⟨ev,c⟩⟩
end
@[irreducible] def endTs:R→List AV
  | .at _ s _ _=>s.ts
  | .bad=> []
theorem by_pk {call:CallF} {c:Code} {ts:List AV} {h h':Heap} {ds:List ADef} {rc:RC} {n:Nat} {e:AEx} {al:List Ans} {ps:List Prop} (k:Pk al [] ps) (hr:run E call n c ⟨ts,h,ds,rc⟩ al []= .at e ⟨endTs (run E call n c ⟨ts,h,ds,rc⟩ al []),h',ds,rc⟩ [] ps):Ev E call c ⟨ts,h,ds,rc⟩ e ⟨endTs (run E call n c ⟨ts,h,ds,rc⟩ al []),h',ds,rc⟩:=by_answers hr (k.ok trivial)
def rx (x:Nat→AV):Nat→Nat→List AV→List AV
 | _,0,l=>l
 | i,n+1,l=>x i::rx x (i+1) n l
def und:Nat→List AV
 | 0=> []
 | n+1=>AV.undef::und n
end Go.Ab
end
