import Derived.ChangeShapes
import Derived.ChangeStays
import Derived.ChangeBook
import Derived.ChangeOld
import Derived.ChangeAgain
import Derived.ChangeCalls
import Derived.Shelf.Strings.OnBuilder
import Derived.Test.YtfllahfbmaafcaaA6
set_option linter.unusedVariables false
set_option linter.unusedSimpArgs false
section
namespace Go.Ab
variable {E:Env} {call:bj} {n:Nat} {s:St}
def opK {α β:Type} (o:Option α) (f:α→β) (d:β):β:=match o with
 | some a=>f a
 | none=>d
noncomputable def KE (E:Env) (call:bj) (n:Nat) (o:Out) (b:Code):Out:=match o with
 | .ok .normal s=>exec E call n b s
 | r=>r
theorem zJ (s:St) (b:Code):KE E call n (.ok .normal s) b=exec E call n b s:=rfl
def RW (id:Nat) (o:Out):Out:=match o with
 | .ok (.exit PT) s'=>if PT=id then .ok .normal s' else .ok (.exit PT) s'
 | r=>r
theorem zK (i j:Nat) (s:St):RW i (.ok (.exit j) s)=if j=i then .ok .normal s else .ok (.exit j) s:=rfl
noncomputable def RX (E:Env) (call:bj) (n:Nat) (o:Option AV) (a b:Code) (s:St):Out:=match o with
 | some (.bool true)=>exec E call n a s
 | some (.bool false)=>exec E call n b s
 | _=> .fail "cond" none
theorem KQ (a b:Code):RX E call n (some (.bool true)) a b s=exec E call n a s:=rfl
theorem ID (a b:Code):RX E call n (some (.bool false)) a b s=exec E call n b s:=rfl
theorem Yr (a b:Code):exec E call (n+1) (.seq a b) s=KE E call n (exec E call n a s) b:=rfl
theorem RY (x:Operand) (a b:Code):exec E call (n+1) (.cond x a b) s=RX E call n (eh E s.ts x) a b s:=rfl
theorem AR (id:Nat) (b:Code):exec E call (n+1) (.block id b) s=RW id (exec E call n b s):=rfl
theorem RZ (b:Code):exec E call (n+1) (.loop b) s=KE E call n (exec E call n b s) (.loop b):=rfl
theorem R0 (i:Nat) (ops:Array Oper):exec E call (n+1) (.region i ops false) s=jO E call ops ops.toList s:=rfl
theorem Wu (i:Nat) (ops:Array Oper):exec E call (n+1) (.region i ops true) s=vY E call ops s:=rfl
noncomputable def ade (E:Env) (call:bj) (ops:Array Oper) (o:Oper) (rest:List Oper) (s:St):Out:=match dm E call s.ts s.h s.rc o with
 | .val v h'=>jO E call ops rest {s with ts:=dJ s.ts o.dst v,h:=h'}
 | .defer d=>jO E call ops rest {s with ts:=dJ s.ts o.dst AV.undef,ds:=d::s.ds}
 | .rq v=>jO E call ops rest {s with ts:=dJ s.ts o.dst v,rc:= .done}
 | .panic v h'=> .ok (.panic v) {s with h:=h'}
 | .fail why q=> .fail why q
noncomputable def adf (E:Env) (call:bj) (ops:Array Oper) (o:Oper) (rest:List Oper) (s:St):Out:=
 opK (et E s.ts o.op) (fun p=>opK (s.h.new p.1) (fun h'=>jO E call ops rest {s with ts:=dJ s.ts o.dst (p.2 s.h.nx),h:=h'}) (.fail "full" (some o))) (ade E call ops o rest s)
noncomputable def adg (E:Env) (call:bj) (ops:Array Oper) (o:Oper) (rest:List Oper) (s:St):Out:=
 opK (dS E s.ts s.h o.op) (fun v=>jO E call ops rest {s with ts:=dJ s.ts o.dst v}) (adf E call ops o rest s)
noncomputable def adh (E:Env) (call:bj) (ops:Array Oper) (v:Option AV) (o:Oper) (rest:List Oper) (s:St):Out:=opK v (fun v=>jO E call ops rest {s with ts:=dJ s.ts o.dst v}) (adg E call ops o rest s)
section
variable {ops:Array Oper} {rest:List Oper} {d:Option Tmp} {op:Op} {ty:TypeId} {pos:String} {aft:Array Edge} {g:Option (Nat×Bool)}
noncomputable def KH (E:Env) (call:bj) (ops:Array Oper) (w:Bool) (o:Oper) (rest:List Oper) (s:St):Out:=
 if w=true then adh E call ops (bF E s.ts o.op) o rest s else jO E call ops rest {s with ts:=dJ s.ts o.dst AV.undef}
end
theorem pZ (m:Nat) (a:List UInt8):AV.same (m+1) (.str a) (.str a)=true:=by simp [AV.same]
theorem aO (m:Nat) (k:IntKind) (a:Int):AV.same (m+1) (.int k a) (.int k a)=true:=by simp [AV.same]
theorem BJ (m i o l c:Nat) (b:Bool):AV.same (m+1) (.slice i o l c b) (.slice i o l c b)=true:=by simp [AV.same]
open Classical in
section
variable {ops:Array Oper} {rest:List Nat} {d:Option Tmp} {op:Op} {ty:TypeId} {pos:String} {aft:Array Edge} {g:Option (Nat×Bool)}
noncomputable def MX (E:Env) (call:bj) (ops:Array Oper) (r:Option St) (s:St):Out:=opK r (fun s'=> .ok .normal s') (vY E call ops s)
end
theorem wrap_i64 {n:Int} (h0: -9223372036854775808≤n) (h1:n<9223372036854775808):IntKind.i64.wrap n=n:=by
 show (if (true&&decide (n%2^64≥2^63))=true then n%2^64 - 2^64 else n%2^64)=n
 by_cases hn:n%2^64≥2^63
 · rw[if_pos (by rw[Bool.true_and];exact decide_eq_true hn)];omega
 · rw[if_neg (by rw[Bool.true_and];exact fun e=>hn (of_decide_eq_true e))];omega
noncomputable def Ik (E:Env) (fn:Func) (h:aw) (ts:List AV):iQ:=match jw E h ts fn.results.toList with
 | some vs=> .ret (fO vs) h
 | none=> .fail "results" none
theorem OO {fuel:Nat} {f:FuncId} {fn:Func} {c:Code} (hf:E.P.funcs[f]? =some fn) (hb:fn.body=some c) {args:List AV} {h h':aw} {ts:List AV} {x:h_} (hx:x= .normal∨x= .ret)
 (e:exec E call fuel c ⟨args++List.replicate (fn.ntmps - args.length) AV.undef,h,[],.no⟩= .ok x ⟨ts,h',[],.no⟩) {vs:List AV} (hr:jw E h' ts fn.results.toList=some vs):wK E call fuel f args h= .ret (fO vs) h':=by
 unfold wK
 simp only[hf,hb,mo,e]
 rcases hx with rfl | rfl<;>simp only[qN,cK,hr]
def BK (M:Fa.F'):bj:=fun F args h=>match F with
 | .fn f=>match M f args h with
   | some p=> .ret p.1 p.2
   | none=> .fail "" none
 | .uV _=> .fail "" none
theorem OP {M:Fa.F'} (hM:Fa.Ga E M):hF E (BK M):=by
 refine ⟨fun F args h v h' e=>?_,fun F args h v h' e=>?_⟩
 · cases F with
   | uV l=>cases e
   | fn f=>
     simp only[BK] at e
     cases hm:M f args h with
     | none=>rw[hm] at e;cases e
     | some p=>
       rw[hm] at e
       simp only[iQ.ret.injEq] at e
       obtain ⟨rfl,rfl⟩:=e
       exact (hM _ _ _ _ _ hm).any
 · cases F with
   | uV l=>cases e
   | fn f=>
     simp only[BK] at e
     cases hm:M f args h with
     | none=>rw[hm] at e;cases e
     | some p=>rw[hm] at e;cases e
def agy (E:Env) (x:Option (TypeId×Nat)) (v:Option AV):Option AV:=match x,v with
 | some (t,o),some (.ptr i off)=>match bZ E t with
   | some n=>if n=0 then none else some (.ptr i (off+o))
   | none=>none
 | _,_=>none
def cE (E:Env) (op:BinOp) (t:TypeId) (xc yc:Bool) (a b:Option AV):Option AV:=match a,b with
 | some a,some b=>jM E op t xc yc a b
 | _,_=>none
theorem Wv {ts:List AV} (op:BinOp) (t t':TypeId) (x y:Operand):bF E ts (.binOp op t x y t')=cE E op t (isConst x) (isConst y) (eh E ts x) (eh E ts y):=by
 simp only[bF,cE]
 cases eh E ts x<;>cases eh E ts y<;>rfl
theorem Na (t:TypeId) (c d:Bool) (k:IntKind) (a b:Int):cE E .add t c d (some (.int k a)) (some (.int k b))=some (.int k (k.wrap (a+b))):=by simp [cE,jM,cZ]
theorem Ww (t:TypeId) (c d:Bool) (k:IntKind) (a b:Int):cE E .sub t c d (some (.int k a)) (some (.int k b))=some (.int k (k.wrap (a - b))):=by simp [cE,jM,cZ]
theorem Wx (t:TypeId) (c d:Bool) (k:IntKind) (a b:Int):cE E .mul t c d (some (.int k a)) (some (.int k b))=some (.int k (k.wrap (a*b))):=by simp [cE,jM,cZ]
theorem Wy (t:TypeId) (c d:Bool) (k:IntKind) (a b:Int):cE E .eql t c d (some (.int k a)) (some (.int k b))=some (.bool (decide (a=b))):=by simp [cE,jM,cZ];rfl
theorem Wz (t:TypeId) (c d:Bool) (k:IntKind) (a b:Int):cE E .neq t c d (some (.int k a)) (some (.int k b))=some (.bool (!decide (a=b))):=by simp [cE,jM,cZ];rfl
theorem WA (t:TypeId) (c d:Bool) (k:IntKind) (a b:Int):cE E .lss t c d (some (.int k a)) (some (.int k b))=some (.bool (decide (a<b))):=by simp [cE,jM,cZ]
theorem WB (t:TypeId) (c d:Bool) (k:IntKind) (a b:Int):cE E .leq t c d (some (.int k a)) (some (.int k b))=some (.bool (decide (a≤b))):=by simp [cE,jM,cZ]
theorem WC (t:TypeId) (c d:Bool) (k:IntKind) (a b:Int):cE E .gtr t c d (some (.int k a)) (some (.int k b))=some (.bool (decide (b<a))):=by simp [cE,jM,cZ]
theorem WD (t:TypeId) (c d:Bool) (k:IntKind) (a b:Int):cE E .geq t c d (some (.int k a)) (some (.int k b))=some (.bool (decide (b≤a))):=by simp [cE,jM,cZ]
theorem R1 (t:TypeId) (c d:Bool) (a b:List UInt8):cE E .eql t c d (some (.str a)) (some (.str b))=some (.bool (decide (a=b))):=by
 simp only[cE,jM,uU,Option.some.injEq,AV.bool.injEq]
 exact Bool.eq_iff_iff.2 (by simp)
def unK (op:UnOp) (a:Option AV):Option AV:=match a with
 | some a=>unA op a
 | none=>none
def dy (E:Env) (d:Option TypeDesc) (v i:Option AV):Option AV:=match d,v,i with
 | some (.slice elem),some (.slice i o len _ _),some (.int _ n)=>match bZ E elem with
  | some size=>if 0≤n∧n<len then some (.ptr i (o+n.toNat*size)) else none
  | none=>none
 | some (.array len elem),some (.ptr i o),some (.int _ n)=>match bZ E elem with
  | some size=>if 0≤n∧n<len then some (.ptr i (o+n.toNat*size)) else none
  | none=>none
 | _,_,_=>none
theorem IE {ts:List AV} (t:TypeId) (x i:Operand):bF E ts (.indexAddr t x i)=dy E (E.P.underlying t) (eh E ts x) (eh E ts i):=by
 simp only[bF,dy]
 split<;>simp_all<;>(split<;>simp_all)
theorem cn {e:TypeId} {i o len c z:Nat} {b:Bool} {size:Nat} (hs:bZ E e=some size) (hz:z<len):dy E (some (.slice e)) (some (.slice i o len c b)) (some (.int .i64 (z:Int)))=some (.ptr i (o+z*size)):=by
 simp only[dy,hs]
 rw[if_pos ⟨by omega,by omega⟩,Int.toNat_natCast]
def dN (d:Option TypeDesc) (v:Option AV):Option AV:=match d,v with
 | some (.slice _),some .aN=>some (.int .i64 0)
 | some (.slice _),some (.slice _ _ n _ _)=>some (.int .i64 n)
 | some (.slice _),some .dQ=>some (.int .i64 0)
 | some .string,some (.str s)=>some (.int .i64 s.length)
 | some (.array n _),some _=>some (.int .i64 n)
 | some (.map _ _),some .dP=>some (.int .i64 0)
 | _,_=>none
theorem adi {ts:List AV} (x:Operand) (t:TypeId):bF E ts (.call ⟨.builtin .len, #[x], #[t]⟩)=dN (E.P.underlying t) (eh E ts x):=by
 simp only[bF,fI,eF,List.getElem?_toArray,List.getElem?_cons_zero]
 generalize eh E ts x=o
 cases o with
 | none=>
   generalize E.P.underlying t=u
   cases u with
   | none=>rfl
   | some d=>cases d<;>rfl
 | some v=>
   simp only
   generalize E.P.underlying t=u
   cases u with
   | none=>rfl
   | some d=>cases d<;>cases v<;>rfl
theorem aan {ts:List AV} {h:aw} (t:TypeId) (x:Operand):dS E ts h (.load t x)=opK (eh E ts x) (bE E h t) none:=by
 simp only[dS];cases eh E ts x<;>rfl
theorem fR (e:TypeId) (i o n c:Nat) (b:Bool):dN (some (.slice e)) (some (.slice i o n c b))=some (.int .i64 n):=rfl
theorem wN (e:TypeId):dN (some (.slice e)) (some .aN)=some (.int .i64 0):=rfl
theorem aao (e:TypeId):dN (some (.slice e)) (some .dQ)=some (.int .i64 0):=rfl
def Tidy (h:aw):Prop:=∀i o,h.get i=some o→i<h.nx
def qO (E:Env) (d:Option TypeDesc) (v i:Option AV):Option AV:=match d,v,i with
 | some (.array len elem),some (.agg cs),some (.int _ n)=>match bZ E elem with
  | some size=>if 0≤n∧n<len then gU E elem cs (n.toNat*size) else none
  | none=>none
 | some .string,some (.str s),some (.int _ n)=>if 0≤n then (match s[n.toNat]? with | some b=>some (.int .u8 b.toNat) | none=>none) else none
 | _,_,_=>none
theorem WE {ts:List AV} (t:TypeId) (x i:Operand):bF E ts (.index t x i)=qO E (E.P.underlying t) (eh E ts x) (eh E ts i):=by
 simp only[bF,qO]
 split
 · simp_all
   split<;>simp_all
 · rename_i s k n _ _ _
   simp_all
   cases s[n.toNat]? <;>rfl
 · simp_all
theorem R2 {s:List UInt8} {z:Nat} {b:UInt8} (h:s[z]? =some b):qO E (some .string) (some (.str s)) (some (.int .i64 (z:Int)))=some (.int .u8 b.toNat):=by
 simp only[qO]
 rw[if_pos (by omega),Int.toNat_natCast,h]
end Go.Ab
end
section
namespace Go.Ab
open Go.ChangeShapes Go.WideShapes Go.RowKit
variable {E:Env}
def wQ (h:aw):Prop:=∀i o,h.get i=some o→o.rw=false
theorem OK.show {φ:Ph} {h:aw} {w:World} (ok:OK E φ h w) (QG:wQ h) {b off:Nat} {cs:List AV} {e:TypeId} (eu:cs≠ []) (hz:∀m,cs≠ [.map m])
 (hC:∀(k:Nat) (x:AV),cs[k]? =some x→∃y,w.cell? ⟨b,off+k,none⟩=some y∧VR φ x y):
 ∃h',h.new (.cells cs e true)=some h'∧OK E (φ.add h.nx ⟨b,off,0⟩) h' w∧φ.le (φ.add h.nx ⟨b,off,0⟩)∧wQ h'∧h'.nx=h.nx+1∧h'.get h.nx=some (.cells cs e true)∧(∀j,j≠h.nx→h'.get j=h.get j)∧(φ.add h.nx ⟨b,off,0⟩) h.nx=some ⟨b,off,0⟩:=by
 obtain ⟨h',hn⟩:∃h',h.new (.cells cs e true)=some h':=by
  exact ⟨_,aw.E8 _ _⟩
 obtain ⟨j0,aap,A7,hold⟩:=aw.kQ hn
 have E_:φ h.nx=none:=by
  cases e:φ h.nx with
  | none=>rfl
  | some m=>exact absurd (ok.Ao _ _ e) (Nat.lt_irrefl _)
 have hle:φ.le (φ.add h.nx ⟨b,off,0⟩):=fun i m hm=>by
  unfold Ph.add;split
  · rename_i e;subst e;rw[E_] at hm;simp at hm
  · exact hm
 have jT:∀j,j≠h.nx→(φ.add h.nx ⟨b,off,0⟩) j=φ j:=fun j hj=>by simp [Ph.add,hj]
 have gH:(φ.add h.nx ⟨b,off,0⟩) h.nx=some ⟨b,off,0⟩:=by simp [Ph.add]
 have fP:∀j p,h'.get j=some p→(j=h.nx∧p= .cells cs e true)∨(j≠h.nx∧h.get j=some p):=fun j p hj=>by
  by_cases e:j=h.nx
  · subst e;rw[A7] at hj;simp at hj;exact .inl ⟨rfl,hj.symm⟩
  · rw[hold j e] at hj;exact .inr ⟨e,hj⟩
 have hlen:0<cs.length:=List.length_pos_iff.2 eu
 obtain ⟨y0,hy0,_⟩:=hC 0 cs[0] (by simp [hlen])
 obtain ⟨C,e',lo,hi,hw⟩:∃C e' lo hi,w.heap[b]? =some (.cells C e' (lo,hi)):=by
  unfold World.cell? at hy0
  split at hy0
  · rename_i C e' fz hw;obtain ⟨lo,hi⟩:=fz;exact ⟨C,e',lo,hi,hw⟩
  · cases hy0
 have D9:∀k,w.cell? ⟨b,off+k,none⟩=C[off+k]? :=fun k=>by simp [World.cell?,hw]
 refine ⟨h',hn,⟨fun i m hm=>?_,by rw[aap];exact Nat.le_succ_of_le ok.nx,fun g hg=>hle _ _ (ok.uW g hg),fun j p m hj hm=>?_,fun j k p q m n hj hk hm rE hw hb=>?_⟩,hle,fun j p hj=>?_,aap,A7,hold,gH⟩
 · rw[aap]
   by_cases e:i=h.nx
   · omega
   · rw[jT i e] at hm;have:=ok.Ao i m hm;omega
 · rcases fP j p hj with ⟨rfl,rfl⟩ | ⟨E',nD⟩
   · rw[gH] at hm;simp at hm;subst hm
     refine ⟨C,e',lo,hi,hw,⟨?_,fun k x hk=>?_,(fun h=>by cases h),fun _ m hm=>absurd hm (hz m)⟩,fun h=>by cases h⟩
     · obtain ⟨y,hy,_⟩:=hC (cs.length - 1) cs[cs.length - 1] (List.getElem?_eq_getElem (by omega))
       rw[D9] at hy
       have:=(Array.getElem?_eq_some_iff.1 hy).1
       simp only[fp,Nat.zero_mul]
       omega
     · obtain ⟨y,hy,hv⟩:=hC k x hk
       rw[D9] at hy
       exact ⟨y,hy,hv.mono hle⟩
   · rw[jT j E'] at hm
     exact (ok.live j p m nD hm).mono hle
 · rcases fP j p hj with ⟨rfl,rfl⟩ | ⟨agz,nD⟩<;>rcases fP k q hk with ⟨rfl,rfl⟩ | ⟨agA,DM⟩
   · rfl
   · rw[QG k q DM] at hw;rcases hw with h | h<;>cases h
   · rw[QG j p nD] at hw;rcases hw with h | h<;>cases h
   · rw[jT j agz] at hm;rw[jT k agA] at rE;exact ok.inj _ _ _ _ _ _ nD DM hm rE hw hb
 · rcases fP j p hj with ⟨_,rfl⟩ | ⟨_,nD⟩
   · rfl
   · exact QG j p nD
theorem wQ.begin {G:Nat} {l:List Wt}:wQ (kW G l):=fun i o h=>by
 obtain ⟨x,_,_,rfl⟩:=qM h;rfl
theorem Gb {f:FuncId} {avs:List AV} {h h':aw} (r:kD E f avs h (.bool true) h') {φ:Ph} {w:World} {vs:List Value} (ok:OK E φ h w) (hl:LR φ avs vs) (QG:wQ h):
 Calls E.P f vs.toArray w fun en w'=>en= .returned (.bool true)∧w.keptBut w' (fun _=>False):=fun cs=>by
 obtain ⟨_,ir⟩:=r φ w vs ok hl
 obtain ⟨φ',w',v',fr,hv,_,nG,h1,h2,h3⟩:=ir cs
 cases hv
 refine ⟨.returned (.bool true),w',fr,⟨rfl,nG.os,nG.output,fun i hi=>?_⟩,h1,h2,h3⟩
 rw[nG.Ap i hi (fun j o l' q1 q2 _=>by rw[QG j o q1] at q2;cases q2)]
 cases w.heap[i]? with
 | none=>rfl
 | some o=>cases o with
   | cells c t fz=>exact ⟨rfl,rfl,rfl,fun _ _=>rfl⟩
   | map es c=>exact .inr ⟨rfl,rfl⟩
   | _=>rfl
section
variable {H:Type} {enc:TypeId×Value→H} {w:World} {base:Nat} {spare:Nat→Bool} {held:Bool} {fuel:Nat} {t:TypeId} {x:DataW H×List MemPlace}
end
section
variable {H:Type} {enc:TypeId×Value→H} {P:Program} {w w':World}
theorem BL (hk:w.keptBut w' (fun _=>False)) {p:MemPlace} (hp:p.block<w.heap.size):w.sameAt w' p:=by
 have h:=hk.block hp (fun _ h=>h.elim)
 cases p with
 | cell b off=>simp only[World.sameAt,World.cell?];rw[show w'.heap[b]? =w.heap[b]? from h]
 | map b=>exact h
theorem D_ (hl:laidOutB P=true) (hk:w.keptBut w' (fun _=>False)):∀{ts:List TypeId} {vs:List Value} {ds:List (DataW H)} {ps:List MemPlace},(∀t∈ts,P.readableRec t=true∧t<P.types.size)→
 DataW.TrodAll enc P w 0 (fun _=>true) true ts vs ds ps→DataW.TrodAll enc P w' 0 (fun b=>decide (b<w.heap.size)) true ts vs ds ps
 | [],vs,ds,ps,_,h=>by
   obtain ⟨rfl,rfl,rfl⟩:=trodAll_nil h
   exact trodAll_mk0
 | t::ts,vs,ds,ps,hr,h=>by
   have j0:=DataW.TrodAll.lt h
   obtain ⟨v,qx,d,yv,p,p',rfl,rfl,rfl,⟨n,h1⟩,h2⟩:=trodAll_cons h
   obtain ⟨h3,h4⟩:=hr t (by simp)
   refine trodAll_cons_mk ⟨n,?_⟩ (D_ hl hk (fun t ht=>hr t (by simp [ht])) h2)
   exact DataW.trod_stays (kids_book hl h3) (book_sized h3) (fun h=>by cases h) ⟨h4,book_self t⟩ h1 (fun q hq=>BL hk (j0 q (by simp [hq]))) (fun q hq=>by simpa using j0 q (by simp [hq]))
end
end Go.Ab
end
section
namespace Go.Ab
variable {E:Env}
end Go.Ab
end
section
namespace Go.Ab
variable {E:Env} {call:bj}
def Ev (E:Env) (call:bj) (c:Code) (s:St) (e:h_) (s':St):Prop:=∃n0,∀n,n0≤n→exec E call n c s= .ok e s'
theorem Ev.of {c:Code} {s:St} {e:h_} {s':St} (h:∀n,exec E call (n+1) c s= .ok e s'):Ev E call c s e s':=⟨1,fun n hn=>by
 obtain ⟨k,rfl⟩:∃k,n=k+1:=⟨n - 1,by omega⟩
 exact h k⟩
theorem Ev.seq {a b:Code} {s s1 s':St} {e:h_} (h1:Ev E call a s .normal s1) (h2:Ev E call b s1 e s'):Ev E call (.seq a b) s e s':=by
 obtain ⟨n1,h1⟩:=h1
 obtain ⟨n2,h2⟩:=h2
 refine ⟨n1+n2+1,fun n hn=>?_⟩
 obtain ⟨k,rfl⟩:∃k,n=k+1:=⟨n - 1,by omega⟩
 rw[Yr,h1 k (by omega),zJ]
 exact h2 k (by omega)
theorem Ev.seq' {a b:Code} {s s':St} {e:h_} (he:e≠ .normal) (h1:Ev E call a s e s'):Ev E call (.seq a b) s e s':=by
 obtain ⟨n1,h1⟩:=h1
 refine ⟨n1+1,fun n hn=>?_⟩
 obtain ⟨k,rfl⟩:∃k,n=k+1:=⟨n - 1,by omega⟩
 rw[Yr,h1 k (by omega)]
 cases e with
 | normal=>exact absurd rfl he
 | _=>rfl
theorem Ev.loop {b:Code} {s s1 s':St} {e:h_} (h1:Ev E call b s .normal s1) (h2:Ev E call (.loop b) s1 e s'):Ev E call (.loop b) s e s':=by
 obtain ⟨n1,h1⟩:=h1
 obtain ⟨n2,h2⟩:=h2
 refine ⟨n1+n2+1,fun n hn=>?_⟩
 obtain ⟨k,rfl⟩:∃k,n=k+1:=⟨n - 1,by omega⟩
 rw[RZ,h1 k (by omega),zJ]
 exact h2 k (by omega)
theorem Ev.exit {b:Code} {s s':St} {e:h_} (he:e≠ .normal) (h1:Ev E call b s e s'):Ev E call (.loop b) s e s':=by
 obtain ⟨n1,h1⟩:=h1
 refine ⟨n1+1,fun n hn=>?_⟩
 obtain ⟨k,rfl⟩:∃k,n=k+1:=⟨n - 1,by omega⟩
 rw[RZ,h1 k (by omega)]
 cases e with
 | normal=>exact absurd rfl he
 | _=>rfl
theorem Ev.ret {b:Code} {s s':St} (h1:Ev E call b s .ret s'):Ev E call (.loop b) s .ret s':=Ev.exit (by simp) h1
theorem Ev.out {b:Code} {s s':St} {i:Nat} (h1:Ev E call b s (.exit i) s'):Ev E call (.loop b) s (.exit i) s':=Ev.exit (by simp) h1
inductive mX where
 | c
 | v (x:AV)
 | q (x:AV)
 | m (x:AV)
 | n (h:aw)
 | a (obj:aR) (x:AV) (h:aw)
 | e (x:AV) (h:aw)
 | p (x:AV) (h:aw)
 | b (x:Bool)
 | l (e:h_) (s:St)
def lG:List Prop→Prop
 | []=>True
 | p::ps=>p∧lG ps
inductive R where
 | bad
 | at (e:h_) (s:St) (as_:List mX) (ps:List Prop)
def R.go (k:St→List mX→List Prop→R):R→R
 | .at .normal s as_ ps=>k s as_ ps
 | r=>r
theorem R.adj {k:St→List mX→List Prop→R} {r:R} {e:h_} {s:St} {as_:List mX} {ps:List Prop} (h:r.go k= .at e s as_ ps):(∃s1 rI p_,r= .at .normal s1 rI p_∧k s1 rI p_= .at e s as_ ps)∨(r= .at e s as_ ps∧e≠ .normal):=by
 unfold R.go at h
 split at h
 · exact .inl ⟨_,_,_,rfl,h⟩
 · rename_i eu
   refine .inr ⟨h,fun he=>?_⟩
   subst he;exact eu _ _ _ h
def adk (E:Env) (ts:List AV):List Operand→List TypeId→Option AV
 | [x],[t]=>dN (E.P.underlying t) (eh E ts x)
 | _,_=>none
def zL (c a b:Option AV):Option AV:=match c with
 | some (.bool true)=>a
 | some (.bool false)=>b
 | _=>none
theorem WG {ts:List AV} (c a b:Operand):bF E ts (.pick c a b)=zL (eh E ts c) (eh E ts a) (eh E ts b):=by
 simp only[bF]
 generalize eh E ts c=x
 cases x with
 | none=>rfl
 | some v=>cases v with
   | bool b=>cases b<;>rfl
   | _=>rfl
theorem R3 {c:Bool} {a b:Option AV} (h:c=true):zL (some (.bool c)) a b=a:=by rw[h];rfl
theorem a_ {c:Bool} {a b:Option AV} (h:c=false):zL (some (.bool c)) a b=b:=by rw[h];rfl
def WH (E:Env) (ts:List AV) (op:Op):Option AV:=match op with
 | .indexAddr t x i=>dy E (E.P.underlying t) (eh E ts x) (eh E ts i)
 | .index t x i=>qO E (E.P.underlying t) (eh E ts x) (eh E ts i)
 | .binOp op t x y _=>cE E op t (isConst x) (isConst y) (eh E ts x) (eh E ts y)
 | .pick c a b=>zL (eh E ts c) (eh E ts a) (eh E ts b)
 | .call c=>match c.callee with
   | .builtin .len=>adk E ts c.args.toList c.argTypes.toList
   | _=>none
 | _=>none
theorem BN {α:Type} {a:Array α} {l:List α} (h:a.toList=l):a=l.toArray:=by rw[←h]
theorem Nb {ts:List AV} {op:Op} {v:AV} (e:WH E ts op=some v):bF E ts op=some v:=by
 unfold WH at e
 split at e
 · rw[←IE] at e;exact e
 · rw[←WE] at e;exact e
 · rename_i o t x y t';exact (Wv o t t' x y).trans e
 · rename_i c a b;exact (WG c a b).trans e
 · rename_i c
   obtain ⟨cl,args,tys⟩:=c
   simp only at e
   split at e
   · unfold adk at e
     split at e
     · rename_i x t hx ht
       rw[BN hx,BN ht]
       exact (adi x t).trans e
     · cases e
   · cases e
 · cases e
noncomputable def R4 (E:Env) (ts:List AV) (h:aw) (op:Op):Option AV:=match op with
 | .load t x=>opK (eh E ts x) (bE E h t) none
 | op=>dS E ts h op
theorem Gc {ts:List AV} {h:aw} {op:Op} {v:AV} (e:R4 E ts h op=some v):dS E ts h op=some v:=by
 unfold R4 at e
 split at e
 · rw[aan];exact e
 · exact e
def Nc (E:Env) (d:Option TypeDesc) (l c:Option AV):Option (aR×(Nat→AV)):=match d,l,c with
 | some (.slice elem),some (.int _ len),some (.int _ cap)=>match bZ E elem,fm E elem,ff E elem with
   | some n,some bytes,some z=>
     if 0≤len∧len≤cap∧cap<2^30∧(bytes:Int)*cap≤2^47∧z.cells.length=n then
      some (.cells (eB z.cells cap.toNat) elem false,fun i=> .slice i 0 len.toNat cap.toNat false)
     else none
   | _,_,_=>none
 | _,_,_=>none
def WI (E:Env) (ts:List AV) (op:Op):Option (aR×(Nat→AV)):=match op with
 | .makeSlice t l c=>Nc E (E.P.underlying t) (eh E ts l) (eh E ts c)
 | op=>et E ts op
theorem Nd (ts:List AV) (op:Op):WI E ts op=et E ts op:=by
 unfold WI
 split
 · rename_i t l c
   simp only[et]
   generalize E.P.underlying t=d
   generalize eh E ts l=x
   generalize eh E ts c=y
   rfl
 · rfl
noncomputable def WJ (E:Env) (call:bj) (ts:List AV) (h:aw) (rc:RC) (o:Oper) (x:AV) (h':aw):Prop:=match o.op with
 | .store t a v=>match eh E ts a,eh E ts v with
   | some a,some v=>x=AV.undef∧eG E h t a v=some h'
   | _,_=>False
 | .call c=>match c.callee with
   | .builtin .append=>match fI E ts c.args.toList with
     | some [s,y]=>bR E h c.argTypes s y=some (x,h')
     | _=>False
   | .builtin .copy=>match fI E ts c.args.toList with
     | some [s,y]=>uy E h c.argTypes s y=some (x,h')
     | _=>False
   | .value _=>match callee E ts c with
     | some (f,args)=>match ju E f with
       | some g=>g args h=some (x,h')
       | none=>call f args h= .ret x h'
     | none=>False
   | _=>dm E call ts h rc o= .val x h'
 | .convert src dst y=>DJ E h src dst (eh E ts y)=some (x,h')
 | _=>dm E call ts h rc o= .val x h'
theorem Nf {ts:List AV} {h:aw} {rc:RC} {o:Oper} {x:AV} {h':aw} (e:WJ E call ts h rc o x h'):dm E call ts h rc o= .val x h':=by
 unfold WJ at e
 split at e
 · rename_i t a v ho
   split at e
   · rename_i a' v' h1 h2
     obtain ⟨rfl,e⟩:=e
     unfold dm
     simp only[ho,h1,h2,e]
   · exact e.elim
 · rename_i c ho
   split at e
   · rename_i hc
     split at e
     · rename_i h1
       unfold dm
       simp only[ho,hc,h1,e]
     · exact e.elim
   · rename_i hc
     split at e
     · rename_i h1
       unfold dm
       simp only[ho,hc,h1,e]
     · exact e.elim
   · rename_i hc
     split at e
     · rename_i h1
       split at e
       · rename_i h2
         unfold dm
         simp only[ho,hc,h1,h2,e]
       · rename_i h2
         unfold dm
         simp only[ho,hc,h1,h2,e]
     · exact e.elim
   · exact e
 · rename_i src dst y ho
   unfold dm
   simp only[ho,e]
 · exact e
def OQ {β:Type} (k:List AV→β):List AV→Nat→AV→β
 | [],_,_=>k []
 | _::xs,0,v=>k (v::xs)
 | x::xs,d+1,v=>OQ (fun ys=>k (x::ys)) xs d v
theorem Ge {β:Type}:∀(k:List AV→β) (ts:List AV) (d:Nat) (v:AV),OQ k ts d v=k (ts.set d v)
 | k,[],_,_=>by simp [OQ]
 | k,_::xs,0,v=>rfl
 | k,x::xs,d+1,v=>by rw[OQ,Ge];rfl
def sA (s:St) (d:Option Tmp) (v:AV) (h:aw) (as_:List mX) (ps:List Prop):R:=match d with
 | some i=>OQ (fun ts=> .at .normal ⟨ts,h,s.ds,s.rc⟩ as_ ps) s.ts i v
 | none=> .at .normal ⟨s.ts,h,s.ds,s.rc⟩ as_ ps
theorem my (s:St) (d:Option Tmp) (v:AV) (h:aw) (as_:List mX) (ps:List Prop):Go.Ab.sA s d v h as_ ps= .at .normal {s with ts:=dJ s.ts d v,h:=h} as_ ps:=by
 cases d with
 | none=>rfl
 | some i=>exact Ge _ _ _ _
noncomputable def IF (E:Env) (call:bj) (o:Oper) (s:St) (as_:List mX) (ps:List Prop):R:=match as_ with
 | .c::as_=>match bF E s.ts o.op with
   | some v=>sA s o.dst v s.h as_ ps
   | none=> .bad
 | .v x::as_=>sA s o.dst x s.h as_ ((WH E s.ts o.op=some x)::ps)
 | .q x::as_=>sA s o.dst x s.h as_ ((bF E s.ts o.op=some x)::ps)
 | .m x::as_=>match bF E s.ts o.op with
   | none=>sA s o.dst x s.h as_ ((R4 E s.ts s.h o.op=some x)::ps)
   | some _=> .bad
 | .n h'::as_=>match bF E s.ts o.op,dS E s.ts s.h o.op,et E s.ts o.op with
   | none,none,some (obj,mk)=>sA s o.dst (mk s.h.nx) h' as_ ((s.h.new obj=some h')::ps)
   | _,_,_=> .bad
 | .a obj x h'::as_=>match bF E s.ts o.op,dS E s.ts s.h o.op with
   | none,none=>sA s o.dst x h' as_ ((∃mk,WI E s.ts o.op=some (obj,mk)∧mk s.h.nx=x)::(s.h.new obj=some h')::ps)
   | _,_=> .bad
 | .e x h'::as_=>match bF E s.ts o.op,dS E s.ts s.h o.op,et E s.ts o.op with
   | none,none,none=>sA s o.dst x h' as_ (WJ E call s.ts s.h s.rc o x h'::ps)
   | _,_,_=> .bad
 | .p x h'::as_=>match bF E s.ts o.op,dS E s.ts s.h o.op,et E s.ts o.op with
   | none,none,none=> .at (.panic x) {s with h:=h'} as_ ((dm E call s.ts s.h s.rc o= .panic x h')::ps)
   | _,_,_=> .bad
 | _=> .bad
theorem zM {o:Oper} {s:St} {as_:List mX} {ps:List Prop} {e:h_} {s':St} {uc:List mX} {qn:List Prop} (hr:IF E call o s as_ ps= .at e s' uc qn) (hp:lG qn):lG ps∧E6 E call s o= .ok e s':=by
 have seen:∀{x:AV},(bF E s.ts o.op=some x∨(bF E s.ts o.op=none∧dS E s.ts s.h o.op=some x))→E6 E call s o= .ok .normal {s with ts:=dJ s.ts o.dst x}:=by
  rintro x (h | ⟨h1,h2⟩)<;>unfold E6
  · rw[h]
  · rw[h1,h2]
 unfold IF at hr
 split at hr
 · split at hr
   · rename_i v hv
     rw[my] at hr;cases hr
     exact ⟨hp,seen (.inl hv)⟩
   · cases hr
 · rw[my] at hr;cases hr
   exact ⟨hp.2,seen (.inl (Nb hp.1))⟩
 · rw[my] at hr;cases hr
   exact ⟨hp.2,seen (.inl hp.1)⟩
 · split at hr
   · rename_i h1
     rw[my] at hr;cases hr
     exact ⟨hp.2,seen (.inr ⟨h1,Gc hp.1⟩)⟩
   · cases hr
 · split at hr
   · rename_i h1 h2 h3
     rw[my] at hr;cases hr
     refine ⟨hp.2,?_⟩
     unfold E6
     simp only[h1,h2,h3,hp.1]
   · cases hr
 · split at hr
   · rename_i h1 h2
     rw[my] at hr;cases hr
     obtain ⟨⟨mk,h3,h4⟩,h5,hp⟩:=hp
     rw[Nd] at h3
     refine ⟨hp,?_⟩
     unfold E6
     simp only[h1,h2,h3,h4,h5]
   · cases hr
 · split at hr
   · rename_i h1 h2 h3
     rw[my] at hr;cases hr
     refine ⟨hp.2,?_⟩
     unfold E6
     simp only[h1,h2,h3,Nf hp.1]
   · cases hr
 · split at hr
   · rename_i h1 h2 h3
     cases hr
     refine ⟨hp.2,?_⟩
     unfold E6
     simp only[h1,h2,h3,hp.1]
   · cases hr
 · cases hr
inductive Gd where
 | yes
 | no
 | ask (v want:Bool)
def IG (want:Bool):Option AV→Gd
 | some (.bool v)=> .ask v want
 | _=> .no
def Gg (ops:Array Oper) (ts:List AV) (g:Option (Nat×Bool)):Gd:=match g with
 | none=> .yes
 | some (j,want)=>match (ops[j]?).bind (·.dst) with
   | none=> .no
   | some d=>IG want ts[d]?
theorem Ea (ops:Array Oper) (ts:List AV) (o:Oper):cz ops ts o=(match Gg ops ts o.guard with
 | .yes=>true
 | .no=>false
 | .ask v want=>v==want):=by
 unfold cz Gg
 cases o.guard with
 | none=>rfl
 | some q=>
   obtain ⟨j,want⟩:=q
   simp only
   cases (ops[j]?).bind (·.dst) with
   | none=>rfl
   | some d=>
     simp only
     generalize ts[d]? =y
     unfold IG
     cases y with
     | none=>rfl
     | some z=>cases z<;>rfl
noncomputable def pB (E:Env) (call:bj) (ops:Array Oper):List Oper→St→List mX→List Prop→R
 | [],s,as_,ps=> .at .normal s as_ ps
 | o::rest,s,as_,ps=>match Gg ops s.ts o.guard with
   | .yes=>(IF E call o s as_ ps).go (pB E call ops rest)
   | .no=>(sA s o.dst AV.undef s.h as_ ps).go (pB E call ops rest)
   | .ask v want=>match as_ with
     | .b x::as_=>bif x==want then (IF E call o s as_ ((v=x)::ps)).go (pB E call ops rest) else (sA s o.dst AV.undef s.h as_ ((v=x)::ps)).go (pB E call ops rest)
     | _=> .bad
theorem wR {ops:Array Oper}:∀(l:List Oper) (s:St) (as_:List mX) (ps:List Prop) (e:h_) (s':St) (uc:List mX) (qn:List Prop),pB E call ops l s as_ ps= .at e s' uc qn→lG qn→lG ps∧jO E call ops l s= .ok e s'
 | [],s,as_,ps,e,s',uc,qn,hr,hp=>by cases hr;exact ⟨hp,rfl⟩
 | o::rest,s,as_,ps,e,s',uc,qn,hr,hp=>by
   have ih:=wR (ops:=ops) rest
   have aaq:∀(rI:List mX) (p_:List Prop),(IF E call o s rI p_).go (pB E call ops rest)= .at e s' uc qn→lG p_∧(cz ops s.ts o=true→jO E call ops (o::rest) s= .ok e s'):=by
    intro rI p_ h
    rcases R.adj h with ⟨s1,PU,Qi,h1,h2⟩ | ⟨h1,eu⟩
    · obtain ⟨h3,h4⟩:=ih _ _ _ _ _ _ _ h2 hp
      obtain ⟨h5,h6⟩:=zM h1 h3
      refine ⟨h5,fun hw=>?_⟩
      unfold jO
      rw[if_pos hw,h6];exact h4
    · obtain ⟨h5,h6⟩:=zM h1 hp
      refine ⟨h5,fun hw=>?_⟩
      unfold jO
      rw[if_pos hw,h6]
      cases e with
      | normal=>exact absurd rfl eu
      | _=>rfl
   have aar:∀(rI:List mX) (p_:List Prop),(sA s o.dst AV.undef s.h rI p_).go (pB E call ops rest)= .at e s' uc qn→lG p_∧(cz ops s.ts o=false→jO E call ops (o::rest) s= .ok e s'):=by
    intro rI p_ h
    rw[my] at h
    obtain ⟨h3,h4⟩:=ih _ _ _ _ _ _ _ (show pB E call ops rest _ rI p_=_ from h) hp
    refine ⟨h3,fun hw=>?_⟩
    unfold jO
    rw[if_neg (by rw[hw];exact Bool.false_ne_true)]
    exact h4
   have hg:=Ea ops s.ts o
   unfold pB at hr
   split at hr
   · rename_i h1;rw[h1] at hg;exact ⟨(aaq _ _ hr).1,(aaq _ _ hr).2 hg⟩
   · rename_i h1;rw[h1] at hg;exact ⟨(aar _ _ hr).1,(aar _ _ hr).2 hg⟩
   · rename_i v want h1
     rw[h1] at hg
     split at hr
     · rename_i x rI
       cases hx:x==want with
       | true=>
         rw[hx] at hr
         obtain ⟨⟨h2,h3⟩,h4⟩:=aaq _ _ hr
         exact ⟨h3,h4 (by rw[hg,h2];exact hx)⟩
       | false=>
         rw[hx] at hr
         obtain ⟨⟨h2,h3⟩,h4⟩:=aar _ _ hr
         exact ⟨h3,h4 (by rw[hg,h2];exact hx)⟩
     · cases hr
inductive RT where
 | bad
 | ok (tr:List Step) (hs:List aw) (s:St) (as_:List mX) (ps:List Prop)
def RT.step (x:Step):RT→RT
 | .ok tr hs s as_ ps=> .ok (x::tr) hs s as_ ps
 | .bad=> .bad
def RT.bound (x:Step) (h:aw):RT→RT
 | .ok tr hs s as_ ps=> .ok (x::tr) (h::hs) s as_ ps
 | .bad=> .bad
def RT.put (s:St) (d:Option Tmp) (v:AV) (h:aw) (k:St→RT):RT:=match d with
 | some i=>OQ (fun ts=>k ⟨ts,h,s.ds,s.rc⟩) s.ts i v
 | none=>k ⟨s.ts,h,s.ds,s.rc⟩
theorem RT.put_eq (s:St) (d:Option Tmp) (v:AV) (h:aw) (k:St→RT):RT.put s d v h k=k {s with ts:=dJ s.ts d v,h:=h}:=by
 cases d with
 | none=>rfl
 | some i=>exact Ge _ _ _ _
noncomputable def IH (E:Env) (call:bj) (i k:Nat) (o:Oper) (s:St) (as_:List mX) (ps:List Prop) (go:Nat→St→List mX→List Prop→RT):RT:=match as_ with
 | .e x h'::as_=>(RT.put s o.dst x h' fun s'=>go (k+1) s' as_ (WJ E call s.ts s.h s.rc o x h'::ps)).bound ⟨i,k,s.ts,x,.ub h'⟩ s.h
 | _=> .bad
noncomputable def II (E:Env) (i k:Nat) (o:Oper) (s:St) (as_:List mX) (ps:List Prop) (go:Nat→St→List mX→List Prop→RT):RT:=match as_ with
 | .c::as_=>match bF E s.ts o.op with
   | some v=>(RT.put s o.dst v s.h fun s'=>go k s' as_ ps).step ⟨i,k,s.ts,v,.gD⟩
   | none=> .bad
 | .v x::as_=>(RT.put s o.dst x s.h fun s'=>go k s' as_ ((WH E s.ts o.op=some x)::ps)).step ⟨i,k,s.ts,x,.gD⟩
 | .q x::as_=>(RT.put s o.dst x s.h fun s'=>go k s' as_ ((bF E s.ts o.op=some x)::ps)).step ⟨i,k,s.ts,x,.gD⟩
 | .m x::as_=>match bF E s.ts o.op with
   | none=>(RT.put s o.dst x s.h fun s'=>go k s' as_ ((R4 E s.ts s.h o.op=some x)::ps)).step ⟨i,k,s.ts,x,.red⟩
   | some _=> .bad
 | .n h'::as_=>match bF E s.ts o.op,dS E s.ts s.h o.op,et E s.ts o.op with
   | none,none,some (obj,mk)=>(RT.put s o.dst (mk s.h.nx) h' fun s'=>go k s' as_ ((s.h.new obj=some h')::ps)).step ⟨i,k,s.ts,mk s.h.nx,.rV s.h.nx obj⟩
   | _,_,_=> .bad
 | .a obj x h'::as_=>match bF E s.ts o.op,dS E s.ts s.h o.op with
   | none,none=>(RT.put s o.dst x h' fun s'=>go k s' as_ ((∃mk,WI E s.ts o.op=some (obj,mk)∧mk s.h.nx=x)::(s.h.new obj=some h')::ps)).step ⟨i,k,s.ts,x,.rV s.h.nx obj⟩
   | _,_=> .bad
 | _=> .bad
noncomputable def runT (E:Env) (call:bj) (ops:Array Oper):List Nat→Nat→St→List mX→List Prop→RT
 | [],_,s,as_,ps=> .ok [] [s.h] s as_ ps
 | i::rest,k,s,as_,ps=>match ops[i]? with
   | none=> .bad
   | some o=>match Gg ops s.ts o.guard with
     | .yes=>bif fj E o.op then IH E call i k o s as_ ps (runT E call ops rest) else II E i k o s as_ ps (runT E call ops rest)
     | .no=>bif fj E o.op then (RT.put s o.dst AV.undef s.h fun s'=>runT E call ops rest (k+1) s' as_ ps).bound ⟨i,k,s.ts,AV.undef,.off⟩ s.h else (RT.put s o.dst AV.undef s.h fun s'=>runT E call ops rest k s' as_ ps).step ⟨i,k,s.ts,AV.undef,.off⟩
     | .ask v want=>match as_ with
       | .b x::as_=>bif x==want then (bif fj E o.op then IH E call i k o s as_ ((v=x)::ps) (runT E call ops rest) else II E i k o s as_ ((v=x)::ps) (runT E call ops rest))
         else (bif fj E o.op then (RT.put s o.dst AV.undef s.h fun s'=>runT E call ops rest (k+1) s' as_ ((v=x)::ps)).bound ⟨i,k,s.ts,AV.undef,.off⟩ s.h else (RT.put s o.dst AV.undef s.h fun s'=>runT E call ops rest k s' as_ ((v=x)::ps)).step ⟨i,k,s.ts,AV.undef,.off⟩)
       | _=> .bad
theorem RT.qP {x:Step} {r:RT} {tr:List Step} {hs:List aw} {s:St} {as_:List mX} {ps:List Prop} (h:r.step x= .ok tr hs s as_ ps):∃JY,tr=x::JY∧r= .ok JY hs s as_ ps:=by
 cases r with
 | bad=>cases h
 | ok a b c d e=>cases h;exact ⟨_,rfl,rfl⟩
theorem RT.IJ {x:Step} {g:aw} {r:RT} {tr:List Step} {hs:List aw} {s:St} {as_:List mX} {ps:List Prop} (h:r.bound x g= .ok tr hs s as_ ps):∃JY qw,tr=x::JY∧hs=g::qw∧r= .ok JY qw s as_ ps:=by
 cases r with
 | bad=>cases h
 | ok a b c d e=>cases h;exact ⟨_,_,rfl,rfl,rfl⟩
theorem BP {ops:Array Oper}:∀(l:List Nat) (k:Nat) (s:St) (as_:List mX) (ps:List Prop) (tr:List Step) (hs:List aw) (s':St) (uc:List mX) (qn:List Prop),
 runT E call ops l k s as_ ps= .ok tr hs s' uc qn→lG qn→lG ps∧cR E call ops l k s= .ok tr hs s'
 | [],k,s,as_,ps,tr,hs,s',uc,qn,hr,hp=>by cases hr;exact ⟨hp,rfl⟩
 | i::rest,k,s,as_,ps,tr,hs,s',uc,qn,hr,hp=>by
   have ih:=BP (ops:=ops) rest
   unfold runT at hr
   split at hr
   · cases hr
   rename_i o hi
   have hE:∀{rI:List mX} {p_:List Prop},fj E o.op=true→IH E call i k o s rI p_ (runT E call ops rest)= .ok tr hs s' uc qn→lG p_∧(cz ops s.ts o=true→cR E call ops (i::rest) k s= .ok tr hs s'):=by
    intro rI p_ he h
    unfold IH at h
    split at h
    · rename_i x h' PU
      rw[RT.put_eq] at h
      obtain ⟨MF,rO,rfl,rfl,h9⟩:=RT.IJ h
      obtain ⟨h1,h2⟩:=ih _ _ _ _ _ _ _ _ _ h9 hp
      refine ⟨h1.2,fun hw=>?_⟩
      unfold cR
      simp only[hi,he,hw,if_true,Nf h1.1,h2]
      rfl
    · cases h
   have hN:∀{rI:List mX} {p_:List Prop},fj E o.op=false→II E i k o s rI p_ (runT E call ops rest)= .ok tr hs s' uc qn→lG p_∧(cz ops s.ts o=true→cR E call ops (i::rest) k s= .ok tr hs s'):=by
    intro rI p_ he h
    unfold II at h
    split at h
    · split at h
      · rename_i v hv
        rw[RT.put_eq] at h
        obtain ⟨MF,rfl,h9⟩:=RT.qP h
        obtain ⟨h1,h2⟩:=ih _ _ _ _ _ _ _ _ _ h9 hp
        refine ⟨h1,fun hw=>?_⟩
        unfold cR
        simp only[hi,he,hw,if_true,hv,Bool.false_eq_true,if_false]
        rw[h2]
        rfl
      · cases h
    · rw[RT.put_eq] at h
      obtain ⟨MF,rfl,h9⟩:=RT.qP h
      obtain ⟨h1,h2⟩:=ih _ _ _ _ _ _ _ _ _ h9 hp
      refine ⟨h1.2,fun hw=>?_⟩
      unfold cR
      simp only[hi,he,hw,if_true,Nb h1.1,Bool.false_eq_true,if_false]
      rw[h2]
      rfl
    · rw[RT.put_eq] at h
      obtain ⟨MF,rfl,h9⟩:=RT.qP h
      obtain ⟨h1,h2⟩:=ih _ _ _ _ _ _ _ _ _ h9 hp
      refine ⟨h1.2,fun hw=>?_⟩
      unfold cR
      simp only[hi,he,hw,if_true,h1.1,Bool.false_eq_true,if_false]
      rw[h2]
      rfl
    · split at h
      · rename_i hv
        rw[RT.put_eq] at h
        obtain ⟨MF,rfl,h9⟩:=RT.qP h
        obtain ⟨h1,h2⟩:=ih _ _ _ _ _ _ _ _ _ h9 hp
        refine ⟨h1.2,fun hw=>?_⟩
        unfold cR
        simp only[hi,he,hw,if_true,hv,Gc h1.1,Bool.false_eq_true,if_false]
        rw[h2]
        rfl
      · cases h
    · split at h
      · rename_i q1 q2 q3
        rw[RT.put_eq] at h
        obtain ⟨MF,rfl,h9⟩:=RT.qP h
        obtain ⟨h1,h2⟩:=ih _ _ _ _ _ _ _ _ _ h9 hp
        refine ⟨h1.2,fun hw=>?_⟩
        unfold cR
        simp only[hi,he,hw,if_true,q1,q2,q3,h1.1,Bool.false_eq_true,if_false,h2]
        rfl
      · cases h
    · split at h
      · rename_i q1 q2
        rw[RT.put_eq] at h
        obtain ⟨MF,rfl,h9⟩:=RT.qP h
        obtain ⟨h1,h2⟩:=ih _ _ _ _ _ _ _ _ _ h9 hp
        obtain ⟨⟨mk,h3,h4⟩,h5,h6⟩:=h1
        rw[Nd] at h3
        subst h4
        refine ⟨h6,fun hw=>?_⟩
        unfold cR
        simp only[hi,he,hw,if_true,q1,q2,h3,h5,Bool.false_eq_true,if_false,h2]
        rfl
      · cases h
    · cases h
   have hO:∀{rI:List mX} {p_:List Prop},(bif fj E o.op then (RT.put s o.dst AV.undef s.h fun s'=>runT E call ops rest (k+1) s' rI p_).bound ⟨i,k,s.ts,AV.undef,.off⟩ s.h else (RT.put s o.dst AV.undef s.h fun s'=>runT E call ops rest k s' rI p_).step ⟨i,k,s.ts,AV.undef,.off⟩)= .ok tr hs s' uc qn→
    lG p_∧(cz ops s.ts o=false→cR E call ops (i::rest) k s= .ok tr hs s'):=by
    intro rI p_ h
    cases he:fj E o.op with
    | true=>
      rw[he,cond_true,RT.put_eq] at h
      obtain ⟨MF,rO,rfl,rfl,h9⟩:=RT.IJ h
      obtain ⟨h1,h2⟩:=ih _ _ _ _ _ _ _ _ _ h9 hp
      refine ⟨h1,fun hw=>?_⟩
      unfold cR
      simp only[hi,he,hw,if_true,Bool.false_eq_true,if_false]
      rw[h2]
      rfl
    | false=>
      rw[he,cond_false,RT.put_eq] at h
      obtain ⟨MF,rfl,h9⟩:=RT.qP h
      obtain ⟨h1,h2⟩:=ih _ _ _ _ _ _ _ _ _ h9 hp
      refine ⟨h1,fun hw=>?_⟩
      unfold cR
      simp only[hi,he,hw,Bool.false_eq_true,if_false]
      rw[h2]
      rfl
   have hY:∀{rI:List mX} {p_:List Prop},(bif fj E o.op then IH E call i k o s rI p_ (runT E call ops rest) else II E i k o s rI p_ (runT E call ops rest))= .ok tr hs s' uc qn→
    lG p_∧(cz ops s.ts o=true→cR E call ops (i::rest) k s= .ok tr hs s'):=by
    intro rI p_ h
    cases he:fj E o.op with
    | true=>rw[he] at h;exact hE he h
    | false=>rw[he] at h;exact hN he h
   have hg:=Ea ops s.ts o
   split at hr
   · rename_i h1;rw[h1] at hg;exact ⟨(hY hr).1,(hY hr).2 hg⟩
   · rename_i h1;rw[h1] at hg;exact ⟨(hO hr).1,(hO hr).2 hg⟩
   · rename_i v want h1
     rw[h1] at hg
     split at hr
     · rename_i x rI
       cases hx:x==want with
       | true=>
         rw[hx] at hr
         obtain ⟨⟨h2,h3⟩,h4⟩:=hY hr
         exact ⟨h3,h4 (by rw[hg,h2];exact hx)⟩
       | false=>
         rw[hx] at hr
         obtain ⟨⟨h2,h3⟩,h4⟩:=hO hr
         exact ⟨h3,h4 (by rw[hg,h2];exact hx)⟩
     · cases hr
noncomputable def KR (E:Env) (ops:Array Oper) (x:Step) (h:aw) (ps:List Prop):List Prop:=match x.kind with
 | .red=>match ops[x.i]? with
   | some o=>(AV.same 20 x.v x.v=true)::(R4 E x.ts h o.op=some x.v)::ps
   | none=>False::ps
 | .rV n obj=>(∃o,h.get n=some o∧aR.same o obj=true)::ps
 | _=>ps
noncomputable def KT (E:Env) (ops:Array Oper) (x:Step):List aw→List Prop→List Prop
 | [],ps=>ps
 | h::hs,ps=>KT E ops x hs (KR E ops x h ps)
noncomputable def wV (E:Env) (ops:Array Oper) (bP:List Nat) (an:List (List Nat)) (hs:List aw):List Step→List Prop→List Prop
 | [],ps=>ps
 | x::tr,ps=>wV E ops bP an hs tr (KT E ops x ((hs.drop x.k).take (jP bP an x.i+1 - x.k)) ps)
theorem OS {ops:Array Oper} {x:Step} {h:aw} {ps:List Prop} (hc:lG (KR E ops x h ps)):lG ps∧iY E ops x h=true:=by
 unfold KR at hc
 unfold iY
 split at hc
 · rename_i hk
   simp only[hk]
   split at hc
   · rename_i o ho
     have fP:ops.getD x.i default=o:=by simp [Array.getD_eq_getD_getElem?,ho]
     simp only[fP,Gc hc.2.1,hc.1]
     exact ⟨hc.2.2,trivial⟩
   · exact hc.1.elim
 · rename_i n obj hk
   obtain ⟨⟨o,h1,h2⟩,h3⟩:=hc
   simp only[hk,h1,h2]
   exact ⟨h3,trivial⟩
 · rename_i h1 h2
   refine ⟨hc,?_⟩
   split
   · rename_i hk;exact absurd hk (by assumption)
   · rename_i hk;exact absurd hk (h2 _ _)
   · rfl
theorem Eb {ops:Array Oper} {x:Step}:∀(hs:List aw) (ps:List Prop),lG (KT E ops x hs ps)→lG ps∧hs.all (iY E ops x)=true
 | [],ps,hc=>⟨hc,rfl⟩
 | h::hs,ps,hc=>by
   obtain ⟨h1,h2⟩:=Eb hs _ hc
   obtain ⟨h3,h4⟩:=OS h1
   exact ⟨h3,by simp only[List.all_cons,h4,h2,Bool.and_self]⟩
theorem zN {ops:Array Oper} {bP:List Nat} {an:List (List Nat)} {hs:List aw}:∀(tr:List Step) (ps:List Prop),lG (wV E ops bP an hs tr ps)→
 lG ps∧(tr.all fun x=>((hs.drop x.k).take (jP bP an x.i+1 - x.k)).all (iY E ops x))=true
 | [],ps,hc=>⟨hc,rfl⟩
 | x::tr,ps,hc=>by
   obtain ⟨h1,h2⟩:=zN tr _ hc
   obtain ⟨h3,h4⟩:=Eb _ _ h1
   exact ⟨h3,by simp only[List.all_cons,h4,h2,Bool.and_self]⟩
noncomputable def R5 (l:List Nat) (ps:List Prop):List Prop:=match l with
 | []=>ps
 | [_]=>ps
 | l=>(nodup l=true)::ps
noncomputable def Gh (E:Env) (call:bj) (ops:Array Oper) (s:St) (as_:List mX) (ps:List Prop):R:=match rU E ops with
 | none=> .bad
 | some pl=>match runT E call ops pl.order 0 s as_ ps with
   | .ok tr hs s' uc qn=> .at .normal s' uc (R5 (qp tr) (wV E ops pl.bP pl.an hs tr qn))
   | .bad=> .bad
theorem Dn {ops:Array Oper} {s:St} {as_:List mX} {ps:List Prop} {e:h_} {s':St} {uc:List mX} {qn:List Prop} (hr:Gh E call ops s as_ ps= .at e s' uc qn) (hp:lG qn):lG ps∧vY E call ops s= .ok e s':=by
 unfold Gh at hr
 split at hr
 · cases hr
 rename_i pl Of
 split at hr
 · rename_i tr hs s1 rI p_ h1
   cases hr
   have hn:lG (wV E ops pl.bP pl.an hs tr p_)∧nodup (qp tr)=true:=by
    unfold R5 at hp
    split at hp
    · rename_i hm;exact ⟨hp,by rw[hm];rfl⟩
    · rename_i hm;exact ⟨hp,by rw[hm];rfl⟩
    · exact ⟨hp.2,hp.1⟩
   obtain ⟨h2,h3⟩:=zN _ _ hn.1
   obtain ⟨h4,h5⟩:=BP _ _ _ _ _ _ _ _ _ _ h1 h2
   refine ⟨h4,?_⟩
   unfold vY
   simp only[Of,h5]
   have:qq E ops pl tr hs=true:=by
    unfold qq
    rw[hn.2,Bool.true_and]
    exact h3
   rw[if_pos this]
 · cases hr
noncomputable def run (E:Env) (call:bj):Nat→Code→St→List mX→List Prop→R
 | 0,_,_,_,_=> .bad
 | n+1,c,s,as_,ps=>match c with
   | .skip=> .at .normal s as_ ps
   | .ret=> .at .ret s as_ ps
   | .exit i=> .at (.exit i) s as_ ps
   | .seq a b=>match run E call n a s as_ ps with
     | .at .normal s1 rI p_=>run E call n b s1 rI p_
     | r=>r
   | .cond x a b=>match as_ with
     | .b v::as_=>match eh E s.ts x with
       | some (.bool u)=>bif v then run E call n a s as_ ((u=true)::ps) else run E call n b s as_ ((u=false)::ps)
       | _=> .bad
     | .l e s'::as_=> .at e s' as_ (Ev E call (.cond x a b) s e s'::ps)
     | _=> .bad
   | .block id b=>match run E call n b s as_ ps with
     | .at (.exit j) s1 rI p_=>bif Nat.beq j id then .at .normal s1 rI p_ else .at (.exit j) s1 rI p_
     | r=>r
   | .loop b=>match as_ with
     | .l e s'::as_=> .at e s' as_ (Ev E call (.loop b) s e s'::ps)
     | _=> .bad
   | .rangeFunc f qn a b=>match as_ with
     | .l e s'::as_=> .at e s' as_ (Ev E call (.rangeFunc f qn a b) s e s'::ps)
     | _=> .bad
   | .region i ops draw=>match as_ with
     | .l e s'::as_=> .at e s' as_ (Ev E call (.region i ops draw) s e s'::ps)
     | as_=>bif draw then Gh E call ops s as_ ps else pB E call ops ops.toList s as_ ps
   | .scope b=>run E call n b s as_ ps
   | .label _=> .at .normal s as_ ps
   | _=> .bad
theorem Ec:∀(n:Nat) (c:Code) (s:St) (as_:List mX) (ps:List Prop) (e:h_) (s':St) (uc:List mX) (qn:List Prop),run E call n c s as_ ps= .at e s' uc qn→lG qn→lG ps∧Ev E call c s e s'
 | 0,c,s,as_,ps,e,s',uc,qn,hr,hp=>by cases hr
 | n+1,c,s,as_,ps,e,s',uc,qn,hr,hp=>by
   have ih:=Ec n
   unfold run at hr
   split at hr
   · cases hr;exact ⟨hp,.of fun _=>rfl⟩
   · cases hr;exact ⟨hp,.of fun _=>rfl⟩
   · cases hr;exact ⟨hp,.of fun _=>rfl⟩
   · split at hr
     · rename_i s1 rI p_ h1
       obtain ⟨h2,h3⟩:=ih _ _ _ _ _ _ _ _ hr hp
       obtain ⟨h4,h5⟩:=ih _ _ _ _ _ _ _ _ h1 h2
       exact ⟨h4,h5.seq h3⟩
     · rename_i eu
       obtain ⟨h4,h5⟩:=ih _ _ _ _ _ _ _ _ hr hp
       refine ⟨h4,h5.seq' fun he=>?_⟩
       subst he;exact eu _ _ _ hr
   · split at hr
     · rename_i v rI
       split at hr
       · rename_i u hu
         cases v with
         | true=>
           obtain ⟨⟨h1,h2⟩,n0,h3⟩:=ih _ _ _ _ _ _ _ _ hr hp
           refine ⟨h2,n0+1,fun n hn=>?_⟩
           obtain ⟨k,rfl⟩:∃k,n=k+1:=⟨n - 1,by omega⟩
           rw[RY,hu,h1,KQ];exact h3 k (by omega)
         | false=>
           obtain ⟨⟨h1,h2⟩,n0,h3⟩:=ih _ _ _ _ _ _ _ _ hr hp
           refine ⟨h2,n0+1,fun n hn=>?_⟩
           obtain ⟨k,rfl⟩:∃k,n=k+1:=⟨n - 1,by omega⟩
           rw[RY,hu,h1,ID];exact h3 k (by omega)
       · cases hr
     · cases hr;exact ⟨hp.2,hp.1⟩
     · cases hr
   · split at hr
     · rename_i id b _ j s1 rI p_ h1
       cases hj:Nat.beq j id with
       | true=>
         rw[hj] at hr
         cases hr
         obtain ⟨h2,n0,h3⟩:=ih _ _ _ _ _ _ _ _ h1 hp
         refine ⟨h2,n0+1,fun n hn=>?_⟩
         obtain ⟨k,rfl⟩:∃k,n=k+1:=⟨n - 1,by omega⟩
         rw[AR,h3 k (by omega),zK,if_pos (Nat.eq_of_beq_eq_true hj)]
       | false=>
         rw[hj] at hr
         cases hr
         obtain ⟨h2,n0,h3⟩:=ih _ _ _ _ _ _ _ _ h1 hp
         refine ⟨h2,n0+1,fun n hn=>?_⟩
         obtain ⟨k,rfl⟩:∃k,n=k+1:=⟨n - 1,by omega⟩
         rw[AR,h3 k (by omega),zK,if_neg (Nat.ne_of_beq_eq_false hj)]
     · rename_i id b _ eu
       obtain ⟨h2,n0,h3⟩:=ih _ _ _ _ _ _ _ _ hr hp
       refine ⟨h2,n0+1,fun n hn=>?_⟩
       obtain ⟨k,rfl⟩:∃k,n=k+1:=⟨n - 1,by omega⟩
       rw[AR,h3 k (by omega)]
       cases e with
       | exit j=>exact absurd hr (eu _ _ _ _)
       | _=>rfl
   · split at hr
     · cases hr;exact ⟨hp.2,hp.1⟩
     · cases hr
   · split at hr
     · cases hr;exact ⟨hp.2,hp.1⟩
     · cases hr
   · rename_i i ops draw
     split at hr
     · cases hr;exact ⟨hp.2,hp.1⟩
     cases draw with
     | true=>
       simp only[cond_true] at hr
       obtain ⟨h1,h2⟩:=Dn hr hp
       exact ⟨h1,.of fun n=>by rw[Wu];exact h2⟩
     | false=>
       simp only[cond_false] at hr
       obtain ⟨h1,h2⟩:=wR _ _ _ _ _ _ _ _ hr hp
       exact ⟨h1,.of fun n=>by rw[R0];exact h2⟩
   · obtain ⟨h1,n0,h2⟩:=ih _ _ _ _ _ _ _ _ hr hp
     exact ⟨h1,n0+1,fun n hn=>by
      obtain ⟨k,rfl⟩:∃k,n=k+1:=⟨n - 1,by omega⟩
      show exec E call k _ s=_
      exact h2 k (by omega)⟩
   · cases hr;exact ⟨hp,.of fun _=>rfl⟩
   · cases hr
theorem KU {n:Nat} {c:Code} {s:St} {al:List mX} {e:h_} {s':St} {ps:List Prop} (hr:run E call n c s al []= .at e s' [] ps) (hp:lG ps):Ev E call c s e s':=(Ec _ _ _ _ _ _ _ _ _ hr hp).2
theorem BQ {tmpl:(Nat→AV)→List AV} {c:Code} {s:St} {e:h_} {h:aw} {ds:List pw} {rc:RC} {L:List AV} (ev:Ev E call c s e ⟨L,h,ds,rc⟩) (hl:L=tmpl fun k=>L.getD k AV.undef):∃y,Ev E call c s e ⟨tmpl y,h,ds,rc⟩:=by
 refine ⟨fun k=>L.getD k AV.undef,?_⟩
 rw[←hl];exact ev
theorem WK {f:FuncId} {fn:Func} {c:Code} (hf:E.P.funcs[f]? =some fn) (hb:fn.body=some c) {args:List AV} {h h':aw} {ts:List AV} {x:h_} (hx:x= .normal∨x= .ret)
 (e:Ev E call c ⟨args++List.replicate (fn.ntmps - args.length) AV.undef,h,[],.no⟩ x ⟨ts,h',[],.no⟩) {vs:List AV} (hr:jw E h' ts fn.results.toList=some vs):∃n0,∀n,n0≤n→wK E call n f args h= .ret (fO vs) h':=by
 obtain ⟨n0,e⟩:=e
 exact ⟨n0,fun n hn=>OO hf hb hx (e n hn) hr⟩
def ug (E:Env) (call:bj) (f:FuncId) (args:List AV) (h:aw) (v:AV) (h':aw):Prop:=∃n0,∀n,n0≤n→wK E call n f args h= .ret v h'
theorem bh {f:FuncId} {fn:Func} {c:Code} {args Ys ts:List AV} {h h':aw} {x:h_} {v:AV} (hf:E.P.funcs[f]? =some fn) (hb:fn.body=some c) (ht:args++List.replicate (fn.ntmps - args.length) AV.undef=Ys) (hx:x= .normal∨x= .ret)
 (e:Ev E call c ⟨Ys,h,[],.no⟩ x ⟨ts,h',[],.no⟩) (hr:(jw E h' ts fn.results.toList).map fO=some v):ug E call f args h v h':=by
 subst ht
 cases hv:jw E h' ts fn.results.toList with
 | none=>rw[hv] at hr;cases hr
 | some vs=>
   rw[hv] at hr
   obtain rfl:fO vs=v:=Option.some.inj hr
   exact WK hf hb hx e hv
end Go.Ab
end
section
namespace Go.Ab
variable {E:Env}
theorem BR {t:TypeId} {c d:Bool} {k:IntKind} {a b z:Int} (h:k.wrap (a+b)=z):cE E .add t c d (some (.int k a)) (some (.int k b))=some (.int k z):=by rw[Na,h]
theorem BS {t:TypeId} {c d:Bool} {k:IntKind} {a b z:Int} (h:k.wrap (a - b)=z):cE E .sub t c d (some (.int k a)) (some (.int k b))=some (.int k z):=by rw[Ww,h]
theorem KV {t:TypeId} {c d:Bool} {k:IntKind} {a b z:Int} (h:k.wrap (a*b)=z):cE E .mul t c d (some (.int k a)) (some (.int k b))=some (.int k z):=by rw[Wx,h]
theorem BT {t:TypeId} {c d:Bool} {k:IntKind} {a b z:Int} (hb:b≠0) (h:a.tmod b=z):cE E .rem t c d (some (.int k a)) (some (.int k b))=some (.int k z):=by simp [cE,jM,cZ,hb,h]
theorem jd (k:IntKind) (n:Int):AV.scalar (.int k n)=true:=rfl
theorem gK (b:Bool):AV.scalar (.bool b)=true:=rfl
theorem je (b:List UInt8):AV.scalar (.str b)=true:=rfl
theorem jf (i o:Nat):AV.scalar (.ptr i o)=true:=rfl
theorem fi (i o n c:Nat) (b:Bool):AV.scalar (.slice i o n c b)=true:=rfl
theorem mz:AV.scalar .aN=true:=rfl
theorem mA:AV.scalar .fN=true:=rfl
theorem mB:AV.scalar .dP=true:=rfl
theorem mC:AV.scalar .nilFunc=true:=rfl
theorem mD:AV.scalar .nilIface=true:=rfl
theorem jg (i:Nat):AV.scalar (.map i)=true:=rfl
theorem qa {h:aw} {t:TypeId} {i o:Nat} {cs:List AV} {e:TypeId} {ro:Bool} {v:AV} (hg:h.get i=some (.cells cs e ro)) (hv:gU E t cs o=some v):bE E h t (.ptr i o)=some v:=by
 simp only[bE,hg,hv]
theorem jC {h h':aw} {o:aR} (n:h.new o=some h'):h'.get h.nx=some o:=(aw.kQ n).2.2.1
theorem lP {h h':aw} {o:aR} (n:h.new o=some h'):h'.nx=h.nx+1:=(aw.kQ n).2.1
theorem fS {h h':aw} {o x:aR} {i:Nat} (y:Tidy h) (n:h.new o=some h') (g:h.get i=some x):h'.get i=some x:=by
 have:=y i x g
 rw[(aw.kQ n).2.2.2 i (by omega)];exact g
theorem tS {h h':aw} {o:aR} (y:Tidy h) (n:h.new o=some h'):Has h h':=fun _ _ g=>fS y n g
theorem fT {h h':aw} {o:aR} (y:Tidy h) (n:h.new o=some h'):Tidy h':=fun i x g=>by
 obtain ⟨_,h2,h3,h4⟩:=aw.kQ n
 by_cases hx:i=h.nx
 · omega
 · rw[h4 i hx] at g;have:=y i x g;omega
theorem lQ {h:aw} (o:aR):∃h',h.new o=some h':=⟨_,aw.E8 _ _⟩
theorem sB {h:aw} {t e:TypeId} {i o n:Nat} {cs:List AV} {v:AV} (g:h.get i=some (.cells cs e false)) (hs:bZ E t=some n) (hv:v.cells.length=n) (ho:o+n≤cs.length) (hk:v.cells.all AV.scalar=true):∃h',eG E h t (.ptr i o) v=some h':=by
 refine ⟨h.put i (some (.cells (setFrom cs o v.cells) e false)),?_⟩
 simp only[eG,g,hs]
 rw[if_pos ⟨hv,ho,hk⟩]
theorem sC {h h':aw} {t e:TypeId} {i o:Nat} {cs:List AV} {v:AV} (s:eG E h t (.ptr i o) v=some h') (g:h.get i=some (.cells cs e false)):h'=h.put i (some (.cells (setFrom cs o v.cells) e false)):=by
 simp only[eG,g] at s
 split at s
 · rename_i h1 _
   cases h1
   split at s
   · exact (Option.some.inj s).symm
   · cases s
 · cases s
theorem tT {h h':aw} {t e:TypeId} {i o:Nat} {cs:List AV} {v:AV} (y:Tidy h) (s:eG E h t (.ptr i o) v=some h') (g:h.get i=some (.cells cs e false)):h'.get i=some (.cells (setFrom cs o v.cells) e false):=by
 rw[sC s g]
 have:=y i _ g
 exact aw.bS _
theorem oo {h h':aw} {t e:TypeId} {i j o:Nat} {cs:List AV} {v:AV} {x:aR} (y:Tidy h) (s:eG E h t (.ptr i o) v=some h') (g:h.get i=some (.cells cs e false)) (hj:j≠i) (gx:h.get j=some x):h'.get j=some x:=by
 rw[sC s g]
 have:=y i _ g
 rw[aw.bx (Ne.symm hj)];exact gx
theorem sD {h h':aw} {t e:TypeId} {i o:Nat} {cs:List AV} {v:AV} (s:eG E h t (.ptr i o) v=some h') (g:h.get i=some (.cells cs e false)):h'.nx=h.nx:=by
 rw[sC s g];exact aw.ZD _ _ _
theorem qQ {h h':aw} {t e:TypeId} {i o:Nat} {cs:List AV} {v:AV} (y:Tidy h) (s:eG E h t (.ptr i o) v=some h') (g:h.get i=some (.cells cs e false)):Tidy h':=fun j x gj=>by
 have hi:=y i _ g
 rw[sD s g]
 by_cases hx:j=i
 · omega
 · rw[sC s g,aw.bx (Ne.symm hx)] at gj
   exact y j x gj
def Chg (h h':aw) (b:Nat) (o:aR):Prop:=Tidy h'∧h'.get b=some o∧∀i x,i≠b→h.get i=some x→h'.get i=some x
theorem Chg.has {h0 h h':aw} {b:Nat} {o:aR} (c:Chg h h' b o) (a:Has h0 h) (y:Tidy h0) (hb:h0.nx≤b):Has h0 h':=fun i x g=>by
 have:=y i x g
 exact c.2.2 i x (by omega) (a i x g)
end Go.Ab
end
section
namespace Go.Ab
variable {E:Env}
theorem dT {p:Prop} [Decidable p] (h:p):decide p=true:=decide_eq_true h
theorem dF {p:Prop} [Decidable p] (h:¬p):decide p=false:=decide_eq_false h
theorem nT {p:Prop} [Decidable p] (h:¬p):(!decide p)=true:=by rw[decide_eq_false h];rfl
theorem nF {p:Prop} [Decidable p] (h:p):(!decide p)=false:=by rw[decide_eq_true h];rfl
def cu:Code→List Code
 | .seq a b=>cu a++cu b
 | .cond _ a b=>cu a++cu b
 | .block _ b=>cu b
 | .loop b=>b::cu b
 | .scope b=>cu b
 | .rangeFunc _ _ _ b=>b::cu b
 | _=> []
structure lZ (E:Env) (h:aw) (e:TypeId) (n:Nat) (av:AV) (len:Nat) (cs:List AV):Prop where
 size:bZ E e=some n
 cells:cs.length=len*n
 small:len<2^60
 lens:dN (some (.slice e)) (some av)=some (.int .i64 (len:Nat))
 block:len=0∨∃p o m c b C f ro,av= .slice p o m c b∧m≤c∧h.get p=some (.cells C f ro)∧(∀j,j<cs.length→C[o+j]? =cs[j]?)
theorem lZ.has {h h':aw} {e:TypeId} {n:Nat} {av:AV} {len:Nat} {cs:List AV} (x:lZ E h e n av len cs) (hh:Has h h'):lZ E h' e n av len cs:=
 ⟨x.size,x.cells,x.small,x.lens,x.block.imp id fun ⟨p,o,m,c,b,C,f,ro,h1,h0,h2,h3⟩=>⟨p,o,m,c,b,C,f,ro,h1,h0,hh _ _ h2,h3⟩⟩
theorem lZ.elem {h:aw} {e:TypeId} {av:AV} {len:Nat} {cs:List AV} (x:lZ E h e 1 av len cs) (ha:eT E e=some false) {i:Nat} {v:AV} (hv:cs[i]? =some v):
 ∃p q,dy E (some (.slice e)) (some av) (some (.int .i64 (i:Nat)))=some (.ptr p q)∧bE E h e (.ptr p q)=some v:=by
 have hi:=(List.getElem?_eq_some_iff.1 hv).1
 have hl:cs.length=len:=by rw[x.cells,Nat.mul_one]
 rcases x.block with h0 | ⟨p,o,m,c,b,C,f,ro,h1,_,h2,h3⟩
 · omega
 · subst h1
   have hm:m=len:=by
    have:=x.lens
    rw[fR] at this
    simp only[Option.some.injEq,AV.int.injEq,true_and] at this
    omega
   refine ⟨p,o+i*1,cn x.size (by omega),?_⟩
   simp only[bE,h2,gU,ha,Nat.mul_one]
   rw[h3 i hi,hv]
def uh (k:IntKind) (l:List Nat):List AV:=l.map fun (n:Nat)=> .int k (n:Int)
structure eZ (E:Env) (h:aw) (k:IntKind) (e:TypeId) (av:AV) (l:List Nat):Prop where
 at_:lZ E h e 1 av l.length (uh k l)
 agg:eT E e=some false
 known:av= .aN∨∃p o n c b,av= .slice p o n c b∧(b=true→0<c)
theorem sE {k:IntKind} {l:List Nat} {i:Nat} {z:Nat} (h:l[i]? =some z):(uh k l)[i]? =some (.int k (z:Int)):=by simp [uh,h]
theorem eZ.elem {h:aw} {k:IntKind} {e:TypeId} {av:AV} {l:List Nat} (x:eZ E h k e av l) {i:Nat} {z:Nat} (hz:l[i]? =some z):
 ∃p q,dy E (some (.slice e)) (some av) (some (.int .i64 (i:Nat)))=some (.ptr p q)∧bE E h e (.ptr p q)=some (.int k (z:Int)):=x.at_.elem x.agg (sE hz)
theorem eZ.len {h:aw} {k:IntKind} {e:TypeId} {av:AV} {l:List Nat} (x:eZ E h k e av l):dN (some (.slice e)) (some av)=some (.int .i64 (l.length:Nat)):=x.at_.lens
theorem mE (k:IntKind) (l:List Nat):(uh k l).length=l.length:=by simp [uh]
theorem eZ.small {h:aw} {k:IntKind} {e:TypeId} {av:AV} {l:List Nat} (x:eZ E h k e av l):l.length<2^60:=x.at_.small
def Off (p:Nat) (av:AV):Prop:=∀o n c b,av≠ .slice p o n c b
theorem eZ.of {h:aw} {k:IntKind} {e:TypeId} {l:List Nat} {p o c:Nat} {b:Bool} {C:List AV} {f:TypeId} {ro:Bool} (hs:bZ E e=some 1) (ha:eT E e=some false) (hl:l.length<2^60) (hc:l.length≤c) (hb:b=true→0<c) (hg:h.get p=some (.cells C f ro))
 (hv:∀(i:Nat) z,l[i]? =some z→C[o+i]? =some (.int k (z:Int))):eZ E h k e (.slice p o l.length c b) l:=
 ⟨⟨hs,by rw[mE];omega,hl,rfl,.inr ⟨p,o,_,c,b,C,f,ro,rfl,hc,hg,fun j hj=>by
   rw[mE] at hj
   rw[hv j l[j] (List.getElem?_eq_getElem hj),sE (List.getElem?_eq_getElem hj)]⟩⟩,ha,.inr ⟨p,o,_,c,b,rfl,hb⟩⟩
theorem eZ.nil {h:aw} {k:IntKind} {e:TypeId} (hs:bZ E e=some 1) (ha:eT E e=some false):eZ E h k e .aN []:=
 ⟨⟨hs,rfl,by decide,rfl,.inl rfl⟩,ha,.inl rfl⟩
theorem eZ.inv {h:aw} {k:IntKind} {e:TypeId} {l:List Nat} {p o n c:Nat} {b:Bool} (x:eZ E h k e (.slice p o n c b) l):n=l.length∧(l≠ []→l.length≤c∧∃C f ro,h.get p=some (.cells C f ro)∧∀(i:Nat) z,l[i]? =some z→C[o+i]? =some (.int k (z:Int))):=by
 have hn:n=l.length:=by
  have:=x.len
  rw[fR] at this
  simp only[Option.some.injEq,AV.int.injEq,true_and] at this
  omega
 refine ⟨hn,fun eu=>?_⟩
 rcases x.at_.block with h0 | ⟨p',o',m,c',b',C,f,ro,h1,h0,h2,h3⟩
 · exact absurd (List.length_eq_zero_iff.1 h0) eu
 · cases h1
   refine ⟨by omega,C,f,ro,h2,fun i z hz=>?_⟩
   rw[h3 i (by rw[mE];exact (List.getElem?_eq_some_iff.1 hz).1),sE hz]
theorem nH {len cap lo hi:Nat} (low high:Option AV) (hl:low=some (.int .i64 (lo:Nat))∨(low=none∧lo=0)) (hh:high=some (.int .i64 (hi:Nat))∨(high=none∧hi=len)) (h1:lo≤hi) (h2:hi≤cap):kh len cap low high none=some (lo,hi,cap):=by
 have b:∀(x y:Nat),x≤y→nL (.int .i64 (x:Nat)) y=some x:=fun x y h=>by
  simp only[nL]
  rw[if_pos ⟨by omega,by omega⟩,Int.toNat_natCast]
 unfold kh
 rcases hh with rfl | ⟨rfl,rfl⟩<;>rcases hl with rfl | ⟨rfl,rfl⟩<;>simp [b,h1,h2]
theorem eZ.slice {h:aw} {k:IntKind} {e t:TypeId} {av:AV} {l:List Nat} (x:eZ E h k e av l) (ht:E.P.underlying t=some (.slice e)) {lo hi:Nat} (low high:Option AV) (hl:low=some (.int .i64 (lo:Nat))∨(low=none∧lo=0)) (hh:high=some (.int .i64 (hi:Nat))∨(high=none∧hi=l.length)) (h1:lo≤hi) (h2:hi≤l.length) (h3:l.length=0∨lo<l.length):
 ∃r,dx E t av low high none=some r∧eZ E h k e r ((l.take hi).drop lo)∧∀p,Off p av→Off p r:=by
 rcases x.known with rfl | ⟨p,o,n,c,b,rfl,hb⟩
 · have ZG:l.length=0:=by
    have:=x.len
    rw[wN] at this
    simp only[Option.some.injEq,AV.int.injEq,true_and] at this
    omega
   obtain rfl:=List.length_eq_zero_iff.1 ZG
   simp only[List.length_nil] at *
   have U4:hi=0:=by omega
   subst U4
   have U3:lo=0:=by omega
   subst U3
   refine ⟨.aN,?_,by simpa using x,fun p hp=>hp⟩
   simp only[dx,ht,x.at_.size,nH (len:=0) (cap:=0) low high hl hh (Nat.le_refl 0) (Nat.le_refl 0)]
 · obtain ⟨rfl,hx⟩:=x.inv
   have ZH:l.length≤c:=by
    by_cases eu:l=[]
    · subst eu;exact Nat.zero_le _
    · exact (hx eu).1
   have hr:∃o' c',dx E t (.slice p o l.length c b) low high none=some (.slice p o' (hi - lo) c' b)∧(b=true→0<c')∧hi - lo≤c'∧(hi - lo≠0→o'=o+lo):=by
    simp only[dx,ht,x.at_.size,ZH,if_true,nH (len:=l.length) (cap:=c) low high hl hh h1 (by omega)]
    by_cases hm:c=lo
    · have ZN:b=false:=by
       cases b with
       | false=>rfl
       | true=>have:=hb rfl;omega
      subst ZN
      rw[if_pos hm]
      exact ⟨o,c - lo,rfl,by simp,by omega,fun h=>by omega⟩
    · rw[if_neg hm]
      refine ⟨o+lo*1,c - lo,by simp,fun h=>by omega,by omega,fun h=>by omega⟩
   obtain ⟨o',c',e1,e2,e3,e4⟩:=hr
   refine ⟨_,e1,?_,fun q hq o' n' c' b' he=>by cases he;exact hq _ _ _ _ rfl⟩
   have hlen:((l.take hi).drop lo).length=hi - lo:=by simp;omega
   rw[←hlen]
   by_cases h0:hi - lo=0
   · have:(l.take hi).drop lo=[]:=List.length_eq_zero_iff.1 (by omega)
     rw[this]
     exact ⟨⟨x.at_.size,rfl,by decide,rfl,.inl rfl⟩,x.agg,.inr ⟨_,_,_,_,_,rfl,e2⟩⟩
   · have eu:l≠ []:=fun e=>by subst e;simp at h2;omega
     obtain ⟨_,C,f,ro,g1,g2⟩:=hx eu
     refine eZ.of x.at_.size x.agg (by have:=x.small;omega) (by omega) e2 g1 fun i z hz=>?_
     have Fl:i<hi - lo:=by rw[←hlen];exact (List.getElem?_eq_some_iff.1 hz).1
     rw[e4 h0,Nat.add_assoc]
     apply g2
     rw[List.getElem?_drop,List.getElem?_take_of_lt (by omega)] at hz
     exact hz
structure Va (h:aw) (av:AV) (p o n:Nat) (C:List AV) (f:TypeId):Prop where
 is:∃c b,av= .slice p o n c b∧n≤c
 get:h.get p=some (.cells C f false)
 fits:o+n≤C.length
theorem Va.len {h:aw} {av:AV} {p o n:Nat} {C:List AV} {f e:TypeId} (w:Va h av p o n C f):dN (some (.slice e)) (some av)=some (.int .i64 (n:Nat)):=by
 obtain ⟨c,b,rfl,_⟩:=w.is
 rfl
theorem Va.slice {h:aw} {av:AV} {p o n:Nat} {C:List AV} {f e t:TypeId} (w:Va h av p o n C f) (hs:bZ E e=some 1) (ht:E.P.underlying t=some (.slice e)) {lo hi:Nat} (low high:Option AV) (hl:low=some (.int .i64 (lo:Nat))∨(low=none∧lo=0)) (hh:high=some (.int .i64 (hi:Nat))∨(high=none∧hi=n)) (h1:lo≤hi) (h2:hi≤n) (h3:lo<n):
 ∃r,dx E t av low high none=some r∧Va h r p (o+lo) (hi - lo) C f:=by
 obtain ⟨c,b,rfl,hc⟩:=w.is
 have:=w.fits
 refine ⟨.slice p (o+lo) (hi - lo) (c - lo) b,?_,⟨⟨_,_,rfl,by omega⟩,w.get,by omega⟩⟩
 simp only[dx,ht,hs,hc,if_true,nH (len:=n) (cap:=c) low high hl hh h1 (by omega)]
 rw[if_neg (by omega)]
 simp
def Holds (k:IntKind) (C:List AV) (o:Nat) (l:List Nat):Prop:=∀(i z:Nat),l[i]? =some z→C[o+i]? =some (.int k (z:Int))
theorem Holds.behind {k:IntKind} {C:List AV} {o:Nat} {l ws:List Nat} (x:Holds k C o l) {i z:Nat} (hi:ws.length≤i) (hz:l[i]? =some z):(setFrom C o (uh k ws))[o+i]? =some (.int k (z:Int)):=by
 rw[eC,if_neg (by rw[mE];omega)]
 exact x i z hz
theorem Va.load {h:aw} {av:AV} {p o n:Nat} {C:List AV} {f e:TypeId} {i:Nat} {v:AV} (w:Va h av p o n C f) (ha:eT E e=some false) (hv:C[o+i]? =some v):bE E h e (.ptr p (o+i))=some v:=by
 simp only[bE,w.get,gU,ha,hv]
theorem Va.uh {h:aw} {av:AV} {p o n:Nat} {C:List AV} {f e:TypeId} {k:IntKind} {l:List Nat} (w:Va h av p o n C f) (hs:bZ E e=some 1) (ha:eT E e=some false) (hn:l.length=n) (U6:n<2^60) (x:Holds k C o l) (hb:∀c b,av= .slice p o n c b→b=true→0<c):eZ E h k e av l:=by
 obtain ⟨c,b,rfl,hc⟩:=w.is
 subst hn
 exact eZ.of hs ha U6 hc (hb c b rfl) w.get x
theorem Holds.of {k:IntKind} {C:List AV} {o:Nat} {l:List Nat} (hf:o+l.length≤C.length):Holds k (setFrom C o (uh k l)) o l:=fun i z hz=>by
 have hi:=(List.getElem?_eq_some_iff.1 hz).1
 rw[eC,if_pos ⟨by omega,by rw[mE];omega,by omega⟩,Nat.add_sub_cancel_left,sE hz]
end Go.Ab
end
section
namespace Go.Ab
open Go.WideElems Go.RowKit Go.Proofs
variable {E:Env}
theorem CR.plain {φ φ':Ph} {cs:List AV} {t:TypeId} {ro:Bool} {l:Loc} {C:Array Value} {lo hi:Nat} (h:CR E φ' cs t ro l C lo hi) (hp:cs.all (AV.plain 20)=true):CR E φ cs t ro l C lo hi where
 size:=h.size
 val k x hk:=by
  obtain ⟨y,hy,hv⟩:=h.val k x hk
  exact ⟨y,hy,hv.plain 20 (List.all_eq_true.1 hp x (List.mem_of_getElem? hk))⟩
 free:=h.free
 zero:=h.zero
end Go.Ab
end
section
namespace Go.Ab
variable {E:Env} {M0:Fa.F'}
theorem ug.unique {call:bj} {f:FuncId} {args:List AV} {h h1 h2:aw} {v1 v2:AV} (a:ug E call f args h v1 h1) (b:ug E call f args h v2 h2):v1=v2∧h1=h2:=by
 obtain ⟨n,a⟩:=a
 obtain ⟨m,b⟩:=b
 have:=(a (n+m) (by omega)).symm.trans (b (n+m) (by omega))
 simpa using this
def AV.within (nx:Nat):Nat→AV→Bool
 | 0,_=>false
 | n+1,x=>match x with
   | .bool _ | .int .. | .str _ | .fN | .aN | .dP | .nilFunc | .nilIface | .dQ=>true
   | .ptr i _=>decide (i<nx)
   | .slice i _ _ _ _=>decide (i<nx)
   | .map i=>decide (i<nx)
   | .iface _ v=>AV.within nx n v
   | .agg cs=>cs.all (AV.within nx n)
   | .tuple cs=>cs.all (AV.within nx n)
   | _=>false
theorem VR.within {φ φ':Ph} {nx:Nat} (ho:∀i,i<nx→φ' i=φ i):∀(n:Nat) {x:AV} (_:AV.within nx n x=true) {y:Value},VR φ' x y→VR φ x y
 | 0,_,h,_,_=>by cases h
 | n+1,x,h,y,hv=>by
   have ih:= @VR.within φ φ' nx ho n
   cases hv with
   | bool b=>exact .bool b
   | int k m=>exact .int k m
   | str s=>exact .str s
   | fN=>exact .fN
   | aN=>exact .aN
   | dP=>exact .dP
   | nilFunc=>exact .nilFunc
   | nilIface=>exact .nilIface
   | dQ a c=>exact .dQ a c
   | ptr o hl=>rw[ho _ (of_decide_eq_true h)] at hl;exact .ptr o hl
   | slice o len cap op hl=>rw[ho _ (of_decide_eq_true h)] at hl;exact .slice o len cap op hl
   | map hl=>rw[ho _ (of_decide_eq_true h)] at hl;exact .map hl
   | iface t v v' h'=>exact .iface t v v' (ih (by simpa [AV.within] using h) h')
   | agg cs hZ hl hc=>
     refine .agg cs hZ hl fun i x y a b=>ih ?_ (hc i x y a b)
     simp only[AV.within,List.all_eq_true] at h
     exact h x (List.mem_of_getElem? a)
   | tuple cs hZ hl hc=>
     refine .tuple cs hZ hl fun i x y a b=>ih ?_ (hc i x y a b)
     simp only[AV.within,List.all_eq_true] at h
     exact h x (List.mem_of_getElem? a)
   | _=>cases h
theorem kD.Ng {f:FuncId} {args:List AV} {h h':aw} {v:AV} (r:kD E f args h v h') (hs:Has h h') (hv:AV.within h.nx 20 v=true):kD E f args h v h:=fun φ w vs ok hl=>by
 obtain ⟨h1,h2⟩:=r φ w vs ok hl
 refine ⟨h1,fun cs=>?_⟩
 obtain ⟨φ',w',v',fr,x1,x2,x3,x4⟩:=h2 cs
 exact ⟨φ,w',v',fr,x1.within x3.old 20 hv,ok.forget x3.ext x2 hs,x3.forget,x4⟩
def Ed (E:Env) (call:bj) (l:Nat) (args:List AV) (h:aw) (v:AV) (h':aw):Prop:=∃n0,∀n,n0≤n→qt E call n l args h= .ret v h'
theorem Ed.unique {call:bj} {l:Nat} {args:List AV} {h h1 h2:aw} {v1 v2:AV} (a:Ed E call l args h v1 h1) (b:Ed E call l args h v2 h2):v1=v2∧h1=h2:=by
 obtain ⟨n,a⟩:=a
 obtain ⟨m,b⟩:=b
 have:=(a (n+m) (by omega)).symm.trans (b (n+m) (by omega))
 simpa using this
open Classical in
noncomputable def eX (E:Env) (M0:Fa.F'):Nat→bj
 | 0=>BK M0
 | d+1=>fun F args h=>match F with
   | .uV l=>if hy:∃p:AV×aw,Ed E (eX E M0 d) l args h p.1 p.2 then .ret hy.choose.1 hy.choose.2 else .fail "" none
   | .fn f=>match M0 f args h with
     | some p=> .ret p.1 p.2
     | none=>
       if hx:∃v,∃h',ug E (eX E M0 d) f args h v h'∧Has h h'∧AV.within h.nx 20 v=true then .ret hx.choose h
       else if hy:∃p:AV×aw,ug E (eX E M0 d) f args h p.1 p.2 then .ret hy.choose.1 hy.choose.2 else .fail "" none
theorem BU (hE:j5 E) (hM:Fa.Ga E M0):∀d,hF E (eX E M0 d)
 | 0=>OP hM
 | d+1=>by
   have ih:=BU hE hM d
   have key:∀{f:FuncId} {args:List AV} {h:aw} {o:iQ},eX E M0 (d+1) (.fn f) args h=o→(∃v h',o= .ret v h'∧kD E f args h v h')∨o= .fail "" none:=by
    intro f args h o e
    simp only[eX] at e
    split at e
    · rename_i p hp
      exact .inl ⟨_,_,e.symm,hM _ _ _ _ _ hp⟩
    · split at e
      · rename_i hx
        obtain ⟨h',⟨n,h1⟩,h2,h3⟩:=hx.choose_spec
        exact .inl ⟨_,_,e.symm,kD.Ng ((pf hE n ih).1 _ _ _ _ _ (h1 n (Nat.le_refl n))) h2 h3⟩
      · split at e
        · rename_i hy
          obtain ⟨n,h1⟩:=hy.choose_spec
          exact .inl ⟨_,_,e.symm,(pf hE n ih).1 _ _ _ _ _ (h1 n (Nat.le_refl n))⟩
        · exact .inr e.symm
   refine ⟨fun F args h v h' e=>?_,fun F args h v h' e=>?_⟩
   · cases F with
     | uV l=>
       simp only[eX] at e
       split at e
       · rename_i hy
         cases e
         obtain ⟨n,h1⟩:=hy.choose_spec
         intro φ w vs ok hf hl
         obtain ⟨ll,hφ⟩:=hf
         obtain ⟨f,tmps,assign,body,hy2,fJ⟩:=vk hE ih (h1 n (Nat.le_refl n)) (by simp) ok hφ hl
         exact ⟨_,_,.uV l ll hφ vs f tmps assign body hy2,fun c cs=>(fJ c cs).1 _ _ rfl⟩
       · cases e
     | fn f=>
       rcases key e with ⟨w,k,h1,h2⟩ | h1
       · cases h1;exact h2.any
       · cases h1
   · cases F with
     | uV l=>
       simp only[eX] at e
       split at e<;>cases e
     | fn f=>
       rcases key e with ⟨w,k,h1,h2⟩ | h1
       · cases h1
       · cases h1
theorem aC {d:Nat} {f:FuncId} {args:List AV} {h h':aw} {v:AV} (hm:M0 f args h=none) (hd:ug E (eX E M0 d) f args h v h') (hh:Has h h') (hv:AV.within h.nx 20 v=true):eX E M0 (d+1) (.fn f) args h= .ret v h:=by
 simp only[eX,hm]
 have hx:∃v,∃h',ug E (eX E M0 d) f args h v h'∧Has h h'∧AV.within h.nx 20 v=true:=⟨v,h',hd,hh,hv⟩
 rw[dif_pos hx]
 obtain ⟨k,h1,_,_⟩:=hx.choose_spec
 rw[(h1.unique hd).1]
theorem qb {d:Nat} {f:FuncId} {args:List AV} {h h':aw} {v:AV} (hm:M0 f args h=none) (hd:ug E (eX E M0 d) f args h v h') (hv:¬(Has h h'∧AV.within h.nx 20 v=true)):eX E M0 (d+1) (.fn f) args h= .ret v h':=by
 simp only[eX,hm]
 have hx:¬∃v,∃h',ug E (eX E M0 d) f args h v h'∧Has h h'∧AV.within h.nx 20 v=true:=by
  rintro ⟨w,k,h1,h2,h3⟩
  obtain ⟨rfl,rfl⟩:=h1.unique hd
  exact hv ⟨h2,h3⟩
 have hy:∃p:AV×aw,ug E (eX E M0 d) f args h p.1 p.2:=⟨(v,h'),hd⟩
 rw[dif_neg hx,dif_pos hy]
 obtain ⟨h1,h2⟩:=hy.choose_spec.unique hd
 rw[h1,h2]
theorem OT {d l:Nat} {args:List AV} {h h':aw} {v:AV} (hd:Ed E (eX E M0 d) l args h v h'):eX E M0 (d+1) (.uV l) args h= .ret v h':=by
 simp only[eX]
 have hy:∃p:AV×aw,Ed E (eX E M0 d) l args h p.1 p.2:=⟨(v,h'),hd⟩
 rw[dif_pos hy]
 obtain ⟨h1,h2⟩:=hy.choose_spec.unique hd
 rw[h1,h2]
theorem IK (hE:j5 E) (hM:Fa.Ga E M0) {d:Nat} {f:FuncId} {args:List AV} {h h':aw} {v:AV} (e:eX E M0 d (.fn f) args h= .ret v h'):kD E f args h v h':=by
 cases d with
 | zero=>
   simp only[eX,BK] at e
   split at e
   · rename_i p hp
     cases e
     exact hM _ _ _ _ _ hp
   · cases e
 | succ d=>
   simp only[eX] at e
   split at e
   · rename_i p hp
     cases e
     exact hM _ _ _ _ _ hp
   · split at e
     · rename_i hx
       cases e
       obtain ⟨h',⟨n,h1⟩,h2,h3⟩:=hx.choose_spec
       exact kD.Ng ((pf hE n (BU hE hM d)).1 _ _ _ _ _ (h1 n (Nat.le_refl n))) h2 h3
     · split at e
       · rename_i hy
         cases e
         obtain ⟨n,h1⟩:=hy.choose_spec
         exact (pf hE n (BU hE hM d)).1 _ _ _ _ _ (h1 n (Nat.le_refl n))
       · cases e
end Go.Ab
end
section
namespace Go.Ab
variable {E:Env}
theorem wrap_u64 (n:Nat):IntKind.u64.wrap (n:Int)=((n%18446744073709551616:Nat):Int):=by
 show (if (false&&decide ((n:Int)%2^64≥2^63))=true then (n:Int)%2^64 - 2^64 else (n:Int)%2^64)=_
 rw[if_neg (by simp)]
 omega
theorem Gi (a b:Nat):IntKind.u64.wrap ((a:Int)+b)=(((a+b)%18446744073709551616:Nat):Int):=by rw[←wrap_u64];congr 1
theorem zO {t:TypeId} {c d:Bool} {a b:Nat} (h:a+b<18446744073709551616):cE E .add t c d (some (.int .u64 (a:Int))) (some (.int .u64 (b:Int)))=some (.int .u64 ((a+b:Nat):Int)):=by
 rw[Na,Gi,Nat.mod_eq_of_lt h]
end Go.Ab
end
section
namespace Go.Ab
variable {E:Env} {M0:Fa.F'}
structure Grow (h h':aw):Prop where
 y:Tidy h'
 a:Has h h'
 n:h.nx≤h'.nx
theorem Grow.refl {h:aw} (y:Tidy h):Grow h h:=⟨y,Has.refl h,Nat.le_refl _⟩
theorem Grow.trans {a b c:aw} (x:Grow a b) (y:Grow b c):Grow a c:=⟨y.y,x.a.trans y.a,Nat.le_trans x.n y.n⟩
theorem oq {d:Nat} {f:FuncId} {args:List AV} {h h':aw} {v:AV} {P:aw→Prop} (hm:M0 f args h=none) (hd:ug E (eX E M0 d) f args h v h') (y:Tidy h) (g:Grow h h') (p1:P h') (p2:AV.within h.nx 20 v=true→P h):
 ∃hk,eX E M0 (d+1) (.fn f) args h= .ret v hk∧Grow h hk∧P hk:=by
 by_cases hv:AV.within h.nx 20 v=true
 · exact ⟨h,aC hm hd g.a hv,Grow.refl y,p2 hv⟩
 · exact ⟨h',qb hm hd fun c=>hv c.2,g,p1⟩
theorem iy {d:Nat} {f:FuncId} {args:List AV} {h h':aw} {v:AV} (hm:M0 f args h=none) (hd:ug E (eX E M0 d) f args h v h'):
 ∃hk,eX E M0 (d+1) (.fn f) args h= .ret v hk∧(hk=h'∨(hk=h∧Has h h')):=by
 by_cases hv:Has h h'∧AV.within h.nx 20 v=true
 · exact ⟨h,aC hm hd hv.1 hv.2,.inr ⟨rfl,hv.1⟩⟩
 · exact ⟨h',qb hm hd hv,.inl rfl⟩
theorem l7 {h:aw} {p:Nat} {x o:aR} (y:Tidy h) (g:h.get p=some x):Chg h (h.put p (some o)) p o:=
 ⟨fun i z hz=>by
  by_cases e:i=p
  · subst e;exact y _ _ g
  · rw[aw.bx (Ne.symm e)] at hz;exact y _ _ hz,
  aw.bS _,fun i z hi hz=>by rw[aw.bx (Ne.symm hi)];exact hz⟩
def Kept (p:Nat) (h h':aw):Prop:=∀i x,i≠p→h.get i=some x→h'.get i=some x
theorem Has.kept {p:Nat} {h h':aw} (a:Has h h'):Kept p h h':=fun i x _ g=>a i x g
theorem Kept.store {h h':aw} {t e:TypeId} {i o:Nat} {cs:List AV} {v:AV} (y:Tidy h) (s:eG E h t (.ptr i o) v=some h') (g:h.get i=some (.cells cs e false)):Kept i h h':=fun _ _ hj gj=>oo y s g hj gj
theorem eZ.kept {h h':aw} {k:IntKind} {e:TypeId} {av:AV} {l:List Nat} {p:Nat} (x:eZ E h k e av l) (c:Kept p h h') (ho:Off p av):eZ E h' k e av l:=by
 refine ⟨⟨x.at_.size,x.at_.cells,x.at_.small,x.at_.lens,x.at_.block.imp id fun ⟨p',o',m,c',b,C,f,ro,h1,h0,h2,h3⟩=>⟨p',o',m,c',b,C,f,ro,h1,h0,c p' _ (fun e=>?_) h2,h3⟩⟩,x.agg,x.known⟩
 subst e
 exact ho _ _ _ _ h1
theorem zP (k:IntKind) (l:List Nat):(uh k l).all AV.scalar=true:=by
 simp [uh,AV.scalar]
theorem eZ.kM {h:aw} {k:IntKind} {e:TypeId} {av:AV} {l:List Nat} (x:eZ E h k e av l):kM av=some l.length:=by
 rcases x.known with rfl | ⟨p,o,n,c,b,rfl,_⟩
 · have:=x.len
   rw[wN] at this
   simp only[Option.some.injEq,AV.int.injEq,true_and] at this
   rw[show l.length=0 by omega];rfl
 · rw[x.inv.1];rfl
theorem eZ.first {h:aw} {k:IntKind} {e:TypeId} {av:AV} {l:List Nat} (x:eZ E h k e av l):eU h 1 l.length av=some (uh k l):=by
 by_cases hl:l=[]
 · subst hl
   rcases x.known with rfl | ⟨p,o,n,c,b,rfl,_⟩<;>simp [eU,uh]
 rcases x.known with rfl | ⟨p,o,n,c,b,rfl,_⟩
 · have:=x.len
   rw[wN] at this
   simp only[Option.some.injEq,AV.int.injEq,true_and] at this
   exact absurd (List.length_eq_zero_iff.1 (show l.length=0 by omega)) hl
 · obtain ⟨rfl,h2⟩:=x.inv
   obtain ⟨_,C,f,ro,g,hv⟩:=h2 hl
   have hC:o+l.length≤C.length:=by
    have hp:0<l.length:=List.length_pos_iff.2 hl
    have:=hv (l.length - 1) _ (List.getElem?_eq_getElem (show l.length - 1<l.length by omega))
    have:=(List.getElem?_eq_some_iff.1 this).1
    omega
   have h0:¬l.length=0:=fun e=>hl (List.length_eq_zero_iff.1 e)
   simp only[eU,Nat.le_refl,if_true,h0,if_false,g,Nat.mul_one,hC]
   refine congrArg some (List.ext_getElem? fun i=>?_)
   by_cases hi:i<l.length
   · rw[List.getElem?_take_of_lt hi,List.getElem?_drop,hv i _ (List.getElem?_eq_getElem hi),sE (List.getElem?_eq_getElem hi)]
   · rw[List.getElem?_eq_none (by simp;omega),List.getElem?_eq_none (by rw[mE];omega)]
theorem M9 {h:aw} {k:IntKind} {e t:TypeId} {tys:Array TypeId} {d s:AV} {l:List Nat} {p o n:Nat} {C:List AV} {f:TypeId} (h0:tys[0]? =some t) (ht:E.P.underlying t=some (.slice e)) (hs:bZ E e=some 1) (w:Va h d p o n C f) (x:eZ E h k e s l) (hn:l.length≤n):
 uy E h tys d s=some (.int .i64 (l.length:Nat),h.put p (some (.cells (setFrom C o (uh k l)) f false))):=by
 obtain ⟨c,b,rfl,hc⟩:=w.is
 have hf:=w.fits
 have Be:eU h 1 (min l.length n) s=some (uh k l):=by
  rw[Nat.min_eq_left hn];exact x.first
 simp only[uy,h0,ht,x.kM,hs,Be,w.get]
 rw[if_pos ⟨by rw[mE];omega,zP k l⟩,Nat.min_eq_left hn]
theorem OU {e:TypeId} {s bytes n:Nat} {z:AV} (hs:bZ E e=some s) (hb:fm E e=some bytes) (hz:ff E e=some z) (hl:z.cells.length=s) (h8:bytes≤1024) (hn:n<2^30):
 Nc E (some (.slice e)) (some (.int .i64 (n:Nat))) (some (.int .i64 (n:Nat)))=some (.cells (eB z.cells n) e false,fun i=> .slice i 0 n n false):=by
 have h1:(bytes:Int)*(n:Int)≤1024*2^30:=by
  have:bytes*n≤1024*2^30:=Nat.mul_le_mul h8 (Nat.le_of_lt hn)
  omega
 simp only[Nc,hs,hb,hz,hl]
 rw[if_pos ⟨by omega,by omega,by omega,by omega,trivial⟩]
 rfl
theorem BW {e:TypeId} {p n c i:Nat} {op:Bool} {z:Int} (hs:bZ E e=some 1) (hi:i<n) (hz:z=(i:Nat)):dy E (some (.slice e)) (some (.slice p 0 n c op)) (some (.int .i64 z))=some (.ptr p i):=by
 subst hz
 have:=cn (E:=E) (e:=e) (i:=p) (o:=0) (len:=n) (c:=c) (z:=i) (b:=op) hs hi
 rw[Nat.zero_add,Nat.mul_one] at this
 exact this
theorem append_nil {h:aw} {k:IntKind} {e s xt:TypeId} {tys:Array TypeId} {bytes:Nat} {z x:AV} {m:List Nat} (h0:tys[0]? =some s) (h1:tys[1]? =some xt) (hs:E.P.underlying s=some (.slice e)) (hx:E.P.underlying xt=some (.slice e)) (JZ:bZ E e=some 1) (hb:fm E e=some bytes) (qR:ff E e=some z) (hz:z.cells.length=1) (h8:bytes≤15) (x1:eZ E h k e x m) (hm:m≠ []) (hl:m.length≤1073741824):
 ∃h',bR E h tys .aN x=some (.slice h.nx 0 m.length m.length true,h')∧h.new (.cells (uh k m) e false)=some h':=by
 obtain ⟨h',n⟩:=lQ (h:=h) (.cells (uh k m) e false)
 refine ⟨h',?_,n⟩
 have hn:¬m.length=0:=fun e=>hm (List.length_eq_zero_iff.1 e)
 have Fx:(4*m.length+4096)*(bytes+1)≤1099511627776:=Nat.le_trans (Nat.mul_le_mul (show 4*m.length+4096≤68719476736 by omega) (show bytes+1≤16 by omega)) (by decide)
 simp only[bR,h0,h1,hs,hx,ks,JZ,hb,x1.kM,x1.first,qR,hz,zP,mE,Nat.mul_one,hn,Fx,n,if_true,if_false,and_self,Bool.false_eq_true]
end Go.Ab
end
section
namespace Go.Ab
variable {E:Env}
structure Pk (al:List mX) (p0 ps:List Prop):Prop where
 ok:lG p0→lG ps
section
variable {al:List mX} {p0 ps:List Prop}
theorem ZZ {p:List Prop}:Pk [] p p:=⟨id⟩
theorem AA (a:mX) (k:Pk al p0 ps):Pk (a::al) p0 ps:=⟨k.ok⟩
theorem CC (k:Pk al p0 ps):Pk (.c::al) p0 ps:=⟨k.ok⟩
def cs:Nat→List mX→List mX
 | 0,l=>l
 | n+1,l=> .c::cs n l
theorem CN (n:Nat) (k:Pk al p0 ps):Pk (cs n al) p0 ps:=⟨k.ok⟩
theorem HH {P:Prop} (h:P) (k:Pk al (P::p0) ps):Pk al p0 ps:=⟨fun c=>k.ok ⟨h,c⟩⟩
theorem VV {l:Option AV} {x:AV} (h:l=some x) (k:Pk al ((l=some x)::p0) ps):Pk (.v x::al) p0 ps:=⟨fun c=>k.ok ⟨h,c⟩⟩
theorem QQ {l:Option AV} {x:AV} (h:l=some x) (k:Pk al ((l=some x)::p0) ps):Pk (.q x::al) p0 ps:=⟨fun c=>k.ok ⟨h,c⟩⟩
theorem MM {l:Option AV} {x:AV} (h:l=some x) (k:Pk al ((l=some x)::p0) ps):Pk (.m x::al) p0 ps:=⟨fun c=>k.ok ⟨h,c⟩⟩
theorem TT (k:Pk al ((true=true)::p0) ps):Pk (.b true::al) p0 ps:=⟨fun c=>k.ok ⟨rfl,c⟩⟩
theorem FF (k:Pk al ((false=false)::p0) ps):Pk (.b false::al) p0 ps:=⟨fun c=>k.ok ⟨rfl,c⟩⟩
theorem BB {u v:Bool} (h:u=v) (k:Pk al ((u=v)::p0) ps):Pk (.b v::al) p0 ps:=⟨fun c=>k.ok ⟨h,c⟩⟩
theorem EE {call:bj} {f:Fn} {args:List AV} {h h':aw} {x:AV} (e:call f args h= .ret x h') (k:Pk al ((call f args h= .ret x h')::p0) ps):Pk (.e x h'::al) p0 ps:=⟨fun c=>k.ok ⟨e,c⟩⟩
theorem SS {h h':aw} {t:TypeId} {a v:AV} (s:eG E h t a v=some h') (k:Pk al ((AV.undef=AV.undef∧eG E h t a v=some h')::p0) ps):Pk (.e AV.undef h'::al) p0 ps:=⟨fun c=>k.ok ⟨⟨rfl,s⟩,c⟩⟩
theorem PP {l:Option (AV×aw)} {x:AV} {h':aw} (e:l=some (x,h')) (k:Pk al ((l=some (x,h'))::p0) ps):Pk (.e x h'::al) p0 ps:=⟨fun c=>k.ok ⟨e,c⟩⟩
theorem NN {h h':aw} {obj:aR} (n:h.new obj=some h') (f:Nat→AV) (k:Pk al ((∃mk:Nat→AV,some (obj,f)=some (obj,mk)∧mk h.nx=f h.nx)::(h.new obj=some h')::p0) ps):Pk (.a obj (f h.nx) h'::al) p0 ps:=⟨fun c=>k.ok ⟨⟨f,rfl,rfl⟩,n,c⟩⟩
theorem KK {h h':aw} {obj:aR} {l:Option (aR×(Nat→AV))} {f:Nat→AV} (e:l=some (obj,f)) (n:h.new obj=some h') (k:Pk al ((∃mk:Nat→AV,l=some (obj,mk)∧mk h.nx=f h.nx)::(h.new obj=some h')::p0) ps):Pk (.a obj (f h.nx) h'::al) p0 ps:=⟨fun c=>k.ok ⟨⟨f,e,rfl⟩,n,c⟩⟩
theorem LL {call:bj} {b:Code} {s s':St} {e:h_} (ev:Ev E call b s e s') (k:Pk al ((Ev E call b s e s')::p0) ps):Pk (.l e s'::al) p0 ps:=⟨fun c=>k.ok ⟨ev,c⟩⟩
end
@[irreducible] def zQ:R→List AV
  | .at _ s _ _=>s.ts
  | .bad=> []
theorem Yu {call:bj} {c:Code} {ts:List AV} {h h':aw} {ds:List pw} {rc:RC} {n:Nat} {e:h_} {al:List mX} {ps:List Prop} (k:Pk al [] ps) (hr:run E call n c ⟨ts,h,ds,rc⟩ al []= .at e ⟨zQ (run E call n c ⟨ts,h,ds,rc⟩ al []),h',ds,rc⟩ [] ps):Ev E call c ⟨ts,h,ds,rc⟩ e ⟨zQ (run E call n c ⟨ts,h,ds,rc⟩ al []),h',ds,rc⟩:=KU hr (k.ok trivial)
def rx (x:Nat→AV):Nat→Nat→List AV→List AV
 | _,0,l=>l
 | i,n+1,l=>x i::rx x (i+1) n l
def iW:Nat→List AV
 | 0=> []
 | n+1=>AV.undef::iW n
end Go.Ab
end
