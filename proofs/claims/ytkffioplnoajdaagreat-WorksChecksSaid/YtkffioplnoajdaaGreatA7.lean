import Derived.ChangeShapes
import Derived.ChangeStays
import Derived.ChangeBook
import Derived.ChangeOld
import Derived.ChangeAgain
import Derived.ChangeCalls
import Derived.Test.YtkffioplnoajdaaGreatA6
set_option linter.unusedVariables false
set_option linter.unusedSimpArgs false
section
namespace Go.Ab
variable {E:Env} {call:bq} {n:Nat} {s:St}
def opK {α β:Type} (o:Option α) (f:α→β) (d:β):β:=match o with
 | some a=>f a
 | none=>d
noncomputable def MW (E:Env) (call:bq) (n:Nat) (o:Out) (b:Code):Out:=match o with
 | .ok .normal s=>exec E call n b s
 | r=>r
theorem BA (s:St) (b:Code):MW E call n (.ok .normal s) b=exec E call n b s:=rfl
def Ua (id:Nat) (o:Out):Out:=match o with
 | .ok (.exit Si) s'=>if Si=id then .ok .normal s' else .ok (.exit Si) s'
 | r=>r
theorem BD (i j:Nat) (s:St):Ua i (.ok (.exit j) s)=if j=i then .ok .normal s else .ok (.exit j) s:=rfl
noncomputable def Ub (E:Env) (call:bq) (n:Nat) (o:Option AV) (a b:Code) (s:St):Out:=match o with
 | some (.bool true)=>exec E call n a s
 | some (.bool false)=>exec E call n b s
 | _=> .fail "cond" none
theorem M7 (a b:Code):Ub E call n (some (.bool true)) a b s=exec E call n a s:=rfl
theorem KQ (a b:Code):Ub E call n (some (.bool false)) a b s=exec E call n b s:=rfl
theorem aah (a b:Code):exec E call (n+1) (.seq a b) s=MW E call n (exec E call n a s) b:=rfl
theorem Uc (x:Operand) (a b:Code):exec E call (n+1) (.cond x a b) s=Ub E call n (fb E s.ts x) a b s:=rfl
theorem Iq (id:Nat) (b:Code):exec E call (n+1) (.block id b) s=Ua id (exec E call n b s):=rfl
theorem Ud (b:Code):exec E call (n+1) (.loop b) s=MW E call n (exec E call n b s) (.loop b):=rfl
theorem Ue (i:Nat) (ops:Array Oper):exec E call (n+1) (.region i ops false) s=lf E call ops ops.toList s:=rfl
theorem X' (i:Nat) (ops:Array Oper):exec E call (n+1) (.region i ops true) s=yn E call ops s:=rfl
noncomputable def aeB (E:Env) (call:bq) (ops:Array Oper) (o:Oper) (rest:List Oper) (s:St):Out:=match dA E call s.ts s.h s.rc o with
 | .val v h'=>lf E call ops rest {s with ts:=dt s.ts o.dst v,h:=h'}
 | .defer d=>lf E call ops rest {s with ts:=dt s.ts o.dst AV.undef,ds:=d::s.ds}
 | .s_ v=>lf E call ops rest {s with ts:=dt s.ts o.dst v,rc:= .done}
 | .panic v h'=> .ok (.panic v) {s with h:=h'}
 | .fail why q=> .fail why q
noncomputable def aeC (E:Env) (call:bq) (ops:Array Oper) (o:Oper) (rest:List Oper) (s:St):Out:=
 opK (eO E s.ts o.op) (fun p=>opK (s.h.new p.1) (fun h'=>lf E call ops rest {s with ts:=dt s.ts o.dst (p.2 s.h.nx),h:=h'}) (.fail "full" (some o))) (aeB E call ops o rest s)
noncomputable def aeD (E:Env) (call:bq) (ops:Array Oper) (o:Oper) (rest:List Oper) (s:St):Out:=
 opK (eH E s.ts s.h o.op) (fun v=>lf E call ops rest {s with ts:=dt s.ts o.dst v}) (aeC E call ops o rest s)
noncomputable def aeE (E:Env) (call:bq) (ops:Array Oper) (v:Option AV) (o:Oper) (rest:List Oper) (s:St):Out:=opK v (fun v=>lf E call ops rest {s with ts:=dt s.ts o.dst v}) (aeD E call ops o rest s)
section
variable {ops:Array Oper} {rest:List Oper} {d:Option Tmp} {op:Op} {ty:TypeId} {pos:String} {aft:Array Edge} {g:Option (Nat×Bool)}
noncomputable def MX (E:Env) (call:bq) (ops:Array Oper) (w:Bool) (o:Oper) (rest:List Oper) (s:St):Out:=
 if w=true then aeE E call ops (bC E s.ts o.op) o rest s else lf E call ops rest {s with ts:=dt s.ts o.dst AV.undef}
end
theorem hX (m:Nat) (a:List UInt8):AV.same (m+1) (.str a) (.str a)=true:=by simp [AV.same]
theorem aJ (m:Nat) (k:IntKind) (a:Int):AV.same (m+1) (.int k a) (.int k a)=true:=by simp [AV.same]
theorem hH (m:Nat) (a:Bool):AV.same (m+1) (.bool a) (.bool a)=true:=by simp [AV.same]
theorem jt (m i o l c:Nat) (b:Bool):AV.same (m+1) (.slice i o l c b) (.slice i o l c b)=true:=by simp [AV.same]
open Classical in
section
variable {ops:Array Oper} {rest:List Nat} {d:Option Tmp} {op:Op} {ty:TypeId} {pos:String} {aft:Array Edge} {g:Option (Nat×Bool)}
noncomputable def O7 (E:Env) (call:bq) (ops:Array Oper) (r:Option St) (s:St):Out:=opK r (fun s'=> .ok .normal s') (yn E call ops s)
end
theorem wrap_i64 {n:Int} (h0: -9223372036854775808≤n) (h1:n<9223372036854775808):IntKind.i64.wrap n=n:=by
 show (if (true&&decide (n%2^64≥2^63))=true then n%2^64 - 2^64 else n%2^64)=n
 by_cases hn:n%2^64≥2^63
 · rw[if_pos (by rw[Bool.true_and];exact decide_eq_true hn)];omega
 · rw[if_neg (by rw[Bool.true_and];exact fun e=>hn (of_decide_eq_true e))];omega
noncomputable def Kw (E:Env) (fn:Func) (h:au) (ts:List AV):j3:=match lD E h ts fn.results.toList with
 | some vs=> .ret (iu vs) h
 | none=> .fail "results" none
theorem QU {fuel:Nat} {f:FuncId} {fn:Func} {c:Code} (hf:E.P.funcs[f]? =some fn) (hb:fn.body=some c) {args:List AV} {h h':au} {ts:List AV} {x:lY} (hx:x= .normal∨x= .ret)
 (e:exec E call fuel c ⟨args++List.replicate (fn.ntmps - args.length) AV.undef,h,[],.no⟩= .ok x ⟨ts,h',[],.no⟩) {vs:List AV} (hr:lD E h' ts fn.results.toList=some vs):Bz E call fuel f args h= .ret (iu vs) h':=by
 unfold Bz
 simp only[hf,hb,oW,e]
 rcases hx with rfl | rfl<;>simp only[vG,dp,hr]
def DN (M:Fa.KO):bq:=fun F args h=>match F with
 | .fn f=>match M f args h with
   | some p=> .ret p.1 p.2
   | none=> .fail "" none
 | .Bh _=> .fail "" none
theorem QV {M:Fa.KO} (hM:Fa.Ip E M):iN E (DN M):=by
 refine ⟨fun F args h v h' e=>?_,fun F args h v h' e=>?_⟩
 · cases F with
   | Bh l=>cases e
   | fn f=>
     simp only[DN] at e
     cases hm:M f args h with
     | none=>rw[hm] at e;cases e
     | some p=>
       rw[hm] at e
       simp only[j3.ret.injEq] at e
       obtain ⟨rfl,rfl⟩:=e
       exact (hM _ _ _ _ _ hm).any
 · cases F with
   | Bh l=>cases e
   | fn f=>
     simp only[DN] at e
     cases hm:M f args h with
     | none=>rw[hm] at e;cases e
     | some p=>rw[hm] at e;cases e
def ag3 (E:Env) (x:Option (TypeId×Nat)) (v:Option AV):Option AV:=match x,v with
 | some (t,o),some (.ptr i off)=>match bU E t with
   | some n=>if n=0 then none else some (.ptr i (off+o))
   | none=>none
 | _,_=>none
def gE (E:Env) (op:BinOp) (t:TypeId) (xc yc:Bool) (a b:Option AV):Option AV:=match a,b with
 | some a,some b=>nf E op t xc yc a b
 | _,_=>none
theorem Ya {ts:List AV} (op:BinOp) (t t':TypeId) (x y:Operand):bC E ts (.binOp op t x y t')=gE E op t (isConst x) (isConst y) (fb E ts x) (fb E ts y):=by
 simp only[bC,gE]
 cases fb E ts x<;>cases fb E ts y<;>rfl
theorem Yb (t:TypeId) (c d:Bool) (k:IntKind) (a b:Int):gE E .add t c d (some (.int k a)) (some (.int k b))=some (.int k (k.wrap (a+b))):=by simp [gE,nf,dK]
theorem Yc (t:TypeId) (c d:Bool) (k:IntKind) (a b:Int):gE E .sub t c d (some (.int k a)) (some (.int k b))=some (.int k (k.wrap (a - b))):=by simp [gE,nf,dK]
theorem Yd (t:TypeId) (c d:Bool) (k:IntKind) (a b:Int):gE E .mul t c d (some (.int k a)) (some (.int k b))=some (.int k (k.wrap (a*b))):=by simp [gE,nf,dK]
theorem Ye (t:TypeId) (c d:Bool) (k:IntKind) (a b:Int):gE E .eql t c d (some (.int k a)) (some (.int k b))=some (.bool (decide (a=b))):=by simp [gE,nf,dK];rfl
theorem Yf (t:TypeId) (c d:Bool) (k:IntKind) (a b:Int):gE E .neq t c d (some (.int k a)) (some (.int k b))=some (.bool (!decide (a=b))):=by simp [gE,nf,dK];rfl
theorem Yg (t:TypeId) (c d:Bool) (k:IntKind) (a b:Int):gE E .lss t c d (some (.int k a)) (some (.int k b))=some (.bool (decide (a<b))):=by simp [gE,nf,dK]
theorem Yh (t:TypeId) (c d:Bool) (k:IntKind) (a b:Int):gE E .leq t c d (some (.int k a)) (some (.int k b))=some (.bool (decide (a≤b))):=by simp [gE,nf,dK]
theorem Yi (t:TypeId) (c d:Bool) (k:IntKind) (a b:Int):gE E .gtr t c d (some (.int k a)) (some (.int k b))=some (.bool (decide (b<a))):=by simp [gE,nf,dK]
theorem Yj (t:TypeId) (c d:Bool) (k:IntKind) (a b:Int):gE E .geq t c d (some (.int k a)) (some (.int k b))=some (.bool (decide (b≤a))):=by simp [gE,nf,dK]
theorem Uf (t:TypeId) (c d:Bool) (a b:List UInt8):gE E .eql t c d (some (.str a)) (some (.str b))=some (.bool (decide (a=b))):=by
 simp only[gE,nf,wK,Option.some.injEq,AV.bool.injEq]
 exact Bool.eq_iff_iff.2 (by simp)
def unK (op:UnOp) (a:Option AV):Option AV:=match a with
 | some a=>unA op a
 | none=>none
def bS (E:Env) (d:Option TypeDesc) (v i:Option AV):Option AV:=match d,v,i with
 | some (.slice elem),some (.slice i o len _ _),some (.int _ n)=>match bU E elem with
  | some size=>if 0≤n∧n<len then some (.ptr i (o+n.toNat*size)) else none
  | none=>none
 | some (.array len elem),some (.ptr i o),some (.int _ n)=>match bU E elem with
  | some size=>if 0≤n∧n<len then some (.ptr i (o+n.toNat*size)) else none
  | none=>none
 | _,_,_=>none
theorem KR {ts:List AV} (t:TypeId) (x i:Operand):bC E ts (.indexAddr t x i)=bS E (E.P.underlying t) (fb E ts x) (fb E ts i):=by
 simp only[bC,bS]
 split<;>simp_all<;>(split<;>simp_all)
theorem nu {e:TypeId} {i o len c z:Nat} {b:Bool} {size:Nat} (hs:bU E e=some size) (hz:z<len):bS E (some (.slice e)) (some (.slice i o len c b)) (some (.int .i64 (z:Int)))=some (.ptr i (o+z*size)):=by
 simp only[bS,hs]
 rw[if_pos ⟨by omega,by omega⟩,Int.toNat_natCast]
def b6 (d:Option TypeDesc) (v:Option AV):Option AV:=match d,v with
 | some (.slice _),some .aH=>some (.int .i64 0)
 | some (.slice _),some (.slice _ _ n _ _)=>some (.int .i64 n)
 | some (.slice _),some .eN=>some (.int .i64 0)
 | some .string,some (.str s)=>some (.int .i64 s.length)
 | some (.array n _),some _=>some (.int .i64 n)
 | some (.map _ _),some .eF=>some (.int .i64 0)
 | _,_=>none
theorem aeF {ts:List AV} (x:Operand) (t:TypeId):bC E ts (.call ⟨.builtin .len, #[x], #[t]⟩)=b6 (E.P.underlying t) (fb E ts x):=by
 simp only[bC,gI,eX,List.getElem?_toArray,List.getElem?_cons_zero]
 generalize fb E ts x=o
 cases o with
 | none=>
   generalize E.P.underlying t=u
   cases u with
   | none=>rfl
   | some d=>cases d<;>rfl
 | some v=>
   simp only
   generalize E.P.underlying t=u
   cases u with
   | none=>rfl
   | some d=>cases d<;>cases v<;>rfl
theorem gn {ts:List AV} {h:au} (t:TypeId) (x:Operand):eH E ts h (.load t x)=opK (fb E ts x) (bh E h t) none:=by
 simp only[eH];cases fb E ts x<;>rfl
theorem iw (e:TypeId) (i o n c:Nat) (b:Bool):b6 (some (.slice e)) (some (.slice i o n c b))=some (.int .i64 n):=rfl
theorem yS (e:TypeId):b6 (some (.slice e)) (some .aH)=some (.int .i64 0):=rfl
theorem abB (e:TypeId):b6 (some (.slice e)) (some .eN)=some (.int .i64 0):=rfl
def Tidy (h:au):Prop:=∀i o,h.get i=some o→i<h.nx
def xm (E:Env) (d:Option TypeDesc) (v i:Option AV):Option AV:=match d,v,i with
 | some (.array len elem),some (.agg cs),some (.int _ n)=>match bU E elem with
  | some size=>if 0≤n∧n<len then iK E elem cs (n.toNat*size) else none
  | none=>none
 | some .string,some (.str s),some (.int _ n)=>if 0≤n then (match s[n.toNat]? with | some b=>some (.int .u8 b.toNat) | none=>none) else none
 | _,_,_=>none
theorem Yk {ts:List AV} (t:TypeId) (x i:Operand):bC E ts (.index t x i)=xm E (E.P.underlying t) (fb E ts x) (fb E ts i):=by
 simp only[bC,xm]
 split
 · simp_all
   split<;>simp_all
 · rename_i s k n _ _ _
   simp_all
   cases s[n.toNat]? <;>rfl
 · simp_all
theorem Ug {s:List UInt8} {z:Nat} {b:UInt8} (h:s[z]? =some b):xm E (some .string) (some (.str s)) (some (.int .i64 (z:Int)))=some (.int .u8 b.toNat):=by
 simp only[xm]
 rw[if_pos (by omega),Int.toNat_natCast,h]
end Go.Ab
end
section
namespace Go.Ab
open Go.ChangeShapes Go.WideShapes Go.RowKit
variable {E:Env}
def yT (h:au):Prop:=∀i o,h.get i=some o→o.rw=false
theorem OK.show {φ:Ph} {h:au} {w:World} (ok:OK E φ h w) (SZ:yT h) {b off:Nat} {cs:List AV} {e:TypeId} (eY:cs≠ []) (hz:∀m,cs≠ [.map m])
 (hC:∀(k:Nat) (x:AV),cs[k]? =some x→∃y,w.cell? ⟨b,off+k,none⟩=some y∧VR φ x y):
 ∃h',h.new (.cells cs e true)=some h'∧OK E (φ.add h.nx ⟨b,off,0⟩) h' w∧φ.le (φ.add h.nx ⟨b,off,0⟩)∧yT h'∧h'.nx=h.nx+1∧h'.get h.nx=some (.cells cs e true)∧(∀j,j≠h.nx→h'.get j=h.get j)∧(φ.add h.nx ⟨b,off,0⟩) h.nx=some ⟨b,off,0⟩:=by
 obtain ⟨h',hn⟩:∃h',h.new (.cells cs e true)=some h':=by
  exact ⟨_,au.HB _ _⟩
 obtain ⟨np,abC,C8,hold⟩:=au.mD hn
 have Ft:φ h.nx=none:=by
  cases e:φ h.nx with
  | none=>rfl
  | some m=>exact absurd (ok.B6 _ _ e) (Nat.lt_irrefl _)
 have hle:φ.le (φ.add h.nx ⟨b,off,0⟩):=fun i m hm=>by
  unfold Ph.add;split
  · rename_i e;subst e;rw[Ft] at hm;simp at hm
  · exact hm
 have lk:∀j,j≠h.nx→(φ.add h.nx ⟨b,off,0⟩) j=φ j:=fun j hj=>by simp [Ph.add,hj]
 have hS:(φ.add h.nx ⟨b,off,0⟩) h.nx=some ⟨b,off,0⟩:=by simp [Ph.add]
 have gS:∀j p,h'.get j=some p→(j=h.nx∧p= .cells cs e true)∨(j≠h.nx∧h.get j=some p):=fun j p hj=>by
  by_cases e:j=h.nx
  · subst e;rw[C8] at hj;simp at hj;exact .inl ⟨rfl,hj.symm⟩
  · rw[hold j e] at hj;exact .inr ⟨e,hj⟩
 have hlen:0<cs.length:=List.length_pos_iff.2 eY
 obtain ⟨y0,hy0,_⟩:=hC 0 cs[0] (by simp [hlen])
 obtain ⟨C,e',lo,hi,hw⟩:∃C e' lo hi,w.heap[b]? =some (.cells C e' (lo,hi)):=by
  unfold World.cell? at hy0
  split at hy0
  · rename_i C e' fz hw;obtain ⟨lo,hi⟩:=fz;exact ⟨C,e',lo,hi,hw⟩
  · cases hy0
 have GQ:∀k,w.cell? ⟨b,off+k,none⟩=C[off+k]? :=fun k=>by simp [World.cell?,hw]
 refine ⟨h',hn,⟨fun i m hm=>?_,by rw[abC];exact Nat.le_succ_of_le ok.nx,fun g hg=>hle _ _ (ok.wN g hg),fun j p m hj hm=>?_,fun j k p q m n hj hk hm tw hw hb=>?_⟩,hle,fun j p hj=>?_,abC,C8,hold,hS⟩
 · rw[abC]
   by_cases e:i=h.nx
   · omega
   · rw[lk i e] at hm;have:=ok.B6 i m hm;omega
 · rcases gS j p hj with ⟨rfl,rfl⟩ | ⟨HC,rj⟩
   · rw[hS] at hm;simp at hm;subst hm
     refine ⟨C,e',lo,hi,hw,?_,fun k x hk=>?_,(fun h=>by cases h),fun _ m hm=>absurd hm (hz m)⟩
     · obtain ⟨y,hy,_⟩:=hC (cs.length - 1) cs[cs.length - 1] (List.getElem?_eq_getElem (by omega))
       rw[GQ] at hy
       have:=(Array.getElem?_eq_some_iff.1 hy).1
       simp only[f',Nat.zero_mul]
       omega
     · obtain ⟨y,hy,hv⟩:=hC k x hk
       rw[GQ] at hy
       exact ⟨y,hy,hv.mono hle⟩
   · rw[lk j HC] at hm
     exact (ok.live j p m rj hm).mono hle
 · rcases gS j p hj with ⟨rfl,rfl⟩ | ⟨ag4,rj⟩<;>rcases gS k q hk with ⟨rfl,rfl⟩ | ⟨ag5,Fs⟩
   · rfl
   · rw[SZ k q Fs] at hw;rcases hw with h | h<;>cases h
   · rw[SZ j p rj] at hw;rcases hw with h | h<;>cases h
   · rw[lk j ag4] at hm;rw[lk k ag5] at tw;exact ok.inj _ _ _ _ _ _ rj Fs hm tw hw hb
 · rcases gS j p hj with ⟨_,rfl⟩ | ⟨_,rj⟩
   · rfl
   · exact SZ j p rj
theorem yT.begin {G:Nat} {l:List X_}:yT (mK G l):=fun i o h=>by
 obtain ⟨x,_,_,rfl⟩:=sm h;rfl
theorem Ir {f:FuncId} {avs:List AV} {h h':au} (r:mF E f avs h (.bool true) h') {φ:Ph} {w:World} {vs:List Value} (ok:OK E φ h w) (hl:LR φ avs vs) (SZ:yT h):
 Calls E.P f vs.toArray w fun en w'=>en= .returned (.bool true)∧w.keptBut w' (fun _=>False):=fun cs=>by
 obtain ⟨_,kb⟩:=r φ w vs ok hl
 obtain ⟨φ',w',v',fr,hv,_,tx,h1,h2,h3⟩:=kb cs
 cases hv
 refine ⟨.returned (.bool true),w',fr,⟨rfl,tx.os,tx.output,fun i hi=>?_⟩,h1,h2,h3⟩
 rw[tx.Fq i hi (fun j o l' q1 q2 _=>by rw[SZ j o q1] at q2;cases q2)]
 cases w.heap[i]? with
 | none=>rfl
 | some o=>cases o with
   | cells c t fz=>exact ⟨rfl,rfl,rfl,fun _ _=>rfl⟩
   | map es c=>exact .inr ⟨rfl,rfl⟩
   | _=>rfl
section
variable {H:Type} {enc:TypeId×Value→H} {w:World} {base:Nat} {spare:Nat→Bool} {held:Bool} {fuel:Nat} {t:TypeId} {x:DataW H×List MemPlace}
end
section
variable {H:Type} {enc:TypeId×Value→H} {P:Program} {w w':World}
theorem DP (hk:w.keptBut w' (fun _=>False)) {p:MemPlace} (hp:p.block<w.heap.size):w.sameAt w' p:=by
 have h:=hk.block hp (fun _ h=>h.elim)
 cases p with
 | cell b off=>simp only[World.sameAt,World.cell?];rw[show w'.heap[b]? =w.heap[b]? from h]
 | map b=>exact h
theorem GR (hl:laidOutB P=true) (hk:w.keptBut w' (fun _=>False)):∀{ts:List TypeId} {vs:List Value} {ds:List (DataW H)} {ps:List MemPlace},(∀t∈ts,P.readableRec t=true∧t<P.types.size)→
 DataW.TrodAll enc P w 0 (fun _=>true) true ts vs ds ps→DataW.TrodAll enc P w' 0 (fun b=>decide (b<w.heap.size)) true ts vs ds ps
 | [],vs,ds,ps,_,h=>by
   obtain ⟨rfl,rfl,rfl⟩:=trodAll_nil h
   exact trodAll_mk0
 | t::ts,vs,ds,ps,hr,h=>by
   have np:=DataW.TrodAll.lt h
   obtain ⟨v,rY,d,Ar,p,p',rfl,rfl,rfl,⟨n,h1⟩,h2⟩:=trodAll_cons h
   obtain ⟨h3,h4⟩:=hr t (by simp)
   refine trodAll_cons_mk ⟨n,?_⟩ (GR hl hk (fun t ht=>hr t (by simp [ht])) h2)
   exact DataW.trod_stays (kids_book hl h3) (book_sized h3) (fun h=>by cases h) ⟨h4,book_self t⟩ h1 (fun q hq=>DP hk (np q (by simp [hq]))) (fun q hq=>by simpa using np q (by simp [hq]))
end
end Go.Ab
end
section
namespace Go.Ab
variable {E:Env}
end Go.Ab
end
section
namespace Go.Ab
variable {E:Env} {call:bq}
def Ev (E:Env) (call:bq) (c:Code) (s:St) (e:lY) (s':St):Prop:=∃n0,∀n,n0≤n→exec E call n c s= .ok e s'
theorem Ev.of {c:Code} {s:St} {e:lY} {s':St} (h:∀n,exec E call (n+1) c s= .ok e s'):Ev E call c s e s':=⟨1,fun n hn=>by
 obtain ⟨k,rfl⟩:∃k,n=k+1:=⟨n - 1,by omega⟩
 exact h k⟩
theorem Ev.seq {a b:Code} {s s1 s':St} {e:lY} (h1:Ev E call a s .normal s1) (h2:Ev E call b s1 e s'):Ev E call (.seq a b) s e s':=by
 obtain ⟨n1,h1⟩:=h1
 obtain ⟨n2,h2⟩:=h2
 refine ⟨n1+n2+1,fun n hn=>?_⟩
 obtain ⟨k,rfl⟩:∃k,n=k+1:=⟨n - 1,by omega⟩
 rw[aah,h1 k (by omega),BA]
 exact h2 k (by omega)
theorem Ev.seq' {a b:Code} {s s':St} {e:lY} (he:e≠ .normal) (h1:Ev E call a s e s'):Ev E call (.seq a b) s e s':=by
 obtain ⟨n1,h1⟩:=h1
 refine ⟨n1+1,fun n hn=>?_⟩
 obtain ⟨k,rfl⟩:∃k,n=k+1:=⟨n - 1,by omega⟩
 rw[aah,h1 k (by omega)]
 cases e with
 | normal=>exact absurd rfl he
 | _=>rfl
theorem Ev.loop {b:Code} {s s1 s':St} {e:lY} (h1:Ev E call b s .normal s1) (h2:Ev E call (.loop b) s1 e s'):Ev E call (.loop b) s e s':=by
 obtain ⟨n1,h1⟩:=h1
 obtain ⟨n2,h2⟩:=h2
 refine ⟨n1+n2+1,fun n hn=>?_⟩
 obtain ⟨k,rfl⟩:∃k,n=k+1:=⟨n - 1,by omega⟩
 rw[Ud,h1 k (by omega),BA]
 exact h2 k (by omega)
theorem Ev.exit {b:Code} {s s':St} {e:lY} (he:e≠ .normal) (h1:Ev E call b s e s'):Ev E call (.loop b) s e s':=by
 obtain ⟨n1,h1⟩:=h1
 refine ⟨n1+1,fun n hn=>?_⟩
 obtain ⟨k,rfl⟩:∃k,n=k+1:=⟨n - 1,by omega⟩
 rw[Ud,h1 k (by omega)]
 cases e with
 | normal=>exact absurd rfl he
 | _=>rfl
theorem Ev.ret {b:Code} {s s':St} (h1:Ev E call b s .ret s'):Ev E call (.loop b) s .ret s':=Ev.exit (by simp) h1
theorem Ev.out {b:Code} {s s':St} {i:Nat} (h1:Ev E call b s (.exit i) s'):Ev E call (.loop b) s (.exit i) s':=Ev.exit (by simp) h1
inductive o8 where
 | c
 | v (x:AV)
 | q (x:AV)
 | m (x:AV)
 | n (h:au)
 | a (obj:aM) (x:AV) (h:au)
 | e (x:AV) (h:au)
 | p (x:AV) (h:au)
 | b (x:Bool)
 | l (e:lY) (s:St)
def ng:List Prop→Prop
 | []=>True
 | p::ps=>p∧ng ps
inductive R where
 | bad
 | at (e:lY) (s:St) (as:List o8) (ps:List Prop)
def R.go (k:St→List o8→List Prop→R):R→R
 | .at .normal s as ps=>k s as ps
 | r=>r
theorem R.aeG {k:St→List o8→List Prop→R} {r:R} {e:lY} {s:St} {as:List o8} {ps:List Prop} (h:r.go k= .at e s as ps):(∃s1 vH te,r= .at .normal s1 vH te∧k s1 vH te= .at e s as ps)∨(r= .at e s as ps∧e≠ .normal):=by
 unfold R.go at h
 split at h
 · exact .inl ⟨_,_,_,rfl,h⟩
 · rename_i eY
   refine .inr ⟨h,fun he=>?_⟩
   subst he;exact eY _ _ _ h
def aeH (E:Env) (ts:List AV):List Operand→List TypeId→Option AV
 | [x],[t]=>b6 (E.P.underlying t) (fb E ts x)
 | _,_=>none
def BE (c a b:Option AV):Option AV:=match c with
 | some (.bool true)=>a
 | some (.bool false)=>b
 | _=>none
theorem Yl {ts:List AV} (c a b:Operand):bC E ts (.pick c a b)=BE (fb E ts c) (fb E ts a) (fb E ts b):=by
 simp only[bC]
 generalize fb E ts c=x
 cases x with
 | none=>rfl
 | some v=>cases v with
   | bool b=>cases b<;>rfl
   | _=>rfl
theorem Uh {c:Bool} {a b:Option AV} (h:c=true):BE (some (.bool c)) a b=a:=by rw[h];rfl
theorem bA {c:Bool} {a b:Option AV} (h:c=false):BE (some (.bool c)) a b=b:=by rw[h];rfl
def Ym (E:Env) (ts:List AV) (op:Op):Option AV:=match op with
 | .indexAddr t x i=>bS E (E.P.underlying t) (fb E ts x) (fb E ts i)
 | .index t x i=>xm E (E.P.underlying t) (fb E ts x) (fb E ts i)
 | .binOp op t x y _=>gE E op t (isConst x) (isConst y) (fb E ts x) (fb E ts y)
 | .pick c a b=>BE (fb E ts c) (fb E ts a) (fb E ts b)
 | .call c=>match c.callee with
   | .builtin .len=>aeH E ts c.args.toList c.argTypes.toList
   | _=>none
 | _=>none
theorem DQ {α:Type} {a:Array α} {l:List α} (h:a.toList=l):a=l.toArray:=by rw[←h]
theorem Pl {ts:List AV} {op:Op} {v:AV} (e:Ym E ts op=some v):bC E ts op=some v:=by
 unfold Ym at e
 split at e
 · rw[←KR] at e;exact e
 · rw[←Yk] at e;exact e
 · rename_i o t x y t';exact (Ya o t t' x y).trans e
 · rename_i c a b;exact (Yl c a b).trans e
 · rename_i c
   obtain ⟨cl,args,tys⟩:=c
   simp only at e
   split at e
   · unfold aeH at e
     split at e
     · rename_i x t hx ht
       rw[DQ hx,DQ ht]
       exact (aeF x t).trans e
     · cases e
   · cases e
 · cases e
noncomputable def Ui (E:Env) (ts:List AV) (h:au) (op:Op):Option AV:=match op with
 | .load t x=>opK (fb E ts x) (bh E h t) none
 | op=>eH E ts h op
theorem Is {ts:List AV} {h:au} {op:Op} {v:AV} (e:Ui E ts h op=some v):eH E ts h op=some v:=by
 unfold Ui at e
 split at e
 · rw[gn];exact e
 · exact e
def yU (E:Env) (d:Option TypeDesc) (l c:Option AV):Option (aM×(Nat→AV)):=match d,l,c with
 | some (.slice elem),some (.int _ len),some (.int _ cap)=>match bU E elem,ke E elem,gR E elem with
   | some n,some bytes,some z=>
     if 0≤len∧len≤cap∧cap<2^30∧(bytes:Int)*cap≤2^47∧z.cells.length=n then
      some (.cells (bT z.cells cap.toNat) elem false,fun i=> .slice i 0 len.toNat cap.toNat false)
     else none
   | _,_,_=>none
 | _,_,_=>none
def Yn (E:Env) (ts:List AV) (op:Op):Option (aM×(Nat→AV)):=match op with
 | .makeSlice t l c=>yU E (E.P.underlying t) (fb E ts l) (fb E ts c)
 | op=>eO E ts op
theorem Pm (ts:List AV) (op:Op):Yn E ts op=eO E ts op:=by
 unfold Yn
 split
 · rename_i t l c
   simp only[eO]
   generalize E.P.underlying t=d
   generalize fb E ts l=x
   generalize fb E ts c=y
   rfl
 · rfl
noncomputable def Yo (E:Env) (call:bq) (ts:List AV) (h:au) (rc:RC) (o:Oper) (x:AV) (h':au):Prop:=match o.op with
 | .store t a v=>match fb E ts a,fb E ts v with
   | some a,some v=>x=AV.undef∧dL E h t a v=some h'
   | _,_=>False
 | .call c=>match c.callee with
   | .builtin .append=>match gI E ts c.args.toList with
     | some [s,y]=>dJ E h c.argTypes s y=some (x,h')
     | _=>False
   | .builtin .copy=>match gI E ts c.args.toList with
     | some [s,y]=>s9 E h c.argTypes s y=some (x,h')
     | _=>False
   | .value _=>match callee E ts c with
     | some (f,args)=>match kJ E f with
       | some g=>g args h=some (x,h')
       | none=>call f args h= .ret x h'
     | none=>False
   | _=>dA E call ts h rc o= .val x h'
 | .convert src dst y=>Gm E h src dst (fb E ts y)=some (x,h')
 | _=>dA E call ts h rc o= .val x h'
theorem Pn {ts:List AV} {h:au} {rc:RC} {o:Oper} {x:AV} {h':au} (e:Yo E call ts h rc o x h'):dA E call ts h rc o= .val x h':=by
 unfold Yo at e
 split at e
 · rename_i t a v ho
   split at e
   · rename_i a' v' h1 h2
     obtain ⟨rfl,e⟩:=e
     unfold dA
     simp only[ho,h1,h2,e]
   · exact e.elim
 · rename_i c ho
   split at e
   · rename_i hc
     split at e
     · rename_i h1
       unfold dA
       simp only[ho,hc,h1,e]
     · exact e.elim
   · rename_i hc
     split at e
     · rename_i h1
       unfold dA
       simp only[ho,hc,h1,e]
     · exact e.elim
   · rename_i hc
     split at e
     · rename_i h1
       split at e
       · rename_i h2
         unfold dA
         simp only[ho,hc,h1,h2,e]
       · rename_i h2
         unfold dA
         simp only[ho,hc,h1,h2,e]
     · exact e.elim
   · exact e
 · rename_i src dst y ho
   unfold dA
   simp only[ho,e]
 · exact e
def QW {β:Type} (k:List AV→β):List AV→Nat→AV→β
 | [],_,_=>k []
 | _::xs,0,v=>k (v::xs)
 | x::xs,d+1,v=>QW (fun ys=>k (x::ys)) xs d v
theorem It {β:Type}:∀(k:List AV→β) (ts:List AV) (d:Nat) (v:AV),QW k ts d v=k (ts.set d v)
 | k,[],_,_=>by simp [QW]
 | k,_::xs,0,v=>rfl
 | k,x::xs,d+1,v=>by rw[QW,It];rfl
def uJ (s:St) (d:Option Tmp) (v:AV) (h:au) (as:List o8) (ps:List Prop):R:=match d with
 | some i=>QW (fun ts=> .at .normal ⟨ts,h,s.ds,s.rc⟩ as ps) s.ts i v
 | none=> .at .normal ⟨s.ts,h,s.ds,s.rc⟩ as ps
theorem oa (s:St) (d:Option Tmp) (v:AV) (h:au) (as:List o8) (ps:List Prop):Go.Ab.uJ s d v h as ps= .at .normal {s with ts:=dt s.ts d v,h:=h} as ps:=by
 cases d with
 | none=>rfl
 | some i=>exact It _ _ _ _
noncomputable def KS (E:Env) (call:bq) (o:Oper) (s:St) (as:List o8) (ps:List Prop):R:=match as with
 | .c::as=>match bC E s.ts o.op with
   | some v=>uJ s o.dst v s.h as ps
   | none=> .bad
 | .v x::as=>uJ s o.dst x s.h as ((Ym E s.ts o.op=some x)::ps)
 | .q x::as=>uJ s o.dst x s.h as ((bC E s.ts o.op=some x)::ps)
 | .m x::as=>match bC E s.ts o.op with
   | none=>uJ s o.dst x s.h as ((Ui E s.ts s.h o.op=some x)::ps)
   | some _=> .bad
 | .n h'::as=>match bC E s.ts o.op,eH E s.ts s.h o.op,eO E s.ts o.op with
   | none,none,some (obj,mk)=>uJ s o.dst (mk s.h.nx) h' as ((s.h.new obj=some h')::ps)
   | _,_,_=> .bad
 | .a obj x h'::as=>match bC E s.ts o.op,eH E s.ts s.h o.op with
   | none,none=>uJ s o.dst x h' as ((∃mk,Yn E s.ts o.op=some (obj,mk)∧mk s.h.nx=x)::(s.h.new obj=some h')::ps)
   | _,_=> .bad
 | .e x h'::as=>match bC E s.ts o.op,eH E s.ts s.h o.op,eO E s.ts o.op with
   | none,none,none=>uJ s o.dst x h' as (Yo E call s.ts s.h s.rc o x h'::ps)
   | _,_,_=> .bad
 | .p x h'::as=>match bC E s.ts o.op,eH E s.ts s.h o.op,eO E s.ts o.op with
   | none,none,none=> .at (.panic x) {s with h:=h'} as ((dA E call s.ts s.h s.rc o= .panic x h')::ps)
   | _,_,_=> .bad
 | _=> .bad
theorem BF {o:Oper} {s:St} {as:List o8} {ps:List Prop} {e:lY} {s':St} {yh:List o8} {tv:List Prop} (hr:KS E call o s as ps= .at e s' yh tv) (hp:ng tv):ng ps∧Hz E call s o= .ok e s':=by
 have seen:∀{x:AV},(bC E s.ts o.op=some x∨(bC E s.ts o.op=none∧eH E s.ts s.h o.op=some x))→Hz E call s o= .ok .normal {s with ts:=dt s.ts o.dst x}:=by
  rintro x (h | ⟨h1,h2⟩)<;>unfold Hz
  · rw[h]
  · rw[h1,h2]
 unfold KS at hr
 split at hr
 · split at hr
   · rename_i v hv
     rw[oa] at hr;cases hr
     exact ⟨hp,seen (.inl hv)⟩
   · cases hr
 · rw[oa] at hr;cases hr
   exact ⟨hp.2,seen (.inl (Pl hp.1))⟩
 · rw[oa] at hr;cases hr
   exact ⟨hp.2,seen (.inl hp.1)⟩
 · split at hr
   · rename_i h1
     rw[oa] at hr;cases hr
     exact ⟨hp.2,seen (.inr ⟨h1,Is hp.1⟩)⟩
   · cases hr
 · split at hr
   · rename_i h1 h2 h3
     rw[oa] at hr;cases hr
     refine ⟨hp.2,?_⟩
     unfold Hz
     simp only[h1,h2,h3,hp.1]
   · cases hr
 · split at hr
   · rename_i h1 h2
     rw[oa] at hr;cases hr
     obtain ⟨⟨mk,h3,h4⟩,h5,hp⟩:=hp
     rw[Pm] at h3
     refine ⟨hp,?_⟩
     unfold Hz
     simp only[h1,h2,h3,h4,h5]
   · cases hr
 · split at hr
   · rename_i h1 h2 h3
     rw[oa] at hr;cases hr
     refine ⟨hp.2,?_⟩
     unfold Hz
     simp only[h1,h2,h3,Pn hp.1]
   · cases hr
 · split at hr
   · rename_i h1 h2 h3
     cases hr
     refine ⟨hp.2,?_⟩
     unfold Hz
     simp only[h1,h2,h3,hp.1]
   · cases hr
 · cases hr
inductive Gd where
 | yes
 | no
 | ask (v want:Bool)
def KT (want:Bool):Option AV→Gd
 | some (.bool v)=> .ask v want
 | _=> .no
def Iu (ops:Array Oper) (ts:List AV) (g:Option (Nat×Bool)):Gd:=match g with
 | none=> .yes
 | some (j,want)=>match (ops[j]?).bind (·.dst) with
   | none=> .no
   | some d=>KT want ts[d]?
theorem GS (ops:Array Oper) (ts:List AV) (o:Oper):cJ ops ts o=(match Iu ops ts o.guard with
 | .yes=>true
 | .no=>false
 | .ask v want=>v==want):=by
 unfold cJ Iu
 cases o.guard with
 | none=>rfl
 | some q=>
   obtain ⟨j,want⟩:=q
   simp only
   cases (ops[j]?).bind (·.dst) with
   | none=>rfl
   | some d=>
     simp only
     generalize ts[d]? =y
     unfold KT
     cases y with
     | none=>rfl
     | some z=>cases z<;>rfl
noncomputable def qK (E:Env) (call:bq) (ops:Array Oper):List Oper→St→List o8→List Prop→R
 | [],s,as,ps=> .at .normal s as ps
 | o::rest,s,as,ps=>match Iu ops s.ts o.guard with
   | .yes=>(KS E call o s as ps).go (qK E call ops rest)
   | .no=>(uJ s o.dst AV.undef s.h as ps).go (qK E call ops rest)
   | .ask v want=>match as with
     | .b x::as=>bif x==want then (KS E call o s as ((v=x)::ps)).go (qK E call ops rest) else (uJ s o.dst AV.undef s.h as ((v=x)::ps)).go (qK E call ops rest)
     | _=> .bad
theorem yV {ops:Array Oper}:∀(l:List Oper) (s:St) (as:List o8) (ps:List Prop) (e:lY) (s':St) (yh:List o8) (tv:List Prop),qK E call ops l s as ps= .at e s' yh tv→ng tv→ng ps∧lf E call ops l s= .ok e s'
 | [],s,as,ps,e,s',yh,tv,hr,hp=>by cases hr;exact ⟨hp,rfl⟩
 | o::rest,s,as,ps,e,s',yh,tv,hr,hp=>by
   have ih:=yV (ops:=ops) rest
   have abD:∀(vH:List o8) (te:List Prop),(KS E call o s vH te).go (qK E call ops rest)= .at e s' yh tv→ng te∧(cJ ops s.ts o=true→lf E call ops (o::rest) s= .ok e s'):=by
    intro vH te h
    rcases R.aeG h with ⟨s1,W6,ZP,h1,h2⟩ | ⟨h1,eY⟩
    · obtain ⟨h3,h4⟩:=ih _ _ _ _ _ _ _ h2 hp
      obtain ⟨h5,h6⟩:=BF h1 h3
      refine ⟨h5,fun hw=>?_⟩
      unfold lf
      rw[if_pos hw,h6];exact h4
    · obtain ⟨h5,h6⟩:=BF h1 hp
      refine ⟨h5,fun hw=>?_⟩
      unfold lf
      rw[if_pos hw,h6]
      cases e with
      | normal=>exact absurd rfl eY
      | _=>rfl
   have abE:∀(vH:List o8) (te:List Prop),(uJ s o.dst AV.undef s.h vH te).go (qK E call ops rest)= .at e s' yh tv→ng te∧(cJ ops s.ts o=false→lf E call ops (o::rest) s= .ok e s'):=by
    intro vH te h
    rw[oa] at h
    obtain ⟨h3,h4⟩:=ih _ _ _ _ _ _ _ (show qK E call ops rest _ vH te=_ from h) hp
    refine ⟨h3,fun hw=>?_⟩
    unfold lf
    rw[if_neg (by rw[hw];exact Bool.false_ne_true)]
    exact h4
   have hg:=GS ops s.ts o
   unfold qK at hr
   split at hr
   · rename_i h1;rw[h1] at hg;exact ⟨(abD _ _ hr).1,(abD _ _ hr).2 hg⟩
   · rename_i h1;rw[h1] at hg;exact ⟨(abE _ _ hr).1,(abE _ _ hr).2 hg⟩
   · rename_i v want h1
     rw[h1] at hg
     split at hr
     · rename_i x vH
       cases hx:x==want with
       | true=>
         rw[hx] at hr
         obtain ⟨⟨h2,h3⟩,h4⟩:=abD _ _ hr
         exact ⟨h3,h4 (by rw[hg,h2];exact hx)⟩
       | false=>
         rw[hx] at hr
         obtain ⟨⟨h2,h3⟩,h4⟩:=abE _ _ hr
         exact ⟨h3,h4 (by rw[hg,h2];exact hx)⟩
     · cases hr
inductive RT where
 | bad
 | ok (tr:List Step) (hs:List au) (s:St) (as:List o8) (ps:List Prop)
def RT.step (x:Step):RT→RT
 | .ok tr hs s as ps=> .ok (x::tr) hs s as ps
 | .bad=> .bad
def RT.bound (x:Step) (h:au):RT→RT
 | .ok tr hs s as ps=> .ok (x::tr) (h::hs) s as ps
 | .bad=> .bad
def RT.put (s:St) (d:Option Tmp) (v:AV) (h:au) (k:St→RT):RT:=match d with
 | some i=>QW (fun ts=>k ⟨ts,h,s.ds,s.rc⟩) s.ts i v
 | none=>k ⟨s.ts,h,s.ds,s.rc⟩
theorem RT.put_eq (s:St) (d:Option Tmp) (v:AV) (h:au) (k:St→RT):RT.put s d v h k=k {s with ts:=dt s.ts d v,h:=h}:=by
 cases d with
 | none=>rfl
 | some i=>exact It _ _ _ _
noncomputable def KU (E:Env) (call:bq) (i k:Nat) (o:Oper) (s:St) (as:List o8) (ps:List Prop) (go:Nat→St→List o8→List Prop→RT):RT:=match as with
 | .e x h'::as=>(RT.put s o.dst x h' fun s'=>go (k+1) s' as (Yo E call s.ts s.h s.rc o x h'::ps)).bound ⟨i,k,s.ts,x,.vV h'⟩ s.h
 | _=> .bad
noncomputable def KV (E:Env) (i k:Nat) (o:Oper) (s:St) (as:List o8) (ps:List Prop) (go:Nat→St→List o8→List Prop→RT):RT:=match as with
 | .c::as=>match bC E s.ts o.op with
   | some v=>(RT.put s o.dst v s.h fun s'=>go k s' as ps).step ⟨i,k,s.ts,v,.hG⟩
   | none=> .bad
 | .v x::as=>(RT.put s o.dst x s.h fun s'=>go k s' as ((Ym E s.ts o.op=some x)::ps)).step ⟨i,k,s.ts,x,.hG⟩
 | .q x::as=>(RT.put s o.dst x s.h fun s'=>go k s' as ((bC E s.ts o.op=some x)::ps)).step ⟨i,k,s.ts,x,.hG⟩
 | .m x::as=>match bC E s.ts o.op with
   | none=>(RT.put s o.dst x s.h fun s'=>go k s' as ((Ui E s.ts s.h o.op=some x)::ps)).step ⟨i,k,s.ts,x,.red⟩
   | some _=> .bad
 | .n h'::as=>match bC E s.ts o.op,eH E s.ts s.h o.op,eO E s.ts o.op with
   | none,none,some (obj,mk)=>(RT.put s o.dst (mk s.h.nx) h' fun s'=>go k s' as ((s.h.new obj=some h')::ps)).step ⟨i,k,s.ts,mk s.h.nx,.tY s.h.nx obj⟩
   | _,_,_=> .bad
 | .a obj x h'::as=>match bC E s.ts o.op,eH E s.ts s.h o.op with
   | none,none=>(RT.put s o.dst x h' fun s'=>go k s' as ((∃mk,Yn E s.ts o.op=some (obj,mk)∧mk s.h.nx=x)::(s.h.new obj=some h')::ps)).step ⟨i,k,s.ts,x,.tY s.h.nx obj⟩
   | _,_=> .bad
 | _=> .bad
noncomputable def runT (E:Env) (call:bq) (ops:Array Oper):List Nat→Nat→St→List o8→List Prop→RT
 | [],_,s,as,ps=> .ok [] [s.h] s as ps
 | i::rest,k,s,as,ps=>match ops[i]? with
   | none=> .bad
   | some o=>match Iu ops s.ts o.guard with
     | .yes=>bif fW E o.op then KU E call i k o s as ps (runT E call ops rest) else KV E i k o s as ps (runT E call ops rest)
     | .no=>bif fW E o.op then (RT.put s o.dst AV.undef s.h fun s'=>runT E call ops rest (k+1) s' as ps).bound ⟨i,k,s.ts,AV.undef,.off⟩ s.h else (RT.put s o.dst AV.undef s.h fun s'=>runT E call ops rest k s' as ps).step ⟨i,k,s.ts,AV.undef,.off⟩
     | .ask v want=>match as with
       | .b x::as=>bif x==want then (bif fW E o.op then KU E call i k o s as ((v=x)::ps) (runT E call ops rest) else KV E i k o s as ((v=x)::ps) (runT E call ops rest))
         else (bif fW E o.op then (RT.put s o.dst AV.undef s.h fun s'=>runT E call ops rest (k+1) s' as ((v=x)::ps)).bound ⟨i,k,s.ts,AV.undef,.off⟩ s.h else (RT.put s o.dst AV.undef s.h fun s'=>runT E call ops rest k s' as ((v=x)::ps)).step ⟨i,k,s.ts,AV.undef,.off⟩)
       | _=> .bad
theorem RT.so {x:Step} {r:RT} {tr:List Step} {hs:List au} {s:St} {as:List o8} {ps:List Prop} (h:r.step x= .ok tr hs s as ps):∃Ml,tr=x::Ml∧r= .ok Ml hs s as ps:=by
 cases r with
 | bad=>cases h
 | ok a b c d e=>cases h;exact ⟨_,rfl,rfl⟩
theorem RT.KW {x:Step} {g:au} {r:RT} {tr:List Step} {hs:List au} {s:St} {as:List o8} {ps:List Prop} (h:r.bound x g= .ok tr hs s as ps):∃Ml rX,tr=x::Ml∧hs=g::rX∧r= .ok Ml rX s as ps:=by
 cases r with
 | bad=>cases h
 | ok a b c d e=>cases h;exact ⟨_,_,rfl,rfl,rfl⟩
theorem DS {ops:Array Oper}:∀(l:List Nat) (k:Nat) (s:St) (as:List o8) (ps:List Prop) (tr:List Step) (hs:List au) (s':St) (yh:List o8) (tv:List Prop),
 runT E call ops l k s as ps= .ok tr hs s' yh tv→ng tv→ng ps∧dc E call ops l k s= .ok tr hs s'
 | [],k,s,as,ps,tr,hs,s',yh,tv,hr,hp=>by cases hr;exact ⟨hp,rfl⟩
 | i::rest,k,s,as,ps,tr,hs,s',yh,tv,hr,hp=>by
   have ih:=DS (ops:=ops) rest
   unfold runT at hr
   split at hr
   · cases hr
   rename_i o hi
   have hE:∀{vH:List o8} {te:List Prop},fW E o.op=true→KU E call i k o s vH te (runT E call ops rest)= .ok tr hs s' yh tv→ng te∧(cJ ops s.ts o=true→dc E call ops (i::rest) k s= .ok tr hs s'):=by
    intro vH te he h
    unfold KU at h
    split at h
    · rename_i x h' W6
      rw[RT.put_eq] at h
      obtain ⟨OP,tR,rfl,rfl,h9⟩:=RT.KW h
      obtain ⟨h1,h2⟩:=ih _ _ _ _ _ _ _ _ _ h9 hp
      refine ⟨h1.2,fun hw=>?_⟩
      unfold dc
      simp only[hi,he,hw,if_true,Pn h1.1,h2]
      rfl
    · cases h
   have hN:∀{vH:List o8} {te:List Prop},fW E o.op=false→KV E i k o s vH te (runT E call ops rest)= .ok tr hs s' yh tv→ng te∧(cJ ops s.ts o=true→dc E call ops (i::rest) k s= .ok tr hs s'):=by
    intro vH te he h
    unfold KV at h
    split at h
    · split at h
      · rename_i v hv
        rw[RT.put_eq] at h
        obtain ⟨OP,rfl,h9⟩:=RT.so h
        obtain ⟨h1,h2⟩:=ih _ _ _ _ _ _ _ _ _ h9 hp
        refine ⟨h1,fun hw=>?_⟩
        unfold dc
        simp only[hi,he,hw,if_true,hv,Bool.false_eq_true,if_false]
        rw[h2]
        rfl
      · cases h
    · rw[RT.put_eq] at h
      obtain ⟨OP,rfl,h9⟩:=RT.so h
      obtain ⟨h1,h2⟩:=ih _ _ _ _ _ _ _ _ _ h9 hp
      refine ⟨h1.2,fun hw=>?_⟩
      unfold dc
      simp only[hi,he,hw,if_true,Pl h1.1,Bool.false_eq_true,if_false]
      rw[h2]
      rfl
    · rw[RT.put_eq] at h
      obtain ⟨OP,rfl,h9⟩:=RT.so h
      obtain ⟨h1,h2⟩:=ih _ _ _ _ _ _ _ _ _ h9 hp
      refine ⟨h1.2,fun hw=>?_⟩
      unfold dc
      simp only[hi,he,hw,if_true,h1.1,Bool.false_eq_true,if_false]
      rw[h2]
      rfl
    · split at h
      · rename_i hv
        rw[RT.put_eq] at h
        obtain ⟨OP,rfl,h9⟩:=RT.so h
        obtain ⟨h1,h2⟩:=ih _ _ _ _ _ _ _ _ _ h9 hp
        refine ⟨h1.2,fun hw=>?_⟩
        unfold dc
        simp only[hi,he,hw,if_true,hv,Is h1.1,Bool.false_eq_true,if_false]
        rw[h2]
        rfl
      · cases h
    · split at h
      · rename_i q1 q2 q3
        rw[RT.put_eq] at h
        obtain ⟨OP,rfl,h9⟩:=RT.so h
        obtain ⟨h1,h2⟩:=ih _ _ _ _ _ _ _ _ _ h9 hp
        refine ⟨h1.2,fun hw=>?_⟩
        unfold dc
        simp only[hi,he,hw,if_true,q1,q2,q3,h1.1,Bool.false_eq_true,if_false,h2]
        rfl
      · cases h
    · split at h
      · rename_i q1 q2
        rw[RT.put_eq] at h
        obtain ⟨OP,rfl,h9⟩:=RT.so h
        obtain ⟨h1,h2⟩:=ih _ _ _ _ _ _ _ _ _ h9 hp
        obtain ⟨⟨mk,h3,h4⟩,h5,h6⟩:=h1
        rw[Pm] at h3
        subst h4
        refine ⟨h6,fun hw=>?_⟩
        unfold dc
        simp only[hi,he,hw,if_true,q1,q2,h3,h5,Bool.false_eq_true,if_false,h2]
        rfl
      · cases h
    · cases h
   have hO:∀{vH:List o8} {te:List Prop},(bif fW E o.op then (RT.put s o.dst AV.undef s.h fun s'=>runT E call ops rest (k+1) s' vH te).bound ⟨i,k,s.ts,AV.undef,.off⟩ s.h else (RT.put s o.dst AV.undef s.h fun s'=>runT E call ops rest k s' vH te).step ⟨i,k,s.ts,AV.undef,.off⟩)= .ok tr hs s' yh tv→
    ng te∧(cJ ops s.ts o=false→dc E call ops (i::rest) k s= .ok tr hs s'):=by
    intro vH te h
    cases he:fW E o.op with
    | true=>
      rw[he,cond_true,RT.put_eq] at h
      obtain ⟨OP,tR,rfl,rfl,h9⟩:=RT.KW h
      obtain ⟨h1,h2⟩:=ih _ _ _ _ _ _ _ _ _ h9 hp
      refine ⟨h1,fun hw=>?_⟩
      unfold dc
      simp only[hi,he,hw,if_true,Bool.false_eq_true,if_false]
      rw[h2]
      rfl
    | false=>
      rw[he,cond_false,RT.put_eq] at h
      obtain ⟨OP,rfl,h9⟩:=RT.so h
      obtain ⟨h1,h2⟩:=ih _ _ _ _ _ _ _ _ _ h9 hp
      refine ⟨h1,fun hw=>?_⟩
      unfold dc
      simp only[hi,he,hw,Bool.false_eq_true,if_false]
      rw[h2]
      rfl
   have hY:∀{vH:List o8} {te:List Prop},(bif fW E o.op then KU E call i k o s vH te (runT E call ops rest) else KV E i k o s vH te (runT E call ops rest))= .ok tr hs s' yh tv→
    ng te∧(cJ ops s.ts o=true→dc E call ops (i::rest) k s= .ok tr hs s'):=by
    intro vH te h
    cases he:fW E o.op with
    | true=>rw[he] at h;exact hE he h
    | false=>rw[he] at h;exact hN he h
   have hg:=GS ops s.ts o
   split at hr
   · rename_i h1;rw[h1] at hg;exact ⟨(hY hr).1,(hY hr).2 hg⟩
   · rename_i h1;rw[h1] at hg;exact ⟨(hO hr).1,(hO hr).2 hg⟩
   · rename_i v want h1
     rw[h1] at hg
     split at hr
     · rename_i x vH
       cases hx:x==want with
       | true=>
         rw[hx] at hr
         obtain ⟨⟨h2,h3⟩,h4⟩:=hY hr
         exact ⟨h3,h4 (by rw[hg,h2];exact hx)⟩
       | false=>
         rw[hx] at hr
         obtain ⟨⟨h2,h3⟩,h4⟩:=hO hr
         exact ⟨h3,h4 (by rw[hg,h2];exact hx)⟩
     · cases hr
noncomputable def M8 (E:Env) (ops:Array Oper) (x:Step) (h:au) (ps:List Prop):List Prop:=match x.kind with
 | .red=>match ops[x.i]? with
   | some o=>(AV.same 20 x.v x.v=true)::(Ui E x.ts h o.op=some x.v)::ps
   | none=>False::ps
 | .tY n obj=>(∃o,h.get n=some o∧aM.same o obj=true)::ps
 | _=>ps
noncomputable def M9 (E:Env) (ops:Array Oper) (x:Step):List au→List Prop→List Prop
 | [],ps=>ps
 | h::hs,ps=>M9 E ops x hs (M8 E ops x h ps)
noncomputable def yW (E:Env) (ops:Array Oper) (bP:List Nat) (an:List (List Nat)) (hs:List au):List Step→List Prop→List Prop
 | [],ps=>ps
 | x::tr,ps=>yW E ops bP an hs tr (M9 E ops x ((hs.drop x.k).take (lg bP an x.i+1 - x.k)) ps)
theorem QX {ops:Array Oper} {x:Step} {h:au} {ps:List Prop} (hc:ng (M8 E ops x h ps)):ng ps∧kf E ops x h=true:=by
 unfold M8 at hc
 unfold kf
 split at hc
 · rename_i hk
   simp only[hk]
   split at hc
   · rename_i o ho
     have gS:ops.getD x.i default=o:=by simp [Array.getD_eq_getD_getElem?,ho]
     simp only[gS,Is hc.2.1,hc.1]
     exact ⟨hc.2.2,trivial⟩
   · exact hc.1.elim
 · rename_i n obj hk
   obtain ⟨⟨o,h1,h2⟩,h3⟩:=hc
   simp only[hk,h1,h2]
   exact ⟨h3,trivial⟩
 · rename_i h1 h2
   refine ⟨hc,?_⟩
   split
   · rename_i hk;exact absurd hk (by assumption)
   · rename_i hk;exact absurd hk (h2 _ _)
   · rfl
theorem GU {ops:Array Oper} {x:Step}:∀(hs:List au) (ps:List Prop),ng (M9 E ops x hs ps)→ng ps∧hs.all (kf E ops x)=true
 | [],ps,hc=>⟨hc,rfl⟩
 | h::hs,ps,hc=>by
   obtain ⟨h1,h2⟩:=GU hs _ hc
   obtain ⟨h3,h4⟩:=QX h1
   exact ⟨h3,by simp only[List.all_cons,h4,h2,Bool.and_self]⟩
theorem BG {ops:Array Oper} {bP:List Nat} {an:List (List Nat)} {hs:List au}:∀(tr:List Step) (ps:List Prop),ng (yW E ops bP an hs tr ps)→
 ng ps∧(tr.all fun x=>((hs.drop x.k).take (lg bP an x.i+1 - x.k)).all (kf E ops x))=true
 | [],ps,hc=>⟨hc,rfl⟩
 | x::tr,ps,hc=>by
   obtain ⟨h1,h2⟩:=BG tr _ hc
   obtain ⟨h3,h4⟩:=GU _ _ h1
   exact ⟨h3,by simp only[List.all_cons,h4,h2,Bool.and_self]⟩
noncomputable def Uj (l:List Nat) (ps:List Prop):List Prop:=match l with
 | []=>ps
 | [_]=>ps
 | l=>(nodup l=true)::ps
noncomputable def Iv (E:Env) (call:bq) (ops:Array Oper) (s:St) (as:List o8) (ps:List Prop):R:=match tX E ops with
 | none=> .bad
 | some pl=>match runT E call ops pl.order 0 s as ps with
   | .ok tr hs s' yh tv=> .at .normal s' yh (Uj (rS tr) (yW E ops pl.bP pl.an hs tr tv))
   | .bad=> .bad
theorem FI {ops:Array Oper} {s:St} {as:List o8} {ps:List Prop} {e:lY} {s':St} {yh:List o8} {tv:List Prop} (hr:Iv E call ops s as ps= .at e s' yh tv) (hp:ng tv):ng ps∧yn E call ops s= .ok e s':=by
 unfold Iv at hr
 split at hr
 · cases hr
 rename_i pl Qq
 split at hr
 · rename_i tr hs s1 vH te h1
   cases hr
   have hn:ng (yW E ops pl.bP pl.an hs tr te)∧nodup (rS tr)=true:=by
    unfold Uj at hp
    split at hp
    · rename_i hm;exact ⟨hp,by rw[hm];rfl⟩
    · rename_i hm;exact ⟨hp,by rw[hm];rfl⟩
    · exact ⟨hp.2,hp.1⟩
   obtain ⟨h2,h3⟩:=BG _ _ hn.1
   obtain ⟨h4,h5⟩:=DS _ _ _ _ _ _ _ _ _ _ h1 h2
   refine ⟨h4,?_⟩
   unfold yn
   simp only[Qq,h5]
   have:rT E ops pl tr hs=true:=by
    unfold rT
    rw[hn.2,Bool.true_and]
    exact h3
   rw[if_pos this]
 · cases hr
noncomputable def run (E:Env) (call:bq):Nat→Code→St→List o8→List Prop→R
 | 0,_,_,_,_=> .bad
 | n+1,c,s,as,ps=>match c with
   | .skip=> .at .normal s as ps
   | .ret=> .at .ret s as ps
   | .exit i=> .at (.exit i) s as ps
   | .seq a b=>match run E call n a s as ps with
     | .at .normal s1 vH te=>run E call n b s1 vH te
     | r=>r
   | .cond x a b=>match as with
     | .b v::as=>match fb E s.ts x with
       | some (.bool u)=>bif v then run E call n a s as ((u=true)::ps) else run E call n b s as ((u=false)::ps)
       | _=> .bad
     | .l e s'::as=> .at e s' as (Ev E call (.cond x a b) s e s'::ps)
     | _=> .bad
   | .block id b=>match run E call n b s as ps with
     | .at (.exit j) s1 vH te=>bif Nat.beq j id then .at .normal s1 vH te else .at (.exit j) s1 vH te
     | r=>r
   | .loop b=>match as with
     | .l e s'::as=> .at e s' as (Ev E call (.loop b) s e s'::ps)
     | _=> .bad
   | .rangeFunc f tv a b=>match as with
     | .l e s'::as=> .at e s' as (Ev E call (.rangeFunc f tv a b) s e s'::ps)
     | _=> .bad
   | .region i ops draw=>match as with
     | .l e s'::as=> .at e s' as (Ev E call (.region i ops draw) s e s'::ps)
     | as=>bif draw then Iv E call ops s as ps else qK E call ops ops.toList s as ps
   | .scope b=>run E call n b s as ps
   | .label _=> .at .normal s as ps
   | _=> .bad
theorem GV:∀(n:Nat) (c:Code) (s:St) (as:List o8) (ps:List Prop) (e:lY) (s':St) (yh:List o8) (tv:List Prop),run E call n c s as ps= .at e s' yh tv→ng tv→ng ps∧Ev E call c s e s'
 | 0,c,s,as,ps,e,s',yh,tv,hr,hp=>by cases hr
 | n+1,c,s,as,ps,e,s',yh,tv,hr,hp=>by
   have ih:=GV n
   unfold run at hr
   split at hr
   · cases hr;exact ⟨hp,.of fun _=>rfl⟩
   · cases hr;exact ⟨hp,.of fun _=>rfl⟩
   · cases hr;exact ⟨hp,.of fun _=>rfl⟩
   · split at hr
     · rename_i s1 vH te h1
       obtain ⟨h2,h3⟩:=ih _ _ _ _ _ _ _ _ hr hp
       obtain ⟨h4,h5⟩:=ih _ _ _ _ _ _ _ _ h1 h2
       exact ⟨h4,h5.seq h3⟩
     · rename_i eY
       obtain ⟨h4,h5⟩:=ih _ _ _ _ _ _ _ _ hr hp
       refine ⟨h4,h5.seq' fun he=>?_⟩
       subst he;exact eY _ _ _ hr
   · split at hr
     · rename_i v vH
       split at hr
       · rename_i u hu
         cases v with
         | true=>
           obtain ⟨⟨h1,h2⟩,n0,h3⟩:=ih _ _ _ _ _ _ _ _ hr hp
           refine ⟨h2,n0+1,fun n hn=>?_⟩
           obtain ⟨k,rfl⟩:∃k,n=k+1:=⟨n - 1,by omega⟩
           rw[Uc,hu,h1,M7];exact h3 k (by omega)
         | false=>
           obtain ⟨⟨h1,h2⟩,n0,h3⟩:=ih _ _ _ _ _ _ _ _ hr hp
           refine ⟨h2,n0+1,fun n hn=>?_⟩
           obtain ⟨k,rfl⟩:∃k,n=k+1:=⟨n - 1,by omega⟩
           rw[Uc,hu,h1,KQ];exact h3 k (by omega)
       · cases hr
     · cases hr;exact ⟨hp.2,hp.1⟩
     · cases hr
   · split at hr
     · rename_i id b _ j s1 vH te h1
       cases hj:Nat.beq j id with
       | true=>
         rw[hj] at hr
         cases hr
         obtain ⟨h2,n0,h3⟩:=ih _ _ _ _ _ _ _ _ h1 hp
         refine ⟨h2,n0+1,fun n hn=>?_⟩
         obtain ⟨k,rfl⟩:∃k,n=k+1:=⟨n - 1,by omega⟩
         rw[Iq,h3 k (by omega),BD,if_pos (Nat.eq_of_beq_eq_true hj)]
       | false=>
         rw[hj] at hr
         cases hr
         obtain ⟨h2,n0,h3⟩:=ih _ _ _ _ _ _ _ _ h1 hp
         refine ⟨h2,n0+1,fun n hn=>?_⟩
         obtain ⟨k,rfl⟩:∃k,n=k+1:=⟨n - 1,by omega⟩
         rw[Iq,h3 k (by omega),BD,if_neg (Nat.ne_of_beq_eq_false hj)]
     · rename_i id b _ eY
       obtain ⟨h2,n0,h3⟩:=ih _ _ _ _ _ _ _ _ hr hp
       refine ⟨h2,n0+1,fun n hn=>?_⟩
       obtain ⟨k,rfl⟩:∃k,n=k+1:=⟨n - 1,by omega⟩
       rw[Iq,h3 k (by omega)]
       cases e with
       | exit j=>exact absurd hr (eY _ _ _ _)
       | _=>rfl
   · split at hr
     · cases hr;exact ⟨hp.2,hp.1⟩
     · cases hr
   · split at hr
     · cases hr;exact ⟨hp.2,hp.1⟩
     · cases hr
   · rename_i i ops draw
     split at hr
     · cases hr;exact ⟨hp.2,hp.1⟩
     cases draw with
     | true=>
       simp only[cond_true] at hr
       obtain ⟨h1,h2⟩:=FI hr hp
       exact ⟨h1,.of fun n=>by rw[X'];exact h2⟩
     | false=>
       simp only[cond_false] at hr
       obtain ⟨h1,h2⟩:=yV _ _ _ _ _ _ _ _ hr hp
       exact ⟨h1,.of fun n=>by rw[Ue];exact h2⟩
   · obtain ⟨h1,n0,h2⟩:=ih _ _ _ _ _ _ _ _ hr hp
     exact ⟨h1,n0+1,fun n hn=>by
      obtain ⟨k,rfl⟩:∃k,n=k+1:=⟨n - 1,by omega⟩
      show exec E call k _ s=_
      exact h2 k (by omega)⟩
   · cases hr;exact ⟨hp,.of fun _=>rfl⟩
   · cases hr
theorem M_ {n:Nat} {c:Code} {s:St} {al:List o8} {e:lY} {s':St} {ps:List Prop} (hr:run E call n c s al []= .at e s' [] ps) (hp:ng ps):Ev E call c s e s':=(GV _ _ _ _ _ _ _ _ _ hr hp).2
theorem kO {tmpl:(Nat→AV)→List AV} {c:Code} {s:St} {e:lY} {h:au} {ds:List rR} {rc:RC} {L:List AV} (ev:Ev E call c s e ⟨L,h,ds,rc⟩) (hl:L=tmpl fun k=>L.getD k AV.undef):∃y,Ev E call c s e ⟨tmpl y,h,ds,rc⟩:=by
 refine ⟨fun k=>L.getD k AV.undef,?_⟩
 rw[←hl];exact ev
theorem vI {f:FuncId} {fn:Func} {c:Code} (hf:E.P.funcs[f]? =some fn) (hb:fn.body=some c) {args:List AV} {h h':au} {ts:List AV} {x:lY} (hx:x= .normal∨x= .ret)
 (e:Ev E call c ⟨args++List.replicate (fn.ntmps - args.length) AV.undef,h,[],.no⟩ x ⟨ts,h',[],.no⟩) {vs:List AV} (hr:lD E h' ts fn.results.toList=some vs):∃n0,∀n,n0≤n→Bz E call n f args h= .ret (iu vs) h':=by
 obtain ⟨n0,e⟩:=e
 exact ⟨n0,fun n hn=>QU hf hb hx (e n hn) hr⟩
def xn (E:Env) (call:bq) (f:FuncId) (args:List AV) (h:au) (v:AV) (h':au):Prop:=∃n0,∀n,n0≤n→Bz E call n f args h= .ret v h'
theorem bb {f:FuncId} {fn:Func} {c:Code} {args ts0 ts:List AV} {h h':au} {x:lY} {v:AV} (hf:E.P.funcs[f]? =some fn) (hb:fn.body=some c) (ht:args++List.replicate (fn.ntmps - args.length) AV.undef=ts0) (hx:x= .normal∨x= .ret)
 (e:Ev E call c ⟨ts0,h,[],.no⟩ x ⟨ts,h',[],.no⟩) (hr:(lD E h' ts fn.results.toList).map iu=some v):xn E call f args h v h':=by
 subst ht
 cases hv:lD E h' ts fn.results.toList with
 | none=>rw[hv] at hr;cases hr
 | some vs=>
   rw[hv] at hr
   obtain rfl:iu vs=v:=Option.some.inj hr
   exact vI hf hb hx e hv
end Go.Ab
end
section
namespace Go.Ab
variable {E:Env}
theorem DT {t:TypeId} {c d:Bool} {k:IntKind} {a b z:Int} (h:k.wrap (a+b)=z):gE E .add t c d (some (.int k a)) (some (.int k b))=some (.int k z):=by rw[Yb,h]
theorem DU {t:TypeId} {c d:Bool} {k:IntKind} {a b z:Int} (h:k.wrap (a - b)=z):gE E .sub t c d (some (.int k a)) (some (.int k b))=some (.int k z):=by rw[Yc,h]
theorem M' {t:TypeId} {c d:Bool} {k:IntKind} {a b z:Int} (h:k.wrap (a*b)=z):gE E .mul t c d (some (.int k a)) (some (.int k b))=some (.int k z):=by rw[Yd,h]
theorem iO (k:IntKind) (n:Int):AV.scalar (.int k n)=true:=rfl
theorem fY (b:Bool):AV.scalar (.bool b)=true:=rfl
theorem iP (b:List UInt8):AV.scalar (.str b)=true:=rfl
theorem iQ (i o:Nat):AV.scalar (.ptr i o)=true:=rfl
theorem eS (i o n c:Nat) (b:Bool):AV.scalar (.slice i o n c b)=true:=rfl
theorem mg:AV.scalar .aH=true:=rfl
theorem mh:AV.scalar .gQ=true:=rfl
theorem mi:AV.scalar .eF=true:=rfl
theorem mj:AV.scalar .nilFunc=true:=rfl
theorem ml:AV.scalar .nilIface=true:=rfl
theorem iR (i:Nat):AV.scalar (.map i)=true:=rfl
theorem DV {h:au} {t:TypeId} {i o:Nat} {cs:List AV} {e:TypeId} {ro:Bool} {v:AV} (hg:h.get i=some (.cells cs e ro)) (hv:iK E t cs o=some v):bh E h t (.ptr i o)=some v:=by
 simp only[bh,hg,hv]
theorem vJ {h h':au} {o:aM} (n:h.new o=some h'):h'.get h.nx=some o:=(au.mD n).2.2.1
theorem AM {h h':au} {o:aM} (n:h.new o=some h'):h'.nx=h.nx+1:=(au.mD n).2.1
theorem uK {h h':au} {o x:aM} {i:Nat} (y:Tidy h) (n:h.new o=some h') (g:h.get i=some x):h'.get i=some x:=by
 have:=y i x g
 rw[(au.mD n).2.2.2 i (by omega)];exact g
theorem yX {h h':au} {o:aM} (y:Tidy h) (n:h.new o=some h'):Has h h':=fun _ _ g=>uK y n g
theorem oc {h h':au} {o:aM} (y:Tidy h) (n:h.new o=some h'):Tidy h':=fun i x g=>by
 obtain ⟨_,h2,h3,h4⟩:=au.mD n
 by_cases hx:i=h.nx
 · omega
 · rw[h4 i hx] at g;have:=y i x g;omega
theorem xp {h:au} (o:aM):∃h',h.new o=some h':=⟨_,au.HB _ _⟩
theorem rE {h:au} {t e:TypeId} {i o n:Nat} {cs:List AV} {v:AV} (g:h.get i=some (.cells cs e false)) (hs:bU E t=some n) (hv:v.cells.length=n) (ho:o+n≤cs.length) (hk:v.cells.all AV.scalar=true):∃h',dL E h t (.ptr i o) v=some h':=by
 refine ⟨h.put i (some (.cells (setFrom cs o v.cells) e false)),?_⟩
 simp only[dL,g,hs]
 rw[if_pos ⟨hv,ho,hk⟩]
theorem od {h h':au} {t e:TypeId} {i o:Nat} {cs:List AV} {v:AV} (s:dL E h t (.ptr i o) v=some h') (g:h.get i=some (.cells cs e false)):h'=h.put i (some (.cells (setFrom cs o v.cells) e false)):=by
 simp only[dL,g] at s
 split at s
 · rename_i h1 _
   cases h1
   split at s
   · exact (Option.some.inj s).symm
   · cases s
 · cases s
theorem GW {h h':au} {t e:TypeId} {i o:Nat} {cs:List AV} {v:AV} (y:Tidy h) (s:dL E h t (.ptr i o) v=some h') (g:h.get i=some (.cells cs e false)):h'.get i=some (.cells (setFrom cs o v.cells) e false):=by
 rw[od s g]
 have:=y i _ g
 exact au.du _
theorem DW {h h':au} {t e:TypeId} {i j o:Nat} {cs:List AV} {v:AV} {x:aM} (y:Tidy h) (s:dL E h t (.ptr i o) v=some h') (g:h.get i=some (.cells cs e false)) (hj:j≠i) (gx:h.get j=some x):h'.get j=some x:=by
 rw[od s g]
 have:=y i _ g
 rw[au.b5 (Ne.symm hj)];exact gx
theorem DX {h h':au} {t e:TypeId} {i o:Nat} {cs:List AV} {v:AV} (s:dL E h t (.ptr i o) v=some h') (g:h.get i=some (.cells cs e false)):h'.nx=h.nx:=by
 rw[od s g];exact au.aa3 _ _ _
theorem DY {h h':au} {t e:TypeId} {i o:Nat} {cs:List AV} {v:AV} (y:Tidy h) (s:dL E h t (.ptr i o) v=some h') (g:h.get i=some (.cells cs e false)):Tidy h':=fun j x gj=>by
 have hi:=y i _ g
 rw[DX s g]
 by_cases hx:j=i
 · omega
 · rw[od s g,au.b5 (Ne.symm hx)] at gj
   exact y j x gj
def Iw (h h':au) (b:Nat) (o:aM):Prop:=Tidy h'∧h'.get b=some o∧∀i x,i≠b→h.get i=some x→h'.get i=some x
theorem Iw.has {h0 h h':au} {b:Nat} {o:aM} (c:Iw h h' b o) (a:Has h0 h) (y:Tidy h0) (hb:h0.nx≤b):Has h0 h':=fun i x g=>by
 have:=y i x g
 exact c.2.2 i x (by omega) (a i x g)
end Go.Ab
end
section
namespace Go.Ab
variable {E:Env}
theorem dT {p:Prop} [Decidable p] (h:p):decide p=true:=decide_eq_true h
theorem dF {p:Prop} [Decidable p] (h:¬p):decide p=false:=decide_eq_false h
theorem nT {p:Prop} [Decidable p] (h:¬p):(!decide p)=true:=by rw[decide_eq_false h];rfl
theorem nF {p:Prop} [Decidable p] (h:p):(!decide p)=false:=by rw[decide_eq_true h];rfl
theorem Yp {l:List Nat} {k:Nat} (h:k<l.length):l[k]? =some (l.getD k 0):=by simp [List.getD_eq_getElem?_getD,List.getElem?_eq_getElem h]
def bE:Code→List Code
 | .seq a b=>bE a++bE b
 | .cond _ a b=>bE a++bE b
 | .block _ b=>bE b
 | .loop b=>b::bE b
 | .scope b=>bE b
 | .rangeFunc _ _ _ b=>b::bE b
 | _=> []
structure nQ (E:Env) (h:au) (e:TypeId) (n:Nat) (av:AV) (len:Nat) (cs:List AV):Prop where
 size:bU E e=some n
 cells:cs.length=len*n
 small:len<2^60
 lens:b6 (some (.slice e)) (some av)=some (.int .i64 (len:Nat))
 block:len=0∨∃p o m c b C f ro,av= .slice p o m c b∧m≤c∧h.get p=some (.cells C f ro)∧(∀j,j<cs.length→C[o+j]? =cs[j]?)
theorem nQ.has {h h':au} {e:TypeId} {n:Nat} {av:AV} {len:Nat} {cs:List AV} (x:nQ E h e n av len cs) (hh:Has h h'):nQ E h' e n av len cs:=
 ⟨x.size,x.cells,x.small,x.lens,x.block.imp id fun ⟨p,o,m,c,b,C,f,ro,h1,h0,h2,h3⟩=>⟨p,o,m,c,b,C,f,ro,h1,h0,hh _ _ h2,h3⟩⟩
theorem nQ.elem {h:au} {e:TypeId} {av:AV} {len:Nat} {cs:List AV} (x:nQ E h e 1 av len cs) (ha:fw E e=some false) {i:Nat} {v:AV} (hv:cs[i]? =some v):
 ∃p q,bS E (some (.slice e)) (some av) (some (.int .i64 (i:Nat)))=some (.ptr p q)∧bh E h e (.ptr p q)=some v:=by
 have hi:=(List.getElem?_eq_some_iff.1 hv).1
 have hl:cs.length=len:=by rw[x.cells,Nat.mul_one]
 rcases x.block with h0 | ⟨p,o,m,c,b,C,f,ro,h1,_,h2,h3⟩
 · omega
 · subst h1
   have hm:m=len:=by
    have:=x.lens
    rw[iw] at this
    simp only[Option.some.injEq,AV.int.injEq,true_and] at this
    omega
   refine ⟨p,o+i*1,nu x.size (by omega),?_⟩
   simp only[bh,h2,iK,ha,Nat.mul_one]
   rw[h3 i hi,hv]
def uL (k:IntKind) (l:List Nat):List AV:=l.map fun (n:Nat)=> .int k (n:Int)
structure fE (E:Env) (h:au) (k:IntKind) (e:TypeId) (av:AV) (l:List Nat):Prop where
 at_:nQ E h e 1 av l.length (uL k l)
 agg:fw E e=some false
 known:av= .aH∨∃p o n c b,av= .slice p o n c b∧(b=true→0<c)
theorem uM {k:IntKind} {l:List Nat} {i:Nat} {z:Nat} (h:l[i]? =some z):(uL k l)[i]? =some (.int k (z:Int)):=by simp [uL,h]
theorem fE.elem {h:au} {k:IntKind} {e:TypeId} {av:AV} {l:List Nat} (x:fE E h k e av l) {i:Nat} {z:Nat} (hz:l[i]? =some z):
 ∃p q,bS E (some (.slice e)) (some av) (some (.int .i64 (i:Nat)))=some (.ptr p q)∧bh E h e (.ptr p q)=some (.int k (z:Int)):=x.at_.elem x.agg (uM hz)
theorem fE.len {h:au} {k:IntKind} {e:TypeId} {av:AV} {l:List Nat} (x:fE E h k e av l):b6 (some (.slice e)) (some av)=some (.int .i64 (l.length:Nat)):=x.at_.lens
theorem og (k:IntKind) (l:List Nat):(uL k l).length=l.length:=by simp [uL]
theorem fE.small {h:au} {k:IntKind} {e:TypeId} {av:AV} {l:List Nat} (x:fE E h k e av l):l.length<2^60:=x.at_.small
def Off (p:Nat) (av:AV):Prop:=∀o n c b,av≠ .slice p o n c b
theorem fE.of {h:au} {k:IntKind} {e:TypeId} {l:List Nat} {p o c:Nat} {b:Bool} {C:List AV} {f:TypeId} {ro:Bool} (hs:bU E e=some 1) (ha:fw E e=some false) (hl:l.length<2^60) (hc:l.length≤c) (hb:b=true→0<c) (hg:h.get p=some (.cells C f ro))
 (hv:∀(i:Nat) z,l[i]? =some z→C[o+i]? =some (.int k (z:Int))):fE E h k e (.slice p o l.length c b) l:=
 ⟨⟨hs,by rw[og];omega,hl,rfl,.inr ⟨p,o,_,c,b,C,f,ro,rfl,hc,hg,fun j hj=>by
   rw[og] at hj
   rw[hv j l[j] (List.getElem?_eq_getElem hj),uM (List.getElem?_eq_getElem hj)]⟩⟩,ha,.inr ⟨p,o,_,c,b,rfl,hb⟩⟩
theorem fE.nil {h:au} {k:IntKind} {e:TypeId} (hs:bU E e=some 1) (ha:fw E e=some false):fE E h k e .aH []:=
 ⟨⟨hs,rfl,by decide,rfl,.inl rfl⟩,ha,.inl rfl⟩
theorem fE.inv {h:au} {k:IntKind} {e:TypeId} {l:List Nat} {p o n c:Nat} {b:Bool} (x:fE E h k e (.slice p o n c b) l):n=l.length∧(l≠ []→l.length≤c∧∃C f ro,h.get p=some (.cells C f ro)∧∀(i:Nat) z,l[i]? =some z→C[o+i]? =some (.int k (z:Int))):=by
 have hn:n=l.length:=by
  have:=x.len
  rw[iw] at this
  simp only[Option.some.injEq,AV.int.injEq,true_and] at this
  omega
 refine ⟨hn,fun eY=>?_⟩
 rcases x.at_.block with h0 | ⟨p',o',m,c',b',C,f,ro,h1,h0,h2,h3⟩
 · exact absurd (List.length_eq_zero_iff.1 h0) eY
 · cases h1
   refine ⟨by omega,C,f,ro,h2,fun i z hz=>?_⟩
   rw[h3 i (by rw[og];exact (List.getElem?_eq_some_iff.1 hz).1),uM hz]
theorem mm {len cap lo hi:Nat} (low high:Option AV) (hl:low=some (.int .i64 (lo:Nat))∨(low=none∧lo=0)) (hh:high=some (.int .i64 (hi:Nat))∨(high=none∧hi=len)) (h1:lo≤hi) (h2:hi≤cap):lR len cap low high none=some (lo,hi,cap):=by
 have b:∀(x y:Nat),x≤y→pv (.int .i64 (x:Nat)) y=some x:=fun x y h=>by
  simp only[pv]
  rw[if_pos ⟨by omega,by omega⟩,Int.toNat_natCast]
 unfold lR
 rcases hh with rfl | ⟨rfl,rfl⟩<;>rcases hl with rfl | ⟨rfl,rfl⟩<;>simp [b,h1,h2]
theorem fE.slice {h:au} {k:IntKind} {e t:TypeId} {av:AV} {l:List Nat} (x:fE E h k e av l) (ht:E.P.underlying t=some (.slice e)) {lo hi:Nat} (low high:Option AV) (hl:low=some (.int .i64 (lo:Nat))∨(low=none∧lo=0)) (hh:high=some (.int .i64 (hi:Nat))∨(high=none∧hi=l.length)) (h1:lo≤hi) (h2:hi≤l.length) (h3:l.length=0∨lo<l.length):
 ∃r,db E t av low high none=some r∧fE E h k e r ((l.take hi).drop lo)∧∀p,Off p av→Off p r:=by
 rcases x.known with rfl | ⟨p,o,n,c,b,rfl,hb⟩
 · have hl0:l.length=0:=by
    have:=x.len
    rw[yS] at this
    simp only[Option.some.injEq,AV.int.injEq,true_and] at this
    omega
   obtain rfl:=List.length_eq_zero_iff.1 hl0
   simp only[List.length_nil] at *
   have WI:hi=0:=by omega
   subst WI
   have WH:lo=0:=by omega
   subst WH
   refine ⟨.aH,?_,by simpa using x,fun p hp=>hp⟩
   simp only[db,ht,x.at_.size,mm (len:=0) (cap:=0) low high hl hh (Nat.le_refl 0) (Nat.le_refl 0)]
 · obtain ⟨rfl,hx⟩:=x.inv
   have hlc:l.length≤c:=by
    by_cases eY:l=[]
    · subst eY;exact Nat.zero_le _
    · exact (hx eY).1
   have hr:∃o' c',db E t (.slice p o l.length c b) low high none=some (.slice p o' (hi - lo) c' b)∧(b=true→0<c')∧hi - lo≤c'∧(hi - lo≠0→o'=o+lo):=by
    simp only[db,ht,x.at_.size,hlc,if_true,mm (len:=l.length) (cap:=c) low high hl hh h1 (by omega)]
    by_cases hm:c=lo
    · have hb0:b=false:=by
       cases b with
       | false=>rfl
       | true=>have:=hb rfl;omega
      subst hb0
      rw[if_pos hm]
      exact ⟨o,c - lo,rfl,by simp,by omega,fun h=>by omega⟩
    · rw[if_neg hm]
      refine ⟨o+lo*1,c - lo,by simp,fun h=>by omega,by omega,fun h=>by omega⟩
   obtain ⟨o',c',e1,e2,e3,e4⟩:=hr
   refine ⟨_,e1,?_,fun q hq o' n' c' b' he=>by cases he;exact hq _ _ _ _ rfl⟩
   have hlen:((l.take hi).drop lo).length=hi - lo:=by simp;omega
   rw[←hlen]
   by_cases h0:hi - lo=0
   · have:(l.take hi).drop lo=[]:=List.length_eq_zero_iff.1 (by omega)
     rw[this]
     exact ⟨⟨x.at_.size,rfl,by decide,rfl,.inl rfl⟩,x.agg,.inr ⟨_,_,_,_,_,rfl,e2⟩⟩
   · have eY:l≠ []:=fun e=>by subst e;simp at h2;omega
     obtain ⟨_,C,f,ro,g1,g2⟩:=hx eY
     refine fE.of x.at_.size x.agg (by have:=x.small;omega) (by omega) e2 g1 fun i z hz=>?_
     have HE:i<hi - lo:=by rw[←hlen];exact (List.getElem?_eq_some_iff.1 hz).1
     rw[e4 h0,Nat.add_assoc]
     apply g2
     rw[List.getElem?_drop,List.getElem?_take_of_lt (by omega)] at hz
     exact hz
structure WO (h:au) (av:AV) (p o n:Nat) (C:List AV) (f:TypeId):Prop where
 is:∃c b,av= .slice p o n c b∧n≤c
 get:h.get p=some (.cells C f false)
 fits:o+n≤C.length
theorem WO.len {h:au} {av:AV} {p o n:Nat} {C:List AV} {f e:TypeId} (w:WO h av p o n C f):b6 (some (.slice e)) (some av)=some (.int .i64 (n:Nat)):=by
 obtain ⟨c,b,rfl,_⟩:=w.is
 rfl
theorem WO.slice {h:au} {av:AV} {p o n:Nat} {C:List AV} {f e t:TypeId} (w:WO h av p o n C f) (hs:bU E e=some 1) (ht:E.P.underlying t=some (.slice e)) {lo hi:Nat} (low high:Option AV) (hl:low=some (.int .i64 (lo:Nat))∨(low=none∧lo=0)) (hh:high=some (.int .i64 (hi:Nat))∨(high=none∧hi=n)) (h1:lo≤hi) (h2:hi≤n) (h3:lo<n):
 ∃r,db E t av low high none=some r∧WO h r p (o+lo) (hi - lo) C f:=by
 obtain ⟨c,b,rfl,hc⟩:=w.is
 have:=w.fits
 refine ⟨.slice p (o+lo) (hi - lo) (c - lo) b,?_,⟨⟨_,_,rfl,by omega⟩,w.get,by omega⟩⟩
 simp only[db,ht,hs,hc,if_true,mm (len:=n) (cap:=c) low high hl hh h1 (by omega)]
 rw[if_neg (by omega)]
 simp
def Holds (k:IntKind) (C:List AV) (o:Nat) (l:List Nat):Prop:=∀(i z:Nat),l[i]? =some z→C[o+i]? =some (.int k (z:Int))
theorem Holds.behind {k:IntKind} {C:List AV} {o:Nat} {l ws:List Nat} (x:Holds k C o l) {i z:Nat} (hi:ws.length≤i) (hz:l[i]? =some z):(setFrom C o (uL k ws))[o+i]? =some (.int k (z:Int)):=by
 rw[jg,if_neg (by rw[og];omega)]
 exact x i z hz
theorem WO.load {h:au} {av:AV} {p o n:Nat} {C:List AV} {f e:TypeId} {i:Nat} {v:AV} (w:WO h av p o n C f) (ha:fw E e=some false) (hv:C[o+i]? =some v):bh E h e (.ptr p (o+i))=some v:=by
 simp only[bh,w.get,iK,ha,hv]
theorem WO.uL {h:au} {av:AV} {p o n:Nat} {C:List AV} {f e:TypeId} {k:IntKind} {l:List Nat} (w:WO h av p o n C f) (hs:bU E e=some 1) (ha:fw E e=some false) (hn:l.length=n) (Xe:n<2^60) (x:Holds k C o l) (hb:∀c b,av= .slice p o n c b→b=true→0<c):fE E h k e av l:=by
 obtain ⟨c,b,rfl,hc⟩:=w.is
 subst hn
 exact fE.of hs ha Xe hc (hb c b rfl) w.get x
theorem Holds.of {k:IntKind} {C:List AV} {o:Nat} {l:List Nat} (hf:o+l.length≤C.length):Holds k (setFrom C o (uL k l)) o l:=fun i z hz=>by
 have hi:=(List.getElem?_eq_some_iff.1 hz).1
 rw[jg,if_pos ⟨by omega,by rw[og];omega,by omega⟩,Nat.add_sub_cancel_left,uM hz]
end Go.Ab
end
section
namespace Go.Ab
variable {E:Env} {M0:Fa.KO}
theorem xn.unique {call:bq} {f:FuncId} {args:List AV} {h h1 h2:au} {v1 v2:AV} (a:xn E call f args h v1 h1) (b:xn E call f args h v2 h2):v1=v2∧h1=h2:=by
 obtain ⟨n,a⟩:=a
 obtain ⟨m,b⟩:=b
 have:=(a (n+m) (by omega)).symm.trans (b (n+m) (by omega))
 simpa using this
def AV.within (nx:Nat):Nat→AV→Bool
 | 0,_=>false
 | n+1,x=>match x with
   | .bool _ | .int .. | .str _ | .gQ | .aH | .eF | .nilFunc | .nilIface | .eN=>true
   | .ptr i _=>decide (i<nx)
   | .slice i _ _ _ _=>decide (i<nx)
   | .map i=>decide (i<nx)
   | .iface _ v=>AV.within nx n v
   | .agg cs=>cs.all (AV.within nx n)
   | .tuple cs=>cs.all (AV.within nx n)
   | _=>false
theorem VR.within {φ φ':Ph} {nx:Nat} (ho:∀i,i<nx→φ' i=φ i):∀(n:Nat) {x:AV} (_:AV.within nx n x=true) {y:Value},VR φ' x y→VR φ x y
 | 0,_,h,_,_=>by cases h
 | n+1,x,h,y,hv=>by
   have ih:= @VR.within φ φ' nx ho n
   cases hv with
   | bool b=>exact .bool b
   | int k m=>exact .int k m
   | str s=>exact .str s
   | gQ=>exact .gQ
   | aH=>exact .aH
   | eF=>exact .eF
   | nilFunc=>exact .nilFunc
   | nilIface=>exact .nilIface
   | eN a c=>exact .eN a c
   | ptr o hl=>rw[ho _ (of_decide_eq_true h)] at hl;exact .ptr o hl
   | slice o len cap op hl=>rw[ho _ (of_decide_eq_true h)] at hl;exact .slice o len cap op hl
   | map hl=>rw[ho _ (of_decide_eq_true h)] at hl;exact .map hl
   | iface t v v' h'=>exact .iface t v v' (ih (by simpa [AV.within] using h) h')
   | agg cs jL hl hc=>
     refine .agg cs jL hl fun i x y a b=>ih ?_ (hc i x y a b)
     simp only[AV.within,List.all_eq_true] at h
     exact h x (List.mem_of_getElem? a)
   | tuple cs jL hl hc=>
     refine .tuple cs jL hl fun i x y a b=>ih ?_ (hc i x y a b)
     simp only[AV.within,List.all_eq_true] at h
     exact h x (List.mem_of_getElem? a)
   | _=>cases h
theorem mF.Po {f:FuncId} {args:List AV} {h h':au} {v:AV} (r:mF E f args h v h') (hs:Has h h') (hv:AV.within h.nx 20 v=true):mF E f args h v h:=fun φ w vs ok hl=>by
 obtain ⟨h1,h2⟩:=r φ w vs ok hl
 refine ⟨h1,fun cs=>?_⟩
 obtain ⟨φ',w',v',fr,x1,x2,x3,x4⟩:=h2 cs
 exact ⟨φ,w',v',fr,x1.within x3.old 20 hv,ok.forget x3.ext x2 hs,x3.forget,x4⟩
open Classical in
noncomputable def kX (E:Env) (M0:Fa.KO):Nat→bq
 | 0=>DN M0
 | d+1=>fun F args h=>match F with
   | .Bh _=> .fail "" none
   | .fn f=>match M0 f args h with
     | some p=> .ret p.1 p.2
     | none=>
       if hx:∃v,∃h',xn E (kX E M0 d) f args h v h'∧Has h h'∧AV.within h.nx 20 v=true then .ret hx.choose h
       else if hy:∃p:AV×au,xn E (kX E M0 d) f args h p.1 p.2 then .ret hy.choose.1 hy.choose.2 else .fail "" none
theorem DZ (hE:lG E) (hM:Fa.Ip E M0):∀d,iN E (kX E M0 d)
 | 0=>QV hM
 | d+1=>by
   have ih:=DZ hE hM d
   have key:∀{f:FuncId} {args:List AV} {h:au} {o:j3},kX E M0 (d+1) (.fn f) args h=o→(∃v h',o= .ret v h'∧mF E f args h v h')∨o= .fail "" none:=by
    intro f args h o e
    simp only[kX] at e
    split at e
    · rename_i p hp
      exact .inl ⟨_,_,e.symm,hM _ _ _ _ _ hp⟩
    · split at e
      · rename_i hx
        obtain ⟨h',⟨n,h1⟩,h2,h3⟩:=hx.choose_spec
        exact .inl ⟨_,_,e.symm,mF.Po ((qo hE n ih).1 _ _ _ _ _ (h1 n (Nat.le_refl n))) h2 h3⟩
      · split at e
        · rename_i hy
          obtain ⟨n,h1⟩:=hy.choose_spec
          exact .inl ⟨_,_,e.symm,(qo hE n ih).1 _ _ _ _ _ (h1 n (Nat.le_refl n))⟩
        · exact .inr e.symm
   refine ⟨fun F args h v h' e=>?_,fun F args h v h' e=>?_⟩
   · cases F with
     | Bh l=>cases e
     | fn f=>
       rcases key e with ⟨w,k,h1,h2⟩ | h1
       · cases h1;exact h2.any
       · cases h1
   · cases F with
     | Bh l=>cases e
     | fn f=>
       rcases key e with ⟨w,k,h1,h2⟩ | h1
       · cases h1
       · cases h1
theorem aD {d:Nat} {f:FuncId} {args:List AV} {h h':au} {v:AV} (hm:M0 f args h=none) (hd:xn E (kX E M0 d) f args h v h') (hh:Has h h') (hv:AV.within h.nx 20 v=true):kX E M0 (d+1) (.fn f) args h= .ret v h:=by
 simp only[kX,hm]
 have hx:∃v,∃h',xn E (kX E M0 d) f args h v h'∧Has h h'∧AV.within h.nx 20 v=true:=⟨v,h',hd,hh,hv⟩
 rw[dif_pos hx]
 obtain ⟨k,h1,_,_⟩:=hx.choose_spec
 rw[(h1.unique hd).1]
theorem GX {d:Nat} {f:FuncId} {args:List AV} {h h':au} {v:AV} (hm:M0 f args h=none) (hd:xn E (kX E M0 d) f args h v h') (hv:¬(Has h h'∧AV.within h.nx 20 v=true)):kX E M0 (d+1) (.fn f) args h= .ret v h':=by
 simp only[kX,hm]
 have hx:¬∃v,∃h',xn E (kX E M0 d) f args h v h'∧Has h h'∧AV.within h.nx 20 v=true:=by
  rintro ⟨w,k,h1,h2,h3⟩
  obtain ⟨rfl,rfl⟩:=h1.unique hd
  exact hv ⟨h2,h3⟩
 have hy:∃p:AV×au,xn E (kX E M0 d) f args h p.1 p.2:=⟨(v,h'),hd⟩
 rw[dif_neg hx,dif_pos hy]
 obtain ⟨h1,h2⟩:=hy.choose_spec.unique hd
 rw[h1,h2]
theorem KX (hE:lG E) (hM:Fa.Ip E M0) {d:Nat} {f:FuncId} {args:List AV} {h h':au} {v:AV} (e:kX E M0 d (.fn f) args h= .ret v h'):mF E f args h v h':=by
 cases d with
 | zero=>
   simp only[kX,DN] at e
   split at e
   · rename_i p hp
     cases e
     exact hM _ _ _ _ _ hp
   · cases e
 | succ d=>
   simp only[kX] at e
   split at e
   · rename_i p hp
     cases e
     exact hM _ _ _ _ _ hp
   · split at e
     · rename_i hx
       cases e
       obtain ⟨h',⟨n,h1⟩,h2,h3⟩:=hx.choose_spec
       exact mF.Po ((qo hE n (DZ hE hM d)).1 _ _ _ _ _ (h1 n (Nat.le_refl n))) h2 h3
     · split at e
       · rename_i hy
         cases e
         obtain ⟨n,h1⟩:=hy.choose_spec
         exact (qo hE n (DZ hE hM d)).1 _ _ _ _ _ (h1 n (Nat.le_refl n))
       · cases e
end Go.Ab
end
section
namespace Go.Ab
variable {E:Env}
end Go.Ab
end
section
namespace Go.Ab
variable {E:Env} {M0:Fa.KO}
structure bF (h h':au):Prop where
 y:Tidy h'
 a:Has h h'
 n:h.nx≤h'.nx
theorem bF.refl {h:au} (y:Tidy h):bF h h:=⟨y,Has.refl h,Nat.le_refl _⟩
theorem bF.trans {a b c:au} (x:bF a b) (y:bF b c):bF a c:=⟨y.y,x.a.trans y.a,Nat.le_trans x.n y.n⟩
theorem ju {d:Nat} {f:FuncId} {args:List AV} {h h':au} {v:AV} {P:au→Prop} (hm:M0 f args h=none) (hd:xn E (kX E M0 d) f args h v h') (y:Tidy h) (g:bF h h') (p1:P h') (p2:AV.within h.nx 20 v=true→P h):
 ∃hk,kX E M0 (d+1) (.fn f) args h= .ret v hk∧bF h hk∧P hk:=by
 by_cases hv:AV.within h.nx 20 v=true
 · exact ⟨h,aD hm hd g.a hv,bF.refl y,p2 hv⟩
 · exact ⟨h',GX hm hd fun c=>hv c.2,g,p1⟩
theorem Na {d:Nat} {f:FuncId} {args:List AV} {h h':au} {v:AV} (hm:M0 f args h=none) (hd:xn E (kX E M0 d) f args h v h'):
 ∃hk,kX E M0 (d+1) (.fn f) args h= .ret v hk∧(hk=h'∨(hk=h∧Has h h')):=by
 by_cases hv:Has h h'∧AV.within h.nx 20 v=true
 · exact ⟨h,aD hm hd hv.1 hv.2,.inr ⟨rfl,hv.1⟩⟩
 · exact ⟨h',GX hm hd hv,.inl rfl⟩
theorem j9 {h:au} {p:Nat} {x o:aM} (y:Tidy h) (g:h.get p=some x):Iw h (h.put p (some o)) p o:=
 ⟨fun i z hz=>by
  by_cases e:i=p
  · subst e;exact y _ _ g
  · rw[au.b5 (Ne.symm e)] at hz;exact y _ _ hz,
  au.du _,fun i z hi hz=>by rw[au.b5 (Ne.symm hi)];exact hz⟩
def Kept (p:Nat) (h h':au):Prop:=∀i x,i≠p→h.get i=some x→h'.get i=some x
theorem Has.kept {p:Nat} {h h':au} (a:Has h h'):Kept p h h':=fun i x _ g=>a i x g
theorem Kept.store {h h':au} {t e:TypeId} {i o:Nat} {cs:List AV} {v:AV} (y:Tidy h) (s:dL E h t (.ptr i o) v=some h') (g:h.get i=some (.cells cs e false)):Kept i h h':=fun _ _ hj gj=>DW y s g hj gj
theorem fE.kept {h h':au} {k:IntKind} {e:TypeId} {av:AV} {l:List Nat} {p:Nat} (x:fE E h k e av l) (c:Kept p h h') (ho:Off p av):fE E h' k e av l:=by
 refine ⟨⟨x.at_.size,x.at_.cells,x.at_.small,x.at_.lens,x.at_.block.imp id fun ⟨p',o',m,c',b,C,f,ro,h1,h0,h2,h3⟩=>⟨p',o',m,c',b,C,f,ro,h1,h0,c p' _ (fun e=>?_) h2,h3⟩⟩,x.agg,x.known⟩
 subst e
 exact ho _ _ _ _ h1
theorem BH (k:IntKind) (l:List Nat):(uL k l).all AV.scalar=true:=by
 simp [uL,AV.scalar]
theorem fE.rf {h:au} {k:IntKind} {e:TypeId} {av:AV} {l:List Nat} (x:fE E h k e av l):rf av=some l.length:=by
 rcases x.known with rfl | ⟨p,o,n,c,b,rfl,_⟩
 · have:=x.len
   rw[yS] at this
   simp only[Option.some.injEq,AV.int.injEq,true_and] at this
   rw[show l.length=0 by omega];rfl
 · rw[x.inv.1];rfl
theorem fE.first {h:au} {k:IntKind} {e:TypeId} {av:AV} {l:List Nat} (x:fE E h k e av l):fA h 1 l.length av=some (uL k l):=by
 by_cases hl:l=[]
 · subst hl
   rcases x.known with rfl | ⟨p,o,n,c,b,rfl,_⟩<;>simp [fA,uL]
 rcases x.known with rfl | ⟨p,o,n,c,b,rfl,_⟩
 · have:=x.len
   rw[yS] at this
   simp only[Option.some.injEq,AV.int.injEq,true_and] at this
   exact absurd (List.length_eq_zero_iff.1 (show l.length=0 by omega)) hl
 · obtain ⟨rfl,h2⟩:=x.inv
   obtain ⟨_,C,f,ro,g,hv⟩:=h2 hl
   have hC:o+l.length≤C.length:=by
    have hp:0<l.length:=List.length_pos_iff.2 hl
    have:=hv (l.length - 1) _ (List.getElem?_eq_getElem (show l.length - 1<l.length by omega))
    have:=(List.getElem?_eq_some_iff.1 this).1
    omega
   have h0:¬l.length=0:=fun e=>hl (List.length_eq_zero_iff.1 e)
   simp only[fA,Nat.le_refl,if_true,h0,if_false,g,Nat.mul_one,hC]
   refine congrArg some (List.ext_getElem? fun i=>?_)
   by_cases hi:i<l.length
   · rw[List.getElem?_take_of_lt hi,List.getElem?_drop,hv i _ (List.getElem?_eq_getElem hi),uM (List.getElem?_eq_getElem hi)]
   · rw[List.getElem?_eq_none (by simp;omega),List.getElem?_eq_none (by rw[og];omega)]
theorem Pf {h:au} {k:IntKind} {e t:TypeId} {tys:Array TypeId} {d s:AV} {l:List Nat} {p o n:Nat} {C:List AV} {f:TypeId} (h0:tys[0]? =some t) (ht:E.P.underlying t=some (.slice e)) (hs:bU E e=some 1) (w:WO h d p o n C f) (x:fE E h k e s l) (hn:l.length≤n):
 s9 E h tys d s=some (.int .i64 (l.length:Nat),h.put p (some (.cells (setFrom C o (uL k l)) f false))):=by
 obtain ⟨c,b,rfl,hc⟩:=w.is
 have hf:=w.fits
 have Di:fA h 1 (min l.length n) s=some (uL k l):=by
  rw[Nat.min_eq_left hn];exact x.first
 simp only[s9,h0,ht,x.rf,hs,Di,w.get]
 rw[if_pos ⟨by rw[og];omega,BH k l⟩,Nat.min_eq_left hn]
theorem pr {e:TypeId} {s bytes n:Nat} {z:AV} (hs:bU E e=some s) (hb:ke E e=some bytes) (hz:gR E e=some z) (hl:z.cells.length=s) (h8:bytes≤1024) (hn:n<2^30):
 yU E (some (.slice e)) (some (.int .i64 (n:Nat))) (some (.int .i64 (n:Nat)))=some (.cells (bT z.cells n) e false,fun i=> .slice i 0 n n false):=by
 have h1:(bytes:Int)*(n:Int)≤1024*2^30:=by
  have:bytes*n≤1024*2^30:=Nat.mul_le_mul h8 (Nat.le_of_lt hn)
  omega
 simp only[yU,hs,hb,hz,hl]
 rw[if_pos ⟨by omega,by omega,by omega,by omega,trivial⟩]
 rfl
theorem km {e:TypeId} {p n c i:Nat} {op:Bool} {z:Int} (hs:bU E e=some 1) (hi:i<n) (hz:z=(i:Nat)):bS E (some (.slice e)) (some (.slice p 0 n c op)) (some (.int .i64 z))=some (.ptr p i):=by
 subst hz
 have:=nu (E:=E) (e:=e) (i:=p) (o:=0) (len:=n) (c:=c) (z:=i) (b:=op) hs hi
 rw[Nat.zero_add,Nat.mul_one] at this
 exact this
theorem append_nil {h:au} {k:IntKind} {e s xt:TypeId} {tys:Array TypeId} {bytes:Nat} {z x:AV} {m:List Nat} (h0:tys[0]? =some s) (h1:tys[1]? =some xt) (hs:E.P.underlying s=some (.slice e)) (hx:E.P.underlying xt=some (.slice e)) (Uk:bU E e=some 1) (hb:ke E e=some bytes) (GY:gR E e=some z) (hz:z.cells.length=1) (h8:bytes≤15) (x1:fE E h k e x m) (hm:m≠ []) (hl:m.length≤1073741824):
 ∃h',dJ E h tys .aH x=some (.slice h.nx 0 m.length m.length true,h')∧h.new (.cells (uL k m) e false)=some h':=by
 obtain ⟨h',n⟩:=xp (h:=h) (.cells (uL k m) e false)
 refine ⟨h',?_,n⟩
 have hn:¬m.length=0:=fun e=>hm (List.length_eq_zero_iff.1 e)
 have HK:(4*m.length+4096)*(bytes+1)≤1099511627776:=Nat.le_trans (Nat.mul_le_mul (show 4*m.length+4096≤68719476736 by omega) (show bytes+1≤16 by omega)) (by decide)
 simp only[dJ,h0,h1,hs,hx,px,Uk,hb,x1.rf,x1.first,GY,hz,BH,og,Nat.mul_one,hn,HK,n,if_true,if_false,and_self,Bool.false_eq_true]
theorem qp {C:List AV} {o i:Nat} {k:IntKind} {l:List Nat} (hf:o+l.length≤C.length) (hi:i<l.length):(setFrom C o (uL k l))[o+i]? =some (.int k ((l.getD i 0:Nat):Int)):=Holds.of hf i _ (Yp hi)
end Go.Ab
end
section
namespace Go.Ab
variable {E:Env}
structure Pk (al:List o8) (p0 ps:List Prop):Prop where
 ok:ng p0→ng ps
section
variable {al:List o8} {p0 ps:List Prop}
theorem ZZ {p:List Prop}:Pk [] p p:=⟨id⟩
theorem AA (a:o8) (k:Pk al p0 ps):Pk (a::al) p0 ps:=⟨k.ok⟩
theorem CC (k:Pk al p0 ps):Pk (.c::al) p0 ps:=⟨k.ok⟩
def cs:Nat→List o8→List o8
 | 0,l=>l
 | n+1,l=> .c::cs n l
theorem CN (n:Nat) (k:Pk al p0 ps):Pk (cs n al) p0 ps:=⟨k.ok⟩
theorem HH {P:Prop} (h:P) (k:Pk al (P::p0) ps):Pk al p0 ps:=⟨fun c=>k.ok ⟨h,c⟩⟩
theorem VV {l:Option AV} {x:AV} (h:l=some x) (k:Pk al ((l=some x)::p0) ps):Pk (.v x::al) p0 ps:=⟨fun c=>k.ok ⟨h,c⟩⟩
theorem QQ {l:Option AV} {x:AV} (h:l=some x) (k:Pk al ((l=some x)::p0) ps):Pk (.q x::al) p0 ps:=⟨fun c=>k.ok ⟨h,c⟩⟩
theorem MM {l:Option AV} {x:AV} (h:l=some x) (k:Pk al ((l=some x)::p0) ps):Pk (.m x::al) p0 ps:=⟨fun c=>k.ok ⟨h,c⟩⟩
theorem TT (k:Pk al ((true=true)::p0) ps):Pk (.b true::al) p0 ps:=⟨fun c=>k.ok ⟨rfl,c⟩⟩
theorem FF (k:Pk al ((false=false)::p0) ps):Pk (.b false::al) p0 ps:=⟨fun c=>k.ok ⟨rfl,c⟩⟩
theorem BB {u v:Bool} (h:u=v) (k:Pk al ((u=v)::p0) ps):Pk (.b v::al) p0 ps:=⟨fun c=>k.ok ⟨h,c⟩⟩
theorem EE {call:bq} {f:Fn} {args:List AV} {h h':au} {x:AV} (e:call f args h= .ret x h') (k:Pk al ((call f args h= .ret x h')::p0) ps):Pk (.e x h'::al) p0 ps:=⟨fun c=>k.ok ⟨e,c⟩⟩
theorem SS {h h':au} {t:TypeId} {a v:AV} (s:dL E h t a v=some h') (k:Pk al ((AV.undef=AV.undef∧dL E h t a v=some h')::p0) ps):Pk (.e AV.undef h'::al) p0 ps:=⟨fun c=>k.ok ⟨⟨rfl,s⟩,c⟩⟩
theorem PP {l:Option (AV×au)} {x:AV} {h':au} (e:l=some (x,h')) (k:Pk al ((l=some (x,h'))::p0) ps):Pk (.e x h'::al) p0 ps:=⟨fun c=>k.ok ⟨e,c⟩⟩
theorem NN {h h':au} {obj:aM} (n:h.new obj=some h') (f:Nat→AV) (k:Pk al ((∃mk:Nat→AV,some (obj,f)=some (obj,mk)∧mk h.nx=f h.nx)::(h.new obj=some h')::p0) ps):Pk (.a obj (f h.nx) h'::al) p0 ps:=⟨fun c=>k.ok ⟨⟨f,rfl,rfl⟩,n,c⟩⟩
theorem KK {h h':au} {obj:aM} {l:Option (aM×(Nat→AV))} {f:Nat→AV} (e:l=some (obj,f)) (n:h.new obj=some h') (k:Pk al ((∃mk:Nat→AV,l=some (obj,mk)∧mk h.nx=f h.nx)::(h.new obj=some h')::p0) ps):Pk (.a obj (f h.nx) h'::al) p0 ps:=⟨fun c=>k.ok ⟨⟨f,e,rfl⟩,n,c⟩⟩
theorem LL {call:bq} {b:Code} {s s':St} {e:lY} (ev:Ev E call b s e s') (k:Pk al ((Ev E call b s e s')::p0) ps):Pk (.l e s'::al) p0 ps:=⟨fun c=>k.ok ⟨ev,c⟩⟩
end
@[irreducible] def Pp:R→List AV
  | .at _ s _ _=>s.ts
  | .bad=> []
theorem aeI {call:bq} {c:Code} {ts:List AV} {h h':au} {ds:List rR} {rc:RC} {n:Nat} {e:lY} {al:List o8} {ps:List Prop} (k:Pk al [] ps) (hr:run E call n c ⟨ts,h,ds,rc⟩ al []= .at e ⟨Pp (run E call n c ⟨ts,h,ds,rc⟩ al []),h',ds,rc⟩ [] ps):Ev E call c ⟨ts,h,ds,rc⟩ e ⟨Pp (run E call n c ⟨ts,h,ds,rc⟩ al []),h',ds,rc⟩:=M_ hr (k.ok trivial)
def rx (x:Nat→AV):Nat→Nat→List AV→List AV
 | _,0,l=>l
 | i,n+1,l=>x i::rx x (i+1) n l
def g4:Nat→List AV
 | 0=> []
 | n+1=>AV.undef::g4 n
end Go.Ab
end
