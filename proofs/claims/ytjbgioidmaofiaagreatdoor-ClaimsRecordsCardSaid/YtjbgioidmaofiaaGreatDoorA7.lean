import Derived.ChangeShapes
import Derived.ChangeStays
import Derived.ChangeBook
import Derived.ChangeOld
import Derived.ChangeAgain
import Derived.ChangeCalls
import Derived.Shelf.Strings.OnBuilder
import Derived.Test.YtjbgioidmaofiaaGreatDoorA6
set_option linter.unusedVariables false
set_option linter.unusedSimpArgs false
section
namespace Go.Ab
variable {E:Env} {call:aB} {n:Nat} {s:St}
def S4 {α β:Type} (o:Option α) (f:α→β) (d:β):β:=match o with
 | some a=>f a
 | none=>d
noncomputable def FC (E:Env) (call:aB) (n:Nat) (o:Out) (b:Code):Out:=match o with
 | .ok .normal s=>exec E call n b s
 | r=>r
theorem ud (s:St) (b:Code):FC E call n (.ok .normal s) b=exec E call n b s:=rfl
def Li (id:Nat) (o:Out):Out:=match o with
 | .ok (.exit Jw) s'=>if Jw=id then .ok .normal s' else .ok (.exit Jw) s'
 | r=>r
theorem ue (i j:Nat) (s:St):Li i (.ok (.exit j) s)=if j=i then .ok .normal s else .ok (.exit j) s:=rfl
noncomputable def Lj (E:Env) (call:aB) (n:Nat) (o:Option AV) (a b:Code) (s:St):Out:=match o with
 | some (.bool true)=>exec E call n a s
 | some (.bool false)=>exec E call n b s
 | _=> .fail "cond" none
theorem FN (a b:Code):Lj E call n (some (.bool true)) a b s=exec E call n a s:=rfl
theorem Dm (a b:Code):Lj E call n (some (.bool false)) a b s=exec E call n b s:=rfl
theorem Rl (a b:Code):exec E call (n+1) (.seq a b) s=FC E call n (exec E call n a s) b:=rfl
theorem Lk (x:Operand) (a b:Code):exec E call (n+1) (.cond x a b) s=Lj E call n (cx E s.ts x) a b s:=rfl
theorem A8 (id:Nat) (b:Code):exec E call (n+1) (.block id b) s=Li id (exec E call n b s):=rfl
theorem Ll (b:Code):exec E call (n+1) (.loop b) s=FC E call n (exec E call n b s) (.loop b):=rfl
theorem Lm (i:Nat) (ops:Array Oper):exec E call (n+1) (.region i ops false) s=gU E call ops ops.toList s:=rfl
theorem PD (i:Nat) (ops:Array Oper):exec E call (n+1) (.region i ops true) s=re E call ops s:=rfl
noncomputable def V5 (E:Env) (call:aB) (ops:Array Oper) (o:Oper) (rest:List Oper) (s:St):Out:=match bX E call s.ts s.h s.rc o with
 | .val v h'=>gU E call ops rest {s with ts:=cA s.ts o.dst v,h:=h'}
 | .defer d=>gU E call ops rest {s with ts:=cA s.ts o.dst AV.undef,ds:=d::s.ds}
 | .nz v=>gU E call ops rest {s with ts:=cA s.ts o.dst v,rc:= .done}
 | .panic v h'=> .ok (.panic v) {s with h:=h'}
 | .fail why q=> .fail why q
noncomputable def V6 (E:Env) (call:aB) (ops:Array Oper) (o:Oper) (rest:List Oper) (s:St):Out:=
 S4 (cq E s.ts o.op) (fun p=>S4 (s.h.new p.1) (fun h'=>gU E call ops rest {s with ts:=cA s.ts o.dst (p.2 s.h.nx),h:=h'}) (.fail "full" (some o))) (V5 E call ops o rest s)
noncomputable def V7 (E:Env) (call:aB) (ops:Array Oper) (o:Oper) (rest:List Oper) (s:St):Out:=
 S4 (cB E s.ts s.h o.op) (fun v=>gU E call ops rest {s with ts:=cA s.ts o.dst v}) (V6 E call ops o rest s)
noncomputable def V8 (E:Env) (call:aB) (ops:Array Oper) (v:Option AV) (o:Oper) (rest:List Oper) (s:St):Out:=S4 v (fun v=>gU E call ops rest {s with ts:=cA s.ts o.dst v}) (V7 E call ops o rest s)
section
variable {ops:Array Oper} {rest:List Oper} {d:Option Tmp} {op:Op} {ty:TypeId} {pos:String} {aft:Array Edge} {g:Option (Nat×Bool)}
noncomputable def FD (E:Env) (call:aB) (ops:Array Oper) (w:Bool) (o:Oper) (rest:List Oper) (s:St):Out:=
 if w=true then V8 E call ops (aG E s.ts o.op) o rest s else gU E call ops rest {s with ts:=cA s.ts o.dst AV.undef}
end
theorem aK (m:Nat) (a:List UInt8):AV.same (m+1) (.str a) (.str a)=true:=by simp [AV.same]
theorem aL (m:Nat) (k:IntKind) (a:Int):AV.same (m+1) (.int k a) (.int k a)=true:=by simp [AV.same]
theorem vT (m i o l c:Nat) (b:Bool):AV.same (m+1) (.slice i o l c b) (.slice i o l c b)=true:=by simp [AV.same]
open Classical in
section
variable {ops:Array Oper} {rest:List Nat} {d:Option Tmp} {op:Op} {ty:TypeId} {pos:String} {aft:Array Edge} {g:Option (Nat×Bool)}
noncomputable def Hj (E:Env) (call:aB) (ops:Array Oper) (r:Option St) (s:St):Out:=S4 r (fun s'=> .ok .normal s') (re E call ops s)
end
theorem wrap_i64 {n:Int} (h0: -9223372036854775808≤n) (h1:n<9223372036854775808):IntKind.i64.wrap n=n:=by
 show (if (true&&decide (n%2^64≥2^63))=true then n%2^64 - 2^64 else n%2^64)=n
 by_cases hn:n%2^64≥2^63
 · rw[if_pos (by rw[Bool.true_and];exact decide_eq_true hn)];omega
 · rw[if_neg (by rw[Bool.true_and];exact fun e=>hn (of_decide_eq_true e))];omega
noncomputable def C3 (E:Env) (fn:Func) (h:ag) (ts:List AV):fR:=match ic E h ts fn.results.toList with
 | some vs=> .ret (eG vs) h
 | none=> .fail "results" none
theorem IL {fuel:Nat} {f:FuncId} {fn:Func} {c:Code} (hf:E.P.funcs[f]? =some fn) (hb:fn.body=some c) {args:List AV} {h h':ag} {ts:List AV} {x:gR} (hx:x= .normal∨x= .ret)
 (e:exec E call fuel c ⟨args++List.replicate (fn.ntmps - args.length) AV.undef,h,[],.no⟩= .ok x ⟨ts,h',[],.no⟩) {vs:List AV} (hr:ic E h' ts fn.results.toList=some vs):uc E call fuel f args h= .ret (eG vs) h':=by
 unfold uc
 simp only[hf,hb,jQ,e]
 rcases hx with rfl | rfl<;>simp only[pK,bT,hr]
def vU (M:Fa.Dk):aB:=fun F args h=>match F with
 | .fn f=>match M f args h with
   | some p=> .ret p.1 p.2
   | none=> .fail "" none
 | .tK _=> .fail "" none
theorem IM {M:Fa.Dk} (hM:Fa.A7 E M):eR E (vU M):=by
 refine ⟨fun F args h v h' e=>?_,fun F args h v h' e=>?_⟩
 · cases F with
   | tK l=>cases e
   | fn f=>
     simp only[vU] at e
     cases hm:M f args h with
     | none=>rw[hm] at e;cases e
     | some p=>
       rw[hm] at e
       simp only[fR.ret.injEq] at e
       obtain ⟨rfl,rfl⟩:=e
       exact (hM _ _ _ _ _ hm).any
 · cases F with
   | tK l=>cases e
   | fn f=>
     simp only[vU] at e
     cases hm:M f args h with
     | none=>rw[hm] at e;cases e
     | some p=>rw[hm] at e;cases e
def Z9 (E:Env) (x:Option (TypeId×Nat)) (v:Option AV):Option AV:=match x,v with
 | some (t,o),some (.ptr i off)=>match bh E t with
   | some n=>if n=0 then none else some (.ptr i (off+o))
   | none=>none
 | _,_=>none
def aN (E:Env) (op:BinOp) (t:TypeId) (xc yc:Bool) (a b:Option AV):Option AV:=match a,b with
 | some a,some b=>gH E op t xc yc a b
 | _,_=>none
theorem PE {ts:List AV} (op:BinOp) (t t':TypeId) (x y:Operand):aG E ts (.binOp op t x y t')=aN E op t (isConst x) (isConst y) (cx E ts x) (cx E ts y):=by
 simp only[aG,aN]
 cases cx E ts x<;>cases cx E ts y<;>rfl
theorem PF (t:TypeId) (c d:Bool) (k:IntKind) (a b:Int):aN E .add t c d (some (.int k a)) (some (.int k b))=some (.int k (k.wrap (a+b))):=by simp [aN,gH,bW]
theorem PG (t:TypeId) (c d:Bool) (k:IntKind) (a b:Int):aN E .sub t c d (some (.int k a)) (some (.int k b))=some (.int k (k.wrap (a - b))):=by simp [aN,gH,bW]
theorem PH (t:TypeId) (c d:Bool) (k:IntKind) (a b:Int):aN E .mul t c d (some (.int k a)) (some (.int k b))=some (.int k (k.wrap (a*b))):=by simp [aN,gH,bW]
theorem PI (t:TypeId) (c d:Bool) (k:IntKind) (a b:Int):aN E .eql t c d (some (.int k a)) (some (.int k b))=some (.bool (decide (a=b))):=by simp [aN,gH,bW];rfl
theorem PJ (t:TypeId) (c d:Bool) (k:IntKind) (a b:Int):aN E .neq t c d (some (.int k a)) (some (.int k b))=some (.bool (!decide (a=b))):=by simp [aN,gH,bW];rfl
theorem PK (t:TypeId) (c d:Bool) (k:IntKind) (a b:Int):aN E .lss t c d (some (.int k a)) (some (.int k b))=some (.bool (decide (a<b))):=by simp [aN,gH,bW]
theorem PL (t:TypeId) (c d:Bool) (k:IntKind) (a b:Int):aN E .leq t c d (some (.int k a)) (some (.int k b))=some (.bool (decide (a≤b))):=by simp [aN,gH,bW]
theorem PM (t:TypeId) (c d:Bool) (k:IntKind) (a b:Int):aN E .gtr t c d (some (.int k a)) (some (.int k b))=some (.bool (decide (b<a))):=by simp [aN,gH,bW]
theorem PN (t:TypeId) (c d:Bool) (k:IntKind) (a b:Int):aN E .geq t c d (some (.int k a)) (some (.int k b))=some (.bool (decide (b≤a))):=by simp [aN,gH,bW]
theorem Ln (t:TypeId) (c d:Bool) (a b:List UInt8):aN E .eql t c d (some (.str a)) (some (.str b))=some (.bool (decide (a=b))):=by
 simp only[aN,gH,mF,Option.some.injEq,AV.bool.injEq]
 exact Bool.eq_iff_iff.2 (by simp)
theorem Lp (t:TypeId) (c d:Bool) (a b:List UInt8):aN E .neq t c d (some (.str a)) (some (.str b))=some (.bool (!decide (a=b))):=by
 simp only[aN,gH,mF,Option.some.injEq,AV.bool.injEq]
 exact congrArg (!·) (Bool.eq_iff_iff.2 (by simp))
def VS (op:UnOp) (a:Option AV):Option AV:=match a with
 | some a=>Uz op a
 | none=>none
def bP (E:Env) (d:Option TypeDesc) (v i:Option AV):Option AV:=match d,v,i with
 | some (.slice elem),some (.slice i o len _ _),some (.int _ n)=>match bh E elem with
  | some size=>if 0≤n∧n<len then some (.ptr i (o+n.toNat*size)) else none
  | none=>none
 | some (.array len elem),some (.ptr i o),some (.int _ n)=>match bh E elem with
  | some size=>if 0≤n∧n<len then some (.ptr i (o+n.toNat*size)) else none
  | none=>none
 | _,_,_=>none
theorem Dn {ts:List AV} (t:TypeId) (x i:Operand):aG E ts (.indexAddr t x i)=bP E (E.P.underlying t) (cx E ts x) (cx E ts i):=by
 simp only[aG,bP]
 split<;>simp_all<;>(split<;>simp_all)
theorem iZ {e:TypeId} {i o len c z:Nat} {b:Bool} {size:Nat} (hs:bh E e=some size) (hz:z<len):bP E (some (.slice e)) (some (.slice i o len c b)) (some (.int .i64 (z:Int)))=some (.ptr i (o+z*size)):=by
 simp only[bP,hs]
 rw[if_pos ⟨by omega,by omega⟩,Int.toNat_natCast]
def cV (d:Option TypeDesc) (v:Option AV):Option AV:=match d,v with
 | some (.slice _),some .aj=>some (.int .i64 0)
 | some (.slice _),some (.slice _ _ n _ _)=>some (.int .i64 n)
 | some (.slice _),some .cJ=>some (.int .i64 0)
 | some .string,some (.str s)=>some (.int .i64 s.length)
 | some (.array n _),some _=>some (.int .i64 n)
 | some (.map _ _),some .cn=>some (.int .i64 0)
 | _,_=>none
theorem V9 {ts:List AV} (x:Operand) (t:TypeId):aG E ts (.call ⟨.builtin .len, #[x], #[t]⟩)=cV (E.P.underlying t) (cx E ts x):=by
 simp only[aG,dJ,cD,List.getElem?_toArray,List.getElem?_cons_zero]
 generalize cx E ts x=o
 cases o with
 | none=>
   generalize E.P.underlying t=u
   cases u with
   | none=>rfl
   | some d=>cases d<;>rfl
 | some v=>
   simp only
   generalize E.P.underlying t=u
   cases u with
   | none=>rfl
   | some d=>cases d<;>cases v<;>rfl
theorem S5 {ts:List AV} {h:ag} (t:TypeId) (x:Operand):cB E ts h (.load t x)=S4 (cx E ts x) (bH E h t) none:=by
 simp only[cB];cases cx E ts x<;>rfl
theorem fm (e:TypeId) (i o n c:Nat) (b:Bool):cV (some (.slice e)) (some (.slice i o n c b))=some (.int .i64 n):=rfl
theorem oC (e:TypeId):cV (some (.slice e)) (some .aj)=some (.int .i64 0):=rfl
theorem S6 (e:TypeId):cV (some (.slice e)) (some .cJ)=some (.int .i64 0):=rfl
def Tidy (h:ag):Prop:=∀i o,h.get i=some o→i<h.nx
def im (E:Env) (d:Option TypeDesc) (v i:Option AV):Option AV:=match d,v,i with
 | some (.array len elem),some (.agg cs),some (.int _ n)=>match bh E elem with
  | some size=>if 0≤n∧n<len then fG E elem cs (n.toNat*size) else none
  | none=>none
 | some .string,some (.str s),some (.int _ n)=>if 0≤n then (match s[n.toNat]? with | some b=>some (.int .u8 b.toNat) | none=>none) else none
 | _,_,_=>none
theorem PO {ts:List AV} (t:TypeId) (x i:Operand):aG E ts (.index t x i)=im E (E.P.underlying t) (cx E ts x) (cx E ts i):=by
 simp only[aG,im]
 split
 · simp_all
   split<;>simp_all
 · rename_i s k n _ _ _
   simp_all
   cases s[n.toNat]? <;>rfl
 · simp_all
theorem Lq {s:List UInt8} {z:Nat} {b:UInt8} (h:s[z]? =some b):im E (some .string) (some (.str s)) (some (.int .i64 (z:Int)))=some (.int .u8 b.toNat):=by
 simp only[im]
 rw[if_pos (by omega),Int.toNat_natCast,h]
theorem PQ (t:TypeId) (c d:Bool) (k:IntKind) (a b:Int) (hb:b≠0):aN E .quo t c d (some (.int k a)) (some (.int k b))=some (.int k (k.wrap (a.tdiv b))):=by simp [aN,gH,bW,hb]
end Go.Ab
end
section
namespace Go.Ab
open Go.ChangeShapes Go.WideShapes Go.RowKit
variable {E:Env}
def rL (h:ag):Prop:=∀i o,h.get i=some o→o.rw=false
theorem OK.show {φ:Ph} {h:ag} {w:World} (ok:OK E φ h w) (J8:rL h) {b off:Nat} {cs:List AV} {e:TypeId} (cH:cs≠ []) (hz:∀m,cs≠ [.map m])
 (hC:∀(k:Nat) (x:AV),cs[k]? =some x→∃y,w.cell? ⟨b,off+k,none⟩=some y∧VR φ x y):
 ∃h',h.new (.cells cs e true)=some h'∧OK E (φ.add h.nx ⟨b,off,0⟩) h' w∧φ.le (φ.add h.nx ⟨b,off,0⟩)∧rL h'∧h'.nx=h.nx+1∧h'.get h.nx=some (.cells cs e true)∧(∀j,j≠h.nx→h'.get j=h.get j)∧(φ.add h.nx ⟨b,off,0⟩) h.nx=some ⟨b,off,0⟩:=by
 obtain ⟨h',hn⟩:∃h',h.new (.cells cs e true)=some h':=by
  exact ⟨_,ag.Ac _ _⟩
 obtain ⟨iv,S7,vb,hold⟩:=ag.iu hn
 have Ad:φ h.nx=none:=by
  cases e:φ h.nx with
  | none=>rfl
  | some m=>exact absurd (ok.sE _ _ e) (Nat.lt_irrefl _)
 have hle:φ.le (φ.add h.nx ⟨b,off,0⟩):=fun i m hm=>by
  unfold Ph.add;split
  · rename_i e;subst e;rw[Ad] at hm;simp at hm
  · exact hm
 have gY:∀j,j≠h.nx→(φ.add h.nx ⟨b,off,0⟩) j=φ j:=fun j hj=>by simp [Ph.add,hj]
 have et:(φ.add h.nx ⟨b,off,0⟩) h.nx=some ⟨b,off,0⟩:=by simp [Ph.add]
 have dw:∀j p,h'.get j=some p→(j=h.nx∧p= .cells cs e true)∨(j≠h.nx∧h.get j=some p):=fun j p hj=>by
  by_cases e:j=h.nx
  · subst e;rw[vb] at hj;simp at hj;exact .inl ⟨rfl,hj.symm⟩
  · rw[hold j e] at hj;exact .inr ⟨e,hj⟩
 have hlen:0<cs.length:=List.length_pos_iff.2 cH
 obtain ⟨y0,UR,_⟩:=hC 0 cs[0] (by simp [hlen])
 obtain ⟨C,e',lo,hi,hw⟩:∃C e' lo hi,w.heap[b]? =some (.cells C e' (lo,hi)):=by
  unfold World.cell? at UR
  split at UR
  · rename_i C e' fz hw;obtain ⟨lo,hi⟩:=fz;exact ⟨C,e',lo,hi,hw⟩
  · cases UR
 have jR:∀k,w.cell? ⟨b,off+k,none⟩=C[off+k]? :=fun k=>by simp [World.cell?,hw]
 refine ⟨h',hn,⟨fun i m hm=>?_,by rw[S7];exact Nat.le_succ_of_le ok.nx,fun g hg=>hle _ _ (ok.nK g hg),fun j p m hj hm=>?_,fun j k p q m n hj hk hm nL hw hb=>?_⟩,hle,fun j p hj=>?_,S7,vb,hold,et⟩
 · rw[S7]
   by_cases e:i=h.nx
   · omega
   · rw[gY i e] at hm;have:=ok.sE i m hm;omega
 · rcases dw j p hj with ⟨rfl,rfl⟩ | ⟨Ae,j6⟩
   · rw[et] at hm;simp at hm;subst hm
     refine ⟨C,e',lo,hi,hw,⟨?_,fun k x hk=>?_,(fun h=>by cases h),fun _ m hm=>absurd hm (hz m)⟩,fun h=>by cases h⟩
     · obtain ⟨y,hy,_⟩:=hC (cs.length - 1) cs[cs.length - 1] (List.getElem?_eq_getElem (by omega))
       rw[jR] at hy
       have:=(Array.getElem?_eq_some_iff.1 hy).1
       simp only[dy,Nat.zero_mul]
       omega
     · obtain ⟨y,hy,hv⟩:=hC k x hk
       rw[jR] at hy
       exact ⟨y,hy,hv.mono hle⟩
   · rw[gY j Ae] at hm
     exact (ok.live j p m j6 hm).mono hle
 · rcases dw j p hj with ⟨rfl,rfl⟩ | ⟨Z_,j6⟩<;>rcases dw k q hk with ⟨rfl,rfl⟩ | ⟨Z',yU⟩
   · rfl
   · rw[J8 k q yU] at hw;rcases hw with h | h<;>cases h
   · rw[J8 j p j6] at hw;rcases hw with h | h<;>cases h
   · rw[gY j Z_] at hm;rw[gY k Z'] at nL;exact ok.inj _ _ _ _ _ _ j6 yU hm nL hw hb
 · rcases dw j p hj with ⟨_,rfl⟩ | ⟨_,j6⟩
   · rfl
   · exact J8 j p j6
theorem rL.begin {G:Nat} {l:List N'}:rL (g_ G l):=fun i o h=>by
 obtain ⟨x,_,_,rfl⟩:=mY h;rfl
theorem A9 {f:FuncId} {avs:List AV} {h h':ag} (r:fI E f avs h (.bool true) h') {φ:Ph} {w:World} {vs:List Value} (ok:OK E φ h w) (hl:LR φ avs vs) (J8:rL h):
 Calls E.P f vs.toArray w fun en w'=>en= .returned (.bool true)∧w.keptBut w' (fun _=>False):=fun cs=>by
 obtain ⟨_,eZ⟩:=r φ w vs ok hl
 obtain ⟨φ',w',v',fr,hv,_,jW,h1,h2,h3⟩:=eZ cs
 cases hv
 refine ⟨.returned (.bool true),w',fr,⟨rfl,jW.os,jW.output,fun i hi=>?_⟩,h1,h2,h3⟩
 rw[jW.n6 i hi (fun j o l' q1 q2 _=>by rw[J8 j o q1] at q2;cases q2)]
 cases w.heap[i]? with
 | none=>rfl
 | some o=>cases o with
   | cells c t fz=>exact ⟨rfl,rfl,rfl,fun _ _=>rfl⟩
   | map es c=>exact .inr ⟨rfl,rfl⟩
   | _=>rfl
section
variable {H:Type} {enc:TypeId×Value→H} {w:World} {base:Nat} {spare:Nat→Bool} {held:Bool} {fuel:Nat} {t:TypeId} {x:DataW H×List MemPlace}
end
section
variable {H:Type} {enc:TypeId×Value→H} {P:Program} {w w':World}
theorem vV (hk:w.keptBut w' (fun _=>False)) {p:MemPlace} (hp:p.block<w.heap.size):w.sameAt w' p:=by
 have h:=hk.block hp (fun _ h=>h.elim)
 cases p with
 | cell b off=>simp only[World.sameAt,World.cell?];rw[show w'.heap[b]? =w.heap[b]? from h]
 | map b=>exact h
theorem zn (hl:laidOutB P=true) (hk:w.keptBut w' (fun _=>False)):∀{ts:List TypeId} {vs:List Value} {ds:List (DataW H)} {ps:List MemPlace},(∀t∈ts,P.readableRec t=true∧t<P.types.size)→
 DataW.TrodAll enc P w 0 (fun _=>true) true ts vs ds ps→DataW.TrodAll enc P w' 0 (fun b=>decide (b<w.heap.size)) true ts vs ds ps
 | [],vs,ds,ps,_,h=>by
   obtain ⟨rfl,rfl,rfl⟩:=trodAll_nil h
   exact trodAll_mk0
 | t::ts,vs,ds,ps,hr,h=>by
   have iv:=DataW.TrodAll.lt h
   obtain ⟨v,lq,d,sL,p,p',rfl,rfl,rfl,⟨n,h1⟩,h2⟩:=trodAll_cons h
   obtain ⟨h3,h4⟩:=hr t (by simp)
   refine trodAll_cons_mk ⟨n,?_⟩ (zn hl hk (fun t ht=>hr t (by simp [ht])) h2)
   exact DataW.trod_stays (kids_book hl h3) (book_sized h3) (fun h=>by cases h) ⟨h4,book_self t⟩ h1 (fun q hq=>vV hk (iv q (by simp [hq]))) (fun q hq=>by simpa using iv q (by simp [hq]))
end
end Go.Ab
end
section
namespace Go.Ab
variable {E:Env}
end Go.Ab
end
section
namespace Go.Ab
variable {E:Env} {call:aB}
def Ev (E:Env) (call:aB) (c:Code) (s:St) (e:gR) (s':St):Prop:=∃n0,∀n,n0≤n→exec E call n c s= .ok e s'
theorem Ev.of {c:Code} {s:St} {e:gR} {s':St} (h:∀n,exec E call (n+1) c s= .ok e s'):Ev E call c s e s':=⟨1,fun n hn=>by
 obtain ⟨k,rfl⟩:∃k,n=k+1:=⟨n - 1,by omega⟩
 exact h k⟩
theorem Ev.seq {a b:Code} {s s1 s':St} {e:gR} (h1:Ev E call a s .normal s1) (h2:Ev E call b s1 e s'):Ev E call (.seq a b) s e s':=by
 obtain ⟨n1,h1⟩:=h1
 obtain ⟨n2,h2⟩:=h2
 refine ⟨n1+n2+1,fun n hn=>?_⟩
 obtain ⟨k,rfl⟩:∃k,n=k+1:=⟨n - 1,by omega⟩
 rw[Rl,h1 k (by omega),ud]
 exact h2 k (by omega)
theorem Ev.seq' {a b:Code} {s s':St} {e:gR} (he:e≠ .normal) (h1:Ev E call a s e s'):Ev E call (.seq a b) s e s':=by
 obtain ⟨n1,h1⟩:=h1
 refine ⟨n1+1,fun n hn=>?_⟩
 obtain ⟨k,rfl⟩:∃k,n=k+1:=⟨n - 1,by omega⟩
 rw[Rl,h1 k (by omega)]
 cases e with
 | normal=>exact absurd rfl he
 | _=>rfl
theorem Ev.loop {b:Code} {s s1 s':St} {e:gR} (h1:Ev E call b s .normal s1) (h2:Ev E call (.loop b) s1 e s'):Ev E call (.loop b) s e s':=by
 obtain ⟨n1,h1⟩:=h1
 obtain ⟨n2,h2⟩:=h2
 refine ⟨n1+n2+1,fun n hn=>?_⟩
 obtain ⟨k,rfl⟩:∃k,n=k+1:=⟨n - 1,by omega⟩
 rw[Ll,h1 k (by omega),ud]
 exact h2 k (by omega)
theorem Ev.exit {b:Code} {s s':St} {e:gR} (he:e≠ .normal) (h1:Ev E call b s e s'):Ev E call (.loop b) s e s':=by
 obtain ⟨n1,h1⟩:=h1
 refine ⟨n1+1,fun n hn=>?_⟩
 obtain ⟨k,rfl⟩:∃k,n=k+1:=⟨n - 1,by omega⟩
 rw[Ll,h1 k (by omega)]
 cases e with
 | normal=>exact absurd rfl he
 | _=>rfl
theorem Ev.ret {b:Code} {s s':St} (h1:Ev E call b s .ret s'):Ev E call (.loop b) s .ret s':=Ev.exit (by simp) h1
theorem Ev.out {b:Code} {s s':St} {i:Nat} (h1:Ev E call b s (.exit i) s'):Ev E call (.loop b) s (.exit i) s':=Ev.exit (by simp) h1
inductive jI where
 | c
 | v (x:AV)
 | q (x:AV)
 | m (x:AV)
 | n (h:ag)
 | a (obj:aw) (x:AV) (h:ag)
 | e (x:AV) (h:ag)
 | p (x:AV) (h:ag)
 | b (x:Bool)
 | l (e:gR) (s:St)
def iN:List Prop→Prop
 | []=>True
 | p::ps=>p∧iN ps
inductive R where
 | bad
 | at (e:gR) (s:St) (as_:List jI) (ps:List Prop)
def R.go (k:St→List jI→List Prop→R):R→R
 | .at .normal s as_ ps=>k s as_ ps
 | r=>r
theorem R.V_ {k:St→List jI→List Prop→R} {r:R} {e:gR} {s:St} {as_:List jI} {ps:List Prop} (h:r.go k= .at e s as_ ps):(∃s1 pL nD,r= .at .normal s1 pL nD∧k s1 pL nD= .at e s as_ ps)∨(r= .at e s as_ ps∧e≠ .normal):=by
 unfold R.go at h
 split at h
 · exact .inl ⟨_,_,_,rfl,h⟩
 · rename_i cH
   refine .inr ⟨h,fun he=>?_⟩
   subst he;exact cH _ _ _ h
def V' (E:Env) (ts:List AV):List Operand→List TypeId→Option AV
 | [x],[t]=>cV (E.P.underlying t) (cx E ts x)
 | _,_=>none
def vW (c a b:Option AV):Option AV:=match c with
 | some (.bool true)=>a
 | some (.bool false)=>b
 | _=>none
theorem PS {ts:List AV} (c a b:Operand):aG E ts (.pick c a b)=vW (cx E ts c) (cx E ts a) (cx E ts b):=by
 simp only[aG]
 generalize cx E ts c=x
 cases x with
 | none=>rfl
 | some v=>cases v with
   | bool b=>cases b<;>rfl
   | _=>rfl
theorem A_ {c:Bool} {a b:Option AV} (h:c=true):vW (some (.bool c)) a b=a:=by rw[h];rfl
theorem az {c:Bool} {a b:Option AV} (h:c=false):vW (some (.bool c)) a b=b:=by rw[h];rfl
def PT (E:Env) (ts:List AV) (op:Op):Option AV:=match op with
 | .indexAddr t x i=>bP E (E.P.underlying t) (cx E ts x) (cx E ts i)
 | .index t x i=>im E (E.P.underlying t) (cx E ts x) (cx E ts i)
 | .binOp op t x y _=>aN E op t (isConst x) (isConst y) (cx E ts x) (cx E ts y)
 | .pick c a b=>vW (cx E ts c) (cx E ts a) (cx E ts b)
 | .call c=>match c.callee with
   | .builtin .len=>V' E ts c.args.toList c.argTypes.toList
   | _=>none
 | _=>none
theorem vX {α:Type} {a:Array α} {l:List α} (h:a.toList=l):a=l.toArray:=by rw[←h]
theorem Hx {ts:List AV} {op:Op} {v:AV} (e:PT E ts op=some v):aG E ts op=some v:=by
 unfold PT at e
 split at e
 · rw[←Dn] at e;exact e
 · rw[←PO] at e;exact e
 · rename_i o t x y t';exact (PE o t t' x y).trans e
 · rename_i c a b;exact (PS c a b).trans e
 · rename_i c
   obtain ⟨cl,args,tys⟩:=c
   simp only at e
   split at e
   · unfold V' at e
     split at e
     · rename_i x t hx ht
       rw[vX hx,vX ht]
       exact (V9 x t).trans e
     · cases e
   · cases e
 · cases e
noncomputable def nE (E:Env) (h:ag) (t:TypeId) (x ix:Option AV) (cW:Bool):Option AV:=match E.P.underlying t,x,ix with
 | some (.map key elem),some m,some k=>
   if er (E.P.underlying key) k then
    match (match m with | .cn=>some [] | .map i=>(match h.get i with | some (.map es _)=>some es | _=>none) | _=>none) with
    | none=>none
    | some es=>match ny k es 0 with
      | none=>none
      | some (some (_,v))=>some (if cW then .tuple [v,.bool true] else v)
      | some none=>match cO E elem with
        | some z=>some (if cW then .tuple [z,.bool false] else z)
        | none=>none
   else if fh E (E.P.underlying key) k then
    match (match m with | .cn=>some [] | .map i=>(match h.get i with | some (.map es _)=>some es | _=>none) | _=>none) with
    | none=>none
    | some es=>match findD E key k es 0 with
      | none=>none
      | some (some (_,v))=>some (if cW then .tuple [v,.bool true] else v)
      | some none=>match cO E elem with
        | some z=>some (if cW then .tuple [z,.bool false] else z)
        | none=>none
   else none
 | _,_,_=>none
theorem S8 (E:Env) (ts:List AV) (h:ag) (t:TypeId) (x ix:Operand) (ok:Bool):cB E ts h (.lookup t x ix ok)=nE E h t (cx E ts x) (cx E ts ix) ok:=rfl
noncomputable def Lr (E:Env) (ts:List AV) (h:ag) (op:Op):Option AV:=match op with
 | .load t x=>S4 (cx E ts x) (bH E h t) none
 | .lookup t x ix ok=>nE E h t (cx E ts x) (cx E ts ix) ok
 | op=>cB E ts h op
theorem A' {ts:List AV} {h:ag} {op:Op} {v:AV} (e:Lr E ts h op=some v):cB E ts h op=some v:=by
 unfold Lr at e
 split at e
 · rw[S5];exact e
 · rw[S8];exact e
 · exact e
def Wa (E:Env) (d:Option TypeDesc) (l c:Option AV):Option (aw×(Nat→AV)):=match d,l,c with
 | some (.slice elem),some (.int _ len),some (.int _ cap)=>match bh E elem,dj E elem,cO E elem with
   | some n,some bytes,some z=>
     if 0≤len∧len≤cap∧cap<2^30∧(bytes:Int)*cap≤2^47∧z.cells.length=n then
      some (.cells (dD z.cells cap.toNat) elem false,fun i=> .slice i 0 len.toNat cap.toNat false)
     else none
   | _,_,_=>none
 | _,_,_=>none
def PU (E:Env) (ts:List AV) (op:Op):Option (aw×(Nat→AV)):=match op with
 | .makeSlice t l c=>Wa E (E.P.underlying t) (cx E ts l) (cx E ts c)
 | op=>cq E ts op
theorem Hy (ts:List AV) (op:Op):PU E ts op=cq E ts op:=by
 unfold PU
 split
 · rename_i t l c
   simp only[cq]
   generalize E.P.underlying t=d
   generalize cx E ts l=x
   generalize cx E ts c=y
   rfl
 · rfl
noncomputable def PV (E:Env) (call:aB) (ts:List AV) (h:ag) (rc:RC) (o:Oper) (x:AV) (h':ag):Prop:=match o.op with
 | .store t a v=>match cx E ts a,cx E ts v with
   | some a,some v=>x=AV.undef∧a_ E h t a v=some h'
   | _,_=>False
 | .call c=>match c.callee with
   | .builtin .append=>match dJ E ts c.args.toList with
     | some [s,y]=>bp E h c.argTypes s y=some (x,h')
     | _=>False
   | .builtin .copy=>match dJ E ts c.args.toList with
     | some [s,y]=>pZ E h c.argTypes s y=some (x,h')
     | _=>False
   | .value _=>match callee E ts c with
     | some (f,args)=>match gI E f with
       | some g=>g args h=some (x,h')
       | none=>call f args h= .ret x h'
     | none=>False
   | _=>bX E call ts h rc o= .val x h'
 | .convert src dst y=>ra E h src dst (cx E ts y)=some (x,h')
 | .mapEntry t m k=>match cx E ts m,cx E ts k with
   | some a,some b=>j5 E h t a b=some (x,h')
   | _,_=>False
 | .entryStore _ m b v=>match cx E ts m,cx E ts b,cx E ts v with
   | some a,some b,some v=>x=AV.undef∧eY h a b v=some h'
   | _,_,_=>False
 | _=>bX E call ts h rc o= .val x h'
theorem Hz {ts:List AV} {h:ag} {rc:RC} {o:Oper} {x:AV} {h':ag} (e:PV E call ts h rc o x h'):bX E call ts h rc o= .val x h':=by
 unfold PV at e
 split at e
 · rename_i t a v ho
   split at e
   · rename_i a' v' h1 h2
     obtain ⟨rfl,e⟩:=e
     unfold bX
     simp only[ho,h1,h2,e]
   · exact e.elim
 · rename_i c ho
   split at e
   · rename_i hc
     split at e
     · rename_i h1
       unfold bX
       simp only[ho,hc,h1,e]
     · exact e.elim
   · rename_i hc
     split at e
     · rename_i h1
       unfold bX
       simp only[ho,hc,h1,e]
     · exact e.elim
   · rename_i hc
     split at e
     · rename_i h1
       split at e
       · rename_i h2
         unfold bX
         simp only[ho,hc,h1,h2,e]
       · rename_i h2
         unfold bX
         simp only[ho,hc,h1,h2,e]
     · exact e.elim
   · exact e
 · rename_i src dst y ho
   unfold bX
   simp only[ho,e]
 · rename_i t m k ho
   split at e
   · rename_i a b h1 h2
     unfold bX
     simp only[ho,h1,h2,e]
   · exact e.elim
 · rename_i t m b v ho
   split at e
   · rename_i a' b' v' h1 h2 h3
     obtain ⟨rfl,e⟩:=e
     unfold bX
     simp only[ho,h1,h2,h3,e]
   · exact e.elim
 · exact e
def IN {β:Type} (k:List AV→β):List AV→Nat→AV→β
 | [],_,_=>k []
 | _::xs,0,v=>k (v::xs)
 | x::xs,d+1,v=>IN (fun ys=>k (x::ys)) xs d v
theorem Ba {β:Type}:∀(k:List AV→β) (ts:List AV) (d:Nat) (v:AV),IN k ts d v=k (ts.set d v)
 | k,[],_,_=>by simp [IN]
 | k,_::xs,0,v=>rfl
 | k,x::xs,d+1,v=>by rw[IN,Ba];rfl
def oD (s:St) (d:Option Tmp) (v:AV) (h:ag) (as_:List jI) (ps:List Prop):R:=match d with
 | some i=>IN (fun ts=> .at .normal ⟨ts,h,s.ds,s.rc⟩ as_ ps) s.ts i v
 | none=> .at .normal ⟨s.ts,h,s.ds,s.rc⟩ as_ ps
theorem jr (s:St) (d:Option Tmp) (v:AV) (h:ag) (as_:List jI) (ps:List Prop):Go.Ab.oD s d v h as_ ps= .at .normal {s with ts:=cA s.ts d v,h:=h} as_ ps:=by
 cases d with
 | none=>rfl
 | some i=>exact Ba _ _ _ _
noncomputable def Dp (E:Env) (call:aB) (o:Oper) (s:St) (as_:List jI) (ps:List Prop):R:=match as_ with
 | .c::as_=>match aG E s.ts o.op with
   | some v=>oD s o.dst v s.h as_ ps
   | none=> .bad
 | .v x::as_=>oD s o.dst x s.h as_ ((PT E s.ts o.op=some x)::ps)
 | .q x::as_=>oD s o.dst x s.h as_ ((aG E s.ts o.op=some x)::ps)
 | .m x::as_=>match aG E s.ts o.op with
   | none=>oD s o.dst x s.h as_ ((Lr E s.ts s.h o.op=some x)::ps)
   | some _=> .bad
 | .n h'::as_=>match aG E s.ts o.op,cB E s.ts s.h o.op,cq E s.ts o.op with
   | none,none,some (obj,mk)=>oD s o.dst (mk s.h.nx) h' as_ ((s.h.new obj=some h')::ps)
   | _,_,_=> .bad
 | .a obj x h'::as_=>match aG E s.ts o.op,cB E s.ts s.h o.op with
   | none,none=>oD s o.dst x h' as_ ((∃mk,PU E s.ts o.op=some (obj,mk)∧mk s.h.nx=x)::(s.h.new obj=some h')::ps)
   | _,_=> .bad
 | .e x h'::as_=>match aG E s.ts o.op,cB E s.ts s.h o.op,cq E s.ts o.op with
   | none,none,none=>oD s o.dst x h' as_ (PV E call s.ts s.h s.rc o x h'::ps)
   | _,_,_=> .bad
 | .p x h'::as_=>match aG E s.ts o.op,cB E s.ts s.h o.op,cq E s.ts o.op with
   | none,none,none=> .at (.panic x) {s with h:=h'} as_ ((bX E call s.ts s.h s.rc o= .panic x h')::ps)
   | _,_,_=> .bad
 | _=> .bad
theorem uf {o:Oper} {s:St} {as_:List jI} {ps:List Prop} {e:gR} {s':St} {qW:List jI} {nJ:List Prop} (hr:Dp E call o s as_ ps= .at e s' qW nJ) (hp:iN nJ):iN ps∧z_ E call s o= .ok e s':=by
 have seen:∀{x:AV},(aG E s.ts o.op=some x∨(aG E s.ts o.op=none∧cB E s.ts s.h o.op=some x))→z_ E call s o= .ok .normal {s with ts:=cA s.ts o.dst x}:=by
  rintro x (h | ⟨h1,h2⟩)<;>unfold z_
  · rw[h]
  · rw[h1,h2]
 unfold Dp at hr
 split at hr
 · split at hr
   · rename_i v hv
     rw[jr] at hr;cases hr
     exact ⟨hp,seen (.inl hv)⟩
   · cases hr
 · rw[jr] at hr;cases hr
   exact ⟨hp.2,seen (.inl (Hx hp.1))⟩
 · rw[jr] at hr;cases hr
   exact ⟨hp.2,seen (.inl hp.1)⟩
 · split at hr
   · rename_i h1
     rw[jr] at hr;cases hr
     exact ⟨hp.2,seen (.inr ⟨h1,A' hp.1⟩)⟩
   · cases hr
 · split at hr
   · rename_i h1 h2 h3
     rw[jr] at hr;cases hr
     refine ⟨hp.2,?_⟩
     unfold z_
     simp only[h1,h2,h3,hp.1]
   · cases hr
 · split at hr
   · rename_i h1 h2
     rw[jr] at hr;cases hr
     obtain ⟨⟨mk,h3,h4⟩,h5,hp⟩:=hp
     rw[Hy] at h3
     refine ⟨hp,?_⟩
     unfold z_
     simp only[h1,h2,h3,h4,h5]
   · cases hr
 · split at hr
   · rename_i h1 h2 h3
     rw[jr] at hr;cases hr
     refine ⟨hp.2,?_⟩
     unfold z_
     simp only[h1,h2,h3,Hz hp.1]
   · cases hr
 · split at hr
   · rename_i h1 h2 h3
     cases hr
     refine ⟨hp.2,?_⟩
     unfold z_
     simp only[h1,h2,h3,hp.1]
   · cases hr
 · cases hr
inductive Gd where
 | yes
 | no
 | ask (v want:Bool)
def Dq (want:Bool):Option AV→Gd
 | some (.bool v)=> .ask v want
 | _=> .no
def Bb (ops:Array Oper) (ts:List AV) (g:Option (Nat×Bool)):Gd:=match g with
 | none=> .yes
 | some (j,want)=>match (ops[j]?).bind (·.dst) with
   | none=> .no
   | some d=>Dq want ts[d]?
theorem zo (ops:Array Oper) (ts:List AV) (o:Oper):bE ops ts o=(match Bb ops ts o.guard with
 | .yes=>true
 | .no=>false
 | .ask v want=>v==want):=by
 unfold bE Bb
 cases o.guard with
 | none=>rfl
 | some q=>
   obtain ⟨j,want⟩:=q
   simp only
   cases (ops[j]?).bind (·.dst) with
   | none=>rfl
   | some d=>
     simp only
     generalize ts[d]? =y
     unfold Dq
     cases y with
     | none=>rfl
     | some z=>cases z<;>rfl
noncomputable def lS (E:Env) (call:aB) (ops:Array Oper):List Oper→St→List jI→List Prop→R
 | [],s,as_,ps=> .at .normal s as_ ps
 | o::rest,s,as_,ps=>match Bb ops s.ts o.guard with
   | .yes=>(Dp E call o s as_ ps).go (lS E call ops rest)
   | .no=>(oD s o.dst AV.undef s.h as_ ps).go (lS E call ops rest)
   | .ask v want=>match as_ with
     | .b x::as_=>bif x==want then (Dp E call o s as_ ((v=x)::ps)).go (lS E call ops rest) else (oD s o.dst AV.undef s.h as_ ((v=x)::ps)).go (lS E call ops rest)
     | _=> .bad
theorem rM {ops:Array Oper}:∀(l:List Oper) (s:St) (as_:List jI) (ps:List Prop) (e:gR) (s':St) (qW:List jI) (nJ:List Prop),lS E call ops l s as_ ps= .at e s' qW nJ→iN nJ→iN ps∧gU E call ops l s= .ok e s'
 | [],s,as_,ps,e,s',qW,nJ,hr,hp=>by cases hr;exact ⟨hp,rfl⟩
 | o::rest,s,as_,ps,e,s',qW,nJ,hr,hp=>by
   have ih:=rM (ops:=ops) rest
   have S9:∀(pL:List jI) (nD:List Prop),(Dp E call o s pL nD).go (lS E call ops rest)= .at e s' qW nJ→iN nD∧(bE ops s.ts o=true→gU E call ops (o::rest) s= .ok e s'):=by
    intro pL nD h
    rcases R.V_ h with ⟨s1,Om,QR,h1,h2⟩ | ⟨h1,cH⟩
    · obtain ⟨h3,h4⟩:=ih _ _ _ _ _ _ _ h2 hp
      obtain ⟨h5,h6⟩:=uf h1 h3
      refine ⟨h5,fun hw=>?_⟩
      unfold gU
      rw[if_pos hw,h6];exact h4
    · obtain ⟨h5,h6⟩:=uf h1 hp
      refine ⟨h5,fun hw=>?_⟩
      unfold gU
      rw[if_pos hw,h6]
      cases e with
      | normal=>exact absurd rfl cH
      | _=>rfl
   have S_:∀(pL:List jI) (nD:List Prop),(oD s o.dst AV.undef s.h pL nD).go (lS E call ops rest)= .at e s' qW nJ→iN nD∧(bE ops s.ts o=false→gU E call ops (o::rest) s= .ok e s'):=by
    intro pL nD h
    rw[jr] at h
    obtain ⟨h3,h4⟩:=ih _ _ _ _ _ _ _ (show lS E call ops rest _ pL nD=_ from h) hp
    refine ⟨h3,fun hw=>?_⟩
    unfold gU
    rw[if_neg (by rw[hw];exact Bool.false_ne_true)]
    exact h4
   have hg:=zo ops s.ts o
   unfold lS at hr
   split at hr
   · rename_i h1;rw[h1] at hg;exact ⟨(S9 _ _ hr).1,(S9 _ _ hr).2 hg⟩
   · rename_i h1;rw[h1] at hg;exact ⟨(S_ _ _ hr).1,(S_ _ _ hr).2 hg⟩
   · rename_i v want h1
     rw[h1] at hg
     split at hr
     · rename_i x pL
       cases hx:x==want with
       | true=>
         rw[hx] at hr
         obtain ⟨⟨h2,h3⟩,h4⟩:=S9 _ _ hr
         exact ⟨h3,h4 (by rw[hg,h2];exact hx)⟩
       | false=>
         rw[hx] at hr
         obtain ⟨⟨h2,h3⟩,h4⟩:=S_ _ _ hr
         exact ⟨h3,h4 (by rw[hg,h2];exact hx)⟩
     · cases hr
inductive RT where
 | bad
 | ok (tr:List Step) (hs:List ag) (s:St) (as_:List jI) (ps:List Prop)
def RT.step (x:Step):RT→RT
 | .ok tr hs s as_ ps=> .ok (x::tr) hs s as_ ps
 | .bad=> .bad
def RT.bound (x:Step) (h:ag):RT→RT
 | .ok tr hs s as_ ps=> .ok (x::tr) (h::hs) s as_ ps
 | .bad=> .bad
def RT.put (s:St) (d:Option Tmp) (v:AV) (h:ag) (k:St→RT):RT:=match d with
 | some i=>IN (fun ts=>k ⟨ts,h,s.ds,s.rc⟩) s.ts i v
 | none=>k ⟨s.ts,h,s.ds,s.rc⟩
theorem RT.put_eq (s:St) (d:Option Tmp) (v:AV) (h:ag) (k:St→RT):RT.put s d v h k=k {s with ts:=cA s.ts d v,h:=h}:=by
 cases d with
 | none=>rfl
 | some i=>exact Ba _ _ _ _
noncomputable def Dr (E:Env) (call:aB) (i k:Nat) (o:Oper) (s:St) (as_:List jI) (ps:List Prop) (go:Nat→St→List jI→List Prop→RT):RT:=match as_ with
 | .e x h'::as_=>(RT.put s o.dst x h' fun s'=>go (k+1) s' as_ (PV E call s.ts s.h s.rc o x h'::ps)).bound ⟨i,k,s.ts,x,.pS h'⟩ s.h
 | _=> .bad
noncomputable def Ds (E:Env) (i k:Nat) (o:Oper) (s:St) (as_:List jI) (ps:List Prop) (go:Nat→St→List jI→List Prop→RT):RT:=match as_ with
 | .c::as_=>match aG E s.ts o.op with
   | some v=>(RT.put s o.dst v s.h fun s'=>go k s' as_ ps).step ⟨i,k,s.ts,v,.ei⟩
   | none=> .bad
 | .v x::as_=>(RT.put s o.dst x s.h fun s'=>go k s' as_ ((PT E s.ts o.op=some x)::ps)).step ⟨i,k,s.ts,x,.ei⟩
 | .q x::as_=>(RT.put s o.dst x s.h fun s'=>go k s' as_ ((aG E s.ts o.op=some x)::ps)).step ⟨i,k,s.ts,x,.ei⟩
 | .m x::as_=>match aG E s.ts o.op with
   | none=>(RT.put s o.dst x s.h fun s'=>go k s' as_ ((Lr E s.ts s.h o.op=some x)::ps)).step ⟨i,k,s.ts,x,.red⟩
   | some _=> .bad
 | .n h'::as_=>match aG E s.ts o.op,cB E s.ts s.h o.op,cq E s.ts o.op with
   | none,none,some (obj,mk)=>(RT.put s o.dst (mk s.h.nx) h' fun s'=>go k s' as_ ((s.h.new obj=some h')::ps)).step ⟨i,k,s.ts,mk s.h.nx,.nZ s.h.nx obj⟩
   | _,_,_=> .bad
 | .a obj x h'::as_=>match aG E s.ts o.op,cB E s.ts s.h o.op with
   | none,none=>(RT.put s o.dst x h' fun s'=>go k s' as_ ((∃mk,PU E s.ts o.op=some (obj,mk)∧mk s.h.nx=x)::(s.h.new obj=some h')::ps)).step ⟨i,k,s.ts,x,.nZ s.h.nx obj⟩
   | _,_=> .bad
 | _=> .bad
noncomputable def runT (E:Env) (call:aB) (ops:Array Oper):List Nat→Nat→St→List jI→List Prop→RT
 | [],_,s,as_,ps=> .ok [] [s.h] s as_ ps
 | i::rest,k,s,as_,ps=>match ops[i]? with
   | none=> .bad
   | some o=>match Bb ops s.ts o.guard with
     | .yes=>bif dv E o.op then Dr E call i k o s as_ ps (runT E call ops rest) else Ds E i k o s as_ ps (runT E call ops rest)
     | .no=>bif dv E o.op then (RT.put s o.dst AV.undef s.h fun s'=>runT E call ops rest (k+1) s' as_ ps).bound ⟨i,k,s.ts,AV.undef,.off⟩ s.h else (RT.put s o.dst AV.undef s.h fun s'=>runT E call ops rest k s' as_ ps).step ⟨i,k,s.ts,AV.undef,.off⟩
     | .ask v want=>match as_ with
       | .b x::as_=>bif x==want then (bif dv E o.op then Dr E call i k o s as_ ((v=x)::ps) (runT E call ops rest) else Ds E i k o s as_ ((v=x)::ps) (runT E call ops rest))
         else (bif dv E o.op then (RT.put s o.dst AV.undef s.h fun s'=>runT E call ops rest (k+1) s' as_ ((v=x)::ps)).bound ⟨i,k,s.ts,AV.undef,.off⟩ s.h else (RT.put s o.dst AV.undef s.h fun s'=>runT E call ops rest k s' as_ ((v=x)::ps)).step ⟨i,k,s.ts,AV.undef,.off⟩)
       | _=> .bad
theorem RT.mZ {x:Step} {r:RT} {tr:List Step} {hs:List ag} {s:St} {as_:List jI} {ps:List Prop} (h:r.step x= .ok tr hs s as_ ps):∃EN,tr=x::EN∧r= .ok EN hs s as_ ps:=by
 cases r with
 | bad=>cases h
 | ok a b c d e=>cases h;exact ⟨_,rfl,rfl⟩
theorem RT.Dt {x:Step} {g:ag} {r:RT} {tr:List Step} {hs:List ag} {s:St} {as_:List jI} {ps:List Prop} (h:r.bound x g= .ok tr hs s as_ ps):∃EN mK,tr=x::EN∧hs=g::mK∧r= .ok EN mK s as_ ps:=by
 cases r with
 | bad=>cases h
 | ok a b c d e=>cases h;exact ⟨_,_,rfl,rfl,rfl⟩
theorem vY {ops:Array Oper}:∀(l:List Nat) (k:Nat) (s:St) (as_:List jI) (ps:List Prop) (tr:List Step) (hs:List ag) (s':St) (qW:List jI) (nJ:List Prop),
 runT E call ops l k s as_ ps= .ok tr hs s' qW nJ→iN nJ→iN ps∧bR E call ops l k s= .ok tr hs s'
 | [],k,s,as_,ps,tr,hs,s',qW,nJ,hr,hp=>by cases hr;exact ⟨hp,rfl⟩
 | i::rest,k,s,as_,ps,tr,hs,s',qW,nJ,hr,hp=>by
   have ih:=vY (ops:=ops) rest
   unfold runT at hr
   split at hr
   · cases hr
   rename_i o hi
   have hE:∀{pL:List jI} {nD:List Prop},dv E o.op=true→Dr E call i k o s pL nD (runT E call ops rest)= .ok tr hs s' qW nJ→iN nD∧(bE ops s.ts o=true→bR E call ops (i::rest) k s= .ok tr hs s'):=by
    intro pL nD he h
    unfold Dr at h
    split at h
    · rename_i x h' Om
      rw[RT.put_eq] at h
      obtain ⟨GX,mM,rfl,rfl,h9⟩:=RT.Dt h
      obtain ⟨h1,h2⟩:=ih _ _ _ _ _ _ _ _ _ h9 hp
      refine ⟨h1.2,fun hw=>?_⟩
      unfold bR
      simp only[hi,he,hw,if_true,Hz h1.1,h2]
      rfl
    · cases h
   have hN:∀{pL:List jI} {nD:List Prop},dv E o.op=false→Ds E i k o s pL nD (runT E call ops rest)= .ok tr hs s' qW nJ→iN nD∧(bE ops s.ts o=true→bR E call ops (i::rest) k s= .ok tr hs s'):=by
    intro pL nD he h
    unfold Ds at h
    split at h
    · split at h
      · rename_i v hv
        rw[RT.put_eq] at h
        obtain ⟨GX,rfl,h9⟩:=RT.mZ h
        obtain ⟨h1,h2⟩:=ih _ _ _ _ _ _ _ _ _ h9 hp
        refine ⟨h1,fun hw=>?_⟩
        unfold bR
        simp only[hi,he,hw,if_true,hv,Bool.false_eq_true,if_false]
        rw[h2]
        rfl
      · cases h
    · rw[RT.put_eq] at h
      obtain ⟨GX,rfl,h9⟩:=RT.mZ h
      obtain ⟨h1,h2⟩:=ih _ _ _ _ _ _ _ _ _ h9 hp
      refine ⟨h1.2,fun hw=>?_⟩
      unfold bR
      simp only[hi,he,hw,if_true,Hx h1.1,Bool.false_eq_true,if_false]
      rw[h2]
      rfl
    · rw[RT.put_eq] at h
      obtain ⟨GX,rfl,h9⟩:=RT.mZ h
      obtain ⟨h1,h2⟩:=ih _ _ _ _ _ _ _ _ _ h9 hp
      refine ⟨h1.2,fun hw=>?_⟩
      unfold bR
      simp only[hi,he,hw,if_true,h1.1,Bool.false_eq_true,if_false]
      rw[h2]
      rfl
    · split at h
      · rename_i hv
        rw[RT.put_eq] at h
        obtain ⟨GX,rfl,h9⟩:=RT.mZ h
        obtain ⟨h1,h2⟩:=ih _ _ _ _ _ _ _ _ _ h9 hp
        refine ⟨h1.2,fun hw=>?_⟩
        unfold bR
        simp only[hi,he,hw,if_true,hv,A' h1.1,Bool.false_eq_true,if_false]
        rw[h2]
        rfl
      · cases h
    · split at h
      · rename_i q1 q2 q3
        rw[RT.put_eq] at h
        obtain ⟨GX,rfl,h9⟩:=RT.mZ h
        obtain ⟨h1,h2⟩:=ih _ _ _ _ _ _ _ _ _ h9 hp
        refine ⟨h1.2,fun hw=>?_⟩
        unfold bR
        simp only[hi,he,hw,if_true,q1,q2,q3,h1.1,Bool.false_eq_true,if_false,h2]
        rfl
      · cases h
    · split at h
      · rename_i q1 q2
        rw[RT.put_eq] at h
        obtain ⟨GX,rfl,h9⟩:=RT.mZ h
        obtain ⟨h1,h2⟩:=ih _ _ _ _ _ _ _ _ _ h9 hp
        obtain ⟨⟨mk,h3,h4⟩,h5,h6⟩:=h1
        rw[Hy] at h3
        subst h4
        refine ⟨h6,fun hw=>?_⟩
        unfold bR
        simp only[hi,he,hw,if_true,q1,q2,h3,h5,Bool.false_eq_true,if_false,h2]
        rfl
      · cases h
    · cases h
   have hO:∀{pL:List jI} {nD:List Prop},(bif dv E o.op then (RT.put s o.dst AV.undef s.h fun s'=>runT E call ops rest (k+1) s' pL nD).bound ⟨i,k,s.ts,AV.undef,.off⟩ s.h else (RT.put s o.dst AV.undef s.h fun s'=>runT E call ops rest k s' pL nD).step ⟨i,k,s.ts,AV.undef,.off⟩)= .ok tr hs s' qW nJ→
    iN nD∧(bE ops s.ts o=false→bR E call ops (i::rest) k s= .ok tr hs s'):=by
    intro pL nD h
    cases he:dv E o.op with
    | true=>
      rw[he,cond_true,RT.put_eq] at h
      obtain ⟨GX,mM,rfl,rfl,h9⟩:=RT.Dt h
      obtain ⟨h1,h2⟩:=ih _ _ _ _ _ _ _ _ _ h9 hp
      refine ⟨h1,fun hw=>?_⟩
      unfold bR
      simp only[hi,he,hw,if_true,Bool.false_eq_true,if_false]
      rw[h2]
      rfl
    | false=>
      rw[he,cond_false,RT.put_eq] at h
      obtain ⟨GX,rfl,h9⟩:=RT.mZ h
      obtain ⟨h1,h2⟩:=ih _ _ _ _ _ _ _ _ _ h9 hp
      refine ⟨h1,fun hw=>?_⟩
      unfold bR
      simp only[hi,he,hw,Bool.false_eq_true,if_false]
      rw[h2]
      rfl
   have hY:∀{pL:List jI} {nD:List Prop},(bif dv E o.op then Dr E call i k o s pL nD (runT E call ops rest) else Ds E i k o s pL nD (runT E call ops rest))= .ok tr hs s' qW nJ→
    iN nD∧(bE ops s.ts o=true→bR E call ops (i::rest) k s= .ok tr hs s'):=by
    intro pL nD h
    cases he:dv E o.op with
    | true=>rw[he] at h;exact hE he h
    | false=>rw[he] at h;exact hN he h
   have hg:=zo ops s.ts o
   split at hr
   · rename_i h1;rw[h1] at hg;exact ⟨(hY hr).1,(hY hr).2 hg⟩
   · rename_i h1;rw[h1] at hg;exact ⟨(hO hr).1,(hO hr).2 hg⟩
   · rename_i v want h1
     rw[h1] at hg
     split at hr
     · rename_i x pL
       cases hx:x==want with
       | true=>
         rw[hx] at hr
         obtain ⟨⟨h2,h3⟩,h4⟩:=hY hr
         exact ⟨h3,h4 (by rw[hg,h2];exact hx)⟩
       | false=>
         rw[hx] at hr
         obtain ⟨⟨h2,h3⟩,h4⟩:=hO hr
         exact ⟨h3,h4 (by rw[hg,h2];exact hx)⟩
     · cases hr
noncomputable def FP (E:Env) (ops:Array Oper) (x:Step) (h:ag) (ps:List Prop):List Prop:=match x.kind with
 | .red=>match ops[x.i]? with
   | some o=>(AV.same 20 x.v x.v=true)::(Lr E x.ts h o.op=some x.v)::ps
   | none=>False::ps
 | .nZ n obj=>(∃o,h.get n=some o∧aw.same o obj=true)::ps
 | _=>ps
noncomputable def FQ (E:Env) (ops:Array Oper) (x:Step):List ag→List Prop→List Prop
 | [],ps=>ps
 | h::hs,ps=>FQ E ops x hs (FP E ops x h ps)
noncomputable def rN (E:Env) (ops:Array Oper) (aW:List Nat) (an:List (List Nat)) (hs:List ag):List Step→List Prop→List Prop
 | [],ps=>ps
 | x::tr,ps=>rN E ops aW an hs tr (FQ E ops x ((hs.drop x.k).take (gV aW an x.i+1 - x.k)) ps)
theorem IP {ops:Array Oper} {x:Step} {h:ag} {ps:List Prop} (hc:iN (FP E ops x h ps)):iN ps∧f_ E ops x h=true:=by
 unfold FP at hc
 unfold f_
 split at hc
 · rename_i hk
   simp only[hk]
   split at hc
   · rename_i o ho
     have dw:ops.getD x.i default=o:=by simp [Array.getD_eq_getD_getElem?,ho]
     simp only[dw,A' hc.2.1,hc.1]
     exact ⟨hc.2.2,trivial⟩
   · exact hc.1.elim
 · rename_i n obj hk
   obtain ⟨⟨o,h1,h2⟩,h3⟩:=hc
   simp only[hk,h1,h2]
   exact ⟨h3,trivial⟩
 · rename_i h1 h2
   refine ⟨hc,?_⟩
   split
   · rename_i hk;exact absurd hk (by assumption)
   · rename_i hk;exact absurd hk (h2 _ _)
   · rfl
theorem zp {ops:Array Oper} {x:Step}:∀(hs:List ag) (ps:List Prop),iN (FQ E ops x hs ps)→iN ps∧hs.all (f_ E ops x)=true
 | [],ps,hc=>⟨hc,rfl⟩
 | h::hs,ps,hc=>by
   obtain ⟨h1,h2⟩:=zp hs _ hc
   obtain ⟨h3,h4⟩:=IP h1
   exact ⟨h3,by simp only[List.all_cons,h4,h2,Bool.and_self]⟩
theorem ug {ops:Array Oper} {aW:List Nat} {an:List (List Nat)} {hs:List ag}:∀(tr:List Step) (ps:List Prop),iN (rN E ops aW an hs tr ps)→
 iN ps∧(tr.all fun x=>((hs.drop x.k).take (gV aW an x.i+1 - x.k)).all (f_ E ops x))=true
 | [],ps,hc=>⟨hc,rfl⟩
 | x::tr,ps,hc=>by
   obtain ⟨h1,h2⟩:=ug tr _ hc
   obtain ⟨h3,h4⟩:=zp _ _ h1
   exact ⟨h3,by simp only[List.all_cons,h4,h2,Bool.and_self]⟩
noncomputable def Ls (l:List Nat) (ps:List Prop):List Prop:=match l with
 | []=>ps
 | [_]=>ps
 | l=>(nodup l=true)::ps
noncomputable def Bc (E:Env) (call:aB) (ops:Array Oper) (s:St) (as_:List jI) (ps:List Prop):R:=match nY E ops with
 | none=> .bad
 | some pl=>match runT E call ops pl.order 0 s as_ ps with
   | .ok tr hs s' qW nJ=> .at .normal s' qW (Ls (mG tr) (rN E ops pl.aW pl.an hs tr nJ))
   | .bad=> .bad
theorem yC {ops:Array Oper} {s:St} {as_:List jI} {ps:List Prop} {e:gR} {s':St} {qW:List jI} {nJ:List Prop} (hr:Bc E call ops s as_ ps= .at e s' qW nJ) (hp:iN nJ):iN ps∧re E call ops s= .ok e s':=by
 unfold Bc at hr
 split at hr
 · cases hr
 rename_i pl Ie
 split at hr
 · rename_i tr hs s1 pL nD h1
   cases hr
   have hn:iN (rN E ops pl.aW pl.an hs tr nD)∧nodup (mG tr)=true:=by
    unfold Ls at hp
    split at hp
    · rename_i hm;exact ⟨hp,by rw[hm];rfl⟩
    · rename_i hm;exact ⟨hp,by rw[hm];rfl⟩
    · exact ⟨hp.2,hp.1⟩
   obtain ⟨h2,h3⟩:=ug _ _ hn.1
   obtain ⟨h4,h5⟩:=vY _ _ _ _ _ _ _ _ _ _ h1 h2
   refine ⟨h4,?_⟩
   unfold re
   simp only[Ie,h5]
   have:mH E ops pl tr hs=true:=by
    unfold mH
    rw[hn.2,Bool.true_and]
    exact h3
   rw[if_pos this]
 · cases hr
noncomputable def run (E:Env) (call:aB):Nat→Code→St→List jI→List Prop→R
 | 0,_,_,_,_=> .bad
 | n+1,c,s,as_,ps=>match c with
   | .skip=> .at .normal s as_ ps
   | .ret=> .at .ret s as_ ps
   | .exit i=> .at (.exit i) s as_ ps
   | .seq a b=>match run E call n a s as_ ps with
     | .at .normal s1 pL nD=>run E call n b s1 pL nD
     | r=>r
   | .cond x a b=>match as_ with
     | .b v::as_=>match cx E s.ts x with
       | some (.bool u)=>bif v then run E call n a s as_ ((u=true)::ps) else run E call n b s as_ ((u=false)::ps)
       | _=> .bad
     | .l e s'::as_=> .at e s' as_ (Ev E call (.cond x a b) s e s'::ps)
     | _=> .bad
   | .block id b=>match run E call n b s as_ ps with
     | .at (.exit j) s1 pL nD=>bif Nat.beq j id then .at .normal s1 pL nD else .at (.exit j) s1 pL nD
     | r=>r
   | .loop b=>match as_ with
     | .l e s'::as_=> .at e s' as_ (Ev E call (.loop b) s e s'::ps)
     | _=> .bad
   | .rangeFunc f nJ a b=>match as_ with
     | .l e s'::as_=> .at e s' as_ (Ev E call (.rangeFunc f nJ a b) s e s'::ps)
     | _=> .bad
   | .region i ops draw=>match as_ with
     | .l e s'::as_=> .at e s' as_ (Ev E call (.region i ops draw) s e s'::ps)
     | as_=>bif draw then Bc E call ops s as_ ps else lS E call ops ops.toList s as_ ps
   | .scope b=>run E call n b s as_ ps
   | .label _=> .at .normal s as_ ps
   | _=> .bad
theorem zq:∀(n:Nat) (c:Code) (s:St) (as_:List jI) (ps:List Prop) (e:gR) (s':St) (qW:List jI) (nJ:List Prop),run E call n c s as_ ps= .at e s' qW nJ→iN nJ→iN ps∧Ev E call c s e s'
 | 0,c,s,as_,ps,e,s',qW,nJ,hr,hp=>by cases hr
 | n+1,c,s,as_,ps,e,s',qW,nJ,hr,hp=>by
   have ih:=zq n
   unfold run at hr
   split at hr
   · cases hr;exact ⟨hp,.of fun _=>rfl⟩
   · cases hr;exact ⟨hp,.of fun _=>rfl⟩
   · cases hr;exact ⟨hp,.of fun _=>rfl⟩
   · split at hr
     · rename_i s1 pL nD h1
       obtain ⟨h2,h3⟩:=ih _ _ _ _ _ _ _ _ hr hp
       obtain ⟨h4,h5⟩:=ih _ _ _ _ _ _ _ _ h1 h2
       exact ⟨h4,h5.seq h3⟩
     · rename_i cH
       obtain ⟨h4,h5⟩:=ih _ _ _ _ _ _ _ _ hr hp
       refine ⟨h4,h5.seq' fun he=>?_⟩
       subst he;exact cH _ _ _ hr
   · split at hr
     · rename_i v pL
       split at hr
       · rename_i u hu
         cases v with
         | true=>
           obtain ⟨⟨h1,h2⟩,n0,h3⟩:=ih _ _ _ _ _ _ _ _ hr hp
           refine ⟨h2,n0+1,fun n hn=>?_⟩
           obtain ⟨k,rfl⟩:∃k,n=k+1:=⟨n - 1,by omega⟩
           rw[Lk,hu,h1,FN];exact h3 k (by omega)
         | false=>
           obtain ⟨⟨h1,h2⟩,n0,h3⟩:=ih _ _ _ _ _ _ _ _ hr hp
           refine ⟨h2,n0+1,fun n hn=>?_⟩
           obtain ⟨k,rfl⟩:∃k,n=k+1:=⟨n - 1,by omega⟩
           rw[Lk,hu,h1,Dm];exact h3 k (by omega)
       · cases hr
     · cases hr;exact ⟨hp.2,hp.1⟩
     · cases hr
   · split at hr
     · rename_i id b _ j s1 pL nD h1
       cases hj:Nat.beq j id with
       | true=>
         rw[hj] at hr
         cases hr
         obtain ⟨h2,n0,h3⟩:=ih _ _ _ _ _ _ _ _ h1 hp
         refine ⟨h2,n0+1,fun n hn=>?_⟩
         obtain ⟨k,rfl⟩:∃k,n=k+1:=⟨n - 1,by omega⟩
         rw[A8,h3 k (by omega),ue,if_pos (Nat.eq_of_beq_eq_true hj)]
       | false=>
         rw[hj] at hr
         cases hr
         obtain ⟨h2,n0,h3⟩:=ih _ _ _ _ _ _ _ _ h1 hp
         refine ⟨h2,n0+1,fun n hn=>?_⟩
         obtain ⟨k,rfl⟩:∃k,n=k+1:=⟨n - 1,by omega⟩
         rw[A8,h3 k (by omega),ue,if_neg (Nat.ne_of_beq_eq_false hj)]
     · rename_i id b _ cH
       obtain ⟨h2,n0,h3⟩:=ih _ _ _ _ _ _ _ _ hr hp
       refine ⟨h2,n0+1,fun n hn=>?_⟩
       obtain ⟨k,rfl⟩:∃k,n=k+1:=⟨n - 1,by omega⟩
       rw[A8,h3 k (by omega)]
       cases e with
       | exit j=>exact absurd hr (cH _ _ _ _)
       | _=>rfl
   · split at hr
     · cases hr;exact ⟨hp.2,hp.1⟩
     · cases hr
   · split at hr
     · cases hr;exact ⟨hp.2,hp.1⟩
     · cases hr
   · rename_i i ops draw
     split at hr
     · cases hr;exact ⟨hp.2,hp.1⟩
     cases draw with
     | true=>
       simp only[cond_true] at hr
       obtain ⟨h1,h2⟩:=yC hr hp
       exact ⟨h1,.of fun n=>by rw[PD];exact h2⟩
     | false=>
       simp only[cond_false] at hr
       obtain ⟨h1,h2⟩:=rM _ _ _ _ _ _ _ _ hr hp
       exact ⟨h1,.of fun n=>by rw[Lm];exact h2⟩
   · obtain ⟨h1,n0,h2⟩:=ih _ _ _ _ _ _ _ _ hr hp
     exact ⟨h1,n0+1,fun n hn=>by
      obtain ⟨k,rfl⟩:∃k,n=k+1:=⟨n - 1,by omega⟩
      show exec E call k _ s=_
      exact h2 k (by omega)⟩
   · cases hr;exact ⟨hp,.of fun _=>rfl⟩
   · cases hr
theorem v7 {n:Nat} {c:Code} {s:St} {al:List jI} {e:gR} {s':St} {ps:List Prop} (hr:run E call n c s al []= .at e s' [] ps) (hp:iN ps):Ev E call c s e s':=(zq _ _ _ _ _ _ _ _ _ hr hp).2
theorem mq {tmpl:(Nat→AV)→List AV} {c:Code} {s:St} {e:gR} {h:ag} {ds:List kb} {rc:RC} {L:List AV} (ev:Ev E call c s e ⟨L,h,ds,rc⟩) (hl:L=tmpl fun k=>L.getD k AV.undef):∃y,Ev E call c s e ⟨tmpl y,h,ds,rc⟩:=by
 refine ⟨fun k=>L.getD k AV.undef,?_⟩
 rw[←hl];exact ev
theorem IQ {tmpl:(Nat→AV)→List AV} {b:Code} {s s':St} {h:ag} {ds:List kb} {rc:RC} {L:List AV} {e:gR} (ev:Ev E call b s .normal ⟨L,h,ds,rc⟩) (hl:L=tmpl fun k=>L.getD k AV.undef) (ih:Ev E call (.loop b) ⟨tmpl fun k=>L.getD k AV.undef,h,ds,rc⟩ e s'):Ev E call (.loop b) s e s':=by
 rw[←hl] at ih
 exact ev.loop ih
theorem PW {f:FuncId} {fn:Func} {c:Code} (hf:E.P.funcs[f]? =some fn) (hb:fn.body=some c) {args:List AV} {h h':ag} {ts:List AV} {x:gR} (hx:x= .normal∨x= .ret)
 (e:Ev E call c ⟨args++List.replicate (fn.ntmps - args.length) AV.undef,h,[],.no⟩ x ⟨ts,h',[],.no⟩) {vs:List AV} (hr:ic E h' ts fn.results.toList=some vs):∃n0,∀n,n0≤n→uc E call n f args h= .ret (eG vs) h':=by
 obtain ⟨n0,e⟩:=e
 exact ⟨n0,fun n hn=>IL hf hb hx (e n hn) hr⟩
def qD (E:Env) (call:aB) (f:FuncId) (args:List AV) (h:ag) (v:AV) (h':ag):Prop:=∃n0,∀n,n0≤n→uc E call n f args h= .ret v h'
theorem aE {f:FuncId} {fn:Func} {c:Code} {args ts0 ts:List AV} {h h':ag} {x:gR} {v:AV} (hf:E.P.funcs[f]? =some fn) (hb:fn.body=some c) (ht:args++List.replicate (fn.ntmps - args.length) AV.undef=ts0) (hx:x= .normal∨x= .ret)
 (e:Ev E call c ⟨ts0,h,[],.no⟩ x ⟨ts,h',[],.no⟩) (hr:(ic E h' ts fn.results.toList).map eG=some v):qD E call f args h v h':=by
 subst ht
 cases hv:ic E h' ts fn.results.toList with
 | none=>rw[hv] at hr;cases hr
 | some vs=>
   rw[hv] at hr
   obtain rfl:eG vs=v:=Option.some.inj hr
   exact PW hf hb hx e hv
end Go.Ab
end
section
namespace Go.Ab
variable {E:Env}
theorem qE {t:TypeId} {c d:Bool} {k:IntKind} {a b z:Int} (h:k.wrap (a+b)=z):aN E .add t c d (some (.int k a)) (some (.int k b))=some (.int k z):=by rw[PF,h]
theorem v8 {t:TypeId} {c d:Bool} {k:IntKind} {a b z:Int} (h:k.wrap (a - b)=z):aN E .sub t c d (some (.int k a)) (some (.int k b))=some (.int k z):=by rw[PG,h]
theorem v_ {t:TypeId} {c d:Bool} {k:IntKind} {a b z:Int} (h:k.wrap (a*b)=z):aN E .mul t c d (some (.int k a)) (some (.int k b))=some (.int k z):=by rw[PH,h]
theorem wa {t:TypeId} {c d:Bool} {k:IntKind} {a b z:Int} (hb:b≠0) (h:k.wrap (a.tdiv b)=z):aN E .quo t c d (some (.int k a)) (some (.int k b))=some (.int k z):=by rw[PQ _ _ _ _ _ _ hb,h]
theorem wb {t:TypeId} {c d:Bool} {k:IntKind} {a b z:Int} (hb:b≠0) (h:a.tmod b=z):aN E .rem t c d (some (.int k a)) (some (.int k b))=some (.int k z):=by simp [aN,gH,bW,hb,h]
theorem qF (k:IntKind) (n:Int):AV.scalar (.int k n)=true:=rfl
theorem m3 (b:Bool):AV.scalar (.bool b)=true:=rfl
theorem qG (b:List UInt8):AV.scalar (.str b)=true:=rfl
theorem qH (i o:Nat):AV.scalar (.ptr i o)=true:=rfl
theorem kC (i o n c:Nat) (b:Bool):AV.scalar (.slice i o n c b)=true:=rfl
theorem wc:AV.scalar .aj=true:=rfl
theorem we:AV.scalar .cI=true:=rfl
theorem wg:AV.scalar .cn=true:=rfl
theorem wh:AV.scalar .nilFunc=true:=rfl
theorem wi:AV.scalar .nilIface=true:=rfl
theorem qI (i:Nat):AV.scalar (.map i)=true:=rfl
theorem Lt {h:ag} {t:TypeId} {i o:Nat} {cs:List AV} {e:TypeId} {ro:Bool} {v:AV} (hg:h.get i=some (.cells cs e ro)) (hv:fG E t cs o=some v):bH E h t (.ptr i o)=some v:=by
 simp only[bH,hg,hv]
theorem jZ {h h':ag} {o:aw} (n:h.new o=some h'):h'.get h.nx=some o:=(ag.iu n).2.2.1
theorem m4 {h h':ag} {o:aw} (n:h.new o=some h'):h'.nx=h.nx+1:=(ag.iu n).2.1
theorem js {h h':ag} {o x:aw} {i:Nat} (y:Tidy h) (n:h.new o=some h') (g:h.get i=some x):h'.get i=some x:=by
 have:=y i x g
 rw[(ag.iu n).2.2.2 i (by omega)];exact g
theorem pM {h h':ag} {o:aw} (y:Tidy h) (n:h.new o=some h'):Has h h':=fun _ _ g=>js y n g
theorem gr {h h':ag} {o:aw} (y:Tidy h) (n:h.new o=some h'):Tidy h':=fun i x g=>by
 obtain ⟨_,h2,h3,h4⟩:=ag.iu n
 by_cases hx:i=h.nx
 · omega
 · rw[h4 i hx] at g;have:=y i x g;omega
theorem oE {h:ag} (o:aw):∃h',h.new o=some h':=⟨_,ag.Ac _ _⟩
theorem Du {h:ag} {t e:TypeId} {i o n:Nat} {cs:List AV} {v:AV} (g:h.get i=some (.cells cs e false)) (hs:bh E t=some n) (hv:v.cells.length=n) (ho:o+n≤cs.length) (hk:v.cells.all AV.scalar=true):∃h',a_ E h t (.ptr i o) v=some h':=by
 refine ⟨h.put i (some (.cells (setFrom cs o v.cells) e false)),?_⟩
 simp only[a_,g,hs]
 rw[if_pos ⟨hv,ho,hk⟩]
theorem rO {h h':ag} {t e:TypeId} {i o:Nat} {cs:List AV} {v:AV} (s:a_ E h t (.ptr i o) v=some h') (g:h.get i=some (.cells cs e false)):h'=h.put i (some (.cells (setFrom cs o v.cells) e false)):=by
 simp only[a_,g] at s
 split at s
 · rename_i h1 _
   cases h1
   split at s
   · exact (Option.some.inj s).symm
   · cases s
 · cases s
theorem zr {h h':ag} {t e:TypeId} {i o:Nat} {cs:List AV} {v:AV} (y:Tidy h) (s:a_ E h t (.ptr i o) v=some h') (g:h.get i=some (.cells cs e false)):h'.get i=some (.cells (setFrom cs o v.cells) e false):=by
 rw[rO s g]
 have:=y i _ g
 exact ag.bu _
theorem wj {h h':ag} {t e:TypeId} {i j o:Nat} {cs:List AV} {v:AV} {x:aw} (y:Tidy h) (s:a_ E h t (.ptr i o) v=some h') (g:h.get i=some (.cells cs e false)) (hj:j≠i) (gx:h.get j=some x):h'.get j=some x:=by
 rw[rO s g]
 have:=y i _ g
 rw[ag.aI (Ne.symm hj)];exact gx
theorem wk {h h':ag} {t e:TypeId} {i o:Nat} {cs:List AV} {v:AV} (s:a_ E h t (.ptr i o) v=some h') (g:h.get i=some (.cells cs e false)):h'.nx=h.nx:=by
 rw[rO s g];exact ag.JV _ _ _
theorem wm {h h':ag} {t e:TypeId} {i o:Nat} {cs:List AV} {v:AV} (y:Tidy h) (s:a_ E h t (.ptr i o) v=some h') (g:h.get i=some (.cells cs e false)):Tidy h':=fun j x gj=>by
 have hi:=y i _ g
 rw[wk s g]
 by_cases hx:j=i
 · omega
 · rw[rO s g,ag.aI (Ne.symm hx)] at gj
   exact y j x gj
def jS (h h':ag) (b:Nat) (o:aw):Prop:=Tidy h'∧h'.get b=some o∧∀i x,i≠b→h.get i=some x→h'.get i=some x
theorem jS.has {h0 h h':ag} {b:Nat} {o:aw} (c:jS h h' b o) (a:Has h0 h) (y:Tidy h0) (hb:h0.nx≤b):Has h0 h':=fun i x g=>by
 have:=y i x g
 exact c.2.2 i x (by omega) (a i x g)
theorem PX {h h':ag} {src dst e:TypeId} {s:List UInt8} {v:AV} (h1:E.P.underlying src=some .string) (h2:E.P.underlying dst=some (.slice e)) (h3:E.P.underlying e=some (.int .u8)) (h4:bh E e=some 1)
 (n:h.new (.cells (s.map fun b=> .int .u8 b.toNat) e false)=some h') (hv:v= .slice h.nx 0 s.length s.length true):ra E h src dst (some (.str s))=some (v,h'):=by
 simp only[ra,h1,h2,h3,n,h4,if_true,hv]
end Go.Ab
end
section
namespace Go.Ab
variable {E:Env}
theorem dT {p:Prop} [Decidable p] (h:p):decide p=true:=decide_eq_true h
theorem dF {p:Prop} [Decidable p] (h:¬p):decide p=false:=decide_eq_false h
theorem nT {p:Prop} [Decidable p] (h:¬p):(!decide p)=true:=by rw[decide_eq_false h];rfl
theorem nF {p:Prop} [Decidable p] (h:p):(!decide p)=false:=by rw[decide_eq_true h];rfl
theorem PY {l:List Nat} {k:Nat} (h:k<l.length):l[k]? =some (l.getD k 0):=by simp [List.getD_eq_getElem?_getD,List.getElem?_eq_getElem h]
def bY:Code→List Code
 | .seq a b=>bY a++bY b
 | .cond _ a b=>bY a++bY b
 | .block _ b=>bY b
 | .loop b=>b::bY b
 | .scope b=>bY b
 | .rangeFunc _ _ _ b=>b::bY b
 | _=> []
structure ji (E:Env) (h:ag) (e:TypeId) (n:Nat) (av:AV) (len:Nat) (cs:List AV):Prop where
 size:bh E e=some n
 cells:cs.length=len*n
 small:len<2^60
 lens:cV (some (.slice e)) (some av)=some (.int .i64 (len:Nat))
 block:len=0∨∃p o m c b C f ro,av= .slice p o m c b∧m≤c∧h.get p=some (.cells C f ro)∧(∀j,j<cs.length→C[o+j]? =cs[j]?)
theorem ji.has {h h':ag} {e:TypeId} {n:Nat} {av:AV} {len:Nat} {cs:List AV} (x:ji E h e n av len cs) (hh:Has h h'):ji E h' e n av len cs:=
 ⟨x.size,x.cells,x.small,x.lens,x.block.imp id fun ⟨p,o,m,c,b,C,f,ro,h1,h0,h2,h3⟩=>⟨p,o,m,c,b,C,f,ro,h1,h0,hh _ _ h2,h3⟩⟩
theorem ji.elem {h:ag} {e:TypeId} {av:AV} {len:Nat} {cs:List AV} (x:ji E h e 1 av len cs) (ha:dk E e=some false) {i:Nat} {v:AV} (hv:cs[i]? =some v):
 ∃p q,bP E (some (.slice e)) (some av) (some (.int .i64 (i:Nat)))=some (.ptr p q)∧bH E h e (.ptr p q)=some v:=by
 have hi:=(List.getElem?_eq_some_iff.1 hv).1
 have hl:cs.length=len:=by rw[x.cells,Nat.mul_one]
 rcases x.block with h0 | ⟨p,o,m,c,b,C,f,ro,h1,_,h2,h3⟩
 · omega
 · subst h1
   have hm:m=len:=by
    have:=x.lens
    rw[fm] at this
    simp only[Option.some.injEq,AV.int.injEq,true_and] at this
    omega
   refine ⟨p,o+i*1,iZ x.size (by omega),?_⟩
   simp only[bH,h2,fG,ha,Nat.mul_one]
   rw[h3 i hi,hv]
def aJ (k:IntKind) (l:List Nat):List AV:=l.map fun (n:Nat)=> .int k (n:Int)
structure cY (E:Env) (h:ag) (k:IntKind) (e:TypeId) (av:AV) (l:List Nat):Prop where
 at_:ji E h e 1 av l.length (aJ k l)
 agg:dk E e=some false
 known:av= .aj∨∃p o n c b,av= .slice p o n c b∧(b=true→0<c)
theorem jt {k:IntKind} {l:List Nat} {i:Nat} {z:Nat} (h:l[i]? =some z):(aJ k l)[i]? =some (.int k (z:Int)):=by simp [aJ,h]
theorem cY.elem {h:ag} {k:IntKind} {e:TypeId} {av:AV} {l:List Nat} (x:cY E h k e av l) {i:Nat} {z:Nat} (hz:l[i]? =some z):
 ∃p q,bP E (some (.slice e)) (some av) (some (.int .i64 (i:Nat)))=some (.ptr p q)∧bH E h e (.ptr p q)=some (.int k (z:Int)):=x.at_.elem x.agg (jt hz)
theorem cY.len {h:ag} {k:IntKind} {e:TypeId} {av:AV} {l:List Nat} (x:cY E h k e av l):cV (some (.slice e)) (some av)=some (.int .i64 (l.length:Nat)):=x.at_.lens
theorem dq (k:IntKind) (l:List Nat):(aJ k l).length=l.length:=by simp [aJ]
theorem cY.small {h:ag} {k:IntKind} {e:TypeId} {av:AV} {l:List Nat} (x:cY E h k e av l):l.length<2^60:=x.at_.small
def Off (p:Nat) (av:AV):Prop:=∀o n c b,av≠ .slice p o n c b
theorem cY.of {h:ag} {k:IntKind} {e:TypeId} {l:List Nat} {p o c:Nat} {b:Bool} {C:List AV} {f:TypeId} {ro:Bool} (hs:bh E e=some 1) (ha:dk E e=some false) (hl:l.length<2^60) (hc:l.length≤c) (hb:b=true→0<c) (hg:h.get p=some (.cells C f ro))
 (hv:∀(i:Nat) z,l[i]? =some z→C[o+i]? =some (.int k (z:Int))):cY E h k e (.slice p o l.length c b) l:=
 ⟨⟨hs,by rw[dq];omega,hl,rfl,.inr ⟨p,o,_,c,b,C,f,ro,rfl,hc,hg,fun j hj=>by
   rw[dq] at hj
   rw[hv j l[j] (List.getElem?_eq_getElem hj),jt (List.getElem?_eq_getElem hj)]⟩⟩,ha,.inr ⟨p,o,_,c,b,rfl,hb⟩⟩
theorem cY.nil {h:ag} {k:IntKind} {e:TypeId} (hs:bh E e=some 1) (ha:dk E e=some false):cY E h k e .aj []:=
 ⟨⟨hs,rfl,by decide,rfl,.inl rfl⟩,ha,.inl rfl⟩
theorem cY.inv {h:ag} {k:IntKind} {e:TypeId} {l:List Nat} {p o n c:Nat} {b:Bool} (x:cY E h k e (.slice p o n c b) l):n=l.length∧(l≠ []→l.length≤c∧∃C f ro,h.get p=some (.cells C f ro)∧∀(i:Nat) z,l[i]? =some z→C[o+i]? =some (.int k (z:Int))):=by
 have hn:n=l.length:=by
  have:=x.len
  rw[fm] at this
  simp only[Option.some.injEq,AV.int.injEq,true_and] at this
  omega
 refine ⟨hn,fun cH=>?_⟩
 rcases x.at_.block with h0 | ⟨p',o',m,c',b',C,f,ro,h1,h0,h2,h3⟩
 · exact absurd (List.length_eq_zero_iff.1 h0) cH
 · cases h1
   refine ⟨by omega,C,f,ro,h2,fun i z hz=>?_⟩
   rw[h3 i (by rw[dq];exact (List.getElem?_eq_some_iff.1 hz).1),jt hz]
theorem j8 {len cap lo hi:Nat} (low high:Option AV) (hl:low=some (.int .i64 (lo:Nat))∨(low=none∧lo=0)) (hh:high=some (.int .i64 (hi:Nat))∨(high=none∧hi=len)) (h1:lo≤hi) (h2:hi≤cap):hZ len cap low high none=some (lo,hi,cap):=by
 have b:∀(x y:Nat),x≤y→ka (.int .i64 (x:Nat)) y=some x:=fun x y h=>by
  simp only[ka]
  rw[if_pos ⟨by omega,by omega⟩,Int.toNat_natCast]
 unfold hZ
 rcases hh with rfl | ⟨rfl,rfl⟩<;>rcases hl with rfl | ⟨rfl,rfl⟩<;>simp [b,h1,h2]
theorem cY.slice {h:ag} {k:IntKind} {e t:TypeId} {av:AV} {l:List Nat} (x:cY E h k e av l) (ht:E.P.underlying t=some (.slice e)) {lo hi:Nat} (low high:Option AV) (hl:low=some (.int .i64 (lo:Nat))∨(low=none∧lo=0)) (hh:high=some (.int .i64 (hi:Nat))∨(high=none∧hi=l.length)) (h1:lo≤hi) (h2:hi≤l.length) (h3:l.length=0∨lo<l.length):
 ∃r,cK E t av low high none=some r∧cY E h k e r ((l.take hi).drop lo)∧∀p,Off p av→Off p r:=by
 rcases x.known with rfl | ⟨p,o,n,c,b,rfl,hb⟩
 · have N5:l.length=0:=by
    have:=x.len
    rw[oC] at this
    simp only[Option.some.injEq,AV.int.injEq,true_and] at this
    omega
   obtain rfl:=List.length_eq_zero_iff.1 N5
   simp only[List.length_nil] at *
   have N4:hi=0:=by omega
   subst N4
   have N3:lo=0:=by omega
   subst N3
   refine ⟨.aj,?_,by simpa using x,fun p hp=>hp⟩
   simp only[cK,ht,x.at_.size,j8 (len:=0) (cap:=0) low high hl hh (Nat.le_refl 0) (Nat.le_refl 0)]
 · obtain ⟨rfl,hx⟩:=x.inv
   have Sl:l.length≤c:=by
    by_cases cH:l=[]
    · subst cH;exact Nat.zero_le _
    · exact (hx cH).1
   have hr:∃o' c',cK E t (.slice p o l.length c b) low high none=some (.slice p o' (hi - lo) c' b)∧(b=true→0<c')∧hi - lo≤c'∧(hi - lo≠0→o'=o+lo):=by
    simp only[cK,ht,x.at_.size,Sl,if_true,j8 (len:=l.length) (cap:=c) low high hl hh h1 (by omega)]
    by_cases hm:c=lo
    · have Sq:b=false:=by
       cases b with
       | false=>rfl
       | true=>have:=hb rfl;omega
      subst Sq
      rw[if_pos hm]
      exact ⟨o,c - lo,rfl,by simp,by omega,fun h=>by omega⟩
    · rw[if_neg hm]
      refine ⟨o+lo*1,c - lo,by simp,fun h=>by omega,by omega,fun h=>by omega⟩
   obtain ⟨o',c',e1,e2,e3,e4⟩:=hr
   refine ⟨_,e1,?_,fun q hq o' n' c' b' he=>by cases he;exact hq _ _ _ _ rfl⟩
   have hlen:((l.take hi).drop lo).length=hi - lo:=by simp;omega
   rw[←hlen]
   by_cases h0:hi - lo=0
   · have:(l.take hi).drop lo=[]:=List.length_eq_zero_iff.1 (by omega)
     rw[this]
     exact ⟨⟨x.at_.size,rfl,by decide,rfl,.inl rfl⟩,x.agg,.inr ⟨_,_,_,_,_,rfl,e2⟩⟩
   · have cH:l≠ []:=fun e=>by subst e;simp at h2;omega
     obtain ⟨_,C,f,ro,g1,g2⟩:=hx cH
     refine cY.of x.at_.size x.agg (by have:=x.small;omega) (by omega) e2 g1 fun i z hz=>?_
     have Ah:i<hi - lo:=by rw[←hlen];exact (List.getElem?_eq_some_iff.1 hz).1
     rw[e4 h0,Nat.add_assoc]
     apply g2
     rw[List.getElem?_drop,List.getElem?_take_of_lt (by omega)] at hz
     exact hz
structure Oa (h:ag) (av:AV) (p o n:Nat) (C:List AV) (f:TypeId):Prop where
 is:∃c b,av= .slice p o n c b∧n≤c
 get:h.get p=some (.cells C f false)
 fits:o+n≤C.length
theorem Oa.len {h:ag} {av:AV} {p o n:Nat} {C:List AV} {f e:TypeId} (w:Oa h av p o n C f):cV (some (.slice e)) (some av)=some (.int .i64 (n:Nat)):=by
 obtain ⟨c,b,rfl,_⟩:=w.is
 rfl
theorem Oa.slice {h:ag} {av:AV} {p o n:Nat} {C:List AV} {f e t:TypeId} (w:Oa h av p o n C f) (hs:bh E e=some 1) (ht:E.P.underlying t=some (.slice e)) {lo hi:Nat} (low high:Option AV) (hl:low=some (.int .i64 (lo:Nat))∨(low=none∧lo=0)) (hh:high=some (.int .i64 (hi:Nat))∨(high=none∧hi=n)) (h1:lo≤hi) (h2:hi≤n) (h3:lo<n):
 ∃r,cK E t av low high none=some r∧Oa h r p (o+lo) (hi - lo) C f:=by
 obtain ⟨c,b,rfl,hc⟩:=w.is
 have:=w.fits
 refine ⟨.slice p (o+lo) (hi - lo) (c - lo) b,?_,⟨⟨_,_,rfl,by omega⟩,w.get,by omega⟩⟩
 simp only[cK,ht,hs,hc,if_true,j8 (len:=n) (cap:=c) low high hl hh h1 (by omega)]
 rw[if_neg (by omega)]
 simp
def Holds (k:IntKind) (C:List AV) (o:Nat) (l:List Nat):Prop:=∀(i z:Nat),l[i]? =some z→C[o+i]? =some (.int k (z:Int))
theorem Holds.behind {k:IntKind} {C:List AV} {o:Nat} {l ws:List Nat} (x:Holds k C o l) {i z:Nat} (hi:ws.length≤i) (hz:l[i]? =some z):(setFrom C o (aJ k ws))[o+i]? =some (.int k (z:Int)):=by
 rw[dm,if_neg (by rw[dq];omega)]
 exact x i z hz
theorem Oa.load {h:ag} {av:AV} {p o n:Nat} {C:List AV} {f e:TypeId} {i:Nat} {v:AV} (w:Oa h av p o n C f) (ha:dk E e=some false) (hv:C[o+i]? =some v):bH E h e (.ptr p (o+i))=some v:=by
 simp only[bH,w.get,fG,ha,hv]
theorem Oa.aJ {h:ag} {av:AV} {p o n:Nat} {C:List AV} {f e:TypeId} {k:IntKind} {l:List Nat} (w:Oa h av p o n C f) (hs:bh E e=some 1) (ha:dk E e=some false) (hn:l.length=n) (yg:n<2^60) (x:Holds k C o l) (hb:∀c b,av= .slice p o n c b→b=true→0<c):cY E h k e av l:=by
 obtain ⟨c,b,rfl,hc⟩:=w.is
 subst hn
 exact cY.of hs ha yg hc (hb c b rfl) w.get x
theorem Holds.of {k:IntKind} {C:List AV} {o:Nat} {l:List Nat} (hf:o+l.length≤C.length):Holds k (setFrom C o (aJ k l)) o l:=fun i z hz=>by
 have hi:=(List.getElem?_eq_some_iff.1 hz).1
 rw[dm,if_pos ⟨by omega,by rw[dq];omega,by omega⟩,Nat.add_sub_cancel_left,jt hz]
end Go.Ab
end
section
namespace Go.Ab
open Go.WideElems Go.RowKit Go.Proofs
variable {E:Env}
def pN:List AV→List Nat→Bool
 | [],[]=>true
 | .int .u64 n::l,k::r=>decide (n=(k:Int))&&pN l r
 | _,_=>false
theorem wo:∀{l:List AV} {r:List Nat},pN l r=true→l=aJ .u64 r
 | [],[],_=>rfl
 | .int .u64 n::l,k::r,h=>by
   simp only[pN,Bool.and_eq_true,decide_eq_true_eq] at h
   rw[wo h.2,h.1];rfl
theorem rP:∀r:List Nat,pN (aJ .u64 r) r=true
 | []=>rfl
 | k::r=>by
   show (decide ((k:Int)=(k:Int))&&pN (aJ .u64 r) r)=true
   rw[rP r,decide_eq_true rfl];rfl
noncomputable def zt (g t:Nat) (ns:List Nat) (h:ag):Bool:=match h.get g with
 | some (.cells cs t' true)=>decide (t'=t)&&pN cs ns
 | _=>false
theorem IS {g t:Nat} {ns:List Nat} {h:ag} (e:zt g t ns h=true):h.get g=some (.cells (aJ .u64 ns) t true):=by
 unfold zt at e
 split at e
 · rename_i cs t' hg
   simp only[Bool.and_eq_true,decide_eq_true_eq] at e
   rw[hg,e.1,wo e.2]
 · cases e
theorem Lu {g t:Nat} {ns:List Nat} {h:ag} (e:h.get g=some (.cells (aJ .u64 ns) t true)):zt g t ns h=true:=by
 unfold zt
 rw[e]
 simp only[rP,decide_true,Bool.and_self]
theorem CR.plain {φ φ':Ph} {cs:List AV} {t:TypeId} {ro:Bool} {l:Loc} {C:Array Value} {lo hi:Nat} (h:CR E φ' cs t ro l C lo hi) (hp:cs.all (AV.plain 20)=true):CR E φ cs t ro l C lo hi where
 size:=h.size
 val k x hk:=by
  obtain ⟨y,hy,hv⟩:=h.val k x hk
  exact ⟨y,hy,hv.plain 20 (List.all_eq_true.1 hp x (List.mem_of_getElem? hk))⟩
 free:=h.free
 zero:=h.zero
theorem fI.PZ {f:FuncId} {args:List AV} {h':ag} {v:AV} {L:List (Nat×aw)} (r:fI E f args (Fa.oB E.G L) v h') (ha:args.all (AV.plain 20)=true) (hv:AV.plain 20 v=true) (h:ag)
 (hL:∀g o,(g,o)∈L→g<E.G∧(∃cs t,o= .cells cs t true∧cs.all (AV.plain 20)=true)∧h.get g=some o):fI E f args h v h:=fun φ w vs ok hl=>by
 let φ0:Ph:=fun i=>if i<E.G then φ i else none
 have hle:φ0.le φ:=fun i l e=>by
  simp only[φ0] at e
  split at e
  · exact e
  · cases e
 have has:∀{i o},(Fa.oB E.G L).get i=some o→i<E.G∧(∃cs t,o= .cells cs t true∧cs.all (AV.plain 20)=true)∧h.get i=some o:=fun e=>hL _ _ (Fa.ta e)
 have ro:∀{i o},(Fa.oB E.G L).get i=some o→o.rw=true→False:=fun e hr=>by
  obtain ⟨_,⟨cs,t,rfl,_⟩,_⟩:=has e
  cases hr
 have Z8:OK E φ0 (Fa.oB E.G L) w:=by
  refine ⟨fun i l e=>?_,by rw[Fa.vS];exact Nat.le_refl _,fun g hg=>?_,fun i o l e b=>?_,fun i j o p l m e1 e2 _ _ hr=>(hr.elim (ro e1) (ro e2)).elim⟩
  · rw[Fa.vS]
    simp only[φ0] at e
    split at e
    · assumption
    · cases e
  · simp only[φ0,hg,if_true];exact ok.nK g hg
  · obtain ⟨_,⟨cs,t,rfl,hp⟩,hg⟩:=has e
    obtain ⟨C,e',lo,hi,hx,hc⟩:=ok.live i _ l hg (hle _ _ b)
    exact ⟨C,e',lo,hi,hx,hc.toCR.plain hp,hc.shape⟩
 have N5:LR φ0 args vs:=⟨hl.1,fun i x y a b=>(hl.2 i x y a b).plain 20 (List.all_eq_true.1 ha x (List.mem_of_getElem? a))⟩
 obtain ⟨h1,h2⟩:=r φ0 w vs Z8 N5
 refine ⟨h1,fun cs=>?_⟩
 obtain ⟨φ',w',v',fr,x1,x2,x3,x4⟩:=h2 cs
 have Dl:∀b,b<w.heap.size→w'.heap[b]? =w.heap[b]? :=fun b hb=>x3.n6 b hb fun i o l e hr=>(ro e hr).elim
 refine ⟨φ,w',v',fr,x1.plain 20 hv,⟨ok.sE,ok.nx,ok.nK,fun i o l a b=>?_,ok.inj⟩,⟨Ph.le_refl φ,fun _ _=>rfl,Nat.le_refl _,x3.os,x3.tape,x3.output,x3.size,fun b hb _=>Dl b hb,fun i o l a b c=> .inr ⟨i,o,l,a,b,c,rfl⟩⟩,x4⟩
 have hr:=ok.live i o l a b
 by_cases hb:l.cG<w.heap.size
 · rw[Dl _ hb];exact hr
 · rw[Array.getElem?_eq_none (by omega)] at hr
   exact hr.absurd.elim
def zu:List AV→Option (List (List UInt8))
 | []=>some []
 | .str s::l=>match zu l with
   | some r=>some (s::r)
   | none=>none
 | _=>none
theorem Dv:∀l:List (List UInt8),zu (l.map .str)=some l
 | []=>rfl
 | s::l=>by
   show (match zu (l.map .str) with | some r=>some (s::r) | none=>none)=_
   rw[Dv l]
theorem zv:∀{cs:List AV} {l:List (List UInt8)},zu cs=some l→cs=l.map .str
 | [],l,h=>by cases h;rfl
 | .str s::cs,l,h=>by
   simp only[zu] at h
   split at h
   · rename_i r hr
     cases h
     rw[zv hr];rfl
   · cases h
noncomputable def Dw (args:List AV) (h:ag):Option (AV×ag):=match args with
 | [.slice i o n c _,.str sep]=>match h.get i with
   | some (.cells cs _ _)=>if o+n≤cs.length∧n≤c∧n≤100000 then (match zu ((cs.drop o).take n) with
    | some l=>if (Lib.join l sep).length≤1000000000 then some (.str (Lib.join l sep),h) else none
    | none=>none) else none
   | _=>none
 | _=>none
def HA (P:Program) (f:FuncId):Prop:=∀(bk o c:Nat) (xs:List ByteArray) (sep:ByteArray) (w:World),(∀(j:Nat) x,xs[j]? =some x→w.cell? ⟨bk,o+j,none⟩=some (.string x))→bk<w.heap.size→xs.length≤140737488355328→xs.length≤c→
 (Lib.join (xs.map (·.data.toList)) sep.data.toList).length≤140737488355328→
 Calls P f #[.slice (some ⟨bk,o,none⟩) xs.length c,.string sep] w fun e w'=>e= .returned (.string ⟨(Lib.join (xs.map (·.data.toList)) sep.data.toList).toArray⟩)∧Below w.heap.size w w'
theorem Lv {f:FuncId} (bS:∀args w,(callFunc f args).run E.P w= .ok (.enter f args) w) (hc:HA E.P f) (args:List AV) (h:ag) (v:AV) (h':ag) (e:Dw args h=some (v,h')):fI E f args h v h':=by
 intro φ w vs ok hl
 refine ⟨bS _ _,?_⟩
 unfold Dw at e
 split at e
 · rename_i i o n c b sep
   split at e
   · rename_i cs t ro hg
     split at e
     · rename_i hb
       obtain ⟨hb1,hb2,hb3⟩:=hb
       split at e
       · rename_i l N7
         split at e
         · rename_i hlen
           simp only[Option.some.injEq,Prod.mk.injEq] at e
           obtain ⟨rfl,rfl⟩:=e
           obtain ⟨x,t2,rfl,hx,hl⟩:=hl.bQ
           obtain ⟨y,t3,rfl,hy,hl⟩:=hl.bQ
           rw[hl.dG]
           cases hx with
           | slice _ _ _ _ hφ=>
           rename_i lc
           generalize hq:AV.str sep=q at hy
           cases hy with
           | str sp=>
             injection hq with hq
             obtain ⟨C,e',lo,hi,Lw,hCR⟩:=ok.live i _ lc hg hφ
             have hs:=zv N7
             have hln:l.length=n:=by
              have:=congrArg List.length hs
              simp only[List.length_take,List.length_drop,List.length_map] at this
              omega
             have uw:lc.cG<w.heap.size:=(Array.getElem?_eq_some_iff.1 Lw).1
             have Af:(l.map fun s=>(⟨s.toArray⟩:ByteArray)).map (·.data.toList)=l:=by
              rw[List.map_map];exact List.map_id'' (fun s=>rfl) l
             have Ai:∀(j:Nat) (x:ByteArray),(l.map fun s=>(⟨s.toArray⟩:ByteArray))[j]? =some x→w.cell? ⟨lc.cG,lc.off+o+j,none⟩=some (.string x):=by
              intro j x hj
              rw[List.getElem?_map,Option.map_eq_some_iff] at hj
              obtain ⟨s,mM,rfl⟩:=hj
              have GY:j<n:=by rw[←hln];exact (List.getElem?_eq_some_iff.1 mM).1
              have h1:cs[o+j]? =some (.str s):=by
               have h2:((cs.drop o).take n)[j]? =some (.str s):=by rw[hs,List.getElem?_map,mM];rfl
               rw[List.getElem?_take_of_lt GY,List.getElem?_drop] at h2
               exact h2
              obtain ⟨z,hz,hzv⟩:=hCR.val _ _ h1
              generalize YC:AV.str s=q2 at hzv
              cases hzv with
              | str sb=>
                injection YC with YC
                have:(⟨s.toArray⟩:ByteArray)=sb:=by rw[YC]
                rw[this]
                simp only[World.cell?,Lw]
                rw[Nat.add_assoc];exact hz
              | _=>cases YC
             have AF:=hc lc.cG (lc.off+o) (dx b c lc.eI) _ sp w Ai uw (by rw[List.length_map];omega) (by rw[List.length_map];unfold dx;split<;>omega) (by rw[Af,←hq];omega)
             rw[Af,←hq,List.length_map,hln] at AF
             intro eE
             obtain ⟨en,w',fr,⟨rfl,Lx⟩,lx,qY,Ch⟩:=AF eE
             exact ⟨φ,w',_,fr,VR.str ⟨(Lib.join l sep).toArray⟩,(ok.later Lx).1,(ok.later Lx).2,lx,qY,Ch⟩
           | _=>cases hq
         · cases e
       · cases e
     · cases e
   · cases e
 · cases e
end Go.Ab
end
section
set_option linter.unusedVariables false
namespace Go.Proofs
open Go.Shelf Go.RowKit
variable {P:Program} {ρ:Ren}
set_option maxHeartbeats 2000000 in
set_option maxRecDepth 100000 in
theorem Any.qJ (L:Lays.n169 P ρ) (X:Builder.Extra P ρ) (b g cap cells:Nat) (l:List UInt8) (w:World) (c0:w.cell? ⟨b,1,none⟩=some (.slice (some ⟨g,0,none⟩) l.length cap))
 (Zh:w.shape? g=some (ρ.t 5,cells)) (h0:l≠ []) (hc:l.length≤cap) (hn:l.length≤cells) (h63:l.length≤9223372036854775807) (jR:∀j x,l[j]? =some x→w.cell? ((⟨g,0,none⟩:Addr).add j)=some (.int .u8 x.toNat)):
 Calls P (ρ.f 169) #[.pointer (some ⟨b,0,none⟩)] w fun e w'=>e= .returned (.string ⟨l.toArray⟩)∧w'=w.drew.freeze ⟨g,0,none⟩ l.length:=by
 have N5:l.length≠0:=by simpa using h0
 have c1:w.drew.cell? ⟨b,1,none⟩=some (.slice (some ⟨g,0,none⟩) l.length cap):=c0
 have hSD:(Builtin.unsafeSliceData_ #[(ρ.t 37)] (ρ.t 127) #[.slice (some ⟨g,0,none⟩) l.length cap]).run P w.drew= .ok (.pointer (some ⟨g,0,none⟩)) w.drew:=
  Lib.run_unsafeSliceData_row _ _ _ _ _ _ (by omega)
 have hUS:(Builtin.unsafeString_ #[(ρ.t 127),(ρ.t 3)] (ρ.t 9) #[.pointer (some ⟨g,0,none⟩),.int .i64 l.length]).run P w.drew= .ok (.string ⟨l.toArray⟩) (w.drew.freeze ⟨g,0,none⟩ l.length):=
  Lib.run_unsafeString_row w.drew (ρ.t 127) (ρ.t 3) (ρ.t 9) (ρ.t 5) L.t127 X.cellsByte g cells Zh l h0 hn h63 jR
 have mixed:=L.mixed
 have t72:=L.t72;have a72:=L.a72;have z72:=L.z72;have v72:=L.v72;have u72:=run_underlying L.t72
 have t70:=L.t70;have a70:=L.a70;have z70:=L.z70;have v70:=L.v70;have u70:=run_underlying L.t70
 have t37:=L.t37;have a37:=L.a37;have z37:=L.z37;have v37:=L.v37;have u37:=run_underlying L.t37
 have t127:=L.t127;have a127:=L.a127;have z127:=L.z127;have v127:=L.v127;have aab:=run_underlying L.t127
 have t3:=L.t3;have a3:=L.a3;have z3:=L.z3;have v3:=L.v3;have u3:=run_underlying L.t3
 have t9:=L.t9;have a9:=L.a9;have z9:=L.z9;have v9:=L.v9;have u9:=run_underlying L.t9
 have t5:=X.t5;have a5:=X.a5;have z5:=X.z5;have v5:=X.v5;have u5:=run_underlying X.t5
 go_enter L.f169,Body.n169_ntmps ρ
 go_wp2
 go_region_o
 all_goals (go_wp2;go_ret;exact ⟨rfl,rfl⟩)
set_option maxHeartbeats 2000000 in
set_option maxRecDepth 100000 in
theorem Any.m5 (L:Lays.n169 P ρ) (X:Builder.Extra P ρ) (b:Nat) (w:World) (c0:w.cell? ⟨b,1,none⟩=some (.slice none 0 0)):
 Calls P (ρ.f 169) #[.pointer (some ⟨b,0,none⟩)] w fun e w'=>e= .returned (.string ⟨#[]⟩)∧w'=w.drew:=by
 have hUS:=Any.unsafeString_none L X
 have c1:w.drew.cell? ⟨b,1,none⟩=some (.slice none 0 0):=c0
 have hSD:(Builtin.unsafeSliceData_ #[(ρ.t 37)] (ρ.t 127) #[.slice none 0 0]).run P w.drew= .ok (.pointer none) w.drew:=rfl
 have mixed:=L.mixed
 have t72:=L.t72;have a72:=L.a72;have z72:=L.z72;have v72:=L.v72;have u72:=run_underlying L.t72
 have t70:=L.t70;have a70:=L.a70;have z70:=L.z70;have v70:=L.v70;have u70:=run_underlying L.t70
 have t37:=L.t37;have a37:=L.a37;have z37:=L.z37;have v37:=L.v37;have u37:=run_underlying L.t37
 have t127:=L.t127;have a127:=L.a127;have z127:=L.z127;have v127:=L.v127;have aab:=run_underlying L.t127
 have t3:=L.t3;have a3:=L.a3;have z3:=L.z3;have v3:=L.v3;have u3:=run_underlying L.t3
 have t9:=L.t9;have a9:=L.a9;have z9:=L.z9;have v9:=L.v9;have u9:=run_underlying L.t9
 have t5:=X.t5;have a5:=X.a5;have z5:=X.z5;have v5:=X.v5;have u5:=run_underlying X.t5
 go_enter L.f169,Body.n169_ntmps ρ
 go_wp2
 go_region_o
 all_goals (go_wp2;go_ret;exact ⟨rfl,rfl⟩)
end Go.Proofs
namespace Go.Ab
open Go.WideElems Go.RowKit Go.Proofs
variable {E:Env}
theorem OK.aac {φ:Ph} {h:ag} {w w':World} (ok:OK E φ h w) {i:Nat} {o:aw} {l:Loc} (hg:h.get i=some o) (ym:o.rw=true) (hl:φ i=some l)
 (kg:∀c,c≠l.cG→w'.heap[c]? =w.heap[c]?) (dp:w'.heap.size=w.heap.size) (Sj:w'.os=w.os) (va:w'.tape=w.tape) (lp:w'.output=w.output):
 OK E φ (h.put i none) w'∧Fr φ h w φ (h.put i none) w':=by
 have dw:∀j p,(h.put i none).get j=some p→h.get j=some p∧j≠i:=fun j p hj=>by
  by_cases e:i=j
  · subst e;rw[ag.bu] at hj;simp at hj
  · rw[ag.aI e] at hj;exact ⟨hj,Ne.symm e⟩
 refine ⟨⟨ok.sE,ok.nx,ok.nK,fun j p m hj hm=>?_,fun j k p q m n hj hk=>ok.inj j k p q m n (dw j p hj).1 (dw k q hk).1⟩,
  ⟨Ph.le_refl φ,fun _ _=>rfl,Nat.le_refl _,Sj,va,lp,Nat.le_of_eq dp.symm,fun b _ hn=>kg b (fun e=>hn i o l hg ym hl e.symm),fun j p m hj hr hm=> .inr ⟨j,p,m,(dw j p hj).1,hr,hm,rfl⟩⟩⟩
 obtain ⟨j6,cH⟩:=dw j p hj
 rw[kg _ (fun e=>cH (ok.inj j i p o m l j6 hg hm hl (.inr ym) e))]
 exact ok.live j p m j6 hm
noncomputable def qK (bt:TypeId) (args:List AV) (h:ag):Option (AV×ag):=match args with
 | [.ptr i 0]=>match h.get i with
   | some (.cells [a,z] t false)=>if t=bt then (match a with
    | .cI=>some (.tuple [],h.put i (some (.cells [.ptr i 0,z] t false)))
    | .ptr j 0=>if j=i then some (.tuple [],h) else none
    | _=>none) else none
   | _=>none
 | _=>none
structure Dx (P:Program) (f:FuncId) (bt:TypeId):Prop where
 fresh:∀(b:Nat) (w:World),w.cell? ⟨b,0,none⟩=some (.pointer none)→w.shape? b=some (bt,2)→w.frozen? ⟨b,0,none⟩=false→Calls P f #[.pointer (some ⟨b,0,none⟩)] w fun e w'=>e= .returned (.tuple #[])∧w'=w.setCell ⟨b,0,none⟩ (.pointer (some ⟨b,0,none⟩))
 used:∀(b:Nat) (w:World),w.cell? ⟨b,0,none⟩=some (.pointer (some ⟨b,0,none⟩))→Calls P f #[.pointer (some ⟨b,0,none⟩)] w fun e w'=>e= .returned (.tuple #[])∧w'=w
theorem IT {f:FuncId} {bt:TypeId} {fs:Array Field} (hbt:E.P.underlying bt=some (.struct fs)) (aad:E.Yc=some bt) (bS:∀args w,(callFunc f args).run E.P w= .ok (.enter f args) w) (hc:Dx E.P f bt) (args:List AV) (h:ag) (v:AV) (h':ag) (e:qK bt args h=some (v,h')):fI E f args h v h':=by
 intro φ w vs ok hl
 refine ⟨bS _ _,?_⟩
 have hb:dj E bt=none:=by simp [dj,aad]
 unfold qK at e
 split at e
 · rename_i i
   split at e
   · rename_i a z t hg
     split at e
     · rename_i ht
       subst ht
       obtain ⟨x,t2,rfl,hx,hl⟩:=hl.bQ
       rw[hl.dG]
       cases hx with
       | @ptr _ l _ hφ=>
       obtain ⟨C,e',lo,hi,Lw,hC⟩:=ok.live i _ l hg hφ
       obtain ⟨rfl,vy,yf⟩:=hC.shape rfl
       have yf:=yf fs hbt hb
       obtain ⟨y0,UR,hv0⟩:=hC.val 0 a rfl
       have jR:w.cell? ⟨l.cG,0,none⟩=some y0:=by
        simp only[World.cell?,Lw];rw[vy] at UR;exact UR
       rw[vy]
       split at e
       ·
        obtain ⟨rfl,rfl⟩:=Prod.mk.inj (Option.some.inj e)
        cases hv0 with
        | cI=>
        have hfz:w.frozen? ⟨l.cG,0,none⟩=false:=by
         rw[frozen_of_heap Lw]
         have:=hC.free rfl 0 (by omega) (by simp;omega)
         simp only[Bool.and_eq_false_iff,decide_eq_false_iff_not]
         omega
        have AF:=hc.fresh l.cG w jR (by simp only[World.shape?,Lw];rw[yf];rfl) hfz
        intro eE
        obtain ⟨en,w',fr,⟨rfl,rfl⟩,lx,qY,Ch⟩:=AF eE
        obtain ⟨w2,eZ,iV,jW⟩:=px ok hg hφ (vs:=[.ptr i 0]) (lq:=[.pointer (some ⟨l.cG,l.off+0,none⟩)]) (LR.cons (VR.ptr 0 hφ) (LR.nil φ)) 0 (by simp) rfl
        have dZ:=lO (P:=E.P) Lw 0 [.pointer (some ⟨l.cG,0,none⟩)] (by rw[yf];simp) (fun k h1 h2=>hC.free rfl k (by omega) (by simp at h2 ⊢;omega)) (by intro v hv;simp at hv;subst hv;rfl)
        rw[vy] at eZ
        rw[Nat.add_zero] at eZ
        rw[dZ] at eZ
        obtain rfl:w.setCells l.cG 0 [.pointer (some ⟨l.cG,0,none⟩)]=w2:=by
         injection eZ
        exact ⟨φ,_,_,fr,VR.tuple' (LR.nil φ),iV,jW,lx,qY,Ch⟩
       · rename_i j
         split at e
         · rename_i Q1
           subst Q1
           obtain ⟨rfl,rfl⟩:=Prod.mk.inj (Option.some.inj e)
           cases hv0 with
           | @ptr _ l' _ hφ'=>
           rw[hφ] at hφ'
           obtain rfl:=Option.some.inj hφ'
           rw[vy] at jR
           have AF:=hc.used l.cG w jR
           intro eE
           obtain ⟨en,w',fr,⟨rfl,rfl⟩,lx,qY,Ch⟩:=AF eE
           exact ⟨φ,_,_,fr,VR.tuple' (LR.nil φ),ok,Fr.refl φ h _,lx,qY,Ch⟩
         · cases e
       · cases e
     · cases e
   · cases e
 · cases e
def FR:List AV→Option (List UInt8)
 | []=>some []
 | .int .u8 n::l=>if 0≤n∧n<256 then (match FR l with
   | some r=>some (UInt8.ofNat n.toNat::r)
   | none=>none) else none
 | _=>none
theorem Dy:∀{cs:List AV} {l:List UInt8},FR cs=some l→cs=l.map fun b=>AV.int .u8 b.toNat
 | [],l,h=>by cases h;rfl
 | .int .u8 n::cs,l,h=>by
   simp only[FR] at h
   split at h
   · rename_i hn
     split at h
     · rename_i r hr
       cases h
       rw[Dy hr,List.map_cons]
       have:((UInt8.ofNat n.toNat).toNat:Int)=n:=by
        rw[UInt8.toNat_ofNat'];omega
       rw[this]
     · cases h
   · cases h
theorem HB:∀l:List UInt8,FR (l.map fun b=>AV.int .u8 b.toNat)=some l
 | []=>rfl
 | b::l=>by
   have h1:=b.toNat_lt
   simp only[List.map_cons,FR]
   rw[if_pos ⟨by omega,by omega⟩,HB l]
   simp
noncomputable def m6 (bt u8:TypeId) (args:List AV) (h:ag):Option (AV×ag):=match args with
 | [.ptr i 0]=>match h.get i with
   | some (.cells [_,.aj] t false)=>if t=bt then some (.str [],h) else none
   | some (.cells [_,.slice j 0 n c _] t false)=>if t=bt then (match h.get j with
    | some (.cells cs e false)=>if e=u8∧0<n∧n≤c∧n≤cs.length∧n≤1099511627776 then (match FR (cs.take n) with
      | some l=>some (.str l,h.put j none)
      | none=>none) else none
    | _=>none) else none
   | _=>none
 | _=>none
structure zw (P:Program) (f:FuncId) (u8:TypeId):Prop where
 nothing:∀(b:Nat) (w:World),w.cell? ⟨b,1,none⟩=some (.slice none 0 0)→Calls P f #[.pointer (some ⟨b,0,none⟩)] w fun e w'=>e= .returned (.string ⟨#[]⟩)∧w'=w.drew
 row:∀(b g cap cells:Nat) (l:List UInt8) (w:World),w.cell? ⟨b,1,none⟩=some (.slice (some ⟨g,0,none⟩) l.length cap)→w.shape? g=some (u8,cells)→l≠ []→l.length≤cap→l.length≤cells→l.length≤9223372036854775807→
  (∀j x,l[j]? =some x→w.cell? ((⟨g,0,none⟩:Addr).add j)=some (.int .u8 x.toNat))→Calls P f #[.pointer (some ⟨b,0,none⟩)] w fun e w'=>e= .returned (.string ⟨l.toArray⟩)∧w'=w.drew.freeze ⟨g,0,none⟩ l.length
theorem yD {w:World} {b c n:Nat} (h:b≠c):(w.freeze ⟨b,0,none⟩ n).heap[c]? =w.heap[c]? :=by
 unfold World.freeze;split
 · rfl
 · simp [Array.getElem?_modify,h]
theorem Bd (w:World) (b n:Nat):(w.freeze ⟨b,0,none⟩ n).heap.size=w.heap.size:=by
 unfold World.freeze;split<;>simp
theorem oF (w:World) (b n:Nat):(w.freeze ⟨b,0,none⟩ n).os=w.os∧(w.freeze ⟨b,0,none⟩ n).tape=w.tape∧(w.freeze ⟨b,0,none⟩ n).output=w.output:=by
 unfold World.freeze;split<;>exact ⟨rfl,rfl,rfl⟩
theorem FT {f:FuncId} {bt u8:TypeId} (bS:∀args w,(callFunc f args).run E.P w= .ok (.enter f args) w) (hc:zw E.P f u8) (args:List AV) (h:ag) (v:AV) (h':ag) (e:m6 bt u8 args h=some (v,h')):fI E f args h v h':=by
 intro φ w vs ok hl
 refine ⟨bS _ _,?_⟩
 unfold m6 at e
 split at e
 · rename_i i
   obtain ⟨x,t2,rfl,hx,hl⟩:=hl.bQ
   rw[hl.dG]
   cases hx with
   | @ptr _ l _ hφ=>
   split at e
   · rename_i a t hg
     split at e
     · obtain ⟨rfl,rfl⟩:=Prod.mk.inj (Option.some.inj e)
       obtain ⟨C,e',lo,hi,Lw,hC⟩:=ok.live i _ l hg hφ
       obtain ⟨_,vy,_⟩:=hC.shape rfl
       obtain ⟨y1,US,Ou⟩:=hC.val 1 .aj rfl
       cases Ou with
       | aj=>
       have jR:w.cell? ⟨l.cG,1,none⟩=some (.slice none 0 0):=by
        simp only[World.cell?,Lw];rw[vy] at US;exact US
       rw[vy]
       intro eE
       obtain ⟨en,w',fr,⟨rfl,rfl⟩,lx,qY,Ch⟩:=hc.nothing l.cG w jR eE
       have Lx:Below w.heap.size w w.drew:=Below.drew (Below.refl _ _)
       exact ⟨φ,_,_,fr,VR.str ⟨#[]⟩,(ok.later Lx).1,(ok.later Lx).2,lx,qY,Ch⟩
     · cases e
   · rename_i a j n c op t hg
     split at e
     · split at e
       · rename_i cs el YD
         split at e
         · rename_i E1
           obtain ⟨rfl,Ig,Jz,ace,acf⟩:=E1
           split at e
           · rename_i s hs
             obtain ⟨rfl,rfl⟩:=Prod.mk.inj (Option.some.inj e)
             obtain ⟨C,e',lo,hi,Lw,hC⟩:=ok.live i _ l hg hφ
             obtain ⟨_,vy,_⟩:=hC.shape rfl
             obtain ⟨y1,US,Ou⟩:=hC.val 1 (.slice j 0 n c op) rfl
             cases Ou with
             | @slice _ lj _ _ _ _ hφj=>
             obtain ⟨D,e2,lo2,hi2,hwd,hD⟩:=ok.live j _ lj YD hφj
             obtain ⟨rfl,Rn,_⟩:=hD.shape rfl
             have hsl:=Dy hs
             have YE:s.length=n:=by
              have:=congrArg List.length hsl
              simp only[List.length_take,List.length_map] at this
              omega
             have jR:w.cell? ⟨l.cG,1,none⟩=some (.slice (some ⟨lj.cG,0,none⟩) s.length (dx op c lj.eI)):=by
              simp only[World.cell?,Lw];rw[vy] at US;rw[Rn] at US;rw[YE];exact US
             have Oz:c≤dx op c lj.eI:=by unfold dx;split<;>omega
             have hDs:=hD.size
             have dP:∀(k:Nat) (x:UInt8),s[k]? =some x→w.cell? ((⟨lj.cG,0,none⟩:Addr).add k)=some (.int .u8 x.toNat):=fun k x hk=>by
              have hkn:k<n:=by rw[←YE];exact (List.getElem?_eq_some_iff.1 hk).1
              have h1:cs[k]? =some (.int .u8 x.toNat):=by
               have:(cs.take n)[k]? =some (.int .u8 x.toNat):=by rw[hsl,List.getElem?_map,hk];rfl
               rw[List.getElem?_take_of_lt hkn] at this
               exact this
              obtain ⟨y,hy,hyv⟩:=hD.val k _ h1
              cases hyv with
              | int=>
              have:(⟨lj.cG,0,none⟩:Addr).add k=⟨lj.cG,k,none⟩:=by unfold Addr.add;split<;>simp_all
              rw[this]
              simp only[World.cell?,hwd]
              rw[Rn,Nat.zero_add] at hy;exact hy
             rw[vy]
             intro eE
             obtain ⟨en,w',fr,⟨rfl,rfl⟩,lx,qY,Ch⟩:=hc.row l.cG lj.cG _ D.size s w jR (by simp only[World.shape?,hwd]) (fun q=>by rw[q] at YE;simp at YE;omega) (by omega) (by omega) (by omega) dP eE
             obtain ⟨iV,jW⟩:=ok.aac (w':=w.drew.freeze ⟨lj.cG,0,none⟩ s.length) YD rfl hφj (fun c cH=>(yD (Ne.symm cH)).trans rfl) (Bd _ _ _) (oF _ _ _).1 (oF _ _ _).2.1 (oF _ _ _).2.2
             exact ⟨φ,_,_,fr,VR.str ⟨s.toArray⟩,iV,jW,lx,qY,Ch⟩
           · cases e
         · cases e
       · cases e
     · cases e
   · cases e
 · cases e
end Go.Ab
end
