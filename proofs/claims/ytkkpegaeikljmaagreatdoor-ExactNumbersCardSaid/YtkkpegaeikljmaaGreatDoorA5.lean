import Derived.ChangeShapes
import Derived.ChangeStays
import Derived.ChangeBook
import Derived.ChangeOld
import Derived.ChangeAgain
import Derived.ChangeCalls
import Derived.Test.YtkkpegaeikljmaaGreatDoorA4
set_option linter.unusedVariables false
set_option linter.unusedSimpArgs false
section
namespace Go.Ab
variable {E:Env} {call:aE} {n:Nat} {s:St}
def opK {α β:Type} (o:Option α) (f:α→β) (d:β):β:=match o with
 | some a=>f a
 | none=>d
noncomputable def afL (E:Env) (call:aE) (n:Nat) (o:Out) (b:Code):Out:=match o with
 | .ok .normal s=>exec E call n b s
 | r=>r
theorem DY (s:St) (b:Code):afL E call n (.ok .normal s) b=exec E call n b s:=rfl
def Yh (id:Nat) (o:Out):Out:=match o with
 | .ok (.exit id') s'=>if id'=id then .ok .normal s' else .ok (.exit id') s'
 | r=>r
theorem DZ (i j:Nat) (s:St):Yh i (.ok (.exit j) s)=if j=i then .ok .normal s else .ok (.exit j) s:=rfl
noncomputable def Yi (E:Env) (call:aE) (n:Nat) (o:Option AV) (a b:Code) (s:St):Out:=match o with
 | some (.bool true)=>exec E call n a s
 | some (.bool false)=>exec E call n b s
 | _=> .fail "cond" none
theorem RA (a b:Code):Yi E call n (some (.bool true)) a b s=exec E call n a s:=rfl
theorem ML (a b:Code):Yi E call n (some (.bool false)) a b s=exec E call n b s:=rfl
theorem ad6 (a b:Code):exec E call (n+1) (.seq a b) s=afL E call n (exec E call n a s) b:=rfl
theorem Yj (x:Operand) (a b:Code):exec E call (n+1) (.cond x a b) s=Yi E call n (eW E s.ts x) a b s:=rfl
theorem KA (id:Nat) (b:Code):exec E call (n+1) (.block id b) s=Yh id (exec E call n b s):=rfl
theorem Yk (b:Code):exec E call (n+1) (.loop b) s=afL E call n (exec E call n b s) (.loop b):=rfl
theorem Yl (i:Nat) (ops:Array Oper):exec E call (n+1) (.region i ops false) s=CP E call ops ops.toList s:=rfl
theorem acm (i:Nat) (ops:Array Oper):exec E call (n+1) (.region i ops true) s=IW E call ops s:=rfl
section
variable {ops:Array Oper} {rest:List Oper} {d:Option Tmp} {op:Op} {ty:TypeId} {pos:String} {aft:Array Edge} {g:Option (Nat×Bool)}
end
theorem aP (m:Nat) (k:IntKind) (a:Int):AV.same (m+1) (.int k a) (.int k a)=true:=by simp [AV.same]
theorem Vo (m:Nat) (a:Bool):AV.same (m+1) (.bool a) (.bool a)=true:=by simp [AV.same]
theorem F8 (m i o l c:Nat) (b:Bool):AV.same (m+1) (.slice i o l c b) (.slice i o l c b)=true:=by simp [AV.same]
open Classical in
section
variable {ops:Array Oper} {rest:List Nat} {d:Option Tmp} {op:Op} {ty:TypeId} {pos:String} {aft:Array Edge} {g:Option (Nat×Bool)}
end
theorem wrap_i64 {n:Int} (h0: -9223372036854775808≤n) (h1:n<9223372036854775808):IntKind.i64.wrap n=n:=by
 show (if (true&&decide (n%2^64≥2^63))=true then n%2^64 - 2^64 else n%2^64)=n
 by_cases hn:n%2^64≥2^63
 · rw[if_pos (by rw[Bool.true_and];exact decide_eq_true hn)];omega
 · rw[if_neg (by rw[Bool.true_and];exact fun e=>hn (of_decide_eq_true e))];omega
theorem Vp {fuel:Nat} {f:FuncId} {fn:Func} {c:Code} (hf:E.P.funcs[f]? =some fn) (hb:fn.body=some c) {args:List AV} {h h':ah} {ts:List AV} {x:oA} (hx:x= .normal∨x= .ret)
 (e:exec E call fuel c ⟨args++List.replicate (fn.ntmps - args.length) AV.undef,h,[],.no⟩= .ok x ⟨ts,h',[],.no⟩) {vs:List AV} (hr:qb E h' ts fn.results.toList=some vs):DX E call fuel f args h= .ret (nD vs) h':=by
 unfold DX
 simp only[hf,hb,vS,e]
 rcases hx with rfl | rfl<;>simp only[yj,eE,hr]
def F9 (M:Fa.MJ):aE:=fun F args h=>match F with
 | .fn f=>match M f args h with
   | some p=> .ret p.1 p.2
   | none=> .fail "" none
 | .Ik _=> .fail "" none
theorem Vq {M:Fa.MJ} (hM:Fa.Kz E M):iu E (F9 M):=by
 refine ⟨fun F args h v h' e=>?_,fun F args h v h' e=>?_⟩
 · cases F with
   | Ik l=>cases e
   | fn f=>
     simp only[F9] at e
     cases hm:M f args h with
     | none=>rw[hm] at e;cases e
     | some p=>
       rw[hm] at e
       simp only[z_.ret.injEq] at e
       obtain ⟨rfl,rfl⟩:=e
       exact (hM _ _ _ _ _ hm).any
 · cases F with
   | Ik l=>cases e
   | fn f=>
     simp only[F9] at e
     cases hm:M f args h with
     | none=>rw[hm] at e;cases e
     | some p=>rw[hm] at e;cases e
def akY (E:Env) (x:Option (TypeId×Nat)) (v:Option AV):Option AV:=match x,v with
 | some (t,o),some (.ptr i off)=>match bK E t with
   | some n=>if n=0 then none else some (.ptr i (off+o))
   | none=>none
 | _,_=>none
def aI (E:Env) (op:BinOp) (t:TypeId) (xc yc:Bool) (a b:Option AV):Option AV:=match a,b with
 | some a,some b=>pX E op t xc yc a b
 | _,_=>none
theorem acn {ts:List AV} (op:BinOp) (t t':TypeId) (x y:Operand):ct E ts (.binOp op t x y t')=aI E op t (isConst x) (isConst y) (eW E ts x) (eW E ts y):=by
 simp only[ct,aI]
 cases eW E ts x<;>cases eW E ts y<;>rfl
theorem KB (t:TypeId) (c d:Bool) (k:IntKind) (a b:Int):aI E .add t c d (some (.int k a)) (some (.int k b))=some (.int k (k.wrap (a+b))):=by simp [aI,pX,j2]
theorem KC (t:TypeId) (c d:Bool) (k:IntKind) (a b:Int):aI E .sub t c d (some (.int k a)) (some (.int k b))=some (.int k (k.wrap (a - b))):=by simp [aI,pX,j2]
theorem KD (t:TypeId) (c d:Bool) (k:IntKind) (a b:Int):aI E .mul t c d (some (.int k a)) (some (.int k b))=some (.int k (k.wrap (a*b))):=by simp [aI,pX,j2]
theorem aco (t:TypeId) (c d:Bool) (k:IntKind) (a b:Int):aI E .eql t c d (some (.int k a)) (some (.int k b))=some (.bool (decide (a=b))):=by simp [aI,pX,j2];rfl
theorem acp (t:TypeId) (c d:Bool) (k:IntKind) (a b:Int):aI E .neq t c d (some (.int k a)) (some (.int k b))=some (.bool (!decide (a=b))):=by simp [aI,pX,j2];rfl
theorem acq (t:TypeId) (c d:Bool) (k:IntKind) (a b:Int):aI E .lss t c d (some (.int k a)) (some (.int k b))=some (.bool (decide (a<b))):=by simp [aI,pX,j2]
theorem acr (t:TypeId) (c d:Bool) (k:IntKind) (a b:Int):aI E .leq t c d (some (.int k a)) (some (.int k b))=some (.bool (decide (a≤b))):=by simp [aI,pX,j2]
theorem acs (t:TypeId) (c d:Bool) (k:IntKind) (a b:Int):aI E .gtr t c d (some (.int k a)) (some (.int k b))=some (.bool (decide (b<a))):=by simp [aI,pX,j2]
theorem acu (t:TypeId) (c d:Bool) (k:IntKind) (a b:Int):aI E .geq t c d (some (.int k a)) (some (.int k b))=some (.bool (decide (b≤a))):=by simp [aI,pX,j2]
theorem Ym (t:TypeId) (c d:Bool) (a b:List UInt8):aI E .eql t c d (some (.str a)) (some (.str b))=some (.bool (decide (a=b))):=by
 simp only[aI,pX,CL,Option.some.injEq,AV.bool.injEq]
 exact Bool.eq_iff_iff.2 (by simp)
theorem Yn (t:TypeId) (c d:Bool) (a b:List UInt8):aI E .neq t c d (some (.str a)) (some (.str b))=some (.bool (!decide (a=b))):=by
 simp only[aI,pX,CL,Option.some.injEq,AV.bool.injEq]
 exact congrArg (!·) (Bool.eq_iff_iff.2 (by simp))
def bq (E:Env) (d:Option TypeDesc) (v i:Option AV):Option AV:=match d,v,i with
 | some (.slice elem),some (.slice i o len _ _),some (.int _ n)=>match bK E elem with
  | some size=>if 0≤n∧n<len then some (.ptr i (o+n.toNat*size)) else none
  | none=>none
 | some (.array len elem),some (.ptr i o),some (.int _ n)=>match bK E elem with
  | some size=>if 0≤n∧n<len then some (.ptr i (o+n.toNat*size)) else none
  | none=>none
 | _,_,_=>none
theorem MN {ts:List AV} (t:TypeId) (x i:Operand):ct E ts (.indexAddr t x i)=bq E (E.P.underlying t) (eW E ts x) (eW E ts i):=by
 simp only[ct,bq]
 split<;>simp_all<;>(split<;>simp_all)
theorem uH {e:TypeId} {i o len c z:Nat} {b:Bool} {size:Nat} (hs:bK E e=some size) (hz:z<len):bq E (some (.slice e)) (some (.slice i o len c b)) (some (.int .i64 (z:Int)))=some (.ptr i (o+z*size)):=by
 simp only[bq,hs]
 rw[if_pos ⟨by omega,by omega⟩,Int.toNat_natCast]
def dO (d:Option TypeDesc) (v:Option AV):Option AV:=match d,v with
 | some (.slice _),some .ax=>some (.int .i64 0)
 | some (.slice _),some (.slice _ _ n _ _)=>some (.int .i64 n)
 | some (.slice _),some .im=>some (.int .i64 0)
 | some .string,some (.str s)=>some (.int .i64 s.length)
 | some (.array n _),some _=>some (.int .i64 n)
 | some (.map _ _),some .eZ=>some (.int .i64 0)
 | _,_=>none
theorem ahO {ts:List AV} (x:Operand) (t:TypeId):ct E ts (.call ⟨.builtin .len, #[x], #[t]⟩)=dO (E.P.underlying t) (eW E ts x):=by
 simp only[ct,iM,fv,List.getElem?_toArray,List.getElem?_cons_zero]
 generalize eW E ts x=o
 cases o with
 | none=>
   generalize E.P.underlying t=u
   cases u with
   | none=>rfl
   | some d=>cases d<;>rfl
 | some v=>
   simp only
   generalize E.P.underlying t=u
   cases u with
   | none=>rfl
   | some d=>cases d<;>cases v<;>rfl
theorem afM {ts:List AV} {h:ah} (t:TypeId) (x:Operand):ig E ts h (.load t x)=opK (eW E ts x) (bk E h t) none:=by
 simp only[ig];cases eW E ts x<;>rfl
theorem KE {h:ah} {t:TypeId} {i o:Nat} {cs:List AV} {e:TypeId} {ro:Bool} {v:AV} (hg:h.get i=some (.cells cs e ro)) (ha:iS E t=some false) (hv:cs[o]? =some v):bk E h t (.ptr i o)=some v:=by
 simp only[bk,hg,jX,ha,hv]
theorem F_ (e:TypeId) (i o n c:Nat) (b:Bool):dO (some (.slice e)) (some (.slice i o n c b))=some (.int .i64 n):=rfl
theorem nZ (e:TypeId):dO (some (.slice e)) (some .ax)=some (.int .i64 0):=rfl
def Tidy (h:ah):Prop:=∀i o,h.get i=some o→i<h.nx
def pv (E:Env) (d:Option TypeDesc) (v i:Option AV):Option AV:=match d,v,i with
 | some (.array len elem),some (.agg cs),some (.int _ n)=>match bK E elem with
  | some size=>if 0≤n∧n<len then jX E elem cs (n.toNat*size) else none
  | none=>none
 | some .string,some (.str s),some (.int _ n)=>if 0≤n then (match s[n.toNat]? with | some b=>some (.int .u8 b.toNat) | none=>none) else none
 | _,_,_=>none
theorem acv {ts:List AV} (t:TypeId) (x i:Operand):ct E ts (.index t x i)=pv E (E.P.underlying t) (eW E ts x) (eW E ts i):=by
 simp only[ct,pv]
 split
 · simp_all
   split<;>simp_all
 · rename_i s k n _ _ _
   simp_all
   cases s[n.toNat]? <;>rfl
 · simp_all
theorem acw (t:TypeId) (c d:Bool) (k:IntKind) (a b:Int) (hb:b≠0):aI E .quo t c d (some (.int k a)) (some (.int k b))=some (.int k (k.wrap (a.tdiv b))):=by simp [aI,pX,j2,hb]
end Go.Ab
end
section
namespace Go.Ab
open Go.ChangeShapes Go.WideShapes Go.RowKit
variable {E:Env}
def Tw (h:ah):Prop:=∀i o,h.get i=some o→o.rw=false
theorem Tw.begin {G:Nat} {l:List Tab}:Tw (j7 G l):=fun i o h=>by
 obtain ⟨x,_,_,rfl⟩:=uG h;rfl
theorem KF {f:FuncId} {avs:List AV} {h h':ah} (r:iN E f avs h (.bool true) h') {φ:Ph} {w:World} {vs:List Value} (ok:OK E φ h w) (hl:LR φ avs vs) (hro:Tw h):
 Calls E.P f vs.toArray w fun en w'=>en= .returned (.bool true)∧w.keptBut w' (fun _=>False):=fun cs=>by
 obtain ⟨_,ja⟩:=r φ w vs ok hl
 obtain ⟨φ',w',v',fr,hv,_,vB,h1,h2,h3⟩:=ja cs
 cases hv
 refine ⟨.returned (.bool true),w',fr,⟨rfl,vB.os,vB.output,fun i hi=>?_⟩,h1,h2,h3⟩
 rw[vB.EF i hi (fun j o l' q1 q2 _=>by rw[hro j o q1] at q2;cases q2)]
 cases w.heap[i]? with
 | none=>rfl
 | some o=>cases o with
   | cells c t fz=>exact ⟨rfl,rfl,rfl,fun _ _=>rfl⟩
   | map es c=>exact .inr ⟨rfl,rfl⟩
   | _=>rfl
section
variable {H:Type} {enc:TypeId×Value→H} {w:World} {base:Nat} {spare:Nat→Bool} {held:Bool} {fuel:Nat} {t:TypeId} {x:DataW H×List MemPlace}
end
section
variable {H:Type} {enc:TypeId×Value→H} {P:Program} {w w':World}
theorem F' (hk:w.keptBut w' (fun _=>False)) {p:MemPlace} (hp:p.block<w.heap.size):w.sameAt w' p:=by
 have h:=hk.block hp (fun _ h=>h.elim)
 cases p with
 | cell b off=>simp only[World.sameAt,World.cell?];rw[show w'.heap[b]? =w.heap[b]? from h]
 | map b=>exact h
theorem Jg (hl:laidOutB P=true) (hk:w.keptBut w' (fun _=>False)):∀{ts:List TypeId} {vs:List Value} {ds:List (DataW H)} {ps:List MemPlace},(∀t∈ts,P.readableRec t=true∧t<P.types.size)→
 DataW.TrodAll enc P w 0 (fun _=>true) true ts vs ds ps→DataW.TrodAll enc P w' 0 (fun b=>decide (b<w.heap.size)) true ts vs ds ps
 | [],vs,ds,ps,_,h=>by
   obtain ⟨rfl,rfl,rfl⟩:=trodAll_nil h
   exact trodAll_mk0
 | t::ts,vs,ds,ps,hr,h=>by
   have gL:=DataW.TrodAll.lt h
   obtain ⟨v,sK,d,CH,p,p',rfl,rfl,rfl,⟨n,h1⟩,h2⟩:=trodAll_cons h
   obtain ⟨h3,h4⟩:=hr t (by simp)
   refine trodAll_cons_mk ⟨n,?_⟩ (Jg hl hk (fun t ht=>hr t (by simp [ht])) h2)
   exact DataW.trod_stays (kids_book hl h3) (book_sized h3) (fun h=>by cases h) ⟨h4,book_self t⟩ h1 (fun q hq=>F' hk (gL q (by simp [hq]))) (fun q hq=>by simpa using gL q (by simp [hq]))
end
end Go.Ab
end
section
namespace Go.Ab
variable {E:Env}
end Go.Ab
end
section
namespace Go.Ab
variable {E:Env} {call:aE}
def Ev (E:Env) (call:aE) (c:Code) (s:St) (e:oA) (s':St):Prop:=∃n0,∀n,n0≤n→exec E call n c s= .ok e s'
theorem Ev.of {c:Code} {s:St} {e:oA} {s':St} (h:∀n,exec E call (n+1) c s= .ok e s'):Ev E call c s e s':=⟨1,fun n hn=>by
 obtain ⟨k,rfl⟩:∃k,n=k+1:=⟨n - 1,by omega⟩
 exact h k⟩
theorem Ev.seq {a b:Code} {s s1 s':St} {e:oA} (h1:Ev E call a s .normal s1) (h2:Ev E call b s1 e s'):Ev E call (.seq a b) s e s':=by
 obtain ⟨n1,h1⟩:=h1
 obtain ⟨n2,h2⟩:=h2
 refine ⟨n1+n2+1,fun n hn=>?_⟩
 obtain ⟨k,rfl⟩:∃k,n=k+1:=⟨n - 1,by omega⟩
 rw[ad6,h1 k (by omega),DY]
 exact h2 k (by omega)
theorem Ev.seq' {a b:Code} {s s':St} {e:oA} (he:e≠ .normal) (h1:Ev E call a s e s'):Ev E call (.seq a b) s e s':=by
 obtain ⟨n1,h1⟩:=h1
 refine ⟨n1+1,fun n hn=>?_⟩
 obtain ⟨k,rfl⟩:∃k,n=k+1:=⟨n - 1,by omega⟩
 rw[ad6,h1 k (by omega)]
 cases e with
 | normal=>exact absurd rfl he
 | _=>rfl
theorem Ev.loop {b:Code} {s s1 s':St} {e:oA} (h1:Ev E call b s .normal s1) (h2:Ev E call (.loop b) s1 e s'):Ev E call (.loop b) s e s':=by
 obtain ⟨n1,h1⟩:=h1
 obtain ⟨n2,h2⟩:=h2
 refine ⟨n1+n2+1,fun n hn=>?_⟩
 obtain ⟨k,rfl⟩:∃k,n=k+1:=⟨n - 1,by omega⟩
 rw[Yk,h1 k (by omega),DY]
 exact h2 k (by omega)
theorem Ev.exit {b:Code} {s s':St} {e:oA} (he:e≠ .normal) (h1:Ev E call b s e s'):Ev E call (.loop b) s e s':=by
 obtain ⟨n1,h1⟩:=h1
 refine ⟨n1+1,fun n hn=>?_⟩
 obtain ⟨k,rfl⟩:∃k,n=k+1:=⟨n - 1,by omega⟩
 rw[Yk,h1 k (by omega)]
 cases e with
 | normal=>exact absurd rfl he
 | _=>rfl
theorem Ev.ret {b:Code} {s s':St} (h1:Ev E call b s .ret s'):Ev E call (.loop b) s .ret s':=Ev.exit (by simp) h1
theorem Ev.out {b:Code} {s s':St} {i:Nat} (h1:Ev E call b s (.exit i) s'):Ev E call (.loop b) s (.exit i) s':=Ev.exit (by simp) h1
inductive oB where
 | c
 | v (x:AV)
 | q (x:AV)
 | m (x:AV)
 | n (h:ah)
 | a (obj:ar) (x:AV) (h:ah)
 | e (x:AV) (h:ah)
 | p (x:AV) (h:ah)
 | b (x:Bool)
 | l (e:oA) (s:St)
def ni:List Prop→Prop
 | []=>True
 | p::ps=>p∧ni ps
inductive R where
 | bad
 | at (e:oA) (s:St) (as:List oB) (ps:List Prop)
def R.go (k:St→List oB→List Prop→R):R→R
 | .at .normal s as ps=>k s as ps
 | r=>r
theorem R.ahP {k:St→List oB→List Prop→R} {r:R} {e:oA} {s:St} {as:List oB} {ps:List Prop} (h:r.go k= .at e s as ps):(∃s1 yk vo,r= .at .normal s1 yk vo∧k s1 yk vo= .at e s as ps)∨(r= .at e s as ps∧e≠ .normal):=by
 unfold R.go at h
 split at h
 · exact .inl ⟨_,_,_,rfl,h⟩
 · rename_i cR
   refine .inr ⟨h,fun he=>?_⟩
   subst he;exact cR _ _ _ h
def ahQ (E:Env) (ts:List AV):List Operand→List TypeId→Option AV
 | [x],[t]=>dO (E.P.underlying t) (eW E ts x)
 | _,_=>none
def Tx (c a b:Option AV):Option AV:=match c with
 | some (.bool true)=>a
 | some (.bool false)=>b
 | _=>none
theorem acx {ts:List AV} (c a b:Operand):ct E ts (.pick c a b)=Tx (eW E ts c) (eW E ts a) (eW E ts b):=by
 simp only[ct]
 generalize eW E ts c=x
 cases x with
 | none=>rfl
 | some v=>cases v with
   | bool b=>cases b<;>rfl
   | _=>rfl
theorem aG {c:Bool} {a b:Option AV} (h:c=true):Tx (some (.bool c)) a b=a:=by rw[h];rfl
theorem aL {c:Bool} {a b:Option AV} (h:c=false):Tx (some (.bool c)) a b=b:=by rw[h];rfl
def acy (E:Env) (ts:List AV) (op:Op):Option AV:=match op with
 | .indexAddr t x i=>bq E (E.P.underlying t) (eW E ts x) (eW E ts i)
 | .index t x i=>pv E (E.P.underlying t) (eW E ts x) (eW E ts i)
 | .binOp op t x y _=>aI E op t (isConst x) (isConst y) (eW E ts x) (eW E ts y)
 | .pick c a b=>Tx (eW E ts c) (eW E ts a) (eW E ts b)
 | .call c=>match c.callee with
   | .builtin .len=>ahQ E ts c.args.toList c.argTypes.toList
   | _=>none
 | _=>none
theorem Gg {α:Type} {a:Array α} {l:List α} (h:a.toList=l):a=l.toArray:=by rw[←h]
theorem Ty {ts:List AV} {op:Op} {v:AV} (e:acy E ts op=some v):ct E ts op=some v:=by
 unfold acy at e
 split at e
 · rw[←MN] at e;exact e
 · rw[←acv] at e;exact e
 · rename_i o t x y t';exact (acn o t t' x y).trans e
 · rename_i c a b;exact (acx c a b).trans e
 · rename_i c
   obtain ⟨cl,args,tys⟩:=c
   simp only at e
   split at e
   · unfold ahQ at e
     split at e
     · rename_i x t hx ht
       rw[Gg hx,Gg ht]
       exact (ahO x t).trans e
     · cases e
   · cases e
 · cases e
noncomputable def Yo (E:Env) (ts:List AV) (h:ah) (op:Op):Option AV:=match op with
 | .load t x=>opK (eW E ts x) (bk E h t) none
 | op=>ig E ts h op
theorem KG {ts:List AV} {h:ah} {op:Op} {v:AV} (e:Yo E ts h op=some v):ig E ts h op=some v:=by
 unfold Yo at e
 split at e
 · rw[afM];exact e
 · exact e
def qm (E:Env) (d:Option TypeDesc) (l c:Option AV):Option (ar×(Nat→AV)):=match d,l,c with
 | some (.slice elem),some (.int _ len),some (.int _ cap)=>match bK E elem,mr E elem,jW E elem with
   | some n,some bytes,some z=>
     if 0≤len∧len≤cap∧cap<2^30∧(bytes:Int)*cap≤2^47∧z.cells.length=n then
      some (.cells (aS z.cells cap.toNat) elem false,fun i=> .slice i 0 len.toNat cap.toNat false)
     else none
   | _,_,_=>none
 | _,_,_=>none
def acz (E:Env) (ts:List AV) (op:Op):Option (ar×(Nat→AV)):=match op with
 | .makeSlice t l c=>qm E (E.P.underlying t) (eW E ts l) (eW E ts c)
 | op=>gh E ts op
theorem Tz (ts:List AV) (op:Op):acz E ts op=gh E ts op:=by
 unfold acz
 split
 · rename_i t l c
   simp only[gh]
   generalize E.P.underlying t=d
   generalize eW E ts l=x
   generalize eW E ts c=y
   rfl
 · rfl
noncomputable def acA (E:Env) (call:aE) (ts:List AV) (h:ah) (rc:RC) (o:Oper) (x:AV) (h':ah):Prop:=match o.op with
 | .store t a v=>match eW E ts a,eW E ts v with
   | some a,some v=>x=AV.undef∧ch E h t a v=some h'
   | _,_=>False
 | .call c=>match c.callee with
   | .builtin .append=>match iM E ts c.args.toList with
     | some [s,y]=>dI E h c.argTypes s y=some (x,h')
     | _=>False
   | .builtin .copy=>match iM E ts c.args.toList with
     | some [s,y]=>DJ E h c.argTypes s y=some (x,h')
     | _=>False
   | .value _=>match callee E ts c with
     | some (f,args)=>match CO E f with
       | some g=>g args h=some (x,h')
       | none=>call f args h= .ret x h'
     | none=>False
   | _=>gV E call ts h rc o= .val x h'
 | .convert src dst y=>zD E h src dst (eW E ts y)=some (x,h')
 | _=>gV E call ts h rc o= .val x h'
theorem TA {ts:List AV} {h:ah} {rc:RC} {o:Oper} {x:AV} {h':ah} (e:acA E call ts h rc o x h'):gV E call ts h rc o= .val x h':=by
 unfold acA at e
 split at e
 · rename_i t a v ho
   split at e
   · rename_i a' v' h1 h2
     obtain ⟨rfl,e⟩:=e
     unfold gV
     simp only[ho,h1,h2,e]
   · exact e.elim
 · rename_i c ho
   split at e
   · rename_i hc
     split at e
     · rename_i h1
       unfold gV
       simp only[ho,hc,h1,e]
     · exact e.elim
   · rename_i hc
     split at e
     · rename_i h1
       unfold gV
       simp only[ho,hc,h1,e]
     · exact e.elim
   · rename_i hc
     split at e
     · rename_i h1
       split at e
       · rename_i h2
         unfold gV
         simp only[ho,hc,h1,h2,e]
       · rename_i h2
         unfold gV
         simp only[ho,hc,h1,h2,e]
     · exact e.elim
   · exact e
 · rename_i src dst y ho
   unfold gV
   simp only[ho,e]
 · exact e
def Vr {β:Type} (k:List AV→β):List AV→Nat→AV→β
 | [],_,_=>k []
 | _::xs,0,v=>k (v::xs)
 | x::xs,d+1,v=>Vr (fun ys=>k (x::ys)) xs d v
theorem KH {β:Type}:∀(k:List AV→β) (ts:List AV) (d:Nat) (v:AV),Vr k ts d v=k (ts.set d v)
 | k,[],_,_=>by simp [Vr]
 | k,_::xs,0,v=>rfl
 | k,x::xs,d+1,v=>by rw[Vr,KH];rfl
def wF (s:St) (d:Option Tmp) (v:AV) (h:ah) (as:List oB) (ps:List Prop):R:=match d with
 | some i=>Vr (fun ts=> .at .normal ⟨ts,h,s.ds,s.rc⟩ as ps) s.ts i v
 | none=> .at .normal ⟨s.ts,h,s.ds,s.rc⟩ as ps
theorem n_ (s:St) (d:Option Tmp) (v:AV) (h:ah) (as:List oB) (ps:List Prop):Go.Ab.wF s d v h as ps= .at .normal {s with ts:=gW s.ts d v,h:=h} as ps:=by
 cases d with
 | none=>rfl
 | some i=>exact KH _ _ _ _
noncomputable def MO (E:Env) (call:aE) (o:Oper) (s:St) (as:List oB) (ps:List Prop):R:=match as with
 | .c::as=>match ct E s.ts o.op with
   | some v=>wF s o.dst v s.h as ps
   | none=> .bad
 | .v x::as=>wF s o.dst x s.h as ((acy E s.ts o.op=some x)::ps)
 | .q x::as=>wF s o.dst x s.h as ((ct E s.ts o.op=some x)::ps)
 | .m x::as=>match ct E s.ts o.op with
   | none=>wF s o.dst x s.h as ((Yo E s.ts s.h o.op=some x)::ps)
   | some _=> .bad
 | .n h'::as=>match ct E s.ts o.op,ig E s.ts s.h o.op,gh E s.ts o.op with
   | none,none,some (obj,mk)=>wF s o.dst (mk s.h.nx) h' as ((s.h.new obj=some h')::ps)
   | _,_,_=> .bad
 | .a obj x h'::as=>match ct E s.ts o.op,ig E s.ts s.h o.op with
   | none,none=>wF s o.dst x h' as ((∃mk,acz E s.ts o.op=some (obj,mk)∧mk s.h.nx=x)::(s.h.new obj=some h')::ps)
   | _,_=> .bad
 | .e x h'::as=>match ct E s.ts o.op,ig E s.ts s.h o.op,gh E s.ts o.op with
   | none,none,none=>wF s o.dst x h' as (acA E call s.ts s.h s.rc o x h'::ps)
   | _,_,_=> .bad
 | .p x h'::as=>match ct E s.ts o.op,ig E s.ts s.h o.op,gh E s.ts o.op with
   | none,none,none=> .at (.panic x) {s with h:=h'} as ((gV E call s.ts s.h s.rc o= .panic x h')::ps)
   | _,_,_=> .bad
 | _=> .bad
theorem D3 {o:Oper} {s:St} {as:List oB} {ps:List Prop} {e:oA} {s':St} {A3:List oB} {vz:List Prop} (hr:MO E call o s as ps= .at e s' A3 vz) (hp:ni vz):ni ps∧opA E call s o= .ok e s':=by
 have seen:∀{x:AV},(ct E s.ts o.op=some x∨(ct E s.ts o.op=none∧ig E s.ts s.h o.op=some x))→opA E call s o= .ok .normal {s with ts:=gW s.ts o.dst x}:=by
  rintro x (h | ⟨h1,h2⟩)<;>unfold opA
  · rw[h]
  · rw[h1,h2]
 unfold MO at hr
 split at hr
 · split at hr
   · rename_i v hv
     rw[n_] at hr;cases hr
     exact ⟨hp,seen (.inl hv)⟩
   · cases hr
 · rw[n_] at hr;cases hr
   exact ⟨hp.2,seen (.inl (Ty hp.1))⟩
 · rw[n_] at hr;cases hr
   exact ⟨hp.2,seen (.inl hp.1)⟩
 · split at hr
   · rename_i h1
     rw[n_] at hr;cases hr
     exact ⟨hp.2,seen (.inr ⟨h1,KG hp.1⟩)⟩
   · cases hr
 · split at hr
   · rename_i h1 h2 h3
     rw[n_] at hr;cases hr
     refine ⟨hp.2,?_⟩
     unfold opA
     simp only[h1,h2,h3,hp.1]
   · cases hr
 · split at hr
   · rename_i h1 h2
     rw[n_] at hr;cases hr
     obtain ⟨⟨mk,h3,h4⟩,h5,hp⟩:=hp
     rw[Tz] at h3
     refine ⟨hp,?_⟩
     unfold opA
     simp only[h1,h2,h3,h4,h5]
   · cases hr
 · split at hr
   · rename_i h1 h2 h3
     rw[n_] at hr;cases hr
     refine ⟨hp.2,?_⟩
     unfold opA
     simp only[h1,h2,h3,TA hp.1]
   · cases hr
 · split at hr
   · rename_i h1 h2 h3
     cases hr
     refine ⟨hp.2,?_⟩
     unfold opA
     simp only[h1,h2,h3,hp.1]
   · cases hr
 · cases hr
inductive Gd where
 | yes
 | no
 | ask (v want:Bool)
def MP (want:Bool):Option AV→Gd
 | some (.bool v)=> .ask v want
 | _=> .no
def KI (ops:Array Oper) (ts:List AV) (g:Option (Nat×Bool)):Gd:=match g with
 | none=> .yes
 | some (j,want)=>match (ops[j]?).bind (·.dst) with
   | none=> .no
   | some d=>MP want ts[d]?
theorem Jh (ops:Array Oper) (ts:List AV) (o:Oper):dC ops ts o=(match KI ops ts o.guard with
 | .yes=>true
 | .no=>false
 | .ask v want=>v==want):=by
 unfold dC KI
 cases o.guard with
 | none=>rfl
 | some q=>
   obtain ⟨j,want⟩:=q
   simp only
   cases (ops[j]?).bind (·.dst) with
   | none=>rfl
   | some d=>
     simp only
     generalize ts[d]? =y
     unfold MP
     cases y with
     | none=>rfl
     | some z=>cases z<;>rfl
noncomputable def sN (E:Env) (call:aE) (ops:Array Oper):List Oper→St→List oB→List Prop→R
 | [],s,as,ps=> .at .normal s as ps
 | o::rest,s,as,ps=>match KI ops s.ts o.guard with
   | .yes=>(MO E call o s as ps).go (sN E call ops rest)
   | .no=>(wF s o.dst AV.undef s.h as ps).go (sN E call ops rest)
   | .ask v want=>match as with
     | .b x::as=>bif x==want then (MO E call o s as ((v=x)::ps)).go (sN E call ops rest) else (wF s o.dst AV.undef s.h as ((v=x)::ps)).go (sN E call ops rest)
     | _=> .bad
theorem Bs {ops:Array Oper}:∀(l:List Oper) (s:St) (as:List oB) (ps:List Prop) (e:oA) (s':St) (A3:List oB) (vz:List Prop),sN E call ops l s as ps= .at e s' A3 vz→ni vz→ni ps∧CP E call ops l s= .ok e s'
 | [],s,as,ps,e,s',A3,vz,hr,hp=>by cases hr;exact ⟨hp,rfl⟩
 | o::rest,s,as,ps,e,s',A3,vz,hr,hp=>by
   have ih:=Bs (ops:=ops) rest
   have afN:∀(yk:List oB) (vo:List Prop),(MO E call o s yk vo).go (sN E call ops rest)= .at e s' A3 vz→ni vo∧(dC ops s.ts o=true→CP E call ops (o::rest) s= .ok e s'):=by
    intro yk vo h
    rcases R.ahP h with ⟨s1,as2,ps2,h1,h2⟩ | ⟨h1,cR⟩
    · obtain ⟨h3,h4⟩:=ih _ _ _ _ _ _ _ h2 hp
      obtain ⟨h5,h6⟩:=D3 h1 h3
      refine ⟨h5,fun hw=>?_⟩
      unfold CP
      rw[if_pos hw,h6];exact h4
    · obtain ⟨h5,h6⟩:=D3 h1 hp
      refine ⟨h5,fun hw=>?_⟩
      unfold CP
      rw[if_pos hw,h6]
      cases e with
      | normal=>exact absurd rfl cR
      | _=>rfl
   have afO:∀(yk:List oB) (vo:List Prop),(wF s o.dst AV.undef s.h yk vo).go (sN E call ops rest)= .at e s' A3 vz→ni vo∧(dC ops s.ts o=false→CP E call ops (o::rest) s= .ok e s'):=by
    intro yk vo h
    rw[n_] at h
    obtain ⟨h3,h4⟩:=ih _ _ _ _ _ _ _ (show sN E call ops rest _ yk vo=_ from h) hp
    refine ⟨h3,fun hw=>?_⟩
    unfold CP
    rw[if_neg (by rw[hw];exact Bool.false_ne_true)]
    exact h4
   have hg:=Jh ops s.ts o
   unfold sN at hr
   split at hr
   · rename_i h1;rw[h1] at hg;exact ⟨(afN _ _ hr).1,(afN _ _ hr).2 hg⟩
   · rename_i h1;rw[h1] at hg;exact ⟨(afO _ _ hr).1,(afO _ _ hr).2 hg⟩
   · rename_i v want h1
     rw[h1] at hg
     split at hr
     · rename_i x yk
       cases hx:x==want with
       | true=>
         rw[hx] at hr
         obtain ⟨⟨h2,h3⟩,h4⟩:=afN _ _ hr
         exact ⟨h3,h4 (by rw[hg,h2];exact hx)⟩
       | false=>
         rw[hx] at hr
         obtain ⟨⟨h2,h3⟩,h4⟩:=afO _ _ hr
         exact ⟨h3,h4 (by rw[hg,h2];exact hx)⟩
     · cases hr
inductive RT where
 | bad
 | ok (tr:List Step) (hs:List ah) (s:St) (as:List oB) (ps:List Prop)
def RT.step (x:Step):RT→RT
 | .ok tr hs s as ps=> .ok (x::tr) hs s as ps
 | .bad=> .bad
def RT.bound (x:Step) (h:ah):RT→RT
 | .ok tr hs s as ps=> .ok (x::tr) (h::hs) s as ps
 | .bad=> .bad
def RT.put (s:St) (d:Option Tmp) (v:AV) (h:ah) (k:St→RT):RT:=match d with
 | some i=>Vr (fun ts=>k ⟨ts,h,s.ds,s.rc⟩) s.ts i v
 | none=>k ⟨s.ts,h,s.ds,s.rc⟩
theorem RT.put_eq (s:St) (d:Option Tmp) (v:AV) (h:ah) (k:St→RT):RT.put s d v h k=k {s with ts:=gW s.ts d v,h:=h}:=by
 cases d with
 | none=>rfl
 | some i=>exact KH _ _ _ _
noncomputable def MQ (E:Env) (call:aE) (i k:Nat) (o:Oper) (s:St) (as:List oB) (ps:List Prop) (go:Nat→St→List oB→List Prop→RT):RT:=match as with
 | .e x h'::as=>(RT.put s o.dst x h' fun s'=>go (k+1) s' as (acA E call s.ts s.h s.rc o x h'::ps)).bound ⟨i,k,s.ts,x,.QJ h'⟩ s.h
 | _=> .bad
noncomputable def MR (E:Env) (i k:Nat) (o:Oper) (s:St) (as:List oB) (ps:List Prop) (go:Nat→St→List oB→List Prop→RT):RT:=match as with
 | .c::as=>match ct E s.ts o.op with
   | some v=>(RT.put s o.dst v s.h fun s'=>go k s' as ps).step ⟨i,k,s.ts,v,.pur⟩
   | none=> .bad
 | .v x::as=>(RT.put s o.dst x s.h fun s'=>go k s' as ((acy E s.ts o.op=some x)::ps)).step ⟨i,k,s.ts,x,.pur⟩
 | .q x::as=>(RT.put s o.dst x s.h fun s'=>go k s' as ((ct E s.ts o.op=some x)::ps)).step ⟨i,k,s.ts,x,.pur⟩
 | .m x::as=>match ct E s.ts o.op with
   | none=>(RT.put s o.dst x s.h fun s'=>go k s' as ((Yo E s.ts s.h o.op=some x)::ps)).step ⟨i,k,s.ts,x,.red⟩
   | some _=> .bad
 | .n h'::as=>match ct E s.ts o.op,ig E s.ts s.h o.op,gh E s.ts o.op with
   | none,none,some (obj,mk)=>(RT.put s o.dst (mk s.h.nx) h' fun s'=>go k s' as ((s.h.new obj=some h')::ps)).step ⟨i,k,s.ts,mk s.h.nx,.Qh s.h.nx obj⟩
   | _,_,_=> .bad
 | .a obj x h'::as=>match ct E s.ts o.op,ig E s.ts s.h o.op with
   | none,none=>(RT.put s o.dst x h' fun s'=>go k s' as ((∃mk,acz E s.ts o.op=some (obj,mk)∧mk s.h.nx=x)::(s.h.new obj=some h')::ps)).step ⟨i,k,s.ts,x,.Qh s.h.nx obj⟩
   | _,_=> .bad
 | _=> .bad
noncomputable def runT (E:Env) (call:aE) (ops:Array Oper):List Nat→Nat→St→List oB→List Prop→RT
 | [],_,s,as,ps=> .ok [] [s.h] s as ps
 | i::rest,k,s,as,ps=>match ops[i]? with
   | none=> .bad
   | some o=>match KI ops s.ts o.guard with
     | .yes=>bif ik E o.op then MQ E call i k o s as ps (runT E call ops rest) else MR E i k o s as ps (runT E call ops rest)
     | .no=>bif ik E o.op then (RT.put s o.dst AV.undef s.h fun s'=>runT E call ops rest (k+1) s' as ps).bound ⟨i,k,s.ts,AV.undef,.off⟩ s.h else (RT.put s o.dst AV.undef s.h fun s'=>runT E call ops rest k s' as ps).step ⟨i,k,s.ts,AV.undef,.off⟩
     | .ask v want=>match as with
       | .b x::as=>bif x==want then (bif ik E o.op then MQ E call i k o s as ((v=x)::ps) (runT E call ops rest) else MR E i k o s as ((v=x)::ps) (runT E call ops rest))
         else (bif ik E o.op then (RT.put s o.dst AV.undef s.h fun s'=>runT E call ops rest (k+1) s' as ((v=x)::ps)).bound ⟨i,k,s.ts,AV.undef,.off⟩ s.h else (RT.put s o.dst AV.undef s.h fun s'=>runT E call ops rest k s' as ((v=x)::ps)).step ⟨i,k,s.ts,AV.undef,.off⟩)
       | _=> .bad
theorem RT.uI {x:Step} {r:RT} {tr:List Step} {hs:List ah} {s:St} {as:List oB} {ps:List Prop} (h:r.step x= .ok tr hs s as ps):∃tr',tr=x::tr'∧r= .ok tr' hs s as ps:=by
 cases r with
 | bad=>cases h
 | ok a b c d e=>cases h;exact ⟨_,rfl,rfl⟩
theorem RT.MS {x:Step} {g:ah} {r:RT} {tr:List Step} {hs:List ah} {s:St} {as:List oB} {ps:List Prop} (h:r.bound x g= .ok tr hs s as ps):∃tr' zF,tr=x::tr'∧hs=g::zF∧r= .ok tr' zF s as ps:=by
 cases r with
 | bad=>cases h
 | ok a b c d e=>cases h;exact ⟨_,_,rfl,rfl,rfl⟩
theorem Gh {ops:Array Oper}:∀(l:List Nat) (k:Nat) (s:St) (as:List oB) (ps:List Prop) (tr:List Step) (hs:List ah) (s':St) (A3:List oB) (vz:List Prop),
 runT E call ops l k s as ps= .ok tr hs s' A3 vz→ni vz→ni ps∧dM E call ops l k s= .ok tr hs s'
 | [],k,s,as,ps,tr,hs,s',A3,vz,hr,hp=>by cases hr;exact ⟨hp,rfl⟩
 | i::rest,k,s,as,ps,tr,hs,s',A3,vz,hr,hp=>by
   have ih:=Gh (ops:=ops) rest
   unfold runT at hr
   split at hr
   · cases hr
   rename_i o hi
   have hE:∀{yk:List oB} {vo:List Prop},ik E o.op=true→MQ E call i k o s yk vo (runT E call ops rest)= .ok tr hs s' A3 vz→ni vo∧(dC ops s.ts o=true→dM E call ops (i::rest) k s= .ok tr hs s'):=by
    intro yk vo he h
    unfold MQ at h
    split at h
    · rename_i x h' as2
      rw[RT.put_eq] at h
      obtain ⟨WX,xY,rfl,rfl,h9⟩:=RT.MS h
      obtain ⟨h1,h2⟩:=ih _ _ _ _ _ _ _ _ _ h9 hp
      refine ⟨h1.2,fun hw=>?_⟩
      unfold dM
      simp only[hi,he,hw,if_true,TA h1.1,h2]
      rfl
    · cases h
   have hN:∀{yk:List oB} {vo:List Prop},ik E o.op=false→MR E i k o s yk vo (runT E call ops rest)= .ok tr hs s' A3 vz→ni vo∧(dC ops s.ts o=true→dM E call ops (i::rest) k s= .ok tr hs s'):=by
    intro yk vo he h
    unfold MR at h
    split at h
    · split at h
      · rename_i v hv
        rw[RT.put_eq] at h
        obtain ⟨WX,rfl,h9⟩:=RT.uI h
        obtain ⟨h1,h2⟩:=ih _ _ _ _ _ _ _ _ _ h9 hp
        refine ⟨h1,fun hw=>?_⟩
        unfold dM
        simp only[hi,he,hw,if_true,hv,Bool.false_eq_true,if_false]
        rw[h2]
        rfl
      · cases h
    · rw[RT.put_eq] at h
      obtain ⟨WX,rfl,h9⟩:=RT.uI h
      obtain ⟨h1,h2⟩:=ih _ _ _ _ _ _ _ _ _ h9 hp
      refine ⟨h1.2,fun hw=>?_⟩
      unfold dM
      simp only[hi,he,hw,if_true,Ty h1.1,Bool.false_eq_true,if_false]
      rw[h2]
      rfl
    · rw[RT.put_eq] at h
      obtain ⟨WX,rfl,h9⟩:=RT.uI h
      obtain ⟨h1,h2⟩:=ih _ _ _ _ _ _ _ _ _ h9 hp
      refine ⟨h1.2,fun hw=>?_⟩
      unfold dM
      simp only[hi,he,hw,if_true,h1.1,Bool.false_eq_true,if_false]
      rw[h2]
      rfl
    · split at h
      · rename_i hv
        rw[RT.put_eq] at h
        obtain ⟨WX,rfl,h9⟩:=RT.uI h
        obtain ⟨h1,h2⟩:=ih _ _ _ _ _ _ _ _ _ h9 hp
        refine ⟨h1.2,fun hw=>?_⟩
        unfold dM
        simp only[hi,he,hw,if_true,hv,KG h1.1,Bool.false_eq_true,if_false]
        rw[h2]
        rfl
      · cases h
    · split at h
      · rename_i q1 q2 q3
        rw[RT.put_eq] at h
        obtain ⟨WX,rfl,h9⟩:=RT.uI h
        obtain ⟨h1,h2⟩:=ih _ _ _ _ _ _ _ _ _ h9 hp
        refine ⟨h1.2,fun hw=>?_⟩
        unfold dM
        simp only[hi,he,hw,if_true,q1,q2,q3,h1.1,Bool.false_eq_true,if_false,h2]
        rfl
      · cases h
    · split at h
      · rename_i q1 q2
        rw[RT.put_eq] at h
        obtain ⟨WX,rfl,h9⟩:=RT.uI h
        obtain ⟨h1,h2⟩:=ih _ _ _ _ _ _ _ _ _ h9 hp
        obtain ⟨⟨mk,h3,h4⟩,h5,h6⟩:=h1
        rw[Tz] at h3
        subst h4
        refine ⟨h6,fun hw=>?_⟩
        unfold dM
        simp only[hi,he,hw,if_true,q1,q2,h3,h5,Bool.false_eq_true,if_false,h2]
        rfl
      · cases h
    · cases h
   have hO:∀{yk:List oB} {vo:List Prop},(bif ik E o.op then (RT.put s o.dst AV.undef s.h fun s'=>runT E call ops rest (k+1) s' yk vo).bound ⟨i,k,s.ts,AV.undef,.off⟩ s.h else (RT.put s o.dst AV.undef s.h fun s'=>runT E call ops rest k s' yk vo).step ⟨i,k,s.ts,AV.undef,.off⟩)= .ok tr hs s' A3 vz→
    ni vo∧(dC ops s.ts o=false→dM E call ops (i::rest) k s= .ok tr hs s'):=by
    intro yk vo h
    cases he:ik E o.op with
    | true=>
      rw[he,cond_true,RT.put_eq] at h
      obtain ⟨WX,xY,rfl,rfl,h9⟩:=RT.MS h
      obtain ⟨h1,h2⟩:=ih _ _ _ _ _ _ _ _ _ h9 hp
      refine ⟨h1,fun hw=>?_⟩
      unfold dM
      simp only[hi,he,hw,if_true,Bool.false_eq_true,if_false]
      rw[h2]
      rfl
    | false=>
      rw[he,cond_false,RT.put_eq] at h
      obtain ⟨WX,rfl,h9⟩:=RT.uI h
      obtain ⟨h1,h2⟩:=ih _ _ _ _ _ _ _ _ _ h9 hp
      refine ⟨h1,fun hw=>?_⟩
      unfold dM
      simp only[hi,he,hw,Bool.false_eq_true,if_false]
      rw[h2]
      rfl
   have hY:∀{yk:List oB} {vo:List Prop},(bif ik E o.op then MQ E call i k o s yk vo (runT E call ops rest) else MR E i k o s yk vo (runT E call ops rest))= .ok tr hs s' A3 vz→
    ni vo∧(dC ops s.ts o=true→dM E call ops (i::rest) k s= .ok tr hs s'):=by
    intro yk vo h
    cases he:ik E o.op with
    | true=>rw[he] at h;exact hE he h
    | false=>rw[he] at h;exact hN he h
   have hg:=Jh ops s.ts o
   split at hr
   · rename_i h1;rw[h1] at hg;exact ⟨(hY hr).1,(hY hr).2 hg⟩
   · rename_i h1;rw[h1] at hg;exact ⟨(hO hr).1,(hO hr).2 hg⟩
   · rename_i v want h1
     rw[h1] at hg
     split at hr
     · rename_i x yk
       cases hx:x==want with
       | true=>
         rw[hx] at hr
         obtain ⟨⟨h2,h3⟩,h4⟩:=hY hr
         exact ⟨h3,h4 (by rw[hg,h2];exact hx)⟩
       | false=>
         rw[hx] at hr
         obtain ⟨⟨h2,h3⟩,h4⟩:=hO hr
         exact ⟨h3,h4 (by rw[hg,h2];exact hx)⟩
     · cases hr
noncomputable def RB (E:Env) (ops:Array Oper) (x:Step) (h:ah) (ps:List Prop):List Prop:=match x.kind with
 | .red=>match ops[x.i]? with
   | some o=>(AV.same 20 x.v x.v=true)::(Yo E x.ts h o.op=some x.v)::ps
   | none=>False::ps
 | .Qh n obj=>(∃o,h.get n=some o∧ar.same o obj=true)::ps
 | _=>ps
noncomputable def RD (E:Env) (ops:Array Oper) (x:Step):List ah→List Prop→List Prop
 | [],ps=>ps
 | h::hs,ps=>RD E ops x hs (RB E ops x h ps)
noncomputable def Bt (E:Env) (ops:Array Oper) (cB:List Nat) (an:List (List Nat)) (hs:List ah):List Step→List Prop→List Prop
 | [],ps=>ps
 | x::tr,ps=>Bt E ops cB an hs tr (RD E ops x ((hs.drop x.k).take (sG cB an x.i+1 - x.k)) ps)
theorem Vs {ops:Array Oper} {x:Step} {h:ah} {ps:List Prop} (hc:ni (RB E ops x h ps)):ni ps∧qa E ops x h=true:=by
 unfold RB at hc
 unfold qa
 split at hc
 · rename_i hk
   simp only[hk]
   split at hc
   · rename_i o ho
     have jx:ops.getD x.i default=o:=by simp [Array.getD_eq_getD_getElem?,ho]
     simp only[jx,KG hc.2.1,hc.1]
     exact ⟨hc.2.2,trivial⟩
   · exact hc.1.elim
 · rename_i n obj hk
   obtain ⟨⟨o,h1,h2⟩,h3⟩:=hc
   simp only[hk,h1,h2]
   exact ⟨h3,trivial⟩
 · rename_i h1 h2
   refine ⟨hc,?_⟩
   split
   · rename_i hk;exact absurd hk (by assumption)
   · rename_i hk;exact absurd hk (h2 _ _)
   · rfl
theorem Ji {ops:Array Oper} {x:Step}:∀(hs:List ah) (ps:List Prop),ni (RD E ops x hs ps)→ni ps∧hs.all (qa E ops x)=true
 | [],ps,hc=>⟨hc,rfl⟩
 | h::hs,ps,hc=>by
   obtain ⟨h1,h2⟩:=Ji hs _ hc
   obtain ⟨h3,h4⟩:=Vs h1
   exact ⟨h3,by simp only[List.all_cons,h4,h2,Bool.and_self]⟩
theorem D4 {ops:Array Oper} {cB:List Nat} {an:List (List Nat)} {hs:List ah}:∀(tr:List Step) (ps:List Prop),ni (Bt E ops cB an hs tr ps)→
 ni ps∧(tr.all fun x=>((hs.drop x.k).take (sG cB an x.i+1 - x.k)).all (qa E ops x))=true
 | [],ps,hc=>⟨hc,rfl⟩
 | x::tr,ps,hc=>by
   obtain ⟨h1,h2⟩:=D4 tr _ hc
   obtain ⟨h3,h4⟩:=Ji _ _ h1
   exact ⟨h3,by simp only[List.all_cons,h4,h2,Bool.and_self]⟩
noncomputable def Yp (l:List Nat) (ps:List Prop):List Prop:=match l with
 | []=>ps
 | [_]=>ps
 | l=>(nodup l=true)::ps
noncomputable def KJ (E:Env) (call:aE) (ops:Array Oper) (s:St) (as:List oB) (ps:List Prop):R:=match Fw E ops with
 | none=> .bad
 | some pl=>match runT E call ops pl.order 0 s as ps with
   | .ok tr hs s' A3 vz=> .at .normal s' A3 (Yp (J9 tr) (Bt E ops pl.cB pl.an hs tr vz))
   | .bad=> .bad
theorem Ix {ops:Array Oper} {s:St} {as:List oB} {ps:List Prop} {e:oA} {s':St} {A3:List oB} {vz:List Prop} (hr:KJ E call ops s as ps= .at e s' A3 vz) (hp:ni vz):ni ps∧IW E call ops s= .ok e s':=by
 unfold KJ at hr
 split at hr
 · cases hr
 rename_i pl U4
 split at hr
 · rename_i tr hs s1 yk vo h1
   cases hr
   have hn:ni (Bt E ops pl.cB pl.an hs tr vo)∧nodup (J9 tr)=true:=by
    unfold Yp at hp
    split at hp
    · rename_i hm;exact ⟨hp,by rw[hm];rfl⟩
    · rename_i hm;exact ⟨hp,by rw[hm];rfl⟩
    · exact ⟨hp.2,hp.1⟩
   obtain ⟨h2,h3⟩:=D4 _ _ hn.1
   obtain ⟨h4,h5⟩:=Gh _ _ _ _ _ _ _ _ _ _ h1 h2
   refine ⟨h4,?_⟩
   unfold IW
   simp only[U4,h5]
   have:CS E ops pl tr hs=true:=by
    unfold CS
    rw[hn.2,Bool.true_and]
    exact h3
   rw[if_pos this]
 · cases hr
noncomputable def run (E:Env) (call:aE):Nat→Code→St→List oB→List Prop→R
 | 0,_,_,_,_=> .bad
 | n+1,c,s,as,ps=>match c with
   | .skip=> .at .normal s as ps
   | .ret=> .at .ret s as ps
   | .exit i=> .at (.exit i) s as ps
   | .seq a b=>match run E call n a s as ps with
     | .at .normal s1 yk vo=>run E call n b s1 yk vo
     | r=>r
   | .cond x a b=>match as with
     | .b v::as=>match eW E s.ts x with
       | some (.bool u)=>bif v then run E call n a s as ((u=true)::ps) else run E call n b s as ((u=false)::ps)
       | _=> .bad
     | _=> .bad
   | .block id b=>match run E call n b s as ps with
     | .at (.exit j) s1 yk vo=>bif Nat.beq j id then .at .normal s1 yk vo else .at (.exit j) s1 yk vo
     | r=>r
   | .loop b=>match as with
     | .l e s'::as=> .at e s' as (Ev E call (.loop b) s e s'::ps)
     | _=> .bad
   | .rangeFunc f vz a b=>match as with
     | .l e s'::as=> .at e s' as (Ev E call (.rangeFunc f vz a b) s e s'::ps)
     | _=> .bad
   | .region _ ops draw=>bif draw then KJ E call ops s as ps else sN E call ops ops.toList s as ps
   | _=> .bad
theorem Jj:∀(n:Nat) (c:Code) (s:St) (as:List oB) (ps:List Prop) (e:oA) (s':St) (A3:List oB) (vz:List Prop),run E call n c s as ps= .at e s' A3 vz→ni vz→ni ps∧Ev E call c s e s'
 | 0,c,s,as,ps,e,s',A3,vz,hr,hp=>by cases hr
 | n+1,c,s,as,ps,e,s',A3,vz,hr,hp=>by
   have ih:=Jj n
   unfold run at hr
   split at hr
   · cases hr;exact ⟨hp,.of fun _=>rfl⟩
   · cases hr;exact ⟨hp,.of fun _=>rfl⟩
   · cases hr;exact ⟨hp,.of fun _=>rfl⟩
   · split at hr
     · rename_i s1 yk vo h1
       obtain ⟨h2,h3⟩:=ih _ _ _ _ _ _ _ _ hr hp
       obtain ⟨h4,h5⟩:=ih _ _ _ _ _ _ _ _ h1 h2
       exact ⟨h4,h5.seq h3⟩
     · rename_i cR
       obtain ⟨h4,h5⟩:=ih _ _ _ _ _ _ _ _ hr hp
       refine ⟨h4,h5.seq' fun he=>?_⟩
       subst he;exact cR _ _ _ hr
   · split at hr
     · rename_i v yk
       split at hr
       · rename_i u hu
         cases v with
         | true=>
           obtain ⟨⟨h1,h2⟩,n0,h3⟩:=ih _ _ _ _ _ _ _ _ hr hp
           refine ⟨h2,n0+1,fun n hn=>?_⟩
           obtain ⟨k,rfl⟩:∃k,n=k+1:=⟨n - 1,by omega⟩
           rw[Yj,hu,h1,RA];exact h3 k (by omega)
         | false=>
           obtain ⟨⟨h1,h2⟩,n0,h3⟩:=ih _ _ _ _ _ _ _ _ hr hp
           refine ⟨h2,n0+1,fun n hn=>?_⟩
           obtain ⟨k,rfl⟩:∃k,n=k+1:=⟨n - 1,by omega⟩
           rw[Yj,hu,h1,ML];exact h3 k (by omega)
       · cases hr
     · cases hr
   · split at hr
     · rename_i id b _ j s1 yk vo h1
       cases hj:Nat.beq j id with
       | true=>
         rw[hj] at hr
         cases hr
         obtain ⟨h2,n0,h3⟩:=ih _ _ _ _ _ _ _ _ h1 hp
         refine ⟨h2,n0+1,fun n hn=>?_⟩
         obtain ⟨k,rfl⟩:∃k,n=k+1:=⟨n - 1,by omega⟩
         rw[KA,h3 k (by omega),DZ,if_pos (Nat.eq_of_beq_eq_true hj)]
       | false=>
         rw[hj] at hr
         cases hr
         obtain ⟨h2,n0,h3⟩:=ih _ _ _ _ _ _ _ _ h1 hp
         refine ⟨h2,n0+1,fun n hn=>?_⟩
         obtain ⟨k,rfl⟩:∃k,n=k+1:=⟨n - 1,by omega⟩
         rw[KA,h3 k (by omega),DZ,if_neg (Nat.ne_of_beq_eq_false hj)]
     · rename_i id b _ cR
       obtain ⟨h2,n0,h3⟩:=ih _ _ _ _ _ _ _ _ hr hp
       refine ⟨h2,n0+1,fun n hn=>?_⟩
       obtain ⟨k,rfl⟩:∃k,n=k+1:=⟨n - 1,by omega⟩
       rw[KA,h3 k (by omega)]
       cases e with
       | exit j=>exact absurd hr (cR _ _ _ _)
       | _=>rfl
   · split at hr
     · cases hr;exact ⟨hp.2,hp.1⟩
     · cases hr
   · split at hr
     · cases hr;exact ⟨hp.2,hp.1⟩
     · cases hr
   · rename_i i ops draw
     cases draw with
     | true=>
       simp only[cond_true] at hr
       obtain ⟨h1,h2⟩:=Ix hr hp
       exact ⟨h1,.of fun n=>by rw[acm];exact h2⟩
     | false=>
       simp only[cond_false] at hr
       obtain ⟨h1,h2⟩:=Bs _ _ _ _ _ _ _ _ hr hp
       exact ⟨h1,.of fun n=>by rw[Yl];exact h2⟩
   · cases hr
theorem As {n:Nat} {c:Code} {s:St} {al:List oB} {e:oA} {s':St} {ps:List Prop} (hr:run E call n c s al []= .at e s' [] ps) (hp:ni ps):Ev E call c s e s':=(Jj _ _ _ _ _ _ _ _ _ hr hp).2
theorem cT {tmpl:(Nat→AV)→List AV} {c:Code} {s:St} {e:oA} {h:ah} {ds:List cC} {rc:RC} {L:List AV} (ev:Ev E call c s e ⟨L,h,ds,rc⟩) (hl:L=tmpl fun k=>L.getD k AV.undef):∃y,Ev E call c s e ⟨tmpl y,h,ds,rc⟩:=by
 refine ⟨fun k=>L.getD k AV.undef,?_⟩
 rw[←hl];exact ev
theorem tg {tmpl:(Nat→AV)→List AV} {b:Code} {s s':St} {h:ah} {ds:List cC} {rc:RC} {L:List AV} {e:oA} (ev:Ev E call b s .normal ⟨L,h,ds,rc⟩) (hl:L=tmpl fun k=>L.getD k AV.undef) (ih:Ev E call (.loop b) ⟨tmpl fun k=>L.getD k AV.undef,h,ds,rc⟩ e s'):Ev E call (.loop b) s e s':=by
 rw[←hl] at ih
 exact ev.loop ih
theorem bO {tin tout:(Nat→AV)→List AV} {b:Code} {s:St} {h h':ah} {ds:List cC} {rc:RC} {L:List AV} {e:oA} (ev:Ev E call b s .normal ⟨L,h,ds,rc⟩) (hl:L=tin fun k=>L.getD k AV.undef) (ih:∀x,∃y,Ev E call (.loop b) ⟨tin x,h,ds,rc⟩ e ⟨tout y,h',ds,rc⟩):
 ∃y,Ev E call (.loop b) s e ⟨tout y,h',ds,rc⟩:=by
 obtain ⟨y,h1⟩:=ih fun k=>L.getD k AV.undef
 exact ⟨y,tg ev hl h1⟩
theorem dj {tin tout:(Nat→AV)→List AV} {b:Code} {s:St} {h:ah} {ds:List cC} {rc:RC} {L:List AV} {e:oA} {Q:ah→Prop} (ev:Ev E call b s .normal ⟨L,h,ds,rc⟩) (hl:L=tin fun k=>L.getD k AV.undef)
 (ih:∀x,∃h',(∃y,Ev E call (.loop b) ⟨tin x,h,ds,rc⟩ e ⟨tout y,h',ds,rc⟩)∧Q h'):∃h',(∃y,Ev E call (.loop b) s e ⟨tout y,h',ds,rc⟩)∧Q h':=by
 obtain ⟨h',⟨y,h1⟩,h2⟩:=ih fun k=>L.getD k AV.undef
 exact ⟨h',⟨y,tg ev hl h1⟩,h2⟩
theorem Jk {tin tout:(Nat→AV)→List AV} {c:Code} {h h':ah} {ds:List cC} {rc:RC} {L:List AV} {e:oA} (ih:∀x,∃y,Ev E call c ⟨tin x,h,ds,rc⟩ e ⟨tout y,h',ds,rc⟩) (hl:L=tin fun k=>L.getD k AV.undef):
 ∃y,Ev E call c ⟨L,h,ds,rc⟩ e ⟨tout y,h',ds,rc⟩:=by
 rw[hl];exact ih _
theorem Gj {tin:(Nat→AV)→List AV} {h:ah} {ds:List cC} {rc:RC} {L:List AV} {P:St→Prop} (ih:∀x,P ⟨tin x,h,ds,rc⟩) (hl:L=tin fun k=>L.getD k AV.undef):P ⟨L,h,ds,rc⟩:=by
 rw[hl];exact ih _
theorem acB {f:FuncId} {fn:Func} {c:Code} (hf:E.P.funcs[f]? =some fn) (hb:fn.body=some c) {args:List AV} {h h':ah} {ts:List AV} {x:oA} (hx:x= .normal∨x= .ret)
 (e:Ev E call c ⟨args++List.replicate (fn.ntmps - args.length) AV.undef,h,[],.no⟩ x ⟨ts,h',[],.no⟩) {vs:List AV} (hr:qb E h' ts fn.results.toList=some vs):∃n0,∀n,n0≤n→DX E call n f args h= .ret (nD vs) h':=by
 obtain ⟨n0,e⟩:=e
 exact ⟨n0,fun n hn=>Vp hf hb hx (e n hn) hr⟩
def mz (E:Env) (call:aE) (f:FuncId) (args:List AV) (h:ah) (v:AV) (h':ah):Prop:=∃n0,∀n,n0≤n→DX E call n f args h= .ret v h'
theorem az {f:FuncId} {fn:Func} {c:Code} {args ts0 ts:List AV} {h h':ah} {x:oA} {v:AV} (hf:E.P.funcs[f]? =some fn) (hb:fn.body=some c) (ht:args++List.replicate (fn.ntmps - args.length) AV.undef=ts0) (hx:x= .normal∨x= .ret)
 (e:Ev E call c ⟨ts0,h,[],.no⟩ x ⟨ts,h',[],.no⟩) (hr:(qb E h' ts fn.results.toList).map nD=some v):mz E call f args h v h':=by
 subst ht
 cases hv:qb E h' ts fn.results.toList with
 | none=>rw[hv] at hr;cases hr
 | some vs=>
   rw[hv] at hr
   obtain rfl:nD vs=v:=Option.some.inj hr
   exact acB hf hb hx e hv
theorem bn {f:FuncId} {fn:Func} {c:Code} {args ts0 ts:List AV} {h h':ah} {x:oA} {v:AV} {a:Tmp} {t:TypeId} {i:Nat} (hf:E.P.funcs[f]? =some fn) (hb:fn.body=some c) (ht:args++List.replicate (fn.ntmps - args.length) AV.undef=ts0) (hx:x= .normal∨x= .ret)
 (e:Ev E call c ⟨ts0,h,[],.no⟩ x ⟨ts,h',[],.no⟩) (hrs:(fn.results.toList,ts.getD a AV.undef)=([.cell a t],AV.ptr i 0)) (hl:bk E h' t (.ptr i 0)=some v):mz E call f args h v h':=by
 refine az hf hb ht hx e ?_
 rw[show fn.results.toList=[.cell a t] from congrArg Prod.fst hrs]
 simp only[qb,show ts.getD a AV.undef= .ptr i 0 from congrArg Prod.snd hrs,hl,Option.map_some]
 rfl
end Go.Ab
end
section
namespace Go.Ab
variable {E:Env}
theorem Au {t:TypeId} {c d:Bool} {k:IntKind} {a b z:Int} (h:k.wrap (a+b)=z):aI E .add t c d (some (.int k a)) (some (.int k b))=some (.int k z):=by rw[KB,h]
theorem Gm {t:TypeId} {c d:Bool} {k:IntKind} {a b z:Int} (h:k.wrap (a - b)=z):aI E .sub t c d (some (.int k a)) (some (.int k b))=some (.int k z):=by rw[KC,h]
theorem Av {t:TypeId} {c d:Bool} {k:IntKind} {a b z:Int} (h:k.wrap (a*b)=z):aI E .mul t c d (some (.int k a)) (some (.int k b))=some (.int k z):=by rw[KD,h]
theorem Aw {t:TypeId} {c d:Bool} {k:IntKind} {a b z:Int} (hb:b≠0) (h:k.wrap (a.tdiv b)=z):aI E .quo t c d (some (.int k a)) (some (.int k b))=some (.int k z):=by rw[acw _ _ _ _ _ _ hb,h]
theorem Ax {t:TypeId} {c d:Bool} {k:IntKind} {a b z:Int} (hb:b≠0) (h:a.tmod b=z):aI E .rem t c d (some (.int k a)) (some (.int k b))=some (.int k z):=by simp [aI,pX,j2,hb,h]
theorem Yq (k:IntKind) (n:Int):AV.scalar (.int k n)=true:=rfl
theorem TB (b:Bool):AV.scalar (.bool b)=true:=rfl
theorem Yr (b:List UInt8):AV.scalar (.str b)=true:=rfl
theorem Ys (i o:Nat):AV.scalar (.ptr i o)=true:=rfl
theorem MT (i o n c:Nat) (b:Bool):AV.scalar (.slice i o n c b)=true:=rfl
theorem ad7:AV.scalar .ax=true:=rfl
theorem ad8:AV.scalar .gf=true:=rfl
theorem ad9:AV.scalar .eZ=true:=rfl
theorem aea:AV.scalar .nilFunc=true:=rfl
theorem aeb:AV.scalar .nilIface=true:=rfl
theorem Yt (i:Nat):AV.scalar (.map i)=true:=rfl
theorem aN {h:ah} {t:TypeId} {i o:Nat} {cs:List AV} {e:TypeId} {ro:Bool} {v:AV} (hg:h.get i=some (.cells cs e ro)) (hv:jX E t cs o=some v):bk E h t (.ptr i o)=some v:=by
 simp only[bk,hg,hv]
theorem bU {h h':ah} {o:ar} (n:h.new o=some h'):h'.get h.nx=some o:=(ah.nX n).2.2.1
theorem cW {h h':ah} {o:ar} (n:h.new o=some h'):h'.nx=h.nx+1:=(ah.nX n).2.1
theorem b6 {h h':ah} {o x:ar} {i:Nat} (y:Tidy h) (n:h.new o=some h') (g:h.get i=some x):h'.get i=some x:=by
 have:=y i x g
 rw[(ah.nX n).2.2.2 i (by omega)];exact g
theorem bu {h h':ah} {o:ar} (y:Tidy h) (n:h.new o=some h'):Has h h':=fun _ _ g=>b6 y n g
theorem bI {h h':ah} {o:ar} (y:Tidy h) (n:h.new o=some h'):Tidy h':=fun i x g=>by
 obtain ⟨_,h2,h3,h4⟩:=ah.nX n
 by_cases hx:i=h.nx
 · omega
 · rw[h4 i hx] at g;have:=y i x g;omega
theorem eH {h:ah} (o:ar):∃h',h.new o=some h':=⟨_,ah.Tg _ _⟩
theorem mA {h:ah} {t e:TypeId} {i o n:Nat} {cs:List AV} {v:AV} (g:h.get i=some (.cells cs e false)) (hs:bK E t=some n) (hv:v.cells.length=n) (ho:o+n≤cs.length) (hk:v.cells.all AV.scalar=true):∃h',ch E h t (.ptr i o) v=some h':=by
 refine ⟨h.put i (some (.cells (setFrom cs o v.cells) e false)),?_⟩
 simp only[ch,g,hs]
 rw[if_pos ⟨hv,ho,hk⟩]
theorem Bu {h h':ah} {t e:TypeId} {i o:Nat} {cs:List AV} {v:AV} (s:ch E h t (.ptr i o) v=some h') (g:h.get i=some (.cells cs e false)):h'=h.put i (some (.cells (setFrom cs o v.cells) e false)):=by
 simp only[ch,g] at s
 split at s
 · rename_i h1 _
   cases h1
   split at s
   · exact (Option.some.inj s).symm
   · cases s
 · cases s
theorem jP {h h':ah} {t e:TypeId} {i o:Nat} {cs:List AV} {v:AV} (y:Tidy h) (s:ch E h t (.ptr i o) v=some h') (g:h.get i=some (.cells cs e false)):h'.get i=some (.cells (setFrom cs o v.cells) e false):=by
 rw[Bu s g]
 have:=y i _ g
 exact ah.eF _
theorem gX {h h':ah} {t e:TypeId} {i j o:Nat} {cs:List AV} {v:AV} {x:ar} (y:Tidy h) (s:ch E h t (.ptr i o) v=some h') (g:h.get i=some (.cells cs e false)) (hj:j≠i) (gx:h.get j=some x):h'.get j=some x:=by
 rw[Bu s g]
 have:=y i _ g
 rw[ah.bZ (Ne.symm hj)];exact gx
theorem kq {h h':ah} {t e:TypeId} {i o:Nat} {cs:List AV} {v:AV} (s:ch E h t (.ptr i o) v=some h') (g:h.get i=some (.cells cs e false)):h'.nx=h.nx:=by
 rw[Bu s g];exact ah.afq _ _ _
theorem iU {h h':ah} {t e:TypeId} {i o:Nat} {cs:List AV} {v:AV} (y:Tidy h) (s:ch E h t (.ptr i o) v=some h') (g:h.get i=some (.cells cs e false)):Tidy h':=fun j x gj=>by
 have hi:=y i _ g
 rw[kq s g]
 by_cases hx:j=i
 · omega
 · rw[Bu s g,ah.bZ (Ne.symm hx)] at gj
   exact y j x gj
theorem yn {h0 h h':ah} {t e:TypeId} {i o:Nat} {cs:List AV} {v:AV} (a:Has h0 h) (y0:Tidy h0) (y:Tidy h) (s:ch E h t (.ptr i o) v=some h') (g:h.get i=some (.cells cs e false)) (hi:h0.nx≤i):Has h0 h':=fun j x gj=>by
 have:=y0 j x gj
 exact gX y s g (by omega) (a j x gj)
def nj (h h':ah) (b:Nat) (o:ar):Prop:=Tidy h'∧h'.get b=some o∧∀i x,i≠b→h.get i=some x→h'.get i=some x
theorem nj.has {h0 h h':ah} {b:Nat} {o:ar} (c:nj h h' b o) (a:Has h0 h) (y:Tidy h0) (hb:h0.nx≤b):Has h0 h':=fun i x g=>by
 have:=y i x g
 exact c.2.2 i x (by omega) (a i x g)
theorem KL {h h':ah} {src dst e:TypeId} {s:List UInt8} {v:AV} (h1:E.P.underlying src=some .string) (h2:E.P.underlying dst=some (.slice e)) (h3:E.P.underlying e=some (.int .u8)) (h4:bK E e=some 1)
 (n:h.new (.cells (s.map fun b=> .int .u8 b.toNat) e false)=some h') (hv:v= .slice h.nx 0 s.length s.length true):zD E h src dst (some (.str s))=some (v,h'):=by
 simp only[zD,h1,h2,h3,n,h4,if_true,hv]
end Go.Ab
end
section
namespace Go.Ab
variable {E:Env}
theorem dT {p:Prop} [Decidable p] (h:p):decide p=true:=decide_eq_true h
theorem dF {p:Prop} [Decidable p] (h:¬p):decide p=false:=decide_eq_false h
theorem nT {p:Prop} [Decidable p] (h:¬p):(!decide p)=true:=by rw[decide_eq_false h];rfl
theorem nF {p:Prop} [Decidable p] (h:p):(!decide p)=false:=by rw[decide_eq_true h];rfl
theorem fK {l:List Nat} {k:Nat} (h:k<l.length):l[k]? =some (l.getD k 0):=by simp [List.getD_eq_getElem?_getD,List.getElem?_eq_getElem h]
def aY:Code→List Code
 | .seq a b=>aY a++aY b
 | .cond _ a b=>aY a++aY b
 | .block _ b=>aY b
 | .loop b=>b::aY b
 | .scope b=>aY b
 | .rangeFunc _ _ _ b=>b::aY b
 | _=> []
structure yp (E:Env) (h:ah) (e:TypeId) (n:Nat) (av:AV) (len:Nat) (cs:List AV):Prop where
 size:bK E e=some n
 cells:cs.length=len*n
 small:len<2^60
 lens:dO (some (.slice e)) (some av)=some (.int .i64 (len:Nat))
 block:len=0∨∃p o m c b C f ro,av= .slice p o m c b∧m≤c∧h.get p=some (.cells C f ro)∧(∀j,j<cs.length→C[o+j]? =cs[j]?)
theorem yp.has {h h':ah} {e:TypeId} {n:Nat} {av:AV} {len:Nat} {cs:List AV} (x:yp E h e n av len cs) (hh:Has h h'):yp E h' e n av len cs:=
 ⟨x.size,x.cells,x.small,x.lens,x.block.imp id fun ⟨p,o,m,c,b,C,f,ro,h1,h0,h2,h3⟩=>⟨p,o,m,c,b,C,f,ro,h1,h0,hh _ _ h2,h3⟩⟩
theorem yp.elem {h:ah} {e:TypeId} {av:AV} {len:Nat} {cs:List AV} (x:yp E h e 1 av len cs) (ha:iS E e=some false) {i:Nat} {v:AV} (hv:cs[i]? =some v):
 ∃p q,bq E (some (.slice e)) (some av) (some (.int .i64 (i:Nat)))=some (.ptr p q)∧bk E h e (.ptr p q)=some v:=by
 have hi:=(List.getElem?_eq_some_iff.1 hv).1
 have hl:cs.length=len:=by rw[x.cells,Nat.mul_one]
 rcases x.block with h0 | ⟨p,o,m,c,b,C,f,ro,h1,_,h2,h3⟩
 · omega
 · subst h1
   have hm:m=len:=by
    have:=x.lens
    rw[F_] at this
    simp only[Option.some.injEq,AV.int.injEq,true_and] at this
    omega
   refine ⟨p,o+i*1,uH x.size (by omega),?_⟩
   simp only[bk,h2,jX,ha,Nat.mul_one]
   rw[h3 i hi,hv]
def aA (k:IntKind) (l:List Nat):List AV:=l.map fun (n:Nat)=> .int k (n:Int)
structure ao (E:Env) (h:ah) (k:IntKind) (e:TypeId) (av:AV) (l:List Nat):Prop where
 at_:yp E h e 1 av l.length (aA k l)
 agg:iS E e=some false
 known:av= .ax∨∃p o n c b,av= .slice p o n c b∧(b=true→0<c)
theorem dP {k:IntKind} {l:List Nat} {i:Nat} {z:Nat} (h:l[i]? =some z):(aA k l)[i]? =some (.int k (z:Int)):=by simp [aA,h]
theorem ao.elem {h:ah} {k:IntKind} {e:TypeId} {av:AV} {l:List Nat} (x:ao E h k e av l) {i:Nat} {z:Nat} (hz:l[i]? =some z):
 ∃p q,bq E (some (.slice e)) (some av) (some (.int .i64 (i:Nat)))=some (.ptr p q)∧bk E h e (.ptr p q)=some (.int k (z:Int)):=x.at_.elem x.agg (dP hz)
theorem ao.len {h:ah} {k:IntKind} {e:TypeId} {av:AV} {l:List Nat} (x:ao E h k e av l):dO (some (.slice e)) (some av)=some (.int .i64 (l.length:Nat)):=x.at_.lens
theorem ao.has {h h':ah} {k:IntKind} {e:TypeId} {av:AV} {l:List Nat} (x:ao E h k e av l) (hh:Has h h'):ao E h' k e av l:=⟨x.at_.has hh,x.agg,x.known⟩
theorem aM (k:IntKind) (l:List Nat):(aA k l).length=l.length:=by simp [aA]
theorem ao.small {h:ah} {k:IntKind} {e:TypeId} {av:AV} {l:List Nat} (x:ao E h k e av l):l.length<2^60:=x.at_.small
def mj (p:Nat) (av:AV):Prop:=∀o n c b,av≠ .slice p o n c b
theorem ao.of {h:ah} {k:IntKind} {e:TypeId} {l:List Nat} {p o c:Nat} {b:Bool} {C:List AV} {f:TypeId} {ro:Bool} (hs:bK E e=some 1) (ha:iS E e=some false) (hl:l.length<2^60) (hc:l.length≤c) (hb:b=true→0<c) (hg:h.get p=some (.cells C f ro))
 (hv:∀(i:Nat) z,l[i]? =some z→C[o+i]? =some (.int k (z:Int))):ao E h k e (.slice p o l.length c b) l:=
 ⟨⟨hs,by rw[aM];omega,hl,rfl,.inr ⟨p,o,_,c,b,C,f,ro,rfl,hc,hg,fun j hj=>by
   rw[aM] at hj
   rw[hv j l[j] (List.getElem?_eq_getElem hj),dP (List.getElem?_eq_getElem hj)]⟩⟩,ha,.inr ⟨p,o,_,c,b,rfl,hb⟩⟩
theorem ao.nil {h:ah} {k:IntKind} {e:TypeId} (hs:bK E e=some 1) (ha:iS E e=some false):ao E h k e .ax []:=
 ⟨⟨hs,rfl,by decide,rfl,.inl rfl⟩,ha,.inl rfl⟩
theorem ao.inv {h:ah} {k:IntKind} {e:TypeId} {l:List Nat} {p o n c:Nat} {b:Bool} (x:ao E h k e (.slice p o n c b) l):n=l.length∧(l≠ []→l.length≤c∧∃C f ro,h.get p=some (.cells C f ro)∧∀(i:Nat) z,l[i]? =some z→C[o+i]? =some (.int k (z:Int))):=by
 have hn:n=l.length:=by
  have:=x.len
  rw[F_] at this
  simp only[Option.some.injEq,AV.int.injEq,true_and] at this
  omega
 refine ⟨hn,fun cR=>?_⟩
 rcases x.at_.block with h0 | ⟨p',o',m,c',b',C,f,ro,h1,h0,h2,h3⟩
 · exact absurd (List.length_eq_zero_iff.1 h0) cR
 · cases h1
   refine ⟨by omega,C,f,ro,h2,fun i z hz=>?_⟩
   rw[h3 i (by rw[aM];exact (List.getElem?_eq_some_iff.1 hz).1),dP hz]
theorem ao.chg {h h':ah} {k:IntKind} {e:TypeId} {av:AV} {l:List Nat} {p:Nat} {o:ar} (x:ao E h k e av l) (c:nj h h' p o) (ho:mj p av):ao E h' k e av l:=by
 refine ⟨⟨x.at_.size,x.at_.cells,x.at_.small,x.at_.lens,x.at_.block.imp id fun ⟨p',o',m,c',b,C,f,ro,h1,h0,h2,h3⟩=>⟨p',o',m,c',b,C,f,ro,h1,h0,c.2.2 p' _ (fun e=>?_) h2,h3⟩⟩,x.agg,x.known⟩
 subst e
 exact ho _ _ _ _ h1
theorem iv {len cap lo hi:Nat} (low high:Option AV) (hl:low=some (.int .i64 (lo:Nat))∨(low=none∧lo=0)) (hh:high=some (.int .i64 (hi:Nat))∨(high=none∧hi=len)) (h1:lo≤hi) (h2:hi≤cap):rT len cap low high none=some (lo,hi,cap):=by
 have b:∀(x y:Nat),x≤y→z8 (.int .i64 (x:Nat)) y=some x:=fun x y h=>by
  simp only[z8]
  rw[if_pos ⟨by omega,by omega⟩,Int.toNat_natCast]
 unfold rT
 rcases hh with rfl | ⟨rfl,rfl⟩<;>rcases hl with rfl | ⟨rfl,rfl⟩<;>simp [b,h1,h2]
theorem ao.slice {h:ah} {k:IntKind} {e t:TypeId} {av:AV} {l:List Nat} (x:ao E h k e av l) (ht:E.P.underlying t=some (.slice e)) {lo hi:Nat} (low high:Option AV) (hl:low=some (.int .i64 (lo:Nat))∨(low=none∧lo=0)) (hh:high=some (.int .i64 (hi:Nat))∨(high=none∧hi=l.length)) (h1:lo≤hi) (h2:hi≤l.length) (h3:l.length=0∨lo<l.length):
 ∃r,aZ E t av low high none=some r∧ao E h k e r ((l.take hi).drop lo)∧∀p,mj p av→mj p r:=by
 rcases x.known with rfl | ⟨p,o,n,c,b,rfl,hb⟩
 · have I2:l.length=0:=by
    have:=x.len
    rw[nZ] at this
    simp only[Option.some.injEq,AV.int.injEq,true_and] at this
    omega
   obtain rfl:=List.length_eq_zero_iff.1 I2
   simp only[List.length_nil] at *
   have E8:hi=0:=by omega
   subst E8
   have DM:lo=0:=by omega
   subst DM
   refine ⟨.ax,?_,by simpa using x,fun p hp=>hp⟩
   simp only[aZ,ht,x.at_.size,iv (len:=0) (cap:=0) low high hl hh (Nat.le_refl 0) (Nat.le_refl 0)]
 · obtain ⟨rfl,hx⟩:=x.inv
   have hlc:l.length≤c:=by
    by_cases cR:l=[]
    · subst cR;exact Nat.zero_le _
    · exact (hx cR).1
   have hr:∃o' c',aZ E t (.slice p o l.length c b) low high none=some (.slice p o' (hi - lo) c' b)∧(b=true→0<c')∧hi - lo≤c'∧(hi - lo≠0→o'=o+lo):=by
    simp only[aZ,ht,x.at_.size,hlc,if_true,iv (len:=l.length) (cap:=c) low high hl hh h1 (by omega)]
    by_cases hm:c=lo
    · have hb0:b=false:=by
       cases b with
       | false=>rfl
       | true=>have:=hb rfl;omega
      subst hb0
      rw[if_pos hm]
      exact ⟨o,c - lo,rfl,by simp,by omega,fun h=>by omega⟩
    · rw[if_neg hm]
      refine ⟨o+lo*1,c - lo,by simp,fun h=>by omega,by omega,fun h=>by omega⟩
   obtain ⟨o',c',e1,e2,e3,e4⟩:=hr
   refine ⟨_,e1,?_,fun q hq o' n' c' b' he=>by cases he;exact hq _ _ _ _ rfl⟩
   have hlen:((l.take hi).drop lo).length=hi - lo:=by simp;omega
   rw[←hlen]
   by_cases h0:hi - lo=0
   · have:(l.take hi).drop lo=[]:=List.length_eq_zero_iff.1 (by omega)
     rw[this]
     exact ⟨⟨x.at_.size,rfl,by decide,rfl,.inl rfl⟩,x.agg,.inr ⟨_,_,_,_,_,rfl,e2⟩⟩
   · have cR:l≠ []:=fun e=>by subst e;simp at h2;omega
     obtain ⟨_,C,f,ro,g1,g2⟩:=hx cR
     refine ao.of x.at_.size x.agg (by have:=x.small;omega) (by omega) e2 g1 fun i z hz=>?_
     have Im:i<hi - lo:=by rw[←hlen];exact (List.getElem?_eq_some_iff.1 hz).1
     rw[e4 h0,Nat.add_assoc]
     apply g2
     rw[List.getElem?_drop,List.getElem?_take_of_lt (by omega)] at hz
     exact hz
theorem mB:∀(vs:List AV) (C:List AV) (o:Nat) (v:AV),setFrom C o (vs++[v])=(setFrom C o vs).set (o+vs.length) v
 | [],C,o,v=>rfl
 | x::vs,C,o,v=>by
   show setFrom (C.set o x) (o+1) (vs++[v])=(setFrom (C.set o x) (o+1) vs).set (o+(vs.length+1)) v
   rw[mB vs,show o+1+vs.length=o+(vs.length+1) by omega]
theorem zK:∀(vs:List AV) (C:List AV) (o j:Nat) (v:AV),j<o→(setFrom C o vs).set j v=setFrom (C.set j v) o vs
 | [],C,o,j,v,_=>rfl
 | x::vs,C,o,j,v,h=>by
   show (setFrom (C.set o x) (o+1) vs).set j v=setFrom ((C.set j v).set o x) (o+1) vs
   rw[zK vs _ _ _ _ (by omega),List.set_comm _ _ (by omega)]
theorem KM (vs:List AV) (C:List AV) (o:Nat) (v:AV):(setFrom C (o+1) vs).set o v=setFrom C o (v::vs):=by
 rw[zK _ _ _ _ _ (by omega)];rfl
theorem th (k:IntKind) (l:List Nat) (z:Nat):aA k (l++[z])=aA k l++[.int k (z:Int)]:=by simp [aA]
theorem nj.refl {h:ah} {p:Nat} {o:ar} (y:Tidy h) (g:h.get p=some o):nj h h p o:=⟨y,g,fun _ _ _ g=>g⟩
theorem nj.trans {h1 h2 h3:ah} {p:Nat} {o1 o2:ar} (a:nj h1 h2 p o1) (b:nj h2 h3 p o2):nj h1 h3 p o2:=⟨b.1,b.2.1,fun i x hi g=>b.2.2 i x hi (a.2.2 i x hi g)⟩
structure EL (h:ah) (av:AV) (p o n:Nat) (C:List AV) (f:TypeId):Prop where
 is:∃c b,av= .slice p o n c b∧n≤c
 get:h.get p=some (.cells C f false)
 fits:o+n≤C.length
theorem EL.idx {h:ah} {av:AV} {p o n:Nat} {C:List AV} {f e:TypeId} (w:EL h av p o n C f) (hs:bK E e=some 1) {i:Nat} (hi:i<n):bq E (some (.slice e)) (some av) (some (.int .i64 (i:Nat)))=some (.ptr p (o+i)):=by
 obtain ⟨c,b,rfl,_⟩:=w.is
 rw[uH hs hi,Nat.mul_one]
theorem EL.slice {h:ah} {av:AV} {p o n:Nat} {C:List AV} {f e t:TypeId} (w:EL h av p o n C f) (hs:bK E e=some 1) (ht:E.P.underlying t=some (.slice e)) {lo hi:Nat} (low high:Option AV) (hl:low=some (.int .i64 (lo:Nat))∨(low=none∧lo=0)) (hh:high=some (.int .i64 (hi:Nat))∨(high=none∧hi=n)) (h1:lo≤hi) (h2:hi≤n) (h3:lo<n):
 ∃r,aZ E t av low high none=some r∧EL h r p (o+lo) (hi - lo) C f:=by
 obtain ⟨c,b,rfl,hc⟩:=w.is
 have:=w.fits
 refine ⟨.slice p (o+lo) (hi - lo) (c - lo) b,?_,⟨⟨_,_,rfl,by omega⟩,w.get,by omega⟩⟩
 simp only[aZ,ht,hs,hc,if_true,iv (len:=n) (cap:=c) low high hl hh h1 (by omega)]
 rw[if_neg (by omega)]
 simp
def Holds (k:IntKind) (C:List AV) (o:Nat) (l:List Nat):Prop:=∀(i z:Nat),l[i]? =some z→C[o+i]? =some (.int k (z:Int))
theorem Holds.behind {k:IntKind} {C:List AV} {o:Nat} {l ws:List Nat} (x:Holds k C o l) {i z:Nat} (hi:ws.length≤i) (hz:l[i]? =some z):(setFrom C o (aA k ws))[o+i]? =some (.int k (z:Int)):=by
 rw[fV,if_neg (by rw[aM];omega)]
 exact x i z hz
theorem EL.load {h:ah} {av:AV} {p o n:Nat} {C:List AV} {f e:TypeId} {i:Nat} {v:AV} (w:EL h av p o n C f) (ha:iS E e=some false) (hv:C[o+i]? =some v):bk E h e (.ptr p (o+i))=some v:=by
 simp only[bk,w.get,jX,ha,hv]
theorem Holds.of {k:IntKind} {C:List AV} {o:Nat} {l:List Nat} (hf:o+l.length≤C.length):Holds k (setFrom C o (aA k l)) o l:=fun i z hz=>by
 have hi:=(List.getElem?_eq_some_iff.1 hz).1
 rw[fV,if_pos ⟨by omega,by rw[aM];omega,by omega⟩,Nat.add_sub_cancel_left,dP hz]
end Go.Ab
end
section
namespace Go.Ab
variable {E:Env} {M0:Fa.MJ}
theorem mz.unique {call:aE} {f:FuncId} {args:List AV} {h h1 h2:ah} {v1 v2:AV} (a:mz E call f args h v1 h1) (b:mz E call f args h v2 h2):v1=v2∧h1=h2:=by
 obtain ⟨n,a⟩:=a
 obtain ⟨m,b⟩:=b
 have:=(a (n+m) (by omega)).symm.trans (b (n+m) (by omega))
 simpa using this
def AV.within (nx:Nat):Nat→AV→Bool
 | 0,_=>false
 | n+1,x=>match x with
   | .bool _ | .int .. | .str _ | .gf | .ax | .eZ | .nilFunc | .nilIface | .im=>true
   | .ptr i _=>decide (i<nx)
   | .slice i _ _ _ _=>decide (i<nx)
   | .map i=>decide (i<nx)
   | .iface _ v=>AV.within nx n v
   | .agg cs=>cs.all (AV.within nx n)
   | .tuple cs=>cs.all (AV.within nx n)
   | _=>false
theorem VR.within {φ φ':Ph} {nx:Nat} (ho:∀i,i<nx→φ' i=φ i):∀(n:Nat) {x:AV} (_:AV.within nx n x=true) {y:Value},VR φ' x y→VR φ x y
 | 0,_,h,_,_=>by cases h
 | n+1,x,h,y,hv=>by
   have ih:= @VR.within φ φ' nx ho n
   cases hv with
   | bool b=>exact .bool b
   | int k m=>exact .int k m
   | str s=>exact .str s
   | gf=>exact .gf
   | ax=>exact .ax
   | eZ=>exact .eZ
   | nilFunc=>exact .nilFunc
   | nilIface=>exact .nilIface
   | im a c=>exact .im a c
   | ptr o hl=>rw[ho _ (of_decide_eq_true h)] at hl;exact .ptr o hl
   | slice o len cap op hl=>rw[ho _ (of_decide_eq_true h)] at hl;exact .slice o len cap op hl
   | map hl=>rw[ho _ (of_decide_eq_true h)] at hl;exact .map hl
   | iface t v v' h'=>exact .iface t v v' (ih (by simpa [AV.within] using h) h')
   | agg cs i_ hl hc=>
     refine .agg cs i_ hl fun i x y a b=>ih ?_ (hc i x y a b)
     simp only[AV.within,List.all_eq_true] at h
     exact h x (List.mem_of_getElem? a)
   | tuple cs i_ hl hc=>
     refine .tuple cs i_ hl fun i x y a b=>ih ?_ (hc i x y a b)
     simp only[AV.within,List.all_eq_true] at h
     exact h x (List.mem_of_getElem? a)
   | _=>cases h
theorem iN.TC {f:FuncId} {args:List AV} {h h':ah} {v:AV} (r:iN E f args h v h') (hs:Has h h') (hv:AV.within h.nx 20 v=true):iN E f args h v h:=fun φ w vs ok hl=>by
 obtain ⟨h1,h2⟩:=r φ w vs ok hl
 refine ⟨h1,fun cs=>?_⟩
 obtain ⟨φ',w',v',fr,x1,x2,x3,x4⟩:=h2 cs
 exact ⟨φ,w',v',fr,x1.within x3.old 20 hv,ok.forget x3.ext x2 hs,x3.forget,x4⟩
open Classical in
noncomputable def gE (E:Env) (M0:Fa.MJ):Nat→aE
 | 0=>F9 M0
 | d+1=>fun F args h=>match F with
   | .Ik _=> .fail "" none
   | .fn f=>match M0 f args h with
     | some p=> .ret p.1 p.2
     | none=>
       if hx:∃v,∃h',mz E (gE E M0 d) f args h v h'∧Has h h'∧AV.within h.nx 20 v=true then .ret hx.choose h
       else if hy:∃p:AV×ah,mz E (gE E M0 d) f args h p.1 p.2 then .ret hy.choose.1 hy.choose.2 else .fail "" none
theorem Gn (hE:jZ E) (hM:Fa.Kz E M0):∀d,iu E (gE E M0 d)
 | 0=>Vq hM
 | d+1=>by
   have ih:=Gn hE hM d
   have key:∀{f:FuncId} {args:List AV} {h:ah} {o:z_},gE E M0 (d+1) (.fn f) args h=o→(∃v h',o= .ret v h'∧iN E f args h v h')∨o= .fail "" none:=by
    intro f args h o e
    simp only[gE] at e
    split at e
    · rename_i p hp
      exact .inl ⟨_,_,e.symm,hM _ _ _ _ _ hp⟩
    · split at e
      · rename_i hx
        obtain ⟨h',⟨n,h1⟩,h2,h3⟩:=hx.choose_spec
        exact .inl ⟨_,_,e.symm,iN.TC ((rW hE n ih).1 _ _ _ _ _ (h1 n (Nat.le_refl n))) h2 h3⟩
      · split at e
        · rename_i hy
          obtain ⟨n,h1⟩:=hy.choose_spec
          exact .inl ⟨_,_,e.symm,(rW hE n ih).1 _ _ _ _ _ (h1 n (Nat.le_refl n))⟩
        · exact .inr e.symm
   refine ⟨fun F args h v h' e=>?_,fun F args h v h' e=>?_⟩
   · cases F with
     | Ik l=>cases e
     | fn f=>
       rcases key e with ⟨w,k,h1,h2⟩ | h1
       · cases h1;exact h2.any
       · cases h1
   · cases F with
     | Ik l=>cases e
     | fn f=>
       rcases key e with ⟨w,k,h1,h2⟩ | h1
       · cases h1
       · cases h1
theorem ai {d:Nat} {f:FuncId} {args:List AV} {h h':ah} {v:AV} (hm:M0 f args h=none) (hd:mz E (gE E M0 d) f args h v h') (hh:Has h h') (hv:AV.within h.nx 20 v=true):gE E M0 (d+1) (.fn f) args h= .ret v h:=by
 simp only[gE,hm]
 have hx:∃v,∃h',mz E (gE E M0 d) f args h v h'∧Has h h'∧AV.within h.nx 20 v=true:=⟨v,h',hd,hh,hv⟩
 rw[dif_pos hx]
 obtain ⟨k,h1,_,_⟩:=hx.choose_spec
 rw[(h1.unique hd).1]
theorem fa {d:Nat} {f:FuncId} {args:List AV} {h h':ah} {v:AV} (hm:M0 f args h=none) (hd:mz E (gE E M0 d) f args h v h') (hv:¬(Has h h'∧AV.within h.nx 20 v=true)):gE E M0 (d+1) (.fn f) args h= .ret v h':=by
 simp only[gE,hm]
 have hx:¬∃v,∃h',mz E (gE E M0 d) f args h v h'∧Has h h'∧AV.within h.nx 20 v=true:=by
  rintro ⟨w,k,h1,h2,h3⟩
  obtain ⟨rfl,rfl⟩:=h1.unique hd
  exact hv ⟨h2,h3⟩
 have hy:∃p:AV×ah,mz E (gE E M0 d) f args h p.1 p.2:=⟨(v,h'),hd⟩
 rw[dif_neg hx,dif_pos hy]
 obtain ⟨h1,h2⟩:=hy.choose_spec.unique hd
 rw[h1,h2]
theorem fP {d:Nat} {f:FuncId} {args:List AV} {h:ah} {v:AV} (hm:M0 f args h=none) (hd:mz E (gE E M0 d) f args h v h):gE E M0 (d+1) (.fn f) args h= .ret v h:=by
 by_cases hv:AV.within h.nx 20 v=true
 · exact ai hm hd (Has.refl h) hv
 · exact fa hm hd fun c=>hv c.2
theorem dQ {d:Nat} {f:FuncId} {args:List AV} {h h':ah} {v:AV} {p:Nat} {o x:ar} (hm:M0 f args h=none) (hd:mz E (gE E M0 d) f args h v h') (c:nj h h' p o) (hy:Tidy h) (hg:h.get p=some x) (hn:h'.nx=h.nx):
 ∃hk,gE E M0 (d+1) (.fn f) args h= .ret v hk∧nj h hk p o∧hk.nx=h.nx:=by
 by_cases hq:Has h h'∧AV.within h.nx 20 v=true
 · refine ⟨h,ai hm hd hq.1 hq.2,⟨hy,?_,fun i y _ g=>g⟩,rfl⟩
   have:=hq.1 p x hg
   rw[c.2.1] at this
   rw[hg];exact this.symm
 · exact ⟨h',fa hm hd hq,c,hn⟩
theorem MU (hE:jZ E) (hM:Fa.Kz E M0) {d:Nat} {f:FuncId} {args:List AV} {h h':ah} {v:AV} (e:gE E M0 d (.fn f) args h= .ret v h'):iN E f args h v h':=by
 cases d with
 | zero=>
   simp only[gE,F9] at e
   split at e
   · rename_i p hp
     cases e
     exact hM _ _ _ _ _ hp
   · cases e
 | succ d=>
   simp only[gE] at e
   split at e
   · rename_i p hp
     cases e
     exact hM _ _ _ _ _ hp
   · split at e
     · rename_i hx
       cases e
       obtain ⟨h',⟨n,h1⟩,h2,h3⟩:=hx.choose_spec
       exact iN.TC ((rW hE n (Gn hE hM d)).1 _ _ _ _ _ (h1 n (Nat.le_refl n))) h2 h3
     · split at e
       · rename_i hy
         cases e
         obtain ⟨n,h1⟩:=hy.choose_spec
         exact (rW hE n (Gn hE hM d)).1 _ _ _ _ _ (h1 n (Nat.le_refl n))
       · cases e
end Go.Ab
end
section
namespace Go.Ab
variable {E:Env}
theorem wrap_u64 (n:Nat):IntKind.u64.wrap (n:Int)=((n%18446744073709551616:Nat):Int):=by
 show (if (false&&decide ((n:Int)%2^64≥2^63))=true then (n:Int)%2^64 - 2^64 else (n:Int)%2^64)=_
 rw[if_neg (by simp)]
 omega
theorem eI (a b:Nat):IntKind.u64.wrap ((a:Int)+b)=(((a+b)%18446744073709551616:Nat):Int):=by rw[←wrap_u64];congr 1
theorem gN (a b:Nat):IntKind.u64.wrap ((a:Int)*b)=(((a*b)%18446744073709551616:Nat):Int):=by rw[←wrap_u64];congr 1
theorem KN (a b:Nat) (hb:b≤18446744073709551616):IntKind.u64.wrap ((a:Int) - b)=(((a+18446744073709551616 - b)%18446744073709551616:Nat):Int):=by
 show (if (false&&decide (((a:Int) - b)%2^64≥2^63))=true then ((a:Int) - b)%2^64 - 2^64 else ((a:Int) - b)%2^64)=_
 rw[if_neg (by simp)]
 omega
theorem qn (k:Int) (h0:0≤k) (h1:k<18446744073709551616):IntKind.u64.wrap k=k:=by
 obtain ⟨n,rfl⟩:=Int.eq_ofNat_of_zero_le h0
 rw[wrap_u64];omega
theorem cZ (t:TypeId) (c d:Bool) (x s:Nat) (j:IntKind) (hs:s≤64):aI E .shr t c d (some (.int .u64 (x:Int))) (some (.int j (s:Int)))=some (.int .u64 ((x/2^s:Nat):Int)):=by
 have h1:min s 64=s:=by omega
 have h2:((x:Int).fdiv (2^s))=((x/2^s:Nat):Int):=by
  rw[Int.fdiv_eq_ediv_of_nonneg _ (Int.pow_nonneg (by decide))]
  norm_cast
 simp only[aI,pX,Int.toNat_natCast]
 rw[if_neg (by omega)]
 show some (AV.int .u64 ((x:Int).fdiv (2^(min s 64))))=_
 rw[h1,h2]
theorem wG (t:TypeId) (c d:Bool) (x k:Nat) (hx:x<18446744073709551616) (hk:k≤64):aI E .and t c d (some (.int .u64 (x:Int))) (some (.int .u64 ((2^k - 1:Nat):Int)))=some (.int .u64 ((x%2^k:Nat):Int)):=by
 simp only[aI,pX,j2,if_true]
 have e:(BitVec.ofInt IntKind.u64.bits (x:Int)&&& BitVec.ofInt IntKind.u64.bits ((2^k - 1:Nat):Int)).toNat=x%2^k:=by
  show (BitVec.ofInt 64 (x:Int)&&& BitVec.ofInt 64 ((2^k - 1:Nat):Int)).toNat=x%2^k
  rw[BitVec.toNat_and,BitVec.ofInt_natCast,BitVec.ofInt_natCast,BitVec.toNat_ofNat,BitVec.toNat_ofNat,Nat.mod_eq_of_lt (show x<2^64 by omega)]
  have hp:2^k≤2^64:=Nat.pow_le_pow_right (by decide) hk
  have hp0:0<2^k:=Nat.pow_pos (by decide)
  rw[Nat.mod_eq_of_lt (show 2^k - 1<2^64 by omega),Nat.and_two_pow_sub_one_eq_mod]
 rw[e,wrap_u64]
 have:x%2^k≤x:=Nat.mod_le _ _
 rw[Nat.mod_eq_of_lt (show x%2^k<18446744073709551616 by omega)]
theorem fL (x y c:Nat) (hc:c≤1):jk [.int .u64 (x:Int),.int .u64 (y:Int),.int .u64 (c:Int)]=some (.tuple [.int .u64 (((x+y+c)%18446744073709551616:Nat):Int),.int .u64 (((x+y+c) /18446744073709551616:Nat):Int)]):=by
 have:Nat.ble c 1=true:=Nat.ble_eq_true_of_le hc
 simp only[jk]
 show Fa.bc (Nat.ble c 1) _ _=_
 rw[this];rfl
theorem nG (x y c:Nat) (hx:x<18446744073709551616) (hy:y<18446744073709551616) (hc:c≤1):qk [.int .u64 (x:Int),.int .u64 (y:Int),.int .u64 (c:Int)]=some (.tuple [.int .u64 (((x+18446744073709551616 - y - c)%18446744073709551616:Nat):Int),.int .u64 ((if x<y+c then 1 else 0:Nat):Int)]):=by
 have:Nat.ble c 1=true:=Nat.ble_eq_true_of_le hc
 simp only[qk]
 show Fa.bc (Nat.ble c 1) _ _=_
 rw[this]
 show some (AV.tuple [_,.int .u64 (Int.ofNat (Fa.bc (Nat.ble (x+1) (y+c)) 1 0))])=_
 by_cases h:x<y+c
 · rw[show Nat.ble (x+1) (y+c)=true from Nat.ble_eq_true_of_le h,if_pos h];rfl
 · have:Nat.ble (x+1) (y+c)=false:=by
    cases hb:Nat.ble (x+1) (y+c) with
    | false=>rfl
    | true=>exact absurd (Nat.le_of_ble_eq_true hb) h
   rw[this,if_neg h];rfl
theorem gO (t:TypeId) (c d:Bool) (x s:Nat) (j:IntKind) (hs:s≤64):aI E .shl t c d (some (.int .u64 (x:Int))) (some (.int j (s:Int)))=some (.int .u64 ((x*2^s%18446744073709551616:Nat):Int)):=by
 have h1:min s 64=s:=by omega
 simp only[aI,pX,Int.toNat_natCast]
 rw[if_neg (by omega)]
 show some (AV.int .u64 (IntKind.u64.wrap ((x:Int)*2^(min s 64))))=_
 rw[h1,show (x:Int)*2^s=((x*2^s:Nat):Int) by norm_cast,wrap_u64]
theorem lk (t:TypeId) (c d:Bool) (a b:Nat) (ha:a<18446744073709551616) (hb:b<18446744073709551616):aI E .or t c d (some (.int .u64 (a:Int))) (some (.int .u64 (b:Int)))=some (.int .u64 ((a||| b:Nat):Int)):=by
 simp only[aI,pX,j2,if_true]
 have e:(BitVec.ofInt IntKind.u64.bits (a:Int)||| BitVec.ofInt IntKind.u64.bits (b:Int)).toNat=a||| b:=by
  show (BitVec.ofInt 64 (a:Int)||| BitVec.ofInt 64 (b:Int)).toNat=a||| b
  rw[BitVec.toNat_or,BitVec.ofInt_natCast,BitVec.ofInt_natCast,BitVec.toNat_ofNat,BitVec.toNat_ofNat,Nat.mod_eq_of_lt (show a<2^64 by omega),Nat.mod_eq_of_lt (show b<2^64 by omega)]
 rw[e,wrap_u64]
 have:a||| b<2^64:=Nat.or_lt_two_pow (by omega) (by omega)
 rw[Nat.mod_eq_of_lt (show a||| b<18446744073709551616 by omega)]
theorem TD {x n b:Nat} (hn:n≤64) (hb:b<2^n):(x*2^n%18446744073709551616)||| b=x*2^n%18446744073709551616+b:=by
 have e:x*2^n%18446744073709551616=(x%2^(64 - n))*2^n:=by
  have:(18446744073709551616:Nat)=2^(64 - n)*2^n:=by
   rw[←Nat.pow_add,Nat.sub_add_cancel hn]
  rw[this,Nat.mul_mod_mul_right]
 rw[e,←Nat.shiftLeft_eq,Nat.shiftLeft_add_eq_or_of_lt hb]
theorem b_ {t:TypeId} {c d:Bool} {a b:Nat} (h:a+b<18446744073709551616):aI E .add t c d (some (.int .u64 (a:Int))) (some (.int .u64 (b:Int)))=some (.int .u64 ((a+b:Nat):Int)):=by
 rw[KB,eI,Nat.mod_eq_of_lt h]
theorem dR {t:TypeId} {c d:Bool} {a b:Nat} (h:b≤a) (ha:a<18446744073709551616):aI E .sub t c d (some (.int .u64 (a:Int))) (some (.int .u64 (b:Int)))=some (.int .u64 ((a - b:Nat):Int)):=by
 rw[KC,qn _ (by omega) (by omega),show (a:Int) - b=((a - b:Nat):Int) by omega]
theorem bW {t:TypeId} {c d:Bool} {a b:Nat} (h:a*b<18446744073709551616):aI E .mul t c d (some (.int .u64 (a:Int))) (some (.int .u64 (b:Int)))=some (.int .u64 ((a*b:Nat):Int)):=by
 rw[KD,gN,Nat.mod_eq_of_lt h]
theorem wH {t:TypeId} {c d:Bool} {a b:Nat}:aI E .add t c d (some (.int .u64 (a:Int))) (some (.int .u64 (b:Int)))=some (.int .u64 (((a+b)%18446744073709551616:Nat):Int)):=by
 rw[KB,eI]
theorem rY {t:TypeId} {c d:Bool} {a b:Nat}:aI E .mul t c d (some (.int .u64 (a:Int))) (some (.int .u64 (b:Int)))=some (.int .u64 (((a*b)%18446744073709551616:Nat):Int)):=by
 rw[KD,gN]
theorem D5 {t:TypeId} {c d:Bool} {a b:Nat} (hb:b≤18446744073709551616):aI E .sub t c d (some (.int .u64 (a:Int))) (some (.int .u64 (b:Int)))=some (.int .u64 (((a+18446744073709551616 - b)%18446744073709551616:Nat):Int)):=by
 rw[KC,KN _ _ hb]
theorem rZ {t:TypeId} {c d:Bool} {a b:Nat} (hb:b≠0) (ha:a<18446744073709551616):aI E .quo t c d (some (.int .u64 (a:Int))) (some (.int .u64 (b:Int)))=some (.int .u64 ((a/b:Nat):Int)):=by
 have:a/b≤a:=Nat.div_le_self _ _
 exact Aw (by omega) (by rw[←Int.ofNat_tdiv,wrap_u64,Nat.mod_eq_of_lt (by omega)])
theorem wI {t:TypeId} {c d:Bool} {a b:Nat} (hb:b≠0):aI E .rem t c d (some (.int .u64 (a:Int))) (some (.int .u64 (b:Int)))=some (.int .u64 ((a%b:Nat):Int)):=
 Ax (by omega) (by rw[←Int.ofNat_tmod])
end Go.Ab
end
