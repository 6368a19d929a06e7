import Derived.ChangeShapes
import Derived.ChangeStays
import Derived.ChangeBook
import Derived.ChangeOld
import Derived.ChangeAgain
import Derived.ChangeCalls
import Derived.Shelf.Strings.OnBuilder
import Derived.Test.YtijehnelcbdlgaaGreatA6
set_option linter.unusedVariables false
set_option linter.unusedSimpArgs false
section
namespace Go.Ab
variable {E:Env} {call:a_} {n:Nat} {s:St}
def Y0 {α β:Type} (o:Option α) (f:α→β) (d:β):β:=match o with
 | some a=>f a
 | none=>d
noncomputable def Kr (E:Env) (call:a_) (n:Nat) (o:Out) (b:Code):Out:=match o with
 | .ok .normal s=>exec E call n b s
 | r=>r
theorem zN (s:St) (b:Code):Kr E call n (.ok .normal s) b=exec E call n b s:=rfl
def Rn (id:Nat) (o:Out):Out:=match o with
 | .ok (.exit Py) s'=>if Py=id then .ok .normal s' else .ok (.exit Py) s'
 | r=>r
theorem zO (i j:Nat) (s:St):Rn i (.ok (.exit j) s)=if j=i then .ok .normal s else .ok (.exit j) s:=rfl
noncomputable def Ro (E:Env) (call:a_) (n:Nat) (o:Option AV) (a b:Code) (s:St):Out:=match o with
 | some (.bool true)=>exec E call n a s
 | some (.bool false)=>exec E call n b s
 | _=> .fail "cond" none
theorem KB (a b:Code):Ro E call n (some (.bool true)) a b s=exec E call n a s:=rfl
theorem Ip (a b:Code):Ro E call n (some (.bool false)) a b s=exec E call n b s:=rfl
theorem Xs (a b:Code):exec E call (n+1) (.seq a b) s=Kr E call n (exec E call n a s) b:=rfl
theorem Rp (x:Operand) (a b:Code):exec E call (n+1) (.cond x a b) s=Ro E call n (dZ E s.ts x) a b s:=rfl
theorem FT (id:Nat) (b:Code):exec E call (n+1) (.block id b) s=Rn id (exec E call n b s):=rfl
theorem Rq (b:Code):exec E call (n+1) (.loop b) s=Kr E call n (exec E call n b s) (.loop b):=rfl
theorem Rr (i:Nat) (ops:Array Oper):exec E call (n+1) (.region i ops false) s=kB E call ops ops.toList s:=rfl
theorem Vr (i:Nat) (ops:Array Oper):exec E call (n+1) (.region i ops true) s=wu E call ops s:=rfl
noncomputable def abt (E:Env) (call:a_) (ops:Array Oper) (o:Oper) (rest:List Oper) (s:St):Out:=match dr E call s.ts s.h s.rc o with
 | .val v h'=>kB E call ops rest {s with ts:=dR s.ts o.dst v,h:=h'}
 | .defer d=>kB E call ops rest {s with ts:=dR s.ts o.dst AV.undef,ds:=d::s.ds}
 | .rT v=>kB E call ops rest {s with ts:=dR s.ts o.dst v,rc:= .done}
 | .panic v h'=> .ok (.panic v) {s with h:=h'}
 | .fail why q=> .fail why q
noncomputable def abu (E:Env) (call:a_) (ops:Array Oper) (o:Oper) (rest:List Oper) (s:St):Out:=
 Y0 (ek E s.ts o.op) (fun p=>Y0 (s.h.new p.1) (fun h'=>kB E call ops rest {s with ts:=dR s.ts o.dst (p.2 s.h.nx),h:=h'}) (.fail "full" (some o))) (abt E call ops o rest s)
noncomputable def abv (E:Env) (call:a_) (ops:Array Oper) (o:Oper) (rest:List Oper) (s:St):Out:=
 Y0 (dM E s.ts s.h o.op) (fun v=>kB E call ops rest {s with ts:=dR s.ts o.dst v}) (abu E call ops o rest s)
noncomputable def abw (E:Env) (call:a_) (ops:Array Oper) (v:Option AV) (o:Oper) (rest:List Oper) (s:St):Out:=Y0 v (fun v=>kB E call ops rest {s with ts:=dR s.ts o.dst v}) (abv E call ops o rest s)
section
variable {ops:Array Oper} {rest:List Oper} {d:Option Tmp} {op:Op} {ty:TypeId} {pos:String} {aft:Array Edge} {g:Option (Nat×Bool)}
noncomputable def Kt (E:Env) (call:a_) (ops:Array Oper) (w:Bool) (o:Oper) (rest:List Oper) (s:St):Out:=
 if w=true then abw E call ops (bp E s.ts o.op) o rest s else kB E call ops rest {s with ts:=dR s.ts o.dst AV.undef}
end
theorem fT (m:Nat) (a:List UInt8):AV.same (m+1) (.str a) (.str a)=true:=by simp [AV.same]
theorem aJ (m:Nat) (k:IntKind) (a:Int):AV.same (m+1) (.int k a) (.int k a)=true:=by simp [AV.same]
theorem BQ (m i o l c:Nat) (b:Bool):AV.same (m+1) (.slice i o l c b) (.slice i o l c b)=true:=by simp [AV.same]
open Classical in
section
variable {ops:Array Oper} {rest:List Nat} {d:Option Tmp} {op:Op} {ty:TypeId} {pos:String} {aft:Array Edge} {g:Option (Nat×Bool)}
noncomputable def Mx (E:Env) (call:a_) (ops:Array Oper) (r:Option St) (s:St):Out:=Y0 r (fun s'=> .ok .normal s') (wu E call ops s)
end
theorem wrap_i64 {n:Int} (h0: -9223372036854775808≤n) (h1:n<9223372036854775808):IntKind.i64.wrap n=n:=by
 show (if (true&&decide (n%2^64≥2^63))=true then n%2^64 - 2^64 else n%2^64)=n
 by_cases hn:n%2^64≥2^63
 · rw[if_pos (by rw[Bool.true_and];exact decide_eq_true hn)];omega
 · rw[if_neg (by rw[Bool.true_and];exact fun e=>hn (of_decide_eq_true e))];omega
noncomputable def H5 (E:Env) (fn:Func) (h:ak) (ts:List AV):jn:=match kS E h ts fn.results.toList with
 | some vs=> .ret (h_ vs) h
 | none=> .fail "results" none
theorem Ou {fuel:Nat} {f:FuncId} {fn:Func} {c:Code} (hf:E.P.funcs[f]? =some fn) (hb:fn.body=some c) {args:List AV} {h h':ak} {ts:List AV} {x:kR} (hx:x= .normal∨x= .ret)
 (e:exec E call fuel c ⟨args++List.replicate (fn.ntmps - args.length) AV.undef,h,[],.no⟩= .ok x ⟨ts,h',[],.no⟩) {vs:List AV} (hr:kS E h' ts fn.results.toList=some vs):zM E call fuel f args h= .ret (h_ vs) h':=by
 unfold zM
 simp only[hf,hb,nQ,e]
 rcases hx with rfl | rfl<;>simp only[uh,cZ,hr]
def BR (M:Fa.Im):a_:=fun F args h=>match F with
 | .fn f=>match M f args h with
   | some p=> .ret p.1 p.2
   | none=> .fail "" none
 | .yl _=> .fail "" none
theorem Ov {M:Fa.Im} (hM:Fa.FR E M):iB E (BR M):=by
 refine ⟨fun F args h v h' e=>?_,fun F args h v h' e=>?_⟩
 · cases F with
   | yl l=>cases e
   | fn f=>
     simp only[BR] at e
     cases hm:M f args h with
     | none=>rw[hm] at e;cases e
     | some p=>
       rw[hm] at e
       simp only[jn.ret.injEq] at e
       obtain ⟨rfl,rfl⟩:=e
       exact (hM _ _ _ _ _ hm).any
 · cases F with
   | yl l=>cases e
   | fn f=>
     simp only[BR] at e
     cases hm:M f args h with
     | none=>rw[hm] at e;cases e
     | some p=>rw[hm] at e;cases e
def adT (E:Env) (x:Option (TypeId×Nat)) (v:Option AV):Option AV:=match x,v with
 | some (t,o),some (.ptr i off)=>match bQ E t with
   | some n=>if n=0 then none else some (.ptr i (off+o))
   | none=>none
 | _,_=>none
def fZ (E:Env) (op:BinOp) (t:TypeId) (xc yc:Bool) (a b:Option AV):Option AV:=match a,b with
 | some a,some b=>me E op t xc yc a b
 | _,_=>none
theorem Vs {ts:List AV} (op:BinOp) (t t':TypeId) (x y:Operand):bp E ts (.binOp op t x y t')=fZ E op t (isConst x) (isConst y) (dZ E ts x) (dZ E ts y):=by
 simp only[bp,fZ]
 cases dZ E ts x<;>cases dZ E ts y<;>rfl
theorem Vt (t:TypeId) (c d:Bool) (k:IntKind) (a b:Int):fZ E .add t c d (some (.int k a)) (some (.int k b))=some (.int k (k.wrap (a+b))):=by simp [fZ,me,dz]
theorem Vu (t:TypeId) (c d:Bool) (k:IntKind) (a b:Int):fZ E .sub t c d (some (.int k a)) (some (.int k b))=some (.int k (k.wrap (a - b))):=by simp [fZ,me,dz]
theorem Vv (t:TypeId) (c d:Bool) (k:IntKind) (a b:Int):fZ E .mul t c d (some (.int k a)) (some (.int k b))=some (.int k (k.wrap (a*b))):=by simp [fZ,me,dz]
theorem Vw (t:TypeId) (c d:Bool) (k:IntKind) (a b:Int):fZ E .eql t c d (some (.int k a)) (some (.int k b))=some (.bool (decide (a=b))):=by simp [fZ,me,dz];rfl
theorem Vx (t:TypeId) (c d:Bool) (k:IntKind) (a b:Int):fZ E .neq t c d (some (.int k a)) (some (.int k b))=some (.bool (!decide (a=b))):=by simp [fZ,me,dz];rfl
theorem Vy (t:TypeId) (c d:Bool) (k:IntKind) (a b:Int):fZ E .lss t c d (some (.int k a)) (some (.int k b))=some (.bool (decide (a<b))):=by simp [fZ,me,dz]
theorem Vz (t:TypeId) (c d:Bool) (k:IntKind) (a b:Int):fZ E .leq t c d (some (.int k a)) (some (.int k b))=some (.bool (decide (a≤b))):=by simp [fZ,me,dz]
theorem VA (t:TypeId) (c d:Bool) (k:IntKind) (a b:Int):fZ E .gtr t c d (some (.int k a)) (some (.int k b))=some (.bool (decide (b<a))):=by simp [fZ,me,dz]
theorem VB (t:TypeId) (c d:Bool) (k:IntKind) (a b:Int):fZ E .geq t c d (some (.int k a)) (some (.int k b))=some (.bool (decide (b≤a))):=by simp [fZ,me,dz]
theorem Rs (t:TypeId) (c d:Bool) (a b:List UInt8):fZ E .eql t c d (some (.str a)) (some (.str b))=some (.bool (decide (a=b))):=by
 simp only[fZ,me,vn,Option.some.injEq,AV.bool.injEq]
 exact Bool.eq_iff_iff.2 (by simp)
def unK (op:UnOp) (a:Option AV):Option AV:=match a with
 | some a=>unA op a
 | none=>none
def b_ (E:Env) (d:Option TypeDesc) (v i:Option AV):Option AV:=match d,v,i with
 | some (.slice elem),some (.slice i o len _ _),some (.int _ n)=>match bQ E elem with
  | some size=>if 0≤n∧n<len then some (.ptr i (o+n.toNat*size)) else none
  | none=>none
 | some (.array len elem),some (.ptr i o),some (.int _ n)=>match bQ E elem with
  | some size=>if 0≤n∧n<len then some (.ptr i (o+n.toNat*size)) else none
  | none=>none
 | _,_,_=>none
theorem Iq {ts:List AV} (t:TypeId) (x i:Operand):bp E ts (.indexAddr t x i)=b_ E (E.P.underlying t) (dZ E ts x) (dZ E ts i):=by
 simp only[bp,b_]
 split<;>simp_all<;>(split<;>simp_all)
theorem oR {e:TypeId} {i o len c z:Nat} {b:Bool} {size:Nat} (hs:bQ E e=some size) (hz:z<len):b_ E (some (.slice e)) (some (.slice i o len c b)) (some (.int .i64 (z:Int)))=some (.ptr i (o+z*size)):=by
 simp only[b_,hs]
 rw[if_pos ⟨by omega,by omega⟩,Int.toNat_natCast]
def bJ (d:Option TypeDesc) (v:Option AV):Option AV:=match d,v with
 | some (.slice _),some .aD=>some (.int .i64 0)
 | some (.slice _),some (.slice _ _ n _ _)=>some (.int .i64 n)
 | some (.slice _),some .ei=>some (.int .i64 0)
 | some .string,some (.str s)=>some (.int .i64 s.length)
 | some (.array n _),some _=>some (.int .i64 n)
 | some (.map _ _),some .dQ=>some (.int .i64 0)
 | _,_=>none
theorem abx {ts:List AV} (x:Operand) (t:TypeId):bp E ts (.call ⟨.builtin .len, #[x], #[t]⟩)=bJ (E.P.underlying t) (dZ E ts x):=by
 simp only[bp,f',eB,List.getElem?_toArray,List.getElem?_cons_zero]
 generalize dZ E ts x=o
 cases o with
 | none=>
   generalize E.P.underlying t=u
   cases u with
   | none=>rfl
   | some d=>cases d<;>rfl
 | some v=>
   simp only
   generalize E.P.underlying t=u
   cases u with
   | none=>rfl
   | some d=>cases d<;>cases v<;>rfl
theorem Y1 {ts:List AV} {h:ak} (t:TypeId) (x:Operand):dM E ts h (.load t x)=Y0 (dZ E ts x) (bm E h t) none:=by
 simp only[dM];cases dZ E ts x<;>rfl
theorem gG (e:TypeId) (i o n c:Nat) (b:Bool):bJ (some (.slice e)) (some (.slice i o n c b))=some (.int .i64 n):=rfl
theorem w_ (e:TypeId):bJ (some (.slice e)) (some .aD)=some (.int .i64 0):=rfl
theorem Y2 (e:TypeId):bJ (some (.slice e)) (some .ei)=some (.int .i64 0):=rfl
def Tidy (h:ak):Prop:=∀i o,h.get i=some o→i<h.nx
def vH (E:Env) (d:Option TypeDesc) (v i:Option AV):Option AV:=match d,v,i with
 | some (.array len elem),some (.agg cs),some (.int _ n)=>match bQ E elem with
  | some size=>if 0≤n∧n<len then jy E elem cs (n.toNat*size) else none
  | none=>none
 | some .string,some (.str s),some (.int _ n)=>if 0≤n then (match s[n.toNat]? with | some b=>some (.int .u8 b.toNat) | none=>none) else none
 | _,_,_=>none
theorem VC {ts:List AV} (t:TypeId) (x i:Operand):bp E ts (.index t x i)=vH E (E.P.underlying t) (dZ E ts x) (dZ E ts i):=by
 simp only[bp,vH]
 split
 · simp_all
   split<;>simp_all
 · rename_i s k n _ _ _
   simp_all
   cases s[n.toNat]? <;>rfl
 · simp_all
theorem Rt {s:List UInt8} {z:Nat} {b:UInt8} (h:s[z]? =some b):vH E (some .string) (some (.str s)) (some (.int .i64 (z:Int)))=some (.int .u8 b.toNat):=by
 simp only[vH]
 rw[if_pos (by omega),Int.toNat_natCast,h]
end Go.Ab
end
section
namespace Go.Ab
open Go.ChangeShapes Go.WideShapes Go.RowKit
variable {E:Env}
def xa (h:ak):Prop:=∀i o,h.get i=some o→o.rw=false
theorem OK.show {φ:Ph} {h:ak} {w:World} (ok:OK E φ h w) (Qb:xa h) {b off:Nat} {cs:List AV} {e:TypeId} (ep:cs≠ []) (hz:∀m,cs≠ [.map m])
 (hC:∀(k:Nat) (x:AV),cs[k]? =some x→∃y,w.cell? ⟨b,off+k,none⟩=some y∧VR φ x y):
 ∃h',h.new (.cells cs e true)=some h'∧OK E (φ.add h.nx ⟨b,off,0⟩) h' w∧φ.le (φ.add h.nx ⟨b,off,0⟩)∧xa h'∧h'.nx=h.nx+1∧h'.get h.nx=some (.cells cs e true)∧(∀j,j≠h.nx→h'.get j=h.get j)∧(φ.add h.nx ⟨b,off,0⟩) h.nx=some ⟨b,off,0⟩:=by
 obtain ⟨h',hn⟩:∃h',h.new (.cells cs e true)=some h':=by
  exact ⟨_,ak.EN _ _⟩
 obtain ⟨lM,Y3,Ba,hold⟩:=ak.lK hn
 have EO:φ h.nx=none:=by
  cases e:φ h.nx with
  | none=>rfl
  | some m=>exact absurd (ok.An _ _ e) (Nat.lt_irrefl _)
 have hle:φ.le (φ.add h.nx ⟨b,off,0⟩):=fun i m hm=>by
  unfold Ph.add;split
  · rename_i e;subst e;rw[EO] at hm;simp at hm
  · exact hm
 have kF:∀j,j≠h.nx→(φ.add h.nx ⟨b,off,0⟩) j=φ j:=fun j hj=>by simp [Ph.add,hj]
 have gZ:(φ.add h.nx ⟨b,off,0⟩) h.nx=some ⟨b,off,0⟩:=by simp [Ph.add]
 have gE:∀j p,h'.get j=some p→(j=h.nx∧p= .cells cs e true)∨(j≠h.nx∧h.get j=some p):=fun j p hj=>by
  by_cases e:j=h.nx
  · subst e;rw[Ba] at hj;simp at hj;exact .inl ⟨rfl,hj.symm⟩
  · rw[hold j e] at hj;exact .inr ⟨e,hj⟩
 have hlen:0<cs.length:=List.length_pos_iff.2 ep
 obtain ⟨y0,hy0,_⟩:=hC 0 cs[0] (by simp [hlen])
 obtain ⟨C,e',lo,hi,hw⟩:∃C e' lo hi,w.heap[b]? =some (.cells C e' (lo,hi)):=by
  unfold World.cell? at hy0
  split at hy0
  · rename_i C e' fz hw;obtain ⟨lo,hi⟩:=fz;exact ⟨C,e',lo,hi,hw⟩
  · cases hy0
 have D9:∀k,w.cell? ⟨b,off+k,none⟩=C[off+k]? :=fun k=>by simp [World.cell?,hw]
 refine ⟨h',hn,⟨fun i m hm=>?_,by rw[Y3];exact Nat.le_succ_of_le ok.nx,fun g hg=>hle _ _ (ok.vo g hg),fun j p m hj hm=>?_,fun j k p q m n hj hk hm sh hw hb=>?_⟩,hle,fun j p hj=>?_,Y3,Ba,hold,gZ⟩
 · rw[Y3]
   by_cases e:i=h.nx
   · omega
   · rw[kF i e] at hm;have:=ok.An i m hm;omega
 · rcases gE j p hj with ⟨rfl,rfl⟩ | ⟨EP,pc⟩
   · rw[gZ] at hm;simp at hm;subst hm
     refine ⟨C,e',lo,hi,hw,⟨?_,fun k x hk=>?_,(fun h=>by cases h),fun _ m hm=>absurd hm (hz m)⟩,fun h=>by cases h⟩
     · obtain ⟨y,hy,_⟩:=hC (cs.length - 1) cs[cs.length - 1] (List.getElem?_eq_getElem (by omega))
       rw[D9] at hy
       have:=(Array.getElem?_eq_some_iff.1 hy).1
       simp only[fL,Nat.zero_mul]
       omega
     · obtain ⟨y,hy,hv⟩:=hC k x hk
       rw[D9] at hy
       exact ⟨y,hy,hv.mono hle⟩
   · rw[kF j EP] at hm
     exact (ok.live j p m pc hm).mono hle
 · rcases gE j p hj with ⟨rfl,rfl⟩ | ⟨adU,pc⟩<;>rcases gE k q hk with ⟨rfl,rfl⟩ | ⟨adV,DL⟩
   · rfl
   · rw[Qb k q DL] at hw;rcases hw with h | h<;>cases h
   · rw[Qb j p pc] at hw;rcases hw with h | h<;>cases h
   · rw[kF j adU] at hm;rw[kF k adV] at sh;exact ok.inj _ _ _ _ _ _ pc DL hm sh hw hb
 · rcases gE j p hj with ⟨_,rfl⟩ | ⟨_,pc⟩
   · rfl
   · exact Qb j p pc
theorem xa.begin {G:Nat} {l:List Vp}:xa (lS G l):=fun i o h=>by
 obtain ⟨x,_,_,rfl⟩:=ri h;rfl
theorem FU {f:FuncId} {avs:List AV} {h h':ak} (r:lN E f avs h (.bool true) h') {φ:Ph} {w:World} {vs:List Value} (ok:OK E φ h w) (hl:LR φ avs vs) (Qb:xa h):
 Calls E.P f vs.toArray w fun en w'=>en= .returned (.bool true)∧w.keptBut w' (fun _=>False):=fun cs=>by
 obtain ⟨_,jo⟩:=r φ w vs ok hl
 obtain ⟨φ',w',v',fr,hv,_,pe,h1,h2,h3⟩:=jo cs
 cases hv
 refine ⟨.returned (.bool true),w',fr,⟨rfl,pe.os,pe.output,fun i hi=>?_⟩,h1,h2,h3⟩
 rw[pe.C5 i hi (fun j o l' q1 q2 _=>by rw[Qb j o q1] at q2;cases q2)]
 cases w.heap[i]? with
 | none=>rfl
 | some o=>cases o with
   | cells c t fz=>exact ⟨rfl,rfl,rfl,fun _ _=>rfl⟩
   | map es c=>exact .inr ⟨rfl,rfl⟩
   | _=>rfl
section
variable {H:Type} {enc:TypeId×Value→H} {w:World} {base:Nat} {spare:Nat→Bool} {held:Bool} {fuel:Nat} {t:TypeId} {x:DataW H×List MemPlace}
end
section
variable {H:Type} {enc:TypeId×Value→H} {P:Program} {w w':World}
theorem BS (hk:w.keptBut w' (fun _=>False)) {p:MemPlace} (hp:p.block<w.heap.size):w.sameAt w' p:=by
 have h:=hk.block hp (fun _ h=>h.elim)
 cases p with
 | cell b off=>simp only[World.sameAt,World.cell?];rw[show w'.heap[b]? =w.heap[b]? from h]
 | map b=>exact h
theorem D_ (hl:laidOutB P=true) (hk:w.keptBut w' (fun _=>False)):∀{ts:List TypeId} {vs:List Value} {ds:List (DataW H)} {ps:List MemPlace},(∀t∈ts,P.readableRec t=true∧t<P.types.size)→
 DataW.TrodAll enc P w 0 (fun _=>true) true ts vs ds ps→DataW.TrodAll enc P w' 0 (fun b=>decide (b<w.heap.size)) true ts vs ds ps
 | [],vs,ds,ps,_,h=>by
   obtain ⟨rfl,rfl,rfl⟩:=trodAll_nil h
   exact trodAll_mk0
 | t::ts,vs,ds,ps,hr,h=>by
   have lM:=DataW.TrodAll.lt h
   obtain ⟨v,qR,d,yz,p,p',rfl,rfl,rfl,⟨n,h1⟩,h2⟩:=trodAll_cons h
   obtain ⟨h3,h4⟩:=hr t (by simp)
   refine trodAll_cons_mk ⟨n,?_⟩ (D_ hl hk (fun t ht=>hr t (by simp [ht])) h2)
   exact DataW.trod_stays (kids_book hl h3) (book_sized h3) (fun h=>by cases h) ⟨h4,book_self t⟩ h1 (fun q hq=>BS hk (lM q (by simp [hq]))) (fun q hq=>by simpa using lM q (by simp [hq]))
end
end Go.Ab
end
section
namespace Go.Ab
variable {E:Env}
end Go.Ab
end
section
namespace Go.Ab
variable {E:Env} {call:a_}
def Ev (E:Env) (call:a_) (c:Code) (s:St) (e:kR) (s':St):Prop:=∃n0,∀n,n0≤n→exec E call n c s= .ok e s'
theorem Ev.of {c:Code} {s:St} {e:kR} {s':St} (h:∀n,exec E call (n+1) c s= .ok e s'):Ev E call c s e s':=⟨1,fun n hn=>by
 obtain ⟨k,rfl⟩:∃k,n=k+1:=⟨n - 1,by omega⟩
 exact h k⟩
theorem Ev.seq {a b:Code} {s s1 s':St} {e:kR} (h1:Ev E call a s .normal s1) (h2:Ev E call b s1 e s'):Ev E call (.seq a b) s e s':=by
 obtain ⟨n1,h1⟩:=h1
 obtain ⟨n2,h2⟩:=h2
 refine ⟨n1+n2+1,fun n hn=>?_⟩
 obtain ⟨k,rfl⟩:∃k,n=k+1:=⟨n - 1,by omega⟩
 rw[Xs,h1 k (by omega),zN]
 exact h2 k (by omega)
theorem Ev.seq' {a b:Code} {s s':St} {e:kR} (he:e≠ .normal) (h1:Ev E call a s e s'):Ev E call (.seq a b) s e s':=by
 obtain ⟨n1,h1⟩:=h1
 refine ⟨n1+1,fun n hn=>?_⟩
 obtain ⟨k,rfl⟩:∃k,n=k+1:=⟨n - 1,by omega⟩
 rw[Xs,h1 k (by omega)]
 cases e with
 | normal=>exact absurd rfl he
 | _=>rfl
theorem Ev.loop {b:Code} {s s1 s':St} {e:kR} (h1:Ev E call b s .normal s1) (h2:Ev E call (.loop b) s1 e s'):Ev E call (.loop b) s e s':=by
 obtain ⟨n1,h1⟩:=h1
 obtain ⟨n2,h2⟩:=h2
 refine ⟨n1+n2+1,fun n hn=>?_⟩
 obtain ⟨k,rfl⟩:∃k,n=k+1:=⟨n - 1,by omega⟩
 rw[Rq,h1 k (by omega),zN]
 exact h2 k (by omega)
theorem Ev.exit {b:Code} {s s':St} {e:kR} (he:e≠ .normal) (h1:Ev E call b s e s'):Ev E call (.loop b) s e s':=by
 obtain ⟨n1,h1⟩:=h1
 refine ⟨n1+1,fun n hn=>?_⟩
 obtain ⟨k,rfl⟩:∃k,n=k+1:=⟨n - 1,by omega⟩
 rw[Rq,h1 k (by omega)]
 cases e with
 | normal=>exact absurd rfl he
 | _=>rfl
theorem Ev.ret {b:Code} {s s':St} (h1:Ev E call b s .ret s'):Ev E call (.loop b) s .ret s':=Ev.exit (by simp) h1
theorem Ev.out {b:Code} {s s':St} {i:Nat} (h1:Ev E call b s (.exit i) s'):Ev E call (.loop b) s (.exit i) s':=Ev.exit (by simp) h1
inductive nY where
 | c
 | v (x:AV)
 | q (x:AV)
 | m (x:AV)
 | n (h:ak)
 | a (obj:aK) (x:AV) (h:ak)
 | e (x:AV) (h:ak)
 | p (x:AV) (h:ak)
 | b (x:Bool)
 | l (e:kR) (s:St)
def mf:List Prop→Prop
 | []=>True
 | p::ps=>p∧mf ps
inductive R where
 | bad
 | at (e:kR) (s:St) (as_:List nY) (ps:List Prop)
def R.go (k:St→List nY→List Prop→R):R→R
 | .at .normal s as_ ps=>k s as_ ps
 | r=>r
theorem R.aby {k:St→List nY→List Prop→R} {r:R} {e:kR} {s:St} {as_:List nY} {ps:List Prop} (h:r.go k= .at e s as_ ps):(∃s1 ui rX,r= .at .normal s1 ui rX∧k s1 ui rX= .at e s as_ ps)∨(r= .at e s as_ ps∧e≠ .normal):=by
 unfold R.go at h
 split at h
 · exact .inl ⟨_,_,_,rfl,h⟩
 · rename_i ep
   refine .inr ⟨h,fun he=>?_⟩
   subst he;exact ep _ _ _ h
def abz (E:Env) (ts:List AV):List Operand→List TypeId→Option AV
 | [x],[t]=>bJ (E.P.underlying t) (dZ E ts x)
 | _,_=>none
def zP (c a b:Option AV):Option AV:=match c with
 | some (.bool true)=>a
 | some (.bool false)=>b
 | _=>none
theorem VD {ts:List AV} (c a b:Operand):bp E ts (.pick c a b)=zP (dZ E ts c) (dZ E ts a) (dZ E ts b):=by
 simp only[bp]
 generalize dZ E ts c=x
 cases x with
 | none=>rfl
 | some v=>cases v with
   | bool b=>cases b<;>rfl
   | _=>rfl
theorem Ru {c:Bool} {a b:Option AV} (h:c=true):zP (some (.bool c)) a b=a:=by rw[h];rfl
theorem bf {c:Bool} {a b:Option AV} (h:c=false):zP (some (.bool c)) a b=b:=by rw[h];rfl
def VE (E:Env) (ts:List AV) (op:Op):Option AV:=match op with
 | .indexAddr t x i=>b_ E (E.P.underlying t) (dZ E ts x) (dZ E ts i)
 | .index t x i=>vH E (E.P.underlying t) (dZ E ts x) (dZ E ts i)
 | .binOp op t x y _=>fZ E op t (isConst x) (isConst y) (dZ E ts x) (dZ E ts y)
 | .pick c a b=>zP (dZ E ts c) (dZ E ts a) (dZ E ts b)
 | .call c=>match c.callee with
   | .builtin .len=>abz E ts c.args.toList c.argTypes.toList
   | _=>none
 | _=>none
theorem BT {α:Type} {a:Array α} {l:List α} (h:a.toList=l):a=l.toArray:=by rw[←h]
theorem MJ {ts:List AV} {op:Op} {v:AV} (e:VE E ts op=some v):bp E ts op=some v:=by
 unfold VE at e
 split at e
 · rw[←Iq] at e;exact e
 · rw[←VC] at e;exact e
 · rename_i o t x y t';exact (Vs o t t' x y).trans e
 · rename_i c a b;exact (VD c a b).trans e
 · rename_i c
   obtain ⟨cl,args,tys⟩:=c
   simp only at e
   split at e
   · unfold abz at e
     split at e
     · rename_i x t hx ht
       rw[BT hx,BT ht]
       exact (abx x t).trans e
     · cases e
   · cases e
 · cases e
noncomputable def Rv (E:Env) (ts:List AV) (h:ak) (op:Op):Option AV:=match op with
 | .load t x=>Y0 (dZ E ts x) (bm E h t) none
 | op=>dM E ts h op
theorem FV {ts:List AV} {h:ak} {op:Op} {v:AV} (e:Rv E ts h op=some v):dM E ts h op=some v:=by
 unfold Rv at e
 split at e
 · rw[Y1];exact e
 · exact e
def D' (E:Env) (d:Option TypeDesc) (l c:Option AV):Option (aK×(Nat→AV)):=match d,l,c with
 | some (.slice elem),some (.int _ len),some (.int _ cap)=>match bQ E elem,gD E elem,fl E elem with
   | some n,some bytes,some z=>
     if 0≤len∧len≤cap∧cap<2^30∧(bytes:Int)*cap≤2^47∧z.cells.length=n then
      some (.cells (da z.cells cap.toNat) elem false,fun i=> .slice i 0 len.toNat cap.toNat false)
     else none
   | _,_,_=>none
 | _,_,_=>none
def VF (E:Env) (ts:List AV) (op:Op):Option (aK×(Nat→AV)):=match op with
 | .makeSlice t l c=>D' E (E.P.underlying t) (dZ E ts l) (dZ E ts c)
 | op=>ek E ts op
theorem MK (ts:List AV) (op:Op):VF E ts op=ek E ts op:=by
 unfold VF
 split
 · rename_i t l c
   simp only[ek]
   generalize E.P.underlying t=d
   generalize dZ E ts l=x
   generalize dZ E ts c=y
   rfl
 · rfl
noncomputable def VG (E:Env) (call:a_) (ts:List AV) (h:ak) (rc:RC) (o:Oper) (x:AV) (h':ak):Prop:=match o.op with
 | .store t a v=>match dZ E ts a,dZ E ts v with
   | some a,some v=>x=AV.undef∧eX E h t a v=some h'
   | _,_=>False
 | .call c=>match c.callee with
   | .builtin .append=>match f' E ts c.args.toList with
     | some [s,y]=>cP E h c.argTypes s y=some (x,h')
     | _=>False
   | .builtin .copy=>match f' E ts c.args.toList with
     | some [s,y]=>uW E h c.argTypes s y=some (x,h')
     | _=>False
   | .value _=>match callee E ts c with
     | some (f,args)=>match j9 E f with
       | some g=>g args h=some (x,h')
       | none=>call f args h= .ret x h'
     | none=>False
   | _=>dr E call ts h rc o= .val x h'
 | .convert src dst y=>DI E h src dst (dZ E ts y)=some (x,h')
 | .mapUpdate t m k y=>match dZ E ts m,dZ E ts k,dZ E ts y with
   | some m,some k,some y=>x=AV.undef∧dA E h t m k y=some h'
   | _,_,_=>False
 | _=>dr E call ts h rc o= .val x h'
theorem ML {ts:List AV} {h:ak} {rc:RC} {o:Oper} {x:AV} {h':ak} (e:VG E call ts h rc o x h'):dr E call ts h rc o= .val x h':=by
 unfold VG at e
 split at e
 · rename_i t a v ho
   split at e
   · rename_i a' v' h1 h2
     obtain ⟨rfl,e⟩:=e
     unfold dr
     simp only[ho,h1,h2,e]
   · exact e.elim
 · rename_i c ho
   split at e
   · rename_i hc
     split at e
     · rename_i h1
       unfold dr
       simp only[ho,hc,h1,e]
     · exact e.elim
   · rename_i hc
     split at e
     · rename_i h1
       unfold dr
       simp only[ho,hc,h1,e]
     · exact e.elim
   · rename_i hc
     split at e
     · rename_i h1
       split at e
       · rename_i h2
         unfold dr
         simp only[ho,hc,h1,h2,e]
       · rename_i h2
         unfold dr
         simp only[ho,hc,h1,h2,e]
     · exact e.elim
   · exact e
 · rename_i src dst y ho
   unfold dr
   simp only[ho,e]
 · rename_i t m k y ho
   split at e
   · rename_i m' k' y' h1 h2 h3
     obtain ⟨rfl,e⟩:=e
     unfold dr
     simp only[ho,h1,h2,h3,e]
   · exact e.elim
 · exact e
def Ow {β:Type} (k:List AV→β):List AV→Nat→AV→β
 | [],_,_=>k []
 | _::xs,0,v=>k (v::xs)
 | x::xs,d+1,v=>Ow (fun ys=>k (x::ys)) xs d v
theorem FW {β:Type}:∀(k:List AV→β) (ts:List AV) (d:Nat) (v:AV),Ow k ts d v=k (ts.set d v)
 | k,[],_,_=>by simp [Ow]
 | k,_::xs,0,v=>rfl
 | k,x::xs,d+1,v=>by rw[Ow,FW];rfl
def tc (s:St) (d:Option Tmp) (v:AV) (h:ak) (as_:List nY) (ps:List Prop):R:=match d with
 | some i=>Ow (fun ts=> .at .normal ⟨ts,h,s.ds,s.rc⟩ as_ ps) s.ts i v
 | none=> .at .normal ⟨s.ts,h,s.ds,s.rc⟩ as_ ps
theorem m7 (s:St) (d:Option Tmp) (v:AV) (h:ak) (as_:List nY) (ps:List Prop):Go.Ab.tc s d v h as_ ps= .at .normal {s with ts:=dR s.ts d v,h:=h} as_ ps:=by
 cases d with
 | none=>rfl
 | some i=>exact FW _ _ _ _
noncomputable def Ir (E:Env) (call:a_) (o:Oper) (s:St) (as_:List nY) (ps:List Prop):R:=match as_ with
 | .c::as_=>match bp E s.ts o.op with
   | some v=>tc s o.dst v s.h as_ ps
   | none=> .bad
 | .v x::as_=>tc s o.dst x s.h as_ ((VE E s.ts o.op=some x)::ps)
 | .q x::as_=>tc s o.dst x s.h as_ ((bp E s.ts o.op=some x)::ps)
 | .m x::as_=>match bp E s.ts o.op with
   | none=>tc s o.dst x s.h as_ ((Rv E s.ts s.h o.op=some x)::ps)
   | some _=> .bad
 | .n h'::as_=>match bp E s.ts o.op,dM E s.ts s.h o.op,ek E s.ts o.op with
   | none,none,some (obj,mk)=>tc s o.dst (mk s.h.nx) h' as_ ((s.h.new obj=some h')::ps)
   | _,_,_=> .bad
 | .a obj x h'::as_=>match bp E s.ts o.op,dM E s.ts s.h o.op with
   | none,none=>tc s o.dst x h' as_ ((∃mk,VF E s.ts o.op=some (obj,mk)∧mk s.h.nx=x)::(s.h.new obj=some h')::ps)
   | _,_=> .bad
 | .e x h'::as_=>match bp E s.ts o.op,dM E s.ts s.h o.op,ek E s.ts o.op with
   | none,none,none=>tc s o.dst x h' as_ (VG E call s.ts s.h s.rc o x h'::ps)
   | _,_,_=> .bad
 | .p x h'::as_=>match bp E s.ts o.op,dM E s.ts s.h o.op,ek E s.ts o.op with
   | none,none,none=> .at (.panic x) {s with h:=h'} as_ ((dr E call s.ts s.h s.rc o= .panic x h')::ps)
   | _,_,_=> .bad
 | _=> .bad
theorem zQ {o:Oper} {s:St} {as_:List nY} {ps:List Prop} {e:kR} {s':St} {wj:List nY} {sg:List Prop} (hr:Ir E call o s as_ ps= .at e s' wj sg) (hp:mf sg):mf ps∧EL E call s o= .ok e s':=by
 have seen:∀{x:AV},(bp E s.ts o.op=some x∨(bp E s.ts o.op=none∧dM E s.ts s.h o.op=some x))→EL E call s o= .ok .normal {s with ts:=dR s.ts o.dst x}:=by
  rintro x (h | ⟨h1,h2⟩)<;>unfold EL
  · rw[h]
  · rw[h1,h2]
 unfold Ir at hr
 split at hr
 · split at hr
   · rename_i v hv
     rw[m7] at hr;cases hr
     exact ⟨hp,seen (.inl hv)⟩
   · cases hr
 · rw[m7] at hr;cases hr
   exact ⟨hp.2,seen (.inl (MJ hp.1))⟩
 · rw[m7] at hr;cases hr
   exact ⟨hp.2,seen (.inl hp.1)⟩
 · split at hr
   · rename_i h1
     rw[m7] at hr;cases hr
     exact ⟨hp.2,seen (.inr ⟨h1,FV hp.1⟩)⟩
   · cases hr
 · split at hr
   · rename_i h1 h2 h3
     rw[m7] at hr;cases hr
     refine ⟨hp.2,?_⟩
     unfold EL
     simp only[h1,h2,h3,hp.1]
   · cases hr
 · split at hr
   · rename_i h1 h2
     rw[m7] at hr;cases hr
     obtain ⟨⟨mk,h3,h4⟩,h5,hp⟩:=hp
     rw[MK] at h3
     refine ⟨hp,?_⟩
     unfold EL
     simp only[h1,h2,h3,h4,h5]
   · cases hr
 · split at hr
   · rename_i h1 h2 h3
     rw[m7] at hr;cases hr
     refine ⟨hp.2,?_⟩
     unfold EL
     simp only[h1,h2,h3,ML hp.1]
   · cases hr
 · split at hr
   · rename_i h1 h2 h3
     cases hr
     refine ⟨hp.2,?_⟩
     unfold EL
     simp only[h1,h2,h3,hp.1]
   · cases hr
 · cases hr
inductive Gd where
 | yes
 | no
 | ask (v want:Bool)
def Is (want:Bool):Option AV→Gd
 | some (.bool v)=> .ask v want
 | _=> .no
def FX (ops:Array Oper) (ts:List AV) (g:Option (Nat×Bool)):Gd:=match g with
 | none=> .yes
 | some (j,want)=>match (ops[j]?).bind (·.dst) with
   | none=> .no
   | some d=>Is want ts[d]?
theorem Ea (ops:Array Oper) (ts:List AV) (o:Oper):cu ops ts o=(match FX ops ts o.guard with
 | .yes=>true
 | .no=>false
 | .ask v want=>v==want):=by
 unfold cu FX
 cases o.guard with
 | none=>rfl
 | some q=>
   obtain ⟨j,want⟩:=q
   simp only
   cases (ops[j]?).bind (·.dst) with
   | none=>rfl
   | some d=>
     simp only
     generalize ts[d]? =y
     unfold Is
     cases y with
     | none=>rfl
     | some z=>cases z<;>rfl
noncomputable def pN (E:Env) (call:a_) (ops:Array Oper):List Oper→St→List nY→List Prop→R
 | [],s,as_,ps=> .at .normal s as_ ps
 | o::rest,s,as_,ps=>match FX ops s.ts o.guard with
   | .yes=>(Ir E call o s as_ ps).go (pN E call ops rest)
   | .no=>(tc s o.dst AV.undef s.h as_ ps).go (pN E call ops rest)
   | .ask v want=>match as_ with
     | .b x::as_=>bif x==want then (Ir E call o s as_ ((v=x)::ps)).go (pN E call ops rest) else (tc s o.dst AV.undef s.h as_ ((v=x)::ps)).go (pN E call ops rest)
     | _=> .bad
theorem xb {ops:Array Oper}:∀(l:List Oper) (s:St) (as_:List nY) (ps:List Prop) (e:kR) (s':St) (wj:List nY) (sg:List Prop),pN E call ops l s as_ ps= .at e s' wj sg→mf sg→mf ps∧kB E call ops l s= .ok e s'
 | [],s,as_,ps,e,s',wj,sg,hr,hp=>by cases hr;exact ⟨hp,rfl⟩
 | o::rest,s,as_,ps,e,s',wj,sg,hr,hp=>by
   have ih:=xb (ops:=ops) rest
   have Y4:∀(ui:List nY) (rX:List Prop),(Ir E call o s ui rX).go (pN E call ops rest)= .at e s' wj sg→mf rX∧(cu ops s.ts o=true→kB E call ops (o::rest) s= .ok e s'):=by
    intro ui rX h
    rcases R.aby h with ⟨s1,Ul,WY,h1,h2⟩ | ⟨h1,ep⟩
    · obtain ⟨h3,h4⟩:=ih _ _ _ _ _ _ _ h2 hp
      obtain ⟨h5,h6⟩:=zQ h1 h3
      refine ⟨h5,fun hw=>?_⟩
      unfold kB
      rw[if_pos hw,h6];exact h4
    · obtain ⟨h5,h6⟩:=zQ h1 hp
      refine ⟨h5,fun hw=>?_⟩
      unfold kB
      rw[if_pos hw,h6]
      cases e with
      | normal=>exact absurd rfl ep
      | _=>rfl
   have Y5:∀(ui:List nY) (rX:List Prop),(tc s o.dst AV.undef s.h ui rX).go (pN E call ops rest)= .at e s' wj sg→mf rX∧(cu ops s.ts o=false→kB E call ops (o::rest) s= .ok e s'):=by
    intro ui rX h
    rw[m7] at h
    obtain ⟨h3,h4⟩:=ih _ _ _ _ _ _ _ (show pN E call ops rest _ ui rX=_ from h) hp
    refine ⟨h3,fun hw=>?_⟩
    unfold kB
    rw[if_neg (by rw[hw];exact Bool.false_ne_true)]
    exact h4
   have hg:=Ea ops s.ts o
   unfold pN at hr
   split at hr
   · rename_i h1;rw[h1] at hg;exact ⟨(Y4 _ _ hr).1,(Y4 _ _ hr).2 hg⟩
   · rename_i h1;rw[h1] at hg;exact ⟨(Y5 _ _ hr).1,(Y5 _ _ hr).2 hg⟩
   · rename_i v want h1
     rw[h1] at hg
     split at hr
     · rename_i x ui
       cases hx:x==want with
       | true=>
         rw[hx] at hr
         obtain ⟨⟨h2,h3⟩,h4⟩:=Y4 _ _ hr
         exact ⟨h3,h4 (by rw[hg,h2];exact hx)⟩
       | false=>
         rw[hx] at hr
         obtain ⟨⟨h2,h3⟩,h4⟩:=Y5 _ _ hr
         exact ⟨h3,h4 (by rw[hg,h2];exact hx)⟩
     · cases hr
inductive RT where
 | bad
 | ok (tr:List Step) (hs:List ak) (s:St) (as_:List nY) (ps:List Prop)
def RT.step (x:Step):RT→RT
 | .ok tr hs s as_ ps=> .ok (x::tr) hs s as_ ps
 | .bad=> .bad
def RT.bound (x:Step) (h:ak):RT→RT
 | .ok tr hs s as_ ps=> .ok (x::tr) (h::hs) s as_ ps
 | .bad=> .bad
def RT.put (s:St) (d:Option Tmp) (v:AV) (h:ak) (k:St→RT):RT:=match d with
 | some i=>Ow (fun ts=>k ⟨ts,h,s.ds,s.rc⟩) s.ts i v
 | none=>k ⟨s.ts,h,s.ds,s.rc⟩
theorem RT.put_eq (s:St) (d:Option Tmp) (v:AV) (h:ak) (k:St→RT):RT.put s d v h k=k {s with ts:=dR s.ts d v,h:=h}:=by
 cases d with
 | none=>rfl
 | some i=>exact FW _ _ _ _
noncomputable def It (E:Env) (call:a_) (i k:Nat) (o:Oper) (s:St) (as_:List nY) (ps:List Prop) (go:Nat→St→List nY→List Prop→RT):RT:=match as_ with
 | .e x h'::as_=>(RT.put s o.dst x h' fun s'=>go (k+1) s' as_ (VG E call s.ts s.h s.rc o x h'::ps)).bound ⟨i,k,s.ts,x,.uz h'⟩ s.h
 | _=> .bad
noncomputable def Iu (E:Env) (i k:Nat) (o:Oper) (s:St) (as_:List nY) (ps:List Prop) (go:Nat→St→List nY→List Prop→RT):RT:=match as_ with
 | .c::as_=>match bp E s.ts o.op with
   | some v=>(RT.put s o.dst v s.h fun s'=>go k s' as_ ps).step ⟨i,k,s.ts,v,.gV⟩
   | none=> .bad
 | .v x::as_=>(RT.put s o.dst x s.h fun s'=>go k s' as_ ((VE E s.ts o.op=some x)::ps)).step ⟨i,k,s.ts,x,.gV⟩
 | .q x::as_=>(RT.put s o.dst x s.h fun s'=>go k s' as_ ((bp E s.ts o.op=some x)::ps)).step ⟨i,k,s.ts,x,.gV⟩
 | .m x::as_=>match bp E s.ts o.op with
   | none=>(RT.put s o.dst x s.h fun s'=>go k s' as_ ((Rv E s.ts s.h o.op=some x)::ps)).step ⟨i,k,s.ts,x,.red⟩
   | some _=> .bad
 | .n h'::as_=>match bp E s.ts o.op,dM E s.ts s.h o.op,ek E s.ts o.op with
   | none,none,some (obj,mk)=>(RT.put s o.dst (mk s.h.nx) h' fun s'=>go k s' as_ ((s.h.new obj=some h')::ps)).step ⟨i,k,s.ts,mk s.h.nx,.sH s.h.nx obj⟩
   | _,_,_=> .bad
 | .a obj x h'::as_=>match bp E s.ts o.op,dM E s.ts s.h o.op with
   | none,none=>(RT.put s o.dst x h' fun s'=>go k s' as_ ((∃mk,VF E s.ts o.op=some (obj,mk)∧mk s.h.nx=x)::(s.h.new obj=some h')::ps)).step ⟨i,k,s.ts,x,.sH s.h.nx obj⟩
   | _,_=> .bad
 | _=> .bad
noncomputable def runT (E:Env) (call:a_) (ops:Array Oper):List Nat→Nat→St→List nY→List Prop→RT
 | [],_,s,as_,ps=> .ok [] [s.h] s as_ ps
 | i::rest,k,s,as_,ps=>match ops[i]? with
   | none=> .bad
   | some o=>match FX ops s.ts o.guard with
     | .yes=>bif fJ E o.op then It E call i k o s as_ ps (runT E call ops rest) else Iu E i k o s as_ ps (runT E call ops rest)
     | .no=>bif fJ E o.op then (RT.put s o.dst AV.undef s.h fun s'=>runT E call ops rest (k+1) s' as_ ps).bound ⟨i,k,s.ts,AV.undef,.off⟩ s.h else (RT.put s o.dst AV.undef s.h fun s'=>runT E call ops rest k s' as_ ps).step ⟨i,k,s.ts,AV.undef,.off⟩
     | .ask v want=>match as_ with
       | .b x::as_=>bif x==want then (bif fJ E o.op then It E call i k o s as_ ((v=x)::ps) (runT E call ops rest) else Iu E i k o s as_ ((v=x)::ps) (runT E call ops rest))
         else (bif fJ E o.op then (RT.put s o.dst AV.undef s.h fun s'=>runT E call ops rest (k+1) s' as_ ((v=x)::ps)).bound ⟨i,k,s.ts,AV.undef,.off⟩ s.h else (RT.put s o.dst AV.undef s.h fun s'=>runT E call ops rest k s' as_ ((v=x)::ps)).step ⟨i,k,s.ts,AV.undef,.off⟩)
       | _=> .bad
theorem RT.rj {x:Step} {r:RT} {tr:List Step} {hs:List ak} {s:St} {as_:List nY} {ps:List Prop} (h:r.step x= .ok tr hs s as_ ps):∃JK,tr=x::JK∧r= .ok JK hs s as_ ps:=by
 cases r with
 | bad=>cases h
 | ok a b c d e=>cases h;exact ⟨_,rfl,rfl⟩
theorem RT.Iv {x:Step} {g:ak} {r:RT} {tr:List Step} {hs:List ak} {s:St} {as_:List nY} {ps:List Prop} (h:r.bound x g= .ok tr hs s as_ ps):∃JK qQ,tr=x::JK∧hs=g::qQ∧r= .ok JK qQ s as_ ps:=by
 cases r with
 | bad=>cases h
 | ok a b c d e=>cases h;exact ⟨_,_,rfl,rfl,rfl⟩
theorem BU {ops:Array Oper}:∀(l:List Nat) (k:Nat) (s:St) (as_:List nY) (ps:List Prop) (tr:List Step) (hs:List ak) (s':St) (wj:List nY) (sg:List Prop),
 runT E call ops l k s as_ ps= .ok tr hs s' wj sg→mf sg→mf ps∧cU E call ops l k s= .ok tr hs s'
 | [],k,s,as_,ps,tr,hs,s',wj,sg,hr,hp=>by cases hr;exact ⟨hp,rfl⟩
 | i::rest,k,s,as_,ps,tr,hs,s',wj,sg,hr,hp=>by
   have ih:=BU (ops:=ops) rest
   unfold runT at hr
   split at hr
   · cases hr
   rename_i o hi
   have hE:∀{ui:List nY} {rX:List Prop},fJ E o.op=true→It E call i k o s ui rX (runT E call ops rest)= .ok tr hs s' wj sg→mf rX∧(cu ops s.ts o=true→cU E call ops (i::rest) k s= .ok tr hs s'):=by
    intro ui rX he h
    unfold It at h
    split at h
    · rename_i x h' Ul
      rw[RT.put_eq] at h
      obtain ⟨Mf,sA,rfl,rfl,h9⟩:=RT.Iv h
      obtain ⟨h1,h2⟩:=ih _ _ _ _ _ _ _ _ _ h9 hp
      refine ⟨h1.2,fun hw=>?_⟩
      unfold cU
      simp only[hi,he,hw,if_true,ML h1.1,h2]
      rfl
    · cases h
   have hN:∀{ui:List nY} {rX:List Prop},fJ E o.op=false→Iu E i k o s ui rX (runT E call ops rest)= .ok tr hs s' wj sg→mf rX∧(cu ops s.ts o=true→cU E call ops (i::rest) k s= .ok tr hs s'):=by
    intro ui rX he h
    unfold Iu at h
    split at h
    · split at h
      · rename_i v hv
        rw[RT.put_eq] at h
        obtain ⟨Mf,rfl,h9⟩:=RT.rj h
        obtain ⟨h1,h2⟩:=ih _ _ _ _ _ _ _ _ _ h9 hp
        refine ⟨h1,fun hw=>?_⟩
        unfold cU
        simp only[hi,he,hw,if_true,hv,Bool.false_eq_true,if_false]
        rw[h2]
        rfl
      · cases h
    · rw[RT.put_eq] at h
      obtain ⟨Mf,rfl,h9⟩:=RT.rj h
      obtain ⟨h1,h2⟩:=ih _ _ _ _ _ _ _ _ _ h9 hp
      refine ⟨h1.2,fun hw=>?_⟩
      unfold cU
      simp only[hi,he,hw,if_true,MJ h1.1,Bool.false_eq_true,if_false]
      rw[h2]
      rfl
    · rw[RT.put_eq] at h
      obtain ⟨Mf,rfl,h9⟩:=RT.rj h
      obtain ⟨h1,h2⟩:=ih _ _ _ _ _ _ _ _ _ h9 hp
      refine ⟨h1.2,fun hw=>?_⟩
      unfold cU
      simp only[hi,he,hw,if_true,h1.1,Bool.false_eq_true,if_false]
      rw[h2]
      rfl
    · split at h
      · rename_i hv
        rw[RT.put_eq] at h
        obtain ⟨Mf,rfl,h9⟩:=RT.rj h
        obtain ⟨h1,h2⟩:=ih _ _ _ _ _ _ _ _ _ h9 hp
        refine ⟨h1.2,fun hw=>?_⟩
        unfold cU
        simp only[hi,he,hw,if_true,hv,FV h1.1,Bool.false_eq_true,if_false]
        rw[h2]
        rfl
      · cases h
    · split at h
      · rename_i q1 q2 q3
        rw[RT.put_eq] at h
        obtain ⟨Mf,rfl,h9⟩:=RT.rj h
        obtain ⟨h1,h2⟩:=ih _ _ _ _ _ _ _ _ _ h9 hp
        refine ⟨h1.2,fun hw=>?_⟩
        unfold cU
        simp only[hi,he,hw,if_true,q1,q2,q3,h1.1,Bool.false_eq_true,if_false,h2]
        rfl
      · cases h
    · split at h
      · rename_i q1 q2
        rw[RT.put_eq] at h
        obtain ⟨Mf,rfl,h9⟩:=RT.rj h
        obtain ⟨h1,h2⟩:=ih _ _ _ _ _ _ _ _ _ h9 hp
        obtain ⟨⟨mk,h3,h4⟩,h5,h6⟩:=h1
        rw[MK] at h3
        subst h4
        refine ⟨h6,fun hw=>?_⟩
        unfold cU
        simp only[hi,he,hw,if_true,q1,q2,h3,h5,Bool.false_eq_true,if_false,h2]
        rfl
      · cases h
    · cases h
   have hO:∀{ui:List nY} {rX:List Prop},(bif fJ E o.op then (RT.put s o.dst AV.undef s.h fun s'=>runT E call ops rest (k+1) s' ui rX).bound ⟨i,k,s.ts,AV.undef,.off⟩ s.h else (RT.put s o.dst AV.undef s.h fun s'=>runT E call ops rest k s' ui rX).step ⟨i,k,s.ts,AV.undef,.off⟩)= .ok tr hs s' wj sg→
    mf rX∧(cu ops s.ts o=false→cU E call ops (i::rest) k s= .ok tr hs s'):=by
    intro ui rX h
    cases he:fJ E o.op with
    | true=>
      rw[he,cond_true,RT.put_eq] at h
      obtain ⟨Mf,sA,rfl,rfl,h9⟩:=RT.Iv h
      obtain ⟨h1,h2⟩:=ih _ _ _ _ _ _ _ _ _ h9 hp
      refine ⟨h1,fun hw=>?_⟩
      unfold cU
      simp only[hi,he,hw,if_true,Bool.false_eq_true,if_false]
      rw[h2]
      rfl
    | false=>
      rw[he,cond_false,RT.put_eq] at h
      obtain ⟨Mf,rfl,h9⟩:=RT.rj h
      obtain ⟨h1,h2⟩:=ih _ _ _ _ _ _ _ _ _ h9 hp
      refine ⟨h1,fun hw=>?_⟩
      unfold cU
      simp only[hi,he,hw,Bool.false_eq_true,if_false]
      rw[h2]
      rfl
   have hY:∀{ui:List nY} {rX:List Prop},(bif fJ E o.op then It E call i k o s ui rX (runT E call ops rest) else Iu E i k o s ui rX (runT E call ops rest))= .ok tr hs s' wj sg→
    mf rX∧(cu ops s.ts o=true→cU E call ops (i::rest) k s= .ok tr hs s'):=by
    intro ui rX h
    cases he:fJ E o.op with
    | true=>rw[he] at h;exact hE he h
    | false=>rw[he] at h;exact hN he h
   have hg:=Ea ops s.ts o
   split at hr
   · rename_i h1;rw[h1] at hg;exact ⟨(hY hr).1,(hY hr).2 hg⟩
   · rename_i h1;rw[h1] at hg;exact ⟨(hO hr).1,(hO hr).2 hg⟩
   · rename_i v want h1
     rw[h1] at hg
     split at hr
     · rename_i x ui
       cases hx:x==want with
       | true=>
         rw[hx] at hr
         obtain ⟨⟨h2,h3⟩,h4⟩:=hY hr
         exact ⟨h3,h4 (by rw[hg,h2];exact hx)⟩
       | false=>
         rw[hx] at hr
         obtain ⟨⟨h2,h3⟩,h4⟩:=hO hr
         exact ⟨h3,h4 (by rw[hg,h2];exact hx)⟩
     · cases hr
noncomputable def KC (E:Env) (ops:Array Oper) (x:Step) (h:ak) (ps:List Prop):List Prop:=match x.kind with
 | .red=>match ops[x.i]? with
   | some o=>(AV.same 20 x.v x.v=true)::(Rv E x.ts h o.op=some x.v)::ps
   | none=>False::ps
 | .sH n obj=>(∃o,h.get n=some o∧aK.same o obj=true)::ps
 | _=>ps
noncomputable def KD (E:Env) (ops:Array Oper) (x:Step):List ak→List Prop→List Prop
 | [],ps=>ps
 | h::hs,ps=>KD E ops x hs (KC E ops x h ps)
noncomputable def xe (E:Env) (ops:Array Oper) (bE:List Nat) (an:List (List Nat)) (hs:List ak):List Step→List Prop→List Prop
 | [],ps=>ps
 | x::tr,ps=>xe E ops bE an hs tr (KD E ops x ((hs.drop x.k).take (kC bE an x.i+1 - x.k)) ps)
theorem Ox {ops:Array Oper} {x:Step} {h:ak} {ps:List Prop} (hc:mf (KC E ops x h ps)):mf ps∧jN E ops x h=true:=by
 unfold KC at hc
 unfold jN
 split at hc
 · rename_i hk
   simp only[hk]
   split at hc
   · rename_i o ho
     have gE:ops.getD x.i default=o:=by simp [Array.getD_eq_getD_getElem?,ho]
     simp only[gE,FV hc.2.1,hc.1]
     exact ⟨hc.2.2,trivial⟩
   · exact hc.1.elim
 · rename_i n obj hk
   obtain ⟨⟨o,h1,h2⟩,h3⟩:=hc
   simp only[hk,h1,h2]
   exact ⟨h3,trivial⟩
 · rename_i h1 h2
   refine ⟨hc,?_⟩
   split
   · rename_i hk;exact absurd hk (by assumption)
   · rename_i hk;exact absurd hk (h2 _ _)
   · rfl
theorem Eb {ops:Array Oper} {x:Step}:∀(hs:List ak) (ps:List Prop),mf (KD E ops x hs ps)→mf ps∧hs.all (jN E ops x)=true
 | [],ps,hc=>⟨hc,rfl⟩
 | h::hs,ps,hc=>by
   obtain ⟨h1,h2⟩:=Eb hs _ hc
   obtain ⟨h3,h4⟩:=Ox h1
   exact ⟨h3,by simp only[List.all_cons,h4,h2,Bool.and_self]⟩
theorem zR {ops:Array Oper} {bE:List Nat} {an:List (List Nat)} {hs:List ak}:∀(tr:List Step) (ps:List Prop),mf (xe E ops bE an hs tr ps)→
 mf ps∧(tr.all fun x=>((hs.drop x.k).take (kC bE an x.i+1 - x.k)).all (jN E ops x))=true
 | [],ps,hc=>⟨hc,rfl⟩
 | x::tr,ps,hc=>by
   obtain ⟨h1,h2⟩:=zR tr _ hc
   obtain ⟨h3,h4⟩:=Eb _ _ h1
   exact ⟨h3,by simp only[List.all_cons,h4,h2,Bool.and_self]⟩
noncomputable def Rw (l:List Nat) (ps:List Prop):List Prop:=match l with
 | []=>ps
 | [_]=>ps
 | l=>(nodup l=true)::ps
noncomputable def FY (E:Env) (call:a_) (ops:Array Oper) (s:St) (as_:List nY) (ps:List Prop):R:=match sG E ops with
 | none=> .bad
 | some pl=>match runT E call ops pl.order 0 s as_ ps with
   | .ok tr hs s' wj sg=> .at .normal s' wj (Rw (qL tr) (xe E ops pl.bE pl.an hs tr sg))
   | .bad=> .bad
theorem Dh {ops:Array Oper} {s:St} {as_:List nY} {ps:List Prop} {e:kR} {s':St} {wj:List nY} {sg:List Prop} (hr:FY E call ops s as_ ps= .at e s' wj sg) (hp:mf sg):mf ps∧wu E call ops s= .ok e s':=by
 unfold FY at hr
 split at hr
 · cases hr
 rename_i pl N0
 split at hr
 · rename_i tr hs s1 ui rX h1
   cases hr
   have hn:mf (xe E ops pl.bE pl.an hs tr rX)∧nodup (qL tr)=true:=by
    unfold Rw at hp
    split at hp
    · rename_i hm;exact ⟨hp,by rw[hm];rfl⟩
    · rename_i hm;exact ⟨hp,by rw[hm];rfl⟩
    · exact ⟨hp.2,hp.1⟩
   obtain ⟨h2,h3⟩:=zR _ _ hn.1
   obtain ⟨h4,h5⟩:=BU _ _ _ _ _ _ _ _ _ _ h1 h2
   refine ⟨h4,?_⟩
   unfold wu
   simp only[N0,h5]
   have:qM E ops pl tr hs=true:=by
    unfold qM
    rw[hn.2,Bool.true_and]
    exact h3
   rw[if_pos this]
 · cases hr
noncomputable def run (E:Env) (call:a_):Nat→Code→St→List nY→List Prop→R
 | 0,_,_,_,_=> .bad
 | n+1,c,s,as_,ps=>match c with
   | .skip=> .at .normal s as_ ps
   | .ret=> .at .ret s as_ ps
   | .exit i=> .at (.exit i) s as_ ps
   | .seq a b=>match run E call n a s as_ ps with
     | .at .normal s1 ui rX=>run E call n b s1 ui rX
     | r=>r
   | .cond x a b=>match as_ with
     | .b v::as_=>match dZ E s.ts x with
       | some (.bool u)=>bif v then run E call n a s as_ ((u=true)::ps) else run E call n b s as_ ((u=false)::ps)
       | _=> .bad
     | .l e s'::as_=> .at e s' as_ (Ev E call (.cond x a b) s e s'::ps)
     | _=> .bad
   | .block id b=>match run E call n b s as_ ps with
     | .at (.exit j) s1 ui rX=>bif Nat.beq j id then .at .normal s1 ui rX else .at (.exit j) s1 ui rX
     | r=>r
   | .loop b=>match as_ with
     | .l e s'::as_=> .at e s' as_ (Ev E call (.loop b) s e s'::ps)
     | _=> .bad
   | .rangeFunc f sg a b=>match as_ with
     | .l e s'::as_=> .at e s' as_ (Ev E call (.rangeFunc f sg a b) s e s'::ps)
     | _=> .bad
   | .region i ops draw=>match as_ with
     | .l e s'::as_=> .at e s' as_ (Ev E call (.region i ops draw) s e s'::ps)
     | as_=>bif draw then FY E call ops s as_ ps else pN E call ops ops.toList s as_ ps
   | .scope b=>run E call n b s as_ ps
   | .label _=> .at .normal s as_ ps
   | _=> .bad
theorem Ec:∀(n:Nat) (c:Code) (s:St) (as_:List nY) (ps:List Prop) (e:kR) (s':St) (wj:List nY) (sg:List Prop),run E call n c s as_ ps= .at e s' wj sg→mf sg→mf ps∧Ev E call c s e s'
 | 0,c,s,as_,ps,e,s',wj,sg,hr,hp=>by cases hr
 | n+1,c,s,as_,ps,e,s',wj,sg,hr,hp=>by
   have ih:=Ec n
   unfold run at hr
   split at hr
   · cases hr;exact ⟨hp,.of fun _=>rfl⟩
   · cases hr;exact ⟨hp,.of fun _=>rfl⟩
   · cases hr;exact ⟨hp,.of fun _=>rfl⟩
   · split at hr
     · rename_i s1 ui rX h1
       obtain ⟨h2,h3⟩:=ih _ _ _ _ _ _ _ _ hr hp
       obtain ⟨h4,h5⟩:=ih _ _ _ _ _ _ _ _ h1 h2
       exact ⟨h4,h5.seq h3⟩
     · rename_i ep
       obtain ⟨h4,h5⟩:=ih _ _ _ _ _ _ _ _ hr hp
       refine ⟨h4,h5.seq' fun he=>?_⟩
       subst he;exact ep _ _ _ hr
   · split at hr
     · rename_i v ui
       split at hr
       · rename_i u hu
         cases v with
         | true=>
           obtain ⟨⟨h1,h2⟩,n0,h3⟩:=ih _ _ _ _ _ _ _ _ hr hp
           refine ⟨h2,n0+1,fun n hn=>?_⟩
           obtain ⟨k,rfl⟩:∃k,n=k+1:=⟨n - 1,by omega⟩
           rw[Rp,hu,h1,KB];exact h3 k (by omega)
         | false=>
           obtain ⟨⟨h1,h2⟩,n0,h3⟩:=ih _ _ _ _ _ _ _ _ hr hp
           refine ⟨h2,n0+1,fun n hn=>?_⟩
           obtain ⟨k,rfl⟩:∃k,n=k+1:=⟨n - 1,by omega⟩
           rw[Rp,hu,h1,Ip];exact h3 k (by omega)
       · cases hr
     · cases hr;exact ⟨hp.2,hp.1⟩
     · cases hr
   · split at hr
     · rename_i id b _ j s1 ui rX h1
       cases hj:Nat.beq j id with
       | true=>
         rw[hj] at hr
         cases hr
         obtain ⟨h2,n0,h3⟩:=ih _ _ _ _ _ _ _ _ h1 hp
         refine ⟨h2,n0+1,fun n hn=>?_⟩
         obtain ⟨k,rfl⟩:∃k,n=k+1:=⟨n - 1,by omega⟩
         rw[FT,h3 k (by omega),zO,if_pos (Nat.eq_of_beq_eq_true hj)]
       | false=>
         rw[hj] at hr
         cases hr
         obtain ⟨h2,n0,h3⟩:=ih _ _ _ _ _ _ _ _ h1 hp
         refine ⟨h2,n0+1,fun n hn=>?_⟩
         obtain ⟨k,rfl⟩:∃k,n=k+1:=⟨n - 1,by omega⟩
         rw[FT,h3 k (by omega),zO,if_neg (Nat.ne_of_beq_eq_false hj)]
     · rename_i id b _ ep
       obtain ⟨h2,n0,h3⟩:=ih _ _ _ _ _ _ _ _ hr hp
       refine ⟨h2,n0+1,fun n hn=>?_⟩
       obtain ⟨k,rfl⟩:∃k,n=k+1:=⟨n - 1,by omega⟩
       rw[FT,h3 k (by omega)]
       cases e with
       | exit j=>exact absurd hr (ep _ _ _ _)
       | _=>rfl
   · split at hr
     · cases hr;exact ⟨hp.2,hp.1⟩
     · cases hr
   · split at hr
     · cases hr;exact ⟨hp.2,hp.1⟩
     · cases hr
   · rename_i i ops draw
     split at hr
     · cases hr;exact ⟨hp.2,hp.1⟩
     cases draw with
     | true=>
       simp only[cond_true] at hr
       obtain ⟨h1,h2⟩:=Dh hr hp
       exact ⟨h1,.of fun n=>by rw[Vr];exact h2⟩
     | false=>
       simp only[cond_false] at hr
       obtain ⟨h1,h2⟩:=xb _ _ _ _ _ _ _ _ hr hp
       exact ⟨h1,.of fun n=>by rw[Rr];exact h2⟩
   · obtain ⟨h1,n0,h2⟩:=ih _ _ _ _ _ _ _ _ hr hp
     exact ⟨h1,n0+1,fun n hn=>by
      obtain ⟨k,rfl⟩:∃k,n=k+1:=⟨n - 1,by omega⟩
      show exec E call k _ s=_
      exact h2 k (by omega)⟩
   · cases hr;exact ⟨hp,.of fun _=>rfl⟩
   · cases hr
theorem KE {n:Nat} {c:Code} {s:St} {al:List nY} {e:kR} {s':St} {ps:List Prop} (hr:run E call n c s al []= .at e s' [] ps) (hp:mf ps):Ev E call c s e s':=(Ec _ _ _ _ _ _ _ _ _ hr hp).2
theorem jJ {tmpl:(Nat→AV)→List AV} {c:Code} {s:St} {e:kR} {h:ak} {ds:List qK} {rc:RC} {L:List AV} (ev:Ev E call c s e ⟨L,h,ds,rc⟩) (hl:L=tmpl fun k=>L.getD k AV.undef):∃y,Ev E call c s e ⟨tmpl y,h,ds,rc⟩:=by
 refine ⟨fun k=>L.getD k AV.undef,?_⟩
 rw[←hl];exact ev
theorem VH {f:FuncId} {fn:Func} {c:Code} (hf:E.P.funcs[f]? =some fn) (hb:fn.body=some c) {args:List AV} {h h':ak} {ts:List AV} {x:kR} (hx:x= .normal∨x= .ret)
 (e:Ev E call c ⟨args++List.replicate (fn.ntmps - args.length) AV.undef,h,[],.no⟩ x ⟨ts,h',[],.no⟩) {vs:List AV} (hr:kS E h' ts fn.results.toList=some vs):∃n0,∀n,n0≤n→zM E call n f args h= .ret (h_ vs) h':=by
 obtain ⟨n0,e⟩:=e
 exact ⟨n0,fun n hn=>Ou hf hb hx (e n hn) hr⟩
def uD (E:Env) (call:a_) (f:FuncId) (args:List AV) (h:ak) (v:AV) (h':ak):Prop:=∃n0,∀n,n0≤n→zM E call n f args h= .ret v h'
theorem aR {f:FuncId} {fn:Func} {c:Code} {args ts0 ts:List AV} {h h':ak} {x:kR} {v:AV} (hf:E.P.funcs[f]? =some fn) (hb:fn.body=some c) (ht:args++List.replicate (fn.ntmps - args.length) AV.undef=ts0) (hx:x= .normal∨x= .ret)
 (e:Ev E call c ⟨ts0,h,[],.no⟩ x ⟨ts,h',[],.no⟩) (hr:(kS E h' ts fn.results.toList).map h_=some v):uD E call f args h v h':=by
 subst ht
 cases hv:kS E h' ts fn.results.toList with
 | none=>rw[hv] at hr;cases hr
 | some vs=>
   rw[hv] at hr
   obtain rfl:h_ vs=v:=Option.some.inj hr
   exact VH hf hb hx e hv
end Go.Ab
end
section
namespace Go.Ab
variable {E:Env}
theorem BW {t:TypeId} {c d:Bool} {k:IntKind} {a b z:Int} (h:k.wrap (a+b)=z):fZ E .add t c d (some (.int k a)) (some (.int k b))=some (.int k z):=by rw[Vt,h]
theorem BX {t:TypeId} {c d:Bool} {k:IntKind} {a b z:Int} (h:k.wrap (a - b)=z):fZ E .sub t c d (some (.int k a)) (some (.int k b))=some (.int k z):=by rw[Vu,h]
theorem KF {t:TypeId} {c d:Bool} {k:IntKind} {a b z:Int} (h:k.wrap (a*b)=z):fZ E .mul t c d (some (.int k a)) (some (.int k b))=some (.int k z):=by rw[Vv,h]
theorem fp (k:IntKind) (n:Int):AV.scalar (.int k n)=true:=rfl
theorem dV (b:Bool):AV.scalar (.bool b)=true:=rfl
theorem fq (b:List UInt8):AV.scalar (.str b)=true:=rfl
theorem ft (i o:Nat):AV.scalar (.ptr i o)=true:=rfl
theorem db (i o n c:Nat) (b:Bool):AV.scalar (.slice i o n c b)=true:=rfl
theorem iF:AV.scalar .aD=true:=rfl
theorem iG:AV.scalar .gC=true:=rfl
theorem iH:AV.scalar .dQ=true:=rfl
theorem iI:AV.scalar .nilFunc=true:=rfl
theorem iJ:AV.scalar .nilIface=true:=rfl
theorem fu (i:Nat):AV.scalar (.map i)=true:=rfl
theorem m8 {h:ak} {t:TypeId} {i o:Nat} {cs:List AV} {e:TypeId} {ro:Bool} {v:AV} (hg:h.get i=some (.cells cs e ro)) (hv:jy E t cs o=some v):bm E h t (.ptr i o)=some v:=by
 simp only[bm,hg,hv]
theorem rk {h h':ak} {o:aK} (n:h.new o=some h'):h'.get h.nx=some o:=(ak.lK n).2.2.1
theorem vI {h h':ak} {o:aK} (n:h.new o=some h'):h'.nx=h.nx+1:=(ak.lK n).2.1
theorem te {h h':ak} {o x:aK} {i:Nat} (y:Tidy h) (n:h.new o=some h') (g:h.get i=some x):h'.get i=some x:=by
 have:=y i x g
 rw[(ak.lK n).2.2.2 i (by omega)];exact g
theorem uj {h h':ak} {o:aK} (y:Tidy h) (n:h.new o=some h'):Has h h':=fun _ _ g=>te y n g
theorem lT {h h':ak} {o:aK} (y:Tidy h) (n:h.new o=some h'):Tidy h':=fun i x g=>by
 obtain ⟨_,h2,h3,h4⟩:=ak.lK n
 by_cases hx:i=h.nx
 · omega
 · rw[h4 i hx] at g;have:=y i x g;omega
theorem vJ {h:ak} (o:aK):∃h',h.new o=some h':=⟨_,ak.EN _ _⟩
theorem BY {h:ak} {t e:TypeId} {i o n:Nat} {cs:List AV} {v:AV} (g:h.get i=some (.cells cs e false)) (hs:bQ E t=some n) (hv:v.cells.length=n) (ho:o+n≤cs.length) (hk:v.cells.all AV.scalar=true):∃h',eX E h t (.ptr i o) v=some h':=by
 refine ⟨h.put i (some (.cells (setFrom cs o v.cells) e false)),?_⟩
 simp only[eX,g,hs]
 rw[if_pos ⟨hv,ho,hk⟩]
theorem tf {h h':ak} {t e:TypeId} {i o:Nat} {cs:List AV} {v:AV} (s:eX E h t (.ptr i o) v=some h') (g:h.get i=some (.cells cs e false)):h'=h.put i (some (.cells (setFrom cs o v.cells) e false)):=by
 simp only[eX,g] at s
 split at s
 · rename_i h1 _
   cases h1
   split at s
   · exact (Option.some.inj s).symm
   · cases s
 · cases s
theorem Ed {h h':ak} {t e:TypeId} {i o:Nat} {cs:List AV} {v:AV} (y:Tidy h) (s:eX E h t (.ptr i o) v=some h') (g:h.get i=some (.cells cs e false)):h'.get i=some (.cells (setFrom cs o v.cells) e false):=by
 rw[tf s g]
 have:=y i _ g
 exact ak.di _
theorem BZ {h h':ak} {t e:TypeId} {i j o:Nat} {cs:List AV} {v:AV} {x:aK} (y:Tidy h) (s:eX E h t (.ptr i o) v=some h') (g:h.get i=some (.cells cs e false)) (hj:j≠i) (gx:h.get j=some x):h'.get j=some x:=by
 rw[tf s g]
 have:=y i _ g
 rw[ak.bR (Ne.symm hj)];exact gx
theorem B0 {h h':ak} {t e:TypeId} {i o:Nat} {cs:List AV} {v:AV} (s:eX E h t (.ptr i o) v=some h') (g:h.get i=some (.cells cs e false)):h'.nx=h.nx:=by
 rw[tf s g];exact ak.Yd _ _ _
theorem B1 {h h':ak} {t e:TypeId} {i o:Nat} {cs:List AV} {v:AV} (y:Tidy h) (s:eX E h t (.ptr i o) v=some h') (g:h.get i=some (.cells cs e false)):Tidy h':=fun j x gj=>by
 have hi:=y i _ g
 rw[B0 s g]
 by_cases hx:j=i
 · omega
 · rw[tf s g,ak.bR (Ne.symm hx)] at gj
   exact y j x gj
def VI (h h':ak) (b:Nat) (o:aK):Prop:=Tidy h'∧h'.get b=some o∧∀i x,i≠b→h.get i=some x→h'.get i=some x
theorem VI.has {h0 h h':ak} {b:Nat} {o:aK} (c:VI h h' b o) (a:Has h0 h) (y:Tidy h0) (hb:h0.nx≤b):Has h0 h':=fun i x g=>by
 have:=y i x g
 exact c.2.2 i x (by omega) (a i x g)
end Go.Ab
end
section
namespace Go.Ab
variable {E:Env}
theorem dT {p:Prop} [Decidable p] (h:p):decide p=true:=decide_eq_true h
theorem dF {p:Prop} [Decidable p] (h:¬p):decide p=false:=decide_eq_false h
theorem nT {p:Prop} [Decidable p] (h:¬p):(!decide p)=true:=by rw[decide_eq_false h];rfl
theorem nF {p:Prop} [Decidable p] (h:p):(!decide p)=false:=by rw[decide_eq_true h];rfl
def bz:Code→List Code
 | .seq a b=>bz a++bz b
 | .cond _ a b=>bz a++bz b
 | .block _ b=>bz b
 | .loop b=>b::bz b
 | .scope b=>bz b
 | .rangeFunc _ _ _ b=>b::bz b
 | _=> []
structure mQ (E:Env) (h:ak) (e:TypeId) (n:Nat) (av:AV) (len:Nat) (cs:List AV):Prop where
 size:bQ E e=some n
 cells:cs.length=len*n
 small:len<2^60
 lens:bJ (some (.slice e)) (some av)=some (.int .i64 (len:Nat))
 block:len=0∨∃p o m c b C f ro,av= .slice p o m c b∧m≤c∧h.get p=some (.cells C f ro)∧(∀j,j<cs.length→C[o+j]? =cs[j]?)
theorem mQ.has {h h':ak} {e:TypeId} {n:Nat} {av:AV} {len:Nat} {cs:List AV} (x:mQ E h e n av len cs) (hh:Has h h'):mQ E h' e n av len cs:=
 ⟨x.size,x.cells,x.small,x.lens,x.block.imp id fun ⟨p,o,m,c,b,C,f,ro,h1,h0,h2,h3⟩=>⟨p,o,m,c,b,C,f,ro,h1,h0,hh _ _ h2,h3⟩⟩
theorem mQ.elem {h:ak} {e:TypeId} {av:AV} {len:Nat} {cs:List AV} (x:mQ E h e 1 av len cs) (ha:eN E e=some false) {i:Nat} {v:AV} (hv:cs[i]? =some v):
 ∃p q,b_ E (some (.slice e)) (some av) (some (.int .i64 (i:Nat)))=some (.ptr p q)∧bm E h e (.ptr p q)=some v:=by
 have hi:=(List.getElem?_eq_some_iff.1 hv).1
 have hl:cs.length=len:=by rw[x.cells,Nat.mul_one]
 rcases x.block with h0 | ⟨p,o,m,c,b,C,f,ro,h1,_,h2,h3⟩
 · omega
 · subst h1
   have hm:m=len:=by
    have:=x.lens
    rw[gG] at this
    simp only[Option.some.injEq,AV.int.injEq,true_and] at this
    omega
   refine ⟨p,o+i*1,oR x.size (by omega),?_⟩
   simp only[bm,h2,jy,ha,Nat.mul_one]
   rw[h3 i hi,hv]
def uE (k:IntKind) (l:List Nat):List AV:=l.map fun (n:Nat)=> .int k (n:Int)
structure eY (E:Env) (h:ak) (k:IntKind) (e:TypeId) (av:AV) (l:List Nat):Prop where
 at_:mQ E h e 1 av l.length (uE k l)
 agg:eN E e=some false
 known:av= .aD∨∃p o n c b,av= .slice p o n c b∧(b=true→0<c)
theorem tg {k:IntKind} {l:List Nat} {i:Nat} {z:Nat} (h:l[i]? =some z):(uE k l)[i]? =some (.int k (z:Int)):=by simp [uE,h]
theorem eY.elem {h:ak} {k:IntKind} {e:TypeId} {av:AV} {l:List Nat} (x:eY E h k e av l) {i:Nat} {z:Nat} (hz:l[i]? =some z):
 ∃p q,b_ E (some (.slice e)) (some av) (some (.int .i64 (i:Nat)))=some (.ptr p q)∧bm E h e (.ptr p q)=some (.int k (z:Int)):=x.at_.elem x.agg (tg hz)
theorem eY.len {h:ak} {k:IntKind} {e:TypeId} {av:AV} {l:List Nat} (x:eY E h k e av l):bJ (some (.slice e)) (some av)=some (.int .i64 (l.length:Nat)):=x.at_.lens
theorem m9 (k:IntKind) (l:List Nat):(uE k l).length=l.length:=by simp [uE]
theorem eY.small {h:ak} {k:IntKind} {e:TypeId} {av:AV} {l:List Nat} (x:eY E h k e av l):l.length<2^60:=x.at_.small
def Off (p:Nat) (av:AV):Prop:=∀o n c b,av≠ .slice p o n c b
theorem eY.of {h:ak} {k:IntKind} {e:TypeId} {l:List Nat} {p o c:Nat} {b:Bool} {C:List AV} {f:TypeId} {ro:Bool} (hs:bQ E e=some 1) (ha:eN E e=some false) (hl:l.length<2^60) (hc:l.length≤c) (hb:b=true→0<c) (hg:h.get p=some (.cells C f ro))
 (hv:∀(i:Nat) z,l[i]? =some z→C[o+i]? =some (.int k (z:Int))):eY E h k e (.slice p o l.length c b) l:=
 ⟨⟨hs,by rw[m9];omega,hl,rfl,.inr ⟨p,o,_,c,b,C,f,ro,rfl,hc,hg,fun j hj=>by
   rw[m9] at hj
   rw[hv j l[j] (List.getElem?_eq_getElem hj),tg (List.getElem?_eq_getElem hj)]⟩⟩,ha,.inr ⟨p,o,_,c,b,rfl,hb⟩⟩
theorem eY.nil {h:ak} {k:IntKind} {e:TypeId} (hs:bQ E e=some 1) (ha:eN E e=some false):eY E h k e .aD []:=
 ⟨⟨hs,rfl,by decide,rfl,.inl rfl⟩,ha,.inl rfl⟩
theorem eY.inv {h:ak} {k:IntKind} {e:TypeId} {l:List Nat} {p o n c:Nat} {b:Bool} (x:eY E h k e (.slice p o n c b) l):n=l.length∧(l≠ []→l.length≤c∧∃C f ro,h.get p=some (.cells C f ro)∧∀(i:Nat) z,l[i]? =some z→C[o+i]? =some (.int k (z:Int))):=by
 have hn:n=l.length:=by
  have:=x.len
  rw[gG] at this
  simp only[Option.some.injEq,AV.int.injEq,true_and] at this
  omega
 refine ⟨hn,fun ep=>?_⟩
 rcases x.at_.block with h0 | ⟨p',o',m,c',b',C,f,ro,h1,h0,h2,h3⟩
 · exact absurd (List.length_eq_zero_iff.1 h0) ep
 · cases h1
   refine ⟨by omega,C,f,ro,h2,fun i z hz=>?_⟩
   rw[h3 i (by rw[m9];exact (List.getElem?_eq_some_iff.1 hz).1),tg hz]
theorem qu {len cap lo hi:Nat} (low high:Option AV) (hl:low=some (.int .i64 (lo:Nat))∨(low=none∧lo=0)) (hh:high=some (.int .i64 (hi:Nat))∨(high=none∧hi=len)) (h1:lo≤hi) (h2:hi≤cap):lh len cap low high none=some (lo,hi,cap):=by
 have b:∀(x y:Nat),x≤y→ov (.int .i64 (x:Nat)) y=some x:=fun x y h=>by
  simp only[ov]
  rw[if_pos ⟨by omega,by omega⟩,Int.toNat_natCast]
 unfold lh
 rcases hh with rfl | ⟨rfl,rfl⟩<;>rcases hl with rfl | ⟨rfl,rfl⟩<;>simp [b,h1,h2]
theorem eY.slice {h:ak} {k:IntKind} {e t:TypeId} {av:AV} {l:List Nat} (x:eY E h k e av l) (ht:E.P.underlying t=some (.slice e)) {lo hi:Nat} (low high:Option AV) (hl:low=some (.int .i64 (lo:Nat))∨(low=none∧lo=0)) (hh:high=some (.int .i64 (hi:Nat))∨(high=none∧hi=l.length)) (h1:lo≤hi) (h2:hi≤l.length) (h3:l.length=0∨lo<l.length):
 ∃r,fm E t av low high none=some r∧eY E h k e r ((l.take hi).drop lo)∧∀p,Off p av→Off p r:=by
 rcases x.known with rfl | ⟨p,o,n,c,b,rfl,hb⟩
 · have Yf:l.length=0:=by
    have:=x.len
    rw[w_] at this
    simp only[Option.some.injEq,AV.int.injEq,true_and] at this
    omega
   obtain rfl:=List.length_eq_zero_iff.1 Yf
   simp only[List.length_nil] at *
   have TZ:hi=0:=by omega
   subst TZ
   have TY:lo=0:=by omega
   subst TY
   refine ⟨.aD,?_,by simpa using x,fun p hp=>hp⟩
   simp only[fm,ht,x.at_.size,qu (len:=0) (cap:=0) low high hl hh (Nat.le_refl 0) (Nat.le_refl 0)]
 · obtain ⟨rfl,hx⟩:=x.inv
   have Yg:l.length≤c:=by
    by_cases ep:l=[]
    · subst ep;exact Nat.zero_le _
    · exact (hx ep).1
   have hr:∃o' c',fm E t (.slice p o l.length c b) low high none=some (.slice p o' (hi - lo) c' b)∧(b=true→0<c')∧hi - lo≤c'∧(hi - lo≠0→o'=o+lo):=by
    simp only[fm,ht,x.at_.size,Yg,if_true,qu (len:=l.length) (cap:=c) low high hl hh h1 (by omega)]
    by_cases hm:c=lo
    · have Yn:b=false:=by
       cases b with
       | false=>rfl
       | true=>have:=hb rfl;omega
      subst Yn
      rw[if_pos hm]
      exact ⟨o,c - lo,rfl,by simp,by omega,fun h=>by omega⟩
    · rw[if_neg hm]
      refine ⟨o+lo*1,c - lo,by simp,fun h=>by omega,by omega,fun h=>by omega⟩
   obtain ⟨o',c',e1,e2,e3,e4⟩:=hr
   refine ⟨_,e1,?_,fun q hq o' n' c' b' he=>by cases he;exact hq _ _ _ _ rfl⟩
   have hlen:((l.take hi).drop lo).length=hi - lo:=by simp;omega
   rw[←hlen]
   by_cases h0:hi - lo=0
   · have:(l.take hi).drop lo=[]:=List.length_eq_zero_iff.1 (by omega)
     rw[this]
     exact ⟨⟨x.at_.size,rfl,by decide,rfl,.inl rfl⟩,x.agg,.inr ⟨_,_,_,_,_,rfl,e2⟩⟩
   · have ep:l≠ []:=fun e=>by subst e;simp at h2;omega
     obtain ⟨_,C,f,ro,g1,g2⟩:=hx ep
     refine eY.of x.at_.size x.agg (by have:=x.small;omega) (by omega) e2 g1 fun i z hz=>?_
     have ET:i<hi - lo:=by rw[←hlen];exact (List.getElem?_eq_some_iff.1 hz).1
     rw[e4 h0,Nat.add_assoc]
     apply g2
     rw[List.getElem?_drop,List.getElem?_take_of_lt (by omega)] at hz
     exact hz
structure T9 (h:ak) (av:AV) (p o n:Nat) (C:List AV) (f:TypeId):Prop where
 is:∃c b,av= .slice p o n c b∧n≤c
 get:h.get p=some (.cells C f false)
 fits:o+n≤C.length
theorem T9.len {h:ak} {av:AV} {p o n:Nat} {C:List AV} {f e:TypeId} (w:T9 h av p o n C f):bJ (some (.slice e)) (some av)=some (.int .i64 (n:Nat)):=by
 obtain ⟨c,b,rfl,_⟩:=w.is
 rfl
theorem T9.slice {h:ak} {av:AV} {p o n:Nat} {C:List AV} {f e t:TypeId} (w:T9 h av p o n C f) (hs:bQ E e=some 1) (ht:E.P.underlying t=some (.slice e)) {lo hi:Nat} (low high:Option AV) (hl:low=some (.int .i64 (lo:Nat))∨(low=none∧lo=0)) (hh:high=some (.int .i64 (hi:Nat))∨(high=none∧hi=n)) (h1:lo≤hi) (h2:hi≤n) (h3:lo<n):
 ∃r,fm E t av low high none=some r∧T9 h r p (o+lo) (hi - lo) C f:=by
 obtain ⟨c,b,rfl,hc⟩:=w.is
 have:=w.fits
 refine ⟨.slice p (o+lo) (hi - lo) (c - lo) b,?_,⟨⟨_,_,rfl,by omega⟩,w.get,by omega⟩⟩
 simp only[fm,ht,hs,hc,if_true,qu (len:=n) (cap:=c) low high hl hh h1 (by omega)]
 rw[if_neg (by omega)]
 simp
def Holds (k:IntKind) (C:List AV) (o:Nat) (l:List Nat):Prop:=∀(i z:Nat),l[i]? =some z→C[o+i]? =some (.int k (z:Int))
theorem Holds.behind {k:IntKind} {C:List AV} {o:Nat} {l ws:List Nat} (x:Holds k C o l) {i z:Nat} (hi:ws.length≤i) (hz:l[i]? =some z):(setFrom C o (uE k ws))[o+i]? =some (.int k (z:Int)):=by
 rw[jO,if_neg (by rw[m9];omega)]
 exact x i z hz
theorem T9.load {h:ak} {av:AV} {p o n:Nat} {C:List AV} {f e:TypeId} {i:Nat} {v:AV} (w:T9 h av p o n C f) (ha:eN E e=some false) (hv:C[o+i]? =some v):bm E h e (.ptr p (o+i))=some v:=by
 simp only[bm,w.get,jy,ha,hv]
theorem T9.uE {h:ak} {av:AV} {p o n:Nat} {C:List AV} {f e:TypeId} {k:IntKind} {l:List Nat} (w:T9 h av p o n C f) (hs:bQ E e=some 1) (ha:eN E e=some false) (hn:l.length=n) (Uu:n<2^60) (x:Holds k C o l) (hb:∀c b,av= .slice p o n c b→b=true→0<c):eY E h k e av l:=by
 obtain ⟨c,b,rfl,hc⟩:=w.is
 subst hn
 exact eY.of hs ha Uu hc (hb c b rfl) w.get x
theorem Holds.of {k:IntKind} {C:List AV} {o:Nat} {l:List Nat} (hf:o+l.length≤C.length):Holds k (setFrom C o (uE k l)) o l:=fun i z hz=>by
 have hi:=(List.getElem?_eq_some_iff.1 hz).1
 rw[jO,if_pos ⟨by omega,by rw[m9];omega,by omega⟩,Nat.add_sub_cancel_left,tg hz]
end Go.Ab
end
section
namespace Go.Ab
open Go.WideElems Go.RowKit Go.Proofs
variable {E:Env}
theorem CR.plain {φ φ':Ph} {cs:List AV} {t:TypeId} {ro:Bool} {l:Loc} {C:Array Value} {lo hi:Nat} (h:CR E φ' cs t ro l C lo hi) (hp:cs.all (AV.plain 20)=true):CR E φ cs t ro l C lo hi where
 size:=h.size
 val k x hk:=by
  obtain ⟨y,hy,hv⟩:=h.val k x hk
  exact ⟨y,hy,hv.plain 20 (List.all_eq_true.1 hp x (List.mem_of_getElem? hk))⟩
 free:=h.free
 zero:=h.zero
end Go.Ab
end
section
namespace Go.Ab
variable {E:Env} {M0:Fa.Im}
theorem uD.unique {call:a_} {f:FuncId} {args:List AV} {h h1 h2:ak} {v1 v2:AV} (a:uD E call f args h v1 h1) (b:uD E call f args h v2 h2):v1=v2∧h1=h2:=by
 obtain ⟨n,a⟩:=a
 obtain ⟨m,b⟩:=b
 have:=(a (n+m) (by omega)).symm.trans (b (n+m) (by omega))
 simpa using this
def AV.within (nx:Nat):Nat→AV→Bool
 | 0,_=>false
 | n+1,x=>match x with
   | .bool _ | .int .. | .str _ | .gC | .aD | .dQ | .nilFunc | .nilIface | .ei=>true
   | .ptr i _=>decide (i<nx)
   | .slice i _ _ _ _=>decide (i<nx)
   | .map i=>decide (i<nx)
   | .iface _ v=>AV.within nx n v
   | .agg cs=>cs.all (AV.within nx n)
   | .tuple cs=>cs.all (AV.within nx n)
   | _=>false
theorem VR.within {φ φ':Ph} {nx:Nat} (ho:∀i,i<nx→φ' i=φ i):∀(n:Nat) {x:AV} (_:AV.within nx n x=true) {y:Value},VR φ' x y→VR φ x y
 | 0,_,h,_,_=>by cases h
 | n+1,x,h,y,hv=>by
   have ih:= @VR.within φ φ' nx ho n
   cases hv with
   | bool b=>exact .bool b
   | int k m=>exact .int k m
   | str s=>exact .str s
   | gC=>exact .gC
   | aD=>exact .aD
   | dQ=>exact .dQ
   | nilFunc=>exact .nilFunc
   | nilIface=>exact .nilIface
   | ei a c=>exact .ei a c
   | ptr o hl=>rw[ho _ (of_decide_eq_true h)] at hl;exact .ptr o hl
   | slice o len cap op hl=>rw[ho _ (of_decide_eq_true h)] at hl;exact .slice o len cap op hl
   | map hl=>rw[ho _ (of_decide_eq_true h)] at hl;exact .map hl
   | iface t v v' h'=>exact .iface t v v' (ih (by simpa [AV.within] using h) h')
   | agg cs iZ hl hc=>
     refine .agg cs iZ hl fun i x y a b=>ih ?_ (hc i x y a b)
     simp only[AV.within,List.all_eq_true] at h
     exact h x (List.mem_of_getElem? a)
   | tuple cs iZ hl hc=>
     refine .tuple cs iZ hl fun i x y a b=>ih ?_ (hc i x y a b)
     simp only[AV.within,List.all_eq_true] at h
     exact h x (List.mem_of_getElem? a)
   | _=>cases h
theorem lN.MN {f:FuncId} {args:List AV} {h h':ak} {v:AV} (r:lN E f args h v h') (hs:Has h h') (hv:AV.within h.nx 20 v=true):lN E f args h v h:=fun φ w vs ok hl=>by
 obtain ⟨h1,h2⟩:=r φ w vs ok hl
 refine ⟨h1,fun cs=>?_⟩
 obtain ⟨φ',w',v',fr,x1,x2,x3,x4⟩:=h2 cs
 exact ⟨φ,w',v',fr,x1.within x3.old 20 hv,ok.forget x3.ext x2 hs,x3.forget,x4⟩
def MO (E:Env) (call:a_) (l:Nat) (args:List AV) (h:ak) (v:AV) (h':ak):Prop:=∃n0,∀n,n0≤n→sI E call n l args h= .ret v h'
theorem MO.unique {call:a_} {l:Nat} {args:List AV} {h h1 h2:ak} {v1 v2:AV} (a:MO E call l args h v1 h1) (b:MO E call l args h v2 h2):v1=v2∧h1=h2:=by
 obtain ⟨n,a⟩:=a
 obtain ⟨m,b⟩:=b
 have:=(a (n+m) (by omega)).symm.trans (b (n+m) (by omega))
 simpa using this
open Classical in
noncomputable def je (E:Env) (M0:Fa.Im):Nat→a_
 | 0=>BR M0
 | d+1=>fun F args h=>match F with
   | .yl l=>if hy:∃p:AV×ak,MO E (je E M0 d) l args h p.1 p.2 then .ret hy.choose.1 hy.choose.2 else .fail "" none
   | .fn f=>match M0 f args h with
     | some p=> .ret p.1 p.2
     | none=>
       if hx:∃v,∃h',uD E (je E M0 d) f args h v h'∧Has h h'∧AV.within h.nx 20 v=true then .ret hx.choose h
       else if hy:∃p:AV×ak,uD E (je E M0 d) f args h p.1 p.2 then .ret hy.choose.1 hy.choose.2 else .fail "" none
theorem B2 (hE:kU E) (hM:Fa.FR E M0):∀d,iB E (je E M0 d)
 | 0=>Ov hM
 | d+1=>by
   have ih:=B2 hE hM d
   have key:∀{f:FuncId} {args:List AV} {h:ak} {o:jn},je E M0 (d+1) (.fn f) args h=o→(∃v h',o= .ret v h'∧lN E f args h v h')∨o= .fail "" none:=by
    intro f args h o e
    simp only[je] at e
    split at e
    · rename_i p hp
      exact .inl ⟨_,_,e.symm,hM _ _ _ _ _ hp⟩
    · split at e
      · rename_i hx
        obtain ⟨h',⟨n,h1⟩,h2,h3⟩:=hx.choose_spec
        exact .inl ⟨_,_,e.symm,lN.MN ((pA hE n ih).1 _ _ _ _ _ (h1 n (Nat.le_refl n))) h2 h3⟩
      · split at e
        · rename_i hy
          obtain ⟨n,h1⟩:=hy.choose_spec
          exact .inl ⟨_,_,e.symm,(pA hE n ih).1 _ _ _ _ _ (h1 n (Nat.le_refl n))⟩
        · exact .inr e.symm
   refine ⟨fun F args h v h' e=>?_,fun F args h v h' e=>?_⟩
   · cases F with
     | yl l=>
       simp only[je] at e
       split at e
       · rename_i hy
         cases e
         obtain ⟨n,h1⟩:=hy.choose_spec
         intro φ w vs ok hf hl
         obtain ⟨ll,hφ⟩:=hf
         obtain ⟨f,tmps,assign,body,T5,gP⟩:=vD hE ih (h1 n (Nat.le_refl n)) (by simp) ok hφ hl
         exact ⟨_,_,.yl l ll hφ vs f tmps assign body T5,fun c cs=>(gP c cs).1 _ _ rfl⟩
       · cases e
     | fn f=>
       rcases key e with ⟨w,k,h1,h2⟩ | h1
       · cases h1;exact h2.any
       · cases h1
   · cases F with
     | yl l=>
       simp only[je] at e
       split at e<;>cases e
     | fn f=>
       rcases key e with ⟨w,k,h1,h2⟩ | h1
       · cases h1
       · cases h1
theorem ax {d:Nat} {f:FuncId} {args:List AV} {h h':ak} {v:AV} (hm:M0 f args h=none) (hd:uD E (je E M0 d) f args h v h') (hh:Has h h') (hv:AV.within h.nx 20 v=true):je E M0 (d+1) (.fn f) args h= .ret v h:=by
 simp only[je,hm]
 have hx:∃v,∃h',uD E (je E M0 d) f args h v h'∧Has h h'∧AV.within h.nx 20 v=true:=⟨v,h',hd,hh,hv⟩
 rw[dif_pos hx]
 obtain ⟨k,h1,_,_⟩:=hx.choose_spec
 rw[(h1.unique hd).1]
theorem yS {d:Nat} {f:FuncId} {args:List AV} {h h':ak} {v:AV} (hm:M0 f args h=none) (hd:uD E (je E M0 d) f args h v h') (hv:¬(Has h h'∧AV.within h.nx 20 v=true)):je E M0 (d+1) (.fn f) args h= .ret v h':=by
 simp only[je,hm]
 have hx:¬∃v,∃h',uD E (je E M0 d) f args h v h'∧Has h h'∧AV.within h.nx 20 v=true:=by
  rintro ⟨w,k,h1,h2,h3⟩
  obtain ⟨rfl,rfl⟩:=h1.unique hd
  exact hv ⟨h2,h3⟩
 have hy:∃p:AV×ak,uD E (je E M0 d) f args h p.1 p.2:=⟨(v,h'),hd⟩
 rw[dif_neg hx,dif_pos hy]
 obtain ⟨h1,h2⟩:=hy.choose_spec.unique hd
 rw[h1,h2]
theorem Iw (hE:kU E) (hM:Fa.FR E M0) {d:Nat} {f:FuncId} {args:List AV} {h h':ak} {v:AV} (e:je E M0 d (.fn f) args h= .ret v h'):lN E f args h v h':=by
 cases d with
 | zero=>
   simp only[je,BR] at e
   split at e
   · rename_i p hp
     cases e
     exact hM _ _ _ _ _ hp
   · cases e
 | succ d=>
   simp only[je] at e
   split at e
   · rename_i p hp
     cases e
     exact hM _ _ _ _ _ hp
   · split at e
     · rename_i hx
       cases e
       obtain ⟨h',⟨n,h1⟩,h2,h3⟩:=hx.choose_spec
       exact lN.MN ((pA hE n (B2 hE hM d)).1 _ _ _ _ _ (h1 n (Nat.le_refl n))) h2 h3
     · split at e
       · rename_i hy
         cases e
         obtain ⟨n,h1⟩:=hy.choose_spec
         exact (pA hE n (B2 hE hM d)).1 _ _ _ _ _ (h1 n (Nat.le_refl n))
       · cases e
end Go.Ab
end
section
namespace Go.Ab
variable {E:Env}
theorem Rx (n:Nat):IntKind.u64.wrap (n:Int)=((n%18446744073709551616:Nat):Int):=by
 show (if (false&&decide ((n:Int)%2^64≥2^63))=true then (n:Int)%2^64 - 2^64 else (n:Int)%2^64)=_
 rw[if_neg (by simp)]
 omega
end Go.Ab
end
section
namespace Go.Ab
variable {E:Env} {M0:Fa.Im}
structure bC (h h':ak):Prop where
 y:Tidy h'
 a:Has h h'
 n:h.nx≤h'.nx
theorem bC.refl {h:ak} (y:Tidy h):bC h h:=⟨y,Has.refl h,Nat.le_refl _⟩
theorem bC.trans {a b c:ak} (x:bC a b) (y:bC b c):bC a c:=⟨y.y,x.a.trans y.a,Nat.le_trans x.n y.n⟩
theorem eZ {d:Nat} {f:FuncId} {args:List AV} {h h':ak} {v:AV} {P:ak→Prop} (hm:M0 f args h=none) (hd:uD E (je E M0 d) f args h v h') (y:Tidy h) (g:bC h h') (p1:P h') (p2:AV.within h.nx 20 v=true→P h):
 ∃hk,je E M0 (d+1) (.fn f) args h= .ret v hk∧bC h hk∧P hk:=by
 by_cases hv:AV.within h.nx 20 v=true
 · exact ⟨h,ax hm hd g.a hv,bC.refl y,p2 hv⟩
 · exact ⟨h',yS hm hd fun c=>hv c.2,g,p1⟩
theorem KG {d:Nat} {f:FuncId} {args:List AV} {h h':ak} {v:AV} (hm:M0 f args h=none) (hd:uD E (je E M0 d) f args h v h'):
 ∃hk,je E M0 (d+1) (.fn f) args h= .ret v hk∧(hk=h'∨(hk=h∧Has h h')):=by
 by_cases hv:Has h h'∧AV.within h.nx 20 v=true
 · exact ⟨h,ax hm hd hv.1 hv.2,.inr ⟨rfl,hv.1⟩⟩
 · exact ⟨h',yS hm hd hv,.inl rfl⟩
theorem xf {h:ak} {p:Nat} {x o:aK} (y:Tidy h) (g:h.get p=some x):VI h (h.put p (some o)) p o:=
 ⟨fun i z hz=>by
  by_cases e:i=p
  · subst e;exact y _ _ g
  · rw[ak.bR (Ne.symm e)] at hz;exact y _ _ hz,
  ak.di _,fun i z hi hz=>by rw[ak.bR (Ne.symm hi)];exact hz⟩
def Kept (p:Nat) (h h':ak):Prop:=∀i x,i≠p→h.get i=some x→h'.get i=some x
theorem Kept.refl (p:Nat) (h:ak):Kept p h h:=fun _ _ _ g=>g
theorem Kept.trans {p:Nat} {a b c:ak} (x:Kept p a b) (y:Kept p b c):Kept p a c:=fun i o hi g=>y i o hi (x i o hi g)
theorem Has.kept {p:Nat} {h h':ak} (a:Has h h'):Kept p h h':=fun i x _ g=>a i x g
theorem Kept.store {h h':ak} {t e:TypeId} {i o:Nat} {cs:List AV} {v:AV} (y:Tidy h) (s:eX E h t (.ptr i o) v=some h') (g:h.get i=some (.cells cs e false)):Kept i h h':=fun _ _ hj gj=>BZ y s g hj gj
theorem eY.kept {h h':ak} {k:IntKind} {e:TypeId} {av:AV} {l:List Nat} {p:Nat} (x:eY E h k e av l) (c:Kept p h h') (ho:Off p av):eY E h' k e av l:=by
 refine ⟨⟨x.at_.size,x.at_.cells,x.at_.small,x.at_.lens,x.at_.block.imp id fun ⟨p',o',m,c',b,C,f,ro,h1,h0,h2,h3⟩=>⟨p',o',m,c',b,C,f,ro,h1,h0,c p' _ (fun e=>?_) h2,h3⟩⟩,x.agg,x.known⟩
 subst e
 exact ho _ _ _ _ h1
theorem zS (k:IntKind) (l:List Nat):(uE k l).all AV.scalar=true:=by
 simp [uE,AV.scalar]
theorem eY.pa {h:ak} {k:IntKind} {e:TypeId} {av:AV} {l:List Nat} (x:eY E h k e av l):pa av=some l.length:=by
 rcases x.known with rfl | ⟨p,o,n,c,b,rfl,_⟩
 · have:=x.len
   rw[w_] at this
   simp only[Option.some.injEq,AV.int.injEq,true_and] at this
   rw[show l.length=0 by omega];rfl
 · rw[x.inv.1];rfl
theorem eY.first {h:ak} {k:IntKind} {e:TypeId} {av:AV} {l:List Nat} (x:eY E h k e av l):eO h 1 l.length av=some (uE k l):=by
 by_cases hl:l=[]
 · subst hl
   rcases x.known with rfl | ⟨p,o,n,c,b,rfl,_⟩<;>simp [eO,uE]
 rcases x.known with rfl | ⟨p,o,n,c,b,rfl,_⟩
 · have:=x.len
   rw[w_] at this
   simp only[Option.some.injEq,AV.int.injEq,true_and] at this
   exact absurd (List.length_eq_zero_iff.1 (show l.length=0 by omega)) hl
 · obtain ⟨rfl,h2⟩:=x.inv
   obtain ⟨_,C,f,ro,g,hv⟩:=h2 hl
   have hC:o+l.length≤C.length:=by
    have hp:0<l.length:=List.length_pos_iff.2 hl
    have:=hv (l.length - 1) _ (List.getElem?_eq_getElem (show l.length - 1<l.length by omega))
    have:=(List.getElem?_eq_some_iff.1 this).1
    omega
   have h0:¬l.length=0:=fun e=>hl (List.length_eq_zero_iff.1 e)
   simp only[eO,Nat.le_refl,if_true,h0,if_false,g,Nat.mul_one,hC]
   refine congrArg some (List.ext_getElem? fun i=>?_)
   by_cases hi:i<l.length
   · rw[List.getElem?_take_of_lt hi,List.getElem?_drop,hv i _ (List.getElem?_eq_getElem hi),tg (List.getElem?_eq_getElem hi)]
   · rw[List.getElem?_eq_none (by simp;omega),List.getElem?_eq_none (by rw[m9];omega)]
theorem MH {h:ak} {k:IntKind} {e t:TypeId} {tys:Array TypeId} {d s:AV} {l:List Nat} {p o n:Nat} {C:List AV} {f:TypeId} (h0:tys[0]? =some t) (ht:E.P.underlying t=some (.slice e)) (hs:bQ E e=some 1) (w:T9 h d p o n C f) (x:eY E h k e s l) (hn:l.length≤n):
 uW E h tys d s=some (.int .i64 (l.length:Nat),h.put p (some (.cells (setFrom C o (uE k l)) f false))):=by
 obtain ⟨c,b,rfl,hc⟩:=w.is
 have hf:=w.fits
 have Bj:eO h 1 (min l.length n) s=some (uE k l):=by
  rw[Nat.min_eq_left hn];exact x.first
 simp only[uW,h0,ht,x.pa,hs,Bj,w.get]
 rw[if_pos ⟨by rw[m9];omega,zS k l⟩,Nat.min_eq_left hn]
theorem yT {e:TypeId} {s bytes n:Nat} {z:AV} (hs:bQ E e=some s) (hb:gD E e=some bytes) (hz:fl E e=some z) (hl:z.cells.length=s) (h8:bytes≤1024) (hn:n<2^30):
 D' E (some (.slice e)) (some (.int .i64 (n:Nat))) (some (.int .i64 (n:Nat)))=some (.cells (da z.cells n) e false,fun i=> .slice i 0 n n false):=by
 have h1:(bytes:Int)*(n:Int)≤1024*2^30:=by
  have:bytes*n≤1024*2^30:=Nat.mul_le_mul h8 (Nat.le_of_lt hn)
  omega
 simp only[D',hs,hb,hz,hl]
 rw[if_pos ⟨by omega,by omega,by omega,by omega,trivial⟩]
 rfl
theorem xg {e:TypeId} {p n c i:Nat} {op:Bool} {z:Int} (hs:bQ E e=some 1) (hi:i<n) (hz:z=(i:Nat)):b_ E (some (.slice e)) (some (.slice p 0 n c op)) (some (.int .i64 z))=some (.ptr p i):=by
 subst hz
 have:=oR (E:=E) (e:=e) (i:=p) (o:=0) (len:=n) (c:=c) (z:=i) (b:=op) hs hi
 rw[Nat.zero_add,Nat.mul_one] at this
 exact this
theorem append_nil {h:ak} {k:IntKind} {e s xt:TypeId} {tys:Array TypeId} {bytes:Nat} {z x:AV} {m:List Nat} (h0:tys[0]? =some s) (h1:tys[1]? =some xt) (hs:E.P.underlying s=some (.slice e)) (hx:E.P.underlying xt=some (.slice e)) (JL:bQ E e=some 1) (hb:gD E e=some bytes) (Au:fl E e=some z) (hz:z.cells.length=1) (h8:bytes≤15) (x1:eY E h k e x m) (hm:m≠ []) (hl:m.length≤1073741824):
 ∃h',cP E h tys .aD x=some (.slice h.nx 0 m.length m.length true,h')∧h.new (.cells (uE k m) e false)=some h':=by
 obtain ⟨h',n⟩:=vJ (h:=h) (.cells (uE k m) e false)
 refine ⟨h',?_,n⟩
 have hn:¬m.length=0:=fun e=>hm (List.length_eq_zero_iff.1 e)
 have E1:(4*m.length+4096)*(bytes+1)≤1099511627776:=Nat.le_trans (Nat.mul_le_mul (show 4*m.length+4096≤68719476736 by omega) (show bytes+1≤16 by omega)) (by decide)
 simp only[cP,h0,h1,hs,hx,nA,JL,hb,x1.pa,x1.first,Au,hz,zS,m9,Nat.mul_one,hn,E1,n,if_true,if_false,and_self,Bool.false_eq_true]
end Go.Ab
end
section
namespace Go.Ab
variable {E:Env}
structure Pk (al:List nY) (p0 ps:List Prop):Prop where
 ok:mf p0→mf ps
section
variable {al:List nY} {p0 ps:List Prop}
theorem ZZ {p:List Prop}:Pk [] p p:=⟨id⟩
theorem AA (a:nY) (k:Pk al p0 ps):Pk (a::al) p0 ps:=⟨k.ok⟩
theorem CC (k:Pk al p0 ps):Pk (.c::al) p0 ps:=⟨k.ok⟩
def cs:Nat→List nY→List nY
 | 0,l=>l
 | n+1,l=> .c::cs n l
theorem CN (n:Nat) (k:Pk al p0 ps):Pk (cs n al) p0 ps:=⟨k.ok⟩
theorem HH {P:Prop} (h:P) (k:Pk al (P::p0) ps):Pk al p0 ps:=⟨fun c=>k.ok ⟨h,c⟩⟩
theorem VV {l:Option AV} {x:AV} (h:l=some x) (k:Pk al ((l=some x)::p0) ps):Pk (.v x::al) p0 ps:=⟨fun c=>k.ok ⟨h,c⟩⟩
theorem QQ {l:Option AV} {x:AV} (h:l=some x) (k:Pk al ((l=some x)::p0) ps):Pk (.q x::al) p0 ps:=⟨fun c=>k.ok ⟨h,c⟩⟩
theorem MM {l:Option AV} {x:AV} (h:l=some x) (k:Pk al ((l=some x)::p0) ps):Pk (.m x::al) p0 ps:=⟨fun c=>k.ok ⟨h,c⟩⟩
theorem TT (k:Pk al ((true=true)::p0) ps):Pk (.b true::al) p0 ps:=⟨fun c=>k.ok ⟨rfl,c⟩⟩
theorem FF (k:Pk al ((false=false)::p0) ps):Pk (.b false::al) p0 ps:=⟨fun c=>k.ok ⟨rfl,c⟩⟩
theorem BB {u v:Bool} (h:u=v) (k:Pk al ((u=v)::p0) ps):Pk (.b v::al) p0 ps:=⟨fun c=>k.ok ⟨h,c⟩⟩
theorem EE {call:a_} {f:Fn} {args:List AV} {h h':ak} {x:AV} (e:call f args h= .ret x h') (k:Pk al ((call f args h= .ret x h')::p0) ps):Pk (.e x h'::al) p0 ps:=⟨fun c=>k.ok ⟨e,c⟩⟩
theorem SS {h h':ak} {t:TypeId} {a v:AV} (s:eX E h t a v=some h') (k:Pk al ((AV.undef=AV.undef∧eX E h t a v=some h')::p0) ps):Pk (.e AV.undef h'::al) p0 ps:=⟨fun c=>k.ok ⟨⟨rfl,s⟩,c⟩⟩
theorem PP {l:Option (AV×ak)} {x:AV} {h':ak} (e:l=some (x,h')) (k:Pk al ((l=some (x,h'))::p0) ps):Pk (.e x h'::al) p0 ps:=⟨fun c=>k.ok ⟨e,c⟩⟩
theorem NN {h h':ak} {obj:aK} (n:h.new obj=some h') (f:Nat→AV) (k:Pk al ((∃mk:Nat→AV,some (obj,f)=some (obj,mk)∧mk h.nx=f h.nx)::(h.new obj=some h')::p0) ps):Pk (.a obj (f h.nx) h'::al) p0 ps:=⟨fun c=>k.ok ⟨⟨f,rfl,rfl⟩,n,c⟩⟩
theorem KK {h h':ak} {obj:aK} {l:Option (aK×(Nat→AV))} {f:Nat→AV} (e:l=some (obj,f)) (n:h.new obj=some h') (k:Pk al ((∃mk:Nat→AV,l=some (obj,mk)∧mk h.nx=f h.nx)::(h.new obj=some h')::p0) ps):Pk (.a obj (f h.nx) h'::al) p0 ps:=⟨fun c=>k.ok ⟨⟨f,e,rfl⟩,n,c⟩⟩
theorem LL {call:a_} {b:Code} {s s':St} {e:kR} (ev:Ev E call b s e s') (k:Pk al ((Ev E call b s e s')::p0) ps):Pk (.l e s'::al) p0 ps:=⟨fun c=>k.ok ⟨ev,c⟩⟩
end
@[irreducible] def MP:R→List AV
  | .at _ s _ _=>s.ts
  | .bad=> []
theorem abA {call:a_} {c:Code} {ts:List AV} {h h':ak} {ds:List qK} {rc:RC} {n:Nat} {e:kR} {al:List nY} {ps:List Prop} (k:Pk al [] ps) (hr:run E call n c ⟨ts,h,ds,rc⟩ al []= .at e ⟨MP (run E call n c ⟨ts,h,ds,rc⟩ al []),h',ds,rc⟩ [] ps):Ev E call c ⟨ts,h,ds,rc⟩ e ⟨MP (run E call n c ⟨ts,h,ds,rc⟩ al []),h',ds,rc⟩:=KE hr (k.ok trivial)
def rx (x:Nat→AV):Nat→Nat→List AV→List AV
 | _,0,l=>l
 | i,n+1,l=>x i::rx x (i+1) n l
def gB:Nat→List AV
 | 0=> []
 | n+1=>AV.undef::gB n
end Go.Ab
end
