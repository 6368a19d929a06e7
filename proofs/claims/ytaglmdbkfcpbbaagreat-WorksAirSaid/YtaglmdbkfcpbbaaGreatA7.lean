import Derived.ChangeShapes
import Derived.ChangeStays
import Derived.ChangeBook
import Derived.ChangeOld
import Derived.ChangeAgain
import Derived.ChangeCalls
import Derived.Test.YtaglmdbkfcpbbaaGreatA6
set_option linter.unusedVariables false
set_option linter.unusedSimpArgs false
section
namespace Go.Ab
variable {E:Env} {call:bx} {n:Nat} {s:St}
def P3 {α β:Type} (o:Option α) (f:α→β) (d:β):β:=match o with
 | some a=>f a
 | none=>d
noncomputable def EY (E:Env) (call:bx) (n:Nat) (o:Out) (b:Code):Out:=match o with
 | .ok .normal s=>exec E call n b s
 | r=>r
theorem we (s:St) (b:Code):EY E call n (.ok .normal s) b=exec E call n b s:=rfl
def Kr (id:Nat) (o:Out):Out:=match o with
 | .ok (.exit IK) s'=>if IK=id then .ok .normal s' else .ok (.exit IK) s'
 | r=>r
theorem wg (i j:Nat) (s:St):Kr i (.ok (.exit j) s)=if j=i then .ok .normal s else .ok (.exit j) s:=rfl
noncomputable def Kt (E:Env) (call:bx) (n:Nat) (o:Option AV) (a b:Code) (s:St):Out:=match o with
 | some (.bool true)=>exec E call n a s
 | some (.bool false)=>exec E call n b s
 | _=> .fail "cond" none
theorem E7 (a b:Code):Kt E call n (some (.bool true)) a b s=exec E call n a s:=rfl
theorem Dm (a b:Code):Kt E call n (some (.bool false)) a b s=exec E call n b s:=rfl
theorem OE (a b:Code):exec E call (n+1) (.seq a b) s=EY E call n (exec E call n a s) b:=rfl
theorem Ku (x:Operand) (a b:Code):exec E call (n+1) (.cond x a b) s=Kt E call n (ez E s.ts x) a b s:=rfl
theorem BA (id:Nat) (b:Code):exec E call (n+1) (.block id b) s=Kr id (exec E call n b s):=rfl
theorem Kv (b:Code):exec E call (n+1) (.loop b) s=EY E call n (exec E call n b s) (.loop b):=rfl
theorem Kw (i:Nat) (ops:Array Oper):exec E call (n+1) (.region i ops false) s=jK E call ops ops.toList s:=rfl
theorem Nk (i:Nat) (ops:Array Oper):exec E call (n+1) (.region i ops true) s=tu E call ops s:=rfl
noncomputable def SG (E:Env) (call:bx) (ops:Array Oper) (o:Oper) (rest:List Oper) (s:St):Out:=match dv E call s.ts s.h s.rc o with
 | .val v h'=>jK E call ops rest {s with ts:=dV s.ts o.dst v,h:=h'}
 | .defer d=>jK E call ops rest {s with ts:=dV s.ts o.dst AV.undef,ds:=d::s.ds}
 | .p6 v=>jK E call ops rest {s with ts:=dV s.ts o.dst v,rc:= .done}
 | .panic v h'=> .ok (.panic v) {s with h:=h'}
 | .fail why q=> .fail why q
noncomputable def SH (E:Env) (call:bx) (ops:Array Oper) (o:Oper) (rest:List Oper) (s:St):Out:=
 P3 (eu E s.ts o.op) (fun p=>P3 (s.h.new p.1) (fun h'=>jK E call ops rest {s with ts:=dV s.ts o.dst (p.2 s.h.nx),h:=h'}) (.fail "full" (some o))) (SG E call ops o rest s)
noncomputable def SI (E:Env) (call:bx) (ops:Array Oper) (o:Oper) (rest:List Oper) (s:St):Out:=
 P3 (ef E s.ts s.h o.op) (fun v=>jK E call ops rest {s with ts:=dV s.ts o.dst v}) (SH E call ops o rest s)
noncomputable def SJ (E:Env) (call:bx) (ops:Array Oper) (v:Option AV) (o:Oper) (rest:List Oper) (s:St):Out:=P3 v (fun v=>jK E call ops rest {s with ts:=dV s.ts o.dst v}) (SI E call ops o rest s)
section
variable {ops:Array Oper} {rest:List Oper} {d:Option Tmp} {op:Op} {ty:TypeId} {pos:String} {YM:Array Edge} {g:Option (Nat×Bool)}
noncomputable def EZ (E:Env) (call:bx) (ops:Array Oper) (w:Bool) (o:Oper) (rest:List Oper) (s:St):Out:=
 if w=true then SJ E call ops (bH E s.ts o.op) o rest s else jK E call ops rest {s with ts:=dV s.ts o.dst AV.undef}
end
theorem iI (m:Nat) (a:List UInt8):AV.same (m+1) (.str a) (.str a)=true:=by simp [AV.same]
theorem aQ (m:Nat) (k:IntKind) (a:Int):AV.same (m+1) (.int k a) (.int k a)=true:=by simp [AV.same]
theorem yk (m i o l c:Nat) (b:Bool):AV.same (m+1) (.slice i o l c b) (.slice i o l c b)=true:=by simp [AV.same]
open Classical in
section
variable {ops:Array Oper} {rest:List Nat} {d:Option Tmp} {op:Op} {ty:TypeId} {pos:String} {YM:Array Edge} {g:Option (Nat×Bool)}
noncomputable def Gr (E:Env) (call:bx) (ops:Array Oper) (r:Option St) (s:St):Out:=P3 r (fun s'=> .ok .normal s') (tu E call ops s)
end
theorem wrap_i64 {n:Int} (h0: -9223372036854775808≤n) (h1:n<9223372036854775808):IntKind.i64.wrap n=n:=by
 show (if (true&&decide (n%2^64≥2^63))=true then n%2^64 - 2^64 else n%2^64)=n
 by_cases hn:n%2^64≥2^63
 · rw[if_pos (by rw[Bool.true_and];exact decide_eq_true hn)];omega
 · rw[if_neg (by rw[Bool.true_and];exact fun e=>hn (of_decide_eq_true e))];omega
noncomputable def C4 (E:Env) (fn:Func) (h:ar) (ts:List AV):iT:=match jM E h ts fn.results.toList with
 | some vs=> .ret (hG vs) h
 | none=> .fail "results" none
theorem H7 {fuel:Nat} {f:FuncId} {fn:Func} {c:Code} (hf:E.P.funcs[f]? =some fn) (hb:fn.body=some c) {args:List AV} {h h':ar} {ts:List AV} {x:j8} (hx:x= .normal∨x= .ret)
 (e:exec E call fuel c ⟨args++List.replicate (fn.ntmps - args.length) AV.undef,h,[],.no⟩= .ok x ⟨ts,h',[],.no⟩) {vs:List AV} (hr:jM E h' ts fn.results.toList=some vs):wc E call fuel f args h= .ret (hG vs) h':=by
 unfold wc
 simp only[hf,hb,mA,e]
 rcases hx with rfl | rfl<;>simp only[rT,dk,hr]
def yl (M:Fa.Dk):bx:=fun F args h=>match F with
 | .fn f=>match M f args h with
   | some p=> .ret p.1 p.2
   | none=> .fail "" none
 | .vN _=> .fail "" none
theorem H8 {M:Fa.Dk} (hM:Fa.Bz E M):ie E (yl M):=by
 refine ⟨fun F args h v h' e=>?_,fun F args h v h' e=>?_⟩
 · cases F with
   | vN l=>cases e
   | fn f=>
     simp only[yl] at e
     cases hm:M f args h with
     | none=>rw[hm] at e;cases e
     | some p=>
       rw[hm] at e
       simp only[iT.ret.injEq] at e
       obtain ⟨rfl,rfl⟩:=e
       exact (hM _ _ _ _ _ hm).any
 · cases F with
   | vN l=>cases e
   | fn f=>
     simp only[yl] at e
     cases hm:M f args h with
     | none=>rw[hm] at e;cases e
     | some p=>rw[hm] at e;cases e
def VT (E:Env) (x:Option (TypeId×Nat)) (v:Option AV):Option AV:=match x,v with
 | some (t,o),some (.ptr i off)=>match cE E t with
   | some n=>if n=0 then none else some (.ptr i (off+o))
   | none=>none
 | _,_=>none
def eW (E:Env) (op:BinOp) (t:TypeId) (xc yc:Bool) (a b:Option AV):Option AV:=match a,b with
 | some a,some b=>kD E op t xc yc a b
 | _,_=>none
theorem Nl {ts:List AV} (op:BinOp) (t t':TypeId) (x y:Operand):bH E ts (.binOp op t x y t')=eW E op t (isConst x) (isConst y) (ez E ts x) (ez E ts y):=by
 simp only[bH,eW]
 cases ez E ts x<;>cases ez E ts y<;>rfl
theorem Nm (t:TypeId) (c d:Bool) (k:IntKind) (a b:Int):eW E .add t c d (some (.int k a)) (some (.int k b))=some (.int k (k.wrap (a+b))):=by simp [eW,kD,dz]
theorem Nn (t:TypeId) (c d:Bool) (k:IntKind) (a b:Int):eW E .sub t c d (some (.int k a)) (some (.int k b))=some (.int k (k.wrap (a - b))):=by simp [eW,kD,dz]
theorem No (t:TypeId) (c d:Bool) (k:IntKind) (a b:Int):eW E .mul t c d (some (.int k a)) (some (.int k b))=some (.int k (k.wrap (a*b))):=by simp [eW,kD,dz]
theorem Np (t:TypeId) (c d:Bool) (k:IntKind) (a b:Int):eW E .eql t c d (some (.int k a)) (some (.int k b))=some (.bool (decide (a=b))):=by simp [eW,kD,dz];rfl
theorem Nq (t:TypeId) (c d:Bool) (k:IntKind) (a b:Int):eW E .neq t c d (some (.int k a)) (some (.int k b))=some (.bool (!decide (a=b))):=by simp [eW,kD,dz];rfl
theorem Nr (t:TypeId) (c d:Bool) (k:IntKind) (a b:Int):eW E .lss t c d (some (.int k a)) (some (.int k b))=some (.bool (decide (a<b))):=by simp [eW,kD,dz]
theorem Ns (t:TypeId) (c d:Bool) (k:IntKind) (a b:Int):eW E .leq t c d (some (.int k a)) (some (.int k b))=some (.bool (decide (a≤b))):=by simp [eW,kD,dz]
theorem Nt (t:TypeId) (c d:Bool) (k:IntKind) (a b:Int):eW E .gtr t c d (some (.int k a)) (some (.int k b))=some (.bool (decide (b<a))):=by simp [eW,kD,dz]
theorem Nu (t:TypeId) (c d:Bool) (k:IntKind) (a b:Int):eW E .geq t c d (some (.int k a)) (some (.int k b))=some (.bool (decide (b≤a))):=by simp [eW,kD,dz]
theorem Kx (t:TypeId) (c d:Bool) (a b:List UInt8):eW E .eql t c d (some (.str a)) (some (.str b))=some (.bool (decide (a=b))):=by
 simp only[eW,kD,qu,Option.some.injEq,AV.bool.injEq]
 exact Bool.eq_iff_iff.2 (by simp)
theorem Ky (t:TypeId) (c d:Bool) (a b:List UInt8):eW E .neq t c d (some (.str a)) (some (.str b))=some (.bool (!decide (a=b))):=by
 simp only[eW,kD,qu,Option.some.injEq,AV.bool.injEq]
 exact congrArg (!·) (Bool.eq_iff_iff.2 (by simp))
def Ss (op:UnOp) (a:Option AV):Option AV:=match a with
 | some a=>Rl op a
 | none=>none
def c_ (E:Env) (d:Option TypeDesc) (v i:Option AV):Option AV:=match d,v,i with
 | some (.slice elem),some (.slice i o len _ _),some (.int _ n)=>match cE E elem with
  | some size=>if 0≤n∧n<len then some (.ptr i (o+n.toNat*size)) else none
  | none=>none
 | some (.array len elem),some (.ptr i o),some (.int _ n)=>match cE E elem with
  | some size=>if 0≤n∧n<len then some (.ptr i (o+n.toNat*size)) else none
  | none=>none
 | _,_,_=>none
theorem Dn {ts:List AV} (t:TypeId) (x i:Operand):bH E ts (.indexAddr t x i)=c_ E (E.P.underlying t) (ez E ts x) (ez E ts i):=by
 simp only[bH,c_]
 split<;>simp_all<;>(split<;>simp_all)
theorem sP {e:TypeId} {i o len c z:Nat} {b:Bool} {size:Nat} (hs:cE E e=some size) (hz:z<len):c_ E (some (.slice e)) (some (.slice i o len c b)) (some (.int .i64 (z:Int)))=some (.ptr i (o+z*size)):=by
 simp only[c_,hs]
 rw[if_pos ⟨by omega,by omega⟩,Int.toNat_natCast]
def cJ (d:Option TypeDesc) (v:Option AV):Option AV:=match d,v with
 | some (.slice _),some .aI=>some (.int .i64 0)
 | some (.slice _),some (.slice _ _ n _ _)=>some (.int .i64 n)
 | some (.slice _),some .eS=>some (.int .i64 0)
 | some .string,some (.str s)=>some (.int .i64 s.length)
 | some (.array n _),some _=>some (.int .i64 n)
 | some (.map _ _),some .ea=>some (.int .i64 0)
 | _,_=>none
theorem SK {ts:List AV} (x:Operand) (t:TypeId):bH E ts (.call ⟨.builtin .len, #[x], #[t]⟩)=cJ (E.P.underlying t) (ez E ts x):=by
 simp only[bH,fY,ey,List.getElem?_toArray,List.getElem?_cons_zero]
 generalize ez E ts x=o
 cases o with
 | none=>
   generalize E.P.underlying t=u
   cases u with
   | none=>rfl
   | some d=>cases d<;>rfl
 | some v=>
   simp only
   generalize E.P.underlying t=u
   cases u with
   | none=>rfl
   | some d=>cases d<;>cases v<;>rfl
theorem P4 {ts:List AV} {h:ar} (t:TypeId) (x:Operand):ef E ts h (.load t x)=P3 (ez E ts x) (bN E h t) none:=by
 simp only[ef];cases ez E ts x<;>rfl
theorem jj (e:TypeId) (i o n c:Nat) (b:Bool):cJ (some (.slice e)) (some (.slice i o n c b))=some (.int .i64 n):=rfl
theorem tY (e:TypeId):cJ (some (.slice e)) (some .aI)=some (.int .i64 0):=rfl
theorem P5 (e:TypeId):cJ (some (.slice e)) (some .eS)=some (.int .i64 0):=rfl
def Tidy (h:ar):Prop:=∀i o,h.get i=some o→i<h.nx
def cH (E:Env) (d:Option TypeDesc) (v i:Option AV):Option AV:=match d,v,i with
 | some (.array len elem),some (.agg cs),some (.int _ n)=>match cE E elem with
  | some size=>if 0≤n∧n<len then je E elem cs (n.toNat*size) else none
  | none=>none
 | some .string,some (.str s),some (.int _ n)=>if 0≤n then (match s[n.toNat]? with | some b=>some (.int .u8 b.toNat) | none=>none) else none
 | _,_,_=>none
theorem Nv {ts:List AV} (t:TypeId) (x i:Operand):bH E ts (.index t x i)=cH E (E.P.underlying t) (ez E ts x) (ez E ts i):=by
 simp only[bH,cH]
 split
 · simp_all
   split<;>simp_all
 · rename_i s k n _ _ _
   simp_all
   cases s[n.toNat]? <;>rfl
 · simp_all
theorem Kz {s:List UInt8} {z:Nat} {b:UInt8} (h:s[z]? =some b):cH E (some .string) (some (.str s)) (some (.int .i64 (z:Int)))=some (.int .u8 b.toNat):=by
 simp only[cH]
 rw[if_pos (by omega),Int.toNat_natCast,h]
end Go.Ab
end
section
namespace Go.Ab
open Go.ChangeShapes Go.WideShapes Go.RowKit
variable {E:Env}
def tZ (h:ar):Prop:=∀i o,h.get i=some o→o.rw=false
theorem OK.show {φ:Ph} {h:ar} {w:World} (ok:OK E φ h w) (Jk:tZ h) {b off:Nat} {cs:List AV} {e:TypeId} (eC:cs≠ []) (hz:∀m,cs≠ [.map m])
 (hC:∀(k:Nat) (x:AV),cs[k]? =some x→∃y,w.cell? ⟨b,off+k,none⟩=some y∧VR φ x y):
 ∃h',h.new (.cells cs e true)=some h'∧OK E (φ.add h.nx ⟨b,off,0⟩) h' w∧φ.le (φ.add h.nx ⟨b,off,0⟩)∧tZ h'∧h'.nx=h.nx+1∧h'.get h.nx=some (.cells cs e true)∧(∀j,j≠h.nx→h'.get j=h.get j)∧(φ.add h.nx ⟨b,off,0⟩) h.nx=some ⟨b,off,0⟩:=by
 obtain ⟨h',hn⟩:∃h',h.new (.cells cs e true)=some h':=by
  exact ⟨_,ar.AR _ _⟩
 obtain ⟨lf,P6,xu,hold⟩:=ar.kF hn
 have AS:φ h.nx=none:=by
  cases e:φ h.nx with
  | none=>rfl
  | some m=>exact absurd (ok.wB _ _ e) (Nat.lt_irrefl _)
 have hle:φ.le (φ.add h.nx ⟨b,off,0⟩):=fun i m hm=>by
  unfold Ph.add;split
  · rename_i e;subst e;rw[AS] at hm;simp at hm
  · exact hm
 have jP:∀j,j≠h.nx→(φ.add h.nx ⟨b,off,0⟩) j=φ j:=fun j hj=>by simp [Ph.add,hj]
 have ib:(φ.add h.nx ⟨b,off,0⟩) h.nx=some ⟨b,off,0⟩:=by simp [Ph.add]
 have gL:∀j p,h'.get j=some p→(j=h.nx∧p= .cells cs e true)∨(j≠h.nx∧h.get j=some p):=fun j p hj=>by
  by_cases e:j=h.nx
  · subst e;rw[xu] at hj;simp at hj;exact .inl ⟨rfl,hj.symm⟩
  · rw[hold j e] at hj;exact .inr ⟨e,hj⟩
 have hlen:0<cs.length:=List.length_pos_iff.2 eC
 obtain ⟨y0,VU,_⟩:=hC 0 cs[0] (by simp [hlen])
 obtain ⟨C,e',lo,hi,hw⟩:∃C e' lo hi,w.heap[b]? =some (.cells C e' (lo,hi)):=by
  unfold World.cell? at VU
  split at VU
  · rename_i C e' fz hw;obtain ⟨lo,hi⟩:=fz;exact ⟨C,e',lo,hi,hw⟩
  · cases VU
 have GG:∀k,w.cell? ⟨b,off+k,none⟩=C[off+k]? :=fun k=>by simp [World.cell?,hw]
 refine ⟨h',hn,⟨fun i m hm=>?_,by rw[P6];exact Nat.le_succ_of_le ok.nx,fun g hg=>hle _ _ (ok.sx g hg),fun j p m hj hm=>?_,fun j k p q m n hj hk hm qj hw hb=>?_⟩,hle,fun j p hj=>?_,P6,xu,hold,ib⟩
 · rw[P6]
   by_cases e:i=h.nx
   · omega
   · rw[jP i e] at hm;have:=ok.wB i m hm;omega
 · rcases gL j p hj with ⟨rfl,rfl⟩ | ⟨AT,po⟩
   · rw[ib] at hm;simp at hm;subst hm
     refine ⟨C,e',lo,hi,hw,?_,fun k x hk=>?_,(fun h=>by cases h),fun _ m hm=>absurd hm (hz m)⟩
     · obtain ⟨y,hy,_⟩:=hC (cs.length - 1) cs[cs.length - 1] (List.getElem?_eq_getElem (by omega))
       rw[GG] at hy
       have:=(Array.getElem?_eq_some_iff.1 hy).1
       simp only[fI,Nat.zero_mul]
       omega
     · obtain ⟨y,hy,hv⟩:=hC k x hk
       rw[GG] at hy
       exact ⟨y,hy,hv.mono hle⟩
   · rw[jP j AT] at hm
     exact (ok.live j p m po hm).mono hle
 · rcases gL j p hj with ⟨rfl,rfl⟩ | ⟨VW,po⟩<;>rcases gL k q hk with ⟨rfl,rfl⟩ | ⟨VX,Ch⟩
   · rfl
   · rw[Jk k q Ch] at hw;rcases hw with h | h<;>cases h
   · rw[Jk j p po] at hw;rcases hw with h | h<;>cases h
   · rw[jP j VW] at hm;rw[jP k VX] at qj;exact ok.inj _ _ _ _ _ _ po Ch hm qj hw hb
 · rcases gL j p hj with ⟨_,rfl⟩ | ⟨_,po⟩
   · rfl
   · exact Jk j p po
theorem tZ.begin {G:Nat} {l:List Ni}:tZ (kM G l):=fun i o h=>by
 obtain ⟨x,_,_,rfl⟩:=pI h;rfl
theorem BC {f:FuncId} {XA:List AV} {h h':ar} (r:kH E f XA h (.bool true) h') {φ:Ph} {w:World} {vs:List Value} (ok:OK E φ h w) (hl:LR φ XA vs) (Jk:tZ h):
 Calls E.P f vs.toArray w fun en w'=>en= .returned (.bool true)∧w.keptBut w' (fun _=>False):=fun cs=>by
 obtain ⟨_,jd⟩:=r φ w vs ok hl
 obtain ⟨φ',w',v',fr,hv,_,qk,h1,h2,h3⟩:=jd cs
 cases hv
 refine ⟨.returned (.bool true),w',fr,⟨rfl,qk.os,qk.output,fun i hi=>?_⟩,h1,h2,h3⟩
 rw[qk.zt i hi (fun j o l' q1 q2 _=>by rw[Jk j o q1] at q2;cases q2)]
 cases w.heap[i]? with
 | none=>rfl
 | some o=>cases o with
   | cells c t fz=>exact ⟨rfl,rfl,rfl,fun _ _=>rfl⟩
   | map es c=>exact .inr ⟨rfl,rfl⟩
   | _=>rfl
section
variable {H:Type} {enc:TypeId×Value→H} {w:World} {base:Nat} {spare:Nat→Bool} {held:Bool} {fuel:Nat} {t:TypeId} {x:DataW H×List MemPlace}
end
section
variable {H:Type} {enc:TypeId×Value→H} {P:Program} {w w':World}
theorem ym (hk:w.keptBut w' (fun _=>False)) {p:MemPlace} (hp:p.block<w.heap.size):w.sameAt w' p:=by
 have h:=hk.block hp (fun _ h=>h.elim)
 cases p with
 | cell b off=>simp only[World.sameAt,World.cell?];rw[show w'.heap[b]? =w.heap[b]? from h]
 | map b=>exact h
theorem Ao (hl:laidOutB P=true) (hk:w.keptBut w' (fun _=>False)):∀{ts:List TypeId} {vs:List Value} {ds:List (DataW H)} {ps:List MemPlace},(∀t∈ts,P.readableRec t=true∧t<P.types.size)→
 DataW.TrodAll enc P w 0 (fun _=>true) true ts vs ds ps→DataW.TrodAll enc P w' 0 (fun b=>decide (b<w.heap.size)) true ts vs ds ps
 | [],vs,ds,ps,_,h=>by
   obtain ⟨rfl,rfl,rfl⟩:=trodAll_nil h
   exact trodAll_mk0
 | t::ts,vs,ds,ps,hr,h=>by
   have lf:=DataW.TrodAll.lt h
   obtain ⟨v,pt,d,u_,p,p',rfl,rfl,rfl,⟨n,h1⟩,h2⟩:=trodAll_cons h
   obtain ⟨h3,h4⟩:=hr t (by simp)
   refine trodAll_cons_mk ⟨n,?_⟩ (Ao hl hk (fun t ht=>hr t (by simp [ht])) h2)
   exact DataW.trod_stays (kids_book hl h3) (book_sized h3) (fun h=>by cases h) ⟨h4,book_self t⟩ h1 (fun q hq=>ym hk (lf q (by simp [hq]))) (fun q hq=>by simpa using lf q (by simp [hq]))
end
end Go.Ab
end
section
namespace Go.Ab
variable {E:Env}
end Go.Ab
end
section
namespace Go.Ab
variable {E:Env} {call:bx}
def Ev (E:Env) (call:bx) (c:Code) (s:St) (e:j8) (s':St):Prop:=∃n0,∀n,n0≤n→exec E call n c s= .ok e s'
theorem Ev.of {c:Code} {s:St} {e:j8} {s':St} (h:∀n,exec E call (n+1) c s= .ok e s'):Ev E call c s e s':=⟨1,fun n hn=>by
 obtain ⟨k,rfl⟩:∃k,n=k+1:=⟨n - 1,by omega⟩
 exact h k⟩
theorem Ev.seq {a b:Code} {s s1 s':St} {e:j8} (h1:Ev E call a s .normal s1) (h2:Ev E call b s1 e s'):Ev E call (.seq a b) s e s':=by
 obtain ⟨n1,h1⟩:=h1
 obtain ⟨n2,h2⟩:=h2
 refine ⟨n1+n2+1,fun n hn=>?_⟩
 obtain ⟨k,rfl⟩:∃k,n=k+1:=⟨n - 1,by omega⟩
 rw[OE,h1 k (by omega),we]
 exact h2 k (by omega)
theorem Ev.seq' {a b:Code} {s s':St} {e:j8} (he:e≠ .normal) (h1:Ev E call a s e s'):Ev E call (.seq a b) s e s':=by
 obtain ⟨n1,h1⟩:=h1
 refine ⟨n1+1,fun n hn=>?_⟩
 obtain ⟨k,rfl⟩:∃k,n=k+1:=⟨n - 1,by omega⟩
 rw[OE,h1 k (by omega)]
 cases e with
 | normal=>exact absurd rfl he
 | _=>rfl
theorem Ev.loop {b:Code} {s s1 s':St} {e:j8} (h1:Ev E call b s .normal s1) (h2:Ev E call (.loop b) s1 e s'):Ev E call (.loop b) s e s':=by
 obtain ⟨n1,h1⟩:=h1
 obtain ⟨n2,h2⟩:=h2
 refine ⟨n1+n2+1,fun n hn=>?_⟩
 obtain ⟨k,rfl⟩:∃k,n=k+1:=⟨n - 1,by omega⟩
 rw[Kv,h1 k (by omega),we]
 exact h2 k (by omega)
theorem Ev.exit {b:Code} {s s':St} {e:j8} (he:e≠ .normal) (h1:Ev E call b s e s'):Ev E call (.loop b) s e s':=by
 obtain ⟨n1,h1⟩:=h1
 refine ⟨n1+1,fun n hn=>?_⟩
 obtain ⟨k,rfl⟩:∃k,n=k+1:=⟨n - 1,by omega⟩
 rw[Kv,h1 k (by omega)]
 cases e with
 | normal=>exact absurd rfl he
 | _=>rfl
theorem Ev.ret {b:Code} {s s':St} (h1:Ev E call b s .ret s'):Ev E call (.loop b) s .ret s':=Ev.exit (by simp) h1
theorem Ev.out {b:Code} {s s':St} {i:Nat} (h1:Ev E call b s (.exit i) s'):Ev E call (.loop b) s (.exit i) s':=Ev.exit (by simp) h1
inductive ni where
 | c
 | v (x:AV)
 | q (x:AV)
 | m (x:AV)
 | n (h:ar)
 | a (obj:aH) (x:AV) (h:ar)
 | e (x:AV) (h:ar)
 | p (x:AV) (h:ar)
 | b (x:Bool)
 | l (e:j8) (s:St)
def lh:List Prop→Prop
 | []=>True
 | p::ps=>p∧lh ps
inductive R where
 | bad
 | at (e:j8) (s:St) (as:List ni) (ps:List Prop)
def R.go (k:St→List ni→List Prop→R):R→R
 | .at .normal s as ps=>k s as ps
 | r=>r
theorem R.SL {k:St→List ni→List Prop→R} {r:R} {e:j8} {s:St} {as:List ni} {ps:List Prop} (h:r.go k= .at e s as ps):(∃s1 rU qb,r= .at .normal s1 rU qb∧k s1 rU qb= .at e s as ps)∨(r= .at e s as ps∧e≠ .normal):=by
 unfold R.go at h
 split at h
 · exact .inl ⟨_,_,_,rfl,h⟩
 · rename_i eC
   refine .inr ⟨h,fun he=>?_⟩
   subst he;exact eC _ _ _ h
def SM (E:Env) (ts:List AV):List Operand→List TypeId→Option AV
 | [x],[t]=>cJ (E.P.underlying t) (ez E ts x)
 | _,_=>none
def GH (c a b:Option AV):Option AV:=match c with
 | some (.bool true)=>a
 | some (.bool false)=>b
 | _=>none
theorem Nw {ts:List AV} (c a b:Operand):bH E ts (.pick c a b)=GH (ez E ts c) (ez E ts a) (ez E ts b):=by
 simp only[bH]
 generalize ez E ts c=x
 cases x with
 | none=>rfl
 | some v=>cases v with
   | bool b=>cases b<;>rfl
   | _=>rfl
theorem aX {c:Bool} {a b:Option AV} (h:c=true):GH (some (.bool c)) a b=a:=by rw[h];rfl
theorem aJ {c:Bool} {a b:Option AV} (h:c=false):GH (some (.bool c)) a b=b:=by rw[h];rfl
def Nx (E:Env) (ts:List AV) (op:Op):Option AV:=match op with
 | .indexAddr t x i=>c_ E (E.P.underlying t) (ez E ts x) (ez E ts i)
 | .index t x i=>cH E (E.P.underlying t) (ez E ts x) (ez E ts i)
 | .binOp op t x y _=>eW E op t (isConst x) (isConst y) (ez E ts x) (ez E ts y)
 | .pick c a b=>GH (ez E ts c) (ez E ts a) (ez E ts b)
 | .call c=>match c.callee with
   | .builtin .len=>SM E ts c.args.toList c.argTypes.toList
   | _=>none
 | _=>none
theorem yn {α:Type} {a:Array α} {l:List α} (h:a.toList=l):a=l.toArray:=by rw[←h]
theorem GI {ts:List AV} {op:Op} {v:AV} (e:Nx E ts op=some v):bH E ts op=some v:=by
 unfold Nx at e
 split at e
 · rw[←Dn] at e;exact e
 · rw[←Nv] at e;exact e
 · rename_i o t x y t';exact (Nl o t t' x y).trans e
 · rename_i c a b;exact (Nw c a b).trans e
 · rename_i c
   obtain ⟨cl,args,tys⟩:=c
   simp only at e
   split at e
   · unfold SM at e
     split at e
     · rename_i x t hx ht
       rw[yn hx,yn ht]
       exact (SK x t).trans e
     · cases e
   · cases e
 · cases e
noncomputable def KA (E:Env) (ts:List AV) (h:ar) (op:Op):Option AV:=match op with
 | .load t x=>P3 (ez E ts x) (bN E h t) none
 | op=>ef E ts h op
theorem BD {ts:List AV} {h:ar} {op:Op} {v:AV} (e:KA E ts h op=some v):ef E ts h op=some v:=by
 unfold KA at e
 split at e
 · rw[P4];exact e
 · exact e
def SN (E:Env) (d:Option TypeDesc) (l c:Option AV):Option (aH×(Nat→AV)):=match d,l,c with
 | some (.slice elem),some (.int _ len),some (.int _ cap)=>match cE E elem,jI E elem,gH E elem with
   | some n,some bytes,some z=>
     if 0≤len∧len≤cap∧cap<2^30∧(bytes:Int)*cap≤2^47∧z.cells.length=n then
      some (.cells (gu z.cells cap.toNat) elem false,fun i=> .slice i 0 len.toNat cap.toNat false)
     else none
   | _,_,_=>none
 | _,_,_=>none
def Ny (E:Env) (ts:List AV) (op:Op):Option (aH×(Nat→AV)):=match op with
 | .makeSlice t l c=>SN E (E.P.underlying t) (ez E ts l) (ez E ts c)
 | op=>eu E ts op
theorem GJ (ts:List AV) (op:Op):Ny E ts op=eu E ts op:=by
 unfold Ny
 split
 · rename_i t l c
   simp only[eu]
   generalize E.P.underlying t=d
   generalize ez E ts l=x
   generalize ez E ts c=y
   rfl
 · rfl
noncomputable def Nz (E:Env) (call:bx) (ts:List AV) (h:ar) (rc:RC) (o:Oper) (x:AV) (h':ar):Prop:=match o.op with
 | .store t a v=>match ez E ts a,ez E ts v with
   | some a,some v=>x=AV.undef∧h_ E h t a v=some h'
   | _,_=>False
 | .call c=>match c.callee with
   | .builtin .append=>match fY E ts c.args.toList with
     | some [s,y]=>da E h c.argTypes s y=some (x,h')
     | _=>False
   | .builtin .copy=>match fY E ts c.args.toList with
     | some [s,y]=>se E h c.argTypes s y=some (x,h')
     | _=>False
   | .value _=>match callee E ts c with
     | some (f,args)=>match jx E f with
       | some g=>g args h=some (x,h')
       | none=>call f args h= .ret x h'
     | none=>False
   | _=>dv E call ts h rc o= .val x h'
 | .convert src dst y=>zU E h src dst (ez E ts y)=some (x,h')
 | _=>dv E call ts h rc o= .val x h'
theorem GK {ts:List AV} {h:ar} {rc:RC} {o:Oper} {x:AV} {h':ar} (e:Nz E call ts h rc o x h'):dv E call ts h rc o= .val x h':=by
 unfold Nz at e
 split at e
 · rename_i t a v ho
   split at e
   · rename_i a' v' h1 h2
     obtain ⟨rfl,e⟩:=e
     unfold dv
     simp only[ho,h1,h2,e]
   · exact e.elim
 · rename_i c ho
   split at e
   · rename_i hc
     split at e
     · rename_i h1
       unfold dv
       simp only[ho,hc,h1,e]
     · exact e.elim
   · rename_i hc
     split at e
     · rename_i h1
       unfold dv
       simp only[ho,hc,h1,e]
     · exact e.elim
   · rename_i hc
     split at e
     · rename_i h1
       split at e
       · rename_i h2
         unfold dv
         simp only[ho,hc,h1,h2,e]
       · rename_i h2
         unfold dv
         simp only[ho,hc,h1,h2,e]
     · exact e.elim
   · exact e
 · rename_i src dst y ho
   unfold dv
   simp only[ho,e]
 · exact e
def H9 {β:Type} (k:List AV→β):List AV→Nat→AV→β
 | [],_,_=>k []
 | _::xs,0,v=>k (v::xs)
 | x::xs,d+1,v=>H9 (fun ys=>k (x::ys)) xs d v
theorem BE {β:Type}:∀(k:List AV→β) (ts:List AV) (d:Nat) (v:AV),H9 k ts d v=k (ts.set d v)
 | k,[],_,_=>by simp [H9]
 | k,_::xs,0,v=>rfl
 | k,x::xs,d+1,v=>by rw[H9,BE];rfl
def qX (s:St) (d:Option Tmp) (v:AV) (h:ar) (as:List ni) (ps:List Prop):R:=match d with
 | some i=>H9 (fun ts=> .at .normal ⟨ts,h,s.ds,s.rc⟩ as ps) s.ts i v
 | none=> .at .normal ⟨s.ts,h,s.ds,s.rc⟩ as ps
theorem lY (s:St) (d:Option Tmp) (v:AV) (h:ar) (as:List ni) (ps:List Prop):Go.Ab.qX s d v h as ps= .at .normal {s with ts:=dV s.ts d v,h:=h} as ps:=by
 cases d with
 | none=>rfl
 | some i=>exact BE _ _ _ _
noncomputable def Dp (E:Env) (call:bx) (o:Oper) (s:St) (as:List ni) (ps:List Prop):R:=match as with
 | .c::as=>match bH E s.ts o.op with
   | some v=>qX s o.dst v s.h as ps
   | none=> .bad
 | .v x::as=>qX s o.dst x s.h as ((Nx E s.ts o.op=some x)::ps)
 | .q x::as=>qX s o.dst x s.h as ((bH E s.ts o.op=some x)::ps)
 | .m x::as=>match bH E s.ts o.op with
   | none=>qX s o.dst x s.h as ((KA E s.ts s.h o.op=some x)::ps)
   | some _=> .bad
 | .n h'::as=>match bH E s.ts o.op,ef E s.ts s.h o.op,eu E s.ts o.op with
   | none,none,some (obj,mk)=>qX s o.dst (mk s.h.nx) h' as ((s.h.new obj=some h')::ps)
   | _,_,_=> .bad
 | .a obj x h'::as=>match bH E s.ts o.op,ef E s.ts s.h o.op with
   | none,none=>qX s o.dst x h' as ((∃mk,Ny E s.ts o.op=some (obj,mk)∧mk s.h.nx=x)::(s.h.new obj=some h')::ps)
   | _,_=> .bad
 | .e x h'::as=>match bH E s.ts o.op,ef E s.ts s.h o.op,eu E s.ts o.op with
   | none,none,none=>qX s o.dst x h' as (Nz E call s.ts s.h s.rc o x h'::ps)
   | _,_,_=> .bad
 | .p x h'::as=>match bH E s.ts o.op,ef E s.ts s.h o.op,eu E s.ts o.op with
   | none,none,none=> .at (.panic x) {s with h:=h'} as ((dv E call s.ts s.h s.rc o= .panic x h')::ps)
   | _,_,_=> .bad
 | _=> .bad
theorem wh {o:Oper} {s:St} {as:List ni} {ps:List Prop} {e:j8} {s':St} {tj:List ni} {qi:List Prop} (hr:Dp E call o s as ps= .at e s' tj qi) (hp:lh qi):lh ps∧AP E call s o= .ok e s':=by
 have seen:∀{x:AV},(bH E s.ts o.op=some x∨(bH E s.ts o.op=none∧ef E s.ts s.h o.op=some x))→AP E call s o= .ok .normal {s with ts:=dV s.ts o.dst x}:=by
  rintro x (h | ⟨h1,h2⟩)<;>unfold AP
  · rw[h]
  · rw[h1,h2]
 unfold Dp at hr
 split at hr
 · split at hr
   · rename_i v hv
     rw[lY] at hr;cases hr
     exact ⟨hp,seen (.inl hv)⟩
   · cases hr
 · rw[lY] at hr;cases hr
   exact ⟨hp.2,seen (.inl (GI hp.1))⟩
 · rw[lY] at hr;cases hr
   exact ⟨hp.2,seen (.inl hp.1)⟩
 · split at hr
   · rename_i h1
     rw[lY] at hr;cases hr
     exact ⟨hp.2,seen (.inr ⟨h1,BD hp.1⟩)⟩
   · cases hr
 · split at hr
   · rename_i h1 h2 h3
     rw[lY] at hr;cases hr
     refine ⟨hp.2,?_⟩
     unfold AP
     simp only[h1,h2,h3,hp.1]
   · cases hr
 · split at hr
   · rename_i h1 h2
     rw[lY] at hr;cases hr
     obtain ⟨⟨mk,h3,h4⟩,h5,hp⟩:=hp
     rw[GJ] at h3
     refine ⟨hp,?_⟩
     unfold AP
     simp only[h1,h2,h3,h4,h5]
   · cases hr
 · split at hr
   · rename_i h1 h2 h3
     rw[lY] at hr;cases hr
     refine ⟨hp.2,?_⟩
     unfold AP
     simp only[h1,h2,h3,GK hp.1]
   · cases hr
 · split at hr
   · rename_i h1 h2 h3
     cases hr
     refine ⟨hp.2,?_⟩
     unfold AP
     simp only[h1,h2,h3,hp.1]
   · cases hr
 · cases hr
inductive Gd where
 | yes
 | no
 | ask (v want:Bool)
def Dq (want:Bool):Option AV→Gd
 | some (.bool v)=> .ask v want
 | _=> .no
def BF (ops:Array Oper) (ts:List AV) (g:Option (Nat×Bool)):Gd:=match g with
 | none=> .yes
 | some (j,want)=>match (ops[j]?).bind (·.dst) with
   | none=> .no
   | some d=>Dq want ts[d]?
theorem Ap (ops:Array Oper) (ts:List AV) (o:Oper):cP ops ts o=(match BF ops ts o.guard with
 | .yes=>true
 | .no=>false
 | .ask v want=>v==want):=by
 unfold cP BF
 cases o.guard with
 | none=>rfl
 | some q=>
   obtain ⟨j,want⟩:=q
   simp only
   cases (ops[j]?).bind (·.dst) with
   | none=>rfl
   | some d=>
     simp only
     generalize ts[d]? =y
     unfold Dq
     cases y with
     | none=>rfl
     | some z=>cases z<;>rfl
noncomputable def od (E:Env) (call:bx) (ops:Array Oper):List Oper→St→List ni→List Prop→R
 | [],s,as,ps=> .at .normal s as ps
 | o::rest,s,as,ps=>match BF ops s.ts o.guard with
   | .yes=>(Dp E call o s as ps).go (od E call ops rest)
   | .no=>(qX s o.dst AV.undef s.h as ps).go (od E call ops rest)
   | .ask v want=>match as with
     | .b x::as=>bif x==want then (Dp E call o s as ((v=x)::ps)).go (od E call ops rest) else (qX s o.dst AV.undef s.h as ((v=x)::ps)).go (od E call ops rest)
     | _=> .bad
theorem t_ {ops:Array Oper}:∀(l:List Oper) (s:St) (as:List ni) (ps:List Prop) (e:j8) (s':St) (tj:List ni) (qi:List Prop),od E call ops l s as ps= .at e s' tj qi→lh qi→lh ps∧jK E call ops l s= .ok e s'
 | [],s,as,ps,e,s',tj,qi,hr,hp=>by cases hr;exact ⟨hp,rfl⟩
 | o::rest,s,as,ps,e,s',tj,qi,hr,hp=>by
   have ih:=t_ (ops:=ops) rest
   have P7:∀(rU:List ni) (qb:List Prop),(Dp E call o s rU qb).go (od E call ops rest)= .at e s' tj qi→lh qb∧(cP ops s.ts o=true→jK E call ops (o::rest) s= .ok e s'):=by
    intro rU qb h
    rcases R.SL h with ⟨s1,Ma,N8,h1,h2⟩ | ⟨h1,eC⟩
    · obtain ⟨h3,h4⟩:=ih _ _ _ _ _ _ _ h2 hp
      obtain ⟨h5,h6⟩:=wh h1 h3
      refine ⟨h5,fun hw=>?_⟩
      unfold jK
      rw[if_pos hw,h6];exact h4
    · obtain ⟨h5,h6⟩:=wh h1 hp
      refine ⟨h5,fun hw=>?_⟩
      unfold jK
      rw[if_pos hw,h6]
      cases e with
      | normal=>exact absurd rfl eC
      | _=>rfl
   have P9:∀(rU:List ni) (qb:List Prop),(qX s o.dst AV.undef s.h rU qb).go (od E call ops rest)= .at e s' tj qi→lh qb∧(cP ops s.ts o=false→jK E call ops (o::rest) s= .ok e s'):=by
    intro rU qb h
    rw[lY] at h
    obtain ⟨h3,h4⟩:=ih _ _ _ _ _ _ _ (show od E call ops rest _ rU qb=_ from h) hp
    refine ⟨h3,fun hw=>?_⟩
    unfold jK
    rw[if_neg (by rw[hw];exact Bool.false_ne_true)]
    exact h4
   have hg:=Ap ops s.ts o
   unfold od at hr
   split at hr
   · rename_i h1;rw[h1] at hg;exact ⟨(P7 _ _ hr).1,(P7 _ _ hr).2 hg⟩
   · rename_i h1;rw[h1] at hg;exact ⟨(P9 _ _ hr).1,(P9 _ _ hr).2 hg⟩
   · rename_i v want h1
     rw[h1] at hg
     split at hr
     · rename_i x rU
       cases hx:x==want with
       | true=>
         rw[hx] at hr
         obtain ⟨⟨h2,h3⟩,h4⟩:=P7 _ _ hr
         exact ⟨h3,h4 (by rw[hg,h2];exact hx)⟩
       | false=>
         rw[hx] at hr
         obtain ⟨⟨h2,h3⟩,h4⟩:=P9 _ _ hr
         exact ⟨h3,h4 (by rw[hg,h2];exact hx)⟩
     · cases hr
inductive RT where
 | bad
 | ok (tr:List Step) (hs:List ar) (s:St) (as:List ni) (ps:List Prop)
def RT.step (x:Step):RT→RT
 | .ok tr hs s as ps=> .ok (x::tr) hs s as ps
 | .bad=> .bad
def RT.bound (x:Step) (h:ar):RT→RT
 | .ok tr hs s as ps=> .ok (x::tr) (h::hs) s as ps
 | .bad=> .bad
def RT.put (s:St) (d:Option Tmp) (v:AV) (h:ar) (k:St→RT):RT:=match d with
 | some i=>H9 (fun ts=>k ⟨ts,h,s.ds,s.rc⟩) s.ts i v
 | none=>k ⟨s.ts,h,s.ds,s.rc⟩
theorem RT.put_eq (s:St) (d:Option Tmp) (v:AV) (h:ar) (k:St→RT):RT.put s d v h k=k {s with ts:=dV s.ts d v,h:=h}:=by
 cases d with
 | none=>rfl
 | some i=>exact BE _ _ _ _
noncomputable def Dr (E:Env) (call:bx) (i k:Nat) (o:Oper) (s:St) (as:List ni) (ps:List Prop) (go:Nat→St→List ni→List Prop→RT):RT:=match as with
 | .e x h'::as=>(RT.put s o.dst x h' fun s'=>go (k+1) s' as (Nz E call s.ts s.h s.rc o x h'::ps)).bound ⟨i,k,s.ts,x,.rZ h'⟩ s.h
 | _=> .bad
noncomputable def Ds (E:Env) (i k:Nat) (o:Oper) (s:St) (as:List ni) (ps:List Prop) (go:Nat→St→List ni→List Prop→RT):RT:=match as with
 | .c::as=>match bH E s.ts o.op with
   | some v=>(RT.put s o.dst v s.h fun s'=>go k s' as ps).step ⟨i,k,s.ts,v,.gR⟩
   | none=> .bad
 | .v x::as=>(RT.put s o.dst x s.h fun s'=>go k s' as ((Nx E s.ts o.op=some x)::ps)).step ⟨i,k,s.ts,x,.gR⟩
 | .q x::as=>(RT.put s o.dst x s.h fun s'=>go k s' as ((bH E s.ts o.op=some x)::ps)).step ⟨i,k,s.ts,x,.gR⟩
 | .m x::as=>match bH E s.ts o.op with
   | none=>(RT.put s o.dst x s.h fun s'=>go k s' as ((KA E s.ts s.h o.op=some x)::ps)).step ⟨i,k,s.ts,x,.red⟩
   | some _=> .bad
 | .n h'::as=>match bH E s.ts o.op,ef E s.ts s.h o.op,eu E s.ts o.op with
   | none,none,some (obj,mk)=>(RT.put s o.dst (mk s.h.nx) h' fun s'=>go k s' as ((s.h.new obj=some h')::ps)).step ⟨i,k,s.ts,mk s.h.nx,.qz s.h.nx obj⟩
   | _,_,_=> .bad
 | .a obj x h'::as=>match bH E s.ts o.op,ef E s.ts s.h o.op with
   | none,none=>(RT.put s o.dst x h' fun s'=>go k s' as ((∃mk,Ny E s.ts o.op=some (obj,mk)∧mk s.h.nx=x)::(s.h.new obj=some h')::ps)).step ⟨i,k,s.ts,x,.qz s.h.nx obj⟩
   | _,_=> .bad
 | _=> .bad
noncomputable def runT (E:Env) (call:bx) (ops:Array Oper):List Nat→Nat→St→List ni→List Prop→RT
 | [],_,s,as,ps=> .ok [] [s.h] s as ps
 | i::rest,k,s,as,ps=>match ops[i]? with
   | none=> .bad
   | some o=>match BF ops s.ts o.guard with
     | .yes=>bif fG E o.op then Dr E call i k o s as ps (runT E call ops rest) else Ds E i k o s as ps (runT E call ops rest)
     | .no=>bif fG E o.op then (RT.put s o.dst AV.undef s.h fun s'=>runT E call ops rest (k+1) s' as ps).bound ⟨i,k,s.ts,AV.undef,.off⟩ s.h else (RT.put s o.dst AV.undef s.h fun s'=>runT E call ops rest k s' as ps).step ⟨i,k,s.ts,AV.undef,.off⟩
     | .ask v want=>match as with
       | .b x::as=>bif x==want then (bif fG E o.op then Dr E call i k o s as ((v=x)::ps) (runT E call ops rest) else Ds E i k o s as ((v=x)::ps) (runT E call ops rest))
         else (bif fG E o.op then (RT.put s o.dst AV.undef s.h fun s'=>runT E call ops rest (k+1) s' as ((v=x)::ps)).bound ⟨i,k,s.ts,AV.undef,.off⟩ s.h else (RT.put s o.dst AV.undef s.h fun s'=>runT E call ops rest k s' as ((v=x)::ps)).step ⟨i,k,s.ts,AV.undef,.off⟩)
       | _=> .bad
theorem RT.pJ {x:Step} {r:RT} {tr:List Step} {hs:List ar} {s:St} {as:List ni} {ps:List Prop} (h:r.step x= .ok tr hs s as ps):∃Eo,tr=x::Eo∧r= .ok Eo hs s as ps:=by
 cases r with
 | bad=>cases h
 | ok a b c d e=>cases h;exact ⟨_,rfl,rfl⟩
theorem RT.Dt {x:Step} {g:ar} {r:RT} {tr:List Step} {hs:List ar} {s:St} {as:List ni} {ps:List Prop} (h:r.bound x g= .ok tr hs s as ps):∃Eo pr,tr=x::Eo∧hs=g::pr∧r= .ok Eo pr s as ps:=by
 cases r with
 | bad=>cases h
 | ok a b c d e=>cases h;exact ⟨_,_,rfl,rfl,rfl⟩
theorem yp {ops:Array Oper}:∀(l:List Nat) (k:Nat) (s:St) (as:List ni) (ps:List Prop) (tr:List Step) (hs:List ar) (s':St) (tj:List ni) (qi:List Prop),
 runT E call ops l k s as ps= .ok tr hs s' tj qi→lh qi→lh ps∧db E call ops l k s= .ok tr hs s'
 | [],k,s,as,ps,tr,hs,s',tj,qi,hr,hp=>by cases hr;exact ⟨hp,rfl⟩
 | i::rest,k,s,as,ps,tr,hs,s',tj,qi,hr,hp=>by
   have ih:=yp (ops:=ops) rest
   unfold runT at hr
   split at hr
   · cases hr
   rename_i o hi
   have hE:∀{rU:List ni} {qb:List Prop},fG E o.op=true→Dr E call i k o s rU qb (runT E call ops rest)= .ok tr hs s' tj qi→lh qb∧(cP ops s.ts o=true→db E call ops (i::rest) k s= .ok tr hs s'):=by
    intro rU qb he h
    unfold Dr at h
    split at h
    · rename_i x h' Ma
      rw[RT.put_eq] at h
      obtain ⟨F9,qp,rfl,rfl,h9⟩:=RT.Dt h
      obtain ⟨h1,h2⟩:=ih _ _ _ _ _ _ _ _ _ h9 hp
      refine ⟨h1.2,fun hw=>?_⟩
      unfold db
      simp only[hi,he,hw,if_true,GK h1.1,h2]
      rfl
    · cases h
   have hN:∀{rU:List ni} {qb:List Prop},fG E o.op=false→Ds E i k o s rU qb (runT E call ops rest)= .ok tr hs s' tj qi→lh qb∧(cP ops s.ts o=true→db E call ops (i::rest) k s= .ok tr hs s'):=by
    intro rU qb he h
    unfold Ds at h
    split at h
    · split at h
      · rename_i v hv
        rw[RT.put_eq] at h
        obtain ⟨F9,rfl,h9⟩:=RT.pJ h
        obtain ⟨h1,h2⟩:=ih _ _ _ _ _ _ _ _ _ h9 hp
        refine ⟨h1,fun hw=>?_⟩
        unfold db
        simp only[hi,he,hw,if_true,hv,Bool.false_eq_true,if_false]
        rw[h2]
        rfl
      · cases h
    · rw[RT.put_eq] at h
      obtain ⟨F9,rfl,h9⟩:=RT.pJ h
      obtain ⟨h1,h2⟩:=ih _ _ _ _ _ _ _ _ _ h9 hp
      refine ⟨h1.2,fun hw=>?_⟩
      unfold db
      simp only[hi,he,hw,if_true,GI h1.1,Bool.false_eq_true,if_false]
      rw[h2]
      rfl
    · rw[RT.put_eq] at h
      obtain ⟨F9,rfl,h9⟩:=RT.pJ h
      obtain ⟨h1,h2⟩:=ih _ _ _ _ _ _ _ _ _ h9 hp
      refine ⟨h1.2,fun hw=>?_⟩
      unfold db
      simp only[hi,he,hw,if_true,h1.1,Bool.false_eq_true,if_false]
      rw[h2]
      rfl
    · split at h
      · rename_i hv
        rw[RT.put_eq] at h
        obtain ⟨F9,rfl,h9⟩:=RT.pJ h
        obtain ⟨h1,h2⟩:=ih _ _ _ _ _ _ _ _ _ h9 hp
        refine ⟨h1.2,fun hw=>?_⟩
        unfold db
        simp only[hi,he,hw,if_true,hv,BD h1.1,Bool.false_eq_true,if_false]
        rw[h2]
        rfl
      · cases h
    · split at h
      · rename_i q1 q2 q3
        rw[RT.put_eq] at h
        obtain ⟨F9,rfl,h9⟩:=RT.pJ h
        obtain ⟨h1,h2⟩:=ih _ _ _ _ _ _ _ _ _ h9 hp
        refine ⟨h1.2,fun hw=>?_⟩
        unfold db
        simp only[hi,he,hw,if_true,q1,q2,q3,h1.1,Bool.false_eq_true,if_false,h2]
        rfl
      · cases h
    · split at h
      · rename_i q1 q2
        rw[RT.put_eq] at h
        obtain ⟨F9,rfl,h9⟩:=RT.pJ h
        obtain ⟨h1,h2⟩:=ih _ _ _ _ _ _ _ _ _ h9 hp
        obtain ⟨⟨mk,h3,h4⟩,h5,h6⟩:=h1
        rw[GJ] at h3
        subst h4
        refine ⟨h6,fun hw=>?_⟩
        unfold db
        simp only[hi,he,hw,if_true,q1,q2,h3,h5,Bool.false_eq_true,if_false,h2]
        rfl
      · cases h
    · cases h
   have hO:∀{rU:List ni} {qb:List Prop},(bif fG E o.op then (RT.put s o.dst AV.undef s.h fun s'=>runT E call ops rest (k+1) s' rU qb).bound ⟨i,k,s.ts,AV.undef,.off⟩ s.h else (RT.put s o.dst AV.undef s.h fun s'=>runT E call ops rest k s' rU qb).step ⟨i,k,s.ts,AV.undef,.off⟩)= .ok tr hs s' tj qi→
    lh qb∧(cP ops s.ts o=false→db E call ops (i::rest) k s= .ok tr hs s'):=by
    intro rU qb h
    cases he:fG E o.op with
    | true=>
      rw[he,cond_true,RT.put_eq] at h
      obtain ⟨F9,qp,rfl,rfl,h9⟩:=RT.Dt h
      obtain ⟨h1,h2⟩:=ih _ _ _ _ _ _ _ _ _ h9 hp
      refine ⟨h1,fun hw=>?_⟩
      unfold db
      simp only[hi,he,hw,if_true,Bool.false_eq_true,if_false]
      rw[h2]
      rfl
    | false=>
      rw[he,cond_false,RT.put_eq] at h
      obtain ⟨F9,rfl,h9⟩:=RT.pJ h
      obtain ⟨h1,h2⟩:=ih _ _ _ _ _ _ _ _ _ h9 hp
      refine ⟨h1,fun hw=>?_⟩
      unfold db
      simp only[hi,he,hw,Bool.false_eq_true,if_false]
      rw[h2]
      rfl
   have hY:∀{rU:List ni} {qb:List Prop},(bif fG E o.op then Dr E call i k o s rU qb (runT E call ops rest) else Ds E i k o s rU qb (runT E call ops rest))= .ok tr hs s' tj qi→
    lh qb∧(cP ops s.ts o=true→db E call ops (i::rest) k s= .ok tr hs s'):=by
    intro rU qb h
    cases he:fG E o.op with
    | true=>rw[he] at h;exact hE he h
    | false=>rw[he] at h;exact hN he h
   have hg:=Ap ops s.ts o
   split at hr
   · rename_i h1;rw[h1] at hg;exact ⟨(hY hr).1,(hY hr).2 hg⟩
   · rename_i h1;rw[h1] at hg;exact ⟨(hO hr).1,(hO hr).2 hg⟩
   · rename_i v want h1
     rw[h1] at hg
     split at hr
     · rename_i x rU
       cases hx:x==want with
       | true=>
         rw[hx] at hr
         obtain ⟨⟨h2,h3⟩,h4⟩:=hY hr
         exact ⟨h3,h4 (by rw[hg,h2];exact hx)⟩
       | false=>
         rw[hx] at hr
         obtain ⟨⟨h2,h3⟩,h4⟩:=hO hr
         exact ⟨h3,h4 (by rw[hg,h2];exact hx)⟩
     · cases hr
noncomputable def E8 (E:Env) (ops:Array Oper) (x:Step) (h:ar) (ps:List Prop):List Prop:=match x.kind with
 | .red=>match ops[x.i]? with
   | some o=>(AV.same 20 x.v x.v=true)::(KA E x.ts h o.op=some x.v)::ps
   | none=>False::ps
 | .qz n obj=>(∃o,h.get n=some o∧aH.same o obj=true)::ps
 | _=>ps
noncomputable def E9 (E:Env) (ops:Array Oper) (x:Step):List ar→List Prop→List Prop
 | [],ps=>ps
 | h::hs,ps=>E9 E ops x hs (E8 E ops x h ps)
noncomputable def ua (E:Env) (ops:Array Oper) (bZ:List Nat) (an:List (List Nat)) (hs:List ar):List Step→List Prop→List Prop
 | [],ps=>ps
 | x::tr,ps=>ua E ops bZ an hs tr (E9 E ops x ((hs.drop x.k).take (jL bZ an x.i+1 - x.k)) ps)
theorem H_ {ops:Array Oper} {x:Step} {h:ar} {ps:List Prop} (hc:lh (E8 E ops x h ps)):lh ps∧jf E ops x h=true:=by
 unfold E8 at hc
 unfold jf
 split at hc
 · rename_i hk
   simp only[hk]
   split at hc
   · rename_i o ho
     have gL:ops.getD x.i default=o:=by simp [Array.getD_eq_getD_getElem?,ho]
     simp only[gL,BD hc.2.1,hc.1]
     exact ⟨hc.2.2,trivial⟩
   · exact hc.1.elim
 · rename_i n obj hk
   obtain ⟨⟨o,h1,h2⟩,h3⟩:=hc
   simp only[hk,h1,h2]
   exact ⟨h3,trivial⟩
 · rename_i h1 h2
   refine ⟨hc,?_⟩
   split
   · rename_i hk;exact absurd hk (by assumption)
   · rename_i hk;exact absurd hk (h2 _ _)
   · rfl
theorem Aq {ops:Array Oper} {x:Step}:∀(hs:List ar) (ps:List Prop),lh (E9 E ops x hs ps)→lh ps∧hs.all (jf E ops x)=true
 | [],ps,hc=>⟨hc,rfl⟩
 | h::hs,ps,hc=>by
   obtain ⟨h1,h2⟩:=Aq hs _ hc
   obtain ⟨h3,h4⟩:=H_ h1
   exact ⟨h3,by simp only[List.all_cons,h4,h2,Bool.and_self]⟩
theorem wi {ops:Array Oper} {bZ:List Nat} {an:List (List Nat)} {hs:List ar}:∀(tr:List Step) (ps:List Prop),lh (ua E ops bZ an hs tr ps)→
 lh ps∧(tr.all fun x=>((hs.drop x.k).take (jL bZ an x.i+1 - x.k)).all (jf E ops x))=true
 | [],ps,hc=>⟨hc,rfl⟩
 | x::tr,ps,hc=>by
   obtain ⟨h1,h2⟩:=wi tr _ hc
   obtain ⟨h3,h4⟩:=Aq _ _ h1
   exact ⟨h3,by simp only[List.all_cons,h4,h2,Bool.and_self]⟩
noncomputable def KB (l:List Nat) (ps:List Prop):List Prop:=match l with
 | []=>ps
 | [_]=>ps
 | l=>(nodup l=true)::ps
noncomputable def BG (E:Env) (call:bx) (ops:Array Oper) (s:St) (as:List ni) (ps:List Prop):R:=match qy E ops with
 | none=> .bad
 | some pl=>match runT E call ops pl.order 0 s as ps with
   | .ok tr hs s' tj qi=> .at .normal s' tj (KB (pg tr) (ua E ops pl.bZ pl.an hs tr qi))
   | .bad=> .bad
theorem zF {ops:Array Oper} {s:St} {as:List ni} {ps:List Prop} {e:j8} {s':St} {tj:List ni} {qi:List Prop} (hr:BG E call ops s as ps= .at e s' tj qi) (hp:lh qi):lh ps∧tu E call ops s= .ok e s':=by
 unfold BG at hr
 split at hr
 · cases hr
 rename_i pl HA
 split at hr
 · rename_i tr hs s1 rU qb h1
   cases hr
   have hn:lh (ua E ops pl.bZ pl.an hs tr qb)∧nodup (pg tr)=true:=by
    unfold KB at hp
    split at hp
    · rename_i hm;exact ⟨hp,by rw[hm];rfl⟩
    · rename_i hm;exact ⟨hp,by rw[hm];rfl⟩
    · exact ⟨hp.2,hp.1⟩
   obtain ⟨h2,h3⟩:=wi _ _ hn.1
   obtain ⟨h4,h5⟩:=yp _ _ _ _ _ _ _ _ _ _ h1 h2
   refine ⟨h4,?_⟩
   unfold tu
   simp only[HA,h5]
   have:ph E ops pl tr hs=true:=by
    unfold ph
    rw[hn.2,Bool.true_and]
    exact h3
   rw[if_pos this]
 · cases hr
noncomputable def run (E:Env) (call:bx):Nat→Code→St→List ni→List Prop→R
 | 0,_,_,_,_=> .bad
 | n+1,c,s,as,ps=>match c with
   | .skip=> .at .normal s as ps
   | .ret=> .at .ret s as ps
   | .exit i=> .at (.exit i) s as ps
   | .seq a b=>match run E call n a s as ps with
     | .at .normal s1 rU qb=>run E call n b s1 rU qb
     | r=>r
   | .cond x a b=>match as with
     | .b v::as=>match ez E s.ts x with
       | some (.bool u)=>bif v then run E call n a s as ((u=true)::ps) else run E call n b s as ((u=false)::ps)
       | _=> .bad
     | .l e s'::as=> .at e s' as (Ev E call (.cond x a b) s e s'::ps)
     | _=> .bad
   | .block id b=>match run E call n b s as ps with
     | .at (.exit j) s1 rU qb=>bif Nat.beq j id then .at .normal s1 rU qb else .at (.exit j) s1 rU qb
     | r=>r
   | .loop b=>match as with
     | .l e s'::as=> .at e s' as (Ev E call (.loop b) s e s'::ps)
     | _=> .bad
   | .rangeFunc f qi a b=>match as with
     | .l e s'::as=> .at e s' as (Ev E call (.rangeFunc f qi a b) s e s'::ps)
     | _=> .bad
   | .region i ops draw=>match as with
     | .l e s'::as=> .at e s' as (Ev E call (.region i ops draw) s e s'::ps)
     | as=>bif draw then BG E call ops s as ps else od E call ops ops.toList s as ps
   | .scope b=>run E call n b s as ps
   | .label _=> .at .normal s as ps
   | _=> .bad
theorem Ar:∀(n:Nat) (c:Code) (s:St) (as:List ni) (ps:List Prop) (e:j8) (s':St) (tj:List ni) (qi:List Prop),run E call n c s as ps= .at e s' tj qi→lh qi→lh ps∧Ev E call c s e s'
 | 0,c,s,as,ps,e,s',tj,qi,hr,hp=>by cases hr
 | n+1,c,s,as,ps,e,s',tj,qi,hr,hp=>by
   have ih:=Ar n
   unfold run at hr
   split at hr
   · cases hr;exact ⟨hp,.of fun _=>rfl⟩
   · cases hr;exact ⟨hp,.of fun _=>rfl⟩
   · cases hr;exact ⟨hp,.of fun _=>rfl⟩
   · split at hr
     · rename_i s1 rU qb h1
       obtain ⟨h2,h3⟩:=ih _ _ _ _ _ _ _ _ hr hp
       obtain ⟨h4,h5⟩:=ih _ _ _ _ _ _ _ _ h1 h2
       exact ⟨h4,h5.seq h3⟩
     · rename_i eC
       obtain ⟨h4,h5⟩:=ih _ _ _ _ _ _ _ _ hr hp
       refine ⟨h4,h5.seq' fun he=>?_⟩
       subst he;exact eC _ _ _ hr
   · split at hr
     · rename_i v rU
       split at hr
       · rename_i u hu
         cases v with
         | true=>
           obtain ⟨⟨h1,h2⟩,n0,h3⟩:=ih _ _ _ _ _ _ _ _ hr hp
           refine ⟨h2,n0+1,fun n hn=>?_⟩
           obtain ⟨k,rfl⟩:∃k,n=k+1:=⟨n - 1,by omega⟩
           rw[Ku,hu,h1,E7];exact h3 k (by omega)
         | false=>
           obtain ⟨⟨h1,h2⟩,n0,h3⟩:=ih _ _ _ _ _ _ _ _ hr hp
           refine ⟨h2,n0+1,fun n hn=>?_⟩
           obtain ⟨k,rfl⟩:∃k,n=k+1:=⟨n - 1,by omega⟩
           rw[Ku,hu,h1,Dm];exact h3 k (by omega)
       · cases hr
     · cases hr;exact ⟨hp.2,hp.1⟩
     · cases hr
   · split at hr
     · rename_i id b _ j s1 rU qb h1
       cases hj:Nat.beq j id with
       | true=>
         rw[hj] at hr
         cases hr
         obtain ⟨h2,n0,h3⟩:=ih _ _ _ _ _ _ _ _ h1 hp
         refine ⟨h2,n0+1,fun n hn=>?_⟩
         obtain ⟨k,rfl⟩:∃k,n=k+1:=⟨n - 1,by omega⟩
         rw[BA,h3 k (by omega),wg,if_pos (Nat.eq_of_beq_eq_true hj)]
       | false=>
         rw[hj] at hr
         cases hr
         obtain ⟨h2,n0,h3⟩:=ih _ _ _ _ _ _ _ _ h1 hp
         refine ⟨h2,n0+1,fun n hn=>?_⟩
         obtain ⟨k,rfl⟩:∃k,n=k+1:=⟨n - 1,by omega⟩
         rw[BA,h3 k (by omega),wg,if_neg (Nat.ne_of_beq_eq_false hj)]
     · rename_i id b _ eC
       obtain ⟨h2,n0,h3⟩:=ih _ _ _ _ _ _ _ _ hr hp
       refine ⟨h2,n0+1,fun n hn=>?_⟩
       obtain ⟨k,rfl⟩:∃k,n=k+1:=⟨n - 1,by omega⟩
       rw[BA,h3 k (by omega)]
       cases e with
       | exit j=>exact absurd hr (eC _ _ _ _)
       | _=>rfl
   · split at hr
     · cases hr;exact ⟨hp.2,hp.1⟩
     · cases hr
   · split at hr
     · cases hr;exact ⟨hp.2,hp.1⟩
     · cases hr
   · rename_i i ops draw
     split at hr
     · cases hr;exact ⟨hp.2,hp.1⟩
     cases draw with
     | true=>
       simp only[cond_true] at hr
       obtain ⟨h1,h2⟩:=zF hr hp
       exact ⟨h1,.of fun n=>by rw[Nk];exact h2⟩
     | false=>
       simp only[cond_false] at hr
       obtain ⟨h1,h2⟩:=t_ _ _ _ _ _ _ _ _ hr hp
       exact ⟨h1,.of fun n=>by rw[Kw];exact h2⟩
   · obtain ⟨h1,n0,h2⟩:=ih _ _ _ _ _ _ _ _ hr hp
     exact ⟨h1,n0+1,fun n hn=>by
      obtain ⟨k,rfl⟩:∃k,n=k+1:=⟨n - 1,by omega⟩
      show exec E call k _ s=_
      exact h2 k (by omega)⟩
   · cases hr;exact ⟨hp,.of fun _=>rfl⟩
   · cases hr
theorem E_ {n:Nat} {c:Code} {s:St} {al:List ni} {e:j8} {s':St} {ps:List Prop} (hr:run E call n c s al []= .at e s' [] ps) (hp:lh ps):Ev E call c s e s':=(Ar _ _ _ _ _ _ _ _ _ hr hp).2
theorem Du {tmpl:(Nat→AV)→List AV} {c:Code} {s:St} {e:j8} {h:ar} {ds:List pf} {rc:RC} {L:List AV} (ev:Ev E call c s e ⟨L,h,ds,rc⟩) (hl:L=tmpl fun k=>L.getD k AV.undef):∃y,Ev E call c s e ⟨tmpl y,h,ds,rc⟩:=by
 refine ⟨fun k=>L.getD k AV.undef,?_⟩
 rw[←hl];exact ev
theorem NA {f:FuncId} {fn:Func} {c:Code} (hf:E.P.funcs[f]? =some fn) (hb:fn.body=some c) {args:List AV} {h h':ar} {ts:List AV} {x:j8} (hx:x= .normal∨x= .ret)
 (e:Ev E call c ⟨args++List.replicate (fn.ntmps - args.length) AV.undef,h,[],.no⟩ x ⟨ts,h',[],.no⟩) {vs:List AV} (hr:jM E h' ts fn.results.toList=some vs):∃n0,∀n,n0≤n→wc E call n f args h= .ret (hG vs) h':=by
 obtain ⟨n0,e⟩:=e
 exact ⟨n0,fun n hn=>H7 hf hb hx (e n hn) hr⟩
def ub (E:Env) (call:bx) (f:FuncId) (args:List AV) (h:ar) (v:AV) (h':ar):Prop:=∃n0,∀n,n0≤n→wc E call n f args h= .ret v h'
theorem bz {f:FuncId} {fn:Func} {c:Code} {args OF ts:List AV} {h h':ar} {x:j8} {v:AV} (hf:E.P.funcs[f]? =some fn) (hb:fn.body=some c) (ht:args++List.replicate (fn.ntmps - args.length) AV.undef=OF) (hx:x= .normal∨x= .ret)
 (e:Ev E call c ⟨OF,h,[],.no⟩ x ⟨ts,h',[],.no⟩) (hr:(jM E h' ts fn.results.toList).map hG=some v):ub E call f args h v h':=by
 subst ht
 cases hv:jM E h' ts fn.results.toList with
 | none=>rw[hv] at hr;cases hr
 | some vs=>
   rw[hv] at hr
   obtain rfl:hG vs=v:=Option.some.inj hr
   exact NA hf hb hx e hv
end Go.Ab
end
section
namespace Go.Ab
variable {E:Env}
theorem yq {t:TypeId} {c d:Bool} {k:IntKind} {a b z:Int} (h:k.wrap (a+b)=z):eW E .add t c d (some (.int k a)) (some (.int k b))=some (.int k z):=by rw[Nm,h]
theorem yr {t:TypeId} {c d:Bool} {k:IntKind} {a b z:Int} (h:k.wrap (a - b)=z):eW E .sub t c d (some (.int k a)) (some (.int k b))=some (.int k z):=by rw[Nn,h]
theorem E' {t:TypeId} {c d:Bool} {k:IntKind} {a b z:Int} (h:k.wrap (a*b)=z):eW E .mul t c d (some (.int k a)) (some (.int k b))=some (.int k z):=by rw[No,h]
theorem bP (k:IntKind) (n:Int):AV.scalar (.int k n)=true:=rfl
theorem bB (b:Bool):AV.scalar (.bool b)=true:=rfl
theorem bQ (b:List UInt8):AV.scalar (.str b)=true:=rfl
theorem bR (i o:Nat):AV.scalar (.ptr i o)=true:=rfl
theorem bl (i o n c:Nat) (b:Bool):AV.scalar (.slice i o n c b)=true:=rfl
theorem cm:AV.scalar .aI=true:=rfl
theorem cn:AV.scalar .gq=true:=rfl
theorem cq:AV.scalar .ea=true:=rfl
theorem cr:AV.scalar .nilFunc=true:=rfl
theorem ct:AV.scalar .nilIface=true:=rfl
theorem bS (i:Nat):AV.scalar (.map i)=true:=rfl
theorem dE {h:ar} {t:TypeId} {i o:Nat} {cs:List AV} {e:TypeId} {ro:Bool} {v:AV} (hg:h.get i=some (.cells cs e ro)) (hv:je E t cs o=some v):bN E h t (.ptr i o)=some v:=by
 simp only[bN,hg,hv]
theorem uc {h h':ar} {o:aH} (n:h.new o=some h'):h'.get h.nx=some o:=(ar.kF n).2.2.1
theorem yu {h h':ar} {o:aH} (n:h.new o=some h'):h'.nx=h.nx+1:=(ar.kF n).2.1
theorem qY {h h':ar} {o x:aH} {i:Nat} (y:Tidy h) (n:h.new o=some h') (g:h.get i=some x):h'.get i=some x:=by
 have:=y i x g
 rw[(ar.kF n).2.2.2 i (by omega)];exact g
theorem w_ {h h':ar} {o:aH} (y:Tidy h) (n:h.new o=some h'):Has h h':=fun _ _ g=>qY y n g
theorem oM {h h':ar} {o:aH} (y:Tidy h) (n:h.new o=some h'):Tidy h':=fun i x g=>by
 obtain ⟨_,h2,h3,h4⟩:=ar.kF n
 by_cases hx:i=h.nx
 · omega
 · rw[h4 i hx] at g;have:=y i x g;omega
theorem sQ {h:ar} (o:aH):∃h',h.new o=some h':=⟨_,ar.AR _ _⟩
theorem KC {h:ar} {t e:TypeId} {i o n:Nat} {cs:List AV} {v:AV} (g:h.get i=some (.cells cs e false)) (hs:cE E t=some n) (hv:v.cells.length=n) (ho:o+n≤cs.length) (hk:v.cells.all AV.scalar=true):∃h',h_ E h t (.ptr i o) v=some h':=by
 refine ⟨h.put i (some (.cells (setFrom cs o v.cells) e false)),?_⟩
 simp only[h_,g,hs]
 rw[if_pos ⟨hv,ho,hk⟩]
theorem ud {h h':ar} {t e:TypeId} {i o:Nat} {cs:List AV} {v:AV} (s:h_ E h t (.ptr i o) v=some h') (g:h.get i=some (.cells cs e false)):h'=h.put i (some (.cells (setFrom cs o v.cells) e false)):=by
 simp only[h_,g] at s
 split at s
 · rename_i h1 _
   cases h1
   split at s
   · exact (Option.some.inj s).symm
   · cases s
 · cases s
theorem H' {h h':ar} {t e:TypeId} {i o:Nat} {cs:List AV} {v:AV} (y:Tidy h) (s:h_ E h t (.ptr i o) v=some h') (g:h.get i=some (.cells cs e false)):h'.get i=some (.cells (setFrom cs o v.cells) e false):=by
 rw[ud s g]
 have:=y i _ g
 exact ar.eF _
theorem Ff {h h':ar} {t e:TypeId} {i j o:Nat} {cs:List AV} {v:AV} {x:aH} (y:Tidy h) (s:h_ E h t (.ptr i o) v=some h') (g:h.get i=some (.cells cs e false)) (hj:j≠i) (gx:h.get j=some x):h'.get j=some x:=by
 rw[ud s g]
 have:=y i _ g
 rw[ar.cZ (Ne.symm hj)];exact gx
theorem Dv {h h':ar} {t e:TypeId} {i o:Nat} {cs:List AV} {v:AV} (s:h_ E h t (.ptr i o) v=some h') (g:h.get i=some (.cells cs e false)):h'.nx=h.nx:=by
 rw[ud s g];exact ar.O' _ _ _
theorem Fl {h h':ar} {t e:TypeId} {i o:Nat} {cs:List AV} {v:AV} (y:Tidy h) (s:h_ E h t (.ptr i o) v=some h') (g:h.get i=some (.cells cs e false)):Tidy h':=fun j x gj=>by
 have hi:=y i _ g
 rw[Dv s g]
 by_cases hx:j=i
 · omega
 · rw[ud s g,ar.cZ (Ne.symm hx)] at gj
   exact y j x gj
end Go.Ab
end
section
namespace Go.Ab
variable {E:Env}
theorem dT {p:Prop} [Decidable p] (h:p):decide p=true:=decide_eq_true h
theorem dF {p:Prop} [Decidable p] (h:¬p):decide p=false:=decide_eq_false h
theorem nT {p:Prop} [Decidable p] (h:¬p):(!decide p)=true:=by rw[decide_eq_false h];rfl
theorem nF {p:Prop} [Decidable p] (h:p):(!decide p)=false:=by rw[decide_eq_true h];rfl
def dD:Code→List Code
 | .seq a b=>dD a++dD b
 | .cond _ a b=>dD a++dD b
 | .block _ b=>dD b
 | .loop b=>b::dD b
 | .scope b=>dD b
 | .rangeFunc _ _ _ b=>b::dD b
 | _=> []
structure mH (E:Env) (h:ar) (e:TypeId) (n:Nat) (av:AV) (len:Nat) (cs:List AV):Prop where
 size:cE E e=some n
 cells:cs.length=len*n
 small:len<2^60
 lens:cJ (some (.slice e)) (some av)=some (.int .i64 (len:Nat))
 block:len=0∨∃p o m c b C f ro,av= .slice p o m c b∧m≤c∧h.get p=some (.cells C f ro)∧(∀j,j<cs.length→C[o+j]? =cs[j]?)
theorem mH.has {h h':ar} {e:TypeId} {n:Nat} {av:AV} {len:Nat} {cs:List AV} (x:mH E h e n av len cs) (hh:Has h h'):mH E h' e n av len cs:=
 ⟨x.size,x.cells,x.small,x.lens,x.block.imp id fun ⟨p,o,m,c,b,C,f,ro,h1,h0,h2,h3⟩=>⟨p,o,m,c,b,C,f,ro,h1,h0,hh _ _ h2,h3⟩⟩
theorem mH.elem {h:ar} {e:TypeId} {av:AV} {len:Nat} {cs:List AV} (x:mH E h e 1 av len cs) (ha:gr E e=some false) {i:Nat} {v:AV} (hv:cs[i]? =some v):
 ∃p q,c_ E (some (.slice e)) (some av) (some (.int .i64 (i:Nat)))=some (.ptr p q)∧bN E h e (.ptr p q)=some v:=by
 have hi:=(List.getElem?_eq_some_iff.1 hv).1
 have hl:cs.length=len:=by rw[x.cells,Nat.mul_one]
 rcases x.block with h0 | ⟨p,o,m,c,b,C,f,ro,h1,_,h2,h3⟩
 · omega
 · subst h1
   have hm:m=len:=by
    have:=x.lens
    rw[jj] at this
    simp only[Option.some.injEq,AV.int.injEq,true_and] at this
    omega
   refine ⟨p,o+i*1,sP x.size (by omega),?_⟩
   simp only[bN,h2,je,ha,Nat.mul_one]
   rw[h3 i hi,hv]
def r7 (k:IntKind) (l:List Nat):List AV:=l.map fun (n:Nat)=> .int k (n:Int)
structure fV (E:Env) (h:ar) (k:IntKind) (e:TypeId) (av:AV) (l:List Nat):Prop where
 at_:mH E h e 1 av l.length (r7 k l)
 agg:gr E e=some false
 known:av= .aI∨∃p o n c b,av= .slice p o n c b∧(b=true→0<c)
theorem qZ {k:IntKind} {l:List Nat} {i:Nat} {z:Nat} (h:l[i]? =some z):(r7 k l)[i]? =some (.int k (z:Int)):=by simp [r7,h]
theorem fV.elem {h:ar} {k:IntKind} {e:TypeId} {av:AV} {l:List Nat} (x:fV E h k e av l) {i:Nat} {z:Nat} (hz:l[i]? =some z):
 ∃p q,c_ E (some (.slice e)) (some av) (some (.int .i64 (i:Nat)))=some (.ptr p q)∧bN E h e (.ptr p q)=some (.int k (z:Int)):=x.at_.elem x.agg (qZ hz)
theorem fV.len {h:ar} {k:IntKind} {e:TypeId} {av:AV} {l:List Nat} (x:fV E h k e av l):cJ (some (.slice e)) (some av)=some (.int .i64 (l.length:Nat)):=x.at_.lens
theorem lZ (k:IntKind) (l:List Nat):(r7 k l).length=l.length:=by simp [r7]
theorem fV.small {h:ar} {k:IntKind} {e:TypeId} {av:AV} {l:List Nat} (x:fV E h k e av l):l.length<2^60:=x.at_.small
def XB (p:Nat) (av:AV):Prop:=∀o n c b,av≠ .slice p o n c b
theorem fV.of {h:ar} {k:IntKind} {e:TypeId} {l:List Nat} {p o c:Nat} {b:Bool} {C:List AV} {f:TypeId} {ro:Bool} (hs:cE E e=some 1) (ha:gr E e=some false) (hl:l.length<2^60) (hc:l.length≤c) (hb:b=true→0<c) (hg:h.get p=some (.cells C f ro))
 (hv:∀(i:Nat) z,l[i]? =some z→C[o+i]? =some (.int k (z:Int))):fV E h k e (.slice p o l.length c b) l:=
 ⟨⟨hs,by rw[lZ];omega,hl,rfl,.inr ⟨p,o,_,c,b,C,f,ro,rfl,hc,hg,fun j hj=>by
   rw[lZ] at hj
   rw[hv j l[j] (List.getElem?_eq_getElem hj),qZ (List.getElem?_eq_getElem hj)]⟩⟩,ha,.inr ⟨p,o,_,c,b,rfl,hb⟩⟩
theorem fV.nil {h:ar} {k:IntKind} {e:TypeId} (hs:cE E e=some 1) (ha:gr E e=some false):fV E h k e .aI []:=
 ⟨⟨hs,rfl,by decide,rfl,.inl rfl⟩,ha,.inl rfl⟩
theorem fV.inv {h:ar} {k:IntKind} {e:TypeId} {l:List Nat} {p o n c:Nat} {b:Bool} (x:fV E h k e (.slice p o n c b) l):n=l.length∧(l≠ []→l.length≤c∧∃C f ro,h.get p=some (.cells C f ro)∧∀(i:Nat) z,l[i]? =some z→C[o+i]? =some (.int k (z:Int))):=by
 have hn:n=l.length:=by
  have:=x.len
  rw[jj] at this
  simp only[Option.some.injEq,AV.int.injEq,true_and] at this
  omega
 refine ⟨hn,fun eC=>?_⟩
 rcases x.at_.block with h0 | ⟨p',o',m,c',b',C,f,ro,h1,h0,h2,h3⟩
 · exact absurd (List.length_eq_zero_iff.1 h0) eC
 · cases h1
   refine ⟨by omega,C,f,ro,h2,fun i z hz=>?_⟩
   rw[h3 i (by rw[lZ];exact (List.getElem?_eq_some_iff.1 hz).1),qZ hz]
theorem rV {len cap lo hi:Nat} (low high:Option AV) (hl:low=some (.int .i64 (lo:Nat))∨(low=none∧lo=0)) (hh:high=some (.int .i64 (hi:Nat))∨(high=none∧hi=len)) (h1:lo≤hi) (h2:hi≤cap):j7 len cap low high none=some (lo,hi,cap):=by
 have b:∀(x y:Nat),x≤y→mP (.int .i64 (x:Nat)) y=some x:=fun x y h=>by
  simp only[mP]
  rw[if_pos ⟨by omega,by omega⟩,Int.toNat_natCast]
 unfold j7
 rcases hh with rfl | ⟨rfl,rfl⟩<;>rcases hl with rfl | ⟨rfl,rfl⟩<;>simp [b,h1,h2]
theorem fV.slice {h:ar} {k:IntKind} {e t:TypeId} {av:AV} {l:List Nat} (x:fV E h k e av l) (ht:E.P.underlying t=some (.slice e)) {lo hi:Nat} (low high:Option AV) (hl:low=some (.int .i64 (lo:Nat))∨(low=none∧lo=0)) (hh:high=some (.int .i64 (hi:Nat))∨(high=none∧hi=l.length)) (h1:lo≤hi) (h2:hi≤l.length) (h3:l.length=0∨lo<l.length):
 ∃r,fR E t av low high none=some r∧fV E h k e r ((l.take hi).drop lo)∧∀p,XB p av→XB p r:=by
 rcases x.known with rfl | ⟨p,o,n,c,b,rfl,hb⟩
 · have Pb:l.length=0:=by
    have:=x.len
    rw[tY] at this
    simp only[Option.some.injEq,AV.int.injEq,true_and] at this
    omega
   obtain rfl:=List.length_eq_zero_iff.1 Pb
   simp only[List.length_nil] at *
   have LQ:hi=0:=by omega
   subst LQ
   have LP:lo=0:=by omega
   subst LP
   refine ⟨.aI,?_,by simpa using x,fun p hp=>hp⟩
   simp only[fR,ht,x.at_.size,rV (len:=0) (cap:=0) low high hl hh (Nat.le_refl 0) (Nat.le_refl 0)]
 · obtain ⟨rfl,hx⟩:=x.inv
   have RP:l.length≤c:=by
    by_cases eC:l=[]
    · subst eC;exact Nat.zero_le _
    · exact (hx eC).1
   have hr:∃o' c',fR E t (.slice p o l.length c b) low high none=some (.slice p o' (hi - lo) c' b)∧(b=true→0<c')∧hi - lo≤c'∧(hi - lo≠0→o'=o+lo):=by
    simp only[fR,ht,x.at_.size,RP,if_true,rV (len:=l.length) (cap:=c) low high hl hh h1 (by omega)]
    by_cases hm:c=lo
    · have Pj:b=false:=by
       cases b with
       | false=>rfl
       | true=>have:=hb rfl;omega
      subst Pj
      rw[if_pos hm]
      exact ⟨o,c - lo,rfl,by simp,by omega,fun h=>by omega⟩
    · rw[if_neg hm]
      refine ⟨o+lo*1,c - lo,by simp,fun h=>by omega,by omega,fun h=>by omega⟩
   obtain ⟨o',c',e1,e2,e3,e4⟩:=hr
   refine ⟨_,e1,?_,fun q hq o' n' c' b' he=>by cases he;exact hq _ _ _ _ rfl⟩
   have hlen:((l.take hi).drop lo).length=hi - lo:=by simp;omega
   rw[←hlen]
   by_cases h0:hi - lo=0
   · have:(l.take hi).drop lo=[]:=List.length_eq_zero_iff.1 (by omega)
     rw[this]
     exact ⟨⟨x.at_.size,rfl,by decide,rfl,.inl rfl⟩,x.agg,.inr ⟨_,_,_,_,_,rfl,e2⟩⟩
   · have eC:l≠ []:=fun e=>by subst e;simp at h2;omega
     obtain ⟨_,C,f,ro,g1,g2⟩:=hx eC
     refine fV.of x.at_.size x.agg (by have:=x.small;omega) (by omega) e2 g1 fun i z hz=>?_
     have AW:i<hi - lo:=by rw[←hlen];exact (List.getElem?_eq_some_iff.1 hz).1
     rw[e4 h0,Nat.add_assoc]
     apply g2
     rw[List.getElem?_drop,List.getElem?_take_of_lt (by omega)] at hz
     exact hz
structure LX (h:ar) (av:AV) (p o n:Nat) (C:List AV) (f:TypeId):Prop where
 is:∃c b,av= .slice p o n c b∧n≤c
 get:h.get p=some (.cells C f false)
 fits:o+n≤C.length
theorem LX.len {h:ar} {av:AV} {p o n:Nat} {C:List AV} {f e:TypeId} (w:LX h av p o n C f):cJ (some (.slice e)) (some av)=some (.int .i64 (n:Nat)):=by
 obtain ⟨c,b,rfl,_⟩:=w.is
 rfl
theorem LX.slice {h:ar} {av:AV} {p o n:Nat} {C:List AV} {f e t:TypeId} (w:LX h av p o n C f) (hs:cE E e=some 1) (ht:E.P.underlying t=some (.slice e)) {lo hi:Nat} (low high:Option AV) (hl:low=some (.int .i64 (lo:Nat))∨(low=none∧lo=0)) (hh:high=some (.int .i64 (hi:Nat))∨(high=none∧hi=n)) (h1:lo≤hi) (h2:hi≤n) (h3:lo<n):
 ∃r,fR E t av low high none=some r∧LX h r p (o+lo) (hi - lo) C f:=by
 obtain ⟨c,b,rfl,hc⟩:=w.is
 have:=w.fits
 refine ⟨.slice p (o+lo) (hi - lo) (c - lo) b,?_,⟨⟨_,_,rfl,by omega⟩,w.get,by omega⟩⟩
 simp only[fR,ht,hs,hc,if_true,rV (len:=n) (cap:=c) low high hl hh h1 (by omega)]
 rw[if_neg (by omega)]
 simp
def Holds (k:IntKind) (C:List AV) (o:Nat) (l:List Nat):Prop:=∀(i z:Nat),l[i]? =some z→C[o+i]? =some (.int k (z:Int))
theorem Holds.behind {k:IntKind} {C:List AV} {o:Nat} {l ws:List Nat} (x:Holds k C o l) {i z:Nat} (hi:ws.length≤i) (hz:l[i]? =some z):(setFrom C o (r7 k ws))[o+i]? =some (.int k (z:Int)):=by
 rw[kq,if_neg (by rw[lZ];omega)]
 exact x i z hz
theorem LX.load {h:ar} {av:AV} {p o n:Nat} {C:List AV} {f e:TypeId} {i:Nat} {v:AV} (w:LX h av p o n C f) (ha:gr E e=some false) (hv:C[o+i]? =some v):bN E h e (.ptr p (o+i))=some v:=by
 simp only[bN,w.get,je,ha,hv]
theorem LX.r7 {h:ar} {av:AV} {p o n:Nat} {C:List AV} {f e:TypeId} {k:IntKind} {l:List Nat} (w:LX h av p o n C f) (hs:cE E e=some 1) (ha:gr E e=some false) (hn:l.length=n) (Mj:n<2^60) (x:Holds k C o l) (hb:∀c b,av= .slice p o n c b→b=true→0<c):fV E h k e av l:=by
 obtain ⟨c,b,rfl,hc⟩:=w.is
 subst hn
 exact fV.of hs ha Mj hc (hb c b rfl) w.get x
theorem Holds.of {k:IntKind} {C:List AV} {o:Nat} {l:List Nat} (hf:o+l.length≤C.length):Holds k (setFrom C o (r7 k l)) o l:=fun i z hz=>by
 have hi:=(List.getElem?_eq_some_iff.1 hz).1
 rw[kq,if_pos ⟨by omega,by rw[lZ];omega,by omega⟩,Nat.add_sub_cancel_left,qZ hz]
end Go.Ab
end
section
namespace Go.Ab
variable {E:Env} {M0:Fa.Dk}
theorem ub.unique {call:bx} {f:FuncId} {args:List AV} {h h1 h2:ar} {v1 v2:AV} (a:ub E call f args h v1 h1) (b:ub E call f args h v2 h2):v1=v2∧h1=h2:=by
 obtain ⟨n,a⟩:=a
 obtain ⟨m,b⟩:=b
 have:=(a (n+m) (by omega)).symm.trans (b (n+m) (by omega))
 simpa using this
def AV.within (nx:Nat):Nat→AV→Bool
 | 0,_=>false
 | n+1,x=>match x with
   | .bool _ | .int .. | .str _ | .gq | .aI | .ea | .nilFunc | .nilIface | .eS=>true
   | .ptr i _=>decide (i<nx)
   | .slice i _ _ _ _=>decide (i<nx)
   | .map i=>decide (i<nx)
   | .iface _ v=>AV.within nx n v
   | .agg cs=>cs.all (AV.within nx n)
   | .tuple cs=>cs.all (AV.within nx n)
   | _=>false
theorem VR.within {φ φ':Ph} {nx:Nat} (ho:∀i,i<nx→φ' i=φ i):∀(n:Nat) {x:AV} (_:AV.within nx n x=true) {y:Value},VR φ' x y→VR φ x y
 | 0,_,h,_,_=>by cases h
 | n+1,x,h,y,hv=>by
   have ih:= @VR.within φ φ' nx ho n
   cases hv with
   | bool b=>exact .bool b
   | int k m=>exact .int k m
   | str s=>exact .str s
   | gq=>exact .gq
   | aI=>exact .aI
   | ea=>exact .ea
   | nilFunc=>exact .nilFunc
   | nilIface=>exact .nilIface
   | eS a c=>exact .eS a c
   | ptr o hl=>rw[ho _ (of_decide_eq_true h)] at hl;exact .ptr o hl
   | slice o len cap op hl=>rw[ho _ (of_decide_eq_true h)] at hl;exact .slice o len cap op hl
   | map hl=>rw[ho _ (of_decide_eq_true h)] at hl;exact .map hl
   | iface t v v' h'=>exact .iface t v v' (ih (by simpa [AV.within] using h) h')
   | agg cs iD hl hc=>
     refine .agg cs iD hl fun i x y a b=>ih ?_ (hc i x y a b)
     simp only[AV.within,List.all_eq_true] at h
     exact h x (List.mem_of_getElem? a)
   | tuple cs iD hl hc=>
     refine .tuple cs iD hl fun i x y a b=>ih ?_ (hc i x y a b)
     simp only[AV.within,List.all_eq_true] at h
     exact h x (List.mem_of_getElem? a)
   | _=>cases h
theorem kH.GM {f:FuncId} {args:List AV} {h h':ar} {v:AV} (r:kH E f args h v h') (hs:Has h h') (hv:AV.within h.nx 20 v=true):kH E f args h v h:=fun φ w vs ok hl=>by
 obtain ⟨h1,h2⟩:=r φ w vs ok hl
 refine ⟨h1,fun cs=>?_⟩
 obtain ⟨φ',w',v',fr,x1,x2,x3,x4⟩:=h2 cs
 exact ⟨φ,w',v',fr,x1.within x3.old 20 hv,ok.forget x3.ext x2 hs,x3.forget,x4⟩
open Classical in
noncomputable def ks (E:Env) (M0:Fa.Dk):Nat→bx
 | 0=>yl M0
 | d+1=>fun F args h=>match F with
   | .vN _=> .fail "" none
   | .fn f=>match M0 f args h with
     | some p=> .ret p.1 p.2
     | none=>
       if hx:∃v,∃h',ub E (ks E M0 d) f args h v h'∧Has h h'∧AV.within h.nx 20 v=true then .ret hx.choose h
       else if hy:∃p:AV×ar,ub E (ks E M0 d) f args h p.1 p.2 then .ret hy.choose.1 hy.choose.2 else .fail "" none
theorem yv (hE:jX E) (hM:Fa.Bz E M0):∀d,ie E (ks E M0 d)
 | 0=>H8 hM
 | d+1=>by
   have ih:=yv hE hM d
   have key:∀{f:FuncId} {args:List AV} {h:ar} {o:iT},ks E M0 (d+1) (.fn f) args h=o→(∃v h',o= .ret v h'∧kH E f args h v h')∨o= .fail "" none:=by
    intro f args h o e
    simp only[ks] at e
    split at e
    · rename_i p hp
      exact .inl ⟨_,_,e.symm,hM _ _ _ _ _ hp⟩
    · split at e
      · rename_i hx
        obtain ⟨h',⟨n,h1⟩,h2,h3⟩:=hx.choose_spec
        exact .inl ⟨_,_,e.symm,kH.GM ((nV hE n ih).1 _ _ _ _ _ (h1 n (Nat.le_refl n))) h2 h3⟩
      · split at e
        · rename_i hy
          obtain ⟨n,h1⟩:=hy.choose_spec
          exact .inl ⟨_,_,e.symm,(nV hE n ih).1 _ _ _ _ _ (h1 n (Nat.le_refl n))⟩
        · exact .inr e.symm
   refine ⟨fun F args h v h' e=>?_,fun F args h v h' e=>?_⟩
   · cases F with
     | vN l=>cases e
     | fn f=>
       rcases key e with ⟨w,k,h1,h2⟩ | h1
       · cases h1;exact h2.any
       · cases h1
   · cases F with
     | vN l=>cases e
     | fn f=>
       rcases key e with ⟨w,k,h1,h2⟩ | h1
       · cases h1
       · cases h1
theorem az {d:Nat} {f:FuncId} {args:List AV} {h h':ar} {v:AV} (hm:M0 f args h=none) (hd:ub E (ks E M0 d) f args h v h') (hh:Has h h') (hv:AV.within h.nx 20 v=true):ks E M0 (d+1) (.fn f) args h= .ret v h:=by
 simp only[ks,hm]
 have hx:∃v,∃h',ub E (ks E M0 d) f args h v h'∧Has h h'∧AV.within h.nx 20 v=true:=⟨v,h',hd,hh,hv⟩
 rw[dif_pos hx]
 obtain ⟨k,h1,_,_⟩:=hx.choose_spec
 rw[(h1.unique hd).1]
theorem Ia {d:Nat} {f:FuncId} {args:List AV} {h h':ar} {v:AV} (hm:M0 f args h=none) (hd:ub E (ks E M0 d) f args h v h') (hv:¬(Has h h'∧AV.within h.nx 20 v=true)):ks E M0 (d+1) (.fn f) args h= .ret v h':=by
 simp only[ks,hm]
 have hx:¬∃v,∃h',ub E (ks E M0 d) f args h v h'∧Has h h'∧AV.within h.nx 20 v=true:=by
  rintro ⟨w,k,h1,h2,h3⟩
  obtain ⟨rfl,rfl⟩:=h1.unique hd
  exact hv ⟨h2,h3⟩
 have hy:∃p:AV×ar,ub E (ks E M0 d) f args h p.1 p.2:=⟨(v,h'),hd⟩
 rw[dif_neg hx,dif_pos hy]
 obtain ⟨h1,h2⟩:=hy.choose_spec.unique hd
 rw[h1,h2]
theorem Dw (hE:jX E) (hM:Fa.Bz E M0) {d:Nat} {f:FuncId} {args:List AV} {h h':ar} {v:AV} (e:ks E M0 d (.fn f) args h= .ret v h'):kH E f args h v h':=by
 cases d with
 | zero=>
   simp only[ks,yl] at e
   split at e
   · rename_i p hp
     cases e
     exact hM _ _ _ _ _ hp
   · cases e
 | succ d=>
   simp only[ks] at e
   split at e
   · rename_i p hp
     cases e
     exact hM _ _ _ _ _ hp
   · split at e
     · rename_i hx
       cases e
       obtain ⟨h',⟨n,h1⟩,h2,h3⟩:=hx.choose_spec
       exact kH.GM ((nV hE n (yv hE hM d)).1 _ _ _ _ _ (h1 n (Nat.le_refl n))) h2 h3
     · split at e
       · rename_i hy
         cases e
         obtain ⟨n,h1⟩:=hy.choose_spec
         exact (nV hE n (yv hE hM d)).1 _ _ _ _ _ (h1 n (Nat.le_refl n))
       · cases e
end Go.Ab
end
section
namespace Go.Ab
variable {E:Env}
theorem KD (n:Nat):IntKind.u64.wrap (n:Int)=((n%18446744073709551616:Nat):Int):=by
 show (if (false&&decide ((n:Int)%2^64≥2^63))=true then (n:Int)%2^64 - 2^64 else (n:Int)%2^64)=_
 rw[if_neg (by simp)]
 omega
end Go.Ab
end
section
namespace Go.Ab
variable {E:Env} {M0:Fa.Dk}
structure cG (h h':ar):Prop where
 y:Tidy h'
 a:Has h h'
 n:h.nx≤h'.nx
theorem cG.refl {h:ar} (y:Tidy h):cG h h:=⟨y,Has.refl h,Nat.le_refl _⟩
theorem cG.trans {a b c:ar} (x:cG a b) (y:cG b c):cG a c:=⟨y.y,x.a.trans y.a,Nat.le_trans x.n y.n⟩
theorem iy {d:Nat} {f:FuncId} {args:List AV} {h h':ar} {v:AV} {P:ar→Prop} (hm:M0 f args h=none) (hd:ub E (ks E M0 d) f args h v h') (y:Tidy h) (g:cG h h') (p1:P h') (p2:AV.within h.nx 20 v=true→P h):
 ∃hk,ks E M0 (d+1) (.fn f) args h= .ret v hk∧cG h hk∧P hk:=by
 by_cases hv:AV.within h.nx 20 v=true
 · exact ⟨h,az hm hd g.a hv,cG.refl y,p2 hv⟩
 · exact ⟨h',Ia hm hd fun c=>hv c.2,g,p1⟩
def Kept (p:Nat) (h h':ar):Prop:=∀i x,i≠p→h.get i=some x→h'.get i=some x
theorem Kept.store {h h':ar} {t e:TypeId} {i o:Nat} {cs:List AV} {v:AV} (y:Tidy h) (s:h_ E h t (.ptr i o) v=some h') (g:h.get i=some (.cells cs e false)):Kept i h h':=fun _ _ hj gj=>Ff y s g hj gj
theorem wj (k:IntKind) (l:List Nat):(r7 k l).all AV.scalar=true:=by
 simp [r7,AV.scalar]
theorem fV.nH {h:ar} {k:IntKind} {e:TypeId} {av:AV} {l:List Nat} (x:fV E h k e av l):nH av=some l.length:=by
 rcases x.known with rfl | ⟨p,o,n,c,b,rfl,_⟩
 · have:=x.len
   rw[tY] at this
   simp only[Option.some.injEq,AV.int.injEq,true_and] at this
   rw[show l.length=0 by omega];rfl
 · rw[x.inv.1];rfl
theorem fV.first {h:ar} {k:IntKind} {e:TypeId} {av:AV} {l:List Nat} (x:fV E h k e av l):fS h 1 l.length av=some (r7 k l):=by
 by_cases hl:l=[]
 · subst hl
   rcases x.known with rfl | ⟨p,o,n,c,b,rfl,_⟩<;>simp [fS,r7]
 rcases x.known with rfl | ⟨p,o,n,c,b,rfl,_⟩
 · have:=x.len
   rw[tY] at this
   simp only[Option.some.injEq,AV.int.injEq,true_and] at this
   exact absurd (List.length_eq_zero_iff.1 (show l.length=0 by omega)) hl
 · obtain ⟨rfl,h2⟩:=x.inv
   obtain ⟨_,C,f,ro,g,hv⟩:=h2 hl
   have hC:o+l.length≤C.length:=by
    have hp:0<l.length:=List.length_pos_iff.2 hl
    have:=hv (l.length - 1) _ (List.getElem?_eq_getElem (show l.length - 1<l.length by omega))
    have:=(List.getElem?_eq_some_iff.1 this).1
    omega
   have h0:¬l.length=0:=fun e=>hl (List.length_eq_zero_iff.1 e)
   simp only[fS,Nat.le_refl,if_true,h0,if_false,g,Nat.mul_one,hC]
   refine congrArg some (List.ext_getElem? fun i=>?_)
   by_cases hi:i<l.length
   · rw[List.getElem?_take_of_lt hi,List.getElem?_drop,hv i _ (List.getElem?_eq_getElem hi),qZ (List.getElem?_eq_getElem hi)]
   · rw[List.getElem?_eq_none (by simp;omega),List.getElem?_eq_none (by rw[lZ];omega)]
theorem GD {h:ar} {k:IntKind} {e t:TypeId} {tys:Array TypeId} {d s:AV} {l:List Nat} {p o n:Nat} {C:List AV} {f:TypeId} (h0:tys[0]? =some t) (ht:E.P.underlying t=some (.slice e)) (hs:cE E e=some 1) (w:LX h d p o n C f) (x:fV E h k e s l) (hn:l.length≤n):
 se E h tys d s=some (.int .i64 (l.length:Nat),h.put p (some (.cells (setFrom C o (r7 k l)) f false))):=by
 obtain ⟨c,b,rfl,hc⟩:=w.is
 have hf:=w.fits
 have xG:fS h 1 (min l.length n) s=some (r7 k l):=by
  rw[Nat.min_eq_left hn];exact x.first
 simp only[se,h0,ht,x.nH,hs,xG,w.get]
 rw[if_pos ⟨by rw[lZ];omega,wj k l⟩,Nat.min_eq_left hn]
theorem append_nil {h:ar} {k:IntKind} {e s xt:TypeId} {tys:Array TypeId} {bytes:Nat} {z x:AV} {m:List Nat} (h0:tys[0]? =some s) (h1:tys[1]? =some xt) (hs:E.P.underlying s=some (.slice e)) (hx:E.P.underlying xt=some (.slice e)) (LY:cE E e=some 1) (hb:jI E e=some bytes) (zp:gH E e=some z) (hz:z.cells.length=1) (h8:bytes≤15) (x1:fV E h k e x m) (hm:m≠ []) (hl:m.length≤1073741824):
 ∃h',da E h tys .aI x=some (.slice h.nx 0 m.length m.length true,h')∧h.new (.cells (r7 k m) e false)=some h':=by
 obtain ⟨h',n⟩:=sQ (h:=h) (.cells (r7 k m) e false)
 refine ⟨h',?_,n⟩
 have hn:¬m.length=0:=fun e=>hm (List.length_eq_zero_iff.1 e)
 have A1:(4*m.length+4096)*(bytes+1)≤1099511627776:=Nat.le_trans (Nat.mul_le_mul (show 4*m.length+4096≤68719476736 by omega) (show bytes+1≤16 by omega)) (by decide)
 simp only[da,h0,h1,hs,hx,lr,LY,hb,x1.nH,x1.first,zp,hz,wj,lZ,Nat.mul_one,hn,A1,n,if_true,if_false,and_self,Bool.false_eq_true]
end Go.Ab
end
section
namespace Go.Ab
variable {E:Env}
structure Pk (al:List ni) (p0 ps:List Prop):Prop where
 ok:lh p0→lh ps
section
variable {al:List ni} {p0 ps:List Prop}
theorem ZZ {p:List Prop}:Pk [] p p:=⟨id⟩
theorem CC (k:Pk al p0 ps):Pk (.c::al) p0 ps:=⟨k.ok⟩
def cs:Nat→List ni→List ni
 | 0,l=>l
 | n+1,l=> .c::cs n l
theorem CN (n:Nat) (k:Pk al p0 ps):Pk (cs n al) p0 ps:=⟨k.ok⟩
theorem HH {P:Prop} (h:P) (k:Pk al (P::p0) ps):Pk al p0 ps:=⟨fun c=>k.ok ⟨h,c⟩⟩
theorem VV {l:Option AV} {x:AV} (h:l=some x) (k:Pk al ((l=some x)::p0) ps):Pk (.v x::al) p0 ps:=⟨fun c=>k.ok ⟨h,c⟩⟩
theorem QQ {l:Option AV} {x:AV} (h:l=some x) (k:Pk al ((l=some x)::p0) ps):Pk (.q x::al) p0 ps:=⟨fun c=>k.ok ⟨h,c⟩⟩
theorem MM {l:Option AV} {x:AV} (h:l=some x) (k:Pk al ((l=some x)::p0) ps):Pk (.m x::al) p0 ps:=⟨fun c=>k.ok ⟨h,c⟩⟩
theorem TT (k:Pk al ((true=true)::p0) ps):Pk (.b true::al) p0 ps:=⟨fun c=>k.ok ⟨rfl,c⟩⟩
theorem FF (k:Pk al ((false=false)::p0) ps):Pk (.b false::al) p0 ps:=⟨fun c=>k.ok ⟨rfl,c⟩⟩
theorem BB {u v:Bool} (h:u=v) (k:Pk al ((u=v)::p0) ps):Pk (.b v::al) p0 ps:=⟨fun c=>k.ok ⟨h,c⟩⟩
theorem EE {call:bx} {f:Fn} {args:List AV} {h h':ar} {x:AV} (e:call f args h= .ret x h') (k:Pk al ((call f args h= .ret x h')::p0) ps):Pk (.e x h'::al) p0 ps:=⟨fun c=>k.ok ⟨e,c⟩⟩
theorem SS {h h':ar} {t:TypeId} {a v:AV} (s:h_ E h t a v=some h') (k:Pk al ((AV.undef=AV.undef∧h_ E h t a v=some h')::p0) ps):Pk (.e AV.undef h'::al) p0 ps:=⟨fun c=>k.ok ⟨⟨rfl,s⟩,c⟩⟩
theorem PP {l:Option (AV×ar)} {x:AV} {h':ar} (e:l=some (x,h')) (k:Pk al ((l=some (x,h'))::p0) ps):Pk (.e x h'::al) p0 ps:=⟨fun c=>k.ok ⟨e,c⟩⟩
theorem NN {h h':ar} {obj:aH} (n:h.new obj=some h') (f:Nat→AV) (k:Pk al ((∃mk:Nat→AV,some (obj,f)=some (obj,mk)∧mk h.nx=f h.nx)::(h.new obj=some h')::p0) ps):Pk (.a obj (f h.nx) h'::al) p0 ps:=⟨fun c=>k.ok ⟨⟨f,rfl,rfl⟩,n,c⟩⟩
theorem LL {call:bx} {b:Code} {s s':St} {e:j8} (ev:Ev E call b s e s') (k:Pk al ((Ev E call b s e s')::p0) ps):Pk (.l e s'::al) p0 ps:=⟨fun c=>k.ok ⟨ev,c⟩⟩
end
@[irreducible] def GN:R→List AV
  | .at _ s _ _=>s.ts
  | .bad=> []
theorem SO {call:bx} {c:Code} {ts:List AV} {h h':ar} {ds:List pf} {rc:RC} {n:Nat} {e:j8} {al:List ni} {ps:List Prop} (k:Pk al [] ps) (hr:run E call n c ⟨ts,h,ds,rc⟩ al []= .at e ⟨GN (run E call n c ⟨ts,h,ds,rc⟩ al []),h',ds,rc⟩ [] ps):Ev E call c ⟨ts,h,ds,rc⟩ e ⟨GN (run E call n c ⟨ts,h,ds,rc⟩ al []),h',ds,rc⟩:=E_ hr (k.ok trivial)
def rx (x:Nat→AV):Nat→Nat→List AV→List AV
 | _,0,l=>l
 | i,n+1,l=>x i::rx x (i+1) n l
def cz:Nat→List AV
 | 0=> []
 | n+1=>AV.undef::cz n
end Go.Ab
end
