import Derived.ChangeShapes
import Derived.ChangeStays
import Derived.ChangeBook
import Derived.ChangeOld
import Derived.ChangeAgain
import Derived.ChangeCalls
import Derived.Test.YtogcojohajankaaGreatA6
set_option linter.unusedVariables false
set_option linter.unusedSimpArgs false
section
namespace Go.Ab
variable {E:Env} {call:bm} {n:Nat} {s:St}
def opK {α β:Type} (o:Option α) (f:α→β) (d:β):β:=match o with
 | some a=>f a
 | none=>d
noncomputable def PA (E:Env) (call:bm) (n:Nat) (o:Out) (b:Code):Out:=match o with
 | .ok .normal s=>exec E call n b s
 | r=>r
theorem C6 (s:St) (b:Code):PA E call n (.ok .normal s) b=exec E call n b s:=rfl
def WU (id:Nat) (o:Out):Out:=match o with
 | .ok (.exit U1) s'=>if U1=id then .ok .normal s' else .ok (.exit U1) s'
 | r=>r
theorem C7 (i j:Nat) (s:St):WU i (.ok (.exit j) s)=if j=i then .ok .normal s else .ok (.exit j) s:=rfl
noncomputable def WV (E:Env) (call:bm) (n:Nat) (o:Option AV) (a b:Code) (s:St):Out:=match o with
 | some (.bool true)=>exec E call n a s
 | some (.bool false)=>exec E call n b s
 | _=> .fail "cond" none
theorem PJ (a b:Code):WV E call n (some (.bool true)) a b s=exec E call n a s:=rfl
theorem Ng (a b:Code):WV E call n (some (.bool false)) a b s=exec E call n b s:=rfl
theorem adf (a b:Code):exec E call (n+1) (.seq a b) s=PA E call n (exec E call n a s) b:=rfl
theorem WW (x:Operand) (a b:Code):exec E call (n+1) (.cond x a b) s=WV E call n (fJ E s.ts x) a b s:=rfl
theorem Ku (id:Nat) (b:Code):exec E call (n+1) (.block id b) s=WU id (exec E call n b s):=rfl
theorem WX (b:Code):exec E call (n+1) (.loop b) s=PA E call n (exec E call n b s) (.loop b):=rfl
theorem WY (i:Nat) (ops:Array Oper):exec E call (n+1) (.region i ops false) s=lN E call ops ops.toList s:=rfl
theorem aa1 (i:Nat) (ops:Array Oper):exec E call (n+1) (.region i ops true) s=zL E call ops s:=rfl
noncomputable def aho (E:Env) (call:bm) (ops:Array Oper) (o:Oper) (rest:List Oper) (s:St):Out:=match dL E call s.ts s.h s.rc o with
 | .val v h'=>lN E call ops rest {s with ts:=dA s.ts o.dst v,h:=h'}
 | .defer d=>lN E call ops rest {s with ts:=dA s.ts o.dst AV.undef,ds:=d::s.ds}
 | .uw v=>lN E call ops rest {s with ts:=dA s.ts o.dst v,rc:= .done}
 | .panic v h'=> .ok (.panic v) {s with h:=h'}
 | .fail why q=> .fail why q
noncomputable def ahp (E:Env) (call:bm) (ops:Array Oper) (o:Oper) (rest:List Oper) (s:St):Out:=
 opK (fp E s.ts o.op) (fun p=>opK (s.h.new p.1) (fun h'=>lN E call ops rest {s with ts:=dA s.ts o.dst (p.2 s.h.nx),h:=h'}) (.fail "full" (some o))) (aho E call ops o rest s)
noncomputable def ahq (E:Env) (call:bm) (ops:Array Oper) (o:Oper) (rest:List Oper) (s:St):Out:=
 opK (fb E s.ts s.h o.op) (fun v=>lN E call ops rest {s with ts:=dA s.ts o.dst v}) (ahp E call ops o rest s)
noncomputable def ahr (E:Env) (call:bm) (ops:Array Oper) (v:Option AV) (o:Oper) (rest:List Oper) (s:St):Out:=opK v (fun v=>lN E call ops rest {s with ts:=dA s.ts o.dst v}) (ahq E call ops o rest s)
section
variable {ops:Array Oper} {rest:List Oper} {d:Option Tmp} {op:Op} {ty:TypeId} {pos:String} {aft:Array Edge} {g:Option (Nat×Bool)}
noncomputable def PB (E:Env) (call:bm) (ops:Array Oper) (w:Bool) (o:Oper) (rest:List Oper) (s:St):Out:=
 if w=true then ahr E call ops (bx E s.ts o.op) o rest s else lN E call ops rest {s with ts:=dA s.ts o.dst AV.undef}
end
theorem kS (m:Nat) (a:List UInt8):AV.same (m+1) (.str a) (.str a)=true:=by simp [AV.same]
theorem aK (m:Nat) (k:IntKind) (a:Int):AV.same (m+1) (.int k a) (.int k a)=true:=by simp [AV.same]
theorem iK (m:Nat) (a:Bool):AV.same (m+1) (.bool a) (.bool a)=true:=by simp [AV.same]
theorem jg (m i o l c:Nat) (b:Bool):AV.same (m+1) (.slice i o l c b) (.slice i o l c b)=true:=by simp [AV.same]
open Classical in
section
variable {ops:Array Oper} {rest:List Nat} {d:Option Tmp} {op:Op} {ty:TypeId} {pos:String} {aft:Array Edge} {g:Option (Nat×Bool)}
noncomputable def RI (E:Env) (call:bm) (ops:Array Oper) (r:Option St) (s:St):Out:=opK r (fun s'=> .ok .normal s') (zL E call ops s)
end
theorem wrap_i64 {n:Int} (h0: -9223372036854775808≤n) (h1:n<9223372036854775808):IntKind.i64.wrap n=n:=by
 show (if (true&&decide (n%2^64≥2^63))=true then n%2^64 - 2^64 else n%2^64)=n
 by_cases hn:n%2^64≥2^63
 · rw[if_pos (by rw[Bool.true_and];exact decide_eq_true hn)];omega
 · rw[if_neg (by rw[Bool.true_and];exact fun e=>hn (of_decide_eq_true e))];omega
noncomputable def MW (E:Env) (fn:Func) (h:aw) (ts:List AV):ko:=match lZ E h ts fn.results.toList with
 | some vs=> .ret (je vs) h
 | none=> .fail "results" none
theorem TP {fuel:Nat} {f:FuncId} {fn:Func} {c:Code} (hf:E.P.funcs[f]? =some fn) (hb:fn.body=some c) {args:List AV} {h h':aw} {ts:List AV} {x:lY} (hx:x= .normal∨x= .ret)
 (e:exec E call fuel c ⟨args++List.replicate (fn.ntmps - args.length) AV.undef,h,[],.no⟩= .ok x ⟨ts,h',[],.no⟩) {vs:List AV} (hr:lZ E h' ts fn.results.toList=some vs):C5 E call fuel f args h= .ret (je vs) h':=by
 unfold C5
 simp only[hf,hb,pj,e]
 rcases hx with rfl | rfl<;>simp only[xe,dv,hr]
def Fs (M:Fa.Nd):bm:=fun F args h=>match F with
 | .fn f=>match M f args h with
   | some p=> .ret p.1 p.2
   | none=> .fail "" none
 | .CJ _=> .fail "" none
theorem TQ {M:Fa.Nd} (hM:Fa.Kt E M):ju E (Fs M):=by
 refine ⟨fun F args h v h' e=>?_,fun F args h v h' e=>?_⟩
 · cases F with
   | CJ l=>cases e
   | fn f=>
     simp only[Fs] at e
     cases hm:M f args h with
     | none=>rw[hm] at e;cases e
     | some p=>
       rw[hm] at e
       simp only[ko.ret.injEq] at e
       obtain ⟨rfl,rfl⟩:=e
       exact (hM _ _ _ _ _ hm).any
 · cases F with
   | CJ l=>cases e
   | fn f=>
     simp only[Fs] at e
     cases hm:M f args h with
     | none=>rw[hm] at e;cases e
     | some p=>rw[hm] at e;cases e
def aj4 (E:Env) (x:Option (TypeId×Nat)) (v:Option AV):Option AV:=match x,v with
 | some (t,o),some (.ptr i off)=>match b7 E t with
   | some n=>if n=0 then none else some (.ptr i (off+o))
   | none=>none
 | _,_=>none
def hD (E:Env) (op:BinOp) (t:TypeId) (xc yc:Bool) (a b:Option AV):Option AV:=match a,b with
 | some a,some b=>nC E op t xc yc a b
 | _,_=>none
theorem aa2 {ts:List AV} (op:BinOp) (t t':TypeId) (x y:Operand):bx E ts (.binOp op t x y t')=hD E op t (isConst x) (isConst y) (fJ E ts x) (fJ E ts y):=by
 simp only[bx,hD]
 cases fJ E ts x<;>cases fJ E ts y<;>rfl
theorem aa3 (t:TypeId) (c d:Bool) (k:IntKind) (a b:Int):hD E .add t c d (some (.int k a)) (some (.int k b))=some (.int k (k.wrap (a+b))):=by simp [hD,nC,dU]
theorem aa4 (t:TypeId) (c d:Bool) (k:IntKind) (a b:Int):hD E .sub t c d (some (.int k a)) (some (.int k b))=some (.int k (k.wrap (a - b))):=by simp [hD,nC,dU]
theorem aa5 (t:TypeId) (c d:Bool) (k:IntKind) (a b:Int):hD E .mul t c d (some (.int k a)) (some (.int k b))=some (.int k (k.wrap (a*b))):=by simp [hD,nC,dU]
theorem aa6 (t:TypeId) (c d:Bool) (k:IntKind) (a b:Int):hD E .eql t c d (some (.int k a)) (some (.int k b))=some (.bool (decide (a=b))):=by simp [hD,nC,dU];rfl
theorem aa7 (t:TypeId) (c d:Bool) (k:IntKind) (a b:Int):hD E .neq t c d (some (.int k a)) (some (.int k b))=some (.bool (!decide (a=b))):=by simp [hD,nC,dU];rfl
theorem aa8 (t:TypeId) (c d:Bool) (k:IntKind) (a b:Int):hD E .lss t c d (some (.int k a)) (some (.int k b))=some (.bool (decide (a<b))):=by simp [hD,nC,dU]
theorem aa9 (t:TypeId) (c d:Bool) (k:IntKind) (a b:Int):hD E .leq t c d (some (.int k a)) (some (.int k b))=some (.bool (decide (a≤b))):=by simp [hD,nC,dU]
theorem aba (t:TypeId) (c d:Bool) (k:IntKind) (a b:Int):hD E .gtr t c d (some (.int k a)) (some (.int k b))=some (.bool (decide (b<a))):=by simp [hD,nC,dU]
theorem abb (t:TypeId) (c d:Bool) (k:IntKind) (a b:Int):hD E .geq t c d (some (.int k a)) (some (.int k b))=some (.bool (decide (b≤a))):=by simp [hD,nC,dU]
theorem WZ (t:TypeId) (c d:Bool) (a b:List UInt8):hD E .eql t c d (some (.str a)) (some (.str b))=some (.bool (decide (a=b))):=by
 simp only[hD,nC,yq,Option.some.injEq,AV.bool.injEq]
 exact Bool.eq_iff_iff.2 (by simp)
def unK (op:UnOp) (a:Option AV):Option AV:=match a with
 | some a=>unA op a
 | none=>none
def bR (E:Env) (d:Option TypeDesc) (v i:Option AV):Option AV:=match d,v,i with
 | some (.slice elem),some (.slice i o len _ _),some (.int _ n)=>match b7 E elem with
  | some size=>if 0≤n∧n<len then some (.ptr i (o+n.toNat*size)) else none
  | none=>none
 | some (.array len elem),some (.ptr i o),some (.int _ n)=>match b7 E elem with
  | some size=>if 0≤n∧n<len then some (.ptr i (o+n.toNat*size)) else none
  | none=>none
 | _,_,_=>none
theorem Nh {ts:List AV} (t:TypeId) (x i:Operand):bx E ts (.indexAddr t x i)=bR E (E.P.underlying t) (fJ E ts x) (fJ E ts i):=by
 simp only[bx,bR]
 split<;>simp_all<;>(split<;>simp_all)
theorem nP {e:TypeId} {i o len c z:Nat} {b:Bool} {size:Nat} (hs:b7 E e=some size) (hz:z<len):bR E (some (.slice e)) (some (.slice i o len c b)) (some (.int .i64 (z:Int)))=some (.ptr i (o+z*size)):=by
 simp only[bR,hs]
 rw[if_pos ⟨by omega,by omega⟩,Int.toNat_natCast]
def cc (d:Option TypeDesc) (v:Option AV):Option AV:=match d,v with
 | some (.slice _),some .aD=>some (.int .i64 0)
 | some (.slice _),some (.slice _ _ n _ _)=>some (.int .i64 n)
 | some (.slice _),some .fm=>some (.int .i64 0)
 | some .string,some (.str s)=>some (.int .i64 s.length)
 | some (.array n _),some _=>some (.int .i64 n)
 | some (.map _ _),some .eY=>some (.int .i64 0)
 | _,_=>none
theorem ahs {ts:List AV} (x:Operand) (t:TypeId):bx E ts (.call ⟨.builtin .len, #[x], #[t]⟩)=cc (E.P.underlying t) (fJ E ts x):=by
 simp only[bx,hT,fE,List.getElem?_toArray,List.getElem?_cons_zero]
 generalize fJ E ts x=o
 cases o with
 | none=>
   generalize E.P.underlying t=u
   cases u with
   | none=>rfl
   | some d=>cases d<;>rfl
 | some v=>
   simp only
   generalize E.P.underlying t=u
   cases u with
   | none=>rfl
   | some d=>cases d<;>cases v<;>rfl
theorem jv {ts:List AV} {h:aw} (t:TypeId) (x:Operand):fb E ts h (.load t x)=opK (fJ E ts x) (aY E h t) none:=by
 simp only[fb];cases fJ E ts x<;>rfl
theorem jh (e:TypeId) (i o n c:Nat) (b:Bool):cc (some (.slice e)) (some (.slice i o n c b))=some (.int .i64 n):=rfl
theorem Aj (e:TypeId):cc (some (.slice e)) (some .aD)=some (.int .i64 0):=rfl
theorem aer (e:TypeId):cc (some (.slice e)) (some .fm)=some (.int .i64 0):=rfl
def Tidy (h:aw):Prop:=∀i o,h.get i=some o→i<h.nx
def yL (E:Env) (d:Option TypeDesc) (v i:Option AV):Option AV:=match d,v,i with
 | some (.array len elem),some (.agg cs),some (.int _ n)=>match b7 E elem with
  | some size=>if 0≤n∧n<len then jq E elem cs (n.toNat*size) else none
  | none=>none
 | some .string,some (.str s),some (.int _ n)=>if 0≤n then (match s[n.toNat]? with | some b=>some (.int .u8 b.toNat) | none=>none) else none
 | _,_,_=>none
theorem abc {ts:List AV} (t:TypeId) (x i:Operand):bx E ts (.index t x i)=yL E (E.P.underlying t) (fJ E ts x) (fJ E ts i):=by
 simp only[bx,yL]
 split
 · simp_all
   split<;>simp_all
 · rename_i s k n _ _ _
   simp_all
   cases s[n.toNat]? <;>rfl
 · simp_all
theorem W0 {s:List UInt8} {z:Nat} {b:UInt8} (h:s[z]? =some b):yL E (some .string) (some (.str s)) (some (.int .i64 (z:Int)))=some (.int .u8 b.toNat):=by
 simp only[yL]
 rw[if_pos (by omega),Int.toNat_natCast,h]
end Go.Ab
end
section
namespace Go.Ab
open Go.ChangeShapes Go.WideShapes Go.RowKit
variable {E:Env}
def Ak (h:aw):Prop:=∀i o,h.get i=some o→o.rw=false
theorem OK.show {φ:Ph} {h:aw} {w:World} (ok:OK E φ h w) (VI:Ak h) {b off:Nat} {cs:List AV} {e:TypeId} (fH:cs≠ []) (hz:∀m,cs≠ [.map m])
 (hC:∀(k:Nat) (x:AV),cs[k]? =some x→∃y,w.cell? ⟨b,off+k,none⟩=some y∧VR φ x y):
 ∃h',h.new (.cells cs e true)=some h'∧OK E (φ.add h.nx ⟨b,off,0⟩) h' w∧φ.le (φ.add h.nx ⟨b,off,0⟩)∧Ak h'∧h'.nx=h.nx+1∧h'.get h.nx=some (.cells cs e true)∧(∀j,j≠h.nx→h'.get j=h.get j)∧(φ.add h.nx ⟨b,off,0⟩) h.nx=some ⟨b,off,0⟩:=by
 obtain ⟨h',hn⟩:∃h',h.new (.cells cs e true)=some h':=by
  exact ⟨_,aw.JL _ _⟩
 obtain ⟨nN,aes,Ez,hold⟩:=aw.mT hn
 have Ho:φ h.nx=none:=by
  cases e:φ h.nx with
  | none=>rfl
  | some m=>exact absurd (ok.Dz _ _ e) (Nat.lt_irrefl _)
 have hle:φ.le (φ.add h.nx ⟨b,off,0⟩):=fun i m hm=>by
  unfold Ph.add;split
  · rename_i e;subst e;rw[Ho] at hm;simp at hm
  · exact hm
 have lR:∀j,j≠h.nx→(φ.add h.nx ⟨b,off,0⟩) j=φ j:=fun j hj=>by simp [Ph.add,hj]
 have iP:(φ.add h.nx ⟨b,off,0⟩) h.nx=some ⟨b,off,0⟩:=by simp [Ph.add]
 have ie:∀j p,h'.get j=some p→(j=h.nx∧p= .cells cs e true)∨(j≠h.nx∧h.get j=some p):=fun j p hj=>by
  by_cases e:j=h.nx
  · subst e;rw[Ez] at hj;simp at hj;exact .inl ⟨rfl,hj.symm⟩
  · rw[hold j e] at hj;exact .inr ⟨e,hj⟩
 have hlen:0<cs.length:=List.length_pos_iff.2 fH
 obtain ⟨y0,hy0,_⟩:=hC 0 cs[0] (by simp [hlen])
 obtain ⟨C,e',lo,hi,hw⟩:∃C e' lo hi,w.heap[b]? =some (.cells C e' (lo,hi)):=by
  unfold World.cell? at hy0
  split at hy0
  · rename_i C e' fz hw;obtain ⟨lo,hi⟩:=fz;exact ⟨C,e',lo,hi,hw⟩
  · cases hy0
 have IQ:∀k,w.cell? ⟨b,off+k,none⟩=C[off+k]? :=fun k=>by simp [World.cell?,hw]
 refine ⟨h',hn,⟨fun i m hm=>?_,by rw[aes];exact Nat.le_succ_of_le ok.nx,fun g hg=>hle _ _ (ok.yu g hg),fun j p m hj hm=>?_,fun j k p q m n hj hk hm uR hw hb=>?_⟩,hle,fun j p hj=>?_,aes,Ez,hold,iP⟩
 · rw[aes]
   by_cases e:i=h.nx
   · omega
   · rw[lR i e] at hm;have:=ok.Dz i m hm;omega
 · rcases ie j p hj with ⟨rfl,rfl⟩ | ⟨JM,rO⟩
   · rw[iP] at hm;simp at hm;subst hm
     refine ⟨C,e',lo,hi,hw,?_,fun k x hk=>?_,(fun h=>by cases h),fun _ m hm=>absurd hm (hz m)⟩
     · obtain ⟨y,hy,_⟩:=hC (cs.length - 1) cs[cs.length - 1] (List.getElem?_eq_getElem (by omega))
       rw[IQ] at hy
       have:=(Array.getElem?_eq_some_iff.1 hy).1
       simp only[gT,Nat.zero_mul]
       omega
     · obtain ⟨y,hy,hv⟩:=hC k x hk
       rw[IQ] at hy
       exact ⟨y,hy,hv.mono hle⟩
   · rw[lR j JM] at hm
     exact (ok.live j p m rO hm).mono hle
 · rcases ie j p hj with ⟨rfl,rfl⟩ | ⟨aj5,rO⟩<;>rcases ie k q hk with ⟨rfl,rfl⟩ | ⟨aj6,Ht⟩
   · rfl
   · rw[VI k q Ht] at hw;rcases hw with h | h<;>cases h
   · rw[VI j p rO] at hw;rcases hw with h | h<;>cases h
   · rw[lR j aj5] at hm;rw[lR k aj6] at uR;exact ok.inj _ _ _ _ _ _ rO Ht hm uR hw hb
 · rcases ie j p hj with ⟨_,rfl⟩ | ⟨_,rO⟩
   · rfl
   · exact VI j p rO
theorem Ak.begin {G:Nat} {l:List Tab}:Ak (m3 G l):=fun i o h=>by
 obtain ⟨x,_,_,rfl⟩:=tv h;rfl
theorem Kv {f:FuncId} {avs:List AV} {h h':aw} (r:mV E f avs h (.bool true) h') {φ:Ph} {w:World} {vs:List Value} (ok:OK E φ h w) (hl:LR φ avs vs) (VI:Ak h):
 Calls E.P f vs.toArray w fun en w'=>en= .returned (.bool true)∧w.keptBut w' (fun _=>False):=fun cs=>by
 obtain ⟨_,kB⟩:=r φ w vs ok hl
 obtain ⟨φ',w',v',fr,hv,_,uS,h1,h2,h3⟩:=kB cs
 cases hv
 refine ⟨.returned (.bool true),w',fr,⟨rfl,uS.os,uS.output,fun i hi=>?_⟩,h1,h2,h3⟩
 rw[uS.Hs i hi (fun j o l' q1 q2 _=>by rw[VI j o q1] at q2;cases q2)]
 cases w.heap[i]? with
 | none=>rfl
 | some o=>cases o with
   | cells c t fz=>exact ⟨rfl,rfl,rfl,fun _ _=>rfl⟩
   | map es c=>exact .inr ⟨rfl,rfl⟩
   | _=>rfl
section
variable {H:Type} {enc:TypeId×Value→H} {w:World} {base:Nat} {spare:Nat→Bool} {held:Bool} {fuel:Nat} {t:TypeId} {x:DataW H×List MemPlace}
end
section
variable {H:Type} {enc:TypeId×Value→H} {P:Program} {w w':World}
theorem Ft (hk:w.keptBut w' (fun _=>False)) {p:MemPlace} (hp:p.block<w.heap.size):w.sameAt w' p:=by
 have h:=hk.block hp (fun _ h=>h.elim)
 cases p with
 | cell b off=>simp only[World.sameAt,World.cell?];rw[show w'.heap[b]? =w.heap[b]? from h]
 | map b=>exact h
theorem IS (hl:laidOutB P=true) (hk:w.keptBut w' (fun _=>False)):∀{ts:List TypeId} {vs:List Value} {ds:List (DataW H)} {ps:List MemPlace},(∀t∈ts,P.readableRec t=true∧t<P.types.size)→
 DataW.TrodAll enc P w 0 (fun _=>true) true ts vs ds ps→DataW.TrodAll enc P w' 0 (fun b=>decide (b<w.heap.size)) true ts vs ds ps
 | [],vs,ds,ps,_,h=>by
   obtain ⟨rfl,rfl,rfl⟩:=trodAll_nil h
   exact trodAll_mk0
 | t::ts,vs,ds,ps,hr,h=>by
   have nN:=DataW.TrodAll.lt h
   obtain ⟨v,s9,d,BQ,p,p',rfl,rfl,rfl,⟨n,h1⟩,h2⟩:=trodAll_cons h
   obtain ⟨h3,h4⟩:=hr t (by simp)
   refine trodAll_cons_mk ⟨n,?_⟩ (IS hl hk (fun t ht=>hr t (by simp [ht])) h2)
   exact DataW.trod_stays (kids_book hl h3) (book_sized h3) (fun h=>by cases h) ⟨h4,book_self t⟩ h1 (fun q hq=>Ft hk (nN q (by simp [hq]))) (fun q hq=>by simpa using nN q (by simp [hq]))
end
end Go.Ab
end
section
namespace Go.Ab
variable {E:Env}
end Go.Ab
end
section
namespace Go.Ab
variable {E:Env} {call:bm}
def Ev (E:Env) (call:bm) (c:Code) (s:St) (e:lY) (s':St):Prop:=∃n0,∀n,n0≤n→exec E call n c s= .ok e s'
theorem Ev.of {c:Code} {s:St} {e:lY} {s':St} (h:∀n,exec E call (n+1) c s= .ok e s'):Ev E call c s e s':=⟨1,fun n hn=>by
 obtain ⟨k,rfl⟩:∃k,n=k+1:=⟨n - 1,by omega⟩
 exact h k⟩
theorem Ev.seq {a b:Code} {s s1 s':St} {e:lY} (h1:Ev E call a s .normal s1) (h2:Ev E call b s1 e s'):Ev E call (.seq a b) s e s':=by
 obtain ⟨n1,h1⟩:=h1
 obtain ⟨n2,h2⟩:=h2
 refine ⟨n1+n2+1,fun n hn=>?_⟩
 obtain ⟨k,rfl⟩:∃k,n=k+1:=⟨n - 1,by omega⟩
 rw[adf,h1 k (by omega),C6]
 exact h2 k (by omega)
theorem Ev.seq' {a b:Code} {s s':St} {e:lY} (he:e≠ .normal) (h1:Ev E call a s e s'):Ev E call (.seq a b) s e s':=by
 obtain ⟨n1,h1⟩:=h1
 refine ⟨n1+1,fun n hn=>?_⟩
 obtain ⟨k,rfl⟩:∃k,n=k+1:=⟨n - 1,by omega⟩
 rw[adf,h1 k (by omega)]
 cases e with
 | normal=>exact absurd rfl he
 | _=>rfl
theorem Ev.loop {b:Code} {s s1 s':St} {e:lY} (h1:Ev E call b s .normal s1) (h2:Ev E call (.loop b) s1 e s'):Ev E call (.loop b) s e s':=by
 obtain ⟨n1,h1⟩:=h1
 obtain ⟨n2,h2⟩:=h2
 refine ⟨n1+n2+1,fun n hn=>?_⟩
 obtain ⟨k,rfl⟩:∃k,n=k+1:=⟨n - 1,by omega⟩
 rw[WX,h1 k (by omega),C6]
 exact h2 k (by omega)
theorem Ev.exit {b:Code} {s s':St} {e:lY} (he:e≠ .normal) (h1:Ev E call b s e s'):Ev E call (.loop b) s e s':=by
 obtain ⟨n1,h1⟩:=h1
 refine ⟨n1+1,fun n hn=>?_⟩
 obtain ⟨k,rfl⟩:∃k,n=k+1:=⟨n - 1,by omega⟩
 rw[WX,h1 k (by omega)]
 cases e with
 | normal=>exact absurd rfl he
 | _=>rfl
theorem Ev.ret {b:Code} {s s':St} (h1:Ev E call b s .ret s'):Ev E call (.loop b) s .ret s':=Ev.exit (by simp) h1
theorem Ev.out {b:Code} {s s':St} {i:Nat} (h1:Ev E call b s (.exit i) s'):Ev E call (.loop b) s (.exit i) s':=Ev.exit (by simp) h1
inductive pC where
 | c
 | v (x:AV)
 | q (x:AV)
 | m (x:AV)
 | n (h:aw)
 | a (obj:aH) (x:AV) (h:aw)
 | e (x:AV) (h:aw)
 | p (x:AV) (h:aw)
 | b (x:Bool)
 | l (e:lY) (s:St)
def nD:List Prop→Prop
 | []=>True
 | p::ps=>p∧nD ps
inductive R where
 | bad
 | at (e:lY) (s:St) (as:List pC) (ps:List Prop)
def R.go (k:St→List pC→List Prop→R):R→R
 | .at .normal s as ps=>k s as ps
 | r=>r
theorem R.aht {k:St→List pC→List Prop→R} {r:R} {e:lY} {s:St} {as:List pC} {ps:List Prop} (h:r.go k= .at e s as ps):(∃s1 xf uz,r= .at .normal s1 xf uz∧k s1 xf uz= .at e s as ps)∨(r= .at e s as ps∧e≠ .normal):=by
 unfold R.go at h
 split at h
 · exact .inl ⟨_,_,_,rfl,h⟩
 · rename_i fH
   refine .inr ⟨h,fun he=>?_⟩
   subst he;exact fH _ _ _ h
def ahu (E:Env) (ts:List AV):List Operand→List TypeId→Option AV
 | [x],[t]=>cc (E.P.underlying t) (fJ E ts x)
 | _,_=>none
def C8 (c a b:Option AV):Option AV:=match c with
 | some (.bool true)=>a
 | some (.bool false)=>b
 | _=>none
theorem abd {ts:List AV} (c a b:Operand):bx E ts (.pick c a b)=C8 (fJ E ts c) (fJ E ts a) (fJ E ts b):=by
 simp only[bx]
 generalize fJ E ts c=x
 cases x with
 | none=>rfl
 | some v=>cases v with
   | bool b=>cases b<;>rfl
   | _=>rfl
theorem W1 {c:Bool} {a b:Option AV} (h:c=true):C8 (some (.bool c)) a b=a:=by rw[h];rfl
theorem b8 {c:Bool} {a b:Option AV} (h:c=false):C8 (some (.bool c)) a b=b:=by rw[h];rfl
def abe (E:Env) (ts:List AV) (op:Op):Option AV:=match op with
 | .indexAddr t x i=>bR E (E.P.underlying t) (fJ E ts x) (fJ E ts i)
 | .index t x i=>yL E (E.P.underlying t) (fJ E ts x) (fJ E ts i)
 | .binOp op t x y _=>hD E op t (isConst x) (isConst y) (fJ E ts x) (fJ E ts y)
 | .pick c a b=>C8 (fJ E ts c) (fJ E ts a) (fJ E ts b)
 | .call c=>match c.callee with
   | .builtin .len=>ahu E ts c.args.toList c.argTypes.toList
   | _=>none
 | _=>none
theorem Fu {α:Type} {a:Array α} {l:List α} (h:a.toList=l):a=l.toArray:=by rw[←h]
theorem RY {ts:List AV} {op:Op} {v:AV} (e:abe E ts op=some v):bx E ts op=some v:=by
 unfold abe at e
 split at e
 · rw[←Nh] at e;exact e
 · rw[←abc] at e;exact e
 · rename_i o t x y t';exact (aa2 o t t' x y).trans e
 · rename_i c a b;exact (abd c a b).trans e
 · rename_i c
   obtain ⟨cl,args,tys⟩:=c
   simp only at e
   split at e
   · unfold ahu at e
     split at e
     · rename_i x t hx ht
       rw[Fu hx,Fu ht]
       exact (ahs x t).trans e
     · cases e
   · cases e
 · cases e
noncomputable def W2 (E:Env) (ts:List AV) (h:aw) (op:Op):Option AV:=match op with
 | .load t x=>opK (fJ E ts x) (aY E h t) none
 | op=>fb E ts h op
theorem Kw {ts:List AV} {h:aw} {op:Op} {v:AV} (e:W2 E ts h op=some v):fb E ts h op=some v:=by
 unfold W2 at e
 split at e
 · rw[jv];exact e
 · exact e
def vI (E:Env) (d:Option TypeDesc) (l c:Option AV):Option (aH×(Nat→AV)):=match d,l,c with
 | some (.slice elem),some (.int _ len),some (.int _ cap)=>match b7 E elem,jT E elem,g5 E elem with
   | some n,some bytes,some z=>
     if 0≤len∧len≤cap∧cap<2^30∧(bytes:Int)*cap≤2^47∧z.cells.length=n then
      some (.cells (bP z.cells cap.toNat) elem false,fun i=> .slice i 0 len.toNat cap.toNat false)
     else none
   | _,_,_=>none
 | _,_,_=>none
def abf (E:Env) (ts:List AV) (op:Op):Option (aH×(Nat→AV)):=match op with
 | .makeSlice t l c=>vI E (E.P.underlying t) (fJ E ts l) (fJ E ts c)
 | op=>fp E ts op
theorem RZ (ts:List AV) (op:Op):abf E ts op=fp E ts op:=by
 unfold abf
 split
 · rename_i t l c
   simp only[fp]
   generalize E.P.underlying t=d
   generalize fJ E ts l=x
   generalize fJ E ts c=y
   rfl
 · rfl
noncomputable def abg (E:Env) (call:bm) (ts:List AV) (h:aw) (rc:RC) (o:Oper) (x:AV) (h':aw):Prop:=match o.op with
 | .store t a v=>match fJ E ts a,fJ E ts v with
   | some a,some v=>x=AV.undef∧dW E h t a v=some h'
   | _,_=>False
 | .call c=>match c.callee with
   | .builtin .append=>match hT E ts c.args.toList with
     | some [s,y]=>di E h c.argTypes s y=some (x,h')
     | _=>False
   | .builtin .copy=>match hT E ts c.args.toList with
     | some [s,y]=>uv E h c.argTypes s y=some (x,h')
     | _=>False
   | .value _=>match callee E ts c with
     | some (f,args)=>match lp E f with
       | some g=>g args h=some (x,h')
       | none=>call f args h= .ret x h'
     | none=>False
   | _=>dL E call ts h rc o= .val x h'
 | .convert src dst y=>Ir E h src dst (fJ E ts y)=some (x,h')
 | _=>dL E call ts h rc o= .val x h'
theorem R0 {ts:List AV} {h:aw} {rc:RC} {o:Oper} {x:AV} {h':aw} (e:abg E call ts h rc o x h'):dL E call ts h rc o= .val x h':=by
 unfold abg at e
 split at e
 · rename_i t a v ho
   split at e
   · rename_i a' v' h1 h2
     obtain ⟨rfl,e⟩:=e
     unfold dL
     simp only[ho,h1,h2,e]
   · exact e.elim
 · rename_i c ho
   split at e
   · rename_i hc
     split at e
     · rename_i h1
       unfold dL
       simp only[ho,hc,h1,e]
     · exact e.elim
   · rename_i hc
     split at e
     · rename_i h1
       unfold dL
       simp only[ho,hc,h1,e]
     · exact e.elim
   · rename_i hc
     split at e
     · rename_i h1
       split at e
       · rename_i h2
         unfold dL
         simp only[ho,hc,h1,h2,e]
       · rename_i h2
         unfold dL
         simp only[ho,hc,h1,h2,e]
     · exact e.elim
   · exact e
 · rename_i src dst y ho
   unfold dL
   simp only[ho,e]
 · exact e
def TS {β:Type} (k:List AV→β):List AV→Nat→AV→β
 | [],_,_=>k []
 | _::xs,0,v=>k (v::xs)
 | x::xs,d+1,v=>TS (fun ys=>k (x::ys)) xs d v
theorem Kx {β:Type}:∀(k:List AV→β) (ts:List AV) (d:Nat) (v:AV),TS k ts d v=k (ts.set d v)
 | k,[],_,_=>by simp [TS]
 | k,_::xs,0,v=>rfl
 | k,x::xs,d+1,v=>by rw[TS,Kx];rfl
def vJ (s:St) (d:Option Tmp) (v:AV) (h:aw) (as:List pC) (ps:List Prop):R:=match d with
 | some i=>TS (fun ts=> .at .normal ⟨ts,h,s.ds,s.rc⟩ as ps) s.ts i v
 | none=> .at .normal ⟨s.ts,h,s.ds,s.rc⟩ as ps
theorem oD (s:St) (d:Option Tmp) (v:AV) (h:aw) (as:List pC) (ps:List Prop):Go.Ab.vJ s d v h as ps= .at .normal {s with ts:=dA s.ts d v,h:=h} as ps:=by
 cases d with
 | none=>rfl
 | some i=>exact Kx _ _ _ _
noncomputable def Ni (E:Env) (call:bm) (o:Oper) (s:St) (as:List pC) (ps:List Prop):R:=match as with
 | .c::as=>match bx E s.ts o.op with
   | some v=>vJ s o.dst v s.h as ps
   | none=> .bad
 | .v x::as=>vJ s o.dst x s.h as ((abe E s.ts o.op=some x)::ps)
 | .q x::as=>vJ s o.dst x s.h as ((bx E s.ts o.op=some x)::ps)
 | .m x::as=>match bx E s.ts o.op with
   | none=>vJ s o.dst x s.h as ((W2 E s.ts s.h o.op=some x)::ps)
   | some _=> .bad
 | .n h'::as=>match bx E s.ts o.op,fb E s.ts s.h o.op,fp E s.ts o.op with
   | none,none,some (obj,mk)=>vJ s o.dst (mk s.h.nx) h' as ((s.h.new obj=some h')::ps)
   | _,_,_=> .bad
 | .a obj x h'::as=>match bx E s.ts o.op,fb E s.ts s.h o.op with
   | none,none=>vJ s o.dst x h' as ((∃mk,abf E s.ts o.op=some (obj,mk)∧mk s.h.nx=x)::(s.h.new obj=some h')::ps)
   | _,_=> .bad
 | .e x h'::as=>match bx E s.ts o.op,fb E s.ts s.h o.op,fp E s.ts o.op with
   | none,none,none=>vJ s o.dst x h' as (abg E call s.ts s.h s.rc o x h'::ps)
   | _,_,_=> .bad
 | .p x h'::as=>match bx E s.ts o.op,fb E s.ts s.h o.op,fp E s.ts o.op with
   | none,none,none=> .at (.panic x) {s with h:=h'} as ((dL E call s.ts s.h s.rc o= .panic x h')::ps)
   | _,_,_=> .bad
 | _=> .bad
theorem C9 {o:Oper} {s:St} {as:List pC} {ps:List Prop} {e:lY} {s':St} {zF:List pC} {uQ:List Prop} (hr:Ni E call o s as ps= .at e s' zF uQ) (hp:nD uQ):nD ps∧JJ E call s o= .ok e s':=by
 have seen:∀{x:AV},(bx E s.ts o.op=some x∨(bx E s.ts o.op=none∧fb E s.ts s.h o.op=some x))→JJ E call s o= .ok .normal {s with ts:=dA s.ts o.dst x}:=by
  rintro x (h | ⟨h1,h2⟩)<;>unfold JJ
  · rw[h]
  · rw[h1,h2]
 unfold Ni at hr
 split at hr
 · split at hr
   · rename_i v hv
     rw[oD] at hr;cases hr
     exact ⟨hp,seen (.inl hv)⟩
   · cases hr
 · rw[oD] at hr;cases hr
   exact ⟨hp.2,seen (.inl (RY hp.1))⟩
 · rw[oD] at hr;cases hr
   exact ⟨hp.2,seen (.inl hp.1)⟩
 · split at hr
   · rename_i h1
     rw[oD] at hr;cases hr
     exact ⟨hp.2,seen (.inr ⟨h1,Kw hp.1⟩)⟩
   · cases hr
 · split at hr
   · rename_i h1 h2 h3
     rw[oD] at hr;cases hr
     refine ⟨hp.2,?_⟩
     unfold JJ
     simp only[h1,h2,h3,hp.1]
   · cases hr
 · split at hr
   · rename_i h1 h2
     rw[oD] at hr;cases hr
     obtain ⟨⟨mk,h3,h4⟩,h5,hp⟩:=hp
     rw[RZ] at h3
     refine ⟨hp,?_⟩
     unfold JJ
     simp only[h1,h2,h3,h4,h5]
   · cases hr
 · split at hr
   · rename_i h1 h2 h3
     rw[oD] at hr;cases hr
     refine ⟨hp.2,?_⟩
     unfold JJ
     simp only[h1,h2,h3,R0 hp.1]
   · cases hr
 · split at hr
   · rename_i h1 h2 h3
     cases hr
     refine ⟨hp.2,?_⟩
     unfold JJ
     simp only[h1,h2,h3,hp.1]
   · cases hr
 · cases hr
inductive Gd where
 | yes
 | no
 | ask (v want:Bool)
def Nj (want:Bool):Option AV→Gd
 | some (.bool v)=> .ask v want
 | _=> .no
def Ky (ops:Array Oper) (ts:List AV) (g:Option (Nat×Bool)):Gd:=match g with
 | none=> .yes
 | some (j,want)=>match (ops[j]?).bind (·.dst) with
   | none=> .no
   | some d=>Nj want ts[d]?
theorem IT (ops:Array Oper) (ts:List AV) (o:Oper):cO ops ts o=(match Ky ops ts o.guard with
 | .yes=>true
 | .no=>false
 | .ask v want=>v==want):=by
 unfold cO Ky
 cases o.guard with
 | none=>rfl
 | some q=>
   obtain ⟨j,want⟩:=q
   simp only
   cases (ops[j]?).bind (·.dst) with
   | none=>rfl
   | some d=>
     simp only
     generalize ts[d]? =y
     unfold Nj
     cases y with
     | none=>rfl
     | some z=>cases z<;>rfl
noncomputable def rq (E:Env) (call:bm) (ops:Array Oper):List Oper→St→List pC→List Prop→R
 | [],s,as,ps=> .at .normal s as ps
 | o::rest,s,as,ps=>match Ky ops s.ts o.guard with
   | .yes=>(Ni E call o s as ps).go (rq E call ops rest)
   | .no=>(vJ s o.dst AV.undef s.h as ps).go (rq E call ops rest)
   | .ask v want=>match as with
     | .b x::as=>bif x==want then (Ni E call o s as ((v=x)::ps)).go (rq E call ops rest) else (vJ s o.dst AV.undef s.h as ((v=x)::ps)).go (rq E call ops rest)
     | _=> .bad
theorem Al {ops:Array Oper}:∀(l:List Oper) (s:St) (as:List pC) (ps:List Prop) (e:lY) (s':St) (zF:List pC) (uQ:List Prop),rq E call ops l s as ps= .at e s' zF uQ→nD uQ→nD ps∧lN E call ops l s= .ok e s'
 | [],s,as,ps,e,s',zF,uQ,hr,hp=>by cases hr;exact ⟨hp,rfl⟩
 | o::rest,s,as,ps,e,s',zF,uQ,hr,hp=>by
   have ih:=Al (ops:=ops) rest
   have aet:∀(xf:List pC) (uz:List Prop),(Ni E call o s xf uz).go (rq E call ops rest)= .at e s' zF uQ→nD uz∧(cO ops s.ts o=true→lN E call ops (o::rest) s= .ok e s'):=by
    intro xf uz h
    rcases R.aht h with ⟨s1,as2,ps2,h1,h2⟩ | ⟨h1,fH⟩
    · obtain ⟨h3,h4⟩:=ih _ _ _ _ _ _ _ h2 hp
      obtain ⟨h5,h6⟩:=C9 h1 h3
      refine ⟨h5,fun hw=>?_⟩
      unfold lN
      rw[if_pos hw,h6];exact h4
    · obtain ⟨h5,h6⟩:=C9 h1 hp
      refine ⟨h5,fun hw=>?_⟩
      unfold lN
      rw[if_pos hw,h6]
      cases e with
      | normal=>exact absurd rfl fH
      | _=>rfl
   have aeu:∀(xf:List pC) (uz:List Prop),(vJ s o.dst AV.undef s.h xf uz).go (rq E call ops rest)= .at e s' zF uQ→nD uz∧(cO ops s.ts o=false→lN E call ops (o::rest) s= .ok e s'):=by
    intro xf uz h
    rw[oD] at h
    obtain ⟨h3,h4⟩:=ih _ _ _ _ _ _ _ (show rq E call ops rest _ xf uz=_ from h) hp
    refine ⟨h3,fun hw=>?_⟩
    unfold lN
    rw[if_neg (by rw[hw];exact Bool.false_ne_true)]
    exact h4
   have hg:=IT ops s.ts o
   unfold rq at hr
   split at hr
   · rename_i h1;rw[h1] at hg;exact ⟨(aet _ _ hr).1,(aet _ _ hr).2 hg⟩
   · rename_i h1;rw[h1] at hg;exact ⟨(aeu _ _ hr).1,(aeu _ _ hr).2 hg⟩
   · rename_i v want h1
     rw[h1] at hg
     split at hr
     · rename_i x xf
       cases hx:x==want with
       | true=>
         rw[hx] at hr
         obtain ⟨⟨h2,h3⟩,h4⟩:=aet _ _ hr
         exact ⟨h3,h4 (by rw[hg,h2];exact hx)⟩
       | false=>
         rw[hx] at hr
         obtain ⟨⟨h2,h3⟩,h4⟩:=aeu _ _ hr
         exact ⟨h3,h4 (by rw[hg,h2];exact hx)⟩
     · cases hr
inductive RT where
 | bad
 | ok (tr:List Step) (hs:List aw) (s:St) (as:List pC) (ps:List Prop)
def RT.step (x:Step):RT→RT
 | .ok tr hs s as ps=> .ok (x::tr) hs s as ps
 | .bad=> .bad
def RT.bound (x:Step) (h:aw):RT→RT
 | .ok tr hs s as ps=> .ok (x::tr) (h::hs) s as ps
 | .bad=> .bad
def RT.put (s:St) (d:Option Tmp) (v:AV) (h:aw) (k:St→RT):RT:=match d with
 | some i=>TS (fun ts=>k ⟨ts,h,s.ds,s.rc⟩) s.ts i v
 | none=>k ⟨s.ts,h,s.ds,s.rc⟩
theorem RT.put_eq (s:St) (d:Option Tmp) (v:AV) (h:aw) (k:St→RT):RT.put s d v h k=k {s with ts:=dA s.ts d v,h:=h}:=by
 cases d with
 | none=>rfl
 | some i=>exact Kx _ _ _ _
noncomputable def Nk (E:Env) (call:bm) (i k:Nat) (o:Oper) (s:St) (as:List pC) (ps:List Prop) (go:Nat→St→List pC→List Prop→RT):RT:=match as with
 | .e x h'::as=>(RT.put s o.dst x h' fun s'=>go (k+1) s' as (abg E call s.ts s.h s.rc o x h'::ps)).bound ⟨i,k,s.ts,x,.xw h'⟩ s.h
 | _=> .bad
noncomputable def Nl (E:Env) (i k:Nat) (o:Oper) (s:St) (as:List pC) (ps:List Prop) (go:Nat→St→List pC→List Prop→RT):RT:=match as with
 | .c::as=>match bx E s.ts o.op with
   | some v=>(RT.put s o.dst v s.h fun s'=>go k s' as ps).step ⟨i,k,s.ts,v,.iJ⟩
   | none=> .bad
 | .v x::as=>(RT.put s o.dst x s.h fun s'=>go k s' as ((abe E s.ts o.op=some x)::ps)).step ⟨i,k,s.ts,x,.iJ⟩
 | .q x::as=>(RT.put s o.dst x s.h fun s'=>go k s' as ((bx E s.ts o.op=some x)::ps)).step ⟨i,k,s.ts,x,.iJ⟩
 | .m x::as=>match bx E s.ts o.op with
   | none=>(RT.put s o.dst x s.h fun s'=>go k s' as ((W2 E s.ts s.h o.op=some x)::ps)).step ⟨i,k,s.ts,x,.red⟩
   | some _=> .bad
 | .n h'::as=>match bx E s.ts o.op,fb E s.ts s.h o.op,fp E s.ts o.op with
   | none,none,some (obj,mk)=>(RT.put s o.dst (mk s.h.nx) h' fun s'=>go k s' as ((s.h.new obj=some h')::ps)).step ⟨i,k,s.ts,mk s.h.nx,.vi s.h.nx obj⟩
   | _,_,_=> .bad
 | .a obj x h'::as=>match bx E s.ts o.op,fb E s.ts s.h o.op with
   | none,none=>(RT.put s o.dst x h' fun s'=>go k s' as ((∃mk,abf E s.ts o.op=some (obj,mk)∧mk s.h.nx=x)::(s.h.new obj=some h')::ps)).step ⟨i,k,s.ts,x,.vi s.h.nx obj⟩
   | _,_=> .bad
 | _=> .bad
noncomputable def runT (E:Env) (call:bm) (ops:Array Oper):List Nat→Nat→St→List pC→List Prop→RT
 | [],_,s,as,ps=> .ok [] [s.h] s as ps
 | i::rest,k,s,as,ps=>match ops[i]? with
   | none=> .bad
   | some o=>match Ky ops s.ts o.guard with
     | .yes=>bif gP E o.op then Nk E call i k o s as ps (runT E call ops rest) else Nl E i k o s as ps (runT E call ops rest)
     | .no=>bif gP E o.op then (RT.put s o.dst AV.undef s.h fun s'=>runT E call ops rest (k+1) s' as ps).bound ⟨i,k,s.ts,AV.undef,.off⟩ s.h else (RT.put s o.dst AV.undef s.h fun s'=>runT E call ops rest k s' as ps).step ⟨i,k,s.ts,AV.undef,.off⟩
     | .ask v want=>match as with
       | .b x::as=>bif x==want then (bif gP E o.op then Nk E call i k o s as ((v=x)::ps) (runT E call ops rest) else Nl E i k o s as ((v=x)::ps) (runT E call ops rest))
         else (bif gP E o.op then (RT.put s o.dst AV.undef s.h fun s'=>runT E call ops rest (k+1) s' as ((v=x)::ps)).bound ⟨i,k,s.ts,AV.undef,.off⟩ s.h else (RT.put s o.dst AV.undef s.h fun s'=>runT E call ops rest k s' as ((v=x)::ps)).step ⟨i,k,s.ts,AV.undef,.off⟩)
       | _=> .bad
theorem RT.tw {x:Step} {r:RT} {tr:List Step} {hs:List aw} {s:St} {as:List pC} {ps:List Prop} (h:r.step x= .ok tr hs s as ps):∃OZ,tr=x::OZ∧r= .ok OZ hs s as ps:=by
 cases r with
 | bad=>cases h
 | ok a b c d e=>cases h;exact ⟨_,rfl,rfl⟩
theorem RT.Nm {x:Step} {g:aw} {r:RT} {tr:List Step} {hs:List aw} {s:St} {as:List pC} {ps:List Prop} (h:r.bound x g= .ok tr hs s as ps):∃OZ s7,tr=x::OZ∧hs=g::s7∧r= .ok OZ s7 s as ps:=by
 cases r with
 | bad=>cases h
 | ok a b c d e=>cases h;exact ⟨_,_,rfl,rfl,rfl⟩
theorem Fv {ops:Array Oper}:∀(l:List Nat) (k:Nat) (s:St) (as:List pC) (ps:List Prop) (tr:List Step) (hs:List aw) (s':St) (zF:List pC) (uQ:List Prop),
 runT E call ops l k s as ps= .ok tr hs s' zF uQ→nD uQ→nD ps∧dm E call ops l k s= .ok tr hs s'
 | [],k,s,as,ps,tr,hs,s',zF,uQ,hr,hp=>by cases hr;exact ⟨hp,rfl⟩
 | i::rest,k,s,as,ps,tr,hs,s',zF,uQ,hr,hp=>by
   have ih:=Fv (ops:=ops) rest
   unfold runT at hr
   split at hr
   · cases hr
   rename_i o hi
   have hE:∀{xf:List pC} {uz:List Prop},gP E o.op=true→Nk E call i k o s xf uz (runT E call ops rest)= .ok tr hs s' zF uQ→nD uz∧(cO ops s.ts o=true→dm E call ops (i::rest) k s= .ok tr hs s'):=by
    intro xf uz he h
    unfold Nk at h
    split at h
    · rename_i x h' as2
      rw[RT.put_eq] at h
      obtain ⟨Ro,vb,rfl,rfl,h9⟩:=RT.Nm h
      obtain ⟨h1,h2⟩:=ih _ _ _ _ _ _ _ _ _ h9 hp
      refine ⟨h1.2,fun hw=>?_⟩
      unfold dm
      simp only[hi,he,hw,if_true,R0 h1.1,h2]
      rfl
    · cases h
   have hN:∀{xf:List pC} {uz:List Prop},gP E o.op=false→Nl E i k o s xf uz (runT E call ops rest)= .ok tr hs s' zF uQ→nD uz∧(cO ops s.ts o=true→dm E call ops (i::rest) k s= .ok tr hs s'):=by
    intro xf uz he h
    unfold Nl at h
    split at h
    · split at h
      · rename_i v hv
        rw[RT.put_eq] at h
        obtain ⟨Ro,rfl,h9⟩:=RT.tw h
        obtain ⟨h1,h2⟩:=ih _ _ _ _ _ _ _ _ _ h9 hp
        refine ⟨h1,fun hw=>?_⟩
        unfold dm
        simp only[hi,he,hw,if_true,hv,Bool.false_eq_true,if_false]
        rw[h2]
        rfl
      · cases h
    · rw[RT.put_eq] at h
      obtain ⟨Ro,rfl,h9⟩:=RT.tw h
      obtain ⟨h1,h2⟩:=ih _ _ _ _ _ _ _ _ _ h9 hp
      refine ⟨h1.2,fun hw=>?_⟩
      unfold dm
      simp only[hi,he,hw,if_true,RY h1.1,Bool.false_eq_true,if_false]
      rw[h2]
      rfl
    · rw[RT.put_eq] at h
      obtain ⟨Ro,rfl,h9⟩:=RT.tw h
      obtain ⟨h1,h2⟩:=ih _ _ _ _ _ _ _ _ _ h9 hp
      refine ⟨h1.2,fun hw=>?_⟩
      unfold dm
      simp only[hi,he,hw,if_true,h1.1,Bool.false_eq_true,if_false]
      rw[h2]
      rfl
    · split at h
      · rename_i hv
        rw[RT.put_eq] at h
        obtain ⟨Ro,rfl,h9⟩:=RT.tw h
        obtain ⟨h1,h2⟩:=ih _ _ _ _ _ _ _ _ _ h9 hp
        refine ⟨h1.2,fun hw=>?_⟩
        unfold dm
        simp only[hi,he,hw,if_true,hv,Kw h1.1,Bool.false_eq_true,if_false]
        rw[h2]
        rfl
      · cases h
    · split at h
      · rename_i q1 q2 q3
        rw[RT.put_eq] at h
        obtain ⟨Ro,rfl,h9⟩:=RT.tw h
        obtain ⟨h1,h2⟩:=ih _ _ _ _ _ _ _ _ _ h9 hp
        refine ⟨h1.2,fun hw=>?_⟩
        unfold dm
        simp only[hi,he,hw,if_true,q1,q2,q3,h1.1,Bool.false_eq_true,if_false,h2]
        rfl
      · cases h
    · split at h
      · rename_i q1 q2
        rw[RT.put_eq] at h
        obtain ⟨Ro,rfl,h9⟩:=RT.tw h
        obtain ⟨h1,h2⟩:=ih _ _ _ _ _ _ _ _ _ h9 hp
        obtain ⟨⟨mk,h3,h4⟩,h5,h6⟩:=h1
        rw[RZ] at h3
        subst h4
        refine ⟨h6,fun hw=>?_⟩
        unfold dm
        simp only[hi,he,hw,if_true,q1,q2,h3,h5,Bool.false_eq_true,if_false,h2]
        rfl
      · cases h
    · cases h
   have hO:∀{xf:List pC} {uz:List Prop},(bif gP E o.op then (RT.put s o.dst AV.undef s.h fun s'=>runT E call ops rest (k+1) s' xf uz).bound ⟨i,k,s.ts,AV.undef,.off⟩ s.h else (RT.put s o.dst AV.undef s.h fun s'=>runT E call ops rest k s' xf uz).step ⟨i,k,s.ts,AV.undef,.off⟩)= .ok tr hs s' zF uQ→
    nD uz∧(cO ops s.ts o=false→dm E call ops (i::rest) k s= .ok tr hs s'):=by
    intro xf uz h
    cases he:gP E o.op with
    | true=>
      rw[he,cond_true,RT.put_eq] at h
      obtain ⟨Ro,vb,rfl,rfl,h9⟩:=RT.Nm h
      obtain ⟨h1,h2⟩:=ih _ _ _ _ _ _ _ _ _ h9 hp
      refine ⟨h1,fun hw=>?_⟩
      unfold dm
      simp only[hi,he,hw,if_true,Bool.false_eq_true,if_false]
      rw[h2]
      rfl
    | false=>
      rw[he,cond_false,RT.put_eq] at h
      obtain ⟨Ro,rfl,h9⟩:=RT.tw h
      obtain ⟨h1,h2⟩:=ih _ _ _ _ _ _ _ _ _ h9 hp
      refine ⟨h1,fun hw=>?_⟩
      unfold dm
      simp only[hi,he,hw,Bool.false_eq_true,if_false]
      rw[h2]
      rfl
   have hY:∀{xf:List pC} {uz:List Prop},(bif gP E o.op then Nk E call i k o s xf uz (runT E call ops rest) else Nl E i k o s xf uz (runT E call ops rest))= .ok tr hs s' zF uQ→
    nD uz∧(cO ops s.ts o=true→dm E call ops (i::rest) k s= .ok tr hs s'):=by
    intro xf uz h
    cases he:gP E o.op with
    | true=>rw[he] at h;exact hE he h
    | false=>rw[he] at h;exact hN he h
   have hg:=IT ops s.ts o
   split at hr
   · rename_i h1;rw[h1] at hg;exact ⟨(hY hr).1,(hY hr).2 hg⟩
   · rename_i h1;rw[h1] at hg;exact ⟨(hO hr).1,(hO hr).2 hg⟩
   · rename_i v want h1
     rw[h1] at hg
     split at hr
     · rename_i x xf
       cases hx:x==want with
       | true=>
         rw[hx] at hr
         obtain ⟨⟨h2,h3⟩,h4⟩:=hY hr
         exact ⟨h3,h4 (by rw[hg,h2];exact hx)⟩
       | false=>
         rw[hx] at hr
         obtain ⟨⟨h2,h3⟩,h4⟩:=hO hr
         exact ⟨h3,h4 (by rw[hg,h2];exact hx)⟩
     · cases hr
noncomputable def PK (E:Env) (ops:Array Oper) (x:Step) (h:aw) (ps:List Prop):List Prop:=match x.kind with
 | .red=>match ops[x.i]? with
   | some o=>(AV.same 20 x.v x.v=true)::(W2 E x.ts h o.op=some x.v)::ps
   | none=>False::ps
 | .vi n obj=>(∃o,h.get n=some o∧aH.same o obj=true)::ps
 | _=>ps
noncomputable def PL (E:Env) (ops:Array Oper) (x:Step):List aw→List Prop→List Prop
 | [],ps=>ps
 | h::hs,ps=>PL E ops x hs (PK E ops x h ps)
noncomputable def Am (E:Env) (ops:Array Oper) (bT:List Nat) (an:List (List Nat)) (hs:List aw):List Step→List Prop→List Prop
 | [],ps=>ps
 | x::tr,ps=>Am E ops bT an hs tr (PL E ops x ((hs.drop x.k).take (lO bT an x.i+1 - x.k)) ps)
theorem TU {ops:Array Oper} {x:Step} {h:aw} {ps:List Prop} (hc:nD (PK E ops x h ps)):nD ps∧kO E ops x h=true:=by
 unfold PK at hc
 unfold kO
 split at hc
 · rename_i hk
   simp only[hk]
   split at hc
   · rename_i o ho
     have ie:ops.getD x.i default=o:=by simp [Array.getD_eq_getD_getElem?,ho]
     simp only[ie,Kw hc.2.1,hc.1]
     exact ⟨hc.2.2,trivial⟩
   · exact hc.1.elim
 · rename_i n obj hk
   obtain ⟨⟨o,h1,h2⟩,h3⟩:=hc
   simp only[hk,h1,h2]
   exact ⟨h3,trivial⟩
 · rename_i h1 h2
   refine ⟨hc,?_⟩
   split
   · rename_i hk;exact absurd hk (by assumption)
   · rename_i hk;exact absurd hk (h2 _ _)
   · rfl
theorem IU {ops:Array Oper} {x:Step}:∀(hs:List aw) (ps:List Prop),nD (PL E ops x hs ps)→nD ps∧hs.all (kO E ops x)=true
 | [],ps,hc=>⟨hc,rfl⟩
 | h::hs,ps,hc=>by
   obtain ⟨h1,h2⟩:=IU hs _ hc
   obtain ⟨h3,h4⟩:=TU h1
   exact ⟨h3,by simp only[List.all_cons,h4,h2,Bool.and_self]⟩
theorem C_ {ops:Array Oper} {bT:List Nat} {an:List (List Nat)} {hs:List aw}:∀(tr:List Step) (ps:List Prop),nD (Am E ops bT an hs tr ps)→
 nD ps∧(tr.all fun x=>((hs.drop x.k).take (lO bT an x.i+1 - x.k)).all (kO E ops x))=true
 | [],ps,hc=>⟨hc,rfl⟩
 | x::tr,ps,hc=>by
   obtain ⟨h1,h2⟩:=C_ tr _ hc
   obtain ⟨h3,h4⟩:=IU _ _ h1
   exact ⟨h3,by simp only[List.all_cons,h4,h2,Bool.and_self]⟩
noncomputable def W3 (l:List Nat) (ps:List Prop):List Prop:=match l with
 | []=>ps
 | [_]=>ps
 | l=>(nodup l=true)::ps
noncomputable def Kz (E:Env) (call:bm) (ops:Array Oper) (s:St) (as:List pC) (ps:List Prop):R:=match vh E ops with
 | none=> .bad
 | some pl=>match runT E call ops pl.order 0 s as ps with
   | .ok tr hs s' zF uQ=> .at .normal s' zF (W3 (sY tr) (Am E ops pl.bT pl.an hs tr uQ))
   | .bad=> .bad
theorem HI {ops:Array Oper} {s:St} {as:List pC} {ps:List Prop} {e:lY} {s':St} {zF:List pC} {uQ:List Prop} (hr:Kz E call ops s as ps= .at e s' zF uQ) (hp:nD uQ):nD ps∧zL E call ops s= .ok e s':=by
 unfold Kz at hr
 split at hr
 · cases hr
 rename_i pl Tj
 split at hr
 · rename_i tr hs s1 xf uz h1
   cases hr
   have hn:nD (Am E ops pl.bT pl.an hs tr uz)∧nodup (sY tr)=true:=by
    unfold W3 at hp
    split at hp
    · rename_i hm;exact ⟨hp,by rw[hm];rfl⟩
    · rename_i hm;exact ⟨hp,by rw[hm];rfl⟩
    · exact ⟨hp.2,hp.1⟩
   obtain ⟨h2,h3⟩:=C_ _ _ hn.1
   obtain ⟨h4,h5⟩:=Fv _ _ _ _ _ _ _ _ _ _ h1 h2
   refine ⟨h4,?_⟩
   unfold zL
   simp only[Tj,h5]
   have:sZ E ops pl tr hs=true:=by
    unfold sZ
    rw[hn.2,Bool.true_and]
    exact h3
   rw[if_pos this]
 · cases hr
noncomputable def run (E:Env) (call:bm):Nat→Code→St→List pC→List Prop→R
 | 0,_,_,_,_=> .bad
 | n+1,c,s,as,ps=>match c with
   | .skip=> .at .normal s as ps
   | .ret=> .at .ret s as ps
   | .exit i=> .at (.exit i) s as ps
   | .seq a b=>match run E call n a s as ps with
     | .at .normal s1 xf uz=>run E call n b s1 xf uz
     | r=>r
   | .cond x a b=>match as with
     | .b v::as=>match fJ E s.ts x with
       | some (.bool u)=>bif v then run E call n a s as ((u=true)::ps) else run E call n b s as ((u=false)::ps)
       | _=> .bad
     | .l e s'::as=> .at e s' as (Ev E call (.cond x a b) s e s'::ps)
     | _=> .bad
   | .block id b=>match run E call n b s as ps with
     | .at (.exit j) s1 xf uz=>bif Nat.beq j id then .at .normal s1 xf uz else .at (.exit j) s1 xf uz
     | r=>r
   | .loop b=>match as with
     | .l e s'::as=> .at e s' as (Ev E call (.loop b) s e s'::ps)
     | _=> .bad
   | .rangeFunc f uQ a b=>match as with
     | .l e s'::as=> .at e s' as (Ev E call (.rangeFunc f uQ a b) s e s'::ps)
     | _=> .bad
   | .region i ops draw=>match as with
     | .l e s'::as=> .at e s' as (Ev E call (.region i ops draw) s e s'::ps)
     | as=>bif draw then Kz E call ops s as ps else rq E call ops ops.toList s as ps
   | .scope b=>run E call n b s as ps
   | .label _=> .at .normal s as ps
   | _=> .bad
theorem IV:∀(n:Nat) (c:Code) (s:St) (as:List pC) (ps:List Prop) (e:lY) (s':St) (zF:List pC) (uQ:List Prop),run E call n c s as ps= .at e s' zF uQ→nD uQ→nD ps∧Ev E call c s e s'
 | 0,c,s,as,ps,e,s',zF,uQ,hr,hp=>by cases hr
 | n+1,c,s,as,ps,e,s',zF,uQ,hr,hp=>by
   have ih:=IV n
   unfold run at hr
   split at hr
   · cases hr;exact ⟨hp,.of fun _=>rfl⟩
   · cases hr;exact ⟨hp,.of fun _=>rfl⟩
   · cases hr;exact ⟨hp,.of fun _=>rfl⟩
   · split at hr
     · rename_i s1 xf uz h1
       obtain ⟨h2,h3⟩:=ih _ _ _ _ _ _ _ _ hr hp
       obtain ⟨h4,h5⟩:=ih _ _ _ _ _ _ _ _ h1 h2
       exact ⟨h4,h5.seq h3⟩
     · rename_i fH
       obtain ⟨h4,h5⟩:=ih _ _ _ _ _ _ _ _ hr hp
       refine ⟨h4,h5.seq' fun he=>?_⟩
       subst he;exact fH _ _ _ hr
   · split at hr
     · rename_i v xf
       split at hr
       · rename_i u hu
         cases v with
         | true=>
           obtain ⟨⟨h1,h2⟩,n0,h3⟩:=ih _ _ _ _ _ _ _ _ hr hp
           refine ⟨h2,n0+1,fun n hn=>?_⟩
           obtain ⟨k,rfl⟩:∃k,n=k+1:=⟨n - 1,by omega⟩
           rw[WW,hu,h1,PJ];exact h3 k (by omega)
         | false=>
           obtain ⟨⟨h1,h2⟩,n0,h3⟩:=ih _ _ _ _ _ _ _ _ hr hp
           refine ⟨h2,n0+1,fun n hn=>?_⟩
           obtain ⟨k,rfl⟩:∃k,n=k+1:=⟨n - 1,by omega⟩
           rw[WW,hu,h1,Ng];exact h3 k (by omega)
       · cases hr
     · cases hr;exact ⟨hp.2,hp.1⟩
     · cases hr
   · split at hr
     · rename_i id b _ j s1 xf uz h1
       cases hj:Nat.beq j id with
       | true=>
         rw[hj] at hr
         cases hr
         obtain ⟨h2,n0,h3⟩:=ih _ _ _ _ _ _ _ _ h1 hp
         refine ⟨h2,n0+1,fun n hn=>?_⟩
         obtain ⟨k,rfl⟩:∃k,n=k+1:=⟨n - 1,by omega⟩
         rw[Ku,h3 k (by omega),C7,if_pos (Nat.eq_of_beq_eq_true hj)]
       | false=>
         rw[hj] at hr
         cases hr
         obtain ⟨h2,n0,h3⟩:=ih _ _ _ _ _ _ _ _ h1 hp
         refine ⟨h2,n0+1,fun n hn=>?_⟩
         obtain ⟨k,rfl⟩:∃k,n=k+1:=⟨n - 1,by omega⟩
         rw[Ku,h3 k (by omega),C7,if_neg (Nat.ne_of_beq_eq_false hj)]
     · rename_i id b _ fH
       obtain ⟨h2,n0,h3⟩:=ih _ _ _ _ _ _ _ _ hr hp
       refine ⟨h2,n0+1,fun n hn=>?_⟩
       obtain ⟨k,rfl⟩:∃k,n=k+1:=⟨n - 1,by omega⟩
       rw[Ku,h3 k (by omega)]
       cases e with
       | exit j=>exact absurd hr (fH _ _ _ _)
       | _=>rfl
   · split at hr
     · cases hr;exact ⟨hp.2,hp.1⟩
     · cases hr
   · split at hr
     · cases hr;exact ⟨hp.2,hp.1⟩
     · cases hr
   · rename_i i ops draw
     split at hr
     · cases hr;exact ⟨hp.2,hp.1⟩
     cases draw with
     | true=>
       simp only[cond_true] at hr
       obtain ⟨h1,h2⟩:=HI hr hp
       exact ⟨h1,.of fun n=>by rw[aa1];exact h2⟩
     | false=>
       simp only[cond_false] at hr
       obtain ⟨h1,h2⟩:=Al _ _ _ _ _ _ _ _ hr hp
       exact ⟨h1,.of fun n=>by rw[WY];exact h2⟩
   · obtain ⟨h1,n0,h2⟩:=ih _ _ _ _ _ _ _ _ hr hp
     exact ⟨h1,n0+1,fun n hn=>by
      obtain ⟨k,rfl⟩:∃k,n=k+1:=⟨n - 1,by omega⟩
      show exec E call k _ s=_
      exact h2 k (by omega)⟩
   · cases hr;exact ⟨hp,.of fun _=>rfl⟩
   · cases hr
theorem PM {n:Nat} {c:Code} {s:St} {al:List pC} {e:lY} {s':St} {ps:List Prop} (hr:run E call n c s al []= .at e s' [] ps) (hp:nD ps):Ev E call c s e s':=(IV _ _ _ _ _ _ _ _ _ hr hp).2
theorem kI {tmpl:(Nat→AV)→List AV} {c:Code} {s:St} {e:lY} {h:aw} {ds:List sX} {rc:RC} {L:List AV} (ev:Ev E call c s e ⟨L,h,ds,rc⟩) (hl:L=tmpl fun k=>L.getD k AV.undef):∃y,Ev E call c s e ⟨tmpl y,h,ds,rc⟩:=by
 refine ⟨fun k=>L.getD k AV.undef,?_⟩
 rw[←hl];exact ev
theorem An {f:FuncId} {fn:Func} {c:Code} (hf:E.P.funcs[f]? =some fn) (hb:fn.body=some c) {args:List AV} {h h':aw} {ts:List AV} {x:lY} (hx:x= .normal∨x= .ret)
 (e:Ev E call c ⟨args++List.replicate (fn.ntmps - args.length) AV.undef,h,[],.no⟩ x ⟨ts,h',[],.no⟩) {vs:List AV} (hr:lZ E h' ts fn.results.toList=some vs):∃n0,∀n,n0≤n→C5 E call n f args h= .ret (je vs) h':=by
 obtain ⟨n0,e⟩:=e
 exact ⟨n0,fun n hn=>TP hf hb hx (e n hn) hr⟩
def yM (E:Env) (call:bm) (f:FuncId) (args:List AV) (h:aw) (v:AV) (h':aw):Prop:=∃n0,∀n,n0≤n→C5 E call n f args h= .ret v h'
theorem aZ {f:FuncId} {fn:Func} {c:Code} {args ts0 ts:List AV} {h h':aw} {x:lY} {v:AV} (hf:E.P.funcs[f]? =some fn) (hb:fn.body=some c) (ht:args++List.replicate (fn.ntmps - args.length) AV.undef=ts0) (hx:x= .normal∨x= .ret)
 (e:Ev E call c ⟨ts0,h,[],.no⟩ x ⟨ts,h',[],.no⟩) (hr:(lZ E h' ts fn.results.toList).map je=some v):yM E call f args h v h':=by
 subst ht
 cases hv:lZ E h' ts fn.results.toList with
 | none=>rw[hv] at hr;cases hr
 | some vs=>
   rw[hv] at hr
   obtain rfl:je vs=v:=Option.some.inj hr
   exact An hf hb hx e hv
end Go.Ab
end
section
namespace Go.Ab
variable {E:Env}
theorem Fw {t:TypeId} {c d:Bool} {k:IntKind} {a b z:Int} (h:k.wrap (a+b)=z):hD E .add t c d (some (.int k a)) (some (.int k b))=some (.int k z):=by rw[aa3,h]
theorem Fx {t:TypeId} {c d:Bool} {k:IntKind} {a b z:Int} (h:k.wrap (a - b)=z):hD E .sub t c d (some (.int k a)) (some (.int k b))=some (.int k z):=by rw[aa4,h]
theorem PN {t:TypeId} {c d:Bool} {k:IntKind} {a b z:Int} (h:k.wrap (a*b)=z):hD E .mul t c d (some (.int k a)) (some (.int k b))=some (.int k z):=by rw[aa5,h]
theorem iE (k:IntKind) (n:Int):AV.scalar (.int k n)=true:=rfl
theorem gd (b:Bool):AV.scalar (.bool b)=true:=rfl
theorem iF (b:List UInt8):AV.scalar (.str b)=true:=rfl
theorem iG (i o:Nat):AV.scalar (.ptr i o)=true:=rfl
theorem eP (i o n c:Nat) (b:Bool):AV.scalar (.slice i o n c b)=true:=rfl
theorem lF:AV.scalar .aD=true:=rfl
theorem lG:AV.scalar .ic=true:=rfl
theorem lH:AV.scalar .eY=true:=rfl
theorem lI:AV.scalar .nilFunc=true:=rfl
theorem lJ:AV.scalar .nilIface=true:=rfl
theorem iH (i:Nat):AV.scalar (.map i)=true:=rfl
theorem Fy {h:aw} {t:TypeId} {i o:Nat} {cs:List AV} {e:TypeId} {ro:Bool} {v:AV} (hg:h.get i=some (.cells cs e ro)) (hv:jq E t cs o=some v):aY E h t (.ptr i o)=some v:=by
 simp only[aY,hg,hv]
theorem tx {h h':aw} {o:aH} (n:h.new o=some h'):h'.get h.nx=some o:=(aw.mT n).2.2.1
theorem yN {h h':aw} {o:aH} (n:h.new o=some h'):h'.nx=h.nx+1:=(aw.mT n).2.1
theorem vK {h h':aw} {o x:aH} {i:Nat} (y:Tidy h) (n:h.new o=some h') (g:h.get i=some x):h'.get i=some x:=by
 have:=y i x g
 rw[(aw.mT n).2.2.2 i (by omega)];exact g
theorem xg {h h':aw} {o:aH} (y:Tidy h) (n:h.new o=some h'):Has h h':=fun _ _ g=>vK y n g
theorem m4 {h h':aw} {o:aH} (y:Tidy h) (n:h.new o=some h'):Tidy h':=fun i x g=>by
 obtain ⟨_,h2,h3,h4⟩:=aw.mT n
 by_cases hx:i=h.nx
 · omega
 · rw[h4 i hx] at g;have:=y i x g;omega
theorem yO {h:aw} (o:aH):∃h',h.new o=some h':=⟨_,aw.JL _ _⟩
theorem r5 {h:aw} {t e:TypeId} {i o n:Nat} {cs:List AV} {v:AV} (g:h.get i=some (.cells cs e false)) (hs:b7 E t=some n) (hv:v.cells.length=n) (ho:o+n≤cs.length) (hk:v.cells.all AV.scalar=true):∃h',dW E h t (.ptr i o) v=some h':=by
 refine ⟨h.put i (some (.cells (setFrom cs o v.cells) e false)),?_⟩
 simp only[dW,g,hs]
 rw[if_pos ⟨hv,ho,hk⟩]
theorem oE {h h':aw} {t e:TypeId} {i o:Nat} {cs:List AV} {v:AV} (s:dW E h t (.ptr i o) v=some h') (g:h.get i=some (.cells cs e false)):h'=h.put i (some (.cells (setFrom cs o v.cells) e false)):=by
 simp only[dW,g] at s
 split at s
 · rename_i h1 _
   cases h1
   split at s
   · exact (Option.some.inj s).symm
   · cases s
 · cases s
theorem IW {h h':aw} {t e:TypeId} {i o:Nat} {cs:List AV} {v:AV} (y:Tidy h) (s:dW E h t (.ptr i o) v=some h') (g:h.get i=some (.cells cs e false)):h'.get i=some (.cells (setFrom cs o v.cells) e false):=by
 rw[oE s g]
 have:=y i _ g
 exact aw.dG _
theorem Fz {h h':aw} {t e:TypeId} {i j o:Nat} {cs:List AV} {v:AV} {x:aH} (y:Tidy h) (s:dW E h t (.ptr i o) v=some h') (g:h.get i=some (.cells cs e false)) (hj:j≠i) (gx:h.get j=some x):h'.get j=some x:=by
 rw[oE s g]
 have:=y i _ g
 rw[aw.cj (Ne.symm hj)];exact gx
theorem FA {h h':aw} {t e:TypeId} {i o:Nat} {cs:List AV} {v:AV} (s:dW E h t (.ptr i o) v=some h') (g:h.get i=some (.cells cs e false)):h'.nx=h.nx:=by
 rw[oE s g];exact aw.adU _ _ _
theorem FB {h h':aw} {t e:TypeId} {i o:Nat} {cs:List AV} {v:AV} (y:Tidy h) (s:dW E h t (.ptr i o) v=some h') (g:h.get i=some (.cells cs e false)):Tidy h':=fun j x gj=>by
 have hi:=y i _ g
 rw[FA s g]
 by_cases hx:j=i
 · omega
 · rw[oE s g,aw.cj (Ne.symm hx)] at gj
   exact y j x gj
def KA (h h':aw) (b:Nat) (o:aH):Prop:=Tidy h'∧h'.get b=some o∧∀i x,i≠b→h.get i=some x→h'.get i=some x
theorem KA.has {h0 h h':aw} {b:Nat} {o:aH} (c:KA h h' b o) (a:Has h0 h) (y:Tidy h0) (hb:h0.nx≤b):Has h0 h':=fun i x g=>by
 have:=y i x g
 exact c.2.2 i x (by omega) (a i x g)
end Go.Ab
end
section
namespace Go.Ab
variable {E:Env}
theorem dT {p:Prop} [Decidable p] (h:p):decide p=true:=decide_eq_true h
theorem dF {p:Prop} [Decidable p] (h:¬p):decide p=false:=decide_eq_false h
theorem nT {p:Prop} [Decidable p] (h:¬p):(!decide p)=true:=by rw[decide_eq_false h];rfl
theorem nF {p:Prop} [Decidable p] (h:p):(!decide p)=false:=by rw[decide_eq_true h];rfl
theorem abh {l:List Nat} {k:Nat} (h:k<l.length):l[k]? =some (l.getD k 0):=by simp [List.getD_eq_getElem?_getD,List.getElem?_eq_getElem h]
def bw:Code→List Code
 | .seq a b=>bw a++bw b
 | .cond _ a b=>bw a++bw b
 | .block _ b=>bw b
 | .loop b=>b::bw b
 | .scope b=>bw b
 | .rangeFunc _ _ _ b=>b::bw b
 | _=> []
structure od (E:Env) (h:aw) (e:TypeId) (n:Nat) (av:AV) (len:Nat) (cs:List AV):Prop where
 size:b7 E e=some n
 cells:cs.length=len*n
 small:len<2^60
 lens:cc (some (.slice e)) (some av)=some (.int .i64 (len:Nat))
 block:len=0∨∃p o m c b C f ro,av= .slice p o m c b∧m≤c∧h.get p=some (.cells C f ro)∧(∀j,j<cs.length→C[o+j]? =cs[j]?)
theorem od.has {h h':aw} {e:TypeId} {n:Nat} {av:AV} {len:Nat} {cs:List AV} (x:od E h e n av len cs) (hh:Has h h'):od E h' e n av len cs:=
 ⟨x.size,x.cells,x.small,x.lens,x.block.imp id fun ⟨p,o,m,c,b,C,f,ro,h1,h0,h2,h3⟩=>⟨p,o,m,c,b,C,f,ro,h1,h0,hh _ _ h2,h3⟩⟩
theorem od.elem {h:aw} {e:TypeId} {av:AV} {len:Nat} {cs:List AV} (x:od E h e 1 av len cs) (ha:fY E e=some false) {i:Nat} {v:AV} (hv:cs[i]? =some v):
 ∃p q,bR E (some (.slice e)) (some av) (some (.int .i64 (i:Nat)))=some (.ptr p q)∧aY E h e (.ptr p q)=some v:=by
 have hi:=(List.getElem?_eq_some_iff.1 hv).1
 have hl:cs.length=len:=by rw[x.cells,Nat.mul_one]
 rcases x.block with h0 | ⟨p,o,m,c,b,C,f,ro,h1,_,h2,h3⟩
 · omega
 · subst h1
   have hm:m=len:=by
    have:=x.lens
    rw[jh] at this
    simp only[Option.some.injEq,AV.int.injEq,true_and] at this
    omega
   refine ⟨p,o+i*1,nP x.size (by omega),?_⟩
   simp only[aY,h2,jq,ha,Nat.mul_one]
   rw[h3 i hi,hv]
def vL (k:IntKind) (l:List Nat):List AV:=l.map fun (n:Nat)=> .int k (n:Int)
structure gu (E:Env) (h:aw) (k:IntKind) (e:TypeId) (av:AV) (l:List Nat):Prop where
 at_:od E h e 1 av l.length (vL k l)
 agg:fY E e=some false
 known:av= .aD∨∃p o n c b,av= .slice p o n c b∧(b=true→0<c)
theorem vM {k:IntKind} {l:List Nat} {i:Nat} {z:Nat} (h:l[i]? =some z):(vL k l)[i]? =some (.int k (z:Int)):=by simp [vL,h]
theorem gu.elem {h:aw} {k:IntKind} {e:TypeId} {av:AV} {l:List Nat} (x:gu E h k e av l) {i:Nat} {z:Nat} (hz:l[i]? =some z):
 ∃p q,bR E (some (.slice e)) (some av) (some (.int .i64 (i:Nat)))=some (.ptr p q)∧aY E h e (.ptr p q)=some (.int k (z:Int)):=x.at_.elem x.agg (vM hz)
theorem gu.len {h:aw} {k:IntKind} {e:TypeId} {av:AV} {l:List Nat} (x:gu E h k e av l):cc (some (.slice e)) (some av)=some (.int .i64 (l.length:Nat)):=x.at_.lens
theorem oF (k:IntKind) (l:List Nat):(vL k l).length=l.length:=by simp [vL]
theorem gu.small {h:aw} {k:IntKind} {e:TypeId} {av:AV} {l:List Nat} (x:gu E h k e av l):l.length<2^60:=x.at_.small
def Off (p:Nat) (av:AV):Prop:=∀o n c b,av≠ .slice p o n c b
theorem gu.of {h:aw} {k:IntKind} {e:TypeId} {l:List Nat} {p o c:Nat} {b:Bool} {C:List AV} {f:TypeId} {ro:Bool} (hs:b7 E e=some 1) (ha:fY E e=some false) (hl:l.length<2^60) (hc:l.length≤c) (hb:b=true→0<c) (hg:h.get p=some (.cells C f ro))
 (hv:∀(i:Nat) z,l[i]? =some z→C[o+i]? =some (.int k (z:Int))):gu E h k e (.slice p o l.length c b) l:=
 ⟨⟨hs,by rw[oF];omega,hl,rfl,.inr ⟨p,o,_,c,b,C,f,ro,rfl,hc,hg,fun j hj=>by
   rw[oF] at hj
   rw[hv j l[j] (List.getElem?_eq_getElem hj),vM (List.getElem?_eq_getElem hj)]⟩⟩,ha,.inr ⟨p,o,_,c,b,rfl,hb⟩⟩
theorem gu.nil {h:aw} {k:IntKind} {e:TypeId} (hs:b7 E e=some 1) (ha:fY E e=some false):gu E h k e .aD []:=
 ⟨⟨hs,rfl,by decide,rfl,.inl rfl⟩,ha,.inl rfl⟩
theorem gu.inv {h:aw} {k:IntKind} {e:TypeId} {l:List Nat} {p o n c:Nat} {b:Bool} (x:gu E h k e (.slice p o n c b) l):n=l.length∧(l≠ []→l.length≤c∧∃C f ro,h.get p=some (.cells C f ro)∧∀(i:Nat) z,l[i]? =some z→C[o+i]? =some (.int k (z:Int))):=by
 have hn:n=l.length:=by
  have:=x.len
  rw[jh] at this
  simp only[Option.some.injEq,AV.int.injEq,true_and] at this
  omega
 refine ⟨hn,fun fH=>?_⟩
 rcases x.at_.block with h0 | ⟨p',o',m,c',b',C,f,ro,h1,h0,h2,h3⟩
 · exact absurd (List.length_eq_zero_iff.1 h0) fH
 · cases h1
   refine ⟨by omega,C,f,ro,h2,fun i z hz=>?_⟩
   rw[h3 i (by rw[oF];exact (List.getElem?_eq_some_iff.1 hz).1),vM hz]
theorem mE {len cap lo hi:Nat} (low high:Option AV) (hl:low=some (.int .i64 (lo:Nat))∨(low=none∧lo=0)) (hh:high=some (.int .i64 (hi:Nat))∨(high=none∧hi=len)) (h1:lo≤hi) (h2:hi≤cap):mg len cap low high none=some (lo,hi,cap):=by
 have b:∀(x y:Nat),x≤y→pN (.int .i64 (x:Nat)) y=some x:=fun x y h=>by
  simp only[pN]
  rw[if_pos ⟨by omega,by omega⟩,Int.toNat_natCast]
 unfold mg
 rcases hh with rfl | ⟨rfl,rfl⟩<;>rcases hl with rfl | ⟨rfl,rfl⟩<;>simp [b,h1,h2]
theorem gu.slice {h:aw} {k:IntKind} {e t:TypeId} {av:AV} {l:List Nat} (x:gu E h k e av l) (ht:E.P.underlying t=some (.slice e)) {lo hi:Nat} (low high:Option AV) (hl:low=some (.int .i64 (lo:Nat))∨(low=none∧lo=0)) (hh:high=some (.int .i64 (hi:Nat))∨(high=none∧hi=l.length)) (h1:lo≤hi) (h2:hi≤l.length) (h3:l.length=0∨lo<l.length):
 ∃r,dV E t av low high none=some r∧gu E h k e r ((l.take hi).drop lo)∧∀p,Off p av→Off p r:=by
 rcases x.known with rfl | ⟨p,o,n,c,b,rfl,hb⟩
 · have hl0:l.length=0:=by
    have:=x.len
    rw[Aj] at this
    simp only[Option.some.injEq,AV.int.injEq,true_and] at this
    omega
   obtain rfl:=List.length_eq_zero_iff.1 hl0
   simp only[List.length_nil] at *
   have ZP:hi=0:=by omega
   subst ZP
   have ZO:lo=0:=by omega
   subst ZO
   refine ⟨.aD,?_,by simpa using x,fun p hp=>hp⟩
   simp only[dV,ht,x.at_.size,mE (len:=0) (cap:=0) low high hl hh (Nat.le_refl 0) (Nat.le_refl 0)]
 · obtain ⟨rfl,hx⟩:=x.inv
   have hlc:l.length≤c:=by
    by_cases fH:l=[]
    · subst fH;exact Nat.zero_le _
    · exact (hx fH).1
   have hr:∃o' c',dV E t (.slice p o l.length c b) low high none=some (.slice p o' (hi - lo) c' b)∧(b=true→0<c')∧hi - lo≤c'∧(hi - lo≠0→o'=o+lo):=by
    simp only[dV,ht,x.at_.size,hlc,if_true,mE (len:=l.length) (cap:=c) low high hl hh h1 (by omega)]
    by_cases hm:c=lo
    · have hb0:b=false:=by
       cases b with
       | false=>rfl
       | true=>have:=hb rfl;omega
      subst hb0
      rw[if_pos hm]
      exact ⟨o,c - lo,rfl,by simp,by omega,fun h=>by omega⟩
    · rw[if_neg hm]
      refine ⟨o+lo*1,c - lo,by simp,fun h=>by omega,by omega,fun h=>by omega⟩
   obtain ⟨o',c',e1,e2,e3,e4⟩:=hr
   refine ⟨_,e1,?_,fun q hq o' n' c' b' he=>by cases he;exact hq _ _ _ _ rfl⟩
   have hlen:((l.take hi).drop lo).length=hi - lo:=by simp;omega
   rw[←hlen]
   by_cases h0:hi - lo=0
   · have:(l.take hi).drop lo=[]:=List.length_eq_zero_iff.1 (by omega)
     rw[this]
     exact ⟨⟨x.at_.size,rfl,by decide,rfl,.inl rfl⟩,x.agg,.inr ⟨_,_,_,_,_,rfl,e2⟩⟩
   · have fH:l≠ []:=fun e=>by subst e;simp at h2;omega
     obtain ⟨_,C,f,ro,g1,g2⟩:=hx fH
     refine gu.of x.at_.size x.agg (by have:=x.small;omega) (by omega) e2 g1 fun i z hz=>?_
     have JO:i<hi - lo:=by rw[←hlen];exact (List.getElem?_eq_some_iff.1 hz).1
     rw[e4 h0,Nat.add_assoc]
     apply g2
     rw[List.getElem?_drop,List.getElem?_take_of_lt (by omega)] at hz
     exact hz
structure ZV (h:aw) (av:AV) (p o n:Nat) (C:List AV) (f:TypeId):Prop where
 is:∃c b,av= .slice p o n c b∧n≤c
 get:h.get p=some (.cells C f false)
 fits:o+n≤C.length
theorem ZV.len {h:aw} {av:AV} {p o n:Nat} {C:List AV} {f e:TypeId} (w:ZV h av p o n C f):cc (some (.slice e)) (some av)=some (.int .i64 (n:Nat)):=by
 obtain ⟨c,b,rfl,_⟩:=w.is
 rfl
theorem ZV.slice {h:aw} {av:AV} {p o n:Nat} {C:List AV} {f e t:TypeId} (w:ZV h av p o n C f) (hs:b7 E e=some 1) (ht:E.P.underlying t=some (.slice e)) {lo hi:Nat} (low high:Option AV) (hl:low=some (.int .i64 (lo:Nat))∨(low=none∧lo=0)) (hh:high=some (.int .i64 (hi:Nat))∨(high=none∧hi=n)) (h1:lo≤hi) (h2:hi≤n) (h3:lo<n):
 ∃r,dV E t av low high none=some r∧ZV h r p (o+lo) (hi - lo) C f:=by
 obtain ⟨c,b,rfl,hc⟩:=w.is
 have:=w.fits
 refine ⟨.slice p (o+lo) (hi - lo) (c - lo) b,?_,⟨⟨_,_,rfl,by omega⟩,w.get,by omega⟩⟩
 simp only[dV,ht,hs,hc,if_true,mE (len:=n) (cap:=c) low high hl hh h1 (by omega)]
 rw[if_neg (by omega)]
 simp
def Holds (k:IntKind) (C:List AV) (o:Nat) (l:List Nat):Prop:=∀(i z:Nat),l[i]? =some z→C[o+i]? =some (.int k (z:Int))
theorem Holds.behind {k:IntKind} {C:List AV} {o:Nat} {l ws:List Nat} (x:Holds k C o l) {i z:Nat} (hi:ws.length≤i) (hz:l[i]? =some z):(setFrom C o (vL k ws))[o+i]? =some (.int k (z:Int)):=by
 rw[jK,if_neg (by rw[oF];omega)]
 exact x i z hz
theorem ZV.load {h:aw} {av:AV} {p o n:Nat} {C:List AV} {f e:TypeId} {i:Nat} {v:AV} (w:ZV h av p o n C f) (ha:fY E e=some false) (hv:C[o+i]? =some v):aY E h e (.ptr p (o+i))=some v:=by
 simp only[aY,w.get,jq,ha,hv]
theorem ZV.vL {h:aw} {av:AV} {p o n:Nat} {C:List AV} {f e:TypeId} {k:IntKind} {l:List Nat} (w:ZV h av p o n C f) (hs:b7 E e=some 1) (ha:fY E e=some false) (hn:l.length=n) (hsm:n<2^60) (x:Holds k C o l) (hb:∀c b,av= .slice p o n c b→b=true→0<c):gu E h k e av l:=by
 obtain ⟨c,b,rfl,hc⟩:=w.is
 subst hn
 exact gu.of hs ha hsm hc (hb c b rfl) w.get x
theorem Holds.of {k:IntKind} {C:List AV} {o:Nat} {l:List Nat} (hf:o+l.length≤C.length):Holds k (setFrom C o (vL k l)) o l:=fun i z hz=>by
 have hi:=(List.getElem?_eq_some_iff.1 hz).1
 rw[jK,if_pos ⟨by omega,by rw[oF];omega,by omega⟩,Nat.add_sub_cancel_left,vM hz]
end Go.Ab
end
section
namespace Go.Ab
variable {E:Env} {M0:Fa.Nd}
theorem yM.unique {call:bm} {f:FuncId} {args:List AV} {h h1 h2:aw} {v1 v2:AV} (a:yM E call f args h v1 h1) (b:yM E call f args h v2 h2):v1=v2∧h1=h2:=by
 obtain ⟨n,a⟩:=a
 obtain ⟨m,b⟩:=b
 have:=(a (n+m) (by omega)).symm.trans (b (n+m) (by omega))
 simpa using this
def AV.within (nx:Nat):Nat→AV→Bool
 | 0,_=>false
 | n+1,x=>match x with
   | .bool _ | .int .. | .str _ | .ic | .aD | .eY | .nilFunc | .nilIface | .fm=>true
   | .ptr i _=>decide (i<nx)
   | .slice i _ _ _ _=>decide (i<nx)
   | .map i=>decide (i<nx)
   | .iface _ v=>AV.within nx n v
   | .agg cs=>cs.all (AV.within nx n)
   | .tuple cs=>cs.all (AV.within nx n)
   | _=>false
theorem VR.within {φ φ':Ph} {nx:Nat} (ho:∀i,i<nx→φ' i=φ i):∀(n:Nat) {x:AV} (_:AV.within nx n x=true) {y:Value},VR φ' x y→VR φ x y
 | 0,_,h,_,_=>by cases h
 | n+1,x,h,y,hv=>by
   have ih:= @VR.within φ φ' nx ho n
   cases hv with
   | bool b=>exact .bool b
   | int k m=>exact .int k m
   | str s=>exact .str s
   | ic=>exact .ic
   | aD=>exact .aD
   | eY=>exact .eY
   | nilFunc=>exact .nilFunc
   | nilIface=>exact .nilIface
   | fm a c=>exact .fm a c
   | ptr o hl=>rw[ho _ (of_decide_eq_true h)] at hl;exact .ptr o hl
   | slice o len cap op hl=>rw[ho _ (of_decide_eq_true h)] at hl;exact .slice o len cap op hl
   | map hl=>rw[ho _ (of_decide_eq_true h)] at hl;exact .map hl
   | iface t v v' h'=>exact .iface t v v' (ih (by simpa [AV.within] using h) h')
   | agg cs j4 hl hc=>
     refine .agg cs j4 hl fun i x y a b=>ih ?_ (hc i x y a b)
     simp only[AV.within,List.all_eq_true] at h
     exact h x (List.mem_of_getElem? a)
   | tuple cs j4 hl hc=>
     refine .tuple cs j4 hl fun i x y a b=>ih ?_ (hc i x y a b)
     simp only[AV.within,List.all_eq_true] at h
     exact h x (List.mem_of_getElem? a)
   | _=>cases h
theorem mV.R1 {f:FuncId} {args:List AV} {h h':aw} {v:AV} (r:mV E f args h v h') (hs:Has h h') (hv:AV.within h.nx 20 v=true):mV E f args h v h:=fun φ w vs ok hl=>by
 obtain ⟨h1,h2⟩:=r φ w vs ok hl
 refine ⟨h1,fun cs=>?_⟩
 obtain ⟨φ',w',v',fr,x1,x2,x3,x4⟩:=h2 cs
 exact ⟨φ,w',v',fr,x1.within x3.old 20 hv,ok.forget x3.ext x2 hs,x3.forget,x4⟩
open Classical in
noncomputable def lK (E:Env) (M0:Fa.Nd):Nat→bm
 | 0=>Fs M0
 | d+1=>fun F args h=>match F with
   | .CJ _=> .fail "" none
   | .fn f=>match M0 f args h with
     | some p=> .ret p.1 p.2
     | none=>
       if hx:∃v,∃h',yM E (lK E M0 d) f args h v h'∧Has h h'∧AV.within h.nx 20 v=true then .ret hx.choose h
       else if hy:∃p:AV×aw,yM E (lK E M0 d) f args h p.1 p.2 then .ret hy.choose.1 hy.choose.2 else .fail "" none
theorem FC (hE:l6 E) (hM:Fa.Kt E M0):∀d,ju E (lK E M0 d)
 | 0=>TQ hM
 | d+1=>by
   have ih:=FC hE hM d
   have key:∀{f:FuncId} {args:List AV} {h:aw} {o:ko},lK E M0 (d+1) (.fn f) args h=o→(∃v h',o= .ret v h'∧mV E f args h v h')∨o= .fail "" none:=by
    intro f args h o e
    simp only[lK] at e
    split at e
    · rename_i p hp
      exact .inl ⟨_,_,e.symm,hM _ _ _ _ _ hp⟩
    · split at e
      · rename_i hx
        obtain ⟨h',⟨n,h1⟩,h2,h3⟩:=hx.choose_spec
        exact .inl ⟨_,_,e.symm,mV.R1 ((qQ hE n ih).1 _ _ _ _ _ (h1 n (Nat.le_refl n))) h2 h3⟩
      · split at e
        · rename_i hy
          obtain ⟨n,h1⟩:=hy.choose_spec
          exact .inl ⟨_,_,e.symm,(qQ hE n ih).1 _ _ _ _ _ (h1 n (Nat.le_refl n))⟩
        · exact .inr e.symm
   refine ⟨fun F args h v h' e=>?_,fun F args h v h' e=>?_⟩
   · cases F with
     | CJ l=>cases e
     | fn f=>
       rcases key e with ⟨w,k,h1,h2⟩ | h1
       · cases h1;exact h2.any
       · cases h1
   · cases F with
     | CJ l=>cases e
     | fn f=>
       rcases key e with ⟨w,k,h1,h2⟩ | h1
       · cases h1
       · cases h1
theorem aE {d:Nat} {f:FuncId} {args:List AV} {h h':aw} {v:AV} (hm:M0 f args h=none) (hd:yM E (lK E M0 d) f args h v h') (hh:Has h h') (hv:AV.within h.nx 20 v=true):lK E M0 (d+1) (.fn f) args h= .ret v h:=by
 simp only[lK,hm]
 have hx:∃v,∃h',yM E (lK E M0 d) f args h v h'∧Has h h'∧AV.within h.nx 20 v=true:=⟨v,h',hd,hh,hv⟩
 rw[dif_pos hx]
 obtain ⟨k,h1,_,_⟩:=hx.choose_spec
 rw[(h1.unique hd).1]
theorem IX {d:Nat} {f:FuncId} {args:List AV} {h h':aw} {v:AV} (hm:M0 f args h=none) (hd:yM E (lK E M0 d) f args h v h') (hv:¬(Has h h'∧AV.within h.nx 20 v=true)):lK E M0 (d+1) (.fn f) args h= .ret v h':=by
 simp only[lK,hm]
 have hx:¬∃v,∃h',yM E (lK E M0 d) f args h v h'∧Has h h'∧AV.within h.nx 20 v=true:=by
  rintro ⟨w,k,h1,h2,h3⟩
  obtain ⟨rfl,rfl⟩:=h1.unique hd
  exact hv ⟨h2,h3⟩
 have hy:∃p:AV×aw,yM E (lK E M0 d) f args h p.1 p.2:=⟨(v,h'),hd⟩
 rw[dif_neg hx,dif_pos hy]
 obtain ⟨h1,h2⟩:=hy.choose_spec.unique hd
 rw[h1,h2]
theorem Nn (hE:l6 E) (hM:Fa.Kt E M0) {d:Nat} {f:FuncId} {args:List AV} {h h':aw} {v:AV} (e:lK E M0 d (.fn f) args h= .ret v h'):mV E f args h v h':=by
 cases d with
 | zero=>
   simp only[lK,Fs] at e
   split at e
   · rename_i p hp
     cases e
     exact hM _ _ _ _ _ hp
   · cases e
 | succ d=>
   simp only[lK] at e
   split at e
   · rename_i p hp
     cases e
     exact hM _ _ _ _ _ hp
   · split at e
     · rename_i hx
       cases e
       obtain ⟨h',⟨n,h1⟩,h2,h3⟩:=hx.choose_spec
       exact mV.R1 ((qQ hE n (FC hE hM d)).1 _ _ _ _ _ (h1 n (Nat.le_refl n))) h2 h3
     · split at e
       · rename_i hy
         cases e
         obtain ⟨n,h1⟩:=hy.choose_spec
         exact (qQ hE n (FC hE hM d)).1 _ _ _ _ _ (h1 n (Nat.le_refl n))
       · cases e
end Go.Ab
end
section
namespace Go.Ab
variable {E:Env}
end Go.Ab
end
section
namespace Go.Ab
variable {E:Env} {M0:Fa.Nd}
structure bp (h h':aw):Prop where
 y:Tidy h'
 a:Has h h'
 n:h.nx≤h'.nx
theorem bp.refl {h:aw} (y:Tidy h):bp h h:=⟨y,Has.refl h,Nat.le_refl _⟩
theorem bp.trans {a b c:aw} (x:bp a b) (y:bp b c):bp a c:=⟨y.y,x.a.trans y.a,Nat.le_trans x.n y.n⟩
theorem eu {d:Nat} {f:FuncId} {args:List AV} {h h':aw} {v:AV} {P:aw→Prop} (hm:M0 f args h=none) (hd:yM E (lK E M0 d) f args h v h') (y:Tidy h) (g:bp h h') (p1:P h') (p2:AV.within h.nx 20 v=true→P h):
 ∃hk,lK E M0 (d+1) (.fn f) args h= .ret v hk∧bp h hk∧P hk:=by
 by_cases hv:AV.within h.nx 20 v=true
 · exact ⟨h,aE hm hd g.a hv,bp.refl y,p2 hv⟩
 · exact ⟨h',IX hm hd fun c=>hv c.2,g,p1⟩
theorem PO {d:Nat} {f:FuncId} {args:List AV} {h h':aw} {v:AV} (hm:M0 f args h=none) (hd:yM E (lK E M0 d) f args h v h'):
 ∃hk,lK E M0 (d+1) (.fn f) args h= .ret v hk∧(hk=h'∨(hk=h∧Has h h')):=by
 by_cases hv:Has h h'∧AV.within h.nx 20 v=true
 · exact ⟨h,aE hm hd hv.1 hv.2,.inr ⟨rfl,hv.1⟩⟩
 · exact ⟨h',IX hm hd hv,.inl rfl⟩
theorem kE {h:aw} {p:Nat} {x o:aH} (y:Tidy h) (g:h.get p=some x):KA h (h.put p (some o)) p o:=
 ⟨fun i z hz=>by
  by_cases e:i=p
  · subst e;exact y _ _ g
  · rw[aw.cj (Ne.symm e)] at hz;exact y _ _ hz,
  aw.dG _,fun i z hi hz=>by rw[aw.cj (Ne.symm hi)];exact hz⟩
def Kept (p:Nat) (h h':aw):Prop:=∀i x,i≠p→h.get i=some x→h'.get i=some x
theorem Has.kept {p:Nat} {h h':aw} (a:Has h h'):Kept p h h':=fun i x _ g=>a i x g
theorem Kept.store {h h':aw} {t e:TypeId} {i o:Nat} {cs:List AV} {v:AV} (y:Tidy h) (s:dW E h t (.ptr i o) v=some h') (g:h.get i=some (.cells cs e false)):Kept i h h':=fun _ _ hj gj=>Fz y s g hj gj
theorem gu.kept {h h':aw} {k:IntKind} {e:TypeId} {av:AV} {l:List Nat} {p:Nat} (x:gu E h k e av l) (c:Kept p h h') (ho:Off p av):gu E h' k e av l:=by
 refine ⟨⟨x.at_.size,x.at_.cells,x.at_.small,x.at_.lens,x.at_.block.imp id fun ⟨p',o',m,c',b,C,f,ro,h1,h0,h2,h3⟩=>⟨p',o',m,c',b,C,f,ro,h1,h0,c p' _ (fun e=>?_) h2,h3⟩⟩,x.agg,x.known⟩
 subst e
 exact ho _ _ _ _ h1
theorem Da (k:IntKind) (l:List Nat):(vL k l).all AV.scalar=true:=by
 simp [vL,AV.scalar]
theorem gu.qF {h:aw} {k:IntKind} {e:TypeId} {av:AV} {l:List Nat} (x:gu E h k e av l):qF av=some l.length:=by
 rcases x.known with rfl | ⟨p,o,n,c,b,rfl,_⟩
 · have:=x.len
   rw[Aj] at this
   simp only[Option.some.injEq,AV.int.injEq,true_and] at this
   rw[show l.length=0 by omega];rfl
 · rw[x.inv.1];rfl
theorem gu.first {h:aw} {k:IntKind} {e:TypeId} {av:AV} {l:List Nat} (x:gu E h k e av l):fF h 1 l.length av=some (vL k l):=by
 by_cases hl:l=[]
 · subst hl
   rcases x.known with rfl | ⟨p,o,n,c,b,rfl,_⟩<;>simp [fF,vL]
 rcases x.known with rfl | ⟨p,o,n,c,b,rfl,_⟩
 · have:=x.len
   rw[Aj] at this
   simp only[Option.some.injEq,AV.int.injEq,true_and] at this
   exact absurd (List.length_eq_zero_iff.1 (show l.length=0 by omega)) hl
 · obtain ⟨rfl,h2⟩:=x.inv
   obtain ⟨_,C,f,ro,g,hv⟩:=h2 hl
   have hC:o+l.length≤C.length:=by
    have hp:0<l.length:=List.length_pos_iff.2 hl
    have:=hv (l.length - 1) _ (List.getElem?_eq_getElem (show l.length - 1<l.length by omega))
    have:=(List.getElem?_eq_some_iff.1 this).1
    omega
   have h0:¬l.length=0:=fun e=>hl (List.length_eq_zero_iff.1 e)
   simp only[fF,Nat.le_refl,if_true,h0,if_false,g,Nat.mul_one,hC]
   refine congrArg some (List.ext_getElem? fun i=>?_)
   by_cases hi:i<l.length
   · rw[List.getElem?_take_of_lt hi,List.getElem?_drop,hv i _ (List.getElem?_eq_getElem hi),vM (List.getElem?_eq_getElem hi)]
   · rw[List.getElem?_eq_none (by simp;omega),List.getElem?_eq_none (by rw[oF];omega)]
theorem RV {h:aw} {k:IntKind} {e t:TypeId} {tys:Array TypeId} {d s:AV} {l:List Nat} {p o n:Nat} {C:List AV} {f:TypeId} (h0:tys[0]? =some t) (ht:E.P.underlying t=some (.slice e)) (hs:b7 E e=some 1) (w:ZV h d p o n C f) (x:gu E h k e s l) (hn:l.length≤n):
 uv E h tys d s=some (.int .i64 (l.length:Nat),h.put p (some (.cells (setFrom C o (vL k l)) f false))):=by
 obtain ⟨c,b,rfl,hc⟩:=w.is
 have hf:=w.fits
 have EL:fF h 1 (min l.length n) s=some (vL k l):=by
  rw[Nat.min_eq_left hn];exact x.first
 simp only[uv,h0,ht,x.qF,hs,EL,w.get]
 rw[if_pos ⟨by rw[oF];omega,Da k l⟩,Nat.min_eq_left hn]
theorem mF {e:TypeId} {s bytes n:Nat} {z:AV} (hs:b7 E e=some s) (hb:jT E e=some bytes) (hz:g5 E e=some z) (hl:z.cells.length=s) (h8:bytes≤1024) (hn:n<2^30):
 vI E (some (.slice e)) (some (.int .i64 (n:Nat))) (some (.int .i64 (n:Nat)))=some (.cells (bP z.cells n) e false,fun i=> .slice i 0 n n false):=by
 have h1:(bytes:Int)*(n:Int)≤1024*2^30:=by
  have:bytes*n≤1024*2^30:=Nat.mul_le_mul h8 (Nat.le_of_lt hn)
  omega
 simp only[vI,hs,hb,hz,hl]
 rw[if_pos ⟨by omega,by omega,by omega,by omega,trivial⟩]
 rfl
theorem jw {e:TypeId} {p n c i:Nat} {op:Bool} {z:Int} (hs:b7 E e=some 1) (hi:i<n) (hz:z=(i:Nat)):bR E (some (.slice e)) (some (.slice p 0 n c op)) (some (.int .i64 z))=some (.ptr p i):=by
 subst hz
 have:=nP (E:=E) (e:=e) (i:=p) (o:=0) (len:=n) (c:=c) (z:=i) (b:=op) hs hi
 rw[Nat.zero_add,Nat.mul_one] at this
 exact this
theorem append_nil {h:aw} {k:IntKind} {e s xt:TypeId} {tys:Array TypeId} {bytes:Nat} {z x:AV} {m:List Nat} (h0:tys[0]? =some s) (h1:tys[1]? =some xt) (hs:E.P.underlying s=some (.slice e)) (hx:E.P.underlying xt=some (.slice e)) (R2:b7 E e=some 1) (hb:jT E e=some bytes) (DH:g5 E e=some z) (hz:z.cells.length=1) (h8:bytes≤15) (x1:gu E h k e x m) (hm:m≠ []) (hl:m.length≤1073741824):
 ∃h',di E h tys .aD x=some (.slice h.nx 0 m.length m.length true,h')∧h.new (.cells (vL k m) e false)=some h':=by
 obtain ⟨h',n⟩:=yO (h:=h) (.cells (vL k m) e false)
 refine ⟨h',?_,n⟩
 have hn:¬m.length=0:=fun e=>hm (List.length_eq_zero_iff.1 e)
 have JT:(4*m.length+4096)*(bytes+1)≤1099511627776:=Nat.le_trans (Nat.mul_le_mul (show 4*m.length+4096≤68719476736 by omega) (show bytes+1≤16 by omega)) (by decide)
 simp only[di,h0,h1,hs,hx,oZ,R2,hb,x1.qF,x1.first,DH,hz,Da,oF,Nat.mul_one,hn,JT,n,if_true,if_false,and_self,Bool.false_eq_true]
theorem qR {C:List AV} {o i:Nat} {k:IntKind} {l:List Nat} (hf:o+l.length≤C.length) (hi:i<l.length):(setFrom C o (vL k l))[o+i]? =some (.int k ((l.getD i 0:Nat):Int)):=Holds.of hf i _ (abh hi)
end Go.Ab
end
section
namespace Go.Ab
variable {E:Env}
structure Pk (al:List pC) (p0 ps:List Prop):Prop where
 ok:nD p0→nD ps
section
variable {al:List pC} {p0 ps:List Prop}
theorem ZZ {p:List Prop}:Pk [] p p:=⟨id⟩
theorem AA (a:pC) (k:Pk al p0 ps):Pk (a::al) p0 ps:=⟨k.ok⟩
theorem CC (k:Pk al p0 ps):Pk (.c::al) p0 ps:=⟨k.ok⟩
def cs:Nat→List pC→List pC
 | 0,l=>l
 | n+1,l=> .c::cs n l
theorem CN (n:Nat) (k:Pk al p0 ps):Pk (cs n al) p0 ps:=⟨k.ok⟩
theorem HH {P:Prop} (h:P) (k:Pk al (P::p0) ps):Pk al p0 ps:=⟨fun c=>k.ok ⟨h,c⟩⟩
theorem VV {l:Option AV} {x:AV} (h:l=some x) (k:Pk al ((l=some x)::p0) ps):Pk (.v x::al) p0 ps:=⟨fun c=>k.ok ⟨h,c⟩⟩
theorem QQ {l:Option AV} {x:AV} (h:l=some x) (k:Pk al ((l=some x)::p0) ps):Pk (.q x::al) p0 ps:=⟨fun c=>k.ok ⟨h,c⟩⟩
theorem MM {l:Option AV} {x:AV} (h:l=some x) (k:Pk al ((l=some x)::p0) ps):Pk (.m x::al) p0 ps:=⟨fun c=>k.ok ⟨h,c⟩⟩
theorem TT (k:Pk al ((true=true)::p0) ps):Pk (.b true::al) p0 ps:=⟨fun c=>k.ok ⟨rfl,c⟩⟩
theorem FF (k:Pk al ((false=false)::p0) ps):Pk (.b false::al) p0 ps:=⟨fun c=>k.ok ⟨rfl,c⟩⟩
theorem BB {u v:Bool} (h:u=v) (k:Pk al ((u=v)::p0) ps):Pk (.b v::al) p0 ps:=⟨fun c=>k.ok ⟨h,c⟩⟩
theorem EE {call:bm} {f:Fn} {args:List AV} {h h':aw} {x:AV} (e:call f args h= .ret x h') (k:Pk al ((call f args h= .ret x h')::p0) ps):Pk (.e x h'::al) p0 ps:=⟨fun c=>k.ok ⟨e,c⟩⟩
theorem SS {h h':aw} {t:TypeId} {a v:AV} (s:dW E h t a v=some h') (k:Pk al ((AV.undef=AV.undef∧dW E h t a v=some h')::p0) ps):Pk (.e AV.undef h'::al) p0 ps:=⟨fun c=>k.ok ⟨⟨rfl,s⟩,c⟩⟩
theorem PP {l:Option (AV×aw)} {x:AV} {h':aw} (e:l=some (x,h')) (k:Pk al ((l=some (x,h'))::p0) ps):Pk (.e x h'::al) p0 ps:=⟨fun c=>k.ok ⟨e,c⟩⟩
theorem NN {h h':aw} {obj:aH} (n:h.new obj=some h') (f:Nat→AV) (k:Pk al ((∃mk:Nat→AV,some (obj,f)=some (obj,mk)∧mk h.nx=f h.nx)::(h.new obj=some h')::p0) ps):Pk (.a obj (f h.nx) h'::al) p0 ps:=⟨fun c=>k.ok ⟨⟨f,rfl,rfl⟩,n,c⟩⟩
theorem KK {h h':aw} {obj:aH} {l:Option (aH×(Nat→AV))} {f:Nat→AV} (e:l=some (obj,f)) (n:h.new obj=some h') (k:Pk al ((∃mk:Nat→AV,l=some (obj,mk)∧mk h.nx=f h.nx)::(h.new obj=some h')::p0) ps):Pk (.a obj (f h.nx) h'::al) p0 ps:=⟨fun c=>k.ok ⟨⟨f,e,rfl⟩,n,c⟩⟩
theorem LL {call:bm} {b:Code} {s s':St} {e:lY} (ev:Ev E call b s e s') (k:Pk al ((Ev E call b s e s')::p0) ps):Pk (.l e s'::al) p0 ps:=⟨fun c=>k.ok ⟨ev,c⟩⟩
end
@[irreducible] def R3:R→List AV
  | .at _ s _ _=>s.ts
  | .bad=> []
theorem ahv {call:bm} {c:Code} {ts:List AV} {h h':aw} {ds:List sX} {rc:RC} {n:Nat} {e:lY} {al:List pC} {ps:List Prop} (k:Pk al [] ps) (hr:run E call n c ⟨ts,h,ds,rc⟩ al []= .at e ⟨R3 (run E call n c ⟨ts,h,ds,rc⟩ al []),h',ds,rc⟩ [] ps):Ev E call c ⟨ts,h,ds,rc⟩ e ⟨R3 (run E call n c ⟨ts,h,ds,rc⟩ al []),h',ds,rc⟩:=PM hr (k.ok trivial)
def rx (x:Nat→AV):Nat→Nat→List AV→List AV
 | _,0,l=>l
 | i,n+1,l=>x i::rx x (i+1) n l
def lk:Nat→List AV
 | 0=> []
 | n+1=>AV.undef::lk n
end Go.Ab
end
