import Derived.ChangeShapes
import Derived.ChangeStays
import Derived.ChangeBook
import Derived.ChangeOld
import Derived.ChangeAgain
import Derived.ChangeCalls
import Derived.Shelf.Strings.OnBuilder
import Derived.Test.YtfllahfbmaafcaaA6
set_option linter.unusedVariables false
set_option linter.unusedSimpArgs false
section
namespace Go.Ab
variable {E:Env} {call:bw} {n:Nat} {s:St}
def opK {α β:Type} (o:Option α) (f:α→β) (d:β):β:=match o with
 | some a=>f a
 | none=>d
noncomputable def Lr (E:Env) (call:bw) (n:Nat) (o:Out) (b:Code):Out:=match o with
 | .ok .normal s=>exec E call n b s
 | r=>r
theorem zX (s:St) (b:Code):Lr E call n (.ok .normal s) b=exec E call n b s:=rfl
def SA (id:Nat) (o:Out):Out:=match o with
 | .ok (.exit QB) s'=>if QB=id then .ok .normal s' else .ok (.exit QB) s'
 | r=>r
theorem zY (i j:Nat) (s:St):SA i (.ok (.exit j) s)=if j=i then .ok .normal s else .ok (.exit j) s:=rfl
noncomputable def SB (E:Env) (call:bw) (n:Nat) (o:Option AV) (a b:Code) (s:St):Out:=match o with
 | some (.bool true)=>exec E call n a s
 | some (.bool false)=>exec E call n b s
 | _=> .fail "cond" none
theorem LA (a b:Code):SB E call n (some (.bool true)) a b s=exec E call n a s:=rfl
theorem Ji (a b:Code):SB E call n (some (.bool false)) a b s=exec E call n b s:=rfl
theorem Zr (a b:Code):exec E call (n+1) (.seq a b) s=Lr E call n (exec E call n a s) b:=rfl
theorem SC (x:Operand) (a b:Code):exec E call (n+1) (.cond x a b) s=SB E call n (eh E s.ts x) a b s:=rfl
theorem Bi (id:Nat) (b:Code):exec E call (n+1) (.block id b) s=SA id (exec E call n b s):=rfl
theorem SD (b:Code):exec E call (n+1) (.loop b) s=Lr E call n (exec E call n b s) (.loop b):=rfl
theorem SE (i:Nat) (ops:Array Oper):exec E call (n+1) (.region i ops false) s=jZ E call ops ops.toList s:=rfl
theorem Xt (i:Nat) (ops:Array Oper):exec E call (n+1) (.region i ops true) s=wh E call ops s:=rfl
noncomputable def adQ (E:Env) (call:bw) (ops:Array Oper) (o:Oper) (rest:List Oper) (s:St):Out:=match dc E call s.ts s.h s.rc o with
 | .val v h'=>jZ E call ops rest {s with ts:=dH s.ts o.dst v,h:=h'}
 | .defer d=>jZ E call ops rest {s with ts:=dH s.ts o.dst AV.undef,ds:=d::s.ds}
 | .rG v=>jZ E call ops rest {s with ts:=dH s.ts o.dst v,rc:= .done}
 | .panic v h'=> .ok (.panic v) {s with h:=h'}
 | .fail why q=> .fail why q
noncomputable def adR (E:Env) (call:bw) (ops:Array Oper) (o:Oper) (rest:List Oper) (s:St):Out:=
 opK (ei E s.ts o.op) (fun p=>opK (s.h.new p.1) (fun h'=>jZ E call ops rest {s with ts:=dH s.ts o.dst (p.2 s.h.nx),h:=h'}) (.fail "full" (some o))) (adQ E call ops o rest s)
noncomputable def adS (E:Env) (call:bw) (ops:Array Oper) (o:Oper) (rest:List Oper) (s:St):Out:=
 opK (dP E s.ts s.h o.op) (fun v=>jZ E call ops rest {s with ts:=dH s.ts o.dst v}) (adR E call ops o rest s)
noncomputable def adT (E:Env) (call:bw) (ops:Array Oper) (v:Option AV) (o:Oper) (rest:List Oper) (s:St):Out:=opK v (fun v=>jZ E call ops rest {s with ts:=dH s.ts o.dst v}) (adS E call ops o rest s)
section
variable {ops:Array Oper} {rest:List Oper} {d:Option Tmp} {op:Op} {ty:TypeId} {pos:String} {aft:Array Edge} {g:Option (Nat×Bool)}
noncomputable def Ls (E:Env) (call:bw) (ops:Array Oper) (w:Bool) (o:Oper) (rest:List Oper) (s:St):Out:=
 if w=true then adT E call ops (bH E s.ts o.op) o rest s else jZ E call ops rest {s with ts:=dH s.ts o.dst AV.undef}
end
theorem qc (m:Nat) (a:List UInt8):AV.same (m+1) (.str a) (.str a)=true:=by simp [AV.same]
theorem aU (m:Nat) (k:IntKind) (a:Int):AV.same (m+1) (.int k a) (.int k a)=true:=by simp [AV.same]
theorem B' (m i o l c:Nat) (b:Bool):AV.same (m+1) (.slice i o l c b) (.slice i o l c b)=true:=by simp [AV.same]
open Classical in
section
variable {ops:Array Oper} {rest:List Nat} {d:Option Tmp} {op:Op} {ty:TypeId} {pos:String} {aft:Array Edge} {g:Option (Nat×Bool)}
noncomputable def Nw (E:Env) (call:bw) (ops:Array Oper) (r:Option St) (s:St):Out:=opK r (fun s'=> .ok .normal s') (wh E call ops s)
end
theorem wrap_i64 {n:Int} (h0: -9223372036854775808≤n) (h1:n<9223372036854775808):IntKind.i64.wrap n=n:=by
 show (if (true&&decide (n%2^64≥2^63))=true then n%2^64 - 2^64 else n%2^64)=n
 by_cases hn:n%2^64≥2^63
 · rw[if_pos (by rw[Bool.true_and];exact decide_eq_true hn)];omega
 · rw[if_neg (by rw[Bool.true_and];exact fun e=>hn (of_decide_eq_true e))];omega
noncomputable def I2 (E:Env) (fn:Func) (h:au) (ts:List AV):jd:=match jM E h ts fn.results.toList with
 | some vs=> .ret (fY vs) h
 | none=> .fail "results" none
theorem Pf {fuel:Nat} {f:FuncId} {fn:Func} {c:Code} (hf:E.P.funcs[f]? =some fn) (hb:fn.body=some c) {args:List AV} {h h':au} {ts:List AV} {x:hZ} (hx:x= .normal∨x= .ret)
 (e:exec E call fuel c ⟨args++List.replicate (fn.ntmps - args.length) AV.undef,h,[],.no⟩= .ok x ⟨ts,h',[],.no⟩) {vs:List AV} (hr:jM E h' ts fn.results.toList=some vs):w6 E call fuel f args h= .ret (fY vs) h':=by
 unfold w6
 simp only[hf,hb,mD,e]
 rcases hx with rfl | rfl<;>simp only[qY,cJ,hr]
def Ca (M:Fa.GH):bw:=fun F args h=>match F with
 | .fn f=>match M f args h with
   | some p=> .ret p.1 p.2
   | none=> .fail "" none
 | .vk _=> .fail "" none
theorem Pg {M:Fa.GH} (hM:Fa.GI E M):ic E (Ca M):=by
 refine ⟨fun F args h v h' e=>?_,fun F args h v h' e=>?_⟩
 · cases F with
   | vk l=>cases e
   | fn f=>
     simp only[Ca] at e
     cases hm:M f args h with
     | none=>rw[hm] at e;cases e
     | some p=>
       rw[hm] at e
       simp only[jd.ret.injEq] at e
       obtain ⟨rfl,rfl⟩:=e
       exact (hM _ _ _ _ _ hm).any
 · cases F with
   | vk l=>cases e
   | fn f=>
     simp only[Ca] at e
     cases hm:M f args h with
     | none=>rw[hm] at e;cases e
     | some p=>rw[hm] at e;cases e
def ahc (E:Env) (x:Option (TypeId×Nat)) (v:Option AV):Option AV:=match x,v with
 | some (t,o),some (.ptr i off)=>match b7 E t with
   | some n=>if n=0 then none else some (.ptr i (off+o))
   | none=>none
 | _,_=>none
def cF (E:Env) (op:BinOp) (t:TypeId) (xc yc:Bool) (a b:Option AV):Option AV:=match a,b with
 | some a,some b=>jI E op t xc yc a b
 | _,_=>none
theorem Xu {ts:List AV} (op:BinOp) (t t':TypeId) (x y:Operand):bH E ts (.binOp op t x y t')=cF E op t (isConst x) (isConst y) (eh E ts x) (eh E ts y):=by
 simp only[bH,cF]
 cases eh E ts x<;>cases eh E ts y<;>rfl
theorem NK (t:TypeId) (c d:Bool) (k:IntKind) (a b:Int):cF E .add t c d (some (.int k a)) (some (.int k b))=some (.int k (k.wrap (a+b))):=by simp [cF,jI,cP]
theorem Xv (t:TypeId) (c d:Bool) (k:IntKind) (a b:Int):cF E .sub t c d (some (.int k a)) (some (.int k b))=some (.int k (k.wrap (a - b))):=by simp [cF,jI,cP]
theorem Xw (t:TypeId) (c d:Bool) (k:IntKind) (a b:Int):cF E .mul t c d (some (.int k a)) (some (.int k b))=some (.int k (k.wrap (a*b))):=by simp [cF,jI,cP]
theorem Xx (t:TypeId) (c d:Bool) (k:IntKind) (a b:Int):cF E .eql t c d (some (.int k a)) (some (.int k b))=some (.bool (decide (a=b))):=by simp [cF,jI,cP];rfl
theorem Xy (t:TypeId) (c d:Bool) (k:IntKind) (a b:Int):cF E .neq t c d (some (.int k a)) (some (.int k b))=some (.bool (!decide (a=b))):=by simp [cF,jI,cP];rfl
theorem Xz (t:TypeId) (c d:Bool) (k:IntKind) (a b:Int):cF E .lss t c d (some (.int k a)) (some (.int k b))=some (.bool (decide (a<b))):=by simp [cF,jI,cP]
theorem XA (t:TypeId) (c d:Bool) (k:IntKind) (a b:Int):cF E .leq t c d (some (.int k a)) (some (.int k b))=some (.bool (decide (a≤b))):=by simp [cF,jI,cP]
theorem XB (t:TypeId) (c d:Bool) (k:IntKind) (a b:Int):cF E .gtr t c d (some (.int k a)) (some (.int k b))=some (.bool (decide (b<a))):=by simp [cF,jI,cP]
theorem XC (t:TypeId) (c d:Bool) (k:IntKind) (a b:Int):cF E .geq t c d (some (.int k a)) (some (.int k b))=some (.bool (decide (b≤a))):=by simp [cF,jI,cP]
theorem SF (t:TypeId) (c d:Bool) (a b:List UInt8):cF E .eql t c d (some (.str a)) (some (.str b))=some (.bool (decide (a=b))):=by
 simp only[cF,jI,vj,Option.some.injEq,AV.bool.injEq]
 exact Bool.eq_iff_iff.2 (by simp)
def unK (op:UnOp) (a:Option AV):Option AV:=match a with
 | some a=>unA op a
 | none=>none
def dr (E:Env) (d:Option TypeDesc) (v i:Option AV):Option AV:=match d,v,i with
 | some (.slice elem),some (.slice i o len _ _),some (.int _ n)=>match b7 E elem with
  | some size=>if 0≤n∧n<len then some (.ptr i (o+n.toNat*size)) else none
  | none=>none
 | some (.array len elem),some (.ptr i o),some (.int _ n)=>match b7 E elem with
  | some size=>if 0≤n∧n<len then some (.ptr i (o+n.toNat*size)) else none
  | none=>none
 | _,_,_=>none
theorem Jj {ts:List AV} (t:TypeId) (x i:Operand):bH E ts (.indexAddr t x i)=dr E (E.P.underlying t) (eh E ts x) (eh E ts i):=by
 simp only[bH,dr]
 split<;>simp_all<;>(split<;>simp_all)
theorem cx {e:TypeId} {i o len c z:Nat} {b:Bool} {size:Nat} (hs:b7 E e=some size) (hz:z<len):dr E (some (.slice e)) (some (.slice i o len c b)) (some (.int .i64 (z:Int)))=some (.ptr i (o+z*size)):=by
 simp only[dr,hs]
 rw[if_pos ⟨by omega,by omega⟩,Int.toNat_natCast]
def dJ (d:Option TypeDesc) (v:Option AV):Option AV:=match d,v with
 | some (.slice _),some .aQ=>some (.int .i64 0)
 | some (.slice _),some (.slice _ _ n _ _)=>some (.int .i64 n)
 | some (.slice _),some .dN=>some (.int .i64 0)
 | some .string,some (.str s)=>some (.int .i64 s.length)
 | some (.array n _),some _=>some (.int .i64 n)
 | some (.map _ _),some .dM=>some (.int .i64 0)
 | _,_=>none
theorem adU {ts:List AV} (x:Operand) (t:TypeId):bH E ts (.call ⟨.builtin .len, #[x], #[t]⟩)=dJ (E.P.underlying t) (eh E ts x):=by
 simp only[bH,fS,eE,List.getElem?_toArray,List.getElem?_cons_zero]
 generalize eh E ts x=o
 cases o with
 | none=>
   generalize E.P.underlying t=u
   cases u with
   | none=>rfl
   | some d=>cases d<;>rfl
 | some v=>
   simp only
   generalize E.P.underlying t=u
   cases u with
   | none=>rfl
   | some d=>cases d<;>cases v<;>rfl
theorem aaU {ts:List AV} {h:au} (t:TypeId) (x:Operand):dP E ts h (.load t x)=opK (eh E ts x) (bG E h t) none:=by
 simp only[dP];cases eh E ts x<;>rfl
theorem f' (e:TypeId) (i o n c:Nat) (b:Bool):dJ (some (.slice e)) (some (.slice i o n c b))=some (.int .i64 n):=rfl
theorem w_ (e:TypeId):dJ (some (.slice e)) (some .aQ)=some (.int .i64 0):=rfl
theorem aaV (e:TypeId):dJ (some (.slice e)) (some .dN)=some (.int .i64 0):=rfl
def Tidy (h:au):Prop:=∀i o,h.get i=some o→i<h.nx
def qZ (E:Env) (d:Option TypeDesc) (v i:Option AV):Option AV:=match d,v,i with
 | some (.array len elem),some (.agg cs),some (.int _ n)=>match b7 E elem with
  | some size=>if 0≤n∧n<len then hJ E elem cs (n.toNat*size) else none
  | none=>none
 | some .string,some (.str s),some (.int _ n)=>if 0≤n then (match s[n.toNat]? with | some b=>some (.int .u8 b.toNat) | none=>none) else none
 | _,_,_=>none
theorem XD {ts:List AV} (t:TypeId) (x i:Operand):bH E ts (.index t x i)=qZ E (E.P.underlying t) (eh E ts x) (eh E ts i):=by
 simp only[bH,qZ]
 split
 · simp_all
   split<;>simp_all
 · rename_i s k n _ _ _
   simp_all
   cases s[n.toNat]? <;>rfl
 · simp_all
theorem SG {s:List UInt8} {z:Nat} {b:UInt8} (h:s[z]? =some b):qZ E (some .string) (some (.str s)) (some (.int .i64 (z:Int)))=some (.int .u8 b.toNat):=by
 simp only[qZ]
 rw[if_pos (by omega),Int.toNat_natCast,h]
end Go.Ab
end
section
namespace Go.Ab
open Go.ChangeShapes Go.WideShapes Go.RowKit
variable {E:Env}
def xa (h:au):Prop:=∀i o,h.get i=some o→o.rw=false
theorem OK.show {φ:Ph} {h:au} {w:World} (ok:OK E φ h w) (Ro:xa h) {b off:Nat} {cs:List AV} {e:TypeId} (dR:cs≠ []) (hz:∀m,cs≠ [.map m])
 (hC:∀(k:Nat) (x:AV),cs[k]? =some x→∃y,w.cell? ⟨b,off+k,none⟩=some y∧VR φ x y):
 ∃h',h.new (.cells cs e true)=some h'∧OK E (φ.add h.nx ⟨b,off,0⟩) h' w∧φ.le (φ.add h.nx ⟨b,off,0⟩)∧xa h'∧h'.nx=h.nx+1∧h'.get h.nx=some (.cells cs e true)∧(∀j,j≠h.nx→h'.get j=h.get j)∧(φ.add h.nx ⟨b,off,0⟩) h.nx=some ⟨b,off,0⟩:=by
 obtain ⟨h',hn⟩:∃h',h.new (.cells cs e true)=some h':=by
  exact ⟨_,au.FM _ _⟩
 obtain ⟨ke,aaW,Bv,hold⟩:=au.lj hn
 have FP:φ h.nx=none:=by
  cases e:φ h.nx with
  | none=>rfl
  | some m=>exact absurd (ok.AO _ _ e) (Nat.lt_irrefl _)
 have hle:φ.le (φ.add h.nx ⟨b,off,0⟩):=fun i m hm=>by
  unfold Ph.add;split
  · rename_i e;subst e;rw[FP] at hm;simp at hm
  · exact hm
 have j5:∀j,j≠h.nx→(φ.add h.nx ⟨b,off,0⟩) j=φ j:=fun j hj=>by simp [Ph.add,hj]
 have gT:(φ.add h.nx ⟨b,off,0⟩) h.nx=some ⟨b,off,0⟩:=by simp [Ph.add]
 have fZ:∀j p,h'.get j=some p→(j=h.nx∧p= .cells cs e true)∨(j≠h.nx∧h.get j=some p):=fun j p hj=>by
  by_cases e:j=h.nx
  · subst e;rw[Bv] at hj;simp at hj;exact .inl ⟨rfl,hj.symm⟩
  · rw[hold j e] at hj;exact .inr ⟨e,hj⟩
 have hlen:0<cs.length:=List.length_pos_iff.2 dR
 obtain ⟨y0,hy0,_⟩:=hC 0 cs[0] (by simp [hlen])
 obtain ⟨C,e',lo,hi,hw⟩:∃C e' lo hi,w.heap[b]? =some (.cells C e' (lo,hi)):=by
  unfold World.cell? at hy0
  split at hy0
  · rename_i C e' fz hw;obtain ⟨lo,hi⟩:=fz;exact ⟨C,e',lo,hi,hw⟩
  · cases hy0
 have Ez:∀k,w.cell? ⟨b,off+k,none⟩=C[off+k]? :=fun k=>by simp [World.cell?,hw]
 refine ⟨h',hn,⟨fun i m hm=>?_,by rw[aaW];exact Nat.le_succ_of_le ok.nx,fun g hg=>hle _ _ (ok.vl g hg),fun j p m hj hm=>?_,fun j k p q m n hj hk hm rR hw hb=>?_⟩,hle,fun j p hj=>?_,aaW,Bv,hold,gT⟩
 · rw[aaW]
   by_cases e:i=h.nx
   · omega
   · rw[j5 i e] at hm;have:=ok.AO i m hm;omega
 · rcases fZ j p hj with ⟨rfl,rfl⟩ | ⟨FQ,nR⟩
   · rw[gT] at hm;simp at hm;subst hm
     refine ⟨C,e',lo,hi,hw,⟨?_,fun k x hk=>?_,(fun h=>by cases h),fun _ m hm=>absurd hm (hz m)⟩,fun h=>by cases h⟩
     · obtain ⟨y,hy,_⟩:=hC (cs.length - 1) cs[cs.length - 1] (List.getElem?_eq_getElem (by omega))
       rw[Ez] at hy
       have:=(Array.getElem?_eq_some_iff.1 hy).1
       simp only[ft,Nat.zero_mul]
       omega
     · obtain ⟨y,hy,hv⟩:=hC k x hk
       rw[Ez] at hy
       exact ⟨y,hy,hv.mono hle⟩
   · rw[j5 j FQ] at hm
     exact (ok.live j p m nR hm).mono hle
 · rcases fZ j p hj with ⟨rfl,rfl⟩ | ⟨ahd,nR⟩<;>rcases fZ k q hk with ⟨rfl,rfl⟩ | ⟨ahe,Ec⟩
   · rfl
   · rw[Ro k q Ec] at hw;rcases hw with h | h<;>cases h
   · rw[Ro j p nR] at hw;rcases hw with h | h<;>cases h
   · rw[j5 j ahd] at hm;rw[j5 k ahe] at rR;exact ok.inj _ _ _ _ _ _ nR Ec hm rR hw hb
 · rcases fZ j p hj with ⟨_,rfl⟩ | ⟨_,nR⟩
   · rfl
   · exact Ro j p nR
theorem xa.begin {G:Nat} {l:List Xs}:xa (lz G l):=fun i o h=>by
 obtain ⟨x,_,_,rfl⟩:=qX h;rfl
theorem GJ {f:FuncId} {avs:List AV} {h h':au} (r:kL E f avs h (.bool true) h') {φ:Ph} {w:World} {vs:List Value} (ok:OK E φ h w) (hl:LR φ avs vs) (Ro:xa h):
 Calls E.P f vs.toArray w fun en w'=>en= .returned (.bool true)∧w.keptBut w' (fun _=>False):=fun cs=>by
 obtain ⟨_,iP⟩:=r φ w vs ok hl
 obtain ⟨φ',w',v',fr,hv,_,nV,h1,h2,h3⟩:=iP cs
 cases hv
 refine ⟨.returned (.bool true),w',fr,⟨rfl,nV.os,nV.output,fun i hi=>?_⟩,h1,h2,h3⟩
 rw[nV.wo i hi (fun j o l' q1 q2 _=>by rw[Ro j o q1] at q2;cases q2)]
 cases w.heap[i]? with
 | none=>rfl
 | some o=>cases o with
   | cells c t fz=>exact ⟨rfl,rfl,rfl,fun _ _=>rfl⟩
   | map es c=>exact .inr ⟨rfl,rfl⟩
   | _=>rfl
section
variable {H:Type} {enc:TypeId×Value→H} {w:World} {base:Nat} {spare:Nat→Bool} {held:Bool} {fuel:Nat} {t:TypeId} {x:DataW H×List MemPlace}
end
section
variable {H:Type} {enc:TypeId×Value→H} {P:Program} {w w':World}
theorem Cb (hk:w.keptBut w' (fun _=>False)) {p:MemPlace} (hp:p.block<w.heap.size):w.sameAt w' p:=by
 have h:=hk.block hp (fun _ h=>h.elim)
 cases p with
 | cell b off=>simp only[World.sameAt,World.cell?];rw[show w'.heap[b]? =w.heap[b]? from h]
 | map b=>exact h
theorem EA (hl:laidOutB P=true) (hk:w.keptBut w' (fun _=>False)):∀{ts:List TypeId} {vs:List Value} {ds:List (DataW H)} {ps:List MemPlace},(∀t∈ts,P.readableRec t=true∧t<P.types.size)→
 DataW.TrodAll enc P w 0 (fun _=>true) true ts vs ds ps→DataW.TrodAll enc P w' 0 (fun b=>decide (b<w.heap.size)) true ts vs ds ps
 | [],vs,ds,ps,_,h=>by
   obtain ⟨rfl,rfl,rfl⟩:=trodAll_nil h
   exact trodAll_mk0
 | t::ts,vs,ds,ps,hr,h=>by
   have ke:=DataW.TrodAll.lt h
   obtain ⟨v,qJ,d,yD,p,p',rfl,rfl,rfl,⟨n,h1⟩,h2⟩:=trodAll_cons h
   obtain ⟨h3,h4⟩:=hr t (by simp)
   refine trodAll_cons_mk ⟨n,?_⟩ (EA hl hk (fun t ht=>hr t (by simp [ht])) h2)
   exact DataW.trod_stays (kids_book hl h3) (book_sized h3) (fun h=>by cases h) ⟨h4,book_self t⟩ h1 (fun q hq=>Cb hk (ke q (by simp [hq]))) (fun q hq=>by simpa using ke q (by simp [hq]))
end
end Go.Ab
end
section
namespace Go.Ab
variable {E:Env}
end Go.Ab
end
section
namespace Go.Ab
variable {E:Env} {call:bw}
def Ev (E:Env) (call:bw) (c:Code) (s:St) (e:hZ) (s':St):Prop:=∃n0,∀n,n0≤n→exec E call n c s= .ok e s'
theorem Ev.of {c:Code} {s:St} {e:hZ} {s':St} (h:∀n,exec E call (n+1) c s= .ok e s'):Ev E call c s e s':=⟨1,fun n hn=>by
 obtain ⟨k,rfl⟩:∃k,n=k+1:=⟨n - 1,by omega⟩
 exact h k⟩
theorem Ev.seq {a b:Code} {s s1 s':St} {e:hZ} (h1:Ev E call a s .normal s1) (h2:Ev E call b s1 e s'):Ev E call (.seq a b) s e s':=by
 obtain ⟨n1,h1⟩:=h1
 obtain ⟨n2,h2⟩:=h2
 refine ⟨n1+n2+1,fun n hn=>?_⟩
 obtain ⟨k,rfl⟩:∃k,n=k+1:=⟨n - 1,by omega⟩
 rw[Zr,h1 k (by omega),zX]
 exact h2 k (by omega)
theorem Ev.seq' {a b:Code} {s s':St} {e:hZ} (he:e≠ .normal) (h1:Ev E call a s e s'):Ev E call (.seq a b) s e s':=by
 obtain ⟨n1,h1⟩:=h1
 refine ⟨n1+1,fun n hn=>?_⟩
 obtain ⟨k,rfl⟩:∃k,n=k+1:=⟨n - 1,by omega⟩
 rw[Zr,h1 k (by omega)]
 cases e with
 | normal=>exact absurd rfl he
 | _=>rfl
theorem Ev.loop {b:Code} {s s1 s':St} {e:hZ} (h1:Ev E call b s .normal s1) (h2:Ev E call (.loop b) s1 e s'):Ev E call (.loop b) s e s':=by
 obtain ⟨n1,h1⟩:=h1
 obtain ⟨n2,h2⟩:=h2
 refine ⟨n1+n2+1,fun n hn=>?_⟩
 obtain ⟨k,rfl⟩:∃k,n=k+1:=⟨n - 1,by omega⟩
 rw[SD,h1 k (by omega),zX]
 exact h2 k (by omega)
theorem Ev.exit {b:Code} {s s':St} {e:hZ} (he:e≠ .normal) (h1:Ev E call b s e s'):Ev E call (.loop b) s e s':=by
 obtain ⟨n1,h1⟩:=h1
 refine ⟨n1+1,fun n hn=>?_⟩
 obtain ⟨k,rfl⟩:∃k,n=k+1:=⟨n - 1,by omega⟩
 rw[SD,h1 k (by omega)]
 cases e with
 | normal=>exact absurd rfl he
 | _=>rfl
theorem Ev.ret {b:Code} {s s':St} (h1:Ev E call b s .ret s'):Ev E call (.loop b) s .ret s':=Ev.exit (by simp) h1
theorem Ev.out {b:Code} {s s':St} {i:Nat} (h1:Ev E call b s (.exit i) s'):Ev E call (.loop b) s (.exit i) s':=Ev.exit (by simp) h1
inductive mI where
 | c
 | v (x:AV)
 | q (x:AV)
 | m (x:AV)
 | n (h:au)
 | a (obj:a_) (x:AV) (h:au)
 | e (x:AV) (h:au)
 | p (x:AV) (h:au)
 | b (x:Bool)
 | l (e:hZ) (s:St)
def lU:List Prop→Prop
 | []=>True
 | p::ps=>p∧lU ps
inductive R where
 | bad
 | at (e:hZ) (s:St) (as_:List mI) (ps:List Prop)
def R.go (k:St→List mI→List Prop→R):R→R
 | .at .normal s as_ ps=>k s as_ ps
 | r=>r
theorem R.adV {k:St→List mI→List Prop→R} {r:R} {e:hZ} {s:St} {as_:List mI} {ps:List Prop} (h:r.go k= .at e s as_ ps):(∃s1 rW qd,r= .at .normal s1 rW qd∧k s1 rW qd= .at e s as_ ps)∨(r= .at e s as_ ps∧e≠ .normal):=by
 unfold R.go at h
 split at h
 · exact .inl ⟨_,_,_,rfl,h⟩
 · rename_i dR
   refine .inr ⟨h,fun he=>?_⟩
   subst he;exact dR _ _ _ h
def adW (E:Env) (ts:List AV):List Operand→List TypeId→Option AV
 | [x],[t]=>dJ (E.P.underlying t) (eh E ts x)
 | _,_=>none
def zZ (c a b:Option AV):Option AV:=match c with
 | some (.bool true)=>a
 | some (.bool false)=>b
 | _=>none
theorem XE {ts:List AV} (c a b:Operand):bH E ts (.pick c a b)=zZ (eh E ts c) (eh E ts a) (eh E ts b):=by
 simp only[bH]
 generalize eh E ts c=x
 cases x with
 | none=>rfl
 | some v=>cases v with
   | bool b=>cases b<;>rfl
   | _=>rfl
theorem SH {c:Bool} {a b:Option AV} (h:c=true):zZ (some (.bool c)) a b=a:=by rw[h];rfl
theorem ba {c:Bool} {a b:Option AV} (h:c=false):zZ (some (.bool c)) a b=b:=by rw[h];rfl
def XF (E:Env) (ts:List AV) (op:Op):Option AV:=match op with
 | .indexAddr t x i=>dr E (E.P.underlying t) (eh E ts x) (eh E ts i)
 | .index t x i=>qZ E (E.P.underlying t) (eh E ts x) (eh E ts i)
 | .binOp op t x y _=>cF E op t (isConst x) (isConst y) (eh E ts x) (eh E ts y)
 | .pick c a b=>zZ (eh E ts c) (eh E ts a) (eh E ts b)
 | .call c=>match c.callee with
   | .builtin .len=>adW E ts c.args.toList c.argTypes.toList
   | _=>none
 | _=>none
theorem Cc {α:Type} {a:Array α} {l:List α} (h:a.toList=l):a=l.toArray:=by rw[←h]
theorem NL {ts:List AV} {op:Op} {v:AV} (e:XF E ts op=some v):bH E ts op=some v:=by
 unfold XF at e
 split at e
 · rw[←Jj] at e;exact e
 · rw[←XD] at e;exact e
 · rename_i o t x y t';exact (Xu o t t' x y).trans e
 · rename_i c a b;exact (XE c a b).trans e
 · rename_i c
   obtain ⟨cl,args,tys⟩:=c
   simp only at e
   split at e
   · unfold adW at e
     split at e
     · rename_i x t hx ht
       rw[Cc hx,Cc ht]
       exact (adU x t).trans e
     · cases e
   · cases e
 · cases e
noncomputable def SI (E:Env) (ts:List AV) (h:au) (op:Op):Option AV:=match op with
 | .load t x=>opK (eh E ts x) (bG E h t) none
 | op=>dP E ts h op
theorem GK {ts:List AV} {h:au} {op:Op} {v:AV} (e:SI E ts h op=some v):dP E ts h op=some v:=by
 unfold SI at e
 split at e
 · rw[aaU];exact e
 · exact e
def NM (E:Env) (d:Option TypeDesc) (l c:Option AV):Option (a_×(Nat→AV)):=match d,l,c with
 | some (.slice elem),some (.int _ len),some (.int _ cap)=>match b7 E elem,fh E elem,eU E elem with
   | some n,some bytes,some z=>
     if 0≤len∧len≤cap∧cap<2^30∧(bytes:Int)*cap≤2^47∧z.cells.length=n then
      some (.cells (et z.cells cap.toNat) elem false,fun i=> .slice i 0 len.toNat cap.toNat false)
     else none
   | _,_,_=>none
 | _,_,_=>none
def XG (E:Env) (ts:List AV) (op:Op):Option (a_×(Nat→AV)):=match op with
 | .makeSlice t l c=>NM E (E.P.underlying t) (eh E ts l) (eh E ts c)
 | op=>ei E ts op
theorem NO (ts:List AV) (op:Op):XG E ts op=ei E ts op:=by
 unfold XG
 split
 · rename_i t l c
   simp only[ei]
   generalize E.P.underlying t=d
   generalize eh E ts l=x
   generalize eh E ts c=y
   rfl
 · rfl
noncomputable def XH (E:Env) (call:bw) (ts:List AV) (h:au) (rc:RC) (o:Oper) (x:AV) (h':au):Prop:=match o.op with
 | .store t a v=>match eh E ts a,eh E ts v with
   | some a,some v=>x=AV.undef∧eF E h t a v=some h'
   | _,_=>False
 | .call c=>match c.callee with
   | .builtin .append=>match fS E ts c.args.toList with
     | some [s,y]=>bU E h c.argTypes s y=some (x,h')
     | _=>False
   | .builtin .copy=>match fS E ts c.args.toList with
     | some [s,y]=>uM E h c.argTypes s y=some (x,h')
     | _=>False
   | .value _=>match callee E ts c with
     | some (f,args)=>match jK E f with
       | some g=>g args h=some (x,h')
       | none=>call f args h= .ret x h'
     | none=>False
   | _=>dc E call ts h rc o= .val x h'
 | .convert src dst y=>D9 E h src dst (eh E ts y)=some (x,h')
 | _=>dc E call ts h rc o= .val x h'
theorem NP {ts:List AV} {h:au} {rc:RC} {o:Oper} {x:AV} {h':au} (e:XH E call ts h rc o x h'):dc E call ts h rc o= .val x h':=by
 unfold XH at e
 split at e
 · rename_i t a v ho
   split at e
   · rename_i a' v' h1 h2
     obtain ⟨rfl,e⟩:=e
     unfold dc
     simp only[ho,h1,h2,e]
   · exact e.elim
 · rename_i c ho
   split at e
   · rename_i hc
     split at e
     · rename_i h1
       unfold dc
       simp only[ho,hc,h1,e]
     · exact e.elim
   · rename_i hc
     split at e
     · rename_i h1
       unfold dc
       simp only[ho,hc,h1,e]
     · exact e.elim
   · rename_i hc
     split at e
     · rename_i h1
       split at e
       · rename_i h2
         unfold dc
         simp only[ho,hc,h1,h2,e]
       · rename_i h2
         unfold dc
         simp only[ho,hc,h1,h2,e]
     · exact e.elim
   · exact e
 · rename_i src dst y ho
   unfold dc
   simp only[ho,e]
 · exact e
def Pj {β:Type} (k:List AV→β):List AV→Nat→AV→β
 | [],_,_=>k []
 | _::xs,0,v=>k (v::xs)
 | x::xs,d+1,v=>Pj (fun ys=>k (x::ys)) xs d v
theorem GM {β:Type}:∀(k:List AV→β) (ts:List AV) (d:Nat) (v:AV),Pj k ts d v=k (ts.set d v)
 | k,[],_,_=>by simp [Pj]
 | k,_::xs,0,v=>rfl
 | k,x::xs,d+1,v=>by rw[Pj,GM];rfl
def sO (s:St) (d:Option Tmp) (v:AV) (h:au) (as_:List mI) (ps:List Prop):R:=match d with
 | some i=>Pj (fun ts=> .at .normal ⟨ts,h,s.ds,s.rc⟩ as_ ps) s.ts i v
 | none=> .at .normal ⟨s.ts,h,s.ds,s.rc⟩ as_ ps
theorem mJ (s:St) (d:Option Tmp) (v:AV) (h:au) (as_:List mI) (ps:List Prop):Go.Ab.sO s d v h as_ ps= .at .normal {s with ts:=dH s.ts d v,h:=h} as_ ps:=by
 cases d with
 | none=>rfl
 | some i=>exact GM _ _ _ _
noncomputable def Jk (E:Env) (call:bw) (o:Oper) (s:St) (as_:List mI) (ps:List Prop):R:=match as_ with
 | .c::as_=>match bH E s.ts o.op with
   | some v=>sO s o.dst v s.h as_ ps
   | none=> .bad
 | .v x::as_=>sO s o.dst x s.h as_ ((XF E s.ts o.op=some x)::ps)
 | .q x::as_=>sO s o.dst x s.h as_ ((bH E s.ts o.op=some x)::ps)
 | .m x::as_=>match bH E s.ts o.op with
   | none=>sO s o.dst x s.h as_ ((SI E s.ts s.h o.op=some x)::ps)
   | some _=> .bad
 | .n h'::as_=>match bH E s.ts o.op,dP E s.ts s.h o.op,ei E s.ts o.op with
   | none,none,some (obj,mk)=>sO s o.dst (mk s.h.nx) h' as_ ((s.h.new obj=some h')::ps)
   | _,_,_=> .bad
 | .a obj x h'::as_=>match bH E s.ts o.op,dP E s.ts s.h o.op with
   | none,none=>sO s o.dst x h' as_ ((∃mk,XG E s.ts o.op=some (obj,mk)∧mk s.h.nx=x)::(s.h.new obj=some h')::ps)
   | _,_=> .bad
 | .e x h'::as_=>match bH E s.ts o.op,dP E s.ts s.h o.op,ei E s.ts o.op with
   | none,none,none=>sO s o.dst x h' as_ (XH E call s.ts s.h s.rc o x h'::ps)
   | _,_,_=> .bad
 | .p x h'::as_=>match bH E s.ts o.op,dP E s.ts s.h o.op,ei E s.ts o.op with
   | none,none,none=> .at (.panic x) {s with h:=h'} as_ ((dc E call s.ts s.h s.rc o= .panic x h')::ps)
   | _,_,_=> .bad
 | _=> .bad
theorem z_ {o:Oper} {s:St} {as_:List mI} {ps:List Prop} {e:hZ} {s':St} {ux:List mI} {qy:List Prop} (hr:Jk E call o s as_ ps= .at e s' ux qy) (hp:lU qy):lU ps∧FK E call s o= .ok e s':=by
 have seen:∀{x:AV},(bH E s.ts o.op=some x∨(bH E s.ts o.op=none∧dP E s.ts s.h o.op=some x))→FK E call s o= .ok .normal {s with ts:=dH s.ts o.dst x}:=by
  rintro x (h | ⟨h1,h2⟩)<;>unfold FK
  · rw[h]
  · rw[h1,h2]
 unfold Jk at hr
 split at hr
 · split at hr
   · rename_i v hv
     rw[mJ] at hr;cases hr
     exact ⟨hp,seen (.inl hv)⟩
   · cases hr
 · rw[mJ] at hr;cases hr
   exact ⟨hp.2,seen (.inl (NL hp.1))⟩
 · rw[mJ] at hr;cases hr
   exact ⟨hp.2,seen (.inl hp.1)⟩
 · split at hr
   · rename_i h1
     rw[mJ] at hr;cases hr
     exact ⟨hp.2,seen (.inr ⟨h1,GK hp.1⟩)⟩
   · cases hr
 · split at hr
   · rename_i h1 h2 h3
     rw[mJ] at hr;cases hr
     refine ⟨hp.2,?_⟩
     unfold FK
     simp only[h1,h2,h3,hp.1]
   · cases hr
 · split at hr
   · rename_i h1 h2
     rw[mJ] at hr;cases hr
     obtain ⟨⟨mk,h3,h4⟩,h5,hp⟩:=hp
     rw[NO] at h3
     refine ⟨hp,?_⟩
     unfold FK
     simp only[h1,h2,h3,h4,h5]
   · cases hr
 · split at hr
   · rename_i h1 h2 h3
     rw[mJ] at hr;cases hr
     refine ⟨hp.2,?_⟩
     unfold FK
     simp only[h1,h2,h3,NP hp.1]
   · cases hr
 · split at hr
   · rename_i h1 h2 h3
     cases hr
     refine ⟨hp.2,?_⟩
     unfold FK
     simp only[h1,h2,h3,hp.1]
   · cases hr
 · cases hr
inductive Gd where
 | yes
 | no
 | ask (v want:Bool)
def Jl (want:Bool):Option AV→Gd
 | some (.bool v)=> .ask v want
 | _=> .no
def GN (ops:Array Oper) (ts:List AV) (g:Option (Nat×Bool)):Gd:=match g with
 | none=> .yes
 | some (j,want)=>match (ops[j]?).bind (·.dst) with
   | none=> .no
   | some d=>Jl want ts[d]?
theorem EB (ops:Array Oper) (ts:List AV) (o:Oper):cE ops ts o=(match GN ops ts o.guard with
 | .yes=>true
 | .no=>false
 | .ask v want=>v==want):=by
 unfold cE GN
 cases o.guard with
 | none=>rfl
 | some q=>
   obtain ⟨j,want⟩:=q
   simp only
   cases (ops[j]?).bind (·.dst) with
   | none=>rfl
   | some d=>
     simp only
     generalize ts[d]? =y
     unfold Jl
     cases y with
     | none=>rfl
     | some z=>cases z<;>rfl
noncomputable def pE (E:Env) (call:bw) (ops:Array Oper):List Oper→St→List mI→List Prop→R
 | [],s,as_,ps=> .at .normal s as_ ps
 | o::rest,s,as_,ps=>match GN ops s.ts o.guard with
   | .yes=>(Jk E call o s as_ ps).go (pE E call ops rest)
   | .no=>(sO s o.dst AV.undef s.h as_ ps).go (pE E call ops rest)
   | .ask v want=>match as_ with
     | .b x::as_=>bif x==want then (Jk E call o s as_ ((v=x)::ps)).go (pE E call ops rest) else (sO s o.dst AV.undef s.h as_ ((v=x)::ps)).go (pE E call ops rest)
     | _=> .bad
theorem xe {ops:Array Oper}:∀(l:List Oper) (s:St) (as_:List mI) (ps:List Prop) (e:hZ) (s':St) (ux:List mI) (qy:List Prop),pE E call ops l s as_ ps= .at e s' ux qy→lU qy→lU ps∧jZ E call ops l s= .ok e s'
 | [],s,as_,ps,e,s',ux,qy,hr,hp=>by cases hr;exact ⟨hp,rfl⟩
 | o::rest,s,as_,ps,e,s',ux,qy,hr,hp=>by
   have ih:=xe (ops:=ops) rest
   have aaX:∀(rW:List mI) (qd:List Prop),(Jk E call o s rW qd).go (pE E call ops rest)= .at e s' ux qy→lU qd∧(cE ops s.ts o=true→jZ E call ops (o::rest) s= .ok e s'):=by
    intro rW qd h
    rcases R.adV h with ⟨s1,QC,Q0,h1,h2⟩ | ⟨h1,dR⟩
    · obtain ⟨h3,h4⟩:=ih _ _ _ _ _ _ _ h2 hp
      obtain ⟨h5,h6⟩:=z_ h1 h3
      refine ⟨h5,fun hw=>?_⟩
      unfold jZ
      rw[if_pos hw,h6];exact h4
    · obtain ⟨h5,h6⟩:=z_ h1 hp
      refine ⟨h5,fun hw=>?_⟩
      unfold jZ
      rw[if_pos hw,h6]
      cases e with
      | normal=>exact absurd rfl dR
      | _=>rfl
   have aaY:∀(rW:List mI) (qd:List Prop),(sO s o.dst AV.undef s.h rW qd).go (pE E call ops rest)= .at e s' ux qy→lU qd∧(cE ops s.ts o=false→jZ E call ops (o::rest) s= .ok e s'):=by
    intro rW qd h
    rw[mJ] at h
    obtain ⟨h3,h4⟩:=ih _ _ _ _ _ _ _ (show pE E call ops rest _ rW qd=_ from h) hp
    refine ⟨h3,fun hw=>?_⟩
    unfold jZ
    rw[if_neg (by rw[hw];exact Bool.false_ne_true)]
    exact h4
   have hg:=EB ops s.ts o
   unfold pE at hr
   split at hr
   · rename_i h1;rw[h1] at hg;exact ⟨(aaX _ _ hr).1,(aaX _ _ hr).2 hg⟩
   · rename_i h1;rw[h1] at hg;exact ⟨(aaY _ _ hr).1,(aaY _ _ hr).2 hg⟩
   · rename_i v want h1
     rw[h1] at hg
     split at hr
     · rename_i x rW
       cases hx:x==want with
       | true=>
         rw[hx] at hr
         obtain ⟨⟨h2,h3⟩,h4⟩:=aaX _ _ hr
         exact ⟨h3,h4 (by rw[hg,h2];exact hx)⟩
       | false=>
         rw[hx] at hr
         obtain ⟨⟨h2,h3⟩,h4⟩:=aaY _ _ hr
         exact ⟨h3,h4 (by rw[hg,h2];exact hx)⟩
     · cases hr
inductive RT where
 | bad
 | ok (tr:List Step) (hs:List au) (s:St) (as_:List mI) (ps:List Prop)
def RT.step (x:Step):RT→RT
 | .ok tr hs s as_ ps=> .ok (x::tr) hs s as_ ps
 | .bad=> .bad
def RT.bound (x:Step) (h:au):RT→RT
 | .ok tr hs s as_ ps=> .ok (x::tr) (h::hs) s as_ ps
 | .bad=> .bad
def RT.put (s:St) (d:Option Tmp) (v:AV) (h:au) (k:St→RT):RT:=match d with
 | some i=>Pj (fun ts=>k ⟨ts,h,s.ds,s.rc⟩) s.ts i v
 | none=>k ⟨s.ts,h,s.ds,s.rc⟩
theorem RT.put_eq (s:St) (d:Option Tmp) (v:AV) (h:au) (k:St→RT):RT.put s d v h k=k {s with ts:=dH s.ts d v,h:=h}:=by
 cases d with
 | none=>rfl
 | some i=>exact GM _ _ _ _
noncomputable def Jm (E:Env) (call:bw) (i k:Nat) (o:Oper) (s:St) (as_:List mI) (ps:List Prop) (go:Nat→St→List mI→List Prop→RT):RT:=match as_ with
 | .e x h'::as_=>(RT.put s o.dst x h' fun s'=>go (k+1) s' as_ (XH E call s.ts s.h s.rc o x h'::ps)).bound ⟨i,k,s.ts,x,.uw h'⟩ s.h
 | _=> .bad
noncomputable def Jn (E:Env) (i k:Nat) (o:Oper) (s:St) (as_:List mI) (ps:List Prop) (go:Nat→St→List mI→List Prop→RT):RT:=match as_ with
 | .c::as_=>match bH E s.ts o.op with
   | some v=>(RT.put s o.dst v s.h fun s'=>go k s' as_ ps).step ⟨i,k,s.ts,v,.gO⟩
   | none=> .bad
 | .v x::as_=>(RT.put s o.dst x s.h fun s'=>go k s' as_ ((XF E s.ts o.op=some x)::ps)).step ⟨i,k,s.ts,x,.gO⟩
 | .q x::as_=>(RT.put s o.dst x s.h fun s'=>go k s' as_ ((bH E s.ts o.op=some x)::ps)).step ⟨i,k,s.ts,x,.gO⟩
 | .m x::as_=>match bH E s.ts o.op with
   | none=>(RT.put s o.dst x s.h fun s'=>go k s' as_ ((SI E s.ts s.h o.op=some x)::ps)).step ⟨i,k,s.ts,x,.red⟩
   | some _=> .bad
 | .n h'::as_=>match bH E s.ts o.op,dP E s.ts s.h o.op,ei E s.ts o.op with
   | none,none,some (obj,mk)=>(RT.put s o.dst (mk s.h.nx) h' fun s'=>go k s' as_ ((s.h.new obj=some h')::ps)).step ⟨i,k,s.ts,mk s.h.nx,.si s.h.nx obj⟩
   | _,_,_=> .bad
 | .a obj x h'::as_=>match bH E s.ts o.op,dP E s.ts s.h o.op with
   | none,none=>(RT.put s o.dst x h' fun s'=>go k s' as_ ((∃mk,XG E s.ts o.op=some (obj,mk)∧mk s.h.nx=x)::(s.h.new obj=some h')::ps)).step ⟨i,k,s.ts,x,.si s.h.nx obj⟩
   | _,_=> .bad
 | _=> .bad
noncomputable def runT (E:Env) (call:bw) (ops:Array Oper):List Nat→Nat→St→List mI→List Prop→RT
 | [],_,s,as_,ps=> .ok [] [s.h] s as_ ps
 | i::rest,k,s,as_,ps=>match ops[i]? with
   | none=> .bad
   | some o=>match GN ops s.ts o.guard with
     | .yes=>bif fk E o.op then Jm E call i k o s as_ ps (runT E call ops rest) else Jn E i k o s as_ ps (runT E call ops rest)
     | .no=>bif fk E o.op then (RT.put s o.dst AV.undef s.h fun s'=>runT E call ops rest (k+1) s' as_ ps).bound ⟨i,k,s.ts,AV.undef,.off⟩ s.h else (RT.put s o.dst AV.undef s.h fun s'=>runT E call ops rest k s' as_ ps).step ⟨i,k,s.ts,AV.undef,.off⟩
     | .ask v want=>match as_ with
       | .b x::as_=>bif x==want then (bif fk E o.op then Jm E call i k o s as_ ((v=x)::ps) (runT E call ops rest) else Jn E i k o s as_ ((v=x)::ps) (runT E call ops rest))
         else (bif fk E o.op then (RT.put s o.dst AV.undef s.h fun s'=>runT E call ops rest (k+1) s' as_ ((v=x)::ps)).bound ⟨i,k,s.ts,AV.undef,.off⟩ s.h else (RT.put s o.dst AV.undef s.h fun s'=>runT E call ops rest k s' as_ ((v=x)::ps)).step ⟨i,k,s.ts,AV.undef,.off⟩)
       | _=> .bad
theorem RT.ra {x:Step} {r:RT} {tr:List Step} {hs:List au} {s:St} {as_:List mI} {ps:List Prop} (h:r.step x= .ok tr hs s as_ ps):∃KE,tr=x::KE∧r= .ok KE hs s as_ ps:=by
 cases r with
 | bad=>cases h
 | ok a b c d e=>cases h;exact ⟨_,rfl,rfl⟩
theorem RT.Jo {x:Step} {g:au} {r:RT} {tr:List Step} {hs:List au} {s:St} {as_:List mI} {ps:List Prop} (h:r.bound x g= .ok tr hs s as_ ps):∃KE qI,tr=x::KE∧hs=g::qI∧r= .ok KE qI s as_ ps:=by
 cases r with
 | bad=>cases h
 | ok a b c d e=>cases h;exact ⟨_,_,rfl,rfl,rfl⟩
theorem Cd {ops:Array Oper}:∀(l:List Nat) (k:Nat) (s:St) (as_:List mI) (ps:List Prop) (tr:List Step) (hs:List au) (s':St) (ux:List mI) (qy:List Prop),
 runT E call ops l k s as_ ps= .ok tr hs s' ux qy→lU qy→lU ps∧cQ E call ops l k s= .ok tr hs s'
 | [],k,s,as_,ps,tr,hs,s',ux,qy,hr,hp=>by cases hr;exact ⟨hp,rfl⟩
 | i::rest,k,s,as_,ps,tr,hs,s',ux,qy,hr,hp=>by
   have ih:=Cd (ops:=ops) rest
   unfold runT at hr
   split at hr
   · cases hr
   rename_i o hi
   have hE:∀{rW:List mI} {qd:List Prop},fk E o.op=true→Jm E call i k o s rW qd (runT E call ops rest)= .ok tr hs s' ux qy→lU qd∧(cE ops s.ts o=true→cQ E call ops (i::rest) k s= .ok tr hs s'):=by
    intro rW qd he h
    unfold Jm at h
    split at h
    · rename_i x h' QC
      rw[RT.put_eq] at h
      obtain ⟨Nc,r_,rfl,rfl,h9⟩:=RT.Jo h
      obtain ⟨h1,h2⟩:=ih _ _ _ _ _ _ _ _ _ h9 hp
      refine ⟨h1.2,fun hw=>?_⟩
      unfold cQ
      simp only[hi,he,hw,if_true,NP h1.1,h2]
      rfl
    · cases h
   have hN:∀{rW:List mI} {qd:List Prop},fk E o.op=false→Jn E i k o s rW qd (runT E call ops rest)= .ok tr hs s' ux qy→lU qd∧(cE ops s.ts o=true→cQ E call ops (i::rest) k s= .ok tr hs s'):=by
    intro rW qd he h
    unfold Jn at h
    split at h
    · split at h
      · rename_i v hv
        rw[RT.put_eq] at h
        obtain ⟨Nc,rfl,h9⟩:=RT.ra h
        obtain ⟨h1,h2⟩:=ih _ _ _ _ _ _ _ _ _ h9 hp
        refine ⟨h1,fun hw=>?_⟩
        unfold cQ
        simp only[hi,he,hw,if_true,hv,Bool.false_eq_true,if_false]
        rw[h2]
        rfl
      · cases h
    · rw[RT.put_eq] at h
      obtain ⟨Nc,rfl,h9⟩:=RT.ra h
      obtain ⟨h1,h2⟩:=ih _ _ _ _ _ _ _ _ _ h9 hp
      refine ⟨h1.2,fun hw=>?_⟩
      unfold cQ
      simp only[hi,he,hw,if_true,NL h1.1,Bool.false_eq_true,if_false]
      rw[h2]
      rfl
    · rw[RT.put_eq] at h
      obtain ⟨Nc,rfl,h9⟩:=RT.ra h
      obtain ⟨h1,h2⟩:=ih _ _ _ _ _ _ _ _ _ h9 hp
      refine ⟨h1.2,fun hw=>?_⟩
      unfold cQ
      simp only[hi,he,hw,if_true,h1.1,Bool.false_eq_true,if_false]
      rw[h2]
      rfl
    · split at h
      · rename_i hv
        rw[RT.put_eq] at h
        obtain ⟨Nc,rfl,h9⟩:=RT.ra h
        obtain ⟨h1,h2⟩:=ih _ _ _ _ _ _ _ _ _ h9 hp
        refine ⟨h1.2,fun hw=>?_⟩
        unfold cQ
        simp only[hi,he,hw,if_true,hv,GK h1.1,Bool.false_eq_true,if_false]
        rw[h2]
        rfl
      · cases h
    · split at h
      · rename_i q1 q2 q3
        rw[RT.put_eq] at h
        obtain ⟨Nc,rfl,h9⟩:=RT.ra h
        obtain ⟨h1,h2⟩:=ih _ _ _ _ _ _ _ _ _ h9 hp
        refine ⟨h1.2,fun hw=>?_⟩
        unfold cQ
        simp only[hi,he,hw,if_true,q1,q2,q3,h1.1,Bool.false_eq_true,if_false,h2]
        rfl
      · cases h
    · split at h
      · rename_i q1 q2
        rw[RT.put_eq] at h
        obtain ⟨Nc,rfl,h9⟩:=RT.ra h
        obtain ⟨h1,h2⟩:=ih _ _ _ _ _ _ _ _ _ h9 hp
        obtain ⟨⟨mk,h3,h4⟩,h5,h6⟩:=h1
        rw[NO] at h3
        subst h4
        refine ⟨h6,fun hw=>?_⟩
        unfold cQ
        simp only[hi,he,hw,if_true,q1,q2,h3,h5,Bool.false_eq_true,if_false,h2]
        rfl
      · cases h
    · cases h
   have hO:∀{rW:List mI} {qd:List Prop},(bif fk E o.op then (RT.put s o.dst AV.undef s.h fun s'=>runT E call ops rest (k+1) s' rW qd).bound ⟨i,k,s.ts,AV.undef,.off⟩ s.h else (RT.put s o.dst AV.undef s.h fun s'=>runT E call ops rest k s' rW qd).step ⟨i,k,s.ts,AV.undef,.off⟩)= .ok tr hs s' ux qy→
    lU qd∧(cE ops s.ts o=false→cQ E call ops (i::rest) k s= .ok tr hs s'):=by
    intro rW qd h
    cases he:fk E o.op with
    | true=>
      rw[he,cond_true,RT.put_eq] at h
      obtain ⟨Nc,r_,rfl,rfl,h9⟩:=RT.Jo h
      obtain ⟨h1,h2⟩:=ih _ _ _ _ _ _ _ _ _ h9 hp
      refine ⟨h1,fun hw=>?_⟩
      unfold cQ
      simp only[hi,he,hw,if_true,Bool.false_eq_true,if_false]
      rw[h2]
      rfl
    | false=>
      rw[he,cond_false,RT.put_eq] at h
      obtain ⟨Nc,rfl,h9⟩:=RT.ra h
      obtain ⟨h1,h2⟩:=ih _ _ _ _ _ _ _ _ _ h9 hp
      refine ⟨h1,fun hw=>?_⟩
      unfold cQ
      simp only[hi,he,hw,Bool.false_eq_true,if_false]
      rw[h2]
      rfl
   have hY:∀{rW:List mI} {qd:List Prop},(bif fk E o.op then Jm E call i k o s rW qd (runT E call ops rest) else Jn E i k o s rW qd (runT E call ops rest))= .ok tr hs s' ux qy→
    lU qd∧(cE ops s.ts o=true→cQ E call ops (i::rest) k s= .ok tr hs s'):=by
    intro rW qd h
    cases he:fk E o.op with
    | true=>rw[he] at h;exact hE he h
    | false=>rw[he] at h;exact hN he h
   have hg:=EB ops s.ts o
   split at hr
   · rename_i h1;rw[h1] at hg;exact ⟨(hY hr).1,(hY hr).2 hg⟩
   · rename_i h1;rw[h1] at hg;exact ⟨(hO hr).1,(hO hr).2 hg⟩
   · rename_i v want h1
     rw[h1] at hg
     split at hr
     · rename_i x rW
       cases hx:x==want with
       | true=>
         rw[hx] at hr
         obtain ⟨⟨h2,h3⟩,h4⟩:=hY hr
         exact ⟨h3,h4 (by rw[hg,h2];exact hx)⟩
       | false=>
         rw[hx] at hr
         obtain ⟨⟨h2,h3⟩,h4⟩:=hO hr
         exact ⟨h3,h4 (by rw[hg,h2];exact hx)⟩
     · cases hr
noncomputable def LB (E:Env) (ops:Array Oper) (x:Step) (h:au) (ps:List Prop):List Prop:=match x.kind with
 | .red=>match ops[x.i]? with
   | some o=>(AV.same 20 x.v x.v=true)::(SI E x.ts h o.op=some x.v)::ps
   | none=>False::ps
 | .si n obj=>(∃o,h.get n=some o∧a_.same o obj=true)::ps
 | _=>ps
noncomputable def LC (E:Env) (ops:Array Oper) (x:Step):List au→List Prop→List Prop
 | [],ps=>ps
 | h::hs,ps=>LC E ops x hs (LB E ops x h ps)
noncomputable def xf (E:Env) (ops:Array Oper) (bR:List Nat) (an:List (List Nat)) (hs:List au):List Step→List Prop→List Prop
 | [],ps=>ps
 | x::tr,ps=>xf E ops bR an hs tr (LC E ops x ((hs.drop x.k).take (j0 bR an x.i+1 - x.k)) ps)
theorem Pl {ops:Array Oper} {x:Step} {h:au} {ps:List Prop} (hc:lU (LB E ops x h ps)):lU ps∧jr E ops x h=true:=by
 unfold LB at hc
 unfold jr
 split at hc
 · rename_i hk
   simp only[hk]
   split at hc
   · rename_i o ho
     have fZ:ops.getD x.i default=o:=by simp [Array.getD_eq_getD_getElem?,ho]
     simp only[fZ,GK hc.2.1,hc.1]
     exact ⟨hc.2.2,trivial⟩
   · exact hc.1.elim
 · rename_i n obj hk
   obtain ⟨⟨o,h1,h2⟩,h3⟩:=hc
   simp only[hk,h1,h2]
   exact ⟨h3,trivial⟩
 · rename_i h1 h2
   refine ⟨hc,?_⟩
   split
   · rename_i hk;exact absurd hk (by assumption)
   · rename_i hk;exact absurd hk (h2 _ _)
   · rfl
theorem EC {ops:Array Oper} {x:Step}:∀(hs:List au) (ps:List Prop),lU (LC E ops x hs ps)→lU ps∧hs.all (jr E ops x)=true
 | [],ps,hc=>⟨hc,rfl⟩
 | h::hs,ps,hc=>by
   obtain ⟨h1,h2⟩:=EC hs _ hc
   obtain ⟨h3,h4⟩:=Pl h1
   exact ⟨h3,by simp only[List.all_cons,h4,h2,Bool.and_self]⟩
theorem Aa {ops:Array Oper} {bR:List Nat} {an:List (List Nat)} {hs:List au}:∀(tr:List Step) (ps:List Prop),lU (xf E ops bR an hs tr ps)→
 lU ps∧(tr.all fun x=>((hs.drop x.k).take (j0 bR an x.i+1 - x.k)).all (jr E ops x))=true
 | [],ps,hc=>⟨hc,rfl⟩
 | x::tr,ps,hc=>by
   obtain ⟨h1,h2⟩:=Aa tr _ hc
   obtain ⟨h3,h4⟩:=EC _ _ h1
   exact ⟨h3,by simp only[List.all_cons,h4,h2,Bool.and_self]⟩
noncomputable def SJ (l:List Nat) (ps:List Prop):List Prop:=match l with
 | []=>ps
 | [_]=>ps
 | l=>(nodup l=true)::ps
noncomputable def GO (E:Env) (call:bw) (ops:Array Oper) (s:St) (as_:List mI) (ps:List Prop):R:=match sh E ops with
 | none=> .bad
 | some pl=>match runT E call ops pl.order 0 s as_ ps with
   | .ok tr hs s' ux qy=> .at .normal s' ux (SJ (qD tr) (xf E ops pl.bR pl.an hs tr qy))
   | .bad=> .bad
theorem DM {ops:Array Oper} {s:St} {as_:List mI} {ps:List Prop} {e:hZ} {s':St} {ux:List mI} {qy:List Prop} (hr:GO E call ops s as_ ps= .at e s' ux qy) (hp:lU qy):lU ps∧wh E call ops s= .ok e s':=by
 unfold GO at hr
 split at hr
 · cases hr
 rename_i pl OM
 split at hr
 · rename_i tr hs s1 rW qd h1
   cases hr
   have hn:lU (xf E ops pl.bR pl.an hs tr qd)∧nodup (qD tr)=true:=by
    unfold SJ at hp
    split at hp
    · rename_i hm;exact ⟨hp,by rw[hm];rfl⟩
    · rename_i hm;exact ⟨hp,by rw[hm];rfl⟩
    · exact ⟨hp.2,hp.1⟩
   obtain ⟨h2,h3⟩:=Aa _ _ hn.1
   obtain ⟨h4,h5⟩:=Cd _ _ _ _ _ _ _ _ _ _ h1 h2
   refine ⟨h4,?_⟩
   unfold wh
   simp only[OM,h5]
   have:qE E ops pl tr hs=true:=by
    unfold qE
    rw[hn.2,Bool.true_and]
    exact h3
   rw[if_pos this]
 · cases hr
noncomputable def run (E:Env) (call:bw):Nat→Code→St→List mI→List Prop→R
 | 0,_,_,_,_=> .bad
 | n+1,c,s,as_,ps=>match c with
   | .skip=> .at .normal s as_ ps
   | .ret=> .at .ret s as_ ps
   | .exit i=> .at (.exit i) s as_ ps
   | .seq a b=>match run E call n a s as_ ps with
     | .at .normal s1 rW qd=>run E call n b s1 rW qd
     | r=>r
   | .cond x a b=>match as_ with
     | .b v::as_=>match eh E s.ts x with
       | some (.bool u)=>bif v then run E call n a s as_ ((u=true)::ps) else run E call n b s as_ ((u=false)::ps)
       | _=> .bad
     | .l e s'::as_=> .at e s' as_ (Ev E call (.cond x a b) s e s'::ps)
     | _=> .bad
   | .block id b=>match run E call n b s as_ ps with
     | .at (.exit j) s1 rW qd=>bif Nat.beq j id then .at .normal s1 rW qd else .at (.exit j) s1 rW qd
     | r=>r
   | .loop b=>match as_ with
     | .l e s'::as_=> .at e s' as_ (Ev E call (.loop b) s e s'::ps)
     | _=> .bad
   | .rangeFunc f qy a b=>match as_ with
     | .l e s'::as_=> .at e s' as_ (Ev E call (.rangeFunc f qy a b) s e s'::ps)
     | _=> .bad
   | .region i ops draw=>match as_ with
     | .l e s'::as_=> .at e s' as_ (Ev E call (.region i ops draw) s e s'::ps)
     | as_=>bif draw then GO E call ops s as_ ps else pE E call ops ops.toList s as_ ps
   | .scope b=>run E call n b s as_ ps
   | .label _=> .at .normal s as_ ps
   | _=> .bad
theorem ED:∀(n:Nat) (c:Code) (s:St) (as_:List mI) (ps:List Prop) (e:hZ) (s':St) (ux:List mI) (qy:List Prop),run E call n c s as_ ps= .at e s' ux qy→lU qy→lU ps∧Ev E call c s e s'
 | 0,c,s,as_,ps,e,s',ux,qy,hr,hp=>by cases hr
 | n+1,c,s,as_,ps,e,s',ux,qy,hr,hp=>by
   have ih:=ED n
   unfold run at hr
   split at hr
   · cases hr;exact ⟨hp,.of fun _=>rfl⟩
   · cases hr;exact ⟨hp,.of fun _=>rfl⟩
   · cases hr;exact ⟨hp,.of fun _=>rfl⟩
   · split at hr
     · rename_i s1 rW qd h1
       obtain ⟨h2,h3⟩:=ih _ _ _ _ _ _ _ _ hr hp
       obtain ⟨h4,h5⟩:=ih _ _ _ _ _ _ _ _ h1 h2
       exact ⟨h4,h5.seq h3⟩
     · rename_i dR
       obtain ⟨h4,h5⟩:=ih _ _ _ _ _ _ _ _ hr hp
       refine ⟨h4,h5.seq' fun he=>?_⟩
       subst he;exact dR _ _ _ hr
   · split at hr
     · rename_i v rW
       split at hr
       · rename_i u hu
         cases v with
         | true=>
           obtain ⟨⟨h1,h2⟩,n0,h3⟩:=ih _ _ _ _ _ _ _ _ hr hp
           refine ⟨h2,n0+1,fun n hn=>?_⟩
           obtain ⟨k,rfl⟩:∃k,n=k+1:=⟨n - 1,by omega⟩
           rw[SC,hu,h1,LA];exact h3 k (by omega)
         | false=>
           obtain ⟨⟨h1,h2⟩,n0,h3⟩:=ih _ _ _ _ _ _ _ _ hr hp
           refine ⟨h2,n0+1,fun n hn=>?_⟩
           obtain ⟨k,rfl⟩:∃k,n=k+1:=⟨n - 1,by omega⟩
           rw[SC,hu,h1,Ji];exact h3 k (by omega)
       · cases hr
     · cases hr;exact ⟨hp.2,hp.1⟩
     · cases hr
   · split at hr
     · rename_i id b _ j s1 rW qd h1
       cases hj:Nat.beq j id with
       | true=>
         rw[hj] at hr
         cases hr
         obtain ⟨h2,n0,h3⟩:=ih _ _ _ _ _ _ _ _ h1 hp
         refine ⟨h2,n0+1,fun n hn=>?_⟩
         obtain ⟨k,rfl⟩:∃k,n=k+1:=⟨n - 1,by omega⟩
         rw[Bi,h3 k (by omega),zY,if_pos (Nat.eq_of_beq_eq_true hj)]
       | false=>
         rw[hj] at hr
         cases hr
         obtain ⟨h2,n0,h3⟩:=ih _ _ _ _ _ _ _ _ h1 hp
         refine ⟨h2,n0+1,fun n hn=>?_⟩
         obtain ⟨k,rfl⟩:∃k,n=k+1:=⟨n - 1,by omega⟩
         rw[Bi,h3 k (by omega),zY,if_neg (Nat.ne_of_beq_eq_false hj)]
     · rename_i id b _ dR
       obtain ⟨h2,n0,h3⟩:=ih _ _ _ _ _ _ _ _ hr hp
       refine ⟨h2,n0+1,fun n hn=>?_⟩
       obtain ⟨k,rfl⟩:∃k,n=k+1:=⟨n - 1,by omega⟩
       rw[Bi,h3 k (by omega)]
       cases e with
       | exit j=>exact absurd hr (dR _ _ _ _)
       | _=>rfl
   · split at hr
     · cases hr;exact ⟨hp.2,hp.1⟩
     · cases hr
   · split at hr
     · cases hr;exact ⟨hp.2,hp.1⟩
     · cases hr
   · rename_i i ops draw
     split at hr
     · cases hr;exact ⟨hp.2,hp.1⟩
     cases draw with
     | true=>
       simp only[cond_true] at hr
       obtain ⟨h1,h2⟩:=DM hr hp
       exact ⟨h1,.of fun n=>by rw[Xt];exact h2⟩
     | false=>
       simp only[cond_false] at hr
       obtain ⟨h1,h2⟩:=xe _ _ _ _ _ _ _ _ hr hp
       exact ⟨h1,.of fun n=>by rw[SE];exact h2⟩
   · obtain ⟨h1,n0,h2⟩:=ih _ _ _ _ _ _ _ _ hr hp
     exact ⟨h1,n0+1,fun n hn=>by
      obtain ⟨k,rfl⟩:∃k,n=k+1:=⟨n - 1,by omega⟩
      show exec E call k _ s=_
      exact h2 k (by omega)⟩
   · cases hr;exact ⟨hp,.of fun _=>rfl⟩
   · cases hr
theorem Ce {n:Nat} {c:Code} {s:St} {al:List mI} {e:hZ} {s':St} {ps:List Prop} (hr:run E call n c s al []= .at e s' [] ps) (hp:lU ps):Ev E call c s e s':=(ED _ _ _ _ _ _ _ _ _ hr hp).2
theorem AW {tmpl:(Nat→AV)→List AV} {c:Code} {s:St} {e:hZ} {h:au} {ds:List od} {rc:RC} {L:List AV} (ev:Ev E call c s e ⟨L,h,ds,rc⟩) (hl:L=tmpl fun k=>L.getD k AV.undef):∃y,Ev E call c s e ⟨tmpl y,h,ds,rc⟩:=by
 refine ⟨fun k=>L.getD k AV.undef,?_⟩
 rw[←hl];exact ev
theorem XI {f:FuncId} {fn:Func} {c:Code} (hf:E.P.funcs[f]? =some fn) (hb:fn.body=some c) {args:List AV} {h h':au} {ts:List AV} {x:hZ} (hx:x= .normal∨x= .ret)
 (e:Ev E call c ⟨args++List.replicate (fn.ntmps - args.length) AV.undef,h,[],.no⟩ x ⟨ts,h',[],.no⟩) {vs:List AV} (hr:jM E h' ts fn.results.toList=some vs):∃n0,∀n,n0≤n→w6 E call n f args h= .ret (fY vs) h':=by
 obtain ⟨n0,e⟩:=e
 exact ⟨n0,fun n hn=>Pf hf hb hx (e n hn) hr⟩
def sP (E:Env) (call:bw) (f:FuncId) (args:List AV) (h:au) (v:AV) (h':au):Prop:=∃n0,∀n,n0≤n→w6 E call n f args h= .ret v h'
theorem bx {f:FuncId} {fn:Func} {c:Code} {args Zs ts:List AV} {h h':au} {x:hZ} {v:AV} (hf:E.P.funcs[f]? =some fn) (hb:fn.body=some c) (ht:args++List.replicate (fn.ntmps - args.length) AV.undef=Zs) (hx:x= .normal∨x= .ret)
 (e:Ev E call c ⟨Zs,h,[],.no⟩ x ⟨ts,h',[],.no⟩) (hr:(jM E h' ts fn.results.toList).map fY=some v):sP E call f args h v h':=by
 subst ht
 cases hv:jM E h' ts fn.results.toList with
 | none=>rw[hv] at hr;cases hr
 | some vs=>
   rw[hv] at hr
   obtain rfl:fY vs=v:=Option.some.inj hr
   exact XI hf hb hx e hv
end Go.Ab
end
section
namespace Go.Ab
variable {E:Env}
theorem Cf {t:TypeId} {c d:Bool} {k:IntKind} {a b z:Int} (h:k.wrap (a+b)=z):cF E .add t c d (some (.int k a)) (some (.int k b))=some (.int k z):=by rw[NK,h]
theorem Cg {t:TypeId} {c d:Bool} {k:IntKind} {a b z:Int} (h:k.wrap (a - b)=z):cF E .sub t c d (some (.int k a)) (some (.int k b))=some (.int k z):=by rw[Xv,h]
theorem LD {t:TypeId} {c d:Bool} {k:IntKind} {a b z:Int} (h:k.wrap (a*b)=z):cF E .mul t c d (some (.int k a)) (some (.int k b))=some (.int k z):=by rw[Xw,h]
theorem Ch {t:TypeId} {c d:Bool} {k:IntKind} {a b z:Int} (hb:b≠0) (h:a.tmod b=z):cF E .rem t c d (some (.int k a)) (some (.int k b))=some (.int k z):=by simp [cF,jI,cP,hb,h]
theorem fB (k:IntKind) (n:Int):AV.scalar (.int k n)=true:=rfl
theorem dZ (b:Bool):AV.scalar (.bool b)=true:=rfl
theorem fC (b:List UInt8):AV.scalar (.str b)=true:=rfl
theorem fD (i o:Nat):AV.scalar (.ptr i o)=true:=rfl
theorem dh (i o n c:Nat) (b:Bool):AV.scalar (.slice i o n c b)=true:=rfl
theorem iT:AV.scalar .aQ=true:=rfl
theorem iU:AV.scalar .fX=true:=rfl
theorem iV:AV.scalar .dM=true:=rfl
theorem iW:AV.scalar .nilFunc=true:=rfl
theorem iX:AV.scalar .nilIface=true:=rfl
theorem fE (i:Nat):AV.scalar (.map i)=true:=rfl
theorem qe {h:au} {t:TypeId} {i o:Nat} {cs:List AV} {e:TypeId} {ro:Bool} {v:AV} (hg:h.get i=some (.cells cs e ro)) (hv:hJ E t cs o=some v):bG E h t (.ptr i o)=some v:=by
 simp only[bG,hg,hv]
theorem iJ {h h':au} {o:a_} (n:h.new o=some h'):h'.get h.nx=some o:=(au.lj n).2.2.1
theorem kE {h h':au} {o:a_} (n:h.new o=some h'):h'.nx=h.nx+1:=(au.lj n).2.1
theorem eW {h h':au} {o x:a_} {i:Nat} (y:Tidy h) (n:h.new o=some h') (g:h.get i=some x):h'.get i=some x:=by
 have:=y i x g
 rw[(au.lj n).2.2.2 i (by omega)];exact g
theorem ud {h h':au} {o:a_} (y:Tidy h) (n:h.new o=some h'):Has h h':=fun _ _ g=>eW y n g
theorem fi {h h':au} {o:a_} (y:Tidy h) (n:h.new o=some h'):Tidy h':=fun i x g=>by
 obtain ⟨_,h2,h3,h4⟩:=au.lj n
 by_cases hx:i=h.nx
 · omega
 · rw[h4 i hx] at g;have:=y i x g;omega
theorem kF {h:au} (o:a_):∃h',h.new o=some h':=⟨_,au.FM _ _⟩
theorem sQ {h:au} {t e:TypeId} {i o n:Nat} {cs:List AV} {v:AV} (g:h.get i=some (.cells cs e false)) (hs:b7 E t=some n) (hv:v.cells.length=n) (ho:o+n≤cs.length) (hk:v.cells.all AV.scalar=true):∃h',eF E h t (.ptr i o) v=some h':=by
 refine ⟨h.put i (some (.cells (setFrom cs o v.cells) e false)),?_⟩
 simp only[eF,g,hs]
 rw[if_pos ⟨hv,ho,hk⟩]
theorem sR {h h':au} {t e:TypeId} {i o:Nat} {cs:List AV} {v:AV} (s:eF E h t (.ptr i o) v=some h') (g:h.get i=some (.cells cs e false)):h'=h.put i (some (.cells (setFrom cs o v.cells) e false)):=by
 simp only[eF,g] at s
 split at s
 · rename_i h1 _
   cases h1
   split at s
   · exact (Option.some.inj s).symm
   · cases s
 · cases s
theorem ue {h h':au} {t e:TypeId} {i o:Nat} {cs:List AV} {v:AV} (y:Tidy h) (s:eF E h t (.ptr i o) v=some h') (g:h.get i=some (.cells cs e false)):h'.get i=some (.cells (setFrom cs o v.cells) e false):=by
 rw[sR s g]
 have:=y i _ g
 exact au.bS _
theorem oH {h h':au} {t e:TypeId} {i j o:Nat} {cs:List AV} {v:AV} {x:a_} (y:Tidy h) (s:eF E h t (.ptr i o) v=some h') (g:h.get i=some (.cells cs e false)) (hj:j≠i) (gx:h.get j=some x):h'.get j=some x:=by
 rw[sR s g]
 have:=y i _ g
 rw[au.bA (Ne.symm hj)];exact gx
theorem sS {h h':au} {t e:TypeId} {i o:Nat} {cs:List AV} {v:AV} (s:eF E h t (.ptr i o) v=some h') (g:h.get i=some (.cells cs e false)):h'.nx=h.nx:=by
 rw[sR s g];exact au.aap _ _ _
theorem rb {h h':au} {t e:TypeId} {i o:Nat} {cs:List AV} {v:AV} (y:Tidy h) (s:eF E h t (.ptr i o) v=some h') (g:h.get i=some (.cells cs e false)):Tidy h':=fun j x gj=>by
 have hi:=y i _ g
 rw[sS s g]
 by_cases hx:j=i
 · omega
 · rw[sR s g,au.bA (Ne.symm hx)] at gj
   exact y j x gj
def Chg (h h':au) (b:Nat) (o:a_):Prop:=Tidy h'∧h'.get b=some o∧∀i x,i≠b→h.get i=some x→h'.get i=some x
theorem Chg.has {h0 h h':au} {b:Nat} {o:a_} (c:Chg h h' b o) (a:Has h0 h) (y:Tidy h0) (hb:h0.nx≤b):Has h0 h':=fun i x g=>by
 have:=y i x g
 exact c.2.2 i x (by omega) (a i x g)
end Go.Ab
end
section
namespace Go.Ab
variable {E:Env}
theorem dT {p:Prop} [Decidable p] (h:p):decide p=true:=decide_eq_true h
theorem dF {p:Prop} [Decidable p] (h:¬p):decide p=false:=decide_eq_false h
theorem nT {p:Prop} [Decidable p] (h:¬p):(!decide p)=true:=by rw[decide_eq_false h];rfl
theorem nF {p:Prop} [Decidable p] (h:p):(!decide p)=false:=by rw[decide_eq_true h];rfl
def cC:Code→List Code
 | .seq a b=>cC a++cC b
 | .cond _ a b=>cC a++cC b
 | .block _ b=>cC b
 | .loop b=>b::cC b
 | .scope b=>cC b
 | .rangeFunc _ _ _ b=>b::cC b
 | _=> []
structure mq (E:Env) (h:au) (e:TypeId) (n:Nat) (av:AV) (len:Nat) (cs:List AV):Prop where
 size:b7 E e=some n
 cells:cs.length=len*n
 small:len<2^60
 lens:dJ (some (.slice e)) (some av)=some (.int .i64 (len:Nat))
 block:len=0∨∃p o m c b C f ro,av= .slice p o m c b∧m≤c∧h.get p=some (.cells C f ro)∧(∀j,j<cs.length→C[o+j]? =cs[j]?)
theorem mq.has {h h':au} {e:TypeId} {n:Nat} {av:AV} {len:Nat} {cs:List AV} (x:mq E h e n av len cs) (hh:Has h h'):mq E h' e n av len cs:=
 ⟨x.size,x.cells,x.small,x.lens,x.block.imp id fun ⟨p,o,m,c,b,C,f,ro,h1,h0,h2,h3⟩=>⟨p,o,m,c,b,C,f,ro,h1,h0,hh _ _ h2,h3⟩⟩
theorem mq.elem {h:au} {e:TypeId} {av:AV} {len:Nat} {cs:List AV} (x:mq E h e 1 av len cs) (ha:eQ E e=some false) {i:Nat} {v:AV} (hv:cs[i]? =some v):
 ∃p q,dr E (some (.slice e)) (some av) (some (.int .i64 (i:Nat)))=some (.ptr p q)∧bG E h e (.ptr p q)=some v:=by
 have hi:=(List.getElem?_eq_some_iff.1 hv).1
 have hl:cs.length=len:=by rw[x.cells,Nat.mul_one]
 rcases x.block with h0 | ⟨p,o,m,c,b,C,f,ro,h1,_,h2,h3⟩
 · omega
 · subst h1
   have hm:m=len:=by
    have:=x.lens
    rw[f'] at this
    simp only[Option.some.injEq,AV.int.injEq,true_and] at this
    omega
   refine ⟨p,o+i*1,cx x.size (by omega),?_⟩
   simp only[bG,h2,hJ,ha,Nat.mul_one]
   rw[h3 i hi,hv]
def uB (k:IntKind) (l:List Nat):List AV:=l.map fun (n:Nat)=> .int k (n:Int)
structure eY (E:Env) (h:au) (k:IntKind) (e:TypeId) (av:AV) (l:List Nat):Prop where
 at_:mq E h e 1 av l.length (uB k l)
 agg:eQ E e=some false
 known:av= .aQ∨∃p o n c b,av= .slice p o n c b∧(b=true→0<c)
theorem sU {k:IntKind} {l:List Nat} {i:Nat} {z:Nat} (h:l[i]? =some z):(uB k l)[i]? =some (.int k (z:Int)):=by simp [uB,h]
theorem eY.elem {h:au} {k:IntKind} {e:TypeId} {av:AV} {l:List Nat} (x:eY E h k e av l) {i:Nat} {z:Nat} (hz:l[i]? =some z):
 ∃p q,dr E (some (.slice e)) (some av) (some (.int .i64 (i:Nat)))=some (.ptr p q)∧bG E h e (.ptr p q)=some (.int k (z:Int)):=x.at_.elem x.agg (sU hz)
theorem eY.len {h:au} {k:IntKind} {e:TypeId} {av:AV} {l:List Nat} (x:eY E h k e av l):dJ (some (.slice e)) (some av)=some (.int .i64 (l.length:Nat)):=x.at_.lens
theorem mK (k:IntKind) (l:List Nat):(uB k l).length=l.length:=by simp [uB]
theorem eY.small {h:au} {k:IntKind} {e:TypeId} {av:AV} {l:List Nat} (x:eY E h k e av l):l.length<2^60:=x.at_.small
def Off (p:Nat) (av:AV):Prop:=∀o n c b,av≠ .slice p o n c b
theorem eY.of {h:au} {k:IntKind} {e:TypeId} {l:List Nat} {p o c:Nat} {b:Bool} {C:List AV} {f:TypeId} {ro:Bool} (hs:b7 E e=some 1) (ha:eQ E e=some false) (hl:l.length<2^60) (hc:l.length≤c) (hb:b=true→0<c) (hg:h.get p=some (.cells C f ro))
 (hv:∀(i:Nat) z,l[i]? =some z→C[o+i]? =some (.int k (z:Int))):eY E h k e (.slice p o l.length c b) l:=
 ⟨⟨hs,by rw[mK];omega,hl,rfl,.inr ⟨p,o,_,c,b,C,f,ro,rfl,hc,hg,fun j hj=>by
   rw[mK] at hj
   rw[hv j l[j] (List.getElem?_eq_getElem hj),sU (List.getElem?_eq_getElem hj)]⟩⟩,ha,.inr ⟨p,o,_,c,b,rfl,hb⟩⟩
theorem eY.nil {h:au} {k:IntKind} {e:TypeId} (hs:b7 E e=some 1) (ha:eQ E e=some false):eY E h k e .aQ []:=
 ⟨⟨hs,rfl,by decide,rfl,.inl rfl⟩,ha,.inl rfl⟩
theorem eY.inv {h:au} {k:IntKind} {e:TypeId} {l:List Nat} {p o n c:Nat} {b:Bool} (x:eY E h k e (.slice p o n c b) l):n=l.length∧(l≠ []→l.length≤c∧∃C f ro,h.get p=some (.cells C f ro)∧∀(i:Nat) z,l[i]? =some z→C[o+i]? =some (.int k (z:Int))):=by
 have hn:n=l.length:=by
  have:=x.len
  rw[f'] at this
  simp only[Option.some.injEq,AV.int.injEq,true_and] at this
  omega
 refine ⟨hn,fun dR=>?_⟩
 rcases x.at_.block with h0 | ⟨p',o',m,c',b',C,f,ro,h1,h0,h2,h3⟩
 · exact absurd (List.length_eq_zero_iff.1 h0) dR
 · cases h1
   refine ⟨by omega,C,f,ro,h2,fun i z hz=>?_⟩
   rw[h3 i (by rw[mK];exact (List.getElem?_eq_some_iff.1 hz).1),sU hz]
theorem nW {len cap lo hi:Nat} (low high:Option AV) (hl:low=some (.int .i64 (lo:Nat))∨(low=none∧lo=0)) (hh:high=some (.int .i64 (hi:Nat))∨(high=none∧hi=len)) (h1:lo≤hi) (h2:hi≤cap):ks len cap low high none=some (lo,hi,cap):=by
 have b:∀(x y:Nat),x≤y→oa (.int .i64 (x:Nat)) y=some x:=fun x y h=>by
  simp only[oa]
  rw[if_pos ⟨by omega,by omega⟩,Int.toNat_natCast]
 unfold ks
 rcases hh with rfl | ⟨rfl,rfl⟩<;>rcases hl with rfl | ⟨rfl,rfl⟩<;>simp [b,h1,h2]
theorem eY.slice {h:au} {k:IntKind} {e t:TypeId} {av:AV} {l:List Nat} (x:eY E h k e av l) (ht:E.P.underlying t=some (.slice e)) {lo hi:Nat} (low high:Option AV) (hl:low=some (.int .i64 (lo:Nat))∨(low=none∧lo=0)) (hh:high=some (.int .i64 (hi:Nat))∨(high=none∧hi=l.length)) (h1:lo≤hi) (h2:hi≤l.length) (h3:l.length=0∨lo<l.length):
 ∃r,dw E t av low high none=some r∧eY E h k e r ((l.take hi).drop lo)∧∀p,Off p av→Off p r:=by
 rcases x.known with rfl | ⟨p,o,n,c,b,rfl,hb⟩
 · have hl0:l.length=0:=by
    have:=x.len
    rw[w_] at this
    simp only[Option.some.injEq,AV.int.injEq,true_and] at this
    omega
   obtain rfl:=List.length_eq_zero_iff.1 hl0
   simp only[List.length_nil] at *
   have V2:hi=0:=by omega
   subst V2
   have V1:lo=0:=by omega
   subst V1
   refine ⟨.aQ,?_,by simpa using x,fun p hp=>hp⟩
   simp only[dw,ht,x.at_.size,nW (len:=0) (cap:=0) low high hl hh (Nat.le_refl 0) (Nat.le_refl 0)]
 · obtain ⟨rfl,hx⟩:=x.inv
   have hlc:l.length≤c:=by
    by_cases dR:l=[]
    · subst dR;exact Nat.zero_le _
    · exact (hx dR).1
   have hr:∃o' c',dw E t (.slice p o l.length c b) low high none=some (.slice p o' (hi - lo) c' b)∧(b=true→0<c')∧hi - lo≤c'∧(hi - lo≠0→o'=o+lo):=by
    simp only[dw,ht,x.at_.size,hlc,if_true,nW (len:=l.length) (cap:=c) low high hl hh h1 (by omega)]
    by_cases hm:c=lo
    · have QG:b=false:=by
       cases b with
       | false=>rfl
       | true=>have:=hb rfl;omega
      subst QG
      rw[if_pos hm]
      exact ⟨o,c - lo,rfl,by simp,by omega,fun h=>by omega⟩
    · rw[if_neg hm]
      refine ⟨o+lo*1,c - lo,by simp,fun h=>by omega,by omega,fun h=>by omega⟩
   obtain ⟨o',c',e1,e2,e3,e4⟩:=hr
   refine ⟨_,e1,?_,fun q hq o' n' c' b' he=>by cases he;exact hq _ _ _ _ rfl⟩
   have hlen:((l.take hi).drop lo).length=hi - lo:=by simp;omega
   rw[←hlen]
   by_cases h0:hi - lo=0
   · have:(l.take hi).drop lo=[]:=List.length_eq_zero_iff.1 (by omega)
     rw[this]
     exact ⟨⟨x.at_.size,rfl,by decide,rfl,.inl rfl⟩,x.agg,.inr ⟨_,_,_,_,_,rfl,e2⟩⟩
   · have dR:l≠ []:=fun e=>by subst e;simp at h2;omega
     obtain ⟨_,C,f,ro,g1,g2⟩:=hx dR
     refine eY.of x.at_.size x.agg (by have:=x.small;omega) (by omega) e2 g1 fun i z hz=>?_
     have FT:i<hi - lo:=by rw[←hlen];exact (List.getElem?_eq_some_iff.1 hz).1
     rw[e4 h0,Nat.add_assoc]
     apply g2
     rw[List.getElem?_drop,List.getElem?_take_of_lt (by omega)] at hz
     exact hz
structure V_ (h:au) (av:AV) (p o n:Nat) (C:List AV) (f:TypeId):Prop where
 is:∃c b,av= .slice p o n c b∧n≤c
 get:h.get p=some (.cells C f false)
 fits:o+n≤C.length
theorem V_.len {h:au} {av:AV} {p o n:Nat} {C:List AV} {f e:TypeId} (w:V_ h av p o n C f):dJ (some (.slice e)) (some av)=some (.int .i64 (n:Nat)):=by
 obtain ⟨c,b,rfl,_⟩:=w.is
 rfl
theorem V_.slice {h:au} {av:AV} {p o n:Nat} {C:List AV} {f e t:TypeId} (w:V_ h av p o n C f) (hs:b7 E e=some 1) (ht:E.P.underlying t=some (.slice e)) {lo hi:Nat} (low high:Option AV) (hl:low=some (.int .i64 (lo:Nat))∨(low=none∧lo=0)) (hh:high=some (.int .i64 (hi:Nat))∨(high=none∧hi=n)) (h1:lo≤hi) (h2:hi≤n) (h3:lo<n):
 ∃r,dw E t av low high none=some r∧V_ h r p (o+lo) (hi - lo) C f:=by
 obtain ⟨c,b,rfl,hc⟩:=w.is
 have:=w.fits
 refine ⟨.slice p (o+lo) (hi - lo) (c - lo) b,?_,⟨⟨_,_,rfl,by omega⟩,w.get,by omega⟩⟩
 simp only[dw,ht,hs,hc,if_true,nW (len:=n) (cap:=c) low high hl hh h1 (by omega)]
 rw[if_neg (by omega)]
 simp
def Holds (k:IntKind) (C:List AV) (o:Nat) (l:List Nat):Prop:=∀(i z:Nat),l[i]? =some z→C[o+i]? =some (.int k (z:Int))
theorem Holds.behind {k:IntKind} {C:List AV} {o:Nat} {l ws:List Nat} (x:Holds k C o l) {i z:Nat} (hi:ws.length≤i) (hz:l[i]? =some z):(setFrom C o (uB k ws))[o+i]? =some (.int k (z:Int)):=by
 rw[eu,if_neg (by rw[mK];omega)]
 exact x i z hz
theorem V_.load {h:au} {av:AV} {p o n:Nat} {C:List AV} {f e:TypeId} {i:Nat} {v:AV} (w:V_ h av p o n C f) (ha:eQ E e=some false) (hv:C[o+i]? =some v):bG E h e (.ptr p (o+i))=some v:=by
 simp only[bG,w.get,hJ,ha,hv]
theorem V_.uB {h:au} {av:AV} {p o n:Nat} {C:List AV} {f e:TypeId} {k:IntKind} {l:List Nat} (w:V_ h av p o n C f) (hs:b7 E e=some 1) (ha:eQ E e=some false) (hn:l.length=n) (V4:n<2^60) (x:Holds k C o l) (hb:∀c b,av= .slice p o n c b→b=true→0<c):eY E h k e av l:=by
 obtain ⟨c,b,rfl,hc⟩:=w.is
 subst hn
 exact eY.of hs ha V4 hc (hb c b rfl) w.get x
theorem Holds.of {k:IntKind} {C:List AV} {o:Nat} {l:List Nat} (hf:o+l.length≤C.length):Holds k (setFrom C o (uB k l)) o l:=fun i z hz=>by
 have hi:=(List.getElem?_eq_some_iff.1 hz).1
 rw[eu,if_pos ⟨by omega,by rw[mK];omega,by omega⟩,Nat.add_sub_cancel_left,sU hz]
end Go.Ab
end
section
namespace Go.Ab
open Go.WideElems Go.RowKit Go.Proofs
variable {E:Env}
theorem CR.plain {φ φ':Ph} {cs:List AV} {t:TypeId} {ro:Bool} {l:Loc} {C:Array Value} {lo hi:Nat} (h:CR E φ' cs t ro l C lo hi) (hp:cs.all (AV.plain 20)=true):CR E φ cs t ro l C lo hi where
 size:=h.size
 val k x hk:=by
  obtain ⟨y,hy,hv⟩:=h.val k x hk
  exact ⟨y,hy,hv.plain 20 (List.all_eq_true.1 hp x (List.mem_of_getElem? hk))⟩
 free:=h.free
 zero:=h.zero
end Go.Ab
end
section
namespace Go.Ab
variable {E:Env} {M0:Fa.GH}
theorem sP.unique {call:bw} {f:FuncId} {args:List AV} {h h1 h2:au} {v1 v2:AV} (a:sP E call f args h v1 h1) (b:sP E call f args h v2 h2):v1=v2∧h1=h2:=by
 obtain ⟨n,a⟩:=a
 obtain ⟨m,b⟩:=b
 have:=(a (n+m) (by omega)).symm.trans (b (n+m) (by omega))
 simpa using this
def AV.within (nx:Nat):Nat→AV→Bool
 | 0,_=>false
 | n+1,x=>match x with
   | .bool _ | .int .. | .str _ | .fX | .aQ | .dM | .nilFunc | .nilIface | .dN=>true
   | .ptr i _=>decide (i<nx)
   | .slice i _ _ _ _=>decide (i<nx)
   | .map i=>decide (i<nx)
   | .iface _ v=>AV.within nx n v
   | .agg cs=>cs.all (AV.within nx n)
   | .tuple cs=>cs.all (AV.within nx n)
   | _=>false
theorem VR.within {φ φ':Ph} {nx:Nat} (ho:∀i,i<nx→φ' i=φ i):∀(n:Nat) {x:AV} (_:AV.within nx n x=true) {y:Value},VR φ' x y→VR φ x y
 | 0,_,h,_,_=>by cases h
 | n+1,x,h,y,hv=>by
   have ih:= @VR.within φ φ' nx ho n
   cases hv with
   | bool b=>exact .bool b
   | int k m=>exact .int k m
   | str s=>exact .str s
   | fX=>exact .fX
   | aQ=>exact .aQ
   | dM=>exact .dM
   | nilFunc=>exact .nilFunc
   | nilIface=>exact .nilIface
   | dN a c=>exact .dN a c
   | ptr o hl=>rw[ho _ (of_decide_eq_true h)] at hl;exact .ptr o hl
   | slice o len cap op hl=>rw[ho _ (of_decide_eq_true h)] at hl;exact .slice o len cap op hl
   | map hl=>rw[ho _ (of_decide_eq_true h)] at hl;exact .map hl
   | iface t v v' h'=>exact .iface t v v' (ih (by simpa [AV.within] using h) h')
   | agg cs iw hl hc=>
     refine .agg cs iw hl fun i x y a b=>ih ?_ (hc i x y a b)
     simp only[AV.within,List.all_eq_true] at h
     exact h x (List.mem_of_getElem? a)
   | tuple cs iw hl hc=>
     refine .tuple cs iw hl fun i x y a b=>ih ?_ (hc i x y a b)
     simp only[AV.within,List.all_eq_true] at h
     exact h x (List.mem_of_getElem? a)
   | _=>cases h
theorem kL.NQ {f:FuncId} {args:List AV} {h h':au} {v:AV} (r:kL E f args h v h') (hs:Has h h') (hv:AV.within h.nx 20 v=true):kL E f args h v h:=fun φ w vs ok hl=>by
 obtain ⟨h1,h2⟩:=r φ w vs ok hl
 refine ⟨h1,fun cs=>?_⟩
 obtain ⟨φ',w',v',fr,x1,x2,x3,x4⟩:=h2 cs
 exact ⟨φ,w',v',fr,x1.within x3.old 20 hv,ok.forget x3.ext x2 hs,x3.forget,x4⟩
def EF (E:Env) (call:bw) (l:Nat) (args:List AV) (h:au) (v:AV) (h':au):Prop:=∃n0,∀n,n0≤n→qF E call n l args h= .ret v h'
theorem EF.unique {call:bw} {l:Nat} {args:List AV} {h h1 h2:au} {v1 v2:AV} (a:EF E call l args h v1 h1) (b:EF E call l args h v2 h2):v1=v2∧h1=h2:=by
 obtain ⟨n,a⟩:=a
 obtain ⟨m,b⟩:=b
 have:=(a (n+m) (by omega)).symm.trans (b (n+m) (by omega))
 simpa using this
open Classical in
noncomputable def eO (E:Env) (M0:Fa.GH):Nat→bw
 | 0=>Ca M0
 | d+1=>fun F args h=>match F with
   | .vk l=>if hy:∃p:AV×au,EF E (eO E M0 d) l args h p.1 p.2 then .ret hy.choose.1 hy.choose.2 else .fail "" none
   | .fn f=>match M0 f args h with
     | some p=> .ret p.1 p.2
     | none=>
       if hx:∃v,∃h',sP E (eO E M0 d) f args h v h'∧Has h h'∧AV.within h.nx 20 v=true then .ret hx.choose h
       else if hy:∃p:AV×au,sP E (eO E M0 d) f args h p.1 p.2 then .ret hy.choose.1 hy.choose.2 else .fail "" none
theorem Ci (hE:kh E) (hM:Fa.GI E M0):∀d,ic E (eO E M0 d)
 | 0=>Pg hM
 | d+1=>by
   have ih:=Ci hE hM d
   have key:∀{f:FuncId} {args:List AV} {h:au} {o:jd},eO E M0 (d+1) (.fn f) args h=o→(∃v h',o= .ret v h'∧kL E f args h v h')∨o= .fail "" none:=by
    intro f args h o e
    simp only[eO] at e
    split at e
    · rename_i p hp
      exact .inl ⟨_,_,e.symm,hM _ _ _ _ _ hp⟩
    · split at e
      · rename_i hx
        obtain ⟨h',⟨n,h1⟩,h2,h3⟩:=hx.choose_spec
        exact .inl ⟨_,_,e.symm,kL.NQ ((pq hE n ih).1 _ _ _ _ _ (h1 n (Nat.le_refl n))) h2 h3⟩
      · split at e
        · rename_i hy
          obtain ⟨n,h1⟩:=hy.choose_spec
          exact .inl ⟨_,_,e.symm,(pq hE n ih).1 _ _ _ _ _ (h1 n (Nat.le_refl n))⟩
        · exact .inr e.symm
   refine ⟨fun F args h v h' e=>?_,fun F args h v h' e=>?_⟩
   · cases F with
     | vk l=>
       simp only[eO] at e
       split at e
       · rename_i hy
         cases e
         obtain ⟨n,h1⟩:=hy.choose_spec
         intro φ w vs ok hf hl
         obtain ⟨ll,hφ⟩:=hf
         obtain ⟨f,tmps,assign,body,hy2,fU⟩:=vA hE ih (h1 n (Nat.le_refl n)) (by simp) ok hφ hl
         exact ⟨_,_,.vk l ll hφ vs f tmps assign body hy2,fun c cs=>(fU c cs).1 _ _ rfl⟩
       · cases e
     | fn f=>
       rcases key e with ⟨w,k,h1,h2⟩ | h1
       · cases h1;exact h2.any
       · cases h1
   · cases F with
     | vk l=>
       simp only[eO] at e
       split at e<;>cases e
     | fn f=>
       rcases key e with ⟨w,k,h1,h2⟩ | h1
       · cases h1
       · cases h1
theorem aC {d:Nat} {f:FuncId} {args:List AV} {h h':au} {v:AV} (hm:M0 f args h=none) (hd:sP E (eO E M0 d) f args h v h') (hh:Has h h') (hv:AV.within h.nx 20 v=true):eO E M0 (d+1) (.fn f) args h= .ret v h:=by
 simp only[eO,hm]
 have hx:∃v,∃h',sP E (eO E M0 d) f args h v h'∧Has h h'∧AV.within h.nx 20 v=true:=⟨v,h',hd,hh,hv⟩
 rw[dif_pos hx]
 obtain ⟨k,h1,_,_⟩:=hx.choose_spec
 rw[(h1.unique hd).1]
theorem nX {d:Nat} {f:FuncId} {args:List AV} {h h':au} {v:AV} (hm:M0 f args h=none) (hd:sP E (eO E M0 d) f args h v h') (hv:¬(Has h h'∧AV.within h.nx 20 v=true)):eO E M0 (d+1) (.fn f) args h= .ret v h':=by
 simp only[eO,hm]
 have hx:¬∃v,∃h',sP E (eO E M0 d) f args h v h'∧Has h h'∧AV.within h.nx 20 v=true:=by
  rintro ⟨w,k,h1,h2,h3⟩
  obtain ⟨rfl,rfl⟩:=h1.unique hd
  exact hv ⟨h2,h3⟩
 have hy:∃p:AV×au,sP E (eO E M0 d) f args h p.1 p.2:=⟨(v,h'),hd⟩
 rw[dif_neg hx,dif_pos hy]
 obtain ⟨h1,h2⟩:=hy.choose_spec.unique hd
 rw[h1,h2]
theorem Pm {d l:Nat} {args:List AV} {h h':au} {v:AV} (hd:EF E (eO E M0 d) l args h v h'):eO E M0 (d+1) (.vk l) args h= .ret v h':=by
 simp only[eO]
 have hy:∃p:AV×au,EF E (eO E M0 d) l args h p.1 p.2:=⟨(v,h'),hd⟩
 rw[dif_pos hy]
 obtain ⟨h1,h2⟩:=hy.choose_spec.unique hd
 rw[h1,h2]
theorem Jp (hE:kh E) (hM:Fa.GI E M0) {d:Nat} {f:FuncId} {args:List AV} {h h':au} {v:AV} (e:eO E M0 d (.fn f) args h= .ret v h'):kL E f args h v h':=by
 cases d with
 | zero=>
   simp only[eO,Ca] at e
   split at e
   · rename_i p hp
     cases e
     exact hM _ _ _ _ _ hp
   · cases e
 | succ d=>
   simp only[eO] at e
   split at e
   · rename_i p hp
     cases e
     exact hM _ _ _ _ _ hp
   · split at e
     · rename_i hx
       cases e
       obtain ⟨h',⟨n,h1⟩,h2,h3⟩:=hx.choose_spec
       exact kL.NQ ((pq hE n (Ci hE hM d)).1 _ _ _ _ _ (h1 n (Nat.le_refl n))) h2 h3
     · split at e
       · rename_i hy
         cases e
         obtain ⟨n,h1⟩:=hy.choose_spec
         exact (pq hE n (Ci hE hM d)).1 _ _ _ _ _ (h1 n (Nat.le_refl n))
       · cases e
end Go.Ab
end
section
namespace Go.Ab
variable {E:Env}
theorem wrap_u64 (n:Nat):IntKind.u64.wrap (n:Int)=((n%18446744073709551616:Nat):Int):=by
 show (if (false&&decide ((n:Int)%2^64≥2^63))=true then (n:Int)%2^64 - 2^64 else (n:Int)%2^64)=_
 rw[if_neg (by simp)]
 omega
theorem GP (a b:Nat):IntKind.u64.wrap ((a:Int)+b)=(((a+b)%18446744073709551616:Nat):Int):=by rw[←wrap_u64];congr 1
theorem Ac {t:TypeId} {c d:Bool} {a b:Nat} (h:a+b<18446744073709551616):cF E .add t c d (some (.int .u64 (a:Int))) (some (.int .u64 (b:Int)))=some (.int .u64 ((a+b:Nat):Int)):=by
 rw[NK,GP,Nat.mod_eq_of_lt h]
end Go.Ab
end
section
namespace Go.Ab
variable {E:Env} {M0:Fa.GH}
structure Grow (h h':au):Prop where
 y:Tidy h'
 a:Has h h'
 n:h.nx≤h'.nx
theorem Grow.refl {h:au} (y:Tidy h):Grow h h:=⟨y,Has.refl h,Nat.le_refl _⟩
theorem Grow.trans {a b c:au} (x:Grow a b) (y:Grow b c):Grow a c:=⟨y.y,x.a.trans y.a,Nat.le_trans x.n y.n⟩
theorem ma {d:Nat} {f:FuncId} {args:List AV} {h h':au} {v:AV} {P:au→Prop} (hm:M0 f args h=none) (hd:sP E (eO E M0 d) f args h v h') (y:Tidy h) (g:Grow h h') (p1:P h') (p2:AV.within h.nx 20 v=true→P h):
 ∃hk,eO E M0 (d+1) (.fn f) args h= .ret v hk∧Grow h hk∧P hk:=by
 by_cases hv:AV.within h.nx 20 v=true
 · exact ⟨h,aC hm hd g.a hv,Grow.refl y,p2 hv⟩
 · exact ⟨h',nX hm hd fun c=>hv c.2,g,p1⟩
theorem kG {d:Nat} {f:FuncId} {args:List AV} {h h':au} {v:AV} (hm:M0 f args h=none) (hd:sP E (eO E M0 d) f args h v h'):
 ∃hk,eO E M0 (d+1) (.fn f) args h= .ret v hk∧(hk=h'∨(hk=h∧Has h h')):=by
 by_cases hv:Has h h'∧AV.within h.nx 20 v=true
 · exact ⟨h,aC hm hd hv.1 hv.2,.inr ⟨rfl,hv.1⟩⟩
 · exact ⟨h',nX hm hd hv,.inl rfl⟩
theorem jR {h:au} {p:Nat} {x o:a_} (y:Tidy h) (g:h.get p=some x):Chg h (h.put p (some o)) p o:=
 ⟨fun i z hz=>by
  by_cases e:i=p
  · subst e;exact y _ _ g
  · rw[au.bA (Ne.symm e)] at hz;exact y _ _ hz,
  au.bS _,fun i z hi hz=>by rw[au.bA (Ne.symm hi)];exact hz⟩
def Kept (p:Nat) (h h':au):Prop:=∀i x,i≠p→h.get i=some x→h'.get i=some x
theorem Has.kept {p:Nat} {h h':au} (a:Has h h'):Kept p h h':=fun i x _ g=>a i x g
theorem Kept.store {h h':au} {t e:TypeId} {i o:Nat} {cs:List AV} {v:AV} (y:Tidy h) (s:eF E h t (.ptr i o) v=some h') (g:h.get i=some (.cells cs e false)):Kept i h h':=fun _ _ hj gj=>oH y s g hj gj
theorem eY.kept {h h':au} {k:IntKind} {e:TypeId} {av:AV} {l:List Nat} {p:Nat} (x:eY E h k e av l) (c:Kept p h h') (ho:Off p av):eY E h' k e av l:=by
 refine ⟨⟨x.at_.size,x.at_.cells,x.at_.small,x.at_.lens,x.at_.block.imp id fun ⟨p',o',m,c',b,C,f,ro,h1,h0,h2,h3⟩=>⟨p',o',m,c',b,C,f,ro,h1,h0,c p' _ (fun e=>?_) h2,h3⟩⟩,x.agg,x.known⟩
 subst e
 exact ho _ _ _ _ h1
theorem Ad (k:IntKind) (l:List Nat):(uB k l).all AV.scalar=true:=by
 simp [uB,AV.scalar]
theorem eY.kV {h:au} {k:IntKind} {e:TypeId} {av:AV} {l:List Nat} (x:eY E h k e av l):kV av=some l.length:=by
 rcases x.known with rfl | ⟨p,o,n,c,b,rfl,_⟩
 · have:=x.len
   rw[w_] at this
   simp only[Option.some.injEq,AV.int.injEq,true_and] at this
   rw[show l.length=0 by omega];rfl
 · rw[x.inv.1];rfl
theorem eY.first {h:au} {k:IntKind} {e:TypeId} {av:AV} {l:List Nat} (x:eY E h k e av l):eR h 1 l.length av=some (uB k l):=by
 by_cases hl:l=[]
 · subst hl
   rcases x.known with rfl | ⟨p,o,n,c,b,rfl,_⟩<;>simp [eR,uB]
 rcases x.known with rfl | ⟨p,o,n,c,b,rfl,_⟩
 · have:=x.len
   rw[w_] at this
   simp only[Option.some.injEq,AV.int.injEq,true_and] at this
   exact absurd (List.length_eq_zero_iff.1 (show l.length=0 by omega)) hl
 · obtain ⟨rfl,h2⟩:=x.inv
   obtain ⟨_,C,f,ro,g,hv⟩:=h2 hl
   have hC:o+l.length≤C.length:=by
    have hp:0<l.length:=List.length_pos_iff.2 hl
    have:=hv (l.length - 1) _ (List.getElem?_eq_getElem (show l.length - 1<l.length by omega))
    have:=(List.getElem?_eq_some_iff.1 this).1
    omega
   have h0:¬l.length=0:=fun e=>hl (List.length_eq_zero_iff.1 e)
   simp only[eR,Nat.le_refl,if_true,h0,if_false,g,Nat.mul_one,hC]
   refine congrArg some (List.ext_getElem? fun i=>?_)
   by_cases hi:i<l.length
   · rw[List.getElem?_take_of_lt hi,List.getElem?_drop,hv i _ (List.getElem?_eq_getElem hi),sU (List.getElem?_eq_getElem hi)]
   · rw[List.getElem?_eq_none (by simp;omega),List.getElem?_eq_none (by rw[mK];omega)]
theorem NH {h:au} {k:IntKind} {e t:TypeId} {tys:Array TypeId} {d s:AV} {l:List Nat} {p o n:Nat} {C:List AV} {f:TypeId} (h0:tys[0]? =some t) (ht:E.P.underlying t=some (.slice e)) (hs:b7 E e=some 1) (w:V_ h d p o n C f) (x:eY E h k e s l) (hn:l.length≤n):
 uM E h tys d s=some (.int .i64 (l.length:Nat),h.put p (some (.cells (setFrom C o (uB k l)) f false))):=by
 obtain ⟨c,b,rfl,hc⟩:=w.is
 have hf:=w.fits
 have BF:eR h 1 (min l.length n) s=some (uB k l):=by
  rw[Nat.min_eq_left hn];exact x.first
 simp only[uM,h0,ht,x.kV,hs,BF,w.get]
 rw[if_pos ⟨by rw[mK];omega,Ad k l⟩,Nat.min_eq_left hn]
theorem Pn {e:TypeId} {s bytes n:Nat} {z:AV} (hs:b7 E e=some s) (hb:fh E e=some bytes) (hz:eU E e=some z) (hl:z.cells.length=s) (h8:bytes≤1024) (hn:n<2^30):
 NM E (some (.slice e)) (some (.int .i64 (n:Nat))) (some (.int .i64 (n:Nat)))=some (.cells (et z.cells n) e false,fun i=> .slice i 0 n n false):=by
 have h1:(bytes:Int)*(n:Int)≤1024*2^30:=by
  have:bytes*n≤1024*2^30:=Nat.mul_le_mul h8 (Nat.le_of_lt hn)
  omega
 simp only[NM,hs,hb,hz,hl]
 rw[if_pos ⟨by omega,by omega,by omega,by omega,trivial⟩]
 rfl
theorem Jq {e:TypeId} {p n c i:Nat} {op:Bool} {z:Int} (hs:b7 E e=some 1) (hi:i<n) (hz:z=(i:Nat)):dr E (some (.slice e)) (some (.slice p 0 n c op)) (some (.int .i64 z))=some (.ptr p i):=by
 subst hz
 have:=cx (E:=E) (e:=e) (i:=p) (o:=0) (len:=n) (c:=c) (z:=i) (b:=op) hs hi
 rw[Nat.zero_add,Nat.mul_one] at this
 exact this
theorem append_nil {h:au} {k:IntKind} {e s xt:TypeId} {tys:Array TypeId} {bytes:Nat} {z x:AV} {m:List Nat} (h0:tys[0]? =some s) (h1:tys[1]? =some xt) (hs:E.P.underlying s=some (.slice e)) (hx:E.P.underlying xt=some (.slice e)) (HY:b7 E e=some 1) (hb:fh E e=some bytes) (qf:eU E e=some z) (hz:z.cells.length=1) (h8:bytes≤15) (x1:eY E h k e x m) (hm:m≠ []) (hl:m.length≤1073741824):
 ∃h',bU E h tys .aQ x=some (.slice h.nx 0 m.length m.length true,h')∧h.new (.cells (uB k m) e false)=some h':=by
 obtain ⟨h',n⟩:=kF (h:=h) (.cells (uB k m) e false)
 refine ⟨h',?_,n⟩
 have hn:¬m.length=0:=fun e=>hm (List.length_eq_zero_iff.1 e)
 have F1:(4*m.length+4096)*(bytes+1)≤1099511627776:=Nat.le_trans (Nat.mul_le_mul (show 4*m.length+4096≤68719476736 by omega) (show bytes+1≤16 by omega)) (by decide)
 simp only[bU,h0,h1,hs,hx,kB,HY,hb,x1.kV,x1.first,qf,hz,Ad,mK,Nat.mul_one,hn,F1,n,if_true,if_false,and_self,Bool.false_eq_true]
end Go.Ab
end
section
namespace Go.Ab
variable {E:Env}
structure Pk (al:List mI) (p0 ps:List Prop):Prop where
 ok:lU p0→lU ps
section
variable {al:List mI} {p0 ps:List Prop}
theorem ZZ {p:List Prop}:Pk [] p p:=⟨id⟩
theorem AA (a:mI) (k:Pk al p0 ps):Pk (a::al) p0 ps:=⟨k.ok⟩
theorem CC (k:Pk al p0 ps):Pk (.c::al) p0 ps:=⟨k.ok⟩
def cs:Nat→List mI→List mI
 | 0,l=>l
 | n+1,l=> .c::cs n l
theorem CN (n:Nat) (k:Pk al p0 ps):Pk (cs n al) p0 ps:=⟨k.ok⟩
theorem HH {P:Prop} (h:P) (k:Pk al (P::p0) ps):Pk al p0 ps:=⟨fun c=>k.ok ⟨h,c⟩⟩
theorem VV {l:Option AV} {x:AV} (h:l=some x) (k:Pk al ((l=some x)::p0) ps):Pk (.v x::al) p0 ps:=⟨fun c=>k.ok ⟨h,c⟩⟩
theorem QQ {l:Option AV} {x:AV} (h:l=some x) (k:Pk al ((l=some x)::p0) ps):Pk (.q x::al) p0 ps:=⟨fun c=>k.ok ⟨h,c⟩⟩
theorem MM {l:Option AV} {x:AV} (h:l=some x) (k:Pk al ((l=some x)::p0) ps):Pk (.m x::al) p0 ps:=⟨fun c=>k.ok ⟨h,c⟩⟩
theorem TT (k:Pk al ((true=true)::p0) ps):Pk (.b true::al) p0 ps:=⟨fun c=>k.ok ⟨rfl,c⟩⟩
theorem FF (k:Pk al ((false=false)::p0) ps):Pk (.b false::al) p0 ps:=⟨fun c=>k.ok ⟨rfl,c⟩⟩
theorem BB {u v:Bool} (h:u=v) (k:Pk al ((u=v)::p0) ps):Pk (.b v::al) p0 ps:=⟨fun c=>k.ok ⟨h,c⟩⟩
theorem EE {call:bw} {f:Fn} {args:List AV} {h h':au} {x:AV} (e:call f args h= .ret x h') (k:Pk al ((call f args h= .ret x h')::p0) ps):Pk (.e x h'::al) p0 ps:=⟨fun c=>k.ok ⟨e,c⟩⟩
theorem SS {h h':au} {t:TypeId} {a v:AV} (s:eF E h t a v=some h') (k:Pk al ((AV.undef=AV.undef∧eF E h t a v=some h')::p0) ps):Pk (.e AV.undef h'::al) p0 ps:=⟨fun c=>k.ok ⟨⟨rfl,s⟩,c⟩⟩
theorem PP {l:Option (AV×au)} {x:AV} {h':au} (e:l=some (x,h')) (k:Pk al ((l=some (x,h'))::p0) ps):Pk (.e x h'::al) p0 ps:=⟨fun c=>k.ok ⟨e,c⟩⟩
theorem NN {h h':au} {obj:a_} (n:h.new obj=some h') (f:Nat→AV) (k:Pk al ((∃mk:Nat→AV,some (obj,f)=some (obj,mk)∧mk h.nx=f h.nx)::(h.new obj=some h')::p0) ps):Pk (.a obj (f h.nx) h'::al) p0 ps:=⟨fun c=>k.ok ⟨⟨f,rfl,rfl⟩,n,c⟩⟩
theorem KK {h h':au} {obj:a_} {l:Option (a_×(Nat→AV))} {f:Nat→AV} (e:l=some (obj,f)) (n:h.new obj=some h') (k:Pk al ((∃mk:Nat→AV,l=some (obj,mk)∧mk h.nx=f h.nx)::(h.new obj=some h')::p0) ps):Pk (.a obj (f h.nx) h'::al) p0 ps:=⟨fun c=>k.ok ⟨⟨f,e,rfl⟩,n,c⟩⟩
theorem LL {call:bw} {b:Code} {s s':St} {e:hZ} (ev:Ev E call b s e s') (k:Pk al ((Ev E call b s e s')::p0) ps):Pk (.l e s'::al) p0 ps:=⟨fun c=>k.ok ⟨ev,c⟩⟩
end
@[irreducible] def uS:R→List AV
  | .at _ s _ _=>s.ts
  | .bad=> []
theorem Zu {call:bw} {c:Code} {ts:List AV} {h h':au} {ds:List od} {rc:RC} {n:Nat} {e:hZ} {al:List mI} {ps:List Prop} (k:Pk al [] ps) (hr:run E call n c ⟨ts,h,ds,rc⟩ al []= .at e ⟨uS (run E call n c ⟨ts,h,ds,rc⟩ al []),h',ds,rc⟩ [] ps):Ev E call c ⟨ts,h,ds,rc⟩ e ⟨uS (run E call n c ⟨ts,h,ds,rc⟩ al []),h',ds,rc⟩:=Ce hr (k.ok trivial)
theorem aaZ {call:bw} {c:Code} {s s':St} {n:Nat} {e:hZ} {al:List mI} {ps:List Prop} (k:Pk al [] ps) (hr:run E call n c s al []= .at e s' [] ps):Ev E call c s e s':=Ce hr (k.ok trivial)
def rx (x:Nat→AV):Nat→Nat→List AV→List AV
 | _,0,l=>l
 | i,n+1,l=>x i::rx x (i+1) n l
def kX:Nat→List AV
 | 0=> []
 | n+1=>AV.undef::kX n
end Go.Ab
end
