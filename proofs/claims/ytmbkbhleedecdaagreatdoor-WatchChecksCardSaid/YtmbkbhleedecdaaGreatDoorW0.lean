import Derived.Test.YtmbkbhleedecdaaGreatDoorA8
import Derived.Test.YtmbkbhleedecdaaGreatDoorEnv
namespace Go.Proofs.aM
open Go.Proofs Ab
noncomputable section
set_option maxRecDepth 100000
set_option maxHeartbeats 4000000
set_option linter.unusedVariables false
set_option linter.unusedSimpArgs false
theorem aco {b:Bool} (h:b=true):(!b)=false:=by rw[h];rfl
theorem acp {b:Bool} (h:b=false):(!b)=true:=by rw[h];rfl
theorem eA (t:TypeId) (c d:Bool) (k:IntKind) (a b:Int):bu env .eql t c d (some (.int k a)) (some (.int k b))=some (.bool (decide (a=b))):=T7 t c d k a b
theorem cf (t:TypeId) (c d:Bool) (k:IntKind) (a b:Int):bu env .neq t c d (some (.int k a)) (some (.int k b))=some (.bool (!decide (a=b))):=T8 t c d k a b
theorem aY (t:TypeId) (c d:Bool) (k:IntKind) (a b:Int):bu env .lss t c d (some (.int k a)) (some (.int k b))=some (.bool (decide (a<b))):=T9 t c d k a b
theorem lg (t:TypeId) (c d:Bool) (k:IntKind) (a b:Int):bu env .leq t c d (some (.int k a)) (some (.int k b))=some (.bool (decide (a≤b))):=T_ t c d k a b
theorem b7 (t:TypeId) (c d:Bool) (k:IntKind) (a b:Int):bu env .gtr t c d (some (.int k a)) (some (.int k b))=some (.bool (decide (b<a))):=T' t c d k a b
theorem b9 (t:TypeId) (c d:Bool) (k:IntKind) (a b:Int):bu env .geq t c d (some (.int k a)) (some (.int k b))=some (.bool (decide (b≤a))):=Ua t c d k a b
theorem ni (t:TypeId) (c d:Bool) (a b:List UInt8):bu env .eql t c d (some (.str a)) (some (.str b))=some (.bool (decide (a=b))):=PZ t c d a b
theorem vE (t:TypeId) (c d:Bool) (a b:List UInt8):bu env .neq t c d (some (.str a)) (some (.str b))=some (.bool (!decide (a=b))):=P4 t c d a b
theorem qY (t:TypeId) (c d:Bool) {k:IntKind} {a b z:Int} (h:k.wrap (a+b)=z):bu env .add t c d (some (.int k a)) (some (.int k b))=some (.int k z):=vB h
theorem gD (t:TypeId) (c d:Bool) {k:IntKind} {a b z:Int} (h:k.wrap (a - b)=z):bu env .sub t c d (some (.int k a)) (some (.int k b))=some (.int k z):=J6 h
theorem Hn (t:TypeId) (c d:Bool) {k:IntKind} {a b z:Int} (h:k.wrap (a*b)=z):bu env .mul t c d (some (.int k a)) (some (.int k b))=some (.int k z):=Bt h
theorem ao (t:TypeId) (o:Nat) (v:AV) {h:ax} {i:Nat} {cs:List AV} {e:TypeId} {ro:Bool} (hg:h.get i=some (.cells cs e ro)) (hv:iY env t cs o=some v):bS env h t (.ptr i o)=some v:=P9 hg hv
theorem Np {a:Nat} (h:a<9223372036854775808):IntKind.i64.wrap (a:Int)=(a:Int):=wrap_i64 (by omega) (by omega)
theorem eZ (t:TypeId) (c d:Bool) (a b:Nat) (h:a+b<9223372036854775808):bu env .add t c d (some (.int .i64 (a:Int))) (some (.int .i64 (b:Int)))=some (.int .i64 ((a+b:Nat):Int)):=vB (by rw[show (a:Int)+b=((a+b:Nat):Int) by omega];exact Np h)
theorem pk_ (d:Nat) (c:Code) (ts:List AV) (h:ax) (ds:List ny) (rc:RC) (e:jY) (h':ax) {al:List mX} {ps:List Prop} (k:Pk al [] ps) (hr:run env (cT d) 300 c ⟨ts,h,ds,rc⟩ al []= .at e ⟨D8 (run env (cT d) 300 c ⟨ts,h,ds,rc⟩ al []),h',ds,rc⟩ [] ps):Ev env (cT d) c ⟨ts,h,ds,rc⟩ e ⟨D8 (run env (cT d) 300 c ⟨ts,h,ds,rc⟩ al []),h',ds,rc⟩:=VL k hr
theorem pk (d:Nat) (c:Code) (ts:List AV) (h:ax) (e:jY) (h':ax) {al:List mX} {ps:List Prop} (k:Pk al [] ps) (hr:run env (cT d) 300 c ⟨ts,h,[],.no⟩ al []= .at e ⟨D8 (run env (cT d) 300 c ⟨ts,h,[],.no⟩ al []),h',[],.no⟩ [] ps):Ev env (cT d) c ⟨ts,h,[],.no⟩ e ⟨D8 (run env (cT d) 300 c ⟨ts,h,[],.no⟩ al []),h',[],.no⟩:=VL k hr
theorem lk {h:ax} (y:Tidy h) (o:aK):∃h',h.new o=some h'∧Tidy h'∧h'.nx=h.nx+1∧h'.get h.nx=some o∧Has h h':=by
 obtain ⟨h',n⟩:=FC (h:=h) o
 exact ⟨h',n,wZ y n,J7 n,FA n,LX y n⟩
theorem aag {h:ax} {t e:TypeId} {i o n:Nat} {cs N:List AV} {v:AV} (y:Tidy h) (gg:h.get i=some (.cells cs e false)) (hs:b_ env t=some n) (hv:v.cells.length=n) (hl:Nat.ble (o+n) cs.length=true) (hN:setFrom cs o v.cells=N) (hk:v.cells.all AV.scalar=true):∃h',bY env h t (.ptr i o) v=some h'∧Tidy h'∧h'.nx=h.nx∧h'.get i=some (.cells N e false)∧Kept i h h':=by
 obtain ⟨h',s⟩:=H6 (E:=env) gg hs hv (Nat.le_of_ble_eq_true hl) hk
 exact ⟨h',s,Bz y s gg,By s gg,by rw[←hN];exact D1 y s gg,Kept.store y s gg⟩
theorem vF {h:ax} {t e:TypeId} {i n:Nat} {cs L:List AV} (y:Tidy h) (gg:h.get i=some (.cells cs e false)) (hs:b_ env t=some n) (hv:L.length=n) (hc:cs.length=n) (hk:L.all AV.scalar=true):∃h',bY env h t (.ptr i 0) (.agg L)=some h'∧Tidy h'∧h'.nx=h.nx∧h'.get i=some (.cells L e false)∧Kept i h h':=
 aag y gg hs hv (by rw[hc,Nat.zero_add,Nat.ble_eq];exact Nat.le_refl n) (by
  show setFrom cs 0 L=L
  apply List.ext_getElem?
  intro k
  rw[fl]
  split
  · rfl
  · rw[List.getElem?_eq_none (by omega),List.getElem?_eq_none (by omega)]) hk
structure Rk (f:List mX→List mX) (ps:List Prop):Prop where
 ok:lQ ps
section
variable {f:List mX→List mX} {ps:List Prop}
end
section
variable {f:List mX→List mX} {ps:List Prop}
theorem Rh {P:Prop} (h:P) (k:Rk f ps):Rk f (P::ps):=⟨⟨h,k.ok⟩⟩
end
theorem k! {p:Prop} (h:p:=by kernel_rfl):p:=h
theorem o! {p:Prop} (h:p:=by omega):p:=h
theorem nbf {b:Bool} (h:(!b)=false):b=true:=by cases b;cases h;rfl
theorem nbt {b:Bool} (h:(!b)=true):b=false:=by cases b;rfl;cases h
theorem d! {p:Prop} (h:p:=by first | assumption | exact aco (by assumption) | exact acp (by assumption) | exact nbf (by assumption) | exact nbt (by assumption) | exact dT (by omega) | exact dF (by omega) | exact nT (by omega) | exact nF (by omega)):p:=h
@[reducible] def _root_.Zi (x:Int):AV:= .int .i64 x
@[reducible] def _root_.Zn (n:Nat):AV:= .int .i64 (n:Int)
@[reducible] def _root_.Pt (b:Nat):AV:= .ptr b 0
theorem _root_.iI {c:Bool} (x y:Bool) (h:c=true):zB (some (.bool c)) (some (.bool x)) (some (.bool y))=some (.bool x):=Fv h
theorem _root_.pcf {c:Bool} (x y:Bool) (h:c=false):zB (some (.bool c)) (some (.bool x)) (some (.bool y))=some (.bool y):=aE h
theorem _root_.ml {c:Bool} (x:Bool) (h:c=true):zB (some (.bool c)) (some (.bool x)) (some AV.undef)=some (.bool x):=Fv h
theorem _root_.p_ {c:Bool} (x:Bool) (h:c=false):zB (some (.bool c)) (some AV.undef) (some (.bool x))=some (.bool x):=aE h
section
variable {al:List mX} {p0 ps:List Prop}
theorem BC {u v:Bool} (h:u=v) (k:Pk al ((u=v)::p0) ps):Pk (.b v:: .c::al) p0 ps:=BB h (CC k)
theorem BV {u v:Bool} {l:Option AV} {x:AV} (h:u=v) (e:l=some x) (k:Pk al ((l=some x)::(u=v)::p0) ps):Pk (.b v:: .v x::al) p0 ps:=BB h (VV e k)
theorem BM {u v:Bool} {l:Option AV} {x:AV} (h:u=v) (e:l=some x) (k:Pk al ((l=some x)::(u=v)::p0) ps):Pk (.b v:: .m x::al) p0 ps:=BB h (MM e k)
end
theorem _root_.Go.Ab.Has.eB {h0 h h':ax} {b:Nat} (a:Has h0 h) (k:Kept b h h') (y:Tidy h0) (hb:h0.nx≤b):Has h0 h':=fun i x g=>by
 have:=y i x g
 exact k i x o! (a i x g)
class aH (α:Type) extends Inhabited α where
 c:α→List AV
 n:Nat
 e:TypeId
 len:∀x,(c x).length=n
 ok:ax→α→Prop
 mono:∀{h h':ax} {x:α},Has h h'→ok h x→ok h' x
 size:b_ env e=some n
 agg:fT env e=some true
 pos:0<n
@[reducible] def imax (x y:Int):Int:=if y>x then y else x
@[reducible] def aee (x y:Int):Int:=if y<x then y else x
def _root_.List.g {α:Type} [Inhabited α] (l:List α) (i:Nat):α:=l.getD i default
structure aJ {α:Type} [aH α] (h:ax) (v:AV) (l:List α):Prop where
 at_:nh env h (aH.e α) (aH.n α) v l.length (l.flatMap aH.c)
 known:v= .aX∨v= .eR∨∃p o m c b,v= .slice p o m c b∧(b=true→0<c)
 SL:∀x∈l,aH.ok h x
theorem fP {α β:Type} {size:Nat} {f:α→List β} (hf:∀x,(f x).length=size) (l:List α):(l.flatMap f).length=l.length*size:=by
 induction l with
 | nil=>simp
 | cons x l ih=>rw[List.flatMap_cons,List.length_append,ih,hf,List.length_cons,Nat.succ_mul];omega
section
variable {α:Type} [aH α] {h:ax} {v:AV} {l:List α}
theorem aJ.has {h':ax} (x:aJ h v l) (a:Has h h'):aJ h' v l:=⟨x.at_.has a,x.known,fun y hy=>aH.mono a (x.SL y hy)⟩
theorem BF {i:Nat} (hi:i<l.length):l.g i∈l:=by
 rw[List.g,List.getD_eq_getElem?_getD,List.getElem?_eq_getElem hi];exact List.getElem_mem hi
theorem aJ.ok (x:aJ h v l) {i:Nat} (hi:i<l.length):aH.ok h (l.g i):=x.SL _ (BF hi)
theorem aJ.small (x:aJ h v l):l.length<2^60:=x.at_.small
theorem aJ.len (x:aJ h v l):cg (some (.slice (aH.e α))) (some v)=some (.int .i64 (l.length:Nat)):=x.at_.lens
theorem aJ.scalar (x:aJ h v l):AV.scalar v=true:=by
 rcases x.known with rfl | rfl | ⟨p,o,m,c,b,rfl,_⟩<;>rfl
theorem mF {β:Type} {size:Nat} {f:α→List β} (hf:∀x,(f x).length=size):∀(l:List α) (i j:Nat) (_:i<l.length),j<size→(l.flatMap f)[i*size+j]? =(f (l.g i))[j]?
 | [],i,j,hi,_=>by cases hi
 | x::l,0,j,_,hj=>by
   rw[List.flatMap_cons,Nat.zero_mul,Nat.zero_add,List.getElem?_append_left (by rw[hf];exact hj)];rfl
 | x::l,i+1,j,hi,hj=>by
   have e:(i+1)*size+j -(f x).length=i*size+j:=by rw[hf,Nat.succ_mul];omega
   rw[List.flatMap_cons,List.getElem?_append_right (by rw[hf,Nat.succ_mul];omega),e,mF hf l i j (by simpa using hi) hj];rfl
theorem aJ.elem (x:aJ h v l) {i:Nat} (hi:i<l.length):∃p q,b8 env (some (.slice (aH.e α))) (some v) (some (.int .i64 ((i:Nat):Int)))=some (.ptr p q):=by
 rcases x.at_.block with h0 | ⟨p,o,m,c,b,C,f,ro,h1,_,h2,h3⟩
 · omega
 · subst h1
   have hm:m=l.length:=by
    have:=x.at_.lens
    rw[iz] at this
    simp only[Option.some.injEq,AV.int.injEq,true_and] at this
    omega
   exact ⟨p,o+i*aH.n α,nV x.at_.size o!⟩
theorem aJ.block (x:aJ h v l) {i p q:Nat} (hi:i<l.length) (hx:b8 env (some (.slice (aH.e α))) (some v) (some (.int .i64 ((i:Nat):Int)))=some (.ptr p q)):
 ∃C f ro,h.get p=some (.cells C f ro)∧∀j,j<aH.n α→C[q+j]? =(aH.c (l.g i))[j]? :=by
 rcases x.at_.block with h0 | ⟨p',o,m,c,b,C,f,ro,h1,_,h2,h3⟩
 · omega
 · subst h1
   have hm:m=l.length:=by
    have:=x.at_.lens
    rw[iz] at this
    simp only[Option.some.injEq,AV.int.injEq,true_and] at this
    omega
   rw[nV x.at_.size o!] at hx
   simp only[Option.some.injEq,AV.ptr.injEq] at hx
   obtain ⟨rfl,rfl⟩:=hx
   refine ⟨C,f,ro,h2,fun j hj=>?_⟩
   have e:=mF aH.len l i j hi hj
   have lr:i*aH.n α+j<(l.flatMap aH.c).length:=by
    rw[fP aH.len]
    calc i*aH.n α+j<i*aH.n α+aH.n α:=by omega
     _=(i+1)*aH.n α:=by rw[Nat.succ_mul]
     _≤l.length*aH.n α:=Nat.mul_le_mul_right _ hi
   rw[←e,Nat.add_assoc,h3 _ lr]
theorem aJ.load (x:aJ h v l) {i p q:Nat} (hi:i<l.length) (hx:b8 env (some (.slice (aH.e α))) (some v) (some (.int .i64 ((i:Nat):Int)))=some (.ptr p q)):bS env h (aH.e α) (.ptr p q)=some (.agg (aH.c (l.g i))):=by
 obtain ⟨C,f,ro,h1,h2⟩:=x.block hi hx
 have hl:=aH.len (l.g i)
 have hn:q+aH.n α≤C.length:=by
  have h0:=aH.pos (α:=α)
  have:=h2 (aH.n α - 1) o!
  rw[List.getElem?_eq_getElem (by omega:aH.n α - 1<(aH.c (l.g i)).length)] at this
  have:=(List.getElem?_eq_some_iff.1 this).1
  omega
 simp only[bS,h1,iY,aH.agg,aH.size,hn,if_true]
 congr 2
 apply List.ext_getElem?
 intro j
 by_cases hj:j<aH.n α
 · rw[List.getElem?_take_of_lt hj,List.getElem?_drop,h2 j hj]
 · rw[List.getElem?_eq_none (by rw[List.length_take];omega),List.getElem?_eq_none o!]
theorem aJ.part (x:aJ h v l) {i p q j:Nat} {t:TypeId} {w:AV} (hi:i<l.length) (hx:b8 env (some (.slice (aH.e α))) (some v) (some (.int .i64 ((i:Nat):Int)))=some (.ptr p q)) (ht:fT env t=some false) (hw:(aH.c (l.g i))[j]? =some w):bS env h t (.ptr p (q+j))=some w:=by
 obtain ⟨C,f,ro,h1,h2⟩:=x.block hi hx
 have hj:=(List.getElem?_eq_some_iff.1 hw).1
 rw[aH.len] at hj
 simp only[bS,h1,iY,ht]
 rw[h2 j hj,hw]
theorem aJ.pre (x:aJ h v l) {t:TypeId} (ht:env.P.underlying t=some (.slice (aH.e α))) {i:Nat} (hi:i<l.length):∃r,dx env t v none (some (.int .i64 ((i:Nat):Int))) none=some r∧aJ h r (l.take i):=by
 rcases x.at_.block with h0 | ⟨p,o,m,c,b,C,f,ro,h1,hc,h2,h3⟩
 · omega
 · subst h1
   have hm:m=l.length:=by
    have:=x.at_.lens
    rw[iz] at this
    simp only[Option.some.injEq,AV.int.injEq,true_and] at this
    omega
   subst hm
   have hb:b=true→0<c:=fun e=>by omega
   refine ⟨.slice p o i c b,?_,⟨⟨x.at_.size,fP aH.len _,by have:=x.small;simp;omega,?_,.inr ⟨p,o,i,c,b,C,f,ro,rfl,by omega,h2,fun j hj=>?_⟩⟩,.inr (.inr ⟨_,_,_,_,_,rfl,hb⟩),fun y hy=>x.SL y (List.mem_of_mem_take hy)⟩⟩
   · simp only[dx,ht,x.at_.size,hc,if_true,nu (len:=l.length) (cap:=c) none (some (.int .i64 ((i:Nat):Int))) (.inr ⟨rfl,rfl⟩) (.inl rfl) (Nat.zero_le i) o!]
     rw[if_neg o!]
     simp
   · rw[List.length_take,Nat.min_eq_left o!];exact iz _ _ _ _ _ _
   · rw[fP aH.len,List.length_take,Nat.min_eq_left o!] at hj
     have lr:j<(l.flatMap aH.c).length:=by
      rw[fP aH.len];exact Nat.lt_of_lt_of_le hj (Nat.mul_le_mul_right _ o!)
     rw[h3 j lr]
     have e:l=l.take i++l.drop i:=(List.take_append_drop i l).symm
     conv=>lhs;rw[e,List.flatMap_append]
     rw[List.getElem?_append_left]
     rw[fP aH.len,List.length_take,Nat.min_eq_left o!];exact hj
def aB {ρ:Type} (call:a_) (b:Code) (s:St) (ex:jY) (hh:ax) (tn:(Nat→AV)→List AV) (tr:ρ→(Nat→AV)→List AV):Option ρ→Prop
 | none=>∃y hk,Ev env call (.loop b) s ex ⟨tn y,hk,[],.no⟩∧bW hh hk
 | some r=>∃y hk,Ev env call (.loop b) s .ret ⟨tr r y,hk,[],.no⟩∧bW hh hk
section
variable {ρ:Type} {call:a_} {b:Code} {s:St} {ex:jY} {hh hk:ax} {tn:(Nat→AV)→List AV} {tr:ρ→(Nat→AV)→List AV}
theorem aB.n {o:Option ρ} (e:o=none) (x:aB call b s ex hh tn tr o):∃y hk,Ev env call (.loop b) s ex ⟨tn y,hk,[],.no⟩∧bW hh hk:=by subst e;exact x
theorem aB.r {o:Option ρ} {r:ρ} (e:o=some r) (x:aB call b s ex hh tn tr o):∃y hk,Ev env call (.loop b) s .ret ⟨tr r y,hk,[],.no⟩∧bW hh hk:=by subst e;exact x
theorem aB.out {i:Nat} {L:List AV} {o:Option ρ} (e:o=none) (ev:Ev env call b s (.exit i) ⟨L,hk,[],.no⟩) (G:bW hh hk) (hl:L=tn fun k=>L.getD k AV.undef):aB call b s (.exit i) hh tn tr o:=by
 subst e
 obtain ⟨y,q⟩:=Dk (Ev.out ev) hl
 exact ⟨y,hk,q,G⟩
theorem aB.ret {L:List AV} {o:Option ρ} (r:ρ) (e:o=some r) (ev:Ev env call b s .ret ⟨L,hk,[],.no⟩) (G:bW hh hk) (hl:L=tr r fun k=>L.getD k AV.undef):aB call b s ex hh tn tr o:=by
 subst e
 obtain ⟨y,q⟩:=Dk (tmpl:=tr r) (Ev.ret ev) hl
 exact ⟨y,hk,q,G⟩
theorem aB.round {L:List AV} {o o':Option ρ} (e:o=o') (ev:Ev env call b s .normal ⟨L,hk,[],.no⟩) (G:bW hh hk) (tin:(Nat→AV)→List AV) (hl:L=tin fun k=>L.getD k AV.undef) (ih:∀x,aB call b ⟨tin x,hk,[],.no⟩ ex hk tn tr o'):aB call b s ex hh tn tr o:=by
 subst e
 have q:=ih fun k=>L.getD k AV.undef
 rw[←hl] at q
 cases o with
 | none=>obtain ⟨y,h2,x,g⟩:=q;exact ⟨y,h2,Ev.loop ev x,G.trans g⟩
 | some r=>obtain ⟨y,h2,x,g⟩:=q;exact ⟨y,h2,Ev.loop ev x,G.trans g⟩
end
def lA {ρ:Type} (call:a_) (b:Code) (s:St) (ex:jY) (h hh:ax) (tn:(Nat→AV)→List AV) (tr:ρ→(Nat→AV)→List AV) (pb:Nat) (cl:ρ→aK):Option ρ→Prop
 | none=>∃y hk,Ev env call (.loop b) s ex ⟨tn y,hk,[],.no⟩∧bW hh hk
 | some r=>∃y hk,Ev env call (.loop b) s .ret ⟨tr r y,hk,[],.no⟩∧Tidy hk∧Has h hk∧hh.nx≤hk.nx∧hk.get pb=some (cl r)
section
variable {ρ:Type} {call:a_} {b:Code} {s:St} {ex:jY} {h hh hk:ax} {tn:(Nat→AV)→List AV} {tr:ρ→(Nat→AV)→List AV} {pb:Nat} {cl:ρ→aK}
theorem lA.n {o:Option ρ} (e:o=none) (x:lA call b s ex h hh tn tr pb cl o):∃y hk,Ev env call (.loop b) s ex ⟨tn y,hk,[],.no⟩∧bW hh hk:=by subst e;exact x
theorem lA.r {o:Option ρ} {r:ρ} (e:o=some r) (x:lA call b s ex h hh tn tr pb cl o):∃y hk,Ev env call (.loop b) s .ret ⟨tr r y,hk,[],.no⟩∧Tidy hk∧Has h hk∧hh.nx≤hk.nx∧hk.get pb=some (cl r):=by subst e;exact x
theorem lA.out {i:Nat} {L:List AV} {o:Option ρ} (e:o=none) (ev:Ev env call b s (.exit i) ⟨L,hk,[],.no⟩) (G:bW hh hk) (hl:L=tn fun k=>L.getD k AV.undef):lA call b s (.exit i) h hh tn tr pb cl o:=by
 subst e
 obtain ⟨y,q⟩:=Dk (Ev.out ev) hl
 exact ⟨y,hk,q,G⟩
theorem lA.round {L:List AV} {o o':Option ρ} (e:o=o') (ev:Ev env call b s .normal ⟨L,hk,[],.no⟩) (G:bW hh hk) (tin:(Nat→AV)→List AV) (hl:L=tin fun k=>L.getD k AV.undef) (ih:∀x,lA call b ⟨tin x,hk,[],.no⟩ ex h hk tn tr pb cl o'):lA call b s ex h hh tn tr pb cl o:=by
 subst e
 have q:=ih fun k=>L.getD k AV.undef
 rw[←hl] at q
 cases o with
 | none=>obtain ⟨y,h2,x,g⟩:=q;exact ⟨y,h2,Ev.loop ev x,G.trans g⟩
 | some r=>obtain ⟨y,h2,x,y1,a1,n1,g1⟩:=q;exact ⟨y,h2,Ev.loop ev x,y1,a1,Nat.le_trans G.n n1,g1⟩
end
def jN {σ:Type} (call:a_) (b:Code) (s:St) (ex:jY) (hh:ax) (tn:σ→(Nat→AV)→List AV) (Q:σ→Prop) (r:σ):Prop:=∃y hk,Ev env call (.loop b) s ex ⟨tn r y,hk,[],.no⟩∧bW hh hk∧Q r
section
variable {σ:Type} {call:a_} {b:Code} {s:St} {ex:jY} {hh hk:ax} {tn:σ→(Nat→AV)→List AV} {Q:σ→Prop}
theorem jN.out {i:Nat} {L:List AV} {o:σ} (r:σ) (e:o=r) (ev:Ev env call b s (.exit i) ⟨L,hk,[],.no⟩) (G:bW hh hk) (iq:Q r) (hl:L=tn r fun k=>L.getD k AV.undef):jN call b s (.exit i) hh tn Q o:=by
 subst e
 obtain ⟨y,q⟩:=Dk (tmpl:=tn o) (Ev.out ev) hl
 exact ⟨y,hk,q,G,iq⟩
theorem jN.round {L:List AV} {o o':σ} (e:o=o') (ev:Ev env call b s .normal ⟨L,hk,[],.no⟩) (G:bW hh hk) (tin:(Nat→AV)→List AV) (hl:L=tin fun k=>L.getD k AV.undef) (ih:∀x,jN call b ⟨tin x,hk,[],.no⟩ ex hk tn Q o'):jN call b s ex hh tn Q o:=by
 subst e
 have q:=ih fun k=>L.getD k AV.undef
 rw[←hl] at q
 obtain ⟨y,h2,x,g,i⟩:=q;exact ⟨y,h2,Ev.loop ev x,G.trans g,i⟩
end
theorem aJ.same {α:Type} [aH α] {h:ax} {v:AV} {l:List α} (x:aJ h v l) (n:Nat):AV.same (n+1) v v=true:=by
 rcases x.known with rfl | rfl | ⟨p,o,m,c,b,rfl,_⟩
 · rfl
 · rfl
 · exact Bn n p o m c b
def Uk (cs:List AV):Prop:=∀n,eU (AV.same (n+1)) cs cs=true
theorem zG:Uk []:=fun _=>rfl
theorem eX {x:AV} {cs:List AV} (hx:∀n,AV.same (n+1) x x=true) (hc:Uk cs):Uk (x::cs):=fun n=>by
 show (AV.same (n+1) x x&&eU (AV.same (n+1)) cs cs)=true
 rw[hx,hc];rfl
theorem cW (n:Nat) {cs:List AV} (h:Uk cs):AV.same (n+2) (.agg cs) (.agg cs)=true:=h n
theorem jO {s:List UInt8} {j:Nat} (hj:j<s.length):j9 env (some .string) (some (.str s)) (some (.int .i64 ((j:Nat):Int)))=some (.int .u8 (((s.g j).toNat:Nat):Int)):=by
 refine P5 ?_
 rw[List.g,List.getD_eq_getElem?_getD,List.getElem?_eq_getElem hj];rfl
end
theorem Ie {h:ax} {e s xt:TypeId} {xd:TypeDesc} {tys:Array TypeId} {bytes:Nat} {z x:AV} {M:List AV} (h0:tys[0]? =some s) (h1:tys[1]? =some xt) (hs:env.P.underlying s=some (.slice e)) (hx:env.P.underlying xt=some xd) (hi:pM xd=false) (SJ:b_ env e=some 1) (hb:iu env e=some bytes) (SK:gz env e=some z) (hz:z.cells.length=1) (h8:bytes≤63) (hlen:rQ x=some M.length) (hf:g_ h 1 M.length x=some M) (MJ:M.all AV.scalar=true) (hm:M≠ []) (hl:M.length≤1073741824):
 ∃h',gq env h tys .aX x=some (.slice h.nx 0 M.length M.length true,h')∧h.new (.cells M e false)=some h':=by
 obtain ⟨h',n⟩:=FC (h:=h) (.cells M e false)
 refine ⟨h',?_,n⟩
 have hn:¬M.length=0:=fun e=>hm (List.length_eq_zero_iff.1 e)
 have ED:(4*M.length+4096)*(bytes+1)≤1099511627776:=Nat.le_trans (Nat.mul_le_mul (show 4*M.length+4096≤17179869184 by omega) (show bytes+1≤64 by omega)) (by decide)
 simp only[gq,h0,h1,hs,hx,hi,SJ,hb,hlen,hf,SK,hz,MJ,Nat.mul_one,hn,ED,n,if_true,if_false,and_self,Bool.false_eq_true]
theorem Ig {h:ax} {e s xt:TypeId} {xd:TypeDesc} {tys:Array TypeId} {bytes p:Nat} {op:Bool} {z x:AV} {L M:List AV} (y:Tidy h) (h0:tys[0]? =some s) (h1:tys[1]? =some xt) (hs:env.P.underlying s=some (.slice e)) (hx:env.P.underlying xt=some xd) (hi:pM xd=false) (SJ:b_ env e=some 1) (hb:iu env e=some bytes) (SK:gz env e=some z) (hz:z.cells.length=1) (h8:bytes≤63) (hlen:rQ x=some M.length) (hf:g_ h 1 M.length x=some M) (MJ:M.all AV.scalar=true) {n:Nat} (hn:L.length=n) (hm:M≠ []) (hl:n+M.length≤1073741824)
 (hg:h.get p=some (.cells L e false)):
 ∃h',gq env h tys (.slice p 0 n n op) x=some (.slice h.nx 0 (n+M.length) (n+M.length) true,h')∧Tidy h'∧h'.nx=h.nx+1∧Kept p h h'∧h'.get h.nx=some (.cells (L++M) e false):=by
 have hp:=y _ _ hg
 subst hn
 have ec:(L.drop 0).take (L.length*1)++M=L++M:=by
  rw[List.drop_zero,Nat.mul_one,List.take_of_length_le (Nat.le_refl _)]
 have y2:Tidy (if op then h.put p none else h):=by
  cases op with
  | false=>exact y
  | true=>
    intro i x g
    show i<h.nx
    by_cases hi:i=p
    · subst hi;exact hp
    · rw[if_pos rfl,ax.bP (Ne.symm hi)] at g;exact y i x g
 have n2:(if op then h.put p none else h).nx=h.nx:=by cases op<;>rfl
 obtain ⟨h',n⟩:=FC (h:=if op then h.put p none else h) (.cells (L++M) e false)
 refine ⟨h',?_,wZ y2 n,by rw[J7 n,n2],fun i x hi g=>?_,by rw[←n2];exact FA n⟩
 · have hn:0<M.length:=List.length_pos_iff.2 hm
   have ED:(4*(L.length+M.length)+4096)*(bytes+1)≤1099511627776:=Nat.le_trans (Nat.mul_le_mul (show 4*(L.length+M.length)+4096≤17179869184 by omega) (show bytes+1≤64 by omega)) (by decide)
   have hc:¬L.length+M.length≤L.length:=by omega
   simp only[gq,h0,h1,hs,hx,hi,SJ,hb,hlen,hf,SK,hz,MJ,hg,hc,if_true,if_false,Bool.false_eq_true,Nat.mul_one]
   rw[if_pos ⟨trivial,trivial,trivial⟩,if_pos ⟨ED,by omega,fun _=>⟨trivial,by omega,trivial⟩⟩]
   rw[show List.take L.length (List.drop 0 L)=L by rw[List.drop_zero,List.take_length],n]
 · refine Bw y2 n ?_
   cases op with
   | false=>exact g
   | true=>rw[if_pos rfl,ax.bP (Ne.symm hi)];exact g
def eg (e:TypeId) (h0 h:ax) (z:AV) (L:List AV):Prop:=(z= .aX∧L=[])∨(L≠ []∧∃p op,z= .slice p 0 L.length L.length op∧h0.nx≤p∧h.get p=some (.cells L e false))
theorem eg.has {e:TypeId} {h0 h h':ax} {z:AV} {L:List AV} (o:eg e h0 h z L) (a:Has h h'):eg e h0 h' z L:=o.imp id fun ⟨hn,p,op,e,h1,g⟩=>⟨hn,p,op,e,h1,a _ _ g⟩
theorem eg.le {e:TypeId} {h0 h1 h:ax} {z:AV} {L:List AV} (o:eg e h1 h z L) (hn:h0.nx≤h1.nx):eg e h0 h z L:=o.imp id fun ⟨ea,p,op,e,h1,g⟩=>⟨ea,p,op,e,by omega,g⟩
def zs (k:IntKind) (l:List Int):List AV:=l.map (AV.int k)
theorem FE (k:IntKind) (l:List Int):(zs k l).length=l.length:=by simp [zs]
theorem Xr (k:IntKind) (l:List Int) {i:Nat} (hi:i<l.length):(zs k l)[i]? =some (.int k (l.g i)):=by
 rw[zs,List.getElem?_map,List.getElem?_eq_getElem hi,List.g,List.getD_eq_getElem?_getD,List.getElem?_eq_getElem hi];rfl
structure ql (h:ax) (k:IntKind) (e:TypeId) (v:AV) (l:List Int):Prop where
 at_:nh env h e 1 v l.length (zs k l)
 agg:fT env e=some false
 known:v= .aX∨v= .eR∨∃p o m c b,v= .slice p o m c b
theorem ql.scalar {k:IntKind} {h:ax} {e:TypeId} {v:AV} {l:List Int} (x:ql h k e v l):AV.scalar v=true:=by
 rcases x.known with rfl | rfl | ⟨p,o,m,c,b,rfl⟩<;>rfl
theorem ql.same {k:IntKind} {h:ax} {e:TypeId} {v:AV} {l:List Int} (x:ql h k e v l) (n:Nat):AV.same (n+1) v v=true:=by
 rcases x.known with rfl | rfl | ⟨p,o,m,c,b,rfl⟩
 · rfl
 · rfl
 · exact Bn n p o m c b
theorem ql.VM {k:IntKind} {h:ax} {e:TypeId} {v:AV} {l:List Int} {m:Nat} (x:ql h k e v l) (e1:AV.map m=v):False:=by
 rcases x.known with rfl | rfl | ⟨p,o,n,c,b,rfl⟩<;>cases e1
theorem ql.small {k:IntKind} {h:ax} {e:TypeId} {v:AV} {l:List Int} (x:ql h k e v l):l.length<2^60:=x.at_.small
theorem ql.len {k:IntKind} {h:ax} {e:TypeId} {v:AV} {l:List Int} (x:ql h k e v l):cg (some (.slice e)) (some v)=some (.int .i64 (l.length:Nat)):=x.at_.lens
theorem ql.elem {k:IntKind} {h:ax} {e:TypeId} {v:AV} {l:List Int} (x:ql h k e v l) {i:Nat} (hi:i<l.length):∃p q,b8 env (some (.slice e)) (some v) (some (.int .i64 ((i:Nat):Int)))=some (.ptr p q)∧bS env h e (.ptr p q)=some (.int k (l.g i)):=x.at_.elem x.agg (Xr k l hi)
theorem ql.load {k:IntKind} {h:ax} {e:TypeId} {v:AV} {l:List Int} (x:ql h k e v l) {i p q:Nat} (hi:i<l.length) (hx:b8 env (some (.slice e)) (some v) (some (.int .i64 ((i:Nat):Int)))=some (.ptr p q)):bS env h e (.ptr p q)=some (.int k (l.g i)):=by
 obtain ⟨p',q',h1,h2⟩:=x.elem hi
 rw[hx] at h1
 simp only[Option.some.injEq,AV.ptr.injEq] at h1
 obtain ⟨rfl,rfl⟩:=h1
 exact h2
theorem ql.nil {k:IntKind} {h:ax} {e:TypeId} (hs:b_ env e=some 1) (ha:fT env e=some false):ql h k e .aX []:=⟨⟨hs,rfl,by decide,rfl,.inl rfl⟩,ha,.inl rfl⟩
theorem eg.zs {k:IntKind} {e:TypeId} {h0 h:ax} {z:AV} {l:List Int} (o:eg e h0 h z (aM.zs k l)) (hl:l.length<2^60) (hs:b_ env e=some 1) (ha:fT env e=some false):ql h k e z l:=by
 rcases o with ⟨rfl,e0⟩ | ⟨hn,p,op,rfl,_,hg⟩
 · have:l=[]:=List.length_eq_zero_iff.1 (by have:=congrArg List.length e0;rwa [FE] at this)
   subst this
   exact ql.nil hs ha
 · rw[FE]
   exact ⟨⟨hs,by rw[FE];omega,hl,rfl,.inr ⟨p,0,_,_,op,_,_,_,rfl,Nat.le_refl _,hg,fun j _=>by rw[Nat.zero_add]⟩⟩,ha,.inr (.inr ⟨_,_,_,_,_,rfl⟩)⟩
def xe {σ:Type} (call:a_) (b:Code) (s:St) (ex:jY) (h:ax) (e:TypeId) (tn:σ→AV→(Nat→AV)→List AV) (own:σ→List AV) (N:Nat) (r:σ):Prop:=∃z y hk,Ev env call (.loop b) s ex ⟨tn r z y,hk,[],.no⟩∧bW h hk∧eg e h hk z (own r)∧(own r).length≤N
section
variable {σ:Type} {call:a_} {b:Code} {s:St} {ex:jY} {h hk:ax} {e:TypeId} {tn:σ→AV→(Nat→AV)→List AV} {own:σ→List AV} {N:Nat}
theorem xe.out {i:Nat} {L:List AV} {o:σ} (r:σ) (z:AV) (e1:o=r) (ev:Ev env call b s (.exit i) ⟨L,hk,[],.no⟩) (G:bW h hk) (oz:eg e h hk z (own r)) (ln:(own r).length≤N) (hl:L=tn r z fun k=>L.getD k AV.undef):xe call b s (.exit i) h e tn own N o:=by
 subst e1
 obtain ⟨y,q⟩:=Dk (tmpl:=tn o z) (Ev.out ev) hl
 exact ⟨z,y,hk,q,G,oz,ln⟩
theorem xe.round {L:List AV} {o o':σ} (e1:o=o') (ev:Ev env call b s .normal ⟨L,hk,[],.no⟩) (tin:(Nat→AV)→List AV) (hl:L=tin fun k=>L.getD k AV.undef) (ih:∀x,xe call b ⟨tin x,hk,[],.no⟩ ex h e tn own N o'):xe call b s ex h e tn own N o:=by
 subst e1
 have q:=ih fun k=>L.getD k AV.undef
 rw[←hl] at q
 obtain ⟨z,y,h2,x,g,oz,ln⟩:=q;exact ⟨z,y,h2,Ev.loop ev x,g,oz,ln⟩
end
def uJ {α:Type} [aH α] (h0 h:ax) (z:AV) (l:List α):Prop:=
 ((z= .aX∨∃p,z= .slice p 0 0 0 false∧h0.nx≤p∧h.get p=some (.cells [] (aH.e α) false))∧l=[])∨
 (l≠ []∧∃p op,z= .slice p 0 l.length l.length op∧h0.nx≤p∧h.get p=some (.cells (l.flatMap aH.c) (aH.e α) false))
def cz (z:AV) (i:Nat):Prop:=∀o n c b,z≠ .slice i o n c b
section
variable {α:Type} [aH α] {h0 h h':ax} {z:AV} {l m:List α}
class Flat (α:Type) [aH α]:Prop where
 free:∀{h h':ax} {x:α},aH.ok h x→aH.ok h' x
theorem aJ.rQ {v:AV} (x:aJ h v l):rQ v=some l.length:=by
 have hl:=x.at_.lens
 rcases x.known with rfl | rfl | ⟨p,o,m,c,b,rfl,_⟩
 · rw[sI] at hl
   simp only[Option.some.injEq,AV.int.injEq,true_and] at hl
   rw[show l.length=0 by omega];rfl
 · rw[Xf] at hl
   simp only[Option.some.injEq,AV.int.injEq,true_and] at hl
   rw[show l.length=0 by omega];rfl
 · rw[iz] at hl
   simp only[Option.some.injEq,AV.int.injEq,true_and] at hl
   rw[show l.length=m by omega];rfl
theorem aJ.first {v:AV} (x:aJ h v l):g_ h (aH.n α) l.length v=some (l.flatMap aH.c):=by
 by_cases hl:l=[]
 · subst hl
   rcases x.known with rfl | rfl | ⟨p,o,m,c,b,rfl,_⟩<;>simp [g_]
 · have hlp:0<l.length:=List.length_pos_iff.2 hl
   have Tc:=fP aH.len l
   rcases x.at_.block with h0 | ⟨p,o,m,c,b,C,f,ro,h1,_,h2,h3⟩
   · omega
   · subst h1
     have hm:m=l.length:=by
      have:=x.at_.lens
      rw[iz] at this
      simp only[Option.some.injEq,AV.int.injEq,true_and] at this
      omega
     subst hm
     have hC:o+l.length*aH.n α≤C.length:=by
      rcases Nat.eq_zero_or_pos (l.length*aH.n α) with h0 | h0
      · have:=Nat.mul_pos hlp (aH.pos (α:=α));omega
      · have:=h3 (l.length*aH.n α - 1) o!
        rw[List.getElem?_eq_getElem (by omega:l.length*aH.n α - 1<(l.flatMap aH.c).length)] at this
        have:=(List.getElem?_eq_some_iff.1 this).1
        omega
     simp only[g_,Nat.le_refl,if_true,if_false,show ¬l.length=0 by omega,h2,hC]
     congr 1
     apply List.ext_getElem?
     intro j
     by_cases hj:j<l.length*aH.n α
     · rw[List.getElem?_take_of_lt hj,List.getElem?_drop,h3 j o!]
     · rw[List.getElem?_eq_none (by rw[List.length_take];omega),List.getElem?_eq_none o!]
end
structure Span where
 vG:Int
 qm:Int
@[reducible] def Span.c (x:Span):List AV:=[.int .i64 x.vG,.int .i64 x.qm]
def Span.ok (h:ax) (x:Span):Prop:=True
def Span.eq (x y:Span):Bool:=(x.vG==y.vG)&&(x.qm==y.qm)
theorem Span.deep (x y:Span):fV env 16 40 (.agg (Span.c x)) (.agg (Span.c y))=some (Span.eq x y):=by
 have e:fV env 16 40 (.agg (Span.c x)) (.agg (Span.c y))=(match some (x.vG==y.vG) with | some true=>(match some (x.qm==y.qm) with | some true=>some true | some false=>some false | none=>none) | some false=>some false | none=>none):=by kernel_rfl
 rw[e,Span.eq]
 cases (x.vG==y.vG)<;>try rfl
 cases (x.qm==y.qm)<;>try rfl
theorem Span.eql (x y:Span) {a b:Bool}:bu env .eql 40 a b (some (.agg (Span.c x))) (some (.agg (Span.c y)))=some (.bool (Span.eq x y)):=by
 show (if env.P.eqGuardType env.P.depth 40 then none else (match fV env 16 40 (.agg (Span.c x)) (.agg (Span.c y)) with | some r=>some (AV.bool (r)) | none=>none))=_
 rw[show env.P.eqGuardType env.P.depth 40=false by kernel_rfl,Span.deep];rfl
theorem Span.neq (x y:Span) {a b:Bool}:bu env .neq 40 a b (some (.agg (Span.c x))) (some (.agg (Span.c y)))=some (.bool (!Span.eq x y)):=by
 show (if env.P.eqGuardType env.P.depth 40 then none else (match fV env 16 40 (.agg (Span.c x)) (.agg (Span.c y)) with | some r=>some (AV.bool (!r)) | none=>none))=_
 rw[show env.P.eqGuardType env.P.depth 40=false by kernel_rfl,Span.deep];rfl
instance:aH Span where
 default:=⟨0,0⟩
 c:=Span.c
 n:=2
 e:=40
 len _:=rfl
 ok:=Span.ok
 mono a o:=o
 size:=by kernel_rfl
 agg:=by kernel_rfl
 pos:=by decide
instance:Flat Span where
 free o:=o
structure bn where
 name:List UInt8
 acc:Int
 aW:Int
 since:Int
@[reducible] def bn.c (x:bn):List AV:=[.str x.name,.int .i64 x.acc,.int .i64 x.aW,.int .i64 x.since]
def bn.ok (h:ax) (x:bn):Prop:=x.name.length<2^60
def bn.eq (x y:bn):Bool:=(x.name==y.name)&&(x.acc==y.acc)&&(x.aW==y.aW)&&(x.since==y.since)
theorem bn.deep (x y:bn):fV env 16 28 (.agg (bn.c x)) (.agg (bn.c y))=some (bn.eq x y):=by
 have e:fV env 16 28 (.agg (bn.c x)) (.agg (bn.c y))=(match some (x.name==y.name) with | some true=>(match some (x.acc==y.acc) with | some true=>(match some (x.aW==y.aW) with | some true=>(match some (x.since==y.since) with | some true=>some true | some false=>some false | none=>none) | some false=>some false | none=>none) | some false=>some false | none=>none) | some false=>some false | none=>none):=by kernel_rfl
 rw[e,bn.eq]
 cases (x.name==y.name)<;>try rfl
 cases (x.acc==y.acc)<;>try rfl
 cases (x.aW==y.aW)<;>try rfl
 cases (x.since==y.since)<;>try rfl
theorem bn.eql (x y:bn) {a b:Bool}:bu env .eql 28 a b (some (.agg (bn.c x))) (some (.agg (bn.c y)))=some (.bool (bn.eq x y)):=by
 show (if env.P.eqGuardType env.P.depth 28 then none else (match fV env 16 28 (.agg (bn.c x)) (.agg (bn.c y)) with | some r=>some (AV.bool (r)) | none=>none))=_
 rw[show env.P.eqGuardType env.P.depth 28=false by kernel_rfl,bn.deep];rfl
theorem bn.neq (x y:bn) {a b:Bool}:bu env .neq 28 a b (some (.agg (bn.c x))) (some (.agg (bn.c y)))=some (.bool (!bn.eq x y)):=by
 show (if env.P.eqGuardType env.P.depth 28 then none else (match fV env 16 28 (.agg (bn.c x)) (.agg (bn.c y)) with | some r=>some (AV.bool (!r)) | none=>none))=_
 rw[show env.P.eqGuardType env.P.depth 28=false by kernel_rfl,bn.deep];rfl
instance:aH bn where
 default:=⟨[],0,0,0⟩
 c:=bn.c
 n:=4
 e:=28
 len _:=rfl
 ok:=bn.ok
 mono a o:=o
 size:=by kernel_rfl
 agg:=by kernel_rfl
 pos:=by decide
instance:Flat bn where
 free o:=o
structure aQ where
 name:List UInt8
 aq:Int
 aj:Int
 aO:Int
 aR:Int
 bad:Int
 aD:AV
 ar:List bn
@[reducible] def aQ.c (x:aQ):List AV:=[.str x.name,.int .i64 x.aq,.int .i64 x.aj,.int .i64 x.aO,.int .i64 x.aR,.int .i64 x.bad,x.aD]
def aQ.ok (h:ax) (x:aQ):Prop:=x.name.length<2^60∧aJ h x.aD x.ar
instance:aH aQ where
 default:=⟨[],0,0,0,0,0,.aX,[]⟩
 c:=aQ.c
 n:=7
 e:=43
 len _:=rfl
 ok:=aQ.ok
 mono a o:=⟨o.1,(o.2).has a⟩
 size:=by kernel_rfl
 agg:=by kernel_rfl
 pos:=by decide
structure aL where
 name:List UInt8
 ba:List UInt8
 bx:Int
 eK:Int
 bm:Int
@[reducible] def aL.c (x:aL):List AV:=[.str x.name,.str x.ba,.int .i64 x.bx,.int .i64 x.eK,.int .i64 x.bm]
def aL.ok (h:ax) (x:aL):Prop:=x.name.length<2^60∧x.ba.length<2^60
def aL.eq (x y:aL):Bool:=(x.name==y.name)&&(x.ba==y.ba)&&(x.bx==y.bx)&&(x.eK==y.eK)&&(x.bm==y.bm)
theorem aL.deep (x y:aL):fV env 16 45 (.agg (aL.c x)) (.agg (aL.c y))=some (aL.eq x y):=by
 have e:fV env 16 45 (.agg (aL.c x)) (.agg (aL.c y))=(match some (x.name==y.name) with | some true=>(match some (x.ba==y.ba) with | some true=>(match some (x.bx==y.bx) with | some true=>(match some (x.eK==y.eK) with | some true=>(match some (x.bm==y.bm) with | some true=>some true | some false=>some false | none=>none) | some false=>some false | none=>none) | some false=>some false | none=>none) | some false=>some false | none=>none) | some false=>some false | none=>none):=by kernel_rfl
 rw[e,aL.eq]
 cases (x.name==y.name)<;>try rfl
 cases (x.ba==y.ba)<;>try rfl
 cases (x.bx==y.bx)<;>try rfl
 cases (x.eK==y.eK)<;>try rfl
 cases (x.bm==y.bm)<;>try rfl
theorem aL.eql (x y:aL) {a b:Bool}:bu env .eql 45 a b (some (.agg (aL.c x))) (some (.agg (aL.c y)))=some (.bool (aL.eq x y)):=by
 show (if env.P.eqGuardType env.P.depth 45 then none else (match fV env 16 45 (.agg (aL.c x)) (.agg (aL.c y)) with | some r=>some (AV.bool (r)) | none=>none))=_
 rw[show env.P.eqGuardType env.P.depth 45=false by kernel_rfl,aL.deep];rfl
theorem aL.neq (x y:aL) {a b:Bool}:bu env .neq 45 a b (some (.agg (aL.c x))) (some (.agg (aL.c y)))=some (.bool (!aL.eq x y)):=by
 show (if env.P.eqGuardType env.P.depth 45 then none else (match fV env 16 45 (.agg (aL.c x)) (.agg (aL.c y)) with | some r=>some (AV.bool (!r)) | none=>none))=_
 rw[show env.P.eqGuardType env.P.depth 45=false by kernel_rfl,aL.deep];rfl
instance:aH aL where
 default:=⟨[],[],0,0,0⟩
 c:=aL.c
 n:=5
 e:=45
 len _:=rfl
 ok:=aL.ok
 mono a o:=⟨o.1,o.2⟩
 size:=by kernel_rfl
 agg:=by kernel_rfl
 pos:=by decide
instance:Flat aL where
 free o:=o
structure bF where
 az:Int
 level:Int
 bq:Int
 measure:Int
@[reducible] def bF.c (x:bF):List AV:=[.int .i64 x.az,.int .i64 x.level,.int .i64 x.bq,.int .i64 x.measure]
def bF.ok (h:ax) (x:bF):Prop:=True
def bF.eq (x y:bF):Bool:=(x.az==y.az)&&(x.level==y.level)&&(x.bq==y.bq)&&(x.measure==y.measure)
theorem bF.deep (x y:bF):fV env 16 71 (.agg (bF.c x)) (.agg (bF.c y))=some (bF.eq x y):=by
 have e:fV env 16 71 (.agg (bF.c x)) (.agg (bF.c y))=(match some (x.az==y.az) with | some true=>(match some (x.level==y.level) with | some true=>(match some (x.bq==y.bq) with | some true=>(match some (x.measure==y.measure) with | some true=>some true | some false=>some false | none=>none) | some false=>some false | none=>none) | some false=>some false | none=>none) | some false=>some false | none=>none):=by kernel_rfl
 rw[e,bF.eq]
 cases (x.az==y.az)<;>try rfl
 cases (x.level==y.level)<;>try rfl
 cases (x.bq==y.bq)<;>try rfl
 cases (x.measure==y.measure)<;>try rfl
theorem bF.eql (x y:bF) {a b:Bool}:bu env .eql 71 a b (some (.agg (bF.c x))) (some (.agg (bF.c y)))=some (.bool (bF.eq x y)):=by
 show (if env.P.eqGuardType env.P.depth 71 then none else (match fV env 16 71 (.agg (bF.c x)) (.agg (bF.c y)) with | some r=>some (AV.bool (r)) | none=>none))=_
 rw[show env.P.eqGuardType env.P.depth 71=false by kernel_rfl,bF.deep];rfl
theorem bF.neq (x y:bF) {a b:Bool}:bu env .neq 71 a b (some (.agg (bF.c x))) (some (.agg (bF.c y)))=some (.bool (!bF.eq x y)):=by
 show (if env.P.eqGuardType env.P.depth 71 then none else (match fV env 16 71 (.agg (bF.c x)) (.agg (bF.c y)) with | some r=>some (AV.bool (!r)) | none=>none))=_
 rw[show env.P.eqGuardType env.P.depth 71=false by kernel_rfl,bF.deep];rfl
instance:aH bF where
 default:=⟨0,0,0,0⟩
 c:=bF.c
 n:=4
 e:=71
 len _:=rfl
 ok:=bF.ok
 mono a o:=o
 size:=by kernel_rfl
 agg:=by kernel_rfl
 pos:=by decide
instance:Flat bF where
 free o:=o
structure bO where
 ae:AV
 ab:List aQ
 ag:AV
 af:List aL
 au:AV
 ai:List bF
@[reducible] def bO.c (x:bO):List AV:=[x.ae,x.ag,x.au]
def bO.ok (h:ax) (x:bO):Prop:=aJ h x.ae x.ab∧aJ h x.ag x.af∧aJ h x.au x.ai
instance:aH bO where
 default:=⟨.aX,[],.aX,[],.aX,[]⟩
 c:=bO.c
 n:=3
 e:=26
 len _:=rfl
 ok:=bO.ok
 mono a o:=⟨(o.1).has a,(o.2.1).has a,(o.2.2).has a⟩
 size:=by kernel_rfl
 agg:=by kernel_rfl
 pos:=by decide
theorem rO {p:Prop} [Decidable p] (h:(!decide p)=true):¬p:=by intro q;rw[decide_eq_true q] at h;cases h
theorem rP {p:Prop} [Decidable p] (h:(!decide p)=false):p:=by by_cases q:p;exact q;rw[decide_eq_false q] at h;cases h
def bs (l:List Bool):List AV:=l.map AV.bool
theorem Xs (l:List Bool):(bs l).length=l.length:=by simp [bs]
theorem Xt (l:List Bool) {i:Nat} (hi:i<l.length):(bs l)[i]? =some (.bool (l.g i)):=by
 rw[bs,List.getElem?_map,List.getElem?_eq_getElem hi,List.g,List.getD_eq_getElem?_getD,List.getElem?_eq_getElem hi];rfl
section
variable {h:ax} {t e:TypeId} {p i n:Nat}
end
structure Dm (h:ax) (e:TypeId) (v:AV) (l:List Bool):Prop where
 at_:nh env h e 1 v l.length (bs l)
 agg:fT env e=some false
section
variable {h h':ax} {e:TypeId} {v:AV} {l:List Bool}
theorem Dm.scalar (x:Dm h e v l):AV.scalar v=true:=by
 have q:=x.at_.lens
 cases v<;>first | rfl | (exfalso;revert q;simp [cg])
theorem Dm.small (x:Dm h e v l):l.length<2^60:=x.at_.small
theorem Dm.elem (x:Dm h e v l) {i:Nat} (hi:i<l.length):∃p q,b8 env (some (.slice e)) (some v) (some (.int .i64 ((i:Nat):Int)))=some (.ptr p q)∧bS env h e (.ptr p q)=some (.bool (l.g i)):=x.at_.elem x.agg (Xt l hi)
theorem Dm.load (x:Dm h e v l) {i p q:Nat} (hi:i<l.length) (hx:b8 env (some (.slice e)) (some v) (some (.int .i64 ((i:Nat):Int)))=some (.ptr p q)):bS env h e (.ptr p q)=some (.bool (l.g i)):=by
 obtain ⟨p',q',h1,h2⟩:=x.elem hi
 rw[hx] at h1
 simp only[Option.some.injEq,AV.ptr.injEq] at h1
 obtain ⟨rfl,rfl⟩:=h1
 exact h2
theorem Dm.own {p n:Nat} {op ro:Bool} {f:TypeId} (hs:b_ env e=some 1) (ha:fT env e=some false) (hg:h.get p=some (.cells (bs l) f ro)) (hn:l.length=n) (h60:n<2^60):Dm h e (.slice p 0 n n op) l:=by
 subst hn
 exact ⟨⟨hs,by rw[Xs];omega,h60,rfl,.inr ⟨p,0,_,_,op,_,_,_,rfl,Nat.le_refl _,hg,fun j _=>by rw[Nat.zero_add]⟩⟩,ha⟩
theorem ql.own {k:IntKind} {p n:Nat} {op ro:Bool} {f:TypeId} {l:List Int} (hs:b_ env e=some 1) (ha:fT env e=some false) (hg:h.get p=some (.cells (zs k l) f ro)) (hn:l.length=n) (h60:n<2^60):ql h k e (.slice p 0 n n op) l:=by
 subst hn
 exact ⟨⟨hs,by rw[FE];omega,h60,rfl,.inr ⟨p,0,_,_,op,_,_,_,rfl,Nat.le_refl _,hg,fun j _=>by rw[Nat.zero_add]⟩⟩,ha,.inr (.inr ⟨_,_,_,_,_,rfl⟩)⟩
end
def xf {σ ρ:Type} (call:a_) (b:Code) (s:St) (ex:jY) (hh:ax) (tn:σ→AV→(Nat→AV)→List AV) (tr:ρ→AV→(Nat→AV)→List AV) (Qn:σ→AV→ax→Prop) (Qr:ρ→AV→ax→Prop):σ ⊕ ρ→Prop
 | .inl v=>∃z y hk,Ev env call (.loop b) s ex ⟨tn v z y,hk,[],.no⟩∧Tidy hk∧hh.nx≤hk.nx∧Qn v z hk
 | .inr r=>∃z y hk,Ev env call (.loop b) s .ret ⟨tr r z y,hk,[],.no⟩∧Tidy hk∧hh.nx≤hk.nx∧Qr r z hk
section
variable {σ ρ:Type} {call:a_} {b:Code} {s:St} {ex:jY} {hh hk:ax} {tn:σ→AV→(Nat→AV)→List AV} {tr:ρ→AV→(Nat→AV)→List AV} {Qn:σ→AV→ax→Prop} {Qr:ρ→AV→ax→Prop}
theorem xf.n {o:σ ⊕ ρ} {v:σ} (e:o= .inl v) (x:xf call b s ex hh tn tr Qn Qr o):∃z y hk,Ev env call (.loop b) s ex ⟨tn v z y,hk,[],.no⟩∧Tidy hk∧hh.nx≤hk.nx∧Qn v z hk:=by subst e;exact x
theorem xf.r {o:σ ⊕ ρ} {r:ρ} (e:o= .inr r) (x:xf call b s ex hh tn tr Qn Qr o):∃z y hk,Ev env call (.loop b) s .ret ⟨tr r z y,hk,[],.no⟩∧Tidy hk∧hh.nx≤hk.nx∧Qr r z hk:=by subst e;exact x
theorem xf.out {i:Nat} {L:List AV} {o:σ ⊕ ρ} (v:σ) (z:AV) (e:o= .inl v) (ev:Ev env call b s (.exit i) ⟨L,hk,[],.no⟩) (y1:Tidy hk) (n1:hh.nx≤hk.nx) (q:Qn v z hk) (hl:L=tn v z fun k=>L.getD k AV.undef):xf call b s (.exit i) hh tn tr Qn Qr o:=by
 subst e
 obtain ⟨y,x⟩:=Dk (tmpl:=tn v z) (Ev.out ev) hl
 exact ⟨z,y,hk,x,y1,n1,q⟩
theorem xf.round {L:List AV} {o o':σ ⊕ ρ} (e:o=o') (ev:Ev env call b s .normal ⟨L,hk,[],.no⟩) (n1:hh.nx≤hk.nx) (tin:(Nat→AV)→List AV) (hl:L=tin fun k=>L.getD k AV.undef) (ih:∀x,xf call b ⟨tin x,hk,[],.no⟩ ex hk tn tr Qn Qr o'):xf call b s ex hh tn tr Qn Qr o:=by
 subst e
 have q:=ih fun k=>L.getD k AV.undef
 rw[←hl] at q
 cases o with
 | inl v=>obtain ⟨z,y,h2,x,y1,n2,g⟩:=q;exact ⟨z,y,h2,Ev.loop ev x,y1,Nat.le_trans n1 n2,g⟩
 | inr r=>obtain ⟨z,y,h2,x,y1,n2,g⟩:=q;exact ⟨z,y,h2,Ev.loop ev x,y1,Nat.le_trans n1 n2,g⟩
end
theorem Ev.to {call:a_} {b:Code} {s:St} {e:jY} {L L':List AV} {hk:ax} (ev:Ev env call b s e ⟨L,hk,[],.no⟩) (hl:L=L'):Ev env call b s e ⟨L',hk,[],.no⟩:=hl▸ev
theorem Qo {v:AV} (h:AV.scalar v=true):v.cells=[v]:=by cases v<;>first | rfl | cases h
theorem acs {h:ax} {t e:TypeId} {i o:Nat} {cs N:List AV} {v:AV} (y:Tidy h) (gg:h.get i=some (.cells cs e false)) (hs:b_ env t=some 1) (hk:AV.scalar v=true) (hl:Nat.ble (o+1) cs.length=true) (hN:setFrom cs o [v]=N):∃h',bY env h t (.ptr i o) v=some h'∧Tidy h'∧h'.nx=h.nx∧h'.get i=some (.cells N e false)∧Kept i h h':=by
 have c:=Qo hk
 exact aag y gg hs (by rw[c];rfl) hl (by rw[c];exact hN) (by rw[c];simp [hk])
section
variable {α:Type} [aH α]
theorem uJ.le {h0 h1 h:ax} {z:AV} {l:List α} (o:uJ h1 h z l) (hn:h0.nx≤h1.nx):uJ h0 h z l:=by
 rcases o with ⟨rfl | ⟨p,rfl,h1,h2⟩,rfl⟩ | ⟨ea,p,op,e,h1,g⟩
 · exact .inl ⟨.inl rfl,rfl⟩
 · exact .inl ⟨.inr ⟨p,rfl,by omega,h2⟩,rfl⟩
 · exact .inr ⟨ea,p,op,e,by omega,g⟩
def sN {σ:Type} (call:a_) (b:Code) (s:St) (ex:jY) (h:ax) (tn:σ→AV→(Nat→AV)→List AV) (own:σ→List α) (N:Nat) (r:σ):Prop:=∃z y hk,Ev env call (.loop b) s ex ⟨tn r z y,hk,[],.no⟩∧bW h hk∧uJ h hk z (own r)∧(∀y∈own r,aH.ok hk y)∧(own r).length≤N
variable {σ:Type} {call:a_} {b:Code} {s:St} {ex:jY} {h hk:ax} {tn:σ→AV→(Nat→AV)→List AV} {own:σ→List α} {N:Nat}
theorem sN.out {i:Nat} {L:List AV} {o:σ} (r:σ) (z:AV) (e1:o=r) (ev:Ev env call b s (.exit i) ⟨L,hk,[],.no⟩) (G:bW h hk) (oz:uJ h hk z (own r)) (ok:∀y∈own r,aH.ok hk y) (ln:(own r).length≤N) (hl:L=tn r z fun k=>L.getD k AV.undef):sN call b s (.exit i) h tn own N o:=by
 subst e1
 obtain ⟨y,q⟩:=Dk (tmpl:=tn o z) (Ev.out ev) hl
 exact ⟨z,y,hk,q,G,oz,ok,ln⟩
theorem sN.round {L:List AV} {o o':σ} (e1:o=o') (ev:Ev env call b s .normal ⟨L,hk,[],.no⟩) (tin:(Nat→AV)→List AV) (hl:L=tin fun k=>L.getD k AV.undef) (ih:∀x,sN call b ⟨tin x,hk,[],.no⟩ ex h tn own N o'):sN call b s ex h tn own N o:=by
 subst e1
 have q:=ih fun k=>L.getD k AV.undef
 rw[←hl] at q
 obtain ⟨z,y,h2,x,g,oz,ok,ln⟩:=q;exact ⟨z,y,h2,Ev.loop ev x,g,oz,ok,ln⟩
end
section
variable {α:Type} [aH α]
theorem Qq {l:List α} {i:Nat} (h:i<l.length) (x:α):(l.set i x).g i=x:=by
 rw[List.g,List.getD_eq_getElem?_getD,List.getElem?_set_self h];rfl
theorem Qs {l:List α} {i j:Nat} (h:i≠j) (x:α):(l.set i x).g j=l.g j:=by
 rw[List.g,List.g,List.getD_eq_getElem?_getD,List.getD_eq_getElem?_getD,List.getElem?_set_ne h]
theorem FH {l:List α} {i:Nat} (h:i<l.length) (x:α):setFrom (l.flatMap aH.c) (i*aH.n α) (aH.c x)=(l.set i x).flatMap aH.c:=by
 have hn:0<aH.n α:=aH.pos
 have hl:=fP aH.len l
 have Vi:=fP aH.len (l.set i x)
 rw[List.length_set] at Vi
 have hx:=aH.len x
 apply List.ext_getElem?
 intro k
 rw[fl,hx,hl]
 have hk:k=k/aH.n α*aH.n α+k%aH.n α:=by rw[Nat.mul_comm];exact (Nat.div_add_mod k _).symm
 have hr:=Nat.mod_lt k hn
 generalize k/aH.n α=q at hk
 generalize k%aH.n α=r at hk hr
 by_cases hq:q<l.length
 · have h1:=mF aH.len l q r hq hr
   have h2:=mF aH.len (l.set i x) q r (by rw[List.length_set];exact hq) hr
   subst hk
   by_cases e:q=i
   · subst e
     have:q*aH.n α+aH.n α≤l.length*aH.n α:=by rw[←Nat.succ_mul];exact Nat.mul_le_mul_right _ hq
     rw[if_pos ⟨by omega,by omega,by omega⟩,h2,Qq hq,Nat.add_sub_cancel_left]
   · rw[if_neg,h1,h2,Qs (Ne.symm e)]
     intro ⟨a,b,c⟩
     rcases Nat.lt_or_gt_of_ne e with e | e
     · have:q*aH.n α+aH.n α≤i*aH.n α:=by rw[←Nat.succ_mul];exact Nat.mul_le_mul_right _ e
       omega
     · have:i*aH.n α+aH.n α≤q*aH.n α:=by rw[←Nat.succ_mul];exact Nat.mul_le_mul_right _ e
       omega
 · have:l.length*aH.n α≤q*aH.n α:=Nat.mul_le_mul_right _ o!
   rw[if_neg o!,List.getElem?_eq_none o!,List.getElem?_eq_none o!]
theorem uJ.at {h0 h:ax} {z:AV} {l:List α} (y:Tidy h) (y0:Tidy h0) (a:Has h0 h) (o:uJ h0 h z l) {i:Nat} (hi:i<l.length):
 ∃p,b8 env (some (.slice (aH.e α))) (some z) (some (.int .i64 ((i:Nat):Int)))=some (.ptr p (i*aH.n α))∧
  ∀x:α,(aH.c x).all AV.scalar=true→∃h',bY env h (aH.e α) (.ptr p (i*aH.n α)) (.agg (aH.c x))=some h'∧Tidy h'∧h'.nx=h.nx∧uJ h0 h' z (l.set i x)∧Has h0 h':=by
 rcases o with ⟨_,rfl⟩ | ⟨hn,p,op,rfl,hp,hg⟩
 · simp at hi
 · have ix:=nV (E:=env) (i:=p) (o:=0) (c:=l.length) (b:=op) (aH.size (α:=α)) hi
   rw[Nat.zero_add] at ix
   refine ⟨p,ix,fun x hx=>?_⟩
   have hl:=fP aH.len l
   have hb:i*aH.n α+aH.n α≤l.length*aH.n α:=by rw[←Nat.succ_mul];exact Nat.mul_le_mul_right _ hi
   obtain ⟨h',s⟩:=H6 (E:=env) (t:=aH.e α) (o:=i*aH.n α) (n:=aH.n α) (v:= .agg (aH.c x)) hg aH.size (aH.len x) o! hx
   have g':=D1 y s hg
   refine ⟨h',s,Bz y s hg,By s hg,.inr ⟨by intro e;rw[←List.length_eq_zero_iff,List.length_set] at e;omega,p,op,by rw[List.length_set],hp,?_⟩,fun j w gw=>?_⟩
   · rw[g']
     show some (aK.cells (setFrom (l.flatMap aH.c) (i*aH.n α) (aH.c x)) _ _)=_
     rw[FH hi]
   · have:=y0 _ _ gw
     exact Bx y s hg o! (a _ _ gw)
end

section
variable {h:ax} {b:Nat} {pre post:List AV} {L:List Int} {e:TypeId} {ro:Bool} {o t j x:Nat}
theorem abD {h:ax} {b:Nat} {o:aK} (y:Tidy h) (g:h.get b=some o):∃hw,Tidy hw∧hw.nx=h.nx∧hw.get b=none∧Has hw h∧∀i,i≠b→hw.get i=h.get i:=
 ⟨h.put b none,fun i x q=>by
  by_cases e:i=b
  · subst e;rw[ax.cn] at q;cases q
  · rw[ax.bP (Ne.symm e)] at q;exact y i x q,rfl,ax.cn _,fun i x q=>by
  by_cases e:i=b
  · subst e;rw[ax.cn] at q;cases q
  · rw[ax.bP (Ne.symm e)] at q;exact q,fun i e=>ax.bP (Ne.symm e) _⟩
end
def vH:Code:=(Tryz.f69.body).getD .skip
theorem Aa:Tryz.f69.body=some vH:=by kernel_rfl
def gQ (o:bF) (c:bF):Bool:=(decide (o.measure=c.measure))
theorem Ac {d:Nat} {h:ax} (o:bF) (c:bF) (cB:Nat) (Gt:aH.ok h o) (h_c:aH.ok h c) (Qt:h.get cB=some (.cells (aH.c c) 71 false)) (ca:Tidy h):cT (d+1) (.fn 69) [(AV.agg [(Zi o.az),(Zi o.level),(Zi o.bq),(Zi o.measure)]),(Pt cB)] h= .ret (AV.bool (gQ o c)) h:=by
 obtain ⟨h1,br,cD,lh,aA,dC⟩:=lk ca (aK.cells [(Zi o.az),(Zi o.level),(Zi o.bq),(Zi o.measure)] 71 false)
 have bB:Has h h1:=dC
 have e:gQ o c=(decide (o.measure=c.measure)):=by simp only[gQ,ak,ah]
 rw[e]
 exact aw rfl (aI Tryz.func69 Aa rfl (.inr rfl) (pk (d) _ _ h _ h1 (NN br (fun i=>(Pt i))<|CN 2<|MM (ao 3 3 (Zi o.measure) aA k!)<|CC<|MM (ao 3 3 (Zi c.measure) (dC _ _ Qt) k!)<|VV (eA 3 false false .i64 o.measure c.measure)<|CC<|ZZ) k!) k!) bB rfl
def po:Code:=(Tryz.f90.body).getD .skip
theorem sO:Tryz.f90.body=some po:=by kernel_rfl
def yL:Code:=(b5 po).getD 0 .skip
def dR (s:List bF) (P:bF→Bool):Nat→Nat→Option (Int)
 | 0,_=>none
 | eC+1,i0=>(bif (P (s.g i0)) then some ((i0:Nat):Int) else dR s P eC (i0+1))
theorem lB {d:Nat} {h:ax} (sV:AV) (g:FuncId) (cap:List AV) (s:List bF) (P:bF→Bool) (bh:aJ h sV s) (hP:∀y∈s,∀hh,Tidy hh→Has h hh→cT d (.fn g) (.agg (aH.c y)::cap) hh= .ret (.bool (P y)) hh):∀(k_ i_:Nat) (_:i_+k_=s.length) (x:Nat→AV) (hh:ax) (aF:Tidy hh) (aG:Has h hh),aB (cT (d)) yL ⟨(sV::(AV.func g [] cap)::rx x 2 5 ((Zn s.length)::(Zn i_)::rx x 9 10 [])),hh,[],.no⟩ (.exit 0) hh (fun y=>(sV::(AV.func g [] cap)::rx y 2 5 ((Zn s.length)::rx y 8 11 []))) (fun r y=>(sV::(AV.func g [] cap)::(y 2)::(y 3)::(Zi r)::(y 5)::(y 6)::(Zn s.length)::rx y 8 11 [])) (dR s P k_ i_)
 | 0,i0,jh,x,hh,aF,aG=>by
   have dp:=bh.small
   have q1:(decide (((i0:Nat):Int)<((s.length:Nat):Int)))=false:=d!
   exact aB.out rfl (pk (d) _ _ hh _ hh (VV (aY 3 false false .i64 ((i0:Nat):Int) ((s.length:Nat):Int))<|BB q1<|ZZ) k!) (bW.refl aF) k!
 | eC+1,i0,jh,x,hh,aF,aG=>by
   have dp:=bh.small
   have q1:(decide (((i0:Nat):Int)<((s.length:Nat):Int)))=true:=d!
   obtain ⟨p3,q4,eD⟩:=(bh.has aG).elem (i:=i0) o!
   have ik:b8 env (some (.slice 71)) (some sV) (some (Zn i0))=some (AV.ptr p3 q4):=eD
   have ji:bS env hh 71 (AV.ptr p3 q4)=some (AV.agg [(Zi (s.g i0).az),(Zi (s.g i0).level),(Zi (s.g i0).bq),(Zi (s.g i0).measure)]):=(bh.has aG).load o! eD
   have k6:=hP (s.g i0) (BF o!) hh aF aG
   rcases Bool.eq_false_or_eq_true (P (s.g i0)) with f1 | f1
   · exact aB.ret ((i0:Nat):Int) (by simp only[dR,f1,ak,ah]) (pk (d) _ _ hh _ hh (VV (aY 3 false false .i64 ((i0:Nat):Int) ((s.length:Nat):Int))<|BB q1<|CN 5<|VV ik<|MM ji<|EE k6<|BB f1<|CN 2<|ZZ) k!) (bW.refl aF) k!
   · have u8:=eZ 3 false true i0 1 o!
     exact aB.round (by simp only[dR,f1,ak,ah]) (pk (d) _ _ hh _ hh (VV (aY 3 false false .i64 ((i0:Nat):Int) ((s.length:Nat):Int))<|BB q1<|CN 5<|VV ik<|MM ji<|EE k6<|BV f1 u8<|CC<|ZZ) k!) (bW.refl aF) _ k! (fun x=>lB sV g cap s P bh hP eC (i0+1) o! x hh aF aG)
def fJ (s:List bF) (P:bF→Bool):Int:=(match (dR s P s.length 0) with | none=>(-1) | some Ka=>Ka)
theorem BG {d:Nat} {h:ax} {sV:AV} {g:FuncId} {cap:List AV} (s:List bF) (P:bF→Bool) (sP:aJ h sV s) (hP:∀y∈s,∀hh,Tidy hh→Has h hh→cT d (.fn g) (.agg (aH.c y)::cap) hh= .ret (.bool (P y)) hh) (ca:Tidy h):cT (d+1) (.fn 90) [sV,(AV.func g [] cap)] h= .ret (Zi (fJ s P)) h:=by
 have BH:=sP.small
 have eb:cg (some (.slice 71)) (some sV)=some (Zn s.length):=sP.len
 cases iB:dR s P s.length 0 with
 | none=>
   obtain ⟨N',h3,js,kG⟩:=aB.n iB (lB (d:=d) (h:=h) sV g cap s P sP hP s.length 0 o! (fun k_=>((sV::(AV.func g [] cap)::AV.undef::AV.undef::(Zi 0)::AV.undef::sV::(Zn s.length)::(Zi 0)::jg 10):List AV).getD k_ AV.undef) h ca (Has.refl _))
   have mR:=kG.y
   have Dn:h.nx≤h3.nx:=kG.n
   have gv:Has h h3:=kG.a
   have e:fJ s P=(-1):=by simp only[fJ,iB,ak,ah]
   rw[e]
   exact aw rfl (aI Tryz.func90 sO rfl (.inr rfl) (pk (d) _ _ h _ h3 (CN 2<|VV eb<|CC<|LL js<|CC<|ZZ) k!) k!) gv rfl
 | some Ka=>
   obtain ⟨N',h3,js,kG⟩:=aB.r iB (lB (d:=d) (h:=h) sV g cap s P sP hP s.length 0 o! (fun k_=>((sV::(AV.func g [] cap)::AV.undef::AV.undef::(Zi 0)::AV.undef::sV::(Zn s.length)::(Zi 0)::jg 10):List AV).getD k_ AV.undef) h ca (Has.refl _))
   have mR:=kG.y
   have Dn:h.nx≤h3.nx:=kG.n
   have gv:Has h h3:=kG.a
   have e:fJ s P=Ka:=by simp only[fJ,iB,ak,ah]
   rw[e]
   exact aw rfl (aI Tryz.func90 sO rfl (.inr rfl) (pk (d) _ _ h _ h3 (CN 2<|VV eb<|CC<|LL js<|ZZ) k!) k!) gv rfl
def sQ:Code:=(Tryz.f68.body).getD .skip
theorem xg:Tryz.f68.body=some sQ:=by kernel_rfl
def eM (s:List bF) (P:bF→Bool):Bool:=(decide (0≤(fJ s P)))
theorem xh {d:Nat} {h:ax} {sV:AV} {g:FuncId} {cap:List AV} (s:List bF) (P:bF→Bool) (sP:aJ h sV s) (hP:∀y∈s,∀hh,Tidy hh→Has h hh→cT d (.fn g) (.agg (aH.c y)::cap) hh= .ret (.bool (P y)) hh) (ca:Tidy h):cT (d+2) (.fn 68) [sV,(AV.func g [] cap)] h= .ret (AV.bool (eM s P)) h:=by
 have BH:=sP.small
 have k1:=BG (d:=d) s P sP hP ca
 have e:eM s P=(decide (0≤(fJ s P))):=by simp only[eM,ak,ah]
 rw[e]
 exact aw rfl (aI Tryz.func68 xg rfl (.inr rfl) (pk (d+1) _ _ h _ h (CN 3<|EE k1<|VV (b9 3 false true .i64 (fJ s P) 0)<|CC<|ZZ) k!) k!) (Has.refl _) rfl
def Ih:Code:=(Tryz.f67.body).getD .skip
theorem Ii:Tryz.f67.body=some Ih:=by kernel_rfl
def l9 (Nq:Int) (xj:Int):Bool:=(bif (decide (0≤Nq)) then (decide (Nq<xj)) else false)
theorem Ij {d:Nat} {h:ax} (Nq:Int) (xj:Int) (ca:Tidy h):cT (d+1) (.fn 67) [(Zi Nq),(Zi xj)] h= .ret (AV.bool (l9 Nq xj)) h:=by
 rcases Bool.eq_false_or_eq_true (decide (0≤Nq)) with f0 | f0
 · have e_:=of_decide_eq_true f0
   have e:l9 Nq xj=(decide (Nq<xj)):=by simp only[l9,f0,ak,ah]
   rw[e]
   exact aw rfl (aI Tryz.func67 Ii rfl (.inr rfl) (pk (d) _ _ h _ h (CN 2<|VV (b9 3 false true .i64 Nq 0)<|CC<|BC f0<|BC f0<|BV f0 (aY 3 false false .i64 Nq xj)<|VV (iI (decide (Nq<xj)) false f0)<|CC<|ZZ) k!) k!) (Has.refl _) rfl
 · have e_:=of_decide_eq_false f0
   have e:l9 Nq xj=false:=by simp only[l9,f0,ak,ah]
   rw[e]
   exact aw rfl (aI Tryz.func67 Ii rfl (.inr rfl) (pk (d) _ _ h _ h (CN 2<|VV (b9 3 false true .i64 Nq 0)<|CC<|BB f0<|BB f0<|BV f0 (p_ false f0)<|CC<|ZZ) k!) k!) (Has.refl _) rfl
theorem Ik {a b:Int} (h:l9 a b=true):0≤a∧a<b:=by
 unfold l9 at h
 by_cases q:0≤a
 · rw[decide_eq_true q] at h;exact ⟨q,of_decide_eq_true h⟩
 · rw[decide_eq_false q] at h;cases h
def BI:Code:=(Tryz.f60.body).getD .skip
theorem zH:Tryz.f60.body=some BI:=by kernel_rfl
def eH (x_:Int):Bool:=(bif (decide ((-1000000000)≤x_)) then (decide (x_≤1000000000)) else false)
theorem pq {d:Nat} {h:ax} (x_:Int) (ca:Tidy h):cT (d+1) (.fn 60) [(Zi x_)] h= .ret (AV.bool (eH x_)) h:=by
 rcases Bool.eq_false_or_eq_true (decide ((-1000000000)≤x_)) with f0 | f0
 · have e_:=of_decide_eq_true f0
   have e:eH x_=(decide (x_≤1000000000)):=by simp only[eH,f0,ak,ah]
   rw[e]
   exact aw rfl (aI Tryz.func60 zH rfl (.inr rfl) (pk (d) _ _ h _ h (CN 2<|VV (b9 3 false true .i64 x_ (-1000000000))<|CC<|BC f0<|BV f0 (lg 3 false true .i64 x_ 1000000000)<|VV (iI (decide (x_≤1000000000)) false f0)<|CC<|ZZ) k!) k!) (Has.refl _) rfl
 · have e_:=of_decide_eq_false f0
   have e:eH x_=false:=by simp only[eH,f0,ak,ah]
   rw[e]
   exact aw rfl (aI Tryz.func60 zH rfl (.inr rfl) (pk (d) _ _ h _ h (CN 2<|VV (b9 3 false true .i64 x_ (-1000000000))<|CC<|BB f0<|BV f0 (p_ false f0)<|CC<|ZZ) k!) k!) (Has.refl _) rfl
def xk:Code:=(Tryz.f32.body).getD .skip
theorem hU:Tryz.f32.body=some xk:=by kernel_rfl
def cr (p:bO) (cA:List bF) (a:bF):Int:=(bif (!(l9 a.az ((p.ab.length:Nat):Int))) then 7 else (bif (!(l9 a.measure ((p.af.length:Nat):Int))) then 7 else (bif (!(eH a.level)) then 1 else (bif (!(eH a.bq)) then 1 else (bif (eM cA (fun y=>gQ y a)) then 6 else 0)))))
theorem BJ {d:Nat} {h:ax} {cy:AV} (p:bO) (cA:List bF) (a:bF) (dg:aH.ok h p) (dG:aJ h cy cA) (iS:aH.ok h a) (ca:Tidy h):cT (d+4) (.fn 32) [(AV.agg [p.ae,p.ag,p.au]),cy,(AV.agg [(Zi a.az),(Zi a.level),(Zi a.bq),(Zi a.measure)])] h= .ret (Zi (cr p cA a)) h:=by
 have qn:=dG.small
 have nj:=dg.1.small
 have jP:=dg.2.1.small
 have jQ:=dg.2.2.small
 obtain ⟨h1,br,cD,lh,aA,dC⟩:=lk ca (aK.cells [p.ae,p.ag,p.au] 26 false)
 have bB:Has h h1:=dC
 obtain ⟨h2,fH,mS,Kc,bC,aZ⟩:=lk cD (aK.cells [(Zi a.az),(Zi a.level),(Zi a.bq),(Zi a.measure)] 71 false)
 have eW:Has h h2:=bB.trans aZ
 have ye:cg (some (.slice 43)) (some p.ae)=some (Zn p.ab.length):=dg.1.len
 have k4:=Ij (d:=d+2) a.az ((p.ab.length:Nat):Int) mS
 rcases Bool.eq_false_or_eq_true (!(l9 a.az ((p.ab.length:Nat):Int))) with f0 | f0
 · have e:cr p cA a=7:=by simp only[cr,f0,ak,ah]
   rw[e]
   exact aw rfl (aI Tryz.func32 hU rfl (.inr rfl) (pk (d+3) _ _ h _ h2 (NN br (fun i=>(Pt i))<|NN fH (fun i=>(Pt i))<|CN 2<|MM (ao 3 0 (Zi a.az) bC k!)<|CC<|MM (ao 22 0 p.ae (aZ _ _ aA) k!)<|VV ye<|EE k4<|CN 2<|BB f0<|BC f0<|ZZ) k!) k!) eW rfl
 · have Gu:cg (some (.slice 45)) (some p.ag)=some (Zn p.af.length):=dg.2.1.len
   have k7:=Ij (d:=d+2) a.measure ((p.af.length:Nat):Int) mS
   rcases Bool.eq_false_or_eq_true (!(l9 a.measure ((p.af.length:Nat):Int))) with f1 | f1
   · have e:cr p cA a=7:=by simp only[cr,f0,f1,ak,ah]
     rw[e]
     exact aw rfl (aI Tryz.func32 hU rfl (.inr rfl) (pk (d+3) _ _ h _ h2 (NN br (fun i=>(Pt i))<|NN fH (fun i=>(Pt i))<|CN 2<|MM (ao 3 0 (Zi a.az) bC k!)<|CC<|MM (ao 22 0 p.ae (aZ _ _ aA) k!)<|VV ye<|EE k4<|CN 2<|BC f0<|MM (ao 3 3 (Zi a.measure) bC k!)<|CC<|MM (ao 23 1 p.ag (aZ _ _ aA) k!)<|VV Gu<|EE k7<|CN 2<|BC f1<|ZZ) k!) k!) eW rfl
   · have k9:=pq (d:=d+2) a.level mS
     rcases Bool.eq_false_or_eq_true (!(eH a.level)) with f2 | f2
     · have e:cr p cA a=1:=by simp only[cr,f0,f1,f2,ak,ah]
       rw[e]
       exact aw rfl (aI Tryz.func32 hU rfl (.inr rfl) (pk (d+3) _ _ h _ h2 (NN br (fun i=>(Pt i))<|NN fH (fun i=>(Pt i))<|CN 2<|MM (ao 3 0 (Zi a.az) bC k!)<|CC<|MM (ao 22 0 p.ae (aZ _ _ aA) k!)<|VV ye<|EE k4<|CN 2<|BC f0<|MM (ao 3 3 (Zi a.measure) bC k!)<|CC<|MM (ao 23 1 p.ag (aZ _ _ aA) k!)<|VV Gu<|EE k7<|CN 2<|BC f1<|MM (ao 3 1 (Zi a.level) bC k!)<|EE k9<|CN 2<|BB f2<|BC f2<|ZZ) k!) k!) eW rfl
     · have uv:=pq (d:=d+2) a.bq mS
       rcases Bool.eq_false_or_eq_true (!(eH a.bq)) with f3 | f3
       · have e:cr p cA a=1:=by simp only[cr,f0,f1,f2,f3,ak,ah]
         rw[e]
         exact aw rfl (aI Tryz.func32 hU rfl (.inr rfl) (pk (d+3) _ _ h _ h2 (NN br (fun i=>(Pt i))<|NN fH (fun i=>(Pt i))<|CN 2<|MM (ao 3 0 (Zi a.az) bC k!)<|CC<|MM (ao 22 0 p.ae (aZ _ _ aA) k!)<|VV ye<|EE k4<|CN 2<|BC f0<|MM (ao 3 3 (Zi a.measure) bC k!)<|CC<|MM (ao 23 1 p.ag (aZ _ _ aA) k!)<|VV Gu<|EE k7<|CN 2<|BC f1<|MM (ao 3 1 (Zi a.level) bC k!)<|EE k9<|CN 2<|BC f2<|MM (ao 3 2 (Zi a.bq) bC k!)<|EE uv<|CN 2<|BC f3<|ZZ) k!) k!) eW rfl
       · have No:=xh (d:=d+1) cA (fun y=>gQ y a) (dG.has eW) (fun y hy hh yy aa=>Ac (d:=d) y a h1.nx (aH.mono aa ((dG.has eW).SL y hy)) (aH.mono aa trivial) (aa _ _ bC) yy) mS
         rcases Bool.eq_false_or_eq_true (eM cA (fun y=>gQ y a)) with f4 | f4
         · have e:cr p cA a=6:=by simp only[cr,f0,f1,f2,f3,f4,ak,ah]
           rw[e]
           exact aw rfl (aI Tryz.func32 hU rfl (.inr rfl) (pk (d+3) _ _ h _ h2 (NN br (fun i=>(Pt i))<|NN fH (fun i=>(Pt i))<|CN 2<|MM (ao 3 0 (Zi a.az) bC k!)<|CC<|MM (ao 22 0 p.ae (aZ _ _ aA) k!)<|VV ye<|EE k4<|CN 2<|BC f0<|MM (ao 3 3 (Zi a.measure) bC k!)<|CC<|MM (ao 23 1 p.ag (aZ _ _ aA) k!)<|VV Gu<|EE k7<|CN 2<|BC f1<|MM (ao 3 1 (Zi a.level) bC k!)<|EE k9<|CN 2<|BC f2<|MM (ao 3 2 (Zi a.bq) bC k!)<|EE uv<|CN 2<|BB f3<|CN 2<|EE No<|CC<|BC f4<|ZZ) k!) k!) eW rfl
         · have e:cr p cA a=0:=by simp only[cr,f0,f1,f2,f3,f4,ak,ah]
           rw[e]
           exact aw rfl (aI Tryz.func32 hU rfl (.inr rfl) (pk (d+3) _ _ h _ h2 (NN br (fun i=>(Pt i))<|NN fH (fun i=>(Pt i))<|CN 2<|MM (ao 3 0 (Zi a.az) bC k!)<|CC<|MM (ao 22 0 p.ae (aZ _ _ aA) k!)<|VV ye<|EE k4<|CN 2<|BC f0<|MM (ao 3 3 (Zi a.measure) bC k!)<|CC<|MM (ao 23 1 p.ag (aZ _ _ aA) k!)<|VV Gu<|EE k7<|CN 2<|BC f1<|MM (ao 3 1 (Zi a.level) bC k!)<|EE k9<|CN 2<|BC f2<|MM (ao 3 2 (Zi a.bq) bC k!)<|EE uv<|CN 2<|BB f3<|CN 2<|EE No<|CC<|BC f4<|ZZ) k!) k!) eW rfl
def Dp:Code:=(Tryz.f31.body).getD .skip
theorem Ke:Tryz.f31.body=some Dp:=by kernel_rfl
def lC (cA:List bF) (al:bF) (p:bO):Int:=(cr p cA al)
theorem Kf {d:Nat} {h:ax} {cy:AV} (cA:List bF) (al:bF) (p:bO) (pB:Nat) (dG:aJ h cy cA) (aeg:aH.ok h al) (dg:aH.ok h p) (g_p:h.get pB=some (.cells (aH.c p) 26 false)) (ca:Tidy h):cT (d+5) (.fn 31) [cy,(AV.agg [(Zi al.az),(Zi al.level),(Zi al.bq),(Zi al.measure)]),(Pt pB)] h= .ret (Zi (lC cA al p)) h:=by
 have qn:=dG.small
 have nj:=dg.1.small
 have jP:=dg.2.1.small
 have jQ:=dg.2.2.small
 obtain ⟨h1,br,cD,lh,aA,dC⟩:=lk ca (aK.cells [(Zi al.az),(Zi al.level),(Zi al.bq),(Zi al.measure)] 71 false)
 have bB:Has h h1:=dC
 have k2:=BJ (d:=d) p cA al (aH.mono bB dg) (dG.has bB) trivial cD
 have e:lC cA al p=(cr p cA al):=by simp only[lC,ak,ah]
 rw[e]
 exact aw rfl (aI Tryz.func31 Ke rfl (.inr rfl) (pk (d+4) _ _ h _ h1 (NN br (fun i=>(Pt i))<|CC<|MM (ao 26 0 (AV.agg [p.ae,p.ag,p.au]) (dC _ _ g_p) k!)<|CC<|MM (ao 71 0 (AV.agg [(Zi al.az),(Zi al.level),(Zi al.bq),(Zi al.measure)]) aA k!)<|EE k2<|CC<|ZZ) k!) k!) bB rfl
end
end Go.Proofs.aM
