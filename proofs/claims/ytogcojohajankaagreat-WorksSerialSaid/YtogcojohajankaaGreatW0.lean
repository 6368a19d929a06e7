import Derived.Test.YtogcojohajankaaGreatA7
import Derived.Test.YtogcojohajankaaGreatEnv
namespace Go.Proofs.aJ
open Go.Proofs Ab
set_option maxRecDepth 100000
set_option maxHeartbeats 4000000
set_option linter.unusedVariables false
set_option linter.unusedSimpArgs false
theorem aj9 {b:Bool} (h:b=true):(!b)=false:=by rw[h];rfl
theorem aka {b:Bool} (h:b=false):(!b)=true:=by rw[h];rfl
theorem xy (t:TypeId) (c d:Bool) (k:IntKind) (a b:Int):hD env .eql t c d (some (.int k a)) (some (.int k b))=some (.bool (decide (a=b))):=aa6 t c d k a b
theorem pa (t:TypeId) (c d:Bool) (k:IntKind) (a b:Int):hD env .neq t c d (some (.int k a)) (some (.int k b))=some (.bool (!decide (a=b))):=aa7 t c d k a b
theorem bO (t:TypeId) (c d:Bool) (k:IntKind) (a b:Int):hD env .lss t c d (some (.int k a)) (some (.int k b))=some (.bool (decide (a<b))):=aa8 t c d k a b
theorem uW (t:TypeId) (c d:Bool) (k:IntKind) (a b:Int):hD env .leq t c d (some (.int k a)) (some (.int k b))=some (.bool (decide (a≤b))):=aa9 t c d k a b
theorem dw (t:TypeId) (c d:Bool) (k:IntKind) (a b:Int):hD env .gtr t c d (some (.int k a)) (some (.int k b))=some (.bool (decide (b<a))):=aba t c d k a b
theorem pc (t:TypeId) (c d:Bool) (k:IntKind) (a b:Int):hD env .geq t c d (some (.int k a)) (some (.int k b))=some (.bool (decide (b≤a))):=abb t c d k a b
theorem TX (t:TypeId) (c d:Bool) (a b:List UInt8):hD env .eql t c d (some (.str a)) (some (.str b))=some (.bool (decide (a=b))):=WZ t c d a b
theorem rn (t:TypeId) (c d:Bool) {k:IntKind} {a b z:Int} (h:k.wrap (a+b)=z):hD env .add t c d (some (.int k a)) (some (.int k b))=some (.int k z):=Fw h
theorem vz (t:TypeId) (c d:Bool) {k:IntKind} {a b z:Int} (h:k.wrap (a - b)=z):hD env .sub t c d (some (.int k a)) (some (.int k b))=some (.int k z):=Fx h
theorem V7 (t:TypeId) (c d:Bool) {k:IntKind} {a b z:Int} (h:k.wrap (a*b)=z):hD env .mul t c d (some (.int k a)) (some (.int k b))=some (.int k z):=PN h
theorem aI (t:TypeId) (o:Nat) (v:AV) {h:aw} {i:Nat} {cs:List AV} {e:TypeId} {ro:Bool} (hg:h.get i=some (.cells cs e ro)) (hv:jq env t cs o=some v):aY env h t (.ptr i o)=some v:=Fy hg hv
theorem IY {a:Nat} (h:a<9223372036854775808):IntKind.i64.wrap (a:Int)=(a:Int):=wrap_i64 (by omega) (by omega)
theorem dZ (t:TypeId) (c d:Bool) (a b:Nat) (h:a+b<9223372036854775808):hD env .add t c d (some (.int .i64 (a:Int))) (some (.int .i64 (b:Int)))=some (.int .i64 ((a+b:Nat):Int)):=Fw (by rw[show (a:Int)+b=((a+b:Nat):Int) by omega];exact IY h)
theorem ahy (t:TypeId) (c d:Bool) (a b:Nat) (h:b≤a) (ha:a<9223372036854775808):hD env .sub t c d (some (.int .i64 (a:Int))) (some (.int .i64 (b:Int)))=some (.int .i64 ((a - b:Nat):Int)):=Fx (by rw[show (a:Int) - b=((a - b:Nat):Int) by omega];exact IY (by omega))
theorem pk (d:Nat) (c:Code) (ts:List AV) (h:aw) (e:lY) (h':aw) {al:List pC} {ps:List Prop} (k:Pk al [] ps) (hr:run env (cU d) 300 c ⟨ts,h,[],.no⟩ al []= .at e ⟨R3 (run env (cU d) 300 c ⟨ts,h,[],.no⟩ al []),h',[],.no⟩ [] ps):Ev env (cU d) c ⟨ts,h,[],.no⟩ e ⟨R3 (run env (cU d) 300 c ⟨ts,h,[],.no⟩ al []),h',[],.no⟩:=ahv k hr
theorem kh {h:aw} (y:Tidy h) (o:aH):∃h',h.new o=some h'∧Tidy h'∧h'.nx=h.nx+1∧h'.get h.nx=some o∧Has h h':=by
 obtain ⟨h',n⟩:=yO (h:=h) o
 exact ⟨h',n,m4 y n,yN n,tx n,xg y n⟩
theorem ahz {h:aw} {t e:TypeId} {i o n:Nat} {cs N:List AV} {v:AV} (y:Tidy h) (gg:h.get i=some (.cells cs e false)) (hs:b7 env t=some n) (hv:v.cells.length=n) (hl:Nat.ble (o+n) cs.length=true) (hN:setFrom cs o v.cells=N) (hk:v.cells.all AV.scalar=true):∃h',dW env h t (.ptr i o) v=some h'∧Tidy h'∧h'.nx=h.nx∧h'.get i=some (.cells N e false)∧Kept i h h':=by
 obtain ⟨h',s⟩:=r5 (E:=env) gg hs hv (Nat.le_of_ble_eq_true hl) hk
 exact ⟨h',s,FB y s gg,FA s gg,by rw[←hN];exact IW y s gg,Kept.store y s gg⟩
theorem qi {h:aw} {t e:TypeId} {i n:Nat} {cs L:List AV} (y:Tidy h) (gg:h.get i=some (.cells cs e false)) (hs:b7 env t=some n) (hv:L.length=n) (hc:cs.length=n) (hk:L.all AV.scalar=true):∃h',dW env h t (.ptr i 0) (.agg L)=some h'∧Tidy h'∧h'.nx=h.nx∧h'.get i=some (.cells L e false)∧Kept i h h':=
 ahz y gg hs hv (by rw[hc,Nat.zero_add,Nat.ble_eq];exact Nat.le_refl n) (by
  show setFrom cs 0 L=L
  apply List.ext_getElem?
  intro k
  rw[jK]
  split
  · rfl
  · rw[List.getElem?_eq_none (by omega),List.getElem?_eq_none (by omega)]) hk
structure Rk (f:List pC→List pC) (ps:List Prop):Prop where
 ok:nD ps
section
variable {f:List pC→List pC} {ps:List Prop}
end
section
variable {f:List pC→List pC} {ps:List Prop}
theorem Rh {P:Prop} (h:P) (k:Rk f ps):Rk f (P::ps):=⟨⟨h,k.ok⟩⟩
end
theorem k! {p:Prop} (h:p:=by kernel_rfl):p:=h
theorem o! {p:Prop} (h:p:=by omega):p:=h
theorem nbf {b:Bool} (h:(!b)=false):b=true:=by cases b;cases h;rfl
theorem nbt {b:Bool} (h:(!b)=true):b=false:=by cases b;rfl;cases h
theorem d! {p:Prop} (h:p:=by first | assumption | exact aj9 (by assumption) | exact aka (by assumption) | exact nbf (by assumption) | exact nbt (by assumption) | exact dT (by omega) | exact dF (by omega) | exact nT (by omega) | exact nF (by omega)):p:=h
@[reducible] def _root_.Zi (x:Int):AV:= .int .i64 x
@[reducible] def _root_.Zn (n:Nat):AV:= .int .i64 (n:Int)
@[reducible] def _root_.Pt (b:Nat):AV:= .ptr b 0
theorem _root_.pe {c:Bool} (x y:Bool) (h:c=true):C8 (some (.bool c)) (some (.bool x)) (some (.bool y))=some (.bool x):=W1 h
theorem _root_.pcf {c:Bool} (x y:Bool) (h:c=false):C8 (some (.bool c)) (some (.bool x)) (some (.bool y))=some (.bool y):=b8 h
theorem _root_.xV {c:Bool} (x:Bool) (h:c=true):C8 (some (.bool c)) (some (.bool x)) (some AV.undef)=some (.bool x):=W1 h
theorem _root_.sS {c:Bool} (x:Bool) (h:c=false):C8 (some (.bool c)) (some AV.undef) (some (.bool x))=some (.bool x):=b8 h
section
variable {al:List pC} {p0 ps:List Prop}
theorem BC {u v:Bool} (h:u=v) (k:Pk al ((u=v)::p0) ps):Pk (.b v:: .c::al) p0 ps:=BB h (CC k)
theorem BV {u v:Bool} {l:Option AV} {x:AV} (h:u=v) (e:l=some x) (k:Pk al ((l=some x)::(u=v)::p0) ps):Pk (.b v:: .v x::al) p0 ps:=BB h (VV e k)
theorem BM {u v:Bool} {l:Option AV} {x:AV} (h:u=v) (e:l=some x) (k:Pk al ((l=some x)::(u=v)::p0) ps):Pk (.b v:: .m x::al) p0 ps:=BB h (MM e k)
end
theorem _root_.Go.Ab.Has.ei {h0 h h':aw} {b:Nat} (a:Has h0 h) (k:Kept b h h') (y:Tidy h0) (hb:h0.nx≤b):Has h0 h':=fun i x g=>by
 have:=y i x g
 exact k i x o! (a i x g)
class aG (α:Type) extends Inhabited α where
 c:α→List AV
 n:Nat
 e:TypeId
 len:∀x,(c x).length=n
 ok:aw→α→Prop
 mono:∀{h h':aw} {x:α},Has h h'→ok h x→ok h' x
 size:b7 env e=some n
 agg:fY env e=some true
 pos:0<n
@[reducible] def imax (x y:Int):Int:=if y>x then y else x
@[reducible] def amn (x y:Int):Int:=if y<x then y else x
def _root_.List.g {α:Type} [Inhabited α] (l:List α) (i:Nat):α:=l.getD i default
structure aM {α:Type} [aG α] (h:aw) (v:AV) (l:List α):Prop where
 at_:od env h (aG.e α) (aG.n α) v l.length (l.flatMap aG.c)
 known:v= .aD∨v= .fm∨∃p o m c b,v= .slice p o m c b∧(b=true→0<c)
 oks:∀x∈l,aG.ok h x
theorem ew {α β:Type} {size:Nat} {f:α→List β} (hf:∀x,(f x).length=size) (l:List α):(l.flatMap f).length=l.length*size:=by
 induction l with
 | nil=>simp
 | cons x l ih=>rw[List.flatMap_cons,List.length_append,ih,hf,List.length_cons,Nat.succ_mul];omega
section
variable {α:Type} [aG α] {h:aw} {v:AV} {l:List α}
theorem aM.has {h':aw} (x:aM h v l) (a:Has h h'):aM h' v l:=⟨x.at_.has a,x.known,fun y hy=>aG.mono a (x.oks y hy)⟩
theorem R4 {i:Nat} (hi:i<l.length):l.g i∈l:=by
 rw[List.g,List.getD_eq_getElem?_getD,List.getElem?_eq_getElem hi];exact List.getElem_mem hi
theorem aM.ok (x:aM h v l) {i:Nat} (hi:i<l.length):aG.ok h (l.g i):=x.oks _ (R4 hi)
theorem aM.small (x:aM h v l):l.length<2^60:=x.at_.small
theorem aM.len (x:aM h v l):cc (some (.slice (aG.e α))) (some v)=some (.int .i64 (l.length:Nat)):=x.at_.lens
theorem aM.scalar (x:aM h v l):AV.scalar v=true:=by
 rcases x.known with rfl | rfl | ⟨p,o,m,c,b,rfl,_⟩<;>rfl
theorem oG {β:Type} {size:Nat} {f:α→List β} (hf:∀x,(f x).length=size):∀(l:List α) (i j:Nat) (_:i<l.length),j<size→(l.flatMap f)[i*size+j]? =(f (l.g i))[j]?
 | [],i,j,hi,_=>by cases hi
 | x::l,0,j,_,hj=>by
   rw[List.flatMap_cons,Nat.zero_mul,Nat.zero_add,List.getElem?_append_left (by rw[hf];exact hj)];rfl
 | x::l,i+1,j,hi,hj=>by
   have e:(i+1)*size+j -(f x).length=i*size+j:=by rw[hf,Nat.succ_mul];omega
   rw[List.flatMap_cons,List.getElem?_append_right (by rw[hf,Nat.succ_mul];omega),e,oG hf l i j (by simpa using hi) hj];rfl
theorem aM.elem (x:aM h v l) {i:Nat} (hi:i<l.length):∃p q,bR env (some (.slice (aG.e α))) (some v) (some (.int .i64 ((i:Nat):Int)))=some (.ptr p q):=by
 rcases x.at_.block with h0 | ⟨p,o,m,c,b,C,f,ro,h1,_,h2,h3⟩
 · omega
 · subst h1
   have hm:m=l.length:=by
    have:=x.at_.lens
    rw[jh] at this
    simp only[Option.some.injEq,AV.int.injEq,true_and] at this
    omega
   exact ⟨p,o+i*aG.n α,nP x.at_.size o!⟩
theorem aM.block (x:aM h v l) {i p q:Nat} (hi:i<l.length) (hx:bR env (some (.slice (aG.e α))) (some v) (some (.int .i64 ((i:Nat):Int)))=some (.ptr p q)):
 ∃C f ro,h.get p=some (.cells C f ro)∧∀j,j<aG.n α→C[q+j]? =(aG.c (l.g i))[j]? :=by
 rcases x.at_.block with h0 | ⟨p',o,m,c,b,C,f,ro,h1,_,h2,h3⟩
 · omega
 · subst h1
   have hm:m=l.length:=by
    have:=x.at_.lens
    rw[jh] at this
    simp only[Option.some.injEq,AV.int.injEq,true_and] at this
    omega
   rw[nP x.at_.size o!] at hx
   simp only[Option.some.injEq,AV.ptr.injEq] at hx
   obtain ⟨rfl,rfl⟩:=hx
   refine ⟨C,f,ro,h2,fun j hj=>?_⟩
   have e:=oG aG.len l i j hi hj
   have nN:i*aG.n α+j<(l.flatMap aG.c).length:=by
    rw[ew aG.len]
    calc i*aG.n α+j<i*aG.n α+aG.n α:=by omega
     _=(i+1)*aG.n α:=by rw[Nat.succ_mul]
     _≤l.length*aG.n α:=Nat.mul_le_mul_right _ hi
   rw[←e,Nat.add_assoc,h3 _ nN]
theorem aM.load (x:aM h v l) {i p q:Nat} (hi:i<l.length) (hx:bR env (some (.slice (aG.e α))) (some v) (some (.int .i64 ((i:Nat):Int)))=some (.ptr p q)):aY env h (aG.e α) (.ptr p q)=some (.agg (aG.c (l.g i))):=by
 obtain ⟨C,f,ro,h1,h2⟩:=x.block hi hx
 have hl:=aG.len (l.g i)
 have hn:q+aG.n α≤C.length:=by
  have h0:=aG.pos (α:=α)
  have:=h2 (aG.n α - 1) o!
  rw[List.getElem?_eq_getElem (by omega:aG.n α - 1<(aG.c (l.g i)).length)] at this
  have:=(List.getElem?_eq_some_iff.1 this).1
  omega
 simp only[aY,h1,jq,aG.agg,aG.size,hn,if_true]
 congr 2
 apply List.ext_getElem?
 intro j
 by_cases hj:j<aG.n α
 · rw[List.getElem?_take_of_lt hj,List.getElem?_drop,h2 j hj]
 · rw[List.getElem?_eq_none (by rw[List.length_take];omega),List.getElem?_eq_none o!]
theorem aM.part (x:aM h v l) {i p q j:Nat} {t:TypeId} {w:AV} (hi:i<l.length) (hx:bR env (some (.slice (aG.e α))) (some v) (some (.int .i64 ((i:Nat):Int)))=some (.ptr p q)) (ht:fY env t=some false) (hw:(aG.c (l.g i))[j]? =some w):aY env h t (.ptr p (q+j))=some w:=by
 obtain ⟨C,f,ro,h1,h2⟩:=x.block hi hx
 have hj:=(List.getElem?_eq_some_iff.1 hw).1
 rw[aG.len] at hj
 simp only[aY,h1,jq,ht]
 rw[h2 j hj,hw]
theorem aM.pre (x:aM h v l) {t:TypeId} (ht:env.P.underlying t=some (.slice (aG.e α))) {i:Nat} (hi:i<l.length):∃r,dV env t v none (some (.int .i64 ((i:Nat):Int))) none=some r∧aM h r (l.take i):=by
 rcases x.at_.block with h0 | ⟨p,o,m,c,b,C,f,ro,h1,hc,h2,h3⟩
 · omega
 · subst h1
   have hm:m=l.length:=by
    have:=x.at_.lens
    rw[jh] at this
    simp only[Option.some.injEq,AV.int.injEq,true_and] at this
    omega
   subst hm
   have hb:b=true→0<c:=fun e=>by omega
   refine ⟨.slice p o i c b,?_,⟨⟨x.at_.size,ew aG.len _,by have:=x.small;simp;omega,?_,.inr ⟨p,o,i,c,b,C,f,ro,rfl,by omega,h2,fun j hj=>?_⟩⟩,.inr (.inr ⟨_,_,_,_,_,rfl,hb⟩),fun y hy=>x.oks y (List.mem_of_mem_take hy)⟩⟩
   · simp only[dV,ht,x.at_.size,hc,if_true,mE (len:=l.length) (cap:=c) none (some (.int .i64 ((i:Nat):Int))) (.inr ⟨rfl,rfl⟩) (.inl rfl) (Nat.zero_le i) o!]
     rw[if_neg o!]
     simp
   · rw[List.length_take,Nat.min_eq_left o!];exact jh _ _ _ _ _ _
   · rw[ew aG.len,List.length_take,Nat.min_eq_left o!] at hj
     have nN:j<(l.flatMap aG.c).length:=by
      rw[ew aG.len];exact Nat.lt_of_lt_of_le hj (Nat.mul_le_mul_right _ o!)
     rw[h3 j nN]
     have e:l=l.take i++l.drop i:=(List.take_append_drop i l).symm
     conv=>lhs;rw[e,List.flatMap_append]
     rw[List.getElem?_append_left]
     rw[ew aG.len,List.length_take,Nat.min_eq_left o!];exact hj
def aC {ρ:Type} (call:bm) (b:Code) (s:St) (ex:lY) (hh:aw) (tn:(Nat→AV)→List AV) (tr:ρ→(Nat→AV)→List AV):Option ρ→Prop
 | none=>∃y hk,Ev env call (.loop b) s ex ⟨tn y,hk,[],.no⟩∧bp hh hk
 | some r=>∃y hk,Ev env call (.loop b) s .ret ⟨tr r y,hk,[],.no⟩∧bp hh hk
section
variable {ρ:Type} {call:bm} {b:Code} {s:St} {ex:lY} {hh hk:aw} {tn:(Nat→AV)→List AV} {tr:ρ→(Nat→AV)→List AV}
theorem aC.n {o:Option ρ} (e:o=none) (x:aC call b s ex hh tn tr o):∃y hk,Ev env call (.loop b) s ex ⟨tn y,hk,[],.no⟩∧bp hh hk:=by subst e;exact x
theorem aC.r {o:Option ρ} {r:ρ} (e:o=some r) (x:aC call b s ex hh tn tr o):∃y hk,Ev env call (.loop b) s .ret ⟨tr r y,hk,[],.no⟩∧bp hh hk:=by subst e;exact x
theorem aC.out {i:Nat} {L:List AV} {o:Option ρ} (e:o=none) (ev:Ev env call b s (.exit i) ⟨L,hk,[],.no⟩) (G:bp hh hk) (hl:L=tn fun k=>L.getD k AV.undef):aC call b s (.exit i) hh tn tr o:=by
 subst e
 obtain ⟨y,q⟩:=kI (Ev.out ev) hl
 exact ⟨y,hk,q,G⟩
theorem aC.ret {L:List AV} {o:Option ρ} (r:ρ) (e:o=some r) (ev:Ev env call b s .ret ⟨L,hk,[],.no⟩) (G:bp hh hk) (hl:L=tr r fun k=>L.getD k AV.undef):aC call b s ex hh tn tr o:=by
 subst e
 obtain ⟨y,q⟩:=kI (tmpl:=tr r) (Ev.ret ev) hl
 exact ⟨y,hk,q,G⟩
theorem aC.round {L:List AV} {o o':Option ρ} (e:o=o') (ev:Ev env call b s .normal ⟨L,hk,[],.no⟩) (G:bp hh hk) (IZ:(Nat→AV)→List AV) (hl:L=IZ fun k=>L.getD k AV.undef) (ih:∀x,aC call b ⟨IZ x,hk,[],.no⟩ ex hk tn tr o'):aC call b s ex hh tn tr o:=by
 subst e
 have q:=ih fun k=>L.getD k AV.undef
 rw[←hl] at q
 cases o with
 | none=>obtain ⟨y,h2,x,g⟩:=q;exact ⟨y,h2,Ev.loop ev x,G.trans g⟩
 | some r=>obtain ⟨y,h2,x,g⟩:=q;exact ⟨y,h2,Ev.loop ev x,G.trans g⟩
end
def m5 {ρ:Type} (call:bm) (b:Code) (s:St) (ex:lY) (h hh:aw) (tn:(Nat→AV)→List AV) (tr:ρ→(Nat→AV)→List AV) (pb:Nat) (cl:ρ→aH):Option ρ→Prop
 | none=>∃y hk,Ev env call (.loop b) s ex ⟨tn y,hk,[],.no⟩∧bp hh hk
 | some r=>∃y hk,Ev env call (.loop b) s .ret ⟨tr r y,hk,[],.no⟩∧Tidy hk∧Has h hk∧hh.nx≤hk.nx∧hk.get pb=some (cl r)
section
variable {ρ:Type} {call:bm} {b:Code} {s:St} {ex:lY} {h hh hk:aw} {tn:(Nat→AV)→List AV} {tr:ρ→(Nat→AV)→List AV} {pb:Nat} {cl:ρ→aH}
theorem m5.n {o:Option ρ} (e:o=none) (x:m5 call b s ex h hh tn tr pb cl o):∃y hk,Ev env call (.loop b) s ex ⟨tn y,hk,[],.no⟩∧bp hh hk:=by subst e;exact x
theorem m5.r {o:Option ρ} {r:ρ} (e:o=some r) (x:m5 call b s ex h hh tn tr pb cl o):∃y hk,Ev env call (.loop b) s .ret ⟨tr r y,hk,[],.no⟩∧Tidy hk∧Has h hk∧hh.nx≤hk.nx∧hk.get pb=some (cl r):=by subst e;exact x
theorem m5.out {i:Nat} {L:List AV} {o:Option ρ} (e:o=none) (ev:Ev env call b s (.exit i) ⟨L,hk,[],.no⟩) (G:bp hh hk) (hl:L=tn fun k=>L.getD k AV.undef):m5 call b s (.exit i) h hh tn tr pb cl o:=by
 subst e
 obtain ⟨y,q⟩:=kI (Ev.out ev) hl
 exact ⟨y,hk,q,G⟩
theorem m5.round {L:List AV} {o o':Option ρ} (e:o=o') (ev:Ev env call b s .normal ⟨L,hk,[],.no⟩) (G:bp hh hk) (IZ:(Nat→AV)→List AV) (hl:L=IZ fun k=>L.getD k AV.undef) (ih:∀x,m5 call b ⟨IZ x,hk,[],.no⟩ ex h hk tn tr pb cl o'):m5 call b s ex h hh tn tr pb cl o:=by
 subst e
 have q:=ih fun k=>L.getD k AV.undef
 rw[←hl] at q
 cases o with
 | none=>obtain ⟨y,h2,x,g⟩:=q;exact ⟨y,h2,Ev.loop ev x,G.trans g⟩
 | some r=>obtain ⟨y,h2,x,y1,a1,n1,g1⟩:=q;exact ⟨y,h2,Ev.loop ev x,y1,a1,Nat.le_trans G.n n1,g1⟩
end
def bt {σ:Type} (call:bm) (b:Code) (s:St) (ex:lY) (hh:aw) (tn:σ→(Nat→AV)→List AV) (Q:σ→Prop) (r:σ):Prop:=∃y hk,Ev env call (.loop b) s ex ⟨tn r y,hk,[],.no⟩∧bp hh hk∧Q r
section
variable {σ:Type} {call:bm} {b:Code} {s:St} {ex:lY} {hh hk:aw} {tn:σ→(Nat→AV)→List AV} {Q:σ→Prop}
theorem bt.out {i:Nat} {L:List AV} {o:σ} (r:σ) (e:o=r) (ev:Ev env call b s (.exit i) ⟨L,hk,[],.no⟩) (G:bp hh hk) (iq:Q r) (hl:L=tn r fun k=>L.getD k AV.undef):bt call b s (.exit i) hh tn Q o:=by
 subst e
 obtain ⟨y,q⟩:=kI (tmpl:=tn o) (Ev.out ev) hl
 exact ⟨y,hk,q,G,iq⟩
theorem bt.round {L:List AV} {o o':σ} (e:o=o') (ev:Ev env call b s .normal ⟨L,hk,[],.no⟩) (G:bp hh hk) (IZ:(Nat→AV)→List AV) (hl:L=IZ fun k=>L.getD k AV.undef) (ih:∀x,bt call b ⟨IZ x,hk,[],.no⟩ ex hk tn Q o'):bt call b s ex hh tn Q o:=by
 subst e
 have q:=ih fun k=>L.getD k AV.undef
 rw[←hl] at q
 obtain ⟨y,h2,x,g,i⟩:=q;exact ⟨y,h2,Ev.loop ev x,G.trans g,i⟩
end
theorem aM.same {α:Type} [aG α] {h:aw} {v:AV} {l:List α} (x:aM h v l) (n:Nat):AV.same (n+1) v v=true:=by
 rcases x.known with rfl | rfl | ⟨p,o,m,c,b,rfl,_⟩
 · rfl
 · rfl
 · exact jg n p o m c b
def abi (cs:List AV):Prop:=∀n,ep (AV.same (n+1)) cs cs=true
theorem TY:abi []:=fun _=>rfl
theorem xh {x:AV} {cs:List AV} (hx:∀n,AV.same (n+1) x x=true) (hc:abi cs):abi (x::cs):=fun n=>by
 show (AV.same (n+1) x x&&ep (AV.same (n+1)) cs cs)=true
 rw[hx,hc];rfl
theorem jy (n:Nat) {cs:List AV} (h:abi cs):AV.same (n+2) (.agg cs) (.agg cs)=true:=h n
theorem pD {s:List UInt8} {j:Nat} (hj:j<s.length):yL env (some .string) (some (.str s)) (some (.int .i64 ((j:Nat):Int)))=some (.int .u8 (((s.g j).toNat:Nat):Int)):=by
 refine W0 ?_
 rw[List.g,List.getD_eq_getElem?_getD,List.getElem?_eq_getElem hj];rfl
end
theorem Db {h:aw} {e s xt:TypeId} {xd:TypeDesc} {tys:Array TypeId} {bytes:Nat} {z x:AV} {M:List AV} (h0:tys[0]? =some s) (h1:tys[1]? =some xt) (hs:env.P.underlying s=some (.slice e)) (hx:env.P.underlying xt=some xd) (hi:oZ xd=false) (R2:b7 env e=some 1) (hb:jT env e=some bytes) (DH:g5 env e=some z) (hz:z.cells.length=1) (h8:bytes≤63) (hlen:qF x=some M.length) (hf:fF h 1 M.length x=some M) (CT:M.all AV.scalar=true) (hm:M≠ []) (hl:M.length≤1073741824):
 ∃h',di env h tys .aD x=some (.slice h.nx 0 M.length M.length true,h')∧h.new (.cells M e false)=some h':=by
 obtain ⟨h',n⟩:=yO (h:=h) (.cells M e false)
 refine ⟨h',?_,n⟩
 have hn:¬M.length=0:=fun e=>hm (List.length_eq_zero_iff.1 e)
 have JT:(4*M.length+4096)*(bytes+1)≤1099511627776:=Nat.le_trans (Nat.mul_le_mul (show 4*M.length+4096≤17179869184 by omega) (show bytes+1≤64 by omega)) (by decide)
 simp only[di,h0,h1,hs,hx,hi,R2,hb,hlen,hf,DH,hz,CT,Nat.mul_one,hn,JT,n,if_true,if_false,and_self,Bool.false_eq_true]
theorem Dc {h:aw} {e s xt:TypeId} {xd:TypeDesc} {tys:Array TypeId} {bytes p:Nat} {op:Bool} {z x:AV} {L M:List AV} (y:Tidy h) (h0:tys[0]? =some s) (h1:tys[1]? =some xt) (hs:env.P.underlying s=some (.slice e)) (hx:env.P.underlying xt=some xd) (hi:oZ xd=false) (R2:b7 env e=some 1) (hb:jT env e=some bytes) (DH:g5 env e=some z) (hz:z.cells.length=1) (h8:bytes≤63) (hlen:qF x=some M.length) (hf:fF h 1 M.length x=some M) (CT:M.all AV.scalar=true) {n:Nat} (hn:L.length=n) (hm:M≠ []) (hl:n+M.length≤1073741824)
 (hg:h.get p=some (.cells L e false)):
 ∃h',di env h tys (.slice p 0 n n op) x=some (.slice h.nx 0 (n+M.length) (n+M.length) true,h')∧Tidy h'∧h'.nx=h.nx+1∧Kept p h h'∧h'.get h.nx=some (.cells (L++M) e false):=by
 have hp:=y _ _ hg
 subst hn
 have ec:(L.drop 0).take (L.length*1)++M=L++M:=by
  rw[List.drop_zero,Nat.mul_one,List.take_of_length_le (Nat.le_refl _)]
 have y2:Tidy (if op then h.put p none else h):=by
  cases op with
  | false=>exact y
  | true=>
    intro i x g
    show i<h.nx
    by_cases hi:i=p
    · subst hi;exact hp
    · rw[if_pos rfl,aw.cj (Ne.symm hi)] at g;exact y i x g
 have n2:(if op then h.put p none else h).nx=h.nx:=by cases op<;>rfl
 obtain ⟨h',n⟩:=yO (h:=if op then h.put p none else h) (.cells (L++M) e false)
 refine ⟨h',?_,m4 y2 n,by rw[yN n,n2],fun i x hi g=>?_,by rw[←n2];exact tx n⟩
 · have hn:0<M.length:=List.length_pos_iff.2 hm
   have JT:(4*(L.length+M.length)+4096)*(bytes+1)≤1099511627776:=Nat.le_trans (Nat.mul_le_mul (show 4*(L.length+M.length)+4096≤17179869184 by omega) (show bytes+1≤64 by omega)) (by decide)
   have hc:¬L.length+M.length≤L.length:=by omega
   simp only[di,h0,h1,hs,hx,hi,R2,hb,hlen,hf,DH,hz,CT,hg,hc,if_true,if_false,Bool.false_eq_true,Nat.mul_one]
   rw[if_pos ⟨trivial,trivial,trivial⟩,if_pos ⟨JT,by omega,fun _=>⟨trivial,by omega⟩⟩]
   rw[show List.take L.length (List.drop 0 L)=L by rw[List.drop_zero,List.take_length],n]
 · refine vK y2 n ?_
   cases op with
   | false=>exact g
   | true=>rw[if_pos rfl,aw.cj (Ne.symm hi)];exact g
def gK (e:TypeId) (h0 h:aw) (z:AV) (L:List AV):Prop:=(z= .aD∧L=[])∨(L≠ []∧∃p op,z= .slice p 0 L.length L.length op∧h0.nx≤p∧h.get p=some (.cells L e false))
theorem gK.has {e:TypeId} {h0 h h':aw} {z:AV} {L:List AV} (o:gK e h0 h z L) (a:Has h h'):gK e h0 h' z L:=o.imp id fun ⟨hn,p,op,e,h1,g⟩=>⟨hn,p,op,e,h1,a _ _ g⟩
theorem gK.app {e s xt:TypeId} {xd:TypeDesc} {h0 h:aw} {tys:Array TypeId} {bytes:Nat} {z0 z x:AV} {L M:List AV} (y:Tidy h) (y0:Tidy h0) (a:Has h0 h) (hle:h0.nx≤h.nx) (o:gK e h0 h z L) (t0:tys[0]? =some s) (t1:tys[1]? =some xt) (hs:env.P.underlying s=some (.slice e)) (hx:env.P.underlying xt=some xd) (hi:oZ xd=false) (R2:b7 env e=some 1) (hb:jT env e=some bytes) (DH:g5 env e=some z0) (hz:z0.cells.length=1) (h8:bytes≤63) (hlen:qF x=some M.length) (hf:fF h 1 M.length x=some M) (CT:M.all AV.scalar=true) (hm:M≠ []) (hl:L.length+M.length≤1073741824):
 ∃z' h',di env h tys z x=some (z',h')∧Tidy h'∧h.nx≤h'.nx∧Has h0 h'∧gK e h0 h' z' (L++M):=by
 rcases o with ⟨rfl,rfl⟩ | ⟨hn,p,op,rfl,hp,hg⟩
 · obtain ⟨h',e1,n⟩:=Db (h:=h) t0 t1 hs hx hi R2 hb DH hz h8 hlen hf CT hm (by simpa using hl)
   have:=yN n
   exact ⟨_,h',e1,m4 y n,by omega,a.trans (xg y n),.inr ⟨by simpa using hm,h.nx,true,by simp,hle,tx n⟩⟩
 · obtain ⟨h',e1,y1,z1,k1,g1⟩:=Dc (op:=op) y t0 t1 hs hx hi R2 hb DH hz h8 hlen hf CT rfl hm hl hg
   exact ⟨_,h',e1,y1,by omega,Has.ei a k1 y0 hp,.inr ⟨by simp [hn],h.nx,true,by rw[List.length_append],hle,g1⟩⟩
theorem R5 {i:Nat} {b:Bool} {v:AV}:qF (.slice i 0 1 1 b)=some [v].length:=rfl
theorem I0 {h:aw} {i:Nat} {b:Bool} {v:AV} {e:TypeId} {ro:Bool} (hg:h.get i=some (.cells [v] e ro)):fF h 1 [v].length (.slice i 0 1 1 b)=some [v]:=by
 simp [fF,hg]
theorem gK.le {e:TypeId} {h0 h1 h:aw} {z:AV} {L:List AV} (o:gK e h1 h z L) (hn:h0.nx≤h1.nx):gK e h0 h z L:=o.imp id fun ⟨fH,p,op,e,h1,g⟩=>⟨fH,p,op,e,by omega,g⟩
def zs (k:IntKind) (l:List Int):List AV:=l.map (AV.int k)
theorem fZ (k:IntKind) (l:List Int):(zs k l).length=l.length:=by simp [zs]
theorem abj (k:IntKind) (l:List Int) (x:Int):zs k (l++[x])=zs k l++[AV.int k x]:=by simp [zs]
theorem KB (k:IntKind) (l:List Int) {i:Nat} (hi:i<l.length):(zs k l)[i]? =some (.int k (l.g i)):=by
 rw[zs,List.getElem?_map,List.getElem?_eq_getElem hi,List.g,List.getD_eq_getElem?_getD,List.getElem?_eq_getElem hi];rfl
structure bS (h:aw) (k:IntKind) (e:TypeId) (v:AV) (l:List Int):Prop where
 at_:od env h e 1 v l.length (zs k l)
 agg:fY env e=some false
 known:v= .aD∨v= .fm∨∃p o m c b,v= .slice p o m c b
theorem bS.has {k:IntKind} {h h':aw} {e:TypeId} {v:AV} {l:List Int} (x:bS h k e v l) (a:Has h h'):bS h' k e v l:=⟨x.at_.has a,x.agg,x.known⟩
theorem bS.scalar {k:IntKind} {h:aw} {e:TypeId} {v:AV} {l:List Int} (x:bS h k e v l):AV.scalar v=true:=by
 rcases x.known with rfl | rfl | ⟨p,o,m,c,b,rfl⟩<;>rfl
theorem bS.same {k:IntKind} {h:aw} {e:TypeId} {v:AV} {l:List Int} (x:bS h k e v l) (n:Nat):AV.same (n+1) v v=true:=by
 rcases x.known with rfl | rfl | ⟨p,o,m,c,b,rfl⟩
 · rfl
 · rfl
 · exact jg n p o m c b
theorem bS.R6 {k:IntKind} {h:aw} {e:TypeId} {v:AV} {l:List Int} {m:Nat} (x:bS h k e v l) (e1:AV.map m=v):False:=by
 rcases x.known with rfl | rfl | ⟨p,o,n,c,b,rfl⟩<;>cases e1
theorem bS.small {k:IntKind} {h:aw} {e:TypeId} {v:AV} {l:List Int} (x:bS h k e v l):l.length<2^60:=x.at_.small
theorem bS.len {k:IntKind} {h:aw} {e:TypeId} {v:AV} {l:List Int} (x:bS h k e v l):cc (some (.slice e)) (some v)=some (.int .i64 (l.length:Nat)):=x.at_.lens
theorem bS.elem {k:IntKind} {h:aw} {e:TypeId} {v:AV} {l:List Int} (x:bS h k e v l) {i:Nat} (hi:i<l.length):∃p q,bR env (some (.slice e)) (some v) (some (.int .i64 ((i:Nat):Int)))=some (.ptr p q)∧aY env h e (.ptr p q)=some (.int k (l.g i)):=x.at_.elem x.agg (KB k l hi)
theorem bS.load {k:IntKind} {h:aw} {e:TypeId} {v:AV} {l:List Int} (x:bS h k e v l) {i p q:Nat} (hi:i<l.length) (hx:bR env (some (.slice e)) (some v) (some (.int .i64 ((i:Nat):Int)))=some (.ptr p q)):aY env h e (.ptr p q)=some (.int k (l.g i)):=by
 obtain ⟨p',q',h1,h2⟩:=x.elem hi
 rw[hx] at h1
 simp only[Option.some.injEq,AV.ptr.injEq] at h1
 obtain ⟨rfl,rfl⟩:=h1
 exact h2
theorem bS.nil {k:IntKind} {h:aw} {e:TypeId} (hs:b7 env e=some 1) (ha:fY env e=some false):bS h k e .aD []:=⟨⟨hs,rfl,by decide,rfl,.inl rfl⟩,ha,.inl rfl⟩
theorem gK.zs {k:IntKind} {e:TypeId} {h0 h:aw} {z:AV} {l:List Int} (o:gK e h0 h z (aJ.zs k l)) (hl:l.length<2^60) (hs:b7 env e=some 1) (ha:fY env e=some false):bS h k e z l:=by
 rcases o with ⟨rfl,e0⟩ | ⟨hn,p,op,rfl,_,hg⟩
 · have:l=[]:=List.length_eq_zero_iff.1 (by have:=congrArg List.length e0;rwa [fZ] at this)
   subst this
   exact bS.nil hs ha
 · rw[fZ]
   exact ⟨⟨hs,by rw[fZ];omega,hl,rfl,.inr ⟨p,0,_,_,op,_,_,_,rfl,Nat.le_refl _,hg,fun j _=>by rw[Nat.zero_add]⟩⟩,ha,.inr (.inr ⟨_,_,_,_,_,rfl⟩)⟩
theorem gK.W8 {k:IntKind} {e:TypeId} {h0 h:aw} {z:AV} {l:List Int} {n:Nat} (o:gK e h0 h z (aJ.zs k l)) (v:AV.within h0.nx (n+1) z=true) (hs:b7 env e=some 1) (ha:fY env e=some false):bS h0 k e z l:=by
 rcases o with ⟨rfl,e0⟩ | ⟨hn,p,op,rfl,hp,hg⟩
 · have:l=[]:=List.length_eq_zero_iff.1 (by have:=congrArg List.length e0;rwa [fZ] at this)
   subst this
   exact bS.nil hs ha
 · have:=of_decide_eq_true (show decide (p<h0.nx)=true from v)
   omega
theorem KC {nx:Nat} {z:AV} {cs:List AV} (h:AV.within nx 20 (.tuple (z::cs))=true):AV.within nx (18+1) z=true:=by
 simp only[AV.within,List.all_cons,Bool.and_eq_true] at h
 exact h.1
def Ao {σ:Type} (call:bm) (b:Code) (s:St) (ex:lY) (h:aw) (e:TypeId) (tn:σ→AV→(Nat→AV)→List AV) (own:σ→List AV) (N:Nat) (r:σ):Prop:=∃z y hk,Ev env call (.loop b) s ex ⟨tn r z y,hk,[],.no⟩∧bp h hk∧gK e h hk z (own r)∧(own r).length≤N
section
variable {σ:Type} {call:bm} {b:Code} {s:St} {ex:lY} {h hk:aw} {e:TypeId} {tn:σ→AV→(Nat→AV)→List AV} {own:σ→List AV} {N:Nat}
theorem Ao.out {i:Nat} {L:List AV} {o:σ} (r:σ) (z:AV) (e1:o=r) (ev:Ev env call b s (.exit i) ⟨L,hk,[],.no⟩) (G:bp h hk) (oz:gK e h hk z (own r)) (ln:(own r).length≤N) (hl:L=tn r z fun k=>L.getD k AV.undef):Ao call b s (.exit i) h e tn own N o:=by
 subst e1
 obtain ⟨y,q⟩:=kI (tmpl:=tn o z) (Ev.out ev) hl
 exact ⟨z,y,hk,q,G,oz,ln⟩
theorem Ao.round {L:List AV} {o o':σ} (e1:o=o') (ev:Ev env call b s .normal ⟨L,hk,[],.no⟩) (IZ:(Nat→AV)→List AV) (hl:L=IZ fun k=>L.getD k AV.undef) (ih:∀x,Ao call b ⟨IZ x,hk,[],.no⟩ ex h e tn own N o'):Ao call b s ex h e tn own N o:=by
 subst e1
 have q:=ih fun k=>L.getD k AV.undef
 rw[←hl] at q
 obtain ⟨z,y,h2,x,g,oz,ln⟩:=q;exact ⟨z,y,h2,Ev.loop ev x,g,oz,ln⟩
end
def nQ {α:Type} [aG α] (h0 h:aw) (z:AV) (l:List α):Prop:=
 ((z= .aD∨∃p,z= .slice p 0 0 0 false∧h0.nx≤p∧h.get p=some (.cells [] (aG.e α) false))∧l=[])∨
 (l≠ []∧∃p op,z= .slice p 0 l.length l.length op∧h0.nx≤p∧h.get p=some (.cells (l.flatMap aG.c) (aG.e α) false))
def adg (z:AV) (i:Nat):Prop:=∀o n c b,z≠ .slice i o n c b
section
variable {α:Type} [aG α] {h0 h h':aw} {z:AV} {l m:List α}
theorem nQ.has (o:nQ h0 h z l) (a:Has h h'):nQ h0 h' z l:=by
 rcases o with ⟨rfl | ⟨p,rfl,h1,h2⟩,rfl⟩ | ⟨hn,p,op,e,h1,g⟩
 · exact .inl ⟨.inl rfl,rfl⟩
 · exact .inl ⟨.inr ⟨p,rfl,h1,a _ _ h2⟩,rfl⟩
 · exact .inr ⟨hn,p,op,e,h1,a _ _ g⟩
theorem nQ.ahB {s xt:TypeId} {tys:Array TypeId} {bytes N:Nat} {z0 x:AV} (y:Tidy h) (y0:Tidy h0) (a:Has h0 h) (hle:h0.nx≤h.nx) (o:nQ h0 h z l) (hlen:qF x=some m.length) (hf:fF h (aG.n α) m.length x=some (m.flatMap aG.c)) (CT:(m.flatMap aG.c).all AV.scalar=true) (hl:l.length+m.length≤N)
 (t0:tys[0]? =some s) (t1:tys[1]? =some xt) (hs:env.P.underlying s=some (.slice (aG.e α))) (hx:env.P.underlying xt=some (.slice (aG.e α))) (hb:jT env (aG.e α)=some bytes) (DH:g5 env (aG.e α)=some z0) (hz:z0.cells.length=aG.n α) (big:∀k,k≤N→(4*k+4096)*(bytes+1)≤1099511627776):
 ∃z' h',di env h tys z x=some (z',h')∧Tidy h'∧h.nx≤h'.nx∧Has h0 h'∧nQ h0 h' z' (l++m)∧∀i w,adg z i→h.get i=some w→h'.get i=some w:=by
 have No:=ew aG.len m
 have hi:oZ (.slice (aG.e α))=false:=rfl
 have R7:∀{p:Nat} {ob:aH},h.get p=some ob→Tidy (h.put p (some ob))∧Has h0 (h.put p (some ob))∧(∀i w,h.get i=some w→(h.put p (some ob)).get i=some w):=fun {p ob} g=>by
  have hg:∀i,(h.put p (some ob)).get i=h.get i:=fun i=>by
   by_cases e:i=p
   · subst e;rw[aw.dG,g]
   · rw[aw.cj (Ne.symm e)]
  exact ⟨fun i w q=>y i w (by rw[←hg];exact q),fun i w q=>by rw[hg];exact a i w q,fun i w q=>by rw[hg];exact q⟩
 have ahC:m≠ []→∃h',h.new (.cells (m.flatMap aG.c) (aG.e α) false)=some h'∧Tidy h'∧h.nx≤h'.nx∧Has h0 h'∧nQ h0 h' (.slice h.nx 0 m.length m.length true) m∧∀i w,h.get i=some w→h'.get i=some w:=fun hm=>by
  obtain ⟨h',n⟩:=yO (h:=h) (.cells (m.flatMap aG.c) (aG.e α) false)
  have:=yN n
  exact ⟨h',n,m4 y n,by omega,a.trans (xg y n),.inr ⟨hm,h.nx,true,rfl,hle,tx n⟩,fun i w g=>vK y n g⟩
 rcases o with ⟨rfl | ⟨p,rfl,hp,hg⟩,rfl⟩ | ⟨hn,p,op,rfl,hp,hg⟩
 · rw[List.nil_append]
   by_cases hm:m=[]
   · subst hm
     simp only[List.length_nil,List.flatMap_nil,Nat.zero_mul] at hlen hf CT No
     refine ⟨.aD,h,?_,y,Nat.le_refl _,a,.inl ⟨.inl rfl,rfl⟩,fun _ _ _ g=>g⟩
     simp only[di,t0,t1,hs,hx,hi,aG.size,hb,hlen,hf,DH,hz,CT,No,if_true,if_false,and_self,List.length_nil,Bool.false_eq_true,Nat.zero_mul]
   · obtain ⟨h',n,q1,q2,q3,q4,q5⟩:=ahC hm
     have ZQ:¬m.length=0:=fun e=>hm (List.length_eq_zero_iff.1 e)
     refine ⟨_,h',?_,q1,q2,q3,q4,fun i w _ g=>q5 i w g⟩
     simp only[di,t0,t1,hs,hx,hi,aG.size,hb,hlen,hf,DH,hz,CT,No,ZQ,big m.length o!,n,if_true,if_false,and_self,Bool.false_eq_true]
 · rw[List.nil_append]
   by_cases hm:m=[]
   · subst hm
     simp only[List.length_nil,List.flatMap_nil,Nat.zero_mul] at hlen hf CT No
     obtain ⟨q1,q2,q3⟩:=R7 hg
     refine ⟨_,_,?_,q1,Nat.le_refl _,q2,.inl ⟨.inr ⟨p,rfl,hp,q3 _ _ hg⟩,rfl⟩,fun i w _ g=>q3 i w g⟩
     simp only[di,t0,t1,hs,hx,hi,aG.size,hb,hlen,hf,DH,hz,CT,No,hg,if_true,if_false,and_self,List.length_nil,Bool.false_eq_true,Nat.zero_mul,Nat.add_zero,Nat.le_refl,List.flatMap_nil,setFrom]
   · obtain ⟨h',n,q1,q2,q3,q4,q5⟩:=ahC hm
     have ZQ:¬m.length≤0:=fun e=>hm (List.length_eq_zero_iff.1 o!)
     refine ⟨_,h',?_,q1,q2,q3,q4,fun i w _ g=>q5 i w g⟩
     simp only[di,t0,t1,hs,hx,hi,aG.size,hb,hlen,hf,DH,hz,CT,No,hg,ZQ,if_true,if_false,and_self,Bool.false_eq_true,Nat.zero_mul,Nat.add_zero,Nat.zero_add,List.length_nil,Nat.le_refl]
     rw[if_pos ⟨big m.length o!,trivial,fun e=>e.elim⟩]
     simp only[List.drop_nil,List.take_nil,List.nil_append,n]
 · have hlp:0<l.length:=List.length_pos_iff.2 hn
   have hpx:=y _ _ hg
   have hcl:=ew aG.len l
   by_cases hm:m=[]
   · subst hm
     simp only[List.length_nil,List.flatMap_nil,Nat.zero_mul] at hlen hf CT No
     obtain ⟨q1,q2,q3⟩:=R7 hg
     rw[List.append_nil]
     refine ⟨_,_,?_,q1,Nat.le_refl _,q2,.inr ⟨hn,p,op,rfl,hp,q3 _ _ hg⟩,fun i w _ g=>q3 i w g⟩
     simp only[di,t0,t1,hs,hx,hi,aG.size,hb,hlen,hf,DH,hz,CT,No,hg,hcl,if_true,if_false,and_self,List.length_nil,Bool.false_eq_true,Nat.zero_mul,Nat.add_zero,Nat.zero_add,Nat.le_refl,List.flatMap_nil,setFrom]
   · have hm0:0<m.length:=List.length_pos_iff.2 hm
     have y2:Tidy (if op then h.put p none else h):=by
      cases op with
      | false=>exact y
      | true=>
        intro i x g
        show i<h.nx
        by_cases hi:i=p
        · subst hi;exact hpx
        · rw[if_pos rfl,aw.cj (Ne.symm hi)] at g;exact y i x g
     have n2:(if op then h.put p none else h).nx=h.nx:=by cases op<;>rfl
     have k2:∀i w,i≠p→h.get i=some w→(if op then h.put p none else h).get i=some w:=fun i w hi g=>by
      cases op with
      | false=>exact g
      | true=>rw[if_pos rfl,aw.cj (Ne.symm hi)];exact g
     obtain ⟨h',n⟩:=yO (h:=if op then h.put p none else h) (.cells (l.flatMap aG.c++m.flatMap aG.c) (aG.e α) false)
     have hk:∀i w,i≠p→h.get i=some w→h'.get i=some w:=fun i w hi g=>vK y2 n (k2 i w hi g)
     have hc:¬l.length+m.length≤l.length:=by omega
     refine ⟨.slice h.nx 0 (l.length+m.length) (l.length+m.length) true,h',?_,m4 y2 n,by rw[yN n,n2];omega,fun i w g=>?_,.inr ⟨by simp [hn],h.nx,true,by rw[List.length_append],hle,by rw[List.flatMap_append,←n2];exact tx n⟩,fun i w q g=>hk i w (fun e=>q 0 l.length l.length op (by subst e;rfl)) g⟩
     · simp only[di,t0,t1,hs,hx,hi,aG.size,hb,hlen,hf,DH,hz,CT,No,hg,hc,if_true,if_false,and_self,Bool.false_eq_true]
       rw[if_pos ⟨big _ hl,by rw[hcl];omega,fun _=>⟨trivial,by rw[hcl];omega⟩⟩]
       rw[List.drop_zero,List.take_of_length_le (by rw[hcl];exact Nat.le_refl _),n]
     · have:=y0 _ _ g
       exact hk i w o! (a i w g)
theorem nQ.app {s xt:TypeId} {tys:Array TypeId} {bytes:Nat} {z0 x:AV} (y:Tidy h) (y0:Tidy h0) (a:Has h0 h) (hle:h0.nx≤h.nx) (o:nQ h0 h z l) (hlen:qF x=some m.length) (hf:fF h (aG.n α) m.length x=some (m.flatMap aG.c)) (CT:(m.flatMap aG.c).all AV.scalar=true) (hl:l.length+m.length≤1000000000)
 (t0:tys[0]? =some s) (t1:tys[1]? =some xt) (hs:env.P.underlying s=some (.slice (aG.e α))) (hx:env.P.underlying xt=some (.slice (aG.e α))) (hb:jT env (aG.e α)=some bytes) (DH:g5 env (aG.e α)=some z0) (hz:z0.cells.length=aG.n α) (h8:bytes≤255):
 ∃z' h',di env h tys z x=some (z',h')∧Tidy h'∧h.nx≤h'.nx∧Has h0 h'∧nQ h0 h' z' (l++m)∧∀i w,adg z i→h.get i=some w→h'.get i=some w:=
 nQ.ahB y y0 a hle o hlen hf CT hl t0 t1 hs hx hb DH hz fun k hk=>Nat.le_trans (Nat.mul_le_mul (show 4*k+4096≤4294967296 by omega) (show bytes+1≤256 by omega)) (by decide)
theorem ok_one {x:α} (o:aG.ok h x):∀y∈ [x],aG.ok h y:=fun y hy=>by
 rw[List.mem_singleton] at hy;subst hy;exact o
theorem aex (a:∀y∈l,aG.ok h y) (b:∀y∈m,aG.ok h y):∀y∈l++m,aG.ok h y:=fun y hy=>(List.mem_append.1 hy).elim (a y) (b y)
theorem abk (g:Has h h') (a:∀y∈l,aG.ok h y):∀y∈l,aG.ok h' y:=fun y hy=>aG.mono g (a y hy)
class Flat (α:Type) [aG α]:Prop where
 free:∀{h h':aw} {x:α},aG.ok h x→aG.ok h' x
theorem R8 {D:Type} [aG D] [Flat D] {h h':aw} {l:List D} (a:∀y∈l,aG.ok h y):∀y∈l,aG.ok h' y:=fun y hy=>Flat.free (a y hy)
theorem aM.qF {v:AV} (x:aM h v l):qF v=some l.length:=by
 have hl:=x.at_.lens
 rcases x.known with rfl | rfl | ⟨p,o,m,c,b,rfl,_⟩
 · rw[Aj] at hl
   simp only[Option.some.injEq,AV.int.injEq,true_and] at hl
   rw[show l.length=0 by omega];rfl
 · rw[aer] at hl
   simp only[Option.some.injEq,AV.int.injEq,true_and] at hl
   rw[show l.length=0 by omega];rfl
 · rw[jh] at hl
   simp only[Option.some.injEq,AV.int.injEq,true_and] at hl
   rw[show l.length=m by omega];rfl
theorem aM.first {v:AV} (x:aM h v l):fF h (aG.n α) l.length v=some (l.flatMap aG.c):=by
 by_cases hl:l=[]
 · subst hl
   rcases x.known with rfl | rfl | ⟨p,o,m,c,b,rfl,_⟩<;>simp [fF]
 · have hlp:0<l.length:=List.length_pos_iff.2 hl
   have hcl:=ew aG.len l
   rcases x.at_.block with h0 | ⟨p,o,m,c,b,C,f,ro,h1,_,h2,h3⟩
   · omega
   · subst h1
     have hm:m=l.length:=by
      have:=x.at_.lens
      rw[jh] at this
      simp only[Option.some.injEq,AV.int.injEq,true_and] at this
      omega
     subst hm
     have hC:o+l.length*aG.n α≤C.length:=by
      rcases Nat.eq_zero_or_pos (l.length*aG.n α) with h0 | h0
      · have:=Nat.mul_pos hlp (aG.pos (α:=α));omega
      · have:=h3 (l.length*aG.n α - 1) o!
        rw[List.getElem?_eq_getElem (by omega:l.length*aG.n α - 1<(l.flatMap aG.c).length)] at this
        have:=(List.getElem?_eq_some_iff.1 this).1
        omega
     simp only[fF,Nat.le_refl,if_true,if_false,show ¬l.length=0 by omega,h2,hC]
     congr 1
     apply List.ext_getElem?
     intro j
     by_cases hj:j<l.length*aG.n α
     · rw[List.getElem?_take_of_lt hj,List.getElem?_drop,h3 j o!]
     · rw[List.getElem?_eq_none (by rw[List.length_take];omega),List.getElem?_eq_none o!]
theorem FD {i:Nat} {b:Bool} {x:α} {e:TypeId} {ro:Bool} (hg:h.get i=some (.cells (aG.c x) e ro)):fF h (aG.n α) [x].length (.slice i 0 1 1 b)=some ([x].flatMap aG.c):=by
 have:=aG.len x
 simp only[fF,List.length_singleton,Nat.le_refl,if_true,hg,Nat.one_ne_zero,if_false,Nat.one_mul,Nat.zero_add,this,List.drop_zero,List.flatMap_cons,List.flatMap_nil,List.append_nil]
 rw[List.take_of_length_le o!]
theorem nQ.rows (o:nQ h0 h z l) (hl:l.length<2^60) (hk:∀x∈l,aG.ok h x):aM h z l:=by
 rcases o with ⟨rfl | ⟨p,rfl,h1,h2⟩,rfl⟩ | ⟨hn,p,op,rfl,h1,g⟩
 · exact ⟨⟨aG.size,(Nat.zero_mul _).symm,hl,rfl,.inl rfl⟩,.inl rfl,hk⟩
 · exact ⟨⟨aG.size,(Nat.zero_mul _).symm,hl,rfl,.inl rfl⟩,.inr (.inr ⟨_,_,_,_,_,rfl,fun e=>by cases e⟩),hk⟩
 · have:=List.length_pos_iff.2 hn
   exact ⟨⟨aG.size,ew aG.len l,hl,rfl,.inr ⟨p,0,_,_,op,_,_,_,rfl,Nat.le_refl _,g,fun j _=>by rw[Nat.zero_add]⟩⟩,.inr (.inr ⟨_,_,_,_,_,rfl,fun _=>this⟩),hk⟩
end
structure Span where
 bl:Int
 aN:Int
@[reducible] def Span.c (x:Span):List AV:=[.int .i64 x.bl,.int .i64 x.aN]
def Span.ok (h:aw) (x:Span):Prop:=True
def Span.eq (x y:Span):Bool:=(x.bl==y.bl)&&(x.aN==y.aN)
theorem Span.deep (x y:Span):mo env 16 70 (.agg (Span.c x)) (.agg (Span.c y))=some (Span.eq x y):=by
 have e:mo env 16 70 (.agg (Span.c x)) (.agg (Span.c y))=(match some (x.bl==y.bl) with | some true=>(match some (x.aN==y.aN) with | some true=>some true | some false=>some false | none=>none) | some false=>some false | none=>none):=by kernel_rfl
 rw[e,Span.eq]
 cases (x.bl==y.bl)<;>try rfl
 cases (x.aN==y.aN)<;>try rfl
theorem Span.eql (x y:Span) {a b:Bool}:hD env .eql 70 a b (some (.agg (Span.c x))) (some (.agg (Span.c y)))=some (.bool (Span.eq x y)):=by
 show (if env.P.eqGuardType env.P.depth 70 then none else (match mo env 16 70 (.agg (Span.c x)) (.agg (Span.c y)) with | some r=>some (AV.bool (r)) | none=>none))=_
 rw[show env.P.eqGuardType env.P.depth 70=false by kernel_rfl,Span.deep];rfl
theorem Span.neq (x y:Span) {a b:Bool}:hD env .neq 70 a b (some (.agg (Span.c x))) (some (.agg (Span.c y)))=some (.bool (!Span.eq x y)):=by
 show (if env.P.eqGuardType env.P.depth 70 then none else (match mo env 16 70 (.agg (Span.c x)) (.agg (Span.c y)) with | some r=>some (AV.bool (!r)) | none=>none))=_
 rw[show env.P.eqGuardType env.P.depth 70=false by kernel_rfl,Span.deep];rfl
instance:aG Span where
 default:=⟨0,0⟩
 c:=Span.c
 n:=2
 e:=70
 len _:=rfl
 ok:=Span.ok
 mono a o:=o
 size:=by kernel_rfl
 agg:=by kernel_rfl
 pos:=by decide
instance:Flat Span where
 free o:=o
structure jH where
 ah:Int
 aB:Int
@[reducible] def jH.c (x:jH):List AV:=[.int .i64 x.ah,.int .i64 x.aB]
def jH.ok (h:aw) (x:jH):Prop:=True
def jH.eq (x y:jH):Bool:=(x.ah==y.ah)&&(x.aB==y.aB)
theorem jH.deep (x y:jH):mo env 16 80 (.agg (jH.c x)) (.agg (jH.c y))=some (jH.eq x y):=by
 have e:mo env 16 80 (.agg (jH.c x)) (.agg (jH.c y))=(match some (x.ah==y.ah) with | some true=>(match some (x.aB==y.aB) with | some true=>some true | some false=>some false | none=>none) | some false=>some false | none=>none):=by kernel_rfl
 rw[e,jH.eq]
 cases (x.ah==y.ah)<;>try rfl
 cases (x.aB==y.aB)<;>try rfl
theorem jH.eql (x y:jH) {a b:Bool}:hD env .eql 80 a b (some (.agg (jH.c x))) (some (.agg (jH.c y)))=some (.bool (jH.eq x y)):=by
 show (if env.P.eqGuardType env.P.depth 80 then none else (match mo env 16 80 (.agg (jH.c x)) (.agg (jH.c y)) with | some r=>some (AV.bool (r)) | none=>none))=_
 rw[show env.P.eqGuardType env.P.depth 80=false by kernel_rfl,jH.deep];rfl
theorem jH.neq (x y:jH) {a b:Bool}:hD env .neq 80 a b (some (.agg (jH.c x))) (some (.agg (jH.c y)))=some (.bool (!jH.eq x y)):=by
 show (if env.P.eqGuardType env.P.depth 80 then none else (match mo env 16 80 (.agg (jH.c x)) (.agg (jH.c y)) with | some r=>some (AV.bool (!r)) | none=>none))=_
 rw[show env.P.eqGuardType env.P.depth 80=false by kernel_rfl,jH.deep];rfl
instance:aG jH where
 default:=⟨0,0⟩
 c:=jH.c
 n:=2
 e:=80
 len _:=rfl
 ok:=jH.ok
 mono a o:=o
 size:=by kernel_rfl
 agg:=by kernel_rfl
 pos:=by decide
instance:Flat jH where
 free o:=o
structure bI where
 name:List UInt8
 aB:Int
 dp:AV
 off:List Span
@[reducible] def bI.c (x:bI):List AV:=[.str x.name,.int .i64 x.aB,x.dp]
def bI.ok (h:aw) (x:bI):Prop:=x.name.length<2^60∧aM h x.dp x.off
instance:aG bI where
 default:=⟨[],0,.aD,[]⟩
 c:=bI.c
 n:=3
 e:=36
 len _:=rfl
 ok:=bI.ok
 mono a o:=⟨o.1,(o.2).has a⟩
 size:=by kernel_rfl
 agg:=by kernel_rfl
 pos:=by decide
structure Task where
 name:List UInt8
 takes:Int
 aO:AV
 ax:List Int
 aS:AV
 au:List jH
@[reducible] def Task.c (x:Task):List AV:=[.str x.name,.int .i64 x.takes,x.aO,x.aS]
def Task.ok (h:aw) (x:Task):Prop:=x.name.length<2^60∧bS h .i64 3 x.aO x.ax∧aM h x.aS x.au
instance:aG Task where
 default:=⟨[],0,.aD,[],.aD,[]⟩
 c:=Task.c
 n:=4
 e:=39
 len _:=rfl
 ok:=Task.ok
 mono a o:=⟨o.1,(o.2.1).has a,(o.2.2).has a⟩
 size:=by kernel_rfl
 agg:=by kernel_rfl
 pos:=by decide
structure cG where
 ao:AV
 ab:List Task
 ai:AV
 af:List bI
@[reducible] def cG.c (x:cG):List AV:=[x.ao,x.ai]
def cG.ok (h:aw) (x:cG):Prop:=aM h x.ao x.ab∧aM h x.ai x.af
instance:aG cG where
 default:=⟨.aD,[],.aD,[]⟩
 c:=cG.c
 n:=2
 e:=25
 len _:=rfl
 ok:=cG.ok
 mono a o:=⟨(o.1).has a,(o.2).has a⟩
 size:=by kernel_rfl
 agg:=by kernel_rfl
 pos:=by decide
theorem HJ {p:Prop} [Decidable p] (h:(!decide p)=true):¬p:=by intro q;rw[decide_eq_true q] at h;cases h
theorem HK {p:Prop} [Decidable p] (h:(!decide p)=false):p:=by by_cases q:p;exact q;rw[decide_eq_false q] at h;cases h
def bs (l:List Bool):List AV:=l.map AV.bool
theorem PQ (l:List Bool):(bs l).length=l.length:=by simp [bs]
theorem W9 (l:List Bool) {i:Nat} (hi:i<l.length):(bs l)[i]? =some (.bool (l.g i)):=by
 rw[bs,List.getElem?_map,List.getElem?_eq_getElem hi,List.g,List.getD_eq_getElem?_getD,List.getElem?_eq_getElem hi];rfl
theorem W_ (k:IntKind) (l:List Int) (i:Nat) (v:Int):(zs k l).set i (.int k v)=zs k (l.set i v):=by simp [zs,List.map_set]
theorem aey (l:List Bool) (i:Nat) (v:Bool):(bs l).set i (.bool v)=bs (l.set i v):=by simp [bs,List.map_set]
theorem FE (k:IntKind):∀n,bP [AV.int k 0] n=zs k (List.replicate n 0)
 | 0=>rfl
 | n+1=>by rw[bP,FE k n];rfl
theorem yP:∀n,bP [AV.bool false] n=bs (List.replicate n false)
 | 0=>rfl
 | n+1=>by rw[bP,yP n];rfl
section
variable {h:aw} {t e:TypeId} {p i n:Nat}
theorem KD {l:List Bool} {ro:Bool} (ht:fY env t=some false) (hg:h.get p=some (.cells (bs l) e ro)) (hi:i<l.length):aY env h t (.ptr p i)=some (.bool (l.g i)):=by
 simp only[aY,hg,jq,ht];exact W9 l hi
theorem I1 {cs:List AV} {v:AV} (hs:b7 env t=some 1) (hg:h.get p=some (.cells cs e false)) (hi:i<cs.length) (hv:v.cells=[v]) (hk:AV.scalar v=true):dW env h t (.ptr p i) v=some (h.put p (some (.cells (cs.set i v) e false))):=by
 obtain ⟨h',s⟩:=r5 (E:=env) (t:=t) (o:=i) (n:=1) (v:=v) hg hs (by rw[hv];rfl) o! (by rw[hv];simp [hk])
 rw[s,oE s hg,hv];rfl
theorem Ap {k:IntKind} {l:List Int} {v:Int} (hs:b7 env t=some 1) (hg:h.get p=some (.cells (zs k l) e false)) (hi:i<l.length):dW env h t (.ptr p i) (.int k v)=some (h.put p (some (.cells (zs k (l.set i v)) e false))):=by
 rw[I1 hs hg (by rw[fZ];exact hi) rfl rfl,W_]
theorem r7 {l:List Bool} {v:Bool} (hs:b7 env t=some 1) (hg:h.get p=some (.cells (bs l) e false)) (hi:i<l.length):dW env h t (.ptr p i) (.bool v)=some (h.put p (some (.cells (bs (l.set i v)) e false))):=by
 rw[I1 hs hg (by rw[PQ];exact hi) rfl rfl,aey]
end
structure l7 (h:aw) (e:TypeId) (v:AV) (l:List Bool):Prop where
 at_:od env h e 1 v l.length (bs l)
 agg:fY env e=some false
section
variable {h h':aw} {e:TypeId} {v:AV} {l:List Bool}
theorem l7.has (x:l7 h e v l) (a:Has h h'):l7 h' e v l:=⟨x.at_.has a,x.agg⟩
theorem l7.scalar (x:l7 h e v l):AV.scalar v=true:=by
 have q:=x.at_.lens
 cases v<;>first | rfl | (exfalso;revert q;simp [cc])
theorem KE {v:AV} (x:AV.scalar v=true):AV.cells v=[v]:=by
 cases v<;>first | rfl | cases x
theorem l7.small (x:l7 h e v l):l.length<2^60:=x.at_.small
theorem l7.elem (x:l7 h e v l) {i:Nat} (hi:i<l.length):∃p q,bR env (some (.slice e)) (some v) (some (.int .i64 ((i:Nat):Int)))=some (.ptr p q)∧aY env h e (.ptr p q)=some (.bool (l.g i)):=x.at_.elem x.agg (W9 l hi)
theorem l7.load (x:l7 h e v l) {i p q:Nat} (hi:i<l.length) (hx:bR env (some (.slice e)) (some v) (some (.int .i64 ((i:Nat):Int)))=some (.ptr p q)):aY env h e (.ptr p q)=some (.bool (l.g i)):=by
 obtain ⟨p',q',h1,h2⟩:=x.elem hi
 rw[hx] at h1
 simp only[Option.some.injEq,AV.ptr.injEq] at h1
 obtain ⟨rfl,rfl⟩:=h1
 exact h2
theorem l7.own {p n:Nat} {op ro:Bool} {f:TypeId} (hs:b7 env e=some 1) (ha:fY env e=some false) (hg:h.get p=some (.cells (bs l) f ro)) (hn:l.length=n) (h60:n<2^60):l7 h e (.slice p 0 n n op) l:=by
 subst hn
 exact ⟨⟨hs,by rw[PQ];omega,h60,rfl,.inr ⟨p,0,_,_,op,_,_,_,rfl,Nat.le_refl _,hg,fun j _=>by rw[Nat.zero_add]⟩⟩,ha⟩
theorem bS.own {k:IntKind} {p n:Nat} {op ro:Bool} {f:TypeId} {l:List Int} (hs:b7 env e=some 1) (ha:fY env e=some false) (hg:h.get p=some (.cells (zs k l) f ro)) (hn:l.length=n) (h60:n<2^60):bS h k e (.slice p 0 n n op) l:=by
 subst hn
 exact ⟨⟨hs,by rw[fZ];omega,h60,rfl,.inr ⟨p,0,_,_,op,_,_,_,rfl,Nat.le_refl _,hg,fun j _=>by rw[Nat.zero_add]⟩⟩,ha,.inr (.inr ⟨_,_,_,_,_,rfl⟩)⟩
end
def cA {σ ρ:Type} (call:bm) (b:Code) (s:St) (ex:lY) (hh:aw) (tn:σ→AV→(Nat→AV)→List AV) (tr:ρ→AV→(Nat→AV)→List AV) (Qn:σ→AV→aw→Prop) (Qr:ρ→AV→aw→Prop):σ ⊕ ρ→Prop
 | .inl v=>∃z y hk,Ev env call (.loop b) s ex ⟨tn v z y,hk,[],.no⟩∧Tidy hk∧hh.nx≤hk.nx∧Qn v z hk
 | .inr r=>∃z y hk,Ev env call (.loop b) s .ret ⟨tr r z y,hk,[],.no⟩∧Tidy hk∧hh.nx≤hk.nx∧Qr r z hk
section
variable {σ ρ:Type} {call:bm} {b:Code} {s:St} {ex:lY} {hh hk:aw} {tn:σ→AV→(Nat→AV)→List AV} {tr:ρ→AV→(Nat→AV)→List AV} {Qn:σ→AV→aw→Prop} {Qr:ρ→AV→aw→Prop}
theorem cA.n {o:σ ⊕ ρ} {v:σ} (e:o= .inl v) (x:cA call b s ex hh tn tr Qn Qr o):∃z y hk,Ev env call (.loop b) s ex ⟨tn v z y,hk,[],.no⟩∧Tidy hk∧hh.nx≤hk.nx∧Qn v z hk:=by subst e;exact x
theorem cA.r {o:σ ⊕ ρ} {r:ρ} (e:o= .inr r) (x:cA call b s ex hh tn tr Qn Qr o):∃z y hk,Ev env call (.loop b) s .ret ⟨tr r z y,hk,[],.no⟩∧Tidy hk∧hh.nx≤hk.nx∧Qr r z hk:=by subst e;exact x
theorem cA.out {i:Nat} {L:List AV} {o:σ ⊕ ρ} (v:σ) (z:AV) (e:o= .inl v) (ev:Ev env call b s (.exit i) ⟨L,hk,[],.no⟩) (y1:Tidy hk) (n1:hh.nx≤hk.nx) (q:Qn v z hk) (hl:L=tn v z fun k=>L.getD k AV.undef):cA call b s (.exit i) hh tn tr Qn Qr o:=by
 subst e
 obtain ⟨y,x⟩:=kI (tmpl:=tn v z) (Ev.out ev) hl
 exact ⟨z,y,hk,x,y1,n1,q⟩
theorem cA.ret {L:List AV} {o:σ ⊕ ρ} (r:ρ) (z:AV) (e:o= .inr r) (ev:Ev env call b s .ret ⟨L,hk,[],.no⟩) (y1:Tidy hk) (n1:hh.nx≤hk.nx) (q:Qr r z hk) (hl:L=tr r z fun k=>L.getD k AV.undef):cA call b s ex hh tn tr Qn Qr o:=by
 subst e
 obtain ⟨y,x⟩:=kI (tmpl:=tr r z) (Ev.ret ev) hl
 exact ⟨z,y,hk,x,y1,n1,q⟩
theorem cA.round {L:List AV} {o o':σ ⊕ ρ} (e:o=o') (ev:Ev env call b s .normal ⟨L,hk,[],.no⟩) (n1:hh.nx≤hk.nx) (IZ:(Nat→AV)→List AV) (hl:L=IZ fun k=>L.getD k AV.undef) (ih:∀x,cA call b ⟨IZ x,hk,[],.no⟩ ex hk tn tr Qn Qr o'):cA call b s ex hh tn tr Qn Qr o:=by
 subst e
 have q:=ih fun k=>L.getD k AV.undef
 rw[←hl] at q
 cases o with
 | inl v=>obtain ⟨z,y,h2,x,y1,n2,g⟩:=q;exact ⟨z,y,h2,Ev.loop ev x,y1,Nat.le_trans n1 n2,g⟩
 | inr r=>obtain ⟨z,y,h2,x,y1,n2,g⟩:=q;exact ⟨z,y,h2,Ev.loop ev x,y1,Nat.le_trans n1 n2,g⟩
end
theorem gK.abl {k:IntKind} {e s xt:TypeId} {g h:aw} {tys:Array TypeId} {bytes b:Nat} {z0 z:AV} {L:List Int} {v:Int} {f:TypeId} {ro op:Bool} (y:Tidy h) (hle:g.nx≤h.nx) (o:gK e g h z (aJ.zs k L)) (hg:h.get b=some (.cells [.int k v] f ro)) (hl:L.length≤1000000000) (t0:tys[0]? =some s) (t1:tys[1]? =some xt) (hs:env.P.underlying s=some (.slice e)) (hx:env.P.underlying xt=some (.slice e)) (R2:b7 env e=some 1) (hb:jT env e=some bytes) (DH:g5 env e=some z0) (hz:z0.cells.length=1) (h8:bytes≤63):
 ∃z' h',di env h tys z (.slice b 0 1 1 op)=some (z',h')∧Tidy h'∧h.nx≤h'.nx∧(∀i w,i<g.nx→h.get i=some w→h'.get i=some w)∧gK e g h' z' (aJ.zs k (L++[v])):=by
 rw[abj]
 have U5:(aJ.zs k L).length≤1000000000:=by rw[fZ];exact hl
 rcases o with ⟨rfl,e0⟩ | ⟨hn,p,op',rfl,hp,hgp⟩
 · rw[e0]
   obtain ⟨h',e1,n⟩:=Db (h:=h) (M:=[.int k v]) t0 t1 hs hx rfl R2 hb DH hz h8 R5 (I0 hg) rfl (by simp) (by simp)
   have:=yN n
   exact ⟨_,h',e1,m4 y n,by omega,fun i w _ q=>vK y n q,.inr ⟨by simp,h.nx,true,by simp,hle,tx n⟩⟩
 · obtain ⟨h',e1,y1,z1,k1,g1⟩:=Dc (op:=op') (M:=[.int k v]) y t0 t1 hs hx rfl R2 hb DH hz h8 R5 (I0 hg) rfl rfl (by simp) (by simp;omega) hgp
   exact ⟨_,h',e1,y1,by omega,fun i w hi q=>k1 i w o! q,.inr ⟨by simp,h.nx,true,by rw[List.length_append],hle,g1⟩⟩
theorem Has.PS {h hh h' g:aw} (a:Has h hh) (y:Tidy h) (n:h.nx≤g.nx) (A:∀i w,i<g.nx→hh.get i=some w→h'.get i=some w):Has h h':=fun i w q=>A i w (Nat.lt_of_lt_of_le (y i w q) n) (a i w q)
theorem gK.chg {e:TypeId} {g h h':aw} {z:AV} {L:List AV} {b:Nat} {C:aH} (o:gK e g h z L) (c:KA h h' b C) (hb:b<g.nx):gK e g h' z L:=o.imp id fun ⟨hn,p,op,e,h1,q⟩=>⟨hn,p,op,e,h1,c.2.2 _ _ o! q⟩
theorem gK.Xa {e:TypeId} {h0 h:aw} {z:AV} {L:List AV} {n:Nat} (o:gK e h0 h z L) (v:AV.within h0.nx (n+1) z=true):gK e h0 h0 z L:=by
 rcases o with ⟨rfl,e0⟩ | ⟨hn,p,op,rfl,hp,hg⟩
 · exact .inl ⟨rfl,e0⟩
 · have:=of_decide_eq_true (show decide (p<h0.nx)=true from v)
   omega
theorem cK {hh h':aw} {b:Nat} {o x:aH} (a:Has hh h') (g:hh.get b=some o) (g':h'.get b=some x):hh.get b=some x:=by
 have q:=a _ _ g
 rw[g'] at q
 rw[g,←q]
theorem fU {d:Nat} {f:FuncId} {args:List AV} {hh h':aw} {v:AV} {P:aw→Prop} (hm:M0 f args hh=none) (hd:yM env (cU d) f args hh v h') (y:Tidy hh) (y':Tidy h') (n:hh.nx≤h'.nx) (p':P h') (p:Has hh h'→P hh):∃hk,cU (d+1) (.fn f) args hh= .ret v hk∧Tidy hk∧hh.nx≤hk.nx∧P hk:=by
 obtain ⟨hk,e,rfl | ⟨rfl,a⟩⟩:=PO hm hd
 · exact ⟨_,e,y',n,p'⟩
 · exact ⟨_,e,y,Nat.le_refl _,p a⟩
theorem r_ {nx k b n m c:Nat} {op:Bool} (v:AV.within nx (k+1) (.slice b n m c op)=true) (hb:nx≤b):False:=by
 have:=of_decide_eq_true (show decide (b<nx)=true from v)
 omega
theorem B_ (v:AV) (hv:AV.same 20 v v=true) (n:Nat) (e:TypeId) (ro:Bool):aH.same (.cells (bP [v] n) e ro) (.cells (bP [v] n) e ro)=true:=by
 have:∀n,ep (AV.same 20) (bP [v] n) (bP [v] n)=true:=fun n=>by
  induction n with
  | zero=>rfl
  | succ n ih=>
    show ep (AV.same 20) (v::bP [v] n) (v::bP [v] n)=true
    rw[ep,ih,hv];rfl
 simp [aH.same,this]
theorem Ev.to {call:bm} {b:Code} {s:St} {e:lY} {L L':List AV} {hk:aw} (ev:Ev env call b s e ⟨L,hk,[],.no⟩) (hl:L=L'):Ev env call b s e ⟨L',hk,[],.no⟩:=hl▸ev
theorem Xb {v:AV} (h:AV.scalar v=true):v.cells=[v]:=by cases v<;>first | rfl | cases h
theorem akd {h:aw} {t e:TypeId} {i o:Nat} {cs N:List AV} {v:AV} (y:Tidy h) (gg:h.get i=some (.cells cs e false)) (hs:b7 env t=some 1) (hk:AV.scalar v=true) (hl:Nat.ble (o+1) cs.length=true) (hN:setFrom cs o [v]=N):∃h',dW env h t (.ptr i o) v=some h'∧Tidy h'∧h'.nx=h.nx∧h'.get i=some (.cells N e false)∧Kept i h h':=by
 have c:=Xb hk
 exact ahz y gg hs (by rw[c];rfl) hl (by rw[c];exact hN) (by rw[c];simp [hk])
theorem ahD (f:FuncId) (a b:List AV):AV.scalar (.func f a b)=true:=rfl
theorem Dd {f:FuncId} {fn:Func} {c:Code} {args ts0 ts:List AV} {h h':aw} {call:bm} {x:lY} {v:AV} {a:Tmp} {t:TypeId} {i:Nat} (hf:env.P.funcs[f]? =some fn) (hb:fn.body=some c) (ht:args++List.replicate (fn.ntmps - args.length) AV.undef=ts0) (hx:x= .normal∨x= .ret)
 (e:Ev env call c ⟨ts0,h,[],.no⟩ x ⟨ts,h',[],.no⟩) (hrs:(fn.results.toList,ts.getD a AV.undef)=([.cell a t],AV.ptr i 0)) (hl:aY env h' t (.ptr i 0)=some v):yM env call f args h v h':=by
 refine aZ hf hb ht hx e ?_
 rw[show fn.results.toList=[.cell a t] from congrArg Prod.fst hrs]
 simp only[lZ,show ts.getD a AV.undef= .ptr i 0 from congrArg (fun q=>q.2) hrs,hl,Option.map_some]
 rfl
section
variable {α:Type} [aG α]
theorem nQ.le {h0 h1 h:aw} {z:AV} {l:List α} (o:nQ h1 h z l) (hn:h0.nx≤h1.nx):nQ h0 h z l:=by
 rcases o with ⟨rfl | ⟨p,rfl,h1,h2⟩,rfl⟩ | ⟨fH,p,op,e,h1,g⟩
 · exact .inl ⟨.inl rfl,rfl⟩
 · exact .inl ⟨.inr ⟨p,rfl,by omega,h2⟩,rfl⟩
 · exact .inr ⟨fH,p,op,e,by omega,g⟩
def m6 {σ:Type} (call:bm) (b:Code) (s:St) (ex:lY) (h:aw) (tn:σ→AV→(Nat→AV)→List AV) (own:σ→List α) (N:Nat) (r:σ):Prop:=∃z y hk,Ev env call (.loop b) s ex ⟨tn r z y,hk,[],.no⟩∧bp h hk∧nQ h hk z (own r)∧(∀y∈own r,aG.ok hk y)∧(own r).length≤N
variable {σ:Type} {call:bm} {b:Code} {s:St} {ex:lY} {h hk:aw} {tn:σ→AV→(Nat→AV)→List AV} {own:σ→List α} {N:Nat}
theorem m6.out {i:Nat} {L:List AV} {o:σ} (r:σ) (z:AV) (e1:o=r) (ev:Ev env call b s (.exit i) ⟨L,hk,[],.no⟩) (G:bp h hk) (oz:nQ h hk z (own r)) (ok:∀y∈own r,aG.ok hk y) (ln:(own r).length≤N) (hl:L=tn r z fun k=>L.getD k AV.undef):m6 call b s (.exit i) h tn own N o:=by
 subst e1
 obtain ⟨y,q⟩:=kI (tmpl:=tn o z) (Ev.out ev) hl
 exact ⟨z,y,hk,q,G,oz,ok,ln⟩
theorem m6.round {L:List AV} {o o':σ} (e1:o=o') (ev:Ev env call b s .normal ⟨L,hk,[],.no⟩) (IZ:(Nat→AV)→List AV) (hl:L=IZ fun k=>L.getD k AV.undef) (ih:∀x,m6 call b ⟨IZ x,hk,[],.no⟩ ex h tn own N o'):m6 call b s ex h tn own N o:=by
 subst e1
 have q:=ih fun k=>L.getD k AV.undef
 rw[←hl] at q
 obtain ⟨z,y,h2,x,g,oz,ok,ln⟩:=q;exact ⟨z,y,h2,Ev.loop ev x,g,oz,ok,ln⟩
end
section
variable {α:Type} [aG α]
theorem Xc {l:List α} {i:Nat} (h:i<l.length) (x:α):(l.set i x).g i=x:=by
 rw[List.g,List.getD_eq_getElem?_getD,List.getElem?_set_self h];rfl
theorem Xd {l:List α} {i j:Nat} (h:i≠j) (x:α):(l.set i x).g j=l.g j:=by
 rw[List.g,List.g,List.getD_eq_getElem?_getD,List.getD_eq_getElem?_getD,List.getElem?_set_ne h]
theorem KF {l:List α} {i:Nat} (h:i<l.length) (x:α):setFrom (l.flatMap aG.c) (i*aG.n α) (aG.c x)=(l.set i x).flatMap aG.c:=by
 have hn:0<aG.n α:=aG.pos
 have hl:=ew aG.len l
 have U5:=ew aG.len (l.set i x)
 rw[List.length_set] at U5
 have hx:=aG.len x
 apply List.ext_getElem?
 intro k
 rw[jK,hx,hl]
 have hk:k=k/aG.n α*aG.n α+k%aG.n α:=by rw[Nat.mul_comm];exact (Nat.div_add_mod k _).symm
 have hr:=Nat.mod_lt k hn
 generalize k/aG.n α=q at hk
 generalize k%aG.n α=r at hk hr
 by_cases hq:q<l.length
 · have h1:=oG aG.len l q r hq hr
   have h2:=oG aG.len (l.set i x) q r (by rw[List.length_set];exact hq) hr
   subst hk
   by_cases e:q=i
   · subst e
     have:q*aG.n α+aG.n α≤l.length*aG.n α:=by rw[←Nat.succ_mul];exact Nat.mul_le_mul_right _ hq
     rw[if_pos ⟨by omega,by omega,by omega⟩,h2,Xc hq,Nat.add_sub_cancel_left]
   · rw[if_neg,h1,h2,Xd (Ne.symm e)]
     intro ⟨a,b,c⟩
     rcases Nat.lt_or_gt_of_ne e with e | e
     · have:q*aG.n α+aG.n α≤i*aG.n α:=by rw[←Nat.succ_mul];exact Nat.mul_le_mul_right _ e
       omega
     · have:i*aG.n α+aG.n α≤q*aG.n α:=by rw[←Nat.succ_mul];exact Nat.mul_le_mul_right _ e
       omega
 · have:l.length*aG.n α≤q*aG.n α:=Nat.mul_le_mul_right _ o!
   rw[if_neg o!,List.getElem?_eq_none o!,List.getElem?_eq_none o!]
theorem nQ.at {h0 h:aw} {z:AV} {l:List α} (y:Tidy h) (y0:Tidy h0) (a:Has h0 h) (o:nQ h0 h z l) {i:Nat} (hi:i<l.length):
 ∃p,bR env (some (.slice (aG.e α))) (some z) (some (.int .i64 ((i:Nat):Int)))=some (.ptr p (i*aG.n α))∧
  ∀x:α,(aG.c x).all AV.scalar=true→∃h',dW env h (aG.e α) (.ptr p (i*aG.n α)) (.agg (aG.c x))=some h'∧Tidy h'∧h'.nx=h.nx∧nQ h0 h' z (l.set i x)∧Has h0 h':=by
 rcases o with ⟨_,rfl⟩ | ⟨hn,p,op,rfl,hp,hg⟩
 · simp at hi
 · have ix:=nP (E:=env) (i:=p) (o:=0) (c:=l.length) (b:=op) (aG.size (α:=α)) hi
   rw[Nat.zero_add] at ix
   refine ⟨p,ix,fun x hx=>?_⟩
   have hl:=ew aG.len l
   have hb:i*aG.n α+aG.n α≤l.length*aG.n α:=by rw[←Nat.succ_mul];exact Nat.mul_le_mul_right _ hi
   obtain ⟨h',s⟩:=r5 (E:=env) (t:=aG.e α) (o:=i*aG.n α) (n:=aG.n α) (v:= .agg (aG.c x)) hg aG.size (aG.len x) o! hx
   have g':=IW y s hg
   refine ⟨h',s,FB y s hg,FA s hg,.inr ⟨by intro e;rw[←List.length_eq_zero_iff,List.length_set] at e;omega,p,op,by rw[List.length_set],hp,?_⟩,fun j w gw=>?_⟩
   · rw[g']
     show some (aH.cells (setFrom (l.flatMap aG.c) (i*aG.n α) (aG.c x)) _ _)=_
     rw[KF hi]
   · have:=y0 _ _ gw
     exact Fz y s hg o! (a _ _ gw)
end
def kT:Code→List Code
 | .seq a b=>kT a++kT b
 | .cond _ a b=>kT a++kT b
 | .block _ b=>kT b
 | .loop b=>kT b
 | .scope b=>kT b
 | .rangeFunc _ _ a b=>kT a++kT b
 | .region i o d=> [.region i o d]
 | _=> []
end Go.Proofs.aJ
