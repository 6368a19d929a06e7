import Derived.Test.YtijehnelcbdlgaaGreatA5
import Derived.Test.YtijehnelcbdlgaaGreatEnv
namespace Go.Proofs.aM
open Go.Proofs Ab
noncomputable section
set_option maxRecDepth 100000
set_option maxHeartbeats 4000000
set_option linter.unusedVariables false
set_option linter.unusedSimpArgs false
theorem art {b:Bool} (h:b=true):(!b)=false:=by rw[h];rfl
theorem aru {b:Bool} (h:b=false):(!b)=true:=by rw[h];rfl
theorem Bo (t:TypeId) (c d:Bool) (k:IntKind) (a b:Int):iK env .eql t c d (some (.int k a)) (some (.int k b))=some (.bool (decide (a=b))):=afR t c d k a b
theorem kt (t:TypeId) (c d:Bool) (k:IntKind) (a b:Int):iK env .neq t c d (some (.int k a)) (some (.int k b))=some (.bool (!decide (a=b))):=afS t c d k a b
theorem bE (t:TypeId) (c d:Bool) (k:IntKind) (a b:Int):iK env .lss t c d (some (.int k a)) (some (.int k b))=some (.bool (decide (a<b))):=afT t c d k a b
theorem tx (t:TypeId) (c d:Bool) (k:IntKind) (a b:Int):iK env .leq t c d (some (.int k a)) (some (.int k b))=some (.bool (decide (a≤b))):=afU t c d k a b
theorem gz (t:TypeId) (c d:Bool) (k:IntKind) (a b:Int):iK env .gtr t c d (some (.int k a)) (some (.int k b))=some (.bool (decide (b<a))):=afV t c d k a b
theorem tA (t:TypeId) (c d:Bool) (k:IntKind) (a b:Int):iK env .geq t c d (some (.int k a)) (some (.int k b))=some (.bool (decide (b≤a))):=afW t c d k a b
theorem YK (t:TypeId) (c d:Bool) (a b:List UInt8):iK env .eql t c d (some (.str a)) (some (.str b))=some (.bool (decide (a=b))):=abg t c d a b
theorem anB (t:TypeId) (c d:Bool) (a b:List UInt8):iK env .neq t c d (some (.str a)) (some (.str b))=some (.bool (!decide (a=b))):=abh t c d a b
theorem qE (t:TypeId) (c d:Bool) {k:IntKind} {a b z:Int} (h:k.wrap (a+b)=z):iK env .add t c d (some (.int k a)) (some (.int k b))=some (.int k z):=IN h
theorem Aj (t:TypeId) (c d:Bool) {k:IntKind} {a b z:Int} (h:k.wrap (a - b)=z):iK env .sub t c d (some (.int k a)) (some (.int k b))=some (.int k z):=IP h
theorem aP (t:TypeId) (o:Nat) (v:AV) {h:az} {i:Nat} {cs:List AV} {e:TypeId} {ro:Bool} (hg:h.get i=some (.cells cs e ro)) (hv:nG env t cs o=some v):cX env h t (.ptr i o)=some v:=IQ hg hv
theorem MB {a:Nat} (h:a<9223372036854775808):IntKind.i64.wrap (a:Int)=(a:Int):=wrap_i64 (by omega) (by omega)
theorem eA (t:TypeId) (c d:Bool) (a b:Nat) (h:a+b<9223372036854775808):iK env .add t c d (some (.int .i64 (a:Int))) (some (.int .i64 (b:Int)))=some (.int .i64 ((a+b:Nat):Int)):=IN (by rw[show (a:Int)+b=((a+b:Nat):Int) by omega];exact MB h)
theorem anC (t:TypeId) (c d:Bool) (a b:Nat) (h:b≤a) (ha:a<9223372036854775808):iK env .sub t c d (some (.int .i64 (a:Int))) (some (.int .i64 (b:Int)))=some (.int .i64 ((a - b:Nat):Int)):=IP (by rw[show (a:Int) - b=((a - b:Nat):Int) by omega];exact MB (by omega))
theorem pk (d:Nat) (c:Code) (ts:List AV) (h:az) (e:oP) (h':az) {al:List rX} {ps:List Prop} (k:Pk al [] ps) (hr:run env (cA d) 300 c ⟨ts,h,[],.no⟩ al []= .at e ⟨Wo (run env (cA d) 300 c ⟨ts,h,[],.no⟩ al []),h',[],.no⟩ [] ps):Ev env (cA d) c ⟨ts,h,[],.no⟩ e ⟨Wo (run env (cA d) 300 c ⟨ts,h,[],.no⟩ al []),h',[],.no⟩:=ant k hr
theorem gQ {h:az} (y:Tidy h) (o:aN):∃h',h.new o=some h'∧Tidy h'∧h'.nx=h.nx+1∧h'.get h.nx=some o∧Has h h':=by
 obtain ⟨h',n⟩:=uv (h:=h) o
 exact ⟨h',n,mq y n,wh n,rY n,wi y n⟩
theorem anD {h:az} {t e:TypeId} {i o n:Nat} {cs N:List AV} {v:AV} (y:Tidy h) (gg:h.get i=some (.cells cs e false)) (hs:dm env t=some n) (hv:v.cells.length=n) (hl:Nat.ble (o+n) cs.length=true) (hN:setFrom cs o v.cells=N) (hk:v.cells.all AV.scalar=true):∃h',eS env h t (.ptr i o) v=some h'∧Tidy h'∧h'.nx=h.nx∧h'.get i=some (.cells N e false)∧Kept i h h':=by
 obtain ⟨h',s⟩:=vb (E:=env) gg hs hv (Nat.le_of_ble_eq_true hl) hk
 exact ⟨h',s,IT y s gg,IS s gg,by rw[←hN];exact Mu y s gg,Kept.store y s gg⟩
theorem j_ {h:az} {t e:TypeId} {i n:Nat} {cs L:List AV} (y:Tidy h) (gg:h.get i=some (.cells cs e false)) (hs:dm env t=some n) (hv:L.length=n) (hc:cs.length=n) (hk:L.all AV.scalar=true):∃h',eS env h t (.ptr i 0) (.agg L)=some h'∧Tidy h'∧h'.nx=h.nx∧h'.get i=some (.cells L e false)∧Kept i h h':=
 anD y gg hs hv (by rw[hc,Nat.zero_add,Nat.ble_eq];exact Nat.le_refl n) (by
  show setFrom cs 0 L=L
  apply List.ext_getElem?
  intro k
  rw[j5]
  split
  · rfl
  · rw[List.getElem?_eq_none (by omega),List.getElem?_eq_none (by omega)]) hk
structure Rk (f:List rX→List rX) (ps:List Prop):Prop where
 ok:pJ ps
section
variable {f:List rX→List rX} {ps:List Prop}
end
section
variable {f:List rX→List rX} {ps:List Prop}
end
theorem k! {p:Prop} (h:p:=by kernel_rfl):p:=h
theorem a! {p:Prop} (h:p:=by assumption):p:=h
theorem o! {p:Prop} (h:p:=by omega):p:=h
theorem nbf {b:Bool} (h:(!b)=false):b=true:=by cases b;cases h;rfl
theorem d! {p:Prop} (h:p:=by first | assumption | exact art (by assumption) | exact aru (by assumption) | exact nbf (by assumption) | exact nbt (by assumption) | exact dT (by omega) | exact dF (by omega) | exact nT (by omega) | exact nF (by omega)):p:=h
@[reducible] def _root_.Zi (x:Int):AV:= .int .i64 x
@[reducible] def _root_.Zn (n:Nat):AV:= .int .i64 (n:Int)
@[reducible] def _root_.Pt (b:Nat):AV:= .ptr b 0
theorem _root_.tp {c:Bool} (x y:Bool) (h:c=true):Gn (some (.bool c)) (some (.bool x)) (some (.bool y))=some (.bool x):=abk h
theorem _root_.pcf {c:Bool} (x y:Bool) (h:c=false):Gn (some (.bool c)) (some (.bool x)) (some (.bool y))=some (.bool y):=dD h
theorem _root_.tR {c:Bool} (x:Bool) (h:c=true):Gn (some (.bool c)) (some (.bool x)) (some AV.undef)=some (.bool x):=abk h
theorem _root_.vd {c:Bool} (x:Bool) (h:c=false):Gn (some (.bool c)) (some AV.undef) (some (.bool x))=some (.bool x):=dD h
section
variable {al:List rX} {p0 ps:List Prop}
theorem BC {u v:Bool} (h:u=v) (k:Pk al ((u=v)::p0) ps):Pk (.b v:: .c::al) p0 ps:=BB h (CC k)
theorem BV {u v:Bool} {l:Option AV} {x:AV} (h:u=v) (e:l=some x) (k:Pk al ((l=some x)::(u=v)::p0) ps):Pk (.b v:: .v x::al) p0 ps:=BB h (VV e k)
theorem BM {u v:Bool} {l:Option AV} {x:AV} (h:u=v) (e:l=some x) (k:Pk al ((l=some x)::(u=v)::p0) ps):Pk (.b v:: .m x::al) p0 ps:=BB h (MM e k)
end
theorem xn {t:Option TypeDesc} {v l:Option AV} {n:Int} (e:hG env t v (some (.int .i64 ((n.toNat:Nat):Int)))=l) (h:0≤n):hG env t v (some (.int .i64 n))=l:=by
 rw[show n=((n.toNat:Nat):Int) by omega];exact e
abbrev dr (L:List AV):Nat→AV:=fun k=>L.getD k AV.undef
theorem EX {α:Type} {c:Bool} {x y:α} (h:c=true):(bif c then x else y)=x:=by rw[h];rfl
theorem Et {α:Type} {c:Bool} {x y:α} (h:c=false):(bif c then x else y)=y:=by rw[h];rfl
theorem kJ {x:AV} {l:List AV} (h:AV.scalar x=true) (t:l.all AV.scalar=true):(x::l).all AV.scalar=true:=by rw[List.all_cons,h,t];rfl
theorem _root_.Go.Ab.Has.bK {h0 h h':az} {b:Nat} (a:Has h0 h) (k:Kept b h h') (y:Tidy h0) (hb:h0.nx≤b):Has h0 h':=fun i x g=>by
 have:=y i x g
 exact k i x o! (a i x g)
class aK (α:Type) extends Inhabited α where
 c:α→List AV
 n:Nat
 e:TypeId
 len:∀x,(c x).length=n
 ok:az→α→Prop
 mono:∀{h h':az} {x:α},Has h h'→ok h x→ok h' x
 size:dm env e=some n
 agg:jr env e=some true
 pos:0<n
@[reducible] def imax (x y:Int):Int:=if y>x then y else x
@[reducible] def auR (x y:Int):Int:=if y<x then y else x
def _root_.List.g {α:Type} [Inhabited α] (l:List α) (i:Nat):α:=l.getD i default
structure aO {α:Type} [aK α] (h:az) (v:AV) (l:List α):Prop where
 at_:nZ env h (aK.e α) (aK.n α) v l.length (l.flatMap aK.c)
 known:v= .aw∨v= .fJ∨∃p o m c b,v= .slice p o m c b∧(b=true→0<c)
 Te:∀x∈l,aK.ok h x
theorem dJ {α β:Type} {size:Nat} {f:α→List β} (hf:∀x,(f x).length=size) (l:List α):(l.flatMap f).length=l.length*size:=by
 induction l with
 | nil=>simp
 | cons x l ih=>rw[List.flatMap_cons,List.length_append,ih,hf,List.length_cons,Nat.succ_mul];omega
section
variable {α:Type} [aK α] {h:az} {v:AV} {l:List α}
theorem aO.has {h':az} (x:aO h v l) (a:Has h h'):aO h' v l:=⟨x.at_.has a,x.known,fun y hy=>aK.mono a (x.Te y hy)⟩
theorem oF {i:Nat} (hi:i<l.length):l.g i∈l:=by
 rw[List.g,List.getD_eq_getElem?_getD,List.getElem?_eq_getElem hi];exact List.getElem_mem hi
theorem aO.ok (x:aO h v l) {i:Nat} (hi:i<l.length):aK.ok h (l.g i):=x.Te _ (oF hi)
theorem aO.small (x:aO h v l):l.length<2^60:=x.at_.small
theorem aO.len (x:aO h v l):EV (some (.slice (aK.e α))) (some v)=some (.int .i64 (l.length:Nat)):=x.at_.lens
theorem aO.scalar (x:aO h v l):AV.scalar v=true:=by
 rcases x.known with rfl | rfl | ⟨p,o,m,c,b,rfl,_⟩<;>rfl
theorem oG {β:Type} {size:Nat} {f:α→List β} (hf:∀x,(f x).length=size):∀(l:List α) (i j:Nat) (_:i<l.length),j<size→(l.flatMap f)[i*size+j]? =(f (l.g i))[j]?
 | [],i,j,hi,_=>by cases hi
 | x::l,0,j,_,hj=>by
  rw[List.flatMap_cons,Nat.zero_mul,Nat.zero_add,List.getElem?_append_left (by rw[hf];exact hj)];rfl
 | x::l,i+1,j,hi,hj=>by
  have e:(i+1)*size+j -(f x).length=i*size+j:=by rw[hf,Nat.succ_mul];omega
  rw[List.flatMap_cons,List.getElem?_append_right (by rw[hf,Nat.succ_mul];omega),e,oG hf l i j (by simpa using hi) hj];rfl
theorem aO.elem (x:aO h v l) {i:Nat} (hi:i<l.length):∃p q,hG env (some (.slice (aK.e α))) (some v) (some (.int .i64 ((i:Nat):Int)))=some (.ptr p q):=by
 rcases x.at_.block with h0 | ⟨p,o,m,c,b,C,f,ro,h1,_,h2,h3⟩
 · omega
 · subst h1
   have hm:m=l.length:=by
    have:=x.at_.lens
    rw[ju] at this
    simp only[Option.some.injEq,AV.int.injEq,true_and] at this
    omega
   exact ⟨p,o+i*aK.n α,mo x.at_.size o!⟩
theorem aO.block (x:aO h v l) {i p q:Nat} (hi:i<l.length) (hx:hG env (some (.slice (aK.e α))) (some v) (some (.int .i64 ((i:Nat):Int)))=some (.ptr p q)):
 ∃C f ro,h.get p=some (.cells C f ro)∧∀j,j<aK.n α→C[q+j]? =(aK.c (l.g i))[j]? :=by
 rcases x.at_.block with h0 | ⟨p',o,m,c,b,C,f,ro,h1,_,h2,h3⟩
 · omega
 · subst h1
   have hm:m=l.length:=by
    have:=x.at_.lens
    rw[ju] at this
    simp only[Option.some.injEq,AV.int.injEq,true_and] at this
    omega
   rw[mo x.at_.size o!] at hx
   simp only[Option.some.injEq,AV.ptr.injEq] at hx
   obtain ⟨rfl,rfl⟩:=hx
   refine ⟨C,f,ro,h2,fun j hj=>?_⟩
   have e:=oG aK.len l i j hi hj
   have pI:i*aK.n α+j<(l.flatMap aK.c).length:=by
    rw[dJ aK.len]
    calc i*aK.n α+j<i*aK.n α+aK.n α:=by omega
     _=(i+1)*aK.n α:=by rw[Nat.succ_mul]
     _≤l.length*aK.n α:=Nat.mul_le_mul_right _ hi
   rw[←e,Nat.add_assoc,h3 _ pI]
theorem aO.load (x:aO h v l) {i p q:Nat} (hi:i<l.length) (hx:hG env (some (.slice (aK.e α))) (some v) (some (.int .i64 ((i:Nat):Int)))=some (.ptr p q)):cX env h (aK.e α) (.ptr p q)=some (.agg (aK.c (l.g i))):=by
 obtain ⟨C,f,ro,h1,h2⟩:=x.block hi hx
 have hl:=aK.len (l.g i)
 have hn:q+aK.n α≤C.length:=by
  have h0:=aK.pos (α:=α)
  have:=h2 (aK.n α - 1) o!
  rw[List.getElem?_eq_getElem (by omega:aK.n α - 1<(aK.c (l.g i)).length)] at this
  have:=(List.getElem?_eq_some_iff.1 this).1
  omega
 simp only[cX,h1,nG,aK.agg,aK.size,hn,if_true]
 congr 2
 apply List.ext_getElem?
 intro j
 by_cases hj:j<aK.n α
 · rw[List.getElem?_take_of_lt hj,List.getElem?_drop,h2 j hj]
 · rw[List.getElem?_eq_none (by rw[List.length_take];omega),List.getElem?_eq_none o!]
theorem aO.part (x:aO h v l) {i p q j:Nat} {t:TypeId} {w:AV} (hi:i<l.length) (hx:hG env (some (.slice (aK.e α))) (some v) (some (.int .i64 ((i:Nat):Int)))=some (.ptr p q)) (ht:jr env t=some false) (hw:(aK.c (l.g i))[j]? =some w):cX env h t (.ptr p (q+j))=some w:=by
 obtain ⟨C,f,ro,h1,h2⟩:=x.block hi hx
 have hj:=(List.getElem?_eq_some_iff.1 hw).1
 rw[aK.len] at hj
 simp only[cX,h1,nG,ht]
 rw[h2 j hj,hw]
theorem aO.nil {α:Type} [aK α] {h:az}:aO h .aw ([]:List α):=⟨⟨aK.size,by simp,by show 0<2^60;decide,rfl,.inl rfl⟩,.inl rfl,fun x hx=>by cases hx⟩
theorem aO.pre (x:aO h v l) {t:TypeId} (ht:env.P.underlying t=some (.slice (aK.e α))) {i:Nat} (hi:i<l.length):∃r,iY env t v none (some (.int .i64 ((i:Nat):Int))) none=some r∧aO h r (l.take i):=by
 rcases x.at_.block with h0 | ⟨p,o,m,c,b,C,f,ro,h1,hc,h2,h3⟩
 · omega
 · subst h1
   have hm:m=l.length:=by
    have:=x.at_.lens
    rw[ju] at this
    simp only[Option.some.injEq,AV.int.injEq,true_and] at this
    omega
   subst hm
   have hb:b=true→0<c:=fun e=>by omega
   refine ⟨.slice p o i c b,?_,⟨⟨x.at_.size,dJ aK.len _,by have:=x.small;simp;omega,?_,.inr ⟨p,o,i,c,b,C,f,ro,rfl,by omega,h2,fun j hj=>?_⟩⟩,.inr (.inr ⟨_,_,_,_,_,rfl,hb⟩),fun y hy=>x.Te y (List.mem_of_mem_take hy)⟩⟩
   · simp only[iY,ht,x.at_.size,hc,if_true,vc (len:=l.length) (cap:=c) none (some (.int .i64 ((i:Nat):Int))) (.inr ⟨rfl,rfl⟩) (.inl rfl) (Nat.zero_le i) o!]
     rw[if_neg o!]
     simp
   · rw[List.length_take,Nat.min_eq_left o!];exact ju _ _ _ _ _ _
   · rw[dJ aK.len,List.length_take,Nat.min_eq_left o!] at hj
     have pI:j<(l.flatMap aK.c).length:=by
      rw[dJ aK.len];exact Nat.lt_of_lt_of_le hj (Nat.mul_le_mul_right _ o!)
     rw[h3 j pI]
     have e:l=l.take i++l.drop i:=(List.take_append_drop i l).symm
     conv=>lhs;rw[e,List.flatMap_append]
     rw[List.getElem?_append_left]
     rw[dJ aK.len,List.length_take,Nat.min_eq_left o!];exact hj
def aC {ρ:Type} (call:b8) (b:Code) (s:St) (ex:oP) (hh:az) (tn:(Nat→AV)→List AV) (tr:ρ→(Nat→AV)→List AV):Option ρ→Prop
 | none=>∃y hk,Ev env call (.loop b) s ex ⟨tn y,hk,[],.no⟩∧Grow hh hk
 | some r=>∃y hk,Ev env call (.loop b) s .ret ⟨tr r y,hk,[],.no⟩∧Grow hh hk
section
variable {ρ:Type} {call:b8} {b:Code} {s:St} {ex:oP} {hh hk:az} {tn:(Nat→AV)→List AV} {tr:ρ→(Nat→AV)→List AV}
theorem aC.n {o:Option ρ} (e:o=none) (x:aC call b s ex hh tn tr o):∃y hk,Ev env call (.loop b) s ex ⟨tn y,hk,[],.no⟩∧Grow hh hk:=by subst e;exact x
theorem aC.r {o:Option ρ} {r:ρ} (e:o=some r) (x:aC call b s ex hh tn tr o):∃y hk,Ev env call (.loop b) s .ret ⟨tr r y,hk,[],.no⟩∧Grow hh hk:=by subst e;exact x
theorem aC.out {i:Nat} {L:List AV} {o:Option ρ} (e:o=none) (ev:Ev env call b s (.exit i) ⟨L,hk,[],.no⟩) (G:Grow hh hk) (hl:L=tn fun k=>L.getD k AV.undef):aC call b s (.exit i) hh tn tr o:=by
 subst e
 obtain ⟨y,q⟩:=j9 (Ev.out ev) hl
 exact ⟨y,hk,q,G⟩
theorem aC.ret {L:List AV} {o:Option ρ} (r:ρ) (e:o=some r) (ev:Ev env call b s .ret ⟨L,hk,[],.no⟩) (G:Grow hh hk) (hl:L=tr r fun k=>L.getD k AV.undef):aC call b s ex hh tn tr o:=by
 subst e
 obtain ⟨y,q⟩:=j9 (tmpl:=tr r) (Ev.ret ev) hl
 exact ⟨y,hk,q,G⟩
theorem aC.round {L:List AV} {o o':Option ρ} (e:o=o') (ev:Ev env call b s .normal ⟨L,hk,[],.no⟩) (G:Grow hh hk) (Q':(Nat→AV)→List AV) (hl:L=Q' fun k=>L.getD k AV.undef) (ih:∀x,aC call b ⟨Q' x,hk,[],.no⟩ ex hk tn tr o'):aC call b s ex hh tn tr o:=by
 subst e
 have q:=ih fun k=>L.getD k AV.undef
 rw[←hl] at q
 cases o with
 | none=>obtain ⟨y,h2,x,g⟩:=q;exact ⟨y,h2,Ev.loop ev x,G.trans g⟩
 | some r=>obtain ⟨y,h2,x,g⟩:=q;exact ⟨y,h2,Ev.loop ev x,G.trans g⟩
end
section
variable {ρ:Type} {call:b8} {b:Code} {s:St} {ex:oP} {h hh hk:az} {tn:(Nat→AV)→List AV} {tr:ρ→(Nat→AV)→List AV} {pb:Nat} {cl:ρ→aN}
end
def cr {σ:Type} (call:b8) (b:Code) (s:St) (ex:oP) (hh:az) (tn:σ→(Nat→AV)→List AV) (Q:σ→Prop) (r:σ):Prop:=∃y hk,Ev env call (.loop b) s ex ⟨tn r y,hk,[],.no⟩∧Grow hh hk∧Q r
section
variable {σ:Type} {call:b8} {b:Code} {s:St} {ex:oP} {hh hk:az} {tn:σ→(Nat→AV)→List AV} {Q:σ→Prop}
theorem cr.out {i:Nat} {L:List AV} {o:σ} (r:σ) (e:o=r) (ev:Ev env call b s (.exit i) ⟨L,hk,[],.no⟩) (G:Grow hh hk) (iq:Q r) (hl:L=tn r fun k=>L.getD k AV.undef):cr call b s (.exit i) hh tn Q o:=by
 subst e
 obtain ⟨y,q⟩:=j9 (tmpl:=tn o) (Ev.out ev) hl
 exact ⟨y,hk,q,G,iq⟩
theorem cr.round {L:List AV} {o o':σ} (e:o=o') (ev:Ev env call b s .normal ⟨L,hk,[],.no⟩) (G:Grow hh hk) (Q':(Nat→AV)→List AV) (hl:L=Q' fun k=>L.getD k AV.undef) (ih:∀x,cr call b ⟨Q' x,hk,[],.no⟩ ex hk tn Q o'):cr call b s ex hh tn Q o:=by
 subst e
 have q:=ih fun k=>L.getD k AV.undef
 rw[←hl] at q
 obtain ⟨y,h2,x,g,i⟩:=q;exact ⟨y,h2,Ev.loop ev x,G.trans g,i⟩
end
theorem aO.same {α:Type} [aK α] {h:az} {v:AV} {l:List α} (x:aO h v l) (n:Nat):AV.same (n+1) v v=true:=by
 rcases x.known with rfl | rfl | ⟨p,o,m,c,b,rfl,_⟩
 · rfl
 · rfl
 · exact gy n p o m c b
def af6 (cs:List AV):Prop:=∀n,dR (AV.same (n+1)) cs cs=true
theorem CK:af6 []:=fun _=>rfl
theorem kK {x:AV} {cs:List AV} (hx:∀n,AV.same (n+1) x x=true) (hc:af6 cs):af6 (x::cs):=fun n=>by
 show (AV.same (n+1) x x&&dR (AV.same (n+1)) cs cs)=true
 rw[hx,hc];rfl
theorem dK (n:Nat) {cs:List AV} (h:af6 cs):AV.same (n+2) (.agg cs) (.agg cs)=true:=h n
theorem rZ {s:List UInt8} {j:Nat} (hj:j<s.length):Bk env (some .string) (some (.str s)) (some (.int .i64 ((j:Nat):Int)))=some (.int .u8 (((s.g j).toNat:Nat):Int)):=by
 refine abj ?_
 rw[List.g,List.getD_eq_getElem?_getD,List.getElem?_eq_getElem hj];rfl
end
theorem Ra {h:az} {e s xt:TypeId} {xd:TypeDesc} {tys:Array TypeId} {bytes:Nat} {z x:AV} {M:List AV} (h0:tys[0]? =some s) (h1:tys[1]? =some xt) (hs:env.P.underlying s=some (.slice e)) (hx:env.P.underlying xt=some xd) (hi:sG xd=false) (Wz:dm env e=some 1) (hb:jT env e=some bytes) (xS:kE env e=some z) (hz:z.cells.length=1) (h8:bytes≤63) (hlen:sE x=some M.length) (hf:gJ h 1 M.length x=some M) (tj:M.all AV.scalar=true) (hm:M≠ []) (hl:M.length≤1073741824):
 ∃h',cb env h tys .aw x=some (.slice h.nx 0 M.length M.length true,h')∧h.new (.cells M e false)=some h':=by
 obtain ⟨h',n⟩:=uv (h:=h) (.cells M e false)
 refine ⟨h',?_,n⟩
 have hn:¬M.length=0:=fun e=>hm (List.length_eq_zero_iff.1 e)
 have TE:(4*M.length+4096)*(bytes+1)≤1099511627776:=Nat.le_trans (Nat.mul_le_mul (show 4*M.length+4096≤17179869184 by omega) (show bytes+1≤64 by omega)) (by decide)
 simp only[cb,h0,h1,hs,hx,hi,Wz,hb,hlen,hf,xS,hz,tj,Nat.mul_one,hn,TE,n,if_true,if_false,and_self,Bool.false_eq_true]
theorem Rb {h:az} {e s xt:TypeId} {xd:TypeDesc} {tys:Array TypeId} {bytes p:Nat} {op:Bool} {z x:AV} {L M:List AV} (y:Tidy h) (h0:tys[0]? =some s) (h1:tys[1]? =some xt) (hs:env.P.underlying s=some (.slice e)) (hx:env.P.underlying xt=some xd) (hi:sG xd=false) (Wz:dm env e=some 1) (hb:jT env e=some bytes) (xS:kE env e=some z) (hz:z.cells.length=1) (h8:bytes≤63) (hlen:sE x=some M.length) (hf:gJ h 1 M.length x=some M) (tj:M.all AV.scalar=true) {n:Nat} (hn:L.length=n) (hm:M≠ []) (hl:n+M.length≤1073741824)
 (hg:h.get p=some (.cells L e false)):
 ∃h',cb env h tys (.slice p 0 n n op) x=some (.slice h.nx 0 (n+M.length) (n+M.length) true,h')∧Tidy h'∧h'.nx=h.nx+1∧Kept p h h'∧h'.get h.nx=some (.cells (L++M) e false):=by
 have hp:=y _ _ hg
 subst hn
 have ec:(L.drop 0).take (L.length*1)++M=L++M:=by
  rw[List.drop_zero,Nat.mul_one,List.take_of_length_le (jR _)]
 have y2:Tidy (if op then h.put p none else h):=by
  cases op with
  | false=>exact y
  | true=>
   intro i x g
   show i<h.nx
   by_cases hi:i=p
   · subst hi;exact hp
   · rw[if_pos rfl,az.bQ (Ne.symm hi)] at g;exact y i x g
 have n2:(if op then h.put p none else h).nx=h.nx:=by cases op<;>rfl
 obtain ⟨h',n⟩:=uv (h:=if op then h.put p none else h) (.cells (L++M) e false)
 refine ⟨h',?_,mq y2 n,by rw[wh n,n2],fun i x hi g=>?_,by rw[←n2];exact rY n⟩
 · have hn:0<M.length:=List.length_pos_iff.2 hm
   have TE:(4*(L.length+M.length)+4096)*(bytes+1)≤1099511627776:=Nat.le_trans (Nat.mul_le_mul (show 4*(L.length+M.length)+4096≤17179869184 by omega) (show bytes+1≤64 by omega)) (by decide)
   have hc:¬L.length+M.length≤L.length:=by omega
   simp only[cb,h0,h1,hs,hx,hi,Wz,hb,hlen,hf,xS,hz,tj,hg,hc,if_true,if_false,Bool.false_eq_true,Nat.mul_one]
   rw[if_pos ⟨trivial,trivial,trivial⟩,if_pos ⟨TE,by omega,fun _=>⟨trivial,by omega,trivial⟩⟩]
   rw[show List.take L.length (List.drop 0 L)=L by rw[List.drop_zero,List.take_length],n]
 · refine qC y2 n ?_
   cases op with
   | false=>exact g
   | true=>rw[if_pos rfl,az.bQ (Ne.symm hi)];exact g
def eG (e:TypeId) (h0 h:az) (z:AV) (L:List AV):Prop:=(z= .aw∧L=[])∨(L≠ []∧∃p op,z= .slice p 0 L.length L.length op∧h0.nx≤p∧h.get p=some (.cells L e false))
theorem eG.has {e:TypeId} {h0 h h':az} {z:AV} {L:List AV} (o:eG e h0 h z L) (a:Has h h'):eG e h0 h' z L:=o.imp id fun ⟨hn,p,op,e,h1,g⟩=>⟨hn,p,op,e,h1,a _ _ g⟩
theorem WA {i:Nat} {b:Bool} {v:AV}:sE (.slice i 0 1 1 b)=some [v].length:=rfl
theorem MC {h:az} {i:Nat} {b:Bool} {v:AV} {e:TypeId} {ro:Bool} (hg:h.get i=some (.cells [v] e ro)):gJ h 1 [v].length (.slice i 0 1 1 b)=some [v]:=by
 simp [gJ,hg]
theorem eG.le {e:TypeId} {h0 h1 h:az} {z:AV} {L:List AV} (o:eG e h1 h z L) (hn:h0.nx≤h1.nx):eG e h0 h z L:=o.imp id fun ⟨gX,p,op,e,h1,g⟩=>⟨gX,p,op,e,by omega,g⟩
def zs (k:IntKind) (l:List Int):List AV:=l.map (AV.int k)
theorem fS (k:IntKind) (l:List Int):(zs k l).length=l.length:=by simp [zs]
theorem af7 (k:IntKind) (l:List Int) (x:Int):zs k (l++[x])=zs k l++[AV.int k x]:=by simp [zs]
theorem IZ (k:IntKind) (l:List Int) {i:Nat} (hi:i<l.length):(zs k l)[i]? =some (.int k (l.g i)):=by
 rw[zs,List.getElem?_map,List.getElem?_eq_getElem hi,List.g,List.getD_eq_getElem?_getD,List.getElem?_eq_getElem hi];rfl
structure bT (h:az) (k:IntKind) (e:TypeId) (v:AV) (l:List Int):Prop where
 at_:nZ env h e 1 v l.length (zs k l)
 agg:jr env e=some false
 known:v= .aw∨v= .fJ∨∃p o m c b,v= .slice p o m c b
theorem bT.has {k:IntKind} {h h':az} {e:TypeId} {v:AV} {l:List Int} (x:bT h k e v l) (a:Has h h'):bT h' k e v l:=⟨x.at_.has a,x.agg,x.known⟩
theorem bT.scalar {k:IntKind} {h:az} {e:TypeId} {v:AV} {l:List Int} (x:bT h k e v l):AV.scalar v=true:=by
 rcases x.known with rfl | rfl | ⟨p,o,m,c,b,rfl⟩<;>rfl
theorem bT.same {k:IntKind} {h:az} {e:TypeId} {v:AV} {l:List Int} (x:bT h k e v l) (n:Nat):AV.same (n+1) v v=true:=by
 rcases x.known with rfl | rfl | ⟨p,o,m,c,b,rfl⟩
 · rfl
 · rfl
 · exact gy n p o m c b
theorem bT.WB {k:IntKind} {h:az} {e:TypeId} {v:AV} {l:List Int} {m:Nat} (x:bT h k e v l) (e1:AV.map m=v):False:=by
 rcases x.known with rfl | rfl | ⟨p,o,n,c,b,rfl⟩<;>cases e1
theorem bT.small {k:IntKind} {h:az} {e:TypeId} {v:AV} {l:List Int} (x:bT h k e v l):l.length<2^60:=x.at_.small
theorem bT.len {k:IntKind} {h:az} {e:TypeId} {v:AV} {l:List Int} (x:bT h k e v l):EV (some (.slice e)) (some v)=some (.int .i64 (l.length:Nat)):=x.at_.lens
theorem bT.elem {k:IntKind} {h:az} {e:TypeId} {v:AV} {l:List Int} (x:bT h k e v l) {i:Nat} (hi:i<l.length):∃p q,hG env (some (.slice e)) (some v) (some (.int .i64 ((i:Nat):Int)))=some (.ptr p q)∧cX env h e (.ptr p q)=some (.int k (l.g i)):=x.at_.elem x.agg (IZ k l hi)
theorem bT.load {k:IntKind} {h:az} {e:TypeId} {v:AV} {l:List Int} (x:bT h k e v l) {i p q:Nat} (hi:i<l.length) (hx:hG env (some (.slice e)) (some v) (some (.int .i64 ((i:Nat):Int)))=some (.ptr p q)):cX env h e (.ptr p q)=some (.int k (l.g i)):=by
 obtain ⟨p',q',h1,h2⟩:=x.elem hi
 rw[hx] at h1
 simp only[Option.some.injEq,AV.ptr.injEq] at h1
 obtain ⟨rfl,rfl⟩:=h1
 exact h2
theorem bT.nil {k:IntKind} {h:az} {e:TypeId} (hs:dm env e=some 1) (ha:jr env e=some false):bT h k e .aw []:=⟨⟨hs,rfl,by decide,rfl,.inl rfl⟩,ha,.inl rfl⟩
theorem eG.zs {k:IntKind} {e:TypeId} {h0 h:az} {z:AV} {l:List Int} (o:eG e h0 h z (aM.zs k l)) (hl:l.length<2^60) (hs:dm env e=some 1) (ha:jr env e=some false):bT h k e z l:=by
 rcases o with ⟨rfl,e0⟩ | ⟨hn,p,op,rfl,_,hg⟩
 · have:l=[]:=List.length_eq_zero_iff.1 (by have:=congrArg List.length e0;rwa [fS] at this)
   subst this
   exact bT.nil hs ha
 · rw[fS]
   exact ⟨⟨hs,by rw[fS];omega,hl,rfl,.inr ⟨p,0,_,_,op,_,_,_,rfl,jR _,hg,fun j _=>by rw[Nat.zero_add]⟩⟩,ha,.inr (.inr ⟨_,_,_,_,_,rfl⟩)⟩
theorem eG.aby {k:IntKind} {e:TypeId} {h0 h:az} {z:AV} {l:List Int} {n:Nat} (o:eG e h0 h z (aM.zs k l)) (v:AV.within h0.nx (n+1) z=true) (hs:dm env e=some 1) (ha:jr env e=some false):bT h0 k e z l:=by
 rcases o with ⟨rfl,e0⟩ | ⟨hn,p,op,rfl,hp,hg⟩
 · have:l=[]:=List.length_eq_zero_iff.1 (by have:=congrArg List.length e0;rwa [fS] at this)
   subst this
   exact bT.nil hs ha
 · have:=jv (show decide (p<h0.nx)=true from v)
   omega
theorem af8 {nx:Nat} {z:AV} {cs:List AV} (h:AV.within nx 20 (.tuple (z::cs))=true):AV.within nx (18+1) z=true:=by
 simp only[AV.within,List.all_cons,Bool.and_eq_true] at h
 exact h.1
def WC {σ:Type} (call:b8) (b:Code) (s:St) (ex:oP) (h:az) (e:TypeId) (tn:σ→AV→(Nat→AV)→List AV) (own:σ→List AV) (N:Nat) (r:σ):Prop:=∃z y hk,Ev env call (.loop b) s ex ⟨tn r z y,hk,[],.no⟩∧Grow h hk∧eG e h hk z (own r)∧(own r).length≤N
section
variable {σ:Type} {call:b8} {b:Code} {s:St} {ex:oP} {h hk:az} {e:TypeId} {tn:σ→AV→(Nat→AV)→List AV} {own:σ→List AV} {N:Nat}
theorem WC.out {i:Nat} {L:List AV} {o:σ} (r:σ) (z:AV) (e1:o=r) (ev:Ev env call b s (.exit i) ⟨L,hk,[],.no⟩) (G:Grow h hk) (oz:eG e h hk z (own r)) (ln:(own r).length≤N) (hl:L=tn r z fun k=>L.getD k AV.undef):WC call b s (.exit i) h e tn own N o:=by
 subst e1
 obtain ⟨y,q⟩:=j9 (tmpl:=tn o z) (Ev.out ev) hl
 exact ⟨z,y,hk,q,G,oz,ln⟩
end
def bI {α:Type} [aK α] (h0 h:az) (z:AV) (l:List α):Prop:=
 ((z= .aw∨∃p,z= .slice p 0 0 0 false∧h0.nx≤p∧h.get p=some (.cells [] (aK.e α) false))∧l=[])∨
 (l≠ []∧∃p op,z= .slice p 0 l.length l.length op∧h0.nx≤p∧h.get p=some (.cells (l.flatMap aK.c) (aK.e α) false))
def ek (z:AV) (i:Nat):Prop:=∀o n c b,z≠ .slice i o n c b
section
variable {α:Type} [aK α] {h0 h h':az} {z:AV} {l m:List α}
theorem bI.has (o:bI h0 h z l) (a:Has h h'):bI h0 h' z l:=by
 rcases o with ⟨rfl | ⟨p,rfl,h1,h2⟩,rfl⟩ | ⟨hn,p,op,e,h1,g⟩
 · exact .inl ⟨.inl rfl,rfl⟩
 · exact .inl ⟨.inr ⟨p,rfl,h1,a _ _ h2⟩,rfl⟩
 · exact .inr ⟨hn,p,op,e,h1,a _ _ g⟩
theorem bI.anF {s xt:TypeId} {tys:Array TypeId} {bytes N:Nat} {z0 x:AV} (y:Tidy h) (y0:Tidy h0) (a:Has h0 h) (hle:h0.nx≤h.nx) (o:bI h0 h z l) (hlen:sE x=some m.length) (hf:gJ h (aK.n α) m.length x=some (m.flatMap aK.c)) (tj:(m.flatMap aK.c).all AV.scalar=true) (hl:l.length+m.length≤N)
 (t0:tys[0]? =some s) (t1:tys[1]? =some xt) (hs:env.P.underlying s=some (.slice (aK.e α))) (hx:env.P.underlying xt=some (.slice (aK.e α))) (hb:jT env (aK.e α)=some bytes) (xS:kE env (aK.e α)=some z0) (hz:z0.cells.length=aK.n α) (YL:∀k,k≤N→(4*k+4096)*(bytes+1)≤1099511627776):
 ∃z' h',cb env h tys z x=some (z',h')∧Tidy h'∧h.nx≤h'.nx∧Has h0 h'∧bI h0 h' z' (l++m)∧∀i w,ek z i→h.get i=some w→h'.get i=some w:=by
 have CL:=dJ aK.len m
 have hi:sG (.slice (aK.e α))=false:=rfl
 have CM:∀{p:Nat} {ob:aN},h.get p=some ob→Tidy (h.put p (some ob))∧Has h0 (h.put p (some ob))∧(∀i w,h.get i=some w→(h.put p (some ob)).get i=some w):=fun {p ob} g=>by
  have hg:∀i,(h.put p (some ob)).get i=h.get i:=fun i=>by
   by_cases e:i=p
   · subst e;rw[az.cY,g]
   · rw[az.bQ (Ne.symm e)]
  exact ⟨fun i w q=>y i w (by rw[←hg];exact q),fun i w q=>by rw[hg];exact a i w q,fun i w q=>by rw[hg];exact q⟩
 have abz:m≠ []→∃h',h.new (.cells (m.flatMap aK.c) (aK.e α) false)=some h'∧Tidy h'∧h.nx≤h'.nx∧Has h0 h'∧bI h0 h' (.slice h.nx 0 m.length m.length true) m∧∀i w,h.get i=some w→h'.get i=some w:=fun hm=>by
  obtain ⟨h',n⟩:=uv (h:=h) (.cells (m.flatMap aK.c) (aK.e α) false)
  have:=wh n
  exact ⟨h',n,mq y n,by omega,a.trans (wi y n),.inr ⟨hm,h.nx,true,rfl,hle,rY n⟩,fun i w g=>qC y n g⟩
 rcases o with ⟨rfl | ⟨p,rfl,hp,hg⟩,rfl⟩ | ⟨hn,p,op,rfl,hp,hg⟩
 · rw[List.nil_append]
   by_cases hm:m=[]
   · subst hm
     simp only[List.length_nil,List.flatMap_nil,Nat.zero_mul] at hlen hf tj CL
     refine ⟨.aw,h,?_,y,jR _,a,.inl ⟨.inl rfl,rfl⟩,fun _ _ _ g=>g⟩
     simp only[cb,t0,t1,hs,hx,hi,aK.size,hb,hlen,hf,xS,hz,tj,CL,if_true,if_false,and_self,List.length_nil,Bool.false_eq_true,Nat.zero_mul]
   · obtain ⟨h',n,q1,q2,q3,q4,q5⟩:=abz hm
     have Qd:¬m.length=0:=fun e=>hm (List.length_eq_zero_iff.1 e)
     refine ⟨_,h',?_,q1,q2,q3,q4,fun i w _ g=>q5 i w g⟩
     simp only[cb,t0,t1,hs,hx,hi,aK.size,hb,hlen,hf,xS,hz,tj,CL,Qd,YL m.length o!,n,if_true,if_false,and_self,Bool.false_eq_true]
 · rw[List.nil_append]
   by_cases hm:m=[]
   · subst hm
     simp only[List.length_nil,List.flatMap_nil,Nat.zero_mul] at hlen hf tj CL
     obtain ⟨q1,q2,q3⟩:=CM hg
     refine ⟨_,_,?_,q1,jR _,q2,.inl ⟨.inr ⟨p,rfl,hp,q3 _ _ hg⟩,rfl⟩,fun i w _ g=>q3 i w g⟩
     simp only[cb,t0,t1,hs,hx,hi,aK.size,hb,hlen,hf,xS,hz,tj,CL,hg,if_true,if_false,and_self,List.length_nil,Bool.false_eq_true,Nat.zero_mul,Nat.add_zero,jR,List.flatMap_nil,setFrom]
   · obtain ⟨h',n,q1,q2,q3,q4,q5⟩:=abz hm
     have Qd:¬m.length≤0:=fun e=>hm (List.length_eq_zero_iff.1 o!)
     refine ⟨_,h',?_,q1,q2,q3,q4,fun i w _ g=>q5 i w g⟩
     simp only[cb,t0,t1,hs,hx,hi,aK.size,hb,hlen,hf,xS,hz,tj,CL,hg,Qd,if_true,if_false,and_self,Bool.false_eq_true,Nat.zero_mul,Nat.add_zero,Nat.zero_add,List.length_nil,jR]
     rw[if_pos ⟨YL m.length o!,trivial,fun e=>e.elim⟩]
     simp only[List.drop_nil,List.take_nil,List.nil_append,n]
 · have hlp:0<l.length:=List.length_pos_iff.2 hn
   have hpx:=y _ _ hg
   have hcl:=dJ aK.len l
   by_cases hm:m=[]
   · subst hm
     simp only[List.length_nil,List.flatMap_nil,Nat.zero_mul] at hlen hf tj CL
     obtain ⟨q1,q2,q3⟩:=CM hg
     rw[List.append_nil]
     refine ⟨_,_,?_,q1,jR _,q2,.inr ⟨hn,p,op,rfl,hp,q3 _ _ hg⟩,fun i w _ g=>q3 i w g⟩
     simp only[cb,t0,t1,hs,hx,hi,aK.size,hb,hlen,hf,xS,hz,tj,CL,hg,hcl,if_true,if_false,and_self,List.length_nil,Bool.false_eq_true,Nat.zero_mul,Nat.add_zero,Nat.zero_add,jR,List.flatMap_nil,setFrom]
   · have hm0:0<m.length:=List.length_pos_iff.2 hm
     have y2:Tidy (if op then h.put p none else h):=by
      cases op with
      | false=>exact y
      | true=>
       intro i x g
       show i<h.nx
       by_cases hi:i=p
       · subst hi;exact hpx
       · rw[if_pos rfl,az.bQ (Ne.symm hi)] at g;exact y i x g
     have n2:(if op then h.put p none else h).nx=h.nx:=by cases op<;>rfl
     have k2:∀i w,i≠p→h.get i=some w→(if op then h.put p none else h).get i=some w:=fun i w hi g=>by
      cases op with
      | false=>exact g
      | true=>rw[if_pos rfl,az.bQ (Ne.symm hi)];exact g
     obtain ⟨h',n⟩:=uv (h:=if op then h.put p none else h) (.cells (l.flatMap aK.c++m.flatMap aK.c) (aK.e α) false)
     have hk:∀i w,i≠p→h.get i=some w→h'.get i=some w:=fun i w hi g=>qC y2 n (k2 i w hi g)
     have hc:¬l.length+m.length≤l.length:=by omega
     refine ⟨.slice h.nx 0 (l.length+m.length) (l.length+m.length) true,h',?_,mq y2 n,by rw[wh n,n2];omega,fun i w g=>?_,.inr ⟨by simp [hn],h.nx,true,by rw[List.length_append],hle,by rw[List.flatMap_append,←n2];exact rY n⟩,fun i w q g=>hk i w (fun e=>q 0 l.length l.length op (by subst e;rfl)) g⟩
     · simp only[cb,t0,t1,hs,hx,hi,aK.size,hb,hlen,hf,xS,hz,tj,CL,hg,hc,if_true,if_false,and_self,Bool.false_eq_true]
       rw[if_pos ⟨YL _ hl,by rw[hcl];omega,fun _=>⟨trivial,by rw[hcl];omega,trivial⟩⟩]
       rw[List.drop_zero,List.take_of_length_le (by rw[hcl];exact jR _),n]
     · have:=y0 _ _ g
       exact hk i w o! (a i w g)
theorem bI.app {s xt:TypeId} {tys:Array TypeId} {bytes:Nat} {z0 x:AV} (y:Tidy h) (y0:Tidy h0) (a:Has h0 h) (hle:h0.nx≤h.nx) (o:bI h0 h z l) (hlen:sE x=some m.length) (hf:gJ h (aK.n α) m.length x=some (m.flatMap aK.c)) (tj:(m.flatMap aK.c).all AV.scalar=true) (hl:l.length+m.length≤1000000000)
 (t0:tys[0]? =some s) (t1:tys[1]? =some xt) (hs:env.P.underlying s=some (.slice (aK.e α))) (hx:env.P.underlying xt=some (.slice (aK.e α))) (hb:jT env (aK.e α)=some bytes) (xS:kE env (aK.e α)=some z0) (hz:z0.cells.length=aK.n α) (h8:bytes≤255):
 ∃z' h',cb env h tys z x=some (z',h')∧Tidy h'∧h.nx≤h'.nx∧Has h0 h'∧bI h0 h' z' (l++m)∧∀i w,ek z i→h.get i=some w→h'.get i=some w:=
 bI.anF y y0 a hle o hlen hf tj hl t0 t1 hs hx hb xS hz fun k hk=>Nat.le_trans (Nat.mul_le_mul (show 4*k+4096≤4294967296 by omega) (show bytes+1≤256 by omega)) (by decide)
theorem bI.arw {s xt:TypeId} {tys:Array TypeId} {bytes:Nat} {z0 x:AV} (y:Tidy h) (y0:Tidy h0) (a:Has h0 h) (hle:h0.nx≤h.nx) (o:bI h0 h z l) (hlen:sE x=some m.length) (hf:gJ h (aK.n α) m.length x=some (m.flatMap aK.c)) (tj:(m.flatMap aK.c).all AV.scalar=true) (hl:l.length+m.length≤1000000000)
 (t0:tys[0]? =some s) (t1:tys[1]? =some xt) (hs:env.P.underlying s=some (.slice (aK.e α))) (hx:env.P.underlying xt=some (.slice (aK.e α))) (hb:jT env (aK.e α)=some bytes) (xS:kE env (aK.e α)=some z0) (hz:z0.cells.length=aK.n α) (h8:bytes≤255) (he:l=[]:=by rfl):
 ∃z' h',cb env h tys z x=some (z',h')∧Tidy h'∧h.nx≤h'.nx∧Has h0 h'∧bI h0 h' z' (l++m)∧Has h h':=by
 subst he
 by_cases hm:m=[]
 · subst hm
   obtain ⟨z',h',e1,e2,e3,e4,e5,e6⟩:=bI.app y y0 a hle o hlen hf tj hl t0 t1 hs hx hb xS hz h8
   refine ⟨z',h',e1,e2,e3,e4,e5,fun i w g=>?_⟩
   rcases o with ⟨rfl | ⟨p,rfl,hp,hg⟩,_⟩ | ⟨hn,_⟩
   · exact e6 i w (fun o n c b q=>by cases q) g
   · by_cases hi:i=p
     · subst hi
       have hi2:sG (.slice (aK.e α))=false:=rfl
       simp only[List.length_nil,List.flatMap_nil] at hlen hf tj
       simp only[cb,t0,t1,hs,hx,hi2,aK.size,hb,hlen,hf,xS,hz,tj,hg,if_true,if_false,and_self,List.length_nil,Bool.false_eq_true,Nat.zero_mul,Nat.add_zero,jR,List.flatMap_nil,setFrom,Option.some.injEq,Prod.mk.injEq] at e1
       rw[←e1.2,az.cY,←hg,g]
     · exact e6 i w (fun o n c b q=>hi (AV.slice.inj q).1.symm) g
   · exact absurd rfl hn
 · obtain ⟨z',h',e1,e2,e3,e4,e5,e6⟩:=bI.app y y0 a hle o hlen hf tj hl t0 t1 hs hx hb xS hz h8
   refine ⟨z',h',e1,e2,e3,e4,e5,fun i w g=>?_⟩
   rcases o with ⟨rfl | ⟨p,rfl,hp,hg⟩,_⟩ | ⟨hn,_⟩
   · exact e6 i w (fun o n c b q=>by cases q) g
   · by_cases hi:i=p
     · subst hi
       have hi2:sG (.slice (aK.e α))=false:=rfl
       have CL:=dJ aK.len m
       have Qd:¬m.length≤0:=fun e=>hm (List.length_eq_zero_iff.1 o!)
       have YL:(4*m.length+4096)*(bytes+1)≤1099511627776:=Nat.le_trans (Nat.mul_le_mul (show 4*m.length+4096≤4294967296 by simp at hl;omega) (show bytes+1≤256 by omega)) (by decide)
       simp only[cb,t0,t1,hs,hx,hi2,aK.size,hb,hlen,hf,xS,hz,tj,CL,hg,Qd,if_true,if_false,and_self,Bool.false_eq_true,Nat.zero_mul,Nat.add_zero,Nat.zero_add,List.length_nil,jR] at e1
       rw[if_pos ⟨YL,trivial,fun e=>e.elim⟩] at e1
       obtain ⟨h2,n⟩:=uv (h:=h) (.cells (List.take 0 (List.drop 0 [])++m.flatMap aK.c) (aK.e α) false)
       rw[n] at e1
       simp only[Option.some.injEq,Prod.mk.injEq] at e1
       rw[←e1.2];exact qC y n g
     · exact e6 i w (fun o n c b q=>hi (AV.slice.inj q).1.symm) g
   · exact absurd rfl hn
theorem ok_one {x:α} (o:aK.ok h x):∀y∈ [x],aK.ok h y:=fun y hy=>by
 rw[List.mem_singleton] at hy;subst hy;exact o
theorem Bp (a:∀y∈l,aK.ok h y) (b:∀y∈m,aK.ok h y):∀y∈l++m,aK.ok h y:=fun y hy=>(List.mem_append.1 hy).elim (a y) (b y)
theorem wk (g:Has h h') (a:∀y∈l,aK.ok h y):∀y∈l,aK.ok h' y:=fun y hy=>aK.mono g (a y hy)
class Flat (α:Type) [aK α]:Prop where
 free:∀{h h':az} {x:α},aK.ok h x→aK.ok h' x
theorem wm {D:Type} [aK D] [Flat D] {h h':az} {l:List D} (a:∀y∈l,aK.ok h y):∀y∈l,aK.ok h' y:=fun y hy=>Flat.free (a y hy)
theorem Rc {v:AV} (x:aO h v l) (sc:∀y∈l,(aK.c y).all AV.scalar=true):(l.flatMap aK.c).all AV.scalar=true:=by
 rw[List.all_eq_true]
 intro z hz
 obtain ⟨y,hy,hzy⟩:=List.mem_flatMap.1 hz
 exact List.all_eq_true.1 (sc y hy) z hzy
theorem Re {f:FuncId} {fn:Func} {c:Code} {args ts0 ts:List AV} {h h':az} {call:b8} {x:oP} {v w:AV} {a r:Tmp} {t:TypeId} {i:Nat} (hf:env.P.funcs[f]? =some fn) (hb:fn.body=some c) (ht:args++List.replicate (fn.ntmps - args.length) AV.undef=ts0) (hx:x= .normal∨x= .ret)
 (e:Ev env call c ⟨ts0,h,[],.no⟩ x ⟨ts,h',[],.no⟩) (hrs:(fn.results.toList,ts.getD a AV.undef,ts.getD r AV.undef)=([.cell a t,.tmp r],AV.ptr i 0,w)) (hl:cX env h' t (.ptr i 0)=some v):xR env call f args h (.tuple [v,w]) h':=by
 refine aY hf hb ht hx e ?_
 rw[show fn.results.toList=[.cell a t,.tmp r] from congrArg Prod.fst hrs]
 simp only[xN,show ts.getD a AV.undef= .ptr i 0 from congrArg (fun q=>q.2.1) hrs,show ts.getD r AV.undef=w from congrArg (fun q=>q.2.2) hrs,hl,Option.map_some]
 rfl
theorem aO.sE {v:AV} (x:aO h v l):sE v=some l.length:=by
 have hl:=x.at_.lens
 rcases x.known with rfl | rfl | ⟨p,o,m,c,b,rfl,_⟩
 · rw[abi] at hl
   simp only[Option.some.injEq,AV.int.injEq,true_and] at hl
   rw[show l.length=0 by omega];rfl
 · rw[aju] at hl
   simp only[Option.some.injEq,AV.int.injEq,true_and] at hl
   rw[show l.length=0 by omega];rfl
 · rw[ju] at hl
   simp only[Option.some.injEq,AV.int.injEq,true_and] at hl
   rw[show l.length=m by omega];rfl
theorem aO.first {v:AV} (x:aO h v l):gJ h (aK.n α) l.length v=some (l.flatMap aK.c):=by
 by_cases hl:l=[]
 · subst hl
   rcases x.known with rfl | rfl | ⟨p,o,m,c,b,rfl,_⟩<;>simp [gJ]
 · have hlp:0<l.length:=List.length_pos_iff.2 hl
   have hcl:=dJ aK.len l
   rcases x.at_.block with h0 | ⟨p,o,m,c,b,C,f,ro,h1,_,h2,h3⟩
   · omega
   · subst h1
     have hm:m=l.length:=by
      have:=x.at_.lens
      rw[ju] at this
      simp only[Option.some.injEq,AV.int.injEq,true_and] at this
      omega
     subst hm
     have hC:o+l.length*aK.n α≤C.length:=by
      rcases Nat.eq_zero_or_pos (l.length*aK.n α) with h0 | h0
      · have:=Nat.mul_pos hlp (aK.pos (α:=α));omega
      · have:=h3 (l.length*aK.n α - 1) o!
        rw[List.getElem?_eq_getElem (by omega:l.length*aK.n α - 1<(l.flatMap aK.c).length)] at this
        have:=(List.getElem?_eq_some_iff.1 this).1
        omega
     simp only[gJ,jR,if_true,if_false,show ¬l.length=0 by omega,h2,hC]
     congr 1
     apply List.ext_getElem?
     intro j
     by_cases hj:j<l.length*aK.n α
     · rw[List.getElem?_take_of_lt hj,List.getElem?_drop,h3 j o!]
     · rw[List.getElem?_eq_none (by rw[List.length_take];omega),List.getElem?_eq_none o!]
theorem oi {i:Nat} {b:Bool} {x:α} {e:TypeId} {ro:Bool} (hg:h.get i=some (.cells (aK.c x) e ro)):gJ h (aK.n α) [x].length (.slice i 0 1 1 b)=some ([x].flatMap aK.c):=by
 have:=aK.len x
 simp only[gJ,List.length_singleton,jR,if_true,hg,Nat.one_ne_zero,if_false,Nat.one_mul,Nat.zero_add,this,List.drop_zero,List.flatMap_cons,List.flatMap_nil,List.append_nil]
 rw[List.take_of_length_le o!]
theorem bI.rows (o:bI h0 h z l) (hl:l.length<2^60) (hk:∀x∈l,aK.ok h x):aO h z l:=by
 rcases o with ⟨rfl | ⟨p,rfl,h1,h2⟩,rfl⟩ | ⟨hn,p,op,rfl,h1,g⟩
 · exact ⟨⟨aK.size,(Nat.zero_mul _).symm,hl,rfl,.inl rfl⟩,.inl rfl,hk⟩
 · exact ⟨⟨aK.size,(Nat.zero_mul _).symm,hl,rfl,.inl rfl⟩,.inr (.inr ⟨_,_,_,_,_,rfl,fun e=>by cases e⟩),hk⟩
 · have:=List.length_pos_iff.2 hn
   exact ⟨⟨aK.size,dJ aK.len l,hl,rfl,.inr ⟨p,0,_,_,op,_,_,_,rfl,jR _,g,fun j _=>by rw[Nat.zero_add]⟩⟩,.inr (.inr ⟨_,_,_,_,_,rfl,fun _=>this⟩),hk⟩
end
structure Span where
 a8:Int
 aQ:Int
@[reducible] def Span.c (x:Span):List AV:=[.int .i64 x.a8,.int .i64 x.aQ]
def Span.ok (h:az) (x:Span):Prop:=True
def Span.eq (x y:Span):Bool:=(x.a8==y.a8)&&(x.aQ==y.aQ)
theorem Span.deep (x y:Span):pP env 16 52 (.agg (Span.c x)) (.agg (Span.c y))=some (Span.eq x y):=by
 have e:pP env 16 52 (.agg (Span.c x)) (.agg (Span.c y))=(match some (x.a8==y.a8) with | some true=>(match some (x.aQ==y.aQ) with | some true=>some true | some false=>some false | none=>none) | some false=>some false | none=>none):=by kernel_rfl
 rw[e,Span.eq]
 cases (x.a8==y.a8)<;>try rfl
 cases (x.aQ==y.aQ)<;>try rfl
theorem Span.neq (x y:Span) {a b:Bool}:iK env .neq 52 a b (some (.agg (Span.c x))) (some (.agg (Span.c y)))=some (.bool (!Span.eq x y)):=by
 show (if env.P.eqGuardType env.P.depth 52 then none else (match pP env 16 52 (.agg (Span.c x)) (.agg (Span.c y)) with | some r=>some (AV.bool (!r)) | none=>none))=_
 rw[show env.P.eqGuardType env.P.depth 52=false by kernel_rfl,Span.deep];rfl
instance:aK Span where
 default:=⟨0,0⟩
 c:=Span.c
 n:=2
 e:=52
 len _:=rfl
 ok:=Span.ok
 mono a o:=o
 size:=by kernel_rfl
 agg:=by kernel_rfl
 pos:=by decide
instance:Flat Span where
 free o:=o
structure ko where
 ah:Int
 aI:Int
@[reducible] def ko.c (x:ko):List AV:=[.int .i64 x.ah,.int .i64 x.aI]
def ko.ok (h:az) (x:ko):Prop:=True
def ko.eq (x y:ko):Bool:=(x.ah==y.ah)&&(x.aI==y.aI)
theorem ko.deep (x y:ko):pP env 16 50 (.agg (ko.c x)) (.agg (ko.c y))=some (ko.eq x y):=by
 have e:pP env 16 50 (.agg (ko.c x)) (.agg (ko.c y))=(match some (x.ah==y.ah) with | some true=>(match some (x.aI==y.aI) with | some true=>some true | some false=>some false | none=>none) | some false=>some false | none=>none):=by kernel_rfl
 rw[e,ko.eq]
 cases (x.ah==y.ah)<;>try rfl
 cases (x.aI==y.aI)<;>try rfl
theorem ko.neq (x y:ko) {a b:Bool}:iK env .neq 50 a b (some (.agg (ko.c x))) (some (.agg (ko.c y)))=some (.bool (!ko.eq x y)):=by
 show (if env.P.eqGuardType env.P.depth 50 then none else (match pP env 16 50 (.agg (ko.c x)) (.agg (ko.c y)) with | some r=>some (AV.bool (!r)) | none=>none))=_
 rw[show env.P.eqGuardType env.P.depth 50=false by kernel_rfl,ko.deep];rfl
instance:aK ko where
 default:=⟨0,0⟩
 c:=ko.c
 n:=2
 e:=50
 len _:=rfl
 ok:=ko.ok
 mono a o:=o
 size:=by kernel_rfl
 agg:=by kernel_rfl
 pos:=by decide
instance:Flat ko where
 free o:=o
structure aR where
 name:List UInt8
 aI:Int
 cJ:AV
 off:List Span
@[reducible] def aR.c (x:aR):List AV:=[.str x.name,.int .i64 x.aI,x.cJ]
def aR.ok (h:az) (x:aR):Prop:=x.name.length<2^60∧aO h x.cJ x.off
instance:aK aR where
 default:=⟨[],0,.aw,[]⟩
 c:=aR.c
 n:=3
 e:=45
 len _:=rfl
 ok:=aR.ok
 mono a o:=⟨o.1,(o.2).has a⟩
 size:=by kernel_rfl
 agg:=by kernel_rfl
 pos:=by decide
theorem aR.sc {h:az} {x:aR} (o:aR.ok h x):(aR.c x).all AV.scalar=true:=by
 simp only[aR.c,List.all_cons,List.all_nil,(show AV.scalar x.cJ=true from (o.2).scalar),Bool.true_and]<;>rfl
structure Task where
 name:List UInt8
 takes:Int
 bh:AV
 aD:List Int
 bo:AV
 aB:List ko
@[reducible] def Task.c (x:Task):List AV:=[.str x.name,.int .i64 x.takes,x.bh,x.bo]
def Task.ok (h:az) (x:Task):Prop:=x.name.length<2^60∧bT h .i64 3 x.bh x.aD∧aO h x.bo x.aB
instance:aK Task where
 default:=⟨[],0,.aw,[],.aw,[]⟩
 c:=Task.c
 n:=4
 e:=48
 len _:=rfl
 ok:=Task.ok
 mono a o:=⟨o.1,(o.2.1).has a,(o.2.2).has a⟩
 size:=by kernel_rfl
 agg:=by kernel_rfl
 pos:=by decide
structure bP where
 au:AV
 ab:List Task
 ar:AV
 af:List aR
@[reducible] def bP.c (x:bP):List AV:=[x.au,x.ar]
def bP.ok (h:az) (x:bP):Prop:=aO h x.au x.ab∧aO h x.ar x.af
instance:aK bP where
 default:=⟨.aw,[],.aw,[]⟩
 c:=bP.c
 n:=2
 e:=25
 len _:=rfl
 ok:=bP.ok
 mono a o:=⟨(o.1).has a,(o.2).has a⟩
 size:=by kernel_rfl
 agg:=by kernel_rfl
 pos:=by decide
theorem Eu {p:Prop} [Decidable p] (h:(!decide p)=true):¬p:=by intro q;rw[eV q] at h;cases h
theorem Ew {p:Prop} [Decidable p] (h:(!decide p)=false):p:=by by_cases q:p;exact q;rw[fL q] at h;cases h
def bs (l:List Bool):List AV:=l.map AV.bool
theorem T3 (l:List Bool):(bs l).length=l.length:=by simp [bs]
theorem abB (l:List Bool) {i:Nat} (hi:i<l.length):(bs l)[i]? =some (.bool (l.g i)):=by
 rw[bs,List.getElem?_map,List.getElem?_eq_getElem hi,List.g,List.getD_eq_getElem?_getD,List.getElem?_eq_getElem hi];rfl
theorem abC (k:IntKind) (l:List Int) (i:Nat) (v:Int):(zs k l).set i (.int k v)=zs k (l.set i v):=by simp [zs,List.map_set]
theorem ajH (l:List Bool) (i:Nat) (v:Bool):(bs l).set i (.bool v)=bs (l.set i v):=by simp [bs,List.map_set]
theorem Od (k:IntKind):∀n,cB [AV.int k 0] n=zs k (List.replicate n 0)
 | 0=>rfl
 | n+1=>by rw[cB,Od k n];rfl
theorem EY:∀n,cB [AV.bool false] n=bs (List.replicate n false)
 | 0=>rfl
 | n+1=>by rw[cB,EY n];rfl
section
variable {h:az} {t e:TypeId} {p i n:Nat}
theorem HL {k:IntKind} {l:List Int} {ro:Bool} (ht:jr env t=some false) (hg:h.get p=some (.cells (zs k l) e ro)) (hi:i<l.length):cX env h t (.ptr p i)=some (.int k (l.g i)):=by
 simp only[cX,hg,nG,ht];exact IZ k l hi
theorem af9 {l:List Bool} {ro:Bool} (ht:jr env t=some false) (hg:h.get p=some (.cells (bs l) e ro)) (hi:i<l.length):cX env h t (.ptr p i)=some (.bool (l.g i)):=by
 simp only[cX,hg,nG,ht];exact abB l hi
theorem MD {cs:List AV} {v:AV} (hs:dm env t=some 1) (hg:h.get p=some (.cells cs e false)) (hi:i<cs.length) (hv:v.cells=[v]) (hk:AV.scalar v=true):eS env h t (.ptr p i) v=some (h.put p (some (.cells (cs.set i v) e false))):=by
 obtain ⟨h',s⟩:=vb (E:=env) (t:=t) (o:=i) (n:=1) (v:=v) hg hs (by rw[hv];rfl) o! (by rw[hv];simp [hk])
 rw[s,qD s hg,hv];rfl
theorem yD {k:IntKind} {l:List Int} {v:Int} (hs:dm env t=some 1) (hg:h.get p=some (.cells (zs k l) e false)) (hi:i<l.length):eS env h t (.ptr p i) (.int k v)=some (h.put p (some (.cells (zs k (l.set i v)) e false))):=by
 rw[MD hs hg (by rw[fS];exact hi) rfl rfl,abC]
theorem sS {l:List Bool} {v:Bool} (hs:dm env t=some 1) (hg:h.get p=some (.cells (bs l) e false)) (hi:i<l.length):eS env h t (.ptr p i) (.bool v)=some (h.put p (some (.cells (bs (l.set i v)) e false))):=by
 rw[MD hs hg (by rw[T3];exact hi) rfl rfl,ajH]
end
structure pT (h:az) (e:TypeId) (v:AV) (l:List Bool):Prop where
 at_:nZ env h e 1 v l.length (bs l)
 agg:jr env e=some false
section
variable {h h':az} {e:TypeId} {v:AV} {l:List Bool}
theorem pT.has (x:pT h e v l) (a:Has h h'):pT h' e v l:=⟨x.at_.has a,x.agg⟩
theorem pT.scalar (x:pT h e v l):AV.scalar v=true:=by
 have q:=x.at_.lens
 cases v<;>first | rfl | (exfalso;revert q;simp [EV])
theorem CO {v:AV} (x:AV.scalar v=true):AV.cells v=[v]:=by
 cases v<;>first | rfl | cases x
theorem pT.small (x:pT h e v l):l.length<2^60:=x.at_.small
theorem pT.elem (x:pT h e v l) {i:Nat} (hi:i<l.length):∃p q,hG env (some (.slice e)) (some v) (some (.int .i64 ((i:Nat):Int)))=some (.ptr p q)∧cX env h e (.ptr p q)=some (.bool (l.g i)):=x.at_.elem x.agg (abB l hi)
theorem pT.load (x:pT h e v l) {i p q:Nat} (hi:i<l.length) (hx:hG env (some (.slice e)) (some v) (some (.int .i64 ((i:Nat):Int)))=some (.ptr p q)):cX env h e (.ptr p q)=some (.bool (l.g i)):=by
 obtain ⟨p',q',h1,h2⟩:=x.elem hi
 rw[hx] at h1
 simp only[Option.some.injEq,AV.ptr.injEq] at h1
 obtain ⟨rfl,rfl⟩:=h1
 exact h2
theorem pT.own {p n:Nat} {op ro:Bool} {f:TypeId} (hs:dm env e=some 1) (ha:jr env e=some false) (hg:h.get p=some (.cells (bs l) f ro)) (hn:l.length=n) (h60:n<2^60):pT h e (.slice p 0 n n op) l:=by
 subst hn
 exact ⟨⟨hs,by rw[T3];omega,h60,rfl,.inr ⟨p,0,_,_,op,_,_,_,rfl,jR _,hg,fun j _=>by rw[Nat.zero_add]⟩⟩,ha⟩
theorem bT.own {k:IntKind} {p n:Nat} {op ro:Bool} {f:TypeId} {l:List Int} (hs:dm env e=some 1) (ha:jr env e=some false) (hg:h.get p=some (.cells (zs k l) f ro)) (hn:l.length=n) (h60:n<2^60):bT h k e (.slice p 0 n n op) l:=by
 subst hn
 exact ⟨⟨hs,by rw[fS];omega,h60,rfl,.inr ⟨p,0,_,_,op,_,_,_,rfl,jR _,hg,fun j _=>by rw[Nat.zero_add]⟩⟩,ha,.inr (.inr ⟨_,_,_,_,_,rfl⟩)⟩
end
def bY {σ ρ:Type} (call:b8) (b:Code) (s:St) (ex:oP) (hh:az) (tn:σ→AV→(Nat→AV)→List AV) (tr:ρ→AV→(Nat→AV)→List AV) (Qn:σ→AV→az→Prop) (Qr:ρ→AV→az→Prop):σ ⊕ ρ→Prop
 | .inl v=>∃z y hk,Ev env call (.loop b) s ex ⟨tn v z y,hk,[],.no⟩∧Tidy hk∧hh.nx≤hk.nx∧Qn v z hk
 | .inr r=>∃z y hk,Ev env call (.loop b) s .ret ⟨tr r z y,hk,[],.no⟩∧Tidy hk∧hh.nx≤hk.nx∧Qr r z hk
section
variable {σ ρ:Type} {call:b8} {b:Code} {s:St} {ex:oP} {hh hk:az} {tn:σ→AV→(Nat→AV)→List AV} {tr:ρ→AV→(Nat→AV)→List AV} {Qn:σ→AV→az→Prop} {Qr:ρ→AV→az→Prop}
theorem bY.n {o:σ ⊕ ρ} {v:σ} (e:o= .inl v) (x:bY call b s ex hh tn tr Qn Qr o):∃z y hk,Ev env call (.loop b) s ex ⟨tn v z y,hk,[],.no⟩∧Tidy hk∧hh.nx≤hk.nx∧Qn v z hk:=by subst e;exact x
theorem bY.r {o:σ ⊕ ρ} {r:ρ} (e:o= .inr r) (x:bY call b s ex hh tn tr Qn Qr o):∃z y hk,Ev env call (.loop b) s .ret ⟨tr r z y,hk,[],.no⟩∧Tidy hk∧hh.nx≤hk.nx∧Qr r z hk:=by subst e;exact x
theorem bY.out {i:Nat} {L:List AV} {o:σ ⊕ ρ} (v:σ) (z:AV) (e:o= .inl v) (ev:Ev env call b s (.exit i) ⟨L,hk,[],.no⟩) (y1:Tidy hk) (n1:hh.nx≤hk.nx) (q:Qn v z hk) (hl:L=tn v z fun k=>L.getD k AV.undef):bY call b s (.exit i) hh tn tr Qn Qr o:=by
 subst e
 obtain ⟨y,x⟩:=j9 (tmpl:=tn v z) (Ev.out ev) hl
 exact ⟨z,y,hk,x,y1,n1,q⟩
theorem bY.ret {L:List AV} {o:σ ⊕ ρ} (r:ρ) (z:AV) (e:o= .inr r) (ev:Ev env call b s .ret ⟨L,hk,[],.no⟩) (y1:Tidy hk) (n1:hh.nx≤hk.nx) (q:Qr r z hk) (hl:L=tr r z fun k=>L.getD k AV.undef):bY call b s ex hh tn tr Qn Qr o:=by
 subst e
 obtain ⟨y,x⟩:=j9 (tmpl:=tr r z) (Ev.ret ev) hl
 exact ⟨z,y,hk,x,y1,n1,q⟩
theorem bY.round {L:List AV} {o o':σ ⊕ ρ} (e:o=o') (ev:Ev env call b s .normal ⟨L,hk,[],.no⟩) (n1:hh.nx≤hk.nx) (Q':(Nat→AV)→List AV) (hl:L=Q' fun k=>L.getD k AV.undef) (ih:∀x,bY call b ⟨Q' x,hk,[],.no⟩ ex hk tn tr Qn Qr o'):bY call b s ex hh tn tr Qn Qr o:=by
 subst e
 have q:=ih fun k=>L.getD k AV.undef
 rw[←hl] at q
 cases o with
 | inl v=>obtain ⟨z,y,h2,x,y1,n2,g⟩:=q;exact ⟨z,y,h2,Ev.loop ev x,y1,Nat.le_trans n1 n2,g⟩
 | inr r=>obtain ⟨z,y,h2,x,y1,n2,g⟩:=q;exact ⟨z,y,h2,Ev.loop ev x,y1,Nat.le_trans n1 n2,g⟩
end
theorem eG.I0 {k:IntKind} {e s xt:TypeId} {g h:az} {tys:Array TypeId} {bytes b:Nat} {z0 z:AV} {L:List Int} {v:Int} {f:TypeId} {ro op:Bool} (y:Tidy h) (hle:g.nx≤h.nx) (o:eG e g h z (aM.zs k L)) (hg:h.get b=some (.cells [.int k v] f ro)) (hl:L.length≤1000000000) (t0:tys[0]? =some s) (t1:tys[1]? =some xt) (hs:env.P.underlying s=some (.slice e)) (hx:env.P.underlying xt=some (.slice e)) (Wz:dm env e=some 1) (hb:jT env e=some bytes) (xS:kE env e=some z0) (hz:z0.cells.length=1) (h8:bytes≤63):
 ∃z' h',cb env h tys z (.slice b 0 1 1 op)=some (z',h')∧Tidy h'∧h.nx≤h'.nx∧(∀i w,i<g.nx→h.get i=some w→h'.get i=some w)∧eG e g h' z' (aM.zs k (L++[v])):=by
 rw[af7]
 have hl2:(aM.zs k L).length≤1000000000:=by rw[fS];exact hl
 rcases o with ⟨rfl,e0⟩ | ⟨hn,p,op',rfl,hp,hgp⟩
 · rw[e0]
   obtain ⟨h',e1,n⟩:=Ra (h:=h) (M:=[.int k v]) t0 t1 hs hx rfl Wz hb xS hz h8 WA (MC hg) rfl (by simp) (by simp)
   have:=wh n
   exact ⟨_,h',e1,mq y n,by omega,fun i w _ q=>qC y n q,.inr ⟨by simp,h.nx,true,by simp,hle,rY n⟩⟩
 · obtain ⟨h',e1,y1,z1,k1,g1⟩:=Rb (op:=op') (M:=[.int k v]) y t0 t1 hs hx rfl Wz hb xS hz h8 WA (MC hg) rfl rfl (by simp) (by simp;omega) hgp
   exact ⟨_,h',e1,y1,by omega,fun i w hi q=>k1 i w o! q,.inr ⟨by simp,h.nx,true,by rw[List.length_append],hle,g1⟩⟩
theorem Has.I1 {h hh h' g:az} (a:Has h hh) (y:Tidy h) (n:h.nx≤g.nx) (A:∀i w,i<g.nx→hh.get i=some w→h'.get i=some w):Has h h':=fun i w q=>A i w (Nat.lt_of_lt_of_le (y i w q) n) (a i w q)
theorem eG.chg {e:TypeId} {g h h':az} {z:AV} {L:List AV} {b:Nat} {C:aN} (o:eG e g h z L) (c:Ll h h' b C) (hb:b<g.nx):eG e g h' z L:=o.imp id fun ⟨hn,p,op,e,h1,q⟩=>⟨hn,p,op,e,h1,c.2.2 _ _ o! q⟩
theorem eG.abD {e:TypeId} {h0 h:az} {z:AV} {L:List AV} {n:Nat} (o:eG e h0 h z L) (v:AV.within h0.nx (n+1) z=true):eG e h0 h0 z L:=by
 rcases o with ⟨rfl,e0⟩ | ⟨hn,p,op,rfl,hp,hg⟩
 · exact .inl ⟨rfl,e0⟩
 · have:=jv (show decide (p<h0.nx)=true from v)
   omega
theorem eL {hh h':az} {b:Nat} {o x:aN} (a:Has hh h') (g:hh.get b=some o) (g':h'.get b=some x):hh.get b=some x:=by
 have q:=a _ _ g
 rw[g'] at q
 rw[g,←q]
theorem iE {d:Nat} {f:FuncId} {args:List AV} {hh h':az} {v:AV} {P:az→Prop} (hm:M0 f args hh=none) (hd:xR env (cA d) f args hh v h') (y:Tidy hh) (y':Tidy h') (n:hh.nx≤h'.nx) (p':P h') (p:Has hh h'→P hh):∃hk,cA (d+1) (.fn f) args hh= .ret v hk∧Tidy hk∧hh.nx≤hk.nx∧P hk:=by
 obtain ⟨hk,e,rfl | ⟨rfl,a⟩⟩:=TY hm hd
 · exact ⟨_,e,y',n,p'⟩
 · exact ⟨_,e,y,jR _,p a⟩
theorem zQ {nx k b n m c:Nat} {op:Bool} (v:AV.within nx (k+1) (.slice b n m c op)=true) (hb:nx≤b):False:=by
 have:=jv (show decide (b<nx)=true from v)
 omega
theorem ME (v:AV) (hv:AV.same 20 v v=true) (n:Nat) (e:TypeId) (ro:Bool):aN.same (.cells (cB [v] n) e ro) (.cells (cB [v] n) e ro)=true:=by
 have:∀n,dR (AV.same 20) (cB [v] n) (cB [v] n)=true:=fun n=>by
  induction n with
  | zero=>rfl
  | succ n ih=>
   show dR (AV.same 20) (v::cB [v] n) (v::cB [v] n)=true
   rw[dR,ih,hv];rfl
 simp [aN.same,this]
theorem Ev.to {call:b8} {b:Code} {s:St} {e:oP} {L L':List AV} {hk:az} (ev:Ev env call b s e ⟨L,hk,[],.no⟩) (hl:L=L'):Ev env call b s e ⟨L',hk,[],.no⟩:=hl▸ev
theorem abE {v:AV} (h:AV.scalar v=true):v.cells=[v]:=by cases v<;>first | rfl | cases h
theorem T4 {h:az} {t e:TypeId} {i o:Nat} {cs N:List AV} {v:AV} (y:Tidy h) (gg:h.get i=some (.cells cs e false)) (hs:dm env t=some 1) (hk:AV.scalar v=true) (hl:Nat.ble (o+1) cs.length=true) (hN:setFrom cs o [v]=N):∃h',eS env h t (.ptr i o) v=some h'∧Tidy h'∧h'.nx=h.nx∧h'.get i=some (.cells N e false)∧Kept i h h':=by
 have c:=abE hk
 exact anD y gg hs (by rw[c];rfl) hl (by rw[c];exact hN) (by rw[c];simp [hk])
theorem anH (f:FuncId) (a b:List AV):AV.scalar (.func f a b)=true:=rfl
theorem Gs {f:FuncId} {fn:Func} {c:Code} {args ts0 ts:List AV} {h h':az} {call:b8} {x:oP} {v:AV} {a:Tmp} {t:TypeId} {i:Nat} (hf:env.P.funcs[f]? =some fn) (hb:fn.body=some c) (ht:args++List.replicate (fn.ntmps - args.length) AV.undef=ts0) (hx:x= .normal∨x= .ret)
 (e:Ev env call c ⟨ts0,h,[],.no⟩ x ⟨ts,h',[],.no⟩) (hrs:(fn.results.toList,ts.getD a AV.undef)=([.cell a t],AV.ptr i 0)) (hl:cX env h' t (.ptr i 0)=some v):xR env call f args h v h':=by
 refine aY hf hb ht hx e ?_
 rw[show fn.results.toList=[.cell a t] from congrArg Prod.fst hrs]
 simp only[xN,show ts.getD a AV.undef= .ptr i 0 from congrArg (fun q=>q.2) hrs,hl,Option.map_some]
 rfl
section
variable {α:Type} [aK α]
theorem bI.le {h0 h1 h:az} {z:AV} {l:List α} (o:bI h1 h z l) (hn:h0.nx≤h1.nx):bI h0 h z l:=by
 rcases o with ⟨rfl | ⟨p,rfl,h1,h2⟩,rfl⟩ | ⟨gX,p,op,e,h1,g⟩
 · exact .inl ⟨.inl rfl,rfl⟩
 · exact .inl ⟨.inr ⟨p,rfl,by omega,h2⟩,rfl⟩
 · exact .inr ⟨gX,p,op,e,by omega,g⟩
def o6 {σ:Type} (call:b8) (b:Code) (s:St) (ex:oP) (h:az) (tn:σ→AV→(Nat→AV)→List AV) (own:σ→List α) (N:Nat) (r:σ):Prop:=∃z y hk,Ev env call (.loop b) s ex ⟨tn r z y,hk,[],.no⟩∧Grow h hk∧bI h hk z (own r)∧(∀y∈own r,aK.ok hk y)∧(own r).length≤N
variable {σ:Type} {call:b8} {b:Code} {s:St} {ex:oP} {h hk:az} {tn:σ→AV→(Nat→AV)→List AV} {own:σ→List α} {N:Nat}
theorem o6.out {i:Nat} {L:List AV} {o:σ} (r:σ) (z:AV) (e1:o=r) (ev:Ev env call b s (.exit i) ⟨L,hk,[],.no⟩) (G:Grow h hk) (oz:bI h hk z (own r)) (ok:∀y∈own r,aK.ok hk y) (ln:(own r).length≤N) (hl:L=tn r z fun k=>L.getD k AV.undef):o6 call b s (.exit i) h tn own N o:=by
 subst e1
 obtain ⟨y,q⟩:=j9 (tmpl:=tn o z) (Ev.out ev) hl
 exact ⟨z,y,hk,q,G,oz,ok,ln⟩
theorem o6.round {L:List AV} {o o':σ} (e1:o=o') (ev:Ev env call b s .normal ⟨L,hk,[],.no⟩) (Q':(Nat→AV)→List AV) (hl:L=Q' fun k=>L.getD k AV.undef) (ih:∀x,o6 call b ⟨Q' x,hk,[],.no⟩ ex h tn own N o'):o6 call b s ex h tn own N o:=by
 subst e1
 have q:=ih fun k=>L.getD k AV.undef
 rw[←hl] at q
 obtain ⟨z,y,h2,x,g,oz,ok,ln⟩:=q;exact ⟨z,y,h2,Ev.loop ev x,g,oz,ok,ln⟩
end
section
variable {α:Type} [aK α]
theorem abF {l:List α} {i:Nat} (h:i<l.length) (x:α):(l.set i x).g i=x:=by
 rw[List.g,List.getD_eq_getElem?_getD,List.getElem?_set_self h];rfl
theorem I2 {l:List α} {i j:Nat} (h:i≠j) (x:α):(l.set i x).g j=l.g j:=by
 rw[List.g,List.g,List.getD_eq_getElem?_getD,List.getD_eq_getElem?_getD,List.getElem?_set_ne h]
theorem Oe {l:List α} {i:Nat} (h:i<l.length) (x:α):setFrom (l.flatMap aK.c) (i*aK.n α) (aK.c x)=(l.set i x).flatMap aK.c:=by
 have hn:0<aK.n α:=aK.pos
 have hl:=dJ aK.len l
 have hl2:=dJ aK.len (l.set i x)
 rw[List.length_set] at hl2
 have hx:=aK.len x
 apply List.ext_getElem?
 intro k
 rw[j5,hx,hl]
 have hk:k=k/aK.n α*aK.n α+k%aK.n α:=by rw[Nat.mul_comm];exact (Nat.div_add_mod k _).symm
 have hr:=Nat.mod_lt k hn
 generalize k/aK.n α=q at hk
 generalize k%aK.n α=r at hk hr
 by_cases hq:q<l.length
 · have h1:=oG aK.len l q r hq hr
   have h2:=oG aK.len (l.set i x) q r (by rw[List.length_set];exact hq) hr
   subst hk
   by_cases e:q=i
   · subst e
     have:q*aK.n α+aK.n α≤l.length*aK.n α:=by rw[←Nat.succ_mul];exact Nat.mul_le_mul_right _ hq
     rw[if_pos ⟨by omega,by omega,by omega⟩,h2,abF hq,Nat.add_sub_cancel_left]
   · rw[if_neg,h1,h2,I2 (Ne.symm e)]
     intro ⟨a,b,c⟩
     rcases Nat.lt_or_gt_of_ne e with e | e
     · have:q*aK.n α+aK.n α≤i*aK.n α:=by rw[←Nat.succ_mul];exact Nat.mul_le_mul_right _ e
       omega
     · have:i*aK.n α+aK.n α≤q*aK.n α:=by rw[←Nat.succ_mul];exact Nat.mul_le_mul_right _ e
       omega
 · have:l.length*aK.n α≤q*aK.n α:=Nat.mul_le_mul_right _ o!
   rw[if_neg o!,List.getElem?_eq_none o!,List.getElem?_eq_none o!]
theorem abG {h:az} {l:List α} {i:Nat} {x:α} (a:∀y∈l,aK.ok h y) (b:aK.ok h x):∀y∈l.set i x,aK.ok h y:=fun y hy=>(List.mem_or_eq_of_mem_set hy).elim (a y) fun e=>e▸b
end
def kT:Code→List Code
 | .seq a b=>kT a++kT b
 | .cond _ a b=>kT a++kT b
 | .block _ b=>kT b
 | .loop b=>kT b
 | .scope b=>kT b
 | .rangeFunc _ _ a b=>kT a++kT b
 | .region i o d=> [.region i o d]
 | _=> []
end
end Go.Proofs.aM
