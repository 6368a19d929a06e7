import Derived.Test.YtijehnelcbdlgaaGreatA7
import Derived.Test.YtijehnelcbdlgaaGreatEnv
namespace Go.Proofs.aE
open Go.Proofs Ab
noncomputable section
set_option maxRecDepth 100000
set_option maxHeartbeats 4000000
set_option linter.unusedVariables false
set_option linter.unusedSimpArgs false
theorem adX {b:Bool} (h:b=true):(!b)=false:=by rw[h];rfl
theorem adY {b:Bool} (h:b=false):(!b)=true:=by rw[h];rfl
theorem f_ (t:TypeId) (c d:Bool) (k:IntKind) (a b:Int):fZ env .eql t c d (some (.int k a)) (some (.int k b))=some (.bool (decide (a=b))):=Vw t c d k a b
theorem eC (t:TypeId) (c d:Bool) (k:IntKind) (a b:Int):fZ env .neq t c d (some (.int k a)) (some (.int k b))=some (.bool (!decide (a=b))):=Vx t c d k a b
theorem aQ (t:TypeId) (c d:Bool) (k:IntKind) (a b:Int):fZ env .lss t c d (some (.int k a)) (some (.int k b))=some (.bool (decide (a<b))):=Vy t c d k a b
theorem kI (t:TypeId) (c d:Bool) (k:IntKind) (a b:Int):fZ env .leq t c d (some (.int k a)) (some (.int k b))=some (.bool (decide (a≤b))):=Vz t c d k a b
theorem bK (t:TypeId) (c d:Bool) (k:IntKind) (a b:Int):fZ env .gtr t c d (some (.int k a)) (some (.int k b))=some (.bool (decide (b<a))):=VA t c d k a b
theorem jf (t:TypeId) (c d:Bool) (k:IntKind) (a b:Int):fZ env .geq t c d (some (.int k a)) (some (.int k b))=some (.bool (decide (b≤a))):=VB t c d k a b
theorem Iy (t:TypeId) (c d:Bool) (a b:List UInt8):fZ env .eql t c d (some (.str a)) (some (.str b))=some (.bool (decide (a=b))):=Rs t c d a b
theorem Ft (t:TypeId) (c d:Bool) {k:IntKind} {a b z:Int} (h:k.wrap (a+b)=z):fZ env .add t c d (some (.int k a)) (some (.int k b))=some (.int k z):=BW h
theorem Fu (t:TypeId) (c d:Bool) {k:IntKind} {a b z:Int} (h:k.wrap (a - b)=z):fZ env .sub t c d (some (.int k a)) (some (.int k b))=some (.int k z):=BX h
theorem QA (t:TypeId) (c d:Bool) {k:IntKind} {a b z:Int} (h:k.wrap (a*b)=z):fZ env .mul t c d (some (.int k a)) (some (.int k b))=some (.int k z):=KF h
theorem ao (t:TypeId) (o:Nat) (v:AV) {h:ak} {i:Nat} {cs:List AV} {e:TypeId} {ro:Bool} (hg:h.get i=some (.cells cs e ro)) (hv:jy env t cs o=some v):bm env h t (.ptr i o)=some v:=m8 hg hv
theorem Ee {a:Nat} (h:a<9223372036854775808):IntKind.i64.wrap (a:Int)=(a:Int):=wrap_i64 (by omega) (by omega)
theorem ew (t:TypeId) (c d:Bool) (a b:Nat) (h:a+b<9223372036854775808):fZ env .add t c d (some (.int .i64 (a:Int))) (some (.int .i64 (b:Int)))=some (.int .i64 ((a+b:Nat):Int)):=BW (by rw[show (a:Int)+b=((a+b:Nat):Int) by omega];exact Ee h)
theorem RB (t:TypeId) (c d:Bool) (a b:Nat) (h:b≤a) (ha:a<9223372036854775808):fZ env .sub t c d (some (.int .i64 (a:Int))) (some (.int .i64 (b:Int)))=some (.int .i64 ((a - b:Nat):Int)):=BX (by rw[show (a:Int) - b=((a - b:Nat):Int) by omega];exact Ee (by omega))
theorem pk (d:Nat) (c:Code) (ts:List AV) (h:ak) (e:kR) (h':ak) {al:List nY} {ps:List Prop} (k:Pk al [] ps) (hr:run env (cA d) 300 c ⟨ts,h,[],.no⟩ al []= .at e ⟨MP (run env (cA d) 300 c ⟨ts,h,[],.no⟩ al []),h',[],.no⟩ [] ps):Ev env (cA d) c ⟨ts,h,[],.no⟩ e ⟨MP (run env (cA d) 300 c ⟨ts,h,[],.no⟩ al []),h',[],.no⟩:=abA k hr
theorem ik {h:ak} (y:Tidy h) (o:aK):∃h',h.new o=some h'∧Tidy h'∧h'.nx=h.nx+1∧h'.get h.nx=some o∧Has h h':=by
 obtain ⟨h',n⟩:=vJ (h:=h) o
 exact ⟨h',n,lT y n,vI n,rk n,uj y n⟩
theorem Y_ {h:ak} {t e:TypeId} {i o n:Nat} {cs N:List AV} {v:AV} (y:Tidy h) (gg:h.get i=some (.cells cs e false)) (hs:bQ env t=some n) (hv:v.cells.length=n) (hl:Nat.ble (o+n) cs.length=true) (hN:setFrom cs o v.cells=N) (hk:v.cells.all AV.scalar=true):∃h',eX env h t (.ptr i o) v=some h'∧Tidy h'∧h'.nx=h.nx∧h'.get i=some (.cells N e false)∧Kept i h h':=by
 obtain ⟨h',s⟩:=BY (E:=env) gg hs hv (Nat.le_of_ble_eq_true hl) hk
 exact ⟨h',s,B1 y s gg,B0 s gg,by rw[←hN];exact Ed y s gg,Kept.store y s gg⟩
theorem nJ {h:ak} {t e:TypeId} {i n:Nat} {cs L:List AV} (y:Tidy h) (gg:h.get i=some (.cells cs e false)) (hs:bQ env t=some n) (hv:L.length=n) (hc:cs.length=n) (hk:L.all AV.scalar=true):∃h',eX env h t (.ptr i 0) (.agg L)=some h'∧Tidy h'∧h'.nx=h.nx∧h'.get i=some (.cells L e false)∧Kept i h h':=
 Y_ y gg hs hv (by rw[hc,Nat.zero_add,Nat.ble_eq];exact Nat.le_refl n) (by
  show setFrom cs 0 L=L
  apply List.ext_getElem?
  intro k
  rw[jO]
  split
  · rfl
  · rw[List.getElem?_eq_none (by omega),List.getElem?_eq_none (by omega)]) hk
structure Rk (f:List nY→List nY) (ps:List Prop):Prop where
 ok:mf ps
section
variable {f:List nY→List nY} {ps:List Prop}
end
section
variable {f:List nY→List nY} {ps:List Prop}
theorem Rh {P:Prop} (h:P) (k:Rk f ps):Rk f (P::ps):=⟨⟨h,k.ok⟩⟩
end
theorem k! {p:Prop} (h:p:=by kernel_rfl):p:=h
theorem o! {p:Prop} (h:p:=by omega):p:=h
theorem Y' {b:Bool} (h:(!b)=false):b=true:=by cases b;cases h;rfl
theorem nbt {b:Bool} (h:(!b)=true):b=false:=by cases b;rfl;cases h
theorem d! {p:Prop} (h:p:=by first | assumption | exact adX (by assumption) | exact adY (by assumption) | exact Y' (by assumption) | exact nbt (by assumption) | exact dT (by omega) | exact dF (by omega) | exact nT (by omega) | exact nF (by omega)):p:=h
@[reducible] def _root_.Zi (x:Int):AV:= .int .i64 x
@[reducible] def _root_.Zn (n:Nat):AV:= .int .i64 (n:Int)
@[reducible] def _root_.Pt (b:Nat):AV:= .ptr b 0
theorem _root_.nK {c:Bool} (x y:Bool) (h:c=true):zP (some (.bool c)) (some (.bool x)) (some (.bool y))=some (.bool x):=Ru h
theorem _root_.pcf {c:Bool} (x y:Bool) (h:c=false):zP (some (.bool c)) (some (.bool x)) (some (.bool y))=some (.bool y):=bf h
theorem _root_.qI {c:Bool} (x:Bool) (h:c=true):zP (some (.bool c)) (some (.bool x)) (some AV.undef)=some (.bool x):=Ru h
theorem _root_.vK {c:Bool} (x:Bool) (h:c=false):zP (some (.bool c)) (some AV.undef) (some (.bool x))=some (.bool x):=bf h
section
variable {al:List nY} {p0 ps:List Prop}
theorem BC {u v:Bool} (h:u=v) (k:Pk al ((u=v)::p0) ps):Pk (.b v:: .c::al) p0 ps:=BB h (CC k)
theorem BV {u v:Bool} {l:Option AV} {x:AV} (h:u=v) (e:l=some x) (k:Pk al ((l=some x)::(u=v)::p0) ps):Pk (.b v:: .v x::al) p0 ps:=BB h (VV e k)
theorem BM {u v:Bool} {l:Option AV} {x:AV} (h:u=v) (e:l=some x) (k:Pk al ((l=some x)::(u=v)::p0) ps):Pk (.b v:: .m x::al) p0 ps:=BB h (MM e k)
end
theorem _root_.Go.Ab.Has.cI {h0 h h':ak} {b:Nat} (a:Has h0 h) (k:Kept b h h') (y:Tidy h0) (hb:h0.nx≤b):Has h0 h':=fun i x g=>by
 have:=y i x g
 exact k i x o! (a i x g)
class aB (α:Type) extends Inhabited α where
 c:α→List AV
 n:Nat
 e:TypeId
 len:∀x,(c x).length=n
 ok:ak→α→Prop
 mono:∀{h h':ak} {x:α},Has h h'→ok h x→ok h' x
 size:bQ env e=some n
 agg:eN env e=some true
 pos:0<n
@[reducible] def imax (x y:Int):Int:=if y>x then y else x
@[reducible] def cd (x y:Int):Int:=if y<x then y else x
def _root_.List.g {α:Type} [Inhabited α] (l:List α) (i:Nat):α:=l.getD i default
structure aH {α:Type} [aB α] (h:ak) (v:AV) (l:List α):Prop where
 at_:mQ env h (aB.e α) (aB.n α) v l.length (l.flatMap aB.c)
 known:v= .aD∨v= .ei∨∃p o m c b,v= .slice p o m c b∧(b=true→0<c)
 oks:∀x∈l,aB.ok h x
theorem ey {α β:Type} {size:Nat} {f:α→List β} (hf:∀x,(f x).length=size) (l:List α):(l.flatMap f).length=l.length*size:=by
 induction l with
 | nil=>simp
 | cons x l ih=>rw[List.flatMap_cons,List.length_append,ih,hf,List.length_cons,Nat.succ_mul];omega
section
variable {α:Type} [aB α] {h:ak} {v:AV} {l:List α}
theorem aH.has {h':ak} (x:aH h v l) (a:Has h h'):aH h' v l:=⟨x.at_.has a,x.known,fun y hy=>aB.mono a (x.oks y hy)⟩
theorem MQ {i:Nat} (hi:i<l.length):l.g i∈l:=by
 rw[List.g,List.getD_eq_getElem?_getD,List.getElem?_eq_getElem hi];exact List.getElem_mem hi
theorem aH.ok (x:aH h v l) {i:Nat} (hi:i<l.length):aB.ok h (l.g i):=x.oks _ (MQ hi)
theorem aH.small (x:aH h v l):l.length<2^60:=x.at_.small
theorem aH.len (x:aH h v l):bJ (some (.slice (aB.e α))) (some v)=some (.int .i64 (l.length:Nat)):=x.at_.lens
theorem aH.scalar (x:aH h v l):AV.scalar v=true:=by
 rcases x.known with rfl | rfl | ⟨p,o,m,c,b,rfl,_⟩<;>rfl
theorem m_ {β:Type} {size:Nat} {f:α→List β} (hf:∀x,(f x).length=size):∀(l:List α) (i j:Nat) (_:i<l.length),j<size→(l.flatMap f)[i*size+j]? =(f (l.g i))[j]?
 | [],i,j,hi,_=>by cases hi
 | x::l,0,j,_,hj=>by
   rw[List.flatMap_cons,Nat.zero_mul,Nat.zero_add,List.getElem?_append_left (by rw[hf];exact hj)];rfl
 | x::l,i+1,j,hi,hj=>by
   have e:(i+1)*size+j -(f x).length=i*size+j:=by rw[hf,Nat.succ_mul];omega
   rw[List.flatMap_cons,List.getElem?_append_right (by rw[hf,Nat.succ_mul];omega),e,m_ hf l i j (by simpa using hi) hj];rfl
theorem aH.elem (x:aH h v l) {i:Nat} (hi:i<l.length):∃p q,b_ env (some (.slice (aB.e α))) (some v) (some (.int .i64 ((i:Nat):Int)))=some (.ptr p q):=by
 rcases x.at_.block with h0 | ⟨p,o,m,c,b,C,f,ro,h1,_,h2,h3⟩
 · omega
 · subst h1
   have hm:m=l.length:=by
    have:=x.at_.lens
    rw[gG] at this
    simp only[Option.some.injEq,AV.int.injEq,true_and] at this
    omega
   exact ⟨p,o+i*aB.n α,oR x.at_.size o!⟩
theorem aH.block (x:aH h v l) {i p q:Nat} (hi:i<l.length) (hx:b_ env (some (.slice (aB.e α))) (some v) (some (.int .i64 ((i:Nat):Int)))=some (.ptr p q)):
 ∃C f ro,h.get p=some (.cells C f ro)∧∀j,j<aB.n α→C[q+j]? =(aB.c (l.g i))[j]? :=by
 rcases x.at_.block with h0 | ⟨p',o,m,c,b,C,f,ro,h1,_,h2,h3⟩
 · omega
 · subst h1
   have hm:m=l.length:=by
    have:=x.at_.lens
    rw[gG] at this
    simp only[Option.some.injEq,AV.int.injEq,true_and] at this
    omega
   rw[oR x.at_.size o!] at hx
   simp only[Option.some.injEq,AV.ptr.injEq] at hx
   obtain ⟨rfl,rfl⟩:=hx
   refine ⟨C,f,ro,h2,fun j hj=>?_⟩
   have e:=m_ aB.len l i j hi hj
   have lM:i*aB.n α+j<(l.flatMap aB.c).length:=by
    rw[ey aB.len]
    calc i*aB.n α+j<i*aB.n α+aB.n α:=by omega
     _=(i+1)*aB.n α:=by rw[Nat.succ_mul]
     _≤l.length*aB.n α:=Nat.mul_le_mul_right _ hi
   rw[←e,Nat.add_assoc,h3 _ lM]
theorem aH.load (x:aH h v l) {i p q:Nat} (hi:i<l.length) (hx:b_ env (some (.slice (aB.e α))) (some v) (some (.int .i64 ((i:Nat):Int)))=some (.ptr p q)):bm env h (aB.e α) (.ptr p q)=some (.agg (aB.c (l.g i))):=by
 obtain ⟨C,f,ro,h1,h2⟩:=x.block hi hx
 have hl:=aB.len (l.g i)
 have hn:q+aB.n α≤C.length:=by
  have h0:=aB.pos (α:=α)
  have:=h2 (aB.n α - 1) o!
  rw[List.getElem?_eq_getElem (by omega:aB.n α - 1<(aB.c (l.g i)).length)] at this
  have:=(List.getElem?_eq_some_iff.1 this).1
  omega
 simp only[bm,h1,jy,aB.agg,aB.size,hn,if_true]
 congr 2
 apply List.ext_getElem?
 intro j
 by_cases hj:j<aB.n α
 · rw[List.getElem?_take_of_lt hj,List.getElem?_drop,h2 j hj]
 · rw[List.getElem?_eq_none (by rw[List.length_take];omega),List.getElem?_eq_none o!]
theorem aH.part (x:aH h v l) {i p q j:Nat} {t:TypeId} {w:AV} (hi:i<l.length) (hx:b_ env (some (.slice (aB.e α))) (some v) (some (.int .i64 ((i:Nat):Int)))=some (.ptr p q)) (ht:eN env t=some false) (hw:(aB.c (l.g i))[j]? =some w):bm env h t (.ptr p (q+j))=some w:=by
 obtain ⟨C,f,ro,h1,h2⟩:=x.block hi hx
 have hj:=(List.getElem?_eq_some_iff.1 hw).1
 rw[aB.len] at hj
 simp only[bm,h1,jy,ht]
 rw[h2 j hj,hw]
theorem aH.nil {α:Type} [aB α] {h:ak}:aH h .aD ([]:List α):=⟨⟨aB.size,by simp,by show 0<2^60;decide,rfl,.inl rfl⟩,.inl rfl,fun x hx=>by cases hx⟩
theorem aH.pre (x:aH h v l) {t:TypeId} (ht:env.P.underlying t=some (.slice (aB.e α))) {i:Nat} (hi:i<l.length):∃r,fm env t v none (some (.int .i64 ((i:Nat):Int))) none=some r∧aH h r (l.take i):=by
 rcases x.at_.block with h0 | ⟨p,o,m,c,b,C,f,ro,h1,hc,h2,h3⟩
 · omega
 · subst h1
   have hm:m=l.length:=by
    have:=x.at_.lens
    rw[gG] at this
    simp only[Option.some.injEq,AV.int.injEq,true_and] at this
    omega
   subst hm
   have hb:b=true→0<c:=fun e=>by omega
   refine ⟨.slice p o i c b,?_,⟨⟨x.at_.size,ey aB.len _,by have:=x.small;simp;omega,?_,.inr ⟨p,o,i,c,b,C,f,ro,rfl,by omega,h2,fun j hj=>?_⟩⟩,.inr (.inr ⟨_,_,_,_,_,rfl,hb⟩),fun y hy=>x.oks y (List.mem_of_mem_take hy)⟩⟩
   · simp only[fm,ht,x.at_.size,hc,if_true,qu (len:=l.length) (cap:=c) none (some (.int .i64 ((i:Nat):Int))) (.inr ⟨rfl,rfl⟩) (.inl rfl) (Nat.zero_le i) o!]
     rw[if_neg o!]
     simp
   · rw[List.length_take,Nat.min_eq_left o!];exact gG _ _ _ _ _ _
   · rw[ey aB.len,List.length_take,Nat.min_eq_left o!] at hj
     have lM:j<(l.flatMap aB.c).length:=by
      rw[ey aB.len];exact Nat.lt_of_lt_of_le hj (Nat.mul_le_mul_right _ o!)
     rw[h3 j lM]
     have e:l=l.take i++l.drop i:=(List.take_append_drop i l).symm
     conv=>lhs;rw[e,List.flatMap_append]
     rw[List.getElem?_append_left]
     rw[ey aB.len,List.length_take,Nat.min_eq_left o!];exact hj
def aA {ρ:Type} (call:a_) (b:Code) (s:St) (ex:kR) (hh:ak) (tn:(Nat→AV)→List AV) (tr:ρ→(Nat→AV)→List AV):Option ρ→Prop
 | none=>∃y hk,Ev env call (.loop b) s ex ⟨tn y,hk,[],.no⟩∧bC hh hk
 | some r=>∃y hk,Ev env call (.loop b) s .ret ⟨tr r y,hk,[],.no⟩∧bC hh hk
section
variable {ρ:Type} {call:a_} {b:Code} {s:St} {ex:kR} {hh hk:ak} {tn:(Nat→AV)→List AV} {tr:ρ→(Nat→AV)→List AV}
theorem aA.n {o:Option ρ} (e:o=none) (x:aA call b s ex hh tn tr o):∃y hk,Ev env call (.loop b) s ex ⟨tn y,hk,[],.no⟩∧bC hh hk:=by subst e;exact x
theorem aA.r {o:Option ρ} {r:ρ} (e:o=some r) (x:aA call b s ex hh tn tr o):∃y hk,Ev env call (.loop b) s .ret ⟨tr r y,hk,[],.no⟩∧bC hh hk:=by subst e;exact x
theorem aA.out {i:Nat} {L:List AV} {o:Option ρ} (e:o=none) (ev:Ev env call b s (.exit i) ⟨L,hk,[],.no⟩) (G:bC hh hk) (hl:L=tn fun k=>L.getD k AV.undef):aA call b s (.exit i) hh tn tr o:=by
 subst e
 obtain ⟨y,q⟩:=jJ (Ev.out ev) hl
 exact ⟨y,hk,q,G⟩
theorem aA.ret {L:List AV} {o:Option ρ} (r:ρ) (e:o=some r) (ev:Ev env call b s .ret ⟨L,hk,[],.no⟩) (G:bC hh hk) (hl:L=tr r fun k=>L.getD k AV.undef):aA call b s ex hh tn tr o:=by
 subst e
 obtain ⟨y,q⟩:=jJ (tmpl:=tr r) (Ev.ret ev) hl
 exact ⟨y,hk,q,G⟩
theorem aA.round {L:List AV} {o o':Option ρ} (e:o=o') (ev:Ev env call b s .normal ⟨L,hk,[],.no⟩) (G:bC hh hk) (Iz:(Nat→AV)→List AV) (hl:L=Iz fun k=>L.getD k AV.undef) (ih:∀x,aA call b ⟨Iz x,hk,[],.no⟩ ex hk tn tr o'):aA call b s ex hh tn tr o:=by
 subst e
 have q:=ih fun k=>L.getD k AV.undef
 rw[←hl] at q
 cases o with
 | none=>obtain ⟨y,h2,x,g⟩:=q;exact ⟨y,h2,Ev.loop ev x,G.trans g⟩
 | some r=>obtain ⟨y,h2,x,g⟩:=q;exact ⟨y,h2,Ev.loop ev x,G.trans g⟩
end
def lU {ρ:Type} (call:a_) (b:Code) (s:St) (ex:kR) (h hh:ak) (tn:(Nat→AV)→List AV) (tr:ρ→(Nat→AV)→List AV) (pb:Nat) (cl:ρ→aK):Option ρ→Prop
 | none=>∃y hk,Ev env call (.loop b) s ex ⟨tn y,hk,[],.no⟩∧bC hh hk
 | some r=>∃y hk,Ev env call (.loop b) s .ret ⟨tr r y,hk,[],.no⟩∧Tidy hk∧Has h hk∧hh.nx≤hk.nx∧hk.get pb=some (cl r)
section
variable {ρ:Type} {call:a_} {b:Code} {s:St} {ex:kR} {h hh hk:ak} {tn:(Nat→AV)→List AV} {tr:ρ→(Nat→AV)→List AV} {pb:Nat} {cl:ρ→aK}
theorem lU.n {o:Option ρ} (e:o=none) (x:lU call b s ex h hh tn tr pb cl o):∃y hk,Ev env call (.loop b) s ex ⟨tn y,hk,[],.no⟩∧bC hh hk:=by subst e;exact x
theorem lU.r {o:Option ρ} {r:ρ} (e:o=some r) (x:lU call b s ex h hh tn tr pb cl o):∃y hk,Ev env call (.loop b) s .ret ⟨tr r y,hk,[],.no⟩∧Tidy hk∧Has h hk∧hh.nx≤hk.nx∧hk.get pb=some (cl r):=by subst e;exact x
theorem lU.out {i:Nat} {L:List AV} {o:Option ρ} (e:o=none) (ev:Ev env call b s (.exit i) ⟨L,hk,[],.no⟩) (G:bC hh hk) (hl:L=tn fun k=>L.getD k AV.undef):lU call b s (.exit i) h hh tn tr pb cl o:=by
 subst e
 obtain ⟨y,q⟩:=jJ (Ev.out ev) hl
 exact ⟨y,hk,q,G⟩
theorem lU.round {L:List AV} {o o':Option ρ} (e:o=o') (ev:Ev env call b s .normal ⟨L,hk,[],.no⟩) (G:bC hh hk) (Iz:(Nat→AV)→List AV) (hl:L=Iz fun k=>L.getD k AV.undef) (ih:∀x,lU call b ⟨Iz x,hk,[],.no⟩ ex h hk tn tr pb cl o'):lU call b s ex h hh tn tr pb cl o:=by
 subst e
 have q:=ih fun k=>L.getD k AV.undef
 rw[←hl] at q
 cases o with
 | none=>obtain ⟨y,h2,x,g⟩:=q;exact ⟨y,h2,Ev.loop ev x,G.trans g⟩
 | some r=>obtain ⟨y,h2,x,y1,a1,n1,g1⟩:=q;exact ⟨y,h2,Ev.loop ev x,y1,a1,Nat.le_trans G.n n1,g1⟩
end
def bu {σ:Type} (call:a_) (b:Code) (s:St) (ex:kR) (hh:ak) (tn:σ→(Nat→AV)→List AV) (Q:σ→Prop) (r:σ):Prop:=∃y hk,Ev env call (.loop b) s ex ⟨tn r y,hk,[],.no⟩∧bC hh hk∧Q r
section
variable {σ:Type} {call:a_} {b:Code} {s:St} {ex:kR} {hh hk:ak} {tn:σ→(Nat→AV)→List AV} {Q:σ→Prop}
theorem bu.out {i:Nat} {L:List AV} {o:σ} (r:σ) (e:o=r) (ev:Ev env call b s (.exit i) ⟨L,hk,[],.no⟩) (G:bC hh hk) (iq:Q r) (hl:L=tn r fun k=>L.getD k AV.undef):bu call b s (.exit i) hh tn Q o:=by
 subst e
 obtain ⟨y,q⟩:=jJ (tmpl:=tn o) (Ev.out ev) hl
 exact ⟨y,hk,q,G,iq⟩
theorem bu.round {L:List AV} {o o':σ} (e:o=o') (ev:Ev env call b s .normal ⟨L,hk,[],.no⟩) (G:bC hh hk) (Iz:(Nat→AV)→List AV) (hl:L=Iz fun k=>L.getD k AV.undef) (ih:∀x,bu call b ⟨Iz x,hk,[],.no⟩ ex hk tn Q o'):bu call b s ex hh tn Q o:=by
 subst e
 have q:=ih fun k=>L.getD k AV.undef
 rw[←hl] at q
 obtain ⟨y,h2,x,g,i⟩:=q;exact ⟨y,h2,Ev.loop ev x,G.trans g,i⟩
end
theorem aH.same {α:Type} [aB α] {h:ak} {v:AV} {l:List α} (x:aH h v l) (n:Nat):AV.same (n+1) v v=true:=by
 rcases x.known with rfl | rfl | ⟨p,o,m,c,b,rfl,_⟩
 · rfl
 · rfl
 · exact BQ n p o m c b
def VK (cs:List AV):Prop:=∀n,gW (AV.same (n+1)) cs cs=true
theorem OA:VK []:=fun _=>rfl
theorem th {x:AV} {cs:List AV} (hx:∀n,AV.same (n+1) x x=true) (hc:VK cs):VK (x::cs):=fun n=>by
 show (AV.same (n+1) x x&&gW (AV.same (n+1)) cs cs)=true
 rw[hx,hc];rfl
theorem iC (n:Nat) {cs:List AV} (h:VK cs):AV.same (n+2) (.agg cs) (.agg cs)=true:=h n
theorem nZ {s:List UInt8} {j:Nat} (hj:j<s.length):vH env (some .string) (some (.str s)) (some (.int .i64 ((j:Nat):Int)))=some (.int .u8 (((s.g j).toNat:Nat):Int)):=by
 refine Rt ?_
 rw[List.g,List.getD_eq_getElem?_getD,List.getElem?_eq_getElem hj];rfl
end
theorem zT {h:ak} {e s xt:TypeId} {xd:TypeDesc} {tys:Array TypeId} {bytes:Nat} {z x:AV} {M:List AV} (h0:tys[0]? =some s) (h1:tys[1]? =some xt) (hs:env.P.underlying s=some (.slice e)) (hx:env.P.underlying xt=some xd) (hi:nA xd=false) (JL:bQ env e=some 1) (hb:gD env e=some bytes) (Au:fl env e=some z) (hz:z.cells.length=1) (h8:bytes≤63) (hlen:pa x=some M.length) (hf:eO h 1 M.length x=some M) (zB:M.all AV.scalar=true) (hm:M≠ []) (hl:M.length≤1073741824):
 ∃h',cP env h tys .aD x=some (.slice h.nx 0 M.length M.length true,h')∧h.new (.cells M e false)=some h':=by
 obtain ⟨h',n⟩:=vJ (h:=h) (.cells M e false)
 refine ⟨h',?_,n⟩
 have hn:¬M.length=0:=fun e=>hm (List.length_eq_zero_iff.1 e)
 have E1:(4*M.length+4096)*(bytes+1)≤1099511627776:=Nat.le_trans (Nat.mul_le_mul (show 4*M.length+4096≤17179869184 by omega) (show bytes+1≤64 by omega)) (by decide)
 simp only[cP,h0,h1,hs,hx,hi,JL,hb,hlen,hf,Au,hz,zB,Nat.mul_one,hn,E1,n,if_true,if_false,and_self,Bool.false_eq_true]
theorem zU {h:ak} {e s xt:TypeId} {xd:TypeDesc} {tys:Array TypeId} {bytes p:Nat} {op:Bool} {z x:AV} {L M:List AV} (y:Tidy h) (h0:tys[0]? =some s) (h1:tys[1]? =some xt) (hs:env.P.underlying s=some (.slice e)) (hx:env.P.underlying xt=some xd) (hi:nA xd=false) (JL:bQ env e=some 1) (hb:gD env e=some bytes) (Au:fl env e=some z) (hz:z.cells.length=1) (h8:bytes≤63) (hlen:pa x=some M.length) (hf:eO h 1 M.length x=some M) (zB:M.all AV.scalar=true) {n:Nat} (hn:L.length=n) (hm:M≠ []) (hl:n+M.length≤1073741824)
 (hg:h.get p=some (.cells L e false)):
 ∃h',cP env h tys (.slice p 0 n n op) x=some (.slice h.nx 0 (n+M.length) (n+M.length) true,h')∧Tidy h'∧h'.nx=h.nx+1∧Kept p h h'∧h'.get h.nx=some (.cells (L++M) e false):=by
 have hp:=y _ _ hg
 subst hn
 have ec:(L.drop 0).take (L.length*1)++M=L++M:=by
  rw[List.drop_zero,Nat.mul_one,List.take_of_length_le (Nat.le_refl _)]
 have y2:Tidy (if op then h.put p none else h):=by
  cases op with
  | false=>exact y
  | true=>
    intro i x g
    show i<h.nx
    by_cases hi:i=p
    · subst hi;exact hp
    · rw[if_pos rfl,ak.bR (Ne.symm hi)] at g;exact y i x g
 have n2:(if op then h.put p none else h).nx=h.nx:=by cases op<;>rfl
 obtain ⟨h',n⟩:=vJ (h:=if op then h.put p none else h) (.cells (L++M) e false)
 refine ⟨h',?_,lT y2 n,by rw[vI n,n2],fun i x hi g=>?_,by rw[←n2];exact rk n⟩
 · have hn:0<M.length:=List.length_pos_iff.2 hm
   have E1:(4*(L.length+M.length)+4096)*(bytes+1)≤1099511627776:=Nat.le_trans (Nat.mul_le_mul (show 4*(L.length+M.length)+4096≤17179869184 by omega) (show bytes+1≤64 by omega)) (by decide)
   have hc:¬L.length+M.length≤L.length:=by omega
   simp only[cP,h0,h1,hs,hx,hi,JL,hb,hlen,hf,Au,hz,zB,hg,hc,if_true,if_false,Bool.false_eq_true,Nat.mul_one]
   rw[if_pos ⟨trivial,trivial,trivial⟩,if_pos ⟨E1,by omega,fun _=>⟨trivial,by omega,trivial⟩⟩]
   rw[show List.take L.length (List.drop 0 L)=L by rw[List.drop_zero,List.take_length],n]
 · refine te y2 n ?_
   cases op with
   | false=>exact g
   | true=>rw[if_pos rfl,ak.bR (Ne.symm hi)];exact g
def dc (e:TypeId) (h0 h:ak) (z:AV) (L:List AV):Prop:=(z= .aD∧L=[])∨(L≠ []∧∃p op,z= .slice p 0 L.length L.length op∧h0.nx≤p∧h.get p=some (.cells L e false))
theorem dc.has {e:TypeId} {h0 h h':ak} {z:AV} {L:List AV} (o:dc e h0 h z L) (a:Has h h'):dc e h0 h' z L:=o.imp id fun ⟨hn,p,op,e,h1,g⟩=>⟨hn,p,op,e,h1,a _ _ g⟩
theorem dc.app {e s xt:TypeId} {xd:TypeDesc} {h0 h:ak} {tys:Array TypeId} {bytes:Nat} {z0 z x:AV} {L M:List AV} (y:Tidy h) (y0:Tidy h0) (a:Has h0 h) (hle:h0.nx≤h.nx) (o:dc e h0 h z L) (t0:tys[0]? =some s) (t1:tys[1]? =some xt) (hs:env.P.underlying s=some (.slice e)) (hx:env.P.underlying xt=some xd) (hi:nA xd=false) (JL:bQ env e=some 1) (hb:gD env e=some bytes) (Au:fl env e=some z0) (hz:z0.cells.length=1) (h8:bytes≤63) (hlen:pa x=some M.length) (hf:eO h 1 M.length x=some M) (zB:M.all AV.scalar=true) (hm:M≠ []) (hl:L.length+M.length≤1073741824):
 ∃z' h',cP env h tys z x=some (z',h')∧Tidy h'∧h.nx≤h'.nx∧Has h0 h'∧dc e h0 h' z' (L++M):=by
 rcases o with ⟨rfl,rfl⟩ | ⟨hn,p,op,rfl,hp,hg⟩
 · obtain ⟨h',e1,n⟩:=zT (h:=h) t0 t1 hs hx hi JL hb Au hz h8 hlen hf zB hm (by simpa using hl)
   have:=vI n
   exact ⟨_,h',e1,lT y n,by omega,a.trans (uj y n),.inr ⟨by simpa using hm,h.nx,true,by simp,hle,rk n⟩⟩
 · obtain ⟨h',e1,y1,z1,k1,g1⟩:=zU (op:=op) y t0 t1 hs hx hi JL hb Au hz h8 hlen hf zB rfl hm hl hg
   exact ⟨_,h',e1,y1,by omega,Has.cI a k1 y0 hp,.inr ⟨by simp [hn],h.nx,true,by rw[List.length_append],hle,g1⟩⟩
theorem MR {i:Nat} {b:Bool} {v:AV}:pa (.slice i 0 1 1 b)=some [v].length:=rfl
theorem Ef {h:ak} {i:Nat} {b:Bool} {v:AV} {e:TypeId} {ro:Bool} (hg:h.get i=some (.cells [v] e ro)):eO h 1 [v].length (.slice i 0 1 1 b)=some [v]:=by
 simp [eO,hg]
theorem dc.le {e:TypeId} {h0 h1 h:ak} {z:AV} {L:List AV} (o:dc e h1 h z L) (hn:h0.nx≤h1.nx):dc e h0 h z L:=o.imp id fun ⟨ep,p,op,e,h1,g⟩=>⟨ep,p,op,e,by omega,g⟩
def zs (k:IntKind) (l:List Int):List AV:=l.map (AV.int k)
theorem kJ (k:IntKind) (l:List Int):(zs k l).length=l.length:=by simp [zs]
theorem VL (k:IntKind) (l:List Int) (x:Int):zs k (l++[x])=zs k l++[AV.int k x]:=by simp [zs]
theorem KH (k:IntKind) (l:List Int) {i:Nat} (hi:i<l.length):(zs k l)[i]? =some (.int k (l.g i)):=by
 rw[zs,List.getElem?_map,List.getElem?_eq_getElem hi,List.g,List.getD_eq_getElem?_getD,List.getElem?_eq_getElem hi];rfl
structure bW (h:ak) (k:IntKind) (e:TypeId) (v:AV) (l:List Int):Prop where
 at_:mQ env h e 1 v l.length (zs k l)
 agg:eN env e=some false
 known:v= .aD∨v= .ei∨∃p o m c b,v= .slice p o m c b
theorem bW.has {k:IntKind} {h h':ak} {e:TypeId} {v:AV} {l:List Int} (x:bW h k e v l) (a:Has h h'):bW h' k e v l:=⟨x.at_.has a,x.agg,x.known⟩
theorem bW.scalar {k:IntKind} {h:ak} {e:TypeId} {v:AV} {l:List Int} (x:bW h k e v l):AV.scalar v=true:=by
 rcases x.known with rfl | rfl | ⟨p,o,m,c,b,rfl⟩<;>rfl
theorem bW.same {k:IntKind} {h:ak} {e:TypeId} {v:AV} {l:List Int} (x:bW h k e v l) (n:Nat):AV.same (n+1) v v=true:=by
 rcases x.known with rfl | rfl | ⟨p,o,m,c,b,rfl⟩
 · rfl
 · rfl
 · exact BQ n p o m c b
theorem bW.MS {k:IntKind} {h:ak} {e:TypeId} {v:AV} {l:List Int} {m:Nat} (x:bW h k e v l) (e1:AV.map m=v):False:=by
 rcases x.known with rfl | rfl | ⟨p,o,n,c,b,rfl⟩<;>cases e1
theorem bW.small {k:IntKind} {h:ak} {e:TypeId} {v:AV} {l:List Int} (x:bW h k e v l):l.length<2^60:=x.at_.small
theorem bW.len {k:IntKind} {h:ak} {e:TypeId} {v:AV} {l:List Int} (x:bW h k e v l):bJ (some (.slice e)) (some v)=some (.int .i64 (l.length:Nat)):=x.at_.lens
theorem bW.elem {k:IntKind} {h:ak} {e:TypeId} {v:AV} {l:List Int} (x:bW h k e v l) {i:Nat} (hi:i<l.length):∃p q,b_ env (some (.slice e)) (some v) (some (.int .i64 ((i:Nat):Int)))=some (.ptr p q)∧bm env h e (.ptr p q)=some (.int k (l.g i)):=x.at_.elem x.agg (KH k l hi)
theorem bW.load {k:IntKind} {h:ak} {e:TypeId} {v:AV} {l:List Int} (x:bW h k e v l) {i p q:Nat} (hi:i<l.length) (hx:b_ env (some (.slice e)) (some v) (some (.int .i64 ((i:Nat):Int)))=some (.ptr p q)):bm env h e (.ptr p q)=some (.int k (l.g i)):=by
 obtain ⟨p',q',h1,h2⟩:=x.elem hi
 rw[hx] at h1
 simp only[Option.some.injEq,AV.ptr.injEq] at h1
 obtain ⟨rfl,rfl⟩:=h1
 exact h2
theorem bW.nil {k:IntKind} {h:ak} {e:TypeId} (hs:bQ env e=some 1) (ha:eN env e=some false):bW h k e .aD []:=⟨⟨hs,rfl,by decide,rfl,.inl rfl⟩,ha,.inl rfl⟩
theorem dc.zs {k:IntKind} {e:TypeId} {h0 h:ak} {z:AV} {l:List Int} (o:dc e h0 h z (aE.zs k l)) (hl:l.length<2^60) (hs:bQ env e=some 1) (ha:eN env e=some false):bW h k e z l:=by
 rcases o with ⟨rfl,e0⟩ | ⟨hn,p,op,rfl,_,hg⟩
 · have:l=[]:=List.length_eq_zero_iff.1 (by have:=congrArg List.length e0;rwa [kJ] at this)
   subst this
   exact bW.nil hs ha
 · rw[kJ]
   exact ⟨⟨hs,by rw[kJ];omega,hl,rfl,.inr ⟨p,0,_,_,op,_,_,_,rfl,Nat.le_refl _,hg,fun j _=>by rw[Nat.zero_add]⟩⟩,ha,.inr (.inr ⟨_,_,_,_,_,rfl⟩)⟩
theorem dc.MT {k:IntKind} {e:TypeId} {h0 h:ak} {z:AV} {l:List Int} {n:Nat} (o:dc e h0 h z (aE.zs k l)) (v:AV.within h0.nx (n+1) z=true) (hs:bQ env e=some 1) (ha:eN env e=some false):bW h0 k e z l:=by
 rcases o with ⟨rfl,e0⟩ | ⟨hn,p,op,rfl,hp,hg⟩
 · have:l=[]:=List.length_eq_zero_iff.1 (by have:=congrArg List.length e0;rwa [kJ] at this)
   subst this
   exact bW.nil hs ha
 · have:=of_decide_eq_true (show decide (p<h0.nx)=true from v)
   omega
def xh {σ:Type} (call:a_) (b:Code) (s:St) (ex:kR) (h:ak) (e:TypeId) (tn:σ→AV→(Nat→AV)→List AV) (own:σ→List AV) (N:Nat) (r:σ):Prop:=∃z y hk,Ev env call (.loop b) s ex ⟨tn r z y,hk,[],.no⟩∧bC h hk∧dc e h hk z (own r)∧(own r).length≤N
section
variable {σ:Type} {call:a_} {b:Code} {s:St} {ex:kR} {h hk:ak} {e:TypeId} {tn:σ→AV→(Nat→AV)→List AV} {own:σ→List AV} {N:Nat}
theorem xh.out {i:Nat} {L:List AV} {o:σ} (r:σ) (z:AV) (e1:o=r) (ev:Ev env call b s (.exit i) ⟨L,hk,[],.no⟩) (G:bC h hk) (oz:dc e h hk z (own r)) (ln:(own r).length≤N) (hl:L=tn r z fun k=>L.getD k AV.undef):xh call b s (.exit i) h e tn own N o:=by
 subst e1
 obtain ⟨y,q⟩:=jJ (tmpl:=tn o z) (Ev.out ev) hl
 exact ⟨z,y,hk,q,G,oz,ln⟩
theorem xh.round {L:List AV} {o o':σ} (e1:o=o') (ev:Ev env call b s .normal ⟨L,hk,[],.no⟩) (Iz:(Nat→AV)→List AV) (hl:L=Iz fun k=>L.getD k AV.undef) (ih:∀x,xh call b ⟨Iz x,hk,[],.no⟩ ex h e tn own N o'):xh call b s ex h e tn own N o:=by
 subst e1
 have q:=ih fun k=>L.getD k AV.undef
 rw[←hl] at q
 obtain ⟨z,y,h2,x,g,oz,ln⟩:=q;exact ⟨z,y,h2,Ev.loop ev x,g,oz,ln⟩
end
def uF {α:Type} [aB α] (h0 h:ak) (z:AV) (l:List α):Prop:=
 ((z= .aD∨∃p,z= .slice p 0 0 0 false∧h0.nx≤p∧h.get p=some (.cells [] (aB.e α) false))∧l=[])∨
 (l≠ []∧∃p op,z= .slice p 0 l.length l.length op∧h0.nx≤p∧h.get p=some (.cells (l.flatMap aB.c) (aB.e α) false))
def Xv (z:AV) (i:Nat):Prop:=∀o n c b,z≠ .slice i o n c b
section
variable {α:Type} [aB α] {h0 h h':ak} {z:AV} {l m:List α}
theorem uF.ad0 {s xt:TypeId} {tys:Array TypeId} {bytes N:Nat} {z0 x:AV} (y:Tidy h) (y0:Tidy h0) (a:Has h0 h) (hle:h0.nx≤h.nx) (o:uF h0 h z l) (hlen:pa x=some m.length) (hf:eO h (aB.n α) m.length x=some (m.flatMap aB.c)) (zB:(m.flatMap aB.c).all AV.scalar=true) (hl:l.length+m.length≤N)
 (t0:tys[0]? =some s) (t1:tys[1]? =some xt) (hs:env.P.underlying s=some (.slice (aB.e α))) (hx:env.P.underlying xt=some (.slice (aB.e α))) (hb:gD env (aB.e α)=some bytes) (Au:fl env (aB.e α)=some z0) (hz:z0.cells.length=aB.n α) (big:∀k,k≤N→(4*k+4096)*(bytes+1)≤1099511627776):
 ∃z' h',cP env h tys z x=some (z',h')∧Tidy h'∧h.nx≤h'.nx∧Has h0 h'∧uF h0 h' z' (l++m)∧∀i w,Xv z i→h.get i=some w→h'.get i=some w:=by
 have IA:=ey aB.len m
 have hi:nA (.slice (aB.e α))=false:=rfl
 have MU:∀{p:Nat} {ob:aK},h.get p=some ob→Tidy (h.put p (some ob))∧Has h0 (h.put p (some ob))∧(∀i w,h.get i=some w→(h.put p (some ob)).get i=some w):=fun {p ob} g=>by
  have hg:∀i,(h.put p (some ob)).get i=h.get i:=fun i=>by
   by_cases e:i=p
   · subst e;rw[ak.di,g]
   · rw[ak.bR (Ne.symm e)]
  exact ⟨fun i w q=>y i w (by rw[←hg];exact q),fun i w q=>by rw[hg];exact a i w q,fun i w q=>by rw[hg];exact q⟩
 have abD:m≠ []→∃h',h.new (.cells (m.flatMap aB.c) (aB.e α) false)=some h'∧Tidy h'∧h.nx≤h'.nx∧Has h0 h'∧uF h0 h' (.slice h.nx 0 m.length m.length true) m∧∀i w,h.get i=some w→h'.get i=some w:=fun hm=>by
  obtain ⟨h',n⟩:=vJ (h:=h) (.cells (m.flatMap aB.c) (aB.e α) false)
  have:=vI n
  exact ⟨h',n,lT y n,by omega,a.trans (uj y n),.inr ⟨hm,h.nx,true,rfl,hle,rk n⟩,fun i w g=>te y n g⟩
 rcases o with ⟨rfl | ⟨p,rfl,hp,hg⟩,rfl⟩ | ⟨hn,p,op,rfl,hp,hg⟩
 · rw[List.nil_append]
   by_cases hm:m=[]
   · subst hm
     simp only[List.length_nil,List.flatMap_nil,Nat.zero_mul] at hlen hf zB IA
     refine ⟨.aD,h,?_,y,Nat.le_refl _,a,.inl ⟨.inl rfl,rfl⟩,fun _ _ _ g=>g⟩
     simp only[cP,t0,t1,hs,hx,hi,aB.size,hb,hlen,hf,Au,hz,zB,IA,if_true,if_false,and_self,List.length_nil,Bool.false_eq_true,Nat.zero_mul]
   · obtain ⟨h',n,q1,q2,q3,q4,q5⟩:=abD hm
     have T0:¬m.length=0:=fun e=>hm (List.length_eq_zero_iff.1 e)
     refine ⟨_,h',?_,q1,q2,q3,q4,fun i w _ g=>q5 i w g⟩
     simp only[cP,t0,t1,hs,hx,hi,aB.size,hb,hlen,hf,Au,hz,zB,IA,T0,big m.length o!,n,if_true,if_false,and_self,Bool.false_eq_true]
 · rw[List.nil_append]
   by_cases hm:m=[]
   · subst hm
     simp only[List.length_nil,List.flatMap_nil,Nat.zero_mul] at hlen hf zB IA
     obtain ⟨q1,q2,q3⟩:=MU hg
     refine ⟨_,_,?_,q1,Nat.le_refl _,q2,.inl ⟨.inr ⟨p,rfl,hp,q3 _ _ hg⟩,rfl⟩,fun i w _ g=>q3 i w g⟩
     simp only[cP,t0,t1,hs,hx,hi,aB.size,hb,hlen,hf,Au,hz,zB,IA,hg,if_true,if_false,and_self,List.length_nil,Bool.false_eq_true,Nat.zero_mul,Nat.add_zero,Nat.le_refl,List.flatMap_nil,setFrom]
   · obtain ⟨h',n,q1,q2,q3,q4,q5⟩:=abD hm
     have T0:¬m.length≤0:=fun e=>hm (List.length_eq_zero_iff.1 o!)
     refine ⟨_,h',?_,q1,q2,q3,q4,fun i w _ g=>q5 i w g⟩
     simp only[cP,t0,t1,hs,hx,hi,aB.size,hb,hlen,hf,Au,hz,zB,IA,hg,T0,if_true,if_false,and_self,Bool.false_eq_true,Nat.zero_mul,Nat.add_zero,Nat.zero_add,List.length_nil,Nat.le_refl]
     rw[if_pos ⟨big m.length o!,trivial,fun e=>e.elim⟩]
     simp only[List.drop_nil,List.take_nil,List.nil_append,n]
 · have hlp:0<l.length:=List.length_pos_iff.2 hn
   have hpx:=y _ _ hg
   have Yx:=ey aB.len l
   by_cases hm:m=[]
   · subst hm
     simp only[List.length_nil,List.flatMap_nil,Nat.zero_mul] at hlen hf zB IA
     obtain ⟨q1,q2,q3⟩:=MU hg
     rw[List.append_nil]
     refine ⟨_,_,?_,q1,Nat.le_refl _,q2,.inr ⟨hn,p,op,rfl,hp,q3 _ _ hg⟩,fun i w _ g=>q3 i w g⟩
     simp only[cP,t0,t1,hs,hx,hi,aB.size,hb,hlen,hf,Au,hz,zB,IA,hg,Yx,if_true,if_false,and_self,List.length_nil,Bool.false_eq_true,Nat.zero_mul,Nat.add_zero,Nat.zero_add,Nat.le_refl,List.flatMap_nil,setFrom]
   · have hm0:0<m.length:=List.length_pos_iff.2 hm
     have y2:Tidy (if op then h.put p none else h):=by
      cases op with
      | false=>exact y
      | true=>
        intro i x g
        show i<h.nx
        by_cases hi:i=p
        · subst hi;exact hpx
        · rw[if_pos rfl,ak.bR (Ne.symm hi)] at g;exact y i x g
     have n2:(if op then h.put p none else h).nx=h.nx:=by cases op<;>rfl
     have k2:∀i w,i≠p→h.get i=some w→(if op then h.put p none else h).get i=some w:=fun i w hi g=>by
      cases op with
      | false=>exact g
      | true=>rw[if_pos rfl,ak.bR (Ne.symm hi)];exact g
     obtain ⟨h',n⟩:=vJ (h:=if op then h.put p none else h) (.cells (l.flatMap aB.c++m.flatMap aB.c) (aB.e α) false)
     have hk:∀i w,i≠p→h.get i=some w→h'.get i=some w:=fun i w hi g=>te y2 n (k2 i w hi g)
     have hc:¬l.length+m.length≤l.length:=by omega
     refine ⟨.slice h.nx 0 (l.length+m.length) (l.length+m.length) true,h',?_,lT y2 n,by rw[vI n,n2];omega,fun i w g=>?_,.inr ⟨by simp [hn],h.nx,true,by rw[List.length_append],hle,by rw[List.flatMap_append,←n2];exact rk n⟩,fun i w q g=>hk i w (fun e=>q 0 l.length l.length op (by subst e;rfl)) g⟩
     · simp only[cP,t0,t1,hs,hx,hi,aB.size,hb,hlen,hf,Au,hz,zB,IA,hg,hc,if_true,if_false,and_self,Bool.false_eq_true]
       rw[if_pos ⟨big _ hl,by rw[Yx];omega,fun _=>⟨trivial,by rw[Yx];omega,trivial⟩⟩]
       rw[List.drop_zero,List.take_of_length_le (by rw[Yx];exact Nat.le_refl _),n]
     · have:=y0 _ _ g
       exact hk i w o! (a i w g)
theorem uF.app {s xt:TypeId} {tys:Array TypeId} {bytes:Nat} {z0 x:AV} (y:Tidy h) (y0:Tidy h0) (a:Has h0 h) (hle:h0.nx≤h.nx) (o:uF h0 h z l) (hlen:pa x=some m.length) (hf:eO h (aB.n α) m.length x=some (m.flatMap aB.c)) (zB:(m.flatMap aB.c).all AV.scalar=true) (hl:l.length+m.length≤1000000000)
 (t0:tys[0]? =some s) (t1:tys[1]? =some xt) (hs:env.P.underlying s=some (.slice (aB.e α))) (hx:env.P.underlying xt=some (.slice (aB.e α))) (hb:gD env (aB.e α)=some bytes) (Au:fl env (aB.e α)=some z0) (hz:z0.cells.length=aB.n α) (h8:bytes≤255):
 ∃z' h',cP env h tys z x=some (z',h')∧Tidy h'∧h.nx≤h'.nx∧Has h0 h'∧uF h0 h' z' (l++m)∧∀i w,Xv z i→h.get i=some w→h'.get i=some w:=
 uF.ad0 y y0 a hle o hlen hf zB hl t0 t1 hs hx hb Au hz fun k hk=>Nat.le_trans (Nat.mul_le_mul (show 4*k+4096≤4294967296 by omega) (show bytes+1≤256 by omega)) (by decide)
class Flat (α:Type) [aB α]:Prop where
 free:∀{h h':ak} {x:α},aB.ok h x→aB.ok h' x
theorem jT {f:FuncId} {fn:Func} {c:Code} {args ts0 ts:List AV} {h h':ak} {call:a_} {x:kR} {v w:AV} {a r:Tmp} {t:TypeId} {i:Nat} (hf:env.P.funcs[f]? =some fn) (hb:fn.body=some c) (ht:args++List.replicate (fn.ntmps - args.length) AV.undef=ts0) (hx:x= .normal∨x= .ret)
 (e:Ev env call c ⟨ts0,h,[],.no⟩ x ⟨ts,h',[],.no⟩) (hrs:(fn.results.toList,ts.getD a AV.undef,ts.getD r AV.undef)=([.cell a t,.tmp r],AV.ptr i 0,w)) (hl:bm env h' t (.ptr i 0)=some v):uD env call f args h (.tuple [v,w]) h':=by
 refine aR hf hb ht hx e ?_
 rw[show fn.results.toList=[.cell a t,.tmp r] from congrArg Prod.fst hrs]
 simp only[kS,show ts.getD a AV.undef= .ptr i 0 from congrArg (fun q=>q.2.1) hrs,show ts.getD r AV.undef=w from congrArg (fun q=>q.2.2) hrs,hl,Option.map_some]
 rfl
theorem aH.pa {v:AV} (x:aH h v l):pa v=some l.length:=by
 have hl:=x.at_.lens
 rcases x.known with rfl | rfl | ⟨p,o,m,c,b,rfl,_⟩
 · rw[w_] at hl
   simp only[Option.some.injEq,AV.int.injEq,true_and] at hl
   rw[show l.length=0 by omega];rfl
 · rw[Y2] at hl
   simp only[Option.some.injEq,AV.int.injEq,true_and] at hl
   rw[show l.length=0 by omega];rfl
 · rw[gG] at hl
   simp only[Option.some.injEq,AV.int.injEq,true_and] at hl
   rw[show l.length=m by omega];rfl
theorem aH.first {v:AV} (x:aH h v l):eO h (aB.n α) l.length v=some (l.flatMap aB.c):=by
 by_cases hl:l=[]
 · subst hl
   rcases x.known with rfl | rfl | ⟨p,o,m,c,b,rfl,_⟩<;>simp [eO]
 · have hlp:0<l.length:=List.length_pos_iff.2 hl
   have Yx:=ey aB.len l
   rcases x.at_.block with h0 | ⟨p,o,m,c,b,C,f,ro,h1,_,h2,h3⟩
   · omega
   · subst h1
     have hm:m=l.length:=by
      have:=x.at_.lens
      rw[gG] at this
      simp only[Option.some.injEq,AV.int.injEq,true_and] at this
      omega
     subst hm
     have hC:o+l.length*aB.n α≤C.length:=by
      rcases Nat.eq_zero_or_pos (l.length*aB.n α) with h0 | h0
      · have:=Nat.mul_pos hlp (aB.pos (α:=α));omega
      · have:=h3 (l.length*aB.n α - 1) o!
        rw[List.getElem?_eq_getElem (by omega:l.length*aB.n α - 1<(l.flatMap aB.c).length)] at this
        have:=(List.getElem?_eq_some_iff.1 this).1
        omega
     simp only[eO,Nat.le_refl,if_true,if_false,show ¬l.length=0 by omega,h2,hC]
     congr 1
     apply List.ext_getElem?
     intro j
     by_cases hj:j<l.length*aB.n α
     · rw[List.getElem?_take_of_lt hj,List.getElem?_drop,h3 j o!]
     · rw[List.getElem?_eq_none (by rw[List.length_take];omega),List.getElem?_eq_none o!]
end
structure Span where
 bt:Int
 aP:Int
@[reducible] def Span.c (x:Span):List AV:=[.int .i64 x.bt,.int .i64 x.aP]
def Span.ok (h:ak) (x:Span):Prop:=True
def Span.eq (x y:Span):Bool:=(x.bt==y.bt)&&(x.aP==y.aP)
theorem Span.deep (x y:Span):lp env 16 52 (.agg (Span.c x)) (.agg (Span.c y))=some (Span.eq x y):=by
 have e:lp env 16 52 (.agg (Span.c x)) (.agg (Span.c y))=(match some (x.bt==y.bt) with | some true=>(match some (x.aP==y.aP) with | some true=>some true | some false=>some false | none=>none) | some false=>some false | none=>none):=by kernel_rfl
 rw[e,Span.eq]
 cases (x.bt==y.bt)<;>try rfl
 cases (x.aP==y.aP)<;>try rfl
theorem Span.eql (x y:Span) {a b:Bool}:fZ env .eql 52 a b (some (.agg (Span.c x))) (some (.agg (Span.c y)))=some (.bool (Span.eq x y)):=by
 show (if env.P.eqGuardType env.P.depth 52 then none else (match lp env 16 52 (.agg (Span.c x)) (.agg (Span.c y)) with | some r=>some (AV.bool (r)) | none=>none))=_
 rw[show env.P.eqGuardType env.P.depth 52=false by kernel_rfl,Span.deep];rfl
theorem Span.neq (x y:Span) {a b:Bool}:fZ env .neq 52 a b (some (.agg (Span.c x))) (some (.agg (Span.c y)))=some (.bool (!Span.eq x y)):=by
 show (if env.P.eqGuardType env.P.depth 52 then none else (match lp env 16 52 (.agg (Span.c x)) (.agg (Span.c y)) with | some r=>some (AV.bool (!r)) | none=>none))=_
 rw[show env.P.eqGuardType env.P.depth 52=false by kernel_rfl,Span.deep];rfl
instance:aB Span where
 default:=⟨0,0⟩
 c:=Span.c
 n:=2
 e:=52
 len _:=rfl
 ok:=Span.ok
 mono a o:=o
 size:=by kernel_rfl
 agg:=by kernel_rfl
 pos:=by decide
instance:Flat Span where
 free o:=o
structure jD where
 ai:Int
 aC:Int
@[reducible] def jD.c (x:jD):List AV:=[.int .i64 x.ai,.int .i64 x.aC]
def jD.ok (h:ak) (x:jD):Prop:=True
def jD.eq (x y:jD):Bool:=(x.ai==y.ai)&&(x.aC==y.aC)
theorem jD.deep (x y:jD):lp env 16 50 (.agg (jD.c x)) (.agg (jD.c y))=some (jD.eq x y):=by
 have e:lp env 16 50 (.agg (jD.c x)) (.agg (jD.c y))=(match some (x.ai==y.ai) with | some true=>(match some (x.aC==y.aC) with | some true=>some true | some false=>some false | none=>none) | some false=>some false | none=>none):=by kernel_rfl
 rw[e,jD.eq]
 cases (x.ai==y.ai)<;>try rfl
 cases (x.aC==y.aC)<;>try rfl
theorem jD.eql (x y:jD) {a b:Bool}:fZ env .eql 50 a b (some (.agg (jD.c x))) (some (.agg (jD.c y)))=some (.bool (jD.eq x y)):=by
 show (if env.P.eqGuardType env.P.depth 50 then none else (match lp env 16 50 (.agg (jD.c x)) (.agg (jD.c y)) with | some r=>some (AV.bool (r)) | none=>none))=_
 rw[show env.P.eqGuardType env.P.depth 50=false by kernel_rfl,jD.deep];rfl
theorem jD.neq (x y:jD) {a b:Bool}:fZ env .neq 50 a b (some (.agg (jD.c x))) (some (.agg (jD.c y)))=some (.bool (!jD.eq x y)):=by
 show (if env.P.eqGuardType env.P.depth 50 then none else (match lp env 16 50 (.agg (jD.c x)) (.agg (jD.c y)) with | some r=>some (AV.bool (!r)) | none=>none))=_
 rw[show env.P.eqGuardType env.P.depth 50=false by kernel_rfl,jD.deep];rfl
instance:aB jD where
 default:=⟨0,0⟩
 c:=jD.c
 n:=2
 e:=50
 len _:=rfl
 ok:=jD.ok
 mono a o:=o
 size:=by kernel_rfl
 agg:=by kernel_rfl
 pos:=by decide
instance:Flat jD where
 free o:=o
structure aZ where
 name:List UInt8
 aC:Int
 cE:AV
 off:List Span
@[reducible] def aZ.c (x:aZ):List AV:=[.str x.name,.int .i64 x.aC,x.cE]
def aZ.ok (h:ak) (x:aZ):Prop:=x.name.length<2^60∧aH h x.cE x.off
instance:aB aZ where
 default:=⟨[],0,.aD,[]⟩
 c:=aZ.c
 n:=3
 e:=45
 len _:=rfl
 ok:=aZ.ok
 mono a o:=⟨o.1,(o.2).has a⟩
 size:=by kernel_rfl
 agg:=by kernel_rfl
 pos:=by decide
structure Task where
 name:List UInt8
 aL:Int
 aG:AV
 aq:List Int
 bq:AV
 aF:List jD
@[reducible] def Task.c (x:Task):List AV:=[.str x.name,.int .i64 x.aL,x.aG,x.bq]
def Task.ok (h:ak) (x:Task):Prop:=x.name.length<2^60∧bW h .i64 3 x.aG x.aq∧aH h x.bq x.aF
instance:aB Task where
 default:=⟨[],0,.aD,[],.aD,[]⟩
 c:=Task.c
 n:=4
 e:=48
 len _:=rfl
 ok:=Task.ok
 mono a o:=⟨o.1,(o.2.1).has a,(o.2.2).has a⟩
 size:=by kernel_rfl
 agg:=by kernel_rfl
 pos:=by decide
structure cF where
 ah:AV
 ab:List Task
 ag:AV
 ae:List aZ
@[reducible] def cF.c (x:cF):List AV:=[x.ah,x.ag]
def cF.ok (h:ak) (x:cF):Prop:=aH h x.ah x.ab∧aH h x.ag x.ae
instance:aB cF where
 default:=⟨.aD,[],.aD,[]⟩
 c:=cF.c
 n:=2
 e:=25
 len _:=rfl
 ok:=cF.ok
 mono a o:=⟨(o.1).has a,(o.2).has a⟩
 size:=by kernel_rfl
 agg:=by kernel_rfl
 pos:=by decide
structure jg where
 ay:Int
 aS:AV
 chain:List Int
 ai:Int
@[reducible] def jg.c (x:jg):List AV:=[.int .i64 x.ay,x.aS,.int .i64 x.ai]
def jg.ok (h:ak) (x:jg):Prop:=bW h .i64 3 x.aS x.chain
instance:aB jg where
 default:=⟨0,.aD,[],0⟩
 c:=jg.c
 n:=3
 e:=28
 len _:=rfl
 ok:=jg.ok
 mono a o:=(o).has a
 size:=by kernel_rfl
 agg:=by kernel_rfl
 pos:=by decide
theorem C2 {p:Prop} [Decidable p] (h:(!decide p)=true):¬p:=by intro q;rw[decide_eq_true q] at h;cases h
theorem C3 {p:Prop} [Decidable p] (h:(!decide p)=false):p:=by by_cases q:p;exact q;rw[decide_eq_false q] at h;cases h
def bs (l:List Bool):List AV:=l.map AV.bool
theorem KI (l:List Bool):(bs l).length=l.length:=by simp [bs]
theorem RD (l:List Bool) {i:Nat} (hi:i<l.length):(bs l)[i]? =some (.bool (l.g i)):=by
 rw[bs,List.getElem?_map,List.getElem?_eq_getElem hi,List.g,List.getD_eq_getElem?_getD,List.getElem?_eq_getElem hi];rfl
theorem Za (k:IntKind) (l:List Int) (i:Nat) (v:Int):(zs k l).set i (.int k v)=zs k (l.set i v):=by simp [zs,List.map_set]
theorem Zb (l:List Bool) (i:Nat) (v:Bool):(bs l).set i (.bool v)=bs (l.set i v):=by simp [bs,List.map_set]
theorem RE (k:IntKind):∀n,da [AV.int k 0] n=zs k (List.replicate n 0)
 | 0=>rfl
 | n+1=>by rw[da,RE k n];rfl
theorem KJ:∀n,da [AV.bool false] n=bs (List.replicate n false)
 | 0=>rfl
 | n+1=>by rw[da,KJ n];rfl
section
variable {h:ak} {t e:TypeId} {p i n:Nat}
theorem VM {l:List Bool} {ro:Bool} (ht:eN env t=some false) (hg:h.get p=some (.cells (bs l) e ro)) (hi:i<l.length):bm env h t (.ptr p i)=some (.bool (l.g i)):=by
 simp only[bm,hg,jy,ht];exact RD l hi
theorem Eg {cs:List AV} {v:AV} (hs:bQ env t=some 1) (hg:h.get p=some (.cells cs e false)) (hi:i<cs.length) (hv:v.cells=[v]) (hk:AV.scalar v=true):eX env h t (.ptr p i) v=some (h.put p (some (.cells (cs.set i v) e false))):=by
 obtain ⟨h',s⟩:=BY (E:=env) (t:=t) (o:=i) (n:=1) (v:=v) hg hs (by rw[hv];rfl) o! (by rw[hv];simp [hk])
 rw[s,tf s hg,hv];rfl
theorem RG {k:IntKind} {l:List Int} {v:Int} (hs:bQ env t=some 1) (hg:h.get p=some (.cells (zs k l) e false)) (hi:i<l.length):eX env h t (.ptr p i) (.int k v)=some (h.put p (some (.cells (zs k (l.set i v)) e false))):=by
 rw[Eg hs hg (by rw[kJ];exact hi) rfl rfl,Za]
theorem IB {l:List Bool} {v:Bool} (hs:bQ env t=some 1) (hg:h.get p=some (.cells (bs l) e false)) (hi:i<l.length):eX env h t (.ptr p i) (.bool v)=some (h.put p (some (.cells (bs (l.set i v)) e false))):=by
 rw[Eg hs hg (by rw[KI];exact hi) rfl rfl,Zb]
end
structure rl (h:ak) (e:TypeId) (v:AV) (l:List Bool):Prop where
 at_:mQ env h e 1 v l.length (bs l)
 agg:eN env e=some false
section
variable {h h':ak} {e:TypeId} {v:AV} {l:List Bool}
theorem rl.has (x:rl h e v l) (a:Has h h'):rl h' e v l:=⟨x.at_.has a,x.agg⟩
theorem rl.scalar (x:rl h e v l):AV.scalar v=true:=by
 have q:=x.at_.lens
 cases v<;>first | rfl | (exfalso;revert q;simp [bJ])
theorem xj {v:AV} (x:AV.scalar v=true):AV.cells v=[v]:=by
 cases v<;>first | rfl | cases x
theorem rl.small (x:rl h e v l):l.length<2^60:=x.at_.small
theorem rl.elem (x:rl h e v l) {i:Nat} (hi:i<l.length):∃p q,b_ env (some (.slice e)) (some v) (some (.int .i64 ((i:Nat):Int)))=some (.ptr p q)∧bm env h e (.ptr p q)=some (.bool (l.g i)):=x.at_.elem x.agg (RD l hi)
theorem rl.load (x:rl h e v l) {i p q:Nat} (hi:i<l.length) (hx:b_ env (some (.slice e)) (some v) (some (.int .i64 ((i:Nat):Int)))=some (.ptr p q)):bm env h e (.ptr p q)=some (.bool (l.g i)):=by
 obtain ⟨p',q',h1,h2⟩:=x.elem hi
 rw[hx] at h1
 simp only[Option.some.injEq,AV.ptr.injEq] at h1
 obtain ⟨rfl,rfl⟩:=h1
 exact h2
theorem rl.own {p n:Nat} {op ro:Bool} {f:TypeId} (hs:bQ env e=some 1) (ha:eN env e=some false) (hg:h.get p=some (.cells (bs l) f ro)) (hn:l.length=n) (h60:n<2^60):rl h e (.slice p 0 n n op) l:=by
 subst hn
 exact ⟨⟨hs,by rw[KI];omega,h60,rfl,.inr ⟨p,0,_,_,op,_,_,_,rfl,Nat.le_refl _,hg,fun j _=>by rw[Nat.zero_add]⟩⟩,ha⟩
theorem bW.own {k:IntKind} {p n:Nat} {op ro:Bool} {f:TypeId} {l:List Int} (hs:bQ env e=some 1) (ha:eN env e=some false) (hg:h.get p=some (.cells (zs k l) f ro)) (hn:l.length=n) (h60:n<2^60):bW h k e (.slice p 0 n n op) l:=by
 subst hn
 exact ⟨⟨hs,by rw[kJ];omega,h60,rfl,.inr ⟨p,0,_,_,op,_,_,_,rfl,Nat.le_refl _,hg,fun j _=>by rw[Nat.zero_add]⟩⟩,ha,.inr (.inr ⟨_,_,_,_,_,rfl⟩)⟩
end
def bI {σ ρ:Type} (call:a_) (b:Code) (s:St) (ex:kR) (hh:ak) (tn:σ→AV→(Nat→AV)→List AV) (tr:ρ→AV→(Nat→AV)→List AV) (Qn:σ→AV→ak→Prop) (Qr:ρ→AV→ak→Prop):σ ⊕ ρ→Prop
 | .inl v=>∃z y hk,Ev env call (.loop b) s ex ⟨tn v z y,hk,[],.no⟩∧Tidy hk∧hh.nx≤hk.nx∧Qn v z hk
 | .inr r=>∃z y hk,Ev env call (.loop b) s .ret ⟨tr r z y,hk,[],.no⟩∧Tidy hk∧hh.nx≤hk.nx∧Qr r z hk
section
variable {σ ρ:Type} {call:a_} {b:Code} {s:St} {ex:kR} {hh hk:ak} {tn:σ→AV→(Nat→AV)→List AV} {tr:ρ→AV→(Nat→AV)→List AV} {Qn:σ→AV→ak→Prop} {Qr:ρ→AV→ak→Prop}
theorem bI.n {o:σ ⊕ ρ} {v:σ} (e:o= .inl v) (x:bI call b s ex hh tn tr Qn Qr o):∃z y hk,Ev env call (.loop b) s ex ⟨tn v z y,hk,[],.no⟩∧Tidy hk∧hh.nx≤hk.nx∧Qn v z hk:=by subst e;exact x
theorem bI.r {o:σ ⊕ ρ} {r:ρ} (e:o= .inr r) (x:bI call b s ex hh tn tr Qn Qr o):∃z y hk,Ev env call (.loop b) s .ret ⟨tr r z y,hk,[],.no⟩∧Tidy hk∧hh.nx≤hk.nx∧Qr r z hk:=by subst e;exact x
theorem bI.out {i:Nat} {L:List AV} {o:σ ⊕ ρ} (v:σ) (z:AV) (e:o= .inl v) (ev:Ev env call b s (.exit i) ⟨L,hk,[],.no⟩) (y1:Tidy hk) (n1:hh.nx≤hk.nx) (q:Qn v z hk) (hl:L=tn v z fun k=>L.getD k AV.undef):bI call b s (.exit i) hh tn tr Qn Qr o:=by
 subst e
 obtain ⟨y,x⟩:=jJ (tmpl:=tn v z) (Ev.out ev) hl
 exact ⟨z,y,hk,x,y1,n1,q⟩
theorem bI.ret {L:List AV} {o:σ ⊕ ρ} (r:ρ) (z:AV) (e:o= .inr r) (ev:Ev env call b s .ret ⟨L,hk,[],.no⟩) (y1:Tidy hk) (n1:hh.nx≤hk.nx) (q:Qr r z hk) (hl:L=tr r z fun k=>L.getD k AV.undef):bI call b s ex hh tn tr Qn Qr o:=by
 subst e
 obtain ⟨y,x⟩:=jJ (tmpl:=tr r z) (Ev.ret ev) hl
 exact ⟨z,y,hk,x,y1,n1,q⟩
theorem bI.round {L:List AV} {o o':σ ⊕ ρ} (e:o=o') (ev:Ev env call b s .normal ⟨L,hk,[],.no⟩) (n1:hh.nx≤hk.nx) (Iz:(Nat→AV)→List AV) (hl:L=Iz fun k=>L.getD k AV.undef) (ih:∀x,bI call b ⟨Iz x,hk,[],.no⟩ ex hk tn tr Qn Qr o'):bI call b s ex hh tn tr Qn Qr o:=by
 subst e
 have q:=ih fun k=>L.getD k AV.undef
 rw[←hl] at q
 cases o with
 | inl v=>obtain ⟨z,y,h2,x,y1,n2,g⟩:=q;exact ⟨z,y,h2,Ev.loop ev x,y1,Nat.le_trans n1 n2,g⟩
 | inr r=>obtain ⟨z,y,h2,x,y1,n2,g⟩:=q;exact ⟨z,y,h2,Ev.loop ev x,y1,Nat.le_trans n1 n2,g⟩
end
theorem dc.VN {k:IntKind} {e s xt:TypeId} {g h:ak} {tys:Array TypeId} {bytes b:Nat} {z0 z:AV} {L:List Int} {v:Int} {f:TypeId} {ro op:Bool} (y:Tidy h) (hle:g.nx≤h.nx) (o:dc e g h z (aE.zs k L)) (hg:h.get b=some (.cells [.int k v] f ro)) (hl:L.length≤1000000000) (t0:tys[0]? =some s) (t1:tys[1]? =some xt) (hs:env.P.underlying s=some (.slice e)) (hx:env.P.underlying xt=some (.slice e)) (JL:bQ env e=some 1) (hb:gD env e=some bytes) (Au:fl env e=some z0) (hz:z0.cells.length=1) (h8:bytes≤63):
 ∃z' h',cP env h tys z (.slice b 0 1 1 op)=some (z',h')∧Tidy h'∧h.nx≤h'.nx∧(∀i w,i<g.nx→h.get i=some w→h'.get i=some w)∧dc e g h' z' (aE.zs k (L++[v])):=by
 rw[VL]
 have PC:(aE.zs k L).length≤1000000000:=by rw[kJ];exact hl
 rcases o with ⟨rfl,e0⟩ | ⟨hn,p,op',rfl,hp,hgp⟩
 · rw[e0]
   obtain ⟨h',e1,n⟩:=zT (h:=h) (M:=[.int k v]) t0 t1 hs hx rfl JL hb Au hz h8 MR (Ef hg) rfl (by simp) (by simp)
   have:=vI n
   exact ⟨_,h',e1,lT y n,by omega,fun i w _ q=>te y n q,.inr ⟨by simp,h.nx,true,by simp,hle,rk n⟩⟩
 · obtain ⟨h',e1,y1,z1,k1,g1⟩:=zU (op:=op') (M:=[.int k v]) y t0 t1 hs hx rfl JL hb Au hz h8 MR (Ef hg) rfl rfl (by simp) (by simp;omega) hgp
   exact ⟨_,h',e1,y1,by omega,fun i w hi q=>k1 i w o! q,.inr ⟨by simp,h.nx,true,by rw[List.length_append],hle,g1⟩⟩
theorem Has.FZ {h hh h' g:ak} (a:Has h hh) (y:Tidy h) (n:h.nx≤g.nx) (A:∀i w,i<g.nx→hh.get i=some w→h'.get i=some w):Has h h':=fun i w q=>A i w (Nat.lt_of_lt_of_le (y i w q) n) (a i w q)
theorem dc.chg {e:TypeId} {g h h':ak} {z:AV} {L:List AV} {b:Nat} {C:aK} (o:dc e g h z L) (c:VI h h' b C) (hb:b<g.nx):dc e g h' z L:=o.imp id fun ⟨hn,p,op,e,h1,q⟩=>⟨hn,p,op,e,h1,c.2.2 _ _ o! q⟩
theorem dc.MV {e:TypeId} {h0 h:ak} {z:AV} {L:List AV} {n:Nat} (o:dc e h0 h z L) (v:AV.within h0.nx (n+1) z=true):dc e h0 h0 z L:=by
 rcases o with ⟨rfl,e0⟩ | ⟨hn,p,op,rfl,hp,hg⟩
 · exact .inl ⟨rfl,e0⟩
 · have:=of_decide_eq_true (show decide (p<h0.nx)=true from v)
   omega
theorem lV {hh h':ak} {b:Nat} {o x:aK} (a:Has hh h') (g:hh.get b=some o) (g':h'.get b=some x):hh.get b=some x:=by
 have q:=a _ _ g
 rw[g'] at q
 rw[g,←q]
theorem lB {d:Nat} {f:FuncId} {args:List AV} {hh h':ak} {v:AV} {P:ak→Prop} (hm:M0 f args hh=none) (hd:uD env (cA d) f args hh v h') (y:Tidy hh) (y':Tidy h') (n:hh.nx≤h'.nx) (p':P h') (p:Has hh h'→P hh):∃hk,cA (d+1) (.fn f) args hh= .ret v hk∧Tidy hk∧hh.nx≤hk.nx∧P hk:=by
 obtain ⟨hk,e,rfl | ⟨rfl,a⟩⟩:=KG hm hd
 · exact ⟨_,e,y',n,p'⟩
 · exact ⟨_,e,y,Nat.le_refl _,p a⟩
theorem OC {nx k b n m c:Nat} {op:Bool} (v:AV.within nx (k+1) (.slice b n m c op)=true) (hb:nx≤b):False:=by
 have:=of_decide_eq_true (show decide (b<nx)=true from v)
 omega
def uG (x:Int):Int:=Int.fdiv x (2^(min (Int.toNat 1) 64))
theorem Ev.to {call:a_} {b:Code} {s:St} {e:kR} {L L':List AV} {hk:ak} (ev:Ev env call b s e ⟨L,hk,[],.no⟩) (hl:L=L'):Ev env call b s e ⟨L',hk,[],.no⟩:=hl▸ev
theorem RH {v:AV} (h:AV.scalar v=true):v.cells=[v]:=by cases v<;>first | rfl | cases h
theorem abG {h:ak} {t e:TypeId} {i o:Nat} {cs N:List AV} {v:AV} (y:Tidy h) (gg:h.get i=some (.cells cs e false)) (hs:bQ env t=some 1) (hk:AV.scalar v=true) (hl:Nat.ble (o+1) cs.length=true) (hN:setFrom cs o [v]=N):∃h',eX env h t (.ptr i o) v=some h'∧Tidy h'∧h'.nx=h.nx∧h'.get i=some (.cells N e false)∧Kept i h h':=by
 have c:=RH hk
 exact Y_ y gg hs (by rw[c];rfl) hl (by rw[c];exact hN) (by rw[c];simp [hk])
theorem afh (f:FuncId) (a b:List AV):AV.scalar (.func f a b)=true:=rfl
theorem OD {x:Int} (h0:0≤x) (h1:x<18446744073709551616):IntKind.u64.wrap x=x:=by
 have:=Rx x.toNat
 rw[show ((x.toNat:Nat):Int)=x by omega] at this
 rw[this]
 omega
theorem Xw {i j:Int} (h0:0≤i) (h1:i<j) (h2:j≤1000000):IntKind.i64.wrap (uG (IntKind.u64.wrap (i+j)))=(i+j) /2∧i≤(i+j) /2∧(i+j) /2<j:=by
 have e:IntKind.u64.wrap (i+j)=i+j:=OD o! o!
 have e2:uG (i+j)=(i+j) /2:=by
  show Int.fdiv (i+j) 2=_
  rw[Int.fdiv_eq_ediv_of_nonneg _ (by decide)]
 rw[e,e2,wrap_i64 o! o!]
 exact ⟨rfl,by omega,by omega⟩
section
variable {α:Type} [aB α]
theorem uF.le {h0 h1 h:ak} {z:AV} {l:List α} (o:uF h1 h z l) (hn:h0.nx≤h1.nx):uF h0 h z l:=by
 rcases o with ⟨rfl | ⟨p,rfl,h1,h2⟩,rfl⟩ | ⟨ep,p,op,e,h1,g⟩
 · exact .inl ⟨.inl rfl,rfl⟩
 · exact .inl ⟨.inr ⟨p,rfl,by omega,h2⟩,rfl⟩
 · exact .inr ⟨ep,p,op,e,by omega,g⟩
def ti {σ:Type} (call:a_) (b:Code) (s:St) (ex:kR) (h:ak) (tn:σ→AV→(Nat→AV)→List AV) (own:σ→List α) (N:Nat) (r:σ):Prop:=∃z y hk,Ev env call (.loop b) s ex ⟨tn r z y,hk,[],.no⟩∧bC h hk∧uF h hk z (own r)∧(∀y∈own r,aB.ok hk y)∧(own r).length≤N
variable {σ:Type} {call:a_} {b:Code} {s:St} {ex:kR} {h hk:ak} {tn:σ→AV→(Nat→AV)→List AV} {own:σ→List α} {N:Nat}
theorem ti.out {i:Nat} {L:List AV} {o:σ} (r:σ) (z:AV) (e1:o=r) (ev:Ev env call b s (.exit i) ⟨L,hk,[],.no⟩) (G:bC h hk) (oz:uF h hk z (own r)) (ok:∀y∈own r,aB.ok hk y) (ln:(own r).length≤N) (hl:L=tn r z fun k=>L.getD k AV.undef):ti call b s (.exit i) h tn own N o:=by
 subst e1
 obtain ⟨y,q⟩:=jJ (tmpl:=tn o z) (Ev.out ev) hl
 exact ⟨z,y,hk,q,G,oz,ok,ln⟩
theorem ti.round {L:List AV} {o o':σ} (e1:o=o') (ev:Ev env call b s .normal ⟨L,hk,[],.no⟩) (Iz:(Nat→AV)→List AV) (hl:L=Iz fun k=>L.getD k AV.undef) (ih:∀x,ti call b ⟨Iz x,hk,[],.no⟩ ex h tn own N o'):ti call b s ex h tn own N o:=by
 subst e1
 have q:=ih fun k=>L.getD k AV.undef
 rw[←hl] at q
 obtain ⟨z,y,h2,x,g,oz,ok,ln⟩:=q;exact ⟨z,y,h2,Ev.loop ev x,g,oz,ok,ln⟩
end
section
variable {α:Type} [aB α]
theorem RI {l:List α} {i:Nat} (h:i<l.length) (x:α):(l.set i x).g i=x:=by
 rw[List.g,List.getD_eq_getElem?_getD,List.getElem?_set_self h];rfl
theorem RJ {l:List α} {i j:Nat} (h:i≠j) (x:α):(l.set i x).g j=l.g j:=by
 rw[List.g,List.g,List.getD_eq_getElem?_getD,List.getD_eq_getElem?_getD,List.getElem?_set_ne h]
theorem F0 {l:List α} {i:Nat} (h:i<l.length) (x:α):setFrom (l.flatMap aB.c) (i*aB.n α) (aB.c x)=(l.set i x).flatMap aB.c:=by
 have hn:0<aB.n α:=aB.pos
 have hl:=ey aB.len l
 have PC:=ey aB.len (l.set i x)
 rw[List.length_set] at PC
 have hx:=aB.len x
 apply List.ext_getElem?
 intro k
 rw[jO,hx,hl]
 have hk:k=k/aB.n α*aB.n α+k%aB.n α:=by rw[Nat.mul_comm];exact (Nat.div_add_mod k _).symm
 have hr:=Nat.mod_lt k hn
 generalize k/aB.n α=q at hk
 generalize k%aB.n α=r at hk hr
 by_cases hq:q<l.length
 · have h1:=m_ aB.len l q r hq hr
   have h2:=m_ aB.len (l.set i x) q r (by rw[List.length_set];exact hq) hr
   subst hk
   by_cases e:q=i
   · subst e
     have:q*aB.n α+aB.n α≤l.length*aB.n α:=by rw[←Nat.succ_mul];exact Nat.mul_le_mul_right _ hq
     rw[if_pos ⟨by omega,by omega,by omega⟩,h2,RI hq,Nat.add_sub_cancel_left]
   · rw[if_neg,h1,h2,RJ (Ne.symm e)]
     intro ⟨a,b,c⟩
     rcases Nat.lt_or_gt_of_ne e with e | e
     · have:q*aB.n α+aB.n α≤i*aB.n α:=by rw[←Nat.succ_mul];exact Nat.mul_le_mul_right _ e
       omega
     · have:i*aB.n α+aB.n α≤q*aB.n α:=by rw[←Nat.succ_mul];exact Nat.mul_le_mul_right _ e
       omega
 · have:l.length*aB.n α≤q*aB.n α:=Nat.mul_le_mul_right _ o!
   rw[if_neg o!,List.getElem?_eq_none o!,List.getElem?_eq_none o!]
theorem uF.at {h0 h:ak} {z:AV} {l:List α} (y:Tidy h) (y0:Tidy h0) (a:Has h0 h) (o:uF h0 h z l) {i:Nat} (hi:i<l.length):
 ∃p,b_ env (some (.slice (aB.e α))) (some z) (some (.int .i64 ((i:Nat):Int)))=some (.ptr p (i*aB.n α))∧
  ∀x:α,(aB.c x).all AV.scalar=true→∃h',eX env h (aB.e α) (.ptr p (i*aB.n α)) (.agg (aB.c x))=some h'∧Tidy h'∧h'.nx=h.nx∧uF h0 h' z (l.set i x)∧Has h0 h':=by
 rcases o with ⟨_,rfl⟩ | ⟨hn,p,op,rfl,hp,hg⟩
 · simp at hi
 · have ix:=oR (E:=env) (i:=p) (o:=0) (c:=l.length) (b:=op) (aB.size (α:=α)) hi
   rw[Nat.zero_add] at ix
   refine ⟨p,ix,fun x hx=>?_⟩
   have hl:=ey aB.len l
   have hb:i*aB.n α+aB.n α≤l.length*aB.n α:=by rw[←Nat.succ_mul];exact Nat.mul_le_mul_right _ hi
   obtain ⟨h',s⟩:=BY (E:=env) (t:=aB.e α) (o:=i*aB.n α) (n:=aB.n α) (v:= .agg (aB.c x)) hg aB.size (aB.len x) o! hx
   have g':=Ed y s hg
   refine ⟨h',s,B1 y s hg,B0 s hg,.inr ⟨by intro e;rw[←List.length_eq_zero_iff,List.length_set] at e;omega,p,op,by rw[List.length_set],hp,?_⟩,fun j w gw=>?_⟩
   · rw[g']
     show some (aK.cells (setFrom (l.flatMap aB.c) (i*aB.n α) (aB.c x)) _ _)=_
     rw[F0 hi]
   · have:=y0 _ _ gw
     exact BZ y s hg o! (a _ _ gw)
end
def jU:Code→List Code
 | .seq a b=>jU a++jU b
 | .cond _ a b=>jU a++jU b
 | .block _ b=>jU b
 | .loop b=>jU b
 | .scope b=>jU b
 | .rangeFunc _ _ a b=>jU a++jU b
 | .region i o d=> [.region i o d]
 | _=> []
section
variable {h:ak} {b:Nat} {pre post:List AV} {L:List Int} {e:TypeId} {ro:Bool} {o t j x:Nat}
def Xx (L:List Int) (d s n:Nat):List Int:=if d+n≤L.length∧s+n≤L.length then L.take d++(L.drop s).take n++L.drop (d+n) else L
theorem OE (L:List Int) (d s n:Nat):(Xx L d s n).length=L.length:=by
 unfold Xx
 split
 · simp only[List.length_append,List.length_take,List.length_drop];omega
 · rfl
theorem Eh {l:List Int} {i:Nat} {x:Int} (h:i<l.length):(l.set i x).g i=x:=by
 rw[List.g,List.getD_eq_getElem?_getD,List.getElem?_set_self h];rfl
theorem Ei {l:List Int} {i j:Nat} (h:i≠j) (x:Int):(l.set i x).g j=l.g j:=by
 rw[List.g,List.g,List.getD_eq_getElem?_getD,List.getD_eq_getElem?_getD,List.getElem?_set_ne h]
theorem yU (l:List Int):(zs .i64 l).all AV.scalar=true:=List.all_eq_true.2 fun x hx=>by
 obtain ⟨y,_,rfl⟩:=List.mem_map.1 hx
 rfl
theorem kg {h:ak} {b:Nat} (y:Tidy h) (n:h.nx≤b):h.get b=none:=by
 cases e:h.get b with
 | none=>rfl
 | some o=>have:=y _ _ e;omega
theorem RK {h0 h h':ak} {b:Nat} {o:aK} (c:VI h h' b o) (a:Has h0 h) (n:h0.get b=none):Has h0 h':=fun i x g=>c.2.2 i x (fun e=>by subst e;rw[n] at g;cases g) (a i x g)
theorem lW {h:ak} {b:Nat} {o:aK} (y:Tidy h) (g:h.get b=some o):∃hw,Tidy hw∧hw.nx=h.nx∧hw.get b=none∧Has hw h∧∀i,i≠b→hw.get i=h.get i:=
 ⟨h.put b none,fun i x q=>by
  by_cases e:i=b
  · subst e;rw[ak.di] at q;cases q
  · rw[ak.bR (Ne.symm e)] at q;exact y i x q,rfl,ak.di _,fun i x q=>by
  by_cases e:i=b
  · subst e;rw[ak.di] at q;cases q
  · rw[ak.bR (Ne.symm e)] at q;exact q,fun i e=>ak.bR (Ne.symm e) _⟩
theorem fv {h0 h hw:ak} {b:Nat} (a:Has h0 h) (n:h0.get b=none) (k:∀i,i≠b→hw.get i=h.get i):Has h0 hw:=fun i x g=>(k i (fun e=>by subst e;rw[n] at g;cases g)).trans (a i x g)
end
structure Mi where l:List (Int×Int)
instance:Inhabited Mi:=⟨⟨[]⟩⟩
def Mi.length (_:Mi):Nat:=0
theorem mR (x:Mi):x.length=0:=rfl
theorem Ze {x y:Mi} {n:Nat} (h:x.length=n):y.length=n:=h
theorem l! {p:Prop} (h:p:=by first | omega | (simp only[List.length_set,List.length_replicate,OE]<;>omega) | exact mR _ | exact Ze (by assumption)):p:=h
end
end Go.Proofs.aE
