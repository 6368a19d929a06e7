import Derived.Test.YtemlmndojncekaaGreatA7
import Derived.Test.YtemlmndojncekaaGreatEnv
namespace Go.Proofs.aQ
open Go.Proofs Ab
noncomputable section
set_option maxRecDepth 100000
set_option maxHeartbeats 4000000
set_option linter.unusedVariables false
set_option linter.unusedSimpArgs false
theorem al4 {b:Bool} (h:b=true):(!b)=false:=by rw[h];rfl
theorem al5 {b:Bool} (h:b=false):(!b)=true:=by rw[h];rfl
theorem vE (t:TypeId) (c d:Bool) (k:IntKind) (a b:Int):gQ env .eql t c d (some (.int k a)) (some (.int k b))=some (.bool (decide (a=b))):=acN t c d k a b
theorem kS (t:TypeId) (c d:Bool) (k:IntKind) (a b:Int):gQ env .neq t c d (some (.int k a)) (some (.int k b))=some (.bool (!decide (a=b))):=acO t c d k a b
theorem bL (t:TypeId) (c d:Bool) (k:IntKind) (a b:Int):gQ env .lss t c d (some (.int k a)) (some (.int k b))=some (.bool (decide (a<b))):=acP t c d k a b
theorem vF (t:TypeId) (c d:Bool) (k:IntKind) (a b:Int):gQ env .leq t c d (some (.int k a)) (some (.int k b))=some (.bool (decide (a≤b))):=acQ t c d k a b
theorem dw (t:TypeId) (c d:Bool) (k:IntKind) (a b:Int):gQ env .gtr t c d (some (.int k a)) (some (.int k b))=some (.bool (decide (b<a))):=acR t c d k a b
theorem rv (t:TypeId) (c d:Bool) (k:IntKind) (a b:Int):gQ env .geq t c d (some (.int k a)) (some (.int k b))=some (.bool (decide (b≤a))):=acS t c d k a b
theorem Vv (t:TypeId) (c d:Bool) (a b:List UInt8):gQ env .eql t c d (some (.str a)) (some (.str b))=some (.bool (decide (a=b))):=YM t c d a b
theorem qG (t:TypeId) (c d:Bool) {k:IntKind} {a b z:Int} (h:k.wrap (a+b)=z):gQ env .add t c d (some (.int k a)) (some (.int k b))=some (.int k z):=Gq h
theorem CO (t:TypeId) (c d:Bool) {k:IntKind} {a b z:Int} (h:k.wrap (a - b)=z):gQ env .sub t c d (some (.int k a)) (some (.int k b))=some (.int k z):=Gr h
theorem aO (t:TypeId) (o:Nat) (v:AV) {h:aC} {i:Nat} {cs:List AV} {e:TypeId} {ro:Bool} (hg:h.get i=some (.cells cs e ro)) (hv:jW env t cs o=some v):bh env h t (.ptr i o)=some v:=Gs hg hv
theorem JG {a:Nat} (h:a<9223372036854775808):IntKind.i64.wrap (a:Int)=(a:Int):=wrap_i64 (by omega) (by omega)
theorem fi (t:TypeId) (c d:Bool) (a b:Nat) (h:a+b<9223372036854775808):gQ env .add t c d (some (.int .i64 (a:Int))) (some (.int .i64 (b:Int)))=some (.int .i64 ((a+b:Nat):Int)):=Gq (by rw[show (a:Int)+b=((a+b:Nat):Int) by omega];exact JG h)
theorem ajl (t:TypeId) (c d:Bool) (a b:Nat) (h:b≤a) (ha:a<9223372036854775808):gQ env .sub t c d (some (.int .i64 (a:Int))) (some (.int .i64 (b:Int)))=some (.int .i64 ((a - b:Nat):Int)):=Gr (by rw[show (a:Int) - b=((a - b:Nat):Int) by omega];exact JG (by omega))
theorem pk (d:Nat) (c:Code) (ts:List AV) (h:aC) (e:my) (h':aC) {al:List pV} {ps:List Prop} (k:Pk al [] ps) (hr:run env (cN d) 300 c ⟨ts,h,[],.no⟩ al []= .at e ⟨Tv (run env (cN d) 300 c ⟨ts,h,[],.no⟩ al []),h',[],.no⟩ [] ps):Ev env (cN d) c ⟨ts,h,[],.no⟩ e ⟨Tv (run env (cN d) 300 c ⟨ts,h,[],.no⟩ al []),h',[],.no⟩:=aji k hr
theorem jE {h:aC} (y:Tidy h) (o:aM):∃h',h.new o=some h'∧Tidy h'∧h'.nx=h.nx+1∧h'.get h.nx=some o∧Has h h':=by
 obtain ⟨h',n⟩:=zN (h:=h) o
 exact ⟨h',n,nk y n,zM n,uj n,yi y n⟩
theorem ajm {h:aC} {t e:TypeId} {i o n:Nat} {cs N:List AV} {v:AV} (y:Tidy h) (gg:h.get i=some (.cells cs e false)) (hs:ca env t=some n) (hv:v.cells.length=n) (hl:Nat.ble (o+n) cs.length=true) (hN:setFrom cs o v.cells=N) (hk:v.cells.all AV.scalar=true):∃h',dV env h t (.ptr i o) v=some h'∧Tidy h'∧h'.nx=h.nx∧h'.get i=some (.cells N e false)∧Kept i h h':=by
 obtain ⟨h',s⟩:=wE (E:=env) gg hs hv (Nat.le_of_ble_eq_true hl) hk
 exact ⟨h',s,Q0 y s gg,Od s gg,by rw[←hN];exact Vs y s gg,Kept.store y s gg⟩
theorem n5 {h:aC} {t e:TypeId} {i n:Nat} {cs L:List AV} (y:Tidy h) (gg:h.get i=some (.cells cs e false)) (hs:ca env t=some n) (hv:L.length=n) (hc:cs.length=n) (hk:L.all AV.scalar=true):∃h',dV env h t (.ptr i 0) (.agg L)=some h'∧Tidy h'∧h'.nx=h.nx∧h'.get i=some (.cells L e false)∧Kept i h h':=
 ajm y gg hs hv (by rw[hc,Nat.zero_add,Nat.ble_eq];exact Nat.le_refl n) (by
  show setFrom cs 0 L=L
  apply List.ext_getElem?
  intro k
  rw[mS]
  split
  · rfl
  · rw[List.getElem?_eq_none (by omega),List.getElem?_eq_none (by omega)]) hk
structure Rk (f:List pV→List pV) (ps:List Prop):Prop where
 ok:nZ ps
section
variable {f:List pV→List pV} {ps:List Prop}
end
section
variable {f:List pV→List pV} {ps:List Prop}
end
theorem k! {p:Prop} (h:p:=by kernel_rfl):p:=h
theorem o! {p:Prop} (h:p:=by omega):p:=h
theorem nbf {b:Bool} (h:(!b)=false):b=true:=by cases b;cases h;rfl
theorem d! {p:Prop} (h:p:=by first | assumption | exact al4 (by assumption) | exact al5 (by assumption) | exact nbf (by assumption) | exact nbt (by assumption) | exact dT (by omega) | exact dF (by omega) | exact nT (by omega) | exact nF (by omega)):p:=h
@[reducible] def _root_.Zi (x:Int):AV:= .int .i64 x
@[reducible] def _root_.Zn (n:Nat):AV:= .int .i64 (n:Int)
@[reducible] def _root_.Pt (b:Nat):AV:= .ptr b 0
theorem _root_.sP {c:Bool} (x y:Bool) (h:c=true):DX (some (.bool c)) (some (.bool x)) (some (.bool y))=some (.bool x):=YO h
theorem _root_.pcf {c:Bool} (x y:Bool) (h:c=false):DX (some (.bool c)) (some (.bool x)) (some (.bool y))=some (.bool y):=cf h
theorem _root_.yA {c:Bool} (x:Bool) (h:c=true):DX (some (.bool c)) (some (.bool x)) (some AV.undef)=some (.bool x):=YO h
theorem _root_.yB {c:Bool} (x:Bool) (h:c=false):DX (some (.bool c)) (some AV.undef) (some (.bool x))=some (.bool x):=cf h
section
variable {al:List pV} {p0 ps:List Prop}
theorem BC {u v:Bool} (h:u=v) (k:Pk al ((u=v)::p0) ps):Pk (.b v:: .c::al) p0 ps:=BB h (CC k)
theorem BV {u v:Bool} {l:Option AV} {x:AV} (h:u=v) (e:l=some x) (k:Pk al ((l=some x)::(u=v)::p0) ps):Pk (.b v:: .v x::al) p0 ps:=BB h (VV e k)
theorem BM {u v:Bool} {l:Option AV} {x:AV} (h:u=v) (e:l=some x) (k:Pk al ((l=some x)::(u=v)::p0) ps):Pk (.b v:: .m x::al) p0 ps:=BB h (MM e k)
end
theorem _root_.Go.Ab.Has.dg {h0 h h':aC} {b:Nat} (a:Has h0 h) (k:Kept b h h') (y:Tidy h0) (hb:h0.nx≤b):Has h0 h':=fun i x g=>by
 have:=y i x g
 exact k i x o! (a i x g)
class aR (α:Type) extends Inhabited α where
 c:α→List AV
 n:Nat
 e:TypeId
 len:∀x,(c x).length=n
 ok:aC→α→Prop
 mono:∀{h h':aC} {x:α},Has h h'→ok h x→ok h' x
 size:ca env e=some n
 agg:gq env e=some true
 pos:0<n
@[reducible] def imax (x y:Int):Int:=if y>x then y else x
@[reducible] def aov (x y:Int):Int:=if y<x then y else x
def _root_.List.g {α:Type} [Inhabited α] (l:List α) (i:Nat):α:=l.getD i default
structure aW {α:Type} [aR α] (h:aC) (v:AV) (l:List α):Prop where
 at_:oI env h (aR.e α) (aR.n α) v l.length (l.flatMap aR.c)
 known:v= .aG∨v= .fD∨∃p o m c b,v= .slice p o m c b∧(b=true→0<c)
 oks:∀x∈l,aR.ok h x
theorem gR {α β:Type} {size:Nat} {f:α→List β} (hf:∀x,(f x).length=size) (l:List α):(l.flatMap f).length=l.length*size:=by
 induction l with
 | nil=>simp
 | cons x l ih=>rw[List.flatMap_cons,List.length_append,ih,hf,List.length_cons,Nat.succ_mul];omega
section
variable {α:Type} [aR α] {h:aC} {v:AV} {l:List α}
theorem aW.has {h':aC} (x:aW h v l) (a:Has h h'):aW h' v l:=⟨x.at_.has a,x.known,fun y hy=>aR.mono a (x.oks y hy)⟩
theorem Tw {i:Nat} (hi:i<l.length):l.g i∈l:=by
 rw[List.g,List.getD_eq_getElem?_getD,List.getElem?_eq_getElem hi];exact List.getElem_mem hi
theorem aW.ok (x:aW h v l) {i:Nat} (hi:i<l.length):aR.ok h (l.g i):=x.oks _ (Tw hi)
theorem aW.small (x:aW h v l):l.length<2^60:=x.at_.small
theorem aW.len (x:aW h v l):cb (some (.slice (aR.e α))) (some v)=some (.int .i64 (l.length:Nat)):=x.at_.lens
theorem aW.scalar (x:aW h v l):AV.scalar v=true:=by
 rcases x.known with rfl | rfl | ⟨p,o,m,c,b,rfl,_⟩<;>rfl
theorem wG {β:Type} {size:Nat} {f:α→List β} (hf:∀x,(f x).length=size):∀(l:List α) (i j:Nat) (_:i<l.length),j<size→(l.flatMap f)[i*size+j]? =(f (l.g i))[j]?
 | [],i,j,hi,_=>by cases hi
 | x::l,0,j,_,hj=>by
   rw[List.flatMap_cons,Nat.zero_mul,Nat.zero_add,List.getElem?_append_left (by rw[hf];exact hj)];rfl
 | x::l,i+1,j,hi,hj=>by
   have e:(i+1)*size+j -(f x).length=i*size+j:=by rw[hf,Nat.succ_mul];omega
   rw[List.flatMap_cons,List.getElem?_append_right (by rw[hf,Nat.succ_mul];omega),e,wG hf l i j (by simpa using hi) hj];rfl
theorem aW.elem (x:aW h v l) {i:Nat} (hi:i<l.length):∃p q,bO env (some (.slice (aR.e α))) (some v) (some (.int .i64 ((i:Nat):Int)))=some (.ptr p q):=by
 rcases x.at_.block with h0 | ⟨p,o,m,c,b,C,f,ro,h1,_,h2,h3⟩
 · omega
 · subst h1
   have hm:m=l.length:=by
    have:=x.at_.lens
    rw[kZ] at this
    simp only[Option.some.injEq,AV.int.injEq,true_and] at this
    omega
   exact ⟨p,o+i*aR.n α,qO x.at_.size o!⟩
theorem aW.block (x:aW h v l) {i p q:Nat} (hi:i<l.length) (hx:bO env (some (.slice (aR.e α))) (some v) (some (.int .i64 ((i:Nat):Int)))=some (.ptr p q)):
 ∃C f ro,h.get p=some (.cells C f ro)∧∀j,j<aR.n α→C[q+j]? =(aR.c (l.g i))[j]? :=by
 rcases x.at_.block with h0 | ⟨p',o,m,c,b,C,f,ro,h1,_,h2,h3⟩
 · omega
 · subst h1
   have hm:m=l.length:=by
    have:=x.at_.lens
    rw[kZ] at this
    simp only[Option.some.injEq,AV.int.injEq,true_and] at this
    omega
   rw[qO x.at_.size o!] at hx
   simp only[Option.some.injEq,AV.ptr.injEq] at hx
   obtain ⟨rfl,rfl⟩:=hx
   refine ⟨C,f,ro,h2,fun j hj=>?_⟩
   have e:=wG aR.len l i j hi hj
   have oa:i*aR.n α+j<(l.flatMap aR.c).length:=by
    rw[gR aR.len]
    calc i*aR.n α+j<i*aR.n α+aR.n α:=by omega
     _=(i+1)*aR.n α:=by rw[Nat.succ_mul]
     _≤l.length*aR.n α:=Nat.mul_le_mul_right _ hi
   rw[←e,Nat.add_assoc,h3 _ oa]
theorem aW.load (x:aW h v l) {i p q:Nat} (hi:i<l.length) (hx:bO env (some (.slice (aR.e α))) (some v) (some (.int .i64 ((i:Nat):Int)))=some (.ptr p q)):bh env h (aR.e α) (.ptr p q)=some (.agg (aR.c (l.g i))):=by
 obtain ⟨C,f,ro,h1,h2⟩:=x.block hi hx
 have hl:=aR.len (l.g i)
 have hn:q+aR.n α≤C.length:=by
  have h0:=aR.pos (α:=α)
  have:=h2 (aR.n α - 1) o!
  rw[List.getElem?_eq_getElem (by omega:aR.n α - 1<(aR.c (l.g i)).length)] at this
  have:=(List.getElem?_eq_some_iff.1 this).1
  omega
 simp only[bh,h1,jW,aR.agg,aR.size,hn,if_true]
 congr 2
 apply List.ext_getElem?
 intro j
 by_cases hj:j<aR.n α
 · rw[List.getElem?_take_of_lt hj,List.getElem?_drop,h2 j hj]
 · rw[List.getElem?_eq_none (by rw[List.length_take];omega),List.getElem?_eq_none o!]
theorem aW.part (x:aW h v l) {i p q j:Nat} {t:TypeId} {w:AV} (hi:i<l.length) (hx:bO env (some (.slice (aR.e α))) (some v) (some (.int .i64 ((i:Nat):Int)))=some (.ptr p q)) (ht:gq env t=some false) (hw:(aR.c (l.g i))[j]? =some w):bh env h t (.ptr p (q+j))=some w:=by
 obtain ⟨C,f,ro,h1,h2⟩:=x.block hi hx
 have hj:=(List.getElem?_eq_some_iff.1 hw).1
 rw[aR.len] at hj
 simp only[bh,h1,jW,ht]
 rw[h2 j hj,hw]
theorem aW.pre (x:aW h v l) {t:TypeId} (ht:env.P.underlying t=some (.slice (aR.e α))) {i:Nat} (hi:i<l.length):∃r,fe env t v none (some (.int .i64 ((i:Nat):Int))) none=some r∧aW h r (l.take i):=by
 rcases x.at_.block with h0 | ⟨p,o,m,c,b,C,f,ro,h1,hc,h2,h3⟩
 · omega
 · subst h1
   have hm:m=l.length:=by
    have:=x.at_.lens
    rw[kZ] at this
    simp only[Option.some.injEq,AV.int.injEq,true_and] at this
    omega
   subst hm
   have hb:b=true→0<c:=fun e=>by omega
   refine ⟨.slice p o i c b,?_,⟨⟨x.at_.size,gR aR.len _,by have:=x.small;simp;omega,?_,.inr ⟨p,o,i,c,b,C,f,ro,rfl,by omega,h2,fun j hj=>?_⟩⟩,.inr (.inr ⟨_,_,_,_,_,rfl,hb⟩),fun y hy=>x.oks y (List.mem_of_mem_take hy)⟩⟩
   · simp only[fe,ht,x.at_.size,hc,if_true,sO (len:=l.length) (cap:=c) none (some (.int .i64 ((i:Nat):Int))) (.inr ⟨rfl,rfl⟩) (.inl rfl) (Nat.zero_le i) o!]
     rw[if_neg o!]
     simp
   · rw[List.length_take,Nat.min_eq_left o!];exact kZ _ _ _ _ _ _
   · rw[gR aR.len,List.length_take,Nat.min_eq_left o!] at hj
     have oa:j<(l.flatMap aR.c).length:=by
      rw[gR aR.len];exact Nat.lt_of_lt_of_le hj (Nat.mul_le_mul_right _ o!)
     rw[h3 j oa]
     have e:l=l.take i++l.drop i:=(List.take_append_drop i l).symm
     conv=>lhs;rw[e,List.flatMap_append]
     rw[List.getElem?_append_left]
     rw[gR aR.len,List.length_take,Nat.min_eq_left o!];exact hj
def aF {ρ:Type} (call:bu) (b:Code) (s:St) (ex:my) (hh:aC) (tn:(Nat→AV)→List AV) (tr:ρ→(Nat→AV)→List AV):Option ρ→Prop
 | none=>∃y hk,Ev env call (.loop b) s ex ⟨tn y,hk,[],.no⟩∧bE hh hk
 | some r=>∃y hk,Ev env call (.loop b) s .ret ⟨tr r y,hk,[],.no⟩∧bE hh hk
section
variable {ρ:Type} {call:bu} {b:Code} {s:St} {ex:my} {hh hk:aC} {tn:(Nat→AV)→List AV} {tr:ρ→(Nat→AV)→List AV}
theorem aF.n {o:Option ρ} (e:o=none) (x:aF call b s ex hh tn tr o):∃y hk,Ev env call (.loop b) s ex ⟨tn y,hk,[],.no⟩∧bE hh hk:=by subst e;exact x
theorem aF.r {o:Option ρ} {r:ρ} (e:o=some r) (x:aF call b s ex hh tn tr o):∃y hk,Ev env call (.loop b) s .ret ⟨tr r y,hk,[],.no⟩∧bE hh hk:=by subst e;exact x
theorem aF.out {i:Nat} {L:List AV} {o:Option ρ} (e:o=none) (ev:Ev env call b s (.exit i) ⟨L,hk,[],.no⟩) (G:bE hh hk) (hl:L=tn fun k=>L.getD k AV.undef):aF call b s (.exit i) hh tn tr o:=by
 subst e
 obtain ⟨y,q⟩:=kz (Ev.out ev) hl
 exact ⟨y,hk,q,G⟩
theorem aF.ret {L:List AV} {o:Option ρ} (r:ρ) (e:o=some r) (ev:Ev env call b s .ret ⟨L,hk,[],.no⟩) (G:bE hh hk) (hl:L=tr r fun k=>L.getD k AV.undef):aF call b s ex hh tn tr o:=by
 subst e
 obtain ⟨y,q⟩:=kz (tmpl:=tr r) (Ev.ret ev) hl
 exact ⟨y,hk,q,G⟩
theorem aF.round {L:List AV} {o o':Option ρ} (e:o=o') (ev:Ev env call b s .normal ⟨L,hk,[],.no⟩) (G:bE hh hk) (Tx:(Nat→AV)→List AV) (hl:L=Tx fun k=>L.getD k AV.undef) (ih:∀x,aF call b ⟨Tx x,hk,[],.no⟩ ex hk tn tr o'):aF call b s ex hh tn tr o:=by
 subst e
 have q:=ih fun k=>L.getD k AV.undef
 rw[←hl] at q
 cases o with
 | none=>obtain ⟨y,h2,x,g⟩:=q;exact ⟨y,h2,Ev.loop ev x,G.trans g⟩
 | some r=>obtain ⟨y,h2,x,g⟩:=q;exact ⟨y,h2,Ev.loop ev x,G.trans g⟩
end
section
variable {ρ:Type} {call:bu} {b:Code} {s:St} {ex:my} {h hh hk:aC} {tn:(Nat→AV)→List AV} {tr:ρ→(Nat→AV)→List AV} {pb:Nat} {cl:ρ→aM}
end
def cE {σ:Type} (call:bu) (b:Code) (s:St) (ex:my) (hh:aC) (tn:σ→(Nat→AV)→List AV) (Q:σ→Prop) (r:σ):Prop:=∃y hk,Ev env call (.loop b) s ex ⟨tn r y,hk,[],.no⟩∧bE hh hk∧Q r
section
variable {σ:Type} {call:bu} {b:Code} {s:St} {ex:my} {hh hk:aC} {tn:σ→(Nat→AV)→List AV} {Q:σ→Prop}
theorem cE.out {i:Nat} {L:List AV} {o:σ} (r:σ) (e:o=r) (ev:Ev env call b s (.exit i) ⟨L,hk,[],.no⟩) (G:bE hh hk) (iq:Q r) (hl:L=tn r fun k=>L.getD k AV.undef):cE call b s (.exit i) hh tn Q o:=by
 subst e
 obtain ⟨y,q⟩:=kz (tmpl:=tn o) (Ev.out ev) hl
 exact ⟨y,hk,q,G,iq⟩
theorem cE.round {L:List AV} {o o':σ} (e:o=o') (ev:Ev env call b s .normal ⟨L,hk,[],.no⟩) (G:bE hh hk) (Tx:(Nat→AV)→List AV) (hl:L=Tx fun k=>L.getD k AV.undef) (ih:∀x,cE call b ⟨Tx x,hk,[],.no⟩ ex hk tn Q o'):cE call b s ex hh tn Q o:=by
 subst e
 have q:=ih fun k=>L.getD k AV.undef
 rw[←hl] at q
 obtain ⟨y,h2,x,g,i⟩:=q;exact ⟨y,h2,Ev.loop ev x,G.trans g,i⟩
end
theorem aW.same {α:Type} [aR α] {h:aC} {v:AV} {l:List α} (x:aW h v l) (n:Nat):AV.same (n+1) v v=true:=by
 rcases x.known with rfl | rfl | ⟨p,o,m,c,b,rfl,_⟩
 · rfl
 · rfl
 · exact jv n p o m c b
def acY (cs:List AV):Prop:=∀n,eD (AV.same (n+1)) cs cs=true
theorem P6:acY []:=fun _=>rfl
theorem rH {x:AV} {cs:List AV} (hx:∀n,AV.same (n+1) x x=true) (hc:acY cs):acY (x::cs):=fun n=>by
 show (AV.same (n+1) x x&&eD (AV.same (n+1)) cs cs)=true
 rw[hx,hc];rfl
theorem hT (n:Nat) {cs:List AV} (h:acY cs):AV.same (n+2) (.agg cs) (.agg cs)=true:=h n
theorem pW {s:List UInt8} {j:Nat} (hj:j<s.length):zK env (some .string) (some (.str s)) (some (.int .i64 ((j:Nat):Int)))=some (.int .u8 (((s.g j).toNat:Nat):Int)):=by
 refine YN ?_
 rw[List.g,List.getD_eq_getElem?_getD,List.getElem?_eq_getElem hj];rfl
end
theorem Oi {h:aC} {e s xt:TypeId} {xd:TypeDesc} {tys:Array TypeId} {bytes:Nat} {z x:AV} {M:List AV} (h0:tys[0]? =some s) (h1:tys[1]? =some xt) (hs:env.P.underlying s=some (.slice e)) (hx:env.P.underlying xt=some xd) (hi:qu xd=false) (YV:ca env e=some 1) (hb:kH env e=some bytes) (Ib:iu env e=some z) (hz:z.cells.length=1) (h8:bytes≤63) (hlen:yw x=some M.length) (hf:ic h 1 M.length x=some M) (FP:M.all AV.scalar=true) (hm:M≠ []) (hl:M.length≤1073741824):
 ∃h',du env h tys .aG x=some (.slice h.nx 0 M.length M.length true,h')∧h.new (.cells M e false)=some h':=by
 obtain ⟨h',n⟩:=zN (h:=h) (.cells M e false)
 refine ⟨h',?_,n⟩
 have hn:¬M.length=0:=fun e=>hm (List.length_eq_zero_iff.1 e)
 have Qv:(4*M.length+4096)*(bytes+1)≤1099511627776:=Nat.le_trans (Nat.mul_le_mul (show 4*M.length+4096≤17179869184 by omega) (show bytes+1≤64 by omega)) (by decide)
 simp only[du,h0,h1,hs,hx,hi,YV,hb,hlen,hf,Ib,hz,FP,Nat.mul_one,hn,Qv,n,if_true,if_false,and_self,Bool.false_eq_true]
theorem Oj {h:aC} {e s xt:TypeId} {xd:TypeDesc} {tys:Array TypeId} {bytes p:Nat} {op:Bool} {z x:AV} {L M:List AV} (y:Tidy h) (h0:tys[0]? =some s) (h1:tys[1]? =some xt) (hs:env.P.underlying s=some (.slice e)) (hx:env.P.underlying xt=some xd) (hi:qu xd=false) (YV:ca env e=some 1) (hb:kH env e=some bytes) (Ib:iu env e=some z) (hz:z.cells.length=1) (h8:bytes≤63) (hlen:yw x=some M.length) (hf:ic h 1 M.length x=some M) (FP:M.all AV.scalar=true) {n:Nat} (hn:L.length=n) (hm:M≠ []) (hl:n+M.length≤1073741824)
 (hg:h.get p=some (.cells L e false)):
 ∃h',du env h tys (.slice p 0 n n op) x=some (.slice h.nx 0 (n+M.length) (n+M.length) true,h')∧Tidy h'∧h'.nx=h.nx+1∧Kept p h h'∧h'.get h.nx=some (.cells (L++M) e false):=by
 have hp:=y _ _ hg
 subst hn
 have ec:(L.drop 0).take (L.length*1)++M=L++M:=by
  rw[List.drop_zero,Nat.mul_one,List.take_of_length_le (Nat.le_refl _)]
 have y2:Tidy (if op then h.put p none else h):=by
  cases op with
  | false=>exact y
  | true=>
    intro i x g
    show i<h.nx
    by_cases hi:i=p
    · subst hi;exact hp
    · rw[if_pos rfl,aC.cu (Ne.symm hi)] at g;exact y i x g
 have n2:(if op then h.put p none else h).nx=h.nx:=by cases op<;>rfl
 obtain ⟨h',n⟩:=zN (h:=if op then h.put p none else h) (.cells (L++M) e false)
 refine ⟨h',?_,nk y2 n,by rw[zM n,n2],fun i x hi g=>?_,by rw[←n2];exact uj n⟩
 · have hn:0<M.length:=List.length_pos_iff.2 hm
   have Qv:(4*(L.length+M.length)+4096)*(bytes+1)≤1099511627776:=Nat.le_trans (Nat.mul_le_mul (show 4*(L.length+M.length)+4096≤17179869184 by omega) (show bytes+1≤64 by omega)) (by decide)
   have hc:¬L.length+M.length≤L.length:=by omega
   simp only[du,h0,h1,hs,hx,hi,YV,hb,hlen,hf,Ib,hz,FP,hg,hc,if_true,if_false,Bool.false_eq_true,Nat.mul_one]
   rw[if_pos ⟨trivial,trivial,trivial⟩,if_pos ⟨Qv,by omega,fun _=>⟨trivial,by omega⟩⟩]
   rw[show List.take L.length (List.drop 0 L)=L by rw[List.drop_zero,List.take_length],n]
 · refine wD y2 n ?_
   cases op with
   | false=>exact g
   | true=>rw[if_pos rfl,aC.cu (Ne.symm hi)];exact g
def hU (e:TypeId) (h0 h:aC) (z:AV) (L:List AV):Prop:=(z= .aG∧L=[])∨(L≠ []∧∃p op,z= .slice p 0 L.length L.length op∧h0.nx≤p∧h.get p=some (.cells L e false))
theorem hU.has {e:TypeId} {h0 h h':aC} {z:AV} {L:List AV} (o:hU e h0 h z L) (a:Has h h'):hU e h0 h' z L:=o.imp id fun ⟨hn,p,op,e,h1,g⟩=>⟨hn,p,op,e,h1,a _ _ g⟩
theorem Ty {i:Nat} {b:Bool} {v:AV}:yw (.slice i 0 1 1 b)=some [v].length:=rfl
theorem JH {h:aC} {i:Nat} {b:Bool} {v:AV} {e:TypeId} {ro:Bool} (hg:h.get i=some (.cells [v] e ro)):ic h 1 [v].length (.slice i 0 1 1 b)=some [v]:=by
 simp [ic,hg]
theorem hU.le {e:TypeId} {h0 h1 h:aC} {z:AV} {L:List AV} (o:hU e h1 h z L) (hn:h0.nx≤h1.nx):hU e h0 h z L:=o.imp id fun ⟨f',p,op,e,h1,g⟩=>⟨f',p,op,e,by omega,g⟩
def zs (k:IntKind) (l:List Int):List AV:=l.map (AV.int k)
theorem fO (k:IntKind) (l:List Int):(zs k l).length=l.length:=by simp [zs]
theorem acZ (k:IntKind) (l:List Int) (x:Int):zs k (l++[x])=zs k l++[AV.int k x]:=by simp [zs]
theorem Li (k:IntKind) (l:List Int) {i:Nat} (hi:i<l.length):(zs k l)[i]? =some (.int k (l.g i)):=by
 rw[zs,List.getElem?_map,List.getElem?_eq_getElem hi,List.g,List.getD_eq_getElem?_getD,List.getElem?_eq_getElem hi];rfl
structure b8 (h:aC) (k:IntKind) (e:TypeId) (v:AV) (l:List Int):Prop where
 at_:oI env h e 1 v l.length (zs k l)
 agg:gq env e=some false
 known:v= .aG∨v= .fD∨∃p o m c b,v= .slice p o m c b
theorem b8.has {k:IntKind} {h h':aC} {e:TypeId} {v:AV} {l:List Int} (x:b8 h k e v l) (a:Has h h'):b8 h' k e v l:=⟨x.at_.has a,x.agg,x.known⟩
theorem b8.scalar {k:IntKind} {h:aC} {e:TypeId} {v:AV} {l:List Int} (x:b8 h k e v l):AV.scalar v=true:=by
 rcases x.known with rfl | rfl | ⟨p,o,m,c,b,rfl⟩<;>rfl
theorem b8.same {k:IntKind} {h:aC} {e:TypeId} {v:AV} {l:List Int} (x:b8 h k e v l) (n:Nat):AV.same (n+1) v v=true:=by
 rcases x.known with rfl | rfl | ⟨p,o,m,c,b,rfl⟩
 · rfl
 · rfl
 · exact jv n p o m c b
theorem b8.Tz {k:IntKind} {h:aC} {e:TypeId} {v:AV} {l:List Int} {m:Nat} (x:b8 h k e v l) (e1:AV.map m=v):False:=by
 rcases x.known with rfl | rfl | ⟨p,o,n,c,b,rfl⟩<;>cases e1
theorem b8.small {k:IntKind} {h:aC} {e:TypeId} {v:AV} {l:List Int} (x:b8 h k e v l):l.length<2^60:=x.at_.small
theorem b8.len {k:IntKind} {h:aC} {e:TypeId} {v:AV} {l:List Int} (x:b8 h k e v l):cb (some (.slice e)) (some v)=some (.int .i64 (l.length:Nat)):=x.at_.lens
theorem b8.elem {k:IntKind} {h:aC} {e:TypeId} {v:AV} {l:List Int} (x:b8 h k e v l) {i:Nat} (hi:i<l.length):∃p q,bO env (some (.slice e)) (some v) (some (.int .i64 ((i:Nat):Int)))=some (.ptr p q)∧bh env h e (.ptr p q)=some (.int k (l.g i)):=x.at_.elem x.agg (Li k l hi)
theorem b8.load {k:IntKind} {h:aC} {e:TypeId} {v:AV} {l:List Int} (x:b8 h k e v l) {i p q:Nat} (hi:i<l.length) (hx:bO env (some (.slice e)) (some v) (some (.int .i64 ((i:Nat):Int)))=some (.ptr p q)):bh env h e (.ptr p q)=some (.int k (l.g i)):=by
 obtain ⟨p',q',h1,h2⟩:=x.elem hi
 rw[hx] at h1
 simp only[Option.some.injEq,AV.ptr.injEq] at h1
 obtain ⟨rfl,rfl⟩:=h1
 exact h2
theorem b8.nil {k:IntKind} {h:aC} {e:TypeId} (hs:ca env e=some 1) (ha:gq env e=some false):b8 h k e .aG []:=⟨⟨hs,rfl,by decide,rfl,.inl rfl⟩,ha,.inl rfl⟩
theorem hU.zs {k:IntKind} {e:TypeId} {h0 h:aC} {z:AV} {l:List Int} (o:hU e h0 h z (aQ.zs k l)) (hl:l.length<2^60) (hs:ca env e=some 1) (ha:gq env e=some false):b8 h k e z l:=by
 rcases o with ⟨rfl,e0⟩ | ⟨hn,p,op,rfl,_,hg⟩
 · have:l=[]:=List.length_eq_zero_iff.1 (by have:=congrArg List.length e0;rwa [fO] at this)
   subst this
   exact b8.nil hs ha
 · rw[fO]
   exact ⟨⟨hs,by rw[fO];omega,hl,rfl,.inr ⟨p,0,_,_,op,_,_,_,rfl,Nat.le_refl _,hg,fun j _=>by rw[Nat.zero_add]⟩⟩,ha,.inr (.inr ⟨_,_,_,_,_,rfl⟩)⟩
theorem hU.YW {k:IntKind} {e:TypeId} {h0 h:aC} {z:AV} {l:List Int} {n:Nat} (o:hU e h0 h z (aQ.zs k l)) (v:AV.within h0.nx (n+1) z=true) (hs:ca env e=some 1) (ha:gq env e=some false):b8 h0 k e z l:=by
 rcases o with ⟨rfl,e0⟩ | ⟨hn,p,op,rfl,hp,hg⟩
 · have:l=[]:=List.length_eq_zero_iff.1 (by have:=congrArg List.length e0;rwa [fO] at this)
   subst this
   exact b8.nil hs ha
 · have:=of_decide_eq_true (show decide (p<h0.nx)=true from v)
   omega
theorem TA {nx:Nat} {z:AV} {cs:List AV} (h:AV.within nx 20 (.tuple (z::cs))=true):AV.within nx (18+1) z=true:=by
 simp only[AV.within,List.all_cons,Bool.and_eq_true] at h
 exact h.1
def TB {σ:Type} (call:bu) (b:Code) (s:St) (ex:my) (h:aC) (e:TypeId) (tn:σ→AV→(Nat→AV)→List AV) (own:σ→List AV) (N:Nat) (r:σ):Prop:=∃z y hk,Ev env call (.loop b) s ex ⟨tn r z y,hk,[],.no⟩∧bE h hk∧hU e h hk z (own r)∧(own r).length≤N
section
variable {σ:Type} {call:bu} {b:Code} {s:St} {ex:my} {h hk:aC} {e:TypeId} {tn:σ→AV→(Nat→AV)→List AV} {own:σ→List AV} {N:Nat}
theorem TB.out {i:Nat} {L:List AV} {o:σ} (r:σ) (z:AV) (e1:o=r) (ev:Ev env call b s (.exit i) ⟨L,hk,[],.no⟩) (G:bE h hk) (oz:hU e h hk z (own r)) (ln:(own r).length≤N) (hl:L=tn r z fun k=>L.getD k AV.undef):TB call b s (.exit i) h e tn own N o:=by
 subst e1
 obtain ⟨y,q⟩:=kz (tmpl:=tn o z) (Ev.out ev) hl
 exact ⟨z,y,hk,q,G,oz,ln⟩
end
def rX {α:Type} [aR α] (h0 h:aC) (z:AV) (l:List α):Prop:=
 ((z= .aG∨∃p,z= .slice p 0 0 0 false∧h0.nx≤p∧h.get p=some (.cells [] (aR.e α) false))∧l=[])∨
 (l≠ []∧∃p op,z= .slice p 0 l.length l.length op∧h0.nx≤p∧h.get p=some (.cells (l.flatMap aR.c) (aR.e α) false))
def aeL (z:AV) (i:Nat):Prop:=∀o n c b,z≠ .slice i o n c b
section
variable {α:Type} [aR α] {h0 h h':aC} {z:AV} {l m:List α}
theorem rX.has (o:rX h0 h z l) (a:Has h h'):rX h0 h' z l:=by
 rcases o with ⟨rfl | ⟨p,rfl,h1,h2⟩,rfl⟩ | ⟨hn,p,op,e,h1,g⟩
 · exact .inl ⟨.inl rfl,rfl⟩
 · exact .inl ⟨.inr ⟨p,rfl,h1,a _ _ h2⟩,rfl⟩
 · exact .inr ⟨hn,p,op,e,h1,a _ _ g⟩
theorem rX.ajo {s xt:TypeId} {tys:Array TypeId} {bytes N:Nat} {z0 x:AV} (y:Tidy h) (y0:Tidy h0) (a:Has h0 h) (hle:h0.nx≤h.nx) (o:rX h0 h z l) (hlen:yw x=some m.length) (hf:ic h (aR.n α) m.length x=some (m.flatMap aR.c)) (FP:(m.flatMap aR.c).all AV.scalar=true) (hl:l.length+m.length≤N)
 (t0:tys[0]? =some s) (t1:tys[1]? =some xt) (hs:env.P.underlying s=some (.slice (aR.e α))) (hx:env.P.underlying xt=some (.slice (aR.e α))) (hb:kH env (aR.e α)=some bytes) (Ib:iu env (aR.e α)=some z0) (hz:z0.cells.length=aR.n α) (big:∀k,k≤N→(4*k+4096)*(bytes+1)≤1099511627776):
 ∃z' h',du env h tys z x=some (z',h')∧Tidy h'∧h.nx≤h'.nx∧Has h0 h'∧rX h0 h' z' (l++m)∧∀i w,aeL z i→h.get i=some w→h'.get i=some w:=by
 have Ok:=gR aR.len m
 have hi:qu (.slice (aR.e α))=false:=rfl
 have TC:∀{p:Nat} {ob:aM},h.get p=some ob→Tidy (h.put p (some ob))∧Has h0 (h.put p (some ob))∧(∀i w,h.get i=some w→(h.put p (some ob)).get i=some w):=fun {p ob} g=>by
  have hg:∀i,(h.put p (some ob)).get i=h.get i:=fun i=>by
   by_cases e:i=p
   · subst e;rw[aC.dP,g]
   · rw[aC.cu (Ne.symm e)]
  exact ⟨fun i w q=>y i w (by rw[←hg];exact q),fun i w q=>by rw[hg];exact a i w q,fun i w q=>by rw[hg];exact q⟩
 have ajp:m≠ []→∃h',h.new (.cells (m.flatMap aR.c) (aR.e α) false)=some h'∧Tidy h'∧h.nx≤h'.nx∧Has h0 h'∧rX h0 h' (.slice h.nx 0 m.length m.length true) m∧∀i w,h.get i=some w→h'.get i=some w:=fun hm=>by
  obtain ⟨h',n⟩:=zN (h:=h) (.cells (m.flatMap aR.c) (aR.e α) false)
  have:=zM n
  exact ⟨h',n,nk y n,by omega,a.trans (yi y n),.inr ⟨hm,h.nx,true,rfl,hle,uj n⟩,fun i w g=>wD y n g⟩
 rcases o with ⟨rfl | ⟨p,rfl,hp,hg⟩,rfl⟩ | ⟨hn,p,op,rfl,hp,hg⟩
 · rw[List.nil_append]
   by_cases hm:m=[]
   · subst hm
     simp only[List.length_nil,List.flatMap_nil,Nat.zero_mul] at hlen hf FP Ok
     refine ⟨.aG,h,?_,y,Nat.le_refl _,a,.inl ⟨.inl rfl,rfl⟩,fun _ _ _ g=>g⟩
     simp only[du,t0,t1,hs,hx,hi,aR.size,hb,hlen,hf,Ib,hz,FP,Ok,if_true,if_false,and_self,List.length_nil,Bool.false_eq_true,Nat.zero_mul]
   · obtain ⟨h',n,q1,q2,q3,q4,q5⟩:=ajp hm
     have WT:¬m.length=0:=fun e=>hm (List.length_eq_zero_iff.1 e)
     refine ⟨_,h',?_,q1,q2,q3,q4,fun i w _ g=>q5 i w g⟩
     simp only[du,t0,t1,hs,hx,hi,aR.size,hb,hlen,hf,Ib,hz,FP,Ok,WT,big m.length o!,n,if_true,if_false,and_self,Bool.false_eq_true]
 · rw[List.nil_append]
   by_cases hm:m=[]
   · subst hm
     simp only[List.length_nil,List.flatMap_nil,Nat.zero_mul] at hlen hf FP Ok
     obtain ⟨q1,q2,q3⟩:=TC hg
     refine ⟨_,_,?_,q1,Nat.le_refl _,q2,.inl ⟨.inr ⟨p,rfl,hp,q3 _ _ hg⟩,rfl⟩,fun i w _ g=>q3 i w g⟩
     simp only[du,t0,t1,hs,hx,hi,aR.size,hb,hlen,hf,Ib,hz,FP,Ok,hg,if_true,if_false,and_self,List.length_nil,Bool.false_eq_true,Nat.zero_mul,Nat.add_zero,Nat.le_refl,List.flatMap_nil,setFrom]
   · obtain ⟨h',n,q1,q2,q3,q4,q5⟩:=ajp hm
     have WT:¬m.length≤0:=fun e=>hm (List.length_eq_zero_iff.1 o!)
     refine ⟨_,h',?_,q1,q2,q3,q4,fun i w _ g=>q5 i w g⟩
     simp only[du,t0,t1,hs,hx,hi,aR.size,hb,hlen,hf,Ib,hz,FP,Ok,hg,WT,if_true,if_false,and_self,Bool.false_eq_true,Nat.zero_mul,Nat.add_zero,Nat.zero_add,List.length_nil,Nat.le_refl]
     rw[if_pos ⟨big m.length o!,trivial,fun e=>e.elim⟩]
     simp only[List.drop_nil,List.take_nil,List.nil_append,n]
 · have hlp:0<l.length:=List.length_pos_iff.2 hn
   have hpx:=y _ _ hg
   have hcl:=gR aR.len l
   by_cases hm:m=[]
   · subst hm
     simp only[List.length_nil,List.flatMap_nil,Nat.zero_mul] at hlen hf FP Ok
     obtain ⟨q1,q2,q3⟩:=TC hg
     rw[List.append_nil]
     refine ⟨_,_,?_,q1,Nat.le_refl _,q2,.inr ⟨hn,p,op,rfl,hp,q3 _ _ hg⟩,fun i w _ g=>q3 i w g⟩
     simp only[du,t0,t1,hs,hx,hi,aR.size,hb,hlen,hf,Ib,hz,FP,Ok,hg,hcl,if_true,if_false,and_self,List.length_nil,Bool.false_eq_true,Nat.zero_mul,Nat.add_zero,Nat.zero_add,Nat.le_refl,List.flatMap_nil,setFrom]
   · have hm0:0<m.length:=List.length_pos_iff.2 hm
     have y2:Tidy (if op then h.put p none else h):=by
      cases op with
      | false=>exact y
      | true=>
        intro i x g
        show i<h.nx
        by_cases hi:i=p
        · subst hi;exact hpx
        · rw[if_pos rfl,aC.cu (Ne.symm hi)] at g;exact y i x g
     have n2:(if op then h.put p none else h).nx=h.nx:=by cases op<;>rfl
     have k2:∀i w,i≠p→h.get i=some w→(if op then h.put p none else h).get i=some w:=fun i w hi g=>by
      cases op with
      | false=>exact g
      | true=>rw[if_pos rfl,aC.cu (Ne.symm hi)];exact g
     obtain ⟨h',n⟩:=zN (h:=if op then h.put p none else h) (.cells (l.flatMap aR.c++m.flatMap aR.c) (aR.e α) false)
     have hk:∀i w,i≠p→h.get i=some w→h'.get i=some w:=fun i w hi g=>wD y2 n (k2 i w hi g)
     have hc:¬l.length+m.length≤l.length:=by omega
     refine ⟨.slice h.nx 0 (l.length+m.length) (l.length+m.length) true,h',?_,nk y2 n,by rw[zM n,n2];omega,fun i w g=>?_,.inr ⟨by simp [hn],h.nx,true,by rw[List.length_append],hle,by rw[List.flatMap_append,←n2];exact uj n⟩,fun i w q g=>hk i w (fun e=>q 0 l.length l.length op (by subst e;rfl)) g⟩
     · simp only[du,t0,t1,hs,hx,hi,aR.size,hb,hlen,hf,Ib,hz,FP,Ok,hg,hc,if_true,if_false,and_self,Bool.false_eq_true]
       rw[if_pos ⟨big _ hl,by rw[hcl];omega,fun _=>⟨trivial,by rw[hcl];omega⟩⟩]
       rw[List.drop_zero,List.take_of_length_le (by rw[hcl];exact Nat.le_refl _),n]
     · have:=y0 _ _ g
       exact hk i w o! (a i w g)
theorem rX.app {s xt:TypeId} {tys:Array TypeId} {bytes:Nat} {z0 x:AV} (y:Tidy h) (y0:Tidy h0) (a:Has h0 h) (hle:h0.nx≤h.nx) (o:rX h0 h z l) (hlen:yw x=some m.length) (hf:ic h (aR.n α) m.length x=some (m.flatMap aR.c)) (FP:(m.flatMap aR.c).all AV.scalar=true) (hl:l.length+m.length≤1000000000)
 (t0:tys[0]? =some s) (t1:tys[1]? =some xt) (hs:env.P.underlying s=some (.slice (aR.e α))) (hx:env.P.underlying xt=some (.slice (aR.e α))) (hb:kH env (aR.e α)=some bytes) (Ib:iu env (aR.e α)=some z0) (hz:z0.cells.length=aR.n α) (h8:bytes≤255):
 ∃z' h',du env h tys z x=some (z',h')∧Tidy h'∧h.nx≤h'.nx∧Has h0 h'∧rX h0 h' z' (l++m)∧∀i w,aeL z i→h.get i=some w→h'.get i=some w:=
 rX.ajo y y0 a hle o hlen hf FP hl t0 t1 hs hx hb Ib hz fun k hk=>Nat.le_trans (Nat.mul_le_mul (show 4*k+4096≤4294967296 by omega) (show bytes+1≤256 by omega)) (by decide)
theorem ok_one {x:α} (o:aR.ok h x):∀y∈ [x],aR.ok h y:=fun y hy=>by
 rw[List.mem_singleton] at hy;subst hy;exact o
theorem agh (a:∀y∈l,aR.ok h y) (b:∀y∈m,aR.ok h y):∀y∈l++m,aR.ok h y:=fun y hy=>(List.mem_append.1 hy).elim (a y) (b y)
theorem ac0 (g:Has h h') (a:∀y∈l,aR.ok h y):∀y∈l,aR.ok h' y:=fun y hy=>aR.mono g (a y hy)
class Flat (α:Type) [aR α]:Prop where
 free:∀{h h':aC} {x:α},aR.ok h x→aR.ok h' x
theorem TD {D:Type} [aR D] [Flat D] {h h':aC} {l:List D} (a:∀y∈l,aR.ok h y):∀y∈l,aR.ok h' y:=fun y hy=>Flat.free (a y hy)
theorem Gv {i:Nat} {b:Bool} {x:α} {e:TypeId} {ro:Bool} (hg:h.get i=some (.cells (aR.c x) e ro)):ic h (aR.n α) [x].length (.slice i 0 1 1 b)=some ([x].flatMap aR.c):=by
 have:=aR.len x
 simp only[ic,List.length_singleton,Nat.le_refl,if_true,hg,Nat.one_ne_zero,if_false,Nat.one_mul,Nat.zero_add,this,List.drop_zero,List.flatMap_cons,List.flatMap_nil,List.append_nil]
 rw[List.take_of_length_le o!]
theorem rX.rows (o:rX h0 h z l) (hl:l.length<2^60) (hk:∀x∈l,aR.ok h x):aW h z l:=by
 rcases o with ⟨rfl | ⟨p,rfl,h1,h2⟩,rfl⟩ | ⟨hn,p,op,rfl,h1,g⟩
 · exact ⟨⟨aR.size,(Nat.zero_mul _).symm,hl,rfl,.inl rfl⟩,.inl rfl,hk⟩
 · exact ⟨⟨aR.size,(Nat.zero_mul _).symm,hl,rfl,.inl rfl⟩,.inr (.inr ⟨_,_,_,_,_,rfl,fun e=>by cases e⟩),hk⟩
 · have:=List.length_pos_iff.2 hn
   exact ⟨⟨aR.size,gR aR.len l,hl,rfl,.inr ⟨p,0,_,_,op,_,_,_,rfl,Nat.le_refl _,g,fun j _=>by rw[Nat.zero_add]⟩⟩,.inr (.inr ⟨_,_,_,_,_,rfl,fun _=>this⟩),hk⟩
end
structure Span where
 bq:Int
 ba:Int
@[reducible] def Span.c (x:Span):List AV:=[.int .i64 x.bq,.int .i64 x.ba]
def Span.ok (h:aC) (x:Span):Prop:=True
instance:aR Span where
 default:=⟨0,0⟩
 c:=Span.c
 n:=2
 e:=72
 len _:=rfl
 ok:=Span.ok
 mono a o:=o
 size:=by kernel_rfl
 agg:=by kernel_rfl
 pos:=by decide
instance:Flat Span where
 free o:=o
structure og where
 ah:Int
 aJ:Int
@[reducible] def og.c (x:og):List AV:=[.int .i64 x.ah,.int .i64 x.aJ]
def og.ok (h:aC) (x:og):Prop:=True
instance:aR og where
 default:=⟨0,0⟩
 c:=og.c
 n:=2
 e:=83
 len _:=rfl
 ok:=og.ok
 mono a o:=o
 size:=by kernel_rfl
 agg:=by kernel_rfl
 pos:=by decide
instance:Flat og where
 free o:=o
structure bJ where
 name:List UInt8
 aJ:Int
 dW:AV
 off:List Span
@[reducible] def bJ.c (x:bJ):List AV:=[.str x.name,.int .i64 x.aJ,x.dW]
def bJ.ok (h:aC) (x:bJ):Prop:=x.name.length<2^60∧aW h x.dW x.off
instance:aR bJ where
 default:=⟨[],0,.aG,[]⟩
 c:=bJ.c
 n:=3
 e:=37
 len _:=rfl
 ok:=bJ.ok
 mono a o:=⟨o.1,(o.2).has a⟩
 size:=by kernel_rfl
 agg:=by kernel_rfl
 pos:=by decide
structure Task where
 name:List UInt8
 takes:Int
 aU:AV
 aB:List Int
 a_:AV
 aA:List og
@[reducible] def Task.c (x:Task):List AV:=[.str x.name,.int .i64 x.takes,x.aU,x.a_]
def Task.ok (h:aC) (x:Task):Prop:=x.name.length<2^60∧b8 h .i64 3 x.aU x.aB∧aW h x.a_ x.aA
instance:aR Task where
 default:=⟨[],0,.aG,[],.aG,[]⟩
 c:=Task.c
 n:=4
 e:=40
 len _:=rfl
 ok:=Task.ok
 mono a o:=⟨o.1,(o.2.1).has a,(o.2.2).has a⟩
 size:=by kernel_rfl
 agg:=by kernel_rfl
 pos:=by decide
structure cx where
 aw:AV
 ab:List Task
 ao:AV
 af:List bJ
@[reducible] def cx.c (x:cx):List AV:=[x.aw,x.ao]
def cx.ok (h:aC) (x:cx):Prop:=aW h x.aw x.ab∧aW h x.ao x.af
instance:aR cx where
 default:=⟨.aG,[],.aG,[]⟩
 c:=cx.c
 n:=2
 e:=25
 len _:=rfl
 ok:=cx.ok
 mono a o:=⟨(o.1).has a,(o.2).has a⟩
 size:=by kernel_rfl
 agg:=by kernel_rfl
 pos:=by decide
theorem P7 {p:Prop} [Decidable p] (h:(!decide p)=true):¬p:=by intro q;rw[decide_eq_true q] at h;cases h
theorem P9 {p:Prop} [Decidable p] (h:(!decide p)=false):p:=by by_cases q:p;exact q;rw[decide_eq_false q] at h;cases h
def bs (l:List Bool):List AV:=l.map AV.bool
theorem Q3 (l:List Bool):(bs l).length=l.length:=by simp [bs]
theorem YX (l:List Bool) {i:Nat} (hi:i<l.length):(bs l)[i]? =some (.bool (l.g i)):=by
 rw[bs,List.getElem?_map,List.getElem?_eq_getElem hi,List.g,List.getD_eq_getElem?_getD,List.getElem?_eq_getElem hi];rfl
theorem YY (k:IntKind) (l:List Int) (i:Nat) (v:Int):(zs k l).set i (.int k v)=zs k (l.set i v):=by simp [zs,List.map_set]
theorem agi (l:List Bool) (i:Nat) (v:Bool):(bs l).set i (.bool v)=bs (l.set i v):=by simp [bs,List.map_set]
theorem Lj (k:IntKind):∀n,bT [AV.int k 0] n=zs k (List.replicate n 0)
 | 0=>rfl
 | n+1=>by rw[bT,Lj k n];rfl
theorem zO:∀n,bT [AV.bool false] n=bs (List.replicate n false)
 | 0=>rfl
 | n+1=>by rw[bT,zO n];rfl
section
variable {h:aC} {t e:TypeId} {p i n:Nat}
theorem TE {l:List Bool} {ro:Bool} (ht:gq env t=some false) (hg:h.get p=some (.cells (bs l) e ro)) (hi:i<l.length):bh env h t (.ptr p i)=some (.bool (l.g i)):=by
 simp only[bh,hg,jW,ht];exact YX l hi
theorem JI {cs:List AV} {v:AV} (hs:ca env t=some 1) (hg:h.get p=some (.cells cs e false)) (hi:i<cs.length) (hv:v.cells=[v]) (hk:AV.scalar v=true):dV env h t (.ptr p i) v=some (h.put p (some (.cells (cs.set i v) e false))):=by
 obtain ⟨h',s⟩:=wE (E:=env) (t:=t) (o:=i) (n:=1) (v:=v) hg hs (by rw[hv];rfl) o! (by rw[hv];simp [hk])
 rw[s,o5 s hg,hv];rfl
theorem Bg {k:IntKind} {l:List Int} {v:Int} (hs:ca env t=some 1) (hg:h.get p=some (.cells (zs k l) e false)) (hi:i<l.length):dV env h t (.ptr p i) (.int k v)=some (h.put p (some (.cells (zs k (l.set i v)) e false))):=by
 rw[JI hs hg (by rw[fO];exact hi) rfl rfl,YY]
theorem o6 {l:List Bool} {v:Bool} (hs:ca env t=some 1) (hg:h.get p=some (.cells (bs l) e false)) (hi:i<l.length):dV env h t (.ptr p i) (.bool v)=some (h.put p (some (.cells (bs (l.set i v)) e false))):=by
 rw[JI hs hg (by rw[Q3];exact hi) rfl rfl,agi]
end
structure oh (h:aC) (e:TypeId) (v:AV) (l:List Bool):Prop where
 at_:oI env h e 1 v l.length (bs l)
 agg:gq env e=some false
section
variable {h h':aC} {e:TypeId} {v:AV} {l:List Bool}
theorem oh.has (x:oh h e v l) (a:Has h h'):oh h' e v l:=⟨x.at_.has a,x.agg⟩
theorem oh.scalar (x:oh h e v l):AV.scalar v=true:=by
 have q:=x.at_.lens
 cases v<;>first | rfl | (exfalso;revert q;simp [cb])
theorem Lk {v:AV} (x:AV.scalar v=true):AV.cells v=[v]:=by
 cases v<;>first | rfl | cases x
theorem oh.small (x:oh h e v l):l.length<2^60:=x.at_.small
theorem oh.elem (x:oh h e v l) {i:Nat} (hi:i<l.length):∃p q,bO env (some (.slice e)) (some v) (some (.int .i64 ((i:Nat):Int)))=some (.ptr p q)∧bh env h e (.ptr p q)=some (.bool (l.g i)):=x.at_.elem x.agg (YX l hi)
theorem oh.load (x:oh h e v l) {i p q:Nat} (hi:i<l.length) (hx:bO env (some (.slice e)) (some v) (some (.int .i64 ((i:Nat):Int)))=some (.ptr p q)):bh env h e (.ptr p q)=some (.bool (l.g i)):=by
 obtain ⟨p',q',h1,h2⟩:=x.elem hi
 rw[hx] at h1
 simp only[Option.some.injEq,AV.ptr.injEq] at h1
 obtain ⟨rfl,rfl⟩:=h1
 exact h2
theorem oh.own {p n:Nat} {op ro:Bool} {f:TypeId} (hs:ca env e=some 1) (ha:gq env e=some false) (hg:h.get p=some (.cells (bs l) f ro)) (hn:l.length=n) (h60:n<2^60):oh h e (.slice p 0 n n op) l:=by
 subst hn
 exact ⟨⟨hs,by rw[Q3];omega,h60,rfl,.inr ⟨p,0,_,_,op,_,_,_,rfl,Nat.le_refl _,hg,fun j _=>by rw[Nat.zero_add]⟩⟩,ha⟩
theorem b8.own {k:IntKind} {p n:Nat} {op ro:Bool} {f:TypeId} {l:List Int} (hs:ca env e=some 1) (ha:gq env e=some false) (hg:h.get p=some (.cells (zs k l) f ro)) (hn:l.length=n) (h60:n<2^60):b8 h k e (.slice p 0 n n op) l:=by
 subst hn
 exact ⟨⟨hs,by rw[fO];omega,h60,rfl,.inr ⟨p,0,_,_,op,_,_,_,rfl,Nat.le_refl _,hg,fun j _=>by rw[Nat.zero_add]⟩⟩,ha,.inr (.inr ⟨_,_,_,_,_,rfl⟩)⟩
end
def bS {σ ρ:Type} (call:bu) (b:Code) (s:St) (ex:my) (hh:aC) (tn:σ→AV→(Nat→AV)→List AV) (tr:ρ→AV→(Nat→AV)→List AV) (Qn:σ→AV→aC→Prop) (Qr:ρ→AV→aC→Prop):σ ⊕ ρ→Prop
 | .inl v=>∃z y hk,Ev env call (.loop b) s ex ⟨tn v z y,hk,[],.no⟩∧Tidy hk∧hh.nx≤hk.nx∧Qn v z hk
 | .inr r=>∃z y hk,Ev env call (.loop b) s .ret ⟨tr r z y,hk,[],.no⟩∧Tidy hk∧hh.nx≤hk.nx∧Qr r z hk
section
variable {σ ρ:Type} {call:bu} {b:Code} {s:St} {ex:my} {hh hk:aC} {tn:σ→AV→(Nat→AV)→List AV} {tr:ρ→AV→(Nat→AV)→List AV} {Qn:σ→AV→aC→Prop} {Qr:ρ→AV→aC→Prop}
theorem bS.n {o:σ ⊕ ρ} {v:σ} (e:o= .inl v) (x:bS call b s ex hh tn tr Qn Qr o):∃z y hk,Ev env call (.loop b) s ex ⟨tn v z y,hk,[],.no⟩∧Tidy hk∧hh.nx≤hk.nx∧Qn v z hk:=by subst e;exact x
theorem bS.r {o:σ ⊕ ρ} {r:ρ} (e:o= .inr r) (x:bS call b s ex hh tn tr Qn Qr o):∃z y hk,Ev env call (.loop b) s .ret ⟨tr r z y,hk,[],.no⟩∧Tidy hk∧hh.nx≤hk.nx∧Qr r z hk:=by subst e;exact x
theorem bS.out {i:Nat} {L:List AV} {o:σ ⊕ ρ} (v:σ) (z:AV) (e:o= .inl v) (ev:Ev env call b s (.exit i) ⟨L,hk,[],.no⟩) (y1:Tidy hk) (n1:hh.nx≤hk.nx) (q:Qn v z hk) (hl:L=tn v z fun k=>L.getD k AV.undef):bS call b s (.exit i) hh tn tr Qn Qr o:=by
 subst e
 obtain ⟨y,x⟩:=kz (tmpl:=tn v z) (Ev.out ev) hl
 exact ⟨z,y,hk,x,y1,n1,q⟩
theorem bS.ret {L:List AV} {o:σ ⊕ ρ} (r:ρ) (z:AV) (e:o= .inr r) (ev:Ev env call b s .ret ⟨L,hk,[],.no⟩) (y1:Tidy hk) (n1:hh.nx≤hk.nx) (q:Qr r z hk) (hl:L=tr r z fun k=>L.getD k AV.undef):bS call b s ex hh tn tr Qn Qr o:=by
 subst e
 obtain ⟨y,x⟩:=kz (tmpl:=tr r z) (Ev.ret ev) hl
 exact ⟨z,y,hk,x,y1,n1,q⟩
theorem bS.round {L:List AV} {o o':σ ⊕ ρ} (e:o=o') (ev:Ev env call b s .normal ⟨L,hk,[],.no⟩) (n1:hh.nx≤hk.nx) (Tx:(Nat→AV)→List AV) (hl:L=Tx fun k=>L.getD k AV.undef) (ih:∀x,bS call b ⟨Tx x,hk,[],.no⟩ ex hk tn tr Qn Qr o'):bS call b s ex hh tn tr Qn Qr o:=by
 subst e
 have q:=ih fun k=>L.getD k AV.undef
 rw[←hl] at q
 cases o with
 | inl v=>obtain ⟨z,y,h2,x,y1,n2,g⟩:=q;exact ⟨z,y,h2,Ev.loop ev x,y1,Nat.le_trans n1 n2,g⟩
 | inr r=>obtain ⟨z,y,h2,x,y1,n2,g⟩:=q;exact ⟨z,y,h2,Ev.loop ev x,y1,Nat.le_trans n1 n2,g⟩
end
theorem hU.ac1 {k:IntKind} {e s xt:TypeId} {g h:aC} {tys:Array TypeId} {bytes b:Nat} {z0 z:AV} {L:List Int} {v:Int} {f:TypeId} {ro op:Bool} (y:Tidy h) (hle:g.nx≤h.nx) (o:hU e g h z (aQ.zs k L)) (hg:h.get b=some (.cells [.int k v] f ro)) (hl:L.length≤1000000000) (t0:tys[0]? =some s) (t1:tys[1]? =some xt) (hs:env.P.underlying s=some (.slice e)) (hx:env.P.underlying xt=some (.slice e)) (YV:ca env e=some 1) (hb:kH env e=some bytes) (Ib:iu env e=some z0) (hz:z0.cells.length=1) (h8:bytes≤63):
 ∃z' h',du env h tys z (.slice b 0 1 1 op)=some (z',h')∧Tidy h'∧h.nx≤h'.nx∧(∀i w,i<g.nx→h.get i=some w→h'.get i=some w)∧hU e g h' z' (aQ.zs k (L++[v])):=by
 rw[acZ]
 have hl2:(aQ.zs k L).length≤1000000000:=by rw[fO];exact hl
 rcases o with ⟨rfl,e0⟩ | ⟨hn,p,op',rfl,hp,hgp⟩
 · rw[e0]
   obtain ⟨h',e1,n⟩:=Oi (h:=h) (M:=[.int k v]) t0 t1 hs hx rfl YV hb Ib hz h8 Ty (JH hg) rfl (by simp) (by simp)
   have:=zM n
   exact ⟨_,h',e1,nk y n,by omega,fun i w _ q=>wD y n q,.inr ⟨by simp,h.nx,true,by simp,hle,uj n⟩⟩
 · obtain ⟨h',e1,y1,z1,k1,g1⟩:=Oj (op:=op') (M:=[.int k v]) y t0 t1 hs hx rfl YV hb Ib hz h8 Ty (JH hg) rfl rfl (by simp) (by simp;omega) hgp
   exact ⟨_,h',e1,y1,by omega,fun i w hi q=>k1 i w o! q,.inr ⟨by simp,h.nx,true,by rw[List.length_append],hle,g1⟩⟩
theorem Has.Q4 {h hh h' g:aC} (a:Has h hh) (y:Tidy h) (n:h.nx≤g.nx) (A:∀i w,i<g.nx→hh.get i=some w→h'.get i=some w):Has h h':=fun i w q=>A i w (Nat.lt_of_lt_of_le (y i w q) n) (a i w q)
theorem hU.chg {e:TypeId} {g h h':aC} {z:AV} {L:List AV} {b:Nat} {C:aM} (o:hU e g h z L) (c:Iv h h' b C) (hb:b<g.nx):hU e g h' z L:=o.imp id fun ⟨hn,p,op,e,h1,q⟩=>⟨hn,p,op,e,h1,c.2.2 _ _ o! q⟩
theorem hU.YZ {e:TypeId} {h0 h:aC} {z:AV} {L:List AV} {n:Nat} (o:hU e h0 h z L) (v:AV.within h0.nx (n+1) z=true):hU e h0 h0 z L:=by
 rcases o with ⟨rfl,e0⟩ | ⟨hn,p,op,rfl,hp,hg⟩
 · exact .inl ⟨rfl,e0⟩
 · have:=of_decide_eq_true (show decide (p<h0.nx)=true from v)
   omega
theorem dc {hh h':aC} {b:Nat} {o x:aM} (a:Has hh h') (g:hh.get b=some o) (g':h'.get b=some x):hh.get b=some x:=by
 have q:=a _ _ g
 rw[g'] at q
 rw[g,←q]
theorem gB {d:Nat} {f:FuncId} {args:List AV} {hh h':aC} {v:AV} {P:aC→Prop} (hm:M0 f args hh=none) (hd:zL env (cN d) f args hh v h') (y:Tidy hh) (y':Tidy h') (n:hh.nx≤h'.nx) (p':P h') (p:Has hh h'→P hh):∃hk,cN (d+1) (.fn f) args hh= .ret v hk∧Tidy hk∧hh.nx≤hk.nx∧P hk:=by
 obtain ⟨hk,e,rfl | ⟨rfl,a⟩⟩:=Q2 hm hd
 · exact ⟨_,e,y',n,p'⟩
 · exact ⟨_,e,y,Nat.le_refl _,p a⟩
theorem yj {nx k b n m c:Nat} {op:Bool} (v:AV.within nx (k+1) (.slice b n m c op)=true) (hb:nx≤b):False:=by
 have:=of_decide_eq_true (show decide (b<nx)=true from v)
 omega
theorem JJ (v:AV) (hv:AV.same 20 v v=true) (n:Nat) (e:TypeId) (ro:Bool):aM.same (.cells (bT [v] n) e ro) (.cells (bT [v] n) e ro)=true:=by
 have:∀n,eD (AV.same 20) (bT [v] n) (bT [v] n)=true:=fun n=>by
  induction n with
  | zero=>rfl
  | succ n ih=>
    show eD (AV.same 20) (v::bT [v] n) (v::bT [v] n)=true
    rw[eD,ih,hv];rfl
 simp [aM.same,this]
theorem Ev.to {call:bu} {b:Code} {s:St} {e:my} {L L':List AV} {hk:aC} (ev:Ev env call b s e ⟨L,hk,[],.no⟩) (hl:L=L'):Ev env call b s e ⟨L',hk,[],.no⟩:=hl▸ev
theorem Y0 {v:AV} (h:AV.scalar v=true):v.cells=[v]:=by cases v<;>first | rfl | cases h
theorem al8 {h:aC} {t e:TypeId} {i o:Nat} {cs N:List AV} {v:AV} (y:Tidy h) (gg:h.get i=some (.cells cs e false)) (hs:ca env t=some 1) (hk:AV.scalar v=true) (hl:Nat.ble (o+1) cs.length=true) (hN:setFrom cs o [v]=N):∃h',dV env h t (.ptr i o) v=some h'∧Tidy h'∧h'.nx=h.nx∧h'.get i=some (.cells N e false)∧Kept i h h':=by
 have c:=Y0 hk
 exact ajm y gg hs (by rw[c];rfl) hl (by rw[c];exact hN) (by rw[c];simp [hk])
theorem ajq (f:FuncId) (a b:List AV):AV.scalar (.func f a b)=true:=rfl
theorem D0 {f:FuncId} {fn:Func} {c:Code} {args ts0 ts:List AV} {h h':aC} {call:bu} {x:my} {v:AV} {a:Tmp} {t:TypeId} {i:Nat} (hf:env.P.funcs[f]? =some fn) (hb:fn.body=some c) (ht:args++List.replicate (fn.ntmps - args.length) AV.undef=ts0) (hx:x= .normal∨x= .ret)
 (e:Ev env call c ⟨ts0,h,[],.no⟩ x ⟨ts,h',[],.no⟩) (hrs:(fn.results.toList,ts.getD a AV.undef)=([.cell a t],AV.ptr i 0)) (hl:bh env h' t (.ptr i 0)=some v):zL env call f args h v h':=by
 refine bb hf hb ht hx e ?_
 rw[show fn.results.toList=[.cell a t] from congrArg Prod.fst hrs]
 simp only[mF,show ts.getD a AV.undef= .ptr i 0 from congrArg (fun q=>q.2) hrs,hl,Option.map_some]
 rfl
section
variable {α:Type} [aR α]
def nm {σ:Type} (call:bu) (b:Code) (s:St) (ex:my) (h:aC) (tn:σ→AV→(Nat→AV)→List AV) (own:σ→List α) (N:Nat) (r:σ):Prop:=∃z y hk,Ev env call (.loop b) s ex ⟨tn r z y,hk,[],.no⟩∧bE h hk∧rX h hk z (own r)∧(∀y∈own r,aR.ok hk y)∧(own r).length≤N
variable {σ:Type} {call:bu} {b:Code} {s:St} {ex:my} {h hk:aC} {tn:σ→AV→(Nat→AV)→List AV} {own:σ→List α} {N:Nat}
theorem nm.out {i:Nat} {L:List AV} {o:σ} (r:σ) (z:AV) (e1:o=r) (ev:Ev env call b s (.exit i) ⟨L,hk,[],.no⟩) (G:bE h hk) (oz:rX h hk z (own r)) (ok:∀y∈own r,aR.ok hk y) (ln:(own r).length≤N) (hl:L=tn r z fun k=>L.getD k AV.undef):nm call b s (.exit i) h tn own N o:=by
 subst e1
 obtain ⟨y,q⟩:=kz (tmpl:=tn o z) (Ev.out ev) hl
 exact ⟨z,y,hk,q,G,oz,ok,ln⟩
theorem nm.round {L:List AV} {o o':σ} (e1:o=o') (ev:Ev env call b s .normal ⟨L,hk,[],.no⟩) (Tx:(Nat→AV)→List AV) (hl:L=Tx fun k=>L.getD k AV.undef) (ih:∀x,nm call b ⟨Tx x,hk,[],.no⟩ ex h tn own N o'):nm call b s ex h tn own N o:=by
 subst e1
 have q:=ih fun k=>L.getD k AV.undef
 rw[←hl] at q
 obtain ⟨z,y,h2,x,g,oz,ok,ln⟩:=q;exact ⟨z,y,h2,Ev.loop ev x,g,oz,ok,ln⟩
end
section
variable {α:Type} [aR α]
end
def j_:Code→List Code
 | .seq a b=>j_ a++j_ b
 | .cond _ a b=>j_ a++j_ b
 | .block _ b=>j_ b
 | .loop b=>j_ b
 | .scope b=>j_ b
 | .rangeFunc _ _ a b=>j_ a++j_ b
 | .region i o d=> [.region i o d]
 | _=> []
section
variable {h:aC} {b:Nat} {pre post:List AV} {L:List Int} {e:TypeId} {ro:Bool} {o t j x:Nat}
theorem Ll (L:List Int) (pre post:List AV) {j:Nat} (hj:j<L.length):(pre++zs .i64 L++post)[pre.length+j]? =some (.int .i64 (L.g j)):=by
 rw[List.getElem?_append_left (by rw[List.length_append,fO];omega),List.getElem?_append_right o!,show pre.length+j - pre.length=j by omega]
 exact Li .i64 L hj
theorem fW (ht:gq env t=some false) (hg:h.get b=some (.cells (pre++zs .i64 L++post) e ro)) (ho:pre.length=o) (hj:j<L.length) (hx:x=o+j):bh env h t (.ptr b x)=some (.int .i64 (L.g j)):=by
 subst hx;subst ho
 simp only[bh,hg,jW,ht]
 exact Ll L pre post hj
theorem agj {cs:List AV} {k:Nat} {a c:AV} (h1:cs[k]? =some a) (h2:cs[k+1]? =some c):(cs.drop k).take 2=[a,c]:=by
 apply List.ext_getElem?
 intro i
 match i with
 | 0=>rw[List.getElem?_take_of_lt o!,List.getElem?_drop];exact h1
 | 1=>rw[List.getElem?_take_of_lt o!,List.getElem?_drop];exact h2
 | i+2=>rw[List.getElem?_eq_none (by rw[List.length_take];omega),List.getElem?_eq_none (by simp)]
theorem JK (ht:gq env t=some true) (hs:ca env t=some 2) (hg:h.get b=some (.cells (pre++zs .i64 L++post) e ro)) (ho:pre.length=o) (hj:j+1<L.length) (hx:x=o+j):bh env h t (.ptr b x)=some (.agg [.int .i64 (L.g j),.int .i64 (L.g (j+1))]):=by
 subst hx;subst ho
 have h1:=Ll L pre post (j:=j) o!
 have h2:=Ll L pre post (j:=j+1) hj
 have l2:=(List.getElem?_eq_some_iff.1 h2).1
 simp only[bh,hg,jW,ht,hs]
 rw[if_pos o!,agj h1 h2]
theorem np {n el z:Nat} {i:Int} {k:Nat} (hs:ca env el=some z) (hi:k<n) (hk:i=(k:Int)):bO env (some (.array n el)) (some (.ptr b o)) (some (.int .i64 i))=some (.ptr b (o+k*z)):=by
 subst hk
 simp only[bO,hs]
 rw[if_pos ⟨by omega,by omega⟩,Int.toNat_natCast]
theorem E4 (L:List Int) (pre post:List AV) {j:Nat} (hj:j<L.length) (v:Int):setFrom (pre++zs .i64 L++post) (pre.length+j) [.int .i64 v]=pre++zs .i64 (L.set j v)++post:=by
 show (pre++zs .i64 L++post).set (pre.length+j) (.int .i64 v)=_
 rw[List.set_append_left _ _ (by rw[List.length_append,fO];omega),List.set_append_right _ _ o!,show pre.length+j - pre.length=j by omega,YY]
theorem zP {v:Int} (y:Tidy h) (hs:ca env t=some 1) (hg:h.get b=some (.cells (pre++zs .i64 L++post) e false)) (ho:pre.length=o) (hj:j<L.length) (hx:x=o+j):∃h',dV env h t (.ptr b x) (.int .i64 v)=some h'∧Iv h h' b (.cells (pre++zs .i64 (L.set j v)++post) e false)∧h'.nx=h.nx:=by
 subst hx;subst ho
 obtain ⟨h',s⟩:=wE (E:=env) (t:=t) (o:=pre.length+j) (n:=1) (v:= .int .i64 v) hg hs rfl (by rw[List.length_append,List.length_append,fO];omega) rfl
 have q:=o5 s hg
 have c:=jD (o:= .cells (pre++zs .i64 (L.set j v)++post) e false) y hg
 rw[show (AV.int IntKind.i64 v).cells=[.int .i64 v] from rfl,E4 L pre post hj] at q
 subst q
 exact ⟨_,s,c,rfl⟩
theorem Bh {n c el z:Nat} {op:Bool} {i:Int} {k:Nat} (hs:ca env el=some z) (hi:k<n) (hk:i=(k:Int)):bO env (some (.slice el)) (some (.slice b o n c op)) (some (.int .i64 i))=some (.ptr b (o+k*z)):=by
 subst hk;exact qO hs hi
theorem D1 {e N hi:Nat} {hh:Int} {size:Nat} (ht:env.P.underlying t=some (.array N e)) (hs:ca env e=some size) (h1:hh=(hi:Nat)) (h2:hi≤N):fe env t (.ptr b o) none (some (.int .i64 hh)) none=some (.slice b o hi N false):=by
 subst h1
 simp only[fe,ht,hs,sO (len:=N) (cap:=N) (lo:=0) none (some (.int .i64 (hi:Nat))) (.inr ⟨rfl,rfl⟩) (.inl rfl) (Nat.zero_le _) h2]
 simp
theorem zQ {e N lo hi z:Nat} {ll hh:Int} (ht:env.P.underlying t=some (.array N e)) (hs:ca env e=some z) (h0:ll=(lo:Nat)) (h1:hh=(hi:Nat)) (h2:lo≤hi∧hi≤N) (h3:lo<N):fe env t (.ptr b o) (some (.int .i64 ll)) (some (.int .i64 hh)) none=some (.slice b (o+lo*z) (hi - lo) (N - lo) false):=by
 subst h0;subst h1
 simp only[fe,ht,hs,sO (len:=N) (cap:=N) (some (.int .i64 (lo:Nat))) (some (.int .i64 (hi:Nat))) (.inl rfl) (.inl rfl) h2.1 h2.2]
 rw[if_neg o!]
theorem Ol {e N z:Nat} {ll hh:Int} (ht:env.P.underlying t=some (.array N e)) (hs:ca env e=some z) (h0:ll=(N:Nat)) (h1:hh=(N:Nat)):fe env t (.ptr b o) (some (.int .i64 ll)) (some (.int .i64 hh)) none=some (.slice b o 0 0 false):=by
 subst h0;subst h1
 simp only[fe,ht,hs,sO (len:=N) (cap:=N) (some (.int .i64 (N:Nat))) (some (.int .i64 (N:Nat))) (.inl rfl) (.inl rfl) (Nat.le_refl _) (Nat.le_refl _)]
 simp only[if_true,Nat.sub_self]
theorem Gw {v w:Int} (y:Tidy h) (hs:ca env t=some 2) (hg:h.get b=some (.cells (pre++zs .i64 L++post) e false)) (ho:pre.length=o) (hj:j+1<L.length) (hx:x=o+j):∃h',dV env h t (.ptr b x) (.agg [.int .i64 v,.int .i64 w])=some h'∧Iv h h' b (.cells (pre++zs .i64 ((L.set j v).set (j+1) w)++post) e false)∧h'.nx=h.nx:=by
 subst hx;subst ho
 obtain ⟨h',s⟩:=wE (E:=env) (t:=t) (o:=pre.length+j) (n:=2) (v:= .agg [.int .i64 v,.int .i64 w]) hg hs rfl (by rw[List.length_append,List.length_append,fO];omega) rfl
 have q:=o5 s hg
 have c:=jD (o:= .cells (pre++zs .i64 ((L.set j v).set (j+1) w)++post) e false) y hg
 have e2:setFrom (pre++zs .i64 L++post) (pre.length+j) (AV.agg [.int .i64 v,.int .i64 w]).cells=pre++zs .i64 ((L.set j v).set (j+1) w)++post:=by
  show setFrom ((pre++zs .i64 L++post).set (pre.length+j) (.int .i64 v)) (pre.length+j+1) [.int .i64 w]=_
  have h1:=E4 L pre post (j:=j) o! v
  rw[show setFrom (pre++zs .i64 L++post) (pre.length+j) [.int .i64 v]=(pre++zs .i64 L++post).set (pre.length+j) (.int .i64 v) from rfl] at h1
  rw[h1,Nat.add_assoc,E4 (L.set j v) pre post (j:=j+1) (by rw[List.length_set];exact hj) w]
 rw[e2] at q
 subst q
 exact ⟨_,s,c,rfl⟩
def bz (L:List Int) (d s n:Nat):List Int:=if d+n≤L.length∧s+n≤L.length then L.take d++(L.drop s).take n++L.drop (d+n) else L
theorem yk (L:List Int) (d s n:Nat):(bz L d s n).length=L.length:=by
 unfold bz
 split
 · simp only[List.length_append,List.length_take,List.length_drop];omega
 · rfl
theorem ac2 {L:List Int} {j:Nat} (hj:j<L.length) (v:Int):(L.set j v).take (j+1)=L.take j++[v]∧∀k,j<k→(L.set j v).drop k=L.drop k:=by
 constructor
 · apply List.ext_getElem?
   intro i
   by_cases h1:i<j
   · rw[List.getElem?_take_of_lt o!,List.getElem?_set_ne o!,List.getElem?_append_left (by rw[List.length_take];omega),List.getElem?_take_of_lt h1]
   · by_cases h2:i=j
     · subst h2
       rw[List.getElem?_take_of_lt o!,List.getElem?_set_self hj,List.getElem?_append_right (by rw[List.length_take];omega)]
       rw[List.length_take,show i - min i L.length=0 by omega];rfl
     · rw[List.getElem?_eq_none (by rw[List.length_take];omega),List.getElem?_eq_none (by simp;omega)]
 · intro k hk
   apply List.ext_getElem?
   intro i
   rw[List.getElem?_drop,List.getElem?_drop,List.getElem?_set_ne o!]
theorem wH (pre post:List AV):∀(M L:List Int) (j:Nat),j+M.length≤L.length→setFrom (pre++zs .i64 L++post) (pre.length+j) (zs .i64 M)=pre++zs .i64 (L.take j++M++L.drop (j+M.length))++post
 | [],L,j,h=>by
   rw[List.append_nil,List.length_nil,Nat.add_zero,List.take_append_drop];rfl
 | v::M,L,j,h=>by
   rw[List.length_cons] at h
   have h1:=E4 L pre post (j:=j) o! v
   show setFrom ((pre++zs .i64 L++post).set (pre.length+j) (.int .i64 v)) (pre.length+j+1) (zs .i64 M)=_
   rw[show (pre++zs .i64 L++post).set (pre.length+j) (.int .i64 v)=pre++zs .i64 (L.set j v)++post from h1,Nat.add_assoc,wH pre post M (L.set j v) (j+1) (by rw[List.length_set];omega)]
   obtain ⟨c1,c2⟩:=ac2 (show j<L.length by omega) v
   rw[c1,c2 _ o!,List.length_cons,show j+1+M.length=j+(M.length+1) by omega]
   have:L.take j++[v]++M++L.drop (j+(M.length+1))=L.take j++v::M++L.drop (j+(M.length+1)):=by simp
   rw[this]
theorem Y1 (L:List Int) (pre post:List AV) {j n:Nat} (h:j+n≤L.length):((pre++zs .i64 L++post).drop (pre.length+j)).take n=zs .i64 ((L.drop j).take n):=by
 rw[List.append_assoc,List.drop_append,show pre.length+j - pre.length=j by omega,List.drop_of_length_le (show pre.length≤pre.length+j by omega),List.nil_append,List.drop_append,List.take_append]
 rw[show n -((zs .i64 L).drop j).length=0 by rw[List.length_drop,fO];omega,List.take_zero,List.append_nil]
 rw[zs,zs,←List.map_drop,←List.map_take]
theorem g7 {l:List Int} {i:Nat} {x:Int} (h:i<l.length):(l.set i x).g i=x:=by
 rw[List.g,List.getD_eq_getElem?_getD,List.getElem?_set_self h];rfl
theorem bn {l:List Int} {i j:Nat} (h:i≠j) (x:Int):(l.set i x).g j=l.g j:=by
 rw[List.g,List.g,List.getD_eq_getElem?_getD,List.getD_eq_getElem?_getD,List.getElem?_set_ne h]
theorem gK {L:List Int} {d s n k:Nat} (h:k<d∨d+n≤k):(bz L d s n).g k=L.g k:=by
 unfold bz
 split
 · rename_i q
   rw[List.g,List.g,List.getD_eq_getElem?_getD,List.getD_eq_getElem?_getD]
   rcases h with h | h
   · rw[List.append_assoc,List.getElem?_append_left (by rw[List.length_take];omega),List.getElem?_take_of_lt h]
   · have e:(L.take d++(L.drop s).take n).length=d+n:=by rw[List.length_append,List.length_take,List.length_take,List.length_drop];omega
     rw[List.getElem?_append_right o!,e,List.getElem?_drop,show d+n+(k -(d+n))=k by omega]
 · rfl
theorem wI {t:List Int} {v mqn c:Int} (hv:0<v) (i1:v≤c) (hm:mqn≤t.g ((Int.toNat (v - 1))*2)):0≤v - 1∧v - 1≤c∧(v - 1=0→mqn≤t.g 0):=
 ⟨by omega,by omega,fun h=>by rw[h] at hm;exact hm⟩
theorem yl (l:List Int):(zs .i64 l).all AV.scalar=true:=List.all_eq_true.2 fun x hx=>by
 obtain ⟨y,_,rfl⟩:=List.mem_map.1 hx
 rfl
theorem Om {et z nd ns cd cq xd xs jd js:Nat} {op oq:Bool} {dT:TypeId} {tys:Array TypeId} (y:Tidy h) (t0:tys[0]? =some dT) (ht:env.P.underlying dT=some (.slice et)) (hz:ca env et=some z) (hg:h.get b=some (.cells (pre++zs .i64 L++post) e false)) (ho:pre.length=o)
 (hd:jd+min ns nd*z≤L.length) (hs:js+min ns nd*z≤L.length) (ex:xd=o+jd) (ey:xs=o+js):∃h',yO env h tys (.slice b xd nd cd op) (.slice b xs ns cq oq)=some (.int .i64 ((min ns nd:Nat):Int),h')∧Iv h h' b (.cells (pre++zs .i64 (bz L jd js (min ns nd*z))++post) e false)∧h'.nx=h.nx:=by
 subst ex;subst ey;subst ho
 have hl:(pre++zs .i64 L++post).length=pre.length+L.length+post.length:=by rw[List.length_append,List.length_append,fO]
 have new:=Y1 L pre post hs
 have lz:(zs .i64 ((L.drop js).take (min ns nd*z))).length=min ns nd*z:=by rw[fO,List.length_take,List.length_drop];omega
 have sf:=wH pre post ((L.drop js).take (min ns nd*z)) L jd (by rw[List.length_take,List.length_drop];omega)
 have hc:bz L jd js (min ns nd*z)=L.take jd++(L.drop js).take (min ns nd*z)++L.drop (jd+((L.drop js).take (min ns nd*z)).length):=by
  rw[bz,if_pos ⟨hd,hs⟩]
  congr 2
  rw[List.length_take,List.length_drop];omega
 have c:=jD (o:= .cells (pre++zs .i64 (bz L jd js (min ns nd*z))++post) e false) y hg
 refine ⟨_,?_,c,rfl⟩
 have hf:ic h z (min ns nd) (.slice b (pre.length+js) ns cq oq)=some (zs .i64 ((L.drop js).take (min ns nd*z))):=by
  simp only[ic,hg]
  rw[new,if_pos (Nat.min_le_left _ _)]
  split
  · rename_i h0;rw[h0,Nat.zero_mul];rfl
  · rw[if_pos o!]
 simp only[yO,t0,ht,yw,hz,hf,hg]
 rw[if_pos ⟨by rw[lz,hl];omega,yl _⟩,sf,hc]
theorem ij {h:aC} {b:Nat} (y:Tidy h) (n:h.nx≤b):h.get b=none:=by
 cases e:h.get b with
 | none=>rfl
 | some o=>have:=y _ _ e;omega
theorem lf {h0 h h':aC} {b:Nat} {o:aM} (c:Iv h h' b o) (a:Has h0 h) (n:h0.get b=none):Has h0 h':=fun i x g=>c.2.2 i x (fun e=>by subst e;rw[n] at g;cases g) (a i x g)
theorem dz {h:aC} {b:Nat} {o:aM} (y:Tidy h) (g:h.get b=some o):∃hw,Tidy hw∧hw.nx=h.nx∧hw.get b=none∧Has hw h∧∀i,i≠b→hw.get i=h.get i:=
 ⟨h.put b none,fun i x q=>by
  by_cases e:i=b
  · subst e;rw[aC.dP] at q;cases q
  · rw[aC.cu (Ne.symm e)] at q;exact y i x q,rfl,aC.dP _,fun i x q=>by
  by_cases e:i=b
  · subst e;rw[aC.dP] at q;cases q
  · rw[aC.cu (Ne.symm e)] at q;exact q,fun i e=>aC.cu (Ne.symm e) _⟩
theorem bG {h0 h hw:aC} {b:Nat} (a:Has h0 h) (n:h0.get b=none) (k:∀i,i≠b→hw.get i=h.get i):Has h0 hw:=fun i x g=>(k i (fun e=>by subst e;rw[n] at g;cases g)).trans (a i x g)
end
theorem l! {p:Prop} (h:p:=by first | omega | (simp only[List.length_set,List.length_replicate,yk]<;>omega)):p:=h
def Ew:Code:=(Tryz.f50.body).getD .skip
theorem Lm:Tryz.f50.body=some Ew:=by kernel_rfl
def cI (aJ:Int):List Int:=(List.replicate 322 0++[1,aJ])
theorem Ln {d:Nat} {h:aC} (aJ:Int) (ch:Tidy h):cN (d+1) (.fn 50) [(Zi aJ)] h= .ret (AV.agg (zs .i64 (cI aJ))) h:=by
 obtain ⟨h1,di,cS,jU,bm,bP⟩:=jE ch (aM.cells (List.replicate 323 (Zi 0)++[(Zi 0)]) 128 false)
 have bA:Has h h1:=bP
 obtain ⟨h2,amb,yC,ac3,pX,ajr⟩:=n5 (t:=128) (n:=324) (i:=h.nx) (L:=(List.replicate 322 (Zi 0)++[(Zi 1),(Zi aJ)])) cS bm k! rfl rfl k!
 have kT:Has h h2:=Has.dg bA ajr ch o!
 have e:cI aJ=(List.replicate 322 0++[1,aJ]):=by simp only[cI,aj,ai]
 rw[e]
 exact aH rfl (D0 (a:=2) (t:=128) (i:=h.nx) Tryz.func50 Lm rfl (.inr rfl) (pk (d) _ _ h _ h2 (NN di (fun i=>(Pt i))<|CN 2<|SS amb<|ZZ) k!) k! (Gs pX k!)) kT rfl
theorem agk {t:List Int} {q mqn:Int} (f:(bif decide (q<t.g 322) then decide (t.g (Int.toNat q*2)=mqn) else false)=false) (hz:q=0) (hm:mqn≤t.g 0) (h0:t.g 0=0) (h1:0≤mqn) (h2:1≤t.g 322):False:=by
 rw[hz,decide_eq_true (by omega:(0:Int)<t.g 322),aj] at f
 exact of_decide_eq_false f (show t.g 0=mqn by omega)
end
end Go.Proofs.aQ
