import Derived.Test.YtjohpcpopggbkaaGreatA7
import Derived.Test.YtjohpcpopggbkaaGreatEnv
namespace Go.Proofs.aW
open Go.Proofs Ab
set_option maxRecDepth 100000
set_option maxHeartbeats 4000000
set_option linter.unusedVariables false
set_option linter.unusedSimpArgs false
theorem Vp {b:Bool} (h:b=true):(!b)=false:=by rw[h];rfl
theorem Vq {b:Bool} (h:b=false):(!b)=true:=by rw[h];rfl
theorem cM (t:TypeId) (c d:Bool) (k:IntKind) (a b:Int):dX env .eql t c d (some (.int k a)) (some (.int k b))=some (.bool (decide (a=b))):=LD t c d k a b
theorem cJ (t:TypeId) (c d:Bool) (k:IntKind) (a b:Int):dX env .neq t c d (some (.int k a)) (some (.int k b))=some (.bool (!decide (a=b))):=LF t c d k a b
theorem bz (t:TypeId) (c d:Bool) (k:IntKind) (a b:Int):dX env .lss t c d (some (.int k a)) (some (.int k b))=some (.bool (decide (a<b))):=LG t c d k a b
theorem fu (t:TypeId) (c d:Bool) (k:IntKind) (a b:Int):dX env .leq t c d (some (.int k a)) (some (.int k b))=some (.bool (decide (a≤b))):=LH t c d k a b
theorem cI (t:TypeId) (c d:Bool) (k:IntKind) (a b:Int):dX env .gtr t c d (some (.int k a)) (some (.int k b))=some (.bool (decide (b<a))):=LI t c d k a b
theorem dx (t:TypeId) (c d:Bool) (k:IntKind) (a b:Int):dX env .geq t c d (some (.int k a)) (some (.int k b))=some (.bool (decide (b≤a))):=LJ t c d k a b
theorem FY (t:TypeId) (c d:Bool) (a b:List UInt8):dX env .eql t c d (some (.str a)) (some (.str b))=some (.bool (decide (a=b))):=IP t c d a b
theorem Dk (t:TypeId) (c d:Bool) (a b:List UInt8):dX env .neq t c d (some (.str a)) (some (.str b))=some (.bool (!decide (a=b))):=IQ t c d a b
theorem zM (t:TypeId) (c d:Bool) {k:IntKind} {a b z:Int} (h:k.wrap (a+b)=z):dX env .add t c d (some (.int k a)) (some (.int k b))=some (.int k z):=wm h
theorem HU (t:TypeId) (c d:Bool) {k:IntKind} {a b z:Int} (h:k.wrap (a - b)=z):dX env .sub t c d (some (.int k a)) (some (.int k b))=some (.int k z):=wo h
theorem HV (t:TypeId) (c d:Bool) {k:IntKind} {a b z:Int} (h:k.wrap (a*b)=z):dX env .mul t c d (some (.int k a)) (some (.int k b))=some (.int k z):=Dj h
theorem au (t:TypeId) (o:Nat) (v:AV) {h:aq} {i:Nat} {cs:List AV} {e:TypeId} {ro:Bool} (hg:h.get i=some (.cells cs e ro)) (hv:g7 env t cs o=some v):b9 env h t (.ptr i o)=some v:=hG hg hv
theorem yN {a:Nat} (h:a<9223372036854775808):IntKind.i64.wrap (a:Int)=(a:Int):=wrap_i64 (by omega) (by omega)
theorem fV (t:TypeId) (c d:Bool) (a b:Nat) (h:a+b<9223372036854775808):dX env .add t c d (some (.int .i64 (a:Int))) (some (.int .i64 (b:Int)))=some (.int .i64 ((a+b:Nat):Int)):=wm (by rw[show (a:Int)+b=((a+b:Nat):Int) by omega];exact yN h)
theorem IZ (t:TypeId) (c d:Bool) (a b:Nat) (h:b≤a) (ha:a<9223372036854775808):dX env .sub t c d (some (.int .i64 (a:Int))) (some (.int .i64 (b:Int)))=some (.int .i64 ((a - b:Nat):Int)):=wo (by rw[show (a:Int) - b=((a - b:Nat):Int) by omega];exact yN (by omega))
theorem pk (d:Nat) (c:Code) (ts:List AV) (h:aq) (e:iS) (h':aq) {al:List md} {ps:List Prop} (k:Pk al [] ps) (hr:run env (dH d) 300 c ⟨ts,h,[],.no⟩ al []= .at e ⟨EA (run env (dH d) 300 c ⟨ts,h,[],.no⟩ al []),h',[],.no⟩ [] ps):Ev env (dH d) c ⟨ts,h,[],.no⟩ e ⟨EA (run env (dH d) 300 c ⟨ts,h,[],.no⟩ al []),h',[],.no⟩:=RM k hr
theorem jA {h:aq} (y:Tidy h) (o:aP):∃h',h.new o=some h'∧Tidy h'∧h'.nx=h.nx+1∧h'.get h.nx=some o∧Has h h':=by
 obtain ⟨h',n⟩:=qY (h:=h) o
 exact ⟨h',n,np y n,wq n,sh n,vd y n⟩
theorem I0 {h:aq} {t e:TypeId} {i o n:Nat} {cs N:List AV} {v:AV} (y:Tidy h) (gg:h.get i=some (.cells cs e false)) (hs:bY env t=some n) (hv:v.cells.length=n) (hl:Nat.ble (o+n) cs.length=true) (hN:setFrom cs o v.cells=N) (hk:v.cells.all AV.scalar=true):∃h',fE env h t (.ptr i o) v=some h'∧Tidy h'∧h'.nx=h.nx∧h'.get i=some (.cells N e false)∧Kept i h h':=by
 obtain ⟨h',s⟩:=BW (E:=env) gg hs hv (Nat.le_of_ble_eq_true hl) hk
 exact ⟨h',s,wx y s gg,wv s gg,by rw[←hN];exact yM y s gg,Kept.store y s gg⟩
theorem lC {h:aq} {t e:TypeId} {i n:Nat} {cs L:List AV} (y:Tidy h) (gg:h.get i=some (.cells cs e false)) (hs:bY env t=some n) (hv:L.length=n) (hc:cs.length=n) (hk:L.all AV.scalar=true):∃h',fE env h t (.ptr i 0) (.agg L)=some h'∧Tidy h'∧h'.nx=h.nx∧h'.get i=some (.cells L e false)∧Kept i h h':=
 I0 y gg hs hv (by rw[hc,Nat.zero_add,Nat.ble_eq];exact Nat.le_refl n) (by
  show setFrom cs 0 L=L
  apply List.ext_getElem?
  intro k
  rw[g9]
  split
  · rfl
  · rw[List.getElem?_eq_none (by omega),List.getElem?_eq_none (by omega)]) hk
structure Rk (f:List md→List md) (ps:List Prop):Prop where
 ok:jV ps
section
variable {f:List md→List md} {ps:List Prop}
end
section
variable {f:List md→List md} {ps:List Prop}
theorem Rh {P:Prop} (h:P) (k:Rk f ps):Rk f (P::ps):=⟨⟨h,k.ok⟩⟩
end
theorem k! {p:Prop} (h:p:=by kernel_rfl):p:=h
theorem o! {p:Prop} (h:p:=by omega):p:=h
theorem YY {b:Bool} (h:(!b)=false):b=true:=by cases b;cases h;rfl
theorem YZ {b:Bool} (h:(!b)=true):b=false:=by cases b;rfl;cases h
theorem d! {p:Prop} (h:p:=by first | assumption | exact Vp (by assumption) | exact Vq (by assumption) | exact YY (by assumption) | exact YZ (by assumption) | exact dT (by omega) | exact dF (by omega) | exact nT (by omega) | exact nF (by omega)):p:=h
theorem _root_.Go.Ab.Has.ca {h0 h h':aq} {b:Nat} (a:Has h0 h) (k:Kept b h h') (y:Tidy h0) (hb:h0.nx≤b):Has h0 h':=fun i x g=>by
 have:=y i x g
 exact k i x (by omega) (a i x g)
class aG (α:Type) extends Inhabited α where
 c:α→List AV
 n:Nat
 e:TypeId
 len:∀x,(c x).length=n
 ok:aq→α→Prop
 mono:∀{h h':aq} {x:α},Has h h'→ok h x→ok h' x
 size:bY env e=some n
 agg:eM env e=some true
 pos:0<n
@[reducible] def imax (x y:Int):Int:=if y>x then y else x
@[reducible] def uQ (x y:Int):Int:=if y<x then y else x
def _root_.List.g {α:Type} [Inhabited α] (l:List α) (i:Nat):α:=l.getD i default
structure bf {α:Type} [aG α] (h:aq) (v:AV) (l:List α):Prop where
 at_:lB env h (aG.e α) (aG.n α) v l.length (l.flatMap aG.c)
 known:v= .aF∨v= .dG∨∃p o m c b,v= .slice p o m c b∧(b=true→0<c)
 Qj:∀x∈l,aG.ok h x
theorem cX {α β:Type} {size:Nat} {f:α→List β} (hf:∀x,(f x).length=size) (l:List α):(l.flatMap f).length=l.length*size:=by
 induction l with
 | nil=>simp
 | cons x l ih=>rw[List.flatMap_cons,List.length_append,ih,hf,List.length_cons,Nat.succ_mul];omega
section
variable {α:Type} [aG α] {h:aq} {v:AV} {l:List α}
theorem bf.has {h':aq} (x:bf h v l) (a:Has h h'):bf h' v l:=⟨x.at_.has a,x.known,fun y hy=>aG.mono a (x.Qj y hy)⟩
theorem BZ {i:Nat} (hi:i<l.length):l.g i∈l:=by
 rw[List.g,List.getD_eq_getElem?_getD,List.getElem?_eq_getElem hi];exact List.getElem_mem hi
theorem bf.ok (x:bf h v l) {i:Nat} (hi:i<l.length):aG.ok h (l.g i):=x.Qj _ (BZ hi)
theorem bf.small (x:bf h v l):l.length<2^60:=x.at_.small
theorem bf.len (x:bf h v l):dU (some (.slice (aG.e α))) (some v)=some (.int .i64 (l.length:Nat)):=x.at_.lens
theorem bf.scalar (x:bf h v l):AV.scalar v=true:=by
 rcases x.known with rfl | rfl | ⟨p,o,m,c,b,rfl,_⟩<;>rfl
theorem kG {β:Type} {size:Nat} {f:α→List β} (hf:∀x,(f x).length=size):∀(l:List α) (i j:Nat) (_:i<l.length),j<size→(l.flatMap f)[i*size+j]? =(f (l.g i))[j]?
 | [],i,j,hi,_=>by cases hi
 | x::l,0,j,_,hj=>by
   rw[List.flatMap_cons,Nat.zero_mul,Nat.zero_add,List.getElem?_append_left (by rw[hf];exact hj)];rfl
 | x::l,i+1,j,hi,hj=>by
   have e:(i+1)*size+j -(f x).length=i*size+j:=by rw[hf,Nat.succ_mul];omega
   rw[List.flatMap_cons,List.getElem?_append_right (by rw[hf,Nat.succ_mul];omega),e,kG hf l i j (by simpa using hi) hj];rfl
theorem bf.elem (x:bf h v l) {i:Nat} (hi:i<l.length):∃p q,ep env (some (.slice (aG.e α))) (some v) (some (.int .i64 ((i:Nat):Int)))=some (.ptr p q):=by
 rcases x.at_.block with h0 | ⟨p,o,m,c,b,C,f,ro,h1,_,h2,h3⟩
 · omega
 · subst h1
   have hm:m=l.length:=by
    have:=x.at_.lens
    rw[hF] at this
    simp only[Option.some.injEq,AV.int.injEq,true_and] at this
    omega
   exact ⟨p,o+i*aG.n α,n6 x.at_.size (by omega)⟩
theorem bf.block (x:bf h v l) {i p q:Nat} (hi:i<l.length) (hx:ep env (some (.slice (aG.e α))) (some v) (some (.int .i64 ((i:Nat):Int)))=some (.ptr p q)):
 ∃C f ro,h.get p=some (.cells C f ro)∧∀j,j<aG.n α→C[q+j]? =(aG.c (l.g i))[j]? :=by
 rcases x.at_.block with h0 | ⟨p',o,m,c,b,C,f,ro,h1,_,h2,h3⟩
 · omega
 · subst h1
   have hm:m=l.length:=by
    have:=x.at_.lens
    rw[hF] at this
    simp only[Option.some.injEq,AV.int.injEq,true_and] at this
    omega
   rw[n6 x.at_.size (by omega)] at hx
   simp only[Option.some.injEq,AV.ptr.injEq] at hx
   obtain ⟨rfl,rfl⟩:=hx
   refine ⟨C,f,ro,h2,fun j hj=>?_⟩
   have e:=kG aG.len l i j hi hj
   have jT:i*aG.n α+j<(l.flatMap aG.c).length:=by
    rw[cX aG.len]
    calc i*aG.n α+j<i*aG.n α+aG.n α:=by omega
     _=(i+1)*aG.n α:=by rw[Nat.succ_mul]
     _≤l.length*aG.n α:=Nat.mul_le_mul_right _ hi
   rw[←e,Nat.add_assoc,h3 _ jT]
theorem bf.load (x:bf h v l) {i p q:Nat} (hi:i<l.length) (hx:ep env (some (.slice (aG.e α))) (some v) (some (.int .i64 ((i:Nat):Int)))=some (.ptr p q)):b9 env h (aG.e α) (.ptr p q)=some (.agg (aG.c (l.g i))):=by
 obtain ⟨C,f,ro,h1,h2⟩:=x.block hi hx
 have hl:=aG.len (l.g i)
 have hn:q+aG.n α≤C.length:=by
  have h0:=aG.pos (α:=α)
  have:=h2 (aG.n α - 1) (by omega)
  rw[List.getElem?_eq_getElem (by omega:aG.n α - 1<(aG.c (l.g i)).length)] at this
  have:=(List.getElem?_eq_some_iff.1 this).1
  omega
 simp only[b9,h1,g7,aG.agg,aG.size,hn,if_true]
 congr 2
 apply List.ext_getElem?
 intro j
 by_cases hj:j<aG.n α
 · rw[List.getElem?_take_of_lt hj,List.getElem?_drop,h2 j hj]
 · rw[List.getElem?_eq_none (by rw[List.length_take];omega),List.getElem?_eq_none (by omega)]
theorem bf.part (x:bf h v l) {i p q j:Nat} {t:TypeId} {w:AV} (hi:i<l.length) (hx:ep env (some (.slice (aG.e α))) (some v) (some (.int .i64 ((i:Nat):Int)))=some (.ptr p q)) (ht:eM env t=some false) (hw:(aG.c (l.g i))[j]? =some w):b9 env h t (.ptr p (q+j))=some w:=by
 obtain ⟨C,f,ro,h1,h2⟩:=x.block hi hx
 have hj:=(List.getElem?_eq_some_iff.1 hw).1
 rw[aG.len] at hj
 simp only[b9,h1,g7,ht]
 rw[h2 j hj,hw]
theorem bf.pre (x:bf h v l) {t:TypeId} (ht:env.P.underlying t=some (.slice (aG.e α))) {i:Nat} (hi:i<l.length):∃r,eY env t v none (some (.int .i64 ((i:Nat):Int))) none=some r∧bf h r (l.take i):=by
 rcases x.at_.block with h0 | ⟨p,o,m,c,b,C,f,ro,h1,hc,h2,h3⟩
 · omega
 · subst h1
   have hm:m=l.length:=by
    have:=x.at_.lens
    rw[hF] at this
    simp only[Option.some.injEq,AV.int.injEq,true_and] at this
    omega
   subst hm
   have hb:b=true→0<c:=fun e=>by omega
   refine ⟨.slice p o i c b,?_,⟨⟨x.at_.size,cX aG.len _,by have:=x.small;simp;omega,?_,.inr ⟨p,o,i,c,b,C,f,ro,rfl,by omega,h2,fun j hj=>?_⟩⟩,.inr (.inr ⟨_,_,_,_,_,rfl,hb⟩),fun y hy=>x.Qj y (List.mem_of_mem_take hy)⟩⟩
   · simp only[eY,ht,x.at_.size,hc,if_true,qf (len:=l.length) (cap:=c) none (some (.int .i64 ((i:Nat):Int))) (.inr ⟨rfl,rfl⟩) (.inl rfl) (Nat.zero_le i) (by omega)]
     rw[if_neg (by omega)]
     simp
   · rw[List.length_take,Nat.min_eq_left (by omega)];exact hF _ _ _ _ _ _
   · rw[cX aG.len,List.length_take,Nat.min_eq_left (by omega)] at hj
     have jT:j<(l.flatMap aG.c).length:=by
      rw[cX aG.len];exact Nat.lt_of_lt_of_le hj (Nat.mul_le_mul_right _ (by omega))
     rw[h3 j jT]
     have e:l=l.take i++l.drop i:=(List.take_append_drop i l).symm
     conv=>lhs;rw[e,List.flatMap_append]
     rw[List.getElem?_append_left]
     rw[cX aG.len,List.length_take,Nat.min_eq_left (by omega)];exact hj
def aS {ρ:Type} (call:aY) (b:Code) (s:St) (ex:iS) (hh:aq) (tn:(Nat→AV)→List AV) (tr:ρ→(Nat→AV)→List AV):Option ρ→Prop
 | none=>∃y hk,Ev env call (.loop b) s ex ⟨tn y,hk,[],.no⟩∧b4 hh hk
 | some r=>∃y hk,Ev env call (.loop b) s .ret ⟨tr r y,hk,[],.no⟩∧b4 hh hk
section
variable {ρ:Type} {call:aY} {b:Code} {s:St} {ex:iS} {hh hk:aq} {tn:(Nat→AV)→List AV} {tr:ρ→(Nat→AV)→List AV}
theorem aS.n {o:Option ρ} (e:o=none) (x:aS call b s ex hh tn tr o):∃y hk,Ev env call (.loop b) s ex ⟨tn y,hk,[],.no⟩∧b4 hh hk:=by subst e;exact x
theorem aS.r {o:Option ρ} {r:ρ} (e:o=some r) (x:aS call b s ex hh tn tr o):∃y hk,Ev env call (.loop b) s .ret ⟨tr r y,hk,[],.no⟩∧b4 hh hk:=by subst e;exact x
theorem aS.out {i:Nat} {L:List AV} {o:Option ρ} (e:o=none) (ev:Ev env call b s (.exit i) ⟨L,hk,[],.no⟩) (G:b4 hh hk) (hl:L=tn fun k=>L.getD k AV.undef):aS call b s (.exit i) hh tn tr o:=by
 subst e
 obtain ⟨y,q⟩:=j6 (Ev.out ev) hl
 exact ⟨y,hk,q,G⟩
theorem aS.ret {L:List AV} {o:Option ρ} (r:ρ) (e:o=some r) (ev:Ev env call b s .ret ⟨L,hk,[],.no⟩) (G:b4 hh hk) (hl:L=tr r fun k=>L.getD k AV.undef):aS call b s ex hh tn tr o:=by
 subst e
 obtain ⟨y,q⟩:=j6 (tmpl:=tr r) (Ev.ret ev) hl
 exact ⟨y,hk,q,G⟩
theorem aS.round {L:List AV} {o o':Option ρ} (e:o=o') (ev:Ev env call b s .normal ⟨L,hk,[],.no⟩) (G:b4 hh hk) (B0:(Nat→AV)→List AV) (hl:L=B0 fun k=>L.getD k AV.undef) (ih:∀x,aS call b ⟨B0 x,hk,[],.no⟩ ex hk tn tr o'):aS call b s ex hh tn tr o:=by
 subst e
 have q:=ih fun k=>L.getD k AV.undef
 rw[←hl] at q
 cases o with
 | none=>obtain ⟨y,h2,x,g⟩:=q;exact ⟨y,h2,Ev.loop ev x,G.trans g⟩
 | some r=>obtain ⟨y,h2,x,g⟩:=q;exact ⟨y,h2,Ev.loop ev x,G.trans g⟩
end
def jB {ρ:Type} (call:aY) (b:Code) (s:St) (ex:iS) (h hh:aq) (tn:(Nat→AV)→List AV) (tr:ρ→(Nat→AV)→List AV) (pb:Nat) (cl:ρ→aP):Option ρ→Prop
 | none=>∃y hk,Ev env call (.loop b) s ex ⟨tn y,hk,[],.no⟩∧b4 hh hk
 | some r=>∃y hk,Ev env call (.loop b) s .ret ⟨tr r y,hk,[],.no⟩∧Tidy hk∧Has h hk∧hh.nx≤hk.nx∧hk.get pb=some (cl r)
section
variable {ρ:Type} {call:aY} {b:Code} {s:St} {ex:iS} {h hh hk:aq} {tn:(Nat→AV)→List AV} {tr:ρ→(Nat→AV)→List AV} {pb:Nat} {cl:ρ→aP}
theorem jB.n {o:Option ρ} (e:o=none) (x:jB call b s ex h hh tn tr pb cl o):∃y hk,Ev env call (.loop b) s ex ⟨tn y,hk,[],.no⟩∧b4 hh hk:=by subst e;exact x
theorem jB.r {o:Option ρ} {r:ρ} (e:o=some r) (x:jB call b s ex h hh tn tr pb cl o):∃y hk,Ev env call (.loop b) s .ret ⟨tr r y,hk,[],.no⟩∧Tidy hk∧Has h hk∧hh.nx≤hk.nx∧hk.get pb=some (cl r):=by subst e;exact x
theorem jB.out {i:Nat} {L:List AV} {o:Option ρ} (e:o=none) (ev:Ev env call b s (.exit i) ⟨L,hk,[],.no⟩) (G:b4 hh hk) (hl:L=tn fun k=>L.getD k AV.undef):jB call b s (.exit i) h hh tn tr pb cl o:=by
 subst e
 obtain ⟨y,q⟩:=j6 (Ev.out ev) hl
 exact ⟨y,hk,q,G⟩
theorem jB.round {L:List AV} {o o':Option ρ} (e:o=o') (ev:Ev env call b s .normal ⟨L,hk,[],.no⟩) (G:b4 hh hk) (B0:(Nat→AV)→List AV) (hl:L=B0 fun k=>L.getD k AV.undef) (ih:∀x,jB call b ⟨B0 x,hk,[],.no⟩ ex h hk tn tr pb cl o'):jB call b s ex h hh tn tr pb cl o:=by
 subst e
 have q:=ih fun k=>L.getD k AV.undef
 rw[←hl] at q
 cases o with
 | none=>obtain ⟨y,h2,x,g⟩:=q;exact ⟨y,h2,Ev.loop ev x,G.trans g⟩
 | some r=>obtain ⟨y,h2,x,y1,a1,n1,g1⟩:=q;exact ⟨y,h2,Ev.loop ev x,y1,a1,Nat.le_trans G.n n1,g1⟩
end
def cb {σ:Type} (call:aY) (b:Code) (s:St) (ex:iS) (hh:aq) (tn:σ→(Nat→AV)→List AV) (Q:σ→Prop) (r:σ):Prop:=∃y hk,Ev env call (.loop b) s ex ⟨tn r y,hk,[],.no⟩∧b4 hh hk∧Q r
section
variable {σ:Type} {call:aY} {b:Code} {s:St} {ex:iS} {hh hk:aq} {tn:σ→(Nat→AV)→List AV} {Q:σ→Prop}
theorem cb.out {i:Nat} {L:List AV} {o:σ} (r:σ) (e:o=r) (ev:Ev env call b s (.exit i) ⟨L,hk,[],.no⟩) (G:b4 hh hk) (iq:Q r) (hl:L=tn r fun k=>L.getD k AV.undef):cb call b s (.exit i) hh tn Q o:=by
 subst e
 obtain ⟨y,q⟩:=j6 (tmpl:=tn o) (Ev.out ev) hl
 exact ⟨y,hk,q,G,iq⟩
theorem cb.round {L:List AV} {o o':σ} (e:o=o') (ev:Ev env call b s .normal ⟨L,hk,[],.no⟩) (G:b4 hh hk) (B0:(Nat→AV)→List AV) (hl:L=B0 fun k=>L.getD k AV.undef) (ih:∀x,cb call b ⟨B0 x,hk,[],.no⟩ ex hk tn Q o'):cb call b s ex hh tn Q o:=by
 subst e
 have q:=ih fun k=>L.getD k AV.undef
 rw[←hl] at q
 obtain ⟨y,h2,x,g,i⟩:=q;exact ⟨y,h2,Ev.loop ev x,G.trans g,i⟩
end
theorem bf.same {α:Type} [aG α] {h:aq} {v:AV} {l:List α} (x:bf h v l) (n:Nat):AV.same (n+1) v v=true:=by
 rcases x.known with rfl | rfl | ⟨p,o,m,c,b,rfl,_⟩
 · rfl
 · rfl
 · exact wg n p o m c b
def LS (cs:List AV):Prop:=∀n,bG (AV.same (n+1)) cs cs=true
theorem Qk:LS []:=fun _=>rfl
theorem ve {x:AV} {cs:List AV} (hx:∀n,AV.same (n+1) x x=true) (hc:LS cs):LS (x::cs):=fun n=>by
 show (AV.same (n+1) x x&&bG (AV.same (n+1)) cs cs)=true
 rw[hx,hc];rfl
theorem nq (n:Nat) {cs:List AV} (h:LS cs):AV.same (n+2) (.agg cs) (.agg cs)=true:=h n
theorem ia {s:List UInt8} {j:Nat} (hj:j<s.length):n7 env (some .string) (some (.str s)) (some (.int .i64 ((j:Nat):Int)))=some (.int .u8 (((s.g j).toNat:Nat):Int)):=by
 refine IS ?_
 rw[List.g,List.getD_eq_getElem?_getD,List.getElem?_eq_getElem hj];rfl
end
theorem B1 {h:aq} {e s xt:TypeId} {xd:TypeDesc} {tys:Array TypeId} {bytes:Nat} {z x:AV} {M:List AV} (h0:tys[0]? =some s) (h1:tys[1]? =some xt) (hs:env.P.underlying s=some (.slice e)) (hx:env.P.underlying xt=some xd) (hi:jY xd=false) (Kj:bY env e=some 1) (hb:im env e=some bytes) (xz:eW env e=some z) (hz:z.cells.length=1) (h8:bytes≤63) (hlen:mK x=some M.length) (hf:ez h 1 M.length x=some M) (te:M.all AV.scalar=true) (hm:M≠ []) (hl:M.length≤1073741824):
 ∃h',bN env h tys .aF x=some (.slice h.nx 0 M.length M.length true,h')∧h.new (.cells M e false)=some h':=by
 obtain ⟨h',n⟩:=qY (h:=h) (.cells M e false)
 refine ⟨h',?_,n⟩
 have hn:¬M.length=0:=fun e=>hm (List.length_eq_zero_iff.1 e)
 have zw:(4*M.length+4096)*(bytes+1)≤1099511627776:=Nat.le_trans (Nat.mul_le_mul (show 4*M.length+4096≤17179869184 by omega) (show bytes+1≤64 by omega)) (by decide)
 simp only[bN,h0,h1,hs,hx,hi,Kj,hb,hlen,hf,xz,hz,te,Nat.mul_one,hn,zw,n,if_true,if_false,and_self,Bool.false_eq_true]
theorem B2 {h:aq} {e s xt:TypeId} {xd:TypeDesc} {tys:Array TypeId} {bytes p:Nat} {op:Bool} {z x:AV} {L M:List AV} (y:Tidy h) (h0:tys[0]? =some s) (h1:tys[1]? =some xt) (hs:env.P.underlying s=some (.slice e)) (hx:env.P.underlying xt=some xd) (hi:jY xd=false) (Kj:bY env e=some 1) (hb:im env e=some bytes) (xz:eW env e=some z) (hz:z.cells.length=1) (h8:bytes≤63) (hlen:mK x=some M.length) (hf:ez h 1 M.length x=some M) (te:M.all AV.scalar=true) {n:Nat} (hn:L.length=n) (hm:M≠ []) (hl:n+M.length≤1073741824)
 (hg:h.get p=some (.cells L e false)):
 ∃h',bN env h tys (.slice p 0 n n op) x=some (.slice h.nx 0 (n+M.length) (n+M.length) true,h')∧Tidy h'∧h'.nx=h.nx+1∧Kept p h h'∧h'.get h.nx=some (.cells (L++M) e false):=by
 have hp:=y _ _ hg
 subst hn
 have ec:(L.drop 0).take (L.length*1)++M=L++M:=by
  rw[List.drop_zero,Nat.mul_one,List.take_of_length_le (Nat.le_refl _)]
 have y2:Tidy (if op then h.put p none else h):=by
  cases op with
  | false=>exact y
  | true=>
    intro i x g
    show i<h.nx
    by_cases hi:i=p
    · subst hi;exact hp
    · rw[if_pos rfl,aq.ck (Ne.symm hi)] at g;exact y i x g
 have n2:(if op then h.put p none else h).nx=h.nx:=by cases op<;>rfl
 obtain ⟨h',n⟩:=qY (h:=if op then h.put p none else h) (.cells (L++M) e false)
 refine ⟨h',?_,np y2 n,by rw[wq n,n2],fun i x hi g=>?_,by rw[←n2];exact sh n⟩
 · have hn:0<M.length:=List.length_pos_iff.2 hm
   have zw:(4*(L.length+M.length)+4096)*(bytes+1)≤1099511627776:=Nat.le_trans (Nat.mul_le_mul (show 4*(L.length+M.length)+4096≤17179869184 by omega) (show bytes+1≤64 by omega)) (by decide)
   have hc:¬L.length+M.length≤L.length:=by omega
   simp only[bN,h0,h1,hs,hx,hi,Kj,hb,hlen,hf,xz,hz,te,hg,hc,if_true,if_false,Bool.false_eq_true,Nat.mul_one]
   rw[if_pos ⟨trivial,trivial,trivial⟩,if_pos ⟨zw,by omega,fun _=>⟨trivial,by omega⟩⟩]
   rw[show List.take L.length (List.drop 0 L)=L by rw[List.drop_zero,List.take_length],n]
 · refine pz y2 n ?_
   cases op with
   | false=>exact g
   | true=>rw[if_pos rfl,aq.ck (Ne.symm hi)];exact g
def gd (e:TypeId) (h0 h:aq) (z:AV) (L:List AV):Prop:=(z= .aF∧L=[])∨(L≠ []∧∃p op,z= .slice p 0 L.length L.length op∧h0.nx≤p∧h.get p=some (.cells L e false))
theorem gd.has {e:TypeId} {h0 h h':aq} {z:AV} {L:List AV} (o:gd e h0 h z L) (a:Has h h'):gd e h0 h' z L:=o.imp id fun ⟨hn,p,op,e,h1,g⟩=>⟨hn,p,op,e,h1,a _ _ g⟩
theorem gd.app {e s xt:TypeId} {xd:TypeDesc} {h0 h:aq} {tys:Array TypeId} {bytes:Nat} {z0 z x:AV} {L M:List AV} (y:Tidy h) (y0:Tidy h0) (a:Has h0 h) (hle:h0.nx≤h.nx) (o:gd e h0 h z L) (t0:tys[0]? =some s) (t1:tys[1]? =some xt) (hs:env.P.underlying s=some (.slice e)) (hx:env.P.underlying xt=some xd) (hi:jY xd=false) (Kj:bY env e=some 1) (hb:im env e=some bytes) (xz:eW env e=some z0) (hz:z0.cells.length=1) (h8:bytes≤63) (hlen:mK x=some M.length) (hf:ez h 1 M.length x=some M) (te:M.all AV.scalar=true) (hm:M≠ []) (hl:L.length+M.length≤1073741824):
 ∃z' h',bN env h tys z x=some (z',h')∧Tidy h'∧h.nx≤h'.nx∧Has h0 h'∧gd e h0 h' z' (L++M):=by
 rcases o with ⟨rfl,rfl⟩ | ⟨hn,p,op,rfl,hp,hg⟩
 · obtain ⟨h',e1,n⟩:=B1 (h:=h) t0 t1 hs hx hi Kj hb xz hz h8 hlen hf te hm (by simpa using hl)
   have:=wq n
   exact ⟨_,h',e1,np y n,by omega,a.trans (vd y n),.inr ⟨by simpa using hm,h.nx,true,by simp,hle,sh n⟩⟩
 · obtain ⟨h',e1,y1,z1,k1,g1⟩:=B2 (op:=op) y t0 t1 hs hx hi Kj hb xz hz h8 hlen hf te rfl hm hl hg
   exact ⟨_,h',e1,y1,by omega,Has.ca a k1 y0 hp,.inr ⟨by simp [hn],h.nx,true,by rw[List.length_append],hle,g1⟩⟩
theorem LU {i:Nat} {b:Bool} {v:AV}:mK (.slice i 0 1 1 b)=some [v].length:=rfl
theorem FZ {h:aq} {i:Nat} {b:Bool} {v:AV} {e:TypeId} {ro:Bool} (hg:h.get i=some (.cells [v] e ro)):ez h 1 [v].length (.slice i 0 1 1 b)=some [v]:=by
 simp [ez,hg]
theorem gd.le {e:TypeId} {h0 h1 h:aq} {z:AV} {L:List AV} (o:gd e h1 h z L) (hn:h0.nx≤h1.nx):gd e h0 h z L:=o.imp id fun ⟨dt,p,op,e,h1,g⟩=>⟨dt,p,op,e,by omega,g⟩
def zs (k:IntKind) (l:List Int):List AV:=l.map (AV.int k)
theorem kW (k:IntKind) (l:List Int):(zs k l).length=l.length:=by simp [zs]
theorem LV (k:IntKind) (l:List Int) (x:Int):zs k (l++[x])=zs k l++[AV.int k x]:=by simp [zs]
theorem O8 (k:IntKind) (l:List Int) {i:Nat} (hi:i<l.length):(zs k l)[i]? =some (.int k (l.g i)):=by
 rw[zs,List.getElem?_map,List.getElem?_eq_getElem hi,List.g,List.getD_eq_getElem?_getD,List.getElem?_eq_getElem hi];rfl
structure ff (h:aq) (k:IntKind) (e:TypeId) (v:AV) (l:List Int):Prop where
 at_:lB env h e 1 v l.length (zs k l)
 agg:eM env e=some false
 known:v= .aF∨v= .dG∨∃p o m c b,v= .slice p o m c b
theorem ff.has {k:IntKind} {h h':aq} {e:TypeId} {v:AV} {l:List Int} (x:ff h k e v l) (a:Has h h'):ff h' k e v l:=⟨x.at_.has a,x.agg,x.known⟩
theorem ff.scalar {k:IntKind} {h:aq} {e:TypeId} {v:AV} {l:List Int} (x:ff h k e v l):AV.scalar v=true:=by
 rcases x.known with rfl | rfl | ⟨p,o,m,c,b,rfl⟩<;>rfl
theorem ff.same {k:IntKind} {h:aq} {e:TypeId} {v:AV} {l:List Int} (x:ff h k e v l) (n:Nat):AV.same (n+1) v v=true:=by
 rcases x.known with rfl | rfl | ⟨p,o,m,c,b,rfl⟩
 · rfl
 · rfl
 · exact wg n p o m c b
theorem ff.small {k:IntKind} {h:aq} {e:TypeId} {v:AV} {l:List Int} (x:ff h k e v l):l.length<2^60:=x.at_.small
theorem ff.len {k:IntKind} {h:aq} {e:TypeId} {v:AV} {l:List Int} (x:ff h k e v l):dU (some (.slice e)) (some v)=some (.int .i64 (l.length:Nat)):=x.at_.lens
theorem ff.elem {k:IntKind} {h:aq} {e:TypeId} {v:AV} {l:List Int} (x:ff h k e v l) {i:Nat} (hi:i<l.length):∃p q,ep env (some (.slice e)) (some v) (some (.int .i64 ((i:Nat):Int)))=some (.ptr p q)∧b9 env h e (.ptr p q)=some (.int k (l.g i)):=x.at_.elem x.agg (O8 k l hi)
theorem ff.load {k:IntKind} {h:aq} {e:TypeId} {v:AV} {l:List Int} (x:ff h k e v l) {i p q:Nat} (hi:i<l.length) (hx:ep env (some (.slice e)) (some v) (some (.int .i64 ((i:Nat):Int)))=some (.ptr p q)):b9 env h e (.ptr p q)=some (.int k (l.g i)):=by
 obtain ⟨p',q',h1,h2⟩:=x.elem hi
 rw[hx] at h1
 simp only[Option.some.injEq,AV.ptr.injEq] at h1
 obtain ⟨rfl,rfl⟩:=h1
 exact h2
theorem ff.nil {k:IntKind} {h:aq} {e:TypeId} (hs:bY env e=some 1) (ha:eM env e=some false):ff h k e .aF []:=⟨⟨hs,rfl,by decide,rfl,.inl rfl⟩,ha,.inl rfl⟩
theorem gd.zs {k:IntKind} {e:TypeId} {h0 h:aq} {z:AV} {l:List Int} (o:gd e h0 h z (aW.zs k l)) (hl:l.length<2^60) (hs:bY env e=some 1) (ha:eM env e=some false):ff h k e z l:=by
 rcases o with ⟨rfl,e0⟩ | ⟨hn,p,op,rfl,_,hg⟩
 · have:l=[]:=List.length_eq_zero_iff.1 (by have:=congrArg List.length e0;rwa [kW] at this)
   subst this
   exact ff.nil hs ha
 · rw[kW]
   exact ⟨⟨hs,by rw[kW];omega,hl,rfl,.inr ⟨p,0,_,_,op,_,_,_,rfl,Nat.le_refl _,hg,fun j _=>by rw[Nat.zero_add]⟩⟩,ha,.inr (.inr ⟨_,_,_,_,_,rfl⟩)⟩
theorem gd.EB {k:IntKind} {e:TypeId} {h0 h:aq} {z:AV} {l:List Int} {n:Nat} (o:gd e h0 h z (aW.zs k l)) (v:AV.within h0.nx (n+1) z=true) (hs:bY env e=some 1) (ha:eM env e=some false):ff h0 k e z l:=by
 rcases o with ⟨rfl,e0⟩ | ⟨hn,p,op,rfl,hp,hg⟩
 · have:l=[]:=List.length_eq_zero_iff.1 (by have:=congrArg List.length e0;rwa [kW] at this)
   subst this
   exact ff.nil hs ha
 · have:=of_decide_eq_true (show decide (p<h0.nx)=true from v)
   omega
theorem mE {nx:Nat} {z:AV} {cs:List AV} (h:AV.within nx 20 (.tuple (z::cs))=true):AV.within nx (18+1) z=true:=by
 simp only[AV.within,List.all_cons,Bool.and_eq_true] at h
 exact h.1
theorem gd.RR {k:IntKind} {e s xt:TypeId} {h0 h:aq} {tys:Array TypeId} {bytes b:Nat} {z0 z:AV} {L:List Int} {v:Int} {f:TypeId} {ro op:Bool} (y:Tidy h) (y0:Tidy h0) (a:Has h0 h) (hle:h0.nx≤h.nx) (o:gd e h0 h z (aW.zs k L)) (hg:h.get b=some (.cells [.int k v] f ro)) (hl:L.length≤1000000000) (t0:tys[0]? =some s) (t1:tys[1]? =some xt) (hs:env.P.underlying s=some (.slice e)) (hx:env.P.underlying xt=some (.slice e)) (Kj:bY env e=some 1) (hb:im env e=some bytes) (xz:eW env e=some z0) (hz:z0.cells.length=1) (h8:bytes≤63):
 ∃z' h',bN env h tys z (.slice b 0 1 1 op)=some (z',h')∧Tidy h'∧h.nx≤h'.nx∧Has h0 h'∧gd e h0 h' z' (aW.zs k (L++[v])):=by
 rw[LV]
 exact gd.app y y0 a hle o t0 t1 hs hx rfl Kj hb xz hz h8 LU (FZ hg) rfl (by simp) (by rw[kW];simp;omega)
def jC {σ:Type} (call:aY) (b:Code) (s:St) (ex:iS) (h:aq) (e:TypeId) (tn:σ→AV→(Nat→AV)→List AV) (own:σ→List AV) (N:Nat) (r:σ):Prop:=∃z y hk,Ev env call (.loop b) s ex ⟨tn r z y,hk,[],.no⟩∧b4 h hk∧gd e h hk z (own r)∧(own r).length≤N
section
variable {σ:Type} {call:aY} {b:Code} {s:St} {ex:iS} {h hk:aq} {e:TypeId} {tn:σ→AV→(Nat→AV)→List AV} {own:σ→List AV} {N:Nat}
theorem jC.out {i:Nat} {L:List AV} {o:σ} (r:σ) (z:AV) (e1:o=r) (ev:Ev env call b s (.exit i) ⟨L,hk,[],.no⟩) (G:b4 h hk) (oz:gd e h hk z (own r)) (ln:(own r).length≤N) (hl:L=tn r z fun k=>L.getD k AV.undef):jC call b s (.exit i) h e tn own N o:=by
 subst e1
 obtain ⟨y,q⟩:=j6 (tmpl:=tn o z) (Ev.out ev) hl
 exact ⟨z,y,hk,q,G,oz,ln⟩
theorem jC.round {L:List AV} {o o':σ} (e1:o=o') (ev:Ev env call b s .normal ⟨L,hk,[],.no⟩) (B0:(Nat→AV)→List AV) (hl:L=B0 fun k=>L.getD k AV.undef) (ih:∀x,jC call b ⟨B0 x,hk,[],.no⟩ ex h e tn own N o'):jC call b s ex h e tn own N o:=by
 subst e1
 have q:=ih fun k=>L.getD k AV.undef
 rw[←hl] at q
 obtain ⟨z,y,h2,x,g,oz,ln⟩:=q;exact ⟨z,y,h2,Ev.loop ev x,g,oz,ln⟩
end
def gD {α:Type} [aG α] (h0 h:aq) (z:AV) (l:List α):Prop:=
 ((z= .aF∨∃p,z= .slice p 0 0 0 false∧h0.nx≤p∧h.get p=some (.cells [] (aG.e α) false))∧l=[])∨
 (l≠ []∧∃p op,z= .slice p 0 l.length l.length op∧h0.nx≤p∧h.get p=some (.cells (l.flatMap aG.c) (aG.e α) false))
def RS (z:AV) (i:Nat):Prop:=∀o n c b,z≠ .slice i o n c b
section
variable {α:Type} [aG α] {h0 h h':aq} {z:AV} {l m:List α}
theorem gD.has (o:gD h0 h z l) (a:Has h h'):gD h0 h' z l:=by
 rcases o with ⟨rfl | ⟨p,rfl,h1,h2⟩,rfl⟩ | ⟨hn,p,op,e,h1,g⟩
 · exact .inl ⟨.inl rfl,rfl⟩
 · exact .inl ⟨.inr ⟨p,rfl,h1,a _ _ h2⟩,rfl⟩
 · exact .inr ⟨hn,p,op,e,h1,a _ _ g⟩
theorem gD.app {s xt:TypeId} {tys:Array TypeId} {bytes:Nat} {z0 x:AV} (y:Tidy h) (y0:Tidy h0) (a:Has h0 h) (hle:h0.nx≤h.nx) (o:gD h0 h z l) (hlen:mK x=some m.length) (hf:ez h (aG.n α) m.length x=some (m.flatMap aG.c)) (te:(m.flatMap aG.c).all AV.scalar=true) (hl:l.length+m.length≤1000000000)
 (t0:tys[0]? =some s) (t1:tys[1]? =some xt) (hs:env.P.underlying s=some (.slice (aG.e α))) (hx:env.P.underlying xt=some (.slice (aG.e α))) (hb:im env (aG.e α)=some bytes) (xz:eW env (aG.e α)=some z0) (hz:z0.cells.length=aG.n α) (h8:bytes≤255):
 ∃z' h',bN env h tys z x=some (z',h')∧Tidy h'∧h.nx≤h'.nx∧Has h0 h'∧gD h0 h' z' (l++m)∧∀i w,RS z i→h.get i=some w→h'.get i=some w:=by
 have Dl:=cX aG.len m
 have hi:jY (.slice (aG.e α))=false:=rfl
 have RU:∀k,k≤1000000000→(4*k+4096)*(bytes+1)≤1099511627776:=fun k hk=>Nat.le_trans (Nat.mul_le_mul (show 4*k+4096≤4294967296 by omega) (show bytes+1≤256 by omega)) (by decide)
 have EC:∀{p:Nat} {ob:aP},h.get p=some ob→Tidy (h.put p (some ob))∧Has h0 (h.put p (some ob))∧(∀i w,h.get i=some w→(h.put p (some ob)).get i=some w):=fun {p ob} g=>by
  have hg:∀i,(h.put p (some ob)).get i=h.get i:=fun i=>by
   by_cases e:i=p
   · subst e;rw[aq.dw,g]
   · rw[aq.ck (Ne.symm e)]
  exact ⟨fun i w q=>y i w (by rw[←hg];exact q),fun i w q=>by rw[hg];exact a i w q,fun i w q=>by rw[hg];exact q⟩
 have RV:m≠ []→∃h',h.new (.cells (m.flatMap aG.c) (aG.e α) false)=some h'∧Tidy h'∧h.nx≤h'.nx∧Has h0 h'∧gD h0 h' (.slice h.nx 0 m.length m.length true) m∧∀i w,h.get i=some w→h'.get i=some w:=fun hm=>by
  obtain ⟨h',n⟩:=qY (h:=h) (.cells (m.flatMap aG.c) (aG.e α) false)
  have:=wq n
  exact ⟨h',n,np y n,by omega,a.trans (vd y n),.inr ⟨hm,h.nx,true,rfl,hle,sh n⟩,fun i w g=>pz y n g⟩
 rcases o with ⟨rfl | ⟨p,rfl,hp,hg⟩,rfl⟩ | ⟨hn,p,op,rfl,hp,hg⟩
 · rw[List.nil_append]
   by_cases hm:m=[]
   · subst hm
     simp only[List.length_nil,List.flatMap_nil,Nat.zero_mul] at hlen hf te Dl
     refine ⟨.aF,h,?_,y,Nat.le_refl _,a,.inl ⟨.inl rfl,rfl⟩,fun _ _ _ g=>g⟩
     simp only[bN,t0,t1,hs,hx,hi,aG.size,hb,hlen,hf,xz,hz,te,Dl,if_true,if_false,and_self,List.length_nil,Bool.false_eq_true,Nat.zero_mul]
   · obtain ⟨h',n,q1,q2,q3,q4,q5⟩:=RV hm
     have Kc:¬m.length=0:=fun e=>hm (List.length_eq_zero_iff.1 e)
     refine ⟨_,h',?_,q1,q2,q3,q4,fun i w _ g=>q5 i w g⟩
     simp only[bN,t0,t1,hs,hx,hi,aG.size,hb,hlen,hf,xz,hz,te,Dl,Kc,RU m.length (by omega),n,if_true,if_false,and_self,Bool.false_eq_true]
 · rw[List.nil_append]
   by_cases hm:m=[]
   · subst hm
     simp only[List.length_nil,List.flatMap_nil,Nat.zero_mul] at hlen hf te Dl
     obtain ⟨q1,q2,q3⟩:=EC hg
     refine ⟨_,_,?_,q1,Nat.le_refl _,q2,.inl ⟨.inr ⟨p,rfl,hp,q3 _ _ hg⟩,rfl⟩,fun i w _ g=>q3 i w g⟩
     simp only[bN,t0,t1,hs,hx,hi,aG.size,hb,hlen,hf,xz,hz,te,Dl,hg,if_true,if_false,and_self,List.length_nil,Bool.false_eq_true,Nat.zero_mul,Nat.add_zero,Nat.le_refl,List.flatMap_nil,setFrom]
   · obtain ⟨h',n,q1,q2,q3,q4,q5⟩:=RV hm
     have Kc:¬m.length≤0:=fun e=>hm (List.length_eq_zero_iff.1 (by omega))
     refine ⟨_,h',?_,q1,q2,q3,q4,fun i w _ g=>q5 i w g⟩
     simp only[bN,t0,t1,hs,hx,hi,aG.size,hb,hlen,hf,xz,hz,te,Dl,hg,Kc,if_true,if_false,and_self,Bool.false_eq_true,Nat.zero_mul,Nat.add_zero,Nat.zero_add,List.length_nil,Nat.le_refl]
     rw[if_pos ⟨RU m.length (by omega),trivial,fun e=>e.elim⟩]
     simp only[List.drop_nil,List.take_nil,List.nil_append,n]
 · have W3:0<l.length:=List.length_pos_iff.2 hn
   have Y0:=y _ _ hg
   have Oo:=cX aG.len l
   by_cases hm:m=[]
   · subst hm
     simp only[List.length_nil,List.flatMap_nil,Nat.zero_mul] at hlen hf te Dl
     obtain ⟨q1,q2,q3⟩:=EC hg
     rw[List.append_nil]
     refine ⟨_,_,?_,q1,Nat.le_refl _,q2,.inr ⟨hn,p,op,rfl,hp,q3 _ _ hg⟩,fun i w _ g=>q3 i w g⟩
     simp only[bN,t0,t1,hs,hx,hi,aG.size,hb,hlen,hf,xz,hz,te,Dl,hg,Oo,if_true,if_false,and_self,List.length_nil,Bool.false_eq_true,Nat.zero_mul,Nat.add_zero,Nat.zero_add,Nat.le_refl,List.flatMap_nil,setFrom]
   · have Ts:0<m.length:=List.length_pos_iff.2 hm
     have y2:Tidy (if op then h.put p none else h):=by
      cases op with
      | false=>exact y
      | true=>
        intro i x g
        show i<h.nx
        by_cases hi:i=p
        · subst hi;exact Y0
        · rw[if_pos rfl,aq.ck (Ne.symm hi)] at g;exact y i x g
     have n2:(if op then h.put p none else h).nx=h.nx:=by cases op<;>rfl
     have k2:∀i w,i≠p→h.get i=some w→(if op then h.put p none else h).get i=some w:=fun i w hi g=>by
      cases op with
      | false=>exact g
      | true=>rw[if_pos rfl,aq.ck (Ne.symm hi)];exact g
     obtain ⟨h',n⟩:=qY (h:=if op then h.put p none else h) (.cells (l.flatMap aG.c++m.flatMap aG.c) (aG.e α) false)
     have hk:∀i w,i≠p→h.get i=some w→h'.get i=some w:=fun i w hi g=>pz y2 n (k2 i w hi g)
     have hc:¬l.length+m.length≤l.length:=by omega
     refine ⟨.slice h.nx 0 (l.length+m.length) (l.length+m.length) true,h',?_,np y2 n,by rw[wq n,n2];omega,fun i w g=>?_,.inr ⟨by simp [hn],h.nx,true,by rw[List.length_append],hle,by rw[List.flatMap_append,←n2];exact sh n⟩,fun i w q g=>hk i w (fun e=>q 0 l.length l.length op (by subst e;rfl)) g⟩
     · simp only[bN,t0,t1,hs,hx,hi,aG.size,hb,hlen,hf,xz,hz,te,Dl,hg,hc,if_true,if_false,and_self,Bool.false_eq_true]
       rw[if_pos ⟨RU _ hl,by rw[Oo];omega,fun _=>⟨trivial,by rw[Oo];omega⟩⟩]
       rw[List.drop_zero,List.take_of_length_le (by rw[Oo];exact Nat.le_refl _),n]
     · have:=y0 _ _ g
       exact hk i w (by omega) (a i w g)
theorem gD.Vs {s xt:TypeId} {tys:Array TypeId} {bytes:Nat} {z0 x:AV} (y:Tidy h) (y0:Tidy h0) (a:Has h0 h) (hle:h0.nx≤h.nx) (o:gD h0 h z l) (hlen:mK x=some m.length) (hf:ez h (aG.n α) m.length x=some (m.flatMap aG.c)) (te:(m.flatMap aG.c).all AV.scalar=true) (hl:l.length+m.length≤1000000000)
 (t0:tys[0]? =some s) (t1:tys[1]? =some xt) (hs:env.P.underlying s=some (.slice (aG.e α))) (hx:env.P.underlying xt=some (.slice (aG.e α))) (hb:im env (aG.e α)=some bytes) (xz:eW env (aG.e α)=some z0) (hz:z0.cells.length=aG.n α) (h8:bytes≤255) (he:l=[]:=by rfl):
 ∃z' h',bN env h tys z x=some (z',h')∧Tidy h'∧h.nx≤h'.nx∧Has h0 h'∧gD h0 h' z' (l++m)∧Has h h':=by
 subst he
 by_cases hm:m=[]
 · subst hm
   obtain ⟨z',h',e1,e2,e3,e4,e5,e6⟩:=gD.app y y0 a hle o hlen hf te hl t0 t1 hs hx hb xz hz h8
   refine ⟨z',h',e1,e2,e3,e4,e5,fun i w g=>?_⟩
   rcases o with ⟨rfl | ⟨p,rfl,hp,hg⟩,_⟩ | ⟨hn,_⟩
   · exact e6 i w (fun o n c b q=>by cases q) g
   · by_cases hi:i=p
     · subst hi
       have T2:jY (.slice (aG.e α))=false:=rfl
       simp only[List.length_nil,List.flatMap_nil] at hlen hf te
       simp only[bN,t0,t1,hs,hx,T2,aG.size,hb,hlen,hf,xz,hz,te,hg,if_true,if_false,and_self,List.length_nil,Bool.false_eq_true,Nat.zero_mul,Nat.add_zero,Nat.le_refl,List.flatMap_nil,setFrom,Option.some.injEq,Prod.mk.injEq] at e1
       rw[←e1.2,aq.dw,←hg,g]
     · exact e6 i w (fun o n c b q=>hi (AV.slice.inj q).1.symm) g
   · exact absurd rfl hn
 · obtain ⟨z',h',e1,e2,e3,e4,e5,e6⟩:=gD.app y y0 a hle o hlen hf te hl t0 t1 hs hx hb xz hz h8
   refine ⟨z',h',e1,e2,e3,e4,e5,fun i w g=>?_⟩
   rcases o with ⟨rfl | ⟨p,rfl,hp,hg⟩,_⟩ | ⟨hn,_⟩
   · exact e6 i w (fun o n c b q=>by cases q) g
   · by_cases hi:i=p
     · subst hi
       have T2:jY (.slice (aG.e α))=false:=rfl
       have Dl:=cX aG.len m
       have Kc:¬m.length≤0:=fun e=>hm (List.length_eq_zero_iff.1 (by omega))
       have RU:(4*m.length+4096)*(bytes+1)≤1099511627776:=Nat.le_trans (Nat.mul_le_mul (show 4*m.length+4096≤4294967296 by simp at hl;omega) (show bytes+1≤256 by omega)) (by decide)
       simp only[bN,t0,t1,hs,hx,T2,aG.size,hb,hlen,hf,xz,hz,te,Dl,hg,Kc,if_true,if_false,and_self,Bool.false_eq_true,Nat.zero_mul,Nat.add_zero,Nat.zero_add,List.length_nil,Nat.le_refl] at e1
       rw[if_pos ⟨RU,trivial,fun e=>e.elim⟩] at e1
       obtain ⟨h2,n⟩:=qY (h:=h) (.cells (List.take 0 (List.drop 0 [])++m.flatMap aG.c) (aG.e α) false)
       rw[n] at e1
       simp only[Option.some.injEq,Prod.mk.injEq] at e1
       rw[←e1.2];exact pz y n g
     · exact e6 i w (fun o n c b q=>hi (AV.slice.inj q).1.symm) g
   · exact absurd rfl hn
theorem ok_one {x:α} (o:aG.ok h x):∀y∈ [x],aG.ok h y:=fun y hy=>by
 rw[List.mem_singleton] at hy;subst hy;exact o
theorem Dm (a:∀y∈l,aG.ok h y) (b:∀y∈m,aG.ok h y):∀y∈l++m,aG.ok h y:=fun y hy=>(List.mem_append.1 hy).elim (a y) (b y)
theorem ED (g:Has h h') (a:∀y∈l,aG.ok h y):∀y∈l,aG.ok h' y:=fun y hy=>aG.mono g (a y hy)
class Flat (α:Type) [aG α]:Prop where
 free:∀{h h':aq} {x:α},aG.ok h x→aG.ok h' x
theorem n_ {D:Type} [aG D] [Flat D] {h h':aq} {l:List D} (a:∀y∈l,aG.ok h y):∀y∈l,aG.ok h' y:=fun y hy=>Flat.free (a y hy)
theorem B3 {v:AV} (x:bf h v l) (sc:∀y∈l,(aG.c y).all AV.scalar=true):(l.flatMap aG.c).all AV.scalar=true:=by
 rw[List.all_eq_true]
 intro z hz
 obtain ⟨y,hy,Y1⟩:=List.mem_flatMap.1 hz
 exact List.all_eq_true.1 (sc y hy) z Y1
theorem fv {f:FuncId} {fn:Func} {c:Code} {args M6 ts:List AV} {h h':aq} {call:aY} {x:iS} {v w:AV} {a r:Tmp} {t:TypeId} {i:Nat} (hf:env.P.funcs[f]? =some fn) (hb:fn.body=some c) (ht:args++List.replicate (fn.ntmps - args.length) AV.undef=M6) (hx:x= .normal∨x= .ret)
 (e:Ev env call c ⟨M6,h,[],.no⟩ x ⟨ts,h',[],.no⟩) (Ql:(fn.results.toList,ts.getD a AV.undef,ts.getD r AV.undef)=([.cell a t,.tmp r],AV.ptr i 0,w)) (hl:b9 env h' t (.ptr i 0)=some v):sg env call f args h (.tuple [v,w]) h':=by
 refine bb hf hb ht hx e ?_
 rw[show fn.results.toList=[.cell a t,.tmp r] from congrArg Prod.fst Ql]
 simp only[iw,show ts.getD a AV.undef= .ptr i 0 from congrArg (fun q=>q.2.1) Ql,show ts.getD r AV.undef=w from congrArg (fun q=>q.2.2) Ql,hl,Option.map_some]
 rfl
theorem bf.mK {v:AV} (x:bf h v l):mK v=some l.length:=by
 have hl:=x.at_.lens
 rcases x.known with rfl | rfl | ⟨p,o,m,c,b,rfl,_⟩
 · rw[r_] at hl
   simp only[Option.some.injEq,AV.int.injEq,true_and] at hl
   rw[show l.length=0 by omega];rfl
 · rw[O0] at hl
   simp only[Option.some.injEq,AV.int.injEq,true_and] at hl
   rw[show l.length=0 by omega];rfl
 · rw[hF] at hl
   simp only[Option.some.injEq,AV.int.injEq,true_and] at hl
   rw[show l.length=m by omega];rfl
theorem bf.first {v:AV} (x:bf h v l):ez h (aG.n α) l.length v=some (l.flatMap aG.c):=by
 by_cases hl:l=[]
 · subst hl
   rcases x.known with rfl | rfl | ⟨p,o,m,c,b,rfl,_⟩<;>simp [ez]
 · have W3:0<l.length:=List.length_pos_iff.2 hl
   have Oo:=cX aG.len l
   rcases x.at_.block with h0 | ⟨p,o,m,c,b,C,f,ro,h1,_,h2,h3⟩
   · omega
   · subst h1
     have hm:m=l.length:=by
      have:=x.at_.lens
      rw[hF] at this
      simp only[Option.some.injEq,AV.int.injEq,true_and] at this
      omega
     subst hm
     have hC:o+l.length*aG.n α≤C.length:=by
      rcases Nat.eq_zero_or_pos (l.length*aG.n α) with h0 | h0
      · have:=Nat.mul_pos W3 (aG.pos (α:=α));omega
      · have:=h3 (l.length*aG.n α - 1) (by omega)
        rw[List.getElem?_eq_getElem (by omega:l.length*aG.n α - 1<(l.flatMap aG.c).length)] at this
        have:=(List.getElem?_eq_some_iff.1 this).1
        omega
     simp only[ez,Nat.le_refl,if_true,if_false,show ¬l.length=0 by omega,h2,hC]
     congr 1
     apply List.ext_getElem?
     intro j
     by_cases hj:j<l.length*aG.n α
     · rw[List.getElem?_take_of_lt hj,List.getElem?_drop,h3 j (by omega)]
     · rw[List.getElem?_eq_none (by rw[List.length_take];omega),List.getElem?_eq_none (by omega)]
theorem wz {i:Nat} {b:Bool} {x:α} {e:TypeId} {ro:Bool} (hg:h.get i=some (.cells (aG.c x) e ro)):ez h (aG.n α) [x].length (.slice i 0 1 1 b)=some ([x].flatMap aG.c):=by
 have:=aG.len x
 simp only[ez,List.length_singleton,Nat.le_refl,if_true,hg,Nat.one_ne_zero,if_false,Nat.one_mul,Nat.zero_add,this,List.drop_zero,List.flatMap_cons,List.flatMap_nil,List.append_nil]
 rw[List.take_of_length_le (by omega)]
theorem gD.rows (o:gD h0 h z l) (hl:l.length<2^60) (hk:∀x∈l,aG.ok h x):bf h z l:=by
 rcases o with ⟨rfl | ⟨p,rfl,h1,h2⟩,rfl⟩ | ⟨hn,p,op,rfl,h1,g⟩
 · exact ⟨⟨aG.size,(Nat.zero_mul _).symm,hl,rfl,.inl rfl⟩,.inl rfl,hk⟩
 · exact ⟨⟨aG.size,(Nat.zero_mul _).symm,hl,rfl,.inl rfl⟩,.inr (.inr ⟨_,_,_,_,_,rfl,fun e=>by cases e⟩),hk⟩
 · have:=List.length_pos_iff.2 hn
   exact ⟨⟨aG.size,cX aG.len l,hl,rfl,.inr ⟨p,0,_,_,op,_,_,_,rfl,Nat.le_refl _,g,fun j _=>by rw[Nat.zero_add]⟩⟩,.inr (.inr ⟨_,_,_,_,_,rfl,fun _=>this⟩),hk⟩
end
structure bn where
 ab:Int
 ae:Int
 out:Int
@[reducible] def bn.c (x:bn):List AV:=[.int .i64 x.ab,.int .i64 x.ae,.int .i64 x.out]
def bn.ok (h:aq) (x:bn):Prop:=True
def bn.eq (x y:bn):Bool:=(x.ab==y.ab)&&(x.ae==y.ae)&&(x.out==y.out)
theorem bn.deep (x y:bn):jb env 16 29 (.agg (bn.c x)) (.agg (bn.c y))=some (bn.eq x y):=by
 have e:jb env 16 29 (.agg (bn.c x)) (.agg (bn.c y))=(match some (x.ab==y.ab) with | some true=>(match some (x.ae==y.ae) with | some true=>(match some (x.out==y.out) with | some true=>some true | some false=>some false | none=>none) | some false=>some false | none=>none) | some false=>some false | none=>none):=by kernel_rfl
 rw[e,bn.eq]
 cases (x.ab==y.ab)<;>try rfl
 cases (x.ae==y.ae)<;>try rfl
 cases (x.out==y.out)<;>try rfl
theorem bn.eql (x y:bn) {a b:Bool}:dX env .eql 29 a b (some (.agg (bn.c x))) (some (.agg (bn.c y)))=some (.bool (bn.eq x y)):=by
 show (if env.P.eqGuardType env.P.depth 29 then none else (match jb env 16 29 (.agg (bn.c x)) (.agg (bn.c y)) with | some r=>some (AV.bool (r)) | none=>none))=_
 rw[show env.P.eqGuardType env.P.depth 29=false by kernel_rfl,bn.deep];rfl
theorem bn.neq (x y:bn) {a b:Bool}:dX env .neq 29 a b (some (.agg (bn.c x))) (some (.agg (bn.c y)))=some (.bool (!bn.eq x y)):=by
 show (if env.P.eqGuardType env.P.depth 29 then none else (match jb env 16 29 (.agg (bn.c x)) (.agg (bn.c y)) with | some r=>some (AV.bool (!r)) | none=>none))=_
 rw[show env.P.eqGuardType env.P.depth 29=false by kernel_rfl,bn.deep];rfl
instance:aG bn where
 default:=⟨0,0,0⟩
 c:=bn.c
 n:=3
 e:=29
 len _:=rfl
 ok:=bn.ok
 mono a o:=o
 size:=by kernel_rfl
 agg:=by kernel_rfl
 pos:=by decide
theorem bn.sc {h:aq} {x:bn} (o:bn.ok h x):(bn.c x).all AV.scalar=true:=by
 rfl
instance:Flat bn where
 free o:=o
structure aw where
 worker:List UInt8
 ab:Int
 aD:Int
 leave:Int
 out:Int
@[reducible] def aw.c (x:aw):List AV:=[.str x.worker,.int .i64 x.ab,.int .i64 x.aD,.int .i64 x.leave,.int .i64 x.out]
def aw.ok (h:aq) (x:aw):Prop:=x.worker.length<2^60
def aw.eq (x y:aw):Bool:=(x.worker==y.worker)&&(x.ab==y.ab)&&(x.aD==y.aD)&&(x.leave==y.leave)&&(x.out==y.out)
theorem aw.deep (x y:aw):jb env 16 34 (.agg (aw.c x)) (.agg (aw.c y))=some (aw.eq x y):=by
 have e:jb env 16 34 (.agg (aw.c x)) (.agg (aw.c y))=(match some (x.worker==y.worker) with | some true=>(match some (x.ab==y.ab) with | some true=>(match some (x.aD==y.aD) with | some true=>(match some (x.leave==y.leave) with | some true=>(match some (x.out==y.out) with | some true=>some true | some false=>some false | none=>none) | some false=>some false | none=>none) | some false=>some false | none=>none) | some false=>some false | none=>none) | some false=>some false | none=>none):=by kernel_rfl
 rw[e,aw.eq]
 cases (x.worker==y.worker)<;>try rfl
 cases (x.ab==y.ab)<;>try rfl
 cases (x.aD==y.aD)<;>try rfl
 cases (x.leave==y.leave)<;>try rfl
 cases (x.out==y.out)<;>try rfl
theorem aw.eql (x y:aw) {a b:Bool}:dX env .eql 34 a b (some (.agg (aw.c x))) (some (.agg (aw.c y)))=some (.bool (aw.eq x y)):=by
 show (if env.P.eqGuardType env.P.depth 34 then none else (match jb env 16 34 (.agg (aw.c x)) (.agg (aw.c y)) with | some r=>some (AV.bool (r)) | none=>none))=_
 rw[show env.P.eqGuardType env.P.depth 34=false by kernel_rfl,aw.deep];rfl
theorem aw.neq (x y:aw) {a b:Bool}:dX env .neq 34 a b (some (.agg (aw.c x))) (some (.agg (aw.c y)))=some (.bool (!aw.eq x y)):=by
 show (if env.P.eqGuardType env.P.depth 34 then none else (match jb env 16 34 (.agg (aw.c x)) (.agg (aw.c y)) with | some r=>some (AV.bool (!r)) | none=>none))=_
 rw[show env.P.eqGuardType env.P.depth 34=false by kernel_rfl,aw.deep];rfl
instance:aG aw where
 default:=⟨[],0,0,0,0⟩
 c:=aw.c
 n:=5
 e:=34
 len _:=rfl
 ok:=aw.ok
 mono a o:=o
 size:=by kernel_rfl
 agg:=by kernel_rfl
 pos:=by decide
theorem aw.sc {h:aq} {x:aw} (o:aw.ok h x):(aw.c x).all AV.scalar=true:=by
 rfl
instance:Flat aw where
 free o:=o
structure aH where
 ar:AV
 rows:List bn
 rest:Int
 day:Int
@[reducible] def aH.c (x:aH):List AV:=[x.ar,.int .i64 x.rest,.int .i64 x.day]
def aH.ok (h:aq) (x:aH):Prop:=bf h x.ar x.rows
instance:aG aH where
 default:=⟨.aF,[],0,0⟩
 c:=aH.c
 n:=3
 e:=24
 len _:=rfl
 ok:=aH.ok
 mono a o:=(o).has a
 size:=by kernel_rfl
 agg:=by kernel_rfl
 pos:=by decide
theorem aH.sc {h:aq} {x:aH} (o:aH.ok h x):(aH.c x).all AV.scalar=true:=by
 simp only[aH.c,List.all_cons,List.all_nil,(show AV.scalar x.ar=true from (o).scalar),Bool.true_and]<;>rfl
structure dV where
 ak:AV
 eP:List bn
 ao:Int
 ax:Int
 aE:AV
 ahead:List aw
 aj:List UInt8
 ah:Int
 aB:Int
 ai:Int
 az:Int
@[reducible] def dV.c (x:dV):List AV:=[x.ak,.int .i64 x.ao,.int .i64 x.ax,x.aE,.str x.aj,.int .i64 x.ah,.int .i64 x.aB,.int .i64 x.ai,.int .i64 x.az]
def dV.ok (h:aq) (x:dV):Prop:=bf h x.ak x.eP∧bf h x.aE x.ahead∧x.aj.length<2^60
instance:aG dV where
 default:=⟨.aF,[],0,0,.aF,[],[],0,0,0,0⟩
 c:=dV.c
 n:=9
 e:=82
 len _:=rfl
 ok:=dV.ok
 mono a o:=⟨(o.1).has a,(o.2.1).has a,o.2.2⟩
 size:=by kernel_rfl
 agg:=by kernel_rfl
 pos:=by decide
theorem dV.sc {h:aq} {x:dV} (o:dV.ok h x):(dV.c x).all AV.scalar=true:=by
 simp only[dV.c,List.all_cons,List.all_nil,(show AV.scalar x.ak=true from (o.1).scalar),(show AV.scalar x.aE=true from (o.2.1).scalar),Bool.true_and]<;>rfl
theorem qZ {p:Prop} [Decidable p] (h:(!decide p)=true):¬p:=by intro q;rw[decide_eq_true q] at h;cases h
theorem ra {p:Prop} [Decidable p] (h:(!decide p)=false):p:=by by_cases q:p;exact q;rw[decide_eq_false q] at h;cases h
def bs (l:List Bool):List AV:=l.map AV.bool
theorem O9 (l:List Bool):(bs l).length=l.length:=by simp [bs]
theorem O_ (l:List Bool) {i:Nat} (hi:i<l.length):(bs l)[i]? =some (.bool (l.g i)):=by
 rw[bs,List.getElem?_map,List.getElem?_eq_getElem hi,List.g,List.getD_eq_getElem?_getD,List.getElem?_eq_getElem hi];rfl
section
variable {h:aq} {t e:TypeId} {p i n:Nat}
end
structure B4 (h:aq) (e:TypeId) (v:AV) (l:List Bool):Prop where
 at_:lB env h e 1 v l.length (bs l)
 agg:eM env e=some false
section
variable {h h':aq} {e:TypeId} {v:AV} {l:List Bool}
theorem B4.small (x:B4 h e v l):l.length<2^60:=x.at_.small
theorem B4.elem (x:B4 h e v l) {i:Nat} (hi:i<l.length):∃p q,ep env (some (.slice e)) (some v) (some (.int .i64 ((i:Nat):Int)))=some (.ptr p q)∧b9 env h e (.ptr p q)=some (.bool (l.g i)):=x.at_.elem x.agg (O_ l hi)
theorem B4.load (x:B4 h e v l) {i p q:Nat} (hi:i<l.length) (hx:ep env (some (.slice e)) (some v) (some (.int .i64 ((i:Nat):Int)))=some (.ptr p q)):b9 env h e (.ptr p q)=some (.bool (l.g i)):=by
 obtain ⟨p',q',h1,h2⟩:=x.elem hi
 rw[hx] at h1
 simp only[Option.some.injEq,AV.ptr.injEq] at h1
 obtain ⟨rfl,rfl⟩:=h1
 exact h2
theorem B4.own {p n:Nat} {op ro:Bool} {f:TypeId} (hs:bY env e=some 1) (ha:eM env e=some false) (hg:h.get p=some (.cells (bs l) f ro)) (hn:l.length=n) (Vt:n<2^60):B4 h e (.slice p 0 n n op) l:=by
 subst hn
 exact ⟨⟨hs,by rw[O9];omega,Vt,rfl,.inr ⟨p,0,_,_,op,_,_,_,rfl,Nat.le_refl _,hg,fun j _=>by rw[Nat.zero_add]⟩⟩,ha⟩
theorem ff.own {k:IntKind} {p n:Nat} {op ro:Bool} {f:TypeId} {l:List Int} (hs:bY env e=some 1) (ha:eM env e=some false) (hg:h.get p=some (.cells (zs k l) f ro)) (hn:l.length=n) (Vt:n<2^60):ff h k e (.slice p 0 n n op) l:=by
 subst hn
 exact ⟨⟨hs,by rw[kW];omega,Vt,rfl,.inr ⟨p,0,_,_,op,_,_,_,rfl,Nat.le_refl _,hg,fun j _=>by rw[Nat.zero_add]⟩⟩,ha,.inr (.inr ⟨_,_,_,_,_,rfl⟩)⟩
end
def sj {σ ρ:Type} (call:aY) (b:Code) (s:St) (ex:iS) (hh:aq) (tn:σ→AV→(Nat→AV)→List AV) (tr:ρ→AV→(Nat→AV)→List AV) (Qn:σ→AV→aq→Prop) (Qr:ρ→AV→aq→Prop):σ ⊕ ρ→Prop
 | .inl v=>∃z y hk,Ev env call (.loop b) s ex ⟨tn v z y,hk,[],.no⟩∧Tidy hk∧hh.nx≤hk.nx∧Qn v z hk
 | .inr r=>∃z y hk,Ev env call (.loop b) s .ret ⟨tr r z y,hk,[],.no⟩∧Tidy hk∧hh.nx≤hk.nx∧Qr r z hk
section
variable {σ ρ:Type} {call:aY} {b:Code} {s:St} {ex:iS} {hh hk:aq} {tn:σ→AV→(Nat→AV)→List AV} {tr:ρ→AV→(Nat→AV)→List AV} {Qn:σ→AV→aq→Prop} {Qr:ρ→AV→aq→Prop}
theorem sj.n {o:σ ⊕ ρ} {v:σ} (e:o= .inl v) (x:sj call b s ex hh tn tr Qn Qr o):∃z y hk,Ev env call (.loop b) s ex ⟨tn v z y,hk,[],.no⟩∧Tidy hk∧hh.nx≤hk.nx∧Qn v z hk:=by subst e;exact x
theorem sj.r {o:σ ⊕ ρ} {r:ρ} (e:o= .inr r) (x:sj call b s ex hh tn tr Qn Qr o):∃z y hk,Ev env call (.loop b) s .ret ⟨tr r z y,hk,[],.no⟩∧Tidy hk∧hh.nx≤hk.nx∧Qr r z hk:=by subst e;exact x
theorem sj.out {i:Nat} {L:List AV} {o:σ ⊕ ρ} (v:σ) (z:AV) (e:o= .inl v) (ev:Ev env call b s (.exit i) ⟨L,hk,[],.no⟩) (y1:Tidy hk) (n1:hh.nx≤hk.nx) (q:Qn v z hk) (hl:L=tn v z fun k=>L.getD k AV.undef):sj call b s (.exit i) hh tn tr Qn Qr o:=by
 subst e
 obtain ⟨y,x⟩:=j6 (tmpl:=tn v z) (Ev.out ev) hl
 exact ⟨z,y,hk,x,y1,n1,q⟩
theorem sj.round {L:List AV} {o o':σ ⊕ ρ} (e:o=o') (ev:Ev env call b s .normal ⟨L,hk,[],.no⟩) (n1:hh.nx≤hk.nx) (B0:(Nat→AV)→List AV) (hl:L=B0 fun k=>L.getD k AV.undef) (ih:∀x,sj call b ⟨B0 x,hk,[],.no⟩ ex hk tn tr Qn Qr o'):sj call b s ex hh tn tr Qn Qr o:=by
 subst e
 have q:=ih fun k=>L.getD k AV.undef
 rw[←hl] at q
 cases o with
 | inl v=>obtain ⟨z,y,h2,x,y1,n2,g⟩:=q;exact ⟨z,y,h2,Ev.loop ev x,y1,Nat.le_trans n1 n2,g⟩
 | inr r=>obtain ⟨z,y,h2,x,y1,n2,g⟩:=q;exact ⟨z,y,h2,Ev.loop ev x,y1,Nat.le_trans n1 n2,g⟩
end
theorem gd.EF {e:TypeId} {h0 h:aq} {z:AV} {L:List AV} {n:Nat} (o:gd e h0 h z L) (v:AV.within h0.nx (n+1) z=true):gd e h0 h0 z L:=by
 rcases o with ⟨rfl,e0⟩ | ⟨hn,p,op,rfl,hp,hg⟩
 · exact .inl ⟨rfl,e0⟩
 · have:=of_decide_eq_true (show decide (p<h0.nx)=true from v)
   omega
def oJ (x:Int):Int:=Int.fdiv x (2^(min (Int.toNat 1) 64))
theorem Ev.to {call:aY} {b:Code} {s:St} {e:iS} {L L':List AV} {hk:aq} (ev:Ev env call b s e ⟨L,hk,[],.no⟩) (hl:L=L'):Ev env call b s e ⟨L',hk,[],.no⟩:=hl▸ev
theorem I1 {v:AV} (h:AV.scalar v=true):v.cells=[v]:=by cases v<;>first | rfl | cases h
theorem RX {h:aq} {t e:TypeId} {i o:Nat} {cs N:List AV} {v:AV} (y:Tidy h) (gg:h.get i=some (.cells cs e false)) (hs:bY env t=some 1) (hk:AV.scalar v=true) (hl:Nat.ble (o+1) cs.length=true) (hN:setFrom cs o [v]=N):∃h',fE env h t (.ptr i o) v=some h'∧Tidy h'∧h'.nx=h.nx∧h'.get i=some (.cells N e false)∧Kept i h h':=by
 have c:=I1 hk
 exact I0 y gg hs (by rw[c];rfl) hl (by rw[c];exact hN) (by rw[c];simp [hk])
theorem M7 (f:FuncId) (a b:List AV):AV.scalar (.func f a b)=true:=rfl
theorem F0 {x:Int} (h0:0≤x) (h1:x<18446744073709551616):IntKind.u64.wrap x=x:=by
 have:=IV x.toNat
 rw[show ((x.toNat:Nat):Int)=x by omega] at this
 rw[this]
 omega
theorem M8 {i j:Int} (h0:0≤i) (h1:i<j) (h2:j≤1000000):IntKind.i64.wrap (oJ (IntKind.u64.wrap (i+j)))=(i+j) /2∧i≤(i+j) /2∧(i+j) /2<j:=by
 have e:IntKind.u64.wrap (i+j)=i+j:=F0 (by omega) (by omega)
 have e2:oJ (i+j)=(i+j) /2:=by
  show Int.fdiv (i+j) 2=_
  rw[Int.fdiv_eq_ediv_of_nonneg _ (by decide)]
 rw[e,e2,wrap_i64 (by omega) (by omega)]
 exact ⟨rfl,by omega,by omega⟩
theorem B5 {f:FuncId} {fn:Func} {c:Code} {args M6 ts:List AV} {h h':aq} {call:aY} {x:iS} {v:AV} {a:Tmp} {t:TypeId} {i:Nat} (hf:env.P.funcs[f]? =some fn) (hb:fn.body=some c) (ht:args++List.replicate (fn.ntmps - args.length) AV.undef=M6) (hx:x= .normal∨x= .ret)
 (e:Ev env call c ⟨M6,h,[],.no⟩ x ⟨ts,h',[],.no⟩) (Ql:(fn.results.toList,ts.getD a AV.undef)=([.cell a t],AV.ptr i 0)) (hl:b9 env h' t (.ptr i 0)=some v):sg env call f args h v h':=by
 refine bb hf hb ht hx e ?_
 rw[show fn.results.toList=[.cell a t] from congrArg Prod.fst Ql]
 simp only[iw,show ts.getD a AV.undef= .ptr i 0 from congrArg (fun q=>q.2) Ql,hl,Option.map_some]
 rfl
section
variable {α:Type} [aG α]
theorem gD.RY {h0 h:aq} {z:AV} {l:List α} {n:Nat} (o:gD h0 h z l) (v:AV.within h0.nx (n+1) z=true):bf h0 z l:=by
 have nl:∀z,(z= .aF∨∃p,z=AV.slice p 0 0 0 false∧h0.nx≤p)→AV.within h0.nx (n+1) z=true→bf h0 z ([]:List α):=fun z hz v=>by
  rcases hz with rfl | ⟨p,rfl,hp⟩
  · exact ⟨⟨aG.size,(Nat.zero_mul _).symm,(show (0:Nat)<2^60 by decide),rfl,.inl rfl⟩,.inl rfl,fun _ hx=>by cases hx⟩
  · have:=of_decide_eq_true (show decide (p<h0.nx)=true from v)
    omega
 rcases o with ⟨rfl | ⟨p,rfl,h1,h2⟩,rfl⟩ | ⟨hn,p,op,rfl,hp,hg⟩
 · exact nl _ (.inl rfl) v
 · exact nl _ (.inr ⟨p,rfl,h1⟩) v
 · have:=of_decide_eq_true (show decide (p<h0.nx)=true from v)
   omega
theorem gD.le {h0 h1 h:aq} {z:AV} {l:List α} (o:gD h1 h z l) (hn:h0.nx≤h1.nx):gD h0 h z l:=by
 rcases o with ⟨rfl | ⟨p,rfl,h1,h2⟩,rfl⟩ | ⟨dt,p,op,e,h1,g⟩
 · exact .inl ⟨.inl rfl,rfl⟩
 · exact .inl ⟨.inr ⟨p,rfl,by omega,h2⟩,rfl⟩
 · exact .inr ⟨dt,p,op,e,by omega,g⟩
def jD {σ:Type} (call:aY) (b:Code) (s:St) (ex:iS) (h:aq) (tn:σ→AV→(Nat→AV)→List AV) (own:σ→List α) (N:Nat) (r:σ):Prop:=∃z y hk,Ev env call (.loop b) s ex ⟨tn r z y,hk,[],.no⟩∧b4 h hk∧gD h hk z (own r)∧(∀y∈own r,aG.ok hk y)∧(own r).length≤N
variable {σ:Type} {call:aY} {b:Code} {s:St} {ex:iS} {h hk:aq} {tn:σ→AV→(Nat→AV)→List AV} {own:σ→List α} {N:Nat}
theorem jD.out {i:Nat} {L:List AV} {o:σ} (r:σ) (z:AV) (e1:o=r) (ev:Ev env call b s (.exit i) ⟨L,hk,[],.no⟩) (G:b4 h hk) (oz:gD h hk z (own r)) (ok:∀y∈own r,aG.ok hk y) (ln:(own r).length≤N) (hl:L=tn r z fun k=>L.getD k AV.undef):jD call b s (.exit i) h tn own N o:=by
 subst e1
 obtain ⟨y,q⟩:=j6 (tmpl:=tn o z) (Ev.out ev) hl
 exact ⟨z,y,hk,q,G,oz,ok,ln⟩
theorem jD.round {L:List AV} {o o':σ} (e1:o=o') (ev:Ev env call b s .normal ⟨L,hk,[],.no⟩) (B0:(Nat→AV)→List AV) (hl:L=B0 fun k=>L.getD k AV.undef) (ih:∀x,jD call b ⟨B0 x,hk,[],.no⟩ ex h tn own N o'):jD call b s ex h tn own N o:=by
 subst e1
 have q:=ih fun k=>L.getD k AV.undef
 rw[←hl] at q
 obtain ⟨z,y,h2,x,g,oz,ok,ln⟩:=q;exact ⟨z,y,h2,Ev.loop ev x,g,oz,ok,ln⟩
end
section
variable {α:Type} [aG α]
theorem I2 {l:List α} {i:Nat} (h:i<l.length) (x:α):(l.set i x).g i=x:=by
 rw[List.g,List.getD_eq_getElem?_getD,List.getElem?_set_self h];rfl
theorem I3 {l:List α} {i j:Nat} (h:i≠j) (x:α):(l.set i x).g j=l.g j:=by
 rw[List.g,List.g,List.getD_eq_getElem?_getD,List.getD_eq_getElem?_getD,List.getElem?_set_ne h]
theorem Ak {l:List α} {i:Nat} (h:i<l.length) (x:α):setFrom (l.flatMap aG.c) (i*aG.n α) (aG.c x)=(l.set i x).flatMap aG.c:=by
 have hn:0<aG.n α:=aG.pos
 have hl:=cX aG.len l
 have MC:=cX aG.len (l.set i x)
 rw[List.length_set] at MC
 have hx:=aG.len x
 apply List.ext_getElem?
 intro k
 rw[g9,hx,hl]
 have hk:k=k/aG.n α*aG.n α+k%aG.n α:=by rw[Nat.mul_comm];exact (Nat.div_add_mod k _).symm
 have hr:=Nat.mod_lt k hn
 generalize k/aG.n α=q at hk
 generalize k%aG.n α=r at hk hr
 by_cases hq:q<l.length
 · have h1:=kG aG.len l q r hq hr
   have h2:=kG aG.len (l.set i x) q r (by rw[List.length_set];exact hq) hr
   subst hk
   by_cases e:q=i
   · subst e
     have:q*aG.n α+aG.n α≤l.length*aG.n α:=by rw[←Nat.succ_mul];exact Nat.mul_le_mul_right _ hq
     rw[if_pos ⟨by omega,by omega,by omega⟩,h2,I2 hq,Nat.add_sub_cancel_left]
   · rw[if_neg,h1,h2,I3 (Ne.symm e)]
     intro ⟨a,b,c⟩
     rcases Nat.lt_or_gt_of_ne e with e | e
     · have:q*aG.n α+aG.n α≤i*aG.n α:=by rw[←Nat.succ_mul];exact Nat.mul_le_mul_right _ e
       omega
     · have:i*aG.n α+aG.n α≤q*aG.n α:=by rw[←Nat.succ_mul];exact Nat.mul_le_mul_right _ e
       omega
 · have:l.length*aG.n α≤q*aG.n α:=Nat.mul_le_mul_right _ (by omega)
   rw[if_neg (by omega),List.getElem?_eq_none (by omega),List.getElem?_eq_none (by omega)]
theorem gD.at {h0 h:aq} {z:AV} {l:List α} (y:Tidy h) (y0:Tidy h0) (a:Has h0 h) (o:gD h0 h z l) {i:Nat} (hi:i<l.length):
 ∃p,ep env (some (.slice (aG.e α))) (some z) (some (.int .i64 ((i:Nat):Int)))=some (.ptr p (i*aG.n α))∧
  ∀x:α,(aG.c x).all AV.scalar=true→∃h',fE env h (aG.e α) (.ptr p (i*aG.n α)) (.agg (aG.c x))=some h'∧Tidy h'∧h'.nx=h.nx∧gD h0 h' z (l.set i x)∧Has h0 h':=by
 rcases o with ⟨_,rfl⟩ | ⟨hn,p,op,rfl,hp,hg⟩
 · simp at hi
 · have ix:=n6 (E:=env) (i:=p) (o:=0) (c:=l.length) (b:=op) (aG.size (α:=α)) hi
   rw[Nat.zero_add] at ix
   refine ⟨p,ix,fun x hx=>?_⟩
   have hl:=cX aG.len l
   have hb:i*aG.n α+aG.n α≤l.length*aG.n α:=by rw[←Nat.succ_mul];exact Nat.mul_le_mul_right _ hi
   obtain ⟨h',s⟩:=BW (E:=env) (t:=aG.e α) (o:=i*aG.n α) (n:=aG.n α) (v:= .agg (aG.c x)) hg aG.size (aG.len x) (by omega) hx
   have g':=yM y s hg
   refine ⟨h',s,wx y s hg,wv s hg,.inr ⟨by intro e;rw[←List.length_eq_zero_iff,List.length_set] at e;omega,p,op,by rw[List.length_set],hp,?_⟩,fun j w gw=>?_⟩
   · rw[g']
     show some (aP.cells (setFrom (l.flatMap aG.c) (i*aG.n α) (aG.c x)) _ _)=_
     rw[Ak hi]
   · have:=y0 _ _ gw
     exact wu y s hg (by omega) (a _ _ gw)
theorem I4 {h:aq} {l:List α} {i:Nat} {x:α} (a:∀y∈l,aG.ok h y) (b:aG.ok h x):∀y∈l.set i x,aG.ok h y:=fun y hy=>(List.mem_or_eq_of_mem_set hy).elim (a y) fun e=>e▸b
end
def jE:Code→List Code
 | .seq a b=>jE a++jE b
 | .cond _ a b=>jE a++jE b
 | .block _ b=>jE b
 | .loop b=>jE b
 | .scope b=>jE b
 | .rangeFunc _ _ a b=>jE a++jE b
 | .region i o d=> [.region i o d]
 | _=> []
noncomputable def iW:Code:=(Tryz.f50.body).getD .skip
theorem sm:Tryz.f50.body=some iW:=by kernel_rfl
noncomputable def jF:Code:=(cP iW).getD 0 .skip
def b5 (s:List bn) (P:bn→Bool):Nat→Nat→Option (Int)
 | 0,_=>none
 | dC+1,i0=>(bif (P (s.g i0)) then some ((i0:Nat):Int) else b5 s P dC (i0+1))
theorem kX {d:Nat} {h:aq} (sV:AV) (g:FuncId) (cap:List AV) (s:List bn) (P:bn→Bool) (bC:bf h sV s) (hP:∀y∈s,∀hh,Tidy hh→Has h hh→dH d (.fn g) (.agg (aG.c y)::cap) hh= .ret (.bool (P y)) hh):∀(k_ i_:Nat) (_:i_+k_=s.length) (x:Nat→AV) (hh:aq) (aX:Tidy hh) (a_:Has h hh),aS (dH (d)) jF ⟨(sV::(AV.func g [] cap)::rx x 2 5 ((AV.int .i64 ((s.length:Nat):Int))::(AV.int .i64 ((i_:Nat):Int))::rx x 9 10 [])),hh,[],.no⟩ (.exit 0) hh (fun y=>(sV::(AV.func g [] cap)::rx y 2 5 ((AV.int .i64 ((s.length:Nat):Int))::rx y 8 11 []))) (fun r y=>(sV::(AV.func g [] cap)::(y 2)::(y 3)::(AV.int .i64 r)::(y 5)::(y 6)::(AV.int .i64 ((s.length:Nat):Int))::rx y 8 11 [])) (b5 s P k_ i_)
 | 0,i0,pB,x,hh,aX,a_=>by
   have eQ:=bC.small
   have q1:(decide (((i0:Nat):Int)<((s.length:Nat):Int)))=false:=d!
   have ev:=pk (d) jF (sV::(AV.func g [] cap)::rx x 2 5 ((AV.int .i64 ((s.length:Nat):Int))::(AV.int .i64 ((i0:Nat):Int))::rx x 9 10 [])) hh (.exit 0) hh (VV (bz 3 false false .i64 ((i0:Nat):Int) ((s.length:Nat):Int))<|BB q1<|ZZ) k!
   exact aS.out rfl ev (b4.refl aX) k!
 | dC+1,i0,pB,x,hh,aX,a_=>by
   have eQ:=bC.small
   have q1:(decide (((i0:Nat):Int)<((s.length:Nat):Int)))=true:=d!
   obtain ⟨p3,q4,kH⟩:=(bC.has a_).elem (i:=i0) o!
   have kO:ep env (some (.slice 29)) (some sV) (some (AV.int .i64 ((i0:Nat):Int)))=some (AV.ptr p3 q4):=kH
   have pC:b9 env hh 29 (AV.ptr p3 q4)=some (AV.agg [(AV.int .i64 ((s.g i0).ab)),(AV.int .i64 ((s.g i0).ae)),(AV.int .i64 ((s.g i0).out))]):=(bC.has a_).load o! kH
   have k6:=hP (s.g i0) (BZ o!) hh aX a_
   rcases Bool.eq_false_or_eq_true (P (s.g i0)) with f1 | f1
   · have ev:=pk (d) jF (sV::(AV.func g [] cap)::rx x 2 5 ((AV.int .i64 ((s.length:Nat):Int))::(AV.int .i64 ((i0:Nat):Int))::rx x 9 10 [])) hh .ret hh (VV (bz 3 false false .i64 ((i0:Nat):Int) ((s.length:Nat):Int))<|BB q1<|CN 5<|VV kO<|MM pC<|EE k6<|BB f1<|CN 2<|ZZ) k!
     exact aS.ret ((i0:Nat):Int) (by simp only[b5,f1,cond_true,cond_false]) ev (b4.refl aX) k!
   · have u8:=fV 3 false true i0 1 o!
     have ev:=pk (d) jF (sV::(AV.func g [] cap)::rx x 2 5 ((AV.int .i64 ((s.length:Nat):Int))::(AV.int .i64 ((i0:Nat):Int))::rx x 9 10 [])) hh .normal hh (VV (bz 3 false false .i64 ((i0:Nat):Int) ((s.length:Nat):Int))<|BB q1<|CN 5<|VV kO<|MM pC<|EE k6<|BB f1<|VV u8<|CC<|ZZ) k!
     exact aS.round (by simp only[b5,f1,cond_true,cond_false]) ev (b4.refl aX) (fun x=>(sV::(AV.func g [] cap)::rx x 2 5 ((AV.int .i64 ((s.length:Nat):Int))::(AV.int .i64 (((i0+1):Nat):Int))::rx x 9 10 []))) k! (fun x=>kX sV g cap s P bC hP dC (i0+1) o! x hh aX a_)
def bW (s:List bn) (P:bn→Bool):Int:=(match (b5 s P s.length 0) with | none=>(-1) | some I5=>I5)
theorem Al {d:Nat} {h:aq} {sV:AV} {g:FuncId} {cap:List AV} (s:List bn) (P:bn→Bool) (jl:bf h sV s) (hP:∀y∈s,∀hh,Tidy hh→Has h hh→dH d (.fn g) (.agg (aG.c y)::cap) hh= .ret (.bool (P y)) hh) (di:Tidy h):dH (d+1) (.fn 50) [sV,(AV.func g [] cap)] h= .ret (AV.int .i64 (bW s P)) h:=by
 have M9:=jl.small
 have jG:dU (some (.slice 29)) (some sV)=some (AV.int .i64 ((s.length:Nat):Int)):=jl.len
 cases jH:b5 s P s.length 0 with
 | none=>
   obtain ⟨O',h3,hH,ib⟩:=aS.n jH (kX (d:=d) (h:=h) sV g cap s P jl hP s.length 0 o! (fun k_=>((sV::(AV.func g [] cap)::AV.undef::AV.undef::(AV.int .i64 0)::AV.undef::sV::(AV.int .i64 ((s.length:Nat):Int))::(AV.int .i64 0)::cx 10):List AV).getD k_ AV.undef) h di (Has.refl _))
   have ql:=ib.y
   have Dn:h.nx≤h3.nx:=ib.n
   have kY:Has h h3:=ib.a
   have ev:=pk (d) iW (sV::(AV.func g [] cap)::cx 17) h .ret h3 (CN 2<|VV jG<|CC<|LL hH<|CC<|ZZ) k!
   have e:bW s P=(-1):=by simp only[bW,jH,cond_true,cond_false]
   rw[e]
   exact ay rfl (bb Tryz.func50 sm k! (.inr rfl) ev k!) kY rfl
 | some I5=>
   obtain ⟨O',h3,hH,ib⟩:=aS.r jH (kX (d:=d) (h:=h) sV g cap s P jl hP s.length 0 o! (fun k_=>((sV::(AV.func g [] cap)::AV.undef::AV.undef::(AV.int .i64 0)::AV.undef::sV::(AV.int .i64 ((s.length:Nat):Int))::(AV.int .i64 0)::cx 10):List AV).getD k_ AV.undef) h di (Has.refl _))
   have ql:=ib.y
   have Dn:h.nx≤h3.nx:=ib.n
   have kY:Has h h3:=ib.a
   have ev:=pk (d) iW (sV::(AV.func g [] cap)::cx 17) h .ret h3 (CN 2<|VV jG<|CC<|LL hH<|ZZ) k!
   have e:bW s P=I5:=by simp only[bW,jH,cond_true,cond_false]
   rw[e]
   exact ay rfl (bb Tryz.func50 sm k! (.inr rfl) ev k!) kY rfl
theorem nr (s:List bn) (P:bn→Bool):∀(k i:Nat) (r:Int),b5 s P k i=some r→r<(i+k:Nat)
 | 0,i,r,h=>by cases h
 | k+1,i,r,h=>by
   rw[b5] at h
   cases hp:P (s.g i) with
   | true=>rw[hp] at h;have:=Option.some.inj h;omega
   | false=>rw[hp] at h;have:=nr s P k (i+1) r h;omega
theorem xQ (s:List bn) (P:bn→Bool):bW s P<(s.length:Int):=by
 unfold bW
 cases h:b5 s P s.length 0 with
 | none=>show (-1:Int)<_;omega
 | some r=>have:=nr s P _ _ _ h;show r<_;omega
end Go.Proofs.aW
