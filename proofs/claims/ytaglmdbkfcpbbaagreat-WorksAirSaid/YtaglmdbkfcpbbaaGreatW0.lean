import Derived.Test.YtaglmdbkfcpbbaaGreatA7
import Derived.Test.YtaglmdbkfcpbbaaGreatEnv
namespace Go.Proofs.bt
open Go.Proofs Ab
set_option maxRecDepth 100000
set_option maxHeartbeats 4000000
set_option linter.unusedVariables false
set_option linter.unusedSimpArgs false
theorem V1 {b:Bool} (h:b=true):(!b)=false:=by rw[h];rfl
theorem V2 {b:Bool} (h:b=false):(!b)=true:=by rw[h];rfl
theorem dC (t:TypeId) (c d:Bool) (k:IntKind) (a b:Int):eW env .eql t c d (some (.int k a)) (some (.int k b))=some (.bool (decide (a=b))):=Np t c d k a b
theorem cS (t:TypeId) (c d:Bool) (k:IntKind) (a b:Int):eW env .neq t c d (some (.int k a)) (some (.int k b))=some (.bool (!decide (a=b))):=Nq t c d k a b
theorem bT (t:TypeId) (c d:Bool) (k:IntKind) (a b:Int):eW env .lss t c d (some (.int k a)) (some (.int k b))=some (.bool (decide (a<b))):=Nr t c d k a b
theorem gZ (t:TypeId) (c d:Bool) (k:IntKind) (a b:Int):eW env .leq t c d (some (.int k a)) (some (.int k b))=some (.bool (decide (a≤b))):=Ns t c d k a b
theorem dA (t:TypeId) (c d:Bool) (k:IntKind) (a b:Int):eW env .gtr t c d (some (.int k a)) (some (.int k b))=some (.bool (decide (b<a))):=Nt t c d k a b
theorem eP (t:TypeId) (c d:Bool) (k:IntKind) (a b:Int):eW env .geq t c d (some (.int k a)) (some (.int k b))=some (.bool (decide (b≤a))):=Nu t c d k a b
theorem Ie (t:TypeId) (c d:Bool) (a b:List UInt8):eW env .eql t c d (some (.str a)) (some (.str b))=some (.bool (decide (a=b))):=Kx t c d a b
theorem Qd (t:TypeId) (c d:Bool) (a b:List UInt8):eW env .neq t c d (some (.str a)) (some (.str b))=some (.bool (!decide (a=b))):=Ky t c d a b
theorem nK (t:TypeId) (c d:Bool) {k:IntKind} {a b z:Int} (h:k.wrap (a+b)=z):eW env .add t c d (some (.int k a)) (some (.int k b))=some (.int k z):=yq h
theorem MF (t:TypeId) (c d:Bool) {k:IntKind} {a b z:Int} (h:k.wrap (a - b)=z):eW env .sub t c d (some (.int k a)) (some (.int k b))=some (.int k z):=yr h
theorem JH (t:TypeId) (c d:Bool) {k:IntKind} {a b z:Int} (h:k.wrap (a*b)=z):eW env .mul t c d (some (.int k a)) (some (.int k b))=some (.int k z):=E' h
theorem aw (t:TypeId) (o:Nat) (v:AV) {h:ar} {i:Nat} {cs:List AV} {e:TypeId} {ro:Bool} (hg:h.get i=some (.cells cs e ro)) (hv:je env t cs o=some v):bN env h t (.ptr i o)=some v:=dE hg hv
theorem As {a:Nat} (h:a<9223372036854775808):IntKind.i64.wrap (a:Int)=(a:Int):=wrap_i64 (by omega) (by omega)
theorem hJ (t:TypeId) (c d:Bool) (a b:Nat) (h:a+b<9223372036854775808):eW env .add t c d (some (.int .i64 (a:Int))) (some (.int .i64 (b:Int)))=some (.int .i64 ((a+b:Nat):Int)):=yq (by rw[show (a:Int)+b=((a+b:Nat):Int) by omega];exact As h)
theorem BH (t:TypeId) (c d:Bool) (a b:Nat) (h:b≤a) (ha:a<9223372036854775808):eW env .sub t c d (some (.int .i64 (a:Int))) (some (.int .i64 (b:Int)))=some (.int .i64 ((a - b:Nat):Int)):=yr (by rw[show (a:Int) - b=((a - b:Nat):Int) by omega];exact As (by omega))
theorem pk (d:Nat) (c:Code) (ts:List AV) (h:ar) (e:j8) (h':ar) {al:List ni} {ps:List Prop} (k:Pk al [] ps) (hr:run env (eD d) 300 c ⟨ts,h,[],.no⟩ al []= .at e ⟨GN (run env (eD d) 300 c ⟨ts,h,[],.no⟩ al []),h',[],.no⟩ [] ps):Ev env (eD d) c ⟨ts,h,[],.no⟩ e ⟨GN (run env (eD d) 300 c ⟨ts,h,[],.no⟩ al []),h',[],.no⟩:=SO k hr
theorem cj {h:ar} (y:Tidy h) (o:aH):∃h',h.new o=some h'∧Tidy h'∧h'.nx=h.nx+1∧h'.get h.nx=some o∧Has h h':=by
 obtain ⟨h',n⟩:=sQ (h:=h) o
 exact ⟨h',n,oM y n,yu n,uc n,w_ y n⟩
theorem Dx {h:ar} {t e:TypeId} {i o n:Nat} {cs N:List AV} {v:AV} (y:Tidy h) (gg:h.get i=some (.cells cs e false)) (hs:cE env t=some n) (hv:v.cells.length=n) (hl:Nat.ble (o+n) cs.length=true) (hN:setFrom cs o v.cells=N) (hk:v.cells.all AV.scalar=true):∃h',h_ env h t (.ptr i o) v=some h'∧Tidy h'∧h'.nx=h.nx∧h'.get i=some (.cells N e false)∧Kept i h h':=by
 obtain ⟨h',s⟩:=KC (E:=env) gg hs hv (Nat.le_of_ble_eq_true hl) hk
 exact ⟨h',s,Fl y s gg,Dv s gg,by rw[←hN];exact H' y s gg,Kept.store y s gg⟩
theorem dW {h:ar} {t e:TypeId} {i n:Nat} {cs L:List AV} (y:Tidy h) (gg:h.get i=some (.cells cs e false)) (hs:cE env t=some n) (hv:L.length=n) (hc:cs.length=n) (hk:L.all AV.scalar=true):∃h',h_ env h t (.ptr i 0) (.agg L)=some h'∧Tidy h'∧h'.nx=h.nx∧h'.get i=some (.cells L e false)∧Kept i h h':=
 Dx y gg hs hv (by rw[hc,Nat.zero_add,Nat.ble_eq];exact Nat.le_refl n) (by
  show setFrom cs 0 L=L
  apply List.ext_getElem?
  intro k
  rw[kq]
  split
  · rfl
  · rw[List.getElem?_eq_none (by omega),List.getElem?_eq_none (by omega)]) hk
structure Rk (f:List ni→List ni) (ps:List Prop):Prop where
 ok:lh ps
section
variable {f:List ni→List ni} {ps:List Prop}
end
section
variable {f:List ni→List ni} {ps:List Prop}
theorem Rh {P:Prop} (h:P) (k:Rk f ps):Rk f (P::ps):=⟨⟨h,k.ok⟩⟩
end
theorem k! {p:Prop} (h:p:=by kernel_rfl):p:=h
theorem o! {p:Prop} (h:p:=by omega):p:=h
theorem YT {b:Bool} (h:(!b)=false):b=true:=by cases b;cases h;rfl
theorem YU {b:Bool} (h:(!b)=true):b=false:=by cases b;rfl;cases h
theorem d! {p:Prop} (h:p:=by first | assumption | exact V1 (by assumption) | exact V2 (by assumption) | exact YT (by assumption) | exact YU (by assumption) | exact dT (by omega) | exact dF (by omega) | exact nT (by omega) | exact nF (by omega)):p:=h
theorem _root_.Go.Ab.Has.aU {h0 h h':ar} {b:Nat} (a:Has h0 h) (k:Kept b h h') (y:Tidy h0) (hb:h0.nx≤b):Has h0 h':=fun i x g=>by
 have:=y i x g
 exact k i x (by omega) (a i x g)
class aD (α:Type) extends Inhabited α where
 c:α→List AV
 n:Nat
 e:TypeId
 len:∀x,(c x).length=n
 ok:ar→α→Prop
 mono:∀{h h':ar} {x:α},Has h h'→ok h x→ok h' x
 size:cE env e=some n
 agg:gr env e=some true
 pos:0<n
@[reducible] def imax (x y:Int):Int:=if y>x then y else x
@[reducible] def wJ (x y:Int):Int:=if y<x then y else x
def _root_.List.g {α:Type} [Inhabited α] (l:List α) (i:Nat):α:=l.getD i default
structure bD {α:Type} [aD α] (h:ar) (v:AV) (l:List α):Prop where
 at_:mH env h (aD.e α) (aD.n α) v l.length (l.flatMap aD.c)
 known:v= .aI∨v= .eS∨∃p o m c b,v= .slice p o m c b∧(b=true→0<c)
 NG:∀x∈l,aD.ok h x
theorem fp {α β:Type} {size:Nat} {f:α→List β} (hf:∀x,(f x).length=size) (l:List α):(l.flatMap f).length=l.length*size:=by
 induction l with
 | nil=>simp
 | cons x l ih=>rw[List.flatMap_cons,List.length_append,ih,hf,List.length_cons,Nat.succ_mul];omega
section
variable {α:Type} [aD α] {h:ar} {v:AV} {l:List α}
theorem bD.has {h':ar} (x:bD h v l) (a:Has h h'):bD h' v l:=⟨x.at_.has a,x.known,fun y hy=>aD.mono a (x.NG y hy)⟩
theorem At {i:Nat} (hi:i<l.length):l.g i∈l:=by
 rw[List.g,List.getD_eq_getElem?_getD,List.getElem?_eq_getElem hi];exact List.getElem_mem hi
theorem bD.ok (x:bD h v l) {i:Nat} (hi:i<l.length):aD.ok h (l.g i):=x.NG _ (At hi)
theorem bD.small (x:bD h v l):l.length<2^60:=x.at_.small
theorem bD.len (x:bD h v l):cJ (some (.slice (aD.e α))) (some v)=some (.int .i64 (l.length:Nat)):=x.at_.lens
theorem bD.scalar (x:bD h v l):AV.scalar v=true:=by
 rcases x.known with rfl | rfl | ⟨p,o,m,c,b,rfl,_⟩<;>rfl
theorem rb {β:Type} {size:Nat} {f:α→List β} (hf:∀x,(f x).length=size):∀(l:List α) (i j:Nat) (_:i<l.length),j<size→(l.flatMap f)[i*size+j]? =(f (l.g i))[j]?
 | [],i,j,hi,_=>by cases hi
 | x::l,0,j,_,hj=>by
   rw[List.flatMap_cons,Nat.zero_mul,Nat.zero_add,List.getElem?_append_left (by rw[hf];exact hj)];rfl
 | x::l,i+1,j,hi,hj=>by
   have e:(i+1)*size+j -(f x).length=i*size+j:=by rw[hf,Nat.succ_mul];omega
   rw[List.flatMap_cons,List.getElem?_append_right (by rw[hf,Nat.succ_mul];omega),e,rb hf l i j (by simpa using hi) hj];rfl
theorem bD.elem (x:bD h v l) {i:Nat} (hi:i<l.length):∃p q,c_ env (some (.slice (aD.e α))) (some v) (some (.int .i64 ((i:Nat):Int)))=some (.ptr p q):=by
 rcases x.at_.block with h0 | ⟨p,o,m,c,b,C,f,ro,h1,_,h2,h3⟩
 · omega
 · subst h1
   have hm:m=l.length:=by
    have:=x.at_.lens
    rw[jj] at this
    simp only[Option.some.injEq,AV.int.injEq,true_and] at this
    omega
   exact ⟨p,o+i*aD.n α,sP x.at_.size (by omega)⟩
theorem bD.block (x:bD h v l) {i p q:Nat} (hi:i<l.length) (hx:c_ env (some (.slice (aD.e α))) (some v) (some (.int .i64 ((i:Nat):Int)))=some (.ptr p q)):
 ∃C f ro,h.get p=some (.cells C f ro)∧∀j,j<aD.n α→C[q+j]? =(aD.c (l.g i))[j]? :=by
 rcases x.at_.block with h0 | ⟨p',o,m,c,b,C,f,ro,h1,_,h2,h3⟩
 · omega
 · subst h1
   have hm:m=l.length:=by
    have:=x.at_.lens
    rw[jj] at this
    simp only[Option.some.injEq,AV.int.injEq,true_and] at this
    omega
   rw[sP x.at_.size (by omega)] at hx
   simp only[Option.some.injEq,AV.ptr.injEq] at hx
   obtain ⟨rfl,rfl⟩:=hx
   refine ⟨C,f,ro,h2,fun j hj=>?_⟩
   have e:=rb aD.len l i j hi hj
   have lf:i*aD.n α+j<(l.flatMap aD.c).length:=by
    rw[fp aD.len]
    calc i*aD.n α+j<i*aD.n α+aD.n α:=by omega
     _=(i+1)*aD.n α:=by rw[Nat.succ_mul]
     _≤l.length*aD.n α:=Nat.mul_le_mul_right _ hi
   rw[←e,Nat.add_assoc,h3 _ lf]
theorem bD.load (x:bD h v l) {i p q:Nat} (hi:i<l.length) (hx:c_ env (some (.slice (aD.e α))) (some v) (some (.int .i64 ((i:Nat):Int)))=some (.ptr p q)):bN env h (aD.e α) (.ptr p q)=some (.agg (aD.c (l.g i))):=by
 obtain ⟨C,f,ro,h1,h2⟩:=x.block hi hx
 have hl:=aD.len (l.g i)
 have hn:q+aD.n α≤C.length:=by
  have h0:=aD.pos (α:=α)
  have:=h2 (aD.n α - 1) (by omega)
  rw[List.getElem?_eq_getElem (by omega:aD.n α - 1<(aD.c (l.g i)).length)] at this
  have:=(List.getElem?_eq_some_iff.1 this).1
  omega
 simp only[bN,h1,je,aD.agg,aD.size,hn,if_true]
 congr 2
 apply List.ext_getElem?
 intro j
 by_cases hj:j<aD.n α
 · rw[List.getElem?_take_of_lt hj,List.getElem?_drop,h2 j hj]
 · rw[List.getElem?_eq_none (by rw[List.length_take];omega),List.getElem?_eq_none (by omega)]
theorem bD.part (x:bD h v l) {i p q j:Nat} {t:TypeId} {w:AV} (hi:i<l.length) (hx:c_ env (some (.slice (aD.e α))) (some v) (some (.int .i64 ((i:Nat):Int)))=some (.ptr p q)) (ht:gr env t=some false) (hw:(aD.c (l.g i))[j]? =some w):bN env h t (.ptr p (q+j))=some w:=by
 obtain ⟨C,f,ro,h1,h2⟩:=x.block hi hx
 have hj:=(List.getElem?_eq_some_iff.1 hw).1
 rw[aD.len] at hj
 simp only[bN,h1,je,ht]
 rw[h2 j hj,hw]
theorem bD.pre (x:bD h v l) {t:TypeId} (ht:env.P.underlying t=some (.slice (aD.e α))) {i:Nat} (hi:i<l.length):∃r,fR env t v none (some (.int .i64 ((i:Nat):Int))) none=some r∧bD h r (l.take i):=by
 rcases x.at_.block with h0 | ⟨p,o,m,c,b,C,f,ro,h1,hc,h2,h3⟩
 · omega
 · subst h1
   have hm:m=l.length:=by
    have:=x.at_.lens
    rw[jj] at this
    simp only[Option.some.injEq,AV.int.injEq,true_and] at this
    omega
   subst hm
   have hb:b=true→0<c:=fun e=>by omega
   refine ⟨.slice p o i c b,?_,⟨⟨x.at_.size,fp aD.len _,by have:=x.small;simp;omega,?_,.inr ⟨p,o,i,c,b,C,f,ro,rfl,by omega,h2,fun j hj=>?_⟩⟩,.inr (.inr ⟨_,_,_,_,_,rfl,hb⟩),fun y hy=>x.NG y (List.mem_of_mem_take hy)⟩⟩
   · simp only[fR,ht,x.at_.size,hc,if_true,rV (len:=l.length) (cap:=c) none (some (.int .i64 ((i:Nat):Int))) (.inr ⟨rfl,rfl⟩) (.inl rfl) (Nat.zero_le i) (by omega)]
     rw[if_neg (by omega)]
     simp
   · rw[List.length_take,Nat.min_eq_left (by omega)];exact jj _ _ _ _ _ _
   · rw[fp aD.len,List.length_take,Nat.min_eq_left (by omega)] at hj
     have lf:j<(l.flatMap aD.c).length:=by
      rw[fp aD.len];exact Nat.lt_of_lt_of_le hj (Nat.mul_le_mul_right _ (by omega))
     rw[h3 j lf]
     have e:l=l.take i++l.drop i:=(List.take_append_drop i l).symm
     conv=>lhs;rw[e,List.flatMap_append]
     rw[List.getElem?_append_left]
     rw[fp aD.len,List.length_take,Nat.min_eq_left (by omega)];exact hj
def aY {ρ:Type} (call:bx) (b:Code) (s:St) (ex:j8) (hh:ar) (tn:(Nat→AV)→List AV) (tr:ρ→(Nat→AV)→List AV):Option ρ→Prop
 | none=>∃y hk,Ev env call (.loop b) s ex ⟨tn y,hk,[],.no⟩∧cG hh hk
 | some r=>∃y hk,Ev env call (.loop b) s .ret ⟨tr r y,hk,[],.no⟩∧cG hh hk
section
variable {ρ:Type} {call:bx} {b:Code} {s:St} {ex:j8} {hh hk:ar} {tn:(Nat→AV)→List AV} {tr:ρ→(Nat→AV)→List AV}
theorem aY.n {o:Option ρ} (e:o=none) (x:aY call b s ex hh tn tr o):∃y hk,Ev env call (.loop b) s ex ⟨tn y,hk,[],.no⟩∧cG hh hk:=by subst e;exact x
theorem aY.r {o:Option ρ} {r:ρ} (e:o=some r) (x:aY call b s ex hh tn tr o):∃y hk,Ev env call (.loop b) s .ret ⟨tr r y,hk,[],.no⟩∧cG hh hk:=by subst e;exact x
theorem aY.out {i:Nat} {L:List AV} {o:Option ρ} (e:o=none) (ev:Ev env call b s (.exit i) ⟨L,hk,[],.no⟩) (G:cG hh hk) (hl:L=tn fun k=>L.getD k AV.undef):aY call b s (.exit i) hh tn tr o:=by
 subst e
 obtain ⟨y,q⟩:=Du (Ev.out ev) hl
 exact ⟨y,hk,q,G⟩
theorem aY.ret {L:List AV} {o:Option ρ} (r:ρ) (e:o=some r) (ev:Ev env call b s .ret ⟨L,hk,[],.no⟩) (G:cG hh hk) (hl:L=tr r fun k=>L.getD k AV.undef):aY call b s ex hh tn tr o:=by
 subst e
 obtain ⟨y,q⟩:=Du (tmpl:=tr r) (Ev.ret ev) hl
 exact ⟨y,hk,q,G⟩
theorem aY.round {L:List AV} {o o':Option ρ} (e:o=o') (ev:Ev env call b s .normal ⟨L,hk,[],.no⟩) (G:cG hh hk) (Dy:(Nat→AV)→List AV) (hl:L=Dy fun k=>L.getD k AV.undef) (ih:∀x,aY call b ⟨Dy x,hk,[],.no⟩ ex hk tn tr o'):aY call b s ex hh tn tr o:=by
 subst e
 have q:=ih fun k=>L.getD k AV.undef
 rw[←hl] at q
 cases o with
 | none=>obtain ⟨y,h2,x,g⟩:=q;exact ⟨y,h2,Ev.loop ev x,G.trans g⟩
 | some r=>obtain ⟨y,h2,x,g⟩:=q;exact ⟨y,h2,Ev.loop ev x,G.trans g⟩
end
def cy {ρ:Type} (call:bx) (b:Code) (s:St) (ex:j8) (h hh:ar) (tn:(Nat→AV)→List AV) (tr:ρ→(Nat→AV)→List AV) (pb:Nat) (cl:ρ→aH):Option ρ→Prop
 | none=>∃y hk,Ev env call (.loop b) s ex ⟨tn y,hk,[],.no⟩∧cG hh hk
 | some r=>∃y hk,Ev env call (.loop b) s .ret ⟨tr r y,hk,[],.no⟩∧Tidy hk∧Has h hk∧hh.nx≤hk.nx∧hk.get pb=some (cl r)
section
variable {ρ:Type} {call:bx} {b:Code} {s:St} {ex:j8} {h hh hk:ar} {tn:(Nat→AV)→List AV} {tr:ρ→(Nat→AV)→List AV} {pb:Nat} {cl:ρ→aH}
theorem cy.n {o:Option ρ} (e:o=none) (x:cy call b s ex h hh tn tr pb cl o):∃y hk,Ev env call (.loop b) s ex ⟨tn y,hk,[],.no⟩∧cG hh hk:=by subst e;exact x
theorem cy.r {o:Option ρ} {r:ρ} (e:o=some r) (x:cy call b s ex h hh tn tr pb cl o):∃y hk,Ev env call (.loop b) s .ret ⟨tr r y,hk,[],.no⟩∧Tidy hk∧Has h hk∧hh.nx≤hk.nx∧hk.get pb=some (cl r):=by subst e;exact x
theorem cy.out {i:Nat} {L:List AV} {o:Option ρ} (e:o=none) (ev:Ev env call b s (.exit i) ⟨L,hk,[],.no⟩) (G:cG hh hk) (hl:L=tn fun k=>L.getD k AV.undef):cy call b s (.exit i) h hh tn tr pb cl o:=by
 subst e
 obtain ⟨y,q⟩:=Du (Ev.out ev) hl
 exact ⟨y,hk,q,G⟩
theorem cy.ret {L:List AV} {o:Option ρ} (r:ρ) (e:o=some r) (ev:Ev env call b s .ret ⟨L,hk,[],.no⟩) (y1:Tidy hk) (a1:Has h hk) (n1:hh.nx≤hk.nx) (g1:hk.get pb=some (cl r)) (hl:L=tr r fun k=>L.getD k AV.undef):cy call b s ex h hh tn tr pb cl o:=by
 subst e
 obtain ⟨y,q⟩:=Du (tmpl:=tr r) (Ev.ret ev) hl
 exact ⟨y,hk,q,y1,a1,n1,g1⟩
theorem cy.round {L:List AV} {o o':Option ρ} (e:o=o') (ev:Ev env call b s .normal ⟨L,hk,[],.no⟩) (G:cG hh hk) (Dy:(Nat→AV)→List AV) (hl:L=Dy fun k=>L.getD k AV.undef) (ih:∀x,cy call b ⟨Dy x,hk,[],.no⟩ ex h hk tn tr pb cl o'):cy call b s ex h hh tn tr pb cl o:=by
 subst e
 have q:=ih fun k=>L.getD k AV.undef
 rw[←hl] at q
 cases o with
 | none=>obtain ⟨y,h2,x,g⟩:=q;exact ⟨y,h2,Ev.loop ev x,G.trans g⟩
 | some r=>obtain ⟨y,h2,x,y1,a1,n1,g1⟩:=q;exact ⟨y,h2,Ev.loop ev x,y1,a1,Nat.le_trans G.n n1,g1⟩
end
def dm {σ:Type} (call:bx) (b:Code) (s:St) (ex:j8) (hh:ar) (tn:σ→(Nat→AV)→List AV) (Q:σ→Prop) (r:σ):Prop:=∃y hk,Ev env call (.loop b) s ex ⟨tn r y,hk,[],.no⟩∧cG hh hk∧Q r
section
variable {σ:Type} {call:bx} {b:Code} {s:St} {ex:j8} {hh hk:ar} {tn:σ→(Nat→AV)→List AV} {Q:σ→Prop}
theorem dm.out {i:Nat} {L:List AV} {o:σ} (r:σ) (e:o=r) (ev:Ev env call b s (.exit i) ⟨L,hk,[],.no⟩) (G:cG hh hk) (iq:Q r) (hl:L=tn r fun k=>L.getD k AV.undef):dm call b s (.exit i) hh tn Q o:=by
 subst e
 obtain ⟨y,q⟩:=Du (tmpl:=tn o) (Ev.out ev) hl
 exact ⟨y,hk,q,G,iq⟩
theorem dm.round {L:List AV} {o o':σ} (e:o=o') (ev:Ev env call b s .normal ⟨L,hk,[],.no⟩) (G:cG hh hk) (Dy:(Nat→AV)→List AV) (hl:L=Dy fun k=>L.getD k AV.undef) (ih:∀x,dm call b ⟨Dy x,hk,[],.no⟩ ex hk tn Q o'):dm call b s ex hh tn Q o:=by
 subst e
 have q:=ih fun k=>L.getD k AV.undef
 rw[←hl] at q
 obtain ⟨y,h2,x,g,i⟩:=q;exact ⟨y,h2,Ev.loop ev x,G.trans g,i⟩
end
theorem bD.same {α:Type} [aD α] {h:ar} {v:AV} {l:List α} (x:bD h v l) (n:Nat):AV.same (n+1) v v=true:=by
 rcases x.known with rfl | rfl | ⟨p,o,m,c,b,rfl,_⟩
 · rfl
 · rfl
 · exact yk n p o m c b
def NH (cs:List AV):Prop:=∀n,dU (AV.same (n+1)) cs cs=true
theorem Dz:NH []:=fun _=>rfl
theorem kz {x:AV} {cs:List AV} (hx:∀n,AV.same (n+1) x x=true) (hc:NH cs):NH (x::cs):=fun n=>by
 show (AV.same (n+1) x x&&dU (AV.same (n+1)) cs cs)=true
 rw[hx,hc];rfl
theorem fq (n:Nat) {cs:List AV} (h:NH cs):AV.same (n+2) (.agg cs) (.agg cs)=true:=h n
theorem ba {s:List UInt8} {j:Nat} (hj:j<s.length):cH env (some .string) (some (.str s)) (some (.int .i64 ((j:Nat):Int)))=some (.int .u8 (((s.g j).toNat:Nat):Int)):=by
 refine Kz ?_
 rw[List.g,List.getD_eq_getElem?_getD,List.getElem?_eq_getElem hj];rfl
end
theorem DA {h:ar} {e s xt:TypeId} {xd:TypeDesc} {tys:Array TypeId} {bytes:Nat} {z x:AV} {M:List AV} (h0:tys[0]? =some s) (h1:tys[1]? =some xt) (hs:env.P.underlying s=some (.slice e)) (hx:env.P.underlying xt=some xd) (hi:lr xd=false) (LY:cE env e=some 1) (hb:jI env e=some bytes) (zp:gH env e=some z) (hz:z.cells.length=1) (h8:bytes≤63) (hlen:nH x=some M.length) (hf:fS h 1 M.length x=some M) (uY:M.all AV.scalar=true) (hm:M≠ []) (hl:M.length≤1073741824):
 ∃h',da env h tys .aI x=some (.slice h.nx 0 M.length M.length true,h')∧h.new (.cells M e false)=some h':=by
 obtain ⟨h',n⟩:=sQ (h:=h) (.cells M e false)
 refine ⟨h',?_,n⟩
 have hn:¬M.length=0:=fun e=>hm (List.length_eq_zero_iff.1 e)
 have A1:(4*M.length+4096)*(bytes+1)≤1099511627776:=Nat.le_trans (Nat.mul_le_mul (show 4*M.length+4096≤17179869184 by omega) (show bytes+1≤64 by omega)) (by decide)
 simp only[da,h0,h1,hs,hx,hi,LY,hb,hlen,hf,zp,hz,uY,Nat.mul_one,hn,A1,n,if_true,if_false,and_self,Bool.false_eq_true]
theorem DB {h:ar} {e s xt:TypeId} {xd:TypeDesc} {tys:Array TypeId} {bytes p:Nat} {op:Bool} {z x:AV} {L M:List AV} (y:Tidy h) (h0:tys[0]? =some s) (h1:tys[1]? =some xt) (hs:env.P.underlying s=some (.slice e)) (hx:env.P.underlying xt=some xd) (hi:lr xd=false) (LY:cE env e=some 1) (hb:jI env e=some bytes) (zp:gH env e=some z) (hz:z.cells.length=1) (h8:bytes≤63) (hlen:nH x=some M.length) (hf:fS h 1 M.length x=some M) (uY:M.all AV.scalar=true) {n:Nat} (hn:L.length=n) (hm:M≠ []) (hl:n+M.length≤1073741824)
 (hg:h.get p=some (.cells L e false)):
 ∃h',da env h tys (.slice p 0 n n op) x=some (.slice h.nx 0 (n+M.length) (n+M.length) true,h')∧Tidy h'∧h'.nx=h.nx+1∧Kept p h h'∧h'.get h.nx=some (.cells (L++M) e false):=by
 have hp:=y _ _ hg
 subst hn
 have ec:(L.drop 0).take (L.length*1)++M=L++M:=by
  rw[List.drop_zero,Nat.mul_one,List.take_of_length_le (Nat.le_refl _)]
 have y2:Tidy (if op then h.put p none else h):=by
  cases op with
  | false=>exact y
  | true=>
    intro i x g
    show i<h.nx
    by_cases hi:i=p
    · subst hi;exact hp
    · rw[if_pos rfl,ar.cZ (Ne.symm hi)] at g;exact y i x g
 have n2:(if op then h.put p none else h).nx=h.nx:=by cases op<;>rfl
 obtain ⟨h',n⟩:=sQ (h:=if op then h.put p none else h) (.cells (L++M) e false)
 refine ⟨h',?_,oM y2 n,by rw[yu n,n2],fun i x hi g=>?_,by rw[←n2];exact uc n⟩
 · have hn:0<M.length:=List.length_pos_iff.2 hm
   have A1:(4*(L.length+M.length)+4096)*(bytes+1)≤1099511627776:=Nat.le_trans (Nat.mul_le_mul (show 4*(L.length+M.length)+4096≤17179869184 by omega) (show bytes+1≤64 by omega)) (by decide)
   have hc:¬L.length+M.length≤L.length:=by omega
   simp only[da,h0,h1,hs,hx,hi,LY,hb,hlen,hf,zp,hz,uY,hg,hc,if_true,if_false,Bool.false_eq_true,Nat.mul_one]
   rw[if_pos ⟨trivial,trivial,trivial⟩,if_pos ⟨A1,by omega,fun _=>⟨trivial,by omega⟩⟩]
   rw[show List.take L.length (List.drop 0 L)=L by rw[List.drop_zero,List.take_length],n]
 · refine qY y2 n ?_
   cases op with
   | false=>exact g
   | true=>rw[if_pos rfl,ar.cZ (Ne.symm hi)];exact g
def ij (e:TypeId) (h0 h:ar) (z:AV) (L:List AV):Prop:=(z= .aI∧L=[])∨(L≠ []∧∃p op,z= .slice p 0 L.length L.length op∧h0.nx≤p∧h.get p=some (.cells L e false))
theorem ij.has {e:TypeId} {h0 h h':ar} {z:AV} {L:List AV} (o:ij e h0 h z L) (a:Has h h'):ij e h0 h' z L:=o.imp id fun ⟨hn,p,op,e,h1,g⟩=>⟨hn,p,op,e,h1,a _ _ g⟩
theorem ij.app {e s xt:TypeId} {xd:TypeDesc} {h0 h:ar} {tys:Array TypeId} {bytes:Nat} {z0 z x:AV} {L M:List AV} (y:Tidy h) (y0:Tidy h0) (a:Has h0 h) (hle:h0.nx≤h.nx) (o:ij e h0 h z L) (t0:tys[0]? =some s) (t1:tys[1]? =some xt) (hs:env.P.underlying s=some (.slice e)) (hx:env.P.underlying xt=some xd) (hi:lr xd=false) (LY:cE env e=some 1) (hb:jI env e=some bytes) (zp:gH env e=some z0) (hz:z0.cells.length=1) (h8:bytes≤63) (hlen:nH x=some M.length) (hf:fS h 1 M.length x=some M) (uY:M.all AV.scalar=true) (hm:M≠ []) (hl:L.length+M.length≤1073741824):
 ∃z' h',da env h tys z x=some (z',h')∧Tidy h'∧h.nx≤h'.nx∧Has h0 h'∧ij e h0 h' z' (L++M):=by
 rcases o with ⟨rfl,rfl⟩ | ⟨hn,p,op,rfl,hp,hg⟩
 · obtain ⟨h',e1,n⟩:=DA (h:=h) t0 t1 hs hx hi LY hb zp hz h8 hlen hf uY hm (by simpa using hl)
   have:=yu n
   exact ⟨_,h',e1,oM y n,by omega,a.trans (w_ y n),.inr ⟨by simpa using hm,h.nx,true,by simp,hle,uc n⟩⟩
 · obtain ⟨h',e1,y1,z1,k1,g1⟩:=DB (op:=op) y t0 t1 hs hx hi LY hb zp hz h8 hlen hf uY rfl hm hl hg
   exact ⟨_,h',e1,y1,by omega,Has.aU a k1 y0 hp,.inr ⟨by simp [hn],h.nx,true,by rw[List.length_append],hle,g1⟩⟩
theorem NI {i:Nat} {b:Bool} {v:AV}:nH (.slice i 0 1 1 b)=some [v].length:=rfl
theorem Ig {h:ar} {i:Nat} {b:Bool} {v:AV} {e:TypeId} {ro:Bool} (hg:h.get i=some (.cells [v] e ro)):fS h 1 [v].length (.slice i 0 1 1 b)=some [v]:=by
 simp [fS,hg]
theorem ij.le {e:TypeId} {h0 h1 h:ar} {z:AV} {L:List AV} (o:ij e h1 h z L) (hn:h0.nx≤h1.nx):ij e h0 h z L:=o.imp id fun ⟨eC,p,op,e,h1,g⟩=>⟨eC,p,op,e,by omega,g⟩
def zs (k:IntKind) (l:List Int):List AV:=l.map (AV.int k)
theorem mr (k:IntKind) (l:List Int):(zs k l).length=l.length:=by simp [zs]
theorem NJ (k:IntKind) (l:List Int) (x:Int):zs k (l++[x])=zs k l++[AV.int k x]:=by simp [zs]
theorem Qe (k:IntKind) (l:List Int) {i:Nat} (hi:i<l.length):(zs k l)[i]? =some (.int k (l.g i)):=by
 rw[zs,List.getElem?_map,List.getElem?_eq_getElem hi,List.g,List.getD_eq_getElem?_getD,List.getElem?_eq_getElem hi];rfl
structure fW (h:ar) (k:IntKind) (e:TypeId) (v:AV) (l:List Int):Prop where
 at_:mH env h e 1 v l.length (zs k l)
 agg:gr env e=some false
 known:v= .aI∨v= .eS∨∃p o m c b,v= .slice p o m c b
theorem fW.has {k:IntKind} {h h':ar} {e:TypeId} {v:AV} {l:List Int} (x:fW h k e v l) (a:Has h h'):fW h' k e v l:=⟨x.at_.has a,x.agg,x.known⟩
theorem fW.scalar {k:IntKind} {h:ar} {e:TypeId} {v:AV} {l:List Int} (x:fW h k e v l):AV.scalar v=true:=by
 rcases x.known with rfl | rfl | ⟨p,o,m,c,b,rfl⟩<;>rfl
theorem fW.same {k:IntKind} {h:ar} {e:TypeId} {v:AV} {l:List Int} (x:fW h k e v l) (n:Nat):AV.same (n+1) v v=true:=by
 rcases x.known with rfl | rfl | ⟨p,o,m,c,b,rfl⟩
 · rfl
 · rfl
 · exact yk n p o m c b
theorem fW.small {k:IntKind} {h:ar} {e:TypeId} {v:AV} {l:List Int} (x:fW h k e v l):l.length<2^60:=x.at_.small
theorem fW.len {k:IntKind} {h:ar} {e:TypeId} {v:AV} {l:List Int} (x:fW h k e v l):cJ (some (.slice e)) (some v)=some (.int .i64 (l.length:Nat)):=x.at_.lens
theorem fW.elem {k:IntKind} {h:ar} {e:TypeId} {v:AV} {l:List Int} (x:fW h k e v l) {i:Nat} (hi:i<l.length):∃p q,c_ env (some (.slice e)) (some v) (some (.int .i64 ((i:Nat):Int)))=some (.ptr p q)∧bN env h e (.ptr p q)=some (.int k (l.g i)):=x.at_.elem x.agg (Qe k l hi)
theorem fW.load {k:IntKind} {h:ar} {e:TypeId} {v:AV} {l:List Int} (x:fW h k e v l) {i p q:Nat} (hi:i<l.length) (hx:c_ env (some (.slice e)) (some v) (some (.int .i64 ((i:Nat):Int)))=some (.ptr p q)):bN env h e (.ptr p q)=some (.int k (l.g i)):=by
 obtain ⟨p',q',h1,h2⟩:=x.elem hi
 rw[hx] at h1
 simp only[Option.some.injEq,AV.ptr.injEq] at h1
 obtain ⟨rfl,rfl⟩:=h1
 exact h2
theorem fW.nil {k:IntKind} {h:ar} {e:TypeId} (hs:cE env e=some 1) (ha:gr env e=some false):fW h k e .aI []:=⟨⟨hs,rfl,by decide,rfl,.inl rfl⟩,ha,.inl rfl⟩
theorem ij.zs {k:IntKind} {e:TypeId} {h0 h:ar} {z:AV} {l:List Int} (o:ij e h0 h z (bt.zs k l)) (hl:l.length<2^60) (hs:cE env e=some 1) (ha:gr env e=some false):fW h k e z l:=by
 rcases o with ⟨rfl,e0⟩ | ⟨hn,p,op,rfl,_,hg⟩
 · have:l=[]:=List.length_eq_zero_iff.1 (by have:=congrArg List.length e0;rwa [mr] at this)
   subst this
   exact fW.nil hs ha
 · rw[mr]
   exact ⟨⟨hs,by rw[mr];omega,hl,rfl,.inr ⟨p,0,_,_,op,_,_,_,rfl,Nat.le_refl _,hg,fun j _=>by rw[Nat.zero_add]⟩⟩,ha,.inr (.inr ⟨_,_,_,_,_,rfl⟩)⟩
theorem ij.GO {k:IntKind} {e:TypeId} {h0 h:ar} {z:AV} {l:List Int} {n:Nat} (o:ij e h0 h z (bt.zs k l)) (v:AV.within h0.nx (n+1) z=true) (hs:cE env e=some 1) (ha:gr env e=some false):fW h0 k e z l:=by
 rcases o with ⟨rfl,e0⟩ | ⟨hn,p,op,rfl,hp,hg⟩
 · have:l=[]:=List.length_eq_zero_iff.1 (by have:=congrArg List.length e0;rwa [mr] at this)
   subst this
   exact fW.nil hs ha
 · have:=of_decide_eq_true (show decide (p<h0.nx)=true from v)
   omega
theorem nW {nx:Nat} {z:AV} {cs:List AV} (h:AV.within nx 20 (.tuple (z::cs))=true):AV.within nx (18+1) z=true:=by
 simp only[AV.within,List.all_cons,Bool.and_eq_true] at h
 exact h.1
theorem ij.SZ {k:IntKind} {e s xt:TypeId} {h0 h:ar} {tys:Array TypeId} {bytes b:Nat} {z0 z:AV} {L:List Int} {v:Int} {f:TypeId} {ro op:Bool} (y:Tidy h) (y0:Tidy h0) (a:Has h0 h) (hle:h0.nx≤h.nx) (o:ij e h0 h z (bt.zs k L)) (hg:h.get b=some (.cells [.int k v] f ro)) (hl:L.length≤1000000000) (t0:tys[0]? =some s) (t1:tys[1]? =some xt) (hs:env.P.underlying s=some (.slice e)) (hx:env.P.underlying xt=some (.slice e)) (LY:cE env e=some 1) (hb:jI env e=some bytes) (zp:gH env e=some z0) (hz:z0.cells.length=1) (h8:bytes≤63):
 ∃z' h',da env h tys z (.slice b 0 1 1 op)=some (z',h')∧Tidy h'∧h.nx≤h'.nx∧Has h0 h'∧ij e h0 h' z' (bt.zs k (L++[v])):=by
 rw[NJ]
 exact ij.app y y0 a hle o t0 t1 hs hx rfl LY hb zp hz h8 NI (Ig hg) rfl (by simp) (by rw[mr];simp;omega)
def kN {σ:Type} (call:bx) (b:Code) (s:St) (ex:j8) (h:ar) (e:TypeId) (tn:σ→AV→(Nat→AV)→List AV) (own:σ→List AV) (N:Nat) (r:σ):Prop:=∃z y hk,Ev env call (.loop b) s ex ⟨tn r z y,hk,[],.no⟩∧cG h hk∧ij e h hk z (own r)∧(own r).length≤N
section
variable {σ:Type} {call:bx} {b:Code} {s:St} {ex:j8} {h hk:ar} {e:TypeId} {tn:σ→AV→(Nat→AV)→List AV} {own:σ→List AV} {N:Nat}
theorem kN.out {i:Nat} {L:List AV} {o:σ} (r:σ) (z:AV) (e1:o=r) (ev:Ev env call b s (.exit i) ⟨L,hk,[],.no⟩) (G:cG h hk) (oz:ij e h hk z (own r)) (ln:(own r).length≤N) (hl:L=tn r z fun k=>L.getD k AV.undef):kN call b s (.exit i) h e tn own N o:=by
 subst e1
 obtain ⟨y,q⟩:=Du (tmpl:=tn o z) (Ev.out ev) hl
 exact ⟨z,y,hk,q,G,oz,ln⟩
theorem kN.round {L:List AV} {o o':σ} (e1:o=o') (ev:Ev env call b s .normal ⟨L,hk,[],.no⟩) (Dy:(Nat→AV)→List AV) (hl:L=Dy fun k=>L.getD k AV.undef) (ih:∀x,kN call b ⟨Dy x,hk,[],.no⟩ ex h e tn own N o'):kN call b s ex h e tn own N o:=by
 subst e1
 have q:=ih fun k=>L.getD k AV.undef
 rw[←hl] at q
 obtain ⟨z,y,h2,x,g,oz,ln⟩:=q;exact ⟨z,y,h2,Ev.loop ev x,g,oz,ln⟩
end
def iV {α:Type} [aD α] (h0 h:ar) (z:AV) (l:List α):Prop:=
 ((z= .aI∨∃p,z= .slice p 0 0 0 false∧h0.nx≤p∧h.get p=some (.cells [] (aD.e α) false))∧l=[])∨
 (l≠ []∧∃p op,z= .slice p 0 l.length l.length op∧h0.nx≤p∧h.get p=some (.cells (l.flatMap aD.c) (aD.e α) false))
def S0 (z:AV) (i:Nat):Prop:=∀o n c b,z≠ .slice i o n c b
section
variable {α:Type} [aD α] {h0 h h':ar} {z:AV} {l m:List α}
theorem iV.has (o:iV h0 h z l) (a:Has h h'):iV h0 h' z l:=by
 rcases o with ⟨rfl | ⟨p,rfl,h1,h2⟩,rfl⟩ | ⟨hn,p,op,e,h1,g⟩
 · exact .inl ⟨.inl rfl,rfl⟩
 · exact .inl ⟨.inr ⟨p,rfl,h1,a _ _ h2⟩,rfl⟩
 · exact .inr ⟨hn,p,op,e,h1,a _ _ g⟩
theorem iV.app {s xt:TypeId} {tys:Array TypeId} {bytes:Nat} {z0 x:AV} (y:Tidy h) (y0:Tidy h0) (a:Has h0 h) (hle:h0.nx≤h.nx) (o:iV h0 h z l) (hlen:nH x=some m.length) (hf:fS h (aD.n α) m.length x=some (m.flatMap aD.c)) (uY:(m.flatMap aD.c).all AV.scalar=true) (hl:l.length+m.length≤1000000000)
 (t0:tys[0]? =some s) (t1:tys[1]? =some xt) (hs:env.P.underlying s=some (.slice (aD.e α))) (hx:env.P.underlying xt=some (.slice (aD.e α))) (hb:jI env (aD.e α)=some bytes) (zp:gH env (aD.e α)=some z0) (hz:z0.cells.length=aD.n α) (h8:bytes≤255):
 ∃z' h',da env h tys z x=some (z',h')∧Tidy h'∧h.nx≤h'.nx∧Has h0 h'∧iV h0 h' z' (l++m)∧∀i w,S0 z i→h.get i=some w→h'.get i=some w:=by
 have Fm:=fp aD.len m
 have hi:lr (.slice (aD.e α))=false:=rfl
 have S1:∀k,k≤1000000000→(4*k+4096)*(bytes+1)≤1099511627776:=fun k hk=>Nat.le_trans (Nat.mul_le_mul (show 4*k+4096≤4294967296 by omega) (show bytes+1≤256 by omega)) (by decide)
 have GP:∀{p:Nat} {ob:aH},h.get p=some ob→Tidy (h.put p (some ob))∧Has h0 (h.put p (some ob))∧(∀i w,h.get i=some w→(h.put p (some ob)).get i=some w):=fun {p ob} g=>by
  have hg:∀i,(h.put p (some ob)).get i=h.get i:=fun i=>by
   by_cases e:i=p
   · subst e;rw[ar.eF,g]
   · rw[ar.cZ (Ne.symm e)]
  exact ⟨fun i w q=>y i w (by rw[←hg];exact q),fun i w q=>by rw[hg];exact a i w q,fun i w q=>by rw[hg];exact q⟩
 have S2:m≠ []→∃h',h.new (.cells (m.flatMap aD.c) (aD.e α) false)=some h'∧Tidy h'∧h.nx≤h'.nx∧Has h0 h'∧iV h0 h' (.slice h.nx 0 m.length m.length true) m∧∀i w,h.get i=some w→h'.get i=some w:=fun hm=>by
  obtain ⟨h',n⟩:=sQ (h:=h) (.cells (m.flatMap aD.c) (aD.e α) false)
  have:=yu n
  exact ⟨h',n,oM y n,by omega,a.trans (w_ y n),.inr ⟨hm,h.nx,true,rfl,hle,uc n⟩,fun i w g=>qY y n g⟩
 rcases o with ⟨rfl | ⟨p,rfl,hp,hg⟩,rfl⟩ | ⟨hn,p,op,rfl,hp,hg⟩
 · rw[List.nil_append]
   by_cases hm:m=[]
   · subst hm
     simp only[List.length_nil,List.flatMap_nil,Nat.zero_mul] at hlen hf uY Fm
     refine ⟨.aI,h,?_,y,Nat.le_refl _,a,.inl ⟨.inl rfl,rfl⟩,fun _ _ _ g=>g⟩
     simp only[da,t0,t1,hs,hx,hi,aD.size,hb,hlen,hf,zp,hz,uY,Fm,if_true,if_false,and_self,List.length_nil,Bool.false_eq_true,Nat.zero_mul]
   · obtain ⟨h',n,q1,q2,q3,q4,q5⟩:=S2 hm
     have IM:¬m.length=0:=fun e=>hm (List.length_eq_zero_iff.1 e)
     refine ⟨_,h',?_,q1,q2,q3,q4,fun i w _ g=>q5 i w g⟩
     simp only[da,t0,t1,hs,hx,hi,aD.size,hb,hlen,hf,zp,hz,uY,Fm,IM,S1 m.length (by omega),n,if_true,if_false,and_self,Bool.false_eq_true]
 · rw[List.nil_append]
   by_cases hm:m=[]
   · subst hm
     simp only[List.length_nil,List.flatMap_nil,Nat.zero_mul] at hlen hf uY Fm
     obtain ⟨q1,q2,q3⟩:=GP hg
     refine ⟨_,_,?_,q1,Nat.le_refl _,q2,.inl ⟨.inr ⟨p,rfl,hp,q3 _ _ hg⟩,rfl⟩,fun i w _ g=>q3 i w g⟩
     simp only[da,t0,t1,hs,hx,hi,aD.size,hb,hlen,hf,zp,hz,uY,Fm,hg,if_true,if_false,and_self,List.length_nil,Bool.false_eq_true,Nat.zero_mul,Nat.add_zero,Nat.le_refl,List.flatMap_nil,setFrom]
   · obtain ⟨h',n,q1,q2,q3,q4,q5⟩:=S2 hm
     have IM:¬m.length≤0:=fun e=>hm (List.length_eq_zero_iff.1 (by omega))
     refine ⟨_,h',?_,q1,q2,q3,q4,fun i w _ g=>q5 i w g⟩
     simp only[da,t0,t1,hs,hx,hi,aD.size,hb,hlen,hf,zp,hz,uY,Fm,hg,IM,if_true,if_false,and_self,Bool.false_eq_true,Nat.zero_mul,Nat.add_zero,Nat.zero_add,List.length_nil,Nat.le_refl]
     rw[if_pos ⟨S1 m.length (by omega),trivial,fun e=>e.elim⟩]
     simp only[List.drop_nil,List.take_nil,List.nil_append,n]
 · have XC:0<l.length:=List.length_pos_iff.2 hn
   have YV:=y _ _ hg
   have Pw:=fp aD.len l
   by_cases hm:m=[]
   · subst hm
     simp only[List.length_nil,List.flatMap_nil,Nat.zero_mul] at hlen hf uY Fm
     obtain ⟨q1,q2,q3⟩:=GP hg
     rw[List.append_nil]
     refine ⟨_,_,?_,q1,Nat.le_refl _,q2,.inr ⟨hn,p,op,rfl,hp,q3 _ _ hg⟩,fun i w _ g=>q3 i w g⟩
     simp only[da,t0,t1,hs,hx,hi,aD.size,hb,hlen,hf,zp,hz,uY,Fm,hg,Pw,if_true,if_false,and_self,List.length_nil,Bool.false_eq_true,Nat.zero_mul,Nat.add_zero,Nat.zero_add,Nat.le_refl,List.flatMap_nil,setFrom]
   · have Ub:0<m.length:=List.length_pos_iff.2 hm
     have y2:Tidy (if op then h.put p none else h):=by
      cases op with
      | false=>exact y
      | true=>
        intro i x g
        show i<h.nx
        by_cases hi:i=p
        · subst hi;exact YV
        · rw[if_pos rfl,ar.cZ (Ne.symm hi)] at g;exact y i x g
     have n2:(if op then h.put p none else h).nx=h.nx:=by cases op<;>rfl
     have k2:∀i w,i≠p→h.get i=some w→(if op then h.put p none else h).get i=some w:=fun i w hi g=>by
      cases op with
      | false=>exact g
      | true=>rw[if_pos rfl,ar.cZ (Ne.symm hi)];exact g
     obtain ⟨h',n⟩:=sQ (h:=if op then h.put p none else h) (.cells (l.flatMap aD.c++m.flatMap aD.c) (aD.e α) false)
     have hk:∀i w,i≠p→h.get i=some w→h'.get i=some w:=fun i w hi g=>qY y2 n (k2 i w hi g)
     have hc:¬l.length+m.length≤l.length:=by omega
     refine ⟨.slice h.nx 0 (l.length+m.length) (l.length+m.length) true,h',?_,oM y2 n,by rw[yu n,n2];omega,fun i w g=>?_,.inr ⟨by simp [hn],h.nx,true,by rw[List.length_append],hle,by rw[List.flatMap_append,←n2];exact uc n⟩,fun i w q g=>hk i w (fun e=>q 0 l.length l.length op (by subst e;rfl)) g⟩
     · simp only[da,t0,t1,hs,hx,hi,aD.size,hb,hlen,hf,zp,hz,uY,Fm,hg,hc,if_true,if_false,and_self,Bool.false_eq_true]
       rw[if_pos ⟨S1 _ hl,by rw[Pw];omega,fun _=>⟨trivial,by rw[Pw];omega⟩⟩]
       rw[List.drop_zero,List.take_of_length_le (by rw[Pw];exact Nat.le_refl _),n]
     · have:=y0 _ _ g
       exact hk i w (by omega) (a i w g)
theorem iV.S3 {s xt:TypeId} {tys:Array TypeId} {bytes:Nat} {z0 x:AV} (y:Tidy h) (y0:Tidy h0) (a:Has h0 h) (hle:h0.nx≤h.nx) (o:iV h0 h z l) (hlen:nH x=some m.length) (hf:fS h (aD.n α) m.length x=some (m.flatMap aD.c)) (uY:(m.flatMap aD.c).all AV.scalar=true) (hl:l.length+m.length≤1000000000)
 (t0:tys[0]? =some s) (t1:tys[1]? =some xt) (hs:env.P.underlying s=some (.slice (aD.e α))) (hx:env.P.underlying xt=some (.slice (aD.e α))) (hb:jI env (aD.e α)=some bytes) (zp:gH env (aD.e α)=some z0) (hz:z0.cells.length=aD.n α) (h8:bytes≤255) (he:l=[]:=by rfl):
 ∃z' h',da env h tys z x=some (z',h')∧Tidy h'∧h.nx≤h'.nx∧Has h0 h'∧iV h0 h' z' (l++m)∧Has h h':=by
 subst he
 by_cases hm:m=[]
 · subst hm
   obtain ⟨z',h',e1,e2,e3,e4,e5,e6⟩:=iV.app y y0 a hle o hlen hf uY hl t0 t1 hs hx hb zp hz h8
   refine ⟨z',h',e1,e2,e3,e4,e5,fun i w g=>?_⟩
   rcases o with ⟨rfl | ⟨p,rfl,hp,hg⟩,_⟩ | ⟨hn,_⟩
   · exact e6 i w (fun o n c b q=>by cases q) g
   · by_cases hi:i=p
     · subst hi
       have UD:lr (.slice (aD.e α))=false:=rfl
       simp only[List.length_nil,List.flatMap_nil] at hlen hf uY
       simp only[da,t0,t1,hs,hx,UD,aD.size,hb,hlen,hf,zp,hz,uY,hg,if_true,if_false,and_self,List.length_nil,Bool.false_eq_true,Nat.zero_mul,Nat.add_zero,Nat.le_refl,List.flatMap_nil,setFrom,Option.some.injEq,Prod.mk.injEq] at e1
       rw[←e1.2,ar.eF,←hg,g]
     · exact e6 i w (fun o n c b q=>hi (AV.slice.inj q).1.symm) g
   · exact absurd rfl hn
 · obtain ⟨z',h',e1,e2,e3,e4,e5,e6⟩:=iV.app y y0 a hle o hlen hf uY hl t0 t1 hs hx hb zp hz h8
   refine ⟨z',h',e1,e2,e3,e4,e5,fun i w g=>?_⟩
   rcases o with ⟨rfl | ⟨p,rfl,hp,hg⟩,_⟩ | ⟨hn,_⟩
   · exact e6 i w (fun o n c b q=>by cases q) g
   · by_cases hi:i=p
     · subst hi
       have UD:lr (.slice (aD.e α))=false:=rfl
       have Fm:=fp aD.len m
       have IM:¬m.length≤0:=fun e=>hm (List.length_eq_zero_iff.1 (by omega))
       have S1:(4*m.length+4096)*(bytes+1)≤1099511627776:=Nat.le_trans (Nat.mul_le_mul (show 4*m.length+4096≤4294967296 by simp at hl;omega) (show bytes+1≤256 by omega)) (by decide)
       simp only[da,t0,t1,hs,hx,UD,aD.size,hb,hlen,hf,zp,hz,uY,Fm,hg,IM,if_true,if_false,and_self,Bool.false_eq_true,Nat.zero_mul,Nat.add_zero,Nat.zero_add,List.length_nil,Nat.le_refl] at e1
       rw[if_pos ⟨S1,trivial,fun e=>e.elim⟩] at e1
       obtain ⟨h2,n⟩:=sQ (h:=h) (.cells (List.take 0 (List.drop 0 [])++m.flatMap aD.c) (aD.e α) false)
       rw[n] at e1
       simp only[Option.some.injEq,Prod.mk.injEq] at e1
       rw[←e1.2];exact qY y n g
     · exact e6 i w (fun o n c b q=>hi (AV.slice.inj q).1.symm) g
   · exact absurd rfl hn
theorem ok_one {x:α} (o:aD.ok h x):∀y∈ [x],aD.ok h y:=fun y hy=>by
 rw[List.mem_singleton] at hy;subst hy;exact o
theorem yw (a:∀y∈l,aD.ok h y) (b:∀y∈m,aD.ok h y):∀y∈l++m,aD.ok h y:=fun y hy=>(List.mem_append.1 hy).elim (a y) (b y)
theorem BI (g:Has h h') (a:∀y∈l,aD.ok h y):∀y∈l,aD.ok h' y:=fun y hy=>aD.mono g (a y hy)
class Flat (α:Type) [aD α]:Prop where
 free:∀{h h':ar} {x:α},aD.ok h x→aD.ok h' x
theorem xa {D:Type} [aD D] [Flat D] {h h':ar} {l:List D} (a:∀y∈l,aD.ok h y):∀y∈l,aD.ok h' y:=fun y hy=>Flat.free (a y hy)
theorem wk {v:AV} (x:bD h v l) (sc:∀y∈l,(aD.c y).all AV.scalar=true):(l.flatMap aD.c).all AV.scalar=true:=by
 rw[List.all_eq_true]
 intro z hz
 obtain ⟨y,hy,YW⟩:=List.mem_flatMap.1 hz
 exact List.all_eq_true.1 (sc y hy) z YW
theorem cK {f:FuncId} {fn:Func} {c:Code} {args OF ts:List AV} {h h':ar} {call:bx} {x:j8} {v w:AV} {a r:Tmp} {t:TypeId} {i:Nat} (hf:env.P.funcs[f]? =some fn) (hb:fn.body=some c) (ht:args++List.replicate (fn.ntmps - args.length) AV.undef=OF) (hx:x= .normal∨x= .ret)
 (e:Ev env call c ⟨OF,h,[],.no⟩ x ⟨ts,h',[],.no⟩) (RE:(fn.results.toList,ts.getD a AV.undef,ts.getD r AV.undef)=([.cell a t,.tmp r],AV.ptr i 0,w)) (hl:bN env h' t (.ptr i 0)=some v):ub env call f args h (.tuple [v,w]) h':=by
 refine bz hf hb ht hx e ?_
 rw[show fn.results.toList=[.cell a t,.tmp r] from congrArg Prod.fst RE]
 simp only[jM,show ts.getD a AV.undef= .ptr i 0 from congrArg (fun q=>q.2.1) RE,show ts.getD r AV.undef=w from congrArg (fun q=>q.2.2) RE,hl,Option.map_some]
 rfl
theorem bD.nH {v:AV} (x:bD h v l):nH v=some l.length:=by
 have hl:=x.at_.lens
 rcases x.known with rfl | rfl | ⟨p,o,m,c,b,rfl,_⟩
 · rw[tY] at hl
   simp only[Option.some.injEq,AV.int.injEq,true_and] at hl
   rw[show l.length=0 by omega];rfl
 · rw[P5] at hl
   simp only[Option.some.injEq,AV.int.injEq,true_and] at hl
   rw[show l.length=0 by omega];rfl
 · rw[jj] at hl
   simp only[Option.some.injEq,AV.int.injEq,true_and] at hl
   rw[show l.length=m by omega];rfl
theorem bD.first {v:AV} (x:bD h v l):fS h (aD.n α) l.length v=some (l.flatMap aD.c):=by
 by_cases hl:l=[]
 · subst hl
   rcases x.known with rfl | rfl | ⟨p,o,m,c,b,rfl,_⟩<;>simp [fS]
 · have XC:0<l.length:=List.length_pos_iff.2 hl
   have Pw:=fp aD.len l
   rcases x.at_.block with h0 | ⟨p,o,m,c,b,C,f,ro,h1,_,h2,h3⟩
   · omega
   · subst h1
     have hm:m=l.length:=by
      have:=x.at_.lens
      rw[jj] at this
      simp only[Option.some.injEq,AV.int.injEq,true_and] at this
      omega
     subst hm
     have hC:o+l.length*aD.n α≤C.length:=by
      rcases Nat.eq_zero_or_pos (l.length*aD.n α) with h0 | h0
      · have:=Nat.mul_pos XC (aD.pos (α:=α));omega
      · have:=h3 (l.length*aD.n α - 1) (by omega)
        rw[List.getElem?_eq_getElem (by omega:l.length*aD.n α - 1<(l.flatMap aD.c).length)] at this
        have:=(List.getElem?_eq_some_iff.1 this).1
        omega
     simp only[fS,Nat.le_refl,if_true,if_false,show ¬l.length=0 by omega,h2,hC]
     congr 1
     apply List.ext_getElem?
     intro j
     by_cases hj:j<l.length*aD.n α
     · rw[List.getElem?_take_of_lt hj,List.getElem?_drop,h3 j (by omega)]
     · rw[List.getElem?_eq_none (by rw[List.length_take];omega),List.getElem?_eq_none (by omega)]
theorem sR {i:Nat} {b:Bool} {x:α} {e:TypeId} {ro:Bool} (hg:h.get i=some (.cells (aD.c x) e ro)):fS h (aD.n α) [x].length (.slice i 0 1 1 b)=some ([x].flatMap aD.c):=by
 have:=aD.len x
 simp only[fS,List.length_singleton,Nat.le_refl,if_true,hg,Nat.one_ne_zero,if_false,Nat.one_mul,Nat.zero_add,this,List.drop_zero,List.flatMap_cons,List.flatMap_nil,List.append_nil]
 rw[List.take_of_length_le (by omega)]
theorem iV.rows (o:iV h0 h z l) (hl:l.length<2^60) (hk:∀x∈l,aD.ok h x):bD h z l:=by
 rcases o with ⟨rfl | ⟨p,rfl,h1,h2⟩,rfl⟩ | ⟨hn,p,op,rfl,h1,g⟩
 · exact ⟨⟨aD.size,(Nat.zero_mul _).symm,hl,rfl,.inl rfl⟩,.inl rfl,hk⟩
 · exact ⟨⟨aD.size,(Nat.zero_mul _).symm,hl,rfl,.inl rfl⟩,.inr (.inr ⟨_,_,_,_,_,rfl,fun e=>by cases e⟩),hk⟩
 · have:=List.length_pos_iff.2 hn
   exact ⟨⟨aD.size,fp aD.len l,hl,rfl,.inr ⟨p,0,_,_,op,_,_,_,rfl,Nat.le_refl _,g,fun j _=>by rw[Nat.zero_add]⟩⟩,.inr (.inr ⟨_,_,_,_,_,rfl,fun _=>this⟩),hk⟩
end
structure bK where
 ab:Int
 ae:Int
 out:Int
@[reducible] def bK.c (x:bK):List AV:=[.int .i64 x.ab,.int .i64 x.ae,.int .i64 x.out]
def bK.ok (h:ar) (x:bK):Prop:=True
def bK.eq (x y:bK):Bool:=(x.ab==y.ab)&&(x.ae==y.ae)&&(x.out==y.out)
theorem bK.deep (x y:bK):kl env 16 67 (.agg (bK.c x)) (.agg (bK.c y))=some (bK.eq x y):=by
 have e:kl env 16 67 (.agg (bK.c x)) (.agg (bK.c y))=(match some (x.ab==y.ab) with | some true=>(match some (x.ae==y.ae) with | some true=>(match some (x.out==y.out) with | some true=>some true | some false=>some false | none=>none) | some false=>some false | none=>none) | some false=>some false | none=>none):=by kernel_rfl
 rw[e,bK.eq]
 cases (x.ab==y.ab)<;>try rfl
 cases (x.ae==y.ae)<;>try rfl
 cases (x.out==y.out)<;>try rfl
theorem bK.eql (x y:bK) {a b:Bool}:eW env .eql 67 a b (some (.agg (bK.c x))) (some (.agg (bK.c y)))=some (.bool (bK.eq x y)):=by
 show (if env.P.eqGuardType env.P.depth 67 then none else (match kl env 16 67 (.agg (bK.c x)) (.agg (bK.c y)) with | some r=>some (AV.bool (r)) | none=>none))=_
 rw[show env.P.eqGuardType env.P.depth 67=false by kernel_rfl,bK.deep];rfl
theorem bK.neq (x y:bK) {a b:Bool}:eW env .neq 67 a b (some (.agg (bK.c x))) (some (.agg (bK.c y)))=some (.bool (!bK.eq x y)):=by
 show (if env.P.eqGuardType env.P.depth 67 then none else (match kl env 16 67 (.agg (bK.c x)) (.agg (bK.c y)) with | some r=>some (AV.bool (!r)) | none=>none))=_
 rw[show env.P.eqGuardType env.P.depth 67=false by kernel_rfl,bK.deep];rfl
instance:aD bK where
 default:=⟨0,0,0⟩
 c:=bK.c
 n:=3
 e:=67
 len _:=rfl
 ok:=bK.ok
 mono a o:=o
 size:=by kernel_rfl
 agg:=by kernel_rfl
 pos:=by decide
theorem bK.sc {h:ar} {x:bK} (o:bK.ok h x):(bK.c x).all AV.scalar=true:=by
 rfl
instance:Flat bK where
 free o:=o
structure aO where
 worker:List UInt8
 ab:Int
 aP:Int
 leave:Int
 out:Int
@[reducible] def aO.c (x:aO):List AV:=[.str x.worker,.int .i64 x.ab,.int .i64 x.aP,.int .i64 x.leave,.int .i64 x.out]
def aO.ok (h:ar) (x:aO):Prop:=x.worker.length<2^60
def aO.eq (x y:aO):Bool:=(x.worker==y.worker)&&(x.ab==y.ab)&&(x.aP==y.aP)&&(x.leave==y.leave)&&(x.out==y.out)
theorem aO.deep (x y:aO):kl env 16 37 (.agg (aO.c x)) (.agg (aO.c y))=some (aO.eq x y):=by
 have e:kl env 16 37 (.agg (aO.c x)) (.agg (aO.c y))=(match some (x.worker==y.worker) with | some true=>(match some (x.ab==y.ab) with | some true=>(match some (x.aP==y.aP) with | some true=>(match some (x.leave==y.leave) with | some true=>(match some (x.out==y.out) with | some true=>some true | some false=>some false | none=>none) | some false=>some false | none=>none) | some false=>some false | none=>none) | some false=>some false | none=>none) | some false=>some false | none=>none):=by kernel_rfl
 rw[e,aO.eq]
 cases (x.worker==y.worker)<;>try rfl
 cases (x.ab==y.ab)<;>try rfl
 cases (x.aP==y.aP)<;>try rfl
 cases (x.leave==y.leave)<;>try rfl
 cases (x.out==y.out)<;>try rfl
theorem aO.eql (x y:aO) {a b:Bool}:eW env .eql 37 a b (some (.agg (aO.c x))) (some (.agg (aO.c y)))=some (.bool (aO.eq x y)):=by
 show (if env.P.eqGuardType env.P.depth 37 then none else (match kl env 16 37 (.agg (aO.c x)) (.agg (aO.c y)) with | some r=>some (AV.bool (r)) | none=>none))=_
 rw[show env.P.eqGuardType env.P.depth 37=false by kernel_rfl,aO.deep];rfl
theorem aO.neq (x y:aO) {a b:Bool}:eW env .neq 37 a b (some (.agg (aO.c x))) (some (.agg (aO.c y)))=some (.bool (!aO.eq x y)):=by
 show (if env.P.eqGuardType env.P.depth 37 then none else (match kl env 16 37 (.agg (aO.c x)) (.agg (aO.c y)) with | some r=>some (AV.bool (!r)) | none=>none))=_
 rw[show env.P.eqGuardType env.P.depth 37=false by kernel_rfl,aO.deep];rfl
instance:aD aO where
 default:=⟨[],0,0,0,0⟩
 c:=aO.c
 n:=5
 e:=37
 len _:=rfl
 ok:=aO.ok
 mono a o:=o
 size:=by kernel_rfl
 agg:=by kernel_rfl
 pos:=by decide
theorem aO.sc {h:ar} {x:aO} (o:aO.ok h x):(aO.c x).all AV.scalar=true:=by
 rfl
instance:Flat aO where
 free o:=o
structure aK where
 ak:AV
 rows:List bK
 rest:Int
 day:Int
@[reducible] def aK.c (x:aK):List AV:=[x.ak,.int .i64 x.rest,.int .i64 x.day]
def aK.ok (h:ar) (x:aK):Prop:=bD h x.ak x.rows
instance:aD aK where
 default:=⟨.aI,[],0,0⟩
 c:=aK.c
 n:=3
 e:=24
 len _:=rfl
 ok:=aK.ok
 mono a o:=(o).has a
 size:=by kernel_rfl
 agg:=by kernel_rfl
 pos:=by decide
theorem aK.sc {h:ar} {x:aK} (o:aK.ok h x):(aK.c x).all AV.scalar=true:=by
 simp only[aK.c,List.all_cons,List.all_nil,(show AV.scalar x.ak=true from (o).scalar),Bool.true_and]<;>rfl
structure fj where
 ai:AV
 gz:List bK
 aj:Int
 ao:Int
 aB:AV
 ahead:List aO
 ah:List UInt8
 af:Int
 au:Int
 ag:Int
 aq:Int
@[reducible] def fj.c (x:fj):List AV:=[x.ai,.int .i64 x.aj,.int .i64 x.ao,x.aB,.str x.ah,.int .i64 x.af,.int .i64 x.au,.int .i64 x.ag,.int .i64 x.aq]
def fj.ok (h:ar) (x:fj):Prop:=bD h x.ai x.gz∧bD h x.aB x.ahead∧x.ah.length<2^60
instance:aD fj where
 default:=⟨.aI,[],0,0,.aI,[],[],0,0,0,0⟩
 c:=fj.c
 n:=9
 e:=84
 len _:=rfl
 ok:=fj.ok
 mono a o:=⟨(o.1).has a,(o.2.1).has a,o.2.2⟩
 size:=by kernel_rfl
 agg:=by kernel_rfl
 pos:=by decide
theorem fj.sc {h:ar} {x:fj} (o:fj.ok h x):(fj.c x).all AV.scalar=true:=by
 simp only[fj.c,List.all_cons,List.all_nil,(show AV.scalar x.ai=true from (o.1).scalar),(show AV.scalar x.aB=true from (o.2.1).scalar),Bool.true_and]<;>rfl
theorem sS {p:Prop} [Decidable p] (h:(!decide p)=true):¬p:=by intro q;rw[decide_eq_true q] at h;cases h
theorem sU {p:Prop} [Decidable p] (h:(!decide p)=false):p:=by by_cases q:p;exact q;rw[decide_eq_false q] at h;cases h
def bs (l:List Bool):List AV:=l.map AV.bool
theorem Qf (l:List Bool):(bs l).length=l.length:=by simp [bs]
theorem Qg (l:List Bool) {i:Nat} (hi:i<l.length):(bs l)[i]? =some (.bool (l.g i)):=by
 rw[bs,List.getElem?_map,List.getElem?_eq_getElem hi,List.g,List.getD_eq_getElem?_getD,List.getElem?_eq_getElem hi];rfl
section
variable {h:ar} {t e:TypeId} {p i n:Nat}
end
structure DC (h:ar) (e:TypeId) (v:AV) (l:List Bool):Prop where
 at_:mH env h e 1 v l.length (bs l)
 agg:gr env e=some false
section
variable {h h':ar} {e:TypeId} {v:AV} {l:List Bool}
theorem DC.small (x:DC h e v l):l.length<2^60:=x.at_.small
theorem DC.elem (x:DC h e v l) {i:Nat} (hi:i<l.length):∃p q,c_ env (some (.slice e)) (some v) (some (.int .i64 ((i:Nat):Int)))=some (.ptr p q)∧bN env h e (.ptr p q)=some (.bool (l.g i)):=x.at_.elem x.agg (Qg l hi)
theorem DC.load (x:DC h e v l) {i p q:Nat} (hi:i<l.length) (hx:c_ env (some (.slice e)) (some v) (some (.int .i64 ((i:Nat):Int)))=some (.ptr p q)):bN env h e (.ptr p q)=some (.bool (l.g i)):=by
 obtain ⟨p',q',h1,h2⟩:=x.elem hi
 rw[hx] at h1
 simp only[Option.some.injEq,AV.ptr.injEq] at h1
 obtain ⟨rfl,rfl⟩:=h1
 exact h2
theorem DC.own {p n:Nat} {op ro:Bool} {f:TypeId} (hs:cE env e=some 1) (ha:gr env e=some false) (hg:h.get p=some (.cells (bs l) f ro)) (hn:l.length=n) (V4:n<2^60):DC h e (.slice p 0 n n op) l:=by
 subst hn
 exact ⟨⟨hs,by rw[Qf];omega,V4,rfl,.inr ⟨p,0,_,_,op,_,_,_,rfl,Nat.le_refl _,hg,fun j _=>by rw[Nat.zero_add]⟩⟩,ha⟩
theorem fW.own {k:IntKind} {p n:Nat} {op ro:Bool} {f:TypeId} {l:List Int} (hs:cE env e=some 1) (ha:gr env e=some false) (hg:h.get p=some (.cells (zs k l) f ro)) (hn:l.length=n) (V4:n<2^60):fW h k e (.slice p 0 n n op) l:=by
 subst hn
 exact ⟨⟨hs,by rw[mr];omega,V4,rfl,.inr ⟨p,0,_,_,op,_,_,_,rfl,Nat.le_refl _,hg,fun j _=>by rw[Nat.zero_add]⟩⟩,ha,.inr (.inr ⟨_,_,_,_,_,rfl⟩)⟩
end
def ue {σ ρ:Type} (call:bx) (b:Code) (s:St) (ex:j8) (hh:ar) (tn:σ→AV→(Nat→AV)→List AV) (tr:ρ→AV→(Nat→AV)→List AV) (Qn:σ→AV→ar→Prop) (Qr:ρ→AV→ar→Prop):σ ⊕ ρ→Prop
 | .inl v=>∃z y hk,Ev env call (.loop b) s ex ⟨tn v z y,hk,[],.no⟩∧Tidy hk∧hh.nx≤hk.nx∧Qn v z hk
 | .inr r=>∃z y hk,Ev env call (.loop b) s .ret ⟨tr r z y,hk,[],.no⟩∧Tidy hk∧hh.nx≤hk.nx∧Qr r z hk
section
variable {σ ρ:Type} {call:bx} {b:Code} {s:St} {ex:j8} {hh hk:ar} {tn:σ→AV→(Nat→AV)→List AV} {tr:ρ→AV→(Nat→AV)→List AV} {Qn:σ→AV→ar→Prop} {Qr:ρ→AV→ar→Prop}
theorem ue.n {o:σ ⊕ ρ} {v:σ} (e:o= .inl v) (x:ue call b s ex hh tn tr Qn Qr o):∃z y hk,Ev env call (.loop b) s ex ⟨tn v z y,hk,[],.no⟩∧Tidy hk∧hh.nx≤hk.nx∧Qn v z hk:=by subst e;exact x
theorem ue.r {o:σ ⊕ ρ} {r:ρ} (e:o= .inr r) (x:ue call b s ex hh tn tr Qn Qr o):∃z y hk,Ev env call (.loop b) s .ret ⟨tr r z y,hk,[],.no⟩∧Tidy hk∧hh.nx≤hk.nx∧Qr r z hk:=by subst e;exact x
theorem ue.out {i:Nat} {L:List AV} {o:σ ⊕ ρ} (v:σ) (z:AV) (e:o= .inl v) (ev:Ev env call b s (.exit i) ⟨L,hk,[],.no⟩) (y1:Tidy hk) (n1:hh.nx≤hk.nx) (q:Qn v z hk) (hl:L=tn v z fun k=>L.getD k AV.undef):ue call b s (.exit i) hh tn tr Qn Qr o:=by
 subst e
 obtain ⟨y,x⟩:=Du (tmpl:=tn v z) (Ev.out ev) hl
 exact ⟨z,y,hk,x,y1,n1,q⟩
theorem ue.round {L:List AV} {o o':σ ⊕ ρ} (e:o=o') (ev:Ev env call b s .normal ⟨L,hk,[],.no⟩) (n1:hh.nx≤hk.nx) (Dy:(Nat→AV)→List AV) (hl:L=Dy fun k=>L.getD k AV.undef) (ih:∀x,ue call b ⟨Dy x,hk,[],.no⟩ ex hk tn tr Qn Qr o'):ue call b s ex hh tn tr Qn Qr o:=by
 subst e
 have q:=ih fun k=>L.getD k AV.undef
 rw[←hl] at q
 cases o with
 | inl v=>obtain ⟨z,y,h2,x,y1,n2,g⟩:=q;exact ⟨z,y,h2,Ev.loop ev x,y1,Nat.le_trans n1 n2,g⟩
 | inr r=>obtain ⟨z,y,h2,x,y1,n2,g⟩:=q;exact ⟨z,y,h2,Ev.loop ev x,y1,Nat.le_trans n1 n2,g⟩
end
theorem ij.GQ {e:TypeId} {h0 h:ar} {z:AV} {L:List AV} {n:Nat} (o:ij e h0 h z L) (v:AV.within h0.nx (n+1) z=true):ij e h0 h0 z L:=by
 rcases o with ⟨rfl,e0⟩ | ⟨hn,p,op,rfl,hp,hg⟩
 · exact .inl ⟨rfl,e0⟩
 · have:=of_decide_eq_true (show decide (p<h0.nx)=true from v)
   omega
def pK (x:Int):Int:=Int.fdiv x (2^(min (Int.toNat 1) 64))
theorem Ev.to {call:bx} {b:Code} {s:St} {e:j8} {L L':List AV} {hk:ar} (ev:Ev env call b s e ⟨L,hk,[],.no⟩) (hl:L=L'):Ev env call b s e ⟨L',hk,[],.no⟩:=hl▸ev
theorem KI {v:AV} (h:AV.scalar v=true):v.cells=[v]:=by cases v<;>first | rfl | cases h
theorem NK {h:ar} {t e:TypeId} {i o:Nat} {cs N:List AV} {v:AV} (y:Tidy h) (gg:h.get i=some (.cells cs e false)) (hs:cE env t=some 1) (hk:AV.scalar v=true) (hl:Nat.ble (o+1) cs.length=true) (hN:setFrom cs o [v]=N):∃h',h_ env h t (.ptr i o) v=some h'∧Tidy h'∧h'.nx=h.nx∧h'.get i=some (.cells N e false)∧Kept i h h':=by
 have c:=KI hk
 exact Dx y gg hs (by rw[c];rfl) hl (by rw[c];exact hN) (by rw[c];simp [hk])
theorem GR (f:FuncId) (a b:List AV):AV.scalar (.func f a b)=true:=rfl
theorem Ih {x:Int} (h0:0≤x) (h1:x<18446744073709551616):IntKind.u64.wrap x=x:=by
 have:=KD x.toNat
 rw[show ((x.toNat:Nat):Int)=x by omega] at this
 rw[this]
 omega
theorem OG {i j:Int} (h0:0≤i) (h1:i<j) (h2:j≤1000000):IntKind.i64.wrap (pK (IntKind.u64.wrap (i+j)))=(i+j) /2∧i≤(i+j) /2∧(i+j) /2<j:=by
 have e:IntKind.u64.wrap (i+j)=i+j:=Ih (by omega) (by omega)
 have e2:pK (i+j)=(i+j) /2:=by
  show Int.fdiv (i+j) 2=_
  rw[Int.fdiv_eq_ediv_of_nonneg _ (by decide)]
 rw[e,e2,wrap_i64 (by omega) (by omega)]
 exact ⟨rfl,by omega,by omega⟩
theorem DD {f:FuncId} {fn:Func} {c:Code} {args OF ts:List AV} {h h':ar} {call:bx} {x:j8} {v:AV} {a:Tmp} {t:TypeId} {i:Nat} (hf:env.P.funcs[f]? =some fn) (hb:fn.body=some c) (ht:args++List.replicate (fn.ntmps - args.length) AV.undef=OF) (hx:x= .normal∨x= .ret)
 (e:Ev env call c ⟨OF,h,[],.no⟩ x ⟨ts,h',[],.no⟩) (RE:(fn.results.toList,ts.getD a AV.undef)=([.cell a t],AV.ptr i 0)) (hl:bN env h' t (.ptr i 0)=some v):ub env call f args h v h':=by
 refine bz hf hb ht hx e ?_
 rw[show fn.results.toList=[.cell a t] from congrArg Prod.fst RE]
 simp only[jM,show ts.getD a AV.undef= .ptr i 0 from congrArg (fun q=>q.2) RE,hl,Option.map_some]
 rfl
section
variable {α:Type} [aD α]
theorem iV.S5 {h0 h:ar} {z:AV} {l:List α} {n:Nat} (o:iV h0 h z l) (v:AV.within h0.nx (n+1) z=true):bD h0 z l:=by
 have nl:∀z,(z= .aI∨∃p,z=AV.slice p 0 0 0 false∧h0.nx≤p)→AV.within h0.nx (n+1) z=true→bD h0 z ([]:List α):=fun z hz v=>by
  rcases hz with rfl | ⟨p,rfl,hp⟩
  · exact ⟨⟨aD.size,(Nat.zero_mul _).symm,(show (0:Nat)<2^60 by decide),rfl,.inl rfl⟩,.inl rfl,fun _ hx=>by cases hx⟩
  · have:=of_decide_eq_true (show decide (p<h0.nx)=true from v)
    omega
 rcases o with ⟨rfl | ⟨p,rfl,h1,h2⟩,rfl⟩ | ⟨hn,p,op,rfl,hp,hg⟩
 · exact nl _ (.inl rfl) v
 · exact nl _ (.inr ⟨p,rfl,h1⟩) v
 · have:=of_decide_eq_true (show decide (p<h0.nx)=true from v)
   omega
theorem iV.le {h0 h1 h:ar} {z:AV} {l:List α} (o:iV h1 h z l) (hn:h0.nx≤h1.nx):iV h0 h z l:=by
 rcases o with ⟨rfl | ⟨p,rfl,h1,h2⟩,rfl⟩ | ⟨eC,p,op,e,h1,g⟩
 · exact .inl ⟨.inl rfl,rfl⟩
 · exact .inl ⟨.inr ⟨p,rfl,by omega,h2⟩,rfl⟩
 · exact .inr ⟨eC,p,op,e,by omega,g⟩
def kO {σ:Type} (call:bx) (b:Code) (s:St) (ex:j8) (h:ar) (tn:σ→AV→(Nat→AV)→List AV) (own:σ→List α) (N:Nat) (r:σ):Prop:=∃z y hk,Ev env call (.loop b) s ex ⟨tn r z y,hk,[],.no⟩∧cG h hk∧iV h hk z (own r)∧(∀y∈own r,aD.ok hk y)∧(own r).length≤N
variable {σ:Type} {call:bx} {b:Code} {s:St} {ex:j8} {h hk:ar} {tn:σ→AV→(Nat→AV)→List AV} {own:σ→List α} {N:Nat}
theorem kO.out {i:Nat} {L:List AV} {o:σ} (r:σ) (z:AV) (e1:o=r) (ev:Ev env call b s (.exit i) ⟨L,hk,[],.no⟩) (G:cG h hk) (oz:iV h hk z (own r)) (ok:∀y∈own r,aD.ok hk y) (ln:(own r).length≤N) (hl:L=tn r z fun k=>L.getD k AV.undef):kO call b s (.exit i) h tn own N o:=by
 subst e1
 obtain ⟨y,q⟩:=Du (tmpl:=tn o z) (Ev.out ev) hl
 exact ⟨z,y,hk,q,G,oz,ok,ln⟩
theorem kO.round {L:List AV} {o o':σ} (e1:o=o') (ev:Ev env call b s .normal ⟨L,hk,[],.no⟩) (Dy:(Nat→AV)→List AV) (hl:L=Dy fun k=>L.getD k AV.undef) (ih:∀x,kO call b ⟨Dy x,hk,[],.no⟩ ex h tn own N o'):kO call b s ex h tn own N o:=by
 subst e1
 have q:=ih fun k=>L.getD k AV.undef
 rw[←hl] at q
 obtain ⟨z,y,h2,x,g,oz,ok,ln⟩:=q;exact ⟨z,y,h2,Ev.loop ev x,g,oz,ok,ln⟩
end
noncomputable def kb:Code:=(Tryz.f54.body).getD .skip
theorem uf:Tryz.f54.body=some kb:=by kernel_rfl
noncomputable def kP:Code:=(dD kb).getD 0 .skip
def dp (s:List bK) (P:bK→Bool):Nat→Nat→Option (Int)
 | 0,_=>none
 | eG+1,i0=>(bif (P (s.g i0)) then some ((i0:Nat):Int) else dp s P eG (i0+1))
theorem mu {d:Nat} {h:ar} (sV:AV) (g:FuncId) (cap:List AV) (s:List bK) (P:bK→Bool) (bk:bD h sV s) (hP:∀y∈s,∀hh,Tidy hh→Has h hh→eD d (.fn g) (.agg (aD.c y)::cap) hh= .ret (.bool (P y)) hh):∀(k_ i_:Nat) (_:i_+k_=s.length) (x:Nat→AV) (hh:ar) (bb:Tidy hh) (aR:Has h hh),aY (eD (d)) kP ⟨(sV::(AV.func g [] cap)::rx x 2 5 ((AV.int .i64 ((s.length:Nat):Int))::(AV.int .i64 ((i_:Nat):Int))::rx x 9 10 [])),hh,[],.no⟩ (.exit 0) hh (fun y=>(sV::(AV.func g [] cap)::rx y 2 5 ((AV.int .i64 ((s.length:Nat):Int))::rx y 8 11 []))) (fun r y=>(sV::(AV.func g [] cap)::(y 2)::(y 3)::(AV.int .i64 r)::(y 5)::(y 6)::(AV.int .i64 ((s.length:Nat):Int))::rx y 8 11 [])) (dp s P k_ i_)
 | 0,i0,qo,x,hh,bb,aR=>by
   have fK:=bk.small
   have q1:(decide (((i0:Nat):Int)<((s.length:Nat):Int)))=false:=d!
   have ev:=pk (d) kP (sV::(AV.func g [] cap)::rx x 2 5 ((AV.int .i64 ((s.length:Nat):Int))::(AV.int .i64 ((i0:Nat):Int))::rx x 9 10 [])) hh (.exit 0) hh (VV (bT 3 false false .i64 ((i0:Nat):Int) ((s.length:Nat):Int))<|BB q1<|ZZ) k!
   exact aY.out rfl ev (cG.refl bb) k!
 | eG+1,i0,qo,x,hh,bb,aR=>by
   have fK:=bk.small
   rcases Bool.eq_false_or_eq_true (P (s.g i0)) with f1 | f1
   · have q1:(decide (((i0:Nat):Int)<((s.length:Nat):Int)))=true:=d!
     obtain ⟨p3,q4,dG⟩:=(bk.has aR).elem (i:=i0) o!
     have hL:c_ env (some (.slice 67)) (some sV) (some (AV.int .i64 ((i0:Nat):Int)))=some (AV.ptr p3 q4):=dG
     have mB:bN env hh 67 (AV.ptr p3 q4)=some (AV.agg [(AV.int .i64 ((s.g i0).ab)),(AV.int .i64 ((s.g i0).ae)),(AV.int .i64 ((s.g i0).out))]):=(bk.has aR).load o! dG
     have k6:=hP (s.g i0) (At o!) hh bb aR
     have ev:=pk (d) kP (sV::(AV.func g [] cap)::rx x 2 5 ((AV.int .i64 ((s.length:Nat):Int))::(AV.int .i64 ((i0:Nat):Int))::rx x 9 10 [])) hh .ret hh (VV (bT 3 false false .i64 ((i0:Nat):Int) ((s.length:Nat):Int))<|BB q1<|CN 5<|VV hL<|MM mB<|EE k6<|BB f1<|CN 2<|ZZ) k!
     exact aY.ret ((i0:Nat):Int) (by simp only[dp,f1,cond_true,cond_false]) ev (cG.refl bb) k!
   · have q1:(decide (((i0:Nat):Int)<((s.length:Nat):Int)))=true:=d!
     obtain ⟨p3,q4,dG⟩:=(bk.has aR).elem (i:=i0) o!
     have hL:c_ env (some (.slice 67)) (some sV) (some (AV.int .i64 ((i0:Nat):Int)))=some (AV.ptr p3 q4):=dG
     have mB:bN env hh 67 (AV.ptr p3 q4)=some (AV.agg [(AV.int .i64 ((s.g i0).ab)),(AV.int .i64 ((s.g i0).ae)),(AV.int .i64 ((s.g i0).out))]):=(bk.has aR).load o! dG
     have k6:=hP (s.g i0) (At o!) hh bb aR
     have u8:=hJ 3 false true i0 1 o!
     have ev:=pk (d) kP (sV::(AV.func g [] cap)::rx x 2 5 ((AV.int .i64 ((s.length:Nat):Int))::(AV.int .i64 ((i0:Nat):Int))::rx x 9 10 [])) hh .normal hh (VV (bT 3 false false .i64 ((i0:Nat):Int) ((s.length:Nat):Int))<|BB q1<|CN 5<|VV hL<|MM mB<|EE k6<|BB f1<|VV u8<|CC<|ZZ) k!
     exact aY.round (by simp only[dp,f1,cond_true,cond_false]) ev (cG.refl bb) (fun x=>(sV::(AV.func g [] cap)::rx x 2 5 ((AV.int .i64 ((s.length:Nat):Int))::(AV.int .i64 (((i0+1):Nat):Int))::rx x 9 10 []))) k! (fun x=>mu sV g cap s P bk hP eG (i0+1) o! x hh bb aR)
def cI (s:List bK) (P:bK→Bool):Int:=(match (dp s P s.length 0) with | none=>(-1) | some KJ=>KJ)
theorem ug {d:Nat} {h:ar} {sV:AV} {g:FuncId} {cap:List AV} (s:List bK) (P:bK→Bool) (hU:bD h sV s) (hP:∀y∈s,∀hh,Tidy hh→Has h hh→eD d (.fn g) (.agg (aD.c y)::cap) hh= .ret (.bool (P y)) hh) (b4:Tidy h):eD (d+1) (.fn 54) [sV,(AV.func g [] cap)] h= .ret (AV.int .i64 (cI s P)) h:=by
 have OH:=hU.small
 cases kQ:dp s P s.length 0 with
 | none=>
   have hS:cJ (some (.slice 67)) (some sV)=some (AV.int .i64 ((s.length:Nat):Int)):=hU.len
   obtain ⟨NL,h3,iz,hT⟩:=aY.n kQ (mu (d:=d) (h:=h) sV g cap s P hU hP s.length 0 o! (fun k_=>((sV::(AV.func g [] cap)::AV.undef::AV.undef::(AV.int .i64 0)::AV.undef::sV::(AV.int .i64 ((s.length:Nat):Int))::(AV.int .i64 0)::cz 10):List AV).getD k_ AV.undef) h b4 (Has.refl _))
   have kA:=hT.y
   have BJ:h.nx≤h3.nx:=hT.n
   have iA:Has h h3:=hT.a
   have ev:=pk (d) kb (sV::(AV.func g [] cap)::cz 17) h .ret h3 (CN 2<|VV hS<|CC<|LL iz<|CC<|ZZ) k!
   have e:cI s P=(-1):=by simp only[cI,kQ,cond_true,cond_false]
   rw[e]
   exact az rfl (bz Tryz.func54 uf k! (.inr rfl) ev k!) iA rfl
 | some KJ=>
   have hS:cJ (some (.slice 67)) (some sV)=some (AV.int .i64 ((s.length:Nat):Int)):=hU.len
   obtain ⟨NL,h3,iz,hT⟩:=aY.r kQ (mu (d:=d) (h:=h) sV g cap s P hU hP s.length 0 o! (fun k_=>((sV::(AV.func g [] cap)::AV.undef::AV.undef::(AV.int .i64 0)::AV.undef::sV::(AV.int .i64 ((s.length:Nat):Int))::(AV.int .i64 0)::cz 10):List AV).getD k_ AV.undef) h b4 (Has.refl _))
   have kA:=hT.y
   have BJ:h.nx≤h3.nx:=hT.n
   have iA:Has h h3:=hT.a
   have ev:=pk (d) kb (sV::(AV.func g [] cap)::cz 17) h .ret h3 (CN 2<|VV hS<|CC<|LL iz<|ZZ) k!
   have e:cI s P=KJ:=by simp only[cI,kQ,cond_true,cond_false]
   rw[e]
   exact az rfl (bz Tryz.func54 uf k! (.inr rfl) ev k!) iA rfl
theorem oN (s:List bK) (P:bK→Bool):∀(k i:Nat) (r:Int),dp s P k i=some r→r<(i+k:Nat)
 | 0,i,r,h=>by cases h
 | k+1,i,r,h=>by
   rw[dp] at h
   cases hp:P (s.g i) with
   | true=>rw[hp] at h;have:=Option.some.inj h;omega
   | false=>rw[hp] at h;have:=oN s P k (i+1) r h;omega
theorem zH (s:List bK) (P:bK→Bool):cI s P<(s.length:Int):=by
 unfold cI
 cases h:dp s P s.length 0 with
 | none=>show (-1:Int)<_;omega
 | some r=>have:=oN s P _ _ _ h;show r<_;omega
noncomputable def nk:Code:=(Tryz.f55.body).getD .skip
theorem wm:Tryz.f55.body=some nk:=by kernel_rfl
def cA (r:bK) (ab:Int) (ae:Int):Bool:=(bif (decide (ab≤r.ab)) then (decide (ae≤r.ae)) else false)
theorem wo {d:Nat} {h:ar} (r:bK) (ab:Int) (eO:Nat) (ae:Int) (fM:Nat) (YY:aD.ok h r) (lz:h.get eO=some (aH.cells [(AV.int .i64 ab)] 3 false)) (mN:h.get fM=some (aH.cells [(AV.int .i64 ae)] 3 false)) (b4:Tidy h):eD (d+1) (.fn 55) [(AV.agg [(AV.int .i64 r.ab),(AV.int .i64 r.ae),(AV.int .i64 r.out)]),(AV.ptr eO 0),(AV.ptr fM 0)] h= .ret (AV.bool (cA r ab ae)) h:=by
 rcases Bool.eq_false_or_eq_true (decide (ab≤r.ab)) with f0 | f0
 · have fH:=of_decide_eq_true f0
   obtain ⟨h1,bm,aL,cu,aE,bh⟩:=cj b4 (aH.cells [(AV.int .i64 r.ab),(AV.int .i64 r.ae),(AV.int .i64 r.out)] 67 false)
   have aG:Has h h1:=bh
   have ev:=pk (d) nk ((AV.agg [(AV.int .i64 r.ab),(AV.int .i64 r.ae),(AV.int .i64 r.out)])::(AV.ptr eO 0)::(AV.ptr fM 0)::cz 12) h .ret h1 (NN bm (fun i=>(AV.ptr i 0))<|CN 2<|MM (aw 3 0 (AV.int .i64 r.ab) aE k!)<|MM (aw 3 0 (AV.int .i64 ab) (bh _ _ lz) k!)<|VV (eP 3 false false .i64 r.ab ab)<|CC<|BB f0<|CC<|BB f0<|MM (aw 3 1 (AV.int .i64 r.ae) aE k!)<|BB f0<|MM (aw 3 0 (AV.int .i64 ae) (bh _ _ mN) k!)<|BB f0<|VV (eP 3 false false .i64 r.ae ae)<|VV (aX (a:=some (AV.bool (decide (ae≤r.ae)))) (b:=some (AV.bool false)) f0)<|CC<|ZZ) k!
   have e:cA r ab ae=(decide (ae≤r.ae)):=by simp only[cA,f0,cond_true,cond_false]
   rw[e]
   exact az rfl (bz Tryz.func55 wm k! (.inr rfl) ev k!) aG rfl
 · have fH:=of_decide_eq_false f0
   obtain ⟨h1,bm,aL,cu,aE,bh⟩:=cj b4 (aH.cells [(AV.int .i64 r.ab),(AV.int .i64 r.ae),(AV.int .i64 r.out)] 67 false)
   have aG:Has h h1:=bh
   have ev:=pk (d) nk ((AV.agg [(AV.int .i64 r.ab),(AV.int .i64 r.ae),(AV.int .i64 r.out)])::(AV.ptr eO 0)::(AV.ptr fM 0)::cz 12) h .ret h1 (NN bm (fun i=>(AV.ptr i 0))<|CN 2<|MM (aw 3 0 (AV.int .i64 r.ab) aE k!)<|MM (aw 3 0 (AV.int .i64 ab) (bh _ _ lz) k!)<|VV (eP 3 false false .i64 r.ab ab)<|CC<|BB f0<|BB f0<|BB f0<|BB f0<|VV (aJ (a:=some AV.undef) (b:=some (AV.bool false)) f0)<|CC<|ZZ) k!
   have e:cA r ab ae=false:=by simp only[cA,f0,cond_true,cond_false]
   rw[e]
   exact az rfl (bz Tryz.func55 wm k! (.inr rfl) ev k!) aG rfl
end Go.Proofs.bt
