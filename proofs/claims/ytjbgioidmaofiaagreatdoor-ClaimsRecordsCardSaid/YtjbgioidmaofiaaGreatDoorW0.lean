import Derived.Test.YtjbgioidmaofiaaGreatDoorA8
import Derived.Test.YtjbgioidmaofiaaGreatDoorEnv
namespace Go.Proofs.aA
open Go.Proofs Ab
noncomputable section
set_option maxRecDepth 100000
set_option maxHeartbeats 4000000
set_option linter.unusedVariables false
set_option linter.unusedSimpArgs false
theorem aaf {b:Bool} (h:b=true):(!b)=false:=by rw[h];rfl
theorem aag {b:Bool} (h:b=false):(!b)=true:=by rw[h];rfl
theorem ly (t:TypeId) (c d:Bool) (k:IntKind) (a b:Int):aN env .eql t c d (some (.int k a)) (some (.int k b))=some (.bool (decide (a=b))):=PI t c d k a b
theorem bD (t:TypeId) (c d:Bool) (k:IntKind) (a b:Int):aN env .neq t c d (some (.int k a)) (some (.int k b))=some (.bool (!decide (a=b))):=PJ t c d k a b
theorem bx (t:TypeId) (c d:Bool) (k:IntKind) (a b:Int):aN env .lss t c d (some (.int k a)) (some (.int k b))=some (.bool (decide (a<b))):=PK t c d k a b
theorem tc (t:TypeId) (c d:Bool) (k:IntKind) (a b:Int):aN env .leq t c d (some (.int k a)) (some (.int k b))=some (.bool (decide (a≤b))):=PL t c d k a b
theorem cb (t:TypeId) (c d:Bool) (k:IntKind) (a b:Int):aN env .gtr t c d (some (.int k a)) (some (.int k b))=some (.bool (decide (b<a))):=PM t c d k a b
theorem cR (t:TypeId) (c d:Bool) (k:IntKind) (a b:Int):aN env .geq t c d (some (.int k a)) (some (.int k b))=some (.bool (decide (b≤a))):=PN t c d k a b
theorem Wc (t:TypeId) (c d:Bool) (a b:List UInt8):aN env .eql t c d (some (.str a)) (some (.str b))=some (.bool (decide (a=b))):=Ln t c d a b
theorem wv (t:TypeId) (c d:Bool) (a b:List UInt8):aN env .neq t c d (some (.str a)) (some (.str b))=some (.bool (!decide (a=b))):=Lp t c d a b
theorem mT (t:TypeId) (c d:Bool) {k:IntKind} {a b z:Int} (h:k.wrap (a+b)=z):aN env .add t c d (some (.int k a)) (some (.int k b))=some (.int k z):=qE h
theorem ea (t:TypeId) (c d:Bool) {k:IntKind} {a b z:Int} (h:k.wrap (a - b)=z):aN env .sub t c d (some (.int k a)) (some (.int k b))=some (.int k z):=v8 h
theorem CM (t:TypeId) (c d:Bool) {k:IntKind} {a b z:Int} (h:k.wrap (a*b)=z):aN env .mul t c d (some (.int k a)) (some (.int k b))=some (.int k z):=v_ h
theorem aX (t:TypeId) (o:Nat) (v:AV) {h:ag} {i:Nat} {cs:List AV} {e:TypeId} {ro:Bool} (hg:h.get i=some (.cells cs e ro)) (hv:fG env t cs o=some v):bH env h t (.ptr i o)=some v:=Lt hg hv
theorem zz {a:Nat} (h:a<9223372036854775808):IntKind.i64.wrap (a:Int)=(a:Int):=wrap_i64 (by omega) (by omega)
theorem iD (t:TypeId) (c d:Bool) (a b:Nat) (h:a+b<9223372036854775808):aN env .add t c d (some (.int .i64 (a:Int))) (some (.int .i64 (b:Int)))=some (.int .i64 ((a+b:Nat):Int)):=qE (by rw[show (a:Int)+b=((a+b:Nat):Int) by omega];exact zz h)
theorem Wd (t:TypeId) (c d:Bool) (a b:Nat) (h:b≤a) (ha:a<9223372036854775808):aN env .sub t c d (some (.int .i64 (a:Int))) (some (.int .i64 (b:Int)))=some (.int .i64 ((a - b:Nat):Int)):=v8 (by rw[show (a:Int) - b=((a - b:Nat):Int) by omega];exact zz (by omega))
theorem pk_ (d:Nat) (c:Code) (ts:List AV) (h:ag) (ds:List kb) (rc:RC) (e:gR) (h':ag) {al:List jI} {ps:List Prop} (k:Pk al [] ps) (hr:run env (cC d) 300 c ⟨ts,h,ds,rc⟩ al []= .at e ⟨zy (run env (cC d) 300 c ⟨ts,h,ds,rc⟩ al []),h',ds,rc⟩ [] ps):Ev env (cC d) c ⟨ts,h,ds,rc⟩ e ⟨zy (run env (cC d) 300 c ⟨ts,h,ds,rc⟩ al []),h',ds,rc⟩:=Ro k hr
theorem pk (d:Nat) (c:Code) (ts:List AV) (h:ag) (e:gR) (h':ag) {al:List jI} {ps:List Prop} (k:Pk al [] ps) (hr:run env (cC d) 300 c ⟨ts,h,[],.no⟩ al []= .at e ⟨zy (run env (cC d) 300 c ⟨ts,h,[],.no⟩ al []),h',[],.no⟩ [] ps):Ev env (cC d) c ⟨ts,h,[],.no⟩ e ⟨zy (run env (cC d) 300 c ⟨ts,h,[],.no⟩ al []),h',[],.no⟩:=Ro k hr
theorem te {h:ag} (y:Tidy h) (o:aw):∃h',h.new o=some h'∧Tidy h'∧h'.nx=h.nx+1∧h'.get h.nx=some o∧Has h h':=by
 obtain ⟨h',n⟩:=oE (h:=h) o
 exact ⟨h',n,gr y n,m4 n,jZ n,pM y n⟩
theorem Wf {h:ag} {t e:TypeId} {i o n:Nat} {cs N:List AV} {v:AV} (y:Tidy h) (gg:h.get i=some (.cells cs e false)) (hs:bh env t=some n) (hv:v.cells.length=n) (hl:Nat.ble (o+n) cs.length=true) (hN:setFrom cs o v.cells=N) (hk:v.cells.all AV.scalar=true):∃h',a_ env h t (.ptr i o) v=some h'∧Tidy h'∧h'.nx=h.nx∧h'.get i=some (.cells N e false)∧Kept i h h':=by
 obtain ⟨h',s⟩:=Du (E:=env) gg hs hv (Nat.le_of_ble_eq_true hl) hk
 exact ⟨h',s,wm y s gg,wk s gg,by rw[←hN];exact zr y s gg,Kept.store y s gg⟩
theorem FW {h:ag} {t e:TypeId} {i n:Nat} {cs L:List AV} (y:Tidy h) (gg:h.get i=some (.cells cs e false)) (hs:bh env t=some n) (hv:L.length=n) (hc:cs.length=n) (hk:L.all AV.scalar=true):∃h',a_ env h t (.ptr i 0) (.agg L)=some h'∧Tidy h'∧h'.nx=h.nx∧h'.get i=some (.cells L e false)∧Kept i h h':=
 Wf y gg hs hv (by rw[hc,Nat.zero_add,Nat.ble_eq];exact Nat.le_refl n) (by
  show setFrom cs 0 L=L
  apply List.ext_getElem?
  intro k
  rw[dm]
  split
  · rfl
  · rw[List.getElem?_eq_none (by omega),List.getElem?_eq_none (by omega)]) hk
structure Rk (f:List jI→List jI) (ps:List Prop):Prop where
 ok:iN ps
section
variable {f:List jI→List jI} {ps:List Prop}
end
section
variable {f:List jI→List jI} {ps:List Prop}
theorem Rh {P:Prop} (h:P) (k:Rk f ps):Rk f (P::ps):=⟨⟨h,k.ok⟩⟩
end
theorem k! {p:Prop} (h:p:=by kernel_rfl):p:=h
theorem o! {p:Prop} (h:p:=by omega):p:=h
theorem nbf {b:Bool} (h:(!b)=false):b=true:=by cases b;cases h;rfl
theorem nbt {b:Bool} (h:(!b)=true):b=false:=by cases b;rfl;cases h
theorem d! {p:Prop} (h:p:=by first | assumption | exact aaf (by assumption) | exact aag (by assumption) | exact nbf (by assumption) | exact nbt (by assumption) | exact dT (by omega) | exact dF (by omega) | exact nT (by omega) | exact nF (by omega)):p:=h
@[reducible] def _root_.Zi (x:Int):AV:= .int .i64 x
@[reducible] def _root_.Zn (n:Nat):AV:= .int .i64 (n:Int)
@[reducible] def _root_.Pt (b:Nat):AV:= .ptr b 0
theorem _root_.nG {c:Bool} (x y:Bool) (h:c=true):vW (some (.bool c)) (some (.bool x)) (some (.bool y))=some (.bool x):=A_ h
theorem _root_.uE {c:Bool} (x:Bool) (h:c=true):vW (some (.bool c)) (some (.bool x)) (some AV.undef)=some (.bool x):=A_ h
theorem _root_.Bf {c:Bool} (x:Bool) (h:c=false):vW (some (.bool c)) (some AV.undef) (some (.bool x))=some (.bool x):=az h
section
variable {al:List jI} {p0 ps:List Prop}
theorem BC {u v:Bool} (h:u=v) (k:Pk al ((u=v)::p0) ps):Pk (.b v:: .c::al) p0 ps:=BB h (CC k)
theorem BV {u v:Bool} {l:Option AV} {x:AV} (h:u=v) (e:l=some x) (k:Pk al ((l=some x)::(u=v)::p0) ps):Pk (.b v:: .v x::al) p0 ps:=BB h (VV e k)
theorem BM {u v:Bool} {l:Option AV} {x:AV} (h:u=v) (e:l=some x) (k:Pk al ((l=some x)::(u=v)::p0) ps):Pk (.b v:: .m x::al) p0 ps:=BB h (MM e k)
end
theorem _root_.Go.Ab.Has.iE {h0 h h':ag} {b:Nat} (a:Has h0 h) (k:Kept b h h') (y:Tidy h0) (hb:h0.nx≤b):Has h0 h':=fun i x g=>by
 have:=y i x g
 exact k i x o! (a i x g)
class au (α:Type) extends Inhabited α where
 c:α→List AV
 n:Nat
 e:TypeId
 len:∀x,(c x).length=n
 ok:ag→α→Prop
 mono:∀{h h':ag} {x:α},Has h h'→ok h x→ok h' x
 size:bh env e=some n
 agg:dk env e=some true
 pos:0<n
@[reducible] def imax (x y:Int):Int:=if y>x then y else x
@[reducible] def acg (x y:Int):Int:=if y<x then y else x
def _root_.List.g {α:Type} [Inhabited α] (l:List α) (i:Nat):α:=l.getD i default
structure ax {α:Type} [au α] (h:ag) (v:AV) (l:List α):Prop where
 at_:ji env h (au.e α) (au.n α) v l.length (l.flatMap au.c)
 known:v= .aj∨v= .cJ∨∃p o m c b,v= .slice p o m c b∧(b=true→0<c)
 P3:∀x∈l,au.ok h x
theorem ca {α β:Type} {size:Nat} {f:α→List β} (hf:∀x,(f x).length=size) (l:List α):(l.flatMap f).length=l.length*size:=by
 induction l with
 | nil=>simp
 | cons x l ih=>rw[List.flatMap_cons,List.length_append,ih,hf,List.length_cons,Nat.succ_mul];omega
section
variable {α:Type} [au α] {h:ag} {v:AV} {l:List α}
theorem ax.has {h':ag} (x:ax h v l) (a:Has h h'):ax h' v l:=⟨x.at_.has a,x.known,fun y hy=>au.mono a (x.P3 y hy)⟩
theorem Wg {i:Nat} (hi:i<l.length):l.g i∈l:=by
 rw[List.g,List.getD_eq_getElem?_getD,List.getElem?_eq_getElem hi];exact List.getElem_mem hi
theorem ax.ok (x:ax h v l) {i:Nat} (hi:i<l.length):au.ok h (l.g i):=x.P3 _ (Wg hi)
theorem ax.small (x:ax h v l):l.length<2^60:=x.at_.small
theorem ax.len (x:ax h v l):cV (some (.slice (au.e α))) (some v)=some (.int .i64 (l.length:Nat)):=x.at_.lens
theorem ax.scalar (x:ax h v l):AV.scalar v=true:=by
 rcases x.known with rfl | rfl | ⟨p,o,m,c,b,rfl,_⟩<;>rfl
theorem ju {β:Type} {size:Nat} {f:α→List β} (hf:∀x,(f x).length=size):∀(l:List α) (i j:Nat) (_:i<l.length),j<size→(l.flatMap f)[i*size+j]? =(f (l.g i))[j]?
 | [],i,j,hi,_=>by cases hi
 | x::l,0,j,_,hj=>by
   rw[List.flatMap_cons,Nat.zero_mul,Nat.zero_add,List.getElem?_append_left (by rw[hf];exact hj)];rfl
 | x::l,i+1,j,hi,hj=>by
   have e:(i+1)*size+j -(f x).length=i*size+j:=by rw[hf,Nat.succ_mul];omega
   rw[List.flatMap_cons,List.getElem?_append_right (by rw[hf,Nat.succ_mul];omega),e,ju hf l i j (by simpa using hi) hj];rfl
theorem ax.elem (x:ax h v l) {i:Nat} (hi:i<l.length):∃p q,bP env (some (.slice (au.e α))) (some v) (some (.int .i64 ((i:Nat):Int)))=some (.ptr p q):=by
 rcases x.at_.block with h0 | ⟨p,o,m,c,b,C,f,ro,h1,_,h2,h3⟩
 · omega
 · subst h1
   have hm:m=l.length:=by
    have:=x.at_.lens
    rw[fm] at this
    simp only[Option.some.injEq,AV.int.injEq,true_and] at this
    omega
   exact ⟨p,o+i*au.n α,iZ x.at_.size o!⟩
theorem ax.block (x:ax h v l) {i p q:Nat} (hi:i<l.length) (hx:bP env (some (.slice (au.e α))) (some v) (some (.int .i64 ((i:Nat):Int)))=some (.ptr p q)):
 ∃C f ro,h.get p=some (.cells C f ro)∧∀j,j<au.n α→C[q+j]? =(au.c (l.g i))[j]? :=by
 rcases x.at_.block with h0 | ⟨p',o,m,c,b,C,f,ro,h1,_,h2,h3⟩
 · omega
 · subst h1
   have hm:m=l.length:=by
    have:=x.at_.lens
    rw[fm] at this
    simp only[Option.some.injEq,AV.int.injEq,true_and] at this
    omega
   rw[iZ x.at_.size o!] at hx
   simp only[Option.some.injEq,AV.ptr.injEq] at hx
   obtain ⟨rfl,rfl⟩:=hx
   refine ⟨C,f,ro,h2,fun j hj=>?_⟩
   have e:=ju au.len l i j hi hj
   have iv:i*au.n α+j<(l.flatMap au.c).length:=by
    rw[ca au.len]
    calc i*au.n α+j<i*au.n α+au.n α:=by omega
     _=(i+1)*au.n α:=by rw[Nat.succ_mul]
     _≤l.length*au.n α:=Nat.mul_le_mul_right _ hi
   rw[←e,Nat.add_assoc,h3 _ iv]
theorem ax.load (x:ax h v l) {i p q:Nat} (hi:i<l.length) (hx:bP env (some (.slice (au.e α))) (some v) (some (.int .i64 ((i:Nat):Int)))=some (.ptr p q)):bH env h (au.e α) (.ptr p q)=some (.agg (au.c (l.g i))):=by
 obtain ⟨C,f,ro,h1,h2⟩:=x.block hi hx
 have hl:=au.len (l.g i)
 have hn:q+au.n α≤C.length:=by
  have h0:=au.pos (α:=α)
  have:=h2 (au.n α - 1) o!
  rw[List.getElem?_eq_getElem (by omega:au.n α - 1<(au.c (l.g i)).length)] at this
  have:=(List.getElem?_eq_some_iff.1 this).1
  omega
 simp only[bH,h1,fG,au.agg,au.size,hn,if_true]
 congr 2
 apply List.ext_getElem?
 intro j
 by_cases hj:j<au.n α
 · rw[List.getElem?_take_of_lt hj,List.getElem?_drop,h2 j hj]
 · rw[List.getElem?_eq_none (by rw[List.length_take];omega),List.getElem?_eq_none o!]
theorem ax.part (x:ax h v l) {i p q j:Nat} {t:TypeId} {w:AV} (hi:i<l.length) (hx:bP env (some (.slice (au.e α))) (some v) (some (.int .i64 ((i:Nat):Int)))=some (.ptr p q)) (ht:dk env t=some false) (hw:(au.c (l.g i))[j]? =some w):bH env h t (.ptr p (q+j))=some w:=by
 obtain ⟨C,f,ro,h1,h2⟩:=x.block hi hx
 have hj:=(List.getElem?_eq_some_iff.1 hw).1
 rw[au.len] at hj
 simp only[bH,h1,fG,ht]
 rw[h2 j hj,hw]
theorem ax.pre (x:ax h v l) {t:TypeId} (ht:env.P.underlying t=some (.slice (au.e α))) {i:Nat} (hi:i<l.length):∃r,cK env t v none (some (.int .i64 ((i:Nat):Int))) none=some r∧ax h r (l.take i):=by
 rcases x.at_.block with h0 | ⟨p,o,m,c,b,C,f,ro,h1,hc,h2,h3⟩
 · omega
 · subst h1
   have hm:m=l.length:=by
    have:=x.at_.lens
    rw[fm] at this
    simp only[Option.some.injEq,AV.int.injEq,true_and] at this
    omega
   subst hm
   have hb:b=true→0<c:=fun e=>by omega
   refine ⟨.slice p o i c b,?_,⟨⟨x.at_.size,ca au.len _,by have:=x.small;simp;omega,?_,.inr ⟨p,o,i,c,b,C,f,ro,rfl,by omega,h2,fun j hj=>?_⟩⟩,.inr (.inr ⟨_,_,_,_,_,rfl,hb⟩),fun y hy=>x.P3 y (List.mem_of_mem_take hy)⟩⟩
   · simp only[cK,ht,x.at_.size,hc,if_true,j8 (len:=l.length) (cap:=c) none (some (.int .i64 ((i:Nat):Int))) (.inr ⟨rfl,rfl⟩) (.inl rfl) (Nat.zero_le i) o!]
     rw[if_neg o!]
     simp
   · rw[List.length_take,Nat.min_eq_left o!];exact fm _ _ _ _ _ _
   · rw[ca au.len,List.length_take,Nat.min_eq_left o!] at hj
     have iv:j<(l.flatMap au.c).length:=by
      rw[ca au.len];exact Nat.lt_of_lt_of_le hj (Nat.mul_le_mul_right _ o!)
     rw[h3 j iv]
     have e:l=l.take i++l.drop i:=(List.take_append_drop i l).symm
     conv=>lhs;rw[e,List.flatMap_append]
     rw[List.getElem?_append_left]
     rw[ca au.len,List.length_take,Nat.min_eq_left o!];exact hj
def aD {ρ:Type} (call:aB) (b:Code) (s:St) (ex:gR) (hh:ag) (tn:(Nat→AV)→List AV) (tr:ρ→(Nat→AV)→List AV):Option ρ→Prop
 | none=>∃y hk,Ev env call (.loop b) s ex ⟨tn y,hk,[],.no⟩∧cf hh hk
 | some r=>∃y hk,Ev env call (.loop b) s .ret ⟨tr r y,hk,[],.no⟩∧cf hh hk
section
variable {ρ:Type} {call:aB} {b:Code} {s:St} {ex:gR} {hh hk:ag} {tn:(Nat→AV)→List AV} {tr:ρ→(Nat→AV)→List AV}
theorem aD.n {o:Option ρ} (e:o=none) (x:aD call b s ex hh tn tr o):∃y hk,Ev env call (.loop b) s ex ⟨tn y,hk,[],.no⟩∧cf hh hk:=by subst e;exact x
theorem aD.r {o:Option ρ} {r:ρ} (e:o=some r) (x:aD call b s ex hh tn tr o):∃y hk,Ev env call (.loop b) s .ret ⟨tr r y,hk,[],.no⟩∧cf hh hk:=by subst e;exact x
theorem aD.out {i:Nat} {L:List AV} {o:Option ρ} (e:o=none) (ev:Ev env call b s (.exit i) ⟨L,hk,[],.no⟩) (G:cf hh hk) (hl:L=tn fun k=>L.getD k AV.undef):aD call b s (.exit i) hh tn tr o:=by
 subst e
 obtain ⟨y,q⟩:=mq (Ev.out ev) hl
 exact ⟨y,hk,q,G⟩
theorem aD.ret {L:List AV} {o:Option ρ} (r:ρ) (e:o=some r) (ev:Ev env call b s .ret ⟨L,hk,[],.no⟩) (G:cf hh hk) (hl:L=tr r fun k=>L.getD k AV.undef):aD call b s ex hh tn tr o:=by
 subst e
 obtain ⟨y,q⟩:=mq (tmpl:=tr r) (Ev.ret ev) hl
 exact ⟨y,hk,q,G⟩
theorem aD.round {L:List AV} {o o':Option ρ} (e:o=o') (ev:Ev env call b s .normal ⟨L,hk,[],.no⟩) (G:cf hh hk) (tin:(Nat→AV)→List AV) (hl:L=tin fun k=>L.getD k AV.undef) (ih:∀x,aD call b ⟨tin x,hk,[],.no⟩ ex hk tn tr o'):aD call b s ex hh tn tr o:=by
 subst e
 have q:=ih fun k=>L.getD k AV.undef
 rw[←hl] at q
 cases o with
 | none=>obtain ⟨y,h2,x,g⟩:=q;exact ⟨y,h2,Ev.loop ev x,G.trans g⟩
 | some r=>obtain ⟨y,h2,x,g⟩:=q;exact ⟨y,h2,Ev.loop ev x,G.trans g⟩
end
def iF {ρ:Type} (call:aB) (b:Code) (s:St) (ex:gR) (h hh:ag) (tn:(Nat→AV)→List AV) (tr:ρ→(Nat→AV)→List AV) (pb:Nat) (cl:ρ→aw):Option ρ→Prop
 | none=>∃y hk,Ev env call (.loop b) s ex ⟨tn y,hk,[],.no⟩∧cf hh hk
 | some r=>∃y hk,Ev env call (.loop b) s .ret ⟨tr r y,hk,[],.no⟩∧Tidy hk∧Has h hk∧hh.nx≤hk.nx∧hk.get pb=some (cl r)
section
variable {ρ:Type} {call:aB} {b:Code} {s:St} {ex:gR} {h hh hk:ag} {tn:(Nat→AV)→List AV} {tr:ρ→(Nat→AV)→List AV} {pb:Nat} {cl:ρ→aw}
theorem iF.n {o:Option ρ} (e:o=none) (x:iF call b s ex h hh tn tr pb cl o):∃y hk,Ev env call (.loop b) s ex ⟨tn y,hk,[],.no⟩∧cf hh hk:=by subst e;exact x
theorem iF.r {o:Option ρ} {r:ρ} (e:o=some r) (x:iF call b s ex h hh tn tr pb cl o):∃y hk,Ev env call (.loop b) s .ret ⟨tr r y,hk,[],.no⟩∧Tidy hk∧Has h hk∧hh.nx≤hk.nx∧hk.get pb=some (cl r):=by subst e;exact x
theorem iF.out {i:Nat} {L:List AV} {o:Option ρ} (e:o=none) (ev:Ev env call b s (.exit i) ⟨L,hk,[],.no⟩) (G:cf hh hk) (hl:L=tn fun k=>L.getD k AV.undef):iF call b s (.exit i) h hh tn tr pb cl o:=by
 subst e
 obtain ⟨y,q⟩:=mq (Ev.out ev) hl
 exact ⟨y,hk,q,G⟩
theorem iF.round {L:List AV} {o o':Option ρ} (e:o=o') (ev:Ev env call b s .normal ⟨L,hk,[],.no⟩) (G:cf hh hk) (tin:(Nat→AV)→List AV) (hl:L=tin fun k=>L.getD k AV.undef) (ih:∀x,iF call b ⟨tin x,hk,[],.no⟩ ex h hk tn tr pb cl o'):iF call b s ex h hh tn tr pb cl o:=by
 subst e
 have q:=ih fun k=>L.getD k AV.undef
 rw[←hl] at q
 cases o with
 | none=>obtain ⟨y,h2,x,g⟩:=q;exact ⟨y,h2,Ev.loop ev x,G.trans g⟩
 | some r=>obtain ⟨y,h2,x,y1,a1,n1,g1⟩:=q;exact ⟨y,h2,Ev.loop ev x,y1,a1,Nat.le_trans G.n n1,g1⟩
end
def dh {σ:Type} (call:aB) (b:Code) (s:St) (ex:gR) (hh:ag) (tn:σ→(Nat→AV)→List AV) (Q:σ→Prop) (r:σ):Prop:=∃y hk,Ev env call (.loop b) s ex ⟨tn r y,hk,[],.no⟩∧cf hh hk∧Q r
section
variable {σ:Type} {call:aB} {b:Code} {s:St} {ex:gR} {hh hk:ag} {tn:σ→(Nat→AV)→List AV} {Q:σ→Prop}
theorem dh.out {i:Nat} {L:List AV} {o:σ} (r:σ) (e:o=r) (ev:Ev env call b s (.exit i) ⟨L,hk,[],.no⟩) (G:cf hh hk) (iq:Q r) (hl:L=tn r fun k=>L.getD k AV.undef):dh call b s (.exit i) hh tn Q o:=by
 subst e
 obtain ⟨y,q⟩:=mq (tmpl:=tn o) (Ev.out ev) hl
 exact ⟨y,hk,q,G,iq⟩
theorem dh.round {L:List AV} {o o':σ} (e:o=o') (ev:Ev env call b s .normal ⟨L,hk,[],.no⟩) (G:cf hh hk) (tin:(Nat→AV)→List AV) (hl:L=tin fun k=>L.getD k AV.undef) (ih:∀x,dh call b ⟨tin x,hk,[],.no⟩ ex hk tn Q o'):dh call b s ex hh tn Q o:=by
 subst e
 have q:=ih fun k=>L.getD k AV.undef
 rw[←hl] at q
 obtain ⟨y,h2,x,g,i⟩:=q;exact ⟨y,h2,Ev.loop ev x,G.trans g,i⟩
end
theorem ax.same {α:Type} [au α] {h:ag} {v:AV} {l:List α} (x:ax h v l) (n:Nat):AV.same (n+1) v v=true:=by
 rcases x.known with rfl | rfl | ⟨p,o,m,c,b,rfl,_⟩
 · rfl
 · rfl
 · exact vT n p o m c b
def P4 (cs:List AV):Prop:=∀n,dO (AV.same (n+1)) cs cs=true
theorem Od:P4 []:=fun _=>rfl
theorem jT {x:AV} {cs:List AV} (hx:∀n,AV.same (n+1) x x=true) (hc:P4 cs):P4 (x::cs):=fun n=>by
 show (AV.same (n+1) x x&&dO (AV.same (n+1)) cs cs)=true
 rw[hx,hc];rfl
theorem hU (n:Nat) {cs:List AV} (h:P4 cs):AV.same (n+2) (.agg cs) (.agg cs)=true:=h n
theorem jj {s:List UInt8} {j:Nat} (hj:j<s.length):im env (some .string) (some (.str s)) (some (.int .i64 ((j:Nat):Int)))=some (.int .u8 (((s.g j).toNat:Nat):Int)):=by
 refine Lq ?_
 rw[List.g,List.getD_eq_getElem?_getD,List.getElem?_eq_getElem hj];rfl
end
theorem oI {h:ag} {e s xt:TypeId} {xd:TypeDesc} {tys:Array TypeId} {bytes:Nat} {z x:AV} {M:List AV} (h0:tys[0]? =some s) (h1:tys[1]? =some xt) (hs:env.P.underlying s=some (.slice e)) (hx:env.P.underlying xt=some xd) (hi:iS xd=false) (B9:bh env e=some 1) (hb:dj env e=some bytes) (nV:cO env e=some z) (hz:z.cells.length=1) (h8:bytes≤63) (hlen:jU x=some M.length) (hf:cP h 1 M.length x=some M) (mD:M.all AV.scalar=true) (hm:M≠ []) (hl:M.length≤1073741824):
 ∃h',bp env h tys .aj x=some (.slice h.nx 0 M.length M.length true,h')∧h.new (.cells M e false)=some h':=by
 obtain ⟨h',n⟩:=oE (h:=h) (.cells M e false)
 refine ⟨h',?_,n⟩
 have hn:¬M.length=0:=fun e=>hm (List.length_eq_zero_iff.1 e)
 have Aq:(4*M.length+4096)*(bytes+1)≤1099511627776:=Nat.le_trans (Nat.mul_le_mul (show 4*M.length+4096≤17179869184 by omega) (show bytes+1≤64 by omega)) (by decide)
 simp only[bp,h0,h1,hs,hx,hi,B9,hb,hlen,hf,nV,hz,mD,Nat.mul_one,hn,Aq,n,if_true,if_false,and_self,Bool.false_eq_true]
theorem oJ {h:ag} {e s xt:TypeId} {xd:TypeDesc} {tys:Array TypeId} {bytes p:Nat} {op:Bool} {z x:AV} {L M:List AV} (y:Tidy h) (h0:tys[0]? =some s) (h1:tys[1]? =some xt) (hs:env.P.underlying s=some (.slice e)) (hx:env.P.underlying xt=some xd) (hi:iS xd=false) (B9:bh env e=some 1) (hb:dj env e=some bytes) (nV:cO env e=some z) (hz:z.cells.length=1) (h8:bytes≤63) (hlen:jU x=some M.length) (hf:cP h 1 M.length x=some M) (mD:M.all AV.scalar=true) {n:Nat} (hn:L.length=n) (hm:M≠ []) (hl:n+M.length≤1073741824)
 (hg:h.get p=some (.cells L e false)):
 ∃h',bp env h tys (.slice p 0 n n op) x=some (.slice h.nx 0 (n+M.length) (n+M.length) true,h')∧Tidy h'∧h'.nx=h.nx+1∧Kept p h h'∧h'.get h.nx=some (.cells (L++M) e false):=by
 have hp:=y _ _ hg
 subst hn
 have ec:(L.drop 0).take (L.length*1)++M=L++M:=by
  rw[List.drop_zero,Nat.mul_one,List.take_of_length_le (Nat.le_refl _)]
 have y2:Tidy (if op then h.put p none else h):=by
  cases op with
  | false=>exact y
  | true=>
    intro i x g
    show i<h.nx
    by_cases hi:i=p
    · subst hi;exact hp
    · rw[if_pos rfl,ag.aI (Ne.symm hi)] at g;exact y i x g
 have n2:(if op then h.put p none else h).nx=h.nx:=by cases op<;>rfl
 obtain ⟨h',n⟩:=oE (h:=if op then h.put p none else h) (.cells (L++M) e false)
 refine ⟨h',?_,gr y2 n,by rw[m4 n,n2],fun i x hi g=>?_,by rw[←n2];exact jZ n⟩
 · have hn:0<M.length:=List.length_pos_iff.2 hm
   have Aq:(4*(L.length+M.length)+4096)*(bytes+1)≤1099511627776:=Nat.le_trans (Nat.mul_le_mul (show 4*(L.length+M.length)+4096≤17179869184 by omega) (show bytes+1≤64 by omega)) (by decide)
   have hc:¬L.length+M.length≤L.length:=by omega
   simp only[bp,h0,h1,hs,hx,hi,B9,hb,hlen,hf,nV,hz,mD,hg,hc,if_true,if_false,Bool.false_eq_true,Nat.mul_one]
   rw[if_pos ⟨trivial,trivial,trivial⟩,if_pos ⟨Aq,by omega,fun _=>⟨trivial,by omega,trivial⟩⟩]
   rw[show List.take L.length (List.drop 0 L)=L by rw[List.drop_zero,List.take_length],n]
 · refine js y2 n ?_
   cases op with
   | false=>exact g
   | true=>rw[if_pos rfl,ag.aI (Ne.symm hi)];exact g
def b_ (e:TypeId) (h0 h:ag) (z:AV) (L:List AV):Prop:=(z= .aj∧L=[])∨(L≠ []∧∃p op,z= .slice p 0 L.length L.length op∧h0.nx≤p∧h.get p=some (.cells L e false))
theorem b_.has {e:TypeId} {h0 h h':ag} {z:AV} {L:List AV} (o:b_ e h0 h z L) (a:Has h h'):b_ e h0 h' z L:=o.imp id fun ⟨hn,p,op,e,h1,g⟩=>⟨hn,p,op,e,h1,a _ _ g⟩
theorem b_.app {e s xt:TypeId} {xd:TypeDesc} {h0 h:ag} {tys:Array TypeId} {bytes:Nat} {z0 z x:AV} {L M:List AV} (y:Tidy h) (y0:Tidy h0) (a:Has h0 h) (hle:h0.nx≤h.nx) (o:b_ e h0 h z L) (t0:tys[0]? =some s) (t1:tys[1]? =some xt) (hs:env.P.underlying s=some (.slice e)) (hx:env.P.underlying xt=some xd) (hi:iS xd=false) (B9:bh env e=some 1) (hb:dj env e=some bytes) (nV:cO env e=some z0) (hz:z0.cells.length=1) (h8:bytes≤63) (hlen:jU x=some M.length) (hf:cP h 1 M.length x=some M) (mD:M.all AV.scalar=true) (hm:M≠ []) (hl:L.length+M.length≤1073741824):
 ∃z' h',bp env h tys z x=some (z',h')∧Tidy h'∧h.nx≤h'.nx∧Has h0 h'∧b_ e h0 h' z' (L++M):=by
 rcases o with ⟨rfl,rfl⟩ | ⟨hn,p,op,rfl,hp,hg⟩
 · obtain ⟨h',e1,n⟩:=oI (h:=h) t0 t1 hs hx hi B9 hb nV hz h8 hlen hf mD hm (by simpa using hl)
   have:=m4 n
   exact ⟨_,h',e1,gr y n,by omega,a.trans (pM y n),.inr ⟨by simpa using hm,h.nx,true,by simp,hle,jZ n⟩⟩
 · obtain ⟨h',e1,y1,z1,k1,g1⟩:=oJ (op:=op) y t0 t1 hs hx hi B9 hb nV hz h8 hlen hf mD rfl hm hl hg
   exact ⟨_,h',e1,y1,by omega,Has.iE a k1 y0 hp,.inr ⟨by simp [hn],h.nx,true,by rw[List.length_append],hle,g1⟩⟩
theorem Bg {i:Nat} {b:Bool} {v:AV}:jU (.slice i 0 1 1 b)=some [v].length:=rfl
theorem tf {h:ag} {i:Nat} {b:Bool} {v:AV} {e:TypeId} {ro:Bool} (hg:h.get i=some (.cells [v] e ro)):cP h 1 [v].length (.slice i 0 1 1 b)=some [v]:=by
 simp [cP,hg]
theorem b_.le {e:TypeId} {h0 h1 h:ag} {z:AV} {L:List AV} (o:b_ e h1 h z L) (hn:h0.nx≤h1.nx):b_ e h0 h z L:=o.imp id fun ⟨cH,p,op,e,h1,g⟩=>⟨cH,p,op,e,by omega,g⟩
def zs (k:IntKind) (l:List Int):List AV:=l.map (AV.int k)
theorem kD (k:IntKind) (l:List Int):(zs k l).length=l.length:=by simp [zs]
theorem HD (k:IntKind) (l:List Int) (x:Int):zs k (l++[x])=zs k l++[AV.int k x]:=by simp [zs]
theorem LM (k:IntKind) (l:List Int) {i:Nat} (hi:i<l.length):(zs k l)[i]? =some (.int k (l.g i)):=by
 rw[zs,List.getElem?_map,List.getElem?_eq_getElem hi,List.g,List.getD_eq_getElem?_getD,List.getElem?_eq_getElem hi];rfl
structure ef (h:ag) (k:IntKind) (e:TypeId) (v:AV) (l:List Int):Prop where
 at_:ji env h e 1 v l.length (zs k l)
 agg:dk env e=some false
 known:v= .aj∨v= .cJ∨∃p o m c b,v= .slice p o m c b
theorem ef.has {k:IntKind} {h h':ag} {e:TypeId} {v:AV} {l:List Int} (x:ef h k e v l) (a:Has h h'):ef h' k e v l:=⟨x.at_.has a,x.agg,x.known⟩
theorem ef.scalar {k:IntKind} {h:ag} {e:TypeId} {v:AV} {l:List Int} (x:ef h k e v l):AV.scalar v=true:=by
 rcases x.known with rfl | rfl | ⟨p,o,m,c,b,rfl⟩<;>rfl
theorem ef.same {k:IntKind} {h:ag} {e:TypeId} {v:AV} {l:List Int} (x:ef h k e v l) (n:Nat):AV.same (n+1) v v=true:=by
 rcases x.known with rfl | rfl | ⟨p,o,m,c,b,rfl⟩
 · rfl
 · rfl
 · exact vT n p o m c b
theorem ef.small {k:IntKind} {h:ag} {e:TypeId} {v:AV} {l:List Int} (x:ef h k e v l):l.length<2^60:=x.at_.small
theorem ef.len {k:IntKind} {h:ag} {e:TypeId} {v:AV} {l:List Int} (x:ef h k e v l):cV (some (.slice e)) (some v)=some (.int .i64 (l.length:Nat)):=x.at_.lens
theorem ef.elem {k:IntKind} {h:ag} {e:TypeId} {v:AV} {l:List Int} (x:ef h k e v l) {i:Nat} (hi:i<l.length):∃p q,bP env (some (.slice e)) (some v) (some (.int .i64 ((i:Nat):Int)))=some (.ptr p q)∧bH env h e (.ptr p q)=some (.int k (l.g i)):=x.at_.elem x.agg (LM k l hi)
theorem ef.load {k:IntKind} {h:ag} {e:TypeId} {v:AV} {l:List Int} (x:ef h k e v l) {i p q:Nat} (hi:i<l.length) (hx:bP env (some (.slice e)) (some v) (some (.int .i64 ((i:Nat):Int)))=some (.ptr p q)):bH env h e (.ptr p q)=some (.int k (l.g i)):=by
 obtain ⟨p',q',h1,h2⟩:=x.elem hi
 rw[hx] at h1
 simp only[Option.some.injEq,AV.ptr.injEq] at h1
 obtain ⟨rfl,rfl⟩:=h1
 exact h2
theorem ef.nil {k:IntKind} {h:ag} {e:TypeId} (hs:bh env e=some 1) (ha:dk env e=some false):ef h k e .aj []:=⟨⟨hs,rfl,by decide,rfl,.inl rfl⟩,ha,.inl rfl⟩
theorem b_.zs {k:IntKind} {e:TypeId} {h0 h:ag} {z:AV} {l:List Int} (o:b_ e h0 h z (aA.zs k l)) (hl:l.length<2^60) (hs:bh env e=some 1) (ha:dk env e=some false):ef h k e z l:=by
 rcases o with ⟨rfl,e0⟩ | ⟨hn,p,op,rfl,_,hg⟩
 · have:l=[]:=List.length_eq_zero_iff.1 (by have:=congrArg List.length e0;rwa [kD] at this)
   subst this
   exact ef.nil hs ha
 · rw[kD]
   exact ⟨⟨hs,by rw[kD];omega,hl,rfl,.inr ⟨p,0,_,_,op,_,_,_,rfl,Nat.le_refl _,hg,fun j _=>by rw[Nat.zero_add]⟩⟩,ha,.inr (.inr ⟨_,_,_,_,_,rfl⟩)⟩
theorem b_.Rq {k:IntKind} {e:TypeId} {h0 h:ag} {z:AV} {l:List Int} {n:Nat} (o:b_ e h0 h z (aA.zs k l)) (v:AV.within h0.nx (n+1) z=true) (hs:bh env e=some 1) (ha:dk env e=some false):ef h0 k e z l:=by
 rcases o with ⟨rfl,e0⟩ | ⟨hn,p,op,rfl,hp,hg⟩
 · have:l=[]:=List.length_eq_zero_iff.1 (by have:=congrArg List.length e0;rwa [kD] at this)
   subst this
   exact ef.nil hs ha
 · have:=of_decide_eq_true (show decide (p<h0.nx)=true from v)
   omega
theorem uT {nx:Nat} {z:AV} {cs:List AV} (h:AV.within nx 20 (.tuple (z::cs))=true):AV.within nx (18+1) z=true:=by
 simp only[AV.within,List.all_cons,Bool.and_eq_true] at h
 exact h.1
theorem b_.Wi {k:IntKind} {e s xt:TypeId} {h0 h:ag} {tys:Array TypeId} {bytes b:Nat} {z0 z:AV} {L:List Int} {v:Int} {f:TypeId} {ro op:Bool} (y:Tidy h) (y0:Tidy h0) (a:Has h0 h) (hle:h0.nx≤h.nx) (o:b_ e h0 h z (aA.zs k L)) (hg:h.get b=some (.cells [.int k v] f ro)) (hl:L.length≤1000000000) (t0:tys[0]? =some s) (t1:tys[1]? =some xt) (hs:env.P.underlying s=some (.slice e)) (hx:env.P.underlying xt=some (.slice e)) (B9:bh env e=some 1) (hb:dj env e=some bytes) (nV:cO env e=some z0) (hz:z0.cells.length=1) (h8:bytes≤63):
 ∃z' h',bp env h tys z (.slice b 0 1 1 op)=some (z',h')∧Tidy h'∧h.nx≤h'.nx∧Has h0 h'∧b_ e h0 h' z' (aA.zs k (L++[v])):=by
 rw[HD]
 exact b_.app y y0 a hle o t0 t1 hs hx rfl B9 hb nV hz h8 Bg (tf hg) rfl (by simp) (by rw[kD];simp;omega)
def iG {σ:Type} (call:aB) (b:Code) (s:St) (ex:gR) (h:ag) (e:TypeId) (tn:σ→AV→(Nat→AV)→List AV) (own:σ→List AV) (N:Nat) (r:σ):Prop:=∃z y hk,Ev env call (.loop b) s ex ⟨tn r z y,hk,[],.no⟩∧cf h hk∧b_ e h hk z (own r)∧(own r).length≤N
section
variable {σ:Type} {call:aB} {b:Code} {s:St} {ex:gR} {h hk:ag} {e:TypeId} {tn:σ→AV→(Nat→AV)→List AV} {own:σ→List AV} {N:Nat}
theorem iG.out {i:Nat} {L:List AV} {o:σ} (r:σ) (z:AV) (e1:o=r) (ev:Ev env call b s (.exit i) ⟨L,hk,[],.no⟩) (G:cf h hk) (oz:b_ e h hk z (own r)) (ln:(own r).length≤N) (hl:L=tn r z fun k=>L.getD k AV.undef):iG call b s (.exit i) h e tn own N o:=by
 subst e1
 obtain ⟨y,q⟩:=mq (tmpl:=tn o z) (Ev.out ev) hl
 exact ⟨z,y,hk,q,G,oz,ln⟩
theorem iG.round {L:List AV} {o o':σ} (e1:o=o') (ev:Ev env call b s .normal ⟨L,hk,[],.no⟩) (tin:(Nat→AV)→List AV) (hl:L=tin fun k=>L.getD k AV.undef) (ih:∀x,iG call b ⟨tin x,hk,[],.no⟩ ex h e tn own N o'):iG call b s ex h e tn own N o:=by
 subst e1
 have q:=ih fun k=>L.getD k AV.undef
 rw[←hl] at q
 obtain ⟨z,y,h2,x,g,oz,ln⟩:=q;exact ⟨z,y,h2,Ev.loop ev x,g,oz,ln⟩
end
def ay {α:Type} [au α] (h0 h:ag) (z:AV) (l:List α):Prop:=
 ((z= .aj∨∃p,z= .slice p 0 0 0 false∧h0.nx≤p∧h.get p=some (.cells [] (au.e α) false))∧l=[])∨
 (l≠ []∧∃p op,z= .slice p 0 l.length l.length op∧h0.nx≤p∧h.get p=some (.cells (l.flatMap au.c) (au.e α) false))
def bI (z:AV) (i:Nat):Prop:=∀o n c b,z≠ .slice i o n c b
section
variable {α:Type} [au α] {h0 h h':ag} {z:AV} {l m:List α}
theorem ay.has (o:ay h0 h z l) (a:Has h h'):ay h0 h' z l:=by
 rcases o with ⟨rfl | ⟨p,rfl,h1,h2⟩,rfl⟩ | ⟨hn,p,op,e,h1,g⟩
 · exact .inl ⟨.inl rfl,rfl⟩
 · exact .inl ⟨.inr ⟨p,rfl,h1,a _ _ h2⟩,rfl⟩
 · exact .inr ⟨hn,p,op,e,h1,a _ _ g⟩
theorem ay.aai {s xt:TypeId} {tys:Array TypeId} {bytes N:Nat} {z0 x:AV} (y:Tidy h) (y0:Tidy h0) (a:Has h0 h) (hle:h0.nx≤h.nx) (o:ay h0 h z l) (hlen:jU x=some m.length) (hf:cP h (au.n α) m.length x=some (m.flatMap au.c)) (mD:(m.flatMap au.c).all AV.scalar=true) (hl:l.length+m.length≤N)
 (t0:tys[0]? =some s) (t1:tys[1]? =some xt) (hs:env.P.underlying s=some (.slice (au.e α))) (hx:env.P.underlying xt=some (.slice (au.e α))) (hb:dj env (au.e α)=some bytes) (nV:cO env (au.e α)=some z0) (hz:z0.cells.length=au.n α) (Tc:∀k,k≤N→(4*k+4096)*(bytes+1)≤1099511627776):
 ∃z' h',bp env h tys z x=some (z',h')∧Tidy h'∧h.nx≤h'.nx∧Has h0 h'∧ay h0 h' z' (l++m)∧∀i w,bI z i→h.get i=some w→h'.get i=some w:=by
 have tg:=ca au.len m
 have hi:iS (.slice (au.e α))=false:=rfl
 have rR:∀{p:Nat} {ob:aw},h.get p=some ob→Tidy (h.put p (some ob))∧Has h0 (h.put p (some ob))∧(∀i w,h.get i=some w→(h.put p (some ob)).get i=some w):=fun {p ob} g=>by
  have hg:∀i,(h.put p (some ob)).get i=h.get i:=fun i=>by
   by_cases e:i=p
   · subst e;rw[ag.bu,g]
   · rw[ag.aI (Ne.symm e)]
  exact ⟨fun i w q=>y i w (by rw[←hg];exact q),fun i w q=>by rw[hg];exact a i w q,fun i w q=>by rw[hg];exact q⟩
 have LN:m≠ []→∃h',h.new (.cells (m.flatMap au.c) (au.e α) false)=some h'∧Tidy h'∧h.nx≤h'.nx∧Has h0 h'∧ay h0 h' (.slice h.nx 0 m.length m.length true) m∧∀i w,h.get i=some w→h'.get i=some w:=fun hm=>by
  obtain ⟨h',n⟩:=oE (h:=h) (.cells (m.flatMap au.c) (au.e α) false)
  have:=m4 n
  exact ⟨h',n,gr y n,by omega,a.trans (pM y n),.inr ⟨hm,h.nx,true,rfl,hle,jZ n⟩,fun i w g=>js y n g⟩
 rcases o with ⟨rfl | ⟨p,rfl,hp,hg⟩,rfl⟩ | ⟨hn,p,op,rfl,hp,hg⟩
 · rw[List.nil_append]
   by_cases hm:m=[]
   · subst hm
     simp only[List.length_nil,List.flatMap_nil,Nat.zero_mul] at hlen hf mD tg
     refine ⟨.aj,h,?_,y,Nat.le_refl _,a,.inl ⟨.inl rfl,rfl⟩,fun _ _ _ g=>g⟩
     simp only[bp,t0,t1,hs,hx,hi,au.size,hb,hlen,hf,nV,hz,mD,tg,if_true,if_false,and_self,List.length_nil,Bool.false_eq_true,Nat.zero_mul]
   · obtain ⟨h',n,q1,q2,q3,q4,q5⟩:=LN hm
     have Ig:¬m.length=0:=fun e=>hm (List.length_eq_zero_iff.1 e)
     refine ⟨_,h',?_,q1,q2,q3,q4,fun i w _ g=>q5 i w g⟩
     simp only[bp,t0,t1,hs,hx,hi,au.size,hb,hlen,hf,nV,hz,mD,tg,Ig,Tc m.length o!,n,if_true,if_false,and_self,Bool.false_eq_true]
 · rw[List.nil_append]
   by_cases hm:m=[]
   · subst hm
     simp only[List.length_nil,List.flatMap_nil,Nat.zero_mul] at hlen hf mD tg
     obtain ⟨q1,q2,q3⟩:=rR hg
     refine ⟨_,_,?_,q1,Nat.le_refl _,q2,.inl ⟨.inr ⟨p,rfl,hp,q3 _ _ hg⟩,rfl⟩,fun i w _ g=>q3 i w g⟩
     simp only[bp,t0,t1,hs,hx,hi,au.size,hb,hlen,hf,nV,hz,mD,tg,hg,if_true,if_false,and_self,List.length_nil,Bool.false_eq_true,Nat.zero_mul,Nat.add_zero,Nat.le_refl,List.flatMap_nil,setFrom]
   · obtain ⟨h',n,q1,q2,q3,q4,q5⟩:=LN hm
     have Ig:¬m.length≤0:=fun e=>hm (List.length_eq_zero_iff.1 o!)
     refine ⟨_,h',?_,q1,q2,q3,q4,fun i w _ g=>q5 i w g⟩
     simp only[bp,t0,t1,hs,hx,hi,au.size,hb,hlen,hf,nV,hz,mD,tg,hg,Ig,if_true,if_false,and_self,Bool.false_eq_true,Nat.zero_mul,Nat.add_zero,Nat.zero_add,List.length_nil,Nat.le_refl]
     rw[if_pos ⟨Tc m.length o!,trivial,fun e=>e.elim⟩]
     simp only[List.drop_nil,List.take_nil,List.nil_append,n]
 · have hlp:0<l.length:=List.length_pos_iff.2 hn
   have hpx:=y _ _ hg
   have AF:=ca au.len l
   by_cases hm:m=[]
   · subst hm
     simp only[List.length_nil,List.flatMap_nil,Nat.zero_mul] at hlen hf mD tg
     obtain ⟨q1,q2,q3⟩:=rR hg
     rw[List.append_nil]
     refine ⟨_,_,?_,q1,Nat.le_refl _,q2,.inr ⟨hn,p,op,rfl,hp,q3 _ _ hg⟩,fun i w _ g=>q3 i w g⟩
     simp only[bp,t0,t1,hs,hx,hi,au.size,hb,hlen,hf,nV,hz,mD,tg,hg,AF,if_true,if_false,and_self,List.length_nil,Bool.false_eq_true,Nat.zero_mul,Nat.add_zero,Nat.zero_add,Nat.le_refl,List.flatMap_nil,setFrom]
   · have Ve:0<m.length:=List.length_pos_iff.2 hm
     have y2:Tidy (if op then h.put p none else h):=by
      cases op with
      | false=>exact y
      | true=>
        intro i x g
        show i<h.nx
        by_cases hi:i=p
        · subst hi;exact hpx
        · rw[if_pos rfl,ag.aI (Ne.symm hi)] at g;exact y i x g
     have n2:(if op then h.put p none else h).nx=h.nx:=by cases op<;>rfl
     have k2:∀i w,i≠p→h.get i=some w→(if op then h.put p none else h).get i=some w:=fun i w hi g=>by
      cases op with
      | false=>exact g
      | true=>rw[if_pos rfl,ag.aI (Ne.symm hi)];exact g
     obtain ⟨h',n⟩:=oE (h:=if op then h.put p none else h) (.cells (l.flatMap au.c++m.flatMap au.c) (au.e α) false)
     have hk:∀i w,i≠p→h.get i=some w→h'.get i=some w:=fun i w hi g=>js y2 n (k2 i w hi g)
     have hc:¬l.length+m.length≤l.length:=by omega
     refine ⟨.slice h.nx 0 (l.length+m.length) (l.length+m.length) true,h',?_,gr y2 n,by rw[m4 n,n2];omega,fun i w g=>?_,.inr ⟨by simp [hn],h.nx,true,by rw[List.length_append],hle,by rw[List.flatMap_append,←n2];exact jZ n⟩,fun i w q g=>hk i w (fun e=>q 0 l.length l.length op (by subst e;rfl)) g⟩
     · simp only[bp,t0,t1,hs,hx,hi,au.size,hb,hlen,hf,nV,hz,mD,tg,hg,hc,if_true,if_false,and_self,Bool.false_eq_true]
       rw[if_pos ⟨Tc _ hl,by rw[AF];omega,fun _=>⟨trivial,by rw[AF];omega,trivial⟩⟩]
       rw[List.drop_zero,List.take_of_length_le (by rw[AF];exact Nat.le_refl _),n]
     · have:=y0 _ _ g
       exact hk i w o! (a i w g)
theorem ay.app {s xt:TypeId} {tys:Array TypeId} {bytes:Nat} {z0 x:AV} (y:Tidy h) (y0:Tidy h0) (a:Has h0 h) (hle:h0.nx≤h.nx) (o:ay h0 h z l) (hlen:jU x=some m.length) (hf:cP h (au.n α) m.length x=some (m.flatMap au.c)) (mD:(m.flatMap au.c).all AV.scalar=true) (hl:l.length+m.length≤1000000000)
 (t0:tys[0]? =some s) (t1:tys[1]? =some xt) (hs:env.P.underlying s=some (.slice (au.e α))) (hx:env.P.underlying xt=some (.slice (au.e α))) (hb:dj env (au.e α)=some bytes) (nV:cO env (au.e α)=some z0) (hz:z0.cells.length=au.n α) (h8:bytes≤255):
 ∃z' h',bp env h tys z x=some (z',h')∧Tidy h'∧h.nx≤h'.nx∧Has h0 h'∧ay h0 h' z' (l++m)∧∀i w,bI z i→h.get i=some w→h'.get i=some w:=
 ay.aai y y0 a hle o hlen hf mD hl t0 t1 hs hx hb nV hz fun k hk=>Nat.le_trans (Nat.mul_le_mul (show 4*k+4096≤4294967296 by omega) (show bytes+1≤256 by omega)) (by decide)
theorem ok_one {x:α} (o:au.ok h x):∀y∈ [x],au.ok h y:=fun y hy=>by
 rw[List.mem_singleton] at hy;subst hy;exact o
theorem Bh (a:∀y∈l,au.ok h y) (b:∀y∈m,au.ok h y):∀y∈l++m,au.ok h y:=fun y hy=>(List.mem_append.1 hy).elim (a y) (b y)
class Flat (α:Type) [au α]:Prop where
 free:∀{h h':ag} {x:α},au.ok h x→au.ok h' x
theorem eM {D:Type} [au D] [Flat D] {h h':ag} {l:List D} (a:∀y∈l,au.ok h y):∀y∈l,au.ok h' y:=fun y hy=>Flat.free (a y hy)
theorem ax.jU {v:AV} (x:ax h v l):jU v=some l.length:=by
 have hl:=x.at_.lens
 rcases x.known with rfl | rfl | ⟨p,o,m,c,b,rfl,_⟩
 · rw[oC] at hl
   simp only[Option.some.injEq,AV.int.injEq,true_and] at hl
   rw[show l.length=0 by omega];rfl
 · rw[S6] at hl
   simp only[Option.some.injEq,AV.int.injEq,true_and] at hl
   rw[show l.length=0 by omega];rfl
 · rw[fm] at hl
   simp only[Option.some.injEq,AV.int.injEq,true_and] at hl
   rw[show l.length=m by omega];rfl
theorem ax.first {v:AV} (x:ax h v l):cP h (au.n α) l.length v=some (l.flatMap au.c):=by
 by_cases hl:l=[]
 · subst hl
   rcases x.known with rfl | rfl | ⟨p,o,m,c,b,rfl,_⟩<;>simp [cP]
 · have hlp:0<l.length:=List.length_pos_iff.2 hl
   have AF:=ca au.len l
   rcases x.at_.block with h0 | ⟨p,o,m,c,b,C,f,ro,h1,_,h2,h3⟩
   · omega
   · subst h1
     have hm:m=l.length:=by
      have:=x.at_.lens
      rw[fm] at this
      simp only[Option.some.injEq,AV.int.injEq,true_and] at this
      omega
     subst hm
     have hC:o+l.length*au.n α≤C.length:=by
      rcases Nat.eq_zero_or_pos (l.length*au.n α) with h0 | h0
      · have:=Nat.mul_pos hlp (au.pos (α:=α));omega
      · have:=h3 (l.length*au.n α - 1) o!
        rw[List.getElem?_eq_getElem (by omega:l.length*au.n α - 1<(l.flatMap au.c).length)] at this
        have:=(List.getElem?_eq_some_iff.1 this).1
        omega
     simp only[cP,Nat.le_refl,if_true,if_false,show ¬l.length=0 by omega,h2,hC]
     congr 1
     apply List.ext_getElem?
     intro j
     by_cases hj:j<l.length*au.n α
     · rw[List.getElem?_take_of_lt hj,List.getElem?_drop,h3 j o!]
     · rw[List.getElem?_eq_none (by rw[List.length_take];omega),List.getElem?_eq_none o!]
theorem m7 {i:Nat} {b:Bool} {x:α} {e:TypeId} {ro:Bool} (hg:h.get i=some (.cells (au.c x) e ro)):cP h (au.n α) [x].length (.slice i 0 1 1 b)=some ([x].flatMap au.c):=by
 have:=au.len x
 simp only[cP,List.length_singleton,Nat.le_refl,if_true,hg,Nat.one_ne_zero,if_false,Nat.one_mul,Nat.zero_add,this,List.drop_zero,List.flatMap_cons,List.flatMap_nil,List.append_nil]
 rw[List.take_of_length_le o!]
theorem ay.rows (o:ay h0 h z l) (hl:l.length<2^60) (hk:∀x∈l,au.ok h x):ax h z l:=by
 rcases o with ⟨rfl | ⟨p,rfl,h1,h2⟩,rfl⟩ | ⟨hn,p,op,rfl,h1,g⟩
 · exact ⟨⟨au.size,(Nat.zero_mul _).symm,hl,rfl,.inl rfl⟩,.inl rfl,hk⟩
 · exact ⟨⟨au.size,(Nat.zero_mul _).symm,hl,rfl,.inl rfl⟩,.inr (.inr ⟨_,_,_,_,_,rfl,fun e=>by cases e⟩),hk⟩
 · have:=List.length_pos_iff.2 hn
   exact ⟨⟨au.size,ca au.len l,hl,rfl,.inr ⟨p,0,_,_,op,_,_,_,rfl,Nat.le_refl _,g,fun j _=>by rw[Nat.zero_add]⟩⟩,.inr (.inr ⟨_,_,_,_,_,rfl,fun _=>this⟩),hk⟩
end
structure Fact where
 time:Int
 kind:List UInt8
 item:List UInt8
 bl:List UInt8
 number:Int
@[reducible] def Fact.c (x:Fact):List AV:=[.int .i64 x.time,.str x.kind,.str x.item,.str x.bl,.int .i64 x.number]
def Fact.ok (h:ag) (x:Fact):Prop:=x.kind.length<2^60∧x.item.length<2^60∧x.bl.length<2^60
def Fact.eq (x y:Fact):Bool:=(x.time==y.time)&&(x.kind==y.kind)&&(x.item==y.item)&&(x.bl==y.bl)&&(x.number==y.number)
theorem Fact.deep (x y:Fact):jA env 16 40 (.agg (Fact.c x)) (.agg (Fact.c y))=some (Fact.eq x y):=by
 have e:jA env 16 40 (.agg (Fact.c x)) (.agg (Fact.c y))=(match some (x.time==y.time) with | some true=>(match some (x.kind==y.kind) with | some true=>(match some (x.item==y.item) with | some true=>(match some (x.bl==y.bl) with | some true=>(match some (x.number==y.number) with | some true=>some true | some false=>some false | none=>none) | some false=>some false | none=>none) | some false=>some false | none=>none) | some false=>some false | none=>none) | some false=>some false | none=>none):=by kernel_rfl
 rw[e,Fact.eq]
 cases (x.time==y.time)<;>try rfl
 cases (x.kind==y.kind)<;>try rfl
 cases (x.item==y.item)<;>try rfl
 cases (x.bl==y.bl)<;>try rfl
 cases (x.number==y.number)<;>try rfl
theorem Fact.eql (x y:Fact) {a b:Bool}:aN env .eql 40 a b (some (.agg (Fact.c x))) (some (.agg (Fact.c y)))=some (.bool (Fact.eq x y)):=by
 show (if env.P.eqGuardType env.P.depth 40 then none else (match jA env 16 40 (.agg (Fact.c x)) (.agg (Fact.c y)) with | some r=>some (AV.bool (r)) | none=>none))=_
 rw[show env.P.eqGuardType env.P.depth 40=false by kernel_rfl,Fact.deep];rfl
theorem Fact.neq (x y:Fact) {a b:Bool}:aN env .neq 40 a b (some (.agg (Fact.c x))) (some (.agg (Fact.c y)))=some (.bool (!Fact.eq x y)):=by
 show (if env.P.eqGuardType env.P.depth 40 then none else (match jA env 16 40 (.agg (Fact.c x)) (.agg (Fact.c y)) with | some r=>some (AV.bool (!r)) | none=>none))=_
 rw[show env.P.eqGuardType env.P.depth 40=false by kernel_rfl,Fact.deep];rfl
instance:au Fact where
 default:=⟨0,[],[],[],0⟩
 c:=Fact.c
 n:=5
 e:=40
 len _:=rfl
 ok:=Fact.ok
 mono a o:=⟨o.1,o.2.1,o.2.2⟩
 size:=by kernel_rfl
 agg:=by kernel_rfl
 pos:=by decide
instance:Flat Fact where
 free o:=o
theorem uj {p:Prop} [Decidable p] (h:(!decide p)=true):¬p:=by intro q;rw[decide_eq_true q] at h;cases h
theorem uk {p:Prop} [Decidable p] (h:(!decide p)=false):p:=by by_cases q:p;exact q;rw[decide_eq_false q] at h;cases h
def bs (l:List Bool):List AV:=l.map AV.bool
theorem Td (l:List Bool):(bs l).length=l.length:=by simp [bs]
theorem Te (l:List Bool) {i:Nat} (hi:i<l.length):(bs l)[i]? =some (.bool (l.g i)):=by
 rw[bs,List.getElem?_map,List.getElem?_eq_getElem hi,List.g,List.getD_eq_getElem?_getD,List.getElem?_eq_getElem hi];rfl
section
variable {h:ag} {t e:TypeId} {p i n:Nat}
theorem P5 {k:IntKind} {l:List Int} {ro:Bool} (ht:dk env t=some false) (hg:h.get p=some (.cells (zs k l) e ro)) (hi:i<l.length):bH env h t (.ptr p i)=some (.int k (l.g i)):=by
 simp only[bH,hg,fG,ht];exact LM k l hi
end
structure yF (h:ag) (e:TypeId) (v:AV) (l:List Bool):Prop where
 at_:ji env h e 1 v l.length (bs l)
 agg:dk env e=some false
section
variable {h h':ag} {e:TypeId} {v:AV} {l:List Bool}
theorem yF.scalar (x:yF h e v l):AV.scalar v=true:=by
 have q:=x.at_.lens
 cases v<;>first | rfl | (exfalso;revert q;simp [cV])
theorem rS {v:AV} (x:AV.scalar v=true):AV.cells v=[v]:=by
 cases v<;>first | rfl | cases x
theorem yF.small (x:yF h e v l):l.length<2^60:=x.at_.small
theorem yF.elem (x:yF h e v l) {i:Nat} (hi:i<l.length):∃p q,bP env (some (.slice e)) (some v) (some (.int .i64 ((i:Nat):Int)))=some (.ptr p q)∧bH env h e (.ptr p q)=some (.bool (l.g i)):=x.at_.elem x.agg (Te l hi)
theorem yF.load (x:yF h e v l) {i p q:Nat} (hi:i<l.length) (hx:bP env (some (.slice e)) (some v) (some (.int .i64 ((i:Nat):Int)))=some (.ptr p q)):bH env h e (.ptr p q)=some (.bool (l.g i)):=by
 obtain ⟨p',q',h1,h2⟩:=x.elem hi
 rw[hx] at h1
 simp only[Option.some.injEq,AV.ptr.injEq] at h1
 obtain ⟨rfl,rfl⟩:=h1
 exact h2
theorem yF.own {p n:Nat} {op ro:Bool} {f:TypeId} (hs:bh env e=some 1) (ha:dk env e=some false) (hg:h.get p=some (.cells (bs l) f ro)) (hn:l.length=n) (h60:n<2^60):yF h e (.slice p 0 n n op) l:=by
 subst hn
 exact ⟨⟨hs,by rw[Td];omega,h60,rfl,.inr ⟨p,0,_,_,op,_,_,_,rfl,Nat.le_refl _,hg,fun j _=>by rw[Nat.zero_add]⟩⟩,ha⟩
theorem ef.own {k:IntKind} {p n:Nat} {op ro:Bool} {f:TypeId} {l:List Int} (hs:bh env e=some 1) (ha:dk env e=some false) (hg:h.get p=some (.cells (zs k l) f ro)) (hn:l.length=n) (h60:n<2^60):ef h k e (.slice p 0 n n op) l:=by
 subst hn
 exact ⟨⟨hs,by rw[kD];omega,h60,rfl,.inr ⟨p,0,_,_,op,_,_,_,rfl,Nat.le_refl _,hg,fun j _=>by rw[Nat.zero_add]⟩⟩,ha,.inr (.inr ⟨_,_,_,_,_,rfl⟩)⟩
end
def rT {σ ρ:Type} (call:aB) (b:Code) (s:St) (ex:gR) (hh:ag) (tn:σ→AV→(Nat→AV)→List AV) (tr:ρ→AV→(Nat→AV)→List AV) (Qn:σ→AV→ag→Prop) (Qr:ρ→AV→ag→Prop):σ ⊕ ρ→Prop
 | .inl v=>∃z y hk,Ev env call (.loop b) s ex ⟨tn v z y,hk,[],.no⟩∧Tidy hk∧hh.nx≤hk.nx∧Qn v z hk
 | .inr r=>∃z y hk,Ev env call (.loop b) s .ret ⟨tr r z y,hk,[],.no⟩∧Tidy hk∧hh.nx≤hk.nx∧Qr r z hk
section
variable {σ ρ:Type} {call:aB} {b:Code} {s:St} {ex:gR} {hh hk:ag} {tn:σ→AV→(Nat→AV)→List AV} {tr:ρ→AV→(Nat→AV)→List AV} {Qn:σ→AV→ag→Prop} {Qr:ρ→AV→ag→Prop}
theorem rT.n {o:σ ⊕ ρ} {v:σ} (e:o= .inl v) (x:rT call b s ex hh tn tr Qn Qr o):∃z y hk,Ev env call (.loop b) s ex ⟨tn v z y,hk,[],.no⟩∧Tidy hk∧hh.nx≤hk.nx∧Qn v z hk:=by subst e;exact x
theorem rT.r {o:σ ⊕ ρ} {r:ρ} (e:o= .inr r) (x:rT call b s ex hh tn tr Qn Qr o):∃z y hk,Ev env call (.loop b) s .ret ⟨tr r z y,hk,[],.no⟩∧Tidy hk∧hh.nx≤hk.nx∧Qr r z hk:=by subst e;exact x
theorem rT.out {i:Nat} {L:List AV} {o:σ ⊕ ρ} (v:σ) (z:AV) (e:o= .inl v) (ev:Ev env call b s (.exit i) ⟨L,hk,[],.no⟩) (y1:Tidy hk) (n1:hh.nx≤hk.nx) (q:Qn v z hk) (hl:L=tn v z fun k=>L.getD k AV.undef):rT call b s (.exit i) hh tn tr Qn Qr o:=by
 subst e
 obtain ⟨y,x⟩:=mq (tmpl:=tn v z) (Ev.out ev) hl
 exact ⟨z,y,hk,x,y1,n1,q⟩
theorem rT.round {L:List AV} {o o':σ ⊕ ρ} (e:o=o') (ev:Ev env call b s .normal ⟨L,hk,[],.no⟩) (n1:hh.nx≤hk.nx) (tin:(Nat→AV)→List AV) (hl:L=tin fun k=>L.getD k AV.undef) (ih:∀x,rT call b ⟨tin x,hk,[],.no⟩ ex hk tn tr Qn Qr o'):rT call b s ex hh tn tr Qn Qr o:=by
 subst e
 have q:=ih fun k=>L.getD k AV.undef
 rw[←hl] at q
 cases o with
 | inl v=>obtain ⟨z,y,h2,x,y1,n2,g⟩:=q;exact ⟨z,y,h2,Ev.loop ev x,y1,Nat.le_trans n1 n2,g⟩
 | inr r=>obtain ⟨z,y,h2,x,y1,n2,g⟩:=q;exact ⟨z,y,h2,Ev.loop ev x,y1,Nat.le_trans n1 n2,g⟩
end
theorem b_.LP {k:IntKind} {e s xt:TypeId} {g h:ag} {tys:Array TypeId} {bytes b:Nat} {z0 z:AV} {L:List Int} {v:Int} {f:TypeId} {ro op:Bool} (y:Tidy h) (hle:g.nx≤h.nx) (o:b_ e g h z (aA.zs k L)) (hg:h.get b=some (.cells [.int k v] f ro)) (hl:L.length≤1000000000) (t0:tys[0]? =some s) (t1:tys[1]? =some xt) (hs:env.P.underlying s=some (.slice e)) (hx:env.P.underlying xt=some (.slice e)) (B9:bh env e=some 1) (hb:dj env e=some bytes) (nV:cO env e=some z0) (hz:z0.cells.length=1) (h8:bytes≤63):
 ∃z' h',bp env h tys z (.slice b 0 1 1 op)=some (z',h')∧Tidy h'∧h.nx≤h'.nx∧(∀i w,i<g.nx→h.get i=some w→h'.get i=some w)∧b_ e g h' z' (aA.zs k (L++[v])):=by
 rw[HD]
 have JB:(aA.zs k L).length≤1000000000:=by rw[kD];exact hl
 rcases o with ⟨rfl,e0⟩ | ⟨hn,p,op',rfl,hp,hgp⟩
 · rw[e0]
   obtain ⟨h',e1,n⟩:=oI (h:=h) (M:=[.int k v]) t0 t1 hs hx rfl B9 hb nV hz h8 Bg (tf hg) rfl (by simp) (by simp)
   have:=m4 n
   exact ⟨_,h',e1,gr y n,by omega,fun i w _ q=>js y n q,.inr ⟨by simp,h.nx,true,by simp,hle,jZ n⟩⟩
 · obtain ⟨h',e1,y1,z1,k1,g1⟩:=oJ (op:=op') (M:=[.int k v]) y t0 t1 hs hx rfl B9 hb nV hz h8 Bg (tf hg) rfl rfl (by simp) (by simp;omega) hgp
   exact ⟨_,h',e1,y1,by omega,fun i w hi q=>k1 i w o! q,.inr ⟨by simp,h.nx,true,by rw[List.length_append],hle,g1⟩⟩
theorem b_.Rr {e:TypeId} {h0 h:ag} {z:AV} {L:List AV} {n:Nat} (o:b_ e h0 h z L) (v:AV.within h0.nx (n+1) z=true):b_ e h0 h0 z L:=by
 rcases o with ⟨rfl,e0⟩ | ⟨hn,p,op,rfl,hp,hg⟩
 · exact .inl ⟨rfl,e0⟩
 · have:=of_decide_eq_true (show decide (p<h0.nx)=true from v)
   omega
theorem Ev.to {call:aB} {b:Code} {s:St} {e:gR} {L L':List AV} {hk:ag} (ev:Ev env call b s e ⟨L,hk,[],.no⟩) (hl:L=L'):Ev env call b s e ⟨L',hk,[],.no⟩:=hl▸ev
theorem LQ {v:AV} (h:AV.scalar v=true):v.cells=[v]:=by cases v<;>first | rfl | cases h
theorem aak {h:ag} {t e:TypeId} {i o:Nat} {cs N:List AV} {v:AV} (y:Tidy h) (gg:h.get i=some (.cells cs e false)) (hs:bh env t=some 1) (hk:AV.scalar v=true) (hl:Nat.ble (o+1) cs.length=true) (hN:setFrom cs o [v]=N):∃h',a_ env h t (.ptr i o) v=some h'∧Tidy h'∧h'.nx=h.nx∧h'.get i=some (.cells N e false)∧Kept i h h':=by
 have c:=LQ hk
 exact Wf y gg hs (by rw[c];rfl) hl (by rw[c];exact hN) (by rw[c];simp [hk])
section
variable {α:Type} [au α]
theorem ay.gS {h0 h:ag} {z:AV} {l:List α} {n:Nat} (o:ay h0 h z l) (v:AV.within h0.nx (n+1) z=true):ax h0 z l:=by
 have nl:∀z,(z= .aj∨∃p,z=AV.slice p 0 0 0 false∧h0.nx≤p)→AV.within h0.nx (n+1) z=true→ax h0 z ([]:List α):=fun z hz v=>by
  rcases hz with rfl | ⟨p,rfl,hp⟩
  · exact ⟨⟨au.size,(Nat.zero_mul _).symm,(show (0:Nat)<2^60 by decide),rfl,.inl rfl⟩,.inl rfl,fun _ hx=>by cases hx⟩
  · have:=of_decide_eq_true (show decide (p<h0.nx)=true from v)
    omega
 rcases o with ⟨rfl | ⟨p,rfl,h1,h2⟩,rfl⟩ | ⟨hn,p,op,rfl,hp,hg⟩
 · exact nl _ (.inl rfl) v
 · exact nl _ (.inr ⟨p,rfl,h1⟩) v
 · have:=of_decide_eq_true (show decide (p<h0.nx)=true from v)
   omega
theorem ay.le {h0 h1 h:ag} {z:AV} {l:List α} (o:ay h1 h z l) (hn:h0.nx≤h1.nx):ay h0 h z l:=by
 rcases o with ⟨rfl | ⟨p,rfl,h1,h2⟩,rfl⟩ | ⟨cH,p,op,e,h1,g⟩
 · exact .inl ⟨.inl rfl,rfl⟩
 · exact .inl ⟨.inr ⟨p,rfl,by omega,h2⟩,rfl⟩
 · exact .inr ⟨cH,p,op,e,by omega,g⟩
def oK {σ:Type} (call:aB) (b:Code) (s:St) (ex:gR) (h:ag) (tn:σ→AV→(Nat→AV)→List AV) (own:σ→List α) (N:Nat) (r:σ):Prop:=∃z y hk,Ev env call (.loop b) s ex ⟨tn r z y,hk,[],.no⟩∧cf h hk∧ay h hk z (own r)∧(∀y∈own r,au.ok hk y)∧(own r).length≤N
variable {σ:Type} {call:aB} {b:Code} {s:St} {ex:gR} {h hk:ag} {tn:σ→AV→(Nat→AV)→List AV} {own:σ→List α} {N:Nat}
theorem oK.out {i:Nat} {L:List AV} {o:σ} (r:σ) (z:AV) (e1:o=r) (ev:Ev env call b s (.exit i) ⟨L,hk,[],.no⟩) (G:cf h hk) (oz:ay h hk z (own r)) (ok:∀y∈own r,au.ok hk y) (ln:(own r).length≤N) (hl:L=tn r z fun k=>L.getD k AV.undef):oK call b s (.exit i) h tn own N o:=by
 subst e1
 obtain ⟨y,q⟩:=mq (tmpl:=tn o z) (Ev.out ev) hl
 exact ⟨z,y,hk,q,G,oz,ok,ln⟩
theorem oK.round {L:List AV} {o o':σ} (e1:o=o') (ev:Ev env call b s .normal ⟨L,hk,[],.no⟩) (tin:(Nat→AV)→List AV) (hl:L=tin fun k=>L.getD k AV.undef) (ih:∀x,oK call b ⟨tin x,hk,[],.no⟩ ex h tn own N o'):oK call b s ex h tn own N o:=by
 subst e1
 have q:=ih fun k=>L.getD k AV.undef
 rw[←hl] at q
 obtain ⟨z,y,h2,x,g,oz,ok,ln⟩:=q;exact ⟨z,y,h2,Ev.loop ev x,g,oz,ok,ln⟩
end
section
variable {α:Type} [au α]
theorem LU {l:List α} {i:Nat} (h:i<l.length) (x:α):(l.set i x).g i=x:=by
 rw[List.g,List.getD_eq_getElem?_getD,List.getElem?_set_self h];rfl
theorem LV {l:List α} {i j:Nat} (h:i≠j) (x:α):(l.set i x).g j=l.g j:=by
 rw[List.g,List.g,List.getD_eq_getElem?_getD,List.getD_eq_getElem?_getD,List.getElem?_set_ne h]
theorem Bi {l:List α} {i:Nat} (h:i<l.length) (x:α):setFrom (l.flatMap au.c) (i*au.n α) (au.c x)=(l.set i x).flatMap au.c:=by
 have hn:0<au.n α:=au.pos
 have hl:=ca au.len l
 have JB:=ca au.len (l.set i x)
 rw[List.length_set] at JB
 have hx:=au.len x
 apply List.ext_getElem?
 intro k
 rw[dm,hx,hl]
 have hk:k=k/au.n α*au.n α+k%au.n α:=by rw[Nat.mul_comm];exact (Nat.div_add_mod k _).symm
 have hr:=Nat.mod_lt k hn
 generalize k/au.n α=q at hk
 generalize k%au.n α=r at hk hr
 by_cases hq:q<l.length
 · have h1:=ju au.len l q r hq hr
   have h2:=ju au.len (l.set i x) q r (by rw[List.length_set];exact hq) hr
   subst hk
   by_cases e:q=i
   · subst e
     have:q*au.n α+au.n α≤l.length*au.n α:=by rw[←Nat.succ_mul];exact Nat.mul_le_mul_right _ hq
     rw[if_pos ⟨by omega,by omega,by omega⟩,h2,LU hq,Nat.add_sub_cancel_left]
   · rw[if_neg,h1,h2,LV (Ne.symm e)]
     intro ⟨a,b,c⟩
     rcases Nat.lt_or_gt_of_ne e with e | e
     · have:q*au.n α+au.n α≤i*au.n α:=by rw[←Nat.succ_mul];exact Nat.mul_le_mul_right _ e
       omega
     · have:i*au.n α+au.n α≤q*au.n α:=by rw[←Nat.succ_mul];exact Nat.mul_le_mul_right _ e
       omega
 · have:l.length*au.n α≤q*au.n α:=Nat.mul_le_mul_right _ o!
   rw[if_neg o!,List.getElem?_eq_none o!,List.getElem?_eq_none o!]
theorem ay.at {h0 h:ag} {z:AV} {l:List α} (y:Tidy h) (y0:Tidy h0) (a:Has h0 h) (o:ay h0 h z l) {i:Nat} (hi:i<l.length):
 ∃p,bP env (some (.slice (au.e α))) (some z) (some (.int .i64 ((i:Nat):Int)))=some (.ptr p (i*au.n α))∧
  ∀x:α,(au.c x).all AV.scalar=true→∃h',a_ env h (au.e α) (.ptr p (i*au.n α)) (.agg (au.c x))=some h'∧Tidy h'∧h'.nx=h.nx∧ay h0 h' z (l.set i x)∧Has h0 h':=by
 rcases o with ⟨_,rfl⟩ | ⟨hn,p,op,rfl,hp,hg⟩
 · simp at hi
 · have ix:=iZ (E:=env) (i:=p) (o:=0) (c:=l.length) (b:=op) (au.size (α:=α)) hi
   rw[Nat.zero_add] at ix
   refine ⟨p,ix,fun x hx=>?_⟩
   have hl:=ca au.len l
   have hb:i*au.n α+au.n α≤l.length*au.n α:=by rw[←Nat.succ_mul];exact Nat.mul_le_mul_right _ hi
   obtain ⟨h',s⟩:=Du (E:=env) (t:=au.e α) (o:=i*au.n α) (n:=au.n α) (v:= .agg (au.c x)) hg au.size (au.len x) o! hx
   have g':=zr y s hg
   refine ⟨h',s,wm y s hg,wk s hg,.inr ⟨by intro e;rw[←List.length_eq_zero_iff,List.length_set] at e;omega,p,op,by rw[List.length_set],hp,?_⟩,fun j w gw=>?_⟩
   · rw[g']
     show some (aw.cells (setFrom (l.flatMap au.c) (i*au.n α) (au.c x)) _ _)=_
     rw[Bi hi]
   · have:=y0 _ _ gw
     exact wj y s hg o! (a _ _ gw)
end
def jb:Code→List Code
 | .seq a b=>jb a++jb b
 | .cond _ a b=>jb a++jb b
 | .block _ b=>jb b
 | .loop b=>jb b
 | .scope b=>jb b
 | .rangeFunc _ _ a b=>jb a++jb b
 | .region i o d=> [.region i o d]
 | _=> []
section
variable {h:ag} {b:Nat} {pre post:List AV} {L:List Int} {e:TypeId} {ro:Bool} {o t j x:Nat}
def Rs (L:List Int) (d s n:Nat):List Int:=if d+n≤L.length∧s+n≤L.length then L.take d++(L.drop s).take n++L.drop (d+n) else L
theorem IW (L:List Int) (d s n:Nat):(Rs L d s n).length=L.length:=by
 unfold Rs
 split
 · simp only[List.length_append,List.length_take,List.length_drop];omega
 · rfl
theorem YH {h:ag} {b:Nat} {o:aw} (y:Tidy h) (g:h.get b=some o):∃hw,Tidy hw∧hw.nx=h.nx∧hw.get b=none∧Has hw h∧∀i,i≠b→hw.get i=h.get i:=
 ⟨h.put b none,fun i x q=>by
  by_cases e:i=b
  · subst e;rw[ag.bu] at q;cases q
  · rw[ag.aI (Ne.symm e)] at q;exact y i x q,rfl,ag.bu _,fun i x q=>by
  by_cases e:i=b
  · subst e;rw[ag.bu] at q;cases q
  · rw[ag.aI (Ne.symm e)] at q;exact q,fun i e=>ag.aI (Ne.symm e) _⟩
end
theorem l! {p:Prop} (h:p:=by first | omega | (simp only[List.length_set,List.length_replicate,IW]<;>omega)):p:=h
end
end Go.Proofs.aA
