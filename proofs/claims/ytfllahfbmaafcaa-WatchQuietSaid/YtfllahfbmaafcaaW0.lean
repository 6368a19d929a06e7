import Derived.Test.YtfllahfbmaafcaaA7
import Derived.Test.YtfllahfbmaafcaaEnv
namespace Go.Proofs.aG
open Go.Proofs Ab
noncomputable section
set_option maxRecDepth 100000
set_option maxHeartbeats 4000000
set_option linter.unusedVariables false
set_option linter.unusedSimpArgs false
theorem agH {b:Bool} (h:b=true):(!b)=false:=by rw[h];rfl
theorem agI {b:Bool} (h:b=false):(!b)=true:=by rw[h];rfl
theorem lH (t:TypeId) (c d:Bool) (k:IntKind) (a b:Int):cE env .eql t c d (some (.int k a)) (some (.int k b))=some (.bool (decide (a=b))):=Wy t c d k a b
theorem j6 (t:TypeId) (c d:Bool) (k:IntKind) (a b:Int):cE env .neq t c d (some (.int k a)) (some (.int k b))=some (.bool (!decide (a=b))):=Wz t c d k a b
theorem bU (t:TypeId) (c d:Bool) (k:IntKind) (a b:Int):cE env .lss t c d (some (.int k a)) (some (.int k b))=some (.bool (decide (a<b))):=WA t c d k a b
theorem qT (t:TypeId) (c d:Bool) (k:IntKind) (a b:Int):cE env .leq t c d (some (.int k a)) (some (.int k b))=some (.bool (decide (a≤b))):=WB t c d k a b
theorem b9 (t:TypeId) (c d:Bool) (k:IntKind) (a b:Int):cE env .gtr t c d (some (.int k a)) (some (.int k b))=some (.bool (decide (b<a))):=WC t c d k a b
theorem qd (t:TypeId) (c d:Bool) (k:IntKind) (a b:Int):cE env .geq t c d (some (.int k a)) (some (.int k b))=some (.bool (decide (b≤a))):=WD t c d k a b
theorem WM (t:TypeId) (c d:Bool) (a b:List UInt8):cE env .eql t c d (some (.str a)) (some (.str b))=some (.bool (decide (a=b))):=R1 t c d a b
theorem Q5 (t:TypeId) (c d:Bool) {k:IntKind} {a b z:Int} (h:k.wrap (a+b)=z):cE env .add t c d (some (.int k a)) (some (.int k b))=some (.int k z):=BR h
theorem wC (t:TypeId) (c d:Bool) {k:IntKind} {a b z:Int} (h:k.wrap (a - b)=z):cE env .sub t c d (some (.int k a)) (some (.int k b))=some (.int k z):=BS h
theorem Q6 (t:TypeId) (c d:Bool) {k:IntKind} {a b z:Int} (h:k.wrap (a*b)=z):cE env .mul t c d (some (.int k a)) (some (.int k b))=some (.int k z):=KV h
theorem aK (t:TypeId) (o:Nat) (v:AV) {h:aw} {i:Nat} {cs:List AV} {e:TypeId} {ro:Bool} (hg:h.get i=some (.cells cs e ro)) (hv:gU env t cs o=some v):bE env h t (.ptr i o)=some v:=qa hg hv
theorem Ej {a:Nat} (h:a<9223372036854775808):IntKind.i64.wrap (a:Int)=(a:Int):=wrap_i64 (by omega) (by omega)
theorem fU (t:TypeId) (c d:Bool) (a b:Nat) (h:a+b<9223372036854775808):cE env .add t c d (some (.int .i64 (a:Int))) (some (.int .i64 (b:Int)))=some (.int .i64 ((a+b:Nat):Int)):=BR (by rw[show (a:Int)+b=((a+b:Nat):Int) by omega];exact Ej h)
theorem Gj (t:TypeId) (c d:Bool) (a b:Nat) (h:b≤a) (ha:a<9223372036854775808):cE env .sub t c d (some (.int .i64 (a:Int))) (some (.int .i64 (b:Int)))=some (.int .i64 ((a - b:Nat):Int)):=BS (by rw[show (a:Int) - b=((a - b:Nat):Int) by omega];exact Ej (by omega))
theorem pk_ (d:Nat) (c:Code) (ts:List AV) (h:aw) (ds:List pw) (rc:RC) (e:h_) (h':aw) {al:List mX} {ps:List Prop} (k:Pk al [] ps) (hr:run env (dh d) 300 c ⟨ts,h,ds,rc⟩ al []= .at e ⟨zQ (run env (dh d) 300 c ⟨ts,h,ds,rc⟩ al []),h',ds,rc⟩ [] ps):Ev env (dh d) c ⟨ts,h,ds,rc⟩ e ⟨zQ (run env (dh d) 300 c ⟨ts,h,ds,rc⟩ al []),h',ds,rc⟩:=Yu k hr
theorem pk (d:Nat) (c:Code) (ts:List AV) (h:aw) (e:h_) (h':aw) {al:List mX} {ps:List Prop} (k:Pk al [] ps) (hr:run env (dh d) 300 c ⟨ts,h,[],.no⟩ al []= .at e ⟨zQ (run env (dh d) 300 c ⟨ts,h,[],.no⟩ al []),h',[],.no⟩ [] ps):Ev env (dh d) c ⟨ts,h,[],.no⟩ e ⟨zQ (run env (dh d) 300 c ⟨ts,h,[],.no⟩ al []),h',[],.no⟩:=Yu k hr
theorem iX {h:aw} (y:Tidy h) (o:aR):∃h',h.new o=some h'∧Tidy h'∧h'.nx=h.nx+1∧h'.get h.nx=some o∧Has h h':=by
 obtain ⟨h',n⟩:=lQ (h:=h) o
 exact ⟨h',n,fT y n,lP n,jC n,tS y n⟩
theorem WN {h:aw} {t e:TypeId} {i o n:Nat} {cs N:List AV} {v:AV} (y:Tidy h) (gg:h.get i=some (.cells cs e false)) (hs:bZ env t=some n) (hv:v.cells.length=n) (hl:Nat.ble (o+n) cs.length=true) (hN:setFrom cs o v.cells=N) (hk:v.cells.all AV.scalar=true):∃h',eG env h t (.ptr i o) v=some h'∧Tidy h'∧h'.nx=h.nx∧h'.get i=some (.cells N e false)∧Kept i h h':=by
 obtain ⟨h',s⟩:=sB (E:=env) gg hs hv (Nat.le_of_ble_eq_true hl) hk
 exact ⟨h',s,qQ y s gg,sD s gg,by rw[←hN];exact tT y s gg,Kept.store y s gg⟩
theorem vq {h:aw} {t e:TypeId} {i n:Nat} {cs L:List AV} (y:Tidy h) (gg:h.get i=some (.cells cs e false)) (hs:bZ env t=some n) (hv:L.length=n) (hc:cs.length=n) (hk:L.all AV.scalar=true):∃h',eG env h t (.ptr i 0) (.agg L)=some h'∧Tidy h'∧h'.nx=h.nx∧h'.get i=some (.cells L e false)∧Kept i h h':=
 WN y gg hs hv (by rw[hc,Nat.zero_add,Nat.ble_eq];exact Nat.le_refl n) (by
  show setFrom cs 0 L=L
  apply List.ext_getElem?
  intro k
  rw[eC]
  split
  · rfl
  · rw[List.getElem?_eq_none (by omega),List.getElem?_eq_none (by omega)]) hk
structure Rk (f:List mX→List mX) (ps:List Prop):Prop where
 ok:lG ps
section
variable {f:List mX→List mX} {ps:List Prop}
theorem Rn (n:Nat) (k:Rk f ps):Rk (fun l=>f (cs n l)) ps:=⟨k.ok⟩
end
section
variable {f:List mX→List mX} {ps:List Prop}
theorem Rh {P:Prop} (h:P) (k:Rk f ps):Rk f (P::ps):=⟨⟨h,k.ok⟩⟩
end
theorem k! {p:Prop} (h:p:=by kernel_rfl):p:=h
theorem o! {p:Prop} (h:p:=by omega):p:=h
theorem nbf {b:Bool} (h:(!b)=false):b=true:=by cases b;cases h;rfl
theorem nbt {b:Bool} (h:(!b)=true):b=false:=by cases b;rfl;cases h
theorem d! {p:Prop} (h:p:=by first | assumption | exact agH (by assumption) | exact agI (by assumption) | exact nbf (by assumption) | exact nbt (by assumption) | exact dT (by omega) | exact dF (by omega) | exact nT (by omega) | exact nF (by omega)):p:=h
@[reducible] def _root_.Zi (x:Int):AV:= .int .i64 x
@[reducible] def _root_.Zn (n:Nat):AV:= .int .i64 (n:Int)
@[reducible] def _root_.Pt (b:Nat):AV:= .ptr b 0
theorem _root_.oV {c:Bool} (x y:Bool) (h:c=true):zL (some (.bool c)) (some (.bool x)) (some (.bool y))=some (.bool x):=R3 h
theorem _root_.pcf {c:Bool} (x y:Bool) (h:c=false):zL (some (.bool c)) (some (.bool x)) (some (.bool y))=some (.bool y):=a_ h
theorem _root_.ot {c:Bool} (x:Bool) (h:c=true):zL (some (.bool c)) (some (.bool x)) (some AV.undef)=some (.bool x):=R3 h
theorem _root_.uj {c:Bool} (x:Bool) (h:c=false):zL (some (.bool c)) (some AV.undef) (some (.bool x))=some (.bool x):=a_ h
section
variable {al:List mX} {p0 ps:List Prop}
theorem BC {u v:Bool} (h:u=v) (k:Pk al ((u=v)::p0) ps):Pk (.b v:: .c::al) p0 ps:=BB h (CC k)
theorem BV {u v:Bool} {l:Option AV} {x:AV} (h:u=v) (e:l=some x) (k:Pk al ((l=some x)::(u=v)::p0) ps):Pk (.b v:: .v x::al) p0 ps:=BB h (VV e k)
theorem BM {u v:Bool} {l:Option AV} {x:AV} (h:u=v) (e:l=some x) (k:Pk al ((l=some x)::(u=v)::p0) ps):Pk (.b v:: .m x::al) p0 ps:=BB h (MM e k)
end
theorem _root_.Go.Ab.Has.dr {h0 h h':aw} {b:Nat} (a:Has h0 h) (k:Kept b h h') (y:Tidy h0) (hb:h0.nx≤b):Has h0 h':=fun i x g=>by
 have:=y i x g
 exact k i x o! (a i x g)
class aA (α:Type) extends Inhabited α where
 c:α→List AV
 n:Nat
 e:TypeId
 len:∀x,(c x).length=n
 ok:aw→α→Prop
 mono:∀{h h':aw} {x:α},Has h h'→ok h x→ok h' x
 size:bZ env e=some n
 agg:eT env e=some true
 pos:0<n
@[reducible] def imax (x y:Int):Int:=if y>x then y else x
@[reducible] def rJ (x y:Int):Int:=if y<x then y else x
def _root_.List.g {α:Type} [Inhabited α] (l:List α) (i:Nat):α:=l.getD i default
structure aP {α:Type} [aA α] (h:aw) (v:AV) (l:List α):Prop where
 at_:lZ env h (aA.e α) (aA.n α) v l.length (l.flatMap aA.c)
 known:v= .aN∨v= .dQ∨∃p o m c b,v= .slice p o m c b∧(b=true→0<c)
 Gk:∀x∈l,aA.ok h x
theorem b7 {α β:Type} {size:Nat} {f:α→List β} (hf:∀x,(f x).length=size) (l:List α):(l.flatMap f).length=l.length*size:=by
 induction l with
 | nil=>simp
 | cons x l ih=>rw[List.flatMap_cons,List.length_append,ih,hf,List.length_cons,Nat.succ_mul];omega
section
variable {α:Type} [aA α] {h:aw} {v:AV} {l:List α}
theorem aP.has {h':aw} (x:aP h v l) (a:Has h h'):aP h' v l:=⟨x.at_.has a,x.known,fun y hy=>aA.mono a (x.Gk y hy)⟩
theorem j7 {i:Nat} (hi:i<l.length):l.g i∈l:=by
 rw[List.g,List.getD_eq_getElem?_getD,List.getElem?_eq_getElem hi];exact List.getElem_mem hi
theorem aP.ok (x:aP h v l) {i:Nat} (hi:i<l.length):aA.ok h (l.g i):=x.Gk _ (j7 hi)
theorem aP.small (x:aP h v l):l.length<2^60:=x.at_.small
theorem aP.len (x:aP h v l):dN (some (.slice (aA.e α))) (some v)=some (.int .i64 (l.length:Nat)):=x.at_.lens
theorem aP.scalar (x:aP h v l):AV.scalar v=true:=by
 rcases x.known with rfl | rfl | ⟨p,o,m,c,b,rfl,_⟩<;>rfl
theorem ie {β:Type} {size:Nat} {f:α→List β} (hf:∀x,(f x).length=size):∀(l:List α) (i j:Nat) (_:i<l.length),j<size→(l.flatMap f)[i*size+j]? =(f (l.g i))[j]?
 | [],i,j,hi,_=>by cases hi
 | x::l,0,j,_,hj=>by
   rw[List.flatMap_cons,Nat.zero_mul,Nat.zero_add,List.getElem?_append_left (by rw[hf];exact hj)];rfl
 | x::l,i+1,j,hi,hj=>by
   have e:(i+1)*size+j -(f x).length=i*size+j:=by rw[hf,Nat.succ_mul];omega
   rw[List.flatMap_cons,List.getElem?_append_right (by rw[hf,Nat.succ_mul];omega),e,ie hf l i j (by simpa using hi) hj];rfl
theorem aP.elem (x:aP h v l) {i:Nat} (hi:i<l.length):∃p q,dy env (some (.slice (aA.e α))) (some v) (some (.int .i64 ((i:Nat):Int)))=some (.ptr p q):=by
 rcases x.at_.block with h0 | ⟨p,o,m,c,b,C,f,ro,h1,_,h2,h3⟩
 · omega
 · subst h1
   have hm:m=l.length:=by
    have:=x.at_.lens
    rw[fR] at this
    simp only[Option.some.injEq,AV.int.injEq,true_and] at this
    omega
   exact ⟨p,o+i*aA.n α,cn x.at_.size o!⟩
theorem aP.block (x:aP h v l) {i p q:Nat} (hi:i<l.length) (hx:dy env (some (.slice (aA.e α))) (some v) (some (.int .i64 ((i:Nat):Int)))=some (.ptr p q)):
 ∃C f ro,h.get p=some (.cells C f ro)∧∀j,j<aA.n α→C[q+j]? =(aA.c (l.g i))[j]? :=by
 rcases x.at_.block with h0 | ⟨p',o,m,c,b,C,f,ro,h1,_,h2,h3⟩
 · omega
 · subst h1
   have hm:m=l.length:=by
    have:=x.at_.lens
    rw[fR] at this
    simp only[Option.some.injEq,AV.int.injEq,true_and] at this
    omega
   rw[cn x.at_.size o!] at hx
   simp only[Option.some.injEq,AV.ptr.injEq] at hx
   obtain ⟨rfl,rfl⟩:=hx
   refine ⟨C,f,ro,h2,fun j hj=>?_⟩
   have e:=ie aA.len l i j hi hj
   have j0:i*aA.n α+j<(l.flatMap aA.c).length:=by
    rw[b7 aA.len]
    calc i*aA.n α+j<i*aA.n α+aA.n α:=by omega
     _=(i+1)*aA.n α:=by rw[Nat.succ_mul]
     _≤l.length*aA.n α:=Nat.mul_le_mul_right _ hi
   rw[←e,Nat.add_assoc,h3 _ j0]
theorem aP.load (x:aP h v l) {i p q:Nat} (hi:i<l.length) (hx:dy env (some (.slice (aA.e α))) (some v) (some (.int .i64 ((i:Nat):Int)))=some (.ptr p q)):bE env h (aA.e α) (.ptr p q)=some (.agg (aA.c (l.g i))):=by
 obtain ⟨C,f,ro,h1,h2⟩:=x.block hi hx
 have hl:=aA.len (l.g i)
 have hn:q+aA.n α≤C.length:=by
  have h0:=aA.pos (α:=α)
  have:=h2 (aA.n α - 1) o!
  rw[List.getElem?_eq_getElem (by omega:aA.n α - 1<(aA.c (l.g i)).length)] at this
  have:=(List.getElem?_eq_some_iff.1 this).1
  omega
 simp only[bE,h1,gU,aA.agg,aA.size,hn,if_true]
 congr 2
 apply List.ext_getElem?
 intro j
 by_cases hj:j<aA.n α
 · rw[List.getElem?_take_of_lt hj,List.getElem?_drop,h2 j hj]
 · rw[List.getElem?_eq_none (by rw[List.length_take];omega),List.getElem?_eq_none o!]
theorem aP.part (x:aP h v l) {i p q j:Nat} {t:TypeId} {w:AV} (hi:i<l.length) (hx:dy env (some (.slice (aA.e α))) (some v) (some (.int .i64 ((i:Nat):Int)))=some (.ptr p q)) (ht:eT env t=some false) (hw:(aA.c (l.g i))[j]? =some w):bE env h t (.ptr p (q+j))=some w:=by
 obtain ⟨C,f,ro,h1,h2⟩:=x.block hi hx
 have hj:=(List.getElem?_eq_some_iff.1 hw).1
 rw[aA.len] at hj
 simp only[bE,h1,gU,ht]
 rw[h2 j hj,hw]
theorem aP.ado (x:aP h v l) {i p q j n:Nat} {t:TypeId} {ws:List AV} (hi:i<l.length) (hx:dy env (some (.slice (aA.e α))) (some v) (some (.int .i64 ((i:Nat):Int)))=some (.ptr p q)) (ht:eT env t=some true) (hs:bZ env t=some n) (hj:j+n≤aA.n α) (hw:((aA.c (l.g i)).drop j).take n=ws):bE env h t (.ptr p (q+j))=some (.agg ws):=by
 obtain ⟨C,f,ro,h1,h2⟩:=x.block hi hx
 have hl:=aA.len (l.g i)
 have hn:q+aA.n α≤C.length:=by
  have h0:=aA.pos (α:=α)
  have:=h2 (aA.n α - 1) o!
  rw[List.getElem?_eq_getElem (by omega:aA.n α - 1<(aA.c (l.g i)).length)] at this
  have:=(List.getElem?_eq_some_iff.1 this).1
  omega
 have hc:q+j+n≤C.length:=by omega
 simp only[bE,h1,gU,ht,hs,hc,if_true]
 rw[←hw]
 congr 2
 apply List.ext_getElem?
 intro k
 by_cases hk:k<n
 · rw[List.getElem?_take_of_lt hk,List.getElem?_take_of_lt hk,List.getElem?_drop,List.getElem?_drop,Nat.add_assoc,h2 (j+k) o!]
 · rw[List.getElem?_eq_none (by rw[List.length_take];omega),List.getElem?_eq_none (by rw[List.length_take];omega)]
theorem aP.nil {α:Type} [aA α] {h:aw}:aP h .aN ([]:List α):=⟨⟨aA.size,by simp,by show 0<2^60;decide,rfl,.inl rfl⟩,.inl rfl,fun x hx=>by cases hx⟩
theorem aP.pre (x:aP h v l) {t:TypeId} (ht:env.P.underlying t=some (.slice (aA.e α))) {i:Nat} (hi:i<l.length):∃r,dx env t v none (some (.int .i64 ((i:Nat):Int))) none=some r∧aP h r (l.take i):=by
 rcases x.at_.block with h0 | ⟨p,o,m,c,b,C,f,ro,h1,hc,h2,h3⟩
 · omega
 · subst h1
   have hm:m=l.length:=by
    have:=x.at_.lens
    rw[fR] at this
    simp only[Option.some.injEq,AV.int.injEq,true_and] at this
    omega
   subst hm
   have hb:b=true→0<c:=fun e=>by omega
   refine ⟨.slice p o i c b,?_,⟨⟨x.at_.size,b7 aA.len _,by have:=x.small;simp;omega,?_,.inr ⟨p,o,i,c,b,C,f,ro,rfl,by omega,h2,fun j hj=>?_⟩⟩,.inr (.inr ⟨_,_,_,_,_,rfl,hb⟩),fun y hy=>x.Gk y (List.mem_of_mem_take hy)⟩⟩
   · simp only[dx,ht,x.at_.size,hc,if_true,nH (len:=l.length) (cap:=c) none (some (.int .i64 ((i:Nat):Int))) (.inr ⟨rfl,rfl⟩) (.inl rfl) (Nat.zero_le i) o!]
     rw[if_neg o!]
     simp
   · rw[List.length_take,Nat.min_eq_left o!];exact fR _ _ _ _ _ _
   · rw[b7 aA.len,List.length_take,Nat.min_eq_left o!] at hj
     have j0:j<(l.flatMap aA.c).length:=by
      rw[b7 aA.len];exact Nat.lt_of_lt_of_le hj (Nat.mul_le_mul_right _ o!)
     rw[h3 j j0]
     have e:l=l.take i++l.drop i:=(List.take_append_drop i l).symm
     conv=>lhs;rw[e,List.flatMap_append]
     rw[List.getElem?_append_left]
     rw[b7 aA.len,List.length_take,Nat.min_eq_left o!];exact hj
def ba {ρ:Type} (call:bj) (b:Code) (s:St) (ex:h_) (hh:aw) (tn:(Nat→AV)→List AV) (tr:ρ→(Nat→AV)→List AV):Option ρ→Prop
 | none=>∃y hk,Ev env call (.loop b) s ex ⟨tn y,hk,[],.no⟩∧Grow hh hk
 | some r=>∃y hk,Ev env call (.loop b) s .ret ⟨tr r y,hk,[],.no⟩∧Grow hh hk
section
variable {ρ:Type} {call:bj} {b:Code} {s:St} {ex:h_} {hh hk:aw} {tn:(Nat→AV)→List AV} {tr:ρ→(Nat→AV)→List AV}
theorem ba.n {o:Option ρ} (e:o=none) (x:ba call b s ex hh tn tr o):∃y hk,Ev env call (.loop b) s ex ⟨tn y,hk,[],.no⟩∧Grow hh hk:=by subst e;exact x
theorem ba.r {o:Option ρ} {r:ρ} (e:o=some r) (x:ba call b s ex hh tn tr o):∃y hk,Ev env call (.loop b) s .ret ⟨tr r y,hk,[],.no⟩∧Grow hh hk:=by subst e;exact x
theorem ba.out {i:Nat} {L:List AV} {o:Option ρ} (e:o=none) (ev:Ev env call b s (.exit i) ⟨L,hk,[],.no⟩) (G:Grow hh hk) (hl:L=tn fun k=>L.getD k AV.undef):ba call b s (.exit i) hh tn tr o:=by
 subst e
 obtain ⟨y,q⟩:=BQ (Ev.out ev) hl
 exact ⟨y,hk,q,G⟩
theorem ba.ret {L:List AV} {o:Option ρ} (r:ρ) (e:o=some r) (ev:Ev env call b s .ret ⟨L,hk,[],.no⟩) (G:Grow hh hk) (hl:L=tr r fun k=>L.getD k AV.undef):ba call b s ex hh tn tr o:=by
 subst e
 obtain ⟨y,q⟩:=BQ (tmpl:=tr r) (Ev.ret ev) hl
 exact ⟨y,hk,q,G⟩
theorem ba.round {L:List AV} {o o':Option ρ} (e:o=o') (ev:Ev env call b s .normal ⟨L,hk,[],.no⟩) (G:Grow hh hk) (uE:(Nat→AV)→List AV) (hl:L=uE fun k=>L.getD k AV.undef) (ih:∀x,ba call b ⟨uE x,hk,[],.no⟩ ex hk tn tr o'):ba call b s ex hh tn tr o:=by
 subst e
 have q:=ih fun k=>L.getD k AV.undef
 rw[←hl] at q
 cases o with
 | none=>obtain ⟨y,h2,x,g⟩:=q;exact ⟨y,h2,Ev.loop ev x,G.trans g⟩
 | some r=>obtain ⟨y,h2,x,g⟩:=q;exact ⟨y,h2,Ev.loop ev x,G.trans g⟩
end
def kY {ρ:Type} (call:bj) (b:Code) (s:St) (ex:h_) (h hh:aw) (tn:(Nat→AV)→List AV) (tr:ρ→(Nat→AV)→List AV) (pb:Nat) (cl:ρ→aR):Option ρ→Prop
 | none=>∃y hk,Ev env call (.loop b) s ex ⟨tn y,hk,[],.no⟩∧Grow hh hk
 | some r=>∃y hk,Ev env call (.loop b) s .ret ⟨tr r y,hk,[],.no⟩∧Tidy hk∧Has h hk∧hh.nx≤hk.nx∧hk.get pb=some (cl r)
section
variable {ρ:Type} {call:bj} {b:Code} {s:St} {ex:h_} {h hh hk:aw} {tn:(Nat→AV)→List AV} {tr:ρ→(Nat→AV)→List AV} {pb:Nat} {cl:ρ→aR}
theorem kY.n {o:Option ρ} (e:o=none) (x:kY call b s ex h hh tn tr pb cl o):∃y hk,Ev env call (.loop b) s ex ⟨tn y,hk,[],.no⟩∧Grow hh hk:=by subst e;exact x
theorem kY.r {o:Option ρ} {r:ρ} (e:o=some r) (x:kY call b s ex h hh tn tr pb cl o):∃y hk,Ev env call (.loop b) s .ret ⟨tr r y,hk,[],.no⟩∧Tidy hk∧Has h hk∧hh.nx≤hk.nx∧hk.get pb=some (cl r):=by subst e;exact x
theorem kY.out {i:Nat} {L:List AV} {o:Option ρ} (e:o=none) (ev:Ev env call b s (.exit i) ⟨L,hk,[],.no⟩) (G:Grow hh hk) (hl:L=tn fun k=>L.getD k AV.undef):kY call b s (.exit i) h hh tn tr pb cl o:=by
 subst e
 obtain ⟨y,q⟩:=BQ (Ev.out ev) hl
 exact ⟨y,hk,q,G⟩
theorem kY.round {L:List AV} {o o':Option ρ} (e:o=o') (ev:Ev env call b s .normal ⟨L,hk,[],.no⟩) (G:Grow hh hk) (uE:(Nat→AV)→List AV) (hl:L=uE fun k=>L.getD k AV.undef) (ih:∀x,kY call b ⟨uE x,hk,[],.no⟩ ex h hk tn tr pb cl o'):kY call b s ex h hh tn tr pb cl o:=by
 subst e
 have q:=ih fun k=>L.getD k AV.undef
 rw[←hl] at q
 cases o with
 | none=>obtain ⟨y,h2,x,g⟩:=q;exact ⟨y,h2,Ev.loop ev x,G.trans g⟩
 | some r=>obtain ⟨y,h2,x,y1,a1,n1,g1⟩:=q;exact ⟨y,h2,Ev.loop ev x,y1,a1,Nat.le_trans G.n n1,g1⟩
end
def fZ {σ:Type} (call:bj) (b:Code) (s:St) (ex:h_) (hh:aw) (tn:σ→(Nat→AV)→List AV) (Q:σ→Prop) (r:σ):Prop:=∃y hk,Ev env call (.loop b) s ex ⟨tn r y,hk,[],.no⟩∧Grow hh hk∧Q r
section
variable {σ:Type} {call:bj} {b:Code} {s:St} {ex:h_} {hh hk:aw} {tn:σ→(Nat→AV)→List AV} {Q:σ→Prop}
theorem fZ.out {i:Nat} {L:List AV} {o:σ} (r:σ) (e:o=r) (ev:Ev env call b s (.exit i) ⟨L,hk,[],.no⟩) (G:Grow hh hk) (iq:Q r) (hl:L=tn r fun k=>L.getD k AV.undef):fZ call b s (.exit i) hh tn Q o:=by
 subst e
 obtain ⟨y,q⟩:=BQ (tmpl:=tn o) (Ev.out ev) hl
 exact ⟨y,hk,q,G,iq⟩
theorem fZ.round {L:List AV} {o o':σ} (e:o=o') (ev:Ev env call b s .normal ⟨L,hk,[],.no⟩) (G:Grow hh hk) (uE:(Nat→AV)→List AV) (hl:L=uE fun k=>L.getD k AV.undef) (ih:∀x,fZ call b ⟨uE x,hk,[],.no⟩ ex hk tn Q o'):fZ call b s ex hh tn Q o:=by
 subst e
 have q:=ih fun k=>L.getD k AV.undef
 rw[←hl] at q
 obtain ⟨y,h2,x,g,i⟩:=q;exact ⟨y,h2,Ev.loop ev x,G.trans g,i⟩
end
theorem aP.same {α:Type} [aA α] {h:aw} {v:AV} {l:List α} (x:aP h v l) (n:Nat):AV.same (n+1) v v=true:=by
 rcases x.known with rfl | rfl | ⟨p,o,m,c,b,rfl,_⟩
 · rfl
 · rfl
 · exact BJ n p o m c b
def WO (cs:List AV):Prop:=∀n,cM (AV.same (n+1)) cs cs=true
theorem OX:WO []:=fun _=>rfl
theorem pL {x:AV} {cs:List AV} (hx:∀n,AV.same (n+1) x x=true) (hc:WO cs):WO (x::cs):=fun n=>by
 show (AV.same (n+1) x x&&cM (AV.same (n+1)) cs cs)=true
 rw[hx,hc];rfl
theorem hI (n:Nat) {cs:List AV} (h:WO cs):AV.same (n+2) (.agg cs) (.agg cs)=true:=h n
theorem jD {s:List UInt8} {j:Nat} (hj:j<s.length):qO env (some .string) (some (.str s)) (some (.int .i64 ((j:Nat):Int)))=some (.int .u8 (((s.g j).toNat:Nat):Int)):=by
 refine R2 ?_
 rw[List.g,List.getD_eq_getElem?_getD,List.getElem?_eq_getElem hj];rfl
end
theorem sG {h:aw} {e s xt:TypeId} {xd:TypeDesc} {tys:Array TypeId} {bytes:Nat} {z x:AV} {M:List AV} (h0:tys[0]? =some s) (h1:tys[1]? =some xt) (hs:env.P.underlying s=some (.slice e)) (hx:env.P.underlying xt=some xd) (hi:ks xd=false) (JZ:bZ env e=some 1) (hb:fm env e=some bytes) (qR:ff env e=some z) (hz:z.cells.length=1) (h8:bytes≤63) (hlen:kM x=some M.length) (hf:eU h 1 M.length x=some M) (oU:M.all AV.scalar=true) (hm:M≠ []) (hl:M.length≤1073741824):
 ∃h',bR env h tys .aN x=some (.slice h.nx 0 M.length M.length true,h')∧h.new (.cells M e false)=some h':=by
 obtain ⟨h',n⟩:=lQ (h:=h) (.cells M e false)
 refine ⟨h',?_,n⟩
 have hn:¬M.length=0:=fun e=>hm (List.length_eq_zero_iff.1 e)
 have Fx:(4*M.length+4096)*(bytes+1)≤1099511627776:=Nat.le_trans (Nat.mul_le_mul (show 4*M.length+4096≤17179869184 by omega) (show bytes+1≤64 by omega)) (by decide)
 simp only[bR,h0,h1,hs,hx,hi,JZ,hb,hlen,hf,qR,hz,oU,Nat.mul_one,hn,Fx,n,if_true,if_false,and_self,Bool.false_eq_true]
theorem sH {h:aw} {e s xt:TypeId} {xd:TypeDesc} {tys:Array TypeId} {bytes p:Nat} {op:Bool} {z x:AV} {L M:List AV} (y:Tidy h) (h0:tys[0]? =some s) (h1:tys[1]? =some xt) (hs:env.P.underlying s=some (.slice e)) (hx:env.P.underlying xt=some xd) (hi:ks xd=false) (JZ:bZ env e=some 1) (hb:fm env e=some bytes) (qR:ff env e=some z) (hz:z.cells.length=1) (h8:bytes≤63) (hlen:kM x=some M.length) (hf:eU h 1 M.length x=some M) (oU:M.all AV.scalar=true) {n:Nat} (hn:L.length=n) (hm:M≠ []) (hl:n+M.length≤1073741824)
 (hg:h.get p=some (.cells L e false)):
 ∃h',bR env h tys (.slice p 0 n n op) x=some (.slice h.nx 0 (n+M.length) (n+M.length) true,h')∧Tidy h'∧h'.nx=h.nx+1∧Kept p h h'∧h'.get h.nx=some (.cells (L++M) e false):=by
 have hp:=y _ _ hg
 subst hn
 have ec:(L.drop 0).take (L.length*1)++M=L++M:=by
  rw[List.drop_zero,Nat.mul_one,List.take_of_length_le (Nat.le_refl _)]
 have y2:Tidy (if op then h.put p none else h):=by
  cases op with
  | false=>exact y
  | true=>
    intro i x g
    show i<h.nx
    by_cases hi:i=p
    · subst hi;exact hp
    · rw[if_pos rfl,aw.bx (Ne.symm hi)] at g;exact y i x g
 have n2:(if op then h.put p none else h).nx=h.nx:=by cases op<;>rfl
 obtain ⟨h',n⟩:=lQ (h:=if op then h.put p none else h) (.cells (L++M) e false)
 refine ⟨h',?_,fT y2 n,by rw[lP n,n2],fun i x hi g=>?_,by rw[←n2];exact jC n⟩
 · have hn:0<M.length:=List.length_pos_iff.2 hm
   have Fx:(4*(L.length+M.length)+4096)*(bytes+1)≤1099511627776:=Nat.le_trans (Nat.mul_le_mul (show 4*(L.length+M.length)+4096≤17179869184 by omega) (show bytes+1≤64 by omega)) (by decide)
   have hc:¬L.length+M.length≤L.length:=by omega
   simp only[bR,h0,h1,hs,hx,hi,JZ,hb,hlen,hf,qR,hz,oU,hg,hc,if_true,if_false,Bool.false_eq_true,Nat.mul_one]
   rw[if_pos ⟨trivial,trivial,trivial⟩,if_pos ⟨Fx,by omega,fun _=>⟨trivial,by omega,trivial⟩⟩]
   rw[show List.take L.length (List.drop 0 L)=L by rw[List.drop_zero,List.take_length],n]
 · refine fS y2 n ?_
   cases op with
   | false=>exact g
   | true=>rw[if_pos rfl,aw.bx (Ne.symm hi)];exact g
def eY (e:TypeId) (h0 h:aw) (z:AV) (L:List AV):Prop:=(z= .aN∧L=[])∨(L≠ []∧∃p op,z= .slice p 0 L.length L.length op∧h0.nx≤p∧h.get p=some (.cells L e false))
theorem eY.has {e:TypeId} {h0 h h':aw} {z:AV} {L:List AV} (o:eY e h0 h z L) (a:Has h h'):eY e h0 h' z L:=o.imp id fun ⟨hn,p,op,e,h1,g⟩=>⟨hn,p,op,e,h1,a _ _ g⟩
theorem eY.app {e s xt:TypeId} {xd:TypeDesc} {h0 h:aw} {tys:Array TypeId} {bytes:Nat} {z0 z x:AV} {L M:List AV} (y:Tidy h) (y0:Tidy h0) (a:Has h0 h) (hle:h0.nx≤h.nx) (o:eY e h0 h z L) (t0:tys[0]? =some s) (t1:tys[1]? =some xt) (hs:env.P.underlying s=some (.slice e)) (hx:env.P.underlying xt=some xd) (hi:ks xd=false) (JZ:bZ env e=some 1) (hb:fm env e=some bytes) (qR:ff env e=some z0) (hz:z0.cells.length=1) (h8:bytes≤63) (hlen:kM x=some M.length) (hf:eU h 1 M.length x=some M) (oU:M.all AV.scalar=true) (hm:M≠ []) (hl:L.length+M.length≤1073741824):
 ∃z' h',bR env h tys z x=some (z',h')∧Tidy h'∧h.nx≤h'.nx∧Has h0 h'∧eY e h0 h' z' (L++M):=by
 rcases o with ⟨rfl,rfl⟩ | ⟨hn,p,op,rfl,hp,hg⟩
 · obtain ⟨h',e1,n⟩:=sG (h:=h) t0 t1 hs hx hi JZ hb qR hz h8 hlen hf oU hm (by simpa using hl)
   have:=lP n
   exact ⟨_,h',e1,fT y n,by omega,a.trans (tS y n),.inr ⟨by simpa using hm,h.nx,true,by simp,hle,jC n⟩⟩
 · obtain ⟨h',e1,y1,z1,k1,g1⟩:=sH (op:=op) y t0 t1 hs hx hi JZ hb qR hz h8 hlen hf oU rfl hm hl hg
   exact ⟨_,h',e1,y1,by omega,Has.dr a k1 y0 hp,.inr ⟨by simp [hn],h.nx,true,by rw[List.length_append],hle,g1⟩⟩
theorem Ni {i:Nat} {b:Bool} {v:AV}:kM (.slice i 0 1 1 b)=some [v].length:=rfl
theorem Ek {h:aw} {i:Nat} {b:Bool} {v:AV} {e:TypeId} {ro:Bool} (hg:h.get i=some (.cells [v] e ro)):eU h 1 [v].length (.slice i 0 1 1 b)=some [v]:=by
 simp [eU,hg]
theorem eY.le {e:TypeId} {h0 h1 h:aw} {z:AV} {L:List AV} (o:eY e h1 h z L) (hn:h0.nx≤h1.nx):eY e h0 h z L:=o.imp id fun ⟨eu,p,op,e,h1,g⟩=>⟨eu,p,op,e,by omega,g⟩
def zs (k:IntKind) (l:List Int):List AV:=l.map (AV.int k)
theorem yQ (k:IntKind) (l:List Int):(zs k l).length=l.length:=by simp [zs]
theorem WQ (k:IntKind) (l:List Int) (x:Int):zs k (l++[x])=zs k l++[AV.int k x]:=by simp [zs]
theorem aav (k:IntKind) (l:List Int) {i:Nat} (hi:i<l.length):(zs k l)[i]? =some (.int k (l.g i)):=by
 rw[zs,List.getElem?_map,List.getElem?_eq_getElem hi,List.g,List.getD_eq_getElem?_getD,List.getElem?_eq_getElem hi];rfl
structure gW (h:aw) (k:IntKind) (e:TypeId) (v:AV) (l:List Int):Prop where
 at_:lZ env h e 1 v l.length (zs k l)
 agg:eT env e=some false
 known:v= .aN∨v= .dQ∨∃p o m c b,v= .slice p o m c b
theorem gW.has {k:IntKind} {h h':aw} {e:TypeId} {v:AV} {l:List Int} (x:gW h k e v l) (a:Has h h'):gW h' k e v l:=⟨x.at_.has a,x.agg,x.known⟩
theorem gW.scalar {k:IntKind} {h:aw} {e:TypeId} {v:AV} {l:List Int} (x:gW h k e v l):AV.scalar v=true:=by
 rcases x.known with rfl | rfl | ⟨p,o,m,c,b,rfl⟩<;>rfl
theorem gW.same {k:IntKind} {h:aw} {e:TypeId} {v:AV} {l:List Int} (x:gW h k e v l) (n:Nat):AV.same (n+1) v v=true:=by
 rcases x.known with rfl | rfl | ⟨p,o,m,c,b,rfl⟩
 · rfl
 · rfl
 · exact BJ n p o m c b
theorem gW.small {k:IntKind} {h:aw} {e:TypeId} {v:AV} {l:List Int} (x:gW h k e v l):l.length<2^60:=x.at_.small
theorem gW.len {k:IntKind} {h:aw} {e:TypeId} {v:AV} {l:List Int} (x:gW h k e v l):dN (some (.slice e)) (some v)=some (.int .i64 (l.length:Nat)):=x.at_.lens
theorem gW.elem {k:IntKind} {h:aw} {e:TypeId} {v:AV} {l:List Int} (x:gW h k e v l) {i:Nat} (hi:i<l.length):∃p q,dy env (some (.slice e)) (some v) (some (.int .i64 ((i:Nat):Int)))=some (.ptr p q)∧bE env h e (.ptr p q)=some (.int k (l.g i)):=x.at_.elem x.agg (aav k l hi)
theorem gW.load {k:IntKind} {h:aw} {e:TypeId} {v:AV} {l:List Int} (x:gW h k e v l) {i p q:Nat} (hi:i<l.length) (hx:dy env (some (.slice e)) (some v) (some (.int .i64 ((i:Nat):Int)))=some (.ptr p q)):bE env h e (.ptr p q)=some (.int k (l.g i)):=by
 obtain ⟨p',q',h1,h2⟩:=x.elem hi
 rw[hx] at h1
 simp only[Option.some.injEq,AV.ptr.injEq] at h1
 obtain ⟨rfl,rfl⟩:=h1
 exact h2
theorem gW.nil {k:IntKind} {h:aw} {e:TypeId} (hs:bZ env e=some 1) (ha:eT env e=some false):gW h k e .aN []:=⟨⟨hs,rfl,by decide,rfl,.inl rfl⟩,ha,.inl rfl⟩
theorem eY.zs {k:IntKind} {e:TypeId} {h0 h:aw} {z:AV} {l:List Int} (o:eY e h0 h z (aG.zs k l)) (hl:l.length<2^60) (hs:bZ env e=some 1) (ha:eT env e=some false):gW h k e z l:=by
 rcases o with ⟨rfl,e0⟩ | ⟨hn,p,op,rfl,_,hg⟩
 · have:l=[]:=List.length_eq_zero_iff.1 (by have:=congrArg List.length e0;rwa [yQ] at this)
   subst this
   exact gW.nil hs ha
 · rw[yQ]
   exact ⟨⟨hs,by rw[yQ];omega,hl,rfl,.inr ⟨p,0,_,_,op,_,_,_,rfl,Nat.le_refl _,hg,fun j _=>by rw[Nat.zero_add]⟩⟩,ha,.inr (.inr ⟨_,_,_,_,_,rfl⟩)⟩
theorem eY.adp {k:IntKind} {e:TypeId} {h0 h:aw} {z:AV} {l:List Int} {n:Nat} (o:eY e h0 h z (aG.zs k l)) (v:AV.within h0.nx (n+1) z=true) (hs:bZ env e=some 1) (ha:eT env e=some false):gW h0 k e z l:=by
 rcases o with ⟨rfl,e0⟩ | ⟨hn,p,op,rfl,hp,hg⟩
 · have:l=[]:=List.length_eq_zero_iff.1 (by have:=congrArg List.length e0;rwa [yQ] at this)
   subst this
   exact gW.nil hs ha
 · have:=of_decide_eq_true (show decide (p<h0.nx)=true from v)
   omega
def wX {σ:Type} (call:bj) (b:Code) (s:St) (ex:h_) (h:aw) (e:TypeId) (tn:σ→AV→(Nat→AV)→List AV) (own:σ→List AV) (N:Nat) (r:σ):Prop:=∃z y hk,Ev env call (.loop b) s ex ⟨tn r z y,hk,[],.no⟩∧Grow h hk∧eY e h hk z (own r)∧(own r).length≤N
section
variable {σ:Type} {call:bj} {b:Code} {s:St} {ex:h_} {h hk:aw} {e:TypeId} {tn:σ→AV→(Nat→AV)→List AV} {own:σ→List AV} {N:Nat}
theorem wX.out {i:Nat} {L:List AV} {o:σ} (r:σ) (z:AV) (e1:o=r) (ev:Ev env call b s (.exit i) ⟨L,hk,[],.no⟩) (G:Grow h hk) (oz:eY e h hk z (own r)) (ln:(own r).length≤N) (hl:L=tn r z fun k=>L.getD k AV.undef):wX call b s (.exit i) h e tn own N o:=by
 subst e1
 obtain ⟨y,q⟩:=BQ (tmpl:=tn o z) (Ev.out ev) hl
 exact ⟨z,y,hk,q,G,oz,ln⟩
theorem wX.round {L:List AV} {o o':σ} (e1:o=o') (ev:Ev env call b s .normal ⟨L,hk,[],.no⟩) (uE:(Nat→AV)→List AV) (hl:L=uE fun k=>L.getD k AV.undef) (ih:∀x,wX call b ⟨uE x,hk,[],.no⟩ ex h e tn own N o'):wX call b s ex h e tn own N o:=by
 subst e1
 have q:=ih fun k=>L.getD k AV.undef
 rw[←hl] at q
 obtain ⟨z,y,h2,x,g,oz,ln⟩:=q;exact ⟨z,y,h2,Ev.loop ev x,g,oz,ln⟩
end
def bk {α:Type} [aA α] (h0 h:aw) (z:AV) (l:List α):Prop:=
 ((z= .aN∨∃p,z= .slice p 0 0 0 false∧h0.nx≤p∧h.get p=some (.cells [] (aA.e α) false))∧l=[])∨
 (l≠ []∧∃p op,z= .slice p 0 l.length l.length op∧h0.nx≤p∧h.get p=some (.cells (l.flatMap aA.c) (aA.e α) false))
def bD (z:AV) (i:Nat):Prop:=∀o n c b,z≠ .slice i o n c b
section
variable {α:Type} [aA α] {h0 h h':aw} {z:AV} {l m:List α}
theorem bk.has (o:bk h0 h z l) (a:Has h h'):bk h0 h' z l:=by
 rcases o with ⟨rfl | ⟨p,rfl,h1,h2⟩,rfl⟩ | ⟨hn,p,op,e,h1,g⟩
 · exact .inl ⟨.inl rfl,rfl⟩
 · exact .inl ⟨.inr ⟨p,rfl,h1,a _ _ h2⟩,rfl⟩
 · exact .inr ⟨hn,p,op,e,h1,a _ _ g⟩
theorem bk.agK {s xt:TypeId} {tys:Array TypeId} {bytes N:Nat} {z0 x:AV} (y:Tidy h) (y0:Tidy h0) (a:Has h0 h) (hle:h0.nx≤h.nx) (o:bk h0 h z l) (hlen:kM x=some m.length) (hf:eU h (aA.n α) m.length x=some (m.flatMap aA.c)) (oU:(m.flatMap aA.c).all AV.scalar=true) (hl:l.length+m.length≤N)
 (t0:tys[0]? =some s) (t1:tys[1]? =some xt) (hs:env.P.underlying s=some (.slice (aA.e α))) (hx:env.P.underlying xt=some (.slice (aA.e α))) (hb:fm env (aA.e α)=some bytes) (qR:ff env (aA.e α)=some z0) (hz:z0.cells.length=aA.n α) (WR:∀k,k≤N→(4*k+4096)*(bytes+1)≤1099511627776):
 ∃z' h',bR env h tys z x=some (z',h')∧Tidy h'∧h.nx≤h'.nx∧Has h0 h'∧bk h0 h' z' (l++m)∧∀i w,bD z i→h.get i=some w→h'.get i=some w:=by
 have wY:=b7 aA.len m
 have hi:ks (.slice (aA.e α))=false:=rfl
 have wZ:∀{p:Nat} {ob:aR},h.get p=some ob→Tidy (h.put p (some ob))∧Has h0 (h.put p (some ob))∧(∀i w,h.get i=some w→(h.put p (some ob)).get i=some w):=fun {p ob} g=>by
  have hg:∀i,(h.put p (some ob)).get i=h.get i:=fun i=>by
   by_cases e:i=p
   · subst e;rw[aw.bS,g]
   · rw[aw.bx (Ne.symm e)]
  exact ⟨fun i w q=>y i w (by rw[←hg];exact q),fun i w q=>by rw[hg];exact a i w q,fun i w q=>by rw[hg];exact q⟩
 have Se:m≠ []→∃h',h.new (.cells (m.flatMap aA.c) (aA.e α) false)=some h'∧Tidy h'∧h.nx≤h'.nx∧Has h0 h'∧bk h0 h' (.slice h.nx 0 m.length m.length true) m∧∀i w,h.get i=some w→h'.get i=some w:=fun hm=>by
  obtain ⟨h',n⟩:=lQ (h:=h) (.cells (m.flatMap aA.c) (aA.e α) false)
  have:=lP n
  exact ⟨h',n,fT y n,by omega,a.trans (tS y n),.inr ⟨hm,h.nx,true,rfl,hle,jC n⟩,fun i w g=>fS y n g⟩
 rcases o with ⟨rfl | ⟨p,rfl,hp,hg⟩,rfl⟩ | ⟨hn,p,op,rfl,hp,hg⟩
 · rw[List.nil_append]
   by_cases hm:m=[]
   · subst hm
     simp only[List.length_nil,List.flatMap_nil,Nat.zero_mul] at hlen hf oU wY
     refine ⟨.aN,h,?_,y,Nat.le_refl _,a,.inl ⟨.inl rfl,rfl⟩,fun _ _ _ g=>g⟩
     simp only[bR,t0,t1,hs,hx,hi,aA.size,hb,hlen,hf,qR,hz,oU,wY,if_true,if_false,and_self,List.length_nil,Bool.false_eq_true,Nat.zero_mul]
   · obtain ⟨h',n,q1,q2,q3,q4,q5⟩:=Se hm
     have Mz:¬m.length=0:=fun e=>hm (List.length_eq_zero_iff.1 e)
     refine ⟨_,h',?_,q1,q2,q3,q4,fun i w _ g=>q5 i w g⟩
     simp only[bR,t0,t1,hs,hx,hi,aA.size,hb,hlen,hf,qR,hz,oU,wY,Mz,WR m.length o!,n,if_true,if_false,and_self,Bool.false_eq_true]
 · rw[List.nil_append]
   by_cases hm:m=[]
   · subst hm
     simp only[List.length_nil,List.flatMap_nil,Nat.zero_mul] at hlen hf oU wY
     obtain ⟨q1,q2,q3⟩:=wZ hg
     refine ⟨_,_,?_,q1,Nat.le_refl _,q2,.inl ⟨.inr ⟨p,rfl,hp,q3 _ _ hg⟩,rfl⟩,fun i w _ g=>q3 i w g⟩
     simp only[bR,t0,t1,hs,hx,hi,aA.size,hb,hlen,hf,qR,hz,oU,wY,hg,if_true,if_false,and_self,List.length_nil,Bool.false_eq_true,Nat.zero_mul,Nat.add_zero,Nat.le_refl,List.flatMap_nil,setFrom]
   · obtain ⟨h',n,q1,q2,q3,q4,q5⟩:=Se hm
     have Mz:¬m.length≤0:=fun e=>hm (List.length_eq_zero_iff.1 o!)
     refine ⟨_,h',?_,q1,q2,q3,q4,fun i w _ g=>q5 i w g⟩
     simp only[bR,t0,t1,hs,hx,hi,aA.size,hb,hlen,hf,qR,hz,oU,wY,hg,Mz,if_true,if_false,and_self,Bool.false_eq_true,Nat.zero_mul,Nat.add_zero,Nat.zero_add,List.length_nil,Nat.le_refl]
     rw[if_pos ⟨WR m.length o!,trivial,fun e=>e.elim⟩]
     simp only[List.drop_nil,List.take_nil,List.nil_append,n]
 · have hlp:0<l.length:=List.length_pos_iff.2 hn
   have hpx:=y _ _ hg
   have P4:=b7 aA.len l
   by_cases hm:m=[]
   · subst hm
     simp only[List.length_nil,List.flatMap_nil,Nat.zero_mul] at hlen hf oU wY
     obtain ⟨q1,q2,q3⟩:=wZ hg
     rw[List.append_nil]
     refine ⟨_,_,?_,q1,Nat.le_refl _,q2,.inr ⟨hn,p,op,rfl,hp,q3 _ _ hg⟩,fun i w _ g=>q3 i w g⟩
     simp only[bR,t0,t1,hs,hx,hi,aA.size,hb,hlen,hf,qR,hz,oU,wY,hg,P4,if_true,if_false,and_self,List.length_nil,Bool.false_eq_true,Nat.zero_mul,Nat.add_zero,Nat.zero_add,Nat.le_refl,List.flatMap_nil,setFrom]
   · have hm0:0<m.length:=List.length_pos_iff.2 hm
     have y2:Tidy (if op then h.put p none else h):=by
      cases op with
      | false=>exact y
      | true=>
        intro i x g
        show i<h.nx
        by_cases hi:i=p
        · subst hi;exact hpx
        · rw[if_pos rfl,aw.bx (Ne.symm hi)] at g;exact y i x g
     have n2:(if op then h.put p none else h).nx=h.nx:=by cases op<;>rfl
     have k2:∀i w,i≠p→h.get i=some w→(if op then h.put p none else h).get i=some w:=fun i w hi g=>by
      cases op with
      | false=>exact g
      | true=>rw[if_pos rfl,aw.bx (Ne.symm hi)];exact g
     obtain ⟨h',n⟩:=lQ (h:=if op then h.put p none else h) (.cells (l.flatMap aA.c++m.flatMap aA.c) (aA.e α) false)
     have hk:∀i w,i≠p→h.get i=some w→h'.get i=some w:=fun i w hi g=>fS y2 n (k2 i w hi g)
     have hc:¬l.length+m.length≤l.length:=by omega
     refine ⟨.slice h.nx 0 (l.length+m.length) (l.length+m.length) true,h',?_,fT y2 n,by rw[lP n,n2];omega,fun i w g=>?_,.inr ⟨by simp [hn],h.nx,true,by rw[List.length_append],hle,by rw[List.flatMap_append,←n2];exact jC n⟩,fun i w q g=>hk i w (fun e=>q 0 l.length l.length op (by subst e;rfl)) g⟩
     · simp only[bR,t0,t1,hs,hx,hi,aA.size,hb,hlen,hf,qR,hz,oU,wY,hg,hc,if_true,if_false,and_self,Bool.false_eq_true]
       rw[if_pos ⟨WR _ hl,by rw[P4];omega,fun _=>⟨trivial,by rw[P4];omega,trivial⟩⟩]
       rw[List.drop_zero,List.take_of_length_le (by rw[P4];exact Nat.le_refl _),n]
     · have:=y0 _ _ g
       exact hk i w o! (a i w g)
theorem bk.app {s xt:TypeId} {tys:Array TypeId} {bytes:Nat} {z0 x:AV} (y:Tidy h) (y0:Tidy h0) (a:Has h0 h) (hle:h0.nx≤h.nx) (o:bk h0 h z l) (hlen:kM x=some m.length) (hf:eU h (aA.n α) m.length x=some (m.flatMap aA.c)) (oU:(m.flatMap aA.c).all AV.scalar=true) (hl:l.length+m.length≤1000000000)
 (t0:tys[0]? =some s) (t1:tys[1]? =some xt) (hs:env.P.underlying s=some (.slice (aA.e α))) (hx:env.P.underlying xt=some (.slice (aA.e α))) (hb:fm env (aA.e α)=some bytes) (qR:ff env (aA.e α)=some z0) (hz:z0.cells.length=aA.n α) (h8:bytes≤255):
 ∃z' h',bR env h tys z x=some (z',h')∧Tidy h'∧h.nx≤h'.nx∧Has h0 h'∧bk h0 h' z' (l++m)∧∀i w,bD z i→h.get i=some w→h'.get i=some w:=
 bk.agK y y0 a hle o hlen hf oU hl t0 t1 hs hx hb qR hz fun k hk=>Nat.le_trans (Nat.mul_le_mul (show 4*k+4096≤4294967296 by omega) (show bytes+1≤256 by omega)) (by decide)
theorem bk.adq {s xt:TypeId} {tys:Array TypeId} {bytes:Nat} {z0 x:AV} (y:Tidy h) (y0:Tidy h0) (a:Has h0 h) (hle:h0.nx≤h.nx) (o:bk h0 h z l) (hlen:kM x=some m.length) (hf:eU h (aA.n α) m.length x=some (m.flatMap aA.c)) (oU:(m.flatMap aA.c).all AV.scalar=true) (hl:l.length+m.length≤1000000000)
 (t0:tys[0]? =some s) (t1:tys[1]? =some xt) (hs:env.P.underlying s=some (.slice (aA.e α))) (hx:env.P.underlying xt=some (.slice (aA.e α))) (hb:fm env (aA.e α)=some bytes) (qR:ff env (aA.e α)=some z0) (hz:z0.cells.length=aA.n α) (h8:bytes≤255) (he:l=[]:=by rfl):
 ∃z' h',bR env h tys z x=some (z',h')∧Tidy h'∧h.nx≤h'.nx∧Has h0 h'∧bk h0 h' z' (l++m)∧Has h h':=by
 subst he
 by_cases hm:m=[]
 · subst hm
   obtain ⟨z',h',e1,e2,e3,e4,e5,e6⟩:=bk.app y y0 a hle o hlen hf oU hl t0 t1 hs hx hb qR hz h8
   refine ⟨z',h',e1,e2,e3,e4,e5,fun i w g=>?_⟩
   rcases o with ⟨rfl | ⟨p,rfl,hp,hg⟩,_⟩ | ⟨hn,_⟩
   · exact e6 i w (fun o n c b q=>by cases q) g
   · by_cases hi:i=p
     · subst hi
       have hi2:ks (.slice (aA.e α))=false:=rfl
       simp only[List.length_nil,List.flatMap_nil] at hlen hf oU
       simp only[bR,t0,t1,hs,hx,hi2,aA.size,hb,hlen,hf,qR,hz,oU,hg,if_true,if_false,and_self,List.length_nil,Bool.false_eq_true,Nat.zero_mul,Nat.add_zero,Nat.le_refl,List.flatMap_nil,setFrom,Option.some.injEq,Prod.mk.injEq] at e1
       rw[←e1.2,aw.bS,←hg,g]
     · exact e6 i w (fun o n c b q=>hi (AV.slice.inj q).1.symm) g
   · exact absurd rfl hn
 · obtain ⟨z',h',e1,e2,e3,e4,e5,e6⟩:=bk.app y y0 a hle o hlen hf oU hl t0 t1 hs hx hb qR hz h8
   refine ⟨z',h',e1,e2,e3,e4,e5,fun i w g=>?_⟩
   rcases o with ⟨rfl | ⟨p,rfl,hp,hg⟩,_⟩ | ⟨hn,_⟩
   · exact e6 i w (fun o n c b q=>by cases q) g
   · by_cases hi:i=p
     · subst hi
       have hi2:ks (.slice (aA.e α))=false:=rfl
       have wY:=b7 aA.len m
       have Mz:¬m.length≤0:=fun e=>hm (List.length_eq_zero_iff.1 o!)
       have WR:(4*m.length+4096)*(bytes+1)≤1099511627776:=Nat.le_trans (Nat.mul_le_mul (show 4*m.length+4096≤4294967296 by simp at hl;omega) (show bytes+1≤256 by omega)) (by decide)
       simp only[bR,t0,t1,hs,hx,hi2,aA.size,hb,hlen,hf,qR,hz,oU,wY,hg,Mz,if_true,if_false,and_self,Bool.false_eq_true,Nat.zero_mul,Nat.add_zero,Nat.zero_add,List.length_nil,Nat.le_refl] at e1
       rw[if_pos ⟨WR,trivial,fun e=>e.elim⟩] at e1
       obtain ⟨h2,n⟩:=lQ (h:=h) (.cells (List.take 0 (List.drop 0 [])++m.flatMap aA.c) (aA.e α) false)
       rw[n] at e1
       simp only[Option.some.injEq,Prod.mk.injEq] at e1
       rw[←e1.2];exact fS y n g
     · exact e6 i w (fun o n c b q=>hi (AV.slice.inj q).1.symm) g
   · exact absurd rfl hn
theorem ok_one {x:α} (o:aA.ok h x):∀y∈ [x],aA.ok h y:=fun y hy=>by
 rw[List.mem_singleton] at hy;subst hy;exact o
theorem kZ (a:∀y∈l,aA.ok h y) (b:∀y∈m,aA.ok h y):∀y∈l++m,aA.ok h y:=fun y hy=>(List.mem_append.1 hy).elim (a y) (b y)
theorem Nj (g:Has h h') (a:∀y∈l,aA.ok h y):∀y∈l,aA.ok h' y:=fun y hy=>aA.mono g (a y hy)
class Flat (α:Type) [aA α]:Prop where
 free:∀{h h':aw} {x:α},aA.ok h x→aA.ok h' x
theorem dE {D:Type} [aA D] [Flat D] {h h':aw} {l:List D} (a:∀y∈l,aA.ok h y):∀y∈l,aA.ok h' y:=fun y hy=>Flat.free (a y hy)
theorem kF {v:AV} (x:aP h v l) (sc:∀y∈l,(aA.c y).all AV.scalar=true):(l.flatMap aA.c).all AV.scalar=true:=by
 rw[List.all_eq_true]
 intro z hz
 obtain ⟨y,hy,hzy⟩:=List.mem_flatMap.1 hz
 exact List.all_eq_true.1 (sc y hy) z hzy
theorem aP.kM {v:AV} (x:aP h v l):kM v=some l.length:=by
 have hl:=x.at_.lens
 rcases x.known with rfl | rfl | ⟨p,o,m,c,b,rfl,_⟩
 · rw[wN] at hl
   simp only[Option.some.injEq,AV.int.injEq,true_and] at hl
   rw[show l.length=0 by omega];rfl
 · rw[aao] at hl
   simp only[Option.some.injEq,AV.int.injEq,true_and] at hl
   rw[show l.length=0 by omega];rfl
 · rw[fR] at hl
   simp only[Option.some.injEq,AV.int.injEq,true_and] at hl
   rw[show l.length=m by omega];rfl
theorem aP.first {v:AV} (x:aP h v l):eU h (aA.n α) l.length v=some (l.flatMap aA.c):=by
 by_cases hl:l=[]
 · subst hl
   rcases x.known with rfl | rfl | ⟨p,o,m,c,b,rfl,_⟩<;>simp [eU]
 · have hlp:0<l.length:=List.length_pos_iff.2 hl
   have P4:=b7 aA.len l
   rcases x.at_.block with h0 | ⟨p,o,m,c,b,C,f,ro,h1,_,h2,h3⟩
   · omega
   · subst h1
     have hm:m=l.length:=by
      have:=x.at_.lens
      rw[fR] at this
      simp only[Option.some.injEq,AV.int.injEq,true_and] at this
      omega
     subst hm
     have hC:o+l.length*aA.n α≤C.length:=by
      rcases Nat.eq_zero_or_pos (l.length*aA.n α) with h0 | h0
      · have:=Nat.mul_pos hlp (aA.pos (α:=α));omega
      · have:=h3 (l.length*aA.n α - 1) o!
        rw[List.getElem?_eq_getElem (by omega:l.length*aA.n α - 1<(l.flatMap aA.c).length)] at this
        have:=(List.getElem?_eq_some_iff.1 this).1
        omega
     simp only[eU,Nat.le_refl,if_true,if_false,show ¬l.length=0 by omega,h2,hC]
     congr 1
     apply List.ext_getElem?
     intro j
     by_cases hj:j<l.length*aA.n α
     · rw[List.getElem?_take_of_lt hj,List.getElem?_drop,h3 j o!]
     · rw[List.getElem?_eq_none (by rw[List.length_take];omega),List.getElem?_eq_none o!]
theorem jh {i:Nat} {b:Bool} {x:α} {e:TypeId} {ro:Bool} (hg:h.get i=some (.cells (aA.c x) e ro)):eU h (aA.n α) [x].length (.slice i 0 1 1 b)=some ([x].flatMap aA.c):=by
 have:=aA.len x
 simp only[eU,List.length_singleton,Nat.le_refl,if_true,hg,Nat.one_ne_zero,if_false,Nat.one_mul,Nat.zero_add,this,List.drop_zero,List.flatMap_cons,List.flatMap_nil,List.append_nil]
 rw[List.take_of_length_le o!]
theorem bk.rows (o:bk h0 h z l) (hl:l.length<2^60) (hk:∀x∈l,aA.ok h x):aP h z l:=by
 rcases o with ⟨rfl | ⟨p,rfl,h1,h2⟩,rfl⟩ | ⟨hn,p,op,rfl,h1,g⟩
 · exact ⟨⟨aA.size,(Nat.zero_mul _).symm,hl,rfl,.inl rfl⟩,.inl rfl,hk⟩
 · exact ⟨⟨aA.size,(Nat.zero_mul _).symm,hl,rfl,.inl rfl⟩,.inr (.inr ⟨_,_,_,_,_,rfl,fun e=>by cases e⟩),hk⟩
 · have:=List.length_pos_iff.2 hn
   exact ⟨⟨aA.size,b7 aA.len l,hl,rfl,.inr ⟨p,0,_,_,op,_,_,_,rfl,Nat.le_refl _,g,fun j _=>by rw[Nat.zero_add]⟩⟩,.inr (.inr ⟨_,_,_,_,_,rfl,fun _=>this⟩),hk⟩
end
structure Span where
 aU:Int
 aF:Int
@[reducible] def Span.c (x:Span):List AV:=[.int .i64 x.aU,.int .i64 x.aF]
def Span.ok (h:aw) (x:Span):Prop:=True
def Span.eq (x y:Span):Bool:=(x.aU==y.aU)&&(x.aF==y.aF)
theorem Span.deep (x y:Span):ik env 16 23 (.agg (Span.c x)) (.agg (Span.c y))=some (Span.eq x y):=by
 have e:ik env 16 23 (.agg (Span.c x)) (.agg (Span.c y))=(match some (x.aU==y.aU) with | some true=>(match some (x.aF==y.aF) with | some true=>some true | some false=>some false | none=>none) | some false=>some false | none=>none):=by kernel_rfl
 rw[e,Span.eq]
 cases (x.aU==y.aU)<;>try rfl
 cases (x.aF==y.aF)<;>try rfl
theorem Span.eql (x y:Span) {a b:Bool}:cE env .eql 23 a b (some (.agg (Span.c x))) (some (.agg (Span.c y)))=some (.bool (Span.eq x y)):=by
 show (if env.P.eqGuardType env.P.depth 23 then none else (match ik env 16 23 (.agg (Span.c x)) (.agg (Span.c y)) with | some r=>some (AV.bool (r)) | none=>none))=_
 rw[show env.P.eqGuardType env.P.depth 23=false by kernel_rfl,Span.deep];rfl
theorem Span.neq (x y:Span) {a b:Bool}:cE env .neq 23 a b (some (.agg (Span.c x))) (some (.agg (Span.c y)))=some (.bool (!Span.eq x y)):=by
 show (if env.P.eqGuardType env.P.depth 23 then none else (match ik env 16 23 (.agg (Span.c x)) (.agg (Span.c y)) with | some r=>some (AV.bool (!r)) | none=>none))=_
 rw[show env.P.eqGuardType env.P.depth 23=false by kernel_rfl,Span.deep];rfl
instance:aA Span where
 default:=⟨0,0⟩
 c:=Span.c
 n:=2
 e:=23
 len _:=rfl
 ok:=Span.ok
 mono a o:=o
 size:=by kernel_rfl
 agg:=by kernel_rfl
 pos:=by decide
theorem Span.sc {h:aw} {x:Span} (o:Span.ok h x):(Span.c x).all AV.scalar=true:=by
 rfl
instance:Flat Span where
 free o:=o
structure bT where
 name:List UInt8
 acc:Int
 bH:Int
 since:Int
@[reducible] def bT.c (x:bT):List AV:=[.str x.name,.int .i64 x.acc,.int .i64 x.bH,.int .i64 x.since]
def bT.ok (h:aw) (x:bT):Prop:=x.name.length<2^60
def bT.eq (x y:bT):Bool:=(x.name==y.name)&&(x.acc==y.acc)&&(x.bH==y.bH)&&(x.since==y.since)
theorem bT.deep (x y:bT):ik env 16 45 (.agg (bT.c x)) (.agg (bT.c y))=some (bT.eq x y):=by
 have e:ik env 16 45 (.agg (bT.c x)) (.agg (bT.c y))=(match some (x.name==y.name) with | some true=>(match some (x.acc==y.acc) with | some true=>(match some (x.bH==y.bH) with | some true=>(match some (x.since==y.since) with | some true=>some true | some false=>some false | none=>none) | some false=>some false | none=>none) | some false=>some false | none=>none) | some false=>some false | none=>none):=by kernel_rfl
 rw[e,bT.eq]
 cases (x.name==y.name)<;>try rfl
 cases (x.acc==y.acc)<;>try rfl
 cases (x.bH==y.bH)<;>try rfl
 cases (x.since==y.since)<;>try rfl
theorem bT.eql (x y:bT) {a b:Bool}:cE env .eql 45 a b (some (.agg (bT.c x))) (some (.agg (bT.c y)))=some (.bool (bT.eq x y)):=by
 show (if env.P.eqGuardType env.P.depth 45 then none else (match ik env 16 45 (.agg (bT.c x)) (.agg (bT.c y)) with | some r=>some (AV.bool (r)) | none=>none))=_
 rw[show env.P.eqGuardType env.P.depth 45=false by kernel_rfl,bT.deep];rfl
theorem bT.neq (x y:bT) {a b:Bool}:cE env .neq 45 a b (some (.agg (bT.c x))) (some (.agg (bT.c y)))=some (.bool (!bT.eq x y)):=by
 show (if env.P.eqGuardType env.P.depth 45 then none else (match ik env 16 45 (.agg (bT.c x)) (.agg (bT.c y)) with | some r=>some (AV.bool (!r)) | none=>none))=_
 rw[show env.P.eqGuardType env.P.depth 45=false by kernel_rfl,bT.deep];rfl
instance:aA bT where
 default:=⟨[],0,0,0⟩
 c:=bT.c
 n:=4
 e:=45
 len _:=rfl
 ok:=bT.ok
 mono a o:=o
 size:=by kernel_rfl
 agg:=by kernel_rfl
 pos:=by decide
theorem bT.sc {h:aw} {x:bT} (o:bT.ok h x):(bT.c x).all AV.scalar=true:=by
 rfl
instance:Flat bT where
 free o:=o
structure ay where
 name:List UInt8
 ao:Int
 ai:Int
 aI:Int
 aJ:Int
 bad:Int
 aB:AV
 ae:List bT
@[reducible] def ay.c (x:ay):List AV:=[.str x.name,.int .i64 x.ao,.int .i64 x.ai,.int .i64 x.aI,.int .i64 x.aJ,.int .i64 x.bad,x.aB]
def ay.ok (h:aw) (x:ay):Prop:=x.name.length<2^60∧aP h x.aB x.ae
instance:aA ay where
 default:=⟨[],0,0,0,0,0,.aN,[]⟩
 c:=ay.c
 n:=7
 e:=26
 len _:=rfl
 ok:=ay.ok
 mono a o:=⟨o.1,(o.2).has a⟩
 size:=by kernel_rfl
 agg:=by kernel_rfl
 pos:=by decide
theorem ay.sc {h:aw} {x:ay} (o:ay.ok h x):(ay.c x).all AV.scalar=true:=by
 simp only[ay.c,List.all_cons,List.all_nil,(show AV.scalar x.aB=true from (o.2).scalar),Bool.true_and]<;>rfl
structure az where
 aD:Int
 time:Int
 value:Int
@[reducible] def az.c (x:az):List AV:=[.int .i64 x.aD,.int .i64 x.time,.int .i64 x.value]
def az.ok (h:aw) (x:az):Prop:=True
def az.eq (x y:az):Bool:=(x.aD==y.aD)&&(x.time==y.time)&&(x.value==y.value)
theorem az.deep (x y:az):ik env 16 43 (.agg (az.c x)) (.agg (az.c y))=some (az.eq x y):=by
 have e:ik env 16 43 (.agg (az.c x)) (.agg (az.c y))=(match some (x.aD==y.aD) with | some true=>(match some (x.time==y.time) with | some true=>(match some (x.value==y.value) with | some true=>some true | some false=>some false | none=>none) | some false=>some false | none=>none) | some false=>some false | none=>none):=by kernel_rfl
 rw[e,az.eq]
 cases (x.aD==y.aD)<;>try rfl
 cases (x.time==y.time)<;>try rfl
 cases (x.value==y.value)<;>try rfl
theorem az.eql (x y:az) {a b:Bool}:cE env .eql 43 a b (some (.agg (az.c x))) (some (.agg (az.c y)))=some (.bool (az.eq x y)):=by
 show (if env.P.eqGuardType env.P.depth 43 then none else (match ik env 16 43 (.agg (az.c x)) (.agg (az.c y)) with | some r=>some (AV.bool (r)) | none=>none))=_
 rw[show env.P.eqGuardType env.P.depth 43=false by kernel_rfl,az.deep];rfl
theorem az.neq (x y:az) {a b:Bool}:cE env .neq 43 a b (some (.agg (az.c x))) (some (.agg (az.c y)))=some (.bool (!az.eq x y)):=by
 show (if env.P.eqGuardType env.P.depth 43 then none else (match ik env 16 43 (.agg (az.c x)) (.agg (az.c y)) with | some r=>some (AV.bool (!r)) | none=>none))=_
 rw[show env.P.eqGuardType env.P.depth 43=false by kernel_rfl,az.deep];rfl
instance:aA az where
 default:=⟨0,0,0⟩
 c:=az.c
 n:=3
 e:=43
 len _:=rfl
 ok:=az.ok
 mono a o:=o
 size:=by kernel_rfl
 agg:=by kernel_rfl
 pos:=by decide
theorem az.sc {h:aw} {x:az} (o:az.ok h x):(az.c x).all AV.scalar=true:=by
 rfl
instance:Flat az where
 free o:=o
structure Gate where
 time:Int
 ax:Int
 ar:Int
@[reducible] def Gate.c (x:Gate):List AV:=[.int .i64 x.time,.int .i64 x.ax,.int .i64 x.ar]
def Gate.ok (h:aw) (x:Gate):Prop:=True
instance:aA Gate where
 default:=⟨0,0,0⟩
 c:=Gate.c
 n:=3
 e:=66
 len _:=rfl
 ok:=Gate.ok
 mono a o:=o
 size:=by kernel_rfl
 agg:=by kernel_rfl
 pos:=by decide
theorem Gate.sc {h:aw} {x:Gate} (o:Gate.ok h x):(Gate.c x).all AV.scalar=true:=by
 rfl
instance:Flat Gate where
 free o:=o
structure dq where
 time:Int
 ax:Int
 ar:Int
@[reducible] def dq.c (x:dq):List AV:=[.int .i64 x.time,.int .i64 x.ax,.int .i64 x.ar]
def dq.ok (h:aw) (x:dq):Prop:=True
instance:aA dq where
 default:=⟨0,0,0⟩
 c:=dq.c
 n:=3
 e:=77
 len _:=rfl
 ok:=dq.ok
 mono a o:=o
 size:=by kernel_rfl
 agg:=by kernel_rfl
 pos:=by decide
theorem dq.sc {h:aw} {x:dq} (o:dq.ok h x):(dq.c x).all AV.scalar=true:=by
 rfl
instance:Flat dq where
 free o:=o
theorem Dp {p:Prop} [Decidable p] (h:(!decide p)=true):¬p:=by intro q;rw[decide_eq_true q] at h;cases h
theorem Dq {p:Prop} [Decidable p] (h:(!decide p)=false):p:=by by_cases q:p;exact q;rw[decide_eq_false q] at h;cases h
def bs (l:List Bool):List AV:=l.map AV.bool
theorem Sf (l:List Bool):(bs l).length=l.length:=by simp [bs]
theorem Sg (l:List Bool) {i:Nat} (hi:i<l.length):(bs l)[i]? =some (.bool (l.g i)):=by
 rw[bs,List.getElem?_map,List.getElem?_eq_getElem hi,List.g,List.getD_eq_getElem?_getD,List.getElem?_eq_getElem hi];rfl
theorem aaw (l:List Bool) (i:Nat) (v:Bool):(bs l).set i (.bool v)=bs (l.set i v):=by simp [bs,List.map_set]
theorem Sh:∀n,eB [AV.bool false] n=bs (List.replicate n false)
 | 0=>rfl
 | n+1=>by rw[eB,Sh n];rfl
section
variable {h:aw} {t e:TypeId} {p i n:Nat}
theorem Nl {l:List Bool} {ro:Bool} (ht:eT env t=some false) (hg:h.get p=some (.cells (bs l) e ro)) (hi:i<l.length):bE env h t (.ptr p i)=some (.bool (l.g i)):=by
 simp only[bE,hg,gU,ht];exact Sg l hi
theorem OY {cs:List AV} {v:AV} (hs:bZ env t=some 1) (hg:h.get p=some (.cells cs e false)) (hi:i<cs.length) (hv:v.cells=[v]) (hk:AV.scalar v=true):eG env h t (.ptr p i) v=some (h.put p (some (.cells (cs.set i v) e false))):=by
 obtain ⟨h',s⟩:=sB (E:=env) (t:=t) (o:=i) (n:=1) (v:=v) hg hs (by rw[hv];rfl) o! (by rw[hv];simp [hk])
 rw[s,sC s hg,hv];rfl
theorem Si {l:List Bool} {v:Bool} (hs:bZ env t=some 1) (hg:h.get p=some (.cells (bs l) e false)) (hi:i<l.length):eG env h t (.ptr p i) (.bool v)=some (h.put p (some (.cells (bs (l.set i v)) e false))):=by
 rw[OY hs hg (by rw[Sf];exact hi) rfl rfl,aaw]
end
structure Dr (h:aw) (e:TypeId) (v:AV) (l:List Bool):Prop where
 at_:lZ env h e 1 v l.length (bs l)
 agg:eT env e=some false
section
variable {h h':aw} {e:TypeId} {v:AV} {l:List Bool}
theorem Dr.scalar (x:Dr h e v l):AV.scalar v=true:=by
 have q:=x.at_.lens
 cases v<;>first | rfl | (exfalso;revert q;simp [dN])
theorem w7 {v:AV} (x:AV.scalar v=true):AV.cells v=[v]:=by
 cases v<;>first | rfl | cases x
theorem Dr.small (x:Dr h e v l):l.length<2^60:=x.at_.small
theorem Dr.elem (x:Dr h e v l) {i:Nat} (hi:i<l.length):∃p q,dy env (some (.slice e)) (some v) (some (.int .i64 ((i:Nat):Int)))=some (.ptr p q)∧bE env h e (.ptr p q)=some (.bool (l.g i)):=x.at_.elem x.agg (Sg l hi)
theorem Dr.load (x:Dr h e v l) {i p q:Nat} (hi:i<l.length) (hx:dy env (some (.slice e)) (some v) (some (.int .i64 ((i:Nat):Int)))=some (.ptr p q)):bE env h e (.ptr p q)=some (.bool (l.g i)):=by
 obtain ⟨p',q',h1,h2⟩:=x.elem hi
 rw[hx] at h1
 simp only[Option.some.injEq,AV.ptr.injEq] at h1
 obtain ⟨rfl,rfl⟩:=h1
 exact h2
theorem Dr.own {p n:Nat} {op ro:Bool} {f:TypeId} (hs:bZ env e=some 1) (ha:eT env e=some false) (hg:h.get p=some (.cells (bs l) f ro)) (hn:l.length=n) (h60:n<2^60):Dr h e (.slice p 0 n n op) l:=by
 subst hn
 exact ⟨⟨hs,by rw[Sf];omega,h60,rfl,.inr ⟨p,0,_,_,op,_,_,_,rfl,Nat.le_refl _,hg,fun j _=>by rw[Nat.zero_add]⟩⟩,ha⟩
theorem gW.own {k:IntKind} {p n:Nat} {op ro:Bool} {f:TypeId} {l:List Int} (hs:bZ env e=some 1) (ha:eT env e=some false) (hg:h.get p=some (.cells (zs k l) f ro)) (hn:l.length=n) (h60:n<2^60):gW h k e (.slice p 0 n n op) l:=by
 subst hn
 exact ⟨⟨hs,by rw[yQ];omega,h60,rfl,.inr ⟨p,0,_,_,op,_,_,_,rfl,Nat.le_refl _,hg,fun j _=>by rw[Nat.zero_add]⟩⟩,ha,.inr (.inr ⟨_,_,_,_,_,rfl⟩)⟩
end
def lg {σ ρ:Type} (call:bj) (b:Code) (s:St) (ex:h_) (hh:aw) (tn:σ→AV→(Nat→AV)→List AV) (tr:ρ→AV→(Nat→AV)→List AV) (Qn:σ→AV→aw→Prop) (Qr:ρ→AV→aw→Prop):σ ⊕ ρ→Prop
 | .inl v=>∃z y hk,Ev env call (.loop b) s ex ⟨tn v z y,hk,[],.no⟩∧Tidy hk∧hh.nx≤hk.nx∧Qn v z hk
 | .inr r=>∃z y hk,Ev env call (.loop b) s .ret ⟨tr r z y,hk,[],.no⟩∧Tidy hk∧hh.nx≤hk.nx∧Qr r z hk
section
variable {σ ρ:Type} {call:bj} {b:Code} {s:St} {ex:h_} {hh hk:aw} {tn:σ→AV→(Nat→AV)→List AV} {tr:ρ→AV→(Nat→AV)→List AV} {Qn:σ→AV→aw→Prop} {Qr:ρ→AV→aw→Prop}
theorem lg.n {o:σ ⊕ ρ} {v:σ} (e:o= .inl v) (x:lg call b s ex hh tn tr Qn Qr o):∃z y hk,Ev env call (.loop b) s ex ⟨tn v z y,hk,[],.no⟩∧Tidy hk∧hh.nx≤hk.nx∧Qn v z hk:=by subst e;exact x
theorem lg.r {o:σ ⊕ ρ} {r:ρ} (e:o= .inr r) (x:lg call b s ex hh tn tr Qn Qr o):∃z y hk,Ev env call (.loop b) s .ret ⟨tr r z y,hk,[],.no⟩∧Tidy hk∧hh.nx≤hk.nx∧Qr r z hk:=by subst e;exact x
theorem lg.out {i:Nat} {L:List AV} {o:σ ⊕ ρ} (v:σ) (z:AV) (e:o= .inl v) (ev:Ev env call b s (.exit i) ⟨L,hk,[],.no⟩) (y1:Tidy hk) (n1:hh.nx≤hk.nx) (q:Qn v z hk) (hl:L=tn v z fun k=>L.getD k AV.undef):lg call b s (.exit i) hh tn tr Qn Qr o:=by
 subst e
 obtain ⟨y,x⟩:=BQ (tmpl:=tn v z) (Ev.out ev) hl
 exact ⟨z,y,hk,x,y1,n1,q⟩
theorem lg.round {L:List AV} {o o':σ ⊕ ρ} (e:o=o') (ev:Ev env call b s .normal ⟨L,hk,[],.no⟩) (n1:hh.nx≤hk.nx) (uE:(Nat→AV)→List AV) (hl:L=uE fun k=>L.getD k AV.undef) (ih:∀x,lg call b ⟨uE x,hk,[],.no⟩ ex hk tn tr Qn Qr o'):lg call b s ex hh tn tr Qn Qr o:=by
 subst e
 have q:=ih fun k=>L.getD k AV.undef
 rw[←hl] at q
 cases o with
 | inl v=>obtain ⟨z,y,h2,x,y1,n2,g⟩:=q;exact ⟨z,y,h2,Ev.loop ev x,y1,Nat.le_trans n1 n2,g⟩
 | inr r=>obtain ⟨z,y,h2,x,y1,n2,g⟩:=q;exact ⟨z,y,h2,Ev.loop ev x,y1,Nat.le_trans n1 n2,g⟩
end
theorem eY.Ds {k:IntKind} {e s xt:TypeId} {g h:aw} {tys:Array TypeId} {bytes b:Nat} {z0 z:AV} {L:List Int} {v:Int} {f:TypeId} {ro op:Bool} (y:Tidy h) (hle:g.nx≤h.nx) (o:eY e g h z (aG.zs k L)) (hg:h.get b=some (.cells [.int k v] f ro)) (hl:L.length≤1000000000) (t0:tys[0]? =some s) (t1:tys[1]? =some xt) (hs:env.P.underlying s=some (.slice e)) (hx:env.P.underlying xt=some (.slice e)) (JZ:bZ env e=some 1) (hb:fm env e=some bytes) (qR:ff env e=some z0) (hz:z0.cells.length=1) (h8:bytes≤63):
 ∃z' h',bR env h tys z (.slice b 0 1 1 op)=some (z',h')∧Tidy h'∧h.nx≤h'.nx∧(∀i w,i<g.nx→h.get i=some w→h'.get i=some w)∧eY e g h' z' (aG.zs k (L++[v])):=by
 rw[WQ]
 have ME:(aG.zs k L).length≤1000000000:=by rw[yQ];exact hl
 rcases o with ⟨rfl,e0⟩ | ⟨hn,p,op',rfl,hp,hgp⟩
 · rw[e0]
   obtain ⟨h',e1,n⟩:=sG (h:=h) (M:=[.int k v]) t0 t1 hs hx rfl JZ hb qR hz h8 Ni (Ek hg) rfl (by simp) (by simp)
   have:=lP n
   exact ⟨_,h',e1,fT y n,by omega,fun i w _ q=>fS y n q,.inr ⟨by simp,h.nx,true,by simp,hle,jC n⟩⟩
 · obtain ⟨h',e1,y1,z1,k1,g1⟩:=sH (op:=op') (M:=[.int k v]) y t0 t1 hs hx rfl JZ hb qR hz h8 Ni (Ek hg) rfl rfl (by simp) (by simp;omega) hgp
   exact ⟨_,h',e1,y1,by omega,fun i w hi q=>k1 i w o! q,.inr ⟨by simp,h.nx,true,by rw[List.length_append],hle,g1⟩⟩
theorem Has.aax {h hh h' g:aw} (a:Has h hh) (y:Tidy h) (n:h.nx≤g.nx) (A:∀i w,i<g.nx→hh.get i=some w→h'.get i=some w):Has h h':=fun i w q=>A i w (Nat.lt_of_lt_of_le (y i w q) n) (a i w q)
theorem eY.adr {e:TypeId} {h0 h:aw} {z:AV} {L:List AV} {n:Nat} (o:eY e h0 h z L) (v:AV.within h0.nx (n+1) z=true):eY e h0 h0 z L:=by
 rcases o with ⟨rfl,e0⟩ | ⟨hn,p,op,rfl,hp,hg⟩
 · exact .inl ⟨rfl,e0⟩
 · have:=of_decide_eq_true (show decide (p<h0.nx)=true from v)
   omega
theorem OZ {nx k b n m c:Nat} {op:Bool} (v:AV.within nx (k+1) (.slice b n m c op)=true) (hb:nx≤b):False:=by
 have:=of_decide_eq_true (show decide (b<nx)=true from v)
 omega
theorem Ev.to {call:bj} {b:Code} {s:St} {e:h_} {L L':List AV} {hk:aw} (ev:Ev env call b s e ⟨L,hk,[],.no⟩) (hl:L=L'):Ev env call b s e ⟨L',hk,[],.no⟩:=hl▸ev
theorem Sj {v:AV} (h:AV.scalar v=true):v.cells=[v]:=by cases v<;>first | rfl | cases h
theorem agL {h:aw} {t e:TypeId} {i o:Nat} {cs N:List AV} {v:AV} (y:Tidy h) (gg:h.get i=some (.cells cs e false)) (hs:bZ env t=some 1) (hk:AV.scalar v=true) (hl:Nat.ble (o+1) cs.length=true) (hN:setFrom cs o [v]=N):∃h',eG env h t (.ptr i o) v=some h'∧Tidy h'∧h'.nx=h.nx∧h'.get i=some (.cells N e false)∧Kept i h h':=by
 have c:=Sj hk
 exact WN y gg hs (by rw[c];rfl) hl (by rw[c];exact hN) (by rw[c];simp [hk])
theorem mF {f:FuncId} {fn:Func} {c:Code} {args Ys ts:List AV} {h h':aw} {call:bj} {x:h_} {v:AV} {a:Tmp} {t:TypeId} {i:Nat} (hf:env.P.funcs[f]? =some fn) (hb:fn.body=some c) (ht:args++List.replicate (fn.ntmps - args.length) AV.undef=Ys) (hx:x= .normal∨x= .ret)
 (e:Ev env call c ⟨Ys,h,[],.no⟩ x ⟨ts,h',[],.no⟩) (hrs:(fn.results.toList,ts.getD a AV.undef)=([.cell a t],AV.ptr i 0)) (hl:bE env h' t (.ptr i 0)=some v):ug env call f args h v h':=by
 refine bh hf hb ht hx e ?_
 rw[show fn.results.toList=[.cell a t] from congrArg Prod.fst hrs]
 simp only[jw,show ts.getD a AV.undef= .ptr i 0 from congrArg (fun q=>q.2) hrs,hl,Option.map_some]
 rfl
section
variable {α:Type} [aA α]
theorem bk.Sk {h0 h:aw} {z:AV} {l:List α} {n:Nat} (o:bk h0 h z l) (v:AV.within h0.nx (n+1) z=true):aP h0 z l:=by
 have nl:∀z,(z= .aN∨∃p,z=AV.slice p 0 0 0 false∧h0.nx≤p)→AV.within h0.nx (n+1) z=true→aP h0 z ([]:List α):=fun z hz v=>by
  rcases hz with rfl | ⟨p,rfl,hp⟩
  · exact ⟨⟨aA.size,(Nat.zero_mul _).symm,(show (0:Nat)<2^60 by decide),rfl,.inl rfl⟩,.inl rfl,fun _ hx=>by cases hx⟩
  · have:=of_decide_eq_true (show decide (p<h0.nx)=true from v)
    omega
 rcases o with ⟨rfl | ⟨p,rfl,h1,h2⟩,rfl⟩ | ⟨hn,p,op,rfl,hp,hg⟩
 · exact nl _ (.inl rfl) v
 · exact nl _ (.inr ⟨p,rfl,h1⟩) v
 · have:=of_decide_eq_true (show decide (p<h0.nx)=true from v)
   omega
theorem bk.le {h0 h1 h:aw} {z:AV} {l:List α} (o:bk h1 h z l) (hn:h0.nx≤h1.nx):bk h0 h z l:=by
 rcases o with ⟨rfl | ⟨p,rfl,h1,h2⟩,rfl⟩ | ⟨eu,p,op,e,h1,g⟩
 · exact .inl ⟨.inl rfl,rfl⟩
 · exact .inl ⟨.inr ⟨p,rfl,by omega,h2⟩,rfl⟩
 · exact .inr ⟨eu,p,op,e,by omega,g⟩
def sI {σ:Type} (call:bj) (b:Code) (s:St) (ex:h_) (h:aw) (tn:σ→AV→(Nat→AV)→List AV) (own:σ→List α) (N:Nat) (r:σ):Prop:=∃z y hk,Ev env call (.loop b) s ex ⟨tn r z y,hk,[],.no⟩∧Grow h hk∧bk h hk z (own r)∧(∀y∈own r,aA.ok hk y)∧(own r).length≤N
variable {σ:Type} {call:bj} {b:Code} {s:St} {ex:h_} {h hk:aw} {tn:σ→AV→(Nat→AV)→List AV} {own:σ→List α} {N:Nat}
theorem sI.out {i:Nat} {L:List AV} {o:σ} (r:σ) (z:AV) (e1:o=r) (ev:Ev env call b s (.exit i) ⟨L,hk,[],.no⟩) (G:Grow h hk) (oz:bk h hk z (own r)) (ok:∀y∈own r,aA.ok hk y) (ln:(own r).length≤N) (hl:L=tn r z fun k=>L.getD k AV.undef):sI call b s (.exit i) h tn own N o:=by
 subst e1
 obtain ⟨y,q⟩:=BQ (tmpl:=tn o z) (Ev.out ev) hl
 exact ⟨z,y,hk,q,G,oz,ok,ln⟩
theorem sI.round {L:List AV} {o o':σ} (e1:o=o') (ev:Ev env call b s .normal ⟨L,hk,[],.no⟩) (uE:(Nat→AV)→List AV) (hl:L=uE fun k=>L.getD k AV.undef) (ih:∀x,sI call b ⟨uE x,hk,[],.no⟩ ex h tn own N o'):sI call b s ex h tn own N o:=by
 subst e1
 have q:=ih fun k=>L.getD k AV.undef
 rw[←hl] at q
 obtain ⟨z,y,h2,x,g,oz,ok,ln⟩:=q;exact ⟨z,y,h2,Ev.loop ev x,g,oz,ok,ln⟩
end
section
variable {α:Type} [aA α]
theorem Sm {l:List α} {i:Nat} (h:i<l.length) (x:α):(l.set i x).g i=x:=by
 rw[List.g,List.getD_eq_getElem?_getD,List.getElem?_set_self h];rfl
theorem Sn {l:List α} {i j:Nat} (h:i≠j) (x:α):(l.set i x).g j=l.g j:=by
 rw[List.g,List.g,List.getD_eq_getElem?_getD,List.getD_eq_getElem?_getD,List.getElem?_set_ne h]
theorem qU {l:List α} {i:Nat} (h:i<l.length) (x:α):setFrom (l.flatMap aA.c) (i*aA.n α) (aA.c x)=(l.set i x).flatMap aA.c:=by
 have hn:0<aA.n α:=aA.pos
 have hl:=b7 aA.len l
 have ME:=b7 aA.len (l.set i x)
 rw[List.length_set] at ME
 have hx:=aA.len x
 apply List.ext_getElem?
 intro k
 rw[eC,hx,hl]
 have hk:k=k/aA.n α*aA.n α+k%aA.n α:=by rw[Nat.mul_comm];exact (Nat.div_add_mod k _).symm
 have hr:=Nat.mod_lt k hn
 generalize k/aA.n α=q at hk
 generalize k%aA.n α=r at hk hr
 by_cases hq:q<l.length
 · have h1:=ie aA.len l q r hq hr
   have h2:=ie aA.len (l.set i x) q r (by rw[List.length_set];exact hq) hr
   subst hk
   by_cases e:q=i
   · subst e
     have:q*aA.n α+aA.n α≤l.length*aA.n α:=by rw[←Nat.succ_mul];exact Nat.mul_le_mul_right _ hq
     rw[if_pos ⟨by omega,by omega,by omega⟩,h2,Sm hq,Nat.add_sub_cancel_left]
   · rw[if_neg,h1,h2,Sn (Ne.symm e)]
     intro ⟨a,b,c⟩
     rcases Nat.lt_or_gt_of_ne e with e | e
     · have:q*aA.n α+aA.n α≤i*aA.n α:=by rw[←Nat.succ_mul];exact Nat.mul_le_mul_right _ e
       omega
     · have:i*aA.n α+aA.n α≤q*aA.n α:=by rw[←Nat.succ_mul];exact Nat.mul_le_mul_right _ e
       omega
 · have:l.length*aA.n α≤q*aA.n α:=Nat.mul_le_mul_right _ o!
   rw[if_neg o!,List.getElem?_eq_none o!,List.getElem?_eq_none o!]
theorem bk.at {h0 h:aw} {z:AV} {l:List α} (y:Tidy h) (y0:Tidy h0) (a:Has h0 h) (o:bk h0 h z l) {i:Nat} (hi:i<l.length):
 ∃p,dy env (some (.slice (aA.e α))) (some z) (some (.int .i64 ((i:Nat):Int)))=some (.ptr p (i*aA.n α))∧
  ∀x:α,(aA.c x).all AV.scalar=true→∃h',eG env h (aA.e α) (.ptr p (i*aA.n α)) (.agg (aA.c x))=some h'∧Tidy h'∧h'.nx=h.nx∧bk h0 h' z (l.set i x)∧Has h0 h':=by
 rcases o with ⟨_,rfl⟩ | ⟨hn,p,op,rfl,hp,hg⟩
 · simp at hi
 · have ix:=cn (E:=env) (i:=p) (o:=0) (c:=l.length) (b:=op) (aA.size (α:=α)) hi
   rw[Nat.zero_add] at ix
   refine ⟨p,ix,fun x hx=>?_⟩
   have hl:=b7 aA.len l
   have hb:i*aA.n α+aA.n α≤l.length*aA.n α:=by rw[←Nat.succ_mul];exact Nat.mul_le_mul_right _ hi
   obtain ⟨h',s⟩:=sB (E:=env) (t:=aA.e α) (o:=i*aA.n α) (n:=aA.n α) (v:= .agg (aA.c x)) hg aA.size (aA.len x) o! hx
   have g':=tT y s hg
   refine ⟨h',s,qQ y s hg,sD s hg,.inr ⟨by intro e;rw[←List.length_eq_zero_iff,List.length_set] at e;omega,p,op,by rw[List.length_set],hp,?_⟩,fun j w gw=>?_⟩
   · rw[g']
     show some (aR.cells (setFrom (l.flatMap aA.c) (i*aA.n α) (aA.c x)) _ _)=_
     rw[qU hi]
   · have:=y0 _ _ gw
     exact oo y s hg o! (a _ _ gw)
theorem aay {h:aw} {l:List α} {i:Nat} {x:α} (a:∀y∈l,aA.ok h y) (b:aA.ok h x):∀y∈l.set i x,aA.ok h y:=fun y hy=>(List.mem_or_eq_of_mem_set hy).elim (a y) fun e=>e▸b
end

section
variable {h:aw} {b:Nat} {pre post:List AV} {L:List Int} {e:TypeId} {ro:Bool} {o t j x:Nat}
def Yw (L:List Int) (d s n:Nat):List Int:=if d+n≤L.length∧s+n≤L.length then L.take d++(L.drop s).take n++L.drop (d+n) else L
theorem O0 (L:List Int) (d s n:Nat):(Yw L d s n).length=L.length:=by
 unfold Yw
 split
 · simp only[List.length_append,List.length_take,List.length_drop];omega
 · rfl
theorem afR {h:aw} {b:Nat} {o:aR} (y:Tidy h) (g:h.get b=some o):∃hw,Tidy hw∧hw.nx=h.nx∧hw.get b=none∧Has hw h∧∀i,i≠b→hw.get i=h.get i:=
 ⟨h.put b none,fun i x q=>by
  by_cases e:i=b
  · subst e;rw[aw.bS] at q;cases q
  · rw[aw.bx (Ne.symm e)] at q;exact y i x q,rfl,aw.bS _,fun i x q=>by
  by_cases e:i=b
  · subst e;rw[aw.bS] at q;cases q
  · rw[aw.bx (Ne.symm e)] at q;exact q,fun i e=>aw.bx (Ne.symm e) _⟩
end
theorem l! {p:Prop} (h:p:=by first | omega | (simp only[List.length_set,List.length_replicate,O0]<;>omega)):p:=h
end
end Go.Proofs.aG
