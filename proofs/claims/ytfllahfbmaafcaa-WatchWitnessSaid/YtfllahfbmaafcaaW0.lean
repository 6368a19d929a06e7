import Derived.Test.YtfllahfbmaafcaaA7
import Derived.Test.YtfllahfbmaafcaaEnv
set_option linter.unusedVariables false
set_option linter.unusedSimpArgs false
namespace Go.Proofs.aG
open Go.Proofs Ab
noncomputable section
set_option maxRecDepth 100000
set_option maxHeartbeats 4000000
theorem afA {b:Bool} (h:b=true):(!b)=false:=by rw[h];rfl
theorem afB {b:Bool} (h:b=false):(!b)=true:=by rw[h];rfl
theorem lV (t:TypeId) (c d:Bool) (k:IntKind) (a b:Int):cy env .eql t c d (some (.int k a)) (some (.int k b))=some (.bool (decide (a=b))):=Ww t c d k a b
theorem kF (t:TypeId) (c d:Bool) (k:IntKind) (a b:Int):cy env .neq t c d (some (.int k a)) (some (.int k b))=some (.bool (!decide (a=b))):=Wx t c d k a b
theorem bK (t:TypeId) (c d:Bool) (k:IntKind) (a b:Int):cy env .lss t c d (some (.int k a)) (some (.int k b))=some (.bool (decide (a<b))):=Wy t c d k a b
theorem sf (t:TypeId) (c d:Bool) (k:IntKind) (a b:Int):cy env .leq t c d (some (.int k a)) (some (.int k b))=some (.bool (decide (a≤b))):=Wz t c d k a b
theorem cI (t:TypeId) (c d:Bool) (k:IntKind) (a b:Int):cy env .gtr t c d (some (.int k a)) (some (.int k b))=some (.bool (decide (b<a))):=WA t c d k a b
theorem oe (t:TypeId) (c d:Bool) (k:IntKind) (a b:Int):cy env .geq t c d (some (.int k a)) (some (.int k b))=some (.bool (decide (b≤a))):=WB t c d k a b
theorem WK (t:TypeId) (c d:Bool) (a b:List UInt8):cy env .eql t c d (some (.str a)) (some (.str b))=some (.bool (decide (a=b))):=Sf t c d a b
theorem OW (t:TypeId) (c d:Bool) {k:IntKind} {a b z:Int} (h:k.wrap (a+b)=z):cy env .add t c d (some (.int k a)) (some (.int k b))=some (.int k z):=B0 h
theorem OX (t:TypeId) (c d:Bool) {k:IntKind} {a b z:Int} (h:k.wrap (a - b)=z):cy env .sub t c d (some (.int k a)) (some (.int k b))=some (.int k z):=B1 h
theorem Ro (t:TypeId) (c d:Bool) {k:IntKind} {a b z:Int} (h:k.wrap (a*b)=z):cy env .mul t c d (some (.int k a)) (some (.int k b))=some (.int k z):=Lr h
theorem aO (t:TypeId) (o:Nat) (v:AV) {h:aA} {i:Nat} {cs:List AV} {e:TypeId} {ro:Bool} (hg:h.get i=some (.cells cs e ro)) (hv:iE env t cs o=some v):bk env h t (.ptr i o)=some v:=kN hg hv
theorem EO {a:Nat} (h:a<9223372036854775808):IntKind.i64.wrap (a:Int)=(a:Int):=wrap_i64 (by omega) (by omega)
theorem fu (t:TypeId) (c d:Bool) (a b:Nat) (h:a+b<9223372036854775808):cy env .add t c d (some (.int .i64 (a:Int))) (some (.int .i64 (b:Int)))=some (.int .i64 ((a+b:Nat):Int)):=B0 (by rw[show (a:Int)+b=((a+b:Nat):Int) by omega];exact EO h)
theorem Lu (t:TypeId) (c d:Bool) (a b:Nat) (h:b≤a) (ha:a<9223372036854775808):cy env .sub t c d (some (.int .i64 (a:Int))) (some (.int .i64 (b:Int)))=some (.int .i64 ((a - b:Nat):Int)):=B1 (by rw[show (a:Int) - b=((a - b:Nat):Int) by omega];exact EO (by omega))
theorem pk_ (d:Nat) (c:Code) (ts:List AV) (h:aA) (ds:List oB) (rc:RC) (e:iB) (h':aA) {al:List nh} {ps:List Prop} (k:Pk al [] ps) (hr:run env (cz d) 300 c ⟨ts,h,ds,rc⟩ al []= .at e ⟨vf (run env (cz d) 300 c ⟨ts,h,ds,rc⟩ al []),h',ds,rc⟩ [] ps):Ev env (cz d) c ⟨ts,h,ds,rc⟩ e ⟨vf (run env (cz d) 300 c ⟨ts,h,ds,rc⟩ al []),h',ds,rc⟩:=X' k hr
theorem pk (d:Nat) (c:Code) (ts:List AV) (h:aA) (e:iB) (h':aA) {al:List nh} {ps:List Prop} (k:Pk al [] ps) (hr:run env (cz d) 300 c ⟨ts,h,[],.no⟩ al []= .at e ⟨vf (run env (cz d) 300 c ⟨ts,h,[],.no⟩ al []),h',[],.no⟩ [] ps):Ev env (cz d) c ⟨ts,h,[],.no⟩ e ⟨vf (run env (cz d) 300 c ⟨ts,h,[],.no⟩ al []),h',[],.no⟩:=X' k hr
theorem fY {h:aA} (y:Tidy h) (o:aX):∃h',h.new o=some h'∧Tidy h'∧h'.nx=h.nx+1∧h'.get h.nx=some o∧Has h h':=by
 obtain ⟨h',n⟩:=nL (h:=h) o
 exact ⟨h',n,hQ y n,mI n,km n,xy y n⟩
theorem AE {h:aA} {t e:TypeId} {i o n:Nat} {cs N:List AV} {v:AV} (y:Tidy h) (gg:h.get i=some (.cells cs e false)) (hs:ch env t=some n) (hv:v.cells.length=n) (hl:Nat.ble (o+n) cs.length=true) (hN:setFrom cs o v.cells=N) (hk:v.cells.all AV.scalar=true):∃h',fE env h t (.ptr i o) v=some h'∧Tidy h'∧h'.nx=h.nx∧h'.get i=some (.cells N e false)∧Kept i h h':=by
 obtain ⟨h',s⟩:=B2 (E:=env) gg hs hv (Nat.le_of_ble_eq_true hl) hk
 exact ⟨h',s,vL y s gg,xA s gg,by rw[←hN];exact zf y s gg,Kept.store y s gg⟩
theorem rA {h:aA} {t e:TypeId} {i n:Nat} {cs L:List AV} (y:Tidy h) (gg:h.get i=some (.cells cs e false)) (hs:ch env t=some n) (hv:L.length=n) (hc:cs.length=n) (hk:L.all AV.scalar=true):∃h',fE env h t (.ptr i 0) (.agg L)=some h'∧Tidy h'∧h'.nx=h.nx∧h'.get i=some (.cells L e false)∧Kept i h h':=
 AE y gg hs hv (by rw[hc,Nat.zero_add,Nat.ble_eq];exact Nat.le_refl n) (by
  show setFrom cs 0 L=L
  apply List.ext_getElem?
  intro k
  rw[fX]
  split
  · rfl
  · rw[List.getElem?_eq_none (by omega),List.getElem?_eq_none (by omega)]) hk
structure Rk (f:List nh→List nh) (ps:List Prop):Prop where
 ok:mw ps
section
variable {f:List nh→List nh} {ps:List Prop}
theorem Rn (n:Nat) (k:Rk f ps):Rk (fun l=>f (cs n l)) ps:=⟨k.ok⟩
end
section
variable {f:List nh→List nh} {ps:List Prop}
theorem Rh {P:Prop} (h:P) (k:Rk f ps):Rk f (P::ps):=⟨⟨h,k.ok⟩⟩
end
theorem k! {p:Prop} (h:p:=by kernel_rfl):p:=h
theorem o! {p:Prop} (h:p:=by omega):p:=h
theorem nbf {b:Bool} (h:(!b)=false):b=true:=by cases b;cases h;rfl
theorem nbt {b:Bool} (h:(!b)=true):b=false:=by cases b;rfl;cases h
theorem d! {p:Prop} (h:p:=by first | assumption | exact afA (by assumption) | exact afB (by assumption) | exact nbf (by assumption) | exact nbt (by assumption) | exact dT (by omega) | exact dF (by omega) | exact nT (by omega) | exact nF (by omega)):p:=h
@[reducible] def _root_.Zi (x:Int):AV:= .int .i64 x
@[reducible] def _root_.Zn (n:Nat):AV:= .int .i64 (n:Int)
@[reducible] def _root_.Pt (b:Nat):AV:= .ptr b 0
theorem _root_.ov {c:Bool} (x y:Bool) (h:c=true):zT (some (.bool c)) (some (.bool x)) (some (.bool y))=some (.bool x):=Sh h
theorem _root_.pcf {c:Bool} (x y:Bool) (h:c=false):zT (some (.bool c)) (some (.bool x)) (some (.bool y))=some (.bool y):=aZ h
theorem _root_.ow {c:Bool} (x:Bool) (h:c=true):zT (some (.bool c)) (some (.bool x)) (some AV.undef)=some (.bool x):=Sh h
theorem _root_.uL {c:Bool} (x:Bool) (h:c=false):zT (some (.bool c)) (some AV.undef) (some (.bool x))=some (.bool x):=aZ h
section
variable {al:List nh} {p0 ps:List Prop}
theorem BC {u v:Bool} (h:u=v) (k:Pk al ((u=v)::p0) ps):Pk (.b v:: .c::al) p0 ps:=BB h (CC k)
theorem BV {u v:Bool} {l:Option AV} {x:AV} (h:u=v) (e:l=some x) (k:Pk al ((l=some x)::(u=v)::p0) ps):Pk (.b v:: .v x::al) p0 ps:=BB h (VV e k)
theorem BM {u v:Bool} {l:Option AV} {x:AV} (h:u=v) (e:l=some x) (k:Pk al ((l=some x)::(u=v)::p0) ps):Pk (.b v:: .m x::al) p0 ps:=BB h (MM e k)
end
theorem _root_.Go.Ab.Has.cS {h0 h h':aA} {b:Nat} (a:Has h0 h) (k:Kept b h h') (y:Tidy h0) (hb:h0.nx≤b):Has h0 h':=fun i x g=>by
 have:=y i x g
 exact k i x o! (a i x g)
class aF (α:Type) extends Inhabited α where
 c:α→List AV
 n:Nat
 e:TypeId
 len:∀x,(c x).length=n
 ok:aA→α→Prop
 mono:∀{h h':aA} {x:α},Has h h'→ok h x→ok h' x
 size:ch env e=some n
 agg:fD env e=some true
 pos:0<n
@[reducible] def imax (x y:Int):Int:=if y>x then y else x
@[reducible] def xB (x y:Int):Int:=if y<x then y else x
def _root_.List.g {α:Type} [Inhabited α] (l:List α) (i:Nat):α:=l.getD i default
structure aY {α:Type} [aF α] (h:aA) (v:AV) (l:List α):Prop where
 at_:oa env h (aF.e α) (aF.n α) v l.length (l.flatMap aF.c)
 known:v= .aP∨v= .ff∨∃p o m c b,v= .slice p o m c b∧(b=true→0<c)
 Va:∀x∈l,aF.ok h x
theorem dc {α β:Type} {size:Nat} {f:α→List β} (hf:∀x,(f x).length=size) (l:List α):(l.flatMap f).length=l.length*size:=by
 induction l with
 | nil=>simp
 | cons x l ih=>rw[List.flatMap_cons,List.length_append,ih,hf,List.length_cons,Nat.succ_mul];omega
section
variable {α:Type} [aF α] {h:aA} {v:AV} {l:List α}
theorem aY.has {h':aA} (x:aY h v l) (a:Has h h'):aY h' v l:=⟨x.at_.has a,x.known,fun y hy=>aF.mono a (x.Va y hy)⟩
theorem lW {i:Nat} (hi:i<l.length):l.g i∈l:=by
 rw[List.g,List.getD_eq_getElem?_getD,List.getElem?_eq_getElem hi];exact List.getElem_mem hi
theorem aY.ok (x:aY h v l) {i:Nat} (hi:i<l.length):aF.ok h (l.g i):=x.Va _ (lW hi)
theorem aY.small (x:aY h v l):l.length<2^60:=x.at_.small
theorem aY.len (x:aY h v l):dy (some (.slice (aF.e α))) (some v)=some (.int .i64 (l.length:Nat)):=x.at_.lens
theorem aY.scalar (x:aY h v l):AV.scalar v=true:=by
 rcases x.known with rfl | rfl | ⟨p,o,m,c,b,rfl,_⟩<;>rfl
theorem jU {β:Type} {size:Nat} {f:α→List β} (hf:∀x,(f x).length=size):∀(l:List α) (i j:Nat) (_:i<l.length),j<size→(l.flatMap f)[i*size+j]? =(f (l.g i))[j]?
 | [],i,j,hi,_=>by cases hi
 | x::l,0,j,_,hj=>by
   rw[List.flatMap_cons,Nat.zero_mul,Nat.zero_add,List.getElem?_append_left (by rw[hf];exact hj)];rfl
 | x::l,i+1,j,hi,hj=>by
   have e:(i+1)*size+j -(f x).length=i*size+j:=by rw[hf,Nat.succ_mul];omega
   rw[List.flatMap_cons,List.getElem?_append_right (by rw[hf,Nat.succ_mul];omega),e,jU hf l i j (by simpa using hi) hj];rfl
theorem aY.elem (x:aY h v l) {i:Nat} (hi:i<l.length):∃p q,cK env (some (.slice (aF.e α))) (some v) (some (.int .i64 ((i:Nat):Int)))=some (.ptr p q):=by
 rcases x.at_.block with h0 | ⟨p,o,m,c,b,C,f,ro,h1,_,h2,h3⟩
 · omega
 · subst h1
   have hm:m=l.length:=by
    have:=x.at_.lens
    rw[jT] at this
    simp only[Option.some.injEq,AV.int.injEq,true_and] at this
    omega
   exact ⟨p,o+i*aF.n α,cA x.at_.size o!⟩
theorem aY.block (x:aY h v l) {i p q:Nat} (hi:i<l.length) (hx:cK env (some (.slice (aF.e α))) (some v) (some (.int .i64 ((i:Nat):Int)))=some (.ptr p q)):
 ∃C f ro,h.get p=some (.cells C f ro)∧∀j,j<aF.n α→C[q+j]? =(aF.c (l.g i))[j]? :=by
 rcases x.at_.block with h0 | ⟨p',o,m,c,b,C,f,ro,h1,_,h2,h3⟩
 · omega
 · subst h1
   have hm:m=l.length:=by
    have:=x.at_.lens
    rw[jT] at this
    simp only[Option.some.injEq,AV.int.injEq,true_and] at this
    omega
   rw[cA x.at_.size o!] at hx
   simp only[Option.some.injEq,AV.ptr.injEq] at hx
   obtain ⟨rfl,rfl⟩:=hx
   refine ⟨C,f,ro,h2,fun j hj=>?_⟩
   have e:=jU aF.len l i j hi hj
   have lJ:i*aF.n α+j<(l.flatMap aF.c).length:=by
    rw[dc aF.len]
    calc i*aF.n α+j<i*aF.n α+aF.n α:=by omega
     _=(i+1)*aF.n α:=by rw[Nat.succ_mul]
     _≤l.length*aF.n α:=Nat.mul_le_mul_right _ hi
   rw[←e,Nat.add_assoc,h3 _ lJ]
theorem aY.load (x:aY h v l) {i p q:Nat} (hi:i<l.length) (hx:cK env (some (.slice (aF.e α))) (some v) (some (.int .i64 ((i:Nat):Int)))=some (.ptr p q)):bk env h (aF.e α) (.ptr p q)=some (.agg (aF.c (l.g i))):=by
 obtain ⟨C,f,ro,h1,h2⟩:=x.block hi hx
 have hl:=aF.len (l.g i)
 have hn:q+aF.n α≤C.length:=by
  have h0:=aF.pos (α:=α)
  have:=h2 (aF.n α - 1) o!
  rw[List.getElem?_eq_getElem (by omega:aF.n α - 1<(aF.c (l.g i)).length)] at this
  have:=(List.getElem?_eq_some_iff.1 this).1
  omega
 simp only[bk,h1,iE,aF.agg,aF.size,hn,if_true]
 congr 2
 apply List.ext_getElem?
 intro j
 by_cases hj:j<aF.n α
 · rw[List.getElem?_take_of_lt hj,List.getElem?_drop,h2 j hj]
 · rw[List.getElem?_eq_none (by rw[List.length_take];omega),List.getElem?_eq_none o!]
theorem aY.part (x:aY h v l) {i p q j:Nat} {t:TypeId} {w:AV} (hi:i<l.length) (hx:cK env (some (.slice (aF.e α))) (some v) (some (.int .i64 ((i:Nat):Int)))=some (.ptr p q)) (ht:fD env t=some false) (hw:(aF.c (l.g i))[j]? =some w):bk env h t (.ptr p (q+j))=some w:=by
 obtain ⟨C,f,ro,h1,h2⟩:=x.block hi hx
 have hj:=(List.getElem?_eq_some_iff.1 hw).1
 rw[aF.len] at hj
 simp only[bk,h1,iE,ht]
 rw[h2 j hj,hw]
theorem aY.Yb (x:aY h v l) {i p q j n:Nat} {t:TypeId} {ws:List AV} (hi:i<l.length) (hx:cK env (some (.slice (aF.e α))) (some v) (some (.int .i64 ((i:Nat):Int)))=some (.ptr p q)) (ht:fD env t=some true) (hs:ch env t=some n) (hj:j+n≤aF.n α) (hw:((aF.c (l.g i)).drop j).take n=ws):bk env h t (.ptr p (q+j))=some (.agg ws):=by
 obtain ⟨C,f,ro,h1,h2⟩:=x.block hi hx
 have hl:=aF.len (l.g i)
 have hn:q+aF.n α≤C.length:=by
  have h0:=aF.pos (α:=α)
  have:=h2 (aF.n α - 1) o!
  rw[List.getElem?_eq_getElem (by omega:aF.n α - 1<(aF.c (l.g i)).length)] at this
  have:=(List.getElem?_eq_some_iff.1 this).1
  omega
 have hc:q+j+n≤C.length:=by omega
 simp only[bk,h1,iE,ht,hs,hc,if_true]
 rw[←hw]
 congr 2
 apply List.ext_getElem?
 intro k
 by_cases hk:k<n
 · rw[List.getElem?_take_of_lt hk,List.getElem?_take_of_lt hk,List.getElem?_drop,List.getElem?_drop,Nat.add_assoc,h2 (j+k) o!]
 · rw[List.getElem?_eq_none (by rw[List.length_take];omega),List.getElem?_eq_none (by rw[List.length_take];omega)]
theorem aY.nil {α:Type} [aF α] {h:aA}:aY h .aP ([]:List α):=⟨⟨aF.size,by simp,by show 0<2^60;decide,rfl,.inl rfl⟩,.inl rfl,fun x hx=>by cases hx⟩
theorem aY.pre (x:aY h v l) {t:TypeId} (ht:env.P.underlying t=some (.slice (aF.e α))) {i:Nat} (hi:i<l.length):∃r,fK env t v none (some (.int .i64 ((i:Nat):Int))) none=some r∧aY h r (l.take i):=by
 rcases x.at_.block with h0 | ⟨p,o,m,c,b,C,f,ro,h1,hc,h2,h3⟩
 · omega
 · subst h1
   have hm:m=l.length:=by
    have:=x.at_.lens
    rw[jT] at this
    simp only[Option.some.injEq,AV.int.injEq,true_and] at this
    omega
   subst hm
   have hb:b=true→0<c:=fun e=>by omega
   refine ⟨.slice p o i c b,?_,⟨⟨x.at_.size,dc aF.len _,by have:=x.small;simp;omega,?_,.inr ⟨p,o,i,c,b,C,f,ro,rfl,by omega,h2,fun j hj=>?_⟩⟩,.inr (.inr ⟨_,_,_,_,_,rfl,hb⟩),fun y hy=>x.Va y (List.mem_of_mem_take hy)⟩⟩
   · simp only[fK,ht,x.at_.size,hc,if_true,qo (len:=l.length) (cap:=c) none (some (.int .i64 ((i:Nat):Int))) (.inr ⟨rfl,rfl⟩) (.inl rfl) (Nat.zero_le i) o!]
     rw[if_neg o!]
     simp
   · rw[List.length_take,Nat.min_eq_left o!];exact jT _ _ _ _ _ _
   · rw[dc aF.len,List.length_take,Nat.min_eq_left o!] at hj
     have lJ:j<(l.flatMap aF.c).length:=by
      rw[dc aF.len];exact Nat.lt_of_lt_of_le hj (Nat.mul_le_mul_right _ o!)
     rw[h3 j lJ]
     have e:l=l.take i++l.drop i:=(List.take_append_drop i l).symm
     conv=>lhs;rw[e,List.flatMap_append]
     rw[List.getElem?_append_left]
     rw[dc aF.len,List.length_take,Nat.min_eq_left o!];exact hj
def aU {ρ:Type} (call:bh) (b:Code) (s:St) (ex:iB) (hh:aA) (tn:(Nat→AV)→List AV) (tr:ρ→(Nat→AV)→List AV):Option ρ→Prop
 | none=>∃y hk,Ev env call (.loop b) s ex ⟨tn y,hk,[],.no⟩∧Grow hh hk
 | some r=>∃y hk,Ev env call (.loop b) s .ret ⟨tr r y,hk,[],.no⟩∧Grow hh hk
section
variable {ρ:Type} {call:bh} {b:Code} {s:St} {ex:iB} {hh hk:aA} {tn:(Nat→AV)→List AV} {tr:ρ→(Nat→AV)→List AV}
theorem aU.n {o:Option ρ} (e:o=none) (x:aU call b s ex hh tn tr o):∃y hk,Ev env call (.loop b) s ex ⟨tn y,hk,[],.no⟩∧Grow hh hk:=by subst e;exact x
theorem aU.r {o:Option ρ} {r:ρ} (e:o=some r) (x:aU call b s ex hh tn tr o):∃y hk,Ev env call (.loop b) s .ret ⟨tr r y,hk,[],.no⟩∧Grow hh hk:=by subst e;exact x
theorem aU.out {i:Nat} {L:List AV} {o:Option ρ} (e:o=none) (ev:Ev env call b s (.exit i) ⟨L,hk,[],.no⟩) (G:Grow hh hk) (hl:L=tn fun k=>L.getD k AV.undef):aU call b s (.exit i) hh tn tr o:=by
 subst e
 obtain ⟨y,q⟩:=xw (Ev.out ev) hl
 exact ⟨y,hk,q,G⟩
theorem aU.ret {L:List AV} {o:Option ρ} (r:ρ) (e:o=some r) (ev:Ev env call b s .ret ⟨L,hk,[],.no⟩) (G:Grow hh hk) (hl:L=tr r fun k=>L.getD k AV.undef):aU call b s ex hh tn tr o:=by
 subst e
 obtain ⟨y,q⟩:=xw (tmpl:=tr r) (Ev.ret ev) hl
 exact ⟨y,hk,q,G⟩
theorem aU.round {L:List AV} {o o':Option ρ} (e:o=o') (ev:Ev env call b s .normal ⟨L,hk,[],.no⟩) (G:Grow hh hk) (s7:(Nat→AV)→List AV) (hl:L=s7 fun k=>L.getD k AV.undef) (ih:∀x,aU call b ⟨s7 x,hk,[],.no⟩ ex hk tn tr o'):aU call b s ex hh tn tr o:=by
 subst e
 have q:=ih fun k=>L.getD k AV.undef
 rw[←hl] at q
 cases o with
 | none=>obtain ⟨y,h2,x,g⟩:=q;exact ⟨y,h2,Ev.loop ev x,G.trans g⟩
 | some r=>obtain ⟨y,h2,x,g⟩:=q;exact ⟨y,h2,Ev.loop ev x,G.trans g⟩
end
def lX {ρ:Type} (call:bh) (b:Code) (s:St) (ex:iB) (h hh:aA) (tn:(Nat→AV)→List AV) (tr:ρ→(Nat→AV)→List AV) (pb:Nat) (cl:ρ→aX):Option ρ→Prop
 | none=>∃y hk,Ev env call (.loop b) s ex ⟨tn y,hk,[],.no⟩∧Grow hh hk
 | some r=>∃y hk,Ev env call (.loop b) s .ret ⟨tr r y,hk,[],.no⟩∧Tidy hk∧Has h hk∧hh.nx≤hk.nx∧hk.get pb=some (cl r)
section
variable {ρ:Type} {call:bh} {b:Code} {s:St} {ex:iB} {h hh hk:aA} {tn:(Nat→AV)→List AV} {tr:ρ→(Nat→AV)→List AV} {pb:Nat} {cl:ρ→aX}
theorem lX.n {o:Option ρ} (e:o=none) (x:lX call b s ex h hh tn tr pb cl o):∃y hk,Ev env call (.loop b) s ex ⟨tn y,hk,[],.no⟩∧Grow hh hk:=by subst e;exact x
theorem lX.r {o:Option ρ} {r:ρ} (e:o=some r) (x:lX call b s ex h hh tn tr pb cl o):∃y hk,Ev env call (.loop b) s .ret ⟨tr r y,hk,[],.no⟩∧Tidy hk∧Has h hk∧hh.nx≤hk.nx∧hk.get pb=some (cl r):=by subst e;exact x
theorem lX.out {i:Nat} {L:List AV} {o:Option ρ} (e:o=none) (ev:Ev env call b s (.exit i) ⟨L,hk,[],.no⟩) (G:Grow hh hk) (hl:L=tn fun k=>L.getD k AV.undef):lX call b s (.exit i) h hh tn tr pb cl o:=by
 subst e
 obtain ⟨y,q⟩:=xw (Ev.out ev) hl
 exact ⟨y,hk,q,G⟩
theorem lX.round {L:List AV} {o o':Option ρ} (e:o=o') (ev:Ev env call b s .normal ⟨L,hk,[],.no⟩) (G:Grow hh hk) (s7:(Nat→AV)→List AV) (hl:L=s7 fun k=>L.getD k AV.undef) (ih:∀x,lX call b ⟨s7 x,hk,[],.no⟩ ex h hk tn tr pb cl o'):lX call b s ex h hh tn tr pb cl o:=by
 subst e
 have q:=ih fun k=>L.getD k AV.undef
 rw[←hl] at q
 cases o with
 | none=>obtain ⟨y,h2,x,g⟩:=q;exact ⟨y,h2,Ev.loop ev x,G.trans g⟩
 | some r=>obtain ⟨y,h2,x,y1,a1,n1,g1⟩:=q;exact ⟨y,h2,Ev.loop ev x,y1,a1,Nat.le_trans G.n n1,g1⟩
end
def kW {σ:Type} (call:bh) (b:Code) (s:St) (ex:iB) (hh:aA) (tn:σ→(Nat→AV)→List AV) (Q:σ→Prop) (r:σ):Prop:=∃y hk,Ev env call (.loop b) s ex ⟨tn r y,hk,[],.no⟩∧Grow hh hk∧Q r
section
variable {σ:Type} {call:bh} {b:Code} {s:St} {ex:iB} {hh hk:aA} {tn:σ→(Nat→AV)→List AV} {Q:σ→Prop}
theorem kW.out {i:Nat} {L:List AV} {o:σ} (r:σ) (e:o=r) (ev:Ev env call b s (.exit i) ⟨L,hk,[],.no⟩) (G:Grow hh hk) (iq:Q r) (hl:L=tn r fun k=>L.getD k AV.undef):kW call b s (.exit i) hh tn Q o:=by
 subst e
 obtain ⟨y,q⟩:=xw (tmpl:=tn o) (Ev.out ev) hl
 exact ⟨y,hk,q,G,iq⟩
theorem kW.round {L:List AV} {o o':σ} (e:o=o') (ev:Ev env call b s .normal ⟨L,hk,[],.no⟩) (G:Grow hh hk) (s7:(Nat→AV)→List AV) (hl:L=s7 fun k=>L.getD k AV.undef) (ih:∀x,kW call b ⟨s7 x,hk,[],.no⟩ ex hk tn Q o'):kW call b s ex hh tn Q o:=by
 subst e
 have q:=ih fun k=>L.getD k AV.undef
 rw[←hl] at q
 obtain ⟨y,h2,x,g,i⟩:=q;exact ⟨y,h2,Ev.loop ev x,G.trans g,i⟩
end
theorem aY.same {α:Type} [aF α] {h:aA} {v:AV} {l:List α} (x:aY h v l) (n:Nat):AV.same (n+1) v v=true:=by
 rcases x.known with rfl | rfl | ⟨p,o,m,c,b,rfl,_⟩
 · rfl
 · rfl
 · exact BT n p o m c b
def WL (cs:List AV):Prop:=∀n,da (AV.same (n+1)) cs cs=true
theorem DC:WL []:=fun _=>rfl
theorem iC {x:AV} {cs:List AV} (hx:∀n,AV.same (n+1) x x=true) (hc:WL cs):WL (x::cs):=fun n=>by
 show (AV.same (n+1) x x&&da (AV.same (n+1)) cs cs)=true
 rw[hx,hc];rfl
theorem dM (n:Nat) {cs:List AV} (h:WL cs):AV.same (n+2) (.agg cs) (.agg cs)=true:=h n
theorem ko {s:List UInt8} {j:Nat} (hj:j<s.length):rq env (some .string) (some (.str s)) (some (.int .i64 ((j:Nat):Int)))=some (.int .u8 (((s.g j).toNat:Nat):Int)):=by
 refine Sg ?_
 rw[List.g,List.getD_eq_getElem?_getD,List.getElem?_eq_getElem hj];rfl
end
theorem s9 {h:aA} {e s xt:TypeId} {xd:TypeDesc} {tys:Array TypeId} {bytes:Nat} {z x:AV} {M:List AV} (h0:tys[0]? =some s) (h1:tys[1]? =some xt) (hs:env.P.underlying s=some (.slice e)) (hx:env.P.underlying xt=some xd) (hi:mD xd=false) (H4:ch env e=some 1) (hb:fQ env e=some bytes) (ss:fC env e=some z) (hz:z.cells.length=1) (h8:bytes≤63) (hlen:nE x=some M.length) (hf:fj h 1 M.length x=some M) (qN:M.all AV.scalar=true) (hm:M≠ []) (hl:M.length≤1073741824):
 ∃h',bX env h tys .aP x=some (.slice h.nx 0 M.length M.length true,h')∧h.new (.cells M e false)=some h':=by
 obtain ⟨h',n⟩:=nL (h:=h) (.cells M e false)
 refine ⟨h',?_,n⟩
 have hn:¬M.length=0:=fun e=>hm (List.length_eq_zero_iff.1 e)
 have FY:(4*M.length+4096)*(bytes+1)≤1099511627776:=Nat.le_trans (Nat.mul_le_mul (show 4*M.length+4096≤17179869184 by omega) (show bytes+1≤64 by omega)) (by decide)
 simp only[bX,h0,h1,hs,hx,hi,H4,hb,hlen,hf,ss,hz,qN,Nat.mul_one,hn,FY,n,if_true,if_false,and_self,Bool.false_eq_true]
theorem s_ {h:aA} {e s xt:TypeId} {xd:TypeDesc} {tys:Array TypeId} {bytes p:Nat} {op:Bool} {z x:AV} {L M:List AV} (y:Tidy h) (h0:tys[0]? =some s) (h1:tys[1]? =some xt) (hs:env.P.underlying s=some (.slice e)) (hx:env.P.underlying xt=some xd) (hi:mD xd=false) (H4:ch env e=some 1) (hb:fQ env e=some bytes) (ss:fC env e=some z) (hz:z.cells.length=1) (h8:bytes≤63) (hlen:nE x=some M.length) (hf:fj h 1 M.length x=some M) (qN:M.all AV.scalar=true) {n:Nat} (hn:L.length=n) (hm:M≠ []) (hl:n+M.length≤1073741824)
 (hg:h.get p=some (.cells L e false)):
 ∃h',bX env h tys (.slice p 0 n n op) x=some (.slice h.nx 0 (n+M.length) (n+M.length) true,h')∧Tidy h'∧h'.nx=h.nx+1∧Kept p h h'∧h'.get h.nx=some (.cells (L++M) e false):=by
 have hp:=y _ _ hg
 subst hn
 have ec:(L.drop 0).take (L.length*1)++M=L++M:=by
  rw[List.drop_zero,Nat.mul_one,List.take_of_length_le (Nat.le_refl _)]
 have y2:Tidy (if op then h.put p none else h):=by
  cases op with
  | false=>exact y
  | true=>
    intro i x g
    show i<h.nx
    by_cases hi:i=p
    · subst hi;exact hp
    · rw[if_pos rfl,aA.bB (Ne.symm hi)] at g;exact y i x g
 have n2:(if op then h.put p none else h).nx=h.nx:=by cases op<;>rfl
 obtain ⟨h',n⟩:=nL (h:=if op then h.put p none else h) (.cells (L++M) e false)
 refine ⟨h',?_,hQ y2 n,by rw[mI n,n2],fun i x hi g=>?_,by rw[←n2];exact km n⟩
 · have hn:0<M.length:=List.length_pos_iff.2 hm
   have FY:(4*(L.length+M.length)+4096)*(bytes+1)≤1099511627776:=Nat.le_trans (Nat.mul_le_mul (show 4*(L.length+M.length)+4096≤17179869184 by omega) (show bytes+1≤64 by omega)) (by decide)
   have hc:¬L.length+M.length≤L.length:=by omega
   simp only[bX,h0,h1,hs,hx,hi,H4,hb,hlen,hf,ss,hz,qN,hg,hc,if_true,if_false,Bool.false_eq_true,Nat.mul_one]
   rw[if_pos ⟨trivial,trivial,trivial⟩,if_pos ⟨FY,by omega,fun _=>⟨trivial,by omega,trivial⟩⟩]
   rw[show List.take L.length (List.drop 0 L)=L by rw[List.drop_zero,List.take_length],n]
 · refine hJ y2 n ?_
   cases op with
   | false=>exact g
   | true=>rw[if_pos rfl,aA.bB (Ne.symm hi)];exact g
def dk (e:TypeId) (h0 h:aA) (z:AV) (L:List AV):Prop:=(z= .aP∧L=[])∨(L≠ []∧∃p op,z= .slice p 0 L.length L.length op∧h0.nx≤p∧h.get p=some (.cells L e false))
theorem dk.has {e:TypeId} {h0 h h':aA} {z:AV} {L:List AV} (o:dk e h0 h z L) (a:Has h h'):dk e h0 h' z L:=o.imp id fun ⟨hn,p,op,e,h1,g⟩=>⟨hn,p,op,e,h1,a _ _ g⟩
theorem dk.app {e s xt:TypeId} {xd:TypeDesc} {h0 h:aA} {tys:Array TypeId} {bytes:Nat} {z0 z x:AV} {L M:List AV} (y:Tidy h) (y0:Tidy h0) (a:Has h0 h) (hle:h0.nx≤h.nx) (o:dk e h0 h z L) (t0:tys[0]? =some s) (t1:tys[1]? =some xt) (hs:env.P.underlying s=some (.slice e)) (hx:env.P.underlying xt=some xd) (hi:mD xd=false) (H4:ch env e=some 1) (hb:fQ env e=some bytes) (ss:fC env e=some z0) (hz:z0.cells.length=1) (h8:bytes≤63) (hlen:nE x=some M.length) (hf:fj h 1 M.length x=some M) (qN:M.all AV.scalar=true) (hm:M≠ []) (hl:L.length+M.length≤1073741824):
 ∃z' h',bX env h tys z x=some (z',h')∧Tidy h'∧h.nx≤h'.nx∧Has h0 h'∧dk e h0 h' z' (L++M):=by
 rcases o with ⟨rfl,rfl⟩ | ⟨hn,p,op,rfl,hp,hg⟩
 · obtain ⟨h',e1,n⟩:=s9 (h:=h) t0 t1 hs hx hi H4 hb ss hz h8 hlen hf qN hm (by simpa using hl)
   have:=mI n
   exact ⟨_,h',e1,hQ y n,by omega,a.trans (xy y n),.inr ⟨by simpa using hm,h.nx,true,by simp,hle,km n⟩⟩
 · obtain ⟨h',e1,y1,z1,k1,g1⟩:=s_ (op:=op) y t0 t1 hs hx hi H4 hb ss hz h8 hlen hf qN rfl hm hl hg
   exact ⟨_,h',e1,y1,by omega,Has.cS a k1 y0 hp,.inr ⟨by simp [hn],h.nx,true,by rw[List.length_append],hle,g1⟩⟩
theorem GO {i:Nat} {b:Bool} {v:AV}:nE (.slice i 0 1 1 b)=some [v].length:=rfl
theorem zg {h:aA} {i:Nat} {b:Bool} {v:AV} {e:TypeId} {ro:Bool} (hg:h.get i=some (.cells [v] e ro)):fj h 1 [v].length (.slice i 0 1 1 b)=some [v]:=by
 simp [fj,hg]
theorem dk.le {e:TypeId} {h0 h1 h:aA} {z:AV} {L:List AV} (o:dk e h1 h z L) (hn:h0.nx≤h1.nx):dk e h0 h z L:=o.imp id fun ⟨eF,p,op,e,h1,g⟩=>⟨eF,p,op,e,by omega,g⟩
def zs (k:IntKind) (l:List Int):List AV:=l.map (AV.int k)
theorem oW (k:IntKind) (l:List Int):(zs k l).length=l.length:=by simp [zs]
theorem Nx (k:IntKind) (l:List Int) (x:Int):zs k (l++[x])=zs k l++[AV.int k x]:=by simp [zs]
theorem ZW (k:IntKind) (l:List Int) {i:Nat} (hi:i<l.length):(zs k l)[i]? =some (.int k (l.g i)):=by
 rw[zs,List.getElem?_map,List.getElem?_eq_getElem hi,List.g,List.getD_eq_getElem?_getD,List.getElem?_eq_getElem hi];rfl
structure gO (h:aA) (k:IntKind) (e:TypeId) (v:AV) (l:List Int):Prop where
 at_:oa env h e 1 v l.length (zs k l)
 agg:fD env e=some false
 known:v= .aP∨v= .ff∨∃p o m c b,v= .slice p o m c b
theorem gO.has {k:IntKind} {h h':aA} {e:TypeId} {v:AV} {l:List Int} (x:gO h k e v l) (a:Has h h'):gO h' k e v l:=⟨x.at_.has a,x.agg,x.known⟩
theorem gO.scalar {k:IntKind} {h:aA} {e:TypeId} {v:AV} {l:List Int} (x:gO h k e v l):AV.scalar v=true:=by
 rcases x.known with rfl | rfl | ⟨p,o,m,c,b,rfl⟩<;>rfl
theorem gO.same {k:IntKind} {h:aA} {e:TypeId} {v:AV} {l:List Int} (x:gO h k e v l) (n:Nat):AV.same (n+1) v v=true:=by
 rcases x.known with rfl | rfl | ⟨p,o,m,c,b,rfl⟩
 · rfl
 · rfl
 · exact BT n p o m c b
theorem gO.small {k:IntKind} {h:aA} {e:TypeId} {v:AV} {l:List Int} (x:gO h k e v l):l.length<2^60:=x.at_.small
theorem gO.len {k:IntKind} {h:aA} {e:TypeId} {v:AV} {l:List Int} (x:gO h k e v l):dy (some (.slice e)) (some v)=some (.int .i64 (l.length:Nat)):=x.at_.lens
theorem gO.elem {k:IntKind} {h:aA} {e:TypeId} {v:AV} {l:List Int} (x:gO h k e v l) {i:Nat} (hi:i<l.length):∃p q,cK env (some (.slice e)) (some v) (some (.int .i64 ((i:Nat):Int)))=some (.ptr p q)∧bk env h e (.ptr p q)=some (.int k (l.g i)):=x.at_.elem x.agg (ZW k l hi)
theorem gO.load {k:IntKind} {h:aA} {e:TypeId} {v:AV} {l:List Int} (x:gO h k e v l) {i p q:Nat} (hi:i<l.length) (hx:cK env (some (.slice e)) (some v) (some (.int .i64 ((i:Nat):Int)))=some (.ptr p q)):bk env h e (.ptr p q)=some (.int k (l.g i)):=by
 obtain ⟨p',q',h1,h2⟩:=x.elem hi
 rw[hx] at h1
 simp only[Option.some.injEq,AV.ptr.injEq] at h1
 obtain ⟨rfl,rfl⟩:=h1
 exact h2
theorem gO.nil {k:IntKind} {h:aA} {e:TypeId} (hs:ch env e=some 1) (ha:fD env e=some false):gO h k e .aP []:=⟨⟨hs,rfl,by decide,rfl,.inl rfl⟩,ha,.inl rfl⟩
theorem dk.zs {k:IntKind} {e:TypeId} {h0 h:aA} {z:AV} {l:List Int} (o:dk e h0 h z (aG.zs k l)) (hl:l.length<2^60) (hs:ch env e=some 1) (ha:fD env e=some false):gO h k e z l:=by
 rcases o with ⟨rfl,e0⟩ | ⟨hn,p,op,rfl,_,hg⟩
 · have:l=[]:=List.length_eq_zero_iff.1 (by have:=congrArg List.length e0;rwa [oW] at this)
   subst this
   exact gO.nil hs ha
 · rw[oW]
   exact ⟨⟨hs,by rw[oW];omega,hl,rfl,.inr ⟨p,0,_,_,op,_,_,_,rfl,Nat.le_refl _,hg,fun j _=>by rw[Nat.zero_add]⟩⟩,ha,.inr (.inr ⟨_,_,_,_,_,rfl⟩)⟩
theorem dk.Jq {k:IntKind} {e:TypeId} {h0 h:aA} {z:AV} {l:List Int} {n:Nat} (o:dk e h0 h z (aG.zs k l)) (v:AV.within h0.nx (n+1) z=true) (hs:ch env e=some 1) (ha:fD env e=some false):gO h0 k e z l:=by
 rcases o with ⟨rfl,e0⟩ | ⟨hn,p,op,rfl,hp,hg⟩
 · have:l=[]:=List.length_eq_zero_iff.1 (by have:=congrArg List.length e0;rwa [oW] at this)
   subst this
   exact gO.nil hs ha
 · have:=of_decide_eq_true (show decide (p<h0.nx)=true from v)
   omega
theorem dk.acO {k:IntKind} {e s xt:TypeId} {h0 h:aA} {tys:Array TypeId} {bytes b:Nat} {z0 z:AV} {L:List Int} {v:Int} {f:TypeId} {ro op:Bool} (y:Tidy h) (y0:Tidy h0) (a:Has h0 h) (hle:h0.nx≤h.nx) (o:dk e h0 h z (aG.zs k L)) (hg:h.get b=some (.cells [.int k v] f ro)) (hl:L.length≤1000000000) (t0:tys[0]? =some s) (t1:tys[1]? =some xt) (hs:env.P.underlying s=some (.slice e)) (hx:env.P.underlying xt=some (.slice e)) (H4:ch env e=some 1) (hb:fQ env e=some bytes) (ss:fC env e=some z0) (hz:z0.cells.length=1) (h8:bytes≤63):
 ∃z' h',bX env h tys z (.slice b 0 1 1 op)=some (z',h')∧Tidy h'∧h.nx≤h'.nx∧Has h0 h'∧dk e h0 h' z' (aG.zs k (L++[v])):=by
 rw[Nx]
 exact dk.app y y0 a hle o t0 t1 hs hx rfl H4 hb ss hz h8 GO (zg hg) rfl (by simp) (by rw[oW];simp;omega)
def kX {σ:Type} (call:bh) (b:Code) (s:St) (ex:iB) (h:aA) (e:TypeId) (tn:σ→AV→(Nat→AV)→List AV) (own:σ→List AV) (N:Nat) (r:σ):Prop:=∃z y hk,Ev env call (.loop b) s ex ⟨tn r z y,hk,[],.no⟩∧Grow h hk∧dk e h hk z (own r)∧(own r).length≤N
section
variable {σ:Type} {call:bh} {b:Code} {s:St} {ex:iB} {h hk:aA} {e:TypeId} {tn:σ→AV→(Nat→AV)→List AV} {own:σ→List AV} {N:Nat}
theorem kX.out {i:Nat} {L:List AV} {o:σ} (r:σ) (z:AV) (e1:o=r) (ev:Ev env call b s (.exit i) ⟨L,hk,[],.no⟩) (G:Grow h hk) (oz:dk e h hk z (own r)) (ln:(own r).length≤N) (hl:L=tn r z fun k=>L.getD k AV.undef):kX call b s (.exit i) h e tn own N o:=by
 subst e1
 obtain ⟨y,q⟩:=xw (tmpl:=tn o z) (Ev.out ev) hl
 exact ⟨z,y,hk,q,G,oz,ln⟩
theorem kX.round {L:List AV} {o o':σ} (e1:o=o') (ev:Ev env call b s .normal ⟨L,hk,[],.no⟩) (s7:(Nat→AV)→List AV) (hl:L=s7 fun k=>L.getD k AV.undef) (ih:∀x,kX call b ⟨s7 x,hk,[],.no⟩ ex h e tn own N o'):kX call b s ex h e tn own N o:=by
 subst e1
 have q:=ih fun k=>L.getD k AV.undef
 rw[←hl] at q
 obtain ⟨z,y,h2,x,g,oz,ln⟩:=q;exact ⟨z,y,h2,Ev.loop ev x,g,oz,ln⟩
end
def bH {α:Type} [aF α] (h0 h:aA) (z:AV) (l:List α):Prop:=
 ((z= .aP∨∃p,z= .slice p 0 0 0 false∧h0.nx≤p∧h.get p=some (.cells [] (aF.e α) false))∧l=[])∨
 (l≠ []∧∃p op,z= .slice p 0 l.length l.length op∧h0.nx≤p∧h.get p=some (.cells (l.flatMap aF.c) (aF.e α) false))
def b6 (z:AV) (i:Nat):Prop:=∀o n c b,z≠ .slice i o n c b
section
variable {α:Type} [aF α] {h0 h h':aA} {z:AV} {l m:List α}
theorem bH.has (o:bH h0 h z l) (a:Has h h'):bH h0 h' z l:=by
 rcases o with ⟨rfl | ⟨p,rfl,h1,h2⟩,rfl⟩ | ⟨hn,p,op,e,h1,g⟩
 · exact .inl ⟨.inl rfl,rfl⟩
 · exact .inl ⟨.inr ⟨p,rfl,h1,a _ _ h2⟩,rfl⟩
 · exact .inr ⟨hn,p,op,e,h1,a _ _ g⟩
theorem bH.afD {s xt:TypeId} {tys:Array TypeId} {bytes N:Nat} {z0 x:AV} (y:Tidy h) (y0:Tidy h0) (a:Has h0 h) (hle:h0.nx≤h.nx) (o:bH h0 h z l) (hlen:nE x=some m.length) (hf:fj h (aF.n α) m.length x=some (m.flatMap aF.c)) (qN:(m.flatMap aF.c).all AV.scalar=true) (hl:l.length+m.length≤N)
 (t0:tys[0]? =some s) (t1:tys[1]? =some xt) (hs:env.P.underlying s=some (.slice (aF.e α))) (hx:env.P.underlying xt=some (.slice (aF.e α))) (hb:fQ env (aF.e α)=some bytes) (ss:fC env (aF.e α)=some z0) (hz:z0.cells.length=aF.n α) (ZX:∀k,k≤N→(4*k+4096)*(bytes+1)≤1099511627776):
 ∃z' h',bX env h tys z x=some (z',h')∧Tidy h'∧h.nx≤h'.nx∧Has h0 h'∧bH h0 h' z' (l++m)∧∀i w,b6 z i→h.get i=some w→h'.get i=some w:=by
 have B9:=dc aF.len m
 have hi:mD (.slice (aF.e α))=false:=rfl
 have xC:∀{p:Nat} {ob:aX},h.get p=some ob→Tidy (h.put p (some ob))∧Has h0 (h.put p (some ob))∧(∀i w,h.get i=some w→(h.put p (some ob)).get i=some w):=fun {p ob} g=>by
  have hg:∀i,(h.put p (some ob)).get i=h.get i:=fun i=>by
   by_cases e:i=p
   · subst e;rw[aA.ck,g]
   · rw[aA.bB (Ne.symm e)]
  exact ⟨fun i w q=>y i w (by rw[←hg];exact q),fun i w q=>by rw[hg];exact a i w q,fun i w q=>by rw[hg];exact q⟩
 have Sy:m≠ []→∃h',h.new (.cells (m.flatMap aF.c) (aF.e α) false)=some h'∧Tidy h'∧h.nx≤h'.nx∧Has h0 h'∧bH h0 h' (.slice h.nx 0 m.length m.length true) m∧∀i w,h.get i=some w→h'.get i=some w:=fun hm=>by
  obtain ⟨h',n⟩:=nL (h:=h) (.cells (m.flatMap aF.c) (aF.e α) false)
  have:=mI n
  exact ⟨h',n,hQ y n,by omega,a.trans (xy y n),.inr ⟨hm,h.nx,true,rfl,hle,km n⟩,fun i w g=>hJ y n g⟩
 rcases o with ⟨rfl | ⟨p,rfl,hp,hg⟩,rfl⟩ | ⟨hn,p,op,rfl,hp,hg⟩
 · rw[List.nil_append]
   by_cases hm:m=[]
   · subst hm
     simp only[List.length_nil,List.flatMap_nil,Nat.zero_mul] at hlen hf qN B9
     refine ⟨.aP,h,?_,y,Nat.le_refl _,a,.inl ⟨.inl rfl,rfl⟩,fun _ _ _ g=>g⟩
     simp only[bX,t0,t1,hs,hx,hi,aF.size,hb,hlen,hf,ss,hz,qN,B9,if_true,if_false,and_self,List.length_nil,Bool.false_eq_true,Nat.zero_mul]
   · obtain ⟨h',n,q1,q2,q3,q4,q5⟩:=Sy hm
     have Qb:¬m.length=0:=fun e=>hm (List.length_eq_zero_iff.1 e)
     refine ⟨_,h',?_,q1,q2,q3,q4,fun i w _ g=>q5 i w g⟩
     simp only[bX,t0,t1,hs,hx,hi,aF.size,hb,hlen,hf,ss,hz,qN,B9,Qb,ZX m.length o!,n,if_true,if_false,and_self,Bool.false_eq_true]
 · rw[List.nil_append]
   by_cases hm:m=[]
   · subst hm
     simp only[List.length_nil,List.flatMap_nil,Nat.zero_mul] at hlen hf qN B9
     obtain ⟨q1,q2,q3⟩:=xC hg
     refine ⟨_,_,?_,q1,Nat.le_refl _,q2,.inl ⟨.inr ⟨p,rfl,hp,q3 _ _ hg⟩,rfl⟩,fun i w _ g=>q3 i w g⟩
     simp only[bX,t0,t1,hs,hx,hi,aF.size,hb,hlen,hf,ss,hz,qN,B9,hg,if_true,if_false,and_self,List.length_nil,Bool.false_eq_true,Nat.zero_mul,Nat.add_zero,Nat.le_refl,List.flatMap_nil,setFrom]
   · obtain ⟨h',n,q1,q2,q3,q4,q5⟩:=Sy hm
     have Qb:¬m.length≤0:=fun e=>hm (List.length_eq_zero_iff.1 o!)
     refine ⟨_,h',?_,q1,q2,q3,q4,fun i w _ g=>q5 i w g⟩
     simp only[bX,t0,t1,hs,hx,hi,aF.size,hb,hlen,hf,ss,hz,qN,B9,hg,Qb,if_true,if_false,and_self,Bool.false_eq_true,Nat.zero_mul,Nat.add_zero,Nat.zero_add,List.length_nil,Nat.le_refl]
     rw[if_pos ⟨ZX m.length o!,trivial,fun e=>e.elim⟩]
     simp only[List.drop_nil,List.take_nil,List.nil_append,n]
 · have hlp:0<l.length:=List.length_pos_iff.2 hn
   have hpx:=y _ _ hg
   have Qj:=dc aF.len l
   by_cases hm:m=[]
   · subst hm
     simp only[List.length_nil,List.flatMap_nil,Nat.zero_mul] at hlen hf qN B9
     obtain ⟨q1,q2,q3⟩:=xC hg
     rw[List.append_nil]
     refine ⟨_,_,?_,q1,Nat.le_refl _,q2,.inr ⟨hn,p,op,rfl,hp,q3 _ _ hg⟩,fun i w _ g=>q3 i w g⟩
     simp only[bX,t0,t1,hs,hx,hi,aF.size,hb,hlen,hf,ss,hz,qN,B9,hg,Qj,if_true,if_false,and_self,List.length_nil,Bool.false_eq_true,Nat.zero_mul,Nat.add_zero,Nat.zero_add,Nat.le_refl,List.flatMap_nil,setFrom]
   · have hm0:0<m.length:=List.length_pos_iff.2 hm
     have y2:Tidy (if op then h.put p none else h):=by
      cases op with
      | false=>exact y
      | true=>
        intro i x g
        show i<h.nx
        by_cases hi:i=p
        · subst hi;exact hpx
        · rw[if_pos rfl,aA.bB (Ne.symm hi)] at g;exact y i x g
     have n2:(if op then h.put p none else h).nx=h.nx:=by cases op<;>rfl
     have k2:∀i w,i≠p→h.get i=some w→(if op then h.put p none else h).get i=some w:=fun i w hi g=>by
      cases op with
      | false=>exact g
      | true=>rw[if_pos rfl,aA.bB (Ne.symm hi)];exact g
     obtain ⟨h',n⟩:=nL (h:=if op then h.put p none else h) (.cells (l.flatMap aF.c++m.flatMap aF.c) (aF.e α) false)
     have hk:∀i w,i≠p→h.get i=some w→h'.get i=some w:=fun i w hi g=>hJ y2 n (k2 i w hi g)
     have hc:¬l.length+m.length≤l.length:=by omega
     refine ⟨.slice h.nx 0 (l.length+m.length) (l.length+m.length) true,h',?_,hQ y2 n,by rw[mI n,n2];omega,fun i w g=>?_,.inr ⟨by simp [hn],h.nx,true,by rw[List.length_append],hle,by rw[List.flatMap_append,←n2];exact km n⟩,fun i w q g=>hk i w (fun e=>q 0 l.length l.length op (by subst e;rfl)) g⟩
     · simp only[bX,t0,t1,hs,hx,hi,aF.size,hb,hlen,hf,ss,hz,qN,B9,hg,hc,if_true,if_false,and_self,Bool.false_eq_true]
       rw[if_pos ⟨ZX _ hl,by rw[Qj];omega,fun _=>⟨trivial,by rw[Qj];omega,trivial⟩⟩]
       rw[List.drop_zero,List.take_of_length_le (by rw[Qj];exact Nat.le_refl _),n]
     · have:=y0 _ _ g
       exact hk i w o! (a i w g)
theorem bH.app {s xt:TypeId} {tys:Array TypeId} {bytes:Nat} {z0 x:AV} (y:Tidy h) (y0:Tidy h0) (a:Has h0 h) (hle:h0.nx≤h.nx) (o:bH h0 h z l) (hlen:nE x=some m.length) (hf:fj h (aF.n α) m.length x=some (m.flatMap aF.c)) (qN:(m.flatMap aF.c).all AV.scalar=true) (hl:l.length+m.length≤1000000000)
 (t0:tys[0]? =some s) (t1:tys[1]? =some xt) (hs:env.P.underlying s=some (.slice (aF.e α))) (hx:env.P.underlying xt=some (.slice (aF.e α))) (hb:fQ env (aF.e α)=some bytes) (ss:fC env (aF.e α)=some z0) (hz:z0.cells.length=aF.n α) (h8:bytes≤255):
 ∃z' h',bX env h tys z x=some (z',h')∧Tidy h'∧h.nx≤h'.nx∧Has h0 h'∧bH h0 h' z' (l++m)∧∀i w,b6 z i→h.get i=some w→h'.get i=some w:=
 bH.afD y y0 a hle o hlen hf qN hl t0 t1 hs hx hb ss hz fun k hk=>Nat.le_trans (Nat.mul_le_mul (show 4*k+4096≤4294967296 by omega) (show bytes+1≤256 by omega)) (by decide)
theorem ok_one {x:α} (o:aF.ok h x):∀y∈ [x],aF.ok h y:=fun y hy=>by
 rw[List.mem_singleton] at hy;subst hy;exact o
theorem mJ (a:∀y∈l,aF.ok h y) (b:∀y∈m,aF.ok h y):∀y∈l++m,aF.ok h y:=fun y hy=>(List.mem_append.1 hy).elim (a y) (b y)
theorem WM (g:Has h h') (a:∀y∈l,aF.ok h y):∀y∈l,aF.ok h' y:=fun y hy=>aF.mono g (a y hy)
class Flat (α:Type) [aF α]:Prop where
 free:∀{h h':aA} {x:α},aF.ok h x→aF.ok h' x
theorem eP {D:Type} [aF D] [Flat D] {h h':aA} {l:List D} (a:∀y∈l,aF.ok h y):∀y∈l,aF.ok h' y:=fun y hy=>Flat.free (a y hy)
theorem zZ {v:AV} (x:aY h v l) (sc:∀y∈l,(aF.c y).all AV.scalar=true):(l.flatMap aF.c).all AV.scalar=true:=by
 rw[List.all_eq_true]
 intro z hz
 obtain ⟨y,hy,hzy⟩:=List.mem_flatMap.1 hz
 exact List.all_eq_true.1 (sc y hy) z hzy
theorem aY.nE {v:AV} (x:aY h v l):nE v=some l.length:=by
 have hl:=x.at_.lens
 rcases x.known with rfl | rfl | ⟨p,o,m,c,b,rfl,_⟩
 · rw[xp] at hl
   simp only[Option.some.injEq,AV.int.injEq,true_and] at hl
   rw[show l.length=0 by omega];rfl
 · rw[ZO] at hl
   simp only[Option.some.injEq,AV.int.injEq,true_and] at hl
   rw[show l.length=0 by omega];rfl
 · rw[jT] at hl
   simp only[Option.some.injEq,AV.int.injEq,true_and] at hl
   rw[show l.length=m by omega];rfl
theorem aY.first {v:AV} (x:aY h v l):fj h (aF.n α) l.length v=some (l.flatMap aF.c):=by
 by_cases hl:l=[]
 · subst hl
   rcases x.known with rfl | rfl | ⟨p,o,m,c,b,rfl,_⟩<;>simp [fj]
 · have hlp:0<l.length:=List.length_pos_iff.2 hl
   have Qj:=dc aF.len l
   rcases x.at_.block with h0 | ⟨p,o,m,c,b,C,f,ro,h1,_,h2,h3⟩
   · omega
   · subst h1
     have hm:m=l.length:=by
      have:=x.at_.lens
      rw[jT] at this
      simp only[Option.some.injEq,AV.int.injEq,true_and] at this
      omega
     subst hm
     have hC:o+l.length*aF.n α≤C.length:=by
      rcases Nat.eq_zero_or_pos (l.length*aF.n α) with h0 | h0
      · have:=Nat.mul_pos hlp (aF.pos (α:=α));omega
      · have:=h3 (l.length*aF.n α - 1) o!
        rw[List.getElem?_eq_getElem (by omega:l.length*aF.n α - 1<(l.flatMap aF.c).length)] at this
        have:=(List.getElem?_eq_some_iff.1 this).1
        omega
     simp only[fj,Nat.le_refl,if_true,if_false,show ¬l.length=0 by omega,h2,hC]
     congr 1
     apply List.ext_getElem?
     intro j
     by_cases hj:j<l.length*aF.n α
     · rw[List.getElem?_take_of_lt hj,List.getElem?_drop,h3 j o!]
     · rw[List.getElem?_eq_none (by rw[List.length_take];omega),List.getElem?_eq_none o!]
theorem jk {i:Nat} {b:Bool} {x:α} {e:TypeId} {ro:Bool} (hg:h.get i=some (.cells (aF.c x) e ro)):fj h (aF.n α) [x].length (.slice i 0 1 1 b)=some ([x].flatMap aF.c):=by
 have:=aF.len x
 simp only[fj,List.length_singleton,Nat.le_refl,if_true,hg,Nat.one_ne_zero,if_false,Nat.one_mul,Nat.zero_add,this,List.drop_zero,List.flatMap_cons,List.flatMap_nil,List.append_nil]
 rw[List.take_of_length_le o!]
theorem bH.rows (o:bH h0 h z l) (hl:l.length<2^60) (hk:∀x∈l,aF.ok h x):aY h z l:=by
 rcases o with ⟨rfl | ⟨p,rfl,h1,h2⟩,rfl⟩ | ⟨hn,p,op,rfl,h1,g⟩
 · exact ⟨⟨aF.size,(Nat.zero_mul _).symm,hl,rfl,.inl rfl⟩,.inl rfl,hk⟩
 · exact ⟨⟨aF.size,(Nat.zero_mul _).symm,hl,rfl,.inl rfl⟩,.inr (.inr ⟨_,_,_,_,_,rfl,fun e=>by cases e⟩),hk⟩
 · have:=List.length_pos_iff.2 hn
   exact ⟨⟨aF.size,dc aF.len l,hl,rfl,.inr ⟨p,0,_,_,op,_,_,_,rfl,Nat.le_refl _,g,fun j _=>by rw[Nat.zero_add]⟩⟩,.inr (.inr ⟨_,_,_,_,_,rfl,fun _=>this⟩),hk⟩
end
structure Span where
 ay:Int
 aq:Int
@[reducible] def Span.c (x:Span):List AV:=[.int .i64 x.ay,.int .i64 x.aq]
def Span.ok (h:aA) (x:Span):Prop:=True
def Span.eq (x y:Span):Bool:=(x.ay==y.ay)&&(x.aq==y.aq)
theorem Span.deep (x y:Span):je env 16 23 (.agg (Span.c x)) (.agg (Span.c y))=some (Span.eq x y):=by
 have e:je env 16 23 (.agg (Span.c x)) (.agg (Span.c y))=(match some (x.ay==y.ay) with | some true=>(match some (x.aq==y.aq) with | some true=>some true | some false=>some false | none=>none) | some false=>some false | none=>none):=by kernel_rfl
 rw[e,Span.eq]
 cases (x.ay==y.ay)<;>try rfl
 cases (x.aq==y.aq)<;>try rfl
theorem Span.eql (x y:Span) {a b:Bool}:cy env .eql 23 a b (some (.agg (Span.c x))) (some (.agg (Span.c y)))=some (.bool (Span.eq x y)):=by
 show (if env.P.eqGuardType env.P.depth 23 then none else (match je env 16 23 (.agg (Span.c x)) (.agg (Span.c y)) with | some r=>some (AV.bool (r)) | none=>none))=_
 rw[show env.P.eqGuardType env.P.depth 23=false by kernel_rfl,Span.deep];rfl
theorem Span.neq (x y:Span) {a b:Bool}:cy env .neq 23 a b (some (.agg (Span.c x))) (some (.agg (Span.c y)))=some (.bool (!Span.eq x y)):=by
 show (if env.P.eqGuardType env.P.depth 23 then none else (match je env 16 23 (.agg (Span.c x)) (.agg (Span.c y)) with | some r=>some (AV.bool (!r)) | none=>none))=_
 rw[show env.P.eqGuardType env.P.depth 23=false by kernel_rfl,Span.deep];rfl
instance:aF Span where
 default:=⟨0,0⟩
 c:=Span.c
 n:=2
 e:=23
 len _:=rfl
 ok:=Span.ok
 mono a o:=o
 size:=by kernel_rfl
 agg:=by kernel_rfl
 pos:=by decide
theorem Span.sc {h:aA} {x:Span} (o:Span.ok h x):(Span.c x).all AV.scalar=true:=by
 rfl
instance:Flat Span where
 free o:=o
structure bV where
 name:List UInt8
 acc:Int
 bQ:Int
 since:Int
@[reducible] def bV.c (x:bV):List AV:=[.str x.name,.int .i64 x.acc,.int .i64 x.bQ,.int .i64 x.since]
def bV.ok (h:aA) (x:bV):Prop:=x.name.length<2^60
def bV.eq (x y:bV):Bool:=(x.name==y.name)&&(x.acc==y.acc)&&(x.bQ==y.bQ)&&(x.since==y.since)
theorem bV.deep (x y:bV):je env 16 45 (.agg (bV.c x)) (.agg (bV.c y))=some (bV.eq x y):=by
 have e:je env 16 45 (.agg (bV.c x)) (.agg (bV.c y))=(match some (x.name==y.name) with | some true=>(match some (x.acc==y.acc) with | some true=>(match some (x.bQ==y.bQ) with | some true=>(match some (x.since==y.since) with | some true=>some true | some false=>some false | none=>none) | some false=>some false | none=>none) | some false=>some false | none=>none) | some false=>some false | none=>none):=by kernel_rfl
 rw[e,bV.eq]
 cases (x.name==y.name)<;>try rfl
 cases (x.acc==y.acc)<;>try rfl
 cases (x.bQ==y.bQ)<;>try rfl
 cases (x.since==y.since)<;>try rfl
theorem bV.eql (x y:bV) {a b:Bool}:cy env .eql 45 a b (some (.agg (bV.c x))) (some (.agg (bV.c y)))=some (.bool (bV.eq x y)):=by
 show (if env.P.eqGuardType env.P.depth 45 then none else (match je env 16 45 (.agg (bV.c x)) (.agg (bV.c y)) with | some r=>some (AV.bool (r)) | none=>none))=_
 rw[show env.P.eqGuardType env.P.depth 45=false by kernel_rfl,bV.deep];rfl
theorem bV.neq (x y:bV) {a b:Bool}:cy env .neq 45 a b (some (.agg (bV.c x))) (some (.agg (bV.c y)))=some (.bool (!bV.eq x y)):=by
 show (if env.P.eqGuardType env.P.depth 45 then none else (match je env 16 45 (.agg (bV.c x)) (.agg (bV.c y)) with | some r=>some (AV.bool (!r)) | none=>none))=_
 rw[show env.P.eqGuardType env.P.depth 45=false by kernel_rfl,bV.deep];rfl
instance:aF bV where
 default:=⟨[],0,0,0⟩
 c:=bV.c
 n:=4
 e:=45
 len _:=rfl
 ok:=bV.ok
 mono a o:=o
 size:=by kernel_rfl
 agg:=by kernel_rfl
 pos:=by decide
theorem bV.sc {h:aA} {x:bV} (o:bV.ok h x):(bV.c x).all AV.scalar=true:=by
 rfl
instance:Flat bV where
 free o:=o
structure aD where
 name:List UInt8
 ai:Int
 af:Int
 aH:Int
 aI:Int
 bad:Int
 az:AV
 aC:List bV
@[reducible] def aD.c (x:aD):List AV:=[.str x.name,.int .i64 x.ai,.int .i64 x.af,.int .i64 x.aH,.int .i64 x.aI,.int .i64 x.bad,x.az]
def aD.ok (h:aA) (x:aD):Prop:=x.name.length<2^60∧aY h x.az x.aC
instance:aF aD where
 default:=⟨[],0,0,0,0,0,.aP,[]⟩
 c:=aD.c
 n:=7
 e:=26
 len _:=rfl
 ok:=aD.ok
 mono a o:=⟨o.1,(o.2).has a⟩
 size:=by kernel_rfl
 agg:=by kernel_rfl
 pos:=by decide
theorem aD.sc {h:aA} {x:aD} (o:aD.ok h x):(aD.c x).all AV.scalar=true:=by
 simp only[aD.c,List.all_cons,List.all_nil,(show AV.scalar x.az=true from (o.2).scalar),Bool.true_and]<;>rfl
structure aK where
 aL:Int
 time:Int
 value:Int
@[reducible] def aK.c (x:aK):List AV:=[.int .i64 x.aL,.int .i64 x.time,.int .i64 x.value]
def aK.ok (h:aA) (x:aK):Prop:=True
def aK.eq (x y:aK):Bool:=(x.aL==y.aL)&&(x.time==y.time)&&(x.value==y.value)
theorem aK.deep (x y:aK):je env 16 43 (.agg (aK.c x)) (.agg (aK.c y))=some (aK.eq x y):=by
 have e:je env 16 43 (.agg (aK.c x)) (.agg (aK.c y))=(match some (x.aL==y.aL) with | some true=>(match some (x.time==y.time) with | some true=>(match some (x.value==y.value) with | some true=>some true | some false=>some false | none=>none) | some false=>some false | none=>none) | some false=>some false | none=>none):=by kernel_rfl
 rw[e,aK.eq]
 cases (x.aL==y.aL)<;>try rfl
 cases (x.time==y.time)<;>try rfl
 cases (x.value==y.value)<;>try rfl
theorem aK.eql (x y:aK) {a b:Bool}:cy env .eql 43 a b (some (.agg (aK.c x))) (some (.agg (aK.c y)))=some (.bool (aK.eq x y)):=by
 show (if env.P.eqGuardType env.P.depth 43 then none else (match je env 16 43 (.agg (aK.c x)) (.agg (aK.c y)) with | some r=>some (AV.bool (r)) | none=>none))=_
 rw[show env.P.eqGuardType env.P.depth 43=false by kernel_rfl,aK.deep];rfl
theorem aK.neq (x y:aK) {a b:Bool}:cy env .neq 43 a b (some (.agg (aK.c x))) (some (.agg (aK.c y)))=some (.bool (!aK.eq x y)):=by
 show (if env.P.eqGuardType env.P.depth 43 then none else (match je env 16 43 (.agg (aK.c x)) (.agg (aK.c y)) with | some r=>some (AV.bool (!r)) | none=>none))=_
 rw[show env.P.eqGuardType env.P.depth 43=false by kernel_rfl,aK.deep];rfl
instance:aF aK where
 default:=⟨0,0,0⟩
 c:=aK.c
 n:=3
 e:=43
 len _:=rfl
 ok:=aK.ok
 mono a o:=o
 size:=by kernel_rfl
 agg:=by kernel_rfl
 pos:=by decide
theorem aK.sc {h:aA} {x:aK} (o:aK.ok h x):(aK.c x).all AV.scalar=true:=by
 rfl
instance:Flat aK where
 free o:=o
structure Gate where
 time:Int
 aw:Int
 ar:Int
@[reducible] def Gate.c (x:Gate):List AV:=[.int .i64 x.time,.int .i64 x.aw,.int .i64 x.ar]
def Gate.ok (h:aA) (x:Gate):Prop:=True
instance:aF Gate where
 default:=⟨0,0,0⟩
 c:=Gate.c
 n:=3
 e:=66
 len _:=rfl
 ok:=Gate.ok
 mono a o:=o
 size:=by kernel_rfl
 agg:=by kernel_rfl
 pos:=by decide
theorem Gate.sc {h:aA} {x:Gate} (o:Gate.ok h x):(Gate.c x).all AV.scalar=true:=by
 rfl
instance:Flat Gate where
 free o:=o
structure bC where
 time:Int
 aw:Int
 ar:Int
@[reducible] def bC.c (x:bC):List AV:=[.int .i64 x.time,.int .i64 x.aw,.int .i64 x.ar]
def bC.ok (h:aA) (x:bC):Prop:=True
instance:aF bC where
 default:=⟨0,0,0⟩
 c:=bC.c
 n:=3
 e:=77
 len _:=rfl
 ok:=bC.ok
 mono a o:=o
 size:=by kernel_rfl
 agg:=by kernel_rfl
 pos:=by decide
theorem bC.sc {h:aA} {x:bC} (o:bC.ok h x):(bC.c x).all AV.scalar=true:=by
 rfl
instance:Flat bC where
 free o:=o
theorem DS {p:Prop} [Decidable p] (h:(!decide p)=true):¬p:=by intro q;rw[decide_eq_true q] at h;cases h
theorem DT {p:Prop} [Decidable p] (h:(!decide p)=false):p:=by by_cases q:p;exact q;rw[decide_eq_false q] at h;cases h
def bs (l:List Bool):List AV:=l.map AV.bool
theorem ZY (l:List Bool):(bs l).length=l.length:=by simp [bs]
theorem Z0 (l:List Bool) {i:Nat} (hi:i<l.length):(bs l)[i]? =some (.bool (l.g i)):=by
 rw[bs,List.getElem?_map,List.getElem?_eq_getElem hi,List.g,List.getD_eq_getElem?_getD,List.getElem?_eq_getElem hi];rfl
section
variable {h:aA} {t e:TypeId} {p i n:Nat}
end
structure DU (h:aA) (e:TypeId) (v:AV) (l:List Bool):Prop where
 at_:oa env h e 1 v l.length (bs l)
 agg:fD env e=some false
section
variable {h h':aA} {e:TypeId} {v:AV} {l:List Bool}
theorem DU.scalar (x:DU h e v l):AV.scalar v=true:=by
 have q:=x.at_.lens
 cases v<;>first | rfl | (exfalso;revert q;simp [dy])
theorem lY {v:AV} (x:AV.scalar v=true):AV.cells v=[v]:=by
 cases v<;>first | rfl | cases x
theorem DU.small (x:DU h e v l):l.length<2^60:=x.at_.small
theorem DU.elem (x:DU h e v l) {i:Nat} (hi:i<l.length):∃p q,cK env (some (.slice e)) (some v) (some (.int .i64 ((i:Nat):Int)))=some (.ptr p q)∧bk env h e (.ptr p q)=some (.bool (l.g i)):=x.at_.elem x.agg (Z0 l hi)
theorem DU.load (x:DU h e v l) {i p q:Nat} (hi:i<l.length) (hx:cK env (some (.slice e)) (some v) (some (.int .i64 ((i:Nat):Int)))=some (.ptr p q)):bk env h e (.ptr p q)=some (.bool (l.g i)):=by
 obtain ⟨p',q',h1,h2⟩:=x.elem hi
 rw[hx] at h1
 simp only[Option.some.injEq,AV.ptr.injEq] at h1
 obtain ⟨rfl,rfl⟩:=h1
 exact h2
theorem DU.own {p n:Nat} {op ro:Bool} {f:TypeId} (hs:ch env e=some 1) (ha:fD env e=some false) (hg:h.get p=some (.cells (bs l) f ro)) (hn:l.length=n) (h60:n<2^60):DU h e (.slice p 0 n n op) l:=by
 subst hn
 exact ⟨⟨hs,by rw[ZY];omega,h60,rfl,.inr ⟨p,0,_,_,op,_,_,_,rfl,Nat.le_refl _,hg,fun j _=>by rw[Nat.zero_add]⟩⟩,ha⟩
theorem gO.own {k:IntKind} {p n:Nat} {op ro:Bool} {f:TypeId} {l:List Int} (hs:ch env e=some 1) (ha:fD env e=some false) (hg:h.get p=some (.cells (zs k l) f ro)) (hn:l.length=n) (h60:n<2^60):gO h k e (.slice p 0 n n op) l:=by
 subst hn
 exact ⟨⟨hs,by rw[oW];omega,h60,rfl,.inr ⟨p,0,_,_,op,_,_,_,rfl,Nat.le_refl _,hg,fun j _=>by rw[Nat.zero_add]⟩⟩,ha,.inr (.inr ⟨_,_,_,_,_,rfl⟩)⟩
end
def lE {σ ρ:Type} (call:bh) (b:Code) (s:St) (ex:iB) (hh:aA) (tn:σ→AV→(Nat→AV)→List AV) (tr:ρ→AV→(Nat→AV)→List AV) (Qn:σ→AV→aA→Prop) (Qr:ρ→AV→aA→Prop):σ ⊕ ρ→Prop
 | .inl v=>∃z y hk,Ev env call (.loop b) s ex ⟨tn v z y,hk,[],.no⟩∧Tidy hk∧hh.nx≤hk.nx∧Qn v z hk
 | .inr r=>∃z y hk,Ev env call (.loop b) s .ret ⟨tr r z y,hk,[],.no⟩∧Tidy hk∧hh.nx≤hk.nx∧Qr r z hk
section
variable {σ ρ:Type} {call:bh} {b:Code} {s:St} {ex:iB} {hh hk:aA} {tn:σ→AV→(Nat→AV)→List AV} {tr:ρ→AV→(Nat→AV)→List AV} {Qn:σ→AV→aA→Prop} {Qr:ρ→AV→aA→Prop}
theorem lE.n {o:σ ⊕ ρ} {v:σ} (e:o= .inl v) (x:lE call b s ex hh tn tr Qn Qr o):∃z y hk,Ev env call (.loop b) s ex ⟨tn v z y,hk,[],.no⟩∧Tidy hk∧hh.nx≤hk.nx∧Qn v z hk:=by subst e;exact x
theorem lE.r {o:σ ⊕ ρ} {r:ρ} (e:o= .inr r) (x:lE call b s ex hh tn tr Qn Qr o):∃z y hk,Ev env call (.loop b) s .ret ⟨tr r z y,hk,[],.no⟩∧Tidy hk∧hh.nx≤hk.nx∧Qr r z hk:=by subst e;exact x
theorem lE.out {i:Nat} {L:List AV} {o:σ ⊕ ρ} (v:σ) (z:AV) (e:o= .inl v) (ev:Ev env call b s (.exit i) ⟨L,hk,[],.no⟩) (y1:Tidy hk) (n1:hh.nx≤hk.nx) (q:Qn v z hk) (hl:L=tn v z fun k=>L.getD k AV.undef):lE call b s (.exit i) hh tn tr Qn Qr o:=by
 subst e
 obtain ⟨y,x⟩:=xw (tmpl:=tn v z) (Ev.out ev) hl
 exact ⟨z,y,hk,x,y1,n1,q⟩
theorem lE.ret {L:List AV} {o:σ ⊕ ρ} (r:ρ) (z:AV) (e:o= .inr r) (ev:Ev env call b s .ret ⟨L,hk,[],.no⟩) (y1:Tidy hk) (n1:hh.nx≤hk.nx) (q:Qr r z hk) (hl:L=tr r z fun k=>L.getD k AV.undef):lE call b s ex hh tn tr Qn Qr o:=by
 subst e
 obtain ⟨y,x⟩:=xw (tmpl:=tr r z) (Ev.ret ev) hl
 exact ⟨z,y,hk,x,y1,n1,q⟩
theorem lE.round {L:List AV} {o o':σ ⊕ ρ} (e:o=o') (ev:Ev env call b s .normal ⟨L,hk,[],.no⟩) (n1:hh.nx≤hk.nx) (s7:(Nat→AV)→List AV) (hl:L=s7 fun k=>L.getD k AV.undef) (ih:∀x,lE call b ⟨s7 x,hk,[],.no⟩ ex hk tn tr Qn Qr o'):lE call b s ex hh tn tr Qn Qr o:=by
 subst e
 have q:=ih fun k=>L.getD k AV.undef
 rw[←hl] at q
 cases o with
 | inl v=>obtain ⟨z,y,h2,x,y1,n2,g⟩:=q;exact ⟨z,y,h2,Ev.loop ev x,y1,Nat.le_trans n1 n2,g⟩
 | inr r=>obtain ⟨z,y,h2,x,y1,n2,g⟩:=q;exact ⟨z,y,h2,Ev.loop ev x,y1,Nat.le_trans n1 n2,g⟩
end
theorem dk.B_ {k:IntKind} {e s xt:TypeId} {g h:aA} {tys:Array TypeId} {bytes b:Nat} {z0 z:AV} {L:List Int} {v:Int} {f:TypeId} {ro op:Bool} (y:Tidy h) (hle:g.nx≤h.nx) (o:dk e g h z (aG.zs k L)) (hg:h.get b=some (.cells [.int k v] f ro)) (hl:L.length≤1000000000) (t0:tys[0]? =some s) (t1:tys[1]? =some xt) (hs:env.P.underlying s=some (.slice e)) (hx:env.P.underlying xt=some (.slice e)) (H4:ch env e=some 1) (hb:fQ env e=some bytes) (ss:fC env e=some z0) (hz:z0.cells.length=1) (h8:bytes≤63):
 ∃z' h',bX env h tys z (.slice b 0 1 1 op)=some (z',h')∧Tidy h'∧h.nx≤h'.nx∧(∀i w,i<g.nx→h.get i=some w→h'.get i=some w)∧dk e g h' z' (aG.zs k (L++[v])):=by
 rw[Nx]
 have Qh:(aG.zs k L).length≤1000000000:=by rw[oW];exact hl
 rcases o with ⟨rfl,e0⟩ | ⟨hn,p,op',rfl,hp,hgp⟩
 · rw[e0]
   obtain ⟨h',e1,n⟩:=s9 (h:=h) (M:=[.int k v]) t0 t1 hs hx rfl H4 hb ss hz h8 GO (zg hg) rfl (by simp) (by simp)
   have:=mI n
   exact ⟨_,h',e1,hQ y n,by omega,fun i w _ q=>hJ y n q,.inr ⟨by simp,h.nx,true,by simp,hle,km n⟩⟩
 · obtain ⟨h',e1,y1,z1,k1,g1⟩:=s_ (op:=op') (M:=[.int k v]) y t0 t1 hs hx rfl H4 hb ss hz h8 GO (zg hg) rfl rfl (by simp) (by simp;omega) hgp
   exact ⟨_,h',e1,y1,by omega,fun i w hi q=>k1 i w o! q,.inr ⟨by simp,h.nx,true,by rw[List.length_append],hle,g1⟩⟩
theorem dk.Yd {e:TypeId} {h0 h:aA} {z:AV} {L:List AV} {n:Nat} (o:dk e h0 h z L) (v:AV.within h0.nx (n+1) z=true):dk e h0 h0 z L:=by
 rcases o with ⟨rfl,e0⟩ | ⟨hn,p,op,rfl,hp,hg⟩
 · exact .inl ⟨rfl,e0⟩
 · have:=of_decide_eq_true (show decide (p<h0.nx)=true from v)
   omega
theorem Ev.to {call:bh} {b:Code} {s:St} {e:iB} {L L':List AV} {hk:aA} (ev:Ev env call b s e ⟨L,hk,[],.no⟩) (hl:L=L'):Ev env call b s e ⟨L',hk,[],.no⟩:=hl▸ev
theorem Sz {v:AV} (h:AV.scalar v=true):v.cells=[v]:=by cases v<;>first | rfl | cases h
theorem acQ {h:aA} {t e:TypeId} {i o:Nat} {cs N:List AV} {v:AV} (y:Tidy h) (gg:h.get i=some (.cells cs e false)) (hs:ch env t=some 1) (hk:AV.scalar v=true) (hl:Nat.ble (o+1) cs.length=true) (hN:setFrom cs o [v]=N):∃h',fE env h t (.ptr i o) v=some h'∧Tidy h'∧h'.nx=h.nx∧h'.get i=some (.cells N e false)∧Kept i h h':=by
 have c:=Sz hk
 exact AE y gg hs (by rw[c];rfl) hl (by rw[c];exact hN) (by rw[c];simp [hk])
theorem hS {f:FuncId} {fn:Func} {c:Code} {args X9 ts:List AV} {h h':aA} {call:bh} {x:iB} {v:AV} {a:Tmp} {t:TypeId} {i:Nat} (hf:env.P.funcs[f]? =some fn) (hb:fn.body=some c) (ht:args++List.replicate (fn.ntmps - args.length) AV.undef=X9) (hx:x= .normal∨x= .ret)
 (e:Ev env call c ⟨X9,h,[],.no⟩ x ⟨ts,h',[],.no⟩) (hrs:(fn.results.toList,ts.getD a AV.undef)=([.cell a t],AV.ptr i 0)) (hl:bk env h' t (.ptr i 0)=some v):uJ env call f args h v h':=by
 refine ba hf hb ht hx e ?_
 rw[show fn.results.toList=[.cell a t] from congrArg Prod.fst hrs]
 simp only[jL,show ts.getD a AV.undef= .ptr i 0 from congrArg (fun q=>q.2) hrs,hl,Option.map_some]
 rfl
section
variable {α:Type} [aF α]
theorem bH.B' {h0 h:aA} {z:AV} {l:List α} {n:Nat} (o:bH h0 h z l) (v:AV.within h0.nx (n+1) z=true):aY h0 z l:=by
 have nl:∀z,(z= .aP∨∃p,z=AV.slice p 0 0 0 false∧h0.nx≤p)→AV.within h0.nx (n+1) z=true→aY h0 z ([]:List α):=fun z hz v=>by
  rcases hz with rfl | ⟨p,rfl,hp⟩
  · exact ⟨⟨aF.size,(Nat.zero_mul _).symm,(show (0:Nat)<2^60 by decide),rfl,.inl rfl⟩,.inl rfl,fun _ hx=>by cases hx⟩
  · have:=of_decide_eq_true (show decide (p<h0.nx)=true from v)
    omega
 rcases o with ⟨rfl | ⟨p,rfl,h1,h2⟩,rfl⟩ | ⟨hn,p,op,rfl,hp,hg⟩
 · exact nl _ (.inl rfl) v
 · exact nl _ (.inr ⟨p,rfl,h1⟩) v
 · have:=of_decide_eq_true (show decide (p<h0.nx)=true from v)
   omega
theorem bH.le {h0 h1 h:aA} {z:AV} {l:List α} (o:bH h1 h z l) (hn:h0.nx≤h1.nx):bH h0 h z l:=by
 rcases o with ⟨rfl | ⟨p,rfl,h1,h2⟩,rfl⟩ | ⟨eF,p,op,e,h1,g⟩
 · exact .inl ⟨.inl rfl,rfl⟩
 · exact .inl ⟨.inr ⟨p,rfl,by omega,h2⟩,rfl⟩
 · exact .inr ⟨eF,p,op,e,by omega,g⟩
def ta {σ:Type} (call:bh) (b:Code) (s:St) (ex:iB) (h:aA) (tn:σ→AV→(Nat→AV)→List AV) (own:σ→List α) (N:Nat) (r:σ):Prop:=∃z y hk,Ev env call (.loop b) s ex ⟨tn r z y,hk,[],.no⟩∧Grow h hk∧bH h hk z (own r)∧(∀y∈own r,aF.ok hk y)∧(own r).length≤N
variable {σ:Type} {call:bh} {b:Code} {s:St} {ex:iB} {h hk:aA} {tn:σ→AV→(Nat→AV)→List AV} {own:σ→List α} {N:Nat}
theorem ta.out {i:Nat} {L:List AV} {o:σ} (r:σ) (z:AV) (e1:o=r) (ev:Ev env call b s (.exit i) ⟨L,hk,[],.no⟩) (G:Grow h hk) (oz:bH h hk z (own r)) (ok:∀y∈own r,aF.ok hk y) (ln:(own r).length≤N) (hl:L=tn r z fun k=>L.getD k AV.undef):ta call b s (.exit i) h tn own N o:=by
 subst e1
 obtain ⟨y,q⟩:=xw (tmpl:=tn o z) (Ev.out ev) hl
 exact ⟨z,y,hk,q,G,oz,ok,ln⟩
theorem ta.round {L:List AV} {o o':σ} (e1:o=o') (ev:Ev env call b s .normal ⟨L,hk,[],.no⟩) (s7:(Nat→AV)→List AV) (hl:L=s7 fun k=>L.getD k AV.undef) (ih:∀x,ta call b ⟨s7 x,hk,[],.no⟩ ex h tn own N o'):ta call b s ex h tn own N o:=by
 subst e1
 have q:=ih fun k=>L.getD k AV.undef
 rw[←hl] at q
 obtain ⟨z,y,h2,x,g,oz,ok,ln⟩:=q;exact ⟨z,y,h2,Ev.loop ev x,g,oz,ok,ln⟩
end
section
variable {α:Type} [aF α]
theorem SB {l:List α} {i:Nat} (h:i<l.length) (x:α):(l.set i x).g i=x:=by
 rw[List.g,List.getD_eq_getElem?_getD,List.getElem?_set_self h];rfl
theorem SC {l:List α} {i j:Nat} (h:i≠j) (x:α):(l.set i x).g j=l.g j:=by
 rw[List.g,List.g,List.getD_eq_getElem?_getD,List.getD_eq_getElem?_getD,List.getElem?_set_ne h]
theorem xD {l:List α} {i:Nat} (h:i<l.length) (x:α):setFrom (l.flatMap aF.c) (i*aF.n α) (aF.c x)=(l.set i x).flatMap aF.c:=by
 have hn:0<aF.n α:=aF.pos
 have hl:=dc aF.len l
 have Qh:=dc aF.len (l.set i x)
 rw[List.length_set] at Qh
 have hx:=aF.len x
 apply List.ext_getElem?
 intro k
 rw[fX,hx,hl]
 have hk:k=k/aF.n α*aF.n α+k%aF.n α:=by rw[Nat.mul_comm];exact (Nat.div_add_mod k _).symm
 have hr:=Nat.mod_lt k hn
 generalize k/aF.n α=q at hk
 generalize k%aF.n α=r at hk hr
 by_cases hq:q<l.length
 · have h1:=jU aF.len l q r hq hr
   have h2:=jU aF.len (l.set i x) q r (by rw[List.length_set];exact hq) hr
   subst hk
   by_cases e:q=i
   · subst e
     have:q*aF.n α+aF.n α≤l.length*aF.n α:=by rw[←Nat.succ_mul];exact Nat.mul_le_mul_right _ hq
     rw[if_pos ⟨by omega,by omega,by omega⟩,h2,SB hq,Nat.add_sub_cancel_left]
   · rw[if_neg,h1,h2,SC (Ne.symm e)]
     intro ⟨a,b,c⟩
     rcases Nat.lt_or_gt_of_ne e with e | e
     · have:q*aF.n α+aF.n α≤i*aF.n α:=by rw[←Nat.succ_mul];exact Nat.mul_le_mul_right _ e
       omega
     · have:i*aF.n α+aF.n α≤q*aF.n α:=by rw[←Nat.succ_mul];exact Nat.mul_le_mul_right _ e
       omega
 · have:l.length*aF.n α≤q*aF.n α:=Nat.mul_le_mul_right _ o!
   rw[if_neg o!,List.getElem?_eq_none o!,List.getElem?_eq_none o!]
theorem bH.at {h0 h:aA} {z:AV} {l:List α} (y:Tidy h) (y0:Tidy h0) (a:Has h0 h) (o:bH h0 h z l) {i:Nat} (hi:i<l.length):
 ∃p,cK env (some (.slice (aF.e α))) (some z) (some (.int .i64 ((i:Nat):Int)))=some (.ptr p (i*aF.n α))∧
  ∀x:α,(aF.c x).all AV.scalar=true→∃h',fE env h (aF.e α) (.ptr p (i*aF.n α)) (.agg (aF.c x))=some h'∧Tidy h'∧h'.nx=h.nx∧bH h0 h' z (l.set i x)∧Has h0 h':=by
 rcases o with ⟨_,rfl⟩ | ⟨hn,p,op,rfl,hp,hg⟩
 · simp at hi
 · have ix:=cA (E:=env) (i:=p) (o:=0) (c:=l.length) (b:=op) (aF.size (α:=α)) hi
   rw[Nat.zero_add] at ix
   refine ⟨p,ix,fun x hx=>?_⟩
   have hl:=dc aF.len l
   have hb:i*aF.n α+aF.n α≤l.length*aF.n α:=by rw[←Nat.succ_mul];exact Nat.mul_le_mul_right _ hi
   obtain ⟨h',s⟩:=B2 (E:=env) (t:=aF.e α) (o:=i*aF.n α) (n:=aF.n α) (v:= .agg (aF.c x)) hg aF.size (aF.len x) o! hx
   have g':=zf y s hg
   refine ⟨h',s,vL y s hg,xA s hg,.inr ⟨by intro e;rw[←List.length_eq_zero_iff,List.length_set] at e;omega,p,op,by rw[List.length_set],hp,?_⟩,fun j w gw=>?_⟩
   · rw[g']
     show some (aX.cells (setFrom (l.flatMap aF.c) (i*aF.n α) (aF.c x)) _ _)=_
     rw[xD hi]
   · have:=y0 _ _ gw
     exact vK y s hg o! (a _ _ gw)
end

section
variable {h:aA} {b:Nat} {pre post:List AV} {L:List Int} {e:TypeId} {ro:Bool} {o t j x:Nat}
theorem aeM {h:aA} {b:Nat} {o:aX} (y:Tidy h) (g:h.get b=some o):∃hw,Tidy hw∧hw.nx=h.nx∧hw.get b=none∧Has hw h∧∀i,i≠b→hw.get i=h.get i:=
 ⟨h.put b none,fun i x q=>by
  by_cases e:i=b
  · subst e;rw[aA.ck] at q;cases q
  · rw[aA.bB (Ne.symm e)] at q;exact y i x q,rfl,aA.ck _,fun i x q=>by
  by_cases e:i=b
  · subst e;rw[aA.ck] at q;cases q
  · rw[aA.bB (Ne.symm e)] at q;exact q,fun i e=>aA.bB (Ne.symm e) _⟩
end
end
end Go.Proofs.aG
