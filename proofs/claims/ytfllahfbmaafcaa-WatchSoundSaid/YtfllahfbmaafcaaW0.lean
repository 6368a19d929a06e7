import Derived.Test.YtfllahfbmaafcaaA7
import Derived.Test.YtfllahfbmaafcaaEnv
namespace Go.Proofs.aH
open Go.Proofs Ab
noncomputable section
set_option maxRecDepth 100000
set_option maxHeartbeats 4000000
set_option linter.unusedVariables false
set_option linter.unusedSimpArgs false
theorem ahk {b:Bool} (h:b=true):(!b)=false:=by rw[h];rfl
theorem ahl {b:Bool} (h:b=false):(!b)=true:=by rw[h];rfl
theorem o_ (t:TypeId) (c d:Bool) (k:IntKind) (a b:Int):cF env .eql t c d (some (.int k a)) (some (.int k b))=some (.bool (decide (a=b))):=Xx t c d k a b
theorem jw (t:TypeId) (c d:Bool) (k:IntKind) (a b:Int):cF env .neq t c d (some (.int k a)) (some (.int k b))=some (.bool (!decide (a=b))):=Xy t c d k a b
theorem bZ (t:TypeId) (c d:Bool) (k:IntKind) (a b:Int):cF env .lss t c d (some (.int k a)) (some (.int k b))=some (.bool (decide (a<b))):=Xz t c d k a b
theorem qg (t:TypeId) (c d:Bool) (k:IntKind) (a b:Int):cF env .leq t c d (some (.int k a)) (some (.int k b))=some (.bool (decide (a≤b))):=XA t c d k a b
theorem cg (t:TypeId) (c d:Bool) (k:IntKind) (a b:Int):cF env .gtr t c d (some (.int k a)) (some (.int k b))=some (.bool (decide (b<a))):=XB t c d k a b
theorem qh (t:TypeId) (c d:Bool) (k:IntKind) (a b:Int):cF env .geq t c d (some (.int k a)) (some (.int k b))=some (.bool (decide (b≤a))):=XC t c d k a b
theorem XL (t:TypeId) (c d:Bool) (a b:List UInt8):cF env .eql t c d (some (.str a)) (some (.str b))=some (.bool (decide (a=b))):=SF t c d a b
theorem Lk (t:TypeId) (c d:Bool) {k:IntKind} {a b z:Int} (h:k.wrap (a+b)=z):cF env .add t c d (some (.int k a)) (some (.int k b))=some (.int k z):=Cf h
theorem wM (t:TypeId) (c d:Bool) {k:IntKind} {a b z:Int} (h:k.wrap (a - b)=z):cF env .sub t c d (some (.int k a)) (some (.int k b))=some (.int k z):=Cg h
theorem RO (t:TypeId) (c d:Bool) {k:IntKind} {a b z:Int} (h:k.wrap (a*b)=z):cF env .mul t c d (some (.int k a)) (some (.int k b))=some (.int k z):=LD h
theorem aM (t:TypeId) (o:Nat) (v:AV) {h:au} {i:Nat} {cs:List AV} {e:TypeId} {ro:Bool} (hg:h.get i=some (.cells cs e ro)) (hv:hJ env t cs o=some v):bG env h t (.ptr i o)=some v:=qe hg hv
theorem EL {a:Nat} (h:a<9223372036854775808):IntKind.i64.wrap (a:Int)=(a:Int):=wrap_i64 (by omega) (by omega)
theorem fj (t:TypeId) (c d:Bool) (a b:Nat) (h:a+b<9223372036854775808):cF env .add t c d (some (.int .i64 (a:Int))) (some (.int .i64 (b:Int)))=some (.int .i64 ((a+b:Nat):Int)):=Cf (by rw[show (a:Int)+b=((a+b:Nat):Int) by omega];exact EL h)
theorem GS (t:TypeId) (c d:Bool) (a b:Nat) (h:b≤a) (ha:a<9223372036854775808):cF env .sub t c d (some (.int .i64 (a:Int))) (some (.int .i64 (b:Int)))=some (.int .i64 ((a - b:Nat):Int)):=Cg (by rw[show (a:Int) - b=((a - b:Nat):Int) by omega];exact EL (by omega))
theorem pk_ (d:Nat) (c:Code) (ts:List AV) (h:au) (ds:List od) (rc:RC) (e:hZ) (h':au) {al:List mI} {ps:List Prop} (k:Pk al [] ps) (hr:run env (cW d) 300 c ⟨ts,h,ds,rc⟩ al []= .at e ⟨uS (run env (cW d) 300 c ⟨ts,h,ds,rc⟩ al []),h',ds,rc⟩ [] ps):Ev env (cW d) c ⟨ts,h,ds,rc⟩ e ⟨uS (run env (cW d) 300 c ⟨ts,h,ds,rc⟩ al []),h',ds,rc⟩:=Zu k hr
theorem pk (d:Nat) (c:Code) (ts:List AV) (h:au) (e:hZ) (h':au) {al:List mI} {ps:List Prop} (k:Pk al [] ps) (hr:run env (cW d) 300 c ⟨ts,h,[],.no⟩ al []= .at e ⟨uS (run env (cW d) 300 c ⟨ts,h,[],.no⟩ al []),h',[],.no⟩ [] ps):Ev env (cW d) c ⟨ts,h,[],.no⟩ e ⟨uS (run env (cW d) 300 c ⟨ts,h,[],.no⟩ al []),h',[],.no⟩:=Zu k hr
theorem iQ {h:au} (y:Tidy h) (o:a_):∃h',h.new o=some h'∧Tidy h'∧h'.nx=h.nx+1∧h'.get h.nx=some o∧Has h h':=by
 obtain ⟨h',n⟩:=kF (h:=h) o
 exact ⟨h',n,fi y n,kE n,iJ n,ud y n⟩
theorem yX {h:au} {t e:TypeId} {i o n:Nat} {cs N:List AV} {v:AV} (y:Tidy h) (gg:h.get i=some (.cells cs e false)) (hs:b7 env t=some n) (hv:v.cells.length=n) (hl:Nat.ble (o+n) cs.length=true) (hN:setFrom cs o v.cells=N) (hk:v.cells.all AV.scalar=true):∃h',eF env h t (.ptr i o) v=some h'∧Tidy h'∧h'.nx=h.nx∧h'.get i=some (.cells N e false)∧Kept i h h':=by
 obtain ⟨h',s⟩:=sQ (E:=env) gg hs hv (Nat.le_of_ble_eq_true hl) hk
 exact ⟨h',s,rb y s gg,sS s gg,by rw[←hN];exact ue y s gg,Kept.store y s gg⟩
theorem xg {h:au} {t e:TypeId} {i n:Nat} {cs L:List AV} (y:Tidy h) (gg:h.get i=some (.cells cs e false)) (hs:b7 env t=some n) (hv:L.length=n) (hc:cs.length=n) (hk:L.all AV.scalar=true):∃h',eF env h t (.ptr i 0) (.agg L)=some h'∧Tidy h'∧h'.nx=h.nx∧h'.get i=some (.cells L e false)∧Kept i h h':=
 yX y gg hs hv (by rw[hc,Nat.zero_add,Nat.ble_eq];exact Nat.le_refl n) (by
  show setFrom cs 0 L=L
  apply List.ext_getElem?
  intro k
  rw[eu]
  split
  · rfl
  · rw[List.getElem?_eq_none (by omega),List.getElem?_eq_none (by omega)]) hk
structure Rk (f:List mI→List mI) (ps:List Prop):Prop where
 ok:lU ps
section
variable {f:List mI→List mI} {ps:List Prop}
theorem Rn (n:Nat) (k:Rk f ps):Rk (fun l=>f (cs n l)) ps:=⟨k.ok⟩
end
section
variable {f:List mI→List mI} {ps:List Prop}
theorem Rh {P:Prop} (h:P) (k:Rk f ps):Rk f (P::ps):=⟨⟨h,k.ok⟩⟩
end
theorem k! {p:Prop} (h:p:=by kernel_rfl):p:=h
theorem o! {p:Prop} (h:p:=by omega):p:=h
theorem nbf {b:Bool} (h:(!b)=false):b=true:=by cases b;cases h;rfl
theorem nbt {b:Bool} (h:(!b)=true):b=false:=by cases b;rfl;cases h
theorem d! {p:Prop} (h:p:=by first | assumption | exact ahk (by assumption) | exact ahl (by assumption) | exact nbf (by assumption) | exact nbt (by assumption) | exact dT (by omega) | exact dF (by omega) | exact nT (by omega) | exact nF (by omega)):p:=h
@[reducible] def _root_.Zi (x:Int):AV:= .int .i64 x
@[reducible] def _root_.Zn (n:Nat):AV:= .int .i64 (n:Int)
@[reducible] def _root_.Pt (b:Nat):AV:= .ptr b 0
theorem _root_.pG {c:Bool} (x y:Bool) (h:c=true):zZ (some (.bool c)) (some (.bool x)) (some (.bool y))=some (.bool x):=SH h
theorem _root_.pcf {c:Bool} (x y:Bool) (h:c=false):zZ (some (.bool c)) (some (.bool x)) (some (.bool y))=some (.bool y):=ba h
theorem _root_.pa {c:Bool} (x:Bool) (h:c=true):zZ (some (.bool c)) (some (.bool x)) (some AV.undef)=some (.bool x):=SH h
theorem _root_.vG {c:Bool} (x:Bool) (h:c=false):zZ (some (.bool c)) (some AV.undef) (some (.bool x))=some (.bool x):=ba h
section
variable {al:List mI} {p0 ps:List Prop}
theorem BC {u v:Bool} (h:u=v) (k:Pk al ((u=v)::p0) ps):Pk (.b v:: .c::al) p0 ps:=BB h (CC k)
theorem BV {u v:Bool} {l:Option AV} {x:AV} (h:u=v) (e:l=some x) (k:Pk al ((l=some x)::(u=v)::p0) ps):Pk (.b v:: .v x::al) p0 ps:=BB h (VV e k)
theorem BM {u v:Bool} {l:Option AV} {x:AV} (h:u=v) (e:l=some x) (k:Pk al ((l=some x)::(u=v)::p0) ps):Pk (.b v:: .m x::al) p0 ps:=BB h (MM e k)
end
theorem _root_.Go.Ab.Has.cj {h0 h h':au} {b:Nat} (a:Has h0 h) (k:Kept b h h') (y:Tidy h0) (hb:h0.nx≤b):Has h0 h':=fun i x g=>by
 have:=y i x g
 exact k i x o! (a i x g)
class aA (α:Type) extends Inhabited α where
 c:α→List AV
 n:Nat
 e:TypeId
 len:∀x,(c x).length=n
 ok:au→α→Prop
 mono:∀{h h':au} {x:α},Has h h'→ok h x→ok h' x
 size:b7 env e=some n
 agg:eQ env e=some true
 pos:0<n
@[reducible] def imax (x y:Int):Int:=if y>x then y else x
@[reducible] def rX (x y:Int):Int:=if y<x then y else x
def _root_.List.g {α:Type} [Inhabited α] (l:List α) (i:Nat):α:=l.getD i default
structure aZ {α:Type} [aA α] (h:au) (v:AV) (l:List α):Prop where
 at_:mq env h (aA.e α) (aA.n α) v l.length (l.flatMap aA.c)
 known:v= .aQ∨v= .dN∨∃p o m c b,v= .slice p o m c b∧(b=true→0<c)
 GU:∀x∈l,aA.ok h x
theorem ch {α β:Type} {size:Nat} {f:α→List β} (hf:∀x,(f x).length=size) (l:List α):(l.flatMap f).length=l.length*size:=by
 induction l with
 | nil=>simp
 | cons x l ih=>rw[List.flatMap_cons,List.length_append,ih,hf,List.length_cons,Nat.succ_mul];omega
section
variable {α:Type} [aA α] {h:au} {v:AV} {l:List α}
theorem aZ.has {h':au} (x:aZ h v l) (a:Has h h'):aZ h' v l:=⟨x.at_.has a,x.known,fun y hy=>aA.mono a (x.GU y hy)⟩
theorem lB {i:Nat} (hi:i<l.length):l.g i∈l:=by
 rw[List.g,List.getD_eq_getElem?_getD,List.getElem?_eq_getElem hi];exact List.getElem_mem hi
theorem aZ.ok (x:aZ h v l) {i:Nat} (hi:i<l.length):aA.ok h (l.g i):=x.GU _ (lB hi)
theorem aZ.small (x:aZ h v l):l.length<2^60:=x.at_.small
theorem aZ.len (x:aZ h v l):dJ (some (.slice (aA.e α))) (some v)=some (.int .i64 (l.length:Nat)):=x.at_.lens
theorem aZ.scalar (x:aZ h v l):AV.scalar v=true:=by
 rcases x.known with rfl | rfl | ⟨p,o,m,c,b,rfl,_⟩<;>rfl
theorem iz {β:Type} {size:Nat} {f:α→List β} (hf:∀x,(f x).length=size):∀(l:List α) (i j:Nat) (_:i<l.length),j<size→(l.flatMap f)[i*size+j]? =(f (l.g i))[j]?
 | [],i,j,hi,_=>by cases hi
 | x::l,0,j,_,hj=>by
   rw[List.flatMap_cons,Nat.zero_mul,Nat.zero_add,List.getElem?_append_left (by rw[hf];exact hj)];rfl
 | x::l,i+1,j,hi,hj=>by
   have e:(i+1)*size+j -(f x).length=i*size+j:=by rw[hf,Nat.succ_mul];omega
   rw[List.flatMap_cons,List.getElem?_append_right (by rw[hf,Nat.succ_mul];omega),e,iz hf l i j (by simpa using hi) hj];rfl
theorem aZ.elem (x:aZ h v l) {i:Nat} (hi:i<l.length):∃p q,dr env (some (.slice (aA.e α))) (some v) (some (.int .i64 ((i:Nat):Int)))=some (.ptr p q):=by
 rcases x.at_.block with h0 | ⟨p,o,m,c,b,C,f,ro,h1,_,h2,h3⟩
 · omega
 · subst h1
   have hm:m=l.length:=by
    have:=x.at_.lens
    rw[f'] at this
    simp only[Option.some.injEq,AV.int.injEq,true_and] at this
    omega
   exact ⟨p,o+i*aA.n α,cx x.at_.size o!⟩
theorem aZ.block (x:aZ h v l) {i p q:Nat} (hi:i<l.length) (hx:dr env (some (.slice (aA.e α))) (some v) (some (.int .i64 ((i:Nat):Int)))=some (.ptr p q)):
 ∃C f ro,h.get p=some (.cells C f ro)∧∀j,j<aA.n α→C[q+j]? =(aA.c (l.g i))[j]? :=by
 rcases x.at_.block with h0 | ⟨p',o,m,c,b,C,f,ro,h1,_,h2,h3⟩
 · omega
 · subst h1
   have hm:m=l.length:=by
    have:=x.at_.lens
    rw[f'] at this
    simp only[Option.some.injEq,AV.int.injEq,true_and] at this
    omega
   rw[cx x.at_.size o!] at hx
   simp only[Option.some.injEq,AV.ptr.injEq] at hx
   obtain ⟨rfl,rfl⟩:=hx
   refine ⟨C,f,ro,h2,fun j hj=>?_⟩
   have e:=iz aA.len l i j hi hj
   have ke:i*aA.n α+j<(l.flatMap aA.c).length:=by
    rw[ch aA.len]
    calc i*aA.n α+j<i*aA.n α+aA.n α:=by omega
     _=(i+1)*aA.n α:=by rw[Nat.succ_mul]
     _≤l.length*aA.n α:=Nat.mul_le_mul_right _ hi
   rw[←e,Nat.add_assoc,h3 _ ke]
theorem aZ.load (x:aZ h v l) {i p q:Nat} (hi:i<l.length) (hx:dr env (some (.slice (aA.e α))) (some v) (some (.int .i64 ((i:Nat):Int)))=some (.ptr p q)):bG env h (aA.e α) (.ptr p q)=some (.agg (aA.c (l.g i))):=by
 obtain ⟨C,f,ro,h1,h2⟩:=x.block hi hx
 have hl:=aA.len (l.g i)
 have hn:q+aA.n α≤C.length:=by
  have h0:=aA.pos (α:=α)
  have:=h2 (aA.n α - 1) o!
  rw[List.getElem?_eq_getElem (by omega:aA.n α - 1<(aA.c (l.g i)).length)] at this
  have:=(List.getElem?_eq_some_iff.1 this).1
  omega
 simp only[bG,h1,hJ,aA.agg,aA.size,hn,if_true]
 congr 2
 apply List.ext_getElem?
 intro j
 by_cases hj:j<aA.n α
 · rw[List.getElem?_take_of_lt hj,List.getElem?_drop,h2 j hj]
 · rw[List.getElem?_eq_none (by rw[List.length_take];omega),List.getElem?_eq_none o!]
theorem aZ.part (x:aZ h v l) {i p q j:Nat} {t:TypeId} {w:AV} (hi:i<l.length) (hx:dr env (some (.slice (aA.e α))) (some v) (some (.int .i64 ((i:Nat):Int)))=some (.ptr p q)) (ht:eQ env t=some false) (hw:(aA.c (l.g i))[j]? =some w):bG env h t (.ptr p (q+j))=some w:=by
 obtain ⟨C,f,ro,h1,h2⟩:=x.block hi hx
 have hj:=(List.getElem?_eq_some_iff.1 hw).1
 rw[aA.len] at hj
 simp only[bG,h1,hJ,ht]
 rw[h2 j hj,hw]
theorem aZ.ad0 (x:aZ h v l) {i p q j n:Nat} {t:TypeId} {ws:List AV} (hi:i<l.length) (hx:dr env (some (.slice (aA.e α))) (some v) (some (.int .i64 ((i:Nat):Int)))=some (.ptr p q)) (ht:eQ env t=some true) (hs:b7 env t=some n) (hj:j+n≤aA.n α) (hw:((aA.c (l.g i)).drop j).take n=ws):bG env h t (.ptr p (q+j))=some (.agg ws):=by
 obtain ⟨C,f,ro,h1,h2⟩:=x.block hi hx
 have hl:=aA.len (l.g i)
 have hn:q+aA.n α≤C.length:=by
  have h0:=aA.pos (α:=α)
  have:=h2 (aA.n α - 1) o!
  rw[List.getElem?_eq_getElem (by omega:aA.n α - 1<(aA.c (l.g i)).length)] at this
  have:=(List.getElem?_eq_some_iff.1 this).1
  omega
 have hc:q+j+n≤C.length:=by omega
 simp only[bG,h1,hJ,ht,hs,hc,if_true]
 rw[←hw]
 congr 2
 apply List.ext_getElem?
 intro k
 by_cases hk:k<n
 · rw[List.getElem?_take_of_lt hk,List.getElem?_take_of_lt hk,List.getElem?_drop,List.getElem?_drop,Nat.add_assoc,h2 (j+k) o!]
 · rw[List.getElem?_eq_none (by rw[List.length_take];omega),List.getElem?_eq_none (by rw[List.length_take];omega)]
theorem aZ.nil {α:Type} [aA α] {h:au}:aZ h .aQ ([]:List α):=⟨⟨aA.size,by simp,by show 0<2^60;decide,rfl,.inl rfl⟩,.inl rfl,fun x hx=>by cases hx⟩
theorem aZ.pre (x:aZ h v l) {t:TypeId} (ht:env.P.underlying t=some (.slice (aA.e α))) {i:Nat} (hi:i<l.length):∃r,dw env t v none (some (.int .i64 ((i:Nat):Int))) none=some r∧aZ h r (l.take i):=by
 rcases x.at_.block with h0 | ⟨p,o,m,c,b,C,f,ro,h1,hc,h2,h3⟩
 · omega
 · subst h1
   have hm:m=l.length:=by
    have:=x.at_.lens
    rw[f'] at this
    simp only[Option.some.injEq,AV.int.injEq,true_and] at this
    omega
   subst hm
   have hb:b=true→0<c:=fun e=>by omega
   refine ⟨.slice p o i c b,?_,⟨⟨x.at_.size,ch aA.len _,by have:=x.small;simp;omega,?_,.inr ⟨p,o,i,c,b,C,f,ro,rfl,by omega,h2,fun j hj=>?_⟩⟩,.inr (.inr ⟨_,_,_,_,_,rfl,hb⟩),fun y hy=>x.GU y (List.mem_of_mem_take hy)⟩⟩
   · simp only[dw,ht,x.at_.size,hc,if_true,nW (len:=l.length) (cap:=c) none (some (.int .i64 ((i:Nat):Int))) (.inr ⟨rfl,rfl⟩) (.inl rfl) (Nat.zero_le i) o!]
     rw[if_neg o!]
     simp
   · rw[List.length_take,Nat.min_eq_left o!];exact f' _ _ _ _ _ _
   · rw[ch aA.len,List.length_take,Nat.min_eq_left o!] at hj
     have ke:j<(l.flatMap aA.c).length:=by
      rw[ch aA.len];exact Nat.lt_of_lt_of_le hj (Nat.mul_le_mul_right _ o!)
     rw[h3 j ke]
     have e:l=l.take i++l.drop i:=(List.take_append_drop i l).symm
     conv=>lhs;rw[e,List.flatMap_append]
     rw[List.getElem?_append_left]
     rw[ch aA.len,List.length_take,Nat.min_eq_left o!];exact hj
def aW {ρ:Type} (call:bw) (b:Code) (s:St) (ex:hZ) (hh:au) (tn:(Nat→AV)→List AV) (tr:ρ→(Nat→AV)→List AV):Option ρ→Prop
 | none=>∃y hk,Ev env call (.loop b) s ex ⟨tn y,hk,[],.no⟩∧Grow hh hk
 | some r=>∃y hk,Ev env call (.loop b) s .ret ⟨tr r y,hk,[],.no⟩∧Grow hh hk
section
variable {ρ:Type} {call:bw} {b:Code} {s:St} {ex:hZ} {hh hk:au} {tn:(Nat→AV)→List AV} {tr:ρ→(Nat→AV)→List AV}
theorem aW.n {o:Option ρ} (e:o=none) (x:aW call b s ex hh tn tr o):∃y hk,Ev env call (.loop b) s ex ⟨tn y,hk,[],.no⟩∧Grow hh hk:=by subst e;exact x
theorem aW.r {o:Option ρ} {r:ρ} (e:o=some r) (x:aW call b s ex hh tn tr o):∃y hk,Ev env call (.loop b) s .ret ⟨tr r y,hk,[],.no⟩∧Grow hh hk:=by subst e;exact x
theorem aW.out {i:Nat} {L:List AV} {o:Option ρ} (e:o=none) (ev:Ev env call b s (.exit i) ⟨L,hk,[],.no⟩) (G:Grow hh hk) (hl:L=tn fun k=>L.getD k AV.undef):aW call b s (.exit i) hh tn tr o:=by
 subst e
 obtain ⟨y,q⟩:=AW (Ev.out ev) hl
 exact ⟨y,hk,q,G⟩
theorem aW.ret {L:List AV} {o:Option ρ} (r:ρ) (e:o=some r) (ev:Ev env call b s .ret ⟨L,hk,[],.no⟩) (G:Grow hh hk) (hl:L=tr r fun k=>L.getD k AV.undef):aW call b s ex hh tn tr o:=by
 subst e
 obtain ⟨y,q⟩:=AW (tmpl:=tr r) (Ev.ret ev) hl
 exact ⟨y,hk,q,G⟩
theorem aW.round {L:List AV} {o o':Option ρ} (e:o=o') (ev:Ev env call b s .normal ⟨L,hk,[],.no⟩) (G:Grow hh hk) (uT:(Nat→AV)→List AV) (hl:L=uT fun k=>L.getD k AV.undef) (ih:∀x,aW call b ⟨uT x,hk,[],.no⟩ ex hk tn tr o'):aW call b s ex hh tn tr o:=by
 subst e
 have q:=ih fun k=>L.getD k AV.undef
 rw[←hl] at q
 cases o with
 | none=>obtain ⟨y,h2,x,g⟩:=q;exact ⟨y,h2,Ev.loop ev x,G.trans g⟩
 | some r=>obtain ⟨y,h2,x,g⟩:=q;exact ⟨y,h2,Ev.loop ev x,G.trans g⟩
end
def lC {ρ:Type} (call:bw) (b:Code) (s:St) (ex:hZ) (h hh:au) (tn:(Nat→AV)→List AV) (tr:ρ→(Nat→AV)→List AV) (pb:Nat) (cl:ρ→a_):Option ρ→Prop
 | none=>∃y hk,Ev env call (.loop b) s ex ⟨tn y,hk,[],.no⟩∧Grow hh hk
 | some r=>∃y hk,Ev env call (.loop b) s .ret ⟨tr r y,hk,[],.no⟩∧Tidy hk∧Has h hk∧hh.nx≤hk.nx∧hk.get pb=some (cl r)
section
variable {ρ:Type} {call:bw} {b:Code} {s:St} {ex:hZ} {h hh hk:au} {tn:(Nat→AV)→List AV} {tr:ρ→(Nat→AV)→List AV} {pb:Nat} {cl:ρ→a_}
theorem lC.n {o:Option ρ} (e:o=none) (x:lC call b s ex h hh tn tr pb cl o):∃y hk,Ev env call (.loop b) s ex ⟨tn y,hk,[],.no⟩∧Grow hh hk:=by subst e;exact x
theorem lC.r {o:Option ρ} {r:ρ} (e:o=some r) (x:lC call b s ex h hh tn tr pb cl o):∃y hk,Ev env call (.loop b) s .ret ⟨tr r y,hk,[],.no⟩∧Tidy hk∧Has h hk∧hh.nx≤hk.nx∧hk.get pb=some (cl r):=by subst e;exact x
theorem lC.out {i:Nat} {L:List AV} {o:Option ρ} (e:o=none) (ev:Ev env call b s (.exit i) ⟨L,hk,[],.no⟩) (G:Grow hh hk) (hl:L=tn fun k=>L.getD k AV.undef):lC call b s (.exit i) h hh tn tr pb cl o:=by
 subst e
 obtain ⟨y,q⟩:=AW (Ev.out ev) hl
 exact ⟨y,hk,q,G⟩
theorem lC.round {L:List AV} {o o':Option ρ} (e:o=o') (ev:Ev env call b s .normal ⟨L,hk,[],.no⟩) (G:Grow hh hk) (uT:(Nat→AV)→List AV) (hl:L=uT fun k=>L.getD k AV.undef) (ih:∀x,lC call b ⟨uT x,hk,[],.no⟩ ex h hk tn tr pb cl o'):lC call b s ex h hh tn tr pb cl o:=by
 subst e
 have q:=ih fun k=>L.getD k AV.undef
 rw[←hl] at q
 cases o with
 | none=>obtain ⟨y,h2,x,g⟩:=q;exact ⟨y,h2,Ev.loop ev x,G.trans g⟩
 | some r=>obtain ⟨y,h2,x,y1,a1,n1,g1⟩:=q;exact ⟨y,h2,Ev.loop ev x,y1,a1,Nat.le_trans G.n n1,g1⟩
end
def fM {σ:Type} (call:bw) (b:Code) (s:St) (ex:hZ) (hh:au) (tn:σ→(Nat→AV)→List AV) (Q:σ→Prop) (r:σ):Prop:=∃y hk,Ev env call (.loop b) s ex ⟨tn r y,hk,[],.no⟩∧Grow hh hk∧Q r
section
variable {σ:Type} {call:bw} {b:Code} {s:St} {ex:hZ} {hh hk:au} {tn:σ→(Nat→AV)→List AV} {Q:σ→Prop}
theorem fM.out {i:Nat} {L:List AV} {o:σ} (r:σ) (e:o=r) (ev:Ev env call b s (.exit i) ⟨L,hk,[],.no⟩) (G:Grow hh hk) (iq:Q r) (hl:L=tn r fun k=>L.getD k AV.undef):fM call b s (.exit i) hh tn Q o:=by
 subst e
 obtain ⟨y,q⟩:=AW (tmpl:=tn o) (Ev.out ev) hl
 exact ⟨y,hk,q,G,iq⟩
theorem fM.round {L:List AV} {o o':σ} (e:o=o') (ev:Ev env call b s .normal ⟨L,hk,[],.no⟩) (G:Grow hh hk) (uT:(Nat→AV)→List AV) (hl:L=uT fun k=>L.getD k AV.undef) (ih:∀x,fM call b ⟨uT x,hk,[],.no⟩ ex hk tn Q o'):fM call b s ex hh tn Q o:=by
 subst e
 have q:=ih fun k=>L.getD k AV.undef
 rw[←hl] at q
 obtain ⟨y,h2,x,g,i⟩:=q;exact ⟨y,h2,Ev.loop ev x,G.trans g,i⟩
end
theorem aZ.same {α:Type} [aA α] {h:au} {v:AV} {l:List α} (x:aZ h v l) (n:Nat):AV.same (n+1) v v=true:=by
 rcases x.known with rfl | rfl | ⟨p,o,m,c,b,rfl,_⟩
 · rfl
 · rfl
 · exact B' n p o m c b
def XM (cs:List AV):Prop:=∀n,cL (AV.same (n+1)) cs cs=true
theorem Pq:XM []:=fun _=>rfl
theorem pR {x:AV} {cs:List AV} (hx:∀n,AV.same (n+1) x x=true) (hc:XM cs):XM (x::cs):=fun n=>by
 show (AV.same (n+1) x x&&cL (AV.same (n+1)) cs cs)=true
 rw[hx,hc];rfl
theorem ie (n:Nat) {cs:List AV} (h:XM cs):AV.same (n+2) (.agg cs) (.agg cs)=true:=h n
theorem jS {s:List UInt8} {j:Nat} (hj:j<s.length):qZ env (some .string) (some (.str s)) (some (.int .i64 ((j:Nat):Int)))=some (.int .u8 (((s.g j).toNat:Nat):Int)):=by
 refine SG ?_
 rw[List.g,List.getD_eq_getElem?_getD,List.getElem?_eq_getElem hj];rfl
end
theorem sX {h:au} {e s xt:TypeId} {xd:TypeDesc} {tys:Array TypeId} {bytes:Nat} {z x:AV} {M:List AV} (h0:tys[0]? =some s) (h1:tys[1]? =some xt) (hs:env.P.underlying s=some (.slice e)) (hx:env.P.underlying xt=some xd) (hi:kB xd=false) (HY:b7 env e=some 1) (hb:fh env e=some bytes) (qf:eU env e=some z) (hz:z.cells.length=1) (h8:bytes≤63) (hlen:kV x=some M.length) (hf:eR h 1 M.length x=some M) (o7:M.all AV.scalar=true) (hm:M≠ []) (hl:M.length≤1073741824):
 ∃h',bU env h tys .aQ x=some (.slice h.nx 0 M.length M.length true,h')∧h.new (.cells M e false)=some h':=by
 obtain ⟨h',n⟩:=kF (h:=h) (.cells M e false)
 refine ⟨h',?_,n⟩
 have hn:¬M.length=0:=fun e=>hm (List.length_eq_zero_iff.1 e)
 have F1:(4*M.length+4096)*(bytes+1)≤1099511627776:=Nat.le_trans (Nat.mul_le_mul (show 4*M.length+4096≤17179869184 by omega) (show bytes+1≤64 by omega)) (by decide)
 simp only[bU,h0,h1,hs,hx,hi,HY,hb,hlen,hf,qf,hz,o7,Nat.mul_one,hn,F1,n,if_true,if_false,and_self,Bool.false_eq_true]
theorem sY {h:au} {e s xt:TypeId} {xd:TypeDesc} {tys:Array TypeId} {bytes p:Nat} {op:Bool} {z x:AV} {L M:List AV} (y:Tidy h) (h0:tys[0]? =some s) (h1:tys[1]? =some xt) (hs:env.P.underlying s=some (.slice e)) (hx:env.P.underlying xt=some xd) (hi:kB xd=false) (HY:b7 env e=some 1) (hb:fh env e=some bytes) (qf:eU env e=some z) (hz:z.cells.length=1) (h8:bytes≤63) (hlen:kV x=some M.length) (hf:eR h 1 M.length x=some M) (o7:M.all AV.scalar=true) {n:Nat} (hn:L.length=n) (hm:M≠ []) (hl:n+M.length≤1073741824)
 (hg:h.get p=some (.cells L e false)):
 ∃h',bU env h tys (.slice p 0 n n op) x=some (.slice h.nx 0 (n+M.length) (n+M.length) true,h')∧Tidy h'∧h'.nx=h.nx+1∧Kept p h h'∧h'.get h.nx=some (.cells (L++M) e false):=by
 have hp:=y _ _ hg
 subst hn
 have ec:(L.drop 0).take (L.length*1)++M=L++M:=by
  rw[List.drop_zero,Nat.mul_one,List.take_of_length_le (Nat.le_refl _)]
 have y2:Tidy (if op then h.put p none else h):=by
  cases op with
  | false=>exact y
  | true=>
    intro i x g
    show i<h.nx
    by_cases hi:i=p
    · subst hi;exact hp
    · rw[if_pos rfl,au.bA (Ne.symm hi)] at g;exact y i x g
 have n2:(if op then h.put p none else h).nx=h.nx:=by cases op<;>rfl
 obtain ⟨h',n⟩:=kF (h:=if op then h.put p none else h) (.cells (L++M) e false)
 refine ⟨h',?_,fi y2 n,by rw[kE n,n2],fun i x hi g=>?_,by rw[←n2];exact iJ n⟩
 · have hn:0<M.length:=List.length_pos_iff.2 hm
   have F1:(4*(L.length+M.length)+4096)*(bytes+1)≤1099511627776:=Nat.le_trans (Nat.mul_le_mul (show 4*(L.length+M.length)+4096≤17179869184 by omega) (show bytes+1≤64 by omega)) (by decide)
   have hc:¬L.length+M.length≤L.length:=by omega
   simp only[bU,h0,h1,hs,hx,hi,HY,hb,hlen,hf,qf,hz,o7,hg,hc,if_true,if_false,Bool.false_eq_true,Nat.mul_one]
   rw[if_pos ⟨trivial,trivial,trivial⟩,if_pos ⟨F1,by omega,fun _=>⟨trivial,by omega,trivial⟩⟩]
   rw[show List.take L.length (List.drop 0 L)=L by rw[List.drop_zero,List.take_length],n]
 · refine eW y2 n ?_
   cases op with
   | false=>exact g
   | true=>rw[if_pos rfl,au.bA (Ne.symm hi)];exact g
def dx (e:TypeId) (h0 h:au) (z:AV) (L:List AV):Prop:=(z= .aQ∧L=[])∨(L≠ []∧∃p op,z= .slice p 0 L.length L.length op∧h0.nx≤p∧h.get p=some (.cells L e false))
theorem dx.has {e:TypeId} {h0 h h':au} {z:AV} {L:List AV} (o:dx e h0 h z L) (a:Has h h'):dx e h0 h' z L:=o.imp id fun ⟨hn,p,op,e,h1,g⟩=>⟨hn,p,op,e,h1,a _ _ g⟩
theorem dx.app {e s xt:TypeId} {xd:TypeDesc} {h0 h:au} {tys:Array TypeId} {bytes:Nat} {z0 z x:AV} {L M:List AV} (y:Tidy h) (y0:Tidy h0) (a:Has h0 h) (hle:h0.nx≤h.nx) (o:dx e h0 h z L) (t0:tys[0]? =some s) (t1:tys[1]? =some xt) (hs:env.P.underlying s=some (.slice e)) (hx:env.P.underlying xt=some xd) (hi:kB xd=false) (HY:b7 env e=some 1) (hb:fh env e=some bytes) (qf:eU env e=some z0) (hz:z0.cells.length=1) (h8:bytes≤63) (hlen:kV x=some M.length) (hf:eR h 1 M.length x=some M) (o7:M.all AV.scalar=true) (hm:M≠ []) (hl:L.length+M.length≤1073741824):
 ∃z' h',bU env h tys z x=some (z',h')∧Tidy h'∧h.nx≤h'.nx∧Has h0 h'∧dx e h0 h' z' (L++M):=by
 rcases o with ⟨rfl,rfl⟩ | ⟨hn,p,op,rfl,hp,hg⟩
 · obtain ⟨h',e1,n⟩:=sX (h:=h) t0 t1 hs hx hi HY hb qf hz h8 hlen hf o7 hm (by simpa using hl)
   have:=kE n
   exact ⟨_,h',e1,fi y n,by omega,a.trans (ud y n),.inr ⟨by simpa using hm,h.nx,true,by simp,hle,iJ n⟩⟩
 · obtain ⟨h',e1,y1,z1,k1,g1⟩:=sY (op:=op) y t0 t1 hs hx hi HY hb qf hz h8 hlen hf o7 rfl hm hl hg
   exact ⟨_,h',e1,y1,by omega,Has.cj a k1 y0 hp,.inr ⟨by simp [hn],h.nx,true,by rw[List.length_append],hle,g1⟩⟩
theorem GV {i:Nat} {b:Bool} {v:AV}:kV (.slice i 0 1 1 b)=some [v].length:=rfl
theorem yY {h:au} {i:Nat} {b:Bool} {v:AV} {e:TypeId} {ro:Bool} (hg:h.get i=some (.cells [v] e ro)):eR h 1 [v].length (.slice i 0 1 1 b)=some [v]:=by
 simp [eR,hg]
theorem dx.le {e:TypeId} {h0 h1 h:au} {z:AV} {L:List AV} (o:dx e h1 h z L) (hn:h0.nx≤h1.nx):dx e h0 h z L:=o.imp id fun ⟨dR,p,op,e,h1,g⟩=>⟨dR,p,op,e,by omega,g⟩
def zs (k:IntKind) (l:List Int):List AV:=l.map (AV.int k)
theorem rf (k:IntKind) (l:List Int):(zs k l).length=l.length:=by simp [zs]
theorem NS (k:IntKind) (l:List Int) (x:Int):zs k (l++[x])=zs k l++[AV.int k x]:=by simp [zs]
theorem aa3 (k:IntKind) (l:List Int) {i:Nat} (hi:i<l.length):(zs k l)[i]? =some (.int k (l.g i)):=by
 rw[zs,List.getElem?_map,List.getElem?_eq_getElem hi,List.g,List.getD_eq_getElem?_getD,List.getElem?_eq_getElem hi];rfl
structure eS (h:au) (k:IntKind) (e:TypeId) (v:AV) (l:List Int):Prop where
 at_:mq env h e 1 v l.length (zs k l)
 agg:eQ env e=some false
 known:v= .aQ∨v= .dN∨∃p o m c b,v= .slice p o m c b
theorem eS.has {k:IntKind} {h h':au} {e:TypeId} {v:AV} {l:List Int} (x:eS h k e v l) (a:Has h h'):eS h' k e v l:=⟨x.at_.has a,x.agg,x.known⟩
theorem eS.scalar {k:IntKind} {h:au} {e:TypeId} {v:AV} {l:List Int} (x:eS h k e v l):AV.scalar v=true:=by
 rcases x.known with rfl | rfl | ⟨p,o,m,c,b,rfl⟩<;>rfl
theorem eS.same {k:IntKind} {h:au} {e:TypeId} {v:AV} {l:List Int} (x:eS h k e v l) (n:Nat):AV.same (n+1) v v=true:=by
 rcases x.known with rfl | rfl | ⟨p,o,m,c,b,rfl⟩
 · rfl
 · rfl
 · exact B' n p o m c b
theorem eS.small {k:IntKind} {h:au} {e:TypeId} {v:AV} {l:List Int} (x:eS h k e v l):l.length<2^60:=x.at_.small
theorem eS.len {k:IntKind} {h:au} {e:TypeId} {v:AV} {l:List Int} (x:eS h k e v l):dJ (some (.slice e)) (some v)=some (.int .i64 (l.length:Nat)):=x.at_.lens
theorem eS.elem {k:IntKind} {h:au} {e:TypeId} {v:AV} {l:List Int} (x:eS h k e v l) {i:Nat} (hi:i<l.length):∃p q,dr env (some (.slice e)) (some v) (some (.int .i64 ((i:Nat):Int)))=some (.ptr p q)∧bG env h e (.ptr p q)=some (.int k (l.g i)):=x.at_.elem x.agg (aa3 k l hi)
theorem eS.load {k:IntKind} {h:au} {e:TypeId} {v:AV} {l:List Int} (x:eS h k e v l) {i p q:Nat} (hi:i<l.length) (hx:dr env (some (.slice e)) (some v) (some (.int .i64 ((i:Nat):Int)))=some (.ptr p q)):bG env h e (.ptr p q)=some (.int k (l.g i)):=by
 obtain ⟨p',q',h1,h2⟩:=x.elem hi
 rw[hx] at h1
 simp only[Option.some.injEq,AV.ptr.injEq] at h1
 obtain ⟨rfl,rfl⟩:=h1
 exact h2
theorem eS.nil {k:IntKind} {h:au} {e:TypeId} (hs:b7 env e=some 1) (ha:eQ env e=some false):eS h k e .aQ []:=⟨⟨hs,rfl,by decide,rfl,.inl rfl⟩,ha,.inl rfl⟩
theorem dx.zs {k:IntKind} {e:TypeId} {h0 h:au} {z:AV} {l:List Int} (o:dx e h0 h z (aH.zs k l)) (hl:l.length<2^60) (hs:b7 env e=some 1) (ha:eQ env e=some false):eS h k e z l:=by
 rcases o with ⟨rfl,e0⟩ | ⟨hn,p,op,rfl,_,hg⟩
 · have:l=[]:=List.length_eq_zero_iff.1 (by have:=congrArg List.length e0;rwa [rf] at this)
   subst this
   exact eS.nil hs ha
 · rw[rf]
   exact ⟨⟨hs,by rw[rf];omega,hl,rfl,.inr ⟨p,0,_,_,op,_,_,_,rfl,Nat.le_refl _,hg,fun j _=>by rw[Nat.zero_add]⟩⟩,ha,.inr (.inr ⟨_,_,_,_,_,rfl⟩)⟩
theorem dx.Js {k:IntKind} {e:TypeId} {h0 h:au} {z:AV} {l:List Int} {n:Nat} (o:dx e h0 h z (aH.zs k l)) (v:AV.within h0.nx (n+1) z=true) (hs:b7 env e=some 1) (ha:eQ env e=some false):eS h0 k e z l:=by
 rcases o with ⟨rfl,e0⟩ | ⟨hn,p,op,rfl,hp,hg⟩
 · have:l=[]:=List.length_eq_zero_iff.1 (by have:=congrArg List.length e0;rwa [rf] at this)
   subst this
   exact eS.nil hs ha
 · have:=of_decide_eq_true (show decide (p<h0.nx)=true from v)
   omega
theorem dx.ahm {k:IntKind} {e s xt:TypeId} {h0 h:au} {tys:Array TypeId} {bytes b:Nat} {z0 z:AV} {L:List Int} {v:Int} {f:TypeId} {ro op:Bool} (y:Tidy h) (y0:Tidy h0) (a:Has h0 h) (hle:h0.nx≤h.nx) (o:dx e h0 h z (aH.zs k L)) (hg:h.get b=some (.cells [.int k v] f ro)) (hl:L.length≤1000000000) (t0:tys[0]? =some s) (t1:tys[1]? =some xt) (hs:env.P.underlying s=some (.slice e)) (hx:env.P.underlying xt=some (.slice e)) (HY:b7 env e=some 1) (hb:fh env e=some bytes) (qf:eU env e=some z0) (hz:z0.cells.length=1) (h8:bytes≤63):
 ∃z' h',bU env h tys z (.slice b 0 1 1 op)=some (z',h')∧Tidy h'∧h.nx≤h'.nx∧Has h0 h'∧dx e h0 h' z' (aH.zs k (L++[v])):=by
 rw[NS]
 exact dx.app y y0 a hle o t0 t1 hs hx rfl HY hb qf hz h8 GV (yY hg) rfl (by simp) (by rw[rf];simp;omega)
def nJ {σ:Type} (call:bw) (b:Code) (s:St) (ex:hZ) (h:au) (e:TypeId) (tn:σ→AV→(Nat→AV)→List AV) (own:σ→List AV) (N:Nat) (r:σ):Prop:=∃z y hk,Ev env call (.loop b) s ex ⟨tn r z y,hk,[],.no⟩∧Grow h hk∧dx e h hk z (own r)∧(own r).length≤N
section
variable {σ:Type} {call:bw} {b:Code} {s:St} {ex:hZ} {h hk:au} {e:TypeId} {tn:σ→AV→(Nat→AV)→List AV} {own:σ→List AV} {N:Nat}
theorem nJ.out {i:Nat} {L:List AV} {o:σ} (r:σ) (z:AV) (e1:o=r) (ev:Ev env call b s (.exit i) ⟨L,hk,[],.no⟩) (G:Grow h hk) (oz:dx e h hk z (own r)) (ln:(own r).length≤N) (hl:L=tn r z fun k=>L.getD k AV.undef):nJ call b s (.exit i) h e tn own N o:=by
 subst e1
 obtain ⟨y,q⟩:=AW (tmpl:=tn o z) (Ev.out ev) hl
 exact ⟨z,y,hk,q,G,oz,ln⟩
theorem nJ.round {L:List AV} {o o':σ} (e1:o=o') (ev:Ev env call b s .normal ⟨L,hk,[],.no⟩) (uT:(Nat→AV)→List AV) (hl:L=uT fun k=>L.getD k AV.undef) (ih:∀x,nJ call b ⟨uT x,hk,[],.no⟩ ex h e tn own N o'):nJ call b s ex h e tn own N o:=by
 subst e1
 have q:=ih fun k=>L.getD k AV.undef
 rw[←hl] at q
 obtain ⟨z,y,h2,x,g,oz,ln⟩:=q;exact ⟨z,y,h2,Ev.loop ev x,g,oz,ln⟩
end
def bC {α:Type} [aA α] (h0 h:au) (z:AV) (l:List α):Prop:=
 ((z= .aQ∨∃p,z= .slice p 0 0 0 false∧h0.nx≤p∧h.get p=some (.cells [] (aA.e α) false))∧l=[])∨
 (l≠ []∧∃p op,z= .slice p 0 l.length l.length op∧h0.nx≤p∧h.get p=some (.cells (l.flatMap aA.c) (aA.e α) false))
def bJ (z:AV) (i:Nat):Prop:=∀o n c b,z≠ .slice i o n c b
section
variable {α:Type} [aA α] {h0 h h':au} {z:AV} {l m:List α}
theorem bC.has (o:bC h0 h z l) (a:Has h h'):bC h0 h' z l:=by
 rcases o with ⟨rfl | ⟨p,rfl,h1,h2⟩,rfl⟩ | ⟨hn,p,op,e,h1,g⟩
 · exact .inl ⟨.inl rfl,rfl⟩
 · exact .inl ⟨.inr ⟨p,rfl,h1,a _ _ h2⟩,rfl⟩
 · exact .inr ⟨hn,p,op,e,h1,a _ _ g⟩
theorem bC.aho {s xt:TypeId} {tys:Array TypeId} {bytes N:Nat} {z0 x:AV} (y:Tidy h) (y0:Tidy h0) (a:Has h0 h) (hle:h0.nx≤h.nx) (o:bC h0 h z l) (hlen:kV x=some m.length) (hf:eR h (aA.n α) m.length x=some (m.flatMap aA.c)) (o7:(m.flatMap aA.c).all AV.scalar=true) (hl:l.length+m.length≤N)
 (t0:tys[0]? =some s) (t1:tys[1]? =some xt) (hs:env.P.underlying s=some (.slice (aA.e α))) (hx:env.P.underlying xt=some (.slice (aA.e α))) (hb:fh env (aA.e α)=some bytes) (qf:eU env (aA.e α)=some z0) (hz:z0.cells.length=aA.n α) (XN:∀k,k≤N→(4*k+4096)*(bytes+1)≤1099511627776):
 ∃z' h',bU env h tys z x=some (z',h')∧Tidy h'∧h.nx≤h'.nx∧Has h0 h'∧bC h0 h' z' (l++m)∧∀i w,bJ z i→h.get i=some w→h'.get i=some w:=by
 have xh:=ch aA.len m
 have hi:kB (.slice (aA.e α))=false:=rfl
 have xj:∀{p:Nat} {ob:a_},h.get p=some ob→Tidy (h.put p (some ob))∧Has h0 (h.put p (some ob))∧(∀i w,h.get i=some w→(h.put p (some ob)).get i=some w):=fun {p ob} g=>by
  have hg:∀i,(h.put p (some ob)).get i=h.get i:=fun i=>by
   by_cases e:i=p
   · subst e;rw[au.bS,g]
   · rw[au.bA (Ne.symm e)]
  exact ⟨fun i w q=>y i w (by rw[←hg];exact q),fun i w q=>by rw[hg];exact a i w q,fun i w q=>by rw[hg];exact q⟩
 have SY:m≠ []→∃h',h.new (.cells (m.flatMap aA.c) (aA.e α) false)=some h'∧Tidy h'∧h.nx≤h'.nx∧Has h0 h'∧bC h0 h' (.slice h.nx 0 m.length m.length true) m∧∀i w,h.get i=some w→h'.get i=some w:=fun hm=>by
  obtain ⟨h',n⟩:=kF (h:=h) (.cells (m.flatMap aA.c) (aA.e α) false)
  have:=kE n
  exact ⟨h',n,fi y n,by omega,a.trans (ud y n),.inr ⟨hm,h.nx,true,rfl,hle,iJ n⟩,fun i w g=>eW y n g⟩
 rcases o with ⟨rfl | ⟨p,rfl,hp,hg⟩,rfl⟩ | ⟨hn,p,op,rfl,hp,hg⟩
 · rw[List.nil_append]
   by_cases hm:m=[]
   · subst hm
     simp only[List.length_nil,List.flatMap_nil,Nat.zero_mul] at hlen hf o7 xh
     refine ⟨.aQ,h,?_,y,Nat.le_refl _,a,.inl ⟨.inl rfl,rfl⟩,fun _ _ _ g=>g⟩
     simp only[bU,t0,t1,hs,hx,hi,aA.size,hb,hlen,hf,qf,hz,o7,xh,if_true,if_false,and_self,List.length_nil,Bool.false_eq_true,Nat.zero_mul]
   · obtain ⟨h',n,q1,q2,q3,q4,q5⟩:=SY hm
     have M9:¬m.length=0:=fun e=>hm (List.length_eq_zero_iff.1 e)
     refine ⟨_,h',?_,q1,q2,q3,q4,fun i w _ g=>q5 i w g⟩
     simp only[bU,t0,t1,hs,hx,hi,aA.size,hb,hlen,hf,qf,hz,o7,xh,M9,XN m.length o!,n,if_true,if_false,and_self,Bool.false_eq_true]
 · rw[List.nil_append]
   by_cases hm:m=[]
   · subst hm
     simp only[List.length_nil,List.flatMap_nil,Nat.zero_mul] at hlen hf o7 xh
     obtain ⟨q1,q2,q3⟩:=xj hg
     refine ⟨_,_,?_,q1,Nat.le_refl _,q2,.inl ⟨.inr ⟨p,rfl,hp,q3 _ _ hg⟩,rfl⟩,fun i w _ g=>q3 i w g⟩
     simp only[bU,t0,t1,hs,hx,hi,aA.size,hb,hlen,hf,qf,hz,o7,xh,hg,if_true,if_false,and_self,List.length_nil,Bool.false_eq_true,Nat.zero_mul,Nat.add_zero,Nat.le_refl,List.flatMap_nil,setFrom]
   · obtain ⟨h',n,q1,q2,q3,q4,q5⟩:=SY hm
     have M9:¬m.length≤0:=fun e=>hm (List.length_eq_zero_iff.1 o!)
     refine ⟨_,h',?_,q1,q2,q3,q4,fun i w _ g=>q5 i w g⟩
     simp only[bU,t0,t1,hs,hx,hi,aA.size,hb,hlen,hf,qf,hz,o7,xh,hg,M9,if_true,if_false,and_self,Bool.false_eq_true,Nat.zero_mul,Nat.add_zero,Nat.zero_add,List.length_nil,Nat.le_refl]
     rw[if_pos ⟨XN m.length o!,trivial,fun e=>e.elim⟩]
     simp only[List.drop_nil,List.take_nil,List.nil_append,n]
 · have hlp:0<l.length:=List.length_pos_iff.2 hn
   have hpx:=y _ _ hg
   have QL:=ch aA.len l
   by_cases hm:m=[]
   · subst hm
     simp only[List.length_nil,List.flatMap_nil,Nat.zero_mul] at hlen hf o7 xh
     obtain ⟨q1,q2,q3⟩:=xj hg
     rw[List.append_nil]
     refine ⟨_,_,?_,q1,Nat.le_refl _,q2,.inr ⟨hn,p,op,rfl,hp,q3 _ _ hg⟩,fun i w _ g=>q3 i w g⟩
     simp only[bU,t0,t1,hs,hx,hi,aA.size,hb,hlen,hf,qf,hz,o7,xh,hg,QL,if_true,if_false,and_self,List.length_nil,Bool.false_eq_true,Nat.zero_mul,Nat.add_zero,Nat.zero_add,Nat.le_refl,List.flatMap_nil,setFrom]
   · have hm0:0<m.length:=List.length_pos_iff.2 hm
     have y2:Tidy (if op then h.put p none else h):=by
      cases op with
      | false=>exact y
      | true=>
        intro i x g
        show i<h.nx
        by_cases hi:i=p
        · subst hi;exact hpx
        · rw[if_pos rfl,au.bA (Ne.symm hi)] at g;exact y i x g
     have n2:(if op then h.put p none else h).nx=h.nx:=by cases op<;>rfl
     have k2:∀i w,i≠p→h.get i=some w→(if op then h.put p none else h).get i=some w:=fun i w hi g=>by
      cases op with
      | false=>exact g
      | true=>rw[if_pos rfl,au.bA (Ne.symm hi)];exact g
     obtain ⟨h',n⟩:=kF (h:=if op then h.put p none else h) (.cells (l.flatMap aA.c++m.flatMap aA.c) (aA.e α) false)
     have hk:∀i w,i≠p→h.get i=some w→h'.get i=some w:=fun i w hi g=>eW y2 n (k2 i w hi g)
     have hc:¬l.length+m.length≤l.length:=by omega
     refine ⟨.slice h.nx 0 (l.length+m.length) (l.length+m.length) true,h',?_,fi y2 n,by rw[kE n,n2];omega,fun i w g=>?_,.inr ⟨by simp [hn],h.nx,true,by rw[List.length_append],hle,by rw[List.flatMap_append,←n2];exact iJ n⟩,fun i w q g=>hk i w (fun e=>q 0 l.length l.length op (by subst e;rfl)) g⟩
     · simp only[bU,t0,t1,hs,hx,hi,aA.size,hb,hlen,hf,qf,hz,o7,xh,hg,hc,if_true,if_false,and_self,Bool.false_eq_true]
       rw[if_pos ⟨XN _ hl,by rw[QL];omega,fun _=>⟨trivial,by rw[QL];omega,trivial⟩⟩]
       rw[List.drop_zero,List.take_of_length_le (by rw[QL];exact Nat.le_refl _),n]
     · have:=y0 _ _ g
       exact hk i w o! (a i w g)
theorem bC.app {s xt:TypeId} {tys:Array TypeId} {bytes:Nat} {z0 x:AV} (y:Tidy h) (y0:Tidy h0) (a:Has h0 h) (hle:h0.nx≤h.nx) (o:bC h0 h z l) (hlen:kV x=some m.length) (hf:eR h (aA.n α) m.length x=some (m.flatMap aA.c)) (o7:(m.flatMap aA.c).all AV.scalar=true) (hl:l.length+m.length≤1000000000)
 (t0:tys[0]? =some s) (t1:tys[1]? =some xt) (hs:env.P.underlying s=some (.slice (aA.e α))) (hx:env.P.underlying xt=some (.slice (aA.e α))) (hb:fh env (aA.e α)=some bytes) (qf:eU env (aA.e α)=some z0) (hz:z0.cells.length=aA.n α) (h8:bytes≤255):
 ∃z' h',bU env h tys z x=some (z',h')∧Tidy h'∧h.nx≤h'.nx∧Has h0 h'∧bC h0 h' z' (l++m)∧∀i w,bJ z i→h.get i=some w→h'.get i=some w:=
 bC.aho y y0 a hle o hlen hf o7 hl t0 t1 hs hx hb qf hz fun k hk=>Nat.le_trans (Nat.mul_le_mul (show 4*k+4096≤4294967296 by omega) (show bytes+1≤256 by omega)) (by decide)
theorem bC.ad1 {s xt:TypeId} {tys:Array TypeId} {bytes:Nat} {z0 x:AV} (y:Tidy h) (y0:Tidy h0) (a:Has h0 h) (hle:h0.nx≤h.nx) (o:bC h0 h z l) (hlen:kV x=some m.length) (hf:eR h (aA.n α) m.length x=some (m.flatMap aA.c)) (o7:(m.flatMap aA.c).all AV.scalar=true) (hl:l.length+m.length≤1000000000)
 (t0:tys[0]? =some s) (t1:tys[1]? =some xt) (hs:env.P.underlying s=some (.slice (aA.e α))) (hx:env.P.underlying xt=some (.slice (aA.e α))) (hb:fh env (aA.e α)=some bytes) (qf:eU env (aA.e α)=some z0) (hz:z0.cells.length=aA.n α) (h8:bytes≤255) (he:l=[]:=by rfl):
 ∃z' h',bU env h tys z x=some (z',h')∧Tidy h'∧h.nx≤h'.nx∧Has h0 h'∧bC h0 h' z' (l++m)∧Has h h':=by
 subst he
 by_cases hm:m=[]
 · subst hm
   obtain ⟨z',h',e1,e2,e3,e4,e5,e6⟩:=bC.app y y0 a hle o hlen hf o7 hl t0 t1 hs hx hb qf hz h8
   refine ⟨z',h',e1,e2,e3,e4,e5,fun i w g=>?_⟩
   rcases o with ⟨rfl | ⟨p,rfl,hp,hg⟩,_⟩ | ⟨hn,_⟩
   · exact e6 i w (fun o n c b q=>by cases q) g
   · by_cases hi:i=p
     · subst hi
       have hi2:kB (.slice (aA.e α))=false:=rfl
       simp only[List.length_nil,List.flatMap_nil] at hlen hf o7
       simp only[bU,t0,t1,hs,hx,hi2,aA.size,hb,hlen,hf,qf,hz,o7,hg,if_true,if_false,and_self,List.length_nil,Bool.false_eq_true,Nat.zero_mul,Nat.add_zero,Nat.le_refl,List.flatMap_nil,setFrom,Option.some.injEq,Prod.mk.injEq] at e1
       rw[←e1.2,au.bS,←hg,g]
     · exact e6 i w (fun o n c b q=>hi (AV.slice.inj q).1.symm) g
   · exact absurd rfl hn
 · obtain ⟨z',h',e1,e2,e3,e4,e5,e6⟩:=bC.app y y0 a hle o hlen hf o7 hl t0 t1 hs hx hb qf hz h8
   refine ⟨z',h',e1,e2,e3,e4,e5,fun i w g=>?_⟩
   rcases o with ⟨rfl | ⟨p,rfl,hp,hg⟩,_⟩ | ⟨hn,_⟩
   · exact e6 i w (fun o n c b q=>by cases q) g
   · by_cases hi:i=p
     · subst hi
       have hi2:kB (.slice (aA.e α))=false:=rfl
       have xh:=ch aA.len m
       have M9:¬m.length≤0:=fun e=>hm (List.length_eq_zero_iff.1 o!)
       have XN:(4*m.length+4096)*(bytes+1)≤1099511627776:=Nat.le_trans (Nat.mul_le_mul (show 4*m.length+4096≤4294967296 by simp at hl;omega) (show bytes+1≤256 by omega)) (by decide)
       simp only[bU,t0,t1,hs,hx,hi2,aA.size,hb,hlen,hf,qf,hz,o7,xh,hg,M9,if_true,if_false,and_self,Bool.false_eq_true,Nat.zero_mul,Nat.add_zero,Nat.zero_add,List.length_nil,Nat.le_refl] at e1
       rw[if_pos ⟨XN,trivial,fun e=>e.elim⟩] at e1
       obtain ⟨h2,n⟩:=kF (h:=h) (.cells (List.take 0 (List.drop 0 [])++m.flatMap aA.c) (aA.e α) false)
       rw[n] at e1
       simp only[Option.some.injEq,Prod.mk.injEq] at e1
       rw[←e1.2];exact eW y n g
     · exact e6 i w (fun o n c b q=>hi (AV.slice.inj q).1.symm) g
   · exact absurd rfl hn
theorem ok_one {x:α} (o:aA.ok h x):∀y∈ [x],aA.ok h y:=fun y hy=>by
 rw[List.mem_singleton] at hy;subst hy;exact o
theorem nq (a:∀y∈l,aA.ok h y) (b:∀y∈m,aA.ok h y):∀y∈l++m,aA.ok h y:=fun y hy=>(List.mem_append.1 hy).elim (a y) (b y)
theorem NT (g:Has h h') (a:∀y∈l,aA.ok h y):∀y∈l,aA.ok h' y:=fun y hy=>aA.mono g (a y hy)
class Flat (α:Type) [aA α]:Prop where
 free:∀{h h':au} {x:α},aA.ok h x→aA.ok h' x
theorem eJ {D:Type} [aA D] [Flat D] {h h':au} {l:List D} (a:∀y∈l,aA.ok h y):∀y∈l,aA.ok h' y:=fun y hy=>Flat.free (a y hy)
theorem kN {v:AV} (x:aZ h v l) (sc:∀y∈l,(aA.c y).all AV.scalar=true):(l.flatMap aA.c).all AV.scalar=true:=by
 rw[List.all_eq_true]
 intro z hz
 obtain ⟨y,hy,hzy⟩:=List.mem_flatMap.1 hz
 exact List.all_eq_true.1 (sc y hy) z hzy
theorem aZ.kV {v:AV} (x:aZ h v l):kV v=some l.length:=by
 have hl:=x.at_.lens
 rcases x.known with rfl | rfl | ⟨p,o,m,c,b,rfl,_⟩
 · rw[w_] at hl
   simp only[Option.some.injEq,AV.int.injEq,true_and] at hl
   rw[show l.length=0 by omega];rfl
 · rw[aaV] at hl
   simp only[Option.some.injEq,AV.int.injEq,true_and] at hl
   rw[show l.length=0 by omega];rfl
 · rw[f'] at hl
   simp only[Option.some.injEq,AV.int.injEq,true_and] at hl
   rw[show l.length=m by omega];rfl
theorem aZ.first {v:AV} (x:aZ h v l):eR h (aA.n α) l.length v=some (l.flatMap aA.c):=by
 by_cases hl:l=[]
 · subst hl
   rcases x.known with rfl | rfl | ⟨p,o,m,c,b,rfl,_⟩<;>simp [eR]
 · have hlp:0<l.length:=List.length_pos_iff.2 hl
   have QL:=ch aA.len l
   rcases x.at_.block with h0 | ⟨p,o,m,c,b,C,f,ro,h1,_,h2,h3⟩
   · omega
   · subst h1
     have hm:m=l.length:=by
      have:=x.at_.lens
      rw[f'] at this
      simp only[Option.some.injEq,AV.int.injEq,true_and] at this
      omega
     subst hm
     have hC:o+l.length*aA.n α≤C.length:=by
      rcases Nat.eq_zero_or_pos (l.length*aA.n α) with h0 | h0
      · have:=Nat.mul_pos hlp (aA.pos (α:=α));omega
      · have:=h3 (l.length*aA.n α - 1) o!
        rw[List.getElem?_eq_getElem (by omega:l.length*aA.n α - 1<(l.flatMap aA.c).length)] at this
        have:=(List.getElem?_eq_some_iff.1 this).1
        omega
     simp only[eR,Nat.le_refl,if_true,if_false,show ¬l.length=0 by omega,h2,hC]
     congr 1
     apply List.ext_getElem?
     intro j
     by_cases hj:j<l.length*aA.n α
     · rw[List.getElem?_take_of_lt hj,List.getElem?_drop,h3 j o!]
     · rw[List.getElem?_eq_none (by rw[List.length_take];omega),List.getElem?_eq_none o!]
theorem mb {i:Nat} {b:Bool} {x:α} {e:TypeId} {ro:Bool} (hg:h.get i=some (.cells (aA.c x) e ro)):eR h (aA.n α) [x].length (.slice i 0 1 1 b)=some ([x].flatMap aA.c):=by
 have:=aA.len x
 simp only[eR,List.length_singleton,Nat.le_refl,if_true,hg,Nat.one_ne_zero,if_false,Nat.one_mul,Nat.zero_add,this,List.drop_zero,List.flatMap_cons,List.flatMap_nil,List.append_nil]
 rw[List.take_of_length_le o!]
theorem bC.rows (o:bC h0 h z l) (hl:l.length<2^60) (hk:∀x∈l,aA.ok h x):aZ h z l:=by
 rcases o with ⟨rfl | ⟨p,rfl,h1,h2⟩,rfl⟩ | ⟨hn,p,op,rfl,h1,g⟩
 · exact ⟨⟨aA.size,(Nat.zero_mul _).symm,hl,rfl,.inl rfl⟩,.inl rfl,hk⟩
 · exact ⟨⟨aA.size,(Nat.zero_mul _).symm,hl,rfl,.inl rfl⟩,.inr (.inr ⟨_,_,_,_,_,rfl,fun e=>by cases e⟩),hk⟩
 · have:=List.length_pos_iff.2 hn
   exact ⟨⟨aA.size,ch aA.len l,hl,rfl,.inr ⟨p,0,_,_,op,_,_,_,rfl,Nat.le_refl _,g,fun j _=>by rw[Nat.zero_add]⟩⟩,.inr (.inr ⟨_,_,_,_,_,rfl,fun _=>this⟩),hk⟩
end
structure Span where
 aX:Int
 aG:Int
@[reducible] def Span.c (x:Span):List AV:=[.int .i64 x.aX,.int .i64 x.aG]
def Span.ok (h:au) (x:Span):Prop:=True
def Span.eq (x y:Span):Bool:=(x.aX==y.aX)&&(x.aG==y.aG)
theorem Span.deep (x y:Span):iD env 16 23 (.agg (Span.c x)) (.agg (Span.c y))=some (Span.eq x y):=by
 have e:iD env 16 23 (.agg (Span.c x)) (.agg (Span.c y))=(match some (x.aX==y.aX) with | some true=>(match some (x.aG==y.aG) with | some true=>some true | some false=>some false | none=>none) | some false=>some false | none=>none):=by kernel_rfl
 rw[e,Span.eq]
 cases (x.aX==y.aX)<;>try rfl
 cases (x.aG==y.aG)<;>try rfl
theorem Span.eql (x y:Span) {a b:Bool}:cF env .eql 23 a b (some (.agg (Span.c x))) (some (.agg (Span.c y)))=some (.bool (Span.eq x y)):=by
 show (if env.P.eqGuardType env.P.depth 23 then none else (match iD env 16 23 (.agg (Span.c x)) (.agg (Span.c y)) with | some r=>some (AV.bool (r)) | none=>none))=_
 rw[show env.P.eqGuardType env.P.depth 23=false by kernel_rfl,Span.deep];rfl
theorem Span.neq (x y:Span) {a b:Bool}:cF env .neq 23 a b (some (.agg (Span.c x))) (some (.agg (Span.c y)))=some (.bool (!Span.eq x y)):=by
 show (if env.P.eqGuardType env.P.depth 23 then none else (match iD env 16 23 (.agg (Span.c x)) (.agg (Span.c y)) with | some r=>some (AV.bool (!r)) | none=>none))=_
 rw[show env.P.eqGuardType env.P.depth 23=false by kernel_rfl,Span.deep];rfl
instance:aA Span where
 default:=⟨0,0⟩
 c:=Span.c
 n:=2
 e:=23
 len _:=rfl
 ok:=Span.ok
 mono a o:=o
 size:=by kernel_rfl
 agg:=by kernel_rfl
 pos:=by decide
theorem Span.sc {h:au} {x:Span} (o:Span.ok h x):(Span.c x).all AV.scalar=true:=by
 rfl
instance:Flat Span where
 free o:=o
structure bV where
 name:List UInt8
 acc:Int
 bP:Int
 since:Int
@[reducible] def bV.c (x:bV):List AV:=[.str x.name,.int .i64 x.acc,.int .i64 x.bP,.int .i64 x.since]
def bV.ok (h:au) (x:bV):Prop:=x.name.length<2^60
def bV.eq (x y:bV):Bool:=(x.name==y.name)&&(x.acc==y.acc)&&(x.bP==y.bP)&&(x.since==y.since)
theorem bV.deep (x y:bV):iD env 16 45 (.agg (bV.c x)) (.agg (bV.c y))=some (bV.eq x y):=by
 have e:iD env 16 45 (.agg (bV.c x)) (.agg (bV.c y))=(match some (x.name==y.name) with | some true=>(match some (x.acc==y.acc) with | some true=>(match some (x.bP==y.bP) with | some true=>(match some (x.since==y.since) with | some true=>some true | some false=>some false | none=>none) | some false=>some false | none=>none) | some false=>some false | none=>none) | some false=>some false | none=>none):=by kernel_rfl
 rw[e,bV.eq]
 cases (x.name==y.name)<;>try rfl
 cases (x.acc==y.acc)<;>try rfl
 cases (x.bP==y.bP)<;>try rfl
 cases (x.since==y.since)<;>try rfl
theorem bV.eql (x y:bV) {a b:Bool}:cF env .eql 45 a b (some (.agg (bV.c x))) (some (.agg (bV.c y)))=some (.bool (bV.eq x y)):=by
 show (if env.P.eqGuardType env.P.depth 45 then none else (match iD env 16 45 (.agg (bV.c x)) (.agg (bV.c y)) with | some r=>some (AV.bool (r)) | none=>none))=_
 rw[show env.P.eqGuardType env.P.depth 45=false by kernel_rfl,bV.deep];rfl
theorem bV.neq (x y:bV) {a b:Bool}:cF env .neq 45 a b (some (.agg (bV.c x))) (some (.agg (bV.c y)))=some (.bool (!bV.eq x y)):=by
 show (if env.P.eqGuardType env.P.depth 45 then none else (match iD env 16 45 (.agg (bV.c x)) (.agg (bV.c y)) with | some r=>some (AV.bool (!r)) | none=>none))=_
 rw[show env.P.eqGuardType env.P.depth 45=false by kernel_rfl,bV.deep];rfl
instance:aA bV where
 default:=⟨[],0,0,0⟩
 c:=bV.c
 n:=4
 e:=45
 len _:=rfl
 ok:=bV.ok
 mono a o:=o
 size:=by kernel_rfl
 agg:=by kernel_rfl
 pos:=by decide
theorem bV.sc {h:au} {x:bV} (o:bV.ok h x):(bV.c x).all AV.scalar=true:=by
 rfl
instance:Flat bV where
 free o:=o
structure ay where
 name:List UInt8
 aj:Int
 ah:Int
 aI:Int
 aK:Int
 bad:Int
 aB:AV
 af:List bV
@[reducible] def ay.c (x:ay):List AV:=[.str x.name,.int .i64 x.aj,.int .i64 x.ah,.int .i64 x.aI,.int .i64 x.aK,.int .i64 x.bad,x.aB]
def ay.ok (h:au) (x:ay):Prop:=x.name.length<2^60∧aZ h x.aB x.af
instance:aA ay where
 default:=⟨[],0,0,0,0,0,.aQ,[]⟩
 c:=ay.c
 n:=7
 e:=26
 len _:=rfl
 ok:=ay.ok
 mono a o:=⟨o.1,(o.2).has a⟩
 size:=by kernel_rfl
 agg:=by kernel_rfl
 pos:=by decide
theorem ay.sc {h:au} {x:ay} (o:ay.ok h x):(ay.c x).all AV.scalar=true:=by
 simp only[ay.c,List.all_cons,List.all_nil,(show AV.scalar x.aB=true from (o.2).scalar),Bool.true_and]<;>rfl
structure az where
 aD:Int
 time:Int
 value:Int
@[reducible] def az.c (x:az):List AV:=[.int .i64 x.aD,.int .i64 x.time,.int .i64 x.value]
def az.ok (h:au) (x:az):Prop:=True
def az.eq (x y:az):Bool:=(x.aD==y.aD)&&(x.time==y.time)&&(x.value==y.value)
theorem az.deep (x y:az):iD env 16 43 (.agg (az.c x)) (.agg (az.c y))=some (az.eq x y):=by
 have e:iD env 16 43 (.agg (az.c x)) (.agg (az.c y))=(match some (x.aD==y.aD) with | some true=>(match some (x.time==y.time) with | some true=>(match some (x.value==y.value) with | some true=>some true | some false=>some false | none=>none) | some false=>some false | none=>none) | some false=>some false | none=>none):=by kernel_rfl
 rw[e,az.eq]
 cases (x.aD==y.aD)<;>try rfl
 cases (x.time==y.time)<;>try rfl
 cases (x.value==y.value)<;>try rfl
theorem az.eql (x y:az) {a b:Bool}:cF env .eql 43 a b (some (.agg (az.c x))) (some (.agg (az.c y)))=some (.bool (az.eq x y)):=by
 show (if env.P.eqGuardType env.P.depth 43 then none else (match iD env 16 43 (.agg (az.c x)) (.agg (az.c y)) with | some r=>some (AV.bool (r)) | none=>none))=_
 rw[show env.P.eqGuardType env.P.depth 43=false by kernel_rfl,az.deep];rfl
theorem az.neq (x y:az) {a b:Bool}:cF env .neq 43 a b (some (.agg (az.c x))) (some (.agg (az.c y)))=some (.bool (!az.eq x y)):=by
 show (if env.P.eqGuardType env.P.depth 43 then none else (match iD env 16 43 (.agg (az.c x)) (.agg (az.c y)) with | some r=>some (AV.bool (!r)) | none=>none))=_
 rw[show env.P.eqGuardType env.P.depth 43=false by kernel_rfl,az.deep];rfl
instance:aA az where
 default:=⟨0,0,0⟩
 c:=az.c
 n:=3
 e:=43
 len _:=rfl
 ok:=az.ok
 mono a o:=o
 size:=by kernel_rfl
 agg:=by kernel_rfl
 pos:=by decide
theorem az.sc {h:au} {x:az} (o:az.ok h x):(az.c x).all AV.scalar=true:=by
 rfl
instance:Flat az where
 free o:=o
structure Gate where
 time:Int
 ax:Int
 ar:Int
@[reducible] def Gate.c (x:Gate):List AV:=[.int .i64 x.time,.int .i64 x.ax,.int .i64 x.ar]
def Gate.ok (h:au) (x:Gate):Prop:=True
instance:aA Gate where
 default:=⟨0,0,0⟩
 c:=Gate.c
 n:=3
 e:=66
 len _:=rfl
 ok:=Gate.ok
 mono a o:=o
 size:=by kernel_rfl
 agg:=by kernel_rfl
 pos:=by decide
theorem Gate.sc {h:au} {x:Gate} (o:Gate.ok h x):(Gate.c x).all AV.scalar=true:=by
 rfl
instance:Flat Gate where
 free o:=o
structure di where
 time:Int
 ax:Int
 ar:Int
@[reducible] def di.c (x:di):List AV:=[.int .i64 x.time,.int .i64 x.ax,.int .i64 x.ar]
def di.ok (h:au) (x:di):Prop:=True
instance:aA di where
 default:=⟨0,0,0⟩
 c:=di.c
 n:=3
 e:=77
 len _:=rfl
 ok:=di.ok
 mono a o:=o
 size:=by kernel_rfl
 agg:=by kernel_rfl
 pos:=by decide
theorem di.sc {h:au} {x:di} (o:di.ok h x):(di.c x).all AV.scalar=true:=by
 rfl
instance:Flat di where
 free o:=o
theorem EM {p:Prop} [Decidable p] (h:(!decide p)=true):¬p:=by intro q;rw[decide_eq_true q] at h;cases h
theorem EN {p:Prop} [Decidable p] (h:(!decide p)=false):p:=by by_cases q:p;exact q;rw[decide_eq_false q] at h;cases h
def bs (l:List Bool):List AV:=l.map AV.bool
theorem SZ (l:List Bool):(bs l).length=l.length:=by simp [bs]
theorem S0 (l:List Bool) {i:Nat} (hi:i<l.length):(bs l)[i]? =some (.bool (l.g i)):=by
 rw[bs,List.getElem?_map,List.getElem?_eq_getElem hi,List.g,List.getD_eq_getElem?_getD,List.getElem?_eq_getElem hi];rfl
theorem aa4 (l:List Bool) (i:Nat) (v:Bool):(bs l).set i (.bool v)=bs (l.set i v):=by simp [bs,List.map_set]
theorem S1:∀n,et [AV.bool false] n=bs (List.replicate n false)
 | 0=>rfl
 | n+1=>by rw[et,S1 n];rfl
section
variable {h:au} {t e:TypeId} {p i n:Nat}
theorem XO {l:List Bool} {ro:Bool} (ht:eQ env t=some false) (hg:h.get p=some (.cells (bs l) e ro)) (hi:i<l.length):bG env h t (.ptr p i)=some (.bool (l.g i)):=by
 simp only[bG,hg,hJ,ht];exact S0 l hi
theorem Pr {cs:List AV} {v:AV} (hs:b7 env t=some 1) (hg:h.get p=some (.cells cs e false)) (hi:i<cs.length) (hv:v.cells=[v]) (hk:AV.scalar v=true):eF env h t (.ptr p i) v=some (h.put p (some (.cells (cs.set i v) e false))):=by
 obtain ⟨h',s⟩:=sQ (E:=env) (t:=t) (o:=i) (n:=1) (v:=v) hg hs (by rw[hv];rfl) o! (by rw[hv];simp [hk])
 rw[s,sR s hg,hv];rfl
theorem S2 {l:List Bool} {v:Bool} (hs:b7 env t=some 1) (hg:h.get p=some (.cells (bs l) e false)) (hi:i<l.length):eF env h t (.ptr p i) (.bool v)=some (h.put p (some (.cells (bs (l.set i v)) e false))):=by
 rw[Pr hs hg (by rw[SZ];exact hi) rfl rfl,aa4]
end
structure DN (h:au) (e:TypeId) (v:AV) (l:List Bool):Prop where
 at_:mq env h e 1 v l.length (bs l)
 agg:eQ env e=some false
section
variable {h h':au} {e:TypeId} {v:AV} {l:List Bool}
theorem DN.scalar (x:DN h e v l):AV.scalar v=true:=by
 have q:=x.at_.lens
 cases v<;>first | rfl | (exfalso;revert q;simp [dJ])
theorem xm {v:AV} (x:AV.scalar v=true):AV.cells v=[v]:=by
 cases v<;>first | rfl | cases x
theorem DN.small (x:DN h e v l):l.length<2^60:=x.at_.small
theorem DN.elem (x:DN h e v l) {i:Nat} (hi:i<l.length):∃p q,dr env (some (.slice e)) (some v) (some (.int .i64 ((i:Nat):Int)))=some (.ptr p q)∧bG env h e (.ptr p q)=some (.bool (l.g i)):=x.at_.elem x.agg (S0 l hi)
theorem DN.load (x:DN h e v l) {i p q:Nat} (hi:i<l.length) (hx:dr env (some (.slice e)) (some v) (some (.int .i64 ((i:Nat):Int)))=some (.ptr p q)):bG env h e (.ptr p q)=some (.bool (l.g i)):=by
 obtain ⟨p',q',h1,h2⟩:=x.elem hi
 rw[hx] at h1
 simp only[Option.some.injEq,AV.ptr.injEq] at h1
 obtain ⟨rfl,rfl⟩:=h1
 exact h2
theorem DN.own {p n:Nat} {op ro:Bool} {f:TypeId} (hs:b7 env e=some 1) (ha:eQ env e=some false) (hg:h.get p=some (.cells (bs l) f ro)) (hn:l.length=n) (h60:n<2^60):DN h e (.slice p 0 n n op) l:=by
 subst hn
 exact ⟨⟨hs,by rw[SZ];omega,h60,rfl,.inr ⟨p,0,_,_,op,_,_,_,rfl,Nat.le_refl _,hg,fun j _=>by rw[Nat.zero_add]⟩⟩,ha⟩
theorem eS.own {k:IntKind} {p n:Nat} {op ro:Bool} {f:TypeId} {l:List Int} (hs:b7 env e=some 1) (ha:eQ env e=some false) (hg:h.get p=some (.cells (zs k l) f ro)) (hn:l.length=n) (h60:n<2^60):eS h k e (.slice p 0 n n op) l:=by
 subst hn
 exact ⟨⟨hs,by rw[rf];omega,h60,rfl,.inr ⟨p,0,_,_,op,_,_,_,rfl,Nat.le_refl _,hg,fun j _=>by rw[Nat.zero_add]⟩⟩,ha,.inr (.inr ⟨_,_,_,_,_,rfl⟩)⟩
end
def lD {σ ρ:Type} (call:bw) (b:Code) (s:St) (ex:hZ) (hh:au) (tn:σ→AV→(Nat→AV)→List AV) (tr:ρ→AV→(Nat→AV)→List AV) (Qn:σ→AV→au→Prop) (Qr:ρ→AV→au→Prop):σ ⊕ ρ→Prop
 | .inl v=>∃z y hk,Ev env call (.loop b) s ex ⟨tn v z y,hk,[],.no⟩∧Tidy hk∧hh.nx≤hk.nx∧Qn v z hk
 | .inr r=>∃z y hk,Ev env call (.loop b) s .ret ⟨tr r z y,hk,[],.no⟩∧Tidy hk∧hh.nx≤hk.nx∧Qr r z hk
section
variable {σ ρ:Type} {call:bw} {b:Code} {s:St} {ex:hZ} {hh hk:au} {tn:σ→AV→(Nat→AV)→List AV} {tr:ρ→AV→(Nat→AV)→List AV} {Qn:σ→AV→au→Prop} {Qr:ρ→AV→au→Prop}
theorem lD.n {o:σ ⊕ ρ} {v:σ} (e:o= .inl v) (x:lD call b s ex hh tn tr Qn Qr o):∃z y hk,Ev env call (.loop b) s ex ⟨tn v z y,hk,[],.no⟩∧Tidy hk∧hh.nx≤hk.nx∧Qn v z hk:=by subst e;exact x
theorem lD.r {o:σ ⊕ ρ} {r:ρ} (e:o= .inr r) (x:lD call b s ex hh tn tr Qn Qr o):∃z y hk,Ev env call (.loop b) s .ret ⟨tr r z y,hk,[],.no⟩∧Tidy hk∧hh.nx≤hk.nx∧Qr r z hk:=by subst e;exact x
theorem lD.out {i:Nat} {L:List AV} {o:σ ⊕ ρ} (v:σ) (z:AV) (e:o= .inl v) (ev:Ev env call b s (.exit i) ⟨L,hk,[],.no⟩) (y1:Tidy hk) (n1:hh.nx≤hk.nx) (q:Qn v z hk) (hl:L=tn v z fun k=>L.getD k AV.undef):lD call b s (.exit i) hh tn tr Qn Qr o:=by
 subst e
 obtain ⟨y,x⟩:=AW (tmpl:=tn v z) (Ev.out ev) hl
 exact ⟨z,y,hk,x,y1,n1,q⟩
theorem lD.round {L:List AV} {o o':σ ⊕ ρ} (e:o=o') (ev:Ev env call b s .normal ⟨L,hk,[],.no⟩) (n1:hh.nx≤hk.nx) (uT:(Nat→AV)→List AV) (hl:L=uT fun k=>L.getD k AV.undef) (ih:∀x,lD call b ⟨uT x,hk,[],.no⟩ ex hk tn tr Qn Qr o'):lD call b s ex hh tn tr Qn Qr o:=by
 subst e
 have q:=ih fun k=>L.getD k AV.undef
 rw[←hl] at q
 cases o with
 | inl v=>obtain ⟨z,y,h2,x,y1,n2,g⟩:=q;exact ⟨z,y,h2,Ev.loop ev x,y1,Nat.le_trans n1 n2,g⟩
 | inr r=>obtain ⟨z,y,h2,x,y1,n2,g⟩:=q;exact ⟨z,y,h2,Ev.loop ev x,y1,Nat.le_trans n1 n2,g⟩
end
theorem dx.Jt {k:IntKind} {e s xt:TypeId} {g h:au} {tys:Array TypeId} {bytes b:Nat} {z0 z:AV} {L:List Int} {v:Int} {f:TypeId} {ro op:Bool} (y:Tidy h) (hle:g.nx≤h.nx) (o:dx e g h z (aH.zs k L)) (hg:h.get b=some (.cells [.int k v] f ro)) (hl:L.length≤1000000000) (t0:tys[0]? =some s) (t1:tys[1]? =some xt) (hs:env.P.underlying s=some (.slice e)) (hx:env.P.underlying xt=some (.slice e)) (HY:b7 env e=some 1) (hb:fh env e=some bytes) (qf:eU env e=some z0) (hz:z0.cells.length=1) (h8:bytes≤63):
 ∃z' h',bU env h tys z (.slice b 0 1 1 op)=some (z',h')∧Tidy h'∧h.nx≤h'.nx∧(∀i w,i<g.nx→h.get i=some w→h'.get i=some w)∧dx e g h' z' (aH.zs k (L++[v])):=by
 rw[NS]
 have Nb:(aH.zs k L).length≤1000000000:=by rw[rf];exact hl
 rcases o with ⟨rfl,e0⟩ | ⟨hn,p,op',rfl,hp,hgp⟩
 · rw[e0]
   obtain ⟨h',e1,n⟩:=sX (h:=h) (M:=[.int k v]) t0 t1 hs hx rfl HY hb qf hz h8 GV (yY hg) rfl (by simp) (by simp)
   have:=kE n
   exact ⟨_,h',e1,fi y n,by omega,fun i w _ q=>eW y n q,.inr ⟨by simp,h.nx,true,by simp,hle,iJ n⟩⟩
 · obtain ⟨h',e1,y1,z1,k1,g1⟩:=sY (op:=op') (M:=[.int k v]) y t0 t1 hs hx rfl HY hb qf hz h8 GV (yY hg) rfl rfl (by simp) (by simp;omega) hgp
   exact ⟨_,h',e1,y1,by omega,fun i w hi q=>k1 i w o! q,.inr ⟨by simp,h.nx,true,by rw[List.length_append],hle,g1⟩⟩
theorem Has.aa5 {h hh h' g:au} (a:Has h hh) (y:Tidy h) (n:h.nx≤g.nx) (A:∀i w,i<g.nx→hh.get i=some w→h'.get i=some w):Has h h':=fun i w q=>A i w (Nat.lt_of_lt_of_le (y i w q) n) (a i w q)
theorem dx.Zw {e:TypeId} {h0 h:au} {z:AV} {L:List AV} {n:Nat} (o:dx e h0 h z L) (v:AV.within h0.nx (n+1) z=true):dx e h0 h0 z L:=by
 rcases o with ⟨rfl,e0⟩ | ⟨hn,p,op,rfl,hp,hg⟩
 · exact .inl ⟨rfl,e0⟩
 · have:=of_decide_eq_true (show decide (p<h0.nx)=true from v)
   omega
theorem Ps {nx k b n m c:Nat} {op:Bool} (v:AV.within nx (k+1) (.slice b n m c op)=true) (hb:nx≤b):False:=by
 have:=of_decide_eq_true (show decide (b<nx)=true from v)
 omega
theorem Ev.to {call:bw} {b:Code} {s:St} {e:hZ} {L L':List AV} {hk:au} (ev:Ev env call b s e ⟨L,hk,[],.no⟩) (hl:L=L'):Ev env call b s e ⟨L',hk,[],.no⟩:=hl▸ev
theorem S3 {v:AV} (h:AV.scalar v=true):v.cells=[v]:=by cases v<;>first | rfl | cases h
theorem ahp {h:au} {t e:TypeId} {i o:Nat} {cs N:List AV} {v:AV} (y:Tidy h) (gg:h.get i=some (.cells cs e false)) (hs:b7 env t=some 1) (hk:AV.scalar v=true) (hl:Nat.ble (o+1) cs.length=true) (hN:setFrom cs o [v]=N):∃h',eF env h t (.ptr i o) v=some h'∧Tidy h'∧h'.nx=h.nx∧h'.get i=some (.cells N e false)∧Kept i h h':=by
 have c:=S3 hk
 exact yX y gg hs (by rw[c];rfl) hl (by rw[c];exact hN) (by rw[c];simp [hk])
theorem mL {f:FuncId} {fn:Func} {c:Code} {args Zs ts:List AV} {h h':au} {call:bw} {x:hZ} {v:AV} {a:Tmp} {t:TypeId} {i:Nat} (hf:env.P.funcs[f]? =some fn) (hb:fn.body=some c) (ht:args++List.replicate (fn.ntmps - args.length) AV.undef=Zs) (hx:x= .normal∨x= .ret)
 (e:Ev env call c ⟨Zs,h,[],.no⟩ x ⟨ts,h',[],.no⟩) (hrs:(fn.results.toList,ts.getD a AV.undef)=([.cell a t],AV.ptr i 0)) (hl:bG env h' t (.ptr i 0)=some v):sP env call f args h v h':=by
 refine bx hf hb ht hx e ?_
 rw[show fn.results.toList=[.cell a t] from congrArg Prod.fst hrs]
 simp only[jM,show ts.getD a AV.undef= .ptr i 0 from congrArg (fun q=>q.2) hrs,hl,Option.map_some]
 rfl
section
variable {α:Type} [aA α]
theorem bC.S4 {h0 h:au} {z:AV} {l:List α} {n:Nat} (o:bC h0 h z l) (v:AV.within h0.nx (n+1) z=true):aZ h0 z l:=by
 have nl:∀z,(z= .aQ∨∃p,z=AV.slice p 0 0 0 false∧h0.nx≤p)→AV.within h0.nx (n+1) z=true→aZ h0 z ([]:List α):=fun z hz v=>by
  rcases hz with rfl | ⟨p,rfl,hp⟩
  · exact ⟨⟨aA.size,(Nat.zero_mul _).symm,(show (0:Nat)<2^60 by decide),rfl,.inl rfl⟩,.inl rfl,fun _ hx=>by cases hx⟩
  · have:=of_decide_eq_true (show decide (p<h0.nx)=true from v)
    omega
 rcases o with ⟨rfl | ⟨p,rfl,h1,h2⟩,rfl⟩ | ⟨hn,p,op,rfl,hp,hg⟩
 · exact nl _ (.inl rfl) v
 · exact nl _ (.inr ⟨p,rfl,h1⟩) v
 · have:=of_decide_eq_true (show decide (p<h0.nx)=true from v)
   omega
theorem bC.le {h0 h1 h:au} {z:AV} {l:List α} (o:bC h1 h z l) (hn:h0.nx≤h1.nx):bC h0 h z l:=by
 rcases o with ⟨rfl | ⟨p,rfl,h1,h2⟩,rfl⟩ | ⟨dR,p,op,e,h1,g⟩
 · exact .inl ⟨.inl rfl,rfl⟩
 · exact .inl ⟨.inr ⟨p,rfl,by omega,h2⟩,rfl⟩
 · exact .inr ⟨dR,p,op,e,by omega,g⟩
def sZ {σ:Type} (call:bw) (b:Code) (s:St) (ex:hZ) (h:au) (tn:σ→AV→(Nat→AV)→List AV) (own:σ→List α) (N:Nat) (r:σ):Prop:=∃z y hk,Ev env call (.loop b) s ex ⟨tn r z y,hk,[],.no⟩∧Grow h hk∧bC h hk z (own r)∧(∀y∈own r,aA.ok hk y)∧(own r).length≤N
variable {σ:Type} {call:bw} {b:Code} {s:St} {ex:hZ} {h hk:au} {tn:σ→AV→(Nat→AV)→List AV} {own:σ→List α} {N:Nat}
theorem sZ.out {i:Nat} {L:List AV} {o:σ} (r:σ) (z:AV) (e1:o=r) (ev:Ev env call b s (.exit i) ⟨L,hk,[],.no⟩) (G:Grow h hk) (oz:bC h hk z (own r)) (ok:∀y∈own r,aA.ok hk y) (ln:(own r).length≤N) (hl:L=tn r z fun k=>L.getD k AV.undef):sZ call b s (.exit i) h tn own N o:=by
 subst e1
 obtain ⟨y,q⟩:=AW (tmpl:=tn o z) (Ev.out ev) hl
 exact ⟨z,y,hk,q,G,oz,ok,ln⟩
theorem sZ.round {L:List AV} {o o':σ} (e1:o=o') (ev:Ev env call b s .normal ⟨L,hk,[],.no⟩) (uT:(Nat→AV)→List AV) (hl:L=uT fun k=>L.getD k AV.undef) (ih:∀x,sZ call b ⟨uT x,hk,[],.no⟩ ex h tn own N o'):sZ call b s ex h tn own N o:=by
 subst e1
 have q:=ih fun k=>L.getD k AV.undef
 rw[←hl] at q
 obtain ⟨z,y,h2,x,g,oz,ok,ln⟩:=q;exact ⟨z,y,h2,Ev.loop ev x,g,oz,ok,ln⟩
end
section
variable {α:Type} [aA α]
theorem S6 {l:List α} {i:Nat} (h:i<l.length) (x:α):(l.set i x).g i=x:=by
 rw[List.g,List.getD_eq_getElem?_getD,List.getElem?_set_self h];rfl
theorem S7 {l:List α} {i j:Nat} (h:i≠j) (x:α):(l.set i x).g j=l.g j:=by
 rw[List.g,List.g,List.getD_eq_getElem?_getD,List.getD_eq_getElem?_getD,List.getElem?_set_ne h]
theorem rh {l:List α} {i:Nat} (h:i<l.length) (x:α):setFrom (l.flatMap aA.c) (i*aA.n α) (aA.c x)=(l.set i x).flatMap aA.c:=by
 have hn:0<aA.n α:=aA.pos
 have hl:=ch aA.len l
 have Nb:=ch aA.len (l.set i x)
 rw[List.length_set] at Nb
 have hx:=aA.len x
 apply List.ext_getElem?
 intro k
 rw[eu,hx,hl]
 have hk:k=k/aA.n α*aA.n α+k%aA.n α:=by rw[Nat.mul_comm];exact (Nat.div_add_mod k _).symm
 have hr:=Nat.mod_lt k hn
 generalize k/aA.n α=q at hk
 generalize k%aA.n α=r at hk hr
 by_cases hq:q<l.length
 · have h1:=iz aA.len l q r hq hr
   have h2:=iz aA.len (l.set i x) q r (by rw[List.length_set];exact hq) hr
   subst hk
   by_cases e:q=i
   · subst e
     have:q*aA.n α+aA.n α≤l.length*aA.n α:=by rw[←Nat.succ_mul];exact Nat.mul_le_mul_right _ hq
     rw[if_pos ⟨by omega,by omega,by omega⟩,h2,S6 hq,Nat.add_sub_cancel_left]
   · rw[if_neg,h1,h2,S7 (Ne.symm e)]
     intro ⟨a,b,c⟩
     rcases Nat.lt_or_gt_of_ne e with e | e
     · have:q*aA.n α+aA.n α≤i*aA.n α:=by rw[←Nat.succ_mul];exact Nat.mul_le_mul_right _ e
       omega
     · have:i*aA.n α+aA.n α≤q*aA.n α:=by rw[←Nat.succ_mul];exact Nat.mul_le_mul_right _ e
       omega
 · have:l.length*aA.n α≤q*aA.n α:=Nat.mul_le_mul_right _ o!
   rw[if_neg o!,List.getElem?_eq_none o!,List.getElem?_eq_none o!]
theorem bC.at {h0 h:au} {z:AV} {l:List α} (y:Tidy h) (y0:Tidy h0) (a:Has h0 h) (o:bC h0 h z l) {i:Nat} (hi:i<l.length):
 ∃p,dr env (some (.slice (aA.e α))) (some z) (some (.int .i64 ((i:Nat):Int)))=some (.ptr p (i*aA.n α))∧
  ∀x:α,(aA.c x).all AV.scalar=true→∃h',eF env h (aA.e α) (.ptr p (i*aA.n α)) (.agg (aA.c x))=some h'∧Tidy h'∧h'.nx=h.nx∧bC h0 h' z (l.set i x)∧Has h0 h':=by
 rcases o with ⟨_,rfl⟩ | ⟨hn,p,op,rfl,hp,hg⟩
 · simp at hi
 · have ix:=cx (E:=env) (i:=p) (o:=0) (c:=l.length) (b:=op) (aA.size (α:=α)) hi
   rw[Nat.zero_add] at ix
   refine ⟨p,ix,fun x hx=>?_⟩
   have hl:=ch aA.len l
   have hb:i*aA.n α+aA.n α≤l.length*aA.n α:=by rw[←Nat.succ_mul];exact Nat.mul_le_mul_right _ hi
   obtain ⟨h',s⟩:=sQ (E:=env) (t:=aA.e α) (o:=i*aA.n α) (n:=aA.n α) (v:= .agg (aA.c x)) hg aA.size (aA.len x) o! hx
   have g':=ue y s hg
   refine ⟨h',s,rb y s hg,sS s hg,.inr ⟨by intro e;rw[←List.length_eq_zero_iff,List.length_set] at e;omega,p,op,by rw[List.length_set],hp,?_⟩,fun j w gw=>?_⟩
   · rw[g']
     show some (a_.cells (setFrom (l.flatMap aA.c) (i*aA.n α) (aA.c x)) _ _)=_
     rw[rh hi]
   · have:=y0 _ _ gw
     exact oH y s hg o! (a _ _ gw)
theorem aa6 {h:au} {l:List α} {i:Nat} {x:α} (a:∀y∈l,aA.ok h y) (b:aA.ok h x):∀y∈l.set i x,aA.ok h y:=fun y hy=>(List.mem_or_eq_of_mem_set hy).elim (a y) fun e=>e▸b
end

section
variable {h:au} {b:Nat} {pre post:List AV} {L:List Int} {e:TypeId} {ro:Bool} {o t j x:Nat}
def Zx (L:List Int) (d s n:Nat):List Int:=if d+n≤L.length∧s+n≤L.length then L.take d++(L.drop s).take n++L.drop (d+n) else L
theorem Pu (L:List Int) (d s n:Nat):(Zx L d s n).length=L.length:=by
 unfold Zx
 split
 · simp only[List.length_append,List.length_take,List.length_drop];omega
 · rfl
theorem agy {h:au} {b:Nat} {o:a_} (y:Tidy h) (g:h.get b=some o):∃hw,Tidy hw∧hw.nx=h.nx∧hw.get b=none∧Has hw h∧∀i,i≠b→hw.get i=h.get i:=
 ⟨h.put b none,fun i x q=>by
  by_cases e:i=b
  · subst e;rw[au.bS] at q;cases q
  · rw[au.bA (Ne.symm e)] at q;exact y i x q,rfl,au.bS _,fun i x q=>by
  by_cases e:i=b
  · subst e;rw[au.bS] at q;cases q
  · rw[au.bA (Ne.symm e)] at q;exact q,fun i e=>au.bA (Ne.symm e) _⟩
end
theorem l! {p:Prop} (h:p:=by first | omega | (simp only[List.length_set,List.length_replicate,Pu]<;>omega)):p:=h
end
end Go.Proofs.aH
