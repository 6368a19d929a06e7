import Derived.Test.YtfllahfbmaafcaaA7
import Derived.Test.YtfllahfbmaafcaaEnv
namespace Go.Proofs.aK
open Go.Proofs Ab
noncomputable section
set_option maxRecDepth 100000
set_option maxHeartbeats 4000000
set_option linter.unusedVariables false
set_option linter.unusedSimpArgs false
theorem adh {b:Bool} (h:b=true):(!b)=false:=by rw[h];rfl
theorem adi {b:Bool} (h:b=false):(!b)=true:=by rw[h];rfl
theorem dZ (t:TypeId) (c d:Bool) (k:IntKind) (a b:Int):bU env .eql t c d (some (.int k a)) (some (.int k b))=some (.bool (decide (a=b))):=Te t c d k a b
theorem gL (t:TypeId) (c d:Bool) (k:IntKind) (a b:Int):bU env .neq t c d (some (.int k a)) (some (.int k b))=some (.bool (!decide (a=b))):=Tf t c d k a b
theorem cS (t:TypeId) (c d:Bool) (k:IntKind) (a b:Int):bU env .lss t c d (some (.int k a)) (some (.int k b))=some (.bool (decide (a<b))):=Tg t c d k a b
theorem gA (t:TypeId) (c d:Bool) (k:IntKind) (a b:Int):bU env .leq t c d (some (.int k a)) (some (.int k b))=some (.bool (decide (a≤b))):=Th t c d k a b
theorem dx (t:TypeId) (c d:Bool) (k:IntKind) (a b:Int):bU env .gtr t c d (some (.int k a)) (some (.int k b))=some (.bool (decide (b<a))):=Ti t c d k a b
theorem eG (t:TypeId) (c d:Bool) (k:IntKind) (a b:Int):bU env .geq t c d (some (.int k a)) (some (.int k b))=some (.bool (decide (b≤a))):=Tj t c d k a b
theorem Lb (t:TypeId) (c d:Bool) (a b:List UInt8):bU env .eql t c d (some (.str a)) (some (.str b))=some (.bool (decide (a=b))):=OO t c d a b
theorem oU (t:TypeId) (c d:Bool) {k:IntKind} {a b z:Int} (h:k.wrap (a+b)=z):bU env .add t c d (some (.int k a)) (some (.int k b))=some (.int k z):=zp h
theorem CU (t:TypeId) (c d:Bool) {k:IntKind} {a b z:Int} (h:k.wrap (a - b)=z):bU env .sub t c d (some (.int k a)) (some (.int k b))=some (.int k z):=zq h
theorem NV (t:TypeId) (c d:Bool) {k:IntKind} {a b z:Int} (h:k.wrap (a*b)=z):bU env .mul t c d (some (.int k a)) (some (.int k b))=some (.int k z):=HE h
theorem aL (t:TypeId) (o:Nat) (v:AV) {h:au} {i:Nat} {cs:List AV} {e:TypeId} {ro:Bool} (hg:h.get i=some (.cells cs e ro)) (hv:fU env t cs o=some v):bw env h t (.ptr i o)=some v:=oh hg hv
theorem BQ {a:Nat} (h:a<9223372036854775808):IntKind.i64.wrap (a:Int)=(a:Int):=wrap_i64 (by omega) (by omega)
theorem ks (t:TypeId) (c d:Bool) (a b:Nat) (h:a+b<9223372036854775808):bU env .add t c d (some (.int .i64 (a:Int))) (some (.int .i64 (b:Int)))=some (.int .i64 ((a+b:Nat):Int)):=zp (by rw[show (a:Int)+b=((a+b:Nat):Int) by omega];exact BQ h)
theorem Lc (t:TypeId) (c d:Bool) (a b:Nat) (h:b≤a) (ha:a<9223372036854775808):bU env .sub t c d (some (.int .i64 (a:Int))) (some (.int .i64 (b:Int)))=some (.int .i64 ((a - b:Nat):Int)):=zq (by rw[show (a:Int) - b=((a - b:Nat):Int) by omega];exact BQ (by omega))
theorem pk_ (d:Nat) (c:Code) (ts:List AV) (h:au) (ds:List nw) (rc:RC) (e:gR) (h':au) {al:List lB} {ps:List Prop} (k:Pk al [] ps) (hr:run env (dw d) 300 c ⟨ts,h,ds,rc⟩ al []= .at e ⟨w6 (run env (dw d) 300 c ⟨ts,h,ds,rc⟩ al []),h',ds,rc⟩ [] ps):Ev env (dw d) c ⟨ts,h,ds,rc⟩ e ⟨w6 (run env (dw d) 300 c ⟨ts,h,ds,rc⟩ al []),h',ds,rc⟩:=Vg k hr
theorem pk (d:Nat) (c:Code) (ts:List AV) (h:au) (e:gR) (h':au) {al:List lB} {ps:List Prop} (k:Pk al [] ps) (hr:run env (dw d) 300 c ⟨ts,h,[],.no⟩ al []= .at e ⟨w6 (run env (dw d) 300 c ⟨ts,h,[],.no⟩ al []),h',[],.no⟩ [] ps):Ev env (dw d) c ⟨ts,h,[],.no⟩ e ⟨w6 (run env (dw d) 300 c ⟨ts,h,[],.no⟩ al []),h',[],.no⟩:=Vg k hr
theorem jS {h:au} (y:Tidy h) (o:aR):∃h',h.new o=some h'∧Tidy h'∧h'.nx=h.nx+1∧h'.get h.nx=some o∧Has h h':=by
 obtain ⟨h',n⟩:=kr (h:=h) o
 exact ⟨h',n,fM y n,kq n,iD n,uv y n⟩
theorem W1 {h:au} {t e:TypeId} {i o n:Nat} {cs N:List AV} {v:AV} (y:Tidy h) (gg:h.get i=some (.cells cs e false)) (hs:bT env t=some n) (hv:v.cells.length=n) (hl:Nat.ble (o+n) cs.length=true) (hN:setFrom cs o v.cells=N) (hk:v.cells.all AV.scalar=true):∃h',dX env h t (.ptr i o) v=some h'∧Tidy h'∧h'.nx=h.nx∧h'.get i=some (.cells N e false)∧Kept i h h':=by
 obtain ⟨h',s⟩:=uw (E:=env) gg hs hv (Nat.le_of_ble_eq_true hl) hk
 exact ⟨h',s,o9 y s gg,qz s gg,by rw[←hN];exact rL y s gg,Kept.store y s gg⟩
theorem sa {h:au} {t e:TypeId} {i n:Nat} {cs L:List AV} (y:Tidy h) (gg:h.get i=some (.cells cs e false)) (hs:bT env t=some n) (hv:L.length=n) (hc:cs.length=n) (hk:L.all AV.scalar=true):∃h',dX env h t (.ptr i 0) (.agg L)=some h'∧Tidy h'∧h'.nx=h.nx∧h'.get i=some (.cells L e false)∧Kept i h h':=
 W1 y gg hs hv (by rw[hc,Nat.zero_add,Nat.ble_eq];exact Nat.le_refl n) (by
  show setFrom cs 0 L=L
  apply List.ext_getElem?
  intro k
  rw[dy]
  split
  · rfl
  · rw[List.getElem?_eq_none (by omega),List.getElem?_eq_none (by omega)]) hk
structure Rk (f:List lB→List lB) (ps:List Prop):Prop where
 ok:ke ps
section
variable {f:List lB→List lB} {ps:List Prop}
theorem Rn (n:Nat) (k:Rk f ps):Rk (fun l=>f (cs n l)) ps:=⟨k.ok⟩
end
section
variable {f:List lB→List lB} {ps:List Prop}
theorem Rh {P:Prop} (h:P) (k:Rk f ps):Rk f (P::ps):=⟨⟨h,k.ok⟩⟩
end
theorem k! {p:Prop} (h:p:=by kernel_rfl):p:=h
theorem o! {p:Prop} (h:p:=by omega):p:=h
theorem nbf {b:Bool} (h:(!b)=false):b=true:=by cases b;cases h;rfl
theorem nbt {b:Bool} (h:(!b)=true):b=false:=by cases b;rfl;cases h
theorem d! {p:Prop} (h:p:=by first | assumption | exact adh (by assumption) | exact adi (by assumption) | exact nbf (by assumption) | exact nbt (by assumption) | exact dT (by omega) | exact dF (by omega) | exact nT (by omega) | exact nF (by omega)):p:=h
@[reducible] def _root_.Zi (x:Int):AV:= .int .i64 x
@[reducible] def _root_.Zn (n:Nat):AV:= .int .i64 (n:Int)
@[reducible] def _root_.Pt (b:Nat):AV:= .ptr b 0
theorem _root_.jG {c:Bool} (x y:Bool) (h:c=true):wR (some (.bool c)) (some (.bool x)) (some (.bool y))=some (.bool x):=OQ h
theorem _root_.Tr {c:Bool} (x y:Bool) (h:c=false):wR (some (.bool c)) (some (.bool x)) (some (.bool y))=some (.bool y):=bJ h
theorem _root_.AI {c:Bool} (x:Bool) (h:c=true):wR (some (.bool c)) (some (.bool x)) (some AV.undef)=some (.bool x):=OQ h
theorem _root_.pH {c:Bool} (x:Bool) (h:c=false):wR (some (.bool c)) (some AV.undef) (some (.bool x))=some (.bool x):=bJ h
section
variable {al:List lB} {p0 ps:List Prop}
theorem BC {u v:Bool} (h:u=v) (k:Pk al ((u=v)::p0) ps):Pk (.b v:: .c::al) p0 ps:=BB h (CC k)
theorem BV {u v:Bool} {l:Option AV} {x:AV} (h:u=v) (e:l=some x) (k:Pk al ((l=some x)::(u=v)::p0) ps):Pk (.b v:: .v x::al) p0 ps:=BB h (VV e k)
theorem BM {u v:Bool} {l:Option AV} {x:AV} (h:u=v) (e:l=some x) (k:Pk al ((l=some x)::(u=v)::p0) ps):Pk (.b v:: .m x::al) p0 ps:=BB h (MM e k)
end
theorem _root_.Go.Ab.Has.bG {h0 h h':au} {b:Nat} (a:Has h0 h) (k:Kept b h h') (y:Tidy h0) (hb:h0.nx≤b):Has h0 h':=fun i x g=>by
 have:=y i x g
 exact k i x o! (a i x g)
class az (α:Type) extends Inhabited α where
 c:α→List AV
 n:Nat
 e:TypeId
 len:∀x,(c x).length=n
 ok:au→α→Prop
 mono:∀{h h':au} {x:α},Has h h'→ok h x→ok h' x
 size:bT env e=some n
 agg:eA env e=some true
 pos:0<n
@[reducible] def imax (x y:Int):Int:=if y>x then y else x
@[reducible] def FH (x y:Int):Int:=if y<x then y else x
def _root_.List.g {α:Type} [Inhabited α] (l:List α) (i:Nat):α:=l.getD i default
structure aQ {α:Type} [az α] (h:au) (v:AV) (l:List α):Prop where
 at_:lL env h (az.e α) (az.n α) v l.length (l.flatMap az.c)
 known:v= .aI∨v= .dG∨∃p o m c b,v= .slice p o m c b∧(b=true→0<c)
 Dp:∀x∈l,az.ok h x
theorem bP {α β:Type} {size:Nat} {f:α→List β} (hf:∀x,(f x).length=size) (l:List α):(l.flatMap f).length=l.length*size:=by
 induction l with
 | nil=>simp
 | cons x l ih=>rw[List.flatMap_cons,List.length_append,ih,hf,List.length_cons,Nat.succ_mul];omega
section
variable {α:Type} [az α] {h:au} {v:AV} {l:List α}
theorem aQ.has {h':au} (x:aQ h v l) (a:Has h h'):aQ h' v l:=⟨x.at_.has a,x.known,fun y hy=>az.mono a (x.Dp y hy)⟩
theorem jT {i:Nat} (hi:i<l.length):l.g i∈l:=by
 rw[List.g,List.getD_eq_getElem?_getD,List.getElem?_eq_getElem hi];exact List.getElem_mem hi
theorem aQ.ok (x:aQ h v l) {i:Nat} (hi:i<l.length):az.ok h (l.g i):=x.Dp _ (jT hi)
theorem aQ.small (x:aQ h v l):l.length<2^60:=x.at_.small
theorem aQ.len (x:aQ h v l):eF (some (.slice (az.e α))) (some v)=some (.int .i64 (l.length:Nat)):=x.at_.lens
theorem aQ.scalar (x:aQ h v l):AV.scalar v=true:=by
 rcases x.known with rfl | rfl | ⟨p,o,m,c,b,rfl,_⟩<;>rfl
theorem gD {β:Type} {size:Nat} {f:α→List β} (hf:∀x,(f x).length=size):∀(l:List α) (i j:Nat) (_:i<l.length),j<size→(l.flatMap f)[i*size+j]? =(f (l.g i))[j]?
 | [],i,j,hi,_=>by cases hi
 | x::l,0,j,_,hj=>by
   rw[List.flatMap_cons,Nat.zero_mul,Nat.zero_add,List.getElem?_append_left (by rw[hf];exact hj)];rfl
 | x::l,i+1,j,hi,hj=>by
   have e:(i+1)*size+j -(f x).length=i*size+j:=by rw[hf,Nat.succ_mul];omega
   rw[List.flatMap_cons,List.getElem?_append_right (by rw[hf,Nat.succ_mul];omega),e,gD hf l i j (by simpa using hi) hj];rfl
theorem aQ.elem (x:aQ h v l) {i:Nat} (hi:i<l.length):∃p q,dL env (some (.slice (az.e α))) (some v) (some (.int .i64 ((i:Nat):Int)))=some (.ptr p q):=by
 rcases x.at_.block with h0 | ⟨p,o,m,c,b,C,f,ro,h1,_,h2,h3⟩
 · omega
 · subst h1
   have hm:m=l.length:=by
    have:=x.at_.lens
    rw[eY] at this
    simp only[Option.some.injEq,AV.int.injEq,true_and] at this
    omega
   exact ⟨p,o+i*az.n α,b7 x.at_.size o!⟩
theorem aQ.block (x:aQ h v l) {i p q:Nat} (hi:i<l.length) (hx:dL env (some (.slice (az.e α))) (some v) (some (.int .i64 ((i:Nat):Int)))=some (.ptr p q)):
 ∃C f ro,h.get p=some (.cells C f ro)∧∀j,j<az.n α→C[q+j]? =(az.c (l.g i))[j]? :=by
 rcases x.at_.block with h0 | ⟨p',o,m,c,b,C,f,ro,h1,_,h2,h3⟩
 · omega
 · subst h1
   have hm:m=l.length:=by
    have:=x.at_.lens
    rw[eY] at this
    simp only[Option.some.injEq,AV.int.injEq,true_and] at this
    omega
   rw[b7 x.at_.size o!] at hx
   simp only[Option.some.injEq,AV.ptr.injEq] at hx
   obtain ⟨rfl,rfl⟩:=hx
   refine ⟨C,f,ro,h2,fun j hj=>?_⟩
   have e:=gD az.len l i j hi hj
   have jE:i*az.n α+j<(l.flatMap az.c).length:=by
    rw[bP az.len]
    calc i*az.n α+j<i*az.n α+az.n α:=by omega
     _=(i+1)*az.n α:=by rw[Nat.succ_mul]
     _≤l.length*az.n α:=Nat.mul_le_mul_right _ hi
   rw[←e,Nat.add_assoc,h3 _ jE]
theorem aQ.load (x:aQ h v l) {i p q:Nat} (hi:i<l.length) (hx:dL env (some (.slice (az.e α))) (some v) (some (.int .i64 ((i:Nat):Int)))=some (.ptr p q)):bw env h (az.e α) (.ptr p q)=some (.agg (az.c (l.g i))):=by
 obtain ⟨C,f,ro,h1,h2⟩:=x.block hi hx
 have hl:=az.len (l.g i)
 have hn:q+az.n α≤C.length:=by
  have h0:=az.pos (α:=α)
  have:=h2 (az.n α - 1) o!
  rw[List.getElem?_eq_getElem (by omega:az.n α - 1<(az.c (l.g i)).length)] at this
  have:=(List.getElem?_eq_some_iff.1 this).1
  omega
 simp only[bw,h1,fU,az.agg,az.size,hn,if_true]
 congr 2
 apply List.ext_getElem?
 intro j
 by_cases hj:j<az.n α
 · rw[List.getElem?_take_of_lt hj,List.getElem?_drop,h2 j hj]
 · rw[List.getElem?_eq_none (by rw[List.length_take];omega),List.getElem?_eq_none o!]
theorem aQ.part (x:aQ h v l) {i p q j:Nat} {t:TypeId} {w:AV} (hi:i<l.length) (hx:dL env (some (.slice (az.e α))) (some v) (some (.int .i64 ((i:Nat):Int)))=some (.ptr p q)) (ht:eA env t=some false) (hw:(az.c (l.g i))[j]? =some w):bw env h t (.ptr p (q+j))=some w:=by
 obtain ⟨C,f,ro,h1,h2⟩:=x.block hi hx
 have hj:=(List.getElem?_eq_some_iff.1 hw).1
 rw[az.len] at hj
 simp only[bw,h1,fU,ht]
 rw[h2 j hj,hw]
theorem aQ.aak (x:aQ h v l) {i p q j n:Nat} {t:TypeId} {ws:List AV} (hi:i<l.length) (hx:dL env (some (.slice (az.e α))) (some v) (some (.int .i64 ((i:Nat):Int)))=some (.ptr p q)) (ht:eA env t=some true) (hs:bT env t=some n) (hj:j+n≤az.n α) (hw:((az.c (l.g i)).drop j).take n=ws):bw env h t (.ptr p (q+j))=some (.agg ws):=by
 obtain ⟨C,f,ro,h1,h2⟩:=x.block hi hx
 have hl:=az.len (l.g i)
 have hn:q+az.n α≤C.length:=by
  have h0:=az.pos (α:=α)
  have:=h2 (az.n α - 1) o!
  rw[List.getElem?_eq_getElem (by omega:az.n α - 1<(az.c (l.g i)).length)] at this
  have:=(List.getElem?_eq_some_iff.1 this).1
  omega
 have hc:q+j+n≤C.length:=by omega
 simp only[bw,h1,fU,ht,hs,hc,if_true]
 rw[←hw]
 congr 2
 apply List.ext_getElem?
 intro k
 by_cases hk:k<n
 · rw[List.getElem?_take_of_lt hk,List.getElem?_take_of_lt hk,List.getElem?_drop,List.getElem?_drop,Nat.add_assoc,h2 (j+k) o!]
 · rw[List.getElem?_eq_none (by rw[List.length_take];omega),List.getElem?_eq_none (by rw[List.length_take];omega)]
theorem aQ.nil {α:Type} [az α] {h:au}:aQ h .aI ([]:List α):=⟨⟨az.size,by simp,by show 0<2^60;decide,rfl,.inl rfl⟩,.inl rfl,fun x hx=>by cases hx⟩
theorem aQ.pre (x:aQ h v l) {t:TypeId} (ht:env.P.underlying t=some (.slice (az.e α))) {i:Nat} (hi:i<l.length):∃r,dW env t v none (some (.int .i64 ((i:Nat):Int))) none=some r∧aQ h r (l.take i):=by
 rcases x.at_.block with h0 | ⟨p,o,m,c,b,C,f,ro,h1,hc,h2,h3⟩
 · omega
 · subst h1
   have hm:m=l.length:=by
    have:=x.at_.lens
    rw[eY] at this
    simp only[Option.some.injEq,AV.int.injEq,true_and] at this
    omega
   subst hm
   have hb:b=true→0<c:=fun e=>by omega
   refine ⟨.slice p o i c b,?_,⟨⟨x.at_.size,bP az.len _,by have:=x.small;simp;omega,?_,.inr ⟨p,o,i,c,b,C,f,ro,rfl,by omega,h2,fun j hj=>?_⟩⟩,.inr (.inr ⟨_,_,_,_,_,rfl,hb⟩),fun y hy=>x.Dp y (List.mem_of_mem_take hy)⟩⟩
   · simp only[dW,ht,x.at_.size,hc,if_true,oi (len:=l.length) (cap:=c) none (some (.int .i64 ((i:Nat):Int))) (.inr ⟨rfl,rfl⟩) (.inl rfl) (Nat.zero_le i) o!]
     rw[if_neg o!]
     simp
   · rw[List.length_take,Nat.min_eq_left o!];exact eY _ _ _ _ _ _
   · rw[bP az.len,List.length_take,Nat.min_eq_left o!] at hj
     have jE:j<(l.flatMap az.c).length:=by
      rw[bP az.len];exact Nat.lt_of_lt_of_le hj (Nat.mul_le_mul_right _ o!)
     rw[h3 j jE]
     have e:l=l.take i++l.drop i:=(List.take_append_drop i l).symm
     conv=>lhs;rw[e,List.flatMap_append]
     rw[List.getElem?_append_left]
     rw[bP az.len,List.length_take,Nat.min_eq_left o!];exact hj
def bh {ρ:Type} (call:aW) (b:Code) (s:St) (ex:gR) (hh:au) (tn:(Nat→AV)→List AV) (tr:ρ→(Nat→AV)→List AV):Option ρ→Prop
 | none=>∃y hk,Ev env call (.loop b) s ex ⟨tn y,hk,[],.no⟩∧Grow hh hk
 | some r=>∃y hk,Ev env call (.loop b) s .ret ⟨tr r y,hk,[],.no⟩∧Grow hh hk
section
variable {ρ:Type} {call:aW} {b:Code} {s:St} {ex:gR} {hh hk:au} {tn:(Nat→AV)→List AV} {tr:ρ→(Nat→AV)→List AV}
theorem bh.n {o:Option ρ} (e:o=none) (x:bh call b s ex hh tn tr o):∃y hk,Ev env call (.loop b) s ex ⟨tn y,hk,[],.no⟩∧Grow hh hk:=by subst e;exact x
theorem bh.r {o:Option ρ} {r:ρ} (e:o=some r) (x:bh call b s ex hh tn tr o):∃y hk,Ev env call (.loop b) s .ret ⟨tr r y,hk,[],.no⟩∧Grow hh hk:=by subst e;exact x
theorem bh.out {i:Nat} {L:List AV} {o:Option ρ} (e:o=none) (ev:Ev env call b s (.exit i) ⟨L,hk,[],.no⟩) (G:Grow hh hk) (hl:L=tn fun k=>L.getD k AV.undef):bh call b s (.exit i) hh tn tr o:=by
 subst e
 obtain ⟨y,q⟩:=Dm (Ev.out ev) hl
 exact ⟨y,hk,q,G⟩
theorem bh.ret {L:List AV} {o:Option ρ} (r:ρ) (e:o=some r) (ev:Ev env call b s .ret ⟨L,hk,[],.no⟩) (G:Grow hh hk) (hl:L=tr r fun k=>L.getD k AV.undef):bh call b s ex hh tn tr o:=by
 subst e
 obtain ⟨y,q⟩:=Dm (tmpl:=tr r) (Ev.ret ev) hl
 exact ⟨y,hk,q,G⟩
theorem bh.round {L:List AV} {o o':Option ρ} (e:o=o') (ev:Ev env call b s .normal ⟨L,hk,[],.no⟩) (G:Grow hh hk) (w8:(Nat→AV)→List AV) (hl:L=w8 fun k=>L.getD k AV.undef) (ih:∀x,bh call b ⟨w8 x,hk,[],.no⟩ ex hk tn tr o'):bh call b s ex hh tn tr o:=by
 subst e
 have q:=ih fun k=>L.getD k AV.undef
 rw[←hl] at q
 cases o with
 | none=>obtain ⟨y,h2,x,g⟩:=q;exact ⟨y,h2,Ev.loop ev x,G.trans g⟩
 | some r=>obtain ⟨y,h2,x,g⟩:=q;exact ⟨y,h2,Ev.loop ev x,G.trans g⟩
end
def jU {ρ:Type} (call:aW) (b:Code) (s:St) (ex:gR) (h hh:au) (tn:(Nat→AV)→List AV) (tr:ρ→(Nat→AV)→List AV) (pb:Nat) (cl:ρ→aR):Option ρ→Prop
 | none=>∃y hk,Ev env call (.loop b) s ex ⟨tn y,hk,[],.no⟩∧Grow hh hk
 | some r=>∃y hk,Ev env call (.loop b) s .ret ⟨tr r y,hk,[],.no⟩∧Tidy hk∧Has h hk∧hh.nx≤hk.nx∧hk.get pb=some (cl r)
section
variable {ρ:Type} {call:aW} {b:Code} {s:St} {ex:gR} {h hh hk:au} {tn:(Nat→AV)→List AV} {tr:ρ→(Nat→AV)→List AV} {pb:Nat} {cl:ρ→aR}
theorem jU.n {o:Option ρ} (e:o=none) (x:jU call b s ex h hh tn tr pb cl o):∃y hk,Ev env call (.loop b) s ex ⟨tn y,hk,[],.no⟩∧Grow hh hk:=by subst e;exact x
theorem jU.r {o:Option ρ} {r:ρ} (e:o=some r) (x:jU call b s ex h hh tn tr pb cl o):∃y hk,Ev env call (.loop b) s .ret ⟨tr r y,hk,[],.no⟩∧Tidy hk∧Has h hk∧hh.nx≤hk.nx∧hk.get pb=some (cl r):=by subst e;exact x
theorem jU.out {i:Nat} {L:List AV} {o:Option ρ} (e:o=none) (ev:Ev env call b s (.exit i) ⟨L,hk,[],.no⟩) (G:Grow hh hk) (hl:L=tn fun k=>L.getD k AV.undef):jU call b s (.exit i) h hh tn tr pb cl o:=by
 subst e
 obtain ⟨y,q⟩:=Dm (Ev.out ev) hl
 exact ⟨y,hk,q,G⟩
theorem jU.round {L:List AV} {o o':Option ρ} (e:o=o') (ev:Ev env call b s .normal ⟨L,hk,[],.no⟩) (G:Grow hh hk) (w8:(Nat→AV)→List AV) (hl:L=w8 fun k=>L.getD k AV.undef) (ih:∀x,jU call b ⟨w8 x,hk,[],.no⟩ ex h hk tn tr pb cl o'):jU call b s ex h hh tn tr pb cl o:=by
 subst e
 have q:=ih fun k=>L.getD k AV.undef
 rw[←hl] at q
 cases o with
 | none=>obtain ⟨y,h2,x,g⟩:=q;exact ⟨y,h2,Ev.loop ev x,G.trans g⟩
 | some r=>obtain ⟨y,h2,x,y1,a1,n1,g1⟩:=q;exact ⟨y,h2,Ev.loop ev x,y1,a1,Nat.le_trans G.n n1,g1⟩
end
def kD {σ:Type} (call:aW) (b:Code) (s:St) (ex:gR) (hh:au) (tn:σ→(Nat→AV)→List AV) (Q:σ→Prop) (r:σ):Prop:=∃y hk,Ev env call (.loop b) s ex ⟨tn r y,hk,[],.no⟩∧Grow hh hk∧Q r
section
variable {σ:Type} {call:aW} {b:Code} {s:St} {ex:gR} {hh hk:au} {tn:σ→(Nat→AV)→List AV} {Q:σ→Prop}
theorem kD.out {i:Nat} {L:List AV} {o:σ} (r:σ) (e:o=r) (ev:Ev env call b s (.exit i) ⟨L,hk,[],.no⟩) (G:Grow hh hk) (iq:Q r) (hl:L=tn r fun k=>L.getD k AV.undef):kD call b s (.exit i) hh tn Q o:=by
 subst e
 obtain ⟨y,q⟩:=Dm (tmpl:=tn o) (Ev.out ev) hl
 exact ⟨y,hk,q,G,iq⟩
theorem kD.round {L:List AV} {o o':σ} (e:o=o') (ev:Ev env call b s .normal ⟨L,hk,[],.no⟩) (G:Grow hh hk) (w8:(Nat→AV)→List AV) (hl:L=w8 fun k=>L.getD k AV.undef) (ih:∀x,kD call b ⟨w8 x,hk,[],.no⟩ ex hk tn Q o'):kD call b s ex hh tn Q o:=by
 subst e
 have q:=ih fun k=>L.getD k AV.undef
 rw[←hl] at q
 obtain ⟨y,h2,x,g,i⟩:=q;exact ⟨y,h2,Ev.loop ev x,G.trans g,i⟩
end
theorem aQ.same {α:Type} [az α] {h:au} {v:AV} {l:List α} (x:aQ h v l) (n:Nat):AV.same (n+1) v v=true:=by
 rcases x.known with rfl | rfl | ⟨p,o,m,c,b,rfl,_⟩
 · rfl
 · rfl
 · exact zj n p o m c b
def Ts (cs:List AV):Prop:=∀n,cg (AV.same (n+1)) cs cs=true
theorem RR:Ts []:=fun _=>rfl
theorem sx {x:AV} {cs:List AV} (hx:∀n,AV.same (n+1) x x=true) (hc:Ts cs):Ts (x::cs):=fun n=>by
 show (AV.same (n+1) x x&&cg (AV.same (n+1)) cs cs)=true
 rw[hx,hc];rfl
theorem ja (n:Nat) {cs:List AV} (h:Ts cs):AV.same (n+2) (.agg cs) (.agg cs)=true:=h n
theorem kE {s:List UInt8} {j:Nat} (hj:j<s.length):r6 env (some .string) (some (.str s)) (some (.int .i64 ((j:Nat):Int)))=some (.int .u8 (((s.g j).toNat:Nat):Int)):=by
 refine OP ?_
 rw[List.g,List.getD_eq_getElem?_getD,List.getElem?_eq_getElem hj];rfl
end
theorem qD {h:au} {e s xt:TypeId} {xd:TypeDesc} {tys:Array TypeId} {bytes:Nat} {z x:AV} {M:List AV} (h0:tys[0]? =some s) (h1:tys[1]? =some xt) (hs:env.P.underlying s=some (.slice e)) (hx:env.P.underlying xt=some xd) (hi:jk xd=false) (GK:bT env e=some 1) (hb:eK env e=some bytes) (o_:eh env e=some z) (hz:z.cells.length=1) (h8:bytes≤63) (hlen:jD x=some M.length) (hf:dP h 1 M.length x=some M) (mR:M.all AV.scalar=true) (hm:M≠ []) (hl:M.length≤1073741824):
 ∃h',bf env h tys .aI x=some (.slice h.nx 0 M.length M.length true,h')∧h.new (.cells M e false)=some h':=by
 obtain ⟨h',n⟩:=kr (h:=h) (.cells M e false)
 refine ⟨h',?_,n⟩
 have hn:¬M.length=0:=fun e=>hm (List.length_eq_zero_iff.1 e)
 have Cy:(4*M.length+4096)*(bytes+1)≤1099511627776:=Nat.le_trans (Nat.mul_le_mul (show 4*M.length+4096≤17179869184 by omega) (show bytes+1≤64 by omega)) (by decide)
 simp only[bf,h0,h1,hs,hx,hi,GK,hb,hlen,hf,o_,hz,mR,Nat.mul_one,hn,Cy,n,if_true,if_false,and_self,Bool.false_eq_true]
theorem qE {h:au} {e s xt:TypeId} {xd:TypeDesc} {tys:Array TypeId} {bytes p:Nat} {op:Bool} {z x:AV} {L M:List AV} (y:Tidy h) (h0:tys[0]? =some s) (h1:tys[1]? =some xt) (hs:env.P.underlying s=some (.slice e)) (hx:env.P.underlying xt=some xd) (hi:jk xd=false) (GK:bT env e=some 1) (hb:eK env e=some bytes) (o_:eh env e=some z) (hz:z.cells.length=1) (h8:bytes≤63) (hlen:jD x=some M.length) (hf:dP h 1 M.length x=some M) (mR:M.all AV.scalar=true) {n:Nat} (hn:L.length=n) (hm:M≠ []) (hl:n+M.length≤1073741824)
 (hg:h.get p=some (.cells L e false)):
 ∃h',bf env h tys (.slice p 0 n n op) x=some (.slice h.nx 0 (n+M.length) (n+M.length) true,h')∧Tidy h'∧h'.nx=h.nx+1∧Kept p h h'∧h'.get h.nx=some (.cells (L++M) e false):=by
 have hp:=y _ _ hg
 subst hn
 have ec:(L.drop 0).take (L.length*1)++M=L++M:=by
  rw[List.drop_zero,Nat.mul_one,List.take_of_length_le (Nat.le_refl _)]
 have y2:Tidy (if op then h.put p none else h):=by
  cases op with
  | false=>exact y
  | true=>
    intro i x g
    show i<h.nx
    by_cases hi:i=p
    · subst hi;exact hp
    · rw[if_pos rfl,au.aY (Ne.symm hi)] at g;exact y i x g
 have n2:(if op then h.put p none else h).nx=h.nx:=by cases op<;>rfl
 obtain ⟨h',n⟩:=kr (h:=if op then h.put p none else h) (.cells (L++M) e false)
 refine ⟨h',?_,fM y2 n,by rw[kq n,n2],fun i x hi g=>?_,by rw[←n2];exact iD n⟩
 · have hn:0<M.length:=List.length_pos_iff.2 hm
   have Cy:(4*(L.length+M.length)+4096)*(bytes+1)≤1099511627776:=Nat.le_trans (Nat.mul_le_mul (show 4*(L.length+M.length)+4096≤17179869184 by omega) (show bytes+1≤64 by omega)) (by decide)
   have hc:¬L.length+M.length≤L.length:=by omega
   simp only[bf,h0,h1,hs,hx,hi,GK,hb,hlen,hf,o_,hz,mR,hg,hc,if_true,if_false,Bool.false_eq_true,Nat.mul_one]
   rw[if_pos ⟨trivial,trivial,trivial⟩,if_pos ⟨Cy,by omega,fun _=>⟨trivial,by omega,trivial⟩⟩]
   rw[show List.take L.length (List.drop 0 L)=L by rw[List.drop_zero,List.take_length],n]
 · refine eZ y2 n ?_
   cases op with
   | false=>exact g
   | true=>rw[if_pos rfl,au.aY (Ne.symm hi)];exact g
def iE (e:TypeId) (h0 h:au) (z:AV) (L:List AV):Prop:=(z= .aI∧L=[])∨(L≠ []∧∃p op,z= .slice p 0 L.length L.length op∧h0.nx≤p∧h.get p=some (.cells L e false))
theorem iE.app {e s xt:TypeId} {xd:TypeDesc} {h0 h:au} {tys:Array TypeId} {bytes:Nat} {z0 z x:AV} {L M:List AV} (y:Tidy h) (y0:Tidy h0) (a:Has h0 h) (hle:h0.nx≤h.nx) (o:iE e h0 h z L) (t0:tys[0]? =some s) (t1:tys[1]? =some xt) (hs:env.P.underlying s=some (.slice e)) (hx:env.P.underlying xt=some xd) (hi:jk xd=false) (GK:bT env e=some 1) (hb:eK env e=some bytes) (o_:eh env e=some z0) (hz:z0.cells.length=1) (h8:bytes≤63) (hlen:jD x=some M.length) (hf:dP h 1 M.length x=some M) (mR:M.all AV.scalar=true) (hm:M≠ []) (hl:L.length+M.length≤1073741824):
 ∃z' h',bf env h tys z x=some (z',h')∧Tidy h'∧h.nx≤h'.nx∧Has h0 h'∧iE e h0 h' z' (L++M):=by
 rcases o with ⟨rfl,rfl⟩ | ⟨hn,p,op,rfl,hp,hg⟩
 · obtain ⟨h',e1,n⟩:=qD (h:=h) t0 t1 hs hx hi GK hb o_ hz h8 hlen hf mR hm (by simpa using hl)
   have:=kq n
   exact ⟨_,h',e1,fM y n,by omega,a.trans (uv y n),.inr ⟨by simpa using hm,h.nx,true,by simp,hle,iD n⟩⟩
 · obtain ⟨h',e1,y1,z1,k1,g1⟩:=qE (op:=op) y t0 t1 hs hx hi GK hb o_ hz h8 hlen hf mR rfl hm hl hg
   exact ⟨_,h',e1,y1,by omega,Has.bG a k1 y0 hp,.inr ⟨by simp [hn],h.nx,true,by rw[List.length_append],hle,g1⟩⟩
theorem JB {i:Nat} {b:Bool} {v:AV}:jD (.slice i 0 1 1 b)=some [v].length:=rfl
theorem BR {h:au} {i:Nat} {b:Bool} {v:AV} {e:TypeId} {ro:Bool} (hg:h.get i=some (.cells [v] e ro)):dP h 1 [v].length (.slice i 0 1 1 b)=some [v]:=by
 simp [dP,hg]
theorem iE.le {e:TypeId} {h0 h1 h:au} {z:AV} {L:List AV} (o:iE e h1 h z L) (hn:h0.nx≤h1.nx):iE e h0 h z L:=o.imp id fun ⟨dD,p,op,e,h1,g⟩=>⟨dD,p,op,e,by omega,g⟩
def zs (k:IntKind) (l:List Int):List AV:=l.map (AV.int k)
theorem zy (k:IntKind) (l:List Int):(zs k l).length=l.length:=by simp [zs]
theorem Tt (k:IntKind) (l:List Int) (x:Int):zs k (l++[x])=zs k l++[AV.int k x]:=by simp [zs]
theorem W2 (k:IntKind) (l:List Int) {i:Nat} (hi:i<l.length):(zs k l)[i]? =some (.int k (l.g i)):=by
 rw[zs,List.getElem?_map,List.getElem?_eq_getElem hi,List.g,List.getD_eq_getElem?_getD,List.getElem?_eq_getElem hi];rfl
structure pQ (h:au) (k:IntKind) (e:TypeId) (v:AV) (l:List Int):Prop where
 at_:lL env h e 1 v l.length (zs k l)
 agg:eA env e=some false
 known:v= .aI∨v= .dG∨∃p o m c b,v= .slice p o m c b
theorem pQ.scalar {k:IntKind} {h:au} {e:TypeId} {v:AV} {l:List Int} (x:pQ h k e v l):AV.scalar v=true:=by
 rcases x.known with rfl | rfl | ⟨p,o,m,c,b,rfl⟩<;>rfl
theorem pQ.same {k:IntKind} {h:au} {e:TypeId} {v:AV} {l:List Int} (x:pQ h k e v l) (n:Nat):AV.same (n+1) v v=true:=by
 rcases x.known with rfl | rfl | ⟨p,o,m,c,b,rfl⟩
 · rfl
 · rfl
 · exact zj n p o m c b
theorem pQ.small {k:IntKind} {h:au} {e:TypeId} {v:AV} {l:List Int} (x:pQ h k e v l):l.length<2^60:=x.at_.small
theorem pQ.len {k:IntKind} {h:au} {e:TypeId} {v:AV} {l:List Int} (x:pQ h k e v l):eF (some (.slice e)) (some v)=some (.int .i64 (l.length:Nat)):=x.at_.lens
theorem pQ.elem {k:IntKind} {h:au} {e:TypeId} {v:AV} {l:List Int} (x:pQ h k e v l) {i:Nat} (hi:i<l.length):∃p q,dL env (some (.slice e)) (some v) (some (.int .i64 ((i:Nat):Int)))=some (.ptr p q)∧bw env h e (.ptr p q)=some (.int k (l.g i)):=x.at_.elem x.agg (W2 k l hi)
theorem pQ.load {k:IntKind} {h:au} {e:TypeId} {v:AV} {l:List Int} (x:pQ h k e v l) {i p q:Nat} (hi:i<l.length) (hx:dL env (some (.slice e)) (some v) (some (.int .i64 ((i:Nat):Int)))=some (.ptr p q)):bw env h e (.ptr p q)=some (.int k (l.g i)):=by
 obtain ⟨p',q',h1,h2⟩:=x.elem hi
 rw[hx] at h1
 simp only[Option.some.injEq,AV.ptr.injEq] at h1
 obtain ⟨rfl,rfl⟩:=h1
 exact h2
theorem pQ.nil {k:IntKind} {h:au} {e:TypeId} (hs:bT env e=some 1) (ha:eA env e=some false):pQ h k e .aI []:=⟨⟨hs,rfl,by decide,rfl,.inl rfl⟩,ha,.inl rfl⟩
theorem iE.zs {k:IntKind} {e:TypeId} {h0 h:au} {z:AV} {l:List Int} (o:iE e h0 h z (aK.zs k l)) (hl:l.length<2^60) (hs:bT env e=some 1) (ha:eA env e=some false):pQ h k e z l:=by
 rcases o with ⟨rfl,e0⟩ | ⟨hn,p,op,rfl,_,hg⟩
 · have:l=[]:=List.length_eq_zero_iff.1 (by have:=congrArg List.length e0;rwa [zy] at this)
   subst this
   exact pQ.nil hs ha
 · rw[zy]
   exact ⟨⟨hs,by rw[zy];omega,hl,rfl,.inr ⟨p,0,_,_,op,_,_,_,rfl,Nat.le_refl _,hg,fun j _=>by rw[Nat.zero_add]⟩⟩,ha,.inr (.inr ⟨_,_,_,_,_,rfl⟩)⟩
def uy {σ:Type} (call:aW) (b:Code) (s:St) (ex:gR) (h:au) (e:TypeId) (tn:σ→AV→(Nat→AV)→List AV) (own:σ→List AV) (N:Nat) (r:σ):Prop:=∃z y hk,Ev env call (.loop b) s ex ⟨tn r z y,hk,[],.no⟩∧Grow h hk∧iE e h hk z (own r)∧(own r).length≤N
section
variable {σ:Type} {call:aW} {b:Code} {s:St} {ex:gR} {h hk:au} {e:TypeId} {tn:σ→AV→(Nat→AV)→List AV} {own:σ→List AV} {N:Nat}
theorem uy.out {i:Nat} {L:List AV} {o:σ} (r:σ) (z:AV) (e1:o=r) (ev:Ev env call b s (.exit i) ⟨L,hk,[],.no⟩) (G:Grow h hk) (oz:iE e h hk z (own r)) (ln:(own r).length≤N) (hl:L=tn r z fun k=>L.getD k AV.undef):uy call b s (.exit i) h e tn own N o:=by
 subst e1
 obtain ⟨y,q⟩:=Dm (tmpl:=tn o z) (Ev.out ev) hl
 exact ⟨z,y,hk,q,G,oz,ln⟩
theorem uy.round {L:List AV} {o o':σ} (e1:o=o') (ev:Ev env call b s .normal ⟨L,hk,[],.no⟩) (w8:(Nat→AV)→List AV) (hl:L=w8 fun k=>L.getD k AV.undef) (ih:∀x,uy call b ⟨w8 x,hk,[],.no⟩ ex h e tn own N o'):uy call b s ex h e tn own N o:=by
 subst e1
 have q:=ih fun k=>L.getD k AV.undef
 rw[←hl] at q
 obtain ⟨z,y,h2,x,g,oz,ln⟩:=q;exact ⟨z,y,h2,Ev.loop ev x,g,oz,ln⟩
end
def ba {α:Type} [az α] (h0 h:au) (z:AV) (l:List α):Prop:=
 ((z= .aI∨∃p,z= .slice p 0 0 0 false∧h0.nx≤p∧h.get p=some (.cells [] (az.e α) false))∧l=[])∨
 (l≠ []∧∃p op,z= .slice p 0 l.length l.length op∧h0.nx≤p∧h.get p=some (.cells (l.flatMap az.c) (az.e α) false))
def bA (z:AV) (i:Nat):Prop:=∀o n c b,z≠ .slice i o n c b
section
variable {α:Type} [az α] {h0 h h':au} {z:AV} {l m:List α}
theorem ba.has (o:ba h0 h z l) (a:Has h h'):ba h0 h' z l:=by
 rcases o with ⟨rfl | ⟨p,rfl,h1,h2⟩,rfl⟩ | ⟨hn,p,op,e,h1,g⟩
 · exact .inl ⟨.inl rfl,rfl⟩
 · exact .inl ⟨.inr ⟨p,rfl,h1,a _ _ h2⟩,rfl⟩
 · exact .inr ⟨hn,p,op,e,h1,a _ _ g⟩
theorem ba.adk {s xt:TypeId} {tys:Array TypeId} {bytes N:Nat} {z0 x:AV} (y:Tidy h) (y0:Tidy h0) (a:Has h0 h) (hle:h0.nx≤h.nx) (o:ba h0 h z l) (hlen:jD x=some m.length) (hf:dP h (az.n α) m.length x=some (m.flatMap az.c)) (mR:(m.flatMap az.c).all AV.scalar=true) (hl:l.length+m.length≤N)
 (t0:tys[0]? =some s) (t1:tys[1]? =some xt) (hs:env.P.underlying s=some (.slice (az.e α))) (hx:env.P.underlying xt=some (.slice (az.e α))) (hb:eK env (az.e α)=some bytes) (o_:eh env (az.e α)=some z0) (hz:z0.cells.length=az.n α) (Tu:∀k,k≤N→(4*k+4096)*(bytes+1)≤1099511627776):
 ∃z' h',bf env h tys z x=some (z',h')∧Tidy h'∧h.nx≤h'.nx∧Has h0 h'∧ba h0 h' z' (l++m)∧∀i w,bA z i→h.get i=some w→h'.get i=some w:=by
 have xG:=bP az.len m
 have hi:jk (.slice (az.e α))=false:=rfl
 have uz:∀{p:Nat} {ob:aR},h.get p=some ob→Tidy (h.put p (some ob))∧Has h0 (h.put p (some ob))∧(∀i w,h.get i=some w→(h.put p (some ob)).get i=some w):=fun {p ob} g=>by
  have hg:∀i,(h.put p (some ob)).get i=h.get i:=fun i=>by
   by_cases e:i=p
   · subst e;rw[au.bF,g]
   · rw[au.aY (Ne.symm e)]
  exact ⟨fun i w q=>y i w (by rw[←hg];exact q),fun i w q=>by rw[hg];exact a i w q,fun i w q=>by rw[hg];exact q⟩
 have O5:m≠ []→∃h',h.new (.cells (m.flatMap az.c) (az.e α) false)=some h'∧Tidy h'∧h.nx≤h'.nx∧Has h0 h'∧ba h0 h' (.slice h.nx 0 m.length m.length true) m∧∀i w,h.get i=some w→h'.get i=some w:=fun hm=>by
  obtain ⟨h',n⟩:=kr (h:=h) (.cells (m.flatMap az.c) (az.e α) false)
  have:=kq n
  exact ⟨h',n,fM y n,by omega,a.trans (uv y n),.inr ⟨hm,h.nx,true,rfl,hle,iD n⟩,fun i w g=>eZ y n g⟩
 rcases o with ⟨rfl | ⟨p,rfl,hp,hg⟩,rfl⟩ | ⟨hn,p,op,rfl,hp,hg⟩
 · rw[List.nil_append]
   by_cases hm:m=[]
   · subst hm
     simp only[List.length_nil,List.flatMap_nil,Nat.zero_mul] at hlen hf mR xG
     refine ⟨.aI,h,?_,y,Nat.le_refl _,a,.inl ⟨.inl rfl,rfl⟩,fun _ _ _ g=>g⟩
     simp only[bf,t0,t1,hs,hx,hi,az.size,hb,hlen,hf,o_,hz,mR,xG,if_true,if_false,and_self,List.length_nil,Bool.false_eq_true,Nat.zero_mul]
   · obtain ⟨h',n,q1,q2,q3,q4,q5⟩:=O5 hm
     have IX:¬m.length=0:=fun e=>hm (List.length_eq_zero_iff.1 e)
     refine ⟨_,h',?_,q1,q2,q3,q4,fun i w _ g=>q5 i w g⟩
     simp only[bf,t0,t1,hs,hx,hi,az.size,hb,hlen,hf,o_,hz,mR,xG,IX,Tu m.length o!,n,if_true,if_false,and_self,Bool.false_eq_true]
 · rw[List.nil_append]
   by_cases hm:m=[]
   · subst hm
     simp only[List.length_nil,List.flatMap_nil,Nat.zero_mul] at hlen hf mR xG
     obtain ⟨q1,q2,q3⟩:=uz hg
     refine ⟨_,_,?_,q1,Nat.le_refl _,q2,.inl ⟨.inr ⟨p,rfl,hp,q3 _ _ hg⟩,rfl⟩,fun i w _ g=>q3 i w g⟩
     simp only[bf,t0,t1,hs,hx,hi,az.size,hb,hlen,hf,o_,hz,mR,xG,hg,if_true,if_false,and_self,List.length_nil,Bool.false_eq_true,Nat.zero_mul,Nat.add_zero,Nat.le_refl,List.flatMap_nil,setFrom]
   · obtain ⟨h',n,q1,q2,q3,q4,q5⟩:=O5 hm
     have IX:¬m.length≤0:=fun e=>hm (List.length_eq_zero_iff.1 o!)
     refine ⟨_,h',?_,q1,q2,q3,q4,fun i w _ g=>q5 i w g⟩
     simp only[bf,t0,t1,hs,hx,hi,az.size,hb,hlen,hf,o_,hz,mR,xG,hg,IX,if_true,if_false,and_self,Bool.false_eq_true,Nat.zero_mul,Nat.add_zero,Nat.zero_add,List.length_nil,Nat.le_refl]
     rw[if_pos ⟨Tu m.length o!,trivial,fun e=>e.elim⟩]
     simp only[List.drop_nil,List.take_nil,List.nil_append,n]
 · have hlp:0<l.length:=List.length_pos_iff.2 hn
   have hpx:=y _ _ hg
   have MS:=bP az.len l
   by_cases hm:m=[]
   · subst hm
     simp only[List.length_nil,List.flatMap_nil,Nat.zero_mul] at hlen hf mR xG
     obtain ⟨q1,q2,q3⟩:=uz hg
     rw[List.append_nil]
     refine ⟨_,_,?_,q1,Nat.le_refl _,q2,.inr ⟨hn,p,op,rfl,hp,q3 _ _ hg⟩,fun i w _ g=>q3 i w g⟩
     simp only[bf,t0,t1,hs,hx,hi,az.size,hb,hlen,hf,o_,hz,mR,xG,hg,MS,if_true,if_false,and_self,List.length_nil,Bool.false_eq_true,Nat.zero_mul,Nat.add_zero,Nat.zero_add,Nat.le_refl,List.flatMap_nil,setFrom]
   · have Zg:0<m.length:=List.length_pos_iff.2 hm
     have y2:Tidy (if op then h.put p none else h):=by
      cases op with
      | false=>exact y
      | true=>
        intro i x g
        show i<h.nx
        by_cases hi:i=p
        · subst hi;exact hpx
        · rw[if_pos rfl,au.aY (Ne.symm hi)] at g;exact y i x g
     have n2:(if op then h.put p none else h).nx=h.nx:=by cases op<;>rfl
     have k2:∀i w,i≠p→h.get i=some w→(if op then h.put p none else h).get i=some w:=fun i w hi g=>by
      cases op with
      | false=>exact g
      | true=>rw[if_pos rfl,au.aY (Ne.symm hi)];exact g
     obtain ⟨h',n⟩:=kr (h:=if op then h.put p none else h) (.cells (l.flatMap az.c++m.flatMap az.c) (az.e α) false)
     have hk:∀i w,i≠p→h.get i=some w→h'.get i=some w:=fun i w hi g=>eZ y2 n (k2 i w hi g)
     have hc:¬l.length+m.length≤l.length:=by omega
     refine ⟨.slice h.nx 0 (l.length+m.length) (l.length+m.length) true,h',?_,fM y2 n,by rw[kq n,n2];omega,fun i w g=>?_,.inr ⟨by simp [hn],h.nx,true,by rw[List.length_append],hle,by rw[List.flatMap_append,←n2];exact iD n⟩,fun i w q g=>hk i w (fun e=>q 0 l.length l.length op (by subst e;rfl)) g⟩
     · simp only[bf,t0,t1,hs,hx,hi,az.size,hb,hlen,hf,o_,hz,mR,xG,hg,hc,if_true,if_false,and_self,Bool.false_eq_true]
       rw[if_pos ⟨Tu _ hl,by rw[MS];omega,fun _=>⟨trivial,by rw[MS];omega,trivial⟩⟩]
       rw[List.drop_zero,List.take_of_length_le (by rw[MS];exact Nat.le_refl _),n]
     · have:=y0 _ _ g
       exact hk i w o! (a i w g)
theorem ba.app {s xt:TypeId} {tys:Array TypeId} {bytes:Nat} {z0 x:AV} (y:Tidy h) (y0:Tidy h0) (a:Has h0 h) (hle:h0.nx≤h.nx) (o:ba h0 h z l) (hlen:jD x=some m.length) (hf:dP h (az.n α) m.length x=some (m.flatMap az.c)) (mR:(m.flatMap az.c).all AV.scalar=true) (hl:l.length+m.length≤1000000000)
 (t0:tys[0]? =some s) (t1:tys[1]? =some xt) (hs:env.P.underlying s=some (.slice (az.e α))) (hx:env.P.underlying xt=some (.slice (az.e α))) (hb:eK env (az.e α)=some bytes) (o_:eh env (az.e α)=some z0) (hz:z0.cells.length=az.n α) (h8:bytes≤255):
 ∃z' h',bf env h tys z x=some (z',h')∧Tidy h'∧h.nx≤h'.nx∧Has h0 h'∧ba h0 h' z' (l++m)∧∀i w,bA z i→h.get i=some w→h'.get i=some w:=
 ba.adk y y0 a hle o hlen hf mR hl t0 t1 hs hx hb o_ hz fun k hk=>Nat.le_trans (Nat.mul_le_mul (show 4*k+4096≤4294967296 by omega) (show bytes+1≤256 by omega)) (by decide)
theorem ba.W3 {s xt:TypeId} {tys:Array TypeId} {bytes:Nat} {z0 x:AV} (y:Tidy h) (y0:Tidy h0) (a:Has h0 h) (hle:h0.nx≤h.nx) (o:ba h0 h z l) (hlen:jD x=some m.length) (hf:dP h (az.n α) m.length x=some (m.flatMap az.c)) (mR:(m.flatMap az.c).all AV.scalar=true) (hl:l.length+m.length≤1000000000)
 (t0:tys[0]? =some s) (t1:tys[1]? =some xt) (hs:env.P.underlying s=some (.slice (az.e α))) (hx:env.P.underlying xt=some (.slice (az.e α))) (hb:eK env (az.e α)=some bytes) (o_:eh env (az.e α)=some z0) (hz:z0.cells.length=az.n α) (h8:bytes≤255) (he:l=[]:=by rfl):
 ∃z' h',bf env h tys z x=some (z',h')∧Tidy h'∧h.nx≤h'.nx∧Has h0 h'∧ba h0 h' z' (l++m)∧Has h h':=by
 subst he
 by_cases hm:m=[]
 · subst hm
   obtain ⟨z',h',e1,e2,e3,e4,e5,e6⟩:=ba.app y y0 a hle o hlen hf mR hl t0 t1 hs hx hb o_ hz h8
   refine ⟨z',h',e1,e2,e3,e4,e5,fun i w g=>?_⟩
   rcases o with ⟨rfl | ⟨p,rfl,hp,hg⟩,_⟩ | ⟨hn,_⟩
   · exact e6 i w (fun o n c b q=>by cases q) g
   · by_cases hi:i=p
     · subst hi
       have hi2:jk (.slice (az.e α))=false:=rfl
       simp only[List.length_nil,List.flatMap_nil] at hlen hf mR
       simp only[bf,t0,t1,hs,hx,hi2,az.size,hb,hlen,hf,o_,hz,mR,hg,if_true,if_false,and_self,List.length_nil,Bool.false_eq_true,Nat.zero_mul,Nat.add_zero,Nat.le_refl,List.flatMap_nil,setFrom,Option.some.injEq,Prod.mk.injEq] at e1
       rw[←e1.2,au.bF,←hg,g]
     · exact e6 i w (fun o n c b q=>hi (AV.slice.inj q).1.symm) g
   · exact absurd rfl hn
 · obtain ⟨z',h',e1,e2,e3,e4,e5,e6⟩:=ba.app y y0 a hle o hlen hf mR hl t0 t1 hs hx hb o_ hz h8
   refine ⟨z',h',e1,e2,e3,e4,e5,fun i w g=>?_⟩
   rcases o with ⟨rfl | ⟨p,rfl,hp,hg⟩,_⟩ | ⟨hn,_⟩
   · exact e6 i w (fun o n c b q=>by cases q) g
   · by_cases hi:i=p
     · subst hi
       have hi2:jk (.slice (az.e α))=false:=rfl
       have xG:=bP az.len m
       have IX:¬m.length≤0:=fun e=>hm (List.length_eq_zero_iff.1 o!)
       have Tu:(4*m.length+4096)*(bytes+1)≤1099511627776:=Nat.le_trans (Nat.mul_le_mul (show 4*m.length+4096≤4294967296 by simp at hl;omega) (show bytes+1≤256 by omega)) (by decide)
       simp only[bf,t0,t1,hs,hx,hi2,az.size,hb,hlen,hf,o_,hz,mR,xG,hg,IX,if_true,if_false,and_self,Bool.false_eq_true,Nat.zero_mul,Nat.add_zero,Nat.zero_add,List.length_nil,Nat.le_refl] at e1
       rw[if_pos ⟨Tu,trivial,fun e=>e.elim⟩] at e1
       obtain ⟨h2,n⟩:=kr (h:=h) (.cells (List.take 0 (List.drop 0 [])++m.flatMap az.c) (az.e α) false)
       rw[n] at e1
       simp only[Option.some.injEq,Prod.mk.injEq] at e1
       rw[←e1.2];exact eZ y n g
     · exact e6 i w (fun o n c b q=>hi (AV.slice.inj q).1.symm) g
   · exact absurd rfl hn
theorem ok_one {x:α} (o:az.ok h x):∀y∈ [x],az.ok h y:=fun y hy=>by
 rw[List.mem_singleton] at hy;subst hy;exact o
theorem nE (a:∀y∈l,az.ok h y) (b:∀y∈m,az.ok h y):∀y∈l++m,az.ok h y:=fun y hy=>(List.mem_append.1 hy).elim (a y) (b y)
theorem Dq (g:Has h h') (a:∀y∈l,az.ok h y):∀y∈l,az.ok h' y:=fun y hy=>az.mono g (a y hy)
class Flat (α:Type) [az α]:Prop where
 free:∀{h h':au} {x:α},az.ok h x→az.ok h' x
theorem cR {D:Type} [az D] [Flat D] {h h':au} {l:List D} (a:∀y∈l,az.ok h y):∀y∈l,az.ok h' y:=fun y hy=>Flat.free (a y hy)
theorem jw {v:AV} (x:aQ h v l) (sc:∀y∈l,(az.c y).all AV.scalar=true):(l.flatMap az.c).all AV.scalar=true:=by
 rw[List.all_eq_true]
 intro z hz
 obtain ⟨y,hy,hzy⟩:=List.mem_flatMap.1 hz
 exact List.all_eq_true.1 (sc y hy) z hzy
theorem aQ.jD {v:AV} (x:aQ h v l):jD v=some l.length:=by
 have hl:=x.at_.lens
 rcases x.known with rfl | rfl | ⟨p,o,m,c,b,rfl,_⟩
 · rw[uo] at hl
   simp only[Option.some.injEq,AV.int.injEq,true_and] at hl
   rw[show l.length=0 by omega];rfl
 · rw[WT] at hl
   simp only[Option.some.injEq,AV.int.injEq,true_and] at hl
   rw[show l.length=0 by omega];rfl
 · rw[eY] at hl
   simp only[Option.some.injEq,AV.int.injEq,true_and] at hl
   rw[show l.length=m by omega];rfl
theorem aQ.first {v:AV} (x:aQ h v l):dP h (az.n α) l.length v=some (l.flatMap az.c):=by
 by_cases hl:l=[]
 · subst hl
   rcases x.known with rfl | rfl | ⟨p,o,m,c,b,rfl,_⟩<;>simp [dP]
 · have hlp:0<l.length:=List.length_pos_iff.2 hl
   have MS:=bP az.len l
   rcases x.at_.block with h0 | ⟨p,o,m,c,b,C,f,ro,h1,_,h2,h3⟩
   · omega
   · subst h1
     have hm:m=l.length:=by
      have:=x.at_.lens
      rw[eY] at this
      simp only[Option.some.injEq,AV.int.injEq,true_and] at this
      omega
     subst hm
     have hC:o+l.length*az.n α≤C.length:=by
      rcases Nat.eq_zero_or_pos (l.length*az.n α) with h0 | h0
      · have:=Nat.mul_pos hlp (az.pos (α:=α));omega
      · have:=h3 (l.length*az.n α - 1) o!
        rw[List.getElem?_eq_getElem (by omega:l.length*az.n α - 1<(l.flatMap az.c).length)] at this
        have:=(List.getElem?_eq_some_iff.1 this).1
        omega
     simp only[dP,Nat.le_refl,if_true,if_false,show ¬l.length=0 by omega,h2,hC]
     congr 1
     apply List.ext_getElem?
     intro j
     by_cases hj:j<l.length*az.n α
     · rw[List.getElem?_take_of_lt hj,List.getElem?_drop,h3 j o!]
     · rw[List.getElem?_eq_none (by rw[List.length_take];omega),List.getElem?_eq_none o!]
theorem pc {i:Nat} {b:Bool} {x:α} {e:TypeId} {ro:Bool} (hg:h.get i=some (.cells (az.c x) e ro)):dP h (az.n α) [x].length (.slice i 0 1 1 b)=some ([x].flatMap az.c):=by
 have:=az.len x
 simp only[dP,List.length_singleton,Nat.le_refl,if_true,hg,Nat.one_ne_zero,if_false,Nat.one_mul,Nat.zero_add,this,List.drop_zero,List.flatMap_cons,List.flatMap_nil,List.append_nil]
 rw[List.take_of_length_le o!]
theorem ba.rows (o:ba h0 h z l) (hl:l.length<2^60) (hk:∀x∈l,az.ok h x):aQ h z l:=by
 rcases o with ⟨rfl | ⟨p,rfl,h1,h2⟩,rfl⟩ | ⟨hn,p,op,rfl,h1,g⟩
 · exact ⟨⟨az.size,(Nat.zero_mul _).symm,hl,rfl,.inl rfl⟩,.inl rfl,hk⟩
 · exact ⟨⟨az.size,(Nat.zero_mul _).symm,hl,rfl,.inl rfl⟩,.inr (.inr ⟨_,_,_,_,_,rfl,fun e=>by cases e⟩),hk⟩
 · have:=List.length_pos_iff.2 hn
   exact ⟨⟨az.size,bP az.len l,hl,rfl,.inr ⟨p,0,_,_,op,_,_,_,rfl,Nat.le_refl _,g,fun j _=>by rw[Nat.zero_add]⟩⟩,.inr (.inr ⟨_,_,_,_,_,rfl,fun _=>this⟩),hk⟩
end
structure Span where
 aM:Int
 aD:Int
@[reducible] def Span.c (x:Span):List AV:=[.int .i64 x.aM,.int .i64 x.aD]
def Span.ok (h:au) (x:Span):Prop:=True
def Span.eq (x y:Span):Bool:=(x.aM==y.aM)&&(x.aD==y.aD)
theorem Span.deep (x y:Span):gG env 16 23 (.agg (Span.c x)) (.agg (Span.c y))=some (Span.eq x y):=by
 have e:gG env 16 23 (.agg (Span.c x)) (.agg (Span.c y))=(match some (x.aM==y.aM) with | some true=>(match some (x.aD==y.aD) with | some true=>some true | some false=>some false | none=>none) | some false=>some false | none=>none):=by kernel_rfl
 rw[e,Span.eq]
 cases (x.aM==y.aM)<;>try rfl
 cases (x.aD==y.aD)<;>try rfl
theorem Span.eql (x y:Span) {a b:Bool}:bU env .eql 23 a b (some (.agg (Span.c x))) (some (.agg (Span.c y)))=some (.bool (Span.eq x y)):=by
 show (if env.P.eqGuardType env.P.depth 23 then none else (match gG env 16 23 (.agg (Span.c x)) (.agg (Span.c y)) with | some r=>some (AV.bool (r)) | none=>none))=_
 rw[show env.P.eqGuardType env.P.depth 23=false by kernel_rfl,Span.deep];rfl
theorem Span.neq (x y:Span) {a b:Bool}:bU env .neq 23 a b (some (.agg (Span.c x))) (some (.agg (Span.c y)))=some (.bool (!Span.eq x y)):=by
 show (if env.P.eqGuardType env.P.depth 23 then none else (match gG env 16 23 (.agg (Span.c x)) (.agg (Span.c y)) with | some r=>some (AV.bool (!r)) | none=>none))=_
 rw[show env.P.eqGuardType env.P.depth 23=false by kernel_rfl,Span.deep];rfl
instance:az Span where
 default:=⟨0,0⟩
 c:=Span.c
 n:=2
 e:=23
 len _:=rfl
 ok:=Span.ok
 mono a o:=o
 size:=by kernel_rfl
 agg:=by kernel_rfl
 pos:=by decide
theorem Span.sc {h:au} {x:Span} (o:Span.ok h x):(Span.c x).all AV.scalar=true:=by
 rfl
instance:Flat Span where
 free o:=o
structure aE where
 name:List UInt8
 acc:Int
 b6:Int
 since:Int
@[reducible] def aE.c (x:aE):List AV:=[.str x.name,.int .i64 x.acc,.int .i64 x.b6,.int .i64 x.since]
def aE.ok (h:au) (x:aE):Prop:=x.name.length<2^60
def aE.eq (x y:aE):Bool:=(x.name==y.name)&&(x.acc==y.acc)&&(x.b6==y.b6)&&(x.since==y.since)
theorem aE.deep (x y:aE):gG env 16 45 (.agg (aE.c x)) (.agg (aE.c y))=some (aE.eq x y):=by
 have e:gG env 16 45 (.agg (aE.c x)) (.agg (aE.c y))=(match some (x.name==y.name) with | some true=>(match some (x.acc==y.acc) with | some true=>(match some (x.b6==y.b6) with | some true=>(match some (x.since==y.since) with | some true=>some true | some false=>some false | none=>none) | some false=>some false | none=>none) | some false=>some false | none=>none) | some false=>some false | none=>none):=by kernel_rfl
 rw[e,aE.eq]
 cases (x.name==y.name)<;>try rfl
 cases (x.acc==y.acc)<;>try rfl
 cases (x.b6==y.b6)<;>try rfl
 cases (x.since==y.since)<;>try rfl
theorem aE.eql (x y:aE) {a b:Bool}:bU env .eql 45 a b (some (.agg (aE.c x))) (some (.agg (aE.c y)))=some (.bool (aE.eq x y)):=by
 show (if env.P.eqGuardType env.P.depth 45 then none else (match gG env 16 45 (.agg (aE.c x)) (.agg (aE.c y)) with | some r=>some (AV.bool (r)) | none=>none))=_
 rw[show env.P.eqGuardType env.P.depth 45=false by kernel_rfl,aE.deep];rfl
theorem aE.neq (x y:aE) {a b:Bool}:bU env .neq 45 a b (some (.agg (aE.c x))) (some (.agg (aE.c y)))=some (.bool (!aE.eq x y)):=by
 show (if env.P.eqGuardType env.P.depth 45 then none else (match gG env 16 45 (.agg (aE.c x)) (.agg (aE.c y)) with | some r=>some (AV.bool (!r)) | none=>none))=_
 rw[show env.P.eqGuardType env.P.depth 45=false by kernel_rfl,aE.deep];rfl
instance:az aE where
 default:=⟨[],0,0,0⟩
 c:=aE.c
 n:=4
 e:=45
 len _:=rfl
 ok:=aE.ok
 mono a o:=o
 size:=by kernel_rfl
 agg:=by kernel_rfl
 pos:=by decide
theorem aE.sc {h:au} {x:aE} (o:aE.ok h x):(aE.c x).all AV.scalar=true:=by
 rfl
instance:Flat aE where
 free o:=o
structure aw where
 name:List UInt8
 ai:Int
 af:Int
 aH:Int
 aJ:Int
 bad:Int
 aA:AV
 ao:List aE
@[reducible] def aw.c (x:aw):List AV:=[.str x.name,.int .i64 x.ai,.int .i64 x.af,.int .i64 x.aH,.int .i64 x.aJ,.int .i64 x.bad,x.aA]
def aw.ok (h:au) (x:aw):Prop:=x.name.length<2^60∧aQ h x.aA x.ao
instance:az aw where
 default:=⟨[],0,0,0,0,0,.aI,[]⟩
 c:=aw.c
 n:=7
 e:=26
 len _:=rfl
 ok:=aw.ok
 mono a o:=⟨o.1,(o.2).has a⟩
 size:=by kernel_rfl
 agg:=by kernel_rfl
 pos:=by decide
theorem aw.sc {h:au} {x:aw} (o:aw.ok h x):(aw.c x).all AV.scalar=true:=by
 simp only[aw.c,List.all_cons,List.all_nil,(show AV.scalar x.aA=true from (o.2).scalar),Bool.true_and]<;>rfl
structure aB where
 aC:Int
 time:Int
 value:Int
@[reducible] def aB.c (x:aB):List AV:=[.int .i64 x.aC,.int .i64 x.time,.int .i64 x.value]
def aB.ok (h:au) (x:aB):Prop:=True
def aB.eq (x y:aB):Bool:=(x.aC==y.aC)&&(x.time==y.time)&&(x.value==y.value)
theorem aB.deep (x y:aB):gG env 16 43 (.agg (aB.c x)) (.agg (aB.c y))=some (aB.eq x y):=by
 have e:gG env 16 43 (.agg (aB.c x)) (.agg (aB.c y))=(match some (x.aC==y.aC) with | some true=>(match some (x.time==y.time) with | some true=>(match some (x.value==y.value) with | some true=>some true | some false=>some false | none=>none) | some false=>some false | none=>none) | some false=>some false | none=>none):=by kernel_rfl
 rw[e,aB.eq]
 cases (x.aC==y.aC)<;>try rfl
 cases (x.time==y.time)<;>try rfl
 cases (x.value==y.value)<;>try rfl
theorem aB.eql (x y:aB) {a b:Bool}:bU env .eql 43 a b (some (.agg (aB.c x))) (some (.agg (aB.c y)))=some (.bool (aB.eq x y)):=by
 show (if env.P.eqGuardType env.P.depth 43 then none else (match gG env 16 43 (.agg (aB.c x)) (.agg (aB.c y)) with | some r=>some (AV.bool (r)) | none=>none))=_
 rw[show env.P.eqGuardType env.P.depth 43=false by kernel_rfl,aB.deep];rfl
theorem aB.neq (x y:aB) {a b:Bool}:bU env .neq 43 a b (some (.agg (aB.c x))) (some (.agg (aB.c y)))=some (.bool (!aB.eq x y)):=by
 show (if env.P.eqGuardType env.P.depth 43 then none else (match gG env 16 43 (.agg (aB.c x)) (.agg (aB.c y)) with | some r=>some (AV.bool (!r)) | none=>none))=_
 rw[show env.P.eqGuardType env.P.depth 43=false by kernel_rfl,aB.deep];rfl
instance:az aB where
 default:=⟨0,0,0⟩
 c:=aB.c
 n:=3
 e:=43
 len _:=rfl
 ok:=aB.ok
 mono a o:=o
 size:=by kernel_rfl
 agg:=by kernel_rfl
 pos:=by decide
theorem aB.sc {h:au} {x:aB} (o:aB.ok h x):(aB.c x).all AV.scalar=true:=by
 rfl
instance:Flat aB where
 free o:=o
structure Gate where
 time:Int
 aj:Int
 ah:Int
@[reducible] def Gate.c (x:Gate):List AV:=[.int .i64 x.time,.int .i64 x.aj,.int .i64 x.ah]
def Gate.ok (h:au) (x:Gate):Prop:=True
instance:az Gate where
 default:=⟨0,0,0⟩
 c:=Gate.c
 n:=3
 e:=66
 len _:=rfl
 ok:=Gate.ok
 mono a o:=o
 size:=by kernel_rfl
 agg:=by kernel_rfl
 pos:=by decide
theorem Gate.sc {h:au} {x:Gate} (o:Gate.ok h x):(Gate.c x).all AV.scalar=true:=by
 rfl
instance:Flat Gate where
 free o:=o
structure cK where
 time:Int
 aj:Int
 ah:Int
@[reducible] def cK.c (x:cK):List AV:=[.int .i64 x.time,.int .i64 x.aj,.int .i64 x.ah]
def cK.ok (h:au) (x:cK):Prop:=True
instance:az cK where
 default:=⟨0,0,0⟩
 c:=cK.c
 n:=3
 e:=77
 len _:=rfl
 ok:=cK.ok
 mono a o:=o
 size:=by kernel_rfl
 agg:=by kernel_rfl
 pos:=by decide
theorem cK.sc {h:au} {x:cK} (o:cK.ok h x):(cK.c x).all AV.scalar=true:=by
 rfl
instance:Flat cK where
 free o:=o
theorem HI {p:Prop} [Decidable p] (h:(!decide p)=true):¬p:=by intro q;rw[decide_eq_true q] at h;cases h
theorem HJ {p:Prop} [Decidable p] (h:(!decide p)=false):p:=by by_cases q:p;exact q;rw[decide_eq_false q] at h;cases h
def bs (l:List Bool):List AV:=l.map AV.bool
theorem W5 (l:List Bool):(bs l).length=l.length:=by simp [bs]
theorem W6 (l:List Bool) {i:Nat} (hi:i<l.length):(bs l)[i]? =some (.bool (l.g i)):=by
 rw[bs,List.getElem?_map,List.getElem?_eq_getElem hi,List.g,List.getD_eq_getElem?_getD,List.getElem?_eq_getElem hi];rfl
section
variable {h:au} {t e:TypeId} {p i n:Nat}
end
structure AY (h:au) (e:TypeId) (v:AV) (l:List Bool):Prop where
 at_:lL env h e 1 v l.length (bs l)
 agg:eA env e=some false
section
variable {h h':au} {e:TypeId} {v:AV} {l:List Bool}
theorem AY.scalar (x:AY h e v l):AV.scalar v=true:=by
 have q:=x.at_.lens
 cases v<;>first | rfl | (exfalso;revert q;simp [eF])
theorem uA {v:AV} (x:AV.scalar v=true):AV.cells v=[v]:=by
 cases v<;>first | rfl | cases x
theorem AY.small (x:AY h e v l):l.length<2^60:=x.at_.small
theorem AY.elem (x:AY h e v l) {i:Nat} (hi:i<l.length):∃p q,dL env (some (.slice e)) (some v) (some (.int .i64 ((i:Nat):Int)))=some (.ptr p q)∧bw env h e (.ptr p q)=some (.bool (l.g i)):=x.at_.elem x.agg (W6 l hi)
theorem AY.load (x:AY h e v l) {i p q:Nat} (hi:i<l.length) (hx:dL env (some (.slice e)) (some v) (some (.int .i64 ((i:Nat):Int)))=some (.ptr p q)):bw env h e (.ptr p q)=some (.bool (l.g i)):=by
 obtain ⟨p',q',h1,h2⟩:=x.elem hi
 rw[hx] at h1
 simp only[Option.some.injEq,AV.ptr.injEq] at h1
 obtain ⟨rfl,rfl⟩:=h1
 exact h2
theorem AY.own {p n:Nat} {op ro:Bool} {f:TypeId} (hs:bT env e=some 1) (ha:eA env e=some false) (hg:h.get p=some (.cells (bs l) f ro)) (hn:l.length=n) (HK:n<2^60):AY h e (.slice p 0 n n op) l:=by
 subst hn
 exact ⟨⟨hs,by rw[W5];omega,HK,rfl,.inr ⟨p,0,_,_,op,_,_,_,rfl,Nat.le_refl _,hg,fun j _=>by rw[Nat.zero_add]⟩⟩,ha⟩
theorem pQ.own {k:IntKind} {p n:Nat} {op ro:Bool} {f:TypeId} {l:List Int} (hs:bT env e=some 1) (ha:eA env e=some false) (hg:h.get p=some (.cells (zs k l) f ro)) (hn:l.length=n) (HK:n<2^60):pQ h k e (.slice p 0 n n op) l:=by
 subst hn
 exact ⟨⟨hs,by rw[zy];omega,HK,rfl,.inr ⟨p,0,_,_,op,_,_,_,rfl,Nat.le_refl _,hg,fun j _=>by rw[Nat.zero_add]⟩⟩,ha,.inr (.inr ⟨_,_,_,_,_,rfl⟩)⟩
end
def uB {σ ρ:Type} (call:aW) (b:Code) (s:St) (ex:gR) (hh:au) (tn:σ→AV→(Nat→AV)→List AV) (tr:ρ→AV→(Nat→AV)→List AV) (Qn:σ→AV→au→Prop) (Qr:ρ→AV→au→Prop):σ ⊕ ρ→Prop
 | .inl v=>∃z y hk,Ev env call (.loop b) s ex ⟨tn v z y,hk,[],.no⟩∧Tidy hk∧hh.nx≤hk.nx∧Qn v z hk
 | .inr r=>∃z y hk,Ev env call (.loop b) s .ret ⟨tr r z y,hk,[],.no⟩∧Tidy hk∧hh.nx≤hk.nx∧Qr r z hk
section
variable {σ ρ:Type} {call:aW} {b:Code} {s:St} {ex:gR} {hh hk:au} {tn:σ→AV→(Nat→AV)→List AV} {tr:ρ→AV→(Nat→AV)→List AV} {Qn:σ→AV→au→Prop} {Qr:ρ→AV→au→Prop}
theorem uB.n {o:σ ⊕ ρ} {v:σ} (e:o= .inl v) (x:uB call b s ex hh tn tr Qn Qr o):∃z y hk,Ev env call (.loop b) s ex ⟨tn v z y,hk,[],.no⟩∧Tidy hk∧hh.nx≤hk.nx∧Qn v z hk:=by subst e;exact x
theorem uB.r {o:σ ⊕ ρ} {r:ρ} (e:o= .inr r) (x:uB call b s ex hh tn tr Qn Qr o):∃z y hk,Ev env call (.loop b) s .ret ⟨tr r z y,hk,[],.no⟩∧Tidy hk∧hh.nx≤hk.nx∧Qr r z hk:=by subst e;exact x
theorem uB.out {i:Nat} {L:List AV} {o:σ ⊕ ρ} (v:σ) (z:AV) (e:o= .inl v) (ev:Ev env call b s (.exit i) ⟨L,hk,[],.no⟩) (y1:Tidy hk) (n1:hh.nx≤hk.nx) (q:Qn v z hk) (hl:L=tn v z fun k=>L.getD k AV.undef):uB call b s (.exit i) hh tn tr Qn Qr o:=by
 subst e
 obtain ⟨y,x⟩:=Dm (tmpl:=tn v z) (Ev.out ev) hl
 exact ⟨z,y,hk,x,y1,n1,q⟩
theorem uB.round {L:List AV} {o o':σ ⊕ ρ} (e:o=o') (ev:Ev env call b s .normal ⟨L,hk,[],.no⟩) (n1:hh.nx≤hk.nx) (w8:(Nat→AV)→List AV) (hl:L=w8 fun k=>L.getD k AV.undef) (ih:∀x,uB call b ⟨w8 x,hk,[],.no⟩ ex hk tn tr Qn Qr o'):uB call b s ex hh tn tr Qn Qr o:=by
 subst e
 have q:=ih fun k=>L.getD k AV.undef
 rw[←hl] at q
 cases o with
 | inl v=>obtain ⟨z,y,h2,x,y1,n2,g⟩:=q;exact ⟨z,y,h2,Ev.loop ev x,y1,Nat.le_trans n1 n2,g⟩
 | inr r=>obtain ⟨z,y,h2,x,y1,n2,g⟩:=q;exact ⟨z,y,h2,Ev.loop ev x,y1,Nat.le_trans n1 n2,g⟩
end
theorem iE.HL {k:IntKind} {e s xt:TypeId} {g h:au} {tys:Array TypeId} {bytes b:Nat} {z0 z:AV} {L:List Int} {v:Int} {f:TypeId} {ro op:Bool} (y:Tidy h) (hle:g.nx≤h.nx) (o:iE e g h z (aK.zs k L)) (hg:h.get b=some (.cells [.int k v] f ro)) (hl:L.length≤1000000000) (t0:tys[0]? =some s) (t1:tys[1]? =some xt) (hs:env.P.underlying s=some (.slice e)) (hx:env.P.underlying xt=some (.slice e)) (GK:bT env e=some 1) (hb:eK env e=some bytes) (o_:eh env e=some z0) (hz:z0.cells.length=1) (h8:bytes≤63):
 ∃z' h',bf env h tys z (.slice b 0 1 1 op)=some (z',h')∧Tidy h'∧h.nx≤h'.nx∧(∀i w,i<g.nx→h.get i=some w→h'.get i=some w)∧iE e g h' z' (aK.zs k (L++[v])):=by
 rw[Tt]
 have Nw:(aK.zs k L).length≤1000000000:=by rw[zy];exact hl
 rcases o with ⟨rfl,e0⟩ | ⟨hn,p,op',rfl,hp,hgp⟩
 · rw[e0]
   obtain ⟨h',e1,n⟩:=qD (h:=h) (M:=[.int k v]) t0 t1 hs hx rfl GK hb o_ hz h8 JB (BR hg) rfl (by simp) (by simp)
   have:=kq n
   exact ⟨_,h',e1,fM y n,by omega,fun i w _ q=>eZ y n q,.inr ⟨by simp,h.nx,true,by simp,hle,iD n⟩⟩
 · obtain ⟨h',e1,y1,z1,k1,g1⟩:=qE (op:=op') (M:=[.int k v]) y t0 t1 hs hx rfl GK hb o_ hz h8 JB (BR hg) rfl rfl (by simp) (by simp;omega) hgp
   exact ⟨_,h',e1,y1,by omega,fun i w hi q=>k1 i w o! q,.inr ⟨by simp,h.nx,true,by rw[List.length_append],hle,g1⟩⟩
theorem Ev.to {call:aW} {b:Code} {s:St} {e:gR} {L L':List AV} {hk:au} (ev:Ev env call b s e ⟨L,hk,[],.no⟩) (hl:L=L'):Ev env call b s e ⟨L',hk,[],.no⟩:=hl▸ev
theorem O7 {v:AV} (h:AV.scalar v=true):v.cells=[v]:=by cases v<;>first | rfl | cases h
theorem W7 {h:au} {t e:TypeId} {i o:Nat} {cs N:List AV} {v:AV} (y:Tidy h) (gg:h.get i=some (.cells cs e false)) (hs:bT env t=some 1) (hk:AV.scalar v=true) (hl:Nat.ble (o+1) cs.length=true) (hN:setFrom cs o [v]=N):∃h',dX env h t (.ptr i o) v=some h'∧Tidy h'∧h'.nx=h.nx∧h'.get i=some (.cells N e false)∧Kept i h h':=by
 have c:=O7 hk
 exact W1 y gg hs (by rw[c];rfl) hl (by rw[c];exact hN) (by rw[c];simp [hk])
theorem kX {f:FuncId} {fn:Func} {c:Code} {args Ve ts:List AV} {h h':au} {call:aW} {x:gR} {v:AV} {a:Tmp} {t:TypeId} {i:Nat} (hf:env.P.funcs[f]? =some fn) (hb:fn.body=some c) (ht:args++List.replicate (fn.ntmps - args.length) AV.undef=Ve) (hx:x= .normal∨x= .ret)
 (e:Ev env call c ⟨Ve,h,[],.no⟩ x ⟨ts,h',[],.no⟩) (hrs:(fn.results.toList,ts.getD a AV.undef)=([.cell a t],AV.ptr i 0)) (hl:bw env h' t (.ptr i 0)=some v):r7 env call f args h v h':=by
 refine bu hf hb ht hx e ?_
 rw[show fn.results.toList=[.cell a t] from congrArg Prod.fst hrs]
 simp only[iy,show ts.getD a AV.undef= .ptr i 0 from congrArg (fun q=>q.2) hrs,hl,Option.map_some]
 rfl
section
variable {α:Type} [az α]
theorem ba.Vi {h0 h:au} {z:AV} {l:List α} {n:Nat} (o:ba h0 h z l) (v:AV.within h0.nx (n+1) z=true):aQ h0 z l:=by
 have nl:∀z,(z= .aI∨∃p,z=AV.slice p 0 0 0 false∧h0.nx≤p)→AV.within h0.nx (n+1) z=true→aQ h0 z ([]:List α):=fun z hz v=>by
  rcases hz with rfl | ⟨p,rfl,hp⟩
  · exact ⟨⟨az.size,(Nat.zero_mul _).symm,(show (0:Nat)<2^60 by decide),rfl,.inl rfl⟩,.inl rfl,fun _ hx=>by cases hx⟩
  · have:=of_decide_eq_true (show decide (p<h0.nx)=true from v)
    omega
 rcases o with ⟨rfl | ⟨p,rfl,h1,h2⟩,rfl⟩ | ⟨hn,p,op,rfl,hp,hg⟩
 · exact nl _ (.inl rfl) v
 · exact nl _ (.inr ⟨p,rfl,h1⟩) v
 · have:=of_decide_eq_true (show decide (p<h0.nx)=true from v)
   omega
theorem ba.le {h0 h1 h:au} {z:AV} {l:List α} (o:ba h1 h z l) (hn:h0.nx≤h1.nx):ba h0 h z l:=by
 rcases o with ⟨rfl | ⟨p,rfl,h1,h2⟩,rfl⟩ | ⟨dD,p,op,e,h1,g⟩
 · exact .inl ⟨.inl rfl,rfl⟩
 · exact .inl ⟨.inr ⟨p,rfl,by omega,h2⟩,rfl⟩
 · exact .inr ⟨dD,p,op,e,by omega,g⟩
def qF {σ:Type} (call:aW) (b:Code) (s:St) (ex:gR) (h:au) (tn:σ→AV→(Nat→AV)→List AV) (own:σ→List α) (N:Nat) (r:σ):Prop:=∃z y hk,Ev env call (.loop b) s ex ⟨tn r z y,hk,[],.no⟩∧Grow h hk∧ba h hk z (own r)∧(∀y∈own r,az.ok hk y)∧(own r).length≤N
variable {σ:Type} {call:aW} {b:Code} {s:St} {ex:gR} {h hk:au} {tn:σ→AV→(Nat→AV)→List AV} {own:σ→List α} {N:Nat}
theorem qF.out {i:Nat} {L:List AV} {o:σ} (r:σ) (z:AV) (e1:o=r) (ev:Ev env call b s (.exit i) ⟨L,hk,[],.no⟩) (G:Grow h hk) (oz:ba h hk z (own r)) (ok:∀y∈own r,az.ok hk y) (ln:(own r).length≤N) (hl:L=tn r z fun k=>L.getD k AV.undef):qF call b s (.exit i) h tn own N o:=by
 subst e1
 obtain ⟨y,q⟩:=Dm (tmpl:=tn o z) (Ev.out ev) hl
 exact ⟨z,y,hk,q,G,oz,ok,ln⟩
theorem qF.round {L:List AV} {o o':σ} (e1:o=o') (ev:Ev env call b s .normal ⟨L,hk,[],.no⟩) (w8:(Nat→AV)→List AV) (hl:L=w8 fun k=>L.getD k AV.undef) (ih:∀x,qF call b ⟨w8 x,hk,[],.no⟩ ex h tn own N o'):qF call b s ex h tn own N o:=by
 subst e1
 have q:=ih fun k=>L.getD k AV.undef
 rw[←hl] at q
 obtain ⟨z,y,h2,x,g,oz,ok,ln⟩:=q;exact ⟨z,y,h2,Ev.loop ev x,g,oz,ok,ln⟩
end
section
variable {α:Type} [az α]
theorem O9 {l:List α} {i:Nat} (h:i<l.length) (x:α):(l.set i x).g i=x:=by
 rw[List.g,List.getD_eq_getElem?_getD,List.getElem?_set_self h];rfl
theorem O_ {l:List α} {i j:Nat} (h:i≠j) (x:α):(l.set i x).g j=l.g j:=by
 rw[List.g,List.g,List.getD_eq_getElem?_getD,List.getD_eq_getElem?_getD,List.getElem?_set_ne h]
theorem pe {l:List α} {i:Nat} (h:i<l.length) (x:α):setFrom (l.flatMap az.c) (i*az.n α) (az.c x)=(l.set i x).flatMap az.c:=by
 have hn:0<az.n α:=az.pos
 have hl:=bP az.len l
 have Nw:=bP az.len (l.set i x)
 rw[List.length_set] at Nw
 have hx:=az.len x
 apply List.ext_getElem?
 intro k
 rw[dy,hx,hl]
 have hk:k=k/az.n α*az.n α+k%az.n α:=by rw[Nat.mul_comm];exact (Nat.div_add_mod k _).symm
 have hr:=Nat.mod_lt k hn
 generalize k/az.n α=q at hk
 generalize k%az.n α=r at hk hr
 by_cases hq:q<l.length
 · have h1:=gD az.len l q r hq hr
   have h2:=gD az.len (l.set i x) q r (by rw[List.length_set];exact hq) hr
   subst hk
   by_cases e:q=i
   · subst e
     have:q*az.n α+az.n α≤l.length*az.n α:=by rw[←Nat.succ_mul];exact Nat.mul_le_mul_right _ hq
     rw[if_pos ⟨by omega,by omega,by omega⟩,h2,O9 hq,Nat.add_sub_cancel_left]
   · rw[if_neg,h1,h2,O_ (Ne.symm e)]
     intro ⟨a,b,c⟩
     rcases Nat.lt_or_gt_of_ne e with e | e
     · have:q*az.n α+az.n α≤i*az.n α:=by rw[←Nat.succ_mul];exact Nat.mul_le_mul_right _ e
       omega
     · have:i*az.n α+az.n α≤q*az.n α:=by rw[←Nat.succ_mul];exact Nat.mul_le_mul_right _ e
       omega
 · have:l.length*az.n α≤q*az.n α:=Nat.mul_le_mul_right _ o!
   rw[if_neg o!,List.getElem?_eq_none o!,List.getElem?_eq_none o!]
theorem ba.at {h0 h:au} {z:AV} {l:List α} (y:Tidy h) (y0:Tidy h0) (a:Has h0 h) (o:ba h0 h z l) {i:Nat} (hi:i<l.length):
 ∃p,dL env (some (.slice (az.e α))) (some z) (some (.int .i64 ((i:Nat):Int)))=some (.ptr p (i*az.n α))∧
  ∀x:α,(az.c x).all AV.scalar=true→∃h',dX env h (az.e α) (.ptr p (i*az.n α)) (.agg (az.c x))=some h'∧Tidy h'∧h'.nx=h.nx∧ba h0 h' z (l.set i x)∧Has h0 h':=by
 rcases o with ⟨_,rfl⟩ | ⟨hn,p,op,rfl,hp,hg⟩
 · simp at hi
 · have ix:=b7 (E:=env) (i:=p) (o:=0) (c:=l.length) (b:=op) (az.size (α:=α)) hi
   rw[Nat.zero_add] at ix
   refine ⟨p,ix,fun x hx=>?_⟩
   have hl:=bP az.len l
   have hb:i*az.n α+az.n α≤l.length*az.n α:=by rw[←Nat.succ_mul];exact Nat.mul_le_mul_right _ hi
   obtain ⟨h',s⟩:=uw (E:=env) (t:=az.e α) (o:=i*az.n α) (n:=az.n α) (v:= .agg (az.c x)) hg az.size (az.len x) o! hx
   have g':=rL y s hg
   refine ⟨h',s,o9 y s hg,qz s hg,.inr ⟨by intro e;rw[←List.length_eq_zero_iff,List.length_set] at e;omega,p,op,by rw[List.length_set],hp,?_⟩,fun j w gw=>?_⟩
   · rw[g']
     show some (aR.cells (setFrom (l.flatMap az.c) (i*az.n α) (az.c x)) _ _)=_
     rw[pe hi]
   · have:=y0 _ _ gw
     exact mu y s hg o! (a _ _ gw)
theorem HM {h:au} {l:List α} {i:Nat} {x:α} (a:∀y∈l,az.ok h y) (b:az.ok h x):∀y∈l.set i x,az.ok h y:=fun y hy=>(List.mem_or_eq_of_mem_set hy).elim (a y) fun e=>e▸b
end

section
variable {h:au} {b:Nat} {pre post:List AV} {L:List Int} {e:TypeId} {ro:Bool} {o t j x:Nat}
theorem acr {h:au} {b:Nat} {o:aR} (y:Tidy h) (g:h.get b=some o):∃hw,Tidy hw∧hw.nx=h.nx∧hw.get b=none∧Has hw h∧∀i,i≠b→hw.get i=h.get i:=
 ⟨h.put b none,fun i x q=>by
  by_cases e:i=b
  · subst e;rw[au.bF] at q;cases q
  · rw[au.aY (Ne.symm e)] at q;exact y i x q,rfl,au.bF _,fun i x q=>by
  by_cases e:i=b
  · subst e;rw[au.bF] at q;cases q
  · rw[au.aY (Ne.symm e)] at q;exact q,fun i e=>au.aY (Ne.symm e) _⟩
end
def gX (s:List UInt8):Nat→Nat→Option (Bool)
 | 0,_=>none
 | gB+1,i0=>(bif (decide ((((s.g i0).toNat:Nat):Int)<97)) then (bif (decide ((((s.g i0).toNat:Nat):Int)<48)) then (bif (!decide ((((s.g i0).toNat:Nat):Int)=45)) then some false else gX s gB (i0+1)) else (bif (decide (57<(((s.g i0).toNat:Nat):Int))) then (bif (!decide ((((s.g i0).toNat:Nat):Int)=45)) then some false else gX s gB (i0+1)) else gX s gB (i0+1))) else (bif (decide (122<(((s.g i0).toNat:Nat):Int))) then (bif (decide ((((s.g i0).toNat:Nat):Int)<48)) then (bif (!decide ((((s.g i0).toNat:Nat):Int)=45)) then some false else gX s gB (i0+1)) else (bif (decide (57<(((s.g i0).toNat:Nat):Int))) then (bif (!decide ((((s.g i0).toNat:Nat):Int)=45)) then some false else gX s gB (i0+1)) else gX s gB (i0+1))) else gX s gB (i0+1)))
def jV (s:List UInt8):Bool:=(bif (decide (((List.length s:Nat):Int)=0)) then false else (bif (decide (16<((List.length s:Nat):Int))) then false else (bif (decide ((((s.g 0).toNat:Nat):Int)<97)) then false else (bif (decide (122<(((s.g 0).toNat:Nat):Int))) then false else (match (gX s (List.length s) 0) with | none=>true | some rr8=>rr8)))))
def rO (n:Int):Bool:=(bif (decide (0≤n)) then (decide (n≤100000)) else false)
def bK (g:aE):Int:=(bif (decide (g.acc<0)) then 1 else (bif (decide (1000000000<g.acc)) then 1 else (bif (decide (g.b6<0)) then 1 else (bif (decide (1000000000<g.b6)) then 1 else (bif (!(rO g.since)) then 1 else 0)))))
def nj (n:Int):Bool:=(bif (decide ((-1000000000)≤n)) then (decide (n≤1000000000)) else false)
def bE (i0:Nat) (q:aw):Nat→Nat→Option (Int)
 | 0,_=>none
 | bj+1,i1=>(bif (decide ((q.ao.g i1).name=((q.ao.g i0).name))) then some 6 else bE i0 q bj (i1+1))
def bC (q:aw):Nat→Nat→Option (Int)
 | 0,_=>none
 | gB+1,i0=>(bif (!(jV (q.ao.g i0).name)) then some 5 else (match (bE i0 q i0 0) with | none=>(bif (!decide ((bK (q.ao.g i0))=0)) then some (bK (q.ao.g i0)) else bC q gB (i0+1)) | some rr9=>some rr9))
def bB (q:aw):Int:=(bif (!(jV q.name)) then 5 else (bif (!(nj q.ai)) then 1 else (bif (!(nj q.af)) then 1 else (bif (decide (q.af<q.ai)) then 1 else (bif (decide (q.aH<0)) then 1 else (bif (decide (10000<q.aH)) then 1 else (bif (decide (q.aJ<0)) then 1 else (bif (decide (10000<q.aJ)) then 1 else (bif (decide (8<((q.ao.length:Nat):Int))) then 3 else (bif (decide (q.bad<0)) then 1 else (bif (decide (((q.ao.length:Nat):Int)<q.bad)) then 1 else (match (bC q q.ao.length 0) with | none=>0 | some adl=>adl))))))))))))
end
end Go.Proofs.aK
