import Derived.Test.YtkffioplnoajdaaGreatA7
import Derived.Test.YtkffioplnoajdaaGreatEnv
namespace Go.Proofs.aP
open Go.Proofs Ab
set_option maxRecDepth 100000
set_option maxHeartbeats 4000000
set_option linter.unusedVariables false
set_option linter.unusedSimpArgs false
theorem ag8 {b:Bool} (h:b=true):(!b)=false:=by rw[h];rfl
theorem ag9 {b:Bool} (h:b=false):(!b)=true:=by rw[h];rfl
theorem lr (t:TypeId) (c d:Bool) (k:IntKind) (a b:Int):gE env .eql t c d (some (.int k a)) (some (.int k b))=some (.bool (decide (a=b))):=Ye t c d k a b
theorem eu (t:TypeId) (c d:Bool) (k:IntKind) (a b:Int):gE env .neq t c d (some (.int k a)) (some (.int k b))=some (.bool (!decide (a=b))):=Yf t c d k a b
theorem ba (t:TypeId) (c d:Bool) (k:IntKind) (a b:Int):gE env .lss t c d (some (.int k a)) (some (.int k b))=some (.bool (decide (a<b))):=Yg t c d k a b
theorem pS (t:TypeId) (c d:Bool) (k:IntKind) (a b:Int):gE env .leq t c d (some (.int k a)) (some (.int k b))=some (.bool (decide (a≤b))):=Yh t c d k a b
theorem bR (t:TypeId) (c d:Bool) (k:IntKind) (a b:Int):gE env .gtr t c d (some (.int k a)) (some (.int k b))=some (.bool (decide (b<a))):=Yi t c d k a b
theorem lH (t:TypeId) (c d:Bool) (k:IntKind) (a b:Int):gE env .geq t c d (some (.int k a)) (some (.int k b))=some (.bool (decide (b≤a))):=Yj t c d k a b
theorem KY (t:TypeId) (c d:Bool) (a b:List UInt8):gE env .eql t c d (some (.str a)) (some (.str b))=some (.bool (decide (a=b))):=Uf t c d a b
theorem pK (t:TypeId) (c d:Bool) {k:IntKind} {a b z:Int} (h:k.wrap (a+b)=z):gE env .add t c d (some (.int k a)) (some (.int k b))=some (.int k z):=DT h
theorem uz (t:TypeId) (c d:Bool) {k:IntKind} {a b z:Int} (h:k.wrap (a - b)=z):gE env .sub t c d (some (.int k a)) (some (.int k b))=some (.int k z):=DU h
theorem Tk (t:TypeId) (c d:Bool) {k:IntKind} {a b z:Int} (h:k.wrap (a*b)=z):gE env .mul t c d (some (.int k a)) (some (.int k b))=some (.int k z):=M' h
theorem aw (t:TypeId) (o:Nat) (v:AV) {h:au} {i:Nat} {cs:List AV} {e:TypeId} {ro:Bool} (hg:h.get i=some (.cells cs e ro)) (hv:iK env t cs o=some v):bh env h t (.ptr i o)=some v:=DV hg hv
theorem GZ {a:Nat} (h:a<9223372036854775808):IntKind.i64.wrap (a:Int)=(a:Int):=wrap_i64 (by omega) (by omega)
theorem fe (t:TypeId) (c d:Bool) (a b:Nat) (h:a+b<9223372036854775808):gE env .add t c d (some (.int .i64 (a:Int))) (some (.int .i64 (b:Int)))=some (.int .i64 ((a+b:Nat):Int)):=DT (by rw[show (a:Int)+b=((a+b:Nat):Int) by omega];exact GZ h)
theorem aeL (t:TypeId) (c d:Bool) (a b:Nat) (h:b≤a) (ha:a<9223372036854775808):gE env .sub t c d (some (.int .i64 (a:Int))) (some (.int .i64 (b:Int)))=some (.int .i64 ((a - b:Nat):Int)):=DU (by rw[show (a:Int) - b=((a - b:Nat):Int) by omega];exact GZ (by omega))
theorem pk (d:Nat) (c:Code) (ts:List AV) (h:au) (e:lY) (h':au) {al:List o8} {ps:List Prop} (k:Pk al [] ps) (hr:run env (cR d) 300 c ⟨ts,h,[],.no⟩ al []= .at e ⟨Pp (run env (cR d) 300 c ⟨ts,h,[],.no⟩ al []),h',[],.no⟩ [] ps):Ev env (cR d) c ⟨ts,h,[],.no⟩ e ⟨Pp (run env (cR d) 300 c ⟨ts,h,[],.no⟩ al []),h',[],.no⟩:=aeI k hr
theorem j_ {h:au} (y:Tidy h) (o:aM):∃h',h.new o=some h'∧Tidy h'∧h'.nx=h.nx+1∧h'.get h.nx=some o∧Has h h':=by
 obtain ⟨h',n⟩:=xp (h:=h) o
 exact ⟨h',n,oc y n,AM n,vJ n,yX y n⟩
theorem aeM {h:au} {t e:TypeId} {i o n:Nat} {cs N:List AV} {v:AV} (y:Tidy h) (gg:h.get i=some (.cells cs e false)) (hs:bU env t=some n) (hv:v.cells.length=n) (hl:Nat.ble (o+n) cs.length=true) (hN:setFrom cs o v.cells=N) (hk:v.cells.all AV.scalar=true):∃h',dL env h t (.ptr i o) v=some h'∧Tidy h'∧h'.nx=h.nx∧h'.get i=some (.cells N e false)∧Kept i h h':=by
 obtain ⟨h',s⟩:=rE (E:=env) gg hs hv (Nat.le_of_ble_eq_true hl) hk
 exact ⟨h',s,DY y s gg,DX s gg,by rw[←hN];exact GW y s gg,Kept.store y s gg⟩
theorem qL {h:au} {t e:TypeId} {i n:Nat} {cs L:List AV} (y:Tidy h) (gg:h.get i=some (.cells cs e false)) (hs:bU env t=some n) (hv:L.length=n) (hc:cs.length=n) (hk:L.all AV.scalar=true):∃h',dL env h t (.ptr i 0) (.agg L)=some h'∧Tidy h'∧h'.nx=h.nx∧h'.get i=some (.cells L e false)∧Kept i h h':=
 aeM y gg hs hv (by rw[hc,Nat.zero_add,Nat.ble_eq];exact Nat.le_refl n) (by
  show setFrom cs 0 L=L
  apply List.ext_getElem?
  intro k
  rw[jg]
  split
  · rfl
  · rw[List.getElem?_eq_none (by omega),List.getElem?_eq_none (by omega)]) hk
structure Rk (f:List o8→List o8) (ps:List Prop):Prop where
 ok:ng ps
section
variable {f:List o8→List o8} {ps:List Prop}
end
section
variable {f:List o8→List o8} {ps:List Prop}
theorem Rh {P:Prop} (h:P) (k:Rk f ps):Rk f (P::ps):=⟨⟨h,k.ok⟩⟩
end
theorem k! {p:Prop} (h:p:=by kernel_rfl):p:=h
theorem o! {p:Prop} (h:p:=by omega):p:=h
theorem nbf {b:Bool} (h:(!b)=false):b=true:=by cases b;cases h;rfl
theorem nbt {b:Bool} (h:(!b)=true):b=false:=by cases b;rfl;cases h
theorem d! {p:Prop} (h:p:=by first | assumption | exact ag8 (by assumption) | exact ag9 (by assumption) | exact nbf (by assumption) | exact nbt (by assumption) | exact dT (by omega) | exact dF (by omega) | exact nT (by omega) | exact nF (by omega)):p:=h
@[reducible] def _root_.Zi (x:Int):AV:= .int .i64 x
@[reducible] def _root_.Zn (n:Nat):AV:= .int .i64 (n:Int)
@[reducible] def _root_.Pt (b:Nat):AV:= .ptr b 0
theorem _root_.kI {c:Bool} (x y:Bool) (h:c=true):BE (some (.bool c)) (some (.bool x)) (some (.bool y))=some (.bool x):=Uh h
theorem _root_.pcf {c:Bool} (x y:Bool) (h:c=false):BE (some (.bool c)) (some (.bool x)) (some (.bool y))=some (.bool y):=bA h
theorem _root_.uN {c:Bool} (x:Bool) (h:c=true):BE (some (.bool c)) (some (.bool x)) (some AV.undef)=some (.bool x):=Uh h
theorem _root_.tS {c:Bool} (x:Bool) (h:c=false):BE (some (.bool c)) (some AV.undef) (some (.bool x))=some (.bool x):=bA h
section
variable {al:List o8} {p0 ps:List Prop}
theorem BC {u v:Bool} (h:u=v) (k:Pk al ((u=v)::p0) ps):Pk (.b v:: .c::al) p0 ps:=BB h (CC k)
theorem BV {u v:Bool} {l:Option AV} {x:AV} (h:u=v) (e:l=some x) (k:Pk al ((l=some x)::(u=v)::p0) ps):Pk (.b v:: .v x::al) p0 ps:=BB h (VV e k)
theorem BM {u v:Bool} {l:Option AV} {x:AV} (h:u=v) (e:l=some x) (k:Pk al ((l=some x)::(u=v)::p0) ps):Pk (.b v:: .m x::al) p0 ps:=BB h (MM e k)
end
theorem _root_.Go.Ab.Has.ea {h0 h h':au} {b:Nat} (a:Has h0 h) (k:Kept b h h') (y:Tidy h0) (hb:h0.nx≤b):Has h0 h':=fun i x g=>by
 have:=y i x g
 exact k i x o! (a i x g)
class aL (α:Type) extends Inhabited α where
 c:α→List AV
 n:Nat
 e:TypeId
 len:∀x,(c x).length=n
 ok:au→α→Prop
 mono:∀{h h':au} {x:α},Has h h'→ok h x→ok h' x
 size:bU env e=some n
 agg:fw env e=some true
 pos:0<n
@[reducible] def imax (x y:Int):Int:=if y>x then y else x
@[reducible] def aiY (x y:Int):Int:=if y<x then y else x
def _root_.List.g {α:Type} [Inhabited α] (l:List α) (i:Nat):α:=l.getD i default
structure aS {α:Type} [aL α] (h:au) (v:AV) (l:List α):Prop where
 at_:nQ env h (aL.e α) (aL.n α) v l.length (l.flatMap aL.c)
 known:v= .aH∨v= .eN∨∃p o m c b,v= .slice p o m c b∧(b=true→0<c)
 oks:∀x∈l,aL.ok h x
theorem eB {α β:Type} {size:Nat} {f:α→List β} (hf:∀x,(f x).length=size) (l:List α):(l.flatMap f).length=l.length*size:=by
 induction l with
 | nil=>simp
 | cons x l ih=>rw[List.flatMap_cons,List.length_append,ih,hf,List.length_cons,Nat.succ_mul];omega
section
variable {α:Type} [aL α] {h:au} {v:AV} {l:List α}
theorem aS.has {h':au} (x:aS h v l) (a:Has h h'):aS h' v l:=⟨x.at_.has a,x.known,fun y hy=>aL.mono a (x.oks y hy)⟩
theorem Pq {i:Nat} (hi:i<l.length):l.g i∈l:=by
 rw[List.g,List.getD_eq_getElem?_getD,List.getElem?_eq_getElem hi];exact List.getElem_mem hi
theorem aS.ok (x:aS h v l) {i:Nat} (hi:i<l.length):aL.ok h (l.g i):=x.oks _ (Pq hi)
theorem aS.small (x:aS h v l):l.length<2^60:=x.at_.small
theorem aS.len (x:aS h v l):b6 (some (.slice (aL.e α))) (some v)=some (.int .i64 (l.length:Nat)):=x.at_.lens
theorem aS.scalar (x:aS h v l):AV.scalar v=true:=by
 rcases x.known with rfl | rfl | ⟨p,o,m,c,b,rfl,_⟩<;>rfl
theorem oh {β:Type} {size:Nat} {f:α→List β} (hf:∀x,(f x).length=size):∀(l:List α) (i j:Nat) (_:i<l.length),j<size→(l.flatMap f)[i*size+j]? =(f (l.g i))[j]?
 | [],i,j,hi,_=>by cases hi
 | x::l,0,j,_,hj=>by
   rw[List.flatMap_cons,Nat.zero_mul,Nat.zero_add,List.getElem?_append_left (by rw[hf];exact hj)];rfl
 | x::l,i+1,j,hi,hj=>by
   have e:(i+1)*size+j -(f x).length=i*size+j:=by rw[hf,Nat.succ_mul];omega
   rw[List.flatMap_cons,List.getElem?_append_right (by rw[hf,Nat.succ_mul];omega),e,oh hf l i j (by simpa using hi) hj];rfl
theorem aS.elem (x:aS h v l) {i:Nat} (hi:i<l.length):∃p q,bS env (some (.slice (aL.e α))) (some v) (some (.int .i64 ((i:Nat):Int)))=some (.ptr p q):=by
 rcases x.at_.block with h0 | ⟨p,o,m,c,b,C,f,ro,h1,_,h2,h3⟩
 · omega
 · subst h1
   have hm:m=l.length:=by
    have:=x.at_.lens
    rw[iw] at this
    simp only[Option.some.injEq,AV.int.injEq,true_and] at this
    omega
   exact ⟨p,o+i*aL.n α,nu x.at_.size o!⟩
theorem aS.block (x:aS h v l) {i p q:Nat} (hi:i<l.length) (hx:bS env (some (.slice (aL.e α))) (some v) (some (.int .i64 ((i:Nat):Int)))=some (.ptr p q)):
 ∃C f ro,h.get p=some (.cells C f ro)∧∀j,j<aL.n α→C[q+j]? =(aL.c (l.g i))[j]? :=by
 rcases x.at_.block with h0 | ⟨p',o,m,c,b,C,f,ro,h1,_,h2,h3⟩
 · omega
 · subst h1
   have hm:m=l.length:=by
    have:=x.at_.lens
    rw[iw] at this
    simp only[Option.some.injEq,AV.int.injEq,true_and] at this
    omega
   rw[nu x.at_.size o!] at hx
   simp only[Option.some.injEq,AV.ptr.injEq] at hx
   obtain ⟨rfl,rfl⟩:=hx
   refine ⟨C,f,ro,h2,fun j hj=>?_⟩
   have e:=oh aL.len l i j hi hj
   have np:i*aL.n α+j<(l.flatMap aL.c).length:=by
    rw[eB aL.len]
    calc i*aL.n α+j<i*aL.n α+aL.n α:=by omega
     _=(i+1)*aL.n α:=by rw[Nat.succ_mul]
     _≤l.length*aL.n α:=Nat.mul_le_mul_right _ hi
   rw[←e,Nat.add_assoc,h3 _ np]
theorem aS.load (x:aS h v l) {i p q:Nat} (hi:i<l.length) (hx:bS env (some (.slice (aL.e α))) (some v) (some (.int .i64 ((i:Nat):Int)))=some (.ptr p q)):bh env h (aL.e α) (.ptr p q)=some (.agg (aL.c (l.g i))):=by
 obtain ⟨C,f,ro,h1,h2⟩:=x.block hi hx
 have hl:=aL.len (l.g i)
 have hn:q+aL.n α≤C.length:=by
  have h0:=aL.pos (α:=α)
  have:=h2 (aL.n α - 1) o!
  rw[List.getElem?_eq_getElem (by omega:aL.n α - 1<(aL.c (l.g i)).length)] at this
  have:=(List.getElem?_eq_some_iff.1 this).1
  omega
 simp only[bh,h1,iK,aL.agg,aL.size,hn,if_true]
 congr 2
 apply List.ext_getElem?
 intro j
 by_cases hj:j<aL.n α
 · rw[List.getElem?_take_of_lt hj,List.getElem?_drop,h2 j hj]
 · rw[List.getElem?_eq_none (by rw[List.length_take];omega),List.getElem?_eq_none o!]
theorem aS.part (x:aS h v l) {i p q j:Nat} {t:TypeId} {w:AV} (hi:i<l.length) (hx:bS env (some (.slice (aL.e α))) (some v) (some (.int .i64 ((i:Nat):Int)))=some (.ptr p q)) (ht:fw env t=some false) (hw:(aL.c (l.g i))[j]? =some w):bh env h t (.ptr p (q+j))=some w:=by
 obtain ⟨C,f,ro,h1,h2⟩:=x.block hi hx
 have hj:=(List.getElem?_eq_some_iff.1 hw).1
 rw[aL.len] at hj
 simp only[bh,h1,iK,ht]
 rw[h2 j hj,hw]
theorem aS.pre (x:aS h v l) {t:TypeId} (ht:env.P.underlying t=some (.slice (aL.e α))) {i:Nat} (hi:i<l.length):∃r,db env t v none (some (.int .i64 ((i:Nat):Int))) none=some r∧aS h r (l.take i):=by
 rcases x.at_.block with h0 | ⟨p,o,m,c,b,C,f,ro,h1,hc,h2,h3⟩
 · omega
 · subst h1
   have hm:m=l.length:=by
    have:=x.at_.lens
    rw[iw] at this
    simp only[Option.some.injEq,AV.int.injEq,true_and] at this
    omega
   subst hm
   have hb:b=true→0<c:=fun e=>by omega
   refine ⟨.slice p o i c b,?_,⟨⟨x.at_.size,eB aL.len _,by have:=x.small;simp;omega,?_,.inr ⟨p,o,i,c,b,C,f,ro,rfl,by omega,h2,fun j hj=>?_⟩⟩,.inr (.inr ⟨_,_,_,_,_,rfl,hb⟩),fun y hy=>x.oks y (List.mem_of_mem_take hy)⟩⟩
   · simp only[db,ht,x.at_.size,hc,if_true,mm (len:=l.length) (cap:=c) none (some (.int .i64 ((i:Nat):Int))) (.inr ⟨rfl,rfl⟩) (.inl rfl) (Nat.zero_le i) o!]
     rw[if_neg o!]
     simp
   · rw[List.length_take,Nat.min_eq_left o!];exact iw _ _ _ _ _ _
   · rw[eB aL.len,List.length_take,Nat.min_eq_left o!] at hj
     have np:j<(l.flatMap aL.c).length:=by
      rw[eB aL.len];exact Nat.lt_of_lt_of_le hj (Nat.mul_le_mul_right _ o!)
     rw[h3 j np]
     have e:l=l.take i++l.drop i:=(List.take_append_drop i l).symm
     conv=>lhs;rw[e,List.flatMap_append]
     rw[List.getElem?_append_left]
     rw[eB aL.len,List.length_take,Nat.min_eq_left o!];exact hj
def aA {ρ:Type} (call:bq) (b:Code) (s:St) (ex:lY) (hh:au) (tn:(Nat→AV)→List AV) (tr:ρ→(Nat→AV)→List AV):Option ρ→Prop
 | none=>∃y hk,Ev env call (.loop b) s ex ⟨tn y,hk,[],.no⟩∧bF hh hk
 | some r=>∃y hk,Ev env call (.loop b) s .ret ⟨tr r y,hk,[],.no⟩∧bF hh hk
section
variable {ρ:Type} {call:bq} {b:Code} {s:St} {ex:lY} {hh hk:au} {tn:(Nat→AV)→List AV} {tr:ρ→(Nat→AV)→List AV}
theorem aA.n {o:Option ρ} (e:o=none) (x:aA call b s ex hh tn tr o):∃y hk,Ev env call (.loop b) s ex ⟨tn y,hk,[],.no⟩∧bF hh hk:=by subst e;exact x
theorem aA.r {o:Option ρ} {r:ρ} (e:o=some r) (x:aA call b s ex hh tn tr o):∃y hk,Ev env call (.loop b) s .ret ⟨tr r y,hk,[],.no⟩∧bF hh hk:=by subst e;exact x
theorem aA.out {i:Nat} {L:List AV} {o:Option ρ} (e:o=none) (ev:Ev env call b s (.exit i) ⟨L,hk,[],.no⟩) (G:bF hh hk) (hl:L=tn fun k=>L.getD k AV.undef):aA call b s (.exit i) hh tn tr o:=by
 subst e
 obtain ⟨y,q⟩:=kO (Ev.out ev) hl
 exact ⟨y,hk,q,G⟩
theorem aA.ret {L:List AV} {o:Option ρ} (r:ρ) (e:o=some r) (ev:Ev env call b s .ret ⟨L,hk,[],.no⟩) (G:bF hh hk) (hl:L=tr r fun k=>L.getD k AV.undef):aA call b s ex hh tn tr o:=by
 subst e
 obtain ⟨y,q⟩:=kO (tmpl:=tr r) (Ev.ret ev) hl
 exact ⟨y,hk,q,G⟩
theorem aA.round {L:List AV} {o o':Option ρ} (e:o=o') (ev:Ev env call b s .normal ⟨L,hk,[],.no⟩) (G:bF hh hk) (KZ:(Nat→AV)→List AV) (hl:L=KZ fun k=>L.getD k AV.undef) (ih:∀x,aA call b ⟨KZ x,hk,[],.no⟩ ex hk tn tr o'):aA call b s ex hh tn tr o:=by
 subst e
 have q:=ih fun k=>L.getD k AV.undef
 rw[←hl] at q
 cases o with
 | none=>obtain ⟨y,h2,x,g⟩:=q;exact ⟨y,h2,Ev.loop ev x,G.trans g⟩
 | some r=>obtain ⟨y,h2,x,g⟩:=q;exact ⟨y,h2,Ev.loop ev x,G.trans g⟩
end
def mL {ρ:Type} (call:bq) (b:Code) (s:St) (ex:lY) (h hh:au) (tn:(Nat→AV)→List AV) (tr:ρ→(Nat→AV)→List AV) (pb:Nat) (cl:ρ→aM):Option ρ→Prop
 | none=>∃y hk,Ev env call (.loop b) s ex ⟨tn y,hk,[],.no⟩∧bF hh hk
 | some r=>∃y hk,Ev env call (.loop b) s .ret ⟨tr r y,hk,[],.no⟩∧Tidy hk∧Has h hk∧hh.nx≤hk.nx∧hk.get pb=some (cl r)
section
variable {ρ:Type} {call:bq} {b:Code} {s:St} {ex:lY} {h hh hk:au} {tn:(Nat→AV)→List AV} {tr:ρ→(Nat→AV)→List AV} {pb:Nat} {cl:ρ→aM}
theorem mL.n {o:Option ρ} (e:o=none) (x:mL call b s ex h hh tn tr pb cl o):∃y hk,Ev env call (.loop b) s ex ⟨tn y,hk,[],.no⟩∧bF hh hk:=by subst e;exact x
theorem mL.r {o:Option ρ} {r:ρ} (e:o=some r) (x:mL call b s ex h hh tn tr pb cl o):∃y hk,Ev env call (.loop b) s .ret ⟨tr r y,hk,[],.no⟩∧Tidy hk∧Has h hk∧hh.nx≤hk.nx∧hk.get pb=some (cl r):=by subst e;exact x
theorem mL.out {i:Nat} {L:List AV} {o:Option ρ} (e:o=none) (ev:Ev env call b s (.exit i) ⟨L,hk,[],.no⟩) (G:bF hh hk) (hl:L=tn fun k=>L.getD k AV.undef):mL call b s (.exit i) h hh tn tr pb cl o:=by
 subst e
 obtain ⟨y,q⟩:=kO (Ev.out ev) hl
 exact ⟨y,hk,q,G⟩
theorem mL.round {L:List AV} {o o':Option ρ} (e:o=o') (ev:Ev env call b s .normal ⟨L,hk,[],.no⟩) (G:bF hh hk) (KZ:(Nat→AV)→List AV) (hl:L=KZ fun k=>L.getD k AV.undef) (ih:∀x,mL call b ⟨KZ x,hk,[],.no⟩ ex h hk tn tr pb cl o'):mL call b s ex h hh tn tr pb cl o:=by
 subst e
 have q:=ih fun k=>L.getD k AV.undef
 rw[←hl] at q
 cases o with
 | none=>obtain ⟨y,h2,x,g⟩:=q;exact ⟨y,h2,Ev.loop ev x,G.trans g⟩
 | some r=>obtain ⟨y,h2,x,y1,a1,n1,g1⟩:=q;exact ⟨y,h2,Ev.loop ev x,y1,a1,Nat.le_trans G.n n1,g1⟩
end
def cN {σ:Type} (call:bq) (b:Code) (s:St) (ex:lY) (hh:au) (tn:σ→(Nat→AV)→List AV) (Q:σ→Prop) (r:σ):Prop:=∃y hk,Ev env call (.loop b) s ex ⟨tn r y,hk,[],.no⟩∧bF hh hk∧Q r
section
variable {σ:Type} {call:bq} {b:Code} {s:St} {ex:lY} {hh hk:au} {tn:σ→(Nat→AV)→List AV} {Q:σ→Prop}
theorem cN.out {i:Nat} {L:List AV} {o:σ} (r:σ) (e:o=r) (ev:Ev env call b s (.exit i) ⟨L,hk,[],.no⟩) (G:bF hh hk) (iq:Q r) (hl:L=tn r fun k=>L.getD k AV.undef):cN call b s (.exit i) hh tn Q o:=by
 subst e
 obtain ⟨y,q⟩:=kO (tmpl:=tn o) (Ev.out ev) hl
 exact ⟨y,hk,q,G,iq⟩
theorem cN.round {L:List AV} {o o':σ} (e:o=o') (ev:Ev env call b s .normal ⟨L,hk,[],.no⟩) (G:bF hh hk) (KZ:(Nat→AV)→List AV) (hl:L=KZ fun k=>L.getD k AV.undef) (ih:∀x,cN call b ⟨KZ x,hk,[],.no⟩ ex hk tn Q o'):cN call b s ex hh tn Q o:=by
 subst e
 have q:=ih fun k=>L.getD k AV.undef
 rw[←hl] at q
 obtain ⟨y,h2,x,g,i⟩:=q;exact ⟨y,h2,Ev.loop ev x,G.trans g,i⟩
end
theorem aS.same {α:Type} [aL α] {h:au} {v:AV} {l:List α} (x:aS h v l) (n:Nat):AV.same (n+1) v v=true:=by
 rcases x.known with rfl | rfl | ⟨p,o,m,c,b,rfl,_⟩
 · rfl
 · rfl
 · exact jt n p o m c b
def Yq (cs:List AV):Prop:=∀n,ep (AV.same (n+1)) cs cs=true
theorem Ix:Yq []:=fun _=>rfl
theorem oX {x:AV} {cs:List AV} (hx:∀n,AV.same (n+1) x x=true) (hc:Yq cs):Yq (x::cs):=fun n=>by
 show (AV.same (n+1) x x&&ep (AV.same (n+1)) cs cs)=true
 rw[hx,hc];rfl
theorem fj (n:Nat) {cs:List AV} (h:Yq cs):AV.same (n+2) (.agg cs) (.agg cs)=true:=h n
theorem o9 {s:List UInt8} {j:Nat} (hj:j<s.length):xm env (some .string) (some (.str s)) (some (.int .i64 ((j:Nat):Int)))=some (.int .u8 (((s.g j).toNat:Nat):Int)):=by
 refine Ug ?_
 rw[List.g,List.getD_eq_getElem?_getD,List.getElem?_eq_getElem hj];rfl
end
theorem K0 {h:au} {e s xt:TypeId} {xd:TypeDesc} {tys:Array TypeId} {bytes:Nat} {z x:AV} {M:List AV} (h0:tys[0]? =some s) (h1:tys[1]? =some xt) (hs:env.P.underlying s=some (.slice e)) (hx:env.P.underlying xt=some xd) (hi:px xd=false) (Uk:bU env e=some 1) (hb:ke env e=some bytes) (GY:gR env e=some z) (hz:z.cells.length=1) (h8:bytes≤63) (hlen:rf x=some M.length) (hf:fA h 1 M.length x=some M) (Fy:M.all AV.scalar=true) (hm:M≠ []) (hl:M.length≤1073741824):
 ∃h',dJ env h tys .aH x=some (.slice h.nx 0 M.length M.length true,h')∧h.new (.cells M e false)=some h':=by
 obtain ⟨h',n⟩:=xp (h:=h) (.cells M e false)
 refine ⟨h',?_,n⟩
 have hn:¬M.length=0:=fun e=>hm (List.length_eq_zero_iff.1 e)
 have HK:(4*M.length+4096)*(bytes+1)≤1099511627776:=Nat.le_trans (Nat.mul_le_mul (show 4*M.length+4096≤17179869184 by omega) (show bytes+1≤64 by omega)) (by decide)
 simp only[dJ,h0,h1,hs,hx,hi,Uk,hb,hlen,hf,GY,hz,Fy,Nat.mul_one,hn,HK,n,if_true,if_false,and_self,Bool.false_eq_true]
theorem K1 {h:au} {e s xt:TypeId} {xd:TypeDesc} {tys:Array TypeId} {bytes p:Nat} {op:Bool} {z x:AV} {L M:List AV} (y:Tidy h) (h0:tys[0]? =some s) (h1:tys[1]? =some xt) (hs:env.P.underlying s=some (.slice e)) (hx:env.P.underlying xt=some xd) (hi:px xd=false) (Uk:bU env e=some 1) (hb:ke env e=some bytes) (GY:gR env e=some z) (hz:z.cells.length=1) (h8:bytes≤63) (hlen:rf x=some M.length) (hf:fA h 1 M.length x=some M) (Fy:M.all AV.scalar=true) {n:Nat} (hn:L.length=n) (hm:M≠ []) (hl:n+M.length≤1073741824)
 (hg:h.get p=some (.cells L e false)):
 ∃h',dJ env h tys (.slice p 0 n n op) x=some (.slice h.nx 0 (n+M.length) (n+M.length) true,h')∧Tidy h'∧h'.nx=h.nx+1∧Kept p h h'∧h'.get h.nx=some (.cells (L++M) e false):=by
 have hp:=y _ _ hg
 subst hn
 have ec:(L.drop 0).take (L.length*1)++M=L++M:=by
  rw[List.drop_zero,Nat.mul_one,List.take_of_length_le (Nat.le_refl _)]
 have y2:Tidy (if op then h.put p none else h):=by
  cases op with
  | false=>exact y
  | true=>
    intro i x g
    show i<h.nx
    by_cases hi:i=p
    · subst hi;exact hp
    · rw[if_pos rfl,au.b5 (Ne.symm hi)] at g;exact y i x g
 have n2:(if op then h.put p none else h).nx=h.nx:=by cases op<;>rfl
 obtain ⟨h',n⟩:=xp (h:=if op then h.put p none else h) (.cells (L++M) e false)
 refine ⟨h',?_,oc y2 n,by rw[AM n,n2],fun i x hi g=>?_,by rw[←n2];exact vJ n⟩
 · have hn:0<M.length:=List.length_pos_iff.2 hm
   have HK:(4*(L.length+M.length)+4096)*(bytes+1)≤1099511627776:=Nat.le_trans (Nat.mul_le_mul (show 4*(L.length+M.length)+4096≤17179869184 by omega) (show bytes+1≤64 by omega)) (by decide)
   have hc:¬L.length+M.length≤L.length:=by omega
   simp only[dJ,h0,h1,hs,hx,hi,Uk,hb,hlen,hf,GY,hz,Fy,hg,hc,if_true,if_false,Bool.false_eq_true,Nat.mul_one]
   rw[if_pos ⟨trivial,trivial,trivial⟩,if_pos ⟨HK,by omega,fun _=>⟨trivial,by omega⟩⟩]
   rw[show List.take L.length (List.drop 0 L)=L by rw[List.drop_zero,List.take_length],n]
 · refine uK y2 n ?_
   cases op with
   | false=>exact g
   | true=>rw[if_pos rfl,au.b5 (Ne.symm hi)];exact g
def g7 (e:TypeId) (h0 h:au) (z:AV) (L:List AV):Prop:=(z= .aH∧L=[])∨(L≠ []∧∃p op,z= .slice p 0 L.length L.length op∧h0.nx≤p∧h.get p=some (.cells L e false))
theorem g7.has {e:TypeId} {h0 h h':au} {z:AV} {L:List AV} (o:g7 e h0 h z L) (a:Has h h'):g7 e h0 h' z L:=o.imp id fun ⟨hn,p,op,e,h1,g⟩=>⟨hn,p,op,e,h1,a _ _ g⟩
theorem Pr {i:Nat} {b:Bool} {v:AV}:rf (.slice i 0 1 1 b)=some [v].length:=rfl
theorem G4 {h:au} {i:Nat} {b:Bool} {v:AV} {e:TypeId} {ro:Bool} (hg:h.get i=some (.cells [v] e ro)):fA h 1 [v].length (.slice i 0 1 1 b)=some [v]:=by
 simp [fA,hg]
theorem g7.le {e:TypeId} {h0 h1 h:au} {z:AV} {L:List AV} (o:g7 e h1 h z L) (hn:h0.nx≤h1.nx):g7 e h0 h z L:=o.imp id fun ⟨eY,p,op,e,h1,g⟩=>⟨eY,p,op,e,by omega,g⟩
def zs (k:IntKind) (l:List Int):List AV:=l.map (AV.int k)
theorem fB (k:IntKind) (l:List Int):(zs k l).length=l.length:=by simp [zs]
theorem Yr (k:IntKind) (l:List Int) (x:Int):zs k (l++[x])=zs k l++[AV.int k x]:=by simp [zs]
theorem Iy (k:IntKind) (l:List Int) {i:Nat} (hi:i<l.length):(zs k l)[i]? =some (.int k (l.g i)):=by
 rw[zs,List.getElem?_map,List.getElem?_eq_getElem hi,List.g,List.getD_eq_getElem?_getD,List.getElem?_eq_getElem hi];rfl
structure b_ (h:au) (k:IntKind) (e:TypeId) (v:AV) (l:List Int):Prop where
 at_:nQ env h e 1 v l.length (zs k l)
 agg:fw env e=some false
 known:v= .aH∨v= .eN∨∃p o m c b,v= .slice p o m c b
theorem b_.has {k:IntKind} {h h':au} {e:TypeId} {v:AV} {l:List Int} (x:b_ h k e v l) (a:Has h h'):b_ h' k e v l:=⟨x.at_.has a,x.agg,x.known⟩
theorem b_.scalar {k:IntKind} {h:au} {e:TypeId} {v:AV} {l:List Int} (x:b_ h k e v l):AV.scalar v=true:=by
 rcases x.known with rfl | rfl | ⟨p,o,m,c,b,rfl⟩<;>rfl
theorem b_.same {k:IntKind} {h:au} {e:TypeId} {v:AV} {l:List Int} (x:b_ h k e v l) (n:Nat):AV.same (n+1) v v=true:=by
 rcases x.known with rfl | rfl | ⟨p,o,m,c,b,rfl⟩
 · rfl
 · rfl
 · exact jt n p o m c b
theorem b_.Ps {k:IntKind} {h:au} {e:TypeId} {v:AV} {l:List Int} {m:Nat} (x:b_ h k e v l) (e1:AV.map m=v):False:=by
 rcases x.known with rfl | rfl | ⟨p,o,n,c,b,rfl⟩<;>cases e1
theorem b_.small {k:IntKind} {h:au} {e:TypeId} {v:AV} {l:List Int} (x:b_ h k e v l):l.length<2^60:=x.at_.small
theorem b_.len {k:IntKind} {h:au} {e:TypeId} {v:AV} {l:List Int} (x:b_ h k e v l):b6 (some (.slice e)) (some v)=some (.int .i64 (l.length:Nat)):=x.at_.lens
theorem b_.elem {k:IntKind} {h:au} {e:TypeId} {v:AV} {l:List Int} (x:b_ h k e v l) {i:Nat} (hi:i<l.length):∃p q,bS env (some (.slice e)) (some v) (some (.int .i64 ((i:Nat):Int)))=some (.ptr p q)∧bh env h e (.ptr p q)=some (.int k (l.g i)):=x.at_.elem x.agg (Iy k l hi)
theorem b_.load {k:IntKind} {h:au} {e:TypeId} {v:AV} {l:List Int} (x:b_ h k e v l) {i p q:Nat} (hi:i<l.length) (hx:bS env (some (.slice e)) (some v) (some (.int .i64 ((i:Nat):Int)))=some (.ptr p q)):bh env h e (.ptr p q)=some (.int k (l.g i)):=by
 obtain ⟨p',q',h1,h2⟩:=x.elem hi
 rw[hx] at h1
 simp only[Option.some.injEq,AV.ptr.injEq] at h1
 obtain ⟨rfl,rfl⟩:=h1
 exact h2
theorem b_.nil {k:IntKind} {h:au} {e:TypeId} (hs:bU env e=some 1) (ha:fw env e=some false):b_ h k e .aH []:=⟨⟨hs,rfl,by decide,rfl,.inl rfl⟩,ha,.inl rfl⟩
theorem g7.zs {k:IntKind} {e:TypeId} {h0 h:au} {z:AV} {l:List Int} (o:g7 e h0 h z (aP.zs k l)) (hl:l.length<2^60) (hs:bU env e=some 1) (ha:fw env e=some false):b_ h k e z l:=by
 rcases o with ⟨rfl,e0⟩ | ⟨hn,p,op,rfl,_,hg⟩
 · have:l=[]:=List.length_eq_zero_iff.1 (by have:=congrArg List.length e0;rwa [fB] at this)
   subst this
   exact b_.nil hs ha
 · rw[fB]
   exact ⟨⟨hs,by rw[fB];omega,hl,rfl,.inr ⟨p,0,_,_,op,_,_,_,rfl,Nat.le_refl _,hg,fun j _=>by rw[Nat.zero_add]⟩⟩,ha,.inr (.inr ⟨_,_,_,_,_,rfl⟩)⟩
theorem g7.K2 {k:IntKind} {e:TypeId} {h0 h:au} {z:AV} {l:List Int} {n:Nat} (o:g7 e h0 h z (aP.zs k l)) (v:AV.within h0.nx (n+1) z=true) (hs:bU env e=some 1) (ha:fw env e=some false):b_ h0 k e z l:=by
 rcases o with ⟨rfl,e0⟩ | ⟨hn,p,op,rfl,hp,hg⟩
 · have:l=[]:=List.length_eq_zero_iff.1 (by have:=congrArg List.length e0;rwa [fB] at this)
   subst this
   exact b_.nil hs ha
 · have:=of_decide_eq_true (show decide (p<h0.nx)=true from v)
   omega
theorem CG {nx:Nat} {z:AV} {cs:List AV} (h:AV.within nx 20 (.tuple (z::cs))=true):AV.within nx (18+1) z=true:=by
 simp only[AV.within,List.all_cons,Bool.and_eq_true] at h
 exact h.1
def yY {σ:Type} (call:bq) (b:Code) (s:St) (ex:lY) (h:au) (e:TypeId) (tn:σ→AV→(Nat→AV)→List AV) (own:σ→List AV) (N:Nat) (r:σ):Prop:=∃z y hk,Ev env call (.loop b) s ex ⟨tn r z y,hk,[],.no⟩∧bF h hk∧g7 e h hk z (own r)∧(own r).length≤N
section
variable {σ:Type} {call:bq} {b:Code} {s:St} {ex:lY} {h hk:au} {e:TypeId} {tn:σ→AV→(Nat→AV)→List AV} {own:σ→List AV} {N:Nat}
theorem yY.out {i:Nat} {L:List AV} {o:σ} (r:σ) (z:AV) (e1:o=r) (ev:Ev env call b s (.exit i) ⟨L,hk,[],.no⟩) (G:bF h hk) (oz:g7 e h hk z (own r)) (ln:(own r).length≤N) (hl:L=tn r z fun k=>L.getD k AV.undef):yY call b s (.exit i) h e tn own N o:=by
 subst e1
 obtain ⟨y,q⟩:=kO (tmpl:=tn o z) (Ev.out ev) hl
 exact ⟨z,y,hk,q,G,oz,ln⟩
theorem yY.round {L:List AV} {o o':σ} (e1:o=o') (ev:Ev env call b s .normal ⟨L,hk,[],.no⟩) (KZ:(Nat→AV)→List AV) (hl:L=KZ fun k=>L.getD k AV.undef) (ih:∀x,yY call b ⟨KZ x,hk,[],.no⟩ ex h e tn own N o'):yY call b s ex h e tn own N o:=by
 subst e1
 have q:=ih fun k=>L.getD k AV.undef
 rw[←hl] at q
 obtain ⟨z,y,h2,x,g,oz,ln⟩:=q;exact ⟨z,y,h2,Ev.loop ev x,g,oz,ln⟩
end
def yZ {α:Type} [aL α] (h0 h:au) (z:AV) (l:List α):Prop:=
 ((z= .aH∨∃p,z= .slice p 0 0 0 false∧h0.nx≤p∧h.get p=some (.cells [] (aL.e α) false))∧l=[])∨
 (l≠ []∧∃p op,z= .slice p 0 l.length l.length op∧h0.nx≤p∧h.get p=some (.cells (l.flatMap aL.c) (aL.e α) false))
def aeO (z:AV) (i:Nat):Prop:=∀o n c b,z≠ .slice i o n c b
section
variable {α:Type} [aL α] {h0 h h':au} {z:AV} {l m:List α}
theorem yZ.ahb {s xt:TypeId} {tys:Array TypeId} {bytes N:Nat} {z0 x:AV} (y:Tidy h) (y0:Tidy h0) (a:Has h0 h) (hle:h0.nx≤h.nx) (o:yZ h0 h z l) (hlen:rf x=some m.length) (hf:fA h (aL.n α) m.length x=some (m.flatMap aL.c)) (Fy:(m.flatMap aL.c).all AV.scalar=true) (hl:l.length+m.length≤N)
 (t0:tys[0]? =some s) (t1:tys[1]? =some xt) (hs:env.P.underlying s=some (.slice (aL.e α))) (hx:env.P.underlying xt=some (.slice (aL.e α))) (hb:ke env (aL.e α)=some bytes) (GY:gR env (aL.e α)=some z0) (hz:z0.cells.length=aL.n α) (big:∀k,k≤N→(4*k+4096)*(bytes+1)≤1099511627776):
 ∃z' h',dJ env h tys z x=some (z',h')∧Tidy h'∧h.nx≤h'.nx∧Has h0 h'∧yZ h0 h' z' (l++m)∧∀i w,aeO z i→h.get i=some w→h'.get i=some w:=by
 have K3:=eB aL.len m
 have hi:px (.slice (aL.e α))=false:=rfl
 have Pu:∀{p:Nat} {ob:aM},h.get p=some ob→Tidy (h.put p (some ob))∧Has h0 (h.put p (some ob))∧(∀i w,h.get i=some w→(h.put p (some ob)).get i=some w):=fun {p ob} g=>by
  have hg:∀i,(h.put p (some ob)).get i=h.get i:=fun i=>by
   by_cases e:i=p
   · subst e;rw[au.du,g]
   · rw[au.b5 (Ne.symm e)]
  exact ⟨fun i w q=>y i w (by rw[←hg];exact q),fun i w q=>by rw[hg];exact a i w q,fun i w q=>by rw[hg];exact q⟩
 have aeP:m≠ []→∃h',h.new (.cells (m.flatMap aL.c) (aL.e α) false)=some h'∧Tidy h'∧h.nx≤h'.nx∧Has h0 h'∧yZ h0 h' (.slice h.nx 0 m.length m.length true) m∧∀i w,h.get i=some w→h'.get i=some w:=fun hm=>by
  obtain ⟨h',n⟩:=xp (h:=h) (.cells (m.flatMap aL.c) (aL.e α) false)
  have:=AM n
  exact ⟨h',n,oc y n,by omega,a.trans (yX y n),.inr ⟨hm,h.nx,true,rfl,hle,vJ n⟩,fun i w g=>uK y n g⟩
 rcases o with ⟨rfl | ⟨p,rfl,hp,hg⟩,rfl⟩ | ⟨hn,p,op,rfl,hp,hg⟩
 · rw[List.nil_append]
   by_cases hm:m=[]
   · subst hm
     simp only[List.length_nil,List.flatMap_nil,Nat.zero_mul] at hlen hf Fy K3
     refine ⟨.aH,h,?_,y,Nat.le_refl _,a,.inl ⟨.inl rfl,rfl⟩,fun _ _ _ g=>g⟩
     simp only[dJ,t0,t1,hs,hx,hi,aL.size,hb,hlen,hf,GY,hz,Fy,K3,if_true,if_false,and_self,List.length_nil,Bool.false_eq_true,Nat.zero_mul]
   · obtain ⟨h',n,q1,q2,q3,q4,q5⟩:=aeP hm
     have WJ:¬m.length=0:=fun e=>hm (List.length_eq_zero_iff.1 e)
     refine ⟨_,h',?_,q1,q2,q3,q4,fun i w _ g=>q5 i w g⟩
     simp only[dJ,t0,t1,hs,hx,hi,aL.size,hb,hlen,hf,GY,hz,Fy,K3,WJ,big m.length o!,n,if_true,if_false,and_self,Bool.false_eq_true]
 · rw[List.nil_append]
   by_cases hm:m=[]
   · subst hm
     simp only[List.length_nil,List.flatMap_nil,Nat.zero_mul] at hlen hf Fy K3
     obtain ⟨q1,q2,q3⟩:=Pu hg
     refine ⟨_,_,?_,q1,Nat.le_refl _,q2,.inl ⟨.inr ⟨p,rfl,hp,q3 _ _ hg⟩,rfl⟩,fun i w _ g=>q3 i w g⟩
     simp only[dJ,t0,t1,hs,hx,hi,aL.size,hb,hlen,hf,GY,hz,Fy,K3,hg,if_true,if_false,and_self,List.length_nil,Bool.false_eq_true,Nat.zero_mul,Nat.add_zero,Nat.le_refl,List.flatMap_nil,setFrom]
   · obtain ⟨h',n,q1,q2,q3,q4,q5⟩:=aeP hm
     have WJ:¬m.length≤0:=fun e=>hm (List.length_eq_zero_iff.1 o!)
     refine ⟨_,h',?_,q1,q2,q3,q4,fun i w _ g=>q5 i w g⟩
     simp only[dJ,t0,t1,hs,hx,hi,aL.size,hb,hlen,hf,GY,hz,Fy,K3,hg,WJ,if_true,if_false,and_self,Bool.false_eq_true,Nat.zero_mul,Nat.add_zero,Nat.zero_add,List.length_nil,Nat.le_refl]
     rw[if_pos ⟨big m.length o!,trivial,fun e=>e.elim⟩]
     simp only[List.drop_nil,List.take_nil,List.nil_append,n]
 · have hlp:0<l.length:=List.length_pos_iff.2 hn
   have hpx:=y _ _ hg
   have hcl:=eB aL.len l
   by_cases hm:m=[]
   · subst hm
     simp only[List.length_nil,List.flatMap_nil,Nat.zero_mul] at hlen hf Fy K3
     obtain ⟨q1,q2,q3⟩:=Pu hg
     rw[List.append_nil]
     refine ⟨_,_,?_,q1,Nat.le_refl _,q2,.inr ⟨hn,p,op,rfl,hp,q3 _ _ hg⟩,fun i w _ g=>q3 i w g⟩
     simp only[dJ,t0,t1,hs,hx,hi,aL.size,hb,hlen,hf,GY,hz,Fy,K3,hg,hcl,if_true,if_false,and_self,List.length_nil,Bool.false_eq_true,Nat.zero_mul,Nat.add_zero,Nat.zero_add,Nat.le_refl,List.flatMap_nil,setFrom]
   · have hm0:0<m.length:=List.length_pos_iff.2 hm
     have y2:Tidy (if op then h.put p none else h):=by
      cases op with
      | false=>exact y
      | true=>
        intro i x g
        show i<h.nx
        by_cases hi:i=p
        · subst hi;exact hpx
        · rw[if_pos rfl,au.b5 (Ne.symm hi)] at g;exact y i x g
     have n2:(if op then h.put p none else h).nx=h.nx:=by cases op<;>rfl
     have k2:∀i w,i≠p→h.get i=some w→(if op then h.put p none else h).get i=some w:=fun i w hi g=>by
      cases op with
      | false=>exact g
      | true=>rw[if_pos rfl,au.b5 (Ne.symm hi)];exact g
     obtain ⟨h',n⟩:=xp (h:=if op then h.put p none else h) (.cells (l.flatMap aL.c++m.flatMap aL.c) (aL.e α) false)
     have hk:∀i w,i≠p→h.get i=some w→h'.get i=some w:=fun i w hi g=>uK y2 n (k2 i w hi g)
     have hc:¬l.length+m.length≤l.length:=by omega
     refine ⟨.slice h.nx 0 (l.length+m.length) (l.length+m.length) true,h',?_,oc y2 n,by rw[AM n,n2];omega,fun i w g=>?_,.inr ⟨by simp [hn],h.nx,true,by rw[List.length_append],hle,by rw[List.flatMap_append,←n2];exact vJ n⟩,fun i w q g=>hk i w (fun e=>q 0 l.length l.length op (by subst e;rfl)) g⟩
     · simp only[dJ,t0,t1,hs,hx,hi,aL.size,hb,hlen,hf,GY,hz,Fy,K3,hg,hc,if_true,if_false,and_self,Bool.false_eq_true]
       rw[if_pos ⟨big _ hl,by rw[hcl];omega,fun _=>⟨trivial,by rw[hcl];omega⟩⟩]
       rw[List.drop_zero,List.take_of_length_le (by rw[hcl];exact Nat.le_refl _),n]
     · have:=y0 _ _ g
       exact hk i w o! (a i w g)
class Flat (α:Type) [aL α]:Prop where
 free:∀{h h':au} {x:α},aL.ok h x→aL.ok h' x
theorem aS.rf {v:AV} (x:aS h v l):rf v=some l.length:=by
 have hl:=x.at_.lens
 rcases x.known with rfl | rfl | ⟨p,o,m,c,b,rfl,_⟩
 · rw[yS] at hl
   simp only[Option.some.injEq,AV.int.injEq,true_and] at hl
   rw[show l.length=0 by omega];rfl
 · rw[abB] at hl
   simp only[Option.some.injEq,AV.int.injEq,true_and] at hl
   rw[show l.length=0 by omega];rfl
 · rw[iw] at hl
   simp only[Option.some.injEq,AV.int.injEq,true_and] at hl
   rw[show l.length=m by omega];rfl
theorem aS.first {v:AV} (x:aS h v l):fA h (aL.n α) l.length v=some (l.flatMap aL.c):=by
 by_cases hl:l=[]
 · subst hl
   rcases x.known with rfl | rfl | ⟨p,o,m,c,b,rfl,_⟩<;>simp [fA]
 · have hlp:0<l.length:=List.length_pos_iff.2 hl
   have hcl:=eB aL.len l
   rcases x.at_.block with h0 | ⟨p,o,m,c,b,C,f,ro,h1,_,h2,h3⟩
   · omega
   · subst h1
     have hm:m=l.length:=by
      have:=x.at_.lens
      rw[iw] at this
      simp only[Option.some.injEq,AV.int.injEq,true_and] at this
      omega
     subst hm
     have hC:o+l.length*aL.n α≤C.length:=by
      rcases Nat.eq_zero_or_pos (l.length*aL.n α) with h0 | h0
      · have:=Nat.mul_pos hlp (aL.pos (α:=α));omega
      · have:=h3 (l.length*aL.n α - 1) o!
        rw[List.getElem?_eq_getElem (by omega:l.length*aL.n α - 1<(l.flatMap aL.c).length)] at this
        have:=(List.getElem?_eq_some_iff.1 this).1
        omega
     simp only[fA,Nat.le_refl,if_true,if_false,show ¬l.length=0 by omega,h2,hC]
     congr 1
     apply List.ext_getElem?
     intro j
     by_cases hj:j<l.length*aL.n α
     · rw[List.getElem?_take_of_lt hj,List.getElem?_drop,h3 j o!]
     · rw[List.getElem?_eq_none (by rw[List.length_take];omega),List.getElem?_eq_none o!]
theorem Nb {i:Nat} {b:Bool} {x:α} {e:TypeId} {ro:Bool} (hg:h.get i=some (.cells (aL.c x) e ro)):fA h (aL.n α) [x].length (.slice i 0 1 1 b)=some ([x].flatMap aL.c):=by
 have:=aL.len x
 simp only[fA,List.length_singleton,Nat.le_refl,if_true,hg,Nat.one_ne_zero,if_false,Nat.one_mul,Nat.zero_add,this,List.drop_zero,List.flatMap_cons,List.flatMap_nil,List.append_nil]
 rw[List.take_of_length_le o!]
end
structure Span where
 a_:Int
 aN:Int
@[reducible] def Span.c (x:Span):List AV:=[.int .i64 x.a_,.int .i64 x.aN]
def Span.ok (h:au) (x:Span):Prop:=True
def Span.eq (x y:Span):Bool:=(x.a_==y.a_)&&(x.aN==y.aN)
theorem Span.deep (x y:Span):lX env 16 74 (.agg (Span.c x)) (.agg (Span.c y))=some (Span.eq x y):=by
 have e:lX env 16 74 (.agg (Span.c x)) (.agg (Span.c y))=(match some (x.a_==y.a_) with | some true=>(match some (x.aN==y.aN) with | some true=>some true | some false=>some false | none=>none) | some false=>some false | none=>none):=by kernel_rfl
 rw[e,Span.eq]
 cases (x.a_==y.a_)<;>try rfl
 cases (x.aN==y.aN)<;>try rfl
theorem Span.eql (x y:Span) {a b:Bool}:gE env .eql 74 a b (some (.agg (Span.c x))) (some (.agg (Span.c y)))=some (.bool (Span.eq x y)):=by
 show (if env.P.eqGuardType env.P.depth 74 then none else (match lX env 16 74 (.agg (Span.c x)) (.agg (Span.c y)) with | some r=>some (AV.bool (r)) | none=>none))=_
 rw[show env.P.eqGuardType env.P.depth 74=false by kernel_rfl,Span.deep];rfl
theorem Span.neq (x y:Span) {a b:Bool}:gE env .neq 74 a b (some (.agg (Span.c x))) (some (.agg (Span.c y)))=some (.bool (!Span.eq x y)):=by
 show (if env.P.eqGuardType env.P.depth 74 then none else (match lX env 16 74 (.agg (Span.c x)) (.agg (Span.c y)) with | some r=>some (AV.bool (!r)) | none=>none))=_
 rw[show env.P.eqGuardType env.P.depth 74=false by kernel_rfl,Span.deep];rfl
instance:aL Span where
 default:=⟨0,0⟩
 c:=Span.c
 n:=2
 e:=74
 len _:=rfl
 ok:=Span.ok
 mono a o:=o
 size:=by kernel_rfl
 agg:=by kernel_rfl
 pos:=by decide
instance:Flat Span where
 free o:=o
structure jh where
 ah:Int
 ay:Int
@[reducible] def jh.c (x:jh):List AV:=[.int .i64 x.ah,.int .i64 x.ay]
def jh.ok (h:au) (x:jh):Prop:=True
def jh.eq (x y:jh):Bool:=(x.ah==y.ah)&&(x.ay==y.ay)
theorem jh.deep (x y:jh):lX env 16 88 (.agg (jh.c x)) (.agg (jh.c y))=some (jh.eq x y):=by
 have e:lX env 16 88 (.agg (jh.c x)) (.agg (jh.c y))=(match some (x.ah==y.ah) with | some true=>(match some (x.ay==y.ay) with | some true=>some true | some false=>some false | none=>none) | some false=>some false | none=>none):=by kernel_rfl
 rw[e,jh.eq]
 cases (x.ah==y.ah)<;>try rfl
 cases (x.ay==y.ay)<;>try rfl
theorem jh.eql (x y:jh) {a b:Bool}:gE env .eql 88 a b (some (.agg (jh.c x))) (some (.agg (jh.c y)))=some (.bool (jh.eq x y)):=by
 show (if env.P.eqGuardType env.P.depth 88 then none else (match lX env 16 88 (.agg (jh.c x)) (.agg (jh.c y)) with | some r=>some (AV.bool (r)) | none=>none))=_
 rw[show env.P.eqGuardType env.P.depth 88=false by kernel_rfl,jh.deep];rfl
theorem jh.neq (x y:jh) {a b:Bool}:gE env .neq 88 a b (some (.agg (jh.c x))) (some (.agg (jh.c y)))=some (.bool (!jh.eq x y)):=by
 show (if env.P.eqGuardType env.P.depth 88 then none else (match lX env 16 88 (.agg (jh.c x)) (.agg (jh.c y)) with | some r=>some (AV.bool (!r)) | none=>none))=_
 rw[show env.P.eqGuardType env.P.depth 88=false by kernel_rfl,jh.deep];rfl
instance:aL jh where
 default:=⟨0,0⟩
 c:=jh.c
 n:=2
 e:=88
 len _:=rfl
 ok:=jh.ok
 mono a o:=o
 size:=by kernel_rfl
 agg:=by kernel_rfl
 pos:=by decide
instance:Flat jh where
 free o:=o
structure bJ where
 name:List UInt8
 ay:Int
 cB:AV
 off:List Span
@[reducible] def bJ.c (x:bJ):List AV:=[.str x.name,.int .i64 x.ay,x.cB]
def bJ.ok (h:au) (x:bJ):Prop:=x.name.length<2^60∧aS h x.cB x.off
instance:aL bJ where
 default:=⟨[],0,.aH,[]⟩
 c:=bJ.c
 n:=3
 e:=41
 len _:=rfl
 ok:=bJ.ok
 mono a o:=⟨o.1,(o.2).has a⟩
 size:=by kernel_rfl
 agg:=by kernel_rfl
 pos:=by decide
structure Task where
 name:List UInt8
 aI:Int
 aO:AV
 az:List Int
 aU:AV
 ar:List jh
@[reducible] def Task.c (x:Task):List AV:=[.str x.name,.int .i64 x.aI,x.aO,x.aU]
def Task.ok (h:au) (x:Task):Prop:=x.name.length<2^60∧b_ h .i64 3 x.aO x.az∧aS h x.aU x.ar
instance:aL Task where
 default:=⟨[],0,.aH,[],.aH,[]⟩
 c:=Task.c
 n:=4
 e:=44
 len _:=rfl
 ok:=Task.ok
 mono a o:=⟨o.1,(o.2.1).has a,(o.2.2).has a⟩
 size:=by kernel_rfl
 agg:=by kernel_rfl
 pos:=by decide
structure cz where
 aj:AV
 ab:List Task
 ag:AV
 af:List bJ
@[reducible] def cz.c (x:cz):List AV:=[x.aj,x.ag]
def cz.ok (h:au) (x:cz):Prop:=aS h x.aj x.ab∧aS h x.ag x.af
instance:aL cz where
 default:=⟨.aH,[],.aH,[]⟩
 c:=cz.c
 n:=2
 e:=25
 len _:=rfl
 ok:=cz.ok
 mono a o:=⟨(o.1).has a,(o.2).has a⟩
 size:=by kernel_rfl
 agg:=by kernel_rfl
 pos:=by decide
theorem BI {p:Prop} [Decidable p] (h:(!decide p)=true):¬p:=by intro q;rw[decide_eq_true q] at h;cases h
theorem BJ {p:Prop} [Decidable p] (h:(!decide p)=false):p:=by by_cases q:p;exact q;rw[decide_eq_false q] at h;cases h
def bs (l:List Bool):List AV:=l.map AV.bool
theorem Nc (l:List Bool):(bs l).length=l.length:=by simp [bs]
theorem Uo (l:List Bool) {i:Nat} (hi:i<l.length):(bs l)[i]? =some (.bool (l.g i)):=by
 rw[bs,List.getElem?_map,List.getElem?_eq_getElem hi,List.g,List.getD_eq_getElem?_getD,List.getElem?_eq_getElem hi];rfl
theorem Up (k:IntKind) (l:List Int) (i:Nat) (v:Int):(zs k l).set i (.int k v)=zs k (l.set i v):=by simp [zs,List.map_set]
theorem abH (l:List Bool) (i:Nat) (v:Bool):(bs l).set i (.bool v)=bs (l.set i v):=by simp [bs,List.map_set]
theorem Iz (k:IntKind):∀n,bT [AV.int k 0] n=zs k (List.replicate n 0)
 | 0=>rfl
 | n+1=>by rw[bT,Iz k n];rfl
theorem AN:∀n,bT [AV.bool false] n=bs (List.replicate n false)
 | 0=>rfl
 | n+1=>by rw[bT,AN n];rfl
section
variable {h:au} {t e:TypeId} {p i n:Nat}
theorem Ys {l:List Bool} {ro:Bool} (ht:fw env t=some false) (hg:h.get p=some (.cells (bs l) e ro)) (hi:i<l.length):bh env h t (.ptr p i)=some (.bool (l.g i)):=by
 simp only[bh,hg,iK,ht];exact Uo l hi
theorem G5 {cs:List AV} {v:AV} (hs:bU env t=some 1) (hg:h.get p=some (.cells cs e false)) (hi:i<cs.length) (hv:v.cells=[v]) (hk:AV.scalar v=true):dL env h t (.ptr p i) v=some (h.put p (some (.cells (cs.set i v) e false))):=by
 obtain ⟨h',s⟩:=rE (E:=env) (t:=t) (o:=i) (n:=1) (v:=v) hg hs (by rw[hv];rfl) o! (by rw[hv];simp [hk])
 rw[s,od s hg,hv];rfl
theorem D0 {k:IntKind} {l:List Int} {v:Int} (hs:bU env t=some 1) (hg:h.get p=some (.cells (zs k l) e false)) (hi:i<l.length):dL env h t (.ptr p i) (.int k v)=some (h.put p (some (.cells (zs k (l.set i v)) e false))):=by
 rw[G5 hs hg (by rw[fB];exact hi) rfl rfl,Up]
theorem pT {l:List Bool} {v:Bool} (hs:bU env t=some 1) (hg:h.get p=some (.cells (bs l) e false)) (hi:i<l.length):dL env h t (.ptr p i) (.bool v)=some (h.put p (some (.cells (bs (l.set i v)) e false))):=by
 rw[G5 hs hg (by rw[Nc];exact hi) rfl rfl,abH]
end
structure nv (h:au) (e:TypeId) (v:AV) (l:List Bool):Prop where
 at_:nQ env h e 1 v l.length (bs l)
 agg:fw env e=some false
section
variable {h h':au} {e:TypeId} {v:AV} {l:List Bool}
theorem nv.has (x:nv h e v l) (a:Has h h'):nv h' e v l:=⟨x.at_.has a,x.agg⟩
theorem nv.scalar (x:nv h e v l):AV.scalar v=true:=by
 have q:=x.at_.lens
 cases v<;>first | rfl | (exfalso;revert q;simp [b6])
theorem y7 {v:AV} (x:AV.scalar v=true):AV.cells v=[v]:=by
 cases v<;>first | rfl | cases x
theorem nv.small (x:nv h e v l):l.length<2^60:=x.at_.small
theorem nv.elem (x:nv h e v l) {i:Nat} (hi:i<l.length):∃p q,bS env (some (.slice e)) (some v) (some (.int .i64 ((i:Nat):Int)))=some (.ptr p q)∧bh env h e (.ptr p q)=some (.bool (l.g i)):=x.at_.elem x.agg (Uo l hi)
theorem nv.load (x:nv h e v l) {i p q:Nat} (hi:i<l.length) (hx:bS env (some (.slice e)) (some v) (some (.int .i64 ((i:Nat):Int)))=some (.ptr p q)):bh env h e (.ptr p q)=some (.bool (l.g i)):=by
 obtain ⟨p',q',h1,h2⟩:=x.elem hi
 rw[hx] at h1
 simp only[Option.some.injEq,AV.ptr.injEq] at h1
 obtain ⟨rfl,rfl⟩:=h1
 exact h2
theorem nv.own {p n:Nat} {op ro:Bool} {f:TypeId} (hs:bU env e=some 1) (ha:fw env e=some false) (hg:h.get p=some (.cells (bs l) f ro)) (hn:l.length=n) (h60:n<2^60):nv h e (.slice p 0 n n op) l:=by
 subst hn
 exact ⟨⟨hs,by rw[Nc];omega,h60,rfl,.inr ⟨p,0,_,_,op,_,_,_,rfl,Nat.le_refl _,hg,fun j _=>by rw[Nat.zero_add]⟩⟩,ha⟩
theorem b_.own {k:IntKind} {p n:Nat} {op ro:Bool} {f:TypeId} {l:List Int} (hs:bU env e=some 1) (ha:fw env e=some false) (hg:h.get p=some (.cells (zs k l) f ro)) (hn:l.length=n) (h60:n<2^60):b_ h k e (.slice p 0 n n op) l:=by
 subst hn
 exact ⟨⟨hs,by rw[fB];omega,h60,rfl,.inr ⟨p,0,_,_,op,_,_,_,rfl,Nat.le_refl _,hg,fun j _=>by rw[Nat.zero_add]⟩⟩,ha,.inr (.inr ⟨_,_,_,_,_,rfl⟩)⟩
end
def cg {σ ρ:Type} (call:bq) (b:Code) (s:St) (ex:lY) (hh:au) (tn:σ→AV→(Nat→AV)→List AV) (tr:ρ→AV→(Nat→AV)→List AV) (Qn:σ→AV→au→Prop) (Qr:ρ→AV→au→Prop):σ ⊕ ρ→Prop
 | .inl v=>∃z y hk,Ev env call (.loop b) s ex ⟨tn v z y,hk,[],.no⟩∧Tidy hk∧hh.nx≤hk.nx∧Qn v z hk
 | .inr r=>∃z y hk,Ev env call (.loop b) s .ret ⟨tr r z y,hk,[],.no⟩∧Tidy hk∧hh.nx≤hk.nx∧Qr r z hk
section
variable {σ ρ:Type} {call:bq} {b:Code} {s:St} {ex:lY} {hh hk:au} {tn:σ→AV→(Nat→AV)→List AV} {tr:ρ→AV→(Nat→AV)→List AV} {Qn:σ→AV→au→Prop} {Qr:ρ→AV→au→Prop}
theorem cg.n {o:σ ⊕ ρ} {v:σ} (e:o= .inl v) (x:cg call b s ex hh tn tr Qn Qr o):∃z y hk,Ev env call (.loop b) s ex ⟨tn v z y,hk,[],.no⟩∧Tidy hk∧hh.nx≤hk.nx∧Qn v z hk:=by subst e;exact x
theorem cg.r {o:σ ⊕ ρ} {r:ρ} (e:o= .inr r) (x:cg call b s ex hh tn tr Qn Qr o):∃z y hk,Ev env call (.loop b) s .ret ⟨tr r z y,hk,[],.no⟩∧Tidy hk∧hh.nx≤hk.nx∧Qr r z hk:=by subst e;exact x
theorem cg.out {i:Nat} {L:List AV} {o:σ ⊕ ρ} (v:σ) (z:AV) (e:o= .inl v) (ev:Ev env call b s (.exit i) ⟨L,hk,[],.no⟩) (y1:Tidy hk) (n1:hh.nx≤hk.nx) (q:Qn v z hk) (hl:L=tn v z fun k=>L.getD k AV.undef):cg call b s (.exit i) hh tn tr Qn Qr o:=by
 subst e
 obtain ⟨y,x⟩:=kO (tmpl:=tn v z) (Ev.out ev) hl
 exact ⟨z,y,hk,x,y1,n1,q⟩
theorem cg.ret {L:List AV} {o:σ ⊕ ρ} (r:ρ) (z:AV) (e:o= .inr r) (ev:Ev env call b s .ret ⟨L,hk,[],.no⟩) (y1:Tidy hk) (n1:hh.nx≤hk.nx) (q:Qr r z hk) (hl:L=tr r z fun k=>L.getD k AV.undef):cg call b s ex hh tn tr Qn Qr o:=by
 subst e
 obtain ⟨y,x⟩:=kO (tmpl:=tr r z) (Ev.ret ev) hl
 exact ⟨z,y,hk,x,y1,n1,q⟩
theorem cg.round {L:List AV} {o o':σ ⊕ ρ} (e:o=o') (ev:Ev env call b s .normal ⟨L,hk,[],.no⟩) (n1:hh.nx≤hk.nx) (KZ:(Nat→AV)→List AV) (hl:L=KZ fun k=>L.getD k AV.undef) (ih:∀x,cg call b ⟨KZ x,hk,[],.no⟩ ex hk tn tr Qn Qr o'):cg call b s ex hh tn tr Qn Qr o:=by
 subst e
 have q:=ih fun k=>L.getD k AV.undef
 rw[←hl] at q
 cases o with
 | inl v=>obtain ⟨z,y,h2,x,y1,n2,g⟩:=q;exact ⟨z,y,h2,Ev.loop ev x,y1,Nat.le_trans n1 n2,g⟩
 | inr r=>obtain ⟨z,y,h2,x,y1,n2,g⟩:=q;exact ⟨z,y,h2,Ev.loop ev x,y1,Nat.le_trans n1 n2,g⟩
end
theorem g7.Yt {k:IntKind} {e s xt:TypeId} {g h:au} {tys:Array TypeId} {bytes b:Nat} {z0 z:AV} {L:List Int} {v:Int} {f:TypeId} {ro op:Bool} (y:Tidy h) (hle:g.nx≤h.nx) (o:g7 e g h z (aP.zs k L)) (hg:h.get b=some (.cells [.int k v] f ro)) (hl:L.length≤1000000000) (t0:tys[0]? =some s) (t1:tys[1]? =some xt) (hs:env.P.underlying s=some (.slice e)) (hx:env.P.underlying xt=some (.slice e)) (Uk:bU env e=some 1) (hb:ke env e=some bytes) (GY:gR env e=some z0) (hz:z0.cells.length=1) (h8:bytes≤63):
 ∃z' h',dJ env h tys z (.slice b 0 1 1 op)=some (z',h')∧Tidy h'∧h.nx≤h'.nx∧(∀i w,i<g.nx→h.get i=some w→h'.get i=some w)∧g7 e g h' z' (aP.zs k (L++[v])):=by
 rw[Yr]
 have Sm:(aP.zs k L).length≤1000000000:=by rw[fB];exact hl
 rcases o with ⟨rfl,e0⟩ | ⟨hn,p,op',rfl,hp,hgp⟩
 · rw[e0]
   obtain ⟨h',e1,n⟩:=K0 (h:=h) (M:=[.int k v]) t0 t1 hs hx rfl Uk hb GY hz h8 Pr (G4 hg) rfl (by simp) (by simp)
   have:=AM n
   exact ⟨_,h',e1,oc y n,by omega,fun i w _ q=>uK y n q,.inr ⟨by simp,h.nx,true,by simp,hle,vJ n⟩⟩
 · obtain ⟨h',e1,y1,z1,k1,g1⟩:=K1 (op:=op') (M:=[.int k v]) y t0 t1 hs hx rfl Uk hb GY hz h8 Pr (G4 hg) rfl rfl (by simp) (by simp;omega) hgp
   exact ⟨_,h',e1,y1,by omega,fun i w hi q=>k1 i w o! q,.inr ⟨by simp,h.nx,true,by rw[List.length_append],hle,g1⟩⟩
theorem Has.Nd {h hh h' g:au} (a:Has h hh) (y:Tidy h) (n:h.nx≤g.nx) (A:∀i w,i<g.nx→hh.get i=some w→h'.get i=some w):Has h h':=fun i w q=>A i w (Nat.lt_of_lt_of_le (y i w q) n) (a i w q)
theorem g7.chg {e:TypeId} {g h h':au} {z:AV} {L:List AV} {b:Nat} {C:aM} (o:g7 e g h z L) (c:Iw h h' b C) (hb:b<g.nx):g7 e g h' z L:=o.imp id fun ⟨hn,p,op,e,h1,q⟩=>⟨hn,p,op,e,h1,c.2.2 _ _ o! q⟩
theorem g7.K4 {e:TypeId} {h0 h:au} {z:AV} {L:List AV} {n:Nat} (o:g7 e h0 h z L) (v:AV.within h0.nx (n+1) z=true):g7 e h0 h0 z L:=by
 rcases o with ⟨rfl,e0⟩ | ⟨hn,p,op,rfl,hp,hg⟩
 · exact .inl ⟨rfl,e0⟩
 · have:=of_decide_eq_true (show decide (p<h0.nx)=true from v)
   omega
theorem jQ {hh h':au} {b:Nat} {o x:aM} (a:Has hh h') (g:hh.get b=some o) (g':h'.get b=some x):hh.get b=some x:=by
 have q:=a _ _ g
 rw[g'] at q
 rw[g,←q]
theorem kP {d:Nat} {f:FuncId} {args:List AV} {hh h':au} {v:AV} {P:au→Prop} (hm:M0 f args hh=none) (hd:xn env (cR d) f args hh v h') (y:Tidy hh) (y':Tidy h') (n:hh.nx≤h'.nx) (p':P h') (p:Has hh h'→P hh):∃hk,cR (d+1) (.fn f) args hh= .ret v hk∧Tidy hk∧hh.nx≤hk.nx∧P hk:=by
 obtain ⟨hk,e,rfl | ⟨rfl,a⟩⟩:=Na hm hd
 · exact ⟨_,e,y',n,p'⟩
 · exact ⟨_,e,y,Nat.le_refl _,p a⟩
theorem G6 {nx k b n m c:Nat} {op:Bool} (v:AV.within nx (k+1) (.slice b n m c op)=true) (hb:nx≤b):False:=by
 have:=of_decide_eq_true (show decide (b<nx)=true from v)
 omega
theorem G7 (v:AV) (hv:AV.same 20 v v=true) (n:Nat) (e:TypeId) (ro:Bool):aM.same (.cells (bT [v] n) e ro) (.cells (bT [v] n) e ro)=true:=by
 have:∀n,ep (AV.same 20) (bT [v] n) (bT [v] n)=true:=fun n=>by
  induction n with
  | zero=>rfl
  | succ n ih=>
    show ep (AV.same 20) (v::bT [v] n) (v::bT [v] n)=true
    rw[ep,ih,hv];rfl
 simp [aM.same,this]
theorem Ev.to {call:bq} {b:Code} {s:St} {e:lY} {L L':List AV} {hk:au} (ev:Ev env call b s e ⟨L,hk,[],.no⟩) (hl:L=L'):Ev env call b s e ⟨L',hk,[],.no⟩:=hl▸ev
theorem Uq {v:AV} (h:AV.scalar v=true):v.cells=[v]:=by cases v<;>first | rfl | cases h
theorem ahd {h:au} {t e:TypeId} {i o:Nat} {cs N:List AV} {v:AV} (y:Tidy h) (gg:h.get i=some (.cells cs e false)) (hs:bU env t=some 1) (hk:AV.scalar v=true) (hl:Nat.ble (o+1) cs.length=true) (hN:setFrom cs o [v]=N):∃h',dL env h t (.ptr i o) v=some h'∧Tidy h'∧h'.nx=h.nx∧h'.get i=some (.cells N e false)∧Kept i h h':=by
 have c:=Uq hk
 exact aeM y gg hs (by rw[c];rfl) hl (by rw[c];exact hN) (by rw[c];simp [hk])
theorem BK {f:FuncId} {fn:Func} {c:Code} {args ts0 ts:List AV} {h h':au} {call:bq} {x:lY} {v:AV} {a:Tmp} {t:TypeId} {i:Nat} (hf:env.P.funcs[f]? =some fn) (hb:fn.body=some c) (ht:args++List.replicate (fn.ntmps - args.length) AV.undef=ts0) (hx:x= .normal∨x= .ret)
 (e:Ev env call c ⟨ts0,h,[],.no⟩ x ⟨ts,h',[],.no⟩) (hrs:(fn.results.toList,ts.getD a AV.undef)=([.cell a t],AV.ptr i 0)) (hl:bh env h' t (.ptr i 0)=some v):xn env call f args h v h':=by
 refine bb hf hb ht hx e ?_
 rw[show fn.results.toList=[.cell a t] from congrArg Prod.fst hrs]
 simp only[lD,show ts.getD a AV.undef= .ptr i 0 from congrArg (fun q=>q.2) hrs,hl,Option.map_some]
 rfl
section
variable {α:Type} [aL α]
theorem yZ.le {h0 h1 h:au} {z:AV} {l:List α} (o:yZ h1 h z l) (hn:h0.nx≤h1.nx):yZ h0 h z l:=by
 rcases o with ⟨rfl | ⟨p,rfl,h1,h2⟩,rfl⟩ | ⟨eY,p,op,e,h1,g⟩
 · exact .inl ⟨.inl rfl,rfl⟩
 · exact .inl ⟨.inr ⟨p,rfl,by omega,h2⟩,rfl⟩
 · exact .inr ⟨eY,p,op,e,by omega,g⟩
def uO {σ:Type} (call:bq) (b:Code) (s:St) (ex:lY) (h:au) (tn:σ→AV→(Nat→AV)→List AV) (own:σ→List α) (N:Nat) (r:σ):Prop:=∃z y hk,Ev env call (.loop b) s ex ⟨tn r z y,hk,[],.no⟩∧bF h hk∧yZ h hk z (own r)∧(∀y∈own r,aL.ok hk y)∧(own r).length≤N
variable {σ:Type} {call:bq} {b:Code} {s:St} {ex:lY} {h hk:au} {tn:σ→AV→(Nat→AV)→List AV} {own:σ→List α} {N:Nat}
theorem uO.out {i:Nat} {L:List AV} {o:σ} (r:σ) (z:AV) (e1:o=r) (ev:Ev env call b s (.exit i) ⟨L,hk,[],.no⟩) (G:bF h hk) (oz:yZ h hk z (own r)) (ok:∀y∈own r,aL.ok hk y) (ln:(own r).length≤N) (hl:L=tn r z fun k=>L.getD k AV.undef):uO call b s (.exit i) h tn own N o:=by
 subst e1
 obtain ⟨y,q⟩:=kO (tmpl:=tn o z) (Ev.out ev) hl
 exact ⟨z,y,hk,q,G,oz,ok,ln⟩
theorem uO.round {L:List AV} {o o':σ} (e1:o=o') (ev:Ev env call b s .normal ⟨L,hk,[],.no⟩) (KZ:(Nat→AV)→List AV) (hl:L=KZ fun k=>L.getD k AV.undef) (ih:∀x,uO call b ⟨KZ x,hk,[],.no⟩ ex h tn own N o'):uO call b s ex h tn own N o:=by
 subst e1
 have q:=ih fun k=>L.getD k AV.undef
 rw[←hl] at q
 obtain ⟨z,y,h2,x,g,oz,ok,ln⟩:=q;exact ⟨z,y,h2,Ev.loop ev x,g,oz,ok,ln⟩
end
section
variable {α:Type} [aL α]
theorem Ur {l:List α} {i:Nat} (h:i<l.length) (x:α):(l.set i x).g i=x:=by
 rw[List.g,List.getD_eq_getElem?_getD,List.getElem?_set_self h];rfl
theorem Us {l:List α} {i j:Nat} (h:i≠j) (x:α):(l.set i x).g j=l.g j:=by
 rw[List.g,List.g,List.getD_eq_getElem?_getD,List.getD_eq_getElem?_getD,List.getElem?_set_ne h]
theorem IA {l:List α} {i:Nat} (h:i<l.length) (x:α):setFrom (l.flatMap aL.c) (i*aL.n α) (aL.c x)=(l.set i x).flatMap aL.c:=by
 have hn:0<aL.n α:=aL.pos
 have hl:=eB aL.len l
 have Sm:=eB aL.len (l.set i x)
 rw[List.length_set] at Sm
 have hx:=aL.len x
 apply List.ext_getElem?
 intro k
 rw[jg,hx,hl]
 have hk:k=k/aL.n α*aL.n α+k%aL.n α:=by rw[Nat.mul_comm];exact (Nat.div_add_mod k _).symm
 have hr:=Nat.mod_lt k hn
 generalize k/aL.n α=q at hk
 generalize k%aL.n α=r at hk hr
 by_cases hq:q<l.length
 · have h1:=oh aL.len l q r hq hr
   have h2:=oh aL.len (l.set i x) q r (by rw[List.length_set];exact hq) hr
   subst hk
   by_cases e:q=i
   · subst e
     have:q*aL.n α+aL.n α≤l.length*aL.n α:=by rw[←Nat.succ_mul];exact Nat.mul_le_mul_right _ hq
     rw[if_pos ⟨by omega,by omega,by omega⟩,h2,Ur hq,Nat.add_sub_cancel_left]
   · rw[if_neg,h1,h2,Us (Ne.symm e)]
     intro ⟨a,b,c⟩
     rcases Nat.lt_or_gt_of_ne e with e | e
     · have:q*aL.n α+aL.n α≤i*aL.n α:=by rw[←Nat.succ_mul];exact Nat.mul_le_mul_right _ e
       omega
     · have:i*aL.n α+aL.n α≤q*aL.n α:=by rw[←Nat.succ_mul];exact Nat.mul_le_mul_right _ e
       omega
 · have:l.length*aL.n α≤q*aL.n α:=Nat.mul_le_mul_right _ o!
   rw[if_neg o!,List.getElem?_eq_none o!,List.getElem?_eq_none o!]
theorem yZ.at {h0 h:au} {z:AV} {l:List α} (y:Tidy h) (y0:Tidy h0) (a:Has h0 h) (o:yZ h0 h z l) {i:Nat} (hi:i<l.length):
 ∃p,bS env (some (.slice (aL.e α))) (some z) (some (.int .i64 ((i:Nat):Int)))=some (.ptr p (i*aL.n α))∧
  ∀x:α,(aL.c x).all AV.scalar=true→∃h',dL env h (aL.e α) (.ptr p (i*aL.n α)) (.agg (aL.c x))=some h'∧Tidy h'∧h'.nx=h.nx∧yZ h0 h' z (l.set i x)∧Has h0 h':=by
 rcases o with ⟨_,rfl⟩ | ⟨hn,p,op,rfl,hp,hg⟩
 · simp at hi
 · have ix:=nu (E:=env) (i:=p) (o:=0) (c:=l.length) (b:=op) (aL.size (α:=α)) hi
   rw[Nat.zero_add] at ix
   refine ⟨p,ix,fun x hx=>?_⟩
   have hl:=eB aL.len l
   have hb:i*aL.n α+aL.n α≤l.length*aL.n α:=by rw[←Nat.succ_mul];exact Nat.mul_le_mul_right _ hi
   obtain ⟨h',s⟩:=rE (E:=env) (t:=aL.e α) (o:=i*aL.n α) (n:=aL.n α) (v:= .agg (aL.c x)) hg aL.size (aL.len x) o! hx
   have g':=GW y s hg
   refine ⟨h',s,DY y s hg,DX s hg,.inr ⟨by intro e;rw[←List.length_eq_zero_iff,List.length_set] at e;omega,p,op,by rw[List.length_set],hp,?_⟩,fun j w gw=>?_⟩
   · rw[g']
     show some (aM.cells (setFrom (l.flatMap aL.c) (i*aL.n α) (aL.c x)) _ _)=_
     rw[IA hi]
   · have:=y0 _ _ gw
     exact DW y s hg o! (a _ _ gw)
end
def ko:Code→List Code
 | .seq a b=>ko a++ko b
 | .cond _ a b=>ko a++ko b
 | .block _ b=>ko b
 | .loop b=>ko b
 | .scope b=>ko b
 | .rangeFunc _ _ a b=>ko a++ko b
 | .region i o d=> [.region i o d]
 | _=> []
end Go.Proofs.aP
