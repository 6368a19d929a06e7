import Derived.Test.YthapgpflpcffnaaGreatDoorA8
import Derived.Test.YthapgpflpcffnaaGreatDoorEnv
namespace Go.Proofs.aP
open Go.Proofs Ab
noncomputable section
set_option maxRecDepth 100000
set_option maxHeartbeats 4000000
set_option linter.unusedVariables false
set_option linter.unusedSimpArgs false
def _root_.List.g {α:Type} [Inhabited α] (l:List α) (i:Nat):α:=l.getD i default
theorem Ux {b:Bool} (h:b=true):(!b)=false:=by rw[h];rfl
theorem Uy {b:Bool} (h:b=false):(!b)=true:=by rw[h];rfl
theorem et (t:TypeId) (c d:Bool) (k:IntKind) (a b:Int):aJ env .eql t c d (some (.int k a)) (some (.int k b))=some (.bool (decide (a=b))):=Lk t c d k a b
theorem bI (t:TypeId) (c d:Bool) (k:IntKind) (a b:Int):aJ env .neq t c d (some (.int k a)) (some (.int k b))=some (.bool (!decide (a=b))):=Ll t c d k a b
theorem jt (t:TypeId) (c d:Bool) (k:IntKind) (a b:Int):aJ env .lss t c d (some (.int k a)) (some (.int k b))=some (.bool (decide (a<b))):=Lm t c d k a b
theorem yq (t:TypeId) (c d:Bool) (k:IntKind) (a b:Int):aJ env .leq t c d (some (.int k a)) (some (.int k b))=some (.bool (decide (a≤b))):=Ln t c d k a b
theorem fK (t:TypeId) (c d:Bool) (k:IntKind) (a b:Int):aJ env .gtr t c d (some (.int k a)) (some (.int k b))=some (.bool (decide (b<a))):=Lp t c d k a b
theorem cq (t:TypeId) (c d:Bool) (k:IntKind) (a b:Int):aJ env .geq t c d (some (.int k a)) (some (.int k b))=some (.bool (decide (b≤a))):=Lq t c d k a b
theorem Q0 (t:TypeId) (c d:Bool) (a b:List UInt8):aJ env .eql t c d (some (.str a)) (some (.str b))=some (.bool (decide (a=b))):=HO t c d a b
theorem kA (t:TypeId) (c d:Bool) {k:IntKind} {a b z:Int} (h:k.wrap (a+b)=z):aJ env .add t c d (some (.int k a)) (some (.int k b))=some (.int k z):=nU h
theorem cY (t:TypeId) (c d:Bool) {k:IntKind} {a b z:Int} (h:k.wrap (a - b)=z):aJ env .sub t c d (some (.int k a)) (some (.int k b))=some (.int k z):=tw h
theorem zM (t:TypeId) (c d:Bool) {k:IntKind} {a b z:Int} (h:k.wrap (a*b)=z):aJ env .mul t c d (some (.int k a)) (some (.int k b))=some (.int k z):=tx h
theorem fL (t:TypeId) (o:Nat) (v:AV) {h:ah} {i:Nat} {cs:List AV} {e:TypeId} {ro:Bool} (hg:h.get i=some (.cells cs e ro)) (hv:dG env t cs o=some v):aM env h t (.ptr i o)=some v:=HU hg hv
theorem wk {a:Nat} (h:a<9223372036854775808):IntKind.i64.wrap (a:Int)=(a:Int):=wrap_i64 (by omega) (by omega)
theorem Ch (t:TypeId) (c d:Bool) (a b:Nat) (h:a+b<9223372036854775808):aJ env .add t c d (some (.int .i64 (a:Int))) (some (.int .i64 (b:Int)))=some (.int .i64 ((a+b:Nat):Int)):=nU (by rw[show (a:Int)+b=((a+b:Nat):Int) by omega];exact wk h)
theorem Uz (t:TypeId) (c d:Bool) (a b:Nat) (h:b≤a) (ha:a<9223372036854775808):aJ env .sub t c d (some (.int .i64 (a:Int))) (some (.int .i64 (b:Int)))=some (.int .i64 ((a - b:Nat):Int)):=tw (by rw[show (a:Int) - b=((a - b:Nat):Int) by omega];exact wk (by omega))
theorem UA (d:Nat) (c:Code) (ts:List AV) (h:ah) (ds:List iI) (rc:RC) (e:fi) (h':ah) {al:List ik} {ps:List Prop} (k:Pk al [] ps) (hr:run env (dJ d) 300 c ⟨ts,h,ds,rc⟩ al []= .at e ⟨wj (run env (dJ d) 300 c ⟨ts,h,ds,rc⟩ al []),h',ds,rc⟩ [] ps):Ev env (dJ d) c ⟨ts,h,ds,rc⟩ e ⟨wj (run env (dJ d) 300 c ⟨ts,h,ds,rc⟩ al []),h',ds,rc⟩:=MS k hr
theorem pk (d:Nat) (c:Code) (ts:List AV) (h:ah) (e:fi) (h':ah) {al:List ik} {ps:List Prop} (k:Pk al [] ps) (hr:run env (dJ d) 300 c ⟨ts,h,[],.no⟩ al []= .at e ⟨wj (run env (dJ d) 300 c ⟨ts,h,[],.no⟩ al []),h',[],.no⟩ [] ps):Ev env (dJ d) c ⟨ts,h,[],.no⟩ e ⟨wj (run env (dJ d) 300 c ⟨ts,h,[],.no⟩ al []),h',[],.no⟩:=MS k hr
theorem DP {h:ah} (y:Tidy h) (o:aF):∃h',h.new o=some h'∧Tidy h'∧h'.nx=h.nx+1∧h'.get h.nx=some o∧Has h h':=by
 obtain ⟨h',n⟩:=nV (h:=h) o
 exact ⟨h',n,j3 y n,tA n,o5 n,r7 y n⟩
theorem UB {h:ah} {t e:TypeId} {i o n:Nat} {cs N:List AV} {v:AV} (y:Tidy h) (gg:h.get i=some (.cells cs e false)) (hs:bb env t=some n) (hv:v.cells.length=n) (hl:Nat.ble (o+n) cs.length=true) (hN:setFrom cs o v.cells=N) (hk:v.cells.all AV.scalar=true):∃h',aQ env h t (.ptr i o) v=some h'∧Tidy h'∧h'.nx=h.nx∧h'.get i=some (.cells N e false)∧Kept i h h':=by
 obtain ⟨h',s⟩:=o6 (E:=env) gg hs hv (Nat.le_of_ble_eq_true hl) hk
 exact ⟨h',s,nW y s gg,o7 s gg,by rw[←hN];exact qm y s gg,Kept.store y s gg⟩
theorem LB {h:ah} {t e:TypeId} {i n:Nat} {cs L:List AV} (y:Tidy h) (gg:h.get i=some (.cells cs e false)) (hs:bb env t=some n) (hv:L.length=n) (hc:cs.length=n) (hk:L.all AV.scalar=true):∃h',aQ env h t (.ptr i 0) (.agg L)=some h'∧Tidy h'∧h'.nx=h.nx∧h'.get i=some (.cells L e false)∧Kept i h h':=
 UB y gg hs hv (by rw[hc,Nat.zero_add,Nat.ble_eq];exact Nat.le_refl n) (by
  show setFrom cs 0 L=L
  apply List.ext_getElem?
  intro k
  rw[b4]
  split
  · rfl
  · rw[List.getElem?_eq_none (by omega),List.getElem?_eq_none (by omega)]) hk
structure Rk (f:List ik→List ik) (ps:List Prop):Prop where
 ok:gr ps
section
variable {f:List ik→List ik} {ps:List Prop}
end
section
variable {f:List ik→List ik} {ps:List Prop}
theorem Rh {P:Prop} (h:P) (k:Rk f ps):Rk f (P::ps):=⟨⟨h,k.ok⟩⟩
end
theorem k! {p:Prop} (h:p:=by kernel_rfl):p:=h
theorem o! {p:Prop} (h:p:=by omega):p:=h
theorem YM {b:Bool} (h:(!b)=false):b=true:=by cases b;cases h;rfl
theorem YN {b:Bool} (h:(!b)=true):b=false:=by cases b;rfl;cases h
theorem d! {p:Prop} (h:p:=by first | assumption | exact Ux (by assumption) | exact Uy (by assumption) | exact YM (by assumption) | exact YN (by assumption) | exact dT (by omega) | exact dF (by omega) | exact nT (by omega) | exact nF (by omega)):p:=h
@[reducible] def _root_.Zi (x:Int):AV:= .int .i64 x
@[reducible] def _root_.Zn (n:Nat):AV:= .int .i64 (n:Int)
@[reducible] def _root_.Pt (b:Nat):AV:= .ptr b 0
theorem _root_.Bu {c:Bool} (x y:Bool) (h:c=true):tp (some (.bool c)) (some (.bool x)) (some (.bool y))=some (.bool x):=yf h
theorem _root_.LC {c:Bool} (x:Bool) (h:c=true):tp (some (.bool c)) (some (.bool x)) (some AV.undef)=some (.bool x):=yf h
theorem _root_.FT {c:Bool} (x:Bool) (h:c=false):tp (some (.bool c)) (some AV.undef) (some (.bool x))=some (.bool x):=aW h
section
variable {al:List ik} {p0 ps:List Prop}
theorem BC {u v:Bool} (h:u=v) (k:Pk al ((u=v)::p0) ps):Pk (.b v:: .c::al) p0 ps:=BB h (CC k)
theorem BV {u v:Bool} {l:Option AV} {x:AV} (h:u=v) (e:l=some x) (k:Pk al ((l=some x)::(u=v)::p0) ps):Pk (.b v:: .v x::al) p0 ps:=BB h (VV e k)
theorem BM {u v:Bool} {l:Option AV} {x:AV} (h:u=v) (e:l=some x) (k:Pk al ((l=some x)::(u=v)::p0) ps):Pk (.b v:: .m x::al) p0 ps:=BB h (MM e k)
end
theorem _root_.Go.Ab.Has.jC {h0 h h':ah} {b:Nat} (a:Has h0 h) (k:Kept b h h') (y:Tidy h0) (hb:h0.nx≤b):Has h0 h':=fun i x g=>by
 have:=y i x g
 exact k i x o! (a i x g)
class aw (α:Type) extends Inhabited α where
 c:α→List AV
 n:Nat
 e:TypeId
 len:∀x,(c x).length=n
 ok:ah→α→Prop
 mono:∀{h h':ah} {x:α},Has h h'→ok h x→ok h' x
 size:bb env e=some n
 agg:cm env e=some true
 pos:0<n
structure bh {α:Type} [aw α] (h:ah) (v:AV) (l:List α):Prop where
 at_:iy env h (aw.e α) (aw.n α) v l.length (l.flatMap aw.c)
 known:v= .aK∨v= .cb∨∃p o m c b,v= .slice p o m c b∧(b=true→0<c)
 Q1:∀x∈l,aw.ok h x
theorem bH {α β:Type} {size:Nat} {f:α→List β} (hf:∀x,(f x).length=size) (l:List α):(l.flatMap f).length=l.length*size:=by
 induction l with
 | nil=>simp
 | cons x l ih=>rw[List.flatMap_cons,List.length_append,ih,hf,List.length_cons,Nat.succ_mul];omega
section
variable {α:Type} [aw α] {h:ah} {v:AV} {l:List α}
theorem bh.has {h':ah} (x:bh h v l) (a:Has h h'):bh h' v l:=⟨x.at_.has a,x.known,fun y hy=>aw.mono a (x.Q1 y hy)⟩
theorem tE {i:Nat} (hi:i<l.length):l.g i∈l:=by
 rw[List.g,List.getD_eq_getElem?_getD,List.getElem?_eq_getElem hi];exact List.getElem_mem hi
theorem bh.ok (x:bh h v l) {i:Nat} (hi:i<l.length):aw.ok h (l.g i):=x.Q1 _ (tE hi)
theorem bh.small (x:bh h v l):l.length<2^60:=x.at_.small
theorem bh.len (x:bh h v l):dS (some (.slice (aw.e α))) (some v)=some (.int .i64 (l.length:Nat)):=x.at_.lens
theorem bh.scalar (x:bh h v l):AV.scalar v=true:=by
 rcases x.known with rfl | rfl | ⟨p,o,m,c,b,rfl,_⟩<;>rfl
theorem fI {β:Type} {size:Nat} {f:α→List β} (hf:∀x,(f x).length=size):∀(l:List α) (i j:Nat) (_:i<l.length),j<size→(l.flatMap f)[i*size+j]? =(f (l.g i))[j]?
 | [],i,j,hi,_=>by cases hi
 | x::l,0,j,_,hj=>by
   rw[List.flatMap_cons,Nat.zero_mul,Nat.zero_add,List.getElem?_append_left (by rw[hf];exact hj)];rfl
 | x::l,i+1,j,hi,hj=>by
   have e:(i+1)*size+j -(f x).length=i*size+j:=by rw[hf,Nat.succ_mul];omega
   rw[List.flatMap_cons,List.getElem?_append_right (by rw[hf,Nat.succ_mul];omega),e,fI hf l i j (by simpa using hi) hj];rfl
theorem bh.elem (x:bh h v l) {i:Nat} (hi:i<l.length):∃p q,bD env (some (.slice (aw.e α))) (some v) (some (.int .i64 ((i:Nat):Int)))=some (.ptr p q):=by
 rcases x.at_.block with h0 | ⟨p,o,m,c,b,C,f,ro,h1,_,h2,h3⟩
 · omega
 · subst h1
   have hm:m=l.length:=by
    have:=x.at_.lens
    rw[dr] at this
    simp only[Option.some.injEq,AV.int.injEq,true_and] at this
    omega
   exact ⟨p,o+i*aw.n α,eE x.at_.size o!⟩
theorem bh.block (x:bh h v l) {i p q:Nat} (hi:i<l.length) (hx:bD env (some (.slice (aw.e α))) (some v) (some (.int .i64 ((i:Nat):Int)))=some (.ptr p q)):
 ∃C f ro,h.get p=some (.cells C f ro)∧∀j,j<aw.n α→C[q+j]? =(aw.c (l.g i))[j]? :=by
 rcases x.at_.block with h0 | ⟨p',o,m,c,b,C,f,ro,h1,_,h2,h3⟩
 · omega
 · subst h1
   have hm:m=l.length:=by
    have:=x.at_.lens
    rw[dr] at this
    simp only[Option.some.injEq,AV.int.injEq,true_and] at this
    omega
   rw[eE x.at_.size o!] at hx
   simp only[Option.some.injEq,AV.ptr.injEq] at hx
   obtain ⟨rfl,rfl⟩:=hx
   refine ⟨C,f,ro,h2,fun j hj=>?_⟩
   have e:=fI aw.len l i j hi hj
   have gC:i*aw.n α+j<(l.flatMap aw.c).length:=by
    rw[bH aw.len]
    calc i*aw.n α+j<i*aw.n α+aw.n α:=by omega
     _=(i+1)*aw.n α:=by rw[Nat.succ_mul]
     _≤l.length*aw.n α:=Nat.mul_le_mul_right _ hi
   rw[←e,Nat.add_assoc,h3 _ gC]
theorem bh.load (x:bh h v l) {i p q:Nat} (hi:i<l.length) (hx:bD env (some (.slice (aw.e α))) (some v) (some (.int .i64 ((i:Nat):Int)))=some (.ptr p q)):aM env h (aw.e α) (.ptr p q)=some (.agg (aw.c (l.g i))):=by
 obtain ⟨C,f,ro,h1,h2⟩:=x.block hi hx
 have hl:=aw.len (l.g i)
 have hn:q+aw.n α≤C.length:=by
  have h0:=aw.pos (α:=α)
  have:=h2 (aw.n α - 1) o!
  rw[List.getElem?_eq_getElem (by omega:aw.n α - 1<(aw.c (l.g i)).length)] at this
  have:=(List.getElem?_eq_some_iff.1 this).1
  omega
 simp only[aM,h1,dG,aw.agg,aw.size,hn,if_true]
 congr 2
 apply List.ext_getElem?
 intro j
 by_cases hj:j<aw.n α
 · rw[List.getElem?_take_of_lt hj,List.getElem?_drop,h2 j hj]
 · rw[List.getElem?_eq_none (by rw[List.length_take];omega),List.getElem?_eq_none o!]
theorem bh.part (x:bh h v l) {i p q j:Nat} {t:TypeId} {w:AV} (hi:i<l.length) (hx:bD env (some (.slice (aw.e α))) (some v) (some (.int .i64 ((i:Nat):Int)))=some (.ptr p q)) (ht:cm env t=some false) (hw:(aw.c (l.g i))[j]? =some w):aM env h t (.ptr p (q+j))=some w:=by
 obtain ⟨C,f,ro,h1,h2⟩:=x.block hi hx
 have hj:=(List.getElem?_eq_some_iff.1 hw).1
 rw[aw.len] at hj
 simp only[aM,h1,dG,ht]
 rw[h2 j hj,hw]
theorem bh.pre (x:bh h v l) {t:TypeId} (ht:env.P.underlying t=some (.slice (aw.e α))) {i:Nat} (hi:i<l.length):∃r,bP env t v none (some (.int .i64 ((i:Nat):Int))) none=some r∧bh h r (l.take i):=by
 rcases x.at_.block with h0 | ⟨p,o,m,c,b,C,f,ro,h1,hc,h2,h3⟩
 · omega
 · subst h1
   have hm:m=l.length:=by
    have:=x.at_.lens
    rw[dr] at this
    simp only[Option.some.injEq,AV.int.injEq,true_and] at this
    omega
   subst hm
   have hb:b=true→0<c:=fun e=>by omega
   refine ⟨.slice p o i c b,?_,⟨⟨x.at_.size,bH aw.len _,by have:=x.small;simp;omega,?_,.inr ⟨p,o,i,c,b,C,f,ro,rfl,by omega,h2,fun j hj=>?_⟩⟩,.inr (.inr ⟨_,_,_,_,_,rfl,hb⟩),fun y hy=>x.Q1 y (List.mem_of_mem_take hy)⟩⟩
   · simp only[bP,ht,x.at_.size,hc,if_true,gE (len:=l.length) (cap:=c) none (some (.int .i64 ((i:Nat):Int))) (.inr ⟨rfl,rfl⟩) (.inl rfl) (Nat.zero_le i) o!]
     rw[if_neg o!]
     simp
   · rw[List.length_take,Nat.min_eq_left o!];exact dr _ _ _ _ _ _
   · rw[bH aw.len,List.length_take,Nat.min_eq_left o!] at hj
     have gC:j<(l.flatMap aw.c).length:=by
      rw[bH aw.len];exact Nat.lt_of_lt_of_le hj (Nat.mul_le_mul_right _ o!)
     rw[h3 j gC]
     have e:l=l.take i++l.drop i:=(List.take_append_drop i l).symm
     conv=>lhs;rw[e,List.flatMap_append]
     rw[List.getElem?_append_left]
     rw[bH aw.len,List.length_take,Nat.min_eq_left o!];exact hj
def bu {ρ:Type} (call:aI) (b:Code) (s:St) (ex:fi) (hh:ah) (tn:(Nat→AV)→List AV) (tr:ρ→(Nat→AV)→List AV):Option ρ→Prop
 | none=>∃y hk,Ev env call (.loop b) s ex ⟨tn y,hk,[],.no⟩∧dB hh hk
 | some r=>∃y hk,Ev env call (.loop b) s .ret ⟨tr r y,hk,[],.no⟩∧dB hh hk
section
variable {ρ:Type} {call:aI} {b:Code} {s:St} {ex:fi} {hh hk:ah} {tn:(Nat→AV)→List AV} {tr:ρ→(Nat→AV)→List AV}
theorem bu.n {o:Option ρ} (e:o=none) (x:bu call b s ex hh tn tr o):∃y hk,Ev env call (.loop b) s ex ⟨tn y,hk,[],.no⟩∧dB hh hk:=by subst e;exact x
theorem bu.r {o:Option ρ} {r:ρ} (e:o=some r) (x:bu call b s ex hh tn tr o):∃y hk,Ev env call (.loop b) s .ret ⟨tr r y,hk,[],.no⟩∧dB hh hk:=by subst e;exact x
theorem bu.out {i:Nat} {L:List AV} {o:Option ρ} (e:o=none) (ev:Ev env call b s (.exit i) ⟨L,hk,[],.no⟩) (G:dB hh hk) (hl:L=tn fun k=>L.getD k AV.undef):bu call b s (.exit i) hh tn tr o:=by
 subst e
 obtain ⟨y,q⟩:=kI (Ev.out ev) hl
 exact ⟨y,hk,q,G⟩
theorem bu.ret {L:List AV} {o:Option ρ} (r:ρ) (e:o=some r) (ev:Ev env call b s .ret ⟨L,hk,[],.no⟩) (G:dB hh hk) (hl:L=tr r fun k=>L.getD k AV.undef):bu call b s ex hh tn tr o:=by
 subst e
 obtain ⟨y,q⟩:=kI (tmpl:=tr r) (Ev.ret ev) hl
 exact ⟨y,hk,q,G⟩
theorem bu.round {L:List AV} {o o':Option ρ} (e:o=o') (ev:Ev env call b s .normal ⟨L,hk,[],.no⟩) (G:dB hh hk) (tin:(Nat→AV)→List AV) (hl:L=tin fun k=>L.getD k AV.undef) (ih:∀x,bu call b ⟨tin x,hk,[],.no⟩ ex hk tn tr o'):bu call b s ex hh tn tr o:=by
 subst e
 have q:=ih fun k=>L.getD k AV.undef
 rw[←hl] at q
 cases o with
 | none=>obtain ⟨y,h2,x,g⟩:=q;exact ⟨y,h2,Ev.loop ev x,G.trans g⟩
 | some r=>obtain ⟨y,h2,x,g⟩:=q;exact ⟨y,h2,Ev.loop ev x,G.trans g⟩
end
def fW {ρ:Type} (call:aI) (b:Code) (s:St) (ex:fi) (h hh:ah) (tn:(Nat→AV)→List AV) (tr:ρ→(Nat→AV)→List AV) (pb:Nat) (cl:ρ→aF):Option ρ→Prop
 | none=>∃y hk,Ev env call (.loop b) s ex ⟨tn y,hk,[],.no⟩∧dB hh hk
 | some r=>∃y hk,Ev env call (.loop b) s .ret ⟨tr r y,hk,[],.no⟩∧Tidy hk∧Has h hk∧hh.nx≤hk.nx∧hk.get pb=some (cl r)
section
variable {ρ:Type} {call:aI} {b:Code} {s:St} {ex:fi} {h hh hk:ah} {tn:(Nat→AV)→List AV} {tr:ρ→(Nat→AV)→List AV} {pb:Nat} {cl:ρ→aF}
theorem fW.n {o:Option ρ} (e:o=none) (x:fW call b s ex h hh tn tr pb cl o):∃y hk,Ev env call (.loop b) s ex ⟨tn y,hk,[],.no⟩∧dB hh hk:=by subst e;exact x
theorem fW.r {o:Option ρ} {r:ρ} (e:o=some r) (x:fW call b s ex h hh tn tr pb cl o):∃y hk,Ev env call (.loop b) s .ret ⟨tr r y,hk,[],.no⟩∧Tidy hk∧Has h hk∧hh.nx≤hk.nx∧hk.get pb=some (cl r):=by subst e;exact x
theorem fW.out {i:Nat} {L:List AV} {o:Option ρ} (e:o=none) (ev:Ev env call b s (.exit i) ⟨L,hk,[],.no⟩) (G:dB hh hk) (hl:L=tn fun k=>L.getD k AV.undef):fW call b s (.exit i) h hh tn tr pb cl o:=by
 subst e
 obtain ⟨y,q⟩:=kI (Ev.out ev) hl
 exact ⟨y,hk,q,G⟩
theorem fW.round {L:List AV} {o o':Option ρ} (e:o=o') (ev:Ev env call b s .normal ⟨L,hk,[],.no⟩) (G:dB hh hk) (tin:(Nat→AV)→List AV) (hl:L=tin fun k=>L.getD k AV.undef) (ih:∀x,fW call b ⟨tin x,hk,[],.no⟩ ex h hk tn tr pb cl o'):fW call b s ex h hh tn tr pb cl o:=by
 subst e
 have q:=ih fun k=>L.getD k AV.undef
 rw[←hl] at q
 cases o with
 | none=>obtain ⟨y,h2,x,g⟩:=q;exact ⟨y,h2,Ev.loop ev x,G.trans g⟩
 | some r=>obtain ⟨y,h2,x,y1,a1,n1,g1⟩:=q;exact ⟨y,h2,Ev.loop ev x,y1,a1,Nat.le_trans G.n n1,g1⟩
end
def fX {σ:Type} (call:aI) (b:Code) (s:St) (ex:fi) (hh:ah) (tn:σ→(Nat→AV)→List AV) (Q:σ→Prop) (r:σ):Prop:=∃y hk,Ev env call (.loop b) s ex ⟨tn r y,hk,[],.no⟩∧dB hh hk∧Q r
section
variable {σ:Type} {call:aI} {b:Code} {s:St} {ex:fi} {hh hk:ah} {tn:σ→(Nat→AV)→List AV} {Q:σ→Prop}
theorem fX.out {i:Nat} {L:List AV} {o:σ} (r:σ) (e:o=r) (ev:Ev env call b s (.exit i) ⟨L,hk,[],.no⟩) (G:dB hh hk) (iq:Q r) (hl:L=tn r fun k=>L.getD k AV.undef):fX call b s (.exit i) hh tn Q o:=by
 subst e
 obtain ⟨y,q⟩:=kI (tmpl:=tn o) (Ev.out ev) hl
 exact ⟨y,hk,q,G,iq⟩
theorem fX.round {L:List AV} {o o':σ} (e:o=o') (ev:Ev env call b s .normal ⟨L,hk,[],.no⟩) (G:dB hh hk) (tin:(Nat→AV)→List AV) (hl:L=tin fun k=>L.getD k AV.undef) (ih:∀x,fX call b ⟨tin x,hk,[],.no⟩ ex hk tn Q o'):fX call b s ex hh tn Q o:=by
 subst e
 have q:=ih fun k=>L.getD k AV.undef
 rw[←hl] at q
 obtain ⟨y,h2,x,g,i⟩:=q;exact ⟨y,h2,Ev.loop ev x,G.trans g,i⟩
end
theorem bh.same {α:Type} [aw α] {h:ah} {v:AV} {l:List α} (x:bh h v l) (n:Nat):AV.same (n+1) v v=true:=by
 rcases x.known with rfl | rfl | ⟨p,o,m,c,b,rfl,_⟩
 · rfl
 · rfl
 · exact ti n p o m c b
def LD (cs:List AV):Prop:=∀n,bK (AV.same (n+1)) cs cs=true
theorem WO:LD []:=fun _=>rfl
theorem J0 {x:AV} {cs:List AV} (hx:∀n,AV.same (n+1) x x=true) (hc:LD cs):LD (x::cs):=fun n=>by
 show (AV.same (n+1) x x&&bK (AV.same (n+1)) cs cs)=true
 rw[hx,hc];rfl
theorem AF (n:Nat) {cs:List AV} (h:LD cs):AV.same (n+2) (.agg cs) (.agg cs)=true:=h n
theorem m_ {s:List UInt8} {j:Nat} (hj:j<s.length):gX env (some .string) (some (.str s)) (some (.int .i64 ((j:Nat):Int)))=some (.int .u8 (((s.g j).toNat:Nat):Int)):=by
 refine HQ ?_
 rw[List.g,List.getD_eq_getElem?_getD,List.getElem?_eq_getElem hj];rfl
end
theorem AG {h:ah} {e s xt:TypeId} {xd:TypeDesc} {tys:Array TypeId} {bytes:Nat} {z x:AV} {M:List AV} (h0:tys[0]? =some s) (h1:tys[1]? =some xt) (hs:env.P.underlying s=some (.slice e)) (hx:env.P.underlying xt=some xd) (hi:gz xd=false) (JZ:bb env e=some 1) (hb:eu env e=some bytes) (r9:cL env e=some z) (hz:z.cells.length=1) (h8:bytes≤63) (hlen:jq x=some M.length) (hf:cN h 1 M.length x=some M) (ov:M.all AV.scalar=true) (hm:M≠ []) (hl:M.length≤1073741824):
 ∃h',bq env h tys .aK x=some (.slice h.nx 0 M.length M.length true,h')∧h.new (.cells M e false)=some h':=by
 obtain ⟨h',n⟩:=nV (h:=h) (.cells M e false)
 refine ⟨h',?_,n⟩
 have hn:¬M.length=0:=fun e=>hm (List.length_eq_zero_iff.1 e)
 have xp:(4*M.length+4096)*(bytes+1)≤1099511627776:=Nat.le_trans (Nat.mul_le_mul (show 4*M.length+4096≤17179869184 by omega) (show bytes+1≤64 by omega)) (by decide)
 simp only[bq,h0,h1,hs,hx,hi,JZ,hb,hlen,hf,r9,hz,ov,Nat.mul_one,hn,xp,n,if_true,if_false,and_self,Bool.false_eq_true]
theorem AH {h:ah} {e s xt:TypeId} {xd:TypeDesc} {tys:Array TypeId} {bytes p:Nat} {op:Bool} {z x:AV} {L M:List AV} (y:Tidy h) (h0:tys[0]? =some s) (h1:tys[1]? =some xt) (hs:env.P.underlying s=some (.slice e)) (hx:env.P.underlying xt=some xd) (hi:gz xd=false) (JZ:bb env e=some 1) (hb:eu env e=some bytes) (r9:cL env e=some z) (hz:z.cells.length=1) (h8:bytes≤63) (hlen:jq x=some M.length) (hf:cN h 1 M.length x=some M) (ov:M.all AV.scalar=true) {n:Nat} (hn:L.length=n) (hm:M≠ []) (hl:n+M.length≤1073741824)
 (hg:h.get p=some (.cells L e false)):
 ∃h',bq env h tys (.slice p 0 n n op) x=some (.slice h.nx 0 (n+M.length) (n+M.length) true,h')∧Tidy h'∧h'.nx=h.nx+1∧Kept p h h'∧h'.get h.nx=some (.cells (L++M) e false):=by
 have hp:=y _ _ hg
 subst hn
 have ec:(L.drop 0).take (L.length*1)++M=L++M:=by
  rw[List.drop_zero,Nat.mul_one,List.take_of_length_le (Nat.le_refl _)]
 have y2:Tidy (if op then h.put p none else h):=by
  cases op with
  | false=>exact y
  | true=>
    intro i x g
    show i<h.nx
    by_cases hi:i=p
    · subst hi;exact hp
    · rw[if_pos rfl,ah.bf (Ne.symm hi)] at g;exact y i x g
 have n2:(if op then h.put p none else h).nx=h.nx:=by cases op<;>rfl
 obtain ⟨h',n⟩:=nV (h:=if op then h.put p none else h) (.cells (L++M) e false)
 refine ⟨h',?_,j3 y2 n,by rw[tA n,n2],fun i x hi g=>?_,by rw[←n2];exact o5 n⟩
 · have hn:0<M.length:=List.length_pos_iff.2 hm
   have xp:(4*(L.length+M.length)+4096)*(bytes+1)≤1099511627776:=Nat.le_trans (Nat.mul_le_mul (show 4*(L.length+M.length)+4096≤17179869184 by omega) (show bytes+1≤64 by omega)) (by decide)
   have hc:¬L.length+M.length≤L.length:=by omega
   simp only[bq,h0,h1,hs,hx,hi,JZ,hb,hlen,hf,r9,hz,ov,hg,hc,if_true,if_false,Bool.false_eq_true,Nat.mul_one]
   rw[if_pos ⟨trivial,trivial,trivial⟩,if_pos ⟨xp,by omega,fun _=>⟨trivial,by omega⟩⟩]
   rw[show List.take L.length (List.drop 0 L)=L by rw[List.drop_zero,List.take_length],n]
 · refine mh y2 n ?_
   cases op with
   | false=>exact g
   | true=>rw[if_pos rfl,ah.bf (Ne.symm hi)];exact g
def gu (e:TypeId) (h0 h:ah) (z:AV) (L:List AV):Prop:=(z= .aK∧L=[])∨(L≠ []∧∃p op,z= .slice p 0 L.length L.length op∧h0.nx≤p∧h.get p=some (.cells L e false))
theorem gu.has {e:TypeId} {h0 h h':ah} {z:AV} {L:List AV} (o:gu e h0 h z L) (a:Has h h'):gu e h0 h' z L:=o.imp id fun ⟨hn,p,op,e,h1,g⟩=>⟨hn,p,op,e,h1,a _ _ g⟩
theorem gu.app {e s xt:TypeId} {xd:TypeDesc} {h0 h:ah} {tys:Array TypeId} {bytes:Nat} {z0 z x:AV} {L M:List AV} (y:Tidy h) (y0:Tidy h0) (a:Has h0 h) (hle:h0.nx≤h.nx) (o:gu e h0 h z L) (t0:tys[0]? =some s) (t1:tys[1]? =some xt) (hs:env.P.underlying s=some (.slice e)) (hx:env.P.underlying xt=some xd) (hi:gz xd=false) (JZ:bb env e=some 1) (hb:eu env e=some bytes) (r9:cL env e=some z0) (hz:z0.cells.length=1) (h8:bytes≤63) (hlen:jq x=some M.length) (hf:cN h 1 M.length x=some M) (ov:M.all AV.scalar=true) (hm:M≠ []) (hl:L.length+M.length≤1073741824):
 ∃z' h',bq env h tys z x=some (z',h')∧Tidy h'∧h.nx≤h'.nx∧Has h0 h'∧gu e h0 h' z' (L++M):=by
 rcases o with ⟨rfl,rfl⟩ | ⟨hn,p,op,rfl,hp,hg⟩
 · obtain ⟨h',e1,n⟩:=AG (h:=h) t0 t1 hs hx hi JZ hb r9 hz h8 hlen hf ov hm (by simpa using hl)
   have:=tA n
   exact ⟨_,h',e1,j3 y n,by omega,a.trans (r7 y n),.inr ⟨by simpa using hm,h.nx,true,by simp,hle,o5 n⟩⟩
 · obtain ⟨h',e1,y1,z1,k1,g1⟩:=AH (op:=op) y t0 t1 hs hx hi JZ hb r9 hz h8 hlen hf ov rfl hm hl hg
   exact ⟨_,h',e1,y1,by omega,Has.jC a k1 y0 hp,.inr ⟨by simp [hn],h.nx,true,by rw[List.length_append],hle,g1⟩⟩
theorem LF {i:Nat} {b:Bool} {v:AV}:jq (.slice i 0 1 1 b)=some [v].length:=rfl
theorem E0 {h:ah} {i:Nat} {b:Bool} {v:AV} {e:TypeId} {ro:Bool} (hg:h.get i=some (.cells [v] e ro)):cN h 1 [v].length (.slice i 0 1 1 b)=some [v]:=by
 simp [cN,hg]
theorem gu.le {e:TypeId} {h0 h1 h:ah} {z:AV} {L:List AV} (o:gu e h1 h z L) (hn:h0.nx≤h1.nx):gu e h0 h z L:=o.imp id fun ⟨bY,p,op,e,h1,g⟩=>⟨bY,p,op,e,by omega,g⟩
def zs (k:IntKind) (l:List Int):List AV:=l.map (AV.int k)
theorem gG (k:IntKind) (l:List Int):(zs k l).length=l.length:=by simp [zs]
theorem LG (k:IntKind) (l:List Int) (x:Int):zs k (l++[x])=zs k l++[AV.int k x]:=by simp [zs]
theorem yr (k:IntKind) (l:List Int) {i:Nat} (hi:i<l.length):(zs k l)[i]? =some (.int k (l.g i)):=by
 rw[zs,List.getElem?_map,List.getElem?_eq_getElem hi,List.g,List.getD_eq_getElem?_getD,List.getElem?_eq_getElem hi];rfl
structure ek (h:ah) (k:IntKind) (e:TypeId) (v:AV) (l:List Int):Prop where
 at_:iy env h e 1 v l.length (zs k l)
 agg:cm env e=some false
 known:v= .aK∨v= .cb∨∃p o m c b,v= .slice p o m c b
theorem ek.has {k:IntKind} {h h':ah} {e:TypeId} {v:AV} {l:List Int} (x:ek h k e v l) (a:Has h h'):ek h' k e v l:=⟨x.at_.has a,x.agg,x.known⟩
theorem ek.scalar {k:IntKind} {h:ah} {e:TypeId} {v:AV} {l:List Int} (x:ek h k e v l):AV.scalar v=true:=by
 rcases x.known with rfl | rfl | ⟨p,o,m,c,b,rfl⟩<;>rfl
theorem ek.same {k:IntKind} {h:ah} {e:TypeId} {v:AV} {l:List Int} (x:ek h k e v l) (n:Nat):AV.same (n+1) v v=true:=by
 rcases x.known with rfl | rfl | ⟨p,o,m,c,b,rfl⟩
 · rfl
 · rfl
 · exact ti n p o m c b
theorem ek.small {k:IntKind} {h:ah} {e:TypeId} {v:AV} {l:List Int} (x:ek h k e v l):l.length<2^60:=x.at_.small
theorem ek.len {k:IntKind} {h:ah} {e:TypeId} {v:AV} {l:List Int} (x:ek h k e v l):dS (some (.slice e)) (some v)=some (.int .i64 (l.length:Nat)):=x.at_.lens
theorem ek.elem {k:IntKind} {h:ah} {e:TypeId} {v:AV} {l:List Int} (x:ek h k e v l) {i:Nat} (hi:i<l.length):∃p q,bD env (some (.slice e)) (some v) (some (.int .i64 ((i:Nat):Int)))=some (.ptr p q)∧aM env h e (.ptr p q)=some (.int k (l.g i)):=x.at_.elem x.agg (yr k l hi)
theorem ek.load {k:IntKind} {h:ah} {e:TypeId} {v:AV} {l:List Int} (x:ek h k e v l) {i p q:Nat} (hi:i<l.length) (hx:bD env (some (.slice e)) (some v) (some (.int .i64 ((i:Nat):Int)))=some (.ptr p q)):aM env h e (.ptr p q)=some (.int k (l.g i)):=by
 obtain ⟨p',q',h1,h2⟩:=x.elem hi
 rw[hx] at h1
 simp only[Option.some.injEq,AV.ptr.injEq] at h1
 obtain ⟨rfl,rfl⟩:=h1
 exact h2
theorem ek.nil {k:IntKind} {h:ah} {e:TypeId} (hs:bb env e=some 1) (ha:cm env e=some false):ek h k e .aK []:=⟨⟨hs,rfl,by decide,rfl,.inl rfl⟩,ha,.inl rfl⟩
theorem gu.zs {k:IntKind} {e:TypeId} {h0 h:ah} {z:AV} {l:List Int} (o:gu e h0 h z (aP.zs k l)) (hl:l.length<2^60) (hs:bb env e=some 1) (ha:cm env e=some false):ek h k e z l:=by
 rcases o with ⟨rfl,e0⟩ | ⟨hn,p,op,rfl,_,hg⟩
 · have:l=[]:=List.length_eq_zero_iff.1 (by have:=congrArg List.length e0;rwa [gG] at this)
   subst this
   exact ek.nil hs ha
 · rw[gG]
   exact ⟨⟨hs,by rw[gG];omega,hl,rfl,.inr ⟨p,0,_,_,op,_,_,_,rfl,Nat.le_refl _,hg,fun j _=>by rw[Nat.zero_add]⟩⟩,ha,.inr (.inr ⟨_,_,_,_,_,rfl⟩)⟩
theorem gu.Q3 {k:IntKind} {e:TypeId} {h0 h:ah} {z:AV} {l:List Int} {n:Nat} (o:gu e h0 h z (aP.zs k l)) (v:AV.within h0.nx (n+1) z=true) (hs:bb env e=some 1) (ha:cm env e=some false):ek h0 k e z l:=by
 rcases o with ⟨rfl,e0⟩ | ⟨hn,p,op,rfl,hp,hg⟩
 · have:l=[]:=List.length_eq_zero_iff.1 (by have:=congrArg List.length e0;rwa [gG] at this)
   subst this
   exact ek.nil hs ha
 · have:=of_decide_eq_true (show decide (p<h0.nx)=true from v)
   omega
theorem DQ {nx:Nat} {z:AV} {cs:List AV} (h:AV.within nx 20 (.tuple (z::cs))=true):AV.within nx (18+1) z=true:=by
 simp only[AV.within,List.all_cons,Bool.and_eq_true] at h
 exact h.1
theorem gu.UC {k:IntKind} {e s xt:TypeId} {h0 h:ah} {tys:Array TypeId} {bytes b:Nat} {z0 z:AV} {L:List Int} {v:Int} {f:TypeId} {ro op:Bool} (y:Tidy h) (y0:Tidy h0) (a:Has h0 h) (hle:h0.nx≤h.nx) (o:gu e h0 h z (aP.zs k L)) (hg:h.get b=some (.cells [.int k v] f ro)) (hl:L.length≤1000000000) (t0:tys[0]? =some s) (t1:tys[1]? =some xt) (hs:env.P.underlying s=some (.slice e)) (hx:env.P.underlying xt=some (.slice e)) (JZ:bb env e=some 1) (hb:eu env e=some bytes) (r9:cL env e=some z0) (hz:z0.cells.length=1) (h8:bytes≤63):
 ∃z' h',bq env h tys z (.slice b 0 1 1 op)=some (z',h')∧Tidy h'∧h.nx≤h'.nx∧Has h0 h'∧gu e h0 h' z' (aP.zs k (L++[v])):=by
 rw[LG]
 exact gu.app y y0 a hle o t0 t1 hs hx rfl JZ hb r9 hz h8 LF (E0 hg) rfl (by simp) (by rw[gG];simp;omega)
def jD {σ:Type} (call:aI) (b:Code) (s:St) (ex:fi) (h:ah) (e:TypeId) (tn:σ→AV→(Nat→AV)→List AV) (own:σ→List AV) (N:Nat) (r:σ):Prop:=∃z y hk,Ev env call (.loop b) s ex ⟨tn r z y,hk,[],.no⟩∧dB h hk∧gu e h hk z (own r)∧(own r).length≤N
section
variable {σ:Type} {call:aI} {b:Code} {s:St} {ex:fi} {h hk:ah} {e:TypeId} {tn:σ→AV→(Nat→AV)→List AV} {own:σ→List AV} {N:Nat}
theorem jD.out {i:Nat} {L:List AV} {o:σ} (r:σ) (z:AV) (e1:o=r) (ev:Ev env call b s (.exit i) ⟨L,hk,[],.no⟩) (G:dB h hk) (oz:gu e h hk z (own r)) (ln:(own r).length≤N) (hl:L=tn r z fun k=>L.getD k AV.undef):jD call b s (.exit i) h e tn own N o:=by
 subst e1
 obtain ⟨y,q⟩:=kI (tmpl:=tn o z) (Ev.out ev) hl
 exact ⟨z,y,hk,q,G,oz,ln⟩
theorem jD.round {L:List AV} {o o':σ} (e1:o=o') (ev:Ev env call b s .normal ⟨L,hk,[],.no⟩) (tin:(Nat→AV)→List AV) (hl:L=tin fun k=>L.getD k AV.undef) (ih:∀x,jD call b ⟨tin x,hk,[],.no⟩ ex h e tn own N o'):jD call b s ex h e tn own N o:=by
 subst e1
 have q:=ih fun k=>L.getD k AV.undef
 rw[←hl] at q
 obtain ⟨z,y,h2,x,g,oz,ln⟩:=q;exact ⟨z,y,h2,Ev.loop ev x,g,oz,ln⟩
end
def cQ {α:Type} [aw α] (h0 h:ah) (z:AV) (l:List α):Prop:=
 ((z= .aK∨∃p,z= .slice p 0 0 0 false∧h0.nx≤p∧h.get p=some (.cells [] (aw.e α) false))∧l=[])∨
 (l≠ []∧∃p op,z= .slice p 0 l.length l.length op∧h0.nx≤p∧h.get p=some (.cells (l.flatMap aw.c) (aw.e α) false))
def MT (z:AV) (i:Nat):Prop:=∀o n c b,z≠ .slice i o n c b
section
variable {α:Type} [aw α] {h0 h h':ah} {z:AV} {l m:List α}
theorem cQ.has (o:cQ h0 h z l) (a:Has h h'):cQ h0 h' z l:=by
 rcases o with ⟨rfl | ⟨p,rfl,h1,h2⟩,rfl⟩ | ⟨hn,p,op,e,h1,g⟩
 · exact .inl ⟨.inl rfl,rfl⟩
 · exact .inl ⟨.inr ⟨p,rfl,h1,a _ _ h2⟩,rfl⟩
 · exact .inr ⟨hn,p,op,e,h1,a _ _ g⟩
theorem cQ.UE {s xt:TypeId} {tys:Array TypeId} {bytes N:Nat} {z0 x:AV} (y:Tidy h) (y0:Tidy h0) (a:Has h0 h) (hle:h0.nx≤h.nx) (o:cQ h0 h z l) (hlen:jq x=some m.length) (hf:cN h (aw.n α) m.length x=some (m.flatMap aw.c)) (ov:(m.flatMap aw.c).all AV.scalar=true) (hl:l.length+m.length≤N)
 (t0:tys[0]? =some s) (t1:tys[1]? =some xt) (hs:env.P.underlying s=some (.slice (aw.e α))) (hx:env.P.underlying xt=some (.slice (aw.e α))) (hb:eu env (aw.e α)=some bytes) (r9:cL env (aw.e α)=some z0) (hz:z0.cells.length=aw.n α) (Q4:∀k,k≤N→(4*k+4096)*(bytes+1)≤1099511627776):
 ∃z' h',bq env h tys z x=some (z',h')∧Tidy h'∧h.nx≤h'.nx∧Has h0 h'∧cQ h0 h' z' (l++m)∧∀i w,MT z i→h.get i=some w→h'.get i=some w:=by
 have Ci:=bH aw.len m
 have hi:gz (.slice (aw.e α))=false:=rfl
 have DS:∀{p:Nat} {ob:aF},h.get p=some ob→Tidy (h.put p (some ob))∧Has h0 (h.put p (some ob))∧(∀i w,h.get i=some w→(h.put p (some ob)).get i=some w):=fun {p ob} g=>by
  have hg:∀i,(h.put p (some ob)).get i=h.get i:=fun i=>by
   by_cases e:i=p
   · subst e;rw[ah.bx,g]
   · rw[ah.bf (Ne.symm e)]
  exact ⟨fun i w q=>y i w (by rw[←hg];exact q),fun i w q=>by rw[hg];exact a i w q,fun i w q=>by rw[hg];exact q⟩
 have Q5:m≠ []→∃h',h.new (.cells (m.flatMap aw.c) (aw.e α) false)=some h'∧Tidy h'∧h.nx≤h'.nx∧Has h0 h'∧cQ h0 h' (.slice h.nx 0 m.length m.length true) m∧∀i w,h.get i=some w→h'.get i=some w:=fun hm=>by
  obtain ⟨h',n⟩:=nV (h:=h) (.cells (m.flatMap aw.c) (aw.e α) false)
  have:=tA n
  exact ⟨h',n,j3 y n,by omega,a.trans (r7 y n),.inr ⟨hm,h.nx,true,rfl,hle,o5 n⟩,fun i w g=>mh y n g⟩
 rcases o with ⟨rfl | ⟨p,rfl,hp,hg⟩,rfl⟩ | ⟨hn,p,op,rfl,hp,hg⟩
 · rw[List.nil_append]
   by_cases hm:m=[]
   · subst hm
     simp only[List.length_nil,List.flatMap_nil,Nat.zero_mul] at hlen hf ov Ci
     refine ⟨.aK,h,?_,y,Nat.le_refl _,a,.inl ⟨.inl rfl,rfl⟩,fun _ _ _ g=>g⟩
     simp only[bq,t0,t1,hs,hx,hi,aw.size,hb,hlen,hf,r9,hz,ov,Ci,if_true,if_false,and_self,List.length_nil,Bool.false_eq_true,Nat.zero_mul]
   · obtain ⟨h',n,q1,q2,q3,q4,q5⟩:=Q5 hm
     have JQ:¬m.length=0:=fun e=>hm (List.length_eq_zero_iff.1 e)
     refine ⟨_,h',?_,q1,q2,q3,q4,fun i w _ g=>q5 i w g⟩
     simp only[bq,t0,t1,hs,hx,hi,aw.size,hb,hlen,hf,r9,hz,ov,Ci,JQ,Q4 m.length o!,n,if_true,if_false,and_self,Bool.false_eq_true]
 · rw[List.nil_append]
   by_cases hm:m=[]
   · subst hm
     simp only[List.length_nil,List.flatMap_nil,Nat.zero_mul] at hlen hf ov Ci
     obtain ⟨q1,q2,q3⟩:=DS hg
     refine ⟨_,_,?_,q1,Nat.le_refl _,q2,.inl ⟨.inr ⟨p,rfl,hp,q3 _ _ hg⟩,rfl⟩,fun i w _ g=>q3 i w g⟩
     simp only[bq,t0,t1,hs,hx,hi,aw.size,hb,hlen,hf,r9,hz,ov,Ci,hg,if_true,if_false,and_self,List.length_nil,Bool.false_eq_true,Nat.zero_mul,Nat.add_zero,Nat.le_refl,List.flatMap_nil,setFrom]
   · obtain ⟨h',n,q1,q2,q3,q4,q5⟩:=Q5 hm
     have JQ:¬m.length≤0:=fun e=>hm (List.length_eq_zero_iff.1 o!)
     refine ⟨_,h',?_,q1,q2,q3,q4,fun i w _ g=>q5 i w g⟩
     simp only[bq,t0,t1,hs,hx,hi,aw.size,hb,hlen,hf,r9,hz,ov,Ci,hg,JQ,if_true,if_false,and_self,Bool.false_eq_true,Nat.zero_mul,Nat.add_zero,Nat.zero_add,List.length_nil,Nat.le_refl]
     rw[if_pos ⟨Q4 m.length o!,trivial,fun e=>e.elim⟩]
     simp only[List.drop_nil,List.take_nil,List.nil_append,n]
 · have WQ:0<l.length:=List.length_pos_iff.2 hn
   have YO:=y _ _ hg
   have JU:=bH aw.len l
   by_cases hm:m=[]
   · subst hm
     simp only[List.length_nil,List.flatMap_nil,Nat.zero_mul] at hlen hf ov Ci
     obtain ⟨q1,q2,q3⟩:=DS hg
     rw[List.append_nil]
     refine ⟨_,_,?_,q1,Nat.le_refl _,q2,.inr ⟨hn,p,op,rfl,hp,q3 _ _ hg⟩,fun i w _ g=>q3 i w g⟩
     simp only[bq,t0,t1,hs,hx,hi,aw.size,hb,hlen,hf,r9,hz,ov,Ci,hg,JU,if_true,if_false,and_self,List.length_nil,Bool.false_eq_true,Nat.zero_mul,Nat.add_zero,Nat.zero_add,Nat.le_refl,List.flatMap_nil,setFrom]
   · have SE:0<m.length:=List.length_pos_iff.2 hm
     have y2:Tidy (if op then h.put p none else h):=by
      cases op with
      | false=>exact y
      | true=>
        intro i x g
        show i<h.nx
        by_cases hi:i=p
        · subst hi;exact YO
        · rw[if_pos rfl,ah.bf (Ne.symm hi)] at g;exact y i x g
     have n2:(if op then h.put p none else h).nx=h.nx:=by cases op<;>rfl
     have k2:∀i w,i≠p→h.get i=some w→(if op then h.put p none else h).get i=some w:=fun i w hi g=>by
      cases op with
      | false=>exact g
      | true=>rw[if_pos rfl,ah.bf (Ne.symm hi)];exact g
     obtain ⟨h',n⟩:=nV (h:=if op then h.put p none else h) (.cells (l.flatMap aw.c++m.flatMap aw.c) (aw.e α) false)
     have hk:∀i w,i≠p→h.get i=some w→h'.get i=some w:=fun i w hi g=>mh y2 n (k2 i w hi g)
     have hc:¬l.length+m.length≤l.length:=by omega
     refine ⟨.slice h.nx 0 (l.length+m.length) (l.length+m.length) true,h',?_,j3 y2 n,by rw[tA n,n2];omega,fun i w g=>?_,.inr ⟨by simp [hn],h.nx,true,by rw[List.length_append],hle,by rw[List.flatMap_append,←n2];exact o5 n⟩,fun i w q g=>hk i w (fun e=>q 0 l.length l.length op (by subst e;rfl)) g⟩
     · simp only[bq,t0,t1,hs,hx,hi,aw.size,hb,hlen,hf,r9,hz,ov,Ci,hg,hc,if_true,if_false,and_self,Bool.false_eq_true]
       rw[if_pos ⟨Q4 _ hl,by rw[JU];omega,fun _=>⟨trivial,by rw[JU];omega⟩⟩]
       rw[List.drop_zero,List.take_of_length_le (by rw[JU];exact Nat.le_refl _),n]
     · have:=y0 _ _ g
       exact hk i w o! (a i w g)
theorem cQ.app {s xt:TypeId} {tys:Array TypeId} {bytes:Nat} {z0 x:AV} (y:Tidy h) (y0:Tidy h0) (a:Has h0 h) (hle:h0.nx≤h.nx) (o:cQ h0 h z l) (hlen:jq x=some m.length) (hf:cN h (aw.n α) m.length x=some (m.flatMap aw.c)) (ov:(m.flatMap aw.c).all AV.scalar=true) (hl:l.length+m.length≤1000000000)
 (t0:tys[0]? =some s) (t1:tys[1]? =some xt) (hs:env.P.underlying s=some (.slice (aw.e α))) (hx:env.P.underlying xt=some (.slice (aw.e α))) (hb:eu env (aw.e α)=some bytes) (r9:cL env (aw.e α)=some z0) (hz:z0.cells.length=aw.n α) (h8:bytes≤255):
 ∃z' h',bq env h tys z x=some (z',h')∧Tidy h'∧h.nx≤h'.nx∧Has h0 h'∧cQ h0 h' z' (l++m)∧∀i w,MT z i→h.get i=some w→h'.get i=some w:=
 cQ.UE y y0 a hle o hlen hf ov hl t0 t1 hs hx hb r9 hz fun k hk=>Nat.le_trans (Nat.mul_le_mul (show 4*k+4096≤4294967296 by omega) (show bytes+1≤256 by omega)) (by decide)
theorem cQ.UF {s xt:TypeId} {tys:Array TypeId} {bytes:Nat} {z0 x:AV} (y:Tidy h) (y0:Tidy h0) (a:Has h0 h) (hle:h0.nx≤h.nx) (o:cQ h0 h z l) (hlen:jq x=some m.length) (hf:cN h (aw.n α) m.length x=some (m.flatMap aw.c)) (ov:(m.flatMap aw.c).all AV.scalar=true) (hl:l.length+m.length≤1000000000)
 (t0:tys[0]? =some s) (t1:tys[1]? =some xt) (hs:env.P.underlying s=some (.slice (aw.e α))) (hx:env.P.underlying xt=some (.slice (aw.e α))) (hb:eu env (aw.e α)=some bytes) (r9:cL env (aw.e α)=some z0) (hz:z0.cells.length=aw.n α) (h8:bytes≤255) (he:l=[]:=by rfl):
 ∃z' h',bq env h tys z x=some (z',h')∧Tidy h'∧h.nx≤h'.nx∧Has h0 h'∧cQ h0 h' z' (l++m)∧Has h h':=by
 subst he
 by_cases hm:m=[]
 · subst hm
   obtain ⟨z',h',e1,e2,e3,e4,e5,e6⟩:=cQ.app y y0 a hle o hlen hf ov hl t0 t1 hs hx hb r9 hz h8
   refine ⟨z',h',e1,e2,e3,e4,e5,fun i w g=>?_⟩
   rcases o with ⟨rfl | ⟨p,rfl,hp,hg⟩,_⟩ | ⟨hn,_⟩
   · exact e6 i w (fun o n c b q=>by cases q) g
   · by_cases hi:i=p
     · subst hi
       have UG:gz (.slice (aw.e α))=false:=rfl
       simp only[List.length_nil,List.flatMap_nil] at hlen hf ov
       simp only[bq,t0,t1,hs,hx,UG,aw.size,hb,hlen,hf,r9,hz,ov,hg,if_true,if_false,and_self,List.length_nil,Bool.false_eq_true,Nat.zero_mul,Nat.add_zero,Nat.le_refl,List.flatMap_nil,setFrom,Option.some.injEq,Prod.mk.injEq] at e1
       rw[←e1.2,ah.bx,←hg,g]
     · exact e6 i w (fun o n c b q=>hi (AV.slice.inj q).1.symm) g
   · exact absurd rfl hn
 · obtain ⟨z',h',e1,e2,e3,e4,e5,e6⟩:=cQ.app y y0 a hle o hlen hf ov hl t0 t1 hs hx hb r9 hz h8
   refine ⟨z',h',e1,e2,e3,e4,e5,fun i w g=>?_⟩
   rcases o with ⟨rfl | ⟨p,rfl,hp,hg⟩,_⟩ | ⟨hn,_⟩
   · exact e6 i w (fun o n c b q=>by cases q) g
   · by_cases hi:i=p
     · subst hi
       have UG:gz (.slice (aw.e α))=false:=rfl
       have Ci:=bH aw.len m
       have JQ:¬m.length≤0:=fun e=>hm (List.length_eq_zero_iff.1 o!)
       have Q4:(4*m.length+4096)*(bytes+1)≤1099511627776:=Nat.le_trans (Nat.mul_le_mul (show 4*m.length+4096≤4294967296 by simp at hl;omega) (show bytes+1≤256 by omega)) (by decide)
       simp only[bq,t0,t1,hs,hx,UG,aw.size,hb,hlen,hf,r9,hz,ov,Ci,hg,JQ,if_true,if_false,and_self,Bool.false_eq_true,Nat.zero_mul,Nat.add_zero,Nat.zero_add,List.length_nil,Nat.le_refl] at e1
       rw[if_pos ⟨Q4,trivial,fun e=>e.elim⟩] at e1
       obtain ⟨h2,n⟩:=nV (h:=h) (.cells (List.take 0 (List.drop 0 [])++m.flatMap aw.c) (aw.e α) false)
       rw[n] at e1
       simp only[Option.some.injEq,Prod.mk.injEq] at e1
       rw[←e1.2];exact mh y n g
     · exact e6 i w (fun o n c b q=>hi (AV.slice.inj q).1.symm) g
   · exact absurd rfl hn
theorem Of (a:∀y∈l,aw.ok h y) (b:∀y∈m,aw.ok h y):∀y∈l++m,aw.ok h y:=fun y hy=>(List.mem_append.1 hy).elim (a y) (b y)
theorem LH (g:Has h h') (a:∀y∈l,aw.ok h y):∀y∈l,aw.ok h' y:=fun y hy=>aw.mono g (a y hy)
class Flat (α:Type) [aw α]:Prop where
 free:∀{h h':ah} {x:α},aw.ok h x→aw.ok h' x
theorem cV {D:Type} [aw D] [Flat D] {h h':ah} {l:List D} (a:∀y∈l,aw.ok h y):∀y∈l,aw.ok h' y:=fun y hy=>Flat.free (a y hy)
theorem AI {v:AV} (x:bh h v l) (sc:∀y∈l,(aw.c y).all AV.scalar=true):(l.flatMap aw.c).all AV.scalar=true:=by
 rw[List.all_eq_true]
 intro z hz
 obtain ⟨y,hy,YP⟩:=List.mem_flatMap.1 hz
 exact List.all_eq_true.1 (sc y hy) z YP
theorem bh.jq {v:AV} (x:bh h v l):jq v=some l.length:=by
 have hl:=x.at_.lens
 rcases x.known with rfl | rfl | ⟨p,o,m,c,b,rfl,_⟩
 · rw[oU] at hl
   simp only[Option.some.injEq,AV.int.injEq,true_and] at hl
   rw[show l.length=0 by omega];rfl
 · rw[N_] at hl
   simp only[Option.some.injEq,AV.int.injEq,true_and] at hl
   rw[show l.length=0 by omega];rfl
 · rw[dr] at hl
   simp only[Option.some.injEq,AV.int.injEq,true_and] at hl
   rw[show l.length=m by omega];rfl
theorem bh.first {v:AV} (x:bh h v l):cN h (aw.n α) l.length v=some (l.flatMap aw.c):=by
 by_cases hl:l=[]
 · subst hl
   rcases x.known with rfl | rfl | ⟨p,o,m,c,b,rfl,_⟩<;>simp [cN]
 · have WQ:0<l.length:=List.length_pos_iff.2 hl
   have JU:=bH aw.len l
   rcases x.at_.block with h0 | ⟨p,o,m,c,b,C,f,ro,h1,_,h2,h3⟩
   · omega
   · subst h1
     have hm:m=l.length:=by
      have:=x.at_.lens
      rw[dr] at this
      simp only[Option.some.injEq,AV.int.injEq,true_and] at this
      omega
     subst hm
     have hC:o+l.length*aw.n α≤C.length:=by
      rcases Nat.eq_zero_or_pos (l.length*aw.n α) with h0 | h0
      · have:=Nat.mul_pos WQ (aw.pos (α:=α));omega
      · have:=h3 (l.length*aw.n α - 1) o!
        rw[List.getElem?_eq_getElem (by omega:l.length*aw.n α - 1<(l.flatMap aw.c).length)] at this
        have:=(List.getElem?_eq_some_iff.1 this).1
        omega
     simp only[cN,Nat.le_refl,if_true,if_false,show ¬l.length=0 by omega,h2,hC]
     congr 1
     apply List.ext_getElem?
     intro j
     by_cases hj:j<l.length*aw.n α
     · rw[List.getElem?_take_of_lt hj,List.getElem?_drop,h3 j o!]
     · rw[List.getElem?_eq_none (by rw[List.length_take];omega),List.getElem?_eq_none o!]
theorem cQ.rows (o:cQ h0 h z l) (hl:l.length<2^60) (hk:∀x∈l,aw.ok h x):bh h z l:=by
 rcases o with ⟨rfl | ⟨p,rfl,h1,h2⟩,rfl⟩ | ⟨hn,p,op,rfl,h1,g⟩
 · exact ⟨⟨aw.size,(Nat.zero_mul _).symm,hl,rfl,.inl rfl⟩,.inl rfl,hk⟩
 · exact ⟨⟨aw.size,(Nat.zero_mul _).symm,hl,rfl,.inl rfl⟩,.inr (.inr ⟨_,_,_,_,_,rfl,fun e=>by cases e⟩),hk⟩
 · have:=List.length_pos_iff.2 hn
   exact ⟨⟨aw.size,bH aw.len l,hl,rfl,.inr ⟨p,0,_,_,op,_,_,_,rfl,Nat.le_refl _,g,fun j _=>by rw[Nat.zero_add]⟩⟩,.inr (.inr ⟨_,_,_,_,_,rfl,fun _=>this⟩),hk⟩
end
structure Fact where
 time:Int
 kind:List UInt8
 item:List UInt8
 ag:List UInt8
 number:Int
@[reducible] def Fact.c (x:Fact):List AV:=[.int .i64 x.time,.str x.kind,.str x.item,.str x.ag,.int .i64 x.number]
def Fact.ok (h:ah) (x:Fact):Prop:=x.kind.length<2^60∧x.item.length<2^60∧x.ag.length<2^60
def Fact.eq (x y:Fact):Bool:=(x.time==y.time)&&(x.kind==y.kind)&&(x.item==y.item)&&(x.ag==y.ag)&&(x.number==y.number)
theorem Fact.deep (x y:Fact):iF env 16 33 (.agg (Fact.c x)) (.agg (Fact.c y))=some (Fact.eq x y):=by
 have e:iF env 16 33 (.agg (Fact.c x)) (.agg (Fact.c y))=(match some (x.time==y.time) with | some true=>(match some (x.kind==y.kind) with | some true=>(match some (x.item==y.item) with | some true=>(match some (x.ag==y.ag) with | some true=>(match some (x.number==y.number) with | some true=>some true | some false=>some false | none=>none) | some false=>some false | none=>none) | some false=>some false | none=>none) | some false=>some false | none=>none) | some false=>some false | none=>none):=by kernel_rfl
 rw[e,Fact.eq]
 cases (x.time==y.time)<;>try rfl
 cases (x.kind==y.kind)<;>try rfl
 cases (x.item==y.item)<;>try rfl
 cases (x.ag==y.ag)<;>try rfl
 cases (x.number==y.number)<;>try rfl
theorem Fact.eql (x y:Fact) {a b:Bool}:aJ env .eql 33 a b (some (.agg (Fact.c x))) (some (.agg (Fact.c y)))=some (.bool (Fact.eq x y)):=by
 show (if env.P.eqGuardType env.P.depth 33 then none else (match iF env 16 33 (.agg (Fact.c x)) (.agg (Fact.c y)) with | some r=>some (AV.bool (r)) | none=>none))=_
 rw[show env.P.eqGuardType env.P.depth 33=false by kernel_rfl,Fact.deep];rfl
theorem Fact.neq (x y:Fact) {a b:Bool}:aJ env .neq 33 a b (some (.agg (Fact.c x))) (some (.agg (Fact.c y)))=some (.bool (!Fact.eq x y)):=by
 show (if env.P.eqGuardType env.P.depth 33 then none else (match iF env 16 33 (.agg (Fact.c x)) (.agg (Fact.c y)) with | some r=>some (AV.bool (!r)) | none=>none))=_
 rw[show env.P.eqGuardType env.P.depth 33=false by kernel_rfl,Fact.deep];rfl
instance:aw Fact where
 default:=⟨0,[],[],[],0⟩
 c:=Fact.c
 n:=5
 e:=33
 len _:=rfl
 ok:=Fact.ok
 mono a o:=⟨o.1,o.2.1,o.2.2⟩
 size:=by kernel_rfl
 agg:=by kernel_rfl
 pos:=by decide
theorem Fact.sc {h:ah} {x:Fact} (o:Fact.ok h x):(Fact.c x).all AV.scalar=true:=by
 rfl
instance:Flat Fact where
 free o:=o
theorem DT {p:Prop} [Decidable p] (h:(!decide p)=true):¬p:=by intro q;rw[decide_eq_true q] at h;cases h
theorem DU {p:Prop} [Decidable p] (h:(!decide p)=false):p:=by by_cases q:p;exact q;rw[decide_eq_false q] at h;cases h
def bs (l:List Bool):List AV:=l.map AV.bool
theorem Og (l:List Bool):(bs l).length=l.length:=by simp [bs]
theorem Oh (l:List Bool) {i:Nat} (hi:i<l.length):(bs l)[i]? =some (.bool (l.g i)):=by
 rw[bs,List.getElem?_map,List.getElem?_eq_getElem hi,List.g,List.getD_eq_getElem?_getD,List.getElem?_eq_getElem hi];rfl
theorem Oi (k:IntKind) (l:List Int) (i:Nat) (v:Int):(zs k l).set i (.int k v)=zs k (l.set i v):=by simp [zs,List.map_set]
section
variable {h:ah} {t e:TypeId} {p i n:Nat}
theorem DV {k:IntKind} {l:List Int} {ro:Bool} (ht:cm env t=some false) (hg:h.get p=some (.cells (zs k l) e ro)) (hi:i<l.length):aM env h t (.ptr p i)=some (.int k (l.g i)):=by
 simp only[aM,hg,dG,ht];exact yr k l hi
theorem wm {cs:List AV} {v:AV} (hs:bb env t=some 1) (hg:h.get p=some (.cells cs e false)) (hi:i<cs.length) (hv:v.cells=[v]) (hk:AV.scalar v=true):aQ env h t (.ptr p i) v=some (h.put p (some (.cells (cs.set i v) e false))):=by
 obtain ⟨h',s⟩:=o6 (E:=env) (t:=t) (o:=i) (n:=1) (v:=v) hg hs (by rw[hv];rfl) o! (by rw[hv];simp [hk])
 rw[s,mi s hg,hv];rfl
theorem AJ {k:IntKind} {l:List Int} {v:Int} (hs:bb env t=some 1) (hg:h.get p=some (.cells (zs k l) e false)) (hi:i<l.length):aQ env h t (.ptr p i) (.int k v)=some (h.put p (some (.cells (zs k (l.set i v)) e false))):=by
 rw[wm hs hg (by rw[gG];exact hi) rfl rfl,Oi]
end
structure vq (h:ah) (e:TypeId) (v:AV) (l:List Bool):Prop where
 at_:iy env h e 1 v l.length (bs l)
 agg:cm env e=some false
section
variable {h h':ah} {e:TypeId} {v:AV} {l:List Bool}
theorem vq.scalar (x:vq h e v l):AV.scalar v=true:=by
 have q:=x.at_.lens
 cases v<;>first | rfl | (exfalso;revert q;simp [dS])
theorem vq.small (x:vq h e v l):l.length<2^60:=x.at_.small
theorem vq.elem (x:vq h e v l) {i:Nat} (hi:i<l.length):∃p q,bD env (some (.slice e)) (some v) (some (.int .i64 ((i:Nat):Int)))=some (.ptr p q)∧aM env h e (.ptr p q)=some (.bool (l.g i)):=x.at_.elem x.agg (Oh l hi)
theorem vq.load (x:vq h e v l) {i p q:Nat} (hi:i<l.length) (hx:bD env (some (.slice e)) (some v) (some (.int .i64 ((i:Nat):Int)))=some (.ptr p q)):aM env h e (.ptr p q)=some (.bool (l.g i)):=by
 obtain ⟨p',q',h1,h2⟩:=x.elem hi
 rw[hx] at h1
 simp only[Option.some.injEq,AV.ptr.injEq] at h1
 obtain ⟨rfl,rfl⟩:=h1
 exact h2
theorem vq.own {p n:Nat} {op ro:Bool} {f:TypeId} (hs:bb env e=some 1) (ha:cm env e=some false) (hg:h.get p=some (.cells (bs l) f ro)) (hn:l.length=n) (UH:n<2^60):vq h e (.slice p 0 n n op) l:=by
 subst hn
 exact ⟨⟨hs,by rw[Og];omega,UH,rfl,.inr ⟨p,0,_,_,op,_,_,_,rfl,Nat.le_refl _,hg,fun j _=>by rw[Nat.zero_add]⟩⟩,ha⟩
theorem ek.own {k:IntKind} {p n:Nat} {op ro:Bool} {f:TypeId} {l:List Int} (hs:bb env e=some 1) (ha:cm env e=some false) (hg:h.get p=some (.cells (zs k l) f ro)) (hn:l.length=n) (UH:n<2^60):ek h k e (.slice p 0 n n op) l:=by
 subst hn
 exact ⟨⟨hs,by rw[gG];omega,UH,rfl,.inr ⟨p,0,_,_,op,_,_,_,rfl,Nat.le_refl _,hg,fun j _=>by rw[Nat.zero_add]⟩⟩,ha,.inr (.inr ⟨_,_,_,_,_,rfl⟩)⟩
end
def o_ {σ ρ:Type} (call:aI) (b:Code) (s:St) (ex:fi) (hh:ah) (tn:σ→AV→(Nat→AV)→List AV) (tr:ρ→AV→(Nat→AV)→List AV) (Qn:σ→AV→ah→Prop) (Qr:ρ→AV→ah→Prop):σ ⊕ ρ→Prop
 | .inl v=>∃z y hk,Ev env call (.loop b) s ex ⟨tn v z y,hk,[],.no⟩∧Tidy hk∧hh.nx≤hk.nx∧Qn v z hk
 | .inr r=>∃z y hk,Ev env call (.loop b) s .ret ⟨tr r z y,hk,[],.no⟩∧Tidy hk∧hh.nx≤hk.nx∧Qr r z hk
section
variable {σ ρ:Type} {call:aI} {b:Code} {s:St} {ex:fi} {hh hk:ah} {tn:σ→AV→(Nat→AV)→List AV} {tr:ρ→AV→(Nat→AV)→List AV} {Qn:σ→AV→ah→Prop} {Qr:ρ→AV→ah→Prop}
theorem o_.n {o:σ ⊕ ρ} {v:σ} (e:o= .inl v) (x:o_ call b s ex hh tn tr Qn Qr o):∃z y hk,Ev env call (.loop b) s ex ⟨tn v z y,hk,[],.no⟩∧Tidy hk∧hh.nx≤hk.nx∧Qn v z hk:=by subst e;exact x
theorem o_.r {o:σ ⊕ ρ} {r:ρ} (e:o= .inr r) (x:o_ call b s ex hh tn tr Qn Qr o):∃z y hk,Ev env call (.loop b) s .ret ⟨tr r z y,hk,[],.no⟩∧Tidy hk∧hh.nx≤hk.nx∧Qr r z hk:=by subst e;exact x
theorem o_.out {i:Nat} {L:List AV} {o:σ ⊕ ρ} (v:σ) (z:AV) (e:o= .inl v) (ev:Ev env call b s (.exit i) ⟨L,hk,[],.no⟩) (y1:Tidy hk) (n1:hh.nx≤hk.nx) (q:Qn v z hk) (hl:L=tn v z fun k=>L.getD k AV.undef):o_ call b s (.exit i) hh tn tr Qn Qr o:=by
 subst e
 obtain ⟨y,x⟩:=kI (tmpl:=tn v z) (Ev.out ev) hl
 exact ⟨z,y,hk,x,y1,n1,q⟩
theorem o_.round {L:List AV} {o o':σ ⊕ ρ} (e:o=o') (ev:Ev env call b s .normal ⟨L,hk,[],.no⟩) (n1:hh.nx≤hk.nx) (tin:(Nat→AV)→List AV) (hl:L=tin fun k=>L.getD k AV.undef) (ih:∀x,o_ call b ⟨tin x,hk,[],.no⟩ ex hk tn tr Qn Qr o'):o_ call b s ex hh tn tr Qn Qr o:=by
 subst e
 have q:=ih fun k=>L.getD k AV.undef
 rw[←hl] at q
 cases o with
 | inl v=>obtain ⟨z,y,h2,x,y1,n2,g⟩:=q;exact ⟨z,y,h2,Ev.loop ev x,y1,Nat.le_trans n1 n2,g⟩
 | inr r=>obtain ⟨z,y,h2,x,y1,n2,g⟩:=q;exact ⟨z,y,h2,Ev.loop ev x,y1,Nat.le_trans n1 n2,g⟩
end
theorem gu.Q6 {e:TypeId} {h0 h:ah} {z:AV} {L:List AV} {n:Nat} (o:gu e h0 h z L) (v:AV.within h0.nx (n+1) z=true):gu e h0 h0 z L:=by
 rcases o with ⟨rfl,e0⟩ | ⟨hn,p,op,rfl,hp,hg⟩
 · exact .inl ⟨rfl,e0⟩
 · have:=of_decide_eq_true (show decide (p<h0.nx)=true from v)
   omega
theorem Ev.to {call:aI} {b:Code} {s:St} {e:fi} {L L':List AV} {hk:ah} (ev:Ev env call b s e ⟨L,hk,[],.no⟩) (hl:L=L'):Ev env call b s e ⟨L',hk,[],.no⟩:=hl▸ev
theorem WR (f:FuncId) (a b:List AV):AV.scalar (.func f a b)=true:=rfl
section
variable {α:Type} [aw α]
theorem cQ.le {h0 h1 h:ah} {z:AV} {l:List α} (o:cQ h1 h z l) (hn:h0.nx≤h1.nx):cQ h0 h z l:=by
 rcases o with ⟨rfl | ⟨p,rfl,h1,h2⟩,rfl⟩ | ⟨bY,p,op,e,h1,g⟩
 · exact .inl ⟨.inl rfl,rfl⟩
 · exact .inl ⟨.inr ⟨p,rfl,by omega,h2⟩,rfl⟩
 · exact .inr ⟨bY,p,op,e,by omega,g⟩
def mm {σ:Type} (call:aI) (b:Code) (s:St) (ex:fi) (h:ah) (tn:σ→AV→(Nat→AV)→List AV) (own:σ→List α) (N:Nat) (r:σ):Prop:=∃z y hk,Ev env call (.loop b) s ex ⟨tn r z y,hk,[],.no⟩∧dB h hk∧cQ h hk z (own r)∧(∀y∈own r,aw.ok hk y)∧(own r).length≤N
variable {σ:Type} {call:aI} {b:Code} {s:St} {ex:fi} {h hk:ah} {tn:σ→AV→(Nat→AV)→List AV} {own:σ→List α} {N:Nat}
theorem mm.out {i:Nat} {L:List AV} {o:σ} (r:σ) (z:AV) (e1:o=r) (ev:Ev env call b s (.exit i) ⟨L,hk,[],.no⟩) (G:dB h hk) (oz:cQ h hk z (own r)) (ok:∀y∈own r,aw.ok hk y) (ln:(own r).length≤N) (hl:L=tn r z fun k=>L.getD k AV.undef):mm call b s (.exit i) h tn own N o:=by
 subst e1
 obtain ⟨y,q⟩:=kI (tmpl:=tn o z) (Ev.out ev) hl
 exact ⟨z,y,hk,q,G,oz,ok,ln⟩
theorem mm.round {L:List AV} {o o':σ} (e1:o=o') (ev:Ev env call b s .normal ⟨L,hk,[],.no⟩) (tin:(Nat→AV)→List AV) (hl:L=tin fun k=>L.getD k AV.undef) (ih:∀x,mm call b ⟨tin x,hk,[],.no⟩ ex h tn own N o'):mm call b s ex h tn own N o:=by
 subst e1
 have q:=ih fun k=>L.getD k AV.undef
 rw[←hl] at q
 obtain ⟨z,y,h2,x,g,oz,ok,ln⟩:=q;exact ⟨z,y,h2,Ev.loop ev x,g,oz,ok,ln⟩
end
section
variable {α:Type} [aw α]
theorem AK {l:List α} {i:Nat} (h:i<l.length) (x:α):(l.set i x).g i=x:=by
 rw[List.g,List.getD_eq_getElem?_getD,List.getElem?_set_self h];rfl
theorem AL {l:List α} {i j:Nat} (h:i≠j) (x:α):(l.set i x).g j=l.g j:=by
 rw[List.g,List.g,List.getD_eq_getElem?_getD,List.getD_eq_getElem?_getD,List.getElem?_set_ne h]
theorem pa {l:List α} {i:Nat} (h:i<l.length) (x:α):setFrom (l.flatMap aw.c) (i*aw.n α) (aw.c x)=(l.set i x).flatMap aw.c:=by
 have hn:0<aw.n α:=aw.pos
 have hl:=bH aw.len l
 have Ms:=bH aw.len (l.set i x)
 rw[List.length_set] at Ms
 have hx:=aw.len x
 apply List.ext_getElem?
 intro k
 rw[b4,hx,hl]
 have hk:k=k/aw.n α*aw.n α+k%aw.n α:=by rw[Nat.mul_comm];exact (Nat.div_add_mod k _).symm
 have hr:=Nat.mod_lt k hn
 generalize k/aw.n α=q at hk
 generalize k%aw.n α=r at hk hr
 by_cases hq:q<l.length
 · have h1:=fI aw.len l q r hq hr
   have h2:=fI aw.len (l.set i x) q r (by rw[List.length_set];exact hq) hr
   subst hk
   by_cases e:q=i
   · subst e
     have:q*aw.n α+aw.n α≤l.length*aw.n α:=by rw[←Nat.succ_mul];exact Nat.mul_le_mul_right _ hq
     rw[if_pos ⟨by omega,by omega,by omega⟩,h2,AK hq,Nat.add_sub_cancel_left]
   · rw[if_neg,h1,h2,AL (Ne.symm e)]
     intro ⟨a,b,c⟩
     rcases Nat.lt_or_gt_of_ne e with e | e
     · have:q*aw.n α+aw.n α≤i*aw.n α:=by rw[←Nat.succ_mul];exact Nat.mul_le_mul_right _ e
       omega
     · have:i*aw.n α+aw.n α≤q*aw.n α:=by rw[←Nat.succ_mul];exact Nat.mul_le_mul_right _ e
       omega
 · have:l.length*aw.n α≤q*aw.n α:=Nat.mul_le_mul_right _ o!
   rw[if_neg o!,List.getElem?_eq_none o!,List.getElem?_eq_none o!]
theorem cQ.at {h0 h:ah} {z:AV} {l:List α} (y:Tidy h) (y0:Tidy h0) (a:Has h0 h) (o:cQ h0 h z l) {i:Nat} (hi:i<l.length):
 ∃p,bD env (some (.slice (aw.e α))) (some z) (some (.int .i64 ((i:Nat):Int)))=some (.ptr p (i*aw.n α))∧
  ∀x:α,(aw.c x).all AV.scalar=true→∃h',aQ env h (aw.e α) (.ptr p (i*aw.n α)) (.agg (aw.c x))=some h'∧Tidy h'∧h'.nx=h.nx∧cQ h0 h' z (l.set i x)∧Has h0 h':=by
 rcases o with ⟨_,rfl⟩ | ⟨hn,p,op,rfl,hp,hg⟩
 · simp at hi
 · have ix:=eE (E:=env) (i:=p) (o:=0) (c:=l.length) (b:=op) (aw.size (α:=α)) hi
   rw[Nat.zero_add] at ix
   refine ⟨p,ix,fun x hx=>?_⟩
   have hl:=bH aw.len l
   have hb:i*aw.n α+aw.n α≤l.length*aw.n α:=by rw[←Nat.succ_mul];exact Nat.mul_le_mul_right _ hi
   obtain ⟨h',s⟩:=o6 (E:=env) (t:=aw.e α) (o:=i*aw.n α) (n:=aw.n α) (v:= .agg (aw.c x)) hg aw.size (aw.len x) o! hx
   have g':=qm y s hg
   refine ⟨h',s,nW y s hg,o7 s hg,.inr ⟨by intro e;rw[←List.length_eq_zero_iff,List.length_set] at e;omega,p,op,by rw[List.length_set],hp,?_⟩,fun j w gw=>?_⟩
   · rw[g']
     show some (aF.cells (setFrom (l.flatMap aw.c) (i*aw.n α) (aw.c x)) _ _)=_
     rw[pa hi]
   · have:=y0 _ _ gw
     exact kJ y s hg o! (a _ _ gw)
theorem qn {h:ah} {l:List α} {i:Nat} {x:α} (a:∀y∈l,aw.ok h y) (b:aw.ok h x):∀y∈l.set i x,aw.ok h y:=fun y hy=>(List.mem_or_eq_of_mem_set hy).elim (a y) fun e=>e▸b
end
def gH:Code→List Code
 | .seq a b=>gH a++gH b
 | .cond _ a b=>gH a++gH b
 | .block _ b=>gH b
 | .loop b=>gH b
 | .scope b=>gH b
 | .rangeFunc _ _ a b=>gH a++gH b
 | .region i o d=> [.region i o d]
 | _=> []
section
variable {h:ah} {b:Nat} {pre post:List AV} {L:List Int} {e:TypeId} {ro:Bool} {o t j x:Nat}
def MV (L:List Int) (d s n:Nat):List Int:=if d+n≤L.length∧s+n≤L.length then L.take d++(L.drop s).take n++L.drop (d+n) else L
theorem E1 (L:List Int) (d s n:Nat):(MV L d s n).length=L.length:=by
 unfold MV
 split
 · simp only[List.length_append,List.length_take,List.length_drop];omega
 · rfl
theorem S_ {h:ah} {b:Nat} {o:aF} (y:Tidy h) (g:h.get b=some o):∃hw,Tidy hw∧hw.nx=h.nx∧hw.get b=none∧Has hw h∧∀i,i≠b→hw.get i=h.get i:=
 ⟨h.put b none,fun i x q=>by
  by_cases e:i=b
  · subst e;rw[ah.bx] at q;cases q
  · rw[ah.bf (Ne.symm e)] at q;exact y i x q,rfl,ah.bx _,fun i x q=>by
  by_cases e:i=b
  · subst e;rw[ah.bx] at q;cases q
  · rw[ah.bf (Ne.symm e)] at q;exact q,fun i e=>ah.bf (Ne.symm e) _⟩
end
theorem l! {p:Prop} (h:p:=by first | omega | (simp only[List.length_set,List.length_replicate,E1]<;>omega)):p:=h
def rJ:Code:=(Tryz.f30.body).getD .skip
theorem pc:Tryz.f30.body=some rJ:=by kernel_rfl
def cR (n:Int):Bool:=(bif (decide ((-1000000000000)≤n)) then (decide (n≤1000000000000)) else false)
theorem yu {d:Nat} {h:ah} (n:Int) (dL:Tidy h):dJ (d+1) (.fn 30) [(Zi n)] h= .ret (AV.bool (cR n)) h:=by
 rcases Bool.eq_false_or_eq_true (decide ((-1000000000000)≤n)) with f0 | f0
 · have kK:=of_decide_eq_true f0
   have e:cR n=(decide (n≤1000000000000)):=by simp only[cR,f0,ar,ao]
   rw[e]
   exact aA rfl (aX Tryz.func30 pc rfl (.inr rfl) (pk (d) _ _ h _ h (CN 2<|VV (cq 2 false true .i64 n (-1000000000000))<|CC<|BC f0<|BV f0 (yq 2 false true .i64 n 1000000000000)<|VV (Bu (decide (n≤1000000000000)) false f0)<|CC<|ZZ) k!) k!) (Has.refl _) rfl
 · have kK:=of_decide_eq_false f0
   have e:cR n=false:=by simp only[cR,f0,ar,ao]
   rw[e]
   exact aA rfl (aX Tryz.func30 pc rfl (.inr rfl) (pk (d) _ _ h _ h (CN 2<|VV (cq 2 false true .i64 n (-1000000000000))<|CC<|BB f0<|BV f0 (FT false f0)<|CC<|ZZ) k!) k!) (Has.refl _) rfl
end
end Go.Proofs.aP
