import Derived.Test.YtjpijdaopopeeaaGreatA7
import Derived.Test.YtjpijdaopopeeaaGreatEnv
namespace Go.Proofs.Bench
open Go.Proofs Ab
set_option maxRecDepth 100000
set_option maxHeartbeats 4000000
set_option linter.unusedVariables false
set_option linter.unusedSimpArgs false
theorem nb_f {b:Bool} (h:b=true):(!b)=false:=by rw[h];rfl
theorem nb_t {b:Bool} (h:b=false):(!b)=true:=by rw[h];rfl
theorem ieql (t:TypeId) (c d:Bool) (k:IntKind) (a b:Int):binK env .eql t c d (some (.int k a)) (some (.int k b))=some (.bool (decide (a=b))):=bin_eql t c d k a b
theorem ineq (t:TypeId) (c d:Bool) (k:IntKind) (a b:Int):binK env .neq t c d (some (.int k a)) (some (.int k b))=some (.bool (!decide (a=b))):=bin_neq t c d k a b
theorem ilss (t:TypeId) (c d:Bool) (k:IntKind) (a b:Int):binK env .lss t c d (some (.int k a)) (some (.int k b))=some (.bool (decide (a<b))):=bin_lss t c d k a b
theorem ileq (t:TypeId) (c d:Bool) (k:IntKind) (a b:Int):binK env .leq t c d (some (.int k a)) (some (.int k b))=some (.bool (decide (a≤b))):=bin_leq t c d k a b
theorem igtr (t:TypeId) (c d:Bool) (k:IntKind) (a b:Int):binK env .gtr t c d (some (.int k a)) (some (.int k b))=some (.bool (decide (b<a))):=bin_gtr t c d k a b
theorem igeq (t:TypeId) (c d:Bool) (k:IntKind) (a b:Int):binK env .geq t c d (some (.int k a)) (some (.int k b))=some (.bool (decide (b≤a))):=bin_geq t c d k a b
theorem seql (t:TypeId) (c d:Bool) (a b:List UInt8):binK env .eql t c d (some (.str a)) (some (.str b))=some (.bool (decide (a=b))):=bin_seql t c d a b
theorem sneq (t:TypeId) (c d:Bool) (a b:List UInt8):binK env .neq t c d (some (.str a)) (some (.str b))=some (.bool (!decide (a=b))):=bin_sneq t c d a b
theorem iadd (t:TypeId) (c d:Bool) {k:IntKind} {a b z:Int} (h:k.wrap (a+b)=z):binK env .add t c d (some (.int k a)) (some (.int k b))=some (.int k z):=bin_add_ok h
theorem isub (t:TypeId) (c d:Bool) {k:IntKind} {a b z:Int} (h:k.wrap (a - b)=z):binK env .sub t c d (some (.int k a)) (some (.int k b))=some (.int k z):=bin_sub_ok h
theorem imul (t:TypeId) (c d:Bool) {k:IntKind} {a b z:Int} (h:k.wrap (a*b)=z):binK env .mul t c d (some (.int k a)) (some (.int k b))=some (.int k z):=bin_mul_ok h
theorem lown (t:TypeId) (o:Nat) (v:AV) {h:Heap} {i:Nat} {cs:List AV} {e:TypeId} {ro:Bool} (hg:h.get i=some (.cells cs e ro)) (hv:partT env t cs o=some v):loadA env h t (.ptr i o)=some v:=load_own hg hv
theorem wrap_i64n {a:Nat} (h:a<9223372036854775808):IntKind.i64.wrap (a:Int)=(a:Int):=wrap_i64 (by omega) (by omega)
theorem nadd (t:TypeId) (c d:Bool) (a b:Nat) (h:a+b<9223372036854775808):binK env .add t c d (some (.int .i64 (a:Int))) (some (.int .i64 (b:Int)))=some (.int .i64 ((a+b:Nat):Int)):=bin_add_ok (by rw[show (a:Int)+b=((a+b:Nat):Int) by omega];exact wrap_i64n h)
theorem pk (d:Nat) (c:Code) (ts:List AV) (h:Heap) (e:AEx) (h':Heap) {al:List Ans} {ps:List Prop} (k:Pk al [] ps) (hr:run env (cal d) 300 c ⟨ts,h,[],.no⟩ al []= .at e ⟨endTs (run env (cal d) 300 c ⟨ts,h,[],.no⟩ al []),h',[],.no⟩ [] ps):Ev env (cal d) c ⟨ts,h,[],.no⟩ e ⟨endTs (run env (cal d) 300 c ⟨ts,h,[],.no⟩ al []),h',[],.no⟩:=by_pk k hr
theorem nwB {h:Heap} (y:Tidy h) (o:AObj):∃h',h.new o=some h'∧Tidy h'∧h'.nx=h.nx+1∧h'.get h.nx=some o∧Has h h':=by
 obtain ⟨h',n⟩:=new_ex (h:=h) o
 exact ⟨h',n,new_tidy y n,new_nx n,new_get n,new_has y n⟩
theorem stoB {h:Heap} {t e:TypeId} {i o n:Nat} {cs N:List AV} {v:AV} (y:Tidy h) (gg:h.get i=some (.cells cs e false)) (hs:sizeT env t=some n) (hv:v.cells.length=n) (hl:Nat.ble (o+n) cs.length=true) (hN:setFrom cs o v.cells=N) (hk:v.cells.all AV.scalar=true):∃h',storeA env h t (.ptr i o) v=some h'∧Tidy h'∧h'.nx=h.nx∧h'.get i=some (.cells N e false)∧Kept i h h':=by
 obtain ⟨h',s⟩:=store_ex (E:=env) gg hs hv (Nat.le_of_ble_eq_true hl) hk
 exact ⟨h',s,store_tidy y s gg,store_nx s gg,by rw[←hN];exact store_get y s gg,Kept.store y s gg⟩
theorem stwB {h:Heap} {t e:TypeId} {i n:Nat} {cs L:List AV} (y:Tidy h) (gg:h.get i=some (.cells cs e false)) (hs:sizeT env t=some n) (hv:L.length=n) (hc:cs.length=n) (hk:L.all AV.scalar=true):∃h',storeA env h t (.ptr i 0) (.agg L)=some h'∧Tidy h'∧h'.nx=h.nx∧h'.get i=some (.cells L e false)∧Kept i h h':=
 stoB y gg hs hv (by rw[hc,Nat.zero_add,Nat.ble_eq];exact Nat.le_refl n) (by
  show setFrom cs 0 L=L
  apply List.ext_getElem?
  intro k
  rw[setFrom_get]
  split
  · rfl
  · rw[List.getElem?_eq_none (by omega),List.getElem?_eq_none (by omega)]) hk
structure Rk (f:List Ans→List Ans) (ps:List Prop):Prop where
 ok:Conj ps
section
variable {f:List Ans→List Ans} {ps:List Prop}
end
section
variable {f:List Ans→List Ans} {ps:List Prop}
theorem Rh {P:Prop} (h:P) (k:Rk f ps):Rk f (P::ps):=⟨⟨h,k.ok⟩⟩
end
theorem k! {p:Prop} (h:p:=by kernel_rfl):p:=h
theorem o! {p:Prop} (h:p:=by omega):p:=h
theorem nbf {b:Bool} (h:(!b)=false):b=true:=by cases b;cases h;rfl
theorem nbt {b:Bool} (h:(!b)=true):b=false:=by cases b;rfl;cases h
theorem d! {p:Prop} (h:p:=by first | assumption | exact nb_f (by assumption) | exact nb_t (by assumption) | exact nbf (by assumption) | exact nbt (by assumption) | exact dT (by omega) | exact dF (by omega) | exact nT (by omega) | exact nF (by omega)):p:=h
theorem _root_.Go.Ab.Has.of_kept {h0 h h':Heap} {b:Nat} (a:Has h0 h) (k:Kept b h h') (y:Tidy h0) (hb:h0.nx≤b):Has h0 h':=fun i x g=>by
 have:=y i x g
 exact k i x (by omega) (a i x g)
class RowT (α:Type) extends Inhabited α where
 c:α→List AV
 n:Nat
 e:TypeId
 len:∀x,(c x).length=n
 ok:Heap→α→Prop
 mono:∀{h h':Heap} {x:α},Has h h'→ok h x→ok h' x
 size:sizeT env e=some n
 agg:isAggT env e=some true
 pos:0<n
def _root_.List.g {α:Type} [Inhabited α] (l:List α) (i:Nat):α:=l.getD i default
structure RowsAt {α:Type} [RowT α] (h:Heap) (v:AV) (l:List α):Prop where
 at_:SliceAt env h (RowT.e α) (RowT.n α) v l.length (l.flatMap RowT.c)
 known:v= .nilslice∨v= .zslice∨∃p o m c b,v= .slice p o m c b∧(b=true→0<c)
 oks:∀x∈l,RowT.ok h x
theorem flatMap_len {α β:Type} {size:Nat} {f:α→List β} (hf:∀x,(f x).length=size) (l:List α):(l.flatMap f).length=l.length*size:=by
 induction l with
 | nil=>simp
 | cons x l ih=>rw[List.flatMap_cons,List.length_append,ih,hf,List.length_cons,Nat.succ_mul];omega
section
variable {α:Type} [RowT α] {h:Heap} {v:AV} {l:List α}
theorem RowsAt.has {h':Heap} (x:RowsAt h v l) (a:Has h h'):RowsAt h' v l:=⟨x.at_.has a,x.known,fun y hy=>RowT.mono a (x.oks y hy)⟩
theorem g_mem {i:Nat} (hi:i<l.length):l.g i∈l:=by
 rw[List.g,List.getD_eq_getElem?_getD,List.getElem?_eq_getElem hi];exact List.getElem_mem hi
theorem RowsAt.ok (x:RowsAt h v l) {i:Nat} (hi:i<l.length):RowT.ok h (l.g i):=x.oks _ (g_mem hi)
theorem RowsAt.small (x:RowsAt h v l):l.length<2^60:=x.at_.small
theorem RowsAt.len (x:RowsAt h v l):lenK (some (.slice (RowT.e α))) (some v)=some (.int .i64 (l.length:Nat)):=x.at_.lens
theorem RowsAt.scalar (x:RowsAt h v l):AV.scalar v=true:=by
 rcases x.known with rfl | rfl | ⟨p,o,m,c,b,rfl,_⟩<;>rfl
theorem flatMap_get {β:Type} {size:Nat} {f:α→List β} (hf:∀x,(f x).length=size):∀(l:List α) (i j:Nat) (_:i<l.length),j<size→(l.flatMap f)[i*size+j]? =(f (l.g i))[j]?
 | [],i,j,hi,_=>by cases hi
 | x::l,0,j,_,hj=>by
   rw[List.flatMap_cons,Nat.zero_mul,Nat.zero_add,List.getElem?_append_left (by rw[hf];exact hj)];rfl
 | x::l,i+1,j,hi,hj=>by
   have e:(i+1)*size+j -(f x).length=i*size+j:=by rw[hf,Nat.succ_mul];omega
   rw[List.flatMap_cons,List.getElem?_append_right (by rw[hf,Nat.succ_mul];omega),e,flatMap_get hf l i j (by simpa using hi) hj];rfl
theorem RowsAt.elem (x:RowsAt h v l) {i:Nat} (hi:i<l.length):∃p q,idxK env (some (.slice (RowT.e α))) (some v) (some (.int .i64 ((i:Nat):Int)))=some (.ptr p q):=by
 rcases x.at_.block with h0 | ⟨p,o,m,c,b,C,f,ro,h1,_,h2,h3⟩
 · omega
 · subst h1
   have hm:m=l.length:=by
    have:=x.at_.lens
    rw[lenK_slice] at this
    simp only[Option.some.injEq,AV.int.injEq,true_and] at this
    omega
   exact ⟨p,o+i*RowT.n α,idxK_slice x.at_.size (by omega)⟩
theorem RowsAt.block (x:RowsAt h v l) {i p q:Nat} (hi:i<l.length) (hx:idxK env (some (.slice (RowT.e α))) (some v) (some (.int .i64 ((i:Nat):Int)))=some (.ptr p q)):
 ∃C f ro,h.get p=some (.cells C f ro)∧∀j,j<RowT.n α→C[q+j]? =(RowT.c (l.g i))[j]? :=by
 rcases x.at_.block with h0 | ⟨p',o,m,c,b,C,f,ro,h1,_,h2,h3⟩
 · omega
 · subst h1
   have hm:m=l.length:=by
    have:=x.at_.lens
    rw[lenK_slice] at this
    simp only[Option.some.injEq,AV.int.injEq,true_and] at this
    omega
   rw[idxK_slice x.at_.size (by omega)] at hx
   simp only[Option.some.injEq,AV.ptr.injEq] at hx
   obtain ⟨rfl,rfl⟩:=hx
   refine ⟨C,f,ro,h2,fun j hj=>?_⟩
   have e:=flatMap_get RowT.len l i j hi hj
   have hlt:i*RowT.n α+j<(l.flatMap RowT.c).length:=by
    rw[flatMap_len RowT.len]
    calc i*RowT.n α+j<i*RowT.n α+RowT.n α:=by omega
     _=(i+1)*RowT.n α:=by rw[Nat.succ_mul]
     _≤l.length*RowT.n α:=Nat.mul_le_mul_right _ hi
   rw[←e,Nat.add_assoc,h3 _ hlt]
theorem RowsAt.load (x:RowsAt h v l) {i p q:Nat} (hi:i<l.length) (hx:idxK env (some (.slice (RowT.e α))) (some v) (some (.int .i64 ((i:Nat):Int)))=some (.ptr p q)):loadA env h (RowT.e α) (.ptr p q)=some (.agg (RowT.c (l.g i))):=by
 obtain ⟨C,f,ro,h1,h2⟩:=x.block hi hx
 have hl:=RowT.len (l.g i)
 have hn:q+RowT.n α≤C.length:=by
  have h0:=RowT.pos (α:=α)
  have:=h2 (RowT.n α - 1) (by omega)
  rw[List.getElem?_eq_getElem (by omega:RowT.n α - 1<(RowT.c (l.g i)).length)] at this
  have:=(List.getElem?_eq_some_iff.1 this).1
  omega
 simp only[loadA,h1,partT,RowT.agg,RowT.size,hn,if_true]
 congr 2
 apply List.ext_getElem?
 intro j
 by_cases hj:j<RowT.n α
 · rw[List.getElem?_take_of_lt hj,List.getElem?_drop,h2 j hj]
 · rw[List.getElem?_eq_none (by rw[List.length_take];omega),List.getElem?_eq_none (by omega)]
theorem RowsAt.part (x:RowsAt h v l) {i p q j:Nat} {t:TypeId} {w:AV} (hi:i<l.length) (hx:idxK env (some (.slice (RowT.e α))) (some v) (some (.int .i64 ((i:Nat):Int)))=some (.ptr p q)) (ht:isAggT env t=some false) (hw:(RowT.c (l.g i))[j]? =some w):loadA env h t (.ptr p (q+j))=some w:=by
 obtain ⟨C,f,ro,h1,h2⟩:=x.block hi hx
 have hj:=(List.getElem?_eq_some_iff.1 hw).1
 rw[RowT.len] at hj
 simp only[loadA,h1,partT,ht]
 rw[h2 j hj,hw]
theorem RowsAt.pre (x:RowsAt h v l) {t:TypeId} (ht:env.P.underlying t=some (.slice (RowT.e α))) {i:Nat} (hi:i<l.length):∃r,sliceA env t v none (some (.int .i64 ((i:Nat):Int))) none=some r∧RowsAt h r (l.take i):=by
 rcases x.at_.block with h0 | ⟨p,o,m,c,b,C,f,ro,h1,hc,h2,h3⟩
 · omega
 · subst h1
   have hm:m=l.length:=by
    have:=x.at_.lens
    rw[lenK_slice] at this
    simp only[Option.some.injEq,AV.int.injEq,true_and] at this
    omega
   subst hm
   have hb:b=true→0<c:=fun e=>by omega
   refine ⟨.slice p o i c b,?_,⟨⟨x.at_.size,flatMap_len RowT.len _,by have:=x.small;simp;omega,?_,.inr ⟨p,o,i,c,b,C,f,ro,rfl,by omega,h2,fun j hj=>?_⟩⟩,.inr (.inr ⟨_,_,_,_,_,rfl,hb⟩),fun y hy=>x.oks y (List.mem_of_mem_take hy)⟩⟩
   · simp only[sliceA,ht,x.at_.size,hc,if_true,bounds_ok (len:=l.length) (cap:=c) none (some (.int .i64 ((i:Nat):Int))) (.inr ⟨rfl,rfl⟩) (.inl rfl) (Nat.zero_le i) (by omega)]
     rw[if_neg (by omega)]
     simp
   · rw[List.length_take,Nat.min_eq_left (by omega)];exact lenK_slice _ _ _ _ _ _
   · rw[flatMap_len RowT.len,List.length_take,Nat.min_eq_left (by omega)] at hj
     have hlt:j<(l.flatMap RowT.c).length:=by
      rw[flatMap_len RowT.len];exact Nat.lt_of_lt_of_le hj (Nat.mul_le_mul_right _ (by omega))
     rw[h3 j hlt]
     have e:l=l.take i++l.drop i:=(List.take_append_drop i l).symm
     conv=>lhs;rw[e,List.flatMap_append]
     rw[List.getElem?_append_left]
     rw[flatMap_len RowT.len,List.length_take,Nat.min_eq_left (by omega)];exact hj
def OptLoop {ρ:Type} (call:CallF) (b:Code) (s:St) (ex:AEx) (hh:Heap) (tn:(Nat→AV)→List AV) (tr:ρ→(Nat→AV)→List AV):Option ρ→Prop
 | none=>∃y hk,Ev env call (.loop b) s ex ⟨tn y,hk,[],.no⟩∧Grow hh hk
 | some r=>∃y hk,Ev env call (.loop b) s .ret ⟨tr r y,hk,[],.no⟩∧Grow hh hk
section
variable {ρ:Type} {call:CallF} {b:Code} {s:St} {ex:AEx} {hh hk:Heap} {tn:(Nat→AV)→List AV} {tr:ρ→(Nat→AV)→List AV}
theorem OptLoop.n {o:Option ρ} (e:o=none) (x:OptLoop call b s ex hh tn tr o):∃y hk,Ev env call (.loop b) s ex ⟨tn y,hk,[],.no⟩∧Grow hh hk:=by subst e;exact x
theorem OptLoop.r {o:Option ρ} {r:ρ} (e:o=some r) (x:OptLoop call b s ex hh tn tr o):∃y hk,Ev env call (.loop b) s .ret ⟨tr r y,hk,[],.no⟩∧Grow hh hk:=by subst e;exact x
theorem OptLoop.out {i:Nat} {L:List AV} {o:Option ρ} (e:o=none) (ev:Ev env call b s (.exit i) ⟨L,hk,[],.no⟩) (G:Grow hh hk) (hl:L=tn fun k=>L.getD k AV.undef):OptLoop call b s (.exit i) hh tn tr o:=by
 subst e
 obtain ⟨y,q⟩:=junk (Ev.out ev) hl
 exact ⟨y,hk,q,G⟩
theorem OptLoop.ret {L:List AV} {o:Option ρ} (r:ρ) (e:o=some r) (ev:Ev env call b s .ret ⟨L,hk,[],.no⟩) (G:Grow hh hk) (hl:L=tr r fun k=>L.getD k AV.undef):OptLoop call b s ex hh tn tr o:=by
 subst e
 obtain ⟨y,q⟩:=junk (tmpl:=tr r) (Ev.ret ev) hl
 exact ⟨y,hk,q,G⟩
theorem OptLoop.round {L:List AV} {o o':Option ρ} (e:o=o') (ev:Ev env call b s .normal ⟨L,hk,[],.no⟩) (G:Grow hh hk) (tin:(Nat→AV)→List AV) (hl:L=tin fun k=>L.getD k AV.undef) (ih:∀x,OptLoop call b ⟨tin x,hk,[],.no⟩ ex hk tn tr o'):OptLoop call b s ex hh tn tr o:=by
 subst e
 have q:=ih fun k=>L.getD k AV.undef
 rw[←hl] at q
 cases o with
 | none=>obtain ⟨y,h2,x,g⟩:=q;exact ⟨y,h2,Ev.loop ev x,G.trans g⟩
 | some r=>obtain ⟨y,h2,x,g⟩:=q;exact ⟨y,h2,Ev.loop ev x,G.trans g⟩
end
def ValLoop {σ:Type} (call:CallF) (b:Code) (s:St) (ex:AEx) (hh:Heap) (tn:σ→(Nat→AV)→List AV) (r:σ):Prop:=∃y hk,Ev env call (.loop b) s ex ⟨tn r y,hk,[],.no⟩∧Grow hh hk
section
variable {σ:Type} {call:CallF} {b:Code} {s:St} {ex:AEx} {hh hk:Heap} {tn:σ→(Nat→AV)→List AV}
theorem ValLoop.out {i:Nat} {L:List AV} {o:σ} (r:σ) (e:o=r) (ev:Ev env call b s (.exit i) ⟨L,hk,[],.no⟩) (G:Grow hh hk) (hl:L=tn r fun k=>L.getD k AV.undef):ValLoop call b s (.exit i) hh tn o:=by
 subst e
 obtain ⟨y,q⟩:=junk (tmpl:=tn o) (Ev.out ev) hl
 exact ⟨y,hk,q,G⟩
theorem ValLoop.round {L:List AV} {o o':σ} (e:o=o') (ev:Ev env call b s .normal ⟨L,hk,[],.no⟩) (G:Grow hh hk) (tin:(Nat→AV)→List AV) (hl:L=tin fun k=>L.getD k AV.undef) (ih:∀x,ValLoop call b ⟨tin x,hk,[],.no⟩ ex hk tn o'):ValLoop call b s ex hh tn o:=by
 subst e
 have q:=ih fun k=>L.getD k AV.undef
 rw[←hl] at q
 obtain ⟨y,h2,x,g⟩:=q;exact ⟨y,h2,Ev.loop ev x,G.trans g⟩
end
theorem RowsAt.same {α:Type} [RowT α] {h:Heap} {v:AV} {l:List α} (x:RowsAt h v l) (n:Nat):AV.same (n+1) v v=true:=by
 rcases x.known with rfl | rfl | ⟨p,o,m,c,b,rfl,_⟩
 · rfl
 · rfl
 · exact same_slice n p o m c b
def AllS (cs:List AV):Prop:=∀n,listAll2 (AV.same (n+1)) cs cs=true
theorem sn_:AllS []:=fun _=>rfl
theorem sc_ {x:AV} {cs:List AV} (hx:∀n,AV.same (n+1) x x=true) (hc:AllS cs):AllS (x::cs):=fun n=>by
 show (AV.same (n+1) x x&&listAll2 (AV.same (n+1)) cs cs)=true
 rw[hx,hc];rfl
theorem same_agg (n:Nat) {cs:List AV} (h:AllS cs):AV.same (n+2) (.agg cs) (.agg cs)=true:=h n
theorem idx_str {s:List UInt8} {j:Nat} (hj:j<s.length):idxV env (some .string) (some (.str s)) (some (.int .i64 ((j:Nat):Int)))=some (.int .u8 (((s.g j).toNat:Nat):Int)):=by
 refine idxV_str ?_
 rw[List.g,List.getD_eq_getElem?_getD,List.getElem?_eq_getElem hj];rfl
end
structure Gauge where
 name:List UInt8
 acc:Int
 drift:Int
 since:Int
@[reducible] def Gauge.c (x:Gauge):List AV:=[.str x.name,.int .i64 x.acc,.int .i64 x.drift,.int .i64 x.since]
def Gauge.ok (h:Heap) (x:Gauge):Prop:=x.name.length<2^60
instance:RowT Gauge where
 default:=⟨[],0,0,0⟩
 c:=Gauge.c
 n:=4
 e:=61
 len _:=rfl
 ok:=Gauge.ok
 mono a o:=o
 size:=by kernel_rfl
 agg:=by kernel_rfl
 pos:=by decide
structure Quantity where
 name:List UInt8
 low:Int
 high:Int
 rise:Int
 fall:Int
 bad:Int
 gaugesV:AV
 gauges:List Gauge
@[reducible] def Quantity.c (x:Quantity):List AV:=[.str x.name,.int .i64 x.low,.int .i64 x.high,.int .i64 x.rise,.int .i64 x.fall,.int .i64 x.bad,x.gaugesV]
def Quantity.ok (h:Heap) (x:Quantity):Prop:=x.name.length<2^60∧RowsAt h x.gaugesV x.gauges
instance:RowT Quantity where
 default:=⟨[],0,0,0,0,0,.nilslice,[]⟩
 c:=Quantity.c
 n:=7
 e:=41
 len _:=rfl
 ok:=Quantity.ok
 mono a o:=⟨o.1,(o.2).has a⟩
 size:=by kernel_rfl
 agg:=by kernel_rfl
 pos:=by decide
structure Measure where
 name:List UInt8
 crew:List UInt8
 rank:Int
 lag:Int
 takes:Int
@[reducible] def Measure.c (x:Measure):List AV:=[.str x.name,.str x.crew,.int .i64 x.rank,.int .i64 x.lag,.int .i64 x.takes]
def Measure.ok (h:Heap) (x:Measure):Prop:=x.name.length<2^60∧x.crew.length<2^60
instance:RowT Measure where
 default:=⟨[],[],0,0,0⟩
 c:=Measure.c
 n:=5
 e:=43
 len _:=rfl
 ok:=Measure.ok
 mono a o:=⟨o.1,o.2⟩
 size:=by kernel_rfl
 agg:=by kernel_rfl
 pos:=by decide
structure Alarm where
 quantity:Int
 level:Int
 limit:Int
 measure:Int
@[reducible] def Alarm.c (x:Alarm):List AV:=[.int .i64 x.quantity,.int .i64 x.level,.int .i64 x.limit,.int .i64 x.measure]
def Alarm.ok (h:Heap) (x:Alarm):Prop:=True
instance:RowT Alarm where
 default:=⟨0,0,0,0⟩
 c:=Alarm.c
 n:=4
 e:=59
 len _:=rfl
 ok:=Alarm.ok
 mono a o:=o
 size:=by kernel_rfl
 agg:=by kernel_rfl
 pos:=by decide
structure Plan where
 quantitiesV:AV
 quantities:List Quantity
 measuresV:AV
 measures:List Measure
 alarmsV:AV
 alarms:List Alarm
@[reducible] def Plan.c (x:Plan):List AV:=[x.quantitiesV,x.measuresV,x.alarmsV]
def Plan.ok (h:Heap) (x:Plan):Prop:=RowsAt h x.quantitiesV x.quantities∧RowsAt h x.measuresV x.measures∧RowsAt h x.alarmsV x.alarms
instance:RowT Plan where
 default:=⟨.nilslice,[],.nilslice,[],.nilslice,[]⟩
 c:=Plan.c
 n:=3
 e:=26
 len _:=rfl
 ok:=Plan.ok
 mono a o:=⟨(o.1).has a,(o.2.1).has a,(o.2.2).has a⟩
 size:=by kernel_rfl
 agg:=by kernel_rfl
 pos:=by decide
theorem nT_ {p:Prop} [Decidable p] (h:(!decide p)=true):¬p:=by intro q;rw[decide_eq_true q] at h;cases h
theorem nF_ {p:Prop} [Decidable p] (h:(!decide p)=false):p:=by by_cases q:p;exact q;rw[decide_eq_false q] at h;cases h
theorem append_nilC {h:Heap} {e s xt:TypeId} {xd:TypeDesc} {tys:Array TypeId} {bytes:Nat} {z x:AV} {M:List AV} (h0:tys[0]? =some s) (h1:tys[1]? =some xt) (hs:env.P.underlying s=some (.slice e)) (hx:env.P.underlying xt=some xd) (hi:isIntD xd=false) (hz1:sizeT env e=some 1) (hb:bytesT env e=some bytes) (hzz:zeroT env e=some z) (hz:z.cells.length=1) (h8:bytes≤63) (hlen:lenA x=some M.length) (hf:firstA h 1 M.length x=some M) (hsc:M.all AV.scalar=true) (hm:M≠ []) (hl:M.length≤1073741824):
 ∃h',appendA env h tys .nilslice x=some (.slice h.nx 0 M.length M.length true,h')∧h.new (.cells M e false)=some h':=by
 obtain ⟨h',n⟩:=new_ex (h:=h) (.cells M e false)
 refine ⟨h',?_,n⟩
 have hn:¬M.length=0:=fun e=>hm (List.length_eq_zero_iff.1 e)
 have hbig:(4*M.length+4096)*(bytes+1)≤1099511627776:=Nat.le_trans (Nat.mul_le_mul (show 4*M.length+4096≤17179869184 by omega) (show bytes+1≤64 by omega)) (by decide)
 simp only[appendA,h0,h1,hs,hx,hi,hz1,hb,hlen,hf,hzz,hz,hsc,Nat.mul_one,hn,hbig,n,if_true,if_false,and_self,Bool.false_eq_true]
theorem append_ownC {h:Heap} {e s xt:TypeId} {xd:TypeDesc} {tys:Array TypeId} {bytes p:Nat} {op:Bool} {z x:AV} {L M:List AV} (y:Tidy h) (h0:tys[0]? =some s) (h1:tys[1]? =some xt) (hs:env.P.underlying s=some (.slice e)) (hx:env.P.underlying xt=some xd) (hi:isIntD xd=false) (hz1:sizeT env e=some 1) (hb:bytesT env e=some bytes) (hzz:zeroT env e=some z) (hz:z.cells.length=1) (h8:bytes≤63) (hlen:lenA x=some M.length) (hf:firstA h 1 M.length x=some M) (hsc:M.all AV.scalar=true) {n:Nat} (hn:L.length=n) (hm:M≠ []) (hl:n+M.length≤1073741824)
 (hg:h.get p=some (.cells L e false)):
 ∃h',appendA env h tys (.slice p 0 n n op) x=some (.slice h.nx 0 (n+M.length) (n+M.length) true,h')∧Tidy h'∧h'.nx=h.nx+1∧Kept p h h'∧h'.get h.nx=some (.cells (L++M) e false):=by
 have hp:=y _ _ hg
 subst hn
 have ec:(L.drop 0).take (L.length*1)++M=L++M:=by
  rw[List.drop_zero,Nat.mul_one,List.take_of_length_le (Nat.le_refl _)]
 have y2:Tidy (if op then h.put p none else h):=by
  cases op with
  | false=>exact y
  | true=>
    intro i x g
    show i<h.nx
    by_cases hi:i=p
    · subst hi;exact hp
    · rw[if_pos rfl,Heap.get_put_other (Ne.symm hi)] at g;exact y i x g
 have n2:(if op then h.put p none else h).nx=h.nx:=by cases op<;>rfl
 obtain ⟨h',n⟩:=new_ex (h:=if op then h.put p none else h) (.cells (L++M) e false)
 refine ⟨h',?_,new_tidy y2 n,by rw[new_nx n,n2],fun i x hi g=>?_,by rw[←n2];exact new_get n⟩
 · have hn:0<M.length:=List.length_pos_iff.2 hm
   have hbig:(4*(L.length+M.length)+4096)*(bytes+1)≤1099511627776:=Nat.le_trans (Nat.mul_le_mul (show 4*(L.length+M.length)+4096≤17179869184 by omega) (show bytes+1≤64 by omega)) (by decide)
   have hc:¬L.length+M.length≤L.length:=by omega
   simp only[appendA,h0,h1,hs,hx,hi,hz1,hb,hlen,hf,hzz,hz,hsc,hg,hc,if_true,if_false,Bool.false_eq_true,Nat.mul_one]
   rw[if_pos ⟨trivial,trivial,trivial⟩,if_pos ⟨hbig,by omega,fun _=>⟨trivial,by omega⟩⟩]
   rw[show List.take L.length (List.drop 0 L)=L by rw[List.drop_zero,List.take_length],n]
 · refine new_keep y2 n ?_
   cases op with
   | false=>exact g
   | true=>rw[if_pos rfl,Heap.get_put_other (Ne.symm hi)];exact g
def OwnC (e:TypeId) (h0 h:Heap) (z:AV) (L:List AV):Prop:=(z= .nilslice∧L=[])∨(L≠ []∧∃p op,z= .slice p 0 L.length L.length op∧h0.nx≤p∧h.get p=some (.cells L e false))
theorem OwnC.has {e:TypeId} {h0 h h':Heap} {z:AV} {L:List AV} (o:OwnC e h0 h z L) (a:Has h h'):OwnC e h0 h' z L:=o.imp id fun ⟨hn,p,op,e,h1,g⟩=>⟨hn,p,op,e,h1,a _ _ g⟩
theorem OwnC.app {e s xt:TypeId} {xd:TypeDesc} {h0 h:Heap} {tys:Array TypeId} {bytes:Nat} {z0 z x:AV} {L M:List AV} (y:Tidy h) (y0:Tidy h0) (a:Has h0 h) (hle:h0.nx≤h.nx) (o:OwnC e h0 h z L) (t0:tys[0]? =some s) (t1:tys[1]? =some xt) (hs:env.P.underlying s=some (.slice e)) (hx:env.P.underlying xt=some xd) (hi:isIntD xd=false) (hz1:sizeT env e=some 1) (hb:bytesT env e=some bytes) (hzz:zeroT env e=some z0) (hz:z0.cells.length=1) (h8:bytes≤63) (hlen:lenA x=some M.length) (hf:firstA h 1 M.length x=some M) (hsc:M.all AV.scalar=true) (hm:M≠ []) (hl:L.length+M.length≤1073741824):
 ∃z' h',appendA env h tys z x=some (z',h')∧Tidy h'∧h.nx≤h'.nx∧Has h0 h'∧OwnC e h0 h' z' (L++M):=by
 rcases o with ⟨rfl,rfl⟩ | ⟨hn,p,op,rfl,hp,hg⟩
 · obtain ⟨h',e1,n⟩:=append_nilC (h:=h) t0 t1 hs hx hi hz1 hb hzz hz h8 hlen hf hsc hm (by simpa using hl)
   have:=new_nx n
   exact ⟨_,h',e1,new_tidy y n,by omega,a.trans (new_has y n),.inr ⟨by simpa using hm,h.nx,true,by simp,hle,new_get n⟩⟩
 · obtain ⟨h',e1,y1,z1,k1,g1⟩:=append_ownC (op:=op) y t0 t1 hs hx hi hz1 hb hzz hz h8 hlen hf hsc rfl hm hl hg
   exact ⟨_,h',e1,y1,by omega,Has.of_kept a k1 y0 hp,.inr ⟨by simp [hn],h.nx,true,by rw[List.length_append],hle,g1⟩⟩
theorem one_len {i:Nat} {b:Bool} {v:AV}:lenA (.slice i 0 1 1 b)=some [v].length:=rfl
theorem one_first {h:Heap} {i:Nat} {b:Bool} {v:AV} {e:TypeId} {ro:Bool} (hg:h.get i=some (.cells [v] e ro)):firstA h 1 [v].length (.slice i 0 1 1 b)=some [v]:=by
 simp [firstA,hg]
theorem OwnC.le {e:TypeId} {h0 h1 h:Heap} {z:AV} {L:List AV} (o:OwnC e h1 h z L) (hn:h0.nx≤h1.nx):OwnC e h0 h z L:=o.imp id fun ⟨hne,p,op,e,h1,g⟩=>⟨hne,p,op,e,by omega,g⟩
def zs (l:List Int):List AV:=l.map (AV.int .i64)
theorem zs_len (l:List Int):(zs l).length=l.length:=by simp [zs]
theorem zs_snoc (l:List Int) (x:Int):zs (l++[x])=zs l++[AV.int .i64 x]:=by simp [zs]
theorem zs_get (l:List Int) {i:Nat} (hi:i<l.length):(zs l)[i]? =some (.int .i64 (l.g i)):=by
 rw[zs,List.getElem?_map,List.getElem?_eq_getElem hi,List.g,List.getD_eq_getElem?_getD,List.getElem?_eq_getElem hi];rfl
structure ZsAt (h:Heap) (e:TypeId) (v:AV) (l:List Int):Prop where
 at_:SliceAt env h e 1 v l.length (zs l)
 agg:isAggT env e=some false
theorem ZsAt.has {h h':Heap} {e:TypeId} {v:AV} {l:List Int} (x:ZsAt h e v l) (a:Has h h'):ZsAt h' e v l:=⟨x.at_.has a,x.agg⟩
theorem ZsAt.small {h:Heap} {e:TypeId} {v:AV} {l:List Int} (x:ZsAt h e v l):l.length<2^60:=x.at_.small
theorem ZsAt.len {h:Heap} {e:TypeId} {v:AV} {l:List Int} (x:ZsAt h e v l):lenK (some (.slice e)) (some v)=some (.int .i64 (l.length:Nat)):=x.at_.lens
theorem ZsAt.elem {h:Heap} {e:TypeId} {v:AV} {l:List Int} (x:ZsAt h e v l) {i:Nat} (hi:i<l.length):∃p q,idxK env (some (.slice e)) (some v) (some (.int .i64 ((i:Nat):Int)))=some (.ptr p q)∧loadA env h e (.ptr p q)=some (.int .i64 (l.g i)):=x.at_.elem x.agg (zs_get l hi)
theorem ZsAt.load {h:Heap} {e:TypeId} {v:AV} {l:List Int} (x:ZsAt h e v l) {i p q:Nat} (hi:i<l.length) (hx:idxK env (some (.slice e)) (some v) (some (.int .i64 ((i:Nat):Int)))=some (.ptr p q)):loadA env h e (.ptr p q)=some (.int .i64 (l.g i)):=by
 obtain ⟨p',q',h1,h2⟩:=x.elem hi
 rw[hx] at h1
 simp only[Option.some.injEq,AV.ptr.injEq] at h1
 obtain ⟨rfl,rfl⟩:=h1
 exact h2
theorem ZsAt.nil {h:Heap} {e:TypeId} (hs:sizeT env e=some 1) (ha:isAggT env e=some false):ZsAt h e .nilslice []:=⟨⟨hs,rfl,by decide,rfl,.inl rfl⟩,ha⟩
theorem OwnC.zs {e:TypeId} {h0 h:Heap} {z:AV} {l:List Int} (o:OwnC e h0 h z (zs l)) (hl:l.length<2^60) (hs:sizeT env e=some 1) (ha:isAggT env e=some false):ZsAt h e z l:=by
 rcases o with ⟨rfl,e0⟩ | ⟨hn,p,op,rfl,_,hg⟩
 · have:l=[]:=List.length_eq_zero_iff.1 (by have:=congrArg List.length e0;rwa [zs_len] at this)
   subst this
   exact ZsAt.nil hs ha
 · rw[zs_len]
   exact ⟨⟨hs,by rw[zs_len];omega,hl,rfl,.inr ⟨p,0,_,_,op,_,_,_,rfl,Nat.le_refl _,hg,fun j _=>by rw[Nat.zero_add]⟩⟩,ha⟩
theorem OwnC.zback {e:TypeId} {h0 h:Heap} {z:AV} {l:List Int} {n:Nat} (o:OwnC e h0 h z (Bench.zs l)) (v:AV.within h0.nx (n+1) z=true) (hs:sizeT env e=some 1) (ha:isAggT env e=some false):ZsAt h0 e z l:=by
 rcases o with ⟨rfl,e0⟩ | ⟨hn,p,op,rfl,hp,hg⟩
 · have:l=[]:=List.length_eq_zero_iff.1 (by have:=congrArg List.length e0;rwa [zs_len] at this)
   subst this
   exact ZsAt.nil hs ha
 · have:=of_decide_eq_true (show decide (p<h0.nx)=true from v)
   omega
theorem within1 {nx:Nat} {z:AV} {cs:List AV} (h:AV.within nx 20 (.tuple (z::cs))=true):AV.within nx (18+1) z=true:=by
 simp only[AV.within,List.all_cons,Bool.and_eq_true] at h
 exact h.1
theorem OwnC.app1 {e s xt:TypeId} {h0 h:Heap} {tys:Array TypeId} {bytes b:Nat} {z0 z:AV} {L:List Int} {v:Int} {f:TypeId} {ro op:Bool} (y:Tidy h) (y0:Tidy h0) (a:Has h0 h) (hle:h0.nx≤h.nx) (o:OwnC e h0 h z (Bench.zs L)) (hg:h.get b=some (.cells [.int .i64 v] f ro)) (hl:L.length≤1000000000) (t0:tys[0]? =some s) (t1:tys[1]? =some xt) (hs:env.P.underlying s=some (.slice e)) (hx:env.P.underlying xt=some (.slice e)) (hz1:sizeT env e=some 1) (hb:bytesT env e=some bytes) (hzz:zeroT env e=some z0) (hz:z0.cells.length=1) (h8:bytes≤63):
 ∃z' h',appendA env h tys z (.slice b 0 1 1 op)=some (z',h')∧Tidy h'∧h.nx≤h'.nx∧Has h0 h'∧OwnC e h0 h' z' (Bench.zs (L++[v])):=by
 rw[zs_snoc]
 exact OwnC.app y y0 a hle o t0 t1 hs hx rfl hz1 hb hzz hz h8 one_len (one_first hg) rfl (by simp) (by rw[zs_len];simp;omega)
def OwnLoop {σ:Type} (call:CallF) (b:Code) (s:St) (ex:AEx) (h:Heap) (e:TypeId) (tn:σ→AV→(Nat→AV)→List AV) (own:σ→List AV) (N:Nat) (r:σ):Prop:=∃z y hk,Ev env call (.loop b) s ex ⟨tn r z y,hk,[],.no⟩∧Grow h hk∧OwnC e h hk z (own r)∧(own r).length≤N
section
variable {σ:Type} {call:CallF} {b:Code} {s:St} {ex:AEx} {h hk:Heap} {e:TypeId} {tn:σ→AV→(Nat→AV)→List AV} {own:σ→List AV} {N:Nat}
theorem OwnLoop.out {i:Nat} {L:List AV} {o:σ} (r:σ) (z:AV) (e1:o=r) (ev:Ev env call b s (.exit i) ⟨L,hk,[],.no⟩) (G:Grow h hk) (oz:OwnC e h hk z (own r)) (ln:(own r).length≤N) (hl:L=tn r z fun k=>L.getD k AV.undef):OwnLoop call b s (.exit i) h e tn own N o:=by
 subst e1
 obtain ⟨y,q⟩:=junk (tmpl:=tn o z) (Ev.out ev) hl
 exact ⟨z,y,hk,q,G,oz,ln⟩
theorem OwnLoop.round {L:List AV} {o o':σ} (e1:o=o') (ev:Ev env call b s .normal ⟨L,hk,[],.no⟩) (tin:(Nat→AV)→List AV) (hl:L=tin fun k=>L.getD k AV.undef) (ih:∀x,OwnLoop call b ⟨tin x,hk,[],.no⟩ ex h e tn own N o'):OwnLoop call b s ex h e tn own N o:=by
 subst e1
 have q:=ih fun k=>L.getD k AV.undef
 rw[←hl] at q
 obtain ⟨z,y,h2,x,g,oz,ln⟩:=q;exact ⟨z,y,h2,Ev.loop ev x,g,oz,ln⟩
end
noncomputable def l_ints_body:Code:=(Tryz.f10.body).getD .skip
theorem l_ints_B:Tryz.f10.body=some l_ints_body:=by kernel_rfl
noncomputable def l_ints_lp0:Code:=(loopsIn l_ints_body).getD 0 .skip
def l_ints_l0 (a:List Int) (b:List Int):Nat→Nat→Option (Bool)
 | 0,_=>none
 | kq0+1,i0=>(bif (!decide ((a.g i0)=(b.g i0))) then some false else l_ints_l0 a b kq0 (i0+1))
theorem l_ints_l0_t {d:Nat} {h:Heap} (aV:AV) (bV:AV) (a:List Int) (b:List Int) (H0_0:ZsAt h 3 aV a) (H0_1:ZsAt h 3 bV b) (E0_0:a.length=b.length):∀(k_ i_:Nat) (_:i_+k_=a.length) (x:Nat→AV) (hh:Heap) (y_hh:Tidy hh) (a_hh:Has h hh),OptLoop (cal (d)) l_ints_lp0 ⟨(aV::bV::rx x 2 3 ((AV.int .i64 ((i_:Nat):Int))::rx x 6 20 [])),hh,[],.no⟩ (.exit 0) hh (fun y=>(aV::bV::rx y 2 24 [])) (fun r y=>(aV::bV::(y 2)::(y 3)::(AV.bool r)::rx y 5 21 [])) (l_ints_l0 a b k_ i_)
 | 0,i0,hik,x,hh,y_hh,a_hh=>by
   have s_H0_0:=H0_0.small
   have s_H0_1:=H0_1.small
   have ln1:lenK (some (.slice 3)) (some aV)=some (AV.int .i64 ((a.length:Nat):Int)):=(H0_0.has a_hh).len
   have q2:(decide (((i0:Nat):Int)<((a.length:Nat):Int)))=false:=d!
   have ev:=pk (d) l_ints_lp0 (aV::bV::rx x 2 3 ((AV.int .i64 ((i0:Nat):Int))::rx x 6 20 [])) hh (.exit 0) hh (CN 2<|VV ln1<|VV (ilss 3 false false .i64 ((i0:Nat):Int) ((a.length:Nat):Int))<|BB q2<|ZZ) k!
   exact OptLoop.out rfl ev (Grow.refl y_hh) k!
 | kq0+1,i0,hik,x,hh,y_hh,a_hh=>by
   have s_H0_0:=H0_0.small
   have s_H0_1:=H0_1.small
   rcases Bool.eq_false_or_eq_true (!decide ((a.g i0)=(b.g i0))) with f1 | f1
   · have n_f1:=nT_ f1
     have ln1:lenK (some (.slice 3)) (some aV)=some (AV.int .i64 ((a.length:Nat):Int)):=(H0_0.has a_hh).len
     have q2:(decide (((i0:Nat):Int)<((a.length:Nat):Int)))=true:=d!
     obtain ⟨p4,q5,ix3_,_⟩:=(H0_0.has a_hh).elem (i:=i0) o!
     have ix3:idxK env (some (.slice 3)) (some aV) (some (AV.int .i64 ((i0:Nat):Int)))=some (AV.ptr p4 q5):=ix3_
     have ld6:loadA env hh 3 (AV.ptr p4 q5)=some (AV.int .i64 (a.g i0)):=(H0_0.has a_hh).load o! ix3_
     obtain ⟨p8,q9,ix7_,_⟩:=(H0_1.has a_hh).elem (i:=i0) o!
     have ix7:idxK env (some (.slice 3)) (some bV) (some (AV.int .i64 ((i0:Nat):Int)))=some (AV.ptr p8 q9):=ix7_
     have ld10:loadA env hh 3 (AV.ptr p8 q9)=some (AV.int .i64 (b.g i0)):=(H0_1.has a_hh).load o! ix7_
     have ev:=pk (d) l_ints_lp0 (aV::bV::rx x 2 3 ((AV.int .i64 ((i0:Nat):Int))::rx x 6 20 [])) hh .ret hh (CN 2<|VV ln1<|VV (ilss 3 false false .i64 ((i0:Nat):Int) ((a.length:Nat):Int))<|BB q2<|CN 2<|VV ix3<|MM ld6<|CN 2<|VV ix7<|MM ld10<|VV (ineq 3 false false .i64 (a.g i0) (b.g i0))<|HH ld6<|HH (show AV.same 20 (AV.int .i64 (a.g i0)) (AV.int .i64 (a.g i0))=true from same_int 19 _ _)<|HH ld10<|HH (show AV.same 20 (AV.int .i64 (b.g i0)) (AV.int .i64 (b.g i0))=true from same_int 19 _ _)<|BB f1<|CC<|ZZ) k!
     exact OptLoop.ret false (by simp only[l_ints_l0,f1,cond_true,cond_false]) ev (Grow.refl y_hh) k!
   · have n_f1:=nF_ f1
     have ln1:lenK (some (.slice 3)) (some aV)=some (AV.int .i64 ((a.length:Nat):Int)):=(H0_0.has a_hh).len
     have q2:(decide (((i0:Nat):Int)<((a.length:Nat):Int)))=true:=d!
     obtain ⟨p4,q5,ix3_,_⟩:=(H0_0.has a_hh).elem (i:=i0) o!
     have ix3:idxK env (some (.slice 3)) (some aV) (some (AV.int .i64 ((i0:Nat):Int)))=some (AV.ptr p4 q5):=ix3_
     have ld6:loadA env hh 3 (AV.ptr p4 q5)=some (AV.int .i64 (a.g i0)):=(H0_0.has a_hh).load o! ix3_
     obtain ⟨p8,q9,ix7_,_⟩:=(H0_1.has a_hh).elem (i:=i0) o!
     have ix7:idxK env (some (.slice 3)) (some bV) (some (AV.int .i64 ((i0:Nat):Int)))=some (AV.ptr p8 q9):=ix7_
     have ld10:loadA env hh 3 (AV.ptr p8 q9)=some (AV.int .i64 (b.g i0)):=(H0_1.has a_hh).load o! ix7_
     have u12:=nadd 3 false true i0 1 o!
     have ev:=pk (d) l_ints_lp0 (aV::bV::rx x 2 3 ((AV.int .i64 ((i0:Nat):Int))::rx x 6 20 [])) hh .normal hh (CN 2<|VV ln1<|VV (ilss 3 false false .i64 ((i0:Nat):Int) ((a.length:Nat):Int))<|BB q2<|CN 2<|VV ix3<|MM ld6<|CN 2<|VV ix7<|MM ld10<|VV (ineq 3 false false .i64 (a.g i0) (b.g i0))<|HH ld6<|HH (show AV.same 20 (AV.int .i64 (a.g i0)) (AV.int .i64 (a.g i0))=true from same_int 19 _ _)<|HH ld10<|HH (show AV.same 20 (AV.int .i64 (b.g i0)) (AV.int .i64 (b.g i0))=true from same_int 19 _ _)<|BB f1<|CC<|VV u12<|CC<|ZZ) k!
     exact OptLoop.round (by simp only[l_ints_l0,f1,cond_true,cond_false]) ev (Grow.refl y_hh) (fun x=>(aV::bV::rx x 2 3 ((AV.int .i64 (((i0+1):Nat):Int))::rx x 6 20 []))) k! (fun x=>l_ints_l0_t aV bV a b H0_0 H0_1 E0_0 kq0 (i0+1) o! x hh y_hh a_hh)
def l_ints (a:List Int) (b:List Int):Bool:=(bif (!decide (((a.length:Nat):Int)=((b.length:Nat):Int))) then false else (match (l_ints_l0 a b a.length 0) with | none=>true | some rr4=>rr4))
theorem l_ints_c {d:Nat} {h:Heap} {aV bV:AV} (a:List Int) (b:List Int) (h_a:ZsAt h 3 aV a) (h_b:ZsAt h 3 bV b) (y_h:Tidy h):cal (d+1) (.fn 10) [aV,bV] h= .ret (AV.bool (l_ints a b)) h:=by
 have s_h_a:=h_a.small
 have s_h_b:=h_b.small
 rcases Bool.eq_false_or_eq_true (!decide (((a.length:Nat):Int)=((b.length:Nat):Int))) with f0 | f0
 · have n_f0:=nT_ f0
   have ln1:lenK (some (.slice 3)) (some aV)=some (AV.int .i64 ((a.length:Nat):Int)):=h_a.len
   have ln2:lenK (some (.slice 3)) (some bV)=some (AV.int .i64 ((b.length:Nat):Int)):=h_b.len
   have ev:=pk (d) l_ints_body (aV::bV::und 24) h .ret h (CN 2<|VV ln1<|CC<|VV ln2<|VV (ineq 3 false false .i64 ((a.length:Nat):Int) ((b.length:Nat):Int))<|BB f0<|CC<|ZZ) k!
   have e:l_ints a b=false:=by simp only[l_ints,f0,cond_true,cond_false]
   rw[e]
   exact callP_pure rfl (fn_of Tryz.func10 l_ints_B k! (.inr rfl) ev k!) (Has.refl _) rfl
 · have n_f0:=nF_ f0
   cases hl_yl4:l_ints_l0 a b a.length 0 with
   | none=>
     have ln1:lenK (some (.slice 3)) (some aV)=some (AV.int .i64 ((a.length:Nat):Int)):=h_a.len
     have ln2:lenK (some (.slice 3)) (some bV)=some (AV.int .i64 ((b.length:Nat):Int)):=h_b.len
     obtain ⟨yl4,h5,ev_yl4,G_h5⟩:=OptLoop.n hl_yl4 (l_ints_l0_t (d:=d) (h:=h) aV bV a b h_a h_b o! a.length 0 o! (fun k_=>((aV::bV::AV.undef::AV.undef::(AV.bool false)::(AV.int .i64 0)::aV::(AV.int .i64 ((a.length:Nat):Int))::bV::(AV.int .i64 ((b.length:Nat):Int))::(AV.bool (!decide (((a.length:Nat):Int)=((b.length:Nat):Int))))::und 15):List AV).getD k_ AV.undef) h y_h (Has.refl _))
     have y_h5:=G_h5.y
     have m_h5:h.nx≤h5.nx:=G_h5.n
     have a_h5:Has h h5:=G_h5.a
     have ev:=pk (d) l_ints_body (aV::bV::und 24) h .ret h5 (CN 2<|VV ln1<|CC<|VV ln2<|VV (ineq 3 false false .i64 ((a.length:Nat):Int) ((b.length:Nat):Int))<|BB f0<|CC<|LL ev_yl4<|CC<|ZZ) k!
     have e:l_ints a b=true:=by simp only[l_ints,f0,hl_yl4,cond_true,cond_false]
     rw[e]
     exact callP_pure rfl (fn_of Tryz.func10 l_ints_B k! (.inr rfl) ev k!) a_h5 rfl
   | some rr4=>
     have ln1:lenK (some (.slice 3)) (some aV)=some (AV.int .i64 ((a.length:Nat):Int)):=h_a.len
     have ln2:lenK (some (.slice 3)) (some bV)=some (AV.int .i64 ((b.length:Nat):Int)):=h_b.len
     obtain ⟨yl4,h5,ev_yl4,G_h5⟩:=OptLoop.r hl_yl4 (l_ints_l0_t (d:=d) (h:=h) aV bV a b h_a h_b o! a.length 0 o! (fun k_=>((aV::bV::AV.undef::AV.undef::(AV.bool false)::(AV.int .i64 0)::aV::(AV.int .i64 ((a.length:Nat):Int))::bV::(AV.int .i64 ((b.length:Nat):Int))::(AV.bool (!decide (((a.length:Nat):Int)=((b.length:Nat):Int))))::und 15):List AV).getD k_ AV.undef) h y_h (Has.refl _))
     have y_h5:=G_h5.y
     have m_h5:h.nx≤h5.nx:=G_h5.n
     have a_h5:Has h h5:=G_h5.a
     have ev:=pk (d) l_ints_body (aV::bV::und 24) h .ret h5 (CN 2<|VV ln1<|CC<|VV ln2<|VV (ineq 3 false false .i64 ((a.length:Nat):Int) ((b.length:Nat):Int))<|BB f0<|CC<|LL ev_yl4<|ZZ) k!
     have e:l_ints a b=rr4:=by simp only[l_ints,f0,hl_yl4,cond_true,cond_false]
     rw[e]
     exact callP_pure rfl (fn_of Tryz.func10 l_ints_B k! (.inr rfl) ev k!) a_h5 rfl
noncomputable def l_vast_body:Code:=(Tryz.f4.body).getD .skip
theorem l_vast_B:Tryz.f4.body=some l_vast_body:=by kernel_rfl
noncomputable def l_vast_lp0:Code:=(loopsIn l_vast_body).getD 0 .skip
noncomputable def l_vast_lp1:Code:=(loopsIn l_vast_body).getD 1 .skip
def l_vast_l0 (p:Plan):Nat→Nat→Int→Int
 | 0,_,v0_3=>v0_3
 | kq0+1,i0,v0_3=>(bif (decide (v0_3<100)) then l_vast_l0 p kq0 (i0+1) (IntKind.i64.wrap ((IntKind.i64.wrap (v0_3+((((p.quantities.g i0).gauges).length:Nat):Int)))+(IntKind.i64.wrap (Int.tdiv ((List.length ((p.quantities.g i0).name):Nat):Int) 10)))) else v0_3)
theorem l_vast_l0_t {d:Nat} {h:Heap} (p:Plan) (b0_0:Nat) (H0_0:RowsAt h p.quantitiesV p.quantities) (H0_1:RowsAt h p.measuresV p.measures) (H0_2:RowsAt h p.alarmsV p.alarms) (O0_0:RowT.ok h p):∀(k_ i_:Nat) (v0_3:Int) (_:i_+k_=p.quantities.length) (x:Nat→AV) (hh:Heap) (y_hh:Tidy hh) (a_hh:Has h hh) (G0_0:hh.get b0_0=some (AObj.cells [p.quantitiesV,p.measuresV,p.alarmsV] 26 false)),ValLoop (cal (d)) l_vast_lp0 ⟨((x 0)::(AV.ptr b0_0 0)::(x 2)::(AV.int .i64 v0_3)::(AV.int .i64 ((i_:Nat):Int))::rx x 5 72 []),hh,[],.no⟩ (.exit 0) hh (fun r y=>((y 0)::(AV.ptr b0_0 0)::(y 2)::(AV.int .i64 r)::rx y 4 73 [])) (l_vast_l0 p k_ i_ v0_3)
 | 0,i0,v0_3,hik,x,hh,y_hh,a_hh,G0_0=>by
   have s_H0_0:=H0_0.small
   have s_H0_1:=H0_1.small
   have s_H0_2:=H0_2.small
   have T0_0:=y_hh _ _ G0_0
   have ln1:lenK (some (.slice 41)) (some p.quantitiesV)=some (AV.int .i64 ((p.quantities.length:Nat):Int)):=(H0_0.has a_hh).len
   have q2:(decide (((i0:Nat):Int)<((p.quantities.length:Nat):Int)))=false:=d!
   have ev:=pk (d) l_vast_lp0 ((x 0)::(AV.ptr b0_0 0)::(x 2)::(AV.int .i64 v0_3)::(AV.int .i64 ((i0:Nat):Int))::rx x 5 72 []) hh (.exit 0) hh (CN 2<|MM (lown 22 0 p.quantitiesV G0_0 k!)<|VV ln1<|VV (ilss 3 false false .i64 ((i0:Nat):Int) ((p.quantities.length:Nat):Int))<|CC<|BB q2<|BB q2<|VV (pick_f (a:=some AV.undef) (b:=some (AV.bool false)) q2)<|FF<|ZZ) k!
   exact ValLoop.out v0_3 rfl ev (Grow.refl y_hh) k!
 | kq0+1,i0,v0_3,hik,x,hh,y_hh,a_hh,G0_0=>by
   have s_H0_0:=H0_0.small
   have s_H0_1:=H0_1.small
   have s_H0_2:=H0_2.small
   have T0_0:=y_hh _ _ G0_0
   rcases Bool.eq_false_or_eq_true (decide (v0_3<100)) with f1 | f1
   · have n_f1:=of_decide_eq_true f1
     have ln1:lenK (some (.slice 41)) (some p.quantitiesV)=some (AV.int .i64 ((p.quantities.length:Nat):Int)):=(H0_0.has a_hh).len
     have q2:(decide (((i0:Nat):Int)<((p.quantities.length:Nat):Int)))=true:=d!
     obtain ⟨p5,q6,ix4_⟩:=(H0_0.has a_hh).elem (i:=i0) o!
     have ix4:idxK env (some (.slice 41)) (some p.quantitiesV) (some (AV.int .i64 ((i0:Nat):Int)))=some (AV.ptr p5 q6):=ix4_
     have ld7:loadA env hh 39 (AV.ptr p5 (q6+6))=some ((p.quantities.g i0).gaugesV):=(H0_0.has a_hh).part (t:=39) (j:=6) o! ix4_ k! rfl
     have ln8:lenK (some (.slice 61)) (some ((p.quantities.g i0).gaugesV))=some (AV.int .i64 ((((p.quantities.g i0).gauges).length:Nat):Int)):=(((H0_0.has a_hh).ok (i:=i0) o!).2).len
     obtain ⟨p10,q11,ix9_⟩:=(H0_0.has a_hh).elem (i:=i0) o!
     have ix9:idxK env (some (.slice 41)) (some p.quantitiesV) (some (AV.int .i64 ((i0:Nat):Int)))=some (AV.ptr p10 q11):=ix9_
     have ld12:loadA env hh 9 (AV.ptr p10 (q11+0))=some (AV.str ((p.quantities.g i0).name)):=(H0_0.has a_hh).part (t:=9) (j:=0) o! ix9_ k! rfl
     have sn13:((p.quantities.g i0).name).length<2^60:=((H0_0.has a_hh).ok (i:=i0) o!).1
     have c14:AV.same 20 p.quantitiesV p.quantitiesV=true:=(H0_0.has a_hh).same 19
     have c15:AV.same 20 ((p.quantities.g i0).gaugesV) ((p.quantities.g i0).gaugesV)=true:=(((H0_0.has a_hh).ok (i:=i0) o!).2).same 19
     have u16:=nadd 3 false true i0 1 o!
     have ev:=pk (d) l_vast_lp0 ((x 0)::(AV.ptr b0_0 0)::(x 2)::(AV.int .i64 v0_3)::(AV.int .i64 ((i0:Nat):Int))::rx x 5 72 []) hh .normal hh (CN 2<|MM (lown 22 0 p.quantitiesV G0_0 k!)<|VV ln1<|VV (ilss 3 false false .i64 ((i0:Nat):Int) ((p.quantities.length:Nat):Int))<|CC<|BB q2<|CC<|BB q2<|VV (ilss 3 false true .i64 v0_3 100)<|VV (pick_t (a:=some (AV.bool (decide (v0_3<100)))) (b:=some (AV.bool false)) q2)<|BB f1<|CN 2<|MM (lown 22 0 p.quantitiesV G0_0 k!)<|CC<|VV ix4<|CC<|MM ld7<|VV ln8<|CN 2<|MM (lown 22 0 p.quantitiesV G0_0 k!)<|CC<|VV ix9<|CC<|MM ld12<|CN 4<|HH (lown 22 0 p.quantitiesV G0_0 k!)<|HH c14<|HH ld7<|HH c15<|HH (lown 22 0 p.quantitiesV G0_0 k!)<|HH c14<|HH ld12<|HH (show AV.same 20 (AV.str ((p.quantities.g i0).name)) (AV.str ((p.quantities.g i0).name))=true from same_str 19 _)<|CC<|VV u16<|CC<|ZZ) k!
     exact ValLoop.round (by simp only[l_vast_l0,f1,cond_true,cond_false]) ev (Grow.refl y_hh) (fun x=>((x 0)::(AV.ptr b0_0 0)::(x 2)::(AV.int .i64 (IntKind.i64.wrap ((IntKind.i64.wrap (v0_3+((((p.quantities.g i0).gauges).length:Nat):Int)))+(IntKind.i64.wrap (Int.tdiv ((List.length ((p.quantities.g i0).name):Nat):Int) 10)))))::(AV.int .i64 (((i0+1):Nat):Int))::rx x 5 72 [])) k! (fun x=>l_vast_l0_t p b0_0 H0_0 H0_1 H0_2 O0_0 kq0 (i0+1) (IntKind.i64.wrap ((IntKind.i64.wrap (v0_3+((((p.quantities.g i0).gauges).length:Nat):Int)))+(IntKind.i64.wrap (Int.tdiv ((List.length ((p.quantities.g i0).name):Nat):Int) 10)))) o! x hh y_hh a_hh G0_0)
   · have n_f1:=of_decide_eq_false f1
     have ln1:lenK (some (.slice 41)) (some p.quantitiesV)=some (AV.int .i64 ((p.quantities.length:Nat):Int)):=(H0_0.has a_hh).len
     have q2:(decide (((i0:Nat):Int)<((p.quantities.length:Nat):Int)))=true:=d!
     have ev:=pk (d) l_vast_lp0 ((x 0)::(AV.ptr b0_0 0)::(x 2)::(AV.int .i64 v0_3)::(AV.int .i64 ((i0:Nat):Int))::rx x 5 72 []) hh (.exit 0) hh (CN 2<|MM (lown 22 0 p.quantitiesV G0_0 k!)<|VV ln1<|VV (ilss 3 false false .i64 ((i0:Nat):Int) ((p.quantities.length:Nat):Int))<|CC<|BB q2<|CC<|BB q2<|VV (ilss 3 false true .i64 v0_3 100)<|VV (pick_t (a:=some (AV.bool (decide (v0_3<100)))) (b:=some (AV.bool false)) q2)<|BB f1<|ZZ) k!
     exact ValLoop.out v0_3 (by simp only[l_vast_l0,f1,cond_true,cond_false]) ev (Grow.refl y_hh) k!
def l_vast_l1 (p:Plan):Nat→Nat→Int→Int
 | 0,_,v1_3=>v1_3
 | kq1+1,i1,v1_3=>(bif (decide (v1_3<100)) then l_vast_l1 p kq1 (i1+1) (IntKind.i64.wrap (v1_3+(IntKind.i64.wrap (Int.tdiv (((List.length ((p.measures.g i1).name))+(List.length ((p.measures.g i1).crew)):Nat):Int) 10)))) else v1_3)
theorem l_vast_l1_t {d:Nat} {h:Heap} (p:Plan) (b1_0:Nat) (H1_0:RowsAt h p.quantitiesV p.quantities) (H1_1:RowsAt h p.measuresV p.measures) (H1_2:RowsAt h p.alarmsV p.alarms) (O1_0:RowT.ok h p):∀(k_ i_:Nat) (v1_3:Int) (_:i_+k_=p.measures.length) (x:Nat→AV) (hh:Heap) (y_hh:Tidy hh) (a_hh:Has h hh) (G1_0:hh.get b1_0=some (AObj.cells [p.quantitiesV,p.measuresV,p.alarmsV] 26 false)),ValLoop (cal (d)) l_vast_lp1 ⟨((x 0)::(AV.ptr b1_0 0)::(x 2)::(AV.int .i64 v1_3)::(x 4)::(AV.int .i64 ((i_:Nat):Int))::rx x 6 71 []),hh,[],.no⟩ (.exit 2) hh (fun r y=>((y 0)::(AV.ptr b1_0 0)::(y 2)::(AV.int .i64 r)::rx y 4 73 [])) (l_vast_l1 p k_ i_ v1_3)
 | 0,i1,v1_3,hik,x,hh,y_hh,a_hh,G1_0=>by
   have s_H1_0:=H1_0.small
   have s_H1_1:=H1_1.small
   have s_H1_2:=H1_2.small
   have T1_0:=y_hh _ _ G1_0
   have ln1:lenK (some (.slice 43)) (some p.measuresV)=some (AV.int .i64 ((p.measures.length:Nat):Int)):=(H1_1.has a_hh).len
   have q2:(decide (((i1:Nat):Int)<((p.measures.length:Nat):Int)))=false:=d!
   have ev:=pk (d) l_vast_lp1 ((x 0)::(AV.ptr b1_0 0)::(x 2)::(AV.int .i64 v1_3)::(x 4)::(AV.int .i64 ((i1:Nat):Int))::rx x 6 71 []) hh (.exit 2) hh (CN 2<|MM (lown 23 1 p.measuresV G1_0 k!)<|VV ln1<|VV (ilss 3 false false .i64 ((i1:Nat):Int) ((p.measures.length:Nat):Int))<|CC<|BB q2<|BB q2<|VV (pick_f (a:=some AV.undef) (b:=some (AV.bool false)) q2)<|FF<|ZZ) k!
   exact ValLoop.out v1_3 rfl ev (Grow.refl y_hh) k!
 | kq1+1,i1,v1_3,hik,x,hh,y_hh,a_hh,G1_0=>by
   have s_H1_0:=H1_0.small
   have s_H1_1:=H1_1.small
   have s_H1_2:=H1_2.small
   have T1_0:=y_hh _ _ G1_0
   rcases Bool.eq_false_or_eq_true (decide (v1_3<100)) with f1 | f1
   · have n_f1:=of_decide_eq_true f1
     have ln1:lenK (some (.slice 43)) (some p.measuresV)=some (AV.int .i64 ((p.measures.length:Nat):Int)):=(H1_1.has a_hh).len
     have q2:(decide (((i1:Nat):Int)<((p.measures.length:Nat):Int)))=true:=d!
     obtain ⟨p5,q6,ix4_⟩:=(H1_1.has a_hh).elem (i:=i1) o!
     have ix4:idxK env (some (.slice 43)) (some p.measuresV) (some (AV.int .i64 ((i1:Nat):Int)))=some (AV.ptr p5 q6):=ix4_
     have ld7:loadA env hh 9 (AV.ptr p5 (q6+0))=some (AV.str ((p.measures.g i1).name)):=(H1_1.has a_hh).part (t:=9) (j:=0) o! ix4_ k! rfl
     have sn8:((p.measures.g i1).name).length<2^60:=((H1_1.has a_hh).ok (i:=i1) o!).1
     obtain ⟨p10,q11,ix9_⟩:=(H1_1.has a_hh).elem (i:=i1) o!
     have ix9:idxK env (some (.slice 43)) (some p.measuresV) (some (AV.int .i64 ((i1:Nat):Int)))=some (AV.ptr p10 q11):=ix9_
     have ld12:loadA env hh 9 (AV.ptr p10 (q11+1))=some (AV.str ((p.measures.g i1).crew)):=(H1_1.has a_hh).part (t:=9) (j:=1) o! ix9_ k! rfl
     have sn13:((p.measures.g i1).crew).length<2^60:=((H1_1.has a_hh).ok (i:=i1) o!).2
     have u14:=nadd 3 false false (List.length ((p.measures.g i1).name)) (List.length ((p.measures.g i1).crew)) o!
     have c15:AV.same 20 p.measuresV p.measuresV=true:=(H1_1.has a_hh).same 19
     have u16:=nadd 3 false true i1 1 o!
     have ev:=pk (d) l_vast_lp1 ((x 0)::(AV.ptr b1_0 0)::(x 2)::(AV.int .i64 v1_3)::(x 4)::(AV.int .i64 ((i1:Nat):Int))::rx x 6 71 []) hh .normal hh (CN 2<|MM (lown 23 1 p.measuresV G1_0 k!)<|VV ln1<|VV (ilss 3 false false .i64 ((i1:Nat):Int) ((p.measures.length:Nat):Int))<|CC<|BB q2<|CC<|BB q2<|VV (ilss 3 false true .i64 v1_3 100)<|VV (pick_t (a:=some (AV.bool (decide (v1_3<100)))) (b:=some (AV.bool false)) q2)<|BB f1<|CN 2<|MM (lown 23 1 p.measuresV G1_0 k!)<|CC<|VV ix4<|CC<|MM ld7<|CN 2<|MM (lown 23 1 p.measuresV G1_0 k!)<|CC<|VV ix9<|CC<|MM ld12<|CC<|VV u14<|CN 3<|HH (lown 23 1 p.measuresV G1_0 k!)<|HH c15<|HH ld7<|HH (show AV.same 20 (AV.str ((p.measures.g i1).name)) (AV.str ((p.measures.g i1).name))=true from same_str 19 _)<|HH (lown 23 1 p.measuresV G1_0 k!)<|HH c15<|HH ld12<|HH (show AV.same 20 (AV.str ((p.measures.g i1).crew)) (AV.str ((p.measures.g i1).crew))=true from same_str 19 _)<|CC<|VV u16<|CC<|ZZ) k!
     exact ValLoop.round (by simp only[l_vast_l1,f1,cond_true,cond_false]) ev (Grow.refl y_hh) (fun x=>((x 0)::(AV.ptr b1_0 0)::(x 2)::(AV.int .i64 (IntKind.i64.wrap (v1_3+(IntKind.i64.wrap (Int.tdiv (((List.length ((p.measures.g i1).name))+(List.length ((p.measures.g i1).crew)):Nat):Int) 10)))))::(x 4)::(AV.int .i64 (((i1+1):Nat):Int))::rx x 6 71 [])) k! (fun x=>l_vast_l1_t p b1_0 H1_0 H1_1 H1_2 O1_0 kq1 (i1+1) (IntKind.i64.wrap (v1_3+(IntKind.i64.wrap (Int.tdiv (((List.length ((p.measures.g i1).name))+(List.length ((p.measures.g i1).crew)):Nat):Int) 10)))) o! x hh y_hh a_hh G1_0)
   · have n_f1:=of_decide_eq_false f1
     have ln1:lenK (some (.slice 43)) (some p.measuresV)=some (AV.int .i64 ((p.measures.length:Nat):Int)):=(H1_1.has a_hh).len
     have q2:(decide (((i1:Nat):Int)<((p.measures.length:Nat):Int)))=true:=d!
     have ev:=pk (d) l_vast_lp1 ((x 0)::(AV.ptr b1_0 0)::(x 2)::(AV.int .i64 v1_3)::(x 4)::(AV.int .i64 ((i1:Nat):Int))::rx x 6 71 []) hh (.exit 2) hh (CN 2<|MM (lown 23 1 p.measuresV G1_0 k!)<|VV ln1<|VV (ilss 3 false false .i64 ((i1:Nat):Int) ((p.measures.length:Nat):Int))<|CC<|BB q2<|CC<|BB q2<|VV (ilss 3 false true .i64 v1_3 100)<|VV (pick_t (a:=some (AV.bool (decide (v1_3<100)))) (b:=some (AV.bool false)) q2)<|BB f1<|ZZ) k!
     exact ValLoop.out v1_3 (by simp only[l_vast_l1,f1,cond_true,cond_false]) ev (Grow.refl y_hh) k!
def l_vast (p:Plan):Bool:=(decide (60<(l_vast_l1 p p.measures.length 0 (l_vast_l0 p p.quantities.length 0 (((p.quantities.length+p.measures.length)+p.alarms.length:Nat):Int)))))
theorem l_vast_c {d:Nat} {h:Heap} (p:Plan) (h_p:RowT.ok h p) (y_h:Tidy h):cal (d+1) (.fn 4) [(AV.agg [p.quantitiesV,p.measuresV,p.alarmsV])] h= .ret (AV.bool (l_vast p)) h:=by
 have s_h_p_1:=h_p.1.small
 have s_h_p_2_1:=h_p.2.1.small
 have s_h_p_2_2:=h_p.2.2.small
 obtain ⟨h1,n_h1,y_h1,z_h1,g_h1,b_h1⟩:=nwB y_h (AObj.cells [p.quantitiesV,p.measuresV,p.alarmsV] 26 false)
 have a_h1:Has h h1:=b_h1
 have ln2:lenK (some (.slice 41)) (some p.quantitiesV)=some (AV.int .i64 ((p.quantities.length:Nat):Int)):=h_p.1.len
 have ln3:lenK (some (.slice 43)) (some p.measuresV)=some (AV.int .i64 ((p.measures.length:Nat):Int)):=h_p.2.1.len
 have u4:=nadd 3 false false p.quantities.length p.measures.length o!
 have ln5:lenK (some (.slice 59)) (some p.alarmsV)=some (AV.int .i64 ((p.alarms.length:Nat):Int)):=h_p.2.2.len
 have u6:=nadd 3 false false (p.quantities.length+p.measures.length) p.alarms.length o!
 obtain ⟨yl7,h8,ev_yl7,G_h8⟩:=l_vast_l0_t (d:=d) (h:=h) p h.nx h_p.1 h_p.2.1 h_p.2.2 h_p p.quantities.length 0 (((p.quantities.length+p.measures.length)+p.alarms.length:Nat):Int) o! (fun k_=>(((AV.agg [p.quantitiesV,p.measuresV,p.alarmsV])::(AV.ptr h.nx 0)::(AV.bool false)::(AV.int .i64 (((p.quantities.length+p.measures.length)+p.alarms.length:Nat):Int))::(AV.int .i64 0)::AV.undef::(AV.ptr h.nx 0)::p.quantitiesV::(AV.int .i64 ((p.quantities.length:Nat):Int))::(AV.ptr h.nx 1)::p.measuresV::(AV.int .i64 ((p.measures.length:Nat):Int))::(AV.int .i64 ((p.quantities.length+p.measures.length:Nat):Int))::(AV.ptr h.nx 2)::p.alarmsV::(AV.int .i64 ((p.alarms.length:Nat):Int))::(AV.int .i64 (((p.quantities.length+p.measures.length)+p.alarms.length:Nat):Int))::und 60):List AV).getD k_ AV.undef) h1 y_h1 a_h1 g_h1
 have y_h8:=G_h8.y
 have m_h8:h1.nx≤h8.nx:=G_h8.n
 have a_h8:Has h h8:=a_h1.trans G_h8.a
 obtain ⟨yl9,h10,ev_yl9,G_h10⟩:=l_vast_l1_t (d:=d) (h:=h) p h.nx h_p.1 h_p.2.1 h_p.2.2 h_p p.measures.length 0 (l_vast_l0 p p.quantities.length 0 (((p.quantities.length+p.measures.length)+p.alarms.length:Nat):Int)) o! (fun k_=>(((yl7 0)::(AV.ptr h.nx 0)::(yl7 2)::(AV.int .i64 (l_vast_l0 p p.quantities.length 0 (((p.quantities.length+p.measures.length)+p.alarms.length:Nat):Int)))::(yl7 4)::(AV.int .i64 0)::rx yl7 6 71 []):List AV).getD k_ AV.undef) h8 y_h8 a_h8 (G_h8.a _ _ g_h1)
 have y_h10:=G_h10.y
 have m_h10:h8.nx≤h10.nx:=G_h10.n
 have a_h10:Has h h10:=a_h8.trans G_h10.a
 have a_h8_h10:Has h8 h10:=G_h10.a
 have ev:=pk (d) l_vast_body ((AV.agg [p.quantitiesV,p.measuresV,p.alarmsV])::und 76) h .ret h10 (NN n_h1 (fun i=>(AV.ptr i 0))<|CN 2<|MM (lown 22 0 p.quantitiesV g_h1 k!)<|VV ln2<|CC<|MM (lown 23 1 p.measuresV g_h1 k!)<|VV ln3<|VV u4<|CC<|MM (lown 24 2 p.alarmsV g_h1 k!)<|VV ln5<|VV u6<|CN 2<|LL ev_yl7<|CC<|LL ev_yl9<|CC<|VV (igtr 3 false true .i64 (l_vast_l1 p p.measures.length 0 (l_vast_l0 p p.quantities.length 0 (((p.quantities.length+p.measures.length)+p.alarms.length:Nat):Int))) 60)<|CC<|ZZ) k!
 have e:l_vast p=(decide (60<(l_vast_l1 p p.measures.length 0 (l_vast_l0 p p.quantities.length 0 (((p.quantities.length+p.measures.length)+p.alarms.length:Nat):Int))))):=by simp only[l_vast,cond_true,cond_false]
 rw[e]
 exact callP_pure rfl (fn_of Tryz.func4 l_vast_B k! (.inr rfl) ev k!) a_h10 rfl
end Go.Proofs.Bench
