import Derived.Orders
import Derived.Test.YtobmbjlcklkpoaaA2
set_option linter.unusedVariables false
set_option linter.unusedSimpArgs false
section
namespace Go.Ab
variable {E:Env}
def ox (E:Env) (ts jY:List AV) (op:Op):Prop:=∀x∈op.operands,eu E ts x=eu E jY x
theorem wq {α β:Type} {f g:α→Option β}:∀{l:List α} (_:∀x∈l,f x=g x),eH f l=eH g l
 | [],_=>rfl
 | x::xs,h=>by simp only[eH,h x (by simp),wq (l:=xs) (fun y hy=>h y (by simp [hy]))]
theorem pt {ts jY:List AV} {l:List Operand} (h:∀x∈l,eu E ts x=eu E jY x):f' E ts l=f' E jY l:=wq h
theorem qN {ts jY:List AV}:∀{l:List (Nat×Operand)} (_:∀x∈l.map (·.2),eu E ts x=eu E jY x),ks E ts l=ks E jY l
 | [],_=>rfl
 | (i,o)::l,h=>by simp only[ks,h o (by simp),qN (l:=l) (fun y hy=>h y (by simp at hy ⊢;exact .inr hy))]
theorem sC {ts jY:List AV} {o:Option Operand} (h:∀x∈o.toArray,eu E ts x=eu E jY x):mS E ts o=mS E jY o:=by
 cases o with
 | none=>rfl
 | some o=>simp only[mS,h o (by simp)]
theorem wu {ts jY:List AV} {c:Call} (h:∀x∈c.operands,eu E ts x=eu E jY x):callee E ts c=callee E jY c:=by
 unfold callee
 cases hc:c.callee with
 | value f=>
   have h1:eu E ts f=eu E jY f:=h f (by simp [Call.operands,hc])
   have h2:f' E ts c.args.toList=f' E jY c.args.toList:=pt (fun x hx=>h x (by simp [Call.operands,hc];exact .inr (by simpa using hx)))
   simp only[h1,h2]
 | invoke _ _=>rfl
 | builtin _=>rfl
theorem nB {ts jY:List AV} {c:Call} (h:∀x∈c.operands,eu E ts x=eu E jY x):f' E ts c.args.toList=f' E jY c.args.toList:=
 pt (fun x hx=>h x (by simp [Call.operands];exact .inr (by simpa using hx)))
theorem HK {ts jY:List AV} {op:Op} (h:ox E ts jY op):bE E ts op=bE E jY op:=by
 cases op with
 | call c=>
   have hc:=nB (E:=E) (ts:=ts) (jY:=jY) (c:=c) h
   obtain ⟨callee,args,argTypes⟩:=c
   simp only at hc
   cases callee with
   | builtin b=>cases b<;>simp only[bE,hc]
   | value f=>cases f<;>simp only[bE,hc]
   | invoke r m=>simp only[bE]
 | build t ps=>
   have:ks E ts ps.toList=ks E jY ps.toList:=qN (fun x hx=>h x (by simpa [Op.operands] using hx))
   simp only[bE,this]
 | makeFunc fn first captured=>
   cases fn with
   | func f=>
     have h1:f' E ts first.toList=f' E jY first.toList:=pt (fun x hx=>h x (by simp [Op.operands];exact .inl (by simpa using hx)))
     have h2:f' E ts captured.toList=f' E jY captured.toList:=pt (fun x hx=>h x (by simp [Op.operands];exact .inr (by simpa using hx)))
     simp only[bE,h1,h2]
   | _=>simp only[bE]
 | slice t x lo hi mx=>
   have h0:eu E ts x=eu E jY x:=h x (by simp [Op.operands])
   have h1:mS E ts lo=mS E jY lo:=sC (fun y hy=>h y (by simp [Op.operands] at hy ⊢;exact .inr (.inl hy)))
   have h2:mS E ts hi=mS E jY hi:=sC (fun y hy=>h y (by simp [Op.operands] at hy ⊢;exact .inr (.inr (.inl hy))))
   have h3:mS E ts mx=mS E jY mx:=sC (fun y hy=>h y (by simp [Op.operands] at hy ⊢;exact .inr (.inr (.inr hy))))
   simp only[bE,h0,h1,h2,h3]
 | move x=>simp only[bE,h x (by simp [Op.operands])]
 | assign x=>simp only[bE,h x (by simp [Op.operands])]
 | pick c a b=>simp only[bE,h c (by simp [Op.operands]),h a (by simp [Op.operands]),h b (by simp [Op.operands])]
 | nilCheck x=>simp only[bE,h x (by simp [Op.operands])]
 | binOp o t x y u=>simp only[bE,h x (by simp [Op.operands]),h y (by simp [Op.operands])]
 | unOp o t x=>simp only[bE,h x (by simp [Op.operands])]
 | convert s d x=>simp only[bE,h x (by simp [Op.operands])]
 | makeInterface t x=>simp only[bE,h x (by simp [Op.operands])]
 | fieldAddr s x f=>simp only[bE,h x (by simp [Op.operands])]
 | field s x f=>simp only[bE,h x (by simp [Op.operands])]
 | indexAddr t x i=>simp only[bE,h x (by simp [Op.operands]),h i (by simp [Op.operands])]
 | index t x i=>simp only[bE,h x (by simp [Op.operands]),h i (by simp [Op.operands])]
 | extract x i=>simp only[bE,h x (by simp [Op.operands])]
 | typeAssert x a b ok=>simp only[bE,h x (by simp [Op.operands])]
 | _=>simp only[bE]
theorem HL {ts jY:List AV} {op:Op} (h:ox E ts jY op) (hp:aw):dW E ts hp op=dW E jY hp op:=by
 cases op with
 | call c=>
   have hc:=nB (E:=E) (ts:=ts) (jY:=jY) (c:=c) h
   obtain ⟨callee,args,argTypes⟩:=c
   simp only at hc
   cases callee with
   | builtin b=>cases b<;>simp only[dW,hc]
   | value f=>simp only[dW]
   | invoke r m=>simp only[dW]
 | load t a=>simp only[dW,h a (by simp [Op.operands])]
 | convert s d x=>simp only[dW,h x (by simp [Op.operands])]
 | lookup t x i ok=>simp only[dW,h x (by simp [Op.operands]),h i (by simp [Op.operands])]
 | _=>simp only[dW]
theorem E7 {ts jY:List AV} {op:Op} (h:ox E ts jY op):ey E ts op=ey E jY op:=by
 cases op with
 | buildSlice t n ps=>
   have:ks E ts ps.toList=ks E jY ps.toList:=qN (fun x hx=>h x (by simpa [Op.operands] using hx))
   simp only[ey,this]
 | box t x=>simp only[ey,h x (by simp [Op.operands])]
 | makeSlice t l c=>simp only[ey,h l (by simp [Op.operands]),h c (by simp [Op.operands])]
 | makeMap t r=>
   cases r with
   | none=>simp only[ey]
   | some r=>simp only[ey,h r (by simp [Op.operands])]
 | range t x=>simp only[ey,h x (by simp [Op.operands])]
 | _=>simp only[ey]
theorem A6 {call:bj} {ts jY:List AV} {o:Oper} (h:ox E ts jY o.op) (hp:aw) (rc:RC):dp E call ts hp rc o=dp E call jY hp rc o:=by
 obtain ⟨dst,op,ty,pos,after,guard⟩:=o
 simp only at h
 unfold dp
 cases op with
 | call c=>
   have hc:=nB (E:=E) (ts:=ts) (jY:=jY) (c:=c) h
   have C5:=wu (E:=E) (ts:=ts) (jY:=jY) (c:=c) h
   cases Yj:c.callee with
   | invoke r name=>
     have hr:eu E ts r=eu E jY r:=h r (by simp [Op.operands,Call.operands,Yj])
     simp only[Yj,hc,hr]
   | builtin b=>cases b<;>simp only[Yj,hc]
   | value f=>simp only[Yj,C5]
 | defer c=>simp only[wu (E:=E) (ts:=ts) (jY:=jY) (c:=c) h]
 | store t a x=>simp only[h a (by simp [Op.operands]),h x (by simp [Op.operands])]
 | mapUpdate t m k x=>simp only[h m (by simp [Op.operands]),h k (by simp [Op.operands]),h x (by simp [Op.operands])]
 | insert t m k x=>simp only[h m (by simp [Op.operands]),h k (by simp [Op.operands]),h x (by simp [Op.operands])]
 | mapEntry t m k=>simp only[h m (by simp [Op.operands]),h k (by simp [Op.operands])]
 | entryStore t m k x=>simp only[h m (by simp [Op.operands]),h k (by simp [Op.operands]),h x (by simp [Op.operands])]
 | convert s d x=>simp only[h x (by simp [Op.operands])]
 | next i s=>simp only[h i (by simp [Op.operands])]
 | panic x=>simp only[h x (by simp [Op.operands])]
 | _=>rfl
end Go.Ab
end
section
namespace Go.Ab
variable {E:Env}
theorem mW {α:Type} {f:α→α→Bool} (hf:∀x y,f x y=true→x=y):∀{l r:List α} (_:dQ f l r=true),l=r
 | [],[],_=>rfl
 | [],_::_,h=>by simp [dQ] at h
 | _::_,[],h=>by simp [dQ] at h
 | x::xs,y::ys,h=>by
   simp only[dQ,Bool.and_eq_true] at h
   rw[hf x y h.1,mW hf h.2]
theorem AV.wv:∀(n:Nat) (x y:AV),AV.same n x y=true→x=y
 | 0,_,_,h=>by simp [AV.same] at h
 | n+1,x,y,h=>by
   have ih:=AV.wv n
   cases x<;>cases y<;>simp [AV.same] at h<;>try rfl
   all_goals first
    | (subst h;rfl)
    | (obtain ⟨rfl,rfl⟩:=h;rfl)
    | (obtain ⟨⟨⟨⟨rfl,rfl⟩,rfl⟩,rfl⟩,rfl⟩:=h;rfl)
    | (obtain ⟨⟨rfl,h1⟩,h2⟩:=h;rw[mW ih h1,mW ih h2])
    | (obtain ⟨rfl,h1⟩:=h;rw[ih _ _ h1])
    | (rw[mW ih h])
theorem aY.wv {x y:aY} (h:aY.same x y=true):x=y:=by
 unfold aY.same at h
 split at h
 · simp only[Bool.and_eq_true,beq_iff_eq] at h
   obtain ⟨⟨h1,rfl⟩,rfl⟩:=h
   rw[mW (AV.wv 20) h1]
 · simp at h;subst h;rfl
 · simp at h;obtain ⟨rfl,rfl⟩:=h;rfl
 · simp at h
theorem vq:∀{l:List Nat} (_:nodup l=true),l.Nodup
 | [],_=> .nil
 | x::xs,h=>by
   simp only[nodup,Bool.and_eq_true,Bool.not_eq_true',List.contains_eq_mem,decide_eq_false_iff_not] at h
   exact List.nodup_cons.2 ⟨h.1,vq h.2⟩
theorem A7:∀(n:Nat) (l:List Nat) (_:l.Nodup) (_:∀x∈l,x<n),l.length≤n
 | 0,l,_,h=>by
   cases l with
   | nil=>simp
   | cons x _=>have:=h x (by simp);omega
 | n+1,l,hn,h=>by
   have h1:=A7 n (l.erase n) (hn.erase n) (fun x hx=>by
    have h2:=h x (List.mem_of_mem_erase hx)
    have h3:x≠n:=(hn.mem_erase_iff.1 hx).1
    omega)
   rw[List.length_erase] at h1
   split at h1<;>omega
structure A8 (E:Env) (ops:Array Oper) (pl:mD):Prop where
 lt:∀i o j,ops[i]? =some o→dM pl.an i j=true→j<i
 direct:∀i o e,ops[i]? =some o→e∈kW o→e<i∧dM pl.an i e=true
 closed:∀i o j,ops[i]? =some o→dM pl.an i j=true→∃e∈kW o,e=j∨dM pl.an e j=true
 guard:∀i o g want,ops[i]? =some o→o.guard=some (g,want)→dM pl.an i g=true
 slot:∀i j o p d,i≠j→ops[i]? =some o→ops[j]? =some p→p.dst=some d→o.dst≠some d∧(d∈tmpsOf o→dM pl.an i j=true∨dM pl.an j i=true)
 chain:∀q e f,pl.bP[q]? =some e→pl.bP[q+1]? =some f→dM pl.an f e=true
 bP:pl.bP=nv E ops.toList
 nd:pl.bP.Nodup
 order:kX E ops pl.an pl.bP pl.order [] 0=true
theorem tT {ops:Array Oper} {i:Nat} {o:Oper} (h:ops[i]? =some o):(o,i)∈ops.toList.zipIdx:=by
 rw[List.mk_mem_zipIdx_iff_getElem?];simpa using h
theorem wx {an:List (List Nat)}:∀{l:List Nat} (_:tN an l=true) (q e f:Nat),l[q]? =some e→l[q+1]? =some f→dM an f e=true
 | [],_,q,e,f,h,_=>by simp at h
 | [x],_,q,e,f,h,h'=>by simp at h'
 | x::y::l,hc,q,e,f,h,h'=>by
   simp only[tN,Bool.and_eq_true] at hc
   cases q with
   | zero=>simp at h h';subst h;subst h';exact hc.1
   | succ q=>exact wx hc.2 q e f (by simpa using h) (by simpa using h')
theorem HM {ops:Array Oper} {pl:mD} (h:sj E ops=some pl):A8 E ops pl:=by
 unfold sj at h
 simp only at h
 split at h
 · rename_i hc
   simp at h;subst h
   simp only[Bool.and_eq_true] at hc
   obtain ⟨⟨⟨⟨he,hs⟩,Ys⟩,pg⟩,Qc⟩:=hc
   have J0:=List.all_eq_true.1 he
   have qI:=List.all_eq_true.1 hs
   refine ⟨fun i o j ho hj=>?_,fun i o e ho hm=>?_,fun i o j ho hj=>?_,fun i o g want ho hg=>?_,fun i j o p d eM ho hp hd=>?_,wx Ys,rfl,vq pg,Qc⟩
   · have:=J0 _ (tT ho)
     simp only[Bool.and_eq_true] at this
     have h2:=List.all_eq_true.1 this.2 j (by simpa [dM] using hj)
     simp only[Bool.and_eq_true,decide_eq_true_eq] at h2
     exact h2.1
   · have:=J0 _ (tT ho)
     simp only[Bool.and_eq_true] at this
     have h2:=List.all_eq_true.1 this.1 e hm
     simpa using h2
   · have:=J0 _ (tT ho)
     simp only[Bool.and_eq_true] at this
     have h2:=List.all_eq_true.1 this.2 j (by simpa [dM] using hj)
     simp only[Bool.and_eq_true,List.any_eq_true,Bool.or_eq_true,beq_iff_eq] at h2
     exact h2.2
   · have:=qI _ (tT ho)
     simp only[Bool.and_eq_true,hg] at this
     exact this.1.1
   · have:=qI _ (tT ho)
     simp only[Bool.and_eq_true] at this
     have h2:=List.all_eq_true.1 this.2 _ (tT hp)
     simp only[Bool.or_eq_true,beq_iff_eq,eM,false_or,hd,Bool.and_eq_true,bne_iff_ne,Bool.not_eq_true',List.contains_eq_mem,decide_eq_false_iff_not] at h2
     exact ⟨h2.1,fun hm=>(h2.2.imp_left (fun x=>x.resolve_left (fun hn=>hn hm)))⟩
 · simp at h
def qA (E:Env) (ops:Array Oper) (l:List Nat):Nat:=(l.filter fun i=>fI E ((ops.getD i default).op)).length
theorem E8 {ops:Array Oper} {i:Nat} (l:List Nat) (h:fI E ((ops.getD i default).op)=true):qA E ops (i::l)=qA E ops l+1:=by
 unfold qA;rw[List.filter_cons_of_pos (p:=fun i=>fI E ((ops.getD i default).op)) h];rfl
theorem E9 {ops:Array Oper} {i:Nat} (l:List Nat) (h:¬fI E ((ops.getD i default).op)=true):qA E ops (i::l)=qA E ops l:=by
 unfold qA;rw[List.filter_cons_of_neg (p:=fun i=>fI E ((ops.getD i default).op)) h]
theorem iZ {ops:Array Oper} {an:List (List Nat)} {bP:List Nat}:∀{l seen:List Nat} {k:Nat} (_:kX E ops an bP l seen k=true),
 (∀p i,l[p]? =some i→i<ops.size∧i ∉ seen∧i ∉ l.take p∧(∀j,dM an i j=true→j∈seen∨j∈l.take p)∧
  (fI E ((ops.getD i default).op)=true→bP[k+qA E ops (l.take p)]? =some i)∧(fI E ((ops.getD i default).op)=false→EL bP an i=k+qA E ops (l.take p)))∧
 (∀i,i<ops.size→i∈seen∨i∈l)∧k+qA E ops l=bP.length
 | [],seen,k,h=>by
   simp only[kX,Bool.and_eq_true,List.all_eq_true,List.mem_range,beq_iff_eq] at h
   exact ⟨fun p i hp=>by simp at hp,fun i hi=> .inl (by simpa using h.1 i hi),by simpa [qA] using h.2⟩
 | i::l,seen,k,h=>by
   simp only[kX,Bool.and_eq_true,decide_eq_true_eq,Bool.not_eq_true',List.contains_eq_mem,decide_eq_false_iff_not] at h
   obtain ⟨⟨⟨lR,hns⟩,Yv⟩,oq⟩:=h
   have W6:∀j,dM an i j=true→j∈seen:=fun j hj=>by
    have:=List.all_eq_true.1 Yv j (by simpa [dM] using hj)
    simpa using this
   by_cases he:fI E ((ops.getD i default).op)=true
   · simp only[he,if_true,Bool.and_eq_true,beq_iff_eq] at oq
     obtain ⟨h1,h2,h3⟩:=iZ oq.2
     refine ⟨fun p j hp=>?_,fun j hj=>?_,?_⟩
     · cases p with
       | zero=>simp at hp;subst hp;exact ⟨lR,hns,by simp,fun j hj=> .inl (W6 j hj),fun _=>by simpa [qA] using oq.1,fun hf=>by rw[he] at hf;simp at hf⟩
       | succ p=>
         obtain ⟨a1,a2,a3,a4,a5,a6⟩:=h1 p j (by simpa using hp)
         have hc:k+qA E ops (List.take (p+1) (i::l))=k+1+qA E ops (l.take p):=by rw[List.take_succ_cons,E8 _ he];omega
         simp only[List.mem_cons,not_or] at a2
         refine ⟨a1,a2.2,by simp;exact ⟨a2.1,a3⟩,fun m hm=>?_,by rw[hc];exact a5,by rw[hc];exact a6⟩
         rcases a4 m hm with h4 | h4
         · simp at h4;rcases h4 with rfl | h4
           · exact .inr (by simp)
           · exact .inl h4
         · exact .inr (by simp [h4])
     · rcases h2 j hj with h4 | h4
       · simp at h4;rcases h4 with rfl | h4
         · exact .inr (by simp)
         · exact .inl h4
       · exact .inr (by simp [h4])
     · rw[E8 _ he];omega
   · simp only[he,Bool.false_eq_true,if_false,Bool.and_eq_true,beq_iff_eq] at oq
     obtain ⟨h1,h2,h3⟩:=iZ oq.2
     refine ⟨fun p j hp=>?_,fun j hj=>?_,?_⟩
     · cases p with
       | zero=>simp at hp;subst hp;exact ⟨lR,hns,by simp,fun j hj=> .inl (W6 j hj),fun hf=>absurd hf he,fun _=>by simpa [qA] using oq.1⟩
       | succ p=>
         obtain ⟨a1,a2,a3,a4,a5,a6⟩:=h1 p j (by simpa using hp)
         have hc:k+qA E ops (List.take (p+1) (i::l))=k+qA E ops (l.take p):=by rw[List.take_succ_cons,E9 _ he]
         simp only[List.mem_cons,not_or] at a2
         refine ⟨a1,a2.2,by simp;exact ⟨a2.1,a3⟩,fun m hm=>?_,by rw[hc];exact a5,by rw[hc];exact a6⟩
         rcases a4 m hm with h4 | h4
         · simp at h4;rcases h4 with rfl | h4
           · exact .inr (by simp)
           · exact .inl h4
         · exact .inr (by simp [h4])
     · rcases h2 j hj with h4 | h4
       · simp at h4;rcases h4 with rfl | h4
         · exact .inr (by simp)
         · exact .inl h4
       · exact .inr (by simp [h4])
     · rw[E9 _ he];exact h3
def hX (ops:Array Oper) (i:Nat):Option Tmp:=(ops[i]?).bind (·.dst)
def E_ (ops:Array Oper) (ts:List AV) (l:List Step):List AV:=l.foldl (fun ts x=>dR ts (hX ops x.i) x.v) ts
def ph (ops:Array Oper) (val:Nat→AV) (ts:List AV) (l:List Nat):List AV:=l.foldl (fun ts i=>dR ts (hX ops i) (val i)) ts
structure Grown (a b:aw):Prop where
 nx:a.nx≤b.nx
 old:∀i,i<a.nx→b.get i=a.get i
theorem Grown.refl (a:aw):Grown a a:=⟨Nat.le_refl _,fun _ _=>rfl⟩
theorem Grown.trans {a b c:aw} (x:Grown a b) (y:Grown b c):Grown a c:=⟨Nat.le_trans x.nx y.nx,fun i hi=>(y.old i (Nat.lt_of_lt_of_le hi x.nx)).trans (x.old i hi)⟩
theorem Grown.new {a b:aw} {o:aY} (h:a.new o=some b):Grown a b:=by
 obtain ⟨h1,h2,h3,h4⟩:=aw.lP h
 exact ⟨by omega,fun i hi=>h4 i (by omega)⟩
theorem OK.grown {φ:Ph} {a b:aw} {w:World} (g:Grown a b) (ok:OK E φ a w):OK E φ b w∧Fr φ a w φ b w:=by
 have hold:∀i l,φ i=some l→b.get i=a.get i:=fun i l hl=>g.old i (ok.z_ i l hl)
 refine ⟨⟨fun i l hl=>Nat.lt_of_lt_of_le (ok.z_ i l hl) g.nx,Nat.le_trans ok.nx g.nx,ok.vh,fun i o l hi hl=>ok.live i o l (hold i l hl▸hi) hl,
  fun i j o p l m hi hj hl hm hw hb=>ok.inj i j o p l m (hold i l hl▸hi) (hold j m hm▸hj) hl hm hw hb⟩,
  ⟨Ph.le_refl φ,fun _ _=>rfl,g.nx,rfl,rfl,rfl,Nat.le_refl _,fun _ _ _=>rfl,fun i o l hi hr hl=> .inr ⟨i,o,l,hold i l hl▸hi,hr,hl,rfl⟩⟩⟩
def wy (E:Env) (call:bj) (ops:Array Oper) (rc:RC) (x:Step) (o:Oper) (hk:aw) (sk:aw) (W7:Option aw):Prop:=
 match x.kind with
 | .off=>cF ops x.ts o=false∧x.v=AV.undef∧(fI E o.op=true→W7=some hk)
 | .hJ=>fI E o.op=false∧cF ops x.ts o=true∧bE E x.ts o.op=some x.v
 | .red=>fI E o.op=false∧cF ops x.ts o=true
 | .so n obj=>fI E o.op=false∧cF ops x.ts o=true∧(∃mk,ey E x.ts o.op=some (obj,mk)∧x.v=mk n)∧sk.nx≤n∧n<hk.nx
 | .uk h'=>fI E o.op=true∧cF ops x.ts o=true∧dp E call x.ts hk rc o= .val x.v h'∧W7=some h'
structure UO (E:Env) (call:bj) (ops:Array Oper) (s:St) (k:Nat) (order:List Nat) (tr:List Step) (hs st:List aw) (s':St):Prop where
 is:tr.map (·.i)=order
 ts:s'.ts=E_ ops s.ts tr
 ds:s'.ds=s.ds
 rc:s'.rc=s.rc
 len:hs.length=qA E ops order+1
 Yw:st.length=hs.length
 first:st[0]? =some s.h
 last:hs[qA E ops order]? =some s'.h
 grown:∀(j:Nat) (a b:aw),st[j]? =some a→hs[j]? =some b→Grown a b
 step:∀(p:Nat) (x:Step),tr[p]? =some x→x.ts=E_ ops s.ts (tr.take p)∧x.k=k+qA E ops (order.take p)∧
  ∃o hk sk,ops[x.i]? =some o∧hs[qA E ops (order.take p)]? =some hk∧st[qA E ops (order.take p)]? =some sk∧wy E call ops s.rc x o hk sk (st[qA E ops (order.take p)+1]?)
theorem tU (ops:Array Oper) (ts:List AV) (x:Step) (l:List Step):E_ ops ts (x::l)=E_ ops (dR ts (hX ops x.i) x.v) l:=rfl
theorem oA {call:bj} {ops:Array Oper}:∀{order:List Nat} {k:Nat} {s:St} {tr:List Step} {hs:List aw} {s':St} (_:cW E call ops order k s= .ok tr hs s'),
 ∃st,UO E call ops s k order tr hs st s'
 | [],k,s,tr,hs,s',h=>by
   simp [cW] at h;obtain ⟨rfl,rfl,rfl⟩:=h
   exact ⟨[s.h],rfl,rfl,rfl,rfl,rfl,rfl,rfl,rfl,fun j a b ha hb=>by
    cases j with
    | zero=>simp at ha hb;subst ha;subst hb;exact Grown.refl _
    | succ j=>simp at ha,fun p x hp=>by simp at hp⟩
 | i::rest,k,s,tr,hs,s',h=>by
   simp only[cW] at h
   cases ho:ops[i]? with
   | none=>rw[ho] at h;simp at h
   | some o=>
   rw[ho] at h
   simp only at h
   have hgd:ops.getD i default=o:=by simp [Array.getD_eq_getD_getElem?,ho]
   have UP:hX ops i=o.dst:=by simp [hX,ho]
   have writes:∀(x:Step) (s1:St),x.i=i→x.k=k→x.ts=s.ts→s1.ts=dR s.ts o.dst x.v→s1.ds=s.ds→s1.rc=s.rc→fI E o.op=true→
    wy E call ops s.rc x o s.h s.h (some s1.h)→((cW E call ops rest (k+1) s1).bound s.h).step x= .ok tr hs s'→∃st,UO E call ops s k (i::rest) tr hs st s':=by
    intro x s1 N1 E' hxt h1 h2 h3 he jk hd
    cases hr:cW E call ops rest (k+1) s1 with
    | fail why q=>rw[hr] at hd;simp [j4.bound,j4.step] at hd
    | ok Mg r7 s2=>
      rw[hr] at hd;simp [j4.bound,j4.step] at hd;obtain ⟨rfl,rfl,rfl⟩:=hd
      obtain ⟨st1,t⟩:=oA hr
      have hc:∀l,qA E ops (i::l)=qA E ops l+1:=fun l=>E8 l (by rw[hgd];exact he)
      refine ⟨s.h::st1,by simp [N1,t.is],?_,t.ds.trans h2,t.rc.trans h3,by simp [t.len,hc],by simp [t.Yw],rfl,by rw[hc];simpa using t.last,fun j a b ha hb=>?_,fun p y hp=>?_⟩
      · rw[tU,N1,UP,←h1];exact t.ts
      · cases j with
        | zero=>simp at ha hb;subst ha;subst hb;exact Grown.refl _
        | succ j=>exact t.grown j a b (by simpa using ha) (by simpa using hb)
      · cases p with
        | zero=>
          simp at hp;subst hp
          refine ⟨by simp [E_,hxt],by simp [qA,E'],o,s.h,s.h,by rw[N1];exact ho,by simp [qA],by simp [qA],?_⟩
          have:(s.h::st1)[qA E ops (List.take 0 (i::rest))+1]? =some s1.h:=by simp [qA];exact t.first
          rw[this];exact jk
        | succ p=>
          obtain ⟨a1,a2,o2,hk,sk,a3,a4,a5,a6⟩:=t.step p y (by simpa using hp)
          refine ⟨?_,by rw[List.take_succ_cons,hc];omega,o2,hk,sk,a3,by rw[List.take_succ_cons,hc];simpa using a4,by rw[List.take_succ_cons,hc];simpa using a5,?_⟩
          · rw[List.take_succ_cons,tU,N1,UP,←h1];exact a1
          · rw[List.take_succ_cons,hc,h3] at *
            simpa using a6
   have plain:∀(x:Step) (s1:St),x.i=i→x.k=k→x.ts=s.ts→s1.ts=dR s.ts o.dst x.v→s1.ds=s.ds→s1.rc=s.rc→fI E o.op=false→Grown s.h s1.h→
    (∀hk sn,Grown s1.h hk→wy E call ops s.rc x o hk s.h sn)→(cW E call ops rest k s1).step x= .ok tr hs s'→∃st,UO E call ops s k (i::rest) tr hs st s':=by
    intro x s1 N1 E' hxt h1 h2 h3 he hg jk hd
    cases hr:cW E call ops rest k s1 with
    | fail why q=>rw[hr] at hd;simp [j4.step] at hd
    | ok Mg r7 s2=>
      rw[hr] at hd;simp [j4.step] at hd;obtain ⟨rfl,rfl,rfl⟩:=hd
      obtain ⟨st1,t⟩:=oA hr
      have hc:∀l,qA E ops (i::l)=qA E ops l:=fun l=>E9 l (by rw[hgd];simp [he])
      cases uq:st1 with
      | nil=>have:=t.first;rw[uq] at this;simp at this
      | cons s0 st2=>
      have Ug:s0=s1.h:=by have:=t.first;rw[uq] at this;simpa using this
      subst Ug
      have gZ:∀j,(s.h::st2)[j+1]? =st1[j+1]? :=fun j=>by rw[uq];rfl
      refine ⟨s.h::st2,by simp [N1,t.is],?_,t.ds.trans h2,t.rc.trans h3,by rw[hc];exact t.len,by have:=t.Yw;rw[uq] at this;simpa using this,rfl,by rw[hc];exact t.last,fun j a b ha hb=>?_,fun p y hp=>?_⟩
      · rw[tU,N1,UP,←h1];exact t.ts
      · cases j with
        | zero=>
          simp at ha;subst ha
          exact hg.trans (t.grown 0 _ b t.first hb)
        | succ j=>rw[gZ] at ha;exact t.grown (j+1) a b ha hb
      · cases p with
        | zero=>
          simp at hp;subst hp
          have h0:∃hk,r7[0]? =some hk:=by
           have:=t.len
           cases hh:r7 with
           | nil=>rw[hh] at this;simp at this
           | cons a _=>exact ⟨a,rfl⟩
          obtain ⟨hk,zm⟩:=h0
          refine ⟨by simp [E_,hxt],by simp [qA,E'],o,hk,s.h,by rw[N1];exact ho,by simpa [qA] using zm,by simp [qA],?_⟩
          exact jk hk _ (t.grown 0 _ hk t.first zm)
        | succ p=>
          obtain ⟨a1,a2,o2,hk,sk,a3,a4,a5,a6⟩:=t.step p y (by simpa using hp)
          have hsk:∃sk',(s.h::st2)[qA E ops (List.take p rest)]? =some sk'∧sk'.nx≤sk.nx:=by
           cases hq:qA E ops (List.take p rest) with
           | zero=>rw[hq] at a5;rw[t.first] at a5;simp at a5;subst a5;exact ⟨s.h,rfl,hg.nx⟩
           | succ q=>rw[hq] at a5;exact ⟨sk,by rw[gZ];exact a5,Nat.le_refl _⟩
          obtain ⟨sk',aek,ael⟩:=hsk
          refine ⟨?_,by rw[List.take_succ_cons,hc];exact a2,o2,hk,sk',a3,by rw[List.take_succ_cons,hc];exact a4,by rw[List.take_succ_cons,hc];exact aek,?_⟩
          · rw[List.take_succ_cons,tU,N1,UP,←h1];exact a1
          · rw[List.take_succ_cons,hc,gZ,←h3]
            unfold wy at a6 ⊢
            split<;>rename_i wz<;>rw[wz] at a6
            · exact a6
            · exact a6
            · exact a6
            · exact ⟨a6.1,a6.2.1,a6.2.2.1,Nat.le_trans ael a6.2.2.2.1,a6.2.2.2.2⟩
            · exact a6
   split at h
   · rename_i he
     split at h
     · rename_i hw
       split at h
       · rename_i v h' sB
         exact writes ⟨i,k,s.ts,v,.uk h'⟩ {s with ts:=dR s.ts o.dst v,h:=h'} rfl rfl rfl rfl rfl rfl he ⟨he,hw,sB,rfl⟩ h
       · simp at h
       · simp at h
     · rename_i hw
       exact writes ⟨i,k,s.ts,AV.undef,.off⟩ {s with ts:=dR s.ts o.dst AV.undef} rfl rfl rfl rfl rfl rfl he ⟨by simpa using hw,rfl,fun _=>rfl⟩ h
   · rename_i he
     have J0:fI E o.op=false:=by simpa using he
     split at h
     · rename_i hw
       split at h
       · rename_i v hp
         exact plain ⟨i,k,s.ts,v,.hJ⟩ {s with ts:=dR s.ts o.dst v} rfl rfl rfl rfl rfl rfl J0 (Grown.refl _) (fun hk sn _=>⟨J0,hw,hp⟩) h
       · split at h
         · rename_i v hp
           exact plain ⟨i,k,s.ts,v,.red⟩ {s with ts:=dR s.ts o.dst v} rfl rfl rfl rfl rfl rfl J0 (Grown.refl _) (fun hk sn _=>⟨J0,hw⟩) h
         · split at h
           · rename_i obj mk hp
             split at h
             · rename_i h' hn
               refine plain ⟨i,k,s.ts,mk s.h.nx,.so s.h.nx obj⟩ {s with ts:=dR s.ts o.dst (mk s.h.nx),h:=h'} rfl rfl rfl rfl rfl rfl J0 (Grown.new hn) (fun hk sn g=>⟨J0,hw,⟨mk,hp,rfl⟩,Nat.le_refl _,?_⟩) h
               have:=(aw.lP hn).2.1
               have:=g.nx
               simp at this;omega
             · simp at h
           · simp at h
     · rename_i hw
       exact plain ⟨i,k,s.ts,AV.undef,.off⟩ {s with ts:=dR s.ts o.dst AV.undef} rfl rfl rfl rfl rfl rfl J0 (Grown.refl _) (fun hk sn _=>⟨by simpa using hw,rfl,fun h=>by rw[J0] at h;simp at h⟩) h
end Go.Ab
end
section
namespace Go.Ab
variable {E:Env}
theorem tV (ops:Array Oper) (val:Nat→AV) (x:Nat):∀(l:List Nat) (ts:List AV) (_:∀j∈l,hX ops j≠some x),(ph ops val ts l)[x]? =ts[x]?
 | [],_,_=>rfl
 | i::l,ts,h=>by
   show (ph ops val (dR ts (hX ops i) (val i)) l)[x]? =_
   rw[tV ops val x l _ (fun j hj=>h j (by simp [hj]))]
   have:=h i (by simp)
   cases hd:hX ops i with
   | none=>rfl
   | some d=>
     rw[hd] at this
     have eM:d≠x:=fun e=>this (by rw[e])
     simp [dR,List.getElem?_set_ne eM]
theorem A9 (ops:Array Oper) (val:Nat→AV) (x j:Nat) (hj:hX ops j=some x):∀(l:List Nat) (ts:List AV) (_:j∈l) (_:∀j'∈l,hX ops j'=some x→j'=j),(ph ops val ts l)[x]? =if x<ts.length then some (val j) else none
 | i::l,ts,hm,hu=>by
   show (ph ops val (dR ts (hX ops i) (val i)) l)[x]? =_
   have hlen:(dR ts (hX ops i) (val i)).length=ts.length:=by cases hX ops i<;>simp [dR]
   by_cases Pg:j∈l
   · rw[A9 ops val x j hj l _ Pg (fun j' h=>hu j' (by simp [h])),hlen]
   · have hij:i=j:=by simp at hm;rcases hm with h | h;exact h.symm;exact absurd h Pg
     subst hij
     rw[tV ops val x l _ (fun j' pf e=>Pg (hu j' (by simp [pf]) e▸pf))]
     rw[hj]
     simp [dR,List.getElem?_set]
theorem vr {ops:Array Oper} {val:Nat→AV} {x:Nat} {l d:List Nat} (ts:List AV) (hu:∀j j',hX ops j=some x→hX ops j'=some x→j=j') (W8:∀j,hX ops j=some x→(j∈l↔j∈d)):
 (ph ops val ts l)[x]? =(ph ops val ts d)[x]? :=by
 by_cases h:∃j,hX ops j=some x∧j∈l
 · obtain ⟨j,hj,hl⟩:=h
   rw[A9 ops val x j hj l ts hl (fun j' _ e=>hu j' j e hj),A9 ops val x j hj d ts ((W8 j hj).1 hl) (fun j' _ e=>hu j' j e hj)]
 · rw[tV ops val x l ts (fun j hj e=>h ⟨j,e,hj⟩),tV ops val x d ts (fun j hj e=>h ⟨j,e,(W8 j e).2 hj⟩)]
theorem yn {l r:List AV} {x:Nat} (h:l[x]? =r[x]?) (d:AV):l.getD x d=r.getD x d:=by simp [List.getD,h]
def valOf (tr:List Step) (i:Nat):AV:=((tr.find? (fun x=>x.i==i)).map (·.v)).getD AV.undef
theorem HN {tr:List Step} (hn:(tr.map (·.i)).Nodup) {p:Nat} {x:Step} (hp:tr[p]? =some x):valOf tr x.i=x.v:=by
 unfold valOf
 have:tr.find? (fun y=>y.i==x.i)=some x:=by
  rw[List.find?_eq_some_iff_getElem]
  obtain ⟨lR,hx⟩:=List.getElem?_eq_some_iff.1 hp
  refine ⟨by simp,p,lR,hx,fun j hj=>?_⟩
  have Pg:j<tr.length:=by omega
  simp only[Bool.not_eq_true',beq_eq_false_iff_ne]
  intro e
  have h1:(tr.map (·.i))[j]? =some x.i:=by simp [Pg,e]
  have h2:(tr.map (·.i))[p]? =some x.i:=by simp [lR,hx]
  have:=(List.getElem?_inj (by simpa using Pg) hn).1 (h1.trans h2.symm)
  omega
 rw[this];rfl
theorem Ff (ops:Array Oper) {tr:List Step} (hn:(tr.map (·.i)).Nodup) (ts:List AV) (p:Nat):E_ ops ts (tr.take p)=ph ops (valOf tr) ts ((tr.map (·.i)).take p):=by
 have key:∀(l:List Step) (ts:List AV),(∀x∈l,valOf tr x.i=x.v)→E_ ops ts l=ph ops (valOf tr) ts (l.map (·.i)):=by
  intro l
  induction l with
  | nil=>intro ts _;rfl
  | cons x l ih=>
    intro ts h
    show E_ ops (dR ts (hX ops x.i) x.v) l=ph ops (valOf tr) (dR ts (hX ops x.i) (valOf tr x.i)) (l.map (·.i))
    rw[h x (by simp),ih _ (fun y hy=>h y (by simp [hy]))]
 rw[key _ _ (fun x hx=>?_),List.map_take]
 obtain ⟨q,hq⟩:=List.getElem?_of_mem (List.mem_of_mem_take hx)
 exact HN hn hq
theorem OK.place {φ:Ph} {h:aw} {w:World} (ok:OK E φ h w) {n:Nat} {obj:aY} (hg:h.get n=some obj) (EN:φ n=none) (lR:n<h.nx) {O:Obj}
 (ho:OR E (φ.add n ⟨w.heap.size,0,0⟩) obj ⟨w.heap.size,0,0⟩ (some O)):OK E (φ.add n ⟨w.heap.size,0,0⟩) h (w.alloc O)∧φ.le (φ.add n ⟨w.heap.size,0,0⟩):=by
 have hle:φ.le (φ.add n ⟨w.heap.size,0,0⟩):=fun j m hm=>by
  unfold Ph.add;split
  · rename_i e;subst e;rw[EN] at hm;simp at hm
  · exact hm
 have kA:∀j,j≠n→(φ.add n ⟨w.heap.size,0,0⟩) j=φ j:=fun j hj=>by simp [Ph.add,hj]
 have iE:(φ.add n ⟨w.heap.size,0,0⟩) n=some ⟨w.heap.size,0,0⟩:=by simp [Ph.add]
 have W9:(w.alloc O).heap=w.heap.push O:=rfl
 have hblk:∀j p m,h.get j=some p→φ j=some m→m.eg<w.heap.size:=fun j p m hj hm=>by
  have Az:=ok.live j p m hj hm
  rcases Nat.lt_or_ge m.eg w.heap.size with a | a
  · exact a
  · exfalso
    rw[Array.getElem?_eq_none a] at Az
    exact Az.absurd
 refine ⟨⟨fun j m hm=>?_,ok.nx,fun g hg=>hle _ _ (ok.vh g hg),fun j p m hj hm=>?_,fun j k p q m r hj hk hm hr hw hb=>?_⟩,hle⟩
 · by_cases e:j=n
   · omega
   · rw[kA j e] at hm;exact ok.z_ j m hm
 · by_cases e:j=n
   · subst e;rw[iE] at hm;simp at hm;subst hm;rw[hg] at hj;simp at hj;subst hj;rw[W9];simpa using ho
   · rw[kA j e] at hm
     have hb:=hblk j p m hj hm
     rw[W9,Array.getElem?_push,if_neg (by omega)]
     exact (ok.live j p m hj hm).mono hle
 · by_cases e:j=n<;>by_cases e':k=n
   · rw[e,e']
   · subst e;rw[iE] at hm;simp at hm;subst hm;rw[kA k e'] at hr;have:=hblk k q r hk hr;simp at hb;omega
   · subst e';rw[iE] at hr;simp at hr;subst hr;rw[kA j e] at hm;have:=hblk j p m hj hm;simp at hb;omega
   · rw[kA j e] at hm;rw[kA k e'] at hr;exact ok.inj j k p q m r hj hk hm hr hw hb
theorem Fr.place {φ₀ φ:Ph} {h₀ h:aw} {w₀ w:World} (f:Fr φ₀ h₀ w₀ φ h w) {n:Nat} (hn:h₀.nx≤n) (EN:φ n=none) (O:Obj):Fr φ₀ h₀ w₀ (φ.add n ⟨w.heap.size,0,0⟩) h (w.alloc O):=by
 have kA:∀j,j≠n→(φ.add n ⟨w.heap.size,0,0⟩) j=φ j:=fun j hj=>by simp [Ph.add,hj]
 have iE:(φ.add n ⟨w.heap.size,0,0⟩) n=some ⟨w.heap.size,0,0⟩:=by simp [Ph.add]
 refine ⟨fun j m hm=>?_,fun i hi=>by rw[kA i (by omega)];exact f.old i hi,f.nx,f.os,f.tape,f.output,by have:=f.size;simp;omega,fun b hb Yg=>?_,fun i o l hi hr hl=>?_⟩
 · by_cases e:j=n
   · subst e;have:=f.ext j m hm;rw[EN] at this;simp at this
   · rw[kA j e];exact f.ext j m hm
 · have:=f.size
   rw[show (w.alloc O).heap=w.heap.push O from rfl,Array.getElem?_push,if_neg (by omega)]
   exact f.wb b hb Yg
 · by_cases e:i=n
   · subst e;rw[iE] at hl;simp at hl;subst hl;exact .inl f.size
   · rw[kA i e] at hl;exact f.own i o l hi hr hl
theorem filter_le {P:Nat→Bool} {l:List Nat} {K:Nat} (h:∀q e,l[q]? =some e→P e=true→q<K):(l.filter P).length≤K:=by
 have h1:(l.drop K).filter P=[]:=by
  rw[List.filter_eq_nil_iff]
  intro e he hP
  obtain ⟨q,hq⟩:=List.getElem?_of_mem he
  rw[List.getElem?_drop] at hq
  have:=h _ e hq hP
  omega
 calc (l.filter P).length=((l.take K++l.drop K).filter P).length:=by rw[List.take_append_drop]
  _=((l.take K).filter P).length:=by rw[List.filter_append,h1,List.append_nil]
  _≤(l.take K).length:=List.length_filter_le _ _
  _≤K:=by simp;omega
theorem wB {P:Nat→Bool}:∀{l:List Nat} {e:Nat} (_:l[(l.takeWhile P).length]? =some e),P e=false
 | [],e,h=>by simp at h
 | x::l,e,h=>by
   by_cases hx:P x=true
   · rw[List.takeWhile_cons_of_pos hx] at h
     exact wB (l:=l) (by simpa using h)
   · rw[List.takeWhile_cons_of_neg hx] at h
     simp at h;subst h;simpa using hx
end Go.Ab
end
section
namespace Go.Ab
variable {E:Env}
structure Fl (E:Env) (call:bj) (ops:Array Oper) (pl:mD) (s s':St) (tr:List Step) (hs st:List aw):Prop where
 rU:A8 E ops pl
 trace:UO E call ops s 0 pl.order tr hs st s'
 still:∀x∈tr,∀K hk,x.k≤K→K≤ku pl.bP pl.an x.i→hs[K]? =some hk→jD E ops x hk=true
 ids:∀(x y:Step),x∈tr→y∈tr→∀(n:Nat) (o q:aY),x.kind= .so n o→y.kind= .so n q→x.i=y.i
structure Inv (E:Env) (ops:Array Oper) (pl:mD) (s:St) (tr:List Step) (hs st:List aw) (φ₀:Ph) (w₀:World) (vX:List Deferred) (d:List Nat) (b_:Array Bool) (K:Nat) (φ:Ph) (a:Act) (w:World):Prop where
 nd:d.Nodup
 lt:∀i∈d,i<ops.size
 b_:∀i,i<ops.size→b_[i]? =some (decide (i∈d))
 closed:∀i∈d,∀j,dM pl.an i j=true→j∈d
 bP:∀q e,pl.bP[q]? =some e→(e∈d↔q<K)
 Kle:K≤pl.bP.length
 ts:LR φ (ph ops (valOf tr) s.ts d) a.tmps.toList
 ds:a.defers=vX
 ok:∃hK,hs[K]? =some hK∧OK E φ hK w∧Fr φ₀ s.h w₀ φ hK w
 iy:∀x∈tr,∀n obj,x.kind= .so n obj→x.i ∉ d→x.k≤K→φ n=none∧s.h.nx≤n∧∀hK,hs[K]? =some hK→n<hK.nx
section
variable {call:bj} {ops:Array Oper} {pl:mD} {s s':St} {tr:List Step} {hs st:List aw}
theorem Fl.at (r:Fl E call ops pl s s' tr hs st) {p:Nat} {x:Step} (hp:tr[p]? =some x):
 pl.order[p]? =some x.i∧x.i ∉ pl.order.take p∧(∀j,dM pl.an x.i j=true→j∈pl.order.take p)∧x.k=qA E ops (pl.order.take p)∧
 ∃o,ops[x.i]? =some o∧(fI E o.op=true→pl.bP[x.k]? =some x.i)∧(fI E o.op=false→EL pl.bP pl.an x.i=x.k):=by
 have h1:pl.order[p]? =some x.i:=by rw[←r.trace.is,List.getElem?_map,hp];rfl
 obtain ⟨h2,_,_⟩:=iZ r.rU.order
 obtain ⟨a1,a2,a3,a4,a5,a6⟩:=h2 p x.i h1
 obtain ⟨b1,b2,o,hk,sk,b3,_⟩:=r.trace.step p x hp
 have hgd:ops.getD x.i default=o:=by simp [Array.getD_eq_getD_getElem?,b3]
 rw[hgd] at a5 a6
 have Ht:x.k=qA E ops (pl.order.take p):=by omega
 refine ⟨h1,a3,fun j hj=>(a4 j hj).resolve_left (by simp),Ht,o,b3,fun he=>?_,fun he=>?_⟩
 · have:=a5 he;rw[Ht];simpa using this
 · have:=a6 he;omega
theorem uM:∀{l:List Nat} (_:∀(p i:Nat),l[p]? =some i→i ∉ l.take p),l.Nodup
 | [],_=> .nil
 | x::l,h=>by
   refine List.nodup_cons.2 ⟨fun hm=>?_,uM (fun p i hp hi=>h (p+1) i (by simpa using hp) (by simp [hi]))⟩
   obtain ⟨q,hq⟩:=List.getElem?_of_mem hm
   exact h (q+1) x (by simpa using hq) (by simp)
theorem Fl.nodup (r:Fl E call ops pl s s' tr hs st):pl.order.Nodup:=by
 obtain ⟨h2,_,_⟩:=iZ r.rU.order
 exact uM (fun p i hp=>(h2 p i hp).2.2.1)
theorem Fl.all (r:Fl E call ops pl s s' tr hs st) {i:Nat} (hi:i<ops.size):∃(p:Nat) (x:Step),tr[p]? =some x∧x.i=i:=by
 obtain ⟨_,h3,_⟩:=iZ r.rU.order
 have:=(h3 i hi).resolve_left (by simp)
 rw[←r.trace.is] at this
 obtain ⟨x,hx,rfl⟩:=List.mem_map.1 this
 obtain ⟨p,hp⟩:=List.getElem?_of_mem hx
 exact ⟨p,x,hp,rfl⟩
theorem wC {ops:Array Oper} {pl:mD} (pok:A8 E ops pl) {x j j':Nat} (h:hX ops j=some x) (h':hX ops j'=some x):j=j':=by
 unfold hX at h h'
 cases ho:ops[j]? with
 | none=>rw[ho] at h;simp at h
 | some o=>
 cases HO:ops[j']? with
 | none=>rw[HO] at h';simp at h'
 | some o'=>
 rw[ho] at h;rw[HO] at h'
 simp at h h'
 rcases Nat.decEq j j' with eM | he
 · exact absurd h (pok.slot j j' o o' x eM ho HO h').1
 · exact he
theorem agree (r:Fl E call ops pl s s' tr hs st) {p:Nat} {x:Step} {o:Oper} (hp:tr[p]? =some x) (ho:ops[x.i]? =some o) {d:List Nat} (hd:x.i ∉ d) (Pj:∀i∈d,∀j,dM pl.an i j=true→j∈d)
 (qO:∀j,dM pl.an x.i j=true→j∈d):ox E x.ts (ph ops (valOf tr) s.ts d) o.op∧cF ops (ph ops (valOf tr) s.ts d) o=cF ops x.ts o:=by
 obtain ⟨h1,h2,h3,_,_⟩:=r.at hp
 have pg:(tr.map (·.i)).Nodup:=by rw[r.trace.is];exact r.nodup
 have Qd:x.ts=ph ops (valOf tr) s.ts (pl.order.take p):=by
  rw[(r.trace.step p x hp).1,Ff ops pg,r.trace.is]
 have hpc:∀j∈pl.order.take p,∀m,dM pl.an j m=true→m∈pl.order.take p:=by
  intro j hj m hm
  obtain ⟨q,hq⟩:=List.getElem?_of_mem hj
  have hqp:q<p:=by
   have:=(List.getElem?_eq_some_iff.1 hq).1
   simp at this;omega
  have hq':pl.order[q]? =some j:=by rw[List.getElem?_take] at hq;rw[if_pos hqp] at hq;exact hq
  obtain ⟨f1,_,_⟩:=iZ r.rU.order
  have:=((f1 q j hq').2.2.2.1 m hm).resolve_left (by simp)
  exact List.mem_of_mem_take (i:=q) (l:=pl.order.take p) (by rw[List.take_take,Nat.min_eq_left (Nat.le_of_lt hqp)];exact this)
 have same:∀t,(∀j p',j≠x.i→ops[j]? =some p'→p'.dst=some t→dM pl.an x.i j=true∨dM pl.an j x.i=true)→(ph ops (valOf tr) s.ts (pl.order.take p))[t]? =(ph ops (valOf tr) s.ts d)[t]? :=by
  intro t ht
  refine vr s.ts (fun j j' a b=>wC r.rU a b) (fun j hj=>?_)
  by_cases hji:j=x.i
  · subst hji;exact ⟨fun h=>absurd h h2,fun h=>absurd h hd⟩
  · obtain ⟨p',Yx,J1⟩:∃p',ops[j]? =some p'∧p'.dst=some t:=by
     unfold hX at hj
     cases W_:ops[j]? with
     | none=>rw[W_] at hj;simp at hj
     | some p'=>rw[W_] at hj;exact ⟨p',rfl,by simpa using hj⟩
    rcases ht j p' hji Yx J1 with h | h
    · exact ⟨fun _=>qO j h,fun _=>h3 j h⟩
    · exact ⟨fun hm=>absurd (hpc j hm _ h) h2,fun hm=>absurd (Pj j hm _ h) hd⟩
 rw[Qd]
 refine ⟨fun y hy=>?_,?_⟩
 · cases y with
   | tmp t=>
     have ht:t∈tmpsOf o:=by
      unfold tmpsOf;rw[List.mem_filterMap];exact ⟨.tmp t,by simpa using hy,rfl⟩
     simp only[eu]
     rw[yn (same t (fun j p' eM Yx J1=>(r.rU.slot x.i j o p' t (Ne.symm eM) ho Yx J1).2 ht))]
   | const c=>rfl
   | global g=>rfl
   | func f=>rfl
 · unfold cF
   cases hg:o.guard with
   | none=>rfl
   | some gw=>
     obtain ⟨g,want⟩:=gw
     simp only
     cases hdg:(ops[g]?).bind (·.dst) with
     | none=>rfl
     | some t=>
       simp only
       have Yv:=r.rU.guard x.i o g want ho hg
       rw[same t (fun j p' eM Yx J1=>by
        have:j=g:=wC r.rU (x:=t) (by unfold hX;rw[Yx];simpa using J1) hdg
        subst this;exact .inl Yv)]
end
end Go.Ab
end
section
namespace Go.Ab
variable {E:Env}
section
variable {call:bj} {ops:Array Oper} {pl:mD} {s s':St} {tr:List Step} {hs st:List aw}
theorem DF {l:List Oper} {i:Nat}:i∈nv E l↔∃o,l[i]? =some o∧fI E o.op=true:=by
 unfold nv
 simp only[List.mem_map,List.mem_filter,Prod.exists]
 constructor
 · rintro ⟨o,j,⟨h1,h2⟩,rfl⟩
   exact ⟨o,by rw[List.mk_mem_zipIdx_iff_getElem?] at h1;exact h1,h2⟩
 · rintro ⟨o,h1,h2⟩
   exact ⟨o,i,⟨by rw[List.mk_mem_zipIdx_iff_getElem?];exact h1,h2⟩,rfl⟩
theorem A8.UQ (pok:A8 E ops pl) {i:Nat} {o:Oper} (ho:ops[i]? =some o):i∈pl.bP↔fI E o.op=true:=by
 rw[pok.bP,DF]
 constructor
 · rintro ⟨o',h1,h2⟩
   have:ops.toList[i]? =some o:=by simpa using ho
   rw[this] at h1;simp at h1;subst h1;exact h2
 · intro h;exact ⟨o,by simpa using ho,h⟩
theorem Inv.A_ {φ₀ φ:Ph} {w₀ w:World} {vX:List Deferred} {d:List Nat} {b_:Array Bool} {K:Nat} {a:Act} (r:Fl E call ops pl s s' tr hs st) (inv:Inv E ops pl s tr hs st φ₀ w₀ vX d b_ K φ a w)
 {x:Step} (hx:pl.bP[x.k]? =some x.i) (hd:x.i ∉ d) (qO:∀j,dM pl.an x.i j=true→j∈d):x.k=K:=by
 have h1:¬x.k<K:=fun h=>hd ((inv.bP x.k x.i hx).2 h)
 rcases Nat.lt_or_ge K x.k with h | h
 · exfalso
   obtain ⟨q,hq⟩:∃q,x.k=q+1:=⟨x.k - 1,by omega⟩
   have lR:q<pl.bP.length:=by have:=(List.getElem?_eq_some_iff.1 hx).1;omega
   have hq':pl.bP[q]? =some pl.bP[q]:=by simp [lR]
   have:=r.rU.chain q _ x.i hq' (by rw[←hq];exact hx)
   have:=(inv.bP q _ hq').1 (qO _ this)
   omega
 · omega
theorem Inv.Qe {φ₀ φ:Ph} {w₀ w:World} {vX:List Deferred} {d:List Nat} {b_:Array Bool} {K:Nat} {a:Act} (inv:Inv E ops pl s tr hs st φ₀ w₀ vX d b_ K φ a w)
 {i:Nat} (hd:i ∉ d) (qO:∀j,dM pl.an i j=true→j∈d):EL pl.bP pl.an i≤K∧K≤ku pl.bP pl.an i:=by
 refine ⟨filter_le (fun q e hq he=>(inv.bP q e hq).1 (qO e he)),?_⟩
 rcases Nat.lt_or_ge (ku pl.bP pl.an i) K with h | h
 · exfalso
   have lR:ku pl.bP pl.an i<pl.bP.length:=by have:=inv.Kle;omega
   have hq:pl.bP[ku pl.bP pl.an i]? =some pl.bP[ku pl.bP pl.an i]:=by simp [lR]
   have h1:=wB (P:=fun e=> !dM pl.an e i) hq
   simp only[Bool.not_eq_false'] at h1
   exact hd (inv.closed _ ((inv.bP _ _ hq).2 h) i h1)
 · exact h
theorem N2 (ops:Array Oper) (val:Nat→AV) (ts:List AV) (d:List Nat) (i:Nat):ph ops val ts (d++[i])=dR (ph ops val ts d) (hX ops i) (val i):=by
 simp [ph]
theorem Inv.snoc {φ₀ φ φ':Ph} {w₀ w w':World} {vX:List Deferred} {d:List Nat} {b_:Array Bool} {K K':Nat} {a:Act} (r:Fl E call ops pl s s' tr hs st) (inv:Inv E ops pl s tr hs st φ₀ w₀ vX d b_ K φ a w)
 {p:Nat} {x:Step} {o:Oper} (hp:tr[p]? =some x) (ho:ops[x.i]? =some o) (hd:x.i ∉ d) (qO:∀j,dM pl.an x.i j=true→j∈d) (hle:φ.le φ') {v':Value} (hv:VR φ' x.v v')
 (hK:(fI E o.op=false∧K'=K)∨(fI E o.op=true∧x.k=K∧pl.bP[x.k]? =some x.i∧K'=K+1))
 (kH:∃hK,hs[K']? =some hK∧OK E φ' hK w'∧Fr φ₀ s.h w₀ φ' hK w')
 (abg:∀y∈tr,∀n obj,y.kind= .so n obj→y.i ∉ d→y.i≠x.i→y.k≤K'→φ' n=none∧s.h.nx≤n∧∀hK,hs[K']? =some hK→n<hK.nx):
 Inv E ops pl s tr hs st φ₀ w₀ vX (d++[x.i]) (b_.setIfInBounds x.i true) K' φ' (a.put o.dst v') w':=by
 have pg:(tr.map (·.i)).Nodup:=by rw[r.trace.is];exact r.nodup
 have lR:x.i<ops.size:=(Array.getElem?_eq_some_iff.1 ho).1
 refine ⟨?_,fun i hi=>?_,fun i hi=>?_,fun i hi j hj=>?_,fun q e hq=>?_,?_,?_,by rw[put_defers];exact inv.ds,kH,fun y hy n obj yi hyd hyk=>?_⟩
 · rw[List.nodup_append];exact ⟨inv.nd,by simp,fun a ha b hb=>by simp at hb;subst hb;exact fun e=>hd (e▸ha)⟩
 · simp at hi;rcases hi with h | rfl
   · exact inv.lt i h
   · exact lR
 · have h1:=inv.b_ i hi
   by_cases e:x.i=i
   · subst e
     have NS:x.i<b_.size:=(Array.getElem?_eq_some_iff.1 h1).1
     rw[Array.getElem?_setIfInBounds];simp [NS]
   · rw[Array.getElem?_setIfInBounds_ne e,h1]
     simp [show i≠x.i from fun h=>e h.symm]
 · simp at hi;rcases hi with h | rfl
   · exact List.mem_append_left _ (inv.closed i h j hj)
   · exact List.mem_append_left _ (qO j hj)
 · rcases hK with ⟨he,rfl⟩ | ⟨he,E',hxe,rfl⟩
   · have eM:e≠x.i:=fun h=>by
      subst h
      have:=(r.rU.UQ ho).1 (List.mem_of_getElem? hq)
      rw[he] at this;simp at this
     simp [eM,inv.bP q e hq]
   · have hqe:e=x.i↔q=K:=by
      constructor
      · intro h;subst h
        have:=(List.getElem?_inj (List.getElem?_eq_some_iff.1 hq).1 r.rU.nd).1 (hq.trans hxe.symm)
        omega
      · intro h;subst h;rw[←E',hxe] at hq;simpa using hq.symm
     simp only[List.mem_append,List.mem_singleton,inv.bP q e hq,hqe]
     omega
 · rcases hK with ⟨he,rfl⟩ | ⟨he,E',hxe,rfl⟩
   · exact inv.Kle
   · have:=(List.getElem?_eq_some_iff.1 hxe).1;omega
 · rw[N2,HN pg hp]
   have:hX ops x.i=o.dst:=by simp [hX,ho]
   rw[this]
   exact P4 (inv.ts.mono hle) o.dst hv
 · simp only[List.mem_append,List.mem_singleton,not_or] at hyd
   exact abg y hy n obj yi hyd.1 hyd.2 hyk
theorem N3 (hE:kK E) {call:bj} (dq:iI E call) {ts:List AV} {h h':aw} {rc:RC} {o:Oper} {v:AV} (sB:dp E call ts h rc o= .val v h') {i:Nat} {rest:List Nat} (ho:ops[i]? =some o)
 {φ:Ph} {a:Act} {w:World} {b:Frame} {k:List Item} {K:Bool→List Frame} (Qd:LR φ ts a.tmps.toList) (ok:OK E φ h w) (gM:nA φ b K rc) (hw:Region.wanted o (yielded ops a.tmps)=true):
 ∃φ' w' v',VR φ' v v'∧OK E φ' h' w'∧Fr φ h w φ' h' w'∧Steps E.P (lone (b.atR a (.inRegion ops (i::rest)::k)) (cur K rc) w) (lone (b.atR (a.put o.dst v') (.inRegion ops rest::k)) (cur K rc) w'):=by
 have yh:=vp hE dq (rc:=rc) (o:=o) Qd ok
 have pg:rc.ov=false∨∀c,o.op≠ .defer c:=by
  by_cases hd:∃c,o.op= .defer c
  · obtain ⟨c,hd⟩:=hd
    unfold dp at sB
    simp only[hd] at sB
    split at sB<;>simp at sB
  · exact .inr (fun c e=>hd ⟨c,e⟩)
 have lk:=qM gM pg a.eval
 rw[sB] at yh
 cases yh with
 | val v h' φ' w' v' hv r_ fr run=>exact ⟨φ',w',v',hv,r_,fr,.one (mV lk ho hw run)⟩
 | skip h' φ' w' r_ fr run=>exact ⟨φ',w',undef,.undef φ',r_,fr,.one (HG lk ho hw run)⟩
 | enter v h' F args all hr hf hl run=>
   obtain ⟨n,start,hp,jk⟩:=hr φ w all ok hf hl
   obtain ⟨φ',w',v',hv,r_,fr,jv⟩:=jk (b.atR a (.inRegion ops (i::rest)::k)) (cur K rc)
   rw[tS ho] at jv
   exact ⟨φ',w',v',hv,r_,fr,.head (go_enter lk ho hw hp (run n start hp)) jv⟩
 | P_ eM CV run=>
   have EN:∀fr:Frame,fr.kind=b.kind→tryRecover fr (cur K rc)=none:=by
    cases E6:rc with
    | no=>rw[E6] at gM;exact gM.2
    | iy v=>exact absurd E6 (eM v)
    | done=>rw[E6] at gM;exact gM.2
    | pX l=>rw[E6] at CV;simp [RC.ov] at CV
   exact ⟨φ,w,.nilIface,.nilIface,ok,Fr.refl _ _ _,.one (uL (gM.plain CV) lk ho hw run (EN _ rfl))⟩
theorem Inv.Mh (hE:kK E) {DG:bj} (dq:iI E DG) {φ₀ φ:Ph} {w₀ w:World} {vX:List Deferred} {d:List Nat} {b_:Array Bool} {K:Nat} {a:Act} (r:Fl E call ops pl s s' tr hs st) (inv:Inv E ops pl s tr hs st φ₀ w₀ vX d b_ K φ a w)
 {b:Frame} {k:List Item} {Ks:Bool→List Frame} (gM:nA φ₀ b Ks s.rc) {i:Nat} (hi:i<ops.size) (hd:i ∉ d) (qO:∀j,dM pl.an i j=true→j∈d)
 (DH:∀(x:Step) (o:Oper) (hk h':aw),x∈tr→x.i=i→ops[x.i]? =some o→hs[x.k]? =some hk→x.kind= .uk h'→dp E DG x.ts hk s.rc o= .val x.v h') (rest:List Nat):
 ∃K' φ' a' w',Inv E ops pl s tr hs st φ₀ w₀ vX (d++[i]) (b_.setIfInBounds i true) K' φ' a' w'∧
  Steps E.P (lone (b.atR a (.inRegion ops (i::rest)::k)) (cur Ks s.rc) w) (lone (b.atR a' (.inRegion ops rest::k)) (cur Ks s.rc) w'):=by
 obtain ⟨p,x,hp,rfl⟩:=r.all hi
 have Yo:x∈tr:=List.mem_of_getElem? hp
 obtain ⟨h1,h2,h3,hk,o,ho,sB,Xa⟩:=r.at hp
 obtain ⟨_,_,o',hk1,sk1,HO,zm,hsk,jk⟩:=r.trace.step p x hp
 rw[ho] at HO;simp at HO;subst HO
 rw[←hk] at zm hsk jk
 obtain ⟨hag,Qf⟩:=agree r hp ho hd inv.closed qO
 obtain ⟨hK,Xb,ok,fr⟩:=inv.ok
 have Ui:Region.wanted o (yielded ops a.tmps)=cF ops x.ts o:=by rw[vo inv.ts o,Qf]
 have UR:ox E (ph ops (valOf tr) s.ts d) x.ts o.op:=fun y hy=>(hag y hy).symm
 have same:∀y∈tr,∀n obj,y.kind= .so n obj→y.i ∉ d→y.i≠x.i→y.k≤K→φ n=none∧s.h.nx≤n∧∀hK,hs[K]? =some hK→n<hK.nx:=
  fun y hy n obj a1 a2 _ a3=>inv.iy y hy n obj a1 a2 a3
 have wrote:∀(φ':Ph) (h':aw) (w':World),x.k=K→st[K+1]? =some h'→OK E φ' h' w'→Fr φ hK w φ' h' w'→
  ∃Mi,hs[K+1]? =some Mi∧OK E φ' Mi w'∧Fr φ₀ s.h w₀ φ' Mi w'∧
  ∀y∈tr,∀n obj,y.kind= .so n obj→y.i ∉ d→y.i≠x.i→y.k≤K+1→φ' n=none∧s.h.nx≤n∧∀hK,hs[K+1]? =some hK→n<hK.nx:=by
  intro φ' h' w' E' Yy r_ J2
  have lR:K+1<hs.length:=by rw[←r.trace.Yw];exact (List.getElem?_eq_some_iff.1 Yy).1
  have hhs:hs[K+1]? =some hs[K+1]:=by simp [lR]
  have g:=r.trace.grown (K+1) h' _ Yy hhs
  obtain ⟨A',Yz⟩:=r_.grown g
  have Uj:=(fr.trans J2).trans Yz
  refine ⟨_,hhs,A',Uj,fun y hy n obj a1 a2 a3 a4=>?_⟩
  have hnx:∀Mi,hs[K+1]? =some Mi→Mi=hs[K+1]:=fun Mi e=>by rw[hhs] at e;simpa using e.symm
  rcases Nat.lt_or_ge K y.k with h | h
  ·
   have hyk:y.k=K+1:=by omega
   obtain ⟨q,hq⟩:=List.getElem?_of_mem hy
   obtain ⟨_,_,_,hky,oy,hoy,_,_⟩:=r.at hq
   obtain ⟨_,_,oy',aem,aen,aeo,C6,C7,Kx⟩:=r.trace.step q y hq
   rw[←hky,hyk] at C6 C7
   rw[Yy] at C7;simp at C7;subst C7
   unfold wy at Kx
   rw[a1] at Kx
   obtain ⟨_,_,_,hn1,Mj⟩:=Kx
   refine ⟨?_,?_,fun Mi e=>?_⟩
   · cases hφ:φ' n with
     | none=>rfl
     | some l=>have:=r_.z_ n l hφ;omega
   · have:=(fr.trans J2).nx;omega
   · rw[e] at C6;simp at C6;subst C6;exact Mj
  · obtain ⟨b1,b2,b3⟩:=inv.iy y hy n obj a1 a2 h
    have hn:=b3 hK Xb
    refine ⟨by rw[J2.old n hn];exact b1,b2,fun Mi e=>?_⟩
    have:=J2.nx;have:=g.nx
    rw[hnx _ e];omega
 have still:fI E o.op=false→jD E ops x hK=true:=fun he=>by
  obtain ⟨w1,w2⟩:=inv.Qe hd qO
  exact r.still x Yo K hK (by rw[←Xa he];exact w1) w2 Xb
 have hgd:ops.getD x.i default=o:=by simp [Array.getD_eq_getD_getElem?,ho]
 have skip:cF ops x.ts o=false→step E.P (lone (b.atR a (.inRegion ops (x.i::rest)::k)) (cur Ks s.rc) w)= .next (lone (b.atR (a.put o.dst undef) (.inRegion ops rest::k)) (cur Ks s.rc) w):=fun hw=>by
  have:=stepR_op_skip (P:=E.P) (b:=b) (a:=a) (k:=k) (cs:=cur Ks s.rc) (w:=w) (ops:=ops) (i:=x.i) (rest:=rest) (by rw[ho];simp;rw[Ui];exact hw)
  rw[this,ho];rfl
 unfold wy at jk
 split at jk
 ·
  obtain ⟨hw,hv,hn⟩:=jk
  have hvr:VR φ x.v undef:=by rw[hv];exact .undef φ
  by_cases he:fI E o.op=true
  · have E':=inv.A_ r (sB he) hd qO
    have uq:=hn he
    rw[E'] at uq zm
    rw[Xb] at zm;simp at zm;subst zm
    obtain ⟨Mi,q1,q2,q3,q4⟩:=wrote φ hK w E' uq ok (Fr.refl _ _ _)
    exact ⟨K+1,φ,_,w,inv.snoc r hp ho hd qO (Ph.le_refl φ) hvr (.inr ⟨he,E',sB he,rfl⟩) ⟨Mi,q1,q2,q3⟩ q4,.one (skip hw)⟩
  · have J0:fI E o.op=false:=by simpa using he
    exact ⟨K,φ,_,w,inv.snoc r hp ho hd qO (Ph.le_refl φ) hvr (.inl ⟨J0,rfl⟩) inv.ok same,.one (skip hw)⟩
 ·
  obtain ⟨he,hw,hpu⟩:=jk
  rw[←HK UR] at hpu
  have pg:∀c,o.op≠ .defer c:=fun c e=>by rw[e] at hpu;simp [bE] at hpu
  obtain ⟨v',hv,hr⟩:=zf hE.ext ok.gl inv.ts hpu
  exact ⟨K,φ,_,w,inv.snoc r hp ho hd qO (Ph.le_refl φ) hv (.inl ⟨he,rfl⟩) inv.ok same,.one (mV (qM gM (.inr pg) _) ho (Ui.trans hw) (hr w))⟩
 ·
  rename_i wz
  obtain ⟨he,hw⟩:=jk
  have r7:=still he
  unfold jD at r7
  rw[wz] at r7
  simp only[hgd] at r7
  cases hre:dW E x.ts hK o.op with
  | none=>rw[hre] at r7;simp at r7
  | some v1=>
    rw[hre] at r7
    have hv1:=AV.wv _ _ _ r7
    subst hv1
    rw[←HL UR] at hre
    have pg:∀c,o.op≠ .defer c:=fun c e=>by rw[e] at hre;simp [dW] at hre
    obtain ⟨v',hv,hr⟩:=zj ok.gl ok inv.ts hre
    exact ⟨K,φ,_,w,inv.snoc r hp ho hd qO (Ph.le_refl φ) hv (.inl ⟨he,rfl⟩) inv.ok same,.one (mV (qM gM (.inr pg) _) ho (Ui.trans hw) (hr w rfl))⟩
 ·
  rename_i n obj wz
  obtain ⟨he,hw,⟨mk,hal,hxv⟩,_,_⟩:=jk
  have r7:=still he
  unfold jD at r7
  rw[wz] at r7
  simp only at r7
  cases hge:hK.get n with
  | none=>rw[hge] at r7;simp at r7
  | some o1=>
    rw[hge] at r7
    have ho1:=aY.wv r7
    subst ho1
    obtain ⟨w1,_⟩:=inv.Qe hd qO
    obtain ⟨EN,aep,aeq⟩:=inv.iy x Yo n o1 wz hd (by rw[←Xa he];exact w1)
    rw[←E7 UR] at hal
    have pg:∀c,o.op≠ .defer c:=fun c e=>by rw[e] at hal;simp [ey] at hal
    obtain ⟨O,mk',HJ,hr⟩:=wh ok.gl inv.ts hal
    have hle:φ.le (φ.add n ⟨w.heap.size,0,0⟩):=fun j m hm=>by
     unfold Ph.add;split
     · rename_i e;subst e;rw[EN] at hm;simp at hm
     · exact hm
    obtain ⟨A',_⟩:=ok.place hge EN (aeq hK Xb) (HJ.obj _ w.heap.size hle)
    have hv:=HJ.val (φ.add n ⟨w.heap.size,0,0⟩) n w.heap.size hle (by simp [Ph.add])
    rw[←hxv] at hv
    refine ⟨K,_,_,_,inv.snoc r hp ho hd qO hle hv (.inl ⟨he,rfl⟩) ⟨hK,Xb,A',fr.place aep EN O⟩ (fun y hy m q a1 a2 a3 a4=>?_),.one (mV (qM gM (.inr pg) _) ho (Ui.trans hw) (hr w))⟩
    obtain ⟨b1,b2,b3⟩:=inv.iy y hy m q a1 a2 a4
    refine ⟨?_,b2,b3⟩
    have eM:m≠n:=fun e=>by subst e;exact a3 (r.ids y x hy Yo m q o1 a1 wz)
    simp [Ph.add,eM,b1]
 ·
  rename_i h' wz
  obtain ⟨he,hw,_,uq⟩:=jk
  have Qg:=DH x o _ h' Yo rfl ho zm wz
  have E':=inv.A_ r (sB he) hd qO
  rw[E'] at uq zm
  rw[Xb] at zm;simp at zm;subst zm
  rw[←A6 UR] at Qg
  obtain ⟨φ',w',v',hv,r_,J2,jv⟩:=N3 hE dq Qg ho (rest:=rest) (k:=k) inv.ts ok (gM.mono fr.ext) (Ui.trans hw)
  obtain ⟨Mi,q1,q2,q3,q4⟩:=wrote φ' h' w' E' uq r_ J2
  exact ⟨K+1,φ',_,w',inv.snoc r hp ho hd qO J2.ext hv (.inr ⟨he,E',sB he,rfl⟩) ⟨Mi,q1,q2,q3⟩ q4,jv⟩
end
end Go.Ab
end
section
namespace Go.Ab
variable {E:Env}
section
variable {call:bj} {ops:Array Oper} {pl:mD} {s s':St} {tr:List Step} {hs st:List aw}
structure Fm (E:Env) (φ₀:Ph) (h₀:aw) (w₀:World) (vX:List Deferred) (b:Frame) (k:List Item) (cs:List Frame) (s':St) (m:Machine):Prop where
 is:∃φ' a' w',LR φ' s'.ts a'.tmps.toList∧a'.defers=vX∧OK E φ' s'.h w'∧Fr φ₀ h₀ w₀ φ' s'.h w'∧Steps E.P m (lone (b.atR a' k) cs w')
theorem HQ (r:Fl E call ops pl s s' tr hs st) {φ₀ φ:Ph} {w₀ w:World} {vX:List Deferred} {d:List Nat} {b_:Array Bool} {K:Nat} {a:Act} (inv:Inv E ops pl s tr hs st φ₀ w₀ vX d b_ K φ a w)
 (HR:∀i,i<ops.size→i∈d) (b:Frame) (k:List Item) (cs:List Frame):Fm E φ₀ s.h w₀ vX b k cs s' (lone (b.atR a (.inRegion ops []::k)) cs w):=by
 have pg:(tr.map (·.i)).Nodup:=by rw[r.trace.is];exact r.nodup
 obtain ⟨f1,f2,f3⟩:=iZ r.rU.order
 have hK:K=pl.bP.length:=by
  have:=inv.Kle
  rcases Nat.lt_or_ge K pl.bP.length with h | h
  · exfalso
    have hq:pl.bP[K]? =some pl.bP[K]:=by simp [h]
    have hm:pl.bP[K]∈pl.bP:=List.getElem_mem h
    generalize hx:pl.bP[K]=ee at hm hq
    rw[r.rU.bP,DF] at hm
    obtain ⟨o,ho,_⟩:=hm
    have lR:ee<ops.size:=by have:=(List.getElem?_eq_some_iff.1 ho).1;simpa using this
    have:=(inv.bP K _ hq).1 (HR _ lR)
    omega
  · omega
 obtain ⟨Mi,q1,q2,q3⟩:=inv.ok
 have HS:=r.trace.last
 have aer:qA E ops pl.order=K:=by omega
 rw[aer,q1] at HS
 simp at HS;subst HS
 have Qd:s'.ts=ph ops (valOf tr) s.ts d:=by
  rw[r.trace.ts]
  have h1:=Ff ops pg s.ts tr.length
  rw[List.take_length,r.trace.is,List.take_of_length_le (by rw[←r.trace.is];simp)] at h1
  rw[h1]
  refine List.ext_getElem? (fun x=>?_)
  refine vr s.ts (fun j j' e e'=>wC r.rU e e') (fun j hj=>?_)
  have Pg:j<ops.size:=by
   unfold hX at hj
   cases ho:ops[j]? with
   | none=>rw[ho] at hj;simp at hj
   | some o=>exact (Array.getElem?_eq_some_iff.1 ho).1
  exact ⟨fun _=>HR j Pg,fun _=>(f2 j Pg).resolve_left (by simp)⟩
 exact ⟨φ,a,w,by rw[Qd];exact inv.ts,inv.ds,q2,q3,.one stepR_region_end⟩
theorem Ba {φ₀ φ:Ph} {w₀ w:World} {vX:List Deferred} {d:List Nat} {b_:Array Bool} {K:Nat} {a:Act} (r:Fl E call ops pl s s' tr hs st) (inv:Inv E ops pl s tr hs st φ₀ w₀ vX d b_ K φ a w)
 {i:Nat} (h:i∈Region.ready .any ops b_):i<ops.size∧i ∉ d∧∀j,dM pl.an i j=true→j∈d:=by
 obtain ⟨h1,o,ho,h2⟩:=mem_ready.1 h
 have hi:i<ops.size:=(Array.getElem?_eq_some_iff.1 ho).1
 have hl:=inv.b_ i hi
 refine ⟨hi,fun hd=>?_,fun j hj=>?_⟩
 · simp [hl,hd,Array.getD_eq_getD_getElem?] at h1
 · obtain ⟨e,he,hej⟩:=r.rU.closed i o j ho hj
   have hed:e∈d:=by
    unfold kW at he
    simp only[List.mem_map,List.mem_filter] at he
    obtain ⟨ed,⟨hm,hb⟩,rfl⟩:=he
    have h3:=h2 ed (by simpa using hm) hb
    have aes:ed.on<ops.size:=by
     have:=(r.rU.direct i o ed.on ho (by unfold kW;simp only[List.mem_map,List.mem_filter];exact ⟨ed,⟨hm,hb⟩,rfl⟩)).1
     omega
    simpa [inv.b_ _ aes,Array.getD_eq_getD_getElem?] using h3
   rcases hej with rfl | hej
   · exact hed
   · exact inv.closed e hed j hej
theorem yp {φ₀ φ:Ph} {w₀ w:World} {vX:List Deferred} {d:List Nat} {b_:Array Bool} {K:Nat} {a:Act} (r:Fl E call ops pl s s' tr hs st) (inv:Inv E ops pl s tr hs st φ₀ w₀ vX d b_ K φ a w)
 (h:Region.ready .any ops b_=[]):∀(n i:Nat),i<n→i<ops.size→i∈d
 | 0,i,hn,_=>by omega
 | n+1,i,hn,hi=>by
   have ih:=yp r inv h n
   by_cases hd:i∈d
   · exact hd
   · exfalso
     have ho:ops[i]? =some ops[i]:=by simp [hi]
     have:i∈Region.ready .any ops b_:=by
      refine mem_ready.2 ⟨by simp [inv.b_ i hi,hd,Array.getD_eq_getD_getElem?],ops[i],ho,fun e he hb=>?_⟩
      have hm:e.on∈kW ops[i]:=by
       unfold kW;simp only[List.mem_map,List.mem_filter];exact ⟨e,⟨by simpa using he,hb⟩,rfl⟩
      have lR:=(r.rU.direct i _ e.on ho hm).1
      have:=ih e.on (by omega) (by omega)
      simp [inv.b_ e.on (by omega),this,Array.getD_eq_getD_getElem?]
     rw[h] at this;simp at this
theorem Fl.real (r:Fl E call ops pl s s' tr hs st) (x:Step) (o:Oper) (hk h':aw) (hx:x∈tr) (ho:ops[x.i]? =some o) (hh:hs[x.k]? =some hk) (yi:x.kind= .uk h'):dp E call x.ts hk s.rc o= .val x.v h':=by
 obtain ⟨p,hp⟩:=List.getElem?_of_mem hx
 obtain ⟨_,_,_,hk0,_⟩:=r.at hp
 obtain ⟨_,_,o',hk1,sk1,HO,zm,hsk,jk⟩:=r.trace.step p x hp
 rw[ho] at HO;simp at HO;subst HO
 rw[←hk0,hh] at zm;simp at zm;subst zm
 unfold wy at jk;rw[yi] at jk;exact jk.2.2.1
theorem HU (hE:kK E) (dq:iI E call) (r:Fl E call ops pl s s' tr hs st) {φ₀:Ph} {w₀:World} {vX:List Deferred} {b:Frame} {k:List Item} {Ks:Bool→List Frame} (gM:nA φ₀ b Ks s.rc):
 ∀(fuel t:Nat) {φ:Ph} {w:World} {d:List Nat} {b_:Array Bool} {K:Nat} {a:Act} (_:Inv E ops pl s tr hs st φ₀ w₀ vX d b_ K φ a w) (_:ops.size≤d.length+fuel),
  Fm E φ₀ s.h w₀ vX b k (cur Ks s.rc) s' (lone (b.atR a (.inRegion ops (Region.linearise.go .any ops fuel t b_ [])::k)) (cur Ks s.rc) w)
 | 0,t,φ,w,d,b_,K,a,inv,hf=>by
   simp only[Region.linearise.go,List.reverse_nil]
   refine HQ r inv (fun i hi=>?_) b k _
   by_cases hd:i∈d
   · exact hd
   · have:=A7 ops.size (i::d) (List.nodup_cons.2 ⟨hd,inv.nd⟩) (fun x hx=>by
      simp at hx;rcases hx with rfl | hx
      · exact hi
      · exact inv.lt x hx)
     simp at this;omega
 | fuel+1,t,φ,w,d,b_,K,a,inv,hf=>by
   simp only[Region.linearise.go]
   change Fm E φ₀ s.h w₀ vX b k (cur Ks s.rc) s' (lone (b.atR a (.inRegion ops (match (Region.ready .any ops b_)[t%(Region.ready .any ops b_).length]? with
    | some i=>Region.linearise.go .any ops fuel (t/(Region.ready .any ops b_).length) (b_.setIfInBounds i true) [i]
    | none=> [].reverse)::k)) (cur Ks s.rc) w)
   cases hi:(Region.ready .any ops b_)[t%(Region.ready .any ops b_).length]? with
   | none=>
     have EU:Region.ready .any ops b_=[]:=by
      cases hr:Region.ready .any ops b_ with
      | nil=>rfl
      | cons x xs=>
        rw[hr] at hi
        have lR:t%(x::xs).length<(x::xs).length:=Nat.mod_lt _ (by simp)
        simp at hi
        simp at lR
        omega
     exact HQ r inv (fun i hi=>yp r inv EU _ i (Nat.lt_succ_self i) hi) b k _
   | some i=>
     simp only[]
     rw[linearise_go_acc,List.reverse_singleton,List.singleton_append]
     obtain ⟨h1,h2,h3⟩:=Ba r inv (List.mem_of_getElem? hi)
     obtain ⟨K',φ',a',w',YA,jk⟩:=inv.Mh hE dq r gM (b:=b) (k:=k) h1 h2 h3 (fun x o hk h' hx _=>r.real x o hk h' hx) (Region.linearise.go .any ops fuel (t/(Region.ready .any ops b_).length) (b_.setIfInBounds i true) [])
     obtain ⟨φ2,a2,w2,x1,x2,x3,x4,x5⟩:=(HU hE dq r gM fuel (t/(Region.ready .any ops b_).length) YA (by simp;omega)).is
     exact ⟨φ2,a2,w2,x1,x2,x3,x4,Steps.trans jk x5⟩
structure Fo (E:Env) (φ₀:Ph) (h₀:aw) (w₀:World) (vX:List Deferred) (b:Frame) (cs:List Frame) (v:AV) (s':St) (m:Machine):Prop where
 is:∃φ' a' w' v' todo,VR φ' v v'∧LR φ' s'.ts a'.tmps.toList∧a'.defers=vX∧OK E φ' s'.h w'∧Fr φ₀ h₀ w₀ φ' s'.h w'∧Steps E.P m (lone {b.atR a' todo with mode:= .panicking [{v:=v',recovered:=false}]} cs w')
theorem N4 (hE:kK E) {call:bj} (dq:iI E call) {ts:List AV} {h h':aw} {rc:RC} {o:Oper} {c:Call} (hoc:o.op= .call c) {v:AV} (sB:dp E call ts h rc o= .panic v h') {i:Nat} {rest:List Nat} (ho:ops[i]? =some o)
 {φ:Ph} {a:Act} {w:World} {b:Frame} {k:List Item} {K:Bool→List Frame} (Qd:LR φ ts a.tmps.toList) (ok:OK E φ h w) (gM:nA φ b K rc) (hw:Region.wanted o (yielded ops a.tmps)=true):
 ∃φ' w' v' todo,VR φ' v v'∧OK E φ' h' w'∧Fr φ h w φ' h' w'∧Steps E.P (lone (b.atR a (.inRegion ops (i::rest)::k)) (cur K rc) w) (lone {b.atR a todo with mode:= .panicking [{v:=v',recovered:=false}]} (cur K rc) w'):=by
 have yh:=vp hE dq (rc:=rc) (o:=o) Qd ok
 have pg:rc.ov=false∨∀c,o.op≠ .defer c:= .inr (fun c e=>by rw[hoc] at e;simp at e)
 have lk:=qM gM pg a.eval
 rw[sB] at yh
 cases yh with
 | UN v h' F args all hr hf hl run=>
   obtain ⟨n,start,hp,jk⟩:=hr φ w all ok hf hl
   obtain ⟨φ',w',v',hv,r_,fr,jv⟩:=jk (b.atR a (.inRegion ops (i::rest)::k)) (cur K rc)
   rw[Frame.raise_atR] at jv
   exact ⟨φ',w',v',.inRegion ops (i::rest)::k,hv,r_,fr,.head (go_enter lk ho hw hp (run n start hp)) jv⟩
 | panic v v' hv run=>exact ⟨φ,w,v',_,hv,ok,Fr.refl _ _ _,.one (P5 lk ho hw run)⟩
theorem DI (hE:kK E) {DG:bj} (dq:iI E DG) (r:Fl E call ops pl s s' tr hs st) {xl:Step} (hxl:xl∈tr) {ol:Oper} (Uf:ops[xl.i]? =some ol) {c:Call} (hoc:ol.op= .call c)
 (HR:∀j,j<ops.size→j≠xl.i→dM pl.an xl.i j=true) (Xc:fI E ol.op=true) (hwl:cF ops xl.ts ol=true) {hk:aw} (zm:hs[xl.k]? =some hk) {v:AV} {h':aw} (Qh:dp E DG xl.ts hk s.rc ol= .panic v h')
 (DH:∀(x:Step) (o:Oper) (hk h':aw),x∈tr→x.i≠xl.i→ops[x.i]? =some o→hs[x.k]? =some hk→x.kind= .uk h'→dp E DG x.ts hk s.rc o= .val x.v h')
 {s2:St} (h2:s2.h=h') (abh:s2.ts=xl.ts) {φ₀:Ph} {w₀:World} {vX:List Deferred} {b:Frame} {k:List Item} {Ks:Bool→List Frame} (gM:nA φ₀ b Ks s.rc):
 ∀(fuel t:Nat) {φ:Ph} {w:World} {d:List Nat} {b_:Array Bool} {K:Nat} {a:Act} (_:Inv E ops pl s tr hs st φ₀ w₀ vX d b_ K φ a w) (_:ops.size≤d.length+fuel) (_:xl.i ∉ d),
  Fo E φ₀ s.h w₀ vX b (cur Ks s.rc) v s2 (lone (b.atR a (.inRegion ops (Region.linearise.go .any ops fuel t b_ [])::k)) (cur Ks s.rc) w)
 | 0,t,φ,w,d,b_,K,a,inv,hf,pg=>by
   exfalso
   have hi:xl.i<ops.size:=(Array.getElem?_eq_some_iff.1 Uf).1
   have:=A7 ops.size (xl.i::d) (List.nodup_cons.2 ⟨pg,inv.nd⟩) (fun x hx=>by
    simp at hx;rcases hx with rfl | hx
    · exact hi
    · exact inv.lt x hx)
   simp at this;omega
 | fuel+1,t,φ,w,d,b_,K,a,inv,hf,pg=>by
   have hil:xl.i<ops.size:=(Array.getElem?_eq_some_iff.1 Uf).1
   simp only[Region.linearise.go]
   change Fo E φ₀ s.h w₀ vX b (cur Ks s.rc) v s2 (lone (b.atR a (.inRegion ops (match (Region.ready .any ops b_)[t%(Region.ready .any ops b_).length]? with
    | some i=>Region.linearise.go .any ops fuel (t/(Region.ready .any ops b_).length) (b_.setIfInBounds i true) [i]
    | none=> [].reverse)::k)) (cur Ks s.rc) w)
   cases hi:(Region.ready .any ops b_)[t%(Region.ready .any ops b_).length]? with
   | none=>
     have EU:Region.ready .any ops b_=[]:=by
      cases hr:Region.ready .any ops b_ with
      | nil=>rfl
      | cons x xs=>
        rw[hr] at hi
        have lR:t%(x::xs).length<(x::xs).length:=Nat.mod_lt _ (by simp)
        simp at hi
        simp at lR
        omega
     exact absurd (yp r inv EU _ xl.i (Nat.lt_succ_self _) hil) pg
   | some i=>
     simp only[]
     rw[linearise_go_acc,List.reverse_singleton,List.singleton_append]
     obtain ⟨h1,h2',h3⟩:=Ba r inv (List.mem_of_getElem? hi)
     by_cases hii:i=xl.i
     · subst hii
       obtain ⟨p,hp⟩:=List.getElem?_of_mem hxl
       obtain ⟨_,q2,q3,_,o',HO,q4,_⟩:=r.at hp
       rw[Uf] at HO;simp at HO;subst HO
       obtain ⟨hag,Qf⟩:=agree r hp Uf h2' inv.closed h3
       obtain ⟨hK,Xb,ok,fr⟩:=inv.ok
       have E':=inv.A_ r (q4 Xc) h2' h3
       rw[E',Xb] at zm;simp at zm;subst zm
       rw[A6 hag] at Qh
       have Ui:Region.wanted ol (yielded ops a.tmps)=true:=by rw[vo inv.ts ol,Qf];exact hwl
       obtain ⟨φ',w',v',todo,hv,r_,J2,jk⟩:=N4 hE dq hoc Qh Uf (rest:=Region.linearise.go .any ops fuel (t/(Region.ready .any ops b_).length) (b_.setIfInBounds xl.i true) []) (k:=k) inv.ts ok (gM.mono fr.ext) Ui
       have aet:(tr.map (·.i)).Nodup:=by rw[r.trace.is];exact r.nodup
       have Qd:xl.ts=ph ops (valOf tr) s.ts d:=by
        rw[(r.trace.step p xl hp).1,Ff ops aet,r.trace.is]
        refine List.ext_getElem? (fun x=>vr s.ts (fun j j' e e'=>wC r.rU e e') (fun j hj=>?_))
        have Pg:j<ops.size:=by
         unfold hX at hj
         cases ho:ops[j]? with
         | none=>rw[ho] at hj;simp at hj
         | some o=>exact (Array.getElem?_eq_some_iff.1 ho).1
        by_cases hji:j=xl.i
        · subst hji;exact ⟨fun h=>absurd h q2,fun h=>absurd h h2'⟩
        · exact ⟨fun _=>h3 j (HR j Pg hji),fun _=>q3 j (HR j Pg hji)⟩
       exact ⟨φ',a,w',v',todo,hv,by rw[abh,Qd];exact inv.ts.mono J2.ext,inv.ds,by rw[h2];exact r_,by rw[h2];exact fr.trans J2,jk⟩
     · obtain ⟨K',φ',a',w',YA,jk⟩:=inv.Mh hE dq r gM (b:=b) (k:=k) h1 h2' h3 (fun x o hk h' hx N1=>DH x o hk h' hx (by rw[N1];exact hii)) (Region.linearise.go .any ops fuel (t/(Region.ready .any ops b_).length) (b_.setIfInBounds i true) [])
       obtain ⟨φ2,a2,w2,v2,td,x0,x1,x2,x3,x4,x5⟩:=(DI hE dq r hxl Uf hoc HR Xc hwl zm Qh DH h2 abh gM fuel (t/(Region.ready .any ops b_).length) YA (by simp;omega) (by simp;exact ⟨pg,fun h=>hii h.symm⟩)).is
       exact ⟨φ2,a2,w2,v2,td,x0,x1,x2,x3,x4,Steps.trans jk x5⟩
def Bb (call:bj):bj:=fun f as_ h=>match call f as_ h with
 | .panic _ h'=> .ret AV.undef h'
 | r=>r
theorem Qi {call:bj} {ts:List AV} {h h':aw} {rc:RC} {o:Oper} {v:AV} (e:dp E call ts h rc o= .val v h'):dp E (Bb call) ts h rc o= .val v h':=by
 obtain ⟨dst,op,ty,pos,after,guard⟩:=o
 cases op with
 | call c=>
   obtain ⟨cJ,args,aT⟩:=c
   cases cJ with
   | builtin b=>cases b<;>exact e
   | value f=>
     simp only[dp] at e ⊢
     split at e
     · split at e
       · exact e
       · split at e
         · rename_i hc
           simp only[Bb,hc];exact e
         · simp at e
         · simp at e
     · simp at e
   | invoke x name=>
     simp only[dp] at e ⊢
     split at e
     · split at e
       · split at e
         · rename_i hc
           simp only[Bb,hc];exact e
         · simp at e
         · simp at e
       · simp at e
     · simp at e
 | _=>exact e
theorem Qj {call:bj} {ts:List AV} {h h':aw} {rc:RC} {dst:Option Tmp} {c:Call} {ty:TypeId} {pos:String} {after:Array Edge} {guard:Option (Nat×Bool)} {v:AV} (e:dp E call ts h rc ⟨dst,.call c,ty,pos,after,guard⟩= .panic v h'):
 dp E (Bb call) ts h rc ⟨dst,.call c,ty,pos,after,guard⟩= .val AV.undef h':=by
 obtain ⟨cJ,args,aT⟩:=c
 cases cJ with
 | builtin b=>
   cases b<;>simp only[dp] at e<;>(try (simp at e;done))<;>(split at e<;>(try (simp at e;done))<;>(try (split at e<;>simp at e)))
 | value f=>
   simp only[dp] at e ⊢
   split at e
   · split at e
     · split at e<;>simp at e
     · split at e
       · simp at e
       · rename_i hc
         simp at e;obtain ⟨rfl,rfl⟩:=e
         simp only[Bb,hc]
       · simp at e
   · simp at e
 | invoke x name=>
   simp only[dp] at e ⊢
   split at e
   · split at e
     · split at e
       · simp at e
       · rename_i hc
         simp at e;obtain ⟨rfl,rfl⟩:=e
         simp only[Bb,hc]
       · simp at e
     · simp at e
   · simp at e
theorem oB {α:Type} {f:α→Option Nat}:∀{l:List α} (_:(l.filterMap f).Nodup) {x y:α} {n:Nat} (_:x∈l) (_:y∈l) (_:f x=some n) (_:f y=some n),x=y
 | [],_,x,y,n,hx,_,_,_=>by simp at hx
 | z::l,hn,x,y,n,hx,hy,fx,fy=>by
   cases hz:f z with
   | none=>
     rw[List.filterMap_cons_none hz] at hn
     have hx':x∈l:=by
      simp at hx;rcases hx with rfl | h
      · rw[hz] at fx;simp at fx
      · exact h
     have PZ:y∈l:=by
      simp at hy;rcases hy with rfl | h
      · rw[hz] at fy;simp at fy
      · exact h
     exact oB hn hx' PZ fx fy
   | some m=>
     rw[List.filterMap_cons_some hz,List.nodup_cons] at hn
     simp at hx hy
     rcases hx with rfl | hx<;>rcases hy with rfl | hy
     · rfl
     · exfalso;rw[fx] at hz;simp at hz;subst hz;exact hn.1 (List.mem_filterMap.2 ⟨y,hy,fy⟩)
     · exfalso;rw[fy] at hz;simp at hz;subst hz;exact hn.1 (List.mem_filterMap.2 ⟨x,hx,fx⟩)
     · exact oB hn.2 hx hy fx fy
theorem Qk (NT:sj E ops=some pl) (hd:cW E call ops pl.order 0 s= .ok tr hs s') (hl:qE E ops pl tr hs=true):∃st,Fl E call ops pl s s' tr hs st:=by
 obtain ⟨st,t⟩:=oA hd
 unfold qE at hl
 simp only[Bool.and_eq_true] at hl
 refine ⟨st,HM NT,t,fun x hx K hk h1 h2 h3=>?_,fun x y hx hy n o q e1 e2=>?_⟩
 · have h4:=List.all_eq_true.1 (List.all_eq_true.1 hl.2 x hx) hk
   refine h4 ?_
   refine List.mem_of_getElem? (i:=K - x.k) ?_
   rw[List.getElem?_take,if_pos (by omega),List.getElem?_drop,show x.k+(K - x.k)=K by omega,h3]
 · have:=vq hl.1
   have:=oB this hx hy (n:=n) (by simp [e1]) (by simp [e2])
   rw[this]
theorem vt {call DJ:bj} (hc:∀{ts:List AV} {h h':aw} {rc:RC} {o:Oper} {v:AV},dp E call ts h rc o= .val v h'→dp E DJ ts h rc o= .val v h') {i:Nat} {o:Oper} (ho:ops[i]? =some o) (he:fI E o.op=true):
 ∀(l:List Nat) (k:Nat) (s:St) {tr:List Step} {hs:List aw} {s1:St} {h':aw} (_:cW E call ops l k s= .ok tr hs s1) (_:cF ops s1.ts o=true) (_:dp E DJ s1.ts s1.h s1.rc o= .val AV.undef h'),
  cW E DJ ops (l++[i]) k s= .ok (tr++[⟨i,k+(hs.length - 1),s1.ts,AV.undef,.uk h'⟩]) (hs++[h']) {s1 with ts:=dR s1.ts o.dst AV.undef,h:=h'}
 | [],k,s,tr,hs,s1,h',hd,hw,hv=>by
   simp [cW] at hd;obtain ⟨rfl,rfl,rfl⟩:=hd
   simp only[List.nil_append,cW,ho,he,if_true,hw,hv]
   simp [j4.bound,j4.step]
 | j::l,k,s,tr,hs,s1,h',hd,hw,hv=>by
   rw[List.cons_append]
   simp only[cW] at hd ⊢
   cases W_:ops[j]? with
   | none=>rw[W_] at hd;simp at hd
   | some oj=>
   rw[W_] at hd
   simp only at hd ⊢
   have wr:∀(x:Step) (s0:St),((cW E call ops l (k+1) s0).bound s.h).step x= .ok tr hs s1→((cW E DJ ops (l++[i]) (k+1) s0).bound s.h).step x= .ok (tr++[⟨i,k+(hs.length - 1),s1.ts,AV.undef,.uk h'⟩]) (hs++[h']) {s1 with ts:=dR s1.ts o.dst AV.undef,h:=h'}:=by
    intro x s0 hd
    cases hr:cW E call ops l (k+1) s0 with
    | fail why q=>rw[hr] at hd;simp [j4.bound,j4.step] at hd
    | ok Mg r7 s2=>
      rw[hr] at hd;simp [j4.bound,j4.step] at hd;obtain ⟨rfl,rfl,rfl⟩:=hd
      rw[vt hc ho he l (k+1) s0 hr hw hv]
      obtain ⟨_,t⟩:=oA hr
      have:1≤r7.length:=by have:=t.len;omega
      simp [j4.bound,j4.step];omega
   have pl:∀(x:Step) (s0:St),(cW E call ops l k s0).step x= .ok tr hs s1→(cW E DJ ops (l++[i]) k s0).step x= .ok (tr++[⟨i,k+(hs.length - 1),s1.ts,AV.undef,.uk h'⟩]) (hs++[h']) {s1 with ts:=dR s1.ts o.dst AV.undef,h:=h'}:=by
    intro x s0 hd
    cases hr:cW E call ops l k s0 with
    | fail why q=>rw[hr] at hd;simp [j4.step] at hd
    | ok Mg r7 s2=>
      rw[hr] at hd;simp [j4.step] at hd;obtain ⟨rfl,rfl,rfl⟩:=hd
      rw[vt hc ho he l k s0 hr hw hv]
      simp [j4.step]
   split at hd
   · rename_i YB
     rw[if_pos YB]
     split at hd
     · rename_i CW
       rw[if_pos CW]
       split at hd
       · rename_i Qg
         simp only[hc Qg]
         exact wr _ _ hd
       · simp at hd
       · simp at hd
     · rename_i CW
       rw[if_neg CW]
       exact wr _ _ hd
   · rename_i YB
     rw[if_neg YB]
     split at hd
     · rename_i CW
       rw[if_pos CW]
       split at hd
       · rename_i hp
         try simp only[hp]
         exact pl _ _ hd
       · rename_i hp
         try simp only[hp]
         split at hd
         · rename_i hq
           try simp only[hq]
           exact pl _ _ hd
         · rename_i hq
           try simp only[hq]
           split at hd
           · rename_i hr
             try simp only[hr]
             split at hd
             · rename_i hn
               try simp only[hn]
               exact pl _ _ hd
             · simp at hd
           · simp at hd
     · rename_i CW
       rw[if_neg CW]
       exact pl _ _ hd
theorem yq {call:bj} {i:Nat} {o:Oper} (ho:ops[i]? =some o) (he:fI E o.op=true) {v:AV}:
 ∀(l:List Nat) (k:Nat) (s:St) {tr:List Step} {hs:List aw} {s1:St} {h':aw} (_:cW E call ops l k s= .ok tr hs s1) (_:cF ops s1.ts o=true) (_:dp E call s1.ts s1.h s1.rc o= .panic v h'),
  ∃why q,cW E call ops (l++[i]) k s= .fail why q
 | [],k,s,tr,hs,s1,h',hd,hw,hv=>by
   simp [cW] at hd;obtain ⟨rfl,rfl,rfl⟩:=hd
   simp only[List.nil_append,cW,ho,he,if_true,hw,hv]
   exact ⟨_,_,rfl⟩
 | j::l,k,s,tr,hs,s1,h',hd,hw,hv=>by
   rw[List.cons_append]
   simp only[cW] at hd ⊢
   cases W_:ops[j]? with
   | none=>rw[W_] at hd;simp at hd
   | some oj=>
   rw[W_] at hd
   simp only at hd ⊢
   have wr:∀(x:Step) (s0:St),((cW E call ops l (k+1) s0).bound s.h).step x= .ok tr hs s1→∃why q,((cW E call ops (l++[i]) (k+1) s0).bound s.h).step x= .fail why q:=by
    intro x s0 hd
    cases hr:cW E call ops l (k+1) s0 with
    | fail why q=>rw[hr] at hd;simp [j4.bound,j4.step] at hd
    | ok Mg r7 s2=>
      rw[hr] at hd;simp [j4.bound,j4.step] at hd;obtain ⟨rfl,rfl,rfl⟩:=hd
      obtain ⟨why,q,e⟩:=yq ho he l (k+1) s0 hr hw hv
      rw[e];exact ⟨_,_,rfl⟩
   have pl:∀(x:Step) (s0:St),(cW E call ops l k s0).step x= .ok tr hs s1→∃why q,(cW E call ops (l++[i]) k s0).step x= .fail why q:=by
    intro x s0 hd
    cases hr:cW E call ops l k s0 with
    | fail why q=>rw[hr] at hd;simp [j4.step] at hd
    | ok Mg r7 s2=>
      rw[hr] at hd;simp [j4.step] at hd;obtain ⟨rfl,rfl,rfl⟩:=hd
      obtain ⟨why,q,e⟩:=yq ho he l k s0 hr hw hv
      rw[e];exact ⟨_,_,rfl⟩
   split at hd
   · rename_i YB
     rw[if_pos YB]
     split at hd
     · rename_i CW
       rw[if_pos CW]
       split at hd
       · rename_i Qg
         try simp only[Qg]
         exact wr _ _ hd
       · simp at hd
       · simp at hd
     · rename_i CW
       rw[if_neg CW]
       exact wr _ _ hd
   · rename_i YB
     rw[if_neg YB]
     split at hd
     · rename_i CW
       rw[if_pos CW]
       split at hd
       · rename_i hp
         try simp only[hp]
         exact pl _ _ hd
       · rename_i hp
         try simp only[hp]
         split at hd
         · rename_i hq
           try simp only[hq]
           exact pl _ _ hd
         · rename_i hq
           try simp only[hq]
           split at hd
           · rename_i hr
             try simp only[hr]
             split at hd
             · rename_i hn
               try simp only[hn]
               exact pl _ _ hd
             · simp at hd
           · simp at hd
     · rename_i CW
       rw[if_neg CW]
       exact pl _ _ hd
end
theorem Bc {call:bj} {ops:Array Oper} {pl:mD} {s s':St} {tr:List Step} {qI st:List aw} (r:Fl E call ops pl s s' tr qI st)
 {φ:Ph} {a:Act} {w:World} (Qd:LR φ s.ts a.tmps.toList) (ok:OK E φ s.h w):Inv E ops pl s tr qI st φ w a.defers [] (Array.replicate ops.size false) 0 φ a {w with drawn:=w.drawn+1}:=by
 have HV:OK E φ s.h {w with drawn:=w.drawn+1}:=⟨ok.z_,ok.nx,ok.vh,ok.live,ok.inj⟩
 have fr1:Fr φ s.h w φ s.h {w with drawn:=w.drawn+1}:=⟨Ph.le_refl φ,fun _ _=>rfl,Nat.le_refl _,rfl,rfl,rfl,Nat.le_refl _,fun _ _ _=>rfl,fun i o l a b c=> .inr ⟨i,o,l,a,b,c,rfl⟩⟩
 have hlen:0<qI.length:=by have:=r.trace.len;omega
 have h0:qI[0]? =some qI[0]:=by simp [hlen]
 have g:=r.trace.grown 0 s.h _ r.trace.first h0
 obtain ⟨A',Yz⟩:=HV.grown g
 refine ⟨.nil,fun i hi=>by simp at hi,fun i hi=>by simp [hi],fun i hi=>by simp at hi,fun q e hq=>by simp,by omega,by simpa [ph] using Qd,rfl,⟨_,h0,A',fr1.trans Yz⟩,fun x hx n obj hk _ hk0=>?_⟩
 obtain ⟨q,hq⟩:=List.getElem?_of_mem hx
 obtain ⟨_,_,_,hky,oy,hoy,_,_⟩:=r.at hq
 obtain ⟨_,_,oy',aem,aen,aeo,C6,C7,Kx⟩:=r.trace.step q x hq
 rw[←hky] at C6 C7
 have E':x.k=0:=by omega
 rw[E'] at C6 C7
 rw[r.trace.first] at C7;simp at C7;subst C7
 unfold wy at Kx
 rw[hk] at Kx
 obtain ⟨_,_,_,hn1,Mj⟩:=Kx
 refine ⟨?_,hn1,fun hK e=>?_⟩
 · cases hφ:φ n with
   | none=>rfl
   | some l=>have:=ok.z_ n l hφ;omega
 · rw[e] at C6;simp at C6;subst C6;exact Mj
theorem HW (hE:kK E) (aeu:E.P.follows .mixedOrders=true) {call:bj} (dq:iI E call) {ops:Array Oper} {s s':St} {e:iC} (h:v8 E call ops s= .ok e s')
 {φ:Ph} {a:Act} {w:World} {b:Frame} {k:List Item} {K:Bool→List Frame} (hs:SR φ s.ts s.ds a) (ok:OK E φ s.h w) (gM:nA φ b K s.rc) (id:Nat):
 s'.rc=s.rc∧s'.ds=s.ds∧((e= .normal∧∃φ' a' w',LR φ' s'.ts a'.tmps.toList∧a'.defers=a.defers∧OK E φ' s'.h w'∧Fr φ s.h w φ' s'.h w'∧
  Steps E.P (lone (b.atR a (.code (.region id ops true)::k)) (cur K s.rc) w) (lone (b.atR a' k) (cur K s.rc) w'))∨
  ∃v,e= .panic v∧Fo E φ s.h w a.defers b (cur K s.rc) v s' (lone (b.atR a (.code (.region id ops true)::k)) (cur K s.rc) w)):=by
 have abi:Region.schedule (E.P.follows .mixedOrders) ops (w.tape w.drawn (.order b.fn id))=Region.linearise.go .any ops ops.size (w.tape w.drawn (.order b.fn id)) (Array.replicate ops.size false) []:=by
  rw[aeu];rfl
 unfold v8 at h
 split at h
 · simp at h
 rename_i pl NT
 split at h
 · rename_i tr qI s1 hd
   split at h
   · rename_i hl
     simp at h;obtain ⟨rfl,rfl⟩:=h
     obtain ⟨st,r⟩:=Qk NT hd hl
     refine ⟨r.trace.rc,r.trace.ds,.inl ⟨rfl,?_⟩⟩
     obtain ⟨φ',a',w',x1,x2,x3,x4,x5⟩:=(HU hE dq r gM (b:=b) (k:=k) ops.size (w.tape w.drawn (.order b.fn id)) (Bc r hs.ts ok) (by simp)).is
     refine ⟨φ',a',w',x1,x2,x3,x4,.head stepR_region_draw ?_⟩
     rw[abi]
     exact x5
   · simp at h
 · split at h
   · rename_i v s2 hp
     simp at h;obtain ⟨rfl,rfl⟩:=h
     unfold AP at hp
     split at hp
     · simp at hp
     rename_i i front US
     split at hp
     · rename_i tr qI s1 dst c ty pos after guard hd ho
       split at hp
       · rename_i EY
         split at hp
         · rename_i v1 h1 Qg
           split at hp
           · rename_i hl
             simp at hp;obtain ⟨rfl,rfl⟩:=hp
             simp only[Bool.and_eq_true,List.all_eq_true,List.mem_range,Bool.or_eq_true,beq_iff_eq] at EY
             obtain ⟨⟨he,hw⟩,HR⟩:=EY
             have Qc:pl.order=front.reverse++[i]:=by
              have:=congrArg List.reverse US
              simpa using this
             have UT:=vt (DJ:=Bb call) (fun e=>Qi e) ho he front.reverse 0 s hd hw (Qj Qg)
             rw[←Qc] at UT
             rw[Nat.zero_add] at UT
             obtain ⟨st,r⟩:=Qk NT UT hl
             obtain ⟨st1,t1⟩:=oA hd
             have abj:s1.rc=s.rc:=t1.rc
             refine ⟨abj,t1.ds,.inr ⟨_,rfl,?_⟩⟩
             have hlen:1≤qI.length:=by have:=t1.len;omega
             have HS:(qI++[h1])[qI.length - 1]? =some s1.h:=by
              rw[List.getElem?_append_left (by omega)]
              have:=t1.last
              rw[show qI.length - 1=qA E ops front.reverse by have:=t1.len;omega];exact this
             have DH:∀(x:Step) (o:Oper) (hk h':aw),x∈tr++[⟨i,qI.length - 1,s1.ts,AV.undef,.uk h1⟩]→x.i≠i→ops[x.i]? =some o→(qI++[h1])[x.k]? =some hk→x.kind= .uk h'→dp E call x.ts hk s.rc o= .val x.v h':=by
              intro x o hk h' hx N1 HO zm yi
              have hx':x∈tr:=by
               simp at hx;rcases hx with h | h
               · exact h
               · exact absurd (by rw[h]) N1
              obtain ⟨p,hp⟩:=List.getElem?_of_mem hx'
              obtain ⟨_,hk0,o',hk1,sk1,ho2,YC,hsk,jk⟩:=t1.step p x hp
              rw[HO] at ho2;simp at ho2;subst ho2
              rw[Nat.zero_add] at hk0
              rw[←hk0] at YC
              have lR:x.k<qI.length:=(List.getElem?_eq_some_iff.1 YC).1
              rw[List.getElem?_append_left lR,YC] at zm
              simp at zm;subst zm
              unfold wy at jk;rw[yi] at jk;exact jk.2.2.1
             have aev:=(DI hE dq r (xl:=⟨i,qI.length - 1,s1.ts,AV.undef,.uk h1⟩) (by simp) (ol:=⟨dst,.call c,ty,pos,after,guard⟩) ho rfl (fun j hj eM=>(HR j hj).resolve_left eM) he hw HS (by rw[←abj];exact Qg) DH
              (s2:={s1 with h:=h1}) rfl rfl gM (b:=b) (k:=k) ops.size (w.tape w.drawn (.order b.fn id)) (Bc r hs.ts ok) (by simp) (by simp)).is
             obtain ⟨φ',a',w',v',todo,x0,x1,x2,x3,x4,x5⟩:=aev
             refine ⟨φ',a',w',v',todo,x0,x1,x2,x3,x4,.head stepR_region_draw ?_⟩
             rw[abi]
             exact x5
           · simp at hp
         · simp at hp
       · simp at hp
     · simp at hp
   · simp at h
end Go.Ab
end
