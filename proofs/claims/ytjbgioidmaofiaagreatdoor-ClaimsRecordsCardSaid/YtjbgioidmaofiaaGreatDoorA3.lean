import Derived.Orders
import Derived.Test.YtjbgioidmaofiaaGreatDoorA2
set_option linter.unusedVariables false
set_option linter.unusedSimpArgs false
section
namespace Go.Ab
variable {E:Env}
def y9 (E:Env) (ts iU:List AV) (op:Op):Prop:=∀x∈op.operands,cx E ts x=cx E iU x
theorem rp {α β:Type} {f g:α→Option β}:∀{l:List α} (_:∀x∈l,f x=g x),cD f l=cD g l
 | [],_=>rfl
 | x::xs,h=>by simp only[cD,h x (by simp),rp (l:=xs) (fun y hy=>h y (by simp [hy]))]
theorem lE {ts iU:List AV} {l:List Operand} (h:∀x∈l,cx E ts x=cx E iU x):dJ E ts l=dJ E iU l:=rp h
theorem mP {ts iU:List AV}:∀{l:List (Nat×Operand)} (_:∀x∈l.map (·.2),cx E ts x=cx E iU x),fZ E ts l=fZ E iU l
 | [],_=>rfl
 | (i,o)::l,h=>by simp only[fZ,h o (by simp),mP (l:=l) (fun y hy=>h y (by simp at hy ⊢;exact .inr hy))]
theorem oe {ts iU:List AV} {o:Option Operand} (h:∀x∈o.toArray,cx E ts x=cx E iU x):jk E ts o=jk E iU o:=by
 cases o with
 | none=>rfl
 | some o=>simp only[jk,h o (by simp)]
theorem rq {ts iU:List AV} {c:Call} (h:∀x∈c.operands,cx E ts x=cx E iU x):callee E ts c=callee E iU c:=by
 unfold callee
 cases hc:c.callee with
 | value f=>
   have h1:cx E ts f=cx E iU f:=h f (by simp [Call.operands,hc])
   have h2:dJ E ts c.args.toList=dJ E iU c.args.toList:=lE (fun x hx=>h x (by simp [Call.operands,hc];exact .inr (by simpa using hx)))
   simp only[h1,h2]
 | invoke _ _=>rfl
 | builtin _=>rfl
theorem jG {ts iU:List AV} {c:Call} (h:∀x∈c.operands,cx E ts x=cx E iU x):dJ E ts c.args.toList=dJ E iU c.args.toList:=
 lE (fun x hx=>h x (by simp [Call.operands];exact .inr (by simpa using hx)))
theorem Cr {ts iU:List AV} {op:Op} (h:y9 E ts iU op):aG E ts op=aG E iU op:=by
 cases op with
 | call c=>
   have hc:=jG (E:=E) (ts:=ts) (iU:=iU) (c:=c) h
   obtain ⟨callee,args,argTypes⟩:=c
   simp only at hc
   cases callee with
   | builtin b=>cases b<;>simp only[aG,hc]
   | value f=>cases f<;>simp only[aG,hc]
   | invoke r m=>simp only[aG]
 | build t ps=>
   have:fZ E ts ps.toList=fZ E iU ps.toList:=mP (fun x hx=>h x (by simpa [Op.operands] using hx))
   simp only[aG,this]
 | makeFunc fn first captured=>
   cases fn with
   | func f=>
     have h1:dJ E ts first.toList=dJ E iU first.toList:=lE (fun x hx=>h x (by simp [Op.operands];exact .inl (by simpa using hx)))
     have h2:dJ E ts captured.toList=dJ E iU captured.toList:=lE (fun x hx=>h x (by simp [Op.operands];exact .inr (by simpa using hx)))
     simp only[aG,h1,h2]
   | _=>simp only[aG]
 | slice t x lo hi mx=>
   have h0:cx E ts x=cx E iU x:=h x (by simp [Op.operands])
   have h1:jk E ts lo=jk E iU lo:=oe (fun y hy=>h y (by simp [Op.operands] at hy ⊢;exact .inr (.inl hy)))
   have h2:jk E ts hi=jk E iU hi:=oe (fun y hy=>h y (by simp [Op.operands] at hy ⊢;exact .inr (.inr (.inl hy))))
   have h3:jk E ts mx=jk E iU mx:=oe (fun y hy=>h y (by simp [Op.operands] at hy ⊢;exact .inr (.inr (.inr hy))))
   simp only[aG,h0,h1,h2,h3]
 | move x=>simp only[aG,h x (by simp [Op.operands])]
 | assign x=>simp only[aG,h x (by simp [Op.operands])]
 | pick c a b=>simp only[aG,h c (by simp [Op.operands]),h a (by simp [Op.operands]),h b (by simp [Op.operands])]
 | nilCheck x=>simp only[aG,h x (by simp [Op.operands])]
 | binOp o t x y u=>simp only[aG,h x (by simp [Op.operands]),h y (by simp [Op.operands])]
 | unOp o t x=>simp only[aG,h x (by simp [Op.operands])]
 | convert s d x=>simp only[aG,h x (by simp [Op.operands])]
 | makeInterface t x=>simp only[aG,h x (by simp [Op.operands])]
 | fieldAddr s x f=>simp only[aG,h x (by simp [Op.operands])]
 | field s x f=>simp only[aG,h x (by simp [Op.operands])]
 | indexAddr t x i=>simp only[aG,h x (by simp [Op.operands]),h i (by simp [Op.operands])]
 | index t x i=>simp only[aG,h x (by simp [Op.operands]),h i (by simp [Op.operands])]
 | extract x i=>simp only[aG,h x (by simp [Op.operands])]
 | typeAssert x a b ok=>simp only[aG,h x (by simp [Op.operands])]
 | _=>simp only[aG]
theorem Cs {ts iU:List AV} {op:Op} (h:y9 E ts iU op) (hp:ag):cB E ts hp op=cB E iU hp op:=by
 cases op with
 | call c=>
   have hc:=jG (E:=E) (ts:=ts) (iU:=iU) (c:=c) h
   obtain ⟨callee,args,argTypes⟩:=c
   simp only at hc
   cases callee with
   | builtin b=>cases b<;>simp only[cB,hc]
   | value f=>simp only[cB]
   | invoke r m=>simp only[cB]
 | load t a=>simp only[cB,h a (by simp [Op.operands])]
 | convert s d x=>simp only[cB,h x (by simp [Op.operands])]
 | lookup t x i ok=>simp only[cB,h x (by simp [Op.operands]),h i (by simp [Op.operands])]
 | _=>simp only[cB]
theorem Aw {ts iU:List AV} {op:Op} (h:y9 E ts iU op):cq E ts op=cq E iU op:=by
 cases op with
 | buildSlice t n ps=>
   have:fZ E ts ps.toList=fZ E iU ps.toList:=mP (fun x hx=>h x (by simpa [Op.operands] using hx))
   simp only[cq,this]
 | box t x=>simp only[cq,h x (by simp [Op.operands])]
 | makeSlice t l c=>simp only[cq,h l (by simp [Op.operands]),h c (by simp [Op.operands])]
 | makeMap t r=>
   cases r with
   | none=>simp only[cq]
   | some r=>simp only[cq,h r (by simp [Op.operands])]
 | range t x=>simp only[cq,h x (by simp [Op.operands])]
 | _=>simp only[cq]
theorem vn {call:aB} {ts iU:List AV} {o:Oper} (h:y9 E ts iU o.op) (hp:ag) (rc:RC):bX E call ts hp rc o=bX E call iU hp rc o:=by
 obtain ⟨dst,op,ty,pos,after,guard⟩:=o
 simp only at h
 unfold bX
 cases op with
 | call c=>
   have hc:=jG (E:=E) (ts:=ts) (iU:=iU) (c:=c) h
   have yv:=rq (E:=E) (ts:=ts) (iU:=iU) (c:=c) h
   cases Sm:c.callee with
   | invoke r name=>
     have hr:cx E ts r=cx E iU r:=h r (by simp [Op.operands,Call.operands,Sm])
     simp only[Sm,hc,hr]
   | builtin b=>cases b<;>simp only[Sm,hc]
   | value f=>simp only[Sm,yv]
 | defer c=>simp only[rq (E:=E) (ts:=ts) (iU:=iU) (c:=c) h]
 | store t a x=>simp only[h a (by simp [Op.operands]),h x (by simp [Op.operands])]
 | mapUpdate t m k x=>simp only[h m (by simp [Op.operands]),h k (by simp [Op.operands]),h x (by simp [Op.operands])]
 | insert t m k x=>simp only[h m (by simp [Op.operands]),h k (by simp [Op.operands]),h x (by simp [Op.operands])]
 | mapEntry t m k=>simp only[h m (by simp [Op.operands]),h k (by simp [Op.operands])]
 | entryStore t m k x=>simp only[h m (by simp [Op.operands]),h k (by simp [Op.operands]),h x (by simp [Op.operands])]
 | convert s d x=>simp only[h x (by simp [Op.operands])]
 | next i s=>simp only[h i (by simp [Op.operands])]
 | panic x=>simp only[h x (by simp [Op.operands])]
 | _=>rfl
end Go.Ab
end
section
namespace Go.Ab
variable {E:Env}
theorem jn {α:Type} {f:α→α→Bool} (hf:∀x y,f x y=true→x=y):∀{l r:List α} (_:dO f l r=true),l=r
 | [],[],_=>rfl
 | [],_::_,h=>by simp [dO] at h
 | _::_,[],h=>by simp [dO] at h
 | x::xs,y::ys,h=>by
   simp only[dO,Bool.and_eq_true] at h
   rw[hf x y h.1,jn hf h.2]
theorem AV.ru:∀(n:Nat) (x y:AV),AV.same n x y=true→x=y
 | 0,_,_,h=>by simp [AV.same] at h
 | n+1,x,y,h=>by
   have ih:=AV.ru n
   cases x<;>cases y<;>simp [AV.same] at h<;>try rfl
   all_goals first
    | (subst h;rfl)
    | (obtain ⟨rfl,rfl⟩:=h;rfl)
    | (obtain ⟨⟨⟨⟨rfl,rfl⟩,rfl⟩,rfl⟩,rfl⟩:=h;rfl)
    | (obtain ⟨⟨rfl,h1⟩,h2⟩:=h;rw[jn ih h1,jn ih h2])
    | (obtain ⟨rfl,h1⟩:=h;rw[ih _ _ h1])
    | (rw[jn ih h])
theorem aw.ru {x y:aw} (h:aw.same x y=true):x=y:=by
 unfold aw.same at h
 split at h
 · simp only[Bool.and_eq_true,beq_iff_eq] at h
   obtain ⟨⟨h1,rfl⟩,rfl⟩:=h
   rw[jn (AV.ru 20) h1]
 · simp at h;subst h;rfl
 · simp at h;obtain ⟨rfl,rfl⟩:=h;rfl
 · simp at h
theorem qu:∀{l:List Nat} (_:nodup l=true),l.Nodup
 | [],_=> .nil
 | x::xs,h=>by
   simp only[nodup,Bool.and_eq_true,Bool.not_eq_true',List.contains_eq_mem,decide_eq_false_iff_not] at h
   exact List.nodup_cons.2 ⟨h.1,qu h.2⟩
theorem vo:∀(n:Nat) (l:List Nat) (_:l.Nodup) (_:∀x∈l,x<n),l.length≤n
 | 0,l,_,h=>by
   cases l with
   | nil=>simp
   | cons x _=>have:=h x (by simp);omega
 | n+1,l,hn,h=>by
   have h1:=vo n (l.erase n) (hn.erase n) (fun x hx=>by
    have h2:=h x (List.mem_of_mem_erase hx)
    have h3:x≠n:=(hn.mem_erase_iff.1 hx).1
    omega)
   rw[List.length_erase] at h1
   split at h1<;>omega
structure vp (E:Env) (ops:Array Oper) (pl:iT):Prop where
 lt:∀i o j,ops[i]? =some o→cm pl.an i j=true→j<i
 direct:∀i o e,ops[i]? =some o→e∈h_ o→e<i∧cm pl.an i e=true
 closed:∀i o j,ops[i]? =some o→cm pl.an i j=true→∃e∈h_ o,e=j∨cm pl.an e j=true
 guard:∀i o g want,ops[i]? =some o→o.guard=some (g,want)→cm pl.an i g=true
 slot:∀i j o p d,i≠j→ops[i]? =some o→ops[j]? =some p→p.dst=some d→o.dst≠some d∧(d∈tmpsOf o→cm pl.an i j=true∨cm pl.an j i=true)
 chain:∀q e f,pl.aW[q]? =some e→pl.aW[q+1]? =some f→cm pl.an f e=true
 aW:pl.aW=jB E ops.toList
 nd:pl.aW.Nodup
 order:ia E ops pl.an pl.aW pl.order [] 0=true
theorem pz {ops:Array Oper} {i:Nat} {o:Oper} (h:ops[i]? =some o):(o,i)∈ops.toList.zipIdx:=by
 rw[List.mk_mem_zipIdx_iff_getElem?];simpa using h
theorem rv {an:List (List Nat)}:∀{l:List Nat} (_:pr an l=true) (q e f:Nat),l[q]? =some e→l[q+1]? =some f→cm an f e=true
 | [],_,q,e,f,h,_=>by simp at h
 | [x],_,q,e,f,h,h'=>by simp at h'
 | x::y::l,hc,q,e,f,h,h'=>by
   simp only[pr,Bool.and_eq_true] at hc
   cases q with
   | zero=>simp at h h';subst h;subst h';exact hc.1
   | succ q=>exact rv hc.2 q e f (by simpa using h) (by simpa using h')
theorem Ct {ops:Array Oper} {pl:iT} (h:nY E ops=some pl):vp E ops pl:=by
 unfold nY at h
 simp only at h
 split at h
 · rename_i hc
   simp at h;subst h
   simp only[Bool.and_eq_true] at hc
   obtain ⟨⟨⟨⟨he,hs⟩,Sv⟩,lr⟩,J'⟩:=hc
   have EK:=List.all_eq_true.1 he
   have mK:=List.all_eq_true.1 hs
   refine ⟨fun i o j ho hj=>?_,fun i o e ho hm=>?_,fun i o j ho hj=>?_,fun i o g want ho hg=>?_,fun i j o p d cH ho hp hd=>?_,rv Sv,rfl,qu lr,J'⟩
   · have:=EK _ (pz ho)
     simp only[Bool.and_eq_true] at this
     have h2:=List.all_eq_true.1 this.2 j (by simpa [cm] using hj)
     simp only[Bool.and_eq_true,decide_eq_true_eq] at h2
     exact h2.1
   · have:=EK _ (pz ho)
     simp only[Bool.and_eq_true] at this
     have h2:=List.all_eq_true.1 this.1 e hm
     simpa using h2
   · have:=EK _ (pz ho)
     simp only[Bool.and_eq_true] at this
     have h2:=List.all_eq_true.1 this.2 j (by simpa [cm] using hj)
     simp only[Bool.and_eq_true,List.any_eq_true,Bool.or_eq_true,beq_iff_eq] at h2
     exact h2.2
   · have:=mK _ (pz ho)
     simp only[Bool.and_eq_true,hg] at this
     exact this.1.1
   · have:=mK _ (pz ho)
     simp only[Bool.and_eq_true] at this
     have h2:=List.all_eq_true.1 this.2 _ (pz hp)
     simp only[Bool.or_eq_true,beq_iff_eq,cH,false_or,hd,Bool.and_eq_true,bne_iff_ne,Bool.not_eq_true',List.contains_eq_mem,decide_eq_false_iff_not] at h2
     exact ⟨h2.1,fun hm=>(h2.2.imp_left (fun x=>x.resolve_left (fun hn=>hn hm)))⟩
 · simp at h
def fX (E:Env) (ops:Array Oper) (l:List Nat):Nat:=(l.filter fun i=>dv E ((ops.getD i default).op)).length
theorem Ax {ops:Array Oper} {i:Nat} (l:List Nat) (h:dv E ((ops.getD i default).op)=true):fX E ops (i::l)=fX E ops l+1:=by
 unfold fX;rw[List.filter_cons_of_pos (p:=fun i=>dv E ((ops.getD i default).op)) h];rfl
theorem Ay {ops:Array Oper} {i:Nat} (l:List Nat) (h:¬dv E ((ops.getD i default).op)=true):fX E ops (i::l)=fX E ops l:=by
 unfold fX;rw[List.filter_cons_of_neg (p:=fun i=>dv E ((ops.getD i default).op)) h]
theorem fi {ops:Array Oper} {an:List (List Nat)} {aW:List Nat}:∀{l seen:List Nat} {k:Nat} (_:ia E ops an aW l seen k=true),
 (∀p i,l[p]? =some i→i<ops.size∧i ∉ seen∧i ∉ l.take p∧(∀j,cm an i j=true→j∈seen∨j∈l.take p)∧
  (dv E ((ops.getD i default).op)=true→aW[k+fX E ops (l.take p)]? =some i)∧(dv E ((ops.getD i default).op)=false→Aa aW an i=k+fX E ops (l.take p)))∧
 (∀i,i<ops.size→i∈seen∨i∈l)∧k+fX E ops l=aW.length
 | [],seen,k,h=>by
   simp only[ia,Bool.and_eq_true,List.all_eq_true,List.mem_range,beq_iff_eq] at h
   exact ⟨fun p i hp=>by simp at hp,fun i hi=> .inl (by simpa using h.1 i hi),by simpa [fX] using h.2⟩
 | i::l,seen,k,h=>by
   simp only[ia,Bool.and_eq_true,decide_eq_true_eq,Bool.not_eq_true',List.contains_eq_mem,decide_eq_false_iff_not] at h
   obtain ⟨⟨⟨iv,Yi⟩,Sy⟩,kl⟩:=h
   have QX:∀j,cm an i j=true→j∈seen:=fun j hj=>by
    have:=List.all_eq_true.1 Sy j (by simpa [cm] using hj)
    simpa using this
   by_cases he:dv E ((ops.getD i default).op)=true
   · simp only[he,if_true,Bool.and_eq_true,beq_iff_eq] at kl
     obtain ⟨h1,h2,h3⟩:=fi kl.2
     refine ⟨fun p j hp=>?_,fun j hj=>?_,?_⟩
     · cases p with
       | zero=>simp at hp;subst hp;exact ⟨iv,Yi,by simp,fun j hj=> .inl (QX j hj),fun _=>by simpa [fX] using kl.1,fun hf=>by rw[he] at hf;simp at hf⟩
       | succ p=>
         obtain ⟨a1,a2,a3,a4,a5,a6⟩:=h1 p j (by simpa using hp)
         have hc:k+fX E ops (List.take (p+1) (i::l))=k+1+fX E ops (l.take p):=by rw[List.take_succ_cons,Ax _ he];omega
         simp only[List.mem_cons,not_or] at a2
         refine ⟨a1,a2.2,by simp;exact ⟨a2.1,a3⟩,fun m hm=>?_,by rw[hc];exact a5,by rw[hc];exact a6⟩
         rcases a4 m hm with h4 | h4
         · simp at h4;rcases h4 with rfl | h4
           · exact .inr (by simp)
           · exact .inl h4
         · exact .inr (by simp [h4])
     · rcases h2 j hj with h4 | h4
       · simp at h4;rcases h4 with rfl | h4
         · exact .inr (by simp)
         · exact .inl h4
       · exact .inr (by simp [h4])
     · rw[Ax _ he];omega
   · simp only[he,Bool.false_eq_true,if_false,Bool.and_eq_true,beq_iff_eq] at kl
     obtain ⟨h1,h2,h3⟩:=fi kl.2
     refine ⟨fun p j hp=>?_,fun j hj=>?_,?_⟩
     · cases p with
       | zero=>simp at hp;subst hp;exact ⟨iv,Yi,by simp,fun j hj=> .inl (QX j hj),fun hf=>absurd hf he,fun _=>by simpa [fX] using kl.1⟩
       | succ p=>
         obtain ⟨a1,a2,a3,a4,a5,a6⟩:=h1 p j (by simpa using hp)
         have hc:k+fX E ops (List.take (p+1) (i::l))=k+fX E ops (l.take p):=by rw[List.take_succ_cons,Ay _ he]
         simp only[List.mem_cons,not_or] at a2
         refine ⟨a1,a2.2,by simp;exact ⟨a2.1,a3⟩,fun m hm=>?_,by rw[hc];exact a5,by rw[hc];exact a6⟩
         rcases a4 m hm with h4 | h4
         · simp at h4;rcases h4 with rfl | h4
           · exact .inr (by simp)
           · exact .inl h4
         · exact .inr (by simp [h4])
     · rcases h2 j hj with h4 | h4
       · simp at h4;rcases h4 with rfl | h4
         · exact .inr (by simp)
         · exact .inl h4
       · exact .inr (by simp [h4])
     · rw[Ay _ he];exact h3
def eu (ops:Array Oper) (i:Nat):Option Tmp:=(ops[i]?).bind (·.dst)
def Az (ops:Array Oper) (ts:List AV) (l:List Step):List AV:=l.foldl (fun ts x=>cA ts (eu ops x.i) x.v) ts
def lu (ops:Array Oper) (val:Nat→AV) (ts:List AV) (l:List Nat):List AV:=l.foldl (fun ts i=>cA ts (eu ops i) (val i)) ts
structure Grown (a b:ag):Prop where
 nx:a.nx≤b.nx
 old:∀i,i<a.nx→b.get i=a.get i
theorem Grown.refl (a:ag):Grown a a:=⟨Nat.le_refl _,fun _ _=>rfl⟩
theorem Grown.trans {a b c:ag} (x:Grown a b) (y:Grown b c):Grown a c:=⟨Nat.le_trans x.nx y.nx,fun i hi=>(y.old i (Nat.lt_of_lt_of_le hi x.nx)).trans (x.old i hi)⟩
theorem Grown.new {a b:ag} {o:aw} (h:a.new o=some b):Grown a b:=by
 obtain ⟨h1,h2,h3,h4⟩:=ag.iu h
 exact ⟨by omega,fun i hi=>h4 i (by omega)⟩
theorem OK.grown {φ:Ph} {a b:ag} {w:World} (g:Grown a b) (ok:OK E φ a w):OK E φ b w∧Fr φ a w φ b w:=by
 have hold:∀i l,φ i=some l→b.get i=a.get i:=fun i l hl=>g.old i (ok.sE i l hl)
 refine ⟨⟨fun i l hl=>Nat.lt_of_lt_of_le (ok.sE i l hl) g.nx,Nat.le_trans ok.nx g.nx,ok.nK,fun i o l hi hl=>ok.live i o l (hold i l hl▸hi) hl,
  fun i j o p l m hi hj hl hm hw hb=>ok.inj i j o p l m (hold i l hl▸hi) (hold j m hm▸hj) hl hm hw hb⟩,
  ⟨Ph.le_refl φ,fun _ _=>rfl,g.nx,rfl,rfl,rfl,Nat.le_refl _,fun _ _ _=>rfl,fun i o l hi hr hl=> .inr ⟨i,o,l,hold i l hl▸hi,hr,hl,rfl⟩⟩⟩
def ry (E:Env) (call:aB) (ops:Array Oper) (rc:RC) (x:Step) (o:Oper) (hk:ag) (sk:ag) (QY:Option ag):Prop:=
 match x.kind with
 | .off=>bE ops x.ts o=false∧x.v=AV.undef∧(dv E o.op=true→QY=some hk)
 | .ei=>dv E o.op=false∧bE ops x.ts o=true∧aG E x.ts o.op=some x.v
 | .red=>dv E o.op=false∧bE ops x.ts o=true
 | .nZ n obj=>dv E o.op=false∧bE ops x.ts o=true∧(∃mk,cq E x.ts o.op=some (obj,mk)∧x.v=mk n)∧sk.nx≤n∧n<hk.nx
 | .pS h'=>dv E o.op=true∧bE ops x.ts o=true∧bX E call x.ts hk rc o= .val x.v h'∧QY=some h'
structure OI (E:Env) (call:aB) (ops:Array Oper) (s:St) (k:Nat) (order:List Nat) (tr:List Step) (hs st:List ag) (s':St):Prop where
 is:tr.map (·.i)=order
 ts:s'.ts=Az ops s.ts tr
 ds:s'.ds=s.ds
 rc:s'.rc=s.rc
 len:hs.length=fX E ops order+1
 Sz:st.length=hs.length
 first:st[0]? =some s.h
 last:hs[fX E ops order]? =some s'.h
 grown:∀(j:Nat) (a b:ag),st[j]? =some a→hs[j]? =some b→Grown a b
 step:∀(p:Nat) (x:Step),tr[p]? =some x→x.ts=Az ops s.ts (tr.take p)∧x.k=k+fX E ops (order.take p)∧
  ∃o hk sk,ops[x.i]? =some o∧hs[fX E ops (order.take p)]? =some hk∧st[fX E ops (order.take p)]? =some sk∧ry E call ops s.rc x o hk sk (st[fX E ops (order.take p)+1]?)
theorem pA (ops:Array Oper) (ts:List AV) (x:Step) (l:List Step):Az ops ts (x::l)=Az ops (cA ts (eu ops x.i) x.v) l:=rfl
theorem kr {call:aB} {ops:Array Oper}:∀{order:List Nat} {k:Nat} {s:St} {tr:List Step} {hs:List ag} {s':St} (_:bR E call ops order k s= .ok tr hs s'),
 ∃st,OI E call ops s k order tr hs st s'
 | [],k,s,tr,hs,s',h=>by
   simp [bR] at h;obtain ⟨rfl,rfl,rfl⟩:=h
   exact ⟨[s.h],rfl,rfl,rfl,rfl,rfl,rfl,rfl,rfl,fun j a b ha hb=>by
    cases j with
    | zero=>simp at ha hb;subst ha;subst hb;exact Grown.refl _
    | succ j=>simp at ha,fun p x hp=>by simp at hp⟩
 | i::rest,k,s,tr,hs,s',h=>by
   simp only[bR] at h
   cases ho:ops[i]? with
   | none=>rw[ho] at h;simp at h
   | some o=>
   rw[ho] at h
   simp only at h
   have UK:ops.getD i default=o:=by simp [Array.getD_eq_getD_getElem?,ho]
   have OJ:eu ops i=o.dst:=by simp [eu,ho]
   have writes:∀(x:Step) (s1:St),x.i=i→x.k=k→x.ts=s.ts→s1.ts=cA s.ts o.dst x.v→s1.ds=s.ds→s1.rc=s.rc→dv E o.op=true→
    ry E call ops s.rc x o s.h s.h (some s1.h)→((bR E call ops rest (k+1) s1).bound s.h).step x= .ok tr hs s'→∃st,OI E call ops s k (i::rest) tr hs st s':=by
    intro x s1 Ip AB Zs h1 h2 h3 he eZ hd
    cases hr:bR E call ops rest (k+1) s1 with
    | fail why q=>rw[hr] at hd;simp [gJ.bound,gJ.step] at hd
    | ok GX mM s2=>
      rw[hr] at hd;simp [gJ.bound,gJ.step] at hd;obtain ⟨rfl,rfl,rfl⟩:=hd
      obtain ⟨JC,t⟩:=kr hr
      have hc:∀l,fX E ops (i::l)=fX E ops l+1:=fun l=>Ax l (by rw[UK];exact he)
      refine ⟨s.h::JC,by simp [Ip,t.is],?_,t.ds.trans h2,t.rc.trans h3,by simp [t.len,hc],by simp [t.Sz],rfl,by rw[hc];simpa using t.last,fun j a b ha hb=>?_,fun p y hp=>?_⟩
      · rw[pA,Ip,OJ,←h1];exact t.ts
      · cases j with
        | zero=>simp at ha hb;subst ha;subst hb;exact Grown.refl _
        | succ j=>exact t.grown j a b (by simpa using ha) (by simpa using hb)
      · cases p with
        | zero=>
          simp at hp;subst hp
          refine ⟨by simp [Az,Zs],by simp [fX,AB],o,s.h,s.h,by rw[Ip];exact ho,by simp [fX],by simp [fX],?_⟩
          have:(s.h::JC)[fX E ops (List.take 0 (i::rest))+1]? =some s1.h:=by simp [fX];exact t.first
          rw[this];exact eZ
        | succ p=>
          obtain ⟨a1,a2,o2,hk,sk,a3,a4,a5,a6⟩:=t.step p y (by simpa using hp)
          refine ⟨?_,by rw[List.take_succ_cons,hc];omega,o2,hk,sk,a3,by rw[List.take_succ_cons,hc];simpa using a4,by rw[List.take_succ_cons,hc];simpa using a5,?_⟩
          · rw[List.take_succ_cons,pA,Ip,OJ,←h1];exact a1
          · rw[List.take_succ_cons,hc,h3] at *
            simpa using a6
   have plain:∀(x:Step) (s1:St),x.i=i→x.k=k→x.ts=s.ts→s1.ts=cA s.ts o.dst x.v→s1.ds=s.ds→s1.rc=s.rc→dv E o.op=false→Grown s.h s1.h→
    (∀hk sn,Grown s1.h hk→ry E call ops s.rc x o hk s.h sn)→(bR E call ops rest k s1).step x= .ok tr hs s'→∃st,OI E call ops s k (i::rest) tr hs st s':=by
    intro x s1 Ip AB Zs h1 h2 h3 he hg eZ hd
    cases hr:bR E call ops rest k s1 with
    | fail why q=>rw[hr] at hd;simp [gJ.step] at hd
    | ok GX mM s2=>
      rw[hr] at hd;simp [gJ.step] at hd;obtain ⟨rfl,rfl,rfl⟩:=hd
      obtain ⟨JC,t⟩:=kr hr
      have hc:∀l,fX E ops (i::l)=fX E ops l:=fun l=>Ay l (by rw[UK];simp [he])
      cases lx:JC with
      | nil=>have:=t.first;rw[lx] at this;simp at this
      | cons s0 Zt=>
      have E_:s0=s1.h:=by have:=t.first;rw[lx] at this;simpa using this
      subst E_
      have dw:∀j,(s.h::Zt)[j+1]? =JC[j+1]? :=fun j=>by rw[lx];rfl
      refine ⟨s.h::Zt,by simp [Ip,t.is],?_,t.ds.trans h2,t.rc.trans h3,by rw[hc];exact t.len,by have:=t.Sz;rw[lx] at this;simpa using this,rfl,by rw[hc];exact t.last,fun j a b ha hb=>?_,fun p y hp=>?_⟩
      · rw[pA,Ip,OJ,←h1];exact t.ts
      · cases j with
        | zero=>
          simp at ha;subst ha
          exact hg.trans (t.grown 0 _ b t.first hb)
        | succ j=>rw[dw] at ha;exact t.grown (j+1) a b ha hb
      · cases p with
        | zero=>
          simp at hp;subst hp
          have h0:∃hk,mM[0]? =some hk:=by
           have:=t.len
           cases hh:mM with
           | nil=>rw[hh] at this;simp at this
           | cons a _=>exact ⟨a,rfl⟩
          obtain ⟨hk,tU⟩:=h0
          refine ⟨by simp [Az,Zs],by simp [fX,AB],o,hk,s.h,by rw[Ip];exact ho,by simpa [fX] using tU,by simp [fX],?_⟩
          exact eZ hk _ (t.grown 0 _ hk t.first tU)
        | succ p=>
          obtain ⟨a1,a2,o2,hk,sk,a3,a4,a5,a6⟩:=t.step p y (by simpa using hp)
          have Vy:∃Yl,(s.h::Zt)[fX E ops (List.take p rest)]? =some Yl∧Yl.nx≤sk.nx:=by
           cases hq:fX E ops (List.take p rest) with
           | zero=>rw[hq] at a5;rw[t.first] at a5;simp at a5;subst a5;exact ⟨s.h,rfl,hg.nx⟩
           | succ q=>rw[hq] at a5;exact ⟨sk,by rw[dw];exact a5,Nat.le_refl _⟩
          obtain ⟨Yl,Zu,Zv⟩:=Vy
          refine ⟨?_,by rw[List.take_succ_cons,hc];exact a2,o2,hk,Yl,a3,by rw[List.take_succ_cons,hc];exact a4,by rw[List.take_succ_cons,hc];exact Zu,?_⟩
          · rw[List.take_succ_cons,pA,Ip,OJ,←h1];exact a1
          · rw[List.take_succ_cons,hc,dw,←h3]
            unfold ry at a6 ⊢
            split<;>rename_i rz<;>rw[rz] at a6
            · exact a6
            · exact a6
            · exact a6
            · exact ⟨a6.1,a6.2.1,a6.2.2.1,Nat.le_trans Zv a6.2.2.2.1,a6.2.2.2.2⟩
            · exact a6
   split at h
   · rename_i he
     split at h
     · rename_i hw
       split at h
       · rename_i v h' od
         exact writes ⟨i,k,s.ts,v,.pS h'⟩ {s with ts:=cA s.ts o.dst v,h:=h'} rfl rfl rfl rfl rfl rfl he ⟨he,hw,od,rfl⟩ h
       · simp at h
       · simp at h
     · rename_i hw
       exact writes ⟨i,k,s.ts,AV.undef,.off⟩ {s with ts:=cA s.ts o.dst AV.undef} rfl rfl rfl rfl rfl rfl he ⟨by simpa using hw,rfl,fun _=>rfl⟩ h
   · rename_i he
     have EK:dv E o.op=false:=by simpa using he
     split at h
     · rename_i hw
       split at h
       · rename_i v hp
         exact plain ⟨i,k,s.ts,v,.ei⟩ {s with ts:=cA s.ts o.dst v} rfl rfl rfl rfl rfl rfl EK (Grown.refl _) (fun hk sn _=>⟨EK,hw,hp⟩) h
       · split at h
         · rename_i v hp
           exact plain ⟨i,k,s.ts,v,.red⟩ {s with ts:=cA s.ts o.dst v} rfl rfl rfl rfl rfl rfl EK (Grown.refl _) (fun hk sn _=>⟨EK,hw⟩) h
         · split at h
           · rename_i obj mk hp
             split at h
             · rename_i h' hn
               refine plain ⟨i,k,s.ts,mk s.h.nx,.nZ s.h.nx obj⟩ {s with ts:=cA s.ts o.dst (mk s.h.nx),h:=h'} rfl rfl rfl rfl rfl rfl EK (Grown.new hn) (fun hk sn g=>⟨EK,hw,⟨mk,hp,rfl⟩,Nat.le_refl _,?_⟩) h
               have:=(ag.iu hn).2.1
               have:=g.nx
               simp at this;omega
             · simp at h
           · simp at h
     · rename_i hw
       exact plain ⟨i,k,s.ts,AV.undef,.off⟩ {s with ts:=cA s.ts o.dst AV.undef} rfl rfl rfl rfl rfl rfl EK (Grown.refl _) (fun hk sn _=>⟨by simpa using hw,rfl,fun h=>by rw[EK] at h;simp at h⟩) h
end Go.Ab
end
section
namespace Go.Ab
variable {E:Env}
theorem pB (ops:Array Oper) (val:Nat→AV) (x:Nat):∀(l:List Nat) (ts:List AV) (_:∀j∈l,eu ops j≠some x),(lu ops val ts l)[x]? =ts[x]?
 | [],_,_=>rfl
 | i::l,ts,h=>by
   show (lu ops val (cA ts (eu ops i) (val i)) l)[x]? =_
   rw[pB ops val x l _ (fun j hj=>h j (by simp [hj]))]
   have:=h i (by simp)
   cases hd:eu ops i with
   | none=>rfl
   | some d=>
     rw[hd] at this
     have cH:d≠x:=fun e=>this (by rw[e])
     simp [cA,List.getElem?_set_ne cH]
theorem vq (ops:Array Oper) (val:Nat→AV) (x j:Nat) (hj:eu ops j=some x):∀(l:List Nat) (ts:List AV) (_:j∈l) (_:∀j'∈l,eu ops j'=some x→j'=j),(lu ops val ts l)[x]? =if x<ts.length then some (val j) else none
 | i::l,ts,hm,hu=>by
   show (lu ops val (cA ts (eu ops i) (val i)) l)[x]? =_
   have hlen:(cA ts (eu ops i) (val i)).length=ts.length:=by cases eu ops i<;>simp [cA]
   by_cases GY:j∈l
   · rw[vq ops val x j hj l _ GY (fun j' h=>hu j' (by simp [h])),hlen]
   · have hij:i=j:=by simp at hm;rcases hm with h | h;exact h.symm;exact absurd h GY
     subst hij
     rw[pB ops val x l _ (fun j' j6 e=>GY (hu j' (by simp [j6]) e▸j6))]
     rw[hj]
     simp [cA,List.getElem?_set]
theorem qv {ops:Array Oper} {val:Nat→AV} {x:Nat} {l d:List Nat} (ts:List AV) (hu:∀j j',eu ops j=some x→eu ops j'=some x→j=j') (QZ:∀j,eu ops j=some x→(j∈l↔j∈d)):
 (lu ops val ts l)[x]? =(lu ops val ts d)[x]? :=by
 by_cases h:∃j,eu ops j=some x∧j∈l
 · obtain ⟨j,hj,hl⟩:=h
   rw[vq ops val x j hj l ts hl (fun j' _ e=>hu j' j e hj),vq ops val x j hj d ts ((QZ j hj).1 hl) (fun j' _ e=>hu j' j e hj)]
 · rw[pB ops val x l ts (fun j hj e=>h ⟨j,e,hj⟩),pB ops val x d ts (fun j hj e=>h ⟨j,e,(QZ j e).2 hj⟩)]
theorem sN {l r:List AV} {x:Nat} (h:l[x]? =r[x]?) (d:AV):l.getD x d=r.getD x d:=by simp [List.getD,h]
def valOf (tr:List Step) (i:Nat):AV:=((tr.find? (fun x=>x.i==i)).map (·.v)).getD AV.undef
theorem Cu {tr:List Step} (hn:(tr.map (·.i)).Nodup) {p:Nat} {x:Step} (hp:tr[p]? =some x):valOf tr x.i=x.v:=by
 unfold valOf
 have:tr.find? (fun y=>y.i==x.i)=some x:=by
  rw[List.find?_eq_some_iff_getElem]
  obtain ⟨iv,hx⟩:=List.getElem?_eq_some_iff.1 hp
  refine ⟨by simp,p,iv,hx,fun j hj=>?_⟩
  have GY:j<tr.length:=by omega
  simp only[Bool.not_eq_true',beq_eq_false_iff_ne]
  intro e
  have h1:(tr.map (·.i))[j]? =some x.i:=by simp [GY,e]
  have h2:(tr.map (·.i))[p]? =some x.i:=by simp [iv,hx]
  have:=(List.getElem?_inj (by simpa using GY) hn).1 (h1.trans h2.symm)
  omega
 rw[this];rfl
theorem AD (ops:Array Oper) {tr:List Step} (hn:(tr.map (·.i)).Nodup) (ts:List AV) (p:Nat):Az ops ts (tr.take p)=lu ops (valOf tr) ts ((tr.map (·.i)).take p):=by
 have key:∀(l:List Step) (ts:List AV),(∀x∈l,valOf tr x.i=x.v)→Az ops ts l=lu ops (valOf tr) ts (l.map (·.i)):=by
  intro l
  induction l with
  | nil=>intro ts _;rfl
  | cons x l ih=>
    intro ts h
    show Az ops (cA ts (eu ops x.i) x.v) l=lu ops (valOf tr) (cA ts (eu ops x.i) (valOf tr x.i)) (l.map (·.i))
    rw[h x (by simp),ih _ (fun y hy=>h y (by simp [hy]))]
 rw[key _ _ (fun x hx=>?_),List.map_take]
 obtain ⟨q,hq⟩:=List.getElem?_of_mem (List.mem_of_mem_take hx)
 exact Cu hn hq
theorem OK.place {φ:Ph} {h:ag} {w:World} (ok:OK E φ h w) {n:Nat} {obj:aw} (hg:h.get n=some obj) (Ad:φ n=none) (iv:n<h.nx) {O:Obj}
 (ho:OR E (φ.add n ⟨w.heap.size,0,0⟩) obj ⟨w.heap.size,0,0⟩ (some O)):OK E (φ.add n ⟨w.heap.size,0,0⟩) h (w.alloc O)∧φ.le (φ.add n ⟨w.heap.size,0,0⟩):=by
 have hle:φ.le (φ.add n ⟨w.heap.size,0,0⟩):=fun j m hm=>by
  unfold Ph.add;split
  · rename_i e;subst e;rw[Ad] at hm;simp at hm
  · exact hm
 have gY:∀j,j≠n→(φ.add n ⟨w.heap.size,0,0⟩) j=φ j:=fun j hj=>by simp [Ph.add,hj]
 have et:(φ.add n ⟨w.heap.size,0,0⟩) n=some ⟨w.heap.size,0,0⟩:=by simp [Ph.add]
 have Q0:(w.alloc O).heap=w.heap.push O:=rfl
 have uw:∀j p m,h.get j=some p→φ j=some m→m.cG<w.heap.size:=fun j p m hj hm=>by
  have uQ:=ok.live j p m hj hm
  rcases Nat.lt_or_ge m.cG w.heap.size with a | a
  · exact a
  · exfalso
    rw[Array.getElem?_eq_none a] at uQ
    exact uQ.absurd
 refine ⟨⟨fun j m hm=>?_,ok.nx,fun g hg=>hle _ _ (ok.nK g hg),fun j p m hj hm=>?_,fun j k p q m r hj hk hm hr hw hb=>?_⟩,hle⟩
 · by_cases e:j=n
   · omega
   · rw[gY j e] at hm;exact ok.sE j m hm
 · by_cases e:j=n
   · subst e;rw[et] at hm;simp at hm;subst hm;rw[hg] at hj;simp at hj;subst hj;rw[Q0];simpa using ho
   · rw[gY j e] at hm
     have hb:=uw j p m hj hm
     rw[Q0,Array.getElem?_push,if_neg (by omega)]
     exact (ok.live j p m hj hm).mono hle
 · by_cases e:j=n<;>by_cases e':k=n
   · rw[e,e']
   · subst e;rw[et] at hm;simp at hm;subst hm;rw[gY k e'] at hr;have:=uw k q r hk hr;simp at hb;omega
   · subst e';rw[et] at hr;simp at hr;subst hr;rw[gY j e] at hm;have:=uw j p m hj hm;simp at hb;omega
   · rw[gY j e] at hm;rw[gY k e'] at hr;exact ok.inj j k p q m r hj hk hm hr hw hb
theorem Fr.place {φ₀ φ:Ph} {h₀ h:ag} {w₀ w:World} (f:Fr φ₀ h₀ w₀ φ h w) {n:Nat} (hn:h₀.nx≤n) (Ad:φ n=none) (O:Obj):Fr φ₀ h₀ w₀ (φ.add n ⟨w.heap.size,0,0⟩) h (w.alloc O):=by
 have gY:∀j,j≠n→(φ.add n ⟨w.heap.size,0,0⟩) j=φ j:=fun j hj=>by simp [Ph.add,hj]
 have et:(φ.add n ⟨w.heap.size,0,0⟩) n=some ⟨w.heap.size,0,0⟩:=by simp [Ph.add]
 refine ⟨fun j m hm=>?_,fun i hi=>by rw[gY i (by omega)];exact f.old i hi,f.nx,f.os,f.tape,f.output,by have:=f.size;simp;omega,fun b hb Vc=>?_,fun i o l hi hr hl=>?_⟩
 · by_cases e:j=n
   · subst e;have:=f.ext j m hm;rw[Ad] at this;simp at this
   · rw[gY j e];exact f.ext j m hm
 · have:=f.size
   rw[show (w.alloc O).heap=w.heap.push O from rfl,Array.getElem?_push,if_neg (by omega)]
   exact f.n6 b hb Vc
 · by_cases e:i=n
   · subst e;rw[et] at hl;simp at hl;subst hl;exact .inl f.size
   · rw[gY i e] at hl;exact f.own i o l hi hr hl
theorem filter_le {P:Nat→Bool} {l:List Nat} {K:Nat} (h:∀q e,l[q]? =some e→P e=true→q<K):(l.filter P).length≤K:=by
 have h1:(l.drop K).filter P=[]:=by
  rw[List.filter_eq_nil_iff]
  intro e he hP
  obtain ⟨q,hq⟩:=List.getElem?_of_mem he
  rw[List.getElem?_drop] at hq
  have:=h _ e hq hP
  omega
 calc (l.filter P).length=((l.take K++l.drop K).filter P).length:=by rw[List.take_append_drop]
  _=((l.take K).filter P).length:=by rw[List.filter_append,h1,List.append_nil]
  _≤(l.take K).length:=List.length_filter_le _ _
  _≤K:=by simp;omega
theorem rA {P:Nat→Bool}:∀{l:List Nat} {e:Nat} (_:l[(l.takeWhile P).length]? =some e),P e=false
 | [],e,h=>by simp at h
 | x::l,e,h=>by
   by_cases hx:P x=true
   · rw[List.takeWhile_cons_of_pos hx] at h
     exact rA (l:=l) (by simpa using h)
   · rw[List.takeWhile_cons_of_neg hx] at h
     simp at h;subst h;simpa using hx
end Go.Ab
end
section
namespace Go.Ab
variable {E:Env}
structure AE (E:Env) (call:aB) (ops:Array Oper) (pl:iT) (s s':St) (tr:List Step) (hs st:List ag):Prop where
 nO:vp E ops pl
 trace:OI E call ops s 0 pl.order tr hs st s'
 still:∀x∈tr,∀K hk,x.k≤K→K≤gV pl.aW pl.an x.i→hs[K]? =some hk→f_ E ops x hk=true
 ids:∀(x y:Step),x∈tr→y∈tr→∀(n:Nat) (o q:aw),x.kind= .nZ n o→y.kind= .nZ n q→x.i=y.i
structure Inv (E:Env) (ops:Array Oper) (pl:iT) (s:St) (tr:List Step) (hs st:List ag) (φ₀:Ph) (w₀:World) (qX:List Deferred) (d:List Nat) (listed:Array Bool) (K:Nat) (φ:Ph) (a:Act) (w:World):Prop where
 nd:d.Nodup
 lt:∀i∈d,i<ops.size
 listed:∀i,i<ops.size→listed[i]? =some (decide (i∈d))
 closed:∀i∈d,∀j,cm pl.an i j=true→j∈d
 aW:∀q e,pl.aW[q]? =some e→(e∈d↔q<K)
 Zw:K≤pl.aW.length
 ts:LR φ (lu ops (valOf tr) s.ts d) a.tmps.toList
 ds:a.defers=qX
 ok:∃hK,hs[K]? =some hK∧OK E φ hK w∧Fr φ₀ s.h w₀ φ hK w
 fH:∀x∈tr,∀n obj,x.kind= .nZ n obj→x.i ∉ d→x.k≤K→φ n=none∧s.h.nx≤n∧∀hK,hs[K]? =some hK→n<hK.nx
section
variable {call:aB} {ops:Array Oper} {pl:iT} {s s':St} {tr:List Step} {hs st:List ag}
theorem AE.at (r:AE E call ops pl s s' tr hs st) {p:Nat} {x:Step} (hp:tr[p]? =some x):
 pl.order[p]? =some x.i∧x.i ∉ pl.order.take p∧(∀j,cm pl.an x.i j=true→j∈pl.order.take p)∧x.k=fX E ops (pl.order.take p)∧
 ∃o,ops[x.i]? =some o∧(dv E o.op=true→pl.aW[x.k]? =some x.i)∧(dv E o.op=false→Aa pl.aW pl.an x.i=x.k):=by
 have h1:pl.order[p]? =some x.i:=by rw[←r.trace.is,List.getElem?_map,hp];rfl
 obtain ⟨h2,_,_⟩:=fi r.nO.order
 obtain ⟨a1,a2,a3,a4,a5,a6⟩:=h2 p x.i h1
 obtain ⟨b1,b2,o,hk,sk,b3,_⟩:=r.trace.step p x hp
 have UK:ops.getD x.i default=o:=by simp [Array.getD_eq_getD_getElem?,b3]
 rw[UK] at a5 a6
 have yU:x.k=fX E ops (pl.order.take p):=by omega
 refine ⟨h1,a3,fun j hj=>(a4 j hj).resolve_left (by simp),yU,o,b3,fun he=>?_,fun he=>?_⟩
 · have:=a5 he;rw[yU];simpa using this
 · have:=a6 he;omega
theorem p_:∀{l:List Nat} (_:∀(p i:Nat),l[p]? =some i→i ∉ l.take p),l.Nodup
 | [],_=> .nil
 | x::l,h=>by
   refine List.nodup_cons.2 ⟨fun hm=>?_,p_ (fun p i hp hi=>h (p+1) i (by simpa using hp) (by simp [hi]))⟩
   obtain ⟨q,hq⟩:=List.getElem?_of_mem hm
   exact h (q+1) x (by simpa using hq) (by simp)
theorem AE.nodup (r:AE E call ops pl s s' tr hs st):pl.order.Nodup:=by
 obtain ⟨h2,_,_⟩:=fi r.nO.order
 exact p_ (fun p i hp=>(h2 p i hp).2.2.1)
theorem AE.all (r:AE E call ops pl s s' tr hs st) {i:Nat} (hi:i<ops.size):∃(p:Nat) (x:Step),tr[p]? =some x∧x.i=i:=by
 obtain ⟨_,h3,_⟩:=fi r.nO.order
 have:=(h3 i hi).resolve_left (by simp)
 rw[←r.trace.is] at this
 obtain ⟨x,hx,rfl⟩:=List.mem_map.1 this
 obtain ⟨p,hp⟩:=List.getElem?_of_mem hx
 exact ⟨p,x,hp,rfl⟩
theorem rB {ops:Array Oper} {pl:iT} (Zx:vp E ops pl) {x j j':Nat} (h:eu ops j=some x) (h':eu ops j'=some x):j=j':=by
 unfold eu at h h'
 cases ho:ops[j]? with
 | none=>rw[ho] at h;simp at h
 | some o=>
 cases Cv:ops[j']? with
 | none=>rw[Cv] at h';simp at h'
 | some o'=>
 rw[ho] at h;rw[Cv] at h'
 simp at h h'
 rcases Nat.decEq j j' with cH | he
 · exact absurd h (Zx.slot j j' o o' x cH ho Cv h').1
 · exact he
theorem agree (r:AE E call ops pl s s' tr hs st) {p:Nat} {x:Step} {o:Oper} (hp:tr[p]? =some x) (ho:ops[x.i]? =some o) {d:List Nat} (hd:x.i ∉ d) (AF:∀i∈d,∀j,cm pl.an i j=true→j∈d)
 (mQ:∀j,cm pl.an x.i j=true→j∈d):y9 E x.ts (lu ops (valOf tr) s.ts d) o.op∧bE ops (lu ops (valOf tr) s.ts d) o=bE ops x.ts o:=by
 obtain ⟨h1,h2,h3,_,_⟩:=r.at hp
 have lr:(tr.map (·.i)).Nodup:=by rw[r.trace.is];exact r.nodup
 have Ka:x.ts=lu ops (valOf tr) s.ts (pl.order.take p):=by
  rw[(r.trace.step p x hp).1,AD ops lr,r.trace.is]
 have hpc:∀j∈pl.order.take p,∀m,cm pl.an j m=true→m∈pl.order.take p:=by
  intro j hj m hm
  obtain ⟨q,hq⟩:=List.getElem?_of_mem hj
  have hqp:q<p:=by
   have:=(List.getElem?_eq_some_iff.1 hq).1
   simp at this;omega
  have Ym:pl.order[q]? =some j:=by rw[List.getElem?_take] at hq;rw[if_pos hqp] at hq;exact hq
  obtain ⟨f1,_,_⟩:=fi r.nO.order
  have:=((f1 q j Ym).2.2.2.1 m hm).resolve_left (by simp)
  exact List.mem_of_mem_take (i:=q) (l:=pl.order.take p) (by rw[List.take_take,Nat.min_eq_left (Nat.le_of_lt hqp)];exact this)
 have same:∀t,(∀j p',j≠x.i→ops[j]? =some p'→p'.dst=some t→cm pl.an x.i j=true∨cm pl.an j x.i=true)→(lu ops (valOf tr) s.ts (pl.order.take p))[t]? =(lu ops (valOf tr) s.ts d)[t]? :=by
  intro t ht
  refine qv s.ts (fun j j' a b=>rB r.nO a b) (fun j hj=>?_)
  by_cases Q1:j=x.i
  · subst Q1;exact ⟨fun h=>absurd h h2,fun h=>absurd h hd⟩
  · obtain ⟨p',UL,Q2⟩:∃p',ops[j]? =some p'∧p'.dst=some t:=by
     unfold eu at hj
     cases Q3:ops[j]? with
     | none=>rw[Q3] at hj;simp at hj
     | some p'=>rw[Q3] at hj;exact ⟨p',rfl,by simpa using hj⟩
    rcases ht j p' Q1 UL Q2 with h | h
    · exact ⟨fun _=>mQ j h,fun _=>h3 j h⟩
    · exact ⟨fun hm=>absurd (hpc j hm _ h) h2,fun hm=>absurd (AF j hm _ h) hd⟩
 rw[Ka]
 refine ⟨fun y hy=>?_,?_⟩
 · cases y with
   | tmp t=>
     have ht:t∈tmpsOf o:=by
      unfold tmpsOf;rw[List.mem_filterMap];exact ⟨.tmp t,by simpa using hy,rfl⟩
     simp only[cx]
     rw[sN (same t (fun j p' cH UL Q2=>(r.nO.slot x.i j o p' t (Ne.symm cH) ho UL Q2).2 ht))]
   | const c=>rfl
   | global g=>rfl
   | func f=>rfl
 · unfold bE
   cases hg:o.guard with
   | none=>rfl
   | some gw=>
     obtain ⟨g,want⟩:=gw
     simp only
     cases hdg:(ops[g]?).bind (·.dst) with
     | none=>rfl
     | some t=>
       simp only
       have Sy:=r.nO.guard x.i o g want ho hg
       rw[same t (fun j p' cH UL Q2=>by
        have:j=g:=rB r.nO (x:=t) (by unfold eu;rw[UL];simpa using Q2) hdg
        subst this;exact .inl Sy)]
end
end Go.Ab
end
section
namespace Go.Ab
variable {E:Env}
section
variable {call:aB} {ops:Array Oper} {pl:iT} {s s':St} {tr:List Step} {hs st:List ag}
theorem y_ {l:List Oper} {i:Nat}:i∈jB E l↔∃o,l[i]? =some o∧dv E o.op=true:=by
 unfold jB
 simp only[List.mem_map,List.mem_filter,Prod.exists]
 constructor
 · rintro ⟨o,j,⟨h1,h2⟩,rfl⟩
   exact ⟨o,by rw[List.mk_mem_zipIdx_iff_getElem?] at h1;exact h1,h2⟩
 · rintro ⟨o,h1,h2⟩
   exact ⟨o,i,⟨by rw[List.mk_mem_zipIdx_iff_getElem?];exact h1,h2⟩,rfl⟩
theorem vp.OL (Zx:vp E ops pl) {i:Nat} {o:Oper} (ho:ops[i]? =some o):i∈pl.aW↔dv E o.op=true:=by
 rw[Zx.aW,y_]
 constructor
 · rintro ⟨o',h1,h2⟩
   have:ops.toList[i]? =some o:=by simpa using ho
   rw[this] at h1;simp at h1;subst h1;exact h2
 · intro h;exact ⟨o,by simpa using ho,h⟩
theorem Inv.vr {φ₀ φ:Ph} {w₀ w:World} {qX:List Deferred} {d:List Nat} {listed:Array Bool} {K:Nat} {a:Act} (r:AE E call ops pl s s' tr hs st) (inv:Inv E ops pl s tr hs st φ₀ w₀ qX d listed K φ a w)
 {x:Step} (hx:pl.aW[x.k]? =some x.i) (hd:x.i ∉ d) (mQ:∀j,cm pl.an x.i j=true→j∈d):x.k=K:=by
 have h1:¬x.k<K:=fun h=>hd ((inv.aW x.k x.i hx).2 h)
 rcases Nat.lt_or_ge K x.k with h | h
 · exfalso
   obtain ⟨q,hq⟩:∃q,x.k=q+1:=⟨x.k - 1,by omega⟩
   have iv:q<pl.aW.length:=by have:=(List.getElem?_eq_some_iff.1 hx).1;omega
   have Ym:pl.aW[q]? =some pl.aW[q]:=by simp [iv]
   have:=r.nO.chain q _ x.i Ym (by rw[←hq];exact hx)
   have:=(inv.aW q _ Ym).1 (mQ _ this)
   omega
 · omega
theorem Inv.Kb {φ₀ φ:Ph} {w₀ w:World} {qX:List Deferred} {d:List Nat} {listed:Array Bool} {K:Nat} {a:Act} (inv:Inv E ops pl s tr hs st φ₀ w₀ qX d listed K φ a w)
 {i:Nat} (hd:i ∉ d) (mQ:∀j,cm pl.an i j=true→j∈d):Aa pl.aW pl.an i≤K∧K≤gV pl.aW pl.an i:=by
 refine ⟨filter_le (fun q e hq he=>(inv.aW q e hq).1 (mQ e he)),?_⟩
 rcases Nat.lt_or_ge (gV pl.aW pl.an i) K with h | h
 · exfalso
   have iv:gV pl.aW pl.an i<pl.aW.length:=by have:=inv.Zw;omega
   have hq:pl.aW[gV pl.aW pl.an i]? =some pl.aW[gV pl.aW pl.an i]:=by simp [iv]
   have h1:=rA (P:=fun e=> !cm pl.an e i) hq
   simp only[Bool.not_eq_false'] at h1
   exact hd (inv.closed _ ((inv.aW _ _ hq).2 h) i h1)
 · exact h
theorem Iq (ops:Array Oper) (val:Nat→AV) (ts:List AV) (d:List Nat) (i:Nat):lu ops val ts (d++[i])=cA (lu ops val ts d) (eu ops i) (val i):=by
 simp [lu]
theorem Inv.snoc {φ₀ φ φ':Ph} {w₀ w w':World} {qX:List Deferred} {d:List Nat} {listed:Array Bool} {K K':Nat} {a:Act} (r:AE E call ops pl s s' tr hs st) (inv:Inv E ops pl s tr hs st φ₀ w₀ qX d listed K φ a w)
 {p:Nat} {x:Step} {o:Oper} (hp:tr[p]? =some x) (ho:ops[x.i]? =some o) (hd:x.i ∉ d) (mQ:∀j,cm pl.an x.i j=true→j∈d) (hle:φ.le φ') {v':Value} (hv:VR φ' x.v v')
 (hK:(dv E o.op=false∧K'=K)∨(dv E o.op=true∧x.k=K∧pl.aW[x.k]? =some x.i∧K'=K+1))
 (iV:∃hK,hs[K']? =some hK∧OK E φ' hK w'∧Fr φ₀ s.h w₀ φ' hK w')
 (Vz:∀y∈tr,∀n obj,y.kind= .nZ n obj→y.i ∉ d→y.i≠x.i→y.k≤K'→φ' n=none∧s.h.nx≤n∧∀hK,hs[K']? =some hK→n<hK.nx):
 Inv E ops pl s tr hs st φ₀ w₀ qX (d++[x.i]) (listed.setIfInBounds x.i true) K' φ' (a.put o.dst v') w':=by
 have lr:(tr.map (·.i)).Nodup:=by rw[r.trace.is];exact r.nodup
 have iv:x.i<ops.size:=(Array.getElem?_eq_some_iff.1 ho).1
 refine ⟨?_,fun i hi=>?_,fun i hi=>?_,fun i hi j hj=>?_,fun q e hq=>?_,?_,?_,by rw[put_defers];exact inv.ds,iV,fun y hy n obj sK Zy Zz=>?_⟩
 · rw[List.nodup_append];exact ⟨inv.nd,by simp,fun a ha b hb=>by simp at hb;subst hb;exact fun e=>hd (e▸ha)⟩
 · simp at hi;rcases hi with h | rfl
   · exact inv.lt i h
   · exact iv
 · have h1:=inv.listed i hi
   by_cases e:x.i=i
   · subst e
     have yf:x.i<listed.size:=(Array.getElem?_eq_some_iff.1 h1).1
     rw[Array.getElem?_setIfInBounds];simp [yf]
   · rw[Array.getElem?_setIfInBounds_ne e,h1]
     simp [show i≠x.i from fun h=>e h.symm]
 · simp at hi;rcases hi with h | rfl
   · exact List.mem_append_left _ (inv.closed i h j hj)
   · exact List.mem_append_left _ (mQ j hj)
 · rcases hK with ⟨he,rfl⟩ | ⟨he,AB,Yn,rfl⟩
   · have cH:e≠x.i:=fun h=>by
      subst h
      have:=(r.nO.OL ho).1 (List.mem_of_getElem? hq)
      rw[he] at this;simp at this
     simp [cH,inv.aW q e hq]
   · have hqe:e=x.i↔q=K:=by
      constructor
      · intro h;subst h
        have:=(List.getElem?_inj (List.getElem?_eq_some_iff.1 hq).1 r.nO.nd).1 (hq.trans Yn.symm)
        omega
      · intro h;subst h;rw[←AB,Yn] at hq;simpa using hq.symm
     simp only[List.mem_append,List.mem_singleton,inv.aW q e hq,hqe]
     omega
 · rcases hK with ⟨he,rfl⟩ | ⟨he,AB,Yn,rfl⟩
   · exact inv.Zw
   · have:=(List.getElem?_eq_some_iff.1 Yn).1;omega
 · rw[Iq,Cu lr hp]
   have:eu ops x.i=o.dst:=by simp [eu,ho]
   rw[this]
   exact J6 (inv.ts.mono hle) o.dst hv
 · simp only[List.mem_append,List.mem_singleton,not_or] at Zy
   exact Vz y hy n obj sK Zy.1 Zy.2 Zz
theorem Ir (hE:hS E) {call:aB} (bS:eR E call) {ts:List AV} {h h':ag} {rc:RC} {o:Oper} {v:AV} (od:bX E call ts h rc o= .val v h') {i:Nat} {rest:List Nat} (ho:ops[i]? =some o)
 {φ:Ph} {a:Act} {w:World} {b:Frame} {k:List Item} {K:Bool→List Frame} (Ka:LR φ ts a.tmps.toList) (ok:OK E φ h w) (dV:jF φ b K rc) (hw:Region.wanted o (yielded ops a.tmps)=true):
 ∃φ' w' v',VR φ' v v'∧OK E φ' h' w'∧Fr φ h w φ' h' w'∧Steps E.P (lone (b.atR a (.inRegion ops (i::rest)::k)) (cur K rc) w) (lone (b.atR (a.put o.dst v') (.inRegion ops rest::k)) (cur K rc) w'):=by
 have sJ:=qt hE bS (rc:=rc) (o:=o) Ka ok
 have lr:rc.ko=false∨∀c,o.op≠ .defer c:=by
  by_cases hd:∃c,o.op= .defer c
  · obtain ⟨c,hd⟩:=hd
    unfold bX at od
    simp only[hd] at od
    split at od<;>simp at od
  · exact .inr (fun c e=>hd ⟨c,e⟩)
 have ie:=mO dV lr a.eval
 rw[od] at sJ
 cases sJ with
 | val v h' φ' w' v' hv nC fr run=>exact ⟨φ',w',v',hv,nC,fr,.one (jm ie ho hw run)⟩
 | skip h' φ' w' nC fr run=>exact ⟨φ',w',undef,.undef φ',nC,fr,.one (Co ie ho hw run)⟩
 | enter v h' F args all hr hf hl run=>
   obtain ⟨n,start,hp,eZ⟩:=hr φ w all ok hf hl
   obtain ⟨φ',w',v',hv,nC,fr,fS⟩:=eZ (b.atR a (.inRegion ops (i::rest)::k)) (cur K rc)
   rw[py ho] at fS
   exact ⟨φ',w',v',hv,nC,fr,.head (go_enter ie ho hw hp (run n start hp)) fS⟩
 | J9 cH yh run=>
   have Ad:∀fr:Frame,fr.kind=b.kind→tryRecover fr (cur K rc)=none:=by
    cases Av:rc with
    | no=>rw[Av] at dV;exact dV.2
    | fH v=>exact absurd Av (cH v)
    | done=>rw[Av] at dV;exact dV.2
    | B6 l=>rw[Av] at yh;simp [RC.ko] at yh
   exact ⟨φ,w,.nilIface,.nilIface,ok,Fr.refl _ _ _,.one (p6 (dV.plain yh) ie ho hw run (Ad _ rfl))⟩
theorem Inv.GZ (hE:hS E) {za:aB} (bS:eR E za) {φ₀ φ:Ph} {w₀ w:World} {qX:List Deferred} {d:List Nat} {listed:Array Bool} {K:Nat} {a:Act} (r:AE E call ops pl s s' tr hs st) (inv:Inv E ops pl s tr hs st φ₀ w₀ qX d listed K φ a w)
 {b:Frame} {k:List Item} {Ks:Bool→List Frame} (dV:jF φ₀ b Ks s.rc) {i:Nat} (hi:i<ops.size) (hd:i ∉ d) (mQ:∀j,cm pl.an i j=true→j∈d)
 (zb:∀(x:Step) (o:Oper) (hk h':ag),x∈tr→x.i=i→ops[x.i]? =some o→hs[x.k]? =some hk→x.kind= .pS h'→bX E za x.ts hk s.rc o= .val x.v h') (rest:List Nat):
 ∃K' φ' a' w',Inv E ops pl s tr hs st φ₀ w₀ qX (d++[i]) (listed.setIfInBounds i true) K' φ' a' w'∧
  Steps E.P (lone (b.atR a (.inRegion ops (i::rest)::k)) (cur Ks s.rc) w) (lone (b.atR a' (.inRegion ops rest::k)) (cur Ks s.rc) w'):=by
 obtain ⟨p,x,hp,rfl⟩:=r.all hi
 have Sr:x∈tr:=List.mem_of_getElem? hp
 obtain ⟨h1,h2,h3,hk,o,ho,od,Q4⟩:=r.at hp
 obtain ⟨_,_,o',Yk,sk1,Cv,tU,Vy,eZ⟩:=r.trace.step p x hp
 rw[ho] at Cv;simp at Cv;subst Cv
 rw[←hk] at tU Vy eZ
 obtain ⟨ZA,Kc⟩:=agree r hp ho hd inv.closed mQ
 obtain ⟨hK,Q5,ok,fr⟩:=inv.ok
 have N8:Region.wanted o (yielded ops a.tmps)=bE ops x.ts o:=by rw[qq inv.ts o,Kc]
 have OM:y9 E (lu ops (valOf tr) s.ts d) x.ts o.op:=fun y hy=>(ZA y hy).symm
 have same:∀y∈tr,∀n obj,y.kind= .nZ n obj→y.i ∉ d→y.i≠x.i→y.k≤K→φ n=none∧s.h.nx≤n∧∀hK,hs[K]? =some hK→n<hK.nx:=
  fun y hy n obj a1 a2 _ a3=>inv.fH y hy n obj a1 a2 a3
 have wrote:∀(φ':Ph) (h':ag) (w':World),x.k=K→st[K+1]? =some h'→OK E φ' h' w'→Fr φ hK w φ' h' w'→
  ∃G5,hs[K+1]? =some G5∧OK E φ' G5 w'∧Fr φ₀ s.h w₀ φ' G5 w'∧
  ∀y∈tr,∀n obj,y.kind= .nZ n obj→y.i ∉ d→y.i≠x.i→y.k≤K+1→φ' n=none∧s.h.nx≤n∧∀hK,hs[K+1]? =some hK→n<hK.nx:=by
  intro φ' h' w' AB SA nC EL
  have iv:K+1<hs.length:=by rw[←r.trace.Sz];exact (List.getElem?_eq_some_iff.1 SA).1
  have ZB:hs[K+1]? =some hs[K+1]:=by simp [iv]
  have g:=r.trace.grown (K+1) h' _ SA ZB
  obtain ⟨vt,SB⟩:=nC.grown g
  have N9:=(fr.trans EL).trans SB
  refine ⟨_,ZB,vt,N9,fun y hy n obj a1 a2 a3 a4=>?_⟩
  have UD:∀G5,hs[K+1]? =some G5→G5=hs[K+1]:=fun G5 e=>by rw[ZB] at e;simpa using e.symm
  rcases Nat.lt_or_ge K y.k with h | h
  ·
   have Zz:y.k=K+1:=by omega
   obtain ⟨q,hq⟩:=List.getElem?_of_mem hy
   obtain ⟨_,_,_,ZC,oy,hoy,_,_⟩:=r.at hq
   obtain ⟨_,_,oy',ZD,ZE,ZF,yw,yx,Fs⟩:=r.trace.step q y hq
   rw[←ZC,Zz] at yw yx
   rw[SA] at yx;simp at yx;subst yx
   unfold ry at Fs
   rw[a1] at Fs
   obtain ⟨_,_,_,Yj,VA⟩:=Fs
   refine ⟨?_,?_,fun G5 e=>?_⟩
   · cases hφ:φ' n with
     | none=>rfl
     | some l=>have:=nC.sE n l hφ;omega
   · have:=(fr.trans EL).nx;omega
   · rw[e] at yw;simp at yw;subst yw;exact VA
  · obtain ⟨b1,b2,b3⟩:=inv.fH y hy n obj a1 a2 h
    have hn:=b3 hK Q5
    refine ⟨by rw[EL.old n hn];exact b1,b2,fun G5 e=>?_⟩
    have:=EL.nx;have:=g.nx
    rw[UD _ e];omega
 have still:dv E o.op=false→f_ E ops x hK=true:=fun he=>by
  obtain ⟨w1,w2⟩:=inv.Kb hd mQ
  exact r.still x Sr K hK (by rw[←Q4 he];exact w1) w2 Q5
 have UK:ops.getD x.i default=o:=by simp [Array.getD_eq_getD_getElem?,ho]
 have skip:bE ops x.ts o=false→step E.P (lone (b.atR a (.inRegion ops (x.i::rest)::k)) (cur Ks s.rc) w)= .next (lone (b.atR (a.put o.dst undef) (.inRegion ops rest::k)) (cur Ks s.rc) w):=fun hw=>by
  have:=stepR_op_skip (P:=E.P) (b:=b) (a:=a) (k:=k) (cs:=cur Ks s.rc) (w:=w) (ops:=ops) (i:=x.i) (rest:=rest) (by rw[ho];simp;rw[N8];exact hw)
  rw[this,ho];rfl
 unfold ry at eZ
 split at eZ
 ·
  obtain ⟨hw,hv,hn⟩:=eZ
  have UM:VR φ x.v undef:=by rw[hv];exact .undef φ
  by_cases he:dv E o.op=true
  · have AB:=inv.vr r (od he) hd mQ
    have lx:=hn he
    rw[AB] at lx tU
    rw[Q5] at tU;simp at tU;subst tU
    obtain ⟨G5,q1,q2,q3,q4⟩:=wrote φ hK w AB lx ok (Fr.refl _ _ _)
    exact ⟨K+1,φ,_,w,inv.snoc r hp ho hd mQ (Ph.le_refl φ) UM (.inr ⟨he,AB,od he,rfl⟩) ⟨G5,q1,q2,q3⟩ q4,.one (skip hw)⟩
  · have EK:dv E o.op=false:=by simpa using he
    exact ⟨K,φ,_,w,inv.snoc r hp ho hd mQ (Ph.le_refl φ) UM (.inl ⟨EK,rfl⟩) inv.ok same,.one (skip hw)⟩
 ·
  obtain ⟨he,hw,Yo⟩:=eZ
  rw[←Cr OM] at Yo
  have lr:∀c,o.op≠ .defer c:=fun c e=>by rw[e] at Yo;simp [aG] at Yo
  obtain ⟨v',hv,hr⟩:=tO hE.ext ok.gl inv.ts Yo
  exact ⟨K,φ,_,w,inv.snoc r hp ho hd mQ (Ph.le_refl φ) hv (.inl ⟨he,rfl⟩) inv.ok same,.one (jm (mO dV (.inr lr) _) ho (N8.trans hw) (hr w))⟩
 ·
  rename_i rz
  obtain ⟨he,hw⟩:=eZ
  have mM:=still he
  unfold f_ at mM
  rw[rz] at mM
  simp only[UK] at mM
  cases UN:cB E x.ts hK o.op with
  | none=>rw[UN] at mM;simp at mM
  | some v1=>
    rw[UN] at mM
    have Ou:=AV.ru _ _ _ mM
    subst Ou
    rw[←Cs OM] at UN
    have lr:∀c,o.op≠ .defer c:=fun c e=>by rw[e] at UN;simp [cB] at UN
    obtain ⟨v',hv,hr⟩:=tS ok.gl ok inv.ts UN
    exact ⟨K,φ,_,w,inv.snoc r hp ho hd mQ (Ph.le_refl φ) hv (.inl ⟨he,rfl⟩) inv.ok same,.one (jm (mO dV (.inr lr) _) ho (N8.trans hw) (hr w rfl))⟩
 ·
  rename_i n obj rz
  obtain ⟨he,hw,⟨mk,Yp,hxv⟩,_,_⟩:=eZ
  have mM:=still he
  unfold f_ at mM
  rw[rz] at mM
  simp only at mM
  cases VB:hK.get n with
  | none=>rw[VB] at mM;simp at mM
  | some o1=>
    rw[VB] at mM
    have ho1:=aw.ru mM
    subst ho1
    obtain ⟨w1,_⟩:=inv.Kb hd mQ
    obtain ⟨Ad,ZG,ZH⟩:=inv.fH x Sr n o1 rz hd (by rw[←Q4 he];exact w1)
    rw[←Aw OM] at Yp
    have lr:∀c,o.op≠ .defer c:=fun c e=>by rw[e] at Yp;simp [cq] at Yp
    obtain ⟨O,mk',Cq,hr⟩:=rk ok.gl inv.ts Yp
    have hle:φ.le (φ.add n ⟨w.heap.size,0,0⟩):=fun j m hm=>by
     unfold Ph.add;split
     · rename_i e;subst e;rw[Ad] at hm;simp at hm
     · exact hm
    obtain ⟨vt,_⟩:=ok.place VB Ad (ZH hK Q5) (Cq.obj _ w.heap.size hle)
    have hv:=Cq.val (φ.add n ⟨w.heap.size,0,0⟩) n w.heap.size hle (by simp [Ph.add])
    rw[←hxv] at hv
    refine ⟨K,_,_,_,inv.snoc r hp ho hd mQ hle hv (.inl ⟨he,rfl⟩) ⟨hK,Q5,vt,fr.place ZG Ad O⟩ (fun y hy m q a1 a2 a3 a4=>?_),.one (jm (mO dV (.inr lr) _) ho (N8.trans hw) (hr w))⟩
    obtain ⟨b1,b2,b3⟩:=inv.fH y hy m q a1 a2 a4
    refine ⟨?_,b2,b3⟩
    have cH:m≠n:=fun e=>by subst e;exact a3 (r.ids y x hy Sr m q o1 a1 rz)
    simp [Ph.add,cH,b1]
 ·
  rename_i h' rz
  obtain ⟨he,hw,_,lx⟩:=eZ
  have Ke:=zb x o _ h' Sr rfl ho tU rz
  have AB:=inv.vr r (od he) hd mQ
  rw[AB] at lx tU
  rw[Q5] at tU;simp at tU;subst tU
  rw[←vn OM] at Ke
  obtain ⟨φ',w',v',hv,nC,EL,fS⟩:=Ir hE bS Ke ho (rest:=rest) (k:=k) inv.ts ok (dV.mono fr.ext) (N8.trans hw)
  obtain ⟨G5,q1,q2,q3,q4⟩:=wrote φ' h' w' AB lx nC EL
  exact ⟨K+1,φ',_,w',inv.snoc r hp ho hd mQ EL.ext hv (.inr ⟨he,AB,od he,rfl⟩) ⟨G5,q1,q2,q3⟩ q4,fS⟩
end
end Go.Ab
end
section
namespace Go.Ab
variable {E:Env}
section
variable {call:aB} {ops:Array Oper} {pl:iT} {s s':St} {tr:List Step} {hs st:List ag}
structure AG (E:Env) (φ₀:Ph) (h₀:ag) (w₀:World) (qX:List Deferred) (b:Frame) (k:List Item) (cs:List Frame) (s':St) (m:Machine):Prop where
 is:∃φ' a' w',LR φ' s'.ts a'.tmps.toList∧a'.defers=qX∧OK E φ' s'.h w'∧Fr φ₀ h₀ w₀ φ' s'.h w'∧Steps E.P m (lone (b.atR a' k) cs w')
theorem Cw (r:AE E call ops pl s s' tr hs st) {φ₀ φ:Ph} {w₀ w:World} {qX:List Deferred} {d:List Nat} {listed:Array Bool} {K:Nat} {a:Act} (inv:Inv E ops pl s tr hs st φ₀ w₀ qX d listed K φ a w)
 (Cx:∀i,i<ops.size→i∈d) (b:Frame) (k:List Item) (cs:List Frame):AG E φ₀ s.h w₀ qX b k cs s' (lone (b.atR a (.inRegion ops []::k)) cs w):=by
 have lr:(tr.map (·.i)).Nodup:=by rw[r.trace.is];exact r.nodup
 obtain ⟨f1,f2,f3⟩:=fi r.nO.order
 have hK:K=pl.aW.length:=by
  have:=inv.Zw
  rcases Nat.lt_or_ge K pl.aW.length with h | h
  · exfalso
    have hq:pl.aW[K]? =some pl.aW[K]:=by simp [h]
    have hm:pl.aW[K]∈pl.aW:=List.getElem_mem h
    generalize hx:pl.aW[K]=ee at hm hq
    rw[r.nO.aW,y_] at hm
    obtain ⟨o,ho,_⟩:=hm
    have iv:ee<ops.size:=by have:=(List.getElem?_eq_some_iff.1 ho).1;simpa using this
    have:=(inv.aW K _ hq).1 (Cx _ iv)
    omega
  · omega
 obtain ⟨G5,q1,q2,q3⟩:=inv.ok
 have Cy:=r.trace.last
 have ZI:fX E ops pl.order=K:=by omega
 rw[ZI,q1] at Cy
 simp at Cy;subst Cy
 have Ka:s'.ts=lu ops (valOf tr) s.ts d:=by
  rw[r.trace.ts]
  have h1:=AD ops lr s.ts tr.length
  rw[List.take_length,r.trace.is,List.take_of_length_le (by rw[←r.trace.is];simp)] at h1
  rw[h1]
  refine List.ext_getElem? (fun x=>?_)
  refine qv s.ts (fun j j' e e'=>rB r.nO e e') (fun j hj=>?_)
  have GY:j<ops.size:=by
   unfold eu at hj
   cases ho:ops[j]? with
   | none=>rw[ho] at hj;simp at hj
   | some o=>exact (Array.getElem?_eq_some_iff.1 ho).1
  exact ⟨fun _=>Cx j GY,fun _=>(f2 j GY).resolve_left (by simp)⟩
 exact ⟨φ,a,w,by rw[Ka];exact inv.ts,inv.ds,q2,q3,.one stepR_region_end⟩
theorem vu {φ₀ φ:Ph} {w₀ w:World} {qX:List Deferred} {d:List Nat} {listed:Array Bool} {K:Nat} {a:Act} (r:AE E call ops pl s s' tr hs st) (inv:Inv E ops pl s tr hs st φ₀ w₀ qX d listed K φ a w)
 {i:Nat} (h:i∈Region.ready .any ops listed):i<ops.size∧i ∉ d∧∀j,cm pl.an i j=true→j∈d:=by
 obtain ⟨h1,o,ho,h2⟩:=mem_ready.1 h
 have hi:i<ops.size:=(Array.getElem?_eq_some_iff.1 ho).1
 have hl:=inv.listed i hi
 refine ⟨hi,fun hd=>?_,fun j hj=>?_⟩
 · simp [hl,hd,Array.getD_eq_getD_getElem?] at h1
 · obtain ⟨e,he,ZJ⟩:=r.nO.closed i o j ho hj
   have hed:e∈d:=by
    unfold h_ at he
    simp only[List.mem_map,List.mem_filter] at he
    obtain ⟨ed,⟨hm,hb⟩,rfl⟩:=he
    have h3:=h2 ed (by simpa using hm) hb
    have ZK:ed.on<ops.size:=by
     have:=(r.nO.direct i o ed.on ho (by unfold h_;simp only[List.mem_map,List.mem_filter];exact ⟨ed,⟨hm,hb⟩,rfl⟩)).1
     omega
    simpa [inv.listed _ ZK,Array.getD_eq_getD_getElem?] using h3
   rcases ZJ with rfl | ZJ
   · exact hed
   · exact inv.closed e hed j ZJ
theorem sO {φ₀ φ:Ph} {w₀ w:World} {qX:List Deferred} {d:List Nat} {listed:Array Bool} {K:Nat} {a:Act} (r:AE E call ops pl s s' tr hs st) (inv:Inv E ops pl s tr hs st φ₀ w₀ qX d listed K φ a w)
 (h:Region.ready .any ops listed=[]):∀(n i:Nat),i<n→i<ops.size→i∈d
 | 0,i,hn,_=>by omega
 | n+1,i,hn,hi=>by
   have ih:=sO r inv h n
   by_cases hd:i∈d
   · exact hd
   · exfalso
     have ho:ops[i]? =some ops[i]:=by simp [hi]
     have:i∈Region.ready .any ops listed:=by
      refine mem_ready.2 ⟨by simp [inv.listed i hi,hd,Array.getD_eq_getD_getElem?],ops[i],ho,fun e he hb=>?_⟩
      have hm:e.on∈h_ ops[i]:=by
       unfold h_;simp only[List.mem_map,List.mem_filter];exact ⟨e,⟨by simpa using he,hb⟩,rfl⟩
      have iv:=(r.nO.direct i _ e.on ho hm).1
      have:=ih e.on (by omega) (by omega)
      simp [inv.listed e.on (by omega),this,Array.getD_eq_getD_getElem?]
     rw[h] at this;simp at this
theorem AE.real (r:AE E call ops pl s s' tr hs st) (x:Step) (o:Oper) (hk h':ag) (hx:x∈tr) (ho:ops[x.i]? =some o) (hh:hs[x.k]? =some hk) (sK:x.kind= .pS h'):bX E call x.ts hk s.rc o= .val x.v h':=by
 obtain ⟨p,hp⟩:=List.getElem?_of_mem hx
 obtain ⟨_,_,_,VC,_⟩:=r.at hp
 obtain ⟨_,_,o',Yk,sk1,Cv,tU,Vy,eZ⟩:=r.trace.step p x hp
 rw[ho] at Cv;simp at Cv;subst Cv
 rw[←VC,hh] at tU;simp at tU;subst tU
 unfold ry at eZ;rw[sK] at eZ;exact eZ.2.2.1
theorem Cz (hE:hS E) (bS:eR E call) (r:AE E call ops pl s s' tr hs st) {φ₀:Ph} {w₀:World} {qX:List Deferred} {b:Frame} {k:List Item} {Ks:Bool→List Frame} (dV:jF φ₀ b Ks s.rc):
 ∀(fuel t:Nat) {φ:Ph} {w:World} {d:List Nat} {listed:Array Bool} {K:Nat} {a:Act} (_:Inv E ops pl s tr hs st φ₀ w₀ qX d listed K φ a w) (_:ops.size≤d.length+fuel),
  AG E φ₀ s.h w₀ qX b k (cur Ks s.rc) s' (lone (b.atR a (.inRegion ops (Region.linearise.go .any ops fuel t listed [])::k)) (cur Ks s.rc) w)
 | 0,t,φ,w,d,listed,K,a,inv,hf=>by
   simp only[Region.linearise.go,List.reverse_nil]
   refine Cw r inv (fun i hi=>?_) b k _
   by_cases hd:i∈d
   · exact hd
   · have:=vo ops.size (i::d) (List.nodup_cons.2 ⟨hd,inv.nd⟩) (fun x hx=>by
      simp at hx;rcases hx with rfl | hx
      · exact hi
      · exact inv.lt x hx)
     simp at this;omega
 | fuel+1,t,φ,w,d,listed,K,a,inv,hf=>by
   simp only[Region.linearise.go]
   change AG E φ₀ s.h w₀ qX b k (cur Ks s.rc) s' (lone (b.atR a (.inRegion ops (match (Region.ready .any ops listed)[t%(Region.ready .any ops listed).length]? with
    | some i=>Region.linearise.go .any ops fuel (t/(Region.ready .any ops listed).length) (listed.setIfInBounds i true) [i]
    | none=> [].reverse)::k)) (cur Ks s.rc) w)
   cases hi:(Region.ready .any ops listed)[t%(Region.ready .any ops listed).length]? with
   | none=>
     have Ak:Region.ready .any ops listed=[]:=by
      cases hr:Region.ready .any ops listed with
      | nil=>rfl
      | cons x xs=>
        rw[hr] at hi
        have iv:t%(x::xs).length<(x::xs).length:=Nat.mod_lt _ (by simp)
        simp at hi
        simp at iv
        omega
     exact Cw r inv (fun i hi=>sO r inv Ak _ i (Nat.lt_succ_self i) hi) b k _
   | some i=>
     simp only[]
     rw[linearise_go_acc,List.reverse_singleton,List.singleton_append]
     obtain ⟨h1,h2,h3⟩:=vu r inv (List.mem_of_getElem? hi)
     obtain ⟨K',φ',a',w',SC,eZ⟩:=inv.GZ hE bS r dV (b:=b) (k:=k) h1 h2 h3 (fun x o hk h' hx _=>r.real x o hk h' hx) (Region.linearise.go .any ops fuel (t/(Region.ready .any ops listed).length) (listed.setIfInBounds i true) [])
     obtain ⟨φ2,a2,w2,x1,x2,x3,x4,x5⟩:=(Cz hE bS r dV fuel (t/(Region.ready .any ops listed).length) SC (by simp;omega)).is
     exact ⟨φ2,a2,w2,x1,x2,x3,x4,Steps.trans eZ x5⟩
structure AH (E:Env) (φ₀:Ph) (h₀:ag) (w₀:World) (qX:List Deferred) (b:Frame) (cs:List Frame) (v:AV) (s':St) (m:Machine):Prop where
 is:∃φ' a' w' v' todo,VR φ' v v'∧LR φ' s'.ts a'.tmps.toList∧a'.defers=qX∧OK E φ' s'.h w'∧Fr φ₀ h₀ w₀ φ' s'.h w'∧Steps E.P m (lone {b.atR a' todo with mode:= .panicking [{v:=v',recovered:=false}]} cs w')
theorem Is (hE:hS E) {call:aB} (bS:eR E call) {ts:List AV} {h h':ag} {rc:RC} {o:Oper} {c:Call} (Yq:o.op= .call c) {v:AV} (od:bX E call ts h rc o= .panic v h') {i:Nat} {rest:List Nat} (ho:ops[i]? =some o)
 {φ:Ph} {a:Act} {w:World} {b:Frame} {k:List Item} {K:Bool→List Frame} (Ka:LR φ ts a.tmps.toList) (ok:OK E φ h w) (dV:jF φ b K rc) (hw:Region.wanted o (yielded ops a.tmps)=true):
 ∃φ' w' v' todo,VR φ' v v'∧OK E φ' h' w'∧Fr φ h w φ' h' w'∧Steps E.P (lone (b.atR a (.inRegion ops (i::rest)::k)) (cur K rc) w) (lone {b.atR a todo with mode:= .panicking [{v:=v',recovered:=false}]} (cur K rc) w'):=by
 have sJ:=qt hE bS (rc:=rc) (o:=o) Ka ok
 have lr:rc.ko=false∨∀c,o.op≠ .defer c:= .inr (fun c e=>by rw[Yq] at e;simp at e)
 have ie:=mO dV lr a.eval
 rw[od] at sJ
 cases sJ with
 | OH v h' F args all hr hf hl run=>
   obtain ⟨n,start,hp,eZ⟩:=hr φ w all ok hf hl
   obtain ⟨φ',w',v',hv,nC,fr,fS⟩:=eZ (b.atR a (.inRegion ops (i::rest)::k)) (cur K rc)
   rw[Frame.raise_atR] at fS
   exact ⟨φ',w',v',.inRegion ops (i::rest)::k,hv,nC,fr,.head (go_enter ie ho hw hp (run n start hp)) fS⟩
 | panic v v' hv run=>exact ⟨φ,w,v',_,hv,ok,Fr.refl _ _ _,.one (J7 ie ho hw run)⟩
theorem zc (hE:hS E) {za:aB} (bS:eR E za) (r:AE E call ops pl s s' tr hs st) {xl:Step} (hxl:xl∈tr) {ol:Oper} (N6:ops[xl.i]? =some ol) {c:Call} (Yq:ol.op= .call c)
 (Cx:∀j,j<ops.size→j≠xl.i→cm pl.an xl.i j=true) (Q6:dv E ol.op=true) (hwl:bE ops xl.ts ol=true) {hk:ag} (tU:hs[xl.k]? =some hk) {v:AV} {h':ag} (Kf:bX E za xl.ts hk s.rc ol= .panic v h')
 (zb:∀(x:Step) (o:Oper) (hk h':ag),x∈tr→x.i≠xl.i→ops[x.i]? =some o→hs[x.k]? =some hk→x.kind= .pS h'→bX E za x.ts hk s.rc o= .val x.v h')
 {s2:St} (h2:s2.h=h') (VD:s2.ts=xl.ts) {φ₀:Ph} {w₀:World} {qX:List Deferred} {b:Frame} {k:List Item} {Ks:Bool→List Frame} (dV:jF φ₀ b Ks s.rc):
 ∀(fuel t:Nat) {φ:Ph} {w:World} {d:List Nat} {listed:Array Bool} {K:Nat} {a:Act} (_:Inv E ops pl s tr hs st φ₀ w₀ qX d listed K φ a w) (_:ops.size≤d.length+fuel) (_:xl.i ∉ d),
  AH E φ₀ s.h w₀ qX b (cur Ks s.rc) v s2 (lone (b.atR a (.inRegion ops (Region.linearise.go .any ops fuel t listed [])::k)) (cur Ks s.rc) w)
 | 0,t,φ,w,d,listed,K,a,inv,hf,lr=>by
   exfalso
   have hi:xl.i<ops.size:=(Array.getElem?_eq_some_iff.1 N6).1
   have:=vo ops.size (xl.i::d) (List.nodup_cons.2 ⟨lr,inv.nd⟩) (fun x hx=>by
    simp at hx;rcases hx with rfl | hx
    · exact hi
    · exact inv.lt x hx)
   simp at this;omega
 | fuel+1,t,φ,w,d,listed,K,a,inv,hf,lr=>by
   have Yf:xl.i<ops.size:=(Array.getElem?_eq_some_iff.1 N6).1
   simp only[Region.linearise.go]
   change AH E φ₀ s.h w₀ qX b (cur Ks s.rc) v s2 (lone (b.atR a (.inRegion ops (match (Region.ready .any ops listed)[t%(Region.ready .any ops listed).length]? with
    | some i=>Region.linearise.go .any ops fuel (t/(Region.ready .any ops listed).length) (listed.setIfInBounds i true) [i]
    | none=> [].reverse)::k)) (cur Ks s.rc) w)
   cases hi:(Region.ready .any ops listed)[t%(Region.ready .any ops listed).length]? with
   | none=>
     have Ak:Region.ready .any ops listed=[]:=by
      cases hr:Region.ready .any ops listed with
      | nil=>rfl
      | cons x xs=>
        rw[hr] at hi
        have iv:t%(x::xs).length<(x::xs).length:=Nat.mod_lt _ (by simp)
        simp at hi
        simp at iv
        omega
     exact absurd (sO r inv Ak _ xl.i (Nat.lt_succ_self _) Yf) lr
   | some i=>
     simp only[]
     rw[linearise_go_acc,List.reverse_singleton,List.singleton_append]
     obtain ⟨h1,Yr,h3⟩:=vu r inv (List.mem_of_getElem? hi)
     by_cases ZL:i=xl.i
     · subst ZL
       obtain ⟨p,hp⟩:=List.getElem?_of_mem hxl
       obtain ⟨_,q2,q3,_,o',Cv,q4,_⟩:=r.at hp
       rw[N6] at Cv;simp at Cv;subst Cv
       obtain ⟨ZA,Kc⟩:=agree r hp N6 Yr inv.closed h3
       obtain ⟨hK,Q5,ok,fr⟩:=inv.ok
       have AB:=inv.vr r (q4 Q6) Yr h3
       rw[AB,Q5] at tU;simp at tU;subst tU
       rw[vn ZA] at Kf
       have N8:Region.wanted ol (yielded ops a.tmps)=true:=by rw[qq inv.ts ol,Kc];exact hwl
       obtain ⟨φ',w',v',todo,hv,nC,EL,eZ⟩:=Is hE bS Yq Kf N6 (rest:=Region.linearise.go .any ops fuel (t/(Region.ready .any ops listed).length) (listed.setIfInBounds xl.i true) []) (k:=k) inv.ts ok (dV.mono fr.ext) N8
       have ZM:(tr.map (·.i)).Nodup:=by rw[r.trace.is];exact r.nodup
       have Ka:xl.ts=lu ops (valOf tr) s.ts d:=by
        rw[(r.trace.step p xl hp).1,AD ops ZM,r.trace.is]
        refine List.ext_getElem? (fun x=>qv s.ts (fun j j' e e'=>rB r.nO e e') (fun j hj=>?_))
        have GY:j<ops.size:=by
         unfold eu at hj
         cases ho:ops[j]? with
         | none=>rw[ho] at hj;simp at hj
         | some o=>exact (Array.getElem?_eq_some_iff.1 ho).1
        by_cases Q1:j=xl.i
        · subst Q1;exact ⟨fun h=>absurd h q2,fun h=>absurd h Yr⟩
        · exact ⟨fun _=>h3 j (Cx j GY Q1),fun _=>q3 j (Cx j GY Q1)⟩
       exact ⟨φ',a,w',v',todo,hv,by rw[VD,Ka];exact inv.ts.mono EL.ext,inv.ds,by rw[h2];exact nC,by rw[h2];exact fr.trans EL,eZ⟩
     · obtain ⟨K',φ',a',w',SC,eZ⟩:=inv.GZ hE bS r dV (b:=b) (k:=k) h1 Yr h3 (fun x o hk h' hx Ip=>zb x o hk h' hx (by rw[Ip];exact ZL)) (Region.linearise.go .any ops fuel (t/(Region.ready .any ops listed).length) (listed.setIfInBounds i true) [])
       obtain ⟨φ2,a2,w2,v2,td,x0,x1,x2,x3,x4,x5⟩:=(zc hE bS r hxl N6 Yq Cx Q6 hwl tU Kf zb h2 VD dV fuel (t/(Region.ready .any ops listed).length) SC (by simp;omega) (by simp;exact ⟨lr,fun h=>ZL h.symm⟩)).is
       exact ⟨φ2,a2,w2,v2,td,x0,x1,x2,x3,x4,Steps.trans eZ x5⟩
def vv (call:aB):aB:=fun f as_ h=>match call f as_ h with
 | .panic _ h'=> .ret AV.undef h'
 | r=>r
theorem Kg {call:aB} {ts:List AV} {h h':ag} {rc:RC} {o:Oper} {v:AV} (e:bX E call ts h rc o= .val v h'):bX E (vv call) ts h rc o= .val v h':=by
 obtain ⟨dst,op,ty,pos,after,guard⟩:=o
 cases op with
 | call c=>
   obtain ⟨cC,args,aT⟩:=c
   cases cC with
   | builtin b=>cases b<;>exact e
   | value f=>
     simp only[bX] at e ⊢
     split at e
     · split at e
       · exact e
       · split at e
         · rename_i hc
           simp only[vv,hc];exact e
         · simp at e
         · simp at e
     · simp at e
   | invoke x name=>
     simp only[bX] at e ⊢
     split at e
     · split at e
       · split at e
         · rename_i hc
           simp only[vv,hc];exact e
         · simp at e
         · simp at e
       · simp at e
     · simp at e
 | _=>exact e
theorem Kh {call:aB} {ts:List AV} {h h':ag} {rc:RC} {dst:Option Tmp} {c:Call} {ty:TypeId} {pos:String} {after:Array Edge} {guard:Option (Nat×Bool)} {v:AV} (e:bX E call ts h rc ⟨dst,.call c,ty,pos,after,guard⟩= .panic v h'):
 bX E (vv call) ts h rc ⟨dst,.call c,ty,pos,after,guard⟩= .val AV.undef h':=by
 obtain ⟨cC,args,aT⟩:=c
 cases cC with
 | builtin b=>
   cases b<;>simp only[bX] at e<;>(try (simp at e;done))<;>(split at e<;>(try (simp at e;done))<;>(try (split at e<;>simp at e)))
 | value f=>
   simp only[bX] at e ⊢
   split at e
   · split at e
     · split at e<;>simp at e
     · split at e
       · simp at e
       · rename_i hc
         simp at e;obtain ⟨rfl,rfl⟩:=e
         simp only[vv,hc]
       · simp at e
   · simp at e
 | invoke x name=>
   simp only[bX] at e ⊢
   split at e
   · split at e
     · split at e
       · simp at e
       · rename_i hc
         simp at e;obtain ⟨rfl,rfl⟩:=e
         simp only[vv,hc]
       · simp at e
     · simp at e
   · simp at e
theorem ks {α:Type} {f:α→Option Nat}:∀{l:List α} (_:(l.filterMap f).Nodup) {x y:α} {n:Nat} (_:x∈l) (_:y∈l) (_:f x=some n) (_:f y=some n),x=y
 | [],_,x,y,n,hx,_,_,_=>by simp at hx
 | z::l,hn,x,y,n,hx,hy,fx,fy=>by
   cases hz:f z with
   | none=>
     rw[List.filterMap_cons_none hz] at hn
     have Vk:x∈l:=by
      simp at hx;rcases hx with rfl | h
      · rw[hz] at fx;simp at fx
      · exact h
     have J4:y∈l:=by
      simp at hy;rcases hy with rfl | h
      · rw[hz] at fy;simp at fy
      · exact h
     exact ks hn Vk J4 fx fy
   | some m=>
     rw[List.filterMap_cons_some hz,List.nodup_cons] at hn
     simp at hx hy
     rcases hx with rfl | hx<;>rcases hy with rfl | hy
     · rfl
     · exfalso;rw[fx] at hz;simp at hz;subst hz;exact hn.1 (List.mem_filterMap.2 ⟨y,hy,fy⟩)
     · exfalso;rw[fy] at hz;simp at hz;subst hz;exact hn.1 (List.mem_filterMap.2 ⟨x,hx,fx⟩)
     · exact ks hn.2 hx hy fx fy
theorem Ki (Ie:nY E ops=some pl) (hd:bR E call ops pl.order 0 s= .ok tr hs s') (hl:mH E ops pl tr hs=true):∃st,AE E call ops pl s s' tr hs st:=by
 obtain ⟨st,t⟩:=kr hd
 unfold mH at hl
 simp only[Bool.and_eq_true] at hl
 refine ⟨st,Ct Ie,t,fun x hx K hk h1 h2 h3=>?_,fun x y hx hy n o q e1 e2=>?_⟩
 · have h4:=List.all_eq_true.1 (List.all_eq_true.1 hl.2 x hx) hk
   refine h4 ?_
   refine List.mem_of_getElem? (i:=K - x.k) ?_
   rw[List.getElem?_take,if_pos (by omega),List.getElem?_drop,show x.k+(K - x.k)=K by omega,h3]
 · have:=qu hl.1
   have:=ks this hx hy (n:=n) (by simp [e1]) (by simp [e2])
   rw[this]
theorem qw {call zd:aB} (hc:∀{ts:List AV} {h h':ag} {rc:RC} {o:Oper} {v:AV},bX E call ts h rc o= .val v h'→bX E zd ts h rc o= .val v h') {i:Nat} {o:Oper} (ho:ops[i]? =some o) (he:dv E o.op=true):
 ∀(l:List Nat) (k:Nat) (s:St) {tr:List Step} {hs:List ag} {s1:St} {h':ag} (_:bR E call ops l k s= .ok tr hs s1) (_:bE ops s1.ts o=true) (_:bX E zd s1.ts s1.h s1.rc o= .val AV.undef h'),
  bR E zd ops (l++[i]) k s= .ok (tr++[⟨i,k+(hs.length - 1),s1.ts,AV.undef,.pS h'⟩]) (hs++[h']) {s1 with ts:=cA s1.ts o.dst AV.undef,h:=h'}
 | [],k,s,tr,hs,s1,h',hd,hw,hv=>by
   simp [bR] at hd;obtain ⟨rfl,rfl,rfl⟩:=hd
   simp only[List.nil_append,bR,ho,he,if_true,hw,hv]
   simp [gJ.bound,gJ.step]
 | j::l,k,s,tr,hs,s1,h',hd,hw,hv=>by
   rw[List.cons_append]
   simp only[bR] at hd ⊢
   cases Q3:ops[j]? with
   | none=>rw[Q3] at hd;simp at hd
   | some oj=>
   rw[Q3] at hd
   simp only at hd ⊢
   have wr:∀(x:Step) (s0:St),((bR E call ops l (k+1) s0).bound s.h).step x= .ok tr hs s1→((bR E zd ops (l++[i]) (k+1) s0).bound s.h).step x= .ok (tr++[⟨i,k+(hs.length - 1),s1.ts,AV.undef,.pS h'⟩]) (hs++[h']) {s1 with ts:=cA s1.ts o.dst AV.undef,h:=h'}:=by
    intro x s0 hd
    cases hr:bR E call ops l (k+1) s0 with
    | fail why q=>rw[hr] at hd;simp [gJ.bound,gJ.step] at hd
    | ok GX mM s2=>
      rw[hr] at hd;simp [gJ.bound,gJ.step] at hd;obtain ⟨rfl,rfl,rfl⟩:=hd
      rw[qw hc ho he l (k+1) s0 hr hw hv]
      obtain ⟨_,t⟩:=kr hr
      have:1≤mM.length:=by have:=t.len;omega
      simp [gJ.bound,gJ.step];omega
   have pl:∀(x:Step) (s0:St),(bR E call ops l k s0).step x= .ok tr hs s1→(bR E zd ops (l++[i]) k s0).step x= .ok (tr++[⟨i,k+(hs.length - 1),s1.ts,AV.undef,.pS h'⟩]) (hs++[h']) {s1 with ts:=cA s1.ts o.dst AV.undef,h:=h'}:=by
    intro x s0 hd
    cases hr:bR E call ops l k s0 with
    | fail why q=>rw[hr] at hd;simp [gJ.step] at hd
    | ok GX mM s2=>
      rw[hr] at hd;simp [gJ.step] at hd;obtain ⟨rfl,rfl,rfl⟩:=hd
      rw[qw hc ho he l k s0 hr hw hv]
      simp [gJ.step]
   split at hd
   · rename_i SD
     rw[if_pos SD]
     split at hd
     · rename_i uz
       rw[if_pos uz]
       split at hd
       · rename_i Ke
         simp only[hc Ke]
         exact wr _ _ hd
       · simp at hd
       · simp at hd
     · rename_i uz
       rw[if_neg uz]
       exact wr _ _ hd
   · rename_i SD
     rw[if_neg SD]
     split at hd
     · rename_i uz
       rw[if_pos uz]
       split at hd
       · rename_i hp
         try simp only[hp]
         exact pl _ _ hd
       · rename_i hp
         try simp only[hp]
         split at hd
         · rename_i hq
           try simp only[hq]
           exact pl _ _ hd
         · rename_i hq
           try simp only[hq]
           split at hd
           · rename_i hr
             try simp only[hr]
             split at hd
             · rename_i hn
               try simp only[hn]
               exact pl _ _ hd
             · simp at hd
           · simp at hd
     · rename_i uz
       rw[if_neg uz]
       exact pl _ _ hd
theorem sP {call:aB} {i:Nat} {o:Oper} (ho:ops[i]? =some o) (he:dv E o.op=true) {v:AV}:
 ∀(l:List Nat) (k:Nat) (s:St) {tr:List Step} {hs:List ag} {s1:St} {h':ag} (_:bR E call ops l k s= .ok tr hs s1) (_:bE ops s1.ts o=true) (_:bX E call s1.ts s1.h s1.rc o= .panic v h'),
  ∃why q,bR E call ops (l++[i]) k s= .fail why q
 | [],k,s,tr,hs,s1,h',hd,hw,hv=>by
   simp [bR] at hd;obtain ⟨rfl,rfl,rfl⟩:=hd
   simp only[List.nil_append,bR,ho,he,if_true,hw,hv]
   exact ⟨_,_,rfl⟩
 | j::l,k,s,tr,hs,s1,h',hd,hw,hv=>by
   rw[List.cons_append]
   simp only[bR] at hd ⊢
   cases Q3:ops[j]? with
   | none=>rw[Q3] at hd;simp at hd
   | some oj=>
   rw[Q3] at hd
   simp only at hd ⊢
   have wr:∀(x:Step) (s0:St),((bR E call ops l (k+1) s0).bound s.h).step x= .ok tr hs s1→∃why q,((bR E call ops (l++[i]) (k+1) s0).bound s.h).step x= .fail why q:=by
    intro x s0 hd
    cases hr:bR E call ops l (k+1) s0 with
    | fail why q=>rw[hr] at hd;simp [gJ.bound,gJ.step] at hd
    | ok GX mM s2=>
      rw[hr] at hd;simp [gJ.bound,gJ.step] at hd;obtain ⟨rfl,rfl,rfl⟩:=hd
      obtain ⟨why,q,e⟩:=sP ho he l (k+1) s0 hr hw hv
      rw[e];exact ⟨_,_,rfl⟩
   have pl:∀(x:Step) (s0:St),(bR E call ops l k s0).step x= .ok tr hs s1→∃why q,(bR E call ops (l++[i]) k s0).step x= .fail why q:=by
    intro x s0 hd
    cases hr:bR E call ops l k s0 with
    | fail why q=>rw[hr] at hd;simp [gJ.step] at hd
    | ok GX mM s2=>
      rw[hr] at hd;simp [gJ.step] at hd;obtain ⟨rfl,rfl,rfl⟩:=hd
      obtain ⟨why,q,e⟩:=sP ho he l k s0 hr hw hv
      rw[e];exact ⟨_,_,rfl⟩
   split at hd
   · rename_i SD
     rw[if_pos SD]
     split at hd
     · rename_i uz
       rw[if_pos uz]
       split at hd
       · rename_i Ke
         try simp only[Ke]
         exact wr _ _ hd
       · simp at hd
       · simp at hd
     · rename_i uz
       rw[if_neg uz]
       exact wr _ _ hd
   · rename_i SD
     rw[if_neg SD]
     split at hd
     · rename_i uz
       rw[if_pos uz]
       split at hd
       · rename_i hp
         try simp only[hp]
         exact pl _ _ hd
       · rename_i hp
         try simp only[hp]
         split at hd
         · rename_i hq
           try simp only[hq]
           exact pl _ _ hd
         · rename_i hq
           try simp only[hq]
           split at hd
           · rename_i hr
             try simp only[hr]
             split at hd
             · rename_i hn
               try simp only[hn]
               exact pl _ _ hd
             · simp at hd
           · simp at hd
     · rename_i uz
       rw[if_neg uz]
       exact pl _ _ hd
end
theorem vw {call:aB} {ops:Array Oper} {pl:iT} {s s':St} {tr:List Step} {mK st:List ag} (r:AE E call ops pl s s' tr mK st)
 {φ:Ph} {a:Act} {w:World} (Ka:LR φ s.ts a.tmps.toList) (ok:OK E φ s.h w):Inv E ops pl s tr mK st φ w a.defers [] (Array.replicate ops.size false) 0 φ a {w with drawn:=w.drawn+1}:=by
 have CA:OK E φ s.h {w with drawn:=w.drawn+1}:=⟨ok.sE,ok.nx,ok.nK,ok.live,ok.inj⟩
 have UO:Fr φ s.h w φ s.h {w with drawn:=w.drawn+1}:=⟨Ph.le_refl φ,fun _ _=>rfl,Nat.le_refl _,rfl,rfl,rfl,Nat.le_refl _,fun _ _ _=>rfl,fun i o l a b c=> .inr ⟨i,o,l,a,b,c,rfl⟩⟩
 have hlen:0<mK.length:=by have:=r.trace.len;omega
 have h0:mK[0]? =some mK[0]:=by simp [hlen]
 have g:=r.trace.grown 0 s.h _ r.trace.first h0
 obtain ⟨vt,SB⟩:=CA.grown g
 refine ⟨.nil,fun i hi=>by simp at hi,fun i hi=>by simp [hi],fun i hi=>by simp at hi,fun q e hq=>by simp,by omega,by simpa [lu] using Ka,rfl,⟨_,h0,vt,UO.trans SB⟩,fun x hx n obj hk _ VC=>?_⟩
 obtain ⟨q,hq⟩:=List.getElem?_of_mem hx
 obtain ⟨_,_,_,ZC,oy,hoy,_,_⟩:=r.at hq
 obtain ⟨_,_,oy',ZD,ZE,ZF,yw,yx,Fs⟩:=r.trace.step q x hq
 rw[←ZC] at yw yx
 have AB:x.k=0:=by omega
 rw[AB] at yw yx
 rw[r.trace.first] at yx;simp at yx;subst yx
 unfold ry at Fs
 rw[hk] at Fs
 obtain ⟨_,_,_,Yj,VA⟩:=Fs
 refine ⟨?_,Yj,fun hK e=>?_⟩
 · cases hφ:φ n with
   | none=>rfl
   | some l=>have:=ok.sE n l hφ;omega
 · rw[e] at yw;simp at yw;subst yw;exact VA
theorem CB (hE:hS E) (ZN:E.P.follows .mixedOrders=true) {call:aB} (bS:eR E call) {ops:Array Oper} {s s':St} {e:gR} (h:re E call ops s= .ok e s')
 {φ:Ph} {a:Act} {w:World} {b:Frame} {k:List Item} {K:Bool→List Frame} (hs:SR φ s.ts s.ds a) (ok:OK E φ s.h w) (dV:jF φ b K s.rc) (id:Nat):
 s'.rc=s.rc∧s'.ds=s.ds∧((e= .normal∧∃φ' a' w',LR φ' s'.ts a'.tmps.toList∧a'.defers=a.defers∧OK E φ' s'.h w'∧Fr φ s.h w φ' s'.h w'∧
  Steps E.P (lone (b.atR a (.code (.region id ops true)::k)) (cur K s.rc) w) (lone (b.atR a' k) (cur K s.rc) w'))∨
  ∃v,e= .panic v∧AH E φ s.h w a.defers b (cur K s.rc) v s' (lone (b.atR a (.code (.region id ops true)::k)) (cur K s.rc) w)):=by
 have VE:Region.schedule (E.P.follows .mixedOrders) ops (w.tape w.drawn (.order b.fn id))=Region.linearise.go .any ops ops.size (w.tape w.drawn (.order b.fn id)) (Array.replicate ops.size false) []:=by
  rw[ZN];rfl
 unfold re at h
 split at h
 · simp at h
 rename_i pl Ie
 split at h
 · rename_i tr mK s1 hd
   split at h
   · rename_i hl
     simp at h;obtain ⟨rfl,rfl⟩:=h
     obtain ⟨st,r⟩:=Ki Ie hd hl
     refine ⟨r.trace.rc,r.trace.ds,.inl ⟨rfl,?_⟩⟩
     obtain ⟨φ',a',w',x1,x2,x3,x4,x5⟩:=(Cz hE bS r dV (b:=b) (k:=k) ops.size (w.tape w.drawn (.order b.fn id)) (vw r hs.ts ok) (by simp)).is
     refine ⟨φ',a',w',x1,x2,x3,x4,.head stepR_region_draw ?_⟩
     rw[VE]
     exact x5
   · simp at h
 · split at h
   · rename_i v s2 hp
     simp at h;obtain ⟨rfl,rfl⟩:=h
     unfold uV at hp
     split at hp
     · simp at hp
     rename_i i front ON
     split at hp
     · rename_i tr mK s1 dst c ty pos after guard hd ho
       split at hp
       · rename_i Ao
         split at hp
         · rename_i v1 h1 Ke
           split at hp
           · rename_i hl
             simp at hp;obtain ⟨rfl,rfl⟩:=hp
             simp only[Bool.and_eq_true,List.all_eq_true,List.mem_range,Bool.or_eq_true,beq_iff_eq] at Ao
             obtain ⟨⟨he,hw⟩,Cx⟩:=Ao
             have J':pl.order=front.reverse++[i]:=by
              have:=congrArg List.reverse ON
              simpa using this
             have SE:=qw (zd:=vv call) (fun e=>Kg e) ho he front.reverse 0 s hd hw (Kh Ke)
             rw[←J'] at SE
             rw[Nat.zero_add] at SE
             obtain ⟨st,r⟩:=Ki Ie SE hl
             obtain ⟨JC,t1⟩:=kr hd
             have VF:s1.rc=s.rc:=t1.rc
             refine ⟨VF,t1.ds,.inr ⟨_,rfl,?_⟩⟩
             have hlen:1≤mK.length:=by have:=t1.len;omega
             have Cy:(mK++[h1])[mK.length - 1]? =some s1.h:=by
              rw[List.getElem?_append_left (by omega)]
              have:=t1.last
              rw[show mK.length - 1=fX E ops front.reverse by have:=t1.len;omega];exact this
             have zb:∀(x:Step) (o:Oper) (hk h':ag),x∈tr++[⟨i,mK.length - 1,s1.ts,AV.undef,.pS h1⟩]→x.i≠i→ops[x.i]? =some o→(mK++[h1])[x.k]? =some hk→x.kind= .pS h'→bX E call x.ts hk s.rc o= .val x.v h':=by
              intro x o hk h' hx Ip Cv tU sK
              have Vk:x∈tr:=by
               simp at hx;rcases hx with h | h
               · exact h
               · exact absurd (by rw[h]) Ip
              obtain ⟨p,hp⟩:=List.getElem?_of_mem Vk
              obtain ⟨_,VC,o',Yk,sk1,ZO,SF,Vy,eZ⟩:=t1.step p x hp
              rw[Cv] at ZO;simp at ZO;subst ZO
              rw[Nat.zero_add] at VC
              rw[←VC] at SF
              have iv:x.k<mK.length:=(List.getElem?_eq_some_iff.1 SF).1
              rw[List.getElem?_append_left iv,SF] at tU
              simp at tU;subst tU
              unfold ry at eZ;rw[sK] at eZ;exact eZ.2.2.1
             have ZP:=(zc hE bS r (xl:=⟨i,mK.length - 1,s1.ts,AV.undef,.pS h1⟩) (by simp) (ol:=⟨dst,.call c,ty,pos,after,guard⟩) ho rfl (fun j hj cH=>(Cx j hj).resolve_left cH) he hw Cy (by rw[←VF];exact Ke) zb
              (s2:={s1 with h:=h1}) rfl rfl dV (b:=b) (k:=k) ops.size (w.tape w.drawn (.order b.fn id)) (vw r hs.ts ok) (by simp) (by simp)).is
             obtain ⟨φ',a',w',v',todo,x0,x1,x2,x3,x4,x5⟩:=ZP
             refine ⟨φ',a',w',v',todo,x0,x1,x2,x3,x4,.head stepR_region_draw ?_⟩
             rw[VE]
             exact x5
           · simp at hp
         · simp at hp
       · simp at hp
     · simp at hp
   · simp at h
end Go.Ab
end
