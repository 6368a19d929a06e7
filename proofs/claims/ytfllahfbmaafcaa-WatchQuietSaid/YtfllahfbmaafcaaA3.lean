import Derived.Orders
import Derived.Test.YtfllahfbmaafcaaA2
set_option linter.unusedVariables false
set_option linter.unusedSimpArgs false
section
namespace Go.Ab
variable {E:Env}
def nY (E:Env) (ts jQ:List AV) (op:Op):Prop:=∀x∈op.operands,eh E ts x=eh E jQ x
theorem wm {α β:Type} {f g:α→Option β}:∀{l:List α} (_:∀x∈l,f x=g x),eF f l=eF g l
 | [],_=>rfl
 | x::xs,h=>by simp only[eF,h x (by simp),wm (l:=xs) (fun y hy=>h y (by simp [hy]))]
theorem o_ {ts jQ:List AV} {l:List Operand} (h:∀x∈l,eh E ts x=eh E jQ x):fI E ts l=fI E jQ l:=wm h
theorem qC {ts jQ:List AV}:∀{l:List (Nat×Operand)} (_:∀x∈l.map (·.2),eh E ts x=eh E jQ x),jN E ts l=jN E jQ l
 | [],_=>rfl
 | (i,o)::l,h=>by simp only[jN,h o (by simp),qC (l:=l) (fun y hy=>h y (by simp at hy ⊢;exact .inr hy))]
theorem se {ts jQ:List AV} {o:Option Operand} (h:∀x∈o.toArray,eh E ts x=eh E jQ x):ml E ts o=ml E jQ o:=by
 cases o with
 | none=>rfl
 | some o=>simp only[ml,h o (by simp)]
theorem wo {ts jQ:List AV} {c:Call} (h:∀x∈c.operands,eh E ts x=eh E jQ x):callee E ts c=callee E jQ c:=by
 unfold callee
 cases hc:c.callee with
 | value f=>
   have h1:eh E ts f=eh E jQ f:=h f (by simp [Call.operands,hc])
   have h2:fI E ts c.args.toList=fI E jQ c.args.toList:=o_ (fun x hx=>h x (by simp [Call.operands,hc];exact .inr (by simpa using hx)))
   simp only[h1,h2]
 | invoke _ _=>rfl
 | builtin _=>rfl
theorem mW {ts jQ:List AV} {c:Call} (h:∀x∈c.operands,eh E ts x=eh E jQ x):fI E ts c.args.toList=fI E jQ c.args.toList:=
 o_ (fun x hx=>h x (by simp [Call.operands];exact .inr (by simpa using hx)))
theorem HL {ts jQ:List AV} {op:Op} (h:nY E ts jQ op):bF E ts op=bF E jQ op:=by
 cases op with
 | call c=>
   have hc:=mW (E:=E) (ts:=ts) (jQ:=jQ) (c:=c) h
   obtain ⟨callee,args,argTypes⟩:=c
   simp only at hc
   cases callee with
   | builtin b=>cases b<;>simp only[bF,hc]
   | value f=>cases f<;>simp only[bF,hc]
   | invoke r m=>simp only[bF]
 | build t ps=>
   have:jN E ts ps.toList=jN E jQ ps.toList:=qC (fun x hx=>h x (by simpa [Op.operands] using hx))
   simp only[bF,this]
 | makeFunc fn first captured=>
   cases fn with
   | func f=>
     have h1:fI E ts first.toList=fI E jQ first.toList:=o_ (fun x hx=>h x (by simp [Op.operands];exact .inl (by simpa using hx)))
     have h2:fI E ts captured.toList=fI E jQ captured.toList:=o_ (fun x hx=>h x (by simp [Op.operands];exact .inr (by simpa using hx)))
     simp only[bF,h1,h2]
   | _=>simp only[bF]
 | slice t x lo hi mx=>
   have h0:eh E ts x=eh E jQ x:=h x (by simp [Op.operands])
   have h1:ml E ts lo=ml E jQ lo:=se (fun y hy=>h y (by simp [Op.operands] at hy ⊢;exact .inr (.inl hy)))
   have h2:ml E ts hi=ml E jQ hi:=se (fun y hy=>h y (by simp [Op.operands] at hy ⊢;exact .inr (.inr (.inl hy))))
   have h3:ml E ts mx=ml E jQ mx:=se (fun y hy=>h y (by simp [Op.operands] at hy ⊢;exact .inr (.inr (.inr hy))))
   simp only[bF,h0,h1,h2,h3]
 | move x=>simp only[bF,h x (by simp [Op.operands])]
 | assign x=>simp only[bF,h x (by simp [Op.operands])]
 | pick c a b=>simp only[bF,h c (by simp [Op.operands]),h a (by simp [Op.operands]),h b (by simp [Op.operands])]
 | nilCheck x=>simp only[bF,h x (by simp [Op.operands])]
 | binOp o t x y u=>simp only[bF,h x (by simp [Op.operands]),h y (by simp [Op.operands])]
 | unOp o t x=>simp only[bF,h x (by simp [Op.operands])]
 | convert s d x=>simp only[bF,h x (by simp [Op.operands])]
 | makeInterface t x=>simp only[bF,h x (by simp [Op.operands])]
 | fieldAddr s x f=>simp only[bF,h x (by simp [Op.operands])]
 | field s x f=>simp only[bF,h x (by simp [Op.operands])]
 | indexAddr t x i=>simp only[bF,h x (by simp [Op.operands]),h i (by simp [Op.operands])]
 | index t x i=>simp only[bF,h x (by simp [Op.operands]),h i (by simp [Op.operands])]
 | extract x i=>simp only[bF,h x (by simp [Op.operands])]
 | typeAssert x a b ok=>simp only[bF,h x (by simp [Op.operands])]
 | _=>simp only[bF]
theorem HM {ts jQ:List AV} {op:Op} (h:nY E ts jQ op) (hp:aw):dS E ts hp op=dS E jQ hp op:=by
 cases op with
 | call c=>
   have hc:=mW (E:=E) (ts:=ts) (jQ:=jQ) (c:=c) h
   obtain ⟨callee,args,argTypes⟩:=c
   simp only at hc
   cases callee with
   | builtin b=>cases b<;>simp only[dS,hc]
   | value f=>simp only[dS]
   | invoke r m=>simp only[dS]
 | load t a=>simp only[dS,h a (by simp [Op.operands])]
 | convert s d x=>simp only[dS,h x (by simp [Op.operands])]
 | lookup t x i ok=>simp only[dS,h x (by simp [Op.operands]),h i (by simp [Op.operands])]
 | _=>simp only[dS]
theorem FD {ts jQ:List AV} {op:Op} (h:nY E ts jQ op):et E ts op=et E jQ op:=by
 cases op with
 | buildSlice t n ps=>
   have:jN E ts ps.toList=jN E jQ ps.toList:=qC (fun x hx=>h x (by simpa [Op.operands] using hx))
   simp only[et,this]
 | box t x=>simp only[et,h x (by simp [Op.operands])]
 | makeSlice t l c=>simp only[et,h l (by simp [Op.operands]),h c (by simp [Op.operands])]
 | makeMap t r=>
   cases r with
   | none=>simp only[et]
   | some r=>simp only[et,h r (by simp [Op.operands])]
 | range t x=>simp only[et,h x (by simp [Op.operands])]
 | _=>simp only[et]
theorem Bh {call:bj} {ts jQ:List AV} {o:Oper} (h:nY E ts jQ o.op) (hp:aw) (rc:RC):dm E call ts hp rc o=dm E call jQ hp rc o:=by
 obtain ⟨dst,op,ty,pos,after,guard⟩:=o
 simp only at h
 unfold dm
 cases op with
 | call c=>
   have hc:=mW (E:=E) (ts:=ts) (jQ:=jQ) (c:=c) h
   have Dh:=wo (E:=E) (ts:=ts) (jQ:=jQ) (c:=c) h
   cases ZI:c.callee with
   | invoke r name=>
     have hr:eh E ts r=eh E jQ r:=h r (by simp [Op.operands,Call.operands,ZI])
     simp only[ZI,hc,hr]
   | builtin b=>cases b<;>simp only[ZI,hc]
   | value f=>simp only[ZI,Dh]
 | defer c=>simp only[wo (E:=E) (ts:=ts) (jQ:=jQ) (c:=c) h]
 | store t a x=>simp only[h a (by simp [Op.operands]),h x (by simp [Op.operands])]
 | mapUpdate t m k x=>simp only[h m (by simp [Op.operands]),h k (by simp [Op.operands]),h x (by simp [Op.operands])]
 | insert t m k x=>simp only[h m (by simp [Op.operands]),h k (by simp [Op.operands]),h x (by simp [Op.operands])]
 | mapEntry t m k=>simp only[h m (by simp [Op.operands]),h k (by simp [Op.operands])]
 | entryStore t m k x=>simp only[h m (by simp [Op.operands]),h k (by simp [Op.operands]),h x (by simp [Op.operands])]
 | convert s d x=>simp only[h x (by simp [Op.operands])]
 | next i s=>simp only[h i (by simp [Op.operands])]
 | panic x=>simp only[h x (by simp [Op.operands])]
 | _=>rfl
end Go.Ab
end
section
namespace Go.Ab
variable {E:Env}
theorem mr {α:Type} {f:α→α→Bool} (hf:∀x y,f x y=true→x=y):∀{l r:List α} (_:cM f l r=true),l=r
 | [],[],_=>rfl
 | [],_::_,h=>by simp [cM] at h
 | _::_,[],h=>by simp [cM] at h
 | x::xs,y::ys,h=>by
   simp only[cM,Bool.and_eq_true] at h
   rw[hf x y h.1,mr hf h.2]
theorem AV.wq:∀(n:Nat) (x y:AV),AV.same n x y=true→x=y
 | 0,_,_,h=>by simp [AV.same] at h
 | n+1,x,y,h=>by
   have ih:=AV.wq n
   cases x<;>cases y<;>simp [AV.same] at h<;>try rfl
   all_goals first
    | (subst h;rfl)
    | (obtain ⟨rfl,rfl⟩:=h;rfl)
    | (obtain ⟨⟨⟨⟨rfl,rfl⟩,rfl⟩,rfl⟩,rfl⟩:=h;rfl)
    | (obtain ⟨⟨rfl,h1⟩,h2⟩:=h;rw[mr ih h1,mr ih h2])
    | (obtain ⟨rfl,h1⟩:=h;rw[ih _ _ h1])
    | (rw[mr ih h])
theorem aR.wq {x y:aR} (h:aR.same x y=true):x=y:=by
 unfold aR.same at h
 split at h
 · simp only[Bool.and_eq_true,beq_iff_eq] at h
   obtain ⟨⟨h1,rfl⟩,rfl⟩:=h
   rw[mr (AV.wq 20) h1]
 · simp at h;subst h;rfl
 · simp at h;obtain ⟨rfl,rfl⟩:=h;rfl
 · simp at h
theorem vd:∀{l:List Nat} (_:nodup l=true),l.Nodup
 | [],_=> .nil
 | x::xs,h=>by
   simp only[nodup,Bool.and_eq_true,Bool.not_eq_true',List.contains_eq_mem,decide_eq_false_iff_not] at h
   exact List.nodup_cons.2 ⟨h.1,vd h.2⟩
theorem Bi:∀(n:Nat) (l:List Nat) (_:l.Nodup) (_:∀x∈l,x<n),l.length≤n
 | 0,l,_,h=>by
   cases l with
   | nil=>simp
   | cons x _=>have:=h x (by simp);omega
 | n+1,l,hn,h=>by
   have h1:=Bi n (l.erase n) (hn.erase n) (fun x hx=>by
    have h2:=h x (List.mem_of_mem_erase hx)
    have h3:x≠n:=(hn.mem_erase_iff.1 hx).1
    omega)
   rw[List.length_erase] at h1
   split at h1<;>omega
structure Bj (E:Env) (ops:Array Oper) (pl:lL):Prop where
 lt:∀i o j,ops[i]? =some o→dD pl.an i j=true→j<i
 direct:∀i o e,ops[i]? =some o→e∈kl o→e<i∧dD pl.an i e=true
 closed:∀i o j,ops[i]? =some o→dD pl.an i j=true→∃e∈kl o,e=j∨dD pl.an e j=true
 guard:∀i o g want,ops[i]? =some o→o.guard=some (g,want)→dD pl.an i g=true
 slot:∀i j o p d,i≠j→ops[i]? =some o→ops[j]? =some p→p.dst=some d→o.dst≠some d∧(d∈tmpsOf o→dD pl.an i j=true∨dD pl.an j i=true)
 chain:∀q e f,pl.bP[q]? =some e→pl.bP[q+1]? =some f→dD pl.an f e=true
 bP:pl.bP=mS E ops.toList
 nd:pl.bP.Nodup
 order:km E ops pl.an pl.bP pl.order [] 0=true
theorem tI {ops:Array Oper} {i:Nat} {o:Oper} (h:ops[i]? =some o):(o,i)∈ops.toList.zipIdx:=by
 rw[List.mk_mem_zipIdx_iff_getElem?];simpa using h
theorem wu {an:List (List Nat)}:∀{l:List Nat} (_:tC an l=true) (q e f:Nat),l[q]? =some e→l[q+1]? =some f→dD an f e=true
 | [],_,q,e,f,h,_=>by simp at h
 | [x],_,q,e,f,h,h'=>by simp at h'
 | x::y::l,hc,q,e,f,h,h'=>by
   simp only[tC,Bool.and_eq_true] at hc
   cases q with
   | zero=>simp at h h';subst h;subst h';exact hc.1
   | succ q=>exact wu hc.2 q e f (by simpa using h) (by simpa using h')
theorem HN {ops:Array Oper} {pl:lL} (h:rU E ops=some pl):Bj E ops pl:=by
 unfold rU at h
 simp only at h
 split at h
 · rename_i hc
   simp at h;subst h
   simp only[Bool.and_eq_true] at hc
   obtain ⟨⟨⟨⟨he,hs⟩,ZS⟩,oW⟩,QJ⟩:=hc
   have JU:=List.all_eq_true.1 he
   have qw:=List.all_eq_true.1 hs
   refine ⟨fun i o j ho hj=>?_,fun i o e ho hm=>?_,fun i o j ho hj=>?_,fun i o g want ho hg=>?_,fun i j o p d eu ho hp hd=>?_,wu ZS,rfl,vd oW,QJ⟩
   · have:=JU _ (tI ho)
     simp only[Bool.and_eq_true] at this
     have h2:=List.all_eq_true.1 this.2 j (by simpa [dD] using hj)
     simp only[Bool.and_eq_true,decide_eq_true_eq] at h2
     exact h2.1
   · have:=JU _ (tI ho)
     simp only[Bool.and_eq_true] at this
     have h2:=List.all_eq_true.1 this.1 e hm
     simpa using h2
   · have:=JU _ (tI ho)
     simp only[Bool.and_eq_true] at this
     have h2:=List.all_eq_true.1 this.2 j (by simpa [dD] using hj)
     simp only[Bool.and_eq_true,List.any_eq_true,Bool.or_eq_true,beq_iff_eq] at h2
     exact h2.2
   · have:=qw _ (tI ho)
     simp only[Bool.and_eq_true,hg] at this
     exact this.1.1
   · have:=qw _ (tI ho)
     simp only[Bool.and_eq_true] at this
     have h2:=List.all_eq_true.1 this.2 _ (tI hp)
     simp only[Bool.or_eq_true,beq_iff_eq,eu,false_or,hd,Bool.and_eq_true,bne_iff_ne,Bool.not_eq_true',List.contains_eq_mem,decide_eq_false_iff_not] at h2
     exact ⟨h2.1,fun hm=>(h2.2.imp_left (fun x=>x.resolve_left (fun hn=>hn hm)))⟩
 · simp at h
def pT (E:Env) (ops:Array Oper) (l:List Nat):Nat:=(l.filter fun i=>fj E ((ops.getD i default).op)).length
theorem FE {ops:Array Oper} {i:Nat} (l:List Nat) (h:fj E ((ops.getD i default).op)=true):pT E ops (i::l)=pT E ops l+1:=by
 unfold pT;rw[List.filter_cons_of_pos (p:=fun i=>fj E ((ops.getD i default).op)) h];rfl
theorem FG {ops:Array Oper} {i:Nat} (l:List Nat) (h:¬fj E ((ops.getD i default).op)=true):pT E ops (i::l)=pT E ops l:=by
 unfold pT;rw[List.filter_cons_of_neg (p:=fun i=>fj E ((ops.getD i default).op)) h]
theorem iu {ops:Array Oper} {an:List (List Nat)} {bP:List Nat}:∀{l seen:List Nat} {k:Nat} (_:km E ops an bP l seen k=true),
 (∀p i,l[p]? =some i→i<ops.size∧i ∉ seen∧i ∉ l.take p∧(∀j,dD an i j=true→j∈seen∨j∈l.take p)∧
  (fj E ((ops.getD i default).op)=true→bP[k+pT E ops (l.take p)]? =some i)∧(fj E ((ops.getD i default).op)=false→E7 bP an i=k+pT E ops (l.take p)))∧
 (∀i,i<ops.size→i∈seen∨i∈l)∧k+pT E ops l=bP.length
 | [],seen,k,h=>by
   simp only[km,Bool.and_eq_true,List.all_eq_true,List.mem_range,beq_iff_eq] at h
   exact ⟨fun p i hp=>by simp at hp,fun i hi=> .inl (by simpa using h.1 i hi),by simpa [pT] using h.2⟩
 | i::l,seen,k,h=>by
   simp only[km,Bool.and_eq_true,decide_eq_true_eq,Bool.not_eq_true',List.contains_eq_mem,decide_eq_false_iff_not] at h
   obtain ⟨⟨⟨j0,hns⟩,ZV⟩,nR⟩:=h
   have X7:∀j,dD an i j=true→j∈seen:=fun j hj=>by
    have:=List.all_eq_true.1 ZV j (by simpa [dD] using hj)
    simpa using this
   by_cases he:fj E ((ops.getD i default).op)=true
   · simp only[he,if_true,Bool.and_eq_true,beq_iff_eq] at nR
     obtain ⟨h1,h2,h3⟩:=iu nR.2
     refine ⟨fun p j hp=>?_,fun j hj=>?_,?_⟩
     · cases p with
       | zero=>simp at hp;subst hp;exact ⟨j0,hns,by simp,fun j hj=> .inl (X7 j hj),fun _=>by simpa [pT] using nR.1,fun hf=>by rw[he] at hf;simp at hf⟩
       | succ p=>
         obtain ⟨a1,a2,a3,a4,a5,a6⟩:=h1 p j (by simpa using hp)
         have hc:k+pT E ops (List.take (p+1) (i::l))=k+1+pT E ops (l.take p):=by rw[List.take_succ_cons,FE _ he];omega
         simp only[List.mem_cons,not_or] at a2
         refine ⟨a1,a2.2,by simp;exact ⟨a2.1,a3⟩,fun m hm=>?_,by rw[hc];exact a5,by rw[hc];exact a6⟩
         rcases a4 m hm with h4 | h4
         · simp at h4;rcases h4 with rfl | h4
           · exact .inr (by simp)
           · exact .inl h4
         · exact .inr (by simp [h4])
     · rcases h2 j hj with h4 | h4
       · simp at h4;rcases h4 with rfl | h4
         · exact .inr (by simp)
         · exact .inl h4
       · exact .inr (by simp [h4])
     · rw[FE _ he];omega
   · simp only[he,Bool.false_eq_true,if_false,Bool.and_eq_true,beq_iff_eq] at nR
     obtain ⟨h1,h2,h3⟩:=iu nR.2
     refine ⟨fun p j hp=>?_,fun j hj=>?_,?_⟩
     · cases p with
       | zero=>simp at hp;subst hp;exact ⟨j0,hns,by simp,fun j hj=> .inl (X7 j hj),fun hf=>absurd hf he,fun _=>by simpa [pT] using nR.1⟩
       | succ p=>
         obtain ⟨a1,a2,a3,a4,a5,a6⟩:=h1 p j (by simpa using hp)
         have hc:k+pT E ops (List.take (p+1) (i::l))=k+pT E ops (l.take p):=by rw[List.take_succ_cons,FG _ he]
         simp only[List.mem_cons,not_or] at a2
         refine ⟨a1,a2.2,by simp;exact ⟨a2.1,a3⟩,fun m hm=>?_,by rw[hc];exact a5,by rw[hc];exact a6⟩
         rcases a4 m hm with h4 | h4
         · simp at h4;rcases h4 with rfl | h4
           · exact .inr (by simp)
           · exact .inl h4
         · exact .inr (by simp [h4])
     · rcases h2 j hj with h4 | h4
       · simp at h4;rcases h4 with rfl | h4
         · exact .inr (by simp)
         · exact .inl h4
       · exact .inr (by simp [h4])
     · rw[FG _ he];exact h3
def gI (ops:Array Oper) (i:Nat):Option Tmp:=(ops[i]?).bind (·.dst)
def FH (ops:Array Oper) (ts:List AV) (l:List Step):List AV:=l.foldl (fun ts x=>dJ ts (gI ops x.i) x.v) ts
def oX (ops:Array Oper) (val:Nat→AV) (ts:List AV) (l:List Nat):List AV:=l.foldl (fun ts i=>dJ ts (gI ops i) (val i)) ts
structure Grown (a b:aw):Prop where
 nx:a.nx≤b.nx
 old:∀i,i<a.nx→b.get i=a.get i
theorem Grown.refl (a:aw):Grown a a:=⟨Nat.le_refl _,fun _ _=>rfl⟩
theorem Grown.trans {a b c:aw} (x:Grown a b) (y:Grown b c):Grown a c:=⟨Nat.le_trans x.nx y.nx,fun i hi=>(y.old i (Nat.lt_of_lt_of_le hi x.nx)).trans (x.old i hi)⟩
theorem Grown.new {a b:aw} {o:aR} (h:a.new o=some b):Grown a b:=by
 obtain ⟨h1,h2,h3,h4⟩:=aw.kQ h
 exact ⟨by omega,fun i hi=>h4 i (by omega)⟩
theorem OK.grown {φ:Ph} {a b:aw} {w:World} (g:Grown a b) (ok:OK E φ a w):OK E φ b w∧Fr φ a w φ b w:=by
 have hold:∀i l,φ i=some l→b.get i=a.get i:=fun i l hl=>g.old i (ok.Ao i l hl)
 refine ⟨⟨fun i l hl=>Nat.lt_of_lt_of_le (ok.Ao i l hl) g.nx,Nat.le_trans ok.nx g.nx,ok.uW,fun i o l hi hl=>ok.live i o l (hold i l hl▸hi) hl,
  fun i j o p l m hi hj hl hm hw hb=>ok.inj i j o p l m (hold i l hl▸hi) (hold j m hm▸hj) hl hm hw hb⟩,
  ⟨Ph.le_refl φ,fun _ _=>rfl,g.nx,rfl,rfl,rfl,Nat.le_refl _,fun _ _ _=>rfl,fun i o l hi hr hl=> .inr ⟨i,o,l,hold i l hl▸hi,hr,hl,rfl⟩⟩⟩
def wv (E:Env) (call:bj) (ops:Array Oper) (rc:RC) (x:Step) (o:Oper) (hk:aw) (sk:aw) (X8:Option aw):Prop:=
 match x.kind with
 | .off=>cz ops x.ts o=false∧x.v=AV.undef∧(fj E o.op=true→X8=some hk)
 | .gD=>fj E o.op=false∧cz ops x.ts o=true∧bF E x.ts o.op=some x.v
 | .red=>fj E o.op=false∧cz ops x.ts o=true
 | .rV n obj=>fj E o.op=false∧cz ops x.ts o=true∧(∃mk,et E x.ts o.op=some (obj,mk)∧x.v=mk n)∧sk.nx≤n∧n<hk.nx
 | .ub h'=>fj E o.op=true∧cz ops x.ts o=true∧dm E call x.ts hk rc o= .val x.v h'∧X8=some h'
structure VC (E:Env) (call:bj) (ops:Array Oper) (s:St) (k:Nat) (order:List Nat) (tr:List Step) (hs st:List aw) (s':St):Prop where
 is:tr.map (·.i)=order
 ts:s'.ts=FH ops s.ts tr
 ds:s'.ds=s.ds
 rc:s'.rc=s.rc
 len:hs.length=pT E ops order+1
 ZW:st.length=hs.length
 first:st[0]? =some s.h
 last:hs[pT E ops order]? =some s'.h
 grown:∀(j:Nat) (a b:aw),st[j]? =some a→hs[j]? =some b→Grown a b
 step:∀(p:Nat) (x:Step),tr[p]? =some x→x.ts=FH ops s.ts (tr.take p)∧x.k=k+pT E ops (order.take p)∧
  ∃o hk sk,ops[x.i]? =some o∧hs[pT E ops (order.take p)]? =some hk∧st[pT E ops (order.take p)]? =some sk∧wv E call ops s.rc x o hk sk (st[pT E ops (order.take p)+1]?)
theorem tJ (ops:Array Oper) (ts:List AV) (x:Step) (l:List Step):FH ops ts (x::l)=FH ops (dJ ts (gI ops x.i) x.v) l:=rfl
theorem nZ {call:bj} {ops:Array Oper}:∀{order:List Nat} {k:Nat} {s:St} {tr:List Step} {hs:List aw} {s':St} (_:cR E call ops order k s= .ok tr hs s'),
 ∃st,VC E call ops s k order tr hs st s'
 | [],k,s,tr,hs,s',h=>by
   simp [cR] at h;obtain ⟨rfl,rfl,rfl⟩:=h
   exact ⟨[s.h],rfl,rfl,rfl,rfl,rfl,rfl,rfl,rfl,fun j a b ha hb=>by
    cases j with
    | zero=>simp at ha hb;subst ha;subst hb;exact Grown.refl _
    | succ j=>simp at ha,fun p x hp=>by simp at hp⟩
 | i::rest,k,s,tr,hs,s',h=>by
   simp only[cR] at h
   cases ho:ops[i]? with
   | none=>rw[ho] at h;simp at h
   | some o=>
   rw[ho] at h
   simp only at h
   have hgd:ops.getD i default=o:=by simp [Array.getD_eq_getD_getElem?,ho]
   have VD:gI ops i=o.dst:=by simp [gI,ho]
   have writes:∀(x:Step) (s1:St),x.i=i→x.k=k→x.ts=s.ts→s1.ts=dJ s.ts o.dst x.v→s1.ds=s.ds→s1.rc=s.rc→fj E o.op=true→
    wv E call ops s.rc x o s.h s.h (some s1.h)→((cR E call ops rest (k+1) s1).bound s.h).step x= .ok tr hs s'→∃st,VC E call ops s k (i::rest) tr hs st s':=by
    intro x s1 Oo FI hxt h1 h2 h3 he ir hd
    cases hr:cR E call ops rest (k+1) s1 with
    | fail why q=>rw[hr] at hd;simp [jv.bound,jv.step] at hd
    | ok MF rO s2=>
      rw[hr] at hd;simp [jv.bound,jv.step] at hd;obtain ⟨rfl,rfl,rfl⟩:=hd
      obtain ⟨st1,t⟩:=nZ hr
      have hc:∀l,pT E ops (i::l)=pT E ops l+1:=fun l=>FE l (by rw[hgd];exact he)
      refine ⟨s.h::st1,by simp [Oo,t.is],?_,t.ds.trans h2,t.rc.trans h3,by simp [t.len,hc],by simp [t.ZW],rfl,by rw[hc];simpa using t.last,fun j a b ha hb=>?_,fun p y hp=>?_⟩
      · rw[tJ,Oo,VD,←h1];exact t.ts
      · cases j with
        | zero=>simp at ha hb;subst ha;subst hb;exact Grown.refl _
        | succ j=>exact t.grown j a b (by simpa using ha) (by simpa using hb)
      · cases p with
        | zero=>
          simp at hp;subst hp
          refine ⟨by simp [FH,hxt],by simp [pT,FI],o,s.h,s.h,by rw[Oo];exact ho,by simp [pT],by simp [pT],?_⟩
          have:(s.h::st1)[pT E ops (List.take 0 (i::rest))+1]? =some s1.h:=by simp [pT];exact t.first
          rw[this];exact ir
        | succ p=>
          obtain ⟨a1,a2,o2,hk,sk,a3,a4,a5,a6⟩:=t.step p y (by simpa using hp)
          refine ⟨?_,by rw[List.take_succ_cons,hc];omega,o2,hk,sk,a3,by rw[List.take_succ_cons,hc];simpa using a4,by rw[List.take_succ_cons,hc];simpa using a5,?_⟩
          · rw[List.take_succ_cons,tJ,Oo,VD,←h1];exact a1
          · rw[List.take_succ_cons,hc,h3] at *
            simpa using a6
   have plain:∀(x:Step) (s1:St),x.i=i→x.k=k→x.ts=s.ts→s1.ts=dJ s.ts o.dst x.v→s1.ds=s.ds→s1.rc=s.rc→fj E o.op=false→Grown s.h s1.h→
    (∀hk sn,Grown s1.h hk→wv E call ops s.rc x o hk s.h sn)→(cR E call ops rest k s1).step x= .ok tr hs s'→∃st,VC E call ops s k (i::rest) tr hs st s':=by
    intro x s1 Oo FI hxt h1 h2 h3 he hg ir hd
    cases hr:cR E call ops rest k s1 with
    | fail why q=>rw[hr] at hd;simp [jv.step] at hd
    | ok MF rO s2=>
      rw[hr] at hd;simp [jv.step] at hd;obtain ⟨rfl,rfl,rfl⟩:=hd
      obtain ⟨st1,t⟩:=nZ hr
      have hc:∀l,pT E ops (i::l)=pT E ops l:=fun l=>FG l (by rw[hgd];simp [he])
      cases ue:st1 with
      | nil=>have:=t.first;rw[ue] at this;simp at this
      | cons s0 st2=>
      have Km:s0=s1.h:=by have:=t.first;rw[ue] at this;simpa using this
      subst Km
      have fP:∀j,(s.h::st2)[j+1]? =st1[j+1]? :=fun j=>by rw[ue];rfl
      refine ⟨s.h::st2,by simp [Oo,t.is],?_,t.ds.trans h2,t.rc.trans h3,by rw[hc];exact t.len,by have:=t.ZW;rw[ue] at this;simpa using this,rfl,by rw[hc];exact t.last,fun j a b ha hb=>?_,fun p y hp=>?_⟩
      · rw[tJ,Oo,VD,←h1];exact t.ts
      · cases j with
        | zero=>
          simp at ha;subst ha
          exact hg.trans (t.grown 0 _ b t.first hb)
        | succ j=>rw[fP] at ha;exact t.grown (j+1) a b ha hb
      · cases p with
        | zero=>
          simp at hp;subst hp
          have h0:∃hk,rO[0]? =some hk:=by
           have:=t.len
           cases hh:rO with
           | nil=>rw[hh] at this;simp at this
           | cons a _=>exact ⟨a,rfl⟩
          obtain ⟨hk,zA⟩:=h0
          refine ⟨by simp [FH,hxt],by simp [pT,FI],o,hk,s.h,by rw[Oo];exact ho,by simpa [pT] using zA,by simp [pT],?_⟩
          exact ir hk _ (t.grown 0 _ hk t.first zA)
        | succ p=>
          obtain ⟨a1,a2,o2,hk,sk,a3,a4,a5,a6⟩:=t.step p y (by simpa using hp)
          have hsk:∃sk',(s.h::st2)[pT E ops (List.take p rest)]? =some sk'∧sk'.nx≤sk.nx:=by
           cases hq:pT E ops (List.take p rest) with
           | zero=>rw[hq] at a5;rw[t.first] at a5;simp at a5;subst a5;exact ⟨s.h,rfl,hg.nx⟩
           | succ q=>rw[hq] at a5;exact ⟨sk,by rw[fP];exact a5,Nat.le_refl _⟩
          obtain ⟨sk',agj,agk⟩:=hsk
          refine ⟨?_,by rw[List.take_succ_cons,hc];exact a2,o2,hk,sk',a3,by rw[List.take_succ_cons,hc];exact a4,by rw[List.take_succ_cons,hc];exact agj,?_⟩
          · rw[List.take_succ_cons,tJ,Oo,VD,←h1];exact a1
          · rw[List.take_succ_cons,hc,fP,←h3]
            unfold wv at a6 ⊢
            split<;>rename_i wx<;>rw[wx] at a6
            · exact a6
            · exact a6
            · exact a6
            · exact ⟨a6.1,a6.2.1,a6.2.2.1,Nat.le_trans agk a6.2.2.2.1,a6.2.2.2.2⟩
            · exact a6
   split at h
   · rename_i he
     split at h
     · rename_i hw
       split at h
       · rename_i v h' sb
         exact writes ⟨i,k,s.ts,v,.ub h'⟩ {s with ts:=dJ s.ts o.dst v,h:=h'} rfl rfl rfl rfl rfl rfl he ⟨he,hw,sb,rfl⟩ h
       · simp at h
       · simp at h
     · rename_i hw
       exact writes ⟨i,k,s.ts,AV.undef,.off⟩ {s with ts:=dJ s.ts o.dst AV.undef} rfl rfl rfl rfl rfl rfl he ⟨by simpa using hw,rfl,fun _=>rfl⟩ h
   · rename_i he
     have JU:fj E o.op=false:=by simpa using he
     split at h
     · rename_i hw
       split at h
       · rename_i v hp
         exact plain ⟨i,k,s.ts,v,.gD⟩ {s with ts:=dJ s.ts o.dst v} rfl rfl rfl rfl rfl rfl JU (Grown.refl _) (fun hk sn _=>⟨JU,hw,hp⟩) h
       · split at h
         · rename_i v hp
           exact plain ⟨i,k,s.ts,v,.red⟩ {s with ts:=dJ s.ts o.dst v} rfl rfl rfl rfl rfl rfl JU (Grown.refl _) (fun hk sn _=>⟨JU,hw⟩) h
         · split at h
           · rename_i obj mk hp
             split at h
             · rename_i h' hn
               refine plain ⟨i,k,s.ts,mk s.h.nx,.rV s.h.nx obj⟩ {s with ts:=dJ s.ts o.dst (mk s.h.nx),h:=h'} rfl rfl rfl rfl rfl rfl JU (Grown.new hn) (fun hk sn g=>⟨JU,hw,⟨mk,hp,rfl⟩,Nat.le_refl _,?_⟩) h
               have:=(aw.kQ hn).2.1
               have:=g.nx
               simp at this;omega
             · simp at h
           · simp at h
     · rename_i hw
       exact plain ⟨i,k,s.ts,AV.undef,.off⟩ {s with ts:=dJ s.ts o.dst AV.undef} rfl rfl rfl rfl rfl rfl JU (Grown.refl _) (fun hk sn _=>⟨by simpa using hw,rfl,fun h=>by rw[JU] at h;simp at h⟩) h
end Go.Ab
end
section
namespace Go.Ab
variable {E:Env}
theorem tK (ops:Array Oper) (val:Nat→AV) (x:Nat):∀(l:List Nat) (ts:List AV) (_:∀j∈l,gI ops j≠some x),(oX ops val ts l)[x]? =ts[x]?
 | [],_,_=>rfl
 | i::l,ts,h=>by
   show (oX ops val (dJ ts (gI ops i) (val i)) l)[x]? =_
   rw[tK ops val x l _ (fun j hj=>h j (by simp [hj]))]
   have:=h i (by simp)
   cases hd:gI ops i with
   | none=>rfl
   | some d=>
     rw[hd] at this
     have eu:d≠x:=fun e=>this (by rw[e])
     simp [dJ,List.getElem?_set_ne eu]
theorem Bk (ops:Array Oper) (val:Nat→AV) (x j:Nat) (hj:gI ops j=some x):∀(l:List Nat) (ts:List AV) (_:j∈l) (_:∀j'∈l,gI ops j'=some x→j'=j),(oX ops val ts l)[x]? =if x<ts.length then some (val j) else none
 | i::l,ts,hm,hu=>by
   show (oX ops val (dJ ts (gI ops i) (val i)) l)[x]? =_
   have hlen:(dJ ts (gI ops i) (val i)).length=ts.length:=by cases gI ops i<;>simp [dJ]
   by_cases P3:j∈l
   · rw[Bk ops val x j hj l _ P3 (fun j' h=>hu j' (by simp [h])),hlen]
   · have hij:i=j:=by simp at hm;rcases hm with h | h;exact h.symm;exact absurd h P3
     subst hij
     rw[tK ops val x l _ (fun j' nD e=>P3 (hu j' (by simp [nD]) e▸nD))]
     rw[hj]
     simp [dJ,List.getElem?_set]
theorem ve {ops:Array Oper} {val:Nat→AV} {x:Nat} {l d:List Nat} (ts:List AV) (hu:∀j j',gI ops j=some x→gI ops j'=some x→j=j') (X9:∀j,gI ops j=some x→(j∈l↔j∈d)):
 (oX ops val ts l)[x]? =(oX ops val ts d)[x]? :=by
 by_cases h:∃j,gI ops j=some x∧j∈l
 · obtain ⟨j,hj,hl⟩:=h
   rw[Bk ops val x j hj l ts hl (fun j' _ e=>hu j' j e hj),Bk ops val x j hj d ts ((X9 j hj).1 hl) (fun j' _ e=>hu j' j e hj)]
 · rw[tK ops val x l ts (fun j hj e=>h ⟨j,e,hj⟩),tK ops val x d ts (fun j hj e=>h ⟨j,e,(X9 j e).2 hj⟩)]
theorem yx {l r:List AV} {x:Nat} (h:l[x]? =r[x]?) (d:AV):l.getD x d=r.getD x d:=by simp [List.getD,h]
def valOf (tr:List Step) (i:Nat):AV:=((tr.find? (fun x=>x.i==i)).map (·.v)).getD AV.undef
theorem HO {tr:List Step} (hn:(tr.map (·.i)).Nodup) {p:Nat} {x:Step} (hp:tr[p]? =some x):valOf tr x.i=x.v:=by
 unfold valOf
 have:tr.find? (fun y=>y.i==x.i)=some x:=by
  rw[List.find?_eq_some_iff_getElem]
  obtain ⟨j0,hx⟩:=List.getElem?_eq_some_iff.1 hp
  refine ⟨by simp,p,j0,hx,fun j hj=>?_⟩
  have P3:j<tr.length:=by omega
  simp only[Bool.not_eq_true',beq_eq_false_iff_ne]
  intro e
  have h1:(tr.map (·.i))[j]? =some x.i:=by simp [P3,e]
  have h2:(tr.map (·.i))[p]? =some x.i:=by simp [j0,hx]
  have:=(List.getElem?_inj (by simpa using P3) hn).1 (h1.trans h2.symm)
  omega
 rw[this];rfl
theorem FJ (ops:Array Oper) {tr:List Step} (hn:(tr.map (·.i)).Nodup) (ts:List AV) (p:Nat):FH ops ts (tr.take p)=oX ops (valOf tr) ts ((tr.map (·.i)).take p):=by
 have key:∀(l:List Step) (ts:List AV),(∀x∈l,valOf tr x.i=x.v)→FH ops ts l=oX ops (valOf tr) ts (l.map (·.i)):=by
  intro l
  induction l with
  | nil=>intro ts _;rfl
  | cons x l ih=>
    intro ts h
    show FH ops (dJ ts (gI ops x.i) x.v) l=oX ops (valOf tr) (dJ ts (gI ops x.i) (valOf tr x.i)) (l.map (·.i))
    rw[h x (by simp),ih _ (fun y hy=>h y (by simp [hy]))]
 rw[key _ _ (fun x hx=>?_),List.map_take]
 obtain ⟨q,hq⟩:=List.getElem?_of_mem (List.mem_of_mem_take hx)
 exact HO hn hq
theorem OK.place {φ:Ph} {h:aw} {w:World} (ok:OK E φ h w) {n:Nat} {obj:aR} (hg:h.get n=some obj) (E_:φ n=none) (j0:n<h.nx) {O:Obj}
 (ho:OR E (φ.add n ⟨w.heap.size,0,0⟩) obj ⟨w.heap.size,0,0⟩ (some O)):OK E (φ.add n ⟨w.heap.size,0,0⟩) h (w.alloc O)∧φ.le (φ.add n ⟨w.heap.size,0,0⟩):=by
 have hle:φ.le (φ.add n ⟨w.heap.size,0,0⟩):=fun j m hm=>by
  unfold Ph.add;split
  · rename_i e;subst e;rw[E_] at hm;simp at hm
  · exact hm
 have jT:∀j,j≠n→(φ.add n ⟨w.heap.size,0,0⟩) j=φ j:=fun j hj=>by simp [Ph.add,hj]
 have gH:(φ.add n ⟨w.heap.size,0,0⟩) n=some ⟨w.heap.size,0,0⟩:=by simp [Ph.add]
 have X_:(w.alloc O).heap=w.heap.push O:=rfl
 have hblk:∀j p m,h.get j=some p→φ j=some m→m.dZ<w.heap.size:=fun j p m hj hm=>by
  have AO:=ok.live j p m hj hm
  rcases Nat.lt_or_ge m.dZ w.heap.size with a | a
  · exact a
  · exfalso
    rw[Array.getElem?_eq_none a] at AO
    exact AO.absurd
 refine ⟨⟨fun j m hm=>?_,ok.nx,fun g hg=>hle _ _ (ok.uW g hg),fun j p m hj hm=>?_,fun j k p q m r hj hk hm hr hw hb=>?_⟩,hle⟩
 · by_cases e:j=n
   · omega
   · rw[jT j e] at hm;exact ok.Ao j m hm
 · by_cases e:j=n
   · subst e;rw[gH] at hm;simp at hm;subst hm;rw[hg] at hj;simp at hj;subst hj;rw[X_];simpa using ho
   · rw[jT j e] at hm
     have hb:=hblk j p m hj hm
     rw[X_,Array.getElem?_push,if_neg (by omega)]
     exact (ok.live j p m hj hm).mono hle
 · by_cases e:j=n<;>by_cases e':k=n
   · rw[e,e']
   · subst e;rw[gH] at hm;simp at hm;subst hm;rw[jT k e'] at hr;have:=hblk k q r hk hr;simp at hb;omega
   · subst e';rw[gH] at hr;simp at hr;subst hr;rw[jT j e] at hm;have:=hblk j p m hj hm;simp at hb;omega
   · rw[jT j e] at hm;rw[jT k e'] at hr;exact ok.inj j k p q m r hj hk hm hr hw hb
theorem Fr.place {φ₀ φ:Ph} {h₀ h:aw} {w₀ w:World} (f:Fr φ₀ h₀ w₀ φ h w) {n:Nat} (hn:h₀.nx≤n) (E_:φ n=none) (O:Obj):Fr φ₀ h₀ w₀ (φ.add n ⟨w.heap.size,0,0⟩) h (w.alloc O):=by
 have jT:∀j,j≠n→(φ.add n ⟨w.heap.size,0,0⟩) j=φ j:=fun j hj=>by simp [Ph.add,hj]
 have gH:(φ.add n ⟨w.heap.size,0,0⟩) n=some ⟨w.heap.size,0,0⟩:=by simp [Ph.add]
 refine ⟨fun j m hm=>?_,fun i hi=>by rw[jT i (by omega)];exact f.old i hi,f.nx,f.os,f.tape,f.output,by have:=f.size;simp;omega,fun b hb ZE=>?_,fun i o l hi hr hl=>?_⟩
 · by_cases e:j=n
   · subst e;have:=f.ext j m hm;rw[E_] at this;simp at this
   · rw[jT j e];exact f.ext j m hm
 · have:=f.size
   rw[show (w.alloc O).heap=w.heap.push O from rfl,Array.getElem?_push,if_neg (by omega)]
   exact f.Ap b hb ZE
 · by_cases e:i=n
   · subst e;rw[gH] at hl;simp at hl;subst hl;exact .inl f.size
   · rw[jT i e] at hl;exact f.own i o l hi hr hl
theorem filter_le {P:Nat→Bool} {l:List Nat} {K:Nat} (h:∀q e,l[q]? =some e→P e=true→q<K):(l.filter P).length≤K:=by
 have h1:(l.drop K).filter P=[]:=by
  rw[List.filter_eq_nil_iff]
  intro e he hP
  obtain ⟨q,hq⟩:=List.getElem?_of_mem he
  rw[List.getElem?_drop] at hq
  have:=h _ e hq hP
  omega
 calc (l.filter P).length=((l.take K++l.drop K).filter P).length:=by rw[List.take_append_drop]
  _=((l.take K).filter P).length:=by rw[List.filter_append,h1,List.append_nil]
  _≤(l.take K).length:=List.length_filter_le _ _
  _≤K:=by simp;omega
theorem wy {P:Nat→Bool}:∀{l:List Nat} {e:Nat} (_:l[(l.takeWhile P).length]? =some e),P e=false
 | [],e,h=>by simp at h
 | x::l,e,h=>by
   by_cases hx:P x=true
   · rw[List.takeWhile_cons_of_pos hx] at h
     exact wy (l:=l) (by simpa using h)
   · rw[List.takeWhile_cons_of_neg hx] at h
     simp at h;subst h;simpa using hx
end Go.Ab
end
section
namespace Go.Ab
variable {E:Env}
structure FK (E:Env) (call:bj) (ops:Array Oper) (pl:lL) (s s':St) (tr:List Step) (hs st:List aw):Prop where
 rG:Bj E ops pl
 trace:VC E call ops s 0 pl.order tr hs st s'
 still:∀x∈tr,∀K hk,x.k≤K→K≤jP pl.bP pl.an x.i→hs[K]? =some hk→iY E ops x hk=true
 ids:∀(x y:Step),x∈tr→y∈tr→∀(n:Nat) (o q:aR),x.kind= .rV n o→y.kind= .rV n q→x.i=y.i
structure Inv (E:Env) (ops:Array Oper) (pl:lL) (s:St) (tr:List Step) (hs st:List aw) (φ₀:Ph) (w₀:World) (vV:List Deferred) (d:List Nat) (bX:Array Bool) (K:Nat) (φ:Ph) (a:Act) (w:World):Prop where
 nd:d.Nodup
 lt:∀i∈d,i<ops.size
 bX:∀i,i<ops.size→bX[i]? =some (decide (i∈d))
 closed:∀i∈d,∀j,dD pl.an i j=true→j∈d
 bP:∀q e,pl.bP[q]? =some e→(e∈d↔q<K)
 Kle:K≤pl.bP.length
 ts:LR φ (oX ops (valOf tr) s.ts d) a.tmps.toList
 ds:a.defers=vV
 ok:∃hK,hs[K]? =some hK∧OK E φ hK w∧Fr φ₀ s.h w₀ φ hK w
 gV:∀x∈tr,∀n obj,x.kind= .rV n obj→x.i ∉ d→x.k≤K→φ n=none∧s.h.nx≤n∧∀hK,hs[K]? =some hK→n<hK.nx
section
variable {call:bj} {ops:Array Oper} {pl:lL} {s s':St} {tr:List Step} {hs st:List aw}
theorem FK.at (r:FK E call ops pl s s' tr hs st) {p:Nat} {x:Step} (hp:tr[p]? =some x):
 pl.order[p]? =some x.i∧x.i ∉ pl.order.take p∧(∀j,dD pl.an x.i j=true→j∈pl.order.take p)∧x.k=pT E ops (pl.order.take p)∧
 ∃o,ops[x.i]? =some o∧(fj E o.op=true→pl.bP[x.k]? =some x.i)∧(fj E o.op=false→E7 pl.bP pl.an x.i=x.k):=by
 have h1:pl.order[p]? =some x.i:=by rw[←r.trace.is,List.getElem?_map,hp];rfl
 obtain ⟨h2,_,_⟩:=iu r.rG.order
 obtain ⟨a1,a2,a3,a4,a5,a6⟩:=h2 p x.i h1
 obtain ⟨b1,b2,o,hk,sk,b3,_⟩:=r.trace.step p x hp
 have hgd:ops.getD x.i default=o:=by simp [Array.getD_eq_getD_getElem?,b3]
 rw[hgd] at a5 a6
 have DM:x.k=pT E ops (pl.order.take p):=by omega
 refine ⟨h1,a3,fun j hj=>(a4 j hj).resolve_left (by simp),DM,o,b3,fun he=>?_,fun he=>?_⟩
 · have:=a5 he;rw[DM];simpa using this
 · have:=a6 he;omega
theorem uB:∀{l:List Nat} (_:∀(p i:Nat),l[p]? =some i→i ∉ l.take p),l.Nodup
 | [],_=> .nil
 | x::l,h=>by
   refine List.nodup_cons.2 ⟨fun hm=>?_,uB (fun p i hp hi=>h (p+1) i (by simpa using hp) (by simp [hi]))⟩
   obtain ⟨q,hq⟩:=List.getElem?_of_mem hm
   exact h (q+1) x (by simpa using hq) (by simp)
theorem FK.nodup (r:FK E call ops pl s s' tr hs st):pl.order.Nodup:=by
 obtain ⟨h2,_,_⟩:=iu r.rG.order
 exact uB (fun p i hp=>(h2 p i hp).2.2.1)
theorem FK.all (r:FK E call ops pl s s' tr hs st) {i:Nat} (hi:i<ops.size):∃(p:Nat) (x:Step),tr[p]? =some x∧x.i=i:=by
 obtain ⟨_,h3,_⟩:=iu r.rG.order
 have:=(h3 i hi).resolve_left (by simp)
 rw[←r.trace.is] at this
 obtain ⟨x,hx,rfl⟩:=List.mem_map.1 this
 obtain ⟨p,hp⟩:=List.getElem?_of_mem hx
 exact ⟨p,x,hp,rfl⟩
theorem wz {ops:Array Oper} {pl:lL} (pok:Bj E ops pl) {x j j':Nat} (h:gI ops j=some x) (h':gI ops j'=some x):j=j':=by
 unfold gI at h h'
 cases ho:ops[j]? with
 | none=>rw[ho] at h;simp at h
 | some o=>
 cases HQ:ops[j']? with
 | none=>rw[HQ] at h';simp at h'
 | some o'=>
 rw[ho] at h;rw[HQ] at h'
 simp at h h'
 rcases Nat.decEq j j' with eu | he
 · exact absurd h (pok.slot j j' o o' x eu ho HQ h').1
 · exact he
theorem agree (r:FK E call ops pl s s' tr hs st) {p:Nat} {x:Step} {o:Oper} (hp:tr[p]? =some x) (ho:ops[x.i]? =some o) {d:List Nat} (hd:x.i ∉ d) (P4:∀i∈d,∀j,dD pl.an i j=true→j∈d)
 (qD:∀j,dD pl.an x.i j=true→j∈d):nY E x.ts (oX ops (valOf tr) s.ts d) o.op∧cz ops (oX ops (valOf tr) s.ts d) o=cz ops x.ts o:=by
 obtain ⟨h1,h2,h3,_,_⟩:=r.at hp
 have oW:(tr.map (·.i)).Nodup:=by rw[r.trace.is];exact r.nodup
 have QK:x.ts=oX ops (valOf tr) s.ts (pl.order.take p):=by
  rw[(r.trace.step p x hp).1,FJ ops oW,r.trace.is]
 have hpc:∀j∈pl.order.take p,∀m,dD pl.an j m=true→m∈pl.order.take p:=by
  intro j hj m hm
  obtain ⟨q,hq⟩:=List.getElem?_of_mem hj
  have hqp:q<p:=by
   have:=(List.getElem?_eq_some_iff.1 hq).1
   simp at this;omega
  have hq':pl.order[q]? =some j:=by rw[List.getElem?_take] at hq;rw[if_pos hqp] at hq;exact hq
  obtain ⟨f1,_,_⟩:=iu r.rG.order
  have:=((f1 q j hq').2.2.2.1 m hm).resolve_left (by simp)
  exact List.mem_of_mem_take (i:=q) (l:=pl.order.take p) (by rw[List.take_take,Nat.min_eq_left (Nat.le_of_lt hqp)];exact this)
 have same:∀t,(∀j p',j≠x.i→ops[j]? =some p'→p'.dst=some t→dD pl.an x.i j=true∨dD pl.an j x.i=true)→(oX ops (valOf tr) s.ts (pl.order.take p))[t]? =(oX ops (valOf tr) s.ts d)[t]? :=by
  intro t ht
  refine ve s.ts (fun j j' a b=>wz r.rG a b) (fun j hj=>?_)
  by_cases hji:j=x.i
  · subst hji;exact ⟨fun h=>absurd h h2,fun h=>absurd h hd⟩
  · obtain ⟨p',ZX,JV⟩:∃p',ops[j]? =some p'∧p'.dst=some t:=by
     unfold gI at hj
     cases X':ops[j]? with
     | none=>rw[X'] at hj;simp at hj
     | some p'=>rw[X'] at hj;exact ⟨p',rfl,by simpa using hj⟩
    rcases ht j p' hji ZX JV with h | h
    · exact ⟨fun _=>qD j h,fun _=>h3 j h⟩
    · exact ⟨fun hm=>absurd (hpc j hm _ h) h2,fun hm=>absurd (P4 j hm _ h) hd⟩
 rw[QK]
 refine ⟨fun y hy=>?_,?_⟩
 · cases y with
   | tmp t=>
     have ht:t∈tmpsOf o:=by
      unfold tmpsOf;rw[List.mem_filterMap];exact ⟨.tmp t,by simpa using hy,rfl⟩
     simp only[eh]
     rw[yx (same t (fun j p' eu ZX JV=>(r.rG.slot x.i j o p' t (Ne.symm eu) ho ZX JV).2 ht))]
   | const c=>rfl
   | global g=>rfl
   | func f=>rfl
 · unfold cz
   cases hg:o.guard with
   | none=>rfl
   | some gw=>
     obtain ⟨g,want⟩:=gw
     simp only
     cases hdg:(ops[g]?).bind (·.dst) with
     | none=>rfl
     | some t=>
       simp only
       have ZV:=r.rG.guard x.i o g want ho hg
       rw[same t (fun j p' eu ZX JV=>by
        have:j=g:=wz r.rG (x:=t) (by unfold gI;rw[ZX];simpa using JV) hdg
        subst this;exact .inl ZV)]
end
end Go.Ab
end
section
namespace Go.Ab
variable {E:Env}
section
variable {call:bj} {ops:Array Oper} {pl:lL} {s s':St} {tr:List Step} {hs st:List aw}
theorem DV {l:List Oper} {i:Nat}:i∈mS E l↔∃o,l[i]? =some o∧fj E o.op=true:=by
 unfold mS
 simp only[List.mem_map,List.mem_filter,Prod.exists]
 constructor
 · rintro ⟨o,j,⟨h1,h2⟩,rfl⟩
   exact ⟨o,by rw[List.mk_mem_zipIdx_iff_getElem?] at h1;exact h1,h2⟩
 · rintro ⟨o,h1,h2⟩
   exact ⟨o,i,⟨by rw[List.mk_mem_zipIdx_iff_getElem?];exact h1,h2⟩,rfl⟩
theorem Bj.VE (pok:Bj E ops pl) {i:Nat} {o:Oper} (ho:ops[i]? =some o):i∈pl.bP↔fj E o.op=true:=by
 rw[pok.bP,DV]
 constructor
 · rintro ⟨o',h1,h2⟩
   have:ops.toList[i]? =some o:=by simpa using ho
   rw[this] at h1;simp at h1;subst h1;exact h2
 · intro h;exact ⟨o,by simpa using ho,h⟩
theorem Inv.Bl {φ₀ φ:Ph} {w₀ w:World} {vV:List Deferred} {d:List Nat} {bX:Array Bool} {K:Nat} {a:Act} (r:FK E call ops pl s s' tr hs st) (inv:Inv E ops pl s tr hs st φ₀ w₀ vV d bX K φ a w)
 {x:Step} (hx:pl.bP[x.k]? =some x.i) (hd:x.i ∉ d) (qD:∀j,dD pl.an x.i j=true→j∈d):x.k=K:=by
 have h1:¬x.k<K:=fun h=>hd ((inv.bP x.k x.i hx).2 h)
 rcases Nat.lt_or_ge K x.k with h | h
 · exfalso
   obtain ⟨q,hq⟩:∃q,x.k=q+1:=⟨x.k - 1,by omega⟩
   have j0:q<pl.bP.length:=by have:=(List.getElem?_eq_some_iff.1 hx).1;omega
   have hq':pl.bP[q]? =some pl.bP[q]:=by simp [j0]
   have:=r.rG.chain q _ x.i hq' (by rw[←hq];exact hx)
   have:=(inv.bP q _ hq').1 (qD _ this)
   omega
 · omega
theorem Inv.QL {φ₀ φ:Ph} {w₀ w:World} {vV:List Deferred} {d:List Nat} {bX:Array Bool} {K:Nat} {a:Act} (inv:Inv E ops pl s tr hs st φ₀ w₀ vV d bX K φ a w)
 {i:Nat} (hd:i ∉ d) (qD:∀j,dD pl.an i j=true→j∈d):E7 pl.bP pl.an i≤K∧K≤jP pl.bP pl.an i:=by
 refine ⟨filter_le (fun q e hq he=>(inv.bP q e hq).1 (qD e he)),?_⟩
 rcases Nat.lt_or_ge (jP pl.bP pl.an i) K with h | h
 · exfalso
   have j0:jP pl.bP pl.an i<pl.bP.length:=by have:=inv.Kle;omega
   have hq:pl.bP[jP pl.bP pl.an i]? =some pl.bP[jP pl.bP pl.an i]:=by simp [j0]
   have h1:=wy (P:=fun e=> !dD pl.an e i) hq
   simp only[Bool.not_eq_false'] at h1
   exact hd (inv.closed _ ((inv.bP _ _ hq).2 h) i h1)
 · exact h
theorem Oq (ops:Array Oper) (val:Nat→AV) (ts:List AV) (d:List Nat) (i:Nat):oX ops val ts (d++[i])=dJ (oX ops val ts d) (gI ops i) (val i):=by
 simp [oX]
theorem Inv.snoc {φ₀ φ φ':Ph} {w₀ w w':World} {vV:List Deferred} {d:List Nat} {bX:Array Bool} {K K':Nat} {a:Act} (r:FK E call ops pl s s' tr hs st) (inv:Inv E ops pl s tr hs st φ₀ w₀ vV d bX K φ a w)
 {p:Nat} {x:Step} {o:Oper} (hp:tr[p]? =some x) (ho:ops[x.i]? =some o) (hd:x.i ∉ d) (qD:∀j,dD pl.an x.i j=true→j∈d) (hle:φ.le φ') {v':Value} (hv:VR φ' x.v v')
 (hK:(fj E o.op=false∧K'=K)∨(fj E o.op=true∧x.k=K∧pl.bP[x.k]? =some x.i∧K'=K+1))
 (jI:∃hK,hs[K']? =some hK∧OK E φ' hK w'∧Fr φ₀ s.h w₀ φ' hK w')
 (acQ:∀y∈tr,∀n obj,y.kind= .rV n obj→y.i ∉ d→y.i≠x.i→y.k≤K'→φ' n=none∧s.h.nx≤n∧∀hK,hs[K']? =some hK→n<hK.nx):
 Inv E ops pl s tr hs st φ₀ w₀ vV (d++[x.i]) (bX.setIfInBounds x.i true) K' φ' (a.put o.dst v') w':=by
 have oW:(tr.map (·.i)).Nodup:=by rw[r.trace.is];exact r.nodup
 have j0:x.i<ops.size:=(Array.getElem?_eq_some_iff.1 ho).1
 refine ⟨?_,fun i hi=>?_,fun i hi=>?_,fun i hi j hj=>?_,fun q e hq=>?_,?_,?_,by rw[put_defers];exact inv.ds,jI,fun y hy n obj yu hyd hyk=>?_⟩
 · rw[List.nodup_append];exact ⟨inv.nd,by simp,fun a ha b hb=>by simp at hb;subst hb;exact fun e=>hd (e▸ha)⟩
 · simp at hi;rcases hi with h | rfl
   · exact inv.lt i h
   · exact j0
 · have h1:=inv.bX i hi
   by_cases e:x.i=i
   · subst e
     have E9:x.i<bX.size:=(Array.getElem?_eq_some_iff.1 h1).1
     rw[Array.getElem?_setIfInBounds];simp [E9]
   · rw[Array.getElem?_setIfInBounds_ne e,h1]
     simp [show i≠x.i from fun h=>e h.symm]
 · simp at hi;rcases hi with h | rfl
   · exact List.mem_append_left _ (inv.closed i h j hj)
   · exact List.mem_append_left _ (qD j hj)
 · rcases hK with ⟨he,rfl⟩ | ⟨he,FI,hxe,rfl⟩
   · have eu:e≠x.i:=fun h=>by
      subst h
      have:=(r.rG.VE ho).1 (List.mem_of_getElem? hq)
      rw[he] at this;simp at this
     simp [eu,inv.bP q e hq]
   · have hqe:e=x.i↔q=K:=by
      constructor
      · intro h;subst h
        have:=(List.getElem?_inj (List.getElem?_eq_some_iff.1 hq).1 r.rG.nd).1 (hq.trans hxe.symm)
        omega
      · intro h;subst h;rw[←FI,hxe] at hq;simpa using hq.symm
     simp only[List.mem_append,List.mem_singleton,inv.bP q e hq,hqe]
     omega
 · rcases hK with ⟨he,rfl⟩ | ⟨he,FI,hxe,rfl⟩
   · exact inv.Kle
   · have:=(List.getElem?_eq_some_iff.1 hxe).1;omega
 · rw[Oq,HO oW hp]
   have:gI ops x.i=o.dst:=by simp [gI,ho]
   rw[this]
   exact QE (inv.ts.mono hle) o.dst hv
 · simp only[List.mem_append,List.mem_singleton,not_or] at hyd
   exact acQ y hy n obj yu hyd.1 hyd.2 hyk
theorem Ot (hE:j5 E) {call:bj} (dp:hF E call) {ts:List AV} {h h':aw} {rc:RC} {o:Oper} {v:AV} (sb:dm E call ts h rc o= .val v h') {i:Nat} {rest:List Nat} (ho:ops[i]? =some o)
 {φ:Ph} {a:Act} {w:World} {b:Frame} {k:List Item} {K:Bool→List Frame} (QK:LR φ ts a.tmps.toList) (ok:OK E φ h w) (fY:mV φ b K rc) (hw:Region.wanted o (yielded ops a.tmps)=true):
 ∃φ' w' v',VR φ' v v'∧OK E φ' h' w'∧Fr φ h w φ' h' w'∧Steps E.P (lone (b.atR a (.inRegion ops (i::rest)::k)) (cur K rc) w) (lone (b.atR (a.put o.dst v') (.inRegion ops rest::k)) (cur K rc) w'):=by
 have yr:=vc hE dp (rc:=rc) (o:=o) QK ok
 have oW:rc.nW=false∨∀c,o.op≠ .defer c:=by
  by_cases hd:∃c,o.op= .defer c
  · obtain ⟨c,hd⟩:=hd
    unfold dm at sb
    simp only[hd] at sb
    split at sb<;>simp at sb
  · exact .inr (fun c e=>hd ⟨c,e⟩)
 have kt:=qA fY oW a.eval
 rw[sb] at yr
 cases yr with
 | val v h' φ' w' v' hv rz fr run=>exact ⟨φ',w',v',hv,rz,fr,.one (mq kt ho hw run)⟩
 | skip h' φ' w' rz fr run=>exact ⟨φ',w',undef,.undef φ',rz,fr,.one (HI kt ho hw run)⟩
 | enter v h' F args all hr hf hl run=>
   obtain ⟨n,start,hp,ir⟩:=hr φ w all ok hf hl
   obtain ⟨φ',w',v',hv,rz,fr,iR⟩:=ir (b.atR a (.inRegion ops (i::rest)::k)) (cur K rc)
   rw[tH ho] at iR
   exact ⟨φ',w',v',hv,rz,fr,.head (go_enter kt ho hw hp (run n start hp)) iR⟩
 | QH eu C8 run=>
   have E_:∀fr:Frame,fr.kind=b.kind→tryRecover fr (cur K rc)=none:=by
    cases FC:rc with
    | no=>rw[FC] at fY;exact fY.2
    | gV v=>exact absurd FC (eu v)
    | done=>rw[FC] at fY;exact fY.2
    | rN l=>rw[FC] at C8;simp [RC.nW] at C8
   exact ⟨φ,w,.nilIface,.nilIface,ok,Fr.refl _ _ _,.one (uA (fY.plain C8) kt ho hw run (E_ _ rfl))⟩
theorem Inv.MG (hE:j5 E) {DW:bj} (dp:hF E DW) {φ₀ φ:Ph} {w₀ w:World} {vV:List Deferred} {d:List Nat} {bX:Array Bool} {K:Nat} {a:Act} (r:FK E call ops pl s s' tr hs st) (inv:Inv E ops pl s tr hs st φ₀ w₀ vV d bX K φ a w)
 {b:Frame} {k:List Item} {Ks:Bool→List Frame} (fY:mV φ₀ b Ks s.rc) {i:Nat} (hi:i<ops.size) (hd:i ∉ d) (qD:∀j,dD pl.an i j=true→j∈d)
 (DX:∀(x:Step) (o:Oper) (hk h':aw),x∈tr→x.i=i→ops[x.i]? =some o→hs[x.k]? =some hk→x.kind= .ub h'→dm E DW x.ts hk s.rc o= .val x.v h') (rest:List Nat):
 ∃K' φ' a' w',Inv E ops pl s tr hs st φ₀ w₀ vV (d++[i]) (bX.setIfInBounds i true) K' φ' a' w'∧
  Steps E.P (lone (b.atR a (.inRegion ops (i::rest)::k)) (cur Ks s.rc) w) (lone (b.atR a' (.inRegion ops rest::k)) (cur Ks s.rc) w'):=by
 obtain ⟨p,x,hp,rfl⟩:=r.all hi
 have ZO:x∈tr:=List.mem_of_getElem? hp
 obtain ⟨h1,h2,h3,hk,o,ho,sb,Ya⟩:=r.at hp
 obtain ⟨_,_,o',hk1,sk1,HQ,zA,hsk,ir⟩:=r.trace.step p x hp
 rw[ho] at HQ;simp at HQ;subst HQ
 rw[←hk] at zA hsk ir
 obtain ⟨hag,QM⟩:=agree r hp ho hd inv.closed qD
 obtain ⟨hK,Yb,ok,fr⟩:=inv.ok
 have U9:Region.wanted o (yielded ops a.tmps)=cz ops x.ts o:=by rw[vb inv.ts o,QM]
 have VF:nY E (oX ops (valOf tr) s.ts d) x.ts o.op:=fun y hy=>(hag y hy).symm
 have same:∀y∈tr,∀n obj,y.kind= .rV n obj→y.i ∉ d→y.i≠x.i→y.k≤K→φ n=none∧s.h.nx≤n∧∀hK,hs[K]? =some hK→n<hK.nx:=
  fun y hy n obj a1 a2 _ a3=>inv.gV y hy n obj a1 a2 a3
 have wrote:∀(φ':Ph) (h':aw) (w':World),x.k=K→st[K+1]? =some h'→OK E φ' h' w'→Fr φ hK w φ' h' w'→
  ∃MH,hs[K+1]? =some MH∧OK E φ' MH w'∧Fr φ₀ s.h w₀ φ' MH w'∧
  ∀y∈tr,∀n obj,y.kind= .rV n obj→y.i ∉ d→y.i≠x.i→y.k≤K+1→φ' n=none∧s.h.nx≤n∧∀hK,hs[K+1]? =some hK→n<hK.nx:=by
  intro φ' h' w' FI ZY rz JW
  have j0:K+1<hs.length:=by rw[←r.trace.ZW];exact (List.getElem?_eq_some_iff.1 ZY).1
  have hhs:hs[K+1]? =some hs[K+1]:=by simp [j0]
  have g:=r.trace.grown (K+1) h' _ ZY hhs
  obtain ⟨Bm,Z0⟩:=rz.grown g
  have U_:=(fr.trans JW).trans Z0
  refine ⟨_,hhs,Bm,U_,fun y hy n obj a1 a2 a3 a4=>?_⟩
  have hnx:∀MH,hs[K+1]? =some MH→MH=hs[K+1]:=fun MH e=>by rw[hhs] at e;simpa using e.symm
  rcases Nat.lt_or_ge K y.k with h | h
  ·
   have hyk:y.k=K+1:=by omega
   obtain ⟨q,hq⟩:=List.getElem?_of_mem hy
   obtain ⟨_,_,_,hky,oy,hoy,_,_⟩:=r.at hq
   obtain ⟨_,_,oy',agl,agm,agn,Di,Dj,Ku⟩:=r.trace.step q y hq
   rw[←hky,hyk] at Di Dj
   rw[ZY] at Dj;simp at Dj;subst Dj
   unfold wv at Ku
   rw[a1] at Ku
   obtain ⟨_,_,_,hn1,Kv⟩:=Ku
   refine ⟨?_,?_,fun MH e=>?_⟩
   · cases hφ:φ' n with
     | none=>rfl
     | some l=>have:=rz.Ao n l hφ;omega
   · have:=(fr.trans JW).nx;omega
   · rw[e] at Di;simp at Di;subst Di;exact Kv
  · obtain ⟨b1,b2,b3⟩:=inv.gV y hy n obj a1 a2 h
    have hn:=b3 hK Yb
    refine ⟨by rw[JW.old n hn];exact b1,b2,fun MH e=>?_⟩
    have:=JW.nx;have:=g.nx
    rw[hnx _ e];omega
 have still:fj E o.op=false→iY E ops x hK=true:=fun he=>by
  obtain ⟨w1,w2⟩:=inv.QL hd qD
  exact r.still x ZO K hK (by rw[←Ya he];exact w1) w2 Yb
 have hgd:ops.getD x.i default=o:=by simp [Array.getD_eq_getD_getElem?,ho]
 have skip:cz ops x.ts o=false→step E.P (lone (b.atR a (.inRegion ops (x.i::rest)::k)) (cur Ks s.rc) w)= .next (lone (b.atR (a.put o.dst undef) (.inRegion ops rest::k)) (cur Ks s.rc) w):=fun hw=>by
  have:=stepR_op_skip (P:=E.P) (b:=b) (a:=a) (k:=k) (cs:=cur Ks s.rc) (w:=w) (ops:=ops) (i:=x.i) (rest:=rest) (by rw[ho];simp;rw[U9];exact hw)
  rw[this,ho];rfl
 unfold wv at ir
 split at ir
 ·
  obtain ⟨hw,hv,hn⟩:=ir
  have hvr:VR φ x.v undef:=by rw[hv];exact .undef φ
  by_cases he:fj E o.op=true
  · have FI:=inv.Bl r (sb he) hd qD
    have ue:=hn he
    rw[FI] at ue zA
    rw[Yb] at zA;simp at zA;subst zA
    obtain ⟨MH,q1,q2,q3,q4⟩:=wrote φ hK w FI ue ok (Fr.refl _ _ _)
    exact ⟨K+1,φ,_,w,inv.snoc r hp ho hd qD (Ph.le_refl φ) hvr (.inr ⟨he,FI,sb he,rfl⟩) ⟨MH,q1,q2,q3⟩ q4,.one (skip hw)⟩
  · have JU:fj E o.op=false:=by simpa using he
    exact ⟨K,φ,_,w,inv.snoc r hp ho hd qD (Ph.le_refl φ) hvr (.inl ⟨JU,rfl⟩) inv.ok same,.one (skip hw)⟩
 ·
  obtain ⟨he,hw,hpu⟩:=ir
  rw[←HL VF] at hpu
  have oW:∀c,o.op≠ .defer c:=fun c e=>by rw[e] at hpu;simp [bF] at hpu
  obtain ⟨v',hv,hr⟩:=zu hE.ext ok.gl inv.ts hpu
  exact ⟨K,φ,_,w,inv.snoc r hp ho hd qD (Ph.le_refl φ) hv (.inl ⟨he,rfl⟩) inv.ok same,.one (mq (qA fY (.inr oW) _) ho (U9.trans hw) (hr w))⟩
 ·
  rename_i wx
  obtain ⟨he,hw⟩:=ir
  have rO:=still he
  unfold iY at rO
  rw[wx] at rO
  simp only[hgd] at rO
  cases hre:dS E x.ts hK o.op with
  | none=>rw[hre] at rO;simp at rO
  | some v1=>
    rw[hre] at rO
    have hv1:=AV.wq _ _ _ rO
    subst hv1
    rw[←HM VF] at hre
    have oW:∀c,o.op≠ .defer c:=fun c e=>by rw[e] at hre;simp [dS] at hre
    obtain ⟨v',hv,hr⟩:=zy ok.gl ok inv.ts hre
    exact ⟨K,φ,_,w,inv.snoc r hp ho hd qD (Ph.le_refl φ) hv (.inl ⟨he,rfl⟩) inv.ok same,.one (mq (qA fY (.inr oW) _) ho (U9.trans hw) (hr w rfl))⟩
 ·
  rename_i n obj wx
  obtain ⟨he,hw,⟨mk,hal,hxv⟩,_,_⟩:=ir
  have rO:=still he
  unfold iY at rO
  rw[wx] at rO
  simp only at rO
  cases hge:hK.get n with
  | none=>rw[hge] at rO;simp at rO
  | some o1=>
    rw[hge] at rO
    have ho1:=aR.wq rO
    subst ho1
    obtain ⟨w1,_⟩:=inv.QL hd qD
    obtain ⟨E_,ago,agp⟩:=inv.gV x ZO n o1 wx hd (by rw[←Ya he];exact w1)
    rw[←FD VF] at hal
    have oW:∀c,o.op≠ .defer c:=fun c e=>by rw[e] at hal;simp [et] at hal
    obtain ⟨O,mk',HK,hr⟩:=we ok.gl inv.ts hal
    have hle:φ.le (φ.add n ⟨w.heap.size,0,0⟩):=fun j m hm=>by
     unfold Ph.add;split
     · rename_i e;subst e;rw[E_] at hm;simp at hm
     · exact hm
    obtain ⟨Bm,_⟩:=ok.place hge E_ (agp hK Yb) (HK.obj _ w.heap.size hle)
    have hv:=HK.val (φ.add n ⟨w.heap.size,0,0⟩) n w.heap.size hle (by simp [Ph.add])
    rw[←hxv] at hv
    refine ⟨K,_,_,_,inv.snoc r hp ho hd qD hle hv (.inl ⟨he,rfl⟩) ⟨hK,Yb,Bm,fr.place ago E_ O⟩ (fun y hy m q a1 a2 a3 a4=>?_),.one (mq (qA fY (.inr oW) _) ho (U9.trans hw) (hr w))⟩
    obtain ⟨b1,b2,b3⟩:=inv.gV y hy m q a1 a2 a4
    refine ⟨?_,b2,b3⟩
    have eu:m≠n:=fun e=>by subst e;exact a3 (r.ids y x hy ZO m q o1 a1 wx)
    simp [Ph.add,eu,b1]
 ·
  rename_i h' wx
  obtain ⟨he,hw,_,ue⟩:=ir
  have QN:=DX x o _ h' ZO rfl ho zA wx
  have FI:=inv.Bl r (sb he) hd qD
  rw[FI] at ue zA
  rw[Yb] at zA;simp at zA;subst zA
  rw[←Bh VF] at QN
  obtain ⟨φ',w',v',hv,rz,JW,iR⟩:=Ot hE dp QN ho (rest:=rest) (k:=k) inv.ts ok (fY.mono fr.ext) (U9.trans hw)
  obtain ⟨MH,q1,q2,q3,q4⟩:=wrote φ' h' w' FI ue rz JW
  exact ⟨K+1,φ',_,w',inv.snoc r hp ho hd qD JW.ext hv (.inr ⟨he,FI,sb he,rfl⟩) ⟨MH,q1,q2,q3⟩ q4,iR⟩
end
end Go.Ab
end
section
namespace Go.Ab
variable {E:Env}
section
variable {call:bj} {ops:Array Oper} {pl:lL} {s s':St} {tr:List Step} {hs st:List aw}
structure FL (E:Env) (φ₀:Ph) (h₀:aw) (w₀:World) (vV:List Deferred) (b:Frame) (k:List Item) (cs:List Frame) (s':St) (m:Machine):Prop where
 is:∃φ' a' w',LR φ' s'.ts a'.tmps.toList∧a'.defers=vV∧OK E φ' s'.h w'∧Fr φ₀ h₀ w₀ φ' s'.h w'∧Steps E.P m (lone (b.atR a' k) cs w')
theorem HR (r:FK E call ops pl s s' tr hs st) {φ₀ φ:Ph} {w₀ w:World} {vV:List Deferred} {d:List Nat} {bX:Array Bool} {K:Nat} {a:Act} (inv:Inv E ops pl s tr hs st φ₀ w₀ vV d bX K φ a w)
 (HS:∀i,i<ops.size→i∈d) (b:Frame) (k:List Item) (cs:List Frame):FL E φ₀ s.h w₀ vV b k cs s' (lone (b.atR a (.inRegion ops []::k)) cs w):=by
 have oW:(tr.map (·.i)).Nodup:=by rw[r.trace.is];exact r.nodup
 obtain ⟨f1,f2,f3⟩:=iu r.rG.order
 have hK:K=pl.bP.length:=by
  have:=inv.Kle
  rcases Nat.lt_or_ge K pl.bP.length with h | h
  · exfalso
    have hq:pl.bP[K]? =some pl.bP[K]:=by simp [h]
    have hm:pl.bP[K]∈pl.bP:=List.getElem_mem h
    generalize hx:pl.bP[K]=ee at hm hq
    rw[r.rG.bP,DV] at hm
    obtain ⟨o,ho,_⟩:=hm
    have j0:ee<ops.size:=by have:=(List.getElem?_eq_some_iff.1 ho).1;simpa using this
    have:=(inv.bP K _ hq).1 (HS _ j0)
    omega
  · omega
 obtain ⟨MH,q1,q2,q3⟩:=inv.ok
 have HU:=r.trace.last
 have agq:pT E ops pl.order=K:=by omega
 rw[agq,q1] at HU
 simp at HU;subst HU
 have QK:s'.ts=oX ops (valOf tr) s.ts d:=by
  rw[r.trace.ts]
  have h1:=FJ ops oW s.ts tr.length
  rw[List.take_length,r.trace.is,List.take_of_length_le (by rw[←r.trace.is];simp)] at h1
  rw[h1]
  refine List.ext_getElem? (fun x=>?_)
  refine ve s.ts (fun j j' e e'=>wz r.rG e e') (fun j hj=>?_)
  have P3:j<ops.size:=by
   unfold gI at hj
   cases ho:ops[j]? with
   | none=>rw[ho] at hj;simp at hj
   | some o=>exact (Array.getElem?_eq_some_iff.1 ho).1
  exact ⟨fun _=>HS j P3,fun _=>(f2 j P3).resolve_left (by simp)⟩
 exact ⟨φ,a,w,by rw[QK];exact inv.ts,inv.ds,q2,q3,.one stepR_region_end⟩
theorem Bn {φ₀ φ:Ph} {w₀ w:World} {vV:List Deferred} {d:List Nat} {bX:Array Bool} {K:Nat} {a:Act} (r:FK E call ops pl s s' tr hs st) (inv:Inv E ops pl s tr hs st φ₀ w₀ vV d bX K φ a w)
 {i:Nat} (h:i∈Region.ready .any ops bX):i<ops.size∧i ∉ d∧∀j,dD pl.an i j=true→j∈d:=by
 obtain ⟨h1,o,ho,h2⟩:=mem_ready.1 h
 have hi:i<ops.size:=(Array.getElem?_eq_some_iff.1 ho).1
 have hl:=inv.bX i hi
 refine ⟨hi,fun hd=>?_,fun j hj=>?_⟩
 · simp [hl,hd,Array.getD_eq_getD_getElem?] at h1
 · obtain ⟨e,he,hej⟩:=r.rG.closed i o j ho hj
   have hed:e∈d:=by
    unfold kl at he
    simp only[List.mem_map,List.mem_filter] at he
    obtain ⟨ed,⟨hm,hb⟩,rfl⟩:=he
    have h3:=h2 ed (by simpa using hm) hb
    have agr:ed.on<ops.size:=by
     have:=(r.rG.direct i o ed.on ho (by unfold kl;simp only[List.mem_map,List.mem_filter];exact ⟨ed,⟨hm,hb⟩,rfl⟩)).1
     omega
    simpa [inv.bX _ agr,Array.getD_eq_getD_getElem?] using h3
   rcases hej with rfl | hej
   · exact hed
   · exact inv.closed e hed j hej
theorem yz {φ₀ φ:Ph} {w₀ w:World} {vV:List Deferred} {d:List Nat} {bX:Array Bool} {K:Nat} {a:Act} (r:FK E call ops pl s s' tr hs st) (inv:Inv E ops pl s tr hs st φ₀ w₀ vV d bX K φ a w)
 (h:Region.ready .any ops bX=[]):∀(n i:Nat),i<n→i<ops.size→i∈d
 | 0,i,hn,_=>by omega
 | n+1,i,hn,hi=>by
   have ih:=yz r inv h n
   by_cases hd:i∈d
   · exact hd
   · exfalso
     have ho:ops[i]? =some ops[i]:=by simp [hi]
     have:i∈Region.ready .any ops bX:=by
      refine mem_ready.2 ⟨by simp [inv.bX i hi,hd,Array.getD_eq_getD_getElem?],ops[i],ho,fun e he hb=>?_⟩
      have hm:e.on∈kl ops[i]:=by
       unfold kl;simp only[List.mem_map,List.mem_filter];exact ⟨e,⟨by simpa using he,hb⟩,rfl⟩
      have j0:=(r.rG.direct i _ e.on ho hm).1
      have:=ih e.on (by omega) (by omega)
      simp [inv.bX e.on (by omega),this,Array.getD_eq_getD_getElem?]
     rw[h] at this;simp at this
theorem FK.real (r:FK E call ops pl s s' tr hs st) (x:Step) (o:Oper) (hk h':aw) (hx:x∈tr) (ho:ops[x.i]? =some o) (hh:hs[x.k]? =some hk) (yu:x.kind= .ub h'):dm E call x.ts hk s.rc o= .val x.v h':=by
 obtain ⟨p,hp⟩:=List.getElem?_of_mem hx
 obtain ⟨_,_,_,hk0,_⟩:=r.at hp
 obtain ⟨_,_,o',hk1,sk1,HQ,zA,hsk,ir⟩:=r.trace.step p x hp
 rw[ho] at HQ;simp at HQ;subst HQ
 rw[←hk0,hh] at zA;simp at zA;subst zA
 unfold wv at ir;rw[yu] at ir;exact ir.2.2.1
theorem HV (hE:j5 E) (dp:hF E call) (r:FK E call ops pl s s' tr hs st) {φ₀:Ph} {w₀:World} {vV:List Deferred} {b:Frame} {k:List Item} {Ks:Bool→List Frame} (fY:mV φ₀ b Ks s.rc):
 ∀(fuel t:Nat) {φ:Ph} {w:World} {d:List Nat} {bX:Array Bool} {K:Nat} {a:Act} (_:Inv E ops pl s tr hs st φ₀ w₀ vV d bX K φ a w) (_:ops.size≤d.length+fuel),
  FL E φ₀ s.h w₀ vV b k (cur Ks s.rc) s' (lone (b.atR a (.inRegion ops (Region.linearise.go .any ops fuel t bX [])::k)) (cur Ks s.rc) w)
 | 0,t,φ,w,d,bX,K,a,inv,hf=>by
   simp only[Region.linearise.go,List.reverse_nil]
   refine HR r inv (fun i hi=>?_) b k _
   by_cases hd:i∈d
   · exact hd
   · have:=Bi ops.size (i::d) (List.nodup_cons.2 ⟨hd,inv.nd⟩) (fun x hx=>by
      simp at hx;rcases hx with rfl | hx
      · exact hi
      · exact inv.lt x hx)
     simp at this;omega
 | fuel+1,t,φ,w,d,bX,K,a,inv,hf=>by
   simp only[Region.linearise.go]
   change FL E φ₀ s.h w₀ vV b k (cur Ks s.rc) s' (lone (b.atR a (.inRegion ops (match (Region.ready .any ops bX)[t%(Region.ready .any ops bX).length]? with
    | some i=>Region.linearise.go .any ops fuel (t/(Region.ready .any ops bX).length) (bX.setIfInBounds i true) [i]
    | none=> [].reverse)::k)) (cur Ks s.rc) w)
   cases hi:(Region.ready .any ops bX)[t%(Region.ready .any ops bX).length]? with
   | none=>
     have Fo:Region.ready .any ops bX=[]:=by
      cases hr:Region.ready .any ops bX with
      | nil=>rfl
      | cons x xs=>
        rw[hr] at hi
        have j0:t%(x::xs).length<(x::xs).length:=Nat.mod_lt _ (by simp)
        simp at hi
        simp at j0
        omega
     exact HR r inv (fun i hi=>yz r inv Fo _ i (Nat.lt_succ_self i) hi) b k _
   | some i=>
     simp only[]
     rw[linearise_go_acc,List.reverse_singleton,List.singleton_append]
     obtain ⟨h1,h2,h3⟩:=Bn r inv (List.mem_of_getElem? hi)
     obtain ⟨K',φ',a',w',Z1,ir⟩:=inv.MG hE dp r fY (b:=b) (k:=k) h1 h2 h3 (fun x o hk h' hx _=>r.real x o hk h' hx) (Region.linearise.go .any ops fuel (t/(Region.ready .any ops bX).length) (bX.setIfInBounds i true) [])
     obtain ⟨φ2,a2,w2,x1,x2,x3,x4,x5⟩:=(HV hE dp r fY fuel (t/(Region.ready .any ops bX).length) Z1 (by simp;omega)).is
     exact ⟨φ2,a2,w2,x1,x2,x3,x4,Steps.trans ir x5⟩
structure FM (E:Env) (φ₀:Ph) (h₀:aw) (w₀:World) (vV:List Deferred) (b:Frame) (cs:List Frame) (v:AV) (s':St) (m:Machine):Prop where
 is:∃φ' a' w' v' todo,VR φ' v v'∧LR φ' s'.ts a'.tmps.toList∧a'.defers=vV∧OK E φ' s'.h w'∧Fr φ₀ h₀ w₀ φ' s'.h w'∧Steps E.P m (lone {b.atR a' todo with mode:= .panicking [{v:=v',recovered:=false}]} cs w')
theorem Ou (hE:j5 E) {call:bj} (dp:hF E call) {ts:List AV} {h h':aw} {rc:RC} {o:Oper} {c:Call} (hoc:o.op= .call c) {v:AV} (sb:dm E call ts h rc o= .panic v h') {i:Nat} {rest:List Nat} (ho:ops[i]? =some o)
 {φ:Ph} {a:Act} {w:World} {b:Frame} {k:List Item} {K:Bool→List Frame} (QK:LR φ ts a.tmps.toList) (ok:OK E φ h w) (fY:mV φ b K rc) (hw:Region.wanted o (yielded ops a.tmps)=true):
 ∃φ' w' v' todo,VR φ' v v'∧OK E φ' h' w'∧Fr φ h w φ' h' w'∧Steps E.P (lone (b.atR a (.inRegion ops (i::rest)::k)) (cur K rc) w) (lone {b.atR a todo with mode:= .panicking [{v:=v',recovered:=false}]} (cur K rc) w'):=by
 have yr:=vc hE dp (rc:=rc) (o:=o) QK ok
 have oW:rc.nW=false∨∀c,o.op≠ .defer c:= .inr (fun c e=>by rw[hoc] at e;simp at e)
 have kt:=qA fY oW a.eval
 rw[sb] at yr
 cases yr with
 | VB v h' F args all hr hf hl run=>
   obtain ⟨n,start,hp,ir⟩:=hr φ w all ok hf hl
   obtain ⟨φ',w',v',hv,rz,fr,iR⟩:=ir (b.atR a (.inRegion ops (i::rest)::k)) (cur K rc)
   rw[Frame.raise_atR] at iR
   exact ⟨φ',w',v',.inRegion ops (i::rest)::k,hv,rz,fr,.head (go_enter kt ho hw hp (run n start hp)) iR⟩
 | panic v v' hv run=>exact ⟨φ,w,v',_,hv,ok,Fr.refl _ _ _,.one (QF kt ho hw run)⟩
theorem DY (hE:j5 E) {DW:bj} (dp:hF E DW) (r:FK E call ops pl s s' tr hs st) {xl:Step} (hxl:xl∈tr) {ol:Oper} (U7:ops[xl.i]? =some ol) {c:Call} (hoc:ol.op= .call c)
 (HS:∀j,j<ops.size→j≠xl.i→dD pl.an xl.i j=true) (Yc:fj E ol.op=true) (hwl:cz ops xl.ts ol=true) {hk:aw} (zA:hs[xl.k]? =some hk) {v:AV} {h':aw} (QO:dm E DW xl.ts hk s.rc ol= .panic v h')
 (DX:∀(x:Step) (o:Oper) (hk h':aw),x∈tr→x.i≠xl.i→ops[x.i]? =some o→hs[x.k]? =some hk→x.kind= .ub h'→dm E DW x.ts hk s.rc o= .val x.v h')
 {s2:St} (h2:s2.h=h') (acR:s2.ts=xl.ts) {φ₀:Ph} {w₀:World} {vV:List Deferred} {b:Frame} {k:List Item} {Ks:Bool→List Frame} (fY:mV φ₀ b Ks s.rc):
 ∀(fuel t:Nat) {φ:Ph} {w:World} {d:List Nat} {bX:Array Bool} {K:Nat} {a:Act} (_:Inv E ops pl s tr hs st φ₀ w₀ vV d bX K φ a w) (_:ops.size≤d.length+fuel) (_:xl.i ∉ d),
  FM E φ₀ s.h w₀ vV b (cur Ks s.rc) v s2 (lone (b.atR a (.inRegion ops (Region.linearise.go .any ops fuel t bX [])::k)) (cur Ks s.rc) w)
 | 0,t,φ,w,d,bX,K,a,inv,hf,oW=>by
   exfalso
   have hi:xl.i<ops.size:=(Array.getElem?_eq_some_iff.1 U7).1
   have:=Bi ops.size (xl.i::d) (List.nodup_cons.2 ⟨oW,inv.nd⟩) (fun x hx=>by
    simp at hx;rcases hx with rfl | hx
    · exact hi
    · exact inv.lt x hx)
   simp at this;omega
 | fuel+1,t,φ,w,d,bX,K,a,inv,hf,oW=>by
   have hil:xl.i<ops.size:=(Array.getElem?_eq_some_iff.1 U7).1
   simp only[Region.linearise.go]
   change FM E φ₀ s.h w₀ vV b (cur Ks s.rc) v s2 (lone (b.atR a (.inRegion ops (match (Region.ready .any ops bX)[t%(Region.ready .any ops bX).length]? with
    | some i=>Region.linearise.go .any ops fuel (t/(Region.ready .any ops bX).length) (bX.setIfInBounds i true) [i]
    | none=> [].reverse)::k)) (cur Ks s.rc) w)
   cases hi:(Region.ready .any ops bX)[t%(Region.ready .any ops bX).length]? with
   | none=>
     have Fo:Region.ready .any ops bX=[]:=by
      cases hr:Region.ready .any ops bX with
      | nil=>rfl
      | cons x xs=>
        rw[hr] at hi
        have j0:t%(x::xs).length<(x::xs).length:=Nat.mod_lt _ (by simp)
        simp at hi
        simp at j0
        omega
     exact absurd (yz r inv Fo _ xl.i (Nat.lt_succ_self _) hil) oW
   | some i=>
     simp only[]
     rw[linearise_go_acc,List.reverse_singleton,List.singleton_append]
     obtain ⟨h1,h2',h3⟩:=Bn r inv (List.mem_of_getElem? hi)
     by_cases hii:i=xl.i
     · subst hii
       obtain ⟨p,hp⟩:=List.getElem?_of_mem hxl
       obtain ⟨_,q2,q3,_,o',HQ,q4,_⟩:=r.at hp
       rw[U7] at HQ;simp at HQ;subst HQ
       obtain ⟨hag,QM⟩:=agree r hp U7 h2' inv.closed h3
       obtain ⟨hK,Yb,ok,fr⟩:=inv.ok
       have FI:=inv.Bl r (q4 Yc) h2' h3
       rw[FI,Yb] at zA;simp at zA;subst zA
       rw[Bh hag] at QO
       have U9:Region.wanted ol (yielded ops a.tmps)=true:=by rw[vb inv.ts ol,QM];exact hwl
       obtain ⟨φ',w',v',todo,hv,rz,JW,ir⟩:=Ou hE dp hoc QO U7 (rest:=Region.linearise.go .any ops fuel (t/(Region.ready .any ops bX).length) (bX.setIfInBounds xl.i true) []) (k:=k) inv.ts ok (fY.mono fr.ext) U9
       have ags:(tr.map (·.i)).Nodup:=by rw[r.trace.is];exact r.nodup
       have QK:xl.ts=oX ops (valOf tr) s.ts d:=by
        rw[(r.trace.step p xl hp).1,FJ ops ags,r.trace.is]
        refine List.ext_getElem? (fun x=>ve s.ts (fun j j' e e'=>wz r.rG e e') (fun j hj=>?_))
        have P3:j<ops.size:=by
         unfold gI at hj
         cases ho:ops[j]? with
         | none=>rw[ho] at hj;simp at hj
         | some o=>exact (Array.getElem?_eq_some_iff.1 ho).1
        by_cases hji:j=xl.i
        · subst hji;exact ⟨fun h=>absurd h q2,fun h=>absurd h h2'⟩
        · exact ⟨fun _=>h3 j (HS j P3 hji),fun _=>q3 j (HS j P3 hji)⟩
       exact ⟨φ',a,w',v',todo,hv,by rw[acR,QK];exact inv.ts.mono JW.ext,inv.ds,by rw[h2];exact rz,by rw[h2];exact fr.trans JW,ir⟩
     · obtain ⟨K',φ',a',w',Z1,ir⟩:=inv.MG hE dp r fY (b:=b) (k:=k) h1 h2' h3 (fun x o hk h' hx Oo=>DX x o hk h' hx (by rw[Oo];exact hii)) (Region.linearise.go .any ops fuel (t/(Region.ready .any ops bX).length) (bX.setIfInBounds i true) [])
       obtain ⟨φ2,a2,w2,v2,td,x0,x1,x2,x3,x4,x5⟩:=(DY hE dp r hxl U7 hoc HS Yc hwl zA QO DX h2 acR fY fuel (t/(Region.ready .any ops bX).length) Z1 (by simp;omega) (by simp;exact ⟨oW,fun h=>hii h.symm⟩)).is
       exact ⟨φ2,a2,w2,v2,td,x0,x1,x2,x3,x4,Steps.trans ir x5⟩
def Bo (call:bj):bj:=fun f as_ h=>match call f as_ h with
 | .panic _ h'=> .ret AV.undef h'
 | r=>r
theorem QP {call:bj} {ts:List AV} {h h':aw} {rc:RC} {o:Oper} {v:AV} (e:dm E call ts h rc o= .val v h'):dm E (Bo call) ts h rc o= .val v h':=by
 obtain ⟨dst,op,ty,pos,after,guard⟩:=o
 cases op with
 | call c=>
   obtain ⟨dh,args,aT⟩:=c
   cases dh with
   | builtin b=>cases b<;>exact e
   | value f=>
     simp only[dm] at e ⊢
     split at e
     · split at e
       · exact e
       · split at e
         · rename_i hc
           simp only[Bo,hc];exact e
         · simp at e
         · simp at e
     · simp at e
   | invoke x name=>
     simp only[dm] at e ⊢
     split at e
     · split at e
       · split at e
         · rename_i hc
           simp only[Bo,hc];exact e
         · simp at e
         · simp at e
       · simp at e
     · simp at e
 | _=>exact e
theorem QR {call:bj} {ts:List AV} {h h':aw} {rc:RC} {dst:Option Tmp} {c:Call} {ty:TypeId} {pos:String} {after:Array Edge} {guard:Option (Nat×Bool)} {v:AV} (e:dm E call ts h rc ⟨dst,.call c,ty,pos,after,guard⟩= .panic v h'):
 dm E (Bo call) ts h rc ⟨dst,.call c,ty,pos,after,guard⟩= .val AV.undef h':=by
 obtain ⟨dh,args,aT⟩:=c
 cases dh with
 | builtin b=>
   cases b<;>simp only[dm] at e<;>(try (simp at e;done))<;>(split at e<;>(try (simp at e;done))<;>(try (split at e<;>simp at e)))
 | value f=>
   simp only[dm] at e ⊢
   split at e
   · split at e
     · split at e<;>simp at e
     · split at e
       · simp at e
       · rename_i hc
         simp at e;obtain ⟨rfl,rfl⟩:=e
         simp only[Bo,hc]
       · simp at e
   · simp at e
 | invoke x name=>
   simp only[dm] at e ⊢
   split at e
   · split at e
     · split at e
       · simp at e
       · rename_i hc
         simp at e;obtain ⟨rfl,rfl⟩:=e
         simp only[Bo,hc]
       · simp at e
     · simp at e
   · simp at e
theorem n9 {α:Type} {f:α→Option Nat}:∀{l:List α} (_:(l.filterMap f).Nodup) {x y:α} {n:Nat} (_:x∈l) (_:y∈l) (_:f x=some n) (_:f y=some n),x=y
 | [],_,x,y,n,hx,_,_,_=>by simp at hx
 | z::l,hn,x,y,n,hx,hy,fx,fy=>by
   cases hz:f z with
   | none=>
     rw[List.filterMap_cons_none hz] at hn
     have hx':x∈l:=by
      simp at hx;rcases hx with rfl | h
      · rw[hz] at fx;simp at fx
      · exact h
     have QC:y∈l:=by
      simp at hy;rcases hy with rfl | h
      · rw[hz] at fy;simp at fy
      · exact h
     exact n9 hn hx' QC fx fy
   | some m=>
     rw[List.filterMap_cons_some hz,List.nodup_cons] at hn
     simp at hx hy
     rcases hx with rfl | hx<;>rcases hy with rfl | hy
     · rfl
     · exfalso;rw[fx] at hz;simp at hz;subst hz;exact hn.1 (List.mem_filterMap.2 ⟨y,hy,fy⟩)
     · exfalso;rw[fy] at hz;simp at hz;subst hz;exact hn.1 (List.mem_filterMap.2 ⟨x,hx,fx⟩)
     · exact n9 hn.2 hx hy fx fy
theorem QS (Of:rU E ops=some pl) (hd:cR E call ops pl.order 0 s= .ok tr hs s') (hl:qq E ops pl tr hs=true):∃st,FK E call ops pl s s' tr hs st:=by
 obtain ⟨st,t⟩:=nZ hd
 unfold qq at hl
 simp only[Bool.and_eq_true] at hl
 refine ⟨st,HN Of,t,fun x hx K hk h1 h2 h3=>?_,fun x y hx hy n o q e1 e2=>?_⟩
 · have h4:=List.all_eq_true.1 (List.all_eq_true.1 hl.2 x hx) hk
   refine h4 ?_
   refine List.mem_of_getElem? (i:=K - x.k) ?_
   rw[List.getElem?_take,if_pos (by omega),List.getElem?_drop,show x.k+(K - x.k)=K by omega,h3]
 · have:=vd hl.1
   have:=n9 this hx hy (n:=n) (by simp [e1]) (by simp [e2])
   rw[this]
theorem vf {call DZ:bj} (hc:∀{ts:List AV} {h h':aw} {rc:RC} {o:Oper} {v:AV},dm E call ts h rc o= .val v h'→dm E DZ ts h rc o= .val v h') {i:Nat} {o:Oper} (ho:ops[i]? =some o) (he:fj E o.op=true):
 ∀(l:List Nat) (k:Nat) (s:St) {tr:List Step} {hs:List aw} {s1:St} {h':aw} (_:cR E call ops l k s= .ok tr hs s1) (_:cz ops s1.ts o=true) (_:dm E DZ s1.ts s1.h s1.rc o= .val AV.undef h'),
  cR E DZ ops (l++[i]) k s= .ok (tr++[⟨i,k+(hs.length - 1),s1.ts,AV.undef,.ub h'⟩]) (hs++[h']) {s1 with ts:=dJ s1.ts o.dst AV.undef,h:=h'}
 | [],k,s,tr,hs,s1,h',hd,hw,hv=>by
   simp [cR] at hd;obtain ⟨rfl,rfl,rfl⟩:=hd
   simp only[List.nil_append,cR,ho,he,if_true,hw,hv]
   simp [jv.bound,jv.step]
 | j::l,k,s,tr,hs,s1,h',hd,hw,hv=>by
   rw[List.cons_append]
   simp only[cR] at hd ⊢
   cases X':ops[j]? with
   | none=>rw[X'] at hd;simp at hd
   | some oj=>
   rw[X'] at hd
   simp only at hd ⊢
   have wr:∀(x:Step) (s0:St),((cR E call ops l (k+1) s0).bound s.h).step x= .ok tr hs s1→((cR E DZ ops (l++[i]) (k+1) s0).bound s.h).step x= .ok (tr++[⟨i,k+(hs.length - 1),s1.ts,AV.undef,.ub h'⟩]) (hs++[h']) {s1 with ts:=dJ s1.ts o.dst AV.undef,h:=h'}:=by
    intro x s0 hd
    cases hr:cR E call ops l (k+1) s0 with
    | fail why q=>rw[hr] at hd;simp [jv.bound,jv.step] at hd
    | ok MF rO s2=>
      rw[hr] at hd;simp [jv.bound,jv.step] at hd;obtain ⟨rfl,rfl,rfl⟩:=hd
      rw[vf hc ho he l (k+1) s0 hr hw hv]
      obtain ⟨_,t⟩:=nZ hr
      have:1≤rO.length:=by have:=t.len;omega
      simp [jv.bound,jv.step];omega
   have pl:∀(x:Step) (s0:St),(cR E call ops l k s0).step x= .ok tr hs s1→(cR E DZ ops (l++[i]) k s0).step x= .ok (tr++[⟨i,k+(hs.length - 1),s1.ts,AV.undef,.ub h'⟩]) (hs++[h']) {s1 with ts:=dJ s1.ts o.dst AV.undef,h:=h'}:=by
    intro x s0 hd
    cases hr:cR E call ops l k s0 with
    | fail why q=>rw[hr] at hd;simp [jv.step] at hd
    | ok MF rO s2=>
      rw[hr] at hd;simp [jv.step] at hd;obtain ⟨rfl,rfl,rfl⟩:=hd
      rw[vf hc ho he l k s0 hr hw hv]
      simp [jv.step]
   split at hd
   · rename_i Z2
     rw[if_pos Z2]
     split at hd
     · rename_i As
       rw[if_pos As]
       split at hd
       · rename_i QN
         simp only[hc QN]
         exact wr _ _ hd
       · simp at hd
       · simp at hd
     · rename_i As
       rw[if_neg As]
       exact wr _ _ hd
   · rename_i Z2
     rw[if_neg Z2]
     split at hd
     · rename_i As
       rw[if_pos As]
       split at hd
       · rename_i hp
         try simp only[hp]
         exact pl _ _ hd
       · rename_i hp
         try simp only[hp]
         split at hd
         · rename_i hq
           try simp only[hq]
           exact pl _ _ hd
         · rename_i hq
           try simp only[hq]
           split at hd
           · rename_i hr
             try simp only[hr]
             split at hd
             · rename_i hn
               try simp only[hn]
               exact pl _ _ hd
             · simp at hd
           · simp at hd
     · rename_i As
       rw[if_neg As]
       exact pl _ _ hd
theorem yA {call:bj} {i:Nat} {o:Oper} (ho:ops[i]? =some o) (he:fj E o.op=true) {v:AV}:
 ∀(l:List Nat) (k:Nat) (s:St) {tr:List Step} {hs:List aw} {s1:St} {h':aw} (_:cR E call ops l k s= .ok tr hs s1) (_:cz ops s1.ts o=true) (_:dm E call s1.ts s1.h s1.rc o= .panic v h'),
  ∃why q,cR E call ops (l++[i]) k s= .fail why q
 | [],k,s,tr,hs,s1,h',hd,hw,hv=>by
   simp [cR] at hd;obtain ⟨rfl,rfl,rfl⟩:=hd
   simp only[List.nil_append,cR,ho,he,if_true,hw,hv]
   exact ⟨_,_,rfl⟩
 | j::l,k,s,tr,hs,s1,h',hd,hw,hv=>by
   rw[List.cons_append]
   simp only[cR] at hd ⊢
   cases X':ops[j]? with
   | none=>rw[X'] at hd;simp at hd
   | some oj=>
   rw[X'] at hd
   simp only at hd ⊢
   have wr:∀(x:Step) (s0:St),((cR E call ops l (k+1) s0).bound s.h).step x= .ok tr hs s1→∃why q,((cR E call ops (l++[i]) (k+1) s0).bound s.h).step x= .fail why q:=by
    intro x s0 hd
    cases hr:cR E call ops l (k+1) s0 with
    | fail why q=>rw[hr] at hd;simp [jv.bound,jv.step] at hd
    | ok MF rO s2=>
      rw[hr] at hd;simp [jv.bound,jv.step] at hd;obtain ⟨rfl,rfl,rfl⟩:=hd
      obtain ⟨why,q,e⟩:=yA ho he l (k+1) s0 hr hw hv
      rw[e];exact ⟨_,_,rfl⟩
   have pl:∀(x:Step) (s0:St),(cR E call ops l k s0).step x= .ok tr hs s1→∃why q,(cR E call ops (l++[i]) k s0).step x= .fail why q:=by
    intro x s0 hd
    cases hr:cR E call ops l k s0 with
    | fail why q=>rw[hr] at hd;simp [jv.step] at hd
    | ok MF rO s2=>
      rw[hr] at hd;simp [jv.step] at hd;obtain ⟨rfl,rfl,rfl⟩:=hd
      obtain ⟨why,q,e⟩:=yA ho he l k s0 hr hw hv
      rw[e];exact ⟨_,_,rfl⟩
   split at hd
   · rename_i Z2
     rw[if_pos Z2]
     split at hd
     · rename_i As
       rw[if_pos As]
       split at hd
       · rename_i QN
         try simp only[QN]
         exact wr _ _ hd
       · simp at hd
       · simp at hd
     · rename_i As
       rw[if_neg As]
       exact wr _ _ hd
   · rename_i Z2
     rw[if_neg Z2]
     split at hd
     · rename_i As
       rw[if_pos As]
       split at hd
       · rename_i hp
         try simp only[hp]
         exact pl _ _ hd
       · rename_i hp
         try simp only[hp]
         split at hd
         · rename_i hq
           try simp only[hq]
           exact pl _ _ hd
         · rename_i hq
           try simp only[hq]
           split at hd
           · rename_i hr
             try simp only[hr]
             split at hd
             · rename_i hn
               try simp only[hn]
               exact pl _ _ hd
             · simp at hd
           · simp at hd
     · rename_i As
       rw[if_neg As]
       exact pl _ _ hd
end
theorem Bp {call:bj} {ops:Array Oper} {pl:lL} {s s':St} {tr:List Step} {qw st:List aw} (r:FK E call ops pl s s' tr qw st)
 {φ:Ph} {a:Act} {w:World} (QK:LR φ s.ts a.tmps.toList) (ok:OK E φ s.h w):Inv E ops pl s tr qw st φ w a.defers [] (Array.replicate ops.size false) 0 φ a {w with drawn:=w.drawn+1}:=by
 have HW:OK E φ s.h {w with drawn:=w.drawn+1}:=⟨ok.Ao,ok.nx,ok.uW,ok.live,ok.inj⟩
 have fr1:Fr φ s.h w φ s.h {w with drawn:=w.drawn+1}:=⟨Ph.le_refl φ,fun _ _=>rfl,Nat.le_refl _,rfl,rfl,rfl,Nat.le_refl _,fun _ _ _=>rfl,fun i o l a b c=> .inr ⟨i,o,l,a,b,c,rfl⟩⟩
 have hlen:0<qw.length:=by have:=r.trace.len;omega
 have h0:qw[0]? =some qw[0]:=by simp [hlen]
 have g:=r.trace.grown 0 s.h _ r.trace.first h0
 obtain ⟨Bm,Z0⟩:=HW.grown g
 refine ⟨.nil,fun i hi=>by simp at hi,fun i hi=>by simp [hi],fun i hi=>by simp at hi,fun q e hq=>by simp,by omega,by simpa [oX] using QK,rfl,⟨_,h0,Bm,fr1.trans Z0⟩,fun x hx n obj hk _ hk0=>?_⟩
 obtain ⟨q,hq⟩:=List.getElem?_of_mem hx
 obtain ⟨_,_,_,hky,oy,hoy,_,_⟩:=r.at hq
 obtain ⟨_,_,oy',agl,agm,agn,Di,Dj,Ku⟩:=r.trace.step q x hq
 rw[←hky] at Di Dj
 have FI:x.k=0:=by omega
 rw[FI] at Di Dj
 rw[r.trace.first] at Dj;simp at Dj;subst Dj
 unfold wv at Ku
 rw[hk] at Ku
 obtain ⟨_,_,_,hn1,Kv⟩:=Ku
 refine ⟨?_,hn1,fun hK e=>?_⟩
 · cases hφ:φ n with
   | none=>rfl
   | some l=>have:=ok.Ao n l hφ;omega
 · rw[e] at Di;simp at Di;subst Di;exact Kv
theorem HX (hE:j5 E) (agt:E.P.follows .mixedOrders=true) {call:bj} (dp:hF E call) {ops:Array Oper} {s s':St} {e:h_} (h:vY E call ops s= .ok e s')
 {φ:Ph} {a:Act} {w:World} {b:Frame} {k:List Item} {K:Bool→List Frame} (hs:SR φ s.ts s.ds a) (ok:OK E φ s.h w) (fY:mV φ b K s.rc) (id:Nat):
 s'.rc=s.rc∧s'.ds=s.ds∧((e= .normal∧∃φ' a' w',LR φ' s'.ts a'.tmps.toList∧a'.defers=a.defers∧OK E φ' s'.h w'∧Fr φ s.h w φ' s'.h w'∧
  Steps E.P (lone (b.atR a (.code (.region id ops true)::k)) (cur K s.rc) w) (lone (b.atR a' k) (cur K s.rc) w'))∨
  ∃v,e= .panic v∧FM E φ s.h w a.defers b (cur K s.rc) v s' (lone (b.atR a (.code (.region id ops true)::k)) (cur K s.rc) w)):=by
 have acS:Region.schedule (E.P.follows .mixedOrders) ops (w.tape w.drawn (.order b.fn id))=Region.linearise.go .any ops ops.size (w.tape w.drawn (.order b.fn id)) (Array.replicate ops.size false) []:=by
  rw[agt];rfl
 unfold vY at h
 split at h
 · simp at h
 rename_i pl Of
 split at h
 · rename_i tr qw s1 hd
   split at h
   · rename_i hl
     simp at h;obtain ⟨rfl,rfl⟩:=h
     obtain ⟨st,r⟩:=QS Of hd hl
     refine ⟨r.trace.rc,r.trace.ds,.inl ⟨rfl,?_⟩⟩
     obtain ⟨φ',a',w',x1,x2,x3,x4,x5⟩:=(HV hE dp r fY (b:=b) (k:=k) ops.size (w.tape w.drawn (.order b.fn id)) (Bp r hs.ts ok) (by simp)).is
     refine ⟨φ',a',w',x1,x2,x3,x4,.head stepR_region_draw ?_⟩
     rw[acS]
     exact x5
   · simp at h
 · split at h
   · rename_i v s2 hp
     simp at h;obtain ⟨rfl,rfl⟩:=h
     unfold A3 at hp
     split at hp
     · simp at hp
     rename_i i front VG
     split at hp
     · rename_i tr qw s1 dst c ty pos after guard hd ho
       split at hp
       · rename_i Fu
         split at hp
         · rename_i v1 h1 QN
           split at hp
           · rename_i hl
             simp at hp;obtain ⟨rfl,rfl⟩:=hp
             simp only[Bool.and_eq_true,List.all_eq_true,List.mem_range,Bool.or_eq_true,beq_iff_eq] at Fu
             obtain ⟨⟨he,hw⟩,HS⟩:=Fu
             have QJ:pl.order=front.reverse++[i]:=by
              have:=congrArg List.reverse VG
              simpa using this
             have VH:=vf (DZ:=Bo call) (fun e=>QP e) ho he front.reverse 0 s hd hw (QR QN)
             rw[←QJ] at VH
             rw[Nat.zero_add] at VH
             obtain ⟨st,r⟩:=QS Of VH hl
             obtain ⟨st1,t1⟩:=nZ hd
             have acT:s1.rc=s.rc:=t1.rc
             refine ⟨acT,t1.ds,.inr ⟨_,rfl,?_⟩⟩
             have hlen:1≤qw.length:=by have:=t1.len;omega
             have HU:(qw++[h1])[qw.length - 1]? =some s1.h:=by
              rw[List.getElem?_append_left (by omega)]
              have:=t1.last
              rw[show qw.length - 1=pT E ops front.reverse by have:=t1.len;omega];exact this
             have DX:∀(x:Step) (o:Oper) (hk h':aw),x∈tr++[⟨i,qw.length - 1,s1.ts,AV.undef,.ub h1⟩]→x.i≠i→ops[x.i]? =some o→(qw++[h1])[x.k]? =some hk→x.kind= .ub h'→dm E call x.ts hk s.rc o= .val x.v h':=by
              intro x o hk h' hx Oo HQ zA yu
              have hx':x∈tr:=by
               simp at hx;rcases hx with h | h
               · exact h
               · exact absurd (by rw[h]) Oo
              obtain ⟨p,hp⟩:=List.getElem?_of_mem hx'
              obtain ⟨_,hk0,o',hk1,sk1,ho2,Z3,hsk,ir⟩:=t1.step p x hp
              rw[HQ] at ho2;simp at ho2;subst ho2
              rw[Nat.zero_add] at hk0
              rw[←hk0] at Z3
              have j0:x.k<qw.length:=(List.getElem?_eq_some_iff.1 Z3).1
              rw[List.getElem?_append_left j0,Z3] at zA
              simp at zA;subst zA
              unfold wv at ir;rw[yu] at ir;exact ir.2.2.1
             have agu:=(DY hE dp r (xl:=⟨i,qw.length - 1,s1.ts,AV.undef,.ub h1⟩) (by simp) (ol:=⟨dst,.call c,ty,pos,after,guard⟩) ho rfl (fun j hj eu=>(HS j hj).resolve_left eu) he hw HU (by rw[←acT];exact QN) DX
              (s2:={s1 with h:=h1}) rfl rfl fY (b:=b) (k:=k) ops.size (w.tape w.drawn (.order b.fn id)) (Bp r hs.ts ok) (by simp) (by simp)).is
             obtain ⟨φ',a',w',v',todo,x0,x1,x2,x3,x4,x5⟩:=agu
             refine ⟨φ',a',w',v',todo,x0,x1,x2,x3,x4,.head stepR_region_draw ?_⟩
             rw[acS]
             exact x5
           · simp at hp
         · simp at hp
       · simp at hp
     · simp at hp
   · simp at h
end Go.Ab
end
