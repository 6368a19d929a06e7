import Derived.Orders
import Derived.Test.YtfllahfbmaafcaaA2
set_option linter.unusedVariables false
set_option linter.unusedSimpArgs false
section
namespace Go.Ab
variable {E:Env}
def ou (E:Env) (ts jH:List AV) (op:Op):Prop:=∀x∈op.operands,eh E ts x=eh E jH x
theorem wC {α β:Type} {f g:α→Option β}:∀{l:List α} (_:∀x∈l,f x=g x),eE f l=eE g l
 | [],_=>rfl
 | x::xs,h=>by simp only[eE,h x (by simp),wC (l:=xs) (fun y hy=>h y (by simp [hy]))]
theorem pj {ts jH:List AV} {l:List Operand} (h:∀x∈l,eh E ts x=eh E jH x):fS E ts l=fS E jH l:=wC h
theorem qN {ts jH:List AV}:∀{l:List (Nat×Operand)} (_:∀x∈l.map (·.2),eh E ts x=eh E jH x),jY E ts l=jY E jH l
 | [],_=>rfl
 | (i,o)::l,h=>by simp only[jY,h o (by simp),qN (l:=l) (fun y hy=>h y (by simp at hy ⊢;exact .inr hy))]
theorem sB {ts jH:List AV} {o:Option Operand} (h:∀x∈o.toArray,eh E ts x=eh E jH x):mB E ts o=mB E jH o:=by
 cases o with
 | none=>rfl
 | some o=>simp only[mB,h o (by simp)]
theorem wD {ts jH:List AV} {c:Call} (h:∀x∈c.operands,eh E ts x=eh E jH x):callee E ts c=callee E jH c:=by
 unfold callee
 cases hc:c.callee with
 | value f=>
   have h1:eh E ts f=eh E jH f:=h f (by simp [Call.operands,hc])
   have h2:fS E ts c.args.toList=fS E jH c.args.toList:=pj (fun x hx=>h x (by simp [Call.operands,hc];exact .inr (by simpa using hx)))
   simp only[h1,h2]
 | invoke _ _=>rfl
 | builtin _=>rfl
theorem nm {ts jH:List AV} {c:Call} (h:∀x∈c.operands,eh E ts x=eh E jH x):fS E ts c.args.toList=fS E jH c.args.toList:=
 pj (fun x hx=>h x (by simp [Call.operands];exact .inr (by simpa using hx)))
theorem Iv {ts jH:List AV} {op:Op} (h:ou E ts jH op):bH E ts op=bH E jH op:=by
 cases op with
 | call c=>
   have hc:=nm (E:=E) (ts:=ts) (jH:=jH) (c:=c) h
   obtain ⟨callee,args,argTypes⟩:=c
   simp only at hc
   cases callee with
   | builtin b=>cases b<;>simp only[bH,hc]
   | value f=>cases f<;>simp only[bH,hc]
   | invoke r m=>simp only[bH]
 | build t ps=>
   have:jY E ts ps.toList=jY E jH ps.toList:=qN (fun x hx=>h x (by simpa [Op.operands] using hx))
   simp only[bH,this]
 | makeFunc fn first captured=>
   cases fn with
   | func f=>
     have h1:fS E ts first.toList=fS E jH first.toList:=pj (fun x hx=>h x (by simp [Op.operands];exact .inl (by simpa using hx)))
     have h2:fS E ts captured.toList=fS E jH captured.toList:=pj (fun x hx=>h x (by simp [Op.operands];exact .inr (by simpa using hx)))
     simp only[bH,h1,h2]
   | _=>simp only[bH]
 | slice t x lo hi mx=>
   have h0:eh E ts x=eh E jH x:=h x (by simp [Op.operands])
   have h1:mB E ts lo=mB E jH lo:=sB (fun y hy=>h y (by simp [Op.operands] at hy ⊢;exact .inr (.inl hy)))
   have h2:mB E ts hi=mB E jH hi:=sB (fun y hy=>h y (by simp [Op.operands] at hy ⊢;exact .inr (.inr (.inl hy))))
   have h3:mB E ts mx=mB E jH mx:=sB (fun y hy=>h y (by simp [Op.operands] at hy ⊢;exact .inr (.inr (.inr hy))))
   simp only[bH,h0,h1,h2,h3]
 | move x=>simp only[bH,h x (by simp [Op.operands])]
 | assign x=>simp only[bH,h x (by simp [Op.operands])]
 | pick c a b=>simp only[bH,h c (by simp [Op.operands]),h a (by simp [Op.operands]),h b (by simp [Op.operands])]
 | nilCheck x=>simp only[bH,h x (by simp [Op.operands])]
 | binOp o t x y u=>simp only[bH,h x (by simp [Op.operands]),h y (by simp [Op.operands])]
 | unOp o t x=>simp only[bH,h x (by simp [Op.operands])]
 | convert s d x=>simp only[bH,h x (by simp [Op.operands])]
 | makeInterface t x=>simp only[bH,h x (by simp [Op.operands])]
 | fieldAddr s x f=>simp only[bH,h x (by simp [Op.operands])]
 | field s x f=>simp only[bH,h x (by simp [Op.operands])]
 | indexAddr t x i=>simp only[bH,h x (by simp [Op.operands]),h i (by simp [Op.operands])]
 | index t x i=>simp only[bH,h x (by simp [Op.operands]),h i (by simp [Op.operands])]
 | extract x i=>simp only[bH,h x (by simp [Op.operands])]
 | typeAssert x a b ok=>simp only[bH,h x (by simp [Op.operands])]
 | _=>simp only[bH]
theorem Iw {ts jH:List AV} {op:Op} (h:ou E ts jH op) (hp:au):dP E ts hp op=dP E jH hp op:=by
 cases op with
 | call c=>
   have hc:=nm (E:=E) (ts:=ts) (jH:=jH) (c:=c) h
   obtain ⟨callee,args,argTypes⟩:=c
   simp only at hc
   cases callee with
   | builtin b=>cases b<;>simp only[dP,hc]
   | value f=>simp only[dP]
   | invoke r m=>simp only[dP]
 | load t a=>simp only[dP,h a (by simp [Op.operands])]
 | convert s d x=>simp only[dP,h x (by simp [Op.operands])]
 | lookup t x i ok=>simp only[dP,h x (by simp [Op.operands]),h i (by simp [Op.operands])]
 | _=>simp only[dP]
theorem F8 {ts jH:List AV} {op:Op} (h:ou E ts jH op):ei E ts op=ei E jH op:=by
 cases op with
 | buildSlice t n ps=>
   have:jY E ts ps.toList=jY E jH ps.toList:=qN (fun x hx=>h x (by simpa [Op.operands] using hx))
   simp only[ei,this]
 | box t x=>simp only[ei,h x (by simp [Op.operands])]
 | makeSlice t l c=>simp only[ei,h l (by simp [Op.operands]),h c (by simp [Op.operands])]
 | makeMap t r=>
   cases r with
   | none=>simp only[ei]
   | some r=>simp only[ei,h r (by simp [Op.operands])]
 | range t x=>simp only[ei,h x (by simp [Op.operands])]
 | _=>simp only[ei]
theorem BI {call:bw} {ts jH:List AV} {o:Oper} (h:ou E ts jH o.op) (hp:au) (rc:RC):dc E call ts hp rc o=dc E call jH hp rc o:=by
 obtain ⟨dst,op,ty,pos,after,guard⟩:=o
 simp only at h
 unfold dc
 cases op with
 | call c=>
   have hc:=nm (E:=E) (ts:=ts) (jH:=jH) (c:=c) h
   have DG:=wD (E:=E) (ts:=ts) (jH:=jH) (c:=c) h
   cases hcc:c.callee with
   | invoke r name=>
     have hr:eh E ts r=eh E jH r:=h r (by simp [Op.operands,Call.operands,hcc])
     simp only[hcc,hc,hr]
   | builtin b=>cases b<;>simp only[hcc,hc]
   | value f=>simp only[hcc,DG]
 | defer c=>simp only[wD (E:=E) (ts:=ts) (jH:=jH) (c:=c) h]
 | store t a x=>simp only[h a (by simp [Op.operands]),h x (by simp [Op.operands])]
 | mapUpdate t m k x=>simp only[h m (by simp [Op.operands]),h k (by simp [Op.operands]),h x (by simp [Op.operands])]
 | insert t m k x=>simp only[h m (by simp [Op.operands]),h k (by simp [Op.operands]),h x (by simp [Op.operands])]
 | mapEntry t m k=>simp only[h m (by simp [Op.operands]),h k (by simp [Op.operands])]
 | entryStore t m k x=>simp only[h m (by simp [Op.operands]),h k (by simp [Op.operands]),h x (by simp [Op.operands])]
 | convert s d x=>simp only[h x (by simp [Op.operands])]
 | next i s=>simp only[h i (by simp [Op.operands])]
 | panic x=>simp only[h x (by simp [Op.operands])]
 | _=>rfl
end Go.Ab
end
section
namespace Go.Ab
variable {E:Env}
theorem mF {α:Type} {f:α→α→Bool} (hf:∀x y,f x y=true→x=y):∀{l r:List α} (_:cL f l r=true),l=r
 | [],[],_=>rfl
 | [],_::_,h=>by simp [cL] at h
 | _::_,[],h=>by simp [cL] at h
 | x::xs,y::ys,h=>by
   simp only[cL,Bool.and_eq_true] at h
   rw[hf x y h.1,mF hf h.2]
theorem AV.wE:∀(n:Nat) (x y:AV),AV.same n x y=true→x=y
 | 0,_,_,h=>by simp [AV.same] at h
 | n+1,x,y,h=>by
   have ih:=AV.wE n
   cases x<;>cases y<;>simp [AV.same] at h<;>try rfl
   all_goals first
    | (subst h;rfl)
    | (obtain ⟨rfl,rfl⟩:=h;rfl)
    | (obtain ⟨⟨⟨⟨rfl,rfl⟩,rfl⟩,rfl⟩,rfl⟩:=h;rfl)
    | (obtain ⟨⟨rfl,h1⟩,h2⟩:=h;rw[mF ih h1,mF ih h2])
    | (obtain ⟨rfl,h1⟩:=h;rw[ih _ _ h1])
    | (rw[mF ih h])
theorem a_.wE {x y:a_} (h:a_.same x y=true):x=y:=by
 unfold a_.same at h
 split at h
 · simp only[Bool.and_eq_true,beq_iff_eq] at h
   obtain ⟨⟨h1,rfl⟩,rfl⟩:=h
   rw[mF (AV.wE 20) h1]
 · simp at h;subst h;rfl
 · simp at h;obtain ⟨rfl,rfl⟩:=h;rfl
 · simp at h
theorem vu:∀{l:List Nat} (_:nodup l=true),l.Nodup
 | [],_=> .nil
 | x::xs,h=>by
   simp only[nodup,Bool.and_eq_true,Bool.not_eq_true',List.contains_eq_mem,decide_eq_false_iff_not] at h
   exact List.nodup_cons.2 ⟨h.1,vu h.2⟩
theorem BJ:∀(n:Nat) (l:List Nat) (_:l.Nodup) (_:∀x∈l,x<n),l.length≤n
 | 0,l,_,h=>by
   cases l with
   | nil=>simp
   | cons x _=>have:=h x (by simp);omega
 | n+1,l,hn,h=>by
   have h1:=BJ n (l.erase n) (hn.erase n) (fun x hx=>by
    have h2:=h x (List.mem_of_mem_erase hx)
    have h3:x≠n:=(hn.mem_erase_iff.1 hx).1
    omega)
   rw[List.length_erase] at h1
   split at h1<;>omega
structure BK (E:Env) (ops:Array Oper) (pl:lY):Prop where
 lt:∀i o j,ops[i]? =some o→dC pl.an i j=true→j<i
 direct:∀i o e,ops[i]? =some o→e∈kt o→e<i∧dC pl.an i e=true
 closed:∀i o j,ops[i]? =some o→dC pl.an i j=true→∃e∈kt o,e=j∨dC pl.an e j=true
 guard:∀i o g want,ops[i]? =some o→o.guard=some (g,want)→dC pl.an i g=true
 slot:∀i j o p d,i≠j→ops[i]? =some o→ops[j]? =some p→p.dst=some d→o.dst≠some d∧(d∈tmpsOf o→dC pl.an i j=true∨dC pl.an j i=true)
 chain:∀q e f,pl.bR[q]? =some e→pl.bR[q+1]? =some f→dC pl.an f e=true
 bR:pl.bR=na E ops.toList
 nd:pl.bR.Nodup
 order:ku E ops pl.an pl.bR pl.order [] 0=true
theorem tU {ops:Array Oper} {i:Nat} {o:Oper} (h:ops[i]? =some o):(o,i)∈ops.toList.zipIdx:=by
 rw[List.mk_mem_zipIdx_iff_getElem?];simpa using h
theorem wF {an:List (List Nat)}:∀{l:List Nat} (_:tO an l=true) (q e f:Nat),l[q]? =some e→l[q+1]? =some f→dC an f e=true
 | [],_,q,e,f,h,_=>by simp at h
 | [x],_,q,e,f,h,h'=>by simp at h'
 | x::y::l,hc,q,e,f,h,h'=>by
   simp only[tO,Bool.and_eq_true] at hc
   cases q with
   | zero=>simp at h h';subst h;subst h';exact hc.1
   | succ q=>exact wF hc.2 q e f (by simpa using h) (by simpa using h')
theorem Ix {ops:Array Oper} {pl:lY} (h:sh E ops=some pl):BK E ops pl:=by
 unfold sh at h
 simp only at h
 split at h
 · rename_i hc
   simp at h;subst h
   simp only[Bool.and_eq_true] at hc
   obtain ⟨⟨⟨⟨he,hs⟩,hch⟩,o8⟩,Rr⟩:=hc
   have Kz:=List.all_eq_true.1 he
   have qI:=List.all_eq_true.1 hs
   refine ⟨fun i o j ho hj=>?_,fun i o e ho hm=>?_,fun i o j ho hj=>?_,fun i o g want ho hg=>?_,fun i j o p d dR ho hp hd=>?_,wF hch,rfl,vu o8,Rr⟩
   · have:=Kz _ (tU ho)
     simp only[Bool.and_eq_true] at this
     have h2:=List.all_eq_true.1 this.2 j (by simpa [dC] using hj)
     simp only[Bool.and_eq_true,decide_eq_true_eq] at h2
     exact h2.1
   · have:=Kz _ (tU ho)
     simp only[Bool.and_eq_true] at this
     have h2:=List.all_eq_true.1 this.1 e hm
     simpa using h2
   · have:=Kz _ (tU ho)
     simp only[Bool.and_eq_true] at this
     have h2:=List.all_eq_true.1 this.2 j (by simpa [dC] using hj)
     simp only[Bool.and_eq_true,List.any_eq_true,Bool.or_eq_true,beq_iff_eq] at h2
     exact h2.2
   · have:=qI _ (tU ho)
     simp only[Bool.and_eq_true,hg] at this
     exact this.1.1
   · have:=qI _ (tU ho)
     simp only[Bool.and_eq_true] at this
     have h2:=List.all_eq_true.1 this.2 _ (tU hp)
     simp only[Bool.or_eq_true,beq_iff_eq,dR,false_or,hd,Bool.and_eq_true,bne_iff_ne,Bool.not_eq_true',List.contains_eq_mem,decide_eq_false_iff_not] at h2
     exact ⟨h2.1,fun hm=>(h2.2.imp_left (fun x=>x.resolve_left (fun hn=>hn hm)))⟩
 · simp at h
def qz (E:Env) (ops:Array Oper) (l:List Nat):Nat:=(l.filter fun i=>fk E ((ops.getD i default).op)).length
theorem F9 {ops:Array Oper} {i:Nat} (l:List Nat) (h:fk E ((ops.getD i default).op)=true):qz E ops (i::l)=qz E ops l+1:=by
 unfold qz;rw[List.filter_cons_of_pos (p:=fun i=>fk E ((ops.getD i default).op)) h];rfl
theorem F_ {ops:Array Oper} {i:Nat} (l:List Nat) (h:¬fk E ((ops.getD i default).op)=true):qz E ops (i::l)=qz E ops l:=by
 unfold qz;rw[List.filter_cons_of_neg (p:=fun i=>fk E ((ops.getD i default).op)) h]
theorem iG {ops:Array Oper} {an:List (List Nat)} {bR:List Nat}:∀{l seen:List Nat} {k:Nat} (_:ku E ops an bR l seen k=true),
 (∀p i,l[p]? =some i→i<ops.size∧i ∉ seen∧i ∉ l.take p∧(∀j,dC an i j=true→j∈seen∨j∈l.take p)∧
  (fk E ((ops.getD i default).op)=true→bR[k+qz E ops (l.take p)]? =some i)∧(fk E ((ops.getD i default).op)=false→FL bR an i=k+qz E ops (l.take p)))∧
 (∀i,i<ops.size→i∈seen∨i∈l)∧k+qz E ops l=bR.length
 | [],seen,k,h=>by
   simp only[ku,Bool.and_eq_true,List.all_eq_true,List.mem_range,beq_iff_eq] at h
   exact ⟨fun p i hp=>by simp at hp,fun i hi=> .inl (by simpa using h.1 i hi),by simpa [qz] using h.2⟩
 | i::l,seen,k,h=>by
   simp only[ku,Bool.and_eq_true,decide_eq_true_eq,Bool.not_eq_true',List.contains_eq_mem,decide_eq_false_iff_not] at h
   obtain ⟨⟨⟨ke,hns⟩,aaw⟩,oi⟩:=h
   have Y6:∀j,dC an i j=true→j∈seen:=fun j hj=>by
    have:=List.all_eq_true.1 aaw j (by simpa [dC] using hj)
    simpa using this
   by_cases he:fk E ((ops.getD i default).op)=true
   · simp only[he,if_true,Bool.and_eq_true,beq_iff_eq] at oi
     obtain ⟨h1,h2,h3⟩:=iG oi.2
     refine ⟨fun p j hp=>?_,fun j hj=>?_,?_⟩
     · cases p with
       | zero=>simp at hp;subst hp;exact ⟨ke,hns,by simp,fun j hj=> .inl (Y6 j hj),fun _=>by simpa [qz] using oi.1,fun hf=>by rw[he] at hf;simp at hf⟩
       | succ p=>
         obtain ⟨a1,a2,a3,a4,a5,a6⟩:=h1 p j (by simpa using hp)
         have hc:k+qz E ops (List.take (p+1) (i::l))=k+1+qz E ops (l.take p):=by rw[List.take_succ_cons,F9 _ he];omega
         simp only[List.mem_cons,not_or] at a2
         refine ⟨a1,a2.2,by simp;exact ⟨a2.1,a3⟩,fun m hm=>?_,by rw[hc];exact a5,by rw[hc];exact a6⟩
         rcases a4 m hm with h4 | h4
         · simp at h4;rcases h4 with rfl | h4
           · exact .inr (by simp)
           · exact .inl h4
         · exact .inr (by simp [h4])
     · rcases h2 j hj with h4 | h4
       · simp at h4;rcases h4 with rfl | h4
         · exact .inr (by simp)
         · exact .inl h4
       · exact .inr (by simp [h4])
     · rw[F9 _ he];omega
   · simp only[he,Bool.false_eq_true,if_false,Bool.and_eq_true,beq_iff_eq] at oi
     obtain ⟨h1,h2,h3⟩:=iG oi.2
     refine ⟨fun p j hp=>?_,fun j hj=>?_,?_⟩
     · cases p with
       | zero=>simp at hp;subst hp;exact ⟨ke,hns,by simp,fun j hj=> .inl (Y6 j hj),fun hf=>absurd hf he,fun _=>by simpa [qz] using oi.1⟩
       | succ p=>
         obtain ⟨a1,a2,a3,a4,a5,a6⟩:=h1 p j (by simpa using hp)
         have hc:k+qz E ops (List.take (p+1) (i::l))=k+qz E ops (l.take p):=by rw[List.take_succ_cons,F_ _ he]
         simp only[List.mem_cons,not_or] at a2
         refine ⟨a1,a2.2,by simp;exact ⟨a2.1,a3⟩,fun m hm=>?_,by rw[hc];exact a5,by rw[hc];exact a6⟩
         rcases a4 m hm with h4 | h4
         · simp at h4;rcases h4 with rfl | h4
           · exact .inr (by simp)
           · exact .inl h4
         · exact .inr (by simp [h4])
     · rcases h2 j hj with h4 | h4
       · simp at h4;rcases h4 with rfl | h4
         · exact .inr (by simp)
         · exact .inl h4
       · exact .inr (by simp [h4])
     · rw[F_ _ he];exact h3
def gU (ops:Array Oper) (i:Nat):Option Tmp:=(ops[i]?).bind (·.dst)
def F' (ops:Array Oper) (ts:List AV) (l:List Step):List AV:=l.foldl (fun ts x=>dH ts (gU ops x.i) x.v) ts
def o9 (ops:Array Oper) (val:Nat→AV) (ts:List AV) (l:List Nat):List AV:=l.foldl (fun ts i=>dH ts (gU ops i) (val i)) ts
structure Grown (a b:au):Prop where
 nx:a.nx≤b.nx
 old:∀i,i<a.nx→b.get i=a.get i
theorem Grown.refl (a:au):Grown a a:=⟨Nat.le_refl _,fun _ _=>rfl⟩
theorem Grown.trans {a b c:au} (x:Grown a b) (y:Grown b c):Grown a c:=⟨Nat.le_trans x.nx y.nx,fun i hi=>(y.old i (Nat.lt_of_lt_of_le hi x.nx)).trans (x.old i hi)⟩
theorem Grown.new {a b:au} {o:a_} (h:a.new o=some b):Grown a b:=by
 obtain ⟨h1,h2,h3,h4⟩:=au.lj h
 exact ⟨by omega,fun i hi=>h4 i (by omega)⟩
theorem OK.grown {φ:Ph} {a b:au} {w:World} (g:Grown a b) (ok:OK E φ a w):OK E φ b w∧Fr φ a w φ b w:=by
 have hold:∀i l,φ i=some l→b.get i=a.get i:=fun i l hl=>g.old i (ok.AO i l hl)
 refine ⟨⟨fun i l hl=>Nat.lt_of_lt_of_le (ok.AO i l hl) g.nx,Nat.le_trans ok.nx g.nx,ok.vl,fun i o l hi hl=>ok.live i o l (hold i l hl▸hi) hl,
  fun i j o p l m hi hj hl hm hw hb=>ok.inj i j o p l m (hold i l hl▸hi) (hold j m hm▸hj) hl hm hw hb⟩,
  ⟨Ph.le_refl φ,fun _ _=>rfl,g.nx,rfl,rfl,rfl,Nat.le_refl _,fun _ _ _=>rfl,fun i o l hi hr hl=> .inr ⟨i,o,l,hold i l hl▸hi,hr,hl,rfl⟩⟩⟩
def wG (E:Env) (call:bw) (ops:Array Oper) (rc:RC) (x:Step) (o:Oper) (hk:au) (sk:au) (Y7:Option au):Prop:=
 match x.kind with
 | .off=>cE ops x.ts o=false∧x.v=AV.undef∧(fk E o.op=true→Y7=some hk)
 | .gO=>fk E o.op=false∧cE ops x.ts o=true∧bH E x.ts o.op=some x.v
 | .red=>fk E o.op=false∧cE ops x.ts o=true
 | .si n obj=>fk E o.op=false∧cE ops x.ts o=true∧(∃mk,ei E x.ts o.op=some (obj,mk)∧x.v=mk n)∧sk.nx≤n∧n<hk.nx
 | .uw h'=>fk E o.op=true∧cE ops x.ts o=true∧dc E call x.ts hk rc o= .val x.v h'∧Y7=some h'
structure WC (E:Env) (call:bw) (ops:Array Oper) (s:St) (k:Nat) (order:List Nat) (tr:List Step) (hs st:List au) (s':St):Prop where
 is:tr.map (·.i)=order
 ts:s'.ts=F' ops s.ts tr
 ds:s'.ds=s.ds
 rc:s'.rc=s.rc
 len:hs.length=qz E ops order+1
 aax:st.length=hs.length
 first:st[0]? =some s.h
 last:hs[qz E ops order]? =some s'.h
 grown:∀(j:Nat) (a b:au),st[j]? =some a→hs[j]? =some b→Grown a b
 step:∀(p:Nat) (x:Step),tr[p]? =some x→x.ts=F' ops s.ts (tr.take p)∧x.k=k+qz E ops (order.take p)∧
  ∃o hk sk,ops[x.i]? =some o∧hs[qz E ops (order.take p)]? =some hk∧st[qz E ops (order.take p)]? =some sk∧wG E call ops s.rc x o hk sk (st[qz E ops (order.take p)+1]?)
theorem tV (ops:Array Oper) (ts:List AV) (x:Step) (l:List Step):F' ops ts (x::l)=F' ops (dH ts (gU ops x.i) x.v) l:=rfl
theorem ov {call:bw} {ops:Array Oper}:∀{order:List Nat} {k:Nat} {s:St} {tr:List Step} {hs:List au} {s':St} (_:cQ E call ops order k s= .ok tr hs s'),
 ∃st,WC E call ops s k order tr hs st s'
 | [],k,s,tr,hs,s',h=>by
   simp [cQ] at h;obtain ⟨rfl,rfl,rfl⟩:=h
   exact ⟨[s.h],rfl,rfl,rfl,rfl,rfl,rfl,rfl,rfl,fun j a b ha hb=>by
    cases j with
    | zero=>simp at ha hb;subst ha;subst hb;exact Grown.refl _
    | succ j=>simp at ha,fun p x hp=>by simp at hp⟩
 | i::rest,k,s,tr,hs,s',h=>by
   simp only[cQ] at h
   cases ho:ops[i]? with
   | none=>rw[ho] at h;simp at h
   | some o=>
   rw[ho] at h
   simp only at h
   have hgd:ops.getD i default=o:=by simp [Array.getD_eq_getD_getElem?,ho]
   have WD:gU ops i=o.dst:=by simp [gU,ho]
   have writes:∀(x:Step) (s1:St),x.i=i→x.k=k→x.ts=s.ts→s1.ts=dH s.ts o.dst x.v→s1.ds=s.ds→s1.rc=s.rc→fk E o.op=true→
    wG E call ops s.rc x o s.h s.h (some s1.h)→((cQ E call ops rest (k+1) s1).bound s.h).step x= .ok tr hs s'→∃st,WC E call ops s k (i::rest) tr hs st s':=by
    intro x s1 OV Ga hxt h1 h2 h3 he iP hd
    cases hr:cQ E call ops rest (k+1) s1 with
    | fail why q=>rw[hr] at hd;simp [jL.bound,jL.step] at hd
    | ok Nc r_ s2=>
      rw[hr] at hd;simp [jL.bound,jL.step] at hd;obtain ⟨rfl,rfl,rfl⟩:=hd
      obtain ⟨st1,t⟩:=ov hr
      have hc:∀l,qz E ops (i::l)=qz E ops l+1:=fun l=>F9 l (by rw[hgd];exact he)
      refine ⟨s.h::st1,by simp [OV,t.is],?_,t.ds.trans h2,t.rc.trans h3,by simp [t.len,hc],by simp [t.aax],rfl,by rw[hc];simpa using t.last,fun j a b ha hb=>?_,fun p y hp=>?_⟩
      · rw[tV,OV,WD,←h1];exact t.ts
      · cases j with
        | zero=>simp at ha hb;subst ha;subst hb;exact Grown.refl _
        | succ j=>exact t.grown j a b (by simpa using ha) (by simpa using hb)
      · cases p with
        | zero=>
          simp at hp;subst hp
          refine ⟨by simp [F',hxt],by simp [qz,Ga],o,s.h,s.h,by rw[OV];exact ho,by simp [qz],by simp [qz],?_⟩
          have:(s.h::st1)[qz E ops (List.take 0 (i::rest))+1]? =some s1.h:=by simp [qz];exact t.first
          rw[this];exact iP
        | succ p=>
          obtain ⟨a1,a2,o2,hk,sk,a3,a4,a5,a6⟩:=t.step p y (by simpa using hp)
          refine ⟨?_,by rw[List.take_succ_cons,hc];omega,o2,hk,sk,a3,by rw[List.take_succ_cons,hc];simpa using a4,by rw[List.take_succ_cons,hc];simpa using a5,?_⟩
          · rw[List.take_succ_cons,tV,OV,WD,←h1];exact a1
          · rw[List.take_succ_cons,hc,h3] at *
            simpa using a6
   have plain:∀(x:Step) (s1:St),x.i=i→x.k=k→x.ts=s.ts→s1.ts=dH s.ts o.dst x.v→s1.ds=s.ds→s1.rc=s.rc→fk E o.op=false→Grown s.h s1.h→
    (∀hk sn,Grown s1.h hk→wG E call ops s.rc x o hk s.h sn)→(cQ E call ops rest k s1).step x= .ok tr hs s'→∃st,WC E call ops s k (i::rest) tr hs st s':=by
    intro x s1 OV Ga hxt h1 h2 h3 he hg iP hd
    cases hr:cQ E call ops rest k s1 with
    | fail why q=>rw[hr] at hd;simp [jL.step] at hd
    | ok Nc r_ s2=>
      rw[hr] at hd;simp [jL.step] at hd;obtain ⟨rfl,rfl,rfl⟩:=hd
      obtain ⟨st1,t⟩:=ov hr
      have hc:∀l,qz E ops (i::l)=qz E ops l:=fun l=>F_ l (by rw[hgd];simp [he])
      cases uz:st1 with
      | nil=>have:=t.first;rw[uz] at this;simp at this
      | cons s0 st2=>
      have La:s0=s1.h:=by have:=t.first;rw[uz] at this;simpa using this
      subst La
      have fZ:∀j,(s.h::st2)[j+1]? =st1[j+1]? :=fun j=>by rw[uz];rfl
      refine ⟨s.h::st2,by simp [OV,t.is],?_,t.ds.trans h2,t.rc.trans h3,by rw[hc];exact t.len,by have:=t.aax;rw[uz] at this;simpa using this,rfl,by rw[hc];exact t.last,fun j a b ha hb=>?_,fun p y hp=>?_⟩
      · rw[tV,OV,WD,←h1];exact t.ts
      · cases j with
        | zero=>
          simp at ha;subst ha
          exact hg.trans (t.grown 0 _ b t.first hb)
        | succ j=>rw[fZ] at ha;exact t.grown (j+1) a b ha hb
      · cases p with
        | zero=>
          simp at hp;subst hp
          have h0:∃hk,r_[0]? =some hk:=by
           have:=t.len
           cases hh:r_ with
           | nil=>rw[hh] at this;simp at this
           | cons a _=>exact ⟨a,rfl⟩
          obtain ⟨hk,zO⟩:=h0
          refine ⟨by simp [F',hxt],by simp [qz,Ga],o,hk,s.h,by rw[OV];exact ho,by simpa [qz] using zO,by simp [qz],?_⟩
          exact iP hk _ (t.grown 0 _ hk t.first zO)
        | succ p=>
          obtain ⟨a1,a2,o2,hk,sk,a3,a4,a5,a6⟩:=t.step p y (by simpa using hp)
          have hsk:∃sk',(s.h::st2)[qz E ops (List.take p rest)]? =some sk'∧sk'.nx≤sk.nx:=by
           cases hq:qz E ops (List.take p rest) with
           | zero=>rw[hq] at a5;rw[t.first] at a5;simp at a5;subst a5;exact ⟨s.h,rfl,hg.nx⟩
           | succ q=>rw[hq] at a5;exact ⟨sk,by rw[fZ];exact a5,Nat.le_refl _⟩
          obtain ⟨sk',agV,agW⟩:=hsk
          refine ⟨?_,by rw[List.take_succ_cons,hc];exact a2,o2,hk,sk',a3,by rw[List.take_succ_cons,hc];exact a4,by rw[List.take_succ_cons,hc];exact agV,?_⟩
          · rw[List.take_succ_cons,tV,OV,WD,←h1];exact a1
          · rw[List.take_succ_cons,hc,fZ,←h3]
            unfold wG at a6 ⊢
            split<;>rename_i wH<;>rw[wH] at a6
            · exact a6
            · exact a6
            · exact a6
            · exact ⟨a6.1,a6.2.1,a6.2.2.1,Nat.le_trans agW a6.2.2.2.1,a6.2.2.2.2⟩
            · exact a6
   split at h
   · rename_i he
     split at h
     · rename_i hw
       split at h
       · rename_i v h' sA
         exact writes ⟨i,k,s.ts,v,.uw h'⟩ {s with ts:=dH s.ts o.dst v,h:=h'} rfl rfl rfl rfl rfl rfl he ⟨he,hw,sA,rfl⟩ h
       · simp at h
       · simp at h
     · rename_i hw
       exact writes ⟨i,k,s.ts,AV.undef,.off⟩ {s with ts:=dH s.ts o.dst AV.undef} rfl rfl rfl rfl rfl rfl he ⟨by simpa using hw,rfl,fun _=>rfl⟩ h
   · rename_i he
     have Kz:fk E o.op=false:=by simpa using he
     split at h
     · rename_i hw
       split at h
       · rename_i v hp
         exact plain ⟨i,k,s.ts,v,.gO⟩ {s with ts:=dH s.ts o.dst v} rfl rfl rfl rfl rfl rfl Kz (Grown.refl _) (fun hk sn _=>⟨Kz,hw,hp⟩) h
       · split at h
         · rename_i v hp
           exact plain ⟨i,k,s.ts,v,.red⟩ {s with ts:=dH s.ts o.dst v} rfl rfl rfl rfl rfl rfl Kz (Grown.refl _) (fun hk sn _=>⟨Kz,hw⟩) h
         · split at h
           · rename_i obj mk hp
             split at h
             · rename_i h' hn
               refine plain ⟨i,k,s.ts,mk s.h.nx,.si s.h.nx obj⟩ {s with ts:=dH s.ts o.dst (mk s.h.nx),h:=h'} rfl rfl rfl rfl rfl rfl Kz (Grown.new hn) (fun hk sn g=>⟨Kz,hw,⟨mk,hp,rfl⟩,Nat.le_refl _,?_⟩) h
               have:=(au.lj hn).2.1
               have:=g.nx
               simp at this;omega
             · simp at h
           · simp at h
     · rename_i hw
       exact plain ⟨i,k,s.ts,AV.undef,.off⟩ {s with ts:=dH s.ts o.dst AV.undef} rfl rfl rfl rfl rfl rfl Kz (Grown.refl _) (fun hk sn _=>⟨by simpa using hw,rfl,fun h=>by rw[Kz] at h;simp at h⟩) h
end Go.Ab
end
section
namespace Go.Ab
variable {E:Env}
theorem tW (ops:Array Oper) (val:Nat→AV) (x:Nat):∀(l:List Nat) (ts:List AV) (_:∀j∈l,gU ops j≠some x),(o9 ops val ts l)[x]? =ts[x]?
 | [],_,_=>rfl
 | i::l,ts,h=>by
   show (o9 ops val (dH ts (gU ops i) (val i)) l)[x]? =_
   rw[tW ops val x l _ (fun j hj=>h j (by simp [hj]))]
   have:=h i (by simp)
   cases hd:gU ops i with
   | none=>rfl
   | some d=>
     rw[hd] at this
     have dR:d≠x:=fun e=>this (by rw[e])
     simp [dH,List.getElem?_set_ne dR]
theorem BL (ops:Array Oper) (val:Nat→AV) (x j:Nat) (hj:gU ops j=some x):∀(l:List Nat) (ts:List AV) (_:j∈l) (_:∀j'∈l,gU ops j'=some x→j'=j),(o9 ops val ts l)[x]? =if x<ts.length then some (val j) else none
 | i::l,ts,hm,hu=>by
   show (o9 ops val (dH ts (gU ops i) (val i)) l)[x]? =_
   have hlen:(dH ts (gU ops i) (val i)).length=ts.length:=by cases gU ops i<;>simp [dH]
   by_cases QK:j∈l
   · rw[BL ops val x j hj l _ QK (fun j' h=>hu j' (by simp [h])),hlen]
   · have hij:i=j:=by simp at hm;rcases hm with h | h;exact h.symm;exact absurd h QK
     subst hij
     rw[tW ops val x l _ (fun j' nR e=>QK (hu j' (by simp [nR]) e▸nR))]
     rw[hj]
     simp [dH,List.getElem?_set]
theorem vv {ops:Array Oper} {val:Nat→AV} {x:Nat} {l d:List Nat} (ts:List AV) (hu:∀j j',gU ops j=some x→gU ops j'=some x→j=j') (Y8:∀j,gU ops j=some x→(j∈l↔j∈d)):
 (o9 ops val ts l)[x]? =(o9 ops val ts d)[x]? :=by
 by_cases h:∃j,gU ops j=some x∧j∈l
 · obtain ⟨j,hj,hl⟩:=h
   rw[BL ops val x j hj l ts hl (fun j' _ e=>hu j' j e hj),BL ops val x j hj d ts ((Y8 j hj).1 hl) (fun j' _ e=>hu j' j e hj)]
 · rw[tW ops val x l ts (fun j hj e=>h ⟨j,e,hj⟩),tW ops val x d ts (fun j hj e=>h ⟨j,e,(Y8 j e).2 hj⟩)]
theorem yG {l r:List AV} {x:Nat} (h:l[x]? =r[x]?) (d:AV):l.getD x d=r.getD x d:=by simp [List.getD,h]
def valOf (tr:List Step) (i:Nat):AV:=((tr.find? (fun x=>x.i==i)).map (·.v)).getD AV.undef
theorem Iy {tr:List Step} (hn:(tr.map (·.i)).Nodup) {p:Nat} {x:Step} (hp:tr[p]? =some x):valOf tr x.i=x.v:=by
 unfold valOf
 have:tr.find? (fun y=>y.i==x.i)=some x:=by
  rw[List.find?_eq_some_iff_getElem]
  obtain ⟨ke,hx⟩:=List.getElem?_eq_some_iff.1 hp
  refine ⟨by simp,p,ke,hx,fun j hj=>?_⟩
  have QK:j<tr.length:=by omega
  simp only[Bool.not_eq_true',beq_eq_false_iff_ne]
  intro e
  have h1:(tr.map (·.i))[j]? =some x.i:=by simp [QK,e]
  have h2:(tr.map (·.i))[p]? =some x.i:=by simp [ke,hx]
  have:=(List.getElem?_inj (by simpa using QK) hn).1 (h1.trans h2.symm)
  omega
 rw[this];rfl
theorem Gb (ops:Array Oper) {tr:List Step} (hn:(tr.map (·.i)).Nodup) (ts:List AV) (p:Nat):F' ops ts (tr.take p)=o9 ops (valOf tr) ts ((tr.map (·.i)).take p):=by
 have key:∀(l:List Step) (ts:List AV),(∀x∈l,valOf tr x.i=x.v)→F' ops ts l=o9 ops (valOf tr) ts (l.map (·.i)):=by
  intro l
  induction l with
  | nil=>intro ts _;rfl
  | cons x l ih=>
    intro ts h
    show F' ops (dH ts (gU ops x.i) x.v) l=o9 ops (valOf tr) (dH ts (gU ops x.i) (valOf tr x.i)) (l.map (·.i))
    rw[h x (by simp),ih _ (fun y hy=>h y (by simp [hy]))]
 rw[key _ _ (fun x hx=>?_),List.map_take]
 obtain ⟨q,hq⟩:=List.getElem?_of_mem (List.mem_of_mem_take hx)
 exact Iy hn hq
theorem OK.place {φ:Ph} {h:au} {w:World} (ok:OK E φ h w) {n:Nat} {obj:a_} (hg:h.get n=some obj) (FP:φ n=none) (ke:n<h.nx) {O:Obj}
 (ho:OR E (φ.add n ⟨w.heap.size,0,0⟩) obj ⟨w.heap.size,0,0⟩ (some O)):OK E (φ.add n ⟨w.heap.size,0,0⟩) h (w.alloc O)∧φ.le (φ.add n ⟨w.heap.size,0,0⟩):=by
 have hle:φ.le (φ.add n ⟨w.heap.size,0,0⟩):=fun j m hm=>by
  unfold Ph.add;split
  · rename_i e;subst e;rw[FP] at hm;simp at hm
  · exact hm
 have j5:∀j,j≠n→(φ.add n ⟨w.heap.size,0,0⟩) j=φ j:=fun j hj=>by simp [Ph.add,hj]
 have gT:(φ.add n ⟨w.heap.size,0,0⟩) n=some ⟨w.heap.size,0,0⟩:=by simp [Ph.add]
 have Y9:(w.alloc O).heap=w.heap.push O:=rfl
 have hblk:∀j p m,h.get j=some p→φ j=some m→m.dY<w.heap.size:=fun j p m hj hm=>by
  have Bf:=ok.live j p m hj hm
  rcases Nat.lt_or_ge m.dY w.heap.size with a | a
  · exact a
  · exfalso
    rw[Array.getElem?_eq_none a] at Bf
    exact Bf.absurd
 refine ⟨⟨fun j m hm=>?_,ok.nx,fun g hg=>hle _ _ (ok.vl g hg),fun j p m hj hm=>?_,fun j k p q m r hj hk hm hr hw hb=>?_⟩,hle⟩
 · by_cases e:j=n
   · omega
   · rw[j5 j e] at hm;exact ok.AO j m hm
 · by_cases e:j=n
   · subst e;rw[gT] at hm;simp at hm;subst hm;rw[hg] at hj;simp at hj;subst hj;rw[Y9];simpa using ho
   · rw[j5 j e] at hm
     have hb:=hblk j p m hj hm
     rw[Y9,Array.getElem?_push,if_neg (by omega)]
     exact (ok.live j p m hj hm).mono hle
 · by_cases e:j=n<;>by_cases e':k=n
   · rw[e,e']
   · subst e;rw[gT] at hm;simp at hm;subst hm;rw[j5 k e'] at hr;have:=hblk k q r hk hr;simp at hb;omega
   · subst e';rw[gT] at hr;simp at hr;subst hr;rw[j5 j e] at hm;have:=hblk j p m hj hm;simp at hb;omega
   · rw[j5 j e] at hm;rw[j5 k e'] at hr;exact ok.inj j k p q m r hj hk hm hr hw hb
theorem Fr.place {φ₀ φ:Ph} {h₀ h:au} {w₀ w:World} (f:Fr φ₀ h₀ w₀ φ h w) {n:Nat} (hn:h₀.nx≤n) (FP:φ n=none) (O:Obj):Fr φ₀ h₀ w₀ (φ.add n ⟨w.heap.size,0,0⟩) h (w.alloc O):=by
 have j5:∀j,j≠n→(φ.add n ⟨w.heap.size,0,0⟩) j=φ j:=fun j hj=>by simp [Ph.add,hj]
 have gT:(φ.add n ⟨w.heap.size,0,0⟩) n=some ⟨w.heap.size,0,0⟩:=by simp [Ph.add]
 refine ⟨fun j m hm=>?_,fun i hi=>by rw[j5 i (by omega)];exact f.old i hi,f.nx,f.os,f.tape,f.output,by have:=f.size;simp;omega,fun b hb hn'=>?_,fun i o l hi hr hl=>?_⟩
 · by_cases e:j=n
   · subst e;have:=f.ext j m hm;rw[FP] at this;simp at this
   · rw[j5 j e];exact f.ext j m hm
 · have:=f.size
   rw[show (w.alloc O).heap=w.heap.push O from rfl,Array.getElem?_push,if_neg (by omega)]
   exact f.wo b hb hn'
 · by_cases e:i=n
   · subst e;rw[gT] at hl;simp at hl;subst hl;exact .inl f.size
   · rw[j5 i e] at hl;exact f.own i o l hi hr hl
theorem filter_le {P:Nat→Bool} {l:List Nat} {K:Nat} (h:∀q e,l[q]? =some e→P e=true→q<K):(l.filter P).length≤K:=by
 have h1:(l.drop K).filter P=[]:=by
  rw[List.filter_eq_nil_iff]
  intro e he hP
  obtain ⟨q,hq⟩:=List.getElem?_of_mem he
  rw[List.getElem?_drop] at hq
  have:=h _ e hq hP
  omega
 calc (l.filter P).length=((l.take K++l.drop K).filter P).length:=by rw[List.take_append_drop]
  _=((l.take K).filter P).length:=by rw[List.filter_append,h1,List.append_nil]
  _≤(l.take K).length:=List.length_filter_le _ _
  _≤K:=by simp;omega
theorem wI {P:Nat→Bool}:∀{l:List Nat} {e:Nat} (_:l[(l.takeWhile P).length]? =some e),P e=false
 | [],e,h=>by simp at h
 | x::l,e,h=>by
   by_cases hx:P x=true
   · rw[List.takeWhile_cons_of_pos hx] at h
     exact wI (l:=l) (by simpa using h)
   · rw[List.takeWhile_cons_of_neg hx] at h
     simp at h;subst h;simpa using hx
end Go.Ab
end
section
namespace Go.Ab
variable {E:Env}
structure Gc (E:Env) (call:bw) (ops:Array Oper) (pl:lY) (s s':St) (tr:List Step) (hs st:List au):Prop where
 rU:BK E ops pl
 trace:WC E call ops s 0 pl.order tr hs st s'
 still:∀x∈tr,∀K hk,x.k≤K→K≤j0 pl.bR pl.an x.i→hs[K]? =some hk→jr E ops x hk=true
 ids:∀(x y:Step),x∈tr→y∈tr→∀(n:Nat) (o q:a_),x.kind= .si n o→y.kind= .si n q→x.i=y.i
structure Inv (E:Env) (ops:Array Oper) (pl:lY) (s:St) (tr:List Step) (hs st:List au) (φ₀:Ph) (w₀:World) (wa:List Deferred) (d:List Nat) (bX:Array Bool) (K:Nat) (φ:Ph) (a:Act) (w:World):Prop where
 nd:d.Nodup
 lt:∀i∈d,i<ops.size
 bX:∀i,i<ops.size→bX[i]? =some (decide (i∈d))
 closed:∀i∈d,∀j,dC pl.an i j=true→j∈d
 bR:∀q e,pl.bR[q]? =some e→(e∈d↔q<K)
 Kle:K≤pl.bR.length
 ts:LR φ (o9 ops (valOf tr) s.ts d) a.tmps.toList
 ds:a.defers=wa
 ok:∃hK,hs[K]? =some hK∧OK E φ hK w∧Fr φ₀ s.h w₀ φ hK w
 hQ:∀x∈tr,∀n obj,x.kind= .si n obj→x.i ∉ d→x.k≤K→φ n=none∧s.h.nx≤n∧∀hK,hs[K]? =some hK→n<hK.nx
section
variable {call:bw} {ops:Array Oper} {pl:lY} {s s':St} {tr:List Step} {hs st:List au}
theorem Gc.at (r:Gc E call ops pl s s' tr hs st) {p:Nat} {x:Step} (hp:tr[p]? =some x):
 pl.order[p]? =some x.i∧x.i ∉ pl.order.take p∧(∀j,dC pl.an x.i j=true→j∈pl.order.take p)∧x.k=qz E ops (pl.order.take p)∧
 ∃o,ops[x.i]? =some o∧(fk E o.op=true→pl.bR[x.k]? =some x.i)∧(fk E o.op=false→FL pl.bR pl.an x.i=x.k):=by
 have h1:pl.order[p]? =some x.i:=by rw[←r.trace.is,List.getElem?_map,hp];rfl
 obtain ⟨h2,_,_⟩:=iG r.rU.order
 obtain ⟨a1,a2,a3,a4,a5,a6⟩:=h2 p x.i h1
 obtain ⟨b1,b2,o,hk,sk,b3,_⟩:=r.trace.step p x hp
 have hgd:ops.getD x.i default=o:=by simp [Array.getD_eq_getD_getElem?,b3]
 rw[hgd] at a5 a6
 have Ec:x.k=qz E ops (pl.order.take p):=by omega
 refine ⟨h1,a3,fun j hj=>(a4 j hj).resolve_left (by simp),Ec,o,b3,fun he=>?_,fun he=>?_⟩
 · have:=a5 he;rw[Ec];simpa using this
 · have:=a6 he;omega
theorem uP:∀{l:List Nat} (_:∀(p i:Nat),l[p]? =some i→i ∉ l.take p),l.Nodup
 | [],_=> .nil
 | x::l,h=>by
   refine List.nodup_cons.2 ⟨fun hm=>?_,uP (fun p i hp hi=>h (p+1) i (by simpa using hp) (by simp [hi]))⟩
   obtain ⟨q,hq⟩:=List.getElem?_of_mem hm
   exact h (q+1) x (by simpa using hq) (by simp)
theorem Gc.nodup (r:Gc E call ops pl s s' tr hs st):pl.order.Nodup:=by
 obtain ⟨h2,_,_⟩:=iG r.rU.order
 exact uP (fun p i hp=>(h2 p i hp).2.2.1)
theorem Gc.all (r:Gc E call ops pl s s' tr hs st) {i:Nat} (hi:i<ops.size):∃(p:Nat) (x:Step),tr[p]? =some x∧x.i=i:=by
 obtain ⟨_,h3,_⟩:=iG r.rU.order
 have:=(h3 i hi).resolve_left (by simp)
 rw[←r.trace.is] at this
 obtain ⟨x,hx,rfl⟩:=List.mem_map.1 this
 obtain ⟨p,hp⟩:=List.getElem?_of_mem hx
 exact ⟨p,x,hp,rfl⟩
theorem wJ {ops:Array Oper} {pl:lY} (pok:BK E ops pl) {x j j':Nat} (h:gU ops j=some x) (h':gU ops j'=some x):j=j':=by
 unfold gU at h h'
 cases ho:ops[j]? with
 | none=>rw[ho] at h;simp at h
 | some o=>
 cases Iz:ops[j']? with
 | none=>rw[Iz] at h';simp at h'
 | some o'=>
 rw[ho] at h;rw[Iz] at h'
 simp at h h'
 rcases Nat.decEq j j' with dR | he
 · exact absurd h (pok.slot j j' o o' x dR ho Iz h').1
 · exact he
theorem agree (r:Gc E call ops pl s s' tr hs st) {p:Nat} {x:Step} {o:Oper} (hp:tr[p]? =some x) (ho:ops[x.i]? =some o) {d:List Nat} (hd:x.i ∉ d) (QL:∀i∈d,∀j,dC pl.an i j=true→j∈d)
 (qO:∀j,dC pl.an x.i j=true→j∈d):ou E x.ts (o9 ops (valOf tr) s.ts d) o.op∧cE ops (o9 ops (valOf tr) s.ts d) o=cE ops x.ts o:=by
 obtain ⟨h1,h2,h3,_,_⟩:=r.at hp
 have o8:(tr.map (·.i)).Nodup:=by rw[r.trace.is];exact r.nodup
 have Rs:x.ts=o9 ops (valOf tr) s.ts (pl.order.take p):=by
  rw[(r.trace.step p x hp).1,Gb ops o8,r.trace.is]
 have hpc:∀j∈pl.order.take p,∀m,dC pl.an j m=true→m∈pl.order.take p:=by
  intro j hj m hm
  obtain ⟨q,hq⟩:=List.getElem?_of_mem hj
  have hqp:q<p:=by
   have:=(List.getElem?_eq_some_iff.1 hq).1
   simp at this;omega
  have hq':pl.order[q]? =some j:=by rw[List.getElem?_take] at hq;rw[if_pos hqp] at hq;exact hq
  obtain ⟨f1,_,_⟩:=iG r.rU.order
  have:=((f1 q j hq').2.2.2.1 m hm).resolve_left (by simp)
  exact List.mem_of_mem_take (i:=q) (l:=pl.order.take p) (by rw[List.take_take,Nat.min_eq_left (Nat.le_of_lt hqp)];exact this)
 have same:∀t,(∀j p',j≠x.i→ops[j]? =some p'→p'.dst=some t→dC pl.an x.i j=true∨dC pl.an j x.i=true)→(o9 ops (valOf tr) s.ts (pl.order.take p))[t]? =(o9 ops (valOf tr) s.ts d)[t]? :=by
  intro t ht
  refine vv s.ts (fun j j' a b=>wJ r.rU a b) (fun j hj=>?_)
  by_cases hji:j=x.i
  · subst hji;exact ⟨fun h=>absurd h h2,fun h=>absurd h hd⟩
  · obtain ⟨p',hp',KA⟩:∃p',ops[j]? =some p'∧p'.dst=some t:=by
     unfold gU at hj
     cases Y_:ops[j]? with
     | none=>rw[Y_] at hj;simp at hj
     | some p'=>rw[Y_] at hj;exact ⟨p',rfl,by simpa using hj⟩
    rcases ht j p' hji hp' KA with h | h
    · exact ⟨fun _=>qO j h,fun _=>h3 j h⟩
    · exact ⟨fun hm=>absurd (hpc j hm _ h) h2,fun hm=>absurd (QL j hm _ h) hd⟩
 rw[Rs]
 refine ⟨fun y hy=>?_,?_⟩
 · cases y with
   | tmp t=>
     have ht:t∈tmpsOf o:=by
      unfold tmpsOf;rw[List.mem_filterMap];exact ⟨.tmp t,by simpa using hy,rfl⟩
     simp only[eh]
     rw[yG (same t (fun j p' dR hp' KA=>(r.rU.slot x.i j o p' t (Ne.symm dR) ho hp' KA).2 ht))]
   | const c=>rfl
   | global g=>rfl
   | func f=>rfl
 · unfold cE
   cases hg:o.guard with
   | none=>rfl
   | some gw=>
     obtain ⟨g,want⟩:=gw
     simp only
     cases hdg:(ops[g]?).bind (·.dst) with
     | none=>rfl
     | some t=>
       simp only
       have aaw:=r.rU.guard x.i o g want ho hg
       rw[same t (fun j p' dR hp' KA=>by
        have:j=g:=wJ r.rU (x:=t) (by unfold gU;rw[hp'];simpa using KA) hdg
        subst this;exact .inl aaw)]
end
end Go.Ab
end
section
namespace Go.Ab
variable {E:Env}
section
variable {call:bw} {ops:Array Oper} {pl:lY} {s s':St} {tr:List Step} {hs st:List au}
theorem Ej {l:List Oper} {i:Nat}:i∈na E l↔∃o,l[i]? =some o∧fk E o.op=true:=by
 unfold na
 simp only[List.mem_map,List.mem_filter,Prod.exists]
 constructor
 · rintro ⟨o,j,⟨h1,h2⟩,rfl⟩
   exact ⟨o,by rw[List.mk_mem_zipIdx_iff_getElem?] at h1;exact h1,h2⟩
 · rintro ⟨o,h1,h2⟩
   exact ⟨o,i,⟨by rw[List.mk_mem_zipIdx_iff_getElem?];exact h1,h2⟩,rfl⟩
theorem BK.WE (pok:BK E ops pl) {i:Nat} {o:Oper} (ho:ops[i]? =some o):i∈pl.bR↔fk E o.op=true:=by
 rw[pok.bR,Ej]
 constructor
 · rintro ⟨o',h1,h2⟩
   have:ops.toList[i]? =some o:=by simpa using ho
   rw[this] at h1;simp at h1;subst h1;exact h2
 · intro h;exact ⟨o,by simpa using ho,h⟩
theorem Inv.BN {φ₀ φ:Ph} {w₀ w:World} {wa:List Deferred} {d:List Nat} {bX:Array Bool} {K:Nat} {a:Act} (r:Gc E call ops pl s s' tr hs st) (inv:Inv E ops pl s tr hs st φ₀ w₀ wa d bX K φ a w)
 {x:Step} (hx:pl.bR[x.k]? =some x.i) (hd:x.i ∉ d) (qO:∀j,dC pl.an x.i j=true→j∈d):x.k=K:=by
 have h1:¬x.k<K:=fun h=>hd ((inv.bR x.k x.i hx).2 h)
 rcases Nat.lt_or_ge K x.k with h | h
 · exfalso
   obtain ⟨q,hq⟩:∃q,x.k=q+1:=⟨x.k - 1,by omega⟩
   have ke:q<pl.bR.length:=by have:=(List.getElem?_eq_some_iff.1 hx).1;omega
   have hq':pl.bR[q]? =some pl.bR[q]:=by simp [ke]
   have:=r.rU.chain q _ x.i hq' (by rw[←hq];exact hx)
   have:=(inv.bR q _ hq').1 (qO _ this)
   omega
 · omega
theorem Inv.Rt {φ₀ φ:Ph} {w₀ w:World} {wa:List Deferred} {d:List Nat} {bX:Array Bool} {K:Nat} {a:Act} (inv:Inv E ops pl s tr hs st φ₀ w₀ wa d bX K φ a w)
 {i:Nat} (hd:i ∉ d) (qO:∀j,dC pl.an i j=true→j∈d):FL pl.bR pl.an i≤K∧K≤j0 pl.bR pl.an i:=by
 refine ⟨filter_le (fun q e hq he=>(inv.bR q e hq).1 (qO e he)),?_⟩
 rcases Nat.lt_or_ge (j0 pl.bR pl.an i) K with h | h
 · exfalso
   have ke:j0 pl.bR pl.an i<pl.bR.length:=by have:=inv.Kle;omega
   have hq:pl.bR[j0 pl.bR pl.an i]? =some pl.bR[j0 pl.bR pl.an i]:=by simp [ke]
   have h1:=wI (P:=fun e=> !dC pl.an e i) hq
   simp only[Bool.not_eq_false'] at h1
   exact hd (inv.closed _ ((inv.bR _ _ hq).2 h) i h1)
 · exact h
theorem OW (ops:Array Oper) (val:Nat→AV) (ts:List AV) (d:List Nat) (i:Nat):o9 ops val ts (d++[i])=dH (o9 ops val ts d) (gU ops i) (val i):=by
 simp [o9]
theorem Inv.snoc {φ₀ φ φ':Ph} {w₀ w w':World} {wa:List Deferred} {d:List Nat} {bX:Array Bool} {K K':Nat} {a:Act} (r:Gc E call ops pl s s' tr hs st) (inv:Inv E ops pl s tr hs st φ₀ w₀ wa d bX K φ a w)
 {p:Nat} {x:Step} {o:Oper} (hp:tr[p]? =some x) (ho:ops[x.i]? =some o) (hd:x.i ∉ d) (qO:∀j,dC pl.an x.i j=true→j∈d) (hle:φ.le φ') {v':Value} (hv:VR φ' x.v v')
 (hK:(fk E o.op=false∧K'=K)∨(fk E o.op=true∧x.k=K∧pl.bR[x.k]? =some x.i∧K'=K+1))
 (jV:∃hK,hs[K']? =some hK∧OK E φ' hK w'∧Fr φ₀ s.h w₀ φ' hK w')
 (adu:∀y∈tr,∀n obj,y.kind= .si n obj→y.i ∉ d→y.i≠x.i→y.k≤K'→φ' n=none∧s.h.nx≤n∧∀hK,hs[K']? =some hK→n<hK.nx):
 Inv E ops pl s tr hs st φ₀ w₀ wa (d++[x.i]) (bX.setIfInBounds x.i true) K' φ' (a.put o.dst v') w':=by
 have o8:(tr.map (·.i)).Nodup:=by rw[r.trace.is];exact r.nodup
 have ke:x.i<ops.size:=(Array.getElem?_eq_some_iff.1 ho).1
 refine ⟨?_,fun i hi=>?_,fun i hi=>?_,fun i hi j hj=>?_,fun q e hq=>?_,?_,?_,by rw[put_defers];exact inv.ds,jV,fun y hy n obj yC hyd hyk=>?_⟩
 · rw[List.nodup_append];exact ⟨inv.nd,by simp,fun a ha b hb=>by simp at hb;subst hb;exact fun e=>hd (e▸ha)⟩
 · simp at hi;rcases hi with h | rfl
   · exact inv.lt i h
   · exact ke
 · have h1:=inv.bX i hi
   by_cases e:x.i=i
   · subst e
     have FN:x.i<bX.size:=(Array.getElem?_eq_some_iff.1 h1).1
     rw[Array.getElem?_setIfInBounds];simp [FN]
   · rw[Array.getElem?_setIfInBounds_ne e,h1]
     simp [show i≠x.i from fun h=>e h.symm]
 · simp at hi;rcases hi with h | rfl
   · exact List.mem_append_left _ (inv.closed i h j hj)
   · exact List.mem_append_left _ (qO j hj)
 · rcases hK with ⟨he,rfl⟩ | ⟨he,Ga,hxe,rfl⟩
   · have dR:e≠x.i:=fun h=>by
      subst h
      have:=(r.rU.WE ho).1 (List.mem_of_getElem? hq)
      rw[he] at this;simp at this
     simp [dR,inv.bR q e hq]
   · have hqe:e=x.i↔q=K:=by
      constructor
      · intro h;subst h
        have:=(List.getElem?_inj (List.getElem?_eq_some_iff.1 hq).1 r.rU.nd).1 (hq.trans hxe.symm)
        omega
      · intro h;subst h;rw[←Ga,hxe] at hq;simpa using hq.symm
     simp only[List.mem_append,List.mem_singleton,inv.bR q e hq,hqe]
     omega
 · rcases hK with ⟨he,rfl⟩ | ⟨he,Ga,hxe,rfl⟩
   · exact inv.Kle
   · have:=(List.getElem?_eq_some_iff.1 hxe).1;omega
 · rw[OW,Iy o8 hp]
   have:gU ops x.i=o.dst:=by simp [gU,ho]
   rw[this]
   exact Rl (inv.ts.mono hle) o.dst hv
 · simp only[List.mem_append,List.mem_singleton,not_or] at hyd
   exact adu y hy n obj yC hyd.1 hyd.2 hyk
theorem OX (hE:kh E) {call:bw} (dg:ic E call) {ts:List AV} {h h':au} {rc:RC} {o:Oper} {v:AV} (sA:dc E call ts h rc o= .val v h') {i:Nat} {rest:List Nat} (ho:ops[i]? =some o)
 {φ:Ph} {a:Act} {w:World} {b:Frame} {k:List Item} {K:Bool→List Frame} (Rs:LR φ ts a.tmps.toList) (ok:OK E φ h w) (gE:nh φ b K rc) (hw:Region.wanted o (yielded ops a.tmps)=true):
 ∃φ' w' v',VR φ' v v'∧OK E φ' h' w'∧Fr φ h w φ' h' w'∧Steps E.P (lone (b.atR a (.inRegion ops (i::rest)::k)) (cur K rc) w) (lone (b.atR (a.put o.dst v') (.inRegion ops rest::k)) (cur K rc) w'):=by
 have yB:=vt hE dg (rc:=rc) (o:=o) Rs ok
 have o8:rc.oq=false∨∀c,o.op≠ .defer c:=by
  by_cases hd:∃c,o.op= .defer c
  · obtain ⟨c,hd⟩:=hd
    unfold dc at sA
    simp only[hd] at sA
    split at sA<;>simp at sA
  · exact .inr (fun c e=>hd ⟨c,e⟩)
 have kC:=qM gE o8 a.eval
 rw[sA] at yB
 cases yB with
 | val v h' φ' w' v' hv rJ fr run=>exact ⟨φ',w',v',hv,rJ,fr,.one (mE kC ho hw run)⟩
 | skip h' φ' w' rJ fr run=>exact ⟨φ',w',undef,.undef φ',rJ,fr,.one (Is kC ho hw run)⟩
 | enter v h' F args all hr hf hl run=>
   obtain ⟨n,start,hp,iP⟩:=hr φ w all ok hf hl
   obtain ⟨φ',w',v',hv,rJ,fr,je⟩:=iP (b.atR a (.inRegion ops (i::rest)::k)) (cur K rc)
   rw[tT ho] at je
   exact ⟨φ',w',v',hv,rJ,fr,.head (go_enter kC ho hw hp (run n start hp)) je⟩
 | Rp dR Dy run=>
   have FP:∀fr:Frame,fr.kind=b.kind→tryRecover fr (cur K rc)=none:=by
    cases F7:rc with
    | no=>rw[F7] at gE;exact gE.2
    | hQ v=>exact absurd F7 (dR v)
    | done=>rw[F7] at gE;exact gE.2
    | pP l=>rw[F7] at Dy;simp [RC.oq] at Dy
   exact ⟨φ,w,.nilIface,.nilIface,ok,Fr.refl _ _ _,.one (uO (gE.plain Dy) kC ho hw run (FP _ rfl))⟩
theorem Inv.Nd (hE:kh E) {Ek:bw} (dg:ic E Ek) {φ₀ φ:Ph} {w₀ w:World} {wa:List Deferred} {d:List Nat} {bX:Array Bool} {K:Nat} {a:Act} (r:Gc E call ops pl s s' tr hs st) (inv:Inv E ops pl s tr hs st φ₀ w₀ wa d bX K φ a w)
 {b:Frame} {k:List Item} {Ks:Bool→List Frame} (gE:nh φ₀ b Ks s.rc) {i:Nat} (hi:i<ops.size) (hd:i ∉ d) (qO:∀j,dC pl.an i j=true→j∈d)
 (El:∀(x:Step) (o:Oper) (hk h':au),x∈tr→x.i=i→ops[x.i]? =some o→hs[x.k]? =some hk→x.kind= .uw h'→dc E Ek x.ts hk s.rc o= .val x.v h') (rest:List Nat):
 ∃K' φ' a' w',Inv E ops pl s tr hs st φ₀ w₀ wa (d++[i]) (bX.setIfInBounds i true) K' φ' a' w'∧
  Steps E.P (lone (b.atR a (.inRegion ops (i::rest)::k)) (cur Ks s.rc) w) (lone (b.atR a' (.inRegion ops rest::k)) (cur Ks s.rc) w'):=by
 obtain ⟨p,x,hp,rfl⟩:=r.all hi
 have hxm:x∈tr:=List.mem_of_getElem? hp
 obtain ⟨h1,h2,h3,hk,o,ho,sA,Y'⟩:=r.at hp
 obtain ⟨_,_,o',hk1,sk1,Iz,zO,hsk,iP⟩:=r.trace.step p x hp
 rw[ho] at Iz;simp at Iz;subst Iz
 rw[←hk] at zO hsk iP
 obtain ⟨hag,Ru⟩:=agree r hp ho hd inv.closed qO
 obtain ⟨hK,Za,ok,fr⟩:=inv.ok
 have V7:Region.wanted o (yielded ops a.tmps)=cE ops x.ts o:=by rw[vr inv.ts o,Ru]
 have WG:ou E (o9 ops (valOf tr) s.ts d) x.ts o.op:=fun y hy=>(hag y hy).symm
 have same:∀y∈tr,∀n obj,y.kind= .si n obj→y.i ∉ d→y.i≠x.i→y.k≤K→φ n=none∧s.h.nx≤n∧∀hK,hs[K]? =some hK→n<hK.nx:=
  fun y hy n obj a1 a2 _ a3=>inv.hQ y hy n obj a1 a2 a3
 have wrote:∀(φ':Ph) (h':au) (w':World),x.k=K→st[K+1]? =some h'→OK E φ' h' w'→Fr φ hK w φ' h' w'→
  ∃Nf,hs[K+1]? =some Nf∧OK E φ' Nf w'∧Fr φ₀ s.h w₀ φ' Nf w'∧
  ∀y∈tr,∀n obj,y.kind= .si n obj→y.i ∉ d→y.i≠x.i→y.k≤K+1→φ' n=none∧s.h.nx≤n∧∀hK,hs[K+1]? =some hK→n<hK.nx:=by
  intro φ' h' w' Ga aay rJ KC
  have ke:K+1<hs.length:=by rw[←r.trace.aax];exact (List.getElem?_eq_some_iff.1 aay).1
  have hhs:hs[K+1]? =some hs[K+1]:=by simp [ke]
  have g:=r.trace.grown (K+1) h' _ aay hhs
  obtain ⟨BP,fr2⟩:=rJ.grown g
  have V8:=(fr.trans KC).trans fr2
  refine ⟨_,hhs,BP,V8,fun y hy n obj a1 a2 a3 a4=>?_⟩
  have hnx:∀Nf,hs[K+1]? =some Nf→Nf=hs[K+1]:=fun Nf e=>by rw[hhs] at e;simpa using e.symm
  rcases Nat.lt_or_ge K y.k with h | h
  ·
   have hyk:y.k=K+1:=by omega
   obtain ⟨q,hq⟩:=List.getElem?_of_mem hy
   obtain ⟨_,_,_,hky,oy,hoy,_,_⟩:=r.at hq
   obtain ⟨_,_,oy',agX,agY,agZ,DH,DI,Lh⟩:=r.trace.step q y hq
   rw[←hky,hyk] at DH DI
   rw[aay] at DI;simp at DI;subst DI
   unfold wG at Lh
   rw[a1] at Lh
   obtain ⟨_,_,_,hn1,Ng⟩:=Lh
   refine ⟨?_,?_,fun Nf e=>?_⟩
   · cases hφ:φ' n with
     | none=>rfl
     | some l=>have:=rJ.AO n l hφ;omega
   · have:=(fr.trans KC).nx;omega
   · rw[e] at DH;simp at DH;subst DH;exact Ng
  · obtain ⟨b1,b2,b3⟩:=inv.hQ y hy n obj a1 a2 h
    have hn:=b3 hK Za
    refine ⟨by rw[KC.old n hn];exact b1,b2,fun Nf e=>?_⟩
    have:=KC.nx;have:=g.nx
    rw[hnx _ e];omega
 have still:fk E o.op=false→jr E ops x hK=true:=fun he=>by
  obtain ⟨w1,w2⟩:=inv.Rt hd qO
  exact r.still x hxm K hK (by rw[←Y' he];exact w1) w2 Za
 have hgd:ops.getD x.i default=o:=by simp [Array.getD_eq_getD_getElem?,ho]
 have skip:cE ops x.ts o=false→step E.P (lone (b.atR a (.inRegion ops (x.i::rest)::k)) (cur Ks s.rc) w)= .next (lone (b.atR (a.put o.dst undef) (.inRegion ops rest::k)) (cur Ks s.rc) w):=fun hw=>by
  have:=stepR_op_skip (P:=E.P) (b:=b) (a:=a) (k:=k) (cs:=cur Ks s.rc) (w:=w) (ops:=ops) (i:=x.i) (rest:=rest) (by rw[ho];simp;rw[V7];exact hw)
  rw[this,ho];rfl
 unfold wG at iP
 split at iP
 ·
  obtain ⟨hw,hv,hn⟩:=iP
  have hvr:VR φ x.v undef:=by rw[hv];exact .undef φ
  by_cases he:fk E o.op=true
  · have Ga:=inv.BN r (sA he) hd qO
    have uz:=hn he
    rw[Ga] at uz zO
    rw[Za] at zO;simp at zO;subst zO
    obtain ⟨Nf,q1,q2,q3,q4⟩:=wrote φ hK w Ga uz ok (Fr.refl _ _ _)
    exact ⟨K+1,φ,_,w,inv.snoc r hp ho hd qO (Ph.le_refl φ) hvr (.inr ⟨he,Ga,sA he,rfl⟩) ⟨Nf,q1,q2,q3⟩ q4,.one (skip hw)⟩
  · have Kz:fk E o.op=false:=by simpa using he
    exact ⟨K,φ,_,w,inv.snoc r hp ho hd qO (Ph.le_refl φ) hvr (.inl ⟨Kz,rfl⟩) inv.ok same,.one (skip hw)⟩
 ·
  obtain ⟨he,hw,hpu⟩:=iP
  rw[←Iv WG] at hpu
  have o8:∀c,o.op≠ .defer c:=fun c e=>by rw[e] at hpu;simp [bH] at hpu
  obtain ⟨v',hv,hr⟩:=zI hE.ext ok.gl inv.ts hpu
  exact ⟨K,φ,_,w,inv.snoc r hp ho hd qO (Ph.le_refl φ) hv (.inl ⟨he,rfl⟩) inv.ok same,.one (mE (qM gE (.inr o8) _) ho (V7.trans hw) (hr w))⟩
 ·
  rename_i wH
  obtain ⟨he,hw⟩:=iP
  have r_:=still he
  unfold jr at r_
  rw[wH] at r_
  simp only[hgd] at r_
  cases hre:dP E x.ts hK o.op with
  | none=>rw[hre] at r_;simp at r_
  | some v1=>
    rw[hre] at r_
    have hv1:=AV.wE _ _ _ r_
    subst hv1
    rw[←Iw WG] at hre
    have o8:∀c,o.op≠ .defer c:=fun c e=>by rw[e] at hre;simp [dP] at hre
    obtain ⟨v',hv,hr⟩:=zM ok.gl ok inv.ts hre
    exact ⟨K,φ,_,w,inv.snoc r hp ho hd qO (Ph.le_refl φ) hv (.inl ⟨he,rfl⟩) inv.ok same,.one (mE (qM gE (.inr o8) _) ho (V7.trans hw) (hr w rfl))⟩
 ·
  rename_i n obj wH
  obtain ⟨he,hw,⟨mk,hal,hxv⟩,_,_⟩:=iP
  have r_:=still he
  unfold jr at r_
  rw[wH] at r_
  simp only at r_
  cases hge:hK.get n with
  | none=>rw[hge] at r_;simp at r_
  | some o1=>
    rw[hge] at r_
    have ho1:=a_.wE r_
    subst ho1
    obtain ⟨w1,_⟩:=inv.Rt hd qO
    obtain ⟨FP,ag0,ag2⟩:=inv.hQ x hxm n o1 wH hd (by rw[←Y' he];exact w1)
    rw[←F8 WG] at hal
    have o8:∀c,o.op≠ .defer c:=fun c e=>by rw[e] at hal;simp [ei] at hal
    obtain ⟨O,mk',Iu,hr⟩:=wx ok.gl inv.ts hal
    have hle:φ.le (φ.add n ⟨w.heap.size,0,0⟩):=fun j m hm=>by
     unfold Ph.add;split
     · rename_i e;subst e;rw[FP] at hm;simp at hm
     · exact hm
    obtain ⟨BP,_⟩:=ok.place hge FP (ag2 hK Za) (Iu.obj _ w.heap.size hle)
    have hv:=Iu.val (φ.add n ⟨w.heap.size,0,0⟩) n w.heap.size hle (by simp [Ph.add])
    rw[←hxv] at hv
    refine ⟨K,_,_,_,inv.snoc r hp ho hd qO hle hv (.inl ⟨he,rfl⟩) ⟨hK,Za,BP,fr.place ag0 FP O⟩ (fun y hy m q a1 a2 a3 a4=>?_),.one (mE (qM gE (.inr o8) _) ho (V7.trans hw) (hr w))⟩
    obtain ⟨b1,b2,b3⟩:=inv.hQ y hy m q a1 a2 a4
    refine ⟨?_,b2,b3⟩
    have dR:m≠n:=fun e=>by subst e;exact a3 (r.ids y x hy hxm m q o1 a1 wH)
    simp [Ph.add,dR,b1]
 ·
  rename_i h' wH
  obtain ⟨he,hw,_,uz⟩:=iP
  have Rv:=El x o _ h' hxm rfl ho zO wH
  have Ga:=inv.BN r (sA he) hd qO
  rw[Ga] at uz zO
  rw[Za] at zO;simp at zO;subst zO
  rw[←BI WG] at Rv
  obtain ⟨φ',w',v',hv,rJ,KC,je⟩:=OX hE dg Rv ho (rest:=rest) (k:=k) inv.ts ok (gE.mono fr.ext) (V7.trans hw)
  obtain ⟨Nf,q1,q2,q3,q4⟩:=wrote φ' h' w' Ga uz rJ KC
  exact ⟨K+1,φ',_,w',inv.snoc r hp ho hd qO KC.ext hv (.inr ⟨he,Ga,sA he,rfl⟩) ⟨Nf,q1,q2,q3⟩ q4,je⟩
end
end Go.Ab
end
section
namespace Go.Ab
variable {E:Env}
section
variable {call:bw} {ops:Array Oper} {pl:lY} {s s':St} {tr:List Step} {hs st:List au}
structure Ge (E:Env) (φ₀:Ph) (h₀:au) (w₀:World) (wa:List Deferred) (b:Frame) (k:List Item) (cs:List Frame) (s':St) (m:Machine):Prop where
 is:∃φ' a' w',LR φ' s'.ts a'.tmps.toList∧a'.defers=wa∧OK E φ' s'.h w'∧Fr φ₀ h₀ w₀ φ' s'.h w'∧Steps E.P m (lone (b.atR a' k) cs w')
theorem IA (r:Gc E call ops pl s s' tr hs st) {φ₀ φ:Ph} {w₀ w:World} {wa:List Deferred} {d:List Nat} {bX:Array Bool} {K:Nat} {a:Act} (inv:Inv E ops pl s tr hs st φ₀ w₀ wa d bX K φ a w)
 (IB:∀i,i<ops.size→i∈d) (b:Frame) (k:List Item) (cs:List Frame):Ge E φ₀ s.h w₀ wa b k cs s' (lone (b.atR a (.inRegion ops []::k)) cs w):=by
 have o8:(tr.map (·.i)).Nodup:=by rw[r.trace.is];exact r.nodup
 obtain ⟨f1,f2,f3⟩:=iG r.rU.order
 have hK:K=pl.bR.length:=by
  have:=inv.Kle
  rcases Nat.lt_or_ge K pl.bR.length with h | h
  · exfalso
    have hq:pl.bR[K]? =some pl.bR[K]:=by simp [h]
    have hm:pl.bR[K]∈pl.bR:=List.getElem_mem h
    generalize hx:pl.bR[K]=ee at hm hq
    rw[r.rU.bR,Ej] at hm
    obtain ⟨o,ho,_⟩:=hm
    have ke:ee<ops.size:=by have:=(List.getElem?_eq_some_iff.1 ho).1;simpa using this
    have:=(inv.bR K _ hq).1 (IB _ ke)
    omega
  · omega
 obtain ⟨Nf,q1,q2,q3⟩:=inv.ok
 have IC:=r.trace.last
 have ag3:qz E ops pl.order=K:=by omega
 rw[ag3,q1] at IC
 simp at IC;subst IC
 have Rs:s'.ts=o9 ops (valOf tr) s.ts d:=by
  rw[r.trace.ts]
  have h1:=Gb ops o8 s.ts tr.length
  rw[List.take_length,r.trace.is,List.take_of_length_le (by rw[←r.trace.is];simp)] at h1
  rw[h1]
  refine List.ext_getElem? (fun x=>?_)
  refine vv s.ts (fun j j' e e'=>wJ r.rU e e') (fun j hj=>?_)
  have QK:j<ops.size:=by
   unfold gU at hj
   cases ho:ops[j]? with
   | none=>rw[ho] at hj;simp at hj
   | some o=>exact (Array.getElem?_eq_some_iff.1 ho).1
  exact ⟨fun _=>IB j QK,fun _=>(f2 j QK).resolve_left (by simp)⟩
 exact ⟨φ,a,w,by rw[Rs];exact inv.ts,inv.ds,q2,q3,.one stepR_region_end⟩
theorem BQ {φ₀ φ:Ph} {w₀ w:World} {wa:List Deferred} {d:List Nat} {bX:Array Bool} {K:Nat} {a:Act} (r:Gc E call ops pl s s' tr hs st) (inv:Inv E ops pl s tr hs st φ₀ w₀ wa d bX K φ a w)
 {i:Nat} (h:i∈Region.ready .any ops bX):i<ops.size∧i ∉ d∧∀j,dC pl.an i j=true→j∈d:=by
 obtain ⟨h1,o,ho,h2⟩:=mem_ready.1 h
 have hi:i<ops.size:=(Array.getElem?_eq_some_iff.1 ho).1
 have hl:=inv.bX i hi
 refine ⟨hi,fun hd=>?_,fun j hj=>?_⟩
 · simp [hl,hd,Array.getD_eq_getD_getElem?] at h1
 · obtain ⟨e,he,hej⟩:=r.rU.closed i o j ho hj
   have hed:e∈d:=by
    unfold kt at he
    simp only[List.mem_map,List.mem_filter] at he
    obtain ⟨ed,⟨hm,hb⟩,rfl⟩:=he
    have h3:=h2 ed (by simpa using hm) hb
    have ag4:ed.on<ops.size:=by
     have:=(r.rU.direct i o ed.on ho (by unfold kt;simp only[List.mem_map,List.mem_filter];exact ⟨ed,⟨hm,hb⟩,rfl⟩)).1
     omega
    simpa [inv.bX _ ag4,Array.getD_eq_getD_getElem?] using h3
   rcases hej with rfl | hej
   · exact hed
   · exact inv.closed e hed j hej
theorem yH {φ₀ φ:Ph} {w₀ w:World} {wa:List Deferred} {d:List Nat} {bX:Array Bool} {K:Nat} {a:Act} (r:Gc E call ops pl s s' tr hs st) (inv:Inv E ops pl s tr hs st φ₀ w₀ wa d bX K φ a w)
 (h:Region.ready .any ops bX=[]):∀(n i:Nat),i<n→i<ops.size→i∈d
 | 0,i,hn,_=>by omega
 | n+1,i,hn,hi=>by
   have ih:=yH r inv h n
   by_cases hd:i∈d
   · exact hd
   · exfalso
     have ho:ops[i]? =some ops[i]:=by simp [hi]
     have:i∈Region.ready .any ops bX:=by
      refine mem_ready.2 ⟨by simp [inv.bX i hi,hd,Array.getD_eq_getD_getElem?],ops[i],ho,fun e he hb=>?_⟩
      have hm:e.on∈kt ops[i]:=by
       unfold kt;simp only[List.mem_map,List.mem_filter];exact ⟨e,⟨by simpa using he,hb⟩,rfl⟩
      have ke:=(r.rU.direct i _ e.on ho hm).1
      have:=ih e.on (by omega) (by omega)
      simp [inv.bX e.on (by omega),this,Array.getD_eq_getD_getElem?]
     rw[h] at this;simp at this
theorem Gc.real (r:Gc E call ops pl s s' tr hs st) (x:Step) (o:Oper) (hk h':au) (hx:x∈tr) (ho:ops[x.i]? =some o) (hh:hs[x.k]? =some hk) (yC:x.kind= .uw h'):dc E call x.ts hk s.rc o= .val x.v h':=by
 obtain ⟨p,hp⟩:=List.getElem?_of_mem hx
 obtain ⟨_,_,_,hk0,_⟩:=r.at hp
 obtain ⟨_,_,o',hk1,sk1,Iz,zO,hsk,iP⟩:=r.trace.step p x hp
 rw[ho] at Iz;simp at Iz;subst Iz
 rw[←hk0,hh] at zO;simp at zO;subst zO
 unfold wG at iP;rw[yC] at iP;exact iP.2.2.1
theorem ID (hE:kh E) (dg:ic E call) (r:Gc E call ops pl s s' tr hs st) {φ₀:Ph} {w₀:World} {wa:List Deferred} {b:Frame} {k:List Item} {Ks:Bool→List Frame} (gE:nh φ₀ b Ks s.rc):
 ∀(fuel t:Nat) {φ:Ph} {w:World} {d:List Nat} {bX:Array Bool} {K:Nat} {a:Act} (_:Inv E ops pl s tr hs st φ₀ w₀ wa d bX K φ a w) (_:ops.size≤d.length+fuel),
  Ge E φ₀ s.h w₀ wa b k (cur Ks s.rc) s' (lone (b.atR a (.inRegion ops (Region.linearise.go .any ops fuel t bX [])::k)) (cur Ks s.rc) w)
 | 0,t,φ,w,d,bX,K,a,inv,hf=>by
   simp only[Region.linearise.go,List.reverse_nil]
   refine IA r inv (fun i hi=>?_) b k _
   by_cases hd:i∈d
   · exact hd
   · have:=BJ ops.size (i::d) (List.nodup_cons.2 ⟨hd,inv.nd⟩) (fun x hx=>by
      simp at hx;rcases hx with rfl | hx
      · exact hi
      · exact inv.lt x hx)
     simp at this;omega
 | fuel+1,t,φ,w,d,bX,K,a,inv,hf=>by
   simp only[Region.linearise.go]
   change Ge E φ₀ s.h w₀ wa b k (cur Ks s.rc) s' (lone (b.atR a (.inRegion ops (match (Region.ready .any ops bX)[t%(Region.ready .any ops bX).length]? with
    | some i=>Region.linearise.go .any ops fuel (t/(Region.ready .any ops bX).length) (bX.setIfInBounds i true) [i]
    | none=> [].reverse)::k)) (cur Ks s.rc) w)
   cases hi:(Region.ready .any ops bX)[t%(Region.ready .any ops bX).length]? with
   | none=>
     have FV:Region.ready .any ops bX=[]:=by
      cases hr:Region.ready .any ops bX with
      | nil=>rfl
      | cons x xs=>
        rw[hr] at hi
        have ke:t%(x::xs).length<(x::xs).length:=Nat.mod_lt _ (by simp)
        simp at hi
        simp at ke
        omega
     exact IA r inv (fun i hi=>yH r inv FV _ i (Nat.lt_succ_self i) hi) b k _
   | some i=>
     simp only[]
     rw[linearise_go_acc,List.reverse_singleton,List.singleton_append]
     obtain ⟨h1,h2,h3⟩:=BQ r inv (List.mem_of_getElem? hi)
     obtain ⟨K',φ',a',w',aaz,iP⟩:=inv.Nd hE dg r gE (b:=b) (k:=k) h1 h2 h3 (fun x o hk h' hx _=>r.real x o hk h' hx) (Region.linearise.go .any ops fuel (t/(Region.ready .any ops bX).length) (bX.setIfInBounds i true) [])
     obtain ⟨φ2,a2,w2,x1,x2,x3,x4,x5⟩:=(ID hE dg r gE fuel (t/(Region.ready .any ops bX).length) aaz (by simp;omega)).is
     exact ⟨φ2,a2,w2,x1,x2,x3,x4,Steps.trans iP x5⟩
structure Gg (E:Env) (φ₀:Ph) (h₀:au) (w₀:World) (wa:List Deferred) (b:Frame) (cs:List Frame) (v:AV) (s':St) (m:Machine):Prop where
 is:∃φ' a' w' v' todo,VR φ' v v'∧LR φ' s'.ts a'.tmps.toList∧a'.defers=wa∧OK E φ' s'.h w'∧Fr φ₀ h₀ w₀ φ' s'.h w'∧Steps E.P m (lone {b.atR a' todo with mode:= .panicking [{v:=v',recovered:=false}]} cs w')
theorem OY (hE:kh E) {call:bw} (dg:ic E call) {ts:List AV} {h h':au} {rc:RC} {o:Oper} {c:Call} (hoc:o.op= .call c) {v:AV} (sA:dc E call ts h rc o= .panic v h') {i:Nat} {rest:List Nat} (ho:ops[i]? =some o)
 {φ:Ph} {a:Act} {w:World} {b:Frame} {k:List Item} {K:Bool→List Frame} (Rs:LR φ ts a.tmps.toList) (ok:OK E φ h w) (gE:nh φ b K rc) (hw:Region.wanted o (yielded ops a.tmps)=true):
 ∃φ' w' v' todo,VR φ' v v'∧OK E φ' h' w'∧Fr φ h w φ' h' w'∧Steps E.P (lone (b.atR a (.inRegion ops (i::rest)::k)) (cur K rc) w) (lone {b.atR a todo with mode:= .panicking [{v:=v',recovered:=false}]} (cur K rc) w'):=by
 have yB:=vt hE dg (rc:=rc) (o:=o) Rs ok
 have o8:rc.oq=false∨∀c,o.op≠ .defer c:= .inr (fun c e=>by rw[hoc] at e;simp at e)
 have kC:=qM gE o8 a.eval
 rw[sA] at yB
 cases yB with
 | WB v h' F args all hr hf hl run=>
   obtain ⟨n,start,hp,iP⟩:=hr φ w all ok hf hl
   obtain ⟨φ',w',v',hv,rJ,fr,je⟩:=iP (b.atR a (.inRegion ops (i::rest)::k)) (cur K rc)
   rw[Frame.raise_atR] at je
   exact ⟨φ',w',v',.inRegion ops (i::rest)::k,hv,rJ,fr,.head (go_enter kC ho hw hp (run n start hp)) je⟩
 | panic v v' hv run=>exact ⟨φ,w,v',_,hv,ok,Fr.refl _ _ _,.one (Rm kC ho hw run)⟩
theorem Em (hE:kh E) {Ek:bw} (dg:ic E Ek) (r:Gc E call ops pl s s' tr hs st) {xl:Step} (hxl:xl∈tr) {ol:Oper} (V5:ops[xl.i]? =some ol) {c:Call} (hoc:ol.op= .call c)
 (IB:∀j,j<ops.size→j≠xl.i→dC pl.an xl.i j=true) (Zb:fk E ol.op=true) (hwl:cE ops xl.ts ol=true) {hk:au} (zO:hs[xl.k]? =some hk) {v:AV} {h':au} (Rw:dc E Ek xl.ts hk s.rc ol= .panic v h')
 (El:∀(x:Step) (o:Oper) (hk h':au),x∈tr→x.i≠xl.i→ops[x.i]? =some o→hs[x.k]? =some hk→x.kind= .uw h'→dc E Ek x.ts hk s.rc o= .val x.v h')
 {s2:St} (h2:s2.h=h') (adv:s2.ts=xl.ts) {φ₀:Ph} {w₀:World} {wa:List Deferred} {b:Frame} {k:List Item} {Ks:Bool→List Frame} (gE:nh φ₀ b Ks s.rc):
 ∀(fuel t:Nat) {φ:Ph} {w:World} {d:List Nat} {bX:Array Bool} {K:Nat} {a:Act} (_:Inv E ops pl s tr hs st φ₀ w₀ wa d bX K φ a w) (_:ops.size≤d.length+fuel) (_:xl.i ∉ d),
  Gg E φ₀ s.h w₀ wa b (cur Ks s.rc) v s2 (lone (b.atR a (.inRegion ops (Region.linearise.go .any ops fuel t bX [])::k)) (cur Ks s.rc) w)
 | 0,t,φ,w,d,bX,K,a,inv,hf,o8=>by
   exfalso
   have hi:xl.i<ops.size:=(Array.getElem?_eq_some_iff.1 V5).1
   have:=BJ ops.size (xl.i::d) (List.nodup_cons.2 ⟨o8,inv.nd⟩) (fun x hx=>by
    simp at hx;rcases hx with rfl | hx
    · exact hi
    · exact inv.lt x hx)
   simp at this;omega
 | fuel+1,t,φ,w,d,bX,K,a,inv,hf,o8=>by
   have hil:xl.i<ops.size:=(Array.getElem?_eq_some_iff.1 V5).1
   simp only[Region.linearise.go]
   change Gg E φ₀ s.h w₀ wa b (cur Ks s.rc) v s2 (lone (b.atR a (.inRegion ops (match (Region.ready .any ops bX)[t%(Region.ready .any ops bX).length]? with
    | some i=>Region.linearise.go .any ops fuel (t/(Region.ready .any ops bX).length) (bX.setIfInBounds i true) [i]
    | none=> [].reverse)::k)) (cur Ks s.rc) w)
   cases hi:(Region.ready .any ops bX)[t%(Region.ready .any ops bX).length]? with
   | none=>
     have FV:Region.ready .any ops bX=[]:=by
      cases hr:Region.ready .any ops bX with
      | nil=>rfl
      | cons x xs=>
        rw[hr] at hi
        have ke:t%(x::xs).length<(x::xs).length:=Nat.mod_lt _ (by simp)
        simp at hi
        simp at ke
        omega
     exact absurd (yH r inv FV _ xl.i (Nat.lt_succ_self _) hil) o8
   | some i=>
     simp only[]
     rw[linearise_go_acc,List.reverse_singleton,List.singleton_append]
     obtain ⟨h1,h2',h3⟩:=BQ r inv (List.mem_of_getElem? hi)
     by_cases hii:i=xl.i
     · subst hii
       obtain ⟨p,hp⟩:=List.getElem?_of_mem hxl
       obtain ⟨_,q2,q3,_,o',Iz,q4,_⟩:=r.at hp
       rw[V5] at Iz;simp at Iz;subst Iz
       obtain ⟨hag,Ru⟩:=agree r hp V5 h2' inv.closed h3
       obtain ⟨hK,Za,ok,fr⟩:=inv.ok
       have Ga:=inv.BN r (q4 Zb) h2' h3
       rw[Ga,Za] at zO;simp at zO;subst zO
       rw[BI hag] at Rw
       have V7:Region.wanted ol (yielded ops a.tmps)=true:=by rw[vr inv.ts ol,Ru];exact hwl
       obtain ⟨φ',w',v',todo,hv,rJ,KC,iP⟩:=OY hE dg hoc Rw V5 (rest:=Region.linearise.go .any ops fuel (t/(Region.ready .any ops bX).length) (bX.setIfInBounds xl.i true) []) (k:=k) inv.ts ok (gE.mono fr.ext) V7
       have ag5:(tr.map (·.i)).Nodup:=by rw[r.trace.is];exact r.nodup
       have Rs:xl.ts=o9 ops (valOf tr) s.ts d:=by
        rw[(r.trace.step p xl hp).1,Gb ops ag5,r.trace.is]
        refine List.ext_getElem? (fun x=>vv s.ts (fun j j' e e'=>wJ r.rU e e') (fun j hj=>?_))
        have QK:j<ops.size:=by
         unfold gU at hj
         cases ho:ops[j]? with
         | none=>rw[ho] at hj;simp at hj
         | some o=>exact (Array.getElem?_eq_some_iff.1 ho).1
        by_cases hji:j=xl.i
        · subst hji;exact ⟨fun h=>absurd h q2,fun h=>absurd h h2'⟩
        · exact ⟨fun _=>h3 j (IB j QK hji),fun _=>q3 j (IB j QK hji)⟩
       exact ⟨φ',a,w',v',todo,hv,by rw[adv,Rs];exact inv.ts.mono KC.ext,inv.ds,by rw[h2];exact rJ,by rw[h2];exact fr.trans KC,iP⟩
     · obtain ⟨K',φ',a',w',aaz,iP⟩:=inv.Nd hE dg r gE (b:=b) (k:=k) h1 h2' h3 (fun x o hk h' hx OV=>El x o hk h' hx (by rw[OV];exact hii)) (Region.linearise.go .any ops fuel (t/(Region.ready .any ops bX).length) (bX.setIfInBounds i true) [])
       obtain ⟨φ2,a2,w2,v2,td,x0,x1,x2,x3,x4,x5⟩:=(Em hE dg r hxl V5 hoc IB Zb hwl zO Rw El h2 adv gE fuel (t/(Region.ready .any ops bX).length) aaz (by simp;omega) (by simp;exact ⟨o8,fun h=>hii h.symm⟩)).is
       exact ⟨φ2,a2,w2,v2,td,x0,x1,x2,x3,x4,Steps.trans iP x5⟩
def BR (call:bw):bw:=fun f as_ h=>match call f as_ h with
 | .panic _ h'=> .ret AV.undef h'
 | r=>r
theorem Rx {call:bw} {ts:List AV} {h h':au} {rc:RC} {o:Oper} {v:AV} (e:dc E call ts h rc o= .val v h'):dc E (BR call) ts h rc o= .val v h':=by
 obtain ⟨dst,op,ty,pos,after,guard⟩:=o
 cases op with
 | call c=>
   obtain ⟨cW,args,aT⟩:=c
   cases cW with
   | builtin b=>cases b<;>exact e
   | value f=>
     simp only[dc] at e ⊢
     split at e
     · split at e
       · exact e
       · split at e
         · rename_i hc
           simp only[BR,hc];exact e
         · simp at e
         · simp at e
     · simp at e
   | invoke x name=>
     simp only[dc] at e ⊢
     split at e
     · split at e
       · split at e
         · rename_i hc
           simp only[BR,hc];exact e
         · simp at e
         · simp at e
       · simp at e
     · simp at e
 | _=>exact e
theorem Ry {call:bw} {ts:List AV} {h h':au} {rc:RC} {dst:Option Tmp} {c:Call} {ty:TypeId} {pos:String} {after:Array Edge} {guard:Option (Nat×Bool)} {v:AV} (e:dc E call ts h rc ⟨dst,.call c,ty,pos,after,guard⟩= .panic v h'):
 dc E (BR call) ts h rc ⟨dst,.call c,ty,pos,after,guard⟩= .val AV.undef h':=by
 obtain ⟨cW,args,aT⟩:=c
 cases cW with
 | builtin b=>
   cases b<;>simp only[dc] at e<;>(try (simp at e;done))<;>(split at e<;>(try (simp at e;done))<;>(try (split at e<;>simp at e)))
 | value f=>
   simp only[dc] at e ⊢
   split at e
   · split at e
     · split at e<;>simp at e
     · split at e
       · simp at e
       · rename_i hc
         simp at e;obtain ⟨rfl,rfl⟩:=e
         simp only[BR,hc]
       · simp at e
   · simp at e
 | invoke x name=>
   simp only[dc] at e ⊢
   split at e
   · split at e
     · split at e
       · simp at e
       · rename_i hc
         simp at e;obtain ⟨rfl,rfl⟩:=e
         simp only[BR,hc]
       · simp at e
     · simp at e
   · simp at e
theorem ow {α:Type} {f:α→Option Nat}:∀{l:List α} (_:(l.filterMap f).Nodup) {x y:α} {n:Nat} (_:x∈l) (_:y∈l) (_:f x=some n) (_:f y=some n),x=y
 | [],_,x,y,n,hx,_,_,_=>by simp at hx
 | z::l,hn,x,y,n,hx,hy,fx,fy=>by
   cases hz:f z with
   | none=>
     rw[List.filterMap_cons_none hz] at hn
     have hx':x∈l:=by
      simp at hx;rcases hx with rfl | h
      · rw[hz] at fx;simp at fx
      · exact h
     have Ri:y∈l:=by
      simp at hy;rcases hy with rfl | h
      · rw[hz] at fy;simp at fy
      · exact h
     exact ow hn hx' Ri fx fy
   | some m=>
     rw[List.filterMap_cons_some hz,List.nodup_cons] at hn
     simp at hx hy
     rcases hx with rfl | hx<;>rcases hy with rfl | hy
     · rfl
     · exfalso;rw[fx] at hz;simp at hz;subst hz;exact hn.1 (List.mem_filterMap.2 ⟨y,hy,fy⟩)
     · exfalso;rw[fy] at hz;simp at hz;subst hz;exact hn.1 (List.mem_filterMap.2 ⟨x,hx,fx⟩)
     · exact ow hn.2 hx hy fx fy
theorem Rz (OM:sh E ops=some pl) (hd:cQ E call ops pl.order 0 s= .ok tr hs s') (hl:qE E ops pl tr hs=true):∃st,Gc E call ops pl s s' tr hs st:=by
 obtain ⟨st,t⟩:=ov hd
 unfold qE at hl
 simp only[Bool.and_eq_true] at hl
 refine ⟨st,Ix OM,t,fun x hx K hk h1 h2 h3=>?_,fun x y hx hy n o q e1 e2=>?_⟩
 · have h4:=List.all_eq_true.1 (List.all_eq_true.1 hl.2 x hx) hk
   refine h4 ?_
   refine List.mem_of_getElem? (i:=K - x.k) ?_
   rw[List.getElem?_take,if_pos (by omega),List.getElem?_drop,show x.k+(K - x.k)=K by omega,h3]
 · have:=vu hl.1
   have:=ow this hx hy (n:=n) (by simp [e1]) (by simp [e2])
   rw[this]
theorem vw {call En:bw} (hc:∀{ts:List AV} {h h':au} {rc:RC} {o:Oper} {v:AV},dc E call ts h rc o= .val v h'→dc E En ts h rc o= .val v h') {i:Nat} {o:Oper} (ho:ops[i]? =some o) (he:fk E o.op=true):
 ∀(l:List Nat) (k:Nat) (s:St) {tr:List Step} {hs:List au} {s1:St} {h':au} (_:cQ E call ops l k s= .ok tr hs s1) (_:cE ops s1.ts o=true) (_:dc E En s1.ts s1.h s1.rc o= .val AV.undef h'),
  cQ E En ops (l++[i]) k s= .ok (tr++[⟨i,k+(hs.length - 1),s1.ts,AV.undef,.uw h'⟩]) (hs++[h']) {s1 with ts:=dH s1.ts o.dst AV.undef,h:=h'}
 | [],k,s,tr,hs,s1,h',hd,hw,hv=>by
   simp [cQ] at hd;obtain ⟨rfl,rfl,rfl⟩:=hd
   simp only[List.nil_append,cQ,ho,he,if_true,hw,hv]
   simp [jL.bound,jL.step]
 | j::l,k,s,tr,hs,s1,h',hd,hw,hv=>by
   rw[List.cons_append]
   simp only[cQ] at hd ⊢
   cases Y_:ops[j]? with
   | none=>rw[Y_] at hd;simp at hd
   | some oj=>
   rw[Y_] at hd
   simp only at hd ⊢
   have wr:∀(x:Step) (s0:St),((cQ E call ops l (k+1) s0).bound s.h).step x= .ok tr hs s1→((cQ E En ops (l++[i]) (k+1) s0).bound s.h).step x= .ok (tr++[⟨i,k+(hs.length - 1),s1.ts,AV.undef,.uw h'⟩]) (hs++[h']) {s1 with ts:=dH s1.ts o.dst AV.undef,h:=h'}:=by
    intro x s0 hd
    cases hr:cQ E call ops l (k+1) s0 with
    | fail why q=>rw[hr] at hd;simp [jL.bound,jL.step] at hd
    | ok Nc r_ s2=>
      rw[hr] at hd;simp [jL.bound,jL.step] at hd;obtain ⟨rfl,rfl,rfl⟩:=hd
      rw[vw hc ho he l (k+1) s0 hr hw hv]
      obtain ⟨_,t⟩:=ov hr
      have:1≤r_.length:=by have:=t.len;omega
      simp [jL.bound,jL.step];omega
   have pl:∀(x:Step) (s0:St),(cQ E call ops l k s0).step x= .ok tr hs s1→(cQ E En ops (l++[i]) k s0).step x= .ok (tr++[⟨i,k+(hs.length - 1),s1.ts,AV.undef,.uw h'⟩]) (hs++[h']) {s1 with ts:=dH s1.ts o.dst AV.undef,h:=h'}:=by
    intro x s0 hd
    cases hr:cQ E call ops l k s0 with
    | fail why q=>rw[hr] at hd;simp [jL.step] at hd
    | ok Nc r_ s2=>
      rw[hr] at hd;simp [jL.step] at hd;obtain ⟨rfl,rfl,rfl⟩:=hd
      rw[vw hc ho he l k s0 hr hw hv]
      simp [jL.step]
   split at hd
   · rename_i he1
     rw[if_pos he1]
     split at hd
     · rename_i AR
       rw[if_pos AR]
       split at hd
       · rename_i Rv
         simp only[hc Rv]
         exact wr _ _ hd
       · simp at hd
       · simp at hd
     · rename_i AR
       rw[if_neg AR]
       exact wr _ _ hd
   · rename_i he1
     rw[if_neg he1]
     split at hd
     · rename_i AR
       rw[if_pos AR]
       split at hd
       · rename_i hp
         try simp only[hp]
         exact pl _ _ hd
       · rename_i hp
         try simp only[hp]
         split at hd
         · rename_i hq
           try simp only[hq]
           exact pl _ _ hd
         · rename_i hq
           try simp only[hq]
           split at hd
           · rename_i hr
             try simp only[hr]
             split at hd
             · rename_i hn
               try simp only[hn]
               exact pl _ _ hd
             · simp at hd
           · simp at hd
     · rename_i AR
       rw[if_neg AR]
       exact pl _ _ hd
theorem yI {call:bw} {i:Nat} {o:Oper} (ho:ops[i]? =some o) (he:fk E o.op=true) {v:AV}:
 ∀(l:List Nat) (k:Nat) (s:St) {tr:List Step} {hs:List au} {s1:St} {h':au} (_:cQ E call ops l k s= .ok tr hs s1) (_:cE ops s1.ts o=true) (_:dc E call s1.ts s1.h s1.rc o= .panic v h'),
  ∃why q,cQ E call ops (l++[i]) k s= .fail why q
 | [],k,s,tr,hs,s1,h',hd,hw,hv=>by
   simp [cQ] at hd;obtain ⟨rfl,rfl,rfl⟩:=hd
   simp only[List.nil_append,cQ,ho,he,if_true,hw,hv]
   exact ⟨_,_,rfl⟩
 | j::l,k,s,tr,hs,s1,h',hd,hw,hv=>by
   rw[List.cons_append]
   simp only[cQ] at hd ⊢
   cases Y_:ops[j]? with
   | none=>rw[Y_] at hd;simp at hd
   | some oj=>
   rw[Y_] at hd
   simp only at hd ⊢
   have wr:∀(x:Step) (s0:St),((cQ E call ops l (k+1) s0).bound s.h).step x= .ok tr hs s1→∃why q,((cQ E call ops (l++[i]) (k+1) s0).bound s.h).step x= .fail why q:=by
    intro x s0 hd
    cases hr:cQ E call ops l (k+1) s0 with
    | fail why q=>rw[hr] at hd;simp [jL.bound,jL.step] at hd
    | ok Nc r_ s2=>
      rw[hr] at hd;simp [jL.bound,jL.step] at hd;obtain ⟨rfl,rfl,rfl⟩:=hd
      obtain ⟨why,q,e⟩:=yI ho he l (k+1) s0 hr hw hv
      rw[e];exact ⟨_,_,rfl⟩
   have pl:∀(x:Step) (s0:St),(cQ E call ops l k s0).step x= .ok tr hs s1→∃why q,(cQ E call ops (l++[i]) k s0).step x= .fail why q:=by
    intro x s0 hd
    cases hr:cQ E call ops l k s0 with
    | fail why q=>rw[hr] at hd;simp [jL.step] at hd
    | ok Nc r_ s2=>
      rw[hr] at hd;simp [jL.step] at hd;obtain ⟨rfl,rfl,rfl⟩:=hd
      obtain ⟨why,q,e⟩:=yI ho he l k s0 hr hw hv
      rw[e];exact ⟨_,_,rfl⟩
   split at hd
   · rename_i he1
     rw[if_pos he1]
     split at hd
     · rename_i AR
       rw[if_pos AR]
       split at hd
       · rename_i Rv
         try simp only[Rv]
         exact wr _ _ hd
       · simp at hd
       · simp at hd
     · rename_i AR
       rw[if_neg AR]
       exact wr _ _ hd
   · rename_i he1
     rw[if_neg he1]
     split at hd
     · rename_i AR
       rw[if_pos AR]
       split at hd
       · rename_i hp
         try simp only[hp]
         exact pl _ _ hd
       · rename_i hp
         try simp only[hp]
         split at hd
         · rename_i hq
           try simp only[hq]
           exact pl _ _ hd
         · rename_i hq
           try simp only[hq]
           split at hd
           · rename_i hr
             try simp only[hr]
             split at hd
             · rename_i hn
               try simp only[hn]
               exact pl _ _ hd
             · simp at hd
           · simp at hd
     · rename_i AR
       rw[if_neg AR]
       exact pl _ _ hd
end
theorem BS {call:bw} {ops:Array Oper} {pl:lY} {s s':St} {tr:List Step} {qI st:List au} (r:Gc E call ops pl s s' tr qI st)
 {φ:Ph} {a:Act} {w:World} (Rs:LR φ s.ts a.tmps.toList) (ok:OK E φ s.h w):Inv E ops pl s tr qI st φ w a.defers [] (Array.replicate ops.size false) 0 φ a {w with drawn:=w.drawn+1}:=by
 have IE:OK E φ s.h {w with drawn:=w.drawn+1}:=⟨ok.AO,ok.nx,ok.vl,ok.live,ok.inj⟩
 have fr1:Fr φ s.h w φ s.h {w with drawn:=w.drawn+1}:=⟨Ph.le_refl φ,fun _ _=>rfl,Nat.le_refl _,rfl,rfl,rfl,Nat.le_refl _,fun _ _ _=>rfl,fun i o l a b c=> .inr ⟨i,o,l,a,b,c,rfl⟩⟩
 have hlen:0<qI.length:=by have:=r.trace.len;omega
 have h0:qI[0]? =some qI[0]:=by simp [hlen]
 have g:=r.trace.grown 0 s.h _ r.trace.first h0
 obtain ⟨BP,fr2⟩:=IE.grown g
 refine ⟨.nil,fun i hi=>by simp at hi,fun i hi=>by simp [hi],fun i hi=>by simp at hi,fun q e hq=>by simp,by omega,by simpa [o9] using Rs,rfl,⟨_,h0,BP,fr1.trans fr2⟩,fun x hx n obj hk _ hk0=>?_⟩
 obtain ⟨q,hq⟩:=List.getElem?_of_mem hx
 obtain ⟨_,_,_,hky,oy,hoy,_,_⟩:=r.at hq
 obtain ⟨_,_,oy',agX,agY,agZ,DH,DI,Lh⟩:=r.trace.step q x hq
 rw[←hky] at DH DI
 have Ga:x.k=0:=by omega
 rw[Ga] at DH DI
 rw[r.trace.first] at DI;simp at DI;subst DI
 unfold wG at Lh
 rw[hk] at Lh
 obtain ⟨_,_,_,hn1,Ng⟩:=Lh
 refine ⟨?_,hn1,fun hK e=>?_⟩
 · cases hφ:φ n with
   | none=>rfl
   | some l=>have:=ok.AO n l hφ;omega
 · rw[e] at DH;simp at DH;subst DH;exact Ng
theorem IF (hE:kh E) (ag7:E.P.follows .mixedOrders=true) {call:bw} (dg:ic E call) {ops:Array Oper} {s s':St} {e:hZ} (h:wh E call ops s= .ok e s')
 {φ:Ph} {a:Act} {w:World} {b:Frame} {k:List Item} {K:Bool→List Frame} (hs:SR φ s.ts s.ds a) (ok:OK E φ s.h w) (gE:nh φ b K s.rc) (id:Nat):
 s'.rc=s.rc∧s'.ds=s.ds∧((e= .normal∧∃φ' a' w',LR φ' s'.ts a'.tmps.toList∧a'.defers=a.defers∧OK E φ' s'.h w'∧Fr φ s.h w φ' s'.h w'∧
  Steps E.P (lone (b.atR a (.code (.region id ops true)::k)) (cur K s.rc) w) (lone (b.atR a' k) (cur K s.rc) w'))∨
  ∃v,e= .panic v∧Gg E φ s.h w a.defers b (cur K s.rc) v s' (lone (b.atR a (.code (.region id ops true)::k)) (cur K s.rc) w)):=by
 have adw:Region.schedule (E.P.follows .mixedOrders) ops (w.tape w.drawn (.order b.fn id))=Region.linearise.go .any ops ops.size (w.tape w.drawn (.order b.fn id)) (Array.replicate ops.size false) []:=by
  rw[ag7];rfl
 unfold wh at h
 split at h
 · simp at h
 rename_i pl OM
 split at h
 · rename_i tr qI s1 hd
   split at h
   · rename_i hl
     simp at h;obtain ⟨rfl,rfl⟩:=h
     obtain ⟨st,r⟩:=Rz OM hd hl
     refine ⟨r.trace.rc,r.trace.ds,.inl ⟨rfl,?_⟩⟩
     obtain ⟨φ',a',w',x1,x2,x3,x4,x5⟩:=(ID hE dg r gE (b:=b) (k:=k) ops.size (w.tape w.drawn (.order b.fn id)) (BS r hs.ts ok) (by simp)).is
     refine ⟨φ',a',w',x1,x2,x3,x4,.head stepR_region_draw ?_⟩
     rw[adw]
     exact x5
   · simp at h
 · split at h
   · rename_i v s2 hp
     simp at h;obtain ⟨rfl,rfl⟩:=h
     unfold Br at hp
     split at hp
     · simp at hp
     rename_i i front WH
     split at hp
     · rename_i tr qI s1 dst c ty pos after guard hd ho
       split at hp
       · rename_i FZ
         split at hp
         · rename_i v1 h1 Rv
           split at hp
           · rename_i hl
             simp at hp;obtain ⟨rfl,rfl⟩:=hp
             simp only[Bool.and_eq_true,List.all_eq_true,List.mem_range,Bool.or_eq_true,beq_iff_eq] at FZ
             obtain ⟨⟨he,hw⟩,IB⟩:=FZ
             have Rr:pl.order=front.reverse++[i]:=by
              have:=congrArg List.reverse WH
              simpa using this
             have WI:=vw (En:=BR call) (fun e=>Rx e) ho he front.reverse 0 s hd hw (Ry Rv)
             rw[←Rr] at WI
             rw[Nat.zero_add] at WI
             obtain ⟨st,r⟩:=Rz OM WI hl
             obtain ⟨st1,t1⟩:=ov hd
             have adx:s1.rc=s.rc:=t1.rc
             refine ⟨adx,t1.ds,.inr ⟨_,rfl,?_⟩⟩
             have hlen:1≤qI.length:=by have:=t1.len;omega
             have IC:(qI++[h1])[qI.length - 1]? =some s1.h:=by
              rw[List.getElem?_append_left (by omega)]
              have:=t1.last
              rw[show qI.length - 1=qz E ops front.reverse by have:=t1.len;omega];exact this
             have El:∀(x:Step) (o:Oper) (hk h':au),x∈tr++[⟨i,qI.length - 1,s1.ts,AV.undef,.uw h1⟩]→x.i≠i→ops[x.i]? =some o→(qI++[h1])[x.k]? =some hk→x.kind= .uw h'→dc E call x.ts hk s.rc o= .val x.v h':=by
              intro x o hk h' hx OV Iz zO yC
              have hx':x∈tr:=by
               simp at hx;rcases hx with h | h
               · exact h
               · exact absurd (by rw[h]) OV
              obtain ⟨p,hp⟩:=List.getElem?_of_mem hx'
              obtain ⟨_,hk0,o',hk1,sk1,ho2,aaA,hsk,iP⟩:=t1.step p x hp
              rw[Iz] at ho2;simp at ho2;subst ho2
              rw[Nat.zero_add] at hk0
              rw[←hk0] at aaA
              have ke:x.k<qI.length:=(List.getElem?_eq_some_iff.1 aaA).1
              rw[List.getElem?_append_left ke,aaA] at zO
              simp at zO;subst zO
              unfold wG at iP;rw[yC] at iP;exact iP.2.2.1
             have ag8:=(Em hE dg r (xl:=⟨i,qI.length - 1,s1.ts,AV.undef,.uw h1⟩) (by simp) (ol:=⟨dst,.call c,ty,pos,after,guard⟩) ho rfl (fun j hj dR=>(IB j hj).resolve_left dR) he hw IC (by rw[←adx];exact Rv) El
              (s2:={s1 with h:=h1}) rfl rfl gE (b:=b) (k:=k) ops.size (w.tape w.drawn (.order b.fn id)) (BS r hs.ts ok) (by simp) (by simp)).is
             obtain ⟨φ',a',w',v',todo,x0,x1,x2,x3,x4,x5⟩:=ag8
             refine ⟨φ',a',w',v',todo,x0,x1,x2,x3,x4,.head stepR_region_draw ?_⟩
             rw[adw]
             exact x5
           · simp at hp
         · simp at hp
       · simp at hp
     · simp at hp
   · simp at h
end Go.Ab
end
