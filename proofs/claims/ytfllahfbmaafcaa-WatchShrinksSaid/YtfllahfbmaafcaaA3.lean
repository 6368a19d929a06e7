import Derived.Orders
import Derived.Test.YtfllahfbmaafcaaA2
set_option linter.unusedVariables false
set_option linter.unusedSimpArgs false
section
namespace Go.Ab
variable {E:Env}
def me (E:Env) (ts iN:List AV) (op:Op):Prop:=∀x∈op.operands,du E ts x=du E iN x
theorem tV {α β:Type} {f g:α→Option β}:∀{l:List α} (_:∀x∈l,f x=g x),dC f l=dC g l
 | [],_=>rfl
 | x::xs,h=>by simp only[dC,h x (by simp),tV (l:=xs) (fun y hy=>h y (by simp [hy]))]
theorem na {ts iN:List AV} {l:List Operand} (h:∀x∈l,du E ts x=du E iN x):eQ E ts l=eQ E iN l:=tV h
theorem oP {ts iN:List AV}:∀{l:List (Nat×Operand)} (_:∀x∈l.map (·.2),du E ts x=du E iN x),iK E ts l=iK E iN l
 | [],_=>rfl
 | (i,o)::l,h=>by simp only[iK,h o (by simp),oP (l:=l) (fun y hy=>h y (by simp at hy ⊢;exact .inr hy))]
theorem qj {ts iN:List AV} {o:Option Operand} (h:∀x∈o.toArray,du E ts x=du E iN x):kJ E ts o=kJ E iN o:=by
 cases o with
 | none=>rfl
 | some o=>simp only[kJ,h o (by simp)]
theorem tW {ts iN:List AV} {c:Call} (h:∀x∈c.operands,du E ts x=du E iN x):callee E ts c=callee E iN c:=by
 unfold callee
 cases hc:c.callee with
 | value f=>
   have h1:du E ts f=du E iN f:=h f (by simp [Call.operands,hc])
   have h2:eQ E ts c.args.toList=eQ E iN c.args.toList:=na (fun x hx=>h x (by simp [Call.operands,hc];exact .inr (by simpa using hx)))
   simp only[h1,h2]
 | invoke _ _=>rfl
 | builtin _=>rfl
theorem lA {ts iN:List AV} {c:Call} (h:∀x∈c.operands,du E ts x=du E iN x):eQ E ts c.args.toList=eQ E iN c.args.toList:=
 na (fun x hx=>h x (by simp [Call.operands];exact .inr (by simpa using hx)))
theorem Et {ts iN:List AV} {op:Op} (h:me E ts iN op):bk E ts op=bk E iN op:=by
 cases op with
 | call c=>
   have hc:=lA (E:=E) (ts:=ts) (iN:=iN) (c:=c) h
   obtain ⟨callee,args,argTypes⟩:=c
   simp only at hc
   cases callee with
   | builtin b=>cases b<;>simp only[bk,hc]
   | value f=>cases f<;>simp only[bk,hc]
   | invoke r m=>simp only[bk]
 | build t ps=>
   have:iK E ts ps.toList=iK E iN ps.toList:=oP (fun x hx=>h x (by simpa [Op.operands] using hx))
   simp only[bk,this]
 | makeFunc fn first captured=>
   cases fn with
   | func f=>
     have h1:eQ E ts first.toList=eQ E iN first.toList:=na (fun x hx=>h x (by simp [Op.operands];exact .inl (by simpa using hx)))
     have h2:eQ E ts captured.toList=eQ E iN captured.toList:=na (fun x hx=>h x (by simp [Op.operands];exact .inr (by simpa using hx)))
     simp only[bk,h1,h2]
   | _=>simp only[bk]
 | slice t x lo hi mx=>
   have h0:du E ts x=du E iN x:=h x (by simp [Op.operands])
   have h1:kJ E ts lo=kJ E iN lo:=qj (fun y hy=>h y (by simp [Op.operands] at hy ⊢;exact .inr (.inl hy)))
   have h2:kJ E ts hi=kJ E iN hi:=qj (fun y hy=>h y (by simp [Op.operands] at hy ⊢;exact .inr (.inr (.inl hy))))
   have h3:kJ E ts mx=kJ E iN mx:=qj (fun y hy=>h y (by simp [Op.operands] at hy ⊢;exact .inr (.inr (.inr hy))))
   simp only[bk,h0,h1,h2,h3]
 | move x=>simp only[bk,h x (by simp [Op.operands])]
 | assign x=>simp only[bk,h x (by simp [Op.operands])]
 | pick c a b=>simp only[bk,h c (by simp [Op.operands]),h a (by simp [Op.operands]),h b (by simp [Op.operands])]
 | nilCheck x=>simp only[bk,h x (by simp [Op.operands])]
 | binOp o t x y u=>simp only[bk,h x (by simp [Op.operands]),h y (by simp [Op.operands])]
 | unOp o t x=>simp only[bk,h x (by simp [Op.operands])]
 | convert s d x=>simp only[bk,h x (by simp [Op.operands])]
 | makeInterface t x=>simp only[bk,h x (by simp [Op.operands])]
 | fieldAddr s x f=>simp only[bk,h x (by simp [Op.operands])]
 | field s x f=>simp only[bk,h x (by simp [Op.operands])]
 | indexAddr t x i=>simp only[bk,h x (by simp [Op.operands]),h i (by simp [Op.operands])]
 | index t x i=>simp only[bk,h x (by simp [Op.operands]),h i (by simp [Op.operands])]
 | extract x i=>simp only[bk,h x (by simp [Op.operands])]
 | typeAssert x a b ok=>simp only[bk,h x (by simp [Op.operands])]
 | _=>simp only[bk]
theorem Eu {ts iN:List AV} {op:Op} (h:me E ts iN op) (hp:au):dh E ts hp op=dh E iN hp op:=by
 cases op with
 | call c=>
   have hc:=lA (E:=E) (ts:=ts) (iN:=iN) (c:=c) h
   obtain ⟨callee,args,argTypes⟩:=c
   simp only at hc
   cases callee with
   | builtin b=>cases b<;>simp only[dh,hc]
   | value f=>simp only[dh]
   | invoke r m=>simp only[dh]
 | load t a=>simp only[dh,h a (by simp [Op.operands])]
 | convert s d x=>simp only[dh,h x (by simp [Op.operands])]
 | lookup t x i ok=>simp only[dh,h x (by simp [Op.operands]),h i (by simp [Op.operands])]
 | _=>simp only[dh]
theorem CG {ts iN:List AV} {op:Op} (h:me E ts iN op):dv E ts op=dv E iN op:=by
 cases op with
 | buildSlice t n ps=>
   have:iK E ts ps.toList=iK E iN ps.toList:=oP (fun x hx=>h x (by simpa [Op.operands] using hx))
   simp only[dv,this]
 | box t x=>simp only[dv,h x (by simp [Op.operands])]
 | makeSlice t l c=>simp only[dv,h l (by simp [Op.operands]),h c (by simp [Op.operands])]
 | makeMap t r=>
   cases r with
   | none=>simp only[dv]
   | some r=>simp only[dv,h r (by simp [Op.operands])]
 | range t x=>simp only[dv,h x (by simp [Op.operands])]
 | _=>simp only[dv]
theorem yI {call:aW} {ts iN:List AV} {o:Oper} (h:me E ts iN o.op) (hp:au) (rc:RC):cI E call ts hp rc o=cI E call iN hp rc o:=by
 obtain ⟨dst,op,ty,pos,after,guard⟩:=o
 simp only at h
 unfold cI
 cases op with
 | call c=>
   have hc:=lA (E:=E) (ts:=ts) (iN:=iN) (c:=c) h
   have AQ:=tW (E:=E) (ts:=ts) (iN:=iN) (c:=c) h
   cases V7:c.callee with
   | invoke r name=>
     have hr:du E ts r=du E iN r:=h r (by simp [Op.operands,Call.operands,V7])
     simp only[V7,hc,hr]
   | builtin b=>cases b<;>simp only[V7,hc]
   | value f=>simp only[V7,AQ]
 | defer c=>simp only[tW (E:=E) (ts:=ts) (iN:=iN) (c:=c) h]
 | store t a x=>simp only[h a (by simp [Op.operands]),h x (by simp [Op.operands])]
 | mapUpdate t m k x=>simp only[h m (by simp [Op.operands]),h k (by simp [Op.operands]),h x (by simp [Op.operands])]
 | insert t m k x=>simp only[h m (by simp [Op.operands]),h k (by simp [Op.operands]),h x (by simp [Op.operands])]
 | mapEntry t m k=>simp only[h m (by simp [Op.operands]),h k (by simp [Op.operands])]
 | entryStore t m k x=>simp only[h m (by simp [Op.operands]),h k (by simp [Op.operands]),h x (by simp [Op.operands])]
 | convert s d x=>simp only[h x (by simp [Op.operands])]
 | next i s=>simp only[h i (by simp [Op.operands])]
 | panic x=>simp only[h x (by simp [Op.operands])]
 | _=>rfl
end Go.Ab
end
section
namespace Go.Ab
variable {E:Env}
theorem kN {α:Type} {f:α→α→Bool} (hf:∀x y,f x y=true→x=y):∀{l r:List α} (_:cg f l r=true),l=r
 | [],[],_=>rfl
 | [],_::_,h=>by simp [cg] at h
 | _::_,[],h=>by simp [cg] at h
 | x::xs,y::ys,h=>by
   simp only[cg,Bool.and_eq_true] at h
   rw[hf x y h.1,kN hf h.2]
theorem AV.tX:∀(n:Nat) (x y:AV),AV.same n x y=true→x=y
 | 0,_,_,h=>by simp [AV.same] at h
 | n+1,x,y,h=>by
   have ih:=AV.tX n
   cases x<;>cases y<;>simp [AV.same] at h<;>try rfl
   all_goals first
    | (subst h;rfl)
    | (obtain ⟨rfl,rfl⟩:=h;rfl)
    | (obtain ⟨⟨⟨⟨rfl,rfl⟩,rfl⟩,rfl⟩,rfl⟩:=h;rfl)
    | (obtain ⟨⟨rfl,h1⟩,h2⟩:=h;rw[kN ih h1,kN ih h2])
    | (obtain ⟨rfl,h1⟩:=h;rw[ih _ _ h1])
    | (rw[kN ih h])
theorem aR.tX {x y:aR} (h:aR.same x y=true):x=y:=by
 unfold aR.same at h
 split at h
 · simp only[Bool.and_eq_true,beq_iff_eq] at h
   obtain ⟨⟨h1,rfl⟩,rfl⟩:=h
   rw[kN (AV.tX 20) h1]
 · simp at h;subst h;rfl
 · simp at h;obtain ⟨rfl,rfl⟩:=h;rfl
 · simp at h
theorem sW:∀{l:List Nat} (_:nodup l=true),l.Nodup
 | [],_=> .nil
 | x::xs,h=>by
   simp only[nodup,Bool.and_eq_true,Bool.not_eq_true',List.contains_eq_mem,decide_eq_false_iff_not] at h
   exact List.nodup_cons.2 ⟨h.1,sW h.2⟩
theorem yJ:∀(n:Nat) (l:List Nat) (_:l.Nodup) (_:∀x∈l,x<n),l.length≤n
 | 0,l,_,h=>by
   cases l with
   | nil=>simp
   | cons x _=>have:=h x (by simp);omega
 | n+1,l,hn,h=>by
   have h1:=yJ n (l.erase n) (hn.erase n) (fun x hx=>by
    have h2:=h x (List.mem_of_mem_erase hx)
    have h3:x≠n:=(hn.mem_erase_iff.1 hx).1
    omega)
   rw[List.length_erase] at h1
   split at h1<;>omega
structure yK (E:Env) (ops:Array Oper) (pl:kh):Prop where
 lt:∀i o j,ops[i]? =some o→cU pl.an i j=true→j<i
 direct:∀i o e,ops[i]? =some o→e∈jg o→e<i∧cU pl.an i e=true
 closed:∀i o j,ops[i]? =some o→cU pl.an i j=true→∃e∈jg o,e=j∨cU pl.an e j=true
 guard:∀i o g want,ops[i]? =some o→o.guard=some (g,want)→cU pl.an i g=true
 slot:∀i j o p d,i≠j→ops[i]? =some o→ops[j]? =some p→p.dst=some d→o.dst≠some d∧(d∈tmpsOf o→cU pl.an i j=true∨cU pl.an j i=true)
 chain:∀q e f,pl.bD[q]? =some e→pl.bD[q+1]? =some f→cU pl.an f e=true
 bD:pl.bD=lr E ops.toList
 nd:pl.bD.Nodup
 order:jh E ops pl.an pl.bD pl.order [] 0=true
theorem rB {ops:Array Oper} {i:Nat} {o:Oper} (h:ops[i]? =some o):(o,i)∈ops.toList.zipIdx:=by
 rw[List.mk_mem_zipIdx_iff_getElem?];simpa using h
theorem tY {an:List (List Nat)}:∀{l:List Nat} (_:rp an l=true) (q e f:Nat),l[q]? =some e→l[q+1]? =some f→cU an f e=true
 | [],_,q,e,f,h,_=>by simp at h
 | [x],_,q,e,f,h,h'=>by simp at h'
 | x::y::l,hc,q,e,f,h,h'=>by
   simp only[rp,Bool.and_eq_true] at hc
   cases q with
   | zero=>simp at h h';subst h;subst h';exact hc.1
   | succ q=>exact tY hc.2 q e f (by simpa using h) (by simpa using h')
theorem Ew {ops:Array Oper} {pl:kh} (h:p8 E ops=some pl):yK E ops pl:=by
 unfold p8 at h
 simp only at h
 split at h
 · rename_i hc
   simp at h;subst h
   simp only[Bool.and_eq_true] at hc
   obtain ⟨⟨⟨⟨he,hs⟩,Wf⟩,mS⟩,Ny⟩:=hc
   have GF:=List.all_eq_true.1 he
   have oJ:=List.all_eq_true.1 hs
   refine ⟨fun i o j ho hj=>?_,fun i o e ho hm=>?_,fun i o j ho hj=>?_,fun i o g want ho hg=>?_,fun i j o p d dD ho hp hd=>?_,tY Wf,rfl,sW mS,Ny⟩
   · have:=GF _ (rB ho)
     simp only[Bool.and_eq_true] at this
     have h2:=List.all_eq_true.1 this.2 j (by simpa [cU] using hj)
     simp only[Bool.and_eq_true,decide_eq_true_eq] at h2
     exact h2.1
   · have:=GF _ (rB ho)
     simp only[Bool.and_eq_true] at this
     have h2:=List.all_eq_true.1 this.1 e hm
     simpa using h2
   · have:=GF _ (rB ho)
     simp only[Bool.and_eq_true] at this
     have h2:=List.all_eq_true.1 this.2 j (by simpa [cU] using hj)
     simp only[Bool.and_eq_true,List.any_eq_true,Bool.or_eq_true,beq_iff_eq] at h2
     exact h2.2
   · have:=oJ _ (rB ho)
     simp only[Bool.and_eq_true,hg] at this
     exact this.1.1
   · have:=oJ _ (rB ho)
     simp only[Bool.and_eq_true] at this
     have h2:=List.all_eq_true.1 this.2 _ (rB hp)
     simp only[Bool.or_eq_true,beq_iff_eq,dD,false_or,hd,Bool.and_eq_true,bne_iff_ne,Bool.not_eq_true',List.contains_eq_mem,decide_eq_false_iff_not] at h2
     exact ⟨h2.1,fun hm=>(h2.2.imp_left (fun x=>x.resolve_left (fun hn=>hn hm)))⟩
 · simp at h
def oB (E:Env) (ops:Array Oper) (l:List Nat):Nat:=(l.filter fun i=>et E ((ops.getD i default).op)).length
theorem CH {ops:Array Oper} {i:Nat} (l:List Nat) (h:et E ((ops.getD i default).op)=true):oB E ops (i::l)=oB E ops l+1:=by
 unfold oB;rw[List.filter_cons_of_pos (p:=fun i=>et E ((ops.getD i default).op)) h];rfl
theorem CI {ops:Array Oper} {i:Nat} (l:List Nat) (h:¬et E ((ops.getD i default).op)=true):oB E ops (i::l)=oB E ops l:=by
 unfold oB;rw[List.filter_cons_of_neg (p:=fun i=>et E ((ops.getD i default).op)) h]
theorem gI {ops:Array Oper} {an:List (List Nat)} {bD:List Nat}:∀{l seen:List Nat} {k:Nat} (_:jh E ops an bD l seen k=true),
 (∀p i,l[p]? =some i→i<ops.size∧i ∉ seen∧i ∉ l.take p∧(∀j,cU an i j=true→j∈seen∨j∈l.take p)∧
  (et E ((ops.getD i default).op)=true→bD[k+oB E ops (l.take p)]? =some i)∧(et E ((ops.getD i default).op)=false→Cl bD an i=k+oB E ops (l.take p)))∧
 (∀i,i<ops.size→i∈seen∨i∈l)∧k+oB E ops l=bD.length
 | [],seen,k,h=>by
   simp only[jh,Bool.and_eq_true,List.all_eq_true,List.mem_range,beq_iff_eq] at h
   exact ⟨fun p i hp=>by simp at hp,fun i hi=> .inl (by simpa using h.1 i hi),by simpa [oB] using h.2⟩
 | i::l,seen,k,h=>by
   simp only[jh,Bool.and_eq_true,decide_eq_true_eq,Bool.not_eq_true',List.contains_eq_mem,decide_eq_false_iff_not] at h
   obtain ⟨⟨⟨jE,hns⟩,Wi⟩,l7⟩:=h
   have US:∀j,cU an i j=true→j∈seen:=fun j hj=>by
    have:=List.all_eq_true.1 Wi j (by simpa [cU] using hj)
    simpa using this
   by_cases he:et E ((ops.getD i default).op)=true
   · simp only[he,if_true,Bool.and_eq_true,beq_iff_eq] at l7
     obtain ⟨h1,h2,h3⟩:=gI l7.2
     refine ⟨fun p j hp=>?_,fun j hj=>?_,?_⟩
     · cases p with
       | zero=>simp at hp;subst hp;exact ⟨jE,hns,by simp,fun j hj=> .inl (US j hj),fun _=>by simpa [oB] using l7.1,fun hf=>by rw[he] at hf;simp at hf⟩
       | succ p=>
         obtain ⟨a1,a2,a3,a4,a5,a6⟩:=h1 p j (by simpa using hp)
         have hc:k+oB E ops (List.take (p+1) (i::l))=k+1+oB E ops (l.take p):=by rw[List.take_succ_cons,CH _ he];omega
         simp only[List.mem_cons,not_or] at a2
         refine ⟨a1,a2.2,by simp;exact ⟨a2.1,a3⟩,fun m hm=>?_,by rw[hc];exact a5,by rw[hc];exact a6⟩
         rcases a4 m hm with h4 | h4
         · simp at h4;rcases h4 with rfl | h4
           · exact .inr (by simp)
           · exact .inl h4
         · exact .inr (by simp [h4])
     · rcases h2 j hj with h4 | h4
       · simp at h4;rcases h4 with rfl | h4
         · exact .inr (by simp)
         · exact .inl h4
       · exact .inr (by simp [h4])
     · rw[CH _ he];omega
   · simp only[he,Bool.false_eq_true,if_false,Bool.and_eq_true,beq_iff_eq] at l7
     obtain ⟨h1,h2,h3⟩:=gI l7.2
     refine ⟨fun p j hp=>?_,fun j hj=>?_,?_⟩
     · cases p with
       | zero=>simp at hp;subst hp;exact ⟨jE,hns,by simp,fun j hj=> .inl (US j hj),fun hf=>absurd hf he,fun _=>by simpa [oB] using l7.1⟩
       | succ p=>
         obtain ⟨a1,a2,a3,a4,a5,a6⟩:=h1 p j (by simpa using hp)
         have hc:k+oB E ops (List.take (p+1) (i::l))=k+oB E ops (l.take p):=by rw[List.take_succ_cons,CI _ he]
         simp only[List.mem_cons,not_or] at a2
         refine ⟨a1,a2.2,by simp;exact ⟨a2.1,a3⟩,fun m hm=>?_,by rw[hc];exact a5,by rw[hc];exact a6⟩
         rcases a4 m hm with h4 | h4
         · simp at h4;rcases h4 with rfl | h4
           · exact .inr (by simp)
           · exact .inl h4
         · exact .inr (by simp [h4])
     · rcases h2 j hj with h4 | h4
       · simp at h4;rcases h4 with rfl | h4
         · exact .inr (by simp)
         · exact .inl h4
       · exact .inr (by simp [h4])
     · rw[CI _ he];exact h3
def fJ (ops:Array Oper) (i:Nat):Option Tmp:=(ops[i]?).bind (·.dst)
def CJ (ops:Array Oper) (ts:List AV) (l:List Step):List AV:=l.foldl (fun ts x=>c_ ts (fJ ops x.i) x.v) ts
def mT (ops:Array Oper) (val:Nat→AV) (ts:List AV) (l:List Nat):List AV:=l.foldl (fun ts i=>c_ ts (fJ ops i) (val i)) ts
structure Grown (a b:au):Prop where
 nx:a.nx≤b.nx
 old:∀i,i<a.nx→b.get i=a.get i
theorem Grown.refl (a:au):Grown a a:=⟨Nat.le_refl _,fun _ _=>rfl⟩
theorem Grown.trans {a b c:au} (x:Grown a b) (y:Grown b c):Grown a c:=⟨Nat.le_trans x.nx y.nx,fun i hi=>(y.old i (Nat.lt_of_lt_of_le hi x.nx)).trans (x.old i hi)⟩
theorem Grown.new {a b:au} {o:aR} (h:a.new o=some b):Grown a b:=by
 obtain ⟨h1,h2,h3,h4⟩:=au.jK h
 exact ⟨by omega,fun i hi=>h4 i (by omega)⟩
theorem OK.grown {φ:Ph} {a b:au} {w:World} (g:Grown a b) (ok:OK E φ a w):OK E φ b w∧Fr φ a w φ b w:=by
 have hold:∀i l,φ i=some l→b.get i=a.get i:=fun i l hl=>g.old i (ok.xz i l hl)
 refine ⟨⟨fun i l hl=>Nat.lt_of_lt_of_le (ok.xz i l hl) g.nx,Nat.le_trans ok.nx g.nx,ok.sM,fun i o l hi hl=>ok.live i o l (hold i l hl▸hi) hl,
  fun i j o p l m hi hj hl hm hw hb=>ok.inj i j o p l m (hold i l hl▸hi) (hold j m hm▸hj) hl hm hw hb⟩,
  ⟨Ph.le_refl φ,fun _ _=>rfl,g.nx,rfl,rfl,rfl,Nat.le_refl _,fun _ _ _=>rfl,fun i o l hi hr hl=> .inr ⟨i,o,l,hold i l hl▸hi,hr,hl,rfl⟩⟩⟩
def tZ (E:Env) (call:aW) (ops:Array Oper) (rc:RC) (x:Step) (o:Oper) (hk:au) (sk:au) (UT:Option au):Prop:=
 match x.kind with
 | .off=>b_ ops x.ts o=false∧x.v=AV.undef∧(et E o.op=true→UT=some hk)
 | .fF=>et E o.op=false∧b_ ops x.ts o=true∧bk E x.ts o.op=some x.v
 | .red=>et E o.op=false∧b_ ops x.ts o=true
 | .p_ n obj=>et E o.op=false∧b_ ops x.ts o=true∧(∃mk,dv E x.ts o.op=some (obj,mk)∧x.v=mk n)∧sk.nx≤n∧n<hk.nx
 | .rW h'=>et E o.op=true∧b_ ops x.ts o=true∧cI E call x.ts hk rc o= .val x.v h'∧UT=some h'
structure Sh (E:Env) (call:aW) (ops:Array Oper) (s:St) (k:Nat) (order:List Nat) (tr:List Step) (hs st:List au) (s':St):Prop where
 is:tr.map (·.i)=order
 ts:s'.ts=CJ ops s.ts tr
 ds:s'.ds=s.ds
 rc:s'.rc=s.rc
 len:hs.length=oB E ops order+1
 Wj:st.length=hs.length
 first:st[0]? =some s.h
 last:hs[oB E ops order]? =some s'.h
 grown:∀(j:Nat) (a b:au),st[j]? =some a→hs[j]? =some b→Grown a b
 step:∀(p:Nat) (x:Step),tr[p]? =some x→x.ts=CJ ops s.ts (tr.take p)∧x.k=k+oB E ops (order.take p)∧
  ∃o hk sk,ops[x.i]? =some o∧hs[oB E ops (order.take p)]? =some hk∧st[oB E ops (order.take p)]? =some sk∧tZ E call ops s.rc x o hk sk (st[oB E ops (order.take p)+1]?)
theorem rC (ops:Array Oper) (ts:List AV) (x:Step) (l:List Step):CJ ops ts (x::l)=CJ ops (c_ ts (fJ ops x.i) x.v) l:=rfl
theorem mf {call:aW} {ops:Array Oper}:∀{order:List Nat} {k:Nat} {s:St} {tr:List Step} {hs:List au} {s':St} (_:cx E call ops order k s= .ok tr hs s'),
 ∃st,Sh E call ops s k order tr hs st s'
 | [],k,s,tr,hs,s',h=>by
   simp [cx] at h;obtain ⟨rfl,rfl,rfl⟩:=h
   exact ⟨[s.h],rfl,rfl,rfl,rfl,rfl,rfl,rfl,rfl,fun j a b ha hb=>by
    cases j with
    | zero=>simp at ha hb;subst ha;subst hb;exact Grown.refl _
    | succ j=>simp at ha,fun p x hp=>by simp at hp⟩
 | i::rest,k,s,tr,hs,s',h=>by
   simp only[cx] at h
   cases ho:ops[i]? with
   | none=>rw[ho] at h;simp at h
   | some o=>
   rw[ho] at h
   simp only at h
   have Yz:ops.getD i default=o:=by simp [Array.getD_eq_getD_getElem?,ho]
   have Si:fJ ops i=o.dst:=by simp [fJ,ho]
   have writes:∀(x:Step) (s1:St),x.i=i→x.k=k→x.ts=s.ts→s1.ts=c_ s.ts o.dst x.v→s1.ds=s.ds→s1.rc=s.rc→et E o.op=true→
    tZ E call ops s.rc x o s.h s.h (some s1.h)→((cx E call ops rest (k+1) s1).bound s.h).step x= .ok tr hs s'→∃st,Sh E call ops s k (i::rest) tr hs st s':=by
    intro x s1 KD CK hxt h1 h2 h3 he gQ hd
    cases hr:cx E call ops rest (k+1) s1 with
    | fail why q=>rw[hr] at hd;simp [iw.bound,iw.step] at hd
    | ok I1 pU s2=>
      rw[hr] at hd;simp [iw.bound,iw.step] at hd;obtain ⟨rfl,rfl,rfl⟩:=hd
      obtain ⟨st1,t⟩:=mf hr
      have hc:∀l,oB E ops (i::l)=oB E ops l+1:=fun l=>CH l (by rw[Yz];exact he)
      refine ⟨s.h::st1,by simp [KD,t.is],?_,t.ds.trans h2,t.rc.trans h3,by simp [t.len,hc],by simp [t.Wj],rfl,by rw[hc];simpa using t.last,fun j a b ha hb=>?_,fun p y hp=>?_⟩
      · rw[rC,KD,Si,←h1];exact t.ts
      · cases j with
        | zero=>simp at ha hb;subst ha;subst hb;exact Grown.refl _
        | succ j=>exact t.grown j a b (by simpa using ha) (by simpa using hb)
      · cases p with
        | zero=>
          simp at hp;subst hp
          refine ⟨by simp [CJ,hxt],by simp [oB,CK],o,s.h,s.h,by rw[KD];exact ho,by simp [oB],by simp [oB],?_⟩
          have:(s.h::st1)[oB E ops (List.take 0 (i::rest))+1]? =some s1.h:=by simp [oB];exact t.first
          rw[this];exact gQ
        | succ p=>
          obtain ⟨a1,a2,o2,hk,sk,a3,a4,a5,a6⟩:=t.step p y (by simpa using hp)
          refine ⟨?_,by rw[List.take_succ_cons,hc];omega,o2,hk,sk,a3,by rw[List.take_succ_cons,hc];simpa using a4,by rw[List.take_succ_cons,hc];simpa using a5,?_⟩
          · rw[List.take_succ_cons,rC,KD,Si,←h1];exact a1
          · rw[List.take_succ_cons,hc,h3] at *
            simpa using a6
   have plain:∀(x:Step) (s1:St),x.i=i→x.k=k→x.ts=s.ts→s1.ts=c_ s.ts o.dst x.v→s1.ds=s.ds→s1.rc=s.rc→et E o.op=false→Grown s.h s1.h→
    (∀hk sn,Grown s1.h hk→tZ E call ops s.rc x o hk s.h sn)→(cx E call ops rest k s1).step x= .ok tr hs s'→∃st,Sh E call ops s k (i::rest) tr hs st s':=by
    intro x s1 KD CK hxt h1 h2 h3 he hg gQ hd
    cases hr:cx E call ops rest k s1 with
    | fail why q=>rw[hr] at hd;simp [iw.step] at hd
    | ok I1 pU s2=>
      rw[hr] at hd;simp [iw.step] at hd;obtain ⟨rfl,rfl,rfl⟩:=hd
      obtain ⟨st1,t⟩:=mf hr
      have hc:∀l,oB E ops (i::l)=oB E ops l:=fun l=>CI l (by rw[Yz];simp [he])
      cases rZ:st1 with
      | nil=>have:=t.first;rw[rZ] at this;simp at this
      | cons s0 st2=>
      have RK:s0=s1.h:=by have:=t.first;rw[rZ] at this;simpa using this
      subst RK
      have fB:∀j,(s.h::st2)[j+1]? =st1[j+1]? :=fun j=>by rw[rZ];rfl
      refine ⟨s.h::st2,by simp [KD,t.is],?_,t.ds.trans h2,t.rc.trans h3,by rw[hc];exact t.len,by have:=t.Wj;rw[rZ] at this;simpa using this,rfl,by rw[hc];exact t.last,fun j a b ha hb=>?_,fun p y hp=>?_⟩
      · rw[rC,KD,Si,←h1];exact t.ts
      · cases j with
        | zero=>
          simp at ha;subst ha
          exact hg.trans (t.grown 0 _ b t.first hb)
        | succ j=>rw[fB] at ha;exact t.grown (j+1) a b ha hb
      · cases p with
        | zero=>
          simp at hp;subst hp
          have h0:∃hk,pU[0]? =some hk:=by
           have:=t.len
           cases hh:pU with
           | nil=>rw[hh] at this;simp at this
           | cons a _=>exact ⟨a,rfl⟩
          obtain ⟨hk,wD⟩:=h0
          refine ⟨by simp [CJ,hxt],by simp [oB,CK],o,hk,s.h,by rw[KD];exact ho,by simpa [oB] using wD,by simp [oB],?_⟩
          exact gQ hk _ (t.grown 0 _ hk t.first wD)
        | succ p=>
          obtain ⟨a1,a2,o2,hk,sk,a3,a4,a5,a6⟩:=t.step p y (by simpa using hp)
          have ZF:∃sk',(s.h::st2)[oB E ops (List.take p rest)]? =some sk'∧sk'.nx≤sk.nx:=by
           cases hq:oB E ops (List.take p rest) with
           | zero=>rw[hq] at a5;rw[t.first] at a5;simp at a5;subst a5;exact ⟨s.h,rfl,hg.nx⟩
           | succ q=>rw[hq] at a5;exact ⟨sk,by rw[fB];exact a5,Nat.le_refl _⟩
          obtain ⟨sk',acS,acT⟩:=ZF
          refine ⟨?_,by rw[List.take_succ_cons,hc];exact a2,o2,hk,sk',a3,by rw[List.take_succ_cons,hc];exact a4,by rw[List.take_succ_cons,hc];exact acS,?_⟩
          · rw[List.take_succ_cons,rC,KD,Si,←h1];exact a1
          · rw[List.take_succ_cons,hc,fB,←h3]
            unfold tZ at a6 ⊢
            split<;>rename_i t_<;>rw[t_] at a6
            · exact a6
            · exact a6
            · exact a6
            · exact ⟨a6.1,a6.2.1,a6.2.2.1,Nat.le_trans acT a6.2.2.2.1,a6.2.2.2.2⟩
            · exact a6
   split at h
   · rename_i he
     split at h
     · rename_i hw
       split at h
       · rename_i v h' qi
         exact writes ⟨i,k,s.ts,v,.rW h'⟩ {s with ts:=c_ s.ts o.dst v,h:=h'} rfl rfl rfl rfl rfl rfl he ⟨he,hw,qi,rfl⟩ h
       · simp at h
       · simp at h
     · rename_i hw
       exact writes ⟨i,k,s.ts,AV.undef,.off⟩ {s with ts:=c_ s.ts o.dst AV.undef} rfl rfl rfl rfl rfl rfl he ⟨by simpa using hw,rfl,fun _=>rfl⟩ h
   · rename_i he
     have GF:et E o.op=false:=by simpa using he
     split at h
     · rename_i hw
       split at h
       · rename_i v hp
         exact plain ⟨i,k,s.ts,v,.fF⟩ {s with ts:=c_ s.ts o.dst v} rfl rfl rfl rfl rfl rfl GF (Grown.refl _) (fun hk sn _=>⟨GF,hw,hp⟩) h
       · split at h
         · rename_i v hp
           exact plain ⟨i,k,s.ts,v,.red⟩ {s with ts:=c_ s.ts o.dst v} rfl rfl rfl rfl rfl rfl GF (Grown.refl _) (fun hk sn _=>⟨GF,hw⟩) h
         · split at h
           · rename_i obj mk hp
             split at h
             · rename_i h' hn
               refine plain ⟨i,k,s.ts,mk s.h.nx,.p_ s.h.nx obj⟩ {s with ts:=c_ s.ts o.dst (mk s.h.nx),h:=h'} rfl rfl rfl rfl rfl rfl GF (Grown.new hn) (fun hk sn g=>⟨GF,hw,⟨mk,hp,rfl⟩,Nat.le_refl _,?_⟩) h
               have:=(au.jK hn).2.1
               have:=g.nx
               simp at this;omega
             · simp at h
           · simp at h
     · rename_i hw
       exact plain ⟨i,k,s.ts,AV.undef,.off⟩ {s with ts:=c_ s.ts o.dst AV.undef} rfl rfl rfl rfl rfl rfl GF (Grown.refl _) (fun hk sn _=>⟨by simpa using hw,rfl,fun h=>by rw[GF] at h;simp at h⟩) h
end Go.Ab
end
section
namespace Go.Ab
variable {E:Env}
theorem rD (ops:Array Oper) (val:Nat→AV) (x:Nat):∀(l:List Nat) (ts:List AV) (_:∀j∈l,fJ ops j≠some x),(mT ops val ts l)[x]? =ts[x]?
 | [],_,_=>rfl
 | i::l,ts,h=>by
   show (mT ops val (c_ ts (fJ ops i) (val i)) l)[x]? =_
   rw[rD ops val x l _ (fun j hj=>h j (by simp [hj]))]
   have:=h i (by simp)
   cases hd:fJ ops i with
   | none=>rfl
   | some d=>
     rw[hd] at this
     have dD:d≠x:=fun e=>this (by rw[e])
     simp [c_,List.getElem?_set_ne dD]
theorem yL (ops:Array Oper) (val:Nat→AV) (x j:Nat) (hj:fJ ops j=some x):∀(l:List Nat) (ts:List AV) (_:j∈l) (_:∀j'∈l,fJ ops j'=some x→j'=j),(mT ops val ts l)[x]? =if x<ts.length then some (val j) else none
 | i::l,ts,hm,hu=>by
   show (mT ops val (c_ ts (fJ ops i) (val i)) l)[x]? =_
   have hlen:(c_ ts (fJ ops i) (val i)).length=ts.length:=by cases fJ ops i<;>simp [c_]
   by_cases MR:j∈l
   · rw[yL ops val x j hj l _ MR (fun j' h=>hu j' (by simp [h])),hlen]
   · have ZG:i=j:=by simp at hm;rcases hm with h | h;exact h.symm;exact absurd h MR
     subst ZG
     rw[rD ops val x l _ (fun j' mQ e=>MR (hu j' (by simp [mQ]) e▸mQ))]
     rw[hj]
     simp [c_,List.getElem?_set]
theorem sX {ops:Array Oper} {val:Nat→AV} {x:Nat} {l d:List Nat} (ts:List AV) (hu:∀j j',fJ ops j=some x→fJ ops j'=some x→j=j') (UU:∀j,fJ ops j=some x→(j∈l↔j∈d)):
 (mT ops val ts l)[x]? =(mT ops val ts d)[x]? :=by
 by_cases h:∃j,fJ ops j=some x∧j∈l
 · obtain ⟨j,hj,hl⟩:=h
   rw[yL ops val x j hj l ts hl (fun j' _ e=>hu j' j e hj),yL ops val x j hj d ts ((UU j hj).1 hl) (fun j' _ e=>hu j' j e hj)]
 · rw[rD ops val x l ts (fun j hj e=>h ⟨j,e,hj⟩),rD ops val x d ts (fun j hj e=>h ⟨j,e,(UU j e).2 hj⟩)]
theorem vB {l r:List AV} {x:Nat} (h:l[x]? =r[x]?) (d:AV):l.getD x d=r.getD x d:=by simp [List.getD,h]
def valOf (tr:List Step) (i:Nat):AV:=((tr.find? (fun x=>x.i==i)).map (·.v)).getD AV.undef
theorem Ex {tr:List Step} (hn:(tr.map (·.i)).Nodup) {p:Nat} {x:Step} (hp:tr[p]? =some x):valOf tr x.i=x.v:=by
 unfold valOf
 have:tr.find? (fun y=>y.i==x.i)=some x:=by
  rw[List.find?_eq_some_iff_getElem]
  obtain ⟨jE,hx⟩:=List.getElem?_eq_some_iff.1 hp
  refine ⟨by simp,p,jE,hx,fun j hj=>?_⟩
  have MR:j<tr.length:=by omega
  simp only[Bool.not_eq_true',beq_eq_false_iff_ne]
  intro e
  have h1:(tr.map (·.i))[j]? =some x.i:=by simp [MR,e]
  have h2:(tr.map (·.i))[p]? =some x.i:=by simp [jE,hx]
  have:=(List.getElem?_inj (by simpa using MR) hn).1 (h1.trans h2.symm)
  omega
 rw[this];rfl
theorem CL (ops:Array Oper) {tr:List Step} (hn:(tr.map (·.i)).Nodup) (ts:List AV) (p:Nat):CJ ops ts (tr.take p)=mT ops (valOf tr) ts ((tr.map (·.i)).take p):=by
 have key:∀(l:List Step) (ts:List AV),(∀x∈l,valOf tr x.i=x.v)→CJ ops ts l=mT ops (valOf tr) ts (l.map (·.i)):=by
  intro l
  induction l with
  | nil=>intro ts _;rfl
  | cons x l ih=>
    intro ts h
    show CJ ops (c_ ts (fJ ops x.i) x.v) l=mT ops (valOf tr) (c_ ts (fJ ops x.i) (valOf tr x.i)) (l.map (·.i))
    rw[h x (by simp),ih _ (fun y hy=>h y (by simp [hy]))]
 rw[key _ _ (fun x hx=>?_),List.map_take]
 obtain ⟨q,hq⟩:=List.getElem?_of_mem (List.mem_of_mem_take hx)
 exact Ex hn hq
theorem OK.place {φ:Ph} {h:au} {w:World} (ok:OK E φ h w) {n:Nat} {obj:aR} (hg:h.get n=some obj) (Cn:φ n=none) (jE:n<h.nx) {O:Obj}
 (ho:OR E (φ.add n ⟨w.heap.size,0,0⟩) obj ⟨w.heap.size,0,0⟩ (some O)):OK E (φ.add n ⟨w.heap.size,0,0⟩) h (w.alloc O)∧φ.le (φ.add n ⟨w.heap.size,0,0⟩):=by
 have hle:φ.le (φ.add n ⟨w.heap.size,0,0⟩):=fun j m hm=>by
  unfold Ph.add;split
  · rename_i e;subst e;rw[Cn] at hm;simp at hm
  · exact hm
 have iQ:∀j,j≠n→(φ.add n ⟨w.heap.size,0,0⟩) j=φ j:=fun j hj=>by simp [Ph.add,hj]
 have fW:(φ.add n ⟨w.heap.size,0,0⟩) n=some ⟨w.heap.size,0,0⟩:=by simp [Ph.add]
 have UW:(w.alloc O).heap=w.heap.push O:=rfl
 have hblk:∀j p m,h.get j=some p→φ j=some m→m.dq<w.heap.size:=fun j p m hj hm=>by
  have xX:=ok.live j p m hj hm
  rcases Nat.lt_or_ge m.dq w.heap.size with a | a
  · exact a
  · exfalso
    rw[Array.getElem?_eq_none a] at xX
    exact xX.absurd
 refine ⟨⟨fun j m hm=>?_,ok.nx,fun g hg=>hle _ _ (ok.sM g hg),fun j p m hj hm=>?_,fun j k p q m r hj hk hm hr hw hb=>?_⟩,hle⟩
 · by_cases e:j=n
   · omega
   · rw[iQ j e] at hm;exact ok.xz j m hm
 · by_cases e:j=n
   · subst e;rw[fW] at hm;simp at hm;subst hm;rw[hg] at hj;simp at hj;subst hj;rw[UW];simpa using ho
   · rw[iQ j e] at hm
     have hb:=hblk j p m hj hm
     rw[UW,Array.getElem?_push,if_neg (by omega)]
     exact (ok.live j p m hj hm).mono hle
 · by_cases e:j=n<;>by_cases e':k=n
   · rw[e,e']
   · subst e;rw[fW] at hm;simp at hm;subst hm;rw[iQ k e'] at hr;have:=hblk k q r hk hr;simp at hb;omega
   · subst e';rw[fW] at hr;simp at hr;subst hr;rw[iQ j e] at hm;have:=hblk j p m hj hm;simp at hb;omega
   · rw[iQ j e] at hm;rw[iQ k e'] at hr;exact ok.inj j k p q m r hj hk hm hr hw hb
theorem Fr.place {φ₀ φ:Ph} {h₀ h:au} {w₀ w:World} (f:Fr φ₀ h₀ w₀ φ h w) {n:Nat} (hn:h₀.nx≤n) (Cn:φ n=none) (O:Obj):Fr φ₀ h₀ w₀ (φ.add n ⟨w.heap.size,0,0⟩) h (w.alloc O):=by
 have iQ:∀j,j≠n→(φ.add n ⟨w.heap.size,0,0⟩) j=φ j:=fun j hj=>by simp [Ph.add,hj]
 have fW:(φ.add n ⟨w.heap.size,0,0⟩) n=some ⟨w.heap.size,0,0⟩:=by simp [Ph.add]
 refine ⟨fun j m hm=>?_,fun i hi=>by rw[iQ i (by omega)];exact f.old i hi,f.nx,f.os,f.tape,f.output,by have:=f.size;simp;omega,fun b hb V4=>?_,fun i o l hi hr hl=>?_⟩
 · by_cases e:j=n
   · subst e;have:=f.ext j m hm;rw[Cn] at this;simp at this
   · rw[iQ j e];exact f.ext j m hm
 · have:=f.size
   rw[show (w.alloc O).heap=w.heap.push O from rfl,Array.getElem?_push,if_neg (by omega)]
   exact f.xA b hb V4
 · by_cases e:i=n
   · subst e;rw[fW] at hl;simp at hl;subst hl;exact .inl f.size
   · rw[iQ i e] at hl;exact f.own i o l hi hr hl
theorem filter_le {P:Nat→Bool} {l:List Nat} {K:Nat} (h:∀q e,l[q]? =some e→P e=true→q<K):(l.filter P).length≤K:=by
 have h1:(l.drop K).filter P=[]:=by
  rw[List.filter_eq_nil_iff]
  intro e he hP
  obtain ⟨q,hq⟩:=List.getElem?_of_mem he
  rw[List.getElem?_drop] at hq
  have:=h _ e hq hP
  omega
 calc (l.filter P).length=((l.take K++l.drop K).filter P).length:=by rw[List.take_append_drop]
  _=((l.take K).filter P).length:=by rw[List.filter_append,h1,List.append_nil]
  _≤(l.take K).length:=List.length_filter_le _ _
  _≤K:=by simp;omega
theorem ua {P:Nat→Bool}:∀{l:List Nat} {e:Nat} (_:l[(l.takeWhile P).length]? =some e),P e=false
 | [],e,h=>by simp at h
 | x::l,e,h=>by
   by_cases hx:P x=true
   · rw[List.takeWhile_cons_of_pos hx] at h
     exact ua (l:=l) (by simpa using h)
   · rw[List.takeWhile_cons_of_neg hx] at h
     simp at h;subst h;simpa using hx
end Go.Ab
end
section
namespace Go.Ab
variable {E:Env}
structure CM (E:Env) (call:aW) (ops:Array Oper) (pl:kh) (s s':St) (tr:List Step) (hs st:List au):Prop where
 pN:yK E ops pl
 trace:Sh E call ops s 0 pl.order tr hs st s'
 still:∀x∈tr,∀K hk,x.k≤K→K≤iM pl.bD pl.an x.i→hs[K]? =some hk→hT E ops x hk=true
 ids:∀(x y:Step),x∈tr→y∈tr→∀(n:Nat) (o q:aR),x.kind= .p_ n o→y.kind= .p_ n q→x.i=y.i
structure Inv (E:Env) (ops:Array Oper) (pl:kh) (s:St) (tr:List Step) (hs st:List au) (φ₀:Ph) (w₀:World) (tG:List Deferred) (d:List Nat) (bL:Array Bool) (K:Nat) (φ:Ph) (a:Act) (w:World):Prop where
 nd:d.Nodup
 lt:∀i∈d,i<ops.size
 bL:∀i,i<ops.size→bL[i]? =some (decide (i∈d))
 closed:∀i∈d,∀j,cU pl.an i j=true→j∈d
 bD:∀q e,pl.bD[q]? =some e→(e∈d↔q<K)
 Kle:K≤pl.bD.length
 ts:LR φ (mT ops (valOf tr) s.ts d) a.tmps.toList
 ds:a.defers=tG
 ok:∃hK,hs[K]? =some hK∧OK E φ hK w∧Fr φ₀ s.h w₀ φ hK w
 fS:∀x∈tr,∀n obj,x.kind= .p_ n obj→x.i ∉ d→x.k≤K→φ n=none∧s.h.nx≤n∧∀hK,hs[K]? =some hK→n<hK.nx
section
variable {call:aW} {ops:Array Oper} {pl:kh} {s s':St} {tr:List Step} {hs st:List au}
theorem CM.at (r:CM E call ops pl s s' tr hs st) {p:Nat} {x:Step} (hp:tr[p]? =some x):
 pl.order[p]? =some x.i∧x.i ∉ pl.order.take p∧(∀j,cU pl.an x.i j=true→j∈pl.order.take p)∧x.k=oB E ops (pl.order.take p)∧
 ∃o,ops[x.i]? =some o∧(et E o.op=true→pl.bD[x.k]? =some x.i)∧(et E o.op=false→Cl pl.bD pl.an x.i=x.k):=by
 have h1:pl.order[p]? =some x.i:=by rw[←r.trace.is,List.getElem?_map,hp];rfl
 obtain ⟨h2,_,_⟩:=gI r.pN.order
 obtain ⟨a1,a2,a3,a4,a5,a6⟩:=h2 p x.i h1
 obtain ⟨b1,b2,o,hk,sk,b3,_⟩:=r.trace.step p x hp
 have Yz:ops.getD x.i default=o:=by simp [Array.getD_eq_getD_getElem?,b3]
 rw[Yz] at a5 a6
 have Eb:x.k=oB E ops (pl.order.take p):=by omega
 refine ⟨h1,a3,fun j hj=>(a4 j hj).resolve_left (by simp),Eb,o,b3,fun he=>?_,fun he=>?_⟩
 · have:=a5 he;rw[Eb];simpa using this
 · have:=a6 he;omega
theorem su:∀{l:List Nat} (_:∀(p i:Nat),l[p]? =some i→i ∉ l.take p),l.Nodup
 | [],_=> .nil
 | x::l,h=>by
   refine List.nodup_cons.2 ⟨fun hm=>?_,su (fun p i hp hi=>h (p+1) i (by simpa using hp) (by simp [hi]))⟩
   obtain ⟨q,hq⟩:=List.getElem?_of_mem hm
   exact h (q+1) x (by simpa using hq) (by simp)
theorem CM.nodup (r:CM E call ops pl s s' tr hs st):pl.order.Nodup:=by
 obtain ⟨h2,_,_⟩:=gI r.pN.order
 exact su (fun p i hp=>(h2 p i hp).2.2.1)
theorem CM.all (r:CM E call ops pl s s' tr hs st) {i:Nat} (hi:i<ops.size):∃(p:Nat) (x:Step),tr[p]? =some x∧x.i=i:=by
 obtain ⟨_,h3,_⟩:=gI r.pN.order
 have:=(h3 i hi).resolve_left (by simp)
 rw[←r.trace.is] at this
 obtain ⟨x,hx,rfl⟩:=List.mem_map.1 this
 obtain ⟨p,hp⟩:=List.getElem?_of_mem hx
 exact ⟨p,x,hp,rfl⟩
theorem ub {ops:Array Oper} {pl:kh} (pok:yK E ops pl) {x j j':Nat} (h:fJ ops j=some x) (h':fJ ops j'=some x):j=j':=by
 unfold fJ at h h'
 cases ho:ops[j]? with
 | none=>rw[ho] at h;simp at h
 | some o=>
 cases Ey:ops[j']? with
 | none=>rw[Ey] at h';simp at h'
 | some o'=>
 rw[ho] at h;rw[Ey] at h'
 simp at h h'
 rcases Nat.decEq j j' with dD | he
 · exact absurd h (pok.slot j j' o o' x dD ho Ey h').1
 · exact he
theorem agree (r:CM E call ops pl s s' tr hs st) {p:Nat} {x:Step} {o:Oper} (hp:tr[p]? =some x) (ho:ops[x.i]? =some o) {d:List Nat} (hd:x.i ∉ d) (MS:∀i∈d,∀j,cU pl.an i j=true→j∈d)
 (oQ:∀j,cU pl.an x.i j=true→j∈d):me E x.ts (mT ops (valOf tr) s.ts d) o.op∧b_ ops (mT ops (valOf tr) s.ts d) o=b_ ops x.ts o:=by
 obtain ⟨h1,h2,h3,_,_⟩:=r.at hp
 have mS:(tr.map (·.i)).Nodup:=by rw[r.trace.is];exact r.nodup
 have Nz:x.ts=mT ops (valOf tr) s.ts (pl.order.take p):=by
  rw[(r.trace.step p x hp).1,CL ops mS,r.trace.is]
 have hpc:∀j∈pl.order.take p,∀m,cU pl.an j m=true→m∈pl.order.take p:=by
  intro j hj m hm
  obtain ⟨q,hq⟩:=List.getElem?_of_mem hj
  have hqp:q<p:=by
   have:=(List.getElem?_eq_some_iff.1 hq).1
   simp at this;omega
  have hq':pl.order[q]? =some j:=by rw[List.getElem?_take] at hq;rw[if_pos hqp] at hq;exact hq
  obtain ⟨f1,_,_⟩:=gI r.pN.order
  have:=((f1 q j hq').2.2.2.1 m hm).resolve_left (by simp)
  exact List.mem_of_mem_take (i:=q) (l:=pl.order.take p) (by rw[List.take_take,Nat.min_eq_left (Nat.le_of_lt hqp)];exact this)
 have same:∀t,(∀j p',j≠x.i→ops[j]? =some p'→p'.dst=some t→cU pl.an x.i j=true∨cU pl.an j x.i=true)→(mT ops (valOf tr) s.ts (pl.order.take p))[t]? =(mT ops (valOf tr) s.ts d)[t]? :=by
  intro t ht
  refine sX s.ts (fun j j' a b=>ub r.pN a b) (fun j hj=>?_)
  by_cases YA:j=x.i
  · subst YA;exact ⟨fun h=>absurd h h2,fun h=>absurd h hd⟩
  · obtain ⟨p',Wk,GG⟩:∃p',ops[j]? =some p'∧p'.dst=some t:=by
     unfold fJ at hj
     cases UX:ops[j]? with
     | none=>rw[UX] at hj;simp at hj
     | some p'=>rw[UX] at hj;exact ⟨p',rfl,by simpa using hj⟩
    rcases ht j p' YA Wk GG with h | h
    · exact ⟨fun _=>oQ j h,fun _=>h3 j h⟩
    · exact ⟨fun hm=>absurd (hpc j hm _ h) h2,fun hm=>absurd (MS j hm _ h) hd⟩
 rw[Nz]
 refine ⟨fun y hy=>?_,?_⟩
 · cases y with
   | tmp t=>
     have ht:t∈tmpsOf o:=by
      unfold tmpsOf;rw[List.mem_filterMap];exact ⟨.tmp t,by simpa using hy,rfl⟩
     simp only[du]
     rw[vB (same t (fun j p' dD Wk GG=>(r.pN.slot x.i j o p' t (Ne.symm dD) ho Wk GG).2 ht))]
   | const c=>rfl
   | global g=>rfl
   | func f=>rfl
 · unfold b_
   cases hg:o.guard with
   | none=>rfl
   | some gw=>
     obtain ⟨g,want⟩:=gw
     simp only
     cases hdg:(ops[g]?).bind (·.dst) with
     | none=>rfl
     | some t=>
       simp only
       have Wi:=r.pN.guard x.i o g want ho hg
       rw[same t (fun j p' dD Wk GG=>by
        have:j=g:=ub r.pN (x:=t) (by unfold fJ;rw[Wk];simpa using GG) hdg
        subst this;exact .inl Wi)]
end
end Go.Ab
end
section
namespace Go.Ab
variable {E:Env}
section
variable {call:aW} {ops:Array Oper} {pl:kh} {s s':St} {tr:List Step} {hs st:List au}
theorem Bo {l:List Oper} {i:Nat}:i∈lr E l↔∃o,l[i]? =some o∧et E o.op=true:=by
 unfold lr
 simp only[List.mem_map,List.mem_filter,Prod.exists]
 constructor
 · rintro ⟨o,j,⟨h1,h2⟩,rfl⟩
   exact ⟨o,by rw[List.mk_mem_zipIdx_iff_getElem?] at h1;exact h1,h2⟩
 · rintro ⟨o,h1,h2⟩
   exact ⟨o,i,⟨by rw[List.mk_mem_zipIdx_iff_getElem?];exact h1,h2⟩,rfl⟩
theorem yK.Sj (pok:yK E ops pl) {i:Nat} {o:Oper} (ho:ops[i]? =some o):i∈pl.bD↔et E o.op=true:=by
 rw[pok.bD,Bo]
 constructor
 · rintro ⟨o',h1,h2⟩
   have:ops.toList[i]? =some o:=by simpa using ho
   rw[this] at h1;simp at h1;subst h1;exact h2
 · intro h;exact ⟨o,by simpa using ho,h⟩
theorem Inv.yM {φ₀ φ:Ph} {w₀ w:World} {tG:List Deferred} {d:List Nat} {bL:Array Bool} {K:Nat} {a:Act} (r:CM E call ops pl s s' tr hs st) (inv:Inv E ops pl s tr hs st φ₀ w₀ tG d bL K φ a w)
 {x:Step} (hx:pl.bD[x.k]? =some x.i) (hd:x.i ∉ d) (oQ:∀j,cU pl.an x.i j=true→j∈d):x.k=K:=by
 have h1:¬x.k<K:=fun h=>hd ((inv.bD x.k x.i hx).2 h)
 rcases Nat.lt_or_ge K x.k with h | h
 · exfalso
   obtain ⟨q,hq⟩:∃q,x.k=q+1:=⟨x.k - 1,by omega⟩
   have jE:q<pl.bD.length:=by have:=(List.getElem?_eq_some_iff.1 hx).1;omega
   have hq':pl.bD[q]? =some pl.bD[q]:=by simp [jE]
   have:=r.pN.chain q _ x.i hq' (by rw[←hq];exact hx)
   have:=(inv.bD q _ hq').1 (oQ _ this)
   omega
 · omega
theorem Inv.NA {φ₀ φ:Ph} {w₀ w:World} {tG:List Deferred} {d:List Nat} {bL:Array Bool} {K:Nat} {a:Act} (inv:Inv E ops pl s tr hs st φ₀ w₀ tG d bL K φ a w)
 {i:Nat} (hd:i ∉ d) (oQ:∀j,cU pl.an i j=true→j∈d):Cl pl.bD pl.an i≤K∧K≤iM pl.bD pl.an i:=by
 refine ⟨filter_le (fun q e hq he=>(inv.bD q e hq).1 (oQ e he)),?_⟩
 rcases Nat.lt_or_ge (iM pl.bD pl.an i) K with h | h
 · exfalso
   have jE:iM pl.bD pl.an i<pl.bD.length:=by have:=inv.Kle;omega
   have hq:pl.bD[iM pl.bD pl.an i]? =some pl.bD[iM pl.bD pl.an i]:=by simp [jE]
   have h1:=ua (P:=fun e=> !cU pl.an e i) hq
   simp only[Bool.not_eq_false'] at h1
   exact hd (inv.closed _ ((inv.bD _ _ hq).2 h) i h1)
 · exact h
theorem KE (ops:Array Oper) (val:Nat→AV) (ts:List AV) (d:List Nat) (i:Nat):mT ops val ts (d++[i])=c_ (mT ops val ts d) (fJ ops i) (val i):=by
 simp [mT]
theorem Inv.snoc {φ₀ φ φ':Ph} {w₀ w w':World} {tG:List Deferred} {d:List Nat} {bL:Array Bool} {K K':Nat} {a:Act} (r:CM E call ops pl s s' tr hs st) (inv:Inv E ops pl s tr hs st φ₀ w₀ tG d bL K φ a w)
 {p:Nat} {x:Step} {o:Oper} (hp:tr[p]? =some x) (ho:ops[x.i]? =some o) (hd:x.i ∉ d) (oQ:∀j,cU pl.an x.i j=true→j∈d) (hle:φ.le φ') {v':Value} (hv:VR φ' x.v v')
 (hK:(et E o.op=false∧K'=K)∨(et E o.op=true∧x.k=K∧pl.bD[x.k]? =some x.i∧K'=K+1))
 (iW:∃hK,hs[K']? =some hK∧OK E φ' hK w'∧Fr φ₀ s.h w₀ φ' hK w')
 (ZH:∀y∈tr,∀n obj,y.kind= .p_ n obj→y.i ∉ d→y.i≠x.i→y.k≤K'→φ' n=none∧s.h.nx≤n∧∀hK,hs[K']? =some hK→n<hK.nx):
 Inv E ops pl s tr hs st φ₀ w₀ tG (d++[x.i]) (bL.setIfInBounds x.i true) K' φ' (a.put o.dst v') w':=by
 have mS:(tr.map (·.i)).Nodup:=by rw[r.trace.is];exact r.nodup
 have jE:x.i<ops.size:=(Array.getElem?_eq_some_iff.1 ho).1
 refine ⟨?_,fun i hi=>?_,fun i hi=>?_,fun i hi j hj=>?_,fun q e hq=>?_,?_,?_,by rw[put_defers];exact inv.ds,iW,fun y hy n obj vy hyd hyk=>?_⟩
 · rw[List.nodup_append];exact ⟨inv.nd,by simp,fun a ha b hb=>by simp at hb;subst hb;exact fun e=>hd (e▸ha)⟩
 · simp at hi;rcases hi with h | rfl
   · exact inv.lt i h
   · exact jE
 · have h1:=inv.bL i hi
   by_cases e:x.i=i
   · subst e
     have Kt:x.i<bL.size:=(Array.getElem?_eq_some_iff.1 h1).1
     rw[Array.getElem?_setIfInBounds];simp [Kt]
   · rw[Array.getElem?_setIfInBounds_ne e,h1]
     simp [show i≠x.i from fun h=>e h.symm]
 · simp at hi;rcases hi with h | rfl
   · exact List.mem_append_left _ (inv.closed i h j hj)
   · exact List.mem_append_left _ (oQ j hj)
 · rcases hK with ⟨he,rfl⟩ | ⟨he,CK,hxe,rfl⟩
   · have dD:e≠x.i:=fun h=>by
      subst h
      have:=(r.pN.Sj ho).1 (List.mem_of_getElem? hq)
      rw[he] at this;simp at this
     simp [dD,inv.bD q e hq]
   · have hqe:e=x.i↔q=K:=by
      constructor
      · intro h;subst h
        have:=(List.getElem?_inj (List.getElem?_eq_some_iff.1 hq).1 r.pN.nd).1 (hq.trans hxe.symm)
        omega
      · intro h;subst h;rw[←CK,hxe] at hq;simpa using hq.symm
     simp only[List.mem_append,List.mem_singleton,inv.bD q e hq,hqe]
     omega
 · rcases hK with ⟨he,rfl⟩ | ⟨he,CK,hxe,rfl⟩
   · exact inv.Kle
   · have:=(List.getElem?_eq_some_iff.1 hxe).1;omega
 · rw[KE,Ex mS hp]
   have:fJ ops x.i=o.dst:=by simp [fJ,ho]
   rw[this]
   exact Ns (inv.ts.mono hle) o.dst hv
 · simp only[List.mem_append,List.mem_singleton,not_or] at hyd
   exact ZH y hy n obj vy hyd.1 hyd.2 hyk
theorem KH (hE:iZ E) {call:aW} (cJ:fZ E call) {ts:List AV} {h h':au} {rc:RC} {o:Oper} {v:AV} (qi:cI E call ts h rc o= .val v h') {i:Nat} {rest:List Nat} (ho:ops[i]? =some o)
 {φ:Ph} {a:Act} {w:World} {b:Frame} {k:List Item} {K:Bool→List Frame} (Nz:LR φ ts a.tmps.toList) (ok:OK E φ h w) (fk:lz φ b K rc) (hw:Region.wanted o (yielded ops a.tmps)=true):
 ∃φ' w' v',VR φ' v v'∧OK E φ' h' w'∧Fr φ h w φ' h' w'∧Steps E.P (lone (b.atR a (.inRegion ops (i::rest)::k)) (cur K rc) w) (lone (b.atR (a.put o.dst v') (.inRegion ops rest::k)) (cur K rc) w'):=by
 have vx:=sU hE cJ (rc:=rc) (o:=o) Nz ok
 have mS:rc.mb=false∨∀c,o.op≠ .defer c:=by
  by_cases hd:∃c,o.op= .defer c
  · obtain ⟨c,hd⟩:=hd
    unfold cI at qi
    simp only[hd] at qi
    split at qi<;>simp at qi
  · exact .inr (fun c e=>hd ⟨c,e⟩)
 have jl:=oO fk mS a.eval
 rw[qi] at vx
 cases vx with
 | val v h' φ' w' v' hv pV fr run=>exact ⟨φ',w',v',hv,pV,fr,.one (kM jl ho hw run)⟩
 | skip h' φ' w' pV fr run=>exact ⟨φ',w',undef,.undef φ',pV,fr,.one (Ep jl ho hw run)⟩
 | enter v h' F args all hr hf hl run=>
   obtain ⟨n,start,hp,gQ⟩:=hr φ w all ok hf hl
   obtain ⟨φ',w',v',hv,pV,fr,gZ⟩:=gQ (b.atR a (.inRegion ops (i::rest)::k)) (cur K rc)
   rw[rA ho] at gZ
   exact ⟨φ',w',v',hv,pV,fr,.head (go_enter jl ho hw hp (run n start hp)) gZ⟩
 | Nv dD AE run=>
   have Cn:∀fr:Frame,fr.kind=b.kind→tryRecover fr (cur K rc)=none:=by
    cases CE:rc with
    | no=>rw[CE] at fk;exact fk.2
    | fS v=>exact absurd CE (dD v)
    | done=>rw[CE] at fk;exact fk.2
    | pT l=>rw[CE] at AE;simp [RC.mb] at AE
   exact ⟨φ,w,.nilIface,.nilIface,ok,Fr.refl _ _ _,.one (ss (fk.plain AE) jl ho hw run (Cn _ rfl))⟩
theorem Inv.I2 (hE:iZ E) {Bp:aW} (cJ:fZ E Bp) {φ₀ φ:Ph} {w₀ w:World} {tG:List Deferred} {d:List Nat} {bL:Array Bool} {K:Nat} {a:Act} (r:CM E call ops pl s s' tr hs st) (inv:Inv E ops pl s tr hs st φ₀ w₀ tG d bL K φ a w)
 {b:Frame} {k:List Item} {Ks:Bool→List Frame} (fk:lz φ₀ b Ks s.rc) {i:Nat} (hi:i<ops.size) (hd:i ∉ d) (oQ:∀j,cU pl.an i j=true→j∈d)
 (Bq:∀(x:Step) (o:Oper) (hk h':au),x∈tr→x.i=i→ops[x.i]? =some o→hs[x.k]? =some hk→x.kind= .rW h'→cI E Bp x.ts hk s.rc o= .val x.v h') (rest:List Nat):
 ∃K' φ' a' w',Inv E ops pl s tr hs st φ₀ w₀ tG (d++[i]) (bL.setIfInBounds i true) K' φ' a' w'∧
  Steps E.P (lone (b.atR a (.inRegion ops (i::rest)::k)) (cur Ks s.rc) w) (lone (b.atR a' (.inRegion ops rest::k)) (cur Ks s.rc) w'):=by
 obtain ⟨p,x,hp,rfl⟩:=r.all hi
 have Wa:x∈tr:=List.mem_of_getElem? hp
 obtain ⟨h1,h2,h3,hk,o,ho,qi,UY⟩:=r.at hp
 obtain ⟨_,_,o',hk1,sk1,Ey,wD,ZF,gQ⟩:=r.trace.step p x hp
 rw[ho] at Ey;simp at Ey;subst Ey
 rw[←hk] at wD ZF gQ
 obtain ⟨hag,NB⟩:=agree r hp ho hd inv.closed oQ
 obtain ⟨hK,UZ,ok,fr⟩:=inv.ok
 have RM:Region.wanted o (yielded ops a.tmps)=b_ ops x.ts o:=by rw[sS inv.ts o,NB]
 have Sk:me E (mT ops (valOf tr) s.ts d) x.ts o.op:=fun y hy=>(hag y hy).symm
 have same:∀y∈tr,∀n obj,y.kind= .p_ n obj→y.i ∉ d→y.i≠x.i→y.k≤K→φ n=none∧s.h.nx≤n∧∀hK,hs[K]? =some hK→n<hK.nx:=
  fun y hy n obj a1 a2 _ a3=>inv.fS y hy n obj a1 a2 a3
 have wrote:∀(φ':Ph) (h':au) (w':World),x.k=K→st[K+1]? =some h'→OK E φ' h' w'→Fr φ hK w φ' h' w'→
  ∃I3,hs[K+1]? =some I3∧OK E φ' I3 w'∧Fr φ₀ s.h w₀ φ' I3 w'∧
  ∀y∈tr,∀n obj,y.kind= .p_ n obj→y.i ∉ d→y.i≠x.i→y.k≤K+1→φ' n=none∧s.h.nx≤n∧∀hK,hs[K+1]? =some hK→n<hK.nx:=by
  intro φ' h' w' CK Wl pV GH
  have jE:K+1<hs.length:=by rw[←r.trace.Wj];exact (List.getElem?_eq_some_iff.1 Wl).1
  have hhs:hs[K+1]? =some hs[K+1]:=by simp [jE]
  have g:=r.trace.grown (K+1) h' _ Wl hhs
  obtain ⟨yN,Wm⟩:=pV.grown g
  have RN:=(fr.trans GH).trans Wm
  refine ⟨_,hhs,yN,RN,fun y hy n obj a1 a2 a3 a4=>?_⟩
  have Yt:∀I3,hs[K+1]? =some I3→I3=hs[K+1]:=fun I3 e=>by rw[hhs] at e;simpa using e.symm
  rcases Nat.lt_or_ge K y.k with h | h
  ·
   have hyk:y.k=K+1:=by omega
   obtain ⟨q,hq⟩:=List.getElem?_of_mem hy
   obtain ⟨_,_,_,hky,oy,hoy,_,_⟩:=r.at hq
   obtain ⟨_,_,oy',acU,acV,acW,AR,AS,Hj⟩:=r.trace.step q y hq
   rw[←hky,hyk] at AR AS
   rw[Wl] at AS;simp at AS;subst AS
   unfold tZ at Hj
   rw[a1] at Hj
   obtain ⟨_,_,_,Zu,I4⟩:=Hj
   refine ⟨?_,?_,fun I3 e=>?_⟩
   · cases hφ:φ' n with
     | none=>rfl
     | some l=>have:=pV.xz n l hφ;omega
   · have:=(fr.trans GH).nx;omega
   · rw[e] at AR;simp at AR;subst AR;exact I4
  · obtain ⟨b1,b2,b3⟩:=inv.fS y hy n obj a1 a2 h
    have hn:=b3 hK UZ
    refine ⟨by rw[GH.old n hn];exact b1,b2,fun I3 e=>?_⟩
    have:=GH.nx;have:=g.nx
    rw[Yt _ e];omega
 have still:et E o.op=false→hT E ops x hK=true:=fun he=>by
  obtain ⟨w1,w2⟩:=inv.NA hd oQ
  exact r.still x Wa K hK (by rw[←UY he];exact w1) w2 UZ
 have Yz:ops.getD x.i default=o:=by simp [Array.getD_eq_getD_getElem?,ho]
 have skip:b_ ops x.ts o=false→step E.P (lone (b.atR a (.inRegion ops (x.i::rest)::k)) (cur Ks s.rc) w)= .next (lone (b.atR (a.put o.dst undef) (.inRegion ops rest::k)) (cur Ks s.rc) w):=fun hw=>by
  have:=stepR_op_skip (P:=E.P) (b:=b) (a:=a) (k:=k) (cs:=cur Ks s.rc) (w:=w) (ops:=ops) (i:=x.i) (rest:=rest) (by rw[ho];simp;rw[RM];exact hw)
  rw[this,ho];rfl
 unfold tZ at gQ
 split at gQ
 ·
  obtain ⟨hw,hv,hn⟩:=gQ
  have hvr:VR φ x.v undef:=by rw[hv];exact .undef φ
  by_cases he:et E o.op=true
  · have CK:=inv.yM r (qi he) hd oQ
    have rZ:=hn he
    rw[CK] at rZ wD
    rw[UZ] at wD;simp at wD;subst wD
    obtain ⟨I3,q1,q2,q3,q4⟩:=wrote φ hK w CK rZ ok (Fr.refl _ _ _)
    exact ⟨K+1,φ,_,w,inv.snoc r hp ho hd oQ (Ph.le_refl φ) hvr (.inr ⟨he,CK,qi he,rfl⟩) ⟨I3,q1,q2,q3⟩ q4,.one (skip hw)⟩
  · have GF:et E o.op=false:=by simpa using he
    exact ⟨K,φ,_,w,inv.snoc r hp ho hd oQ (Ph.le_refl φ) hvr (.inl ⟨GF,rfl⟩) inv.ok same,.one (skip hw)⟩
 ·
  obtain ⟨he,hw,hpu⟩:=gQ
  rw[←Et Sk] at hpu
  have mS:∀c,o.op≠ .defer c:=fun c e=>by rw[e] at hpu;simp [bk] at hpu
  obtain ⟨v',hv,hr⟩:=wv hE.ext ok.gl inv.ts hpu
  exact ⟨K,φ,_,w,inv.snoc r hp ho hd oQ (Ph.le_refl φ) hv (.inl ⟨he,rfl⟩) inv.ok same,.one (kM (oO fk (.inr mS) _) ho (RM.trans hw) (hr w))⟩
 ·
  rename_i t_
  obtain ⟨he,hw⟩:=gQ
  have pU:=still he
  unfold hT at pU
  rw[t_] at pU
  simp only[Yz] at pU
  cases YB:dh E x.ts hK o.op with
  | none=>rw[YB] at pU;simp at pU
  | some v1=>
    rw[YB] at pU
    have hv1:=AV.tX _ _ _ pU
    subst hv1
    rw[←Eu Sk] at YB
    have mS:∀c,o.op≠ .defer c:=fun c e=>by rw[e] at YB;simp [dh] at YB
    obtain ⟨v',hv,hr⟩:=wB ok.gl ok inv.ts YB
    exact ⟨K,φ,_,w,inv.snoc r hp ho hd oQ (Ph.le_refl φ) hv (.inl ⟨he,rfl⟩) inv.ok same,.one (kM (oO fk (.inr mS) _) ho (RM.trans hw) (hr w rfl))⟩
 ·
  rename_i n obj t_
  obtain ⟨he,hw,⟨mk,hal,hxv⟩,_,_⟩:=gQ
  have pU:=still he
  unfold hT at pU
  rw[t_] at pU
  simp only at pU
  cases hge:hK.get n with
  | none=>rw[hge] at pU;simp at pU
  | some o1=>
    rw[hge] at pU
    have ho1:=aR.tX pU
    subst ho1
    obtain ⟨w1,_⟩:=inv.NA hd oQ
    obtain ⟨Cn,acX,acY⟩:=inv.fS x Wa n o1 t_ hd (by rw[←UY he];exact w1)
    rw[←CG Sk] at hal
    have mS:∀c,o.op≠ .defer c:=fun c e=>by rw[e] at hal;simp [dv] at hal
    obtain ⟨O,mk',Es,hr⟩:=tR ok.gl inv.ts hal
    have hle:φ.le (φ.add n ⟨w.heap.size,0,0⟩):=fun j m hm=>by
     unfold Ph.add;split
     · rename_i e;subst e;rw[Cn] at hm;simp at hm
     · exact hm
    obtain ⟨yN,_⟩:=ok.place hge Cn (acY hK UZ) (Es.obj _ w.heap.size hle)
    have hv:=Es.val (φ.add n ⟨w.heap.size,0,0⟩) n w.heap.size hle (by simp [Ph.add])
    rw[←hxv] at hv
    refine ⟨K,_,_,_,inv.snoc r hp ho hd oQ hle hv (.inl ⟨he,rfl⟩) ⟨hK,UZ,yN,fr.place acX Cn O⟩ (fun y hy m q a1 a2 a3 a4=>?_),.one (kM (oO fk (.inr mS) _) ho (RM.trans hw) (hr w))⟩
    obtain ⟨b1,b2,b3⟩:=inv.fS y hy m q a1 a2 a4
    refine ⟨?_,b2,b3⟩
    have dD:m≠n:=fun e=>by subst e;exact a3 (r.ids y x hy Wa m q o1 a1 t_)
    simp [Ph.add,dD,b1]
 ·
  rename_i h' t_
  obtain ⟨he,hw,_,rZ⟩:=gQ
  have NC:=Bq x o _ h' Wa rfl ho wD t_
  have CK:=inv.yM r (qi he) hd oQ
  rw[CK] at rZ wD
  rw[UZ] at wD;simp at wD;subst wD
  rw[←yI Sk] at NC
  obtain ⟨φ',w',v',hv,pV,GH,gZ⟩:=KH hE cJ NC ho (rest:=rest) (k:=k) inv.ts ok (fk.mono fr.ext) (RM.trans hw)
  obtain ⟨I3,q1,q2,q3,q4⟩:=wrote φ' h' w' CK rZ pV GH
  exact ⟨K+1,φ',_,w',inv.snoc r hp ho hd oQ GH.ext hv (.inr ⟨he,CK,qi he,rfl⟩) ⟨I3,q1,q2,q3⟩ q4,gZ⟩
end
end Go.Ab
end
section
namespace Go.Ab
variable {E:Env}
section
variable {call:aW} {ops:Array Oper} {pl:kh} {s s':St} {tr:List Step} {hs st:List au}
structure CO (E:Env) (φ₀:Ph) (h₀:au) (w₀:World) (tG:List Deferred) (b:Frame) (k:List Item) (cs:List Frame) (s':St) (m:Machine):Prop where
 is:∃φ' a' w',LR φ' s'.ts a'.tmps.toList∧a'.defers=tG∧OK E φ' s'.h w'∧Fr φ₀ h₀ w₀ φ' s'.h w'∧Steps E.P m (lone (b.atR a' k) cs w')
theorem Ez (r:CM E call ops pl s s' tr hs st) {φ₀ φ:Ph} {w₀ w:World} {tG:List Deferred} {d:List Nat} {bL:Array Bool} {K:Nat} {a:Act} (inv:Inv E ops pl s tr hs st φ₀ w₀ tG d bL K φ a w)
 (EA:∀i,i<ops.size→i∈d) (b:Frame) (k:List Item) (cs:List Frame):CO E φ₀ s.h w₀ tG b k cs s' (lone (b.atR a (.inRegion ops []::k)) cs w):=by
 have mS:(tr.map (·.i)).Nodup:=by rw[r.trace.is];exact r.nodup
 obtain ⟨f1,f2,f3⟩:=gI r.pN.order
 have hK:K=pl.bD.length:=by
  have:=inv.Kle
  rcases Nat.lt_or_ge K pl.bD.length with h | h
  · exfalso
    have hq:pl.bD[K]? =some pl.bD[K]:=by simp [h]
    have hm:pl.bD[K]∈pl.bD:=List.getElem_mem h
    generalize hx:pl.bD[K]=ee at hm hq
    rw[r.pN.bD,Bo] at hm
    obtain ⟨o,ho,_⟩:=hm
    have jE:ee<ops.size:=by have:=(List.getElem?_eq_some_iff.1 ho).1;simpa using this
    have:=(inv.bD K _ hq).1 (EA _ jE)
    omega
  · omega
 obtain ⟨I3,q1,q2,q3⟩:=inv.ok
 have EB:=r.trace.last
 have acZ:oB E ops pl.order=K:=by omega
 rw[acZ,q1] at EB
 simp at EB;subst EB
 have Nz:s'.ts=mT ops (valOf tr) s.ts d:=by
  rw[r.trace.ts]
  have h1:=CL ops mS s.ts tr.length
  rw[List.take_length,r.trace.is,List.take_of_length_le (by rw[←r.trace.is];simp)] at h1
  rw[h1]
  refine List.ext_getElem? (fun x=>?_)
  refine sX s.ts (fun j j' e e'=>ub r.pN e e') (fun j hj=>?_)
  have MR:j<ops.size:=by
   unfold fJ at hj
   cases ho:ops[j]? with
   | none=>rw[ho] at hj;simp at hj
   | some o=>exact (Array.getElem?_eq_some_iff.1 ho).1
  exact ⟨fun _=>EA j MR,fun _=>(f2 j MR).resolve_left (by simp)⟩
 exact ⟨φ,a,w,by rw[Nz];exact inv.ts,inv.ds,q2,q3,.one stepR_region_end⟩
theorem yO {φ₀ φ:Ph} {w₀ w:World} {tG:List Deferred} {d:List Nat} {bL:Array Bool} {K:Nat} {a:Act} (r:CM E call ops pl s s' tr hs st) (inv:Inv E ops pl s tr hs st φ₀ w₀ tG d bL K φ a w)
 {i:Nat} (h:i∈Region.ready .any ops bL):i<ops.size∧i ∉ d∧∀j,cU pl.an i j=true→j∈d:=by
 obtain ⟨h1,o,ho,h2⟩:=mem_ready.1 h
 have hi:i<ops.size:=(Array.getElem?_eq_some_iff.1 ho).1
 have hl:=inv.bL i hi
 refine ⟨hi,fun hd=>?_,fun j hj=>?_⟩
 · simp [hl,hd,Array.getD_eq_getD_getElem?] at h1
 · obtain ⟨e,he,hej⟩:=r.pN.closed i o j ho hj
   have hed:e∈d:=by
    unfold jg at he
    simp only[List.mem_map,List.mem_filter] at he
    obtain ⟨ed,⟨hm,hb⟩,rfl⟩:=he
    have h3:=h2 ed (by simpa using hm) hb
    have ac0:ed.on<ops.size:=by
     have:=(r.pN.direct i o ed.on ho (by unfold jg;simp only[List.mem_map,List.mem_filter];exact ⟨ed,⟨hm,hb⟩,rfl⟩)).1
     omega
    simpa [inv.bL _ ac0,Array.getD_eq_getD_getElem?] using h3
   rcases hej with rfl | hej
   · exact hed
   · exact inv.closed e hed j hej
theorem vC {φ₀ φ:Ph} {w₀ w:World} {tG:List Deferred} {d:List Nat} {bL:Array Bool} {K:Nat} {a:Act} (r:CM E call ops pl s s' tr hs st) (inv:Inv E ops pl s tr hs st φ₀ w₀ tG d bL K φ a w)
 (h:Region.ready .any ops bL=[]):∀(n i:Nat),i<n→i<ops.size→i∈d
 | 0,i,hn,_=>by omega
 | n+1,i,hn,hi=>by
   have ih:=vC r inv h n
   by_cases hd:i∈d
   · exact hd
   · exfalso
     have ho:ops[i]? =some ops[i]:=by simp [hi]
     have:i∈Region.ready .any ops bL:=by
      refine mem_ready.2 ⟨by simp [inv.bL i hi,hd,Array.getD_eq_getD_getElem?],ops[i],ho,fun e he hb=>?_⟩
      have hm:e.on∈jg ops[i]:=by
       unfold jg;simp only[List.mem_map,List.mem_filter];exact ⟨e,⟨by simpa using he,hb⟩,rfl⟩
      have jE:=(r.pN.direct i _ e.on ho hm).1
      have:=ih e.on (by omega) (by omega)
      simp [inv.bL e.on (by omega),this,Array.getD_eq_getD_getElem?]
     rw[h] at this;simp at this
theorem CM.real (r:CM E call ops pl s s' tr hs st) (x:Step) (o:Oper) (hk h':au) (hx:x∈tr) (ho:ops[x.i]? =some o) (hh:hs[x.k]? =some hk) (vy:x.kind= .rW h'):cI E call x.ts hk s.rc o= .val x.v h':=by
 obtain ⟨p,hp⟩:=List.getElem?_of_mem hx
 obtain ⟨_,_,_,YC,_⟩:=r.at hp
 obtain ⟨_,_,o',hk1,sk1,Ey,wD,ZF,gQ⟩:=r.trace.step p x hp
 rw[ho] at Ey;simp at Ey;subst Ey
 rw[←YC,hh] at wD;simp at wD;subst wD
 unfold tZ at gQ;rw[vy] at gQ;exact gQ.2.2.1
theorem EC (hE:iZ E) (cJ:fZ E call) (r:CM E call ops pl s s' tr hs st) {φ₀:Ph} {w₀:World} {tG:List Deferred} {b:Frame} {k:List Item} {Ks:Bool→List Frame} (fk:lz φ₀ b Ks s.rc):
 ∀(fuel t:Nat) {φ:Ph} {w:World} {d:List Nat} {bL:Array Bool} {K:Nat} {a:Act} (_:Inv E ops pl s tr hs st φ₀ w₀ tG d bL K φ a w) (_:ops.size≤d.length+fuel),
  CO E φ₀ s.h w₀ tG b k (cur Ks s.rc) s' (lone (b.atR a (.inRegion ops (Region.linearise.go .any ops fuel t bL [])::k)) (cur Ks s.rc) w)
 | 0,t,φ,w,d,bL,K,a,inv,hf=>by
   simp only[Region.linearise.go,List.reverse_nil]
   refine Ez r inv (fun i hi=>?_) b k _
   by_cases hd:i∈d
   · exact hd
   · have:=yJ ops.size (i::d) (List.nodup_cons.2 ⟨hd,inv.nd⟩) (fun x hx=>by
      simp at hx;rcases hx with rfl | hx
      · exact hi
      · exact inv.lt x hx)
     simp at this;omega
 | fuel+1,t,φ,w,d,bL,K,a,inv,hf=>by
   simp only[Region.linearise.go]
   change CO E φ₀ s.h w₀ tG b k (cur Ks s.rc) s' (lone (b.atR a (.inRegion ops (match (Region.ready .any ops bL)[t%(Region.ready .any ops bL).length]? with
    | some i=>Region.linearise.go .any ops fuel (t/(Region.ready .any ops bL).length) (bL.setIfInBounds i true) [i]
    | none=> [].reverse)::k)) (cur Ks s.rc) w)
   cases hi:(Region.ready .any ops bL)[t%(Region.ready .any ops bL).length]? with
   | none=>
     have Cs:Region.ready .any ops bL=[]:=by
      cases hr:Region.ready .any ops bL with
      | nil=>rfl
      | cons x xs=>
        rw[hr] at hi
        have jE:t%(x::xs).length<(x::xs).length:=Nat.mod_lt _ (by simp)
        simp at hi
        simp at jE
        omega
     exact Ez r inv (fun i hi=>vC r inv Cs _ i (Nat.lt_succ_self i) hi) b k _
   | some i=>
     simp only[]
     rw[linearise_go_acc,List.reverse_singleton,List.singleton_append]
     obtain ⟨h1,h2,h3⟩:=yO r inv (List.mem_of_getElem? hi)
     obtain ⟨K',φ',a',w',Wn,gQ⟩:=inv.I2 hE cJ r fk (b:=b) (k:=k) h1 h2 h3 (fun x o hk h' hx _=>r.real x o hk h' hx) (Region.linearise.go .any ops fuel (t/(Region.ready .any ops bL).length) (bL.setIfInBounds i true) [])
     obtain ⟨φ2,a2,w2,x1,x2,x3,x4,x5⟩:=(EC hE cJ r fk fuel (t/(Region.ready .any ops bL).length) Wn (by simp;omega)).is
     exact ⟨φ2,a2,w2,x1,x2,x3,x4,Steps.trans gQ x5⟩
structure CP (E:Env) (φ₀:Ph) (h₀:au) (w₀:World) (tG:List Deferred) (b:Frame) (cs:List Frame) (v:AV) (s':St) (m:Machine):Prop where
 is:∃φ' a' w' v' todo,VR φ' v v'∧LR φ' s'.ts a'.tmps.toList∧a'.defers=tG∧OK E φ' s'.h w'∧Fr φ₀ h₀ w₀ φ' s'.h w'∧Steps E.P m (lone {b.atR a' todo with mode:= .panicking [{v:=v',recovered:=false}]} cs w')
theorem KI (hE:iZ E) {call:aW} (cJ:fZ E call) {ts:List AV} {h h':au} {rc:RC} {o:Oper} {c:Call} (hoc:o.op= .call c) {v:AV} (qi:cI E call ts h rc o= .panic v h') {i:Nat} {rest:List Nat} (ho:ops[i]? =some o)
 {φ:Ph} {a:Act} {w:World} {b:Frame} {k:List Item} {K:Bool→List Frame} (Nz:LR φ ts a.tmps.toList) (ok:OK E φ h w) (fk:lz φ b K rc) (hw:Region.wanted o (yielded ops a.tmps)=true):
 ∃φ' w' v' todo,VR φ' v v'∧OK E φ' h' w'∧Fr φ h w φ' h' w'∧Steps E.P (lone (b.atR a (.inRegion ops (i::rest)::k)) (cur K rc) w) (lone {b.atR a todo with mode:= .panicking [{v:=v',recovered:=false}]} (cur K rc) w'):=by
 have vx:=sU hE cJ (rc:=rc) (o:=o) Nz ok
 have mS:rc.mb=false∨∀c,o.op≠ .defer c:= .inr (fun c e=>by rw[hoc] at e;simp at e)
 have jl:=oO fk mS a.eval
 rw[qi] at vx
 cases vx with
 | Sg v h' F args all hr hf hl run=>
   obtain ⟨n,start,hp,gQ⟩:=hr φ w all ok hf hl
   obtain ⟨φ',w',v',hv,pV,fr,gZ⟩:=gQ (b.atR a (.inRegion ops (i::rest)::k)) (cur K rc)
   rw[Frame.raise_atR] at gZ
   exact ⟨φ',w',v',.inRegion ops (i::rest)::k,hv,pV,fr,.head (go_enter jl ho hw hp (run n start hp)) gZ⟩
 | panic v v' hv run=>exact ⟨φ,w,v',_,hv,ok,Fr.refl _ _ _,.one (Nt jl ho hw run)⟩
theorem Br (hE:iZ E) {Bp:aW} (cJ:fZ E Bp) (r:CM E call ops pl s s' tr hs st) {xl:Step} (hxl:xl∈tr) {ol:Oper} (RJ:ops[xl.i]? =some ol) {c:Call} (hoc:ol.op= .call c)
 (EA:∀j,j<ops.size→j≠xl.i→cU pl.an xl.i j=true) (U0:et E ol.op=true) (hwl:b_ ops xl.ts ol=true) {hk:au} (wD:hs[xl.k]? =some hk) {v:AV} {h':au} (ND:cI E Bp xl.ts hk s.rc ol= .panic v h')
 (Bq:∀(x:Step) (o:Oper) (hk h':au),x∈tr→x.i≠xl.i→ops[x.i]? =some o→hs[x.k]? =some hk→x.kind= .rW h'→cI E Bp x.ts hk s.rc o= .val x.v h')
 {s2:St} (h2:s2.h=h') (ZI:s2.ts=xl.ts) {φ₀:Ph} {w₀:World} {tG:List Deferred} {b:Frame} {k:List Item} {Ks:Bool→List Frame} (fk:lz φ₀ b Ks s.rc):
 ∀(fuel t:Nat) {φ:Ph} {w:World} {d:List Nat} {bL:Array Bool} {K:Nat} {a:Act} (_:Inv E ops pl s tr hs st φ₀ w₀ tG d bL K φ a w) (_:ops.size≤d.length+fuel) (_:xl.i ∉ d),
  CP E φ₀ s.h w₀ tG b (cur Ks s.rc) v s2 (lone (b.atR a (.inRegion ops (Region.linearise.go .any ops fuel t bL [])::k)) (cur Ks s.rc) w)
 | 0,t,φ,w,d,bL,K,a,inv,hf,mS=>by
   exfalso
   have hi:xl.i<ops.size:=(Array.getElem?_eq_some_iff.1 RJ).1
   have:=yJ ops.size (xl.i::d) (List.nodup_cons.2 ⟨mS,inv.nd⟩) (fun x hx=>by
    simp at hx;rcases hx with rfl | hx
    · exact hi
    · exact inv.lt x hx)
   simp at this;omega
 | fuel+1,t,φ,w,d,bL,K,a,inv,hf,mS=>by
   have hil:xl.i<ops.size:=(Array.getElem?_eq_some_iff.1 RJ).1
   simp only[Region.linearise.go]
   change CP E φ₀ s.h w₀ tG b (cur Ks s.rc) v s2 (lone (b.atR a (.inRegion ops (match (Region.ready .any ops bL)[t%(Region.ready .any ops bL).length]? with
    | some i=>Region.linearise.go .any ops fuel (t/(Region.ready .any ops bL).length) (bL.setIfInBounds i true) [i]
    | none=> [].reverse)::k)) (cur Ks s.rc) w)
   cases hi:(Region.ready .any ops bL)[t%(Region.ready .any ops bL).length]? with
   | none=>
     have Cs:Region.ready .any ops bL=[]:=by
      cases hr:Region.ready .any ops bL with
      | nil=>rfl
      | cons x xs=>
        rw[hr] at hi
        have jE:t%(x::xs).length<(x::xs).length:=Nat.mod_lt _ (by simp)
        simp at hi
        simp at jE
        omega
     exact absurd (vC r inv Cs _ xl.i (Nat.lt_succ_self _) hil) mS
   | some i=>
     simp only[]
     rw[linearise_go_acc,List.reverse_singleton,List.singleton_append]
     obtain ⟨h1,h2',h3⟩:=yO r inv (List.mem_of_getElem? hi)
     by_cases hii:i=xl.i
     · subst hii
       obtain ⟨p,hp⟩:=List.getElem?_of_mem hxl
       obtain ⟨_,q2,q3,_,o',Ey,q4,_⟩:=r.at hp
       rw[RJ] at Ey;simp at Ey;subst Ey
       obtain ⟨hag,NB⟩:=agree r hp RJ h2' inv.closed h3
       obtain ⟨hK,UZ,ok,fr⟩:=inv.ok
       have CK:=inv.yM r (q4 U0) h2' h3
       rw[CK,UZ] at wD;simp at wD;subst wD
       rw[yI hag] at ND
       have RM:Region.wanted ol (yielded ops a.tmps)=true:=by rw[sS inv.ts ol,NB];exact hwl
       obtain ⟨φ',w',v',todo,hv,pV,GH,gQ⟩:=KI hE cJ hoc ND RJ (rest:=Region.linearise.go .any ops fuel (t/(Region.ready .any ops bL).length) (bL.setIfInBounds xl.i true) []) (k:=k) inv.ts ok (fk.mono fr.ext) RM
       have ac1:(tr.map (·.i)).Nodup:=by rw[r.trace.is];exact r.nodup
       have Nz:xl.ts=mT ops (valOf tr) s.ts d:=by
        rw[(r.trace.step p xl hp).1,CL ops ac1,r.trace.is]
        refine List.ext_getElem? (fun x=>sX s.ts (fun j j' e e'=>ub r.pN e e') (fun j hj=>?_))
        have MR:j<ops.size:=by
         unfold fJ at hj
         cases ho:ops[j]? with
         | none=>rw[ho] at hj;simp at hj
         | some o=>exact (Array.getElem?_eq_some_iff.1 ho).1
        by_cases YA:j=xl.i
        · subst YA;exact ⟨fun h=>absurd h q2,fun h=>absurd h h2'⟩
        · exact ⟨fun _=>h3 j (EA j MR YA),fun _=>q3 j (EA j MR YA)⟩
       exact ⟨φ',a,w',v',todo,hv,by rw[ZI,Nz];exact inv.ts.mono GH.ext,inv.ds,by rw[h2];exact pV,by rw[h2];exact fr.trans GH,gQ⟩
     · obtain ⟨K',φ',a',w',Wn,gQ⟩:=inv.I2 hE cJ r fk (b:=b) (k:=k) h1 h2' h3 (fun x o hk h' hx KD=>Bq x o hk h' hx (by rw[KD];exact hii)) (Region.linearise.go .any ops fuel (t/(Region.ready .any ops bL).length) (bL.setIfInBounds i true) [])
       obtain ⟨φ2,a2,w2,v2,td,x0,x1,x2,x3,x4,x5⟩:=(Br hE cJ r hxl RJ hoc EA U0 hwl wD ND Bq h2 ZI fk fuel (t/(Region.ready .any ops bL).length) Wn (by simp;omega) (by simp;exact ⟨mS,fun h=>hii h.symm⟩)).is
       exact ⟨φ2,a2,w2,v2,td,x0,x1,x2,x3,x4,Steps.trans gQ x5⟩
def yP (call:aW):aW:=fun f as_ h=>match call f as_ h with
 | .panic _ h'=> .ret AV.undef h'
 | r=>r
theorem NF {call:aW} {ts:List AV} {h h':au} {rc:RC} {o:Oper} {v:AV} (e:cI E call ts h rc o= .val v h'):cI E (yP call) ts h rc o= .val v h':=by
 obtain ⟨dst,op,ty,pos,after,guard⟩:=o
 cases op with
 | call c=>
   obtain ⟨dw,args,aT⟩:=c
   cases dw with
   | builtin b=>cases b<;>exact e
   | value f=>
     simp only[cI] at e ⊢
     split at e
     · split at e
       · exact e
       · split at e
         · rename_i hc
           simp only[yP,hc];exact e
         · simp at e
         · simp at e
     · simp at e
   | invoke x name=>
     simp only[cI] at e ⊢
     split at e
     · split at e
       · split at e
         · rename_i hc
           simp only[yP,hc];exact e
         · simp at e
         · simp at e
       · simp at e
     · simp at e
 | _=>exact e
theorem NG {call:aW} {ts:List AV} {h h':au} {rc:RC} {dst:Option Tmp} {c:Call} {ty:TypeId} {pos:String} {after:Array Edge} {guard:Option (Nat×Bool)} {v:AV} (e:cI E call ts h rc ⟨dst,.call c,ty,pos,after,guard⟩= .panic v h'):
 cI E (yP call) ts h rc ⟨dst,.call c,ty,pos,after,guard⟩= .val AV.undef h':=by
 obtain ⟨dw,args,aT⟩:=c
 cases dw with
 | builtin b=>
   cases b<;>simp only[cI] at e<;>(try (simp at e;done))<;>(split at e<;>(try (simp at e;done))<;>(try (split at e<;>simp at e)))
 | value f=>
   simp only[cI] at e ⊢
   split at e
   · split at e
     · split at e<;>simp at e
     · split at e
       · simp at e
       · rename_i hc
         simp at e;obtain ⟨rfl,rfl⟩:=e
         simp only[yP,hc]
       · simp at e
   · simp at e
 | invoke x name=>
   simp only[cI] at e ⊢
   split at e
   · split at e
     · split at e
       · simp at e
       · rename_i hc
         simp at e;obtain ⟨rfl,rfl⟩:=e
         simp only[yP,hc]
       · simp at e
     · simp at e
   · simp at e
theorem mg {α:Type} {f:α→Option Nat}:∀{l:List α} (_:(l.filterMap f).Nodup) {x y:α} {n:Nat} (_:x∈l) (_:y∈l) (_:f x=some n) (_:f y=some n),x=y
 | [],_,x,y,n,hx,_,_,_=>by simp at hx
 | z::l,hn,x,y,n,hx,hy,fx,fy=>by
   cases hz:f z with
   | none=>
     rw[List.filterMap_cons_none hz] at hn
     have Zp:x∈l:=by
      simp at hx;rcases hx with rfl | h
      · rw[hz] at fx;simp at fx
      · exact h
     have Nq:y∈l:=by
      simp at hy;rcases hy with rfl | h
      · rw[hz] at fy;simp at fy
      · exact h
     exact mg hn Zp Nq fx fy
   | some m=>
     rw[List.filterMap_cons_some hz,List.nodup_cons] at hn
     simp at hx hy
     rcases hx with rfl | hx<;>rcases hy with rfl | hy
     · rfl
     · exfalso;rw[fx] at hz;simp at hz;subst hz;exact hn.1 (List.mem_filterMap.2 ⟨y,hy,fy⟩)
     · exfalso;rw[fy] at hz;simp at hz;subst hz;exact hn.1 (List.mem_filterMap.2 ⟨x,hx,fx⟩)
     · exact mg hn.2 hx hy fx fy
theorem NH (Ku:p8 E ops=some pl) (hd:cx E call ops pl.order 0 s= .ok tr hs s') (hl:oF E ops pl tr hs=true):∃st,CM E call ops pl s s' tr hs st:=by
 obtain ⟨st,t⟩:=mf hd
 unfold oF at hl
 simp only[Bool.and_eq_true] at hl
 refine ⟨st,Ew Ku,t,fun x hx K hk h1 h2 h3=>?_,fun x y hx hy n o q e1 e2=>?_⟩
 · have h4:=List.all_eq_true.1 (List.all_eq_true.1 hl.2 x hx) hk
   refine h4 ?_
   refine List.mem_of_getElem? (i:=K - x.k) ?_
   rw[List.getElem?_take,if_pos (by omega),List.getElem?_drop,show x.k+(K - x.k)=K by omega,h3]
 · have:=sW hl.1
   have:=mg this hx hy (n:=n) (by simp [e1]) (by simp [e2])
   rw[this]
theorem sY {call Bs:aW} (hc:∀{ts:List AV} {h h':au} {rc:RC} {o:Oper} {v:AV},cI E call ts h rc o= .val v h'→cI E Bs ts h rc o= .val v h') {i:Nat} {o:Oper} (ho:ops[i]? =some o) (he:et E o.op=true):
 ∀(l:List Nat) (k:Nat) (s:St) {tr:List Step} {hs:List au} {s1:St} {h':au} (_:cx E call ops l k s= .ok tr hs s1) (_:b_ ops s1.ts o=true) (_:cI E Bs s1.ts s1.h s1.rc o= .val AV.undef h'),
  cx E Bs ops (l++[i]) k s= .ok (tr++[⟨i,k+(hs.length - 1),s1.ts,AV.undef,.rW h'⟩]) (hs++[h']) {s1 with ts:=c_ s1.ts o.dst AV.undef,h:=h'}
 | [],k,s,tr,hs,s1,h',hd,hw,hv=>by
   simp [cx] at hd;obtain ⟨rfl,rfl,rfl⟩:=hd
   simp only[List.nil_append,cx,ho,he,if_true,hw,hv]
   simp [iw.bound,iw.step]
 | j::l,k,s,tr,hs,s1,h',hd,hw,hv=>by
   rw[List.cons_append]
   simp only[cx] at hd ⊢
   cases UX:ops[j]? with
   | none=>rw[UX] at hd;simp at hd
   | some oj=>
   rw[UX] at hd
   simp only at hd ⊢
   have wr:∀(x:Step) (s0:St),((cx E call ops l (k+1) s0).bound s.h).step x= .ok tr hs s1→((cx E Bs ops (l++[i]) (k+1) s0).bound s.h).step x= .ok (tr++[⟨i,k+(hs.length - 1),s1.ts,AV.undef,.rW h'⟩]) (hs++[h']) {s1 with ts:=c_ s1.ts o.dst AV.undef,h:=h'}:=by
    intro x s0 hd
    cases hr:cx E call ops l (k+1) s0 with
    | fail why q=>rw[hr] at hd;simp [iw.bound,iw.step] at hd
    | ok I1 pU s2=>
      rw[hr] at hd;simp [iw.bound,iw.step] at hd;obtain ⟨rfl,rfl,rfl⟩:=hd
      rw[sY hc ho he l (k+1) s0 hr hw hv]
      obtain ⟨_,t⟩:=mf hr
      have:1≤pU.length:=by have:=t.len;omega
      simp [iw.bound,iw.step];omega
   have pl:∀(x:Step) (s0:St),(cx E call ops l k s0).step x= .ok tr hs s1→(cx E Bs ops (l++[i]) k s0).step x= .ok (tr++[⟨i,k+(hs.length - 1),s1.ts,AV.undef,.rW h'⟩]) (hs++[h']) {s1 with ts:=c_ s1.ts o.dst AV.undef,h:=h'}:=by
    intro x s0 hd
    cases hr:cx E call ops l k s0 with
    | fail why q=>rw[hr] at hd;simp [iw.step] at hd
    | ok I1 pU s2=>
      rw[hr] at hd;simp [iw.step] at hd;obtain ⟨rfl,rfl,rfl⟩:=hd
      rw[sY hc ho he l k s0 hr hw hv]
      simp [iw.step]
   split at hd
   · rename_i Wo
     rw[if_pos Wo]
     split at hd
     · rename_i AF
       rw[if_pos AF]
       split at hd
       · rename_i NC
         simp only[hc NC]
         exact wr _ _ hd
       · simp at hd
       · simp at hd
     · rename_i AF
       rw[if_neg AF]
       exact wr _ _ hd
   · rename_i Wo
     rw[if_neg Wo]
     split at hd
     · rename_i AF
       rw[if_pos AF]
       split at hd
       · rename_i hp
         try simp only[hp]
         exact pl _ _ hd
       · rename_i hp
         try simp only[hp]
         split at hd
         · rename_i hq
           try simp only[hq]
           exact pl _ _ hd
         · rename_i hq
           try simp only[hq]
           split at hd
           · rename_i hr
             try simp only[hr]
             split at hd
             · rename_i hn
               try simp only[hn]
               exact pl _ _ hd
             · simp at hd
           · simp at hd
     · rename_i AF
       rw[if_neg AF]
       exact pl _ _ hd
theorem vD {call:aW} {i:Nat} {o:Oper} (ho:ops[i]? =some o) (he:et E o.op=true) {v:AV}:
 ∀(l:List Nat) (k:Nat) (s:St) {tr:List Step} {hs:List au} {s1:St} {h':au} (_:cx E call ops l k s= .ok tr hs s1) (_:b_ ops s1.ts o=true) (_:cI E call s1.ts s1.h s1.rc o= .panic v h'),
  ∃why q,cx E call ops (l++[i]) k s= .fail why q
 | [],k,s,tr,hs,s1,h',hd,hw,hv=>by
   simp [cx] at hd;obtain ⟨rfl,rfl,rfl⟩:=hd
   simp only[List.nil_append,cx,ho,he,if_true,hw,hv]
   exact ⟨_,_,rfl⟩
 | j::l,k,s,tr,hs,s1,h',hd,hw,hv=>by
   rw[List.cons_append]
   simp only[cx] at hd ⊢
   cases UX:ops[j]? with
   | none=>rw[UX] at hd;simp at hd
   | some oj=>
   rw[UX] at hd
   simp only at hd ⊢
   have wr:∀(x:Step) (s0:St),((cx E call ops l (k+1) s0).bound s.h).step x= .ok tr hs s1→∃why q,((cx E call ops (l++[i]) (k+1) s0).bound s.h).step x= .fail why q:=by
    intro x s0 hd
    cases hr:cx E call ops l (k+1) s0 with
    | fail why q=>rw[hr] at hd;simp [iw.bound,iw.step] at hd
    | ok I1 pU s2=>
      rw[hr] at hd;simp [iw.bound,iw.step] at hd;obtain ⟨rfl,rfl,rfl⟩:=hd
      obtain ⟨why,q,e⟩:=vD ho he l (k+1) s0 hr hw hv
      rw[e];exact ⟨_,_,rfl⟩
   have pl:∀(x:Step) (s0:St),(cx E call ops l k s0).step x= .ok tr hs s1→∃why q,(cx E call ops (l++[i]) k s0).step x= .fail why q:=by
    intro x s0 hd
    cases hr:cx E call ops l k s0 with
    | fail why q=>rw[hr] at hd;simp [iw.step] at hd
    | ok I1 pU s2=>
      rw[hr] at hd;simp [iw.step] at hd;obtain ⟨rfl,rfl,rfl⟩:=hd
      obtain ⟨why,q,e⟩:=vD ho he l k s0 hr hw hv
      rw[e];exact ⟨_,_,rfl⟩
   split at hd
   · rename_i Wo
     rw[if_pos Wo]
     split at hd
     · rename_i AF
       rw[if_pos AF]
       split at hd
       · rename_i NC
         try simp only[NC]
         exact wr _ _ hd
       · simp at hd
       · simp at hd
     · rename_i AF
       rw[if_neg AF]
       exact wr _ _ hd
   · rename_i Wo
     rw[if_neg Wo]
     split at hd
     · rename_i AF
       rw[if_pos AF]
       split at hd
       · rename_i hp
         try simp only[hp]
         exact pl _ _ hd
       · rename_i hp
         try simp only[hp]
         split at hd
         · rename_i hq
           try simp only[hq]
           exact pl _ _ hd
         · rename_i hq
           try simp only[hq]
           split at hd
           · rename_i hr
             try simp only[hr]
             split at hd
             · rename_i hn
               try simp only[hn]
               exact pl _ _ hd
             · simp at hd
           · simp at hd
     · rename_i AF
       rw[if_neg AF]
       exact pl _ _ hd
end
theorem yQ {call:aW} {ops:Array Oper} {pl:kh} {s s':St} {tr:List Step} {oJ st:List au} (r:CM E call ops pl s s' tr oJ st)
 {φ:Ph} {a:Act} {w:World} (Nz:LR φ s.ts a.tmps.toList) (ok:OK E φ s.h w):Inv E ops pl s tr oJ st φ w a.defers [] (Array.replicate ops.size false) 0 φ a {w with drawn:=w.drawn+1}:=by
 have ED:OK E φ s.h {w with drawn:=w.drawn+1}:=⟨ok.xz,ok.nx,ok.sM,ok.live,ok.inj⟩
 have YD:Fr φ s.h w φ s.h {w with drawn:=w.drawn+1}:=⟨Ph.le_refl φ,fun _ _=>rfl,Nat.le_refl _,rfl,rfl,rfl,Nat.le_refl _,fun _ _ _=>rfl,fun i o l a b c=> .inr ⟨i,o,l,a,b,c,rfl⟩⟩
 have hlen:0<oJ.length:=by have:=r.trace.len;omega
 have h0:oJ[0]? =some oJ[0]:=by simp [hlen]
 have g:=r.trace.grown 0 s.h _ r.trace.first h0
 obtain ⟨yN,Wm⟩:=ED.grown g
 refine ⟨.nil,fun i hi=>by simp at hi,fun i hi=>by simp [hi],fun i hi=>by simp at hi,fun q e hq=>by simp,by omega,by simpa [mT] using Nz,rfl,⟨_,h0,yN,YD.trans Wm⟩,fun x hx n obj hk _ YC=>?_⟩
 obtain ⟨q,hq⟩:=List.getElem?_of_mem hx
 obtain ⟨_,_,_,hky,oy,hoy,_,_⟩:=r.at hq
 obtain ⟨_,_,oy',acU,acV,acW,AR,AS,Hj⟩:=r.trace.step q x hq
 rw[←hky] at AR AS
 have CK:x.k=0:=by omega
 rw[CK] at AR AS
 rw[r.trace.first] at AS;simp at AS;subst AS
 unfold tZ at Hj
 rw[hk] at Hj
 obtain ⟨_,_,_,Zu,I4⟩:=Hj
 refine ⟨?_,Zu,fun hK e=>?_⟩
 · cases hφ:φ n with
   | none=>rfl
   | some l=>have:=ok.xz n l hφ;omega
 · rw[e] at AR;simp at AR;subst AR;exact I4
theorem EF (hE:iZ E) (ac2:E.P.follows .mixedOrders=true) {call:aW} (cJ:fZ E call) {ops:Array Oper} {s s':St} {e:gR} (h:tL E call ops s= .ok e s')
 {φ:Ph} {a:Act} {w:World} {b:Frame} {k:List Item} {K:Bool→List Frame} (hs:SR φ s.ts s.ds a) (ok:OK E φ s.h w) (fk:lz φ b K s.rc) (id:Nat):
 s'.rc=s.rc∧s'.ds=s.ds∧((e= .normal∧∃φ' a' w',LR φ' s'.ts a'.tmps.toList∧a'.defers=a.defers∧OK E φ' s'.h w'∧Fr φ s.h w φ' s'.h w'∧
  Steps E.P (lone (b.atR a (.code (.region id ops true)::k)) (cur K s.rc) w) (lone (b.atR a' k) (cur K s.rc) w'))∨
  ∃v,e= .panic v∧CP E φ s.h w a.defers b (cur K s.rc) v s' (lone (b.atR a (.code (.region id ops true)::k)) (cur K s.rc) w)):=by
 have ZJ:Region.schedule (E.P.follows .mixedOrders) ops (w.tape w.drawn (.order b.fn id))=Region.linearise.go .any ops ops.size (w.tape w.drawn (.order b.fn id)) (Array.replicate ops.size false) []:=by
  rw[ac2];rfl
 unfold tL at h
 split at h
 · simp at h
 rename_i pl Ku
 split at h
 · rename_i tr oJ s1 hd
   split at h
   · rename_i hl
     simp at h;obtain ⟨rfl,rfl⟩:=h
     obtain ⟨st,r⟩:=NH Ku hd hl
     refine ⟨r.trace.rc,r.trace.ds,.inl ⟨rfl,?_⟩⟩
     obtain ⟨φ',a',w',x1,x2,x3,x4,x5⟩:=(EC hE cJ r fk (b:=b) (k:=k) ops.size (w.tape w.drawn (.order b.fn id)) (yQ r hs.ts ok) (by simp)).is
     refine ⟨φ',a',w',x1,x2,x3,x4,.head stepR_region_draw ?_⟩
     rw[ZJ]
     exact x5
   · simp at h
 · split at h
   · rename_i v s2 hp
     simp at h;obtain ⟨rfl,rfl⟩:=h
     unfold yn at hp
     split at hp
     · simp at hp
     rename_i i front Sl
     split at hp
     · rename_i tr oJ s1 dst c ty pos after guard hd ho
       split at hp
       · rename_i Cw
         split at hp
         · rename_i v1 h1 NC
           split at hp
           · rename_i hl
             simp at hp;obtain ⟨rfl,rfl⟩:=hp
             simp only[Bool.and_eq_true,List.all_eq_true,List.mem_range,Bool.or_eq_true,beq_iff_eq] at Cw
             obtain ⟨⟨he,hw⟩,EA⟩:=Cw
             have Ny:pl.order=front.reverse++[i]:=by
              have:=congrArg List.reverse Sl
              simpa using this
             have Sm:=sY (Bs:=yP call) (fun e=>NF e) ho he front.reverse 0 s hd hw (NG NC)
             rw[←Ny] at Sm
             rw[Nat.zero_add] at Sm
             obtain ⟨st,r⟩:=NH Ku Sm hl
             obtain ⟨st1,t1⟩:=mf hd
             have ZK:s1.rc=s.rc:=t1.rc
             refine ⟨ZK,t1.ds,.inr ⟨_,rfl,?_⟩⟩
             have hlen:1≤oJ.length:=by have:=t1.len;omega
             have EB:(oJ++[h1])[oJ.length - 1]? =some s1.h:=by
              rw[List.getElem?_append_left (by omega)]
              have:=t1.last
              rw[show oJ.length - 1=oB E ops front.reverse by have:=t1.len;omega];exact this
             have Bq:∀(x:Step) (o:Oper) (hk h':au),x∈tr++[⟨i,oJ.length - 1,s1.ts,AV.undef,.rW h1⟩]→x.i≠i→ops[x.i]? =some o→(oJ++[h1])[x.k]? =some hk→x.kind= .rW h'→cI E call x.ts hk s.rc o= .val x.v h':=by
              intro x o hk h' hx KD Ey wD vy
              have Zp:x∈tr:=by
               simp at hx;rcases hx with h | h
               · exact h
               · exact absurd (by rw[h]) KD
              obtain ⟨p,hp⟩:=List.getElem?_of_mem Zp
              obtain ⟨_,YC,o',hk1,sk1,ho2,Wq,ZF,gQ⟩:=t1.step p x hp
              rw[Ey] at ho2;simp at ho2;subst ho2
              rw[Nat.zero_add] at YC
              rw[←YC] at Wq
              have jE:x.k<oJ.length:=(List.getElem?_eq_some_iff.1 Wq).1
              rw[List.getElem?_append_left jE,Wq] at wD
              simp at wD;subst wD
              unfold tZ at gQ;rw[vy] at gQ;exact gQ.2.2.1
             have ac3:=(Br hE cJ r (xl:=⟨i,oJ.length - 1,s1.ts,AV.undef,.rW h1⟩) (by simp) (ol:=⟨dst,.call c,ty,pos,after,guard⟩) ho rfl (fun j hj dD=>(EA j hj).resolve_left dD) he hw EB (by rw[←ZK];exact NC) Bq
              (s2:={s1 with h:=h1}) rfl rfl fk (b:=b) (k:=k) ops.size (w.tape w.drawn (.order b.fn id)) (yQ r hs.ts ok) (by simp) (by simp)).is
             obtain ⟨φ',a',w',v',todo,x0,x1,x2,x3,x4,x5⟩:=ac3
             refine ⟨φ',a',w',v',todo,x0,x1,x2,x3,x4,.head stepR_region_draw ?_⟩
             rw[ZJ]
             exact x5
           · simp at hp
         · simp at hp
       · simp at hp
     · simp at hp
   · simp at h
end Go.Ab
end
