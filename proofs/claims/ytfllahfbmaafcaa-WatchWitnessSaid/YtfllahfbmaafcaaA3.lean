import Derived.Orders
import Derived.Test.YtfllahfbmaafcaaA2
set_option linter.unusedVariables false
set_option linter.unusedSimpArgs false
section
namespace Go.Ab
variable {E:Env}
def nV (E:Env) (ts kz:List AV) (op:Op):Prop:=∀x∈op.operands,eA E ts x=eA E kz x
theorem wQ {α β:Type} {f g:α→Option β}:∀{l:List α} (_:∀x∈l,f x=g x),eH f l=eH g l
 | [],_=>rfl
 | x::xs,h=>by simp only[eH,h x (by simp),wQ (l:=xs) (fun y hy=>h y (by simp [hy]))]
theorem pz {ts kz:List AV} {l:List Operand} (h:∀x∈l,eA E ts x=eA E kz x):fW E ts l=fW E kz l:=wQ h
theorem ra {ts kz:List AV}:∀{l:List (Nat×Operand)} (_:∀x∈l.map (·.2),eA E ts x=eA E kz x),kt E ts l=kt E kz l
 | [],_=>rfl
 | (i,o)::l,h=>by simp only[kt,h o (by simp),ra (l:=l) (fun y hy=>h y (by simp at hy ⊢;exact .inr hy))]
theorem sK {ts kz:List AV} {o:Option Operand} (h:∀x∈o.toArray,eA E ts x=eA E kz x):mX E ts o=mX E kz o:=by
 cases o with
 | none=>rfl
 | some o=>simp only[mX,h o (by simp)]
theorem wR {ts kz:List AV} {c:Call} (h:∀x∈c.operands,eA E ts x=eA E kz x):callee E ts c=callee E kz c:=by
 unfold callee
 cases hc:c.callee with
 | value f=>
   have h1:eA E ts f=eA E kz f:=h f (by simp [Call.operands,hc])
   have h2:fW E ts c.args.toList=fW E kz c.args.toList:=pz (fun x hx=>h x (by simp [Call.operands,hc];exact .inr (by simpa using hx)))
   simp only[h1,h2]
 | invoke _ _=>rfl
 | builtin _=>rfl
theorem nK {ts kz:List AV} {c:Call} (h:∀x∈c.operands,eA E ts x=eA E kz x):fW E ts c.args.toList=fW E kz c.args.toList:=
 pz (fun x hx=>h x (by simp [Call.operands];exact .inr (by simpa using hx)))
theorem Iu {ts kz:List AV} {op:Op} (h:nV E ts kz op):bE E ts op=bE E kz op:=by
 cases op with
 | call c=>
   have hc:=nK (E:=E) (ts:=ts) (kz:=kz) (c:=c) h
   obtain ⟨callee,args,argTypes⟩:=c
   simp only at hc
   cases callee with
   | builtin b=>cases b<;>simp only[bE,hc]
   | value f=>cases f<;>simp only[bE,hc]
   | invoke r m=>simp only[bE]
 | build t ps=>
   have:kt E ts ps.toList=kt E kz ps.toList:=ra (fun x hx=>h x (by simpa [Op.operands] using hx))
   simp only[bE,this]
 | makeFunc fn first captured=>
   cases fn with
   | func f=>
     have h1:fW E ts first.toList=fW E kz first.toList:=pz (fun x hx=>h x (by simp [Op.operands];exact .inl (by simpa using hx)))
     have h2:fW E ts captured.toList=fW E kz captured.toList:=pz (fun x hx=>h x (by simp [Op.operands];exact .inr (by simpa using hx)))
     simp only[bE,h1,h2]
   | _=>simp only[bE]
 | slice t x lo hi mx=>
   have h0:eA E ts x=eA E kz x:=h x (by simp [Op.operands])
   have h1:mX E ts lo=mX E kz lo:=sK (fun y hy=>h y (by simp [Op.operands] at hy ⊢;exact .inr (.inl hy)))
   have h2:mX E ts hi=mX E kz hi:=sK (fun y hy=>h y (by simp [Op.operands] at hy ⊢;exact .inr (.inr (.inl hy))))
   have h3:mX E ts mx=mX E kz mx:=sK (fun y hy=>h y (by simp [Op.operands] at hy ⊢;exact .inr (.inr (.inr hy))))
   simp only[bE,h0,h1,h2,h3]
 | move x=>simp only[bE,h x (by simp [Op.operands])]
 | assign x=>simp only[bE,h x (by simp [Op.operands])]
 | pick c a b=>simp only[bE,h c (by simp [Op.operands]),h a (by simp [Op.operands]),h b (by simp [Op.operands])]
 | nilCheck x=>simp only[bE,h x (by simp [Op.operands])]
 | binOp o t x y u=>simp only[bE,h x (by simp [Op.operands]),h y (by simp [Op.operands])]
 | unOp o t x=>simp only[bE,h x (by simp [Op.operands])]
 | convert s d x=>simp only[bE,h x (by simp [Op.operands])]
 | makeInterface t x=>simp only[bE,h x (by simp [Op.operands])]
 | fieldAddr s x f=>simp only[bE,h x (by simp [Op.operands])]
 | field s x f=>simp only[bE,h x (by simp [Op.operands])]
 | indexAddr t x i=>simp only[bE,h x (by simp [Op.operands]),h i (by simp [Op.operands])]
 | index t x i=>simp only[bE,h x (by simp [Op.operands]),h i (by simp [Op.operands])]
 | extract x i=>simp only[bE,h x (by simp [Op.operands])]
 | typeAssert x a b ok=>simp only[bE,h x (by simp [Op.operands])]
 | _=>simp only[bE]
theorem Iv {ts kz:List AV} {op:Op} (h:nV E ts kz op) (hp:aA):dW E ts hp op=dW E kz hp op:=by
 cases op with
 | call c=>
   have hc:=nK (E:=E) (ts:=ts) (kz:=kz) (c:=c) h
   obtain ⟨callee,args,argTypes⟩:=c
   simp only at hc
   cases callee with
   | builtin b=>cases b<;>simp only[dW,hc]
   | value f=>simp only[dW]
   | invoke r m=>simp only[dW]
 | load t a=>simp only[dW,h a (by simp [Op.operands])]
 | convert s d x=>simp only[dW,h x (by simp [Op.operands])]
 | lookup t x i ok=>simp only[dW,h x (by simp [Op.operands]),h i (by simp [Op.operands])]
 | _=>simp only[dW]
theorem F4 {ts kz:List AV} {op:Op} (h:nV E ts kz op):eB E ts op=eB E kz op:=by
 cases op with
 | buildSlice t n ps=>
   have:kt E ts ps.toList=kt E kz ps.toList:=ra (fun x hx=>h x (by simpa [Op.operands] using hx))
   simp only[eB,this]
 | box t x=>simp only[eB,h x (by simp [Op.operands])]
 | makeSlice t l c=>simp only[eB,h l (by simp [Op.operands]),h c (by simp [Op.operands])]
 | makeMap t r=>
   cases r with
   | none=>simp only[eB]
   | some r=>simp only[eB,h r (by simp [Op.operands])]
 | range t x=>simp only[eB,h x (by simp [Op.operands])]
 | _=>simp only[eB]
theorem Bp {call:bh} {ts kz:List AV} {o:Oper} (h:nV E ts kz o.op) (hp:aA) (rc:RC):dm E call ts hp rc o=dm E call kz hp rc o:=by
 obtain ⟨dst,op,ty,pos,after,guard⟩:=o
 simp only at h
 unfold dm
 cases op with
 | call c=>
   have hc:=nK (E:=E) (ts:=ts) (kz:=kz) (c:=c) h
   have DJ:=wR (E:=E) (ts:=ts) (kz:=kz) (c:=c) h
   cases Y5:c.callee with
   | invoke r name=>
     have hr:eA E ts r=eA E kz r:=h r (by simp [Op.operands,Call.operands,Y5])
     simp only[Y5,hc,hr]
   | builtin b=>cases b<;>simp only[Y5,hc]
   | value f=>simp only[Y5,DJ]
 | defer c=>simp only[wR (E:=E) (ts:=ts) (kz:=kz) (c:=c) h]
 | store t a x=>simp only[h a (by simp [Op.operands]),h x (by simp [Op.operands])]
 | mapUpdate t m k x=>simp only[h m (by simp [Op.operands]),h k (by simp [Op.operands]),h x (by simp [Op.operands])]
 | insert t m k x=>simp only[h m (by simp [Op.operands]),h k (by simp [Op.operands]),h x (by simp [Op.operands])]
 | mapEntry t m k=>simp only[h m (by simp [Op.operands]),h k (by simp [Op.operands])]
 | entryStore t m k x=>simp only[h m (by simp [Op.operands]),h k (by simp [Op.operands]),h x (by simp [Op.operands])]
 | convert s d x=>simp only[h x (by simp [Op.operands])]
 | next i s=>simp only[h i (by simp [Op.operands])]
 | panic x=>simp only[h x (by simp [Op.operands])]
 | _=>rfl
end Go.Ab
end
section
namespace Go.Ab
variable {E:Env}
theorem na {α:Type} {f:α→α→Bool} (hf:∀x y,f x y=true→x=y):∀{l r:List α} (_:da f l r=true),l=r
 | [],[],_=>rfl
 | [],_::_,h=>by simp [da] at h
 | _::_,[],h=>by simp [da] at h
 | x::xs,y::ys,h=>by
   simp only[da,Bool.and_eq_true] at h
   rw[hf x y h.1,na hf h.2]
theorem AV.wV:∀(n:Nat) (x y:AV),AV.same n x y=true→x=y
 | 0,_,_,h=>by simp [AV.same] at h
 | n+1,x,y,h=>by
   have ih:=AV.wV n
   cases x<;>cases y<;>simp [AV.same] at h<;>try rfl
   all_goals first
    | (subst h;rfl)
    | (obtain ⟨rfl,rfl⟩:=h;rfl)
    | (obtain ⟨⟨⟨⟨rfl,rfl⟩,rfl⟩,rfl⟩,rfl⟩:=h;rfl)
    | (obtain ⟨⟨rfl,h1⟩,h2⟩:=h;rw[na ih h1,na ih h2])
    | (obtain ⟨rfl,h1⟩:=h;rw[ih _ _ h1])
    | (rw[na ih h])
theorem aX.wV {x y:aX} (h:aX.same x y=true):x=y:=by
 unfold aX.same at h
 split at h
 · simp only[Bool.and_eq_true,beq_iff_eq] at h
   obtain ⟨⟨h1,rfl⟩,rfl⟩:=h
   rw[na (AV.wV 20) h1]
 · simp at h;subst h;rfl
 · simp at h;obtain ⟨rfl,rfl⟩:=h;rfl
 · simp at h
theorem vA:∀{l:List Nat} (_:nodup l=true),l.Nodup
 | [],_=> .nil
 | x::xs,h=>by
   simp only[nodup,Bool.and_eq_true,Bool.not_eq_true',List.contains_eq_mem,decide_eq_false_iff_not] at h
   exact List.nodup_cons.2 ⟨h.1,vA h.2⟩
theorem Bq:∀(n:Nat) (l:List Nat) (_:l.Nodup) (_:∀x∈l,x<n),l.length≤n
 | 0,l,_,h=>by
   cases l with
   | nil=>simp
   | cons x _=>have:=h x (by simp);omega
 | n+1,l,hn,h=>by
   have h1:=Bq n (l.erase n) (hn.erase n) (fun x hx=>by
    have h2:=h x (List.mem_of_mem_erase hx)
    have h3:x≠n:=(hn.mem_erase_iff.1 hx).1
    omega)
   rw[List.length_erase] at h1
   split at h1<;>omega
structure Br (E:Env) (ops:Array Oper) (pl:mE):Prop where
 lt:∀i o j,ops[i]? =some o→dI pl.an i j=true→j<i
 direct:∀i o e,ops[i]? =some o→e∈kU o→e<i∧dI pl.an i e=true
 closed:∀i o j,ops[i]? =some o→dI pl.an i j=true→∃e∈kU o,e=j∨dI pl.an e j=true
 guard:∀i o g want,ops[i]? =some o→o.guard=some (g,want)→dI pl.an i g=true
 slot:∀i j o p d,i≠j→ops[i]? =some o→ops[j]? =some p→p.dst=some d→o.dst≠some d∧(d∈tmpsOf o→dI pl.an i j=true∨dI pl.an j i=true)
 chain:∀q e f,pl.bM[q]? =some e→pl.bM[q+1]? =some f→dI pl.an f e=true
 bM:pl.bM=nG E ops.toList
 nd:pl.bM.Nodup
 order:kV E ops pl.an pl.bM pl.order [] 0=true
theorem uh {ops:Array Oper} {i:Nat} {o:Oper} (h:ops[i]? =some o):(o,i)∈ops.toList.zipIdx:=by
 rw[List.mk_mem_zipIdx_iff_getElem?];simpa using h
theorem wX {an:List (List Nat)}:∀{l:List Nat} (_:ub an l=true) (q e f:Nat),l[q]? =some e→l[q+1]? =some f→dI an f e=true
 | [],_,q,e,f,h,_=>by simp at h
 | [x],_,q,e,f,h,h'=>by simp at h'
 | x::y::l,hc,q,e,f,h,h'=>by
   simp only[ub,Bool.and_eq_true] at hc
   cases q with
   | zero=>simp at h h';subst h;subst h';exact hc.1
   | succ q=>exact wX hc.2 q e f (by simpa using h) (by simpa using h')
theorem Iw {ops:Array Oper} {pl:mE} (h:sy E ops=some pl):Br E ops pl:=by
 unfold sy at h
 simp only at h
 split at h
 · rename_i hc
   simp at h;subst h
   simp only[Bool.and_eq_true] at hc
   obtain ⟨⟨⟨⟨he,hs⟩,Zb⟩,po⟩,Q1⟩:=hc
   have Kp:=List.all_eq_true.1 he
   have qW:=List.all_eq_true.1 hs
   refine ⟨fun i o j ho hj=>?_,fun i o e ho hm=>?_,fun i o j ho hj=>?_,fun i o g want ho hg=>?_,fun i j o p d eF ho hp hd=>?_,wX Zb,rfl,vA po,Q1⟩
   · have:=Kp _ (uh ho)
     simp only[Bool.and_eq_true] at this
     have h2:=List.all_eq_true.1 this.2 j (by simpa [dI] using hj)
     simp only[Bool.and_eq_true,decide_eq_true_eq] at h2
     exact h2.1
   · have:=Kp _ (uh ho)
     simp only[Bool.and_eq_true] at this
     have h2:=List.all_eq_true.1 this.1 e hm
     simpa using h2
   · have:=Kp _ (uh ho)
     simp only[Bool.and_eq_true] at this
     have h2:=List.all_eq_true.1 this.2 j (by simpa [dI] using hj)
     simp only[Bool.and_eq_true,List.any_eq_true,Bool.or_eq_true,beq_iff_eq] at h2
     exact h2.2
   · have:=qW _ (uh ho)
     simp only[Bool.and_eq_true,hg] at this
     exact this.1.1
   · have:=qW _ (uh ho)
     simp only[Bool.and_eq_true] at this
     have h2:=List.all_eq_true.1 this.2 _ (uh hp)
     simp only[Bool.or_eq_true,beq_iff_eq,eF,false_or,hd,Bool.and_eq_true,bne_iff_ne,Bool.not_eq_true',List.contains_eq_mem,decide_eq_false_iff_not] at h2
     exact ⟨h2.1,fun hm=>(h2.2.imp_left (fun x=>x.resolve_left (fun hn=>hn hm)))⟩
 · simp at h
def qO (E:Env) (ops:Array Oper) (l:List Nat):Nat:=(l.filter fun i=>fI E ((ops.getD i default).op)).length
theorem F5 {ops:Array Oper} {i:Nat} (l:List Nat) (h:fI E ((ops.getD i default).op)=true):qO E ops (i::l)=qO E ops l+1:=by
 unfold qO;rw[List.filter_cons_of_pos (p:=fun i=>fI E ((ops.getD i default).op)) h];rfl
theorem F6 {ops:Array Oper} {i:Nat} (l:List Nat) (h:¬fI E ((ops.getD i default).op)=true):qO E ops (i::l)=qO E ops l:=by
 unfold qO;rw[List.filter_cons_of_neg (p:=fun i=>fI E ((ops.getD i default).op)) h]
theorem jg {ops:Array Oper} {an:List (List Nat)} {bM:List Nat}:∀{l seen:List Nat} {k:Nat} (_:kV E ops an bM l seen k=true),
 (∀p i,l[p]? =some i→i<ops.size∧i ∉ seen∧i ∉ l.take p∧(∀j,dI an i j=true→j∈seen∨j∈l.take p)∧
  (fI E ((ops.getD i default).op)=true→bM[k+qO E ops (l.take p)]? =some i)∧(fI E ((ops.getD i default).op)=false→FI bM an i=k+qO E ops (l.take p)))∧
 (∀i,i<ops.size→i∈seen∨i∈l)∧k+qO E ops l=bM.length
 | [],seen,k,h=>by
   simp only[kV,Bool.and_eq_true,List.all_eq_true,List.mem_range,beq_iff_eq] at h
   exact ⟨fun p i hp=>by simp at hp,fun i hi=> .inl (by simpa using h.1 i hi),by simpa [qO] using h.2⟩
 | i::l,seen,k,h=>by
   simp only[kV,Bool.and_eq_true,decide_eq_true_eq,Bool.not_eq_true',List.contains_eq_mem,decide_eq_false_iff_not] at h
   obtain ⟨⟨⟨lJ,hns⟩,Ze⟩,oF⟩:=h
   have XM:∀j,dI an i j=true→j∈seen:=fun j hj=>by
    have:=List.all_eq_true.1 Ze j (by simpa [dI] using hj)
    simpa using this
   by_cases he:fI E ((ops.getD i default).op)=true
   · simp only[he,if_true,Bool.and_eq_true,beq_iff_eq] at oF
     obtain ⟨h1,h2,h3⟩:=jg oF.2
     refine ⟨fun p j hp=>?_,fun j hj=>?_,?_⟩
     · cases p with
       | zero=>simp at hp;subst hp;exact ⟨lJ,hns,by simp,fun j hj=> .inl (XM j hj),fun _=>by simpa [qO] using oF.1,fun hf=>by rw[he] at hf;simp at hf⟩
       | succ p=>
         obtain ⟨a1,a2,a3,a4,a5,a6⟩:=h1 p j (by simpa using hp)
         have hc:k+qO E ops (List.take (p+1) (i::l))=k+1+qO E ops (l.take p):=by rw[List.take_succ_cons,F5 _ he];omega
         simp only[List.mem_cons,not_or] at a2
         refine ⟨a1,a2.2,by simp;exact ⟨a2.1,a3⟩,fun m hm=>?_,by rw[hc];exact a5,by rw[hc];exact a6⟩
         rcases a4 m hm with h4 | h4
         · simp at h4;rcases h4 with rfl | h4
           · exact .inr (by simp)
           · exact .inl h4
         · exact .inr (by simp [h4])
     · rcases h2 j hj with h4 | h4
       · simp at h4;rcases h4 with rfl | h4
         · exact .inr (by simp)
         · exact .inl h4
       · exact .inr (by simp [h4])
     · rw[F5 _ he];omega
   · simp only[he,Bool.false_eq_true,if_false,Bool.and_eq_true,beq_iff_eq] at oF
     obtain ⟨h1,h2,h3⟩:=jg oF.2
     refine ⟨fun p j hp=>?_,fun j hj=>?_,?_⟩
     · cases p with
       | zero=>simp at hp;subst hp;exact ⟨lJ,hns,by simp,fun j hj=> .inl (XM j hj),fun hf=>absurd hf he,fun _=>by simpa [qO] using oF.1⟩
       | succ p=>
         obtain ⟨a1,a2,a3,a4,a5,a6⟩:=h1 p j (by simpa using hp)
         have hc:k+qO E ops (List.take (p+1) (i::l))=k+qO E ops (l.take p):=by rw[List.take_succ_cons,F6 _ he]
         simp only[List.mem_cons,not_or] at a2
         refine ⟨a1,a2.2,by simp;exact ⟨a2.1,a3⟩,fun m hm=>?_,by rw[hc];exact a5,by rw[hc];exact a6⟩
         rcases a4 m hm with h4 | h4
         · simp at h4;rcases h4 with rfl | h4
           · exact .inr (by simp)
           · exact .inl h4
         · exact .inr (by simp [h4])
     · rcases h2 j hj with h4 | h4
       · simp at h4;rcases h4 with rfl | h4
         · exact .inr (by simp)
         · exact .inl h4
       · exact .inr (by simp [h4])
     · rw[F6 _ he];exact h3
def gX (ops:Array Oper) (i:Nat):Option Tmp:=(ops[i]?).bind (·.dst)
def F7 (ops:Array Oper) (ts:List AV) (l:List Step):List AV:=l.foldl (fun ts x=>dN ts (gX ops x.i) x.v) ts
def pq (ops:Array Oper) (val:Nat→AV) (ts:List AV) (l:List Nat):List AV:=l.foldl (fun ts i=>dN ts (gX ops i) (val i)) ts
structure Grown (a b:aA):Prop where
 nx:a.nx≤b.nx
 old:∀i,i<a.nx→b.get i=a.get i
theorem Grown.refl (a:aA):Grown a a:=⟨Nat.le_refl _,fun _ _=>rfl⟩
theorem Grown.trans {a b c:aA} (x:Grown a b) (y:Grown b c):Grown a c:=⟨Nat.le_trans x.nx y.nx,fun i hi=>(y.old i (Nat.lt_of_lt_of_le hi x.nx)).trans (x.old i hi)⟩
theorem Grown.new {a b:aA} {o:aX} (h:a.new o=some b):Grown a b:=by
 obtain ⟨h1,h2,h3,h4⟩:=aA.lO h
 exact ⟨by omega,fun i hi=>h4 i (by omega)⟩
theorem OK.grown {φ:Ph} {a b:aA} {w:World} (g:Grown a b) (ok:OK E φ a w):OK E φ b w∧Fr φ a w φ b w:=by
 have hold:∀i l,φ i=some l→b.get i=a.get i:=fun i l hl=>g.old i (ok.Aw i l hl)
 refine ⟨⟨fun i l hl=>Nat.lt_of_lt_of_le (ok.Aw i l hl) g.nx,Nat.le_trans ok.nx g.nx,ok.vr,fun i o l hi hl=>ok.live i o l (hold i l hl▸hi) hl,
  fun i j o p l m hi hj hl hm hw hb=>ok.inj i j o p l m (hold i l hl▸hi) (hold j m hm▸hj) hl hm hw hb⟩,
  ⟨Ph.le_refl φ,fun _ _=>rfl,g.nx,rfl,rfl,rfl,Nat.le_refl _,fun _ _ _=>rfl,fun i o l hi hr hl=> .inr ⟨i,o,l,hold i l hl▸hi,hr,hl,rfl⟩⟩⟩
def wY (E:Env) (call:bh) (ops:Array Oper) (rc:RC) (x:Step) (o:Oper) (hk:aA) (sk:aA) (XN:Option aA):Prop:=
 match x.kind with
 | .off=>cD ops x.ts o=false∧x.v=AV.undef∧(fI E o.op=true→XN=some hk)
 | .gS=>fI E o.op=false∧cD ops x.ts o=true∧bE E x.ts o.op=some x.v
 | .red=>fI E o.op=false∧cD ops x.ts o=true
 | .sA n obj=>fI E o.op=false∧cD ops x.ts o=true∧(∃mk,eB E x.ts o.op=some (obj,mk)∧x.v=mk n)∧sk.nx≤n∧n<hk.nx
 | .uE h'=>fI E o.op=true∧cD ops x.ts o=true∧dm E call x.ts hk rc o= .val x.v h'∧XN=some h'
structure VB (E:Env) (call:bh) (ops:Array Oper) (s:St) (k:Nat) (order:List Nat) (tr:List Step) (hs st:List aA) (s':St):Prop where
 is:tr.map (·.i)=order
 ts:s'.ts=F7 ops s.ts tr
 ds:s'.ds=s.ds
 rc:s'.rc=s.rc
 len:hs.length=qO E ops order+1
 Zf:st.length=hs.length
 first:st[0]? =some s.h
 last:hs[qO E ops order]? =some s'.h
 grown:∀(j:Nat) (a b:aA),st[j]? =some a→hs[j]? =some b→Grown a b
 step:∀(p:Nat) (x:Step),tr[p]? =some x→x.ts=F7 ops s.ts (tr.take p)∧x.k=k+qO E ops (order.take p)∧
  ∃o hk sk,ops[x.i]? =some o∧hs[qO E ops (order.take p)]? =some hk∧st[qO E ops (order.take p)]? =some sk∧wY E call ops s.rc x o hk sk (st[qO E ops (order.take p)+1]?)
theorem ui (ops:Array Oper) (ts:List AV) (x:Step) (l:List Step):F7 ops ts (x::l)=F7 ops (dN ts (gX ops x.i) x.v) l:=rfl
theorem oK {call:bh} {ops:Array Oper}:∀{order:List Nat} {k:Nat} {s:St} {tr:List Step} {hs:List aA} {s':St} (_:cT E call ops order k s= .ok tr hs s'),
 ∃st,VB E call ops s k order tr hs st s'
 | [],k,s,tr,hs,s',h=>by
   simp [cT] at h;obtain ⟨rfl,rfl,rfl⟩:=h
   exact ⟨[s.h],rfl,rfl,rfl,rfl,rfl,rfl,rfl,rfl,fun j a b ha hb=>by
    cases j with
    | zero=>simp at ha hb;subst ha;subst hb;exact Grown.refl _
    | succ j=>simp at ha,fun p x hp=>by simp at hp⟩
 | i::rest,k,s,tr,hs,s',h=>by
   simp only[cT] at h
   cases ho:ops[i]? with
   | none=>rw[ho] at h;simp at h
   | some o=>
   rw[ho] at h
   simp only at h
   have hgd:ops.getD i default=o:=by simp [Array.getD_eq_getD_getElem?,ho]
   have VC:gX ops i=o.dst:=by simp [gX,ho]
   have writes:∀(x:Step) (s1:St),x.i=i→x.k=k→x.ts=s.ts→s1.ts=dN s.ts o.dst x.v→s1.ds=s.ds→s1.rc=s.rc→fI E o.op=true→
    wY E call ops s.rc x o s.h s.h (some s1.h)→((cT E call ops rest (k+1) s1).bound s.h).step x= .ok tr hs s'→∃st,VB E call ops s k (i::rest) tr hs st s':=by
    intro x s1 OS F8 hxt h1 h2 h3 he iY hd
    cases hr:cT E call ops rest (k+1) s1 with
    | fail why q=>rw[hr] at hd;simp [ka.bound,ka.step] at hd
    | ok MT so s2=>
      rw[hr] at hd;simp [ka.bound,ka.step] at hd;obtain ⟨rfl,rfl,rfl⟩:=hd
      obtain ⟨st1,t⟩:=oK hr
      have hc:∀l,qO E ops (i::l)=qO E ops l+1:=fun l=>F5 l (by rw[hgd];exact he)
      refine ⟨s.h::st1,by simp [OS,t.is],?_,t.ds.trans h2,t.rc.trans h3,by simp [t.len,hc],by simp [t.Zf],rfl,by rw[hc];simpa using t.last,fun j a b ha hb=>?_,fun p y hp=>?_⟩
      · rw[ui,OS,VC,←h1];exact t.ts
      · cases j with
        | zero=>simp at ha hb;subst ha;subst hb;exact Grown.refl _
        | succ j=>exact t.grown j a b (by simpa using ha) (by simpa using hb)
      · cases p with
        | zero=>
          simp at hp;subst hp
          refine ⟨by simp [F7,hxt],by simp [qO,F8],o,s.h,s.h,by rw[OS];exact ho,by simp [qO],by simp [qO],?_⟩
          have:(s.h::st1)[qO E ops (List.take 0 (i::rest))+1]? =some s1.h:=by simp [qO];exact t.first
          rw[this];exact iY
        | succ p=>
          obtain ⟨a1,a2,o2,hk,sk,a3,a4,a5,a6⟩:=t.step p y (by simpa using hp)
          refine ⟨?_,by rw[List.take_succ_cons,hc];omega,o2,hk,sk,a3,by rw[List.take_succ_cons,hc];simpa using a4,by rw[List.take_succ_cons,hc];simpa using a5,?_⟩
          · rw[List.take_succ_cons,ui,OS,VC,←h1];exact a1
          · rw[List.take_succ_cons,hc,h3] at *
            simpa using a6
   have plain:∀(x:Step) (s1:St),x.i=i→x.k=k→x.ts=s.ts→s1.ts=dN s.ts o.dst x.v→s1.ds=s.ds→s1.rc=s.rc→fI E o.op=false→Grown s.h s1.h→
    (∀hk sn,Grown s1.h hk→wY E call ops s.rc x o hk s.h sn)→(cT E call ops rest k s1).step x= .ok tr hs s'→∃st,VB E call ops s k (i::rest) tr hs st s':=by
    intro x s1 OS F8 hxt h1 h2 h3 he hg iY hd
    cases hr:cT E call ops rest k s1 with
    | fail why q=>rw[hr] at hd;simp [ka.step] at hd
    | ok MT so s2=>
      rw[hr] at hd;simp [ka.step] at hd;obtain ⟨rfl,rfl,rfl⟩:=hd
      obtain ⟨st1,t⟩:=oK hr
      have hc:∀l,qO E ops (i::l)=qO E ops l:=fun l=>F6 l (by rw[hgd];simp [he])
      cases uH:st1 with
      | nil=>have:=t.first;rw[uH] at this;simp at this
      | cons s0 st2=>
      have U3:s0=s1.h:=by have:=t.first;rw[uH] at this;simpa using this
      subst U3
      have gL:∀j,(s.h::st2)[j+1]? =st1[j+1]? :=fun j=>by rw[uH];rfl
      refine ⟨s.h::st2,by simp [OS,t.is],?_,t.ds.trans h2,t.rc.trans h3,by rw[hc];exact t.len,by have:=t.Zf;rw[uH] at this;simpa using this,rfl,by rw[hc];exact t.last,fun j a b ha hb=>?_,fun p y hp=>?_⟩
      · rw[ui,OS,VC,←h1];exact t.ts
      · cases j with
        | zero=>
          simp at ha;subst ha
          exact hg.trans (t.grown 0 _ b t.first hb)
        | succ j=>rw[gL] at ha;exact t.grown (j+1) a b ha hb
      · cases p with
        | zero=>
          simp at hp;subst hp
          have h0:∃hk,so[0]? =some hk:=by
           have:=t.len
           cases hh:so with
           | nil=>rw[hh] at this;simp at this
           | cons a _=>exact ⟨a,rfl⟩
          obtain ⟨hk,zI⟩:=h0
          refine ⟨by simp [F7,hxt],by simp [qO,F8],o,hk,s.h,by rw[OS];exact ho,by simpa [qO] using zI,by simp [qO],?_⟩
          exact iY hk _ (t.grown 0 _ hk t.first zI)
        | succ p=>
          obtain ⟨a1,a2,o2,hk,sk,a3,a4,a5,a6⟩:=t.step p y (by simpa using hp)
          have hsk:∃sk',(s.h::st2)[qO E ops (List.take p rest)]? =some sk'∧sk'.nx≤sk.nx:=by
           cases hq:qO E ops (List.take p rest) with
           | zero=>rw[hq] at a5;rw[t.first] at a5;simp at a5;subst a5;exact ⟨s.h,rfl,hg.nx⟩
           | succ q=>rw[hq] at a5;exact ⟨sk,by rw[gL];exact a5,Nat.le_refl _⟩
          obtain ⟨sk',afc,afd⟩:=hsk
          refine ⟨?_,by rw[List.take_succ_cons,hc];exact a2,o2,hk,sk',a3,by rw[List.take_succ_cons,hc];exact a4,by rw[List.take_succ_cons,hc];exact afc,?_⟩
          · rw[List.take_succ_cons,ui,OS,VC,←h1];exact a1
          · rw[List.take_succ_cons,hc,gL,←h3]
            unfold wY at a6 ⊢
            split<;>rename_i wZ<;>rw[wZ] at a6
            · exact a6
            · exact a6
            · exact a6
            · exact ⟨a6.1,a6.2.1,a6.2.2.1,Nat.le_trans afd a6.2.2.2.1,a6.2.2.2.2⟩
            · exact a6
   split at h
   · rename_i he
     split at h
     · rename_i hw
       split at h
       · rename_i v h' sJ
         exact writes ⟨i,k,s.ts,v,.uE h'⟩ {s with ts:=dN s.ts o.dst v,h:=h'} rfl rfl rfl rfl rfl rfl he ⟨he,hw,sJ,rfl⟩ h
       · simp at h
       · simp at h
     · rename_i hw
       exact writes ⟨i,k,s.ts,AV.undef,.off⟩ {s with ts:=dN s.ts o.dst AV.undef} rfl rfl rfl rfl rfl rfl he ⟨by simpa using hw,rfl,fun _=>rfl⟩ h
   · rename_i he
     have Kp:fI E o.op=false:=by simpa using he
     split at h
     · rename_i hw
       split at h
       · rename_i v hp
         exact plain ⟨i,k,s.ts,v,.gS⟩ {s with ts:=dN s.ts o.dst v} rfl rfl rfl rfl rfl rfl Kp (Grown.refl _) (fun hk sn _=>⟨Kp,hw,hp⟩) h
       · split at h
         · rename_i v hp
           exact plain ⟨i,k,s.ts,v,.red⟩ {s with ts:=dN s.ts o.dst v} rfl rfl rfl rfl rfl rfl Kp (Grown.refl _) (fun hk sn _=>⟨Kp,hw⟩) h
         · split at h
           · rename_i obj mk hp
             split at h
             · rename_i h' hn
               refine plain ⟨i,k,s.ts,mk s.h.nx,.sA s.h.nx obj⟩ {s with ts:=dN s.ts o.dst (mk s.h.nx),h:=h'} rfl rfl rfl rfl rfl rfl Kp (Grown.new hn) (fun hk sn g=>⟨Kp,hw,⟨mk,hp,rfl⟩,Nat.le_refl _,?_⟩) h
               have:=(aA.lO hn).2.1
               have:=g.nx
               simp at this;omega
             · simp at h
           · simp at h
     · rename_i hw
       exact plain ⟨i,k,s.ts,AV.undef,.off⟩ {s with ts:=dN s.ts o.dst AV.undef} rfl rfl rfl rfl rfl rfl Kp (Grown.refl _) (fun hk sn _=>⟨by simpa using hw,rfl,fun h=>by rw[Kp] at h;simp at h⟩) h
end Go.Ab
end
section
namespace Go.Ab
variable {E:Env}
theorem uj (ops:Array Oper) (val:Nat→AV) (x:Nat):∀(l:List Nat) (ts:List AV) (_:∀j∈l,gX ops j≠some x),(pq ops val ts l)[x]? =ts[x]?
 | [],_,_=>rfl
 | i::l,ts,h=>by
   show (pq ops val (dN ts (gX ops i) (val i)) l)[x]? =_
   rw[uj ops val x l _ (fun j hj=>h j (by simp [hj]))]
   have:=h i (by simp)
   cases hd:gX ops i with
   | none=>rfl
   | some d=>
     rw[hd] at this
     have eF:d≠x:=fun e=>this (by rw[e])
     simp [dN,List.getElem?_set_ne eF]
theorem Bs (ops:Array Oper) (val:Nat→AV) (x j:Nat) (hj:gX ops j=some x):∀(l:List Nat) (ts:List AV) (_:j∈l) (_:∀j'∈l,gX ops j'=some x→j'=j),(pq ops val ts l)[x]? =if x<ts.length then some (val j) else none
 | i::l,ts,hm,hu=>by
   show (pq ops val (dN ts (gX ops i) (val i)) l)[x]? =_
   have hlen:(dN ts (gX ops i) (val i)).length=ts.length:=by cases gX ops i<;>simp [dN]
   by_cases Qi:j∈l
   · rw[Bs ops val x j hj l _ Qi (fun j' h=>hu j' (by simp [h])),hlen]
   · have hij:i=j:=by simp at hm;rcases hm with h | h;exact h.symm;exact absurd h Qi
     subst hij
     rw[uj ops val x l _ (fun j' nD e=>Qi (hu j' (by simp [nD]) e▸nD))]
     rw[hj]
     simp [dN,List.getElem?_set]
theorem vB {ops:Array Oper} {val:Nat→AV} {x:Nat} {l d:List Nat} (ts:List AV) (hu:∀j j',gX ops j=some x→gX ops j'=some x→j=j') (XO:∀j,gX ops j=some x→(j∈l↔j∈d)):
 (pq ops val ts l)[x]? =(pq ops val ts d)[x]? :=by
 by_cases h:∃j,gX ops j=some x∧j∈l
 · obtain ⟨j,hj,hl⟩:=h
   rw[Bs ops val x j hj l ts hl (fun j' _ e=>hu j' j e hj),Bs ops val x j hj d ts ((XO j hj).1 hl) (fun j' _ e=>hu j' j e hj)]
 · rw[uj ops val x l ts (fun j hj e=>h ⟨j,e,hj⟩),uj ops val x d ts (fun j hj e=>h ⟨j,e,(XO j e).2 hj⟩)]
theorem yO {l r:List AV} {x:Nat} (h:l[x]? =r[x]?) (d:AV):l.getD x d=r.getD x d:=by simp [List.getD,h]
def valOf (tr:List Step) (i:Nat):AV:=((tr.find? (fun x=>x.i==i)).map (·.v)).getD AV.undef
theorem Ix {tr:List Step} (hn:(tr.map (·.i)).Nodup) {p:Nat} {x:Step} (hp:tr[p]? =some x):valOf tr x.i=x.v:=by
 unfold valOf
 have:tr.find? (fun y=>y.i==x.i)=some x:=by
  rw[List.find?_eq_some_iff_getElem]
  obtain ⟨lJ,hx⟩:=List.getElem?_eq_some_iff.1 hp
  refine ⟨by simp,p,lJ,hx,fun j hj=>?_⟩
  have Qi:j<tr.length:=by omega
  simp only[Bool.not_eq_true',beq_eq_false_iff_ne]
  intro e
  have h1:(tr.map (·.i))[j]? =some x.i:=by simp [Qi,e]
  have h2:(tr.map (·.i))[p]? =some x.i:=by simp [lJ,hx]
  have:=(List.getElem?_inj (by simpa using Qi) hn).1 (h1.trans h2.symm)
  omega
 rw[this];rfl
theorem F9 (ops:Array Oper) {tr:List Step} (hn:(tr.map (·.i)).Nodup) (ts:List AV) (p:Nat):F7 ops ts (tr.take p)=pq ops (valOf tr) ts ((tr.map (·.i)).take p):=by
 have key:∀(l:List Step) (ts:List AV),(∀x∈l,valOf tr x.i=x.v)→F7 ops ts l=pq ops (valOf tr) ts (l.map (·.i)):=by
  intro l
  induction l with
  | nil=>intro ts _;rfl
  | cons x l ih=>
    intro ts h
    show F7 ops (dN ts (gX ops x.i) x.v) l=pq ops (valOf tr) (dN ts (gX ops x.i) (valOf tr x.i)) (l.map (·.i))
    rw[h x (by simp),ih _ (fun y hy=>h y (by simp [hy]))]
 rw[key _ _ (fun x hx=>?_),List.map_take]
 obtain ⟨q,hq⟩:=List.getElem?_of_mem (List.mem_of_mem_take hx)
 exact Ix hn hq
theorem OK.place {φ:Ph} {h:aA} {w:World} (ok:OK E φ h w) {n:Nat} {obj:aX} (hg:h.get n=some obj) (FK:φ n=none) (lJ:n<h.nx) {O:Obj}
 (ho:OR E (φ.add n ⟨w.heap.size,0,0⟩) obj ⟨w.heap.size,0,0⟩ (some O)):OK E (φ.add n ⟨w.heap.size,0,0⟩) h (w.alloc O)∧φ.le (φ.add n ⟨w.heap.size,0,0⟩):=by
 have hle:φ.le (φ.add n ⟨w.heap.size,0,0⟩):=fun j m hm=>by
  unfold Ph.add;split
  · rename_i e;subst e;rw[FK] at hm;simp at hm
  · exact hm
 have kC:∀j,j≠n→(φ.add n ⟨w.heap.size,0,0⟩) j=φ j:=fun j hj=>by simp [Ph.add,hj]
 have iH:(φ.add n ⟨w.heap.size,0,0⟩) n=some ⟨w.heap.size,0,0⟩:=by simp [Ph.add]
 have XP:(w.alloc O).heap=w.heap.push O:=rfl
 have hblk:∀j p m,h.get j=some p→φ j=some m→m.eg<w.heap.size:=fun j p m hj hm=>by
  have AY:=ok.live j p m hj hm
  rcases Nat.lt_or_ge m.eg w.heap.size with a | a
  · exact a
  · exfalso
    rw[Array.getElem?_eq_none a] at AY
    exact AY.absurd
 refine ⟨⟨fun j m hm=>?_,ok.nx,fun g hg=>hle _ _ (ok.vr g hg),fun j p m hj hm=>?_,fun j k p q m r hj hk hm hr hw hb=>?_⟩,hle⟩
 · by_cases e:j=n
   · omega
   · rw[kC j e] at hm;exact ok.Aw j m hm
 · by_cases e:j=n
   · subst e;rw[iH] at hm;simp at hm;subst hm;rw[hg] at hj;simp at hj;subst hj;rw[XP];simpa using ho
   · rw[kC j e] at hm
     have hb:=hblk j p m hj hm
     rw[XP,Array.getElem?_push,if_neg (by omega)]
     exact (ok.live j p m hj hm).mono hle
 · by_cases e:j=n<;>by_cases e':k=n
   · rw[e,e']
   · subst e;rw[iH] at hm;simp at hm;subst hm;rw[kC k e'] at hr;have:=hblk k q r hk hr;simp at hb;omega
   · subst e';rw[iH] at hr;simp at hr;subst hr;rw[kC j e] at hm;have:=hblk j p m hj hm;simp at hb;omega
   · rw[kC j e] at hm;rw[kC k e'] at hr;exact ok.inj j k p q m r hj hk hm hr hw hb
theorem Fr.place {φ₀ φ:Ph} {h₀ h:aA} {w₀ w:World} (f:Fr φ₀ h₀ w₀ φ h w) {n:Nat} (hn:h₀.nx≤n) (FK:φ n=none) (O:Obj):Fr φ₀ h₀ w₀ (φ.add n ⟨w.heap.size,0,0⟩) h (w.alloc O):=by
 have kC:∀j,j≠n→(φ.add n ⟨w.heap.size,0,0⟩) j=φ j:=fun j hj=>by simp [Ph.add,hj]
 have iH:(φ.add n ⟨w.heap.size,0,0⟩) n=some ⟨w.heap.size,0,0⟩:=by simp [Ph.add]
 refine ⟨fun j m hm=>?_,fun i hi=>by rw[kC i (by omega)];exact f.old i hi,f.nx,f.os,f.tape,f.output,by have:=f.size;simp;omega,fun b hb Y2=>?_,fun i o l hi hr hl=>?_⟩
 · by_cases e:j=n
   · subst e;have:=f.ext j m hm;rw[FK] at this;simp at this
   · rw[kC j e];exact f.ext j m hm
 · have:=f.size
   rw[show (w.alloc O).heap=w.heap.push O from rfl,Array.getElem?_push,if_neg (by omega)]
   exact f.wF b hb Y2
 · by_cases e:i=n
   · subst e;rw[iH] at hl;simp at hl;subst hl;exact .inl f.size
   · rw[kC i e] at hl;exact f.own i o l hi hr hl
theorem filter_le {P:Nat→Bool} {l:List Nat} {K:Nat} (h:∀q e,l[q]? =some e→P e=true→q<K):(l.filter P).length≤K:=by
 have h1:(l.drop K).filter P=[]:=by
  rw[List.filter_eq_nil_iff]
  intro e he hP
  obtain ⟨q,hq⟩:=List.getElem?_of_mem he
  rw[List.getElem?_drop] at hq
  have:=h _ e hq hP
  omega
 calc (l.filter P).length=((l.take K++l.drop K).filter P).length:=by rw[List.take_append_drop]
  _=((l.take K).filter P).length:=by rw[List.filter_append,h1,List.append_nil]
  _≤(l.take K).length:=List.length_filter_le _ _
  _≤K:=by simp;omega
theorem w6 {P:Nat→Bool}:∀{l:List Nat} {e:Nat} (_:l[(l.takeWhile P).length]? =some e),P e=false
 | [],e,h=>by simp at h
 | x::l,e,h=>by
   by_cases hx:P x=true
   · rw[List.takeWhile_cons_of_pos hx] at h
     exact w6 (l:=l) (by simpa using h)
   · rw[List.takeWhile_cons_of_neg hx] at h
     simp at h;subst h;simpa using hx
end Go.Ab
end
section
namespace Go.Ab
variable {E:Env}
structure F_ (E:Env) (call:bh) (ops:Array Oper) (pl:mE) (s s':St) (tr:List Step) (hs st:List aA):Prop where
 sa:Br E ops pl
 trace:VB E call ops s 0 pl.order tr hs st s'
 still:∀x∈tr,∀K hk,x.k≤K→K≤ky pl.bM pl.an x.i→hs[K]? =some hk→jN E ops x hk=true
 ids:∀(x y:Step),x∈tr→y∈tr→∀(n:Nat) (o q:aX),x.kind= .sA n o→y.kind= .sA n q→x.i=y.i
structure Inv (E:Env) (ops:Array Oper) (pl:mE) (s:St) (tr:List Step) (hs st:List aA) (φ₀:Ph) (w₀:World) (wy:List Deferred) (d:List Nat) (bY:Array Bool) (K:Nat) (φ:Ph) (a:Act) (w:World):Prop where
 nd:d.Nodup
 lt:∀i∈d,i<ops.size
 bY:∀i,i<ops.size→bY[i]? =some (decide (i∈d))
 closed:∀i∈d,∀j,dI pl.an i j=true→j∈d
 bM:∀q e,pl.bM[q]? =some e→(e∈d↔q<K)
 Kle:K≤pl.bM.length
 ts:LR φ (pq ops (valOf tr) s.ts d) a.tmps.toList
 ds:a.defers=wy
 ok:∃hK,hs[K]? =some hK∧OK E φ hK w∧Fr φ₀ s.h w₀ φ hK w
 ir:∀x∈tr,∀n obj,x.kind= .sA n obj→x.i ∉ d→x.k≤K→φ n=none∧s.h.nx≤n∧∀hK,hs[K]? =some hK→n<hK.nx
section
variable {call:bh} {ops:Array Oper} {pl:mE} {s s':St} {tr:List Step} {hs st:List aA}
theorem F_.at (r:F_ E call ops pl s s' tr hs st) {p:Nat} {x:Step} (hp:tr[p]? =some x):
 pl.order[p]? =some x.i∧x.i ∉ pl.order.take p∧(∀j,dI pl.an x.i j=true→j∈pl.order.take p)∧x.k=qO E ops (pl.order.take p)∧
 ∃o,ops[x.i]? =some o∧(fI E o.op=true→pl.bM[x.k]? =some x.i)∧(fI E o.op=false→FI pl.bM pl.an x.i=x.k):=by
 have h1:pl.order[p]? =some x.i:=by rw[←r.trace.is,List.getElem?_map,hp];rfl
 obtain ⟨h2,_,_⟩:=jg r.sa.order
 obtain ⟨a1,a2,a3,a4,a5,a6⟩:=h2 p x.i h1
 obtain ⟨b1,b2,o,hk,sk,b3,_⟩:=r.trace.step p x hp
 have hgd:ops.getD x.i default=o:=by simp [Array.getD_eq_getD_getElem?,b3]
 rw[hgd] at a5 a6
 have Ia:x.k=qO E ops (pl.order.take p):=by omega
 refine ⟨h1,a3,fun j hj=>(a4 j hj).resolve_left (by simp),Ia,o,b3,fun he=>?_,fun he=>?_⟩
 · have:=a5 he;rw[Ia];simpa using this
 · have:=a6 he;omega
theorem vc:∀{l:List Nat} (_:∀(p i:Nat),l[p]? =some i→i ∉ l.take p),l.Nodup
 | [],_=> .nil
 | x::l,h=>by
   refine List.nodup_cons.2 ⟨fun hm=>?_,vc (fun p i hp hi=>h (p+1) i (by simpa using hp) (by simp [hi]))⟩
   obtain ⟨q,hq⟩:=List.getElem?_of_mem hm
   exact h (q+1) x (by simpa using hq) (by simp)
theorem F_.nodup (r:F_ E call ops pl s s' tr hs st):pl.order.Nodup:=by
 obtain ⟨h2,_,_⟩:=jg r.sa.order
 exact vc (fun p i hp=>(h2 p i hp).2.2.1)
theorem F_.all (r:F_ E call ops pl s s' tr hs st) {i:Nat} (hi:i<ops.size):∃(p:Nat) (x:Step),tr[p]? =some x∧x.i=i:=by
 obtain ⟨_,h3,_⟩:=jg r.sa.order
 have:=(h3 i hi).resolve_left (by simp)
 rw[←r.trace.is] at this
 obtain ⟨x,hx,rfl⟩:=List.mem_map.1 this
 obtain ⟨p,hp⟩:=List.getElem?_of_mem hx
 exact ⟨p,x,hp,rfl⟩
theorem w7 {ops:Array Oper} {pl:mE} (pok:Br E ops pl) {x j j':Nat} (h:gX ops j=some x) (h':gX ops j'=some x):j=j':=by
 unfold gX at h h'
 cases ho:ops[j]? with
 | none=>rw[ho] at h;simp at h
 | some o=>
 cases Iy:ops[j']? with
 | none=>rw[Iy] at h';simp at h'
 | some o'=>
 rw[ho] at h;rw[Iy] at h'
 simp at h h'
 rcases Nat.decEq j j' with eF | he
 · exact absurd h (pok.slot j j' o o' x eF ho Iy h').1
 · exact he
theorem agree (r:F_ E call ops pl s s' tr hs st) {p:Nat} {x:Step} {o:Oper} (hp:tr[p]? =some x) (ho:ops[x.i]? =some o) {d:List Nat} (hd:x.i ∉ d) (Qj:∀i∈d,∀j,dI pl.an i j=true→j∈d)
 (rb:∀j,dI pl.an x.i j=true→j∈d):nV E x.ts (pq ops (valOf tr) s.ts d) o.op∧cD ops (pq ops (valOf tr) s.ts d) o=cD ops x.ts o:=by
 obtain ⟨h1,h2,h3,_,_⟩:=r.at hp
 have po:(tr.map (·.i)).Nodup:=by rw[r.trace.is];exact r.nodup
 have Q2:x.ts=pq ops (valOf tr) s.ts (pl.order.take p):=by
  rw[(r.trace.step p x hp).1,F9 ops po,r.trace.is]
 have hpc:∀j∈pl.order.take p,∀m,dI pl.an j m=true→m∈pl.order.take p:=by
  intro j hj m hm
  obtain ⟨q,hq⟩:=List.getElem?_of_mem hj
  have hqp:q<p:=by
   have:=(List.getElem?_eq_some_iff.1 hq).1
   simp at this;omega
  have hq':pl.order[q]? =some j:=by rw[List.getElem?_take] at hq;rw[if_pos hqp] at hq;exact hq
  obtain ⟨f1,_,_⟩:=jg r.sa.order
  have:=((f1 q j hq').2.2.2.1 m hm).resolve_left (by simp)
  exact List.mem_of_mem_take (i:=q) (l:=pl.order.take p) (by rw[List.take_take,Nat.min_eq_left (Nat.le_of_lt hqp)];exact this)
 have same:∀t,(∀j p',j≠x.i→ops[j]? =some p'→p'.dst=some t→dI pl.an x.i j=true∨dI pl.an j x.i=true)→(pq ops (valOf tr) s.ts (pl.order.take p))[t]? =(pq ops (valOf tr) s.ts d)[t]? :=by
  intro t ht
  refine vB s.ts (fun j j' a b=>w7 r.sa a b) (fun j hj=>?_)
  by_cases hji:j=x.i
  · subst hji;exact ⟨fun h=>absurd h h2,fun h=>absurd h hd⟩
  · obtain ⟨p',Zg,Kq⟩:∃p',ops[j]? =some p'∧p'.dst=some t:=by
     unfold gX at hj
     cases XQ:ops[j]? with
     | none=>rw[XQ] at hj;simp at hj
     | some p'=>rw[XQ] at hj;exact ⟨p',rfl,by simpa using hj⟩
    rcases ht j p' hji Zg Kq with h | h
    · exact ⟨fun _=>rb j h,fun _=>h3 j h⟩
    · exact ⟨fun hm=>absurd (hpc j hm _ h) h2,fun hm=>absurd (Qj j hm _ h) hd⟩
 rw[Q2]
 refine ⟨fun y hy=>?_,?_⟩
 · cases y with
   | tmp t=>
     have ht:t∈tmpsOf o:=by
      unfold tmpsOf;rw[List.mem_filterMap];exact ⟨.tmp t,by simpa using hy,rfl⟩
     simp only[eA]
     rw[yO (same t (fun j p' eF Zg Kq=>(r.sa.slot x.i j o p' t (Ne.symm eF) ho Zg Kq).2 ht))]
   | const c=>rfl
   | global g=>rfl
   | func f=>rfl
 · unfold cD
   cases hg:o.guard with
   | none=>rfl
   | some gw=>
     obtain ⟨g,want⟩:=gw
     simp only
     cases hdg:(ops[g]?).bind (·.dst) with
     | none=>rfl
     | some t=>
       simp only
       have Ze:=r.sa.guard x.i o g want ho hg
       rw[same t (fun j p' eF Zg Kq=>by
        have:j=g:=w7 r.sa (x:=t) (by unfold gX;rw[Zg];simpa using Kq) hdg
        subst this;exact .inl Ze)]
end
end Go.Ab
end
section
namespace Go.Ab
variable {E:Env}
section
variable {call:bh} {ops:Array Oper} {pl:mE} {s s':St} {tr:List Step} {hs st:List aA}
theorem Eo {l:List Oper} {i:Nat}:i∈nG E l↔∃o,l[i]? =some o∧fI E o.op=true:=by
 unfold nG
 simp only[List.mem_map,List.mem_filter,Prod.exists]
 constructor
 · rintro ⟨o,j,⟨h1,h2⟩,rfl⟩
   exact ⟨o,by rw[List.mk_mem_zipIdx_iff_getElem?] at h1;exact h1,h2⟩
 · rintro ⟨o,h1,h2⟩
   exact ⟨o,i,⟨by rw[List.mk_mem_zipIdx_iff_getElem?];exact h1,h2⟩,rfl⟩
theorem Br.VD (pok:Br E ops pl) {i:Nat} {o:Oper} (ho:ops[i]? =some o):i∈pl.bM↔fI E o.op=true:=by
 rw[pok.bM,Eo]
 constructor
 · rintro ⟨o',h1,h2⟩
   have:ops.toList[i]? =some o:=by simpa using ho
   rw[this] at h1;simp at h1;subst h1;exact h2
 · intro h;exact ⟨o,by simpa using ho,h⟩
theorem Inv.Bt {φ₀ φ:Ph} {w₀ w:World} {wy:List Deferred} {d:List Nat} {bY:Array Bool} {K:Nat} {a:Act} (r:F_ E call ops pl s s' tr hs st) (inv:Inv E ops pl s tr hs st φ₀ w₀ wy d bY K φ a w)
 {x:Step} (hx:pl.bM[x.k]? =some x.i) (hd:x.i ∉ d) (rb:∀j,dI pl.an x.i j=true→j∈d):x.k=K:=by
 have h1:¬x.k<K:=fun h=>hd ((inv.bM x.k x.i hx).2 h)
 rcases Nat.lt_or_ge K x.k with h | h
 · exfalso
   obtain ⟨q,hq⟩:∃q,x.k=q+1:=⟨x.k - 1,by omega⟩
   have lJ:q<pl.bM.length:=by have:=(List.getElem?_eq_some_iff.1 hx).1;omega
   have hq':pl.bM[q]? =some pl.bM[q]:=by simp [lJ]
   have:=r.sa.chain q _ x.i hq' (by rw[←hq];exact hx)
   have:=(inv.bM q _ hq').1 (rb _ this)
   omega
 · omega
theorem Inv.Q3 {φ₀ φ:Ph} {w₀ w:World} {wy:List Deferred} {d:List Nat} {bY:Array Bool} {K:Nat} {a:Act} (inv:Inv E ops pl s tr hs st φ₀ w₀ wy d bY K φ a w)
 {i:Nat} (hd:i ∉ d) (rb:∀j,dI pl.an i j=true→j∈d):FI pl.bM pl.an i≤K∧K≤ky pl.bM pl.an i:=by
 refine ⟨filter_le (fun q e hq he=>(inv.bM q e hq).1 (rb e he)),?_⟩
 rcases Nat.lt_or_ge (ky pl.bM pl.an i) K with h | h
 · exfalso
   have lJ:ky pl.bM pl.an i<pl.bM.length:=by have:=inv.Kle;omega
   have hq:pl.bM[ky pl.bM pl.an i]? =some pl.bM[ky pl.bM pl.an i]:=by simp [lJ]
   have h1:=w6 (P:=fun e=> !dI pl.an e i) hq
   simp only[Bool.not_eq_false'] at h1
   exact hd (inv.closed _ ((inv.bM _ _ hq).2 h) i h1)
 · exact h
theorem OT (ops:Array Oper) (val:Nat→AV) (ts:List AV) (d:List Nat) (i:Nat):pq ops val ts (d++[i])=dN (pq ops val ts d) (gX ops i) (val i):=by
 simp [pq]
theorem Inv.snoc {φ₀ φ φ':Ph} {w₀ w w':World} {wy:List Deferred} {d:List Nat} {bY:Array Bool} {K K':Nat} {a:Act} (r:F_ E call ops pl s s' tr hs st) (inv:Inv E ops pl s tr hs st φ₀ w₀ wy d bY K φ a w)
 {p:Nat} {x:Step} {o:Oper} (hp:tr[p]? =some x) (ho:ops[x.i]? =some o) (hd:x.i ∉ d) (rb:∀j,dI pl.an x.i j=true→j∈d) (hle:φ.le φ') {v':Value} (hv:VR φ' x.v v')
 (hK:(fI E o.op=false∧K'=K)∨(fI E o.op=true∧x.k=K∧pl.bM[x.k]? =some x.i∧K'=K+1))
 (js:∃hK,hs[K']? =some hK∧OK E φ' hK w'∧Fr φ₀ s.h w₀ φ' hK w')
 (acf:∀y∈tr,∀n obj,y.kind= .sA n obj→y.i ∉ d→y.i≠x.i→y.k≤K'→φ' n=none∧s.h.nx≤n∧∀hK,hs[K']? =some hK→n<hK.nx):
 Inv E ops pl s tr hs st φ₀ w₀ wy (d++[x.i]) (bY.setIfInBounds x.i true) K' φ' (a.put o.dst v') w':=by
 have po:(tr.map (·.i)).Nodup:=by rw[r.trace.is];exact r.nodup
 have lJ:x.i<ops.size:=(Array.getElem?_eq_some_iff.1 ho).1
 refine ⟨?_,fun i hi=>?_,fun i hi=>?_,fun i hi j hj=>?_,fun q e hq=>?_,?_,?_,by rw[put_defers];exact inv.ds,js,fun y hy n obj yL hyd hyk=>?_⟩
 · rw[List.nodup_append];exact ⟨inv.nd,by simp,fun a ha b hb=>by simp at hb;subst hb;exact fun e=>hd (e▸ha)⟩
 · simp at hi;rcases hi with h | rfl
   · exact inv.lt i h
   · exact lJ
 · have h1:=inv.bY i hi
   by_cases e:x.i=i
   · subst e
     have OH:x.i<bY.size:=(Array.getElem?_eq_some_iff.1 h1).1
     rw[Array.getElem?_setIfInBounds];simp [OH]
   · rw[Array.getElem?_setIfInBounds_ne e,h1]
     simp [show i≠x.i from fun h=>e h.symm]
 · simp at hi;rcases hi with h | rfl
   · exact List.mem_append_left _ (inv.closed i h j hj)
   · exact List.mem_append_left _ (rb j hj)
 · rcases hK with ⟨he,rfl⟩ | ⟨he,F8,hxe,rfl⟩
   · have eF:e≠x.i:=fun h=>by
      subst h
      have:=(r.sa.VD ho).1 (List.mem_of_getElem? hq)
      rw[he] at this;simp at this
     simp [eF,inv.bM q e hq]
   · have hqe:e=x.i↔q=K:=by
      constructor
      · intro h;subst h
        have:=(List.getElem?_inj (List.getElem?_eq_some_iff.1 hq).1 r.sa.nd).1 (hq.trans hxe.symm)
        omega
      · intro h;subst h;rw[←F8,hxe] at hq;simpa using hq.symm
     simp only[List.mem_append,List.mem_singleton,inv.bM q e hq,hqe]
     omega
 · rcases hK with ⟨he,rfl⟩ | ⟨he,F8,hxe,rfl⟩
   · exact inv.Kle
   · have:=(List.getElem?_eq_some_iff.1 hxe).1;omega
 · rw[OT,Ix po hp]
   have:gX ops x.i=o.dst:=by simp [gX,ho]
   rw[this]
   exact QW (inv.ts.mono hle) o.dst hv
 · simp only[List.mem_append,List.mem_singleton,not_or] at hyd
   exact acf y hy n obj yL hyd.1 hyd.2 hyk
theorem OU (hE:kM E) {call:bh} (dp:iK E call) {ts:List AV} {h h':aA} {rc:RC} {o:Oper} {v:AV} (sJ:dm E call ts h rc o= .val v h') {i:Nat} {rest:List Nat} (ho:ops[i]? =some o)
 {φ:Ph} {a:Act} {w:World} {b:Frame} {k:List Item} {K:Bool→List Frame} (Q2:LR φ ts a.tmps.toList) (ok:OK E φ h w) (gG:nJ φ b K rc) (hw:Region.wanted o (yielded ops a.tmps)=true):
 ∃φ' w' v',VR φ' v v'∧OK E φ' h' w'∧Fr φ h w φ' h' w'∧Steps E.P (lone (b.atR a (.inRegion ops (i::rest)::k)) (cur K rc) w) (lone (b.atR (a.put o.dst v') (.inRegion ops rest::k)) (cur K rc) w'):=by
 have yK:=vz hE dp (rc:=rc) (o:=o) Q2 ok
 have po:rc.oI=false∨∀c,o.op≠ .defer c:=by
  by_cases hd:∃c,o.op= .defer c
  · obtain ⟨c,hd⟩:=hd
    unfold dm at sJ
    simp only[hd] at sJ
    split at sJ<;>simp at sJ
  · exact .inr (fun c e=>hd ⟨c,e⟩)
 have lk:=q_ gG po a.eval
 rw[sJ] at yK
 cases yK with
 | val v h' φ' w' v' hv sr fr run=>exact ⟨φ',w',v',hv,sr,fr,.one (m_ lk ho hw run)⟩
 | skip h' φ' w' sr fr run=>exact ⟨φ',w',undef,.undef φ',sr,fr,.one (Ir lk ho hw run)⟩
 | enter v h' F args all hr hf hl run=>
   obtain ⟨n,start,hp,iY⟩:=hr φ w all ok hf hl
   obtain ⟨φ',w',v',hv,sr,fr,jC⟩:=iY (b.atR a (.inRegion ops (i::rest)::k)) (cur K rc)
   rw[ug ho] at jC
   exact ⟨φ',w',v',hv,sr,fr,.head (go_enter lk ho hw hp (run n start hp)) jC⟩
 | QZ eF Dy run=>
   have FK:∀fr:Frame,fr.kind=b.kind→tryRecover fr (cur K rc)=none:=by
    cases F3:rc with
    | no=>rw[F3] at gG;exact gG.2
    | ir v=>exact absurd F3 (eF v)
    | done=>rw[F3] at gG;exact gG.2
    | sm l=>rw[F3] at Dy;simp [RC.oI] at Dy
   exact ⟨φ,w,.nilIface,.nilIface,ok,Fr.refl _ _ _,.one (vb (gG.plain Dy) lk ho hw run (FK _ rfl))⟩
theorem Inv.MU (hE:kM E) {Ep:bh} (dp:iK E Ep) {φ₀ φ:Ph} {w₀ w:World} {wy:List Deferred} {d:List Nat} {bY:Array Bool} {K:Nat} {a:Act} (r:F_ E call ops pl s s' tr hs st) (inv:Inv E ops pl s tr hs st φ₀ w₀ wy d bY K φ a w)
 {b:Frame} {k:List Item} {Ks:Bool→List Frame} (gG:nJ φ₀ b Ks s.rc) {i:Nat} (hi:i<ops.size) (hd:i ∉ d) (rb:∀j,dI pl.an i j=true→j∈d)
 (Er:∀(x:Step) (o:Oper) (hk h':aA),x∈tr→x.i=i→ops[x.i]? =some o→hs[x.k]? =some hk→x.kind= .uE h'→dm E Ep x.ts hk s.rc o= .val x.v h') (rest:List Nat):
 ∃K' φ' a' w',Inv E ops pl s tr hs st φ₀ w₀ wy (d++[i]) (bY.setIfInBounds i true) K' φ' a' w'∧
  Steps E.P (lone (b.atR a (.inRegion ops (i::rest)::k)) (cur Ks s.rc) w) (lone (b.atR a' (.inRegion ops rest::k)) (cur Ks s.rc) w'):=by
 obtain ⟨p,x,hp,rfl⟩:=r.all hi
 have Y9:x∈tr:=List.mem_of_getElem? hp
 obtain ⟨h1,h2,h3,hk,o,ho,sJ,XR⟩:=r.at hp
 obtain ⟨_,_,o',hk1,sk1,Iy,zI,hsk,iY⟩:=r.trace.step p x hp
 rw[ho] at Iy;simp at Iy;subst Iy
 rw[←hk] at zI hsk iY
 obtain ⟨hag,Q4⟩:=agree r hp ho hd inv.closed rb
 obtain ⟨hK,XS,ok,fr⟩:=inv.ok
 have U5:Region.wanted o (yielded ops a.tmps)=cD ops x.ts o:=by rw[vy inv.ts o,Q4]
 have VE:nV E (pq ops (valOf tr) s.ts d) x.ts o.op:=fun y hy=>(hag y hy).symm
 have same:∀y∈tr,∀n obj,y.kind= .sA n obj→y.i ∉ d→y.i≠x.i→y.k≤K→φ n=none∧s.h.nx≤n∧∀hK,hs[K]? =some hK→n<hK.nx:=
  fun y hy n obj a1 a2 _ a3=>inv.ir y hy n obj a1 a2 a3
 have wrote:∀(φ':Ph) (h':aA) (w':World),x.k=K→st[K+1]? =some h'→OK E φ' h' w'→Fr φ hK w φ' h' w'→
  ∃MV,hs[K+1]? =some MV∧OK E φ' MV w'∧Fr φ₀ s.h w₀ φ' MV w'∧
  ∀y∈tr,∀n obj,y.kind= .sA n obj→y.i ∉ d→y.i≠x.i→y.k≤K+1→φ' n=none∧s.h.nx≤n∧∀hK,hs[K+1]? =some hK→n<hK.nx:=by
  intro φ' h' w' F8 Zh sr Kr
  have lJ:K+1<hs.length:=by rw[←r.trace.Zf];exact (List.getElem?_eq_some_iff.1 Zh).1
  have hhs:hs[K+1]? =some hs[K+1]:=by simp [lJ]
  have g:=r.trace.grown (K+1) h' _ Zh hhs
  obtain ⟨Bu,Zj⟩:=sr.grown g
  have U6:=(fr.trans Kr).trans Zj
  refine ⟨_,hhs,Bu,U6,fun y hy n obj a1 a2 a3 a4=>?_⟩
  have hnx:∀MV,hs[K+1]? =some MV→MV=hs[K+1]:=fun MV e=>by rw[hhs] at e;simpa using e.symm
  rcases Nat.lt_or_ge K y.k with h | h
  ·
   have hyk:y.k=K+1:=by omega
   obtain ⟨q,hq⟩:=List.getElem?_of_mem hy
   obtain ⟨_,_,_,hky,oy,hoy,_,_⟩:=r.at hq
   obtain ⟨_,_,oy',afe,aff,afg,DK,DL,K4⟩:=r.trace.step q y hq
   rw[←hky,hyk] at DK DL
   rw[Zh] at DL;simp at DL;subst DL
   unfold wY at K4
   rw[a1] at K4
   obtain ⟨_,_,_,hn1,K6⟩:=K4
   refine ⟨?_,?_,fun MV e=>?_⟩
   · cases hφ:φ' n with
     | none=>rfl
     | some l=>have:=sr.Aw n l hφ;omega
   · have:=(fr.trans Kr).nx;omega
   · rw[e] at DK;simp at DK;subst DK;exact K6
  · obtain ⟨b1,b2,b3⟩:=inv.ir y hy n obj a1 a2 h
    have hn:=b3 hK XS
    refine ⟨by rw[Kr.old n hn];exact b1,b2,fun MV e=>?_⟩
    have:=Kr.nx;have:=g.nx
    rw[hnx _ e];omega
 have still:fI E o.op=false→jN E ops x hK=true:=fun he=>by
  obtain ⟨w1,w2⟩:=inv.Q3 hd rb
  exact r.still x Y9 K hK (by rw[←XR he];exact w1) w2 XS
 have hgd:ops.getD x.i default=o:=by simp [Array.getD_eq_getD_getElem?,ho]
 have skip:cD ops x.ts o=false→step E.P (lone (b.atR a (.inRegion ops (x.i::rest)::k)) (cur Ks s.rc) w)= .next (lone (b.atR (a.put o.dst undef) (.inRegion ops rest::k)) (cur Ks s.rc) w):=fun hw=>by
  have:=stepR_op_skip (P:=E.P) (b:=b) (a:=a) (k:=k) (cs:=cur Ks s.rc) (w:=w) (ops:=ops) (i:=x.i) (rest:=rest) (by rw[ho];simp;rw[U5];exact hw)
  rw[this,ho];rfl
 unfold wY at iY
 split at iY
 ·
  obtain ⟨hw,hv,hn⟩:=iY
  have hvr:VR φ x.v undef:=by rw[hv];exact .undef φ
  by_cases he:fI E o.op=true
  · have F8:=inv.Bt r (sJ he) hd rb
    have uH:=hn he
    rw[F8] at uH zI
    rw[XS] at zI;simp at zI;subst zI
    obtain ⟨MV,q1,q2,q3,q4⟩:=wrote φ hK w F8 uH ok (Fr.refl _ _ _)
    exact ⟨K+1,φ,_,w,inv.snoc r hp ho hd rb (Ph.le_refl φ) hvr (.inr ⟨he,F8,sJ he,rfl⟩) ⟨MV,q1,q2,q3⟩ q4,.one (skip hw)⟩
  · have Kp:fI E o.op=false:=by simpa using he
    exact ⟨K,φ,_,w,inv.snoc r hp ho hd rb (Ph.le_refl φ) hvr (.inl ⟨Kp,rfl⟩) inv.ok same,.one (skip hw)⟩
 ·
  obtain ⟨he,hw,hpu⟩:=iY
  rw[←Iu VE] at hpu
  have po:∀c,o.op≠ .defer c:=fun c e=>by rw[e] at hpu;simp [bE] at hpu
  obtain ⟨v',hv,hr⟩:=zC hE.ext ok.gl inv.ts hpu
  exact ⟨K,φ,_,w,inv.snoc r hp ho hd rb (Ph.le_refl φ) hv (.inl ⟨he,rfl⟩) inv.ok same,.one (m_ (q_ gG (.inr po) _) ho (U5.trans hw) (hr w))⟩
 ·
  rename_i wZ
  obtain ⟨he,hw⟩:=iY
  have so:=still he
  unfold jN at so
  rw[wZ] at so
  simp only[hgd] at so
  cases hre:dW E x.ts hK o.op with
  | none=>rw[hre] at so;simp at so
  | some v1=>
    rw[hre] at so
    have hv1:=AV.wV _ _ _ so
    subst hv1
    rw[←Iv VE] at hre
    have po:∀c,o.op≠ .defer c:=fun c e=>by rw[e] at hre;simp [dW] at hre
    obtain ⟨v',hv,hr⟩:=zG ok.gl ok inv.ts hre
    exact ⟨K,φ,_,w,inv.snoc r hp ho hd rb (Ph.le_refl φ) hv (.inl ⟨he,rfl⟩) inv.ok same,.one (m_ (q_ gG (.inr po) _) ho (U5.trans hw) (hr w rfl))⟩
 ·
  rename_i n obj wZ
  obtain ⟨he,hw,⟨mk,hal,hxv⟩,_,_⟩:=iY
  have so:=still he
  unfold jN at so
  rw[wZ] at so
  simp only at so
  cases hge:hK.get n with
  | none=>rw[hge] at so;simp at so
  | some o1=>
    rw[hge] at so
    have ho1:=aX.wV so
    subst ho1
    obtain ⟨w1,_⟩:=inv.Q3 hd rb
    obtain ⟨FK,afh,afi⟩:=inv.ir x Y9 n o1 wZ hd (by rw[←XR he];exact w1)
    rw[←F4 VE] at hal
    have po:∀c,o.op≠ .defer c:=fun c e=>by rw[e] at hal;simp [eB] at hal
    obtain ⟨O,mk',It,hr⟩:=wJ ok.gl inv.ts hal
    have hle:φ.le (φ.add n ⟨w.heap.size,0,0⟩):=fun j m hm=>by
     unfold Ph.add;split
     · rename_i e;subst e;rw[FK] at hm;simp at hm
     · exact hm
    obtain ⟨Bu,_⟩:=ok.place hge FK (afi hK XS) (It.obj _ w.heap.size hle)
    have hv:=It.val (φ.add n ⟨w.heap.size,0,0⟩) n w.heap.size hle (by simp [Ph.add])
    rw[←hxv] at hv
    refine ⟨K,_,_,_,inv.snoc r hp ho hd rb hle hv (.inl ⟨he,rfl⟩) ⟨hK,XS,Bu,fr.place afh FK O⟩ (fun y hy m q a1 a2 a3 a4=>?_),.one (m_ (q_ gG (.inr po) _) ho (U5.trans hw) (hr w))⟩
    obtain ⟨b1,b2,b3⟩:=inv.ir y hy m q a1 a2 a4
    refine ⟨?_,b2,b3⟩
    have eF:m≠n:=fun e=>by subst e;exact a3 (r.ids y x hy Y9 m q o1 a1 wZ)
    simp [Ph.add,eF,b1]
 ·
  rename_i h' wZ
  obtain ⟨he,hw,_,uH⟩:=iY
  have Q5:=Er x o _ h' Y9 rfl ho zI wZ
  have F8:=inv.Bt r (sJ he) hd rb
  rw[F8] at uH zI
  rw[XS] at zI;simp at zI;subst zI
  rw[←Bp VE] at Q5
  obtain ⟨φ',w',v',hv,sr,Kr,jC⟩:=OU hE dp Q5 ho (rest:=rest) (k:=k) inv.ts ok (gG.mono fr.ext) (U5.trans hw)
  obtain ⟨MV,q1,q2,q3,q4⟩:=wrote φ' h' w' F8 uH sr Kr
  exact ⟨K+1,φ',_,w',inv.snoc r hp ho hd rb Kr.ext hv (.inr ⟨he,F8,sJ he,rfl⟩) ⟨MV,q1,q2,q3⟩ q4,jC⟩
end
end Go.Ab
end
section
namespace Go.Ab
variable {E:Env}
section
variable {call:bh} {ops:Array Oper} {pl:mE} {s s':St} {tr:List Step} {hs st:List aA}
structure F' (E:Env) (φ₀:Ph) (h₀:aA) (w₀:World) (wy:List Deferred) (b:Frame) (k:List Item) (cs:List Frame) (s':St) (m:Machine):Prop where
 is:∃φ' a' w',LR φ' s'.ts a'.tmps.toList∧a'.defers=wy∧OK E φ' s'.h w'∧Fr φ₀ h₀ w₀ φ' s'.h w'∧Steps E.P m (lone (b.atR a' k) cs w')
theorem Iz (r:F_ E call ops pl s s' tr hs st) {φ₀ φ:Ph} {w₀ w:World} {wy:List Deferred} {d:List Nat} {bY:Array Bool} {K:Nat} {a:Act} (inv:Inv E ops pl s tr hs st φ₀ w₀ wy d bY K φ a w)
 (IA:∀i,i<ops.size→i∈d) (b:Frame) (k:List Item) (cs:List Frame):F' E φ₀ s.h w₀ wy b k cs s' (lone (b.atR a (.inRegion ops []::k)) cs w):=by
 have po:(tr.map (·.i)).Nodup:=by rw[r.trace.is];exact r.nodup
 obtain ⟨f1,f2,f3⟩:=jg r.sa.order
 have hK:K=pl.bM.length:=by
  have:=inv.Kle
  rcases Nat.lt_or_ge K pl.bM.length with h | h
  · exfalso
    have hq:pl.bM[K]? =some pl.bM[K]:=by simp [h]
    have hm:pl.bM[K]∈pl.bM:=List.getElem_mem h
    generalize hx:pl.bM[K]=ee at hm hq
    rw[r.sa.bM,Eo] at hm
    obtain ⟨o,ho,_⟩:=hm
    have lJ:ee<ops.size:=by have:=(List.getElem?_eq_some_iff.1 ho).1;simpa using this
    have:=(inv.bM K _ hq).1 (IA _ lJ)
    omega
  · omega
 obtain ⟨MV,q1,q2,q3⟩:=inv.ok
 have IB:=r.trace.last
 have afj:qO E ops pl.order=K:=by omega
 rw[afj,q1] at IB
 simp at IB;subst IB
 have Q2:s'.ts=pq ops (valOf tr) s.ts d:=by
  rw[r.trace.ts]
  have h1:=F9 ops po s.ts tr.length
  rw[List.take_length,r.trace.is,List.take_of_length_le (by rw[←r.trace.is];simp)] at h1
  rw[h1]
  refine List.ext_getElem? (fun x=>?_)
  refine vB s.ts (fun j j' e e'=>w7 r.sa e e') (fun j hj=>?_)
  have Qi:j<ops.size:=by
   unfold gX at hj
   cases ho:ops[j]? with
   | none=>rw[ho] at hj;simp at hj
   | some o=>exact (Array.getElem?_eq_some_iff.1 ho).1
  exact ⟨fun _=>IA j Qi,fun _=>(f2 j Qi).resolve_left (by simp)⟩
 exact ⟨φ,a,w,by rw[Q2];exact inv.ts,inv.ds,q2,q3,.one stepR_region_end⟩
theorem Bv {φ₀ φ:Ph} {w₀ w:World} {wy:List Deferred} {d:List Nat} {bY:Array Bool} {K:Nat} {a:Act} (r:F_ E call ops pl s s' tr hs st) (inv:Inv E ops pl s tr hs st φ₀ w₀ wy d bY K φ a w)
 {i:Nat} (h:i∈Region.ready .any ops bY):i<ops.size∧i ∉ d∧∀j,dI pl.an i j=true→j∈d:=by
 obtain ⟨h1,o,ho,h2⟩:=mem_ready.1 h
 have hi:i<ops.size:=(Array.getElem?_eq_some_iff.1 ho).1
 have hl:=inv.bY i hi
 refine ⟨hi,fun hd=>?_,fun j hj=>?_⟩
 · simp [hl,hd,Array.getD_eq_getD_getElem?] at h1
 · obtain ⟨e,he,hej⟩:=r.sa.closed i o j ho hj
   have hed:e∈d:=by
    unfold kU at he
    simp only[List.mem_map,List.mem_filter] at he
    obtain ⟨ed,⟨hm,hb⟩,rfl⟩:=he
    have h3:=h2 ed (by simpa using hm) hb
    have afk:ed.on<ops.size:=by
     have:=(r.sa.direct i o ed.on ho (by unfold kU;simp only[List.mem_map,List.mem_filter];exact ⟨ed,⟨hm,hb⟩,rfl⟩)).1
     omega
    simpa [inv.bY _ afk,Array.getD_eq_getD_getElem?] using h3
   rcases hej with rfl | hej
   · exact hed
   · exact inv.closed e hed j hej
theorem yP {φ₀ φ:Ph} {w₀ w:World} {wy:List Deferred} {d:List Nat} {bY:Array Bool} {K:Nat} {a:Act} (r:F_ E call ops pl s s' tr hs st) (inv:Inv E ops pl s tr hs st φ₀ w₀ wy d bY K φ a w)
 (h:Region.ready .any ops bY=[]):∀(n i:Nat),i<n→i<ops.size→i∈d
 | 0,i,hn,_=>by omega
 | n+1,i,hn,hi=>by
   have ih:=yP r inv h n
   by_cases hd:i∈d
   · exact hd
   · exfalso
     have ho:ops[i]? =some ops[i]:=by simp [hi]
     have:i∈Region.ready .any ops bY:=by
      refine mem_ready.2 ⟨by simp [inv.bY i hi,hd,Array.getD_eq_getD_getElem?],ops[i],ho,fun e he hb=>?_⟩
      have hm:e.on∈kU ops[i]:=by
       unfold kU;simp only[List.mem_map,List.mem_filter];exact ⟨e,⟨by simpa using he,hb⟩,rfl⟩
      have lJ:=(r.sa.direct i _ e.on ho hm).1
      have:=ih e.on (by omega) (by omega)
      simp [inv.bY e.on (by omega),this,Array.getD_eq_getD_getElem?]
     rw[h] at this;simp at this
theorem F_.real (r:F_ E call ops pl s s' tr hs st) (x:Step) (o:Oper) (hk h':aA) (hx:x∈tr) (ho:ops[x.i]? =some o) (hh:hs[x.k]? =some hk) (yL:x.kind= .uE h'):dm E call x.ts hk s.rc o= .val x.v h':=by
 obtain ⟨p,hp⟩:=List.getElem?_of_mem hx
 obtain ⟨_,_,_,hk0,_⟩:=r.at hp
 obtain ⟨_,_,o',hk1,sk1,Iy,zI,hsk,iY⟩:=r.trace.step p x hp
 rw[ho] at Iy;simp at Iy;subst Iy
 rw[←hk0,hh] at zI;simp at zI;subst zI
 unfold wY at iY;rw[yL] at iY;exact iY.2.2.1
theorem IC (hE:kM E) (dp:iK E call) (r:F_ E call ops pl s s' tr hs st) {φ₀:Ph} {w₀:World} {wy:List Deferred} {b:Frame} {k:List Item} {Ks:Bool→List Frame} (gG:nJ φ₀ b Ks s.rc):
 ∀(fuel t:Nat) {φ:Ph} {w:World} {d:List Nat} {bY:Array Bool} {K:Nat} {a:Act} (_:Inv E ops pl s tr hs st φ₀ w₀ wy d bY K φ a w) (_:ops.size≤d.length+fuel),
  F' E φ₀ s.h w₀ wy b k (cur Ks s.rc) s' (lone (b.atR a (.inRegion ops (Region.linearise.go .any ops fuel t bY [])::k)) (cur Ks s.rc) w)
 | 0,t,φ,w,d,bY,K,a,inv,hf=>by
   simp only[Region.linearise.go,List.reverse_nil]
   refine Iz r inv (fun i hi=>?_) b k _
   by_cases hd:i∈d
   · exact hd
   · have:=Bq ops.size (i::d) (List.nodup_cons.2 ⟨hd,inv.nd⟩) (fun x hx=>by
      simp at hx;rcases hx with rfl | hx
      · exact hi
      · exact inv.lt x hx)
     simp at this;omega
 | fuel+1,t,φ,w,d,bY,K,a,inv,hf=>by
   simp only[Region.linearise.go]
   change F' E φ₀ s.h w₀ wy b k (cur Ks s.rc) s' (lone (b.atR a (.inRegion ops (match (Region.ready .any ops bY)[t%(Region.ready .any ops bY).length]? with
    | some i=>Region.linearise.go .any ops fuel (t/(Region.ready .any ops bY).length) (bY.setIfInBounds i true) [i]
    | none=> [].reverse)::k)) (cur Ks s.rc) w)
   cases hi:(Region.ready .any ops bY)[t%(Region.ready .any ops bY).length]? with
   | none=>
     have FQ:Region.ready .any ops bY=[]:=by
      cases hr:Region.ready .any ops bY with
      | nil=>rfl
      | cons x xs=>
        rw[hr] at hi
        have lJ:t%(x::xs).length<(x::xs).length:=Nat.mod_lt _ (by simp)
        simp at hi
        simp at lJ
        omega
     exact Iz r inv (fun i hi=>yP r inv FQ _ i (Nat.lt_succ_self i) hi) b k _
   | some i=>
     simp only[]
     rw[linearise_go_acc,List.reverse_singleton,List.singleton_append]
     obtain ⟨h1,h2,h3⟩:=Bv r inv (List.mem_of_getElem? hi)
     obtain ⟨K',φ',a',w',Zk,iY⟩:=inv.MU hE dp r gG (b:=b) (k:=k) h1 h2 h3 (fun x o hk h' hx _=>r.real x o hk h' hx) (Region.linearise.go .any ops fuel (t/(Region.ready .any ops bY).length) (bY.setIfInBounds i true) [])
     obtain ⟨φ2,a2,w2,x1,x2,x3,x4,x5⟩:=(IC hE dp r gG fuel (t/(Region.ready .any ops bY).length) Zk (by simp;omega)).is
     exact ⟨φ2,a2,w2,x1,x2,x3,x4,Steps.trans iY x5⟩
structure Ga (E:Env) (φ₀:Ph) (h₀:aA) (w₀:World) (wy:List Deferred) (b:Frame) (cs:List Frame) (v:AV) (s':St) (m:Machine):Prop where
 is:∃φ' a' w' v' todo,VR φ' v v'∧LR φ' s'.ts a'.tmps.toList∧a'.defers=wy∧OK E φ' s'.h w'∧Fr φ₀ h₀ w₀ φ' s'.h w'∧Steps E.P m (lone {b.atR a' todo with mode:= .panicking [{v:=v',recovered:=false}]} cs w')
theorem OV (hE:kM E) {call:bh} (dp:iK E call) {ts:List AV} {h h':aA} {rc:RC} {o:Oper} {c:Call} (hoc:o.op= .call c) {v:AV} (sJ:dm E call ts h rc o= .panic v h') {i:Nat} {rest:List Nat} (ho:ops[i]? =some o)
 {φ:Ph} {a:Act} {w:World} {b:Frame} {k:List Item} {K:Bool→List Frame} (Q2:LR φ ts a.tmps.toList) (ok:OK E φ h w) (gG:nJ φ b K rc) (hw:Region.wanted o (yielded ops a.tmps)=true):
 ∃φ' w' v' todo,VR φ' v v'∧OK E φ' h' w'∧Fr φ h w φ' h' w'∧Steps E.P (lone (b.atR a (.inRegion ops (i::rest)::k)) (cur K rc) w) (lone {b.atR a todo with mode:= .panicking [{v:=v',recovered:=false}]} (cur K rc) w'):=by
 have yK:=vz hE dp (rc:=rc) (o:=o) Q2 ok
 have po:rc.oI=false∨∀c,o.op≠ .defer c:= .inr (fun c e=>by rw[hoc] at e;simp at e)
 have lk:=q_ gG po a.eval
 rw[sJ] at yK
 cases yK with
 | Vz v h' F args all hr hf hl run=>
   obtain ⟨n,start,hp,iY⟩:=hr φ w all ok hf hl
   obtain ⟨φ',w',v',hv,sr,fr,jC⟩:=iY (b.atR a (.inRegion ops (i::rest)::k)) (cur K rc)
   rw[Frame.raise_atR] at jC
   exact ⟨φ',w',v',.inRegion ops (i::rest)::k,hv,sr,fr,.head (go_enter lk ho hw hp (run n start hp)) jC⟩
 | panic v v' hv run=>exact ⟨φ,w,v',_,hv,ok,Fr.refl _ _ _,.one (QX lk ho hw run)⟩
theorem Es (hE:kM E) {Ep:bh} (dp:iK E Ep) (r:F_ E call ops pl s s' tr hs st) {xl:Step} (hxl:xl∈tr) {ol:Oper} (U2:ops[xl.i]? =some ol) {c:Call} (hoc:ol.op= .call c)
 (IA:∀j,j<ops.size→j≠xl.i→dI pl.an xl.i j=true) (XT:fI E ol.op=true) (hwl:cD ops xl.ts ol=true) {hk:aA} (zI:hs[xl.k]? =some hk) {v:AV} {h':aA} (Q6:dm E Ep xl.ts hk s.rc ol= .panic v h')
 (Er:∀(x:Step) (o:Oper) (hk h':aA),x∈tr→x.i≠xl.i→ops[x.i]? =some o→hs[x.k]? =some hk→x.kind= .uE h'→dm E Ep x.ts hk s.rc o= .val x.v h')
 {s2:St} (h2:s2.h=h') (acg:s2.ts=xl.ts) {φ₀:Ph} {w₀:World} {wy:List Deferred} {b:Frame} {k:List Item} {Ks:Bool→List Frame} (gG:nJ φ₀ b Ks s.rc):
 ∀(fuel t:Nat) {φ:Ph} {w:World} {d:List Nat} {bY:Array Bool} {K:Nat} {a:Act} (_:Inv E ops pl s tr hs st φ₀ w₀ wy d bY K φ a w) (_:ops.size≤d.length+fuel) (_:xl.i ∉ d),
  Ga E φ₀ s.h w₀ wy b (cur Ks s.rc) v s2 (lone (b.atR a (.inRegion ops (Region.linearise.go .any ops fuel t bY [])::k)) (cur Ks s.rc) w)
 | 0,t,φ,w,d,bY,K,a,inv,hf,po=>by
   exfalso
   have hi:xl.i<ops.size:=(Array.getElem?_eq_some_iff.1 U2).1
   have:=Bq ops.size (xl.i::d) (List.nodup_cons.2 ⟨po,inv.nd⟩) (fun x hx=>by
    simp at hx;rcases hx with rfl | hx
    · exact hi
    · exact inv.lt x hx)
   simp at this;omega
 | fuel+1,t,φ,w,d,bY,K,a,inv,hf,po=>by
   have hil:xl.i<ops.size:=(Array.getElem?_eq_some_iff.1 U2).1
   simp only[Region.linearise.go]
   change Ga E φ₀ s.h w₀ wy b (cur Ks s.rc) v s2 (lone (b.atR a (.inRegion ops (match (Region.ready .any ops bY)[t%(Region.ready .any ops bY).length]? with
    | some i=>Region.linearise.go .any ops fuel (t/(Region.ready .any ops bY).length) (bY.setIfInBounds i true) [i]
    | none=> [].reverse)::k)) (cur Ks s.rc) w)
   cases hi:(Region.ready .any ops bY)[t%(Region.ready .any ops bY).length]? with
   | none=>
     have FQ:Region.ready .any ops bY=[]:=by
      cases hr:Region.ready .any ops bY with
      | nil=>rfl
      | cons x xs=>
        rw[hr] at hi
        have lJ:t%(x::xs).length<(x::xs).length:=Nat.mod_lt _ (by simp)
        simp at hi
        simp at lJ
        omega
     exact absurd (yP r inv FQ _ xl.i (Nat.lt_succ_self _) hil) po
   | some i=>
     simp only[]
     rw[linearise_go_acc,List.reverse_singleton,List.singleton_append]
     obtain ⟨h1,h2',h3⟩:=Bv r inv (List.mem_of_getElem? hi)
     by_cases hii:i=xl.i
     · subst hii
       obtain ⟨p,hp⟩:=List.getElem?_of_mem hxl
       obtain ⟨_,q2,q3,_,o',Iy,q4,_⟩:=r.at hp
       rw[U2] at Iy;simp at Iy;subst Iy
       obtain ⟨hag,Q4⟩:=agree r hp U2 h2' inv.closed h3
       obtain ⟨hK,XS,ok,fr⟩:=inv.ok
       have F8:=inv.Bt r (q4 XT) h2' h3
       rw[F8,XS] at zI;simp at zI;subst zI
       rw[Bp hag] at Q6
       have U5:Region.wanted ol (yielded ops a.tmps)=true:=by rw[vy inv.ts ol,Q4];exact hwl
       obtain ⟨φ',w',v',todo,hv,sr,Kr,iY⟩:=OV hE dp hoc Q6 U2 (rest:=Region.linearise.go .any ops fuel (t/(Region.ready .any ops bY).length) (bY.setIfInBounds xl.i true) []) (k:=k) inv.ts ok (gG.mono fr.ext) U5
       have afl:(tr.map (·.i)).Nodup:=by rw[r.trace.is];exact r.nodup
       have Q2:xl.ts=pq ops (valOf tr) s.ts d:=by
        rw[(r.trace.step p xl hp).1,F9 ops afl,r.trace.is]
        refine List.ext_getElem? (fun x=>vB s.ts (fun j j' e e'=>w7 r.sa e e') (fun j hj=>?_))
        have Qi:j<ops.size:=by
         unfold gX at hj
         cases ho:ops[j]? with
         | none=>rw[ho] at hj;simp at hj
         | some o=>exact (Array.getElem?_eq_some_iff.1 ho).1
        by_cases hji:j=xl.i
        · subst hji;exact ⟨fun h=>absurd h q2,fun h=>absurd h h2'⟩
        · exact ⟨fun _=>h3 j (IA j Qi hji),fun _=>q3 j (IA j Qi hji)⟩
       exact ⟨φ',a,w',v',todo,hv,by rw[acg,Q2];exact inv.ts.mono Kr.ext,inv.ds,by rw[h2];exact sr,by rw[h2];exact fr.trans Kr,iY⟩
     · obtain ⟨K',φ',a',w',Zk,iY⟩:=inv.MU hE dp r gG (b:=b) (k:=k) h1 h2' h3 (fun x o hk h' hx OS=>Er x o hk h' hx (by rw[OS];exact hii)) (Region.linearise.go .any ops fuel (t/(Region.ready .any ops bY).length) (bY.setIfInBounds i true) [])
       obtain ⟨φ2,a2,w2,v2,td,x0,x1,x2,x3,x4,x5⟩:=(Es hE dp r hxl U2 hoc IA XT hwl zI Q6 Er h2 acg gG fuel (t/(Region.ready .any ops bY).length) Zk (by simp;omega) (by simp;exact ⟨po,fun h=>hii h.symm⟩)).is
       exact ⟨φ2,a2,w2,v2,td,x0,x1,x2,x3,x4,Steps.trans iY x5⟩
def Bw (call:bh):bh:=fun f as_ h=>match call f as_ h with
 | .panic _ h'=> .ret AV.undef h'
 | r=>r
theorem Q7 {call:bh} {ts:List AV} {h h':aA} {rc:RC} {o:Oper} {v:AV} (e:dm E call ts h rc o= .val v h'):dm E (Bw call) ts h rc o= .val v h':=by
 obtain ⟨dst,op,ty,pos,after,guard⟩:=o
 cases op with
 | call c=>
   obtain ⟨cz,args,aT⟩:=c
   cases cz with
   | builtin b=>cases b<;>exact e
   | value f=>
     simp only[dm] at e ⊢
     split at e
     · split at e
       · exact e
       · split at e
         · rename_i hc
           simp only[Bw,hc];exact e
         · simp at e
         · simp at e
     · simp at e
   | invoke x name=>
     simp only[dm] at e ⊢
     split at e
     · split at e
       · split at e
         · rename_i hc
           simp only[Bw,hc];exact e
         · simp at e
         · simp at e
       · simp at e
     · simp at e
 | _=>exact e
theorem Q8 {call:bh} {ts:List AV} {h h':aA} {rc:RC} {dst:Option Tmp} {c:Call} {ty:TypeId} {pos:String} {after:Array Edge} {guard:Option (Nat×Bool)} {v:AV} (e:dm E call ts h rc ⟨dst,.call c,ty,pos,after,guard⟩= .panic v h'):
 dm E (Bw call) ts h rc ⟨dst,.call c,ty,pos,after,guard⟩= .val AV.undef h':=by
 obtain ⟨cz,args,aT⟩:=c
 cases cz with
 | builtin b=>
   cases b<;>simp only[dm] at e<;>(try (simp at e;done))<;>(split at e<;>(try (simp at e;done))<;>(try (split at e<;>simp at e)))
 | value f=>
   simp only[dm] at e ⊢
   split at e
   · split at e
     · split at e<;>simp at e
     · split at e
       · simp at e
       · rename_i hc
         simp at e;obtain ⟨rfl,rfl⟩:=e
         simp only[Bw,hc]
       · simp at e
   · simp at e
 | invoke x name=>
   simp only[dm] at e ⊢
   split at e
   · split at e
     · split at e
       · simp at e
       · rename_i hc
         simp at e;obtain ⟨rfl,rfl⟩:=e
         simp only[Bw,hc]
       · simp at e
     · simp at e
   · simp at e
theorem oL {α:Type} {f:α→Option Nat}:∀{l:List α} (_:(l.filterMap f).Nodup) {x y:α} {n:Nat} (_:x∈l) (_:y∈l) (_:f x=some n) (_:f y=some n),x=y
 | [],_,x,y,n,hx,_,_,_=>by simp at hx
 | z::l,hn,x,y,n,hx,hy,fx,fy=>by
   cases hz:f z with
   | none=>
     rw[List.filterMap_cons_none hz] at hn
     have hx':x∈l:=by
      simp at hx;rcases hx with rfl | h
      · rw[hz] at fx;simp at fx
      · exact h
     have QU:y∈l:=by
      simp at hy;rcases hy with rfl | h
      · rw[hz] at fy;simp at fy
      · exact h
     exact oL hn hx' QU fx fy
   | some m=>
     rw[List.filterMap_cons_some hz,List.nodup_cons] at hn
     simp at hx hy
     rcases hx with rfl | hx<;>rcases hy with rfl | hy
     · rfl
     · exfalso;rw[fx] at hz;simp at hz;subst hz;exact hn.1 (List.mem_filterMap.2 ⟨y,hy,fy⟩)
     · exfalso;rw[fy] at hz;simp at hz;subst hz;exact hn.1 (List.mem_filterMap.2 ⟨x,hx,fx⟩)
     · exact oL hn.2 hx hy fx fy
theorem Q9 (OI:sy E ops=some pl) (hd:cT E call ops pl.order 0 s= .ok tr hs s') (hl:qS E ops pl tr hs=true):∃st,F_ E call ops pl s s' tr hs st:=by
 obtain ⟨st,t⟩:=oK hd
 unfold qS at hl
 simp only[Bool.and_eq_true] at hl
 refine ⟨st,Iw OI,t,fun x hx K hk h1 h2 h3=>?_,fun x y hx hy n o q e1 e2=>?_⟩
 · have h4:=List.all_eq_true.1 (List.all_eq_true.1 hl.2 x hx) hk
   refine h4 ?_
   refine List.mem_of_getElem? (i:=K - x.k) ?_
   rw[List.getElem?_take,if_pos (by omega),List.getElem?_drop,show x.k+(K - x.k)=K by omega,h3]
 · have:=vA hl.1
   have:=oL this hx hy (n:=n) (by simp [e1]) (by simp [e2])
   rw[this]
theorem vC {call Et:bh} (hc:∀{ts:List AV} {h h':aA} {rc:RC} {o:Oper} {v:AV},dm E call ts h rc o= .val v h'→dm E Et ts h rc o= .val v h') {i:Nat} {o:Oper} (ho:ops[i]? =some o) (he:fI E o.op=true):
 ∀(l:List Nat) (k:Nat) (s:St) {tr:List Step} {hs:List aA} {s1:St} {h':aA} (_:cT E call ops l k s= .ok tr hs s1) (_:cD ops s1.ts o=true) (_:dm E Et s1.ts s1.h s1.rc o= .val AV.undef h'),
  cT E Et ops (l++[i]) k s= .ok (tr++[⟨i,k+(hs.length - 1),s1.ts,AV.undef,.uE h'⟩]) (hs++[h']) {s1 with ts:=dN s1.ts o.dst AV.undef,h:=h'}
 | [],k,s,tr,hs,s1,h',hd,hw,hv=>by
   simp [cT] at hd;obtain ⟨rfl,rfl,rfl⟩:=hd
   simp only[List.nil_append,cT,ho,he,if_true,hw,hv]
   simp [ka.bound,ka.step]
 | j::l,k,s,tr,hs,s1,h',hd,hw,hv=>by
   rw[List.cons_append]
   simp only[cT] at hd ⊢
   cases XQ:ops[j]? with
   | none=>rw[XQ] at hd;simp at hd
   | some oj=>
   rw[XQ] at hd
   simp only at hd ⊢
   have wr:∀(x:Step) (s0:St),((cT E call ops l (k+1) s0).bound s.h).step x= .ok tr hs s1→((cT E Et ops (l++[i]) (k+1) s0).bound s.h).step x= .ok (tr++[⟨i,k+(hs.length - 1),s1.ts,AV.undef,.uE h'⟩]) (hs++[h']) {s1 with ts:=dN s1.ts o.dst AV.undef,h:=h'}:=by
    intro x s0 hd
    cases hr:cT E call ops l (k+1) s0 with
    | fail why q=>rw[hr] at hd;simp [ka.bound,ka.step] at hd
    | ok MT so s2=>
      rw[hr] at hd;simp [ka.bound,ka.step] at hd;obtain ⟨rfl,rfl,rfl⟩:=hd
      rw[vC hc ho he l (k+1) s0 hr hw hv]
      obtain ⟨_,t⟩:=oK hr
      have:1≤so.length:=by have:=t.len;omega
      simp [ka.bound,ka.step];omega
   have pl:∀(x:Step) (s0:St),(cT E call ops l k s0).step x= .ok tr hs s1→(cT E Et ops (l++[i]) k s0).step x= .ok (tr++[⟨i,k+(hs.length - 1),s1.ts,AV.undef,.uE h'⟩]) (hs++[h']) {s1 with ts:=dN s1.ts o.dst AV.undef,h:=h'}:=by
    intro x s0 hd
    cases hr:cT E call ops l k s0 with
    | fail why q=>rw[hr] at hd;simp [ka.step] at hd
    | ok MT so s2=>
      rw[hr] at hd;simp [ka.step] at hd;obtain ⟨rfl,rfl,rfl⟩:=hd
      rw[vC hc ho he l k s0 hr hw hv]
      simp [ka.step]
   split at hd
   · rename_i Zl
     rw[if_pos Zl]
     split at hd
     · rename_i Dz
       rw[if_pos Dz]
       split at hd
       · rename_i Q5
         simp only[hc Q5]
         exact wr _ _ hd
       · simp at hd
       · simp at hd
     · rename_i Dz
       rw[if_neg Dz]
       exact wr _ _ hd
   · rename_i Zl
     rw[if_neg Zl]
     split at hd
     · rename_i Dz
       rw[if_pos Dz]
       split at hd
       · rename_i hp
         try simp only[hp]
         exact pl _ _ hd
       · rename_i hp
         try simp only[hp]
         split at hd
         · rename_i hq
           try simp only[hq]
           exact pl _ _ hd
         · rename_i hq
           try simp only[hq]
           split at hd
           · rename_i hr
             try simp only[hr]
             split at hd
             · rename_i hn
               try simp only[hn]
               exact pl _ _ hd
             · simp at hd
           · simp at hd
     · rename_i Dz
       rw[if_neg Dz]
       exact pl _ _ hd
theorem yQ {call:bh} {i:Nat} {o:Oper} (ho:ops[i]? =some o) (he:fI E o.op=true) {v:AV}:
 ∀(l:List Nat) (k:Nat) (s:St) {tr:List Step} {hs:List aA} {s1:St} {h':aA} (_:cT E call ops l k s= .ok tr hs s1) (_:cD ops s1.ts o=true) (_:dm E call s1.ts s1.h s1.rc o= .panic v h'),
  ∃why q,cT E call ops (l++[i]) k s= .fail why q
 | [],k,s,tr,hs,s1,h',hd,hw,hv=>by
   simp [cT] at hd;obtain ⟨rfl,rfl,rfl⟩:=hd
   simp only[List.nil_append,cT,ho,he,if_true,hw,hv]
   exact ⟨_,_,rfl⟩
 | j::l,k,s,tr,hs,s1,h',hd,hw,hv=>by
   rw[List.cons_append]
   simp only[cT] at hd ⊢
   cases XQ:ops[j]? with
   | none=>rw[XQ] at hd;simp at hd
   | some oj=>
   rw[XQ] at hd
   simp only at hd ⊢
   have wr:∀(x:Step) (s0:St),((cT E call ops l (k+1) s0).bound s.h).step x= .ok tr hs s1→∃why q,((cT E call ops (l++[i]) (k+1) s0).bound s.h).step x= .fail why q:=by
    intro x s0 hd
    cases hr:cT E call ops l (k+1) s0 with
    | fail why q=>rw[hr] at hd;simp [ka.bound,ka.step] at hd
    | ok MT so s2=>
      rw[hr] at hd;simp [ka.bound,ka.step] at hd;obtain ⟨rfl,rfl,rfl⟩:=hd
      obtain ⟨why,q,e⟩:=yQ ho he l (k+1) s0 hr hw hv
      rw[e];exact ⟨_,_,rfl⟩
   have pl:∀(x:Step) (s0:St),(cT E call ops l k s0).step x= .ok tr hs s1→∃why q,(cT E call ops (l++[i]) k s0).step x= .fail why q:=by
    intro x s0 hd
    cases hr:cT E call ops l k s0 with
    | fail why q=>rw[hr] at hd;simp [ka.step] at hd
    | ok MT so s2=>
      rw[hr] at hd;simp [ka.step] at hd;obtain ⟨rfl,rfl,rfl⟩:=hd
      obtain ⟨why,q,e⟩:=yQ ho he l k s0 hr hw hv
      rw[e];exact ⟨_,_,rfl⟩
   split at hd
   · rename_i Zl
     rw[if_pos Zl]
     split at hd
     · rename_i Dz
       rw[if_pos Dz]
       split at hd
       · rename_i Q5
         try simp only[Q5]
         exact wr _ _ hd
       · simp at hd
       · simp at hd
     · rename_i Dz
       rw[if_neg Dz]
       exact wr _ _ hd
   · rename_i Zl
     rw[if_neg Zl]
     split at hd
     · rename_i Dz
       rw[if_pos Dz]
       split at hd
       · rename_i hp
         try simp only[hp]
         exact pl _ _ hd
       · rename_i hp
         try simp only[hp]
         split at hd
         · rename_i hq
           try simp only[hq]
           exact pl _ _ hd
         · rename_i hq
           try simp only[hq]
           split at hd
           · rename_i hr
             try simp only[hr]
             split at hd
             · rename_i hn
               try simp only[hn]
               exact pl _ _ hd
             · simp at hd
           · simp at hd
     · rename_i Dz
       rw[if_neg Dz]
       exact pl _ _ hd
end
theorem Bx {call:bh} {ops:Array Oper} {pl:mE} {s s':St} {tr:List Step} {qW st:List aA} (r:F_ E call ops pl s s' tr qW st)
 {φ:Ph} {a:Act} {w:World} (Q2:LR φ s.ts a.tmps.toList) (ok:OK E φ s.h w):Inv E ops pl s tr qW st φ w a.defers [] (Array.replicate ops.size false) 0 φ a {w with drawn:=w.drawn+1}:=by
 have ID:OK E φ s.h {w with drawn:=w.drawn+1}:=⟨ok.Aw,ok.nx,ok.vr,ok.live,ok.inj⟩
 have fr1:Fr φ s.h w φ s.h {w with drawn:=w.drawn+1}:=⟨Ph.le_refl φ,fun _ _=>rfl,Nat.le_refl _,rfl,rfl,rfl,Nat.le_refl _,fun _ _ _=>rfl,fun i o l a b c=> .inr ⟨i,o,l,a,b,c,rfl⟩⟩
 have hlen:0<qW.length:=by have:=r.trace.len;omega
 have h0:qW[0]? =some qW[0]:=by simp [hlen]
 have g:=r.trace.grown 0 s.h _ r.trace.first h0
 obtain ⟨Bu,Zj⟩:=ID.grown g
 refine ⟨.nil,fun i hi=>by simp at hi,fun i hi=>by simp [hi],fun i hi=>by simp at hi,fun q e hq=>by simp,by omega,by simpa [pq] using Q2,rfl,⟨_,h0,Bu,fr1.trans Zj⟩,fun x hx n obj hk _ hk0=>?_⟩
 obtain ⟨q,hq⟩:=List.getElem?_of_mem hx
 obtain ⟨_,_,_,hky,oy,hoy,_,_⟩:=r.at hq
 obtain ⟨_,_,oy',afe,aff,afg,DK,DL,K4⟩:=r.trace.step q x hq
 rw[←hky] at DK DL
 have F8:x.k=0:=by omega
 rw[F8] at DK DL
 rw[r.trace.first] at DL;simp at DL;subst DL
 unfold wY at K4
 rw[hk] at K4
 obtain ⟨_,_,_,hn1,K6⟩:=K4
 refine ⟨?_,hn1,fun hK e=>?_⟩
 · cases hφ:φ n with
   | none=>rfl
   | some l=>have:=ok.Aw n l hφ;omega
 · rw[e] at DK;simp at DK;subst DK;exact K6
theorem IE (hE:kM E) (afm:E.P.follows .mixedOrders=true) {call:bh} (dp:iK E call) {ops:Array Oper} {s s':St} {e:iB} (h:wC E call ops s= .ok e s')
 {φ:Ph} {a:Act} {w:World} {b:Frame} {k:List Item} {K:Bool→List Frame} (hs:SR φ s.ts s.ds a) (ok:OK E φ s.h w) (gG:nJ φ b K s.rc) (id:Nat):
 s'.rc=s.rc∧s'.ds=s.ds∧((e= .normal∧∃φ' a' w',LR φ' s'.ts a'.tmps.toList∧a'.defers=a.defers∧OK E φ' s'.h w'∧Fr φ s.h w φ' s'.h w'∧
  Steps E.P (lone (b.atR a (.code (.region id ops true)::k)) (cur K s.rc) w) (lone (b.atR a' k) (cur K s.rc) w'))∨
  ∃v,e= .panic v∧Ga E φ s.h w a.defers b (cur K s.rc) v s' (lone (b.atR a (.code (.region id ops true)::k)) (cur K s.rc) w)):=by
 have ach:Region.schedule (E.P.follows .mixedOrders) ops (w.tape w.drawn (.order b.fn id))=Region.linearise.go .any ops ops.size (w.tape w.drawn (.order b.fn id)) (Array.replicate ops.size false) []:=by
  rw[afm];rfl
 unfold wC at h
 split at h
 · simp at h
 rename_i pl OI
 split at h
 · rename_i tr qW s1 hd
   split at h
   · rename_i hl
     simp at h;obtain ⟨rfl,rfl⟩:=h
     obtain ⟨st,r⟩:=Q9 OI hd hl
     refine ⟨r.trace.rc,r.trace.ds,.inl ⟨rfl,?_⟩⟩
     obtain ⟨φ',a',w',x1,x2,x3,x4,x5⟩:=(IC hE dp r gG (b:=b) (k:=k) ops.size (w.tape w.drawn (.order b.fn id)) (Bx r hs.ts ok) (by simp)).is
     refine ⟨φ',a',w',x1,x2,x3,x4,.head stepR_region_draw ?_⟩
     rw[ach]
     exact x5
   · simp at h
 · split at h
   · rename_i v s2 hp
     simp at h;obtain ⟨rfl,rfl⟩:=h
     unfold A_ at hp
     split at hp
     · simp at hp
     rename_i i front VF
     split at hp
     · rename_i tr qW s1 dst c ty pos after guard hd ho
       split at hp
       · rename_i FV
         split at hp
         · rename_i v1 h1 Q5
           split at hp
           · rename_i hl
             simp at hp;obtain ⟨rfl,rfl⟩:=hp
             simp only[Bool.and_eq_true,List.all_eq_true,List.mem_range,Bool.or_eq_true,beq_iff_eq] at FV
             obtain ⟨⟨he,hw⟩,IA⟩:=FV
             have Q1:pl.order=front.reverse++[i]:=by
              have:=congrArg List.reverse VF
              simpa using this
             have VG:=vC (Et:=Bw call) (fun e=>Q7 e) ho he front.reverse 0 s hd hw (Q8 Q5)
             rw[←Q1] at VG
             rw[Nat.zero_add] at VG
             obtain ⟨st,r⟩:=Q9 OI VG hl
             obtain ⟨st1,t1⟩:=oK hd
             have aci:s1.rc=s.rc:=t1.rc
             refine ⟨aci,t1.ds,.inr ⟨_,rfl,?_⟩⟩
             have hlen:1≤qW.length:=by have:=t1.len;omega
             have IB:(qW++[h1])[qW.length - 1]? =some s1.h:=by
              rw[List.getElem?_append_left (by omega)]
              have:=t1.last
              rw[show qW.length - 1=qO E ops front.reverse by have:=t1.len;omega];exact this
             have Er:∀(x:Step) (o:Oper) (hk h':aA),x∈tr++[⟨i,qW.length - 1,s1.ts,AV.undef,.uE h1⟩]→x.i≠i→ops[x.i]? =some o→(qW++[h1])[x.k]? =some hk→x.kind= .uE h'→dm E call x.ts hk s.rc o= .val x.v h':=by
              intro x o hk h' hx OS Iy zI yL
              have hx':x∈tr:=by
               simp at hx;rcases hx with h | h
               · exact h
               · exact absurd (by rw[h]) OS
              obtain ⟨p,hp⟩:=List.getElem?_of_mem hx'
              obtain ⟨_,hk0,o',hk1,sk1,ho2,Zm,hsk,iY⟩:=t1.step p x hp
              rw[Iy] at ho2;simp at ho2;subst ho2
              rw[Nat.zero_add] at hk0
              rw[←hk0] at Zm
              have lJ:x.k<qW.length:=(List.getElem?_eq_some_iff.1 Zm).1
              rw[List.getElem?_append_left lJ,Zm] at zI
              simp at zI;subst zI
              unfold wY at iY;rw[yL] at iY;exact iY.2.2.1
             have afn:=(Es hE dp r (xl:=⟨i,qW.length - 1,s1.ts,AV.undef,.uE h1⟩) (by simp) (ol:=⟨dst,.call c,ty,pos,after,guard⟩) ho rfl (fun j hj eF=>(IA j hj).resolve_left eF) he hw IB (by rw[←aci];exact Q5) Er
              (s2:={s1 with h:=h1}) rfl rfl gG (b:=b) (k:=k) ops.size (w.tape w.drawn (.order b.fn id)) (Bx r hs.ts ok) (by simp) (by simp)).is
             obtain ⟨φ',a',w',v',todo,x0,x1,x2,x3,x4,x5⟩:=afn
             refine ⟨φ',a',w',v',todo,x0,x1,x2,x3,x4,.head stepR_region_draw ?_⟩
             rw[ach]
             exact x5
           · simp at hp
         · simp at hp
       · simp at hp
     · simp at hp
   · simp at h
end Go.Ab
end
