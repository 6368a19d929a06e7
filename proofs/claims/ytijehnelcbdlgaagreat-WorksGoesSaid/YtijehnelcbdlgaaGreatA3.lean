import Derived.Orders
import Derived.Test.YtijehnelcbdlgaaGreatA2
set_option linter.unusedVariables false
set_option linter.unusedSimpArgs false
section
namespace Go.Ab
variable {E:Env}
def Mh (E:Env) (ts pQ:List AV) (op:Op):Prop:=∀x∈op.operands,gn E ts x=gn E pQ x
theorem Cv {α β:Type} {f g:α→Option β}:∀{l:List α} (_:∀x∈l,f x=g x),iX f l=iX g l
 | [],_=>rfl
 | x::xs,h=>by simp only[iX,h x (by simp),Cv (l:=xs) (fun y hy=>h y (by simp [hy]))]
theorem tN {ts pQ:List AV} {l:List Operand} (h:∀x∈l,gn E ts x=gn E pQ x):lq E ts l=lq E pQ l:=Cv h
theorem wa {ts pQ:List AV}:∀{l:List (Nat×Operand)} (_:∀x∈l.map (·.2),gn E ts x=gn E pQ x),oV E ts l=oV E pQ l
 | [],_=>rfl
 | (i,o)::l,h=>by simp only[oV,h o (by simp),wa (l:=l) (fun y hy=>h y (by simp at hy ⊢;exact .inr hy))]
theorem yr {ts pQ:List AV} {o:Option Operand} (h:∀x∈o.toArray,gn E ts x=gn E pQ x):sC E ts o=sC E pQ o:=by
 cases o with
 | none=>rfl
 | some o=>simp only[sC,h o (by simp)]
theorem Cw {ts pQ:List AV} {c:Call} (h:∀x∈c.operands,gn E ts x=gn E pQ x):callee E ts c=callee E pQ c:=by
 unfold callee
 cases hc:c.callee with
 | value f=>
  have h1:gn E ts f=gn E pQ f:=h f (by simp [Call.operands,hc])
  have h2:lq E ts c.args.toList=lq E pQ c.args.toList:=tN (fun x hx=>h x (by simp [Call.operands,hc];exact .inr (by simpa using hx)))
  simp only[h1,h2]
 | invoke _ _=>rfl
 | builtin _=>rfl
theorem rv {ts pQ:List AV} {c:Call} (h:∀x∈c.operands,gn E ts x=gn E pQ x):lq E ts c.args.toList=lq E pQ c.args.toList:=
 tN (fun x hx=>h x (by simp [Call.operands];exact .inr (by simpa using hx)))
theorem QF {ts pQ:List AV} {op:Op} (h:Mh E ts pQ op):dY E ts op=dY E pQ op:=by
 cases op with
 | call c=>
  have hc:=rv (E:=E) (ts:=ts) (pQ:=pQ) (c:=c) h
  obtain ⟨callee,args,argTypes⟩:=c
  simp only at hc
  cases callee with
  | builtin b=>cases b<;>simp only[dY,hc]
  | value f=>cases f<;>simp only[dY,hc]
  | invoke r m=>simp only[dY]
 | build t ps=>
  have:oV E ts ps.toList=oV E pQ ps.toList:=wa (fun x hx=>h x (by simpa [Op.operands] using hx))
  simp only[dY,this]
 | makeFunc fn first captured=>
  cases fn with
  | func f=>
   have h1:lq E ts first.toList=lq E pQ first.toList:=tN (fun x hx=>h x (by simp [Op.operands];exact .inl (by simpa using hx)))
   have h2:lq E ts captured.toList=lq E pQ captured.toList:=tN (fun x hx=>h x (by simp [Op.operands];exact .inr (by simpa using hx)))
   simp only[dY,h1,h2]
  | _=>simp only[dY]
 | slice t x lo hi mx=>
  have h0:gn E ts x=gn E pQ x:=h x (by simp [Op.operands])
  have h1:sC E ts lo=sC E pQ lo:=yr (fun y hy=>h y (by simp [Op.operands] at hy ⊢;exact .inr (.inl hy)))
  have h2:sC E ts hi=sC E pQ hi:=yr (fun y hy=>h y (by simp [Op.operands] at hy ⊢;exact .inr (.inr (.inl hy))))
  have h3:sC E ts mx=sC E pQ mx:=yr (fun y hy=>h y (by simp [Op.operands] at hy ⊢;exact .inr (.inr (.inr hy))))
  simp only[dY,h0,h1,h2,h3]
 | move x=>simp only[dY,h x (by simp [Op.operands])]
 | assign x=>simp only[dY,h x (by simp [Op.operands])]
 | pick c a b=>simp only[dY,h c (by simp [Op.operands]),h a (by simp [Op.operands]),h b (by simp [Op.operands])]
 | nilCheck x=>simp only[dY,h x (by simp [Op.operands])]
 | binOp o t x y u=>simp only[dY,h x (by simp [Op.operands]),h y (by simp [Op.operands])]
 | unOp o t x=>simp only[dY,h x (by simp [Op.operands])]
 | convert s d x=>simp only[dY,h x (by simp [Op.operands])]
 | makeInterface t x=>simp only[dY,h x (by simp [Op.operands])]
 | fieldAddr s x f=>simp only[dY,h x (by simp [Op.operands])]
 | field s x f=>simp only[dY,h x (by simp [Op.operands])]
 | indexAddr t x i=>simp only[dY,h x (by simp [Op.operands]),h i (by simp [Op.operands])]
 | index t x i=>simp only[dY,h x (by simp [Op.operands]),h i (by simp [Op.operands])]
 | extract x i=>simp only[dY,h x (by simp [Op.operands])]
 | typeAssert x a b ok=>simp only[dY,h x (by simp [Op.operands])]
 | _=>simp only[dY]
theorem QG {ts pQ:List AV} {op:Op} (h:Mh E ts pQ op) (hp:az):kF E ts hp op=kF E pQ hp op:=by
 cases op with
 | call c=>
  have hc:=rv (E:=E) (ts:=ts) (pQ:=pQ) (c:=c) h
  obtain ⟨callee,args,argTypes⟩:=c
  simp only at hc
  cases callee with
  | builtin b=>cases b<;>simp only[kF,hc]
  | value f=>simp only[kF]
  | invoke r m=>simp only[kF]
 | load t a=>simp only[kF,h a (by simp [Op.operands])]
 | convert s d x=>simp only[kF,h x (by simp [Op.operands])]
 | lookup t x i ok=>simp only[kF,h x (by simp [Op.operands]),h i (by simp [Op.operands])]
 | _=>simp only[kF]
theorem NW {ts pQ:List AV} {op:Op} (h:Mh E ts pQ op):jt E ts op=jt E pQ op:=by
 cases op with
 | buildSlice t n ps=>
  have:oV E ts ps.toList=oV E pQ ps.toList:=wa (fun x hx=>h x (by simpa [Op.operands] using hx))
  simp only[jt,this]
 | box t x=>simp only[jt,h x (by simp [Op.operands])]
 | makeSlice t l c=>simp only[jt,h l (by simp [Op.operands]),h c (by simp [Op.operands])]
 | makeMap t r=>
  cases r with
  | none=>simp only[jt]
  | some r=>simp only[jt,h r (by simp [Op.operands])]
 | range t x=>simp only[jt,h x (by simp [Op.operands])]
 | _=>simp only[jt]
theorem Iy {call:b8} {ts pQ:List AV} {o:Oper} (h:Mh E ts pQ o.op) (hp:az) (rc:RC):j4 E call ts hp rc o=j4 E call pQ hp rc o:=by
 obtain ⟨dst,op,ty,pos,after,guard⟩:=o
 simp only at h
 unfold j4
 cases op with
 | call c=>
  have hc:=rv (E:=E) (ts:=ts) (pQ:=pQ) (c:=c) h
  have Lg:=Cw (E:=E) (ts:=ts) (pQ:=pQ) (c:=c) h
  cases hcc:c.callee with
  | invoke r name=>
   have hr:gn E ts r=gn E pQ r:=h r (by simp [Op.operands,Call.operands,hcc])
   simp only[hcc,hc,hr]
  | builtin b=>cases b<;>simp only[hcc,hc]
  | value f=>simp only[hcc,Lg]
 | defer c=>simp only[Cw (E:=E) (ts:=ts) (pQ:=pQ) (c:=c) h]
 | store t a x=>simp only[h a (by simp [Op.operands]),h x (by simp [Op.operands])]
 | mapUpdate t m k x=>simp only[h m (by simp [Op.operands]),h k (by simp [Op.operands]),h x (by simp [Op.operands])]
 | insert t m k x=>simp only[h m (by simp [Op.operands]),h k (by simp [Op.operands]),h x (by simp [Op.operands])]
 | mapEntry t m k=>simp only[h m (by simp [Op.operands]),h k (by simp [Op.operands])]
 | entryStore t m k x=>simp only[h m (by simp [Op.operands]),h k (by simp [Op.operands]),h x (by simp [Op.operands])]
 | convert s d x=>simp only[h x (by simp [Op.operands])]
 | next i s=>simp only[h i (by simp [Op.operands])]
 | panic x=>simp only[h x (by simp [Op.operands])]
 | _=>rfl
end Go.Ab
end
section
namespace Go.Ab
variable {E:Env}
theorem lu {α:Type} {f:α→α→Bool} (hf:∀x y,f x y=true→x=y):∀{l r:List α} (_:dR f l r=true),l=r
 | [],[],_=>rfl
 | [],_::_,h=>by simp [dR] at h
 | _::_,[],h=>by simp [dR] at h
 | x::xs,y::ys,h=>by
  simp only[dR,Bool.and_eq_true] at h
  rw[hf x y h.1,lu hf h.2]
theorem AV.ql:∀(n:Nat) (x y:AV),AV.same n x y=true→x=y
 | 0,_,_,h=>by simp [AV.same] at h
 | n+1,x,y,h=>by
  have ih:=AV.ql n
  cases x<;>cases y<;>simp [AV.same] at h<;>try rfl
  all_goals first
   | (subst h;rfl)
   | (obtain ⟨rfl,rfl⟩:=h;rfl)
   | (obtain ⟨⟨⟨⟨rfl,rfl⟩,rfl⟩,rfl⟩,rfl⟩:=h;rfl)
   | (obtain ⟨⟨rfl,h1⟩,h2⟩:=h;rw[lu ih h1,lu ih h2])
   | (obtain ⟨rfl,h1⟩:=h;rw[ih _ _ h1])
   | (rw[lu ih h])
theorem aN.ql {x y:aN} (h:aN.same x y=true):x=y:=by
 unfold aN.same at h
 split at h
 · simp only[Bool.and_eq_true,beq_iff_eq] at h
   obtain ⟨⟨h1,rfl⟩,rfl⟩:=h
   rw[lu (AV.ql 20) h1]
 · simp at h;subst h;rfl
 · simp at h;obtain ⟨rfl,rfl⟩:=h;rfl
 · simp at h
theorem Bd:∀{l:List Nat} (_:nodup l=true),l.Nodup
 | [],_=> .nil
 | x::xs,h=>by
  simp only[nodup,Bool.and_eq_true,Bool.not_eq_true',List.contains_eq_mem,decide_eq_false_iff_not] at h
  exact List.nodup_cons.2 ⟨h.1,Bd h.2⟩
theorem Iz:∀(n:Nat) (l:List Nat) (_:l.Nodup) (_:∀x∈l,x<n),l.length≤n
 | 0,l,_,h=>by
  cases l with
  | nil=>simp
  | cons x _=>have:=h x (by simp);omega
 | n+1,l,hn,h=>by
  have h1:=Iz n (l.erase n) (hn.erase n) (fun x hx=>by
   have h2:=h x (List.mem_of_mem_erase hx)
   have h3:x≠n:=(hn.mem_erase_iff.1 hx).1
   omega)
  rw[List.length_erase] at h1
  split at h1<;>omega
structure IA (E:Env) (ops:Array Oper) (pl:G6):Prop where
 lt:∀i o j,ops[i]? =some o→gS pl.an i j=true→j<i
 direct:∀i o e,ops[i]? =some o→e∈rU o→e<i∧gS pl.an i e=true
 closed:∀i o j,ops[i]? =some o→gS pl.an i j=true→∃e∈rU o,e=j∨gS pl.an e j=true
 guard:∀i o g want,ops[i]? =some o→o.guard=some (g,want)→gS pl.an i g=true
 slot:∀i j o p d,i≠j→ops[i]? =some o→ops[j]? =some p→p.dst=some d→o.dst≠some d∧(d∈tmpsOf o→gS pl.an i j=true∨gS pl.an j i=true)
 chain:∀q e f,pl.ez[q]? =some e→pl.ez[q+1]? =some f→gS pl.an f e=true
 ez:pl.ez=Nx E ops.toList
 nd:pl.ez.Nodup
 order:vU E ops pl.an pl.ez pl.order [] 0=true
theorem zI {ops:Array Oper} {i:Nat} {o:Oper} (h:ops[i]? =some o):(o,i)∈ops.toList.zipIdx:=by
 rw[List.mk_mem_zipIdx_iff_getElem?];simpa using h
theorem Cx {an:List (List Nat)}:∀{l:List Nat} (_:HG an l=true) (q e f:Nat),l[q]? =some e→l[q+1]? =some f→gS an f e=true
 | [],_,q,e,f,h,_=>by simp at h
 | [x],_,q,e,f,h,h'=>by simp at h'
 | x::y::l,hc,q,e,f,h,h'=>by
  simp only[HG,Bool.and_eq_true] at hc
  cases q with
  | zero=>simp at h h';subst h;subst h';exact hc.1
  | succ q=>exact Cx hc.2 q e f (by simpa using h) (by simpa using h')
theorem QH {ops:Array Oper} {pl:G6} (h:Ih E ops=some pl):IA E ops pl:=by
 unfold Ih at h
 simp only at h
 split at h
 · rename_i hc
   simp at h;subst h
   simp only[Bool.and_eq_true] at hc
   obtain ⟨⟨⟨⟨he,hs⟩,hch⟩,tv⟩,ajk⟩:=hc
   have Tc:=List.all_eq_true.1 he
   have uT:=List.all_eq_true.1 hs
   refine ⟨fun i o j ho hj=>?_,fun i o e ho hm=>?_,fun i o j ho hj=>?_,fun i o g want ho hg=>?_,fun i j o p d gX ho hp hd=>?_,Cx hch,rfl,Bd tv,ajk⟩
   · have:=Tc _ (zI ho)
     simp only[Bool.and_eq_true] at this
     have h2:=List.all_eq_true.1 this.2 j (by simpa [gS] using hj)
     simp only[Bool.and_eq_true,decide_eq_true_eq] at h2
     exact h2.1
   · have:=Tc _ (zI ho)
     simp only[Bool.and_eq_true] at this
     have h2:=List.all_eq_true.1 this.1 e hm
     simpa using h2
   · have:=Tc _ (zI ho)
     simp only[Bool.and_eq_true] at this
     have h2:=List.all_eq_true.1 this.2 j (by simpa [gS] using hj)
     simp only[Bool.and_eq_true,List.any_eq_true,Bool.or_eq_true,beq_iff_eq] at h2
     exact h2.2
   · have:=uT _ (zI ho)
     simp only[Bool.and_eq_true,hg] at this
     exact this.1.1
   · have:=uT _ (zI ho)
     simp only[Bool.and_eq_true] at this
     have h2:=List.all_eq_true.1 this.2 _ (zI hp)
     simp only[Bool.or_eq_true,beq_iff_eq,gX,false_or,hd,Bool.and_eq_true,bne_iff_ne,Bool.not_eq_true',List.contains_eq_mem,decide_eq_false_iff_not] at h2
     exact ⟨h2.1,fun hm=>(h2.2.imp_left (fun x=>x.resolve_left (fun hn=>hn hm)))⟩
 · simp at h
def vP (E:Env) (ops:Array Oper) (l:List Nat):Nat:=(l.filter fun i=>kI E ((ops.getD i default).op)).length
theorem NX {ops:Array Oper} {i:Nat} (l:List Nat) (h:kI E ((ops.getD i default).op)=true):vP E ops (i::l)=vP E ops l+1:=by
 unfold vP;rw[List.filter_cons_of_pos (p:=fun i=>kI E ((ops.getD i default).op)) h];rfl
theorem NY {ops:Array Oper} {i:Nat} (l:List Nat) (h:¬kI E ((ops.getD i default).op)=true):vP E ops (i::l)=vP E ops l:=by
 unfold vP;rw[List.filter_cons_of_neg (p:=fun i=>kI E ((ops.getD i default).op)) h]
theorem lE {ops:Array Oper} {an:List (List Nat)} {ez:List Nat}:∀{l seen:List Nat} {k:Nat} (_:vU E ops an ez l seen k=true),
 (∀p i,l[p]? =some i→i<ops.size∧i ∉ seen∧i ∉ l.take p∧(∀j,gS an i j=true→j∈seen∨j∈l.take p)∧
  (kI E ((ops.getD i default).op)=true→ez[k+vP E ops (l.take p)]? =some i)∧(kI E ((ops.getD i default).op)=false→aaz ez an i=k+vP E ops (l.take p)))∧
 (∀i,i<ops.size→i∈seen∨i∈l)∧k+vP E ops l=ez.length
 | [],seen,k,h=>by
  simp only[vU,Bool.and_eq_true,List.all_eq_true,List.mem_range,beq_iff_eq] at h
  exact ⟨fun p i hp=>by simp at hp,fun i hi=> .inl (by simpa using h.1 i hi),by simpa [vP] using h.2⟩
 | i::l,seen,k,h=>by
  simp only[vU,Bool.and_eq_true,decide_eq_true_eq,Bool.not_eq_true',List.contains_eq_mem,decide_eq_false_iff_not] at h
  obtain ⟨⟨⟨pI,hns⟩,ajl⟩,sJ⟩:=h
  have aia:∀j,gS an i j=true→j∈seen:=fun j hj=>by
   have:=List.all_eq_true.1 ajl j (by simpa [gS] using hj)
   simpa using this
  by_cases he:kI E ((ops.getD i default).op)=true
  · simp only[he,if_true,Bool.and_eq_true,beq_iff_eq] at sJ
    obtain ⟨h1,h2,h3⟩:=lE sJ.2
    refine ⟨fun p j hp=>?_,fun j hj=>?_,?_⟩
    · cases p with
      | zero=>simp at hp;subst hp;exact ⟨pI,hns,by simp,fun j hj=> .inl (aia j hj),fun _=>by simpa [vP] using sJ.1,fun hf=>by rw[he] at hf;simp at hf⟩
      | succ p=>
       obtain ⟨a1,a2,a3,a4,a5,a6⟩:=h1 p j (by simpa using hp)
       have hc:k+vP E ops (List.take (p+1) (i::l))=k+1+vP E ops (l.take p):=by rw[List.take_succ_cons,NX _ he];omega
       simp only[List.mem_cons,not_or] at a2
       refine ⟨a1,a2.2,by simp;exact ⟨a2.1,a3⟩,fun m hm=>?_,by rw[hc];exact a5,by rw[hc];exact a6⟩
       rcases a4 m hm with h4 | h4
       · simp at h4;rcases h4 with rfl | h4
         · exact .inr (by simp)
         · exact .inl h4
       · exact .inr (by simp [h4])
    · rcases h2 j hj with h4 | h4
      · simp at h4;rcases h4 with rfl | h4
        · exact .inr (by simp)
        · exact .inl h4
      · exact .inr (by simp [h4])
    · rw[NX _ he];omega
  · simp only[he,Bool.false_eq_true,if_false,Bool.and_eq_true,beq_iff_eq] at sJ
    obtain ⟨h1,h2,h3⟩:=lE sJ.2
    refine ⟨fun p j hp=>?_,fun j hj=>?_,?_⟩
    · cases p with
      | zero=>simp at hp;subst hp;exact ⟨pI,hns,by simp,fun j hj=> .inl (aia j hj),fun hf=>absurd hf he,fun _=>by simpa [vP] using sJ.1⟩
      | succ p=>
       obtain ⟨a1,a2,a3,a4,a5,a6⟩:=h1 p j (by simpa using hp)
       have hc:k+vP E ops (List.take (p+1) (i::l))=k+vP E ops (l.take p):=by rw[List.take_succ_cons,NY _ he]
       simp only[List.mem_cons,not_or] at a2
       refine ⟨a1,a2.2,by simp;exact ⟨a2.1,a3⟩,fun m hm=>?_,by rw[hc];exact a5,by rw[hc];exact a6⟩
       rcases a4 m hm with h4 | h4
       · simp at h4;rcases h4 with rfl | h4
         · exact .inr (by simp)
         · exact .inl h4
       · exact .inr (by simp [h4])
    · rcases h2 j hj with h4 | h4
      · simp at h4;rcases h4 with rfl | h4
        · exact .inr (by simp)
        · exact .inl h4
      · exact .inr (by simp [h4])
    · rw[NY _ he];exact h3
def j7 (ops:Array Oper) (i:Nat):Option Tmp:=(ops[i]?).bind (·.dst)
def NZ (ops:Array Oper) (ts:List AV) (l:List Step):List AV:=l.foldl (fun ts x=>gR ts (j7 ops x.i) x.v) ts
def tw (ops:Array Oper) (val:Nat→AV) (ts:List AV) (l:List Nat):List AV:=l.foldl (fun ts i=>gR ts (j7 ops i) (val i)) ts
structure Grown (a b:az):Prop where
 nx:a.nx≤b.nx
 old:∀i,i<a.nx→b.get i=a.get i
theorem Grown.refl (a:az):Grown a a:=⟨Nat.le_refl _,fun _ _=>rfl⟩
theorem Grown.trans {a b c:az} (x:Grown a b) (y:Grown b c):Grown a c:=⟨Nat.le_trans x.nx y.nx,fun i hi=>(y.old i (Nat.lt_of_lt_of_le hi x.nx)).trans (x.old i hi)⟩
theorem Grown.new {a b:az} {o:aN} (h:a.new o=some b):Grown a b:=by
 obtain ⟨h1,h2,h3,h4⟩:=az.oW h
 exact ⟨by omega,fun i hi=>h4 i (by omega)⟩
theorem OK.grown {φ:Ph} {a b:az} {w:World} (g:Grown a b) (ok:OK E φ a w):OK E φ b w∧Fr φ a w φ b w:=by
 have hold:∀i l,φ i=some l→b.get i=a.get i:=fun i l hl=>g.old i (ok.EF i l hl)
 refine ⟨⟨fun i l hl=>Nat.lt_of_lt_of_le (ok.EF i l hl) g.nx,Nat.le_trans ok.nx g.nx,ok.yh,fun i o l hi hl=>ok.live i o l (hold i l hl▸hi) hl,
  fun i j o p l m hi hj hl hm hw hb=>ok.inj i j o p l m (hold i l hl▸hi) (hold j m hm▸hj) hl hm hw hb⟩,
  ⟨Ph.le_refl φ,fun _ _=>rfl,g.nx,rfl,rfl,rfl,Nat.le_refl _,fun _ _ _=>rfl,fun i o l hi hr hl=> .inr ⟨i,o,l,hold i l hl▸hi,hr,hl,rfl⟩⟩⟩
def Cy (E:Env) (call:b8) (ops:Array Oper) (rc:RC) (x:Step) (o:Oper) (hk:az) (sk:az) (aib:Option az):Prop:=
 match x.kind with
 | .off=>fA ops x.ts o=false∧x.v=AV.undef∧(kI E o.op=true→aib=some hk)
 | .pur=>kI E o.op=false∧fA ops x.ts o=true∧dY E x.ts o.op=some x.v
 | .red=>kI E o.op=false∧fA ops x.ts o=true
 | .V8 n obj=>kI E o.op=false∧fA ops x.ts o=true∧(∃mk,jt E x.ts o.op=some (obj,mk)∧x.v=mk n)∧sk.nx≤n∧n<hk.nx
 | .V9 h'=>kI E o.op=true∧fA ops x.ts o=true∧j4 E call x.ts hk rc o= .val x.v h'∧aib=some h'
structure afH (E:Env) (call:b8) (ops:Array Oper) (s:St) (k:Nat) (order:List Nat) (tr:List Step) (hs st:List az) (s':St):Prop where
 is:tr.map (·.i)=order
 ts:s'.ts=NZ ops s.ts tr
 ds:s'.ds=s.ds
 rc:s'.rc=s.rc
 len:hs.length=vP E ops order+1
 ajm:st.length=hs.length
 first:st[0]? =some s.h
 last:hs[vP E ops order]? =some s'.h
 grown:∀(j:Nat) (a b:az),st[j]? =some a→hs[j]? =some b→Grown a b
 step:∀(p:Nat) (x:Step),tr[p]? =some x→x.ts=NZ ops s.ts (tr.take p)∧x.k=k+vP E ops (order.take p)∧
  ∃o hk sk,ops[x.i]? =some o∧hs[vP E ops (order.take p)]? =some hk∧st[vP E ops (order.take p)]? =some sk∧Cy E call ops s.rc x o hk sk (st[vP E ops (order.take p)+1]?)
theorem zJ (ops:Array Oper) (ts:List AV) (x:Step) (l:List Step):NZ ops ts (x::l)=NZ ops (gR ts (j7 ops x.i) x.v) l:=rfl
theorem sP {call:b8} {ops:Array Oper}:∀{order:List Nat} {k:Nat} {s:St} {tr:List Step} {hs:List az} {s':St} (_:fY E call ops order k s= .ok tr hs s'),
 ∃st,afH E call ops s k order tr hs st s'
 | [],k,s,tr,hs,s',h=>by
  simp [fY] at h;obtain ⟨rfl,rfl,rfl⟩:=h
  exact ⟨[s.h],rfl,rfl,rfl,rfl,rfl,rfl,rfl,rfl,fun j a b ha hb=>by
   cases j with
   | zero=>simp at ha hb;subst ha;subst hb;exact Grown.refl _
   | succ j=>simp at ha,fun p x hp=>by simp at hp⟩
 | i::rest,k,s,tr,hs,s',h=>by
  simp only[fY] at h
  cases ho:ops[i]? with
  | none=>rw[ho] at h;simp at h
  | some o=>
  rw[ho] at h
  simp only at h
  have hgd:ops.getD i default=o:=by simp [Array.getD_eq_getD_getElem?,ho]
  have afI:j7 ops i=o.dst:=by simp [j7,ho]
  have writes:∀(x:Step) (s1:St),x.i=i→x.k=k→x.ts=s.ts→s1.ts=gR s.ts o.dst x.v→s1.ds=s.ds→s1.rc=s.rc→kI E o.op=true→
   Cy E call ops s.rc x o s.h s.h (some s1.h)→((fY E call ops rest (k+1) s1).bound s.h).step x= .ok tr hs s'→∃st,afH E call ops s k (i::rest) tr hs st s':=by
   intro x s1 Yo N1 hxt h1 h2 h3 he lN hd
   cases hr:fY E call ops rest (k+1) s1 with
   | fail yd q=>rw[hr] at hd;simp [rV.bound,rV.step] at hd
   | ok tr1 Ax s2=>
    rw[hr] at hd;simp [rV.bound,rV.step] at hd;obtain ⟨rfl,rfl,rfl⟩:=hd
    obtain ⟨st1,t⟩:=sP hr
    have hc:∀l,vP E ops (i::l)=vP E ops l+1:=fun l=>NX l (by rw[hgd];exact he)
    refine ⟨s.h::st1,by simp [Yo,t.is],?_,t.ds.trans h2,t.rc.trans h3,by simp [t.len,hc],by simp [t.ajm],rfl,by rw[hc];simpa using t.last,fun j a b ha hb=>?_,fun p y hp=>?_⟩
    · rw[zJ,Yo,afI,←h1];exact t.ts
    · cases j with
      | zero=>simp at ha hb;subst ha;subst hb;exact Grown.refl _
      | succ j=>exact t.grown j a b (by simpa using ha) (by simpa using hb)
    · cases p with
      | zero=>
       simp at hp;subst hp
       refine ⟨by simp [NZ,hxt],by simp [vP,N1],o,s.h,s.h,by rw[Yo];exact ho,by simp [vP],by simp [vP],?_⟩
       have:(s.h::st1)[vP E ops (List.take 0 (i::rest))+1]? =some s1.h:=by simp [vP];exact t.first
       rw[this];exact lN
      | succ p=>
       obtain ⟨a1,a2,o2,hk,sk,a3,a4,a5,a6⟩:=t.step p y (by simpa using hp)
       refine ⟨?_,by rw[List.take_succ_cons,hc];omega,o2,hk,sk,a3,by rw[List.take_succ_cons,hc];simpa using a4,by rw[List.take_succ_cons,hc];simpa using a5,?_⟩
       · rw[List.take_succ_cons,zJ,Yo,afI,←h1];exact a1
       · rw[List.take_succ_cons,hc,h3] at *
         simpa using a6
  have plain:∀(x:Step) (s1:St),x.i=i→x.k=k→x.ts=s.ts→s1.ts=gR s.ts o.dst x.v→s1.ds=s.ds→s1.rc=s.rc→kI E o.op=false→Grown s.h s1.h→
   (∀hk sn,Grown s1.h hk→Cy E call ops s.rc x o hk s.h sn)→(fY E call ops rest k s1).step x= .ok tr hs s'→∃st,afH E call ops s k (i::rest) tr hs st s':=by
   intro x s1 Yo N1 hxt h1 h2 h3 he hg lN hd
   cases hr:fY E call ops rest k s1 with
   | fail yd q=>rw[hr] at hd;simp [rV.step] at hd
   | ok tr1 Ax s2=>
    rw[hr] at hd;simp [rV.step] at hd;obtain ⟨rfl,rfl,rfl⟩:=hd
    obtain ⟨st1,t⟩:=sP hr
    have hc:∀l,vP E ops (i::l)=vP E ops l:=fun l=>NY l (by rw[hgd];simp [he])
    cases Ah:st1 with
    | nil=>have:=t.first;rw[Ah] at this;simp at this
    | cons s0 st2=>
    have TF:s0=s1.h:=by have:=t.first;rw[Ah] at this;simpa using this
    subst TF
    have jU:∀j,(s.h::st2)[j+1]? =st1[j+1]? :=fun j=>by rw[Ah];rfl
    refine ⟨s.h::st2,by simp [Yo,t.is],?_,t.ds.trans h2,t.rc.trans h3,by rw[hc];exact t.len,by have:=t.ajm;rw[Ah] at this;simpa using this,rfl,by rw[hc];exact t.last,fun j a b ha hb=>?_,fun p y hp=>?_⟩
    · rw[zJ,Yo,afI,←h1];exact t.ts
    · cases j with
      | zero=>
       simp at ha;subst ha
       exact hg.trans (t.grown 0 _ b t.first hb)
      | succ j=>rw[jU] at ha;exact t.grown (j+1) a b ha hb
    · cases p with
      | zero=>
       simp at hp;subst hp
       have h0:∃hk,Ax[0]? =some hk:=by
        have:=t.len
        cases hh:Ax with
        | nil=>rw[hh] at this;simp at this
        | cons a _=>exact ⟨a,rfl⟩
       obtain ⟨hk,Gg⟩:=h0
       refine ⟨by simp [NZ,hxt],by simp [vP,N1],o,hk,s.h,by rw[Yo];exact ho,by simpa [vP] using Gg,by simp [vP],?_⟩
       exact lN hk _ (t.grown 0 _ hk t.first Gg)
      | succ p=>
       obtain ⟨a1,a2,o2,hk,sk,a3,a4,a5,a6⟩:=t.step p y (by simpa using hp)
       have hsk:∃sk',(s.h::st2)[vP E ops (List.take p rest)]? =some sk'∧sk'.nx≤sk.nx:=by
        cases hq:vP E ops (List.take p rest) with
        | zero=>rw[hq] at a5;rw[t.first] at a5;simp at a5;subst a5;exact ⟨s.h,rfl,hg.nx⟩
        | succ q=>rw[hq] at a5;exact ⟨sk,by rw[jU];exact a5,Nat.le_refl _⟩
       obtain ⟨sk',aq2,aq3⟩:=hsk
       refine ⟨?_,by rw[List.take_succ_cons,hc];exact a2,o2,hk,sk',a3,by rw[List.take_succ_cons,hc];exact a4,by rw[List.take_succ_cons,hc];exact aq2,?_⟩
       · rw[List.take_succ_cons,zJ,Yo,afI,←h1];exact a1
       · rw[List.take_succ_cons,hc,jU,←h3]
         unfold Cy at a6 ⊢
         split<;>rename_i Cz<;>rw[Cz] at a6
         · exact a6
         · exact a6
         · exact a6
         · exact ⟨a6.1,a6.2.1,a6.2.2.1,Nat.le_trans aq3 a6.2.2.2.1,a6.2.2.2.2⟩
         · exact a6
  split at h
  · rename_i he
    split at h
    · rename_i hw
      split at h
      · rename_i v h' yq
        exact writes ⟨i,k,s.ts,v,.V9 h'⟩ {s with ts:=gR s.ts o.dst v,h:=h'} rfl rfl rfl rfl rfl rfl he ⟨he,hw,yq,rfl⟩ h
      · simp at h
      · simp at h
    · rename_i hw
      exact writes ⟨i,k,s.ts,AV.undef,.off⟩ {s with ts:=gR s.ts o.dst AV.undef} rfl rfl rfl rfl rfl rfl he ⟨by simpa using hw,rfl,fun _=>rfl⟩ h
  · rename_i he
    have Tc:kI E o.op=false:=by simpa using he
    split at h
    · rename_i hw
      split at h
      · rename_i v hp
        exact plain ⟨i,k,s.ts,v,.pur⟩ {s with ts:=gR s.ts o.dst v} rfl rfl rfl rfl rfl rfl Tc (Grown.refl _) (fun hk sn _=>⟨Tc,hw,hp⟩) h
      · split at h
        · rename_i v hp
          exact plain ⟨i,k,s.ts,v,.red⟩ {s with ts:=gR s.ts o.dst v} rfl rfl rfl rfl rfl rfl Tc (Grown.refl _) (fun hk sn _=>⟨Tc,hw⟩) h
        · split at h
          · rename_i obj mk hp
            split at h
            · rename_i h' hn
              refine plain ⟨i,k,s.ts,mk s.h.nx,.V8 s.h.nx obj⟩ {s with ts:=gR s.ts o.dst (mk s.h.nx),h:=h'} rfl rfl rfl rfl rfl rfl Tc (Grown.new hn) (fun hk sn g=>⟨Tc,hw,⟨mk,hp,rfl⟩,Nat.le_refl _,?_⟩) h
              have:=(az.oW hn).2.1
              have:=g.nx
              simp at this;omega
            · simp at h
          · simp at h
    · rename_i hw
      exact plain ⟨i,k,s.ts,AV.undef,.off⟩ {s with ts:=gR s.ts o.dst AV.undef} rfl rfl rfl rfl rfl rfl Tc (Grown.refl _) (fun hk sn _=>⟨by simpa using hw,rfl,fun h=>by rw[Tc] at h;simp at h⟩) h
end Go.Ab
end
section
namespace Go.Ab
variable {E:Env}
theorem zK (ops:Array Oper) (val:Nat→AV) (x:Nat):∀(l:List Nat) (ts:List AV) (_:∀j∈l,j7 ops j≠some x),(tw ops val ts l)[x]? =ts[x]?
 | [],_,_=>rfl
 | i::l,ts,h=>by
  show (tw ops val (gR ts (j7 ops i) (val i)) l)[x]? =_
  rw[zK ops val x l _ (fun j hj=>h j (by simp [hj]))]
  have:=h i (by simp)
  cases hd:j7 ops i with
  | none=>rfl
  | some d=>
   rw[hd] at this
   have gX:d≠x:=fun e=>this (by rw[e])
   simp [gR,List.getElem?_set_ne gX]
theorem IB (ops:Array Oper) (val:Nat→AV) (x j:Nat) (hj:j7 ops j=some x):∀(l:List Nat) (ts:List AV) (_:j∈l) (_:∀j'∈l,j7 ops j'=some x→j'=j),(tw ops val ts l)[x]? =if x<ts.length then some (val j) else none
 | i::l,ts,hm,hu=>by
  show (tw ops val (gR ts (j7 ops i) (val i)) l)[x]? =_
  have hlen:(gR ts (j7 ops i) (val i)).length=ts.length:=by cases j7 ops i<;>simp [gR]
  by_cases hjl:j∈l
  · rw[IB ops val x j hj l _ hjl (fun j' h=>hu j' (by simp [h])),hlen]
  · have hij:i=j:=by simp at hm;rcases hm with h | h;exact h.symm;exact absurd h hjl
    subst hij
    rw[zK ops val x l _ (fun j' tu e=>hjl (hu j' (by simp [tu]) e▸tu))]
    rw[hj]
    simp [gR,List.getElem?_set]
theorem Be {ops:Array Oper} {val:Nat→AV} {x:Nat} {l d:List Nat} (ts:List AV) (hu:∀j j',j7 ops j=some x→j7 ops j'=some x→j=j') (aic:∀j,j7 ops j=some x→(j∈l↔j∈d)):
 (tw ops val ts l)[x]? =(tw ops val ts d)[x]? :=by
 by_cases h:∃j,j7 ops j=some x∧j∈l
 · obtain ⟨j,hj,hl⟩:=h
   rw[IB ops val x j hj l ts hl (fun j' _ e=>hu j' j e hj),IB ops val x j hj d ts ((aic j hj).1 hl) (fun j' _ e=>hu j' j e hj)]
 · rw[zK ops val x l ts (fun j hj e=>h ⟨j,e,hj⟩),zK ops val x d ts (fun j hj e=>h ⟨j,e,(aic j e).2 hj⟩)]
theorem EO {l r:List AV} {x:Nat} (h:l[x]? =r[x]?) (d:AV):l.getD x d=r.getD x d:=by simp [List.getD,h]
def valOf (tr:List Step) (i:Nat):AV:=((tr.find? (fun x=>x.i==i)).map (·.v)).getD AV.undef
theorem QJ {tr:List Step} (hn:(tr.map (·.i)).Nodup) {p:Nat} {x:Step} (hp:tr[p]? =some x):valOf tr x.i=x.v:=by
 unfold valOf
 have:tr.find? (fun y=>y.i==x.i)=some x:=by
  rw[List.find?_eq_some_iff_getElem]
  obtain ⟨pI,hx⟩:=List.getElem?_eq_some_iff.1 hp
  refine ⟨by simp,p,pI,hx,fun j hj=>?_⟩
  have hjl:j<tr.length:=by omega
  simp only[Bool.not_eq_true',beq_eq_false_iff_ne]
  intro e
  have h1:(tr.map (·.i))[j]? =some x.i:=by simp [hjl,e]
  have h2:(tr.map (·.i))[p]? =some x.i:=by simp [pI,hx]
  have:=(List.getElem?_inj (by simpa using hjl) hn).1 (h1.trans h2.symm)
  omega
 rw[this];rfl
theorem N2 (ops:Array Oper) {tr:List Step} (hn:(tr.map (·.i)).Nodup) (ts:List AV) (p:Nat):NZ ops ts (tr.take p)=tw ops (valOf tr) ts ((tr.map (·.i)).take p):=by
 have key:∀(l:List Step) (ts:List AV),(∀x∈l,valOf tr x.i=x.v)→NZ ops ts l=tw ops (valOf tr) ts (l.map (·.i)):=by
  intro l
  induction l with
  | nil=>intro ts _;rfl
  | cons x l ih=>
   intro ts h
   show NZ ops (gR ts (j7 ops x.i) x.v) l=tw ops (valOf tr) (gR ts (j7 ops x.i) (valOf tr x.i)) (l.map (·.i))
   rw[h x (by simp),ih _ (fun y hy=>h y (by simp [hy]))]
 rw[key _ _ (fun x hx=>?_),List.map_take]
 obtain ⟨q,hq⟩:=List.getElem?_of_mem (List.mem_of_mem_take hx)
 exact QJ hn hq
theorem OK.place {φ:Ph} {h:az} {w:World} (ok:OK E φ h w) {n:Nat} {obj:aN} (hg:h.get n=some obj) (K5:φ n=none) (pI:n<h.nx) {O:Obj}
 (ho:OR E (φ.add n ⟨w.heap.size,0,0⟩) obj ⟨w.heap.size,0,0⟩ (some O)):OK E (φ.add n ⟨w.heap.size,0,0⟩) h (w.alloc O)∧φ.le (φ.add n ⟨w.heap.size,0,0⟩):=by
 have hle:φ.le (φ.add n ⟨w.heap.size,0,0⟩):=fun j m hm=>by
  unfold Ph.add;split
  · rename_i e;subst e;rw[K5] at hm;simp at hm
  · exact hm
 have ny:∀j,j≠n→(φ.add n ⟨w.heap.size,0,0⟩) j=φ j:=fun j hj=>by simp [Ph.add,hj]
 have j6:(φ.add n ⟨w.heap.size,0,0⟩) n=some ⟨w.heap.size,0,0⟩:=by simp [Ph.add]
 have aid:(w.alloc O).heap=w.heap.push O:=rfl
 have hblk:∀j p m,h.get j=some p→φ j=some m→m.fB<w.heap.size:=fun j p m hj hm=>by
  have HJ:=ok.live j p m hj hm
  rcases Nat.lt_or_ge m.fB w.heap.size with a | a
  · exact a
  · exfalso
    rw[Array.getElem?_eq_none a] at HJ
    exact HJ.absurd
 refine ⟨⟨fun j m hm=>?_,ok.nx,fun g hg=>hle _ _ (ok.yh g hg),fun j p m hj hm=>?_,fun j k p q m r hj hk hm hr hw hb=>?_⟩,hle⟩
 · by_cases e:j=n
   · omega
   · rw[ny j e] at hm;exact ok.EF j m hm
 · by_cases e:j=n
   · subst e;rw[j6] at hm;simp at hm;subst hm;rw[hg] at hj;simp at hj;subst hj;rw[aid];simpa using ho
   · rw[ny j e] at hm
     have hb:=hblk j p m hj hm
     rw[aid,Array.getElem?_push,if_neg (by omega)]
     exact (ok.live j p m hj hm).mono hle
 · by_cases e:j=n<;>by_cases e':k=n
   · rw[e,e']
   · subst e;rw[j6] at hm;simp at hm;subst hm;rw[ny k e'] at hr;have:=hblk k q r hk hr;simp at hb;omega
   · subst e';rw[j6] at hr;simp at hr;subst hr;rw[ny j e] at hm;have:=hblk j p m hj hm;simp at hb;omega
   · rw[ny j e] at hm;rw[ny k e'] at hr;exact ok.inj j k p q m r hj hk hm hr hw hb
theorem Fr.place {φ₀ φ:Ph} {h₀ h:az} {w₀ w:World} (f:Fr φ₀ h₀ w₀ φ h w) {n:Nat} (hn:h₀.nx≤n) (K5:φ n=none) (O:Obj):Fr φ₀ h₀ w₀ (φ.add n ⟨w.heap.size,0,0⟩) h (w.alloc O):=by
 have ny:∀j,j≠n→(φ.add n ⟨w.heap.size,0,0⟩) j=φ j:=fun j hj=>by simp [Ph.add,hj]
 have j6:(φ.add n ⟨w.heap.size,0,0⟩) n=some ⟨w.heap.size,0,0⟩:=by simp [Ph.add]
 refine ⟨fun j m hm=>?_,fun i hi=>by rw[ny i (by omega)];exact f.old i hi,f.nx,f.os,f.tape,f.output,by have:=f.size;simp;omega,fun b hb hn'=>?_,fun i o l hi hr hl=>?_⟩
 · by_cases e:j=n
   · subst e;have:=f.ext j m hm;rw[K5] at this;simp at this
   · rw[ny j e];exact f.ext j m hm
 · have:=f.size
   rw[show (w.alloc O).heap=w.heap.push O from rfl,Array.getElem?_push,if_neg (by omega)]
   exact f.G7 b hb hn'
 · by_cases e:i=n
   · subst e;rw[j6] at hl;simp at hl;subst hl;exact .inl f.size
   · rw[ny i e] at hl;exact f.own i o l hi hr hl
theorem filter_le {P:Nat→Bool} {l:List Nat} {K:Nat} (h:∀q e,l[q]? =some e→P e=true→q<K):(l.filter P).length≤K:=by
 have h1:(l.drop K).filter P=[]:=by
  rw[List.filter_eq_nil_iff]
  intro e he hP
  obtain ⟨q,hq⟩:=List.getElem?_of_mem he
  rw[List.getElem?_drop] at hq
  have:=h _ e hq hP
  omega
 calc (l.filter P).length=((l.take K++l.drop K).filter P).length:=by rw[List.take_append_drop]
  _=((l.take K).filter P).length:=by rw[List.filter_append,h1,List.append_nil]
  _≤(l.take K).length:=List.length_filter_le _ _
  _≤K:=by simp;omega
theorem CA {P:Nat→Bool}:∀{l:List Nat} {e:Nat} (_:l[(l.takeWhile P).length]? =some e),P e=false
 | [],e,h=>by simp at h
 | x::l,e,h=>by
  by_cases hx:P x=true
  · rw[List.takeWhile_cons_of_pos hx] at h
    exact CA (l:=l) (by simpa using h)
  · rw[List.takeWhile_cons_of_neg hx] at h
    simp at h;subst h;simpa using hx
end Go.Ab
end
section
namespace Go.Ab
variable {E:Env}
structure N3 (E:Env) (call:b8) (ops:Array Oper) (pl:G6) (s s':St) (tr:List Step) (hs st:List az):Prop where
 xQ:IA E ops pl
 trace:afH E call ops s 0 pl.order tr hs st s'
 still:∀x∈tr,∀K hk,x.k≤K→K≤vT pl.ez pl.an x.i→hs[K]? =some hk→vV E ops x hk=true
 ids:∀(x y:Step),x∈tr→y∈tr→∀(n:Nat) (o q:aN),x.kind= .V8 n o→y.kind= .V8 n q→x.i=y.i
structure Inv (E:Env) (ops:Array Oper) (pl:G6) (s:St) (tr:List Step) (hs st:List az) (φ₀:Ph) (w₀:World) (Cf:List Deferred) (d:List Nat) (cu:Array Bool) (K:Nat) (φ:Ph) (a:Act) (w:World):Prop where
 nd:d.Nodup
 lt:∀i∈d,i<ops.size
 cu:∀i,i<ops.size→cu[i]? =some (decide (i∈d))
 closed:∀i∈d,∀j,gS pl.an i j=true→j∈d
 ez:∀q e,pl.ez[q]? =some e→(e∈d↔q<K)
 Kle:K≤pl.ez.length
 ts:LR φ (tw ops (valOf tr) s.ts d) a.tmps.toList
 ds:a.defers=Cf
 ok:∃hK,hs[K]? =some hK∧OK E φ hK w∧Fr φ₀ s.h w₀ φ hK w
 mJ:∀x∈tr,∀n obj,x.kind= .V8 n obj→x.i ∉ d→x.k≤K→φ n=none∧s.h.nx≤n∧∀hK,hs[K]? =some hK→n<hK.nx
section
variable {call:b8} {ops:Array Oper} {pl:G6} {s s':St} {tr:List Step} {hs st:List az}
theorem N3.at (r:N3 E call ops pl s s' tr hs st) {p:Nat} {x:Step} (hp:tr[p]? =some x):
 pl.order[p]? =some x.i∧x.i ∉ pl.order.take p∧(∀j,gS pl.an x.i j=true→j∈pl.order.take p)∧x.k=vP E ops (pl.order.take p)∧
 ∃o,ops[x.i]? =some o∧(kI E o.op=true→pl.ez[x.k]? =some x.i)∧(kI E o.op=false→aaz pl.ez pl.an x.i=x.k):=by
 have h1:pl.order[p]? =some x.i:=by rw[←r.trace.is,List.getElem?_map,hp];rfl
 obtain ⟨h2,_,_⟩:=lE r.xQ.order
 obtain ⟨a1,a2,a3,a4,a5,a6⟩:=h2 p x.i h1
 obtain ⟨b1,b2,o,hk,sk,b3,_⟩:=r.trace.step p x hp
 have hgd:ops.getD x.i default=o:=by simp [Array.getD_eq_getD_getElem?,b3]
 rw[hgd] at a5 a6
 have La:x.k=vP E ops (pl.order.take p):=by omega
 refine ⟨h1,a3,fun j hj=>(a4 j hj).resolve_left (by simp),La,o,b3,fun he=>?_,fun he=>?_⟩
 · have:=a5 he;rw[La];simpa using this
 · have:=a6 he;omega
theorem Az:∀{l:List Nat} (_:∀(p i:Nat),l[p]? =some i→i ∉ l.take p),l.Nodup
 | [],_=> .nil
 | x::l,h=>by
  refine List.nodup_cons.2 ⟨fun hm=>?_,Az (fun p i hp hi=>h (p+1) i (by simpa using hp) (by simp [hi]))⟩
  obtain ⟨q,hq⟩:=List.getElem?_of_mem hm
  exact h (q+1) x (by simpa using hq) (by simp)
theorem N3.nodup (r:N3 E call ops pl s s' tr hs st):pl.order.Nodup:=by
 obtain ⟨h2,_,_⟩:=lE r.xQ.order
 exact Az (fun p i hp=>(h2 p i hp).2.2.1)
theorem N3.all (r:N3 E call ops pl s s' tr hs st) {i:Nat} (hi:i<ops.size):∃(p:Nat) (x:Step),tr[p]? =some x∧x.i=i:=by
 obtain ⟨_,h3,_⟩:=lE r.xQ.order
 have:=(h3 i hi).resolve_left (by simp)
 rw[←r.trace.is] at this
 obtain ⟨x,hx,rfl⟩:=List.mem_map.1 this
 obtain ⟨p,hp⟩:=List.getElem?_of_mem hx
 exact ⟨p,x,hp,rfl⟩
theorem CB {ops:Array Oper} {pl:G6} (pok:IA E ops pl) {x j j':Nat} (h:j7 ops j=some x) (h':j7 ops j'=some x):j=j':=by
 unfold j7 at h h'
 cases ho:ops[j]? with
 | none=>rw[ho] at h;simp at h
 | some o=>
 cases QK:ops[j']? with
 | none=>rw[QK] at h';simp at h'
 | some o'=>
 rw[ho] at h;rw[QK] at h'
 simp at h h'
 rcases Nat.decEq j j' with gX | he
 · exact absurd h (pok.slot j j' o o' x gX ho QK h').1
 · exact he
theorem agree (r:N3 E call ops pl s s' tr hs st) {p:Nat} {x:Step} {o:Oper} (hp:tr[p]? =some x) (ho:ops[x.i]? =some o) {d:List Nat} (hd:x.i ∉ d) (hcl:∀i∈d,∀j,gS pl.an i j=true→j∈d)
 (wb:∀j,gS pl.an x.i j=true→j∈d):Mh E x.ts (tw ops (valOf tr) s.ts d) o.op∧fA ops (tw ops (valOf tr) s.ts d) o=fA ops x.ts o:=by
 obtain ⟨h1,h2,h3,_,_⟩:=r.at hp
 have tv:(tr.map (·.i)).Nodup:=by rw[r.trace.is];exact r.nodup
 have hts:x.ts=tw ops (valOf tr) s.ts (pl.order.take p):=by
  rw[(r.trace.step p x hp).1,N2 ops tv,r.trace.is]
 have hpc:∀j∈pl.order.take p,∀m,gS pl.an j m=true→m∈pl.order.take p:=by
  intro j hj m hm
  obtain ⟨q,hq⟩:=List.getElem?_of_mem hj
  have hqp:q<p:=by
   have:=(List.getElem?_eq_some_iff.1 hq).1
   simp at this;omega
  have hq':pl.order[q]? =some j:=by rw[List.getElem?_take] at hq;rw[if_pos hqp] at hq;exact hq
  obtain ⟨f1,_,_⟩:=lE r.xQ.order
  have:=((f1 q j hq').2.2.2.1 m hm).resolve_left (by simp)
  exact List.mem_of_mem_take (i:=q) (l:=pl.order.take p) (by rw[List.take_take,Nat.min_eq_left (Nat.le_of_lt hqp)];exact this)
 have same:∀t,(∀j p',j≠x.i→ops[j]? =some p'→p'.dst=some t→gS pl.an x.i j=true∨gS pl.an j x.i=true)→(tw ops (valOf tr) s.ts (pl.order.take p))[t]? =(tw ops (valOf tr) s.ts d)[t]? :=by
  intro t ht
  refine Be s.ts (fun j j' a b=>CB r.xQ a b) (fun j hj=>?_)
  by_cases hji:j=x.i
  · subst hji;exact ⟨fun h=>absurd h h2,fun h=>absurd h hd⟩
  · obtain ⟨p',hp',Yp⟩:∃p',ops[j]? =some p'∧p'.dst=some t:=by
     unfold j7 at hj
     cases hoj:ops[j]? with
     | none=>rw[hoj] at hj;simp at hj
     | some p'=>rw[hoj] at hj;exact ⟨p',rfl,by simpa using hj⟩
    rcases ht j p' hji hp' Yp with h | h
    · exact ⟨fun _=>wb j h,fun _=>h3 j h⟩
    · exact ⟨fun hm=>absurd (hpc j hm _ h) h2,fun hm=>absurd (hcl j hm _ h) hd⟩
 rw[hts]
 refine ⟨fun y hy=>?_,?_⟩
 · cases y with
   | tmp t=>
    have ht:t∈tmpsOf o:=by
     unfold tmpsOf;rw[List.mem_filterMap];exact ⟨.tmp t,by simpa using hy,rfl⟩
    simp only[gn]
    rw[EO (same t (fun j p' gX hp' Yp=>(r.xQ.slot x.i j o p' t (Ne.symm gX) ho hp' Yp).2 ht))]
   | const c=>rfl
   | global g=>rfl
   | func f=>rfl
 · unfold fA
   cases hg:o.guard with
   | none=>rfl
   | some gw=>
    obtain ⟨g,want⟩:=gw
    simp only
    cases hdg:(ops[g]?).bind (·.dst) with
    | none=>rfl
    | some t=>
     simp only
     have ajl:=r.xQ.guard x.i o g want ho hg
     rw[same t (fun j p' gX hp' Yp=>by
      have:j=g:=CB r.xQ (x:=t) (by unfold j7;rw[hp'];simpa using Yp) hdg
      subst this;exact .inl ajl)]
end
end Go.Ab
end
section
namespace Go.Ab
variable {E:Env}
section
variable {call:b8} {ops:Array Oper} {pl:G6} {s s':St} {tr:List Step} {hs st:List az}
theorem Mj {l:List Oper} {i:Nat}:i∈Nx E l↔∃o,l[i]? =some o∧kI E o.op=true:=by
 unfold Nx
 simp only[List.mem_map,List.mem_filter,Prod.exists]
 constructor
 · rintro ⟨o,j,⟨h1,h2⟩,rfl⟩
   exact ⟨o,by rw[List.mk_mem_zipIdx_iff_getElem?] at h1;exact h1,h2⟩
 · rintro ⟨o,h1,h2⟩
   exact ⟨o,i,⟨by rw[List.mk_mem_zipIdx_iff_getElem?];exact h1,h2⟩,rfl⟩
theorem IA.afJ (pok:IA E ops pl) {i:Nat} {o:Oper} (ho:ops[i]? =some o):i∈pl.ez↔kI E o.op=true:=by
 rw[pok.ez,Mj]
 constructor
 · rintro ⟨o',h1,h2⟩
   have:ops.toList[i]? =some o:=by simpa using ho
   rw[this] at h1;simp at h1;subst h1;exact h2
 · intro h;exact ⟨o,by simpa using ho,h⟩
theorem Inv.IC {φ₀ φ:Ph} {w₀ w:World} {Cf:List Deferred} {d:List Nat} {cu:Array Bool} {K:Nat} {a:Act} (r:N3 E call ops pl s s' tr hs st) (inv:Inv E ops pl s tr hs st φ₀ w₀ Cf d cu K φ a w)
 {x:Step} (hx:pl.ez[x.k]? =some x.i) (hd:x.i ∉ d) (wb:∀j,gS pl.an x.i j=true→j∈d):x.k=K:=by
 have h1:¬x.k<K:=fun h=>hd ((inv.ez x.k x.i hx).2 h)
 rcases Nat.lt_or_ge K x.k with h | h
 · exfalso
   obtain ⟨q,hq⟩:∃q,x.k=q+1:=⟨x.k - 1,by omega⟩
   have pI:q<pl.ez.length:=by have:=(List.getElem?_eq_some_iff.1 hx).1;omega
   have hq':pl.ez[q]? =some pl.ez[q]:=by simp [pI]
   have:=r.xQ.chain q _ x.i hq' (by rw[←hq];exact hx)
   have:=(inv.ez q _ hq').1 (wb _ this)
   omega
 · omega
theorem Inv.aaV {φ₀ φ:Ph} {w₀ w:World} {Cf:List Deferred} {d:List Nat} {cu:Array Bool} {K:Nat} {a:Act} (inv:Inv E ops pl s tr hs st φ₀ w₀ Cf d cu K φ a w)
 {i:Nat} (hd:i ∉ d) (wb:∀j,gS pl.an i j=true→j∈d):aaz pl.ez pl.an i≤K∧K≤vT pl.ez pl.an i:=by
 refine ⟨filter_le (fun q e hq he=>(inv.ez q e hq).1 (wb e he)),?_⟩
 rcases Nat.lt_or_ge (vT pl.ez pl.an i) K with h | h
 · exfalso
   have pI:vT pl.ez pl.an i<pl.ez.length:=by have:=inv.Kle;omega
   have hq:pl.ez[vT pl.ez pl.an i]? =some pl.ez[vT pl.ez pl.an i]:=by simp [pI]
   have h1:=CA (P:=fun e=> !gS pl.an e i) hq
   simp only[Bool.not_eq_false'] at h1
   exact hd (inv.closed _ ((inv.ez _ _ hq).2 h) i h1)
 · exact h
theorem Yq (ops:Array Oper) (val:Nat→AV) (ts:List AV) (d:List Nat) (i:Nat):tw ops val ts (d++[i])=gR (tw ops val ts d) (j7 ops i) (val i):=by
 simp [tw]
theorem Inv.snoc {φ₀ φ φ':Ph} {w₀ w w':World} {Cf:List Deferred} {d:List Nat} {cu:Array Bool} {K K':Nat} {a:Act} (r:N3 E call ops pl s s' tr hs st) (inv:Inv E ops pl s tr hs st φ₀ w₀ Cf d cu K φ a w)
 {p:Nat} {x:Step} {o:Oper} (hp:tr[p]? =some x) (ho:ops[x.i]? =some o) (hd:x.i ∉ d) (wb:∀j,gS pl.an x.i j=true→j∈d) (hle:φ.le φ') {v':Value} (hv:VR φ' x.v v')
 (hK:(kI E o.op=false∧K'=K)∨(kI E o.op=true∧x.k=K∧pl.ez[x.k]? =some x.i∧K'=K+1))
 (qk:∃hK,hs[K']? =some hK∧OK E φ' hK w'∧Fr φ₀ s.h w₀ φ' hK w')
 (am6:∀y∈tr,∀n obj,y.kind= .V8 n obj→y.i ∉ d→y.i≠x.i→y.k≤K'→φ' n=none∧s.h.nx≤n∧∀hK,hs[K']? =some hK→n<hK.nx):
 Inv E ops pl s tr hs st φ₀ w₀ Cf (d++[x.i]) (cu.setIfInBounds x.i true) K' φ' (a.put o.dst v') w':=by
 have tv:(tr.map (·.i)).Nodup:=by rw[r.trace.is];exact r.nodup
 have pI:x.i<ops.size:=(Array.getElem?_eq_some_iff.1 ho).1
 refine ⟨?_,fun i hi=>?_,fun i hi=>?_,fun i hi j hj=>?_,fun q e hq=>?_,?_,?_,by rw[put_defers];exact inv.ds,qk,fun y hy n obj EL hyd hyk=>?_⟩
 · rw[List.nodup_append];exact ⟨inv.nd,by simp,fun a ha b hb=>by simp at hb;subst hb;exact fun e=>hd (e▸ha)⟩
 · simp at hi;rcases hi with h | rfl
   · exact inv.lt i h
   · exact pI
 · have h1:=inv.cu i hi
   by_cases e:x.i=i
   · subst e
     have NA:x.i<cu.size:=(Array.getElem?_eq_some_iff.1 h1).1
     rw[Array.getElem?_setIfInBounds];simp [NA]
   · rw[Array.getElem?_setIfInBounds_ne e,h1]
     simp [show i≠x.i from fun h=>e h.symm]
 · simp at hi;rcases hi with h | rfl
   · exact List.mem_append_left _ (inv.closed i h j hj)
   · exact List.mem_append_left _ (wb j hj)
 · rcases hK with ⟨he,rfl⟩ | ⟨he,N1,hxe,rfl⟩
   · have gX:e≠x.i:=fun h=>by
      subst h
      have:=(r.xQ.afJ ho).1 (List.mem_of_getElem? hq)
      rw[he] at this;simp at this
     simp [gX,inv.ez q e hq]
   · have hqe:e=x.i↔q=K:=by
      constructor
      · intro h;subst h
        have:=(List.getElem?_inj (List.getElem?_eq_some_iff.1 hq).1 r.xQ.nd).1 (hq.trans hxe.symm)
        omega
      · intro h;subst h;rw[←N1,hxe] at hq;simpa using hq.symm
     simp only[List.mem_append,List.mem_singleton,inv.ez q e hq,hqe]
     omega
 · rcases hK with ⟨he,rfl⟩ | ⟨he,N1,hxe,rfl⟩
   · exact inv.Kle
   · have:=(List.getElem?_eq_some_iff.1 hxe).1;omega
 · rw[Yq,QJ tv hp]
   have:j7 ops x.i=o.dst:=by simp [j7,ho]
   rw[this]
   exact aaR (inv.ts.mono hle) o.dst hv
 · simp only[List.mem_append,List.mem_singleton,not_or] at hyd
   exact am6 y hy n obj EL hyd.1 hyd.2 hyk
theorem Yr (hE:ml E) {call:b8} (eK:kS E call) {ts:List AV} {h h':az} {rc:RC} {o:Oper} {v:AV} (yq:j4 E call ts h rc o= .val v h') {i:Nat} {rest:List Nat} (ho:ops[i]? =some o)
 {φ:Ph} {a:Act} {w:World} {b:Frame} {k:List Item} {K:Bool→List Frame} (hts:LR φ ts a.tmps.toList) (ok:OK E φ h w) (jK:ru φ b K rc) (hw:Region.wanted o (yielded ops a.tmps)=true):
 ∃φ' w' v',VR φ' v v'∧OK E φ' h' w'∧Fr φ h w φ' h' w'∧Steps E.P (lone (b.atR a (.inRegion ops (i::rest)::k)) (cur K rc) w) (lone (b.atR (a.put o.dst v') (.inRegion ops rest::k)) (cur K rc) w'):=by
 have EK:=Bc hE eK (rc:=rc) (o:=o) hts ok
 have tv:rc.sM=false∨∀c,o.op≠ .defer c:=by
  by_cases hd:∃c,o.op= .defer c
  · obtain ⟨c,hd⟩:=hd
    unfold j4 at yq
    simp only[hd] at yq
    split at yq<;>simp at yq
  · exact .inr (fun c e=>hd ⟨c,e⟩)
 have oh:=v_ jK tv a.eval
 rw[yq] at EK
 cases EK with
 | val v h' φ' w' v' hv Ag fr run=>exact ⟨φ',w',v',hv,Ag,fr,.one (qy oh ho hw run)⟩
 | skip h' φ' w' Ag fr run=>exact ⟨φ',w',undef,.undef φ',Ag,fr,.one (QC oh ho hw run)⟩
 | enter v h' F args all hr hf hl run=>
  obtain ⟨n,start,hp,lN⟩:=hr φ w all ok hf hl
  obtain ⟨φ',w',v',hv,Ag,fr,lW⟩:=lN (b.atR a (.inRegion ops (i::rest)::k)) (cur K rc)
  rw[zH ho] at lW
  exact ⟨φ',w',v',hv,Ag,fr,.head (go_enter oh ho hw hp (run n start hp)) lW⟩
 | aaT gX K6 run=>
  have K5:∀fr:Frame,fr.kind=b.kind→tryRecover fr (cur K rc)=none:=by
   cases NV:rc with
   | no=>rw[NV] at jK;exact jK.2
   | mJ v=>exact absurd NV (gX v)
   | done=>rw[NV] at jK;exact jK.2
   | bar l=>rw[NV] at K6;simp [RC.sM] at K6
  exact ⟨φ,w,.nilIface,.nilIface,ok,Fr.refl _ _ _,.one (Ay (jK.plain K6) oh ho hw run (K5 _ rfl))⟩
theorem Inv.Wh (hE:ml E) {Mk:b8} (eK:kS E Mk) {φ₀ φ:Ph} {w₀ w:World} {Cf:List Deferred} {d:List Nat} {cu:Array Bool} {K:Nat} {a:Act} (r:N3 E call ops pl s s' tr hs st) (inv:Inv E ops pl s tr hs st φ₀ w₀ Cf d cu K φ a w)
 {b:Frame} {k:List Item} {Ks:Bool→List Frame} (jK:ru φ₀ b Ks s.rc) {i:Nat} (hi:i<ops.size) (hd:i ∉ d) (wb:∀j,gS pl.an i j=true→j∈d)
 (Ml:∀(x:Step) (o:Oper) (hk h':az),x∈tr→x.i=i→ops[x.i]? =some o→hs[x.k]? =some hk→x.kind= .V9 h'→j4 E Mk x.ts hk s.rc o= .val x.v h') (rest:List Nat):
 ∃K' φ' a' w',Inv E ops pl s tr hs st φ₀ w₀ Cf (d++[i]) (cu.setIfInBounds i true) K' φ' a' w'∧
  Steps E.P (lone (b.atR a (.inRegion ops (i::rest)::k)) (cur Ks s.rc) w) (lone (b.atR a' (.inRegion ops rest::k)) (cur Ks s.rc) w'):=by
 obtain ⟨p,x,hp,rfl⟩:=r.all hi
 have hxm:x∈tr:=List.mem_of_getElem? hp
 obtain ⟨h1,h2,h3,hk,o,ho,yq,aie⟩:=r.at hp
 obtain ⟨_,_,o',hk1,sk1,QK,Gg,hsk,lN⟩:=r.trace.step p x hp
 rw[ho] at QK;simp at QK;subst QK
 rw[←hk] at Gg hsk lN
 obtain ⟨hag,aaW⟩:=agree r hp ho hd inv.closed wb
 obtain ⟨hK,hhK,ok,fr⟩:=inv.ok
 have hwe:Region.wanted o (yielded ops a.tmps)=fA ops x.ts o:=by rw[Bb inv.ts o,aaW]
 have afK:Mh E (tw ops (valOf tr) s.ts d) x.ts o.op:=fun y hy=>(hag y hy).symm
 have same:∀y∈tr,∀n obj,y.kind= .V8 n obj→y.i ∉ d→y.i≠x.i→y.k≤K→φ n=none∧s.h.nx≤n∧∀hK,hs[K]? =some hK→n<hK.nx:=
  fun y hy n obj a1 a2 _ a3=>inv.mJ y hy n obj a1 a2 a3
 have wrote:∀(φ':Ph) (h':az) (w':World),x.k=K→st[K+1]? =some h'→OK E φ' h' w'→Fr φ hK w φ' h' w'→
  ∃Wi,hs[K+1]? =some Wi∧OK E φ' Wi w'∧Fr φ₀ s.h w₀ φ' Wi w'∧
  ∀y∈tr,∀n obj,y.kind= .V8 n obj→y.i ∉ d→y.i≠x.i→y.k≤K+1→φ' n=none∧s.h.nx≤n∧∀hK,hs[K+1]? =some hK→n<hK.nx:=by
  intro φ' h' w' N1 ajn Ag Td
  have pI:K+1<hs.length:=by rw[←r.trace.ajm];exact (List.getElem?_eq_some_iff.1 ajn).1
  have hhs:hs[K+1]? =some hs[K+1]:=by simp [pI]
  have g:=r.trace.grown (K+1) h' _ ajn hhs
  obtain ⟨Lh,fr2⟩:=Ag.grown g
  have fr3:=(fr.trans Td).trans fr2
  refine ⟨_,hhs,Lh,fr3,fun y hy n obj a1 a2 a3 a4=>?_⟩
  have hnx:∀Wi,hs[K+1]? =some Wi→Wi=hs[K+1]:=fun Wi e=>by rw[hhs] at e;simpa using e.symm
  rcases Nat.lt_or_ge K y.k with h | h
  ·
   have hyk:y.k=K+1:=by omega
   obtain ⟨q,hq⟩:=List.getElem?_of_mem hy
   obtain ⟨_,_,_,hky,oy,hoy,_,_⟩:=r.at hq
   obtain ⟨_,_,oy',aq4,aq5,aq6,Li,Lj,TO⟩:=r.trace.step q y hq
   rw[←hky,hyk] at Li Lj
   rw[ajn] at Lj;simp at Lj;subst Lj
   unfold Cy at TO
   rw[a1] at TO
   obtain ⟨_,_,_,hn1,hn2⟩:=TO
   refine ⟨?_,?_,fun Wi e=>?_⟩
   · cases hφ:φ' n with
     | none=>rfl
     | some l=>have:=Ag.EF n l hφ;omega
   · have:=(fr.trans Td).nx;omega
   · rw[e] at Li;simp at Li;subst Li;exact hn2
  · obtain ⟨b1,b2,b3⟩:=inv.mJ y hy n obj a1 a2 h
    have hn:=b3 hK hhK
    refine ⟨by rw[Td.old n hn];exact b1,b2,fun Wi e=>?_⟩
    have:=Td.nx;have:=g.nx
    rw[hnx _ e];omega
 have still:kI E o.op=false→vV E ops x hK=true:=fun he=>by
  obtain ⟨w1,w2⟩:=inv.aaV hd wb
  exact r.still x hxm K hK (by rw[←aie he];exact w1) w2 hhK
 have hgd:ops.getD x.i default=o:=by simp [Array.getD_eq_getD_getElem?,ho]
 have skip:fA ops x.ts o=false→step E.P (lone (b.atR a (.inRegion ops (x.i::rest)::k)) (cur Ks s.rc) w)= .next (lone (b.atR (a.put o.dst undef) (.inRegion ops rest::k)) (cur Ks s.rc) w):=fun hw=>by
  have:=stepR_op_skip (P:=E.P) (b:=b) (a:=a) (k:=k) (cs:=cur Ks s.rc) (w:=w) (ops:=ops) (i:=x.i) (rest:=rest) (by rw[ho];simp;rw[hwe];exact hw)
  rw[this,ho];rfl
 unfold Cy at lN
 split at lN
 ·
  obtain ⟨hw,hv,hn⟩:=lN
  have hvr:VR φ x.v undef:=by rw[hv];exact .undef φ
  by_cases he:kI E o.op=true
  · have N1:=inv.IC r (yq he) hd wb
    have Ah:=hn he
    rw[N1] at Ah Gg
    rw[hhK] at Gg;simp at Gg;subst Gg
    obtain ⟨Wi,q1,q2,q3,q4⟩:=wrote φ hK w N1 Ah ok (Fr.refl _ _ _)
    exact ⟨K+1,φ,_,w,inv.snoc r hp ho hd wb (Ph.le_refl φ) hvr (.inr ⟨he,N1,yq he,rfl⟩) ⟨Wi,q1,q2,q3⟩ q4,.one (skip hw)⟩
  · have Tc:kI E o.op=false:=by simpa using he
    exact ⟨K,φ,_,w,inv.snoc r hp ho hd wb (Ph.le_refl φ) hvr (.inl ⟨Tc,rfl⟩) inv.ok same,.one (skip hw)⟩
 ·
  obtain ⟨he,hw,hpu⟩:=lN
  rw[←QF afK] at hpu
  have tv:∀c,o.op≠ .defer c:=fun c e=>by rw[e] at hpu;simp [dY] at hpu
  obtain ⟨v',hv,hr⟩:=F_ hE.ext ok.gl inv.ts hpu
  exact ⟨K,φ,_,w,inv.snoc r hp ho hd wb (Ph.le_refl φ) hv (.inl ⟨he,rfl⟩) inv.ok same,.one (qy (v_ jK (.inr tv) _) ho (hwe.trans hw) (hr w))⟩
 ·
  rename_i Cz
  obtain ⟨he,hw⟩:=lN
  have Ax:=still he
  unfold vV at Ax
  rw[Cz] at Ax
  simp only[hgd] at Ax
  cases hre:kF E x.ts hK o.op with
  | none=>rw[hre] at Ax;simp at Ax
  | some v1=>
   rw[hre] at Ax
   have hv1:=AV.ql _ _ _ Ax
   subst hv1
   rw[←QG afK] at hre
   have tv:∀c,o.op≠ .defer c:=fun c e=>by rw[e] at hre;simp [kF] at hre
   obtain ⟨v',hv,hr⟩:=Gc ok.gl ok inv.ts hre
   exact ⟨K,φ,_,w,inv.snoc r hp ho hd wb (Ph.le_refl φ) hv (.inl ⟨he,rfl⟩) inv.ok same,.one (qy (v_ jK (.inr tv) _) ho (hwe.trans hw) (hr w rfl))⟩
 ·
  rename_i n obj Cz
  obtain ⟨he,hw,⟨mk,hal,hxv⟩,_,_⟩:=lN
  have Ax:=still he
  unfold vV at Ax
  rw[Cz] at Ax
  simp only at Ax
  cases hge:hK.get n with
  | none=>rw[hge] at Ax;simp at Ax
  | some o1=>
   rw[hge] at Ax
   have ho1:=aN.ql Ax
   subst ho1
   obtain ⟨w1,_⟩:=inv.aaV hd wb
   obtain ⟨K5,aq7,aq8⟩:=inv.mJ x hxm n o1 Cz hd (by rw[←aie he];exact w1)
   rw[←NW afK] at hal
   have tv:∀c,o.op≠ .defer c:=fun c e=>by rw[e] at hal;simp [jt] at hal
   obtain ⟨O,mk',QE,hr⟩:=Cr ok.gl inv.ts hal
   have hle:φ.le (φ.add n ⟨w.heap.size,0,0⟩):=fun j m hm=>by
    unfold Ph.add;split
    · rename_i e;subst e;rw[K5] at hm;simp at hm
    · exact hm
   obtain ⟨Lh,_⟩:=ok.place hge K5 (aq8 hK hhK) (QE.obj _ w.heap.size hle)
   have hv:=QE.val (φ.add n ⟨w.heap.size,0,0⟩) n w.heap.size hle (by simp [Ph.add])
   rw[←hxv] at hv
   refine ⟨K,_,_,_,inv.snoc r hp ho hd wb hle hv (.inl ⟨he,rfl⟩) ⟨hK,hhK,Lh,fr.place aq7 K5 O⟩ (fun y hy m q a1 a2 a3 a4=>?_),.one (qy (v_ jK (.inr tv) _) ho (hwe.trans hw) (hr w))⟩
   obtain ⟨b1,b2,b3⟩:=inv.mJ y hy m q a1 a2 a4
   refine ⟨?_,b2,b3⟩
   have gX:m≠n:=fun e=>by subst e;exact a3 (r.ids y x hy hxm m q o1 a1 Cz)
   simp [Ph.add,gX,b1]
 ·
  rename_i h' Cz
  obtain ⟨he,hw,_,Ah⟩:=lN
  have hef:=Ml x o _ h' hxm rfl ho Gg Cz
  have N1:=inv.IC r (yq he) hd wb
  rw[N1] at Ah Gg
  rw[hhK] at Gg;simp at Gg;subst Gg
  rw[←Iy afK] at hef
  obtain ⟨φ',w',v',hv,Ag,Td,lW⟩:=Yr hE eK hef ho (rest:=rest) (k:=k) inv.ts ok (jK.mono fr.ext) (hwe.trans hw)
  obtain ⟨Wi,q1,q2,q3,q4⟩:=wrote φ' h' w' N1 Ah Ag Td
  exact ⟨K+1,φ',_,w',inv.snoc r hp ho hd wb Td.ext hv (.inr ⟨he,N1,yq he,rfl⟩) ⟨Wi,q1,q2,q3⟩ q4,lW⟩
end
end Go.Ab
end
section
namespace Go.Ab
variable {E:Env}
section
variable {call:b8} {ops:Array Oper} {pl:G6} {s s':St} {tr:List Step} {hs st:List az}
structure N4 (E:Env) (φ₀:Ph) (h₀:az) (w₀:World) (Cf:List Deferred) (b:Frame) (k:List Item) (cs:List Frame) (s':St) (m:Machine):Prop where
 is:∃φ' a' w',LR φ' s'.ts a'.tmps.toList∧a'.defers=Cf∧OK E φ' s'.h w'∧Fr φ₀ h₀ w₀ φ' s'.h w'∧Steps E.P m (lone (b.atR a' k) cs w')
theorem QL (r:N3 E call ops pl s s' tr hs st) {φ₀ φ:Ph} {w₀ w:World} {Cf:List Deferred} {d:List Nat} {cu:Array Bool} {K:Nat} {a:Act} (inv:Inv E ops pl s tr hs st φ₀ w₀ Cf d cu K φ a w)
 (QM:∀i,i<ops.size→i∈d) (b:Frame) (k:List Item) (cs:List Frame):N4 E φ₀ s.h w₀ Cf b k cs s' (lone (b.atR a (.inRegion ops []::k)) cs w):=by
 have tv:(tr.map (·.i)).Nodup:=by rw[r.trace.is];exact r.nodup
 obtain ⟨f1,f2,f3⟩:=lE r.xQ.order
 have hK:K=pl.ez.length:=by
  have:=inv.Kle
  rcases Nat.lt_or_ge K pl.ez.length with h | h
  · exfalso
    have hq:pl.ez[K]? =some pl.ez[K]:=by simp [h]
    have hm:pl.ez[K]∈pl.ez:=List.getElem_mem h
    generalize hx:pl.ez[K]=ee at hm hq
    rw[r.xQ.ez,Mj] at hm
    obtain ⟨o,ho,_⟩:=hm
    have pI:ee<ops.size:=by have:=(List.getElem?_eq_some_iff.1 ho).1;simpa using this
    have:=(inv.ez K _ hq).1 (QM _ pI)
    omega
  · omega
 obtain ⟨Wi,q1,q2,q3⟩:=inv.ok
 have QN:=r.trace.last
 have aq9:vP E ops pl.order=K:=by omega
 rw[aq9,q1] at QN
 simp at QN;subst QN
 have hts:s'.ts=tw ops (valOf tr) s.ts d:=by
  rw[r.trace.ts]
  have h1:=N2 ops tv s.ts tr.length
  rw[List.take_length,r.trace.is,List.take_of_length_le (by rw[←r.trace.is];simp)] at h1
  rw[h1]
  refine List.ext_getElem? (fun x=>?_)
  refine Be s.ts (fun j j' e e'=>CB r.xQ e e') (fun j hj=>?_)
  have hjl:j<ops.size:=by
   unfold j7 at hj
   cases ho:ops[j]? with
   | none=>rw[ho] at hj;simp at hj
   | some o=>exact (Array.getElem?_eq_some_iff.1 ho).1
  exact ⟨fun _=>QM j hjl,fun _=>(f2 j hjl).resolve_left (by simp)⟩
 exact ⟨φ,a,w,by rw[hts];exact inv.ts,inv.ds,q2,q3,.one stepR_region_end⟩
theorem ID {φ₀ φ:Ph} {w₀ w:World} {Cf:List Deferred} {d:List Nat} {cu:Array Bool} {K:Nat} {a:Act} (r:N3 E call ops pl s s' tr hs st) (inv:Inv E ops pl s tr hs st φ₀ w₀ Cf d cu K φ a w)
 {i:Nat} (h:i∈Region.ready .any ops cu):i<ops.size∧i ∉ d∧∀j,gS pl.an i j=true→j∈d:=by
 obtain ⟨h1,o,ho,h2⟩:=mem_ready.1 h
 have hi:i<ops.size:=(Array.getElem?_eq_some_iff.1 ho).1
 have hl:=inv.cu i hi
 refine ⟨hi,fun hd=>?_,fun j hj=>?_⟩
 · simp [hl,hd,Array.getD_eq_getD_getElem?] at h1
 · obtain ⟨e,he,hej⟩:=r.xQ.closed i o j ho hj
   have hed:e∈d:=by
    unfold rU at he
    simp only[List.mem_map,List.mem_filter] at he
    obtain ⟨ed,⟨hm,hb⟩,rfl⟩:=he
    have h3:=h2 ed (by simpa using hm) hb
    have ara:ed.on<ops.size:=by
     have:=(r.xQ.direct i o ed.on ho (by unfold rU;simp only[List.mem_map,List.mem_filter];exact ⟨ed,⟨hm,hb⟩,rfl⟩)).1
     omega
    simpa [inv.cu _ ara,Array.getD_eq_getD_getElem?] using h3
   rcases hej with rfl | hej
   · exact hed
   · exact inv.closed e hed j hej
theorem EP {φ₀ φ:Ph} {w₀ w:World} {Cf:List Deferred} {d:List Nat} {cu:Array Bool} {K:Nat} {a:Act} (r:N3 E call ops pl s s' tr hs st) (inv:Inv E ops pl s tr hs st φ₀ w₀ Cf d cu K φ a w)
 (h:Region.ready .any ops cu=[]):∀(n i:Nat),i<n→i<ops.size→i∈d
 | 0,i,hn,_=>by omega
 | n+1,i,hn,hi=>by
  have ih:=EP r inv h n
  by_cases hd:i∈d
  · exact hd
  · exfalso
    have ho:ops[i]? =some ops[i]:=by simp [hi]
    have:i∈Region.ready .any ops cu:=by
     refine mem_ready.2 ⟨by simp [inv.cu i hi,hd,Array.getD_eq_getD_getElem?],ops[i],ho,fun e he hb=>?_⟩
     have hm:e.on∈rU ops[i]:=by
      unfold rU;simp only[List.mem_map,List.mem_filter];exact ⟨e,⟨by simpa using he,hb⟩,rfl⟩
     have pI:=(r.xQ.direct i _ e.on ho hm).1
     have:=ih e.on (by omega) (by omega)
     simp [inv.cu e.on (by omega),this,Array.getD_eq_getD_getElem?]
    rw[h] at this;simp at this
theorem N3.real (r:N3 E call ops pl s s' tr hs st) (x:Step) (o:Oper) (hk h':az) (hx:x∈tr) (ho:ops[x.i]? =some o) (hh:hs[x.k]? =some hk) (EL:x.kind= .V9 h'):j4 E call x.ts hk s.rc o= .val x.v h':=by
 obtain ⟨p,hp⟩:=List.getElem?_of_mem hx
 obtain ⟨_,_,_,hk0,_⟩:=r.at hp
 obtain ⟨_,_,o',hk1,sk1,QK,Gg,hsk,lN⟩:=r.trace.step p x hp
 rw[ho] at QK;simp at QK;subst QK
 rw[←hk0,hh] at Gg;simp at Gg;subst Gg
 unfold Cy at lN;rw[EL] at lN;exact lN.2.2.1
theorem QO (hE:ml E) (eK:kS E call) (r:N3 E call ops pl s s' tr hs st) {φ₀:Ph} {w₀:World} {Cf:List Deferred} {b:Frame} {k:List Item} {Ks:Bool→List Frame} (jK:ru φ₀ b Ks s.rc):
 ∀(fuel t:Nat) {φ:Ph} {w:World} {d:List Nat} {cu:Array Bool} {K:Nat} {a:Act} (_:Inv E ops pl s tr hs st φ₀ w₀ Cf d cu K φ a w) (_:ops.size≤d.length+fuel),
  N4 E φ₀ s.h w₀ Cf b k (cur Ks s.rc) s' (lone (b.atR a (.inRegion ops (Region.linearise.go .any ops fuel t cu [])::k)) (cur Ks s.rc) w)
 | 0,t,φ,w,d,cu,K,a,inv,hf=>by
  simp only[Region.linearise.go,List.reverse_nil]
  refine QL r inv (fun i hi=>?_) b k _
  by_cases hd:i∈d
  · exact hd
  · have:=Iz ops.size (i::d) (List.nodup_cons.2 ⟨hd,inv.nd⟩) (fun x hx=>by
     simp at hx;rcases hx with rfl | hx
     · exact hi
     · exact inv.lt x hx)
    simp at this;omega
 | fuel+1,t,φ,w,d,cu,K,a,inv,hf=>by
  simp only[Region.linearise.go]
  change N4 E φ₀ s.h w₀ Cf b k (cur Ks s.rc) s' (lone (b.atR a (.inRegion ops (match (Region.ready .any ops cu)[t%(Region.ready .any ops cu).length]? with
   | some i=>Region.linearise.go .any ops fuel (t/(Region.ready .any ops cu).length) (cu.setIfInBounds i true) [i]
   | none=> [].reverse)::k)) (cur Ks s.rc) w)
  cases hi:(Region.ready .any ops cu)[t%(Region.ready .any ops cu).length]? with
  | none=>
   have NH:Region.ready .any ops cu=[]:=by
    cases hr:Region.ready .any ops cu with
    | nil=>rfl
    | cons x xs=>
     rw[hr] at hi
     have pI:t%(x::xs).length<(x::xs).length:=Nat.mod_lt _ (by simp)
     simp at hi
     simp at pI
     omega
   exact QL r inv (fun i hi=>EP r inv NH _ i (Nat.lt_succ_self i) hi) b k _
  | some i=>
   simp only[]
   rw[linearise_go_acc,List.reverse_singleton,List.singleton_append]
   obtain ⟨h1,h2,h3⟩:=ID r inv (List.mem_of_getElem? hi)
   obtain ⟨K',φ',a',w',ajo,lN⟩:=inv.Wh hE eK r jK (b:=b) (k:=k) h1 h2 h3 (fun x o hk h' hx _=>r.real x o hk h' hx) (Region.linearise.go .any ops fuel (t/(Region.ready .any ops cu).length) (cu.setIfInBounds i true) [])
   obtain ⟨φ2,a2,w2,x1,x2,x3,x4,x5⟩:=(QO hE eK r jK fuel (t/(Region.ready .any ops cu).length) ajo (by simp;omega)).is
   exact ⟨φ2,a2,w2,x1,x2,x3,x4,Steps.trans lN x5⟩
structure N5 (E:Env) (φ₀:Ph) (h₀:az) (w₀:World) (Cf:List Deferred) (b:Frame) (cs:List Frame) (v:AV) (s':St) (m:Machine):Prop where
 is:∃φ' a' w' v' todo,VR φ' v v'∧LR φ' s'.ts a'.tmps.toList∧a'.defers=Cf∧OK E φ' s'.h w'∧Fr φ₀ h₀ w₀ φ' s'.h w'∧Steps E.P m (lone {b.atR a' todo with mode:= .panicking [{v:=v',recovered:=false}]} cs w')
theorem Ys (hE:ml E) {call:b8} (eK:kS E call) {ts:List AV} {h h':az} {rc:RC} {o:Oper} {c:Call} (hoc:o.op= .call c) {v:AV} (yq:j4 E call ts h rc o= .panic v h') {i:Nat} {rest:List Nat} (ho:ops[i]? =some o)
 {φ:Ph} {a:Act} {w:World} {b:Frame} {k:List Item} {K:Bool→List Frame} (hts:LR φ ts a.tmps.toList) (ok:OK E φ h w) (jK:ru φ b K rc) (hw:Region.wanted o (yielded ops a.tmps)=true):
 ∃φ' w' v' todo,VR φ' v v'∧OK E φ' h' w'∧Fr φ h w φ' h' w'∧Steps E.P (lone (b.atR a (.inRegion ops (i::rest)::k)) (cur K rc) w) (lone {b.atR a todo with mode:= .panicking [{v:=v',recovered:=false}]} (cur K rc) w'):=by
 have EK:=Bc hE eK (rc:=rc) (o:=o) hts ok
 have tv:rc.sM=false∨∀c,o.op≠ .defer c:= .inr (fun c e=>by rw[hoc] at e;simp at e)
 have oh:=v_ jK tv a.eval
 rw[yq] at EK
 cases EK with
 | afG v h' F args all hr hf hl run=>
  obtain ⟨n,start,hp,lN⟩:=hr φ w all ok hf hl
  obtain ⟨φ',w',v',hv,Ag,fr,lW⟩:=lN (b.atR a (.inRegion ops (i::rest)::k)) (cur K rc)
  rw[Frame.raise_atR] at lW
  exact ⟨φ',w',v',.inRegion ops (i::rest)::k,hv,Ag,fr,.head (go_enter oh ho hw hp (run n start hp)) lW⟩
 | panic v v' hv run=>exact ⟨φ,w,v',_,hv,ok,Fr.refl _ _ _,.one (aaS oh ho hw run)⟩
theorem Mm (hE:ml E) {Mk:b8} (eK:kS E Mk) (r:N3 E call ops pl s s' tr hs st) {xl:Step} (hxl:xl∈tr) {ol:Oper} (hol:ops[xl.i]? =some ol) {c:Call} (hoc:ol.op= .call c)
 (QM:∀j,j<ops.size→j≠xl.i→gS pl.an xl.i j=true) (aif:kI E ol.op=true) (hwl:fA ops xl.ts ol=true) {hk:az} (Gg:hs[xl.k]? =some hk) {v:AV} {h':az} (ajp:j4 E Mk xl.ts hk s.rc ol= .panic v h')
 (Ml:∀(x:Step) (o:Oper) (hk h':az),x∈tr→x.i≠xl.i→ops[x.i]? =some o→hs[x.k]? =some hk→x.kind= .V9 h'→j4 E Mk x.ts hk s.rc o= .val x.v h')
 {s2:St} (h2:s2.h=h') (am7:s2.ts=xl.ts) {φ₀:Ph} {w₀:World} {Cf:List Deferred} {b:Frame} {k:List Item} {Ks:Bool→List Frame} (jK:ru φ₀ b Ks s.rc):
 ∀(fuel t:Nat) {φ:Ph} {w:World} {d:List Nat} {cu:Array Bool} {K:Nat} {a:Act} (_:Inv E ops pl s tr hs st φ₀ w₀ Cf d cu K φ a w) (_:ops.size≤d.length+fuel) (_:xl.i ∉ d),
  N5 E φ₀ s.h w₀ Cf b (cur Ks s.rc) v s2 (lone (b.atR a (.inRegion ops (Region.linearise.go .any ops fuel t cu [])::k)) (cur Ks s.rc) w)
 | 0,t,φ,w,d,cu,K,a,inv,hf,tv=>by
  exfalso
  have hi:xl.i<ops.size:=(Array.getElem?_eq_some_iff.1 hol).1
  have:=Iz ops.size (xl.i::d) (List.nodup_cons.2 ⟨tv,inv.nd⟩) (fun x hx=>by
   simp at hx;rcases hx with rfl | hx
   · exact hi
   · exact inv.lt x hx)
  simp at this;omega
 | fuel+1,t,φ,w,d,cu,K,a,inv,hf,tv=>by
  have hil:xl.i<ops.size:=(Array.getElem?_eq_some_iff.1 hol).1
  simp only[Region.linearise.go]
  change N5 E φ₀ s.h w₀ Cf b (cur Ks s.rc) v s2 (lone (b.atR a (.inRegion ops (match (Region.ready .any ops cu)[t%(Region.ready .any ops cu).length]? with
   | some i=>Region.linearise.go .any ops fuel (t/(Region.ready .any ops cu).length) (cu.setIfInBounds i true) [i]
   | none=> [].reverse)::k)) (cur Ks s.rc) w)
  cases hi:(Region.ready .any ops cu)[t%(Region.ready .any ops cu).length]? with
  | none=>
   have NH:Region.ready .any ops cu=[]:=by
    cases hr:Region.ready .any ops cu with
    | nil=>rfl
    | cons x xs=>
     rw[hr] at hi
     have pI:t%(x::xs).length<(x::xs).length:=Nat.mod_lt _ (by simp)
     simp at hi
     simp at pI
     omega
   exact absurd (EP r inv NH _ xl.i (Nat.lt_succ_self _) hil) tv
  | some i=>
   simp only[]
   rw[linearise_go_acc,List.reverse_singleton,List.singleton_append]
   obtain ⟨h1,h2',h3⟩:=ID r inv (List.mem_of_getElem? hi)
   by_cases hii:i=xl.i
   · subst hii
     obtain ⟨p,hp⟩:=List.getElem?_of_mem hxl
     obtain ⟨_,q2,q3,_,o',QK,q4,_⟩:=r.at hp
     rw[hol] at QK;simp at QK;subst QK
     obtain ⟨hag,aaW⟩:=agree r hp hol h2' inv.closed h3
     obtain ⟨hK,hhK,ok,fr⟩:=inv.ok
     have N1:=inv.IC r (q4 aif) h2' h3
     rw[N1,hhK] at Gg;simp at Gg;subst Gg
     rw[Iy hag] at ajp
     have hwe:Region.wanted ol (yielded ops a.tmps)=true:=by rw[Bb inv.ts ol,aaW];exact hwl
     obtain ⟨φ',w',v',todo,hv,Ag,Td,lN⟩:=Ys hE eK hoc ajp hol (rest:=Region.linearise.go .any ops fuel (t/(Region.ready .any ops cu).length) (cu.setIfInBounds xl.i true) []) (k:=k) inv.ts ok (jK.mono fr.ext) hwe
     have arb:(tr.map (·.i)).Nodup:=by rw[r.trace.is];exact r.nodup
     have hts:xl.ts=tw ops (valOf tr) s.ts d:=by
      rw[(r.trace.step p xl hp).1,N2 ops arb,r.trace.is]
      refine List.ext_getElem? (fun x=>Be s.ts (fun j j' e e'=>CB r.xQ e e') (fun j hj=>?_))
      have hjl:j<ops.size:=by
       unfold j7 at hj
       cases ho:ops[j]? with
       | none=>rw[ho] at hj;simp at hj
       | some o=>exact (Array.getElem?_eq_some_iff.1 ho).1
      by_cases hji:j=xl.i
      · subst hji;exact ⟨fun h=>absurd h q2,fun h=>absurd h h2'⟩
      · exact ⟨fun _=>h3 j (QM j hjl hji),fun _=>q3 j (QM j hjl hji)⟩
     exact ⟨φ',a,w',v',todo,hv,by rw[am7,hts];exact inv.ts.mono Td.ext,inv.ds,by rw[h2];exact Ag,by rw[h2];exact fr.trans Td,lN⟩
   · obtain ⟨K',φ',a',w',ajo,lN⟩:=inv.Wh hE eK r jK (b:=b) (k:=k) h1 h2' h3 (fun x o hk h' hx Yo=>Ml x o hk h' hx (by rw[Yo];exact hii)) (Region.linearise.go .any ops fuel (t/(Region.ready .any ops cu).length) (cu.setIfInBounds i true) [])
     obtain ⟨φ2,a2,w2,v2,td,x0,x1,x2,x3,x4,x5⟩:=(Mm hE eK r hxl hol hoc QM aif hwl Gg ajp Ml h2 am7 jK fuel (t/(Region.ready .any ops cu).length) ajo (by simp;omega) (by simp;exact ⟨tv,fun h=>hii h.symm⟩)).is
     exact ⟨φ2,a2,w2,v2,td,x0,x1,x2,x3,x4,Steps.trans lN x5⟩
def IE (call:b8):b8:=fun f as_ h=>match call f as_ h with
 | .panic _ h'=> .ret AV.undef h'
 | r=>r
theorem aaX {call:b8} {ts:List AV} {h h':az} {rc:RC} {o:Oper} {v:AV} (e:j4 E call ts h rc o= .val v h'):j4 E (IE call) ts h rc o= .val v h':=by
 obtain ⟨dst,op,ty,pos,after,guard⟩:=o
 cases op with
 | call c=>
  obtain ⟨cA,args,aT⟩:=c
  cases cA with
  | builtin b=>cases b<;>exact e
  | value f=>
   simp only[j4] at e ⊢
   split at e
   · split at e
     · exact e
     · split at e
       · rename_i hc
         simp only[IE,hc];exact e
       · simp at e
       · simp at e
   · simp at e
  | invoke x name=>
   simp only[j4] at e ⊢
   split at e
   · split at e
     · split at e
       · rename_i hc
         simp only[IE,hc];exact e
       · simp at e
       · simp at e
     · simp at e
   · simp at e
 | _=>exact e
theorem aaY {call:b8} {ts:List AV} {h h':az} {rc:RC} {dst:Option Tmp} {c:Call} {ty:TypeId} {pos:String} {after:Array Edge} {guard:Option (Nat×Bool)} {v:AV} (e:j4 E call ts h rc ⟨dst,.call c,ty,pos,after,guard⟩= .panic v h'):
 j4 E (IE call) ts h rc ⟨dst,.call c,ty,pos,after,guard⟩= .val AV.undef h':=by
 obtain ⟨cA,args,aT⟩:=c
 cases cA with
 | builtin b=>
  cases b<;>simp only[j4] at e<;>(try (simp at e;done))<;>(split at e<;>(try (simp at e;done))<;>(try (split at e<;>simp at e)))
 | value f=>
  simp only[j4] at e ⊢
  split at e
  · split at e
    · split at e<;>simp at e
    · split at e
      · simp at e
      · rename_i hc
        simp at e;obtain ⟨rfl,rfl⟩:=e
        simp only[IE,hc]
      · simp at e
  · simp at e
 | invoke x name=>
  simp only[j4] at e ⊢
  split at e
  · split at e
    · split at e
      · simp at e
      · rename_i hc
        simp at e;obtain ⟨rfl,rfl⟩:=e
        simp only[IE,hc]
      · simp at e
    · simp at e
  · simp at e
theorem sQ {α:Type} {f:α→Option Nat}:∀{l:List α} (_:(l.filterMap f).Nodup) {x y:α} {n:Nat} (_:x∈l) (_:y∈l) (_:f x=some n) (_:f y=some n),x=y
 | [],_,x,y,n,hx,_,_,_=>by simp at hx
 | z::l,hn,x,y,n,hx,hy,fx,fy=>by
  cases hz:f z with
  | none=>
   rw[List.filterMap_cons_none hz] at hn
   have hx':x∈l:=by
    simp at hx;rcases hx with rfl | h
    · rw[hz] at fx;simp at fx
    · exact h
   have hy':y∈l:=by
    simp at hy;rcases hy with rfl | h
    · rw[hz] at fy;simp at fy
    · exact h
   exact sQ hn hx' hy' fx fy
  | some m=>
   rw[List.filterMap_cons_some hz,List.nodup_cons] at hn
   simp at hx hy
   rcases hx with rfl | hx<;>rcases hy with rfl | hy
   · rfl
   · exfalso;rw[fx] at hz;simp at hz;subst hz;exact hn.1 (List.mem_filterMap.2 ⟨y,hy,fy⟩)
   · exfalso;rw[fy] at hz;simp at hz;subst hz;exact hn.1 (List.mem_filterMap.2 ⟨x,hx,fx⟩)
   · exact sQ hn.2 hx hy fx fy
theorem aaZ (Yh:Ih E ops=some pl) (hd:fY E call ops pl.order 0 s= .ok tr hs s') (hl:EC E ops pl tr hs=true):∃st,N3 E call ops pl s s' tr hs st:=by
 obtain ⟨st,t⟩:=sP hd
 unfold EC at hl
 simp only[Bool.and_eq_true] at hl
 refine ⟨st,QH Yh,t,fun x hx K hk h1 h2 h3=>?_,fun x y hx hy n o q e1 e2=>?_⟩
 · have h4:=List.all_eq_true.1 (List.all_eq_true.1 hl.2 x hx) hk
   refine h4 ?_
   refine List.mem_of_getElem? (i:=K - x.k) ?_
   rw[List.getElem?_take,if_pos (by omega),List.getElem?_drop,show x.k+(K - x.k)=K by omega,h3]
 · have:=Bd hl.1
   have:=sQ this hx hy (n:=n) (by simp [e1]) (by simp [e2])
   rw[this]
theorem Bf {call Mn:b8} (hc:∀{ts:List AV} {h h':az} {rc:RC} {o:Oper} {v:AV},j4 E call ts h rc o= .val v h'→j4 E Mn ts h rc o= .val v h') {i:Nat} {o:Oper} (ho:ops[i]? =some o) (he:kI E o.op=true):
 ∀(l:List Nat) (k:Nat) (s:St) {tr:List Step} {hs:List az} {s1:St} {h':az} (_:fY E call ops l k s= .ok tr hs s1) (_:fA ops s1.ts o=true) (_:j4 E Mn s1.ts s1.h s1.rc o= .val AV.undef h'),
  fY E Mn ops (l++[i]) k s= .ok (tr++[⟨i,k+(hs.length - 1),s1.ts,AV.undef,.V9 h'⟩]) (hs++[h']) {s1 with ts:=gR s1.ts o.dst AV.undef,h:=h'}
 | [],k,s,tr,hs,s1,h',hd,hw,hv=>by
  simp [fY] at hd;obtain ⟨rfl,rfl,rfl⟩:=hd
  simp only[List.nil_append,fY,ho,he,if_true,hw,hv]
  simp [rV.bound,rV.step]
 | j::l,k,s,tr,hs,s1,h',hd,hw,hv=>by
  rw[List.cons_append]
  simp only[fY] at hd ⊢
  cases hoj:ops[j]? with
  | none=>rw[hoj] at hd;simp at hd
  | some oj=>
  rw[hoj] at hd
  simp only at hd ⊢
  have wr:∀(x:Step) (s0:St),((fY E call ops l (k+1) s0).bound s.h).step x= .ok tr hs s1→((fY E Mn ops (l++[i]) (k+1) s0).bound s.h).step x= .ok (tr++[⟨i,k+(hs.length - 1),s1.ts,AV.undef,.V9 h'⟩]) (hs++[h']) {s1 with ts:=gR s1.ts o.dst AV.undef,h:=h'}:=by
   intro x s0 hd
   cases hr:fY E call ops l (k+1) s0 with
   | fail yd q=>rw[hr] at hd;simp [rV.bound,rV.step] at hd
   | ok tr1 Ax s2=>
    rw[hr] at hd;simp [rV.bound,rV.step] at hd;obtain ⟨rfl,rfl,rfl⟩:=hd
    rw[Bf hc ho he l (k+1) s0 hr hw hv]
    obtain ⟨_,t⟩:=sP hr
    have:1≤Ax.length:=by have:=t.len;omega
    simp [rV.bound,rV.step];omega
  have pl:∀(x:Step) (s0:St),(fY E call ops l k s0).step x= .ok tr hs s1→(fY E Mn ops (l++[i]) k s0).step x= .ok (tr++[⟨i,k+(hs.length - 1),s1.ts,AV.undef,.V9 h'⟩]) (hs++[h']) {s1 with ts:=gR s1.ts o.dst AV.undef,h:=h'}:=by
   intro x s0 hd
   cases hr:fY E call ops l k s0 with
   | fail yd q=>rw[hr] at hd;simp [rV.step] at hd
   | ok tr1 Ax s2=>
    rw[hr] at hd;simp [rV.step] at hd;obtain ⟨rfl,rfl,rfl⟩:=hd
    rw[Bf hc ho he l k s0 hr hw hv]
    simp [rV.step]
  split at hd
  · rename_i he1
    rw[if_pos he1]
    split at hd
    · rename_i NQ
      rw[if_pos NQ]
      split at hd
      · rename_i hef
        simp only[hc hef]
        exact wr _ _ hd
      · simp at hd
      · simp at hd
    · rename_i NQ
      rw[if_neg NQ]
      exact wr _ _ hd
  · rename_i he1
    rw[if_neg he1]
    split at hd
    · rename_i NQ
      rw[if_pos NQ]
      split at hd
      · rename_i hp
        try simp only[hp]
        exact pl _ _ hd
      · rename_i hp
        try simp only[hp]
        split at hd
        · rename_i hq
          try simp only[hq]
          exact pl _ _ hd
        · rename_i hq
          try simp only[hq]
          split at hd
          · rename_i hr
            try simp only[hr]
            split at hd
            · rename_i hn
              try simp only[hn]
              exact pl _ _ hd
            · simp at hd
          · simp at hd
    · rename_i NQ
      rw[if_neg NQ]
      exact pl _ _ hd
end
theorem IF {call:b8} {ops:Array Oper} {pl:G6} {s s':St} {tr:List Step} {uT st:List az} (r:N3 E call ops pl s s' tr uT st)
 {φ:Ph} {a:Act} {w:World} (hts:LR φ s.ts a.tmps.toList) (ok:OK E φ s.h w):Inv E ops pl s tr uT st φ w a.defers [] (Array.replicate ops.size false) 0 φ a {w with drawn:=w.drawn+1}:=by
 have QP:OK E φ s.h {w with drawn:=w.drawn+1}:=⟨ok.EF,ok.nx,ok.yh,ok.live,ok.inj⟩
 have fr1:Fr φ s.h w φ s.h {w with drawn:=w.drawn+1}:=⟨Ph.le_refl φ,fun _ _=>rfl,Nat.le_refl _,rfl,rfl,rfl,Nat.le_refl _,fun _ _ _=>rfl,fun i o l a b c=> .inr ⟨i,o,l,a,b,c,rfl⟩⟩
 have hlen:0<uT.length:=by have:=r.trace.len;omega
 have h0:uT[0]? =some uT[0]:=by simp [hlen]
 have g:=r.trace.grown 0 s.h _ r.trace.first h0
 obtain ⟨Lh,fr2⟩:=QP.grown g
 refine ⟨.nil,fun i hi=>by simp at hi,fun i hi=>by simp [hi],fun i hi=>by simp at hi,fun q e hq=>by simp,by omega,by simpa [tw] using hts,rfl,⟨_,h0,Lh,fr1.trans fr2⟩,fun x hx n obj hk _ hk0=>?_⟩
 obtain ⟨q,hq⟩:=List.getElem?_of_mem hx
 obtain ⟨_,_,_,hky,oy,hoy,_,_⟩:=r.at hq
 obtain ⟨_,_,oy',aq4,aq5,aq6,Li,Lj,TO⟩:=r.trace.step q x hq
 rw[←hky] at Li Lj
 have N1:x.k=0:=by omega
 rw[N1] at Li Lj
 rw[r.trace.first] at Lj;simp at Lj;subst Lj
 unfold Cy at TO
 rw[hk] at TO
 obtain ⟨_,_,_,hn1,hn2⟩:=TO
 refine ⟨?_,hn1,fun hK e=>?_⟩
 · cases hφ:φ n with
   | none=>rfl
   | some l=>have:=ok.EF n l hφ;omega
 · rw[e] at Li;simp at Li;subst Li;exact hn2
theorem QR (hE:ml E) (arc:E.P.follows .mixedOrders=true) {call:b8} (eK:kS E call) {ops:Array Oper} {s s':St} {e:oP} (h:L9 E call ops s= .ok e s')
 {φ:Ph} {a:Act} {w:World} {b:Frame} {k:List Item} {K:Bool→List Frame} (hs:SR φ s.ts s.ds a) (ok:OK E φ s.h w) (jK:ru φ b K s.rc) (id:Nat):
 s'.rc=s.rc∧s'.ds=s.ds∧((e= .normal∧∃φ' a' w',LR φ' s'.ts a'.tmps.toList∧a'.defers=a.defers∧OK E φ' s'.h w'∧Fr φ s.h w φ' s'.h w'∧
  Steps E.P (lone (b.atR a (.code (.region id ops true)::k)) (cur K s.rc) w) (lone (b.atR a' k) (cur K s.rc) w'))∨
  ∃v,e= .panic v∧N5 E φ s.h w a.defers b (cur K s.rc) v s' (lone (b.atR a (.code (.region id ops true)::k)) (cur K s.rc) w)):=by
 have am8:Region.schedule (E.P.follows .mixedOrders) ops (w.tape w.drawn (.order b.fn id))=Region.linearise.go .any ops ops.size (w.tape w.drawn (.order b.fn id)) (Array.replicate ops.size false) []:=by
  rw[arc];rfl
 unfold L9 at h
 split at h
 · simp at h
 rename_i pl Yh
 split at h
 · rename_i tr uT s1 hd
   split at h
   · rename_i hl
     simp at h;obtain ⟨rfl,rfl⟩:=h
     obtain ⟨st,r⟩:=aaZ Yh hd hl
     refine ⟨r.trace.rc,r.trace.ds,.inl ⟨rfl,?_⟩⟩
     obtain ⟨φ',a',w',x1,x2,x3,x4,x5⟩:=(QO hE eK r jK (b:=b) (k:=k) ops.size (w.tape w.drawn (.order b.fn id)) (IF r hs.ts ok) (by simp)).is
     refine ⟨φ',a',w',x1,x2,x3,x4,.head stepR_region_draw ?_⟩
     rw[am8]
     exact x5
   · simp at h
 · split at h
   · rename_i v s2 hp
     simp at h;obtain ⟨rfl,rfl⟩:=h
     unfold aaA at hp
     split at hp
     · simp at hp
     rename_i i front ard
     split at hp
     · rename_i tr uT s1 dst c ty pos after guard hd ho
       split at hp
       · rename_i Tb
         split at hp
         · rename_i v1 h1 hef
           split at hp
           · rename_i hl
             simp at hp;obtain ⟨rfl,rfl⟩:=hp
             simp only[Bool.and_eq_true,List.all_eq_true,List.mem_range,Bool.or_eq_true,beq_iff_eq] at Tb
             obtain ⟨⟨he,hw⟩,QM⟩:=Tb
             have ajk:pl.order=front.reverse++[i]:=by
              have:=congrArg List.reverse ard
              simpa using this
             have hd2:=Bf (Mn:=IE call) (fun e=>aaX e) ho he front.reverse 0 s hd hw (aaY hef)
             rw[←ajk] at hd2
             rw[Nat.zero_add] at hd2
             obtain ⟨st,r⟩:=aaZ Yh hd2 hl
             obtain ⟨st1,t1⟩:=sP hd
             have am9:s1.rc=s.rc:=t1.rc
             refine ⟨am9,t1.ds,.inr ⟨_,rfl,?_⟩⟩
             have hlen:1≤uT.length:=by have:=t1.len;omega
             have QN:(uT++[h1])[uT.length - 1]? =some s1.h:=by
              rw[List.getElem?_append_left (by omega)]
              have:=t1.last
              rw[show uT.length - 1=vP E ops front.reverse by have:=t1.len;omega];exact this
             have Ml:∀(x:Step) (o:Oper) (hk h':az),x∈tr++[⟨i,uT.length - 1,s1.ts,AV.undef,.V9 h1⟩]→x.i≠i→ops[x.i]? =some o→(uT++[h1])[x.k]? =some hk→x.kind= .V9 h'→j4 E call x.ts hk s.rc o= .val x.v h':=by
              intro x o hk h' hx Yo QK Gg EL
              have hx':x∈tr:=by
               simp at hx;rcases hx with h | h
               · exact h
               · exact absurd (by rw[h]) Yo
              obtain ⟨p,hp⟩:=List.getElem?_of_mem hx'
              obtain ⟨_,hk0,o',hk1,sk1,ho2,ajq,hsk,lN⟩:=t1.step p x hp
              rw[QK] at ho2;simp at ho2;subst ho2
              rw[Nat.zero_add] at hk0
              rw[←hk0] at ajq
              have pI:x.k<uT.length:=(List.getElem?_eq_some_iff.1 ajq).1
              rw[List.getElem?_append_left pI,ajq] at Gg
              simp at Gg;subst Gg
              unfold Cy at lN;rw[EL] at lN;exact lN.2.2.1
             have are:=(Mm hE eK r (xl:=⟨i,uT.length - 1,s1.ts,AV.undef,.V9 h1⟩) (by simp) (ol:=⟨dst,.call c,ty,pos,after,guard⟩) ho rfl (fun j hj gX=>(QM j hj).resolve_left gX) he hw QN (by rw[←am9];exact hef) Ml
              (s2:={s1 with h:=h1}) rfl rfl jK (b:=b) (k:=k) ops.size (w.tape w.drawn (.order b.fn id)) (IF r hs.ts ok) (by simp) (by simp)).is
             obtain ⟨φ',a',w',v',todo,x0,x1,x2,x3,x4,x5⟩:=are
             refine ⟨φ',a',w',v',todo,x0,x1,x2,x3,x4,.head stepR_region_draw ?_⟩
             rw[am8]
             exact x5
           · simp at hp
         · simp at hp
       · simp at hp
     · simp at hp
   · simp at h
end Go.Ab
end
section
namespace Go.Ab
variable {E:Env}
def QS (P:Program) (m:Machine) (b:Frame) (k:List Item) (cs:List Frame):Exit→Act→World→Prop
 | .normal,a,w=>Steps P m (lone (b.atR a k) cs w)
 | .exit id,a,w=>∃todo,exitTo id todo=exitTo id k∧Steps P m (lone (b.atR a (.code (.exit id)::todo)) cs w)
 | .ret,a,w=>∃todo,Steps P m (lone (b.atR a (.code .ret::todo)) cs w)
 | .panic chain,a,w=>∃todo,Steps P m (lone {b.atR a todo with mode:= .panicking chain} cs w)
 | _,_,_=>False
theorem QS.of_steps {P:Program} {m m':Machine} {b:Frame} {k:List Item} {cs:List Frame} {e:Exit} {a:Act} {w:World} (hs:Steps P m m') (h:QS P m' b k cs e a w):QS P m b k cs e a w:=by
 cases e with
 | normal=>exact Steps.trans hs h
 | exit id=>obtain ⟨t,h1,h2⟩:=h;exact ⟨t,h1,Steps.trans hs h2⟩
 | ret=>obtain ⟨t,h2⟩:=h;exact ⟨t,Steps.trans hs h2⟩
 | panic c=>obtain ⟨t,h2⟩:=h;exact ⟨t,Steps.trans hs h2⟩
 | goto l=>exact h.elim
 | outgrown=>exact h.elim
theorem QS.pass {P:Program} {m:Machine} {b:Frame} {x:Item} {k:List Item} {cs:List Frame} {e:Exit} {a:Act} {w:World} (hx:∀id,exitTo id (x::k)=exitTo id k) (hn:e≠ .normal) (h:QS P m b (x::k) cs e a w):QS P m b k cs e a w:=by
 cases e with
 | normal=>exact absurd rfl hn
 | exit id=>obtain ⟨t,h1,h2⟩:=h;exact ⟨t,h1.trans (hx id),h2⟩
 | ret=>exact h
 | panic c=>exact h
 | goto l=>exact h.elim
 | outgrown=>exact h.elim
structure va (E:Env) (φ:Ph) (h:az) (w:World) (b:Frame) (K:Bool→List Frame) (k:List Item) (m:Machine) (e:oP) (s':St):Prop where
 is:∃φ' w' a' e',ExR φ' e e'∧SR φ' s'.ts s'.ds a'∧OK E φ' s'.h w'∧Fr φ h w φ' s'.h w'∧ru φ' b K s'.rc∧QS E.P m b k (cur K s'.rc) e' a' w'
theorem va.of_steps {φ:Ph} {h:az} {w:World} {b:Frame} {K:Bool→List Frame} {k:List Item} {m m':Machine} {e:oP} {s':St} (hs:Steps E.P m m') (x:va E φ h w b K k m' e s'):va E φ h w b K k m e s':=by
 obtain ⟨φ',w',a',e',h1,h2,h3,h4,h5,h6⟩:=x.is
 exact ⟨φ',w',a',e',h1,h2,h3,h4,h5,.of_steps hs h6⟩
theorem va.later {φ φ₁:Ph} {h h₁:az} {w w₁:World} {b:Frame} {K:Bool→List Frame} {k:List Item} {m:Machine} {e:oP} {s':St} (f:Fr φ h w φ₁ h₁ w₁) (x:va E φ₁ h₁ w₁ b K k m e s'):va E φ h w b K k m e s':=by
 obtain ⟨φ',w',a',e',h1,h2,h3,h4,h5,h6⟩:=x.is
 exact ⟨φ',w',a',e',h1,h2,h3,f.trans h4,h5,h6⟩
theorem OK.made {φ:Ph} {h h':az} {w:World} (ok:OK E φ h w) {o:aN} {O:Obj} (hn:h.new o=some h') (ho:OR E (φ.add h.nx ⟨w.heap.size,0,0⟩) o ⟨w.heap.size,0,0⟩ (some O)):
 OK E (φ.add h.nx ⟨w.heap.size,0,0⟩) h' (w.alloc O)∧Fr φ h w (φ.add h.nx ⟨w.heap.size,0,0⟩) h' (w.alloc O)∧φ.le (φ.add h.nx ⟨w.heap.size,0,0⟩):=
 ok.fresh (w':=w.alloc O) hn ⟨w.heap.size,0,0⟩ (by rw[show (w.alloc O).heap=w.heap.push O from rfl];simpa using ho)
  (fun c gX hc=>by rw[show (w.alloc O).heap=w.heap.push O from rfl,Array.getElem?_push,if_neg (by simpa using gX)]) (by simp) (Nat.le_refl _) rfl rfl rfl
theorem OK.ajr {φ:Ph} {h:az} {w:World} (ok:OK E φ h w) {i:Nat} {o o':aN} {l:Loc} (hg:h.get i=some o) (Qb:o.rw=true) (hl:φ i=some l) {O:Obj} (ho:OR E φ o' l (some O)):
 OK E φ (h.put i (some o')) (w.putObj l.fB O)∧Fr φ h w φ (h.put i (some o')) (w.putObj l.fB O):=by
 have pI:l.fB<w.heap.size:=by
  rcases Nat.lt_or_ge l.fB w.heap.size with h1 | h1
  · exact h1
  · have:=ok.live i o l hg hl
    rw[Array.getElem?_eq_none h1] at this
    exact this.absurd.elim
 exact ok.change hg Qb hl (by rw[World.putObj_heap_same pI];exact ho) (fun c hc=>World.putObj_heap_other hc) World.putObj_size rfl rfl rfl
theorem OK.shut {φ:Ph} {h:az} {w:World} (ok:OK E φ h w) {i:Nat} {o:aN} {l:Loc} (hg:h.get i=some o) (Qb:o.rw=true) (hl:φ i=some l) (O:Obj):
 OK E φ (h.put i none) (w.putObj l.fB O)∧Fr φ h w φ (h.put i none) (w.putObj l.fB O):=by
 have jU:∀j p,(h.put i none).get j=some p→h.get j=some p∧j≠i:=fun j p hj=>by
  by_cases e:i=j
  · subst e;rw[az.cY] at hj;simp at hj
  · rw[az.bQ e] at hj;exact ⟨hj,Ne.symm e⟩
 refine ⟨⟨ok.EF,ok.nx,ok.yh,fun j p m hj hm=>?_,fun j k p q m n hj hk=>ok.inj j k p q m n (jU j p hj).1 (jU k q hk).1⟩,
  ⟨Ph.le_refl φ,fun _ _=>rfl,Nat.le_refl _,rfl,rfl,rfl,by simp,fun b _ hn=>World.putObj_heap_other (fun e=>hn i o l hg Qb hl e.symm),fun j p m hj hr hm=> .inr ⟨j,p,m,(jU j p hj).1,hr,hm,rfl⟩⟩⟩
 obtain ⟨tu,gX⟩:=jU j p hj
 rw[World.putObj_heap_other (fun e=>gX (ok.inj j i p o m l tu hg hm hl (.inr Qb) e))]
 exact ok.live j p m tu hm
theorem QT {s:St} {dn:Nat} {h1:az} {ds1:List Ae} (ho:aaB s=some (dn,h1,ds1)) {φ:Ph} {a:Act} {w:World} {b:Frame} {K:Bool→List Frame} (hs:SR φ s.ts s.ds a) (ok:OK E φ s.h w) (jK:ru φ b K s.rc)
 (ps:Array Tmp) (as_ bd:Code):∃φ1 w1 ld mark,φ.le φ1∧OK E φ1 h1 w1∧Fr φ s.h w φ1 h1 w1∧φ1 dn=some ld∧SR φ1 s.ts ds1 {a with defers:=mark++a.defers}∧
  (Instr.enterLoop b.fn a.tmps ps as_ bd b.roundOf).run E.P w= .ok (w1.heap.size,mark) (w1.alloc (.loop {state:= .ready,pending:=none,fn:=b.fn,tmps:=a.tmps,params:=ps,assign:=as_,body:=bd,defers:=ld.fB})):=by
 unfold aaB at ho
 split at ho
 · rename_i l hl
   split at ho
   · rename_i st pd ts xM Ce bd' dn' hg
     simp at ho;obtain ⟨rfl,rfl,rfl⟩:=ho
     rw[hl] at jK
     obtain ⟨ll,hφ,hro⟩:=jK
     obtain ⟨_,r,hr,ES⟩:=ok.live _ _ _ hg hφ
     obtain ⟨ld,hd1,hd2⟩:=ES.defers
     refine ⟨φ,w,ld,[],Ph.le_refl φ,ok,Fr.refl _ _ _,hd1,⟨hs.ts,hs.ds⟩,?_⟩
     rw[hro,run_enterLoop_inner hr,hd2]
   · simp at ho
 · rename_i K6
   split at ho
   · rename_i h1' hn
     simp at ho;obtain ⟨rfl,rfl,rfl⟩:=ho
     obtain ⟨QP,fr1,hle⟩:=ok.made (O:= .deferred (some [])) hn ⟨rfl,rfl⟩
     have j6:(φ.add s.h.nx ⟨w.heap.size,0,0⟩) s.h.nx=some ⟨w.heap.size,0,0⟩:=by simp [Ph.add]
     refine ⟨_,_,⟨w.heap.size,0,0⟩,[{target:= .collected w.heap.size,args:= #[]}],hle,QP,fr1,j6,⟨hs.ts.mono hle,⟨_,j6,rfl⟩,hs.ds.mono hle⟩,?_⟩
     rw[jK.plain (Ix K6),run_enterLoop_outer]
     simp
   · simp at ho
theorem aa0 {c:Code} {e:oP} (h:V_ (some c)=some e):(∃id,c= .exit id∧e= .exit id)∨(c= .ret∧e= .ret):=by
 cases c<;>simp [V_] at h
 · exact .inl ⟨_,rfl,h.symm⟩
 · exact .inr ⟨rfl,h.symm⟩
theorem N6 {call:b8} (eK:kS E call) {f:Operand} {ps:Array Tmp} {as_ bd:Code} {s s':St} {e:oP} (h:To E call f ps as_ bd s= .ok e s')
 {φ:Ph} {a:Act} {w:World} {b:Frame} {k:List Item} {K:Bool→List Frame} (hs:SR φ s.ts s.ds a) (ok:OK E φ s.h w) (jK:ru φ b K s.rc) (K7:(E.P.funcs[b.fn]?).isSome=true):
 va E φ s.h w b K k (lone (b.atR a (.code (.rangeFunc f ps as_ bd)::k)) (cur K s.rc) w) e s':=by
 unfold To at h
 split at h
 · rename_i g first captured hf
   split at h
   · rename_i dn h1 ds1 ho
     split at h
     · rename_i h2 hn
       have hfv:=rp ok.gl hs.ts hf
       generalize oD:a.eval f=cv at hfv
       obtain ⟨fs',lj,rfl,hfs,hcs⟩:=hfv.Cm
       obtain ⟨φ1,w1,ld,mark,ana,QP,fr1,hld,Ax,A_⟩:=QT ho hs ok jK ps as_ bd
       obtain ⟨Lh,fr2,afL⟩:=QP.made (O:= .loop {state:= .ready,pending:=none,fn:=b.fn,tmps:=a.tmps,params:=ps,assign:=as_,body:=bd,defers:=ld.fB}) hn
        ⟨rfl,_,rfl,⟨rfl,rfl,hs.ts.mono (Ph.le_trans ana (fun j m hm=>by
         unfold Ph.add;split
         · rename_i e;subst e;exact absurd (QP.EF _ _ hm) (Nat.lt_irrefl _)
         · exact hm)),rfl,rfl,rfl,⟨ld,by
         unfold Ph.add;split
         · rename_i e;subst e;exact absurd (QP.EF _ _ hld) (Nat.lt_irrefl _)
         · exact hld,rfl⟩,K7⟩⟩
       have hle:=Ph.le_trans ana afL
       have j6:(φ1.add h1.nx ⟨w1.heap.size,0,0⟩) h1.nx=some ⟨w1.heap.size,0,0⟩:=by simp [Ph.add]
       generalize hφ2:φ1.add h1.nx ⟨w1.heap.size,0,0⟩=φ2 at Lh fr2 afL hle j6
       have hl:LR φ2 (first++[.Ey h1.nx]++captured) (fs'.toList++[.func (.yield w1.heap.size) #[] #[]]++lj.toList):=
        ((hfs.mono hle).append (.cons (.yield j6) (.nil φ2))).append (hcs.mono hle)
       have aa1:∀w',(resolve a.eval (rangeCall f w1.heap.size) 0).run E.P w'= .ok {target:= .fn (.func g) lj,args:=fs'++ #[.func (.yield w1.heap.size) #[] #[]]} w':=fun w'=>by
        have arf:a.eval (.const (.func (.yield w1.heap.size) #[] #[]))= .func (.yield w1.heap.size) #[] #[]:=rfl
        simp [resolve,Deferred.ofValue,oD,arf]
       have start:∀n st,sO E φ2 (w1.alloc (.loop {state:= .ready,pending:=none,fn:=b.fn,tmps:=a.tmps,params:=ps,assign:=as_,body:=bd,defers:=ld.fB})) (.fn g) (fs'.toList++[.func (.yield w1.heap.size) #[] #[]]++lj.toList) n st→
        step E.P (lone (b.atR a (.code (.rangeFunc f ps as_ bd)::k)) (cur K s.rc) w)= .next (lone st (b.atR {a with defers:=mark++a.defers} (.inRangeFunc w1.heap.size::k)::cur K s.rc)
         (w1.alloc (.loop {state:= .ready,pending:=none,fn:=b.fn,tmps:=a.tmps,params:=ps,assign:=as_,body:=bd,defers:=ld.fB}))):=fun n st hp=>by
        cases hp with
        | fn _ _ hr=>
         have hinv:(invoke (Target.fn (.func g) lj) (fs'++ #[.func (.yield w1.heap.size) #[] #[]])).run E.P (w1.alloc (.loop {state:= .ready,pending:=none,fn:=b.fn,tmps:=a.tmps,params:=ps,assign:=as_,body:=bd,defers:=ld.fB}))=
          .ok (.enter g (fs'.toList++[Value.func (.yield w1.heap.size) #[] #[]]++lj.toList).toArray) (w1.alloc (.loop {state:= .ready,pending:=none,fn:=b.fn,tmps:=a.tmps,params:=ps,assign:=as_,body:=bd,defers:=ld.fB})):=by
          have e:(fs'.toList++[Value.func (.yield w1.heap.size) #[] #[]]++lj.toList).toArray=fs'++ #[Value.func (.yield w1.heap.size) #[] #[]]++lj:=by
           apply Array.toList_inj.1;simp
          rw[e] at hr ⊢
          simpa [invoke] using hr
         exact stepR_rangeFunc A_ (aa1 _) hinv
       split at h
       ·
        rename_i v h3 hc
        obtain ⟨n,st,hp,jP⟩:=eK.ret _ _ _ _ _ hc φ2 _ _ Lh trivial hl
        obtain ⟨φ3,w3,v',_,ok3,fr3,lN⟩:=jP (b.atR {a with defers:=mark++a.defers} (.inRangeFunc w1.heap.size::k)) (cur K s.rc)
        rw[finish_atR_inRangeFunc] at lN
        split at h
        · simp at h
        · rename_i st' mJ pQ xM Ce bd' dn' K6 hg
          split at h
          · rename_i e1 hj
            simp at h;obtain ⟨rfl,rfl⟩:=h
            have hl3:=fr3.ext _ _ j6
            obtain ⟨_,r,hr,ES⟩:=ok3.live _ _ _ hg hl3
            have anb:r.state≠ .busy:=by rw[ES.state];intro e;subst e;exact K6 rfl
            obtain ⟨ok4,fr4⟩:=ok3.ajr (o':= .loop .exhausted mJ pQ xM Ce bd' dn') hg rfl hl3 (O:= .loop {r with state:= .exhausted}) ⟨rfl,_,rfl,⟨rfl,ES.pending,ES.tmps,ES.params,ES.assign,ES.body,ES.defers,ES.fn⟩⟩
            obtain ⟨W4,hW4⟩:∃W4,W4=w3.putObj w1.heap.size (.loop {r with state:= .exhausted}):=⟨_,rfl⟩
            have ok4:OK E φ3 (h3.put h1.nx (some (.loop .exhausted mJ pQ xM Ce bd' dn'))) W4:=by rw[hW4];exact ok4
            have fr4:Fr φ3 h3 w3 φ3 (h3.put h1.nx (some (.loop .exhausted mJ pQ xM Ce bd' dn'))) W4:=by rw[hW4];exact fr4
            have anc:=stepR_endRangeFunc (P:=E.P) (b:=b) (a:={a with defers:=mark++a.defers}) (k:=k) (cs:=cur K s.rc) (run_endLoop hr anb)
            rw[←hW4] at anc
            have sv:=((fr1.trans fr2).trans fr3).trans fr4
            have lW:=Steps.trans (.head (start n st hp) lN) (.one anc)
            rw[ES.pending] at lW
            have ajs:=Ph.le_trans afL fr3.ext
            have aa2:=Ph.le_trans hle fr3.ext
            cases mJ with
            | none=>
             simp [V_] at hj;subst hj
             exact ⟨φ3,_,_,_,.normal,Ax.mono ajs,ok4,sv,jK.mono aa2,lW⟩
            | some c=>
             rcases aa0 hj with ⟨id,rfl,rfl⟩ | ⟨rfl,rfl⟩
             · exact ⟨φ3,_,_,_,.exit id,Ax.mono ajs,ok4,sv,jK.mono aa2,k,rfl,lW⟩
             · exact ⟨φ3,_,_,_,.ret,Ax.mono ajs,ok4,sv,jK.mono aa2,k,lW⟩
          · simp at h
        · simp at h
       ·
        rename_i v h3 hc
        simp at h;obtain ⟨rfl,rfl⟩:=h
        obtain ⟨n,st,hp,jP⟩:=eK.panic _ _ _ _ _ hc φ2 _ _ Lh trivial hl
        obtain ⟨φ3,w3,v',hv,ok3,fr3,lN⟩:=jP (b.atR {a with defers:=mark++a.defers} (.inRangeFunc w1.heap.size::k)) (cur K s.rc)
        rw[Frame.raise_atR] at lN
        exact ⟨φ3,w3,_,_,.panic v v' hv,Ax.mono (Ph.le_trans afL fr3.ext),ok3,(fr1.trans fr2).trans fr3,jK.mono (Ph.le_trans hle fr3.ext),_,.head (start n st hp) lN⟩
       · simp at h
     · simp at h
   · simp at h
 · simp at h
end Go.Ab
end
