import Derived.Orders
import Derived.Test.YtmbkbhleedecdaaGreatDoorA2
set_option linter.unusedVariables false
set_option linter.unusedSimpArgs false
section
namespace Go.Ab
variable {E:Env}
def DG (E:Env) (ts lZ:List AV) (op:Op):Prop:=∀x∈op.operands,dA E ts x=dA E lZ x
theorem wv {α β:Type} {f g:α→Option β}:∀{l:List α} (_:∀x∈l,f x=g x),dL f l=dL g l
 | [],_=>rfl
 | x::xs,h=>by simp only[dL,h x (by simp),wv (l:=xs) (fun y hy=>h y (by simp [hy]))]
theorem pf {ts lZ:List AV} {l:List Operand} (h:∀x∈l,dA E ts x=dA E lZ x):fO E ts l=fO E lZ l:=wv h
theorem qT {ts lZ:List AV}:∀{l:List (Nat×Operand)} (_:∀x∈l.map (·.2),dA E ts x=dA E lZ x),j0 E ts l=j0 E lZ l
 | [],_=>rfl
 | (i,o)::l,h=>by simp only[j0,h o (by simp),qT (l:=l) (fun y hy=>h y (by simp at hy ⊢;exact .inr hy))]
theorem su {ts lZ:List AV} {o:Option Operand} (h:∀x∈o.toArray,dA E ts x=dA E lZ x):mu E ts o=mu E lZ o:=by
 cases o with
 | none=>rfl
 | some o=>simp only[mu,h o (by simp)]
theorem wx {ts lZ:List AV} {c:Call} (h:∀x∈c.operands,dA E ts x=dA E lZ x):callee E ts c=callee E lZ c:=by
 unfold callee
 cases hc:c.callee with
 | value f=>
   have h1:dA E ts f=dA E lZ f:=h f (by simp [Call.operands,hc])
   have h2:fO E ts c.args.toList=fO E lZ c.args.toList:=pf (fun x hx=>h x (by simp [Call.operands,hc];exact .inr (by simpa using hx)))
   simp only[h1,h2]
 | invoke _ _=>rfl
 | builtin _=>rfl
theorem mQ {ts lZ:List AV} {c:Call} (h:∀x∈c.operands,dA E ts x=dA E lZ x):fO E ts c.args.toList=fO E lZ c.args.toList:=
 pf (fun x hx=>h x (by simp [Call.operands];exact .inr (by simpa using hx)))
theorem GZ {ts lZ:List AV} {op:Op} (h:DG E ts lZ op):bp E ts op=bp E lZ op:=by
 cases op with
 | call c=>
   have hc:=mQ (E:=E) (ts:=ts) (lZ:=lZ) (c:=c) h
   obtain ⟨callee,args,argTypes⟩:=c
   simp only at hc
   cases callee with
   | builtin b=>cases b<;>simp only[bp,hc]
   | value f=>cases f<;>simp only[bp,hc]
   | invoke r m=>simp only[bp]
 | build t ps=>
   have:j0 E ts ps.toList=j0 E lZ ps.toList:=qT (fun x hx=>h x (by simpa [Op.operands] using hx))
   simp only[bp,this]
 | makeFunc fn first captured=>
   cases fn with
   | func f=>
     have h1:fO E ts first.toList=fO E lZ first.toList:=pf (fun x hx=>h x (by simp [Op.operands];exact .inl (by simpa using hx)))
     have h2:fO E ts captured.toList=fO E lZ captured.toList:=pf (fun x hx=>h x (by simp [Op.operands];exact .inr (by simpa using hx)))
     simp only[bp,h1,h2]
   | _=>simp only[bp]
 | slice t x lo hi mx=>
   have h0:dA E ts x=dA E lZ x:=h x (by simp [Op.operands])
   have h1:mu E ts lo=mu E lZ lo:=su (fun y hy=>h y (by simp [Op.operands] at hy ⊢;exact .inr (.inl hy)))
   have h2:mu E ts hi=mu E lZ hi:=su (fun y hy=>h y (by simp [Op.operands] at hy ⊢;exact .inr (.inr (.inl hy))))
   have h3:mu E ts mx=mu E lZ mx:=su (fun y hy=>h y (by simp [Op.operands] at hy ⊢;exact .inr (.inr (.inr hy))))
   simp only[bp,h0,h1,h2,h3]
 | move x=>simp only[bp,h x (by simp [Op.operands])]
 | assign x=>simp only[bp,h x (by simp [Op.operands])]
 | pick c a b=>simp only[bp,h c (by simp [Op.operands]),h a (by simp [Op.operands]),h b (by simp [Op.operands])]
 | nilCheck x=>simp only[bp,h x (by simp [Op.operands])]
 | binOp o t x y u=>simp only[bp,h x (by simp [Op.operands]),h y (by simp [Op.operands])]
 | unOp o t x=>simp only[bp,h x (by simp [Op.operands])]
 | convert s d x=>simp only[bp,h x (by simp [Op.operands])]
 | makeInterface t x=>simp only[bp,h x (by simp [Op.operands])]
 | fieldAddr s x f=>simp only[bp,h x (by simp [Op.operands])]
 | field s x f=>simp only[bp,h x (by simp [Op.operands])]
 | indexAddr t x i=>simp only[bp,h x (by simp [Op.operands]),h i (by simp [Op.operands])]
 | index t x i=>simp only[bp,h x (by simp [Op.operands]),h i (by simp [Op.operands])]
 | extract x i=>simp only[bp,h x (by simp [Op.operands])]
 | typeAssert x a b ok=>simp only[bp,h x (by simp [Op.operands])]
 | _=>simp only[bp]
theorem G6 {ts lZ:List AV} {op:Op} (h:DG E ts lZ op) (hp:ax):dE E ts hp op=dE E lZ hp op:=by
 cases op with
 | call c=>
   have hc:=mQ (E:=E) (ts:=ts) (lZ:=lZ) (c:=c) h
   obtain ⟨callee,args,argTypes⟩:=c
   simp only at hc
   cases callee with
   | builtin b=>cases b<;>simp only[dE,hc]
   | value f=>simp only[dE]
   | invoke r m=>simp only[dE]
 | load t a=>simp only[dE,h a (by simp [Op.operands])]
 | convert s d x=>simp only[dE,h x (by simp [Op.operands])]
 | lookup t x i ok=>simp only[dE,h x (by simp [Op.operands]),h i (by simp [Op.operands])]
 | _=>simp only[dE]
theorem EK {ts lZ:List AV} {op:Op} (h:DG E ts lZ op):dZ E ts op=dZ E lZ op:=by
 cases op with
 | buildSlice t n ps=>
   have:j0 E ts ps.toList=j0 E lZ ps.toList:=qT (fun x hx=>h x (by simpa [Op.operands] using hx))
   simp only[dZ,this]
 | box t x=>simp only[dZ,h x (by simp [Op.operands])]
 | makeSlice t l c=>simp only[dZ,h l (by simp [Op.operands]),h c (by simp [Op.operands])]
 | makeMap t r=>
   cases r with
   | none=>simp only[dZ]
   | some r=>simp only[dZ,h r (by simp [Op.operands])]
 | range t x=>simp only[dZ,h x (by simp [Op.operands])]
 | _=>simp only[dZ]
theorem AX {call:a_} {ts lZ:List AV} {o:Oper} (h:DG E ts lZ o.op) (hp:ax) (rc:RC):cZ E call ts hp rc o=cZ E call lZ hp rc o:=by
 obtain ⟨dst,op,ty,pos,after,guard⟩:=o
 simp only at h
 unfold cZ
 cases op with
 | call c=>
   have hc:=mQ (E:=E) (ts:=ts) (lZ:=lZ) (c:=c) h
   have Dd:=wx (E:=E) (ts:=ts) (lZ:=lZ) (c:=c) h
   cases Ww:c.callee with
   | invoke r name=>
     have hr:dA E ts r=dA E lZ r:=h r (by simp [Op.operands,Call.operands,Ww])
     simp only[Ww,hc,hr]
   | builtin b=>cases b<;>simp only[Ww,hc]
   | value f=>simp only[Ww,Dd]
 | defer c=>simp only[wx (E:=E) (ts:=ts) (lZ:=lZ) (c:=c) h]
 | store t a x=>simp only[h a (by simp [Op.operands]),h x (by simp [Op.operands])]
 | mapUpdate t m k x=>simp only[h m (by simp [Op.operands]),h k (by simp [Op.operands]),h x (by simp [Op.operands])]
 | insert t m k x=>simp only[h m (by simp [Op.operands]),h k (by simp [Op.operands]),h x (by simp [Op.operands])]
 | mapEntry t m k=>simp only[h m (by simp [Op.operands]),h k (by simp [Op.operands])]
 | entryStore t m k x=>simp only[h m (by simp [Op.operands]),h k (by simp [Op.operands]),h x (by simp [Op.operands])]
 | convert s d x=>simp only[h x (by simp [Op.operands])]
 | next i s=>simp only[h i (by simp [Op.operands])]
 | panic x=>simp only[h x (by simp [Op.operands])]
 | _=>rfl
end Go.Ab
end
section
namespace Go.Ab
variable {E:Env}
theorem mA {α:Type} {f:α→α→Bool} (hf:∀x y,f x y=true→x=y):∀{l r:List α} (_:eU f l r=true),l=r
 | [],[],_=>rfl
 | [],_::_,h=>by simp [eU] at h
 | _::_,[],h=>by simp [eU] at h
 | x::xs,y::ys,h=>by
   simp only[eU,Bool.and_eq_true] at h
   rw[hf x y h.1,mA hf h.2]
theorem AV.wy:∀(n:Nat) (x y:AV),AV.same n x y=true→x=y
 | 0,_,_,h=>by simp [AV.same] at h
 | n+1,x,y,h=>by
   have ih:=AV.wy n
   cases x<;>cases y<;>simp [AV.same] at h<;>try rfl
   all_goals first
    | (subst h;rfl)
    | (obtain ⟨rfl,rfl⟩:=h;rfl)
    | (obtain ⟨⟨⟨⟨rfl,rfl⟩,rfl⟩,rfl⟩,rfl⟩:=h;rfl)
    | (obtain ⟨⟨rfl,h1⟩,h2⟩:=h;rw[mA ih h1,mA ih h2])
    | (obtain ⟨rfl,h1⟩:=h;rw[ih _ _ h1])
    | (rw[mA ih h])
theorem aK.wy {x y:aK} (h:aK.same x y=true):x=y:=by
 unfold aK.same at h
 split at h
 · simp only[Bool.and_eq_true,beq_iff_eq] at h
   obtain ⟨⟨h1,rfl⟩,rfl⟩:=h
   rw[mA (AV.wy 20) h1]
 · simp at h;subst h;rfl
 · simp at h;obtain ⟨rfl,rfl⟩:=h;rfl
 · simp at h
theorem vq:∀{l:List Nat} (_:nodup l=true),l.Nodup
 | [],_=> .nil
 | x::xs,h=>by
   simp only[nodup,Bool.and_eq_true,Bool.not_eq_true',List.contains_eq_mem,decide_eq_false_iff_not] at h
   exact List.nodup_cons.2 ⟨h.1,vq h.2⟩
theorem AY:∀(n:Nat) (l:List Nat) (_:l.Nodup) (_:∀x∈l,x<n),l.length≤n
 | 0,l,_,h=>by
   cases l with
   | nil=>simp
   | cons x _=>have:=h x (by simp);omega
 | n+1,l,hn,h=>by
   have h1:=AY n (l.erase n) (hn.erase n) (fun x hx=>by
    have h2:=h x (List.mem_of_mem_erase hx)
    have h3:x≠n:=(hn.mem_erase_iff.1 hx).1
    omega)
   rw[List.length_erase] at h1
   split at h1<;>omega
structure AZ (E:Env) (ops:Array Oper) (pl:bO):Prop where
 lt:∀i o j,ops[i]? =some o→dv pl.an i j=true→j<i
 direct:∀i o e,ops[i]? =some o→e∈ks o→e<i∧dv pl.an i e=true
 closed:∀i o j,ops[i]? =some o→dv pl.an i j=true→∃e∈ks o,e=j∨dv pl.an e j=true
 guard:∀i o g want,ops[i]? =some o→o.guard=some (g,want)→dv pl.an i g=true
 slot:∀i j o p d,i≠j→ops[i]? =some o→ops[j]? =some p→p.dst=some d→o.dst≠some d∧(d∈tmpsOf o→dv pl.an i j=true∨dv pl.an j i=true)
 chain:∀q e f,pl.bK[q]? =some e→pl.bK[q+1]? =some f→dv pl.an f e=true
 bK:pl.bK=mL E ops.toList
 nd:pl.bK.Nodup
 order:kt E ops pl.an pl.bK pl.order [] 0=true
theorem uc {ops:Array Oper} {i:Nat} {o:Oper} (h:ops[i]? =some o):(o,i)∈ops.toList.zipIdx:=by
 rw[List.mk_mem_zipIdx_iff_getElem?];simpa using h
theorem wz {an:List (List Nat)}:∀{l:List Nat} (_:tX an l=true) (q e f:Nat),l[q]? =some e→l[q+1]? =some f→dv an f e=true
 | [],_,q,e,f,h,_=>by simp at h
 | [x],_,q,e,f,h,h'=>by simp at h'
 | x::y::l,hc,q,e,f,h,h'=>by
   simp only[tX,Bool.and_eq_true] at hc
   cases q with
   | zero=>simp at h h';subst h;subst h';exact hc.1
   | succ q=>exact wz hc.2 q e f (by simpa using h) (by simpa using h')
theorem G7 {ops:Array Oper} {pl:bO} (h:sf E ops=some pl):AZ E ops pl:=by
 unfold sf at h
 simp only at h
 split at h
 · rename_i hc
   simp at h;subst h
   simp only[Bool.and_eq_true] at hc
   obtain ⟨⟨⟨⟨he,hs⟩,WD⟩,oS⟩,OJ⟩:=hc
   have Jc:=List.all_eq_true.1 he
   have qO:=List.all_eq_true.1 hs
   refine ⟨fun i o j ho hj=>?_,fun i o e ho hm=>?_,fun i o j ho hj=>?_,fun i o g want ho hg=>?_,fun i j o p d ea ho hp hd=>?_,wz WD,rfl,vq oS,OJ⟩
   · have:=Jc _ (uc ho)
     simp only[Bool.and_eq_true] at this
     have h2:=List.all_eq_true.1 this.2 j (by simpa [dv] using hj)
     simp only[Bool.and_eq_true,decide_eq_true_eq] at h2
     exact h2.1
   · have:=Jc _ (uc ho)
     simp only[Bool.and_eq_true] at this
     have h2:=List.all_eq_true.1 this.1 e hm
     simpa using h2
   · have:=Jc _ (uc ho)
     simp only[Bool.and_eq_true] at this
     have h2:=List.all_eq_true.1 this.2 j (by simpa [dv] using hj)
     simp only[Bool.and_eq_true,List.any_eq_true,Bool.or_eq_true,beq_iff_eq] at h2
     exact h2.2
   · have:=qO _ (uc ho)
     simp only[Bool.and_eq_true,hg] at this
     exact this.1.1
   · have:=qO _ (uc ho)
     simp only[Bool.and_eq_true] at this
     have h2:=List.all_eq_true.1 this.2 _ (uc hp)
     simp only[Bool.or_eq_true,beq_iff_eq,ea,false_or,hd,Bool.and_eq_true,bne_iff_ne,Bool.not_eq_true',List.contains_eq_mem,decide_eq_false_iff_not] at h2
     exact ⟨h2.1,fun hm=>(h2.2.imp_left (fun x=>x.resolve_left (fun hn=>hn hm)))⟩
 · simp at h
def qH (E:Env) (ops:Array Oper) (l:List Nat):Nat:=(l.filter fun i=>fw E ((ops.getD i default).op)).length
theorem EL {ops:Array Oper} {i:Nat} (l:List Nat) (h:fw E ((ops.getD i default).op)=true):qH E ops (i::l)=qH E ops l+1:=by
 unfold qH;rw[List.filter_cons_of_pos (p:=fun i=>fw E ((ops.getD i default).op)) h];rfl
theorem EM {ops:Array Oper} {i:Nat} (l:List Nat) (h:¬fw E ((ops.getD i default).op)=true):qH E ops (i::l)=qH E ops l:=by
 unfold qH;rw[List.filter_cons_of_neg (p:=fun i=>fw E ((ops.getD i default).op)) h]
theorem iv {ops:Array Oper} {an:List (List Nat)} {bK:List Nat}:∀{l seen:List Nat} {k:Nat} (_:kt E ops an bK l seen k=true),
 (∀p i,l[p]? =some i→i<ops.size∧i ∉ seen∧i ∉ l.take p∧(∀j,dv an i j=true→j∈seen∨j∈l.take p)∧
  (fw E ((ops.getD i default).op)=true→bK[k+qH E ops (l.take p)]? =some i)∧(fw E ((ops.getD i default).op)=false→bx bK an i=k+qH E ops (l.take p)))∧
 (∀i,i<ops.size→i∈seen∨i∈l)∧k+qH E ops l=bK.length
 | [],seen,k,h=>by
   simp only[kt,Bool.and_eq_true,List.all_eq_true,List.mem_range,beq_iff_eq] at h
   exact ⟨fun p i hp=>by simp at hp,fun i hi=> .inl (by simpa using h.1 i hi),by simpa [qH] using h.2⟩
 | i::l,seen,k,h=>by
   simp only[kt,Bool.and_eq_true,decide_eq_true_eq,Bool.not_eq_true',List.contains_eq_mem,decide_eq_false_iff_not] at h
   obtain ⟨⟨⟨lr,hns⟩,WH⟩,nD⟩:=h
   have Vj:∀j,dv an i j=true→j∈seen:=fun j hj=>by
    have:=List.all_eq_true.1 WH j (by simpa [dv] using hj)
    simpa using this
   by_cases he:fw E ((ops.getD i default).op)=true
   · simp only[he,if_true,Bool.and_eq_true,beq_iff_eq] at nD
     obtain ⟨h1,h2,h3⟩:=iv nD.2
     refine ⟨fun p j hp=>?_,fun j hj=>?_,?_⟩
     · cases p with
       | zero=>simp at hp;subst hp;exact ⟨lr,hns,by simp,fun j hj=> .inl (Vj j hj),fun _=>by simpa [qH] using nD.1,fun hf=>by rw[he] at hf;simp at hf⟩
       | succ p=>
         obtain ⟨a1,a2,a3,a4,a5,a6⟩:=h1 p j (by simpa using hp)
         have hc:k+qH E ops (List.take (p+1) (i::l))=k+1+qH E ops (l.take p):=by rw[List.take_succ_cons,EL _ he];omega
         simp only[List.mem_cons,not_or] at a2
         refine ⟨a1,a2.2,by simp;exact ⟨a2.1,a3⟩,fun m hm=>?_,by rw[hc];exact a5,by rw[hc];exact a6⟩
         rcases a4 m hm with h4 | h4
         · simp at h4;rcases h4 with rfl | h4
           · exact .inr (by simp)
           · exact .inl h4
         · exact .inr (by simp [h4])
     · rcases h2 j hj with h4 | h4
       · simp at h4;rcases h4 with rfl | h4
         · exact .inr (by simp)
         · exact .inl h4
       · exact .inr (by simp [h4])
     · rw[EL _ he];omega
   · simp only[he,Bool.false_eq_true,if_false,Bool.and_eq_true,beq_iff_eq] at nD
     obtain ⟨h1,h2,h3⟩:=iv nD.2
     refine ⟨fun p j hp=>?_,fun j hj=>?_,?_⟩
     · cases p with
       | zero=>simp at hp;subst hp;exact ⟨lr,hns,by simp,fun j hj=> .inl (Vj j hj),fun hf=>absurd hf he,fun _=>by simpa [qH] using nD.1⟩
       | succ p=>
         obtain ⟨a1,a2,a3,a4,a5,a6⟩:=h1 p j (by simpa using hp)
         have hc:k+qH E ops (List.take (p+1) (i::l))=k+qH E ops (l.take p):=by rw[List.take_succ_cons,EM _ he]
         simp only[List.mem_cons,not_or] at a2
         refine ⟨a1,a2.2,by simp;exact ⟨a2.1,a3⟩,fun m hm=>?_,by rw[hc];exact a5,by rw[hc];exact a6⟩
         rcases a4 m hm with h4 | h4
         · simp at h4;rcases h4 with rfl | h4
           · exact .inr (by simp)
           · exact .inl h4
         · exact .inr (by simp [h4])
     · rcases h2 j hj with h4 | h4
       · simp at h4;rcases h4 with rfl | h4
         · exact .inr (by simp)
         · exact .inl h4
       · exact .inr (by simp [h4])
     · rw[EM _ he];exact h3
def gI (ops:Array Oper) (i:Nat):Option Tmp:=(ops[i]?).bind (·.dst)
def EN (ops:Array Oper) (ts:List AV) (l:List Step):List AV:=l.foldl (fun ts x=>dB ts (gI ops x.i) x.v) ts
def oT (ops:Array Oper) (val:Nat→AV) (ts:List AV) (l:List Nat):List AV:=l.foldl (fun ts i=>dB ts (gI ops i) (val i)) ts
structure Grown (a b:ax):Prop where
 nx:a.nx≤b.nx
 old:∀i,i<a.nx→b.get i=a.get i
theorem Grown.refl (a:ax):Grown a a:=⟨Nat.le_refl _,fun _ _=>rfl⟩
theorem Grown.trans {a b c:ax} (x:Grown a b) (y:Grown b c):Grown a c:=⟨Nat.le_trans x.nx y.nx,fun i hi=>(y.old i (Nat.lt_of_lt_of_le hi x.nx)).trans (x.old i hi)⟩
theorem Grown.new {a b:ax} {o:aK} (h:a.new o=some b):Grown a b:=by
 obtain ⟨h1,h2,h3,h4⟩:=ax.lq h
 exact ⟨by omega,fun i hi=>h4 i (by omega)⟩
theorem OK.grown {φ:Ph} {a b:ax} {w:World} (g:Grown a b) (ok:OK E φ a w):OK E φ b w∧Fr φ a w φ b w:=by
 have hold:∀i l,φ i=some l→b.get i=a.get i:=fun i l hl=>g.old i (ok.zf i l hl)
 refine ⟨⟨fun i l hl=>Nat.lt_of_lt_of_le (ok.zf i l hl) g.nx,Nat.le_trans ok.nx g.nx,ok.uG,fun i o l hi hl=>ok.live i o l (hold i l hl▸hi) hl,
  fun i j o p l m hi hj hl hm hw hb=>ok.inj i j o p l m (hold i l hl▸hi) (hold j m hm▸hj) hl hm hw hb⟩,
  ⟨Ph.le_refl φ,fun _ _=>rfl,g.nx,rfl,rfl,rfl,Nat.le_refl _,fun _ _ _=>rfl,fun i o l hi hr hl=> .inr ⟨i,o,l,hold i l hl▸hi,hr,hl,rfl⟩⟩⟩
def wB (E:Env) (call:a_) (ops:Array Oper) (rc:RC) (x:Step) (o:Oper) (hk:ax) (sk:ax) (Vk:Option ax):Prop:=
 match x.kind with
 | .off=>cm ops x.ts o=false∧x.v=AV.undef∧(fw E o.op=true→Vk=some hk)
 | .gG=>fw E o.op=false∧cm ops x.ts o=true∧bp E x.ts o.op=some x.v
 | .red=>fw E o.op=false∧cm ops x.ts o=true
 | .sg n obj=>fw E o.op=false∧cm ops x.ts o=true∧(∃mk,dZ E x.ts o.op=some (obj,mk)∧x.v=mk n)∧sk.nx≤n∧n<hk.nx
 | .uF h'=>fw E o.op=true∧cm ops x.ts o=true∧cZ E call x.ts hk rc o= .val x.v h'∧Vk=some h'
structure Ta (E:Env) (call:a_) (ops:Array Oper) (s:St) (k:Nat) (order:List Nat) (tr:List Step) (hs st:List ax) (s':St):Prop where
 is:tr.map (·.i)=order
 ts:s'.ts=EN ops s.ts tr
 ds:s'.ds=s.ds
 rc:s'.rc=s.rc
 len:hs.length=qH E ops order+1
 WI:st.length=hs.length
 first:st[0]? =some s.h
 last:hs[qH E ops order]? =some s'.h
 grown:∀(j:Nat) (a b:ax),st[j]? =some a→hs[j]? =some b→Grown a b
 step:∀(p:Nat) (x:Step),tr[p]? =some x→x.ts=EN ops s.ts (tr.take p)∧x.k=k+qH E ops (order.take p)∧
  ∃o hk sk,ops[x.i]? =some o∧hs[qH E ops (order.take p)]? =some hk∧st[qH E ops (order.take p)]? =some sk∧wB E call ops s.rc x o hk sk (st[qH E ops (order.take p)+1]?)
theorem ud (ops:Array Oper) (ts:List AV) (x:Step) (l:List Step):EN ops ts (x::l)=EN ops (dB ts (gI ops x.i) x.v) l:=rfl
theorem nJ {call:a_} {ops:Array Oper}:∀{order:List Nat} {k:Nat} {s:St} {tr:List Step} {hs:List ax} {s':St} (_:cM E call ops order k s= .ok tr hs s'),
 ∃st,Ta E call ops s k order tr hs st s'
 | [],k,s,tr,hs,s',h=>by
   simp [cM] at h;obtain ⟨rfl,rfl,rfl⟩:=h
   exact ⟨[s.h],rfl,rfl,rfl,rfl,rfl,rfl,rfl,rfl,fun j a b ha hb=>by
    cases j with
    | zero=>simp at ha hb;subst ha;subst hb;exact Grown.refl _
    | succ j=>simp at ha,fun p x hp=>by simp at hp⟩
 | i::rest,k,s,tr,hs,s',h=>by
   simp only[cM] at h
   cases ho:ops[i]? with
   | none=>rw[ho] at h;simp at h
   | some o=>
   rw[ho] at h
   simp only at h
   have YX:ops.getD i default=o:=by simp [Array.getD_eq_getD_getElem?,ho]
   have Tb:gI ops i=o.dst:=by simp [gI,ho]
   have writes:∀(x:Step) (s1:St),x.i=i→x.k=k→x.ts=s.ts→s1.ts=dB s.ts o.dst x.v→s1.ds=s.ds→s1.rc=s.rc→fw E o.op=true→
    wB E call ops s.rc x o s.h s.h (some s1.h)→((cM E call ops rest (k+1) s1).bound s.h).step x= .ok tr hs s'→∃st,Ta E call ops s k (i::rest) tr hs st s':=by
    intro x s1 MR EO hxt h1 h2 h3 he il hd
    cases hr:cM E call ops rest (k+1) s1 with
    | fail why q=>rw[hr] at hd;simp [jI.bound,jI.step] at hd
    | ok Ll qQ s2=>
      rw[hr] at hd;simp [jI.bound,jI.step] at hd;obtain ⟨rfl,rfl,rfl⟩:=hd
      obtain ⟨N8,t⟩:=nJ hr
      have hc:∀l,qH E ops (i::l)=qH E ops l+1:=fun l=>EL l (by rw[YX];exact he)
      refine ⟨s.h::N8,by simp [MR,t.is],?_,t.ds.trans h2,t.rc.trans h3,by simp [t.len,hc],by simp [t.WI],rfl,by rw[hc];simpa using t.last,fun j a b ha hb=>?_,fun p y hp=>?_⟩
      · rw[ud,MR,Tb,←h1];exact t.ts
      · cases j with
        | zero=>simp at ha hb;subst ha;subst hb;exact Grown.refl _
        | succ j=>exact t.grown j a b (by simpa using ha) (by simpa using hb)
      · cases p with
        | zero=>
          simp at hp;subst hp
          refine ⟨by simp [EN,hxt],by simp [qH,EO],o,s.h,s.h,by rw[MR];exact ho,by simp [qH],by simp [qH],?_⟩
          have:(s.h::N8)[qH E ops (List.take 0 (i::rest))+1]? =some s1.h:=by simp [qH];exact t.first
          rw[this];exact il
        | succ p=>
          obtain ⟨a1,a2,o2,hk,sk,a3,a4,a5,a6⟩:=t.step p y (by simpa using hp)
          refine ⟨?_,by rw[List.take_succ_cons,hc];omega,o2,hk,sk,a3,by rw[List.take_succ_cons,hc];simpa using a4,by rw[List.take_succ_cons,hc];simpa using a5,?_⟩
          · rw[List.take_succ_cons,ud,MR,Tb,←h1];exact a1
          · rw[List.take_succ_cons,hc,h3] at *
            simpa using a6
   have plain:∀(x:Step) (s1:St),x.i=i→x.k=k→x.ts=s.ts→s1.ts=dB s.ts o.dst x.v→s1.ds=s.ds→s1.rc=s.rc→fw E o.op=false→Grown s.h s1.h→
    (∀hk sn,Grown s1.h hk→wB E call ops s.rc x o hk s.h sn)→(cM E call ops rest k s1).step x= .ok tr hs s'→∃st,Ta E call ops s k (i::rest) tr hs st s':=by
    intro x s1 MR EO hxt h1 h2 h3 he hg il hd
    cases hr:cM E call ops rest k s1 with
    | fail why q=>rw[hr] at hd;simp [jI.step] at hd
    | ok Ll qQ s2=>
      rw[hr] at hd;simp [jI.step] at hd;obtain ⟨rfl,rfl,rfl⟩:=hd
      obtain ⟨N8,t⟩:=nJ hr
      have hc:∀l,qH E ops (i::l)=qH E ops l:=fun l=>EM l (by rw[YX];simp [he])
      cases oU:N8 with
      | nil=>have:=t.first;rw[oU] at this;simp at this
      | cons s0 st2=>
      have SD:s0=s1.h:=by have:=t.first;rw[oU] at this;simpa using this
      subst SD
      have fG:∀j,(s.h::st2)[j+1]? =N8[j+1]? :=fun j=>by rw[oU];rfl
      refine ⟨s.h::st2,by simp [MR,t.is],?_,t.ds.trans h2,t.rc.trans h3,by rw[hc];exact t.len,by have:=t.WI;rw[oU] at this;simpa using this,rfl,by rw[hc];exact t.last,fun j a b ha hb=>?_,fun p y hp=>?_⟩
      · rw[ud,MR,Tb,←h1];exact t.ts
      · cases j with
        | zero=>
          simp at ha;subst ha
          exact hg.trans (t.grown 0 _ b t.first hb)
        | succ j=>rw[fG] at ha;exact t.grown (j+1) a b ha hb
      · cases p with
        | zero=>
          simp at hp;subst hp
          have h0:∃hk,qQ[0]? =some hk:=by
           have:=t.len
           cases hh:qQ with
           | nil=>rw[hh] at this;simp at this
           | cons a _=>exact ⟨a,rfl⟩
          obtain ⟨hk,zo⟩:=h0
          refine ⟨by simp [EN,hxt],by simp [qH,EO],o,hk,s.h,by rw[MR];exact ho,by simpa [qH] using zo,by simp [qH],?_⟩
          exact il hk _ (t.grown 0 _ hk t.first zo)
        | succ p=>
          obtain ⟨a1,a2,o2,hk,sk,a3,a4,a5,a6⟩:=t.step p y (by simpa using hp)
          have ZF:∃sk',(s.h::st2)[qH E ops (List.take p rest)]? =some sk'∧sk'.nx≤sk.nx:=by
           cases hq:qH E ops (List.take p rest) with
           | zero=>rw[hq] at a5;rw[t.first] at a5;simp at a5;subst a5;exact ⟨s.h,rfl,hg.nx⟩
           | succ q=>rw[hq] at a5;exact ⟨sk,by rw[fG];exact a5,Nat.le_refl _⟩
          obtain ⟨sk',abY,abZ⟩:=ZF
          refine ⟨?_,by rw[List.take_succ_cons,hc];exact a2,o2,hk,sk',a3,by rw[List.take_succ_cons,hc];exact a4,by rw[List.take_succ_cons,hc];exact abY,?_⟩
          · rw[List.take_succ_cons,ud,MR,Tb,←h1];exact a1
          · rw[List.take_succ_cons,hc,fG,←h3]
            unfold wB at a6 ⊢
            split<;>rename_i wC<;>rw[wC] at a6
            · exact a6
            · exact a6
            · exact a6
            · exact ⟨a6.1,a6.2.1,a6.2.2.1,Nat.le_trans abZ a6.2.2.2.1,a6.2.2.2.2⟩
            · exact a6
   split at h
   · rename_i he
     split at h
     · rename_i hw
       split at h
       · rename_i v h' ss
         exact writes ⟨i,k,s.ts,v,.uF h'⟩ {s with ts:=dB s.ts o.dst v,h:=h'} rfl rfl rfl rfl rfl rfl he ⟨he,hw,ss,rfl⟩ h
       · simp at h
       · simp at h
     · rename_i hw
       exact writes ⟨i,k,s.ts,AV.undef,.off⟩ {s with ts:=dB s.ts o.dst AV.undef} rfl rfl rfl rfl rfl rfl he ⟨by simpa using hw,rfl,fun _=>rfl⟩ h
   · rename_i he
     have Jc:fw E o.op=false:=by simpa using he
     split at h
     · rename_i hw
       split at h
       · rename_i v hp
         exact plain ⟨i,k,s.ts,v,.gG⟩ {s with ts:=dB s.ts o.dst v} rfl rfl rfl rfl rfl rfl Jc (Grown.refl _) (fun hk sn _=>⟨Jc,hw,hp⟩) h
       · split at h
         · rename_i v hp
           exact plain ⟨i,k,s.ts,v,.red⟩ {s with ts:=dB s.ts o.dst v} rfl rfl rfl rfl rfl rfl Jc (Grown.refl _) (fun hk sn _=>⟨Jc,hw⟩) h
         · split at h
           · rename_i obj mk hp
             split at h
             · rename_i h' hn
               refine plain ⟨i,k,s.ts,mk s.h.nx,.sg s.h.nx obj⟩ {s with ts:=dB s.ts o.dst (mk s.h.nx),h:=h'} rfl rfl rfl rfl rfl rfl Jc (Grown.new hn) (fun hk sn g=>⟨Jc,hw,⟨mk,hp,rfl⟩,Nat.le_refl _,?_⟩) h
               have:=(ax.lq hn).2.1
               have:=g.nx
               simp at this;omega
             · simp at h
           · simp at h
     · rename_i hw
       exact plain ⟨i,k,s.ts,AV.undef,.off⟩ {s with ts:=dB s.ts o.dst AV.undef} rfl rfl rfl rfl rfl rfl Jc (Grown.refl _) (fun hk sn _=>⟨by simpa using hw,rfl,fun h=>by rw[Jc] at h;simp at h⟩) h
end Go.Ab
end
section
namespace Go.Ab
variable {E:Env}
theorem ue (ops:Array Oper) (val:Nat→AV) (x:Nat):∀(l:List Nat) (ts:List AV) (_:∀j∈l,gI ops j≠some x),(oT ops val ts l)[x]? =ts[x]?
 | [],_,_=>rfl
 | i::l,ts,h=>by
   show (oT ops val (dB ts (gI ops i) (val i)) l)[x]? =_
   rw[ue ops val x l _ (fun j hj=>h j (by simp [hj]))]
   have:=h i (by simp)
   cases hd:gI ops i with
   | none=>rfl
   | some d=>
     rw[hd] at this
     have ea:d≠x:=fun e=>this (by rw[e])
     simp [dB,List.getElem?_set_ne ea]
theorem A0 (ops:Array Oper) (val:Nat→AV) (x j:Nat) (hj:gI ops j=some x):∀(l:List Nat) (ts:List AV) (_:j∈l) (_:∀j'∈l,gI ops j'=some x→j'=j),(oT ops val ts l)[x]? =if x<ts.length then some (val j) else none
 | i::l,ts,hm,hu=>by
   show (oT ops val (dB ts (gI ops i) (val i)) l)[x]? =_
   have hlen:(dB ts (gI ops i) (val i)).length=ts.length:=by cases gI ops i<;>simp [dB]
   by_cases Lm:j∈l
   · rw[A0 ops val x j hj l _ Lm (fun j' h=>hu j' (by simp [h])),hlen]
   · have hij:i=j:=by simp at hm;rcases hm with h | h;exact h.symm;exact absurd h Lm
     subst hij
     rw[ue ops val x l _ (fun j' oQ e=>Lm (hu j' (by simp [oQ]) e▸oQ))]
     rw[hj]
     simp [dB,List.getElem?_set]
theorem vr {ops:Array Oper} {val:Nat→AV} {x:Nat} {l d:List Nat} (ts:List AV) (hu:∀j j',gI ops j=some x→gI ops j'=some x→j=j') (Vl:∀j,gI ops j=some x→(j∈l↔j∈d)):
 (oT ops val ts l)[x]? =(oT ops val ts d)[x]? :=by
 by_cases h:∃j,gI ops j=some x∧j∈l
 · obtain ⟨j,hj,hl⟩:=h
   rw[A0 ops val x j hj l ts hl (fun j' _ e=>hu j' j e hj),A0 ops val x j hj d ts ((Vl j hj).1 hl) (fun j' _ e=>hu j' j e hj)]
 · rw[ue ops val x l ts (fun j hj e=>h ⟨j,e,hj⟩),ue ops val x d ts (fun j hj e=>h ⟨j,e,(Vl j e).2 hj⟩)]
theorem yu {l r:List AV} {x:Nat} (h:l[x]? =r[x]?) (d:AV):l.getD x d=r.getD x d:=by simp [List.getD,h]
def valOf (tr:List Step) (i:Nat):AV:=((tr.find? (fun x=>x.i==i)).map (·.v)).getD AV.undef
theorem G8 {tr:List Step} (hn:(tr.map (·.i)).Nodup) {p:Nat} {x:Step} (hp:tr[p]? =some x):valOf tr x.i=x.v:=by
 unfold valOf
 have:tr.find? (fun y=>y.i==x.i)=some x:=by
  rw[List.find?_eq_some_iff_getElem]
  obtain ⟨lr,hx⟩:=List.getElem?_eq_some_iff.1 hp
  refine ⟨by simp,p,lr,hx,fun j hj=>?_⟩
  have Lm:j<tr.length:=by omega
  simp only[Bool.not_eq_true',beq_eq_false_iff_ne]
  intro e
  have h1:(tr.map (·.i))[j]? =some x.i:=by simp [Lm,e]
  have h2:(tr.map (·.i))[p]? =some x.i:=by simp [lr,hx]
  have:=(List.getElem?_inj (by simpa using Lm) hn).1 (h1.trans h2.symm)
  omega
 rw[this];rfl
theorem EP (ops:Array Oper) {tr:List Step} (hn:(tr.map (·.i)).Nodup) (ts:List AV) (p:Nat):EN ops ts (tr.take p)=oT ops (valOf tr) ts ((tr.map (·.i)).take p):=by
 have key:∀(l:List Step) (ts:List AV),(∀x∈l,valOf tr x.i=x.v)→EN ops ts l=oT ops (valOf tr) ts (l.map (·.i)):=by
  intro l
  induction l with
  | nil=>intro ts _;rfl
  | cons x l ih=>
    intro ts h
    show EN ops (dB ts (gI ops x.i) x.v) l=oT ops (valOf tr) (dB ts (gI ops x.i) (valOf tr x.i)) (l.map (·.i))
    rw[h x (by simp),ih _ (fun y hy=>h y (by simp [hy]))]
 rw[key _ _ (fun x hx=>?_),List.map_take]
 obtain ⟨q,hq⟩:=List.getElem?_of_mem (List.mem_of_mem_take hx)
 exact G8 hn hq
theorem OK.place {φ:Ph} {h:ax} {w:World} (ok:OK E φ h w) {n:Nat} {obj:aK} (hg:h.get n=some obj) (Ep:φ n=none) (lr:n<h.nx) {O:Obj}
 (ho:OR E (φ.add n ⟨w.heap.size,0,0⟩) obj ⟨w.heap.size,0,0⟩ (some O)):OK E (φ.add n ⟨w.heap.size,0,0⟩) h (w.alloc O)∧φ.le (φ.add n ⟨w.heap.size,0,0⟩):=by
 have hle:φ.le (φ.add n ⟨w.heap.size,0,0⟩):=fun j m hm=>by
  unfold Ph.add;split
  · rename_i e;subst e;rw[Ep] at hm;simp at hm
  · exact hm
 have j5:∀j,j≠n→(φ.add n ⟨w.heap.size,0,0⟩) j=φ j:=fun j hj=>by simp [Ph.add,hj]
 have hI:(φ.add n ⟨w.heap.size,0,0⟩) n=some ⟨w.heap.size,0,0⟩:=by simp [Ph.add]
 have Vm:(w.alloc O).heap=w.heap.push O:=rfl
 have zY:∀j p m,h.get j=some p→φ j=some m→m.dY<w.heap.size:=fun j p m hj hm=>by
  have Ap:=ok.live j p m hj hm
  rcases Nat.lt_or_ge m.dY w.heap.size with a | a
  · exact a
  · exfalso
    rw[Array.getElem?_eq_none a] at Ap
    exact Ap.absurd
 refine ⟨⟨fun j m hm=>?_,ok.nx,fun g hg=>hle _ _ (ok.uG g hg),fun j p m hj hm=>?_,fun j k p q m r hj hk hm hr hw hb=>?_⟩,hle⟩
 · by_cases e:j=n
   · omega
   · rw[j5 j e] at hm;exact ok.zf j m hm
 · by_cases e:j=n
   · subst e;rw[hI] at hm;simp at hm;subst hm;rw[hg] at hj;simp at hj;subst hj;rw[Vm];simpa using ho
   · rw[j5 j e] at hm
     have hb:=zY j p m hj hm
     rw[Vm,Array.getElem?_push,if_neg (by omega)]
     exact (ok.live j p m hj hm).mono hle
 · by_cases e:j=n<;>by_cases e':k=n
   · rw[e,e']
   · subst e;rw[hI] at hm;simp at hm;subst hm;rw[j5 k e'] at hr;have:=zY k q r hk hr;simp at hb;omega
   · subst e';rw[hI] at hr;simp at hr;subst hr;rw[j5 j e] at hm;have:=zY j p m hj hm;simp at hb;omega
   · rw[j5 j e] at hm;rw[j5 k e'] at hr;exact ok.inj j k p q m r hj hk hm hr hw hb
theorem Fr.place {φ₀ φ:Ph} {h₀ h:ax} {w₀ w:World} (f:Fr φ₀ h₀ w₀ φ h w) {n:Nat} (hn:h₀.nx≤n) (Ep:φ n=none) (O:Obj):Fr φ₀ h₀ w₀ (φ.add n ⟨w.heap.size,0,0⟩) h (w.alloc O):=by
 have j5:∀j,j≠n→(φ.add n ⟨w.heap.size,0,0⟩) j=φ j:=fun j hj=>by simp [Ph.add,hj]
 have hI:(φ.add n ⟨w.heap.size,0,0⟩) n=some ⟨w.heap.size,0,0⟩:=by simp [Ph.add]
 refine ⟨fun j m hm=>?_,fun i hi=>by rw[j5 i (by omega)];exact f.old i hi,f.nx,f.os,f.tape,f.output,by have:=f.size;simp;omega,fun b hb Zf=>?_,fun i o l hi hr hl=>?_⟩
 · by_cases e:j=n
   · subst e;have:=f.ext j m hm;rw[Ep] at this;simp at this
   · rw[j5 j e];exact f.ext j m hm
 · have:=f.size
   rw[show (w.alloc O).heap=w.heap.push O from rfl,Array.getElem?_push,if_neg (by omega)]
   exact f.zX b hb Zf
 · by_cases e:i=n
   · subst e;rw[hI] at hl;simp at hl;subst hl;exact .inl f.size
   · rw[j5 i e] at hl;exact f.own i o l hi hr hl
theorem filter_le {P:Nat→Bool} {l:List Nat} {K:Nat} (h:∀q e,l[q]? =some e→P e=true→q<K):(l.filter P).length≤K:=by
 have h1:(l.drop K).filter P=[]:=by
  rw[List.filter_eq_nil_iff]
  intro e he hP
  obtain ⟨q,hq⟩:=List.getElem?_of_mem he
  rw[List.getElem?_drop] at hq
  have:=h _ e hq hP
  omega
 calc (l.filter P).length=((l.take K++l.drop K).filter P).length:=by rw[List.take_append_drop]
  _=((l.take K).filter P).length:=by rw[List.filter_append,h1,List.append_nil]
  _≤(l.take K).length:=List.length_filter_le _ _
  _≤K:=by simp;omega
theorem wD {P:Nat→Bool}:∀{l:List Nat} {e:Nat} (_:l[(l.takeWhile P).length]? =some e),P e=false
 | [],e,h=>by simp at h
 | x::l,e,h=>by
   by_cases hx:P x=true
   · rw[List.takeWhile_cons_of_pos hx] at h
     exact wD (l:=l) (by simpa using h)
   · rw[List.takeWhile_cons_of_neg hx] at h
     simp at h;subst h;simpa using hx
end Go.Ab
end
section
namespace Go.Ab
variable {E:Env}
structure ES (E:Env) (call:a_) (ops:Array Oper) (pl:bO) (s s':St) (tr:List Step) (hs st:List ax):Prop where
 rV:AZ E ops pl
 trace:Ta E call ops s 0 pl.order tr hs st s'
 still:∀x∈tr,∀K hk,x.k≤K→K≤j2 pl.bK pl.an x.i→hs[K]? =some hk→jm E ops x hk=true
 ids:∀(x y:Step),x∈tr→y∈tr→∀(n:Nat) (o q:aK),x.kind= .sg n o→y.kind= .sg n q→x.i=y.i
structure Inv (E:Env) (ops:Array Oper) (pl:bO) (s:St) (tr:List Step) (hs st:List ax) (φ₀:Ph) (w₀:World) (v_:List Deferred) (d:List Nat) (listed:Array Bool) (K:Nat) (φ:Ph) (a:Act) (w:World):Prop where
 nd:d.Nodup
 lt:∀i∈d,i<ops.size
 listed:∀i,i<ops.size→listed[i]? =some (decide (i∈d))
 closed:∀i∈d,∀j,dv pl.an i j=true→j∈d
 bK:∀q e,pl.bK[q]? =some e→(e∈d↔q<K)
 Kle:K≤pl.bK.length
 ts:LR φ (oT ops (valOf tr) s.ts d) a.tmps.toList
 ds:a.defers=v_
 ok:∃hK,hs[K]? =some hK∧OK E φ hK w∧Fr φ₀ s.h w₀ φ hK w
 iJ:∀x∈tr,∀n obj,x.kind= .sg n obj→x.i ∉ d→x.k≤K→φ n=none∧s.h.nx≤n∧∀hK,hs[K]? =some hK→n<hK.nx
section
variable {call:a_} {ops:Array Oper} {pl:bO} {s s':St} {tr:List Step} {hs st:List ax}
theorem ES.at (r:ES E call ops pl s s' tr hs st) {p:Nat} {x:Step} (hp:tr[p]? =some x):
 pl.order[p]? =some x.i∧x.i ∉ pl.order.take p∧(∀j,dv pl.an x.i j=true→j∈pl.order.take p)∧x.k=qH E ops (pl.order.take p)∧
 ∃o,ops[x.i]? =some o∧(fw E o.op=true→pl.bK[x.k]? =some x.i)∧(fw E o.op=false→bx pl.bK pl.an x.i=x.k):=by
 have h1:pl.order[p]? =some x.i:=by rw[←r.trace.is,List.getElem?_map,hp];rfl
 obtain ⟨h2,_,_⟩:=iv r.rV.order
 obtain ⟨a1,a2,a3,a4,a5,a6⟩:=h2 p x.i h1
 obtain ⟨b1,b2,o,hk,sk,b3,_⟩:=r.trace.step p x hp
 have YX:ops.getD x.i default=o:=by simp [Array.getD_eq_getD_getElem?,b3]
 rw[YX] at a5 a6
 have GI:x.k=qH E ops (pl.order.take p):=by omega
 refine ⟨h1,a3,fun j hj=>(a4 j hj).resolve_left (by simp),GI,o,b3,fun he=>?_,fun he=>?_⟩
 · have:=a5 he;rw[GI];simpa using this
 · have:=a6 he;omega
theorem vb:∀{l:List Nat} (_:∀(p i:Nat),l[p]? =some i→i ∉ l.take p),l.Nodup
 | [],_=> .nil
 | x::l,h=>by
   refine List.nodup_cons.2 ⟨fun hm=>?_,vb (fun p i hp hi=>h (p+1) i (by simpa using hp) (by simp [hi]))⟩
   obtain ⟨q,hq⟩:=List.getElem?_of_mem hm
   exact h (q+1) x (by simpa using hq) (by simp)
theorem ES.nodup (r:ES E call ops pl s s' tr hs st):pl.order.Nodup:=by
 obtain ⟨h2,_,_⟩:=iv r.rV.order
 exact vb (fun p i hp=>(h2 p i hp).2.2.1)
theorem ES.all (r:ES E call ops pl s s' tr hs st) {i:Nat} (hi:i<ops.size):∃(p:Nat) (x:Step),tr[p]? =some x∧x.i=i:=by
 obtain ⟨_,h3,_⟩:=iv r.rV.order
 have:=(h3 i hi).resolve_left (by simp)
 rw[←r.trace.is] at this
 obtain ⟨x,hx,rfl⟩:=List.mem_map.1 this
 obtain ⟨p,hp⟩:=List.getElem?_of_mem hx
 exact ⟨p,x,hp,rfl⟩
theorem wE {ops:Array Oper} {pl:bO} (pok:AZ E ops pl) {x j j':Nat} (h:gI ops j=some x) (h':gI ops j'=some x):j=j':=by
 unfold gI at h h'
 cases ho:ops[j]? with
 | none=>rw[ho] at h;simp at h
 | some o=>
 cases G9:ops[j']? with
 | none=>rw[G9] at h';simp at h'
 | some o'=>
 rw[ho] at h;rw[G9] at h'
 simp at h h'
 rcases Nat.decEq j j' with ea | he
 · exact absurd h (pok.slot j j' o o' x ea ho G9 h').1
 · exact he
theorem agree (r:ES E call ops pl s s' tr hs st) {p:Nat} {x:Step} {o:Oper} (hp:tr[p]? =some x) (ho:ops[x.i]? =some o) {d:List Nat} (hd:x.i ∉ d) (Tc:∀i∈d,∀j,dv pl.an i j=true→j∈d)
 (qU:∀j,dv pl.an x.i j=true→j∈d):DG E x.ts (oT ops (valOf tr) s.ts d) o.op∧cm ops (oT ops (valOf tr) s.ts d) o=cm ops x.ts o:=by
 obtain ⟨h1,h2,h3,_,_⟩:=r.at hp
 have oS:(tr.map (·.i)).Nodup:=by rw[r.trace.is];exact r.nodup
 have OL:x.ts=oT ops (valOf tr) s.ts (pl.order.take p):=by
  rw[(r.trace.step p x hp).1,EP ops oS,r.trace.is]
 have hpc:∀j∈pl.order.take p,∀m,dv pl.an j m=true→m∈pl.order.take p:=by
  intro j hj m hm
  obtain ⟨q,hq⟩:=List.getElem?_of_mem hj
  have hqp:q<p:=by
   have:=(List.getElem?_eq_some_iff.1 hq).1
   simp at this;omega
  have hq':pl.order[q]? =some j:=by rw[List.getElem?_take] at hq;rw[if_pos hqp] at hq;exact hq
  obtain ⟨f1,_,_⟩:=iv r.rV.order
  have:=((f1 q j hq').2.2.2.1 m hm).resolve_left (by simp)
  exact List.mem_of_mem_take (i:=q) (l:=pl.order.take p) (by rw[List.take_take,Nat.min_eq_left (Nat.le_of_lt hqp)];exact this)
 have same:∀t,(∀j p',j≠x.i→ops[j]? =some p'→p'.dst=some t→dv pl.an x.i j=true∨dv pl.an j x.i=true)→(oT ops (valOf tr) s.ts (pl.order.take p))[t]? =(oT ops (valOf tr) s.ts d)[t]? :=by
  intro t ht
  refine vr s.ts (fun j j' a b=>wE r.rV a b) (fun j hj=>?_)
  by_cases Vn:j=x.i
  · subst Vn;exact ⟨fun h=>absurd h h2,fun h=>absurd h hd⟩
  · obtain ⟨p',YY,Vo⟩:∃p',ops[j]? =some p'∧p'.dst=some t:=by
     unfold gI at hj
     cases Vp:ops[j]? with
     | none=>rw[Vp] at hj;simp at hj
     | some p'=>rw[Vp] at hj;exact ⟨p',rfl,by simpa using hj⟩
    rcases ht j p' Vn YY Vo with h | h
    · exact ⟨fun _=>qU j h,fun _=>h3 j h⟩
    · exact ⟨fun hm=>absurd (hpc j hm _ h) h2,fun hm=>absurd (Tc j hm _ h) hd⟩
 rw[OL]
 refine ⟨fun y hy=>?_,?_⟩
 · cases y with
   | tmp t=>
     have ht:t∈tmpsOf o:=by
      unfold tmpsOf;rw[List.mem_filterMap];exact ⟨.tmp t,by simpa using hy,rfl⟩
     simp only[dA]
     rw[yu (same t (fun j p' ea YY Vo=>(r.rV.slot x.i j o p' t (Ne.symm ea) ho YY Vo).2 ht))]
   | const c=>rfl
   | global g=>rfl
   | func f=>rfl
 · unfold cm
   cases hg:o.guard with
   | none=>rfl
   | some gw=>
     obtain ⟨g,want⟩:=gw
     simp only
     cases hdg:(ops[g]?).bind (·.dst) with
     | none=>rfl
     | some t=>
       simp only
       have WH:=r.rV.guard x.i o g want ho hg
       rw[same t (fun j p' ea YY Vo=>by
        have:j=g:=wE r.rV (x:=t) (by unfold gI;rw[YY];simpa using Vo) hdg
        subst this;exact .inl WH)]
end
end Go.Ab
end
section
namespace Go.Ab
variable {E:Env}
section
variable {call:a_} {ops:Array Oper} {pl:bO} {s s':St} {tr:List Step} {hs st:List ax}
theorem DH {l:List Oper} {i:Nat}:i∈mL E l↔∃o,l[i]? =some o∧fw E o.op=true:=by
 unfold mL
 simp only[List.mem_map,List.mem_filter,Prod.exists]
 constructor
 · rintro ⟨o,j,⟨h1,h2⟩,rfl⟩
   exact ⟨o,by rw[List.mk_mem_zipIdx_iff_getElem?] at h1;exact h1,h2⟩
 · rintro ⟨o,h1,h2⟩
   exact ⟨o,i,⟨by rw[List.mk_mem_zipIdx_iff_getElem?];exact h1,h2⟩,rfl⟩
theorem AZ.Td (pok:AZ E ops pl) {i:Nat} {o:Oper} (ho:ops[i]? =some o):i∈pl.bK↔fw E o.op=true:=by
 rw[pok.bK,DH]
 constructor
 · rintro ⟨o',h1,h2⟩
   have:ops.toList[i]? =some o:=by simpa using ho
   rw[this] at h1;simp at h1;subst h1;exact h2
 · intro h;exact ⟨o,by simpa using ho,h⟩
theorem Inv.A1 {φ₀ φ:Ph} {w₀ w:World} {v_:List Deferred} {d:List Nat} {listed:Array Bool} {K:Nat} {a:Act} (r:ES E call ops pl s s' tr hs st) (inv:Inv E ops pl s tr hs st φ₀ w₀ v_ d listed K φ a w)
 {x:Step} (hx:pl.bK[x.k]? =some x.i) (hd:x.i ∉ d) (qU:∀j,dv pl.an x.i j=true→j∈d):x.k=K:=by
 have h1:¬x.k<K:=fun h=>hd ((inv.bK x.k x.i hx).2 h)
 rcases Nat.lt_or_ge K x.k with h | h
 · exfalso
   obtain ⟨q,hq⟩:∃q,x.k=q+1:=⟨x.k - 1,by omega⟩
   have lr:q<pl.bK.length:=by have:=(List.getElem?_eq_some_iff.1 hx).1;omega
   have hq':pl.bK[q]? =some pl.bK[q]:=by simp [lr]
   have:=r.rV.chain q _ x.i hq' (by rw[←hq];exact hx)
   have:=(inv.bK q _ hq').1 (qU _ this)
   omega
 · omega
theorem Inv.OM {φ₀ φ:Ph} {w₀ w:World} {v_:List Deferred} {d:List Nat} {listed:Array Bool} {K:Nat} {a:Act} (inv:Inv E ops pl s tr hs st φ₀ w₀ v_ d listed K φ a w)
 {i:Nat} (hd:i ∉ d) (qU:∀j,dv pl.an i j=true→j∈d):bx pl.bK pl.an i≤K∧K≤j2 pl.bK pl.an i:=by
 refine ⟨filter_le (fun q e hq he=>(inv.bK q e hq).1 (qU e he)),?_⟩
 rcases Nat.lt_or_ge (j2 pl.bK pl.an i) K with h | h
 · exfalso
   have lr:j2 pl.bK pl.an i<pl.bK.length:=by have:=inv.Kle;omega
   have hq:pl.bK[j2 pl.bK pl.an i]? =some pl.bK[j2 pl.bK pl.an i]:=by simp [lr]
   have h1:=wD (P:=fun e=> !dv pl.an e i) hq
   simp only[Bool.not_eq_false'] at h1
   exact hd (inv.closed _ ((inv.bK _ _ hq).2 h) i h1)
 · exact h
theorem MS (ops:Array Oper) (val:Nat→AV) (ts:List AV) (d:List Nat) (i:Nat):oT ops val ts (d++[i])=dB (oT ops val ts d) (gI ops i) (val i):=by
 simp [oT]
theorem Inv.snoc {φ₀ φ φ':Ph} {w₀ w w':World} {v_:List Deferred} {d:List Nat} {listed:Array Bool} {K K':Nat} {a:Act} (r:ES E call ops pl s s' tr hs st) (inv:Inv E ops pl s tr hs st φ₀ w₀ v_ d listed K φ a w)
 {p:Nat} {x:Step} {o:Oper} (hp:tr[p]? =some x) (ho:ops[x.i]? =some o) (hd:x.i ∉ d) (qU:∀j,dv pl.an x.i j=true→j∈d) (hle:φ.le φ') {v':Value} (hv:VR φ' x.v v')
 (hK:(fw E o.op=false∧K'=K)∨(fw E o.op=true∧x.k=K∧pl.bK[x.k]? =some x.i∧K'=K+1))
 (my:∃hK,hs[K']? =some hK∧OK E φ' hK w'∧Fr φ₀ s.h w₀ φ' hK w')
 (ZG:∀y∈tr,∀n obj,y.kind= .sg n obj→y.i ∉ d→y.i≠x.i→y.k≤K'→φ' n=none∧s.h.nx≤n∧∀hK,hs[K']? =some hK→n<hK.nx):
 Inv E ops pl s tr hs st φ₀ w₀ v_ (d++[x.i]) (listed.setIfInBounds x.i true) K' φ' (a.put o.dst v') w':=by
 have oS:(tr.map (·.i)).Nodup:=by rw[r.trace.is];exact r.nodup
 have lr:x.i<ops.size:=(Array.getElem?_eq_some_iff.1 ho).1
 refine ⟨?_,fun i hi=>?_,fun i hi=>?_,fun i hi j hj=>?_,fun q e hq=>?_,?_,?_,by rw[put_defers];exact inv.ds,my,fun y hy n obj yp hyd hyk=>?_⟩
 · rw[List.nodup_append];exact ⟨inv.nd,by simp,fun a ha b hb=>by simp at hb;subst hb;exact fun e=>hd (e▸ha)⟩
 · simp at hi;rcases hi with h | rfl
   · exact inv.lt i h
   · exact lr
 · have h1:=inv.listed i hi
   by_cases e:x.i=i
   · subst e
     have Jb:x.i<listed.size:=(Array.getElem?_eq_some_iff.1 h1).1
     rw[Array.getElem?_setIfInBounds];simp [Jb]
   · rw[Array.getElem?_setIfInBounds_ne e,h1]
     simp [show i≠x.i from fun h=>e h.symm]
 · simp at hi;rcases hi with h | rfl
   · exact List.mem_append_left _ (inv.closed i h j hj)
   · exact List.mem_append_left _ (qU j hj)
 · rcases hK with ⟨he,rfl⟩ | ⟨he,EO,hxe,rfl⟩
   · have ea:e≠x.i:=fun h=>by
      subst h
      have:=(r.rV.Td ho).1 (List.mem_of_getElem? hq)
      rw[he] at this;simp at this
     simp [ea,inv.bK q e hq]
   · have hqe:e=x.i↔q=K:=by
      constructor
      · intro h;subst h
        have:=(List.getElem?_inj (List.getElem?_eq_some_iff.1 hq).1 r.rV.nd).1 (hq.trans hxe.symm)
        omega
      · intro h;subst h;rw[←EO,hxe] at hq;simpa using hq.symm
     simp only[List.mem_append,List.mem_singleton,inv.bK q e hq,hqe]
     omega
 · rcases hK with ⟨he,rfl⟩ | ⟨he,EO,hxe,rfl⟩
   · exact inv.Kle
   · have:=(List.getElem?_eq_some_iff.1 hxe).1;omega
 · rw[MS,G8 oS hp]
   have:gI ops x.i=o.dst:=by simp [gI,ho]
   rw[this]
   exact OE (inv.ts.mono hle) o.dst hv
 · simp only[List.mem_append,List.mem_singleton,not_or] at hyd
   exact ZG y hy n obj yp hyd.1 hyd.2 hyk
theorem MT (hE:kn E) {call:a_} (cN:hS E call) {ts:List AV} {h h':ax} {rc:RC} {o:Oper} {v:AV} (ss:cZ E call ts h rc o= .val v h') {i:Nat} {rest:List Nat} (ho:ops[i]? =some o)
 {φ:Ph} {a:Act} {w:World} {b:Frame} {k:List Item} {K:Bool→List Frame} (OL:LR φ ts a.tmps.toList) (ok:OK E φ h w) (gu:mP φ b K rc) (hw:Region.wanted o (yielded ops a.tmps)=true):
 ∃φ' w' v',VR φ' v v'∧OK E φ' h' w'∧Fr φ h w φ' h' w'∧Steps E.P (lone (b.atR a (.inRegion ops (i::rest)::k)) (cur K rc) w) (lone (b.atR (a.put o.dst v') (.inRegion ops rest::k)) (cur K rc) w'):=by
 have yn:=vp hE cN (rc:=rc) (o:=o) OL ok
 have oS:rc.nH=false∨∀c,o.op≠ .defer c:=by
  by_cases hd:∃c,o.op= .defer c
  · obtain ⟨c,hd⟩:=hd
    unfold cZ at ss
    simp only[hd] at ss
    split at ss<;>simp at ss
  · exact .inr (fun c e=>hd ⟨c,e⟩)
 have kz:=qS gu oS a.eval
 rw[ss] at yn
 cases yn with
 | val v h' φ' w' v' hv r6 fr run=>exact ⟨φ',w',v',hv,r6,fr,.one (mz kz ho hw run)⟩
 | skip h' φ' w' r6 fr run=>exact ⟨φ',w',undef,.undef φ',r6,fr,.one (GW kz ho hw run)⟩
 | enter v h' F args all hr hf hl run=>
   obtain ⟨n,start,hp,il⟩:=hr φ w all ok hf hl
   obtain ⟨φ',w',v',hv,r6,fr,iR⟩:=il (b.atR a (.inRegion ops (i::rest)::k)) (cur K rc)
   rw[ub ho] at iR
   exact ⟨φ',w',v',hv,r6,fr,.head (go_enter kz ho hw hp (run n start hp)) iR⟩
 | OH ea C5 run=>
   have Ep:∀fr:Frame,fr.kind=b.kind→tryRecover fr (cur K rc)=none:=by
    cases EJ:rc with
    | no=>rw[EJ] at gu;exact gu.2
    | iJ v=>exact absurd EJ (ea v)
    | done=>rw[EJ] at gu;exact gu.2
    | Gp l=>rw[EJ] at C5;simp [RC.nH] at C5
   exact ⟨φ,w,.nilIface,.nilIface,ok,Fr.refl _ _ _,.one (va (gu.plain C5) kz ho hw run (Ep _ rfl))⟩
theorem Inv.Ln (hE:kn E) {DI:a_} (cN:hS E DI) {φ₀ φ:Ph} {w₀ w:World} {v_:List Deferred} {d:List Nat} {listed:Array Bool} {K:Nat} {a:Act} (r:ES E call ops pl s s' tr hs st) (inv:Inv E ops pl s tr hs st φ₀ w₀ v_ d listed K φ a w)
 {b:Frame} {k:List Item} {Ks:Bool→List Frame} (gu:mP φ₀ b Ks s.rc) {i:Nat} (hi:i<ops.size) (hd:i ∉ d) (qU:∀j,dv pl.an i j=true→j∈d)
 (DJ:∀(x:Step) (o:Oper) (hk h':ax),x∈tr→x.i=i→ops[x.i]? =some o→hs[x.k]? =some hk→x.kind= .uF h'→cZ E DI x.ts hk s.rc o= .val x.v h') (rest:List Nat):
 ∃K' φ' a' w',Inv E ops pl s tr hs st φ₀ w₀ v_ (d++[i]) (listed.setIfInBounds i true) K' φ' a' w'∧
  Steps E.P (lone (b.atR a (.inRegion ops (i::rest)::k)) (cur Ks s.rc) w) (lone (b.atR a' (.inRegion ops rest::k)) (cur Ks s.rc) w'):=by
 obtain ⟨p,x,hp,rfl⟩:=r.all hi
 have WA:x∈tr:=List.mem_of_getElem? hp
 obtain ⟨h1,h2,h3,hk,o,ho,ss,Vq⟩:=r.at hp
 obtain ⟨_,_,o',hk1,sk1,G9,zo,ZF,il⟩:=r.trace.step p x hp
 rw[ho] at G9;simp at G9;subst G9
 rw[←hk] at zo ZF il
 obtain ⟨hag,ON⟩:=agree r hp ho hd inv.closed qU
 obtain ⟨hK,Vr,ok,fr⟩:=inv.ok
 have SF:Region.wanted o (yielded ops a.tmps)=cm ops x.ts o:=by rw[vo inv.ts o,ON]
 have Te:DG E (oT ops (valOf tr) s.ts d) x.ts o.op:=fun y hy=>(hag y hy).symm
 have same:∀y∈tr,∀n obj,y.kind= .sg n obj→y.i ∉ d→y.i≠x.i→y.k≤K→φ n=none∧s.h.nx≤n∧∀hK,hs[K]? =some hK→n<hK.nx:=
  fun y hy n obj a1 a2 _ a3=>inv.iJ y hy n obj a1 a2 a3
 have wrote:∀(φ':Ph) (h':ax) (w':World),x.k=K→st[K+1]? =some h'→OK E φ' h' w'→Fr φ hK w φ' h' w'→
  ∃Lp,hs[K+1]? =some Lp∧OK E φ' Lp w'∧Fr φ₀ s.h w₀ φ' Lp w'∧
  ∀y∈tr,∀n obj,y.kind= .sg n obj→y.i ∉ d→y.i≠x.i→y.k≤K+1→φ' n=none∧s.h.nx≤n∧∀hK,hs[K+1]? =some hK→n<hK.nx:=by
  intro φ' h' w' EO WJ r6 Jd
  have lr:K+1<hs.length:=by rw[←r.trace.WI];exact (List.getElem?_eq_some_iff.1 WJ).1
  have hhs:hs[K+1]? =some hs[K+1]:=by simp [lr]
  have g:=r.trace.grown (K+1) h' _ WJ hhs
  obtain ⟨A2,WK⟩:=r6.grown g
  have SG:=(fr.trans Jd).trans WK
  refine ⟨_,hhs,A2,SG,fun y hy n obj a1 a2 a3 a4=>?_⟩
  have YQ:∀Lp,hs[K+1]? =some Lp→Lp=hs[K+1]:=fun Lp e=>by rw[hhs] at e;simpa using e.symm
  rcases Nat.lt_or_ge K y.k with h | h
  ·
   have hyk:y.k=K+1:=by omega
   obtain ⟨q,hq⟩:=List.getElem?_of_mem hy
   obtain ⟨_,_,_,hky,oy,hoy,_,_⟩:=r.at hq
   obtain ⟨_,_,oy',ab0,ab1,ab2,De,Df,JL⟩:=r.trace.step q y hq
   rw[←hky,hyk] at De Df
   rw[WJ] at Df;simp at Df;subst Df
   unfold wB at JL
   rw[a1] at JL
   obtain ⟨_,_,_,hn1,YZ⟩:=JL
   refine ⟨?_,?_,fun Lp e=>?_⟩
   · cases hφ:φ' n with
     | none=>rfl
     | some l=>have:=r6.zf n l hφ;omega
   · have:=(fr.trans Jd).nx;omega
   · rw[e] at De;simp at De;subst De;exact YZ
  · obtain ⟨b1,b2,b3⟩:=inv.iJ y hy n obj a1 a2 h
    have hn:=b3 hK Vr
    refine ⟨by rw[Jd.old n hn];exact b1,b2,fun Lp e=>?_⟩
    have:=Jd.nx;have:=g.nx
    rw[YQ _ e];omega
 have still:fw E o.op=false→jm E ops x hK=true:=fun he=>by
  obtain ⟨w1,w2⟩:=inv.OM hd qU
  exact r.still x WA K hK (by rw[←Vq he];exact w1) w2 Vr
 have YX:ops.getD x.i default=o:=by simp [Array.getD_eq_getD_getElem?,ho]
 have skip:cm ops x.ts o=false→step E.P (lone (b.atR a (.inRegion ops (x.i::rest)::k)) (cur Ks s.rc) w)= .next (lone (b.atR (a.put o.dst undef) (.inRegion ops rest::k)) (cur Ks s.rc) w):=fun hw=>by
  have:=stepR_op_skip (P:=E.P) (b:=b) (a:=a) (k:=k) (cs:=cur Ks s.rc) (w:=w) (ops:=ops) (i:=x.i) (rest:=rest) (by rw[ho];simp;rw[SF];exact hw)
  rw[this,ho];rfl
 unfold wB at il
 split at il
 ·
  obtain ⟨hw,hv,hn⟩:=il
  have hvr:VR φ x.v undef:=by rw[hv];exact .undef φ
  by_cases he:fw E o.op=true
  · have EO:=inv.A1 r (ss he) hd qU
    have oU:=hn he
    rw[EO] at oU zo
    rw[Vr] at zo;simp at zo;subst zo
    obtain ⟨Lp,q1,q2,q3,q4⟩:=wrote φ hK w EO oU ok (Fr.refl _ _ _)
    exact ⟨K+1,φ,_,w,inv.snoc r hp ho hd qU (Ph.le_refl φ) hvr (.inr ⟨he,EO,ss he,rfl⟩) ⟨Lp,q1,q2,q3⟩ q4,.one (skip hw)⟩
  · have Jc:fw E o.op=false:=by simpa using he
    exact ⟨K,φ,_,w,inv.snoc r hp ho hd qU (Ph.le_refl φ) hvr (.inl ⟨Jc,rfl⟩) inv.ok same,.one (skip hw)⟩
 ·
  obtain ⟨he,hw,hpu⟩:=il
  rw[←GZ Te] at hpu
  have oS:∀c,o.op≠ .defer c:=fun c e=>by rw[e] at hpu;simp [bp] at hpu
  obtain ⟨v',hv,hr⟩:=zi hE.ext ok.gl inv.ts hpu
  exact ⟨K,φ,_,w,inv.snoc r hp ho hd qU (Ph.le_refl φ) hv (.inl ⟨he,rfl⟩) inv.ok same,.one (mz (qS gu (.inr oS) _) ho (SF.trans hw) (hr w))⟩
 ·
  rename_i wC
  obtain ⟨he,hw⟩:=il
  have qQ:=still he
  unfold jm at qQ
  rw[wC] at qQ
  simp only[YX] at qQ
  cases Y0:dE E x.ts hK o.op with
  | none=>rw[Y0] at qQ;simp at qQ
  | some v1=>
    rw[Y0] at qQ
    have SZ:=AV.wy _ _ _ qQ
    subst SZ
    rw[←G6 Te] at Y0
    have oS:∀c,o.op≠ .defer c:=fun c e=>by rw[e] at Y0;simp [dE] at Y0
    obtain ⟨v',hv,hr⟩:=zm ok.gl ok inv.ts Y0
    exact ⟨K,φ,_,w,inv.snoc r hp ho hd qU (Ph.le_refl φ) hv (.inl ⟨he,rfl⟩) inv.ok same,.one (mz (qS gu (.inr oS) _) ho (SF.trans hw) (hr w rfl))⟩
 ·
  rename_i n obj wC
  obtain ⟨he,hw,⟨mk,hal,hxv⟩,_,_⟩:=il
  have qQ:=still he
  unfold jm at qQ
  rw[wC] at qQ
  simp only at qQ
  cases hge:hK.get n with
  | none=>rw[hge] at qQ;simp at qQ
  | some o1=>
    rw[hge] at qQ
    have ho1:=aK.wy qQ
    subst ho1
    obtain ⟨w1,_⟩:=inv.OM hd qU
    obtain ⟨Ep,ab3,ab4⟩:=inv.iJ x WA n o1 wC hd (by rw[←Vq he];exact w1)
    rw[←EK Te] at hal
    have oS:∀c,o.op≠ .defer c:=fun c e=>by rw[e] at hal;simp [dZ] at hal
    obtain ⟨O,mk',GY,hr⟩:=wm ok.gl inv.ts hal
    have hle:φ.le (φ.add n ⟨w.heap.size,0,0⟩):=fun j m hm=>by
     unfold Ph.add;split
     · rename_i e;subst e;rw[Ep] at hm;simp at hm
     · exact hm
    obtain ⟨A2,_⟩:=ok.place hge Ep (ab4 hK Vr) (GY.obj _ w.heap.size hle)
    have hv:=GY.val (φ.add n ⟨w.heap.size,0,0⟩) n w.heap.size hle (by simp [Ph.add])
    rw[←hxv] at hv
    refine ⟨K,_,_,_,inv.snoc r hp ho hd qU hle hv (.inl ⟨he,rfl⟩) ⟨hK,Vr,A2,fr.place ab3 Ep O⟩ (fun y hy m q a1 a2 a3 a4=>?_),.one (mz (qS gu (.inr oS) _) ho (SF.trans hw) (hr w))⟩
    obtain ⟨b1,b2,b3⟩:=inv.iJ y hy m q a1 a2 a4
    refine ⟨?_,b2,b3⟩
    have ea:m≠n:=fun e=>by subst e;exact a3 (r.ids y x hy WA m q o1 a1 wC)
    simp [Ph.add,ea,b1]
 ·
  rename_i h' wC
  obtain ⟨he,hw,_,oU⟩:=il
  have OO:=DJ x o _ h' WA rfl ho zo wC
  have EO:=inv.A1 r (ss he) hd qU
  rw[EO] at oU zo
  rw[Vr] at zo;simp at zo;subst zo
  rw[←AX Te] at OO
  obtain ⟨φ',w',v',hv,r6,Jd,iR⟩:=MT hE cN OO ho (rest:=rest) (k:=k) inv.ts ok (gu.mono fr.ext) (SF.trans hw)
  obtain ⟨Lp,q1,q2,q3,q4⟩:=wrote φ' h' w' EO oU r6 Jd
  exact ⟨K+1,φ',_,w',inv.snoc r hp ho hd qU Jd.ext hv (.inr ⟨he,EO,ss he,rfl⟩) ⟨Lp,q1,q2,q3⟩ q4,iR⟩
end
end Go.Ab
end
section
namespace Go.Ab
variable {E:Env}
section
variable {call:a_} {ops:Array Oper} {pl:bO} {s s':St} {tr:List Step} {hs st:List ax}
structure ET (E:Env) (φ₀:Ph) (h₀:ax) (w₀:World) (v_:List Deferred) (b:Frame) (k:List Item) (cs:List Frame) (s':St) (m:Machine):Prop where
 is:∃φ' a' w',LR φ' s'.ts a'.tmps.toList∧a'.defers=v_∧OK E φ' s'.h w'∧Fr φ₀ h₀ w₀ φ' s'.h w'∧Steps E.P m (lone (b.atR a' k) cs w')
theorem G_ (r:ES E call ops pl s s' tr hs st) {φ₀ φ:Ph} {w₀ w:World} {v_:List Deferred} {d:List Nat} {listed:Array Bool} {K:Nat} {a:Act} (inv:Inv E ops pl s tr hs st φ₀ w₀ v_ d listed K φ a w)
 (G':∀i,i<ops.size→i∈d) (b:Frame) (k:List Item) (cs:List Frame):ET E φ₀ s.h w₀ v_ b k cs s' (lone (b.atR a (.inRegion ops []::k)) cs w):=by
 have oS:(tr.map (·.i)).Nodup:=by rw[r.trace.is];exact r.nodup
 obtain ⟨f1,f2,f3⟩:=iv r.rV.order
 have hK:K=pl.bK.length:=by
  have:=inv.Kle
  rcases Nat.lt_or_ge K pl.bK.length with h | h
  · exfalso
    have hq:pl.bK[K]? =some pl.bK[K]:=by simp [h]
    have hm:pl.bK[K]∈pl.bK:=List.getElem_mem h
    generalize hx:pl.bK[K]=ee at hm hq
    rw[r.rV.bK,DH] at hm
    obtain ⟨o,ho,_⟩:=hm
    have lr:ee<ops.size:=by have:=(List.getElem?_eq_some_iff.1 ho).1;simpa using this
    have:=(inv.bK K _ hq).1 (G' _ lr)
    omega
  · omega
 obtain ⟨Lp,q1,q2,q3⟩:=inv.ok
 have Ha:=r.trace.last
 have ab5:qH E ops pl.order=K:=by omega
 rw[ab5,q1] at Ha
 simp at Ha;subst Ha
 have OL:s'.ts=oT ops (valOf tr) s.ts d:=by
  rw[r.trace.ts]
  have h1:=EP ops oS s.ts tr.length
  rw[List.take_length,r.trace.is,List.take_of_length_le (by rw[←r.trace.is];simp)] at h1
  rw[h1]
  refine List.ext_getElem? (fun x=>?_)
  refine vr s.ts (fun j j' e e'=>wE r.rV e e') (fun j hj=>?_)
  have Lm:j<ops.size:=by
   unfold gI at hj
   cases ho:ops[j]? with
   | none=>rw[ho] at hj;simp at hj
   | some o=>exact (Array.getElem?_eq_some_iff.1 ho).1
  exact ⟨fun _=>G' j Lm,fun _=>(f2 j Lm).resolve_left (by simp)⟩
 exact ⟨φ,a,w,by rw[OL];exact inv.ts,inv.ds,q2,q3,.one stepR_region_end⟩
theorem A3 {φ₀ φ:Ph} {w₀ w:World} {v_:List Deferred} {d:List Nat} {listed:Array Bool} {K:Nat} {a:Act} (r:ES E call ops pl s s' tr hs st) (inv:Inv E ops pl s tr hs st φ₀ w₀ v_ d listed K φ a w)
 {i:Nat} (h:i∈Region.ready .any ops listed):i<ops.size∧i ∉ d∧∀j,dv pl.an i j=true→j∈d:=by
 obtain ⟨h1,o,ho,h2⟩:=mem_ready.1 h
 have hi:i<ops.size:=(Array.getElem?_eq_some_iff.1 ho).1
 have hl:=inv.listed i hi
 refine ⟨hi,fun hd=>?_,fun j hj=>?_⟩
 · simp [hl,hd,Array.getD_eq_getD_getElem?] at h1
 · obtain ⟨e,he,hej⟩:=r.rV.closed i o j ho hj
   have hed:e∈d:=by
    unfold ks at he
    simp only[List.mem_map,List.mem_filter] at he
    obtain ⟨ed,⟨hm,hb⟩,rfl⟩:=he
    have h3:=h2 ed (by simpa using hm) hb
    have ab6:ed.on<ops.size:=by
     have:=(r.rV.direct i o ed.on ho (by unfold ks;simp only[List.mem_map,List.mem_filter];exact ⟨ed,⟨hm,hb⟩,rfl⟩)).1
     omega
    simpa [inv.listed _ ab6,Array.getD_eq_getD_getElem?] using h3
   rcases hej with rfl | hej
   · exact hed
   · exact inv.closed e hed j hej
theorem yv {φ₀ φ:Ph} {w₀ w:World} {v_:List Deferred} {d:List Nat} {listed:Array Bool} {K:Nat} {a:Act} (r:ES E call ops pl s s' tr hs st) (inv:Inv E ops pl s tr hs st φ₀ w₀ v_ d listed K φ a w)
 (h:Region.ready .any ops listed=[]):∀(n i:Nat),i<n→i<ops.size→i∈d
 | 0,i,hn,_=>by omega
 | n+1,i,hn,hi=>by
   have ih:=yv r inv h n
   by_cases hd:i∈d
   · exact hd
   · exfalso
     have ho:ops[i]? =some ops[i]:=by simp [hi]
     have:i∈Region.ready .any ops listed:=by
      refine mem_ready.2 ⟨by simp [inv.listed i hi,hd,Array.getD_eq_getD_getElem?],ops[i],ho,fun e he hb=>?_⟩
      have hm:e.on∈ks ops[i]:=by
       unfold ks;simp only[List.mem_map,List.mem_filter];exact ⟨e,⟨by simpa using he,hb⟩,rfl⟩
      have lr:=(r.rV.direct i _ e.on ho hm).1
      have:=ih e.on (by omega) (by omega)
      simp [inv.listed e.on (by omega),this,Array.getD_eq_getD_getElem?]
     rw[h] at this;simp at this
theorem ES.real (r:ES E call ops pl s s' tr hs st) (x:Step) (o:Oper) (hk h':ax) (hx:x∈tr) (ho:ops[x.i]? =some o) (hh:hs[x.k]? =some hk) (yp:x.kind= .uF h'):cZ E call x.ts hk s.rc o= .val x.v h':=by
 obtain ⟨p,hp⟩:=List.getElem?_of_mem hx
 obtain ⟨_,_,_,ZH,_⟩:=r.at hp
 obtain ⟨_,_,o',hk1,sk1,G9,zo,ZF,il⟩:=r.trace.step p x hp
 rw[ho] at G9;simp at G9;subst G9
 rw[←ZH,hh] at zo;simp at zo;subst zo
 unfold wB at il;rw[yp] at il;exact il.2.2.1
theorem Hb (hE:kn E) (cN:hS E call) (r:ES E call ops pl s s' tr hs st) {φ₀:Ph} {w₀:World} {v_:List Deferred} {b:Frame} {k:List Item} {Ks:Bool→List Frame} (gu:mP φ₀ b Ks s.rc):
 ∀(fuel t:Nat) {φ:Ph} {w:World} {d:List Nat} {listed:Array Bool} {K:Nat} {a:Act} (_:Inv E ops pl s tr hs st φ₀ w₀ v_ d listed K φ a w) (_:ops.size≤d.length+fuel),
  ET E φ₀ s.h w₀ v_ b k (cur Ks s.rc) s' (lone (b.atR a (.inRegion ops (Region.linearise.go .any ops fuel t listed [])::k)) (cur Ks s.rc) w)
 | 0,t,φ,w,d,listed,K,a,inv,hf=>by
   simp only[Region.linearise.go,List.reverse_nil]
   refine G_ r inv (fun i hi=>?_) b k _
   by_cases hd:i∈d
   · exact hd
   · have:=AY ops.size (i::d) (List.nodup_cons.2 ⟨hd,inv.nd⟩) (fun x hx=>by
      simp at hx;rcases hx with rfl | hx
      · exact hi
      · exact inv.lt x hx)
     simp at this;omega
 | fuel+1,t,φ,w,d,listed,K,a,inv,hf=>by
   simp only[Region.linearise.go]
   change ET E φ₀ s.h w₀ v_ b k (cur Ks s.rc) s' (lone (b.atR a (.inRegion ops (match (Region.ready .any ops listed)[t%(Region.ready .any ops listed).length]? with
    | some i=>Region.linearise.go .any ops fuel (t/(Region.ready .any ops listed).length) (listed.setIfInBounds i true) [i]
    | none=> [].reverse)::k)) (cur Ks s.rc) w)
   cases hi:(Region.ready .any ops listed)[t%(Region.ready .any ops listed).length]? with
   | none=>
     have Ex:Region.ready .any ops listed=[]:=by
      cases hr:Region.ready .any ops listed with
      | nil=>rfl
      | cons x xs=>
        rw[hr] at hi
        have lr:t%(x::xs).length<(x::xs).length:=Nat.mod_lt _ (by simp)
        simp at hi
        simp at lr
        omega
     exact G_ r inv (fun i hi=>yv r inv Ex _ i (Nat.lt_succ_self i) hi) b k _
   | some i=>
     simp only[]
     rw[linearise_go_acc,List.reverse_singleton,List.singleton_append]
     obtain ⟨h1,h2,h3⟩:=A3 r inv (List.mem_of_getElem? hi)
     obtain ⟨K',φ',a',w',WL,il⟩:=inv.Ln hE cN r gu (b:=b) (k:=k) h1 h2 h3 (fun x o hk h' hx _=>r.real x o hk h' hx) (Region.linearise.go .any ops fuel (t/(Region.ready .any ops listed).length) (listed.setIfInBounds i true) [])
     obtain ⟨φ2,a2,w2,x1,x2,x3,x4,x5⟩:=(Hb hE cN r gu fuel (t/(Region.ready .any ops listed).length) WL (by simp;omega)).is
     exact ⟨φ2,a2,w2,x1,x2,x3,x4,Steps.trans il x5⟩
structure EU (E:Env) (φ₀:Ph) (h₀:ax) (w₀:World) (v_:List Deferred) (b:Frame) (cs:List Frame) (v:AV) (s':St) (m:Machine):Prop where
 is:∃φ' a' w' v' todo,VR φ' v v'∧LR φ' s'.ts a'.tmps.toList∧a'.defers=v_∧OK E φ' s'.h w'∧Fr φ₀ h₀ w₀ φ' s'.h w'∧Steps E.P m (lone {b.atR a' todo with mode:= .panicking [{v:=v',recovered:=false}]} cs w')
theorem MU (hE:kn E) {call:a_} (cN:hS E call) {ts:List AV} {h h':ax} {rc:RC} {o:Oper} {c:Call} (hoc:o.op= .call c) {v:AV} (ss:cZ E call ts h rc o= .panic v h') {i:Nat} {rest:List Nat} (ho:ops[i]? =some o)
 {φ:Ph} {a:Act} {w:World} {b:Frame} {k:List Item} {K:Bool→List Frame} (OL:LR φ ts a.tmps.toList) (ok:OK E φ h w) (gu:mP φ b K rc) (hw:Region.wanted o (yielded ops a.tmps)=true):
 ∃φ' w' v' todo,VR φ' v v'∧OK E φ' h' w'∧Fr φ h w φ' h' w'∧Steps E.P (lone (b.atR a (.inRegion ops (i::rest)::k)) (cur K rc) w) (lone {b.atR a todo with mode:= .panicking [{v:=v',recovered:=false}]} (cur K rc) w'):=by
 have yn:=vp hE cN (rc:=rc) (o:=o) OL ok
 have oS:rc.nH=false∨∀c,o.op≠ .defer c:= .inr (fun c e=>by rw[hoc] at e;simp at e)
 have kz:=qS gu oS a.eval
 rw[ss] at yn
 cases yn with
 | S' v h' F args all hr hf hl run=>
   obtain ⟨n,start,hp,il⟩:=hr φ w all ok hf hl
   obtain ⟨φ',w',v',hv,r6,fr,iR⟩:=il (b.atR a (.inRegion ops (i::rest)::k)) (cur K rc)
   rw[Frame.raise_atR] at iR
   exact ⟨φ',w',v',.inRegion ops (i::rest)::k,hv,r6,fr,.head (go_enter kz ho hw hp (run n start hp)) iR⟩
 | panic v v' hv run=>exact ⟨φ,w,v',_,hv,ok,Fr.refl _ _ _,.one (OF kz ho hw run)⟩
theorem DK (hE:kn E) {DI:a_} (cN:hS E DI) (r:ES E call ops pl s s' tr hs st) {xl:Step} (hxl:xl∈tr) {ol:Oper} (SC:ops[xl.i]? =some ol) {c:Call} (hoc:ol.op= .call c)
 (G':∀j,j<ops.size→j≠xl.i→dv pl.an xl.i j=true) (Vs:fw E ol.op=true) (hwl:cm ops xl.ts ol=true) {hk:ax} (zo:hs[xl.k]? =some hk) {v:AV} {h':ax} (OP:cZ E DI xl.ts hk s.rc ol= .panic v h')
 (DJ:∀(x:Step) (o:Oper) (hk h':ax),x∈tr→x.i≠xl.i→ops[x.i]? =some o→hs[x.k]? =some hk→x.kind= .uF h'→cZ E DI x.ts hk s.rc o= .val x.v h')
 {s2:St} (h2:s2.h=h') (ZI:s2.ts=xl.ts) {φ₀:Ph} {w₀:World} {v_:List Deferred} {b:Frame} {k:List Item} {Ks:Bool→List Frame} (gu:mP φ₀ b Ks s.rc):
 ∀(fuel t:Nat) {φ:Ph} {w:World} {d:List Nat} {listed:Array Bool} {K:Nat} {a:Act} (_:Inv E ops pl s tr hs st φ₀ w₀ v_ d listed K φ a w) (_:ops.size≤d.length+fuel) (_:xl.i ∉ d),
  EU E φ₀ s.h w₀ v_ b (cur Ks s.rc) v s2 (lone (b.atR a (.inRegion ops (Region.linearise.go .any ops fuel t listed [])::k)) (cur Ks s.rc) w)
 | 0,t,φ,w,d,listed,K,a,inv,hf,oS=>by
   exfalso
   have hi:xl.i<ops.size:=(Array.getElem?_eq_some_iff.1 SC).1
   have:=AY ops.size (xl.i::d) (List.nodup_cons.2 ⟨oS,inv.nd⟩) (fun x hx=>by
    simp at hx;rcases hx with rfl | hx
    · exact hi
    · exact inv.lt x hx)
   simp at this;omega
 | fuel+1,t,φ,w,d,listed,K,a,inv,hf,oS=>by
   have hil:xl.i<ops.size:=(Array.getElem?_eq_some_iff.1 SC).1
   simp only[Region.linearise.go]
   change EU E φ₀ s.h w₀ v_ b (cur Ks s.rc) v s2 (lone (b.atR a (.inRegion ops (match (Region.ready .any ops listed)[t%(Region.ready .any ops listed).length]? with
    | some i=>Region.linearise.go .any ops fuel (t/(Region.ready .any ops listed).length) (listed.setIfInBounds i true) [i]
    | none=> [].reverse)::k)) (cur Ks s.rc) w)
   cases hi:(Region.ready .any ops listed)[t%(Region.ready .any ops listed).length]? with
   | none=>
     have Ex:Region.ready .any ops listed=[]:=by
      cases hr:Region.ready .any ops listed with
      | nil=>rfl
      | cons x xs=>
        rw[hr] at hi
        have lr:t%(x::xs).length<(x::xs).length:=Nat.mod_lt _ (by simp)
        simp at hi
        simp at lr
        omega
     exact absurd (yv r inv Ex _ xl.i (Nat.lt_succ_self _) hil) oS
   | some i=>
     simp only[]
     rw[linearise_go_acc,List.reverse_singleton,List.singleton_append]
     obtain ⟨h1,h2',h3⟩:=A3 r inv (List.mem_of_getElem? hi)
     by_cases hii:i=xl.i
     · subst hii
       obtain ⟨p,hp⟩:=List.getElem?_of_mem hxl
       obtain ⟨_,q2,q3,_,o',G9,q4,_⟩:=r.at hp
       rw[SC] at G9;simp at G9;subst G9
       obtain ⟨hag,ON⟩:=agree r hp SC h2' inv.closed h3
       obtain ⟨hK,Vr,ok,fr⟩:=inv.ok
       have EO:=inv.A1 r (q4 Vs) h2' h3
       rw[EO,Vr] at zo;simp at zo;subst zo
       rw[AX hag] at OP
       have SF:Region.wanted ol (yielded ops a.tmps)=true:=by rw[vo inv.ts ol,ON];exact hwl
       obtain ⟨φ',w',v',todo,hv,r6,Jd,il⟩:=MU hE cN hoc OP SC (rest:=Region.linearise.go .any ops fuel (t/(Region.ready .any ops listed).length) (listed.setIfInBounds xl.i true) []) (k:=k) inv.ts ok (gu.mono fr.ext) SF
       have ab7:(tr.map (·.i)).Nodup:=by rw[r.trace.is];exact r.nodup
       have OL:xl.ts=oT ops (valOf tr) s.ts d:=by
        rw[(r.trace.step p xl hp).1,EP ops ab7,r.trace.is]
        refine List.ext_getElem? (fun x=>vr s.ts (fun j j' e e'=>wE r.rV e e') (fun j hj=>?_))
        have Lm:j<ops.size:=by
         unfold gI at hj
         cases ho:ops[j]? with
         | none=>rw[ho] at hj;simp at hj
         | some o=>exact (Array.getElem?_eq_some_iff.1 ho).1
        by_cases Vn:j=xl.i
        · subst Vn;exact ⟨fun h=>absurd h q2,fun h=>absurd h h2'⟩
        · exact ⟨fun _=>h3 j (G' j Lm Vn),fun _=>q3 j (G' j Lm Vn)⟩
       exact ⟨φ',a,w',v',todo,hv,by rw[ZI,OL];exact inv.ts.mono Jd.ext,inv.ds,by rw[h2];exact r6,by rw[h2];exact fr.trans Jd,il⟩
     · obtain ⟨K',φ',a',w',WL,il⟩:=inv.Ln hE cN r gu (b:=b) (k:=k) h1 h2' h3 (fun x o hk h' hx MR=>DJ x o hk h' hx (by rw[MR];exact hii)) (Region.linearise.go .any ops fuel (t/(Region.ready .any ops listed).length) (listed.setIfInBounds i true) [])
       obtain ⟨φ2,a2,w2,v2,td,x0,x1,x2,x3,x4,x5⟩:=(DK hE cN r hxl SC hoc G' Vs hwl zo OP DJ h2 ZI gu fuel (t/(Region.ready .any ops listed).length) WL (by simp;omega) (by simp;exact ⟨oS,fun h=>hii h.symm⟩)).is
       exact ⟨φ2,a2,w2,v2,td,x0,x1,x2,x3,x4,Steps.trans il x5⟩
def A4 (call:a_):a_:=fun f as_ h=>match call f as_ h with
 | .panic _ h'=> .ret AV.undef h'
 | r=>r
theorem OQ {call:a_} {ts:List AV} {h h':ax} {rc:RC} {o:Oper} {v:AV} (e:cZ E call ts h rc o= .val v h'):cZ E (A4 call) ts h rc o= .val v h':=by
 obtain ⟨dst,op,ty,pos,after,guard⟩:=o
 cases op with
 | call c=>
   obtain ⟨cT,args,aT⟩:=c
   cases cT with
   | builtin b=>cases b<;>exact e
   | value f=>
     simp only[cZ] at e ⊢
     split at e
     · split at e
       · exact e
       · split at e
         · rename_i hc
           simp only[A4,hc];exact e
         · simp at e
         · simp at e
     · simp at e
   | invoke x name=>
     simp only[cZ] at e ⊢
     split at e
     · split at e
       · split at e
         · rename_i hc
           simp only[A4,hc];exact e
         · simp at e
         · simp at e
       · simp at e
     · simp at e
 | _=>exact e
theorem OS {call:a_} {ts:List AV} {h h':ax} {rc:RC} {dst:Option Tmp} {c:Call} {ty:TypeId} {pos:String} {after:Array Edge} {guard:Option (Nat×Bool)} {v:AV} (e:cZ E call ts h rc ⟨dst,.call c,ty,pos,after,guard⟩= .panic v h'):
 cZ E (A4 call) ts h rc ⟨dst,.call c,ty,pos,after,guard⟩= .val AV.undef h':=by
 obtain ⟨cT,args,aT⟩:=c
 cases cT with
 | builtin b=>
   cases b<;>simp only[cZ] at e<;>(try (simp at e;done))<;>(split at e<;>(try (simp at e;done))<;>(try (split at e<;>simp at e)))
 | value f=>
   simp only[cZ] at e ⊢
   split at e
   · split at e
     · split at e<;>simp at e
     · split at e
       · simp at e
       · rename_i hc
         simp at e;obtain ⟨rfl,rfl⟩:=e
         simp only[A4,hc]
       · simp at e
   · simp at e
 | invoke x name=>
   simp only[cZ] at e ⊢
   split at e
   · split at e
     · split at e
       · simp at e
       · rename_i hc
         simp at e;obtain ⟨rfl,rfl⟩:=e
         simp only[A4,hc]
       · simp at e
     · simp at e
   · simp at e
theorem nK {α:Type} {f:α→Option Nat}:∀{l:List α} (_:(l.filterMap f).Nodup) {x y:α} {n:Nat} (_:x∈l) (_:y∈l) (_:f x=some n) (_:f y=some n),x=y
 | [],_,x,y,n,hx,_,_,_=>by simp at hx
 | z::l,hn,x,y,n,hx,hy,fx,fy=>by
   cases hz:f z with
   | none=>
     rw[List.filterMap_cons_none hz] at hn
     have Zq:x∈l:=by
      simp at hx;rcases hx with rfl | h
      · rw[hz] at fx;simp at fx
      · exact h
     have OC:y∈l:=by
      simp at hy;rcases hy with rfl | h
      · rw[hz] at fy;simp at fy
      · exact h
     exact nK hn Zq OC fx fy
   | some m=>
     rw[List.filterMap_cons_some hz,List.nodup_cons] at hn
     simp at hx hy
     rcases hx with rfl | hx<;>rcases hy with rfl | hy
     · rfl
     · exfalso;rw[fx] at hz;simp at hz;subst hz;exact hn.1 (List.mem_filterMap.2 ⟨y,hy,fy⟩)
     · exfalso;rw[fy] at hz;simp at hz;subst hz;exact hn.1 (List.mem_filterMap.2 ⟨x,hx,fx⟩)
     · exact nK hn.2 hx hy fx fy
theorem OT (MH:sf E ops=some pl) (hd:cM E call ops pl.order 0 s= .ok tr hs s') (hl:qL E ops pl tr hs=true):∃st,ES E call ops pl s s' tr hs st:=by
 obtain ⟨st,t⟩:=nJ hd
 unfold qL at hl
 simp only[Bool.and_eq_true] at hl
 refine ⟨st,G7 MH,t,fun x hx K hk h1 h2 h3=>?_,fun x y hx hy n o q e1 e2=>?_⟩
 · have h4:=List.all_eq_true.1 (List.all_eq_true.1 hl.2 x hx) hk
   refine h4 ?_
   refine List.mem_of_getElem? (i:=K - x.k) ?_
   rw[List.getElem?_take,if_pos (by omega),List.getElem?_drop,show x.k+(K - x.k)=K by omega,h3]
 · have:=vq hl.1
   have:=nK this hx hy (n:=n) (by simp [e1]) (by simp [e2])
   rw[this]
theorem vt {call DL:a_} (hc:∀{ts:List AV} {h h':ax} {rc:RC} {o:Oper} {v:AV},cZ E call ts h rc o= .val v h'→cZ E DL ts h rc o= .val v h') {i:Nat} {o:Oper} (ho:ops[i]? =some o) (he:fw E o.op=true):
 ∀(l:List Nat) (k:Nat) (s:St) {tr:List Step} {hs:List ax} {s1:St} {h':ax} (_:cM E call ops l k s= .ok tr hs s1) (_:cm ops s1.ts o=true) (_:cZ E DL s1.ts s1.h s1.rc o= .val AV.undef h'),
  cM E DL ops (l++[i]) k s= .ok (tr++[⟨i,k+(hs.length - 1),s1.ts,AV.undef,.uF h'⟩]) (hs++[h']) {s1 with ts:=dB s1.ts o.dst AV.undef,h:=h'}
 | [],k,s,tr,hs,s1,h',hd,hw,hv=>by
   simp [cM] at hd;obtain ⟨rfl,rfl,rfl⟩:=hd
   simp only[List.nil_append,cM,ho,he,if_true,hw,hv]
   simp [jI.bound,jI.step]
 | j::l,k,s,tr,hs,s1,h',hd,hw,hv=>by
   rw[List.cons_append]
   simp only[cM] at hd ⊢
   cases Vp:ops[j]? with
   | none=>rw[Vp] at hd;simp at hd
   | some oj=>
   rw[Vp] at hd
   simp only at hd ⊢
   have wr:∀(x:Step) (s0:St),((cM E call ops l (k+1) s0).bound s.h).step x= .ok tr hs s1→((cM E DL ops (l++[i]) (k+1) s0).bound s.h).step x= .ok (tr++[⟨i,k+(hs.length - 1),s1.ts,AV.undef,.uF h'⟩]) (hs++[h']) {s1 with ts:=dB s1.ts o.dst AV.undef,h:=h'}:=by
    intro x s0 hd
    cases hr:cM E call ops l (k+1) s0 with
    | fail why q=>rw[hr] at hd;simp [jI.bound,jI.step] at hd
    | ok Ll qQ s2=>
      rw[hr] at hd;simp [jI.bound,jI.step] at hd;obtain ⟨rfl,rfl,rfl⟩:=hd
      rw[vt hc ho he l (k+1) s0 hr hw hv]
      obtain ⟨_,t⟩:=nJ hr
      have:1≤qQ.length:=by have:=t.len;omega
      simp [jI.bound,jI.step];omega
   have pl:∀(x:Step) (s0:St),(cM E call ops l k s0).step x= .ok tr hs s1→(cM E DL ops (l++[i]) k s0).step x= .ok (tr++[⟨i,k+(hs.length - 1),s1.ts,AV.undef,.uF h'⟩]) (hs++[h']) {s1 with ts:=dB s1.ts o.dst AV.undef,h:=h'}:=by
    intro x s0 hd
    cases hr:cM E call ops l k s0 with
    | fail why q=>rw[hr] at hd;simp [jI.step] at hd
    | ok Ll qQ s2=>
      rw[hr] at hd;simp [jI.step] at hd;obtain ⟨rfl,rfl,rfl⟩:=hd
      rw[vt hc ho he l k s0 hr hw hv]
      simp [jI.step]
   split at hd
   · rename_i WM
     rw[if_pos WM]
     split at hd
     · rename_i C6
       rw[if_pos C6]
       split at hd
       · rename_i OO
         simp only[hc OO]
         exact wr _ _ hd
       · simp at hd
       · simp at hd
     · rename_i C6
       rw[if_neg C6]
       exact wr _ _ hd
   · rename_i WM
     rw[if_neg WM]
     split at hd
     · rename_i C6
       rw[if_pos C6]
       split at hd
       · rename_i hp
         try simp only[hp]
         exact pl _ _ hd
       · rename_i hp
         try simp only[hp]
         split at hd
         · rename_i hq
           try simp only[hq]
           exact pl _ _ hd
         · rename_i hq
           try simp only[hq]
           split at hd
           · rename_i hr
             try simp only[hr]
             split at hd
             · rename_i hn
               try simp only[hn]
               exact pl _ _ hd
             · simp at hd
           · simp at hd
     · rename_i C6
       rw[if_neg C6]
       exact pl _ _ hd
theorem yw {call:a_} {i:Nat} {o:Oper} (ho:ops[i]? =some o) (he:fw E o.op=true) {v:AV}:
 ∀(l:List Nat) (k:Nat) (s:St) {tr:List Step} {hs:List ax} {s1:St} {h':ax} (_:cM E call ops l k s= .ok tr hs s1) (_:cm ops s1.ts o=true) (_:cZ E call s1.ts s1.h s1.rc o= .panic v h'),
  ∃why q,cM E call ops (l++[i]) k s= .fail why q
 | [],k,s,tr,hs,s1,h',hd,hw,hv=>by
   simp [cM] at hd;obtain ⟨rfl,rfl,rfl⟩:=hd
   simp only[List.nil_append,cM,ho,he,if_true,hw,hv]
   exact ⟨_,_,rfl⟩
 | j::l,k,s,tr,hs,s1,h',hd,hw,hv=>by
   rw[List.cons_append]
   simp only[cM] at hd ⊢
   cases Vp:ops[j]? with
   | none=>rw[Vp] at hd;simp at hd
   | some oj=>
   rw[Vp] at hd
   simp only at hd ⊢
   have wr:∀(x:Step) (s0:St),((cM E call ops l (k+1) s0).bound s.h).step x= .ok tr hs s1→∃why q,((cM E call ops (l++[i]) (k+1) s0).bound s.h).step x= .fail why q:=by
    intro x s0 hd
    cases hr:cM E call ops l (k+1) s0 with
    | fail why q=>rw[hr] at hd;simp [jI.bound,jI.step] at hd
    | ok Ll qQ s2=>
      rw[hr] at hd;simp [jI.bound,jI.step] at hd;obtain ⟨rfl,rfl,rfl⟩:=hd
      obtain ⟨why,q,e⟩:=yw ho he l (k+1) s0 hr hw hv
      rw[e];exact ⟨_,_,rfl⟩
   have pl:∀(x:Step) (s0:St),(cM E call ops l k s0).step x= .ok tr hs s1→∃why q,(cM E call ops (l++[i]) k s0).step x= .fail why q:=by
    intro x s0 hd
    cases hr:cM E call ops l k s0 with
    | fail why q=>rw[hr] at hd;simp [jI.step] at hd
    | ok Ll qQ s2=>
      rw[hr] at hd;simp [jI.step] at hd;obtain ⟨rfl,rfl,rfl⟩:=hd
      obtain ⟨why,q,e⟩:=yw ho he l k s0 hr hw hv
      rw[e];exact ⟨_,_,rfl⟩
   split at hd
   · rename_i WM
     rw[if_pos WM]
     split at hd
     · rename_i C6
       rw[if_pos C6]
       split at hd
       · rename_i OO
         try simp only[OO]
         exact wr _ _ hd
       · simp at hd
       · simp at hd
     · rename_i C6
       rw[if_neg C6]
       exact wr _ _ hd
   · rename_i WM
     rw[if_neg WM]
     split at hd
     · rename_i C6
       rw[if_pos C6]
       split at hd
       · rename_i hp
         try simp only[hp]
         exact pl _ _ hd
       · rename_i hp
         try simp only[hp]
         split at hd
         · rename_i hq
           try simp only[hq]
           exact pl _ _ hd
         · rename_i hq
           try simp only[hq]
           split at hd
           · rename_i hr
             try simp only[hr]
             split at hd
             · rename_i hn
               try simp only[hn]
               exact pl _ _ hd
             · simp at hd
           · simp at hd
     · rename_i C6
       rw[if_neg C6]
       exact pl _ _ hd
end
theorem A5 {call:a_} {ops:Array Oper} {pl:bO} {s s':St} {tr:List Step} {qO st:List ax} (r:ES E call ops pl s s' tr qO st)
 {φ:Ph} {a:Act} {w:World} (OL:LR φ s.ts a.tmps.toList) (ok:OK E φ s.h w):Inv E ops pl s tr qO st φ w a.defers [] (Array.replicate ops.size false) 0 φ a {w with drawn:=w.drawn+1}:=by
 have Hc:OK E φ s.h {w with drawn:=w.drawn+1}:=⟨ok.zf,ok.nx,ok.uG,ok.live,ok.inj⟩
 have Y1:Fr φ s.h w φ s.h {w with drawn:=w.drawn+1}:=⟨Ph.le_refl φ,fun _ _=>rfl,Nat.le_refl _,rfl,rfl,rfl,Nat.le_refl _,fun _ _ _=>rfl,fun i o l a b c=> .inr ⟨i,o,l,a,b,c,rfl⟩⟩
 have hlen:0<qO.length:=by have:=r.trace.len;omega
 have h0:qO[0]? =some qO[0]:=by simp [hlen]
 have g:=r.trace.grown 0 s.h _ r.trace.first h0
 obtain ⟨A2,WK⟩:=Hc.grown g
 refine ⟨.nil,fun i hi=>by simp at hi,fun i hi=>by simp [hi],fun i hi=>by simp at hi,fun q e hq=>by simp,by omega,by simpa [oT] using OL,rfl,⟨_,h0,A2,Y1.trans WK⟩,fun x hx n obj hk _ ZH=>?_⟩
 obtain ⟨q,hq⟩:=List.getElem?_of_mem hx
 obtain ⟨_,_,_,hky,oy,hoy,_,_⟩:=r.at hq
 obtain ⟨_,_,oy',ab0,ab1,ab2,De,Df,JL⟩:=r.trace.step q x hq
 rw[←hky] at De Df
 have EO:x.k=0:=by omega
 rw[EO] at De Df
 rw[r.trace.first] at Df;simp at Df;subst Df
 unfold wB at JL
 rw[hk] at JL
 obtain ⟨_,_,_,hn1,YZ⟩:=JL
 refine ⟨?_,hn1,fun hK e=>?_⟩
 · cases hφ:φ n with
   | none=>rfl
   | some l=>have:=ok.zf n l hφ;omega
 · rw[e] at De;simp at De;subst De;exact YZ
theorem Hd (hE:kn E) (ab8:E.P.follows .mixedOrders=true) {call:a_} (cN:hS E call) {ops:Array Oper} {s s':St} {e:jY} (h:we E call ops s= .ok e s')
 {φ:Ph} {a:Act} {w:World} {b:Frame} {k:List Item} {K:Bool→List Frame} (hs:SR φ s.ts s.ds a) (ok:OK E φ s.h w) (gu:mP φ b K s.rc) (id:Nat):
 s'.rc=s.rc∧s'.ds=s.ds∧((e= .normal∧∃φ' a' w',LR φ' s'.ts a'.tmps.toList∧a'.defers=a.defers∧OK E φ' s'.h w'∧Fr φ s.h w φ' s'.h w'∧
  Steps E.P (lone (b.atR a (.code (.region id ops true)::k)) (cur K s.rc) w) (lone (b.atR a' k) (cur K s.rc) w'))∨
  ∃v,e= .panic v∧EU E φ s.h w a.defers b (cur K s.rc) v s' (lone (b.atR a (.code (.region id ops true)::k)) (cur K s.rc) w)):=by
 have ZJ:Region.schedule (E.P.follows .mixedOrders) ops (w.tape w.drawn (.order b.fn id))=Region.linearise.go .any ops ops.size (w.tape w.drawn (.order b.fn id)) (Array.replicate ops.size false) []:=by
  rw[ab8];rfl
 unfold we at h
 split at h
 · simp at h
 rename_i pl MH
 split at h
 · rename_i tr qO s1 hd
   split at h
   · rename_i hl
     simp at h;obtain ⟨rfl,rfl⟩:=h
     obtain ⟨st,r⟩:=OT MH hd hl
     refine ⟨r.trace.rc,r.trace.ds,.inl ⟨rfl,?_⟩⟩
     obtain ⟨φ',a',w',x1,x2,x3,x4,x5⟩:=(Hb hE cN r gu (b:=b) (k:=k) ops.size (w.tape w.drawn (.order b.fn id)) (A5 r hs.ts ok) (by simp)).is
     refine ⟨φ',a',w',x1,x2,x3,x4,.head stepR_region_draw ?_⟩
     rw[ZJ]
     exact x5
   · simp at h
 · split at h
   · rename_i v s2 hp
     simp at h;obtain ⟨rfl,rfl⟩:=h
     unfold AB at hp
     split at hp
     · simp at hp
     rename_i i front Tf
     split at hp
     · rename_i tr qO s1 dst c ty pos after guard hd ho
       split at hp
       · rename_i EB
         split at hp
         · rename_i v1 h1 OO
           split at hp
           · rename_i hl
             simp at hp;obtain ⟨rfl,rfl⟩:=hp
             simp only[Bool.and_eq_true,List.all_eq_true,List.mem_range,Bool.or_eq_true,beq_iff_eq] at EB
             obtain ⟨⟨he,hw⟩,G'⟩:=EB
             have OJ:pl.order=front.reverse++[i]:=by
              have:=congrArg List.reverse Tf
              simpa using this
             have WN:=vt (DL:=A4 call) (fun e=>OQ e) ho he front.reverse 0 s hd hw (OS OO)
             rw[←OJ] at WN
             rw[Nat.zero_add] at WN
             obtain ⟨st,r⟩:=OT MH WN hl
             obtain ⟨N8,t1⟩:=nJ hd
             have ZK:s1.rc=s.rc:=t1.rc
             refine ⟨ZK,t1.ds,.inr ⟨_,rfl,?_⟩⟩
             have hlen:1≤qO.length:=by have:=t1.len;omega
             have Ha:(qO++[h1])[qO.length - 1]? =some s1.h:=by
              rw[List.getElem?_append_left (by omega)]
              have:=t1.last
              rw[show qO.length - 1=qH E ops front.reverse by have:=t1.len;omega];exact this
             have DJ:∀(x:Step) (o:Oper) (hk h':ax),x∈tr++[⟨i,qO.length - 1,s1.ts,AV.undef,.uF h1⟩]→x.i≠i→ops[x.i]? =some o→(qO++[h1])[x.k]? =some hk→x.kind= .uF h'→cZ E call x.ts hk s.rc o= .val x.v h':=by
              intro x o hk h' hx MR G9 zo yp
              have Zq:x∈tr:=by
               simp at hx;rcases hx with h | h
               · exact h
               · exact absurd (by rw[h]) MR
              obtain ⟨p,hp⟩:=List.getElem?_of_mem Zq
              obtain ⟨_,ZH,o',hk1,sk1,ho2,WO,ZF,il⟩:=t1.step p x hp
              rw[G9] at ho2;simp at ho2;subst ho2
              rw[Nat.zero_add] at ZH
              rw[←ZH] at WO
              have lr:x.k<qO.length:=(List.getElem?_eq_some_iff.1 WO).1
              rw[List.getElem?_append_left lr,WO] at zo
              simp at zo;subst zo
              unfold wB at il;rw[yp] at il;exact il.2.2.1
             have ab9:=(DK hE cN r (xl:=⟨i,qO.length - 1,s1.ts,AV.undef,.uF h1⟩) (by simp) (ol:=⟨dst,.call c,ty,pos,after,guard⟩) ho rfl (fun j hj ea=>(G' j hj).resolve_left ea) he hw Ha (by rw[←ZK];exact OO) DJ
              (s2:={s1 with h:=h1}) rfl rfl gu (b:=b) (k:=k) ops.size (w.tape w.drawn (.order b.fn id)) (A5 r hs.ts ok) (by simp) (by simp)).is
             obtain ⟨φ',a',w',v',todo,x0,x1,x2,x3,x4,x5⟩:=ab9
             refine ⟨φ',a',w',v',todo,x0,x1,x2,x3,x4,.head stepR_region_draw ?_⟩
             rw[ZJ]
             exact x5
           · simp at hp
         · simp at hp
       · simp at hp
     · simp at hp
   · simp at h
end Go.Ab
end
