import Derived.Orders
import Derived.Test.YtijehnelcbdlgaaGreatA2
set_option linter.unusedVariables false
set_option linter.unusedSimpArgs false
section
namespace Go.Ab
variable {E:Env}
def DU (E:Env) (ts ml:List AV) (op:Op):Prop:=∀x∈op.operands,dZ E ts x=dZ E ml x
theorem wF {α β:Type} {f g:α→Option β}:∀{l:List α} (_:∀x∈l,f x=g x),eB f l=eB g l
 | [],_=>rfl
 | x::xs,h=>by simp only[eB,h x (by simp),wF (l:=xs) (fun y hy=>h y (by simp [hy]))]
theorem px {ts ml:List AV} {l:List Operand} (h:∀x∈l,dZ E ts x=dZ E ml x):f' E ts l=f' E ml l:=wF h
theorem qV {ts ml:List AV}:∀{l:List (Nat×Operand)} (_:∀x∈l.map (·.2),dZ E ts x=dZ E ml x),kA E ts l=kA E ml l
 | [],_=>rfl
 | (i,o)::l,h=>by simp only[kA,h o (by simp),qV (l:=l) (fun y hy=>h y (by simp at hy ⊢;exact .inr hy))]
theorem sU {ts ml:List AV} {o:Option Operand} (h:∀x∈o.toArray,dZ E ts x=dZ E ml x):mY E ts o=mY E ml o:=by
 cases o with
 | none=>rfl
 | some o=>simp only[mY,h o (by simp)]
theorem wG {ts ml:List AV} {c:Call} (h:∀x∈c.operands,dZ E ts x=dZ E ml x):callee E ts c=callee E ml c:=by
 unfold callee
 cases hc:c.callee with
 | value f=>
   have h1:dZ E ts f=dZ E ml f:=h f (by simp [Call.operands,hc])
   have h2:f' E ts c.args.toList=f' E ml c.args.toList:=px (fun x hx=>h x (by simp [Call.operands,hc];exact .inr (by simpa using hx)))
   simp only[h1,h2]
 | invoke _ _=>rfl
 | builtin _=>rfl
theorem nI {ts ml:List AV} {c:Call} (h:∀x∈c.operands,dZ E ts x=dZ E ml x):f' E ts c.args.toList=f' E ml c.args.toList:=
 px (fun x hx=>h x (by simp [Call.operands];exact .inr (by simpa using hx)))
theorem Hu {ts ml:List AV} {op:Op} (h:DU E ts ml op):bp E ts op=bp E ml op:=by
 cases op with
 | call c=>
   have hc:=nI (E:=E) (ts:=ts) (ml:=ml) (c:=c) h
   obtain ⟨callee,args,argTypes⟩:=c
   simp only at hc
   cases callee with
   | builtin b=>cases b<;>simp only[bp,hc]
   | value f=>cases f<;>simp only[bp,hc]
   | invoke r m=>simp only[bp]
 | build t ps=>
   have:kA E ts ps.toList=kA E ml ps.toList:=qV (fun x hx=>h x (by simpa [Op.operands] using hx))
   simp only[bp,this]
 | makeFunc fn first captured=>
   cases fn with
   | func f=>
     have h1:f' E ts first.toList=f' E ml first.toList:=px (fun x hx=>h x (by simp [Op.operands];exact .inl (by simpa using hx)))
     have h2:f' E ts captured.toList=f' E ml captured.toList:=px (fun x hx=>h x (by simp [Op.operands];exact .inr (by simpa using hx)))
     simp only[bp,h1,h2]
   | _=>simp only[bp]
 | slice t x lo hi mx=>
   have h0:dZ E ts x=dZ E ml x:=h x (by simp [Op.operands])
   have h1:mY E ts lo=mY E ml lo:=sU (fun y hy=>h y (by simp [Op.operands] at hy ⊢;exact .inr (.inl hy)))
   have h2:mY E ts hi=mY E ml hi:=sU (fun y hy=>h y (by simp [Op.operands] at hy ⊢;exact .inr (.inr (.inl hy))))
   have h3:mY E ts mx=mY E ml mx:=sU (fun y hy=>h y (by simp [Op.operands] at hy ⊢;exact .inr (.inr (.inr hy))))
   simp only[bp,h0,h1,h2,h3]
 | move x=>simp only[bp,h x (by simp [Op.operands])]
 | assign x=>simp only[bp,h x (by simp [Op.operands])]
 | pick c a b=>simp only[bp,h c (by simp [Op.operands]),h a (by simp [Op.operands]),h b (by simp [Op.operands])]
 | nilCheck x=>simp only[bp,h x (by simp [Op.operands])]
 | binOp o t x y u=>simp only[bp,h x (by simp [Op.operands]),h y (by simp [Op.operands])]
 | unOp o t x=>simp only[bp,h x (by simp [Op.operands])]
 | convert s d x=>simp only[bp,h x (by simp [Op.operands])]
 | makeInterface t x=>simp only[bp,h x (by simp [Op.operands])]
 | fieldAddr s x f=>simp only[bp,h x (by simp [Op.operands])]
 | field s x f=>simp only[bp,h x (by simp [Op.operands])]
 | indexAddr t x i=>simp only[bp,h x (by simp [Op.operands]),h i (by simp [Op.operands])]
 | index t x i=>simp only[bp,h x (by simp [Op.operands]),h i (by simp [Op.operands])]
 | extract x i=>simp only[bp,h x (by simp [Op.operands])]
 | typeAssert x a b ok=>simp only[bp,h x (by simp [Op.operands])]
 | _=>simp only[bp]
theorem Hv {ts ml:List AV} {op:Op} (h:DU E ts ml op) (hp:ak):dM E ts hp op=dM E ml hp op:=by
 cases op with
 | call c=>
   have hc:=nI (E:=E) (ts:=ts) (ml:=ml) (c:=c) h
   obtain ⟨callee,args,argTypes⟩:=c
   simp only at hc
   cases callee with
   | builtin b=>cases b<;>simp only[dM,hc]
   | value f=>simp only[dM]
   | invoke r m=>simp only[dM]
 | load t a=>simp only[dM,h a (by simp [Op.operands])]
 | convert s d x=>simp only[dM,h x (by simp [Op.operands])]
 | lookup t x i ok=>simp only[dM,h x (by simp [Op.operands]),h i (by simp [Op.operands])]
 | _=>simp only[dM]
theorem E7 {ts ml:List AV} {op:Op} (h:DU E ts ml op):ek E ts op=ek E ml op:=by
 cases op with
 | buildSlice t n ps=>
   have:kA E ts ps.toList=kA E ml ps.toList:=qV (fun x hx=>h x (by simpa [Op.operands] using hx))
   simp only[ek,this]
 | box t x=>simp only[ek,h x (by simp [Op.operands])]
 | makeSlice t l c=>simp only[ek,h l (by simp [Op.operands]),h c (by simp [Op.operands])]
 | makeMap t r=>
   cases r with
   | none=>simp only[ek]
   | some r=>simp only[ek,h r (by simp [Op.operands])]
 | range t x=>simp only[ek,h x (by simp [Op.operands])]
 | _=>simp only[ek]
theorem Bm {call:a_} {ts ml:List AV} {o:Oper} (h:DU E ts ml o.op) (hp:ak) (rc:RC):dr E call ts hp rc o=dr E call ml hp rc o:=by
 obtain ⟨dst,op,ty,pos,after,guard⟩:=o
 simp only at h
 unfold dr
 cases op with
 | call c=>
   have hc:=nI (E:=E) (ts:=ts) (ml:=ml) (c:=c) h
   have Db:=wG (E:=E) (ts:=ts) (ml:=ml) (c:=c) h
   cases Yh:c.callee with
   | invoke r name=>
     have hr:dZ E ts r=dZ E ml r:=h r (by simp [Op.operands,Call.operands,Yh])
     simp only[Yh,hc,hr]
   | builtin b=>cases b<;>simp only[Yh,hc]
   | value f=>simp only[Yh,Db]
 | defer c=>simp only[wG (E:=E) (ts:=ts) (ml:=ml) (c:=c) h]
 | store t a x=>simp only[h a (by simp [Op.operands]),h x (by simp [Op.operands])]
 | mapUpdate t m k x=>simp only[h m (by simp [Op.operands]),h k (by simp [Op.operands]),h x (by simp [Op.operands])]
 | insert t m k x=>simp only[h m (by simp [Op.operands]),h k (by simp [Op.operands]),h x (by simp [Op.operands])]
 | mapEntry t m k=>simp only[h m (by simp [Op.operands]),h k (by simp [Op.operands])]
 | entryStore t m k x=>simp only[h m (by simp [Op.operands]),h k (by simp [Op.operands]),h x (by simp [Op.operands])]
 | convert s d x=>simp only[h x (by simp [Op.operands])]
 | next i s=>simp only[h i (by simp [Op.operands])]
 | panic x=>simp only[h x (by simp [Op.operands])]
 | _=>rfl
end Go.Ab
end
section
namespace Go.Ab
variable {E:Env}
theorem m4 {α:Type} {f:α→α→Bool} (hf:∀x y,f x y=true→x=y):∀{l r:List α} (_:gW f l r=true),l=r
 | [],[],_=>rfl
 | [],_::_,h=>by simp [gW] at h
 | _::_,[],h=>by simp [gW] at h
 | x::xs,y::ys,h=>by
   simp only[gW,Bool.and_eq_true] at h
   rw[hf x y h.1,m4 hf h.2]
theorem AV.wH:∀(n:Nat) (x y:AV),AV.same n x y=true→x=y
 | 0,_,_,h=>by simp [AV.same] at h
 | n+1,x,y,h=>by
   have ih:=AV.wH n
   cases x<;>cases y<;>simp [AV.same] at h<;>try rfl
   all_goals first
    | (subst h;rfl)
    | (obtain ⟨rfl,rfl⟩:=h;rfl)
    | (obtain ⟨⟨⟨⟨rfl,rfl⟩,rfl⟩,rfl⟩,rfl⟩:=h;rfl)
    | (obtain ⟨⟨rfl,h1⟩,h2⟩:=h;rw[m4 ih h1,m4 ih h2])
    | (obtain ⟨rfl,h1⟩:=h;rw[ih _ _ h1])
    | (rw[m4 ih h])
theorem aK.wH {x y:aK} (h:aK.same x y=true):x=y:=by
 unfold aK.same at h
 split at h
 · simp only[Bool.and_eq_true,beq_iff_eq] at h
   obtain ⟨⟨h1,rfl⟩,rfl⟩:=h
   rw[m4 (AV.wH 20) h1]
 · simp at h;subst h;rfl
 · simp at h;obtain ⟨rfl,rfl⟩:=h;rfl
 · simp at h
theorem vx:∀{l:List Nat} (_:nodup l=true),l.Nodup
 | [],_=> .nil
 | x::xs,h=>by
   simp only[nodup,Bool.and_eq_true,Bool.not_eq_true',List.contains_eq_mem,decide_eq_false_iff_not] at h
   exact List.nodup_cons.2 ⟨h.1,vx h.2⟩
theorem Bn:∀(n:Nat) (l:List Nat) (_:l.Nodup) (_:∀x∈l,x<n),l.length≤n
 | 0,l,_,h=>by
   cases l with
   | nil=>simp
   | cons x _=>have:=h x (by simp);omega
 | n+1,l,hn,h=>by
   have h1:=Bn n (l.erase n) (hn.erase n) (fun x hx=>by
    have h2:=h x (List.mem_of_mem_erase hx)
    have h3:x≠n:=(hn.mem_erase_iff.1 hx).1
    omega)
   rw[List.length_erase] at h1
   split at h1<;>omega
structure Bo (E:Env) (ops:Array Oper) (pl:mj):Prop where
 lt:∀i o j,ops[i]? =some o→dN pl.an i j=true→j<i
 direct:∀i o e,ops[i]? =some o→e∈lj o→e<i∧dN pl.an i e=true
 closed:∀i o j,ops[i]? =some o→dN pl.an i j=true→∃e∈lj o,e=j∨dN pl.an e j=true
 guard:∀i o g want,ops[i]? =some o→o.guard=some (g,want)→dN pl.an i g=true
 slot:∀i j o p d,i≠j→ops[i]? =some o→ops[j]? =some p→p.dst=some d→o.dst≠some d∧(d∈tmpsOf o→dN pl.an i j=true∨dN pl.an j i=true)
 chain:∀q e f,pl.bE[q]? =some e→pl.bE[q+1]? =some f→dN pl.an f e=true
 bE:pl.bE=nB E ops.toList
 nd:pl.bE.Nodup
 order:lk E ops pl.an pl.bE pl.order [] 0=true
theorem tV {ops:Array Oper} {i:Nat} {o:Oper} (h:ops[i]? =some o):(o,i)∈ops.toList.zipIdx:=by
 rw[List.mk_mem_zipIdx_iff_getElem?];simpa using h
theorem wI {an:List (List Nat)}:∀{l:List Nat} (_:tQ an l=true) (q e f:Nat),l[q]? =some e→l[q+1]? =some f→dN an f e=true
 | [],_,q,e,f,h,_=>by simp at h
 | [x],_,q,e,f,h,h'=>by simp at h'
 | x::y::l,hc,q,e,f,h,h'=>by
   simp only[tQ,Bool.and_eq_true] at hc
   cases q with
   | zero=>simp at h h';subst h;subst h';exact hc.1
   | succ q=>exact wI hc.2 q e f (by simpa using h) (by simpa using h')
theorem Hw {ops:Array Oper} {pl:mj} (h:sG E ops=some pl):Bo E ops pl:=by
 unfold sG at h
 simp only at h
 split at h
 · rename_i hc
   simp at h;subst h
   simp only[Bool.and_eq_true] at hc
   obtain ⟨⟨⟨⟨he,hs⟩,Ys⟩,pf⟩,Qe⟩:=hc
   have JH:=List.all_eq_true.1 he
   have qQ:=List.all_eq_true.1 hs
   refine ⟨fun i o j ho hj=>?_,fun i o e ho hm=>?_,fun i o j ho hj=>?_,fun i o g want ho hg=>?_,fun i j o p d ep ho hp hd=>?_,wI Ys,rfl,vx pf,Qe⟩
   · have:=JH _ (tV ho)
     simp only[Bool.and_eq_true] at this
     have h2:=List.all_eq_true.1 this.2 j (by simpa [dN] using hj)
     simp only[Bool.and_eq_true,decide_eq_true_eq] at h2
     exact h2.1
   · have:=JH _ (tV ho)
     simp only[Bool.and_eq_true] at this
     have h2:=List.all_eq_true.1 this.1 e hm
     simpa using h2
   · have:=JH _ (tV ho)
     simp only[Bool.and_eq_true] at this
     have h2:=List.all_eq_true.1 this.2 j (by simpa [dN] using hj)
     simp only[Bool.and_eq_true,List.any_eq_true,Bool.or_eq_true,beq_iff_eq] at h2
     exact h2.2
   · have:=qQ _ (tV ho)
     simp only[Bool.and_eq_true,hg] at this
     exact this.1.1
   · have:=qQ _ (tV ho)
     simp only[Bool.and_eq_true] at this
     have h2:=List.all_eq_true.1 this.2 _ (tV hp)
     simp only[Bool.or_eq_true,beq_iff_eq,ep,false_or,hd,Bool.and_eq_true,bne_iff_ne,Bool.not_eq_true',List.contains_eq_mem,decide_eq_false_iff_not] at h2
     exact ⟨h2.1,fun hm=>(h2.2.imp_left (fun x=>x.resolve_left (fun hn=>hn hm)))⟩
 · simp at h
def qH (E:Env) (ops:Array Oper) (l:List Nat):Nat:=(l.filter fun i=>fJ E ((ops.getD i default).op)).length
theorem E8 {ops:Array Oper} {i:Nat} (l:List Nat) (h:fJ E ((ops.getD i default).op)=true):qH E ops (i::l)=qH E ops l+1:=by
 unfold qH;rw[List.filter_cons_of_pos (p:=fun i=>fJ E ((ops.getD i default).op)) h];rfl
theorem E9 {ops:Array Oper} {i:Nat} (l:List Nat) (h:¬fJ E ((ops.getD i default).op)=true):qH E ops (i::l)=qH E ops l:=by
 unfold qH;rw[List.filter_cons_of_neg (p:=fun i=>fJ E ((ops.getD i default).op)) h]
theorem iO {ops:Array Oper} {an:List (List Nat)} {bE:List Nat}:∀{l seen:List Nat} {k:Nat} (_:lk E ops an bE l seen k=true),
 (∀p i,l[p]? =some i→i<ops.size∧i ∉ seen∧i ∉ l.take p∧(∀j,dN an i j=true→j∈seen∨j∈l.take p)∧
  (fJ E ((ops.getD i default).op)=true→bE[k+qH E ops (l.take p)]? =some i)∧(fJ E ((ops.getD i default).op)=false→EM bE an i=k+qH E ops (l.take p)))∧
 (∀i,i<ops.size→i∈seen∨i∈l)∧k+qH E ops l=bE.length
 | [],seen,k,h=>by
   simp only[lk,Bool.and_eq_true,List.all_eq_true,List.mem_range,beq_iff_eq] at h
   exact ⟨fun p i hp=>by simp at hp,fun i hi=> .inl (by simpa using h.1 i hi),by simpa [qH] using h.2⟩
 | i::l,seen,k,h=>by
   simp only[lk,Bool.and_eq_true,decide_eq_true_eq,Bool.not_eq_true',List.contains_eq_mem,decide_eq_false_iff_not] at h
   obtain ⟨⟨⟨lM,hns⟩,Yv⟩,oC⟩:=h
   have W6:∀j,dN an i j=true→j∈seen:=fun j hj=>by
    have:=List.all_eq_true.1 Yv j (by simpa [dN] using hj)
    simpa using this
   by_cases he:fJ E ((ops.getD i default).op)=true
   · simp only[he,if_true,Bool.and_eq_true,beq_iff_eq] at oC
     obtain ⟨h1,h2,h3⟩:=iO oC.2
     refine ⟨fun p j hp=>?_,fun j hj=>?_,?_⟩
     · cases p with
       | zero=>simp at hp;subst hp;exact ⟨lM,hns,by simp,fun j hj=> .inl (W6 j hj),fun _=>by simpa [qH] using oC.1,fun hf=>by rw[he] at hf;simp at hf⟩
       | succ p=>
         obtain ⟨a1,a2,a3,a4,a5,a6⟩:=h1 p j (by simpa using hp)
         have hc:k+qH E ops (List.take (p+1) (i::l))=k+1+qH E ops (l.take p):=by rw[List.take_succ_cons,E8 _ he];omega
         simp only[List.mem_cons,not_or] at a2
         refine ⟨a1,a2.2,by simp;exact ⟨a2.1,a3⟩,fun m hm=>?_,by rw[hc];exact a5,by rw[hc];exact a6⟩
         rcases a4 m hm with h4 | h4
         · simp at h4;rcases h4 with rfl | h4
           · exact .inr (by simp)
           · exact .inl h4
         · exact .inr (by simp [h4])
     · rcases h2 j hj with h4 | h4
       · simp at h4;rcases h4 with rfl | h4
         · exact .inr (by simp)
         · exact .inl h4
       · exact .inr (by simp [h4])
     · rw[E8 _ he];omega
   · simp only[he,Bool.false_eq_true,if_false,Bool.and_eq_true,beq_iff_eq] at oC
     obtain ⟨h1,h2,h3⟩:=iO oC.2
     refine ⟨fun p j hp=>?_,fun j hj=>?_,?_⟩
     · cases p with
       | zero=>simp at hp;subst hp;exact ⟨lM,hns,by simp,fun j hj=> .inl (W6 j hj),fun hf=>absurd hf he,fun _=>by simpa [qH] using oC.1⟩
       | succ p=>
         obtain ⟨a1,a2,a3,a4,a5,a6⟩:=h1 p j (by simpa using hp)
         have hc:k+qH E ops (List.take (p+1) (i::l))=k+qH E ops (l.take p):=by rw[List.take_succ_cons,E9 _ he]
         simp only[List.mem_cons,not_or] at a2
         refine ⟨a1,a2.2,by simp;exact ⟨a2.1,a3⟩,fun m hm=>?_,by rw[hc];exact a5,by rw[hc];exact a6⟩
         rcases a4 m hm with h4 | h4
         · simp at h4;rcases h4 with rfl | h4
           · exact .inr (by simp)
           · exact .inl h4
         · exact .inr (by simp [h4])
     · rcases h2 j hj with h4 | h4
       · simp at h4;rcases h4 with rfl | h4
         · exact .inr (by simp)
         · exact .inl h4
       · exact .inr (by simp [h4])
     · rw[E9 _ he];exact h3
def g4 (ops:Array Oper) (i:Nat):Option Tmp:=(ops[i]?).bind (·.dst)
def E_ (ops:Array Oper) (ts:List AV) (l:List Step):List AV:=l.foldl (fun ts x=>dR ts (g4 ops x.i) x.v) ts
def pg (ops:Array Oper) (val:Nat→AV) (ts:List AV) (l:List Nat):List AV:=l.foldl (fun ts i=>dR ts (g4 ops i) (val i)) ts
structure Grown (a b:ak):Prop where
 nx:a.nx≤b.nx
 old:∀i,i<a.nx→b.get i=a.get i
theorem Grown.refl (a:ak):Grown a a:=⟨Nat.le_refl _,fun _ _=>rfl⟩
theorem Grown.trans {a b c:ak} (x:Grown a b) (y:Grown b c):Grown a c:=⟨Nat.le_trans x.nx y.nx,fun i hi=>(y.old i (Nat.lt_of_lt_of_le hi x.nx)).trans (x.old i hi)⟩
theorem Grown.new {a b:ak} {o:aK} (h:a.new o=some b):Grown a b:=by
 obtain ⟨h1,h2,h3,h4⟩:=ak.lK h
 exact ⟨by omega,fun i hi=>h4 i (by omega)⟩
theorem OK.grown {φ:Ph} {a b:ak} {w:World} (g:Grown a b) (ok:OK E φ a w):OK E φ b w∧Fr φ a w φ b w:=by
 have hold:∀i l,φ i=some l→b.get i=a.get i:=fun i l hl=>g.old i (ok.An i l hl)
 refine ⟨⟨fun i l hl=>Nat.lt_of_lt_of_le (ok.An i l hl) g.nx,Nat.le_trans ok.nx g.nx,ok.vo,fun i o l hi hl=>ok.live i o l (hold i l hl▸hi) hl,
  fun i j o p l m hi hj hl hm hw hb=>ok.inj i j o p l m (hold i l hl▸hi) (hold j m hm▸hj) hl hm hw hb⟩,
  ⟨Ph.le_refl φ,fun _ _=>rfl,g.nx,rfl,rfl,rfl,Nat.le_refl _,fun _ _ _=>rfl,fun i o l hi hr hl=> .inr ⟨i,o,l,hold i l hl▸hi,hr,hl,rfl⟩⟩⟩
def wJ (E:Env) (call:a_) (ops:Array Oper) (rc:RC) (x:Step) (o:Oper) (hk:ak) (sk:ak) (W7:Option ak):Prop:=
 match x.kind with
 | .off=>cu ops x.ts o=false∧x.v=AV.undef∧(fJ E o.op=true→W7=some hk)
 | .gV=>fJ E o.op=false∧cu ops x.ts o=true∧bp E x.ts o.op=some x.v
 | .red=>fJ E o.op=false∧cu ops x.ts o=true
 | .sH n obj=>fJ E o.op=false∧cu ops x.ts o=true∧(∃mk,ek E x.ts o.op=some (obj,mk)∧x.v=mk n)∧sk.nx≤n∧n<hk.nx
 | .uz h'=>fJ E o.op=true∧cu ops x.ts o=true∧dr E call x.ts hk rc o= .val x.v h'∧W7=some h'
structure UC (E:Env) (call:a_) (ops:Array Oper) (s:St) (k:Nat) (order:List Nat) (tr:List Step) (hs st:List ak) (s':St):Prop where
 is:tr.map (·.i)=order
 ts:s'.ts=E_ ops s.ts tr
 ds:s'.ds=s.ds
 rc:s'.rc=s.rc
 len:hs.length=qH E ops order+1
 Yw:st.length=hs.length
 first:st[0]? =some s.h
 last:hs[qH E ops order]? =some s'.h
 grown:∀(j:Nat) (a b:ak),st[j]? =some a→hs[j]? =some b→Grown a b
 step:∀(p:Nat) (x:Step),tr[p]? =some x→x.ts=E_ ops s.ts (tr.take p)∧x.k=k+qH E ops (order.take p)∧
  ∃o hk sk,ops[x.i]? =some o∧hs[qH E ops (order.take p)]? =some hk∧st[qH E ops (order.take p)]? =some sk∧wJ E call ops s.rc x o hk sk (st[qH E ops (order.take p)+1]?)
theorem tW (ops:Array Oper) (ts:List AV) (x:Step) (l:List Step):E_ ops ts (x::l)=E_ ops (dR ts (g4 ops x.i) x.v) l:=rfl
theorem oH {call:a_} {ops:Array Oper}:∀{order:List Nat} {k:Nat} {s:St} {tr:List Step} {hs:List ak} {s':St} (_:cU E call ops order k s= .ok tr hs s'),
 ∃st,UC E call ops s k order tr hs st s'
 | [],k,s,tr,hs,s',h=>by
   simp [cU] at h;obtain ⟨rfl,rfl,rfl⟩:=h
   exact ⟨[s.h],rfl,rfl,rfl,rfl,rfl,rfl,rfl,rfl,fun j a b ha hb=>by
    cases j with
    | zero=>simp at ha hb;subst ha;subst hb;exact Grown.refl _
    | succ j=>simp at ha,fun p x hp=>by simp at hp⟩
 | i::rest,k,s,tr,hs,s',h=>by
   simp only[cU] at h
   cases ho:ops[i]? with
   | none=>rw[ho] at h;simp at h
   | some o=>
   rw[ho] at h
   simp only at h
   have hgd:ops.getD i default=o:=by simp [Array.getD_eq_getD_getElem?,ho]
   have UD:g4 ops i=o.dst:=by simp [g4,ho]
   have writes:∀(x:Step) (s1:St),x.i=i→x.k=k→x.ts=s.ts→s1.ts=dR s.ts o.dst x.v→s1.ds=s.ds→s1.rc=s.rc→fJ E o.op=true→
    wJ E call ops s.rc x o s.h s.h (some s1.h)→((cU E call ops rest (k+1) s1).bound s.h).step x= .ok tr hs s'→∃st,UC E call ops s k (i::rest) tr hs st s':=by
    intro x s1 N8 E' hxt h1 h2 h3 he jo hd
    cases hr:cU E call ops rest (k+1) s1 with
    | fail why q=>rw[hr] at hd;simp [j_.bound,j_.step] at hd
    | ok Mf sA s2=>
      rw[hr] at hd;simp [j_.bound,j_.step] at hd;obtain ⟨rfl,rfl,rfl⟩:=hd
      obtain ⟨PD,t⟩:=oH hr
      have hc:∀l,qH E ops (i::l)=qH E ops l+1:=fun l=>E8 l (by rw[hgd];exact he)
      refine ⟨s.h::PD,by simp [N8,t.is],?_,t.ds.trans h2,t.rc.trans h3,by simp [t.len,hc],by simp [t.Yw],rfl,by rw[hc];simpa using t.last,fun j a b ha hb=>?_,fun p y hp=>?_⟩
      · rw[tW,N8,UD,←h1];exact t.ts
      · cases j with
        | zero=>simp at ha hb;subst ha;subst hb;exact Grown.refl _
        | succ j=>exact t.grown j a b (by simpa using ha) (by simpa using hb)
      · cases p with
        | zero=>
          simp at hp;subst hp
          refine ⟨by simp [E_,hxt],by simp [qH,E'],o,s.h,s.h,by rw[N8];exact ho,by simp [qH],by simp [qH],?_⟩
          have:(s.h::PD)[qH E ops (List.take 0 (i::rest))+1]? =some s1.h:=by simp [qH];exact t.first
          rw[this];exact jo
        | succ p=>
          obtain ⟨a1,a2,o2,hk,sk,a3,a4,a5,a6⟩:=t.step p y (by simpa using hp)
          refine ⟨?_,by rw[List.take_succ_cons,hc];omega,o2,hk,sk,a3,by rw[List.take_succ_cons,hc];simpa using a4,by rw[List.take_succ_cons,hc];simpa using a5,?_⟩
          · rw[List.take_succ_cons,tW,N8,UD,←h1];exact a1
          · rw[List.take_succ_cons,hc,h3] at *
            simpa using a6
   have plain:∀(x:Step) (s1:St),x.i=i→x.k=k→x.ts=s.ts→s1.ts=dR s.ts o.dst x.v→s1.ds=s.ds→s1.rc=s.rc→fJ E o.op=false→Grown s.h s1.h→
    (∀hk sn,Grown s1.h hk→wJ E call ops s.rc x o hk s.h sn)→(cU E call ops rest k s1).step x= .ok tr hs s'→∃st,UC E call ops s k (i::rest) tr hs st s':=by
    intro x s1 N8 E' hxt h1 h2 h3 he hg jo hd
    cases hr:cU E call ops rest k s1 with
    | fail why q=>rw[hr] at hd;simp [j_.step] at hd
    | ok Mf sA s2=>
      rw[hr] at hd;simp [j_.step] at hd;obtain ⟨rfl,rfl,rfl⟩:=hd
      obtain ⟨PD,t⟩:=oH hr
      have hc:∀l,qH E ops (i::l)=qH E ops l:=fun l=>E9 l (by rw[hgd];simp [he])
      cases Ar:PD with
      | nil=>have:=t.first;rw[Ar] at this;simp at this
      | cons s0 st2=>
      have Kb:s0=s1.h:=by have:=t.first;rw[Ar] at this;simpa using this
      subst Kb
      have gE:∀j,(s.h::st2)[j+1]? =PD[j+1]? :=fun j=>by rw[Ar];rfl
      refine ⟨s.h::st2,by simp [N8,t.is],?_,t.ds.trans h2,t.rc.trans h3,by rw[hc];exact t.len,by have:=t.Yw;rw[Ar] at this;simpa using this,rfl,by rw[hc];exact t.last,fun j a b ha hb=>?_,fun p y hp=>?_⟩
      · rw[tW,N8,UD,←h1];exact t.ts
      · cases j with
        | zero=>
          simp at ha;subst ha
          exact hg.trans (t.grown 0 _ b t.first hb)
        | succ j=>rw[gE] at ha;exact t.grown (j+1) a b ha hb
      · cases p with
        | zero=>
          simp at hp;subst hp
          have h0:∃hk,sA[0]? =some hk:=by
           have:=t.len
           cases hh:sA with
           | nil=>rw[hh] at this;simp at this
           | cons a _=>exact ⟨a,rfl⟩
          obtain ⟨hk,zD⟩:=h0
          refine ⟨by simp [E_,hxt],by simp [qH,E'],o,hk,s.h,by rw[N8];exact ho,by simpa [qH] using zD,by simp [qH],?_⟩
          exact jo hk _ (t.grown 0 _ hk t.first zD)
        | succ p=>
          obtain ⟨a1,a2,o2,hk,sk,a3,a4,a5,a6⟩:=t.step p y (by simpa using hp)
          have hsk:∃sk',(s.h::st2)[qH E ops (List.take p rest)]? =some sk'∧sk'.nx≤sk.nx:=by
           cases hq:qH E ops (List.take p rest) with
           | zero=>rw[hq] at a5;rw[t.first] at a5;simp at a5;subst a5;exact ⟨s.h,rfl,hg.nx⟩
           | succ q=>rw[hq] at a5;exact ⟨sk,by rw[gE];exact a5,Nat.le_refl _⟩
          obtain ⟨sk',adC,adD⟩:=hsk
          refine ⟨?_,by rw[List.take_succ_cons,hc];exact a2,o2,hk,sk',a3,by rw[List.take_succ_cons,hc];exact a4,by rw[List.take_succ_cons,hc];exact adC,?_⟩
          · rw[List.take_succ_cons,tW,N8,UD,←h1];exact a1
          · rw[List.take_succ_cons,hc,gE,←h3]
            unfold wJ at a6 ⊢
            split<;>rename_i wK<;>rw[wK] at a6
            · exact a6
            · exact a6
            · exact a6
            · exact ⟨a6.1,a6.2.1,a6.2.2.1,Nat.le_trans adD a6.2.2.2.1,a6.2.2.2.2⟩
            · exact a6
   split at h
   · rename_i he
     split at h
     · rename_i hw
       split at h
       · rename_i v h' sS
         exact writes ⟨i,k,s.ts,v,.uz h'⟩ {s with ts:=dR s.ts o.dst v,h:=h'} rfl rfl rfl rfl rfl rfl he ⟨he,hw,sS,rfl⟩ h
       · simp at h
       · simp at h
     · rename_i hw
       exact writes ⟨i,k,s.ts,AV.undef,.off⟩ {s with ts:=dR s.ts o.dst AV.undef} rfl rfl rfl rfl rfl rfl he ⟨by simpa using hw,rfl,fun _=>rfl⟩ h
   · rename_i he
     have JH:fJ E o.op=false:=by simpa using he
     split at h
     · rename_i hw
       split at h
       · rename_i v hp
         exact plain ⟨i,k,s.ts,v,.gV⟩ {s with ts:=dR s.ts o.dst v} rfl rfl rfl rfl rfl rfl JH (Grown.refl _) (fun hk sn _=>⟨JH,hw,hp⟩) h
       · split at h
         · rename_i v hp
           exact plain ⟨i,k,s.ts,v,.red⟩ {s with ts:=dR s.ts o.dst v} rfl rfl rfl rfl rfl rfl JH (Grown.refl _) (fun hk sn _=>⟨JH,hw⟩) h
         · split at h
           · rename_i obj mk hp
             split at h
             · rename_i h' hn
               refine plain ⟨i,k,s.ts,mk s.h.nx,.sH s.h.nx obj⟩ {s with ts:=dR s.ts o.dst (mk s.h.nx),h:=h'} rfl rfl rfl rfl rfl rfl JH (Grown.new hn) (fun hk sn g=>⟨JH,hw,⟨mk,hp,rfl⟩,Nat.le_refl _,?_⟩) h
               have:=(ak.lK hn).2.1
               have:=g.nx
               simp at this;omega
             · simp at h
           · simp at h
     · rename_i hw
       exact plain ⟨i,k,s.ts,AV.undef,.off⟩ {s with ts:=dR s.ts o.dst AV.undef} rfl rfl rfl rfl rfl rfl JH (Grown.refl _) (fun hk sn _=>⟨by simpa using hw,rfl,fun h=>by rw[JH] at h;simp at h⟩) h
end Go.Ab
end
section
namespace Go.Ab
variable {E:Env}
theorem tX (ops:Array Oper) (val:Nat→AV) (x:Nat):∀(l:List Nat) (ts:List AV) (_:∀j∈l,g4 ops j≠some x),(pg ops val ts l)[x]? =ts[x]?
 | [],_,_=>rfl
 | i::l,ts,h=>by
   show (pg ops val (dR ts (g4 ops i) (val i)) l)[x]? =_
   rw[tX ops val x l _ (fun j hj=>h j (by simp [hj]))]
   have:=h i (by simp)
   cases hd:g4 ops i with
   | none=>rfl
   | some d=>
     rw[hd] at this
     have ep:d≠x:=fun e=>this (by rw[e])
     simp [dR,List.getElem?_set_ne ep]
theorem Bp (ops:Array Oper) (val:Nat→AV) (x j:Nat) (hj:g4 ops j=some x):∀(l:List Nat) (ts:List AV) (_:j∈l) (_:∀j'∈l,g4 ops j'=some x→j'=j),(pg ops val ts l)[x]? =if x<ts.length then some (val j) else none
 | i::l,ts,hm,hu=>by
   show (pg ops val (dR ts (g4 ops i) (val i)) l)[x]? =_
   have hlen:(dR ts (g4 ops i) (val i)).length=ts.length:=by cases g4 ops i<;>simp [dR]
   by_cases PE:j∈l
   · rw[Bp ops val x j hj l _ PE (fun j' h=>hu j' (by simp [h])),hlen]
   · have hij:i=j:=by simp at hm;rcases hm with h | h;exact h.symm;exact absurd h PE
     subst hij
     rw[tX ops val x l _ (fun j' pc e=>PE (hu j' (by simp [pc]) e▸pc))]
     rw[hj]
     simp [dR,List.getElem?_set]
theorem vy {ops:Array Oper} {val:Nat→AV} {x:Nat} {l d:List Nat} (ts:List AV) (hu:∀j j',g4 ops j=some x→g4 ops j'=some x→j=j') (W8:∀j,g4 ops j=some x→(j∈l↔j∈d)):
 (pg ops val ts l)[x]? =(pg ops val ts d)[x]? :=by
 by_cases h:∃j,g4 ops j=some x∧j∈l
 · obtain ⟨j,hj,hl⟩:=h
   rw[Bp ops val x j hj l ts hl (fun j' _ e=>hu j' j e hj),Bp ops val x j hj d ts ((W8 j hj).1 hl) (fun j' _ e=>hu j' j e hj)]
 · rw[tX ops val x l ts (fun j hj e=>h ⟨j,e,hj⟩),tX ops val x d ts (fun j hj e=>h ⟨j,e,(W8 j e).2 hj⟩)]
theorem yB {l r:List AV} {x:Nat} (h:l[x]? =r[x]?) (d:AV):l.getD x d=r.getD x d:=by simp [List.getD,h]
def valOf (tr:List Step) (i:Nat):AV:=((tr.find? (fun x=>x.i==i)).map (·.v)).getD AV.undef
theorem Hx {tr:List Step} (hn:(tr.map (·.i)).Nodup) {p:Nat} {x:Step} (hp:tr[p]? =some x):valOf tr x.i=x.v:=by
 unfold valOf
 have:tr.find? (fun y=>y.i==x.i)=some x:=by
  rw[List.find?_eq_some_iff_getElem]
  obtain ⟨lM,hx⟩:=List.getElem?_eq_some_iff.1 hp
  refine ⟨by simp,p,lM,hx,fun j hj=>?_⟩
  have PE:j<tr.length:=by omega
  simp only[Bool.not_eq_true',beq_eq_false_iff_ne]
  intro e
  have h1:(tr.map (·.i))[j]? =some x.i:=by simp [PE,e]
  have h2:(tr.map (·.i))[p]? =some x.i:=by simp [lM,hx]
  have:=(List.getElem?_inj (by simpa using PE) hn).1 (h1.trans h2.symm)
  omega
 rw[this];rfl
theorem Ff (ops:Array Oper) {tr:List Step} (hn:(tr.map (·.i)).Nodup) (ts:List AV) (p:Nat):E_ ops ts (tr.take p)=pg ops (valOf tr) ts ((tr.map (·.i)).take p):=by
 have key:∀(l:List Step) (ts:List AV),(∀x∈l,valOf tr x.i=x.v)→E_ ops ts l=pg ops (valOf tr) ts (l.map (·.i)):=by
  intro l
  induction l with
  | nil=>intro ts _;rfl
  | cons x l ih=>
    intro ts h
    show E_ ops (dR ts (g4 ops x.i) x.v) l=pg ops (valOf tr) (dR ts (g4 ops x.i) (valOf tr x.i)) (l.map (·.i))
    rw[h x (by simp),ih _ (fun y hy=>h y (by simp [hy]))]
 rw[key _ _ (fun x hx=>?_),List.map_take]
 obtain ⟨q,hq⟩:=List.getElem?_of_mem (List.mem_of_mem_take hx)
 exact Hx hn hq
theorem OK.place {φ:Ph} {h:ak} {w:World} (ok:OK E φ h w) {n:Nat} {obj:aK} (hg:h.get n=some obj) (EO:φ n=none) (lM:n<h.nx) {O:Obj}
 (ho:OR E (φ.add n ⟨w.heap.size,0,0⟩) obj ⟨w.heap.size,0,0⟩ (some O)):OK E (φ.add n ⟨w.heap.size,0,0⟩) h (w.alloc O)∧φ.le (φ.add n ⟨w.heap.size,0,0⟩):=by
 have hle:φ.le (φ.add n ⟨w.heap.size,0,0⟩):=fun j m hm=>by
  unfold Ph.add;split
  · rename_i e;subst e;rw[EO] at hm;simp at hm
  · exact hm
 have kF:∀j,j≠n→(φ.add n ⟨w.heap.size,0,0⟩) j=φ j:=fun j hj=>by simp [Ph.add,hj]
 have gZ:(φ.add n ⟨w.heap.size,0,0⟩) n=some ⟨w.heap.size,0,0⟩:=by simp [Ph.add]
 have W9:(w.alloc O).heap=w.heap.push O:=rfl
 have C6:∀j p m,h.get j=some p→φ j=some m→m.fI<w.heap.size:=fun j p m hj hm=>by
  have AS:=ok.live j p m hj hm
  rcases Nat.lt_or_ge m.fI w.heap.size with a | a
  · exact a
  · exfalso
    rw[Array.getElem?_eq_none a] at AS
    exact AS.absurd
 refine ⟨⟨fun j m hm=>?_,ok.nx,fun g hg=>hle _ _ (ok.vo g hg),fun j p m hj hm=>?_,fun j k p q m r hj hk hm hr hw hb=>?_⟩,hle⟩
 · by_cases e:j=n
   · omega
   · rw[kF j e] at hm;exact ok.An j m hm
 · by_cases e:j=n
   · subst e;rw[gZ] at hm;simp at hm;subst hm;rw[hg] at hj;simp at hj;subst hj;rw[W9];simpa using ho
   · rw[kF j e] at hm
     have hb:=C6 j p m hj hm
     rw[W9,Array.getElem?_push,if_neg (by omega)]
     exact (ok.live j p m hj hm).mono hle
 · by_cases e:j=n<;>by_cases e':k=n
   · rw[e,e']
   · subst e;rw[gZ] at hm;simp at hm;subst hm;rw[kF k e'] at hr;have:=C6 k q r hk hr;simp at hb;omega
   · subst e';rw[gZ] at hr;simp at hr;subst hr;rw[kF j e] at hm;have:=C6 j p m hj hm;simp at hb;omega
   · rw[kF j e] at hm;rw[kF k e'] at hr;exact ok.inj j k p q m r hj hk hm hr hw hb
theorem Fr.place {φ₀ φ:Ph} {h₀ h:ak} {w₀ w:World} (f:Fr φ₀ h₀ w₀ φ h w) {n:Nat} (hn:h₀.nx≤n) (EO:φ n=none) (O:Obj):Fr φ₀ h₀ w₀ (φ.add n ⟨w.heap.size,0,0⟩) h (w.alloc O):=by
 have kF:∀j,j≠n→(φ.add n ⟨w.heap.size,0,0⟩) j=φ j:=fun j hj=>by simp [Ph.add,hj]
 have gZ:(φ.add n ⟨w.heap.size,0,0⟩) n=some ⟨w.heap.size,0,0⟩:=by simp [Ph.add]
 refine ⟨fun j m hm=>?_,fun i hi=>by rw[kF i (by omega)];exact f.old i hi,f.nx,f.os,f.tape,f.output,by have:=f.size;simp;omega,fun b hb hn'=>?_,fun i o l hi hr hl=>?_⟩
 · by_cases e:j=n
   · subst e;have:=f.ext j m hm;rw[EO] at this;simp at this
   · rw[kF j e];exact f.ext j m hm
 · have:=f.size
   rw[show (w.alloc O).heap=w.heap.push O from rfl,Array.getElem?_push,if_neg (by omega)]
   exact f.C5 b hb hn'
 · by_cases e:i=n
   · subst e;rw[gZ] at hl;simp at hl;subst hl;exact .inl f.size
   · rw[kF i e] at hl;exact f.own i o l hi hr hl
theorem filter_le {P:Nat→Bool} {l:List Nat} {K:Nat} (h:∀q e,l[q]? =some e→P e=true→q<K):(l.filter P).length≤K:=by
 have h1:(l.drop K).filter P=[]:=by
  rw[List.filter_eq_nil_iff]
  intro e he hP
  obtain ⟨q,hq⟩:=List.getElem?_of_mem he
  rw[List.getElem?_drop] at hq
  have:=h _ e hq hP
  omega
 calc (l.filter P).length=((l.take K++l.drop K).filter P).length:=by rw[List.take_append_drop]
  _=((l.take K).filter P).length:=by rw[List.filter_append,h1,List.append_nil]
  _≤(l.take K).length:=List.length_filter_le _ _
  _≤K:=by simp;omega
theorem wM {P:Nat→Bool}:∀{l:List Nat} {e:Nat} (_:l[(l.takeWhile P).length]? =some e),P e=false
 | [],e,h=>by simp at h
 | x::l,e,h=>by
   by_cases hx:P x=true
   · rw[List.takeWhile_cons_of_pos hx] at h
     exact wM (l:=l) (by simpa using h)
   · rw[List.takeWhile_cons_of_neg hx] at h
     simp at h;subst h;simpa using hx
end Go.Ab
end
section
namespace Go.Ab
variable {E:Env}
structure Fl (E:Env) (call:a_) (ops:Array Oper) (pl:mj) (s s':St) (tr:List Step) (hs st:List ak):Prop where
 sl:Bo E ops pl
 trace:UC E call ops s 0 pl.order tr hs st s'
 still:∀x∈tr,∀K hk,x.k≤K→K≤kC pl.bE pl.an x.i→hs[K]? =some hk→jN E ops x hk=true
 ids:∀(x y:Step),x∈tr→y∈tr→∀(n:Nat) (o q:aK),x.kind= .sH n o→y.kind= .sH n q→x.i=y.i
structure Inv (E:Env) (ops:Array Oper) (pl:mj) (s:St) (tr:List Step) (hs st:List ak) (φ₀:Ph) (w₀:World) (wk:List Deferred) (d:List Nat) (bO:Array Bool) (K:Nat) (φ:Ph) (a:Act) (w:World):Prop where
 nd:d.Nodup
 lt:∀i∈d,i<ops.size
 bO:∀i,i<ops.size→bO[i]? =some (decide (i∈d))
 closed:∀i∈d,∀j,dN pl.an i j=true→j∈d
 bE:∀q e,pl.bE[q]? =some e→(e∈d↔q<K)
 Kle:K≤pl.bE.length
 ts:LR φ (pg ops (valOf tr) s.ts d) a.tmps.toList
 ds:a.defers=wk
 ok:∃hK,hs[K]? =some hK∧OK E φ hK w∧Fr φ₀ s.h w₀ φ hK w
 ja:∀x∈tr,∀n obj,x.kind= .sH n obj→x.i ∉ d→x.k≤K→φ n=none∧s.h.nx≤n∧∀hK,hs[K]? =some hK→n<hK.nx
section
variable {call:a_} {ops:Array Oper} {pl:mj} {s s':St} {tr:List Step} {hs st:List ak}
theorem Fl.at (r:Fl E call ops pl s s' tr hs st) {p:Nat} {x:Step} (hp:tr[p]? =some x):
 pl.order[p]? =some x.i∧x.i ∉ pl.order.take p∧(∀j,dN pl.an x.i j=true→j∈pl.order.take p)∧x.k=qH E ops (pl.order.take p)∧
 ∃o,ops[x.i]? =some o∧(fJ E o.op=true→pl.bE[x.k]? =some x.i)∧(fJ E o.op=false→EM pl.bE pl.an x.i=x.k):=by
 have h1:pl.order[p]? =some x.i:=by rw[←r.trace.is,List.getElem?_map,hp];rfl
 obtain ⟨h2,_,_⟩:=iO r.sl.order
 obtain ⟨a1,a2,a3,a4,a5,a6⟩:=h2 p x.i h1
 obtain ⟨b1,b2,o,hk,sk,b3,_⟩:=r.trace.step p x hp
 have hgd:ops.getD x.i default=o:=by simp [Array.getD_eq_getD_getElem?,b3]
 rw[hgd] at a5 a6
 have DL:x.k=qH E ops (pl.order.take p):=by omega
 refine ⟨h1,a3,fun j hj=>(a4 j hj).resolve_left (by simp),DL,o,b3,fun he=>?_,fun he=>?_⟩
 · have:=a5 he;rw[DL];simpa using this
 · have:=a6 he;omega
theorem u_:∀{l:List Nat} (_:∀(p i:Nat),l[p]? =some i→i ∉ l.take p),l.Nodup
 | [],_=> .nil
 | x::l,h=>by
   refine List.nodup_cons.2 ⟨fun hm=>?_,u_ (fun p i hp hi=>h (p+1) i (by simpa using hp) (by simp [hi]))⟩
   obtain ⟨q,hq⟩:=List.getElem?_of_mem hm
   exact h (q+1) x (by simpa using hq) (by simp)
theorem Fl.nodup (r:Fl E call ops pl s s' tr hs st):pl.order.Nodup:=by
 obtain ⟨h2,_,_⟩:=iO r.sl.order
 exact u_ (fun p i hp=>(h2 p i hp).2.2.1)
theorem Fl.all (r:Fl E call ops pl s s' tr hs st) {i:Nat} (hi:i<ops.size):∃(p:Nat) (x:Step),tr[p]? =some x∧x.i=i:=by
 obtain ⟨_,h3,_⟩:=iO r.sl.order
 have:=(h3 i hi).resolve_left (by simp)
 rw[←r.trace.is] at this
 obtain ⟨x,hx,rfl⟩:=List.mem_map.1 this
 obtain ⟨p,hp⟩:=List.getElem?_of_mem hx
 exact ⟨p,x,hp,rfl⟩
theorem wN {ops:Array Oper} {pl:mj} (pok:Bo E ops pl) {x j j':Nat} (h:g4 ops j=some x) (h':g4 ops j'=some x):j=j':=by
 unfold g4 at h h'
 cases ho:ops[j]? with
 | none=>rw[ho] at h;simp at h
 | some o=>
 cases Hy:ops[j']? with
 | none=>rw[Hy] at h';simp at h'
 | some o'=>
 rw[ho] at h;rw[Hy] at h'
 simp at h h'
 rcases Nat.decEq j j' with ep | he
 · exact absurd h (pok.slot j j' o o' x ep ho Hy h').1
 · exact he
theorem W_ (r:Fl E call ops pl s s' tr hs st) {p:Nat} {x:Step} {o:Oper} (hp:tr[p]? =some x) (ho:ops[x.i]? =some o) {d:List Nat} (hd:x.i ∉ d) (Yx:∀i∈d,∀j,dN pl.an i j=true→j∈d)
 (qW:∀j,dN pl.an x.i j=true→j∈d):DU E x.ts (pg ops (valOf tr) s.ts d) o.op∧cu ops (pg ops (valOf tr) s.ts d) o=cu ops x.ts o:=by
 obtain ⟨h1,h2,h3,_,_⟩:=r.at hp
 have pf:(tr.map (·.i)).Nodup:=by rw[r.trace.is];exact r.nodup
 have Qf:x.ts=pg ops (valOf tr) s.ts (pl.order.take p):=by
  rw[(r.trace.step p x hp).1,Ff ops pf,r.trace.is]
 have hpc:∀j∈pl.order.take p,∀m,dN pl.an j m=true→m∈pl.order.take p:=by
  intro j hj m hm
  obtain ⟨q,hq⟩:=List.getElem?_of_mem hj
  have hqp:q<p:=by
   have:=(List.getElem?_eq_some_iff.1 hq).1
   simp at this;omega
  have hq':pl.order[q]? =some j:=by rw[List.getElem?_take] at hq;rw[if_pos hqp] at hq;exact hq
  obtain ⟨f1,_,_⟩:=iO r.sl.order
  have:=((f1 q j hq').2.2.2.1 m hm).resolve_left (by simp)
  exact List.mem_of_mem_take (i:=q) (l:=pl.order.take p) (by rw[List.take_take,Nat.min_eq_left (Nat.le_of_lt hqp)];exact this)
 have same:∀t,(∀j p',j≠x.i→ops[j]? =some p'→p'.dst=some t→dN pl.an x.i j=true∨dN pl.an j x.i=true)→(pg ops (valOf tr) s.ts (pl.order.take p))[t]? =(pg ops (valOf tr) s.ts d)[t]? :=by
  intro t ht
  refine vy s.ts (fun j j' a b=>wN r.sl a b) (fun j hj=>?_)
  by_cases hji:j=x.i
  · subst hji;exact ⟨fun h=>absurd h h2,fun h=>absurd h hd⟩
  · obtain ⟨p',hp',Xa⟩:∃p',ops[j]? =some p'∧p'.dst=some t:=by
     unfold g4 at hj
     cases Xb:ops[j]? with
     | none=>rw[Xb] at hj;simp at hj
     | some p'=>rw[Xb] at hj;exact ⟨p',rfl,by simpa using hj⟩
    rcases ht j p' hji hp' Xa with h | h
    · exact ⟨fun _=>qW j h,fun _=>h3 j h⟩
    · exact ⟨fun hm=>absurd (hpc j hm _ h) h2,fun hm=>absurd (Yx j hm _ h) hd⟩
 rw[Qf]
 refine ⟨fun y hy=>?_,?_⟩
 · cases y with
   | tmp t=>
     have ht:t∈tmpsOf o:=by
      unfold tmpsOf;rw[List.mem_filterMap];exact ⟨.tmp t,by simpa using hy,rfl⟩
     simp only[dZ]
     rw[yB (same t (fun j p' ep hp' Xa=>(r.sl.slot x.i j o p' t (Ne.symm ep) ho hp' Xa).2 ht))]
   | const c=>rfl
   | global g=>rfl
   | func f=>rfl
 · unfold cu
   cases hg:o.guard with
   | none=>rfl
   | some gw=>
     obtain ⟨g,want⟩:=gw
     simp only
     cases hdg:(ops[g]?).bind (·.dst) with
     | none=>rfl
     | some t=>
       simp only
       have Yv:=r.sl.guard x.i o g want ho hg
       rw[same t (fun j p' ep hp' Xa=>by
        have:j=g:=wN r.sl (x:=t) (by unfold g4;rw[hp'];simpa using Xa) hdg
        subst this;exact .inl Yv)]
end
end Go.Ab
end
section
namespace Go.Ab
variable {E:Env}
section
variable {call:a_} {ops:Array Oper} {pl:mj} {s s':St} {tr:List Step} {hs st:List ak}
theorem DV {l:List Oper} {i:Nat}:i∈nB E l↔∃o,l[i]? =some o∧fJ E o.op=true:=by
 unfold nB
 simp only[List.mem_map,List.mem_filter,Prod.exists]
 constructor
 · rintro ⟨o,j,⟨h1,h2⟩,rfl⟩
   exact ⟨o,by rw[List.mk_mem_zipIdx_iff_getElem?] at h1;exact h1,h2⟩
 · rintro ⟨o,h1,h2⟩
   exact ⟨o,i,⟨by rw[List.mk_mem_zipIdx_iff_getElem?];exact h1,h2⟩,rfl⟩
theorem Bo.UE (pok:Bo E ops pl) {i:Nat} {o:Oper} (ho:ops[i]? =some o):i∈pl.bE↔fJ E o.op=true:=by
 rw[pok.bE,DV]
 constructor
 · rintro ⟨o',h1,h2⟩
   have:ops.toList[i]? =some o:=by simpa using ho
   rw[this] at h1;simp at h1;subst h1;exact h2
 · intro h;exact ⟨o,by simpa using ho,h⟩
theorem Inv.Bq {φ₀ φ:Ph} {w₀ w:World} {wk:List Deferred} {d:List Nat} {bO:Array Bool} {K:Nat} {a:Act} (r:Fl E call ops pl s s' tr hs st) (inv:Inv E ops pl s tr hs st φ₀ w₀ wk d bO K φ a w)
 {x:Step} (hx:pl.bE[x.k]? =some x.i) (hd:x.i ∉ d) (qW:∀j,dN pl.an x.i j=true→j∈d):x.k=K:=by
 have h1:¬x.k<K:=fun h=>hd ((inv.bE x.k x.i hx).2 h)
 rcases Nat.lt_or_ge K x.k with h | h
 · exfalso
   obtain ⟨q,hq⟩:∃q,x.k=q+1:=⟨x.k - 1,by omega⟩
   have lM:q<pl.bE.length:=by have:=(List.getElem?_eq_some_iff.1 hx).1;omega
   have hq':pl.bE[q]? =some pl.bE[q]:=by simp [lM]
   have:=r.sl.chain q _ x.i hq' (by rw[←hq];exact hx)
   have:=(inv.bE q _ hq').1 (qW _ this)
   omega
 · omega
theorem Inv.Qg {φ₀ φ:Ph} {w₀ w:World} {wk:List Deferred} {d:List Nat} {bO:Array Bool} {K:Nat} {a:Act} (inv:Inv E ops pl s tr hs st φ₀ w₀ wk d bO K φ a w)
 {i:Nat} (hd:i ∉ d) (qW:∀j,dN pl.an i j=true→j∈d):EM pl.bE pl.an i≤K∧K≤kC pl.bE pl.an i:=by
 refine ⟨filter_le (fun q e hq he=>(inv.bE q e hq).1 (qW e he)),?_⟩
 rcases Nat.lt_or_ge (kC pl.bE pl.an i) K with h | h
 · exfalso
   have lM:kC pl.bE pl.an i<pl.bE.length:=by have:=inv.Kle;omega
   have hq:pl.bE[kC pl.bE pl.an i]? =some pl.bE[kC pl.bE pl.an i]:=by simp [lM]
   have h1:=wM (P:=fun e=> !dN pl.an e i) hq
   simp only[Bool.not_eq_false'] at h1
   exact hd (inv.closed _ ((inv.bE _ _ hq).2 h) i h1)
 · exact h
theorem N9 (ops:Array Oper) (val:Nat→AV) (ts:List AV) (d:List Nat) (i:Nat):pg ops val ts (d++[i])=dR (pg ops val ts d) (g4 ops i) (val i):=by
 simp [pg]
theorem Inv.snoc {φ₀ φ φ':Ph} {w₀ w w':World} {wk:List Deferred} {d:List Nat} {bO:Array Bool} {K K':Nat} {a:Act} (r:Fl E call ops pl s s' tr hs st) (inv:Inv E ops pl s tr hs st φ₀ w₀ wk d bO K φ a w)
 {p:Nat} {x:Step} {o:Oper} (hp:tr[p]? =some x) (ho:ops[x.i]? =some o) (hd:x.i ∉ d) (qW:∀j,dN pl.an x.i j=true→j∈d) (hle:φ.le φ') {v':Value} (hv:VR φ' x.v v')
 (hK:(fJ E o.op=false∧K'=K)∨(fJ E o.op=true∧x.k=K∧pl.bE[x.k]? =some x.i∧K'=K+1))
 (nE:∃hK,hs[K']? =some hK∧OK E φ' hK w'∧Fr φ₀ s.h w₀ φ' hK w')
 (aa6:∀y∈tr,∀n obj,y.kind= .sH n obj→y.i ∉ d→y.i≠x.i→y.k≤K'→φ' n=none∧s.h.nx≤n∧∀hK,hs[K']? =some hK→n<hK.nx):
 Inv E ops pl s tr hs st φ₀ w₀ wk (d++[x.i]) (bO.setIfInBounds x.i true) K' φ' (a.put o.dst v') w':=by
 have pf:(tr.map (·.i)).Nodup:=by rw[r.trace.is];exact r.nodup
 have lM:x.i<ops.size:=(Array.getElem?_eq_some_iff.1 ho).1
 refine ⟨?_,fun i hi=>?_,fun i hi=>?_,fun i hi j hj=>?_,fun q e hq=>?_,?_,?_,by rw[put_defers];exact inv.ds,nE,fun y hy n obj yw hyd hyk=>?_⟩
 · rw[List.nodup_append];exact ⟨inv.nd,by simp,fun a ha b hb=>by simp at hb;subst hb;exact fun e=>hd (e▸ha)⟩
 · simp at hi;rcases hi with h | rfl
   · exact inv.lt i h
   · exact lM
 · have h1:=inv.bO i hi
   by_cases e:x.i=i
   · subst e
     have He:x.i<bO.size:=(Array.getElem?_eq_some_iff.1 h1).1
     rw[Array.getElem?_setIfInBounds];simp [He]
   · rw[Array.getElem?_setIfInBounds_ne e,h1]
     simp [show i≠x.i from fun h=>e h.symm]
 · simp at hi;rcases hi with h | rfl
   · exact List.mem_append_left _ (inv.closed i h j hj)
   · exact List.mem_append_left _ (qW j hj)
 · rcases hK with ⟨he,rfl⟩ | ⟨he,E',hxe,rfl⟩
   · have ep:e≠x.i:=fun h=>by
      subst h
      have:=(r.sl.UE ho).1 (List.mem_of_getElem? hq)
      rw[he] at this;simp at this
     simp [ep,inv.bE q e hq]
   · have hqe:e=x.i↔q=K:=by
      constructor
      · intro h;subst h
        have:=(List.getElem?_inj (List.getElem?_eq_some_iff.1 hq).1 r.sl.nd).1 (hq.trans hxe.symm)
        omega
      · intro h;subst h;rw[←E',hxe] at hq;simpa using hq.symm
     simp only[List.mem_append,List.mem_singleton,inv.bE q e hq,hqe]
     omega
 · rcases hK with ⟨he,rfl⟩ | ⟨he,E',hxe,rfl⟩
   · exact inv.Kle
   · have:=(List.getElem?_eq_some_iff.1 hxe).1;omega
 · rw[N9,Hx pf hp]
   have:g4 ops x.i=o.dst:=by simp [g4,ho]
   rw[this]
   exact P' (inv.ts.mono hle) o.dst hv
 · simp only[List.mem_append,List.mem_singleton,not_or] at hyd
   exact aa6 y hy n obj yw hyd.1 hyd.2 hyk
theorem N_ (hE:kU E) {call:a_} (dC:iB E call) {ts:List AV} {h h':ak} {rc:RC} {o:Oper} {v:AV} (sS:dr E call ts h rc o= .val v h') {i:Nat} {rest:List Nat} (ho:ops[i]? =some o)
 {φ:Ph} {a:Act} {w:World} {b:Frame} {k:List Item} {K:Bool→List Frame} (Qf:LR φ ts a.tmps.toList) (ok:OK E φ h w) (gL:nH φ b K rc) (hw:Region.wanted o (yielded ops a.tmps)=true):
 ∃φ' w' v',VR φ' v v'∧OK E φ' h' w'∧Fr φ h w φ' h' w'∧Steps E.P (lone (b.atR a (.inRegion ops (i::rest)::k)) (cur K rc) w) (lone (b.atR (a.put o.dst v') (.inRegion ops rest::k)) (cur K rc) w'):=by
 have yv:=vw hE dC (rc:=rc) (o:=o) Qf ok
 have pf:rc.oF=false∨∀c,o.op≠ .defer c:=by
  by_cases hd:∃c,o.op= .defer c
  · obtain ⟨c,hd⟩:=hd
    unfold dr at sS
    simp only[hd] at sS
    split at sS<;>simp at sS
  · exact .inr (fun c e=>hd ⟨c,e⟩)
 have lr:=qU gL pf a.eval
 rw[sS] at yv
 cases yv with
 | val v h' φ' w' v' hv rW fr run=>exact ⟨φ',w',v',hv,rW,fr,.one (m3 lr ho hw run)⟩
 | skip h' φ' w' rW fr run=>exact ⟨φ',w',undef,.undef φ',rW,fr,.one (Hr lr ho hw run)⟩
 | enter v h' F args all hr hf hl run=>
   obtain ⟨n,start,hp,jo⟩:=hr φ w all ok hf hl
   obtain ⟨φ',w',v',hv,rW,fr,jq⟩:=jo (b.atR a (.inRegion ops (i::rest)::k)) (cur K rc)
   rw[tU ho] at jq
   exact ⟨φ',w',v',hv,rW,fr,.head (go_enter lr ho hw hp (run n start hp)) jq⟩
 | Qc ep CZ run=>
   have EO:∀fr:Frame,fr.kind=b.kind→tryRecover fr (cur K rc)=none:=by
    cases E6:rc with
    | no=>rw[E6] at gL;exact gL.2
    | ja v=>exact absurd E6 (ep v)
    | done=>rw[E6] at gL;exact gL.2
    | G4 l=>rw[E6] at CZ;simp [RC.oF] at CZ
   exact ⟨φ,w,.nilIface,.nilIface,ok,Fr.refl _ _ _,.one (uZ (gL.plain CZ) lr ho hw run (EO _ rfl))⟩
theorem Inv.Mg (hE:kU E) {DW:a_} (dC:iB E DW) {φ₀ φ:Ph} {w₀ w:World} {wk:List Deferred} {d:List Nat} {bO:Array Bool} {K:Nat} {a:Act} (r:Fl E call ops pl s s' tr hs st) (inv:Inv E ops pl s tr hs st φ₀ w₀ wk d bO K φ a w)
 {b:Frame} {k:List Item} {Ks:Bool→List Frame} (gL:nH φ₀ b Ks s.rc) {i:Nat} (hi:i<ops.size) (hd:i ∉ d) (qW:∀j,dN pl.an i j=true→j∈d)
 (DX:∀(x:Step) (o:Oper) (hk h':ak),x∈tr→x.i=i→ops[x.i]? =some o→hs[x.k]? =some hk→x.kind= .uz h'→dr E DW x.ts hk s.rc o= .val x.v h') (rest:List Nat):
 ∃K' φ' a' w',Inv E ops pl s tr hs st φ₀ w₀ wk (d++[i]) (bO.setIfInBounds i true) K' φ' a' w'∧
  Steps E.P (lone (b.atR a (.inRegion ops (i::rest)::k)) (cur Ks s.rc) w) (lone (b.atR a' (.inRegion ops rest::k)) (cur Ks s.rc) w'):=by
 obtain ⟨p,x,hp,rfl⟩:=r.all hi
 have Yo:x∈tr:=List.mem_of_getElem? hp
 obtain ⟨h1,h2,h3,hk,o,ho,sS,Xc⟩:=r.at hp
 obtain ⟨_,_,o',hk1,sk1,Hy,zD,hsk,jo⟩:=r.trace.step p x hp
 rw[ho] at Hy;simp at Hy;subst Hy
 rw[←hk] at zD hsk jo
 obtain ⟨hag,Qh⟩:=W_ r hp ho hd inv.closed qW
 obtain ⟨hK,Xd,ok,fr⟩:=inv.ok
 have T3:Region.wanted o (yielded ops a.tmps)=cu ops x.ts o:=by rw[vv inv.ts o,Qh]
 have UF:DU E (pg ops (valOf tr) s.ts d) x.ts o.op:=fun y hy=>(hag y hy).symm
 have same:∀y∈tr,∀n obj,y.kind= .sH n obj→y.i ∉ d→y.i≠x.i→y.k≤K→φ n=none∧s.h.nx≤n∧∀hK,hs[K]? =some hK→n<hK.nx:=
  fun y hy n obj a1 a2 _ a3=>inv.ja y hy n obj a1 a2 a3
 have wrote:∀(φ':Ph) (h':ak) (w':World),x.k=K→st[K+1]? =some h'→OK E φ' h' w'→Fr φ hK w φ' h' w'→
  ∃Mh,hs[K+1]? =some Mh∧OK E φ' Mh w'∧Fr φ₀ s.h w₀ φ' Mh w'∧
  ∀y∈tr,∀n obj,y.kind= .sH n obj→y.i ∉ d→y.i≠x.i→y.k≤K+1→φ' n=none∧s.h.nx≤n∧∀hK,hs[K+1]? =some hK→n<hK.nx:=by
  intro φ' h' w' E' Yy rW JI
  have lM:K+1<hs.length:=by rw[←r.trace.Yw];exact (List.getElem?_eq_some_iff.1 Yy).1
  have hhs:hs[K+1]? =some hs[K+1]:=by simp [lM]
  have g:=r.trace.grown (K+1) h' _ Yy hhs
  obtain ⟨Br,Yz⟩:=rW.grown g
  have T4:=(fr.trans JI).trans Yz
  refine ⟨_,hhs,Br,T4,fun y hy n obj a1 a2 a3 a4=>?_⟩
  have hnx:∀Mh,hs[K+1]? =some Mh→Mh=hs[K+1]:=fun Mh e=>by rw[hhs] at e;simpa using e.symm
  rcases Nat.lt_or_ge K y.k with h | h
  ·
   have hyk:y.k=K+1:=by omega
   obtain ⟨q,hq⟩:=List.getElem?_of_mem hy
   obtain ⟨_,_,_,hky,oy,hoy,_,_⟩:=r.at hq
   obtain ⟨_,_,oy',adE,adF,adG,Dc,Dd,Kj⟩:=r.trace.step q y hq
   rw[←hky,hyk] at Dc Dd
   rw[Yy] at Dd;simp at Dd;subst Dd
   unfold wJ at Kj
   rw[a1] at Kj
   obtain ⟨_,_,_,hn1,hn2⟩:=Kj
   refine ⟨?_,?_,fun Mh e=>?_⟩
   · cases hφ:φ' n with
     | none=>rfl
     | some l=>have:=rW.An n l hφ;omega
   · have:=(fr.trans JI).nx;omega
   · rw[e] at Dc;simp at Dc;subst Dc;exact hn2
  · obtain ⟨b1,b2,b3⟩:=inv.ja y hy n obj a1 a2 h
    have hn:=b3 hK Xd
    refine ⟨by rw[JI.old n hn];exact b1,b2,fun Mh e=>?_⟩
    have:=JI.nx;have:=g.nx
    rw[hnx _ e];omega
 have still:fJ E o.op=false→jN E ops x hK=true:=fun he=>by
  obtain ⟨w1,w2⟩:=inv.Qg hd qW
  exact r.still x Yo K hK (by rw[←Xc he];exact w1) w2 Xd
 have hgd:ops.getD x.i default=o:=by simp [Array.getD_eq_getD_getElem?,ho]
 have skip:cu ops x.ts o=false→step E.P (lone (b.atR a (.inRegion ops (x.i::rest)::k)) (cur Ks s.rc) w)= .next (lone (b.atR (a.put o.dst undef) (.inRegion ops rest::k)) (cur Ks s.rc) w):=fun hw=>by
  have:=stepR_op_skip (P:=E.P) (b:=b) (a:=a) (k:=k) (cs:=cur Ks s.rc) (w:=w) (ops:=ops) (i:=x.i) (rest:=rest) (by rw[ho];simp;rw[T3];exact hw)
  rw[this,ho];rfl
 unfold wJ at jo
 split at jo
 ·
  obtain ⟨hw,hv,hn⟩:=jo
  have hvr:VR φ x.v undef:=by rw[hv];exact .undef φ
  by_cases he:fJ E o.op=true
  · have E':=inv.Bq r (sS he) hd qW
    have Ar:=hn he
    rw[E'] at Ar zD
    rw[Xd] at zD;simp at zD;subst zD
    obtain ⟨Mh,q1,q2,q3,q4⟩:=wrote φ hK w E' Ar ok (Fr.refl _ _ _)
    exact ⟨K+1,φ,_,w,inv.snoc r hp ho hd qW (Ph.le_refl φ) hvr (.inr ⟨he,E',sS he,rfl⟩) ⟨Mh,q1,q2,q3⟩ q4,.one (skip hw)⟩
  · have JH:fJ E o.op=false:=by simpa using he
    exact ⟨K,φ,_,w,inv.snoc r hp ho hd qW (Ph.le_refl φ) hvr (.inl ⟨JH,rfl⟩) inv.ok same,.one (skip hw)⟩
 ·
  obtain ⟨he,hw,hpu⟩:=jo
  rw[←Hu UF] at hpu
  have pf:∀c,o.op≠ .defer c:=fun c e=>by rw[e] at hpu;simp [bp] at hpu
  obtain ⟨v',hv,hr⟩:=zv hE.ext ok.gl inv.ts hpu
  exact ⟨K,φ,_,w,inv.snoc r hp ho hd qW (Ph.le_refl φ) hv (.inl ⟨he,rfl⟩) inv.ok same,.one (m3 (qU gL (.inr pf) _) ho (T3.trans hw) (hr w))⟩
 ·
  rename_i wK
  obtain ⟨he,hw⟩:=jo
  have sA:=still he
  unfold jN at sA
  rw[wK] at sA
  simp only[hgd] at sA
  cases hre:dM E x.ts hK o.op with
  | none=>rw[hre] at sA;simp at sA
  | some v1=>
    rw[hre] at sA
    have hv1:=AV.wH _ _ _ sA
    subst hv1
    rw[←Hv UF] at hre
    have pf:∀c,o.op≠ .defer c:=fun c e=>by rw[e] at hre;simp [dM] at hre
    obtain ⟨v',hv,hr⟩:=zA ok.gl ok inv.ts hre
    exact ⟨K,φ,_,w,inv.snoc r hp ho hd qW (Ph.le_refl φ) hv (.inl ⟨he,rfl⟩) inv.ok same,.one (m3 (qU gL (.inr pf) _) ho (T3.trans hw) (hr w rfl))⟩
 ·
  rename_i n obj wK
  obtain ⟨he,hw,⟨mk,hal,hxv⟩,_,_⟩:=jo
  have sA:=still he
  unfold jN at sA
  rw[wK] at sA
  simp only at sA
  cases hge:hK.get n with
  | none=>rw[hge] at sA;simp at sA
  | some o1=>
    rw[hge] at sA
    have ho1:=aK.wH sA
    subst ho1
    obtain ⟨w1,_⟩:=inv.Qg hd qW
    obtain ⟨EO,adH,adI⟩:=inv.ja x Yo n o1 wK hd (by rw[←Xc he];exact w1)
    rw[←E7 UF] at hal
    have pf:∀c,o.op≠ .defer c:=fun c e=>by rw[e] at hal;simp [ek] at hal
    obtain ⟨O,mk',Ht,hr⟩:=wB ok.gl inv.ts hal
    have hle:φ.le (φ.add n ⟨w.heap.size,0,0⟩):=fun j m hm=>by
     unfold Ph.add;split
     · rename_i e;subst e;rw[EO] at hm;simp at hm
     · exact hm
    obtain ⟨Br,_⟩:=ok.place hge EO (adI hK Xd) (Ht.obj _ w.heap.size hle)
    have hv:=Ht.val (φ.add n ⟨w.heap.size,0,0⟩) n w.heap.size hle (by simp [Ph.add])
    rw[←hxv] at hv
    refine ⟨K,_,_,_,inv.snoc r hp ho hd qW hle hv (.inl ⟨he,rfl⟩) ⟨hK,Xd,Br,fr.place adH EO O⟩ (fun y hy m q a1 a2 a3 a4=>?_),.one (m3 (qU gL (.inr pf) _) ho (T3.trans hw) (hr w))⟩
    obtain ⟨b1,b2,b3⟩:=inv.ja y hy m q a1 a2 a4
    refine ⟨?_,b2,b3⟩
    have ep:m≠n:=fun e=>by subst e;exact a3 (r.ids y x hy Yo m q o1 a1 wK)
    simp [Ph.add,ep,b1]
 ·
  rename_i h' wK
  obtain ⟨he,hw,_,Ar⟩:=jo
  have Qi:=DX x o _ h' Yo rfl ho zD wK
  have E':=inv.Bq r (sS he) hd qW
  rw[E'] at Ar zD
  rw[Xd] at zD;simp at zD;subst zD
  rw[←Bm UF] at Qi
  obtain ⟨φ',w',v',hv,rW,JI,jq⟩:=N_ hE dC Qi ho (rest:=rest) (k:=k) inv.ts ok (gL.mono fr.ext) (T3.trans hw)
  obtain ⟨Mh,q1,q2,q3,q4⟩:=wrote φ' h' w' E' Ar rW JI
  exact ⟨K+1,φ',_,w',inv.snoc r hp ho hd qW JI.ext hv (.inr ⟨he,E',sS he,rfl⟩) ⟨Mh,q1,q2,q3⟩ q4,jq⟩
end
end Go.Ab
end
section
namespace Go.Ab
variable {E:Env}
section
variable {call:a_} {ops:Array Oper} {pl:mj} {s s':St} {tr:List Step} {hs st:List ak}
structure Fm (E:Env) (φ₀:Ph) (h₀:ak) (w₀:World) (wk:List Deferred) (b:Frame) (k:List Item) (cs:List Frame) (s':St) (m:Machine):Prop where
 is:∃φ' a' w',LR φ' s'.ts a'.tmps.toList∧a'.defers=wk∧OK E φ' s'.h w'∧Fr φ₀ h₀ w₀ φ' s'.h w'∧Steps E.P m (lone (b.atR a' k) cs w')
theorem Hz (r:Fl E call ops pl s s' tr hs st) {φ₀ φ:Ph} {w₀ w:World} {wk:List Deferred} {d:List Nat} {bO:Array Bool} {K:Nat} {a:Act} (inv:Inv E ops pl s tr hs st φ₀ w₀ wk d bO K φ a w)
 (HA:∀i,i<ops.size→i∈d) (b:Frame) (k:List Item) (cs:List Frame):Fm E φ₀ s.h w₀ wk b k cs s' (lone (b.atR a (.inRegion ops []::k)) cs w):=by
 have pf:(tr.map (·.i)).Nodup:=by rw[r.trace.is];exact r.nodup
 obtain ⟨f1,f2,f3⟩:=iO r.sl.order
 have hK:K=pl.bE.length:=by
  have:=inv.Kle
  rcases Nat.lt_or_ge K pl.bE.length with h | h
  · exfalso
    have hq:pl.bE[K]? =some pl.bE[K]:=by simp [h]
    have hm:pl.bE[K]∈pl.bE:=List.getElem_mem h
    generalize hx:pl.bE[K]=ee at hm hq
    rw[r.sl.bE,DV] at hm
    obtain ⟨o,ho,_⟩:=hm
    have lM:ee<ops.size:=by have:=(List.getElem?_eq_some_iff.1 ho).1;simpa using this
    have:=(inv.bE K _ hq).1 (HA _ lM)
    omega
  · omega
 obtain ⟨Mh,q1,q2,q3⟩:=inv.ok
 have HC:=r.trace.last
 have adJ:qH E ops pl.order=K:=by omega
 rw[adJ,q1] at HC
 simp at HC;subst HC
 have Qf:s'.ts=pg ops (valOf tr) s.ts d:=by
  rw[r.trace.ts]
  have h1:=Ff ops pf s.ts tr.length
  rw[List.take_length,r.trace.is,List.take_of_length_le (by rw[←r.trace.is];simp)] at h1
  rw[h1]
  refine List.ext_getElem? (fun x=>?_)
  refine vy s.ts (fun j j' e e'=>wN r.sl e e') (fun j hj=>?_)
  have PE:j<ops.size:=by
   unfold g4 at hj
   cases ho:ops[j]? with
   | none=>rw[ho] at hj;simp at hj
   | some o=>exact (Array.getElem?_eq_some_iff.1 ho).1
  exact ⟨fun _=>HA j PE,fun _=>(f2 j PE).resolve_left (by simp)⟩
 exact ⟨φ,a,w,by rw[Qf];exact inv.ts,inv.ds,q2,q3,.one stepR_region_end⟩
theorem Bs {φ₀ φ:Ph} {w₀ w:World} {wk:List Deferred} {d:List Nat} {bO:Array Bool} {K:Nat} {a:Act} (r:Fl E call ops pl s s' tr hs st) (inv:Inv E ops pl s tr hs st φ₀ w₀ wk d bO K φ a w)
 {i:Nat} (h:i∈Region.ready .any ops bO):i<ops.size∧i ∉ d∧∀j,dN pl.an i j=true→j∈d:=by
 obtain ⟨h1,o,ho,h2⟩:=mem_ready.1 h
 have hi:i<ops.size:=(Array.getElem?_eq_some_iff.1 ho).1
 have hl:=inv.bO i hi
 refine ⟨hi,fun hd=>?_,fun j hj=>?_⟩
 · simp [hl,hd,Array.getD_eq_getD_getElem?] at h1
 · obtain ⟨e,he,hej⟩:=r.sl.closed i o j ho hj
   have hed:e∈d:=by
    unfold lj at he
    simp only[List.mem_map,List.mem_filter] at he
    obtain ⟨ed,⟨hm,hb⟩,rfl⟩:=he
    have h3:=h2 ed (by simpa using hm) hb
    have adK:ed.on<ops.size:=by
     have:=(r.sl.direct i o ed.on ho (by unfold lj;simp only[List.mem_map,List.mem_filter];exact ⟨ed,⟨hm,hb⟩,rfl⟩)).1
     omega
    simpa [inv.bO _ adK,Array.getD_eq_getD_getElem?] using h3
   rcases hej with rfl | hej
   · exact hed
   · exact inv.closed e hed j hej
theorem yC {φ₀ φ:Ph} {w₀ w:World} {wk:List Deferred} {d:List Nat} {bO:Array Bool} {K:Nat} {a:Act} (r:Fl E call ops pl s s' tr hs st) (inv:Inv E ops pl s tr hs st φ₀ w₀ wk d bO K φ a w)
 (h:Region.ready .any ops bO=[]):∀(n i:Nat),i<n→i<ops.size→i∈d
 | 0,i,hn,_=>by omega
 | n+1,i,hn,hi=>by
   have ih:=yC r inv h n
   by_cases hd:i∈d
   · exact hd
   · exfalso
     have ho:ops[i]? =some ops[i]:=by simp [hi]
     have:i∈Region.ready .any ops bO:=by
      refine mem_ready.2 ⟨by simp [inv.bO i hi,hd,Array.getD_eq_getD_getElem?],ops[i],ho,fun e he hb=>?_⟩
      have hm:e.on∈lj ops[i]:=by
       unfold lj;simp only[List.mem_map,List.mem_filter];exact ⟨e,⟨by simpa using he,hb⟩,rfl⟩
      have lM:=(r.sl.direct i _ e.on ho hm).1
      have:=ih e.on (by omega) (by omega)
      simp [inv.bO e.on (by omega),this,Array.getD_eq_getD_getElem?]
     rw[h] at this;simp at this
theorem Fl.real (r:Fl E call ops pl s s' tr hs st) (x:Step) (o:Oper) (hk h':ak) (hx:x∈tr) (ho:ops[x.i]? =some o) (hh:hs[x.k]? =some hk) (yw:x.kind= .uz h'):dr E call x.ts hk s.rc o= .val x.v h':=by
 obtain ⟨p,hp⟩:=List.getElem?_of_mem hx
 obtain ⟨_,_,_,hk0,_⟩:=r.at hp
 obtain ⟨_,_,o',hk1,sk1,Hy,zD,hsk,jo⟩:=r.trace.step p x hp
 rw[ho] at Hy;simp at Hy;subst Hy
 rw[←hk0,hh] at zD;simp at zD;subst zD
 unfold wJ at jo;rw[yw] at jo;exact jo.2.2.1
theorem HD (hE:kU E) (dC:iB E call) (r:Fl E call ops pl s s' tr hs st) {φ₀:Ph} {w₀:World} {wk:List Deferred} {b:Frame} {k:List Item} {Ks:Bool→List Frame} (gL:nH φ₀ b Ks s.rc):
 ∀(fuel t:Nat) {φ:Ph} {w:World} {d:List Nat} {bO:Array Bool} {K:Nat} {a:Act} (_:Inv E ops pl s tr hs st φ₀ w₀ wk d bO K φ a w) (_:ops.size≤d.length+fuel),
  Fm E φ₀ s.h w₀ wk b k (cur Ks s.rc) s' (lone (b.atR a (.inRegion ops (Region.linearise.go .any ops fuel t bO [])::k)) (cur Ks s.rc) w)
 | 0,t,φ,w,d,bO,K,a,inv,hf=>by
   simp only[Region.linearise.go,List.reverse_nil]
   refine Hz r inv (fun i hi=>?_) b k _
   by_cases hd:i∈d
   · exact hd
   · have:=Bn ops.size (i::d) (List.nodup_cons.2 ⟨hd,inv.nd⟩) (fun x hx=>by
      simp at hx;rcases hx with rfl | hx
      · exact hi
      · exact inv.lt x hx)
     simp at this;omega
 | fuel+1,t,φ,w,d,bO,K,a,inv,hf=>by
   simp only[Region.linearise.go]
   change Fm E φ₀ s.h w₀ wk b k (cur Ks s.rc) s' (lone (b.atR a (.inRegion ops (match (Region.ready .any ops bO)[t%(Region.ready .any ops bO).length]? with
    | some i=>Region.linearise.go .any ops fuel (t/(Region.ready .any ops bO).length) (bO.setIfInBounds i true) [i]
    | none=> [].reverse)::k)) (cur Ks s.rc) w)
   cases hi:(Region.ready .any ops bO)[t%(Region.ready .any ops bO).length]? with
   | none=>
     have EV:Region.ready .any ops bO=[]:=by
      cases hr:Region.ready .any ops bO with
      | nil=>rfl
      | cons x xs=>
        rw[hr] at hi
        have lM:t%(x::xs).length<(x::xs).length:=Nat.mod_lt _ (by simp)
        simp at hi
        simp at lM
        omega
     exact Hz r inv (fun i hi=>yC r inv EV _ i (Nat.lt_succ_self i) hi) b k _
   | some i=>
     simp only[]
     rw[linearise_go_acc,List.reverse_singleton,List.singleton_append]
     obtain ⟨h1,h2,h3⟩:=Bs r inv (List.mem_of_getElem? hi)
     obtain ⟨K',φ',a',w',YA,jo⟩:=inv.Mg hE dC r gL (b:=b) (k:=k) h1 h2 h3 (fun x o hk h' hx _=>r.real x o hk h' hx) (Region.linearise.go .any ops fuel (t/(Region.ready .any ops bO).length) (bO.setIfInBounds i true) [])
     obtain ⟨φ2,a2,w2,x1,x2,x3,x4,x5⟩:=(HD hE dC r gL fuel (t/(Region.ready .any ops bO).length) YA (by simp;omega)).is
     exact ⟨φ2,a2,w2,x1,x2,x3,x4,Steps.trans jo x5⟩
structure Fo (E:Env) (φ₀:Ph) (h₀:ak) (w₀:World) (wk:List Deferred) (b:Frame) (cs:List Frame) (v:AV) (s':St) (m:Machine):Prop where
 is:∃φ' a' w' v' todo,VR φ' v v'∧LR φ' s'.ts a'.tmps.toList∧a'.defers=wk∧OK E φ' s'.h w'∧Fr φ₀ h₀ w₀ φ' s'.h w'∧Steps E.P m (lone {b.atR a' todo with mode:= .panicking [{v:=v',recovered:=false}]} cs w')
theorem N' (hE:kU E) {call:a_} (dC:iB E call) {ts:List AV} {h h':ak} {rc:RC} {o:Oper} {c:Call} (hoc:o.op= .call c) {v:AV} (sS:dr E call ts h rc o= .panic v h') {i:Nat} {rest:List Nat} (ho:ops[i]? =some o)
 {φ:Ph} {a:Act} {w:World} {b:Frame} {k:List Item} {K:Bool→List Frame} (Qf:LR φ ts a.tmps.toList) (ok:OK E φ h w) (gL:nH φ b K rc) (hw:Region.wanted o (yielded ops a.tmps)=true):
 ∃φ' w' v' todo,VR φ' v v'∧OK E φ' h' w'∧Fr φ h w φ' h' w'∧Steps E.P (lone (b.atR a (.inRegion ops (i::rest)::k)) (cur K rc) w) (lone {b.atR a todo with mode:= .panicking [{v:=v',recovered:=false}]} (cur K rc) w'):=by
 have yv:=vw hE dC (rc:=rc) (o:=o) Qf ok
 have pf:rc.oF=false∨∀c,o.op≠ .defer c:= .inr (fun c e=>by rw[hoc] at e;simp at e)
 have lr:=qU gL pf a.eval
 rw[sS] at yv
 cases yv with
 | UB v h' F args all hr hf hl run=>
   obtain ⟨n,start,hp,jo⟩:=hr φ w all ok hf hl
   obtain ⟨φ',w',v',hv,rW,fr,jq⟩:=jo (b.atR a (.inRegion ops (i::rest)::k)) (cur K rc)
   rw[Frame.raise_atR] at jq
   exact ⟨φ',w',v',.inRegion ops (i::rest)::k,hv,rW,fr,.head (go_enter lr ho hw hp (run n start hp)) jq⟩
 | panic v v' hv run=>exact ⟨φ,w,v',_,hv,ok,Fr.refl _ _ _,.one (Qa lr ho hw run)⟩
theorem DY (hE:kU E) {DW:a_} (dC:iB E DW) (r:Fl E call ops pl s s' tr hs st) {xl:Step} (hxl:xl∈tr) {ol:Oper} (T2:ops[xl.i]? =some ol) {c:Call} (hoc:ol.op= .call c)
 (HA:∀j,j<ops.size→j≠xl.i→dN pl.an xl.i j=true) (Xe:fJ E ol.op=true) (hwl:cu ops xl.ts ol=true) {hk:ak} (zD:hs[xl.k]? =some hk) {v:AV} {h':ak} (Qj:dr E DW xl.ts hk s.rc ol= .panic v h')
 (DX:∀(x:Step) (o:Oper) (hk h':ak),x∈tr→x.i≠xl.i→ops[x.i]? =some o→hs[x.k]? =some hk→x.kind= .uz h'→dr E DW x.ts hk s.rc o= .val x.v h')
 {s2:St} (h2:s2.h=h') (aa7:s2.ts=xl.ts) {φ₀:Ph} {w₀:World} {wk:List Deferred} {b:Frame} {k:List Item} {Ks:Bool→List Frame} (gL:nH φ₀ b Ks s.rc):
 ∀(fuel t:Nat) {φ:Ph} {w:World} {d:List Nat} {bO:Array Bool} {K:Nat} {a:Act} (_:Inv E ops pl s tr hs st φ₀ w₀ wk d bO K φ a w) (_:ops.size≤d.length+fuel) (_:xl.i ∉ d),
  Fo E φ₀ s.h w₀ wk b (cur Ks s.rc) v s2 (lone (b.atR a (.inRegion ops (Region.linearise.go .any ops fuel t bO [])::k)) (cur Ks s.rc) w)
 | 0,t,φ,w,d,bO,K,a,inv,hf,pf=>by
   exfalso
   have hi:xl.i<ops.size:=(Array.getElem?_eq_some_iff.1 T2).1
   have:=Bn ops.size (xl.i::d) (List.nodup_cons.2 ⟨pf,inv.nd⟩) (fun x hx=>by
    simp at hx;rcases hx with rfl | hx
    · exact hi
    · exact inv.lt x hx)
   simp at this;omega
 | fuel+1,t,φ,w,d,bO,K,a,inv,hf,pf=>by
   have hil:xl.i<ops.size:=(Array.getElem?_eq_some_iff.1 T2).1
   simp only[Region.linearise.go]
   change Fo E φ₀ s.h w₀ wk b (cur Ks s.rc) v s2 (lone (b.atR a (.inRegion ops (match (Region.ready .any ops bO)[t%(Region.ready .any ops bO).length]? with
    | some i=>Region.linearise.go .any ops fuel (t/(Region.ready .any ops bO).length) (bO.setIfInBounds i true) [i]
    | none=> [].reverse)::k)) (cur Ks s.rc) w)
   cases hi:(Region.ready .any ops bO)[t%(Region.ready .any ops bO).length]? with
   | none=>
     have EV:Region.ready .any ops bO=[]:=by
      cases hr:Region.ready .any ops bO with
      | nil=>rfl
      | cons x xs=>
        rw[hr] at hi
        have lM:t%(x::xs).length<(x::xs).length:=Nat.mod_lt _ (by simp)
        simp at hi
        simp at lM
        omega
     exact absurd (yC r inv EV _ xl.i (Nat.lt_succ_self _) hil) pf
   | some i=>
     simp only[]
     rw[linearise_go_acc,List.reverse_singleton,List.singleton_append]
     obtain ⟨h1,h2',h3⟩:=Bs r inv (List.mem_of_getElem? hi)
     by_cases hii:i=xl.i
     · subst hii
       obtain ⟨p,hp⟩:=List.getElem?_of_mem hxl
       obtain ⟨_,q2,q3,_,o',Hy,q4,_⟩:=r.at hp
       rw[T2] at Hy;simp at Hy;subst Hy
       obtain ⟨hag,Qh⟩:=W_ r hp T2 h2' inv.closed h3
       obtain ⟨hK,Xd,ok,fr⟩:=inv.ok
       have E':=inv.Bq r (q4 Xe) h2' h3
       rw[E',Xd] at zD;simp at zD;subst zD
       rw[Bm hag] at Qj
       have T3:Region.wanted ol (yielded ops a.tmps)=true:=by rw[vv inv.ts ol,Qh];exact hwl
       obtain ⟨φ',w',v',todo,hv,rW,JI,jo⟩:=N' hE dC hoc Qj T2 (rest:=Region.linearise.go .any ops fuel (t/(Region.ready .any ops bO).length) (bO.setIfInBounds xl.i true) []) (k:=k) inv.ts ok (gL.mono fr.ext) T3
       have adL:(tr.map (·.i)).Nodup:=by rw[r.trace.is];exact r.nodup
       have Qf:xl.ts=pg ops (valOf tr) s.ts d:=by
        rw[(r.trace.step p xl hp).1,Ff ops adL,r.trace.is]
        refine List.ext_getElem? (fun x=>vy s.ts (fun j j' e e'=>wN r.sl e e') (fun j hj=>?_))
        have PE:j<ops.size:=by
         unfold g4 at hj
         cases ho:ops[j]? with
         | none=>rw[ho] at hj;simp at hj
         | some o=>exact (Array.getElem?_eq_some_iff.1 ho).1
        by_cases hji:j=xl.i
        · subst hji;exact ⟨fun h=>absurd h q2,fun h=>absurd h h2'⟩
        · exact ⟨fun _=>h3 j (HA j PE hji),fun _=>q3 j (HA j PE hji)⟩
       exact ⟨φ',a,w',v',todo,hv,by rw[aa7,Qf];exact inv.ts.mono JI.ext,inv.ds,by rw[h2];exact rW,by rw[h2];exact fr.trans JI,jo⟩
     · obtain ⟨K',φ',a',w',YA,jo⟩:=inv.Mg hE dC r gL (b:=b) (k:=k) h1 h2' h3 (fun x o hk h' hx N8=>DX x o hk h' hx (by rw[N8];exact hii)) (Region.linearise.go .any ops fuel (t/(Region.ready .any ops bO).length) (bO.setIfInBounds i true) [])
       obtain ⟨φ2,a2,w2,v2,td,x0,x1,x2,x3,x4,x5⟩:=(DY hE dC r hxl T2 hoc HA Xe hwl zD Qj DX h2 aa7 gL fuel (t/(Region.ready .any ops bO).length) YA (by simp;omega) (by simp;exact ⟨pf,fun h=>hii h.symm⟩)).is
       exact ⟨φ2,a2,w2,v2,td,x0,x1,x2,x3,x4,Steps.trans jo x5⟩
def Bt (call:a_):a_:=fun f as_ h=>match call f as_ h with
 | .panic _ h'=> .ret AV.undef h'
 | r=>r
theorem Qk {call:a_} {ts:List AV} {h h':ak} {rc:RC} {o:Oper} {v:AV} (e:dr E call ts h rc o= .val v h'):dr E (Bt call) ts h rc o= .val v h':=by
 obtain ⟨dst,op,ty,pos,after,guard⟩:=o
 cases op with
 | call c=>
   obtain ⟨cA,args,aT⟩:=c
   cases cA with
   | builtin b=>cases b<;>exact e
   | value f=>
     simp only[dr] at e ⊢
     split at e
     · split at e
       · exact e
       · split at e
         · rename_i hc
           simp only[Bt,hc];exact e
         · simp at e
         · simp at e
     · simp at e
   | invoke x name=>
     simp only[dr] at e ⊢
     split at e
     · split at e
       · split at e
         · rename_i hc
           simp only[Bt,hc];exact e
         · simp at e
         · simp at e
       · simp at e
     · simp at e
 | _=>exact e
theorem Ql {call:a_} {ts:List AV} {h h':ak} {rc:RC} {dst:Option Tmp} {c:Call} {ty:TypeId} {pos:String} {after:Array Edge} {guard:Option (Nat×Bool)} {v:AV} (e:dr E call ts h rc ⟨dst,.call c,ty,pos,after,guard⟩= .panic v h'):
 dr E (Bt call) ts h rc ⟨dst,.call c,ty,pos,after,guard⟩= .val AV.undef h':=by
 obtain ⟨cA,args,aT⟩:=c
 cases cA with
 | builtin b=>
   cases b<;>simp only[dr] at e<;>(try (simp at e;done))<;>(split at e<;>(try (simp at e;done))<;>(try (split at e<;>simp at e)))
 | value f=>
   simp only[dr] at e ⊢
   split at e
   · split at e
     · split at e<;>simp at e
     · split at e
       · simp at e
       · rename_i hc
         simp at e;obtain ⟨rfl,rfl⟩:=e
         simp only[Bt,hc]
       · simp at e
   · simp at e
 | invoke x name=>
   simp only[dr] at e ⊢
   split at e
   · split at e
     · split at e
       · simp at e
       · rename_i hc
         simp at e;obtain ⟨rfl,rfl⟩:=e
         simp only[Bt,hc]
       · simp at e
     · simp at e
   · simp at e
theorem oI {α:Type} {f:α→Option Nat}:∀{l:List α} (_:(l.filterMap f).Nodup) {x y:α} {n:Nat} (_:x∈l) (_:y∈l) (_:f x=some n) (_:f y=some n),x=y
 | [],_,x,y,n,hx,_,_,_=>by simp at hx
 | z::l,hn,x,y,n,hx,hy,fx,fy=>by
   cases hz:f z with
   | none=>
     rw[List.filterMap_cons_none hz] at hn
     have hx':x∈l:=by
      simp at hx;rcases hx with rfl | h
      · rw[hz] at fx;simp at fx
      · exact h
     have P9:y∈l:=by
      simp at hy;rcases hy with rfl | h
      · rw[hz] at fy;simp at fy
      · exact h
     exact oI hn hx' P9 fx fy
   | some m=>
     rw[List.filterMap_cons_some hz,List.nodup_cons] at hn
     simp at hx hy
     rcases hx with rfl | hx<;>rcases hy with rfl | hy
     · rfl
     · exfalso;rw[fx] at hz;simp at hz;subst hz;exact hn.1 (List.mem_filterMap.2 ⟨y,hy,fy⟩)
     · exfalso;rw[fy] at hz;simp at hz;subst hz;exact hn.1 (List.mem_filterMap.2 ⟨x,hx,fx⟩)
     · exact oI hn.2 hx hy fx fy
theorem Qm (N0:sG E ops=some pl) (hd:cU E call ops pl.order 0 s= .ok tr hs s') (hl:qM E ops pl tr hs=true):∃st,Fl E call ops pl s s' tr hs st:=by
 obtain ⟨st,t⟩:=oH hd
 unfold qM at hl
 simp only[Bool.and_eq_true] at hl
 refine ⟨st,Hw N0,t,fun x hx K hk h1 h2 h3=>?_,fun x y hx hy n o q e1 e2=>?_⟩
 · have h4:=List.all_eq_true.1 (List.all_eq_true.1 hl.2 x hx) hk
   refine h4 ?_
   refine List.mem_of_getElem? (i:=K - x.k) ?_
   rw[List.getElem?_take,if_pos (by omega),List.getElem?_drop,show x.k+(K - x.k)=K by omega,h3]
 · have:=vx hl.1
   have:=oI this hx hy (n:=n) (by simp [e1]) (by simp [e2])
   rw[this]
theorem vz {call DZ:a_} (hc:∀{ts:List AV} {h h':ak} {rc:RC} {o:Oper} {v:AV},dr E call ts h rc o= .val v h'→dr E DZ ts h rc o= .val v h') {i:Nat} {o:Oper} (ho:ops[i]? =some o) (he:fJ E o.op=true):
 ∀(l:List Nat) (k:Nat) (s:St) {tr:List Step} {hs:List ak} {s1:St} {h':ak} (_:cU E call ops l k s= .ok tr hs s1) (_:cu ops s1.ts o=true) (_:dr E DZ s1.ts s1.h s1.rc o= .val AV.undef h'),
  cU E DZ ops (l++[i]) k s= .ok (tr++[⟨i,k+(hs.length - 1),s1.ts,AV.undef,.uz h'⟩]) (hs++[h']) {s1 with ts:=dR s1.ts o.dst AV.undef,h:=h'}
 | [],k,s,tr,hs,s1,h',hd,hw,hv=>by
   simp [cU] at hd;obtain ⟨rfl,rfl,rfl⟩:=hd
   simp only[List.nil_append,cU,ho,he,if_true,hw,hv]
   simp [j_.bound,j_.step]
 | j::l,k,s,tr,hs,s1,h',hd,hw,hv=>by
   rw[List.cons_append]
   simp only[cU] at hd ⊢
   cases Xb:ops[j]? with
   | none=>rw[Xb] at hd;simp at hd
   | some oj=>
   rw[Xb] at hd
   simp only at hd ⊢
   have wr:∀(x:Step) (s0:St),((cU E call ops l (k+1) s0).bound s.h).step x= .ok tr hs s1→((cU E DZ ops (l++[i]) (k+1) s0).bound s.h).step x= .ok (tr++[⟨i,k+(hs.length - 1),s1.ts,AV.undef,.uz h'⟩]) (hs++[h']) {s1 with ts:=dR s1.ts o.dst AV.undef,h:=h'}:=by
    intro x s0 hd
    cases hr:cU E call ops l (k+1) s0 with
    | fail why q=>rw[hr] at hd;simp [j_.bound,j_.step] at hd
    | ok Mf sA s2=>
      rw[hr] at hd;simp [j_.bound,j_.step] at hd;obtain ⟨rfl,rfl,rfl⟩:=hd
      rw[vz hc ho he l (k+1) s0 hr hw hv]
      obtain ⟨_,t⟩:=oH hr
      have:1≤sA.length:=by have:=t.len;omega
      simp [j_.bound,j_.step];omega
   have pl:∀(x:Step) (s0:St),(cU E call ops l k s0).step x= .ok tr hs s1→(cU E DZ ops (l++[i]) k s0).step x= .ok (tr++[⟨i,k+(hs.length - 1),s1.ts,AV.undef,.uz h'⟩]) (hs++[h']) {s1 with ts:=dR s1.ts o.dst AV.undef,h:=h'}:=by
    intro x s0 hd
    cases hr:cU E call ops l k s0 with
    | fail why q=>rw[hr] at hd;simp [j_.step] at hd
    | ok Mf sA s2=>
      rw[hr] at hd;simp [j_.step] at hd;obtain ⟨rfl,rfl,rfl⟩:=hd
      rw[vz hc ho he l k s0 hr hw hv]
      simp [j_.step]
   split at hd
   · rename_i YB
     rw[if_pos YB]
     split at hd
     · rename_i yg
       rw[if_pos yg]
       split at hd
       · rename_i Qi
         simp only[hc Qi]
         exact wr _ _ hd
       · simp at hd
       · simp at hd
     · rename_i yg
       rw[if_neg yg]
       exact wr _ _ hd
   · rename_i YB
     rw[if_neg YB]
     split at hd
     · rename_i yg
       rw[if_pos yg]
       split at hd
       · rename_i hp
         try simp only[hp]
         exact pl _ _ hd
       · rename_i hp
         try simp only[hp]
         split at hd
         · rename_i hq
           try simp only[hq]
           exact pl _ _ hd
         · rename_i hq
           try simp only[hq]
           split at hd
           · rename_i hr
             try simp only[hr]
             split at hd
             · rename_i hn
               try simp only[hn]
               exact pl _ _ hd
             · simp at hd
           · simp at hd
     · rename_i yg
       rw[if_neg yg]
       exact pl _ _ hd
theorem yD {call:a_} {i:Nat} {o:Oper} (ho:ops[i]? =some o) (he:fJ E o.op=true) {v:AV}:
 ∀(l:List Nat) (k:Nat) (s:St) {tr:List Step} {hs:List ak} {s1:St} {h':ak} (_:cU E call ops l k s= .ok tr hs s1) (_:cu ops s1.ts o=true) (_:dr E call s1.ts s1.h s1.rc o= .panic v h'),
  ∃why q,cU E call ops (l++[i]) k s= .fail why q
 | [],k,s,tr,hs,s1,h',hd,hw,hv=>by
   simp [cU] at hd;obtain ⟨rfl,rfl,rfl⟩:=hd
   simp only[List.nil_append,cU,ho,he,if_true,hw,hv]
   exact ⟨_,_,rfl⟩
 | j::l,k,s,tr,hs,s1,h',hd,hw,hv=>by
   rw[List.cons_append]
   simp only[cU] at hd ⊢
   cases Xb:ops[j]? with
   | none=>rw[Xb] at hd;simp at hd
   | some oj=>
   rw[Xb] at hd
   simp only at hd ⊢
   have wr:∀(x:Step) (s0:St),((cU E call ops l (k+1) s0).bound s.h).step x= .ok tr hs s1→∃why q,((cU E call ops (l++[i]) (k+1) s0).bound s.h).step x= .fail why q:=by
    intro x s0 hd
    cases hr:cU E call ops l (k+1) s0 with
    | fail why q=>rw[hr] at hd;simp [j_.bound,j_.step] at hd
    | ok Mf sA s2=>
      rw[hr] at hd;simp [j_.bound,j_.step] at hd;obtain ⟨rfl,rfl,rfl⟩:=hd
      obtain ⟨why,q,e⟩:=yD ho he l (k+1) s0 hr hw hv
      rw[e];exact ⟨_,_,rfl⟩
   have pl:∀(x:Step) (s0:St),(cU E call ops l k s0).step x= .ok tr hs s1→∃why q,(cU E call ops (l++[i]) k s0).step x= .fail why q:=by
    intro x s0 hd
    cases hr:cU E call ops l k s0 with
    | fail why q=>rw[hr] at hd;simp [j_.step] at hd
    | ok Mf sA s2=>
      rw[hr] at hd;simp [j_.step] at hd;obtain ⟨rfl,rfl,rfl⟩:=hd
      obtain ⟨why,q,e⟩:=yD ho he l k s0 hr hw hv
      rw[e];exact ⟨_,_,rfl⟩
   split at hd
   · rename_i YB
     rw[if_pos YB]
     split at hd
     · rename_i yg
       rw[if_pos yg]
       split at hd
       · rename_i Qi
         try simp only[Qi]
         exact wr _ _ hd
       · simp at hd
       · simp at hd
     · rename_i yg
       rw[if_neg yg]
       exact wr _ _ hd
   · rename_i YB
     rw[if_neg YB]
     split at hd
     · rename_i yg
       rw[if_pos yg]
       split at hd
       · rename_i hp
         try simp only[hp]
         exact pl _ _ hd
       · rename_i hp
         try simp only[hp]
         split at hd
         · rename_i hq
           try simp only[hq]
           exact pl _ _ hd
         · rename_i hq
           try simp only[hq]
           split at hd
           · rename_i hr
             try simp only[hr]
             split at hd
             · rename_i hn
               try simp only[hn]
               exact pl _ _ hd
             · simp at hd
           · simp at hd
     · rename_i yg
       rw[if_neg yg]
       exact pl _ _ hd
end
theorem Bu {call:a_} {ops:Array Oper} {pl:mj} {s s':St} {tr:List Step} {qQ st:List ak} (r:Fl E call ops pl s s' tr qQ st)
 {φ:Ph} {a:Act} {w:World} (Qf:LR φ s.ts a.tmps.toList) (ok:OK E φ s.h w):Inv E ops pl s tr qQ st φ w a.defers [] (Array.replicate ops.size false) 0 φ a {w with drawn:=w.drawn+1}:=by
 have HE:OK E φ s.h {w with drawn:=w.drawn+1}:=⟨ok.An,ok.nx,ok.vo,ok.live,ok.inj⟩
 have fr1:Fr φ s.h w φ s.h {w with drawn:=w.drawn+1}:=⟨Ph.le_refl φ,fun _ _=>rfl,Nat.le_refl _,rfl,rfl,rfl,Nat.le_refl _,fun _ _ _=>rfl,fun i o l a b c=> .inr ⟨i,o,l,a,b,c,rfl⟩⟩
 have hlen:0<qQ.length:=by have:=r.trace.len;omega
 have h0:qQ[0]? =some qQ[0]:=by simp [hlen]
 have g:=r.trace.grown 0 s.h _ r.trace.first h0
 obtain ⟨Br,Yz⟩:=HE.grown g
 refine ⟨.nil,fun i hi=>by simp at hi,fun i hi=>by simp [hi],fun i hi=>by simp at hi,fun q e hq=>by simp,by omega,by simpa [pg] using Qf,rfl,⟨_,h0,Br,fr1.trans Yz⟩,fun x hx n obj hk _ hk0=>?_⟩
 obtain ⟨q,hq⟩:=List.getElem?_of_mem hx
 obtain ⟨_,_,_,hky,oy,hoy,_,_⟩:=r.at hq
 obtain ⟨_,_,oy',adE,adF,adG,Dc,Dd,Kj⟩:=r.trace.step q x hq
 rw[←hky] at Dc Dd
 have E':x.k=0:=by omega
 rw[E'] at Dc Dd
 rw[r.trace.first] at Dd;simp at Dd;subst Dd
 unfold wJ at Kj
 rw[hk] at Kj
 obtain ⟨_,_,_,hn1,hn2⟩:=Kj
 refine ⟨?_,hn1,fun hK e=>?_⟩
 · cases hφ:φ n with
   | none=>rfl
   | some l=>have:=ok.An n l hφ;omega
 · rw[e] at Dc;simp at Dc;subst Dc;exact hn2
theorem HF (hE:kU E) (adM:E.P.follows .mixedOrders=true) {call:a_} (dC:iB E call) {ops:Array Oper} {s s':St} {e:kR} (h:wu E call ops s= .ok e s')
 {φ:Ph} {a:Act} {w:World} {b:Frame} {k:List Item} {K:Bool→List Frame} (hs:SR φ s.ts s.ds a) (ok:OK E φ s.h w) (gL:nH φ b K s.rc) (id:Nat):
 s'.rc=s.rc∧s'.ds=s.ds∧((e= .normal∧∃φ' a' w',LR φ' s'.ts a'.tmps.toList∧a'.defers=a.defers∧OK E φ' s'.h w'∧Fr φ s.h w φ' s'.h w'∧
  Steps E.P (lone (b.atR a (.code (.region id ops true)::k)) (cur K s.rc) w) (lone (b.atR a' k) (cur K s.rc) w'))∨
  ∃v,e= .panic v∧Fo E φ s.h w a.defers b (cur K s.rc) v s' (lone (b.atR a (.code (.region id ops true)::k)) (cur K s.rc) w)):=by
 have aa8:Region.schedule (E.P.follows .mixedOrders) ops (w.tape w.drawn (.order b.fn id))=Region.linearise.go .any ops ops.size (w.tape w.drawn (.order b.fn id)) (Array.replicate ops.size false) []:=by
  rw[adM];rfl
 unfold wu at h
 split at h
 · simp at h
 rename_i pl N0
 split at h
 · rename_i tr qQ s1 hd
   split at h
   · rename_i hl
     simp at h;obtain ⟨rfl,rfl⟩:=h
     obtain ⟨st,r⟩:=Qm N0 hd hl
     refine ⟨r.trace.rc,r.trace.ds,.inl ⟨rfl,?_⟩⟩
     obtain ⟨φ',a',w',x1,x2,x3,x4,x5⟩:=(HD hE dC r gL (b:=b) (k:=k) ops.size (w.tape w.drawn (.order b.fn id)) (Bu r hs.ts ok) (by simp)).is
     refine ⟨φ',a',w',x1,x2,x3,x4,.head stepR_region_draw ?_⟩
     rw[aa8]
     exact x5
   · simp at h
 · split at h
   · rename_i v s2 hp
     simp at h;obtain ⟨rfl,rfl⟩:=h
     unfold A5 at hp
     split at hp
     · simp at hp
     rename_i i front UG
     split at hp
     · rename_i tr qQ s1 dst c ty pos after guard hd ho
       split at hp
       · rename_i EZ
         split at hp
         · rename_i v1 h1 Qi
           split at hp
           · rename_i hl
             simp at hp;obtain ⟨rfl,rfl⟩:=hp
             simp only[Bool.and_eq_true,List.all_eq_true,List.mem_range,Bool.or_eq_true,beq_iff_eq] at EZ
             obtain ⟨⟨he,hw⟩,HA⟩:=EZ
             have Qe:pl.order=front.reverse++[i]:=by
              have:=congrArg List.reverse UG
              simpa using this
             have hd2:=vz (DZ:=Bt call) (fun e=>Qk e) ho he front.reverse 0 s hd hw (Ql Qi)
             rw[←Qe] at hd2
             rw[Nat.zero_add] at hd2
             obtain ⟨st,r⟩:=Qm N0 hd2 hl
             obtain ⟨PD,t1⟩:=oH hd
             have aa9:s1.rc=s.rc:=t1.rc
             refine ⟨aa9,t1.ds,.inr ⟨_,rfl,?_⟩⟩
             have hlen:1≤qQ.length:=by have:=t1.len;omega
             have HC:(qQ++[h1])[qQ.length - 1]? =some s1.h:=by
              rw[List.getElem?_append_left (by omega)]
              have:=t1.last
              rw[show qQ.length - 1=qH E ops front.reverse by have:=t1.len;omega];exact this
             have DX:∀(x:Step) (o:Oper) (hk h':ak),x∈tr++[⟨i,qQ.length - 1,s1.ts,AV.undef,.uz h1⟩]→x.i≠i→ops[x.i]? =some o→(qQ++[h1])[x.k]? =some hk→x.kind= .uz h'→dr E call x.ts hk s.rc o= .val x.v h':=by
              intro x o hk h' hx N8 Hy zD yw
              have hx':x∈tr:=by
               simp at hx;rcases hx with h | h
               · exact h
               · exact absurd (by rw[h]) N8
              obtain ⟨p,hp⟩:=List.getElem?_of_mem hx'
              obtain ⟨_,hk0,o',hk1,sk1,ho2,YC,hsk,jo⟩:=t1.step p x hp
              rw[Hy] at ho2;simp at ho2;subst ho2
              rw[Nat.zero_add] at hk0
              rw[←hk0] at YC
              have lM:x.k<qQ.length:=(List.getElem?_eq_some_iff.1 YC).1
              rw[List.getElem?_append_left lM,YC] at zD
              simp at zD;subst zD
              unfold wJ at jo;rw[yw] at jo;exact jo.2.2.1
             have adN:=(DY hE dC r (xl:=⟨i,qQ.length - 1,s1.ts,AV.undef,.uz h1⟩) (by simp) (ol:=⟨dst,.call c,ty,pos,after,guard⟩) ho rfl (fun j hj ep=>(HA j hj).resolve_left ep) he hw HC (by rw[←aa9];exact Qi) DX
              (s2:={s1 with h:=h1}) rfl rfl gL (b:=b) (k:=k) ops.size (w.tape w.drawn (.order b.fn id)) (Bu r hs.ts ok) (by simp) (by simp)).is
             obtain ⟨φ',a',w',v',todo,x0,x1,x2,x3,x4,x5⟩:=adN
             refine ⟨φ',a',w',v',todo,x0,x1,x2,x3,x4,.head stepR_region_draw ?_⟩
             rw[aa8]
             exact x5
           · simp at hp
         · simp at hp
       · simp at hp
     · simp at hp
   · simp at h
end Go.Ab
end
