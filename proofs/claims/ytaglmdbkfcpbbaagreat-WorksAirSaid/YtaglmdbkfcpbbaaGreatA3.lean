import Derived.Orders
import Derived.Test.YtaglmdbkfcpbbaaGreatA2
set_option linter.unusedVariables false
set_option linter.unusedSimpArgs false
section
namespace Go.Ab
variable {E:Env}
theorem lV {α:Type} {f:α→α→Bool} (hf:∀x y,f x y=true→x=y):∀{l r:List α} (_:dU f l r=true),l=r
 | [],[],_=>rfl
 | [],_::_,h=>by simp [dU] at h
 | _::_,[],h=>by simp [dU] at h
 | x::xs,y::ys,h=>by
   simp only[dU,Bool.and_eq_true] at h
   rw[hf x y h.1,lV hf h.2]
theorem AV.tI:∀(n:Nat) (x y:AV),AV.same n x y=true→x=y
 | 0,_,_,h=>by simp [AV.same] at h
 | n+1,x,y,h=>by
   have ih:=AV.tI n
   cases x<;>cases y<;>simp [AV.same] at h<;>try rfl
   all_goals first
    | (subst h;rfl)
    | (obtain ⟨rfl,rfl⟩:=h;rfl)
    | (obtain ⟨⟨⟨⟨rfl,rfl⟩,rfl⟩,rfl⟩,rfl⟩:=h;rfl)
    | (obtain ⟨⟨rfl,h1⟩,h2⟩:=h;rw[lV ih h1,lV ih h2])
    | (obtain ⟨rfl,h1⟩:=h;rw[ih _ _ h1])
    | (rw[lV ih h])
theorem aH.tI {x y:aH} (h:aH.same x y=true):x=y:=by
 unfold aH.same at h
 split at h
 · simp only[Bool.and_eq_true,beq_iff_eq] at h
   obtain ⟨⟨h1,rfl⟩,rfl⟩:=h
   rw[lV (AV.tI 20) h1]
 · simp at h;subst h;rfl
 · simp at h;obtain ⟨rfl,rfl⟩:=h;rfl
 · simp at h
theorem sG:∀{l:List Nat} (_:nodup l=true),l.Nodup
 | [],_=> .nil
 | x::xs,h=>by
   simp only[nodup,Bool.and_eq_true,Bool.not_eq_true',List.contains_eq_mem,decide_eq_false_iff_not] at h
   exact List.nodup_cons.2 ⟨h.1,sG h.2⟩
theorem xK:∀(n:Nat) (l:List Nat) (_:l.Nodup) (_:∀x∈l,x<n),l.length≤n
 | 0,l,_,h=>by
   cases l with
   | nil=>simp
   | cons x _=>have:=h x (by simp);omega
 | n+1,l,hn,h=>by
   have h1:=xK n (l.erase n) (hn.erase n) (fun x hx=>by
    have h2:=h x (List.mem_of_mem_erase hx)
    have h3:x≠n:=(hn.mem_erase_iff.1 hx).1
    omega)
   rw[List.length_erase] at h1
   split at h1<;>omega
structure xL (E:Env) (ops:Array Oper) (pl:lu):Prop where
 lt:∀i o j,ops[i]? =some o→dP pl.an i j=true→j<i
 direct:∀i o e,ops[i]? =some o→e∈j9 o→e<i∧dP pl.an i e=true
 closed:∀i o j,ops[i]? =some o→dP pl.an i j=true→∃e∈j9 o,e=j∨dP pl.an e j=true
 guard:∀i o g want,ops[i]? =some o→o.guard=some (g,want)→dP pl.an i g=true
 slot:∀i j o p d,i≠j→ops[i]? =some o→ops[j]? =some p→p.dst=some d→o.dst≠some d∧(d∈tmpsOf o→dP pl.an i j=true∨dP pl.an j i=true)
 chain:∀q e f,pl.bZ[q]? =some e→pl.bZ[q+1]? =some f→dP pl.an f e=true
 bZ:pl.bZ=mi E ops.toList
 nd:pl.bZ.Nodup
 order:j_ E ops pl.an pl.bZ pl.order [] 0=true
theorem rI {ops:Array Oper} {i:Nat} {o:Oper} (h:ops[i]? =some o):(o,i)∈ops.toList.zipIdx:=by
 rw[List.mk_mem_zipIdx_iff_getElem?];simpa using h
theorem tJ {an:List (List Nat)}:∀{l:List Nat} (_:rE an l=true) (q e f:Nat),l[q]? =some e→l[q+1]? =some f→dP an f e=true
 | [],_,q,e,f,h,_=>by simp at h
 | [x],_,q,e,f,h,h'=>by simp at h'
 | x::y::l,hc,q,e,f,h,h'=>by
   simp only[rE,Bool.and_eq_true] at hc
   cases q with
   | zero=>simp at h h';subst h;subst h';exact hc.1
   | succ q=>exact tJ hc.2 q e f (by simpa using h) (by simpa using h')
theorem Cx {ops:Array Oper} {pl:lu} (h:qy E ops=some pl):xL E ops pl:=by
 unfold qy at h
 simp only at h
 split at h
 · rename_i hc
   simp at h;subst h
   simp only[Bool.and_eq_true] at hc
   obtain ⟨⟨⟨⟨he,hs⟩,Pp⟩,nI⟩,Jn⟩:=hc
   have El:=List.all_eq_true.1 he
   have pr:=List.all_eq_true.1 hs
   refine ⟨fun i o j ho hj=>?_,fun i o e ho hm=>?_,fun i o j ho hj=>?_,fun i o g want ho hg=>?_,fun i j o p d eC ho hp hd=>?_,tJ Pp,rfl,sG nI,Jn⟩
   · have:=El _ (rI ho)
     simp only[Bool.and_eq_true] at this
     have h2:=List.all_eq_true.1 this.2 j (by simpa [dP] using hj)
     simp only[Bool.and_eq_true,decide_eq_true_eq] at h2
     exact h2.1
   · have:=El _ (rI ho)
     simp only[Bool.and_eq_true] at this
     have h2:=List.all_eq_true.1 this.1 e hm
     simpa using h2
   · have:=El _ (rI ho)
     simp only[Bool.and_eq_true] at this
     have h2:=List.all_eq_true.1 this.2 j (by simpa [dP] using hj)
     simp only[Bool.and_eq_true,List.any_eq_true,Bool.or_eq_true,beq_iff_eq] at h2
     exact h2.2
   · have:=pr _ (rI ho)
     simp only[Bool.and_eq_true,hg] at this
     exact this.1.1
   · have:=pr _ (rI ho)
     simp only[Bool.and_eq_true] at this
     have h2:=List.all_eq_true.1 this.2 _ (rI hp)
     simp only[Bool.or_eq_true,beq_iff_eq,eC,false_or,hd,Bool.and_eq_true,bne_iff_ne,Bool.not_eq_true',List.contains_eq_mem,decide_eq_false_iff_not] at h2
     exact ⟨h2.1,fun hm=>(h2.2.imp_left (fun x=>x.resolve_left (fun hn=>hn hm)))⟩
 · simp at h
def pc (E:Env) (ops:Array Oper) (l:List Nat):Nat:=(l.filter fun i=>fG E ((ops.getD i default).op)).length
theorem A7 {ops:Array Oper} {i:Nat} (l:List Nat) (h:fG E ((ops.getD i default).op)=true):pc E ops (i::l)=pc E ops l+1:=by
 unfold pc;rw[List.filter_cons_of_pos (p:=fun i=>fG E ((ops.getD i default).op)) h];rfl
theorem A8 {ops:Array Oper} {i:Nat} (l:List Nat) (h:¬fG E ((ops.getD i default).op)=true):pc E ops (i::l)=pc E ops l:=by
 unfold pc;rw[List.filter_cons_of_neg (p:=fun i=>fG E ((ops.getD i default).op)) h]
theorem iu {ops:Array Oper} {an:List (List Nat)} {bZ:List Nat}:∀{l seen:List Nat} {k:Nat} (_:j_ E ops an bZ l seen k=true),
 (∀p i,l[p]? =some i→i<ops.size∧i ∉ seen∧i ∉ l.take p∧(∀j,dP an i j=true→j∈seen∨j∈l.take p)∧
  (fG E ((ops.getD i default).op)=true→bZ[k+pc E ops (l.take p)]? =some i)∧(fG E ((ops.getD i default).op)=false→AQ bZ an i=k+pc E ops (l.take p)))∧
 (∀i,i<ops.size→i∈seen∨i∈l)∧k+pc E ops l=bZ.length
 | [],seen,k,h=>by
   simp only[j_,Bool.and_eq_true,List.all_eq_true,List.mem_range,beq_iff_eq] at h
   exact ⟨fun p i hp=>by simp at hp,fun i hi=> .inl (by simpa using h.1 i hi),by simpa [pc] using h.2⟩
 | i::l,seen,k,h=>by
   simp only[j_,Bool.and_eq_true,decide_eq_true_eq,Bool.not_eq_true',List.contains_eq_mem,decide_eq_false_iff_not] at h
   obtain ⟨⟨⟨lf,Uh⟩,Pu⟩,mU⟩:=h
   have Oc:∀j,dP an i j=true→j∈seen:=fun j hj=>by
    have:=List.all_eq_true.1 Pu j (by simpa [dP] using hj)
    simpa using this
   by_cases he:fG E ((ops.getD i default).op)=true
   · simp only[he,if_true,Bool.and_eq_true,beq_iff_eq] at mU
     obtain ⟨h1,h2,h3⟩:=iu mU.2
     refine ⟨fun p j hp=>?_,fun j hj=>?_,?_⟩
     · cases p with
       | zero=>simp at hp;subst hp;exact ⟨lf,Uh,by simp,fun j hj=> .inl (Oc j hj),fun _=>by simpa [pc] using mU.1,fun hf=>by rw[he] at hf;simp at hf⟩
       | succ p=>
         obtain ⟨a1,a2,a3,a4,a5,a6⟩:=h1 p j (by simpa using hp)
         have hc:k+pc E ops (List.take (p+1) (i::l))=k+1+pc E ops (l.take p):=by rw[List.take_succ_cons,A7 _ he];omega
         simp only[List.mem_cons,not_or] at a2
         refine ⟨a1,a2.2,by simp;exact ⟨a2.1,a3⟩,fun m hm=>?_,by rw[hc];exact a5,by rw[hc];exact a6⟩
         rcases a4 m hm with h4 | h4
         · simp at h4;rcases h4 with rfl | h4
           · exact .inr (by simp)
           · exact .inl h4
         · exact .inr (by simp [h4])
     · rcases h2 j hj with h4 | h4
       · simp at h4;rcases h4 with rfl | h4
         · exact .inr (by simp)
         · exact .inl h4
       · exact .inr (by simp [h4])
     · rw[A7 _ he];omega
   · simp only[he,Bool.false_eq_true,if_false,Bool.and_eq_true,beq_iff_eq] at mU
     obtain ⟨h1,h2,h3⟩:=iu mU.2
     refine ⟨fun p j hp=>?_,fun j hj=>?_,?_⟩
     · cases p with
       | zero=>simp at hp;subst hp;exact ⟨lf,Uh,by simp,fun j hj=> .inl (Oc j hj),fun hf=>absurd hf he,fun _=>by simpa [pc] using mU.1⟩
       | succ p=>
         obtain ⟨a1,a2,a3,a4,a5,a6⟩:=h1 p j (by simpa using hp)
         have hc:k+pc E ops (List.take (p+1) (i::l))=k+pc E ops (l.take p):=by rw[List.take_succ_cons,A8 _ he]
         simp only[List.mem_cons,not_or] at a2
         refine ⟨a1,a2.2,by simp;exact ⟨a2.1,a3⟩,fun m hm=>?_,by rw[hc];exact a5,by rw[hc];exact a6⟩
         rcases a4 m hm with h4 | h4
         · simp at h4;rcases h4 with rfl | h4
           · exact .inr (by simp)
           · exact .inl h4
         · exact .inr (by simp [h4])
     · rcases h2 j hj with h4 | h4
       · simp at h4;rcases h4 with rfl | h4
         · exact .inr (by simp)
         · exact .inl h4
       · exact .inr (by simp [h4])
     · rw[A8 _ he];exact h3
def gX (ops:Array Oper) (i:Nat):Option Tmp:=(ops[i]?).bind (·.dst)
def A9 (ops:Array Oper) (ts:List AV) (l:List Step):List AV:=l.foldl (fun ts x=>dV ts (gX ops x.i) x.v) ts
def nJ (ops:Array Oper) (val:Nat→AV) (ts:List AV) (l:List Nat):List AV:=l.foldl (fun ts i=>dV ts (gX ops i) (val i)) ts
structure Grown (a b:ar):Prop where
 nx:a.nx≤b.nx
 old:∀i,i<a.nx→b.get i=a.get i
theorem Grown.refl (a:ar):Grown a a:=⟨Nat.le_refl _,fun _ _=>rfl⟩
theorem Grown.trans {a b c:ar} (x:Grown a b) (y:Grown b c):Grown a c:=⟨Nat.le_trans x.nx y.nx,fun i hi=>(y.old i (Nat.lt_of_lt_of_le hi x.nx)).trans (x.old i hi)⟩
theorem Grown.new {a b:ar} {o:aH} (h:a.new o=some b):Grown a b:=by
 obtain ⟨h1,h2,h3,h4⟩:=ar.kF h
 exact ⟨by omega,fun i hi=>h4 i (by omega)⟩
theorem OK.grown {φ:Ph} {a b:ar} {w:World} (g:Grown a b) (ok:OK E φ a w):OK E φ b w∧Fr φ a w φ b w:=by
 have hold:∀i l,φ i=some l→b.get i=a.get i:=fun i l hl=>g.old i (ok.wB i l hl)
 refine ⟨⟨fun i l hl=>Nat.lt_of_lt_of_le (ok.wB i l hl) g.nx,Nat.le_trans ok.nx g.nx,ok.sx,fun i o l hi hl=>ok.live i o l (hold i l hl▸hi) hl,
  fun i j o p l m hi hj hl hm hw hb=>ok.inj i j o p l m (hold i l hl▸hi) (hold j m hm▸hj) hl hm hw hb⟩,
  ⟨Ph.le_refl φ,fun _ _=>rfl,g.nx,rfl,rfl,rfl,Nat.le_refl _,fun _ _ _=>rfl,fun i o l hi hr hl=> .inr ⟨i,o,l,hold i l hl▸hi,hr,hl,rfl⟩⟩⟩
def tK (E:Env) (call:bx) (ops:Array Oper) (rc:RC) (x:Step) (o:Oper) (hk:ar) (sk:ar) (Od:Option ar):Prop:=
 match x.kind with
 | .off=>cP ops x.ts o=false∧x.v=AV.undef∧(fG E o.op=true→Od=some hk)
 | .gR=>fG E o.op=false∧cP ops x.ts o=true∧bH E x.ts o.op=some x.v
 | .red=>fG E o.op=false∧cP ops x.ts o=true
 | .qz n obj=>fG E o.op=false∧cP ops x.ts o=true∧(∃mk,eu E x.ts o.op=some (obj,mk)∧x.v=mk n)∧sk.nx≤n∧n<hk.nx
 | .rZ h'=>fG E o.op=true∧cP ops x.ts o=true∧dv E call x.ts hk rc o= .val x.v h'∧Od=some h'
structure Mr (E:Env) (call:bx) (ops:Array Oper) (s:St) (k:Nat) (order:List Nat) (tr:List Step) (hs st:List ar) (s':St):Prop where
 is:tr.map (·.i)=order
 ts:s'.ts=A9 ops s.ts tr
 ds:s'.ds=s.ds
 rc:s'.rc=s.rc
 len:hs.length=pc E ops order+1
 Pv:st.length=hs.length
 first:st[0]? =some s.h
 last:hs[pc E ops order]? =some s'.h
 grown:∀(j:Nat) (a b:ar),st[j]? =some a→hs[j]? =some b→Grown a b
 step:∀(p:Nat) (x:Step),tr[p]? =some x→x.ts=A9 ops s.ts (tr.take p)∧x.k=k+pc E ops (order.take p)∧
  ∃o hk sk,ops[x.i]? =some o∧hs[pc E ops (order.take p)]? =some hk∧st[pc E ops (order.take p)]? =some sk∧tK E call ops s.rc x o hk sk (st[pc E ops (order.take p)+1]?)
theorem rJ (ops:Array Oper) (ts:List AV) (x:Step) (l:List Step):A9 ops ts (x::l)=A9 ops (dV ts (gX ops x.i) x.v) l:=rfl
theorem m6 {call:bx} {ops:Array Oper}:∀{order:List Nat} {k:Nat} {s:St} {tr:List Step} {hs:List ar} {s':St} (_:db E call ops order k s= .ok tr hs s'),
 ∃st,Mr E call ops s k order tr hs st s'
 | [],k,s,tr,hs,s',h=>by
   simp [db] at h;obtain ⟨rfl,rfl,rfl⟩:=h
   exact ⟨[s.h],rfl,rfl,rfl,rfl,rfl,rfl,rfl,rfl,fun j a b ha hb=>by
    cases j with
    | zero=>simp at ha hb;subst ha;subst hb;exact Grown.refl _
    | succ j=>simp at ha,fun p x hp=>by simp at hp⟩
 | i::rest,k,s,tr,hs,s',h=>by
   simp only[db] at h
   cases ho:ops[i]? with
   | none=>rw[ho] at h;simp at h
   | some o=>
   rw[ho] at h
   simp only at h
   have Rw:ops.getD i default=o:=by simp [Array.getD_eq_getD_getElem?,ho]
   have Ms:gX ops i=o.dst:=by simp [gX,ho]
   have writes:∀(x:Step) (s1:St),x.i=i→x.k=k→x.ts=s.ts→s1.ts=dV s.ts o.dst x.v→s1.ds=s.ds→s1.rc=s.rc→fG E o.op=true→
    tK E call ops s.rc x o s.h s.h (some s1.h)→((db E call ops rest (k+1) s1).bound s.h).step x= .ok tr hs s'→∃st,Mr E call ops s k (i::rest) tr hs st s':=by
    intro x s1 HI A_ Vc h1 h2 h3 he jd hd
    cases hr:db E call ops rest (k+1) s1 with
    | fail why q=>rw[hr] at hd;simp [jy.bound,jy.step] at hd
    | ok F9 qp s2=>
      rw[hr] at hd;simp [jy.bound,jy.step] at hd;obtain ⟨rfl,rfl,rfl⟩:=hd
      obtain ⟨IQ,t⟩:=m6 hr
      have hc:∀l,pc E ops (i::l)=pc E ops l+1:=fun l=>A7 l (by rw[Rw];exact he)
      refine ⟨s.h::IQ,by simp [HI,t.is],?_,t.ds.trans h2,t.rc.trans h3,by simp [t.len,hc],by simp [t.Pv],rfl,by rw[hc];simpa using t.last,fun j a b ha hb=>?_,fun p y hp=>?_⟩
      · rw[rJ,HI,Ms,←h1];exact t.ts
      · cases j with
        | zero=>simp at ha hb;subst ha;subst hb;exact Grown.refl _
        | succ j=>exact t.grown j a b (by simpa using ha) (by simpa using hb)
      · cases p with
        | zero=>
          simp at hp;subst hp
          refine ⟨by simp [A9,Vc],by simp [pc,A_],o,s.h,s.h,by rw[HI];exact ho,by simp [pc],by simp [pc],?_⟩
          have:(s.h::IQ)[pc E ops (List.take 0 (i::rest))+1]? =some s1.h:=by simp [pc];exact t.first
          rw[this];exact jd
        | succ p=>
          obtain ⟨a1,a2,o2,hk,sk,a3,a4,a5,a6⟩:=t.step p y (by simpa using hp)
          refine ⟨?_,by rw[List.take_succ_cons,hc];omega,o2,hk,sk,a3,by rw[List.take_succ_cons,hc];simpa using a4,by rw[List.take_succ_cons,hc];simpa using a5,?_⟩
          · rw[List.take_succ_cons,rJ,HI,Ms,←h1];exact a1
          · rw[List.take_succ_cons,hc,h3] at *
            simpa using a6
   have plain:∀(x:Step) (s1:St),x.i=i→x.k=k→x.ts=s.ts→s1.ts=dV s.ts o.dst x.v→s1.ds=s.ds→s1.rc=s.rc→fG E o.op=false→Grown s.h s1.h→
    (∀hk sn,Grown s1.h hk→tK E call ops s.rc x o hk s.h sn)→(db E call ops rest k s1).step x= .ok tr hs s'→∃st,Mr E call ops s k (i::rest) tr hs st s':=by
    intro x s1 HI A_ Vc h1 h2 h3 he hg jd hd
    cases hr:db E call ops rest k s1 with
    | fail why q=>rw[hr] at hd;simp [jy.step] at hd
    | ok F9 qp s2=>
      rw[hr] at hd;simp [jy.step] at hd;obtain ⟨rfl,rfl,rfl⟩:=hd
      obtain ⟨IQ,t⟩:=m6 hr
      have hc:∀l,pc E ops (i::l)=pc E ops l:=fun l=>A8 l (by rw[Rw];simp [he])
      cases wF:IQ with
      | nil=>have:=t.first;rw[wF] at this;simp at this
      | cons s0 Vd=>
      have LU:s0=s1.h:=by have:=t.first;rw[wF] at this;simpa using this
      subst LU
      have gL:∀j,(s.h::Vd)[j+1]? =IQ[j+1]? :=fun j=>by rw[wF];rfl
      refine ⟨s.h::Vd,by simp [HI,t.is],?_,t.ds.trans h2,t.rc.trans h3,by rw[hc];exact t.len,by have:=t.Pv;rw[wF] at this;simpa using this,rfl,by rw[hc];exact t.last,fun j a b ha hb=>?_,fun p y hp=>?_⟩
      · rw[rJ,HI,Ms,←h1];exact t.ts
      · cases j with
        | zero=>
          simp at ha;subst ha
          exact hg.trans (t.grown 0 _ b t.first hb)
        | succ j=>rw[gL] at ha;exact t.grown (j+1) a b ha hb
      · cases p with
        | zero=>
          simp at hp;subst hp
          have h0:∃hk,qp[0]? =some hk:=by
           have:=t.len
           cases hh:qp with
           | nil=>rw[hh] at this;simp at this
           | cons a _=>exact ⟨a,rfl⟩
          obtain ⟨hk,vV⟩:=h0
          refine ⟨by simp [A9,Vc],by simp [pc,A_],o,hk,s.h,by rw[HI];exact ho,by simpa [pc] using vV,by simp [pc],?_⟩
          exact jd hk _ (t.grown 0 _ hk t.first vV)
        | succ p=>
          obtain ⟨a1,a2,o2,hk,sk,a3,a4,a5,a6⟩:=t.step p y (by simpa using hp)
          have Sa:∃Ul,(s.h::Vd)[pc E ops (List.take p rest)]? =some Ul∧Ul.nx≤sk.nx:=by
           cases hq:pc E ops (List.take p rest) with
           | zero=>rw[hq] at a5;rw[t.first] at a5;simp at a5;subst a5;exact ⟨s.h,rfl,hg.nx⟩
           | succ q=>rw[hq] at a5;exact ⟨sk,by rw[gL];exact a5,Nat.le_refl _⟩
          obtain ⟨Ul,Ve,Vf⟩:=Sa
          refine ⟨?_,by rw[List.take_succ_cons,hc];exact a2,o2,hk,Ul,a3,by rw[List.take_succ_cons,hc];exact a4,by rw[List.take_succ_cons,hc];exact Ve,?_⟩
          · rw[List.take_succ_cons,rJ,HI,Ms,←h1];exact a1
          · rw[List.take_succ_cons,hc,gL,←h3]
            unfold tK at a6 ⊢
            split<;>rename_i tL<;>rw[tL] at a6
            · exact a6
            · exact a6
            · exact a6
            · exact ⟨a6.1,a6.2.1,a6.2.2.1,Nat.le_trans Vf a6.2.2.2.1,a6.2.2.2.2⟩
            · exact a6
   split at h
   · rename_i he
     split at h
     · rename_i hw
       split at h
       · rename_i v h' qJ
         exact writes ⟨i,k,s.ts,v,.rZ h'⟩ {s with ts:=dV s.ts o.dst v,h:=h'} rfl rfl rfl rfl rfl rfl he ⟨he,hw,qJ,rfl⟩ h
       · simp at h
       · simp at h
     · rename_i hw
       exact writes ⟨i,k,s.ts,AV.undef,.off⟩ {s with ts:=dV s.ts o.dst AV.undef} rfl rfl rfl rfl rfl rfl he ⟨by simpa using hw,rfl,fun _=>rfl⟩ h
   · rename_i he
     have El:fG E o.op=false:=by simpa using he
     split at h
     · rename_i hw
       split at h
       · rename_i v hp
         exact plain ⟨i,k,s.ts,v,.gR⟩ {s with ts:=dV s.ts o.dst v} rfl rfl rfl rfl rfl rfl El (Grown.refl _) (fun hk sn _=>⟨El,hw,hp⟩) h
       · split at h
         · rename_i v hp
           exact plain ⟨i,k,s.ts,v,.red⟩ {s with ts:=dV s.ts o.dst v} rfl rfl rfl rfl rfl rfl El (Grown.refl _) (fun hk sn _=>⟨El,hw⟩) h
         · split at h
           · rename_i obj mk hp
             split at h
             · rename_i h' hn
               refine plain ⟨i,k,s.ts,mk s.h.nx,.qz s.h.nx obj⟩ {s with ts:=dV s.ts o.dst (mk s.h.nx),h:=h'} rfl rfl rfl rfl rfl rfl El (Grown.new hn) (fun hk sn g=>⟨El,hw,⟨mk,hp,rfl⟩,Nat.le_refl _,?_⟩) h
               have:=(ar.kF hn).2.1
               have:=g.nx
               simp at this;omega
             · simp at h
           · simp at h
     · rename_i hw
       exact plain ⟨i,k,s.ts,AV.undef,.off⟩ {s with ts:=dV s.ts o.dst AV.undef} rfl rfl rfl rfl rfl rfl El (Grown.refl _) (fun hk sn _=>⟨by simpa using hw,rfl,fun h=>by rw[El] at h;simp at h⟩) h
end Go.Ab
end
section
namespace Go.Ab
variable {E:Env}
theorem rK (ops:Array Oper) (val:Nat→AV) (x:Nat):∀(l:List Nat) (ts:List AV) (_:∀j∈l,gX ops j≠some x),(nJ ops val ts l)[x]? =ts[x]?
 | [],_,_=>rfl
 | i::l,ts,h=>by
   show (nJ ops val (dV ts (gX ops i) (val i)) l)[x]? =_
   rw[rK ops val x l _ (fun j hj=>h j (by simp [hj]))]
   have:=h i (by simp)
   cases hd:gX ops i with
   | none=>rfl
   | some d=>
     rw[hd] at this
     have eC:d≠x:=fun e=>this (by rw[e])
     simp [dV,List.getElem?_set_ne eC]
theorem xM (ops:Array Oper) (val:Nat→AV) (x j:Nat) (hj:gX ops j=some x):∀(l:List Nat) (ts:List AV) (_:j∈l) (_:∀j'∈l,gX ops j'=some x→j'=j),(nJ ops val ts l)[x]? =if x<ts.length then some (val j) else none
 | i::l,ts,hm,hu=>by
   show (nJ ops val (dV ts (gX ops i) (val i)) l)[x]? =_
   have hlen:(dV ts (gX ops i) (val i)).length=ts.length:=by cases gX ops i<;>simp [dV]
   by_cases IS:j∈l
   · rw[xM ops val x j hj l _ IS (fun j' h=>hu j' (by simp [h])),hlen]
   · have Xg:i=j:=by simp at hm;rcases hm with h | h;exact h.symm;exact absurd h IS
     subst Xg
     rw[rK ops val x l _ (fun j' po e=>IS (hu j' (by simp [po]) e▸po))]
     rw[hj]
     simp [dV,List.getElem?_set]
theorem sH {ops:Array Oper} {val:Nat→AV} {x:Nat} {l d:List Nat} (ts:List AV) (hu:∀j j',gX ops j=some x→gX ops j'=some x→j=j') (Oe:∀j,gX ops j=some x→(j∈l↔j∈d)):
 (nJ ops val ts l)[x]? =(nJ ops val ts d)[x]? :=by
 by_cases h:∃j,gX ops j=some x∧j∈l
 · obtain ⟨j,hj,hl⟩:=h
   rw[xM ops val x j hj l ts hl (fun j' _ e=>hu j' j e hj),xM ops val x j hj d ts ((Oe j hj).1 hl) (fun j' _ e=>hu j' j e hj)]
 · rw[rK ops val x l ts (fun j hj e=>h ⟨j,e,hj⟩),rK ops val x d ts (fun j hj e=>h ⟨j,e,(Oe j e).2 hj⟩)]
theorem vb {l r:List AV} {x:Nat} (h:l[x]? =r[x]?) (d:AV):l.getD x d=r.getD x d:=by simp [List.getD,h]
def valOf (tr:List Step) (i:Nat):AV:=((tr.find? (fun x=>x.i==i)).map (·.v)).getD AV.undef
theorem Cy {tr:List Step} (hn:(tr.map (·.i)).Nodup) {p:Nat} {x:Step} (hp:tr[p]? =some x):valOf tr x.i=x.v:=by
 unfold valOf
 have:tr.find? (fun y=>y.i==x.i)=some x:=by
  rw[List.find?_eq_some_iff_getElem]
  obtain ⟨lf,hx⟩:=List.getElem?_eq_some_iff.1 hp
  refine ⟨by simp,p,lf,hx,fun j hj=>?_⟩
  have IS:j<tr.length:=by omega
  simp only[Bool.not_eq_true',beq_eq_false_iff_ne]
  intro e
  have h1:(tr.map (·.i))[j]? =some x.i:=by simp [IS,e]
  have h2:(tr.map (·.i))[p]? =some x.i:=by simp [lf,hx]
  have:=(List.getElem?_inj (by simpa using IS) hn).1 (h1.trans h2.symm)
  omega
 rw[this];rfl
theorem A' (ops:Array Oper) {tr:List Step} (hn:(tr.map (·.i)).Nodup) (ts:List AV) (p:Nat):A9 ops ts (tr.take p)=nJ ops (valOf tr) ts ((tr.map (·.i)).take p):=by
 have key:∀(l:List Step) (ts:List AV),(∀x∈l,valOf tr x.i=x.v)→A9 ops ts l=nJ ops (valOf tr) ts (l.map (·.i)):=by
  intro l
  induction l with
  | nil=>intro ts _;rfl
  | cons x l ih=>
    intro ts h
    show A9 ops (dV ts (gX ops x.i) x.v) l=nJ ops (valOf tr) (dV ts (gX ops x.i) (valOf tr x.i)) (l.map (·.i))
    rw[h x (by simp),ih _ (fun y hy=>h y (by simp [hy]))]
 rw[key _ _ (fun x hx=>?_),List.map_take]
 obtain ⟨q,hq⟩:=List.getElem?_of_mem (List.mem_of_mem_take hx)
 exact Cy hn hq
theorem OK.place {φ:Ph} {h:ar} {w:World} (ok:OK E φ h w) {n:Nat} {obj:aH} (hg:h.get n=some obj) (AS:φ n=none) (lf:n<h.nx) {O:Obj}
 (ho:OR E (φ.add n ⟨w.heap.size,0,0⟩) obj ⟨w.heap.size,0,0⟩ (some O)):OK E (φ.add n ⟨w.heap.size,0,0⟩) h (w.alloc O)∧φ.le (φ.add n ⟨w.heap.size,0,0⟩):=by
 have hle:φ.le (φ.add n ⟨w.heap.size,0,0⟩):=fun j m hm=>by
  unfold Ph.add;split
  · rename_i e;subst e;rw[AS] at hm;simp at hm
  · exact hm
 have jP:∀j,j≠n→(φ.add n ⟨w.heap.size,0,0⟩) j=φ j:=fun j hj=>by simp [Ph.add,hj]
 have ib:(φ.add n ⟨w.heap.size,0,0⟩) n=some ⟨w.heap.size,0,0⟩:=by simp [Ph.add]
 have Of:(w.alloc O).heap=w.heap.push O:=rfl
 have zu:∀j p m,h.get j=some p→φ j=some m→m.gG<w.heap.size:=fun j p m hj hm=>by
  have zl:=ok.live j p m hj hm
  rcases Nat.lt_or_ge m.gG w.heap.size with a | a
  · exact a
  · exfalso
    rw[Array.getElem?_eq_none a] at zl
    exact zl.absurd
 refine ⟨⟨fun j m hm=>?_,ok.nx,fun g hg=>hle _ _ (ok.sx g hg),fun j p m hj hm=>?_,fun j k p q m r hj hk hm hr hw hb=>?_⟩,hle⟩
 · by_cases e:j=n
   · omega
   · rw[jP j e] at hm;exact ok.wB j m hm
 · by_cases e:j=n
   · subst e;rw[ib] at hm;simp at hm;subst hm;rw[hg] at hj;simp at hj;subst hj;rw[Of];simpa using ho
   · rw[jP j e] at hm
     have hb:=zu j p m hj hm
     rw[Of,Array.getElem?_push,if_neg (by omega)]
     exact (ok.live j p m hj hm).mono hle
 · by_cases e:j=n<;>by_cases e':k=n
   · rw[e,e']
   · subst e;rw[ib] at hm;simp at hm;subst hm;rw[jP k e'] at hr;have:=zu k q r hk hr;simp at hb;omega
   · subst e';rw[ib] at hr;simp at hr;subst hr;rw[jP j e] at hm;have:=zu j p m hj hm;simp at hb;omega
   · rw[jP j e] at hm;rw[jP k e'] at hr;exact ok.inj j k p q m r hj hk hm hr hw hb
theorem Fr.place {φ₀ φ:Ph} {h₀ h:ar} {w₀ w:World} (f:Fr φ₀ h₀ w₀ φ h w) {n:Nat} (hn:h₀.nx≤n) (AS:φ n=none) (O:Obj):Fr φ₀ h₀ w₀ (φ.add n ⟨w.heap.size,0,0⟩) h (w.alloc O):=by
 have jP:∀j,j≠n→(φ.add n ⟨w.heap.size,0,0⟩) j=φ j:=fun j hj=>by simp [Ph.add,hj]
 have ib:(φ.add n ⟨w.heap.size,0,0⟩) n=some ⟨w.heap.size,0,0⟩:=by simp [Ph.add]
 refine ⟨fun j m hm=>?_,fun i hi=>by rw[jP i (by omega)];exact f.old i hi,f.nx,f.os,f.tape,f.output,by have:=f.size;simp;omega,fun b hb T'=>?_,fun i o l hi hr hl=>?_⟩
 · by_cases e:j=n
   · subst e;have:=f.ext j m hm;rw[AS] at this;simp at this
   · rw[jP j e];exact f.ext j m hm
 · have:=f.size
   rw[show (w.alloc O).heap=w.heap.push O from rfl,Array.getElem?_push,if_neg (by omega)]
   exact f.zt b hb T'
 · by_cases e:i=n
   · subst e;rw[ib] at hl;simp at hl;subst hl;exact .inl f.size
   · rw[jP i e] at hl;exact f.own i o l hi hr hl
theorem filter_le {P:Nat→Bool} {l:List Nat} {K:Nat} (h:∀q e,l[q]? =some e→P e=true→q<K):(l.filter P).length≤K:=by
 have h1:(l.drop K).filter P=[]:=by
  rw[List.filter_eq_nil_iff]
  intro e he hP
  obtain ⟨q,hq⟩:=List.getElem?_of_mem he
  rw[List.getElem?_drop] at hq
  have:=h _ e hq hP
  omega
 calc (l.filter P).length=((l.take K++l.drop K).filter P).length:=by rw[List.take_append_drop]
  _=((l.take K).filter P).length:=by rw[List.filter_append,h1,List.append_nil]
  _≤(l.take K).length:=List.length_filter_le _ _
  _≤K:=by simp;omega
theorem tM {P:Nat→Bool}:∀{l:List Nat} {e:Nat} (_:l[(l.takeWhile P).length]? =some e),P e=false
 | [],e,h=>by simp at h
 | x::l,e,h=>by
   by_cases hx:P x=true
   · rw[List.takeWhile_cons_of_pos hx] at h
     exact tM (l:=l) (by simpa using h)
   · rw[List.takeWhile_cons_of_neg hx] at h
     simp at h;subst h;simpa using hx
end Go.Ab
end
section
namespace Go.Ab
variable {E:Env}
structure Ba (E:Env) (call:bx) (ops:Array Oper) (pl:lu) (s s':St) (tr:List Step) (hs st:List ar):Prop where
 qm:xL E ops pl
 trace:Mr E call ops s 0 pl.order tr hs st s'
 still:∀x∈tr,∀K hk,x.k≤K→K≤jL pl.bZ pl.an x.i→hs[K]? =some hk→jf E ops x hk=true
 ids:∀(x y:Step),x∈tr→y∈tr→∀(n:Nat) (o q:aH),x.kind= .qz n o→y.kind= .qz n q→x.i=y.i
structure Inv (E:Env) (ops:Array Oper) (pl:lu) (s:St) (tr:List Step) (hs st:List ar) (φ₀:Ph) (w₀:World) (tk:List Deferred) (d:List Nat) (b_:Array Bool) (K:Nat) (φ:Ph) (a:Act) (w:World):Prop where
 nd:d.Nodup
 lt:∀i∈d,i<ops.size
 b_:∀i,i<ops.size→b_[i]? =some (decide (i∈d))
 closed:∀i∈d,∀j,dP pl.an i j=true→j∈d
 bZ:∀q e,pl.bZ[q]? =some e→(e∈d↔q<K)
 Vg:K≤pl.bZ.length
 ts:LR φ (nJ ops (valOf tr) s.ts d) a.tmps.toList
 ds:a.defers=tk
 ok:∃hK,hs[K]? =some hK∧OK E φ hK w∧Fr φ₀ s.h w₀ φ hK w
 iE:∀x∈tr,∀n obj,x.kind= .qz n obj→x.i ∉ d→x.k≤K→φ n=none∧s.h.nx≤n∧∀hK,hs[K]? =some hK→n<hK.nx
section
variable {call:bx} {ops:Array Oper} {pl:lu} {s s':St} {tr:List Step} {hs st:List ar}
theorem Ba.at (r:Ba E call ops pl s s' tr hs st) {p:Nat} {x:Step} (hp:tr[p]? =some x):
 pl.order[p]? =some x.i∧x.i ∉ pl.order.take p∧(∀j,dP pl.an x.i j=true→j∈pl.order.take p)∧x.k=pc E ops (pl.order.take p)∧
 ∃o,ops[x.i]? =some o∧(fG E o.op=true→pl.bZ[x.k]? =some x.i)∧(fG E o.op=false→AQ pl.bZ pl.an x.i=x.k):=by
 have h1:pl.order[p]? =some x.i:=by rw[←r.trace.is,List.getElem?_map,hp];rfl
 obtain ⟨h2,_,_⟩:=iu r.qm.order
 obtain ⟨a1,a2,a3,a4,a5,a6⟩:=h2 p x.i h1
 obtain ⟨b1,b2,o,hk,sk,b3,_⟩:=r.trace.step p x hp
 have Rw:ops.getD x.i default=o:=by simp [Array.getD_eq_getD_getElem?,b3]
 rw[Rw] at a5 a6
 have Ch:x.k=pc E ops (pl.order.take p):=by omega
 refine ⟨h1,a3,fun j hj=>(a4 j hj).resolve_left (by simp),Ch,o,b3,fun he=>?_,fun he=>?_⟩
 · have:=a5 he;rw[Ch];simpa using this
 · have:=a6 he;omega
theorem si:∀{l:List Nat} (_:∀(p i:Nat),l[p]? =some i→i ∉ l.take p),l.Nodup
 | [],_=> .nil
 | x::l,h=>by
   refine List.nodup_cons.2 ⟨fun hm=>?_,si (fun p i hp hi=>h (p+1) i (by simpa using hp) (by simp [hi]))⟩
   obtain ⟨q,hq⟩:=List.getElem?_of_mem hm
   exact h (q+1) x (by simpa using hq) (by simp)
theorem Ba.nodup (r:Ba E call ops pl s s' tr hs st):pl.order.Nodup:=by
 obtain ⟨h2,_,_⟩:=iu r.qm.order
 exact si (fun p i hp=>(h2 p i hp).2.2.1)
theorem Ba.all (r:Ba E call ops pl s s' tr hs st) {i:Nat} (hi:i<ops.size):∃(p:Nat) (x:Step),tr[p]? =some x∧x.i=i:=by
 obtain ⟨_,h3,_⟩:=iu r.qm.order
 have:=(h3 i hi).resolve_left (by simp)
 rw[←r.trace.is] at this
 obtain ⟨x,hx,rfl⟩:=List.mem_map.1 this
 obtain ⟨p,hp⟩:=List.getElem?_of_mem hx
 exact ⟨p,x,hp,rfl⟩
theorem tN {ops:Array Oper} {pl:lu} (Vh:xL E ops pl) {x j j':Nat} (h:gX ops j=some x) (h':gX ops j'=some x):j=j':=by
 unfold gX at h h'
 cases ho:ops[j]? with
 | none=>rw[ho] at h;simp at h
 | some o=>
 cases Cz:ops[j']? with
 | none=>rw[Cz] at h';simp at h'
 | some o'=>
 rw[ho] at h;rw[Cz] at h'
 simp at h h'
 rcases Nat.decEq j j' with eC | he
 · exact absurd h (Vh.slot j j' o o' x eC ho Cz h').1
 · exact he
theorem Og (r:Ba E call ops pl s s' tr hs st) {p:Nat} {x:Step} {o:Oper} (hp:tr[p]? =some x) (ho:ops[x.i]? =some o) {d:List Nat} (hd:x.i ∉ d) (Pw:∀i∈d,∀j,dP pl.an i j=true→j∈d)
 (pz:∀j,dP pl.an x.i j=true→j∈d):z9 E x.ts (nJ ops (valOf tr) s.ts d) o.op∧cP ops (nJ ops (valOf tr) s.ts d) o=cP ops x.ts o:=by
 obtain ⟨h1,h2,h3,_,_⟩:=r.at hp
 have nI:(tr.map (·.i)).Nodup:=by rw[r.trace.is];exact r.nodup
 have Jo:x.ts=nJ ops (valOf tr) s.ts (pl.order.take p):=by
  rw[(r.trace.step p x hp).1,A' ops nI,r.trace.is]
 have Yo:∀j∈pl.order.take p,∀m,dP pl.an j m=true→m∈pl.order.take p:=by
  intro j hj m hm
  obtain ⟨q,hq⟩:=List.getElem?_of_mem hj
  have Xi:q<p:=by
   have:=(List.getElem?_eq_some_iff.1 hq).1
   simp at this;omega
  have Um:pl.order[q]? =some j:=by rw[List.getElem?_take] at hq;rw[if_pos Xi] at hq;exact hq
  obtain ⟨f1,_,_⟩:=iu r.qm.order
  have:=((f1 q j Um).2.2.2.1 m hm).resolve_left (by simp)
  exact List.mem_of_mem_take (i:=q) (l:=pl.order.take p) (by rw[List.take_take,Nat.min_eq_left (Nat.le_of_lt Xi)];exact this)
 have same:∀t,(∀j p',j≠x.i→ops[j]? =some p'→p'.dst=some t→dP pl.an x.i j=true∨dP pl.an j x.i=true)→(nJ ops (valOf tr) s.ts (pl.order.take p))[t]? =(nJ ops (valOf tr) s.ts d)[t]? :=by
  intro t ht
  refine sH s.ts (fun j j' a b=>tN r.qm a b) (fun j hj=>?_)
  by_cases Rx:j=x.i
  · subst Rx;exact ⟨fun h=>absurd h h2,fun h=>absurd h hd⟩
  · obtain ⟨p',Oh,Oi⟩:∃p',ops[j]? =some p'∧p'.dst=some t:=by
     unfold gX at hj
     cases Oj:ops[j]? with
     | none=>rw[Oj] at hj;simp at hj
     | some p'=>rw[Oj] at hj;exact ⟨p',rfl,by simpa using hj⟩
    rcases ht j p' Rx Oh Oi with h | h
    · exact ⟨fun _=>pz j h,fun _=>h3 j h⟩
    · exact ⟨fun hm=>absurd (Yo j hm _ h) h2,fun hm=>absurd (Pw j hm _ h) hd⟩
 rw[Jo]
 refine ⟨fun y hy=>?_,?_⟩
 · cases y with
   | tmp t=>
     have ht:t∈tmpsOf o:=by
      unfold tmpsOf;rw[List.mem_filterMap];exact ⟨.tmp t,by simpa using hy,rfl⟩
     simp only[ez]
     rw[vb (same t (fun j p' eC Oh Oi=>(r.qm.slot x.i j o p' t (Ne.symm eC) ho Oh Oi).2 ht))]
   | const c=>rfl
   | global g=>rfl
   | func f=>rfl
 · unfold cP
   cases hg:o.guard with
   | none=>rfl
   | some gw=>
     obtain ⟨g,want⟩:=gw
     simp only
     cases Yp:(ops[g]?).bind (·.dst) with
     | none=>rfl
     | some t=>
       simp only
       have Pu:=r.qm.guard x.i o g want ho hg
       rw[same t (fun j p' eC Oh Oi=>by
        have:j=g:=tN r.qm (x:=t) (by unfold gX;rw[Oh];simpa using Oi) Yp
        subst this;exact .inl Pu)]
end
end Go.Ab
end
section
namespace Go.Ab
variable {E:Env}
section
variable {call:bx} {ops:Array Oper} {pl:lu} {s s':St} {tr:List Step} {hs st:List ar}
theorem z_ {l:List Oper} {i:Nat}:i∈mi E l↔∃o,l[i]? =some o∧fG E o.op=true:=by
 unfold mi
 simp only[List.mem_map,List.mem_filter,Prod.exists]
 constructor
 · rintro ⟨o,j,⟨h1,h2⟩,rfl⟩
   exact ⟨o,by rw[List.mk_mem_zipIdx_iff_getElem?] at h1;exact h1,h2⟩
 · rintro ⟨o,h1,h2⟩
   exact ⟨o,i,⟨by rw[List.mk_mem_zipIdx_iff_getElem?];exact h1,h2⟩,rfl⟩
theorem xL.Mt (Vh:xL E ops pl) {i:Nat} {o:Oper} (ho:ops[i]? =some o):i∈pl.bZ↔fG E o.op=true:=by
 rw[Vh.bZ,z_]
 constructor
 · rintro ⟨o',h1,h2⟩
   have:ops.toList[i]? =some o:=by simpa using ho
   rw[this] at h1;simp at h1;subst h1;exact h2
 · intro h;exact ⟨o,by simpa using ho,h⟩
theorem Inv.xN {φ₀ φ:Ph} {w₀ w:World} {tk:List Deferred} {d:List Nat} {b_:Array Bool} {K:Nat} {a:Act} (r:Ba E call ops pl s s' tr hs st) (inv:Inv E ops pl s tr hs st φ₀ w₀ tk d b_ K φ a w)
 {x:Step} (hx:pl.bZ[x.k]? =some x.i) (hd:x.i ∉ d) (pz:∀j,dP pl.an x.i j=true→j∈d):x.k=K:=by
 have h1:¬x.k<K:=fun h=>hd ((inv.bZ x.k x.i hx).2 h)
 rcases Nat.lt_or_ge K x.k with h | h
 · exfalso
   obtain ⟨q,hq⟩:∃q,x.k=q+1:=⟨x.k - 1,by omega⟩
   have lf:q<pl.bZ.length:=by have:=(List.getElem?_eq_some_iff.1 hx).1;omega
   have Um:pl.bZ[q]? =some pl.bZ[q]:=by simp [lf]
   have:=r.qm.chain q _ x.i Um (by rw[←hq];exact hx)
   have:=(inv.bZ q _ Um).1 (pz _ this)
   omega
 · omega
theorem Inv.Jp {φ₀ φ:Ph} {w₀ w:World} {tk:List Deferred} {d:List Nat} {b_:Array Bool} {K:Nat} {a:Act} (inv:Inv E ops pl s tr hs st φ₀ w₀ tk d b_ K φ a w)
 {i:Nat} (hd:i ∉ d) (pz:∀j,dP pl.an i j=true→j∈d):AQ pl.bZ pl.an i≤K∧K≤jL pl.bZ pl.an i:=by
 refine ⟨filter_le (fun q e hq he=>(inv.bZ q e hq).1 (pz e he)),?_⟩
 rcases Nat.lt_or_ge (jL pl.bZ pl.an i) K with h | h
 · exfalso
   have lf:jL pl.bZ pl.an i<pl.bZ.length:=by have:=inv.Vg;omega
   have hq:pl.bZ[jL pl.bZ pl.an i]? =some pl.bZ[jL pl.bZ pl.an i]:=by simp [lf]
   have h1:=tM (P:=fun e=> !dP pl.an e i) hq
   simp only[Bool.not_eq_false'] at h1
   exact hd (inv.closed _ ((inv.bZ _ _ hq).2 h) i h1)
 · exact h
theorem HJ (ops:Array Oper) (val:Nat→AV) (ts:List AV) (d:List Nat) (i:Nat):nJ ops val ts (d++[i])=dV (nJ ops val ts d) (gX ops i) (val i):=by
 simp [nJ]
theorem Inv.snoc {φ₀ φ φ':Ph} {w₀ w w':World} {tk:List Deferred} {d:List Nat} {b_:Array Bool} {K K':Nat} {a:Act} (r:Ba E call ops pl s s' tr hs st) (inv:Inv E ops pl s tr hs st φ₀ w₀ tk d b_ K φ a w)
 {p:Nat} {x:Step} {o:Oper} (hp:tr[p]? =some x) (ho:ops[x.i]? =some o) (hd:x.i ∉ d) (pz:∀j,dP pl.an x.i j=true→j∈d) (hle:φ.le φ') {v':Value} (hv:VR φ' x.v v')
 (hK:(fG E o.op=false∧K'=K)∨(fG E o.op=true∧x.k=K∧pl.bZ[x.k]? =some x.i∧K'=K+1))
 (mV:∃hK,hs[K']? =some hK∧OK E φ' hK w'∧Fr φ₀ s.h w₀ φ' hK w')
 (Sb:∀y∈tr,∀n obj,y.kind= .qz n obj→y.i ∉ d→y.i≠x.i→y.k≤K'→φ' n=none∧s.h.nx≤n∧∀hK,hs[K']? =some hK→n<hK.nx):
 Inv E ops pl s tr hs st φ₀ w₀ tk (d++[x.i]) (b_.setIfInBounds x.i true) K' φ' (a.put o.dst v') w':=by
 have nI:(tr.map (·.i)).Nodup:=by rw[r.trace.is];exact r.nodup
 have lf:x.i<ops.size:=(Array.getElem?_eq_some_iff.1 ho).1
 refine ⟨?_,fun i hi=>?_,fun i hi=>?_,fun i hi j hj=>?_,fun q e hq=>?_,?_,?_,by rw[put_defers];exact inv.ds,mV,fun y hy n obj xD Vi Vj=>?_⟩
 · rw[List.nodup_append];exact ⟨inv.nd,by simp,fun a ha b hb=>by simp at hb;subst hb;exact fun e=>hd (e▸ha)⟩
 · simp at hi;rcases hi with h | rfl
   · exact inv.lt i h
   · exact lf
 · have h1:=inv.b_ i hi
   by_cases e:x.i=i
   · subst e
     have I7:x.i<b_.size:=(Array.getElem?_eq_some_iff.1 h1).1
     rw[Array.getElem?_setIfInBounds];simp [I7]
   · rw[Array.getElem?_setIfInBounds_ne e,h1]
     simp [show i≠x.i from fun h=>e h.symm]
 · simp at hi;rcases hi with h | rfl
   · exact List.mem_append_left _ (inv.closed i h j hj)
   · exact List.mem_append_left _ (pz j hj)
 · rcases hK with ⟨he,rfl⟩ | ⟨he,A_,Un,rfl⟩
   · have eC:e≠x.i:=fun h=>by
      subst h
      have:=(r.qm.Mt ho).1 (List.mem_of_getElem? hq)
      rw[he] at this;simp at this
     simp [eC,inv.bZ q e hq]
   · have Yq:e=x.i↔q=K:=by
      constructor
      · intro h;subst h
        have:=(List.getElem?_inj (List.getElem?_eq_some_iff.1 hq).1 r.qm.nd).1 (hq.trans Un.symm)
        omega
      · intro h;subst h;rw[←A_,Un] at hq;simpa using hq.symm
     simp only[List.mem_append,List.mem_singleton,inv.bZ q e hq,Yq]
     omega
 · rcases hK with ⟨he,rfl⟩ | ⟨he,A_,Un,rfl⟩
   · exact inv.Vg
   · have:=(List.getElem?_eq_some_iff.1 Un).1;omega
 · rw[HJ,Cy nI hp]
   have:gX ops x.i=o.dst:=by simp [gX,ho]
   rw[this]
   exact Ji (inv.ts.mono hle) o.dst hv
 · simp only[List.mem_append,List.mem_singleton,not_or] at Vi
   exact Sb y hy n obj xD Vi.1 Vi.2 Vj
theorem HK (hE:jX E) {call:bx} (dB:ie E call) {ts:List AV} {h h':ar} {rc:RC} {o:Oper} {v:AV} (qJ:dv E call ts h rc o= .val v h') {i:Nat} {rest:List Nat} (ho:ops[i]? =some o)
 {φ:Ph} {a:Act} {w:World} {b:Frame} {k:List Item} {K:Bool→List Frame} (Jo:LR φ ts a.tmps.toList) (ok:OK E φ h w) (gF:mn φ b K rc) (hw:Region.wanted o (yielded ops a.tmps)=true):
 ∃φ' w' v',VR φ' v v'∧OK E φ' h' w'∧Fr φ h w φ' h' w'∧Steps E.P (lone (b.atR a (.inRegion ops (i::rest)::k)) (cur K rc) w) (lone (b.atR (a.put o.dst v') (.inRegion ops rest::k)) (cur K rc) w'):=by
 have uV:=sF hE dB (rc:=rc) (o:=o) Jo ok
 have nI:rc.mY=false∨∀c,o.op≠ .defer c:=by
  by_cases hd:∃c,o.op= .defer c
  · obtain ⟨c,hd⟩:=hd
    unfold dv at qJ
    simp only[hd] at qJ
    split at qJ<;>simp at qJ
  · exact .inr (fun c e=>hd ⟨c,e⟩)
 have kn:=px gF nI a.eval
 rw[qJ] at uV
 cases uV with
 | val v h' φ' w' v' hv qq fr run=>exact ⟨φ',w',v',hv,qq,fr,.one (lU kn ho hw run)⟩
 | skip h' φ' w' qq fr run=>exact ⟨φ',w',undef,.undef φ',qq,fr,.one (Cs kn ho hw run)⟩
 | enter v h' F args all hr hf hl run=>
   obtain ⟨n,start,hp,jd⟩:=hr φ w all ok hf hl
   obtain ⟨φ',w',v',hv,qq,fr,iU⟩:=jd (b.atR a (.inRegion ops (i::rest)::k)) (cur K rc)
   rw[rH ho] at iU
   exact ⟨φ',w',v',hv,qq,fr,.head (tE kn ho hw hp (run n start hp)) iU⟩
 | Jl eC zm run=>
   have AS:∀fr:Frame,fr.kind=b.kind→tryRecover fr (cur K rc)=none:=by
    cases A5:rc with
    | no=>rw[A5] at gF;exact gF.2
    | iE v=>exact absurd A5 (eC v)
    | done=>rw[A5] at gF;exact gF.2
    | Ca l=>rw[A5] at zm;simp [RC.mY] at zm
   exact ⟨φ,w,.nilIface,.nilIface,ok,Fr.refl _ _ _,.one (sh (gF.plain zm) kn ho hw run (AS _ rfl))⟩
theorem Inv.F_ (hE:jX E) {Aa:bx} (dB:ie E Aa) {φ₀ φ:Ph} {w₀ w:World} {tk:List Deferred} {d:List Nat} {b_:Array Bool} {K:Nat} {a:Act} (r:Ba E call ops pl s s' tr hs st) (inv:Inv E ops pl s tr hs st φ₀ w₀ tk d b_ K φ a w)
 {b:Frame} {k:List Item} {Ks:Bool→List Frame} (gF:mn φ₀ b Ks s.rc) {i:Nat} (hi:i<ops.size) (hd:i ∉ d) (pz:∀j,dP pl.an i j=true→j∈d)
 (Ac:∀(x:Step) (o:Oper) (hk h':ar),x∈tr→x.i=i→ops[x.i]? =some o→hs[x.k]? =some hk→x.kind= .rZ h'→dv E Aa x.ts hk s.rc o= .val x.v h') (rest:List Nat):
 ∃K' φ' a' w',Inv E ops pl s tr hs st φ₀ w₀ tk (d++[i]) (b_.setIfInBounds i true) K' φ' a' w'∧
  Steps E.P (lone (b.atR a (.inRegion ops (i::rest)::k)) (cur Ks s.rc) w) (lone (b.atR a' (.inRegion ops rest::k)) (cur Ks s.rc) w'):=by
 obtain ⟨p,x,hp,rfl⟩:=r.all hi
 have Pl:x∈tr:=List.mem_of_getElem? hp
 obtain ⟨h1,h2,h3,hk,o,ho,qJ,Ol⟩:=r.at hp
 obtain ⟨_,_,o',Uk,Xk,Cz,vV,Sa,jd⟩:=r.trace.step p x hp
 rw[ho] at Cz;simp at Cz;subst Cz
 rw[←hk] at vV Sa jd
 obtain ⟨Vk,Jq⟩:=Og r hp ho hd inv.closed pz
 obtain ⟨hK,Om,ok,fr⟩:=inv.ok
 have LV:Region.wanted o (yielded ops a.tmps)=cP ops x.ts o:=by rw[sE inv.ts o,Jq]
 have Mu:z9 E (nJ ops (valOf tr) s.ts d) x.ts o.op:=fun y hy=>(Vk y hy).symm
 have same:∀y∈tr,∀n obj,y.kind= .qz n obj→y.i ∉ d→y.i≠x.i→y.k≤K→φ n=none∧s.h.nx≤n∧∀hK,hs[K]? =some hK→n<hK.nx:=
  fun y hy n obj a1 a2 _ a3=>inv.iE y hy n obj a1 a2 a3
 have wrote:∀(φ':Ph) (h':ar) (w':World),x.k=K→st[K+1]? =some h'→OK E φ' h' w'→Fr φ hK w φ' h' w'→
  ∃F',hs[K+1]? =some F'∧OK E φ' F' w'∧Fr φ₀ s.h w₀ φ' F' w'∧
  ∀y∈tr,∀n obj,y.kind= .qz n obj→y.i ∉ d→y.i≠x.i→y.k≤K+1→φ' n=none∧s.h.nx≤n∧∀hK,hs[K+1]? =some hK→n<hK.nx:=by
  intro φ' h' w' A_ Px qq Em
  have lf:K+1<hs.length:=by rw[←r.trace.Pv];exact (List.getElem?_eq_some_iff.1 Px).1
  have Vl:hs[K+1]? =some hs[K+1]:=by simp [lf]
  have g:=r.trace.grown (K+1) h' _ Px Vl
  obtain ⟨xO,Py⟩:=qq.grown g
  have LW:=(fr.trans Em).trans Py
  refine ⟨_,Vl,xO,LW,fun y hy n obj a1 a2 a3 a4=>?_⟩
  have Rp:∀F',hs[K+1]? =some F'→F'=hs[K+1]:=fun F' e=>by rw[Vl] at e;simpa using e.symm
  rcases Nat.lt_or_ge K y.k with h | h
  ·
   have Vj:y.k=K+1:=by omega
   obtain ⟨q,hq⟩:=List.getElem?_of_mem hy
   obtain ⟨_,_,_,Vm,oy,Yr,_,_⟩:=r.at hq
   obtain ⟨_,_,Ys,Vn,Vo,Vp,zA,zB,EO⟩:=r.trace.step q y hq
   rw[←Vm,Vj] at zA zB
   rw[Px] at zB;simp at zB;subst zB
   unfold tK at EO
   rw[a1] at EO
   obtain ⟨_,_,_,Ui,Ry⟩:=EO
   refine ⟨?_,?_,fun F' e=>?_⟩
   · cases hφ:φ' n with
     | none=>rfl
     | some l=>have:=qq.wB n l hφ;omega
   · have:=(fr.trans Em).nx;omega
   · rw[e] at zA;simp at zA;subst zA;exact Ry
  · obtain ⟨b1,b2,b3⟩:=inv.iE y hy n obj a1 a2 h
    have hn:=b3 hK Om
    refine ⟨by rw[Em.old n hn];exact b1,b2,fun F' e=>?_⟩
    have:=Em.nx;have:=g.nx
    rw[Rp _ e];omega
 have still:fG E o.op=false→jf E ops x hK=true:=fun he=>by
  obtain ⟨w1,w2⟩:=inv.Jp hd pz
  exact r.still x Pl K hK (by rw[←Ol he];exact w1) w2 Om
 have Rw:ops.getD x.i default=o:=by simp [Array.getD_eq_getD_getElem?,ho]
 have skip:cP ops x.ts o=false→step E.P (lone (b.atR a (.inRegion ops (x.i::rest)::k)) (cur Ks s.rc) w)= .next (lone (b.atR (a.put o.dst undef) (.inRegion ops rest::k)) (cur Ks s.rc) w):=fun hw=>by
  have:=stepR_op_skip (P:=E.P) (b:=b) (a:=a) (k:=k) (cs:=cur Ks s.rc) (w:=w) (ops:=ops) (i:=x.i) (rest:=rest) (by rw[ho];simp;rw[LV];exact hw)
  rw[this,ho];rfl
 unfold tK at jd
 split at jd
 ·
  obtain ⟨hw,hv,hn⟩:=jd
  have Uo:VR φ x.v undef:=by rw[hv];exact .undef φ
  by_cases he:fG E o.op=true
  · have A_:=inv.xN r (qJ he) hd pz
    have wF:=hn he
    rw[A_] at wF vV
    rw[Om] at vV;simp at vV;subst vV
    obtain ⟨F',q1,q2,q3,q4⟩:=wrote φ hK w A_ wF ok (Fr.refl _ _ _)
    exact ⟨K+1,φ,_,w,inv.snoc r hp ho hd pz (Ph.le_refl φ) Uo (.inr ⟨he,A_,qJ he,rfl⟩) ⟨F',q1,q2,q3⟩ q4,.one (skip hw)⟩
  · have El:fG E o.op=false:=by simpa using he
    exact ⟨K,φ,_,w,inv.snoc r hp ho hd pz (Ph.le_refl φ) Uo (.inl ⟨El,rfl⟩) inv.ok same,.one (skip hw)⟩
 ·
  obtain ⟨he,hw,Up⟩:=jd
  rw[←Cv Mu] at Up
  have nI:∀c,o.op≠ .defer c:=fun c e=>by rw[e] at Up;simp [bH] at Up
  obtain ⟨v',hv,hr⟩:=vQ hE.ext ok.gl inv.ts Up
  exact ⟨K,φ,_,w,inv.snoc r hp ho hd pz (Ph.le_refl φ) hv (.inl ⟨he,rfl⟩) inv.ok same,.one (lU (px gF (.inr nI) _) ho (LV.trans hw) (hr w))⟩
 ·
  rename_i tL
  obtain ⟨he,hw⟩:=jd
  have qp:=still he
  unfold jf at qp
  rw[tL] at qp
  simp only[Rw] at qp
  cases Rz:ef E x.ts hK o.op with
  | none=>rw[Rz] at qp;simp at qp
  | some v1=>
    rw[Rz] at qp
    have Ud:=AV.tI _ _ _ qp
    subst Ud
    rw[←Cw Mu] at Rz
    have nI:∀c,o.op≠ .defer c:=fun c e=>by rw[e] at Rz;simp [ef] at Rz
    obtain ⟨v',hv,hr⟩:=vT ok.gl ok inv.ts Rz
    exact ⟨K,φ,_,w,inv.snoc r hp ho hd pz (Ph.le_refl φ) hv (.inl ⟨he,rfl⟩) inv.ok same,.one (lU (px gF (.inr nI) _) ho (LV.trans hw) (hr w rfl))⟩
 ·
  rename_i n obj tL
  obtain ⟨he,hw,⟨mk,Uq,Yt⟩,_,_⟩:=jd
  have qp:=still he
  unfold jf at qp
  rw[tL] at qp
  simp only at qp
  cases Vq:hK.get n with
  | none=>rw[Vq] at qp;simp at qp
  | some o1=>
    rw[Vq] at qp
    have Yu:=aH.tI qp
    subst Yu
    obtain ⟨w1,_⟩:=inv.Jp hd pz
    obtain ⟨AS,Vr,Vs⟩:=inv.iE x Pl n o1 tL hd (by rw[←Ol he];exact w1)
    rw[←A6 Mu] at Uq
    have nI:∀c,o.op≠ .defer c:=fun c e=>by rw[e] at Uq;simp [eu] at Uq
    obtain ⟨O,mk',Cu,hr⟩:=tA ok.gl inv.ts Uq
    have hle:φ.le (φ.add n ⟨w.heap.size,0,0⟩):=fun j m hm=>by
     unfold Ph.add;split
     · rename_i e;subst e;rw[AS] at hm;simp at hm
     · exact hm
    obtain ⟨xO,_⟩:=ok.place Vq AS (Vs hK Om) (Cu.obj _ w.heap.size hle)
    have hv:=Cu.val (φ.add n ⟨w.heap.size,0,0⟩) n w.heap.size hle (by simp [Ph.add])
    rw[←Yt] at hv
    refine ⟨K,_,_,_,inv.snoc r hp ho hd pz hle hv (.inl ⟨he,rfl⟩) ⟨hK,Om,xO,fr.place Vr AS O⟩ (fun y hy m q a1 a2 a3 a4=>?_),.one (lU (px gF (.inr nI) _) ho (LV.trans hw) (hr w))⟩
    obtain ⟨b1,b2,b3⟩:=inv.iE y hy m q a1 a2 a4
    refine ⟨?_,b2,b3⟩
    have eC:m≠n:=fun e=>by subst e;exact a3 (r.ids y x hy Pl m q o1 a1 tL)
    simp [Ph.add,eC,b1]
 ·
  rename_i h' tL
  obtain ⟨he,hw,_,wF⟩:=jd
  have Jr:=Ac x o _ h' Pl rfl ho vV tL
  have A_:=inv.xN r (qJ he) hd pz
  rw[A_] at wF vV
  rw[Om] at vV;simp at vV;subst vV
  rw[←xJ Mu] at Jr
  obtain ⟨φ',w',v',hv,qq,Em,iU⟩:=HK hE dB Jr ho (rest:=rest) (k:=k) inv.ts ok (gF.mono fr.ext) (LV.trans hw)
  obtain ⟨F',q1,q2,q3,q4⟩:=wrote φ' h' w' A_ wF qq Em
  exact ⟨K+1,φ',_,w',inv.snoc r hp ho hd pz Em.ext hv (.inr ⟨he,A_,qJ he,rfl⟩) ⟨F',q1,q2,q3⟩ q4,iU⟩
end
end Go.Ab
end
section
namespace Go.Ab
variable {E:Env}
section
variable {call:bx} {ops:Array Oper} {pl:lu} {s s':St} {tr:List Step} {hs st:List ar}
structure Bb (E:Env) (φ₀:Ph) (h₀:ar) (w₀:World) (tk:List Deferred) (b:Frame) (k:List Item) (cs:List Frame) (s':St) (m:Machine):Prop where
 is:∃φ' a' w',LR φ' s'.ts a'.tmps.toList∧a'.defers=tk∧OK E φ' s'.h w'∧Fr φ₀ h₀ w₀ φ' s'.h w'∧Steps E.P m (lone (b.atR a' k) cs w')
theorem CA (r:Ba E call ops pl s s' tr hs st) {φ₀ φ:Ph} {w₀ w:World} {tk:List Deferred} {d:List Nat} {b_:Array Bool} {K:Nat} {a:Act} (inv:Inv E ops pl s tr hs st φ₀ w₀ tk d b_ K φ a w)
 (CB:∀i,i<ops.size→i∈d) (b:Frame) (k:List Item) (cs:List Frame):Bb E φ₀ s.h w₀ tk b k cs s' (lone (b.atR a (.inRegion ops []::k)) cs w):=by
 have nI:(tr.map (·.i)).Nodup:=by rw[r.trace.is];exact r.nodup
 obtain ⟨f1,f2,f3⟩:=iu r.qm.order
 have hK:K=pl.bZ.length:=by
  have:=inv.Vg
  rcases Nat.lt_or_ge K pl.bZ.length with h | h
  · exfalso
    have hq:pl.bZ[K]? =some pl.bZ[K]:=by simp [h]
    have hm:pl.bZ[K]∈pl.bZ:=List.getElem_mem h
    generalize hx:pl.bZ[K]=ee at hm hq
    rw[r.qm.bZ,z_] at hm
    obtain ⟨o,ho,_⟩:=hm
    have lf:ee<ops.size:=by have:=(List.getElem?_eq_some_iff.1 ho).1;simpa using this
    have:=(inv.bZ K _ hq).1 (CB _ lf)
    omega
  · omega
 obtain ⟨F',q1,q2,q3⟩:=inv.ok
 have xP:=r.trace.last
 have Vt:pc E ops pl.order=K:=by omega
 rw[Vt,q1] at xP
 simp at xP;subst xP
 have Jo:s'.ts=nJ ops (valOf tr) s.ts d:=by
  rw[r.trace.ts]
  have h1:=A' ops nI s.ts tr.length
  rw[List.take_length,r.trace.is,List.take_of_length_le (by rw[←r.trace.is];simp)] at h1
  rw[h1]
  refine List.ext_getElem? (fun x=>?_)
  refine sH s.ts (fun j j' e e'=>tN r.qm e e') (fun j hj=>?_)
  have IS:j<ops.size:=by
   unfold gX at hj
   cases ho:ops[j]? with
   | none=>rw[ho] at hj;simp at hj
   | some o=>exact (Array.getElem?_eq_some_iff.1 ho).1
  exact ⟨fun _=>CB j IS,fun _=>(f2 j IS).resolve_left (by simp)⟩
 exact ⟨φ,a,w,by rw[Jo];exact inv.ts,inv.ds,q2,q3,.one stepR_region_end⟩
theorem xQ {φ₀ φ:Ph} {w₀ w:World} {tk:List Deferred} {d:List Nat} {b_:Array Bool} {K:Nat} {a:Act} (r:Ba E call ops pl s s' tr hs st) (inv:Inv E ops pl s tr hs st φ₀ w₀ tk d b_ K φ a w)
 {i:Nat} (h:i∈Region.ready .any ops b_):i<ops.size∧i ∉ d∧∀j,dP pl.an i j=true→j∈d:=by
 obtain ⟨h1,o,ho,h2⟩:=mem_ready.1 h
 have hi:i<ops.size:=(Array.getElem?_eq_some_iff.1 ho).1
 have hl:=inv.b_ i hi
 refine ⟨hi,fun hd=>?_,fun j hj=>?_⟩
 · simp [hl,hd,Array.getD_eq_getD_getElem?] at h1
 · obtain ⟨e,he,Vu⟩:=r.qm.closed i o j ho hj
   have Xm:e∈d:=by
    unfold j9 at he
    simp only[List.mem_map,List.mem_filter] at he
    obtain ⟨ed,⟨hm,hb⟩,rfl⟩:=he
    have h3:=h2 ed (by simpa using hm) hb
    have Vv:ed.on<ops.size:=by
     have:=(r.qm.direct i o ed.on ho (by unfold j9;simp only[List.mem_map,List.mem_filter];exact ⟨ed,⟨hm,hb⟩,rfl⟩)).1
     omega
    simpa [inv.b_ _ Vv,Array.getD_eq_getD_getElem?] using h3
   rcases Vu with rfl | Vu
   · exact Xm
   · exact inv.closed e Xm j Vu
theorem vc {φ₀ φ:Ph} {w₀ w:World} {tk:List Deferred} {d:List Nat} {b_:Array Bool} {K:Nat} {a:Act} (r:Ba E call ops pl s s' tr hs st) (inv:Inv E ops pl s tr hs st φ₀ w₀ tk d b_ K φ a w)
 (h:Region.ready .any ops b_=[]):∀(n i:Nat),i<n→i<ops.size→i∈d
 | 0,i,hn,_=>by omega
 | n+1,i,hn,hi=>by
   have ih:=vc r inv h n
   by_cases hd:i∈d
   · exact hd
   · exfalso
     have ho:ops[i]? =some ops[i]:=by simp [hi]
     have:i∈Region.ready .any ops b_:=by
      refine mem_ready.2 ⟨by simp [inv.b_ i hi,hd,Array.getD_eq_getD_getElem?],ops[i],ho,fun e he hb=>?_⟩
      have hm:e.on∈j9 ops[i]:=by
       unfold j9;simp only[List.mem_map,List.mem_filter];exact ⟨e,⟨by simpa using he,hb⟩,rfl⟩
      have lf:=(r.qm.direct i _ e.on ho hm).1
      have:=ih e.on (by omega) (by omega)
      simp [inv.b_ e.on (by omega),this,Array.getD_eq_getD_getElem?]
     rw[h] at this;simp at this
theorem Ba.real (r:Ba E call ops pl s s' tr hs st) (x:Step) (o:Oper) (hk h':ar) (hx:x∈tr) (ho:ops[x.i]? =some o) (hh:hs[x.k]? =some hk) (xD:x.kind= .rZ h'):dv E call x.ts hk s.rc o= .val x.v h':=by
 obtain ⟨p,hp⟩:=List.getElem?_of_mem hx
 obtain ⟨_,_,_,Sc,_⟩:=r.at hp
 obtain ⟨_,_,o',Uk,Xk,Cz,vV,Sa,jd⟩:=r.trace.step p x hp
 rw[ho] at Cz;simp at Cz;subst Cz
 rw[←Sc,hh] at vV;simp at vV;subst vV
 unfold tK at jd;rw[xD] at jd;exact jd.2.2.1
theorem CD (hE:jX E) (dB:ie E call) (r:Ba E call ops pl s s' tr hs st) {φ₀:Ph} {w₀:World} {tk:List Deferred} {b:Frame} {k:List Item} {Ks:Bool→List Frame} (gF:mn φ₀ b Ks s.rc):
 ∀(fuel t:Nat) {φ:Ph} {w:World} {d:List Nat} {b_:Array Bool} {K:Nat} {a:Act} (_:Inv E ops pl s tr hs st φ₀ w₀ tk d b_ K φ a w) (_:ops.size≤d.length+fuel),
  Bb E φ₀ s.h w₀ tk b k (cur Ks s.rc) s' (lone (b.atR a (.inRegion ops (Region.linearise.go .any ops fuel t b_ [])::k)) (cur Ks s.rc) w)
 | 0,t,φ,w,d,b_,K,a,inv,hf=>by
   simp only[Region.linearise.go,List.reverse_nil]
   refine CA r inv (fun i hi=>?_) b k _
   by_cases hd:i∈d
   · exact hd
   · have:=xK ops.size (i::d) (List.nodup_cons.2 ⟨hd,inv.nd⟩) (fun x hx=>by
      simp at hx;rcases hx with rfl | hx
      · exact hi
      · exact inv.lt x hx)
     simp at this;omega
 | fuel+1,t,φ,w,d,b_,K,a,inv,hf=>by
   simp only[Region.linearise.go]
   change Bb E φ₀ s.h w₀ tk b k (cur Ks s.rc) s' (lone (b.atR a (.inRegion ops (match (Region.ready .any ops b_)[t%(Region.ready .any ops b_).length]? with
    | some i=>Region.linearise.go .any ops fuel (t/(Region.ready .any ops b_).length) (b_.setIfInBounds i true) [i]
    | none=> [].reverse)::k)) (cur Ks s.rc) w)
   cases hi:(Region.ready .any ops b_)[t%(Region.ready .any ops b_).length]? with
   | none=>
     have AY:Region.ready .any ops b_=[]:=by
      cases hr:Region.ready .any ops b_ with
      | nil=>rfl
      | cons x xs=>
        rw[hr] at hi
        have lf:t%(x::xs).length<(x::xs).length:=Nat.mod_lt _ (by simp)
        simp at hi
        simp at lf
        omega
     exact CA r inv (fun i hi=>vc r inv AY _ i (Nat.lt_succ_self i) hi) b k _
   | some i=>
     simp only[]
     rw[linearise_go_acc,List.reverse_singleton,List.singleton_append]
     obtain ⟨h1,h2,h3⟩:=xQ r inv (List.mem_of_getElem? hi)
     obtain ⟨K',φ',a',w',Pz,jd⟩:=inv.F_ hE dB r gF (b:=b) (k:=k) h1 h2 h3 (fun x o hk h' hx _=>r.real x o hk h' hx) (Region.linearise.go .any ops fuel (t/(Region.ready .any ops b_).length) (b_.setIfInBounds i true) [])
     obtain ⟨φ2,a2,w2,x1,x2,x3,x4,x5⟩:=(CD hE dB r gF fuel (t/(Region.ready .any ops b_).length) Pz (by simp;omega)).is
     exact ⟨φ2,a2,w2,x1,x2,x3,x4,Steps.trans jd x5⟩
structure Bc (E:Env) (φ₀:Ph) (h₀:ar) (w₀:World) (tk:List Deferred) (b:Frame) (cs:List Frame) (v:AV) (s':St) (m:Machine):Prop where
 is:∃φ' a' w' v' todo,VR φ' v v'∧LR φ' s'.ts a'.tmps.toList∧a'.defers=tk∧OK E φ' s'.h w'∧Fr φ₀ h₀ w₀ φ' s'.h w'∧Steps E.P m (lone {b.atR a' todo with mode:= .panicking [{v:=v',recovered:=false}]} cs w')
theorem HL (hE:jX E) {call:bx} (dB:ie E call) {ts:List AV} {h h':ar} {rc:RC} {o:Oper} {c:Call} (Ur:o.op= .call c) {v:AV} (qJ:dv E call ts h rc o= .panic v h') {i:Nat} {rest:List Nat} (ho:ops[i]? =some o)
 {φ:Ph} {a:Act} {w:World} {b:Frame} {k:List Item} {K:Bool→List Frame} (Jo:LR φ ts a.tmps.toList) (ok:OK E φ h w) (gF:mn φ b K rc) (hw:Region.wanted o (yielded ops a.tmps)=true):
 ∃φ' w' v' todo,VR φ' v v'∧OK E φ' h' w'∧Fr φ h w φ' h' w'∧Steps E.P (lone (b.atR a (.inRegion ops (i::rest)::k)) (cur K rc) w) (lone {b.atR a todo with mode:= .panicking [{v:=v',recovered:=false}]} (cur K rc) w'):=by
 have uV:=sF hE dB (rc:=rc) (o:=o) Jo ok
 have nI:rc.mY=false∨∀c,o.op≠ .defer c:= .inr (fun c e=>by rw[Ur] at e;simp at e)
 have kn:=px gF nI a.eval
 rw[qJ] at uV
 cases uV with
 | Mq v h' F args all hr hf hl run=>
   obtain ⟨n,start,hp,jd⟩:=hr φ w all ok hf hl
   obtain ⟨φ',w',v',hv,qq,fr,iU⟩:=jd (b.atR a (.inRegion ops (i::rest)::k)) (cur K rc)
   rw[Frame.raise_atR] at iU
   exact ⟨φ',w',v',.inRegion ops (i::rest)::k,hv,qq,fr,.head (tE kn ho hw hp (run n start hp)) iU⟩
 | panic v v' hv run=>exact ⟨φ,w,v',_,hv,ok,Fr.refl _ _ _,.one (Jj kn ho hw run)⟩
theorem Ad (hE:jX E) {Aa:bx} (dB:ie E Aa) (r:Ba E call ops pl s s' tr hs st) {xl:Step} (Xn:xl∈tr) {ol:Oper} (LS:ops[xl.i]? =some ol) {c:Call} (Ur:ol.op= .call c)
 (CB:∀j,j<ops.size→j≠xl.i→dP pl.an xl.i j=true) (On:fG E ol.op=true) (Xo:cP ops xl.ts ol=true) {hk:ar} (vV:hs[xl.k]? =some hk) {v:AV} {h':ar} (Js:dv E Aa xl.ts hk s.rc ol= .panic v h')
 (Ac:∀(x:Step) (o:Oper) (hk h':ar),x∈tr→x.i≠xl.i→ops[x.i]? =some o→hs[x.k]? =some hk→x.kind= .rZ h'→dv E Aa x.ts hk s.rc o= .val x.v h')
 {s2:St} (h2:s2.h=h') (Sd:s2.ts=xl.ts) {φ₀:Ph} {w₀:World} {tk:List Deferred} {b:Frame} {k:List Item} {Ks:Bool→List Frame} (gF:mn φ₀ b Ks s.rc):
 ∀(fuel t:Nat) {φ:Ph} {w:World} {d:List Nat} {b_:Array Bool} {K:Nat} {a:Act} (_:Inv E ops pl s tr hs st φ₀ w₀ tk d b_ K φ a w) (_:ops.size≤d.length+fuel) (_:xl.i ∉ d),
  Bc E φ₀ s.h w₀ tk b (cur Ks s.rc) v s2 (lone (b.atR a (.inRegion ops (Region.linearise.go .any ops fuel t b_ [])::k)) (cur Ks s.rc) w)
 | 0,t,φ,w,d,b_,K,a,inv,hf,nI=>by
   exfalso
   have hi:xl.i<ops.size:=(Array.getElem?_eq_some_iff.1 LS).1
   have:=xK ops.size (xl.i::d) (List.nodup_cons.2 ⟨nI,inv.nd⟩) (fun x hx=>by
    simp at hx;rcases hx with rfl | hx
    · exact hi
    · exact inv.lt x hx)
   simp at this;omega
 | fuel+1,t,φ,w,d,b_,K,a,inv,hf,nI=>by
   have Ue:xl.i<ops.size:=(Array.getElem?_eq_some_iff.1 LS).1
   simp only[Region.linearise.go]
   change Bc E φ₀ s.h w₀ tk b (cur Ks s.rc) v s2 (lone (b.atR a (.inRegion ops (match (Region.ready .any ops b_)[t%(Region.ready .any ops b_).length]? with
    | some i=>Region.linearise.go .any ops fuel (t/(Region.ready .any ops b_).length) (b_.setIfInBounds i true) [i]
    | none=> [].reverse)::k)) (cur Ks s.rc) w)
   cases hi:(Region.ready .any ops b_)[t%(Region.ready .any ops b_).length]? with
   | none=>
     have AY:Region.ready .any ops b_=[]:=by
      cases hr:Region.ready .any ops b_ with
      | nil=>rfl
      | cons x xs=>
        rw[hr] at hi
        have lf:t%(x::xs).length<(x::xs).length:=Nat.mod_lt _ (by simp)
        simp at hi
        simp at lf
        omega
     exact absurd (vc r inv AY _ xl.i (Nat.lt_succ_self _) Ue) nI
   | some i=>
     simp only[]
     rw[linearise_go_acc,List.reverse_singleton,List.singleton_append]
     obtain ⟨h1,Us,h3⟩:=xQ r inv (List.mem_of_getElem? hi)
     by_cases Vw:i=xl.i
     · subst Vw
       obtain ⟨p,hp⟩:=List.getElem?_of_mem Xn
       obtain ⟨_,q2,q3,_,o',Cz,q4,_⟩:=r.at hp
       rw[LS] at Cz;simp at Cz;subst Cz
       obtain ⟨Vk,Jq⟩:=Og r hp LS Us inv.closed h3
       obtain ⟨hK,Om,ok,fr⟩:=inv.ok
       have A_:=inv.xN r (q4 On) Us h3
       rw[A_,Om] at vV;simp at vV;subst vV
       rw[xJ Vk] at Js
       have LV:Region.wanted ol (yielded ops a.tmps)=true:=by rw[sE inv.ts ol,Jq];exact Xo
       obtain ⟨φ',w',v',todo,hv,qq,Em,jd⟩:=HL hE dB Ur Js LS (rest:=Region.linearise.go .any ops fuel (t/(Region.ready .any ops b_).length) (b_.setIfInBounds xl.i true) []) (k:=k) inv.ts ok (gF.mono fr.ext) LV
       have Vx:(tr.map (·.i)).Nodup:=by rw[r.trace.is];exact r.nodup
       have Jo:xl.ts=nJ ops (valOf tr) s.ts d:=by
        rw[(r.trace.step p xl hp).1,A' ops Vx,r.trace.is]
        refine List.ext_getElem? (fun x=>sH s.ts (fun j j' e e'=>tN r.qm e e') (fun j hj=>?_))
        have IS:j<ops.size:=by
         unfold gX at hj
         cases ho:ops[j]? with
         | none=>rw[ho] at hj;simp at hj
         | some o=>exact (Array.getElem?_eq_some_iff.1 ho).1
        by_cases Rx:j=xl.i
        · subst Rx;exact ⟨fun h=>absurd h q2,fun h=>absurd h Us⟩
        · exact ⟨fun _=>h3 j (CB j IS Rx),fun _=>q3 j (CB j IS Rx)⟩
       exact ⟨φ',a,w',v',todo,hv,by rw[Sd,Jo];exact inv.ts.mono Em.ext,inv.ds,by rw[h2];exact qq,by rw[h2];exact fr.trans Em,jd⟩
     · obtain ⟨K',φ',a',w',Pz,jd⟩:=inv.F_ hE dB r gF (b:=b) (k:=k) h1 Us h3 (fun x o hk h' hx HI=>Ac x o hk h' hx (by rw[HI];exact Vw)) (Region.linearise.go .any ops fuel (t/(Region.ready .any ops b_).length) (b_.setIfInBounds i true) [])
       obtain ⟨φ2,a2,w2,v2,td,x0,x1,x2,x3,x4,x5⟩:=(Ad hE dB r Xn LS Ur CB On Xo vV Js Ac h2 Sd gF fuel (t/(Region.ready .any ops b_).length) Pz (by simp;omega) (by simp;exact ⟨nI,fun h=>Vw h.symm⟩)).is
       exact ⟨φ2,a2,w2,v2,td,x0,x1,x2,x3,x4,Steps.trans jd x5⟩
def xR (call:bx):bx:=fun f as h=>match call f as h with
 | .panic _ h'=> .ret AV.undef h'
 | r=>r
theorem Jt {call:bx} {ts:List AV} {h h':ar} {rc:RC} {o:Oper} {v:AV} (e:dv E call ts h rc o= .val v h'):dv E (xR call) ts h rc o= .val v h':=by
 obtain ⟨dst,op,ty,pos,after,guard⟩:=o
 cases op with
 | call c=>
   obtain ⟨eD,args,aT⟩:=c
   cases eD with
   | builtin b=>cases b<;>exact e
   | value f=>
     simp only[dv] at e ⊢
     split at e
     · split at e
       · exact e
       · split at e
         · rename_i hc
           simp only[xR,hc];exact e
         · simp at e
         · simp at e
     · simp at e
   | invoke x name=>
     simp only[dv] at e ⊢
     split at e
     · split at e
       · split at e
         · rename_i hc
           simp only[xR,hc];exact e
         · simp at e
         · simp at e
       · simp at e
     · simp at e
 | _=>exact e
theorem Ju {call:bx} {ts:List AV} {h h':ar} {rc:RC} {dst:Option Tmp} {c:Call} {ty:TypeId} {pos:String} {after:Array Edge} {guard:Option (Nat×Bool)} {v:AV} (e:dv E call ts h rc ⟨dst,.call c,ty,pos,after,guard⟩= .panic v h'):
 dv E (xR call) ts h rc ⟨dst,.call c,ty,pos,after,guard⟩= .val AV.undef h':=by
 obtain ⟨eD,args,aT⟩:=c
 cases eD with
 | builtin b=>
   cases b<;>simp only[dv] at e<;>(try (simp at e;done))<;>(split at e<;>(try (simp at e;done))<;>(try (split at e<;>simp at e)))
 | value f=>
   simp only[dv] at e ⊢
   split at e
   · split at e
     · split at e<;>simp at e
     · split at e
       · simp at e
       · rename_i hc
         simp at e;obtain ⟨rfl,rfl⟩:=e
         simp only[xR,hc]
       · simp at e
   · simp at e
 | invoke x name=>
   simp only[dv] at e ⊢
   split at e
   · split at e
     · split at e
       · simp at e
       · rename_i hc
         simp at e;obtain ⟨rfl,rfl⟩:=e
         simp only[xR,hc]
       · simp at e
     · simp at e
   · simp at e
theorem m7 {α:Type} {f:α→Option Nat}:∀{l:List α} (_:(l.filterMap f).Nodup) {x y:α} {n:Nat} (_:x∈l) (_:y∈l) (_:f x=some n) (_:f y=some n),x=y
 | [],_,x,y,n,hx,_,_,_=>by simp at hx
 | z::l,hn,x,y,n,hx,hy,fx,fy=>by
   cases hz:f z with
   | none=>
     rw[List.filterMap_cons_none hz] at hn
     have RW:x∈l:=by
      simp at hx;rcases hx with rfl | h
      · rw[hz] at fx;simp at fx
      · exact h
     have Mo:y∈l:=by
      simp at hy;rcases hy with rfl | h
      · rw[hz] at fy;simp at fy
      · exact h
     exact m7 hn RW Mo fx fy
   | some m=>
     rw[List.filterMap_cons_some hz,List.nodup_cons] at hn
     simp at hx hy
     rcases hx with rfl | hx<;>rcases hy with rfl | hy
     · rfl
     · exfalso;rw[fx] at hz;simp at hz;subst hz;exact hn.1 (List.mem_filterMap.2 ⟨y,hy,fy⟩)
     · exfalso;rw[fy] at hz;simp at hz;subst hz;exact hn.1 (List.mem_filterMap.2 ⟨x,hx,fx⟩)
     · exact m7 hn.2 hx hy fx fy
theorem Jv (HA:qy E ops=some pl) (hd:db E call ops pl.order 0 s= .ok tr hs s') (hl:ph E ops pl tr hs=true):∃st,Ba E call ops pl s s' tr hs st:=by
 obtain ⟨st,t⟩:=m6 hd
 unfold ph at hl
 simp only[Bool.and_eq_true] at hl
 refine ⟨st,Cx HA,t,fun x hx K hk h1 h2 h3=>?_,fun x y hx hy n o q e1 e2=>?_⟩
 · have h4:=List.all_eq_true.1 (List.all_eq_true.1 hl.2 x hx) hk
   refine h4 ?_
   refine List.mem_of_getElem? (i:=K - x.k) ?_
   rw[List.getElem?_take,if_pos (by omega),List.getElem?_drop,show x.k+(K - x.k)=K by omega,h3]
 · have:=sG hl.1
   have:=m7 this hx hy (n:=n) (by simp [e1]) (by simp [e2])
   rw[this]
theorem sI {call Ae:bx} (hc:∀{ts:List AV} {h h':ar} {rc:RC} {o:Oper} {v:AV},dv E call ts h rc o= .val v h'→dv E Ae ts h rc o= .val v h') {i:Nat} {o:Oper} (ho:ops[i]? =some o) (he:fG E o.op=true):
 ∀(l:List Nat) (k:Nat) (s:St) {tr:List Step} {hs:List ar} {s1:St} {h':ar} (_:db E call ops l k s= .ok tr hs s1) (_:cP ops s1.ts o=true) (_:dv E Ae s1.ts s1.h s1.rc o= .val AV.undef h'),
  db E Ae ops (l++[i]) k s= .ok (tr++[⟨i,k+(hs.length - 1),s1.ts,AV.undef,.rZ h'⟩]) (hs++[h']) {s1 with ts:=dV s1.ts o.dst AV.undef,h:=h'}
 | [],k,s,tr,hs,s1,h',hd,hw,hv=>by
   simp [db] at hd;obtain ⟨rfl,rfl,rfl⟩:=hd
   simp only[List.nil_append,db,ho,he,if_true,hw,hv]
   simp [jy.bound,jy.step]
 | j::l,k,s,tr,hs,s1,h',hd,hw,hv=>by
   rw[List.cons_append]
   simp only[db] at hd ⊢
   cases Oj:ops[j]? with
   | none=>rw[Oj] at hd;simp at hd
   | some oj=>
   rw[Oj] at hd
   simp only at hd ⊢
   have wr:∀(x:Step) (s0:St),((db E call ops l (k+1) s0).bound s.h).step x= .ok tr hs s1→((db E Ae ops (l++[i]) (k+1) s0).bound s.h).step x= .ok (tr++[⟨i,k+(hs.length - 1),s1.ts,AV.undef,.rZ h'⟩]) (hs++[h']) {s1 with ts:=dV s1.ts o.dst AV.undef,h:=h'}:=by
    intro x s0 hd
    cases hr:db E call ops l (k+1) s0 with
    | fail why q=>rw[hr] at hd;simp [jy.bound,jy.step] at hd
    | ok F9 qp s2=>
      rw[hr] at hd;simp [jy.bound,jy.step] at hd;obtain ⟨rfl,rfl,rfl⟩:=hd
      rw[sI hc ho he l (k+1) s0 hr hw hv]
      obtain ⟨_,t⟩:=m6 hr
      have:1≤qp.length:=by have:=t.len;omega
      simp [jy.bound,jy.step];omega
   have pl:∀(x:Step) (s0:St),(db E call ops l k s0).step x= .ok tr hs s1→(db E Ae ops (l++[i]) k s0).step x= .ok (tr++[⟨i,k+(hs.length - 1),s1.ts,AV.undef,.rZ h'⟩]) (hs++[h']) {s1 with ts:=dV s1.ts o.dst AV.undef,h:=h'}:=by
    intro x s0 hd
    cases hr:db E call ops l k s0 with
    | fail why q=>rw[hr] at hd;simp [jy.step] at hd
    | ok F9 qp s2=>
      rw[hr] at hd;simp [jy.step] at hd;obtain ⟨rfl,rfl,rfl⟩:=hd
      rw[sI hc ho he l k s0 hr hw hv]
      simp [jy.step]
   split at hd
   · rename_i PA
     rw[if_pos PA]
     split at hd
     · rename_i zn
       rw[if_pos zn]
       split at hd
       · rename_i Jr
         simp only[hc Jr]
         exact wr _ _ hd
       · simp at hd
       · simp at hd
     · rename_i zn
       rw[if_neg zn]
       exact wr _ _ hd
   · rename_i PA
     rw[if_neg PA]
     split at hd
     · rename_i zn
       rw[if_pos zn]
       split at hd
       · rename_i hp
         try simp only[hp]
         exact pl _ _ hd
       · rename_i hp
         try simp only[hp]
         split at hd
         · rename_i hq
           try simp only[hq]
           exact pl _ _ hd
         · rename_i hq
           try simp only[hq]
           split at hd
           · rename_i hr
             try simp only[hr]
             split at hd
             · rename_i hn
               try simp only[hn]
               exact pl _ _ hd
             · simp at hd
           · simp at hd
     · rename_i zn
       rw[if_neg zn]
       exact pl _ _ hd
theorem vd {call:bx} {i:Nat} {o:Oper} (ho:ops[i]? =some o) (he:fG E o.op=true) {v:AV}:
 ∀(l:List Nat) (k:Nat) (s:St) {tr:List Step} {hs:List ar} {s1:St} {h':ar} (_:db E call ops l k s= .ok tr hs s1) (_:cP ops s1.ts o=true) (_:dv E call s1.ts s1.h s1.rc o= .panic v h'),
  ∃why q,db E call ops (l++[i]) k s= .fail why q
 | [],k,s,tr,hs,s1,h',hd,hw,hv=>by
   simp [db] at hd;obtain ⟨rfl,rfl,rfl⟩:=hd
   simp only[List.nil_append,db,ho,he,if_true,hw,hv]
   exact ⟨_,_,rfl⟩
 | j::l,k,s,tr,hs,s1,h',hd,hw,hv=>by
   rw[List.cons_append]
   simp only[db] at hd ⊢
   cases Oj:ops[j]? with
   | none=>rw[Oj] at hd;simp at hd
   | some oj=>
   rw[Oj] at hd
   simp only at hd ⊢
   have wr:∀(x:Step) (s0:St),((db E call ops l (k+1) s0).bound s.h).step x= .ok tr hs s1→∃why q,((db E call ops (l++[i]) (k+1) s0).bound s.h).step x= .fail why q:=by
    intro x s0 hd
    cases hr:db E call ops l (k+1) s0 with
    | fail why q=>rw[hr] at hd;simp [jy.bound,jy.step] at hd
    | ok F9 qp s2=>
      rw[hr] at hd;simp [jy.bound,jy.step] at hd;obtain ⟨rfl,rfl,rfl⟩:=hd
      obtain ⟨why,q,e⟩:=vd ho he l (k+1) s0 hr hw hv
      rw[e];exact ⟨_,_,rfl⟩
   have pl:∀(x:Step) (s0:St),(db E call ops l k s0).step x= .ok tr hs s1→∃why q,(db E call ops (l++[i]) k s0).step x= .fail why q:=by
    intro x s0 hd
    cases hr:db E call ops l k s0 with
    | fail why q=>rw[hr] at hd;simp [jy.step] at hd
    | ok F9 qp s2=>
      rw[hr] at hd;simp [jy.step] at hd;obtain ⟨rfl,rfl,rfl⟩:=hd
      obtain ⟨why,q,e⟩:=vd ho he l k s0 hr hw hv
      rw[e];exact ⟨_,_,rfl⟩
   split at hd
   · rename_i PA
     rw[if_pos PA]
     split at hd
     · rename_i zn
       rw[if_pos zn]
       split at hd
       · rename_i Jr
         try simp only[Jr]
         exact wr _ _ hd
       · simp at hd
       · simp at hd
     · rename_i zn
       rw[if_neg zn]
       exact wr _ _ hd
   · rename_i PA
     rw[if_neg PA]
     split at hd
     · rename_i zn
       rw[if_pos zn]
       split at hd
       · rename_i hp
         try simp only[hp]
         exact pl _ _ hd
       · rename_i hp
         try simp only[hp]
         split at hd
         · rename_i hq
           try simp only[hq]
           exact pl _ _ hd
         · rename_i hq
           try simp only[hq]
           split at hd
           · rename_i hr
             try simp only[hr]
             split at hd
             · rename_i hn
               try simp only[hn]
               exact pl _ _ hd
             · simp at hd
           · simp at hd
     · rename_i zn
       rw[if_neg zn]
       exact pl _ _ hd
end
theorem xS {call:bx} {ops:Array Oper} {pl:lu} {s s':St} {tr:List Step} {pr st:List ar} (r:Ba E call ops pl s s' tr pr st)
 {φ:Ph} {a:Act} {w:World} (Jo:LR φ s.ts a.tmps.toList) (ok:OK E φ s.h w):Inv E ops pl s tr pr st φ w a.defers [] (Array.replicate ops.size false) 0 φ a {w with drawn:=w.drawn+1}:=by
 have CE:OK E φ s.h {w with drawn:=w.drawn+1}:=⟨ok.wB,ok.nx,ok.sx,ok.live,ok.inj⟩
 have RA:Fr φ s.h w φ s.h {w with drawn:=w.drawn+1}:=⟨Ph.le_refl φ,fun _ _=>rfl,Nat.le_refl _,rfl,rfl,rfl,Nat.le_refl _,fun _ _ _=>rfl,fun i o l a b c=> .inr ⟨i,o,l,a,b,c,rfl⟩⟩
 have hlen:0<pr.length:=by have:=r.trace.len;omega
 have h0:pr[0]? =some pr[0]:=by simp [hlen]
 have g:=r.trace.grown 0 s.h _ r.trace.first h0
 obtain ⟨xO,Py⟩:=CE.grown g
 refine ⟨.nil,fun i hi=>by simp at hi,fun i hi=>by simp [hi],fun i hi=>by simp at hi,fun q e hq=>by simp,by omega,by simpa [nJ] using Jo,rfl,⟨_,h0,xO,RA.trans Py⟩,fun x hx n obj hk _ Sc=>?_⟩
 obtain ⟨q,hq⟩:=List.getElem?_of_mem hx
 obtain ⟨_,_,_,Vm,oy,Yr,_,_⟩:=r.at hq
 obtain ⟨_,_,Ys,Vn,Vo,Vp,zA,zB,EO⟩:=r.trace.step q x hq
 rw[←Vm] at zA zB
 have A_:x.k=0:=by omega
 rw[A_] at zA zB
 rw[r.trace.first] at zB;simp at zB;subst zB
 unfold tK at EO
 rw[hk] at EO
 obtain ⟨_,_,_,Ui,Ry⟩:=EO
 refine ⟨?_,Ui,fun hK e=>?_⟩
 · cases hφ:φ n with
   | none=>rfl
   | some l=>have:=ok.wB n l hφ;omega
 · rw[e] at zA;simp at zA;subst zA;exact Ry
theorem CG (hE:jX E) (Vy:E.P.follows .mixedOrders=true) {call:bx} (dB:ie E call) {ops:Array Oper} {s s':St} {e:j8} (h:tu E call ops s= .ok e s')
 {φ:Ph} {a:Act} {w:World} {b:Frame} {k:List Item} {K:Bool→List Frame} (hs:SR φ s.ts s.ds a) (ok:OK E φ s.h w) (gF:mn φ b K s.rc) (id:Nat):
 s'.rc=s.rc∧s'.ds=s.ds∧((e= .normal∧∃φ' a' w',LR φ' s'.ts a'.tmps.toList∧a'.defers=a.defers∧OK E φ' s'.h w'∧Fr φ s.h w φ' s'.h w'∧
  Steps E.P (lone (b.atR a (.code (.region id ops true)::k)) (cur K s.rc) w) (lone (b.atR a' k) (cur K s.rc) w'))∨
  ∃v,e= .panic v∧Bc E φ s.h w a.defers b (cur K s.rc) v s' (lone (b.atR a (.code (.region id ops true)::k)) (cur K s.rc) w)):=by
 have Se:Region.schedule (E.P.follows .mixedOrders) ops (w.tape w.drawn (.order b.fn id))=Region.linearise.go .any ops ops.size (w.tape w.drawn (.order b.fn id)) (Array.replicate ops.size false) []:=by
  rw[Vy];rfl
 unfold tu at h
 split at h
 · simp at h
 rename_i pl HA
 split at h
 · rename_i tr pr s1 hd
   split at h
   · rename_i hl
     simp at h;obtain ⟨rfl,rfl⟩:=h
     obtain ⟨st,r⟩:=Jv HA hd hl
     refine ⟨r.trace.rc,r.trace.ds,.inl ⟨rfl,?_⟩⟩
     obtain ⟨φ',a',w',x1,x2,x3,x4,x5⟩:=(CD hE dB r gF (b:=b) (k:=k) ops.size (w.tape w.drawn (.order b.fn id)) (xS r hs.ts ok) (by simp)).is
     refine ⟨φ',a',w',x1,x2,x3,x4,.head stepR_region_draw ?_⟩
     rw[Se]
     exact x5
   · simp at h
 · split at h
   · rename_i v s2 hp
     simp at h;obtain ⟨rfl,rfl⟩:=h
     unfold xh at hp
     split at hp
     · simp at hp
     rename_i i front Mv
     split at hp
     · rename_i tr pr s1 dst c ty pos after guard hd ho
       split at hp
       · rename_i Ek
         split at hp
         · rename_i v1 h1 Jr
           split at hp
           · rename_i hl
             simp at hp;obtain ⟨rfl,rfl⟩:=hp
             simp only[Bool.and_eq_true,List.all_eq_true,List.mem_range,Bool.or_eq_true,beq_iff_eq] at Ek
             obtain ⟨⟨he,hw⟩,CB⟩:=Ek
             have Jn:pl.order=front.reverse++[i]:=by
              have:=congrArg List.reverse Mv
              simpa using this
             have Sf:=sI (Ae:=xR call) (fun e=>Jt e) ho he front.reverse 0 s hd hw (Ju Jr)
             rw[←Jn] at Sf
             rw[Nat.zero_add] at Sf
             obtain ⟨st,r⟩:=Jv HA Sf hl
             obtain ⟨IQ,t1⟩:=m6 hd
             have Sg:s1.rc=s.rc:=t1.rc
             refine ⟨Sg,t1.ds,.inr ⟨_,rfl,?_⟩⟩
             have hlen:1≤pr.length:=by have:=t1.len;omega
             have xP:(pr++[h1])[pr.length - 1]? =some s1.h:=by
              rw[List.getElem?_append_left (by omega)]
              have:=t1.last
              rw[show pr.length - 1=pc E ops front.reverse by have:=t1.len;omega];exact this
             have Ac:∀(x:Step) (o:Oper) (hk h':ar),x∈tr++[⟨i,pr.length - 1,s1.ts,AV.undef,.rZ h1⟩]→x.i≠i→ops[x.i]? =some o→(pr++[h1])[x.k]? =some hk→x.kind= .rZ h'→dv E call x.ts hk s.rc o= .val x.v h':=by
              intro x o hk h' hx HI Cz vV xD
              have RW:x∈tr:=by
               simp at hx;rcases hx with h | h
               · exact h
               · exact absurd (by rw[h]) HI
              obtain ⟨p,hp⟩:=List.getElem?_of_mem RW
              obtain ⟨_,Sc,o',Uk,Xk,Vz,PB,Sa,jd⟩:=t1.step p x hp
              rw[Cz] at Vz;simp at Vz;subst Vz
              rw[Nat.zero_add] at Sc
              rw[←Sc] at PB
              have lf:x.k<pr.length:=(List.getElem?_eq_some_iff.1 PB).1
              rw[List.getElem?_append_left lf,PB] at vV
              simp at vV;subst vV
              unfold tK at jd;rw[xD] at jd;exact jd.2.2.1
             have VA:=(Ad hE dB r (xl:=⟨i,pr.length - 1,s1.ts,AV.undef,.rZ h1⟩) (by simp) (ol:=⟨dst,.call c,ty,pos,after,guard⟩) ho rfl (fun j hj eC=>(CB j hj).resolve_left eC) he hw xP (by rw[←Sg];exact Jr) Ac
              (s2:={s1 with h:=h1}) rfl rfl gF (b:=b) (k:=k) ops.size (w.tape w.drawn (.order b.fn id)) (xS r hs.ts ok) (by simp) (by simp)).is
             obtain ⟨φ',a',w',v',todo,x0,x1,x2,x3,x4,x5⟩:=VA
             refine ⟨φ',a',w',v',todo,x0,x1,x2,x3,x4,.head stepR_region_draw ?_⟩
             rw[Se]
             exact x5
           · simp at hp
         · simp at hp
       · simp at hp
     · simp at hp
   · simp at h
end Go.Ab
end
section
namespace Go.Ab
variable {E:Env}
def CH (P:Program) (m:Machine) (b:Frame) (k:List Item) (cs:List Frame):Exit→Act→World→Prop
 | .normal,a,w=>Steps P m (lone (b.atR a k) cs w)
 | .exit id,a,w=>∃todo,exitTo id todo=exitTo id k∧Steps P m (lone (b.atR a (.code (.exit id)::todo)) cs w)
 | .ret,a,w=>∃todo,Steps P m (lone (b.atR a (.code .ret::todo)) cs w)
 | .panic chain,a,w=>∃todo,Steps P m (lone {b.atR a todo with mode:= .panicking chain} cs w)
 | _,_,_=>False
theorem CH.of_steps {P:Program} {m m':Machine} {b:Frame} {k:List Item} {cs:List Frame} {e:Exit} {a:Act} {w:World} (hs:Steps P m m') (h:CH P m' b k cs e a w):CH P m b k cs e a w:=by
 cases e with
 | normal=>exact Steps.trans hs h
 | exit id=>obtain ⟨t,h1,h2⟩:=h;exact ⟨t,h1,Steps.trans hs h2⟩
 | ret=>obtain ⟨t,h2⟩:=h;exact ⟨t,Steps.trans hs h2⟩
 | panic c=>obtain ⟨t,h2⟩:=h;exact ⟨t,Steps.trans hs h2⟩
 | goto l=>exact h.elim
 | outgrown=>exact h.elim
theorem CH.pass {P:Program} {m:Machine} {b:Frame} {x:Item} {k:List Item} {cs:List Frame} {e:Exit} {a:Act} {w:World} (hx:∀id,exitTo id (x::k)=exitTo id k) (hn:e≠ .normal) (h:CH P m b (x::k) cs e a w):CH P m b k cs e a w:=by
 cases e with
 | normal=>exact absurd rfl hn
 | exit id=>obtain ⟨t,h1,h2⟩:=h;exact ⟨t,h1.trans (hx id),h2⟩
 | ret=>exact h
 | panic c=>exact h
 | goto l=>exact h.elim
 | outgrown=>exact h.elim
structure oG (E:Env) (φ:Ph) (h:ar) (w:World) (b:Frame) (K:Bool→List Frame) (k:List Item) (m:Machine) (e:j8) (s':St):Prop where
 is:∃φ' w' a' e',Ps φ' e e'∧SR φ' s'.ts s'.ds a'∧OK E φ' s'.h w'∧Fr φ h w φ' s'.h w'∧mn φ' b K s'.rc∧CH E.P m b k (cur K s'.rc) e' a' w'
theorem oG.of_steps {φ:Ph} {h:ar} {w:World} {b:Frame} {K:Bool→List Frame} {k:List Item} {m m':Machine} {e:j8} {s':St} (hs:Steps E.P m m') (x:oG E φ h w b K k m' e s'):oG E φ h w b K k m e s':=by
 obtain ⟨φ',w',a',e',h1,h2,h3,h4,h5,h6⟩:=x.is
 exact ⟨φ',w',a',e',h1,h2,h3,h4,h5,.of_steps hs h6⟩
theorem oG.later {φ φ₁:Ph} {h h₁:ar} {w w₁:World} {b:Frame} {K:Bool→List Frame} {k:List Item} {m:Machine} {e:j8} {s':St} (f:Fr φ h w φ₁ h₁ w₁) (x:oG E φ₁ h₁ w₁ b K k m e s'):oG E φ h w b K k m e s':=by
 obtain ⟨φ',w',a',e',h1,h2,h3,h4,h5,h6⟩:=x.is
 exact ⟨φ',w',a',e',h1,h2,h3,f.trans h4,h5,h6⟩
theorem OK.made {φ:Ph} {h h':ar} {w:World} (ok:OK E φ h w) {o:aH} {O:Obj} (hn:h.new o=some h') (ho:OR E (φ.add h.nx ⟨w.heap.size,0,0⟩) o ⟨w.heap.size,0,0⟩ (some O)):
 OK E (φ.add h.nx ⟨w.heap.size,0,0⟩) h' (w.alloc O)∧Fr φ h w (φ.add h.nx ⟨w.heap.size,0,0⟩) h' (w.alloc O)∧φ.le (φ.add h.nx ⟨w.heap.size,0,0⟩):=
 ok.fresh (w':=w.alloc O) hn ⟨w.heap.size,0,0⟩ (by rw[show (w.alloc O).heap=w.heap.push O from rfl];simpa using ho)
  (fun c eC hc=>by rw[show (w.alloc O).heap=w.heap.push O from rfl,Array.getElem?_push,if_neg (by simpa using eC)]) (by simp) (Nat.le_refl _) rfl rfl rfl
theorem OK.PC {φ:Ph} {h:ar} {w:World} (ok:OK E φ h w) {i:Nat} {o o':aH} {l:Loc} (hg:h.get i=some o) (Cb:o.rw=true) (hl:φ i=some l) {O:Obj} (ho:OR E φ o' l (some O)):
 OK E φ (h.put i (some o')) (w.putObj l.gG O)∧Fr φ h w φ (h.put i (some o')) (w.putObj l.gG O):=by
 have lf:l.gG<w.heap.size:=by
  rcases Nat.lt_or_ge l.gG w.heap.size with h1 | h1
  · exact h1
  · have:=ok.live i o l hg hl
    rw[Array.getElem?_eq_none h1] at this
    exact this.absurd.elim
 exact ok.change hg Cb hl (by rw[World.putObj_heap_same lf];exact ho) (fun c hc=>World.putObj_heap_other hc) World.putObj_size rfl rfl rfl
theorem OK.VB {φ:Ph} {h:ar} {w:World} (ok:OK E φ h w) {i:Nat} {o:aH} {l:Loc} (hg:h.get i=some o) (Cb:o.rw=true) (hl:φ i=some l) (O:Obj):
 OK E φ (h.put i none) (w.putObj l.gG O)∧Fr φ h w φ (h.put i none) (w.putObj l.gG O):=by
 have gL:∀j p,(h.put i none).get j=some p→h.get j=some p∧j≠i:=fun j p hj=>by
  by_cases e:i=j
  · subst e;rw[ar.eF] at hj;simp at hj
  · rw[ar.cZ e] at hj;exact ⟨hj,Ne.symm e⟩
 refine ⟨⟨ok.wB,ok.nx,ok.sx,fun j p m hj hm=>?_,fun j k p q m n hj hk=>ok.inj j k p q m n (gL j p hj).1 (gL k q hk).1⟩,
  ⟨Ph.le_refl φ,fun _ _=>rfl,Nat.le_refl _,rfl,rfl,rfl,by simp,fun b _ hn=>World.putObj_heap_other (fun e=>hn i o l hg Cb hl e.symm),fun j p m hj hr hm=> .inr ⟨j,p,m,(gL j p hj).1,hr,hm,rfl⟩⟩⟩
 obtain ⟨po,eC⟩:=gL j p hj
 rw[World.putObj_heap_other (fun e=>eC (ok.inj j i p o m l po hg hm hl (.inr Cb) e))]
 exact ok.live j p m po hm
theorem CI {s:St} {dn:Nat} {h1:ar} {O7:List pf} (ho:IX s=some (dn,h1,O7)) {φ:Ph} {a:Act} {w:World} {b:Frame} {K:Bool→List Frame} (hs:SR φ s.ts s.ds a) (ok:OK E φ s.h w) (gF:mn φ b K s.rc)
 (ps:Array Tmp) (as bd:Code):∃φ1 w1 ld mark,φ.le φ1∧OK E φ1 h1 w1∧Fr φ s.h w φ1 h1 w1∧φ1 dn=some ld∧SR φ1 s.ts O7 {a with defers:=mark++a.defers}∧
  (Instr.enterLoop b.fn a.tmps ps as bd b.roundOf).run E.P w= .ok (w1.heap.size,mark) (w1.alloc (.loop {state:= .ready,pending:=none,fn:=b.fn,tmps:=a.tmps,params:=ps,assign:=as,body:=bd,defers:=ld.gG})):=by
 unfold IX at ho
 split at ho
 · rename_i l hl
   split at ho
   · rename_i st pd ts qi tj Rn Ro hg
     simp at ho;obtain ⟨rfl,rfl,rfl⟩:=ho
     rw[hl] at gF
     obtain ⟨ll,hφ,Jk⟩:=gF
     obtain ⟨_,r,hr,ve⟩:=ok.live _ _ _ hg hφ
     obtain ⟨ld,Yv,Sf⟩:=ve.defers
     refine ⟨φ,w,ld,[],Ph.le_refl φ,ok,Fr.refl _ _ _,Yv,⟨hs.ts,hs.ds⟩,?_⟩
     rw[Jk,run_enterLoop_inner hr,Sf]
   · simp at ho
 · rename_i zm
   split at ho
   · rename_i Xp hn
     simp at ho;obtain ⟨rfl,rfl,rfl⟩:=ho
     obtain ⟨CE,RA,hle⟩:=ok.made (O:= .deferred (some [])) hn ⟨rfl,rfl⟩
     have ib:(φ.add s.h.nx ⟨w.heap.size,0,0⟩) s.h.nx=some ⟨w.heap.size,0,0⟩:=by simp [Ph.add]
     refine ⟨_,_,⟨w.heap.size,0,0⟩,[{target:= .collected w.heap.size,args:= #[]}],hle,CE,RA,ib,⟨hs.ts.mono hle,⟨_,ib,rfl⟩,hs.ds.mono hle⟩,?_⟩
     rw[gF.plain (xI zm),run_enterLoop_outer]
     simp
   · simp at ho
theorem Jw {c:Code} {e:j8} (h:F3 (some c)=some e):(∃id,c= .exit id∧e= .exit id)∨(c= .ret∧e= .ret):=by
 cases c<;>simp [F3] at h
 · exact .inl ⟨_,rfl,h.symm⟩
 · exact .inr ⟨rfl,h.symm⟩
theorem Bd {call:bx} (dB:ie E call) {f:Operand} {ps:Array Tmp} {as bd:Code} {s s':St} {e:j8} (h:mj E call f ps as bd s= .ok e s')
 {φ:Ph} {a:Act} {w:World} {b:Frame} {k:List Item} {K:Bool→List Frame} (hs:SR φ s.ts s.ds a) (ok:OK E φ s.h w) (gF:mn φ b K s.rc) (Cc:(E.P.funcs[b.fn]?).isSome=true):
 oG E φ s.h w b K k (lone (b.atR a (.code (.rangeFunc f ps as bd)::k)) (cur K s.rc) w) e s':=by
 unfold mj at h
 split at h
 · rename_i g first captured hf
   split at h
   · rename_i dn h1 O7 ho
     split at h
     · rename_i h2 hn
       have Xq:=ml ok.gl hs.ts hf
       generalize kr:a.eval f=cv at Xq
       obtain ⟨Mp,iD,rfl,Ua,Yw⟩:=Xq.xm
       obtain ⟨φ1,w1,ld,mark,Si,CE,RA,Xr,qp,uW⟩:=CI ho hs ok gF ps as bd
       obtain ⟨xO,Py,Mw⟩:=CE.made (O:= .loop {state:= .ready,pending:=none,fn:=b.fn,tmps:=a.tmps,params:=ps,assign:=as,body:=bd,defers:=ld.gG}) hn
        ⟨rfl,_,rfl,⟨rfl,rfl,hs.ts.mono (Ph.le_trans Si (fun j m hm=>by
         unfold Ph.add;split
         · rename_i e;subst e;exact absurd (CE.wB _ _ hm) (Nat.lt_irrefl _)
         · exact hm)),rfl,rfl,rfl,⟨ld,by
         unfold Ph.add;split
         · rename_i e;subst e;exact absurd (CE.wB _ _ Xr) (Nat.lt_irrefl _)
         · exact Xr,rfl⟩,Cc⟩⟩
       have hle:=Ph.le_trans Si Mw
       have ib:(φ1.add h1.nx ⟨w1.heap.size,0,0⟩) h1.nx=some ⟨w1.heap.size,0,0⟩:=by simp [Ph.add]
       generalize Zy:φ1.add h1.nx ⟨w1.heap.size,0,0⟩=φ2 at xO Py Mw hle ib
       have hl:LR φ2 (first++[.qt h1.nx]++captured) (Mp.toList++[.func (.yield w1.heap.size) #[] #[]]++iD.toList):=
        ((Ua.mono hle).append (.cons (.yield ib) (.nil φ2))).append (Yw.mono hle)
       have zC:∀w',(resolve a.eval (rangeCall f w1.heap.size) 0).run E.P w'= .ok {target:= .fn (.func g) iD,args:=Mp++ #[.func (.yield w1.heap.size) #[] #[]]} w':=fun w'=>by
        have VC:a.eval (.const (.func (.yield w1.heap.size) #[] #[]))= .func (.yield w1.heap.size) #[] #[]:=rfl
        simp [resolve,Deferred.ofValue,kr,VC]
       have start:∀n st,mZ E φ2 (w1.alloc (.loop {state:= .ready,pending:=none,fn:=b.fn,tmps:=a.tmps,params:=ps,assign:=as,body:=bd,defers:=ld.gG})) (.fn g) (Mp.toList++[.func (.yield w1.heap.size) #[] #[]]++iD.toList) n st→
        step E.P (lone (b.atR a (.code (.rangeFunc f ps as bd)::k)) (cur K s.rc) w)= .next (lone st (b.atR {a with defers:=mark++a.defers} (.inRangeFunc w1.heap.size::k)::cur K s.rc)
         (w1.alloc (.loop {state:= .ready,pending:=none,fn:=b.fn,tmps:=a.tmps,params:=ps,assign:=as,body:=bd,defers:=ld.gG}))):=fun n st hp=>by
        cases hp with
        | fn _ _ hr=>
          have hinv:(invoke (Target.fn (.func g) iD) (Mp++ #[.func (.yield w1.heap.size) #[] #[]])).run E.P (w1.alloc (.loop {state:= .ready,pending:=none,fn:=b.fn,tmps:=a.tmps,params:=ps,assign:=as,body:=bd,defers:=ld.gG}))=
           .ok (.enter g (Mp.toList++[Value.func (.yield w1.heap.size) #[] #[]]++iD.toList).toArray) (w1.alloc (.loop {state:= .ready,pending:=none,fn:=b.fn,tmps:=a.tmps,params:=ps,assign:=as,body:=bd,defers:=ld.gG})):=by
           have e:(Mp.toList++[Value.func (.yield w1.heap.size) #[] #[]]++iD.toList).toArray=Mp++ #[Value.func (.yield w1.heap.size) #[] #[]]++iD:=by
            apply Array.toList_inj.1;simp
           rw[e] at hr ⊢
           simpa [invoke] using hr
          exact stepR_rangeFunc uW (zC _) hinv
       split at h
       ·
        rename_i v h3 hc
        obtain ⟨n,st,hp,hH⟩:=dB.ret _ _ _ _ _ hc φ2 _ _ xO trivial hl
        obtain ⟨φ3,w3,v',_,Ut,LW,jd⟩:=hH (b.atR {a with defers:=mark++a.defers} (.inRangeFunc w1.heap.size::k)) (cur K s.rc)
        rw[finish_atR_inRangeFunc] at jd
        split at h
        · simp at h
        · rename_i Zz iE lx qi tj Rn Ro zm hg
          split at h
          · rename_i e1 hj
            simp at h;obtain ⟨rfl,rfl⟩:=h
            have Mx:=LW.ext _ _ ib
            obtain ⟨_,r,hr,ve⟩:=Ut.live _ _ _ hg Mx
            have Sj:r.state≠ .busy:=by rw[ve.state];intro e;subst e;exact zm rfl
            obtain ⟨Sk,VD⟩:=Ut.PC (o':= .loop .exhausted iE lx qi tj Rn Ro) hg rfl Mx (O:= .loop {r with state:= .exhausted}) ⟨rfl,_,rfl,⟨rfl,ve.pending,ve.tmps,ve.params,ve.assign,ve.body,ve.defers,ve.fn⟩⟩
            obtain ⟨W4,VE⟩:∃W4,W4=w3.putObj w1.heap.size (.loop {r with state:= .exhausted}):=⟨_,rfl⟩
            have Sk:OK E φ3 (h3.put h1.nx (some (.loop .exhausted iE lx qi tj Rn Ro))) W4:=by rw[VE];exact Sk
            have VD:Fr φ3 h3 w3 φ3 (h3.put h1.nx (some (.loop .exhausted iE lx qi tj Rn Ro))) W4:=by rw[VE];exact VD
            have Sl:=stepR_endRangeFunc (P:=E.P) (b:=b) (a:={a with defers:=mark++a.defers}) (k:=k) (cs:=cur K s.rc) (run_endLoop hr Sj)
            rw[←VE] at Sl
            have qk:=((RA.trans Py).trans LW).trans VD
            have iU:=Steps.trans (.head (start n st hp) jd) (.one Sl)
            rw[ve.pending] at iU
            have PD:=Ph.le_trans Mw LW.ext
            have Jx:=Ph.le_trans hle LW.ext
            cases iE with
            | none=>
              simp [F3] at hj;subst hj
              exact ⟨φ3,_,_,_,.normal,qp.mono PD,Sk,qk,gF.mono Jx,iU⟩
            | some c=>
              rcases Jw hj with ⟨id,rfl,rfl⟩ | ⟨rfl,rfl⟩
              · exact ⟨φ3,_,_,_,.exit id,qp.mono PD,Sk,qk,gF.mono Jx,k,rfl,iU⟩
              · exact ⟨φ3,_,_,_,.ret,qp.mono PD,Sk,qk,gF.mono Jx,k,iU⟩
          · simp at h
        · simp at h
       ·
        rename_i v h3 hc
        simp at h;obtain ⟨rfl,rfl⟩:=h
        obtain ⟨n,st,hp,hH⟩:=dB.panic _ _ _ _ _ hc φ2 _ _ xO trivial hl
        obtain ⟨φ3,w3,v',hv,Ut,LW,jd⟩:=hH (b.atR {a with defers:=mark++a.defers} (.inRangeFunc w1.heap.size::k)) (cur K s.rc)
        rw[Frame.raise_atR] at jd
        exact ⟨φ3,w3,_,_,.panic v v' hv,qp.mono (Ph.le_trans Mw LW.ext),Ut,(RA.trans Py).trans LW,gF.mono (Ph.le_trans hle LW.ext),_,.head (start n st hp) jd⟩
       · simp at h
     · simp at h
   · simp at h
 · simp at h
end Go.Ab
end
