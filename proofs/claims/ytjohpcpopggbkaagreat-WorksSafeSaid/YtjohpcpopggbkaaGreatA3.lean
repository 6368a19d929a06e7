import Derived.Orders
import Derived.Test.YtjohpcpopggbkaaGreatA2
set_option linter.unusedVariables false
set_option linter.unusedSimpArgs false
section
namespace Go.Ab
variable {E:Env}
theorem kB {α:Type} {f:α→α→Bool} (hf:∀x y,f x y=true→x=y):∀{l r:List α} (_:bG f l r=true),l=r
 | [],[],_=>rfl
 | [],_::_,h=>by simp [bG] at h
 | _::_,[],h=>by simp [bG] at h
 | x::xs,y::ys,h=>by
   simp only[bG,Bool.and_eq_true] at h
   rw[hf x y h.1,kB hf h.2]
theorem AV.rM:∀(n:Nat) (x y:AV),AV.same n x y=true→x=y
 | 0,_,_,h=>by simp [AV.same] at h
 | n+1,x,y,h=>by
   have ih:=AV.rM n
   cases x<;>cases y<;>simp [AV.same] at h<;>try rfl
   all_goals first
    | (subst h;rfl)
    | (obtain ⟨rfl,rfl⟩:=h;rfl)
    | (obtain ⟨⟨⟨⟨rfl,rfl⟩,rfl⟩,rfl⟩,rfl⟩:=h;rfl)
    | (obtain ⟨⟨rfl,h1⟩,h2⟩:=h;rw[kB ih h1,kB ih h2])
    | (obtain ⟨rfl,h1⟩:=h;rw[ih _ _ h1])
    | (rw[kB ih h])
theorem aP.rM {x y:aP} (h:aP.same x y=true):x=y:=by
 unfold aP.same at h
 split at h
 · simp only[Bool.and_eq_true,beq_iff_eq] at h
   obtain ⟨⟨h1,rfl⟩,rfl⟩:=h
   rw[kB (AV.rM 20) h1]
 · simp at h;subst h;rfl
 · simp at h;obtain ⟨rfl,rfl⟩:=h;rfl
 · simp at h
theorem qP:∀{l:List Nat} (_:nodup l=true),l.Nodup
 | [],_=> .nil
 | x::xs,h=>by
   simp only[nodup,Bool.and_eq_true,Bool.not_eq_true',List.contains_eq_mem,decide_eq_false_iff_not] at h
   exact List.nodup_cons.2 ⟨h.1,qP h.2⟩
theorem vF:∀(n:Nat) (l:List Nat) (_:l.Nodup) (_:∀x∈l,x<n),l.length≤n
 | 0,l,_,h=>by
   cases l with
   | nil=>simp
   | cons x _=>have:=h x (by simp);omega
 | n+1,l,hn,h=>by
   have h1:=vF n (l.erase n) (hn.erase n) (fun x hx=>by
    have h2:=h x (List.mem_of_mem_erase hx)
    have h3:x≠n:=(hn.mem_erase_iff.1 hx).1
    omega)
   rw[List.length_erase] at h1
   split at h1<;>omega
structure vG (E:Env) (ops:Array Oper) (pl:jZ):Prop where
 lt:∀i o j,ops[i]? =some o→cN pl.an i j=true→j<i
 direct:∀i o e,ops[i]? =some o→e∈iT o→e<i∧cN pl.an i e=true
 closed:∀i o j,ops[i]? =some o→cN pl.an i j=true→∃e∈iT o,e=j∨cN pl.an e j=true
 guard:∀i o g want,ops[i]? =some o→o.guard=some (g,want)→cN pl.an i g=true
 slot:∀i j o p d,i≠j→ops[i]? =some o→ops[j]? =some p→p.dst=some d→o.dst≠some d∧(d∈tmpsOf o→cN pl.an i j=true∨cN pl.an j i=true)
 chain:∀q e f,pl.bA[q]? =some e→pl.bA[q+1]? =some f→cN pl.an f e=true
 bA:pl.bA=kP E ops.toList
 nd:pl.bA.Nodup
 order:iU E ops pl.an pl.bA pl.order [] 0=true
theorem pV {ops:Array Oper} {i:Nat} {o:Oper} (h:ops[i]? =some o):(o,i)∈ops.toList.zipIdx:=by
 rw[List.mk_mem_zipIdx_iff_getElem?];simpa using h
theorem rO {an:List (List Nat)}:∀{l:List Nat} (_:pR an l=true) (q e f:Nat),l[q]? =some e→l[q+1]? =some f→cN an f e=true
 | [],_,q,e,f,h,_=>by simp at h
 | [x],_,q,e,f,h,h'=>by simp at h'
 | x::y::l,hc,q,e,f,h,h'=>by
   simp only[pR,Bool.and_eq_true] at hc
   cases q with
   | zero=>simp at h h';subst h;subst h';exact hc.1
   | succ q=>exact rO hc.2 q e f (by simpa using h) (by simpa using h')
theorem A4 {ops:Array Oper} {pl:jZ} (h:oV E ops=some pl):vG E ops pl:=by
 unfold oV at h
 simp only at h
 split at h
 · rename_i hc
   simp at h;subst h
   simp only[Bool.and_eq_true] at hc
   obtain ⟨⟨⟨⟨he,hs⟩,Og⟩,mq⟩,Hx⟩:=hc
   have Ct:=List.all_eq_true.1 he
   have nL:=List.all_eq_true.1 hs
   refine ⟨fun i o j ho hj=>?_,fun i o e ho hm=>?_,fun i o j ho hj=>?_,fun i o g want ho hg=>?_,fun i j o p d dt ho hp hd=>?_,rO Og,rfl,qP mq,Hx⟩
   · have:=Ct _ (pV ho)
     simp only[Bool.and_eq_true] at this
     have h2:=List.all_eq_true.1 this.2 j (by simpa [cN] using hj)
     simp only[Bool.and_eq_true,decide_eq_true_eq] at h2
     exact h2.1
   · have:=Ct _ (pV ho)
     simp only[Bool.and_eq_true] at this
     have h2:=List.all_eq_true.1 this.1 e hm
     simpa using h2
   · have:=Ct _ (pV ho)
     simp only[Bool.and_eq_true] at this
     have h2:=List.all_eq_true.1 this.2 j (by simpa [cN] using hj)
     simp only[Bool.and_eq_true,List.any_eq_true,Bool.or_eq_true,beq_iff_eq] at h2
     exact h2.2
   · have:=nL _ (pV ho)
     simp only[Bool.and_eq_true,hg] at this
     exact this.1.1
   · have:=nL _ (pV ho)
     simp only[Bool.and_eq_true] at this
     have h2:=List.all_eq_true.1 this.2 _ (pV hp)
     simp only[Bool.or_eq_true,beq_iff_eq,dt,false_or,hd,Bool.and_eq_true,bne_iff_ne,Bool.not_eq_true',List.contains_eq_mem,decide_eq_false_iff_not] at h2
     exact ⟨h2.1,fun hm=>(h2.2.imp_left (fun x=>x.resolve_left (fun hn=>hn hm)))⟩
 · simp at h
def nB (E:Env) (ops:Array Oper) (l:List Nat):Nat:=(l.filter fun i=>eg E ((ops.getD i default).op)).length
theorem zC {ops:Array Oper} {i:Nat} (l:List Nat) (h:eg E ((ops.getD i default).op)=true):nB E ops (i::l)=nB E ops l+1:=by
 unfold nB;rw[List.filter_cons_of_pos (p:=fun i=>eg E ((ops.getD i default).op)) h];rfl
theorem zD {ops:Array Oper} {i:Nat} (l:List Nat) (h:¬eg E ((ops.getD i default).op)=true):nB E ops (i::l)=nB E ops l:=by
 unfold nB;rw[List.filter_cons_of_neg (p:=fun i=>eg E ((ops.getD i default).op)) h]
theorem gz {ops:Array Oper} {an:List (List Nat)} {bA:List Nat}:∀{l seen:List Nat} {k:Nat} (_:iU E ops an bA l seen k=true),
 (∀p i,l[p]? =some i→i<ops.size∧i ∉ seen∧i ∉ l.take p∧(∀j,cN an i j=true→j∈seen∨j∈l.take p)∧
  (eg E ((ops.getD i default).op)=true→bA[k+nB E ops (l.take p)]? =some i)∧(eg E ((ops.getD i default).op)=false→zl bA an i=k+nB E ops (l.take p)))∧
 (∀i,i<ops.size→i∈seen∨i∈l)∧k+nB E ops l=bA.length
 | [],seen,k,h=>by
   simp only[iU,Bool.and_eq_true,List.all_eq_true,List.mem_range,beq_iff_eq] at h
   exact ⟨fun p i hp=>by simp at hp,fun i hi=> .inl (by simpa using h.1 i hi),by simpa [nB] using h.2⟩
 | i::l,seen,k,h=>by
   simp only[iU,Bool.and_eq_true,decide_eq_true_eq,Bool.not_eq_true',List.contains_eq_mem,decide_eq_false_iff_not] at h
   obtain ⟨⟨⟨jT,Ty⟩,Om⟩,lS⟩:=h
   have MD:∀j,cN an i j=true→j∈seen:=fun j hj=>by
    have:=List.all_eq_true.1 Om j (by simpa [cN] using hj)
    simpa using this
   by_cases he:eg E ((ops.getD i default).op)=true
   · simp only[he,if_true,Bool.and_eq_true,beq_iff_eq] at lS
     obtain ⟨h1,h2,h3⟩:=gz lS.2
     refine ⟨fun p j hp=>?_,fun j hj=>?_,?_⟩
     · cases p with
       | zero=>simp at hp;subst hp;exact ⟨jT,Ty,by simp,fun j hj=> .inl (MD j hj),fun _=>by simpa [nB] using lS.1,fun hf=>by rw[he] at hf;simp at hf⟩
       | succ p=>
         obtain ⟨a1,a2,a3,a4,a5,a6⟩:=h1 p j (by simpa using hp)
         have hc:k+nB E ops (List.take (p+1) (i::l))=k+1+nB E ops (l.take p):=by rw[List.take_succ_cons,zC _ he];omega
         simp only[List.mem_cons,not_or] at a2
         refine ⟨a1,a2.2,by simp;exact ⟨a2.1,a3⟩,fun m hm=>?_,by rw[hc];exact a5,by rw[hc];exact a6⟩
         rcases a4 m hm with h4 | h4
         · simp at h4;rcases h4 with rfl | h4
           · exact .inr (by simp)
           · exact .inl h4
         · exact .inr (by simp [h4])
     · rcases h2 j hj with h4 | h4
       · simp at h4;rcases h4 with rfl | h4
         · exact .inr (by simp)
         · exact .inl h4
       · exact .inr (by simp [h4])
     · rw[zC _ he];omega
   · simp only[he,Bool.false_eq_true,if_false,Bool.and_eq_true,beq_iff_eq] at lS
     obtain ⟨h1,h2,h3⟩:=gz lS.2
     refine ⟨fun p j hp=>?_,fun j hj=>?_,?_⟩
     · cases p with
       | zero=>simp at hp;subst hp;exact ⟨jT,Ty,by simp,fun j hj=> .inl (MD j hj),fun hf=>absurd hf he,fun _=>by simpa [nB] using lS.1⟩
       | succ p=>
         obtain ⟨a1,a2,a3,a4,a5,a6⟩:=h1 p j (by simpa using hp)
         have hc:k+nB E ops (List.take (p+1) (i::l))=k+nB E ops (l.take p):=by rw[List.take_succ_cons,zD _ he]
         simp only[List.mem_cons,not_or] at a2
         refine ⟨a1,a2.2,by simp;exact ⟨a2.1,a3⟩,fun m hm=>?_,by rw[hc];exact a5,by rw[hc];exact a6⟩
         rcases a4 m hm with h4 | h4
         · simp at h4;rcases h4 with rfl | h4
           · exact .inr (by simp)
           · exact .inl h4
         · exact .inr (by simp [h4])
     · rcases h2 j hj with h4 | h4
       · simp at h4;rcases h4 with rfl | h4
         · exact .inr (by simp)
         · exact .inl h4
       · exact .inr (by simp [h4])
     · rw[zD _ he];exact h3
def fq (ops:Array Oper) (i:Nat):Option Tmp:=(ops[i]?).bind (·.dst)
def zE (ops:Array Oper) (ts:List AV) (l:List Step):List AV:=l.foldl (fun ts x=>cU ts (fq ops x.i) x.v) ts
def mr (ops:Array Oper) (val:Nat→AV) (ts:List AV) (l:List Nat):List AV:=l.foldl (fun ts i=>cU ts (fq ops i) (val i)) ts
structure Grown (a b:aq):Prop where
 nx:a.nx≤b.nx
 old:∀i,i<a.nx→b.get i=a.get i
theorem Grown.refl (a:aq):Grown a a:=⟨Nat.le_refl _,fun _ _=>rfl⟩
theorem Grown.trans {a b c:aq} (x:Grown a b) (y:Grown b c):Grown a c:=⟨Nat.le_trans x.nx y.nx,fun i hi=>(y.old i (Nat.lt_of_lt_of_le hi x.nx)).trans (x.old i hi)⟩
theorem Grown.new {a b:aq} {o:aP} (h:a.new o=some b):Grown a b:=by
 obtain ⟨h1,h2,h3,h4⟩:=aq.js h
 exact ⟨by omega,fun i hi=>h4 i (by omega)⟩
theorem OK.grown {φ:Ph} {a b:aq} {w:World} (g:Grown a b) (ok:OK E φ a w):OK E φ b w∧Fr φ a w φ b w:=by
 have hold:∀i l,φ i=some l→b.get i=a.get i:=fun i l hl=>g.old i (ok.uJ i l hl)
 refine ⟨⟨fun i l hl=>Nat.lt_of_lt_of_le (ok.uJ i l hl) g.nx,Nat.le_trans ok.nx g.nx,ok.qI,fun i o l hi hl=>ok.live i o l (hold i l hl▸hi) hl,
  fun i j o p l m hi hj hl hm hw hb=>ok.inj i j o p l m (hold i l hl▸hi) (hold j m hm▸hj) hl hm hw hb⟩,
  ⟨Ph.le_refl φ,fun _ _=>rfl,g.nx,rfl,rfl,rfl,Nat.le_refl _,fun _ _ _=>rfl,fun i o l hi hr hl=> .inr ⟨i,o,l,hold i l hl▸hi,hr,hl,rfl⟩⟩⟩
def rP (E:Env) (call:aY) (ops:Array Oper) (rc:RC) (x:Step) (o:Oper) (hk:aq) (sk:aq) (ME:Option aq):Prop:=
 match x.kind with
 | .off=>b_ ops x.ts o=false∧x.v=AV.undef∧(eg E o.op=true→ME=some hk)
 | .fi=>eg E o.op=false∧b_ ops x.ts o=true∧bm E x.ts o.op=some x.v
 | .red=>eg E o.op=false∧b_ ops x.ts o=true
 | .oW n obj=>eg E o.op=false∧b_ ops x.ts o=true∧(∃mk,dj E x.ts o.op=some (obj,mk)∧x.v=mk n)∧sk.nx≤n∧n<hk.nx
 | .qi h'=>eg E o.op=true∧b_ ops x.ts o=true∧cD E call x.ts hk rc o= .val x.v h'∧ME=some h'
structure KI (E:Env) (call:aY) (ops:Array Oper) (s:St) (k:Nat) (order:List Nat) (tr:List Step) (hs st:List aq) (s':St):Prop where
 is:tr.map (·.i)=order
 ts:s'.ts=zE ops s.ts tr
 ds:s'.ds=s.ds
 rc:s'.rc=s.rc
 len:hs.length=nB E ops order+1
 On:st.length=hs.length
 first:st[0]? =some s.h
 last:hs[nB E ops order]? =some s'.h
 grown:∀(j:Nat) (a b:aq),st[j]? =some a→hs[j]? =some b→Grown a b
 step:∀(p:Nat) (x:Step),tr[p]? =some x→x.ts=zE ops s.ts (tr.take p)∧x.k=k+nB E ops (order.take p)∧
  ∃o hk sk,ops[x.i]? =some o∧hs[nB E ops (order.take p)]? =some hk∧st[nB E ops (order.take p)]? =some sk∧rP E call ops s.rc x o hk sk (st[nB E ops (order.take p)+1]?)
theorem pW (ops:Array Oper) (ts:List AV) (x:Step) (l:List Step):zE ops ts (x::l)=zE ops (cU ts (fq ops x.i) x.v) l:=rfl
theorem lY {call:aY} {ops:Array Oper}:∀{order:List Nat} {k:Nat} {s:St} {tr:List Step} {hs:List aq} {s':St} (_:ct E call ops order k s= .ok tr hs s'),
 ∃st,KI E call ops s k order tr hs st s'
 | [],k,s,tr,hs,s',h=>by
   simp [ct] at h;obtain ⟨rfl,rfl,rfl⟩:=h
   exact ⟨[s.h],rfl,rfl,rfl,rfl,rfl,rfl,rfl,rfl,fun j a b ha hb=>by
    cases j with
    | zero=>simp at ha hb;subst ha;subst hb;exact Grown.refl _
    | succ j=>simp at ha,fun p x hp=>by simp at hp⟩
 | i::rest,k,s,tr,hs,s',h=>by
   simp only[ct] at h
   cases ho:ops[i]? with
   | none=>rw[ho] at h;simp at h
   | some o=>
   rw[ho] at h
   simp only at h
   have Qb:ops.getD i default=o:=by simp [Array.getD_eq_getD_getElem?,ho]
   have KJ:fq ops i=o.dst:=by simp [fq,ho]
   have writes:∀(x:Step) (s1:St),x.i=i→x.k=k→x.ts=s.ts→s1.ts=cU s.ts o.dst x.v→s1.ds=s.ds→s1.rc=s.rc→eg E o.op=true→
    rP E call ops s.rc x o s.h s.h (some s1.h)→((ct E call ops rest (k+1) s1).bound s.h).step x= .ok tr hs s'→∃st,KI E call ops s k (i::rest) tr hs st s':=by
    intro x s1 Ft zF UC h1 h2 h3 he gZ hd
    cases hr:ct E call ops rest (k+1) s1 with
    | fail why q=>rw[hr] at hd;simp [hU.bound,hU.step] at hd
    | ok D1 oN s2=>
      rw[hr] at hd;simp [hU.bound,hU.step] at hd;obtain ⟨rfl,rfl,rfl⟩:=hd
      obtain ⟨GO,t⟩:=lY hr
      have hc:∀l,nB E ops (i::l)=nB E ops l+1:=fun l=>zC l (by rw[Qb];exact he)
      refine ⟨s.h::GO,by simp [Ft,t.is],?_,t.ds.trans h2,t.rc.trans h3,by simp [t.len,hc],by simp [t.On],rfl,by rw[hc];simpa using t.last,fun j a b ha hb=>?_,fun p y hp=>?_⟩
      · rw[pW,Ft,KJ,←h1];exact t.ts
      · cases j with
        | zero=>simp at ha hb;subst ha;subst hb;exact Grown.refl _
        | succ j=>exact t.grown j a b (by simpa using ha) (by simpa using hb)
      · cases p with
        | zero=>
          simp at hp;subst hp
          refine ⟨by simp [zE,UC],by simp [nB,zF],o,s.h,s.h,by rw[Ft];exact ho,by simp [nB],by simp [nB],?_⟩
          have:(s.h::GO)[nB E ops (List.take 0 (i::rest))+1]? =some s1.h:=by simp [nB];exact t.first
          rw[this];exact gZ
        | succ p=>
          obtain ⟨a1,a2,o2,hk,sk,a3,a4,a5,a6⟩:=t.step p y (by simpa using hp)
          refine ⟨?_,by rw[List.take_succ_cons,hc];omega,o2,hk,sk,a3,by rw[List.take_succ_cons,hc];simpa using a4,by rw[List.take_succ_cons,hc];simpa using a5,?_⟩
          · rw[List.take_succ_cons,pW,Ft,KJ,←h1];exact a1
          · rw[List.take_succ_cons,hc,h3] at *
            simpa using a6
   have plain:∀(x:Step) (s1:St),x.i=i→x.k=k→x.ts=s.ts→s1.ts=cU s.ts o.dst x.v→s1.ds=s.ds→s1.rc=s.rc→eg E o.op=false→Grown s.h s1.h→
    (∀hk sn,Grown s1.h hk→rP E call ops s.rc x o hk s.h sn)→(ct E call ops rest k s1).step x= .ok tr hs s'→∃st,KI E call ops s k (i::rest) tr hs st s':=by
    intro x s1 Ft zF UC h1 h2 h3 he hg gZ hd
    cases hr:ct E call ops rest k s1 with
    | fail why q=>rw[hr] at hd;simp [hU.step] at hd
    | ok D1 oN s2=>
      rw[hr] at hd;simp [hU.step] at hd;obtain ⟨rfl,rfl,rfl⟩:=hd
      obtain ⟨GO,t⟩:=lY hr
      have hc:∀l,nB E ops (i::l)=nB E ops l:=fun l=>zD l (by rw[Qb];simp [he])
      cases uN:GO with
      | nil=>have:=t.first;rw[uN] at this;simp at this
      | cons s0 UD=>
      have Kf:s0=s1.h:=by have:=t.first;rw[uN] at this;simpa using this
      subst Kf
      have eZ:∀j,(s.h::UD)[j+1]? =GO[j+1]? :=fun j=>by rw[uN];rfl
      refine ⟨s.h::UD,by simp [Ft,t.is],?_,t.ds.trans h2,t.rc.trans h3,by rw[hc];exact t.len,by have:=t.On;rw[uN] at this;simpa using this,rfl,by rw[hc];exact t.last,fun j a b ha hb=>?_,fun p y hp=>?_⟩
      · rw[pW,Ft,KJ,←h1];exact t.ts
      · cases j with
        | zero=>
          simp at ha;subst ha
          exact hg.trans (t.grown 0 _ b t.first hb)
        | succ j=>rw[eZ] at ha;exact t.grown (j+1) a b ha hb
      · cases p with
        | zero=>
          simp at hp;subst hp
          have h0:∃hk,oN[0]? =some hk:=by
           have:=t.len
           cases hh:oN with
           | nil=>rw[hh] at this;simp at this
           | cons a _=>exact ⟨a,rfl⟩
          obtain ⟨hk,uc⟩:=h0
          refine ⟨by simp [zE,UC],by simp [nB,zF],o,hk,s.h,by rw[Ft];exact ho,by simpa [nB] using uc,by simp [nB],?_⟩
          exact gZ hk _ (t.grown 0 _ hk t.first uc)
        | succ p=>
          obtain ⟨a1,a2,o2,hk,sk,a3,a4,a5,a6⟩:=t.step p y (by simpa using hp)
          have Q7:∃TC,(s.h::UD)[nB E ops (List.take p rest)]? =some TC∧TC.nx≤sk.nx:=by
           cases hq:nB E ops (List.take p rest) with
           | zero=>rw[hq] at a5;rw[t.first] at a5;simp at a5;subst a5;exact ⟨s.h,rfl,hg.nx⟩
           | succ q=>rw[hq] at a5;exact ⟨sk,by rw[eZ];exact a5,Nat.le_refl _⟩
          obtain ⟨TC,UE,UF⟩:=Q7
          refine ⟨?_,by rw[List.take_succ_cons,hc];exact a2,o2,hk,TC,a3,by rw[List.take_succ_cons,hc];exact a4,by rw[List.take_succ_cons,hc];exact UE,?_⟩
          · rw[List.take_succ_cons,pW,Ft,KJ,←h1];exact a1
          · rw[List.take_succ_cons,hc,eZ,←h3]
            unfold rP at a6 ⊢
            split<;>rename_i rQ<;>rw[rQ] at a6
            · exact a6
            · exact a6
            · exact a6
            · exact ⟨a6.1,a6.2.1,a6.2.2.1,Nat.le_trans UF a6.2.2.2.1,a6.2.2.2.2⟩
            · exact a6
   split at h
   · rename_i he
     split at h
     · rename_i hw
       split at h
       · rename_i v h' pc
         exact writes ⟨i,k,s.ts,v,.qi h'⟩ {s with ts:=cU s.ts o.dst v,h:=h'} rfl rfl rfl rfl rfl rfl he ⟨he,hw,pc,rfl⟩ h
       · simp at h
       · simp at h
     · rename_i hw
       exact writes ⟨i,k,s.ts,AV.undef,.off⟩ {s with ts:=cU s.ts o.dst AV.undef} rfl rfl rfl rfl rfl rfl he ⟨by simpa using hw,rfl,fun _=>rfl⟩ h
   · rename_i he
     have Ct:eg E o.op=false:=by simpa using he
     split at h
     · rename_i hw
       split at h
       · rename_i v hp
         exact plain ⟨i,k,s.ts,v,.fi⟩ {s with ts:=cU s.ts o.dst v} rfl rfl rfl rfl rfl rfl Ct (Grown.refl _) (fun hk sn _=>⟨Ct,hw,hp⟩) h
       · split at h
         · rename_i v hp
           exact plain ⟨i,k,s.ts,v,.red⟩ {s with ts:=cU s.ts o.dst v} rfl rfl rfl rfl rfl rfl Ct (Grown.refl _) (fun hk sn _=>⟨Ct,hw⟩) h
         · split at h
           · rename_i obj mk hp
             split at h
             · rename_i h' hn
               refine plain ⟨i,k,s.ts,mk s.h.nx,.oW s.h.nx obj⟩ {s with ts:=cU s.ts o.dst (mk s.h.nx),h:=h'} rfl rfl rfl rfl rfl rfl Ct (Grown.new hn) (fun hk sn g=>⟨Ct,hw,⟨mk,hp,rfl⟩,Nat.le_refl _,?_⟩) h
               have:=(aq.js hn).2.1
               have:=g.nx
               simp at this;omega
             · simp at h
           · simp at h
     · rename_i hw
       exact plain ⟨i,k,s.ts,AV.undef,.off⟩ {s with ts:=cU s.ts o.dst AV.undef} rfl rfl rfl rfl rfl rfl Ct (Grown.refl _) (fun hk sn _=>⟨by simpa using hw,rfl,fun h=>by rw[Ct] at h;simp at h⟩) h
end Go.Ab
end
section
namespace Go.Ab
variable {E:Env}
theorem pX (ops:Array Oper) (val:Nat→AV) (x:Nat):∀(l:List Nat) (ts:List AV) (_:∀j∈l,fq ops j≠some x),(mr ops val ts l)[x]? =ts[x]?
 | [],_,_=>rfl
 | i::l,ts,h=>by
   show (mr ops val (cU ts (fq ops i) (val i)) l)[x]? =_
   rw[pX ops val x l _ (fun j hj=>h j (by simp [hj]))]
   have:=h i (by simp)
   cases hd:fq ops i with
   | none=>rfl
   | some d=>
     rw[hd] at this
     have dt:d≠x:=fun e=>this (by rw[e])
     simp [cU,List.getElem?_set_ne dt]
theorem vH (ops:Array Oper) (val:Nat→AV) (x j:Nat) (hj:fq ops j=some x):∀(l:List Nat) (ts:List AV) (_:j∈l) (_:∀j'∈l,fq ops j'=some x→j'=j),(mr ops val ts l)[x]? =if x<ts.length then some (val j) else none
 | i::l,ts,hm,hu=>by
   show (mr ops val (cU ts (fq ops i) (val i)) l)[x]? =_
   have hlen:(cU ts (fq ops i) (val i)).length=ts.length:=by cases fq ops i<;>simp [cU]
   by_cases GP:j∈l
   · rw[vH ops val x j hj l _ GP (fun j' h=>hu j' (by simp [h])),hlen]
   · have WG:i=j:=by simp at hm;rcases hm with h | h;exact h.symm;exact absurd h GP
     subst WG
     rw[pX ops val x l _ (fun j' nJ e=>GP (hu j' (by simp [nJ]) e▸nJ))]
     rw[hj]
     simp [cU,List.getElem?_set]
theorem qQ {ops:Array Oper} {val:Nat→AV} {x:Nat} {l d:List Nat} (ts:List AV) (hu:∀j j',fq ops j=some x→fq ops j'=some x→j=j') (MF:∀j,fq ops j=some x→(j∈l↔j∈d)):
 (mr ops val ts l)[x]? =(mr ops val ts d)[x]? :=by
 by_cases h:∃j,fq ops j=some x∧j∈l
 · obtain ⟨j,hj,hl⟩:=h
   rw[vH ops val x j hj l ts hl (fun j' _ e=>hu j' j e hj),vH ops val x j hj d ts ((MF j hj).1 hl) (fun j' _ e=>hu j' j e hj)]
 · rw[pX ops val x l ts (fun j hj e=>h ⟨j,e,hj⟩),pX ops val x d ts (fun j hj e=>h ⟨j,e,(MF j e).2 hj⟩)]
theorem ti {l r:List AV} {x:Nat} (h:l[x]? =r[x]?) (d:AV):l.getD x d=r.getD x d:=by simp [List.getD,h]
def valOf (tr:List Step) (i:Nat):AV:=((tr.find? (fun x=>x.i==i)).map (·.v)).getD AV.undef
theorem A5 {tr:List Step} (hn:(tr.map (·.i)).Nodup) {p:Nat} {x:Step} (hp:tr[p]? =some x):valOf tr x.i=x.v:=by
 unfold valOf
 have:tr.find? (fun y=>y.i==x.i)=some x:=by
  rw[List.find?_eq_some_iff_getElem]
  obtain ⟨jT,hx⟩:=List.getElem?_eq_some_iff.1 hp
  refine ⟨by simp,p,jT,hx,fun j hj=>?_⟩
  have GP:j<tr.length:=by omega
  simp only[Bool.not_eq_true',beq_eq_false_iff_ne]
  intro e
  have h1:(tr.map (·.i))[j]? =some x.i:=by simp [GP,e]
  have h2:(tr.map (·.i))[p]? =some x.i:=by simp [jT,hx]
  have:=(List.getElem?_inj (by simpa using GP) hn).1 (h1.trans h2.symm)
  omega
 rw[this];rfl
theorem zG (ops:Array Oper) {tr:List Step} (hn:(tr.map (·.i)).Nodup) (ts:List AV) (p:Nat):zE ops ts (tr.take p)=mr ops (valOf tr) ts ((tr.map (·.i)).take p):=by
 have key:∀(l:List Step) (ts:List AV),(∀x∈l,valOf tr x.i=x.v)→zE ops ts l=mr ops (valOf tr) ts (l.map (·.i)):=by
  intro l
  induction l with
  | nil=>intro ts _;rfl
  | cons x l ih=>
    intro ts h
    show zE ops (cU ts (fq ops x.i) x.v) l=mr ops (valOf tr) (cU ts (fq ops x.i) (valOf tr x.i)) (l.map (·.i))
    rw[h x (by simp),ih _ (fun y hy=>h y (by simp [hy]))]
 rw[key _ _ (fun x hx=>?_),List.map_take]
 obtain ⟨q,hq⟩:=List.getElem?_of_mem (List.mem_of_mem_take hx)
 exact A5 hn hq
theorem OK.place {φ:Ph} {h:aq} {w:World} (ok:OK E φ h w) {n:Nat} {obj:aP} (hg:h.get n=some obj) (zn:φ n=none) (jT:n<h.nx) {O:Obj}
 (ho:OR E (φ.add n ⟨w.heap.size,0,0⟩) obj ⟨w.heap.size,0,0⟩ (some O)):OK E (φ.add n ⟨w.heap.size,0,0⟩) h (w.alloc O)∧φ.le (φ.add n ⟨w.heap.size,0,0⟩):=by
 have hle:φ.le (φ.add n ⟨w.heap.size,0,0⟩):=fun j m hm=>by
  unfold Ph.add;split
  · rename_i e;subst e;rw[zn] at hm;simp at hm
  · exact hm
 have iA:∀j,j≠n→(φ.add n ⟨w.heap.size,0,0⟩) j=φ j:=fun j hj=>by simp [Ph.add,hj]
 have fN:(φ.add n ⟨w.heap.size,0,0⟩) n=some ⟨w.heap.size,0,0⟩:=by simp [Ph.add]
 have MG:(w.alloc O).heap=w.heap.push O:=rfl
 have xD:∀j p m,h.get j=some p→φ j=some m→m.eV<w.heap.size:=fun j p m hj hm=>by
  have xu:=ok.live j p m hj hm
  rcases Nat.lt_or_ge m.eV w.heap.size with a | a
  · exact a
  · exfalso
    rw[Array.getElem?_eq_none a] at xu
    exact xu.absurd
 refine ⟨⟨fun j m hm=>?_,ok.nx,fun g hg=>hle _ _ (ok.qI g hg),fun j p m hj hm=>?_,fun j k p q m r hj hk hm hr hw hb=>?_⟩,hle⟩
 · by_cases e:j=n
   · omega
   · rw[iA j e] at hm;exact ok.uJ j m hm
 · by_cases e:j=n
   · subst e;rw[fN] at hm;simp at hm;subst hm;rw[hg] at hj;simp at hj;subst hj;rw[MG];simpa using ho
   · rw[iA j e] at hm
     have hb:=xD j p m hj hm
     rw[MG,Array.getElem?_push,if_neg (by omega)]
     exact (ok.live j p m hj hm).mono hle
 · by_cases e:j=n<;>by_cases e':k=n
   · rw[e,e']
   · subst e;rw[fN] at hm;simp at hm;subst hm;rw[iA k e'] at hr;have:=xD k q r hk hr;simp at hb;omega
   · subst e';rw[fN] at hr;simp at hr;subst hr;rw[iA j e] at hm;have:=xD j p m hj hm;simp at hb;omega
   · rw[iA j e] at hm;rw[iA k e'] at hr;exact ok.inj j k p q m r hj hk hm hr hw hb
theorem Fr.place {φ₀ φ:Ph} {h₀ h:aq} {w₀ w:World} (f:Fr φ₀ h₀ w₀ φ h w) {n:Nat} (hn:h₀.nx≤n) (zn:φ n=none) (O:Obj):Fr φ₀ h₀ w₀ (φ.add n ⟨w.heap.size,0,0⟩) h (w.alloc O):=by
 have iA:∀j,j≠n→(φ.add n ⟨w.heap.size,0,0⟩) j=φ j:=fun j hj=>by simp [Ph.add,hj]
 have fN:(φ.add n ⟨w.heap.size,0,0⟩) n=some ⟨w.heap.size,0,0⟩:=by simp [Ph.add]
 refine ⟨fun j m hm=>?_,fun i hi=>by rw[iA i (by omega)];exact f.old i hi,f.nx,f.os,f.tape,f.output,by have:=f.size;simp;omega,fun b hb Tq=>?_,fun i o l hi hr hl=>?_⟩
 · by_cases e:j=n
   · subst e;have:=f.ext j m hm;rw[zn] at this;simp at this
   · rw[iA j e];exact f.ext j m hm
 · have:=f.size
   rw[show (w.alloc O).heap=w.heap.push O from rfl,Array.getElem?_push,if_neg (by omega)]
   exact f.xC b hb Tq
 · by_cases e:i=n
   · subst e;rw[fN] at hl;simp at hl;subst hl;exact .inl f.size
   · rw[iA i e] at hl;exact f.own i o l hi hr hl
theorem filter_le {P:Nat→Bool} {l:List Nat} {K:Nat} (h:∀q e,l[q]? =some e→P e=true→q<K):(l.filter P).length≤K:=by
 have h1:(l.drop K).filter P=[]:=by
  rw[List.filter_eq_nil_iff]
  intro e he hP
  obtain ⟨q,hq⟩:=List.getElem?_of_mem he
  rw[List.getElem?_drop] at hq
  have:=h _ e hq hP
  omega
 calc (l.filter P).length=((l.take K++l.drop K).filter P).length:=by rw[List.take_append_drop]
  _=((l.take K).filter P).length:=by rw[List.filter_append,h1,List.append_nil]
  _≤(l.take K).length:=List.length_filter_le _ _
  _≤K:=by simp;omega
theorem rR {P:Nat→Bool}:∀{l:List Nat} {e:Nat} (_:l[(l.takeWhile P).length]? =some e),P e=false
 | [],e,h=>by simp at h
 | x::l,e,h=>by
   by_cases hx:P x=true
   · rw[List.takeWhile_cons_of_pos hx] at h
     exact rR (l:=l) (by simpa using h)
   · rw[List.takeWhile_cons_of_neg hx] at h
     simp at h;subst h;simpa using hx
end Go.Ab
end
section
namespace Go.Ab
variable {E:Env}
structure zH (E:Env) (call:aY) (ops:Array Oper) (pl:jZ) (s s':St) (tr:List Step) (hs st:List aq):Prop where
 oH:vG E ops pl
 trace:KI E call ops s 0 pl.order tr hs st s'
 still:∀x∈tr,∀K hk,x.k≤K→K≤iv pl.bA pl.an x.i→hs[K]? =some hk→g8 E ops x hk=true
 ids:∀(x y:Step),x∈tr→y∈tr→∀(n:Nat) (o q:aP),x.kind= .oW n o→y.kind= .oW n q→x.i=y.i
structure Inv (E:Env) (ops:Array Oper) (pl:jZ) (s:St) (tr:List Step) (hs st:List aq) (φ₀:Ph) (w₀:World) (ru:List Deferred) (d:List Nat) (bF:Array Bool) (K:Nat) (φ:Ph) (a:Act) (w:World):Prop where
 nd:d.Nodup
 lt:∀i∈d,i<ops.size
 bF:∀i,i<ops.size→bF[i]? =some (decide (i∈d))
 closed:∀i∈d,∀j,cN pl.an i j=true→j∈d
 bA:∀q e,pl.bA[q]? =some e→(e∈d↔q<K)
 UG:K≤pl.bA.length
 ts:LR φ (mr ops (valOf tr) s.ts d) a.tmps.toList
 ds:a.defers=ru
 ok:∃hK,hs[K]? =some hK∧OK E φ hK w∧Fr φ₀ s.h w₀ φ hK w
 gH:∀x∈tr,∀n obj,x.kind= .oW n obj→x.i ∉ d→x.k≤K→φ n=none∧s.h.nx≤n∧∀hK,hs[K]? =some hK→n<hK.nx
section
variable {call:aY} {ops:Array Oper} {pl:jZ} {s s':St} {tr:List Step} {hs st:List aq}
theorem zH.at (r:zH E call ops pl s s' tr hs st) {p:Nat} {x:Step} (hp:tr[p]? =some x):
 pl.order[p]? =some x.i∧x.i ∉ pl.order.take p∧(∀j,cN pl.an x.i j=true→j∈pl.order.take p)∧x.k=nB E ops (pl.order.take p)∧
 ∃o,ops[x.i]? =some o∧(eg E o.op=true→pl.bA[x.k]? =some x.i)∧(eg E o.op=false→zl pl.bA pl.an x.i=x.k):=by
 have h1:pl.order[p]? =some x.i:=by rw[←r.trace.is,List.getElem?_map,hp];rfl
 obtain ⟨h2,_,_⟩:=gz r.oH.order
 obtain ⟨a1,a2,a3,a4,a5,a6⟩:=h2 p x.i h1
 obtain ⟨b1,b2,o,hk,sk,b3,_⟩:=r.trace.step p x hp
 have Qb:ops.getD x.i default=o:=by simp [Array.getD_eq_getD_getElem?,b3]
 rw[Qb] at a5 a6
 have AN:x.k=nB E ops (pl.order.take p):=by omega
 refine ⟨h1,a3,fun j hj=>(a4 j hj).resolve_left (by simp),AN,o,b3,fun he=>?_,fun he=>?_⟩
 · have:=a5 he;rw[AN];simpa using this
 · have:=a6 he;omega
theorem qx:∀{l:List Nat} (_:∀(p i:Nat),l[p]? =some i→i ∉ l.take p),l.Nodup
 | [],_=> .nil
 | x::l,h=>by
   refine List.nodup_cons.2 ⟨fun hm=>?_,qx (fun p i hp hi=>h (p+1) i (by simpa using hp) (by simp [hi]))⟩
   obtain ⟨q,hq⟩:=List.getElem?_of_mem hm
   exact h (q+1) x (by simpa using hq) (by simp)
theorem zH.nodup (r:zH E call ops pl s s' tr hs st):pl.order.Nodup:=by
 obtain ⟨h2,_,_⟩:=gz r.oH.order
 exact qx (fun p i hp=>(h2 p i hp).2.2.1)
theorem zH.all (r:zH E call ops pl s s' tr hs st) {i:Nat} (hi:i<ops.size):∃(p:Nat) (x:Step),tr[p]? =some x∧x.i=i:=by
 obtain ⟨_,h3,_⟩:=gz r.oH.order
 have:=(h3 i hi).resolve_left (by simp)
 rw[←r.trace.is] at this
 obtain ⟨x,hx,rfl⟩:=List.mem_map.1 this
 obtain ⟨p,hp⟩:=List.getElem?_of_mem hx
 exact ⟨p,x,hp,rfl⟩
theorem rS {ops:Array Oper} {pl:jZ} (UH:vG E ops pl) {x j j':Nat} (h:fq ops j=some x) (h':fq ops j'=some x):j=j':=by
 unfold fq at h h'
 cases ho:ops[j]? with
 | none=>rw[ho] at h;simp at h
 | some o=>
 cases A6:ops[j']? with
 | none=>rw[A6] at h';simp at h'
 | some o'=>
 rw[ho] at h;rw[A6] at h'
 simp at h h'
 rcases Nat.decEq j j' with dt | he
 · exact absurd h (UH.slot j j' o o' x dt ho A6 h').1
 · exact he
theorem MH (r:zH E call ops pl s s' tr hs st) {p:Nat} {x:Step} {o:Oper} (hp:tr[p]? =some x) (ho:ops[x.i]? =some o) {d:List Nat} (hd:x.i ∉ d) (Oo:∀i∈d,∀j,cN pl.an i j=true→j∈d)
 (nR:∀j,cN pl.an x.i j=true→j∈d):yp E x.ts (mr ops (valOf tr) s.ts d) o.op∧b_ ops (mr ops (valOf tr) s.ts d) o=b_ ops x.ts o:=by
 obtain ⟨h1,h2,h3,_,_⟩:=r.at hp
 have mq:(tr.map (·.i)).Nodup:=by rw[r.trace.is];exact r.nodup
 have Hy:x.ts=mr ops (valOf tr) s.ts (pl.order.take p):=by
  rw[(r.trace.step p x hp).1,zG ops mq,r.trace.is]
 have Ys:∀j∈pl.order.take p,∀m,cN pl.an j m=true→m∈pl.order.take p:=by
  intro j hj m hm
  obtain ⟨q,hq⟩:=List.getElem?_of_mem hj
  have WI:q<p:=by
   have:=(List.getElem?_eq_some_iff.1 hq).1
   simp at this;omega
  have TD:pl.order[q]? =some j:=by rw[List.getElem?_take] at hq;rw[if_pos WI] at hq;exact hq
  obtain ⟨f1,_,_⟩:=gz r.oH.order
  have:=((f1 q j TD).2.2.2.1 m hm).resolve_left (by simp)
  exact List.mem_of_mem_take (i:=q) (l:=pl.order.take p) (by rw[List.take_take,Nat.min_eq_left (Nat.le_of_lt WI)];exact this)
 have same:∀t,(∀j p',j≠x.i→ops[j]? =some p'→p'.dst=some t→cN pl.an x.i j=true∨cN pl.an j x.i=true)→(mr ops (valOf tr) s.ts (pl.order.take p))[t]? =(mr ops (valOf tr) s.ts d)[t]? :=by
  intro t ht
  refine qQ s.ts (fun j j' a b=>rS r.oH a b) (fun j hj=>?_)
  by_cases MI:j=x.i
  · subst MI;exact ⟨fun h=>absurd h h2,fun h=>absurd h hd⟩
  · obtain ⟨p',MJ,MK⟩:∃p',ops[j]? =some p'∧p'.dst=some t:=by
     unfold fq at hj
     cases ML:ops[j]? with
     | none=>rw[ML] at hj;simp at hj
     | some p'=>rw[ML] at hj;exact ⟨p',rfl,by simpa using hj⟩
    rcases ht j p' MI MJ MK with h | h
    · exact ⟨fun _=>nR j h,fun _=>h3 j h⟩
    · exact ⟨fun hm=>absurd (Ys j hm _ h) h2,fun hm=>absurd (Oo j hm _ h) hd⟩
 rw[Hy]
 refine ⟨fun y hy=>?_,?_⟩
 · cases y with
   | tmp t=>
     have ht:t∈tmpsOf o:=by
      unfold tmpsOf;rw[List.mem_filterMap];exact ⟨.tmp t,by simpa using hy,rfl⟩
     simp only[dr]
     rw[ti (same t (fun j p' dt MJ MK=>(r.oH.slot x.i j o p' t (Ne.symm dt) ho MJ MK).2 ht))]
   | const c=>rfl
   | global g=>rfl
   | func f=>rfl
 · unfold b_
   cases hg:o.guard with
   | none=>rfl
   | some gw=>
     obtain ⟨g,want⟩:=gw
     simp only
     cases Yt:(ops[g]?).bind (·.dst) with
     | none=>rfl
     | some t=>
       simp only
       have Om:=r.oH.guard x.i o g want ho hg
       rw[same t (fun j p' dt MJ MK=>by
        have:j=g:=rS r.oH (x:=t) (by unfold fq;rw[MJ];simpa using MK) Yt
        subst this;exact .inl Om)]
end
end Go.Ab
end
section
namespace Go.Ab
variable {E:Env}
section
variable {call:aY} {ops:Array Oper} {pl:jZ} {s s':St} {tr:List Step} {hs st:List aq}
theorem yq {l:List Oper} {i:Nat}:i∈kP E l↔∃o,l[i]? =some o∧eg E o.op=true:=by
 unfold kP
 simp only[List.mem_map,List.mem_filter,Prod.exists]
 constructor
 · rintro ⟨o,j,⟨h1,h2⟩,rfl⟩
   exact ⟨o,by rw[List.mk_mem_zipIdx_iff_getElem?] at h1;exact h1,h2⟩
 · rintro ⟨o,h1,h2⟩
   exact ⟨o,i,⟨by rw[List.mk_mem_zipIdx_iff_getElem?];exact h1,h2⟩,rfl⟩
theorem vG.KK (UH:vG E ops pl) {i:Nat} {o:Oper} (ho:ops[i]? =some o):i∈pl.bA↔eg E o.op=true:=by
 rw[UH.bA,yq]
 constructor
 · rintro ⟨o',h1,h2⟩
   have:ops.toList[i]? =some o:=by simpa using ho
   rw[this] at h1;simp at h1;subst h1;exact h2
 · intro h;exact ⟨o,by simpa using ho,h⟩
theorem Inv.vI {φ₀ φ:Ph} {w₀ w:World} {ru:List Deferred} {d:List Nat} {bF:Array Bool} {K:Nat} {a:Act} (r:zH E call ops pl s s' tr hs st) (inv:Inv E ops pl s tr hs st φ₀ w₀ ru d bF K φ a w)
 {x:Step} (hx:pl.bA[x.k]? =some x.i) (hd:x.i ∉ d) (nR:∀j,cN pl.an x.i j=true→j∈d):x.k=K:=by
 have h1:¬x.k<K:=fun h=>hd ((inv.bA x.k x.i hx).2 h)
 rcases Nat.lt_or_ge K x.k with h | h
 · exfalso
   obtain ⟨q,hq⟩:∃q,x.k=q+1:=⟨x.k - 1,by omega⟩
   have jT:q<pl.bA.length:=by have:=(List.getElem?_eq_some_iff.1 hx).1;omega
   have TD:pl.bA[q]? =some pl.bA[q]:=by simp [jT]
   have:=r.oH.chain q _ x.i TD (by rw[←hq];exact hx)
   have:=(inv.bA q _ TD).1 (nR _ this)
   omega
 · omega
theorem Inv.Hz {φ₀ φ:Ph} {w₀ w:World} {ru:List Deferred} {d:List Nat} {bF:Array Bool} {K:Nat} {a:Act} (inv:Inv E ops pl s tr hs st φ₀ w₀ ru d bF K φ a w)
 {i:Nat} (hd:i ∉ d) (nR:∀j,cN pl.an i j=true→j∈d):zl pl.bA pl.an i≤K∧K≤iv pl.bA pl.an i:=by
 refine ⟨filter_le (fun q e hq he=>(inv.bA q e hq).1 (nR e he)),?_⟩
 rcases Nat.lt_or_ge (iv pl.bA pl.an i) K with h | h
 · exfalso
   have jT:iv pl.bA pl.an i<pl.bA.length:=by have:=inv.UG;omega
   have hq:pl.bA[iv pl.bA pl.an i]? =some pl.bA[iv pl.bA pl.an i]:=by simp [jT]
   have h1:=rR (P:=fun e=> !cN pl.an e i) hq
   simp only[Bool.not_eq_false'] at h1
   exact hd (inv.closed _ ((inv.bA _ _ hq).2 h) i h1)
 · exact h
theorem Fu (ops:Array Oper) (val:Nat→AV) (ts:List AV) (d:List Nat) (i:Nat):mr ops val ts (d++[i])=cU (mr ops val ts d) (fq ops i) (val i):=by
 simp [mr]
theorem Inv.snoc {φ₀ φ φ':Ph} {w₀ w w':World} {ru:List Deferred} {d:List Nat} {bF:Array Bool} {K K':Nat} {a:Act} (r:zH E call ops pl s s' tr hs st) (inv:Inv E ops pl s tr hs st φ₀ w₀ ru d bF K φ a w)
 {p:Nat} {x:Step} {o:Oper} (hp:tr[p]? =some x) (ho:ops[x.i]? =some o) (hd:x.i ∉ d) (nR:∀j,cN pl.an x.i j=true→j∈d) (hle:φ.le φ') {v':Value} (hv:VR φ' x.v v')
 (hK:(eg E o.op=false∧K'=K)∨(eg E o.op=true∧x.k=K∧pl.bA[x.k]? =some x.i∧K'=K+1))
 (lT:∃hK,hs[K']? =some hK∧OK E φ' hK w'∧Fr φ₀ s.h w₀ φ' hK w')
 (Q8:∀y∈tr,∀n obj,y.kind= .oW n obj→y.i ∉ d→y.i≠x.i→y.k≤K'→φ' n=none∧s.h.nx≤n∧∀hK,hs[K']? =some hK→n<hK.nx):
 Inv E ops pl s tr hs st φ₀ w₀ ru (d++[x.i]) (bF.setIfInBounds x.i true) K' φ' (a.put o.dst v') w':=by
 have mq:(tr.map (·.i)).Nodup:=by rw[r.trace.is];exact r.nodup
 have jT:x.i<ops.size:=(Array.getElem?_eq_some_iff.1 ho).1
 refine ⟨?_,fun i hi=>?_,fun i hi=>?_,fun i hi j hj=>?_,fun q e hq=>?_,?_,?_,by rw[put_defers];exact inv.ds,lT,fun y hy n obj vy UI UJ=>?_⟩
 · rw[List.nodup_append];exact ⟨inv.nd,by simp,fun a ha b hb=>by simp at hb;subst hb;exact fun e=>hd (e▸ha)⟩
 · simp at hi;rcases hi with h | rfl
   · exact inv.lt i h
   · exact jT
 · have h1:=inv.bF i hi
   by_cases e:x.i=i
   · subst e
     have He:x.i<bF.size:=(Array.getElem?_eq_some_iff.1 h1).1
     rw[Array.getElem?_setIfInBounds];simp [He]
   · rw[Array.getElem?_setIfInBounds_ne e,h1]
     simp [show i≠x.i from fun h=>e h.symm]
 · simp at hi;rcases hi with h | rfl
   · exact List.mem_append_left _ (inv.closed i h j hj)
   · exact List.mem_append_left _ (nR j hj)
 · rcases hK with ⟨he,rfl⟩ | ⟨he,zF,TE,rfl⟩
   · have dt:e≠x.i:=fun h=>by
      subst h
      have:=(r.oH.KK ho).1 (List.mem_of_getElem? hq)
      rw[he] at this;simp at this
     simp [dt,inv.bA q e hq]
   · have Yu:e=x.i↔q=K:=by
      constructor
      · intro h;subst h
        have:=(List.getElem?_inj (List.getElem?_eq_some_iff.1 hq).1 r.oH.nd).1 (hq.trans TE.symm)
        omega
      · intro h;subst h;rw[←zF,TE] at hq;simpa using hq.symm
     simp only[List.mem_append,List.mem_singleton,inv.bA q e hq,Yu]
     omega
 · rcases hK with ⟨he,rfl⟩ | ⟨he,zF,TE,rfl⟩
   · exact inv.UG
   · have:=(List.getElem?_eq_some_iff.1 TE).1;omega
 · rw[Fu,A5 mq hp]
   have:fq ops x.i=o.dst:=by simp [fq,ho]
   rw[this]
   exact Hs (inv.ts.mono hle) o.dst hv
 · simp only[List.mem_append,List.mem_singleton,not_or] at UI
   exact Q8 y hy n obj vy UI.1 UI.2 UJ
theorem Fv (hE:iJ E) {call:aY} (cH:fP E call) {ts:List AV} {h h':aq} {rc:RC} {o:Oper} {v:AV} (pc:cD E call ts h rc o= .val v h') {i:Nat} {rest:List Nat} (ho:ops[i]? =some o)
 {φ:Ph} {a:Act} {w:World} {b:Frame} {k:List Item} {K:Bool→List Frame} (Hy:LR φ ts a.tmps.toList) (ok:OK E φ h w) (eT:kT φ b K rc) (hw:Region.wanted o (yielded ops a.tmps)=true):
 ∃φ' w' v',VR φ' v v'∧OK E φ' h' w'∧Fr φ h w φ' h' w'∧Steps E.P (lone (b.atR a (.inRegion ops (i::rest)::k)) (cur K rc) w) (lone (b.atR (a.put o.dst v') (.inRegion ops rest::k)) (cur K rc) w'):=by
 have s_:=qO hE cH (rc:=rc) (o:=o) Hy ok
 have mq:rc.lW=false∨∀c,o.op≠ .defer c:=by
  by_cases hd:∃c,o.op= .defer c
  · obtain ⟨c,hd⟩:=hd
    unfold cD at pc
    simp only[hd] at pc
    split at pc<;>simp at pc
  · exact .inr (fun c e=>hd ⟨c,e⟩)
 have jd:=nP eT mq a.eval
 rw[pc] at s_
 cases s_ with
 | val v h' φ' w' v' hv oO fr run=>exact ⟨φ',w',v',hv,oO,fr,.one (kA jd ho hw run)⟩
 | skip h' φ' w' oO fr run=>exact ⟨φ',w',undef,.undef φ',oO,fr,.one (AZ jd ho hw run)⟩
 | enter v h' F args all hr hf hl run=>
   obtain ⟨n,start,hp,gZ⟩:=hr φ w all ok hf hl
   obtain ⟨φ',w',v',hv,oO,fr,gR⟩:=gZ (b.atR a (.inRegion ops (i::rest)::k)) (cur K rc)
   rw[pU ho] at gR
   exact ⟨φ',w',v',hv,oO,fr,.head (rI jd ho hw hp (run n start hp)) gR⟩
 | Hv dt xw run=>
   have zn:∀fr:Frame,fr.kind=b.kind→tryRecover fr (cur K rc)=none:=by
    cases zA:rc with
    | no=>rw[zA] at eT;exact eT.2
    | gH v=>exact absurd zA (dt v)
    | done=>rw[zA] at eT;exact eT.2
    | AE l=>rw[zA] at xw;simp [RC.lW] at xw
   exact ⟨φ,w,.nilIface,.nilIface,ok,Fr.refl _ _ _,.one (qw (eT.plain xw) jd ho hw run (zn _ rfl))⟩
theorem Inv.D2 (hE:iJ E) {yr:aY} (cH:fP E yr) {φ₀ φ:Ph} {w₀ w:World} {ru:List Deferred} {d:List Nat} {bF:Array Bool} {K:Nat} {a:Act} (r:zH E call ops pl s s' tr hs st) (inv:Inv E ops pl s tr hs st φ₀ w₀ ru d bF K φ a w)
 {b:Frame} {k:List Item} {Ks:Bool→List Frame} (eT:kT φ₀ b Ks s.rc) {i:Nat} (hi:i<ops.size) (hd:i ∉ d) (nR:∀j,cN pl.an i j=true→j∈d)
 (yu:∀(x:Step) (o:Oper) (hk h':aq),x∈tr→x.i=i→ops[x.i]? =some o→hs[x.k]? =some hk→x.kind= .qi h'→cD E yr x.ts hk s.rc o= .val x.v h') (rest:List Nat):
 ∃K' φ' a' w',Inv E ops pl s tr hs st φ₀ w₀ ru (d++[i]) (bF.setIfInBounds i true) K' φ' a' w'∧
  Steps E.P (lone (b.atR a (.inRegion ops (i::rest)::k)) (cur Ks s.rc) w) (lone (b.atR a' (.inRegion ops rest::k)) (cur Ks s.rc) w'):=by
 obtain ⟨p,x,hp,rfl⟩:=r.all hi
 have Oc:x∈tr:=List.mem_of_getElem? hp
 obtain ⟨h1,h2,h3,hk,o,ho,pc,MN⟩:=r.at hp
 obtain ⟨_,_,o',TB,WK,A6,uc,Q7,gZ⟩:=r.trace.step p x hp
 rw[ho] at A6;simp at A6;subst A6
 rw[←hk] at uc Q7 gZ
 obtain ⟨UK,HA⟩:=MH r hp ho hd inv.closed nR
 obtain ⟨hK,MO,ok,fr⟩:=inv.ok
 have Kg:Region.wanted o (yielded ops a.tmps)=b_ ops x.ts o:=by rw[qN inv.ts o,HA]
 have KL:yp E (mr ops (valOf tr) s.ts d) x.ts o.op:=fun y hy=>(UK y hy).symm
 have same:∀y∈tr,∀n obj,y.kind= .oW n obj→y.i ∉ d→y.i≠x.i→y.k≤K→φ n=none∧s.h.nx≤n∧∀hK,hs[K]? =some hK→n<hK.nx:=
  fun y hy n obj a1 a2 _ a3=>inv.gH y hy n obj a1 a2 a3
 have wrote:∀(φ':Ph) (h':aq) (w':World),x.k=K→st[K+1]? =some h'→OK E φ' h' w'→Fr φ hK w φ' h' w'→
  ∃D3,hs[K+1]? =some D3∧OK E φ' D3 w'∧Fr φ₀ s.h w₀ φ' D3 w'∧
  ∀y∈tr,∀n obj,y.kind= .oW n obj→y.i ∉ d→y.i≠x.i→y.k≤K+1→φ' n=none∧s.h.nx≤n∧∀hK,hs[K+1]? =some hK→n<hK.nx:=by
  intro φ' h' w' zF Oq oO Cu
  have jT:K+1<hs.length:=by rw[←r.trace.On];exact (List.getElem?_eq_some_iff.1 Oq).1
  have UL:hs[K+1]? =some hs[K+1]:=by simp [jT]
  have g:=r.trace.grown (K+1) h' _ Oq UL
  obtain ⟨vJ,Ot⟩:=oO.grown g
  have Kh:=(fr.trans Cu).trans Ot
  refine ⟨_,UL,vJ,Kh,fun y hy n obj a1 a2 a3 a4=>?_⟩
  have P6:∀D3,hs[K+1]? =some D3→D3=hs[K+1]:=fun D3 e=>by rw[UL] at e;simpa using e.symm
  rcases Nat.lt_or_ge K y.k with h | h
  ·
   have UJ:y.k=K+1:=by omega
   obtain ⟨q,hq⟩:=List.getElem?_of_mem hy
   obtain ⟨_,_,_,UM,oy,Yv,_,_⟩:=r.at hq
   obtain ⟨_,_,Yw,UN,UO,UP,xJ,xK,CY⟩:=r.trace.step q y hq
   rw[←UM,UJ] at xJ xK
   rw[Oq] at xK;simp at xK;subst xK
   unfold rP at CY
   rw[a1] at CY
   obtain ⟨_,_,_,Tz,Qc⟩:=CY
   refine ⟨?_,?_,fun D3 e=>?_⟩
   · cases hφ:φ' n with
     | none=>rfl
     | some l=>have:=oO.uJ n l hφ;omega
   · have:=(fr.trans Cu).nx;omega
   · rw[e] at xJ;simp at xJ;subst xJ;exact Qc
  · obtain ⟨b1,b2,b3⟩:=inv.gH y hy n obj a1 a2 h
    have hn:=b3 hK MO
    refine ⟨by rw[Cu.old n hn];exact b1,b2,fun D3 e=>?_⟩
    have:=Cu.nx;have:=g.nx
    rw[P6 _ e];omega
 have still:eg E o.op=false→g8 E ops x hK=true:=fun he=>by
  obtain ⟨w1,w2⟩:=inv.Hz hd nR
  exact r.still x Oc K hK (by rw[←MN he];exact w1) w2 MO
 have Qb:ops.getD x.i default=o:=by simp [Array.getD_eq_getD_getElem?,ho]
 have skip:b_ ops x.ts o=false→step E.P (lone (b.atR a (.inRegion ops (x.i::rest)::k)) (cur Ks s.rc) w)= .next (lone (b.atR (a.put o.dst undef) (.inRegion ops rest::k)) (cur Ks s.rc) w):=fun hw=>by
  have:=stepR_op_skip (P:=E.P) (b:=b) (a:=a) (k:=k) (cs:=cur Ks s.rc) (w:=w) (ops:=ops) (i:=x.i) (rest:=rest) (by rw[ho];simp;rw[Kg];exact hw)
  rw[this,ho];rfl
 unfold rP at gZ
 split at gZ
 ·
  obtain ⟨hw,hv,hn⟩:=gZ
  have TF:VR φ x.v undef:=by rw[hv];exact .undef φ
  by_cases he:eg E o.op=true
  · have zF:=inv.vI r (pc he) hd nR
    have uN:=hn he
    rw[zF] at uN uc
    rw[MO] at uc;simp at uc;subst uc
    obtain ⟨D3,q1,q2,q3,q4⟩:=wrote φ hK w zF uN ok (Fr.refl _ _ _)
    exact ⟨K+1,φ,_,w,inv.snoc r hp ho hd nR (Ph.le_refl φ) TF (.inr ⟨he,zF,pc he,rfl⟩) ⟨D3,q1,q2,q3⟩ q4,.one (skip hw)⟩
  · have Ct:eg E o.op=false:=by simpa using he
    exact ⟨K,φ,_,w,inv.snoc r hp ho hd nR (Ph.le_refl φ) TF (.inl ⟨Ct,rfl⟩) inv.ok same,.one (skip hw)⟩
 ·
  obtain ⟨he,hw,TG⟩:=gZ
  rw[←A2 KL] at TG
  have mq:∀c,o.op≠ .defer c:=fun c e=>by rw[e] at TG;simp [bm] at TG
  obtain ⟨v',hv,hr⟩:=tY hE.ext ok.gl inv.ts TG
  exact ⟨K,φ,_,w,inv.snoc r hp ho hd nR (Ph.le_refl φ) hv (.inl ⟨he,rfl⟩) inv.ok same,.one (kA (nP eT (.inr mq) _) ho (Kg.trans hw) (hr w))⟩
 ·
  rename_i rQ
  obtain ⟨he,hw⟩:=gZ
  have oN:=still he
  unfold g8 at oN
  rw[rQ] at oN
  simp only[Qb] at oN
  cases Qd:c9 E x.ts hK o.op with
  | none=>rw[Qd] at oN;simp at oN
  | some v1=>
    rw[Qd] at oN
    have Tu:=AV.rM _ _ _ oN
    subst Tu
    rw[←A3 KL] at Qd
    have mq:∀c,o.op≠ .defer c:=fun c e=>by rw[e] at Qd;simp [c9] at Qd
    obtain ⟨v',hv,hr⟩:=ua ok.gl ok inv.ts Qd
    exact ⟨K,φ,_,w,inv.snoc r hp ho hd nR (Ph.le_refl φ) hv (.inl ⟨he,rfl⟩) inv.ok same,.one (kA (nP eT (.inr mq) _) ho (Kg.trans hw) (hr w rfl))⟩
 ·
  rename_i n obj rQ
  obtain ⟨he,hw,⟨mk,TH,Yx⟩,_,_⟩:=gZ
  have oN:=still he
  unfold g8 at oN
  rw[rQ] at oN
  simp only at oN
  cases UQ:hK.get n with
  | none=>rw[UQ] at oN;simp at oN
  | some o1=>
    rw[UQ] at oN
    have Yy:=aP.rM oN
    subst Yy
    obtain ⟨w1,_⟩:=inv.Hz hd nR
    obtain ⟨zn,UR,US⟩:=inv.gH x Oc n o1 rQ hd (by rw[←MN he];exact w1)
    rw[←zB KL] at TH
    have mq:∀c,o.op≠ .defer c:=fun c e=>by rw[e] at TH;simp [dj] at TH
    obtain ⟨O,mk',A1,hr⟩:=rF ok.gl inv.ts TH
    have hle:φ.le (φ.add n ⟨w.heap.size,0,0⟩):=fun j m hm=>by
     unfold Ph.add;split
     · rename_i e;subst e;rw[zn] at hm;simp at hm
     · exact hm
    obtain ⟨vJ,_⟩:=ok.place UQ zn (US hK MO) (A1.obj _ w.heap.size hle)
    have hv:=A1.val (φ.add n ⟨w.heap.size,0,0⟩) n w.heap.size hle (by simp [Ph.add])
    rw[←Yx] at hv
    refine ⟨K,_,_,_,inv.snoc r hp ho hd nR hle hv (.inl ⟨he,rfl⟩) ⟨hK,MO,vJ,fr.place UR zn O⟩ (fun y hy m q a1 a2 a3 a4=>?_),.one (kA (nP eT (.inr mq) _) ho (Kg.trans hw) (hr w))⟩
    obtain ⟨b1,b2,b3⟩:=inv.gH y hy m q a1 a2 a4
    refine ⟨?_,b2,b3⟩
    have dt:m≠n:=fun e=>by subst e;exact a3 (r.ids y x hy Oc m q o1 a1 rQ)
    simp [Ph.add,dt,b1]
 ·
  rename_i h' rQ
  obtain ⟨he,hw,_,uN⟩:=gZ
  have HB:=yu x o _ h' Oc rfl ho uc rQ
  have zF:=inv.vI r (pc he) hd nR
  rw[zF] at uN uc
  rw[MO] at uc;simp at uc;subst uc
  rw[←vE KL] at HB
  obtain ⟨φ',w',v',hv,oO,Cu,gR⟩:=Fv hE cH HB ho (rest:=rest) (k:=k) inv.ts ok (eT.mono fr.ext) (Kg.trans hw)
  obtain ⟨D3,q1,q2,q3,q4⟩:=wrote φ' h' w' zF uN oO Cu
  exact ⟨K+1,φ',_,w',inv.snoc r hp ho hd nR Cu.ext hv (.inr ⟨he,zF,pc he,rfl⟩) ⟨D3,q1,q2,q3⟩ q4,gR⟩
end
end Go.Ab
end
section
namespace Go.Ab
variable {E:Env}
section
variable {call:aY} {ops:Array Oper} {pl:jZ} {s s':St} {tr:List Step} {hs st:List aq}
structure zI (E:Env) (φ₀:Ph) (h₀:aq) (w₀:World) (ru:List Deferred) (b:Frame) (k:List Item) (cs:List Frame) (s':St) (m:Machine):Prop where
 is:∃φ' a' w',LR φ' s'.ts a'.tmps.toList∧a'.defers=ru∧OK E φ' s'.h w'∧Fr φ₀ h₀ w₀ φ' s'.h w'∧Steps E.P m (lone (b.atR a' k) cs w')
theorem A7 (r:zH E call ops pl s s' tr hs st) {φ₀ φ:Ph} {w₀ w:World} {ru:List Deferred} {d:List Nat} {bF:Array Bool} {K:Nat} {a:Act} (inv:Inv E ops pl s tr hs st φ₀ w₀ ru d bF K φ a w)
 (A8:∀i,i<ops.size→i∈d) (b:Frame) (k:List Item) (cs:List Frame):zI E φ₀ s.h w₀ ru b k cs s' (lone (b.atR a (.inRegion ops []::k)) cs w):=by
 have mq:(tr.map (·.i)).Nodup:=by rw[r.trace.is];exact r.nodup
 obtain ⟨f1,f2,f3⟩:=gz r.oH.order
 have hK:K=pl.bA.length:=by
  have:=inv.UG
  rcases Nat.lt_or_ge K pl.bA.length with h | h
  · exfalso
    have hq:pl.bA[K]? =some pl.bA[K]:=by simp [h]
    have hm:pl.bA[K]∈pl.bA:=List.getElem_mem h
    generalize hx:pl.bA[K]=ee at hm hq
    rw[r.oH.bA,yq] at hm
    obtain ⟨o,ho,_⟩:=hm
    have jT:ee<ops.size:=by have:=(List.getElem?_eq_some_iff.1 ho).1;simpa using this
    have:=(inv.bA K _ hq).1 (A8 _ jT)
    omega
  · omega
 obtain ⟨D3,q1,q2,q3⟩:=inv.ok
 have vK:=r.trace.last
 have UT:nB E ops pl.order=K:=by omega
 rw[UT,q1] at vK
 simp at vK;subst vK
 have Hy:s'.ts=mr ops (valOf tr) s.ts d:=by
  rw[r.trace.ts]
  have h1:=zG ops mq s.ts tr.length
  rw[List.take_length,r.trace.is,List.take_of_length_le (by rw[←r.trace.is];simp)] at h1
  rw[h1]
  refine List.ext_getElem? (fun x=>?_)
  refine qQ s.ts (fun j j' e e'=>rS r.oH e e') (fun j hj=>?_)
  have GP:j<ops.size:=by
   unfold fq at hj
   cases ho:ops[j]? with
   | none=>rw[ho] at hj;simp at hj
   | some o=>exact (Array.getElem?_eq_some_iff.1 ho).1
  exact ⟨fun _=>A8 j GP,fun _=>(f2 j GP).resolve_left (by simp)⟩
 exact ⟨φ,a,w,by rw[Hy];exact inv.ts,inv.ds,q2,q3,.one stepR_region_end⟩
theorem vL {φ₀ φ:Ph} {w₀ w:World} {ru:List Deferred} {d:List Nat} {bF:Array Bool} {K:Nat} {a:Act} (r:zH E call ops pl s s' tr hs st) (inv:Inv E ops pl s tr hs st φ₀ w₀ ru d bF K φ a w)
 {i:Nat} (h:i∈Region.ready .any ops bF):i<ops.size∧i ∉ d∧∀j,cN pl.an i j=true→j∈d:=by
 obtain ⟨h1,o,ho,h2⟩:=mem_ready.1 h
 have hi:i<ops.size:=(Array.getElem?_eq_some_iff.1 ho).1
 have hl:=inv.bF i hi
 refine ⟨hi,fun hd=>?_,fun j hj=>?_⟩
 · simp [hl,hd,Array.getD_eq_getD_getElem?] at h1
 · obtain ⟨e,he,UU⟩:=r.oH.closed i o j ho hj
   have WM:e∈d:=by
    unfold iT at he
    simp only[List.mem_map,List.mem_filter] at he
    obtain ⟨ed,⟨hm,hb⟩,rfl⟩:=he
    have h3:=h2 ed (by simpa using hm) hb
    have UW:ed.on<ops.size:=by
     have:=(r.oH.direct i o ed.on ho (by unfold iT;simp only[List.mem_map,List.mem_filter];exact ⟨ed,⟨hm,hb⟩,rfl⟩)).1
     omega
    simpa [inv.bF _ UW,Array.getD_eq_getD_getElem?] using h3
   rcases UU with rfl | UU
   · exact WM
   · exact inv.closed e WM j UU
theorem tj {φ₀ φ:Ph} {w₀ w:World} {ru:List Deferred} {d:List Nat} {bF:Array Bool} {K:Nat} {a:Act} (r:zH E call ops pl s s' tr hs st) (inv:Inv E ops pl s tr hs st φ₀ w₀ ru d bF K φ a w)
 (h:Region.ready .any ops bF=[]):∀(n i:Nat),i<n→i<ops.size→i∈d
 | 0,i,hn,_=>by omega
 | n+1,i,hn,hi=>by
   have ih:=tj r inv h n
   by_cases hd:i∈d
   · exact hd
   · exfalso
     have ho:ops[i]? =some ops[i]:=by simp [hi]
     have:i∈Region.ready .any ops bF:=by
      refine mem_ready.2 ⟨by simp [inv.bF i hi,hd,Array.getD_eq_getD_getElem?],ops[i],ho,fun e he hb=>?_⟩
      have hm:e.on∈iT ops[i]:=by
       unfold iT;simp only[List.mem_map,List.mem_filter];exact ⟨e,⟨by simpa using he,hb⟩,rfl⟩
      have jT:=(r.oH.direct i _ e.on ho hm).1
      have:=ih e.on (by omega) (by omega)
      simp [inv.bF e.on (by omega),this,Array.getD_eq_getD_getElem?]
     rw[h] at this;simp at this
theorem zH.real (r:zH E call ops pl s s' tr hs st) (x:Step) (o:Oper) (hk h':aq) (hx:x∈tr) (ho:ops[x.i]? =some o) (hh:hs[x.k]? =some hk) (vy:x.kind= .qi h'):cD E call x.ts hk s.rc o= .val x.v h':=by
 obtain ⟨p,hp⟩:=List.getElem?_of_mem hx
 obtain ⟨_,_,_,Q9,_⟩:=r.at hp
 obtain ⟨_,_,o',TB,WK,A6,uc,Q7,gZ⟩:=r.trace.step p x hp
 rw[ho] at A6;simp at A6;subst A6
 rw[←Q9,hh] at uc;simp at uc;subst uc
 unfold rP at gZ;rw[vy] at gZ;exact gZ.2.2.1
theorem A9 (hE:iJ E) (cH:fP E call) (r:zH E call ops pl s s' tr hs st) {φ₀:Ph} {w₀:World} {ru:List Deferred} {b:Frame} {k:List Item} {Ks:Bool→List Frame} (eT:kT φ₀ b Ks s.rc):
 ∀(fuel t:Nat) {φ:Ph} {w:World} {d:List Nat} {bF:Array Bool} {K:Nat} {a:Act} (_:Inv E ops pl s tr hs st φ₀ w₀ ru d bF K φ a w) (_:ops.size≤d.length+fuel),
  zI E φ₀ s.h w₀ ru b k (cur Ks s.rc) s' (lone (b.atR a (.inRegion ops (Region.linearise.go .any ops fuel t bF [])::k)) (cur Ks s.rc) w)
 | 0,t,φ,w,d,bF,K,a,inv,hf=>by
   simp only[Region.linearise.go,List.reverse_nil]
   refine A7 r inv (fun i hi=>?_) b k _
   by_cases hd:i∈d
   · exact hd
   · have:=vF ops.size (i::d) (List.nodup_cons.2 ⟨hd,inv.nd⟩) (fun x hx=>by
      simp at hx;rcases hx with rfl | hx
      · exact hi
      · exact inv.lt x hx)
     simp at this;omega
 | fuel+1,t,φ,w,d,bF,K,a,inv,hf=>by
   simp only[Region.linearise.go]
   change zI E φ₀ s.h w₀ ru b k (cur Ks s.rc) s' (lone (b.atR a (.inRegion ops (match (Region.ready .any ops bF)[t%(Region.ready .any ops bF).length]? with
    | some i=>Region.linearise.go .any ops fuel (t/(Region.ready .any ops bF).length) (bF.setIfInBounds i true) [i]
    | none=> [].reverse)::k)) (cur Ks s.rc) w)
   cases hi:(Region.ready .any ops bF)[t%(Region.ready .any ops bF).length]? with
   | none=>
     have zt:Region.ready .any ops bF=[]:=by
      cases hr:Region.ready .any ops bF with
      | nil=>rfl
      | cons x xs=>
        rw[hr] at hi
        have jT:t%(x::xs).length<(x::xs).length:=Nat.mod_lt _ (by simp)
        simp at hi
        simp at jT
        omega
     exact A7 r inv (fun i hi=>tj r inv zt _ i (Nat.lt_succ_self i) hi) b k _
   | some i=>
     simp only[]
     rw[linearise_go_acc,List.reverse_singleton,List.singleton_append]
     obtain ⟨h1,h2,h3⟩:=vL r inv (List.mem_of_getElem? hi)
     obtain ⟨K',φ',a',w',Ou,gZ⟩:=inv.D2 hE cH r eT (b:=b) (k:=k) h1 h2 h3 (fun x o hk h' hx _=>r.real x o hk h' hx) (Region.linearise.go .any ops fuel (t/(Region.ready .any ops bF).length) (bF.setIfInBounds i true) [])
     obtain ⟨φ2,a2,w2,x1,x2,x3,x4,x5⟩:=(A9 hE cH r eT fuel (t/(Region.ready .any ops bF).length) Ou (by simp;omega)).is
     exact ⟨φ2,a2,w2,x1,x2,x3,x4,Steps.trans gZ x5⟩
structure zJ (E:Env) (φ₀:Ph) (h₀:aq) (w₀:World) (ru:List Deferred) (b:Frame) (cs:List Frame) (v:AV) (s':St) (m:Machine):Prop where
 is:∃φ' a' w' v' todo,VR φ' v v'∧LR φ' s'.ts a'.tmps.toList∧a'.defers=ru∧OK E φ' s'.h w'∧Fr φ₀ h₀ w₀ φ' s'.h w'∧Steps E.P m (lone {b.atR a' todo with mode:= .panicking [{v:=v',recovered:=false}]} cs w')
theorem Fw (hE:iJ E) {call:aY} (cH:fP E call) {ts:List AV} {h h':aq} {rc:RC} {o:Oper} {c:Call} (TI:o.op= .call c) {v:AV} (pc:cD E call ts h rc o= .panic v h') {i:Nat} {rest:List Nat} (ho:ops[i]? =some o)
 {φ:Ph} {a:Act} {w:World} {b:Frame} {k:List Item} {K:Bool→List Frame} (Hy:LR φ ts a.tmps.toList) (ok:OK E φ h w) (eT:kT φ b K rc) (hw:Region.wanted o (yielded ops a.tmps)=true):
 ∃φ' w' v' todo,VR φ' v v'∧OK E φ' h' w'∧Fr φ h w φ' h' w'∧Steps E.P (lone (b.atR a (.inRegion ops (i::rest)::k)) (cur K rc) w) (lone {b.atR a todo with mode:= .panicking [{v:=v',recovered:=false}]} (cur K rc) w'):=by
 have s_:=qO hE cH (rc:=rc) (o:=o) Hy ok
 have mq:rc.lW=false∨∀c,o.op≠ .defer c:= .inr (fun c e=>by rw[TI] at e;simp at e)
 have jd:=nP eT mq a.eval
 rw[pc] at s_
 cases s_ with
 | KH v h' F args all hr hf hl run=>
   obtain ⟨n,start,hp,gZ⟩:=hr φ w all ok hf hl
   obtain ⟨φ',w',v',hv,oO,fr,gR⟩:=gZ (b.atR a (.inRegion ops (i::rest)::k)) (cur K rc)
   rw[Frame.raise_atR] at gR
   exact ⟨φ',w',v',.inRegion ops (i::rest)::k,hv,oO,fr,.head (rI jd ho hw hp (run n start hp)) gR⟩
 | panic v v' hv run=>exact ⟨φ,w,v',_,hv,ok,Fr.refl _ _ _,.one (Ht jd ho hw run)⟩
theorem yv (hE:iJ E) {yr:aY} (cH:fP E yr) (r:zH E call ops pl s s' tr hs st) {xl:Step} (WN:xl∈tr) {ol:Oper} (Ke:ops[xl.i]? =some ol) {c:Call} (TI:ol.op= .call c)
 (A8:∀j,j<ops.size→j≠xl.i→cN pl.an xl.i j=true) (MP:eg E ol.op=true) (WO:b_ ops xl.ts ol=true) {hk:aq} (uc:hs[xl.k]? =some hk) {v:AV} {h':aq} (HC:cD E yr xl.ts hk s.rc ol= .panic v h')
 (yu:∀(x:Step) (o:Oper) (hk h':aq),x∈tr→x.i≠xl.i→ops[x.i]? =some o→hs[x.k]? =some hk→x.kind= .qi h'→cD E yr x.ts hk s.rc o= .val x.v h')
 {s2:St} (h2:s2.h=h') (Q_:s2.ts=xl.ts) {φ₀:Ph} {w₀:World} {ru:List Deferred} {b:Frame} {k:List Item} {Ks:Bool→List Frame} (eT:kT φ₀ b Ks s.rc):
 ∀(fuel t:Nat) {φ:Ph} {w:World} {d:List Nat} {bF:Array Bool} {K:Nat} {a:Act} (_:Inv E ops pl s tr hs st φ₀ w₀ ru d bF K φ a w) (_:ops.size≤d.length+fuel) (_:xl.i ∉ d),
  zJ E φ₀ s.h w₀ ru b (cur Ks s.rc) v s2 (lone (b.atR a (.inRegion ops (Region.linearise.go .any ops fuel t bF [])::k)) (cur Ks s.rc) w)
 | 0,t,φ,w,d,bF,K,a,inv,hf,mq=>by
   exfalso
   have hi:xl.i<ops.size:=(Array.getElem?_eq_some_iff.1 Ke).1
   have:=vF ops.size (xl.i::d) (List.nodup_cons.2 ⟨mq,inv.nd⟩) (fun x hx=>by
    simp at hx;rcases hx with rfl | hx
    · exact hi
    · exact inv.lt x hx)
   simp at this;omega
 | fuel+1,t,φ,w,d,bF,K,a,inv,hf,mq=>by
   have Tv:xl.i<ops.size:=(Array.getElem?_eq_some_iff.1 Ke).1
   simp only[Region.linearise.go]
   change zJ E φ₀ s.h w₀ ru b (cur Ks s.rc) v s2 (lone (b.atR a (.inRegion ops (match (Region.ready .any ops bF)[t%(Region.ready .any ops bF).length]? with
    | some i=>Region.linearise.go .any ops fuel (t/(Region.ready .any ops bF).length) (bF.setIfInBounds i true) [i]
    | none=> [].reverse)::k)) (cur Ks s.rc) w)
   cases hi:(Region.ready .any ops bF)[t%(Region.ready .any ops bF).length]? with
   | none=>
     have zt:Region.ready .any ops bF=[]:=by
      cases hr:Region.ready .any ops bF with
      | nil=>rfl
      | cons x xs=>
        rw[hr] at hi
        have jT:t%(x::xs).length<(x::xs).length:=Nat.mod_lt _ (by simp)
        simp at hi
        simp at jT
        omega
     exact absurd (tj r inv zt _ xl.i (Nat.lt_succ_self _) Tv) mq
   | some i=>
     simp only[]
     rw[linearise_go_acc,List.reverse_singleton,List.singleton_append]
     obtain ⟨h1,TJ,h3⟩:=vL r inv (List.mem_of_getElem? hi)
     by_cases UX:i=xl.i
     · subst UX
       obtain ⟨p,hp⟩:=List.getElem?_of_mem WN
       obtain ⟨_,q2,q3,_,o',A6,q4,_⟩:=r.at hp
       rw[Ke] at A6;simp at A6;subst A6
       obtain ⟨UK,HA⟩:=MH r hp Ke TJ inv.closed h3
       obtain ⟨hK,MO,ok,fr⟩:=inv.ok
       have zF:=inv.vI r (q4 MP) TJ h3
       rw[zF,MO] at uc;simp at uc;subst uc
       rw[vE UK] at HC
       have Kg:Region.wanted ol (yielded ops a.tmps)=true:=by rw[qN inv.ts ol,HA];exact WO
       obtain ⟨φ',w',v',todo,hv,oO,Cu,gZ⟩:=Fw hE cH TI HC Ke (rest:=Region.linearise.go .any ops fuel (t/(Region.ready .any ops bF).length) (bF.setIfInBounds xl.i true) []) (k:=k) inv.ts ok (eT.mono fr.ext) Kg
       have UY:(tr.map (·.i)).Nodup:=by rw[r.trace.is];exact r.nodup
       have Hy:xl.ts=mr ops (valOf tr) s.ts d:=by
        rw[(r.trace.step p xl hp).1,zG ops UY,r.trace.is]
        refine List.ext_getElem? (fun x=>qQ s.ts (fun j j' e e'=>rS r.oH e e') (fun j hj=>?_))
        have GP:j<ops.size:=by
         unfold fq at hj
         cases ho:ops[j]? with
         | none=>rw[ho] at hj;simp at hj
         | some o=>exact (Array.getElem?_eq_some_iff.1 ho).1
        by_cases MI:j=xl.i
        · subst MI;exact ⟨fun h=>absurd h q2,fun h=>absurd h TJ⟩
        · exact ⟨fun _=>h3 j (A8 j GP MI),fun _=>q3 j (A8 j GP MI)⟩
       exact ⟨φ',a,w',v',todo,hv,by rw[Q_,Hy];exact inv.ts.mono Cu.ext,inv.ds,by rw[h2];exact oO,by rw[h2];exact fr.trans Cu,gZ⟩
     · obtain ⟨K',φ',a',w',Ou,gZ⟩:=inv.D2 hE cH r eT (b:=b) (k:=k) h1 TJ h3 (fun x o hk h' hx Ft=>yu x o hk h' hx (by rw[Ft];exact UX)) (Region.linearise.go .any ops fuel (t/(Region.ready .any ops bF).length) (bF.setIfInBounds i true) [])
       obtain ⟨φ2,a2,w2,v2,td,x0,x1,x2,x3,x4,x5⟩:=(yv hE cH r WN Ke TI A8 MP WO uc HC yu h2 Q_ eT fuel (t/(Region.ready .any ops bF).length) Ou (by simp;omega) (by simp;exact ⟨mq,fun h=>UX h.symm⟩)).is
       exact ⟨φ2,a2,w2,v2,td,x0,x1,x2,x3,x4,Steps.trans gZ x5⟩
def vM (call:aY):aY:=fun f as h=>match call f as h with
 | .panic _ h'=> .ret AV.undef h'
 | r=>r
theorem HD {call:aY} {ts:List AV} {h h':aq} {rc:RC} {o:Oper} {v:AV} (e:cD E call ts h rc o= .val v h'):cD E (vM call) ts h rc o= .val v h':=by
 obtain ⟨dst,op,ty,pos,after,guard⟩:=o
 cases op with
 | call c=>
   obtain ⟨dH,args,aT⟩:=c
   cases dH with
   | builtin b=>cases b<;>exact e
   | value f=>
     simp only[cD] at e ⊢
     split at e
     · split at e
       · exact e
       · split at e
         · rename_i hc
           simp only[vM,hc];exact e
         · simp at e
         · simp at e
     · simp at e
   | invoke x name=>
     simp only[cD] at e ⊢
     split at e
     · split at e
       · split at e
         · rename_i hc
           simp only[vM,hc];exact e
         · simp at e
         · simp at e
       · simp at e
     · simp at e
 | _=>exact e
theorem HE {call:aY} {ts:List AV} {h h':aq} {rc:RC} {dst:Option Tmp} {c:Call} {ty:TypeId} {pos:String} {after:Array Edge} {guard:Option (Nat×Bool)} {v:AV} (e:cD E call ts h rc ⟨dst,.call c,ty,pos,after,guard⟩= .panic v h'):
 cD E (vM call) ts h rc ⟨dst,.call c,ty,pos,after,guard⟩= .val AV.undef h':=by
 obtain ⟨dH,args,aT⟩:=c
 cases dH with
 | builtin b=>
   cases b<;>simp only[cD] at e<;>(try (simp at e;done))<;>(split at e<;>(try (simp at e;done))<;>(try (split at e<;>simp at e)))
 | value f=>
   simp only[cD] at e ⊢
   split at e
   · split at e
     · split at e<;>simp at e
     · split at e
       · simp at e
       · rename_i hc
         simp at e;obtain ⟨rfl,rfl⟩:=e
         simp only[vM,hc]
       · simp at e
   · simp at e
 | invoke x name=>
   simp only[cD] at e ⊢
   split at e
   · split at e
     · split at e
       · simp at e
       · rename_i hc
         simp at e;obtain ⟨rfl,rfl⟩:=e
         simp only[vM,hc]
       · simp at e
     · simp at e
   · simp at e
theorem lZ {α:Type} {f:α→Option Nat}:∀{l:List α} (_:(l.filterMap f).Nodup) {x y:α} {n:Nat} (_:x∈l) (_:y∈l) (_:f x=some n) (_:f y=some n),x=y
 | [],_,x,y,n,hx,_,_,_=>by simp at hx
 | z::l,hn,x,y,n,hx,hy,fx,fy=>by
   cases hz:f z with
   | none=>
     rw[List.filterMap_cons_none hz] at hn
     have QR:x∈l:=by
      simp at hx;rcases hx with rfl | h
      · rw[hz] at fx;simp at fx
      · exact h
     have KF:y∈l:=by
      simp at hy;rcases hy with rfl | h
      · rw[hz] at fy;simp at fy
      · exact h
     exact lZ hn QR KF fx fy
   | some m=>
     rw[List.filterMap_cons_some hz,List.nodup_cons] at hn
     simp at hx hy
     rcases hx with rfl | hx<;>rcases hy with rfl | hy
     · rfl
     · exfalso;rw[fx] at hz;simp at hz;subst hz;exact hn.1 (List.mem_filterMap.2 ⟨y,hy,fy⟩)
     · exfalso;rw[fy] at hz;simp at hz;subst hz;exact hn.1 (List.mem_filterMap.2 ⟨x,hx,fx⟩)
     · exact lZ hn.2 hx hy fx fy
theorem HF (E':oV E ops=some pl) (hd:ct E call ops pl.order 0 s= .ok tr hs s') (hl:nG E ops pl tr hs=true):∃st,zH E call ops pl s s' tr hs st:=by
 obtain ⟨st,t⟩:=lY hd
 unfold nG at hl
 simp only[Bool.and_eq_true] at hl
 refine ⟨st,A4 E',t,fun x hx K hk h1 h2 h3=>?_,fun x y hx hy n o q e1 e2=>?_⟩
 · have h4:=List.all_eq_true.1 (List.all_eq_true.1 hl.2 x hx) hk
   refine h4 ?_
   refine List.mem_of_getElem? (i:=K - x.k) ?_
   rw[List.getElem?_take,if_pos (by omega),List.getElem?_drop,show x.k+(K - x.k)=K by omega,h3]
 · have:=qP hl.1
   have:=lZ this hx hy (n:=n) (by simp [e1]) (by simp [e2])
   rw[this]
theorem qR {call yw:aY} (hc:∀{ts:List AV} {h h':aq} {rc:RC} {o:Oper} {v:AV},cD E call ts h rc o= .val v h'→cD E yw ts h rc o= .val v h') {i:Nat} {o:Oper} (ho:ops[i]? =some o) (he:eg E o.op=true):
 ∀(l:List Nat) (k:Nat) (s:St) {tr:List Step} {hs:List aq} {s1:St} {h':aq} (_:ct E call ops l k s= .ok tr hs s1) (_:b_ ops s1.ts o=true) (_:cD E yw s1.ts s1.h s1.rc o= .val AV.undef h'),
  ct E yw ops (l++[i]) k s= .ok (tr++[⟨i,k+(hs.length - 1),s1.ts,AV.undef,.qi h'⟩]) (hs++[h']) {s1 with ts:=cU s1.ts o.dst AV.undef,h:=h'}
 | [],k,s,tr,hs,s1,h',hd,hw,hv=>by
   simp [ct] at hd;obtain ⟨rfl,rfl,rfl⟩:=hd
   simp only[List.nil_append,ct,ho,he,if_true,hw,hv]
   simp [hU.bound,hU.step]
 | j::l,k,s,tr,hs,s1,h',hd,hw,hv=>by
   rw[List.cons_append]
   simp only[ct] at hd ⊢
   cases ML:ops[j]? with
   | none=>rw[ML] at hd;simp at hd
   | some oj=>
   rw[ML] at hd
   simp only at hd ⊢
   have wr:∀(x:Step) (s0:St),((ct E call ops l (k+1) s0).bound s.h).step x= .ok tr hs s1→((ct E yw ops (l++[i]) (k+1) s0).bound s.h).step x= .ok (tr++[⟨i,k+(hs.length - 1),s1.ts,AV.undef,.qi h'⟩]) (hs++[h']) {s1 with ts:=cU s1.ts o.dst AV.undef,h:=h'}:=by
    intro x s0 hd
    cases hr:ct E call ops l (k+1) s0 with
    | fail why q=>rw[hr] at hd;simp [hU.bound,hU.step] at hd
    | ok D1 oN s2=>
      rw[hr] at hd;simp [hU.bound,hU.step] at hd;obtain ⟨rfl,rfl,rfl⟩:=hd
      rw[qR hc ho he l (k+1) s0 hr hw hv]
      obtain ⟨_,t⟩:=lY hr
      have:1≤oN.length:=by have:=t.len;omega
      simp [hU.bound,hU.step];omega
   have pl:∀(x:Step) (s0:St),(ct E call ops l k s0).step x= .ok tr hs s1→(ct E yw ops (l++[i]) k s0).step x= .ok (tr++[⟨i,k+(hs.length - 1),s1.ts,AV.undef,.qi h'⟩]) (hs++[h']) {s1 with ts:=cU s1.ts o.dst AV.undef,h:=h'}:=by
    intro x s0 hd
    cases hr:ct E call ops l k s0 with
    | fail why q=>rw[hr] at hd;simp [hU.step] at hd
    | ok D1 oN s2=>
      rw[hr] at hd;simp [hU.step] at hd;obtain ⟨rfl,rfl,rfl⟩:=hd
      rw[qR hc ho he l k s0 hr hw hv]
      simp [hU.step]
   split at hd
   · rename_i Ov
     rw[if_pos Ov]
     split at hd
     · rename_i xx
       rw[if_pos xx]
       split at hd
       · rename_i HB
         simp only[hc HB]
         exact wr _ _ hd
       · simp at hd
       · simp at hd
     · rename_i xx
       rw[if_neg xx]
       exact wr _ _ hd
   · rename_i Ov
     rw[if_neg Ov]
     split at hd
     · rename_i xx
       rw[if_pos xx]
       split at hd
       · rename_i hp
         try simp only[hp]
         exact pl _ _ hd
       · rename_i hp
         try simp only[hp]
         split at hd
         · rename_i hq
           try simp only[hq]
           exact pl _ _ hd
         · rename_i hq
           try simp only[hq]
           split at hd
           · rename_i hr
             try simp only[hr]
             split at hd
             · rename_i hn
               try simp only[hn]
               exact pl _ _ hd
             · simp at hd
           · simp at hd
     · rename_i xx
       rw[if_neg xx]
       exact pl _ _ hd
theorem tk {call:aY} {i:Nat} {o:Oper} (ho:ops[i]? =some o) (he:eg E o.op=true) {v:AV}:
 ∀(l:List Nat) (k:Nat) (s:St) {tr:List Step} {hs:List aq} {s1:St} {h':aq} (_:ct E call ops l k s= .ok tr hs s1) (_:b_ ops s1.ts o=true) (_:cD E call s1.ts s1.h s1.rc o= .panic v h'),
  ∃why q,ct E call ops (l++[i]) k s= .fail why q
 | [],k,s,tr,hs,s1,h',hd,hw,hv=>by
   simp [ct] at hd;obtain ⟨rfl,rfl,rfl⟩:=hd
   simp only[List.nil_append,ct,ho,he,if_true,hw,hv]
   exact ⟨_,_,rfl⟩
 | j::l,k,s,tr,hs,s1,h',hd,hw,hv=>by
   rw[List.cons_append]
   simp only[ct] at hd ⊢
   cases ML:ops[j]? with
   | none=>rw[ML] at hd;simp at hd
   | some oj=>
   rw[ML] at hd
   simp only at hd ⊢
   have wr:∀(x:Step) (s0:St),((ct E call ops l (k+1) s0).bound s.h).step x= .ok tr hs s1→∃why q,((ct E call ops (l++[i]) (k+1) s0).bound s.h).step x= .fail why q:=by
    intro x s0 hd
    cases hr:ct E call ops l (k+1) s0 with
    | fail why q=>rw[hr] at hd;simp [hU.bound,hU.step] at hd
    | ok D1 oN s2=>
      rw[hr] at hd;simp [hU.bound,hU.step] at hd;obtain ⟨rfl,rfl,rfl⟩:=hd
      obtain ⟨why,q,e⟩:=tk ho he l (k+1) s0 hr hw hv
      rw[e];exact ⟨_,_,rfl⟩
   have pl:∀(x:Step) (s0:St),(ct E call ops l k s0).step x= .ok tr hs s1→∃why q,(ct E call ops (l++[i]) k s0).step x= .fail why q:=by
    intro x s0 hd
    cases hr:ct E call ops l k s0 with
    | fail why q=>rw[hr] at hd;simp [hU.step] at hd
    | ok D1 oN s2=>
      rw[hr] at hd;simp [hU.step] at hd;obtain ⟨rfl,rfl,rfl⟩:=hd
      obtain ⟨why,q,e⟩:=tk ho he l k s0 hr hw hv
      rw[e];exact ⟨_,_,rfl⟩
   split at hd
   · rename_i Ov
     rw[if_pos Ov]
     split at hd
     · rename_i xx
       rw[if_pos xx]
       split at hd
       · rename_i HB
         try simp only[HB]
         exact wr _ _ hd
       · simp at hd
       · simp at hd
     · rename_i xx
       rw[if_neg xx]
       exact wr _ _ hd
   · rename_i Ov
     rw[if_neg Ov]
     split at hd
     · rename_i xx
       rw[if_pos xx]
       split at hd
       · rename_i hp
         try simp only[hp]
         exact pl _ _ hd
       · rename_i hp
         try simp only[hp]
         split at hd
         · rename_i hq
           try simp only[hq]
           exact pl _ _ hd
         · rename_i hq
           try simp only[hq]
           split at hd
           · rename_i hr
             try simp only[hr]
             split at hd
             · rename_i hn
               try simp only[hn]
               exact pl _ _ hd
             · simp at hd
           · simp at hd
     · rename_i xx
       rw[if_neg xx]
       exact pl _ _ hd
end
theorem vN {call:aY} {ops:Array Oper} {pl:jZ} {s s':St} {tr:List Step} {nL st:List aq} (r:zH E call ops pl s s' tr nL st)
 {φ:Ph} {a:Act} {w:World} (Hy:LR φ s.ts a.tmps.toList) (ok:OK E φ s.h w):Inv E ops pl s tr nL st φ w a.defers [] (Array.replicate ops.size false) 0 φ a {w with drawn:=w.drawn+1}:=by
 have A_:OK E φ s.h {w with drawn:=w.drawn+1}:=⟨ok.uJ,ok.nx,ok.qI,ok.live,ok.inj⟩
 have Qe:Fr φ s.h w φ s.h {w with drawn:=w.drawn+1}:=⟨Ph.le_refl φ,fun _ _=>rfl,Nat.le_refl _,rfl,rfl,rfl,Nat.le_refl _,fun _ _ _=>rfl,fun i o l a b c=> .inr ⟨i,o,l,a,b,c,rfl⟩⟩
 have hlen:0<nL.length:=by have:=r.trace.len;omega
 have h0:nL[0]? =some nL[0]:=by simp [hlen]
 have g:=r.trace.grown 0 s.h _ r.trace.first h0
 obtain ⟨vJ,Ot⟩:=A_.grown g
 refine ⟨.nil,fun i hi=>by simp at hi,fun i hi=>by simp [hi],fun i hi=>by simp at hi,fun q e hq=>by simp,by omega,by simpa [mr] using Hy,rfl,⟨_,h0,vJ,Qe.trans Ot⟩,fun x hx n obj hk _ Q9=>?_⟩
 obtain ⟨q,hq⟩:=List.getElem?_of_mem hx
 obtain ⟨_,_,_,UM,oy,Yv,_,_⟩:=r.at hq
 obtain ⟨_,_,Yw,UN,UO,UP,xJ,xK,CY⟩:=r.trace.step q x hq
 rw[←UM] at xJ xK
 have zF:x.k=0:=by omega
 rw[zF] at xJ xK
 rw[r.trace.first] at xK;simp at xK;subst xK
 unfold rP at CY
 rw[hk] at CY
 obtain ⟨_,_,_,Tz,Qc⟩:=CY
 refine ⟨?_,Tz,fun hK e=>?_⟩
 · cases hφ:φ n with
   | none=>rfl
   | some l=>have:=ok.uJ n l hφ;omega
 · rw[e] at xJ;simp at xJ;subst xJ;exact Qc
theorem A' (hE:iJ E) (UZ:E.P.follows .mixedOrders=true) {call:aY} (cH:fP E call) {ops:Array Oper} {s s':St} {e:iS} (h:rA E call ops s= .ok e s')
 {φ:Ph} {a:Act} {w:World} {b:Frame} {k:List Item} {K:Bool→List Frame} (hs:SR φ s.ts s.ds a) (ok:OK E φ s.h w) (eT:kT φ b K s.rc) (id:Nat):
 s'.rc=s.rc∧s'.ds=s.ds∧((e= .normal∧∃φ' a' w',LR φ' s'.ts a'.tmps.toList∧a'.defers=a.defers∧OK E φ' s'.h w'∧Fr φ s.h w φ' s'.h w'∧
  Steps E.P (lone (b.atR a (.code (.region id ops true)::k)) (cur K s.rc) w) (lone (b.atR a' k) (cur K s.rc) w'))∨
  ∃v,e= .panic v∧zJ E φ s.h w a.defers b (cur K s.rc) v s' (lone (b.atR a (.code (.region id ops true)::k)) (cur K s.rc) w)):=by
 have Q':Region.schedule (E.P.follows .mixedOrders) ops (w.tape w.drawn (.order b.fn id))=Region.linearise.go .any ops ops.size (w.tape w.drawn (.order b.fn id)) (Array.replicate ops.size false) []:=by
  rw[UZ];rfl
 unfold rA at h
 split at h
 · simp at h
 rename_i pl E'
 split at h
 · rename_i tr nL s1 hd
   split at h
   · rename_i hl
     simp at h;obtain ⟨rfl,rfl⟩:=h
     obtain ⟨st,r⟩:=HF E' hd hl
     refine ⟨r.trace.rc,r.trace.ds,.inl ⟨rfl,?_⟩⟩
     obtain ⟨φ',a',w',x1,x2,x3,x4,x5⟩:=(A9 hE cH r eT (b:=b) (k:=k) ops.size (w.tape w.drawn (.order b.fn id)) (vN r hs.ts ok) (by simp)).is
     refine ⟨φ',a',w',x1,x2,x3,x4,.head stepR_region_draw ?_⟩
     rw[Q']
     exact x5
   · simp at h
 · split at h
   · rename_i v s2 hp
     simp at h;obtain ⟨rfl,rfl⟩:=h
     unfold vg at hp
     split at hp
     · simp at hp
     rename_i i front KM
     split at hp
     · rename_i tr nL s1 dst c ty pos after guard hd ho
       split at hp
       · rename_i Cs
         split at hp
         · rename_i v1 h1 HB
           split at hp
           · rename_i hl
             simp at hp;obtain ⟨rfl,rfl⟩:=hp
             simp only[Bool.and_eq_true,List.all_eq_true,List.mem_range,Bool.or_eq_true,beq_iff_eq] at Cs
             obtain ⟨⟨he,hw⟩,A8⟩:=Cs
             have Hx:pl.order=front.reverse++[i]:=by
              have:=congrArg List.reverse KM
              simpa using this
             have Ra:=qR (yw:=vM call) (fun e=>HD e) ho he front.reverse 0 s hd hw (HE HB)
             rw[←Hx] at Ra
             rw[Nat.zero_add] at Ra
             obtain ⟨st,r⟩:=HF E' Ra hl
             obtain ⟨GO,t1⟩:=lY hd
             have Rb:s1.rc=s.rc:=t1.rc
             refine ⟨Rb,t1.ds,.inr ⟨_,rfl,?_⟩⟩
             have hlen:1≤nL.length:=by have:=t1.len;omega
             have vK:(nL++[h1])[nL.length - 1]? =some s1.h:=by
              rw[List.getElem?_append_left (by omega)]
              have:=t1.last
              rw[show nL.length - 1=nB E ops front.reverse by have:=t1.len;omega];exact this
             have yu:∀(x:Step) (o:Oper) (hk h':aq),x∈tr++[⟨i,nL.length - 1,s1.ts,AV.undef,.qi h1⟩]→x.i≠i→ops[x.i]? =some o→(nL++[h1])[x.k]? =some hk→x.kind= .qi h'→cD E call x.ts hk s.rc o= .val x.v h':=by
              intro x o hk h' hx Ft A6 uc vy
              have QR:x∈tr:=by
               simp at hx;rcases hx with h | h
               · exact h
               · exact absurd (by rw[h]) Ft
              obtain ⟨p,hp⟩:=List.getElem?_of_mem QR
              obtain ⟨_,Q9,o',TB,WK,U0,Ow,Q7,gZ⟩:=t1.step p x hp
              rw[A6] at U0;simp at U0;subst U0
              rw[Nat.zero_add] at Q9
              rw[←Q9] at Ow
              have jT:x.k<nL.length:=(List.getElem?_eq_some_iff.1 Ow).1
              rw[List.getElem?_append_left jT,Ow] at uc
              simp at uc;subst uc
              unfold rP at gZ;rw[vy] at gZ;exact gZ.2.2.1
             have U1:=(yv hE cH r (xl:=⟨i,nL.length - 1,s1.ts,AV.undef,.qi h1⟩) (by simp) (ol:=⟨dst,.call c,ty,pos,after,guard⟩) ho rfl (fun j hj dt=>(A8 j hj).resolve_left dt) he hw vK (by rw[←Rb];exact HB) yu
              (s2:={s1 with h:=h1}) rfl rfl eT (b:=b) (k:=k) ops.size (w.tape w.drawn (.order b.fn id)) (vN r hs.ts ok) (by simp) (by simp)).is
             obtain ⟨φ',a',w',v',todo,x0,x1,x2,x3,x4,x5⟩:=U1
             refine ⟨φ',a',w',v',todo,x0,x1,x2,x3,x4,.head stepR_region_draw ?_⟩
             rw[Q']
             exact x5
           · simp at hp
         · simp at hp
       · simp at hp
     · simp at hp
   · simp at h
end Go.Ab
end
section
namespace Go.Ab
variable {E:Env}
def Ba (P:Program) (m:Machine) (b:Frame) (k:List Item) (cs:List Frame):Exit→Act→World→Prop
 | .normal,a,w=>Steps P m (lone (b.atR a k) cs w)
 | .exit id,a,w=>∃todo,exitTo id todo=exitTo id k∧Steps P m (lone (b.atR a (.code (.exit id)::todo)) cs w)
 | .ret,a,w=>∃todo,Steps P m (lone (b.atR a (.code .ret::todo)) cs w)
 | .panic chain,a,w=>∃todo,Steps P m (lone {b.atR a todo with mode:= .panicking chain} cs w)
 | _,_,_=>False
theorem Ba.of_steps {P:Program} {m m':Machine} {b:Frame} {k:List Item} {cs:List Frame} {e:Exit} {a:Act} {w:World} (hs:Steps P m m') (h:Ba P m' b k cs e a w):Ba P m b k cs e a w:=by
 cases e with
 | normal=>exact Steps.trans hs h
 | exit id=>obtain ⟨t,h1,h2⟩:=h;exact ⟨t,h1,Steps.trans hs h2⟩
 | ret=>obtain ⟨t,h2⟩:=h;exact ⟨t,Steps.trans hs h2⟩
 | panic c=>obtain ⟨t,h2⟩:=h;exact ⟨t,Steps.trans hs h2⟩
 | goto l=>exact h.elim
 | outgrown=>exact h.elim
theorem Ba.pass {P:Program} {m:Machine} {b:Frame} {x:Item} {k:List Item} {cs:List Frame} {e:Exit} {a:Act} {w:World} (hx:∀id,exitTo id (x::k)=exitTo id k) (hn:e≠ .normal) (h:Ba P m b (x::k) cs e a w):Ba P m b k cs e a w:=by
 cases e with
 | normal=>exact absurd rfl hn
 | exit id=>obtain ⟨t,h1,h2⟩:=h;exact ⟨t,h1.trans (hx id),h2⟩
 | ret=>exact h
 | panic c=>exact h
 | goto l=>exact h.elim
 | outgrown=>exact h.elim
structure ng (E:Env) (φ:Ph) (h:aq) (w:World) (b:Frame) (K:Bool→List Frame) (k:List Item) (m:Machine) (e:iS) (s':St):Prop where
 is:∃φ' w' a' e',Oj φ' e e'∧SR φ' s'.ts s'.ds a'∧OK E φ' s'.h w'∧Fr φ h w φ' s'.h w'∧kT φ' b K s'.rc∧Ba E.P m b k (cur K s'.rc) e' a' w'
theorem ng.of_steps {φ:Ph} {h:aq} {w:World} {b:Frame} {K:Bool→List Frame} {k:List Item} {m m':Machine} {e:iS} {s':St} (hs:Steps E.P m m') (x:ng E φ h w b K k m' e s'):ng E φ h w b K k m e s':=by
 obtain ⟨φ',w',a',e',h1,h2,h3,h4,h5,h6⟩:=x.is
 exact ⟨φ',w',a',e',h1,h2,h3,h4,h5,.of_steps hs h6⟩
theorem ng.later {φ φ₁:Ph} {h h₁:aq} {w w₁:World} {b:Frame} {K:Bool→List Frame} {k:List Item} {m:Machine} {e:iS} {s':St} (f:Fr φ h w φ₁ h₁ w₁) (x:ng E φ₁ h₁ w₁ b K k m e s'):ng E φ h w b K k m e s':=by
 obtain ⟨φ',w',a',e',h1,h2,h3,h4,h5,h6⟩:=x.is
 exact ⟨φ',w',a',e',h1,h2,h3,f.trans h4,h5,h6⟩
theorem OK.made {φ:Ph} {h h':aq} {w:World} (ok:OK E φ h w) {o:aP} {O:Obj} (hn:h.new o=some h') (ho:OR E (φ.add h.nx ⟨w.heap.size,0,0⟩) o ⟨w.heap.size,0,0⟩ (some O)):
 OK E (φ.add h.nx ⟨w.heap.size,0,0⟩) h' (w.alloc O)∧Fr φ h w (φ.add h.nx ⟨w.heap.size,0,0⟩) h' (w.alloc O)∧φ.le (φ.add h.nx ⟨w.heap.size,0,0⟩):=
 ok.fresh (w':=w.alloc O) hn ⟨w.heap.size,0,0⟩ (by rw[show (w.alloc O).heap=w.heap.push O from rfl];simpa using ho)
  (fun c dt hc=>by rw[show (w.alloc O).heap=w.heap.push O from rfl,Array.getElem?_push,if_neg (by simpa using dt)]) (by simp) (Nat.le_refl _) rfl rfl rfl
theorem OK.Ox {φ:Ph} {h:aq} {w:World} (ok:OK E φ h w) {i:Nat} {o o':aP} {l:Loc} (hg:h.get i=some o) (AF:o.rw=true) (hl:φ i=some l) {O:Obj} (ho:OR E φ o' l (some O)):
 OK E φ (h.put i (some o')) (w.putObj l.eV O)∧Fr φ h w φ (h.put i (some o')) (w.putObj l.eV O):=by
 have jT:l.eV<w.heap.size:=by
  rcases Nat.lt_or_ge l.eV w.heap.size with h1 | h1
  · exact h1
  · have:=ok.live i o l hg hl
    rw[Array.getElem?_eq_none h1] at this
    exact this.absurd.elim
 exact ok.change hg AF hl (by rw[World.putObj_heap_same jT];exact ho) (fun c hc=>World.putObj_heap_other hc) World.putObj_size rfl rfl rfl
theorem OK.U2 {φ:Ph} {h:aq} {w:World} (ok:OK E φ h w) {i:Nat} {o:aP} {l:Loc} (hg:h.get i=some o) (AF:o.rw=true) (hl:φ i=some l) (O:Obj):
 OK E φ (h.put i none) (w.putObj l.eV O)∧Fr φ h w φ (h.put i none) (w.putObj l.eV O):=by
 have eZ:∀j p,(h.put i none).get j=some p→h.get j=some p∧j≠i:=fun j p hj=>by
  by_cases e:i=j
  · subst e;rw[aq.dw] at hj;simp at hj
  · rw[aq.ck e] at hj;exact ⟨hj,Ne.symm e⟩
 refine ⟨⟨ok.uJ,ok.nx,ok.qI,fun j p m hj hm=>?_,fun j k p q m n hj hk=>ok.inj j k p q m n (eZ j p hj).1 (eZ k q hk).1⟩,
  ⟨Ph.le_refl φ,fun _ _=>rfl,Nat.le_refl _,rfl,rfl,rfl,by simp,fun b _ hn=>World.putObj_heap_other (fun e=>hn i o l hg AF hl e.symm),fun j p m hj hr hm=> .inr ⟨j,p,m,(eZ j p hj).1,hr,hm,rfl⟩⟩⟩
 obtain ⟨nJ,dt⟩:=eZ j p hj
 rw[World.putObj_heap_other (fun e=>dt (ok.inj j i p o m l nJ hg hm hl (.inr AF) e))]
 exact ok.live j p m nJ hm
theorem Bb {s:St} {dn:Nat} {h1:aq} {N1:List nD} (ho:G6 s=some (dn,h1,N1)) {φ:Ph} {a:Act} {w:World} {b:Frame} {K:Bool→List Frame} (hs:SR φ s.ts s.ds a) (ok:OK E φ s.h w) (eT:kT φ b K s.rc)
 (ps:Array Tmp) (as bd:Code):∃φ1 w1 ld mark,φ.le φ1∧OK E φ1 h1 w1∧Fr φ s.h w φ1 h1 w1∧φ1 dn=some ld∧SR φ1 s.ts N1 {a with defers:=mark++a.defers}∧
  (Instr.enterLoop b.fn a.tmps ps as bd b.roundOf).run E.P w= .ok (w1.heap.size,mark) (w1.alloc (.loop {state:= .ready,pending:=none,fn:=b.fn,tmps:=a.tmps,params:=ps,assign:=as,body:=bd,defers:=ld.eV})):=by
 unfold G6 at ho
 split at ho
 · rename_i l hl
   split at ho
   · rename_i st pd ts oD rq P4 P5 hg
     simp at ho;obtain ⟨rfl,rfl,rfl⟩:=ho
     rw[hl] at eT
     obtain ⟨ll,hφ,Hu⟩:=eT
     obtain ⟨_,r,hr,tp⟩:=ok.live _ _ _ hg hφ
     obtain ⟨ld,Yz,Ra⟩:=tp.defers
     refine ⟨φ,w,ld,[],Ph.le_refl φ,ok,Fr.refl _ _ _,Yz,⟨hs.ts,hs.ds⟩,?_⟩
     rw[Hu,run_enterLoop_inner hr,Ra]
   · simp at ho
 · rename_i xw
   split at ho
   · rename_i WQ hn
     simp at ho;obtain ⟨rfl,rfl,rfl⟩:=ho
     obtain ⟨A_,Qe,hle⟩:=ok.made (O:= .deferred (some [])) hn ⟨rfl,rfl⟩
     have fN:(φ.add s.h.nx ⟨w.heap.size,0,0⟩) s.h.nx=some ⟨w.heap.size,0,0⟩:=by simp [Ph.add]
     refine ⟨_,_,⟨w.heap.size,0,0⟩,[{target:= .collected w.heap.size,args:= #[]}],hle,A_,Qe,fN,⟨hs.ts.mono hle,⟨_,fN,rfl⟩,hs.ds.mono hle⟩,?_⟩
     rw[eT.plain (vD xw),run_enterLoop_outer]
     simp
   · simp at ho
theorem HG {c:Code} {e:iS} (h:DV (some c)=some e):(∃id,c= .exit id∧e= .exit id)∨(c= .ret∧e= .ret):=by
 cases c<;>simp [DV] at h
 · exact .inl ⟨_,rfl,h.symm⟩
 · exact .inr ⟨rfl,h.symm⟩
theorem zK {call:aY} (cH:fP E call) {f:Operand} {ps:Array Tmp} {as bd:Code} {s s':St} {e:iS} (h:kQ E call f ps as bd s= .ok e s')
 {φ:Ph} {a:Act} {w:World} {b:Frame} {k:List Item} {K:Bool→List Frame} (hs:SR φ s.ts s.ds a) (ok:OK E φ s.h w) (eT:kT φ b K s.rc) (AG:(E.P.funcs[b.fn]?).isSome=true):
 ng E φ s.h w b K k (lone (b.atR a (.code (.rangeFunc f ps as bd)::k)) (cur K s.rc) w) e s':=by
 unfold kQ at h
 split at h
 · rename_i g first captured hf
   split at h
   · rename_i dn h1 N1 ho
     split at h
     · rename_i h2 hn
       have WR:=kR ok.gl hs.ts hf
       generalize je:a.eval f=cv at WR
       obtain ⟨KG,gG,rfl,Tr,YA⟩:=WR.vj
       obtain ⟨φ1,w1,ld,mark,Rd,A_,Qe,WS,oN,ta⟩:=Bb ho hs ok eT ps as bd
       obtain ⟨vJ,Ot,KN⟩:=A_.made (O:= .loop {state:= .ready,pending:=none,fn:=b.fn,tmps:=a.tmps,params:=ps,assign:=as,body:=bd,defers:=ld.eV}) hn
        ⟨rfl,_,rfl,⟨rfl,rfl,hs.ts.mono (Ph.le_trans Rd (fun j m hm=>by
         unfold Ph.add;split
         · rename_i e;subst e;exact absurd (A_.uJ _ _ hm) (Nat.lt_irrefl _)
         · exact hm)),rfl,rfl,rfl,⟨ld,by
         unfold Ph.add;split
         · rename_i e;subst e;exact absurd (A_.uJ _ _ WS) (Nat.lt_irrefl _)
         · exact WS,rfl⟩,AG⟩⟩
       have hle:=Ph.le_trans Rd KN
       have fN:(φ1.add h1.nx ⟨w1.heap.size,0,0⟩) h1.nx=some ⟨w1.heap.size,0,0⟩:=by simp [Ph.add]
       generalize ZT:φ1.add h1.nx ⟨w1.heap.size,0,0⟩=φ2 at vJ Ot KN hle fN
       have hl:LR φ2 (first++[.oQ h1.nx]++captured) (KG.toList++[.func (.yield w1.heap.size) #[] #[]]++gG.toList):=
        ((Tr.mono hle).append (.cons (.yield fN) (.nil φ2))).append (YA.mono hle)
       have xL:∀w',(resolve a.eval (rangeCall f w1.heap.size) 0).run E.P w'= .ok {target:= .fn (.func g) gG,args:=KG++ #[.func (.yield w1.heap.size) #[] #[]]} w':=fun w'=>by
        have U3:a.eval (.const (.func (.yield w1.heap.size) #[] #[]))= .func (.yield w1.heap.size) #[] #[]:=rfl
        simp [resolve,Deferred.ofValue,je,U3]
       have start:∀n st,lX E φ2 (w1.alloc (.loop {state:= .ready,pending:=none,fn:=b.fn,tmps:=a.tmps,params:=ps,assign:=as,body:=bd,defers:=ld.eV})) (.fn g) (KG.toList++[.func (.yield w1.heap.size) #[] #[]]++gG.toList) n st→
        step E.P (lone (b.atR a (.code (.rangeFunc f ps as bd)::k)) (cur K s.rc) w)= .next (lone st (b.atR {a with defers:=mark++a.defers} (.inRangeFunc w1.heap.size::k)::cur K s.rc)
         (w1.alloc (.loop {state:= .ready,pending:=none,fn:=b.fn,tmps:=a.tmps,params:=ps,assign:=as,body:=bd,defers:=ld.eV}))):=fun n st hp=>by
        cases hp with
        | fn _ _ hr=>
          have hinv:(invoke (Target.fn (.func g) gG) (KG++ #[.func (.yield w1.heap.size) #[] #[]])).run E.P (w1.alloc (.loop {state:= .ready,pending:=none,fn:=b.fn,tmps:=a.tmps,params:=ps,assign:=as,body:=bd,defers:=ld.eV}))=
           .ok (.enter g (KG.toList++[Value.func (.yield w1.heap.size) #[] #[]]++gG.toList).toArray) (w1.alloc (.loop {state:= .ready,pending:=none,fn:=b.fn,tmps:=a.tmps,params:=ps,assign:=as,body:=bd,defers:=ld.eV})):=by
           have e:(KG.toList++[Value.func (.yield w1.heap.size) #[] #[]]++gG.toList).toArray=KG++ #[Value.func (.yield w1.heap.size) #[] #[]]++gG:=by
            apply Array.toList_inj.1;simp
           rw[e] at hr ⊢
           simpa [invoke] using hr
          exact stepR_rangeFunc ta (xL _) hinv
       split at h
       ·
        rename_i v h3 hc
        obtain ⟨n,st,hp,fG⟩:=cH.ret _ _ _ _ _ hc φ2 _ _ vJ trivial hl
        obtain ⟨φ3,w3,v',_,TL,Kh,gZ⟩:=fG (b.atR {a with defers:=mark++a.defers} (.inRangeFunc w1.heap.size::k)) (cur K s.rc)
        rw[finish_atR_inRangeFunc] at gZ
        split at h
        · simp at h
        · rename_i ZU gH j0 oD rq P4 P5 xw hg
          split at h
          · rename_i e1 hj
            simp at h;obtain ⟨rfl,rfl⟩:=h
            have KO:=Kh.ext _ _ fN
            obtain ⟨_,r,hr,tp⟩:=TL.live _ _ _ hg KO
            have Re:r.state≠ .busy:=by rw[tp.state];intro e;subst e;exact xw rfl
            obtain ⟨Rf,U4⟩:=TL.Ox (o':= .loop .exhausted gH j0 oD rq P4 P5) hg rfl KO (O:= .loop {r with state:= .exhausted}) ⟨rfl,_,rfl,⟨rfl,tp.pending,tp.tmps,tp.params,tp.assign,tp.body,tp.defers,tp.fn⟩⟩
            obtain ⟨W4,U5⟩:∃W4,W4=w3.putObj w1.heap.size (.loop {r with state:= .exhausted}):=⟨_,rfl⟩
            have Rf:OK E φ3 (h3.put h1.nx (some (.loop .exhausted gH j0 oD rq P4 P5))) W4:=by rw[U5];exact Rf
            have U4:Fr φ3 h3 w3 φ3 (h3.put h1.nx (some (.loop .exhausted gH j0 oD rq P4 P5))) W4:=by rw[U5];exact U4
            have Rg:=stepR_endRangeFunc (P:=E.P) (b:=b) (a:={a with defers:=mark++a.defers}) (k:=k) (cs:=cur K s.rc) (run_endLoop hr Re)
            rw[←U5] at Rg
            have oF:=((Qe.trans Ot).trans Kh).trans U4
            have gR:=Steps.trans (.head (start n st hp) gZ) (.one Rg)
            rw[tp.pending] at gR
            have Oy:=Ph.le_trans KN Kh.ext
            have HI:=Ph.le_trans hle Kh.ext
            cases gH with
            | none=>
              simp [DV] at hj;subst hj
              exact ⟨φ3,_,_,_,.normal,oN.mono Oy,Rf,oF,eT.mono HI,gR⟩
            | some c=>
              rcases HG hj with ⟨id,rfl,rfl⟩ | ⟨rfl,rfl⟩
              · exact ⟨φ3,_,_,_,.exit id,oN.mono Oy,Rf,oF,eT.mono HI,k,rfl,gR⟩
              · exact ⟨φ3,_,_,_,.ret,oN.mono Oy,Rf,oF,eT.mono HI,k,gR⟩
          · simp at h
        · simp at h
       ·
        rename_i v h3 hc
        simp at h;obtain ⟨rfl,rfl⟩:=h
        obtain ⟨n,st,hp,fG⟩:=cH.panic _ _ _ _ _ hc φ2 _ _ vJ trivial hl
        obtain ⟨φ3,w3,v',hv,TL,Kh,gZ⟩:=fG (b.atR {a with defers:=mark++a.defers} (.inRangeFunc w1.heap.size::k)) (cur K s.rc)
        rw[Frame.raise_atR] at gZ
        exact ⟨φ3,w3,_,_,.panic v v' hv,oN.mono (Ph.le_trans KN Kh.ext),TL,(Qe.trans Ot).trans Kh,eT.mono (Ph.le_trans hle Kh.ext),_,.head (start n st hp) gZ⟩
       · simp at h
     · simp at h
   · simp at h
 · simp at h
end Go.Ab
end
