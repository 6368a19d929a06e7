import Derived.Orders
import Derived.Test.YtkffioplnoajdaaGreatA2
set_option linter.unusedVariables false
set_option linter.unusedSimpArgs false
section
namespace Go.Ab
variable {E:Env}
theorem n7 {α:Type} {f:α→α→Bool} (hf:∀x y,f x y=true→x=y):∀{l r:List α} (_:ep f l r=true),l=r
 | [],[],_=>rfl
 | [],_::_,h=>by simp [ep] at h
 | _::_,[],h=>by simp [ep] at h
 | x::xs,y::ys,h=>by
   simp only[ep,Bool.and_eq_true] at h
   rw[hf x y h.1,n7 hf h.2]
theorem AV.yD:∀(n:Nat) (x y:AV),AV.same n x y=true→x=y
 | 0,_,_,h=>by simp [AV.same] at h
 | n+1,x,y,h=>by
   have ih:=AV.yD n
   cases x<;>cases y<;>simp [AV.same] at h<;>try rfl
   all_goals first
    | (subst h;rfl)
    | (obtain ⟨rfl,rfl⟩:=h;rfl)
    | (obtain ⟨⟨⟨⟨rfl,rfl⟩,rfl⟩,rfl⟩,rfl⟩:=h;rfl)
    | (obtain ⟨⟨rfl,h1⟩,h2⟩:=h;rw[n7 ih h1,n7 ih h2])
    | (obtain ⟨rfl,h1⟩:=h;rw[ih _ _ h1])
    | (rw[n7 ih h])
theorem aM.yD {x y:aM} (h:aM.same x y=true):x=y:=by
 unfold aM.same at h
 split at h
 · simp only[Bool.and_eq_true,beq_iff_eq] at h
   obtain ⟨⟨h1,rfl⟩,rfl⟩:=h
   rw[n7 (AV.yD 20) h1]
 · simp at h;subst h;rfl
 · simp at h;obtain ⟨rfl,rfl⟩:=h;rfl
 · simp at h
theorem w7:∀{l:List Nat} (_:nodup l=true),l.Nodup
 | [],_=> .nil
 | x::xs,h=>by
   simp only[nodup,Bool.and_eq_true,Bool.not_eq_true',List.contains_eq_mem,decide_eq_false_iff_not] at h
   exact List.nodup_cons.2 ⟨h.1,w7 h.2⟩
theorem Dm:∀(n:Nat) (l:List Nat) (_:l.Nodup) (_:∀x∈l,x<n),l.length≤n
 | 0,l,_,h=>by
   cases l with
   | nil=>simp
   | cons x _=>have:=h x (by simp);omega
 | n+1,l,hn,h=>by
   have h1:=Dm n (l.erase n) (hn.erase n) (fun x hx=>by
    have h2:=h x (List.mem_of_mem_erase hx)
    have h3:x≠n:=(hn.mem_erase_iff.1 hx).1
    omega)
   rw[List.length_erase] at h1
   split at h1<;>omega
structure Dn (E:Env) (ops:Array Oper) (pl:nk):Prop where
 lt:∀i o j,ops[i]? =some o→d_ pl.an i j=true→j<i
 direct:∀i o e,ops[i]? =some o→e∈lS o→e<i∧d_ pl.an i e=true
 closed:∀i o j,ops[i]? =some o→d_ pl.an i j=true→∃e∈lS o,e=j∨d_ pl.an e j=true
 guard:∀i o g want,ops[i]? =some o→o.guard=some (g,want)→d_ pl.an i g=true
 slot:∀i j o p d,i≠j→ops[i]? =some o→ops[j]? =some p→p.dst=some d→o.dst≠some d∧(d∈tmpsOf o→d_ pl.an i j=true∨d_ pl.an j i=true)
 chain:∀q e f,pl.bP[q]? =some e→pl.bP[q+1]? =some f→d_ pl.an f e=true
 bP:pl.bP=oE E ops.toList
 nd:pl.bP.Nodup
 order:lT E ops pl.an pl.bP pl.order [] 0=true
theorem vw {ops:Array Oper} {i:Nat} {o:Oper} (h:ops[i]? =some o):(o,i)∈ops.toList.zipIdx:=by
 rw[List.mk_mem_zipIdx_iff_getElem?];simpa using h
theorem yE {an:List (List Nat)}:∀{l:List Nat} (_:vr an l=true) (q e f:Nat),l[q]? =some e→l[q+1]? =some f→d_ an f e=true
 | [],_,q,e,f,h,_=>by simp at h
 | [x],_,q,e,f,h,h'=>by simp at h'
 | x::y::l,hc,q,e,f,h,h'=>by
   simp only[vr,Bool.and_eq_true] at hc
   cases q with
   | zero=>simp at h h';subst h;subst h';exact hc.1
   | succ q=>exact yE hc.2 q e f (by simpa using h) (by simpa using h')
theorem J3 {ops:Array Oper} {pl:nk} (h:tX E ops=some pl):Dn E ops pl:=by
 unfold tX at h
 simp only at h
 split at h
 · rename_i hc
   simp at h;subst h
   simp only[Bool.and_eq_true] at hc
   obtain ⟨⟨⟨⟨he,hs⟩,hch⟩,qe⟩,S2⟩:=hc
   have Mi:=List.all_eq_true.1 he
   have rX:=List.all_eq_true.1 hs
   refine ⟨fun i o j ho hj=>?_,fun i o e ho hm=>?_,fun i o j ho hj=>?_,fun i o g want ho hg=>?_,fun i j o p d eY ho hp hd=>?_,yE hch,rfl,w7 qe,S2⟩
   · have:=Mi _ (vw ho)
     simp only[Bool.and_eq_true] at this
     have h2:=List.all_eq_true.1 this.2 j (by simpa [d_] using hj)
     simp only[Bool.and_eq_true,decide_eq_true_eq] at h2
     exact h2.1
   · have:=Mi _ (vw ho)
     simp only[Bool.and_eq_true] at this
     have h2:=List.all_eq_true.1 this.1 e hm
     simpa using h2
   · have:=Mi _ (vw ho)
     simp only[Bool.and_eq_true] at this
     have h2:=List.all_eq_true.1 this.2 j (by simpa [d_] using hj)
     simp only[Bool.and_eq_true,List.any_eq_true,Bool.or_eq_true,beq_iff_eq] at h2
     exact h2.2
   · have:=rX _ (vw ho)
     simp only[Bool.and_eq_true,hg] at this
     exact this.1.1
   · have:=rX _ (vw ho)
     simp only[Bool.and_eq_true] at this
     have h2:=List.all_eq_true.1 this.2 _ (vw hp)
     simp only[Bool.or_eq_true,beq_iff_eq,eY,false_or,hd,Bool.and_eq_true,bne_iff_ne,Bool.not_eq_true',List.contains_eq_mem,decide_eq_false_iff_not] at h2
     exact ⟨h2.1,fun hm=>(h2.2.imp_left (fun x=>x.resolve_left (fun hn=>hn hm)))⟩
 · simp at h
def rP (E:Env) (ops:Array Oper) (l:List Nat):Nat:=(l.filter fun i=>fW E ((ops.getD i default).op)).length
theorem HR {ops:Array Oper} {i:Nat} (l:List Nat) (h:fW E ((ops.getD i default).op)=true):rP E ops (i::l)=rP E ops l+1:=by
 unfold rP;rw[List.filter_cons_of_pos (p:=fun i=>fW E ((ops.getD i default).op)) h];rfl
theorem HS {ops:Array Oper} {i:Nat} (l:List Nat) (h:¬fW E ((ops.getD i default).op)=true):rP E ops (i::l)=rP E ops l:=by
 unfold rP;rw[List.filter_cons_of_neg (p:=fun i=>fW E ((ops.getD i default).op)) h]
theorem jo {ops:Array Oper} {an:List (List Nat)} {bP:List Nat}:∀{l seen:List Nat} {k:Nat} (_:lT E ops an bP l seen k=true),
 (∀p i,l[p]? =some i→i<ops.size∧i ∉ seen∧i ∉ l.take p∧(∀j,d_ an i j=true→j∈seen∨j∈l.take p)∧
  (fW E ((ops.getD i default).op)=true→bP[k+rP E ops (l.take p)]? =some i)∧(fW E ((ops.getD i default).op)=false→HA bP an i=k+rP E ops (l.take p)))∧
 (∀i,i<ops.size→i∈seen∨i∈l)∧k+rP E ops l=bP.length
 | [],seen,k,h=>by
   simp only[lT,Bool.and_eq_true,List.all_eq_true,List.mem_range,beq_iff_eq] at h
   exact ⟨fun p i hp=>by simp at hp,fun i hi=> .inl (by simpa using h.1 i hi),by simpa [rP] using h.2⟩
 | i::l,seen,k,h=>by
   simp only[lT,Bool.and_eq_true,decide_eq_true_eq,Bool.not_eq_true',List.contains_eq_mem,decide_eq_false_iff_not] at h
   obtain ⟨⟨⟨np,hns⟩,abb⟩,pC⟩:=h
   have ZX:∀j,d_ an i j=true→j∈seen:=fun j hj=>by
    have:=List.all_eq_true.1 abb j (by simpa [d_] using hj)
    simpa using this
   by_cases he:fW E ((ops.getD i default).op)=true
   · simp only[he,if_true,Bool.and_eq_true,beq_iff_eq] at pC
     obtain ⟨h1,h2,h3⟩:=jo pC.2
     refine ⟨fun p j hp=>?_,fun j hj=>?_,?_⟩
     · cases p with
       | zero=>simp at hp;subst hp;exact ⟨np,hns,by simp,fun j hj=> .inl (ZX j hj),fun _=>by simpa [rP] using pC.1,fun hf=>by rw[he] at hf;simp at hf⟩
       | succ p=>
         obtain ⟨a1,a2,a3,a4,a5,a6⟩:=h1 p j (by simpa using hp)
         have hc:k+rP E ops (List.take (p+1) (i::l))=k+1+rP E ops (l.take p):=by rw[List.take_succ_cons,HR _ he];omega
         simp only[List.mem_cons,not_or] at a2
         refine ⟨a1,a2.2,by simp;exact ⟨a2.1,a3⟩,fun m hm=>?_,by rw[hc];exact a5,by rw[hc];exact a6⟩
         rcases a4 m hm with h4 | h4
         · simp at h4;rcases h4 with rfl | h4
           · exact .inr (by simp)
           · exact .inl h4
         · exact .inr (by simp [h4])
     · rcases h2 j hj with h4 | h4
       · simp at h4;rcases h4 with rfl | h4
         · exact .inr (by simp)
         · exact .inl h4
       · exact .inr (by simp [h4])
     · rw[HR _ he];omega
   · simp only[he,Bool.false_eq_true,if_false,Bool.and_eq_true,beq_iff_eq] at pC
     obtain ⟨h1,h2,h3⟩:=jo pC.2
     refine ⟨fun p j hp=>?_,fun j hj=>?_,?_⟩
     · cases p with
       | zero=>simp at hp;subst hp;exact ⟨np,hns,by simp,fun j hj=> .inl (ZX j hj),fun hf=>absurd hf he,fun _=>by simpa [rP] using pC.1⟩
       | succ p=>
         obtain ⟨a1,a2,a3,a4,a5,a6⟩:=h1 p j (by simpa using hp)
         have hc:k+rP E ops (List.take (p+1) (i::l))=k+rP E ops (l.take p):=by rw[List.take_succ_cons,HS _ he]
         simp only[List.mem_cons,not_or] at a2
         refine ⟨a1,a2.2,by simp;exact ⟨a2.1,a3⟩,fun m hm=>?_,by rw[hc];exact a5,by rw[hc];exact a6⟩
         rcases a4 m hm with h4 | h4
         · simp at h4;rcases h4 with rfl | h4
           · exact .inr (by simp)
           · exact .inl h4
         · exact .inr (by simp [h4])
     · rcases h2 j hj with h4 | h4
       · simp at h4;rcases h4 with rfl | h4
         · exact .inr (by simp)
         · exact .inl h4
       · exact .inr (by simp [h4])
     · rw[HS _ he];exact h3
def hT (ops:Array Oper) (i:Nat):Option Tmp:=(ops[i]?).bind (·.dst)
def HU (ops:Array Oper) (ts:List AV) (l:List Step):List AV:=l.foldl (fun ts x=>dt ts (hT ops x.i) x.v) ts
def qf (ops:Array Oper) (val:Nat→AV) (ts:List AV) (l:List Nat):List AV:=l.foldl (fun ts i=>dt ts (hT ops i) (val i)) ts
structure Grown (a b:au):Prop where
 nx:a.nx≤b.nx
 old:∀i,i<a.nx→b.get i=a.get i
theorem Grown.refl (a:au):Grown a a:=⟨Nat.le_refl _,fun _ _=>rfl⟩
theorem Grown.trans {a b c:au} (x:Grown a b) (y:Grown b c):Grown a c:=⟨Nat.le_trans x.nx y.nx,fun i hi=>(y.old i (Nat.lt_of_lt_of_le hi x.nx)).trans (x.old i hi)⟩
theorem Grown.new {a b:au} {o:aM} (h:a.new o=some b):Grown a b:=by
 obtain ⟨h1,h2,h3,h4⟩:=au.mD h
 exact ⟨by omega,fun i hi=>h4 i (by omega)⟩
theorem OK.grown {φ:Ph} {a b:au} {w:World} (g:Grown a b) (ok:OK E φ a w):OK E φ b w∧Fr φ a w φ b w:=by
 have hold:∀i l,φ i=some l→b.get i=a.get i:=fun i l hl=>g.old i (ok.B6 i l hl)
 refine ⟨⟨fun i l hl=>Nat.lt_of_lt_of_le (ok.B6 i l hl) g.nx,Nat.le_trans ok.nx g.nx,ok.wN,fun i o l hi hl=>ok.live i o l (hold i l hl▸hi) hl,
  fun i j o p l m hi hj hl hm hw hb=>ok.inj i j o p l m (hold i l hl▸hi) (hold j m hm▸hj) hl hm hw hb⟩,
  ⟨Ph.le_refl φ,fun _ _=>rfl,g.nx,rfl,rfl,rfl,Nat.le_refl _,fun _ _ _=>rfl,fun i o l hi hr hl=> .inr ⟨i,o,l,hold i l hl▸hi,hr,hl,rfl⟩⟩⟩
def yF (E:Env) (call:bq) (ops:Array Oper) (rc:RC) (x:Step) (o:Oper) (hk:au) (sk:au) (ZY:Option au):Prop:=
 match x.kind with
 | .off=>cJ ops x.ts o=false∧x.v=AV.undef∧(fW E o.op=true→ZY=some hk)
 | .hG=>fW E o.op=false∧cJ ops x.ts o=true∧bC E x.ts o.op=some x.v
 | .red=>fW E o.op=false∧cJ ops x.ts o=true
 | .tY n obj=>fW E o.op=false∧cJ ops x.ts o=true∧(∃mk,eO E x.ts o.op=some (obj,mk)∧x.v=mk n)∧sk.nx≤n∧n<hk.nx
 | .vV h'=>fW E o.op=true∧cJ ops x.ts o=true∧dA E call x.ts hk rc o= .val x.v h'∧ZY=some h'
structure Xm (E:Env) (call:bq) (ops:Array Oper) (s:St) (k:Nat) (order:List Nat) (tr:List Step) (hs st:List au) (s':St):Prop where
 is:tr.map (·.i)=order
 ts:s'.ts=HU ops s.ts tr
 ds:s'.ds=s.ds
 rc:s'.rc=s.rc
 len:hs.length=rP E ops order+1
 abc:st.length=hs.length
 first:st[0]? =some s.h
 last:hs[rP E ops order]? =some s'.h
 grown:∀(j:Nat) (a b:au),st[j]? =some a→hs[j]? =some b→Grown a b
 step:∀(p:Nat) (x:Step),tr[p]? =some x→x.ts=HU ops s.ts (tr.take p)∧x.k=k+rP E ops (order.take p)∧
  ∃o hk sk,ops[x.i]? =some o∧hs[rP E ops (order.take p)]? =some hk∧st[rP E ops (order.take p)]? =some sk∧yF E call ops s.rc x o hk sk (st[rP E ops (order.take p)+1]?)
theorem vx (ops:Array Oper) (ts:List AV) (x:Step) (l:List Step):HU ops ts (x::l)=HU ops (dt ts (hT ops x.i) x.v) l:=rfl
theorem pH {call:bq} {ops:Array Oper}:∀{order:List Nat} {k:Nat} {s:St} {tr:List Step} {hs:List au} {s':St} (_:dc E call ops order k s= .ok tr hs s'),
 ∃st,Xm E call ops s k order tr hs st s'
 | [],k,s,tr,hs,s',h=>by
   simp [dc] at h;obtain ⟨rfl,rfl,rfl⟩:=h
   exact ⟨[s.h],rfl,rfl,rfl,rfl,rfl,rfl,rfl,rfl,fun j a b ha hb=>by
    cases j with
    | zero=>simp at ha hb;subst ha;subst hb;exact Grown.refl _
    | succ j=>simp at ha,fun p x hp=>by simp at hp⟩
 | i::rest,k,s,tr,hs,s',h=>by
   simp only[dc] at h
   cases ho:ops[i]? with
   | none=>rw[ho] at h;simp at h
   | some o=>
   rw[ho] at h
   simp only at h
   have hgd:ops.getD i default=o:=by simp [Array.getD_eq_getD_getElem?,ho]
   have Xn:hT ops i=o.dst:=by simp [hT,ho]
   have writes:∀(x:Step) (s1:St),x.i=i→x.k=k→x.ts=s.ts→s1.ts=dt s.ts o.dst x.v→s1.ds=s.ds→s1.rc=s.rc→fW E o.op=true→
    yF E call ops s.rc x o s.h s.h (some s1.h)→((dc E call ops rest (k+1) s1).bound s.h).step x= .ok tr hs s'→∃st,Xm E call ops s k (i::rest) tr hs st s':=by
    intro x s1 Qy HV hxt h1 h2 h3 he kb hd
    cases hr:dc E call ops rest (k+1) s1 with
    | fail why q=>rw[hr] at hd;simp [kK.bound,kK.step] at hd
    | ok OP tR s2=>
      rw[hr] at hd;simp [kK.bound,kK.step] at hd;obtain ⟨rfl,rfl,rfl⟩:=hd
      obtain ⟨Sn,t⟩:=pH hr
      have hc:∀l,rP E ops (i::l)=rP E ops l+1:=fun l=>HR l (by rw[hgd];exact he)
      refine ⟨s.h::Sn,by simp [Qy,t.is],?_,t.ds.trans h2,t.rc.trans h3,by simp [t.len,hc],by simp [t.abc],rfl,by rw[hc];simpa using t.last,fun j a b ha hb=>?_,fun p y hp=>?_⟩
      · rw[vx,Qy,Xn,←h1];exact t.ts
      · cases j with
        | zero=>simp at ha hb;subst ha;subst hb;exact Grown.refl _
        | succ j=>exact t.grown j a b (by simpa using ha) (by simpa using hb)
      · cases p with
        | zero=>
          simp at hp;subst hp
          refine ⟨by simp [HU,hxt],by simp [rP,HV],o,s.h,s.h,by rw[Qy];exact ho,by simp [rP],by simp [rP],?_⟩
          have:(s.h::Sn)[rP E ops (List.take 0 (i::rest))+1]? =some s1.h:=by simp [rP];exact t.first
          rw[this];exact kb
        | succ p=>
          obtain ⟨a1,a2,o2,hk,sk,a3,a4,a5,a6⟩:=t.step p y (by simpa using hp)
          refine ⟨?_,by rw[List.take_succ_cons,hc];omega,o2,hk,sk,a3,by rw[List.take_succ_cons,hc];simpa using a4,by rw[List.take_succ_cons,hc];simpa using a5,?_⟩
          · rw[List.take_succ_cons,vx,Qy,Xn,←h1];exact a1
          · rw[List.take_succ_cons,hc,h3] at *
            simpa using a6
   have plain:∀(x:Step) (s1:St),x.i=i→x.k=k→x.ts=s.ts→s1.ts=dt s.ts o.dst x.v→s1.ds=s.ds→s1.rc=s.rc→fW E o.op=false→Grown s.h s1.h→
    (∀hk sn,Grown s1.h hk→yF E call ops s.rc x o hk s.h sn)→(dc E call ops rest k s1).step x= .ok tr hs s'→∃st,Xm E call ops s k (i::rest) tr hs st s':=by
    intro x s1 Qy HV hxt h1 h2 h3 he hg kb hd
    cases hr:dc E call ops rest k s1 with
    | fail why q=>rw[hr] at hd;simp [kK.step] at hd
    | ok OP tR s2=>
      rw[hr] at hd;simp [kK.step] at hd;obtain ⟨rfl,rfl,rfl⟩:=hd
      obtain ⟨Sn,t⟩:=pH hr
      have hc:∀l,rP E ops (i::l)=rP E ops l:=fun l=>HS l (by rw[hgd];simp [he])
      cases Ca:Sn with
      | nil=>have:=t.first;rw[Ca] at this;simp at this
      | cons s0 st2=>
      have MI:s0=s1.h:=by have:=t.first;rw[Ca] at this;simpa using this
      subst MI
      have gS:∀j,(s.h::st2)[j+1]? =Sn[j+1]? :=fun j=>by rw[Ca];rfl
      refine ⟨s.h::st2,by simp [Qy,t.is],?_,t.ds.trans h2,t.rc.trans h3,by rw[hc];exact t.len,by have:=t.abc;rw[Ca] at this;simpa using this,rfl,by rw[hc];exact t.last,fun j a b ha hb=>?_,fun p y hp=>?_⟩
      · rw[vx,Qy,Xn,←h1];exact t.ts
      · cases j with
        | zero=>
          simp at ha;subst ha
          exact hg.trans (t.grown 0 _ b t.first hb)
        | succ j=>rw[gS] at ha;exact t.grown (j+1) a b ha hb
      · cases p with
        | zero=>
          simp at hp;subst hp
          have h0:∃hk,tR[0]? =some hk:=by
           have:=t.len
           cases hh:tR with
           | nil=>rw[hh] at this;simp at this
           | cons a _=>exact ⟨a,rfl⟩
          obtain ⟨hk,Bq⟩:=h0
          refine ⟨by simp [HU,hxt],by simp [rP,HV],o,hk,s.h,by rw[Qy];exact ho,by simpa [rP] using Bq,by simp [rP],?_⟩
          exact kb hk _ (t.grown 0 _ hk t.first Bq)
        | succ p=>
          obtain ⟨a1,a2,o2,hk,sk,a3,a4,a5,a6⟩:=t.step p y (by simpa using hp)
          have hsk:∃sk',(s.h::st2)[rP E ops (List.take p rest)]? =some sk'∧sk'.nx≤sk.nx:=by
           cases hq:rP E ops (List.take p rest) with
           | zero=>rw[hq] at a5;rw[t.first] at a5;simp at a5;subst a5;exact ⟨s.h,rfl,hg.nx⟩
           | succ q=>rw[hq] at a5;exact ⟨sk,by rw[gS];exact a5,Nat.le_refl _⟩
          obtain ⟨sk',agM,agN⟩:=hsk
          refine ⟨?_,by rw[List.take_succ_cons,hc];exact a2,o2,hk,sk',a3,by rw[List.take_succ_cons,hc];exact a4,by rw[List.take_succ_cons,hc];exact agM,?_⟩
          · rw[List.take_succ_cons,vx,Qy,Xn,←h1];exact a1
          · rw[List.take_succ_cons,hc,gS,←h3]
            unfold yF at a6 ⊢
            split<;>rename_i yG<;>rw[yG] at a6
            · exact a6
            · exact a6
            · exact a6
            · exact ⟨a6.1,a6.2.1,a6.2.2.1,Nat.le_trans agN a6.2.2.2.1,a6.2.2.2.2⟩
            · exact a6
   split at h
   · rename_i he
     split at h
     · rename_i hw
       split at h
       · rename_i v h' uo
         exact writes ⟨i,k,s.ts,v,.vV h'⟩ {s with ts:=dt s.ts o.dst v,h:=h'} rfl rfl rfl rfl rfl rfl he ⟨he,hw,uo,rfl⟩ h
       · simp at h
       · simp at h
     · rename_i hw
       exact writes ⟨i,k,s.ts,AV.undef,.off⟩ {s with ts:=dt s.ts o.dst AV.undef} rfl rfl rfl rfl rfl rfl he ⟨by simpa using hw,rfl,fun _=>rfl⟩ h
   · rename_i he
     have Mi:fW E o.op=false:=by simpa using he
     split at h
     · rename_i hw
       split at h
       · rename_i v hp
         exact plain ⟨i,k,s.ts,v,.hG⟩ {s with ts:=dt s.ts o.dst v} rfl rfl rfl rfl rfl rfl Mi (Grown.refl _) (fun hk sn _=>⟨Mi,hw,hp⟩) h
       · split at h
         · rename_i v hp
           exact plain ⟨i,k,s.ts,v,.red⟩ {s with ts:=dt s.ts o.dst v} rfl rfl rfl rfl rfl rfl Mi (Grown.refl _) (fun hk sn _=>⟨Mi,hw⟩) h
         · split at h
           · rename_i obj mk hp
             split at h
             · rename_i h' hn
               refine plain ⟨i,k,s.ts,mk s.h.nx,.tY s.h.nx obj⟩ {s with ts:=dt s.ts o.dst (mk s.h.nx),h:=h'} rfl rfl rfl rfl rfl rfl Mi (Grown.new hn) (fun hk sn g=>⟨Mi,hw,⟨mk,hp,rfl⟩,Nat.le_refl _,?_⟩) h
               have:=(au.mD hn).2.1
               have:=g.nx
               simp at this;omega
             · simp at h
           · simp at h
     · rename_i hw
       exact plain ⟨i,k,s.ts,AV.undef,.off⟩ {s with ts:=dt s.ts o.dst AV.undef} rfl rfl rfl rfl rfl rfl Mi (Grown.refl _) (fun hk sn _=>⟨by simpa using hw,rfl,fun h=>by rw[Mi] at h;simp at h⟩) h
end Go.Ab
end
section
namespace Go.Ab
variable {E:Env}
theorem vy (ops:Array Oper) (val:Nat→AV) (x:Nat):∀(l:List Nat) (ts:List AV) (_:∀j∈l,hT ops j≠some x),(qf ops val ts l)[x]? =ts[x]?
 | [],_,_=>rfl
 | i::l,ts,h=>by
   show (qf ops val (dt ts (hT ops i) (val i)) l)[x]? =_
   rw[vy ops val x l _ (fun j hj=>h j (by simp [hj]))]
   have:=h i (by simp)
   cases hd:hT ops i with
   | none=>rfl
   | some d=>
     rw[hd] at this
     have eY:d≠x:=fun e=>this (by rw[e])
     simp [dt,List.getElem?_set_ne eY]
theorem Dp (ops:Array Oper) (val:Nat→AV) (x j:Nat) (hj:hT ops j=some x):∀(l:List Nat) (ts:List AV) (_:j∈l) (_:∀j'∈l,hT ops j'=some x→j'=j),(qf ops val ts l)[x]? =if x<ts.length then some (val j) else none
 | i::l,ts,hm,hu=>by
   show (qf ops val (dt ts (hT ops i) (val i)) l)[x]? =_
   have hlen:(dt ts (hT ops i) (val i)).length=ts.length:=by cases hT ops i<;>simp [dt]
   by_cases So:j∈l
   · rw[Dp ops val x j hj l _ So (fun j' h=>hu j' (by simp [h])),hlen]
   · have hij:i=j:=by simp at hm;rcases hm with h | h;exact h.symm;exact absurd h So
     subst hij
     rw[vy ops val x l _ (fun j' rj e=>So (hu j' (by simp [rj]) e▸rj))]
     rw[hj]
     simp [dt,List.getElem?_set]
theorem w_ {ops:Array Oper} {val:Nat→AV} {x:Nat} {l d:List Nat} (ts:List AV) (hu:∀j j',hT ops j=some x→hT ops j'=some x→j=j') (Z0:∀j,hT ops j=some x→(j∈l↔j∈d)):
 (qf ops val ts l)[x]? =(qf ops val ts d)[x]? :=by
 by_cases h:∃j,hT ops j=some x∧j∈l
 · obtain ⟨j,hj,hl⟩:=h
   rw[Dp ops val x j hj l ts hl (fun j' _ e=>hu j' j e hj),Dp ops val x j hj d ts ((Z0 j hj).1 hl) (fun j' _ e=>hu j' j e hj)]
 · rw[vy ops val x l ts (fun j hj e=>h ⟨j,e,hj⟩),vy ops val x d ts (fun j hj e=>h ⟨j,e,(Z0 j e).2 hj⟩)]
theorem At {l r:List AV} {x:Nat} (h:l[x]? =r[x]?) (d:AV):l.getD x d=r.getD x d:=by simp [List.getD,h]
def valOf (tr:List Step) (i:Nat):AV:=((tr.find? (fun x=>x.i==i)).map (·.v)).getD AV.undef
theorem J4 {tr:List Step} (hn:(tr.map (·.i)).Nodup) {p:Nat} {x:Step} (hp:tr[p]? =some x):valOf tr x.i=x.v:=by
 unfold valOf
 have:tr.find? (fun y=>y.i==x.i)=some x:=by
  rw[List.find?_eq_some_iff_getElem]
  obtain ⟨np,hx⟩:=List.getElem?_eq_some_iff.1 hp
  refine ⟨by simp,p,np,hx,fun j hj=>?_⟩
  have So:j<tr.length:=by omega
  simp only[Bool.not_eq_true',beq_eq_false_iff_ne]
  intro e
  have h1:(tr.map (·.i))[j]? =some x.i:=by simp [So,e]
  have h2:(tr.map (·.i))[p]? =some x.i:=by simp [np,hx]
  have:=(List.getElem?_inj (by simpa using So) hn).1 (h1.trans h2.symm)
  omega
 rw[this];rfl
theorem HW (ops:Array Oper) {tr:List Step} (hn:(tr.map (·.i)).Nodup) (ts:List AV) (p:Nat):HU ops ts (tr.take p)=qf ops (valOf tr) ts ((tr.map (·.i)).take p):=by
 have key:∀(l:List Step) (ts:List AV),(∀x∈l,valOf tr x.i=x.v)→HU ops ts l=qf ops (valOf tr) ts (l.map (·.i)):=by
  intro l
  induction l with
  | nil=>intro ts _;rfl
  | cons x l ih=>
    intro ts h
    show HU ops (dt ts (hT ops x.i) x.v) l=qf ops (valOf tr) (dt ts (hT ops x.i) (valOf tr x.i)) (l.map (·.i))
    rw[h x (by simp),ih _ (fun y hy=>h y (by simp [hy]))]
 rw[key _ _ (fun x hx=>?_),List.map_take]
 obtain ⟨q,hq⟩:=List.getElem?_of_mem (List.mem_of_mem_take hx)
 exact J4 hn hq
theorem OK.place {φ:Ph} {h:au} {w:World} (ok:OK E φ h w) {n:Nat} {obj:aM} (hg:h.get n=some obj) (Ft:φ n=none) (np:n<h.nx) {O:Obj}
 (ho:OR E (φ.add n ⟨w.heap.size,0,0⟩) obj ⟨w.heap.size,0,0⟩ (some O)):OK E (φ.add n ⟨w.heap.size,0,0⟩) h (w.alloc O)∧φ.le (φ.add n ⟨w.heap.size,0,0⟩):=by
 have hle:φ.le (φ.add n ⟨w.heap.size,0,0⟩):=fun j m hm=>by
  unfold Ph.add;split
  · rename_i e;subst e;rw[Ft] at hm;simp at hm
  · exact hm
 have lk:∀j,j≠n→(φ.add n ⟨w.heap.size,0,0⟩) j=φ j:=fun j hj=>by simp [Ph.add,hj]
 have hS:(φ.add n ⟨w.heap.size,0,0⟩) n=some ⟨w.heap.size,0,0⟩:=by simp [Ph.add]
 have Z1:(w.alloc O).heap=w.heap.push O:=rfl
 have Fu:∀j p m,h.get j=some p→φ j=some m→m.g6<w.heap.size:=fun j p m hj hm=>by
  have E9:=ok.live j p m hj hm
  rcases Nat.lt_or_ge m.g6 w.heap.size with a | a
  · exact a
  · exfalso
    rw[Array.getElem?_eq_none a] at E9
    exact E9.absurd
 refine ⟨⟨fun j m hm=>?_,ok.nx,fun g hg=>hle _ _ (ok.wN g hg),fun j p m hj hm=>?_,fun j k p q m r hj hk hm hr hw hb=>?_⟩,hle⟩
 · by_cases e:j=n
   · omega
   · rw[lk j e] at hm;exact ok.B6 j m hm
 · by_cases e:j=n
   · subst e;rw[hS] at hm;simp at hm;subst hm;rw[hg] at hj;simp at hj;subst hj;rw[Z1];simpa using ho
   · rw[lk j e] at hm
     have hb:=Fu j p m hj hm
     rw[Z1,Array.getElem?_push,if_neg (by omega)]
     exact (ok.live j p m hj hm).mono hle
 · by_cases e:j=n<;>by_cases e':k=n
   · rw[e,e']
   · subst e;rw[hS] at hm;simp at hm;subst hm;rw[lk k e'] at hr;have:=Fu k q r hk hr;simp at hb;omega
   · subst e';rw[hS] at hr;simp at hr;subst hr;rw[lk j e] at hm;have:=Fu j p m hj hm;simp at hb;omega
   · rw[lk j e] at hm;rw[lk k e'] at hr;exact ok.inj j k p q m r hj hk hm hr hw hb
theorem Fr.place {φ₀ φ:Ph} {h₀ h:au} {w₀ w:World} (f:Fr φ₀ h₀ w₀ φ h w) {n:Nat} (hn:h₀.nx≤n) (Ft:φ n=none) (O:Obj):Fr φ₀ h₀ w₀ (φ.add n ⟨w.heap.size,0,0⟩) h (w.alloc O):=by
 have lk:∀j,j≠n→(φ.add n ⟨w.heap.size,0,0⟩) j=φ j:=fun j hj=>by simp [Ph.add,hj]
 have hS:(φ.add n ⟨w.heap.size,0,0⟩) n=some ⟨w.heap.size,0,0⟩:=by simp [Ph.add]
 refine ⟨fun j m hm=>?_,fun i hi=>by rw[lk i (by omega)];exact f.old i hi,f.nx,f.os,f.tape,f.output,by have:=f.size;simp;omega,fun b hb hn'=>?_,fun i o l hi hr hl=>?_⟩
 · by_cases e:j=n
   · subst e;have:=f.ext j m hm;rw[Ft] at this;simp at this
   · rw[lk j e];exact f.ext j m hm
 · have:=f.size
   rw[show (w.alloc O).heap=w.heap.push O from rfl,Array.getElem?_push,if_neg (by omega)]
   exact f.Fq b hb hn'
 · by_cases e:i=n
   · subst e;rw[hS] at hl;simp at hl;subst hl;exact .inl f.size
   · rw[lk i e] at hl;exact f.own i o l hi hr hl
theorem filter_le {P:Nat→Bool} {l:List Nat} {K:Nat} (h:∀q e,l[q]? =some e→P e=true→q<K):(l.filter P).length≤K:=by
 have h1:(l.drop K).filter P=[]:=by
  rw[List.filter_eq_nil_iff]
  intro e he hP
  obtain ⟨q,hq⟩:=List.getElem?_of_mem he
  rw[List.getElem?_drop] at hq
  have:=h _ e hq hP
  omega
 calc (l.filter P).length=((l.take K++l.drop K).filter P).length:=by rw[List.take_append_drop]
  _=((l.take K).filter P).length:=by rw[List.filter_append,h1,List.append_nil]
  _≤(l.take K).length:=List.length_filter_le _ _
  _≤K:=by simp;omega
theorem yH {P:Nat→Bool}:∀{l:List Nat} {e:Nat} (_:l[(l.takeWhile P).length]? =some e),P e=false
 | [],e,h=>by simp at h
 | x::l,e,h=>by
   by_cases hx:P x=true
   · rw[List.takeWhile_cons_of_pos hx] at h
     exact yH (l:=l) (by simpa using h)
   · rw[List.takeWhile_cons_of_neg hx] at h
     simp at h;subst h;simpa using hx
end Go.Ab
end
section
namespace Go.Ab
variable {E:Env}
structure HX (E:Env) (call:bq) (ops:Array Oper) (pl:nk) (s s':St) (tr:List Step) (hs st:List au):Prop where
 tA:Dn E ops pl
 trace:Xm E call ops s 0 pl.order tr hs st s'
 still:∀x∈tr,∀K hk,x.k≤K→K≤lg pl.bP pl.an x.i→hs[K]? =some hk→kf E ops x hk=true
 ids:∀(x y:Step),x∈tr→y∈tr→∀(n:Nat) (o q:aM),x.kind= .tY n o→y.kind= .tY n q→x.i=y.i
structure Inv (E:Env) (ops:Array Oper) (pl:nk) (s:St) (tr:List Step) (hs st:List au) (φ₀:Ph) (w₀:World) (yi:List Deferred) (d:List Nat) (bX:Array Bool) (K:Nat) (φ:Ph) (a:Act) (w:World):Prop where
 nd:d.Nodup
 lt:∀i∈d,i<ops.size
 bX:∀i,i<ops.size→bX[i]? =some (decide (i∈d))
 closed:∀i∈d,∀j,d_ pl.an i j=true→j∈d
 bP:∀q e,pl.bP[q]? =some e→(e∈d↔q<K)
 Kle:K≤pl.bP.length
 ts:LR φ (qf ops (valOf tr) s.ts d) a.tmps.toList
 ds:a.defers=yi
 ok:∃hK,hs[K]? =some hK∧OK E φ hK w∧Fr φ₀ s.h w₀ φ hK w
 jM:∀x∈tr,∀n obj,x.kind= .tY n obj→x.i ∉ d→x.k≤K→φ n=none∧s.h.nx≤n∧∀hK,hs[K]? =some hK→n<hK.nx
section
variable {call:bq} {ops:Array Oper} {pl:nk} {s s':St} {tr:List Step} {hs st:List au}
theorem HX.at (r:HX E call ops pl s s' tr hs st) {p:Nat} {x:Step} (hp:tr[p]? =some x):
 pl.order[p]? =some x.i∧x.i ∉ pl.order.take p∧(∀j,d_ pl.an x.i j=true→j∈pl.order.take p)∧x.k=rP E ops (pl.order.take p)∧
 ∃o,ops[x.i]? =some o∧(fW E o.op=true→pl.bP[x.k]? =some x.i)∧(fW E o.op=false→HA pl.bP pl.an x.i=x.k):=by
 have h1:pl.order[p]? =some x.i:=by rw[←r.trace.is,List.getElem?_map,hp];rfl
 obtain ⟨h2,_,_⟩:=jo r.tA.order
 obtain ⟨a1,a2,a3,a4,a5,a6⟩:=h2 p x.i h1
 obtain ⟨b1,b2,o,hk,sk,b3,_⟩:=r.trace.step p x hp
 have hgd:ops.getD x.i default=o:=by simp [Array.getD_eq_getD_getElem?,b3]
 rw[hgd] at a5 a6
 have Fs:x.k=rP E ops (pl.order.take p):=by omega
 refine ⟨h1,a3,fun j hj=>(a4 j hj).resolve_left (by simp),Fs,o,b3,fun he=>?_,fun he=>?_⟩
 · have:=a5 he;rw[Fs];simpa using this
 · have:=a6 he;omega
theorem wg:∀{l:List Nat} (_:∀(p i:Nat),l[p]? =some i→i ∉ l.take p),l.Nodup
 | [],_=> .nil
 | x::l,h=>by
   refine List.nodup_cons.2 ⟨fun hm=>?_,wg (fun p i hp hi=>h (p+1) i (by simpa using hp) (by simp [hi]))⟩
   obtain ⟨q,hq⟩:=List.getElem?_of_mem hm
   exact h (q+1) x (by simpa using hq) (by simp)
theorem HX.nodup (r:HX E call ops pl s s' tr hs st):pl.order.Nodup:=by
 obtain ⟨h2,_,_⟩:=jo r.tA.order
 exact wg (fun p i hp=>(h2 p i hp).2.2.1)
theorem HX.all (r:HX E call ops pl s s' tr hs st) {i:Nat} (hi:i<ops.size):∃(p:Nat) (x:Step),tr[p]? =some x∧x.i=i:=by
 obtain ⟨_,h3,_⟩:=jo r.tA.order
 have:=(h3 i hi).resolve_left (by simp)
 rw[←r.trace.is] at this
 obtain ⟨x,hx,rfl⟩:=List.mem_map.1 this
 obtain ⟨p,hp⟩:=List.getElem?_of_mem hx
 exact ⟨p,x,hp,rfl⟩
theorem yI {ops:Array Oper} {pl:nk} (pok:Dn E ops pl) {x j j':Nat} (h:hT ops j=some x) (h':hT ops j'=some x):j=j':=by
 unfold hT at h h'
 cases ho:ops[j]? with
 | none=>rw[ho] at h;simp at h
 | some o=>
 cases J5:ops[j']? with
 | none=>rw[J5] at h';simp at h'
 | some o'=>
 rw[ho] at h;rw[J5] at h'
 simp at h h'
 rcases Nat.decEq j j' with eY | he
 · exact absurd h (pok.slot j j' o o' x eY ho J5 h').1
 · exact he
theorem Z2 (r:HX E call ops pl s s' tr hs st) {p:Nat} {x:Step} {o:Oper} (hp:tr[p]? =some x) (ho:ops[x.i]? =some o) {d:List Nat} (hd:x.i ∉ d) (hcl:∀i∈d,∀j,d_ pl.an i j=true→j∈d)
 (sa:∀j,d_ pl.an x.i j=true→j∈d):Gy E x.ts (qf ops (valOf tr) s.ts d) o.op∧cJ ops (qf ops (valOf tr) s.ts d) o=cJ ops x.ts o:=by
 obtain ⟨h1,h2,h3,_,_⟩:=r.at hp
 have qe:(tr.map (·.i)).Nodup:=by rw[r.trace.is];exact r.nodup
 have S3:x.ts=qf ops (valOf tr) s.ts (pl.order.take p):=by
  rw[(r.trace.step p x hp).1,HW ops qe,r.trace.is]
 have hpc:∀j∈pl.order.take p,∀m,d_ pl.an j m=true→m∈pl.order.take p:=by
  intro j hj m hm
  obtain ⟨q,hq⟩:=List.getElem?_of_mem hj
  have hqp:q<p:=by
   have:=(List.getElem?_eq_some_iff.1 hq).1
   simp at this;omega
  have hq':pl.order[q]? =some j:=by rw[List.getElem?_take] at hq;rw[if_pos hqp] at hq;exact hq
  obtain ⟨f1,_,_⟩:=jo r.tA.order
  have:=((f1 q j hq').2.2.2.1 m hm).resolve_left (by simp)
  exact List.mem_of_mem_take (i:=q) (l:=pl.order.take p) (by rw[List.take_take,Nat.min_eq_left (Nat.le_of_lt hqp)];exact this)
 have same:∀t,(∀j p',j≠x.i→ops[j]? =some p'→p'.dst=some t→d_ pl.an x.i j=true∨d_ pl.an j x.i=true)→(qf ops (valOf tr) s.ts (pl.order.take p))[t]? =(qf ops (valOf tr) s.ts d)[t]? :=by
  intro t ht
  refine w_ s.ts (fun j j' a b=>yI r.tA a b) (fun j hj=>?_)
  by_cases hji:j=x.i
  · subst hji;exact ⟨fun h=>absurd h h2,fun h=>absurd h hd⟩
  · obtain ⟨p',hp',Z3⟩:∃p',ops[j]? =some p'∧p'.dst=some t:=by
     unfold hT at hj
     cases Z4:ops[j]? with
     | none=>rw[Z4] at hj;simp at hj
     | some p'=>rw[Z4] at hj;exact ⟨p',rfl,by simpa using hj⟩
    rcases ht j p' hji hp' Z3 with h | h
    · exact ⟨fun _=>sa j h,fun _=>h3 j h⟩
    · exact ⟨fun hm=>absurd (hpc j hm _ h) h2,fun hm=>absurd (hcl j hm _ h) hd⟩
 rw[S3]
 refine ⟨fun y hy=>?_,?_⟩
 · cases y with
   | tmp t=>
     have ht:t∈tmpsOf o:=by
      unfold tmpsOf;rw[List.mem_filterMap];exact ⟨.tmp t,by simpa using hy,rfl⟩
     simp only[fb]
     rw[At (same t (fun j p' eY hp' Z3=>(r.tA.slot x.i j o p' t (Ne.symm eY) ho hp' Z3).2 ht))]
   | const c=>rfl
   | global g=>rfl
   | func f=>rfl
 · unfold cJ
   cases hg:o.guard with
   | none=>rfl
   | some gw=>
     obtain ⟨g,want⟩:=gw
     simp only
     cases hdg:(ops[g]?).bind (·.dst) with
     | none=>rfl
     | some t=>
       simp only
       have abb:=r.tA.guard x.i o g want ho hg
       rw[same t (fun j p' eY hp' Z3=>by
        have:j=g:=yI r.tA (x:=t) (by unfold hT;rw[hp'];simpa using Z3) hdg
        subst this;exact .inl abb)]
end
end Go.Ab
end
section
namespace Go.Ab
variable {E:Env}
section
variable {call:bq} {ops:Array Oper} {pl:nk} {s s':St} {tr:List Step} {hs st:List au}
theorem GA {l:List Oper} {i:Nat}:i∈oE E l↔∃o,l[i]? =some o∧fW E o.op=true:=by
 unfold oE
 simp only[List.mem_map,List.mem_filter,Prod.exists]
 constructor
 · rintro ⟨o,j,⟨h1,h2⟩,rfl⟩
   exact ⟨o,by rw[List.mk_mem_zipIdx_iff_getElem?] at h1;exact h1,h2⟩
 · rintro ⟨o,h1,h2⟩
   exact ⟨o,i,⟨by rw[List.mk_mem_zipIdx_iff_getElem?];exact h1,h2⟩,rfl⟩
theorem Dn.Xo (pok:Dn E ops pl) {i:Nat} {o:Oper} (ho:ops[i]? =some o):i∈pl.bP↔fW E o.op=true:=by
 rw[pok.bP,GA]
 constructor
 · rintro ⟨o',h1,h2⟩
   have:ops.toList[i]? =some o:=by simpa using ho
   rw[this] at h1;simp at h1;subst h1;exact h2
 · intro h;exact ⟨o,by simpa using ho,h⟩
theorem Inv.Dq {φ₀ φ:Ph} {w₀ w:World} {yi:List Deferred} {d:List Nat} {bX:Array Bool} {K:Nat} {a:Act} (r:HX E call ops pl s s' tr hs st) (inv:Inv E ops pl s tr hs st φ₀ w₀ yi d bX K φ a w)
 {x:Step} (hx:pl.bP[x.k]? =some x.i) (hd:x.i ∉ d) (sa:∀j,d_ pl.an x.i j=true→j∈d):x.k=K:=by
 have h1:¬x.k<K:=fun h=>hd ((inv.bP x.k x.i hx).2 h)
 rcases Nat.lt_or_ge K x.k with h | h
 · exfalso
   obtain ⟨q,hq⟩:∃q,x.k=q+1:=⟨x.k - 1,by omega⟩
   have np:q<pl.bP.length:=by have:=(List.getElem?_eq_some_iff.1 hx).1;omega
   have hq':pl.bP[q]? =some pl.bP[q]:=by simp [np]
   have:=r.tA.chain q _ x.i hq' (by rw[←hq];exact hx)
   have:=(inv.bP q _ hq').1 (sa _ this)
   omega
 · omega
theorem Inv.S4 {φ₀ φ:Ph} {w₀ w:World} {yi:List Deferred} {d:List Nat} {bX:Array Bool} {K:Nat} {a:Act} (inv:Inv E ops pl s tr hs st φ₀ w₀ yi d bX K φ a w)
 {i:Nat} (hd:i ∉ d) (sa:∀j,d_ pl.an i j=true→j∈d):HA pl.bP pl.an i≤K∧K≤lg pl.bP pl.an i:=by
 refine ⟨filter_le (fun q e hq he=>(inv.bP q e hq).1 (sa e he)),?_⟩
 rcases Nat.lt_or_ge (lg pl.bP pl.an i) K with h | h
 · exfalso
   have np:lg pl.bP pl.an i<pl.bP.length:=by have:=inv.Kle;omega
   have hq:pl.bP[lg pl.bP pl.an i]? =some pl.bP[lg pl.bP pl.an i]:=by simp [np]
   have h1:=yH (P:=fun e=> !d_ pl.an e i) hq
   simp only[Bool.not_eq_false'] at h1
   exact hd (inv.closed _ ((inv.bP _ _ hq).2 h) i h1)
 · exact h
theorem Qz (ops:Array Oper) (val:Nat→AV) (ts:List AV) (d:List Nat) (i:Nat):qf ops val ts (d++[i])=dt (qf ops val ts d) (hT ops i) (val i):=by
 simp [qf]
theorem Inv.snoc {φ₀ φ φ':Ph} {w₀ w w':World} {yi:List Deferred} {d:List Nat} {bX:Array Bool} {K K':Nat} {a:Act} (r:HX E call ops pl s s' tr hs st) (inv:Inv E ops pl s tr hs st φ₀ w₀ yi d bX K φ a w)
 {p:Nat} {x:Step} {o:Oper} (hp:tr[p]? =some x) (ho:ops[x.i]? =some o) (hd:x.i ∉ d) (sa:∀j,d_ pl.an x.i j=true→j∈d) (hle:φ.le φ') {v':Value} (hv:VR φ' x.v v')
 (hK:(fW E o.op=false∧K'=K)∨(fW E o.op=true∧x.k=K∧pl.bP[x.k]? =some x.i∧K'=K+1))
 (qI:∃hK,hs[K']? =some hK∧OK E φ' hK w'∧Fr φ₀ s.h w₀ φ' hK w')
 (aef:∀y∈tr,∀n obj,y.kind= .tY n obj→y.i ∉ d→y.i≠x.i→y.k≤K'→φ' n=none∧s.h.nx≤n∧∀hK,hs[K']? =some hK→n<hK.nx):
 Inv E ops pl s tr hs st φ₀ w₀ yi (d++[x.i]) (bX.setIfInBounds x.i true) K' φ' (a.put o.dst v') w':=by
 have qe:(tr.map (·.i)).Nodup:=by rw[r.trace.is];exact r.nodup
 have np:x.i<ops.size:=(Array.getElem?_eq_some_iff.1 ho).1
 refine ⟨?_,fun i hi=>?_,fun i hi=>?_,fun i hi j hj=>?_,fun q e hq=>?_,?_,?_,by rw[put_defers];exact inv.ds,qI,fun y hy n obj Df hyd hyk=>?_⟩
 · rw[List.nodup_append];exact ⟨inv.nd,by simp,fun a ha b hb=>by simp at hb;subst hb;exact fun e=>hd (e▸ha)⟩
 · simp at hi;rcases hi with h | rfl
   · exact inv.lt i h
   · exact np
 · have h1:=inv.bX i hi
   by_cases e:x.i=i
   · subst e
     have JN:x.i<bX.size:=(Array.getElem?_eq_some_iff.1 h1).1
     rw[Array.getElem?_setIfInBounds];simp [JN]
   · rw[Array.getElem?_setIfInBounds_ne e,h1]
     simp [show i≠x.i from fun h=>e h.symm]
 · simp at hi;rcases hi with h | rfl
   · exact List.mem_append_left _ (inv.closed i h j hj)
   · exact List.mem_append_left _ (sa j hj)
 · rcases hK with ⟨he,rfl⟩ | ⟨he,HV,hxe,rfl⟩
   · have eY:e≠x.i:=fun h=>by
      subst h
      have:=(r.tA.Xo ho).1 (List.mem_of_getElem? hq)
      rw[he] at this;simp at this
     simp [eY,inv.bP q e hq]
   · have hqe:e=x.i↔q=K:=by
      constructor
      · intro h;subst h
        have:=(List.getElem?_inj (List.getElem?_eq_some_iff.1 hq).1 r.tA.nd).1 (hq.trans hxe.symm)
        omega
      · intro h;subst h;rw[←HV,hxe] at hq;simpa using hq.symm
     simp only[List.mem_append,List.mem_singleton,inv.bP q e hq,hqe]
     omega
 · rcases hK with ⟨he,rfl⟩ | ⟨he,HV,hxe,rfl⟩
   · exact inv.Kle
   · have:=(List.getElem?_eq_some_iff.1 hxe).1;omega
 · rw[Qz,J4 qe hp]
   have:hT ops x.i=o.dst:=by simp [hT,ho]
   rw[this]
   exact SX (inv.ts.mono hle) o.dst hv
 · simp only[List.mem_append,List.mem_singleton,not_or] at hyd
   exact aef y hy n obj Df hyd.1 hyd.2 hyk
theorem QA (hE:lG E) {call:bq} (dN:iN E call) {ts:List AV} {h h':au} {rc:RC} {o:Oper} {v:AV} (uo:dA E call ts h rc o= .val v h') {i:Nat} {rest:List Nat} (ho:ops[i]? =some o)
 {φ:Ph} {a:Act} {w:World} {b:Frame} {k:List Item} {K:Bool→List Frame} (S3:LR φ ts a.tmps.toList) (ok:OK E φ h w) (gZ:oI φ b K rc) (hw:Region.wanted o (yielded ops a.tmps)=true):
 ∃φ' w' v',VR φ' v v'∧OK E φ' h' w'∧Fr φ h w φ' h' w'∧Steps E.P (lone (b.atR a (.inRegion ops (i::rest)::k)) (cur K rc) w) (lone (b.atR (a.put o.dst v') (.inRegion ops rest::k)) (cur K rc) w'):=by
 have An:=wZ hE dN (rc:=rc) (o:=o) S3 ok
 have qe:rc.pF=false∨∀c,o.op≠ .defer c:=by
  by_cases hd:∃c,o.op= .defer c
  · obtain ⟨c,hd⟩:=hd
    unfold dA at uo
    simp only[hd] at uo
    split at uo<;>simp at uo
  · exact .inr (fun c e=>hd ⟨c,e⟩)
 have l4:=r7 gZ qe a.eval
 rw[uo] at An
 cases An with
 | val v h' φ' w' v' hv tc fr run=>exact ⟨φ',w',v',hv,tc,fr,.one (n6 l4 ho hw run)⟩
 | skip h' φ' w' tc fr run=>exact ⟨φ',w',undef,.undef φ',tc,fr,.one (JY l4 ho hw run)⟩
 | enter v h' F args all hr hf hl run=>
   obtain ⟨n,start,hp,kb⟩:=hr φ w all ok hf hl
   obtain ⟨φ',w',v',hv,tc,fr,j4⟩:=kb (b.atR a (.inRegion ops (i::rest)::k)) (cur K rc)
   rw[vv ho] at j4
   exact ⟨φ',w',v',hv,tc,fr,.head (yz l4 ho hw hp (run n start hp)) j4⟩
 | S0 eY E_ run=>
   have Ft:∀fr:Frame,fr.kind=b.kind→tryRecover fr (cur K rc)=none:=by
    cases HO:rc with
    | no=>rw[HO] at gZ;exact gZ.2
    | jM v=>exact absurd HO (eY v)
    | done=>rw[HO] at gZ;exact gZ.2
    | JB l=>rw[HO] at E_;simp [RC.pF] at E_
   exact ⟨φ,w,.nilIface,.nilIface,ok,Fr.refl _ _ _,.one (wc (gZ.plain E_) l4 ho hw run (Ft _ rfl))⟩
theorem Inv.OQ (hE:lG E) {GB:bq} (dN:iN E GB) {φ₀ φ:Ph} {w₀ w:World} {yi:List Deferred} {d:List Nat} {bX:Array Bool} {K:Nat} {a:Act} (r:HX E call ops pl s s' tr hs st) (inv:Inv E ops pl s tr hs st φ₀ w₀ yi d bX K φ a w)
 {b:Frame} {k:List Item} {Ks:Bool→List Frame} (gZ:oI φ₀ b Ks s.rc) {i:Nat} (hi:i<ops.size) (hd:i ∉ d) (sa:∀j,d_ pl.an i j=true→j∈d)
 (GC:∀(x:Step) (o:Oper) (hk h':au),x∈tr→x.i=i→ops[x.i]? =some o→hs[x.k]? =some hk→x.kind= .vV h'→dA E GB x.ts hk s.rc o= .val x.v h') (rest:List Nat):
 ∃K' φ' a' w',Inv E ops pl s tr hs st φ₀ w₀ yi (d++[i]) (bX.setIfInBounds i true) K' φ' a' w'∧
  Steps E.P (lone (b.atR a (.inRegion ops (i::rest)::k)) (cur Ks s.rc) w) (lone (b.atR a' (.inRegion ops rest::k)) (cur Ks s.rc) w'):=by
 obtain ⟨p,x,hp,rfl⟩:=r.all hi
 have hxm:x∈tr:=List.mem_of_getElem? hp
 obtain ⟨h1,h2,h3,hk,o,ho,uo,Z5⟩:=r.at hp
 obtain ⟨_,_,o',hk1,sk1,J5,Bq,hsk,kb⟩:=r.trace.step p x hp
 rw[ho] at J5;simp at J5;subst J5
 rw[←hk] at Bq hsk kb
 obtain ⟨hag,S5⟩:=Z2 r hp ho hd inv.closed sa
 obtain ⟨hK,Z6,ok,fr⟩:=inv.ok
 have WL:Region.wanted o (yielded ops a.tmps)=cJ ops x.ts o:=by rw[wY inv.ts o,S5]
 have Xp:Gy E (qf ops (valOf tr) s.ts d) x.ts o.op:=fun y hy=>(hag y hy).symm
 have same:∀y∈tr,∀n obj,y.kind= .tY n obj→y.i ∉ d→y.i≠x.i→y.k≤K→φ n=none∧s.h.nx≤n∧∀hK,hs[K]? =some hK→n<hK.nx:=
  fun y hy n obj a1 a2 _ a3=>inv.jM y hy n obj a1 a2 a3
 have wrote:∀(φ':Ph) (h':au) (w':World),x.k=K→st[K+1]? =some h'→OK E φ' h' w'→Fr φ hK w φ' h' w'→
  ∃OS,hs[K+1]? =some OS∧OK E φ' OS w'∧Fr φ₀ s.h w₀ φ' OS w'∧
  ∀y∈tr,∀n obj,y.kind= .tY n obj→y.i ∉ d→y.i≠x.i→y.k≤K+1→φ' n=none∧s.h.nx≤n∧∀hK,hs[K+1]? =some hK→n<hK.nx:=by
  intro φ' h' w' HV abd tc Mj
  have np:K+1<hs.length:=by rw[←r.trace.abc];exact (List.getElem?_eq_some_iff.1 abd).1
  have hhs:hs[K+1]? =some hs[K+1]:=by simp [np]
  have g:=r.trace.grown (K+1) h' _ abd hhs
  obtain ⟨Dr,fr2⟩:=tc.grown g
  have WM:=(fr.trans Mj).trans fr2
  refine ⟨_,hhs,Dr,WM,fun y hy n obj a1 a2 a3 a4=>?_⟩
  have hnx:∀OS,hs[K+1]? =some OS→OS=hs[K+1]:=fun OS e=>by rw[hhs] at e;simpa using e.symm
  rcases Nat.lt_or_ge K y.k with h | h
  ·
   have hyk:y.k=K+1:=by omega
   obtain ⟨q,hq⟩:=List.getElem?_of_mem hy
   obtain ⟨_,_,_,hky,oy,hoy,_,_⟩:=r.at hq
   obtain ⟨_,_,oy',agO,agP,agQ,FC,FD,MO⟩:=r.trace.step q y hq
   rw[←hky,hyk] at FC FD
   rw[abd] at FD;simp at FD;subst FD
   unfold yF at MO
   rw[a1] at MO
   obtain ⟨_,_,_,hn1,hn2⟩:=MO
   refine ⟨?_,?_,fun OS e=>?_⟩
   · cases hφ:φ' n with
     | none=>rfl
     | some l=>have:=tc.B6 n l hφ;omega
   · have:=(fr.trans Mj).nx;omega
   · rw[e] at FC;simp at FC;subst FC;exact hn2
  · obtain ⟨b1,b2,b3⟩:=inv.jM y hy n obj a1 a2 h
    have hn:=b3 hK Z6
    refine ⟨by rw[Mj.old n hn];exact b1,b2,fun OS e=>?_⟩
    have:=Mj.nx;have:=g.nx
    rw[hnx _ e];omega
 have still:fW E o.op=false→kf E ops x hK=true:=fun he=>by
  obtain ⟨w1,w2⟩:=inv.S4 hd sa
  exact r.still x hxm K hK (by rw[←Z5 he];exact w1) w2 Z6
 have hgd:ops.getD x.i default=o:=by simp [Array.getD_eq_getD_getElem?,ho]
 have skip:cJ ops x.ts o=false→step E.P (lone (b.atR a (.inRegion ops (x.i::rest)::k)) (cur Ks s.rc) w)= .next (lone (b.atR (a.put o.dst undef) (.inRegion ops rest::k)) (cur Ks s.rc) w):=fun hw=>by
  have:=stepR_op_skip (P:=E.P) (b:=b) (a:=a) (k:=k) (cs:=cur Ks s.rc) (w:=w) (ops:=ops) (i:=x.i) (rest:=rest) (by rw[ho];simp;rw[WL];exact hw)
  rw[this,ho];rfl
 unfold yF at kb
 split at kb
 ·
  obtain ⟨hw,hv,hn⟩:=kb
  have hvr:VR φ x.v undef:=by rw[hv];exact .undef φ
  by_cases he:fW E o.op=true
  · have HV:=inv.Dq r (uo he) hd sa
    have Ca:=hn he
    rw[HV] at Ca Bq
    rw[Z6] at Bq;simp at Bq;subst Bq
    obtain ⟨OS,q1,q2,q3,q4⟩:=wrote φ hK w HV Ca ok (Fr.refl _ _ _)
    exact ⟨K+1,φ,_,w,inv.snoc r hp ho hd sa (Ph.le_refl φ) hvr (.inr ⟨he,HV,uo he,rfl⟩) ⟨OS,q1,q2,q3⟩ q4,.one (skip hw)⟩
  · have Mi:fW E o.op=false:=by simpa using he
    exact ⟨K,φ,_,w,inv.snoc r hp ho hd sa (Ph.le_refl φ) hvr (.inl ⟨Mi,rfl⟩) inv.ok same,.one (skip hw)⟩
 ·
  obtain ⟨he,hw,hpu⟩:=kb
  rw[←J1 Xp] at hpu
  have qe:∀c,o.op≠ .defer c:=fun c e=>by rw[e] at hpu;simp [bC] at hpu
  obtain ⟨v',hv,hr⟩:=Bl hE.ext ok.gl inv.ts hpu
  exact ⟨K,φ,_,w,inv.snoc r hp ho hd sa (Ph.le_refl φ) hv (.inl ⟨he,rfl⟩) inv.ok same,.one (n6 (r7 gZ (.inr qe) _) ho (WL.trans hw) (hr w))⟩
 ·
  rename_i yG
  obtain ⟨he,hw⟩:=kb
  have tR:=still he
  unfold kf at tR
  rw[yG] at tR
  simp only[hgd] at tR
  cases hre:eH E x.ts hK o.op with
  | none=>rw[hre] at tR;simp at tR
  | some v1=>
    rw[hre] at tR
    have hv1:=AV.yD _ _ _ tR
    subst hv1
    rw[←J2 Xp] at hre
    have qe:∀c,o.op≠ .defer c:=fun c e=>by rw[e] at hre;simp [eH] at hre
    obtain ⟨v',hv,hr⟩:=Bo ok.gl ok inv.ts hre
    exact ⟨K,φ,_,w,inv.snoc r hp ho hd sa (Ph.le_refl φ) hv (.inl ⟨he,rfl⟩) inv.ok same,.one (n6 (r7 gZ (.inr qe) _) ho (WL.trans hw) (hr w rfl))⟩
 ·
  rename_i n obj yG
  obtain ⟨he,hw,⟨mk,hal,hxv⟩,_,_⟩:=kb
  have tR:=still he
  unfold kf at tR
  rw[yG] at tR
  simp only at tR
  cases hge:hK.get n with
  | none=>rw[hge] at tR;simp at tR
  | some o1=>
    rw[hge] at tR
    have ho1:=aM.yD tR
    subst ho1
    obtain ⟨w1,_⟩:=inv.S4 hd sa
    obtain ⟨Ft,agR,agS⟩:=inv.jM x hxm n o1 yG hd (by rw[←Z5 he];exact w1)
    rw[←HQ Xp] at hal
    have qe:∀c,o.op≠ .defer c:=fun c e=>by rw[e] at hal;simp [eO] at hal
    obtain ⟨O,mk',J0,hr⟩:=yv ok.gl inv.ts hal
    have hle:φ.le (φ.add n ⟨w.heap.size,0,0⟩):=fun j m hm=>by
     unfold Ph.add;split
     · rename_i e;subst e;rw[Ft] at hm;simp at hm
     · exact hm
    obtain ⟨Dr,_⟩:=ok.place hge Ft (agS hK Z6) (J0.obj _ w.heap.size hle)
    have hv:=J0.val (φ.add n ⟨w.heap.size,0,0⟩) n w.heap.size hle (by simp [Ph.add])
    rw[←hxv] at hv
    refine ⟨K,_,_,_,inv.snoc r hp ho hd sa hle hv (.inl ⟨he,rfl⟩) ⟨hK,Z6,Dr,fr.place agR Ft O⟩ (fun y hy m q a1 a2 a3 a4=>?_),.one (n6 (r7 gZ (.inr qe) _) ho (WL.trans hw) (hr w))⟩
    obtain ⟨b1,b2,b3⟩:=inv.jM y hy m q a1 a2 a4
    refine ⟨?_,b2,b3⟩
    have eY:m≠n:=fun e=>by subst e;exact a3 (r.ids y x hy hxm m q o1 a1 yG)
    simp [Ph.add,eY,b1]
 ·
  rename_i h' yG
  obtain ⟨he,hw,_,Ca⟩:=kb
  have S6:=GC x o _ h' hxm rfl ho Bq yG
  have HV:=inv.Dq r (uo he) hd sa
  rw[HV] at Ca Bq
  rw[Z6] at Bq;simp at Bq;subst Bq
  rw[←Dl Xp] at S6
  obtain ⟨φ',w',v',hv,tc,Mj,j4⟩:=QA hE dN S6 ho (rest:=rest) (k:=k) inv.ts ok (gZ.mono fr.ext) (WL.trans hw)
  obtain ⟨OS,q1,q2,q3,q4⟩:=wrote φ' h' w' HV Ca tc Mj
  exact ⟨K+1,φ',_,w',inv.snoc r hp ho hd sa Mj.ext hv (.inr ⟨he,HV,uo he,rfl⟩) ⟨OS,q1,q2,q3⟩ q4,j4⟩
end
end Go.Ab
end
section
namespace Go.Ab
variable {E:Env}
section
variable {call:bq} {ops:Array Oper} {pl:nk} {s s':St} {tr:List Step} {hs st:List au}
structure HY (E:Env) (φ₀:Ph) (h₀:au) (w₀:World) (yi:List Deferred) (b:Frame) (k:List Item) (cs:List Frame) (s':St) (m:Machine):Prop where
 is:∃φ' a' w',LR φ' s'.ts a'.tmps.toList∧a'.defers=yi∧OK E φ' s'.h w'∧Fr φ₀ h₀ w₀ φ' s'.h w'∧Steps E.P m (lone (b.atR a' k) cs w')
theorem J6 (r:HX E call ops pl s s' tr hs st) {φ₀ φ:Ph} {w₀ w:World} {yi:List Deferred} {d:List Nat} {bX:Array Bool} {K:Nat} {a:Act} (inv:Inv E ops pl s tr hs st φ₀ w₀ yi d bX K φ a w)
 (J7:∀i,i<ops.size→i∈d) (b:Frame) (k:List Item) (cs:List Frame):HY E φ₀ s.h w₀ yi b k cs s' (lone (b.atR a (.inRegion ops []::k)) cs w):=by
 have qe:(tr.map (·.i)).Nodup:=by rw[r.trace.is];exact r.nodup
 obtain ⟨f1,f2,f3⟩:=jo r.tA.order
 have hK:K=pl.bP.length:=by
  have:=inv.Kle
  rcases Nat.lt_or_ge K pl.bP.length with h | h
  · exfalso
    have hq:pl.bP[K]? =some pl.bP[K]:=by simp [h]
    have hm:pl.bP[K]∈pl.bP:=List.getElem_mem h
    generalize hx:pl.bP[K]=ee at hm hq
    rw[r.tA.bP,GA] at hm
    obtain ⟨o,ho,_⟩:=hm
    have np:ee<ops.size:=by have:=(List.getElem?_eq_some_iff.1 ho).1;simpa using this
    have:=(inv.bP K _ hq).1 (J7 _ np)
    omega
  · omega
 obtain ⟨OS,q1,q2,q3⟩:=inv.ok
 have J8:=r.trace.last
 have agT:rP E ops pl.order=K:=by omega
 rw[agT,q1] at J8
 simp at J8;subst J8
 have S3:s'.ts=qf ops (valOf tr) s.ts d:=by
  rw[r.trace.ts]
  have h1:=HW ops qe s.ts tr.length
  rw[List.take_length,r.trace.is,List.take_of_length_le (by rw[←r.trace.is];simp)] at h1
  rw[h1]
  refine List.ext_getElem? (fun x=>?_)
  refine w_ s.ts (fun j j' e e'=>yI r.tA e e') (fun j hj=>?_)
  have So:j<ops.size:=by
   unfold hT at hj
   cases ho:ops[j]? with
   | none=>rw[ho] at hj;simp at hj
   | some o=>exact (Array.getElem?_eq_some_iff.1 ho).1
  exact ⟨fun _=>J7 j So,fun _=>(f2 j So).resolve_left (by simp)⟩
 exact ⟨φ,a,w,by rw[S3];exact inv.ts,inv.ds,q2,q3,.one stepR_region_end⟩
theorem Ds {φ₀ φ:Ph} {w₀ w:World} {yi:List Deferred} {d:List Nat} {bX:Array Bool} {K:Nat} {a:Act} (r:HX E call ops pl s s' tr hs st) (inv:Inv E ops pl s tr hs st φ₀ w₀ yi d bX K φ a w)
 {i:Nat} (h:i∈Region.ready .any ops bX):i<ops.size∧i ∉ d∧∀j,d_ pl.an i j=true→j∈d:=by
 obtain ⟨h1,o,ho,h2⟩:=mem_ready.1 h
 have hi:i<ops.size:=(Array.getElem?_eq_some_iff.1 ho).1
 have hl:=inv.bX i hi
 refine ⟨hi,fun hd=>?_,fun j hj=>?_⟩
 · simp [hl,hd,Array.getD_eq_getD_getElem?] at h1
 · obtain ⟨e,he,hej⟩:=r.tA.closed i o j ho hj
   have hed:e∈d:=by
    unfold lS at he
    simp only[List.mem_map,List.mem_filter] at he
    obtain ⟨ed,⟨hm,hb⟩,rfl⟩:=he
    have h3:=h2 ed (by simpa using hm) hb
    have agU:ed.on<ops.size:=by
     have:=(r.tA.direct i o ed.on ho (by unfold lS;simp only[List.mem_map,List.mem_filter];exact ⟨ed,⟨hm,hb⟩,rfl⟩)).1
     omega
    simpa [inv.bX _ agU,Array.getD_eq_getD_getElem?] using h3
   rcases hej with rfl | hej
   · exact hed
   · exact inv.closed e hed j hej
theorem Au {φ₀ φ:Ph} {w₀ w:World} {yi:List Deferred} {d:List Nat} {bX:Array Bool} {K:Nat} {a:Act} (r:HX E call ops pl s s' tr hs st) (inv:Inv E ops pl s tr hs st φ₀ w₀ yi d bX K φ a w)
 (h:Region.ready .any ops bX=[]):∀(n i:Nat),i<n→i<ops.size→i∈d
 | 0,i,hn,_=>by omega
 | n+1,i,hn,hi=>by
   have ih:=Au r inv h n
   by_cases hd:i∈d
   · exact hd
   · exfalso
     have ho:ops[i]? =some ops[i]:=by simp [hi]
     have:i∈Region.ready .any ops bX:=by
      refine mem_ready.2 ⟨by simp [inv.bX i hi,hd,Array.getD_eq_getD_getElem?],ops[i],ho,fun e he hb=>?_⟩
      have hm:e.on∈lS ops[i]:=by
       unfold lS;simp only[List.mem_map,List.mem_filter];exact ⟨e,⟨by simpa using he,hb⟩,rfl⟩
      have np:=(r.tA.direct i _ e.on ho hm).1
      have:=ih e.on (by omega) (by omega)
      simp [inv.bX e.on (by omega),this,Array.getD_eq_getD_getElem?]
     rw[h] at this;simp at this
theorem HX.real (r:HX E call ops pl s s' tr hs st) (x:Step) (o:Oper) (hk h':au) (hx:x∈tr) (ho:ops[x.i]? =some o) (hh:hs[x.k]? =some hk) (Df:x.kind= .vV h'):dA E call x.ts hk s.rc o= .val x.v h':=by
 obtain ⟨p,hp⟩:=List.getElem?_of_mem hx
 obtain ⟨_,_,_,hk0,_⟩:=r.at hp
 obtain ⟨_,_,o',hk1,sk1,J5,Bq,hsk,kb⟩:=r.trace.step p x hp
 rw[ho] at J5;simp at J5;subst J5
 rw[←hk0,hh] at Bq;simp at Bq;subst Bq
 unfold yF at kb;rw[Df] at kb;exact kb.2.2.1
theorem J9 (hE:lG E) (dN:iN E call) (r:HX E call ops pl s s' tr hs st) {φ₀:Ph} {w₀:World} {yi:List Deferred} {b:Frame} {k:List Item} {Ks:Bool→List Frame} (gZ:oI φ₀ b Ks s.rc):
 ∀(fuel t:Nat) {φ:Ph} {w:World} {d:List Nat} {bX:Array Bool} {K:Nat} {a:Act} (_:Inv E ops pl s tr hs st φ₀ w₀ yi d bX K φ a w) (_:ops.size≤d.length+fuel),
  HY E φ₀ s.h w₀ yi b k (cur Ks s.rc) s' (lone (b.atR a (.inRegion ops (Region.linearise.go .any ops fuel t bX [])::k)) (cur Ks s.rc) w)
 | 0,t,φ,w,d,bX,K,a,inv,hf=>by
   simp only[Region.linearise.go,List.reverse_nil]
   refine J6 r inv (fun i hi=>?_) b k _
   by_cases hd:i∈d
   · exact hd
   · have:=Dm ops.size (i::d) (List.nodup_cons.2 ⟨hd,inv.nd⟩) (fun x hx=>by
      simp at hx;rcases hx with rfl | hx
      · exact hi
      · exact inv.lt x hx)
     simp at this;omega
 | fuel+1,t,φ,w,d,bX,K,a,inv,hf=>by
   simp only[Region.linearise.go]
   change HY E φ₀ s.h w₀ yi b k (cur Ks s.rc) s' (lone (b.atR a (.inRegion ops (match (Region.ready .any ops bX)[t%(Region.ready .any ops bX).length]? with
    | some i=>Region.linearise.go .any ops fuel (t/(Region.ready .any ops bX).length) (bX.setIfInBounds i true) [i]
    | none=> [].reverse)::k)) (cur Ks s.rc) w)
   cases hi:(Region.ready .any ops bX)[t%(Region.ready .any ops bX).length]? with
   | none=>
     have HG:Region.ready .any ops bX=[]:=by
      cases hr:Region.ready .any ops bX with
      | nil=>rfl
      | cons x xs=>
        rw[hr] at hi
        have np:t%(x::xs).length<(x::xs).length:=Nat.mod_lt _ (by simp)
        simp at hi
        simp at np
        omega
     exact J6 r inv (fun i hi=>Au r inv HG _ i (Nat.lt_succ_self i) hi) b k _
   | some i=>
     simp only[]
     rw[linearise_go_acc,List.reverse_singleton,List.singleton_append]
     obtain ⟨h1,h2,h3⟩:=Ds r inv (List.mem_of_getElem? hi)
     obtain ⟨K',φ',a',w',abe,kb⟩:=inv.OQ hE dN r gZ (b:=b) (k:=k) h1 h2 h3 (fun x o hk h' hx _=>r.real x o hk h' hx) (Region.linearise.go .any ops fuel (t/(Region.ready .any ops bX).length) (bX.setIfInBounds i true) [])
     obtain ⟨φ2,a2,w2,x1,x2,x3,x4,x5⟩:=(J9 hE dN r gZ fuel (t/(Region.ready .any ops bX).length) abe (by simp;omega)).is
     exact ⟨φ2,a2,w2,x1,x2,x3,x4,Steps.trans kb x5⟩
structure HZ (E:Env) (φ₀:Ph) (h₀:au) (w₀:World) (yi:List Deferred) (b:Frame) (cs:List Frame) (v:AV) (s':St) (m:Machine):Prop where
 is:∃φ' a' w' v' todo,VR φ' v v'∧LR φ' s'.ts a'.tmps.toList∧a'.defers=yi∧OK E φ' s'.h w'∧Fr φ₀ h₀ w₀ φ' s'.h w'∧Steps E.P m (lone {b.atR a' todo with mode:= .panicking [{v:=v',recovered:=false}]} cs w')
theorem QB (hE:lG E) {call:bq} (dN:iN E call) {ts:List AV} {h h':au} {rc:RC} {o:Oper} {c:Call} (hoc:o.op= .call c) {v:AV} (uo:dA E call ts h rc o= .panic v h') {i:Nat} {rest:List Nat} (ho:ops[i]? =some o)
 {φ:Ph} {a:Act} {w:World} {b:Frame} {k:List Item} {K:Bool→List Frame} (S3:LR φ ts a.tmps.toList) (ok:OK E φ h w) (gZ:oI φ b K rc) (hw:Region.wanted o (yielded ops a.tmps)=true):
 ∃φ' w' v' todo,VR φ' v v'∧OK E φ' h' w'∧Fr φ h w φ' h' w'∧Steps E.P (lone (b.atR a (.inRegion ops (i::rest)::k)) (cur K rc) w) (lone {b.atR a todo with mode:= .panicking [{v:=v',recovered:=false}]} (cur K rc) w'):=by
 have An:=wZ hE dN (rc:=rc) (o:=o) S3 ok
 have qe:rc.pF=false∨∀c,o.op≠ .defer c:= .inr (fun c e=>by rw[hoc] at e;simp at e)
 have l4:=r7 gZ qe a.eval
 rw[uo] at An
 cases An with
 | Xl v h' F args all hr hf hl run=>
   obtain ⟨n,start,hp,kb⟩:=hr φ w all ok hf hl
   obtain ⟨φ',w',v',hv,tc,fr,j4⟩:=kb (b.atR a (.inRegion ops (i::rest)::k)) (cur K rc)
   rw[Frame.raise_atR] at j4
   exact ⟨φ',w',v',.inRegion ops (i::rest)::k,hv,tc,fr,.head (yz l4 ho hw hp (run n start hp)) j4⟩
 | panic v v' hv run=>exact ⟨φ,w,v',_,hv,ok,Fr.refl _ _ _,.one (SY l4 ho hw run)⟩
theorem GD (hE:lG E) {GB:bq} (dN:iN E GB) (r:HX E call ops pl s s' tr hs st) {xl:Step} (hxl:xl∈tr) {ol:Oper} (WK:ops[xl.i]? =some ol) {c:Call} (hoc:ol.op= .call c)
 (J7:∀j,j<ops.size→j≠xl.i→d_ pl.an xl.i j=true) (Z7:fW E ol.op=true) (hwl:cJ ops xl.ts ol=true) {hk:au} (Bq:hs[xl.k]? =some hk) {v:AV} {h':au} (S7:dA E GB xl.ts hk s.rc ol= .panic v h')
 (GC:∀(x:Step) (o:Oper) (hk h':au),x∈tr→x.i≠xl.i→ops[x.i]? =some o→hs[x.k]? =some hk→x.kind= .vV h'→dA E GB x.ts hk s.rc o= .val x.v h')
 {s2:St} (h2:s2.h=h') (aeg:s2.ts=xl.ts) {φ₀:Ph} {w₀:World} {yi:List Deferred} {b:Frame} {k:List Item} {Ks:Bool→List Frame} (gZ:oI φ₀ b Ks s.rc):
 ∀(fuel t:Nat) {φ:Ph} {w:World} {d:List Nat} {bX:Array Bool} {K:Nat} {a:Act} (_:Inv E ops pl s tr hs st φ₀ w₀ yi d bX K φ a w) (_:ops.size≤d.length+fuel) (_:xl.i ∉ d),
  HZ E φ₀ s.h w₀ yi b (cur Ks s.rc) v s2 (lone (b.atR a (.inRegion ops (Region.linearise.go .any ops fuel t bX [])::k)) (cur Ks s.rc) w)
 | 0,t,φ,w,d,bX,K,a,inv,hf,qe=>by
   exfalso
   have hi:xl.i<ops.size:=(Array.getElem?_eq_some_iff.1 WK).1
   have:=Dm ops.size (xl.i::d) (List.nodup_cons.2 ⟨qe,inv.nd⟩) (fun x hx=>by
    simp at hx;rcases hx with rfl | hx
    · exact hi
    · exact inv.lt x hx)
   simp at this;omega
 | fuel+1,t,φ,w,d,bX,K,a,inv,hf,qe=>by
   have hil:xl.i<ops.size:=(Array.getElem?_eq_some_iff.1 WK).1
   simp only[Region.linearise.go]
   change HZ E φ₀ s.h w₀ yi b (cur Ks s.rc) v s2 (lone (b.atR a (.inRegion ops (match (Region.ready .any ops bX)[t%(Region.ready .any ops bX).length]? with
    | some i=>Region.linearise.go .any ops fuel (t/(Region.ready .any ops bX).length) (bX.setIfInBounds i true) [i]
    | none=> [].reverse)::k)) (cur Ks s.rc) w)
   cases hi:(Region.ready .any ops bX)[t%(Region.ready .any ops bX).length]? with
   | none=>
     have HG:Region.ready .any ops bX=[]:=by
      cases hr:Region.ready .any ops bX with
      | nil=>rfl
      | cons x xs=>
        rw[hr] at hi
        have np:t%(x::xs).length<(x::xs).length:=Nat.mod_lt _ (by simp)
        simp at hi
        simp at np
        omega
     exact absurd (Au r inv HG _ xl.i (Nat.lt_succ_self _) hil) qe
   | some i=>
     simp only[]
     rw[linearise_go_acc,List.reverse_singleton,List.singleton_append]
     obtain ⟨h1,h2',h3⟩:=Ds r inv (List.mem_of_getElem? hi)
     by_cases hii:i=xl.i
     · subst hii
       obtain ⟨p,hp⟩:=List.getElem?_of_mem hxl
       obtain ⟨_,q2,q3,_,o',J5,q4,_⟩:=r.at hp
       rw[WK] at J5;simp at J5;subst J5
       obtain ⟨hag,S5⟩:=Z2 r hp WK h2' inv.closed h3
       obtain ⟨hK,Z6,ok,fr⟩:=inv.ok
       have HV:=inv.Dq r (q4 Z7) h2' h3
       rw[HV,Z6] at Bq;simp at Bq;subst Bq
       rw[Dl hag] at S7
       have WL:Region.wanted ol (yielded ops a.tmps)=true:=by rw[wY inv.ts ol,S5];exact hwl
       obtain ⟨φ',w',v',todo,hv,tc,Mj,kb⟩:=QB hE dN hoc S7 WK (rest:=Region.linearise.go .any ops fuel (t/(Region.ready .any ops bX).length) (bX.setIfInBounds xl.i true) []) (k:=k) inv.ts ok (gZ.mono fr.ext) WL
       have agV:(tr.map (·.i)).Nodup:=by rw[r.trace.is];exact r.nodup
       have S3:xl.ts=qf ops (valOf tr) s.ts d:=by
        rw[(r.trace.step p xl hp).1,HW ops agV,r.trace.is]
        refine List.ext_getElem? (fun x=>w_ s.ts (fun j j' e e'=>yI r.tA e e') (fun j hj=>?_))
        have So:j<ops.size:=by
         unfold hT at hj
         cases ho:ops[j]? with
         | none=>rw[ho] at hj;simp at hj
         | some o=>exact (Array.getElem?_eq_some_iff.1 ho).1
        by_cases hji:j=xl.i
        · subst hji;exact ⟨fun h=>absurd h q2,fun h=>absurd h h2'⟩
        · exact ⟨fun _=>h3 j (J7 j So hji),fun _=>q3 j (J7 j So hji)⟩
       exact ⟨φ',a,w',v',todo,hv,by rw[aeg,S3];exact inv.ts.mono Mj.ext,inv.ds,by rw[h2];exact tc,by rw[h2];exact fr.trans Mj,kb⟩
     · obtain ⟨K',φ',a',w',abe,kb⟩:=inv.OQ hE dN r gZ (b:=b) (k:=k) h1 h2' h3 (fun x o hk h' hx Qy=>GC x o hk h' hx (by rw[Qy];exact hii)) (Region.linearise.go .any ops fuel (t/(Region.ready .any ops bX).length) (bX.setIfInBounds i true) [])
       obtain ⟨φ2,a2,w2,v2,td,x0,x1,x2,x3,x4,x5⟩:=(GD hE dN r hxl WK hoc J7 Z7 hwl Bq S7 GC h2 aeg gZ fuel (t/(Region.ready .any ops bX).length) abe (by simp;omega) (by simp;exact ⟨qe,fun h=>hii h.symm⟩)).is
       exact ⟨φ2,a2,w2,v2,td,x0,x1,x2,x3,x4,Steps.trans kb x5⟩
def Dt (call:bq):bq:=fun f as h=>match call f as h with
 | .panic _ h'=> .ret AV.undef h'
 | r=>r
theorem S8 {call:bq} {ts:List AV} {h h':au} {rc:RC} {o:Oper} {v:AV} (e:dA E call ts h rc o= .val v h'):dA E (Dt call) ts h rc o= .val v h':=by
 obtain ⟨dst,op,ty,pos,after,guard⟩:=o
 cases op with
 | call c=>
   obtain ⟨cR,args,aT⟩:=c
   cases cR with
   | builtin b=>cases b<;>exact e
   | value f=>
     simp only[dA] at e ⊢
     split at e
     · split at e
       · exact e
       · split at e
         · rename_i hc
           simp only[Dt,hc];exact e
         · simp at e
         · simp at e
     · simp at e
   | invoke x name=>
     simp only[dA] at e ⊢
     split at e
     · split at e
       · split at e
         · rename_i hc
           simp only[Dt,hc];exact e
         · simp at e
         · simp at e
       · simp at e
     · simp at e
 | _=>exact e
theorem S9 {call:bq} {ts:List AV} {h h':au} {rc:RC} {dst:Option Tmp} {c:Call} {ty:TypeId} {pos:String} {after:Array Edge} {guard:Option (Nat×Bool)} {v:AV} (e:dA E call ts h rc ⟨dst,.call c,ty,pos,after,guard⟩= .panic v h'):
 dA E (Dt call) ts h rc ⟨dst,.call c,ty,pos,after,guard⟩= .val AV.undef h':=by
 obtain ⟨cR,args,aT⟩:=c
 cases cR with
 | builtin b=>
   cases b<;>simp only[dA] at e<;>(try (simp at e;done))<;>(split at e<;>(try (simp at e;done))<;>(try (split at e<;>simp at e)))
 | value f=>
   simp only[dA] at e ⊢
   split at e
   · split at e
     · split at e<;>simp at e
     · split at e
       · simp at e
       · rename_i hc
         simp at e;obtain ⟨rfl,rfl⟩:=e
         simp only[Dt,hc]
       · simp at e
   · simp at e
 | invoke x name=>
   simp only[dA] at e ⊢
   split at e
   · split at e
     · split at e
       · simp at e
       · rename_i hc
         simp at e;obtain ⟨rfl,rfl⟩:=e
         simp only[Dt,hc]
       · simp at e
     · simp at e
   · simp at e
theorem pI {α:Type} {f:α→Option Nat}:∀{l:List α} (_:(l.filterMap f).Nodup) {x y:α} {n:Nat} (_:x∈l) (_:y∈l) (_:f x=some n) (_:f y=some n),x=y
 | [],_,x,y,n,hx,_,_,_=>by simp at hx
 | z::l,hn,x,y,n,hx,hy,fx,fy=>by
   cases hz:f z with
   | none=>
     rw[List.filterMap_cons_none hz] at hn
     have hx':x∈l:=by
      simp at hx;rcases hx with rfl | h
      · rw[hz] at fx;simp at fx
      · exact h
     have Xj:y∈l:=by
      simp at hy;rcases hy with rfl | h
      · rw[hz] at fy;simp at fy
      · exact h
     exact pI hn hx' Xj fx fy
   | some m=>
     rw[List.filterMap_cons_some hz,List.nodup_cons] at hn
     simp at hx hy
     rcases hx with rfl | hx<;>rcases hy with rfl | hy
     · rfl
     · exfalso;rw[fx] at hz;simp at hz;subst hz;exact hn.1 (List.mem_filterMap.2 ⟨y,hy,fy⟩)
     · exfalso;rw[fy] at hz;simp at hz;subst hz;exact hn.1 (List.mem_filterMap.2 ⟨x,hx,fx⟩)
     · exact pI hn.2 hx hy fx fy
theorem S_ (Qq:tX E ops=some pl) (hd:dc E call ops pl.order 0 s= .ok tr hs s') (hl:rT E ops pl tr hs=true):∃st,HX E call ops pl s s' tr hs st:=by
 obtain ⟨st,t⟩:=pH hd
 unfold rT at hl
 simp only[Bool.and_eq_true] at hl
 refine ⟨st,J3 Qq,t,fun x hx K hk h1 h2 h3=>?_,fun x y hx hy n o q e1 e2=>?_⟩
 · have h4:=List.all_eq_true.1 (List.all_eq_true.1 hl.2 x hx) hk
   refine h4 ?_
   refine List.mem_of_getElem? (i:=K - x.k) ?_
   rw[List.getElem?_take,if_pos (by omega),List.getElem?_drop,show x.k+(K - x.k)=K by omega,h3]
 · have:=w7 hl.1
   have:=pI this hx hy (n:=n) (by simp [e1]) (by simp [e2])
   rw[this]
theorem xa {call GF:bq} (hc:∀{ts:List AV} {h h':au} {rc:RC} {o:Oper} {v:AV},dA E call ts h rc o= .val v h'→dA E GF ts h rc o= .val v h') {i:Nat} {o:Oper} (ho:ops[i]? =some o) (he:fW E o.op=true):
 ∀(l:List Nat) (k:Nat) (s:St) {tr:List Step} {hs:List au} {s1:St} {h':au} (_:dc E call ops l k s= .ok tr hs s1) (_:cJ ops s1.ts o=true) (_:dA E GF s1.ts s1.h s1.rc o= .val AV.undef h'),
  dc E GF ops (l++[i]) k s= .ok (tr++[⟨i,k+(hs.length - 1),s1.ts,AV.undef,.vV h'⟩]) (hs++[h']) {s1 with ts:=dt s1.ts o.dst AV.undef,h:=h'}
 | [],k,s,tr,hs,s1,h',hd,hw,hv=>by
   simp [dc] at hd;obtain ⟨rfl,rfl,rfl⟩:=hd
   simp only[List.nil_append,dc,ho,he,if_true,hw,hv]
   simp [kK.bound,kK.step]
 | j::l,k,s,tr,hs,s1,h',hd,hw,hv=>by
   rw[List.cons_append]
   simp only[dc] at hd ⊢
   cases Z4:ops[j]? with
   | none=>rw[Z4] at hd;simp at hd
   | some oj=>
   rw[Z4] at hd
   simp only at hd ⊢
   have wr:∀(x:Step) (s0:St),((dc E call ops l (k+1) s0).bound s.h).step x= .ok tr hs s1→((dc E GF ops (l++[i]) (k+1) s0).bound s.h).step x= .ok (tr++[⟨i,k+(hs.length - 1),s1.ts,AV.undef,.vV h'⟩]) (hs++[h']) {s1 with ts:=dt s1.ts o.dst AV.undef,h:=h'}:=by
    intro x s0 hd
    cases hr:dc E call ops l (k+1) s0 with
    | fail why q=>rw[hr] at hd;simp [kK.bound,kK.step] at hd
    | ok OP tR s2=>
      rw[hr] at hd;simp [kK.bound,kK.step] at hd;obtain ⟨rfl,rfl,rfl⟩:=hd
      rw[xa hc ho he l (k+1) s0 hr hw hv]
      obtain ⟨_,t⟩:=pH hr
      have:1≤tR.length:=by have:=t.len;omega
      simp [kK.bound,kK.step];omega
   have pl:∀(x:Step) (s0:St),(dc E call ops l k s0).step x= .ok tr hs s1→(dc E GF ops (l++[i]) k s0).step x= .ok (tr++[⟨i,k+(hs.length - 1),s1.ts,AV.undef,.vV h'⟩]) (hs++[h']) {s1 with ts:=dt s1.ts o.dst AV.undef,h:=h'}:=by
    intro x s0 hd
    cases hr:dc E call ops l k s0 with
    | fail why q=>rw[hr] at hd;simp [kK.step] at hd
    | ok OP tR s2=>
      rw[hr] at hd;simp [kK.step] at hd;obtain ⟨rfl,rfl,rfl⟩:=hd
      rw[xa hc ho he l k s0 hr hw hv]
      simp [kK.step]
   split at hd
   · rename_i he1
     rw[if_pos he1]
     split at hd
     · rename_i B_
       rw[if_pos B_]
       split at hd
       · rename_i S6
         simp only[hc S6]
         exact wr _ _ hd
       · simp at hd
       · simp at hd
     · rename_i B_
       rw[if_neg B_]
       exact wr _ _ hd
   · rename_i he1
     rw[if_neg he1]
     split at hd
     · rename_i B_
       rw[if_pos B_]
       split at hd
       · rename_i hp
         try simp only[hp]
         exact pl _ _ hd
       · rename_i hp
         try simp only[hp]
         split at hd
         · rename_i hq
           try simp only[hq]
           exact pl _ _ hd
         · rename_i hq
           try simp only[hq]
           split at hd
           · rename_i hr
             try simp only[hr]
             split at hd
             · rename_i hn
               try simp only[hn]
               exact pl _ _ hd
             · simp at hd
           · simp at hd
     · rename_i B_
       rw[if_neg B_]
       exact pl _ _ hd
theorem Av {call:bq} {i:Nat} {o:Oper} (ho:ops[i]? =some o) (he:fW E o.op=true) {v:AV}:
 ∀(l:List Nat) (k:Nat) (s:St) {tr:List Step} {hs:List au} {s1:St} {h':au} (_:dc E call ops l k s= .ok tr hs s1) (_:cJ ops s1.ts o=true) (_:dA E call s1.ts s1.h s1.rc o= .panic v h'),
  ∃why q,dc E call ops (l++[i]) k s= .fail why q
 | [],k,s,tr,hs,s1,h',hd,hw,hv=>by
   simp [dc] at hd;obtain ⟨rfl,rfl,rfl⟩:=hd
   simp only[List.nil_append,dc,ho,he,if_true,hw,hv]
   exact ⟨_,_,rfl⟩
 | j::l,k,s,tr,hs,s1,h',hd,hw,hv=>by
   rw[List.cons_append]
   simp only[dc] at hd ⊢
   cases Z4:ops[j]? with
   | none=>rw[Z4] at hd;simp at hd
   | some oj=>
   rw[Z4] at hd
   simp only at hd ⊢
   have wr:∀(x:Step) (s0:St),((dc E call ops l (k+1) s0).bound s.h).step x= .ok tr hs s1→∃why q,((dc E call ops (l++[i]) (k+1) s0).bound s.h).step x= .fail why q:=by
    intro x s0 hd
    cases hr:dc E call ops l (k+1) s0 with
    | fail why q=>rw[hr] at hd;simp [kK.bound,kK.step] at hd
    | ok OP tR s2=>
      rw[hr] at hd;simp [kK.bound,kK.step] at hd;obtain ⟨rfl,rfl,rfl⟩:=hd
      obtain ⟨why,q,e⟩:=Av ho he l (k+1) s0 hr hw hv
      rw[e];exact ⟨_,_,rfl⟩
   have pl:∀(x:Step) (s0:St),(dc E call ops l k s0).step x= .ok tr hs s1→∃why q,(dc E call ops (l++[i]) k s0).step x= .fail why q:=by
    intro x s0 hd
    cases hr:dc E call ops l k s0 with
    | fail why q=>rw[hr] at hd;simp [kK.step] at hd
    | ok OP tR s2=>
      rw[hr] at hd;simp [kK.step] at hd;obtain ⟨rfl,rfl,rfl⟩:=hd
      obtain ⟨why,q,e⟩:=Av ho he l k s0 hr hw hv
      rw[e];exact ⟨_,_,rfl⟩
   split at hd
   · rename_i he1
     rw[if_pos he1]
     split at hd
     · rename_i B_
       rw[if_pos B_]
       split at hd
       · rename_i S6
         try simp only[S6]
         exact wr _ _ hd
       · simp at hd
       · simp at hd
     · rename_i B_
       rw[if_neg B_]
       exact wr _ _ hd
   · rename_i he1
     rw[if_neg he1]
     split at hd
     · rename_i B_
       rw[if_pos B_]
       split at hd
       · rename_i hp
         try simp only[hp]
         exact pl _ _ hd
       · rename_i hp
         try simp only[hp]
         split at hd
         · rename_i hq
           try simp only[hq]
           exact pl _ _ hd
         · rename_i hq
           try simp only[hq]
           split at hd
           · rename_i hr
             try simp only[hr]
             split at hd
             · rename_i hn
               try simp only[hn]
               exact pl _ _ hd
             · simp at hd
           · simp at hd
     · rename_i B_
       rw[if_neg B_]
       exact pl _ _ hd
end
theorem Du {call:bq} {ops:Array Oper} {pl:nk} {s s':St} {tr:List Step} {rX st:List au} (r:HX E call ops pl s s' tr rX st)
 {φ:Ph} {a:Act} {w:World} (S3:LR φ s.ts a.tmps.toList) (ok:OK E φ s.h w):Inv E ops pl s tr rX st φ w a.defers [] (Array.replicate ops.size false) 0 φ a {w with drawn:=w.drawn+1}:=by
 have J_:OK E φ s.h {w with drawn:=w.drawn+1}:=⟨ok.B6,ok.nx,ok.wN,ok.live,ok.inj⟩
 have fr1:Fr φ s.h w φ s.h {w with drawn:=w.drawn+1}:=⟨Ph.le_refl φ,fun _ _=>rfl,Nat.le_refl _,rfl,rfl,rfl,Nat.le_refl _,fun _ _ _=>rfl,fun i o l a b c=> .inr ⟨i,o,l,a,b,c,rfl⟩⟩
 have hlen:0<rX.length:=by have:=r.trace.len;omega
 have h0:rX[0]? =some rX[0]:=by simp [hlen]
 have g:=r.trace.grown 0 s.h _ r.trace.first h0
 obtain ⟨Dr,fr2⟩:=J_.grown g
 refine ⟨.nil,fun i hi=>by simp at hi,fun i hi=>by simp [hi],fun i hi=>by simp at hi,fun q e hq=>by simp,by omega,by simpa [qf] using S3,rfl,⟨_,h0,Dr,fr1.trans fr2⟩,fun x hx n obj hk _ hk0=>?_⟩
 obtain ⟨q,hq⟩:=List.getElem?_of_mem hx
 obtain ⟨_,_,_,hky,oy,hoy,_,_⟩:=r.at hq
 obtain ⟨_,_,oy',agO,agP,agQ,FC,FD,MO⟩:=r.trace.step q x hq
 rw[←hky] at FC FD
 have HV:x.k=0:=by omega
 rw[HV] at FC FD
 rw[r.trace.first] at FD;simp at FD;subst FD
 unfold yF at MO
 rw[hk] at MO
 obtain ⟨_,_,_,hn1,hn2⟩:=MO
 refine ⟨?_,hn1,fun hK e=>?_⟩
 · cases hφ:φ n with
   | none=>rfl
   | some l=>have:=ok.B6 n l hφ;omega
 · rw[e] at FC;simp at FC;subst FC;exact hn2
theorem J' (hE:lG E) (agW:E.P.follows .mixedOrders=true) {call:bq} (dN:iN E call) {ops:Array Oper} {s s':St} {e:lY} (h:yn E call ops s= .ok e s')
 {φ:Ph} {a:Act} {w:World} {b:Frame} {k:List Item} {K:Bool→List Frame} (hs:SR φ s.ts s.ds a) (ok:OK E φ s.h w) (gZ:oI φ b K s.rc) (id:Nat):
 s'.rc=s.rc∧s'.ds=s.ds∧((e= .normal∧∃φ' a' w',LR φ' s'.ts a'.tmps.toList∧a'.defers=a.defers∧OK E φ' s'.h w'∧Fr φ s.h w φ' s'.h w'∧
  Steps E.P (lone (b.atR a (.code (.region id ops true)::k)) (cur K s.rc) w) (lone (b.atR a' k) (cur K s.rc) w'))∨
  ∃v,e= .panic v∧HZ E φ s.h w a.defers b (cur K s.rc) v s' (lone (b.atR a (.code (.region id ops true)::k)) (cur K s.rc) w)):=by
 have aeh:Region.schedule (E.P.follows .mixedOrders) ops (w.tape w.drawn (.order b.fn id))=Region.linearise.go .any ops ops.size (w.tape w.drawn (.order b.fn id)) (Array.replicate ops.size false) []:=by
  rw[agW];rfl
 unfold yn at h
 split at h
 · simp at h
 rename_i pl Qq
 split at h
 · rename_i tr rX s1 hd
   split at h
   · rename_i hl
     simp at h;obtain ⟨rfl,rfl⟩:=h
     obtain ⟨st,r⟩:=S_ Qq hd hl
     refine ⟨r.trace.rc,r.trace.ds,.inl ⟨rfl,?_⟩⟩
     obtain ⟨φ',a',w',x1,x2,x3,x4,x5⟩:=(J9 hE dN r gZ (b:=b) (k:=k) ops.size (w.tape w.drawn (.order b.fn id)) (Du r hs.ts ok) (by simp)).is
     refine ⟨φ',a',w',x1,x2,x3,x4,.head stepR_region_draw ?_⟩
     rw[aeh]
     exact x5
   · simp at h
 · split at h
   · rename_i v s2 hp
     simp at h;obtain ⟨rfl,rfl⟩:=h
     unfold CZ at hp
     split at hp
     · simp at hp
     rename_i i front Xq
     split at hp
     · rename_i tr rX s1 dst c ty pos after guard hd ho
       split at hp
       · rename_i Mh
         split at hp
         · rename_i v1 h1 S6
           split at hp
           · rename_i hl
             simp at hp;obtain ⟨rfl,rfl⟩:=hp
             simp only[Bool.and_eq_true,List.all_eq_true,List.mem_range,Bool.or_eq_true,beq_iff_eq] at Mh
             obtain ⟨⟨he,hw⟩,J7⟩:=Mh
             have S2:pl.order=front.reverse++[i]:=by
              have:=congrArg List.reverse Xq
              simpa using this
             have hd2:=xa (GF:=Dt call) (fun e=>S8 e) ho he front.reverse 0 s hd hw (S9 S6)
             rw[←S2] at hd2
             rw[Nat.zero_add] at hd2
             obtain ⟨st,r⟩:=S_ Qq hd2 hl
             obtain ⟨Sn,t1⟩:=pH hd
             have aei:s1.rc=s.rc:=t1.rc
             refine ⟨aei,t1.ds,.inr ⟨_,rfl,?_⟩⟩
             have hlen:1≤rX.length:=by have:=t1.len;omega
             have J8:(rX++[h1])[rX.length - 1]? =some s1.h:=by
              rw[List.getElem?_append_left (by omega)]
              have:=t1.last
              rw[show rX.length - 1=rP E ops front.reverse by have:=t1.len;omega];exact this
             have GC:∀(x:Step) (o:Oper) (hk h':au),x∈tr++[⟨i,rX.length - 1,s1.ts,AV.undef,.vV h1⟩]→x.i≠i→ops[x.i]? =some o→(rX++[h1])[x.k]? =some hk→x.kind= .vV h'→dA E call x.ts hk s.rc o= .val x.v h':=by
              intro x o hk h' hx Qy J5 Bq Df
              have hx':x∈tr:=by
               simp at hx;rcases hx with h | h
               · exact h
               · exact absurd (by rw[h]) Qy
              obtain ⟨p,hp⟩:=List.getElem?_of_mem hx'
              obtain ⟨_,hk0,o',hk1,sk1,ho2,abf,hsk,kb⟩:=t1.step p x hp
              rw[J5] at ho2;simp at ho2;subst ho2
              rw[Nat.zero_add] at hk0
              rw[←hk0] at abf
              have np:x.k<rX.length:=(List.getElem?_eq_some_iff.1 abf).1
              rw[List.getElem?_append_left np,abf] at Bq
              simp at Bq;subst Bq
              unfold yF at kb;rw[Df] at kb;exact kb.2.2.1
             have agX:=(GD hE dN r (xl:=⟨i,rX.length - 1,s1.ts,AV.undef,.vV h1⟩) (by simp) (ol:=⟨dst,.call c,ty,pos,after,guard⟩) ho rfl (fun j hj eY=>(J7 j hj).resolve_left eY) he hw J8 (by rw[←aei];exact S6) GC
              (s2:={s1 with h:=h1}) rfl rfl gZ (b:=b) (k:=k) ops.size (w.tape w.drawn (.order b.fn id)) (Du r hs.ts ok) (by simp) (by simp)).is
             obtain ⟨φ',a',w',v',todo,x0,x1,x2,x3,x4,x5⟩:=agX
             refine ⟨φ',a',w',v',todo,x0,x1,x2,x3,x4,.head stepR_region_draw ?_⟩
             rw[aeh]
             exact x5
           · simp at hp
         · simp at hp
       · simp at hp
     · simp at hp
   · simp at h
end Go.Ab
end
section
namespace Go.Ab
variable {E:Env}
def Ka (P:Program) (m:Machine) (b:Frame) (k:List Item) (cs:List Frame):Exit→Act→World→Prop
 | .normal,a,w=>Steps P m (lone (b.atR a k) cs w)
 | .exit id,a,w=>∃todo,exitTo id todo=exitTo id k∧Steps P m (lone (b.atR a (.code (.exit id)::todo)) cs w)
 | .ret,a,w=>∃todo,Steps P m (lone (b.atR a (.code .ret::todo)) cs w)
 | .panic chain,a,w=>∃todo,Steps P m (lone {b.atR a todo with mode:= .panicking chain} cs w)
 | _,_,_=>False
theorem Ka.of_steps {P:Program} {m m':Machine} {b:Frame} {k:List Item} {cs:List Frame} {e:Exit} {a:Act} {w:World} (hs:Steps P m m') (h:Ka P m' b k cs e a w):Ka P m b k cs e a w:=by
 cases e with
 | normal=>exact Steps.trans hs h
 | exit id=>obtain ⟨t,h1,h2⟩:=h;exact ⟨t,h1,Steps.trans hs h2⟩
 | ret=>obtain ⟨t,h2⟩:=h;exact ⟨t,Steps.trans hs h2⟩
 | panic c=>obtain ⟨t,h2⟩:=h;exact ⟨t,Steps.trans hs h2⟩
 | goto l=>exact h.elim
 | outgrown=>exact h.elim
theorem Ka.pass {P:Program} {m:Machine} {b:Frame} {x:Item} {k:List Item} {cs:List Frame} {e:Exit} {a:Act} {w:World} (hx:∀id,exitTo id (x::k)=exitTo id k) (hn:e≠ .normal) (h:Ka P m b (x::k) cs e a w):Ka P m b k cs e a w:=by
 cases e with
 | normal=>exact absurd rfl hn
 | exit id=>obtain ⟨t,h1,h2⟩:=h;exact ⟨t,h1.trans (hx id),h2⟩
 | ret=>exact h
 | panic c=>exact h
 | goto l=>exact h.elim
 | outgrown=>exact h.elim
structure ry (E:Env) (φ:Ph) (h:au) (w:World) (b:Frame) (K:Bool→List Frame) (k:List Item) (m:Machine) (e:lY) (s':St):Prop where
 is:∃φ' w' a' e',ExR φ' e e'∧SR φ' s'.ts s'.ds a'∧OK E φ' s'.h w'∧Fr φ h w φ' s'.h w'∧oI φ' b K s'.rc∧Ka E.P m b k (cur K s'.rc) e' a' w'
theorem ry.of_steps {φ:Ph} {h:au} {w:World} {b:Frame} {K:Bool→List Frame} {k:List Item} {m m':Machine} {e:lY} {s':St} (hs:Steps E.P m m') (x:ry E φ h w b K k m' e s'):ry E φ h w b K k m e s':=by
 obtain ⟨φ',w',a',e',h1,h2,h3,h4,h5,h6⟩:=x.is
 exact ⟨φ',w',a',e',h1,h2,h3,h4,h5,.of_steps hs h6⟩
theorem ry.later {φ φ₁:Ph} {h h₁:au} {w w₁:World} {b:Frame} {K:Bool→List Frame} {k:List Item} {m:Machine} {e:lY} {s':St} (f:Fr φ h w φ₁ h₁ w₁) (x:ry E φ₁ h₁ w₁ b K k m e s'):ry E φ h w b K k m e s':=by
 obtain ⟨φ',w',a',e',h1,h2,h3,h4,h5,h6⟩:=x.is
 exact ⟨φ',w',a',e',h1,h2,h3,f.trans h4,h5,h6⟩
theorem OK.made {φ:Ph} {h h':au} {w:World} (ok:OK E φ h w) {o:aM} {O:Obj} (hn:h.new o=some h') (ho:OR E (φ.add h.nx ⟨w.heap.size,0,0⟩) o ⟨w.heap.size,0,0⟩ (some O)):
 OK E (φ.add h.nx ⟨w.heap.size,0,0⟩) h' (w.alloc O)∧Fr φ h w (φ.add h.nx ⟨w.heap.size,0,0⟩) h' (w.alloc O)∧φ.le (φ.add h.nx ⟨w.heap.size,0,0⟩):=
 ok.fresh (w':=w.alloc O) hn ⟨w.heap.size,0,0⟩ (by rw[show (w.alloc O).heap=w.heap.push O from rfl];simpa using ho)
  (fun c eY hc=>by rw[show (w.alloc O).heap=w.heap.push O from rfl,Array.getElem?_push,if_neg (by simpa using eY)]) (by simp) (Nat.le_refl _) rfl rfl rfl
theorem OK.abg {φ:Ph} {h:au} {w:World} (ok:OK E φ h w) {i:Nat} {o o':aM} {l:Loc} (hg:h.get i=some o) (JC:o.rw=true) (hl:φ i=some l) {O:Obj} (ho:OR E φ o' l (some O)):
 OK E φ (h.put i (some o')) (w.putObj l.g6 O)∧Fr φ h w φ (h.put i (some o')) (w.putObj l.g6 O):=by
 have np:l.g6<w.heap.size:=by
  rcases Nat.lt_or_ge l.g6 w.heap.size with h1 | h1
  · exact h1
  · have:=ok.live i o l hg hl
    rw[Array.getElem?_eq_none h1] at this
    exact this.absurd.elim
 exact ok.change hg JC hl (by rw[World.putObj_heap_same np];exact ho) (fun c hc=>World.putObj_heap_other hc) World.putObj_size rfl rfl rfl
theorem OK.agY {φ:Ph} {h:au} {w:World} (ok:OK E φ h w) {i:Nat} {o:aM} {l:Loc} (hg:h.get i=some o) (JC:o.rw=true) (hl:φ i=some l) (O:Obj):
 OK E φ (h.put i none) (w.putObj l.g6 O)∧Fr φ h w φ (h.put i none) (w.putObj l.g6 O):=by
 have gS:∀j p,(h.put i none).get j=some p→h.get j=some p∧j≠i:=fun j p hj=>by
  by_cases e:i=j
  · subst e;rw[au.du] at hj;simp at hj
  · rw[au.b5 e] at hj;exact ⟨hj,Ne.symm e⟩
 refine ⟨⟨ok.B6,ok.nx,ok.wN,fun j p m hj hm=>?_,fun j k p q m n hj hk=>ok.inj j k p q m n (gS j p hj).1 (gS k q hk).1⟩,
  ⟨Ph.le_refl φ,fun _ _=>rfl,Nat.le_refl _,rfl,rfl,rfl,by simp,fun b _ hn=>World.putObj_heap_other (fun e=>hn i o l hg JC hl e.symm),fun j p m hj hr hm=> .inr ⟨j,p,m,(gS j p hj).1,hr,hm,rfl⟩⟩⟩
 obtain ⟨rj,eY⟩:=gS j p hj
 rw[World.putObj_heap_other (fun e=>eY (ok.inj j i p o m l rj hg hm hl (.inr JC) e))]
 exact ok.live j p m rj hm
theorem Kb {s:St} {dn:Nat} {h1:au} {ds1:List rR} (ho:Sy s=some (dn,h1,ds1)) {φ:Ph} {a:Act} {w:World} {b:Frame} {K:Bool→List Frame} (hs:SR φ s.ts s.ds a) (ok:OK E φ s.h w) (gZ:oI φ b K s.rc)
 (ps:Array Tmp) (as bd:Code):∃φ1 w1 ld mark,φ.le φ1∧OK E φ1 h1 w1∧Fr φ s.h w φ1 h1 w1∧φ1 dn=some ld∧SR φ1 s.ts ds1 {a with defers:=mark++a.defers}∧
  (Instr.enterLoop b.fn a.tmps ps as bd b.roundOf).run E.P w= .ok (w1.heap.size,mark) (w1.alloc (.loop {state:= .ready,pending:=none,fn:=b.fn,tmps:=a.tmps,params:=ps,assign:=as,body:=bd,defers:=ld.g6})):=by
 unfold Sy at ho
 split at ho
 · rename_i l hl
   split at ho
   · rename_i st pd ts tv yh bd' dn' hg
     simp at ho;obtain ⟨rfl,rfl,rfl⟩:=ho
     rw[hl] at gZ
     obtain ⟨ll,hφ,SZ⟩:=gZ
     obtain ⟨_,r,hr,Aw⟩:=ok.live _ _ _ hg hφ
     obtain ⟨ld,hd1,hd2⟩:=Aw.defers
     refine ⟨φ,w,ld,[],Ph.le_refl φ,ok,Fr.refl _ _ _,hd1,⟨hs.ts,hs.ds⟩,?_⟩
     rw[SZ,run_enterLoop_inner hr,hd2]
   · simp at ho
 · rename_i E_
   split at ho
   · rename_i h1' hn
     simp at ho;obtain ⟨rfl,rfl,rfl⟩:=ho
     obtain ⟨J_,fr1,hle⟩:=ok.made (O:= .deferred (some [])) hn ⟨rfl,rfl⟩
     have hS:(φ.add s.h.nx ⟨w.heap.size,0,0⟩) s.h.nx=some ⟨w.heap.size,0,0⟩:=by simp [Ph.add]
     refine ⟨_,_,⟨w.heap.size,0,0⟩,[{target:= .collected w.heap.size,args:= #[]}],hle,J_,fr1,hS,⟨hs.ts.mono hle,⟨_,hS,rfl⟩,hs.ds.mono hle⟩,?_⟩
     rw[gZ.plain (Dk E_),run_enterLoop_outer]
     simp
   · simp at ho
theorem S' {c:Code} {e:lY} (h:OI (some c)=some e):(∃id,c= .exit id∧e= .exit id)∨(c= .ret∧e= .ret):=by
 cases c<;>simp [OI] at h
 · exact .inl ⟨_,rfl,h.symm⟩
 · exact .inr ⟨rfl,h.symm⟩
theorem H0 {call:bq} (dN:iN E call) {f:Operand} {ps:Array Tmp} {as bd:Code} {s s':St} {e:lY} (h:oF E call f ps as bd s= .ok e s')
 {φ:Ph} {a:Act} {w:World} {b:Frame} {k:List Item} {K:Bool→List Frame} (hs:SR φ s.ts s.ds a) (ok:OK E φ s.h w) (gZ:oI φ b K s.rc) (JD:(E.P.funcs[b.fn]?).isSome=true):
 ry E φ s.h w b K k (lone (b.atR a (.code (.rangeFunc f ps as bd)::k)) (cur K s.rc) w) e s':=by
 unfold oF at h
 split at h
 · rename_i g first captured hf
   split at h
   · rename_i dn h1 ds1 ho
     split at h
     · rename_i h2 hn
       have hfv:=oG ok.gl hs.ts hf
       generalize mf:a.eval f=cv at hfv
       obtain ⟨Xk,jL,rfl,hfs,hcs⟩:=hfv.C3
       obtain ⟨φ1,w1,ld,mark,aek,J_,fr1,hld,tR,Ao⟩:=Kb ho hs ok gZ ps as bd
       obtain ⟨Dr,fr2,Xr⟩:=J_.made (O:= .loop {state:= .ready,pending:=none,fn:=b.fn,tmps:=a.tmps,params:=ps,assign:=as,body:=bd,defers:=ld.g6}) hn
        ⟨rfl,_,rfl,⟨rfl,rfl,hs.ts.mono (Ph.le_trans aek (fun j m hm=>by
         unfold Ph.add;split
         · rename_i e;subst e;exact absurd (J_.B6 _ _ hm) (Nat.lt_irrefl _)
         · exact hm)),rfl,rfl,rfl,⟨ld,by
         unfold Ph.add;split
         · rename_i e;subst e;exact absurd (J_.B6 _ _ hld) (Nat.lt_irrefl _)
         · exact hld,rfl⟩,JD⟩⟩
       have hle:=Ph.le_trans aek Xr
       have hS:(φ1.add h1.nx ⟨w1.heap.size,0,0⟩) h1.nx=some ⟨w1.heap.size,0,0⟩:=by simp [Ph.add]
       generalize hφ2:φ1.add h1.nx ⟨w1.heap.size,0,0⟩=φ2 at Dr fr2 Xr hle hS
       have hl:LR φ2 (first++[.tT h1.nx]++captured) (Xk.toList++[.func (.yield w1.heap.size) #[] #[]]++jL.toList):=
        ((hfs.mono hle).append (.cons (.yield hS) (.nil φ2))).append (hcs.mono hle)
       have FE:∀w',(resolve a.eval (rangeCall f w1.heap.size) 0).run E.P w'= .ok {target:= .fn (.func g) jL,args:=Xk++ #[.func (.yield w1.heap.size) #[] #[]]} w':=fun w'=>by
        have agZ:a.eval (.const (.func (.yield w1.heap.size) #[] #[]))= .func (.yield w1.heap.size) #[] #[]:=rfl
        simp [resolve,Deferred.ofValue,mf,agZ]
       have start:∀n st,pG E φ2 (w1.alloc (.loop {state:= .ready,pending:=none,fn:=b.fn,tmps:=a.tmps,params:=ps,assign:=as,body:=bd,defers:=ld.g6})) (.fn g) (Xk.toList++[.func (.yield w1.heap.size) #[] #[]]++jL.toList) n st→
        step E.P (lone (b.atR a (.code (.rangeFunc f ps as bd)::k)) (cur K s.rc) w)= .next (lone st (b.atR {a with defers:=mark++a.defers} (.inRangeFunc w1.heap.size::k)::cur K s.rc)
         (w1.alloc (.loop {state:= .ready,pending:=none,fn:=b.fn,tmps:=a.tmps,params:=ps,assign:=as,body:=bd,defers:=ld.g6}))):=fun n st hp=>by
        cases hp with
        | fn _ _ hr=>
          have hinv:(invoke (Target.fn (.func g) jL) (Xk++ #[.func (.yield w1.heap.size) #[] #[]])).run E.P (w1.alloc (.loop {state:= .ready,pending:=none,fn:=b.fn,tmps:=a.tmps,params:=ps,assign:=as,body:=bd,defers:=ld.g6}))=
           .ok (.enter g (Xk.toList++[Value.func (.yield w1.heap.size) #[] #[]]++jL.toList).toArray) (w1.alloc (.loop {state:= .ready,pending:=none,fn:=b.fn,tmps:=a.tmps,params:=ps,assign:=as,body:=bd,defers:=ld.g6})):=by
           have e:(Xk.toList++[Value.func (.yield w1.heap.size) #[] #[]]++jL.toList).toArray=Xk++ #[Value.func (.yield w1.heap.size) #[] #[]]++jL:=by
            apply Array.toList_inj.1;simp
           rw[e] at hr ⊢
           simpa [invoke] using hr
          exact stepR_rangeFunc Ao (FE _) hinv
       split at h
       ·
        rename_i v h3 hc
        obtain ⟨n,st,hp,iv⟩:=dN.ret _ _ _ _ _ hc φ2 _ _ Dr trivial hl
        obtain ⟨φ3,w3,v',_,ok3,WM,kb⟩:=iv (b.atR {a with defers:=mark++a.defers} (.inRangeFunc w1.heap.size::k)) (cur K s.rc)
        rw[finish_atR_inRangeFunc] at kb
        split at h
        · simp at h
        · rename_i st' jM nm tv yh bd' dn' E_ hg
          split at h
          · rename_i e1 hj
            simp at h;obtain ⟨rfl,rfl⟩:=h
            have Xs:=WM.ext _ _ hS
            obtain ⟨_,r,hr,Aw⟩:=ok3.live _ _ _ hg Xs
            have ael:r.state≠ .busy:=by rw[Aw.state];intro e;subst e;exact E_ rfl
            obtain ⟨ok4,fr4⟩:=ok3.abg (o':= .loop .exhausted jM nm tv yh bd' dn') hg rfl Xs (O:= .loop {r with state:= .exhausted}) ⟨rfl,_,rfl,⟨rfl,Aw.pending,Aw.tmps,Aw.params,Aw.assign,Aw.body,Aw.defers,Aw.fn⟩⟩
            obtain ⟨W4,hW4⟩:∃W4,W4=w3.putObj w1.heap.size (.loop {r with state:= .exhausted}):=⟨_,rfl⟩
            have ok4:OK E φ3 (h3.put h1.nx (some (.loop .exhausted jM nm tv yh bd' dn'))) W4:=by rw[hW4];exact ok4
            have fr4:Fr φ3 h3 w3 φ3 (h3.put h1.nx (some (.loop .exhausted jM nm tv yh bd' dn'))) W4:=by rw[hW4];exact fr4
            have aem:=stepR_endRangeFunc (P:=E.P) (b:=b) (a:={a with defers:=mark++a.defers}) (k:=k) (cs:=cur K s.rc) (run_endLoop hr ael)
            rw[←hW4] at aem
            have tx:=((fr1.trans fr2).trans WM).trans fr4
            have j4:=Steps.trans (.head (start n st hp) kb) (.one aem)
            rw[Aw.pending] at j4
            have abh:=Ph.le_trans Xr WM.ext
            have Ta:=Ph.le_trans hle WM.ext
            cases jM with
            | none=>
              simp [OI] at hj;subst hj
              exact ⟨φ3,_,_,_,.normal,tR.mono abh,ok4,tx,gZ.mono Ta,j4⟩
            | some c=>
              rcases S' hj with ⟨id,rfl,rfl⟩ | ⟨rfl,rfl⟩
              · exact ⟨φ3,_,_,_,.exit id,tR.mono abh,ok4,tx,gZ.mono Ta,k,rfl,j4⟩
              · exact ⟨φ3,_,_,_,.ret,tR.mono abh,ok4,tx,gZ.mono Ta,k,j4⟩
          · simp at h
        · simp at h
       ·
        rename_i v h3 hc
        simp at h;obtain ⟨rfl,rfl⟩:=h
        obtain ⟨n,st,hp,iv⟩:=dN.panic _ _ _ _ _ hc φ2 _ _ Dr trivial hl
        obtain ⟨φ3,w3,v',hv,ok3,WM,kb⟩:=iv (b.atR {a with defers:=mark++a.defers} (.inRangeFunc w1.heap.size::k)) (cur K s.rc)
        rw[Frame.raise_atR] at kb
        exact ⟨φ3,w3,_,_,.panic v v' hv,tR.mono (Ph.le_trans Xr WM.ext),ok3,(fr1.trans fr2).trans WM,gZ.mono (Ph.le_trans hle WM.ext),_,.head (start n st hp) kb⟩
       · simp at h
     · simp at h
   · simp at h
 · simp at h
end Go.Ab
end
