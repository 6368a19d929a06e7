import Derived.Orders
import Derived.Test.YtogcojohajankaaGreatA2
set_option linter.unusedVariables false
set_option linter.unusedSimpArgs false
section
namespace Go.Ab
variable {E:Env}
theorem oA {α:Type} {f:α→α→Bool} (hf:∀x y,f x y=true→x=y):∀{l r:List α} (_:ep f l r=true),l=r
 | [],[],_=>rfl
 | [],_::_,h=>by simp [ep] at h
 | _::_,[],h=>by simp [ep] at h
 | x::xs,y::ys,h=>by
   simp only[ep,Bool.and_eq_true] at h
   rw[hf x y h.1,oA hf h.2]
theorem AV.zY:∀(n:Nat) (x y:AV),AV.same n x y=true→x=y
 | 0,_,_,h=>by simp [AV.same] at h
 | n+1,x,y,h=>by
   have ih:=AV.zY n
   cases x<;>cases y<;>simp [AV.same] at h<;>try rfl
   all_goals first
    | (subst h;rfl)
    | (obtain ⟨rfl,rfl⟩:=h;rfl)
    | (obtain ⟨⟨⟨⟨rfl,rfl⟩,rfl⟩,rfl⟩,rfl⟩:=h;rfl)
    | (obtain ⟨⟨rfl,h1⟩,h2⟩:=h;rw[oA ih h1,oA ih h2])
    | (obtain ⟨rfl,h1⟩:=h;rw[ih _ _ h1])
    | (rw[oA ih h])
theorem aH.zY {x y:aH} (h:aH.same x y=true):x=y:=by
 unfold aH.same at h
 split at h
 · simp only[Bool.and_eq_true,beq_iff_eq] at h
   obtain ⟨⟨h1,rfl⟩,rfl⟩:=h
   rw[oA (AV.zY 20) h1]
 · simp at h;subst h;rfl
 · simp at h;obtain ⟨rfl,rfl⟩:=h;rfl
 · simp at h
theorem yC:∀{l:List Nat} (_:nodup l=true),l.Nodup
 | [],_=> .nil
 | x::xs,h=>by
   simp only[nodup,Bool.and_eq_true,Bool.not_eq_true',List.contains_eq_mem,decide_eq_false_iff_not] at h
   exact List.nodup_cons.2 ⟨h.1,yC h.2⟩
theorem EP:∀(n:Nat) (l:List Nat) (_:l.Nodup) (_:∀x∈l,x<n),l.length≤n
 | 0,l,_,h=>by
   cases l with
   | nil=>simp
   | cons x _=>have:=h x (by simp);omega
 | n+1,l,hn,h=>by
   have h1:=EP n (l.erase n) (hn.erase n) (fun x hx=>by
    have h2:=h x (List.mem_of_mem_erase hx)
    have h3:x≠n:=(hn.mem_erase_iff.1 hx).1
    omega)
   rw[List.length_erase] at h1
   split at h1<;>omega
structure ES (E:Env) (ops:Array Oper) (pl:nL):Prop where
 lt:∀i o j,ops[i]? =some o→eM pl.an i j=true→j<i
 direct:∀i o e,ops[i]? =some o→e∈mh o→e<i∧eM pl.an i e=true
 closed:∀i o j,ops[i]? =some o→eM pl.an i j=true→∃e∈mh o,e=j∨eM pl.an e j=true
 guard:∀i o g want,ops[i]? =some o→o.guard=some (g,want)→eM pl.an i g=true
 slot:∀i j o p d,i≠j→ops[i]? =some o→ops[j]? =some p→p.dst=some d→o.dst≠some d∧(d∈tmpsOf o→eM pl.an i j=true∨eM pl.an j i=true)
 chain:∀q e f,pl.bT[q]? =some e→pl.bT[q+1]? =some f→eM pl.an f e=true
 bT:pl.bT=o4 E ops.toList
 nd:pl.bT.Nodup
 order:mi E ops pl.an pl.bT pl.order [] 0=true
theorem wQ {ops:Array Oper} {i:Nat} {o:Oper} (h:ops[i]? =some o):(o,i)∈ops.toList.zipIdx:=by
 rw[List.mk_mem_zipIdx_iff_getElem?];simpa using h
theorem zZ {an:List (List Nat)}:∀{l:List Nat} (_:wJ an l=true) (q e f:Nat),l[q]? =some e→l[q+1]? =some f→eM an f e=true
 | [],_,q,e,f,h,_=>by simp at h
 | [x],_,q,e,f,h,h'=>by simp at h'
 | x::y::l,hc,q,e,f,h,h'=>by
   simp only[wJ,Bool.and_eq_true] at hc
   cases q with
   | zero=>simp at h h';subst h;subst h';exact hc.1
   | succ q=>exact zZ hc.2 q e f (by simpa using h) (by simpa using h')
theorem Ms {ops:Array Oper} {pl:nL} (h:vh E ops=some pl):ES E ops pl:=by
 unfold vh at h
 simp only at h
 split at h
 · rename_i hc
   simp at h;subst h
   simp only[Bool.and_eq_true] at hc
   obtain ⟨⟨⟨⟨he,hs⟩,hch⟩,qG⟩,VL⟩:=hc
   have OW:=List.all_eq_true.1 he
   have s7:=List.all_eq_true.1 hs
   refine ⟨fun i o j ho hj=>?_,fun i o e ho hm=>?_,fun i o j ho hj=>?_,fun i o g want ho hg=>?_,fun i j o p d fH ho hp hd=>?_,zZ hch,rfl,yC qG,VL⟩
   · have:=OW _ (wQ ho)
     simp only[Bool.and_eq_true] at this
     have h2:=List.all_eq_true.1 this.2 j (by simpa [eM] using hj)
     simp only[Bool.and_eq_true,decide_eq_true_eq] at h2
     exact h2.1
   · have:=OW _ (wQ ho)
     simp only[Bool.and_eq_true] at this
     have h2:=List.all_eq_true.1 this.1 e hm
     simpa using h2
   · have:=OW _ (wQ ho)
     simp only[Bool.and_eq_true] at this
     have h2:=List.all_eq_true.1 this.2 j (by simpa [eM] using hj)
     simp only[Bool.and_eq_true,List.any_eq_true,Bool.or_eq_true,beq_iff_eq] at h2
     exact h2.2
   · have:=s7 _ (wQ ho)
     simp only[Bool.and_eq_true,hg] at this
     exact this.1.1
   · have:=s7 _ (wQ ho)
     simp only[Bool.and_eq_true] at this
     have h2:=List.all_eq_true.1 this.2 _ (wQ hp)
     simp only[Bool.or_eq_true,beq_iff_eq,fH,false_or,hd,Bool.and_eq_true,bne_iff_ne,Bool.not_eq_true',List.contains_eq_mem,decide_eq_false_iff_not] at h2
     exact ⟨h2.1,fun hm=>(h2.2.imp_left (fun x=>x.resolve_left (fun hn=>hn hm)))⟩
 · simp at h
def sR (E:Env) (ops:Array Oper) (l:List Nat):Nat:=(l.filter fun i=>gP E ((ops.getD i default).op)).length
theorem JZ {ops:Array Oper} {i:Nat} (l:List Nat) (h:gP E ((ops.getD i default).op)=true):sR E ops (i::l)=sR E ops l+1:=by
 unfold sR;rw[List.filter_cons_of_pos (p:=fun i=>gP E ((ops.getD i default).op)) h];rfl
theorem J0 {ops:Array Oper} {i:Nat} (l:List Nat) (h:¬gP E ((ops.getD i default).op)=true):sR E ops (i::l)=sR E ops l:=by
 unfold sR;rw[List.filter_cons_of_neg (p:=fun i=>gP E ((ops.getD i default).op)) h]
theorem jV {ops:Array Oper} {an:List (List Nat)} {bT:List Nat}:∀{l seen:List Nat} {k:Nat} (_:mi E ops an bT l seen k=true),
 (∀p i,l[p]? =some i→i<ops.size∧i ∉ seen∧i ∉ l.take p∧(∀j,eM an i j=true→j∈seen∨j∈l.take p)∧
  (gP E ((ops.getD i default).op)=true→bT[k+sR E ops (l.take p)]? =some i)∧(gP E ((ops.getD i default).op)=false→JK bT an i=k+sR E ops (l.take p)))∧
 (∀i,i<ops.size→i∈seen∨i∈l)∧k+sR E ops l=bT.length
 | [],seen,k,h=>by
   simp only[mi,Bool.and_eq_true,List.all_eq_true,List.mem_range,beq_iff_eq] at h
   exact ⟨fun p i hp=>by simp at hp,fun i hi=> .inl (by simpa using h.1 i hi),by simpa [sR] using h.2⟩
 | i::l,seen,k,h=>by
   simp only[mi,Bool.and_eq_true,decide_eq_true_eq,Bool.not_eq_true',List.contains_eq_mem,decide_eq_false_iff_not] at h
   obtain ⟨⟨⟨nN,hns⟩,ad2⟩,pT⟩:=h
   have acX:∀j,eM an i j=true→j∈seen:=fun j hj=>by
    have:=List.all_eq_true.1 ad2 j (by simpa [eM] using hj)
    simpa using this
   by_cases he:gP E ((ops.getD i default).op)=true
   · simp only[he,if_true,Bool.and_eq_true,beq_iff_eq] at pT
     obtain ⟨h1,h2,h3⟩:=jV pT.2
     refine ⟨fun p j hp=>?_,fun j hj=>?_,?_⟩
     · cases p with
       | zero=>simp at hp;subst hp;exact ⟨nN,hns,by simp,fun j hj=> .inl (acX j hj),fun _=>by simpa [sR] using pT.1,fun hf=>by rw[he] at hf;simp at hf⟩
       | succ p=>
         obtain ⟨a1,a2,a3,a4,a5,a6⟩:=h1 p j (by simpa using hp)
         have hc:k+sR E ops (List.take (p+1) (i::l))=k+1+sR E ops (l.take p):=by rw[List.take_succ_cons,JZ _ he];omega
         simp only[List.mem_cons,not_or] at a2
         refine ⟨a1,a2.2,by simp;exact ⟨a2.1,a3⟩,fun m hm=>?_,by rw[hc];exact a5,by rw[hc];exact a6⟩
         rcases a4 m hm with h4 | h4
         · simp at h4;rcases h4 with rfl | h4
           · exact .inr (by simp)
           · exact .inl h4
         · exact .inr (by simp [h4])
     · rcases h2 j hj with h4 | h4
       · simp at h4;rcases h4 with rfl | h4
         · exact .inr (by simp)
         · exact .inl h4
       · exact .inr (by simp [h4])
     · rw[JZ _ he];omega
   · simp only[he,Bool.false_eq_true,if_false,Bool.and_eq_true,beq_iff_eq] at pT
     obtain ⟨h1,h2,h3⟩:=jV pT.2
     refine ⟨fun p j hp=>?_,fun j hj=>?_,?_⟩
     · cases p with
       | zero=>simp at hp;subst hp;exact ⟨nN,hns,by simp,fun j hj=> .inl (acX j hj),fun hf=>absurd hf he,fun _=>by simpa [sR] using pT.1⟩
       | succ p=>
         obtain ⟨a1,a2,a3,a4,a5,a6⟩:=h1 p j (by simpa using hp)
         have hc:k+sR E ops (List.take (p+1) (i::l))=k+sR E ops (l.take p):=by rw[List.take_succ_cons,J0 _ he]
         simp only[List.mem_cons,not_or] at a2
         refine ⟨a1,a2.2,by simp;exact ⟨a2.1,a3⟩,fun m hm=>?_,by rw[hc];exact a5,by rw[hc];exact a6⟩
         rcases a4 m hm with h4 | h4
         · simp at h4;rcases h4 with rfl | h4
           · exact .inr (by simp)
           · exact .inl h4
         · exact .inr (by simp [h4])
     · rcases h2 j hj with h4 | h4
       · simp at h4;rcases h4 with rfl | h4
         · exact .inr (by simp)
         · exact .inl h4
       · exact .inr (by simp [h4])
     · rw[J0 _ he];exact h3
def iQ (ops:Array Oper) (i:Nat):Option Tmp:=(ops[i]?).bind (·.dst)
def J1 (ops:Array Oper) (ts:List AV) (l:List Step):List AV:=l.foldl (fun ts x=>dA ts (iQ ops x.i) x.v) ts
def qH (ops:Array Oper) (val:Nat→AV) (ts:List AV) (l:List Nat):List AV:=l.foldl (fun ts i=>dA ts (iQ ops i) (val i)) ts
structure Grown (a b:aw):Prop where
 nx:a.nx≤b.nx
 old:∀i,i<a.nx→b.get i=a.get i
theorem Grown.refl (a:aw):Grown a a:=⟨Nat.le_refl _,fun _ _=>rfl⟩
theorem Grown.trans {a b c:aw} (x:Grown a b) (y:Grown b c):Grown a c:=⟨Nat.le_trans x.nx y.nx,fun i hi=>(y.old i (Nat.lt_of_lt_of_le hi x.nx)).trans (x.old i hi)⟩
theorem Grown.new {a b:aw} {o:aH} (h:a.new o=some b):Grown a b:=by
 obtain ⟨h1,h2,h3,h4⟩:=aw.mT h
 exact ⟨by omega,fun i hi=>h4 i (by omega)⟩
theorem OK.grown {φ:Ph} {a b:aw} {w:World} (g:Grown a b) (ok:OK E φ a w):OK E φ b w∧Fr φ a w φ b w:=by
 have hold:∀i l,φ i=some l→b.get i=a.get i:=fun i l hl=>g.old i (ok.Dz i l hl)
 refine ⟨⟨fun i l hl=>Nat.lt_of_lt_of_le (ok.Dz i l hl) g.nx,Nat.le_trans ok.nx g.nx,ok.yu,fun i o l hi hl=>ok.live i o l (hold i l hl▸hi) hl,
  fun i j o p l m hi hj hl hm hw hb=>ok.inj i j o p l m (hold i l hl▸hi) (hold j m hm▸hj) hl hm hw hb⟩,
  ⟨Ph.le_refl φ,fun _ _=>rfl,g.nx,rfl,rfl,rfl,Nat.le_refl _,fun _ _ _=>rfl,fun i o l hi hr hl=> .inr ⟨i,o,l,hold i l hl▸hi,hr,hl,rfl⟩⟩⟩
def z5 (E:Env) (call:bm) (ops:Array Oper) (rc:RC) (x:Step) (o:Oper) (hk:aw) (sk:aw) (acY:Option aw):Prop:=
 match x.kind with
 | .off=>cO ops x.ts o=false∧x.v=AV.undef∧(gP E o.op=true→acY=some hk)
 | .iJ=>gP E o.op=false∧cO ops x.ts o=true∧bx E x.ts o.op=some x.v
 | .red=>gP E o.op=false∧cO ops x.ts o=true
 | .vi n obj=>gP E o.op=false∧cO ops x.ts o=true∧(∃mk,fp E x.ts o.op=some (obj,mk)∧x.v=mk n)∧sk.nx≤n∧n<hk.nx
 | .xw h'=>gP E o.op=true∧cO ops x.ts o=true∧dL E call x.ts hk rc o= .val x.v h'∧acY=some h'
structure aaj (E:Env) (call:bm) (ops:Array Oper) (s:St) (k:Nat) (order:List Nat) (tr:List Step) (hs st:List aw) (s':St):Prop where
 is:tr.map (·.i)=order
 ts:s'.ts=J1 ops s.ts tr
 ds:s'.ds=s.ds
 rc:s'.rc=s.rc
 len:hs.length=sR E ops order+1
 ad3:st.length=hs.length
 first:st[0]? =some s.h
 last:hs[sR E ops order]? =some s'.h
 grown:∀(j:Nat) (a b:aw),st[j]? =some a→hs[j]? =some b→Grown a b
 step:∀(p:Nat) (x:Step),tr[p]? =some x→x.ts=J1 ops s.ts (tr.take p)∧x.k=k+sR E ops (order.take p)∧
  ∃o hk sk,ops[x.i]? =some o∧hs[sR E ops (order.take p)]? =some hk∧st[sR E ops (order.take p)]? =some sk∧z5 E call ops s.rc x o hk sk (st[sR E ops (order.take p)+1]?)
theorem wR (ops:Array Oper) (ts:List AV) (x:Step) (l:List Step):J1 ops ts (x::l)=J1 ops (dA ts (iQ ops x.i) x.v) l:=rfl
theorem pY {call:bm} {ops:Array Oper}:∀{order:List Nat} {k:Nat} {s:St} {tr:List Step} {hs:List aw} {s':St} (_:dm E call ops order k s= .ok tr hs s'),
 ∃st,aaj E call ops s k order tr hs st s'
 | [],k,s,tr,hs,s',h=>by
   simp [dm] at h;obtain ⟨rfl,rfl,rfl⟩:=h
   exact ⟨[s.h],rfl,rfl,rfl,rfl,rfl,rfl,rfl,rfl,fun j a b ha hb=>by
    cases j with
    | zero=>simp at ha hb;subst ha;subst hb;exact Grown.refl _
    | succ j=>simp at ha,fun p x hp=>by simp at hp⟩
 | i::rest,k,s,tr,hs,s',h=>by
   simp only[dm] at h
   cases ho:ops[i]? with
   | none=>rw[ho] at h;simp at h
   | some o=>
   rw[ho] at h
   simp only at h
   have hgd:ops.getD i default=o:=by simp [Array.getD_eq_getD_getElem?,ho]
   have aak:iQ ops i=o.dst:=by simp [iQ,ho]
   have writes:∀(x:Step) (s1:St),x.i=i→x.k=k→x.ts=s.ts→s1.ts=dA s.ts o.dst x.v→s1.ds=s.ds→s1.rc=s.rc→gP E o.op=true→
    z5 E call ops s.rc x o s.h s.h (some s1.h)→((dm E call ops rest (k+1) s1).bound s.h).step x= .ok tr hs s'→∃st,aaj E call ops s k (i::rest) tr hs st s':=by
    intro x s1 Ts J2 hxt h1 h2 h3 he kB hd
    cases hr:dm E call ops rest (k+1) s1 with
    | fail why q=>rw[hr] at hd;simp [lq.bound,lq.step] at hd
    | ok Ro vb s2=>
      rw[hr] at hd;simp [lq.bound,lq.step] at hd;obtain ⟨rfl,rfl,rfl⟩:=hd
      obtain ⟨Tt,t⟩:=pY hr
      have hc:∀l,sR E ops (i::l)=sR E ops l+1:=fun l=>JZ l (by rw[hgd];exact he)
      refine ⟨s.h::Tt,by simp [Ts,t.is],?_,t.ds.trans h2,t.rc.trans h3,by simp [t.len,hc],by simp [t.ad3],rfl,by rw[hc];simpa using t.last,fun j a b ha hb=>?_,fun p y hp=>?_⟩
      · rw[wR,Ts,aak,←h1];exact t.ts
      · cases j with
        | zero=>simp at ha hb;subst ha;subst hb;exact Grown.refl _
        | succ j=>exact t.grown j a b (by simpa using ha) (by simpa using hb)
      · cases p with
        | zero=>
          simp at hp;subst hp
          refine ⟨by simp [J1,hxt],by simp [sR,J2],o,s.h,s.h,by rw[Ts];exact ho,by simp [sR],by simp [sR],?_⟩
          have:(s.h::Tt)[sR E ops (List.take 0 (i::rest))+1]? =some s1.h:=by simp [sR];exact t.first
          rw[this];exact kB
        | succ p=>
          obtain ⟨a1,a2,o2,hk,sk,a3,a4,a5,a6⟩:=t.step p y (by simpa using hp)
          refine ⟨?_,by rw[List.take_succ_cons,hc];omega,o2,hk,sk,a3,by rw[List.take_succ_cons,hc];simpa using a4,by rw[List.take_succ_cons,hc];simpa using a5,?_⟩
          · rw[List.take_succ_cons,wR,Ts,aak,←h1];exact a1
          · rw[List.take_succ_cons,hc,h3] at *
            simpa using a6
   have plain:∀(x:Step) (s1:St),x.i=i→x.k=k→x.ts=s.ts→s1.ts=dA s.ts o.dst x.v→s1.ds=s.ds→s1.rc=s.rc→gP E o.op=false→Grown s.h s1.h→
    (∀hk sn,Grown s1.h hk→z5 E call ops s.rc x o hk s.h sn)→(dm E call ops rest k s1).step x= .ok tr hs s'→∃st,aaj E call ops s k (i::rest) tr hs st s':=by
    intro x s1 Ts J2 hxt h1 h2 h3 he hg kB hd
    cases hr:dm E call ops rest k s1 with
    | fail why q=>rw[hr] at hd;simp [lq.step] at hd
    | ok Ro vb s2=>
      rw[hr] at hd;simp [lq.step] at hd;obtain ⟨rfl,rfl,rfl⟩:=hd
      obtain ⟨Tt,t⟩:=pY hr
      have hc:∀l,sR E ops (i::l)=sR E ops l:=fun l=>J0 l (by rw[hgd];simp [he])
      cases DE:Tt with
      | nil=>have:=t.first;rw[DE] at this;simp at this
      | cons s0 st2=>
      have Pm:s0=s1.h:=by have:=t.first;rw[DE] at this;simpa using this
      subst Pm
      have ie:∀j,(s.h::st2)[j+1]? =Tt[j+1]? :=fun j=>by rw[DE];rfl
      refine ⟨s.h::st2,by simp [Ts,t.is],?_,t.ds.trans h2,t.rc.trans h3,by rw[hc];exact t.len,by have:=t.ad3;rw[DE] at this;simpa using this,rfl,by rw[hc];exact t.last,fun j a b ha hb=>?_,fun p y hp=>?_⟩
      · rw[wR,Ts,aak,←h1];exact t.ts
      · cases j with
        | zero=>
          simp at ha;subst ha
          exact hg.trans (t.grown 0 _ b t.first hb)
        | succ j=>rw[ie] at ha;exact t.grown (j+1) a b ha hb
      · cases p with
        | zero=>
          simp at hp;subst hp
          have h0:∃hk,vb[0]? =some hk:=by
           have:=t.len
           cases hh:vb with
           | nil=>rw[hh] at this;simp at this
           | cons a _=>exact ⟨a,rfl⟩
          obtain ⟨hk,CV⟩:=h0
          refine ⟨by simp [J1,hxt],by simp [sR,J2],o,hk,s.h,by rw[Ts];exact ho,by simpa [sR] using CV,by simp [sR],?_⟩
          exact kB hk _ (t.grown 0 _ hk t.first CV)
        | succ p=>
          obtain ⟨a1,a2,o2,hk,sk,a3,a4,a5,a6⟩:=t.step p y (by simpa using hp)
          have hsk:∃sk',(s.h::st2)[sR E ops (List.take p rest)]? =some sk'∧sk'.nx≤sk.nx:=by
           cases hq:sR E ops (List.take p rest) with
           | zero=>rw[hq] at a5;rw[t.first] at a5;simp at a5;subst a5;exact ⟨s.h,rfl,hg.nx⟩
           | succ q=>rw[hq] at a5;exact ⟨sk,by rw[ie];exact a5,Nat.le_refl _⟩
          obtain ⟨sk',ajN,ajO⟩:=hsk
          refine ⟨?_,by rw[List.take_succ_cons,hc];exact a2,o2,hk,sk',a3,by rw[List.take_succ_cons,hc];exact a4,by rw[List.take_succ_cons,hc];exact ajN,?_⟩
          · rw[List.take_succ_cons,wR,Ts,aak,←h1];exact a1
          · rw[List.take_succ_cons,hc,ie,←h3]
            unfold z5 at a6 ⊢
            split<;>rename_i z6<;>rw[z6] at a6
            · exact a6
            · exact a6
            · exact a6
            · exact ⟨a6.1,a6.2.1,a6.2.2.1,Nat.le_trans ajO a6.2.2.2.1,a6.2.2.2.2⟩
            · exact a6
   split at h
   · rename_i he
     split at h
     · rename_i hw
       split at h
       · rename_i v h' vt
         exact writes ⟨i,k,s.ts,v,.xw h'⟩ {s with ts:=dA s.ts o.dst v,h:=h'} rfl rfl rfl rfl rfl rfl he ⟨he,hw,vt,rfl⟩ h
       · simp at h
       · simp at h
     · rename_i hw
       exact writes ⟨i,k,s.ts,AV.undef,.off⟩ {s with ts:=dA s.ts o.dst AV.undef} rfl rfl rfl rfl rfl rfl he ⟨by simpa using hw,rfl,fun _=>rfl⟩ h
   · rename_i he
     have OW:gP E o.op=false:=by simpa using he
     split at h
     · rename_i hw
       split at h
       · rename_i v hp
         exact plain ⟨i,k,s.ts,v,.iJ⟩ {s with ts:=dA s.ts o.dst v} rfl rfl rfl rfl rfl rfl OW (Grown.refl _) (fun hk sn _=>⟨OW,hw,hp⟩) h
       · split at h
         · rename_i v hp
           exact plain ⟨i,k,s.ts,v,.red⟩ {s with ts:=dA s.ts o.dst v} rfl rfl rfl rfl rfl rfl OW (Grown.refl _) (fun hk sn _=>⟨OW,hw⟩) h
         · split at h
           · rename_i obj mk hp
             split at h
             · rename_i h' hn
               refine plain ⟨i,k,s.ts,mk s.h.nx,.vi s.h.nx obj⟩ {s with ts:=dA s.ts o.dst (mk s.h.nx),h:=h'} rfl rfl rfl rfl rfl rfl OW (Grown.new hn) (fun hk sn g=>⟨OW,hw,⟨mk,hp,rfl⟩,Nat.le_refl _,?_⟩) h
               have:=(aw.mT hn).2.1
               have:=g.nx
               simp at this;omega
             · simp at h
           · simp at h
     · rename_i hw
       exact plain ⟨i,k,s.ts,AV.undef,.off⟩ {s with ts:=dA s.ts o.dst AV.undef} rfl rfl rfl rfl rfl rfl OW (Grown.refl _) (fun hk sn _=>⟨by simpa using hw,rfl,fun h=>by rw[OW] at h;simp at h⟩) h
end Go.Ab
end
section
namespace Go.Ab
variable {E:Env}
theorem wV (ops:Array Oper) (val:Nat→AV) (x:Nat):∀(l:List Nat) (ts:List AV) (_:∀j∈l,iQ ops j≠some x),(qH ops val ts l)[x]? =ts[x]?
 | [],_,_=>rfl
 | i::l,ts,h=>by
   show (qH ops val (dA ts (iQ ops i) (val i)) l)[x]? =_
   rw[wV ops val x l _ (fun j hj=>h j (by simp [hj]))]
   have:=h i (by simp)
   cases hd:iQ ops i with
   | none=>rfl
   | some d=>
     rw[hd] at this
     have fH:d≠x:=fun e=>this (by rw[e])
     simp [dA,List.getElem?_set_ne fH]
theorem ET (ops:Array Oper) (val:Nat→AV) (x j:Nat) (hj:iQ ops j=some x):∀(l:List Nat) (ts:List AV) (_:j∈l) (_:∀j'∈l,iQ ops j'=some x→j'=j),(qH ops val ts l)[x]? =if x<ts.length then some (val j) else none
 | i::l,ts,hm,hu=>by
   show (qH ops val (dA ts (iQ ops i) (val i)) l)[x]? =_
   have hlen:(dA ts (iQ ops i) (val i)).length=ts.length:=by cases iQ ops i<;>simp [dA]
   by_cases U6:j∈l
   · rw[ET ops val x j hj l _ U6 (fun j' h=>hu j' (by simp [h])),hlen]
   · have hij:i=j:=by simp at hm;rcases hm with h | h;exact h.symm;exact absurd h U6
     subst hij
     rw[wV ops val x l _ (fun j' rO e=>U6 (hu j' (by simp [rO]) e▸rO))]
     rw[hj]
     simp [dA,List.getElem?_set]
theorem yD {ops:Array Oper} {val:Nat→AV} {x:Nat} {l d:List Nat} (ts:List AV) (hu:∀j j',iQ ops j=some x→iQ ops j'=some x→j=j') (acZ:∀j,iQ ops j=some x→(j∈l↔j∈d)):
 (qH ops val ts l)[x]? =(qH ops val ts d)[x]? :=by
 by_cases h:∃j,iQ ops j=some x∧j∈l
 · obtain ⟨j,hj,hl⟩:=h
   rw[ET ops val x j hj l ts hl (fun j' _ e=>hu j' j e hj),ET ops val x j hj d ts ((acZ j hj).1 hl) (fun j' _ e=>hu j' j e hj)]
 · rw[wV ops val x l ts (fun j hj e=>h ⟨j,e,hj⟩),wV ops val x d ts (fun j hj e=>h ⟨j,e,(acZ j e).2 hj⟩)]
theorem BS {l r:List AV} {x:Nat} (h:l[x]? =r[x]?) (d:AV):l.getD x d=r.getD x d:=by simp [List.getD,h]
def valOf (tr:List Step) (i:Nat):AV:=((tr.find? (fun x=>x.i==i)).map (·.v)).getD AV.undef
theorem Mt {tr:List Step} (hn:(tr.map (·.i)).Nodup) {p:Nat} {x:Step} (hp:tr[p]? =some x):valOf tr x.i=x.v:=by
 unfold valOf
 have:tr.find? (fun y=>y.i==x.i)=some x:=by
  rw[List.find?_eq_some_iff_getElem]
  obtain ⟨nN,hx⟩:=List.getElem?_eq_some_iff.1 hp
  refine ⟨by simp,p,nN,hx,fun j hj=>?_⟩
  have U6:j<tr.length:=by omega
  simp only[Bool.not_eq_true',beq_eq_false_iff_ne]
  intro e
  have h1:(tr.map (·.i))[j]? =some x.i:=by simp [U6,e]
  have h2:(tr.map (·.i))[p]? =some x.i:=by simp [nN,hx]
  have:=(List.getElem?_inj (by simpa using U6) hn).1 (h1.trans h2.symm)
  omega
 rw[this];rfl
theorem J3 (ops:Array Oper) {tr:List Step} (hn:(tr.map (·.i)).Nodup) (ts:List AV) (p:Nat):J1 ops ts (tr.take p)=qH ops (valOf tr) ts ((tr.map (·.i)).take p):=by
 have key:∀(l:List Step) (ts:List AV),(∀x∈l,valOf tr x.i=x.v)→J1 ops ts l=qH ops (valOf tr) ts (l.map (·.i)):=by
  intro l
  induction l with
  | nil=>intro ts _;rfl
  | cons x l ih=>
    intro ts h
    show J1 ops (dA ts (iQ ops x.i) x.v) l=qH ops (valOf tr) (dA ts (iQ ops x.i) (valOf tr x.i)) (l.map (·.i))
    rw[h x (by simp),ih _ (fun y hy=>h y (by simp [hy]))]
 rw[key _ _ (fun x hx=>?_),List.map_take]
 obtain ⟨q,hq⟩:=List.getElem?_of_mem (List.mem_of_mem_take hx)
 exact Mt hn hq
theorem OK.place {φ:Ph} {h:aw} {w:World} (ok:OK E φ h w) {n:Nat} {obj:aH} (hg:h.get n=some obj) (Ho:φ n=none) (nN:n<h.nx) {O:Obj}
 (ho:OR E (φ.add n ⟨w.heap.size,0,0⟩) obj ⟨w.heap.size,0,0⟩ (some O)):OK E (φ.add n ⟨w.heap.size,0,0⟩) h (w.alloc O)∧φ.le (φ.add n ⟨w.heap.size,0,0⟩):=by
 have hle:φ.le (φ.add n ⟨w.heap.size,0,0⟩):=fun j m hm=>by
  unfold Ph.add;split
  · rename_i e;subst e;rw[Ho] at hm;simp at hm
  · exact hm
 have lR:∀j,j≠n→(φ.add n ⟨w.heap.size,0,0⟩) j=φ j:=fun j hj=>by simp [Ph.add,hj]
 have iP:(φ.add n ⟨w.heap.size,0,0⟩) n=some ⟨w.heap.size,0,0⟩:=by simp [Ph.add]
 have ac0:(w.alloc O).heap=w.heap.push O:=rfl
 have Hu:∀j p m,h.get j=some p→φ j=some m→m.iw<w.heap.size:=fun j p m hj hm=>by
  have Hp:=ok.live j p m hj hm
  rcases Nat.lt_or_ge m.iw w.heap.size with a | a
  · exact a
  · exfalso
    rw[Array.getElem?_eq_none a] at Hp
    exact Hp.absurd
 refine ⟨⟨fun j m hm=>?_,ok.nx,fun g hg=>hle _ _ (ok.yu g hg),fun j p m hj hm=>?_,fun j k p q m r hj hk hm hr hw hb=>?_⟩,hle⟩
 · by_cases e:j=n
   · omega
   · rw[lR j e] at hm;exact ok.Dz j m hm
 · by_cases e:j=n
   · subst e;rw[iP] at hm;simp at hm;subst hm;rw[hg] at hj;simp at hj;subst hj;rw[ac0];simpa using ho
   · rw[lR j e] at hm
     have hb:=Hu j p m hj hm
     rw[ac0,Array.getElem?_push,if_neg (by omega)]
     exact (ok.live j p m hj hm).mono hle
 · by_cases e:j=n<;>by_cases e':k=n
   · rw[e,e']
   · subst e;rw[iP] at hm;simp at hm;subst hm;rw[lR k e'] at hr;have:=Hu k q r hk hr;simp at hb;omega
   · subst e';rw[iP] at hr;simp at hr;subst hr;rw[lR j e] at hm;have:=Hu j p m hj hm;simp at hb;omega
   · rw[lR j e] at hm;rw[lR k e'] at hr;exact ok.inj j k p q m r hj hk hm hr hw hb
theorem Fr.place {φ₀ φ:Ph} {h₀ h:aw} {w₀ w:World} (f:Fr φ₀ h₀ w₀ φ h w) {n:Nat} (hn:h₀.nx≤n) (Ho:φ n=none) (O:Obj):Fr φ₀ h₀ w₀ (φ.add n ⟨w.heap.size,0,0⟩) h (w.alloc O):=by
 have lR:∀j,j≠n→(φ.add n ⟨w.heap.size,0,0⟩) j=φ j:=fun j hj=>by simp [Ph.add,hj]
 have iP:(φ.add n ⟨w.heap.size,0,0⟩) n=some ⟨w.heap.size,0,0⟩:=by simp [Ph.add]
 refine ⟨fun j m hm=>?_,fun i hi=>by rw[lR i (by omega)];exact f.old i hi,f.nx,f.os,f.tape,f.output,by have:=f.size;simp;omega,fun b hb hn'=>?_,fun i o l hi hr hl=>?_⟩
 · by_cases e:j=n
   · subst e;have:=f.ext j m hm;rw[Ho] at this;simp at this
   · rw[lR j e];exact f.ext j m hm
 · have:=f.size
   rw[show (w.alloc O).heap=w.heap.push O from rfl,Array.getElem?_push,if_neg (by omega)]
   exact f.Hs b hb hn'
 · by_cases e:i=n
   · subst e;rw[iP] at hl;simp at hl;subst hl;exact .inl f.size
   · rw[lR i e] at hl;exact f.own i o l hi hr hl
theorem filter_le {P:Nat→Bool} {l:List Nat} {K:Nat} (h:∀q e,l[q]? =some e→P e=true→q<K):(l.filter P).length≤K:=by
 have h1:(l.drop K).filter P=[]:=by
  rw[List.filter_eq_nil_iff]
  intro e he hP
  obtain ⟨q,hq⟩:=List.getElem?_of_mem he
  rw[List.getElem?_drop] at hq
  have:=h _ e hq hP
  omega
 calc (l.filter P).length=((l.take K++l.drop K).filter P).length:=by rw[List.take_append_drop]
  _=((l.take K).filter P).length:=by rw[List.filter_append,h1,List.append_nil]
  _≤(l.take K).length:=List.length_filter_le _ _
  _≤K:=by simp;omega
theorem z8 {P:Nat→Bool}:∀{l:List Nat} {e:Nat} (_:l[(l.takeWhile P).length]? =some e),P e=false
 | [],e,h=>by simp at h
 | x::l,e,h=>by
   by_cases hx:P x=true
   · rw[List.takeWhile_cons_of_pos hx] at h
     exact z8 (l:=l) (by simpa using h)
   · rw[List.takeWhile_cons_of_neg hx] at h
     simp at h;subst h;simpa using hx
end Go.Ab
end
section
namespace Go.Ab
variable {E:Env}
structure J4 (E:Env) (call:bm) (ops:Array Oper) (pl:nL) (s s':St) (tr:List Step) (hs st:List aw):Prop where
 uU:ES E ops pl
 trace:aaj E call ops s 0 pl.order tr hs st s'
 still:∀x∈tr,∀K hk,x.k≤K→K≤lO pl.bT pl.an x.i→hs[K]? =some hk→kO E ops x hk=true
 ids:∀(x y:Step),x∈tr→y∈tr→∀(n:Nat) (o q:aH),x.kind= .vi n o→y.kind= .vi n q→x.i=y.i
structure Inv (E:Env) (ops:Array Oper) (pl:nL) (s:St) (tr:List Step) (hs st:List aw) (φ₀:Ph) (w₀:World) (zG:List Deferred) (d:List Nat) (cb:Array Bool) (K:Nat) (φ:Ph) (a:Act) (w:World):Prop where
 nd:d.Nodup
 lt:∀i∈d,i<ops.size
 cb:∀i,i<ops.size→cb[i]? =some (decide (i∈d))
 closed:∀i∈d,∀j,eM pl.an i j=true→j∈d
 bT:∀q e,pl.bT[q]? =some e→(e∈d↔q<K)
 Kle:K≤pl.bT.length
 ts:LR φ (qH ops (valOf tr) s.ts d) a.tmps.toList
 ds:a.defers=zG
 ok:∃hK,hs[K]? =some hK∧OK E φ hK w∧Fr φ₀ s.h w₀ φ hK w
 j5:∀x∈tr,∀n obj,x.kind= .vi n obj→x.i ∉ d→x.k≤K→φ n=none∧s.h.nx≤n∧∀hK,hs[K]? =some hK→n<hK.nx
section
variable {call:bm} {ops:Array Oper} {pl:nL} {s s':St} {tr:List Step} {hs st:List aw}
theorem J4.at (r:J4 E call ops pl s s' tr hs st) {p:Nat} {x:Step} (hp:tr[p]? =some x):
 pl.order[p]? =some x.i∧x.i ∉ pl.order.take p∧(∀j,eM pl.an x.i j=true→j∈pl.order.take p)∧x.k=sR E ops (pl.order.take p)∧
 ∃o,ops[x.i]? =some o∧(gP E o.op=true→pl.bT[x.k]? =some x.i)∧(gP E o.op=false→JK pl.bT pl.an x.i=x.k):=by
 have h1:pl.order[p]? =some x.i:=by rw[←r.trace.is,List.getElem?_map,hp];rfl
 obtain ⟨h2,_,_⟩:=jV r.uU.order
 obtain ⟨a1,a2,a3,a4,a5,a6⟩:=h2 p x.i h1
 obtain ⟨b1,b2,o,hk,sk,b3,_⟩:=r.trace.step p x hp
 have hgd:ops.getD x.i default=o:=by simp [Array.getD_eq_getD_getElem?,b3]
 rw[hgd] at a5 a6
 have Ht:x.k=sR E ops (pl.order.take p):=by omega
 refine ⟨h1,a3,fun j hj=>(a4 j hj).resolve_left (by simp),Ht,o,b3,fun he=>?_,fun he=>?_⟩
 · have:=a5 he;rw[Ht];simpa using this
 · have:=a6 he;omega
theorem xR:∀{l:List Nat} (_:∀(p i:Nat),l[p]? =some i→i ∉ l.take p),l.Nodup
 | [],_=> .nil
 | x::l,h=>by
   refine List.nodup_cons.2 ⟨fun hm=>?_,xR (fun p i hp hi=>h (p+1) i (by simpa using hp) (by simp [hi]))⟩
   obtain ⟨q,hq⟩:=List.getElem?_of_mem hm
   exact h (q+1) x (by simpa using hq) (by simp)
theorem J4.nodup (r:J4 E call ops pl s s' tr hs st):pl.order.Nodup:=by
 obtain ⟨h2,_,_⟩:=jV r.uU.order
 exact xR (fun p i hp=>(h2 p i hp).2.2.1)
theorem J4.all (r:J4 E call ops pl s s' tr hs st) {i:Nat} (hi:i<ops.size):∃(p:Nat) (x:Step),tr[p]? =some x∧x.i=i:=by
 obtain ⟨_,h3,_⟩:=jV r.uU.order
 have:=(h3 i hi).resolve_left (by simp)
 rw[←r.trace.is] at this
 obtain ⟨x,hx,rfl⟩:=List.mem_map.1 this
 obtain ⟨p,hp⟩:=List.getElem?_of_mem hx
 exact ⟨p,x,hp,rfl⟩
theorem z9 {ops:Array Oper} {pl:nL} (pok:ES E ops pl) {x j j':Nat} (h:iQ ops j=some x) (h':iQ ops j'=some x):j=j':=by
 unfold iQ at h h'
 cases ho:ops[j]? with
 | none=>rw[ho] at h;simp at h
 | some o=>
 cases Mu:ops[j']? with
 | none=>rw[Mu] at h';simp at h'
 | some o'=>
 rw[ho] at h;rw[Mu] at h'
 simp at h h'
 rcases Nat.decEq j j' with fH | he
 · exact absurd h (pok.slot j j' o o' x fH ho Mu h').1
 · exact he
theorem ac1 (r:J4 E call ops pl s s' tr hs st) {p:Nat} {x:Step} {o:Oper} (hp:tr[p]? =some x) (ho:ops[x.i]? =some o) {d:List Nat} (hd:x.i ∉ d) (hcl:∀i∈d,∀j,eM pl.an i j=true→j∈d)
 (te:∀j,eM pl.an x.i j=true→j∈d):zV E x.ts (qH ops (valOf tr) s.ts d) o.op∧cO ops (qH ops (valOf tr) s.ts d) o=cO ops x.ts o:=by
 obtain ⟨h1,h2,h3,_,_⟩:=r.at hp
 have qG:(tr.map (·.i)).Nodup:=by rw[r.trace.is];exact r.nodup
 have VM:x.ts=qH ops (valOf tr) s.ts (pl.order.take p):=by
  rw[(r.trace.step p x hp).1,J3 ops qG,r.trace.is]
 have hpc:∀j∈pl.order.take p,∀m,eM pl.an j m=true→m∈pl.order.take p:=by
  intro j hj m hm
  obtain ⟨q,hq⟩:=List.getElem?_of_mem hj
  have hqp:q<p:=by
   have:=(List.getElem?_eq_some_iff.1 hq).1
   simp at this;omega
  have hq':pl.order[q]? =some j:=by rw[List.getElem?_take] at hq;rw[if_pos hqp] at hq;exact hq
  obtain ⟨f1,_,_⟩:=jV r.uU.order
  have:=((f1 q j hq').2.2.2.1 m hm).resolve_left (by simp)
  exact List.mem_of_mem_take (i:=q) (l:=pl.order.take p) (by rw[List.take_take,Nat.min_eq_left (Nat.le_of_lt hqp)];exact this)
 have same:∀t,(∀j p',j≠x.i→ops[j]? =some p'→p'.dst=some t→eM pl.an x.i j=true∨eM pl.an j x.i=true)→(qH ops (valOf tr) s.ts (pl.order.take p))[t]? =(qH ops (valOf tr) s.ts d)[t]? :=by
  intro t ht
  refine yD s.ts (fun j j' a b=>z9 r.uU a b) (fun j hj=>?_)
  by_cases hji:j=x.i
  · subst hji;exact ⟨fun h=>absurd h h2,fun h=>absurd h hd⟩
  · obtain ⟨p',hp',hd'⟩:∃p',ops[j]? =some p'∧p'.dst=some t:=by
     unfold iQ at hj
     cases hoj:ops[j]? with
     | none=>rw[hoj] at hj;simp at hj
     | some p'=>rw[hoj] at hj;exact ⟨p',rfl,by simpa using hj⟩
    rcases ht j p' hji hp' hd' with h | h
    · exact ⟨fun _=>te j h,fun _=>h3 j h⟩
    · exact ⟨fun hm=>absurd (hpc j hm _ h) h2,fun hm=>absurd (hcl j hm _ h) hd⟩
 rw[VM]
 refine ⟨fun y hy=>?_,?_⟩
 · cases y with
   | tmp t=>
     have ht:t∈tmpsOf o:=by
      unfold tmpsOf;rw[List.mem_filterMap];exact ⟨.tmp t,by simpa using hy,rfl⟩
     simp only[fJ]
     rw[BS (same t (fun j p' fH hp' hd'=>(r.uU.slot x.i j o p' t (Ne.symm fH) ho hp' hd').2 ht))]
   | const c=>rfl
   | global g=>rfl
   | func f=>rfl
 · unfold cO
   cases hg:o.guard with
   | none=>rfl
   | some gw=>
     obtain ⟨g,want⟩:=gw
     simp only
     cases hdg:(ops[g]?).bind (·.dst) with
     | none=>rfl
     | some t=>
       simp only
       have ad2:=r.uU.guard x.i o g want ho hg
       rw[same t (fun j p' fH hp' hd'=>by
        have:j=g:=z9 r.uU (x:=t) (by unfold iQ;rw[hp'];simpa using hd') hdg
        subst this;exact .inl ad2)]
end
end Go.Ab
end
section
namespace Go.Ab
variable {E:Env}
section
variable {call:bm} {ops:Array Oper} {pl:nL} {s s':St} {tr:List Step} {hs st:List aw}
theorem IB {l:List Oper} {i:Nat}:i∈o4 E l↔∃o,l[i]? =some o∧gP E o.op=true:=by
 unfold o4
 simp only[List.mem_map,List.mem_filter,Prod.exists]
 constructor
 · rintro ⟨o,j,⟨h1,h2⟩,rfl⟩
   exact ⟨o,by rw[List.mk_mem_zipIdx_iff_getElem?] at h1;exact h1,h2⟩
 · rintro ⟨o,h1,h2⟩
   exact ⟨o,i,⟨by rw[List.mk_mem_zipIdx_iff_getElem?];exact h1,h2⟩,rfl⟩
theorem ES.aal (pok:ES E ops pl) {i:Nat} {o:Oper} (ho:ops[i]? =some o):i∈pl.bT↔gP E o.op=true:=by
 rw[pok.bT,IB]
 constructor
 · rintro ⟨o',h1,h2⟩
   have:ops.toList[i]? =some o:=by simpa using ho
   rw[this] at h1;simp at h1;subst h1;exact h2
 · intro h;exact ⟨o,by simpa using ho,h⟩
theorem Inv.EU {φ₀ φ:Ph} {w₀ w:World} {zG:List Deferred} {d:List Nat} {cb:Array Bool} {K:Nat} {a:Act} (r:J4 E call ops pl s s' tr hs st) (inv:Inv E ops pl s tr hs st φ₀ w₀ zG d cb K φ a w)
 {x:Step} (hx:pl.bT[x.k]? =some x.i) (hd:x.i ∉ d) (te:∀j,eM pl.an x.i j=true→j∈d):x.k=K:=by
 have h1:¬x.k<K:=fun h=>hd ((inv.bT x.k x.i hx).2 h)
 rcases Nat.lt_or_ge K x.k with h | h
 · exfalso
   obtain ⟨q,hq⟩:∃q,x.k=q+1:=⟨x.k - 1,by omega⟩
   have nN:q<pl.bT.length:=by have:=(List.getElem?_eq_some_iff.1 hx).1;omega
   have hq':pl.bT[q]? =some pl.bT[q]:=by simp [nN]
   have:=r.uU.chain q _ x.i hq' (by rw[←hq];exact hx)
   have:=(inv.bT q _ hq').1 (te _ this)
   omega
 · omega
theorem Inv.VN {φ₀ φ:Ph} {w₀ w:World} {zG:List Deferred} {d:List Nat} {cb:Array Bool} {K:Nat} {a:Act} (inv:Inv E ops pl s tr hs st φ₀ w₀ zG d cb K φ a w)
 {i:Nat} (hd:i ∉ d) (te:∀j,eM pl.an i j=true→j∈d):JK pl.bT pl.an i≤K∧K≤lO pl.bT pl.an i:=by
 refine ⟨filter_le (fun q e hq he=>(inv.bT q e hq).1 (te e he)),?_⟩
 rcases Nat.lt_or_ge (lO pl.bT pl.an i) K with h | h
 · exfalso
   have nN:lO pl.bT pl.an i<pl.bT.length:=by have:=inv.Kle;omega
   have hq:pl.bT[lO pl.bT pl.an i]? =some pl.bT[lO pl.bT pl.an i]:=by simp [nN]
   have h1:=z8 (P:=fun e=> !eM pl.an e i) hq
   simp only[Bool.not_eq_false'] at h1
   exact hd (inv.closed _ ((inv.bT _ _ hq).2 h) i h1)
 · exact h
theorem Tu (ops:Array Oper) (val:Nat→AV) (ts:List AV) (d:List Nat) (i:Nat):qH ops val ts (d++[i])=dA (qH ops val ts d) (iQ ops i) (val i):=by
 simp [qH]
theorem Inv.snoc {φ₀ φ φ':Ph} {w₀ w w':World} {zG:List Deferred} {d:List Nat} {cb:Array Bool} {K K':Nat} {a:Act} (r:J4 E call ops pl s s' tr hs st) (inv:Inv E ops pl s tr hs st φ₀ w₀ zG d cb K φ a w)
 {p:Nat} {x:Step} {o:Oper} (hp:tr[p]? =some x) (ho:ops[x.i]? =some o) (hd:x.i ∉ d) (te:∀j,eM pl.an x.i j=true→j∈d) (hle:φ.le φ') {v':Value} (hv:VR φ' x.v v')
 (hK:(gP E o.op=false∧K'=K)∨(gP E o.op=true∧x.k=K∧pl.bT[x.k]? =some x.i∧K'=K+1))
 (rl:∃hK,hs[K']? =some hK∧OK E φ' hK w'∧Fr φ₀ s.h w₀ φ' hK w')
 (ag2:∀y∈tr,∀n obj,y.kind= .vi n obj→y.i ∉ d→y.i≠x.i→y.k≤K'→φ' n=none∧s.h.nx≤n∧∀hK,hs[K']? =some hK→n<hK.nx):
 Inv E ops pl s tr hs st φ₀ w₀ zG (d++[x.i]) (cb.setIfInBounds x.i true) K' φ' (a.put o.dst v') w':=by
 have qG:(tr.map (·.i)).Nodup:=by rw[r.trace.is];exact r.nodup
 have nN:x.i<ops.size:=(Array.getElem?_eq_some_iff.1 ho).1
 refine ⟨?_,fun i hi=>?_,fun i hi=>?_,fun i hi j hj=>?_,fun q e hq=>?_,?_,?_,by rw[put_defers];exact inv.ds,rl,fun y hy n obj EI hyd hyk=>?_⟩
 · rw[List.nodup_append];exact ⟨inv.nd,by simp,fun a ha b hb=>by simp at hb;subst hb;exact fun e=>hd (e▸ha)⟩
 · simp at hi;rcases hi with h | rfl
   · exact inv.lt i h
   · exact nN
 · have h1:=inv.cb i hi
   by_cases e:x.i=i
   · subst e
     have Mc:x.i<cb.size:=(Array.getElem?_eq_some_iff.1 h1).1
     rw[Array.getElem?_setIfInBounds];simp [Mc]
   · rw[Array.getElem?_setIfInBounds_ne e,h1]
     simp [show i≠x.i from fun h=>e h.symm]
 · simp at hi;rcases hi with h | rfl
   · exact List.mem_append_left _ (inv.closed i h j hj)
   · exact List.mem_append_left _ (te j hj)
 · rcases hK with ⟨he,rfl⟩ | ⟨he,J2,hxe,rfl⟩
   · have fH:e≠x.i:=fun h=>by
      subst h
      have:=(r.uU.aal ho).1 (List.mem_of_getElem? hq)
      rw[he] at this;simp at this
     simp [fH,inv.bT q e hq]
   · have hqe:e=x.i↔q=K:=by
      constructor
      · intro h;subst h
        have:=(List.getElem?_inj (List.getElem?_eq_some_iff.1 hq).1 r.uU.nd).1 (hq.trans hxe.symm)
        omega
      · intro h;subst h;rw[←J2,hxe] at hq;simpa using hq.symm
     simp only[List.mem_append,List.mem_singleton,inv.bT q e hq,hqe]
     omega
 · rcases hK with ⟨he,rfl⟩ | ⟨he,J2,hxe,rfl⟩
   · exact inv.Kle
   · have:=(List.getElem?_eq_some_iff.1 hxe).1;omega
 · rw[Tu,Mt qG hp]
   have:iQ ops x.i=o.dst:=by simp [iQ,ho]
   rw[this]
   exact VG (inv.ts.mono hle) o.dst hv
 · simp only[List.mem_append,List.mem_singleton,not_or] at hyd
   exact ag2 y hy n obj EI hyd.1 hyd.2 hyk
theorem Tv (hE:l6 E) {call:bm} (dY:ju E call) {ts:List AV} {h h':aw} {rc:RC} {o:Oper} {v:AV} (vt:dL E call ts h rc o= .val v h') {i:Nat} {rest:List Nat} (ho:ops[i]? =some o)
 {φ:Ph} {a:Act} {w:World} {b:Frame} {k:List Item} {K:Bool→List Frame} (VM:LR φ ts a.tmps.toList) (ok:OK E φ h w) (iv:o8 φ b K rc) (hw:Region.wanted o (yielded ops a.tmps)=true):
 ∃φ' w' v',VR φ' v v'∧OK E φ' h' w'∧Fr φ h w φ' h' w'∧Steps E.P (lone (b.atR a (.inRegion ops (i::rest)::k)) (cur K rc) w) (lone (b.atR (a.put o.dst v') (.inRegion ops rest::k)) (cur K rc) w'):=by
 have BK:=yB hE dY (rc:=rc) (o:=o) VM ok
 have qG:rc.pW=false∨∀c,o.op≠ .defer c:=by
  by_cases hd:∃c,o.op= .defer c
  · obtain ⟨c,hd⟩:=hd
    unfold dL at vt
    simp only[hd] at vt
    split at vt<;>simp at vt
  · exact .inr (fun c e=>hd ⟨c,e⟩)
 have mr:=tb iv qG a.eval
 rw[vt] at BK
 cases BK with
 | val v h' φ' w' v' hv uy fr run=>exact ⟨φ',w',v',hv,uy,fr,.one (ox mr ho hw run)⟩
 | skip h' φ' w' uy fr run=>exact ⟨φ',w',undef,.undef φ',uy,fr,.one (Mn mr ho hw run)⟩
 | enter v h' F args all hr hf hl run=>
   obtain ⟨n,start,hp,kB⟩:=hr φ w all ok hf hl
   obtain ⟨φ',w',v',hv,uy,fr,kp⟩:=kB (b.atR a (.inRegion ops (i::rest)::k)) (cur K rc)
   rw[wN ho] at kp
   exact ⟨φ',w',v',hv,uy,fr,.head (zT mr ho hw hp (run n start hp)) kp⟩
 | VJ fH Hq run=>
   have Ho:∀fr:Frame,fr.kind=b.kind→tryRecover fr (cur K rc)=none:=by
    cases JX:rc with
    | no=>rw[JX] at iv;exact iv.2
    | j5 v=>exact absurd JX (fH v)
    | done=>rw[JX] at iv;exact iv.2
    | L4 l=>rw[JX] at Hq;simp [RC.pW] at Hq
   exact ⟨φ,w,.nilIface,.nilIface,ok,Fr.refl _ _ _,.one (xQ (iv.plain Hq) mr ho hw run (Ho _ rfl))⟩
theorem Inv.Rp (hE:l6 E) {IC:bm} (dY:ju E IC) {φ₀ φ:Ph} {w₀ w:World} {zG:List Deferred} {d:List Nat} {cb:Array Bool} {K:Nat} {a:Act} (r:J4 E call ops pl s s' tr hs st) (inv:Inv E ops pl s tr hs st φ₀ w₀ zG d cb K φ a w)
 {b:Frame} {k:List Item} {Ks:Bool→List Frame} (iv:o8 φ₀ b Ks s.rc) {i:Nat} (hi:i<ops.size) (hd:i ∉ d) (te:∀j,eM pl.an i j=true→j∈d)
 (ID:∀(x:Step) (o:Oper) (hk h':aw),x∈tr→x.i=i→ops[x.i]? =some o→hs[x.k]? =some hk→x.kind= .xw h'→dL E IC x.ts hk s.rc o= .val x.v h') (rest:List Nat):
 ∃K' φ' a' w',Inv E ops pl s tr hs st φ₀ w₀ zG (d++[i]) (cb.setIfInBounds i true) K' φ' a' w'∧
  Steps E.P (lone (b.atR a (.inRegion ops (i::rest)::k)) (cur Ks s.rc) w) (lone (b.atR a' (.inRegion ops rest::k)) (cur Ks s.rc) w'):=by
 obtain ⟨p,x,hp,rfl⟩:=r.all hi
 have hxm:x∈tr:=List.mem_of_getElem? hp
 obtain ⟨h1,h2,h3,hk,o,ho,vt,ac2⟩:=r.at hp
 obtain ⟨_,_,o',hk1,sk1,Mu,CV,hsk,kB⟩:=r.trace.step p x hp
 rw[ho] at Mu;simp at Mu;subst Mu
 rw[←hk] at CV hsk kB
 obtain ⟨hag,VO⟩:=ac1 r hp ho hd inv.closed te
 obtain ⟨hK,hhK,ok,fr⟩:=inv.ok
 have ZS:Region.wanted o (yielded ops a.tmps)=cO ops x.ts o:=by rw[yA inv.ts o,VO]
 have aam:zV E (qH ops (valOf tr) s.ts d) x.ts o.op:=fun y hy=>(hag y hy).symm
 have same:∀y∈tr,∀n obj,y.kind= .vi n obj→y.i ∉ d→y.i≠x.i→y.k≤K→φ n=none∧s.h.nx≤n∧∀hK,hs[K]? =some hK→n<hK.nx:=
  fun y hy n obj a1 a2 _ a3=>inv.j5 y hy n obj a1 a2 a3
 have wrote:∀(φ':Ph) (h':aw) (w':World),x.k=K→st[K+1]? =some h'→OK E φ' h' w'→Fr φ hK w φ' h' w'→
  ∃Rq,hs[K+1]? =some Rq∧OK E φ' Rq w'∧Fr φ₀ s.h w₀ φ' Rq w'∧
  ∀y∈tr,∀n obj,y.kind= .vi n obj→y.i ∉ d→y.i≠x.i→y.k≤K+1→φ' n=none∧s.h.nx≤n∧∀hK,hs[K+1]? =some hK→n<hK.nx:=by
  intro φ' h' w' J2 ad4 uy OX
  have nN:K+1<hs.length:=by rw[←r.trace.ad3];exact (List.getElem?_eq_some_iff.1 ad4).1
  have hhs:hs[K+1]? =some hs[K+1]:=by simp [nN]
  have g:=r.trace.grown (K+1) h' _ ad4 hhs
  obtain ⟨EV,fr2⟩:=uy.grown g
  have ZT:=(fr.trans OX).trans fr2
  refine ⟨_,hhs,EV,ZT,fun y hy n obj a1 a2 a3 a4=>?_⟩
  have hnx:∀Rq,hs[K+1]? =some Rq→Rq=hs[K+1]:=fun Rq e=>by rw[hhs] at e;simpa using e.symm
  rcases Nat.lt_or_ge K y.k with h | h
  ·
   have hyk:y.k=K+1:=by omega
   obtain ⟨q,hq⟩:=List.getElem?_of_mem hy
   obtain ⟨_,_,_,hky,oy,hoy,_,_⟩:=r.at hq
   obtain ⟨_,_,oy',ajP,ajQ,ajR,HC,HD,Pr⟩:=r.trace.step q y hq
   rw[←hky,hyk] at HC HD
   rw[ad4] at HD;simp at HD;subst HD
   unfold z5 at Pr
   rw[a1] at Pr
   obtain ⟨_,_,_,hn1,hn2⟩:=Pr
   refine ⟨?_,?_,fun Rq e=>?_⟩
   · cases hφ:φ' n with
     | none=>rfl
     | some l=>have:=uy.Dz n l hφ;omega
   · have:=(fr.trans OX).nx;omega
   · rw[e] at HC;simp at HC;subst HC;exact hn2
  · obtain ⟨b1,b2,b3⟩:=inv.j5 y hy n obj a1 a2 h
    have hn:=b3 hK hhK
    refine ⟨by rw[OX.old n hn];exact b1,b2,fun Rq e=>?_⟩
    have:=OX.nx;have:=g.nx
    rw[hnx _ e];omega
 have still:gP E o.op=false→kO E ops x hK=true:=fun he=>by
  obtain ⟨w1,w2⟩:=inv.VN hd te
  exact r.still x hxm K hK (by rw[←ac2 he];exact w1) w2 hhK
 have hgd:ops.getD x.i default=o:=by simp [Array.getD_eq_getD_getElem?,ho]
 have skip:cO ops x.ts o=false→step E.P (lone (b.atR a (.inRegion ops (x.i::rest)::k)) (cur Ks s.rc) w)= .next (lone (b.atR (a.put o.dst undef) (.inRegion ops rest::k)) (cur Ks s.rc) w):=fun hw=>by
  have:=stepR_op_skip (P:=E.P) (b:=b) (a:=a) (k:=k) (cs:=cur Ks s.rc) (w:=w) (ops:=ops) (i:=x.i) (rest:=rest) (by rw[ho];simp;rw[ZS];exact hw)
  rw[this,ho];rfl
 unfold z5 at kB
 split at kB
 ·
  obtain ⟨hw,hv,hn⟩:=kB
  have hvr:VR φ x.v undef:=by rw[hv];exact .undef φ
  by_cases he:gP E o.op=true
  · have J2:=inv.EU r (vt he) hd te
    have DE:=hn he
    rw[J2] at DE CV
    rw[hhK] at CV;simp at CV;subst CV
    obtain ⟨Rq,q1,q2,q3,q4⟩:=wrote φ hK w J2 DE ok (Fr.refl _ _ _)
    exact ⟨K+1,φ,_,w,inv.snoc r hp ho hd te (Ph.le_refl φ) hvr (.inr ⟨he,J2,vt he,rfl⟩) ⟨Rq,q1,q2,q3⟩ q4,.one (skip hw)⟩
  · have OW:gP E o.op=false:=by simpa using he
    exact ⟨K,φ,_,w,inv.snoc r hp ho hd te (Ph.le_refl φ) hvr (.inl ⟨OW,rfl⟩) inv.ok same,.one (skip hw)⟩
 ·
  obtain ⟨he,hw,hpu⟩:=kB
  rw[←Mq aam] at hpu
  have qG:∀c,o.op≠ .defer c:=fun c e=>by rw[e] at hpu;simp [bx] at hpu
  obtain ⟨v',hv,hr⟩:=CO hE.ext ok.gl inv.ts hpu
  exact ⟨K,φ,_,w,inv.snoc r hp ho hd te (Ph.le_refl φ) hv (.inl ⟨he,rfl⟩) inv.ok same,.one (ox (tb iv (.inr qG) _) ho (ZS.trans hw) (hr w))⟩
 ·
  rename_i z6
  obtain ⟨he,hw⟩:=kB
  have vb:=still he
  unfold kO at vb
  rw[z6] at vb
  simp only[hgd] at vb
  cases hre:fb E x.ts hK o.op with
  | none=>rw[hre] at vb;simp at vb
  | some v1=>
    rw[hre] at vb
    have hv1:=AV.zY _ _ _ vb
    subst hv1
    rw[←Mr aam] at hre
    have qG:∀c,o.op≠ .defer c:=fun c e=>by rw[e] at hre;simp [fb] at hre
    obtain ⟨v',hv,hr⟩:=CS ok.gl ok inv.ts hre
    exact ⟨K,φ,_,w,inv.snoc r hp ho hd te (Ph.le_refl φ) hv (.inl ⟨he,rfl⟩) inv.ok same,.one (ox (tb iv (.inr qG) _) ho (ZS.trans hw) (hr w rfl))⟩
 ·
  rename_i n obj z6
  obtain ⟨he,hw,⟨mk,hal,hxv⟩,_,_⟩:=kB
  have vb:=still he
  unfold kO at vb
  rw[z6] at vb
  simp only at vb
  cases hge:hK.get n with
  | none=>rw[hge] at vb;simp at vb
  | some o1=>
    rw[hge] at vb
    have ho1:=aH.zY vb
    subst ho1
    obtain ⟨w1,_⟩:=inv.VN hd te
    obtain ⟨Ho,ajS,ajT⟩:=inv.j5 x hxm n o1 z6 hd (by rw[←ac2 he];exact w1)
    rw[←JY aam] at hal
    have qG:∀c,o.op≠ .defer c:=fun c e=>by rw[e] at hal;simp [fp] at hal
    obtain ⟨O,mk',Mp,hr⟩:=zQ ok.gl inv.ts hal
    have hle:φ.le (φ.add n ⟨w.heap.size,0,0⟩):=fun j m hm=>by
     unfold Ph.add;split
     · rename_i e;subst e;rw[Ho] at hm;simp at hm
     · exact hm
    obtain ⟨EV,_⟩:=ok.place hge Ho (ajT hK hhK) (Mp.obj _ w.heap.size hle)
    have hv:=Mp.val (φ.add n ⟨w.heap.size,0,0⟩) n w.heap.size hle (by simp [Ph.add])
    rw[←hxv] at hv
    refine ⟨K,_,_,_,inv.snoc r hp ho hd te hle hv (.inl ⟨he,rfl⟩) ⟨hK,hhK,EV,fr.place ajS Ho O⟩ (fun y hy m q a1 a2 a3 a4=>?_),.one (ox (tb iv (.inr qG) _) ho (ZS.trans hw) (hr w))⟩
    obtain ⟨b1,b2,b3⟩:=inv.j5 y hy m q a1 a2 a4
    refine ⟨?_,b2,b3⟩
    have fH:m≠n:=fun e=>by subst e;exact a3 (r.ids y x hy hxm m q o1 a1 z6)
    simp [Ph.add,fH,b1]
 ·
  rename_i h' z6
  obtain ⟨he,hw,_,DE⟩:=kB
  have VP:=ID x o _ h' hxm rfl ho CV z6
  have J2:=inv.EU r (vt he) hd te
  rw[J2] at DE CV
  rw[hhK] at CV;simp at CV;subst CV
  rw[←EO aam] at VP
  obtain ⟨φ',w',v',hv,uy,OX,kp⟩:=Tv hE dY VP ho (rest:=rest) (k:=k) inv.ts ok (iv.mono fr.ext) (ZS.trans hw)
  obtain ⟨Rq,q1,q2,q3,q4⟩:=wrote φ' h' w' J2 DE uy OX
  exact ⟨K+1,φ',_,w',inv.snoc r hp ho hd te OX.ext hv (.inr ⟨he,J2,vt he,rfl⟩) ⟨Rq,q1,q2,q3⟩ q4,kp⟩
end
end Go.Ab
end
section
namespace Go.Ab
variable {E:Env}
section
variable {call:bm} {ops:Array Oper} {pl:nL} {s s':St} {tr:List Step} {hs st:List aw}
structure J5 (E:Env) (φ₀:Ph) (h₀:aw) (w₀:World) (zG:List Deferred) (b:Frame) (k:List Item) (cs:List Frame) (s':St) (m:Machine):Prop where
 is:∃φ' a' w',LR φ' s'.ts a'.tmps.toList∧a'.defers=zG∧OK E φ' s'.h w'∧Fr φ₀ h₀ w₀ φ' s'.h w'∧Steps E.P m (lone (b.atR a' k) cs w')
theorem Mv (r:J4 E call ops pl s s' tr hs st) {φ₀ φ:Ph} {w₀ w:World} {zG:List Deferred} {d:List Nat} {cb:Array Bool} {K:Nat} {a:Act} (inv:Inv E ops pl s tr hs st φ₀ w₀ zG d cb K φ a w)
 (Mw:∀i,i<ops.size→i∈d) (b:Frame) (k:List Item) (cs:List Frame):J5 E φ₀ s.h w₀ zG b k cs s' (lone (b.atR a (.inRegion ops []::k)) cs w):=by
 have qG:(tr.map (·.i)).Nodup:=by rw[r.trace.is];exact r.nodup
 obtain ⟨f1,f2,f3⟩:=jV r.uU.order
 have hK:K=pl.bT.length:=by
  have:=inv.Kle
  rcases Nat.lt_or_ge K pl.bT.length with h | h
  · exfalso
    have hq:pl.bT[K]? =some pl.bT[K]:=by simp [h]
    have hm:pl.bT[K]∈pl.bT:=List.getElem_mem h
    generalize hx:pl.bT[K]=ee at hm hq
    rw[r.uU.bT,IB] at hm
    obtain ⟨o,ho,_⟩:=hm
    have nN:ee<ops.size:=by have:=(List.getElem?_eq_some_iff.1 ho).1;simpa using this
    have:=(inv.bT K _ hq).1 (Mw _ nN)
    omega
  · omega
 obtain ⟨Rq,q1,q2,q3⟩:=inv.ok
 have Mx:=r.trace.last
 have ajU:sR E ops pl.order=K:=by omega
 rw[ajU,q1] at Mx
 simp at Mx;subst Mx
 have VM:s'.ts=qH ops (valOf tr) s.ts d:=by
  rw[r.trace.ts]
  have h1:=J3 ops qG s.ts tr.length
  rw[List.take_length,r.trace.is,List.take_of_length_le (by rw[←r.trace.is];simp)] at h1
  rw[h1]
  refine List.ext_getElem? (fun x=>?_)
  refine yD s.ts (fun j j' e e'=>z9 r.uU e e') (fun j hj=>?_)
  have U6:j<ops.size:=by
   unfold iQ at hj
   cases ho:ops[j]? with
   | none=>rw[ho] at hj;simp at hj
   | some o=>exact (Array.getElem?_eq_some_iff.1 ho).1
  exact ⟨fun _=>Mw j U6,fun _=>(f2 j U6).resolve_left (by simp)⟩
 exact ⟨φ,a,w,by rw[VM];exact inv.ts,inv.ds,q2,q3,.one stepR_region_end⟩
theorem EW {φ₀ φ:Ph} {w₀ w:World} {zG:List Deferred} {d:List Nat} {cb:Array Bool} {K:Nat} {a:Act} (r:J4 E call ops pl s s' tr hs st) (inv:Inv E ops pl s tr hs st φ₀ w₀ zG d cb K φ a w)
 {i:Nat} (h:i∈Region.ready .any ops cb):i<ops.size∧i ∉ d∧∀j,eM pl.an i j=true→j∈d:=by
 obtain ⟨h1,o,ho,h2⟩:=mem_ready.1 h
 have hi:i<ops.size:=(Array.getElem?_eq_some_iff.1 ho).1
 have hl:=inv.cb i hi
 refine ⟨hi,fun hd=>?_,fun j hj=>?_⟩
 · simp [hl,hd,Array.getD_eq_getD_getElem?] at h1
 · obtain ⟨e,he,hej⟩:=r.uU.closed i o j ho hj
   have hed:e∈d:=by
    unfold mh at he
    simp only[List.mem_map,List.mem_filter] at he
    obtain ⟨ed,⟨hm,hb⟩,rfl⟩:=he
    have h3:=h2 ed (by simpa using hm) hb
    have ajV:ed.on<ops.size:=by
     have:=(r.uU.direct i o ed.on ho (by unfold mh;simp only[List.mem_map,List.mem_filter];exact ⟨ed,⟨hm,hb⟩,rfl⟩)).1
     omega
    simpa [inv.cb _ ajV,Array.getD_eq_getD_getElem?] using h3
   rcases hej with rfl | hej
   · exact hed
   · exact inv.closed e hed j hej
theorem BT {φ₀ φ:Ph} {w₀ w:World} {zG:List Deferred} {d:List Nat} {cb:Array Bool} {K:Nat} {a:Act} (r:J4 E call ops pl s s' tr hs st) (inv:Inv E ops pl s tr hs st φ₀ w₀ zG d cb K φ a w)
 (h:Region.ready .any ops cb=[]):∀(n i:Nat),i<n→i<ops.size→i∈d
 | 0,i,hn,_=>by omega
 | n+1,i,hn,hi=>by
   have ih:=BT r inv h n
   by_cases hd:i∈d
   · exact hd
   · exfalso
     have ho:ops[i]? =some ops[i]:=by simp [hi]
     have:i∈Region.ready .any ops cb:=by
      refine mem_ready.2 ⟨by simp [inv.cb i hi,hd,Array.getD_eq_getD_getElem?],ops[i],ho,fun e he hb=>?_⟩
      have hm:e.on∈mh ops[i]:=by
       unfold mh;simp only[List.mem_map,List.mem_filter];exact ⟨e,⟨by simpa using he,hb⟩,rfl⟩
      have nN:=(r.uU.direct i _ e.on ho hm).1
      have:=ih e.on (by omega) (by omega)
      simp [inv.cb e.on (by omega),this,Array.getD_eq_getD_getElem?]
     rw[h] at this;simp at this
theorem J4.real (r:J4 E call ops pl s s' tr hs st) (x:Step) (o:Oper) (hk h':aw) (hx:x∈tr) (ho:ops[x.i]? =some o) (hh:hs[x.k]? =some hk) (EI:x.kind= .xw h'):dL E call x.ts hk s.rc o= .val x.v h':=by
 obtain ⟨p,hp⟩:=List.getElem?_of_mem hx
 obtain ⟨_,_,_,hk0,_⟩:=r.at hp
 obtain ⟨_,_,o',hk1,sk1,Mu,CV,hsk,kB⟩:=r.trace.step p x hp
 rw[ho] at Mu;simp at Mu;subst Mu
 rw[←hk0,hh] at CV;simp at CV;subst CV
 unfold z5 at kB;rw[EI] at kB;exact kB.2.2.1
theorem My (hE:l6 E) (dY:ju E call) (r:J4 E call ops pl s s' tr hs st) {φ₀:Ph} {w₀:World} {zG:List Deferred} {b:Frame} {k:List Item} {Ks:Bool→List Frame} (iv:o8 φ₀ b Ks s.rc):
 ∀(fuel t:Nat) {φ:Ph} {w:World} {d:List Nat} {cb:Array Bool} {K:Nat} {a:Act} (_:Inv E ops pl s tr hs st φ₀ w₀ zG d cb K φ a w) (_:ops.size≤d.length+fuel),
  J5 E φ₀ s.h w₀ zG b k (cur Ks s.rc) s' (lone (b.atR a (.inRegion ops (Region.linearise.go .any ops fuel t cb [])::k)) (cur Ks s.rc) w)
 | 0,t,φ,w,d,cb,K,a,inv,hf=>by
   simp only[Region.linearise.go,List.reverse_nil]
   refine Mv r inv (fun i hi=>?_) b k _
   by_cases hd:i∈d
   · exact hd
   · have:=EP ops.size (i::d) (List.nodup_cons.2 ⟨hd,inv.nd⟩) (fun x hx=>by
      simp at hx;rcases hx with rfl | hx
      · exact hi
      · exact inv.lt x hx)
     simp at this;omega
 | fuel+1,t,φ,w,d,cb,K,a,inv,hf=>by
   simp only[Region.linearise.go]
   change J5 E φ₀ s.h w₀ zG b k (cur Ks s.rc) s' (lone (b.atR a (.inRegion ops (match (Region.ready .any ops cb)[t%(Region.ready .any ops cb).length]? with
    | some i=>Region.linearise.go .any ops fuel (t/(Region.ready .any ops cb).length) (cb.setIfInBounds i true) [i]
    | none=> [].reverse)::k)) (cur Ks s.rc) w)
   cases hi:(Region.ready .any ops cb)[t%(Region.ready .any ops cb).length]? with
   | none=>
     have JQ:Region.ready .any ops cb=[]:=by
      cases hr:Region.ready .any ops cb with
      | nil=>rfl
      | cons x xs=>
        rw[hr] at hi
        have nN:t%(x::xs).length<(x::xs).length:=Nat.mod_lt _ (by simp)
        simp at hi
        simp at nN
        omega
     exact Mv r inv (fun i hi=>BT r inv JQ _ i (Nat.lt_succ_self i) hi) b k _
   | some i=>
     simp only[]
     rw[linearise_go_acc,List.reverse_singleton,List.singleton_append]
     obtain ⟨h1,h2,h3⟩:=EW r inv (List.mem_of_getElem? hi)
     obtain ⟨K',φ',a',w',ad5,kB⟩:=inv.Rp hE dY r iv (b:=b) (k:=k) h1 h2 h3 (fun x o hk h' hx _=>r.real x o hk h' hx) (Region.linearise.go .any ops fuel (t/(Region.ready .any ops cb).length) (cb.setIfInBounds i true) [])
     obtain ⟨φ2,a2,w2,x1,x2,x3,x4,x5⟩:=(My hE dY r iv fuel (t/(Region.ready .any ops cb).length) ad5 (by simp;omega)).is
     exact ⟨φ2,a2,w2,x1,x2,x3,x4,Steps.trans kB x5⟩
structure J6 (E:Env) (φ₀:Ph) (h₀:aw) (w₀:World) (zG:List Deferred) (b:Frame) (cs:List Frame) (v:AV) (s':St) (m:Machine):Prop where
 is:∃φ' a' w' v' todo,VR φ' v v'∧LR φ' s'.ts a'.tmps.toList∧a'.defers=zG∧OK E φ' s'.h w'∧Fr φ₀ h₀ w₀ φ' s'.h w'∧Steps E.P m (lone {b.atR a' todo with mode:= .panicking [{v:=v',recovered:=false}]} cs w')
theorem Tw (hE:l6 E) {call:bm} (dY:ju E call) {ts:List AV} {h h':aw} {rc:RC} {o:Oper} {c:Call} (hoc:o.op= .call c) {v:AV} (vt:dL E call ts h rc o= .panic v h') {i:Nat} {rest:List Nat} (ho:ops[i]? =some o)
 {φ:Ph} {a:Act} {w:World} {b:Frame} {k:List Item} {K:Bool→List Frame} (VM:LR φ ts a.tmps.toList) (ok:OK E φ h w) (iv:o8 φ b K rc) (hw:Region.wanted o (yielded ops a.tmps)=true):
 ∃φ' w' v' todo,VR φ' v v'∧OK E φ' h' w'∧Fr φ h w φ' h' w'∧Steps E.P (lone (b.atR a (.inRegion ops (i::rest)::k)) (cur K rc) w) (lone {b.atR a todo with mode:= .panicking [{v:=v',recovered:=false}]} (cur K rc) w'):=by
 have BK:=yB hE dY (rc:=rc) (o:=o) VM ok
 have qG:rc.pW=false∨∀c,o.op≠ .defer c:= .inr (fun c e=>by rw[hoc] at e;simp at e)
 have mr:=tb iv qG a.eval
 rw[vt] at BK
 cases BK with
 | aai v h' F args all hr hf hl run=>
   obtain ⟨n,start,hp,kB⟩:=hr φ w all ok hf hl
   obtain ⟨φ',w',v',hv,uy,fr,kp⟩:=kB (b.atR a (.inRegion ops (i::rest)::k)) (cur K rc)
   rw[Frame.raise_atR] at kp
   exact ⟨φ',w',v',.inRegion ops (i::rest)::k,hv,uy,fr,.head (zT mr ho hw hp (run n start hp)) kp⟩
 | panic v v' hv run=>exact ⟨φ,w,v',_,hv,ok,Fr.refl _ _ _,.one (VH mr ho hw run)⟩
theorem IE (hE:l6 E) {IC:bm} (dY:ju E IC) (r:J4 E call ops pl s s' tr hs st) {xl:Step} (hxl:xl∈tr) {ol:Oper} (ZR:ops[xl.i]? =some ol) {c:Call} (hoc:ol.op= .call c)
 (Mw:∀j,j<ops.size→j≠xl.i→eM pl.an xl.i j=true) (ac3:gP E ol.op=true) (hwl:cO ops xl.ts ol=true) {hk:aw} (CV:hs[xl.k]? =some hk) {v:AV} {h':aw} (VQ:dL E IC xl.ts hk s.rc ol= .panic v h')
 (ID:∀(x:Step) (o:Oper) (hk h':aw),x∈tr→x.i≠xl.i→ops[x.i]? =some o→hs[x.k]? =some hk→x.kind= .xw h'→dL E IC x.ts hk s.rc o= .val x.v h')
 {s2:St} (h2:s2.h=h') (ag3:s2.ts=xl.ts) {φ₀:Ph} {w₀:World} {zG:List Deferred} {b:Frame} {k:List Item} {Ks:Bool→List Frame} (iv:o8 φ₀ b Ks s.rc):
 ∀(fuel t:Nat) {φ:Ph} {w:World} {d:List Nat} {cb:Array Bool} {K:Nat} {a:Act} (_:Inv E ops pl s tr hs st φ₀ w₀ zG d cb K φ a w) (_:ops.size≤d.length+fuel) (_:xl.i ∉ d),
  J6 E φ₀ s.h w₀ zG b (cur Ks s.rc) v s2 (lone (b.atR a (.inRegion ops (Region.linearise.go .any ops fuel t cb [])::k)) (cur Ks s.rc) w)
 | 0,t,φ,w,d,cb,K,a,inv,hf,qG=>by
   exfalso
   have hi:xl.i<ops.size:=(Array.getElem?_eq_some_iff.1 ZR).1
   have:=EP ops.size (xl.i::d) (List.nodup_cons.2 ⟨qG,inv.nd⟩) (fun x hx=>by
    simp at hx;rcases hx with rfl | hx
    · exact hi
    · exact inv.lt x hx)
   simp at this;omega
 | fuel+1,t,φ,w,d,cb,K,a,inv,hf,qG=>by
   have hil:xl.i<ops.size:=(Array.getElem?_eq_some_iff.1 ZR).1
   simp only[Region.linearise.go]
   change J6 E φ₀ s.h w₀ zG b (cur Ks s.rc) v s2 (lone (b.atR a (.inRegion ops (match (Region.ready .any ops cb)[t%(Region.ready .any ops cb).length]? with
    | some i=>Region.linearise.go .any ops fuel (t/(Region.ready .any ops cb).length) (cb.setIfInBounds i true) [i]
    | none=> [].reverse)::k)) (cur Ks s.rc) w)
   cases hi:(Region.ready .any ops cb)[t%(Region.ready .any ops cb).length]? with
   | none=>
     have JQ:Region.ready .any ops cb=[]:=by
      cases hr:Region.ready .any ops cb with
      | nil=>rfl
      | cons x xs=>
        rw[hr] at hi
        have nN:t%(x::xs).length<(x::xs).length:=Nat.mod_lt _ (by simp)
        simp at hi
        simp at nN
        omega
     exact absurd (BT r inv JQ _ xl.i (Nat.lt_succ_self _) hil) qG
   | some i=>
     simp only[]
     rw[linearise_go_acc,List.reverse_singleton,List.singleton_append]
     obtain ⟨h1,h2',h3⟩:=EW r inv (List.mem_of_getElem? hi)
     by_cases hii:i=xl.i
     · subst hii
       obtain ⟨p,hp⟩:=List.getElem?_of_mem hxl
       obtain ⟨_,q2,q3,_,o',Mu,q4,_⟩:=r.at hp
       rw[ZR] at Mu;simp at Mu;subst Mu
       obtain ⟨hag,VO⟩:=ac1 r hp ZR h2' inv.closed h3
       obtain ⟨hK,hhK,ok,fr⟩:=inv.ok
       have J2:=inv.EU r (q4 ac3) h2' h3
       rw[J2,hhK] at CV;simp at CV;subst CV
       rw[EO hag] at VQ
       have ZS:Region.wanted ol (yielded ops a.tmps)=true:=by rw[yA inv.ts ol,VO];exact hwl
       obtain ⟨φ',w',v',todo,hv,uy,OX,kB⟩:=Tw hE dY hoc VQ ZR (rest:=Region.linearise.go .any ops fuel (t/(Region.ready .any ops cb).length) (cb.setIfInBounds xl.i true) []) (k:=k) inv.ts ok (iv.mono fr.ext) ZS
       have ajW:(tr.map (·.i)).Nodup:=by rw[r.trace.is];exact r.nodup
       have VM:xl.ts=qH ops (valOf tr) s.ts d:=by
        rw[(r.trace.step p xl hp).1,J3 ops ajW,r.trace.is]
        refine List.ext_getElem? (fun x=>yD s.ts (fun j j' e e'=>z9 r.uU e e') (fun j hj=>?_))
        have U6:j<ops.size:=by
         unfold iQ at hj
         cases ho:ops[j]? with
         | none=>rw[ho] at hj;simp at hj
         | some o=>exact (Array.getElem?_eq_some_iff.1 ho).1
        by_cases hji:j=xl.i
        · subst hji;exact ⟨fun h=>absurd h q2,fun h=>absurd h h2'⟩
        · exact ⟨fun _=>h3 j (Mw j U6 hji),fun _=>q3 j (Mw j U6 hji)⟩
       exact ⟨φ',a,w',v',todo,hv,by rw[ag3,VM];exact inv.ts.mono OX.ext,inv.ds,by rw[h2];exact uy,by rw[h2];exact fr.trans OX,kB⟩
     · obtain ⟨K',φ',a',w',ad5,kB⟩:=inv.Rp hE dY r iv (b:=b) (k:=k) h1 h2' h3 (fun x o hk h' hx Ts=>ID x o hk h' hx (by rw[Ts];exact hii)) (Region.linearise.go .any ops fuel (t/(Region.ready .any ops cb).length) (cb.setIfInBounds i true) [])
       obtain ⟨φ2,a2,w2,v2,td,x0,x1,x2,x3,x4,x5⟩:=(IE hE dY r hxl ZR hoc Mw ac3 hwl CV VQ ID h2 ag3 iv fuel (t/(Region.ready .any ops cb).length) ad5 (by simp;omega) (by simp;exact ⟨qG,fun h=>hii h.symm⟩)).is
       exact ⟨φ2,a2,w2,v2,td,x0,x1,x2,x3,x4,Steps.trans kB x5⟩
def EX (call:bm):bm:=fun f as h=>match call f as h with
 | .panic _ h'=> .ret AV.undef h'
 | r=>r
theorem VS {call:bm} {ts:List AV} {h h':aw} {rc:RC} {o:Oper} {v:AV} (e:dL E call ts h rc o= .val v h'):dL E (EX call) ts h rc o= .val v h':=by
 obtain ⟨dst,op,ty,pos,after,guard⟩:=o
 cases op with
 | call c=>
   obtain ⟨cU,args,aT⟩:=c
   cases cU with
   | builtin b=>cases b<;>exact e
   | value f=>
     simp only[dL] at e ⊢
     split at e
     · split at e
       · exact e
       · split at e
         · rename_i hc
           simp only[EX,hc];exact e
         · simp at e
         · simp at e
     · simp at e
   | invoke x name=>
     simp only[dL] at e ⊢
     split at e
     · split at e
       · split at e
         · rename_i hc
           simp only[EX,hc];exact e
         · simp at e
         · simp at e
       · simp at e
     · simp at e
 | _=>exact e
theorem VT {call:bm} {ts:List AV} {h h':aw} {rc:RC} {dst:Option Tmp} {c:Call} {ty:TypeId} {pos:String} {after:Array Edge} {guard:Option (Nat×Bool)} {v:AV} (e:dL E call ts h rc ⟨dst,.call c,ty,pos,after,guard⟩= .panic v h'):
 dL E (EX call) ts h rc ⟨dst,.call c,ty,pos,after,guard⟩= .val AV.undef h':=by
 obtain ⟨cU,args,aT⟩:=c
 cases cU with
 | builtin b=>
   cases b<;>simp only[dL] at e<;>(try (simp at e;done))<;>(split at e<;>(try (simp at e;done))<;>(try (split at e<;>simp at e)))
 | value f=>
   simp only[dL] at e ⊢
   split at e
   · split at e
     · split at e<;>simp at e
     · split at e
       · simp at e
       · rename_i hc
         simp at e;obtain ⟨rfl,rfl⟩:=e
         simp only[EX,hc]
       · simp at e
   · simp at e
 | invoke x name=>
   simp only[dL] at e ⊢
   split at e
   · split at e
     · split at e
       · simp at e
       · rename_i hc
         simp at e;obtain ⟨rfl,rfl⟩:=e
         simp only[EX,hc]
       · simp at e
     · simp at e
   · simp at e
theorem pZ {α:Type} {f:α→Option Nat}:∀{l:List α} (_:(l.filterMap f).Nodup) {x y:α} {n:Nat} (_:x∈l) (_:y∈l) (_:f x=some n) (_:f y=some n),x=y
 | [],_,x,y,n,hx,_,_,_=>by simp at hx
 | z::l,hn,x,y,n,hx,hy,fx,fy=>by
   cases hz:f z with
   | none=>
     rw[List.filterMap_cons_none hz] at hn
     have hx':x∈l:=by
      simp at hx;rcases hx with rfl | h
      · rw[hz] at fx;simp at fx
      · exact h
     have hy':y∈l:=by
      simp at hy;rcases hy with rfl | h
      · rw[hz] at fy;simp at fy
      · exact h
     exact pZ hn hx' hy' fx fy
   | some m=>
     rw[List.filterMap_cons_some hz,List.nodup_cons] at hn
     simp at hx hy
     rcases hx with rfl | hx<;>rcases hy with rfl | hy
     · rfl
     · exfalso;rw[fx] at hz;simp at hz;subst hz;exact hn.1 (List.mem_filterMap.2 ⟨y,hy,fy⟩)
     · exfalso;rw[fy] at hz;simp at hz;subst hz;exact hn.1 (List.mem_filterMap.2 ⟨x,hx,fx⟩)
     · exact pZ hn.2 hx hy fx fy
theorem VU (Tj:vh E ops=some pl) (hd:dm E call ops pl.order 0 s= .ok tr hs s') (hl:sZ E ops pl tr hs=true):∃st,J4 E call ops pl s s' tr hs st:=by
 obtain ⟨st,t⟩:=pY hd
 unfold sZ at hl
 simp only[Bool.and_eq_true] at hl
 refine ⟨st,Ms Tj,t,fun x hx K hk h1 h2 h3=>?_,fun x y hx hy n o q e1 e2=>?_⟩
 · have h4:=List.all_eq_true.1 (List.all_eq_true.1 hl.2 x hx) hk
   refine h4 ?_
   refine List.mem_of_getElem? (i:=K - x.k) ?_
   rw[List.getElem?_take,if_pos (by omega),List.getElem?_drop,show x.k+(K - x.k)=K by omega,h3]
 · have:=yC hl.1
   have:=pZ this hx hy (n:=n) (by simp [e1]) (by simp [e2])
   rw[this]
theorem yE {call IF:bm} (hc:∀{ts:List AV} {h h':aw} {rc:RC} {o:Oper} {v:AV},dL E call ts h rc o= .val v h'→dL E IF ts h rc o= .val v h') {i:Nat} {o:Oper} (ho:ops[i]? =some o) (he:gP E o.op=true):
 ∀(l:List Nat) (k:Nat) (s:St) {tr:List Step} {hs:List aw} {s1:St} {h':aw} (_:dm E call ops l k s= .ok tr hs s1) (_:cO ops s1.ts o=true) (_:dL E IF s1.ts s1.h s1.rc o= .val AV.undef h'),
  dm E IF ops (l++[i]) k s= .ok (tr++[⟨i,k+(hs.length - 1),s1.ts,AV.undef,.xw h'⟩]) (hs++[h']) {s1 with ts:=dA s1.ts o.dst AV.undef,h:=h'}
 | [],k,s,tr,hs,s1,h',hd,hw,hv=>by
   simp [dm] at hd;obtain ⟨rfl,rfl,rfl⟩:=hd
   simp only[List.nil_append,dm,ho,he,if_true,hw,hv]
   simp [lq.bound,lq.step]
 | j::l,k,s,tr,hs,s1,h',hd,hw,hv=>by
   rw[List.cons_append]
   simp only[dm] at hd ⊢
   cases hoj:ops[j]? with
   | none=>rw[hoj] at hd;simp at hd
   | some oj=>
   rw[hoj] at hd
   simp only at hd ⊢
   have wr:∀(x:Step) (s0:St),((dm E call ops l (k+1) s0).bound s.h).step x= .ok tr hs s1→((dm E IF ops (l++[i]) (k+1) s0).bound s.h).step x= .ok (tr++[⟨i,k+(hs.length - 1),s1.ts,AV.undef,.xw h'⟩]) (hs++[h']) {s1 with ts:=dA s1.ts o.dst AV.undef,h:=h'}:=by
    intro x s0 hd
    cases hr:dm E call ops l (k+1) s0 with
    | fail why q=>rw[hr] at hd;simp [lq.bound,lq.step] at hd
    | ok Ro vb s2=>
      rw[hr] at hd;simp [lq.bound,lq.step] at hd;obtain ⟨rfl,rfl,rfl⟩:=hd
      rw[yE hc ho he l (k+1) s0 hr hw hv]
      obtain ⟨_,t⟩:=pY hr
      have:1≤vb.length:=by have:=t.len;omega
      simp [lq.bound,lq.step];omega
   have pl:∀(x:Step) (s0:St),(dm E call ops l k s0).step x= .ok tr hs s1→(dm E IF ops (l++[i]) k s0).step x= .ok (tr++[⟨i,k+(hs.length - 1),s1.ts,AV.undef,.xw h'⟩]) (hs++[h']) {s1 with ts:=dA s1.ts o.dst AV.undef,h:=h'}:=by
    intro x s0 hd
    cases hr:dm E call ops l k s0 with
    | fail why q=>rw[hr] at hd;simp [lq.step] at hd
    | ok Ro vb s2=>
      rw[hr] at hd;simp [lq.step] at hd;obtain ⟨rfl,rfl,rfl⟩:=hd
      rw[yE hc ho he l k s0 hr hw hv]
      simp [lq.step]
   split at hd
   · rename_i he1
     rw[if_pos he1]
     split at hd
     · rename_i DD
       rw[if_pos DD]
       split at hd
       · rename_i VP
         simp only[hc VP]
         exact wr _ _ hd
       · simp at hd
       · simp at hd
     · rename_i DD
       rw[if_neg DD]
       exact wr _ _ hd
   · rename_i he1
     rw[if_neg he1]
     split at hd
     · rename_i DD
       rw[if_pos DD]
       split at hd
       · rename_i hp
         try simp only[hp]
         exact pl _ _ hd
       · rename_i hp
         try simp only[hp]
         split at hd
         · rename_i hq
           try simp only[hq]
           exact pl _ _ hd
         · rename_i hq
           try simp only[hq]
           split at hd
           · rename_i hr
             try simp only[hr]
             split at hd
             · rename_i hn
               try simp only[hn]
               exact pl _ _ hd
             · simp at hd
           · simp at hd
     · rename_i DD
       rw[if_neg DD]
       exact pl _ _ hd
theorem BU {call:bm} {i:Nat} {o:Oper} (ho:ops[i]? =some o) (he:gP E o.op=true) {v:AV}:
 ∀(l:List Nat) (k:Nat) (s:St) {tr:List Step} {hs:List aw} {s1:St} {h':aw} (_:dm E call ops l k s= .ok tr hs s1) (_:cO ops s1.ts o=true) (_:dL E call s1.ts s1.h s1.rc o= .panic v h'),
  ∃why q,dm E call ops (l++[i]) k s= .fail why q
 | [],k,s,tr,hs,s1,h',hd,hw,hv=>by
   simp [dm] at hd;obtain ⟨rfl,rfl,rfl⟩:=hd
   simp only[List.nil_append,dm,ho,he,if_true,hw,hv]
   exact ⟨_,_,rfl⟩
 | j::l,k,s,tr,hs,s1,h',hd,hw,hv=>by
   rw[List.cons_append]
   simp only[dm] at hd ⊢
   cases hoj:ops[j]? with
   | none=>rw[hoj] at hd;simp at hd
   | some oj=>
   rw[hoj] at hd
   simp only at hd ⊢
   have wr:∀(x:Step) (s0:St),((dm E call ops l (k+1) s0).bound s.h).step x= .ok tr hs s1→∃why q,((dm E call ops (l++[i]) (k+1) s0).bound s.h).step x= .fail why q:=by
    intro x s0 hd
    cases hr:dm E call ops l (k+1) s0 with
    | fail why q=>rw[hr] at hd;simp [lq.bound,lq.step] at hd
    | ok Ro vb s2=>
      rw[hr] at hd;simp [lq.bound,lq.step] at hd;obtain ⟨rfl,rfl,rfl⟩:=hd
      obtain ⟨why,q,e⟩:=BU ho he l (k+1) s0 hr hw hv
      rw[e];exact ⟨_,_,rfl⟩
   have pl:∀(x:Step) (s0:St),(dm E call ops l k s0).step x= .ok tr hs s1→∃why q,(dm E call ops (l++[i]) k s0).step x= .fail why q:=by
    intro x s0 hd
    cases hr:dm E call ops l k s0 with
    | fail why q=>rw[hr] at hd;simp [lq.step] at hd
    | ok Ro vb s2=>
      rw[hr] at hd;simp [lq.step] at hd;obtain ⟨rfl,rfl,rfl⟩:=hd
      obtain ⟨why,q,e⟩:=BU ho he l k s0 hr hw hv
      rw[e];exact ⟨_,_,rfl⟩
   split at hd
   · rename_i he1
     rw[if_pos he1]
     split at hd
     · rename_i DD
       rw[if_pos DD]
       split at hd
       · rename_i VP
         try simp only[VP]
         exact wr _ _ hd
       · simp at hd
       · simp at hd
     · rename_i DD
       rw[if_neg DD]
       exact wr _ _ hd
   · rename_i he1
     rw[if_neg he1]
     split at hd
     · rename_i DD
       rw[if_pos DD]
       split at hd
       · rename_i hp
         try simp only[hp]
         exact pl _ _ hd
       · rename_i hp
         try simp only[hp]
         split at hd
         · rename_i hq
           try simp only[hq]
           exact pl _ _ hd
         · rename_i hq
           try simp only[hq]
           split at hd
           · rename_i hr
             try simp only[hr]
             split at hd
             · rename_i hn
               try simp only[hn]
               exact pl _ _ hd
             · simp at hd
           · simp at hd
     · rename_i DD
       rw[if_neg DD]
       exact pl _ _ hd
end
theorem EY {call:bm} {ops:Array Oper} {pl:nL} {s s':St} {tr:List Step} {s7 st:List aw} (r:J4 E call ops pl s s' tr s7 st)
 {φ:Ph} {a:Act} {w:World} (VM:LR φ s.ts a.tmps.toList) (ok:OK E φ s.h w):Inv E ops pl s tr s7 st φ w a.defers [] (Array.replicate ops.size false) 0 φ a {w with drawn:=w.drawn+1}:=by
 have Mz:OK E φ s.h {w with drawn:=w.drawn+1}:=⟨ok.Dz,ok.nx,ok.yu,ok.live,ok.inj⟩
 have fr1:Fr φ s.h w φ s.h {w with drawn:=w.drawn+1}:=⟨Ph.le_refl φ,fun _ _=>rfl,Nat.le_refl _,rfl,rfl,rfl,Nat.le_refl _,fun _ _ _=>rfl,fun i o l a b c=> .inr ⟨i,o,l,a,b,c,rfl⟩⟩
 have hlen:0<s7.length:=by have:=r.trace.len;omega
 have h0:s7[0]? =some s7[0]:=by simp [hlen]
 have g:=r.trace.grown 0 s.h _ r.trace.first h0
 obtain ⟨EV,fr2⟩:=Mz.grown g
 refine ⟨.nil,fun i hi=>by simp at hi,fun i hi=>by simp [hi],fun i hi=>by simp at hi,fun q e hq=>by simp,by omega,by simpa [qH] using VM,rfl,⟨_,h0,EV,fr1.trans fr2⟩,fun x hx n obj hk _ hk0=>?_⟩
 obtain ⟨q,hq⟩:=List.getElem?_of_mem hx
 obtain ⟨_,_,_,hky,oy,hoy,_,_⟩:=r.at hq
 obtain ⟨_,_,oy',ajP,ajQ,ajR,HC,HD,Pr⟩:=r.trace.step q x hq
 rw[←hky] at HC HD
 have J2:x.k=0:=by omega
 rw[J2] at HC HD
 rw[r.trace.first] at HD;simp at HD;subst HD
 unfold z5 at Pr
 rw[hk] at Pr
 obtain ⟨_,_,_,hn1,hn2⟩:=Pr
 refine ⟨?_,hn1,fun hK e=>?_⟩
 · cases hφ:φ n with
   | none=>rfl
   | some l=>have:=ok.Dz n l hφ;omega
 · rw[e] at HC;simp at HC;subst HC;exact hn2
theorem MA (hE:l6 E) (ajX:E.P.follows .mixedOrders=true) {call:bm} (dY:ju E call) {ops:Array Oper} {s s':St} {e:lY} (h:zL E call ops s= .ok e s')
 {φ:Ph} {a:Act} {w:World} {b:Frame} {k:List Item} {K:Bool→List Frame} (hs:SR φ s.ts s.ds a) (ok:OK E φ s.h w) (iv:o8 φ b K s.rc) (id:Nat):
 s'.rc=s.rc∧s'.ds=s.ds∧((e= .normal∧∃φ' a' w',LR φ' s'.ts a'.tmps.toList∧a'.defers=a.defers∧OK E φ' s'.h w'∧Fr φ s.h w φ' s'.h w'∧
  Steps E.P (lone (b.atR a (.code (.region id ops true)::k)) (cur K s.rc) w) (lone (b.atR a' k) (cur K s.rc) w'))∨
  ∃v,e= .panic v∧J6 E φ s.h w a.defers b (cur K s.rc) v s' (lone (b.atR a (.code (.region id ops true)::k)) (cur K s.rc) w)):=by
 have ag4:Region.schedule (E.P.follows .mixedOrders) ops (w.tape w.drawn (.order b.fn id))=Region.linearise.go .any ops ops.size (w.tape w.drawn (.order b.fn id)) (Array.replicate ops.size false) []:=by
  rw[ajX];rfl
 unfold zL at h
 split at h
 · simp at h
 rename_i pl Tj
 split at h
 · rename_i tr s7 s1 hd
   split at h
   · rename_i hl
     simp at h;obtain ⟨rfl,rfl⟩:=h
     obtain ⟨st,r⟩:=VU Tj hd hl
     refine ⟨r.trace.rc,r.trace.ds,.inl ⟨rfl,?_⟩⟩
     obtain ⟨φ',a',w',x1,x2,x3,x4,x5⟩:=(My hE dY r iv (b:=b) (k:=k) ops.size (w.tape w.drawn (.order b.fn id)) (EY r hs.ts ok) (by simp)).is
     refine ⟨φ',a',w',x1,x2,x3,x4,.head stepR_region_draw ?_⟩
     rw[ag4]
     exact x5
   · simp at h
 · split at h
   · rename_i v s2 hp
     simp at h;obtain ⟨rfl,rfl⟩:=h
     unfold Ep at hp
     split at hp
     · simp at hp
     rename_i i front aan
     split at hp
     · rename_i tr s7 s1 dst c ty pos after guard hd ho
       split at hp
       · rename_i OV
         split at hp
         · rename_i v1 h1 VP
           split at hp
           · rename_i hl
             simp at hp;obtain ⟨rfl,rfl⟩:=hp
             simp only[Bool.and_eq_true,List.all_eq_true,List.mem_range,Bool.or_eq_true,beq_iff_eq] at OV
             obtain ⟨⟨he,hw⟩,Mw⟩:=OV
             have VL:pl.order=front.reverse++[i]:=by
              have:=congrArg List.reverse aan
              simpa using this
             have hd2:=yE (IF:=EX call) (fun e=>VS e) ho he front.reverse 0 s hd hw (VT VP)
             rw[←VL] at hd2
             rw[Nat.zero_add] at hd2
             obtain ⟨st,r⟩:=VU Tj hd2 hl
             obtain ⟨Tt,t1⟩:=pY hd
             have ag5:s1.rc=s.rc:=t1.rc
             refine ⟨ag5,t1.ds,.inr ⟨_,rfl,?_⟩⟩
             have hlen:1≤s7.length:=by have:=t1.len;omega
             have Mx:(s7++[h1])[s7.length - 1]? =some s1.h:=by
              rw[List.getElem?_append_left (by omega)]
              have:=t1.last
              rw[show s7.length - 1=sR E ops front.reverse by have:=t1.len;omega];exact this
             have ID:∀(x:Step) (o:Oper) (hk h':aw),x∈tr++[⟨i,s7.length - 1,s1.ts,AV.undef,.xw h1⟩]→x.i≠i→ops[x.i]? =some o→(s7++[h1])[x.k]? =some hk→x.kind= .xw h'→dL E call x.ts hk s.rc o= .val x.v h':=by
              intro x o hk h' hx Ts Mu CV EI
              have hx':x∈tr:=by
               simp at hx;rcases hx with h | h
               · exact h
               · exact absurd (by rw[h]) Ts
              obtain ⟨p,hp⟩:=List.getElem?_of_mem hx'
              obtain ⟨_,hk0,o',hk1,sk1,ho2,ad6,hsk,kB⟩:=t1.step p x hp
              rw[Mu] at ho2;simp at ho2;subst ho2
              rw[Nat.zero_add] at hk0
              rw[←hk0] at ad6
              have nN:x.k<s7.length:=(List.getElem?_eq_some_iff.1 ad6).1
              rw[List.getElem?_append_left nN,ad6] at CV
              simp at CV;subst CV
              unfold z5 at kB;rw[EI] at kB;exact kB.2.2.1
             have ajY:=(IE hE dY r (xl:=⟨i,s7.length - 1,s1.ts,AV.undef,.xw h1⟩) (by simp) (ol:=⟨dst,.call c,ty,pos,after,guard⟩) ho rfl (fun j hj fH=>(Mw j hj).resolve_left fH) he hw Mx (by rw[←ag5];exact VP) ID
              (s2:={s1 with h:=h1}) rfl rfl iv (b:=b) (k:=k) ops.size (w.tape w.drawn (.order b.fn id)) (EY r hs.ts ok) (by simp) (by simp)).is
             obtain ⟨φ',a',w',v',todo,x0,x1,x2,x3,x4,x5⟩:=ajY
             refine ⟨φ',a',w',v',todo,x0,x1,x2,x3,x4,.head stepR_region_draw ?_⟩
             rw[ag4]
             exact x5
           · simp at hp
         · simp at hp
       · simp at hp
     · simp at hp
   · simp at h
end Go.Ab
end
section
namespace Go.Ab
variable {E:Env}
def MB (P:Program) (m:Machine) (b:Frame) (k:List Item) (cs:List Frame):Exit→Act→World→Prop
 | .normal,a,w=>Steps P m (lone (b.atR a k) cs w)
 | .exit id,a,w=>∃todo,exitTo id todo=exitTo id k∧Steps P m (lone (b.atR a (.code (.exit id)::todo)) cs w)
 | .ret,a,w=>∃todo,Steps P m (lone (b.atR a (.code .ret::todo)) cs w)
 | .panic chain,a,w=>∃todo,Steps P m (lone {b.atR a todo with mode:= .panicking chain} cs w)
 | _,_,_=>False
theorem MB.of_steps {P:Program} {m m':Machine} {b:Frame} {k:List Item} {cs:List Frame} {e:Exit} {a:Act} {w:World} (hs:Steps P m m') (h:MB P m' b k cs e a w):MB P m b k cs e a w:=by
 cases e with
 | normal=>exact Steps.trans hs h
 | exit id=>obtain ⟨t,h1,h2⟩:=h;exact ⟨t,h1,Steps.trans hs h2⟩
 | ret=>obtain ⟨t,h2⟩:=h;exact ⟨t,Steps.trans hs h2⟩
 | panic c=>obtain ⟨t,h2⟩:=h;exact ⟨t,Steps.trans hs h2⟩
 | goto l=>exact h.elim
 | outgrown=>exact h.elim
theorem MB.pass {P:Program} {m:Machine} {b:Frame} {x:Item} {k:List Item} {cs:List Frame} {e:Exit} {a:Act} {w:World} (hx:∀id,exitTo id (x::k)=exitTo id k) (hn:e≠ .normal) (h:MB P m b (x::k) cs e a w):MB P m b k cs e a w:=by
 cases e with
 | normal=>exact absurd rfl hn
 | exit id=>obtain ⟨t,h1,h2⟩:=h;exact ⟨t,h1.trans (hx id),h2⟩
 | ret=>exact h
 | panic c=>exact h
 | goto l=>exact h.elim
 | outgrown=>exact h.elim
structure rV (E:Env) (φ:Ph) (h:aw) (w:World) (b:Frame) (K:Bool→List Frame) (k:List Item) (m:Machine) (e:lY) (s':St):Prop where
 is:∃φ' w' a' e',ExR φ' e e'∧SR φ' s'.ts s'.ds a'∧OK E φ' s'.h w'∧Fr φ h w φ' s'.h w'∧o8 φ' b K s'.rc∧MB E.P m b k (cur K s'.rc) e' a' w'
theorem rV.of_steps {φ:Ph} {h:aw} {w:World} {b:Frame} {K:Bool→List Frame} {k:List Item} {m m':Machine} {e:lY} {s':St} (hs:Steps E.P m m') (x:rV E φ h w b K k m' e s'):rV E φ h w b K k m e s':=by
 obtain ⟨φ',w',a',e',h1,h2,h3,h4,h5,h6⟩:=x.is
 exact ⟨φ',w',a',e',h1,h2,h3,h4,h5,.of_steps hs h6⟩
theorem rV.later {φ φ₁:Ph} {h h₁:aw} {w w₁:World} {b:Frame} {K:Bool→List Frame} {k:List Item} {m:Machine} {e:lY} {s':St} (f:Fr φ h w φ₁ h₁ w₁) (x:rV E φ₁ h₁ w₁ b K k m e s'):rV E φ h w b K k m e s':=by
 obtain ⟨φ',w',a',e',h1,h2,h3,h4,h5,h6⟩:=x.is
 exact ⟨φ',w',a',e',h1,h2,h3,f.trans h4,h5,h6⟩
theorem OK.made {φ:Ph} {h h':aw} {w:World} (ok:OK E φ h w) {o:aH} {O:Obj} (hn:h.new o=some h') (ho:OR E (φ.add h.nx ⟨w.heap.size,0,0⟩) o ⟨w.heap.size,0,0⟩ (some O)):
 OK E (φ.add h.nx ⟨w.heap.size,0,0⟩) h' (w.alloc O)∧Fr φ h w (φ.add h.nx ⟨w.heap.size,0,0⟩) h' (w.alloc O)∧φ.le (φ.add h.nx ⟨w.heap.size,0,0⟩):=
 ok.fresh (w':=w.alloc O) hn ⟨w.heap.size,0,0⟩ (by rw[show (w.alloc O).heap=w.heap.push O from rfl];simpa using ho)
  (fun c fH hc=>by rw[show (w.alloc O).heap=w.heap.push O from rfl,Array.getElem?_push,if_neg (by simpa using fH)]) (by simp) (Nat.le_refl _) rfl rfl rfl
theorem OK.ad7 {φ:Ph} {h:aw} {w:World} (ok:OK E φ h w) {i:Nat} {o o':aH} {l:Loc} (hg:h.get i=some o) (L5:o.rw=true) (hl:φ i=some l) {O:Obj} (ho:OR E φ o' l (some O)):
 OK E φ (h.put i (some o')) (w.putObj l.iw O)∧Fr φ h w φ (h.put i (some o')) (w.putObj l.iw O):=by
 have nN:l.iw<w.heap.size:=by
  rcases Nat.lt_or_ge l.iw w.heap.size with h1 | h1
  · exact h1
  · have:=ok.live i o l hg hl
    rw[Array.getElem?_eq_none h1] at this
    exact this.absurd.elim
 exact ok.change hg L5 hl (by rw[World.putObj_heap_same nN];exact ho) (fun c hc=>World.putObj_heap_other hc) World.putObj_size rfl rfl rfl
theorem OK.ajZ {φ:Ph} {h:aw} {w:World} (ok:OK E φ h w) {i:Nat} {o:aH} {l:Loc} (hg:h.get i=some o) (L5:o.rw=true) (hl:φ i=some l) (O:Obj):
 OK E φ (h.put i none) (w.putObj l.iw O)∧Fr φ h w φ (h.put i none) (w.putObj l.iw O):=by
 have ie:∀j p,(h.put i none).get j=some p→h.get j=some p∧j≠i:=fun j p hj=>by
  by_cases e:i=j
  · subst e;rw[aw.dG] at hj;simp at hj
  · rw[aw.cj e] at hj;exact ⟨hj,Ne.symm e⟩
 refine ⟨⟨ok.Dz,ok.nx,ok.yu,fun j p m hj hm=>?_,fun j k p q m n hj hk=>ok.inj j k p q m n (ie j p hj).1 (ie k q hk).1⟩,
  ⟨Ph.le_refl φ,fun _ _=>rfl,Nat.le_refl _,rfl,rfl,rfl,by simp,fun b _ hn=>World.putObj_heap_other (fun e=>hn i o l hg L5 hl e.symm),fun j p m hj hr hm=> .inr ⟨j,p,m,(ie j p hj).1,hr,hm,rfl⟩⟩⟩
 obtain ⟨rO,fH⟩:=ie j p hj
 rw[World.putObj_heap_other (fun e=>fH (ok.inj j i p o m l rO hg hm hl (.inr L5) e))]
 exact ok.live j p m rO hm
theorem MC {s:St} {dn:Nat} {h1:aw} {ds1:List sX} (ho:Vj s=some (dn,h1,ds1)) {φ:Ph} {a:Act} {w:World} {b:Frame} {K:Bool→List Frame} (hs:SR φ s.ts s.ds a) (ok:OK E φ s.h w) (iv:o8 φ b K s.rc)
 (ps:Array Tmp) (as bd:Code):∃φ1 w1 ld mark,φ.le φ1∧OK E φ1 h1 w1∧Fr φ s.h w φ1 h1 w1∧φ1 dn=some ld∧SR φ1 s.ts ds1 {a with defers:=mark++a.defers}∧
  (Instr.enterLoop b.fn a.tmps ps as bd b.roundOf).run E.P w= .ok (w1.heap.size,mark) (w1.alloc (.loop {state:= .ready,pending:=none,fn:=b.fn,tmps:=a.tmps,params:=ps,assign:=as,body:=bd,defers:=ld.iw})):=by
 unfold Vj at ho
 split at ho
 · rename_i l hl
   split at ho
   · rename_i st pd ts uQ zF bd' dn' hg
     simp at ho;obtain ⟨rfl,rfl,rfl⟩:=ho
     rw[hl] at iv
     obtain ⟨ll,hφ,VI⟩:=iv
     obtain ⟨_,r,hr,BW⟩:=ok.live _ _ _ hg hφ
     obtain ⟨ld,hd1,hd2⟩:=BW.defers
     refine ⟨φ,w,ld,[],Ph.le_refl φ,ok,Fr.refl _ _ _,hd1,⟨hs.ts,hs.ds⟩,?_⟩
     rw[VI,run_enterLoop_inner hr,hd2]
   · simp at ho
 · rename_i Hq
   split at ho
   · rename_i h1' hn
     simp at ho;obtain ⟨rfl,rfl,rfl⟩:=ho
     obtain ⟨Mz,fr1,hle⟩:=ok.made (O:= .deferred (some [])) hn ⟨rfl,rfl⟩
     have iP:(φ.add s.h.nx ⟨w.heap.size,0,0⟩) s.h.nx=some ⟨w.heap.size,0,0⟩:=by simp [Ph.add]
     refine ⟨_,_,⟨w.heap.size,0,0⟩,[{target:= .collected w.heap.size,args:= #[]}],hle,Mz,fr1,iP,⟨hs.ts.mono hle,⟨_,iP,rfl⟩,hs.ds.mono hle⟩,?_⟩
     rw[iv.plain (EN Hq),run_enterLoop_outer]
     simp
   · simp at ho
theorem VW {c:Code} {e:lY} (h:Rg (some c)=some e):(∃id,c= .exit id∧e= .exit id)∨(c= .ret∧e= .ret):=by
 cases c<;>simp [Rg] at h
 · exact .inl ⟨_,rfl,h.symm⟩
 · exact .inr ⟨rfl,h.symm⟩
theorem J7 {call:bm} (dY:ju E call) {f:Operand} {ps:Array Tmp} {as bd:Code} {s s':St} {e:lY} (h:o5 E call f ps as bd s= .ok e s')
 {φ:Ph} {a:Act} {w:World} {b:Frame} {k:List Item} {K:Bool→List Frame} (hs:SR φ s.ts s.ds a) (ok:OK E φ s.h w) (iv:o8 φ b K s.rc) (L6:(E.P.funcs[b.fn]?).isSome=true):
 rV E φ s.h w b K k (lone (b.atR a (.code (.rangeFunc f ps as bd)::k)) (cur K s.rc) w) e s':=by
 unfold o5 at h
 split at h
 · rename_i g first captured hf
   split at h
   · rename_i dn h1 ds1 ho
     split at h
     · rename_i h2 hn
       have hfv:=o6 ok.gl hs.ts hf
       generalize mD:a.eval f=cv at hfv
       obtain ⟨fs',j4,rfl,hfs,hcs⟩:=hfv.Et
       obtain ⟨φ1,w1,ld,mark,ag7,Mz,fr1,hld,vb,BL⟩:=MC ho hs ok iv ps as bd
       obtain ⟨EV,fr2,aao⟩:=Mz.made (O:= .loop {state:= .ready,pending:=none,fn:=b.fn,tmps:=a.tmps,params:=ps,assign:=as,body:=bd,defers:=ld.iw}) hn
        ⟨rfl,_,rfl,⟨rfl,rfl,hs.ts.mono (Ph.le_trans ag7 (fun j m hm=>by
         unfold Ph.add;split
         · rename_i e;subst e;exact absurd (Mz.Dz _ _ hm) (Nat.lt_irrefl _)
         · exact hm)),rfl,rfl,rfl,⟨ld,by
         unfold Ph.add;split
         · rename_i e;subst e;exact absurd (Mz.Dz _ _ hld) (Nat.lt_irrefl _)
         · exact hld,rfl⟩,L6⟩⟩
       have hle:=Ph.le_trans ag7 aao
       have iP:(φ1.add h1.nx ⟨w1.heap.size,0,0⟩) h1.nx=some ⟨w1.heap.size,0,0⟩:=by simp [Ph.add]
       generalize hφ2:φ1.add h1.nx ⟨w1.heap.size,0,0⟩=φ2 at EV fr2 aao hle iP
       have hl:LR φ2 (first++[.vd h1.nx]++captured) (fs'.toList++[.func (.yield w1.heap.size) #[] #[]]++j4.toList):=
        ((hfs.mono hle).append (.cons (.yield iP) (.nil φ2))).append (hcs.mono hle)
       have HE:∀w',(resolve a.eval (rangeCall f w1.heap.size) 0).run E.P w'= .ok {target:= .fn (.func g) j4,args:=fs'++ #[.func (.yield w1.heap.size) #[] #[]]} w':=fun w'=>by
        have aj0:a.eval (.const (.func (.yield w1.heap.size) #[] #[]))= .func (.yield w1.heap.size) #[] #[]:=rfl
        simp [resolve,Deferred.ofValue,mD,aj0]
       have start:∀n st,pX E φ2 (w1.alloc (.loop {state:= .ready,pending:=none,fn:=b.fn,tmps:=a.tmps,params:=ps,assign:=as,body:=bd,defers:=ld.iw})) (.fn g) (fs'.toList++[.func (.yield w1.heap.size) #[] #[]]++j4.toList) n st→
        step E.P (lone (b.atR a (.code (.rangeFunc f ps as bd)::k)) (cur K s.rc) w)= .next (lone st (b.atR {a with defers:=mark++a.defers} (.inRangeFunc w1.heap.size::k)::cur K s.rc)
         (w1.alloc (.loop {state:= .ready,pending:=none,fn:=b.fn,tmps:=a.tmps,params:=ps,assign:=as,body:=bd,defers:=ld.iw}))):=fun n st hp=>by
        cases hp with
        | fn _ _ hr=>
          have hinv:(invoke (Target.fn (.func g) j4) (fs'++ #[.func (.yield w1.heap.size) #[] #[]])).run E.P (w1.alloc (.loop {state:= .ready,pending:=none,fn:=b.fn,tmps:=a.tmps,params:=ps,assign:=as,body:=bd,defers:=ld.iw}))=
           .ok (.enter g (fs'.toList++[Value.func (.yield w1.heap.size) #[] #[]]++j4.toList).toArray) (w1.alloc (.loop {state:= .ready,pending:=none,fn:=b.fn,tmps:=a.tmps,params:=ps,assign:=as,body:=bd,defers:=ld.iw})):=by
           have e:(fs'.toList++[Value.func (.yield w1.heap.size) #[] #[]]++j4.toList).toArray=fs'++ #[Value.func (.yield w1.heap.size) #[] #[]]++j4:=by
            apply Array.toList_inj.1;simp
           rw[e] at hr ⊢
           simpa [invoke] using hr
          exact stepR_rangeFunc BL (HE _) hinv
       split at h
       ·
        rename_i v h3 hc
        obtain ⟨n,st,hp,jf⟩:=dY.ret _ _ _ _ _ hc φ2 _ _ EV trivial hl
        obtain ⟨φ3,w3,v',_,ok3,ZT,kB⟩:=jf (b.atR {a with defers:=mark++a.defers} (.inRangeFunc w1.heap.size::k)) (cur K s.rc)
        rw[finish_atR_inRangeFunc] at kB
        split at h
        · simp at h
        · rename_i Rr j5 nM uQ zF bd' dn' Hq hg
          split at h
          · rename_i e1 hj
            simp at h;obtain ⟨rfl,rfl⟩:=h
            have hl3:=ZT.ext _ _ iP
            obtain ⟨_,r,hr,BW⟩:=ok3.live _ _ _ hg hl3
            have ag8:r.state≠ .busy:=by rw[BW.state];intro e;subst e;exact Hq rfl
            obtain ⟨ok4,fr4⟩:=ok3.ad7 (o':= .loop .exhausted j5 nM uQ zF bd' dn') hg rfl hl3 (O:= .loop {r with state:= .exhausted}) ⟨rfl,_,rfl,⟨rfl,BW.pending,BW.tmps,BW.params,BW.assign,BW.body,BW.defers,BW.fn⟩⟩
            obtain ⟨W4,hW4⟩:∃W4,W4=w3.putObj w1.heap.size (.loop {r with state:= .exhausted}):=⟨_,rfl⟩
            have ok4:OK E φ3 (h3.put h1.nx (some (.loop .exhausted j5 nM uQ zF bd' dn'))) W4:=by rw[hW4];exact ok4
            have fr4:Fr φ3 h3 w3 φ3 (h3.put h1.nx (some (.loop .exhausted j5 nM uQ zF bd' dn'))) W4:=by rw[hW4];exact fr4
            have ag9:=stepR_endRangeFunc (P:=E.P) (b:=b) (a:={a with defers:=mark++a.defers}) (k:=k) (cs:=cur K s.rc) (run_endLoop hr ag8)
            rw[←hW4] at ag9
            have uS:=((fr1.trans fr2).trans ZT).trans fr4
            have kp:=Steps.trans (.head (start n st hp) kB) (.one ag9)
            rw[BW.pending] at kp
            have ad8:=Ph.le_trans aao ZT.ext
            have VX:=Ph.le_trans hle ZT.ext
            cases j5 with
            | none=>
              simp [Rg] at hj;subst hj
              exact ⟨φ3,_,_,_,.normal,vb.mono ad8,ok4,uS,iv.mono VX,kp⟩
            | some c=>
              rcases VW hj with ⟨id,rfl,rfl⟩ | ⟨rfl,rfl⟩
              · exact ⟨φ3,_,_,_,.exit id,vb.mono ad8,ok4,uS,iv.mono VX,k,rfl,kp⟩
              · exact ⟨φ3,_,_,_,.ret,vb.mono ad8,ok4,uS,iv.mono VX,k,kp⟩
          · simp at h
        · simp at h
       ·
        rename_i v h3 hc
        simp at h;obtain ⟨rfl,rfl⟩:=h
        obtain ⟨n,st,hp,jf⟩:=dY.panic _ _ _ _ _ hc φ2 _ _ EV trivial hl
        obtain ⟨φ3,w3,v',hv,ok3,ZT,kB⟩:=jf (b.atR {a with defers:=mark++a.defers} (.inRangeFunc w1.heap.size::k)) (cur K s.rc)
        rw[Frame.raise_atR] at kB
        exact ⟨φ3,w3,_,_,.panic v v' hv,vb.mono (Ph.le_trans aao ZT.ext),ok3,(fr1.trans fr2).trans ZT,iv.mono (Ph.le_trans hle ZT.ext),_,.head (start n st hp) kB⟩
       · simp at h
     · simp at h
   · simp at h
 · simp at h
end Go.Ab
end
