import Derived.Orders
import Derived.Test.YtemlmndojncekaaGreatA2
set_option linter.unusedVariables false
set_option linter.unusedSimpArgs false
section
namespace Go.Ab
variable {E:Env}
theorem oX {α:Type} {f:α→α→Bool} (hf:∀x y,f x y=true→x=y):∀{l r:List α} (_:eD f l r=true),l=r
 | [],[],_=>rfl
 | [],_::_,h=>by simp [eD] at h
 | _::_,[],h=>by simp [eD] at h
 | x::xs,y::ys,h=>by
   simp only[eD,Bool.and_eq_true] at h
   rw[hf x y h.1,oX hf h.2]
theorem AV.A1:∀(n:Nat) (x y:AV),AV.same n x y=true→x=y
 | 0,_,_,h=>by simp [AV.same] at h
 | n+1,x,y,h=>by
   have ih:=AV.A1 n
   cases x<;>cases y<;>simp [AV.same] at h<;>try rfl
   all_goals first
    | (subst h;rfl)
    | (obtain ⟨rfl,rfl⟩:=h;rfl)
    | (obtain ⟨⟨⟨⟨rfl,rfl⟩,rfl⟩,rfl⟩,rfl⟩:=h;rfl)
    | (obtain ⟨⟨rfl,h1⟩,h2⟩:=h;rw[oX ih h1,oX ih h2])
    | (obtain ⟨rfl,h1⟩:=h;rw[ih _ _ h1])
    | (rw[oX ih h])
theorem aM.A1 {x y:aM} (h:aM.same x y=true):x=y:=by
 unfold aM.same at h
 split at h
 · simp only[Bool.and_eq_true,beq_iff_eq] at h
   obtain ⟨⟨h1,rfl⟩,rfl⟩:=h
   rw[oX (AV.A1 20) h1]
 · simp at h;subst h;rfl
 · simp at h;obtain ⟨rfl,rfl⟩:=h;rfl
 · simp at h
theorem zB:∀{l:List Nat} (_:nodup l=true),l.Nodup
 | [],_=> .nil
 | x::xs,h=>by
   simp only[nodup,Bool.and_eq_true,Bool.not_eq_true',List.contains_eq_mem,decide_eq_false_iff_not] at h
   exact List.nodup_cons.2 ⟨h.1,zB h.2⟩
theorem FV:∀(n:Nat) (l:List Nat) (_:l.Nodup) (_:∀x∈l,x<n),l.length≤n
 | 0,l,_,h=>by
   cases l with
   | nil=>simp
   | cons x _=>have:=h x (by simp);omega
 | n+1,l,hn,h=>by
   have h1:=FV n (l.erase n) (hn.erase n) (fun x hx=>by
    have h2:=h x (List.mem_of_mem_erase hx)
    have h3:x≠n:=(hn.mem_erase_iff.1 hx).1
    omega)
   rw[List.length_erase] at h1
   split at h1<;>omega
structure FW (E:Env) (ops:Array Oper) (pl:n8):Prop where
 lt:∀i o j,ops[i]? =some o→eN pl.an i j=true→j<i
 direct:∀i o e,ops[i]? =some o→e∈mz o→e<i∧eN pl.an i e=true
 closed:∀i o j,ops[i]? =some o→eN pl.an i j=true→∃e∈mz o,e=j∨eN pl.an e j=true
 guard:∀i o g want,ops[i]? =some o→o.guard=some (g,want)→eN pl.an i g=true
 slot:∀i j o p d,i≠j→ops[i]? =some o→ops[j]? =some p→p.dst=some d→o.dst≠some d∧(d∈tmpsOf o→eN pl.an i j=true∨eN pl.an j i=true)
 chain:∀q e f,pl.bQ[q]? =some e→pl.bQ[q+1]? =some f→eN pl.an f e=true
 bQ:pl.bQ=py E ops.toList
 nd:pl.bQ.Nodup
 order:mA E ops pl.an pl.bQ pl.order [] 0=true
theorem xW {ops:Array Oper} {i:Nat} {o:Oper} (h:ops[i]? =some o):(o,i)∈ops.toList.zipIdx:=by
 rw[List.mk_mem_zipIdx_iff_getElem?];simpa using h
theorem A2 {an:List (List Nat)}:∀{l:List Nat} (_:xR an l=true) (q e f:Nat),l[q]? =some e→l[q+1]? =some f→eN an f e=true
 | [],_,q,e,f,h,_=>by simp at h
 | [x],_,q,e,f,h,h'=>by simp at h'
 | x::y::l,hc,q,e,f,h,h'=>by
   simp only[xR,Bool.and_eq_true] at hc
   cases q with
   | zero=>simp at h h';subst h;subst h';exact hc.1
   | succ q=>exact A2 hc.2 q e f (by simpa using h) (by simpa using h')
theorem Nj {ops:Array Oper} {pl:n8} (h:vV E ops=some pl):FW E ops pl:=by
 unfold vV at h
 simp only at h
 split at h
 · rename_i hc
   simp at h;subst h
   simp only[Bool.and_eq_true] at hc
   obtain ⟨⟨⟨⟨he,hs⟩,hch⟩,rq⟩,XD⟩:=hc
   have P2:=List.all_eq_true.1 he
   have tM:=List.all_eq_true.1 hs
   refine ⟨fun i o j ho hj=>?_,fun i o e ho hm=>?_,fun i o j ho hj=>?_,fun i o g want ho hg=>?_,fun i j o p d f' ho hp hd=>?_,A2 hch,rfl,zB rq,XD⟩
   · have:=P2 _ (xW ho)
     simp only[Bool.and_eq_true] at this
     have h2:=List.all_eq_true.1 this.2 j (by simpa [eN] using hj)
     simp only[Bool.and_eq_true,decide_eq_true_eq] at h2
     exact h2.1
   · have:=P2 _ (xW ho)
     simp only[Bool.and_eq_true] at this
     have h2:=List.all_eq_true.1 this.1 e hm
     simpa using h2
   · have:=P2 _ (xW ho)
     simp only[Bool.and_eq_true] at this
     have h2:=List.all_eq_true.1 this.2 j (by simpa [eN] using hj)
     simp only[Bool.and_eq_true,List.any_eq_true,Bool.or_eq_true,beq_iff_eq] at h2
     exact h2.2
   · have:=tM _ (xW ho)
     simp only[Bool.and_eq_true,hg] at this
     exact this.1.1
   · have:=tM _ (xW ho)
     simp only[Bool.and_eq_true] at this
     have h2:=List.all_eq_true.1 this.2 _ (xW hp)
     simp only[Bool.or_eq_true,beq_iff_eq,f',false_or,hd,Bool.and_eq_true,bne_iff_ne,Bool.not_eq_true',List.contains_eq_mem,decide_eq_false_iff_not] at h2
     exact ⟨h2.1,fun hm=>(h2.2.imp_left (fun x=>x.resolve_left (fun hn=>hn hm)))⟩
 · simp at h
def tC (E:Env) (ops:Array Oper) (l:List Nat):Nat:=(l.filter fun i=>gY E ((ops.getD i default).op)).length
theorem KH {ops:Array Oper} {i:Nat} (l:List Nat) (h:gY E ((ops.getD i default).op)=true):tC E ops (i::l)=tC E ops l+1:=by
 unfold tC;rw[List.filter_cons_of_pos (p:=fun i=>gY E ((ops.getD i default).op)) h];rfl
theorem KI {ops:Array Oper} {i:Nat} (l:List Nat) (h:¬gY E ((ops.getD i default).op)=true):tC E ops (i::l)=tC E ops l:=by
 unfold tC;rw[List.filter_cons_of_neg (p:=fun i=>gY E ((ops.getD i default).op)) h]
theorem j7 {ops:Array Oper} {an:List (List Nat)} {bQ:List Nat}:∀{l seen:List Nat} {k:Nat} (_:mA E ops an bQ l seen k=true),
 (∀p i,l[p]? =some i→i<ops.size∧i ∉ seen∧i ∉ l.take p∧(∀j,eN an i j=true→j∈seen∨j∈l.take p)∧
  (gY E ((ops.getD i default).op)=true→bQ[k+tC E ops (l.take p)]? =some i)∧(gY E ((ops.getD i default).op)=false→Kt bQ an i=k+tC E ops (l.take p)))∧
 (∀i,i<ops.size→i∈seen∨i∈l)∧k+tC E ops l=bQ.length
 | [],seen,k,h=>by
   simp only[mA,Bool.and_eq_true,List.all_eq_true,List.mem_range,beq_iff_eq] at h
   exact ⟨fun p i hp=>by simp at hp,fun i hi=> .inl (by simpa using h.1 i hi),by simpa [tC] using h.2⟩
 | i::l,seen,k,h=>by
   simp only[mA,Bool.and_eq_true,decide_eq_true_eq,Bool.not_eq_true',List.contains_eq_mem,decide_eq_false_iff_not] at h
   obtain ⟨⟨⟨oa,hns⟩,afM⟩,qz⟩:=h
   have aeu:∀j,eN an i j=true→j∈seen:=fun j hj=>by
    have:=List.all_eq_true.1 afM j (by simpa [eN] using hj)
    simpa using this
   by_cases he:gY E ((ops.getD i default).op)=true
   · simp only[he,if_true,Bool.and_eq_true,beq_iff_eq] at qz
     obtain ⟨h1,h2,h3⟩:=j7 qz.2
     refine ⟨fun p j hp=>?_,fun j hj=>?_,?_⟩
     · cases p with
       | zero=>simp at hp;subst hp;exact ⟨oa,hns,by simp,fun j hj=> .inl (aeu j hj),fun _=>by simpa [tC] using qz.1,fun hf=>by rw[he] at hf;simp at hf⟩
       | succ p=>
         obtain ⟨a1,a2,a3,a4,a5,a6⟩:=h1 p j (by simpa using hp)
         have hc:k+tC E ops (List.take (p+1) (i::l))=k+1+tC E ops (l.take p):=by rw[List.take_succ_cons,KH _ he];omega
         simp only[List.mem_cons,not_or] at a2
         refine ⟨a1,a2.2,by simp;exact ⟨a2.1,a3⟩,fun m hm=>?_,by rw[hc];exact a5,by rw[hc];exact a6⟩
         rcases a4 m hm with h4 | h4
         · simp at h4;rcases h4 with rfl | h4
           · exact .inr (by simp)
           · exact .inl h4
         · exact .inr (by simp [h4])
     · rcases h2 j hj with h4 | h4
       · simp at h4;rcases h4 with rfl | h4
         · exact .inr (by simp)
         · exact .inl h4
       · exact .inr (by simp [h4])
     · rw[KH _ he];omega
   · simp only[he,Bool.false_eq_true,if_false,Bool.and_eq_true,beq_iff_eq] at qz
     obtain ⟨h1,h2,h3⟩:=j7 qz.2
     refine ⟨fun p j hp=>?_,fun j hj=>?_,?_⟩
     · cases p with
       | zero=>simp at hp;subst hp;exact ⟨oa,hns,by simp,fun j hj=> .inl (aeu j hj),fun hf=>absurd hf he,fun _=>by simpa [tC] using qz.1⟩
       | succ p=>
         obtain ⟨a1,a2,a3,a4,a5,a6⟩:=h1 p j (by simpa using hp)
         have hc:k+tC E ops (List.take (p+1) (i::l))=k+tC E ops (l.take p):=by rw[List.take_succ_cons,KI _ he]
         simp only[List.mem_cons,not_or] at a2
         refine ⟨a1,a2.2,by simp;exact ⟨a2.1,a3⟩,fun m hm=>?_,by rw[hc];exact a5,by rw[hc];exact a6⟩
         rcases a4 m hm with h4 | h4
         · simp at h4;rcases h4 with rfl | h4
           · exact .inr (by simp)
           · exact .inl h4
         · exact .inr (by simp [h4])
     · rcases h2 j hj with h4 | h4
       · simp at h4;rcases h4 with rfl | h4
         · exact .inr (by simp)
         · exact .inl h4
       · exact .inr (by simp [h4])
     · rw[KI _ he];exact h3
def ja (ops:Array Oper) (i:Nat):Option Tmp:=(ops[i]?).bind (·.dst)
def KJ (ops:Array Oper) (ts:List AV) (l:List Step):List AV:=l.foldl (fun ts x=>ew ts (ja ops x.i) x.v) ts
def ru (ops:Array Oper) (val:Nat→AV) (ts:List AV) (l:List Nat):List AV:=l.foldl (fun ts i=>ew ts (ja ops i) (val i)) ts
structure Grown (a b:aC):Prop where
 nx:a.nx≤b.nx
 old:∀i,i<a.nx→b.get i=a.get i
theorem Grown.refl (a:aC):Grown a a:=⟨Nat.le_refl _,fun _ _=>rfl⟩
theorem Grown.trans {a b c:aC} (x:Grown a b) (y:Grown b c):Grown a c:=⟨Nat.le_trans x.nx y.nx,fun i hi=>(y.old i (Nat.lt_of_lt_of_le hi x.nx)).trans (x.old i hi)⟩
theorem Grown.new {a b:aC} {o:aM} (h:a.new o=some b):Grown a b:=by
 obtain ⟨h1,h2,h3,h4⟩:=aC.m8 h
 exact ⟨by omega,fun i hi=>h4 i (by omega)⟩
theorem OK.grown {φ:Ph} {a b:aC} {w:World} (g:Grown a b) (ok:OK E φ a w):OK E φ b w∧Fr φ a w φ b w:=by
 have hold:∀i l,φ i=some l→b.get i=a.get i:=fun i l hl=>g.old i (ok.E1 i l hl)
 refine ⟨⟨fun i l hl=>Nat.lt_of_lt_of_le (ok.E1 i l hl) g.nx,Nat.le_trans ok.nx g.nx,ok.AP,fun i o l hi hl=>ok.live i o l (hold i l hl▸hi) hl,
  fun i j o p l m hi hj hl hm hw hb=>ok.inj i j o p l m (hold i l hl▸hi) (hold j m hm▸hj) hl hm hw hb⟩,
  ⟨Ph.le_refl φ,fun _ _=>rfl,g.nx,rfl,rfl,rfl,Nat.le_refl _,fun _ _ _=>rfl,fun i o l hi hr hl=> .inr ⟨i,o,l,hold i l hl▸hi,hr,hl,rfl⟩⟩⟩
def A3 (E:Env) (call:bu) (ops:Array Oper) (rc:RC) (x:Step) (o:Oper) (hk:aC) (sk:aC) (aev:Option aC):Prop:=
 match x.kind with
 | .off=>cV ops x.ts o=false∧x.v=AV.undef∧(gY E o.op=true→aev=some hk)
 | .iV=>gY E o.op=false∧cV ops x.ts o=true∧bC E x.ts o.op=some x.v
 | .red=>gY E o.op=false∧cV ops x.ts o=true
 | .vW n obj=>gY E o.op=false∧cV ops x.ts o=true∧(∃mk,fF E x.ts o.op=some (obj,mk)∧x.v=mk n)∧sk.nx≤n∧n<hk.nx
 | .yx h'=>gY E o.op=true∧cV ops x.ts o=true∧ea E call x.ts hk rc o= .val x.v h'∧aev=some h'
structure abW (E:Env) (call:bu) (ops:Array Oper) (s:St) (k:Nat) (order:List Nat) (tr:List Step) (hs st:List aC) (s':St):Prop where
 is:tr.map (·.i)=order
 ts:s'.ts=KJ ops s.ts tr
 ds:s'.ds=s.ds
 rc:s'.rc=s.rc
 len:hs.length=tC E ops order+1
 afN:st.length=hs.length
 first:st[0]? =some s.h
 last:hs[tC E ops order]? =some s'.h
 grown:∀(j:Nat) (a b:aC),st[j]? =some a→hs[j]? =some b→Grown a b
 step:∀(p:Nat) (x:Step),tr[p]? =some x→x.ts=KJ ops s.ts (tr.take p)∧x.k=k+tC E ops (order.take p)∧
  ∃o hk sk,ops[x.i]? =some o∧hs[tC E ops (order.take p)]? =some hk∧st[tC E ops (order.take p)]? =some sk∧A3 E call ops s.rc x o hk sk (st[tC E ops (order.take p)+1]?)
theorem xX (ops:Array Oper) (ts:List AV) (x:Step) (l:List Step):KJ ops ts (x::l)=KJ ops (ew ts (ja ops x.i) x.v) l:=rfl
theorem qE {call:bu} {ops:Array Oper}:∀{order:List Nat} {k:Nat} {s:St} {tr:List Step} {hs:List aC} {s':St} (_:dE E call ops order k s= .ok tr hs s'),
 ∃st,abW E call ops s k order tr hs st s'
 | [],k,s,tr,hs,s',h=>by
   simp [dE] at h;obtain ⟨rfl,rfl,rfl⟩:=h
   exact ⟨[s.h],rfl,rfl,rfl,rfl,rfl,rfl,rfl,rfl,fun j a b ha hb=>by
    cases j with
    | zero=>simp at ha hb;subst ha;subst hb;exact Grown.refl _
    | succ j=>simp at ha,fun p x hp=>by simp at hp⟩
 | i::rest,k,s,tr,hs,s',h=>by
   simp only[dE] at h
   cases ho:ops[i]? with
   | none=>rw[ho] at h;simp at h
   | some o=>
   rw[ho] at h
   simp only at h
   have hgd:ops.getD i default=o:=by simp [Array.getD_eq_getD_getElem?,ho]
   have abX:ja ops i=o.dst:=by simp [ja,ho]
   have writes:∀(x:Step) (s1:St),x.i=i→x.k=k→x.ts=s.ts→s1.ts=ew s.ts o.dst x.v→s1.ds=s.ds→s1.rc=s.rc→gY E o.op=true→
    A3 E call ops s.rc x o s.h s.h (some s1.h)→((dE E call ops rest (k+1) s1).bound s.h).step x= .ok tr hs s'→∃st,abW E call ops s k (i::rest) tr hs st s':=by
    intro x s1 U4 KL hxt h1 h2 h3 he kO hd
    cases hr:dE E call ops rest (k+1) s1 with
    | fail why q=>rw[hr] at hd;simp [lD.bound,lD.step] at hd
    | ok SY vO s2=>
      rw[hr] at hd;simp [lD.bound,lD.step] at hd;obtain ⟨rfl,rfl,rfl⟩:=hd
      obtain ⟨U5,t⟩:=qE hr
      have hc:∀l,tC E ops (i::l)=tC E ops l+1:=fun l=>KH l (by rw[hgd];exact he)
      refine ⟨s.h::U5,by simp [U4,t.is],?_,t.ds.trans h2,t.rc.trans h3,by simp [t.len,hc],by simp [t.afN],rfl,by rw[hc];simpa using t.last,fun j a b ha hb=>?_,fun p y hp=>?_⟩
      · rw[xX,U4,abX,←h1];exact t.ts
      · cases j with
        | zero=>simp at ha hb;subst ha;subst hb;exact Grown.refl _
        | succ j=>exact t.grown j a b (by simpa using ha) (by simpa using hb)
      · cases p with
        | zero=>
          simp at hp;subst hp
          refine ⟨by simp [KJ,hxt],by simp [tC,KL],o,s.h,s.h,by rw[U4];exact ho,by simp [tC],by simp [tC],?_⟩
          have:(s.h::U5)[tC E ops (List.take 0 (i::rest))+1]? =some s1.h:=by simp [tC];exact t.first
          rw[this];exact kO
        | succ p=>
          obtain ⟨a1,a2,o2,hk,sk,a3,a4,a5,a6⟩:=t.step p y (by simpa using hp)
          refine ⟨?_,by rw[List.take_succ_cons,hc];omega,o2,hk,sk,a3,by rw[List.take_succ_cons,hc];simpa using a4,by rw[List.take_succ_cons,hc];simpa using a5,?_⟩
          · rw[List.take_succ_cons,xX,U4,abX,←h1];exact a1
          · rw[List.take_succ_cons,hc,h3] at *
            simpa using a6
   have plain:∀(x:Step) (s1:St),x.i=i→x.k=k→x.ts=s.ts→s1.ts=ew s.ts o.dst x.v→s1.ds=s.ds→s1.rc=s.rc→gY E o.op=false→Grown s.h s1.h→
    (∀hk sn,Grown s1.h hk→A3 E call ops s.rc x o hk s.h sn)→(dE E call ops rest k s1).step x= .ok tr hs s'→∃st,abW E call ops s k (i::rest) tr hs st s':=by
    intro x s1 U4 KL hxt h1 h2 h3 he hg kO hd
    cases hr:dE E call ops rest k s1 with
    | fail why q=>rw[hr] at hd;simp [lD.step] at hd
    | ok SY vO s2=>
      rw[hr] at hd;simp [lD.step] at hd;obtain ⟨rfl,rfl,rfl⟩:=hd
      obtain ⟨U5,t⟩:=qE hr
      have hc:∀l,tC E ops (i::l)=tC E ops l:=fun l=>KI l (by rw[hgd];simp [he])
      cases Es:U5 with
      | nil=>have:=t.first;rw[Es] at this;simp at this
      | cons s0 st2=>
      have Qw:s0=s1.h:=by have:=t.first;rw[Es] at this;simpa using this
      subst Qw
      have iH:∀j,(s.h::st2)[j+1]? =U5[j+1]? :=fun j=>by rw[Es];rfl
      refine ⟨s.h::st2,by simp [U4,t.is],?_,t.ds.trans h2,t.rc.trans h3,by rw[hc];exact t.len,by have:=t.afN;rw[Es] at this;simpa using this,rfl,by rw[hc];exact t.last,fun j a b ha hb=>?_,fun p y hp=>?_⟩
      · rw[xX,U4,abX,←h1];exact t.ts
      · cases j with
        | zero=>
          simp at ha;subst ha
          exact hg.trans (t.grown 0 _ b t.first hb)
        | succ j=>rw[iH] at ha;exact t.grown (j+1) a b ha hb
      · cases p with
        | zero=>
          simp at hp;subst hp
          have h0:∃hk,vO[0]? =some hk:=by
           have:=t.len
           cases hh:vO with
           | nil=>rw[hh] at this;simp at this
           | cons a _=>exact ⟨a,rfl⟩
          obtain ⟨hk,DK⟩:=h0
          refine ⟨by simp [KJ,hxt],by simp [tC,KL],o,hk,s.h,by rw[U4];exact ho,by simpa [tC] using DK,by simp [tC],?_⟩
          exact kO hk _ (t.grown 0 _ hk t.first DK)
        | succ p=>
          obtain ⟨a1,a2,o2,hk,sk,a3,a4,a5,a6⟩:=t.step p y (by simpa using hp)
          have hsk:∃sk',(s.h::st2)[tC E ops (List.take p rest)]? =some sk'∧sk'.nx≤sk.nx:=by
           cases hq:tC E ops (List.take p rest) with
           | zero=>rw[hq] at a5;rw[t.first] at a5;simp at a5;subst a5;exact ⟨s.h,rfl,hg.nx⟩
           | succ q=>rw[hq] at a5;exact ⟨sk,by rw[iH];exact a5,Nat.le_refl _⟩
          obtain ⟨sk',alI,alJ⟩:=hsk
          refine ⟨?_,by rw[List.take_succ_cons,hc];exact a2,o2,hk,sk',a3,by rw[List.take_succ_cons,hc];exact a4,by rw[List.take_succ_cons,hc];exact alI,?_⟩
          · rw[List.take_succ_cons,xX,U4,abX,←h1];exact a1
          · rw[List.take_succ_cons,hc,iH,←h3]
            unfold A3 at a6 ⊢
            split<;>rename_i A4<;>rw[A4] at a6
            · exact a6
            · exact a6
            · exact a6
            · exact ⟨a6.1,a6.2.1,a6.2.2.1,Nat.le_trans alJ a6.2.2.2.1,a6.2.2.2.2⟩
            · exact a6
   split at h
   · rename_i he
     split at h
     · rename_i hw
       split at h
       · rename_i v h' we
         exact writes ⟨i,k,s.ts,v,.yx h'⟩ {s with ts:=ew s.ts o.dst v,h:=h'} rfl rfl rfl rfl rfl rfl he ⟨he,hw,we,rfl⟩ h
       · simp at h
       · simp at h
     · rename_i hw
       exact writes ⟨i,k,s.ts,AV.undef,.off⟩ {s with ts:=ew s.ts o.dst AV.undef} rfl rfl rfl rfl rfl rfl he ⟨by simpa using hw,rfl,fun _=>rfl⟩ h
   · rename_i he
     have P2:gY E o.op=false:=by simpa using he
     split at h
     · rename_i hw
       split at h
       · rename_i v hp
         exact plain ⟨i,k,s.ts,v,.iV⟩ {s with ts:=ew s.ts o.dst v} rfl rfl rfl rfl rfl rfl P2 (Grown.refl _) (fun hk sn _=>⟨P2,hw,hp⟩) h
       · split at h
         · rename_i v hp
           exact plain ⟨i,k,s.ts,v,.red⟩ {s with ts:=ew s.ts o.dst v} rfl rfl rfl rfl rfl rfl P2 (Grown.refl _) (fun hk sn _=>⟨P2,hw⟩) h
         · split at h
           · rename_i obj mk hp
             split at h
             · rename_i h' hn
               refine plain ⟨i,k,s.ts,mk s.h.nx,.vW s.h.nx obj⟩ {s with ts:=ew s.ts o.dst (mk s.h.nx),h:=h'} rfl rfl rfl rfl rfl rfl P2 (Grown.new hn) (fun hk sn g=>⟨P2,hw,⟨mk,hp,rfl⟩,Nat.le_refl _,?_⟩) h
               have:=(aC.m8 hn).2.1
               have:=g.nx
               simp at this;omega
             · simp at h
           · simp at h
     · rename_i hw
       exact plain ⟨i,k,s.ts,AV.undef,.off⟩ {s with ts:=ew s.ts o.dst AV.undef} rfl rfl rfl rfl rfl rfl P2 (Grown.refl _) (fun hk sn _=>⟨by simpa using hw,rfl,fun h=>by rw[P2] at h;simp at h⟩) h
end Go.Ab
end
section
namespace Go.Ab
variable {E:Env}
theorem xY (ops:Array Oper) (val:Nat→AV) (x:Nat):∀(l:List Nat) (ts:List AV) (_:∀j∈l,ja ops j≠some x),(ru ops val ts l)[x]? =ts[x]?
 | [],_,_=>rfl
 | i::l,ts,h=>by
   show (ru ops val (ew ts (ja ops i) (val i)) l)[x]? =_
   rw[xY ops val x l _ (fun j hj=>h j (by simp [hj]))]
   have:=h i (by simp)
   cases hd:ja ops i with
   | none=>rfl
   | some d=>
     rw[hd] at this
     have f':d≠x:=fun e=>this (by rw[e])
     simp [ew,List.getElem?_set_ne f']
theorem FX (ops:Array Oper) (val:Nat→AV) (x j:Nat) (hj:ja ops j=some x):∀(l:List Nat) (ts:List AV) (_:j∈l) (_:∀j'∈l,ja ops j'=some x→j'=j),(ru ops val ts l)[x]? =if x<ts.length then some (val j) else none
 | i::l,ts,hm,hu=>by
   show (ru ops val (ew ts (ja ops i) (val i)) l)[x]? =_
   have hlen:(ew ts (ja ops i) (val i)).length=ts.length:=by cases ja ops i<;>simp [ew]
   by_cases WW:j∈l
   · rw[FX ops val x j hj l _ WW (fun j' h=>hu j' (by simp [h])),hlen]
   · have hij:i=j:=by simp at hm;rcases hm with h | h;exact h.symm;exact absurd h WW
     subst hij
     rw[xY ops val x l _ (fun j' sx e=>WW (hu j' (by simp [sx]) e▸sx))]
     rw[hj]
     simp [ew,List.getElem?_set]
theorem zC {ops:Array Oper} {val:Nat→AV} {x:Nat} {l d:List Nat} (ts:List AV) (hu:∀j j',ja ops j=some x→ja ops j'=some x→j=j') (aew:∀j,ja ops j=some x→(j∈l↔j∈d)):
 (ru ops val ts l)[x]? =(ru ops val ts d)[x]? :=by
 by_cases h:∃j,ja ops j=some x∧j∈l
 · obtain ⟨j,hj,hl⟩:=h
   rw[FX ops val x j hj l ts hl (fun j' _ e=>hu j' j e hj),FX ops val x j hj d ts ((aew j hj).1 hl) (fun j' _ e=>hu j' j e hj)]
 · rw[xY ops val x l ts (fun j hj e=>h ⟨j,e,hj⟩),xY ops val x d ts (fun j hj e=>h ⟨j,e,(aew j e).2 hj⟩)]
theorem CG {l r:List AV} {x:Nat} (h:l[x]? =r[x]?) (d:AV):l.getD x d=r.getD x d:=by simp [List.getD,h]
def valOf (tr:List Step) (i:Nat):AV:=((tr.find? (fun x=>x.i==i)).map (·.v)).getD AV.undef
theorem Nk {tr:List Step} (hn:(tr.map (·.i)).Nodup) {p:Nat} {x:Step} (hp:tr[p]? =some x):valOf tr x.i=x.v:=by
 unfold valOf
 have:tr.find? (fun y=>y.i==x.i)=some x:=by
  rw[List.find?_eq_some_iff_getElem]
  obtain ⟨oa,hx⟩:=List.getElem?_eq_some_iff.1 hp
  refine ⟨by simp,p,oa,hx,fun j hj=>?_⟩
  have WW:j<tr.length:=by omega
  simp only[Bool.not_eq_true',beq_eq_false_iff_ne]
  intro e
  have h1:(tr.map (·.i))[j]? =some x.i:=by simp [WW,e]
  have h2:(tr.map (·.i))[p]? =some x.i:=by simp [oa,hx]
  have:=(List.getElem?_inj (by simpa using WW) hn).1 (h1.trans h2.symm)
  omega
 rw[this];rfl
theorem KM (ops:Array Oper) {tr:List Step} (hn:(tr.map (·.i)).Nodup) (ts:List AV) (p:Nat):KJ ops ts (tr.take p)=ru ops (valOf tr) ts ((tr.map (·.i)).take p):=by
 have key:∀(l:List Step) (ts:List AV),(∀x∈l,valOf tr x.i=x.v)→KJ ops ts l=ru ops (valOf tr) ts (l.map (·.i)):=by
  intro l
  induction l with
  | nil=>intro ts _;rfl
  | cons x l ih=>
    intro ts h
    show KJ ops (ew ts (ja ops x.i) x.v) l=ru ops (valOf tr) (ew ts (ja ops x.i) (valOf tr x.i)) (l.map (·.i))
    rw[h x (by simp),ih _ (fun y hy=>h y (by simp [hy]))]
 rw[key _ _ (fun x hx=>?_),List.map_take]
 obtain ⟨q,hq⟩:=List.getElem?_of_mem (List.mem_of_mem_take hx)
 exact Nk hn hq
theorem OK.place {φ:Ph} {h:aC} {w:World} (ok:OK E φ h w) {n:Nat} {obj:aM} (hg:h.get n=some obj) (H_:φ n=none) (oa:n<h.nx) {O:Obj}
 (ho:OR E (φ.add n ⟨w.heap.size,0,0⟩) obj ⟨w.heap.size,0,0⟩ (some O)):OK E (φ.add n ⟨w.heap.size,0,0⟩) h (w.alloc O)∧φ.le (φ.add n ⟨w.heap.size,0,0⟩):=by
 have hle:φ.le (φ.add n ⟨w.heap.size,0,0⟩):=fun j m hm=>by
  unfold Ph.add;split
  · rename_i e;subst e;rw[H_] at hm;simp at hm
  · exact hm
 have lZ:∀j,j≠n→(φ.add n ⟨w.heap.size,0,0⟩) j=φ j:=fun j hj=>by simp [Ph.add,hj]
 have iZ:(φ.add n ⟨w.heap.size,0,0⟩) n=some ⟨w.heap.size,0,0⟩:=by simp [Ph.add]
 have aex:(w.alloc O).heap=w.heap.push O:=rfl
 have M4:∀j p m,h.get j=some p→φ j=some m→m.iR<w.heap.size:=fun j p m hj hm=>by
  have Kv:=ok.live j p m hj hm
  rcases Nat.lt_or_ge m.iR w.heap.size with a | a
  · exact a
  · exfalso
    rw[Array.getElem?_eq_none a] at Kv
    exact Kv.absurd
 refine ⟨⟨fun j m hm=>?_,ok.nx,fun g hg=>hle _ _ (ok.AP g hg),fun j p m hj hm=>?_,fun j k p q m r hj hk hm hr hw hb=>?_⟩,hle⟩
 · by_cases e:j=n
   · omega
   · rw[lZ j e] at hm;exact ok.E1 j m hm
 · by_cases e:j=n
   · subst e;rw[iZ] at hm;simp at hm;subst hm;rw[hg] at hj;simp at hj;subst hj;rw[aex];simpa using ho
   · rw[lZ j e] at hm
     have hb:=M4 j p m hj hm
     rw[aex,Array.getElem?_push,if_neg (by omega)]
     exact (ok.live j p m hj hm).mono hle
 · by_cases e:j=n<;>by_cases e':k=n
   · rw[e,e']
   · subst e;rw[iZ] at hm;simp at hm;subst hm;rw[lZ k e'] at hr;have:=M4 k q r hk hr;simp at hb;omega
   · subst e';rw[iZ] at hr;simp at hr;subst hr;rw[lZ j e] at hm;have:=M4 j p m hj hm;simp at hb;omega
   · rw[lZ j e] at hm;rw[lZ k e'] at hr;exact ok.inj j k p q m r hj hk hm hr hw hb
theorem Fr.place {φ₀ φ:Ph} {h₀ h:aC} {w₀ w:World} (f:Fr φ₀ h₀ w₀ φ h w) {n:Nat} (hn:h₀.nx≤n) (H_:φ n=none) (O:Obj):Fr φ₀ h₀ w₀ (φ.add n ⟨w.heap.size,0,0⟩) h (w.alloc O):=by
 have lZ:∀j,j≠n→(φ.add n ⟨w.heap.size,0,0⟩) j=φ j:=fun j hj=>by simp [Ph.add,hj]
 have iZ:(φ.add n ⟨w.heap.size,0,0⟩) n=some ⟨w.heap.size,0,0⟩:=by simp [Ph.add]
 refine ⟨fun j m hm=>?_,fun i hi=>by rw[lZ i (by omega)];exact f.old i hi,f.nx,f.os,f.tape,f.output,by have:=f.size;simp;omega,fun b hb hn'=>?_,fun i o l hi hr hl=>?_⟩
 · by_cases e:j=n
   · subst e;have:=f.ext j m hm;rw[H_] at this;simp at this
   · rw[lZ j e];exact f.ext j m hm
 · have:=f.size
   rw[show (w.alloc O).heap=w.heap.push O from rfl,Array.getElem?_push,if_neg (by omega)]
   exact f.Ie b hb hn'
 · by_cases e:i=n
   · subst e;rw[iZ] at hl;simp at hl;subst hl;exact .inl f.size
   · rw[lZ i e] at hl;exact f.own i o l hi hr hl
theorem filter_le {P:Nat→Bool} {l:List Nat} {K:Nat} (h:∀q e,l[q]? =some e→P e=true→q<K):(l.filter P).length≤K:=by
 have h1:(l.drop K).filter P=[]:=by
  rw[List.filter_eq_nil_iff]
  intro e he hP
  obtain ⟨q,hq⟩:=List.getElem?_of_mem he
  rw[List.getElem?_drop] at hq
  have:=h _ e hq hP
  omega
 calc (l.filter P).length=((l.take K++l.drop K).filter P).length:=by rw[List.take_append_drop]
  _=((l.take K).filter P).length:=by rw[List.filter_append,h1,List.append_nil]
  _≤(l.take K).length:=List.length_filter_le _ _
  _≤K:=by simp;omega
theorem A5 {P:Nat→Bool}:∀{l:List Nat} {e:Nat} (_:l[(l.takeWhile P).length]? =some e),P e=false
 | [],e,h=>by simp at h
 | x::l,e,h=>by
   by_cases hx:P x=true
   · rw[List.takeWhile_cons_of_pos hx] at h
     exact A5 (l:=l) (by simpa using h)
   · rw[List.takeWhile_cons_of_neg hx] at h
     simp at h;subst h;simpa using hx
end Go.Ab
end
section
namespace Go.Ab
variable {E:Env}
structure KN (E:Env) (call:bu) (ops:Array Oper) (pl:n8) (s s':St) (tr:List Step) (hs st:List aC):Prop where
 vC:FW E ops pl
 trace:abW E call ops s 0 pl.order tr hs st s'
 still:∀x∈tr,∀K hk,x.k≤K→K≤lW pl.bQ pl.an x.i→hs[K]? =some hk→kW E ops x hk=true
 ids:∀(x y:Step),x∈tr→y∈tr→∀(n:Nat) (o q:aM),x.kind= .vW n o→y.kind= .vW n q→x.i=y.i
structure Inv (E:Env) (ops:Array Oper) (pl:n8) (s:St) (tr:List Step) (hs st:List aC) (φ₀:Ph) (w₀:World) (AI:List Deferred) (d:List Nat) (cg:Array Bool) (K:Nat) (φ:Ph) (a:Act) (w:World):Prop where
 nd:d.Nodup
 lt:∀i∈d,i<ops.size
 cg:∀i,i<ops.size→cg[i]? =some (decide (i∈d))
 closed:∀i∈d,∀j,eN pl.an i j=true→j∈d
 bQ:∀q e,pl.bQ[q]? =some e→(e∈d↔q<K)
 Kle:K≤pl.bQ.length
 ts:LR φ (ru ops (valOf tr) s.ts d) a.tmps.toList
 ds:a.defers=AI
 ok:∃hK,hs[K]? =some hK∧OK E φ hK w∧Fr φ₀ s.h w₀ φ hK w
 ks:∀x∈tr,∀n obj,x.kind= .vW n obj→x.i ∉ d→x.k≤K→φ n=none∧s.h.nx≤n∧∀hK,hs[K]? =some hK→n<hK.nx
section
variable {call:bu} {ops:Array Oper} {pl:n8} {s s':St} {tr:List Step} {hs st:List aC}
theorem KN.at (r:KN E call ops pl s s' tr hs st) {p:Nat} {x:Step} (hp:tr[p]? =some x):
 pl.order[p]? =some x.i∧x.i ∉ pl.order.take p∧(∀j,eN pl.an x.i j=true→j∈pl.order.take p)∧x.k=tC E ops (pl.order.take p)∧
 ∃o,ops[x.i]? =some o∧(gY E o.op=true→pl.bQ[x.k]? =some x.i)∧(gY E o.op=false→Kt pl.bQ pl.an x.i=x.k):=by
 have h1:pl.order[p]? =some x.i:=by rw[←r.trace.is,List.getElem?_map,hp];rfl
 obtain ⟨h2,_,_⟩:=j7 r.vC.order
 obtain ⟨a1,a2,a3,a4,a5,a6⟩:=h2 p x.i h1
 obtain ⟨b1,b2,o,hk,sk,b3,_⟩:=r.trace.step p x hp
 have hgd:ops.getD x.i default=o:=by simp [Array.getD_eq_getD_getElem?,b3]
 rw[hgd] at a5 a6
 have Ig:x.k=tC E ops (pl.order.take p):=by omega
 refine ⟨h1,a3,fun j hj=>(a4 j hj).resolve_left (by simp),Ig,o,b3,fun he=>?_,fun he=>?_⟩
 · have:=a5 he;rw[Ig];simpa using this
 · have:=a6 he;omega
theorem yS:∀{l:List Nat} (_:∀(p i:Nat),l[p]? =some i→i ∉ l.take p),l.Nodup
 | [],_=> .nil
 | x::l,h=>by
   refine List.nodup_cons.2 ⟨fun hm=>?_,yS (fun p i hp hi=>h (p+1) i (by simpa using hp) (by simp [hi]))⟩
   obtain ⟨q,hq⟩:=List.getElem?_of_mem hm
   exact h (q+1) x (by simpa using hq) (by simp)
theorem KN.nodup (r:KN E call ops pl s s' tr hs st):pl.order.Nodup:=by
 obtain ⟨h2,_,_⟩:=j7 r.vC.order
 exact yS (fun p i hp=>(h2 p i hp).2.2.1)
theorem KN.all (r:KN E call ops pl s s' tr hs st) {i:Nat} (hi:i<ops.size):∃(p:Nat) (x:Step),tr[p]? =some x∧x.i=i:=by
 obtain ⟨_,h3,_⟩:=j7 r.vC.order
 have:=(h3 i hi).resolve_left (by simp)
 rw[←r.trace.is] at this
 obtain ⟨x,hx,rfl⟩:=List.mem_map.1 this
 obtain ⟨p,hp⟩:=List.getElem?_of_mem hx
 exact ⟨p,x,hp,rfl⟩
theorem A6 {ops:Array Oper} {pl:n8} (pok:FW E ops pl) {x j j':Nat} (h:ja ops j=some x) (h':ja ops j'=some x):j=j':=by
 unfold ja at h h'
 cases ho:ops[j]? with
 | none=>rw[ho] at h;simp at h
 | some o=>
 cases Nl:ops[j']? with
 | none=>rw[Nl] at h';simp at h'
 | some o'=>
 rw[ho] at h;rw[Nl] at h'
 simp at h h'
 rcases Nat.decEq j j' with f' | he
 · exact absurd h (pok.slot j j' o o' x f' ho Nl h').1
 · exact he
theorem aey (r:KN E call ops pl s s' tr hs st) {p:Nat} {x:Step} {o:Oper} (hp:tr[p]? =some x) (ho:ops[x.i]? =some o) {d:List Nat} (hd:x.i ∉ d) (hcl:∀i∈d,∀j,eN pl.an i j=true→j∈d)
 (tV:∀j,eN pl.an x.i j=true→j∈d):Jl E x.ts (ru ops (valOf tr) s.ts d) o.op∧cV ops (ru ops (valOf tr) s.ts d) o=cV ops x.ts o:=by
 obtain ⟨h1,h2,h3,_,_⟩:=r.at hp
 have rq:(tr.map (·.i)).Nodup:=by rw[r.trace.is];exact r.nodup
 have XE:x.ts=ru ops (valOf tr) s.ts (pl.order.take p):=by
  rw[(r.trace.step p x hp).1,KM ops rq,r.trace.is]
 have hpc:∀j∈pl.order.take p,∀m,eN pl.an j m=true→m∈pl.order.take p:=by
  intro j hj m hm
  obtain ⟨q,hq⟩:=List.getElem?_of_mem hj
  have hqp:q<p:=by
   have:=(List.getElem?_eq_some_iff.1 hq).1
   simp at this;omega
  have hq':pl.order[q]? =some j:=by rw[List.getElem?_take] at hq;rw[if_pos hqp] at hq;exact hq
  obtain ⟨f1,_,_⟩:=j7 r.vC.order
  have:=((f1 q j hq').2.2.2.1 m hm).resolve_left (by simp)
  exact List.mem_of_mem_take (i:=q) (l:=pl.order.take p) (by rw[List.take_take,Nat.min_eq_left (Nat.le_of_lt hqp)];exact this)
 have same:∀t,(∀j p',j≠x.i→ops[j]? =some p'→p'.dst=some t→eN pl.an x.i j=true∨eN pl.an j x.i=true)→(ru ops (valOf tr) s.ts (pl.order.take p))[t]? =(ru ops (valOf tr) s.ts d)[t]? :=by
  intro t ht
  refine zC s.ts (fun j j' a b=>A6 r.vC a b) (fun j hj=>?_)
  by_cases hji:j=x.i
  · subst hji;exact ⟨fun h=>absurd h h2,fun h=>absurd h hd⟩
  · obtain ⟨p',hp',hd'⟩:∃p',ops[j]? =some p'∧p'.dst=some t:=by
     unfold ja at hj
     cases hoj:ops[j]? with
     | none=>rw[hoj] at hj;simp at hj
     | some p'=>rw[hoj] at hj;exact ⟨p',rfl,by simpa using hj⟩
    rcases ht j p' hji hp' hd' with h | h
    · exact ⟨fun _=>tV j h,fun _=>h3 j h⟩
    · exact ⟨fun hm=>absurd (hpc j hm _ h) h2,fun hm=>absurd (hcl j hm _ h) hd⟩
 rw[XE]
 refine ⟨fun y hy=>?_,?_⟩
 · cases y with
   | tmp t=>
     have ht:t∈tmpsOf o:=by
      unfold tmpsOf;rw[List.mem_filterMap];exact ⟨.tmp t,by simpa using hy,rfl⟩
     simp only[fK]
     rw[CG (same t (fun j p' f' hp' hd'=>(r.vC.slot x.i j o p' t (Ne.symm f') ho hp' hd').2 ht))]
   | const c=>rfl
   | global g=>rfl
   | func f=>rfl
 · unfold cV
   cases hg:o.guard with
   | none=>rfl
   | some gw=>
     obtain ⟨g,want⟩:=gw
     simp only
     cases hdg:(ops[g]?).bind (·.dst) with
     | none=>rfl
     | some t=>
       simp only
       have afM:=r.vC.guard x.i o g want ho hg
       rw[same t (fun j p' f' hp' hd'=>by
        have:j=g:=A6 r.vC (x:=t) (by unfold ja;rw[hp'];simpa using hd') hdg
        subst this;exact .inl afM)]
end
end Go.Ab
end
section
namespace Go.Ab
variable {E:Env}
section
variable {call:bu} {ops:Array Oper} {pl:n8} {s s':St} {tr:List Step} {hs st:List aC}
theorem Jm {l:List Oper} {i:Nat}:i∈py E l↔∃o,l[i]? =some o∧gY E o.op=true:=by
 unfold py
 simp only[List.mem_map,List.mem_filter,Prod.exists]
 constructor
 · rintro ⟨o,j,⟨h1,h2⟩,rfl⟩
   exact ⟨o,by rw[List.mk_mem_zipIdx_iff_getElem?] at h1;exact h1,h2⟩
 · rintro ⟨o,h1,h2⟩
   exact ⟨o,i,⟨by rw[List.mk_mem_zipIdx_iff_getElem?];exact h1,h2⟩,rfl⟩
theorem FW.abY (pok:FW E ops pl) {i:Nat} {o:Oper} (ho:ops[i]? =some o):i∈pl.bQ↔gY E o.op=true:=by
 rw[pok.bQ,Jm]
 constructor
 · rintro ⟨o',h1,h2⟩
   have:ops.toList[i]? =some o:=by simpa using ho
   rw[this] at h1;simp at h1;subst h1;exact h2
 · intro h;exact ⟨o,by simpa using ho,h⟩
theorem Inv.FY {φ₀ φ:Ph} {w₀ w:World} {AI:List Deferred} {d:List Nat} {cg:Array Bool} {K:Nat} {a:Act} (r:KN E call ops pl s s' tr hs st) (inv:Inv E ops pl s tr hs st φ₀ w₀ AI d cg K φ a w)
 {x:Step} (hx:pl.bQ[x.k]? =some x.i) (hd:x.i ∉ d) (tV:∀j,eN pl.an x.i j=true→j∈d):x.k=K:=by
 have h1:¬x.k<K:=fun h=>hd ((inv.bQ x.k x.i hx).2 h)
 rcases Nat.lt_or_ge K x.k with h | h
 · exfalso
   obtain ⟨q,hq⟩:∃q,x.k=q+1:=⟨x.k - 1,by omega⟩
   have oa:q<pl.bQ.length:=by have:=(List.getElem?_eq_some_iff.1 hx).1;omega
   have hq':pl.bQ[q]? =some pl.bQ[q]:=by simp [oa]
   have:=r.vC.chain q _ x.i hq' (by rw[←hq];exact hx)
   have:=(inv.bQ q _ hq').1 (tV _ this)
   omega
 · omega
theorem Inv.XF {φ₀ φ:Ph} {w₀ w:World} {AI:List Deferred} {d:List Nat} {cg:Array Bool} {K:Nat} {a:Act} (inv:Inv E ops pl s tr hs st φ₀ w₀ AI d cg K φ a w)
 {i:Nat} (hd:i ∉ d) (tV:∀j,eN pl.an i j=true→j∈d):Kt pl.bQ pl.an i≤K∧K≤lW pl.bQ pl.an i:=by
 refine ⟨filter_le (fun q e hq he=>(inv.bQ q e hq).1 (tV e he)),?_⟩
 rcases Nat.lt_or_ge (lW pl.bQ pl.an i) K with h | h
 · exfalso
   have oa:lW pl.bQ pl.an i<pl.bQ.length:=by have:=inv.Kle;omega
   have hq:pl.bQ[lW pl.bQ pl.an i]? =some pl.bQ[lW pl.bQ pl.an i]:=by simp [oa]
   have h1:=A5 (P:=fun e=> !eN pl.an e i) hq
   simp only[Bool.not_eq_false'] at h1
   exact hd (inv.closed _ ((inv.bQ _ _ hq).2 h) i h1)
 · exact h
theorem U6 (ops:Array Oper) (val:Nat→AV) (ts:List AV) (d:List Nat) (i:Nat):ru ops val ts (d++[i])=ew (ru ops val ts d) (ja ops i) (val i):=by
 simp [ru]
theorem Inv.snoc {φ₀ φ φ':Ph} {w₀ w w':World} {AI:List Deferred} {d:List Nat} {cg:Array Bool} {K K':Nat} {a:Act} (r:KN E call ops pl s s' tr hs st) (inv:Inv E ops pl s tr hs st φ₀ w₀ AI d cg K φ a w)
 {p:Nat} {x:Step} {o:Oper} (hp:tr[p]? =some x) (ho:ops[x.i]? =some o) (hd:x.i ∉ d) (tV:∀j,eN pl.an x.i j=true→j∈d) (hle:φ.le φ') {v':Value} (hv:VR φ' x.v v')
 (hK:(gY E o.op=false∧K'=K)∨(gY E o.op=true∧x.k=K∧pl.bQ[x.k]? =some x.i∧K'=K+1))
 (rU:∃hK,hs[K']? =some hK∧OK E φ' hK w'∧Fr φ₀ s.h w₀ φ' hK w')
 (aiT:∀y∈tr,∀n obj,y.kind= .vW n obj→y.i ∉ d→y.i≠x.i→y.k≤K'→φ' n=none∧s.h.nx≤n∧∀hK,hs[K']? =some hK→n<hK.nx):
 Inv E ops pl s tr hs st φ₀ w₀ AI (d++[x.i]) (cg.setIfInBounds x.i true) K' φ' (a.put o.dst v') w':=by
 have rq:(tr.map (·.i)).Nodup:=by rw[r.trace.is];exact r.nodup
 have oa:x.i<ops.size:=(Array.getElem?_eq_some_iff.1 ho).1
 refine ⟨?_,fun i hi=>?_,fun i hi=>?_,fun i hi j hj=>?_,fun q e hq=>?_,?_,?_,by rw[put_defers];exact inv.ds,rU,fun y hy n obj FM hyd hyk=>?_⟩
 · rw[List.nodup_append];exact ⟨inv.nd,by simp,fun a ha b hb=>by simp at hb;subst hb;exact fun e=>hd (e▸ha)⟩
 · simp at hi;rcases hi with h | rfl
   · exact inv.lt i h
   · exact oa
 · have h1:=inv.cg i hi
   by_cases e:x.i=i
   · subst e
     have M1:x.i<cg.size:=(Array.getElem?_eq_some_iff.1 h1).1
     rw[Array.getElem?_setIfInBounds];simp [M1]
   · rw[Array.getElem?_setIfInBounds_ne e,h1]
     simp [show i≠x.i from fun h=>e h.symm]
 · simp at hi;rcases hi with h | rfl
   · exact List.mem_append_left _ (inv.closed i h j hj)
   · exact List.mem_append_left _ (tV j hj)
 · rcases hK with ⟨he,rfl⟩ | ⟨he,KL,hxe,rfl⟩
   · have f':e≠x.i:=fun h=>by
      subst h
      have:=(r.vC.abY ho).1 (List.mem_of_getElem? hq)
      rw[he] at this;simp at this
     simp [f',inv.bQ q e hq]
   · have hqe:e=x.i↔q=K:=by
      constructor
      · intro h;subst h
        have:=(List.getElem?_inj (List.getElem?_eq_some_iff.1 hq).1 r.vC.nd).1 (hq.trans hxe.symm)
        omega
      · intro h;subst h;rw[←KL,hxe] at hq;simpa using hq.symm
     simp only[List.mem_append,List.mem_singleton,inv.bQ q e hq,hqe]
     omega
 · rcases hK with ⟨he,rfl⟩ | ⟨he,KL,hxe,rfl⟩
   · exact inv.Kle
   · have:=(List.getElem?_eq_some_iff.1 hxe).1;omega
 · rw[U6,Nk rq hp]
   have:ja ops x.i=o.dst:=by simp [ja,ho]
   rw[this]
   exact Xy (inv.ts.mono hle) o.dst hv
 · simp only[List.mem_append,List.mem_singleton,not_or] at hyd
   exact aiT y hy n obj FM hyd.1 hyd.2 hyk
theorem U7 (hE:me E) {call:bu} (eu:jI E call) {ts:List AV} {h h':aC} {rc:RC} {o:Oper} {v:AV} (we:ea E call ts h rc o= .val v h') {i:Nat} {rest:List Nat} (ho:ops[i]? =some o)
 {φ:Ph} {a:Act} {w:World} {b:Frame} {k:List Item} {K:Bool→List Frame} (XE:LR φ ts a.tmps.toList) (ok:OK E φ h w) (iO:pC φ b K rc) (hw:Region.wanted o (yielded ops a.tmps)=true):
 ∃φ' w' v',VR φ' v v'∧OK E φ' h' w'∧Fr φ h w φ' h' w'∧Steps E.P (lone (b.atR a (.inRegion ops (i::rest)::k)) (cur K rc) w) (lone (b.atR (a.put o.dst v') (.inRegion ops rest::k)) (cur K rc) w'):=by
 have Cy:=zA hE eu (rc:=rc) (o:=o) XE ok
 have rq:rc.qC=false∨∀c,o.op≠ .defer c:=by
  by_cases hd:∃c,o.op= .defer c
  · obtain ⟨c,hd⟩:=hd
    unfold ea at we
    simp only[hd] at we
    split at we<;>simp at we
  · exact .inr (fun c e=>hd ⟨c,e⟩)
 have mH:=tT iO rq a.eval
 rw[we] at Cy
 cases Cy with
 | val v h' φ' w' v' hv vf fr run=>exact ⟨φ',w',v',hv,vf,fr,.one (oW mH ho hw run)⟩
 | skip h' φ' w' vf fr run=>exact ⟨φ',w',undef,.undef φ',vf,fr,.one (Nd mH ho hw run)⟩
 | enter v h' F args all hr hf hl run=>
   obtain ⟨n,start,hp,kO⟩:=hr φ w all ok hf hl
   obtain ⟨φ',w',v',hv,vf,fr,kI⟩:=kO (b.atR a (.inRegion ops (i::rest)::k)) (cur K rc)
   rw[xV ho] at kI
   exact ⟨φ',w',v',hv,vf,fr,.head (AX mH ho hw hp (run n start hp)) kI⟩
 | XB f' H' run=>
   have H_:∀fr:Frame,fr.kind=b.kind→tryRecover fr (cur K rc)=none:=by
    cases KF:rc with
    | no=>rw[KF] at iO;exact iO.2
    | ks v=>exact absurd KF (f' v)
    | done=>rw[KF] at iO;exact iO.2
    | MP l=>rw[KF] at H';simp [RC.qC] at H'
   exact ⟨φ,w,.nilIface,.nilIface,ok,Fr.refl _ _ _,.one (yR (iO.plain H') mH ho hw run (H_ _ rfl))⟩
theorem Inv.SZ (hE:me E) {Jn:bu} (eu:jI E Jn) {φ₀ φ:Ph} {w₀ w:World} {AI:List Deferred} {d:List Nat} {cg:Array Bool} {K:Nat} {a:Act} (r:KN E call ops pl s s' tr hs st) (inv:Inv E ops pl s tr hs st φ₀ w₀ AI d cg K φ a w)
 {b:Frame} {k:List Item} {Ks:Bool→List Frame} (iO:pC φ₀ b Ks s.rc) {i:Nat} (hi:i<ops.size) (hd:i ∉ d) (tV:∀j,eN pl.an i j=true→j∈d)
 (Jo:∀(x:Step) (o:Oper) (hk h':aC),x∈tr→x.i=i→ops[x.i]? =some o→hs[x.k]? =some hk→x.kind= .yx h'→ea E Jn x.ts hk s.rc o= .val x.v h') (rest:List Nat):
 ∃K' φ' a' w',Inv E ops pl s tr hs st φ₀ w₀ AI (d++[i]) (cg.setIfInBounds i true) K' φ' a' w'∧
  Steps E.P (lone (b.atR a (.inRegion ops (i::rest)::k)) (cur Ks s.rc) w) (lone (b.atR a' (.inRegion ops rest::k)) (cur Ks s.rc) w'):=by
 obtain ⟨p,x,hp,rfl⟩:=r.all hi
 have hxm:x∈tr:=List.mem_of_getElem? hp
 obtain ⟨h1,h2,h3,hk,o,ho,we,aez⟩:=r.at hp
 obtain ⟨_,_,o',hk1,sk1,Nl,DK,hsk,kO⟩:=r.trace.step p x hp
 rw[ho] at Nl;simp at Nl;subst Nl
 rw[←hk] at DK hsk kO
 obtain ⟨hag,XG⟩:=aey r hp ho hd inv.closed tV
 obtain ⟨hK,hhK,ok,fr⟩:=inv.ok
 have hwe:Region.wanted o (yielded ops a.tmps)=cV ops x.ts o:=by rw[zz inv.ts o,XG]
 have abZ:Jl E (ru ops (valOf tr) s.ts d) x.ts o.op:=fun y hy=>(hag y hy).symm
 have same:∀y∈tr,∀n obj,y.kind= .vW n obj→y.i ∉ d→y.i≠x.i→y.k≤K→φ n=none∧s.h.nx≤n∧∀hK,hs[K]? =some hK→n<hK.nx:=
  fun y hy n obj a1 a2 _ a3=>inv.ks y hy n obj a1 a2 a3
 have wrote:∀(φ':Ph) (h':aC) (w':World),x.k=K→st[K+1]? =some h'→OK E φ' h' w'→Fr φ hK w φ' h' w'→
  ∃S0,hs[K+1]? =some S0∧OK E φ' S0 w'∧Fr φ₀ s.h w₀ φ' S0 w'∧
  ∀y∈tr,∀n obj,y.kind= .vW n obj→y.i ∉ d→y.i≠x.i→y.k≤K+1→φ' n=none∧s.h.nx≤n∧∀hK,hs[K+1]? =some hK→n<hK.nx:=by
  intro φ' h' w' KL afO vf P3
  have oa:K+1<hs.length:=by rw[←r.trace.afN];exact (List.getElem?_eq_some_iff.1 afO).1
  have hhs:hs[K+1]? =some hs[K+1]:=by simp [oa]
  have g:=r.trace.grown (K+1) h' _ afO hhs
  obtain ⟨FZ,fr2⟩:=vf.grown g
  have fr3:=(fr.trans P3).trans fr2
  refine ⟨_,hhs,FZ,fr3,fun y hy n obj a1 a2 a3 a4=>?_⟩
  have hnx:∀S0,hs[K+1]? =some S0→S0=hs[K+1]:=fun S0 e=>by rw[hhs] at e;simpa using e.symm
  rcases Nat.lt_or_ge K y.k with h | h
  ·
   have hyk:y.k=K+1:=by omega
   obtain ⟨q,hq⟩:=List.getElem?_of_mem hy
   obtain ⟨_,_,_,hky,oy,hoy,_,_⟩:=r.at hq
   obtain ⟨_,_,oy',alK,alL,alM,Io,Iq,QC⟩:=r.trace.step q y hq
   rw[←hky,hyk] at Io Iq
   rw[afO] at Iq;simp at Iq;subst Iq
   unfold A3 at QC
   rw[a1] at QC
   obtain ⟨_,_,_,hn1,hn2⟩:=QC
   refine ⟨?_,?_,fun S0 e=>?_⟩
   · cases hφ:φ' n with
     | none=>rfl
     | some l=>have:=vf.E1 n l hφ;omega
   · have:=(fr.trans P3).nx;omega
   · rw[e] at Io;simp at Io;subst Io;exact hn2
  · obtain ⟨b1,b2,b3⟩:=inv.ks y hy n obj a1 a2 h
    have hn:=b3 hK hhK
    refine ⟨by rw[P3.old n hn];exact b1,b2,fun S0 e=>?_⟩
    have:=P3.nx;have:=g.nx
    rw[hnx _ e];omega
 have still:gY E o.op=false→kW E ops x hK=true:=fun he=>by
  obtain ⟨w1,w2⟩:=inv.XF hd tV
  exact r.still x hxm K hK (by rw[←aez he];exact w1) w2 hhK
 have hgd:ops.getD x.i default=o:=by simp [Array.getD_eq_getD_getElem?,ho]
 have skip:cV ops x.ts o=false→step E.P (lone (b.atR a (.inRegion ops (x.i::rest)::k)) (cur Ks s.rc) w)= .next (lone (b.atR (a.put o.dst undef) (.inRegion ops rest::k)) (cur Ks s.rc) w):=fun hw=>by
  have:=stepR_op_skip (P:=E.P) (b:=b) (a:=a) (k:=k) (cs:=cur Ks s.rc) (w:=w) (ops:=ops) (i:=x.i) (rest:=rest) (by rw[ho];simp;rw[hwe];exact hw)
  rw[this,ho];rfl
 unfold A3 at kO
 split at kO
 ·
  obtain ⟨hw,hv,hn⟩:=kO
  have hvr:VR φ x.v undef:=by rw[hv];exact .undef φ
  by_cases he:gY E o.op=true
  · have KL:=inv.FY r (we he) hd tV
    have Es:=hn he
    rw[KL] at Es DK
    rw[hhK] at DK;simp at DK;subst DK
    obtain ⟨S0,q1,q2,q3,q4⟩:=wrote φ hK w KL Es ok (Fr.refl _ _ _)
    exact ⟨K+1,φ,_,w,inv.snoc r hp ho hd tV (Ph.le_refl φ) hvr (.inr ⟨he,KL,we he,rfl⟩) ⟨S0,q1,q2,q3⟩ q4,.one (skip hw)⟩
  · have P2:gY E o.op=false:=by simpa using he
    exact ⟨K,φ,_,w,inv.snoc r hp ho hd tV (Ph.le_refl φ) hvr (.inl ⟨P2,rfl⟩) inv.ok same,.one (skip hw)⟩
 ·
  obtain ⟨he,hw,hpu⟩:=kO
  rw[←Nh abZ] at hpu
  have rq:∀c,o.op≠ .defer c:=fun c e=>by rw[e] at hpu;simp [bC] at hpu
  obtain ⟨v',hv,hr⟩:=DF hE.ext ok.gl inv.ts hpu
  exact ⟨K,φ,_,w,inv.snoc r hp ho hd tV (Ph.le_refl φ) hv (.inl ⟨he,rfl⟩) inv.ok same,.one (oW (tT iO (.inr rq) _) ho (hwe.trans hw) (hr w))⟩
 ·
  rename_i A4
  obtain ⟨he,hw⟩:=kO
  have vO:=still he
  unfold kW at vO
  rw[A4] at vO
  simp only[hgd] at vO
  cases hre:fp E x.ts hK o.op with
  | none=>rw[hre] at vO;simp at vO
  | some v1=>
    rw[hre] at vO
    have hv1:=AV.A1 _ _ _ vO
    subst hv1
    rw[←Ni abZ] at hre
    have rq:∀c,o.op≠ .defer c:=fun c e=>by rw[e] at hre;simp [fp] at hre
    obtain ⟨v',hv,hr⟩:=DI ok.gl ok inv.ts hre
    exact ⟨K,φ,_,w,inv.snoc r hp ho hd tV (Ph.le_refl φ) hv (.inl ⟨he,rfl⟩) inv.ok same,.one (oW (tT iO (.inr rq) _) ho (hwe.trans hw) (hr w rfl))⟩
 ·
  rename_i n obj A4
  obtain ⟨he,hw,⟨mk,hal,hxv⟩,_,_⟩:=kO
  have vO:=still he
  unfold kW at vO
  rw[A4] at vO
  simp only at vO
  cases hge:hK.get n with
  | none=>rw[hge] at vO;simp at vO
  | some o1=>
    rw[hge] at vO
    have ho1:=aM.A1 vO
    subst ho1
    obtain ⟨w1,_⟩:=inv.XF hd tV
    obtain ⟨H_,alN,alO⟩:=inv.ks x hxm n o1 A4 hd (by rw[←aez he];exact w1)
    rw[←KG abZ] at hal
    have rq:∀c,o.op≠ .defer c:=fun c e=>by rw[e] at hal;simp [fF] at hal
    obtain ⟨O,mk',Ng,hr⟩:=AT ok.gl inv.ts hal
    have hle:φ.le (φ.add n ⟨w.heap.size,0,0⟩):=fun j m hm=>by
     unfold Ph.add;split
     · rename_i e;subst e;rw[H_] at hm;simp at hm
     · exact hm
    obtain ⟨FZ,_⟩:=ok.place hge H_ (alO hK hhK) (Ng.obj _ w.heap.size hle)
    have hv:=Ng.val (φ.add n ⟨w.heap.size,0,0⟩) n w.heap.size hle (by simp [Ph.add])
    rw[←hxv] at hv
    refine ⟨K,_,_,_,inv.snoc r hp ho hd tV hle hv (.inl ⟨he,rfl⟩) ⟨hK,hhK,FZ,fr.place alN H_ O⟩ (fun y hy m q a1 a2 a3 a4=>?_),.one (oW (tT iO (.inr rq) _) ho (hwe.trans hw) (hr w))⟩
    obtain ⟨b1,b2,b3⟩:=inv.ks y hy m q a1 a2 a4
    refine ⟨?_,b2,b3⟩
    have f':m≠n:=fun e=>by subst e;exact a3 (r.ids y x hy hxm m q o1 a1 A4)
    simp [Ph.add,f',b1]
 ·
  rename_i h' A4
  obtain ⟨he,hw,_,Es⟩:=kO
  have XH:=Jo x o _ h' hxm rfl ho DK A4
  have KL:=inv.FY r (we he) hd tV
  rw[KL] at Es DK
  rw[hhK] at DK;simp at DK;subst DK
  rw[←FU abZ] at XH
  obtain ⟨φ',w',v',hv,vf,P3,kI⟩:=U7 hE eu XH ho (rest:=rest) (k:=k) inv.ts ok (iO.mono fr.ext) (hwe.trans hw)
  obtain ⟨S0,q1,q2,q3,q4⟩:=wrote φ' h' w' KL Es vf P3
  exact ⟨K+1,φ',_,w',inv.snoc r hp ho hd tV P3.ext hv (.inr ⟨he,KL,we he,rfl⟩) ⟨S0,q1,q2,q3⟩ q4,kI⟩
end
end Go.Ab
end
section
namespace Go.Ab
variable {E:Env}
section
variable {call:bu} {ops:Array Oper} {pl:n8} {s s':St} {tr:List Step} {hs st:List aC}
structure KO (E:Env) (φ₀:Ph) (h₀:aC) (w₀:World) (AI:List Deferred) (b:Frame) (k:List Item) (cs:List Frame) (s':St) (m:Machine):Prop where
 is:∃φ' a' w',LR φ' s'.ts a'.tmps.toList∧a'.defers=AI∧OK E φ' s'.h w'∧Fr φ₀ h₀ w₀ φ' s'.h w'∧Steps E.P m (lone (b.atR a' k) cs w')
theorem Nm (r:KN E call ops pl s s' tr hs st) {φ₀ φ:Ph} {w₀ w:World} {AI:List Deferred} {d:List Nat} {cg:Array Bool} {K:Nat} {a:Act} (inv:Inv E ops pl s tr hs st φ₀ w₀ AI d cg K φ a w)
 (Nn:∀i,i<ops.size→i∈d) (b:Frame) (k:List Item) (cs:List Frame):KO E φ₀ s.h w₀ AI b k cs s' (lone (b.atR a (.inRegion ops []::k)) cs w):=by
 have rq:(tr.map (·.i)).Nodup:=by rw[r.trace.is];exact r.nodup
 obtain ⟨f1,f2,f3⟩:=j7 r.vC.order
 have hK:K=pl.bQ.length:=by
  have:=inv.Kle
  rcases Nat.lt_or_ge K pl.bQ.length with h | h
  · exfalso
    have hq:pl.bQ[K]? =some pl.bQ[K]:=by simp [h]
    have hm:pl.bQ[K]∈pl.bQ:=List.getElem_mem h
    generalize hx:pl.bQ[K]=ee at hm hq
    rw[r.vC.bQ,Jm] at hm
    obtain ⟨o,ho,_⟩:=hm
    have oa:ee<ops.size:=by have:=(List.getElem?_eq_some_iff.1 ho).1;simpa using this
    have:=(inv.bQ K _ hq).1 (Nn _ oa)
    omega
  · omega
 obtain ⟨S0,q1,q2,q3⟩:=inv.ok
 have No:=r.trace.last
 have alP:tC E ops pl.order=K:=by omega
 rw[alP,q1] at No
 simp at No;subst No
 have XE:s'.ts=ru ops (valOf tr) s.ts d:=by
  rw[r.trace.ts]
  have h1:=KM ops rq s.ts tr.length
  rw[List.take_length,r.trace.is,List.take_of_length_le (by rw[←r.trace.is];simp)] at h1
  rw[h1]
  refine List.ext_getElem? (fun x=>?_)
  refine zC s.ts (fun j j' e e'=>A6 r.vC e e') (fun j hj=>?_)
  have WW:j<ops.size:=by
   unfold ja at hj
   cases ho:ops[j]? with
   | none=>rw[ho] at hj;simp at hj
   | some o=>exact (Array.getElem?_eq_some_iff.1 ho).1
  exact ⟨fun _=>Nn j WW,fun _=>(f2 j WW).resolve_left (by simp)⟩
 exact ⟨φ,a,w,by rw[XE];exact inv.ts,inv.ds,q2,q3,.one stepR_region_end⟩
theorem F0 {φ₀ φ:Ph} {w₀ w:World} {AI:List Deferred} {d:List Nat} {cg:Array Bool} {K:Nat} {a:Act} (r:KN E call ops pl s s' tr hs st) (inv:Inv E ops pl s tr hs st φ₀ w₀ AI d cg K φ a w)
 {i:Nat} (h:i∈Region.ready .any ops cg):i<ops.size∧i ∉ d∧∀j,eN pl.an i j=true→j∈d:=by
 obtain ⟨h1,o,ho,h2⟩:=mem_ready.1 h
 have hi:i<ops.size:=(Array.getElem?_eq_some_iff.1 ho).1
 have hl:=inv.cg i hi
 refine ⟨hi,fun hd=>?_,fun j hj=>?_⟩
 · simp [hl,hd,Array.getD_eq_getD_getElem?] at h1
 · obtain ⟨e,he,hej⟩:=r.vC.closed i o j ho hj
   have hed:e∈d:=by
    unfold mz at he
    simp only[List.mem_map,List.mem_filter] at he
    obtain ⟨ed,⟨hm,hb⟩,rfl⟩:=he
    have h3:=h2 ed (by simpa using hm) hb
    have alQ:ed.on<ops.size:=by
     have:=(r.vC.direct i o ed.on ho (by unfold mz;simp only[List.mem_map,List.mem_filter];exact ⟨ed,⟨hm,hb⟩,rfl⟩)).1
     omega
    simpa [inv.cg _ alQ,Array.getD_eq_getD_getElem?] using h3
   rcases hej with rfl | hej
   · exact hed
   · exact inv.closed e hed j hej
theorem CH {φ₀ φ:Ph} {w₀ w:World} {AI:List Deferred} {d:List Nat} {cg:Array Bool} {K:Nat} {a:Act} (r:KN E call ops pl s s' tr hs st) (inv:Inv E ops pl s tr hs st φ₀ w₀ AI d cg K φ a w)
 (h:Region.ready .any ops cg=[]):∀(n i:Nat),i<n→i<ops.size→i∈d
 | 0,i,hn,_=>by omega
 | n+1,i,hn,hi=>by
   have ih:=CH r inv h n
   by_cases hd:i∈d
   · exact hd
   · exfalso
     have ho:ops[i]? =some ops[i]:=by simp [hi]
     have:i∈Region.ready .any ops cg:=by
      refine mem_ready.2 ⟨by simp [inv.cg i hi,hd,Array.getD_eq_getD_getElem?],ops[i],ho,fun e he hb=>?_⟩
      have hm:e.on∈mz ops[i]:=by
       unfold mz;simp only[List.mem_map,List.mem_filter];exact ⟨e,⟨by simpa using he,hb⟩,rfl⟩
      have oa:=(r.vC.direct i _ e.on ho hm).1
      have:=ih e.on (by omega) (by omega)
      simp [inv.cg e.on (by omega),this,Array.getD_eq_getD_getElem?]
     rw[h] at this;simp at this
theorem KN.real (r:KN E call ops pl s s' tr hs st) (x:Step) (o:Oper) (hk h':aC) (hx:x∈tr) (ho:ops[x.i]? =some o) (hh:hs[x.k]? =some hk) (FM:x.kind= .yx h'):ea E call x.ts hk s.rc o= .val x.v h':=by
 obtain ⟨p,hp⟩:=List.getElem?_of_mem hx
 obtain ⟨_,_,_,hk0,_⟩:=r.at hp
 obtain ⟨_,_,o',hk1,sk1,Nl,DK,hsk,kO⟩:=r.trace.step p x hp
 rw[ho] at Nl;simp at Nl;subst Nl
 rw[←hk0,hh] at DK;simp at DK;subst DK
 unfold A3 at kO;rw[FM] at kO;exact kO.2.2.1
theorem Np (hE:me E) (eu:jI E call) (r:KN E call ops pl s s' tr hs st) {φ₀:Ph} {w₀:World} {AI:List Deferred} {b:Frame} {k:List Item} {Ks:Bool→List Frame} (iO:pC φ₀ b Ks s.rc):
 ∀(fuel t:Nat) {φ:Ph} {w:World} {d:List Nat} {cg:Array Bool} {K:Nat} {a:Act} (_:Inv E ops pl s tr hs st φ₀ w₀ AI d cg K φ a w) (_:ops.size≤d.length+fuel),
  KO E φ₀ s.h w₀ AI b k (cur Ks s.rc) s' (lone (b.atR a (.inRegion ops (Region.linearise.go .any ops fuel t cg [])::k)) (cur Ks s.rc) w)
 | 0,t,φ,w,d,cg,K,a,inv,hf=>by
   simp only[Region.linearise.go,List.reverse_nil]
   refine Nm r inv (fun i hi=>?_) b k _
   by_cases hd:i∈d
   · exact hd
   · have:=FV ops.size (i::d) (List.nodup_cons.2 ⟨hd,inv.nd⟩) (fun x hx=>by
      simp at hx;rcases hx with rfl | hx
      · exact hi
      · exact inv.lt x hx)
     simp at this;omega
 | fuel+1,t,φ,w,d,cg,K,a,inv,hf=>by
   simp only[Region.linearise.go]
   change KO E φ₀ s.h w₀ AI b k (cur Ks s.rc) s' (lone (b.atR a (.inRegion ops (match (Region.ready .any ops cg)[t%(Region.ready .any ops cg).length]? with
    | some i=>Region.linearise.go .any ops fuel (t/(Region.ready .any ops cg).length) (cg.setIfInBounds i true) [i]
    | none=> [].reverse)::k)) (cur Ks s.rc) w)
   cases hi:(Region.ready .any ops cg)[t%(Region.ready .any ops cg).length]? with
   | none=>
     have Kz:Region.ready .any ops cg=[]:=by
      cases hr:Region.ready .any ops cg with
      | nil=>rfl
      | cons x xs=>
        rw[hr] at hi
        have oa:t%(x::xs).length<(x::xs).length:=Nat.mod_lt _ (by simp)
        simp at hi
        simp at oa
        omega
     exact Nm r inv (fun i hi=>CH r inv Kz _ i (Nat.lt_succ_self i) hi) b k _
   | some i=>
     simp only[]
     rw[linearise_go_acc,List.reverse_singleton,List.singleton_append]
     obtain ⟨h1,h2,h3⟩:=F0 r inv (List.mem_of_getElem? hi)
     obtain ⟨K',φ',a',w',afP,kO⟩:=inv.SZ hE eu r iO (b:=b) (k:=k) h1 h2 h3 (fun x o hk h' hx _=>r.real x o hk h' hx) (Region.linearise.go .any ops fuel (t/(Region.ready .any ops cg).length) (cg.setIfInBounds i true) [])
     obtain ⟨φ2,a2,w2,x1,x2,x3,x4,x5⟩:=(Np hE eu r iO fuel (t/(Region.ready .any ops cg).length) afP (by simp;omega)).is
     exact ⟨φ2,a2,w2,x1,x2,x3,x4,Steps.trans kO x5⟩
structure KP (E:Env) (φ₀:Ph) (h₀:aC) (w₀:World) (AI:List Deferred) (b:Frame) (cs:List Frame) (v:AV) (s':St) (m:Machine):Prop where
 is:∃φ' a' w' v' todo,VR φ' v v'∧LR φ' s'.ts a'.tmps.toList∧a'.defers=AI∧OK E φ' s'.h w'∧Fr φ₀ h₀ w₀ φ' s'.h w'∧Steps E.P m (lone {b.atR a' todo with mode:= .panicking [{v:=v',recovered:=false}]} cs w')
theorem U8 (hE:me E) {call:bu} (eu:jI E call) {ts:List AV} {h h':aC} {rc:RC} {o:Oper} {c:Call} (hoc:o.op= .call c) {v:AV} (we:ea E call ts h rc o= .panic v h') {i:Nat} {rest:List Nat} (ho:ops[i]? =some o)
 {φ:Ph} {a:Act} {w:World} {b:Frame} {k:List Item} {K:Bool→List Frame} (XE:LR φ ts a.tmps.toList) (ok:OK E φ h w) (iO:pC φ b K rc) (hw:Region.wanted o (yielded ops a.tmps)=true):
 ∃φ' w' v' todo,VR φ' v v'∧OK E φ' h' w'∧Fr φ h w φ' h' w'∧Steps E.P (lone (b.atR a (.inRegion ops (i::rest)::k)) (cur K rc) w) (lone {b.atR a todo with mode:= .panicking [{v:=v',recovered:=false}]} (cur K rc) w'):=by
 have Cy:=zA hE eu (rc:=rc) (o:=o) XE ok
 have rq:rc.qC=false∨∀c,o.op≠ .defer c:= .inr (fun c e=>by rw[hoc] at e;simp at e)
 have mH:=tT iO rq a.eval
 rw[we] at Cy
 cases Cy with
 | abV v h' F args all hr hf hl run=>
   obtain ⟨n,start,hp,kO⟩:=hr φ w all ok hf hl
   obtain ⟨φ',w',v',hv,vf,fr,kI⟩:=kO (b.atR a (.inRegion ops (i::rest)::k)) (cur K rc)
   rw[Frame.raise_atR] at kI
   exact ⟨φ',w',v',.inRegion ops (i::rest)::k,hv,vf,fr,.head (AX mH ho hw hp (run n start hp)) kI⟩
 | panic v v' hv run=>exact ⟨φ,w,v',_,hv,ok,Fr.refl _ _ _,.one (Xz mH ho hw run)⟩
theorem Jp (hE:me E) {Jn:bu} (eu:jI E Jn) (r:KN E call ops pl s s' tr hs st) {xl:Step} (hxl:xl∈tr) {ol:Oper} (hol:ops[xl.i]? =some ol) {c:Call} (hoc:ol.op= .call c)
 (Nn:∀j,j<ops.size→j≠xl.i→eN pl.an xl.i j=true) (aeA:gY E ol.op=true) (hwl:cV ops xl.ts ol=true) {hk:aC} (DK:hs[xl.k]? =some hk) {v:AV} {h':aC} (XI:ea E Jn xl.ts hk s.rc ol= .panic v h')
 (Jo:∀(x:Step) (o:Oper) (hk h':aC),x∈tr→x.i≠xl.i→ops[x.i]? =some o→hs[x.k]? =some hk→x.kind= .yx h'→ea E Jn x.ts hk s.rc o= .val x.v h')
 {s2:St} (h2:s2.h=h') (aiU:s2.ts=xl.ts) {φ₀:Ph} {w₀:World} {AI:List Deferred} {b:Frame} {k:List Item} {Ks:Bool→List Frame} (iO:pC φ₀ b Ks s.rc):
 ∀(fuel t:Nat) {φ:Ph} {w:World} {d:List Nat} {cg:Array Bool} {K:Nat} {a:Act} (_:Inv E ops pl s tr hs st φ₀ w₀ AI d cg K φ a w) (_:ops.size≤d.length+fuel) (_:xl.i ∉ d),
  KP E φ₀ s.h w₀ AI b (cur Ks s.rc) v s2 (lone (b.atR a (.inRegion ops (Region.linearise.go .any ops fuel t cg [])::k)) (cur Ks s.rc) w)
 | 0,t,φ,w,d,cg,K,a,inv,hf,rq=>by
   exfalso
   have hi:xl.i<ops.size:=(Array.getElem?_eq_some_iff.1 hol).1
   have:=FV ops.size (xl.i::d) (List.nodup_cons.2 ⟨rq,inv.nd⟩) (fun x hx=>by
    simp at hx;rcases hx with rfl | hx
    · exact hi
    · exact inv.lt x hx)
   simp at this;omega
 | fuel+1,t,φ,w,d,cg,K,a,inv,hf,rq=>by
   have hil:xl.i<ops.size:=(Array.getElem?_eq_some_iff.1 hol).1
   simp only[Region.linearise.go]
   change KP E φ₀ s.h w₀ AI b (cur Ks s.rc) v s2 (lone (b.atR a (.inRegion ops (match (Region.ready .any ops cg)[t%(Region.ready .any ops cg).length]? with
    | some i=>Region.linearise.go .any ops fuel (t/(Region.ready .any ops cg).length) (cg.setIfInBounds i true) [i]
    | none=> [].reverse)::k)) (cur Ks s.rc) w)
   cases hi:(Region.ready .any ops cg)[t%(Region.ready .any ops cg).length]? with
   | none=>
     have Kz:Region.ready .any ops cg=[]:=by
      cases hr:Region.ready .any ops cg with
      | nil=>rfl
      | cons x xs=>
        rw[hr] at hi
        have oa:t%(x::xs).length<(x::xs).length:=Nat.mod_lt _ (by simp)
        simp at hi
        simp at oa
        omega
     exact absurd (CH r inv Kz _ xl.i (Nat.lt_succ_self _) hil) rq
   | some i=>
     simp only[]
     rw[linearise_go_acc,List.reverse_singleton,List.singleton_append]
     obtain ⟨h1,h2',h3⟩:=F0 r inv (List.mem_of_getElem? hi)
     by_cases hii:i=xl.i
     · subst hii
       obtain ⟨p,hp⟩:=List.getElem?_of_mem hxl
       obtain ⟨_,q2,q3,_,o',Nl,q4,_⟩:=r.at hp
       rw[hol] at Nl;simp at Nl;subst Nl
       obtain ⟨hag,XG⟩:=aey r hp hol h2' inv.closed h3
       obtain ⟨hK,hhK,ok,fr⟩:=inv.ok
       have KL:=inv.FY r (q4 aeA) h2' h3
       rw[KL,hhK] at DK;simp at DK;subst DK
       rw[FU hag] at XI
       have hwe:Region.wanted ol (yielded ops a.tmps)=true:=by rw[zz inv.ts ol,XG];exact hwl
       obtain ⟨φ',w',v',todo,hv,vf,P3,kO⟩:=U8 hE eu hoc XI hol (rest:=Region.linearise.go .any ops fuel (t/(Region.ready .any ops cg).length) (cg.setIfInBounds xl.i true) []) (k:=k) inv.ts ok (iO.mono fr.ext) hwe
       have alR:(tr.map (·.i)).Nodup:=by rw[r.trace.is];exact r.nodup
       have XE:xl.ts=ru ops (valOf tr) s.ts d:=by
        rw[(r.trace.step p xl hp).1,KM ops alR,r.trace.is]
        refine List.ext_getElem? (fun x=>zC s.ts (fun j j' e e'=>A6 r.vC e e') (fun j hj=>?_))
        have WW:j<ops.size:=by
         unfold ja at hj
         cases ho:ops[j]? with
         | none=>rw[ho] at hj;simp at hj
         | some o=>exact (Array.getElem?_eq_some_iff.1 ho).1
        by_cases hji:j=xl.i
        · subst hji;exact ⟨fun h=>absurd h q2,fun h=>absurd h h2'⟩
        · exact ⟨fun _=>h3 j (Nn j WW hji),fun _=>q3 j (Nn j WW hji)⟩
       exact ⟨φ',a,w',v',todo,hv,by rw[aiU,XE];exact inv.ts.mono P3.ext,inv.ds,by rw[h2];exact vf,by rw[h2];exact fr.trans P3,kO⟩
     · obtain ⟨K',φ',a',w',afP,kO⟩:=inv.SZ hE eu r iO (b:=b) (k:=k) h1 h2' h3 (fun x o hk h' hx U4=>Jo x o hk h' hx (by rw[U4];exact hii)) (Region.linearise.go .any ops fuel (t/(Region.ready .any ops cg).length) (cg.setIfInBounds i true) [])
       obtain ⟨φ2,a2,w2,v2,td,x0,x1,x2,x3,x4,x5⟩:=(Jp hE eu r hxl hol hoc Nn aeA hwl DK XI Jo h2 aiU iO fuel (t/(Region.ready .any ops cg).length) afP (by simp;omega) (by simp;exact ⟨rq,fun h=>hii h.symm⟩)).is
       exact ⟨φ2,a2,w2,v2,td,x0,x1,x2,x3,x4,Steps.trans kO x5⟩
def F1 (call:bu):bu:=fun f as h=>match call f as h with
 | .panic _ h'=> .ret AV.undef h'
 | r=>r
theorem XJ {call:bu} {ts:List AV} {h h':aC} {rc:RC} {o:Oper} {v:AV} (e:ea E call ts h rc o= .val v h'):ea E (F1 call) ts h rc o= .val v h':=by
 obtain ⟨dst,op,ty,pos,after,guard⟩:=o
 cases op with
 | call c=>
   obtain ⟨cN,args,aT⟩:=c
   cases cN with
   | builtin b=>cases b<;>exact e
   | value f=>
     simp only[ea] at e ⊢
     split at e
     · split at e
       · exact e
       · split at e
         · rename_i hc
           simp only[F1,hc];exact e
         · simp at e
         · simp at e
     · simp at e
   | invoke x name=>
     simp only[ea] at e ⊢
     split at e
     · split at e
       · split at e
         · rename_i hc
           simp only[F1,hc];exact e
         · simp at e
         · simp at e
       · simp at e
     · simp at e
 | _=>exact e
theorem XK {call:bu} {ts:List AV} {h h':aC} {rc:RC} {dst:Option Tmp} {c:Call} {ty:TypeId} {pos:String} {after:Array Edge} {guard:Option (Nat×Bool)} {v:AV} (e:ea E call ts h rc ⟨dst,.call c,ty,pos,after,guard⟩= .panic v h'):
 ea E (F1 call) ts h rc ⟨dst,.call c,ty,pos,after,guard⟩= .val AV.undef h':=by
 obtain ⟨cN,args,aT⟩:=c
 cases cN with
 | builtin b=>
   cases b<;>simp only[ea] at e<;>(try (simp at e;done))<;>(split at e<;>(try (simp at e;done))<;>(try (split at e<;>simp at e)))
 | value f=>
   simp only[ea] at e ⊢
   split at e
   · split at e
     · split at e<;>simp at e
     · split at e
       · simp at e
       · rename_i hc
         simp at e;obtain ⟨rfl,rfl⟩:=e
         simp only[F1,hc]
       · simp at e
   · simp at e
 | invoke x name=>
   simp only[ea] at e ⊢
   split at e
   · split at e
     · split at e
       · simp at e
       · rename_i hc
         simp at e;obtain ⟨rfl,rfl⟩:=e
         simp only[F1,hc]
       · simp at e
     · simp at e
   · simp at e
theorem qF {α:Type} {f:α→Option Nat}:∀{l:List α} (_:(l.filterMap f).Nodup) {x y:α} {n:Nat} (_:x∈l) (_:y∈l) (_:f x=some n) (_:f y=some n),x=y
 | [],_,x,y,n,hx,_,_,_=>by simp at hx
 | z::l,hn,x,y,n,hx,hy,fx,fy=>by
   cases hz:f z with
   | none=>
     rw[List.filterMap_cons_none hz] at hn
     have hx':x∈l:=by
      simp at hx;rcases hx with rfl | h
      · rw[hz] at fx;simp at fx
      · exact h
     have hy':y∈l:=by
      simp at hy;rcases hy with rfl | h
      · rw[hz] at fy;simp at fy
      · exact h
     exact qF hn hx' hy' fx fy
   | some m=>
     rw[List.filterMap_cons_some hz,List.nodup_cons] at hn
     simp at hx hy
     rcases hx with rfl | hx<;>rcases hy with rfl | hy
     · rfl
     · exfalso;rw[fx] at hz;simp at hz;subst hz;exact hn.1 (List.mem_filterMap.2 ⟨y,hy,fy⟩)
     · exfalso;rw[fy] at hz;simp at hz;subst hz;exact hn.1 (List.mem_filterMap.2 ⟨x,hx,fx⟩)
     · exact qF hn.2 hx hy fx fy
theorem XL (UX:vV E ops=some pl) (hd:dE E call ops pl.order 0 s= .ok tr hs s') (hl:tI E ops pl tr hs=true):∃st,KN E call ops pl s s' tr hs st:=by
 obtain ⟨st,t⟩:=qE hd
 unfold tI at hl
 simp only[Bool.and_eq_true] at hl
 refine ⟨st,Nj UX,t,fun x hx K hk h1 h2 h3=>?_,fun x y hx hy n o q e1 e2=>?_⟩
 · have h4:=List.all_eq_true.1 (List.all_eq_true.1 hl.2 x hx) hk
   refine h4 ?_
   refine List.mem_of_getElem? (i:=K - x.k) ?_
   rw[List.getElem?_take,if_pos (by omega),List.getElem?_drop,show x.k+(K - x.k)=K by omega,h3]
 · have:=zB hl.1
   have:=qF this hx hy (n:=n) (by simp [e1]) (by simp [e2])
   rw[this]
theorem zD {call Jq:bu} (hc:∀{ts:List AV} {h h':aC} {rc:RC} {o:Oper} {v:AV},ea E call ts h rc o= .val v h'→ea E Jq ts h rc o= .val v h') {i:Nat} {o:Oper} (ho:ops[i]? =some o) (he:gY E o.op=true):
 ∀(l:List Nat) (k:Nat) (s:St) {tr:List Step} {hs:List aC} {s1:St} {h':aC} (_:dE E call ops l k s= .ok tr hs s1) (_:cV ops s1.ts o=true) (_:ea E Jq s1.ts s1.h s1.rc o= .val AV.undef h'),
  dE E Jq ops (l++[i]) k s= .ok (tr++[⟨i,k+(hs.length - 1),s1.ts,AV.undef,.yx h'⟩]) (hs++[h']) {s1 with ts:=ew s1.ts o.dst AV.undef,h:=h'}
 | [],k,s,tr,hs,s1,h',hd,hw,hv=>by
   simp [dE] at hd;obtain ⟨rfl,rfl,rfl⟩:=hd
   simp only[List.nil_append,dE,ho,he,if_true,hw,hv]
   simp [lD.bound,lD.step]
 | j::l,k,s,tr,hs,s1,h',hd,hw,hv=>by
   rw[List.cons_append]
   simp only[dE] at hd ⊢
   cases hoj:ops[j]? with
   | none=>rw[hoj] at hd;simp at hd
   | some oj=>
   rw[hoj] at hd
   simp only at hd ⊢
   have wr:∀(x:Step) (s0:St),((dE E call ops l (k+1) s0).bound s.h).step x= .ok tr hs s1→((dE E Jq ops (l++[i]) (k+1) s0).bound s.h).step x= .ok (tr++[⟨i,k+(hs.length - 1),s1.ts,AV.undef,.yx h'⟩]) (hs++[h']) {s1 with ts:=ew s1.ts o.dst AV.undef,h:=h'}:=by
    intro x s0 hd
    cases hr:dE E call ops l (k+1) s0 with
    | fail why q=>rw[hr] at hd;simp [lD.bound,lD.step] at hd
    | ok SY vO s2=>
      rw[hr] at hd;simp [lD.bound,lD.step] at hd;obtain ⟨rfl,rfl,rfl⟩:=hd
      rw[zD hc ho he l (k+1) s0 hr hw hv]
      obtain ⟨_,t⟩:=qE hr
      have:1≤vO.length:=by have:=t.len;omega
      simp [lD.bound,lD.step];omega
   have pl:∀(x:Step) (s0:St),(dE E call ops l k s0).step x= .ok tr hs s1→(dE E Jq ops (l++[i]) k s0).step x= .ok (tr++[⟨i,k+(hs.length - 1),s1.ts,AV.undef,.yx h'⟩]) (hs++[h']) {s1 with ts:=ew s1.ts o.dst AV.undef,h:=h'}:=by
    intro x s0 hd
    cases hr:dE E call ops l k s0 with
    | fail why q=>rw[hr] at hd;simp [lD.step] at hd
    | ok SY vO s2=>
      rw[hr] at hd;simp [lD.step] at hd;obtain ⟨rfl,rfl,rfl⟩:=hd
      rw[zD hc ho he l k s0 hr hw hv]
      simp [lD.step]
   split at hd
   · rename_i he1
     rw[if_pos he1]
     split at hd
     · rename_i Er
       rw[if_pos Er]
       split at hd
       · rename_i XH
         simp only[hc XH]
         exact wr _ _ hd
       · simp at hd
       · simp at hd
     · rename_i Er
       rw[if_neg Er]
       exact wr _ _ hd
   · rename_i he1
     rw[if_neg he1]
     split at hd
     · rename_i Er
       rw[if_pos Er]
       split at hd
       · rename_i hp
         try simp only[hp]
         exact pl _ _ hd
       · rename_i hp
         try simp only[hp]
         split at hd
         · rename_i hq
           try simp only[hq]
           exact pl _ _ hd
         · rename_i hq
           try simp only[hq]
           split at hd
           · rename_i hr
             try simp only[hr]
             split at hd
             · rename_i hn
               try simp only[hn]
               exact pl _ _ hd
             · simp at hd
           · simp at hd
     · rename_i Er
       rw[if_neg Er]
       exact pl _ _ hd
theorem CI {call:bu} {i:Nat} {o:Oper} (ho:ops[i]? =some o) (he:gY E o.op=true) {v:AV}:
 ∀(l:List Nat) (k:Nat) (s:St) {tr:List Step} {hs:List aC} {s1:St} {h':aC} (_:dE E call ops l k s= .ok tr hs s1) (_:cV ops s1.ts o=true) (_:ea E call s1.ts s1.h s1.rc o= .panic v h'),
  ∃why q,dE E call ops (l++[i]) k s= .fail why q
 | [],k,s,tr,hs,s1,h',hd,hw,hv=>by
   simp [dE] at hd;obtain ⟨rfl,rfl,rfl⟩:=hd
   simp only[List.nil_append,dE,ho,he,if_true,hw,hv]
   exact ⟨_,_,rfl⟩
 | j::l,k,s,tr,hs,s1,h',hd,hw,hv=>by
   rw[List.cons_append]
   simp only[dE] at hd ⊢
   cases hoj:ops[j]? with
   | none=>rw[hoj] at hd;simp at hd
   | some oj=>
   rw[hoj] at hd
   simp only at hd ⊢
   have wr:∀(x:Step) (s0:St),((dE E call ops l (k+1) s0).bound s.h).step x= .ok tr hs s1→∃why q,((dE E call ops (l++[i]) (k+1) s0).bound s.h).step x= .fail why q:=by
    intro x s0 hd
    cases hr:dE E call ops l (k+1) s0 with
    | fail why q=>rw[hr] at hd;simp [lD.bound,lD.step] at hd
    | ok SY vO s2=>
      rw[hr] at hd;simp [lD.bound,lD.step] at hd;obtain ⟨rfl,rfl,rfl⟩:=hd
      obtain ⟨why,q,e⟩:=CI ho he l (k+1) s0 hr hw hv
      rw[e];exact ⟨_,_,rfl⟩
   have pl:∀(x:Step) (s0:St),(dE E call ops l k s0).step x= .ok tr hs s1→∃why q,(dE E call ops (l++[i]) k s0).step x= .fail why q:=by
    intro x s0 hd
    cases hr:dE E call ops l k s0 with
    | fail why q=>rw[hr] at hd;simp [lD.step] at hd
    | ok SY vO s2=>
      rw[hr] at hd;simp [lD.step] at hd;obtain ⟨rfl,rfl,rfl⟩:=hd
      obtain ⟨why,q,e⟩:=CI ho he l k s0 hr hw hv
      rw[e];exact ⟨_,_,rfl⟩
   split at hd
   · rename_i he1
     rw[if_pos he1]
     split at hd
     · rename_i Er
       rw[if_pos Er]
       split at hd
       · rename_i XH
         try simp only[XH]
         exact wr _ _ hd
       · simp at hd
       · simp at hd
     · rename_i Er
       rw[if_neg Er]
       exact wr _ _ hd
   · rename_i he1
     rw[if_neg he1]
     split at hd
     · rename_i Er
       rw[if_pos Er]
       split at hd
       · rename_i hp
         try simp only[hp]
         exact pl _ _ hd
       · rename_i hp
         try simp only[hp]
         split at hd
         · rename_i hq
           try simp only[hq]
           exact pl _ _ hd
         · rename_i hq
           try simp only[hq]
           split at hd
           · rename_i hr
             try simp only[hr]
             split at hd
             · rename_i hn
               try simp only[hn]
               exact pl _ _ hd
             · simp at hd
           · simp at hd
     · rename_i Er
       rw[if_neg Er]
       exact pl _ _ hd
end
theorem F2 {call:bu} {ops:Array Oper} {pl:n8} {s s':St} {tr:List Step} {tM st:List aC} (r:KN E call ops pl s s' tr tM st)
 {φ:Ph} {a:Act} {w:World} (XE:LR φ s.ts a.tmps.toList) (ok:OK E φ s.h w):Inv E ops pl s tr tM st φ w a.defers [] (Array.replicate ops.size false) 0 φ a {w with drawn:=w.drawn+1}:=by
 have Nq:OK E φ s.h {w with drawn:=w.drawn+1}:=⟨ok.E1,ok.nx,ok.AP,ok.live,ok.inj⟩
 have fr1:Fr φ s.h w φ s.h {w with drawn:=w.drawn+1}:=⟨Ph.le_refl φ,fun _ _=>rfl,Nat.le_refl _,rfl,rfl,rfl,Nat.le_refl _,fun _ _ _=>rfl,fun i o l a b c=> .inr ⟨i,o,l,a,b,c,rfl⟩⟩
 have hlen:0<tM.length:=by have:=r.trace.len;omega
 have h0:tM[0]? =some tM[0]:=by simp [hlen]
 have g:=r.trace.grown 0 s.h _ r.trace.first h0
 obtain ⟨FZ,fr2⟩:=Nq.grown g
 refine ⟨.nil,fun i hi=>by simp at hi,fun i hi=>by simp [hi],fun i hi=>by simp at hi,fun q e hq=>by simp,by omega,by simpa [ru] using XE,rfl,⟨_,h0,FZ,fr1.trans fr2⟩,fun x hx n obj hk _ hk0=>?_⟩
 obtain ⟨q,hq⟩:=List.getElem?_of_mem hx
 obtain ⟨_,_,_,hky,oy,hoy,_,_⟩:=r.at hq
 obtain ⟨_,_,oy',alK,alL,alM,Io,Iq,QC⟩:=r.trace.step q x hq
 rw[←hky] at Io Iq
 have KL:x.k=0:=by omega
 rw[KL] at Io Iq
 rw[r.trace.first] at Iq;simp at Iq;subst Iq
 unfold A3 at QC
 rw[hk] at QC
 obtain ⟨_,_,_,hn1,hn2⟩:=QC
 refine ⟨?_,hn1,fun hK e=>?_⟩
 · cases hφ:φ n with
   | none=>rfl
   | some l=>have:=ok.E1 n l hφ;omega
 · rw[e] at Io;simp at Io;subst Io;exact hn2
theorem Nr (hE:me E) (alS:E.P.follows .mixedOrders=true) {call:bu} (eu:jI E call) {ops:Array Oper} {s s':St} {e:my} (h:DB E call ops s= .ok e s')
 {φ:Ph} {a:Act} {w:World} {b:Frame} {k:List Item} {K:Bool→List Frame} (hs:SR φ s.ts s.ds a) (ok:OK E φ s.h w) (iO:pC φ b K s.rc) (id:Nat):
 s'.rc=s.rc∧s'.ds=s.ds∧((e= .normal∧∃φ' a' w',LR φ' s'.ts a'.tmps.toList∧a'.defers=a.defers∧OK E φ' s'.h w'∧Fr φ s.h w φ' s'.h w'∧
  Steps E.P (lone (b.atR a (.code (.region id ops true)::k)) (cur K s.rc) w) (lone (b.atR a' k) (cur K s.rc) w'))∨
  ∃v,e= .panic v∧KP E φ s.h w a.defers b (cur K s.rc) v s' (lone (b.atR a (.code (.region id ops true)::k)) (cur K s.rc) w)):=by
 have aiV:Region.schedule (E.P.follows .mixedOrders) ops (w.tape w.drawn (.order b.fn id))=Region.linearise.go .any ops ops.size (w.tape w.drawn (.order b.fn id)) (Array.replicate ops.size false) []:=by
  rw[alS];rfl
 unfold DB at h
 split at h
 · simp at h
 rename_i pl UX
 split at h
 · rename_i tr tM s1 hd
   split at h
   · rename_i hl
     simp at h;obtain ⟨rfl,rfl⟩:=h
     obtain ⟨st,r⟩:=XL UX hd hl
     refine ⟨r.trace.rc,r.trace.ds,.inl ⟨rfl,?_⟩⟩
     obtain ⟨φ',a',w',x1,x2,x3,x4,x5⟩:=(Np hE eu r iO (b:=b) (k:=k) ops.size (w.tape w.drawn (.order b.fn id)) (F2 r hs.ts ok) (by simp)).is
     refine ⟨φ',a',w',x1,x2,x3,x4,.head stepR_region_draw ?_⟩
     rw[aiV]
     exact x5
   · simp at h
 · split at h
   · rename_i v s2 hp
     simp at h;obtain ⟨rfl,rfl⟩:=h
     unfold Fv at hp
     split at hp
     · simp at hp
     rename_i i front ab0
     split at hp
     · rename_i tr tM s1 dst c ty pos after guard hd ho
       split at hp
       · rename_i P1
         split at hp
         · rename_i v1 h1 XH
           split at hp
           · rename_i hl
             simp at hp;obtain ⟨rfl,rfl⟩:=hp
             simp only[Bool.and_eq_true,List.all_eq_true,List.mem_range,Bool.or_eq_true,beq_iff_eq] at P1
             obtain ⟨⟨he,hw⟩,Nn⟩:=P1
             have XD:pl.order=front.reverse++[i]:=by
              have:=congrArg List.reverse ab0
              simpa using this
             have hd2:=zD (Jq:=F1 call) (fun e=>XJ e) ho he front.reverse 0 s hd hw (XK XH)
             rw[←XD] at hd2
             rw[Nat.zero_add] at hd2
             obtain ⟨st,r⟩:=XL UX hd2 hl
             obtain ⟨U5,t1⟩:=qE hd
             have aiW:s1.rc=s.rc:=t1.rc
             refine ⟨aiW,t1.ds,.inr ⟨_,rfl,?_⟩⟩
             have hlen:1≤tM.length:=by have:=t1.len;omega
             have No:(tM++[h1])[tM.length - 1]? =some s1.h:=by
              rw[List.getElem?_append_left (by omega)]
              have:=t1.last
              rw[show tM.length - 1=tC E ops front.reverse by have:=t1.len;omega];exact this
             have Jo:∀(x:Step) (o:Oper) (hk h':aC),x∈tr++[⟨i,tM.length - 1,s1.ts,AV.undef,.yx h1⟩]→x.i≠i→ops[x.i]? =some o→(tM++[h1])[x.k]? =some hk→x.kind= .yx h'→ea E call x.ts hk s.rc o= .val x.v h':=by
              intro x o hk h' hx U4 Nl DK FM
              have hx':x∈tr:=by
               simp at hx;rcases hx with h | h
               · exact h
               · exact absurd (by rw[h]) U4
              obtain ⟨p,hp⟩:=List.getElem?_of_mem hx'
              obtain ⟨_,hk0,o',hk1,sk1,ho2,afQ,hsk,kO⟩:=t1.step p x hp
              rw[Nl] at ho2;simp at ho2;subst ho2
              rw[Nat.zero_add] at hk0
              rw[←hk0] at afQ
              have oa:x.k<tM.length:=(List.getElem?_eq_some_iff.1 afQ).1
              rw[List.getElem?_append_left oa,afQ] at DK
              simp at DK;subst DK
              unfold A3 at kO;rw[FM] at kO;exact kO.2.2.1
             have alT:=(Jp hE eu r (xl:=⟨i,tM.length - 1,s1.ts,AV.undef,.yx h1⟩) (by simp) (ol:=⟨dst,.call c,ty,pos,after,guard⟩) ho rfl (fun j hj f'=>(Nn j hj).resolve_left f') he hw No (by rw[←aiW];exact XH) Jo
              (s2:={s1 with h:=h1}) rfl rfl iO (b:=b) (k:=k) ops.size (w.tape w.drawn (.order b.fn id)) (F2 r hs.ts ok) (by simp) (by simp)).is
             obtain ⟨φ',a',w',v',todo,x0,x1,x2,x3,x4,x5⟩:=alT
             refine ⟨φ',a',w',v',todo,x0,x1,x2,x3,x4,.head stepR_region_draw ?_⟩
             rw[aiV]
             exact x5
           · simp at hp
         · simp at hp
       · simp at hp
     · simp at hp
   · simp at h
end Go.Ab
end
section
namespace Go.Ab
variable {E:Env}
def Ns (P:Program) (m:Machine) (b:Frame) (k:List Item) (cs:List Frame):Exit→Act→World→Prop
 | .normal,a,w=>Steps P m (lone (b.atR a k) cs w)
 | .exit id,a,w=>∃todo,exitTo id todo=exitTo id k∧Steps P m (lone (b.atR a (.code (.exit id)::todo)) cs w)
 | .ret,a,w=>∃todo,Steps P m (lone (b.atR a (.code .ret::todo)) cs w)
 | .panic chain,a,w=>∃todo,Steps P m (lone {b.atR a todo with mode:= .panicking chain} cs w)
 | _,_,_=>False
theorem Ns.of_steps {P:Program} {m m':Machine} {b:Frame} {k:List Item} {cs:List Frame} {e:Exit} {a:Act} {w:World} (hs:Steps P m m') (h:Ns P m' b k cs e a w):Ns P m b k cs e a w:=by
 cases e with
 | normal=>exact Steps.trans hs h
 | exit id=>obtain ⟨t,h1,h2⟩:=h;exact ⟨t,h1,Steps.trans hs h2⟩
 | ret=>obtain ⟨t,h2⟩:=h;exact ⟨t,Steps.trans hs h2⟩
 | panic c=>obtain ⟨t,h2⟩:=h;exact ⟨t,Steps.trans hs h2⟩
 | goto l=>exact h.elim
 | outgrown=>exact h.elim
theorem Ns.pass {P:Program} {m:Machine} {b:Frame} {x:Item} {k:List Item} {cs:List Frame} {e:Exit} {a:Act} {w:World} (hx:∀id,exitTo id (x::k)=exitTo id k) (hn:e≠ .normal) (h:Ns P m b (x::k) cs e a w):Ns P m b k cs e a w:=by
 cases e with
 | normal=>exact absurd rfl hn
 | exit id=>obtain ⟨t,h1,h2⟩:=h;exact ⟨t,h1.trans (hx id),h2⟩
 | ret=>exact h
 | panic c=>exact h
 | goto l=>exact h.elim
 | outgrown=>exact h.elim
structure sH (E:Env) (φ:Ph) (h:aC) (w:World) (b:Frame) (K:Bool→List Frame) (k:List Item) (m:Machine) (e:my) (s':St):Prop where
 is:∃φ' w' a' e',ExR φ' e e'∧SR φ' s'.ts s'.ds a'∧OK E φ' s'.h w'∧Fr φ h w φ' s'.h w'∧pC φ' b K s'.rc∧Ns E.P m b k (cur K s'.rc) e' a' w'
theorem sH.of_steps {φ:Ph} {h:aC} {w:World} {b:Frame} {K:Bool→List Frame} {k:List Item} {m m':Machine} {e:my} {s':St} (hs:Steps E.P m m') (x:sH E φ h w b K k m' e s'):sH E φ h w b K k m e s':=by
 obtain ⟨φ',w',a',e',h1,h2,h3,h4,h5,h6⟩:=x.is
 exact ⟨φ',w',a',e',h1,h2,h3,h4,h5,.of_steps hs h6⟩
theorem sH.later {φ φ₁:Ph} {h h₁:aC} {w w₁:World} {b:Frame} {K:Bool→List Frame} {k:List Item} {m:Machine} {e:my} {s':St} (f:Fr φ h w φ₁ h₁ w₁) (x:sH E φ₁ h₁ w₁ b K k m e s'):sH E φ h w b K k m e s':=by
 obtain ⟨φ',w',a',e',h1,h2,h3,h4,h5,h6⟩:=x.is
 exact ⟨φ',w',a',e',h1,h2,h3,f.trans h4,h5,h6⟩
theorem OK.made {φ:Ph} {h h':aC} {w:World} (ok:OK E φ h w) {o:aM} {O:Obj} (hn:h.new o=some h') (ho:OR E (φ.add h.nx ⟨w.heap.size,0,0⟩) o ⟨w.heap.size,0,0⟩ (some O)):
 OK E (φ.add h.nx ⟨w.heap.size,0,0⟩) h' (w.alloc O)∧Fr φ h w (φ.add h.nx ⟨w.heap.size,0,0⟩) h' (w.alloc O)∧φ.le (φ.add h.nx ⟨w.heap.size,0,0⟩):=
 ok.fresh (w':=w.alloc O) hn ⟨w.heap.size,0,0⟩ (by rw[show (w.alloc O).heap=w.heap.push O from rfl];simpa using ho)
  (fun c f' hc=>by rw[show (w.alloc O).heap=w.heap.push O from rfl,Array.getElem?_push,if_neg (by simpa using f')]) (by simp) (Nat.le_refl _) rfl rfl rfl
theorem OK.afR {φ:Ph} {h:aC} {w:World} (ok:OK E φ h w) {i:Nat} {o o':aM} {l:Loc} (hg:h.get i=some o) (MQ:o.rw=true) (hl:φ i=some l) {O:Obj} (ho:OR E φ o' l (some O)):
 OK E φ (h.put i (some o')) (w.putObj l.iR O)∧Fr φ h w φ (h.put i (some o')) (w.putObj l.iR O):=by
 have oa:l.iR<w.heap.size:=by
  rcases Nat.lt_or_ge l.iR w.heap.size with h1 | h1
  · exact h1
  · have:=ok.live i o l hg hl
    rw[Array.getElem?_eq_none h1] at this
    exact this.absurd.elim
 exact ok.change hg MQ hl (by rw[World.putObj_heap_same oa];exact ho) (fun c hc=>World.putObj_heap_other hc) World.putObj_size rfl rfl rfl
theorem OK.alU {φ:Ph} {h:aC} {w:World} (ok:OK E φ h w) {i:Nat} {o:aM} {l:Loc} (hg:h.get i=some o) (MQ:o.rw=true) (hl:φ i=some l) (O:Obj):
 OK E φ (h.put i none) (w.putObj l.iR O)∧Fr φ h w φ (h.put i none) (w.putObj l.iR O):=by
 have iH:∀j p,(h.put i none).get j=some p→h.get j=some p∧j≠i:=fun j p hj=>by
  by_cases e:i=j
  · subst e;rw[aC.dP] at hj;simp at hj
  · rw[aC.cu e] at hj;exact ⟨hj,Ne.symm e⟩
 refine ⟨⟨ok.E1,ok.nx,ok.AP,fun j p m hj hm=>?_,fun j k p q m n hj hk=>ok.inj j k p q m n (iH j p hj).1 (iH k q hk).1⟩,
  ⟨Ph.le_refl φ,fun _ _=>rfl,Nat.le_refl _,rfl,rfl,rfl,by simp,fun b _ hn=>World.putObj_heap_other (fun e=>hn i o l hg MQ hl e.symm),fun j p m hj hr hm=> .inr ⟨j,p,m,(iH j p hj).1,hr,hm,rfl⟩⟩⟩
 obtain ⟨sx,f'⟩:=iH j p hj
 rw[World.putObj_heap_other (fun e=>f' (ok.inj j i p o m l sx hg hm hl (.inr MQ) e))]
 exact ok.live j p m sx hm
theorem Nt {s:St} {dn:Nat} {h1:aC} {ds1:List tG} (ho:Xb s=some (dn,h1,ds1)) {φ:Ph} {a:Act} {w:World} {b:Frame} {K:Bool→List Frame} (hs:SR φ s.ts s.ds a) (ok:OK E φ s.h w) (iO:pC φ b K s.rc)
 (ps:Array Tmp) (as bd:Code):∃φ1 w1 ld mark,φ.le φ1∧OK E φ1 h1 w1∧Fr φ s.h w φ1 h1 w1∧φ1 dn=some ld∧SR φ1 s.ts ds1 {a with defers:=mark++a.defers}∧
  (Instr.enterLoop b.fn a.tmps ps as bd b.roundOf).run E.P w= .ok (w1.heap.size,mark) (w1.alloc (.loop {state:= .ready,pending:=none,fn:=b.fn,tmps:=a.tmps,params:=ps,assign:=as,body:=bd,defers:=ld.iR})):=by
 unfold Xb at ho
 split at ho
 · rename_i l hl
   split at ho
   · rename_i st pd ts vy AH bd' dn' hg
     simp at ho;obtain ⟨rfl,rfl,rfl⟩:=ho
     rw[hl] at iO
     obtain ⟨ll,hφ,XA⟩:=iO
     obtain ⟨_,r,hr,CJ⟩:=ok.live _ _ _ hg hφ
     obtain ⟨ld,hd1,hd2⟩:=CJ.defers
     refine ⟨φ,w,ld,[],Ph.le_refl φ,ok,Fr.refl _ _ _,hd1,⟨hs.ts,hs.ds⟩,?_⟩
     rw[XA,run_enterLoop_inner hr,hd2]
   · simp at ho
 · rename_i H'
   split at ho
   · rename_i h1' hn
     simp at ho;obtain ⟨rfl,rfl,rfl⟩:=ho
     obtain ⟨Nq,fr1,hle⟩:=ok.made (O:= .deferred (some [])) hn ⟨rfl,rfl⟩
     have iZ:(φ.add s.h.nx ⟨w.heap.size,0,0⟩) s.h.nx=some ⟨w.heap.size,0,0⟩:=by simp [Ph.add]
     refine ⟨_,_,⟨w.heap.size,0,0⟩,[{target:= .collected w.heap.size,args:= #[]}],hle,Nq,fr1,iZ,⟨hs.ts.mono hle,⟨_,iZ,rfl⟩,hs.ds.mono hle⟩,?_⟩
     rw[iO.plain (FT H'),run_enterLoop_outer]
     simp
   · simp at ho
theorem XM {c:Code} {e:my} (h:SP (some c)=some e):(∃id,c= .exit id∧e= .exit id)∨(c= .ret∧e= .ret):=by
 cases c<;>simp [SP] at h
 · exact .inl ⟨_,rfl,h.symm⟩
 · exact .inr ⟨rfl,h.symm⟩
theorem KQ {call:bu} (eu:jI E call) {f:Operand} {ps:Array Tmp} {as bd:Code} {s s':St} {e:my} (h:pz E call f ps as bd s= .ok e s')
 {φ:Ph} {a:Act} {w:World} {b:Frame} {k:List Item} {K:Bool→List Frame} (hs:SR φ s.ts s.ds a) (ok:OK E φ s.h w) (iO:pC φ b K s.rc) (MS:(E.P.funcs[b.fn]?).isSome=true):
 sH E φ s.h w b K k (lone (b.atR a (.code (.rangeFunc f ps as bd)::k)) (cur K s.rc) w) e s':=by
 unfold pz at h
 split at h
 · rename_i g first captured hf
   split at h
   · rename_i dn h1 ds1 ho
     split at h
     · rename_i h2 hn
       have hfv:=pA ok.gl hs.ts hf
       generalize mT:a.eval f=cv at hfv
       obtain ⟨fs',kr,rfl,hfs,hcs⟩:=hfv.Fy
       obtain ⟨φ1,w1,ld,mark,aiY,Nq,fr1,hld,vO,Cz⟩:=Nt ho hs ok iO ps as bd
       obtain ⟨FZ,fr2,ab1⟩:=Nq.made (O:= .loop {state:= .ready,pending:=none,fn:=b.fn,tmps:=a.tmps,params:=ps,assign:=as,body:=bd,defers:=ld.iR}) hn
        ⟨rfl,_,rfl,⟨rfl,rfl,hs.ts.mono (Ph.le_trans aiY (fun j m hm=>by
         unfold Ph.add;split
         · rename_i e;subst e;exact absurd (Nq.E1 _ _ hm) (Nat.lt_irrefl _)
         · exact hm)),rfl,rfl,rfl,⟨ld,by
         unfold Ph.add;split
         · rename_i e;subst e;exact absurd (Nq.E1 _ _ hld) (Nat.lt_irrefl _)
         · exact hld,rfl⟩,MS⟩⟩
       have hle:=Ph.le_trans aiY ab1
       have iZ:(φ1.add h1.nx ⟨w1.heap.size,0,0⟩) h1.nx=some ⟨w1.heap.size,0,0⟩:=by simp [Ph.add]
       generalize hφ2:φ1.add h1.nx ⟨w1.heap.size,0,0⟩=φ2 at FZ fr2 ab1 hle iZ
       have hl:LR φ2 (first++[.vQ h1.nx]++captured) (fs'.toList++[.func (.yield w1.heap.size) #[] #[]]++kr.toList):=
        ((hfs.mono hle).append (.cons (.yield iZ) (.nil φ2))).append (hcs.mono hle)
       have Ir:∀w',(resolve a.eval (rangeCall f w1.heap.size) 0).run E.P w'= .ok {target:= .fn (.func g) kr,args:=fs'++ #[.func (.yield w1.heap.size) #[] #[]]} w':=fun w'=>by
        have alV:a.eval (.const (.func (.yield w1.heap.size) #[] #[]))= .func (.yield w1.heap.size) #[] #[]:=rfl
        simp [resolve,Deferred.ofValue,mT,alV]
       have start:∀n st,qD E φ2 (w1.alloc (.loop {state:= .ready,pending:=none,fn:=b.fn,tmps:=a.tmps,params:=ps,assign:=as,body:=bd,defers:=ld.iR})) (.fn g) (fs'.toList++[.func (.yield w1.heap.size) #[] #[]]++kr.toList) n st→
        step E.P (lone (b.atR a (.code (.rangeFunc f ps as bd)::k)) (cur K s.rc) w)= .next (lone st (b.atR {a with defers:=mark++a.defers} (.inRangeFunc w1.heap.size::k)::cur K s.rc)
         (w1.alloc (.loop {state:= .ready,pending:=none,fn:=b.fn,tmps:=a.tmps,params:=ps,assign:=as,body:=bd,defers:=ld.iR}))):=fun n st hp=>by
        cases hp with
        | fn _ _ hr=>
          have hinv:(invoke (Target.fn (.func g) kr) (fs'++ #[.func (.yield w1.heap.size) #[] #[]])).run E.P (w1.alloc (.loop {state:= .ready,pending:=none,fn:=b.fn,tmps:=a.tmps,params:=ps,assign:=as,body:=bd,defers:=ld.iR}))=
           .ok (.enter g (fs'.toList++[Value.func (.yield w1.heap.size) #[] #[]]++kr.toList).toArray) (w1.alloc (.loop {state:= .ready,pending:=none,fn:=b.fn,tmps:=a.tmps,params:=ps,assign:=as,body:=bd,defers:=ld.iR})):=by
           have e:(fs'.toList++[Value.func (.yield w1.heap.size) #[] #[]]++kr.toList).toArray=fs'++ #[Value.func (.yield w1.heap.size) #[] #[]]++kr:=by
            apply Array.toList_inj.1;simp
           rw[e] at hr ⊢
           simpa [invoke] using hr
          exact stepR_rangeFunc Cz (Ir _) hinv
       split at h
       ·
        rename_i v h3 hc
        obtain ⟨n,st,hp,ju⟩:=eu.ret _ _ _ _ _ hc φ2 _ _ FZ trivial hl
        obtain ⟨φ3,w3,v',_,ok3,fr3,kO⟩:=ju (b.atR {a with defers:=mark++a.defers} (.inRangeFunc w1.heap.size::k)) (cur K s.rc)
        rw[finish_atR_inRangeFunc] at kO
        split at h
        · simp at h
        · rename_i S1 ks n9 vy AH bd' dn' H' hg
          split at h
          · rename_i e1 hj
            simp at h;obtain ⟨rfl,rfl⟩:=h
            have hl3:=fr3.ext _ _ iZ
            obtain ⟨_,r,hr,CJ⟩:=ok3.live _ _ _ hg hl3
            have aiZ:r.state≠ .busy:=by rw[CJ.state];intro e;subst e;exact H' rfl
            obtain ⟨ok4,fr4⟩:=ok3.afR (o':= .loop .exhausted ks n9 vy AH bd' dn') hg rfl hl3 (O:= .loop {r with state:= .exhausted}) ⟨rfl,_,rfl,⟨rfl,CJ.pending,CJ.tmps,CJ.params,CJ.assign,CJ.body,CJ.defers,CJ.fn⟩⟩
            obtain ⟨W4,hW4⟩:∃W4,W4=w3.putObj w1.heap.size (.loop {r with state:= .exhausted}):=⟨_,rfl⟩
            have ok4:OK E φ3 (h3.put h1.nx (some (.loop .exhausted ks n9 vy AH bd' dn'))) W4:=by rw[hW4];exact ok4
            have fr4:Fr φ3 h3 w3 φ3 (h3.put h1.nx (some (.loop .exhausted ks n9 vy AH bd' dn'))) W4:=by rw[hW4];exact fr4
            have ai0:=stepR_endRangeFunc (P:=E.P) (b:=b) (a:={a with defers:=mark++a.defers}) (k:=k) (cs:=cur K s.rc) (run_endLoop hr aiZ)
            rw[←hW4] at ai0
            have vA:=((fr1.trans fr2).trans fr3).trans fr4
            have kI:=Steps.trans (.head (start n st hp) kO) (.one ai0)
            rw[CJ.pending] at kI
            have afS:=Ph.le_trans ab1 fr3.ext
            have XN:=Ph.le_trans hle fr3.ext
            cases ks with
            | none=>
              simp [SP] at hj;subst hj
              exact ⟨φ3,_,_,_,.normal,vO.mono afS,ok4,vA,iO.mono XN,kI⟩
            | some c=>
              rcases XM hj with ⟨id,rfl,rfl⟩ | ⟨rfl,rfl⟩
              · exact ⟨φ3,_,_,_,.exit id,vO.mono afS,ok4,vA,iO.mono XN,k,rfl,kI⟩
              · exact ⟨φ3,_,_,_,.ret,vO.mono afS,ok4,vA,iO.mono XN,k,kI⟩
          · simp at h
        · simp at h
       ·
        rename_i v h3 hc
        simp at h;obtain ⟨rfl,rfl⟩:=h
        obtain ⟨n,st,hp,ju⟩:=eu.panic _ _ _ _ _ hc φ2 _ _ FZ trivial hl
        obtain ⟨φ3,w3,v',hv,ok3,fr3,kO⟩:=ju (b.atR {a with defers:=mark++a.defers} (.inRangeFunc w1.heap.size::k)) (cur K s.rc)
        rw[Frame.raise_atR] at kO
        exact ⟨φ3,w3,_,_,.panic v v' hv,vO.mono (Ph.le_trans ab1 fr3.ext),ok3,(fr1.trans fr2).trans fr3,iO.mono (Ph.le_trans hle fr3.ext),_,.head (start n st hp) kO⟩
       · simp at h
     · simp at h
   · simp at h
 · simp at h
end Go.Ab
end
