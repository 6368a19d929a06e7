import Derived.Orders
import Derived.Test.YtkkpegaeikljmaaGreatDoorA2
set_option linter.unusedVariables false
set_option linter.unusedSimpArgs false
section
namespace Go.Ab
variable {E:Env}
theorem lF {α:Type} {f:α→α→Bool} (hf:∀x y,f x y=true→x=y):∀{l r:List α} (_:dL f l r=true),l=r
 | [],[],_=>rfl
 | [],_::_,h=>by simp [dL] at h
 | _::_,[],h=>by simp [dL] at h
 | x::xs,y::ys,h=>by
   simp only[dL,Bool.and_eq_true] at h
   rw[hf x y h.1,lF hf h.2]
theorem AV.uC:∀(n:Nat) (x y:AV),AV.same n x y=true→x=y
 | 0,_,_,h=>by simp [AV.same] at h
 | n+1,x,y,h=>by
   have ih:=AV.uC n
   cases x<;>cases y<;>simp [AV.same] at h<;>try rfl
   all_goals first
    | (subst h;rfl)
    | (obtain ⟨rfl,rfl⟩:=h;rfl)
    | (obtain ⟨⟨⟨⟨rfl,rfl⟩,rfl⟩,rfl⟩,rfl⟩:=h;rfl)
    | (obtain ⟨⟨rfl,h1⟩,h2⟩:=h;rw[lF ih h1,lF ih h2])
    | (obtain ⟨rfl,h1⟩:=h;rw[ih _ _ h1])
    | (rw[lF ih h])
theorem ar.uC {x y:ar} (h:ar.same x y=true):x=y:=by
 unfold ar.same at h
 split at h
 · simp only[Bool.and_eq_true,beq_iff_eq] at h
   obtain ⟨⟨h1,rfl⟩,rfl⟩:=h
   rw[lF (AV.uC 20) h1]
 · simp at h;subst h;rfl
 · simp at h;obtain ⟨rfl,rfl⟩:=h;rfl
 · simp at h
theorem Am:∀{l:List Nat} (_:nodup l=true),l.Nodup
 | [],_=> .nil
 | x::xs,h=>by
   simp only[nodup,Bool.and_eq_true,Bool.not_eq_true',List.contains_eq_mem,decide_eq_false_iff_not] at h
   exact List.nodup_cons.2 ⟨h.1,Am h.2⟩
theorem FR:∀(n:Nat) (l:List Nat) (_:l.Nodup) (_:∀x∈l,x<n),l.length≤n
 | 0,l,_,h=>by
   cases l with
   | nil=>simp
   | cons x _=>have:=h x (by simp);omega
 | n+1,l,hn,h=>by
   have h1:=FR n (l.erase n) (hn.erase n) (fun x hx=>by
    have h2:=h x (List.mem_of_mem_erase hx)
    have h3:x≠n:=(hn.mem_erase_iff.1 hx).1
    omega)
   rw[List.length_erase] at h1
   split at h1<;>omega
structure FT (E:Env) (ops:Array Oper) (pl:CQ):Prop where
 lt:∀i o j,ops[i]? =some o→eP pl.an i j=true→j<i
 direct:∀i o e,ops[i]? =some o→e∈pg o→e<i∧eP pl.an i e=true
 closed:∀i o j,ops[i]? =some o→eP pl.an i j=true→∃e∈pg o,e=j∨eP pl.an e j=true
 guard:∀i o g want,ops[i]? =some o→o.guard=some (g,want)→eP pl.an i g=true
 slot:∀i j o p d,i≠j→ops[i]? =some o→ops[j]? =some p→p.dst=some d→o.dst≠some d∧(d∈tmpsOf o→eP pl.an i j=true∨eP pl.an j i=true)
 chain:∀q e f,pl.cB[q]? =some e→pl.cB[q+1]? =some f→eP pl.an f e=true
 cB:pl.cB=J8 E ops.toList
 nd:pl.cB.Nodup
 order:uv E ops pl.an pl.cB pl.order [] 0=true
theorem ye {ops:Array Oper} {i:Nat} {o:Oper} (h:ops[i]? =some o):(o,i)∈ops.toList.zipIdx:=by
 rw[List.mk_mem_zipIdx_iff_getElem?];simpa using h
theorem Bm {an:List (List Nat)}:∀{l:List Nat} (_:E7 an l=true) (q e f:Nat),l[q]? =some e→l[q+1]? =some f→eP an f e=true
 | [],_,q,e,f,h,_=>by simp at h
 | [x],_,q,e,f,h,h'=>by simp at h'
 | x::y::l,hc,q,e,f,h,h'=>by
   simp only[E7,Bool.and_eq_true] at hc
   cases q with
   | zero=>simp at h h';subst h;subst h';exact hc.1
   | succ q=>exact Bm hc.2 q e f (by simpa using h) (by simpa using h')
theorem Ml {ops:Array Oper} {pl:CQ} (h:Fw E ops=some pl):FT E ops pl:=by
 unfold Fw at h
 simp only at h
 split at h
 · rename_i hc
   simp at h;subst h
   simp only[Bool.and_eq_true] at hc
   obtain ⟨⟨⟨⟨he,hs⟩,hch⟩,oV⟩,afw⟩:=hc
   have FU:=List.all_eq_true.1 he
   have zF:=List.all_eq_true.1 hs
   refine ⟨fun i o j ho hj=>?_,fun i o e ho hm=>?_,fun i o j ho hj=>?_,fun i o g want ho hg=>?_,fun i j o p d cR ho hp hd=>?_,Bm hch,rfl,Am oV,afw⟩
   · have:=FU _ (ye ho)
     simp only[Bool.and_eq_true] at this
     have h2:=List.all_eq_true.1 this.2 j (by simpa [eP] using hj)
     simp only[Bool.and_eq_true,decide_eq_true_eq] at h2
     exact h2.1
   · have:=FU _ (ye ho)
     simp only[Bool.and_eq_true] at this
     have h2:=List.all_eq_true.1 this.1 e hm
     simpa using h2
   · have:=FU _ (ye ho)
     simp only[Bool.and_eq_true] at this
     have h2:=List.all_eq_true.1 this.2 j (by simpa [eP] using hj)
     simp only[Bool.and_eq_true,List.any_eq_true,Bool.or_eq_true,beq_iff_eq] at h2
     exact h2.2
   · have:=zF _ (ye ho)
     simp only[Bool.and_eq_true,hg] at this
     exact this.1.1
   · have:=zF _ (ye ho)
     simp only[Bool.and_eq_true] at this
     have h2:=List.all_eq_true.1 this.2 _ (ye hp)
     simp only[Bool.or_eq_true,beq_iff_eq,cR,false_or,hd,Bool.and_eq_true,bne_iff_ne,Bool.not_eq_true',List.contains_eq_mem,decide_eq_false_iff_not] at h2
     exact ⟨h2.1,fun hm=>(h2.2.imp_left (fun x=>x.resolve_left (fun hn=>hn hm)))⟩
 · simp at h
def ui (E:Env) (ops:Array Oper) (l:List Nat):Nat:=(l.filter fun i=>ik E ((ops.getD i default).op)).length
theorem Ki {ops:Array Oper} {i:Nat} (l:List Nat) (h:ik E ((ops.getD i default).op)=true):ui E ops (i::l)=ui E ops l+1:=by
 unfold ui;rw[List.filter_cons_of_pos (p:=fun i=>ik E ((ops.getD i default).op)) h];rfl
theorem Kj {ops:Array Oper} {i:Nat} (l:List Nat) (h:¬ik E ((ops.getD i default).op)=true):ui E ops (i::l)=ui E ops l:=by
 unfold ui;rw[List.filter_cons_of_neg (p:=fun i=>ik E ((ops.getD i default).op)) h]
theorem iT {ops:Array Oper} {an:List (List Nat)} {cB:List Nat}:∀{l seen:List Nat} {k:Nat} (_:uv E ops an cB l seen k=true),
 (∀p i,l[p]? =some i→i<ops.size∧i ∉ seen∧i ∉ l.take p∧(∀j,eP an i j=true→j∈seen∨j∈l.take p)∧
  (ik E ((ops.getD i default).op)=true→cB[k+ui E ops (l.take p)]? =some i)∧(ik E ((ops.getD i default).op)=false→Xe cB an i=k+ui E ops (l.take p)))∧
 (∀i,i<ops.size→i∈seen∨i∈l)∧k+ui E ops l=cB.length
 | [],seen,k,h=>by
   simp only[uv,Bool.and_eq_true,List.all_eq_true,List.mem_range,beq_iff_eq] at h
   exact ⟨fun p i hp=>by simp at hp,fun i hi=> .inl (by simpa using h.1 i hi),by simpa [ui] using h.2⟩
 | i::l,seen,k,h=>by
   simp only[uv,Bool.and_eq_true,decide_eq_true_eq,Bool.not_eq_true',List.contains_eq_mem,decide_eq_false_iff_not] at h
   obtain ⟨⟨⟨gL,hns⟩,afx⟩,qd⟩:=h
   have adQ:∀j,eP an i j=true→j∈seen:=fun j hj=>by
    have:=List.all_eq_true.1 afx j (by simpa [eP] using hj)
    simpa using this
   by_cases he:ik E ((ops.getD i default).op)=true
   · simp only[he,if_true,Bool.and_eq_true,beq_iff_eq] at qd
     obtain ⟨h1,h2,h3⟩:=iT qd.2
     refine ⟨fun p j hp=>?_,fun j hj=>?_,?_⟩
     · cases p with
       | zero=>simp at hp;subst hp;exact ⟨gL,hns,by simp,fun j hj=> .inl (adQ j hj),fun _=>by simpa [ui] using qd.1,fun hf=>by rw[he] at hf;simp at hf⟩
       | succ p=>
         obtain ⟨a1,a2,a3,a4,a5,a6⟩:=h1 p j (by simpa using hp)
         have hc:k+ui E ops (List.take (p+1) (i::l))=k+1+ui E ops (l.take p):=by rw[List.take_succ_cons,Ki _ he];omega
         simp only[List.mem_cons,not_or] at a2
         refine ⟨a1,a2.2,by simp;exact ⟨a2.1,a3⟩,fun m hm=>?_,by rw[hc];exact a5,by rw[hc];exact a6⟩
         rcases a4 m hm with h4 | h4
         · simp at h4;rcases h4 with rfl | h4
           · exact .inr (by simp)
           · exact .inl h4
         · exact .inr (by simp [h4])
     · rcases h2 j hj with h4 | h4
       · simp at h4;rcases h4 with rfl | h4
         · exact .inr (by simp)
         · exact .inl h4
       · exact .inr (by simp [h4])
     · rw[Ki _ he];omega
   · simp only[he,Bool.false_eq_true,if_false,Bool.and_eq_true,beq_iff_eq] at qd
     obtain ⟨h1,h2,h3⟩:=iT qd.2
     refine ⟨fun p j hp=>?_,fun j hj=>?_,?_⟩
     · cases p with
       | zero=>simp at hp;subst hp;exact ⟨gL,hns,by simp,fun j hj=> .inl (adQ j hj),fun hf=>absurd hf he,fun _=>by simpa [ui] using qd.1⟩
       | succ p=>
         obtain ⟨a1,a2,a3,a4,a5,a6⟩:=h1 p j (by simpa using hp)
         have hc:k+ui E ops (List.take (p+1) (i::l))=k+ui E ops (l.take p):=by rw[List.take_succ_cons,Kj _ he]
         simp only[List.mem_cons,not_or] at a2
         refine ⟨a1,a2.2,by simp;exact ⟨a2.1,a3⟩,fun m hm=>?_,by rw[hc];exact a5,by rw[hc];exact a6⟩
         rcases a4 m hm with h4 | h4
         · simp at h4;rcases h4 with rfl | h4
           · exact .inr (by simp)
           · exact .inl h4
         · exact .inr (by simp [h4])
     · rcases h2 j hj with h4 | h4
       · simp at h4;rcases h4 with rfl | h4
         · exact .inr (by simp)
         · exact .inl h4
       · exact .inr (by simp [h4])
     · rw[Kj _ he];exact h3
def gM (ops:Array Oper) (i:Nat):Option Tmp:=(ops[i]?).bind (·.dst)
def Kk (ops:Array Oper) (ts:List AV) (l:List Step):List AV:=l.foldl (fun ts x=>gW ts (gM ops x.i) x.v) ts
def rK (ops:Array Oper) (val:Nat→AV) (ts:List AV) (l:List Nat):List AV:=l.foldl (fun ts i=>gW ts (gM ops i) (val i)) ts
structure Grown (a b:ah):Prop where
 nx:a.nx≤b.nx
 old:∀i,i<a.nx→b.get i=a.get i
theorem Grown.refl (a:ah):Grown a a:=⟨Nat.le_refl _,fun _ _=>rfl⟩
theorem Grown.trans {a b c:ah} (x:Grown a b) (y:Grown b c):Grown a c:=⟨Nat.le_trans x.nx y.nx,fun i hi=>(y.old i (Nat.lt_of_lt_of_le hi x.nx)).trans (x.old i hi)⟩
theorem Grown.new {a b:ah} {o:ar} (h:a.new o=some b):Grown a b:=by
 obtain ⟨h1,h2,h3,h4⟩:=ah.nX h
 exact ⟨by omega,fun i hi=>h4 i (by omega)⟩
theorem OK.grown {φ:Ph} {a b:ah} {w:World} (g:Grown a b) (ok:OK E φ a w):OK E φ b w∧Fr φ a w φ b w:=by
 have hold:∀i l,φ i=some l→b.get i=a.get i:=fun i l hl=>g.old i (ok.ED i l hl)
 refine ⟨⟨fun i l hl=>Nat.lt_of_lt_of_le (ok.ED i l hl) g.nx,Nat.le_trans ok.nx g.nx,ok.Aa,fun i o l hi hl=>ok.live i o l (hold i l hl▸hi) hl,
  fun i j o p l m hi hj hl hm hw hb=>ok.inj i j o p l m (hold i l hl▸hi) (hold j m hm▸hj) hl hm hw hb⟩,
  ⟨Ph.le_refl φ,fun _ _=>rfl,g.nx,rfl,rfl,rfl,Nat.le_refl _,fun _ _ _=>rfl,fun i o l hi hr hl=> .inr ⟨i,o,l,hold i l hl▸hi,hr,hl,rfl⟩⟩⟩
def Bn (E:Env) (call:aE) (ops:Array Oper) (rc:RC) (x:Step) (o:Oper) (hk:ah) (sk:ah) (adR:Option ah):Prop:=
 match x.kind with
 | .off=>dC ops x.ts o=false∧x.v=AV.undef∧(ik E o.op=true→adR=some hk)
 | .pur=>ik E o.op=false∧dC ops x.ts o=true∧ct E x.ts o.op=some x.v
 | .red=>ik E o.op=false∧dC ops x.ts o=true
 | .Qh n obj=>ik E o.op=false∧dC ops x.ts o=true∧(∃mk,gh E x.ts o.op=some (obj,mk)∧x.v=mk n)∧sk.nx≤n∧n<hk.nx
 | .QJ h'=>ik E o.op=true∧dC ops x.ts o=true∧gV E call x.ts hk rc o= .val x.v h'∧adR=some h'
structure acd (E:Env) (call:aE) (ops:Array Oper) (s:St) (k:Nat) (order:List Nat) (tr:List Step) (hs st:List ah) (s':St):Prop where
 is:tr.map (·.i)=order
 ts:s'.ts=Kk ops s.ts tr
 ds:s'.ds=s.ds
 rc:s'.rc=s.rc
 len:hs.length=ui E ops order+1
 afy:st.length=hs.length
 first:st[0]? =some s.h
 last:hs[ui E ops order]? =some s'.h
 grown:∀(j:Nat) (a b:ah),st[j]? =some a→hs[j]? =some b→Grown a b
 step:∀(p:Nat) (x:Step),tr[p]? =some x→x.ts=Kk ops s.ts (tr.take p)∧x.k=k+ui E ops (order.take p)∧
  ∃o hk sk,ops[x.i]? =some o∧hs[ui E ops (order.take p)]? =some hk∧st[ui E ops (order.take p)]? =some sk∧Bn E call ops s.rc x o hk sk (st[ui E ops (order.take p)+1]?)
theorem yf (ops:Array Oper) (ts:List AV) (x:Step) (l:List Step):Kk ops ts (x::l)=Kk ops (gW ts (gM ops x.i) x.v) l:=rfl
theorem qi {call:aE} {ops:Array Oper}:∀{order:List Nat} {k:Nat} {s:St} {tr:List Step} {hs:List ah} {s':St} (_:dM E call ops order k s= .ok tr hs s'),
 ∃st,acd E call ops s k order tr hs st s'
 | [],k,s,tr,hs,s',h=>by
   simp [dM] at h;obtain ⟨rfl,rfl,rfl⟩:=h
   exact ⟨[s.h],rfl,rfl,rfl,rfl,rfl,rfl,rfl,rfl,fun j a b ha hb=>by
    cases j with
    | zero=>simp at ha hb;subst ha;subst hb;exact Grown.refl _
    | succ j=>simp at ha,fun p x hp=>by simp at hp⟩
 | i::rest,k,s,tr,hs,s',h=>by
   simp only[dM] at h
   cases ho:ops[i]? with
   | none=>rw[ho] at h;simp at h
   | some o=>
   rw[ho] at h
   simp only at h
   have Qm:ops.getD i default=o:=by simp [Array.getD_eq_getD_getElem?,ho]
   have ace:gM ops i=o.dst:=by simp [gM,ho]
   have writes:∀(x:Step) (s1:St),x.i=i→x.k=k→x.ts=s.ts→s1.ts=gW s.ts o.dst x.v→s1.ds=s.ds→s1.rc=s.rc→ik E o.op=true→
    Bn E call ops s.rc x o s.h s.h (some s1.h)→((dM E call ops rest (k+1) s1).bound s.h).step x= .ok tr hs s'→∃st,acd E call ops s k (i::rest) tr hs st s':=by
    intro x s1 Vb Kl hxt h1 h2 h3 he ja hd
    cases hr:dM E call ops rest (k+1) s1 with
    | fail uu q=>rw[hr] at hd;simp [ph.bound,ph.step] at hd
    | ok WX xY s2=>
      rw[hr] at hd;simp [ph.bound,ph.step] at hd;obtain ⟨rfl,rfl,rfl⟩:=hd
      obtain ⟨WY,t⟩:=qi hr
      have hc:∀l,ui E ops (i::l)=ui E ops l+1:=fun l=>Ki l (by rw[Qm];exact he)
      refine ⟨s.h::WY,by simp [Vb,t.is],?_,t.ds.trans h2,t.rc.trans h3,by simp [t.len,hc],by simp [t.afy],rfl,by rw[hc];simpa using t.last,fun j a b ha hb=>?_,fun p y hp=>?_⟩
      · rw[yf,Vb,ace,←h1];exact t.ts
      · cases j with
        | zero=>simp at ha hb;subst ha;subst hb;exact Grown.refl _
        | succ j=>exact t.grown j a b (by simpa using ha) (by simpa using hb)
      · cases p with
        | zero=>
          simp at hp;subst hp
          refine ⟨by simp [Kk,hxt],by simp [ui,Kl],o,s.h,s.h,by rw[Vb];exact ho,by simp [ui],by simp [ui],?_⟩
          have:(s.h::WY)[ui E ops (List.take 0 (i::rest))+1]? =some s1.h:=by simp [ui];exact t.first
          rw[this];exact ja
        | succ p=>
          obtain ⟨a1,a2,o2,hk,sk,a3,a4,a5,a6⟩:=t.step p y (by simpa using hp)
          refine ⟨?_,by rw[List.take_succ_cons,hc];omega,o2,hk,sk,a3,by rw[List.take_succ_cons,hc];simpa using a4,by rw[List.take_succ_cons,hc];simpa using a5,?_⟩
          · rw[List.take_succ_cons,yf,Vb,ace,←h1];exact a1
          · rw[List.take_succ_cons,hc,h3] at *
            simpa using a6
   have plain:∀(x:Step) (s1:St),x.i=i→x.k=k→x.ts=s.ts→s1.ts=gW s.ts o.dst x.v→s1.ds=s.ds→s1.rc=s.rc→ik E o.op=false→Grown s.h s1.h→
    (∀hk sn,Grown s1.h hk→Bn E call ops s.rc x o hk s.h sn)→(dM E call ops rest k s1).step x= .ok tr hs s'→∃st,acd E call ops s k (i::rest) tr hs st s':=by
    intro x s1 Vb Kl hxt h1 h2 h3 he hg ja hd
    cases hr:dM E call ops rest k s1 with
    | fail uu q=>rw[hr] at hd;simp [ph.step] at hd
    | ok WX xY s2=>
      rw[hr] at hd;simp [ph.step] at hd;obtain ⟨rfl,rfl,rfl⟩:=hd
      obtain ⟨WY,t⟩:=qi hr
      have hc:∀l,ui E ops (i::l)=ui E ops l:=fun l=>Kj l (by rw[Qm];simp [he])
      cases wj:WY with
      | nil=>have:=t.first;rw[wj] at this;simp at this
      | cons s0 st2=>
      have hs0:s0=s1.h:=by have:=t.first;rw[wj] at this;simpa using this
      subst hs0
      have jx:∀j,(s.h::st2)[j+1]? =WY[j+1]? :=fun j=>by rw[wj];rfl
      refine ⟨s.h::st2,by simp [Vb,t.is],?_,t.ds.trans h2,t.rc.trans h3,by rw[hc];exact t.len,by have:=t.afy;rw[wj] at this;simpa using this,rfl,by rw[hc];exact t.last,fun j a b ha hb=>?_,fun p y hp=>?_⟩
      · rw[yf,Vb,ace,←h1];exact t.ts
      · cases j with
        | zero=>
          simp at ha;subst ha
          exact hg.trans (t.grown 0 _ b t.first hb)
        | succ j=>rw[jx] at ha;exact t.grown (j+1) a b ha hb
      · cases p with
        | zero=>
          simp at hp;subst hp
          have h0:∃hk,xY[0]? =some hk:=by
           have:=t.len
           cases hh:xY with
           | nil=>rw[hh] at this;simp at this
           | cons a _=>exact ⟨a,rfl⟩
          obtain ⟨hk,DU⟩:=h0
          refine ⟨by simp [Kk,hxt],by simp [ui,Kl],o,hk,s.h,by rw[Vb];exact ho,by simpa [ui] using DU,by simp [ui],?_⟩
          exact ja hk _ (t.grown 0 _ hk t.first DU)
        | succ p=>
          obtain ⟨a1,a2,o2,hk,sk,a3,a4,a5,a6⟩:=t.step p y (by simpa using hp)
          have hsk:∃sk',(s.h::st2)[ui E ops (List.take p rest)]? =some sk'∧sk'.nx≤sk.nx:=by
           cases hq:ui E ops (List.take p rest) with
           | zero=>rw[hq] at a5;rw[t.first] at a5;simp at a5;subst a5;exact ⟨s.h,rfl,hg.nx⟩
           | succ q=>rw[hq] at a5;exact ⟨sk,by rw[jx];exact a5,Nat.le_refl _⟩
          obtain ⟨sk',akD,akE⟩:=hsk
          refine ⟨?_,by rw[List.take_succ_cons,hc];exact a2,o2,hk,sk',a3,by rw[List.take_succ_cons,hc];exact a4,by rw[List.take_succ_cons,hc];exact akD,?_⟩
          · rw[List.take_succ_cons,yf,Vb,ace,←h1];exact a1
          · rw[List.take_succ_cons,hc,jx,←h3]
            unfold Bn at a6 ⊢
            split<;>rename_i Bo<;>rw[Bo] at a6
            · exact a6
            · exact a6
            · exact a6
            · exact ⟨a6.1,a6.2.1,a6.2.2.1,Nat.le_trans akE a6.2.2.2.1,a6.2.2.2.2⟩
            · exact a6
   split at h
   · rename_i he
     split at h
     · rename_i hw
       split at h
       · rename_i v h' we
         exact writes ⟨i,k,s.ts,v,.QJ h'⟩ {s with ts:=gW s.ts o.dst v,h:=h'} rfl rfl rfl rfl rfl rfl he ⟨he,hw,we,rfl⟩ h
       · simp at h
       · simp at h
     · rename_i hw
       exact writes ⟨i,k,s.ts,AV.undef,.off⟩ {s with ts:=gW s.ts o.dst AV.undef} rfl rfl rfl rfl rfl rfl he ⟨by simpa using hw,rfl,fun _=>rfl⟩ h
   · rename_i he
     have FU:ik E o.op=false:=by simpa using he
     split at h
     · rename_i hw
       split at h
       · rename_i v hp
         exact plain ⟨i,k,s.ts,v,.pur⟩ {s with ts:=gW s.ts o.dst v} rfl rfl rfl rfl rfl rfl FU (Grown.refl _) (fun hk sn _=>⟨FU,hw,hp⟩) h
       · split at h
         · rename_i v hp
           exact plain ⟨i,k,s.ts,v,.red⟩ {s with ts:=gW s.ts o.dst v} rfl rfl rfl rfl rfl rfl FU (Grown.refl _) (fun hk sn _=>⟨FU,hw⟩) h
         · split at h
           · rename_i obj mk hp
             split at h
             · rename_i h' hn
               refine plain ⟨i,k,s.ts,mk s.h.nx,.Qh s.h.nx obj⟩ {s with ts:=gW s.ts o.dst (mk s.h.nx),h:=h'} rfl rfl rfl rfl rfl rfl FU (Grown.new hn) (fun hk sn g=>⟨FU,hw,⟨mk,hp,rfl⟩,Nat.le_refl _,?_⟩) h
               have:=(ah.nX hn).2.1
               have:=g.nx
               simp at this;omega
             · simp at h
           · simp at h
     · rename_i hw
       exact plain ⟨i,k,s.ts,AV.undef,.off⟩ {s with ts:=gW s.ts o.dst AV.undef} rfl rfl rfl rfl rfl rfl FU (Grown.refl _) (fun hk sn _=>⟨by simpa using hw,rfl,fun h=>by rw[FU] at h;simp at h⟩) h
end Go.Ab
end
section
namespace Go.Ab
variable {E:Env}
theorem yg (ops:Array Oper) (val:Nat→AV) (x:Nat):∀(l:List Nat) (ts:List AV) (_:∀j∈l,gM ops j≠some x),(rK ops val ts l)[x]? =ts[x]?
 | [],_,_=>rfl
 | i::l,ts,h=>by
   show (rK ops val (gW ts (gM ops i) (val i)) l)[x]? =_
   rw[yg ops val x l _ (fun j hj=>h j (by simp [hj]))]
   have:=h i (by simp)
   cases hd:gM ops i with
   | none=>rfl
   | some d=>
     rw[hd] at this
     have cR:d≠x:=fun e=>this (by rw[e])
     simp [gW,List.getElem?_set_ne cR]
theorem FV (ops:Array Oper) (val:Nat→AV) (x j:Nat) (hj:gM ops j=some x):∀(l:List Nat) (ts:List AV) (_:j∈l) (_:∀j'∈l,gM ops j'=some x→j'=j),(rK ops val ts l)[x]? =if x<ts.length then some (val j) else none
 | i::l,ts,hm,hu=>by
   show (rK ops val (gW ts (gM ops i) (val i)) l)[x]? =_
   have hlen:(gW ts (gM ops i) (val i)).length=ts.length:=by cases gM ops i<;>simp [gW]
   by_cases EJ:j∈l
   · rw[FV ops val x j hj l _ EJ (fun j' h=>hu j' (by simp [h])),hlen]
   · have hij:i=j:=by simp at hm;rcases hm with h | h;exact h.symm;exact absurd h EJ
     subst hij
     rw[yg ops val x l _ (fun j' Ae e=>EJ (hu j' (by simp [Ae]) e▸Ae))]
     rw[hj]
     simp [gW,List.getElem?_set]
theorem An {ops:Array Oper} {val:Nat→AV} {x:Nat} {l d:List Nat} (ts:List AV) (hu:∀j j',gM ops j=some x→gM ops j'=some x→j=j') (adS:∀j,gM ops j=some x→(j∈l↔j∈d)):
 (rK ops val ts l)[x]? =(rK ops val ts d)[x]? :=by
 by_cases h:∃j,gM ops j=some x∧j∈l
 · obtain ⟨j,hj,hl⟩:=h
   rw[FV ops val x j hj l ts hl (fun j' _ e=>hu j' j e hj),FV ops val x j hj d ts ((adS j hj).1 hl) (fun j' _ e=>hu j' j e hj)]
 · rw[yg ops val x l ts (fun j hj e=>h ⟨j,e,hj⟩),yg ops val x d ts (fun j hj e=>h ⟨j,e,(adS j e).2 hj⟩)]
theorem CZ {l r:List AV} {x:Nat} (h:l[x]? =r[x]?) (d:AV):l.getD x d=r.getD x d:=by simp [List.getD,h]
def valOf (tr:List Step) (i:Nat):AV:=((tr.find? (fun x=>x.i==i)).map (·.v)).getD AV.undef
theorem Mm {tr:List Step} (hn:(tr.map (·.i)).Nodup) {p:Nat} {x:Step} (hp:tr[p]? =some x):valOf tr x.i=x.v:=by
 unfold valOf
 have:tr.find? (fun y=>y.i==x.i)=some x:=by
  rw[List.find?_eq_some_iff_getElem]
  obtain ⟨gL,hx⟩:=List.getElem?_eq_some_iff.1 hp
  refine ⟨by simp,p,gL,hx,fun j hj=>?_⟩
  have EJ:j<tr.length:=by omega
  simp only[Bool.not_eq_true',beq_eq_false_iff_ne]
  intro e
  have h1:(tr.map (·.i))[j]? =some x.i:=by simp [EJ,e]
  have h2:(tr.map (·.i))[p]? =some x.i:=by simp [gL,hx]
  have:=(List.getElem?_inj (by simpa using EJ) hn).1 (h1.trans h2.symm)
  omega
 rw[this];rfl
theorem Km (ops:Array Oper) {tr:List Step} (hn:(tr.map (·.i)).Nodup) (ts:List AV) (p:Nat):Kk ops ts (tr.take p)=rK ops (valOf tr) ts ((tr.map (·.i)).take p):=by
 have key:∀(l:List Step) (ts:List AV),(∀x∈l,valOf tr x.i=x.v)→Kk ops ts l=rK ops (valOf tr) ts (l.map (·.i)):=by
  intro l
  induction l with
  | nil=>intro ts _;rfl
  | cons x l ih=>
    intro ts h
    show Kk ops (gW ts (gM ops x.i) x.v) l=rK ops (valOf tr) (gW ts (gM ops x.i) (valOf tr x.i)) (l.map (·.i))
    rw[h x (by simp),ih _ (fun y hy=>h y (by simp [hy]))]
 rw[key _ _ (fun x hx=>?_),List.map_take]
 obtain ⟨q,hq⟩:=List.getElem?_of_mem (List.mem_of_mem_take hx)
 exact Mm hn hq
theorem OK.place {φ:Ph} {h:ah} {w:World} (ok:OK E φ h w) {n:Nat} {obj:ar} (hg:h.get n=some obj) (DK:φ n=none) (gL:n<h.nx) {O:Obj}
 (ho:OR E (φ.add n ⟨w.heap.size,0,0⟩) obj ⟨w.heap.size,0,0⟩ (some O)):OK E (φ.add n ⟨w.heap.size,0,0⟩) h (w.alloc O)∧φ.le (φ.add n ⟨w.heap.size,0,0⟩):=by
 have hle:φ.le (φ.add n ⟨w.heap.size,0,0⟩):=fun j m hm=>by
  unfold Ph.add;split
  · rename_i e;subst e;rw[DK] at hm;simp at hm
  · exact hm
 have nh:∀j,j≠n→(φ.add n ⟨w.heap.size,0,0⟩) j=φ j:=fun j hj=>by simp [Ph.add,hj]
 have ju:(φ.add n ⟨w.heap.size,0,0⟩) n=some ⟨w.heap.size,0,0⟩:=by simp [Ph.add]
 have adT:(w.alloc O).heap=w.heap.push O:=rfl
 have EG:∀j p m,h.get j=some p→φ j=some m→m.fO<w.heap.size:=fun j p m hj hm=>by
  have LY:=ok.live j p m hj hm
  rcases Nat.lt_or_ge m.fO w.heap.size with a | a
  · exact a
  · exfalso
    rw[Array.getElem?_eq_none a] at LY
    exact LY.absurd
 refine ⟨⟨fun j m hm=>?_,ok.nx,fun g hg=>hle _ _ (ok.Aa g hg),fun j p m hj hm=>?_,fun j k p q m r hj hk hm hr hw hb=>?_⟩,hle⟩
 · by_cases e:j=n
   · omega
   · rw[nh j e] at hm;exact ok.ED j m hm
 · by_cases e:j=n
   · subst e;rw[ju] at hm;simp at hm;subst hm;rw[hg] at hj;simp at hj;subst hj;rw[adT];simpa using ho
   · rw[nh j e] at hm
     have hb:=EG j p m hj hm
     rw[adT,Array.getElem?_push,if_neg (by omega)]
     exact (ok.live j p m hj hm).mono hle
 · by_cases e:j=n<;>by_cases e':k=n
   · rw[e,e']
   · subst e;rw[ju] at hm;simp at hm;subst hm;rw[nh k e'] at hr;have:=EG k q r hk hr;simp at hb;omega
   · subst e';rw[ju] at hr;simp at hr;subst hr;rw[nh j e] at hm;have:=EG j p m hj hm;simp at hb;omega
   · rw[nh j e] at hm;rw[nh k e'] at hr;exact ok.inj j k p q m r hj hk hm hr hw hb
theorem Fr.place {φ₀ φ:Ph} {h₀ h:ah} {w₀ w:World} (f:Fr φ₀ h₀ w₀ φ h w) {n:Nat} (hn:h₀.nx≤n) (DK:φ n=none) (O:Obj):Fr φ₀ h₀ w₀ (φ.add n ⟨w.heap.size,0,0⟩) h (w.alloc O):=by
 have nh:∀j,j≠n→(φ.add n ⟨w.heap.size,0,0⟩) j=φ j:=fun j hj=>by simp [Ph.add,hj]
 have ju:(φ.add n ⟨w.heap.size,0,0⟩) n=some ⟨w.heap.size,0,0⟩:=by simp [Ph.add]
 refine ⟨fun j m hm=>?_,fun i hi=>by rw[nh i (by omega)];exact f.old i hi,f.nx,f.os,f.tape,f.output,by have:=f.size;simp;omega,fun b hb WO=>?_,fun i o l hi hr hl=>?_⟩
 · by_cases e:j=n
   · subst e;have:=f.ext j m hm;rw[DK] at this;simp at this
   · rw[nh j e];exact f.ext j m hm
 · have:=f.size
   rw[show (w.alloc O).heap=w.heap.push O from rfl,Array.getElem?_push,if_neg (by omega)]
   exact f.EF b hb WO
 · by_cases e:i=n
   · subst e;rw[ju] at hl;simp at hl;subst hl;exact .inl f.size
   · rw[nh i e] at hl;exact f.own i o l hi hr hl
theorem filter_le {P:Nat→Bool} {l:List Nat} {K:Nat} (h:∀q e,l[q]? =some e→P e=true→q<K):(l.filter P).length≤K:=by
 have h1:(l.drop K).filter P=[]:=by
  rw[List.filter_eq_nil_iff]
  intro e he hP
  obtain ⟨q,hq⟩:=List.getElem?_of_mem he
  rw[List.getElem?_drop] at hq
  have:=h _ e hq hP
  omega
 calc (l.filter P).length=((l.take K++l.drop K).filter P).length:=by rw[List.take_append_drop]
  _=((l.take K).filter P).length:=by rw[List.filter_append,h1,List.append_nil]
  _≤(l.take K).length:=List.length_filter_le _ _
  _≤K:=by simp;omega
theorem Bp {P:Nat→Bool}:∀{l:List Nat} {e:Nat} (_:l[(l.takeWhile P).length]? =some e),P e=false
 | [],e,h=>by simp at h
 | x::l,e,h=>by
   by_cases hx:P x=true
   · rw[List.takeWhile_cons_of_pos hx] at h
     exact Bp (l:=l) (by simpa using h)
   · rw[List.takeWhile_cons_of_neg hx] at h
     simp at h;subst h;simpa using hx
end Go.Ab
end
section
namespace Go.Ab
variable {E:Env}
structure Kn (E:Env) (call:aE) (ops:Array Oper) (pl:CQ) (s s':St) (tr:List Step) (hs st:List ah):Prop where
 vE:FT E ops pl
 trace:acd E call ops s 0 pl.order tr hs st s'
 still:∀x∈tr,∀K hk,x.k≤K→K≤sG pl.cB pl.an x.i→hs[K]? =some hk→qa E ops x hk=true
 ids:∀(x y:Step),x∈tr→y∈tr→∀(n:Nat) (o q:ar),x.kind= .Qh n o→y.kind= .Qh n q→x.i=y.i
structure Inv (E:Env) (ops:Array Oper) (pl:CQ) (s:St) (tr:List Step) (hs st:List ah) (φ₀:Ph) (w₀:World) (A4:List Deferred) (d:List Nat) (listed:Array Bool) (K:Nat) (φ:Ph) (a:Act) (w:World):Prop where
 nd:d.Nodup
 lt:∀i∈d,i<ops.size
 listed:∀i,i<ops.size→listed[i]? =some (decide (i∈d))
 closed:∀i∈d,∀j,eP pl.an i j=true→j∈d
 cB:∀q e,pl.cB[q]? =some e→(e∈d↔q<K)
 Kle:K≤pl.cB.length
 ts:LR φ (rK ops (valOf tr) s.ts d) a.tmps.toList
 ds:a.defers=A4
 ok:∃hK,hs[K]? =some hK∧OK E φ hK w∧Fr φ₀ s.h w₀ φ hK w
 jE:∀x∈tr,∀n obj,x.kind= .Qh n obj→x.i ∉ d→x.k≤K→φ n=none∧s.h.nx≤n∧∀hK,hs[K]? =some hK→n<hK.nx
section
variable {call:aE} {ops:Array Oper} {pl:CQ} {s s':St} {tr:List Step} {hs st:List ah}
theorem Kn.at (r:Kn E call ops pl s s' tr hs st) {p:Nat} {x:Step} (hp:tr[p]? =some x):
 pl.order[p]? =some x.i∧x.i ∉ pl.order.take p∧(∀j,eP pl.an x.i j=true→j∈pl.order.take p)∧x.k=ui E ops (pl.order.take p)∧
 ∃o,ops[x.i]? =some o∧(ik E o.op=true→pl.cB[x.k]? =some x.i)∧(ik E o.op=false→Xe pl.cB pl.an x.i=x.k):=by
 have h1:pl.order[p]? =some x.i:=by rw[←r.trace.is,List.getElem?_map,hp];rfl
 obtain ⟨h2,_,_⟩:=iT r.vE.order
 obtain ⟨a1,a2,a3,a4,a5,a6⟩:=h2 p x.i h1
 obtain ⟨b1,b2,o,hk,sk,b3,_⟩:=r.trace.step p x hp
 have Qm:ops.getD x.i default=o:=by simp [Array.getD_eq_getD_getElem?,b3]
 rw[Qm] at a5 a6
 have IZ:x.k=ui E ops (pl.order.take p):=by omega
 refine ⟨h1,a3,fun j hj=>(a4 j hj).resolve_left (by simp),IZ,o,b3,fun he=>?_,fun he=>?_⟩
 · have:=a5 he;rw[IZ];simpa using this
 · have:=a6 he;omega
theorem zI:∀{l:List Nat} (_:∀(p i:Nat),l[p]? =some i→i ∉ l.take p),l.Nodup
 | [],_=> .nil
 | x::l,h=>by
   refine List.nodup_cons.2 ⟨fun hm=>?_,zI (fun p i hp hi=>h (p+1) i (by simpa using hp) (by simp [hi]))⟩
   obtain ⟨q,hq⟩:=List.getElem?_of_mem hm
   exact h (q+1) x (by simpa using hq) (by simp)
theorem Kn.nodup (r:Kn E call ops pl s s' tr hs st):pl.order.Nodup:=by
 obtain ⟨h2,_,_⟩:=iT r.vE.order
 exact zI (fun p i hp=>(h2 p i hp).2.2.1)
theorem Kn.all (r:Kn E call ops pl s s' tr hs st) {i:Nat} (hi:i<ops.size):∃(p:Nat) (x:Step),tr[p]? =some x∧x.i=i:=by
 obtain ⟨_,h3,_⟩:=iT r.vE.order
 have:=(h3 i hi).resolve_left (by simp)
 rw[←r.trace.is] at this
 obtain ⟨x,hx,rfl⟩:=List.mem_map.1 this
 obtain ⟨p,hp⟩:=List.getElem?_of_mem hx
 exact ⟨p,x,hp,rfl⟩
theorem Bq {ops:Array Oper} {pl:CQ} (pok:FT E ops pl) {x j j':Nat} (h:gM ops j=some x) (h':gM ops j'=some x):j=j':=by
 unfold gM at h h'
 cases ho:ops[j]? with
 | none=>rw[ho] at h;simp at h
 | some o=>
 cases Mn:ops[j']? with
 | none=>rw[Mn] at h';simp at h'
 | some o'=>
 rw[ho] at h;rw[Mn] at h'
 simp at h h'
 rcases Nat.decEq j j' with cR | he
 · exact absurd h (pok.slot j j' o o' x cR ho Mn h').1
 · exact he
theorem agree (r:Kn E call ops pl s s' tr hs st) {p:Nat} {x:Step} {o:Oper} (hp:tr[p]? =some x) (ho:ops[x.i]? =some o) {d:List Nat} (hd:x.i ∉ d) (hcl:∀i∈d,∀j,eP pl.an i j=true→j∈d)
 (uD:∀j,eP pl.an x.i j=true→j∈d):I7 E x.ts (rK ops (valOf tr) s.ts d) o.op∧dC ops (rK ops (valOf tr) s.ts d) o=dC ops x.ts o:=by
 obtain ⟨h1,h2,h3,_,_⟩:=r.at hp
 have oV:(tr.map (·.i)).Nodup:=by rw[r.trace.is];exact r.nodup
 have XC:x.ts=rK ops (valOf tr) s.ts (pl.order.take p):=by
  rw[(r.trace.step p x hp).1,Km ops oV,r.trace.is]
 have hpc:∀j∈pl.order.take p,∀m,eP pl.an j m=true→m∈pl.order.take p:=by
  intro j hj m hm
  obtain ⟨q,hq⟩:=List.getElem?_of_mem hj
  have hqp:q<p:=by
   have:=(List.getElem?_eq_some_iff.1 hq).1
   simp at this;omega
  have Ii:pl.order[q]? =some j:=by rw[List.getElem?_take] at hq;rw[if_pos hqp] at hq;exact hq
  obtain ⟨f1,_,_⟩:=iT r.vE.order
  have:=((f1 q j Ii).2.2.2.1 m hm).resolve_left (by simp)
  exact List.mem_of_mem_take (i:=q) (l:=pl.order.take p) (by rw[List.take_take,Nat.min_eq_left (Nat.le_of_lt hqp)];exact this)
 have same:∀t,(∀j p',j≠x.i→ops[j]? =some p'→p'.dst=some t→eP pl.an x.i j=true∨eP pl.an j x.i=true)→(rK ops (valOf tr) s.ts (pl.order.take p))[t]? =(rK ops (valOf tr) s.ts d)[t]? :=by
  intro t ht
  refine An s.ts (fun j j' a b=>Bq r.vE a b) (fun j hj=>?_)
  by_cases hji:j=x.i
  · subst hji;exact ⟨fun h=>absurd h h2,fun h=>absurd h hd⟩
  · obtain ⟨p',hp',hd'⟩:∃p',ops[j]? =some p'∧p'.dst=some t:=by
     unfold gM at hj
     cases hoj:ops[j]? with
     | none=>rw[hoj] at hj;simp at hj
     | some p'=>rw[hoj] at hj;exact ⟨p',rfl,by simpa using hj⟩
    rcases ht j p' hji hp' hd' with h | h
    · exact ⟨fun _=>uD j h,fun _=>h3 j h⟩
    · exact ⟨fun hm=>absurd (hpc j hm _ h) h2,fun hm=>absurd (hcl j hm _ h) hd⟩
 rw[XC]
 refine ⟨fun y hy=>?_,?_⟩
 · cases y with
   | tmp t=>
     have ht:t∈tmpsOf o:=by
      unfold tmpsOf;rw[List.mem_filterMap];exact ⟨.tmp t,by simpa using hy,rfl⟩
     simp only[eW]
     rw[CZ (same t (fun j p' cR hp' hd'=>(r.vE.slot x.i j o p' t (Ne.symm cR) ho hp' hd').2 ht))]
   | const c=>rfl
   | global g=>rfl
   | func f=>rfl
 · unfold dC
   cases hg:o.guard with
   | none=>rfl
   | some gw=>
     obtain ⟨g,want⟩:=gw
     simp only
     cases hdg:(ops[g]?).bind (·.dst) with
     | none=>rfl
     | some t=>
       simp only
       have afx:=r.vE.guard x.i o g want ho hg
       rw[same t (fun j p' cR hp' hd'=>by
        have:j=g:=Bq r.vE (x:=t) (by unfold gM;rw[hp'];simpa using hd') hdg
        subst this;exact .inl afx)]
end
end Go.Ab
end
section
namespace Go.Ab
variable {E:Env}
section
variable {call:aE} {ops:Array Oper} {pl:CQ} {s s':St} {tr:List Step} {hs st:List ah}
theorem I8 {l:List Oper} {i:Nat}:i∈J8 E l↔∃o,l[i]? =some o∧ik E o.op=true:=by
 unfold J8
 simp only[List.mem_map,List.mem_filter,Prod.exists]
 constructor
 · rintro ⟨o,j,⟨h1,h2⟩,rfl⟩
   exact ⟨o,by rw[List.mk_mem_zipIdx_iff_getElem?] at h1;exact h1,h2⟩
 · rintro ⟨o,h1,h2⟩
   exact ⟨o,i,⟨by rw[List.mk_mem_zipIdx_iff_getElem?];exact h1,h2⟩,rfl⟩
theorem FT.acf (pok:FT E ops pl) {i:Nat} {o:Oper} (ho:ops[i]? =some o):i∈pl.cB↔ik E o.op=true:=by
 rw[pok.cB,I8]
 constructor
 · rintro ⟨o',h1,h2⟩
   have:ops.toList[i]? =some o:=by simpa using ho
   rw[this] at h1;simp at h1;subst h1;exact h2
 · intro h;exact ⟨o,by simpa using ho,h⟩
theorem Inv.FW {φ₀ φ:Ph} {w₀ w:World} {A4:List Deferred} {d:List Nat} {listed:Array Bool} {K:Nat} {a:Act} (r:Kn E call ops pl s s' tr hs st) (inv:Inv E ops pl s tr hs st φ₀ w₀ A4 d listed K φ a w)
 {x:Step} (hx:pl.cB[x.k]? =some x.i) (hd:x.i ∉ d) (uD:∀j,eP pl.an x.i j=true→j∈d):x.k=K:=by
 have h1:¬x.k<K:=fun h=>hd ((inv.cB x.k x.i hx).2 h)
 rcases Nat.lt_or_ge K x.k with h | h
 · exfalso
   obtain ⟨q,hq⟩:∃q,x.k=q+1:=⟨x.k - 1,by omega⟩
   have gL:q<pl.cB.length:=by have:=(List.getElem?_eq_some_iff.1 hx).1;omega
   have Ii:pl.cB[q]? =some pl.cB[q]:=by simp [gL]
   have:=r.vE.chain q _ x.i Ii (by rw[←hq];exact hx)
   have:=(inv.cB q _ Ii).1 (uD _ this)
   omega
 · omega
theorem Inv.XD {φ₀ φ:Ph} {w₀ w:World} {A4:List Deferred} {d:List Nat} {listed:Array Bool} {K:Nat} {a:Act} (inv:Inv E ops pl s tr hs st φ₀ w₀ A4 d listed K φ a w)
 {i:Nat} (hd:i ∉ d) (uD:∀j,eP pl.an i j=true→j∈d):Xe pl.cB pl.an i≤K∧K≤sG pl.cB pl.an i:=by
 refine ⟨filter_le (fun q e hq he=>(inv.cB q e hq).1 (uD e he)),?_⟩
 rcases Nat.lt_or_ge (sG pl.cB pl.an i) K with h | h
 · exfalso
   have gL:sG pl.cB pl.an i<pl.cB.length:=by have:=inv.Kle;omega
   have hq:pl.cB[sG pl.cB pl.an i]? =some pl.cB[sG pl.cB pl.an i]:=by simp [gL]
   have h1:=Bp (P:=fun e=> !eP pl.an e i) hq
   simp only[Bool.not_eq_false'] at h1
   exact hd (inv.closed _ ((inv.cB _ _ hq).2 h) i h1)
 · exact h
theorem Vc (ops:Array Oper) (val:Nat→AV) (ts:List AV) (d:List Nat) (i:Nat):rK ops val ts (d++[i])=gW (rK ops val ts d) (gM ops i) (val i):=by
 simp [rK]
theorem Inv.snoc {φ₀ φ φ':Ph} {w₀ w w':World} {A4:List Deferred} {d:List Nat} {listed:Array Bool} {K K':Nat} {a:Act} (r:Kn E call ops pl s s' tr hs st) (inv:Inv E ops pl s tr hs st φ₀ w₀ A4 d listed K φ a w)
 {p:Nat} {x:Step} {o:Oper} (hp:tr[p]? =some x) (ho:ops[x.i]? =some o) (hd:x.i ∉ d) (uD:∀j,eP pl.an x.i j=true→j∈d) (hle:φ.le φ') {v':Value} (hv:VR φ' x.v v')
 (hK:(ik E o.op=false∧K'=K)∨(ik E o.op=true∧x.k=K∧pl.cB[x.k]? =some x.i∧K'=K+1))
 (rJ:∃hK,hs[K']? =some hK∧OK E φ' hK w'∧Fr φ₀ s.h w₀ φ' hK w')
 (ahx:∀y∈tr,∀n obj,y.kind= .Qh n obj→y.i ∉ d→y.i≠x.i→y.k≤K'→φ' n=none∧s.h.nx≤n∧∀hK,hs[K']? =some hK→n<hK.nx):
 Inv E ops pl s tr hs st φ₀ w₀ A4 (d++[x.i]) (listed.setIfInBounds x.i true) K' φ' (a.put o.dst v') w':=by
 have oV:(tr.map (·.i)).Nodup:=by rw[r.trace.is];exact r.nodup
 have gL:x.i<ops.size:=(Array.getElem?_eq_some_iff.1 ho).1
 refine ⟨?_,fun i hi=>?_,fun i hi=>?_,fun i hi j hj=>?_,fun q e hq=>?_,?_,?_,by rw[put_defers];exact inv.ds,rJ,fun y hy n obj Th hyd hyk=>?_⟩
 · rw[List.nodup_append];exact ⟨inv.nd,by simp,fun a ha b hb=>by simp at hb;subst hb;exact fun e=>hd (e▸ha)⟩
 · simp at hi;rcases hi with h | rfl
   · exact inv.lt i h
   · exact gL
 · have h1:=inv.listed i hi
   by_cases e:x.i=i
   · subst e
     have QO:x.i<listed.size:=(Array.getElem?_eq_some_iff.1 h1).1
     rw[Array.getElem?_setIfInBounds];simp [QO]
   · rw[Array.getElem?_setIfInBounds_ne e,h1]
     simp [show i≠x.i from fun h=>e h.symm]
 · simp at hi;rcases hi with h | rfl
   · exact List.mem_append_left _ (inv.closed i h j hj)
   · exact List.mem_append_left _ (uD j hj)
 · rcases hK with ⟨he,rfl⟩ | ⟨he,Kl,hxe,rfl⟩
   · have cR:e≠x.i:=fun h=>by
      subst h
      have:=(r.vE.acf ho).1 (List.mem_of_getElem? hq)
      rw[he] at this;simp at this
     simp [cR,inv.cB q e hq]
   · have hqe:e=x.i↔q=K:=by
      constructor
      · intro h;subst h
        have:=(List.getElem?_inj (List.getElem?_eq_some_iff.1 hq).1 r.vE.nd).1 (hq.trans hxe.symm)
        omega
      · intro h;subst h;rw[←Kl,hxe] at hq;simpa using hq.symm
     simp only[List.mem_append,List.mem_singleton,inv.cB q e hq,hqe]
     omega
 · rcases hK with ⟨he,rfl⟩ | ⟨he,Kl,hxe,rfl⟩
   · exact inv.Kle
   · have:=(List.getElem?_eq_some_iff.1 hxe).1;omega
 · rw[Vc,Mm oV hp]
   have:gM ops x.i=o.dst:=by simp [gM,ho]
   rw[this]
   exact Xx (inv.ts.mono hle) o.dst hv
 · simp only[List.mem_append,List.mem_singleton,not_or] at hyd
   exact ahx y hy n obj Th hyd.1 hyd.2 hyk
theorem Vd (hE:jZ E) {call:aE} (cE:iu E call) {ts:List AV} {h h':ah} {rc:RC} {o:Oper} {v:AV} (we:gV E call ts h rc o= .val v h') {i:Nat} {rest:List Nat} (ho:ops[i]? =some o)
 {φ:Ph} {a:Act} {w:World} {b:Frame} {k:List Item} {K:Bool→List Frame} (XC:LR φ ts a.tmps.toList) (ok:OK E φ h w) (gv:oK φ b K rc) (hw:Region.wanted o (yielded ops a.tmps)=true):
 ∃φ' w' v',VR φ' v v'∧OK E φ' h' w'∧Fr φ h w φ' h' w'∧Steps E.P (lone (b.atR a (.inRegion ops (i::rest)::k)) (cur K rc) w) (lone (b.atR (a.put o.dst v') (.inRegion ops rest::k)) (cur K rc) w'):=by
 have Qj:=Al hE cE (rc:=rc) (o:=o) XC ok
 have oV:rc.qg=false∨∀c,o.op≠ .defer c:=by
  by_cases hd:∃c,o.op= .defer c
  · obtain ⟨c,hd⟩:=hd
    unfold gV at we
    simp only[hd] at we
    split at we<;>simp at we
  · exact .inr (fun c e=>hd ⟨c,e⟩)
 have lj:=uA gv oV a.eval
 rw[we] at Qj
 cases Qj with
 | val v h' φ' w' v' hv yd fr run=>exact ⟨φ',w',v',hv,yd,fr,.one (nY lj ho hw run)⟩
 | skip h' φ' w' yd fr run=>exact ⟨φ',w',undef,.undef φ',yd,fr,.one (Me lj ho hw run)⟩
 | enter v h' F args all hr hf hl run=>
   obtain ⟨n,start,hp,ja⟩:=hr φ w all ok hf hl
   obtain ⟨φ',w',v',hv,yd,fr,jj⟩:=ja (b.atR a (.inRegion ops (i::rest)::k)) (cur K rc)
   rw[xZ ho] at jj
   exact ⟨φ',w',v',hv,yd,fr,.head (Bi lj ho hw hp (run n start hp)) jj⟩
 | Xz cR FM run=>
   have DK:∀fr:Frame,fr.kind=b.kind→tryRecover fr (cur K rc)=none:=by
    cases Kg:rc with
    | no=>rw[Kg] at gv;exact gv.2
    | jE v=>exact absurd Kg (cR v)
    | done=>rw[Kg] at gv;exact gv.2
    | WN l=>rw[Kg] at FM;simp [RC.qg] at FM
   exact ⟨φ,w,.nilIface,.nilIface,ok,Fr.refl _ _ _,.one (zH (gv.plain FM) lj ho hw run (DK _ rfl))⟩
theorem Inv.Tl (hE:jZ E) {I9:aE} (cE:iu E I9) {φ₀ φ:Ph} {w₀ w:World} {A4:List Deferred} {d:List Nat} {listed:Array Bool} {K:Nat} {a:Act} (r:Kn E call ops pl s s' tr hs st) (inv:Inv E ops pl s tr hs st φ₀ w₀ A4 d listed K φ a w)
 {b:Frame} {k:List Item} {Ks:Bool→List Frame} (gv:oK φ₀ b Ks s.rc) {i:Nat} (hi:i<ops.size) (hd:i ∉ d) (uD:∀j,eP pl.an i j=true→j∈d)
 (I_:∀(x:Step) (o:Oper) (hk h':ah),x∈tr→x.i=i→ops[x.i]? =some o→hs[x.k]? =some hk→x.kind= .QJ h'→gV E I9 x.ts hk s.rc o= .val x.v h') (rest:List Nat):
 ∃K' φ' a' w',Inv E ops pl s tr hs st φ₀ w₀ A4 (d++[i]) (listed.setIfInBounds i true) K' φ' a' w'∧
  Steps E.P (lone (b.atR a (.inRegion ops (i::rest)::k)) (cur Ks s.rc) w) (lone (b.atR a' (.inRegion ops rest::k)) (cur Ks s.rc) w'):=by
 obtain ⟨p,x,hp,rfl⟩:=r.all hi
 have hxm:x∈tr:=List.mem_of_getElem? hp
 obtain ⟨h1,h2,h3,hk,o,ho,we,adU⟩:=r.at hp
 obtain ⟨_,_,o',hk1,sk1,Mn,DU,hsk,ja⟩:=r.trace.step p x hp
 rw[ho] at Mn;simp at Mn;subst Mn
 rw[←hk] at DU hsk ja
 obtain ⟨hag,XE⟩:=agree r hp ho hd inv.closed uD
 obtain ⟨hK,hhK,ok,fr⟩:=inv.ok
 have hwe:Region.wanted o (yielded ops a.tmps)=dC ops x.ts o:=by rw[Ak inv.ts o,XE]
 have acg:I7 E (rK ops (valOf tr) s.ts d) x.ts o.op:=fun y hy=>(hag y hy).symm
 have same:∀y∈tr,∀n obj,y.kind= .Qh n obj→y.i ∉ d→y.i≠x.i→y.k≤K→φ n=none∧s.h.nx≤n∧∀hK,hs[K]? =some hK→n<hK.nx:=
  fun y hy n obj a1 a2 _ a3=>inv.jE y hy n obj a1 a2 a3
 have wrote:∀(φ':Ph) (h':ah) (w':World),x.k=K→st[K+1]? =some h'→OK E φ' h' w'→Fr φ hK w φ' h' w'→
  ∃Tm,hs[K+1]? =some Tm∧OK E φ' Tm w'∧Fr φ₀ s.h w₀ φ' Tm w'∧
  ∀y∈tr,∀n obj,y.kind= .Qh n obj→y.i ∉ d→y.i≠x.i→y.k≤K+1→φ' n=none∧s.h.nx≤n∧∀hK,hs[K+1]? =some hK→n<hK.nx:=by
  intro φ' h' w' Kl afz yd Qn
  have gL:K+1<hs.length:=by rw[←r.trace.afy];exact (List.getElem?_eq_some_iff.1 afz).1
  have hhs:hs[K+1]? =some hs[K+1]:=by simp [gL]
  have g:=r.trace.grown (K+1) h' _ afz hhs
  obtain ⟨FX,fr2⟩:=yd.grown g
  have fr3:=(fr.trans Qn).trans fr2
  refine ⟨_,hhs,FX,fr3,fun y hy n obj a1 a2 a3 a4=>?_⟩
  have po:∀Tm,hs[K+1]? =some Tm→Tm=hs[K+1]:=fun Tm e=>by rw[hhs] at e;simpa using e.symm
  rcases Nat.lt_or_ge K y.k with h | h
  ·
   have hyk:y.k=K+1:=by omega
   obtain ⟨q,hq⟩:=List.getElem?_of_mem hy
   obtain ⟨_,_,_,hky,oy,hoy,_,_⟩:=r.at hq
   obtain ⟨_,_,oy',akF,akG,akH,It,Iu,Rg⟩:=r.trace.step q y hq
   rw[←hky,hyk] at It Iu
   rw[afz] at Iu;simp at Iu;subst Iu
   unfold Bn at Rg
   rw[a1] at Rg
   obtain ⟨_,_,_,hn1,hn2⟩:=Rg
   refine ⟨?_,?_,fun Tm e=>?_⟩
   · cases hφ:φ' n with
     | none=>rfl
     | some l=>have:=yd.ED n l hφ;omega
   · have:=(fr.trans Qn).nx;omega
   · rw[e] at It;simp at It;subst It;exact hn2
  · obtain ⟨b1,b2,b3⟩:=inv.jE y hy n obj a1 a2 h
    have hn:=b3 hK hhK
    refine ⟨by rw[Qn.old n hn];exact b1,b2,fun Tm e=>?_⟩
    have:=Qn.nx;have:=g.nx
    rw[po _ e];omega
 have still:ik E o.op=false→qa E ops x hK=true:=fun he=>by
  obtain ⟨w1,w2⟩:=inv.XD hd uD
  exact r.still x hxm K hK (by rw[←adU he];exact w1) w2 hhK
 have Qm:ops.getD x.i default=o:=by simp [Array.getD_eq_getD_getElem?,ho]
 have skip:dC ops x.ts o=false→step E.P (lone (b.atR a (.inRegion ops (x.i::rest)::k)) (cur Ks s.rc) w)= .next (lone (b.atR (a.put o.dst undef) (.inRegion ops rest::k)) (cur Ks s.rc) w):=fun hw=>by
  have:=stepR_op_skip (P:=E.P) (b:=b) (a:=a) (k:=k) (cs:=cur Ks s.rc) (w:=w) (ops:=ops) (i:=x.i) (rest:=rest) (by rw[ho];simp;rw[hwe];exact hw)
  rw[this,ho];rfl
 unfold Bn at ja
 split at ja
 ·
  obtain ⟨hw,hv,hn⟩:=ja
  have hvr:VR φ x.v undef:=by rw[hv];exact .undef φ
  by_cases he:ik E o.op=true
  · have Kl:=inv.FW r (we he) hd uD
    have wj:=hn he
    rw[Kl] at wj DU
    rw[hhK] at DU;simp at DU;subst DU
    obtain ⟨Tm,q1,q2,q3,q4⟩:=wrote φ hK w Kl wj ok (Fr.refl _ _ _)
    exact ⟨K+1,φ,_,w,inv.snoc r hp ho hd uD (Ph.le_refl φ) hvr (.inr ⟨he,Kl,we he,rfl⟩) ⟨Tm,q1,q2,q3⟩ q4,.one (skip hw)⟩
  · have FU:ik E o.op=false:=by simpa using he
    exact ⟨K,φ,_,w,inv.snoc r hp ho hd uD (Ph.le_refl φ) hvr (.inl ⟨FU,rfl⟩) inv.ok same,.one (skip hw)⟩
 ·
  obtain ⟨he,hw,hpu⟩:=ja
  rw[←Mj acg] at hpu
  have oV:∀c,o.op≠ .defer c:=fun c e=>by rw[e] at hpu;simp [ct] at hpu
  obtain ⟨v',hv,hr⟩:=DP hE.ext ok.gl inv.ts hpu
  exact ⟨K,φ,_,w,inv.snoc r hp ho hd uD (Ph.le_refl φ) hv (.inl ⟨he,rfl⟩) inv.ok same,.one (nY (uA gv (.inr oV) _) ho (hwe.trans hw) (hr w))⟩
 ·
  rename_i Bo
  obtain ⟨he,hw⟩:=ja
  have xY:=still he
  unfold qa at xY
  rw[Bo] at xY
  simp only[Qm] at xY
  cases hre:ig E x.ts hK o.op with
  | none=>rw[hre] at xY;simp at xY
  | some v1=>
    rw[hre] at xY
    have hv1:=AV.uC _ _ _ xY
    subst hv1
    rw[←Mk acg] at hre
    have oV:∀c,o.op≠ .defer c:=fun c e=>by rw[e] at hre;simp [ig] at hre
    obtain ⟨v',hv,hr⟩:=DS ok.gl ok inv.ts hre
    exact ⟨K,φ,_,w,inv.snoc r hp ho hd uD (Ph.le_refl φ) hv (.inl ⟨he,rfl⟩) inv.ok same,.one (nY (uA gv (.inr oV) _) ho (hwe.trans hw) (hr w rfl))⟩
 ·
  rename_i n obj Bo
  obtain ⟨he,hw,⟨mk,hal,hxv⟩,_,_⟩:=ja
  have xY:=still he
  unfold qa at xY
  rw[Bo] at xY
  simp only at xY
  cases Ri:hK.get n with
  | none=>rw[Ri] at xY;simp at xY
  | some o1=>
    rw[Ri] at xY
    have ho1:=ar.uC xY
    subst ho1
    obtain ⟨w1,_⟩:=inv.XD hd uD
    obtain ⟨DK,akI,akJ⟩:=inv.jE x hxm n o1 Bo hd (by rw[←adU he];exact w1)
    rw[←Kh acg] at hal
    have oV:∀c,o.op≠ .defer c:=fun c e=>by rw[e] at hal;simp [gh] at hal
    obtain ⟨O,mk',Mi,hr⟩:=Be ok.gl inv.ts hal
    have hle:φ.le (φ.add n ⟨w.heap.size,0,0⟩):=fun j m hm=>by
     unfold Ph.add;split
     · rename_i e;subst e;rw[DK] at hm;simp at hm
     · exact hm
    obtain ⟨FX,_⟩:=ok.place Ri DK (akJ hK hhK) (Mi.obj _ w.heap.size hle)
    have hv:=Mi.val (φ.add n ⟨w.heap.size,0,0⟩) n w.heap.size hle (by simp [Ph.add])
    rw[←hxv] at hv
    refine ⟨K,_,_,_,inv.snoc r hp ho hd uD hle hv (.inl ⟨he,rfl⟩) ⟨hK,hhK,FX,fr.place akI DK O⟩ (fun y hy m q a1 a2 a3 a4=>?_),.one (nY (uA gv (.inr oV) _) ho (hwe.trans hw) (hr w))⟩
    obtain ⟨b1,b2,b3⟩:=inv.jE y hy m q a1 a2 a4
    refine ⟨?_,b2,b3⟩
    have cR:m≠n:=fun e=>by subst e;exact a3 (r.ids y x hy hxm m q o1 a1 Bo)
    simp [Ph.add,cR,b1]
 ·
  rename_i h' Bo
  obtain ⟨he,hw,_,wj⟩:=ja
  have hef:=I_ x o _ h' hxm rfl ho DU Bo
  have Kl:=inv.FW r (we he) hd uD
  rw[Kl] at wj DU
  rw[hhK] at DU;simp at DU;subst DU
  rw[←FQ acg] at hef
  obtain ⟨φ',w',v',hv,yd,Qn,jj⟩:=Vd hE cE hef ho (rest:=rest) (k:=k) inv.ts ok (gv.mono fr.ext) (hwe.trans hw)
  obtain ⟨Tm,q1,q2,q3,q4⟩:=wrote φ' h' w' Kl wj yd Qn
  exact ⟨K+1,φ',_,w',inv.snoc r hp ho hd uD Qn.ext hv (.inr ⟨he,Kl,we he,rfl⟩) ⟨Tm,q1,q2,q3⟩ q4,jj⟩
end
end Go.Ab
end
section
namespace Go.Ab
variable {E:Env}
section
variable {call:aE} {ops:Array Oper} {pl:CQ} {s s':St} {tr:List Step} {hs st:List ah}
structure Ko (E:Env) (φ₀:Ph) (h₀:ah) (w₀:World) (A4:List Deferred) (b:Frame) (k:List Item) (cs:List Frame) (s':St) (m:Machine):Prop where
 is:∃φ' a' w',LR φ' s'.ts a'.tmps.toList∧a'.defers=A4∧OK E φ' s'.h w'∧Fr φ₀ h₀ w₀ φ' s'.h w'∧Steps E.P m (lone (b.atR a' k) cs w')
theorem Mo (r:Kn E call ops pl s s' tr hs st) {φ₀ φ:Ph} {w₀ w:World} {A4:List Deferred} {d:List Nat} {listed:Array Bool} {K:Nat} {a:Act} (inv:Inv E ops pl s tr hs st φ₀ w₀ A4 d listed K φ a w)
 (Mp:∀i,i<ops.size→i∈d) (b:Frame) (k:List Item) (cs:List Frame):Ko E φ₀ s.h w₀ A4 b k cs s' (lone (b.atR a (.inRegion ops []::k)) cs w):=by
 have oV:(tr.map (·.i)).Nodup:=by rw[r.trace.is];exact r.nodup
 obtain ⟨f1,f2,f3⟩:=iT r.vE.order
 have hK:K=pl.cB.length:=by
  have:=inv.Kle
  rcases Nat.lt_or_ge K pl.cB.length with h | h
  · exfalso
    have hq:pl.cB[K]? =some pl.cB[K]:=by simp [h]
    have hm:pl.cB[K]∈pl.cB:=List.getElem_mem h
    generalize hx:pl.cB[K]=ee at hm hq
    rw[r.vE.cB,I8] at hm
    obtain ⟨o,ho,_⟩:=hm
    have gL:ee<ops.size:=by have:=(List.getElem?_eq_some_iff.1 ho).1;simpa using this
    have:=(inv.cB K _ hq).1 (Mp _ gL)
    omega
  · omega
 obtain ⟨Tm,q1,q2,q3⟩:=inv.ok
 have Mq:=r.trace.last
 have akK:ui E ops pl.order=K:=by omega
 rw[akK,q1] at Mq
 simp at Mq;subst Mq
 have XC:s'.ts=rK ops (valOf tr) s.ts d:=by
  rw[r.trace.ts]
  have h1:=Km ops oV s.ts tr.length
  rw[List.take_length,r.trace.is,List.take_of_length_le (by rw[←r.trace.is];simp)] at h1
  rw[h1]
  refine List.ext_getElem? (fun x=>?_)
  refine An s.ts (fun j j' e e'=>Bq r.vE e e') (fun j hj=>?_)
  have EJ:j<ops.size:=by
   unfold gM at hj
   cases ho:ops[j]? with
   | none=>rw[ho] at hj;simp at hj
   | some o=>exact (Array.getElem?_eq_some_iff.1 ho).1
  exact ⟨fun _=>Mp j EJ,fun _=>(f2 j EJ).resolve_left (by simp)⟩
 exact ⟨φ,a,w,by rw[XC];exact inv.ts,inv.ds,q2,q3,.one stepR_region_end⟩
theorem FY {φ₀ φ:Ph} {w₀ w:World} {A4:List Deferred} {d:List Nat} {listed:Array Bool} {K:Nat} {a:Act} (r:Kn E call ops pl s s' tr hs st) (inv:Inv E ops pl s tr hs st φ₀ w₀ A4 d listed K φ a w)
 {i:Nat} (h:i∈Region.ready .any ops listed):i<ops.size∧i ∉ d∧∀j,eP pl.an i j=true→j∈d:=by
 obtain ⟨h1,o,ho,h2⟩:=mem_ready.1 h
 have hi:i<ops.size:=(Array.getElem?_eq_some_iff.1 ho).1
 have hl:=inv.listed i hi
 refine ⟨hi,fun hd=>?_,fun j hj=>?_⟩
 · simp [hl,hd,Array.getD_eq_getD_getElem?] at h1
 · obtain ⟨e,he,hej⟩:=r.vE.closed i o j ho hj
   have hed:e∈d:=by
    unfold pg at he
    simp only[List.mem_map,List.mem_filter] at he
    obtain ⟨ed,⟨hm,hb⟩,rfl⟩:=he
    have h3:=h2 ed (by simpa using hm) hb
    have akL:ed.on<ops.size:=by
     have:=(r.vE.direct i o ed.on ho (by unfold pg;simp only[List.mem_map,List.mem_filter];exact ⟨ed,⟨hm,hb⟩,rfl⟩)).1
     omega
    simpa [inv.listed _ akL,Array.getD_eq_getD_getElem?] using h3
   rcases hej with rfl | hej
   · exact hed
   · exact inv.closed e hed j hej
theorem C1 {φ₀ φ:Ph} {w₀ w:World} {A4:List Deferred} {d:List Nat} {listed:Array Bool} {K:Nat} {a:Act} (r:Kn E call ops pl s s' tr hs st) (inv:Inv E ops pl s tr hs st φ₀ w₀ A4 d listed K φ a w)
 (h:Region.ready .any ops listed=[]):∀(n i:Nat),i<n→i<ops.size→i∈d
 | 0,i,hn,_=>by omega
 | n+1,i,hn,hi=>by
   have ih:=C1 r inv h n
   by_cases hd:i∈d
   · exact hd
   · exfalso
     have ho:ops[i]? =some ops[i]:=by simp [hi]
     have:i∈Region.ready .any ops listed:=by
      refine mem_ready.2 ⟨by simp [inv.listed i hi,hd,Array.getD_eq_getD_getElem?],ops[i],ho,fun e he hb=>?_⟩
      have hm:e.on∈pg ops[i]:=by
       unfold pg;simp only[List.mem_map,List.mem_filter];exact ⟨e,⟨by simpa using he,hb⟩,rfl⟩
      have gL:=(r.vE.direct i _ e.on ho hm).1
      have:=ih e.on (by omega) (by omega)
      simp [inv.listed e.on (by omega),this,Array.getD_eq_getD_getElem?]
     rw[h] at this;simp at this
theorem Kn.real (r:Kn E call ops pl s s' tr hs st) (x:Step) (o:Oper) (hk h':ah) (hx:x∈tr) (ho:ops[x.i]? =some o) (hh:hs[x.k]? =some hk) (Th:x.kind= .QJ h'):gV E call x.ts hk s.rc o= .val x.v h':=by
 obtain ⟨p,hp⟩:=List.getElem?_of_mem hx
 obtain ⟨_,_,_,XF,_⟩:=r.at hp
 obtain ⟨_,_,o',hk1,sk1,Mn,DU,hsk,ja⟩:=r.trace.step p x hp
 rw[ho] at Mn;simp at Mn;subst Mn
 rw[←XF,hh] at DU;simp at DU;subst DU
 unfold Bn at ja;rw[Th] at ja;exact ja.2.2.1
theorem Mr (hE:jZ E) (cE:iu E call) (r:Kn E call ops pl s s' tr hs st) {φ₀:Ph} {w₀:World} {A4:List Deferred} {b:Frame} {k:List Item} {Ks:Bool→List Frame} (gv:oK φ₀ b Ks s.rc):
 ∀(fuel t:Nat) {φ:Ph} {w:World} {d:List Nat} {listed:Array Bool} {K:Nat} {a:Act} (_:Inv E ops pl s tr hs st φ₀ w₀ A4 d listed K φ a w) (_:ops.size≤d.length+fuel),
  Ko E φ₀ s.h w₀ A4 b k (cur Ks s.rc) s' (lone (b.atR a (.inRegion ops (Region.linearise.go .any ops fuel t listed [])::k)) (cur Ks s.rc) w)
 | 0,t,φ,w,d,listed,K,a,inv,hf=>by
   simp only[Region.linearise.go,List.reverse_nil]
   refine Mo r inv (fun i hi=>?_) b k _
   by_cases hd:i∈d
   · exact hd
   · have:=FR ops.size (i::d) (List.nodup_cons.2 ⟨hd,inv.nd⟩) (fun x hx=>by
      simp at hx;rcases hx with rfl | hx
      · exact hi
      · exact inv.lt x hx)
     simp at this;omega
 | fuel+1,t,φ,w,d,listed,K,a,inv,hf=>by
   simp only[Region.linearise.go]
   change Ko E φ₀ s.h w₀ A4 b k (cur Ks s.rc) s' (lone (b.atR a (.inRegion ops (match (Region.ready .any ops listed)[t%(Region.ready .any ops listed).length]? with
    | some i=>Region.linearise.go .any ops fuel (t/(Region.ready .any ops listed).length) (listed.setIfInBounds i true) [i]
    | none=> [].reverse)::k)) (cur Ks s.rc) w)
   cases hi:(Region.ready .any ops listed)[t%(Region.ready .any ops listed).length]? with
   | none=>
     have FH:Region.ready .any ops listed=[]:=by
      cases hr:Region.ready .any ops listed with
      | nil=>rfl
      | cons x xs=>
        rw[hr] at hi
        have gL:t%(x::xs).length<(x::xs).length:=Nat.mod_lt _ (by simp)
        simp at hi
        simp at gL
        omega
     exact Mo r inv (fun i hi=>C1 r inv FH _ i (Nat.lt_succ_self i) hi) b k _
   | some i=>
     simp only[]
     rw[linearise_go_acc,List.reverse_singleton,List.singleton_append]
     obtain ⟨h1,h2,h3⟩:=FY r inv (List.mem_of_getElem? hi)
     obtain ⟨K',φ',a',w',afA,ja⟩:=inv.Tl hE cE r gv (b:=b) (k:=k) h1 h2 h3 (fun x o hk h' hx _=>r.real x o hk h' hx) (Region.linearise.go .any ops fuel (t/(Region.ready .any ops listed).length) (listed.setIfInBounds i true) [])
     obtain ⟨φ2,a2,w2,x1,x2,x3,x4,x5⟩:=(Mr hE cE r gv fuel (t/(Region.ready .any ops listed).length) afA (by simp;omega)).is
     exact ⟨φ2,a2,w2,x1,x2,x3,x4,Steps.trans ja x5⟩
structure Kp (E:Env) (φ₀:Ph) (h₀:ah) (w₀:World) (A4:List Deferred) (b:Frame) (cs:List Frame) (v:AV) (s':St) (m:Machine):Prop where
 is:∃φ' a' w' v' todo,VR φ' v v'∧LR φ' s'.ts a'.tmps.toList∧a'.defers=A4∧OK E φ' s'.h w'∧Fr φ₀ h₀ w₀ φ' s'.h w'∧Steps E.P m (lone {b.atR a' todo with mode:= .panicking [{v:=v',recovered:=false}]} cs w')
theorem Ve (hE:jZ E) {call:aE} (cE:iu E call) {ts:List AV} {h h':ah} {rc:RC} {o:Oper} {c:Call} (hoc:o.op= .call c) {v:AV} (we:gV E call ts h rc o= .panic v h') {i:Nat} {rest:List Nat} (ho:ops[i]? =some o)
 {φ:Ph} {a:Act} {w:World} {b:Frame} {k:List Item} {K:Bool→List Frame} (XC:LR φ ts a.tmps.toList) (ok:OK E φ h w) (gv:oK φ b K rc) (hw:Region.wanted o (yielded ops a.tmps)=true):
 ∃φ' w' v' todo,VR φ' v v'∧OK E φ' h' w'∧Fr φ h w φ' h' w'∧Steps E.P (lone (b.atR a (.inRegion ops (i::rest)::k)) (cur K rc) w) (lone {b.atR a todo with mode:= .panicking [{v:=v',recovered:=false}]} (cur K rc) w'):=by
 have Qj:=Al hE cE (rc:=rc) (o:=o) XC ok
 have oV:rc.qg=false∨∀c,o.op≠ .defer c:= .inr (fun c e=>by rw[hoc] at e;simp at e)
 have lj:=uA gv oV a.eval
 rw[we] at Qj
 cases Qj with
 | acb v h' F args all hr hf hl run=>
   obtain ⟨n,start,hp,ja⟩:=hr φ w all ok hf hl
   obtain ⟨φ',w',v',hv,yd,fr,jj⟩:=ja (b.atR a (.inRegion ops (i::rest)::k)) (cur K rc)
   rw[Frame.raise_atR] at jj
   exact ⟨φ',w',v',.inRegion ops (i::rest)::k,hv,yd,fr,.head (Bi lj ho hw hp (run n start hp)) jj⟩
 | panic v v' hv run=>exact ⟨φ,w,v',_,hv,ok,Fr.refl _ _ _,.one (Xy lj ho hw run)⟩
theorem I' (hE:jZ E) {I9:aE} (cE:iu E I9) (r:Kn E call ops pl s s' tr hs st) {xl:Step} (Tn:xl∈tr) {ol:Oper} (hol:ops[xl.i]? =some ol) {c:Call} (hoc:ol.op= .call c)
 (Mp:∀j,j<ops.size→j≠xl.i→eP pl.an xl.i j=true) (adV:ik E ol.op=true) (hwl:dC ops xl.ts ol=true) {hk:ah} (DU:hs[xl.k]? =some hk) {v:AV} {h':ah} (afB:gV E I9 xl.ts hk s.rc ol= .panic v h')
 (I_:∀(x:Step) (o:Oper) (hk h':ah),x∈tr→x.i≠xl.i→ops[x.i]? =some o→hs[x.k]? =some hk→x.kind= .QJ h'→gV E I9 x.ts hk s.rc o= .val x.v h')
 {s2:St} (h2:s2.h=h') (ahy:s2.ts=xl.ts) {φ₀:Ph} {w₀:World} {A4:List Deferred} {b:Frame} {k:List Item} {Ks:Bool→List Frame} (gv:oK φ₀ b Ks s.rc):
 ∀(fuel t:Nat) {φ:Ph} {w:World} {d:List Nat} {listed:Array Bool} {K:Nat} {a:Act} (_:Inv E ops pl s tr hs st φ₀ w₀ A4 d listed K φ a w) (_:ops.size≤d.length+fuel) (_:xl.i ∉ d),
  Kp E φ₀ s.h w₀ A4 b (cur Ks s.rc) v s2 (lone (b.atR a (.inRegion ops (Region.linearise.go .any ops fuel t listed [])::k)) (cur Ks s.rc) w)
 | 0,t,φ,w,d,listed,K,a,inv,hf,oV=>by
   exfalso
   have hi:xl.i<ops.size:=(Array.getElem?_eq_some_iff.1 hol).1
   have:=FR ops.size (xl.i::d) (List.nodup_cons.2 ⟨oV,inv.nd⟩) (fun x hx=>by
    simp at hx;rcases hx with rfl | hx
    · exact hi
    · exact inv.lt x hx)
   simp at this;omega
 | fuel+1,t,φ,w,d,listed,K,a,inv,hf,oV=>by
   have Ql:xl.i<ops.size:=(Array.getElem?_eq_some_iff.1 hol).1
   simp only[Region.linearise.go]
   change Kp E φ₀ s.h w₀ A4 b (cur Ks s.rc) v s2 (lone (b.atR a (.inRegion ops (match (Region.ready .any ops listed)[t%(Region.ready .any ops listed).length]? with
    | some i=>Region.linearise.go .any ops fuel (t/(Region.ready .any ops listed).length) (listed.setIfInBounds i true) [i]
    | none=> [].reverse)::k)) (cur Ks s.rc) w)
   cases hi:(Region.ready .any ops listed)[t%(Region.ready .any ops listed).length]? with
   | none=>
     have FH:Region.ready .any ops listed=[]:=by
      cases hr:Region.ready .any ops listed with
      | nil=>rfl
      | cons x xs=>
        rw[hr] at hi
        have gL:t%(x::xs).length<(x::xs).length:=Nat.mod_lt _ (by simp)
        simp at hi
        simp at gL
        omega
     exact absurd (C1 r inv FH _ xl.i (Nat.lt_succ_self _) Ql) oV
   | some i=>
     simp only[]
     rw[linearise_go_acc,List.reverse_singleton,List.singleton_append]
     obtain ⟨h1,h2',h3⟩:=FY r inv (List.mem_of_getElem? hi)
     by_cases hii:i=xl.i
     · subst hii
       obtain ⟨p,hp⟩:=List.getElem?_of_mem Tn
       obtain ⟨_,q2,q3,_,o',Mn,q4,_⟩:=r.at hp
       rw[hol] at Mn;simp at Mn;subst Mn
       obtain ⟨hag,XE⟩:=agree r hp hol h2' inv.closed h3
       obtain ⟨hK,hhK,ok,fr⟩:=inv.ok
       have Kl:=inv.FW r (q4 adV) h2' h3
       rw[Kl,hhK] at DU;simp at DU;subst DU
       rw[FQ hag] at afB
       have hwe:Region.wanted ol (yielded ops a.tmps)=true:=by rw[Ak inv.ts ol,XE];exact hwl
       obtain ⟨φ',w',v',todo,hv,yd,Qn,ja⟩:=Ve hE cE hoc afB hol (rest:=Region.linearise.go .any ops fuel (t/(Region.ready .any ops listed).length) (listed.setIfInBounds xl.i true) []) (k:=k) inv.ts ok (gv.mono fr.ext) hwe
       have akM:(tr.map (·.i)).Nodup:=by rw[r.trace.is];exact r.nodup
       have XC:xl.ts=rK ops (valOf tr) s.ts d:=by
        rw[(r.trace.step p xl hp).1,Km ops akM,r.trace.is]
        refine List.ext_getElem? (fun x=>An s.ts (fun j j' e e'=>Bq r.vE e e') (fun j hj=>?_))
        have EJ:j<ops.size:=by
         unfold gM at hj
         cases ho:ops[j]? with
         | none=>rw[ho] at hj;simp at hj
         | some o=>exact (Array.getElem?_eq_some_iff.1 ho).1
        by_cases hji:j=xl.i
        · subst hji;exact ⟨fun h=>absurd h q2,fun h=>absurd h h2'⟩
        · exact ⟨fun _=>h3 j (Mp j EJ hji),fun _=>q3 j (Mp j EJ hji)⟩
       exact ⟨φ',a,w',v',todo,hv,by rw[ahy,XC];exact inv.ts.mono Qn.ext,inv.ds,by rw[h2];exact yd,by rw[h2];exact fr.trans Qn,ja⟩
     · obtain ⟨K',φ',a',w',afA,ja⟩:=inv.Tl hE cE r gv (b:=b) (k:=k) h1 h2' h3 (fun x o hk h' hx Vb=>I_ x o hk h' hx (by rw[Vb];exact hii)) (Region.linearise.go .any ops fuel (t/(Region.ready .any ops listed).length) (listed.setIfInBounds i true) [])
       obtain ⟨φ2,a2,w2,v2,td,x0,x1,x2,x3,x4,x5⟩:=(I' hE cE r Tn hol hoc Mp adV hwl DU afB I_ h2 ahy gv fuel (t/(Region.ready .any ops listed).length) afA (by simp;omega) (by simp;exact ⟨oV,fun h=>hii h.symm⟩)).is
       exact ⟨φ2,a2,w2,v2,td,x0,x1,x2,x3,x4,Steps.trans ja x5⟩
def FZ (call:aE):aE:=fun f as h=>match call f as h with
 | .panic _ h'=> .ret AV.undef h'
 | r=>r
theorem XG {call:aE} {ts:List AV} {h h':ah} {rc:RC} {o:Oper} {v:AV} (e:gV E call ts h rc o= .val v h'):gV E (FZ call) ts h rc o= .val v h':=by
 obtain ⟨dst,op,ty,pos,after,guard⟩:=o
 cases op with
 | call c=>
   obtain ⟨aQ,args,aT⟩:=c
   cases aQ with
   | builtin b=>cases b<;>exact e
   | value f=>
     simp only[gV] at e ⊢
     split at e
     · split at e
       · exact e
       · split at e
         · rename_i hc
           simp only[FZ,hc];exact e
         · simp at e
         · simp at e
     · simp at e
   | invoke x name=>
     simp only[gV] at e ⊢
     split at e
     · split at e
       · split at e
         · rename_i hc
           simp only[FZ,hc];exact e
         · simp at e
         · simp at e
       · simp at e
     · simp at e
 | _=>exact e
theorem XH {call:aE} {ts:List AV} {h h':ah} {rc:RC} {dst:Option Tmp} {c:Call} {ty:TypeId} {pos:String} {after:Array Edge} {guard:Option (Nat×Bool)} {v:AV} (e:gV E call ts h rc ⟨dst,.call c,ty,pos,after,guard⟩= .panic v h'):
 gV E (FZ call) ts h rc ⟨dst,.call c,ty,pos,after,guard⟩= .val AV.undef h':=by
 obtain ⟨aQ,args,aT⟩:=c
 cases aQ with
 | builtin b=>
   cases b<;>simp only[gV] at e<;>(try (simp at e;done))<;>(split at e<;>(try (simp at e;done))<;>(try (split at e<;>simp at e)))
 | value f=>
   simp only[gV] at e ⊢
   split at e
   · split at e
     · split at e<;>simp at e
     · split at e
       · simp at e
       · rename_i hc
         simp at e;obtain ⟨rfl,rfl⟩:=e
         simp only[FZ,hc]
       · simp at e
   · simp at e
 | invoke x name=>
   simp only[gV] at e ⊢
   split at e
   · split at e
     · split at e
       · simp at e
       · rename_i hc
         simp at e;obtain ⟨rfl,rfl⟩:=e
         simp only[FZ,hc]
       · simp at e
     · simp at e
   · simp at e
theorem qj {α:Type} {f:α→Option Nat}:∀{l:List α} (_:(l.filterMap f).Nodup) {x y:α} {n:Nat} (_:x∈l) (_:y∈l) (_:f x=some n) (_:f y=some n),x=y
 | [],_,x,y,n,hx,_,_,_=>by simp at hx
 | z::l,hn,x,y,n,hx,hy,fx,fy=>by
   cases hz:f z with
   | none=>
     rw[List.filterMap_cons_none hz] at hn
     have hx':x∈l:=by
      simp at hx;rcases hx with rfl | h
      · rw[hz] at fx;simp at fx
      · exact h
     have hy':y∈l:=by
      simp at hy;rcases hy with rfl | h
      · rw[hz] at fy;simp at fy
      · exact h
     exact qj hn hx' hy' fx fy
   | some m=>
     rw[List.filterMap_cons_some hz,List.nodup_cons] at hn
     simp at hx hy
     rcases hx with rfl | hx<;>rcases hy with rfl | hy
     · rfl
     · exfalso;rw[fx] at hz;simp at hz;subst hz;exact hn.1 (List.mem_filterMap.2 ⟨y,hy,fy⟩)
     · exfalso;rw[fy] at hz;simp at hz;subst hz;exact hn.1 (List.mem_filterMap.2 ⟨x,hx,fx⟩)
     · exact qj hn.2 hx hy fx fy
theorem XI (U4:Fw E ops=some pl) (hd:dM E call ops pl.order 0 s= .ok tr hs s') (hl:CS E ops pl tr hs=true):∃st,Kn E call ops pl s s' tr hs st:=by
 obtain ⟨st,t⟩:=qi hd
 unfold CS at hl
 simp only[Bool.and_eq_true] at hl
 refine ⟨st,Ml U4,t,fun x hx K hk h1 h2 h3=>?_,fun x y hx hy n o q e1 e2=>?_⟩
 · have h4:=List.all_eq_true.1 (List.all_eq_true.1 hl.2 x hx) hk
   refine h4 ?_
   refine List.mem_of_getElem? (i:=K - x.k) ?_
   rw[List.getElem?_take,if_pos (by omega),List.getElem?_drop,show x.k+(K - x.k)=K by omega,h3]
 · have:=Am hl.1
   have:=qj this hx hy (n:=n) (by simp [e1]) (by simp [e2])
   rw[this]
theorem Ao {call Ja:aE} (hc:∀{ts:List AV} {h h':ah} {rc:RC} {o:Oper} {v:AV},gV E call ts h rc o= .val v h'→gV E Ja ts h rc o= .val v h') {i:Nat} {o:Oper} (ho:ops[i]? =some o) (he:ik E o.op=true):
 ∀(l:List Nat) (k:Nat) (s:St) {tr:List Step} {hs:List ah} {s1:St} {h':ah} (_:dM E call ops l k s= .ok tr hs s1) (_:dC ops s1.ts o=true) (_:gV E Ja s1.ts s1.h s1.rc o= .val AV.undef h'),
  dM E Ja ops (l++[i]) k s= .ok (tr++[⟨i,k+(hs.length - 1),s1.ts,AV.undef,.QJ h'⟩]) (hs++[h']) {s1 with ts:=gW s1.ts o.dst AV.undef,h:=h'}
 | [],k,s,tr,hs,s1,h',hd,hw,hv=>by
   simp [dM] at hd;obtain ⟨rfl,rfl,rfl⟩:=hd
   simp only[List.nil_append,dM,ho,he,if_true,hw,hv]
   simp [ph.bound,ph.step]
 | j::l,k,s,tr,hs,s1,h',hd,hw,hv=>by
   rw[List.cons_append]
   simp only[dM] at hd ⊢
   cases hoj:ops[j]? with
   | none=>rw[hoj] at hd;simp at hd
   | some oj=>
   rw[hoj] at hd
   simp only at hd ⊢
   have wr:∀(x:Step) (s0:St),((dM E call ops l (k+1) s0).bound s.h).step x= .ok tr hs s1→((dM E Ja ops (l++[i]) (k+1) s0).bound s.h).step x= .ok (tr++[⟨i,k+(hs.length - 1),s1.ts,AV.undef,.QJ h'⟩]) (hs++[h']) {s1 with ts:=gW s1.ts o.dst AV.undef,h:=h'}:=by
    intro x s0 hd
    cases hr:dM E call ops l (k+1) s0 with
    | fail uu q=>rw[hr] at hd;simp [ph.bound,ph.step] at hd
    | ok WX xY s2=>
      rw[hr] at hd;simp [ph.bound,ph.step] at hd;obtain ⟨rfl,rfl,rfl⟩:=hd
      rw[Ao hc ho he l (k+1) s0 hr hw hv]
      obtain ⟨_,t⟩:=qi hr
      have:1≤xY.length:=by have:=t.len;omega
      simp [ph.bound,ph.step];omega
   have pl:∀(x:Step) (s0:St),(dM E call ops l k s0).step x= .ok tr hs s1→(dM E Ja ops (l++[i]) k s0).step x= .ok (tr++[⟨i,k+(hs.length - 1),s1.ts,AV.undef,.QJ h'⟩]) (hs++[h']) {s1 with ts:=gW s1.ts o.dst AV.undef,h:=h'}:=by
    intro x s0 hd
    cases hr:dM E call ops l k s0 with
    | fail uu q=>rw[hr] at hd;simp [ph.step] at hd
    | ok WX xY s2=>
      rw[hr] at hd;simp [ph.step] at hd;obtain ⟨rfl,rfl,rfl⟩:=hd
      rw[Ao hc ho he l k s0 hr hw hv]
      simp [ph.step]
   split at hd
   · rename_i he1
     rw[if_pos he1]
     split at hd
     · rename_i Xu
       rw[if_pos Xu]
       split at hd
       · rename_i hef
         simp only[hc hef]
         exact wr _ _ hd
       · simp at hd
       · simp at hd
     · rename_i Xu
       rw[if_neg Xu]
       exact wr _ _ hd
   · rename_i he1
     rw[if_neg he1]
     split at hd
     · rename_i Xu
       rw[if_pos Xu]
       split at hd
       · rename_i hp
         try simp only[hp]
         exact pl _ _ hd
       · rename_i hp
         try simp only[hp]
         split at hd
         · rename_i hq
           try simp only[hq]
           exact pl _ _ hd
         · rename_i hq
           try simp only[hq]
           split at hd
           · rename_i hr
             try simp only[hr]
             split at hd
             · rename_i hn
               try simp only[hn]
               exact pl _ _ hd
             · simp at hd
           · simp at hd
     · rename_i Xu
       rw[if_neg Xu]
       exact pl _ _ hd
end
theorem F0 {call:aE} {ops:Array Oper} {pl:CQ} {s s':St} {tr:List Step} {zF st:List ah} (r:Kn E call ops pl s s' tr zF st)
 {φ:Ph} {a:Act} {w:World} (XC:LR φ s.ts a.tmps.toList) (ok:OK E φ s.h w):Inv E ops pl s tr zF st φ w a.defers [] (Array.replicate ops.size false) 0 φ a {w with drawn:=w.drawn+1}:=by
 have Ms:OK E φ s.h {w with drawn:=w.drawn+1}:=⟨ok.ED,ok.nx,ok.Aa,ok.live,ok.inj⟩
 have fr1:Fr φ s.h w φ s.h {w with drawn:=w.drawn+1}:=⟨Ph.le_refl φ,fun _ _=>rfl,Nat.le_refl _,rfl,rfl,rfl,Nat.le_refl _,fun _ _ _=>rfl,fun i o l a b c=> .inr ⟨i,o,l,a,b,c,rfl⟩⟩
 have hlen:0<zF.length:=by have:=r.trace.len;omega
 have h0:zF[0]? =some zF[0]:=by simp [hlen]
 have g:=r.trace.grown 0 s.h _ r.trace.first h0
 obtain ⟨FX,fr2⟩:=Ms.grown g
 refine ⟨.nil,fun i hi=>by simp at hi,fun i hi=>by simp [hi],fun i hi=>by simp at hi,fun q e hq=>by simp,by omega,by simpa [rK] using XC,rfl,⟨_,h0,FX,fr1.trans fr2⟩,fun x hx n obj hk _ XF=>?_⟩
 obtain ⟨q,hq⟩:=List.getElem?_of_mem hx
 obtain ⟨_,_,_,hky,oy,hoy,_,_⟩:=r.at hq
 obtain ⟨_,_,oy',akF,akG,akH,It,Iu,Rg⟩:=r.trace.step q x hq
 rw[←hky] at It Iu
 have Kl:x.k=0:=by omega
 rw[Kl] at It Iu
 rw[r.trace.first] at Iu;simp at Iu;subst Iu
 unfold Bn at Rg
 rw[hk] at Rg
 obtain ⟨_,_,_,hn1,hn2⟩:=Rg
 refine ⟨?_,hn1,fun hK e=>?_⟩
 · cases hφ:φ n with
   | none=>rfl
   | some l=>have:=ok.ED n l hφ;omega
 · rw[e] at It;simp at It;subst It;exact hn2
theorem Mt (hE:jZ E) (akN:E.P.follows .mixedOrders=true) {call:aE} (cE:iu E call) {ops:Array Oper} {s s':St} {e:oA} (h:IW E call ops s= .ok e s')
 {φ:Ph} {a:Act} {w:World} {b:Frame} {k:List Item} {K:Bool→List Frame} (hs:SR φ s.ts s.ds a) (ok:OK E φ s.h w) (gv:oK φ b K s.rc) (id:Nat):
 s'.rc=s.rc∧s'.ds=s.ds∧((e= .normal∧∃φ' a' w',LR φ' s'.ts a'.tmps.toList∧a'.defers=a.defers∧OK E φ' s'.h w'∧Fr φ s.h w φ' s'.h w'∧
  Steps E.P (lone (b.atR a (.code (.region id ops true)::k)) (cur K s.rc) w) (lone (b.atR a' k) (cur K s.rc) w'))∨
  ∃v,e= .panic v∧Kp E φ s.h w a.defers b (cur K s.rc) v s' (lone (b.atR a (.code (.region id ops true)::k)) (cur K s.rc) w)):=by
 have ahz:Region.schedule (E.P.follows .mixedOrders) ops (w.tape w.drawn (.order b.fn id))=Region.linearise.go .any ops ops.size (w.tape w.drawn (.order b.fn id)) (Array.replicate ops.size false) []:=by
  rw[akN];rfl
 unfold IW at h
 split at h
 · simp at h
 rename_i pl U4
 split at h
 · rename_i tr zF s1 hd
   split at h
   · rename_i hl
     simp at h;obtain ⟨rfl,rfl⟩:=h
     obtain ⟨st,r⟩:=XI U4 hd hl
     refine ⟨r.trace.rc,r.trace.ds,.inl ⟨rfl,?_⟩⟩
     obtain ⟨φ',a',w',x1,x2,x3,x4,x5⟩:=(Mr hE cE r gv (b:=b) (k:=k) ops.size (w.tape w.drawn (.order b.fn id)) (F0 r hs.ts ok) (by simp)).is
     refine ⟨φ',a',w',x1,x2,x3,x4,.head stepR_region_draw ?_⟩
     rw[ahz]
     exact x5
   · simp at h
 · split at h
   · rename_i v s2 hp
     simp at h;obtain ⟨rfl,rfl⟩:=h
     unfold Xf at hp
     split at hp
     · simp at hp
     rename_i i front akO
     split at hp
     · rename_i tr zF s1 dst c ty pos after guard hd ho
       split at hp
       · rename_i hck
         split at hp
         · rename_i v1 h1 hef
           split at hp
           · rename_i hl
             simp at hp;obtain ⟨rfl,rfl⟩:=hp
             simp only[Bool.and_eq_true,List.all_eq_true,List.mem_range,Bool.or_eq_true,beq_iff_eq] at hck
             obtain ⟨⟨he,hw⟩,Mp⟩:=hck
             have afw:pl.order=front.reverse++[i]:=by
              have:=congrArg List.reverse akO
              simpa using this
             have hd2:=Ao (Ja:=FZ call) (fun e=>XG e) ho he front.reverse 0 s hd hw (XH hef)
             rw[←afw] at hd2
             rw[Nat.zero_add] at hd2
             obtain ⟨st,r⟩:=XI U4 hd2 hl
             obtain ⟨WY,t1⟩:=qi hd
             have ahA:s1.rc=s.rc:=t1.rc
             refine ⟨ahA,t1.ds,.inr ⟨_,rfl,?_⟩⟩
             have hlen:1≤zF.length:=by have:=t1.len;omega
             have Mq:(zF++[h1])[zF.length - 1]? =some s1.h:=by
              rw[List.getElem?_append_left (by omega)]
              have:=t1.last
              rw[show zF.length - 1=ui E ops front.reverse by have:=t1.len;omega];exact this
             have I_:∀(x:Step) (o:Oper) (hk h':ah),x∈tr++[⟨i,zF.length - 1,s1.ts,AV.undef,.QJ h1⟩]→x.i≠i→ops[x.i]? =some o→(zF++[h1])[x.k]? =some hk→x.kind= .QJ h'→gV E call x.ts hk s.rc o= .val x.v h':=by
              intro x o hk h' hx Vb Mn DU Th
              have hx':x∈tr:=by
               simp at hx;rcases hx with h | h
               · exact h
               · exact absurd (by rw[h]) Vb
              obtain ⟨p,hp⟩:=List.getElem?_of_mem hx'
              obtain ⟨_,XF,o',hk1,sk1,ho2,afC,hsk,ja⟩:=t1.step p x hp
              rw[Mn] at ho2;simp at ho2;subst ho2
              rw[Nat.zero_add] at XF
              rw[←XF] at afC
              have gL:x.k<zF.length:=(List.getElem?_eq_some_iff.1 afC).1
              rw[List.getElem?_append_left gL,afC] at DU
              simp at DU;subst DU
              unfold Bn at ja;rw[Th] at ja;exact ja.2.2.1
             have akP:=(I' hE cE r (xl:=⟨i,zF.length - 1,s1.ts,AV.undef,.QJ h1⟩) (by simp) (ol:=⟨dst,.call c,ty,pos,after,guard⟩) ho rfl (fun j hj cR=>(Mp j hj).resolve_left cR) he hw Mq (by rw[←ahA];exact hef) I_
              (s2:={s1 with h:=h1}) rfl rfl gv (b:=b) (k:=k) ops.size (w.tape w.drawn (.order b.fn id)) (F0 r hs.ts ok) (by simp) (by simp)).is
             obtain ⟨φ',a',w',v',todo,x0,x1,x2,x3,x4,x5⟩:=akP
             refine ⟨φ',a',w',v',todo,x0,x1,x2,x3,x4,.head stepR_region_draw ?_⟩
             rw[ahz]
             exact x5
           · simp at hp
         · simp at hp
       · simp at hp
     · simp at hp
   · simp at h
end Go.Ab
end
section
namespace Go.Ab
variable {E:Env}
def Mu (P:Program) (m:Machine) (b:Frame) (k:List Item) (cs:List Frame):Exit→Act→World→Prop
 | .normal,a,w=>Steps P m (lone (b.atR a k) cs w)
 | .exit id,a,w=>∃todo,exitTo id todo=exitTo id k∧Steps P m (lone (b.atR a (.code (.exit id)::todo)) cs w)
 | .ret,a,w=>∃todo,Steps P m (lone (b.atR a (.code .ret::todo)) cs w)
 | .panic chain,a,w=>∃todo,Steps P m (lone {b.atR a todo with mode:= .panicking chain} cs w)
 | _,_,_=>False
theorem Mu.of_steps {P:Program} {m m':Machine} {b:Frame} {k:List Item} {cs:List Frame} {e:Exit} {a:Act} {w:World} (hs:Steps P m m') (h:Mu P m' b k cs e a w):Mu P m b k cs e a w:=by
 cases e with
 | normal=>exact Steps.trans hs h
 | exit id=>obtain ⟨t,h1,h2⟩:=h;exact ⟨t,h1,Steps.trans hs h2⟩
 | ret=>obtain ⟨t,h2⟩:=h;exact ⟨t,Steps.trans hs h2⟩
 | panic c=>obtain ⟨t,h2⟩:=h;exact ⟨t,Steps.trans hs h2⟩
 | goto l=>exact h.elim
 | outgrown=>exact h.elim
theorem Mu.pass {P:Program} {m:Machine} {b:Frame} {x:Item} {k:List Item} {cs:List Frame} {e:Exit} {a:Act} {w:World} (hx:∀id,exitTo id (x::k)=exitTo id k) (hn:e≠ .normal) (h:Mu P m b (x::k) cs e a w):Mu P m b k cs e a w:=by
 cases e with
 | normal=>exact absurd rfl hn
 | exit id=>obtain ⟨t,h1,h2⟩:=h;exact ⟨t,h1.trans (hx id),h2⟩
 | ret=>exact h
 | panic c=>exact h
 | goto l=>exact h.elim
 | outgrown=>exact h.elim
structure tf (E:Env) (φ:Ph) (h:ah) (w:World) (b:Frame) (K:Bool→List Frame) (k:List Item) (m:Machine) (e:oA) (s':St):Prop where
 is:∃φ' w' a' e',ExR φ' e e'∧SR φ' s'.ts s'.ds a'∧OK E φ' s'.h w'∧Fr φ h w φ' s'.h w'∧oK φ' b K s'.rc∧Mu E.P m b k (cur K s'.rc) e' a' w'
theorem tf.of_steps {φ:Ph} {h:ah} {w:World} {b:Frame} {K:Bool→List Frame} {k:List Item} {m m':Machine} {e:oA} {s':St} (hs:Steps E.P m m') (x:tf E φ h w b K k m' e s'):tf E φ h w b K k m e s':=by
 obtain ⟨φ',w',a',e',h1,h2,h3,h4,h5,h6⟩:=x.is
 exact ⟨φ',w',a',e',h1,h2,h3,h4,h5,.of_steps hs h6⟩
theorem tf.later {φ φ₁:Ph} {h h₁:ah} {w w₁:World} {b:Frame} {K:Bool→List Frame} {k:List Item} {m:Machine} {e:oA} {s':St} (f:Fr φ h w φ₁ h₁ w₁) (x:tf E φ₁ h₁ w₁ b K k m e s'):tf E φ h w b K k m e s':=by
 obtain ⟨φ',w',a',e',h1,h2,h3,h4,h5,h6⟩:=x.is
 exact ⟨φ',w',a',e',h1,h2,h3,f.trans h4,h5,h6⟩
theorem OK.made {φ:Ph} {h h':ah} {w:World} (ok:OK E φ h w) {o:ar} {O:Obj} (hn:h.new o=some h') (ho:OR E (φ.add h.nx ⟨w.heap.size,0,0⟩) o ⟨w.heap.size,0,0⟩ (some O)):
 OK E (φ.add h.nx ⟨w.heap.size,0,0⟩) h' (w.alloc O)∧Fr φ h w (φ.add h.nx ⟨w.heap.size,0,0⟩) h' (w.alloc O)∧φ.le (φ.add h.nx ⟨w.heap.size,0,0⟩):=
 ok.fresh (w':=w.alloc O) hn ⟨w.heap.size,0,0⟩ (by rw[show (w.alloc O).heap=w.heap.push O from rfl];simpa using ho)
  (fun c cR hc=>by rw[show (w.alloc O).heap=w.heap.push O from rfl,Array.getElem?_push,if_neg (by simpa using cR)]) (by simp) (Nat.le_refl _) rfl rfl rfl
theorem OK.afD {φ:Ph} {h:ah} {w:World} (ok:OK E φ h w) {i:Nat} {o o':ar} {l:Loc} (hg:h.get i=some o) (L4:o.rw=true) (hl:φ i=some l) {O:Obj} (ho:OR E φ o' l (some O)):
 OK E φ (h.put i (some o')) (w.putObj l.fO O)∧Fr φ h w φ (h.put i (some o')) (w.putObj l.fO O):=by
 have gL:l.fO<w.heap.size:=by
  rcases Nat.lt_or_ge l.fO w.heap.size with h1 | h1
  · exact h1
  · have:=ok.live i o l hg hl
    rw[Array.getElem?_eq_none h1] at this
    exact this.absurd.elim
 exact ok.change hg L4 hl (by rw[World.putObj_heap_same gL];exact ho) (fun c hc=>World.putObj_heap_other hc) World.putObj_size rfl rfl rfl
theorem OK.shut {φ:Ph} {h:ah} {w:World} (ok:OK E φ h w) {i:Nat} {o:ar} {l:Loc} (hg:h.get i=some o) (L4:o.rw=true) (hl:φ i=some l) (O:Obj):
 OK E φ (h.put i none) (w.putObj l.fO O)∧Fr φ h w φ (h.put i none) (w.putObj l.fO O):=by
 have jx:∀j p,(h.put i none).get j=some p→h.get j=some p∧j≠i:=fun j p hj=>by
  by_cases e:i=j
  · subst e;rw[ah.eF] at hj;simp at hj
  · rw[ah.bZ e] at hj;exact ⟨hj,Ne.symm e⟩
 refine ⟨⟨ok.ED,ok.nx,ok.Aa,fun j p m hj hm=>?_,fun j k p q m n hj hk=>ok.inj j k p q m n (jx j p hj).1 (jx k q hk).1⟩,
  ⟨Ph.le_refl φ,fun _ _=>rfl,Nat.le_refl _,rfl,rfl,rfl,by simp,fun b _ hn=>World.putObj_heap_other (fun e=>hn i o l hg L4 hl e.symm),fun j p m hj hr hm=> .inr ⟨j,p,m,(jx j p hj).1,hr,hm,rfl⟩⟩⟩
 obtain ⟨Ae,cR⟩:=jx j p hj
 rw[World.putObj_heap_other (fun e=>cR (ok.inj j i p o m l Ae hg hm hl (.inr L4) e))]
 exact ok.live j p m Ae hm
theorem Mv {s:St} {dn:Nat} {h1:ah} {ds1:List cC} (ho:Xg s=some (dn,h1,ds1)) {φ:Ph} {a:Act} {w:World} {b:Frame} {K:Bool→List Frame} (hs:SR φ s.ts s.ds a) (ok:OK E φ s.h w) (gv:oK φ b K s.rc)
 (ps:Array Tmp) (as bd:Code):∃φ1 w1 ld mark,φ.le φ1∧OK E φ1 h1 w1∧Fr φ s.h w φ1 h1 w1∧φ1 dn=some ld∧SR φ1 s.ts ds1 {a with defers:=mark++a.defers}∧
  (Instr.enterLoop b.fn a.tmps ps as bd b.roundOf).run E.P w= .ok (w1.heap.size,mark) (w1.alloc (.loop {state:= .ready,pending:=none,fn:=b.fn,tmps:=a.tmps,params:=ps,assign:=as,body:=bd,defers:=ld.fO})):=by
 unfold Xg at ho
 split at ho
 · rename_i l hl
   split at ho
   · rename_i st pd ts vz A3 bd' dn' hg
     simp at ho;obtain ⟨rfl,rfl,rfl⟩:=ho
     rw[hl] at gv
     obtain ⟨ll,hφ,hro⟩:=gv
     obtain ⟨_,r,hr,C2⟩:=ok.live _ _ _ hg hφ
     obtain ⟨ld,hd1,hd2⟩:=C2.defers
     refine ⟨φ,w,ld,[],Ph.le_refl φ,ok,Fr.refl _ _ _,hd1,⟨hs.ts,hs.ds⟩,?_⟩
     rw[hro,run_enterLoop_inner hr,hd2]
   · simp at ho
 · rename_i FM
   split at ho
   · rename_i h1' hn
     simp at ho;obtain ⟨rfl,rfl,rfl⟩:=ho
     obtain ⟨Ms,fr1,hle⟩:=ok.made (O:= .deferred (some [])) hn ⟨rfl,rfl⟩
     have ju:(φ.add s.h.nx ⟨w.heap.size,0,0⟩) s.h.nx=some ⟨w.heap.size,0,0⟩:=by simp [Ph.add]
     refine ⟨_,_,⟨w.heap.size,0,0⟩,[{target:= .collected w.heap.size,args:= #[]}],hle,Ms,fr1,ju,⟨hs.ts.mono hle,⟨_,ju,rfl⟩,hs.ds.mono hle⟩,?_⟩
     rw[gv.plain (FP FM),run_enterLoop_outer]
     simp
   · simp at ho
theorem XJ {c:Code} {e:oA} (h:Tb (some c)=some e):(∃id,c= .exit id∧e= .exit id)∨(c= .ret∧e= .ret):=by
 cases c<;>simp [Tb] at h
 · exact .inl ⟨_,rfl,h.symm⟩
 · exact .inr ⟨rfl,h.symm⟩
theorem Kq {call:aE} (cE:iu E call) {f:Operand} {ps:Array Tmp} {as bd:Code} {s s':St} {e:oA} (h:QK E call f ps as bd s= .ok e s')
 {φ:Ph} {a:Act} {w:World} {b:Frame} {k:List Item} {K:Bool→List Frame} (hs:SR φ s.ts s.ds a) (ok:OK E φ s.h w) (gv:oK φ b K s.rc) (E_:(E.P.funcs[b.fn]?).isSome=true):
 tf E φ s.h w b K k (lone (b.atR a (.code (.rangeFunc f ps as bd)::k)) (cur K s.rc) w) e s':=by
 unfold QK at h
 split at h
 · rename_i g first captured hf
   split at h
   · rename_i dn h1 ds1 ho
     split at h
     · rename_i h2 hn
       have hfv:=oI ok.gl hs.ts hf
       generalize mo:a.eval f=cv at hfv
       obtain ⟨fs',i_,rfl,hfs,Vf⟩:=hfv.A8
       obtain ⟨φ1,w1,ld,mark,ahC,Ms,fr1,hld,xY,QY⟩:=Mv ho hs ok gv ps as bd
       obtain ⟨FX,fr2,ach⟩:=Ms.made (O:= .loop {state:= .ready,pending:=none,fn:=b.fn,tmps:=a.tmps,params:=ps,assign:=as,body:=bd,defers:=ld.fO}) hn
        ⟨rfl,_,rfl,⟨rfl,rfl,hs.ts.mono (Ph.le_trans ahC (fun j m hm=>by
         unfold Ph.add;split
         · rename_i e;subst e;exact absurd (Ms.ED _ _ hm) (Nat.lt_irrefl _)
         · exact hm)),rfl,rfl,rfl,⟨ld,by
         unfold Ph.add;split
         · rename_i e;subst e;exact absurd (Ms.ED _ _ hld) (Nat.lt_irrefl _)
         · exact hld,rfl⟩,E_⟩⟩
       have hle:=Ph.le_trans ahC ach
       have ju:(φ1.add h1.nx ⟨w1.heap.size,0,0⟩) h1.nx=some ⟨w1.heap.size,0,0⟩:=by simp [Ph.add]
       generalize hφ2:φ1.add h1.nx ⟨w1.heap.size,0,0⟩=φ2 at FX fr2 ach hle ju
       have hl:LR φ2 (first++[.CK h1.nx]++captured) (fs'.toList++[.func (.yield w1.heap.size) #[] #[]]++i_.toList):=
        ((hfs.mono hle).append (.cons (.yield ju) (.nil φ2))).append (Vf.mono hle)
       have Rj:∀w',(resolve a.eval (rangeCall f w1.heap.size) 0).run E.P w'= .ok {target:= .fn (.func g) i_,args:=fs'++ #[.func (.yield w1.heap.size) #[] #[]]} w':=fun w'=>by
        have akQ:a.eval (.const (.func (.yield w1.heap.size) #[] #[]))= .func (.yield w1.heap.size) #[] #[]:=rfl
        simp [resolve,Deferred.ofValue,mo,akQ]
       have start:∀n st,qh E φ2 (w1.alloc (.loop {state:= .ready,pending:=none,fn:=b.fn,tmps:=a.tmps,params:=ps,assign:=as,body:=bd,defers:=ld.fO})) (.fn g) (fs'.toList++[.func (.yield w1.heap.size) #[] #[]]++i_.toList) n st→
        step E.P (lone (b.atR a (.code (.rangeFunc f ps as bd)::k)) (cur K s.rc) w)= .next (lone st (b.atR {a with defers:=mark++a.defers} (.inRangeFunc w1.heap.size::k)::cur K s.rc)
         (w1.alloc (.loop {state:= .ready,pending:=none,fn:=b.fn,tmps:=a.tmps,params:=ps,assign:=as,body:=bd,defers:=ld.fO}))):=fun n st hp=>by
        cases hp with
        | fn _ _ hr=>
          have hinv:(invoke (Target.fn (.func g) i_) (fs'++ #[.func (.yield w1.heap.size) #[] #[]])).run E.P (w1.alloc (.loop {state:= .ready,pending:=none,fn:=b.fn,tmps:=a.tmps,params:=ps,assign:=as,body:=bd,defers:=ld.fO}))=
           .ok (.enter g (fs'.toList++[Value.func (.yield w1.heap.size) #[] #[]]++i_.toList).toArray) (w1.alloc (.loop {state:= .ready,pending:=none,fn:=b.fn,tmps:=a.tmps,params:=ps,assign:=as,body:=bd,defers:=ld.fO})):=by
           have e:(fs'.toList++[Value.func (.yield w1.heap.size) #[] #[]]++i_.toList).toArray=fs'++ #[Value.func (.yield w1.heap.size) #[] #[]]++i_:=by
            apply Array.toList_inj.1;simp
           rw[e] at hr ⊢
           simpa [invoke] using hr
          exact stepR_rangeFunc QY (Rj _) hinv
       split at h
       ·
        rename_i v h3 hc
        obtain ⟨n,st,hp,iH⟩:=cE.ret _ _ _ _ _ hc φ2 _ _ FX trivial hl
        obtain ⟨φ3,w3,v',_,ok3,fr3,ja⟩:=iH (b.atR {a with defers:=mark++a.defers} (.inRangeFunc w1.heap.size::k)) (cur K s.rc)
        rw[finish_atR_inRangeFunc] at ja
        split at h
        · simp at h
        · rename_i st' jE nC vz A3 bd' dn' FM hg
          split at h
          · rename_i e1 hj
            simp at h;obtain ⟨rfl,rfl⟩:=h
            have hl3:=fr3.ext _ _ ju
            obtain ⟨_,r,hr,C2⟩:=ok3.live _ _ _ hg hl3
            have ahD:r.state≠ .busy:=by rw[C2.state];intro e;subst e;exact FM rfl
            obtain ⟨ok4,fr4⟩:=ok3.afD (o':= .loop .exhausted jE nC vz A3 bd' dn') hg rfl hl3 (O:= .loop {r with state:= .exhausted}) ⟨rfl,_,rfl,⟨rfl,C2.pending,C2.tmps,C2.params,C2.assign,C2.body,C2.defers,C2.fn⟩⟩
            obtain ⟨W4,hW4⟩:∃W4,W4=w3.putObj w1.heap.size (.loop {r with state:= .exhausted}):=⟨_,rfl⟩
            have ok4:OK E φ3 (h3.put h1.nx (some (.loop .exhausted jE nC vz A3 bd' dn'))) W4:=by rw[hW4];exact ok4
            have fr4:Fr φ3 h3 w3 φ3 (h3.put h1.nx (some (.loop .exhausted jE nC vz A3 bd' dn'))) W4:=by rw[hW4];exact fr4
            have XK:=stepR_endRangeFunc (P:=E.P) (b:=b) (a:={a with defers:=mark++a.defers}) (k:=k) (cs:=cur K s.rc) (run_endLoop hr ahD)
            rw[←hW4] at XK
            have vB:=((fr1.trans fr2).trans fr3).trans fr4
            have jj:=Steps.trans (.head (start n st hp) ja) (.one XK)
            rw[C2.pending] at jj
            have afE:=Ph.le_trans ach fr3.ext
            have XL:=Ph.le_trans hle fr3.ext
            cases jE with
            | none=>
              simp [Tb] at hj;subst hj
              exact ⟨φ3,_,_,_,.normal,xY.mono afE,ok4,vB,gv.mono XL,jj⟩
            | some c=>
              rcases XJ hj with ⟨id,rfl,rfl⟩ | ⟨rfl,rfl⟩
              · exact ⟨φ3,_,_,_,.exit id,xY.mono afE,ok4,vB,gv.mono XL,k,rfl,jj⟩
              · exact ⟨φ3,_,_,_,.ret,xY.mono afE,ok4,vB,gv.mono XL,k,jj⟩
          · simp at h
        · simp at h
       ·
        rename_i v h3 hc
        simp at h;obtain ⟨rfl,rfl⟩:=h
        obtain ⟨n,st,hp,iH⟩:=cE.panic _ _ _ _ _ hc φ2 _ _ FX trivial hl
        obtain ⟨φ3,w3,v',hv,ok3,fr3,ja⟩:=iH (b.atR {a with defers:=mark++a.defers} (.inRangeFunc w1.heap.size::k)) (cur K s.rc)
        rw[Frame.raise_atR] at ja
        exact ⟨φ3,w3,_,_,.panic v v' hv,xY.mono (Ph.le_trans ach fr3.ext),ok3,(fr1.trans fr2).trans fr3,gv.mono (Ph.le_trans hle fr3.ext),_,.head (start n st hp) ja⟩
       · simp at h
     · simp at h
   · simp at h
 · simp at h
end Go.Ab
end
section
namespace Go.Ab
variable {E:Env}
theorem Ap (hE:jZ E) {call:aE} (cE:iu E call) {ops:Array Oper}:∀{l:List Oper} {is:List Nat} (_:is.length=l.length) (_:∀(j i:Nat),is[j]? =some i→l[j]? =ops[i]?) {s s':St} {e:oA} (_:CP E call ops l s= .ok e s')
 {φ:Ph} {a:Act} {w:World} {b:Frame} {k:List Item} {K:Bool→List Frame} (_:SR φ s.ts s.ds a) (_:OK E φ s.h w) (_:oK φ b K s.rc),
 tf E φ s.h w b K k (lone (b.atR a (.inRegion ops is::k)) (cur K s.rc) w) e s'
 | [],is,hl,hi,s,s',e,h,φ,a,w,b,k,K,hs,ok,gv=>by
   cases is with
   | cons _ _=>simp at hl
   | nil=>
     simp [CP] at h;obtain ⟨rfl,rfl⟩:=h
     exact ⟨φ,w,a,_,.normal,hs,ok,Fr.refl _ _ _,gv,.one stepR_region_end⟩
 | o::l,is,hl,hi,s,s',e,h,φ,a,w,b,k,K,hs,ok,gv=>by
   cases is with
   | nil=>simp at hl
   | cons i is=>
     have ho:ops[i]? =some o:=by have:=hi 0 i (by simp);simpa using this.symm
     have WW:is.length=l.length:=by simpa using hl
     have Im:∀(j i':Nat),is[j]? =some i'→l[j]? =ops[i']? :=fun j i' hj=>by have:=hi (j+1) i' (by simpa using hj);simpa using this
     simp only[CP] at h
     have hwe:=Ak (ops:=ops) hs.ts o
     split at h
     · rename_i hw
       rw[←hwe] at hw
       split at h
       · rename_i s1 rH
         obtain ⟨φ1,w1,a1,e1,x1,x2,x3,x4,x5,x6⟩:=(I6 hE cE ho rH hs ok gv hw (rest:=is) (k:=k)).is
         cases x1
         exact ((Ap hE cE WW Im h x2 x3 x5).of_steps x6).later x4
       · rename_i cR
         obtain ⟨φ1,w1,a1,e1,x1,x2,x3,x4,x5,x6⟩:=(I6 hE cE ho h hs ok gv hw (rest:=is) (k:=k)).is
         cases x1 with
         | normal=>exact (cR _ h).elim
         | exit=>exact x6.elim
         | ret=>exact x6.elim
         | panic v v' hv=>exact ⟨φ1,w1,a1,_,.panic v v' hv,x2,x3,x4,x5,x6⟩
     · rename_i hw
       have zF:SR φ (gW s.ts o.dst AV.undef) s.ds (a.put o.dst undef):=hs.put o.dst (VR.undef φ)
       refine (Ap hE cE WW Im h zF ok gv).of_steps (.one ?_)
       have:=stepR_op_skip (P:=E.P) (b:=b) (a:=a) (k:=k) (cs:=cur K s.rc) (w:=w) (ops:=ops) (i:=i) (rest:=is) (by rw[ho];simp;rw[hwe];simpa using hw)
       rw[this,ho];rfl
set_option maxHeartbeats 1000000 in
theorem Aq (hE:jZ E) {call:aE} (cE:iu E call):∀(n:Nat) (c:Code) {s s':St} {e:oA} (_:exec E call n c s= .ok e s')
 {φ:Ph} {a:Act} {w:World} {b:Frame} {k:List Item} {K:Bool→List Frame} (_:SR φ s.ts s.ds a) (_:OK E φ s.h w) (_:oK φ b K s.rc) (_:(E.P.funcs[b.fn]?).isSome=true),
 tf E φ s.h w b K k (lone (b.atR a (.code c::k)) (cur K s.rc) w) e s'∧∀c',c= .loop c'→tf E φ s.h w b K k (lone (b.atR a (.code c':: .inLoop c'::k)) (cur K s.rc) w) e s':=by
 intro n
 induction n with
 | zero=>intro c s s' e h;simp [exec] at h
 | succ n ih2=>
   have ih:∀(c:Code) {s s':St} {e:oA} (_:exec E call n c s= .ok e s')
    {φ:Ph} {a:Act} {w:World} {b:Frame} {k:List Item} {K:Bool→List Frame} (_:SR φ s.ts s.ds a) (_:OK E φ s.h w) (_:oK φ b K s.rc) (_:(E.P.funcs[b.fn]?).isSome=true),
    tf E φ s.h w b K k (lone (b.atR a (.code c::k)) (cur K s.rc) w) e s':=fun c _ _ _ h _ _ _ _ _ _ hs ok gv E_=>(ih2 c h hs ok gv E_).1
   intro c s s' e h φ a w b k K hs ok gv E_
   have adW:∀c',c= .loop c'→tf E φ s.h w b K k (lone (b.atR a (.code c':: .inLoop c'::k)) (cur K s.rc) w) e s':=by
    rintro c rfl
    simp only[exec] at h
    split at h
    · rename_i s1 h1
      obtain ⟨φ1,w1,a1,e1,x1,x2,x3,x4,x5,x6⟩:=(ih c h1 hs ok gv E_ (k:= .inLoop c::k)).is
      cases x1
      exact (((ih2 (.loop c) h x2 x3 x5 E_).2 c rfl).of_steps (Steps.trans x6 (.one stepR_inLoop))).later x4
    · rename_i cR
      obtain ⟨φ1,w1,a1,e1,x1,x2,x3,x4,x5,x6⟩:=(ih c h hs ok gv E_ (k:= .inLoop c::k)).is
      refine ⟨φ1,w1,a1,e1,x1,x2,x3,x4,x5,.pass (x:= .inLoop c) (fun _=>rfl) ?_ x6⟩
      cases x1 with
      | normal=>exact (cR _ h).elim
      | exit=>simp
      | ret=>simp
      | panic=>simp
   refine ⟨?_,adW⟩
   cases c with
   | skip=>simp [exec] at h;obtain ⟨rfl,rfl⟩:=h;exact ⟨φ,w,a,_,.normal,hs,ok,Fr.refl _ _ _,gv,.one stepR_skip⟩
   | label l=>simp [exec] at h;obtain ⟨rfl,rfl⟩:=h;exact ⟨φ,w,a,_,.normal,hs,ok,Fr.refl _ _ _,gv,.one stepR_label⟩
   | ret=>simp [exec] at h;obtain ⟨rfl,rfl⟩:=h;exact ⟨φ,w,a,_,.ret,hs,ok,Fr.refl _ _ _,gv,k,Steps.refl _ _⟩
   | exit id=>simp [exec] at h;obtain ⟨rfl,rfl⟩:=h;exact ⟨φ,w,a,_,.exit id,hs,ok,Fr.refl _ _ _,gv,k,rfl,Steps.refl _ _⟩
   | seq x y=>
     simp only[exec] at h
     split at h
     · rename_i s1 h1
       obtain ⟨φ1,w1,a1,e1,x1,x2,x3,x4,x5,x6⟩:=(ih x h1 hs ok gv E_ (k:= .code y::k)).is
       cases x1
       exact ((ih y h x2 x3 x5 E_).of_steps (.head stepR_seq x6)).later x4
     · rename_i cR
       obtain ⟨φ1,w1,a1,e1,x1,x2,x3,x4,x5,x6⟩:=(ih x h hs ok gv E_ (k:= .code y::k)).is
       refine ⟨φ1,w1,a1,e1,x1,x2,x3,x4,x5,.of_steps (.one stepR_seq) (.pass (x:= .code y) (fun _=>rfl) ?_ x6)⟩
       cases x1 with
       | normal=>exact (cR _ h).elim
       | exit=>simp
       | ret=>simp
       | panic=>simp
   | cond x y z=>
     simp only[exec] at h
     split at h
     · rename_i hx
       have h1:=oI ok.gl hs.ts hx
       generalize mo:a.eval x=cv at h1
       cases h1
       exact (ih y h hs ok gv E_).of_steps (.one (stepR_cond mo))
     · rename_i hx
       have h1:=oI ok.gl hs.ts hx
       generalize mo:a.eval x=cv at h1
       cases h1
       exact (ih z h hs ok gv E_).of_steps (.one (stepR_cond mo))
     · simp at h
   | block id c=>
     simp only[exec] at h
     split at h
     · rename_i id' s1 h1
       obtain ⟨φ1,w1,a1,e1,x1,x2,x3,x4,x5,x6⟩:=(ih c h1 hs ok gv E_ (k:= .inBlock id::k)).is
       cases x1
       split at h
       · rename_i hid
         simp at h;obtain ⟨rfl,rfl⟩:=h
         obtain ⟨todo,ht,ja⟩:=x6
         exact ⟨φ1,w1,a1,_,.normal,x2,x3,x4,x5,.head stepR_block (Steps.trans ja (.one (stepR_exit (by rw[ht];simp [exitTo,hid]))))⟩
       · rename_i hid
         simp at h;obtain ⟨rfl,rfl⟩:=h
         obtain ⟨todo,ht,ja⟩:=x6
         refine ⟨φ1,w1,a1,_,.exit id',x2,x3,x4,x5,todo,?_,.head stepR_block ja⟩
         have:(id==id')=false:=by simp;exact fun h=>hid h.symm
         rw[ht];simp [exitTo,this]
     · rename_i cR
       obtain ⟨φ1,w1,a1,e1,x1,x2,x3,x4,x5,x6⟩:=(ih c h hs ok gv E_ (k:= .inBlock id::k)).is
       cases x1 with
       | normal=>exact ⟨φ1,w1,a1,_,.normal,x2,x3,x4,x5,.head stepR_block (Steps.trans x6 (.one stepR_inBlock))⟩
       | exit id'=>exact (cR _ _ h).elim
       | ret=>exact ⟨φ1,w1,a1,_,.ret,x2,x3,x4,x5,.of_steps (e:= .ret) (k:=k) (.one stepR_block) x6⟩
       | panic v v' hv=>exact ⟨φ1,w1,a1,_,.panic v v' hv,x2,x3,x4,x5,.of_steps (e:= .panic _) (k:=k) (.one stepR_block) x6⟩
   | loop c=>exact (adW c rfl).of_steps (.one stepR_loop)
   | region id ops draw=>
     simp only[exec] at h
     cases draw with
     | false=>
       have rH:=Ap hE cE (ops:=ops) (l:=ops.toList) (is:=List.range ops.size) (by simp) (fun j i hj=>by
        have:=List.getElem?_eq_some_iff.1 hj
        obtain ⟨h1,h2⟩:=this
        simp at h1 h2;subst h2;simp) h hs ok gv (b:=b) (k:=k)
       exact rH.of_steps (.one stepR_region)
     | true=>
       obtain ⟨h1,h2,⟨rfl,φ',a',w',x1,x2,x3,x4,x5⟩ | ⟨v,rfl,hp⟩⟩:=Mt hE hE.mixed cE h hs ok gv (b:=b) (k:=k) id
       · refine ⟨φ',w',a',_,.normal,⟨x1,by rw[h2,x2];exact hs.ds.mono x4.ext⟩,x3,x4,by rw[h1];exact gv.mono x4.ext,?_⟩
         rw[h1];exact x5
       · obtain ⟨φ',a',w',v',todo,x0,x1,x2,x3,x4,x5⟩:=hp.is
         refine ⟨φ',w',a',_,.panic v v' x0,⟨x1,by rw[h2,x2];exact hs.ds.mono x4.ext⟩,x3,x4,by rw[h1];exact gv.mono x4.ext,todo,?_⟩
         rw[h1];exact x5
   | rangeFunc f ps a1 b1=>
     simp only[exec] at h
     exact Kq cE h hs ok gv E_
   | scope c=>simp [exec] at h
   | goto l=>simp [exec] at h
   | refuse uu=>simp [exec] at h
end Go.Ab
end
