import Derived.Orders
import Derived.Test.YthapgpflpcffnaaGreatDoorA2
set_option linter.unusedVariables false
set_option linter.unusedSimpArgs false
section
namespace Go.Ab
variable {E:Env}
theorem gU {α:Type} {f:α→α→Bool} (hf:∀x y,f x y=true→x=y):∀{l r:List α} (_:bK f l r=true),l=r
 | [],[],_=>rfl
 | [],_::_,h=>by simp [bK] at h
 | _::_,[],h=>by simp [bK] at h
 | x::xs,y::ys,h=>by
   simp only[bK,Bool.and_eq_true] at h
   rw[hf x y h.1,gU hf h.2]
theorem AV.oE:∀(n:Nat) (x y:AV),AV.same n x y=true→x=y
 | 0,_,_,h=>by simp [AV.same] at h
 | n+1,x,y,h=>by
   have ih:=AV.oE n
   cases x<;>cases y<;>simp [AV.same] at h<;>try rfl
   all_goals first
    | (subst h;rfl)
    | (obtain ⟨rfl,rfl⟩:=h;rfl)
    | (obtain ⟨⟨⟨⟨rfl,rfl⟩,rfl⟩,rfl⟩,rfl⟩:=h;rfl)
    | (obtain ⟨⟨rfl,h1⟩,h2⟩:=h;rw[gU ih h1,gU ih h2])
    | (obtain ⟨rfl,h1⟩:=h;rw[ih _ _ h1])
    | (rw[gU ih h])
theorem aF.oE {x y:aF} (h:aF.same x y=true):x=y:=by
 unfold aF.same at h
 split at h
 · simp only[Bool.and_eq_true,beq_iff_eq] at h
   obtain ⟨⟨h1,rfl⟩,rfl⟩:=h
   rw[gU (AV.oE 20) h1]
 · simp at h;subst h;rfl
 · simp at h;obtain ⟨rfl,rfl⟩:=h;rfl
 · simp at h
theorem nJ:∀{l:List Nat} (_:nodup l=true),l.Nodup
 | [],_=> .nil
 | x::xs,h=>by
   simp only[nodup,Bool.and_eq_true,Bool.not_eq_true',List.contains_eq_mem,decide_eq_false_iff_not] at h
   exact List.nodup_cons.2 ⟨h.1,nJ h.2⟩
theorem sI:∀(n:Nat) (l:List Nat) (_:l.Nodup) (_:∀x∈l,x<n),l.length≤n
 | 0,l,_,h=>by
   cases l with
   | nil=>simp
   | cons x _=>have:=h x (by simp);omega
 | n+1,l,hn,h=>by
   have h1:=sI n (l.erase n) (hn.erase n) (fun x hx=>by
    have h2:=h x (List.mem_of_mem_erase hx)
    have h3:x≠n:=(hn.mem_erase_iff.1 hx).1
    omega)
   rw[List.length_erase] at h1
   split at h1<;>omega
structure sJ (E:Env) (ops:Array Oper) (pl:gA):Prop where
 lt:∀i o j,ops[i]? =some o→bN pl.an i j=true→j<i
 direct:∀i o e,ops[i]? =some o→e∈fq o→e<i∧bN pl.an i e=true
 closed:∀i o j,ops[i]? =some o→bN pl.an i j=true→∃e∈fq o,e=j∨bN pl.an e j=true
 guard:∀i o g want,ops[i]? =some o→o.guard=some (g,want)→bN pl.an i g=true
 slot:∀i j o p d,i≠j→ops[i]? =some o→ops[j]? =some p→p.dst=some d→o.dst≠some d∧(d∈tmpsOf o→bN pl.an i j=true∨bN pl.an j i=true)
 chain:∀q e f,pl.aR[q]? =some e→pl.aR[q+1]? =some f→bN pl.an f e=true
 aR:pl.aR=hU E ops.toList
 nd:pl.aR.Nodup
 order:ft E ops pl.an pl.aR pl.order [] 0=true
theorem mR {ops:Array Oper} {i:Nat} {o:Oper} (h:ops[i]? =some o):(o,i)∈ops.toList.zipIdx:=by
 rw[List.mk_mem_zipIdx_iff_getElem?];simpa using h
theorem oF {an:List (List Nat)}:∀{l:List Nat} (_:mN an l=true) (q e f:Nat),l[q]? =some e→l[q+1]? =some f→bN an f e=true
 | [],_,q,e,f,h,_=>by simp at h
 | [x],_,q,e,f,h,h'=>by simp at h'
 | x::y::l,hc,q,e,f,h,h'=>by
   simp only[mN,Bool.and_eq_true] at hc
   cases q with
   | zero=>simp at h h';subst h;subst h';exact hc.1
   | succ q=>exact oF hc.2 q e f (by simpa using h) (by simpa using h')
theorem zv {ops:Array Oper} {pl:gA} (h:lJ E ops=some pl):sJ E ops pl:=by
 unfold lJ at h
 simp only at h
 split at h
 · rename_i hc
   simp at h;subst h
   simp only[Bool.and_eq_true] at hc
   obtain ⟨⟨⟨⟨he,hs⟩,Nw⟩,jr⟩,Gr⟩:=hc
   have Bq:=List.all_eq_true.1 he
   have kn:=List.all_eq_true.1 hs
   refine ⟨fun i o j ho hj=>?_,fun i o e ho hm=>?_,fun i o j ho hj=>?_,fun i o g want ho hg=>?_,fun i j o p d bY ho hp hd=>?_,oF Nw,rfl,nJ jr,Gr⟩
   · have:=Bq _ (mR ho)
     simp only[Bool.and_eq_true] at this
     have h2:=List.all_eq_true.1 this.2 j (by simpa [bN] using hj)
     simp only[Bool.and_eq_true,decide_eq_true_eq] at h2
     exact h2.1
   · have:=Bq _ (mR ho)
     simp only[Bool.and_eq_true] at this
     have h2:=List.all_eq_true.1 this.1 e hm
     simpa using h2
   · have:=Bq _ (mR ho)
     simp only[Bool.and_eq_true] at this
     have h2:=List.all_eq_true.1 this.2 j (by simpa [bN] using hj)
     simp only[Bool.and_eq_true,List.any_eq_true,Bool.or_eq_true,beq_iff_eq] at h2
     exact h2.2
   · have:=kn _ (mR ho)
     simp only[Bool.and_eq_true,hg] at this
     exact this.1.1
   · have:=kn _ (mR ho)
     simp only[Bool.and_eq_true] at this
     have h2:=List.all_eq_true.1 this.2 _ (mR hp)
     simp only[Bool.or_eq_true,beq_iff_eq,bY,false_or,hd,Bool.and_eq_true,bne_iff_ne,Bool.not_eq_true',List.contains_eq_mem,decide_eq_false_iff_not] at h2
     exact ⟨h2.1,fun hm=>(h2.2.imp_left (fun x=>x.resolve_left (fun hn=>hn hm)))⟩
 · simp at h
def kb (E:Env) (ops:Array Oper) (l:List Nat):Nat:=(l.filter fun i=>ct E ((ops.getD i default).op)).length
theorem xy {ops:Array Oper} {i:Nat} (l:List Nat) (h:ct E ((ops.getD i default).op)=true):kb E ops (i::l)=kb E ops l+1:=by
 unfold kb;rw[List.filter_cons_of_pos (p:=fun i=>ct E ((ops.getD i default).op)) h];rfl
theorem xz {ops:Array Oper} {i:Nat} (l:List Nat) (h:¬ct E ((ops.getD i default).op)=true):kb E ops (i::l)=kb E ops l:=by
 unfold kb;rw[List.filter_cons_of_neg (p:=fun i=>ct E ((ops.getD i default).op)) h]
theorem dO {ops:Array Oper} {an:List (List Nat)} {aR:List Nat}:∀{l seen:List Nat} {k:Nat} (_:ft E ops an aR l seen k=true),
 (∀p i,l[p]? =some i→i<ops.size∧i ∉ seen∧i ∉ l.take p∧(∀j,bN an i j=true→j∈seen∨j∈l.take p)∧
  (ct E ((ops.getD i default).op)=true→aR[k+kb E ops (l.take p)]? =some i)∧(ct E ((ops.getD i default).op)=false→wY aR an i=k+kb E ops (l.take p)))∧
 (∀i,i<ops.size→i∈seen∨i∈l)∧k+kb E ops l=aR.length
 | [],seen,k,h=>by
   simp only[ft,Bool.and_eq_true,List.all_eq_true,List.mem_range,beq_iff_eq] at h
   exact ⟨fun p i hp=>by simp at hp,fun i hi=> .inl (by simpa using h.1 i hi),by simpa [kb] using h.2⟩
 | i::l,seen,k,h=>by
   simp only[ft,Bool.and_eq_true,decide_eq_true_eq,Bool.not_eq_true',List.contains_eq_mem,decide_eq_false_iff_not] at h
   obtain ⟨⟨⟨gC,SJ⟩,NC⟩,iM⟩:=h
   have Mt:∀j,bN an i j=true→j∈seen:=fun j hj=>by
    have:=List.all_eq_true.1 NC j (by simpa [bN] using hj)
    simpa using this
   by_cases he:ct E ((ops.getD i default).op)=true
   · simp only[he,if_true,Bool.and_eq_true,beq_iff_eq] at iM
     obtain ⟨h1,h2,h3⟩:=dO iM.2
     refine ⟨fun p j hp=>?_,fun j hj=>?_,?_⟩
     · cases p with
       | zero=>simp at hp;subst hp;exact ⟨gC,SJ,by simp,fun j hj=> .inl (Mt j hj),fun _=>by simpa [kb] using iM.1,fun hf=>by rw[he] at hf;simp at hf⟩
       | succ p=>
         obtain ⟨a1,a2,a3,a4,a5,a6⟩:=h1 p j (by simpa using hp)
         have hc:k+kb E ops (List.take (p+1) (i::l))=k+1+kb E ops (l.take p):=by rw[List.take_succ_cons,xy _ he];omega
         simp only[List.mem_cons,not_or] at a2
         refine ⟨a1,a2.2,by simp;exact ⟨a2.1,a3⟩,fun m hm=>?_,by rw[hc];exact a5,by rw[hc];exact a6⟩
         rcases a4 m hm with h4 | h4
         · simp at h4;rcases h4 with rfl | h4
           · exact .inr (by simp)
           · exact .inl h4
         · exact .inr (by simp [h4])
     · rcases h2 j hj with h4 | h4
       · simp at h4;rcases h4 with rfl | h4
         · exact .inr (by simp)
         · exact .inl h4
       · exact .inr (by simp [h4])
     · rw[xy _ he];omega
   · simp only[he,Bool.false_eq_true,if_false,Bool.and_eq_true,beq_iff_eq] at iM
     obtain ⟨h1,h2,h3⟩:=dO iM.2
     refine ⟨fun p j hp=>?_,fun j hj=>?_,?_⟩
     · cases p with
       | zero=>simp at hp;subst hp;exact ⟨gC,SJ,by simp,fun j hj=> .inl (Mt j hj),fun hf=>absurd hf he,fun _=>by simpa [kb] using iM.1⟩
       | succ p=>
         obtain ⟨a1,a2,a3,a4,a5,a6⟩:=h1 p j (by simpa using hp)
         have hc:k+kb E ops (List.take (p+1) (i::l))=k+kb E ops (l.take p):=by rw[List.take_succ_cons,xz _ he]
         simp only[List.mem_cons,not_or] at a2
         refine ⟨a1,a2.2,by simp;exact ⟨a2.1,a3⟩,fun m hm=>?_,by rw[hc];exact a5,by rw[hc];exact a6⟩
         rcases a4 m hm with h4 | h4
         · simp at h4;rcases h4 with rfl | h4
           · exact .inr (by simp)
           · exact .inl h4
         · exact .inr (by simp [h4])
     · rcases h2 j hj with h4 | h4
       · simp at h4;rcases h4 with rfl | h4
         · exact .inr (by simp)
         · exact .inl h4
       · exact .inr (by simp [h4])
     · rw[xz _ he];exact h3
def dh (ops:Array Oper) (i:Nat):Option Tmp:=(ops[i]?).bind (·.dst)
def xA (ops:Array Oper) (ts:List AV) (l:List Step):List AV:=l.foldl (fun ts x=>bR ts (dh ops x.i) x.v) ts
def js (ops:Array Oper) (val:Nat→AV) (ts:List AV) (l:List Nat):List AV:=l.foldl (fun ts i=>bR ts (dh ops i) (val i)) ts
structure Grown (a b:ah):Prop where
 nx:a.nx≤b.nx
 old:∀i,i<a.nx→b.get i=a.get i
theorem Grown.refl (a:ah):Grown a a:=⟨Nat.le_refl _,fun _ _=>rfl⟩
theorem Grown.trans {a b c:ah} (x:Grown a b) (y:Grown b c):Grown a c:=⟨Nat.le_trans x.nx y.nx,fun i hi=>(y.old i (Nat.lt_of_lt_of_le hi x.nx)).trans (x.old i hi)⟩
theorem Grown.new {a b:ah} {o:aF} (h:a.new o=some b):Grown a b:=by
 obtain ⟨h1,h2,h3,h4⟩:=ah.fO h
 exact ⟨by omega,fun i hi=>h4 i (by omega)⟩
theorem OK.grown {φ:Ph} {a b:ah} {w:World} (g:Grown a b) (ok:OK E φ a w):OK E φ b w∧Fr φ a w φ b w:=by
 have hold:∀i l,φ i=some l→b.get i=a.get i:=fun i l hl=>g.old i (ok.qL i l hl)
 refine ⟨⟨fun i l hl=>Nat.lt_of_lt_of_le (ok.qL i l hl) g.nx,Nat.le_trans ok.nx g.nx,ok.lN,fun i o l hi hl=>ok.live i o l (hold i l hl▸hi) hl,
  fun i j o p l m hi hj hl hm hw hb=>ok.inj i j o p l m (hold i l hl▸hi) (hold j m hm▸hj) hl hm hw hb⟩,
  ⟨Ph.le_refl φ,fun _ _=>rfl,g.nx,rfl,rfl,rfl,Nat.le_refl _,fun _ _ _=>rfl,fun i o l hi hr hl=> .inr ⟨i,o,l,hold i l hl▸hi,hr,hl,rfl⟩⟩⟩
def oG (E:Env) (call:aI) (ops:Array Oper) (rc:RC) (x:Step) (o:Oper) (hk:ah) (sk:ah) (Mu:Option ah):Prop:=
 match x.kind with
 | .off=>bp ops x.ts o=false∧x.v=AV.undef∧(ct E o.op=true→Mu=some hk)
 | .db=>ct E o.op=false∧bp ops x.ts o=true∧aL E x.ts o.op=some x.v
 | .red=>ct E o.op=false∧bp ops x.ts o=true
 | .lK n obj=>ct E o.op=false∧bp ops x.ts o=true∧(∃mk,bZ E x.ts o.op=some (obj,mk)∧x.v=mk n)∧sk.nx≤n∧n<hk.nx
 | .nf h'=>ct E o.op=true∧bp ops x.ts o=true∧bF E call x.ts hk rc o= .val x.v h'∧Mu=some h'
structure Ko (E:Env) (call:aI) (ops:Array Oper) (s:St) (k:Nat) (order:List Nat) (tr:List Step) (hs st:List ah) (s':St):Prop where
 is:tr.map (·.i)=order
 ts:s'.ts=xA ops s.ts tr
 ds:s'.ds=s.ds
 rc:s'.rc=s.rc
 len:hs.length=kb E ops order+1
 ND:st.length=hs.length
 first:st[0]? =some s.h
 last:hs[kb E ops order]? =some s'.h
 grown:∀(j:Nat) (a b:ah),st[j]? =some a→hs[j]? =some b→Grown a b
 step:∀(p:Nat) (x:Step),tr[p]? =some x→x.ts=xA ops s.ts (tr.take p)∧x.k=k+kb E ops (order.take p)∧
  ∃o hk sk,ops[x.i]? =some o∧hs[kb E ops (order.take p)]? =some hk∧st[kb E ops (order.take p)]? =some sk∧oG E call ops s.rc x o hk sk (st[kb E ops (order.take p)+1]?)
theorem mS (ops:Array Oper) (ts:List AV) (x:Step) (l:List Step):xA ops ts (x::l)=xA ops (bR ts (dh ops x.i) x.v) l:=rfl
theorem iR {call:aI} {ops:Array Oper}:∀{order:List Nat} {k:Nat} {s:St} {tr:List Step} {hs:List ah} {s':St} (_:bz E call ops order k s= .ok tr hs s'),
 ∃st,Ko E call ops s k order tr hs st s'
 | [],k,s,tr,hs,s',h=>by
   simp [bz] at h;obtain ⟨rfl,rfl,rfl⟩:=h
   exact ⟨[s.h],rfl,rfl,rfl,rfl,rfl,rfl,rfl,rfl,fun j a b ha hb=>by
    cases j with
    | zero=>simp at ha hb;subst ha;subst hb;exact Grown.refl _
    | succ j=>simp at ha,fun p x hp=>by simp at hp⟩
 | i::rest,k,s,tr,hs,s',h=>by
   simp only[bz] at h
   cases ho:ops[i]? with
   | none=>rw[ho] at h;simp at h
   | some o=>
   rw[ho] at h
   simp only at h
   have Px:ops.getD i default=o:=by simp [Array.getD_eq_getD_getElem?,ho]
   have Kp:dh ops i=o.dst:=by simp [dh,ho]
   have writes:∀(x:Step) (s1:St),x.i=i→x.k=k→x.ts=s.ts→s1.ts=bR s.ts o.dst x.v→s1.ds=s.ds→s1.rc=s.rc→ct E o.op=true→
    oG E call ops s.rc x o s.h s.h (some s1.h)→((bz E call ops rest (k+1) s1).bound s.h).step x= .ok tr hs s'→∃st,Ko E call ops s k (i::rest) tr hs st s':=by
    intro x s1 Et xB TJ h1 h2 h3 he er hd
    cases hr:bz E call ops rest (k+1) s1 with
    | fail why q=>rw[hr] at hd;simp [eO.bound,eO.step] at hd
    | ok C6 kq s2=>
      rw[hr] at hd;simp [eO.bound,eO.step] at hd;obtain ⟨rfl,rfl,rfl⟩:=hd
      obtain ⟨FP,t⟩:=iR hr
      have hc:∀l,kb E ops (i::l)=kb E ops l+1:=fun l=>xy l (by rw[Px];exact he)
      refine ⟨s.h::FP,by simp [Et,t.is],?_,t.ds.trans h2,t.rc.trans h3,by simp [t.len,hc],by simp [t.ND],rfl,by rw[hc];simpa using t.last,fun j a b ha hb=>?_,fun p y hp=>?_⟩
      · rw[mS,Et,Kp,←h1];exact t.ts
      · cases j with
        | zero=>simp at ha hb;subst ha;subst hb;exact Grown.refl _
        | succ j=>exact t.grown j a b (by simpa using ha) (by simpa using hb)
      · cases p with
        | zero=>
          simp at hp;subst hp
          refine ⟨by simp [xA,TJ],by simp [kb,xB],o,s.h,s.h,by rw[Et];exact ho,by simp [kb],by simp [kb],?_⟩
          have:(s.h::FP)[kb E ops (List.take 0 (i::rest))+1]? =some s1.h:=by simp [kb];exact t.first
          rw[this];exact er
        | succ p=>
          obtain ⟨a1,a2,o2,hk,sk,a3,a4,a5,a6⟩:=t.step p y (by simpa using hp)
          refine ⟨?_,by rw[List.take_succ_cons,hc];omega,o2,hk,sk,a3,by rw[List.take_succ_cons,hc];simpa using a4,by rw[List.take_succ_cons,hc];simpa using a5,?_⟩
          · rw[List.take_succ_cons,mS,Et,Kp,←h1];exact a1
          · rw[List.take_succ_cons,hc,h3] at *
            simpa using a6
   have plain:∀(x:Step) (s1:St),x.i=i→x.k=k→x.ts=s.ts→s1.ts=bR s.ts o.dst x.v→s1.ds=s.ds→s1.rc=s.rc→ct E o.op=false→Grown s.h s1.h→
    (∀hk sn,Grown s1.h hk→oG E call ops s.rc x o hk s.h sn)→(bz E call ops rest k s1).step x= .ok tr hs s'→∃st,Ko E call ops s k (i::rest) tr hs st s':=by
    intro x s1 Et xB TJ h1 h2 h3 he hg er hd
    cases hr:bz E call ops rest k s1 with
    | fail why q=>rw[hr] at hd;simp [eO.step] at hd
    | ok C6 kq s2=>
      rw[hr] at hd;simp [eO.step] at hd;obtain ⟨rfl,rfl,rfl⟩:=hd
      obtain ⟨FP,t⟩:=iR hr
      have hc:∀l,kb E ops (i::l)=kb E ops l:=fun l=>xz l (by rw[Px];simp [he])
      cases oH:FP with
      | nil=>have:=t.first;rw[oH] at this;simp at this
      | cons s0 TL=>
      have JS:s0=s1.h:=by have:=t.first;rw[oH] at this;simpa using this
      subst JS
      have cX:∀j,(s.h::TL)[j+1]? =FP[j+1]? :=fun j=>by rw[oH];rfl
      refine ⟨s.h::TL,by simp [Et,t.is],?_,t.ds.trans h2,t.rc.trans h3,by rw[hc];exact t.len,by have:=t.ND;rw[oH] at this;simpa using this,rfl,by rw[hc];exact t.last,fun j a b ha hb=>?_,fun p y hp=>?_⟩
      · rw[mS,Et,Kp,←h1];exact t.ts
      · cases j with
        | zero=>
          simp at ha;subst ha
          exact hg.trans (t.grown 0 _ b t.first hb)
        | succ j=>rw[cX] at ha;exact t.grown (j+1) a b ha hb
      · cases p with
        | zero=>
          simp at hp;subst hp
          have h0:∃hk,kq[0]? =some hk:=by
           have:=t.len
           cases hh:kq with
           | nil=>rw[hh] at this;simp at this
           | cons a _=>exact ⟨a,rfl⟩
          obtain ⟨hk,qT⟩:=h0
          refine ⟨by simp [xA,TJ],by simp [kb,xB],o,hk,s.h,by rw[Et];exact ho,by simpa [kb] using qT,by simp [kb],?_⟩
          exact er hk _ (t.grown 0 _ hk t.first qT)
        | succ p=>
          obtain ⟨a1,a2,o2,hk,sk,a3,a4,a5,a6⟩:=t.step p y (by simpa using hp)
          have Qf:∃SN,(s.h::TL)[kb E ops (List.take p rest)]? =some SN∧SN.nx≤sk.nx:=by
           cases hq:kb E ops (List.take p rest) with
           | zero=>rw[hq] at a5;rw[t.first] at a5;simp at a5;subst a5;exact ⟨s.h,rfl,hg.nx⟩
           | succ q=>rw[hq] at a5;exact ⟨sk,by rw[cX];exact a5,Nat.le_refl _⟩
          obtain ⟨SN,TM,TN⟩:=Qf
          refine ⟨?_,by rw[List.take_succ_cons,hc];exact a2,o2,hk,SN,a3,by rw[List.take_succ_cons,hc];exact a4,by rw[List.take_succ_cons,hc];exact TM,?_⟩
          · rw[List.take_succ_cons,mS,Et,Kp,←h1];exact a1
          · rw[List.take_succ_cons,hc,cX,←h3]
            unfold oG at a6 ⊢
            split<;>rename_i oI<;>rw[oI] at a6
            · exact a6
            · exact a6
            · exact a6
            · exact ⟨a6.1,a6.2.1,a6.2.2.1,Nat.le_trans TN a6.2.2.2.1,a6.2.2.2.2⟩
            · exact a6
   split at h
   · rename_i he
     split at h
     · rename_i hw
       split at h
       · rename_i v h' lV
         exact writes ⟨i,k,s.ts,v,.nf h'⟩ {s with ts:=bR s.ts o.dst v,h:=h'} rfl rfl rfl rfl rfl rfl he ⟨he,hw,lV,rfl⟩ h
       · simp at h
       · simp at h
     · rename_i hw
       exact writes ⟨i,k,s.ts,AV.undef,.off⟩ {s with ts:=bR s.ts o.dst AV.undef} rfl rfl rfl rfl rfl rfl he ⟨by simpa using hw,rfl,fun _=>rfl⟩ h
   · rename_i he
     have Bq:ct E o.op=false:=by simpa using he
     split at h
     · rename_i hw
       split at h
       · rename_i v hp
         exact plain ⟨i,k,s.ts,v,.db⟩ {s with ts:=bR s.ts o.dst v} rfl rfl rfl rfl rfl rfl Bq (Grown.refl _) (fun hk sn _=>⟨Bq,hw,hp⟩) h
       · split at h
         · rename_i v hp
           exact plain ⟨i,k,s.ts,v,.red⟩ {s with ts:=bR s.ts o.dst v} rfl rfl rfl rfl rfl rfl Bq (Grown.refl _) (fun hk sn _=>⟨Bq,hw⟩) h
         · split at h
           · rename_i obj mk hp
             split at h
             · rename_i h' hn
               refine plain ⟨i,k,s.ts,mk s.h.nx,.lK s.h.nx obj⟩ {s with ts:=bR s.ts o.dst (mk s.h.nx),h:=h'} rfl rfl rfl rfl rfl rfl Bq (Grown.new hn) (fun hk sn g=>⟨Bq,hw,⟨mk,hp,rfl⟩,Nat.le_refl _,?_⟩) h
               have:=(ah.fO hn).2.1
               have:=g.nx
               simp at this;omega
             · simp at h
           · simp at h
     · rename_i hw
       exact plain ⟨i,k,s.ts,AV.undef,.off⟩ {s with ts:=bR s.ts o.dst AV.undef} rfl rfl rfl rfl rfl rfl Bq (Grown.refl _) (fun hk sn _=>⟨by simpa using hw,rfl,fun h=>by rw[Bq] at h;simp at h⟩) h
end Go.Ab
end
section
namespace Go.Ab
variable {E:Env}
theorem mT (ops:Array Oper) (val:Nat→AV) (x:Nat):∀(l:List Nat) (ts:List AV) (_:∀j∈l,dh ops j≠some x),(js ops val ts l)[x]? =ts[x]?
 | [],_,_=>rfl
 | i::l,ts,h=>by
   show (js ops val (bR ts (dh ops i) (val i)) l)[x]? =_
   rw[mT ops val x l _ (fun j hj=>h j (by simp [hj]))]
   have:=h i (by simp)
   cases hd:dh ops i with
   | none=>rfl
   | some d=>
     rw[hd] at this
     have bY:d≠x:=fun e=>this (by rw[e])
     simp [bR,List.getElem?_set_ne bY]
theorem sK (ops:Array Oper) (val:Nat→AV) (x j:Nat) (hj:dh ops j=some x):∀(l:List Nat) (ts:List AV) (_:j∈l) (_:∀j'∈l,dh ops j'=some x→j'=j),(js ops val ts l)[x]? =if x<ts.length then some (val j) else none
 | i::l,ts,hm,hu=>by
   show (js ops val (bR ts (dh ops i) (val i)) l)[x]? =_
   have hlen:(bR ts (dh ops i) (val i)).length=ts.length:=by cases dh ops i<;>simp [bR]
   by_cases C7:j∈l
   · rw[sK ops val x j hj l _ C7 (fun j' h=>hu j' (by simp [h])),hlen]
   · have X5:i=j:=by simp at hm;rcases hm with h | h;exact h.symm;exact absurd h C7
     subst X5
     rw[mT ops val x l _ (fun j' kl e=>C7 (hu j' (by simp [kl]) e▸kl))]
     rw[hj]
     simp [bR,List.getElem?_set]
theorem nK {ops:Array Oper} {val:Nat→AV} {x:Nat} {l d:List Nat} (ts:List AV) (hu:∀j j',dh ops j=some x→dh ops j'=some x→j=j') (Mv:∀j,dh ops j=some x→(j∈l↔j∈d)):
 (js ops val ts l)[x]? =(js ops val ts d)[x]? :=by
 by_cases h:∃j,dh ops j=some x∧j∈l
 · obtain ⟨j,hj,hl⟩:=h
   rw[sK ops val x j hj l ts hl (fun j' _ e=>hu j' j e hj),sK ops val x j hj d ts ((Mv j hj).1 hl) (fun j' _ e=>hu j' j e hj)]
 · rw[mT ops val x l ts (fun j hj e=>h ⟨j,e,hj⟩),mT ops val x d ts (fun j hj e=>h ⟨j,e,(Mv j e).2 hj⟩)]
theorem pZ {l r:List AV} {x:Nat} (h:l[x]? =r[x]?) (d:AV):l.getD x d=r.getD x d:=by simp [List.getD,h]
def valOf (tr:List Step) (i:Nat):AV:=((tr.find? (fun x=>x.i==i)).map (·.v)).getD AV.undef
theorem zw {tr:List Step} (hn:(tr.map (·.i)).Nodup) {p:Nat} {x:Step} (hp:tr[p]? =some x):valOf tr x.i=x.v:=by
 unfold valOf
 have:tr.find? (fun y=>y.i==x.i)=some x:=by
  rw[List.find?_eq_some_iff_getElem]
  obtain ⟨gC,hx⟩:=List.getElem?_eq_some_iff.1 hp
  refine ⟨by simp,p,gC,hx,fun j hj=>?_⟩
  have C7:j<tr.length:=by omega
  simp only[Bool.not_eq_true',beq_eq_false_iff_ne]
  intro e
  have h1:(tr.map (·.i))[j]? =some x.i:=by simp [C7,e]
  have h2:(tr.map (·.i))[p]? =some x.i:=by simp [gC,hx]
  have:=(List.getElem?_inj (by simpa using C7) hn).1 (h1.trans h2.symm)
  omega
 rw[this];rfl
theorem xC (ops:Array Oper) {tr:List Step} (hn:(tr.map (·.i)).Nodup) (ts:List AV) (p:Nat):xA ops ts (tr.take p)=js ops (valOf tr) ts ((tr.map (·.i)).take p):=by
 have key:∀(l:List Step) (ts:List AV),(∀x∈l,valOf tr x.i=x.v)→xA ops ts l=js ops (valOf tr) ts (l.map (·.i)):=by
  intro l
  induction l with
  | nil=>intro ts _;rfl
  | cons x l ih=>
    intro ts h
    show xA ops (bR ts (dh ops x.i) x.v) l=js ops (valOf tr) (bR ts (dh ops x.i) (valOf tr x.i)) (l.map (·.i))
    rw[h x (by simp),ih _ (fun y hy=>h y (by simp [hy]))]
 rw[key _ _ (fun x hx=>?_),List.map_take]
 obtain ⟨q,hq⟩:=List.getElem?_of_mem (List.mem_of_mem_take hx)
 exact zw hn hq
theorem OK.place {φ:Ph} {h:ah} {w:World} (ok:OK E φ h w) {n:Nat} {obj:aF} (hg:h.get n=some obj) (w_:φ n=none) (gC:n<h.nx) {O:Obj}
 (ho:OR E (φ.add n ⟨w.heap.size,0,0⟩) obj ⟨w.heap.size,0,0⟩ (some O)):OK E (φ.add n ⟨w.heap.size,0,0⟩) h (w.alloc O)∧φ.le (φ.add n ⟨w.heap.size,0,0⟩):=by
 have hle:φ.le (φ.add n ⟨w.heap.size,0,0⟩):=fun j m hm=>by
  unfold Ph.add;split
  · rename_i e;subst e;rw[w_] at hm;simp at hm
  · exact hm
 have eZ:∀j,j≠n→(φ.add n ⟨w.heap.size,0,0⟩) j=φ j:=fun j hj=>by simp [Ph.add,hj]
 have dw:(φ.add n ⟨w.heap.size,0,0⟩) n=some ⟨w.heap.size,0,0⟩:=by simp [Ph.add]
 have Mw:(w.alloc O).heap=w.heap.push O:=rfl
 have rD:∀j p m,h.get j=some p→φ j=some m→m.cH<w.heap.size:=fun j p m hj hm=>by
  have u_:=ok.live j p m hj hm
  rcases Nat.lt_or_ge m.cH w.heap.size with a | a
  · exact a
  · exfalso
    rw[Array.getElem?_eq_none a] at u_
    exact u_.absurd
 refine ⟨⟨fun j m hm=>?_,ok.nx,fun g hg=>hle _ _ (ok.lN g hg),fun j p m hj hm=>?_,fun j k p q m r hj hk hm hr hw hb=>?_⟩,hle⟩
 · by_cases e:j=n
   · omega
   · rw[eZ j e] at hm;exact ok.qL j m hm
 · by_cases e:j=n
   · subst e;rw[dw] at hm;simp at hm;subst hm;rw[hg] at hj;simp at hj;subst hj;rw[Mw];simpa using ho
   · rw[eZ j e] at hm
     have hb:=rD j p m hj hm
     rw[Mw,Array.getElem?_push,if_neg (by omega)]
     exact (ok.live j p m hj hm).mono hle
 · by_cases e:j=n<;>by_cases e':k=n
   · rw[e,e']
   · subst e;rw[dw] at hm;simp at hm;subst hm;rw[eZ k e'] at hr;have:=rD k q r hk hr;simp at hb;omega
   · subst e';rw[dw] at hr;simp at hr;subst hr;rw[eZ j e] at hm;have:=rD j p m hj hm;simp at hb;omega
   · rw[eZ j e] at hm;rw[eZ k e'] at hr;exact ok.inj j k p q m r hj hk hm hr hw hb
theorem Fr.place {φ₀ φ:Ph} {h₀ h:ah} {w₀ w:World} (f:Fr φ₀ h₀ w₀ φ h w) {n:Nat} (hn:h₀.nx≤n) (w_:φ n=none) (O:Obj):Fr φ₀ h₀ w₀ (φ.add n ⟨w.heap.size,0,0⟩) h (w.alloc O):=by
 have eZ:∀j,j≠n→(φ.add n ⟨w.heap.size,0,0⟩) j=φ j:=fun j hj=>by simp [Ph.add,hj]
 have dw:(φ.add n ⟨w.heap.size,0,0⟩) n=some ⟨w.heap.size,0,0⟩:=by simp [Ph.add]
 refine ⟨fun j m hm=>?_,fun i hi=>by rw[eZ i (by omega)];exact f.old i hi,f.nx,f.os,f.tape,f.output,by have:=f.size;simp;omega,fun b hb SC=>?_,fun i o l hi hr hl=>?_⟩
 · by_cases e:j=n
   · subst e;have:=f.ext j m hm;rw[w_] at this;simp at this
   · rw[eZ j e];exact f.ext j m hm
 · have:=f.size
   rw[show (w.alloc O).heap=w.heap.push O from rfl,Array.getElem?_push,if_neg (by omega)]
   exact f.sj b hb SC
 · by_cases e:i=n
   · subst e;rw[dw] at hl;simp at hl;subst hl;exact .inl f.size
   · rw[eZ i e] at hl;exact f.own i o l hi hr hl
theorem filter_le {P:Nat→Bool} {l:List Nat} {K:Nat} (h:∀q e,l[q]? =some e→P e=true→q<K):(l.filter P).length≤K:=by
 have h1:(l.drop K).filter P=[]:=by
  rw[List.filter_eq_nil_iff]
  intro e he hP
  obtain ⟨q,hq⟩:=List.getElem?_of_mem he
  rw[List.getElem?_drop] at hq
  have:=h _ e hq hP
  omega
 calc (l.filter P).length=((l.take K++l.drop K).filter P).length:=by rw[List.take_append_drop]
  _=((l.take K).filter P).length:=by rw[List.filter_append,h1,List.append_nil]
  _≤(l.take K).length:=List.length_filter_le _ _
  _≤K:=by simp;omega
theorem oJ {P:Nat→Bool}:∀{l:List Nat} {e:Nat} (_:l[(l.takeWhile P).length]? =some e),P e=false
 | [],e,h=>by simp at h
 | x::l,e,h=>by
   by_cases hx:P x=true
   · rw[List.takeWhile_cons_of_pos hx] at h
     exact oJ (l:=l) (by simpa using h)
   · rw[List.takeWhile_cons_of_neg hx] at h
     simp at h;subst h;simpa using hx
end Go.Ab
end
section
namespace Go.Ab
variable {E:Env}
structure xD (E:Env) (call:aI) (ops:Array Oper) (pl:gA) (s s':St) (tr:List Step) (hs st:List ah):Prop where
 lz:sJ E ops pl
 trace:Ko E call ops s 0 pl.order tr hs st s'
 still:∀x∈tr,∀K hk,x.k≤K→K≤eW pl.aR pl.an x.i→hs[K]? =some hk→ey E ops x hk=true
 ids:∀(x y:Step),x∈tr→y∈tr→∀(n:Nat) (o q:aF),x.kind= .lK n o→y.kind= .lK n q→x.i=y.i
structure Inv (E:Env) (ops:Array Oper) (pl:gA) (s:St) (tr:List Step) (hs st:List ah) (φ₀:Ph) (w₀:World) (oe:List Deferred) (d:List Nat) (listed:Array Bool) (K:Nat) (φ:Ph) (a:Act) (w:World):Prop where
 nd:d.Nodup
 lt:∀i∈d,i<ops.size
 listed:∀i,i<ops.size→listed[i]? =some (decide (i∈d))
 closed:∀i∈d,∀j,bN pl.an i j=true→j∈d
 aR:∀q e,pl.aR[q]? =some e→(e∈d↔q<K)
 TO:K≤pl.aR.length
 ts:LR φ (js ops (valOf tr) s.ts d) a.tmps.toList
 ds:a.defers=oe
 ok:∃hK,hs[K]? =some hK∧OK E φ hK w∧Fr φ₀ s.h w₀ φ hK w
 dV:∀x∈tr,∀n obj,x.kind= .lK n obj→x.i ∉ d→x.k≤K→φ n=none∧s.h.nx≤n∧∀hK,hs[K]? =some hK→n<hK.nx
section
variable {call:aI} {ops:Array Oper} {pl:gA} {s s':St} {tr:List Step} {hs st:List ah}
theorem xD.at (r:xD E call ops pl s s' tr hs st) {p:Nat} {x:Step} (hp:tr[p]? =some x):
 pl.order[p]? =some x.i∧x.i ∉ pl.order.take p∧(∀j,bN pl.an x.i j=true→j∈pl.order.take p)∧x.k=kb E ops (pl.order.take p)∧
 ∃o,ops[x.i]? =some o∧(ct E o.op=true→pl.aR[x.k]? =some x.i)∧(ct E o.op=false→wY pl.aR pl.an x.i=x.k):=by
 have h1:pl.order[p]? =some x.i:=by rw[←r.trace.is,List.getElem?_map,hp];rfl
 obtain ⟨h2,_,_⟩:=dO r.lz.order
 obtain ⟨a1,a2,a3,a4,a5,a6⟩:=h2 p x.i h1
 obtain ⟨b1,b2,o,hk,sk,b3,_⟩:=r.trace.step p x hp
 have Px:ops.getD x.i default=o:=by simp [Array.getD_eq_getD_getElem?,b3]
 rw[Px] at a5 a6
 have zf:x.k=kb E ops (pl.order.take p):=by omega
 refine ⟨h1,a3,fun j hj=>(a4 j hj).resolve_left (by simp),zf,o,b3,fun he=>?_,fun he=>?_⟩
 · have:=a5 he;rw[zf];simpa using this
 · have:=a6 he;omega
theorem nt:∀{l:List Nat} (_:∀(p i:Nat),l[p]? =some i→i ∉ l.take p),l.Nodup
 | [],_=> .nil
 | x::l,h=>by
   refine List.nodup_cons.2 ⟨fun hm=>?_,nt (fun p i hp hi=>h (p+1) i (by simpa using hp) (by simp [hi]))⟩
   obtain ⟨q,hq⟩:=List.getElem?_of_mem hm
   exact h (q+1) x (by simpa using hq) (by simp)
theorem xD.nodup (r:xD E call ops pl s s' tr hs st):pl.order.Nodup:=by
 obtain ⟨h2,_,_⟩:=dO r.lz.order
 exact nt (fun p i hp=>(h2 p i hp).2.2.1)
theorem xD.all (r:xD E call ops pl s s' tr hs st) {i:Nat} (hi:i<ops.size):∃(p:Nat) (x:Step),tr[p]? =some x∧x.i=i:=by
 obtain ⟨_,h3,_⟩:=dO r.lz.order
 have:=(h3 i hi).resolve_left (by simp)
 rw[←r.trace.is] at this
 obtain ⟨x,hx,rfl⟩:=List.mem_map.1 this
 obtain ⟨p,hp⟩:=List.getElem?_of_mem hx
 exact ⟨p,x,hp,rfl⟩
theorem oK {ops:Array Oper} {pl:gA} (TP:sJ E ops pl) {x j j':Nat} (h:dh ops j=some x) (h':dh ops j'=some x):j=j':=by
 unfold dh at h h'
 cases ho:ops[j]? with
 | none=>rw[ho] at h;simp at h
 | some o=>
 cases zx:ops[j']? with
 | none=>rw[zx] at h';simp at h'
 | some o'=>
 rw[ho] at h;rw[zx] at h'
 simp at h h'
 rcases Nat.decEq j j' with bY | he
 · exact absurd h (TP.slot j j' o o' x bY ho zx h').1
 · exact he
theorem agree (r:xD E call ops pl s s' tr hs st) {p:Nat} {x:Step} {o:Oper} (hp:tr[p]? =some x) (ho:ops[x.i]? =some o) {d:List Nat} (hd:x.i ∉ d) (JU:∀i∈d,∀j,bN pl.an i j=true→j∈d)
 (ku:∀j,bN pl.an x.i j=true→j∈d):vL E x.ts (js ops (valOf tr) s.ts d) o.op∧bp ops (js ops (valOf tr) s.ts d) o=bp ops x.ts o:=by
 obtain ⟨h1,h2,h3,_,_⟩:=r.at hp
 have jr:(tr.map (·.i)).Nodup:=by rw[r.trace.is];exact r.nodup
 have Gs:x.ts=js ops (valOf tr) s.ts (pl.order.take p):=by
  rw[(r.trace.step p x hp).1,xC ops jr,r.trace.is]
 have X6:∀j∈pl.order.take p,∀m,bN pl.an j m=true→m∈pl.order.take p:=by
  intro j hj m hm
  obtain ⟨q,hq⟩:=List.getElem?_of_mem hj
  have Wq:q<p:=by
   have:=(List.getElem?_eq_some_iff.1 hq).1
   simp at this;omega
  have SO:pl.order[q]? =some j:=by rw[List.getElem?_take] at hq;rw[if_pos Wq] at hq;exact hq
  obtain ⟨f1,_,_⟩:=dO r.lz.order
  have:=((f1 q j SO).2.2.2.1 m hm).resolve_left (by simp)
  exact List.mem_of_mem_take (i:=q) (l:=pl.order.take p) (by rw[List.take_take,Nat.min_eq_left (Nat.le_of_lt Wq)];exact this)
 have same:∀t,(∀j p',j≠x.i→ops[j]? =some p'→p'.dst=some t→bN pl.an x.i j=true∨bN pl.an j x.i=true)→(js ops (valOf tr) s.ts (pl.order.take p))[t]? =(js ops (valOf tr) s.ts d)[t]? :=by
  intro t ht
  refine nK s.ts (fun j j' a b=>oK r.lz a b) (fun j hj=>?_)
  by_cases Py:j=x.i
  · subst Py;exact ⟨fun h=>absurd h h2,fun h=>absurd h hd⟩
  · obtain ⟨p',Qg,Mx⟩:∃p',ops[j]? =some p'∧p'.dst=some t:=by
     unfold dh at hj
     cases My:ops[j]? with
     | none=>rw[My] at hj;simp at hj
     | some p'=>rw[My] at hj;exact ⟨p',rfl,by simpa using hj⟩
    rcases ht j p' Py Qg Mx with h | h
    · exact ⟨fun _=>ku j h,fun _=>h3 j h⟩
    · exact ⟨fun hm=>absurd (X6 j hm _ h) h2,fun hm=>absurd (JU j hm _ h) hd⟩
 rw[Gs]
 refine ⟨fun y hy=>?_,?_⟩
 · cases y with
   | tmp t=>
     have ht:t∈tmpsOf o:=by
      unfold tmpsOf;rw[List.mem_filterMap];exact ⟨.tmp t,by simpa using hy,rfl⟩
     simp only[b8]
     rw[pZ (same t (fun j p' bY Qg Mx=>(r.lz.slot x.i j o p' t (Ne.symm bY) ho Qg Mx).2 ht))]
   | const c=>rfl
   | global g=>rfl
   | func f=>rfl
 · unfold bp
   cases hg:o.guard with
   | none=>rfl
   | some gw=>
     obtain ⟨g,want⟩:=gw
     simp only
     cases X7:(ops[g]?).bind (·.dst) with
     | none=>rfl
     | some t=>
       simp only
       have NC:=r.lz.guard x.i o g want ho hg
       rw[same t (fun j p' bY Qg Mx=>by
        have:j=g:=oK r.lz (x:=t) (by unfold dh;rw[Qg];simpa using Mx) X7
        subst this;exact .inl NC)]
end
end Go.Ab
end
section
namespace Go.Ab
variable {E:Env}
section
variable {call:aI} {ops:Array Oper} {pl:gA} {s s':St} {tr:List Step} {hs st:List ah}
theorem vM {l:List Oper} {i:Nat}:i∈hU E l↔∃o,l[i]? =some o∧ct E o.op=true:=by
 unfold hU
 simp only[List.mem_map,List.mem_filter,Prod.exists]
 constructor
 · rintro ⟨o,j,⟨h1,h2⟩,rfl⟩
   exact ⟨o,by rw[List.mk_mem_zipIdx_iff_getElem?] at h1;exact h1,h2⟩
 · rintro ⟨o,h1,h2⟩
   exact ⟨o,i,⟨by rw[List.mk_mem_zipIdx_iff_getElem?];exact h1,h2⟩,rfl⟩
theorem sJ.Kq (TP:sJ E ops pl) {i:Nat} {o:Oper} (ho:ops[i]? =some o):i∈pl.aR↔ct E o.op=true:=by
 rw[TP.aR,vM]
 constructor
 · rintro ⟨o',h1,h2⟩
   have:ops.toList[i]? =some o:=by simpa using ho
   rw[this] at h1;simp at h1;subst h1;exact h2
 · intro h;exact ⟨o,by simpa using ho,h⟩
theorem Inv.sL {φ₀ φ:Ph} {w₀ w:World} {oe:List Deferred} {d:List Nat} {listed:Array Bool} {K:Nat} {a:Act} (r:xD E call ops pl s s' tr hs st) (inv:Inv E ops pl s tr hs st φ₀ w₀ oe d listed K φ a w)
 {x:Step} (hx:pl.aR[x.k]? =some x.i) (hd:x.i ∉ d) (ku:∀j,bN pl.an x.i j=true→j∈d):x.k=K:=by
 have h1:¬x.k<K:=fun h=>hd ((inv.aR x.k x.i hx).2 h)
 rcases Nat.lt_or_ge K x.k with h | h
 · exfalso
   obtain ⟨q,hq⟩:∃q,x.k=q+1:=⟨x.k - 1,by omega⟩
   have gC:q<pl.aR.length:=by have:=(List.getElem?_eq_some_iff.1 hx).1;omega
   have SO:pl.aR[q]? =some pl.aR[q]:=by simp [gC]
   have:=r.lz.chain q _ x.i SO (by rw[←hq];exact hx)
   have:=(inv.aR q _ SO).1 (ku _ this)
   omega
 · omega
theorem Inv.Gt {φ₀ φ:Ph} {w₀ w:World} {oe:List Deferred} {d:List Nat} {listed:Array Bool} {K:Nat} {a:Act} (inv:Inv E ops pl s tr hs st φ₀ w₀ oe d listed K φ a w)
 {i:Nat} (hd:i ∉ d) (ku:∀j,bN pl.an i j=true→j∈d):wY pl.aR pl.an i≤K∧K≤eW pl.aR pl.an i:=by
 refine ⟨filter_le (fun q e hq he=>(inv.aR q e hq).1 (ku e he)),?_⟩
 rcases Nat.lt_or_ge (eW pl.aR pl.an i) K with h | h
 · exfalso
   have gC:eW pl.aR pl.an i<pl.aR.length:=by have:=inv.TO;omega
   have hq:pl.aR[eW pl.aR pl.an i]? =some pl.aR[eW pl.aR pl.an i]:=by simp [gC]
   have h1:=oJ (P:=fun e=> !bN pl.an e i) hq
   simp only[Bool.not_eq_false'] at h1
   exact hd (inv.closed _ ((inv.aR _ _ hq).2 h) i h1)
 · exact h
theorem Eu (ops:Array Oper) (val:Nat→AV) (ts:List AV) (d:List Nat) (i:Nat):js ops val ts (d++[i])=bR (js ops val ts d) (dh ops i) (val i):=by
 simp [js]
theorem Inv.snoc {φ₀ φ φ':Ph} {w₀ w w':World} {oe:List Deferred} {d:List Nat} {listed:Array Bool} {K K':Nat} {a:Act} (r:xD E call ops pl s s' tr hs st) (inv:Inv E ops pl s tr hs st φ₀ w₀ oe d listed K φ a w)
 {p:Nat} {x:Step} {o:Oper} (hp:tr[p]? =some x) (ho:ops[x.i]? =some o) (hd:x.i ∉ d) (ku:∀j,bN pl.an x.i j=true→j∈d) (hle:φ.le φ') {v':Value} (hv:VR φ' x.v v')
 (hK:(ct E o.op=false∧K'=K)∨(ct E o.op=true∧x.k=K∧pl.aR[x.k]? =some x.i∧K'=K+1))
 (jT:∃hK,hs[K']? =some hK∧OK E φ' hK w'∧Fr φ₀ s.h w₀ φ' hK w')
 (Qh:∀y∈tr,∀n obj,y.kind= .lK n obj→y.i ∉ d→y.i≠x.i→y.k≤K'→φ' n=none∧s.h.nx≤n∧∀hK,hs[K']? =some hK→n<hK.nx):
 Inv E ops pl s tr hs st φ₀ w₀ oe (d++[x.i]) (listed.setIfInBounds x.i true) K' φ' (a.put o.dst v') w':=by
 have jr:(tr.map (·.i)).Nodup:=by rw[r.trace.is];exact r.nodup
 have gC:x.i<ops.size:=(Array.getElem?_eq_some_iff.1 ho).1
 refine ⟨?_,fun i hi=>?_,fun i hi=>?_,fun i hi j hj=>?_,fun q e hq=>?_,?_,?_,by rw[put_defers];exact inv.ds,jT,fun y hy n obj sB TQ TR=>?_⟩
 · rw[List.nodup_append];exact ⟨inv.nd,by simp,fun a ha b hb=>by simp at hb;subst hb;exact fun e=>hd (e▸ha)⟩
 · simp at hi;rcases hi with h | rfl
   · exact inv.lt i h
   · exact gC
 · have h1:=inv.listed i hi
   by_cases e:x.i=i
   · subst e
     have F9:x.i<listed.size:=(Array.getElem?_eq_some_iff.1 h1).1
     rw[Array.getElem?_setIfInBounds];simp [F9]
   · rw[Array.getElem?_setIfInBounds_ne e,h1]
     simp [show i≠x.i from fun h=>e h.symm]
 · simp at hi;rcases hi with h | rfl
   · exact List.mem_append_left _ (inv.closed i h j hj)
   · exact List.mem_append_left _ (ku j hj)
 · rcases hK with ⟨he,rfl⟩ | ⟨he,xB,SP,rfl⟩
   · have bY:e≠x.i:=fun h=>by
      subst h
      have:=(r.lz.Kq ho).1 (List.mem_of_getElem? hq)
      rw[he] at this;simp at this
     simp [bY,inv.aR q e hq]
   · have X8:e=x.i↔q=K:=by
      constructor
      · intro h;subst h
        have:=(List.getElem?_inj (List.getElem?_eq_some_iff.1 hq).1 r.lz.nd).1 (hq.trans SP.symm)
        omega
      · intro h;subst h;rw[←xB,SP] at hq;simpa using hq.symm
     simp only[List.mem_append,List.mem_singleton,inv.aR q e hq,X8]
     omega
 · rcases hK with ⟨he,rfl⟩ | ⟨he,xB,SP,rfl⟩
   · exact inv.TO
   · have:=(List.getElem?_eq_some_iff.1 SP).1;omega
 · rw[Eu,zw jr hp]
   have:dh ops x.i=o.dst:=by simp [dh,ho]
   rw[this]
   exact Gl (inv.ts.mono hle) o.dst hv
 · simp only[List.mem_append,List.mem_singleton,not_or] at TQ
   exact Qh y hy n obj sB TQ.1 TQ.2 TR
theorem Ew (hE:fm E) {call:aI} (bG:dy E call) {ts:List AV} {h h':ah} {rc:RC} {o:Oper} {v:AV} (lV:bF E call ts h rc o= .val v h') {i:Nat} {rest:List Nat} (ho:ops[i]? =some o)
 {φ:Ph} {a:Act} {w:World} {b:Frame} {k:List Item} {K:Bool→List Frame} (Gs:LR φ ts a.tmps.toList) (ok:OK E φ h w) (cU:ia φ b K rc) (hw:Region.wanted o (yielded ops a.tmps)=true):
 ∃φ' w' v',VR φ' v v'∧OK E φ' h' w'∧Fr φ h w φ' h' w'∧Steps E.P (lone (b.atR a (.inRegion ops (i::rest)::k)) (cur K rc) w) (lone (b.atR (a.put o.dst v') (.inRegion ops rest::k)) (cur K rc) w'):=by
 have pT:=nI hE bG (rc:=rc) (o:=o) Gs ok
 have jr:rc.iP=false∨∀c,o.op≠ .defer c:=by
  by_cases hd:∃c,o.op= .defer c
  · obtain ⟨c,hd⟩:=hd
    unfold bF at lV
    simp only[hd] at lV
    split at lV<;>simp at lV
  · exact .inr (fun c e=>hd ⟨c,e⟩)
 have fD:=ks cU jr a.eval
 rw[lV] at pT
 cases pT with
 | val v h' φ' w' v' hv lD fr run=>exact ⟨φ',w',v',hv,lD,fr,.one (gT fD ho hw run)⟩
 | skip h' φ' w' lD fr run=>exact ⟨φ',w',undef,.undef φ',lD,fr,.one (zp fD ho hw run)⟩
 | enter v h' F args all hr hf hl run=>
   obtain ⟨n,start,hp,er⟩:=hr φ w all ok hf hl
   obtain ⟨φ',w',v',hv,lD,fr,eh⟩:=er (b.atR a (.inRegion ops (i::rest)::k)) (cur K rc)
   rw[mQ ho] at eh
   exact ⟨φ',w',v',hv,lD,fr,.head (oA fD ho hw hp (run n start hp)) eh⟩
 | Gp bY vb run=>
   have w_:∀fr:Frame,fr.kind=b.kind→tryRecover fr (cur K rc)=none:=by
    cases xw:rc with
    | no=>rw[xw] at cU;exact cU.2
    | dV v=>exact absurd xw (bY v)
    | done=>rw[xw] at cU;exact cU.2
    | y_ l=>rw[xw] at vb;simp [RC.iP] at vb
   exact ⟨φ,w,.nilIface,.nilIface,ok,Fr.refl _ _ _,.one (nr (cU.plain vb) fD ho hw run (w_ _ rfl))⟩
theorem Inv.C8 (hE:fm E) {vN:aI} (bG:dy E vN) {φ₀ φ:Ph} {w₀ w:World} {oe:List Deferred} {d:List Nat} {listed:Array Bool} {K:Nat} {a:Act} (r:xD E call ops pl s s' tr hs st) (inv:Inv E ops pl s tr hs st φ₀ w₀ oe d listed K φ a w)
 {b:Frame} {k:List Item} {Ks:Bool→List Frame} (cU:ia φ₀ b Ks s.rc) {i:Nat} (hi:i<ops.size) (hd:i ∉ d) (ku:∀j,bN pl.an i j=true→j∈d)
 (vO:∀(x:Step) (o:Oper) (hk h':ah),x∈tr→x.i=i→ops[x.i]? =some o→hs[x.k]? =some hk→x.kind= .nf h'→bF E vN x.ts hk s.rc o= .val x.v h') (rest:List Nat):
 ∃K' φ' a' w',Inv E ops pl s tr hs st φ₀ w₀ oe (d++[i]) (listed.setIfInBounds i true) K' φ' a' w'∧
  Steps E.P (lone (b.atR a (.inRegion ops (i::rest)::k)) (cur Ks s.rc) w) (lone (b.atR a' (.inRegion ops rest::k)) (cur Ks s.rc) w'):=by
 obtain ⟨p,x,hp,rfl⟩:=r.all hi
 have Ns:x∈tr:=List.mem_of_getElem? hp
 obtain ⟨h1,h2,h3,hk,o,ho,lV,Mz⟩:=r.at hp
 obtain ⟨_,_,o',SM,Ws,zx,qT,Qf,er⟩:=r.trace.step p x hp
 rw[ho] at zx;simp at zx;subst zx
 rw[←hk] at qT Qf er
 obtain ⟨TS,Gu⟩:=agree r hp ho hd inv.closed ku
 obtain ⟨hK,MA,ok,fr⟩:=inv.ok
 have JV:Region.wanted o (yielded ops a.tmps)=bp ops x.ts o:=by rw[nH inv.ts o,Gu]
 have Kr:vL E (js ops (valOf tr) s.ts d) x.ts o.op:=fun y hy=>(TS y hy).symm
 have same:∀y∈tr,∀n obj,y.kind= .lK n obj→y.i ∉ d→y.i≠x.i→y.k≤K→φ n=none∧s.h.nx≤n∧∀hK,hs[K]? =some hK→n<hK.nx:=
  fun y hy n obj a1 a2 _ a3=>inv.dV y hy n obj a1 a2 a3
 have wrote:∀(φ':Ph) (h':ah) (w':World),x.k=K→st[K+1]? =some h'→OK E φ' h' w'→Fr φ hK w φ' h' w'→
  ∃C9,hs[K+1]? =some C9∧OK E φ' C9 w'∧Fr φ₀ s.h w₀ φ' C9 w'∧
  ∀y∈tr,∀n obj,y.kind= .lK n obj→y.i ∉ d→y.i≠x.i→y.k≤K+1→φ' n=none∧s.h.nx≤n∧∀hK,hs[K+1]? =some hK→n<hK.nx:=by
  intro φ' h' w' xB NF lD Br
  have gC:K+1<hs.length:=by rw[←r.trace.ND];exact (List.getElem?_eq_some_iff.1 NF).1
  have TU:hs[K+1]? =some hs[K+1]:=by simp [gC]
  have g:=r.trace.grown (K+1) h' _ NF TU
  obtain ⟨sM,NG⟩:=lD.grown g
  have JW:=(fr.trans Br).trans NG
  refine ⟨_,TU,sM,JW,fun y hy n obj a1 a2 a3 a4=>?_⟩
  have Pq:∀C9,hs[K+1]? =some C9→C9=hs[K+1]:=fun C9 e=>by rw[TU] at e;simpa using e.symm
  rcases Nat.lt_or_ge K y.k with h | h
  ·
   have TR:y.k=K+1:=by omega
   obtain ⟨q,hq⟩:=List.getElem?_of_mem hy
   obtain ⟨_,_,_,TV,oy,X9,_,_⟩:=r.at hq
   obtain ⟨_,_,X_,TW,TX,TY,vk,vl,BX⟩:=r.trace.step q y hq
   rw[←TV,TR] at vk vl
   rw[NF] at vl;simp at vl;subst vl
   unfold oG at BX
   rw[a1] at BX
   obtain ⟨_,_,_,SK,Qi⟩:=BX
   refine ⟨?_,?_,fun C9 e=>?_⟩
   · cases hφ:φ' n with
     | none=>rfl
     | some l=>have:=lD.qL n l hφ;omega
   · have:=(fr.trans Br).nx;omega
   · rw[e] at vk;simp at vk;subst vk;exact Qi
  · obtain ⟨b1,b2,b3⟩:=inv.dV y hy n obj a1 a2 h
    have hn:=b3 hK MA
    refine ⟨by rw[Br.old n hn];exact b1,b2,fun C9 e=>?_⟩
    have:=Br.nx;have:=g.nx
    rw[Pq _ e];omega
 have still:ct E o.op=false→ey E ops x hK=true:=fun he=>by
  obtain ⟨w1,w2⟩:=inv.Gt hd ku
  exact r.still x Ns K hK (by rw[←Mz he];exact w1) w2 MA
 have Px:ops.getD x.i default=o:=by simp [Array.getD_eq_getD_getElem?,ho]
 have skip:bp ops x.ts o=false→step E.P (lone (b.atR a (.inRegion ops (x.i::rest)::k)) (cur Ks s.rc) w)= .next (lone (b.atR (a.put o.dst undef) (.inRegion ops rest::k)) (cur Ks s.rc) w):=fun hw=>by
  have:=stepR_op_skip (P:=E.P) (b:=b) (a:=a) (k:=k) (cs:=cur Ks s.rc) (w:=w) (ops:=ops) (i:=x.i) (rest:=rest) (by rw[ho];simp;rw[JV];exact hw)
  rw[this,ho];rfl
 unfold oG at er
 split at er
 ·
  obtain ⟨hw,hv,hn⟩:=er
  have SQ:VR φ x.v undef:=by rw[hv];exact .undef φ
  by_cases he:ct E o.op=true
  · have xB:=inv.sL r (lV he) hd ku
    have oH:=hn he
    rw[xB] at oH qT
    rw[MA] at qT;simp at qT;subst qT
    obtain ⟨C9,q1,q2,q3,q4⟩:=wrote φ hK w xB oH ok (Fr.refl _ _ _)
    exact ⟨K+1,φ,_,w,inv.snoc r hp ho hd ku (Ph.le_refl φ) SQ (.inr ⟨he,xB,lV he,rfl⟩) ⟨C9,q1,q2,q3⟩ q4,.one (skip hw)⟩
  · have Bq:ct E o.op=false:=by simpa using he
    exact ⟨K,φ,_,w,inv.snoc r hp ho hd ku (Ph.le_refl φ) SQ (.inl ⟨Bq,rfl⟩) inv.ok same,.one (skip hw)⟩
 ·
  obtain ⟨he,hw,SU⟩:=er
  rw[←zt Kr] at SU
  have jr:∀c,o.op≠ .defer c:=fun c e=>by rw[e] at SU;simp [aL] at SU
  obtain ⟨v',hv,hr⟩:=qO hE.ext ok.gl inv.ts SU
  exact ⟨K,φ,_,w,inv.snoc r hp ho hd ku (Ph.le_refl φ) hv (.inl ⟨he,rfl⟩) inv.ok same,.one (gT (ks cU (.inr jr) _) ho (JV.trans hw) (hr w))⟩
 ·
  rename_i oI
  obtain ⟨he,hw⟩:=er
  have kq:=still he
  unfold ey at kq
  rw[oI] at kq
  simp only[Px] at kq
  cases Pz:bW E x.ts hK o.op with
  | none=>rw[Pz] at kq;simp at kq
  | some v1=>
    rw[Pz] at kq
    have PW:=AV.oE _ _ _ kq
    subst PW
    rw[←zu Kr] at Pz
    have jr:∀c,o.op≠ .defer c:=fun c e=>by rw[e] at Pz;simp [bW] at Pz
    obtain ⟨v',hv,hr⟩:=qR ok.gl ok inv.ts Pz
    exact ⟨K,φ,_,w,inv.snoc r hp ho hd ku (Ph.le_refl φ) hv (.inl ⟨he,rfl⟩) inv.ok same,.one (gT (ks cU (.inr jr) _) ho (JV.trans hw) (hr w rfl))⟩
 ·
  rename_i n obj oI
  obtain ⟨he,hw,⟨mk,SV,X'⟩,_,_⟩:=er
  have kq:=still he
  unfold ey at kq
  rw[oI] at kq
  simp only at kq
  cases Qj:hK.get n with
  | none=>rw[Qj] at kq;simp at kq
  | some o1=>
    rw[Qj] at kq
    have Ya:=aF.oE kq
    subst Ya
    obtain ⟨w1,_⟩:=inv.Gt hd ku
    obtain ⟨w_,TZ,T0⟩:=inv.dV x Ns n o1 oI hd (by rw[←Mz he];exact w1)
    rw[←xx Kr] at SV
    have jr:∀c,o.op≠ .defer c:=fun c e=>by rw[e] at SV;simp [bZ] at SV
    obtain ⟨O,mk',zr,hr⟩:=ou ok.gl inv.ts SV
    have hle:φ.le (φ.add n ⟨w.heap.size,0,0⟩):=fun j m hm=>by
     unfold Ph.add;split
     · rename_i e;subst e;rw[w_] at hm;simp at hm
     · exact hm
    obtain ⟨sM,_⟩:=ok.place Qj w_ (T0 hK MA) (zr.obj _ w.heap.size hle)
    have hv:=zr.val (φ.add n ⟨w.heap.size,0,0⟩) n w.heap.size hle (by simp [Ph.add])
    rw[←X'] at hv
    refine ⟨K,_,_,_,inv.snoc r hp ho hd ku hle hv (.inl ⟨he,rfl⟩) ⟨hK,MA,sM,fr.place TZ w_ O⟩ (fun y hy m q a1 a2 a3 a4=>?_),.one (gT (ks cU (.inr jr) _) ho (JV.trans hw) (hr w))⟩
    obtain ⟨b1,b2,b3⟩:=inv.dV y hy m q a1 a2 a4
    refine ⟨?_,b2,b3⟩
    have bY:m≠n:=fun e=>by subst e;exact a3 (r.ids y x hy Ns m q o1 a1 oI)
    simp [Ph.add,bY,b1]
 ·
  rename_i h' oI
  obtain ⟨he,hw,_,oH⟩:=er
  have Gv:=vO x o _ h' Ns rfl ho qT oI
  have xB:=inv.sL r (lV he) hd ku
  rw[xB] at oH qT
  rw[MA] at qT;simp at qT;subst qT
  rw[←sH Kr] at Gv
  obtain ⟨φ',w',v',hv,lD,Br,eh⟩:=Ew hE bG Gv ho (rest:=rest) (k:=k) inv.ts ok (cU.mono fr.ext) (JV.trans hw)
  obtain ⟨C9,q1,q2,q3,q4⟩:=wrote φ' h' w' xB oH lD Br
  exact ⟨K+1,φ',_,w',inv.snoc r hp ho hd ku Br.ext hv (.inr ⟨he,xB,lV he,rfl⟩) ⟨C9,q1,q2,q3⟩ q4,eh⟩
end
end Go.Ab
end
section
namespace Go.Ab
variable {E:Env}
section
variable {call:aI} {ops:Array Oper} {pl:gA} {s s':St} {tr:List Step} {hs st:List ah}
structure xE (E:Env) (φ₀:Ph) (h₀:ah) (w₀:World) (oe:List Deferred) (b:Frame) (k:List Item) (cs:List Frame) (s':St) (m:Machine):Prop where
 is:∃φ' a' w',LR φ' s'.ts a'.tmps.toList∧a'.defers=oe∧OK E φ' s'.h w'∧Fr φ₀ h₀ w₀ φ' s'.h w'∧Steps E.P m (lone (b.atR a' k) cs w')
theorem zy (r:xD E call ops pl s s' tr hs st) {φ₀ φ:Ph} {w₀ w:World} {oe:List Deferred} {d:List Nat} {listed:Array Bool} {K:Nat} {a:Act} (inv:Inv E ops pl s tr hs st φ₀ w₀ oe d listed K φ a w)
 (zz:∀i,i<ops.size→i∈d) (b:Frame) (k:List Item) (cs:List Frame):xE E φ₀ s.h w₀ oe b k cs s' (lone (b.atR a (.inRegion ops []::k)) cs w):=by
 have jr:(tr.map (·.i)).Nodup:=by rw[r.trace.is];exact r.nodup
 obtain ⟨f1,f2,f3⟩:=dO r.lz.order
 have hK:K=pl.aR.length:=by
  have:=inv.TO
  rcases Nat.lt_or_ge K pl.aR.length with h | h
  · exfalso
    have hq:pl.aR[K]? =some pl.aR[K]:=by simp [h]
    have hm:pl.aR[K]∈pl.aR:=List.getElem_mem h
    generalize hx:pl.aR[K]=ee at hm hq
    rw[r.lz.aR,vM] at hm
    obtain ⟨o,ho,_⟩:=hm
    have gC:ee<ops.size:=by have:=(List.getElem?_eq_some_iff.1 ho).1;simpa using this
    have:=(inv.aR K _ hq).1 (zz _ gC)
    omega
  · omega
 obtain ⟨C9,q1,q2,q3⟩:=inv.ok
 have zA:=r.trace.last
 have T1:kb E ops pl.order=K:=by omega
 rw[T1,q1] at zA
 simp at zA;subst zA
 have Gs:s'.ts=js ops (valOf tr) s.ts d:=by
  rw[r.trace.ts]
  have h1:=xC ops jr s.ts tr.length
  rw[List.take_length,r.trace.is,List.take_of_length_le (by rw[←r.trace.is];simp)] at h1
  rw[h1]
  refine List.ext_getElem? (fun x=>?_)
  refine nK s.ts (fun j j' e e'=>oK r.lz e e') (fun j hj=>?_)
  have C7:j<ops.size:=by
   unfold dh at hj
   cases ho:ops[j]? with
   | none=>rw[ho] at hj;simp at hj
   | some o=>exact (Array.getElem?_eq_some_iff.1 ho).1
  exact ⟨fun _=>zz j C7,fun _=>(f2 j C7).resolve_left (by simp)⟩
 exact ⟨φ,a,w,by rw[Gs];exact inv.ts,inv.ds,q2,q3,.one stepR_region_end⟩
theorem sN {φ₀ φ:Ph} {w₀ w:World} {oe:List Deferred} {d:List Nat} {listed:Array Bool} {K:Nat} {a:Act} (r:xD E call ops pl s s' tr hs st) (inv:Inv E ops pl s tr hs st φ₀ w₀ oe d listed K φ a w)
 {i:Nat} (h:i∈Region.ready .any ops listed):i<ops.size∧i ∉ d∧∀j,bN pl.an i j=true→j∈d:=by
 obtain ⟨h1,o,ho,h2⟩:=mem_ready.1 h
 have hi:i<ops.size:=(Array.getElem?_eq_some_iff.1 ho).1
 have hl:=inv.listed i hi
 refine ⟨hi,fun hd=>?_,fun j hj=>?_⟩
 · simp [hl,hd,Array.getD_eq_getD_getElem?] at h1
 · obtain ⟨e,he,T2⟩:=r.lz.closed i o j ho hj
   have Wu:e∈d:=by
    unfold fq at he
    simp only[List.mem_map,List.mem_filter] at he
    obtain ⟨ed,⟨hm,hb⟩,rfl⟩:=he
    have h3:=h2 ed (by simpa using hm) hb
    have T3:ed.on<ops.size:=by
     have:=(r.lz.direct i o ed.on ho (by unfold fq;simp only[List.mem_map,List.mem_filter];exact ⟨ed,⟨hm,hb⟩,rfl⟩)).1
     omega
    simpa [inv.listed _ T3,Array.getD_eq_getD_getElem?] using h3
   rcases T2 with rfl | T2
   · exact Wu
   · exact inv.closed e Wu j T2
theorem p5 {φ₀ φ:Ph} {w₀ w:World} {oe:List Deferred} {d:List Nat} {listed:Array Bool} {K:Nat} {a:Act} (r:xD E call ops pl s s' tr hs st) (inv:Inv E ops pl s tr hs st φ₀ w₀ oe d listed K φ a w)
 (h:Region.ready .any ops listed=[]):∀(n i:Nat),i<n→i<ops.size→i∈d
 | 0,i,hn,_=>by omega
 | n+1,i,hn,hi=>by
   have ih:=p5 r inv h n
   by_cases hd:i∈d
   · exact hd
   · exfalso
     have ho:ops[i]? =some ops[i]:=by simp [hi]
     have:i∈Region.ready .any ops listed:=by
      refine mem_ready.2 ⟨by simp [inv.listed i hi,hd,Array.getD_eq_getD_getElem?],ops[i],ho,fun e he hb=>?_⟩
      have hm:e.on∈fq ops[i]:=by
       unfold fq;simp only[List.mem_map,List.mem_filter];exact ⟨e,⟨by simpa using he,hb⟩,rfl⟩
      have gC:=(r.lz.direct i _ e.on ho hm).1
      have:=ih e.on (by omega) (by omega)
      simp [inv.listed e.on (by omega),this,Array.getD_eq_getD_getElem?]
     rw[h] at this;simp at this
theorem xD.real (r:xD E call ops pl s s' tr hs st) (x:Step) (o:Oper) (hk h':ah) (hx:x∈tr) (ho:ops[x.i]? =some o) (hh:hs[x.k]? =some hk) (sB:x.kind= .nf h'):bF E call x.ts hk s.rc o= .val x.v h':=by
 obtain ⟨p,hp⟩:=List.getElem?_of_mem hx
 obtain ⟨_,_,_,Qk,_⟩:=r.at hp
 obtain ⟨_,_,o',SM,Ws,zx,qT,Qf,er⟩:=r.trace.step p x hp
 rw[ho] at zx;simp at zx;subst zx
 rw[←Qk,hh] at qT;simp at qT;subst qT
 unfold oG at er;rw[sB] at er;exact er.2.2.1
theorem zB (hE:fm E) (bG:dy E call) (r:xD E call ops pl s s' tr hs st) {φ₀:Ph} {w₀:World} {oe:List Deferred} {b:Frame} {k:List Item} {Ks:Bool→List Frame} (cU:ia φ₀ b Ks s.rc):
 ∀(fuel t:Nat) {φ:Ph} {w:World} {d:List Nat} {listed:Array Bool} {K:Nat} {a:Act} (_:Inv E ops pl s tr hs st φ₀ w₀ oe d listed K φ a w) (_:ops.size≤d.length+fuel),
  xE E φ₀ s.h w₀ oe b k (cur Ks s.rc) s' (lone (b.atR a (.inRegion ops (Region.linearise.go .any ops fuel t listed [])::k)) (cur Ks s.rc) w)
 | 0,t,φ,w,d,listed,K,a,inv,hf=>by
   simp only[Region.linearise.go,List.reverse_nil]
   refine zy r inv (fun i hi=>?_) b k _
   by_cases hd:i∈d
   · exact hd
   · have:=sI ops.size (i::d) (List.nodup_cons.2 ⟨hd,inv.nd⟩) (fun x hx=>by
      simp at hx;rcases hx with rfl | hx
      · exact hi
      · exact inv.lt x hx)
     simp at this;omega
 | fuel+1,t,φ,w,d,listed,K,a,inv,hf=>by
   simp only[Region.linearise.go]
   change xE E φ₀ s.h w₀ oe b k (cur Ks s.rc) s' (lone (b.atR a (.inRegion ops (match (Region.ready .any ops listed)[t%(Region.ready .any ops listed).length]? with
    | some i=>Region.linearise.go .any ops fuel (t/(Region.ready .any ops listed).length) (listed.setIfInBounds i true) [i]
    | none=> [].reverse)::k)) (cur Ks s.rc) w)
   cases hi:(Region.ready .any ops listed)[t%(Region.ready .any ops listed).length]? with
   | none=>
     have xj:Region.ready .any ops listed=[]:=by
      cases hr:Region.ready .any ops listed with
      | nil=>rfl
      | cons x xs=>
        rw[hr] at hi
        have gC:t%(x::xs).length<(x::xs).length:=Nat.mod_lt _ (by simp)
        simp at hi
        simp at gC
        omega
     exact zy r inv (fun i hi=>p5 r inv xj _ i (Nat.lt_succ_self i) hi) b k _
   | some i=>
     simp only[]
     rw[linearise_go_acc,List.reverse_singleton,List.singleton_append]
     obtain ⟨h1,h2,h3⟩:=sN r inv (List.mem_of_getElem? hi)
     obtain ⟨K',φ',a',w',NH,er⟩:=inv.C8 hE bG r cU (b:=b) (k:=k) h1 h2 h3 (fun x o hk h' hx _=>r.real x o hk h' hx) (Region.linearise.go .any ops fuel (t/(Region.ready .any ops listed).length) (listed.setIfInBounds i true) [])
     obtain ⟨φ2,a2,w2,x1,x2,x3,x4,x5⟩:=(zB hE bG r cU fuel (t/(Region.ready .any ops listed).length) NH (by simp;omega)).is
     exact ⟨φ2,a2,w2,x1,x2,x3,x4,Steps.trans er x5⟩
structure xF (E:Env) (φ₀:Ph) (h₀:ah) (w₀:World) (oe:List Deferred) (b:Frame) (cs:List Frame) (v:AV) (s':St) (m:Machine):Prop where
 is:∃φ' a' w' v' todo,VR φ' v v'∧LR φ' s'.ts a'.tmps.toList∧a'.defers=oe∧OK E φ' s'.h w'∧Fr φ₀ h₀ w₀ φ' s'.h w'∧Steps E.P m (lone {b.atR a' todo with mode:= .panicking [{v:=v',recovered:=false}]} cs w')
theorem Ex (hE:fm E) {call:aI} (bG:dy E call) {ts:List AV} {h h':ah} {rc:RC} {o:Oper} {c:Call} (SW:o.op= .call c) {v:AV} (lV:bF E call ts h rc o= .panic v h') {i:Nat} {rest:List Nat} (ho:ops[i]? =some o)
 {φ:Ph} {a:Act} {w:World} {b:Frame} {k:List Item} {K:Bool→List Frame} (Gs:LR φ ts a.tmps.toList) (ok:OK E φ h w) (cU:ia φ b K rc) (hw:Region.wanted o (yielded ops a.tmps)=true):
 ∃φ' w' v' todo,VR φ' v v'∧OK E φ' h' w'∧Fr φ h w φ' h' w'∧Steps E.P (lone (b.atR a (.inRegion ops (i::rest)::k)) (cur K rc) w) (lone {b.atR a todo with mode:= .panicking [{v:=v',recovered:=false}]} (cur K rc) w'):=by
 have pT:=nI hE bG (rc:=rc) (o:=o) Gs ok
 have jr:rc.iP=false∨∀c,o.op≠ .defer c:= .inr (fun c e=>by rw[SW] at e;simp at e)
 have fD:=ks cU jr a.eval
 rw[lV] at pT
 cases pT with
 | Kn v h' F args all hr hf hl run=>
   obtain ⟨n,start,hp,er⟩:=hr φ w all ok hf hl
   obtain ⟨φ',w',v',hv,lD,fr,eh⟩:=er (b.atR a (.inRegion ops (i::rest)::k)) (cur K rc)
   rw[Frame.raise_atR] at eh
   exact ⟨φ',w',v',.inRegion ops (i::rest)::k,hv,lD,fr,.head (oA fD ho hw hp (run n start hp)) eh⟩
 | panic v v' hv run=>exact ⟨φ,w,v',_,hv,ok,Fr.refl _ _ _,.one (Gm fD ho hw run)⟩
theorem vP (hE:fm E) {vN:aI} (bG:dy E vN) (r:xD E call ops pl s s' tr hs st) {xl:Step} (Wv:xl∈tr) {ol:Oper} (JR:ops[xl.i]? =some ol) {c:Call} (SW:ol.op= .call c)
 (zz:∀j,j<ops.size→j≠xl.i→bN pl.an xl.i j=true) (MB:ct E ol.op=true) (Ww:bp ops xl.ts ol=true) {hk:ah} (qT:hs[xl.k]? =some hk) {v:AV} {h':ah} (Gw:bF E vN xl.ts hk s.rc ol= .panic v h')
 (vO:∀(x:Step) (o:Oper) (hk h':ah),x∈tr→x.i≠xl.i→ops[x.i]? =some o→hs[x.k]? =some hk→x.kind= .nf h'→bF E vN x.ts hk s.rc o= .val x.v h')
 {s2:St} (h2:s2.h=h') (Ql:s2.ts=xl.ts) {φ₀:Ph} {w₀:World} {oe:List Deferred} {b:Frame} {k:List Item} {Ks:Bool→List Frame} (cU:ia φ₀ b Ks s.rc):
 ∀(fuel t:Nat) {φ:Ph} {w:World} {d:List Nat} {listed:Array Bool} {K:Nat} {a:Act} (_:Inv E ops pl s tr hs st φ₀ w₀ oe d listed K φ a w) (_:ops.size≤d.length+fuel) (_:xl.i ∉ d),
  xF E φ₀ s.h w₀ oe b (cur Ks s.rc) v s2 (lone (b.atR a (.inRegion ops (Region.linearise.go .any ops fuel t listed [])::k)) (cur Ks s.rc) w)
 | 0,t,φ,w,d,listed,K,a,inv,hf,jr=>by
   exfalso
   have hi:xl.i<ops.size:=(Array.getElem?_eq_some_iff.1 JR).1
   have:=sI ops.size (xl.i::d) (List.nodup_cons.2 ⟨jr,inv.nd⟩) (fun x hx=>by
    simp at hx;rcases hx with rfl | hx
    · exact hi
    · exact inv.lt x hx)
   simp at this;omega
 | fuel+1,t,φ,w,d,listed,K,a,inv,hf,jr=>by
   have SG:xl.i<ops.size:=(Array.getElem?_eq_some_iff.1 JR).1
   simp only[Region.linearise.go]
   change xF E φ₀ s.h w₀ oe b (cur Ks s.rc) v s2 (lone (b.atR a (.inRegion ops (match (Region.ready .any ops listed)[t%(Region.ready .any ops listed).length]? with
    | some i=>Region.linearise.go .any ops fuel (t/(Region.ready .any ops listed).length) (listed.setIfInBounds i true) [i]
    | none=> [].reverse)::k)) (cur Ks s.rc) w)
   cases hi:(Region.ready .any ops listed)[t%(Region.ready .any ops listed).length]? with
   | none=>
     have xj:Region.ready .any ops listed=[]:=by
      cases hr:Region.ready .any ops listed with
      | nil=>rfl
      | cons x xs=>
        rw[hr] at hi
        have gC:t%(x::xs).length<(x::xs).length:=Nat.mod_lt _ (by simp)
        simp at hi
        simp at gC
        omega
     exact absurd (p5 r inv xj _ xl.i (Nat.lt_succ_self _) SG) jr
   | some i=>
     simp only[]
     rw[linearise_go_acc,List.reverse_singleton,List.singleton_append]
     obtain ⟨h1,SX,h3⟩:=sN r inv (List.mem_of_getElem? hi)
     by_cases T4:i=xl.i
     · subst T4
       obtain ⟨p,hp⟩:=List.getElem?_of_mem Wv
       obtain ⟨_,q2,q3,_,o',zx,q4,_⟩:=r.at hp
       rw[JR] at zx;simp at zx;subst zx
       obtain ⟨TS,Gu⟩:=agree r hp JR SX inv.closed h3
       obtain ⟨hK,MA,ok,fr⟩:=inv.ok
       have xB:=inv.sL r (q4 MB) SX h3
       rw[xB,MA] at qT;simp at qT;subst qT
       rw[sH TS] at Gw
       have JV:Region.wanted ol (yielded ops a.tmps)=true:=by rw[nH inv.ts ol,Gu];exact Ww
       obtain ⟨φ',w',v',todo,hv,lD,Br,er⟩:=Ex hE bG SW Gw JR (rest:=Region.linearise.go .any ops fuel (t/(Region.ready .any ops listed).length) (listed.setIfInBounds xl.i true) []) (k:=k) inv.ts ok (cU.mono fr.ext) JV
       have T5:(tr.map (·.i)).Nodup:=by rw[r.trace.is];exact r.nodup
       have Gs:xl.ts=js ops (valOf tr) s.ts d:=by
        rw[(r.trace.step p xl hp).1,xC ops T5,r.trace.is]
        refine List.ext_getElem? (fun x=>nK s.ts (fun j j' e e'=>oK r.lz e e') (fun j hj=>?_))
        have C7:j<ops.size:=by
         unfold dh at hj
         cases ho:ops[j]? with
         | none=>rw[ho] at hj;simp at hj
         | some o=>exact (Array.getElem?_eq_some_iff.1 ho).1
        by_cases Py:j=xl.i
        · subst Py;exact ⟨fun h=>absurd h q2,fun h=>absurd h SX⟩
        · exact ⟨fun _=>h3 j (zz j C7 Py),fun _=>q3 j (zz j C7 Py)⟩
       exact ⟨φ',a,w',v',todo,hv,by rw[Ql,Gs];exact inv.ts.mono Br.ext,inv.ds,by rw[h2];exact lD,by rw[h2];exact fr.trans Br,er⟩
     · obtain ⟨K',φ',a',w',NH,er⟩:=inv.C8 hE bG r cU (b:=b) (k:=k) h1 SX h3 (fun x o hk h' hx Et=>vO x o hk h' hx (by rw[Et];exact T4)) (Region.linearise.go .any ops fuel (t/(Region.ready .any ops listed).length) (listed.setIfInBounds i true) [])
       obtain ⟨φ2,a2,w2,v2,td,x0,x1,x2,x3,x4,x5⟩:=(vP hE bG r Wv JR SW zz MB Ww qT Gw vO h2 Ql cU fuel (t/(Region.ready .any ops listed).length) NH (by simp;omega) (by simp;exact ⟨jr,fun h=>T4 h.symm⟩)).is
       exact ⟨φ2,a2,w2,v2,td,x0,x1,x2,x3,x4,Steps.trans er x5⟩
def sO (call:aI):aI:=fun f as_ h=>match call f as_ h with
 | .panic _ h'=> .ret AV.undef h'
 | r=>r
theorem Gy {call:aI} {ts:List AV} {h h':ah} {rc:RC} {o:Oper} {v:AV} (e:bF E call ts h rc o= .val v h'):bF E (sO call) ts h rc o= .val v h':=by
 obtain ⟨dst,op,ty,pos,after,guard⟩:=o
 cases op with
 | call c=>
   obtain ⟨dJ,args,aT⟩:=c
   cases dJ with
   | builtin b=>cases b<;>exact e
   | value f=>
     simp only[bF] at e ⊢
     split at e
     · split at e
       · exact e
       · split at e
         · rename_i hc
           simp only[sO,hc];exact e
         · simp at e
         · simp at e
     · simp at e
   | invoke x name=>
     simp only[bF] at e ⊢
     split at e
     · split at e
       · split at e
         · rename_i hc
           simp only[sO,hc];exact e
         · simp at e
         · simp at e
       · simp at e
     · simp at e
 | _=>exact e
theorem GA {call:aI} {ts:List AV} {h h':ah} {rc:RC} {dst:Option Tmp} {c:Call} {ty:TypeId} {pos:String} {after:Array Edge} {guard:Option (Nat×Bool)} {v:AV} (e:bF E call ts h rc ⟨dst,.call c,ty,pos,after,guard⟩= .panic v h'):
 bF E (sO call) ts h rc ⟨dst,.call c,ty,pos,after,guard⟩= .val AV.undef h':=by
 obtain ⟨dJ,args,aT⟩:=c
 cases dJ with
 | builtin b=>
   cases b<;>simp only[bF] at e<;>(try (simp at e;done))<;>(split at e<;>(try (simp at e;done))<;>(try (split at e<;>simp at e)))
 | value f=>
   simp only[bF] at e ⊢
   split at e
   · split at e
     · split at e<;>simp at e
     · split at e
       · simp at e
       · rename_i hc
         simp at e;obtain ⟨rfl,rfl⟩:=e
         simp only[sO,hc]
       · simp at e
   · simp at e
 | invoke x name=>
   simp only[bF] at e ⊢
   split at e
   · split at e
     · split at e
       · simp at e
       · rename_i hc
         simp at e;obtain ⟨rfl,rfl⟩:=e
         simp only[sO,hc]
       · simp at e
     · simp at e
   · simp at e
theorem iS {α:Type} {f:α→Option Nat}:∀{l:List α} (_:(l.filterMap f).Nodup) {x y:α} {n:Nat} (_:x∈l) (_:y∈l) (_:f x=some n) (_:f y=some n),x=y
 | [],_,x,y,n,hx,_,_,_=>by simp at hx
 | z::l,hn,x,y,n,hx,hy,fx,fy=>by
   cases hz:f z with
   | none=>
     rw[List.filterMap_cons_none hz] at hn
     have P0:x∈l:=by
      simp at hx;rcases hx with rfl | h
      · rw[hz] at fx;simp at fx
      · exact h
     have Kl:y∈l:=by
      simp at hy;rcases hy with rfl | h
      · rw[hz] at fy;simp at fy
      · exact h
     exact iS hn P0 Kl fx fy
   | some m=>
     rw[List.filterMap_cons_some hz,List.nodup_cons] at hn
     simp at hx hy
     rcases hx with rfl | hx<;>rcases hy with rfl | hy
     · rfl
     · exfalso;rw[fx] at hz;simp at hz;subst hz;exact hn.1 (List.mem_filterMap.2 ⟨y,hy,fy⟩)
     · exfalso;rw[fy] at hz;simp at hz;subst hz;exact hn.1 (List.mem_filterMap.2 ⟨x,hx,fx⟩)
     · exact iS hn.2 hx hy fx fy
theorem GB (El:lJ E ops=some pl) (hd:bz E call ops pl.order 0 s= .ok tr hs s') (hl:kg E ops pl tr hs=true):∃st,xD E call ops pl s s' tr hs st:=by
 obtain ⟨st,t⟩:=iR hd
 unfold kg at hl
 simp only[Bool.and_eq_true] at hl
 refine ⟨st,zv El,t,fun x hx K hk h1 h2 h3=>?_,fun x y hx hy n o q e1 e2=>?_⟩
 · have h4:=List.all_eq_true.1 (List.all_eq_true.1 hl.2 x hx) hk
   refine h4 ?_
   refine List.mem_of_getElem? (i:=K - x.k) ?_
   rw[List.getElem?_take,if_pos (by omega),List.getElem?_drop,show x.k+(K - x.k)=K by omega,h3]
 · have:=nJ hl.1
   have:=iS this hx hy (n:=n) (by simp [e1]) (by simp [e2])
   rw[this]
theorem nL {call vQ:aI} (hc:∀{ts:List AV} {h h':ah} {rc:RC} {o:Oper} {v:AV},bF E call ts h rc o= .val v h'→bF E vQ ts h rc o= .val v h') {i:Nat} {o:Oper} (ho:ops[i]? =some o) (he:ct E o.op=true):
 ∀(l:List Nat) (k:Nat) (s:St) {tr:List Step} {hs:List ah} {s1:St} {h':ah} (_:bz E call ops l k s= .ok tr hs s1) (_:bp ops s1.ts o=true) (_:bF E vQ s1.ts s1.h s1.rc o= .val AV.undef h'),
  bz E vQ ops (l++[i]) k s= .ok (tr++[⟨i,k+(hs.length - 1),s1.ts,AV.undef,.nf h'⟩]) (hs++[h']) {s1 with ts:=bR s1.ts o.dst AV.undef,h:=h'}
 | [],k,s,tr,hs,s1,h',hd,hw,hv=>by
   simp [bz] at hd;obtain ⟨rfl,rfl,rfl⟩:=hd
   simp only[List.nil_append,bz,ho,he,if_true,hw,hv]
   simp [eO.bound,eO.step]
 | j::l,k,s,tr,hs,s1,h',hd,hw,hv=>by
   rw[List.cons_append]
   simp only[bz] at hd ⊢
   cases My:ops[j]? with
   | none=>rw[My] at hd;simp at hd
   | some oj=>
   rw[My] at hd
   simp only at hd ⊢
   have wr:∀(x:Step) (s0:St),((bz E call ops l (k+1) s0).bound s.h).step x= .ok tr hs s1→((bz E vQ ops (l++[i]) (k+1) s0).bound s.h).step x= .ok (tr++[⟨i,k+(hs.length - 1),s1.ts,AV.undef,.nf h'⟩]) (hs++[h']) {s1 with ts:=bR s1.ts o.dst AV.undef,h:=h'}:=by
    intro x s0 hd
    cases hr:bz E call ops l (k+1) s0 with
    | fail why q=>rw[hr] at hd;simp [eO.bound,eO.step] at hd
    | ok C6 kq s2=>
      rw[hr] at hd;simp [eO.bound,eO.step] at hd;obtain ⟨rfl,rfl,rfl⟩:=hd
      rw[nL hc ho he l (k+1) s0 hr hw hv]
      obtain ⟨_,t⟩:=iR hr
      have:1≤kq.length:=by have:=t.len;omega
      simp [eO.bound,eO.step];omega
   have pl:∀(x:Step) (s0:St),(bz E call ops l k s0).step x= .ok tr hs s1→(bz E vQ ops (l++[i]) k s0).step x= .ok (tr++[⟨i,k+(hs.length - 1),s1.ts,AV.undef,.nf h'⟩]) (hs++[h']) {s1 with ts:=bR s1.ts o.dst AV.undef,h:=h'}:=by
    intro x s0 hd
    cases hr:bz E call ops l k s0 with
    | fail why q=>rw[hr] at hd;simp [eO.step] at hd
    | ok C6 kq s2=>
      rw[hr] at hd;simp [eO.step] at hd;obtain ⟨rfl,rfl,rfl⟩:=hd
      rw[nL hc ho he l k s0 hr hw hv]
      simp [eO.step]
   split at hd
   · rename_i NI
     rw[if_pos NI]
     split at hd
     · rename_i vc
       rw[if_pos vc]
       split at hd
       · rename_i Gv
         simp only[hc Gv]
         exact wr _ _ hd
       · simp at hd
       · simp at hd
     · rename_i vc
       rw[if_neg vc]
       exact wr _ _ hd
   · rename_i NI
     rw[if_neg NI]
     split at hd
     · rename_i vc
       rw[if_pos vc]
       split at hd
       · rename_i hp
         try simp only[hp]
         exact pl _ _ hd
       · rename_i hp
         try simp only[hp]
         split at hd
         · rename_i hq
           try simp only[hq]
           exact pl _ _ hd
         · rename_i hq
           try simp only[hq]
           split at hd
           · rename_i hr
             try simp only[hr]
             split at hd
             · rename_i hn
               try simp only[hn]
               exact pl _ _ hd
             · simp at hd
           · simp at hd
     · rename_i vc
       rw[if_neg vc]
       exact pl _ _ hd
theorem p6 {call:aI} {i:Nat} {o:Oper} (ho:ops[i]? =some o) (he:ct E o.op=true) {v:AV}:
 ∀(l:List Nat) (k:Nat) (s:St) {tr:List Step} {hs:List ah} {s1:St} {h':ah} (_:bz E call ops l k s= .ok tr hs s1) (_:bp ops s1.ts o=true) (_:bF E call s1.ts s1.h s1.rc o= .panic v h'),
  ∃why q,bz E call ops (l++[i]) k s= .fail why q
 | [],k,s,tr,hs,s1,h',hd,hw,hv=>by
   simp [bz] at hd;obtain ⟨rfl,rfl,rfl⟩:=hd
   simp only[List.nil_append,bz,ho,he,if_true,hw,hv]
   exact ⟨_,_,rfl⟩
 | j::l,k,s,tr,hs,s1,h',hd,hw,hv=>by
   rw[List.cons_append]
   simp only[bz] at hd ⊢
   cases My:ops[j]? with
   | none=>rw[My] at hd;simp at hd
   | some oj=>
   rw[My] at hd
   simp only at hd ⊢
   have wr:∀(x:Step) (s0:St),((bz E call ops l (k+1) s0).bound s.h).step x= .ok tr hs s1→∃why q,((bz E call ops (l++[i]) (k+1) s0).bound s.h).step x= .fail why q:=by
    intro x s0 hd
    cases hr:bz E call ops l (k+1) s0 with
    | fail why q=>rw[hr] at hd;simp [eO.bound,eO.step] at hd
    | ok C6 kq s2=>
      rw[hr] at hd;simp [eO.bound,eO.step] at hd;obtain ⟨rfl,rfl,rfl⟩:=hd
      obtain ⟨why,q,e⟩:=p6 ho he l (k+1) s0 hr hw hv
      rw[e];exact ⟨_,_,rfl⟩
   have pl:∀(x:Step) (s0:St),(bz E call ops l k s0).step x= .ok tr hs s1→∃why q,(bz E call ops (l++[i]) k s0).step x= .fail why q:=by
    intro x s0 hd
    cases hr:bz E call ops l k s0 with
    | fail why q=>rw[hr] at hd;simp [eO.step] at hd
    | ok C6 kq s2=>
      rw[hr] at hd;simp [eO.step] at hd;obtain ⟨rfl,rfl,rfl⟩:=hd
      obtain ⟨why,q,e⟩:=p6 ho he l k s0 hr hw hv
      rw[e];exact ⟨_,_,rfl⟩
   split at hd
   · rename_i NI
     rw[if_pos NI]
     split at hd
     · rename_i vc
       rw[if_pos vc]
       split at hd
       · rename_i Gv
         try simp only[Gv]
         exact wr _ _ hd
       · simp at hd
       · simp at hd
     · rename_i vc
       rw[if_neg vc]
       exact wr _ _ hd
   · rename_i NI
     rw[if_neg NI]
     split at hd
     · rename_i vc
       rw[if_pos vc]
       split at hd
       · rename_i hp
         try simp only[hp]
         exact pl _ _ hd
       · rename_i hp
         try simp only[hp]
         split at hd
         · rename_i hq
           try simp only[hq]
           exact pl _ _ hd
         · rename_i hq
           try simp only[hq]
           split at hd
           · rename_i hr
             try simp only[hr]
             split at hd
             · rename_i hn
               try simp only[hn]
               exact pl _ _ hd
             · simp at hd
           · simp at hd
     · rename_i vc
       rw[if_neg vc]
       exact pl _ _ hd
end
theorem sP {call:aI} {ops:Array Oper} {pl:gA} {s s':St} {tr:List Step} {kn st:List ah} (r:xD E call ops pl s s' tr kn st)
 {φ:Ph} {a:Act} {w:World} (Gs:LR φ s.ts a.tmps.toList) (ok:OK E φ s.h w):Inv E ops pl s tr kn st φ w a.defers [] (Array.replicate ops.size false) 0 φ a {w with drawn:=w.drawn+1}:=by
 have zC:OK E φ s.h {w with drawn:=w.drawn+1}:=⟨ok.qL,ok.nx,ok.lN,ok.live,ok.inj⟩
 have PA:Fr φ s.h w φ s.h {w with drawn:=w.drawn+1}:=⟨Ph.le_refl φ,fun _ _=>rfl,Nat.le_refl _,rfl,rfl,rfl,Nat.le_refl _,fun _ _ _=>rfl,fun i o l a b c=> .inr ⟨i,o,l,a,b,c,rfl⟩⟩
 have hlen:0<kn.length:=by have:=r.trace.len;omega
 have h0:kn[0]? =some kn[0]:=by simp [hlen]
 have g:=r.trace.grown 0 s.h _ r.trace.first h0
 obtain ⟨sM,NG⟩:=zC.grown g
 refine ⟨.nil,fun i hi=>by simp at hi,fun i hi=>by simp [hi],fun i hi=>by simp at hi,fun q e hq=>by simp,by omega,by simpa [js] using Gs,rfl,⟨_,h0,sM,PA.trans NG⟩,fun x hx n obj hk _ Qk=>?_⟩
 obtain ⟨q,hq⟩:=List.getElem?_of_mem hx
 obtain ⟨_,_,_,TV,oy,X9,_,_⟩:=r.at hq
 obtain ⟨_,_,X_,TW,TX,TY,vk,vl,BX⟩:=r.trace.step q x hq
 rw[←TV] at vk vl
 have xB:x.k=0:=by omega
 rw[xB] at vk vl
 rw[r.trace.first] at vl;simp at vl;subst vl
 unfold oG at BX
 rw[hk] at BX
 obtain ⟨_,_,_,SK,Qi⟩:=BX
 refine ⟨?_,SK,fun hK e=>?_⟩
 · cases hφ:φ n with
   | none=>rfl
   | some l=>have:=ok.qL n l hφ;omega
 · rw[e] at vk;simp at vk;subst vk;exact Qi
theorem zD (hE:fm E) (T6:E.P.follows .mixedOrders=true) {call:aI} (bG:dy E call) {ops:Array Oper} {s s':St} {e:fi} (h:oi E call ops s= .ok e s')
 {φ:Ph} {a:Act} {w:World} {b:Frame} {k:List Item} {K:Bool→List Frame} (hs:SR φ s.ts s.ds a) (ok:OK E φ s.h w) (cU:ia φ b K s.rc) (id:Nat):
 s'.rc=s.rc∧s'.ds=s.ds∧((e= .normal∧∃φ' a' w',LR φ' s'.ts a'.tmps.toList∧a'.defers=a.defers∧OK E φ' s'.h w'∧Fr φ s.h w φ' s'.h w'∧
  Steps E.P (lone (b.atR a (.code (.region id ops true)::k)) (cur K s.rc) w) (lone (b.atR a' k) (cur K s.rc) w'))∨
  ∃v,e= .panic v∧xF E φ s.h w a.defers b (cur K s.rc) v s' (lone (b.atR a (.code (.region id ops true)::k)) (cur K s.rc) w)):=by
 have Qm:Region.schedule (E.P.follows .mixedOrders) ops (w.tape w.drawn (.order b.fn id))=Region.linearise.go .any ops ops.size (w.tape w.drawn (.order b.fn id)) (Array.replicate ops.size false) []:=by
  rw[T6];rfl
 unfold oi at h
 split at h
 · simp at h
 rename_i pl El
 split at h
 · rename_i tr kn s1 hd
   split at h
   · rename_i hl
     simp at h;obtain ⟨rfl,rfl⟩:=h
     obtain ⟨st,r⟩:=GB El hd hl
     refine ⟨r.trace.rc,r.trace.ds,.inl ⟨rfl,?_⟩⟩
     obtain ⟨φ',a',w',x1,x2,x3,x4,x5⟩:=(zB hE bG r cU (b:=b) (k:=k) ops.size (w.tape w.drawn (.order b.fn id)) (sP r hs.ts ok) (by simp)).is
     refine ⟨φ',a',w',x1,x2,x3,x4,.head stepR_region_draw ?_⟩
     rw[Qm]
     exact x5
   · simp at h
 · split at h
   · rename_i v s2 hp
     simp at h;obtain ⟨rfl,rfl⟩:=h
     unfold sf at hp
     split at hp
     · simp at hp
     rename_i i front Kt
     split at hp
     · rename_i tr kn s1 dst c ty pos after guard hd ho
       split at hp
       · rename_i Bp
         split at hp
         · rename_i v1 h1 Gv
           split at hp
           · rename_i hl
             simp at hp;obtain ⟨rfl,rfl⟩:=hp
             simp only[Bool.and_eq_true,List.all_eq_true,List.mem_range,Bool.or_eq_true,beq_iff_eq] at Bp
             obtain ⟨⟨he,hw⟩,zz⟩:=Bp
             have Gr:pl.order=front.reverse++[i]:=by
              have:=congrArg List.reverse Kt
              simpa using this
             have NJ:=nL (vQ:=sO call) (fun e=>Gy e) ho he front.reverse 0 s hd hw (GA Gv)
             rw[←Gr] at NJ
             rw[Nat.zero_add] at NJ
             obtain ⟨st,r⟩:=GB El NJ hl
             obtain ⟨FP,t1⟩:=iR hd
             have Qo:s1.rc=s.rc:=t1.rc
             refine ⟨Qo,t1.ds,.inr ⟨_,rfl,?_⟩⟩
             have hlen:1≤kn.length:=by have:=t1.len;omega
             have zA:(kn++[h1])[kn.length - 1]? =some s1.h:=by
              rw[List.getElem?_append_left (by omega)]
              have:=t1.last
              rw[show kn.length - 1=kb E ops front.reverse by have:=t1.len;omega];exact this
             have vO:∀(x:Step) (o:Oper) (hk h':ah),x∈tr++[⟨i,kn.length - 1,s1.ts,AV.undef,.nf h1⟩]→x.i≠i→ops[x.i]? =some o→(kn++[h1])[x.k]? =some hk→x.kind= .nf h'→bF E call x.ts hk s.rc o= .val x.v h':=by
              intro x o hk h' hx Et zx qT sB
              have P0:x∈tr:=by
               simp at hx;rcases hx with h | h
               · exact h
               · exact absurd (by rw[h]) Et
              obtain ⟨p,hp⟩:=List.getElem?_of_mem P0
              obtain ⟨_,Qk,o',SM,Ws,T7,NK,Qf,er⟩:=t1.step p x hp
              rw[zx] at T7;simp at T7;subst T7
              rw[Nat.zero_add] at Qk
              rw[←Qk] at NK
              have gC:x.k<kn.length:=(List.getElem?_eq_some_iff.1 NK).1
              rw[List.getElem?_append_left gC,NK] at qT
              simp at qT;subst qT
              unfold oG at er;rw[sB] at er;exact er.2.2.1
             have T8:=(vP hE bG r (xl:=⟨i,kn.length - 1,s1.ts,AV.undef,.nf h1⟩) (by simp) (ol:=⟨dst,.call c,ty,pos,after,guard⟩) ho rfl (fun j hj bY=>(zz j hj).resolve_left bY) he hw zA (by rw[←Qo];exact Gv) vO
              (s2:={s1 with h:=h1}) rfl rfl cU (b:=b) (k:=k) ops.size (w.tape w.drawn (.order b.fn id)) (sP r hs.ts ok) (by simp) (by simp)).is
             obtain ⟨φ',a',w',v',todo,x0,x1,x2,x3,x4,x5⟩:=T8
             refine ⟨φ',a',w',v',todo,x0,x1,x2,x3,x4,.head stepR_region_draw ?_⟩
             rw[Qm]
             exact x5
           · simp at hp
         · simp at hp
       · simp at hp
     · simp at hp
   · simp at h
end Go.Ab
end
section
namespace Go.Ab
variable {E:Env}
def zE (P:Program) (m:Machine) (b:Frame) (k:List Item) (cs:List Frame):Exit→Act→World→Prop
 | .normal,a,w=>Steps P m (lone (b.atR a k) cs w)
 | .exit id,a,w=>∃todo,exitTo id todo=exitTo id k∧Steps P m (lone (b.atR a (.code (.exit id)::todo)) cs w)
 | .ret,a,w=>∃todo,Steps P m (lone (b.atR a (.code .ret::todo)) cs w)
 | .panic chain,a,w=>∃todo,Steps P m (lone {b.atR a todo with mode:= .panicking chain} cs w)
 | _,_,_=>False
theorem zE.of_steps {P:Program} {m m':Machine} {b:Frame} {k:List Item} {cs:List Frame} {e:Exit} {a:Act} {w:World} (hs:Steps P m m') (h:zE P m' b k cs e a w):zE P m b k cs e a w:=by
 cases e with
 | normal=>exact Steps.trans hs h
 | exit id=>obtain ⟨t,h1,h2⟩:=h;exact ⟨t,h1,Steps.trans hs h2⟩
 | ret=>obtain ⟨t,h2⟩:=h;exact ⟨t,Steps.trans hs h2⟩
 | panic c=>obtain ⟨t,h2⟩:=h;exact ⟨t,Steps.trans hs h2⟩
 | goto l=>exact h.elim
 | outgrown=>exact h.elim
theorem zE.pass {P:Program} {m:Machine} {b:Frame} {x:Item} {k:List Item} {cs:List Frame} {e:Exit} {a:Act} {w:World} (hx:∀id,exitTo id (x::k)=exitTo id k) (hn:e≠ .normal) (h:zE P m b (x::k) cs e a w):zE P m b k cs e a w:=by
 cases e with
 | normal=>exact absurd rfl hn
 | exit id=>obtain ⟨t,h1,h2⟩:=h;exact ⟨t,h1.trans (hx id),h2⟩
 | ret=>exact h
 | panic c=>exact h
 | goto l=>exact h.elim
 | outgrown=>exact h.elim
structure jX (E:Env) (φ:Ph) (h:ah) (w:World) (b:Frame) (K:Bool→List Frame) (k:List Item) (m:Machine) (e:fi) (s':St):Prop where
 is:∃φ' w' a' e',NA φ' e e'∧SR φ' s'.ts s'.ds a'∧OK E φ' s'.h w'∧Fr φ h w φ' s'.h w'∧ia φ' b K s'.rc∧zE E.P m b k (cur K s'.rc) e' a' w'
theorem jX.of_steps {φ:Ph} {h:ah} {w:World} {b:Frame} {K:Bool→List Frame} {k:List Item} {m m':Machine} {e:fi} {s':St} (hs:Steps E.P m m') (x:jX E φ h w b K k m' e s'):jX E φ h w b K k m e s':=by
 obtain ⟨φ',w',a',e',h1,h2,h3,h4,h5,h6⟩:=x.is
 exact ⟨φ',w',a',e',h1,h2,h3,h4,h5,.of_steps hs h6⟩
theorem jX.later {φ φ₁:Ph} {h h₁:ah} {w w₁:World} {b:Frame} {K:Bool→List Frame} {k:List Item} {m:Machine} {e:fi} {s':St} (f:Fr φ h w φ₁ h₁ w₁) (x:jX E φ₁ h₁ w₁ b K k m e s'):jX E φ h w b K k m e s':=by
 obtain ⟨φ',w',a',e',h1,h2,h3,h4,h5,h6⟩:=x.is
 exact ⟨φ',w',a',e',h1,h2,h3,f.trans h4,h5,h6⟩
theorem OK.made {φ:Ph} {h h':ah} {w:World} (ok:OK E φ h w) {o:aF} {O:Obj} (hn:h.new o=some h') (ho:OR E (φ.add h.nx ⟨w.heap.size,0,0⟩) o ⟨w.heap.size,0,0⟩ (some O)):
 OK E (φ.add h.nx ⟨w.heap.size,0,0⟩) h' (w.alloc O)∧Fr φ h w (φ.add h.nx ⟨w.heap.size,0,0⟩) h' (w.alloc O)∧φ.le (φ.add h.nx ⟨w.heap.size,0,0⟩):=
 ok.fresh (w':=w.alloc O) hn ⟨w.heap.size,0,0⟩ (by rw[show (w.alloc O).heap=w.heap.push O from rfl];simpa using ho)
  (fun c bY hc=>by rw[show (w.alloc O).heap=w.heap.push O from rfl,Array.getElem?_push,if_neg (by simpa using bY)]) (by simp) (Nat.le_refl _) rfl rfl rfl
theorem OK.NL {φ:Ph} {h:ah} {w:World} (ok:OK E φ h w) {i:Nat} {o o':aF} {l:Loc} (hg:h.get i=some o) (za:o.rw=true) (hl:φ i=some l) {O:Obj} (ho:OR E φ o' l (some O)):
 OK E φ (h.put i (some o')) (w.putObj l.cH O)∧Fr φ h w φ (h.put i (some o')) (w.putObj l.cH O):=by
 have gC:l.cH<w.heap.size:=by
  rcases Nat.lt_or_ge l.cH w.heap.size with h1 | h1
  · exact h1
  · have:=ok.live i o l hg hl
    rw[Array.getElem?_eq_none h1] at this
    exact this.absurd.elim
 exact ok.change hg za hl (by rw[World.putObj_heap_same gC];exact ho) (fun c hc=>World.putObj_heap_other hc) World.putObj_size rfl rfl rfl
theorem OK.shut {φ:Ph} {h:ah} {w:World} (ok:OK E φ h w) {i:Nat} {o:aF} {l:Loc} (hg:h.get i=some o) (za:o.rw=true) (hl:φ i=some l) (O:Obj):
 OK E φ (h.put i none) (w.putObj l.cH O)∧Fr φ h w φ (h.put i none) (w.putObj l.cH O):=by
 have cX:∀j p,(h.put i none).get j=some p→h.get j=some p∧j≠i:=fun j p hj=>by
  by_cases e:i=j
  · subst e;rw[ah.bx] at hj;simp at hj
  · rw[ah.bf e] at hj;exact ⟨hj,Ne.symm e⟩
 refine ⟨⟨ok.qL,ok.nx,ok.lN,fun j p m hj hm=>?_,fun j k p q m n hj hk=>ok.inj j k p q m n (cX j p hj).1 (cX k q hk).1⟩,
  ⟨Ph.le_refl φ,fun _ _=>rfl,Nat.le_refl _,rfl,rfl,rfl,by simp,fun b _ hn=>World.putObj_heap_other (fun e=>hn i o l hg za hl e.symm),fun j p m hj hr hm=> .inr ⟨j,p,m,(cX j p hj).1,hr,hm,rfl⟩⟩⟩
 obtain ⟨kl,bY⟩:=cX j p hj
 rw[World.putObj_heap_other (fun e=>bY (ok.inj j i p o m l kl hg hm hl (.inr za) e))]
 exact ok.live j p m kl hm
theorem zF {s:St} {dn:Nat} {h1:ah} {Ni:List iI} (ho:FY s=some (dn,h1,Ni)) {φ:Ph} {a:Act} {w:World} {b:Frame} {K:Bool→List Frame} (hs:SR φ s.ts s.ds a) (ok:OK E φ s.h w) (cU:ia φ b K s.rc)
 (ps:Array Tmp) (as_ bd:Code):∃φ1 w1 ld mark,φ.le φ1∧OK E φ1 h1 w1∧Fr φ s.h w φ1 h1 w1∧φ1 dn=some ld∧SR φ1 s.ts Ni {a with defers:=mark++a.defers}∧
  (Instr.enterLoop b.fn a.tmps ps as_ bd b.roundOf).run E.P w= .ok (w1.heap.size,mark) (w1.alloc (.loop {state:= .ready,pending:=none,fn:=b.fn,tmps:=a.tmps,params:=ps,assign:=as_,body:=bd,defers:=ld.cH})):=by
 unfold FY at ho
 split at ho
 · rename_i l hl
   split at ho
   · rename_i st pd ts lq od Po Pp hg
     simp at ho;obtain ⟨rfl,rfl,rfl⟩:=ho
     rw[hl] at cU
     obtain ⟨ll,hφ,Gn⟩:=cU
     obtain ⟨_,r,hr,p7⟩:=ok.live _ _ _ hg hφ
     obtain ⟨ld,Wx,NJ⟩:=p7.defers
     refine ⟨φ,w,ld,[],Ph.le_refl φ,ok,Fr.refl _ _ _,Wx,⟨hs.ts,hs.ds⟩,?_⟩
     rw[Gn,run_enterLoop_inner hr,NJ]
   · simp at ho
 · rename_i vb
   split at ho
   · rename_i Wy hn
     simp at ho;obtain ⟨rfl,rfl,rfl⟩:=ho
     obtain ⟨zC,PA,hle⟩:=ok.made (O:= .deferred (some [])) hn ⟨rfl,rfl⟩
     have dw:(φ.add s.h.nx ⟨w.heap.size,0,0⟩) s.h.nx=some ⟨w.heap.size,0,0⟩:=by simp [Ph.add]
     refine ⟨_,_,⟨w.heap.size,0,0⟩,[{target:= .collected w.heap.size,args:= #[]}],hle,zC,PA,dw,⟨hs.ts.mono hle,⟨_,dw,rfl⟩,hs.ds.mono hle⟩,?_⟩
     rw[cU.plain (sG vb),run_enterLoop_outer]
     simp
   · simp at ho
theorem GC {c:Code} {e:fi} (h:CZ (some c)=some e):(∃id,c= .exit id∧e= .exit id)∨(c= .ret∧e= .ret):=by
 cases c<;>simp [CZ] at h
 · exact .inl ⟨_,rfl,h.symm⟩
 · exact .inr ⟨rfl,h.symm⟩
theorem xG {call:aI} (bG:dy E call) {f:Operand} {ps:Array Tmp} {as_ bd:Code} {s s':St} {e:fi} (h:hX E call f ps as_ bd s= .ok e s')
 {φ:Ph} {a:Act} {w:World} {b:Frame} {k:List Item} {K:Bool→List Frame} (hs:SR φ s.ts s.ds a) (ok:OK E φ s.h w) (cU:ia φ b K s.rc) (vd:(E.P.funcs[b.fn]?).isSome=true):
 jX E φ s.h w b K k (lone (b.atR a (.code (.rangeFunc f ps as_ bd)::k)) (cur K s.rc) w) e s':=by
 unfold hX at h
 split at h
 · rename_i g first captured hf
   split at h
   · rename_i dn h1 Ni ho
     split at h
     · rename_i h2 hn
       have Wz:=hZ ok.gl hs.ts hf
       generalize fG:a.eval f=cv at Wz
       obtain ⟨Km,dI,rfl,SD,Yb⟩:=Wz.sh
       obtain ⟨φ1,w1,ld,mark,Qq,zC,PA,WA,kq,pU⟩:=zF ho hs ok cU ps as_ bd
       obtain ⟨sM,NG,Ku⟩:=zC.made (O:= .loop {state:= .ready,pending:=none,fn:=b.fn,tmps:=a.tmps,params:=ps,assign:=as_,body:=bd,defers:=ld.cH}) hn
        ⟨rfl,_,rfl,⟨rfl,rfl,hs.ts.mono (Ph.le_trans Qq (fun j m hm=>by
         unfold Ph.add;split
         · rename_i e;subst e;exact absurd (zC.qL _ _ hm) (Nat.lt_irrefl _)
         · exact hm)),rfl,rfl,rfl,⟨ld,by
         unfold Ph.add;split
         · rename_i e;subst e;exact absurd (zC.qL _ _ WA) (Nat.lt_irrefl _)
         · exact WA,rfl⟩,vd⟩⟩
       have hle:=Ph.le_trans Qq Ku
       have dw:(φ1.add h1.nx ⟨w1.heap.size,0,0⟩) h1.nx=some ⟨w1.heap.size,0,0⟩:=by simp [Ph.add]
       generalize hφ2:φ1.add h1.nx ⟨w1.heap.size,0,0⟩=φ2 at sM NG Ku hle dw
       have hl:LR φ2 (first++[.lF h1.nx]++captured) (Km.toList++[.func (.yield w1.heap.size) #[] #[]]++dI.toList):=
        ((SD.mono hle).append (.cons (.yield dw) (.nil φ2))).append (Yb.mono hle)
       have vm:∀w',(resolve a.eval (rangeCall f w1.heap.size) 0).run E.P w'= .ok {target:= .fn (.func g) dI,args:=Km++ #[.func (.yield w1.heap.size) #[] #[]]} w':=fun w'=>by
        have T9:a.eval (.const (.func (.yield w1.heap.size) #[] #[]))= .func (.yield w1.heap.size) #[] #[]:=rfl
        simp [resolve,Deferred.ofValue,fG,T9]
       have start:∀n st,iQ E φ2 (w1.alloc (.loop {state:= .ready,pending:=none,fn:=b.fn,tmps:=a.tmps,params:=ps,assign:=as_,body:=bd,defers:=ld.cH})) (.fn g) (Km.toList++[.func (.yield w1.heap.size) #[] #[]]++dI.toList) n st→
        step E.P (lone (b.atR a (.code (.rangeFunc f ps as_ bd)::k)) (cur K s.rc) w)= .next (lone st (b.atR {a with defers:=mark++a.defers} (.inRangeFunc w1.heap.size::k)::cur K s.rc)
         (w1.alloc (.loop {state:= .ready,pending:=none,fn:=b.fn,tmps:=a.tmps,params:=ps,assign:=as_,body:=bd,defers:=ld.cH}))):=fun n st hp=>by
        cases hp with
        | fn _ _ hr=>
          have hinv:(invoke (Target.fn (.func g) dI) (Km++ #[.func (.yield w1.heap.size) #[] #[]])).run E.P (w1.alloc (.loop {state:= .ready,pending:=none,fn:=b.fn,tmps:=a.tmps,params:=ps,assign:=as_,body:=bd,defers:=ld.cH}))=
           .ok (.enter g (Km.toList++[Value.func (.yield w1.heap.size) #[] #[]]++dI.toList).toArray) (w1.alloc (.loop {state:= .ready,pending:=none,fn:=b.fn,tmps:=a.tmps,params:=ps,assign:=as_,body:=bd,defers:=ld.cH})):=by
           have e:(Km.toList++[Value.func (.yield w1.heap.size) #[] #[]]++dI.toList).toArray=Km++ #[Value.func (.yield w1.heap.size) #[] #[]]++dI:=by
            apply Array.toList_inj.1;simp
           rw[e] at hr ⊢
           simpa [invoke] using hr
          exact stepR_rangeFunc pU (vm _) hinv
       split at h
       ·
        rename_i v h3 hc
        obtain ⟨n,st,hp,dq⟩:=bG.ret _ _ _ _ _ hc φ2 _ _ sM trivial hl
        obtain ⟨φ3,w3,v',_,SY,JW,er⟩:=dq (b.atR {a with defers:=mark++a.defers} (.inRangeFunc w1.heap.size::k)) (cur K s.rc)
        rw[finish_atR_inRangeFunc] at er
        split at h
        · simp at h
        · rename_i st' dV gB lq od Po Pp vb hg
          split at h
          · rename_i e1 hj
            simp at h;obtain ⟨rfl,rfl⟩:=h
            have Kv:=JW.ext _ _ dw
            obtain ⟨_,r,hr,p7⟩:=SY.live _ _ _ hg Kv
            have Qs:r.state≠ .busy:=by rw[p7.state];intro e;subst e;exact vb rfl
            obtain ⟨Qt,T_⟩:=SY.NL (o':= .loop .exhausted dV gB lq od Po Pp) hg rfl Kv (O:= .loop {r with state:= .exhausted}) ⟨rfl,_,rfl,⟨rfl,p7.pending,p7.tmps,p7.params,p7.assign,p7.body,p7.defers,p7.fn⟩⟩
            obtain ⟨W4,T'⟩:∃W4,W4=w3.putObj w1.heap.size (.loop {r with state:= .exhausted}):=⟨_,rfl⟩
            have Qt:OK E φ3 (h3.put h1.nx (some (.loop .exhausted dV gB lq od Po Pp))) W4:=by rw[T'];exact Qt
            have T_:Fr φ3 h3 w3 φ3 (h3.put h1.nx (some (.loop .exhausted dV gB lq od Po Pp))) W4:=by rw[T'];exact T_
            have Qu:=stepR_endRangeFunc (P:=E.P) (b:=b) (a:={a with defers:=mark++a.defers}) (k:=k) (cs:=cur K s.rc) (run_endLoop hr Qs)
            rw[←T'] at Qu
            have lx:=((PA.trans NG).trans JW).trans T_
            have eh:=Steps.trans (.head (start n st hp) er) (.one Qu)
            rw[p7.pending] at eh
            have NM:=Ph.le_trans Ku JW.ext
            have GD:=Ph.le_trans hle JW.ext
            cases dV with
            | none=>
              simp [CZ] at hj;subst hj
              exact ⟨φ3,_,_,_,.normal,kq.mono NM,Qt,lx,cU.mono GD,eh⟩
            | some c=>
              rcases GC hj with ⟨id,rfl,rfl⟩ | ⟨rfl,rfl⟩
              · exact ⟨φ3,_,_,_,.exit id,kq.mono NM,Qt,lx,cU.mono GD,k,rfl,eh⟩
              · exact ⟨φ3,_,_,_,.ret,kq.mono NM,Qt,lx,cU.mono GD,k,eh⟩
          · simp at h
        · simp at h
       ·
        rename_i v h3 hc
        simp at h;obtain ⟨rfl,rfl⟩:=h
        obtain ⟨n,st,hp,dq⟩:=bG.panic _ _ _ _ _ hc φ2 _ _ sM trivial hl
        obtain ⟨φ3,w3,v',hv,SY,JW,er⟩:=dq (b.atR {a with defers:=mark++a.defers} (.inRangeFunc w1.heap.size::k)) (cur K s.rc)
        rw[Frame.raise_atR] at er
        exact ⟨φ3,w3,_,_,.panic v v' hv,kq.mono (Ph.le_trans Ku JW.ext),SY,(PA.trans NG).trans JW,cU.mono (Ph.le_trans hle JW.ext),_,.head (start n st hp) er⟩
       · simp at h
     · simp at h
   · simp at h
 · simp at h
end Go.Ab
end
