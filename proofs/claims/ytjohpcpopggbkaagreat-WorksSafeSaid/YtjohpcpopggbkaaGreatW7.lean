import Derived.Test.YtjohpcpopggbkaaGreatW6
import Derived.Test.YtjohpcpopggbkaaGreatW0
import Derived.Test.YtjohpcpopggbkaaGreatW2
namespace Go.Proofs.aW
open Go.Proofs Ab
set_option maxRecDepth 100000
set_option maxHeartbeats 4000000
set_option linter.unusedVariables false
set_option linter.unusedSimpArgs false
def mu (w:List UInt8) (l:List aw):List aw:=l.filter fun d=>decide (d.worker=w)
theorem drop_cons {l:List aw} {i:Nat} (h:i<l.length):l.drop i=l.g i::l.drop (i+1):=by
 rw[List.drop_eq_getElem_cons h]
 congr 1
 rw[List.g,List.getD_eq_getElem?_getD,List.getElem?_eq_getElem h];rfl
theorem rl (l:List aw) (w:List UInt8):∀(k i:Nat) (acc:List aw),i+k=l.length→dg l w k i acc=acc++mu w (l.drop i)
 | 0,i,acc,h=>by
   rw[List.drop_eq_nil_of_le (by omega)]
   exact (List.append_nil _).symm
 | k+1,i,acc,h=>by
   rw[dg,drop_cons (show i<l.length by omega),mu,List.filter_cons]
   cases hq:decide ((l.g i).worker=w) with
   | true=>
     simp only[cond_true,if_true]
     rw[rl l w k (i+1) _ (by omega),List.append_assoc];rfl
   | false=>
     simp only[cond_false,Bool.false_eq_true,if_false]
     rw[rl l w k (i+1) _ (by omega)];rfl
theorem xe (l:List aw) (w:List UInt8):aR l w=mu w l:=by
 unfold aR
 rw[rl l w _ 0 _ (by omega)];rfl
theorem Ga {l:List aw} {i:Nat} (h:i<l.length):l.take (i+1)=l.take i++[l.g i]:=by
 rw[List.take_add_one,List.getElem?_eq_getElem h]
 congr 1
 rw[List.g,List.getD_eq_getElem?_getD,List.getElem?_eq_getElem h];rfl
theorem xf {l:List aw} {i:Nat} (w:List UInt8) (h:i<l.length):mu w (l.take (i+1))=bif decide ((l.g i).worker=w) then mu w (l.take i)++[l.g i] else mu w (l.take i):=by
 rw[Ga h,mu,List.filter_append]
 cases hq:decide ((l.g i).worker=w) with
 | true=>rw[List.filter_cons,hq];rfl
 | false=>rw[List.filter_cons,hq];exact List.append_nil _
def rm (x d:aw):Int:=imax 0 (IntKind.i64.wrap ((uQ d.leave x.leave) -(imax d.aD (IntKind.i64.wrap (x.leave - 1440)))))
theorem Gb (a b:Int):imax a b=imax b a:=by unfold imax;split<;>split<;>omega
structure Ok (d:aw):Prop where
 i0:0≤d.aD
 i1:d.aD≤1000000
 l0:0≤d.leave
 l1:d.leave≤1000000
 o0:0≤d.out
 o1:d.out≤1000000
theorem sF {x d:aw} (hx:Ok x) (hd:Ok d):rm x d=max 0 (min d.leave x.leave - max d.aD (x.leave - 1440)):=by
 have:=hx.l0;have:=hx.l1;have:=hd.i0;have:=hd.i1;have:=hd.l0;have:=hd.l1
 unfold rm
 rw[wrap_i64 (show -9223372036854775808≤x.leave - 1440 by omega) (by omega)]
 have e1:uQ d.leave x.leave=min d.leave x.leave:=by unfold uQ;split<;>omega
 have e2:imax d.aD (x.leave - 1440)=max d.aD (x.leave - 1440):=by unfold imax;split<;>omega
 rw[e1,e2,wrap_i64 (by omega) (by omega)]
 unfold imax;split<;>omega
theorem Ch {x d:aw} (hx:Ok x) (hd:Ok d):0≤rm x d∧rm x d≤2000000:=by
 have:=hx.l0;have:=hx.l1;have:=hd.i0;have:=hd.i1;have:=hd.l0;have:=hd.l1
 rw[sF hx hd];omega
def iM (x:aw):List aw→Int
 | []=>0
 | d::l=>rm x d+iM x l
theorem Jw (x:aw) (a b:List aw):iM x (a++b)=iM x a+iM x b:=by
 induction a with
 | nil=>show iM x b=0+iM x b;omega
 | cons d a ih=>show rm x d+iM x (a++b)=rm x d+iM x a+iM x b;rw[ih];omega
theorem Jx {x:aw} (hx:Ok x):∀{l:List aw},(∀d∈l,Ok d)→0≤iM x l∧iM x l≤2000000*(l.length:Int)
 | [],_=>by show 0≤(0:Int)∧(0:Int)≤_;simp
 | d::l,h=>by
   have a:=Ch hx (h d (by simp))
   have b:=Jx hx (l:=l) fun y hy=>h y (by simp [hy])
   show 0≤rm x d+iM x l∧rm x d+iM x l≤_
   rw[List.length_cons]
   omega
def st (t:aH) (a:List aw) (x:aw):dV:=⟨.aF,t.rows,t.rest,t.day,.aF,a,x.worker,x.ab,x.aD,x.leave,x.out⟩
theorem Jy (t:aH) (a:List aw) (x d:aw):gX (st t a x) d=rm x d:=rfl
theorem Ci (t:aH) {a:List aw} {x:aw} (hx:Ok x) (ha:∀d∈a,Ok d) (hl:a.length≤1000):∀(k i:Nat) (v:Int),i+k=a.length→0≤v→v≤2000000*(i+1:Int)→cm (st t a x) k i v=v+iM x (a.drop i)
 | 0,i,v,h,_,_=>by
   rw[List.drop_eq_nil_of_le (by omega)]
   show v=v+0;omega
 | k+1,i,v,h,h0,h1=>by
   have hi:i<a.length:=by omega
   have b:=Ch hx (ha (a.g i) (BZ hi))
   rw[cm,Jy,drop_cons hi]
   rw[show ((st t a x).ahead.g i)=a.g i from rfl]
   rw[wrap_i64 (by omega) (by omega)]
   rw[Ci t hx ha hl k (i+1) _ (by omega) (by omega) (by push_cast;omega)]
   show v+rm x (a.g i)+iM x (a.drop (i+1))=v+(rm x (a.g i)+iM x (a.drop (i+1)))
   omega
theorem xg (t:aH) {a:List aw} {x:aw} (hx:Ok x) (ha:∀d∈a,Ok d) (hl:a.length≤1000):bh (st t a x)=decide (rm x x+iM x a≤t.day):=by
 unfold bh
 have b:=Ch hx hx
 rw[show gX (st t a x) (⟨(st t a x).aj,(st t a x).ah,(st t a x).aB,(st t a x).ai,(st t a x).az⟩:aw)=rm x x from rfl]
 rw[Ci t hx ha hl _ 0 _ (by show 0+a.length=a.length;omega) b.1 (by simp;omega)]
 rfl
def oB (w:List UInt8) (l:List aw):Nat→Int
 | 0=> -1
 | i+1=>bif decide ((l.g i).worker=w) then (i:Int) else oB w l i
theorem Cj {w:List UInt8} {l:List aw}:∀{n:Nat},n≤l.length→(mu w (l.take n)=[]∧oB w l n= -1)∨(mu w (l.take n)≠ []∧0≤oB w l n∧(mu w (l.take n)).g ((mu w (l.take n)).length - 1)=l.g (Int.toNat (oB w l n)))
 | 0,_=> .inl ⟨rfl,rfl⟩
 | i+1,h=>by
   rw[xf w (show i<l.length by omega),oB]
   cases decide ((l.g i).worker=w) with
   | true=>
     refine .inr ⟨by simp,by show 0≤(i:Int);omega,?_⟩
     simp only[cond_true]
     rw[List.length_append,List.length_singleton,Nat.add_sub_cancel]
     rw[show Int.toNat (i:Int)=i from rfl,List.g,List.getD_eq_getElem?_getD,List.getElem?_append_right (Nat.le_refl _),Nat.sub_self]
     rfl
   | false=>exact Cj (n:=i) (by omega)
theorem Ck {l:List aw} {n:Nat} (hl:l.length≤1000) (hn:n<l.length) (hx:Ok (l.g n)) (hp:∀j,j<n→Ok (l.g j)):∀(k i:Nat),i+k=n+1→
 ba l (n:Int) k i (oB (l.g n).worker l i) (iM (l.g n) (mu (l.g n).worker (l.take i))+(if i=n+1 then rm (l.g n) (l.g n) - rm (l.g n) (l.g n) else 0))=(oB (l.g n).worker l n,iM (l.g n) (mu (l.g n).worker (l.take n))+rm (l.g n) (l.g n))∨i=n+1
 | 0,i,h=> .inr (by omega)
 | k+1,i,h=>by
   left
   rw[if_neg (by omega)]
   have lT:∀i,i≤n→∀d∈mu (l.g n).worker (l.take i),Ok d:=fun i hi d hd=>by
    have hd:=(List.mem_filter.1 hd).1
    obtain ⟨j,hj,rfl⟩:=List.mem_iff_getElem.1 hd
    have PG:j<i:=by rw[List.length_take] at hj;omega
    have:=hp j (by omega)
    rw[List.g,List.getD_eq_getElem?_getD,List.getElem?_eq_getElem (by omega)] at this
    rw[List.getElem_take];exact this
   have hlen:∀i,i≤n→(mu (l.g n).worker (l.take i)).length≤i:=fun i hi=>by
    have:=List.length_filter_le (fun d:aw=>decide (d.worker=(l.g n).worker)) (l.take i)
    rw[List.length_take] at this
    exact Nat.le_trans this (by omega)
   have sb:=Jx hx (lT i (by omega))
   have sl:=hlen i (by omega)
   rw[ba]
   rw[show Int.toNat (n:Int)=n from rfl]
   have fold:imax (IntKind.i64.wrap ((uQ ((l.g i).leave) ((l.g n).leave)) -(imax ((l.g i).aD) (IntKind.i64.wrap (((l.g n).leave) - 1440))))) 0=rm (l.g n) (l.g i):=Gb _ _
   rw[fold]
   by_cases hi:i=n
   · subst hi
     have b:=Ch hx hx
     rw[decide_eq_true (rfl:(l.g i).worker=(l.g i).worker),decide_eq_false (show ¬(i:Int)<i by omega)]
     simp only[Bool.not_true,cond_false]
     obtain rfl:k=0:=by omega
     rw[ba,wrap_i64 (by omega) (by omega)]
     rw[Int.add_zero]
   · have jT:i<n:=by omega
     have b:=Ch hx (hp i jT)
     have e1:=xf (l.g n).worker (show i<l.length by omega)
     have ih:=Ck hl hn hx hp k (i+1) (by omega)
     have e2:oB (l.g n).worker l (i+1)=bif decide ((l.g i).worker=(l.g n).worker) then (i:Int) else oB (l.g n).worker l i:=rfl
     rw[decide_eq_true (show (i:Int)<n by omega)]
     rcases ih with ih | ih
     · rw[if_neg (by omega),e1,e2] at ih
       cases hq:decide ((l.g i).worker=(l.g n).worker) with
       | true=>
         rw[hq] at ih
         simp only[cond_true,Bool.not_true,cond_false] at ih ⊢
         rw[wrap_i64 (by omega) (by omega),←ih]
         rw[Jw]
         congr 1
         show iM (l.g n) (mu (l.g n).worker (l.take i))+0+rm (l.g n) (l.g i)=iM (l.g n) (mu (l.g n).worker (l.take i))+(rm (l.g n) (l.g i)+0)+0
         omega
       | false=>
         rw[hq] at ih
         simp only[cond_false,Bool.not_false,cond_true] at ih ⊢
         exact ih
     · omega
theorem Gc {l:List aw} {n:Nat} (hl:l.length≤1000) (hn:n<l.length) (hx:Ok (l.g n)) (hp:∀j,j<n→Ok (l.g j)):
 ba l (n:Int) (n+1) 0 (-1) 0=(oB (l.g n).worker l n,iM (l.g n) (mu (l.g n).worker (l.take n))+rm (l.g n) (l.g n)):=by
 rcases Ck hl hn hx hp (n+1) 0 (by omega) with h | h
 · rw[if_neg (by omega)] at h
   exact h
 · omega
theorem sG (t:aH) (a:List aw) (x:aw):bO (st t a x)=(aA t x.ab (IntKind.i64.wrap (x.leave - x.aD))).2:=rfl
theorem yY (t:aH) (a:List aw) (x:aw):bu (st t a x)=decide ((aA t x.ab (IntKind.i64.wrap (x.leave - x.aD))).1.out≤IntKind.i64.wrap (x.out - x.leave)):=rfl
theorem ot (t:aH) (a:List aw) (x:aw):bI (st t a x)=bif decide (x.aD<x.leave) then decide (x.leave≤x.out) else false:=rfl
theorem pN (t:aH) (a:List aw) (x:aw):bP (st t a x)=bif decide (((a.length:Nat):Int)=0) then true else decide (t.rest≤IntKind.i64.wrap (x.aD -(a.g (a.length - 1)).out)):=rfl
theorem DG {l:List aw} {w:List UInt8} {n:Nat} (hn:n≤l.length) (hp:∀j,j<n→Ok (l.g j)):∀d∈mu w (l.take n),Ok d:=fun d hd=>by
 have hd:=(List.mem_filter.1 hd).1
 obtain ⟨j,hj,rfl⟩:=List.mem_iff_getElem.1 hd
 have PG:j<n:=by rw[List.length_take] at hj;omega
 have:=hp j PG
 rw[List.g,List.getD_eq_getElem?_getD,List.getElem?_eq_getElem (by omega)] at this
 rw[List.getElem_take];exact this
theorem ES (l:List aw) (w:List UInt8):(mu w l).length≤l.length:=List.length_filter_le _ _
theorem pO (t:aH) (ho:∀j,j<t.rows.length→0≤(t.rows.g j).out) {l:List aw} {n:Nat} (hl:l.length≤1000) (hn:n<l.length) (hp:∀j,j≤n→Ok (l.g j)):
 b7 (st t (mu (l.g n).worker (l.take n)) (l.g n))=cc t l (n:Int):=by
 have hx:=hp n (Nat.le_refl _)
 have MJ:∀j,j<n→Ok (l.g j):=fun j hj=>hp j (by omega)
 have lT:=DG (w:=(l.g n).worker) (by omega) MJ
 have hlen:=ES (l.take n) (l.g n).worker
 rw[List.length_take] at hlen
 unfold b7 cc
 rw[show Int.toNat (n:Int)=n from rfl,show Int.toNat ((n:Int)+1)=n+1 from rfl,Gc hl hn hx MJ,xg t hx lT (by omega),sG,yY,ot,pN]
 simp only
 by_cases a1:(l.g n).leave≤(l.g n).aD
 · rw[decide_eq_true a1,decide_eq_false (show ¬(l.g n).aD<(l.g n).leave by omega)];rfl
 rw[decide_eq_false a1,decide_eq_true (show (l.g n).aD<(l.g n).leave by omega)]
 by_cases a2:(l.g n).out<(l.g n).leave
 · rw[decide_eq_true a2,decide_eq_false (show ¬(l.g n).leave≤(l.g n).out by omega)];rfl
 rw[decide_eq_false a2,decide_eq_true (show (l.g n).leave≤(l.g n).out by omega)]
 rcases yX t (l.g n).ab (IntKind.i64.wrap ((l.g n).leave -(l.g n).aD)) ho with ⟨h1,h2⟩ | ⟨h1,h2,h3⟩
 · rw[h1,h2];rfl
 rw[h1,h2,decide_eq_false (show ¬bK t (l.g n).ab (IntKind.i64.wrap ((l.g n).leave -(l.g n).aD))<0 by omega)]
 by_cases a3:IntKind.i64.wrap ((l.g n).out -(l.g n).leave)<bK t (l.g n).ab (IntKind.i64.wrap ((l.g n).leave -(l.g n).aD))
 · rw[decide_eq_true a3,decide_eq_false (show ¬_ by omega)];rfl
 rw[decide_eq_false a3,decide_eq_true (show bK t (l.g n).ab (IntKind.i64.wrap ((l.g n).leave -(l.g n).aD))≤IntKind.i64.wrap ((l.g n).out -(l.g n).leave) by omega)]
 have day:decide (t.day<iM (l.g n) (mu (l.g n).worker (List.take n l))+rm (l.g n) (l.g n))= !decide (rm (l.g n) (l.g n)+iM (l.g n) (mu (l.g n).worker (List.take n l))≤t.day):=by
  rw[EN,Int.add_comm]
 rw[day]
 rcases Cj (w:=(l.g n).worker) (l:=l) (n:=n) (by omega) with ⟨b1,b2⟩ | ⟨b1,b2,b3⟩
 · rw[b1,b2]
   cases decide (rm (l.g n) (l.g n)+iM (l.g n) []≤t.day)<;>rfl
 · rw[decide_eq_true b2,b3,decide_eq_false (show ¬(((mu (l.g n).worker (List.take n l)).length:Nat):Int)=0 from fun e=>b1 (List.length_eq_zero_iff.1 (by omega)))]
   by_cases a4:IntKind.i64.wrap ((l.g n).aD -(l.g (Int.toNat (oB (l.g n).worker l n))).out)<t.rest
   · rw[decide_eq_true a4,decide_eq_false (show ¬_ by omega)];rfl
   · rw[decide_eq_false a4,decide_eq_true (show t.rest≤IntKind.i64.wrap ((l.g n).aD -(l.g (Int.toNat (oB (l.g n).worker l n))).out) by omega)]
     cases decide (rm (l.g n) (l.g n)+iM (l.g n) (mu (l.g n).worker (List.take n l))≤t.day)<;>rfl
structure lq (t:aH) (l:List aw):Prop where
 Qu:aI t=0
 len:l.length≤128
 ok:∀j,j<l.length→0≤(l.g j).aD∧(l.g j).aD≤100000∧0≤(l.g j).leave∧(l.g j).leave≤100000∧0≤(l.g j).out∧(l.g j).out≤100000
theorem Au {f:Nat→Int}:∀{k i:Nat},(fe (fun j=>er (f j)) k i).getD 0=0→∀j,i≤j→j<i+k→f j=0
 | 0,i,_,j,h1,h2=>by omega
 | k+1,i,h,j,h1,h2=>by
   rw[fe,er] at h
   by_cases q:f i=0
   · rw[decide_eq_true q] at h
     by_cases e:j=i
     · rw[e];exact q
     · exact Au (k:=k) (i:=i+1) h j (by omega) (by omega)
   · rw[decide_eq_false q] at h;exact absurd h q
theorem Av {a:List aw} {d:aw} (h:bw a d=0):0≤d.aD∧d.aD≤100000∧0≤d.leave∧d.leave≤100000∧0≤d.out∧d.out≤100000:=by
 unfold bw at h
 rw[eU,eU,eU,eU] at h
 cases q1:dK d.worker with
 | false=>rw[q1] at h;cases h
 | true=>
 cases q2:aZ d.ab with
 | false=>rw[q1,q2] at h;cases h
 | true=>
 cases q3:aZ d.aD with
 | false=>rw[q1,q2,q3] at h;cases h
 | true=>
 cases q4:aZ d.leave with
 | false=>rw[q1,q2,q3,q4] at h;cases h
 | true=>
 cases q5:aZ d.out with
 | false=>rw[q1,q2,q3,q4,q5] at h;cases h
 | true=>
 have a1:=nw q3;have a2:=nw q4;have a3:=nw q5
 exact ⟨a1.1,a1.2,a2.1,a2.2,a3.1,a3.2⟩
theorem lq.of {t:aH} {l:List aw} (h:bl t l=0):lq t l:=by
 have len:=kb h
 unfold bl at h
 rw[qF] at h
 by_cases q:aI t=0
 · rw[decide_eq_true q] at h
   refine ⟨q,len,fun j hj=>?_⟩
   unfold b8 at h
   rw[mH,decide_eq_false (show ¬(128:Int)<((l.length:Nat):Int) by omega)] at h
   have h2:(fe (fun j=>er (bw (l.take j) (l.g j))) l.length 0).getD 0=0:=by rw[←Jt];exact h
   exact Av (Au (f:=fun j=>bw (l.take j) (l.g j)) h2 j (by omega) (by omega))
 · rw[decide_eq_false q] at h;exact absurd h q
theorem lq.Ok {t:aH} {l:List aw} (s:lq t l):∀j,j<l.length→aW.Ok (l.g j):=fun j hj=>by
 have:=s.ok j hj
 exact ⟨by omega,by omega,by omega,by omega,by omega,by omega⟩
theorem sH {t:aH} {l:List aw} (s:lq t l):∀(k i:Nat) (v:List Int),i+k=l.length→fC t l k i v=cd t l k i v
 | 0,_,_,_=>rfl
 | k+1,i,v,h=>by
   rw[fC,cd,xe,sH s k (i+1) _ (by omega)]
   congr 3
   exact pO t (fun j hj=>(sE s.Qu j hj).1) (by have:=s.len;omega) (by omega) fun j hj=>s.Ok j (by omega)
theorem yZ (t:aH) (l:List aw):aC t l=aK t l:=by
 rw[pM]
 unfold aC
 by_cases h:bl t l=0
 · rw[decide_eq_true h]
   simp only[Bool.not_true,cond_false]
   rw[sH (lq.of h) _ 0 _ (by omega)]
 · rw[decide_eq_false h];rfl
noncomputable def sI:Code:=(Tryz.f22.body).getD .skip
theorem Ge:Tryz.f22.body=some sI:=by kernel_rfl
def aN (aD:Int) (worker:List UInt8) (ab:Int) (ae:Int) (row:bn):aw:=(⟨worker,ab,aD,(IntKind.i64.wrap (aD+ae)),(IntKind.i64.wrap ((IntKind.i64.wrap (aD+ae))+row.out))⟩:aw)
theorem tP {d:Nat} {h:aq} (aD:Int) (worker:List UInt8) (jQ:Nat) (ab:Int) (dB:Nat) (ae:Int) (ew:Nat) (row:bn) (xh:Nat) (cA:worker.length<2^60) (xj:h.get jQ=some (aP.cells [(AV.str worker)] 9 false)) (j7:h.get dB=some (aP.cells [(AV.int .i64 ab)] 3 false)) (lL:h.get ew=some (aP.cells [(AV.int .i64 ae)] 3 false)) (So:aG.ok h row) (Jz:h.get xh=some (.cells (aG.c row) 29 false)) (di:Tidy h):dH (d+1) (.fn 22) [(AV.int .i64 aD),(AV.ptr jQ 0),(AV.ptr dB 0),(AV.ptr ew 0),(AV.ptr xh 0)] h= .ret (AV.agg [(AV.str ((aN aD worker ab ae row).worker)),(AV.int .i64 ((aN aD worker ab ae row).ab)),(AV.int .i64 ((aN aD worker ab ae row).aD)),(AV.int .i64 ((aN aD worker ab ae row).leave)),(AV.int .i64 ((aN aD worker ab ae row).out))]) h:=by
 obtain ⟨h1,bJ,cK,lD,aO,dI⟩:=jA di (aP.cells [(AV.str []),(AV.int .i64 0),(AV.int .i64 0),(AV.int .i64 0),(AV.int .i64 0)] 34 false)
 have bR:Has h h1:=dI
 obtain ⟨h2,V1,rf,I6,ic,Sp⟩:=lC (t:=34) (n:=5) (i:=h.nx) (L:=[(AV.str worker),(AV.int .i64 ab),(AV.int .i64 aD),(AV.int .i64 (IntKind.i64.wrap (aD+ae))),(AV.int .i64 (IntKind.i64.wrap ((IntKind.i64.wrap (aD+ae))+row.out)))]) cK aO k! rfl rfl (by simp only[AV.cells,List.all_cons,List.all_nil,Bool.and_true,Bool.and_self,dL,cO,dM,dN,cu,fQ,fR,fS,fT,fU,dO])
 have lE:Has h h2:=Has.ca bR Sp di o!
 have ev:=pk (d) sI ((AV.int .i64 aD)::(AV.ptr jQ 0)::(AV.ptr dB 0)::(AV.ptr ew 0)::(AV.ptr xh 0)::cx 15) h .ret h2 (NN bJ (fun i=>(AV.ptr i 0))<|MM (au 9 0 (AV.str worker) (dI _ _ xj) k!)<|MM (au 3 0 (AV.int .i64 ab) (dI _ _ j7) k!)<|CN 2<|MM (au 3 0 (AV.int .i64 ae) (dI _ _ lL) k!)<|CN 2<|MM (au 3 0 (AV.int .i64 ae) (dI _ _ lL) k!)<|CN 2<|MM (au 3 2 (AV.int .i64 row.out) (dI _ _ Jz) k!)<|CN 2<|SS V1<|ZZ) k!
 have e:aN aD worker ab ae row=(⟨worker,ab,aD,(IntKind.i64.wrap (aD+ae)),(IntKind.i64.wrap ((IntKind.i64.wrap (aD+ae))+row.out))⟩:aw):=by simp only[aN,cond_true,cond_false]
 rw[e]
 exact ay rfl (B5 (a:=6) (t:=34) (i:=h.nx) Tryz.func22 Ge k! (.inr rfl) ev k! (hG ic k!)) lE rfl
noncomputable def sJ:Code:=(Tryz.f24.body).getD .skip
theorem Gg:Tryz.f24.body=some sJ:=by kernel_rfl
def bp (later:Int) (t:aH) (ahead:List aw) (ready:Int) (worker:List UInt8) (ab:Int) (ae:Int) (row:bn):Bool:=(decide ((b7 (⟨.aF,t.rows,t.rest,t.day,.aF,ahead,((aN (IntKind.i64.wrap (ready+later)) worker ab ae row).worker),((aN (IntKind.i64.wrap (ready+later)) worker ab ae row).ab),((aN (IntKind.i64.wrap (ready+later)) worker ab ae row).aD),((aN (IntKind.i64.wrap (ready+later)) worker ab ae row).leave),((aN (IntKind.i64.wrap (ready+later)) worker ab ae row).out)⟩:dV))=0))
theorem y7 {d:Nat} {h:aq} {aE:AV} (later:Int) (t:aH) (tB:Nat) (ahead:List aw) (DI:Nat) (PH:Nat) (ready:Int) (DJ:Nat) (worker:List UInt8) (jQ:Nat) (ab:Int) (dB:Nat) (ae:Int) (ew:Nat) (row:bn) (xh:Nat) (g6:aG.ok h t) (V2:h.get tB=some (.cells (aG.c t) 24 false)) (kp:bf h aE ahead) (Aw:h.get DI=some (aP.cells [aE] 25 false)) (Nn:h.get PH=some (aP.cells [(AV.func 22 [] [(AV.ptr jQ 0),(AV.ptr dB 0),(AV.ptr ew 0),(AV.ptr xh 0)])] 79 false)) (ET:h.get DJ=some (aP.cells [(AV.int .i64 ready)] 3 false)) (cA:worker.length<2^60) (xj:h.get jQ=some (aP.cells [(AV.str worker)] 9 false)) (j7:h.get dB=some (aP.cells [(AV.int .i64 ab)] 3 false)) (lL:h.get ew=some (aP.cells [(AV.int .i64 ae)] 3 false)) (So:aG.ok h row) (Jz:h.get xh=some (.cells (aG.c row) 29 false)) (di:Tidy h):dH (d+7) (.fn 24) [(AV.int .i64 later),(AV.ptr tB 0),(AV.ptr DI 0),(AV.ptr PH 0),(AV.ptr DJ 0)] h= .ret (AV.bool (bp later t ahead ready worker ab ae row)) h:=by
 have F5:=kp.small
 have k1:=tP (d:=d+5) (IntKind.i64.wrap (ready+later)) worker jQ ab dB ae ew row xh cA xj j7 lL trivial Jz di
 have Zm:aG.ok h (aN (IntKind.i64.wrap (ready+later)) worker ab ae row):=cA
 have Zn:sW env 82 [(0,(AV.agg [t.ar,(AV.int .i64 t.rest),(AV.int .i64 t.day)])),(1,aE),(2,(AV.agg [(AV.str ((aN (IntKind.i64.wrap (ready+later)) worker ab ae row).worker)),(AV.int .i64 ((aN (IntKind.i64.wrap (ready+later)) worker ab ae row).ab)),(AV.int .i64 ((aN (IntKind.i64.wrap (ready+later)) worker ab ae row).aD)),(AV.int .i64 ((aN (IntKind.i64.wrap (ready+later)) worker ab ae row).leave)),(AV.int .i64 ((aN (IntKind.i64.wrap (ready+later)) worker ab ae row).out))]))]=some (AV.agg [t.ar,(AV.int .i64 t.rest),(AV.int .i64 t.day),aE,(AV.str ((aN (IntKind.i64.wrap (ready+later)) worker ab ae row).worker)),(AV.int .i64 ((aN (IntKind.i64.wrap (ready+later)) worker ab ae row).ab)),(AV.int .i64 ((aN (IntKind.i64.wrap (ready+later)) worker ab ae row).aD)),(AV.int .i64 ((aN (IntKind.i64.wrap (ready+later)) worker ab ae row).leave)),(AV.int .i64 ((aN (IntKind.i64.wrap (ready+later)) worker ab ae row).out))]):=by rcases kp.known with e_ | e_ | ⟨_,_,_,_,_,e_,_⟩<;>rw[e_]<;>kernel_rfl
 have k4:(dH (d+6)) (.fn 25) [(AV.agg [t.ar,(AV.int .i64 t.rest),(AV.int .i64 t.day),aE,(AV.str ((aN (IntKind.i64.wrap (ready+later)) worker ab ae row).worker)),(AV.int .i64 ((aN (IntKind.i64.wrap (ready+later)) worker ab ae row).ab)),(AV.int .i64 ((aN (IntKind.i64.wrap (ready+later)) worker ab ae row).aD)),(AV.int .i64 ((aN (IntKind.i64.wrap (ready+later)) worker ab ae row).leave)),(AV.int .i64 ((aN (IntKind.i64.wrap (ready+later)) worker ab ae row).out))])] h= .ret (AV.int .u8 (b7 (⟨.aF,t.rows,t.rest,t.day,.aF,ahead,((aN (IntKind.i64.wrap (ready+later)) worker ab ae row).worker),((aN (IntKind.i64.wrap (ready+later)) worker ab ae row).ab),((aN (IntKind.i64.wrap (ready+later)) worker ab ae row).aD),((aN (IntKind.i64.wrap (ready+later)) worker ab ae row).leave),((aN (IntKind.i64.wrap (ready+later)) worker ab ae row).out)⟩:dV))) h:=by have q_:=yQ (d:=d) (⟨t.ar,t.rows,t.rest,t.day,aE,ahead,((aN (IntKind.i64.wrap (ready+later)) worker ab ae row).worker),((aN (IntKind.i64.wrap (ready+later)) worker ab ae row).ab),((aN (IntKind.i64.wrap (ready+later)) worker ab ae row).aD),((aN (IntKind.i64.wrap (ready+later)) worker ab ae row).leave),((aN (IntKind.i64.wrap (ready+later)) worker ab ae row).out)⟩:dV) ⟨g6,kp,Zm⟩ di;rw[yR] at q_;exact q_
 have c5:AV.same 20 (AV.agg [t.ar,(AV.int .i64 t.rest),(AV.int .i64 t.day)]) (AV.agg [t.ar,(AV.int .i64 t.rest),(AV.int .i64 t.day)])=true:=nq 18 (ve g6.same (ve (fun n=>aU n _ _) (ve (fun n=>aU n _ _) Qk)))
 have c6:AV.same 20 aE aE=true:=kp.same 19
 have c7:AV.same 20 (AV.func 22 [] [(AV.ptr jQ 0),(AV.ptr dB 0),(AV.ptr ew 0),(AV.ptr xh 0)]) (AV.func 22 [] [(AV.ptr jQ 0),(AV.ptr dB 0),(AV.ptr ew 0),(AV.ptr xh 0)])=true:=(by simp [AV.same,bG])
 have ev:=pk (d+6) sJ ((AV.int .i64 later)::(AV.ptr tB 0)::(AV.ptr DI 0)::(AV.ptr PH 0)::(AV.ptr DJ 0)::cx 12) h .ret h (CC<|MM (au 24 0 (AV.agg [t.ar,(AV.int .i64 t.rest),(AV.int .i64 t.day)]) V2 k!)<|MM (au 25 0 aE Aw k!)<|MM (au 79 0 (AV.func 22 [] [(AV.ptr jQ 0),(AV.ptr dB 0),(AV.ptr ew 0),(AV.ptr xh 0)]) Nn k!)<|MM (au 3 0 (AV.int .i64 ready) ET k!)<|CN 2<|EE k1<|QQ Zn<|EE k4<|VV (cM 40 false true .u8 (b7 (⟨.aF,t.rows,t.rest,t.day,.aF,ahead,((aN (IntKind.i64.wrap (ready+later)) worker ab ae row).worker),((aN (IntKind.i64.wrap (ready+later)) worker ab ae row).ab),((aN (IntKind.i64.wrap (ready+later)) worker ab ae row).aD),((aN (IntKind.i64.wrap (ready+later)) worker ab ae row).leave),((aN (IntKind.i64.wrap (ready+later)) worker ab ae row).out)⟩:dV)) 0)<|CC<|HH (au 24 0 (AV.agg [t.ar,(AV.int .i64 t.rest),(AV.int .i64 t.day)]) V2 k!)<|HH c5<|HH (au 24 0 (AV.agg [t.ar,(AV.int .i64 t.rest),(AV.int .i64 t.day)]) V2 k!)<|HH c5<|HH (au 25 0 aE Aw k!)<|HH c6<|HH (au 25 0 aE Aw k!)<|HH c6<|HH (au 79 0 (AV.func 22 [] [(AV.ptr jQ 0),(AV.ptr dB 0),(AV.ptr ew 0),(AV.ptr xh 0)]) Nn k!)<|HH c7<|HH (au 3 0 (AV.int .i64 ready) ET k!)<|HH (show AV.same 20 (AV.int .i64 ready) (AV.int .i64 ready)=true from aU 19 _ _)<|ZZ) k!
 have e:bp later t ahead ready worker ab ae row=(decide ((b7 (⟨.aF,t.rows,t.rest,t.day,.aF,ahead,((aN (IntKind.i64.wrap (ready+later)) worker ab ae row).worker),((aN (IntKind.i64.wrap (ready+later)) worker ab ae row).ab),((aN (IntKind.i64.wrap (ready+later)) worker ab ae row).aD),((aN (IntKind.i64.wrap (ready+later)) worker ab ae row).leave),((aN (IntKind.i64.wrap (ready+later)) worker ab ae row).out)⟩:dV))=0)):=by simp only[bp,cond_true,cond_false]
 rw[e]
 exact ay rfl (bb Tryz.func24 Gg k! (.inr rfl) ev k!) (Has.refl _) rfl
noncomputable def mW:Code:=(Tryz.f23.body).getD .skip
theorem DK:Tryz.f23.body=some mW:=by kernel_rfl
noncomputable def jR:Code:=(cP mW).getD 0 .skip
def eb (P:Int→Bool):Nat→Int→Int→Int
 | 0,cr,ch=>cr
 | dC+1,cr,ch=>(bif (decide (cr<ch)) then (bif (!(P (IntKind.i64.wrap (oJ (IntKind.u64.wrap (cr+ch)))))) then eb P dC ((IntKind.i64.wrap (oJ (IntKind.u64.wrap (cr+ch))))+1) ch else eb P dC cr (IntKind.i64.wrap (oJ (IntKind.u64.wrap (cr+ch))))) else cr)
theorem mX {d:Nat} {h:aq} (g:FuncId) (cap:List AV) (P:Int→Bool) (n:Int) (hP:∀y hh,Tidy hh→Has h hh→dH d (.fn g) (.int .i64 y::cap) hh= .ret (.bool (P y)) hh) (wQ:0≤n) (F9:n≤100001) (Sq:n≤100001):∀(k_:Nat) (cr:Int) (ch:Int) (_:(ch - cr≤(k_:Int))) (_:((0≤cr∧cr≤100001)∧(cr≤ch∧ch≤100001))) (x:Nat→AV) (hh:aq) (aX:Tidy hh) (a_:Has h hh),cb (dH (d)) jR ⟨((x 0)::(AV.func g [] cap)::rx x 2 3 ((AV.int .i64 cr)::(AV.int .i64 ch)::rx x 7 19 [])),hh,[],.no⟩ (.exit 0) hh (fun r y=>((y 0)::(AV.func g [] cap)::rx y 2 3 ((AV.int .i64 r)::rx y 6 20 []))) (fun r=>(0≤r∧r≤100001)) (eb P k_ cr ch)
 | 0,cr,ch,pB,Jm,x,hh,aX,a_=>by
   have q1:(decide (cr<ch))=false:=d!
   have ev:=pk (d) jR ((x 0)::(AV.func g [] cap)::rx x 2 3 ((AV.int .i64 cr)::(AV.int .i64 ch)::rx x 7 19 [])) hh (.exit 0) hh (CN 2<|VV (bz 3 false false .i64 cr ch)<|BB q1<|ZZ) k!
   exact cb.out cr rfl ev (b4.refl aX) (show (0≤cr∧cr≤100001) from by omega) k!
 | dC+1,cr,ch,pB,Jm,x,hh,aX,a_=>by
   rcases Bool.eq_false_or_eq_true (decide (cr<ch)) with f0 | f0
   · have dY:=of_decide_eq_true f0
     have Mb:=M8 (i:=cr) (j:=ch) o! o! o!
     obtain ⟨T7,T8,T9⟩:=Mb
     have w2:IntKind.i64.wrap (cr+ch)=cr+ch:=wrap_i64 o! o!
     have k3:=hP (IntKind.i64.wrap (oJ (IntKind.u64.wrap (cr+ch)))) hh aX a_
     rcases Bool.eq_false_or_eq_true (!(P (IntKind.i64.wrap (oJ (IntKind.u64.wrap (cr+ch)))))) with f1 | f1
     · have w5:IntKind.i64.wrap ((IntKind.i64.wrap (oJ (IntKind.u64.wrap (cr+ch))))+1)=(IntKind.i64.wrap (oJ (IntKind.u64.wrap (cr+ch))))+1:=wrap_i64 o! o!
       have ev:=pk (d) jR ((x 0)::(AV.func g [] cap)::rx x 2 3 ((AV.int .i64 cr)::(AV.int .i64 ch)::rx x 7 19 [])) hh .normal hh (CN 2<|VV (bz 3 false false .i64 cr ch)<|BB f0<|CN 2<|VV (zM 3 false false w2)<|CN 6<|EE k3<|CC<|BB f1<|CC<|VV (zM 3 false true w5)<|CC<|ZZ) k!
       exact cb.round (by simp only[eb,f0,f1,cond_true,cond_false]) ev (b4.refl aX) (fun x=>((x 0)::(AV.func g [] cap)::rx x 2 3 ((AV.int .i64 ((IntKind.i64.wrap (oJ (IntKind.u64.wrap (cr+ch))))+1))::(AV.int .i64 ch)::rx x 7 19 []))) k! (fun x=>mX g cap P n hP wQ F9 Sq dC ((IntKind.i64.wrap (oJ (IntKind.u64.wrap (cr+ch))))+1) ch o! (show ((0≤((IntKind.i64.wrap (oJ (IntKind.u64.wrap (cr+ch))))+1)∧((IntKind.i64.wrap (oJ (IntKind.u64.wrap (cr+ch))))+1)≤100001)∧(((IntKind.i64.wrap (oJ (IntKind.u64.wrap (cr+ch))))+1)≤ch∧ch≤100001)) from by omega) x hh aX a_)
     · have ev:=pk (d) jR ((x 0)::(AV.func g [] cap)::rx x 2 3 ((AV.int .i64 cr)::(AV.int .i64 ch)::rx x 7 19 [])) hh .normal hh (CN 2<|VV (bz 3 false false .i64 cr ch)<|BB f0<|CN 2<|VV (zM 3 false false w2)<|CN 6<|EE k3<|CC<|BB f1<|CN 2<|ZZ) k!
       exact cb.round (by simp only[eb,f0,f1,cond_true,cond_false]) ev (b4.refl aX) (fun x=>((x 0)::(AV.func g [] cap)::rx x 2 3 ((AV.int .i64 cr)::(AV.int .i64 (IntKind.i64.wrap (oJ (IntKind.u64.wrap (cr+ch)))))::rx x 7 19 []))) k! (fun x=>mX g cap P n hP wQ F9 Sq dC cr (IntKind.i64.wrap (oJ (IntKind.u64.wrap (cr+ch)))) o! (show ((0≤cr∧cr≤100001)∧(cr≤(IntKind.i64.wrap (oJ (IntKind.u64.wrap (cr+ch))))∧(IntKind.i64.wrap (oJ (IntKind.u64.wrap (cr+ch))))≤100001)) from by omega) x hh aX a_)
   · have dY:=of_decide_eq_false f0
     have ev:=pk (d) jR ((x 0)::(AV.func g [] cap)::rx x 2 3 ((AV.int .i64 cr)::(AV.int .i64 ch)::rx x 7 19 [])) hh (.exit 0) hh (CN 2<|VV (bz 3 false false .i64 cr ch)<|BB f0<|ZZ) k!
     exact cb.out cr (by simp only[eb,f0,cond_true,cond_false]) ev (b4.refl aX) (show (0≤cr∧cr≤100001) from by omega) k!
def bj (n:Int) (P:Int→Bool):Int:=(eb P (Int.toNat (n - 0)) 0 n)
theorem xk {d:Nat} {h:aq} {g:FuncId} {cap:List AV} (n:Int) (P:Int→Bool) (hP:∀y hh,Tidy hh→Has h hh→dH d (.fn g) (.int .i64 y::cap) hh= .ret (.bool (P y)) hh) (Sa:0≤n) (VO:n≤100001) (di:Tidy h):dH (d+1) (.fn 23) [(AV.int .i64 n),(AV.func g [] cap)] h= .ret (AV.int .i64 (bj n P)) h:=by
 obtain ⟨Z',h2,PI,PJ,T_⟩:=mX (d:=d) (h:=h) g cap P n hP o! o! o! (Int.toNat (n - 0)) 0 n o! (show ((0≤0∧0≤100001)∧(0≤n∧n≤100001)) from by omega) (fun k_=>(((AV.int .i64 n)::(AV.func g [] cap)::AV.undef::AV.undef::(AV.int .i64 0)::(AV.int .i64 0)::(AV.int .i64 n)::AV.undef::(AV.int .i64 n)::cx 17):List AV).getD k_ AV.undef) h di (Has.refl _)
 have rf:=PJ.y
 have Zo:h.nx≤h2.nx:=PJ.n
 have lE:Has h h2:=PJ.a
 have ev:=pk (d) mW ((AV.int .i64 n)::(AV.func g [] cap)::cx 24) h .ret h2 (CN 4<|LL PI<|CN 2<|ZZ) k!
 have e:bj n P=(eb P (Int.toNat (n - 0)) 0 n):=by simp only[bj,cond_true,cond_false]
 rw[e]
 exact ay rfl (bb Tryz.func23 DK k! (.inr rfl) ev k!) lE rfl
end Go.Proofs.aW
