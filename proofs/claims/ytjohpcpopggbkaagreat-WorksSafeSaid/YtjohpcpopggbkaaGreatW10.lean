import Derived.Test.YtjohpcpopggbkaaGreatW8
import Derived.Test.YtjohpcpopggbkaaGreatW9
import Derived.Test.YtjohpcpopggbkaaGreatW0
import Derived.Test.YtjohpcpopggbkaaGreatA7
namespace Go.Proofs.aW
open Go.Proofs Ab
set_option maxRecDepth 100000
set_option maxHeartbeats 4000000
set_option linter.unusedVariables false
set_option linter.unusedSimpArgs false
theorem Cq {w:List UInt8} {p m i:Int} {row:bn} (hi:0≤i) (T2:i≤1000000) (hm:0≤m) (NM:m≤1000000) (hn:0≤row.out) (Qc:row.out≤1000000):aN i w p m row=X w p m row.out i:=by
 unfold aN X
 rw[wrap_i64 (show -9223372036854775808≤i+m by omega) (by omega),wrap_i64 (by omega) (by omega)]
theorem qG (t:aH) (l:List aw):∀(k i:Nat) (v:List Int),cd t l k i v=v++(List.range' i k).map fun j:Nat=>cc t l (j:Int)
 | 0,i,v=>(List.append_nil _).symm
 | k+1,i,v=>by
   rw[cd,qG t l k (i+1),List.range'_succ,List.map_cons,List.append_assoc];rfl
theorem ze {t:aH} {l:List aw} (h:(aK t l).2=0):bl t l=0∧(aK t l).1=(List.range' 0 l.length).map fun j:Nat=>cc t l (j:Int):=by
 rw[pM] at h ⊢
 by_cases q:bl t l=0
 · rw[decide_eq_true q]
   exact ⟨q,qG t l _ _ _⟩
 · rw[decide_eq_false q] at h;exact absurd h q
theorem sR (t:aH) (a:List aw) {b m y:Int} {w:List UInt8} {p:Int} {row:bn} (hb:0≤b) (Tj:b≤100000) (hy:0≤y) (WV:y≤100001) (hm:0≤m) (NM:m≤100000) (hn:0≤row.out) (Qc:row.out≤100000):
 bp y t a b w p m row=decide (b7 (st t a (X w p m row.out (b+y)))=0):=by
 unfold bp
 rw[wrap_i64 (by omega) (by omega),Cq (by omega) (by omega) (by omega) (by omega) hn (by omega)]
 rfl
theorem zf (a:List Int):∀(k i:Nat),
 (∃n:Nat,dh a (fun y=>eD y) k i=some (n:Int))∨(dh a (fun y=>eD y) k i=none∧∀j,i≤j→j<i+k→a.g j=0)
 | 0,i=> .inr ⟨rfl,fun j h1 h2=>by omega⟩
 | k+1,i=>by
   rw[dh,eD]
   by_cases q:a.g i=0
   · rw[decide_eq_true q]
     rcases zf a k (i+1) with h | ⟨h1,h3⟩
     · exact .inl h
     · refine .inr ⟨h1,fun j x y=>?_⟩
       by_cases e:j=i
       · rw[e];exact q
       · exact h3 j (by omega) (by omega)
   · rw[decide_eq_false q];exact .inl ⟨i,rfl⟩
theorem AB {t:aH} {l:List aw} {j:Nat} (hj:j<l.length):((List.range' 0 l.length).map fun j:Nat=>cc t l (j:Int)).g j=cc t l (j:Int):=by
 rw[List.g,List.getD_eq_getElem?_getD,List.getElem?_map,List.getElem?_range' (by omega)]
 simp
structure Good (t:aH) (l:List aw) (w:List UInt8) (p m r b k n:Int):Prop where
 s:lq t l
 cs:bl t l=0
 nf:∀j,j<l.length→cc t l (j:Int)=0
 name:dK w=true
 p0:aZ p=true
 m0:0<m
 m1:m≤100000
 r0:0≤r
 n0:0≤n
 b0:0≤b
 rb:r≤b
 k0:0≤k
 fit:b+k+m+n≤100000
 Tk:l.length=0→b=r
 N0:0<l.length→(l.g (l.length - 1)).aD≤b∧(b=r∨b=(l.g (l.length - 1)).aD)
 here:b7 (st t (mu w l) (X w p m n (b+k)))=0
 ahead:0<k→b7 (st t (mu w l) (X w p m n (b+k - 1)))≠0
theorem rest {t:aH} {l:List aw} {w:List UInt8} {p m b:Int} {row:bn} (s:lq t l) (nf:∀j,j<l.length→cc t l (j:Int)=0) (h0:0≤row.out) (h1:row.out≤100000) (hb:0≤b) (Tj:b≤100000) (hm:0<m) (NM:m≤100000):
 (bif bq ((aN (IntKind.i64.wrap (b+(bj 100001 (fun y=>bp y t (aR l w) b w p m row)))) w p m row).out) then ((aN (IntKind.i64.wrap (b+(bj 100001 (fun y=>bp y t (aR l w) b w p m row)))) w p m row),(0:Int)) else ((⟨[],0,0,0,0⟩:aw),9))=(⟨[],0,0,0,0⟩,9)∨
 ∃k,0≤k∧b+k+m+row.out≤100000∧b7 (st t (mu w l) (X w p m row.out (b+k)))=0∧(0<k→b7 (st t (mu w l) (X w p m row.out (b+k - 1)))≠0)∧
  (bif bq ((aN (IntKind.i64.wrap (b+(bj 100001 (fun y=>bp y t (aR l w) b w p m row)))) w p m row).out) then ((aN (IntKind.i64.wrap (b+(bj 100001 (fun y=>bp y t (aR l w) b w p m row)))) w p m row),(0:Int)) else ((⟨[],0,0,0,0⟩:aw),9))=(X w p m row.out (b+k),0):=by
 have len:=s.len
 have tb:=oA s.Qu
 rw[xe]
 have hA:∀d∈mu w l,Ok d:=by
  have:=DG (w:=w) (l:=l) (n:=l.length) (Nat.le_refl _) s.Ok
  rwa [List.take_length] at this
 have hlen:(mu w l).length≤1000:=by have:=ES l w;omega
 have hc:=chain s tb.2.1 nf w l.length (Nat.le_refl _)
 rw[List.take_length] at hc
 have mono:∀y z,0≤y→y≤z→z<100001→bp y t (mu w l) b w p m row=true→bp z t (mu w l) b w p m row=true:=fun y z y0 yz zN h=>by
  rw[sR t (mu w l) hb Tj y0 (by omega) (by omega) NM (by omega) (by omega)] at h
  rw[sR t (mu w l) hb Tj (by omega) (by omega) (by omega) NM (by omega) (by omega)]
  exact decide_eq_true (later tb.2.1 hA hlen hc hm NM (by omega) (by omega) (by omega) (show b+y≤b+z by omega) (by omega) (of_decide_eq_true h))
 have L:=Gr (P:=fun y=>bp y t (mu w l) b w p m row) (N:=100001) (by omega) (by omega) mono
 generalize bj 100001 (fun y=>bp y t (mu w l) b w p m row)=r at L
 obtain ⟨r0,rN,lo,hi⟩:=L
 rw[wrap_i64 (by omega) (by omega),Cq (by omega) (by omega) (by omega) (by omega) (by omega) (by omega)]
 show (bif (bif decide (0≤b+r+m+row.out) then decide (b+r+m+row.out≤100000) else false) then _ else _)=_∨∃k,_∧_∧_∧_∧(bif (bif decide (0≤b+r+m+row.out) then decide (b+r+m+row.out≤100000) else false) then _ else _)=_
 rw[decide_eq_true (show 0≤b+r+m+row.out by omega)]
 simp only[cond_true]
 by_cases q:b+r+m+row.out≤100000
 · rw[decide_eq_true q]
   refine .inr ⟨r,r0,q,?_,fun hk=>?_,rfl⟩
   · have:=hi r (Int.le_refl _) (by omega)
     rw[sR t (mu w l) hb Tj (by omega) (by omega) (by omega) NM (by omega) (by omega)] at this
     exact of_decide_eq_true this
   · have:=lo (r - 1) (by omega) (by omega)
     rw[sR t (mu w l) hb Tj (by omega) (by omega) (by omega) NM (by omega) (by omega),show b+(r - 1)=b+r - 1 by omega] at this
     exact of_decide_eq_false this
 · rw[decide_eq_false q];exact .inl rfl
theorem GC (t:aH) (l:List aw) (w:List UInt8) (p m r:Int):((af t l w p m r).2≠0∧(af t l w p m r).1=⟨[],0,0,0,0⟩)∨∃b k n,Good t l w p m r b k n∧af t l w p m r=(X w p m n (b+k),0):=by
 unfold af bx
 rw[yZ,eU,eU,eU]
 by_cases e:(aK t l).2=0
 · rw[decide_eq_true e]
   simp only[Bool.not_true,cond_false]
   obtain ⟨cs,fl⟩:=ze e
   have s:=lq.of cs
   unfold fj eE
   rcases zf (aK t l).1 (aK t l).1.length 0 with ⟨n,h1⟩ | ⟨h1,h3⟩
   · rw[h1]
     simp only
     rw[decide_eq_true (show 0≤(n:Int) by omega)]
     exact .inl ⟨(by show (8:Int)≠0;decide),rfl⟩
   · rw[h1]
     simp only
     rw[show decide ((0:Int)≤-1)=false from rfl]
     simp only[cond_false]
     have nf:∀j,j<l.length→cc t l (j:Int)=0:=fun j hj=>by
      have:=h3 j (by omega) (by rw[fl,List.length_map,List.length_range'];omega)
      rwa [fl,AB hj] at this
     cases q1:dK w with
     | false=>exact .inl ⟨(by show (5:Int)≠0;decide),rfl⟩
     | true=>
     cases q2:aZ p with
     | false=>exact .inl ⟨(by show (1:Int)≠0;decide),rfl⟩
     | true=>
     cases q3:aZ m with
     | false=>exact .inl ⟨(by show (1:Int)≠0;decide),rfl⟩
     | true=>
     cases q4:aZ r with
     | false=>exact .inl ⟨(by show (1:Int)≠0;decide),rfl⟩
     | true=>
     have b2:=nw q3
     have b3:=nw q4
     by_cases z:m=0
     · rw[decide_eq_true z];exact .inl ⟨(by show (1:Int)≠0;decide),rfl⟩
     rw[decide_eq_false z]
     simp only[Bool.not_true,cond_false,show decide ((0:Int)=0)=true from rfl]
     have ho:=sE s.Qu
     have wb:=DF p m ho
     rcases yX t p m (fun j hj=>(ho j hj).1) with ⟨c1,c2⟩ | ⟨c1,c2,c3⟩
     · rw[c1];exact .inl ⟨(by show (7:Int)≠0;decide),rfl⟩
     rw[c1]
     simp only[Bool.not_true,cond_false]
     by_cases hl:0<((l.length:Nat):Int)
     · rw[decide_eq_true hl]
       simp only[cond_true]
       have li:=s.ok (l.length - 1) (by omega)
       have mx:=PD r (l.g (l.length - 1)).aD
       rcases rest (w:=w) (p:=p) s nf (by omega:0≤(aA t p m).1.out) (by omega) (show 0≤imax r (l.g (l.length - 1)).aD by omega) (by omega) (show 0<m by omega) b2.2 with h | ⟨k,h1,h2,h3,h4,h5⟩
       · rw[h];exact .inl ⟨(by show (9:Int)≠0;decide),rfl⟩
       · rw[h5]
         exact .inr ⟨_,k,_,⟨s,cs,nf,q1,q2,by omega,b2.2,b3.1,by omega,by omega,by omega,h1,h2,fun h=>by omega,fun _=>⟨by omega,by omega⟩,h3,h4⟩,rfl⟩
     · rw[decide_eq_false hl]
       simp only[cond_false]
       rcases rest (w:=w) (p:=p) s nf (by omega:0≤(aA t p m).1.out) (by omega) b3.1 b3.2 (show 0<m by omega) b2.2 with h | ⟨k,h1,h2,h3,h4,h5⟩
       · rw[h];exact .inl ⟨(by show (9:Int)≠0;decide),rfl⟩
       · rw[h5]
         exact .inr ⟨_,k,_,⟨s,cs,nf,q1,q2,by omega,b2.2,b3.1,by omega,b3.1,by omega,h1,h2,fun _=>rfl,fun h=>by omega,h3,h4⟩,rfl⟩
 · rw[decide_eq_false e]
   simp only[Bool.not_false,cond_true]
   rw[decide_eq_false e]
   exact .inl ⟨e,rfl⟩
section
variable {t:aH} {l:List aw} {w:List UInt8} {p m r b k n:Int}
theorem J4 {x:aw} {j:Nat} (hj:j<l.length):(l++[x]).g j=l.g j:=by
 rw[List.g,List.g,List.getD_eq_getElem?_getD,List.getD_eq_getElem?_getD,List.getElem?_append_left hj]
theorem J5 (l:List aw) (x:aw):(l++[x]).g l.length=x:=by
 rw[List.g,List.getD_eq_getElem?_getD,List.getElem?_append_right (Nat.le_refl _),Nat.sub_self];rfl
theorem take_left {x:aw} {j:Nat} (hj:j≤l.length):(l++[x]).take j=l.take j:=List.take_append_of_le_length hj
theorem oC {x:aw} (h:bl t l=0) (hl:l.length<128) (hx:bw l x=0):bl t (l++[x])=0:=by
 unfold bl at h ⊢
 by_cases q:br t=0
 · rw[decide_eq_true q] at h ⊢
   simp only[Bool.not_true,cond_false] at h ⊢
   unfold b8 at h ⊢
   rw[decide_eq_false (show ¬(128:Int)<((l.length:Nat):Int) by omega)] at h
   rw[decide_eq_false (show ¬(128:Int)<(((l++[x]).length:Nat):Int) by rw[List.length_append,List.length_singleton];omega)]
   simp only[cond_false] at h ⊢
   rw[mH] at h ⊢
   have h2:(fe (fun j=>er (bw (l.take j) (l.g j))) l.length 0).getD 0=0:=by rw[←Jt];exact h
   have h3:=Au (f:=fun j=>bw (l.take j) (l.g j)) h2
   have Mo:∀{f:Nat→Int} (k i:Nat),(∀j,i≤j→j<i+k→f j=0)→fe (fun j=>er (f j)) k i=none:=by
    intro f k
    induction k with
    | zero=>intro i _;rfl
    | succ k ih=>
      intro i hf
      rw[fe,er,hf i (Nat.le_refl _) (by omega)]
      exact ih (i+1) fun j a c=>hf j (by omega) (by omega)
   rw[Mo (f:=fun j=>bw (List.take j (l++[x])) ((l++[x]).g j)) _ 0 fun j _ hj=>by
    rw[List.length_append,List.length_singleton] at hj
    by_cases e:j=l.length
    · rw[e,J5,take_left (Nat.le_refl _),List.take_length];exact hx
    · rw[J4 (by omega),take_left (by omega)];exact h3 j (by omega) (by omega)]
 · rw[decide_eq_false q] at h;exact absurd h q
theorem uG {l:List aw} (h:bl t l=0):(aK t l).2=0∧(aK t l).1=(List.range' 0 l.length).map fun j:Nat=>cc t l (j:Int):=by
 have e:(aK t l).2=0:=by
  rw[pM,decide_eq_true h];rfl
 exact ⟨e,(ze e).2⟩
theorem AD {x:aw} (s:lq t l) (s2:lq t (l++[x])) {j:Nat} (hj:j<l.length):cc t (l++[x]) (j:Int)=cc t l (j:Int):=by
 have ho:=fun j hj=>(sE s.Qu j hj).1
 rw[←pO t ho (by have:=s2.len;omega) (show j<(l++[x]).length by rw[List.length_append];omega) fun i hi=>s2.Ok i (by rw[List.length_append];omega)]
 rw[←pO t ho (by have:=s.len;omega) hj fun i hi=>s.Ok i (by omega)]
 rw[J4 hj,take_left (by omega)]
theorem xp {x:aw} (s:lq t l) (s2:lq t (l++[x])):cc t (l++[x]) (l.length:Int)=b7 (st t (mu x.worker l) x):=by
 have ho:=fun j hj=>(sE s.Qu j hj).1
 rw[←pO t ho (by have:=s2.len;omega) (show l.length<(l++[x]).length by rw[List.length_append,List.length_singleton];omega) fun i hi=>s2.Ok i (by rw[List.length_append,List.length_singleton];omega)]
 rw[J5,take_left (Nat.le_refl _),List.take_length]
theorem uH (g:Good t l w p m r b k n) {v:Int} (hv:b≤v) (hf:v+m+n≤100000):bw l (X w p m n v)=0:=by
 have b0:=g.b0;have m0:=g.m0;have n0:=g.n0
 have T:∀{z:Int},0≤z→z≤100000→aZ z=true:=fun h1 h2=>by unfold aZ;rw[decide_eq_true h1,decide_eq_true h2];rfl
 unfold bw
 rw[eU,eU,eU,eU]
 rw[show (X w p m n v).worker=w from rfl,show (X w p m n v).ab=p from rfl,show (X w p m n v).aD=v from rfl,show (X w p m n v).leave=v+m from rfl,show (X w p m n v).out=v+m+n from rfl,g.name,g.p0,T (show 0≤v by omega) (by omega),T (show 0≤v+m by omega) (by omega),T (show 0≤v+m+n by omega) hf]
 simp only[Bool.not_true,cond_false]
 by_cases hl:0<((l.length:Nat):Int)
 · rw[decide_eq_true hl,decide_eq_false (show ¬v<(l.g (l.length - 1)).aD by have:=(g.N0 (by omega)).1;omega)];rfl
 · rw[decide_eq_false hl];rfl
theorem J6 (l:List aw) (x y:aw):(l++[x]).set l.length y=l++[y]:=by
 rw[List.set_append_right _ _ (Nat.le_refl _),Nat.sub_self];rfl
end
theorem zg (s:List bn) (P:bn→Bool):∀(k i:Nat) (r:Int),b5 s P k i=some r→∃n:Nat,r=(n:Int)∧i≤n∧n<i+k∧P (s.g n)=true∧∀j,i≤j→j<n→P (s.g j)=false
 | 0,_,_,h=>by cases h
 | k+1,i,r,h=>by
   rw[b5] at h
   cases hp:P (s.g i) with
   | true=>rw[hp] at h;exact ⟨i,(Option.some.inj h).symm,Nat.le_refl _,by omega,hp,fun j a b=>by omega⟩
   | false=>
     rw[hp] at h
     obtain ⟨n,h1,h2,h3,h4,h5⟩:=zg s P k (i+1) r h
     refine ⟨n,h1,by omega,by omega,h4,fun j a b=>?_⟩
     by_cases e:j=i
     · rw[e];exact hp
     · exact h5 j (by omega) b
theorem sS {t:aH} {p m:Int} (h:(aA t p m).2=true):∃n:Nat,n<t.rows.length∧(aA t p m).1=t.rows.g n∧bM (t.rows.g n) p m=true∧∀j,j<n→bM (t.rows.g j) p m=false:=by
 unfold aA bW at h ⊢
 cases q:b5 t.rows (fun y=>bM y p m) t.rows.length 0 with
 | none=>rw[q] at h;cases h
 | some r=>
   obtain ⟨n,rfl,h2,h3,h4,h5⟩:=zg _ _ _ _ _ q
   refine ⟨n,by omega,?_,h4,fun j hj=>h5 j (by omega) hj⟩
   simp only
   rw[decide_eq_false (show ¬(n:Int)<0 by omega)];rfl
theorem xq {t:aH}:∀(k:Nat) (v:Bool) (i:Int),1≤i→((t.rows.length:Nat):Int) - i≤(k:Int)→aJ t k v i=false→v=false∧∀j:Nat,i≤(j:Int)→j<t.rows.length→(t.rows.g (j - 1)).out≤(t.rows.g j).out
 | 0,v,i,h1,h2,h=>⟨h,fun j a b=>by omega⟩
 | k+1,v,i,h1,h2,h=>by
   rw[aJ] at h
   by_cases q:i<((t.rows.length:Nat):Int)
   · rw[decide_eq_true q] at h
     cases v with
     | true=>have:=(xq k _ (i+1) (by omega) (by omega) h).1;cases this
     | false=>
       obtain ⟨a,c⟩:=xq k _ (i+1) (by omega) (by omega) h
       have a:=of_decide_eq_false a
       refine ⟨rfl,fun j x y=>?_⟩
       by_cases e:(j:Int)=i
       · rw[show Int.toNat i=j by omega,show Int.toNat (i - 1)=j - 1 by omega] at a
         omega
       · exact c j (by omega) y
   · rw[decide_eq_false q] at h
     exact ⟨h,fun j a c=>by omega⟩
theorem zh {t:aH} (h:∀j:Nat,(1:Int)≤(j:Int)→j<t.rows.length→(t.rows.g (j - 1)).out≤(t.rows.g j).out):∀(a c:Nat),a≤c→c<t.rows.length→(t.rows.g a).out≤(t.rows.g c).out
 | a,0,h1,h2=>by rw[show a=0 by omega];omega
 | a,c+1,h1,h2=>by
   by_cases e:a=c+1
   · rw[e];omega
   · have:=zh h a c (by omega) (by omega)
     have:=h (c+1) (by omega) h2
     rw[show c+1 - 1=c from rfl] at this
     omega
theorem Mp (t:aH) (p m:Int):(bif (decide (((ag t p m).2)=0)) then (bif (decide (((ag t p (IntKind.i64.wrap (m - 1))).2)=0)) then (bif (!(aJ t (Int.toNat (((t.rows.length:Nat):Int) - 1)) false 1)) then (decide (((ag t p m).1)<((ag t p (IntKind.i64.wrap (m - 1))).1))) else false) else false) else false)=false:=by
 have form:∀m,(ag t p m).2=0→bq m=true∧(aA t p m).2=true∧(ag t p m).1=(aA t p m).1.out:=fun m h=>by
  unfold ag at h ⊢
  by_cases q:br t=0
  · rw[decide_eq_true q] at h ⊢
    cases q1:bq p with
    | false=>rw[q1] at h;cases h
    | true=>
      cases q2:bq m with
      | false=>rw[q1,q2] at h;cases h
      | true=>
        cases q3:(aA t p m).2 with
        | false=>rw[q1,q2,q3] at h;cases h
        | true=>exact ⟨rfl,rfl,rfl⟩
  · rw[decide_eq_false q] at h;exact absurd h q
 by_cases h1:(ag t p m).2=0
 · rw[decide_eq_true h1]
   by_cases h2:(ag t p (IntKind.i64.wrap (m - 1))).2=0
   · rw[decide_eq_true h2]
     cases h3:aJ t (Int.toNat (((t.rows.length:Nat):Int) - 1)) false 1 with
     | true=>rfl
     | false=>
       obtain ⟨a1,a2,a3⟩:=form _ h1
       have tm:=nw (show aZ m=true from a1)
       rw[wrap_i64 (show -9223372036854775808≤m - 1 by omega) (by omega)] at h2 ⊢
       obtain ⟨b1,b2,b3⟩:=form _ h2
       obtain ⟨i,i1,i2,i3,i4⟩:=sS a2
       obtain ⟨j,j1,j2,j3,j4⟩:=sS b2
       have mono:=(xq _ _ _ (by omega) (by omega) h3).2
       have MI:j≤i:=by
        rcases Nat.lt_or_ge i j with c | c
        · have:=j4 i c
          unfold bM at this i3
          by_cases u:p≤(t.rows.g i).ab
          · rw[decide_eq_true u] at this i3
            have v:=of_decide_eq_true i3
            have:=of_decide_eq_false this
            omega
          · rw[decide_eq_false u] at i3;cases i3
        · exact c
       have:=zh mono j i MI i1
       simp only[Bool.not_false,cond_true]
       rw[a3,b3,i2,j2]
       exact decide_eq_false (by omega)
   · rw[decide_eq_false h2];rfl
 · rw[decide_eq_false h1];rfl
theorem E3 {t:aH} {l:List aw} {w:List UInt8} {p m r:Int} {a:List aw} (ha:(([]:List aw)++l)++[(af t l w p m r).1]=a) (h:∀j,j<a.length→(aK t a).1.g j=0):∀k i,i+k≤a.length→ef t l w p m r k i=none
 | 0,_,_=>rfl
 | k+1,i,hi=>by
   rw[ef,ha,h i (by omega)]
   exact E3 ha h k (i+1) (by omega)
theorem xr (t:aH) (l:List aw) (w:List UInt8) (p m r:Int):bL t l w p m r=true:=by
 unfold bL
 rw[Mp]
 cases h0:(bif iF t l then true else bif decide (100<((List.length w:Nat):Int)) then true else decide (128≤((l.length:Nat):Int))) with
 | true=>rfl
 | false=>
 have hl:=xn h0
 simp only[cond_false]
 rcases GC t l w p m r with ⟨h1,h2⟩ | ⟨b,k,n,g,hN⟩
 · rw[decide_eq_false h1,h2];rfl
 · have b0:=g.b0;have m0:=g.m0;have n0:=g.n0;have k0:=g.k0;have fit:=g.fit;have m1:=g.m1;have rb:=g.rb
   have cs:=oC g.cs hl (uH g (v:=b+k) (by omega) (by omega))
   have s2:=lq.of cs
   obtain ⟨z1,z2⟩:=uG cs
   have ll:(l++[X w p m n (b+k)]).length=l.length+1:=by rw[List.length_append,List.length_singleton]
   have zero:∀j,j<(l++[X w p m n (b+k)]).length→(aK t (l++[X w p m n (b+k)])).1.g j=0:=fun j hj=>by
    rw[z2,AB hj]
    by_cases e:j=l.length
    · rw[e,xp g.s s2];exact g.here
    · rw[AD g.s s2 (by omega)];exact g.nf j (by omega)
   have e1:(([]:List aw)++l)++[(af t l w p m r).1]=l++[X w p m n (b+k)]:=by rw[hN,List.nil_append]
   have lz:((aK t (l++[X w p m n (b+k)])).1.length)=(l++[X w p m n (b+k)]).length:=by rw[z2,List.length_map,List.length_range']
   rw[e1,E3 e1 zero _ 0 (by omega),z1,hN]
   rw[show (X w p m n (b+k)).worker=w from rfl,show (X w p m n (b+k)).ab=p from rfl,show (X w p m n (b+k)).aD=b+k from rfl,show (X w p m n (b+k)).leave=b+k+m from rfl,show (X w p m n (b+k)).out=b+k+m+n from rfl]
   rw[show IntKind.i64.wrap (b+k+m -(b+k))=m by rw[wrap_i64 (by omega) (by omega)];omega]
   rw[decide_eq_true (rfl:w=w),decide_eq_true (rfl:p=p),decide_eq_true (rfl:m=m),decide_eq_false (show ¬b+k<r by omega)]
   simp only[show decide ((0:Int)=0)=true from rfl,Bool.not_true,cond_false]
   by_cases q:r<b+k
   · rw[decide_eq_true q]
     simp only[cond_true]
     rw[wrap_i64 (show -9223372036854775808≤b+k - 1 by omega) (by omega),wrap_i64 (show -9223372036854775808≤b+k+m - 1 by omega) (by omega),wrap_i64 (show -9223372036854775808≤b+k+m+n - 1 by omega) (by omega)]
     rw[show (⟨w,p,b+k - 1,b+k+m - 1,b+k+m+n - 1⟩:aw)=X w p m n (b+k - 1) by unfold X;congr 1<;>omega]
     rw[J6,yZ]
     have fin:0<k→(bif (bif (!decide ((aK t (l++[X w p m n (b+k - 1)])).2=0)) then true else (bif (decide ((((aK t (l++[X w p m n (b+k - 1)])).1.length:Nat):Int)≤((l.length:Nat):Int))) then true else (decide ((aK t (l++[X w p m n (b+k - 1)])).1.g l.length=0)))) then false else true)=true:=fun hk=>by
      have XZ:=oC g.cs hl (uH g (v:=b+k - 1) (by omega) (by omega))
      have s3:=lq.of XZ
      obtain ⟨y1,y2⟩:=uG XZ
      have l3:(l++[X w p m n (b+k - 1)]).length=l.length+1:=by rw[List.length_append,List.length_singleton]
      rw[y1,y2,List.length_map,List.length_range',AB (by omega),xp g.s s3,show (X w p m n (b+k - 1)).worker=w from rfl]
      rw[decide_eq_false (show ¬(((l++[X w p m n (b+k - 1)]).length:Nat):Int)≤((l.length:Nat):Int) by omega),decide_eq_false (g.ahead hk)]
      rfl
     by_cases hz:((l.length:Nat):Int)=0
     · rw[decide_eq_true hz]
       have:=g.Tk (by omega)
       exact fin (by omega)
     · rw[decide_eq_false hz]
       simp only[cond_false]
       by_cases u:(l.g (l.length - 1)).aD<b+k
       · rw[decide_eq_true u]
         have:=g.N0 (by omega)
         exact fin (by omega)
       · rw[decide_eq_false u];rfl
   · rw[decide_eq_false q];rfl
open Go.ChangeShapes Go.WideShapes Go.RowKit
structure Gx (φ φ':Ph) (h h':aq) (w:World):Prop where
 ok:OK env φ' h' w
 le:φ.le φ'
 ro:sa h'
 has:Has h h'
 nx:h.nx≤h'.nx
 tidy:Tidy h'
theorem Gx.refl {φ:Ph} {h:aq} {w:World} (ok:OK env φ h w) (ro:sa h) (y:Tidy h):Gx φ φ h h w:=⟨ok,Ph.le_refl _,ro,Has.refl _,Nat.le_refl _,y⟩
theorem Gx.trans {a b c:Ph} {h1 h2 h3:aq} {w:World} (x:Gx a b h1 h2 w) (y:Gx b c h2 h3 w):Gx a c h1 h3 w:=⟨y.ok,Ph.le_trans x.le y.le,y.ro,x.has.trans y.has,Nat.le_trans x.nx y.nx,y.tidy⟩
section
variable {H:Type} (enc:TypeId×Value→H) (w:World) (base:Nat) (spare:Nat→Bool) (held:Bool)
def Small (t:TypeId) (d:DataW H):Prop:=(DataW.weights env.P t d).all (· ≤reachBytes)=true
theorem Small.all {e:TypeId}:∀{l:List (DataW H)},(DataW.weightsAll env.P e l).all (· ≤reachBytes)=true→∀d∈l,Small e d
 | [],_,d,hd=>by cases hd
 | x::l,h,d,hd=>by
   rw[DataW.weightsAll,List.all_append,Bool.and_eq_true] at h
   rcases List.mem_cons.1 hd with rfl | hd
   · exact h.1
   · exact Small.all h.2 d hd
theorem Small.struct {t:TypeId} {fs:Array Field} {parts:List (DataW H)} (ht:env.P.underlying t=some (.struct fs)) (h:Small t (.agg parts)):(DataW.weightsEach env.P (fs.toList.map (·.type)) parts).all (· ≤reachBytes)=true:=by
 unfold Small at h
 rw[DataW.weights,ht] at h
 exact h
theorem Small.cj {t:TypeId} {ts:List TypeId} {d:DataW H} {ds:List (DataW H)} (h:(DataW.weightsEach env.P (t::ts) (d::ds)).all (· ≤reachBytes)=true):Small t d∧(DataW.weightsEach env.P ts ds).all (· ≤reachBytes)=true:=by
 rw[DataW.weightsEach,List.all_append,Bool.and_eq_true] at h
 exact h
theorem E4 {n:Nat} (h:n≤reachBytes):n<2^60:=Nat.lt_of_le_of_lt h (by unfold reachBytes;decide)
def sU {D:Type} (t:TypeId) (sz:Nat) (c:D→List AV) (ok:aq→D→Prop):Prop:=
 ∀(φ:Ph) (h:aq),OK env φ h w→sa h→Tidy h→∀(cs:List Value) (y:DataW H×List MemPlace) (n:Nat),cs.length=sz→Small t y.1→DataW.trod enc env.P w base spare held n t cs=some y→
  ∃φ' h' x,Gx φ φ' h h' w∧LR φ' (c x) cs∧ok h' x
variable {enc w base spare held}
theorem fk {k:IntKind} {t:TypeId} (ht:env.P.underlying t=some (.int k)):sU enc w base spare held t 1 (fun x:Int=> [.int k x]) (fun _ _=>True):=fun φ h ok ro y cs z n _ hw hv=>by
 obtain ⟨m,rfl,_,_⟩:=DataW.trod_int ht hv
 exact ⟨φ,h,m,Gx.refl ok ro y,LR.cons (VR.int k m) (LR.nil _),trivial⟩
theorem zi {t:TypeId} (ht:env.P.underlying t=some .string):sU enc w base spare held t 1 (fun x:List UInt8=> [.str x]) (fun _ x=>x.length<2^60):=fun φ h ok ro y cs z n _ hw hv=>by
 obtain ⟨s,rfl,rfl,hs⟩:=DataW.trod_string ht hv
 refine ⟨φ,h,s.data.toList,Gx.refl ok ro y,LR.cons (VR.str s) (LR.nil _),?_⟩
 unfold Small at hw
 rw[DataW.weights,List.all_cons,Bool.and_eq_true] at hw
 exact E4 (of_decide_eq_true hw.1)
theorem uI {α:Type} [aG α] {t:TypeId} (ht:env.P.underlying t=some (.slice (aG.e α))) (hs:env.P.cellsOf (aG.e α)=aG.n α) (Zz:0<env.P.bytesOf (aG.e α)) (hm:∀(h:aq) (x:α) m,aG.ok h x→AV.map m ∉ aG.c x)
 (he:sU enc w base spare held (aG.e α) (aG.n α) (aG.c (α:=α)) aG.ok):sU enc w base spare held t 1 (fun x:AV×List α=> [x.1]) (fun h x=>bf h x.1 x.2):=fun φ h ok ro y cs z fuel _ hw hv=>by
 have Kf:=aG.pos (α:=α)
 rcases DataW.trod_slice ht hv with ⟨rfl,_⟩ | ⟨a,len,cap,elems,rest,n,_,rfl,rfl,hb,QK,Wu,Wo,eZ,_,_⟩
 · exact ⟨φ,h,(.aF,[]),Gx.refl ok ro y,LR.cons VR.aF (LR.nil _),⟨aG.size,(Nat.zero_mul _).symm,Nat.pow_pos (by decide),rfl,.inl rfl⟩,.inl rfl,fun x hx=>by cases hx⟩
 rcases Nat.eq_zero_or_pos len with h0 | h0
 · subst h0
   exact ⟨φ,h,(.dG,[]),Gx.refl ok ro y,LR.cons (VR.dG a cap) (LR.nil _),⟨aG.size,(Nat.zero_mul _).symm,Nat.pow_pos (by decide),rfl,.inl rfl⟩,.inr (.inl rfl),fun x hx=>by cases hx⟩
 have xx:len<2^60∧(DataW.weightsAll env.P (aG.e α) (elems.map (·.1))).all (· ≤reachBytes)=true:=by
  unfold Small at hw
  rw[DataW.weights,ht] at hw
  simp only[List.all_cons,List.all_append,Bool.and_eq_true,List.length_map] at hw
  refine ⟨E4 (Nat.le_trans ?_ (of_decide_eq_true hw.1)),hw.2.1⟩
  rw[Wo]
  exact Nat.le_trans (Nat.le_add_right _ _) (Nat.le_mul_of_pos_right _ Zz)
 have all:∀m,m≤len→∃(φ':Ph) (h':aq) (xs:List α),Gx φ φ' h h' w∧xs.length=m∧(∀x∈xs,aG.ok h' x)∧∀(i:Nat) (x:α),xs[i]? =some x→∀j v,(aG.c x)[j]? =some v→∃y,w.cell? ((a.add (i*aG.n α)).add j)=some y∧VR φ' v y:=by
  intro m
  induction m with
  | zero=>exact fun _=>⟨φ,h,[],Gx.refl ok ro y,rfl,fun _ hx=>(by cases hx),fun i xi hx=>(by simp at hx)⟩
  | succ m ih=>
    intro OV
    obtain ⟨φ1,h1,xs,g1,hl,hq,hx⟩:=ih (by omega)
    have h2:=eZ m (by omega)
    rw[List.getElem?_eq_getElem (by omega),hs] at h2
    simp only[Option.bind_eq_some_iff] at h2
    obtain ⟨ci,ZA,ZB⟩:=h2
    obtain ⟨_,MC,Et⟩:=World.cells?_some ZA
    obtain ⟨φ2,h2,x,g2,vr,lT⟩:=he φ1 h1 g1.ok g1.ro g1.tidy ci _ n MC (Small.all xx.2 _ (List.mem_map.2 ⟨_,List.getElem_mem _,rfl⟩)) ZB
    refine ⟨φ2,h2,xs++[x],g1.trans g2,by simp [hl],fun z hz=>?_,fun i z hz=>?_⟩
    · rcases List.mem_append.1 hz with h | h
      · exact aG.mono g2.has (hq z h)
      · simp at h;subst h;exact lT
    · by_cases hi:i<xs.length
      · rw[List.getElem?_append_left hi] at hz
        intro j v hj
        obtain ⟨q,e1,e2⟩:=hx i z hz j v hj
        exact ⟨q,e1,e2.mono g2.le⟩
      · rw[List.getElem?_append_right (by omega)] at hz
        have:i - xs.length=0:=by
         have:=(List.getElem?_eq_some_iff.1 hz).1
         simp at this;omega
        rw[this] at hz
        simp at hz;subst hz
        have:i=m:=by omega
        subst this
        intro j v hj
        have nJ:j<(aG.c x).length:=(List.getElem?_eq_some_iff.1 hj).1
        have PG:j<ci.length:=by rw[←vr.1];exact nJ
        exact ⟨ci[j],by rw[Et j (by rw[MC] at PG;exact PG),List.getElem?_eq_getElem PG],vr.2 j v _ hj (List.getElem?_eq_getElem PG)⟩
 obtain ⟨φ1,h1,xs,g1,hl,hq,hx⟩:=all len (Nat.le_refl _)
 have Dl:=cX aG.len xs
 have E5:a.spot=none:=by
  have ZC:xs[0]? =some (xs[0]'(by omega)):=List.getElem?_eq_getElem (by omega)
  obtain ⟨y,hy,_⟩:=hx 0 _ ZC 0 ((aG.c (xs[0]'(by omega)))[0]'(by rw[aG.len];exact Kf)) (List.getElem?_eq_getElem _)
  simp only[Nat.zero_mul,Addr.add,if_true] at hy
  unfold World.cell? at hy
  split at hy
  · cases ZD:a.spot with
    | none=>rfl
    | some _=>rw[ZD] at hy;simp at hy
  · cases hy
 have Tl:∀i j,(a.add (i*aG.n α)).add j=⟨a.block,a.off+(i*aG.n α+j),none⟩:=by
  intro i j
  obtain ⟨b,o,sp⟩:=a
  simp only at E5
  subst E5
  unfold Addr.add
  by_cases h1:i*aG.n α=0<;>by_cases h2:j=0<;>simp [h1,h2,Nat.add_assoc]
 have dt:xs.flatMap aG.c≠ []:=by
  intro e
  have:=congrArg List.length e
  rw[Dl,hl] at this
  have:=Nat.mul_pos h0 Kf
  simp at *
  omega
 obtain ⟨h',hn,oO,hle,Wq,ZE,hg,hold,fN⟩:=g1.ok.show g1.ro (b:=a.block) (off:=a.off) (e:=aG.e α) dt (fun m OV=>by
  have:AV.map m∈xs.flatMap aG.c:=by rw[OV];simp
  obtain ⟨z,hz,ZF⟩:=List.mem_flatMap.1 this
  exact hm h1 z m (hq z hz) ZF) (fun k v hk=>by
  have AN:k<(xs.flatMap aG.c).length:=(List.getElem?_eq_some_iff.1 hk).1
  have X0:k/aG.n α*aG.n α+k%aG.n α=k:=by rw[Nat.mul_comm];exact Nat.div_add_mod k _
  have hi:k/aG.n α<xs.length:=by
   rw[Dl] at AN
   exact (Nat.div_lt_iff_lt_mul Kf).2 AN
  have X1:=hk
  rw[←X0,kG aG.len _ _ _ hi (Nat.mod_lt _ Kf)] at X1
  have ZG:xs[k/aG.n α]? =some (xs.g (k/aG.n α)):=by
   rw[List.g,List.getD_eq_getElem?_getD,List.getElem?_eq_getElem hi];rfl
  obtain ⟨y,hy,TF⟩:=hx _ _ ZG _ v X1
  rw[Tl,X0] at hy
  exact ⟨y,hy,TF⟩)
 have ZH:=VR.slice (φ:=φ1.add h1.nx ⟨a.block,a.off,0⟩) 0 len cap false fN
 have has:Has h1 h':=vd g1.tidy hn
 refine ⟨_,h',(.slice h1.nx 0 len cap false,xs),g1.trans ⟨oO,hle,Wq,has,by omega,np g1.tidy hn⟩,LR.cons ?_ (LR.nil _),?_⟩
 · obtain ⟨b,o,sp⟩:=a
   simp only at E5
   subst E5
   exact ZH
 · subst hl
   exact ⟨⟨aG.size,Dl,xx.1,rfl,.inr ⟨h1.nx,0,_,cap,false,_,_,true,rfl,QK,hg,fun j _=>by rw[Nat.zero_add]⟩⟩,.inr (.inr ⟨_,_,_,_,_,rfl,fun e=>by cases e⟩),fun x hx=>aG.mono has (hq x hx)⟩
end
open Go.ChangeShapes Go.WideShapes Go.RowKit
section
variable {H:Type} {enc:TypeId×Value→H} {w:World} {base:Nat} {spare:Nat→Bool} {held:Bool}
end
open Go.ChangeShapes Go.WideShapes Go.RowKit
section
variable {H:Type} {enc:TypeId×Value→H} {w:World} {base:Nat} {spare:Nat→Bool} {held:Bool}
theorem lJ:Tryz.prog.cellsOf 3=1:=by kernel_rfl
theorem Mq:Tryz.prog.cellsOf 9=1:=by kernel_rfl
theorem J7:Tryz.prog.cellsOf 29=3:=by kernel_rfl
theorem Mr:sU enc w base spare held 29 3 (aG.c (α:=bn)) aG.ok:=fun φ h0 ok ro ty cs z fuel hl hw hv=>by
 obtain ⟨xs,n,_,rfl,_,AP,hf⟩:=DataW.trod_struct Tryz.underlying29 hv
 obtain ⟨c0,c1,c2,rfl⟩:∃c0 c1 c2,cs=[c0,c1,c2]:=by
  match cs,hl with
  | [c0,c1,c2],_=>exact ⟨_,_,_,rfl⟩
 obtain ⟨y0,y1,y2,rfl⟩:∃y0 y1 y2,xs=[y0,y1,y2]:=by
  match xs,AP with
  | [y0,y1,y2],_=>exact ⟨_,_,_,rfl⟩
 have hs:=Small.struct Tryz.underlying29 hw
 obtain ⟨s0,hs⟩:=Small.cj hs
 have q0:DataW.trod enc Tryz.prog w base spare held n 3 [c0]=some y0:=by simpa [lJ] using hf 0 _ rfl
 obtain ⟨φ1,h1,x0,g0,l0,o0⟩:=fk (t:=3) Tryz.underlying3 _ _ (Gx.refl ok ro ty).ok (Gx.refl ok ro ty).ro (Gx.refl ok ro ty).tidy _ _ _ rfl s0 q0
 have G0:=Gx.trans (Gx.refl ok ro ty) g0
 obtain ⟨s1,hs⟩:=Small.cj hs
 have q1:DataW.trod enc Tryz.prog w base spare held n 3 [c1]=some y1:=by simpa [lJ] using hf 1 _ rfl
 obtain ⟨φ2,h2,x1,g1,l1,o1⟩:=fk (t:=3) Tryz.underlying3 _ _ G0.ok G0.ro G0.tidy _ _ _ rfl s1 q1
 have G1:=Gx.trans G0 g1
 obtain ⟨s2,hs⟩:=Small.cj hs
 have q2:DataW.trod enc Tryz.prog w base spare held n 3 [c2]=some y2:=by simpa [lJ] using hf 2 _ rfl
 obtain ⟨φ3,h3,x2,g2,l2,o2⟩:=fk (t:=3) Tryz.underlying3 _ _ G1.ok G1.ro G1.tidy _ _ _ rfl s2 q2
 have G2:=Gx.trans G1 g2
 have L0:=LR.mono (Ph.le_trans (Ph.le_trans (Ph.le_refl _) g1.le) g2.le) l0
 have L1:=LR.mono (Ph.le_trans (Ph.le_refl _) g2.le) l1
 have L2:=LR.mono (Ph.le_refl _) l2
 exact ⟨_,_,⟨x0,x1,x2⟩,G2,(LR.append L0 (LR.append L1 (LR.append L2 (LR.nil _)))),trivial⟩
theorem J8:Tryz.prog.cellsOf 22=1:=by kernel_rfl
theorem Ms:sU enc w base spare held 22 1 (fun x:AV×List bn=> [x.1]) (fun h x=>bf h x.1 x.2):=uI (t:=22) Tryz.underlying22 J7 (of_decide_eq_true (by kernel_rfl)) (fun _ x m _ h=>by cases x;simp [aG.c,bn.c] at h) Mr
theorem J9:Tryz.prog.cellsOf 24=3:=by kernel_rfl
theorem Mt:sU enc w base spare held 24 3 (aG.c (α:=aH)) aG.ok:=fun φ h0 ok ro ty cs z fuel hl hw hv=>by
 obtain ⟨xs,n,_,rfl,_,AP,hf⟩:=DataW.trod_struct Tryz.underlying24 hv
 obtain ⟨c0,c1,c2,rfl⟩:∃c0 c1 c2,cs=[c0,c1,c2]:=by
  match cs,hl with
  | [c0,c1,c2],_=>exact ⟨_,_,_,rfl⟩
 obtain ⟨y0,y1,y2,rfl⟩:∃y0 y1 y2,xs=[y0,y1,y2]:=by
  match xs,AP with
  | [y0,y1,y2],_=>exact ⟨_,_,_,rfl⟩
 have hs:=Small.struct Tryz.underlying24 hw
 obtain ⟨s0,hs⟩:=Small.cj hs
 have q0:DataW.trod enc Tryz.prog w base spare held n 22 [c0]=some y0:=by simpa [J8] using hf 0 _ rfl
 obtain ⟨φ1,h1,x0,g0,l0,o0⟩:=Ms _ _ (Gx.refl ok ro ty).ok (Gx.refl ok ro ty).ro (Gx.refl ok ro ty).tidy _ _ _ rfl s0 q0
 have G0:=Gx.trans (Gx.refl ok ro ty) g0
 obtain ⟨s1,hs⟩:=Small.cj hs
 have q1:DataW.trod enc Tryz.prog w base spare held n 3 [c1]=some y1:=by simpa [lJ] using hf 1 _ rfl
 obtain ⟨φ2,h2,x1,g1,l1,o1⟩:=fk (t:=3) Tryz.underlying3 _ _ G0.ok G0.ro G0.tidy _ _ _ rfl s1 q1
 have G1:=Gx.trans G0 g1
 obtain ⟨s2,hs⟩:=Small.cj hs
 have q2:DataW.trod enc Tryz.prog w base spare held n 3 [c2]=some y2:=by simpa [lJ] using hf 2 _ rfl
 obtain ⟨φ3,h3,x2,g2,l2,o2⟩:=fk (t:=3) Tryz.underlying3 _ _ G1.ok G1.ro G1.tidy _ _ _ rfl s2 q2
 have G2:=Gx.trans G1 g2
 have L0:=LR.mono (Ph.le_trans (Ph.le_trans (Ph.le_refl _) g1.le) g2.le) l0
 have L1:=LR.mono (Ph.le_trans (Ph.le_refl _) g2.le) l1
 have L2:=LR.mono (Ph.le_refl _) l2
 exact ⟨_,_,⟨x0.1,x0.2,x1,x2⟩,G2,(LR.append L0 (LR.append L1 (LR.append L2 (LR.nil _)))),((o0.has g1.has).has g2.has)⟩
theorem J_:Tryz.prog.cellsOf 34=5:=by kernel_rfl
theorem Mu:sU enc w base spare held 34 5 (aG.c (α:=aw)) aG.ok:=fun φ h0 ok ro ty cs z fuel hl hw hv=>by
 obtain ⟨xs,n,_,rfl,_,AP,hf⟩:=DataW.trod_struct Tryz.underlying34 hv
 obtain ⟨c0,c1,c2,c3,c4,rfl⟩:∃c0 c1 c2 c3 c4,cs=[c0,c1,c2,c3,c4]:=by
  match cs,hl with
  | [c0,c1,c2,c3,c4],_=>exact ⟨_,_,_,_,_,rfl⟩
 obtain ⟨y0,y1,y2,y3,y4,rfl⟩:∃y0 y1 y2 y3 y4,xs=[y0,y1,y2,y3,y4]:=by
  match xs,AP with
  | [y0,y1,y2,y3,y4],_=>exact ⟨_,_,_,_,_,rfl⟩
 have hs:=Small.struct Tryz.underlying34 hw
 obtain ⟨s0,hs⟩:=Small.cj hs
 have q0:DataW.trod enc Tryz.prog w base spare held n 9 [c0]=some y0:=by simpa [Mq] using hf 0 _ rfl
 obtain ⟨φ1,h1,x0,g0,l0,o0⟩:=zi (t:=9) Tryz.underlying9 _ _ (Gx.refl ok ro ty).ok (Gx.refl ok ro ty).ro (Gx.refl ok ro ty).tidy _ _ _ rfl s0 q0
 have G0:=Gx.trans (Gx.refl ok ro ty) g0
 obtain ⟨s1,hs⟩:=Small.cj hs
 have q1:DataW.trod enc Tryz.prog w base spare held n 3 [c1]=some y1:=by simpa [lJ] using hf 1 _ rfl
 obtain ⟨φ2,h2,x1,g1,l1,o1⟩:=fk (t:=3) Tryz.underlying3 _ _ G0.ok G0.ro G0.tidy _ _ _ rfl s1 q1
 have G1:=Gx.trans G0 g1
 obtain ⟨s2,hs⟩:=Small.cj hs
 have q2:DataW.trod enc Tryz.prog w base spare held n 3 [c2]=some y2:=by simpa [lJ] using hf 2 _ rfl
 obtain ⟨φ3,h3,x2,g2,l2,o2⟩:=fk (t:=3) Tryz.underlying3 _ _ G1.ok G1.ro G1.tidy _ _ _ rfl s2 q2
 have G2:=Gx.trans G1 g2
 obtain ⟨s3,hs⟩:=Small.cj hs
 have q3:DataW.trod enc Tryz.prog w base spare held n 3 [c3]=some y3:=by simpa [lJ] using hf 3 _ rfl
 obtain ⟨φ4,h4,x3,g3,l3,o3⟩:=fk (t:=3) Tryz.underlying3 _ _ G2.ok G2.ro G2.tidy _ _ _ rfl s3 q3
 have G3:=Gx.trans G2 g3
 obtain ⟨s4,hs⟩:=Small.cj hs
 have q4:DataW.trod enc Tryz.prog w base spare held n 3 [c4]=some y4:=by simpa [lJ] using hf 4 _ rfl
 obtain ⟨φ5,h5,x4,g4,l4,o4⟩:=fk (t:=3) Tryz.underlying3 _ _ G3.ok G3.ro G3.tidy _ _ _ rfl s4 q4
 have G4:=Gx.trans G3 g4
 have L0:=LR.mono (Ph.le_trans (Ph.le_trans (Ph.le_trans (Ph.le_trans (Ph.le_refl _) g1.le) g2.le) g3.le) g4.le) l0
 have L1:=LR.mono (Ph.le_trans (Ph.le_trans (Ph.le_trans (Ph.le_refl _) g2.le) g3.le) g4.le) l1
 have L2:=LR.mono (Ph.le_trans (Ph.le_trans (Ph.le_refl _) g3.le) g4.le) l2
 have L3:=LR.mono (Ph.le_trans (Ph.le_refl _) g4.le) l3
 have L4:=LR.mono (Ph.le_refl _) l4
 exact ⟨_,_,⟨x0,x1,x2,x3,x4⟩,G4,(LR.append L0 (LR.append L1 (LR.append L2 (LR.append L3 (LR.append L4 (LR.nil _)))))),o0⟩
theorem Mv:sU enc w base spare held 25 1 (fun x:AV×List aw=> [x.1]) (fun h x=>bf h x.1 x.2):=uI (t:=25) Tryz.underlying25 J_ (of_decide_eq_true (by kernel_rfl)) (fun _ x m _ h=>by cases x;simp [aG.c,aw.c] at h) Mu
end
end Go.Proofs.aW
