import Derived.Test.YtemlmndojncekaaGreatW12
import Derived.Test.YtemlmndojncekaaGreatW13
import Derived.Test.YtemlmndojncekaaGreatW14
import Derived.Test.YtemlmndojncekaaGreatW3
import Derived.Test.YtemlmndojncekaaGreatW0
import Derived.Test.YtemlmndojncekaaGreatW11
namespace Go.Proofs.aQ
open Go.Proofs Ab
noncomputable section
set_option maxRecDepth 100000
set_option maxHeartbeats 4000000
set_option linter.unusedVariables false
set_option linter.unusedSimpArgs false
variable {j:cx} {oqd:List Int}
def Blk (j:cx) (p:List Bool) (s:List Int) (i:Nat) (v:Int):Prop:=
 (∃q,q<(j.ab.g i).aB.length∧v<s.g (Int.toNat ((j.ab.g i).aB.g q))+(j.ab.g (Int.toNat ((j.ab.g i).aB.g q))).takes)∨
 ∃u m,u<(j.ab.g i).aA.length∧0≤m∧v≤m∧m<v+(j.ab.g i).takes∧(j.af.g (Int.toNat ((j.ab.g i).aA.g u).ah)).aJ<I0 (j.af.g (Int.toNat ((j.ab.g i).aA.g u).ah)) m+te j (p.set i false) s (Int.toNat ((j.ab.g i).aA.g u).ah) m+((j.ab.g i).aA.g u).aJ
structure Act (j:cx) (p:List Bool) (s:List Int):Prop where
 room:Room j p s
 nd:∀i,i<j.ab.length→p.g i=true→∀q,q<(j.ab.g i).aB.length→p.g (Int.toNat ((j.ab.g i).aB.g q))=true∧s.g (Int.toNat ((j.ab.g i).aB.g q))+(j.ab.g (Int.toNat ((j.ab.g i).aB.g q))).takes≤s.g i
 least:∀i,i<j.ab.length→p.g i=true→∀v,0≤v→v<s.g i→Blk j p s i v
theorem abp (F:b5 j) {p:List Bool} {s:List Int} (T:Tm j s) (A:Act j p s) {x:Nat} (hx:x<j.ab.length) (hp:p.g x=false) (pl:p.length=j.ab.length) (sl:s.length=j.ab.length) (rd:Rdy j p x) {st:Int} (h0:0≤st) (h1:gF j s p (x:Int) st=true) (h2:∀v,gF j s p (x:Int) v=true→st≤v):Act j (p.set x true) (s.set x st):=by
 obtain ⟨⟨f0,f1⟩,f2,f3⟩:=(B1 F T hx st).1 h1
 have tk:=F.tk x hx
 have gs:∀q,q≠x→(s.set x st).g q=s.g q:=fun q hq=>bn (Ne.symm hq) _
 have gx:(s.set x st).g x=st:=g7 o!
 have gp:∀q,q≠x→(p.set x true).g q=p.g q:=fun q hq=>by rw[gG,if_neg fun z=>hq z.1.symm]
 have nx:∀q,p.g q=true→q≠x:=fun q hq e=>by rw[e,hp] at hq;cases hq
 refine ⟨fun r hr m hm=>?_,fun i hi pi q hq=>?_,fun i hi pi v v0 v1=>?_⟩
 · rw[B0 hx hp pl sl]
   have old:=A.room r hr m hm
   split
   · rename_i c
     rcases Mg F hx (r:Int) with ⟨q,hq,e⟩ | ⟨_,e⟩
     · have k:=f3 o! q hq m c.1 c.2
       have us:=BZ F hx hq
       unfold W7 at k
       rw[e,Int.toNat_natCast] at k
       rw[←e,us];omega
     · rw[e];omega
   · omega
 · by_cases z:i=x
   · subst z
     have a:=rd q hq
     have b:=nx _ a
     rw[gp _ b,gs _ b,gx]
     exact ⟨a,f2 q hq a⟩
   · rw[gp i z] at pi
     have a:=A.nd i hi pi q hq
     have b:=nx _ a.1
     rw[gp _ b,gs _ b,gs i z]
     exact a
 · by_cases z:i=x
   · subst z
     rw[gx] at v1
     refine Classical.byContradiction fun nb=>?_
     have:gF j s p (i:Int) v=true:=(B1 F T hx v).2 ⟨⟨v0,by omega⟩,fun q hq hn=>?_,fun ht u hu m m0 m1=>?_⟩
     · have:=h2 v this;omega
     · have b:=nx _ hn
       by_cases w:s.g (Int.toNat ((j.ab.g i).aB.g q))+(j.ab.g (Int.toNat ((j.ab.g i).aB.g q))).takes≤v
       · exact w
       · exact absurd (.inl ⟨q,hq,by rw[gs _ b];omega⟩) nb
     · refine Classical.byContradiction fun no=>nb (.inr ⟨u,m,hu,by omega,m0,m1,?_⟩)
       have e:te j ((p.set i true).set i false) (s.set i st) (Int.toNat ((j.ab.g i).aA.g u).ah) m=te j p s (Int.toNat ((j.ab.g i).aA.g u).ah) m:=yv fun q hq=>by
        by_cases w:q=i
        · subst w
          have:((p.set q true).set q false).g q=false:=by rw[gG,if_pos ⟨rfl,by rw[List.length_set];omega⟩]
          rw[this,hp];exact ⟨rfl,fun y=>by cases y⟩
        · rw[gG,if_neg fun y=>w y.1.symm,gp q w,gs q w];exact ⟨rfl,fun _=>rfl⟩
       rw[e]
       unfold W7 at no
       omega
   · rw[gp i z] at pi
     rw[gs i z] at v1
     rcases A.least i hi pi v v0 v1 with ⟨q,hq,h⟩ | ⟨u,m,hu,m0,m1,m2,h⟩
     · have b:=nx _ (A.nd i hi pi q hq).1
       exact .inl ⟨q,hq,by rw[gs _ b];exact h⟩
     · refine .inr ⟨u,m,hu,m0,m1,m2,?_⟩
       have le:te j (p.set i false) s (Int.toNat ((j.ab.g i).aA.g u).ah) m≤te j ((p.set x true).set i false) (s.set x st) (Int.toNat ((j.ab.g i).aA.g u).ah) m:=by
        unfold te
        refine Mf fun q _ hq=>?_
        by_cases w:q=x
        · subst w
          have:(p.set i false).g q=false:=by rw[gG,if_neg fun y=>z y.1];exact hp
          rw[if_neg (by rw[this];decide)]
          split
          · exact (R5 F o!).1
          · exact Int.le_refl _
        · have e1:((p.set x true).set i false).g q=(p.set i false).g q:=by
           by_cases y:i=q
           · subst y
             rw[gG,if_pos ⟨rfl,by rw[List.length_set];omega⟩,gG,if_pos ⟨rfl,by omega⟩]
           · rw[gG,if_neg fun k=>y k.1,gp q w,gG,if_neg fun k=>y k.1]
          rw[e1,R6 (gs q w)];exact Int.le_refl _
       omega
theorem abq (F:b5 j) {p:List Bool} (hp:∀q,p.g q=false) {s:List Int}:Act j p s:=by
 refine ⟨fun r hr m hm=>?_,(fun i hi pi=>by rw[hp] at pi;cases pi),fun i hi pi=>by rw[hp] at pi;cases pi⟩
 have e:te j p s r m=0:=by
  unfold te
  rw[oB (g:=fun _=>0) fun q _ _=>aam (hp q),Dj]
 rw[e]
 have:=aaj (c:=(j.af.g r).aJ) (m:=m) (F.rs r hr).2.2.1 (ahj F hr)
 unfold I0;omega
theorem MI:∀{l:List Int} {a:List Bool} {b:List Int} {c:List Tl} {y:Bool×List Bool×List Int×List Tl},vx j l a b c=Sum.inr y→y.1=false
 | [],a,b,c,y,h=>by cases h
 | t::l,a,b,c,y,h=>by
   rw[vx] at h
   cases e:(b9 j a b c t 0).1 with
   | true=>rw[e] at h;exact MI (l:=l) h
   | false=>rw[e] at h;cases h;rfl
theorem Kj (F:b5 j) (ho:∀q,q<oqd.length→0≤oqd.g q∧oqd.g q<(j.ab.length:Int)):∀(k:Nat) (p:List Bool) (s:List Int) (T:List Tl) (c:Nat) (x:List Bool×List Int×List Tl),p.length=j.ab.length→s.length=j.ab.length→Tm j s→INV j p s c T→Act j p s→c+nF p≤64→nF p≤k→vx j (I8 j.ab oqd k p) p s T=Sum.inl x→Act j x.1 x.2.1∧x.2.1.length=j.ab.length∧Tm j x.2.1∧x.1.length=j.ab.length∧pick j.ab oqd x.1=none
 | k,p,s,T,c,x,pl,sl,tm,I,A,h1,h2,hx=>by
   cases e:pick j.ab oqd p with
   | none=>
     rw[Kh e] at hx
     cases hx
     exact ⟨A,sl,tm,pl,e⟩
   | some q=>
     have f:=mW e
     have g:=O_ f.1
     have oq:=ho q o!
     obtain ⟨i,hi⟩:∃i:Nat,oqd.g q=(i:Int):=⟨Int.toNat (oqd.g q),by omega⟩
     rw[hi,Int.toNat_natCast] at g
     rw[hi] at oq
     have M_:i<j.ab.length:=by omega
     have n:=C8 (l:=p) (n:=i) o! g.1
     have rd:Rdy j p i:=fun x hx=>by
      have r:=g.2
      rw[xq] at r
      have:=qX (P:=fun n=> !(p.g (Int.toNat ((j.ab.g i).aB.g n)))) (k:=(j.ab.g i).aB.length) (i:=0) (by
       cases z:anyI (fun n=> !(p.g (Int.toNat ((j.ab.g i).aB.g n)))) (j.ab.g i).aB.length 0
       · rfl
       · rw[z] at r;cases r) x (Nat.zero_le _) o!
      cases y:p.g (Int.toNat ((j.ab.g i).aB.g x))
      · rw[y] at this;cases this
      · rfl
     have L:=Wo F tm I o! M_ rd
     match k,h2,hx with
     | 0,h2,_=>omega
     | k+1,h2,hx=>
       rw[I8,e] at hx
       have hx:vx j (oqd.g q::I8 j.ab oqd k (p.set (Int.toNat (oqd.g q)) true)) p s T=Sum.inl x:=hx
       rw[hi,vx,abb,Int.toNat_natCast] at hx
       by_cases z:100000<W_ j s T i+(j.ab.g i).takes
       · rw[decide_eq_true z] at hx;cases hx
       · rw[decide_eq_false z] at hx
         refine Kj F ho k _ _ _ (c+1) x (by rw[List.length_set];exact pl) (by rw[List.length_set];exact sl) (fun x hx=>?_) (Ul F M_ o! g.1 pl sl L.1 o! I p s) (abp F tm A M_ g.1 pl sl rd L.1 (L.2.1 o!) L.2.2) o! o! hx
         by_cases y:i=x
         · subst y;rw[g7 o!];omega
         · rw[bn y];exact tm x hx
theorem Kk {n:Nat}:∀(k i:Nat) (a b:List Bool),dS oqd (n:Int) k i a=Sum.inl b→a.length=n→nF a≤k→(∀x:Nat,x<n→a.g x=true→∃q,q<i∧oqd.g q=(x:Int))→i+k=oqd.length→∀x:Nat,x<n→∃q,q<oqd.length∧oqd.g q=(x:Int)
 | 0,i,a,b,h,hl,h1,h2,h3,x,hx=>by
   obtain ⟨q,a',b'⟩:=h2 x hx (E_ o! x o!)
   exact ⟨q,by omega,b'⟩
 | k+1,i,a,b,h,hl,h1,h2,h3,x,hx=>by
   rw[dS] at h
   cases c:iU (oqd.g i) (n:Int) with
   | false=>rw[c] at h;cases h
   | true=>
     have cc:=qm c
     cases d:a.g (Int.toNat (oqd.g i)) with
     | true=>rw[c,d] at h;cases h
     | false=>
       rw[c,d] at h
       have nd:=C8 (l:=a) (n:=Int.toNat (oqd.g i)) o! d
       refine Kk k (i+1) _ b h (by rw[List.length_set];exact hl) o! (fun y hy ay=>?_) o! x hx
       by_cases z:Int.toNat (oqd.g i)=y
       · exact ⟨i,by omega,by omega⟩
       · rw[gG,if_neg fun w=>z w.1] at ay
         obtain ⟨q,a',b'⟩:=h2 y hy ay
         exact ⟨q,by omega,b'⟩
theorem PV {n:Nat} (h:fB oqd (n:Int)=true):∀x:Nat,x<n→∃q,q<oqd.length∧oqd.g q=(x:Int):=by
 rw[fB] at h
 by_cases a:((oqd.length:Nat):Int)=(n:Int)
 · rw[decide_eq_true a,Bool.not_true,ai,Int.toNat_natCast] at h
   cases e:dS oqd (n:Int) oqd.length 0 (List.replicate n false) with
   | inl b=>exact Kk _ 0 _ b e List.length_replicate (by rw[qU];omega) (fun x hx ax=>by rw[Pg] at ax;cases ax) (Nat.zero_add _)
   | inr b=>rw[e] at h;have:=uU e;subst this;cases h
 · rw[decide_eq_false a] at h;cases h
theorem El {P:Nat→Bool}:∀{k i:Nat},hJ P k i=none→∀n,i≤n→n<i+k→P n=false
 | 0,i,_,n,a,b=>by omega
 | k+1,i,h,n,a,b=>by
   rw[hJ] at h
   cases e:P i with
   | true=>rw[e] at h;cases h
   | false=>
     rw[e] at h
     by_cases z:n=i
     · rw[z];exact e
     · exact El (k:=k) h n o! o!
theorem UL {p:List Bool} (hn:∀i,i<j.ab.length→Ic j.ab p i=false):∀(k:Nat) (x:List Int×List Bool),x.2.length=j.ab.length→(∀q,q<j.ab.length→x.2.g q=true→p.g q=true)→(∀i,i<j.ab.length→∀q,q<(j.ab.g i).aB.length→Int.toNat ((j.ab.g i).aB.g q)<j.ab.length)→∀q,q<j.ab.length→(vK j.ab k x).2.g q=true→p.g q=true
 | 0,x,hl,h,nb,q,hq=>h q hq
 | k+1,x,hl,h,nb,q,hq=>by
   rw[vK]
   refine UL hn k (P' j.ab x) (by rw[Uf];exact hl) (fun i hi=>?_) nb q hq
   rw[P']
   cases e:hJ (Ic j.ab x.2) j.ab.length 0 with
   | none=>exact h i hi
   | some w=>
     have f:=mW e
     have g:=O_ f.1
     show (x.2.set w true).g i=true→p.g i=true
     by_cases z:w=i
     · subst z
       intro _
       have n:=hn w hi
       cases y:p.g w with
       | true=>rfl
       | false=>
         have:km (j.ab.g w) p=true:=by
          rw[xq]
          have r:=g.2
          rw[xq] at r
          cases a:anyI (fun n=> !(p.g (Int.toNat ((j.ab.g w).aB.g n)))) (j.ab.g w).aB.length 0 with
          | false=>rfl
          | true=>
            exfalso
            have no:=qX (P:=fun n=> !(x.2.g (Int.toNat ((j.ab.g w).aB.g n)))) (k:=(j.ab.g w).aB.length) (i:=0) (by
             cases z:anyI (fun n=> !(x.2.g (Int.toNat ((j.ab.g w).aB.g n)))) (j.ab.g w).aB.length 0
             · rfl
             · rw[z] at r;cases r)
            rw[oA (Q:=fun _=>false) fun m _ hm=>by
             have b:=no m (Nat.zero_le _) hm
             have c:x.2.g (Int.toNat ((j.ab.g w).aB.g m))=true:=by
              cases v:x.2.g (Int.toNat ((j.ab.g w).aB.g m))
              · rw[v] at b;cases b
              · rfl
             rw[h _ (nb w hi m o!) c];rfl] at a
            have ff:∀k i,anyI (fun _=>false) k i=false:=fun k=>by
             induction k with
             | zero=>intro i;rfl
             | succ k ih=>intro i;rw[anyI,ih];rfl
            rw[ff] at a;cases a
         rw[Ic,y,this] at n;cases n
     · rw[gG,if_neg fun y=>z y.1];exact h i hi
theorem H6 (F:b5 j) {p:List Bool} (pn:pick j.ab oqd p=none) (al:∀x:Nat,x<j.ab.length→∃q,q<oqd.length∧oqd.g q=(x:Int)):All j p:=by
 have hn:∀i,i<j.ab.length→Ic j.ab p i=false:=fun i hi=>by
  obtain ⟨q,hq,e⟩:=al i hi
  have:=El pn q (Nat.zero_le _) o!
  rw[e,Int.toNat_natCast] at this;exact this
 have c:=uI j.ab j.ab.length ([],List.replicate j.ab.length false) (by rw[List.length_replicate])
 have l:=F.io
 rw[uH] at l
 rw[qU] at c
 have e0:(([],List.replicate j.ab.length false):List Int×List Bool).1.length=0:=rfl
 have z:nF (vK j.ab j.ab.length ([],List.replicate j.ab.length false)).2=0:=by omega
 exact fun i hi=>UL hn j.ab.length ([],List.replicate j.ab.length false) List.length_replicate (fun q _ h=>by rw[show (([],List.replicate j.ab.length false):List Int×List Bool).2.g q=false from Pg] at h;cases h) (fun i hi q hq=>by have:=F.nb i hi q hq;omega) i hi (E_ z i (by rw[c.2];exact hi))
theorem AD (j:cx) (oqd:List Int) (h:(ar j oqd).2≠0):(ar j oqd).1=[]:=by
 rw[ar,jT,iF] at h ⊢
 by_cases a:dC j=0
 · rw[decide_eq_true a] at h ⊢
   cases b:fB oqd ((j.ab.length:Nat):Int) with
   | false=>cases decide (0<j.af.length)<;>rfl
   | true=>
     rw[b] at h
     cases c:decide (0<j.af.length) with
     | true=>
       rw[c] at h
       cases d:(ep j (aK j).2.1 (aK j).2.2 (aK j).1 oqd 0).1 with
       | true=>rw[d] at h;exact absurd rfl h
       | false=>rfl
     | false=>
       rw[c] at h
       cases d:(ef j (aK j).2.1 (aK j).2.2 oqd 0).1 with
       | true=>rw[d] at h;exact absurd rfl h
       | false=>rfl
 · rw[decide_eq_false a]
   cases decide (0<j.af.length)<;>rfl
theorem AE (j:cx) (oqd:List Int) (h:(ar j oqd).2=0):dC j=0∧b5 j∧(ar j oqd).1.length=j.ab.length∧Tm j (ar j oqd).1∧∃p,All j p∧p.length=j.ab.length∧Act j p (ar j oqd).1:=by
 rw[ar,jT,iF] at h ⊢
 by_cases a:dC j=0
 · have F:=cX a
   rw[decide_eq_true a,Bool.not_true,ai,ai] at h ⊢
   refine ⟨a,F,?_⟩
   cases b:fB oqd ((j.ab.length:Nat):Int) with
   | false=>rw[b] at h;cases c:decide (0<j.af.length)<;>rw[c] at h<;>cases h
   | true=>
     have ok:=rl (oqd:=oqd) (n:=((j.ab.length:Nat):Int)) (by rw[b];rfl)
     have al:=PV b
     rw[b,Bool.not_true,ai,ai] at h
     rw[Bool.not_true,ai,ai]
     have nt:=F.nt
     have p2:(aK j).2.1=List.replicate j.ab.length false:=by rw[JX]
     have s2:(aK j).2.2=List.replicate j.ab.length 0:=by rw[JX]
     have tm:Tm j (List.replicate j.ab.length 0):=fun i hi=>by
      have tk:=F.tk i hi
      have e:(List.replicate j.ab.length (0:Int)).g i=0:=by rw[List.g,List.getD_eq_getElem?_getD,List.getElem?_replicate,if_pos hi];rfl
      rw[e];omega
     have ag:=fun x=>Kj F ok.2 oqd.length (List.replicate j.ab.length false) (List.replicate j.ab.length 0) (aK j).1 0 x List.length_replicate List.length_replicate tm (Mi F) (abq F fun q=>Pg) (by rw[qU];omega) (by rw[qU];omega)
     rw[p2,s2] at h ⊢
     rw[←ahJ] at ag
     by_cases r:0<j.af.length
     · have z:=afj (j:=j) (oqd:=oqd) (p:=List.replicate j.ab.length false) (Int.toNat ((((aL j.ab oqd (List.replicate j.ab.length false)).length:Nat):Int) - 0)) 0 (List.replicate j.ab.length false) (List.replicate j.ab.length 0) (aK j).1 o!
       rw[List.drop_zero,show ((0:Nat):Int)=0 from rfl] at z
       rw[decide_eq_true r,aj,ep,z] at h ⊢
       generalize hu:vx j (aL j.ab oqd (List.replicate j.ab.length false)) (List.replicate j.ab.length false) (List.replicate j.ab.length 0) (aK j).1=u at ag h ⊢
       cases u with
       | inl x=>
         obtain ⟨a1,a2,a3,a4,a5⟩:=ag x rfl
         exact ⟨a2,a3,x.1,H6 F a5 al,a4,a1⟩
       | inr y=>
         have y0:=MI hu
         rw[y0] at h;cases h
     · have t0:(aK j).1=[]:=List.eq_nil_of_length_eq_zero (by rw[JX];show (j.af.map _).length=0;rw[List.length_map];omega)
       rw[t0] at ag
       have z:=aba F o! ok.2 (p:=List.replicate j.ab.length false) (Int.toNat ((((aL j.ab oqd (List.replicate j.ab.length false)).length:Nat):Int) - 0)) 0 (List.replicate j.ab.length false) (List.replicate j.ab.length 0) o!
       rw[List.drop_zero,show ((0:Nat):Int)=0 from rfl] at z
       rw[decide_eq_false r,ai,ef,z] at h ⊢
       generalize hu:vx j (aL j.ab oqd (List.replicate j.ab.length false)) (List.replicate j.ab.length false) (List.replicate j.ab.length 0) []=u at ag h ⊢
       cases u with
       | inl x=>
         obtain ⟨a1,a2,a3,a4,a5⟩:=ag x rfl
         exact ⟨a2,a3,x.1,H6 F a5 al,a4,a1⟩
       | inr y=>
         have y0:=MI hu
         rw[y0] at h;cases h
 · rw[decide_eq_false a] at h
   cases c:decide (0<j.af.length)<;>rw[c] at h<;>exact absurd h a
theorem SI (k:IntKind) (l:List Int):(zs k l).all AV.scalar=true:=List.all_eq_true.2 fun x hx=>by
 obtain ⟨y,_,rfl⟩:=List.mem_map.1 hx
 rfl
theorem WD {h:aC} {e s xt:TypeId} {tys:Array TypeId} {bytes p:Nat} {k:IntKind} {z0 v:AV} {L:List Int} (y:Tidy h) (hp:h.get p=some (.cells [] e false)) (x:b8 h k e v L) (hn:0<L.length) (hl:L.length≤1000000000)
 (t0:tys[0]? =some s) (t1:tys[1]? =some xt) (hs:env.P.underlying s=some (.slice e)) (hx:env.P.underlying xt=some (.slice e)) (YV:ca env e=some 1) (hb:kH env e=some bytes) (Ib:iu env e=some z0) (hz:z0.cells.length=1) (h8:bytes≤63):
 ∃q o h',du env h tys (.slice p 0 0 0 false) v=some (.slice q 0 L.length L.length o,h')∧Tidy h'∧h.nx≤h'.nx∧Has h h'∧h'.get q=some (.cells (zs k L) e false)∧p<q:=by
 have hi:qu (.slice e)=false:=rfl
 have pn:=y _ _ hp
 have ln:(zs k L).length=L.length:=fO k L
 rcases x.at_.block with h0 | ⟨p',o,m,c,b,C,f,ro,h1,_,h2,h3⟩
 · omega
 · subst h1
   have hm:m=L.length:=by
    have:=x.at_.lens
    rw[kZ] at this
    simp only[Option.some.injEq,AV.int.injEq,true_and] at this
    omega
   subst hm
   have hlen:yw (.slice p' o L.length c b)=some L.length:=rfl
   have hC:o+L.length≤C.length:=by
    have:=h3 (L.length - 1) o!
    rw[List.getElem?_eq_getElem (l:=zs k L) o!] at this
    have:=(List.getElem?_eq_some_iff.1 this).1
    omega
   have hf:ic h 1 L.length (.slice p' o L.length c b)=some (zs k L):=by
    simp only[ic,h2,Nat.le_refl,if_true,if_neg (show ¬L.length=0 by omega),Nat.mul_one]
    rw[if_pos hC]
    congr 1
    apply List.ext_getElem?
    intro j
    by_cases hj:j<L.length
    · rw[List.getElem?_take_of_lt hj,List.getElem?_drop,h3 j o!]
    · rw[List.getElem?_eq_none (by rw[List.length_take];omega),List.getElem?_eq_none o!]
   obtain ⟨h',nw⟩:=zN (h:=h) (.cells (zs k L) e false)
   refine ⟨h.nx,true,h',?_,nk y nw,by rw[zM nw];omega,yi y nw,uj nw,by omega⟩
   have WT:¬L.length≤0:=by omega
   have big:(4*L.length+4096)*(bytes+1)≤1099511627776:=Nat.le_trans (Nat.mul_le_mul (show 4*L.length+4096≤17179869184 by omega) (show bytes+1≤64 by omega)) (by decide)
   simp only[du,t0,t1,hs,hx,hi,YV,hb,hlen,hf,Ib,hz,SI,hp,WT,if_true,if_false,and_self,Bool.false_eq_true,Nat.zero_mul,Nat.add_zero,Nat.zero_add,List.length_nil,Nat.le_refl,ln,Nat.mul_one]
   rw[if_pos ⟨big,trivial,fun e=>e.elim⟩]
   simp only[List.drop_nil,List.take_nil,List.nil_append,nw]
theorem modn {a b:Int} (hb:0<b) (hs:b<2^62):0≤Int.tmod (IntKind.i64.wrap (Int.tmod a b+b)) b∧Int.tmod (IntKind.i64.wrap (Int.tmod a b+b)) b<b:=by
 have h1:=Int.tmod_lt_of_pos a hb
 have h2: -b<Int.tmod a b:=by
  rcases Int.le_total 0 a with h | h
  · have:=Int.tmod_nonneg b h;omega
  · have:=Int.tmod_lt_of_pos (-a) hb
    rw[Int.neg_tmod] at this;omega
 rw[wrap_i64 o! o!]
 exact ⟨Int.tmod_nonneg b o!,Int.tmod_lt_of_pos _ hb⟩
theorem SJ (j:cx) (oqd:List Int):(ar j oqd).1.length≤64:=by
 by_cases h:(ar j oqd).2=0
 · have a:=AE j oqd h
   have:=a.2.1.nt
   omega
 · rw[AD j oqd h];decide
theorem SK (j:cx) (oqd:List Int) (n:Nat):(ar j oqd).1.g n<2^62:=by
 by_cases h:(ar j oqd).2=0
 · have a:=AE j oqd h
   by_cases hn:n<j.ab.length
   · have t:=a.2.2.2.1 n hn
     have k:=a.2.1.tk n hn
     omega
   · rw[List.g,List.getD_eq_getElem?_getD,List.getElem?_eq_none o!];decide
 · rw[AD j oqd h,show ([]:List Int).g n=0 from rfl];decide
def qk:Code:=(Tryz.f4.body).getD .skip
theorem Kl:Tryz.f4.body=some qk:=by kernel_rfl
def PW:Code:=(bw qk).getD 0 .skip
def PX:Code:=(bw qk).getD 1 .skip
def iA:Code:=(j_ qk).getD 1 .skip
def lB (j:cx):Nat→Nat→Int→Int
 | 0,_,fL=>fL
 | dq+1,i0,fL=>lB j dq (i0+1) (IntKind.i64.wrap ((IntKind.i64.wrap (fL+(((j.af.g i0).off.length:Nat):Int)))+(IntKind.i64.wrap (Int.tdiv ((List.length ((j.af.g i0).name):Nat):Int) 20))))
theorem Cn {d:Nat} {h:aC} (j:cx) (bk:Nat) (bx:aW h j.aw j.ab) (cZ:aW h j.ao j.af) (g5:aR.ok h j):∀(k_ i_:Nat) (fL:Int) (_:i_+k_=j.af.length) (x:Nat→AV) (hh:aC) (aI:Tidy hh) (aE:Has h hh) (br:hh.get bk=some (aM.cells [j.aw,j.ao] 25 false)),cE (cN (d)) PW ⟨((x 0)::(x 1)::(Pt bk)::(x 3)::(x 4)::(Zi fL)::(Zn i_)::rx x 7 100 []),hh,[],.no⟩ (.exit 0) hh (fun r y=>((y 0)::(y 1)::(Pt bk)::(y 3)::(y 4)::(Zi r)::rx y 6 101 [])) (fun r=>True) (lB j k_ i_ fL)
 | 0,i0,fL,fX,x,hh,aI,aE,br=>by
   have iC:cb (some (.slice 37)) (some j.ao)=some (Zn j.af.length):=(cZ.has aE).len
   have q2:(decide (((i0:Nat):Int)<((j.af.length:Nat):Int)))=false:=d!
   exact cE.out fL rfl (pk (d) _ _ hh _ hh (CN 2<|MM (aO 23 1 j.ao br k!)<|VV iC<|VV (bL 3 false false .i64 ((i0:Nat):Int) ((j.af.length:Nat):Int))<|BB q2<|ZZ) k!) (bE.refl aI) trivial k!
 | dq+1,i0,fL,fX,x,hh,aI,aE,br=>by
   have gT:=bx.small
   have nz:=cZ.small
   have sU:=aI _ _ br
   have iC:cb (some (.slice 37)) (some j.ao)=some (Zn j.af.length):=(cZ.has aE).len
   have q2:(decide (((i0:Nat):Int)<((j.af.length:Nat):Int)))=true:=d!
   obtain ⟨p4,q5,lp⟩:=(cZ.has aE).elem (i:=i0) o!
   have wJ:bO env (some (.slice 37)) (some j.ao) (some (Zn i0))=some (AV.ptr p4 q5):=lp
   have tD:bh env hh 35 (AV.ptr p4 (q5+2))=some ((j.af.g i0).dW):=(cZ.has aE).part (t:=35) (j:=2) o! lp k! rfl
   have ln7:cb (some (.slice 72)) (some (j.af.g i0).dW)=some (Zn (j.af.g i0).off.length):=(((cZ.has aE).ok (i:=i0) o!).2).len
   obtain ⟨p9,Ed,qd⟩:=(cZ.has aE).elem (i:=i0) o!
   have LB:bO env (some (.slice 37)) (some j.ao) (some (Zn i0))=some (AV.ptr p9 Ed):=qd
   have ry:bh env hh 9 (AV.ptr p9 (Ed+0))=some (AV.str (j.af.g i0).name):=(cZ.has aE).part (t:=9) (j:=0) o! qd k! rfl
   have aoH:((j.af.g i0).name).length<2^60:=((cZ.has aE).ok (i:=i0) o!).1
   have VM:AV.same 20 j.ao j.ao=true:=(cZ.has aE).same 19
   have W1:AV.same 20 (j.af.g i0).dW (j.af.g i0).dW=true:=(((cZ.has aE).ok (i:=i0) o!).2).same 19
   have u15:=fi 3 false true i0 1 o!
   exact cE.round (by simp only[lB,aj,ai]) (pk (d) _ _ hh _ hh (CN 2<|MM (aO 23 1 j.ao br k!)<|VV iC<|VV (bL 3 false false .i64 ((i0:Nat):Int) ((j.af.length:Nat):Int))<|BB q2<|CN 2<|MM (aO 23 1 j.ao br k!)<|CC<|VV wJ<|CC<|MM tD<|VV ln7<|CN 2<|MM (aO 23 1 j.ao br k!)<|CC<|VV LB<|CC<|MM ry<|CN 4<|HH (aO 23 1 j.ao br k!)<|HH VM<|HH tD<|HH W1<|HH (aO 23 1 j.ao br k!)<|HH VM<|HH ry<|HH (show AV.same 20 (AV.str (j.af.g i0).name) (AV.str (j.af.g i0).name)=true from mf 19 _)<|CC<|VV u15<|CC<|ZZ) k!) (bE.refl aI) _ k! (fun x=>Cn j bk bx cZ g5 dq (i0+1) (IntKind.i64.wrap ((IntKind.i64.wrap (fL+(((j.af.g i0).off.length:Nat):Int)))+(IntKind.i64.wrap (Int.tdiv ((List.length ((j.af.g i0).name):Nat):Int) 20)))) o! x hh aI aE br)
def mQ (j:cx):Nat→Nat→Int→Int
 | 0,_,hI=>hI
 | o8+1,i1,hI=>(bif (decide (hI<1000)) then mQ j o8 (i1+1) (IntKind.i64.wrap ((IntKind.i64.wrap ((IntKind.i64.wrap (hI+(((j.ab.g i1).aB.length:Nat):Int)))+(((j.ab.g i1).aA.length:Nat):Int)))+(IntKind.i64.wrap (Int.tdiv ((List.length ((j.ab.g i1).name):Nat):Int) 20)))) else hI)
theorem Co {d:Nat} {h:aC} (j:cx) (cU:Nat) (eM:aW h j.aw j.ab) (eR:aW h j.ao j.af) (mZ:aR.ok h j):∀(k_ i_:Nat) (hI:Int) (_:i_+k_=j.ab.length) (x:Nat→AV) (hh:aC) (aI:Tidy hh) (aE:Has h hh) (cO:hh.get cU=some (aM.cells [j.aw,j.ao] 25 false)),cE (cN (d)) PX ⟨((x 0)::(x 1)::(Pt cU)::(x 3)::(x 4)::(Zi hI)::(x 6)::(Zn i_)::rx x 8 99 []),hh,[],.no⟩ (.exit 2) hh (fun r y=>((y 0)::(y 1)::(Pt cU)::(y 3)::(y 4)::(Zi r)::rx y 6 101 [])) (fun r=>True) (mQ j k_ i_ hI)
 | 0,i1,hI,fX,x,hh,aI,aE,cO=>by
   have iC:cb (some (.slice 40)) (some j.aw)=some (Zn j.ab.length):=(eM.has aE).len
   have q2:(decide (((i1:Nat):Int)<((j.ab.length:Nat):Int)))=false:=d!
   exact cE.out hI rfl (pk (d) _ _ hh _ hh (CN 2<|MM (aO 22 0 j.aw cO k!)<|VV iC<|VV (bL 3 false false .i64 ((i1:Nat):Int) ((j.ab.length:Nat):Int))<|CC<|BB q2<|BV q2 (yB false q2)<|FF<|ZZ) k!) (bE.refl aI) trivial k!
 | o8+1,i1,hI,fX,x,hh,aI,aE,cO=>by
   have qR:=eM.small
   have r7:=eR.small
   have Iz:=aI _ _ cO
   have iC:cb (some (.slice 40)) (some j.aw)=some (Zn j.ab.length):=(eM.has aE).len
   have q2:(decide (((i1:Nat):Int)<((j.ab.length:Nat):Int)))=true:=d!
   have dJ:=fun {al ps} (k:Pk al _ ps)=>(CN 2<|MM (aO 22 0 j.aw cO k!)<|VV iC<|VV (bL 3 false false .i64 ((i1:Nat):Int) ((j.ab.length:Nat):Int))<|CC<|BC q2<|BV q2 (bL 3 false true .i64 hI 1000)<|VV (sP (decide (hI<1000)) false q2)<|k:Pk _ [] ps)
   rcases Bool.eq_false_or_eq_true (decide (hI<1000)) with f1 | f1
   · have fP:=of_decide_eq_true f1
     obtain ⟨p5,q6,Ma⟩:=(eM.has aE).elem (i:=i1) o!
     have WZ:bO env (some (.slice 40)) (some j.aw) (some (Zn i1))=some (AV.ptr p5 q6):=Ma
     have TG:bh env hh 26 (AV.ptr p5 (q6+2))=some ((j.ab.g i1).aU):=(eM.has aE).part (t:=26) (j:=2) o! Ma k! rfl
     have WE:cb (some (.slice 3)) (some (j.ab.g i1).aU)=some (Zn (j.ab.g i1).aB.length):=(((eM.has aE).ok (i:=i1) o!).2.1).len
     obtain ⟨p10,q11,akP⟩:=(eM.has aE).elem (i:=i1) o!
     have ix9:bO env (some (.slice 40)) (some j.aw) (some (Zn i1))=some (AV.ptr p10 q11):=akP
     have Iw:bh env hh 38 (AV.ptr p10 (q11+3))=some ((j.ab.g i1).a_):=(eM.has aE).part (t:=38) (j:=3) o! akP k! rfl
     have GP:cb (some (.slice 83)) (some (j.ab.g i1).a_)=some (Zn (j.ab.g i1).aA.length):=(((eM.has aE).ok (i:=i1) o!).2.2).len
     obtain ⟨p15,q16,afx⟩:=(eM.has aE).elem (i:=i1) o!
     have anK:bO env (some (.slice 40)) (some j.aw) (some (Zn i1))=some (AV.ptr p15 q16):=afx
     have Oo:bh env hh 9 (AV.ptr p15 (q16+0))=some (AV.str (j.ab.g i1).name):=(eM.has aE).part (t:=9) (j:=0) o! afx k! rfl
     have aoI:((j.ab.g i1).name).length<2^60:=((eM.has aE).ok (i:=i1) o!).1
     have c19:AV.same 20 j.aw j.aw=true:=(eM.has aE).same 19
     have c20:AV.same 20 (j.ab.g i1).aU (j.ab.g i1).aU=true:=(((eM.has aE).ok (i:=i1) o!).2.1).same 19
     have c21:AV.same 20 (j.ab.g i1).a_ (j.ab.g i1).a_=true:=(((eM.has aE).ok (i:=i1) o!).2.2).same 19
     have u22:=fi 3 false true i1 1 o!
     exact cE.round (by simp only[mQ,f1,aj,ai]) (pk (d) _ _ hh _ hh (dJ<|BB f1<|CN 2<|MM (aO 22 0 j.aw cO k!)<|CC<|VV WZ<|CC<|MM TG<|VV WE<|CN 2<|MM (aO 22 0 j.aw cO k!)<|CC<|VV ix9<|CC<|MM Iw<|VV GP<|CN 2<|MM (aO 22 0 j.aw cO k!)<|CC<|VV anK<|CC<|MM Oo<|CN 4<|HH (aO 22 0 j.aw cO k!)<|HH c19<|HH TG<|HH c20<|HH (aO 22 0 j.aw cO k!)<|HH c19<|HH Iw<|HH c21<|HH (aO 22 0 j.aw cO k!)<|HH c19<|HH Oo<|HH (show AV.same 20 (AV.str (j.ab.g i1).name) (AV.str (j.ab.g i1).name)=true from mf 19 _)<|CC<|VV u22<|CC<|ZZ) k!) (bE.refl aI) _ k! (fun x=>Co j cU eM eR mZ o8 (i1+1) (IntKind.i64.wrap ((IntKind.i64.wrap ((IntKind.i64.wrap (hI+(((j.ab.g i1).aB.length:Nat):Int)))+(((j.ab.g i1).aA.length:Nat):Int)))+(IntKind.i64.wrap (Int.tdiv ((List.length ((j.ab.g i1).name):Nat):Int) 20)))) o! x hh aI aE cO)
   · exact cE.out hI (by simp only[mQ,f1,aj,ai]) (pk (d) _ _ hh _ hh (dJ<|BB f1<|ZZ) k!) (bE.refl aI) trivial k!
def fC (j:cx) (ab:Int):Bool:=(bif (bif (decide (ab<((j.ab.length:Nat):Int))) then (bif (decide (((j.ab.length:Nat):Int)≤64)) then true else (bif (decide (80<((j.ab.length:Nat):Int))) then true else (bif (decide (4<((j.af.length:Nat):Int))) then (bif (decide (((j.af.length:Nat):Int)≤16)) then true else (decide (20<((j.af.length:Nat):Int)))) else (decide (20<((j.af.length:Nat):Int)))))) else (bif (decide (80<((j.ab.length:Nat):Int))) then true else (bif (decide (4<((j.af.length:Nat):Int))) then (bif (decide (((j.af.length:Nat):Int)≤16)) then true else (decide (20<((j.af.length:Nat):Int)))) else (decide (20<((j.af.length:Nat):Int)))))) then true else (decide (120<(mQ j j.ab.length 0 (lB j j.af.length 0 0)))))
theorem WG {d:Nat} {h:aC} (j:cx) (ab:Int) (bV:aR.ok h j) (ch:Tidy h):cN (d+1) (.fn 4) [(AV.agg [j.aw,j.ao]),(Zi ab)] h= .ret (AV.bool (fC j ab)) h:=by
 obtain ⟨h1,di,cS,jU,bm,bP⟩:=jE ch (aM.cells [j.aw,j.ao] 25 false)
 have bA:Has h h1:=bP
 obtain ⟨Ae,uE⟩:∃Ae:Nat→AV,Ev env (cN (d)) iA ⟨((AV.agg [j.aw,j.ao])::(Zi ab)::(Pt h.nx)::AV.undef::(AV.bool false)::jX 102),h1,[],.no⟩ .normal ⟨((AV.agg [j.aw,j.ao])::(Zi ab)::(Pt h.nx)::AV.undef::(AV.bool false)::AV.undef::AV.undef::AV.undef::rx Ae 8 34 ((AV.bool (bif (decide (ab<((j.ab.length:Nat):Int))) then (bif (decide (((j.ab.length:Nat):Int)≤64)) then true else (bif (decide (80<((j.ab.length:Nat):Int))) then true else (bif (decide (4<((j.af.length:Nat):Int))) then (bif (decide (((j.af.length:Nat):Int)≤16)) then true else (decide (20<((j.af.length:Nat):Int)))) else (decide (20<((j.af.length:Nat):Int)))))) else (bif (decide (80<((j.ab.length:Nat):Int))) then true else (bif (decide (4<((j.af.length:Nat):Int))) then (bif (decide (((j.af.length:Nat):Int)≤16)) then true else (decide (20<((j.af.length:Nat):Int)))) else (decide (20<((j.af.length:Nat):Int)))))))::jX 64)),h1,[],.no⟩:=by
  have EC:cb (some (.slice 40)) (some j.aw)=some (Zn j.ab.length):=bV.1.len
  rcases Bool.eq_false_or_eq_true (decide (ab<((j.ab.length:Nat):Int))) with f0 | f0
  · have D_:cb (some (.slice 40)) (some j.aw)=some (Zn j.ab.length):=bV.1.len
    rcases Bool.eq_false_or_eq_true (decide (((j.ab.length:Nat):Int)≤64)) with f1 | f1
    · have ev:=pk (d) iA ((AV.agg [j.aw,j.ao])::(Zi ab)::(Pt h.nx)::AV.undef::(AV.bool false)::jX 102) h1 .normal h1 (CC<|MM (aO 22 0 j.aw bm k!)<|VV EC<|CC<|VV (dw 3 false false .i64 ((j.ab.length:Nat):Int) ab)<|CC<|BC f0<|BM f0 (aO 22 0 j.aw bm k!)<|BV f0 D_<|BV f0 (vF 3 false true .i64 ((j.ab.length:Nat):Int) 64)<|VV (sP (decide (((j.ab.length:Nat):Int)≤64)) false f0)<|CC<|BB f1<|BB f1<|BB f1<|BV f1 (yA true f1)<|CC<|TT<|TT<|TT<|TT<|TT<|TT<|CN 2<|TT<|TT<|TT<|TT<|CC<|ZZ) k!
      rw[show (bif (decide (ab<((j.ab.length:Nat):Int))) then (bif (decide (((j.ab.length:Nat):Int)≤64)) then true else (bif (decide (80<((j.ab.length:Nat):Int))) then true else (bif (decide (4<((j.af.length:Nat):Int))) then (bif (decide (((j.af.length:Nat):Int)≤16)) then true else (decide (20<((j.af.length:Nat):Int)))) else (decide (20<((j.af.length:Nat):Int)))))) else (bif (decide (80<((j.ab.length:Nat):Int))) then true else (bif (decide (4<((j.af.length:Nat):Int))) then (bif (decide (((j.af.length:Nat):Int)≤16)) then true else (decide (20<((j.af.length:Nat):Int)))) else (decide (20<((j.af.length:Nat):Int))))))=true by simp only[f0,f1,aj,ai]]
      exact kz ev k!
    · have TP:cb (some (.slice 40)) (some j.aw)=some (Zn j.ab.length):=bV.1.len
      rcases Bool.eq_false_or_eq_true (decide (80<((j.ab.length:Nat):Int))) with f2 | f2
      · have ev:=pk (d) iA ((AV.agg [j.aw,j.ao])::(Zi ab)::(Pt h.nx)::AV.undef::(AV.bool false)::jX 102) h1 .normal h1 (CC<|MM (aO 22 0 j.aw bm k!)<|VV EC<|CC<|VV (dw 3 false false .i64 ((j.ab.length:Nat):Int) ab)<|CC<|BC f0<|BM f0 (aO 22 0 j.aw bm k!)<|BV f0 D_<|BV f0 (vF 3 false true .i64 ((j.ab.length:Nat):Int) 64)<|VV (sP (decide (((j.ab.length:Nat):Int)≤64)) false f0)<|CC<|BC f1<|BM f1 (aO 22 0 j.aw bm k!)<|BV f1 TP<|BV f1 (dw 3 false true .i64 ((j.ab.length:Nat):Int) 80)<|VV (cf (a:=some (AV.bool true)) (b:=some (AV.bool (decide (80<((j.ab.length:Nat):Int))))) f1)<|CC<|BB f2<|BB f2<|BB f2<|BB f2<|BB f2<|BV f2 (yA true f2)<|CC<|TT<|TT<|TT<|TT<|CC<|ZZ) k!
        rw[show (bif (decide (ab<((j.ab.length:Nat):Int))) then (bif (decide (((j.ab.length:Nat):Int)≤64)) then true else (bif (decide (80<((j.ab.length:Nat):Int))) then true else (bif (decide (4<((j.af.length:Nat):Int))) then (bif (decide (((j.af.length:Nat):Int)≤16)) then true else (decide (20<((j.af.length:Nat):Int)))) else (decide (20<((j.af.length:Nat):Int)))))) else (bif (decide (80<((j.ab.length:Nat):Int))) then true else (bif (decide (4<((j.af.length:Nat):Int))) then (bif (decide (((j.af.length:Nat):Int)≤16)) then true else (decide (20<((j.af.length:Nat):Int)))) else (decide (20<((j.af.length:Nat):Int))))))=true by simp only[f0,f1,f2,aj,ai]]
        exact kz ev k!
      · have WE:cb (some (.slice 37)) (some j.ao)=some (Zn j.af.length):=bV.2.len
        rcases Bool.eq_false_or_eq_true (decide (4<((j.af.length:Nat):Int))) with f3 | f3
        · have tg:cb (some (.slice 37)) (some j.ao)=some (Zn j.af.length):=bV.2.len
          rcases Bool.eq_false_or_eq_true (decide (((j.af.length:Nat):Int)≤16)) with f4 | f4
          · have ev:=pk (d) iA ((AV.agg [j.aw,j.ao])::(Zi ab)::(Pt h.nx)::AV.undef::(AV.bool false)::jX 102) h1 .normal h1 (CC<|MM (aO 22 0 j.aw bm k!)<|VV EC<|CC<|VV (dw 3 false false .i64 ((j.ab.length:Nat):Int) ab)<|CC<|BC f0<|BM f0 (aO 22 0 j.aw bm k!)<|BV f0 D_<|BV f0 (vF 3 false true .i64 ((j.ab.length:Nat):Int) 64)<|VV (sP (decide (((j.ab.length:Nat):Int)≤64)) false f0)<|CC<|BC f1<|BM f1 (aO 22 0 j.aw bm k!)<|BV f1 TP<|BV f1 (dw 3 false true .i64 ((j.ab.length:Nat):Int) 80)<|VV (cf (a:=some (AV.bool true)) (b:=some (AV.bool (decide (80<((j.ab.length:Nat):Int))))) f1)<|CC<|BC f2<|BM f2 (aO 23 1 j.ao bm k!)<|BV f2 WE<|BV f2 (dw 3 false true .i64 ((j.af.length:Nat):Int) 4)<|BC f2<|BC f3<|BM f3 (aO 23 1 j.ao bm k!)<|BV f3 tg<|BV f3 (vF 3 false true .i64 ((j.af.length:Nat):Int) 16)<|BV f2 (sP (decide (((j.af.length:Nat):Int)≤16)) false f3)<|VV (cf (a:=some (AV.bool true)) (b:=some (AV.bool (decide (((j.af.length:Nat):Int)≤16)))) f2)<|CC<|BB f4<|BB f4<|BB f4<|BV f4 (yA true f4)<|ZZ) k!
            rw[show (bif (decide (ab<((j.ab.length:Nat):Int))) then (bif (decide (((j.ab.length:Nat):Int)≤64)) then true else (bif (decide (80<((j.ab.length:Nat):Int))) then true else (bif (decide (4<((j.af.length:Nat):Int))) then (bif (decide (((j.af.length:Nat):Int)≤16)) then true else (decide (20<((j.af.length:Nat):Int)))) else (decide (20<((j.af.length:Nat):Int)))))) else (bif (decide (80<((j.ab.length:Nat):Int))) then true else (bif (decide (4<((j.af.length:Nat):Int))) then (bif (decide (((j.af.length:Nat):Int)≤16)) then true else (decide (20<((j.af.length:Nat):Int)))) else (decide (20<((j.af.length:Nat):Int))))))=true by simp only[f0,f1,f2,f3,f4,aj,ai]]
            exact kz ev k!
          · have ZJ:cb (some (.slice 37)) (some j.ao)=some (Zn j.af.length):=bV.2.len
            have ev:=pk (d) iA ((AV.agg [j.aw,j.ao])::(Zi ab)::(Pt h.nx)::AV.undef::(AV.bool false)::jX 102) h1 .normal h1 (CC<|MM (aO 22 0 j.aw bm k!)<|VV EC<|CC<|VV (dw 3 false false .i64 ((j.ab.length:Nat):Int) ab)<|CC<|BC f0<|BM f0 (aO 22 0 j.aw bm k!)<|BV f0 D_<|BV f0 (vF 3 false true .i64 ((j.ab.length:Nat):Int) 64)<|VV (sP (decide (((j.ab.length:Nat):Int)≤64)) false f0)<|CC<|BC f1<|BM f1 (aO 22 0 j.aw bm k!)<|BV f1 TP<|BV f1 (dw 3 false true .i64 ((j.ab.length:Nat):Int) 80)<|VV (cf (a:=some (AV.bool true)) (b:=some (AV.bool (decide (80<((j.ab.length:Nat):Int))))) f1)<|CC<|BC f2<|BM f2 (aO 23 1 j.ao bm k!)<|BV f2 WE<|BV f2 (dw 3 false true .i64 ((j.af.length:Nat):Int) 4)<|BC f2<|BC f3<|BM f3 (aO 23 1 j.ao bm k!)<|BV f3 tg<|BV f3 (vF 3 false true .i64 ((j.af.length:Nat):Int) 16)<|BV f2 (sP (decide (((j.af.length:Nat):Int)≤16)) false f3)<|VV (cf (a:=some (AV.bool true)) (b:=some (AV.bool (decide (((j.af.length:Nat):Int)≤16)))) f2)<|CC<|BC f4<|BM f4 (aO 23 1 j.ao bm k!)<|BV f4 ZJ<|BV f4 (dw 3 false true .i64 ((j.af.length:Nat):Int) 20)<|VV (cf (a:=some (AV.bool true)) (b:=some (AV.bool (decide (20<((j.af.length:Nat):Int))))) f4)<|ZZ) k!
            rw[show (bif (decide (ab<((j.ab.length:Nat):Int))) then (bif (decide (((j.ab.length:Nat):Int)≤64)) then true else (bif (decide (80<((j.ab.length:Nat):Int))) then true else (bif (decide (4<((j.af.length:Nat):Int))) then (bif (decide (((j.af.length:Nat):Int)≤16)) then true else (decide (20<((j.af.length:Nat):Int)))) else (decide (20<((j.af.length:Nat):Int)))))) else (bif (decide (80<((j.ab.length:Nat):Int))) then true else (bif (decide (4<((j.af.length:Nat):Int))) then (bif (decide (((j.af.length:Nat):Int)≤16)) then true else (decide (20<((j.af.length:Nat):Int)))) else (decide (20<((j.af.length:Nat):Int))))))=(decide (20<((j.af.length:Nat):Int))) by simp only[f0,f1,f2,f3,f4,aj,ai]]
            exact kz ev k!
        · have tg:cb (some (.slice 37)) (some j.ao)=some (Zn j.af.length):=bV.2.len
          have ev:=pk (d) iA ((AV.agg [j.aw,j.ao])::(Zi ab)::(Pt h.nx)::AV.undef::(AV.bool false)::jX 102) h1 .normal h1 (CC<|MM (aO 22 0 j.aw bm k!)<|VV EC<|CC<|VV (dw 3 false false .i64 ((j.ab.length:Nat):Int) ab)<|CC<|BC f0<|BM f0 (aO 22 0 j.aw bm k!)<|BV f0 D_<|BV f0 (vF 3 false true .i64 ((j.ab.length:Nat):Int) 64)<|VV (sP (decide (((j.ab.length:Nat):Int)≤64)) false f0)<|CC<|BC f1<|BM f1 (aO 22 0 j.aw bm k!)<|BV f1 TP<|BV f1 (dw 3 false true .i64 ((j.ab.length:Nat):Int) 80)<|VV (cf (a:=some (AV.bool true)) (b:=some (AV.bool (decide (80<((j.ab.length:Nat):Int))))) f1)<|CC<|BC f2<|BM f2 (aO 23 1 j.ao bm k!)<|BV f2 WE<|BV f2 (dw 3 false true .i64 ((j.af.length:Nat):Int) 4)<|BC f2<|BB f3<|BB f3<|BB f3<|BB f3<|BV f2 (yB false f3)<|VV (pcf true false f2)<|CC<|FF<|CC<|FF<|MM (aO 23 1 j.ao bm k!)<|FF<|VV tg<|FF<|VV (dw 3 false true .i64 ((j.af.length:Nat):Int) 20)<|CC<|ZZ) k!
          rw[show (bif (decide (ab<((j.ab.length:Nat):Int))) then (bif (decide (((j.ab.length:Nat):Int)≤64)) then true else (bif (decide (80<((j.ab.length:Nat):Int))) then true else (bif (decide (4<((j.af.length:Nat):Int))) then (bif (decide (((j.af.length:Nat):Int)≤16)) then true else (decide (20<((j.af.length:Nat):Int)))) else (decide (20<((j.af.length:Nat):Int)))))) else (bif (decide (80<((j.ab.length:Nat):Int))) then true else (bif (decide (4<((j.af.length:Nat):Int))) then (bif (decide (((j.af.length:Nat):Int)≤16)) then true else (decide (20<((j.af.length:Nat):Int)))) else (decide (20<((j.af.length:Nat):Int))))))=(decide (20<((j.af.length:Nat):Int))) by simp only[f0,f1,f2,f3,aj,ai]]
          exact kz ev k!
  · have D_:cb (some (.slice 40)) (some j.aw)=some (Zn j.ab.length):=bV.1.len
    rcases Bool.eq_false_or_eq_true (decide (80<((j.ab.length:Nat):Int))) with f1 | f1
    · have ev:=pk (d) iA ((AV.agg [j.aw,j.ao])::(Zi ab)::(Pt h.nx)::AV.undef::(AV.bool false)::jX 102) h1 .normal h1 (CC<|MM (aO 22 0 j.aw bm k!)<|VV EC<|CC<|VV (dw 3 false false .i64 ((j.ab.length:Nat):Int) ab)<|CC<|BB f0<|BB f0<|BB f0<|BV f0 (yB false f0)<|CC<|FF<|CC<|FF<|MM (aO 22 0 j.aw bm k!)<|FF<|VV D_<|FF<|VV (dw 3 false true .i64 ((j.ab.length:Nat):Int) 80)<|CN 2<|BB f1<|BB f1<|BB f1<|BB f1<|BB f1<|BV f1 (yA true f1)<|CC<|TT<|TT<|TT<|TT<|CC<|ZZ) k!
      rw[show (bif (decide (ab<((j.ab.length:Nat):Int))) then (bif (decide (((j.ab.length:Nat):Int)≤64)) then true else (bif (decide (80<((j.ab.length:Nat):Int))) then true else (bif (decide (4<((j.af.length:Nat):Int))) then (bif (decide (((j.af.length:Nat):Int)≤16)) then true else (decide (20<((j.af.length:Nat):Int)))) else (decide (20<((j.af.length:Nat):Int)))))) else (bif (decide (80<((j.ab.length:Nat):Int))) then true else (bif (decide (4<((j.af.length:Nat):Int))) then (bif (decide (((j.af.length:Nat):Int)≤16)) then true else (decide (20<((j.af.length:Nat):Int)))) else (decide (20<((j.af.length:Nat):Int))))))=true by simp only[f0,f1,aj,ai]]
      exact kz ev k!
    · have TP:cb (some (.slice 37)) (some j.ao)=some (Zn j.af.length):=bV.2.len
      rcases Bool.eq_false_or_eq_true (decide (4<((j.af.length:Nat):Int))) with f2 | f2
      · have WE:cb (some (.slice 37)) (some j.ao)=some (Zn j.af.length):=bV.2.len
        rcases Bool.eq_false_or_eq_true (decide (((j.af.length:Nat):Int)≤16)) with f3 | f3
        · have ev:=pk (d) iA ((AV.agg [j.aw,j.ao])::(Zi ab)::(Pt h.nx)::AV.undef::(AV.bool false)::jX 102) h1 .normal h1 (CC<|MM (aO 22 0 j.aw bm k!)<|VV EC<|CC<|VV (dw 3 false false .i64 ((j.ab.length:Nat):Int) ab)<|CC<|BB f0<|BB f0<|BB f0<|BV f0 (yB false f0)<|CC<|FF<|CC<|FF<|MM (aO 22 0 j.aw bm k!)<|FF<|VV D_<|FF<|VV (dw 3 false true .i64 ((j.ab.length:Nat):Int) 80)<|CN 2<|BC f1<|BM f1 (aO 23 1 j.ao bm k!)<|BV f1 TP<|BV f1 (dw 3 false true .i64 ((j.af.length:Nat):Int) 4)<|BC f1<|BC f2<|BM f2 (aO 23 1 j.ao bm k!)<|BV f2 WE<|BV f2 (vF 3 false true .i64 ((j.af.length:Nat):Int) 16)<|BV f1 (sP (decide (((j.af.length:Nat):Int)≤16)) false f2)<|VV (cf (a:=some (AV.bool true)) (b:=some (AV.bool (decide (((j.af.length:Nat):Int)≤16)))) f1)<|CC<|BB f3<|BB f3<|BB f3<|BV f3 (yA true f3)<|ZZ) k!
          rw[show (bif (decide (ab<((j.ab.length:Nat):Int))) then (bif (decide (((j.ab.length:Nat):Int)≤64)) then true else (bif (decide (80<((j.ab.length:Nat):Int))) then true else (bif (decide (4<((j.af.length:Nat):Int))) then (bif (decide (((j.af.length:Nat):Int)≤16)) then true else (decide (20<((j.af.length:Nat):Int)))) else (decide (20<((j.af.length:Nat):Int)))))) else (bif (decide (80<((j.ab.length:Nat):Int))) then true else (bif (decide (4<((j.af.length:Nat):Int))) then (bif (decide (((j.af.length:Nat):Int)≤16)) then true else (decide (20<((j.af.length:Nat):Int)))) else (decide (20<((j.af.length:Nat):Int))))))=true by simp only[f0,f1,f2,f3,aj,ai]]
          exact kz ev k!
        · have tg:cb (some (.slice 37)) (some j.ao)=some (Zn j.af.length):=bV.2.len
          have ev:=pk (d) iA ((AV.agg [j.aw,j.ao])::(Zi ab)::(Pt h.nx)::AV.undef::(AV.bool false)::jX 102) h1 .normal h1 (CC<|MM (aO 22 0 j.aw bm k!)<|VV EC<|CC<|VV (dw 3 false false .i64 ((j.ab.length:Nat):Int) ab)<|CC<|BB f0<|BB f0<|BB f0<|BV f0 (yB false f0)<|CC<|FF<|CC<|FF<|MM (aO 22 0 j.aw bm k!)<|FF<|VV D_<|FF<|VV (dw 3 false true .i64 ((j.ab.length:Nat):Int) 80)<|CN 2<|BC f1<|BM f1 (aO 23 1 j.ao bm k!)<|BV f1 TP<|BV f1 (dw 3 false true .i64 ((j.af.length:Nat):Int) 4)<|BC f1<|BC f2<|BM f2 (aO 23 1 j.ao bm k!)<|BV f2 WE<|BV f2 (vF 3 false true .i64 ((j.af.length:Nat):Int) 16)<|BV f1 (sP (decide (((j.af.length:Nat):Int)≤16)) false f2)<|VV (cf (a:=some (AV.bool true)) (b:=some (AV.bool (decide (((j.af.length:Nat):Int)≤16)))) f1)<|CC<|BC f3<|BM f3 (aO 23 1 j.ao bm k!)<|BV f3 tg<|BV f3 (dw 3 false true .i64 ((j.af.length:Nat):Int) 20)<|VV (cf (a:=some (AV.bool true)) (b:=some (AV.bool (decide (20<((j.af.length:Nat):Int))))) f3)<|ZZ) k!
          rw[show (bif (decide (ab<((j.ab.length:Nat):Int))) then (bif (decide (((j.ab.length:Nat):Int)≤64)) then true else (bif (decide (80<((j.ab.length:Nat):Int))) then true else (bif (decide (4<((j.af.length:Nat):Int))) then (bif (decide (((j.af.length:Nat):Int)≤16)) then true else (decide (20<((j.af.length:Nat):Int)))) else (decide (20<((j.af.length:Nat):Int)))))) else (bif (decide (80<((j.ab.length:Nat):Int))) then true else (bif (decide (4<((j.af.length:Nat):Int))) then (bif (decide (((j.af.length:Nat):Int)≤16)) then true else (decide (20<((j.af.length:Nat):Int)))) else (decide (20<((j.af.length:Nat):Int))))))=(decide (20<((j.af.length:Nat):Int))) by simp only[f0,f1,f2,f3,aj,ai]]
          exact kz ev k!
      · have WE:cb (some (.slice 37)) (some j.ao)=some (Zn j.af.length):=bV.2.len
        have ev:=pk (d) iA ((AV.agg [j.aw,j.ao])::(Zi ab)::(Pt h.nx)::AV.undef::(AV.bool false)::jX 102) h1 .normal h1 (CC<|MM (aO 22 0 j.aw bm k!)<|VV EC<|CC<|VV (dw 3 false false .i64 ((j.ab.length:Nat):Int) ab)<|CC<|BB f0<|BB f0<|BB f0<|BV f0 (yB false f0)<|CC<|FF<|CC<|FF<|MM (aO 22 0 j.aw bm k!)<|FF<|VV D_<|FF<|VV (dw 3 false true .i64 ((j.ab.length:Nat):Int) 80)<|CN 2<|BC f1<|BM f1 (aO 23 1 j.ao bm k!)<|BV f1 TP<|BV f1 (dw 3 false true .i64 ((j.af.length:Nat):Int) 4)<|BC f1<|BB f2<|BB f2<|BB f2<|BB f2<|BV f1 (yB false f2)<|VV (pcf true false f1)<|CC<|FF<|CC<|FF<|MM (aO 23 1 j.ao bm k!)<|FF<|VV WE<|FF<|VV (dw 3 false true .i64 ((j.af.length:Nat):Int) 20)<|CC<|ZZ) k!
        rw[show (bif (decide (ab<((j.ab.length:Nat):Int))) then (bif (decide (((j.ab.length:Nat):Int)≤64)) then true else (bif (decide (80<((j.ab.length:Nat):Int))) then true else (bif (decide (4<((j.af.length:Nat):Int))) then (bif (decide (((j.af.length:Nat):Int)≤16)) then true else (decide (20<((j.af.length:Nat):Int)))) else (decide (20<((j.af.length:Nat):Int)))))) else (bif (decide (80<((j.ab.length:Nat):Int))) then true else (bif (decide (4<((j.af.length:Nat):Int))) then (bif (decide (((j.af.length:Nat):Int)≤16)) then true else (decide (20<((j.af.length:Nat):Int)))) else (decide (20<((j.af.length:Nat):Int))))))=(decide (20<((j.af.length:Nat):Int))) by simp only[f0,f1,f2,aj,ai]]
        exact kz ev k!
 rcases Bool.eq_false_or_eq_true (bif (decide (ab<((j.ab.length:Nat):Int))) then (bif (decide (((j.ab.length:Nat):Int)≤64)) then true else (bif (decide (80<((j.ab.length:Nat):Int))) then true else (bif (decide (4<((j.af.length:Nat):Int))) then (bif (decide (((j.af.length:Nat):Int)≤16)) then true else (decide (20<((j.af.length:Nat):Int)))) else (decide (20<((j.af.length:Nat):Int)))))) else (bif (decide (80<((j.ab.length:Nat):Int))) then true else (bif (decide (4<((j.af.length:Nat):Int))) then (bif (decide (((j.af.length:Nat):Int)≤16)) then true else (decide (20<((j.af.length:Nat):Int)))) else (decide (20<((j.af.length:Nat):Int)))))) with f0 | f0
 · have e:fC j ab=true:=by simp only[fC,f0,aj,ai]
   rw[e]
   exact aH rfl (bb Tryz.func4 Kl rfl (.inr rfl) (pk (d) _ _ h _ h1 (NN di (fun i=>(Pt i))<|CC<|LL uE<|BC f0<|ZZ) k!) k!) bA rfl
 · obtain ⟨EB,h5,ft,jQ,adx⟩:=Cn (d:=d) (h:=h) j h.nx bV.1 bV.2 bV j.af.length 0 0 o! (fun k_=>(((AV.agg [j.aw,j.ao])::(Zi ab)::(Pt h.nx)::AV.undef::(AV.bool false)::(Zi 0)::(Zi 0)::AV.undef::rx Ae 8 34 ((AV.bool (bif (decide (ab<((j.ab.length:Nat):Int))) then (bif (decide (((j.ab.length:Nat):Int)≤64)) then true else (bif (decide (80<((j.ab.length:Nat):Int))) then true else (bif (decide (4<((j.af.length:Nat):Int))) then (bif (decide (((j.af.length:Nat):Int)≤16)) then true else (decide (20<((j.af.length:Nat):Int)))) else (decide (20<((j.af.length:Nat):Int)))))) else (bif (decide (80<((j.ab.length:Nat):Int))) then true else (bif (decide (4<((j.af.length:Nat):Int))) then (bif (decide (((j.af.length:Nat):Int)≤16)) then true else (decide (20<((j.af.length:Nat):Int)))) else (decide (20<((j.af.length:Nat):Int)))))))::jX 64)):List AV).getD k_ AV.undef) h1 cS bA bm
   have pZ:=jQ.y
   have hG:Has h h5:=bA.trans jQ.a
   obtain ⟨yl6,h7,lu,aaL,UD⟩:=Co (d:=d) (h:=h) j h.nx bV.1 bV.2 bV j.ab.length 0 (lB j j.af.length 0 0) o! (fun k_=>(((EB 0)::(EB 1)::(Pt h.nx)::(EB 3)::(EB 4)::(Zi (lB j j.af.length 0 0))::(EB 6)::(Zi 0)::rx EB 8 99 []):List AV).getD k_ AV.undef) h5 pZ hG (jQ.a _ _ bm)
   have dm:Has h h7:=hG.trans aaL.a
   have e:fC j ab=(decide (120<(mQ j j.ab.length 0 (lB j j.af.length 0 0)))):=by simp only[fC,f0,aj,ai]
   rw[e]
   exact aH rfl (bb Tryz.func4 Kl rfl (.inr rfl) (pk (d) _ _ h _ h7 (NN di (fun i=>(Pt i))<|CC<|LL uE<|BB f0<|CN 2<|LL ft<|CC<|LL lu<|CC<|VV (dw 3 false true .i64 (mQ j j.ab.length 0 (lB j j.af.length 0 0)) 120)<|CC<|ZZ) k!) k!) dm rfl
structure aim (j:cx):Prop where
 nt:j.ab.length≤64
 nr:j.af.length≤16
 tk:∀i,i<j.ab.length→0≤(j.ab.g i).takes∧(j.ab.g i).takes≤100000
 nb:∀i,i<j.ab.length→∀q,q<(j.ab.g i).aB.length→0≤(j.ab.g i).aB.g q∧(j.ab.g i).aB.g q<(j.ab.length:Int)
 ub:∀i,i<j.ab.length→∀q,q<(j.ab.g i).aA.length→0≤((j.ab.g i).aA.g q).ah∧((j.ab.g i).aA.g q).ah<(j.af.length:Int)
theorem zp {i0:Nat} {j:cx}:∀{k i:Nat} {r:Int},iL i0 j k i=some r→r≠0
 | 0,i,r,h=>by cases h
 | k+1,i,r,h=>by
   rw[iL] at h
   cases q:decide ((j.af.g i).name=(j.af.g i0).name) with
   | true=>rw[q] at h;cases h;decide
   | false=>rw[q] at h;exact zp (k:=k) h
theorem zq {j:cx}:∀{k i:Nat} {r:Int},gH j k i=some r→r≠0
 | 0,i,r,h=>by cases h
 | k+1,i,r,h=>by
   rw[gH] at h
   cases a:fI (j.af.g i).name with
   | false=>rw[a] at h;cases h;decide
   | true=>
     cases b:iL i j i 0 with
     | some r0=>rw[a,b] at h;cases h;exact zp b
     | none=>
       by_cases c:bY (j.af.g i)=0
       · rw[a,b,decide_eq_true c] at h;exact zq (k:=k) h
       · rw[a,b,decide_eq_false c] at h;cases h;exact c
theorem AF {j:cx} (h:eQ j=0):aim j:=by
 unfold eQ at h
 by_cases a:16<((j.af.length:Nat):Int)
 · rw[decide_eq_true a] at h;cases h
 · rw[decide_eq_false a] at h
   cases b:gH j j.af.length 0 with
   | some r=>rw[b] at h;exact absurd h (zq b)
   | none=>
     rw[b] at h
     by_cases c:64<((j.ab.length:Nat):Int)
     · rw[decide_eq_true c] at h;cases h
     · rw[decide_eq_false c] at h
       cases e:fu j j.ab.length 0 with
       | some r=>rw[e] at h;exact absurd h (oN.2 r e)
       | none=>
         have t:=fun i (hi:i<j.ab.length)=>xJ (oN.1 e i o! o!)
         exact ⟨by omega,by omega,fun i hi=>(t i hi).1,fun i hi=>(t i hi).2.1,fun i hi=>(t i hi).2.2⟩
theorem vc {p:Prop} (h:p:=by first | omega | assumption | exact (AF (by assumption)).nb | exact (AF (by assumption)).ub | exact Nat.le_trans (AF (by assumption)).nt (by decide)):p:=h
def MJ:Code:=(Tryz.f7.body).getD .skip
theorem Dx:Tryz.f7.body=some MJ:=by kernel_rfl
def bl (j:cx) (au:List Int):Bool×Int:=(bif (decide ((eQ j)=0)) then (bif (!decide (((au.length:Nat):Int)=((j.ab.length:Nat):Int))) then (false,1) else ((oR j au),0)) else (false,(eQ j)))
theorem WH {d:Nat} {h:aC} {aN:AV} (j:cx) (au:List Int) (bV:aR.ok h j) (cL:b8 h .i64 3 aN au) (ch:Tidy h):cN (d+5) (.fn 7) [(AV.agg [j.aw,j.ao]),aN] h= .ret (AV.tuple [(AV.bool (bl j au).1),(Zi (bl j au).2)]) h:=by
 have Ay:=cL.small
 have kb:=bV.1.small
 have kf:=bV.2.small
 obtain ⟨h1,di,cS,jU,bm,bP⟩:=jE ch (aM.cells [j.aw,j.ao] 25 false)
 have bA:Has h h1:=bP
 have k2:=Ws (d:=d+1) j (aR.mono bA bV) cS
 have dJ:=fun {al ps} (k:Pk al _ ps)=>(NN di (fun i=>(Pt i))<|CN 2<|MM (aO 25 0 (AV.agg [j.aw,j.ao]) bm k!)<|EE k2<|CN 2<|VV (vE 29 false true .i64 (eQ j) 0)<|CC<|k:Pk _ [] ps)
 rcases Bool.eq_false_or_eq_true (decide ((eQ j)=0)) with f0 | f0
 · have jf:=of_decide_eq_true f0
   have D_:cb (some (.slice 3)) (some aN)=some (Zn au.length):=cL.len
   have ln5:cb (some (.slice 40)) (some j.aw)=some (Zn j.ab.length):=bV.1.len
   have hX:=fun {al ps} (k:Pk al _ ps)=>(dJ<|BC f0<|BV f0 D_<|BC f0<|BM f0 (aO 22 0 j.aw bm k!)<|BV f0 ln5<|BV f0 (kS 3 false false .i64 ((au.length:Nat):Int) ((j.ab.length:Nat):Int))<|VV (sP (!decide (((au.length:Nat):Int)=((j.ab.length:Nat):Int))) false f0)<|k:Pk _ [] ps)
   rcases Bool.eq_false_or_eq_true (!decide (((au.length:Nat):Int)=((j.ab.length:Nat):Int))) with f1 | f1
   · have fP:=P7 f1
     have e:bl j au=(false,1):=by simp only[bl,f0,f1,aj,ai]
     rw[e]
     exact aH rfl (bb Tryz.func7 Dx rfl (.inr rfl) (pk (d+4) _ _ h _ h1 (hX<|BB f1<|CN 3<|TT<|CN 3<|ZZ) k!) k!) bA rfl
   · have fP:=P9 f1
     have q7:(!decide ((eQ j)=0))=false:=d!
     have k8:=Wz (d:=d) j au (aR.mono bA bV) (cL.has bA) vc vc vc vc cS
     have e:bl j au=((oR j au),0):=by simp only[bl,f0,f1,aj,ai]
     rw[e]
     exact aH rfl (bb Tryz.func7 Dx rfl (.inr rfl) (pk (d+4) _ _ h _ h1 (hX<|BC f1<|VV (kS 29 false true .i64 (eQ j) 0)<|BM q7 (aO 25 0 (AV.agg [j.aw,j.ao]) bm k!)<|CC<|EE k8<|CN 2<|ZZ) k!) k!) bA rfl
 · have q4:(!decide ((eQ j)=0))=true:=d!
   have e:bl j au=(false,(eQ j)):=by simp only[bl,f0,aj,ai]
   rw[e]
   exact aH rfl (bb Tryz.func7 Dx rfl (.inr rfl) (pk (d+4) _ _ h _ h1 (dJ<|BB f0<|BB f0<|BB f0<|BB f0<|BB f0<|BV f0 (yB false f0)<|FF<|CC<|VV (kS 29 false true .i64 (eQ j) 0)<|BB q4<|CN 3<|ZZ) k!) k!) bA rfl
def AG:Code:=(Tryz.f22.body).getD .skip
theorem pJ:Tryz.f22.body=some AG:=by kernel_rfl
def db (j:cx) (au:List Int):Int:=(bif (!decide ((dC j)=0)) then (dC j) else (bif (!decide (((au.length:Nat):Int)=((j.ab.length:Nat):Int))) then 1 else 0))
theorem EW {d:Nat} {h:aC} {aN:AV} (j:cx) (au:List Int) (bV:aR.ok h j) (cL:b8 h .i64 3 aN au) (ch:Tidy h):cN (d+12) (.fn 22) [(AV.agg [j.aw,j.ao]),aN] h= .ret (Zi (db j au)) h:=by
 obtain ⟨h1,di,cS,jU,bm,bP⟩:=jE ch (aM.cells [j.aw,j.ao] 25 false)
 have bA:Has h h1:=bP
 have k2:=Dq (d:=d) j (aR.mono bA bV) cS
 have dJ:=fun {al ps} (k:Pk al _ ps)=>(NN di (fun i=>(Pt i))<|CC<|MM (aO 25 0 (AV.agg [j.aw,j.ao]) bm k!)<|EE k2<|CN 2<|VV (kS 29 false true .i64 (dC j) 0)<|k:Pk _ [] ps)
 rcases Bool.eq_false_or_eq_true (!decide ((dC j)=0)) with f0 | f0
 · have e:db j au=(dC j):=by simp only[db,f0,aj,ai]
   rw[e]
   exact aH rfl (bb Tryz.func22 pJ rfl (.inr rfl) (pk (d+11) _ _ h _ h1 (dJ<|BB f0<|CN 2<|ZZ) k!) k!) bA rfl
 · have D_:cb (some (.slice 3)) (some aN)=some (Zn au.length):=cL.len
   have ln5:cb (some (.slice 40)) (some j.aw)=some (Zn j.ab.length):=bV.1.len
   have hX:=fun {al ps} (k:Pk al _ ps)=>(dJ<|BC f0<|VV D_<|CC<|MM (aO 22 0 j.aw bm k!)<|VV ln5<|VV (kS 3 false false .i64 ((au.length:Nat):Int) ((j.ab.length:Nat):Int))<|k:Pk _ [] ps)
   rcases Bool.eq_false_or_eq_true (!decide (((au.length:Nat):Int)=((j.ab.length:Nat):Int))) with f1 | f1
   · have e:db j au=1:=by simp only[db,f0,f1,aj,ai]
     rw[e]
     exact aH rfl (bb Tryz.func22 pJ rfl (.inr rfl) (pk (d+11) _ _ h _ h1 (hX<|BC f1<|ZZ) k!) k!) bA rfl
   · have e:db j au=0:=by simp only[db,f0,f1,aj,ai]
     rw[e]
     exact aH rfl (bb Tryz.func22 pJ rfl (.inr rfl) (pk (d+11) _ _ h _ h1 (hX<|BC f1<|ZZ) k!) k!) bA rfl
theorem Em {j:cx} {au:List Int} (h:db j au=0):b5 j∧au.length=j.ab.length:=by
 unfold db at h
 by_cases a:dC j=0
 · rw[decide_eq_true a] at h
   by_cases b:((au.length:Nat):Int)=((j.ab.length:Nat):Int)
   · exact ⟨cX a,by omega⟩
   · rw[decide_eq_false b] at h;cases h
 · rw[decide_eq_false a] at h;exact absurd h a
theorem H7 {p:Prop} (h:p:=by first | omega | assumption | exact (Em (by assumption)).1 | exact (Em (by assumption)).2):p:=h
def MK:Code:=(Tryz.f8.body).getD .skip
theorem Km:Tryz.f8.body=some MK:=by kernel_rfl
def bR (j:cx) (au:List Int):Bool×Int:=(bif (!decide ((db j au)=0)) then (false,(db j au)) else ((pw j au),0))
theorem WI {d:Nat} {h:aC} {aN:AV} (j:cx) (au:List Int) (bV:aR.ok h j) (cL:b8 h .i64 3 aN au) (ch:Tidy h):cN (d+13) (.fn 8) [(AV.agg [j.aw,j.ao]),aN] h= .ret (AV.tuple [(AV.bool (bR j au).1),(Zi (bR j au).2)]) h:=by
 have Ay:=cL.small
 have kb:=bV.1.small
 have kf:=bV.2.small
 obtain ⟨h1,di,cS,jU,bm,bP⟩:=jE ch (aM.cells [j.aw,j.ao] 25 false)
 have bA:Has h h1:=bP
 have k2:=EW (d:=d) j au (aR.mono bA bV) (cL.has bA) cS
 have dJ:=fun {al ps} (k:Pk al _ ps)=>(NN di (fun i=>(Pt i))<|CN 2<|MM (aO 25 0 (AV.agg [j.aw,j.ao]) bm k!)<|CC<|EE k2<|CN 2<|VV (kS 29 false true .i64 (db j au) 0)<|k:Pk _ [] ps)
 rcases Bool.eq_false_or_eq_true (!decide ((db j au)=0)) with f0 | f0
 · have jf:=P7 f0
   have e:bR j au=(false,(db j au)):=by simp only[bR,f0,aj,ai]
   rw[e]
   exact aH rfl (bb Tryz.func8 Km rfl (.inr rfl) (pk (d+12) _ _ h _ h1 (dJ<|BB f0<|CN 3<|ZZ) k!) k!) bA rfl
 · have jf:=P9 f0
   have k4:=SE (d:=d+8) j au (aR.mono bA bV) (cL.has bA) H7 H7 cS
   have e:bR j au=((pw j au),0):=by simp only[bR,f0,aj,ai]
   rw[e]
   exact aH rfl (bb Tryz.func8 Km rfl (.inr rfl) (pk (d+12) _ _ h _ h1 (dJ<|BM f0 (aO 25 0 (AV.agg [j.aw,j.ao]) bm k!)<|CC<|EE k4<|CN 2<|ZZ) k!) k!) bA rfl
end
end Go.Proofs.aQ
