import Derived.Test.YtogcojohajankaaGreatW1
import Derived.Test.YtogcojohajankaaGreatW2
import Derived.Test.YtogcojohajankaaGreatW0
namespace Go.Proofs.aJ
open Go.Proofs Ab
set_option maxRecDepth 100000
set_option maxHeartbeats 4000000
set_option linter.unusedVariables false
set_option linter.unusedSimpArgs false
theorem XO {L:List Int} {d s n k:Nat} (hd:d+n≤L.length) (hs:s+n≤L.length) (h0:d≤k) (h1:k<d+n):(br L d s n).g k=L.g (k - d+s):=by
 unfold br
 rw[if_pos ⟨hd,hs⟩,List.g,List.g,List.getD_eq_getElem?_getD,List.getD_eq_getElem?_getD]
 rw[List.getElem?_append_left (by simp only[List.length_append,List.length_take,List.length_drop];omega),List.getElem?_append_right (by rw[List.length_take];omega),List.length_take,show min d L.length=d by omega,List.getElem?_take_of_lt o!,List.getElem?_drop,show s+(k - d)=k - d+s by omega]
def fr (t:List Int) (k:Nat):Int:=t.g (k*2)
def us (t:List Int) (k:Nat):Int:=t.g (k*2+1)
structure mG (t:List Int) (n:Nat):Prop where
 len:t.length=324
 cn:t.g 322=(n:Int)
 lo:1≤n
 hi:n≤161
 zero:fr t 0=0
 up:∀i j,i<j→j<n→fr t i<fr t j
def yY (t:List Int) (m:Int):Nat→Int
 | 0=>0
 | k+1=>if fr t k≤m then us t k else yY t m k
theorem vX {t:List Int} {m:Int} {i:Nat}:∀{n:Nat},i<n→(∀k,i<k→k<n→m<fr t k)→fr t i≤m→yY t m n=us t i
 | 0,h,_,_=>by omega
 | n+1,h,a,b=>by
   rw[yY]
   by_cases e:i=n
   · subst e;rw[if_pos b]
   · rw[if_neg (by have:=a n o! o!;omega)];exact vX o! (fun k q r=>a k q o!) b
theorem An {t:List Int} {m:Int} (h0:fr t 0≤m):∀{n:Nat},1≤n→(∀i j,i<j→j<n→fr t i<fr t j)→∃i,i<n∧fr t i≤m∧∀k,i<k→k<n→m<fr t k
 | 0,h,_=>by omega
 | 1,_,_=>⟨0,by omega,h0,fun k a b=>by omega⟩
 | n+2,_,up=>by
   by_cases e:fr t (n+1)≤m
   · exact ⟨n+1,by omega,e,fun k a b=>by omega⟩
   · obtain ⟨i,a,b,c⟩:=An h0 (n:=n+1) o! (fun i j p q=>up i j p o!)
     exact ⟨i,by omega,b,fun k p q=>by
      by_cases e2:k=n+1
      · subst e2;omega
      · exact c k p o!⟩
structure Ins (t t':List Int) (n i:Nat) (minute:Int):Prop where
 len:t'.length=324
 cn:t'.g 322=(n:Int)+1
 mark:t'.g 323=t.g 323
 lof:∀k,k<i→fr t' k=fr t k
 lou:∀k,k<i→us t' k=us t k
 atf:fr t' i=minute
 atu:us t' i=us t (i - 1)
 hif:∀k,i<k→k≤n→fr t' k=fr t (k - 1)
 hiu:∀k,i<k→k≤n→us t' k=us t (k - 1)
theorem XP {t L:List Int} {n i:Nat} {minute:Int} (ln:t.length=324) (hi:n≤160) (cn:t.g 322=(n:Int)) (h1:1≤i) (h2:i≤n) (hl:L.length=324) (lo:∀k,k<i*2→L.g k=t.g k) (up:∀k,(i+1)*2≤k→k<(n+1)*2→L.g k=t.g (k - 2)) (e:∀k,322≤k→L.g k=t.g k) (x:Int) (hx:x=us t (i - 1)):
 Ins t (((L.set (i*2) minute).set (i*2+1) x).set 322 (((L.set (i*2) minute).set (i*2+1) x).g 322+1)) n i minute:=by
 have e2:((L.set (i*2) minute).set (i*2+1) x).g 322=t.g 322:=by
  rw[bj o!,bj o!,e 322 o!]
 rw[e2]
 refine ⟨by simp only[List.length_set,hl],?_,?_,fun k hk=>?_,fun k hk=>?_,?_,?_,fun k a b=>?_,fun k a b=>?_⟩
 · rw[iL (by rw[List.length_set,List.length_set,hl];omega),cn]
 · rw[bj o!,bj o!,bj o!,e 323 o!]
 · rw[fr,fr,bj o!,bj o!,bj o!,lo _ o!]
 · rw[us,us,bj o!,bj o!,bj o!,lo _ o!]
 · rw[fr,bj o!,bj o!,iL (by rw[hl];omega)]
 · rw[us,bj o!,iL (by rw[List.length_set,hl];omega),hx]
 · rw[fr,fr,bj o!,bj o!,bj o!,up _ o! o!,show k*2 - 2=(k - 1)*2 by omega]
 · rw[us,us,bj o!,bj o!,bj o!,up _ o! o!,show k*2+1 - 2=(k - 1)*2+1 by omega]
theorem XQ {minute:Int} {t:List Int} {n:Nat} (h0:fr t 0=0) (hm:0≤minute):∀(k:Nat) (v:Nat),v≤n→v≤k→(∀i j,i<j→j<n→fr t i<fr t j)→(∀j,v≤j→j<n→minute≤fr t j)→∃i:Nat,aQ minute t k (v:Int)=(i:Int)∧i≤n∧(∀j,i≤j→j<n→minute≤fr t j)∧∀j,j<i→fr t j<minute
 | 0,v,a,b,up,c=>⟨v,by rw[aQ],a,c,fun j h=>by omega⟩
 | k+1,v,a,b,up,c=>by
   rw[aQ]
   by_cases f0:0<v
   · rw[decide_eq_true (by omega:(0:Int)<(v:Int)),cond_true,show ((v:Int) - 1)=((v - 1:Nat):Int) by omega,Int.toNat_natCast]
     by_cases f1:minute≤fr t (v - 1)
     · rw[decide_eq_true (show minute≤t.g ((v - 1)*2) from f1),cond_true]
       exact XQ h0 hm k (v - 1) o! o! up (fun j p q=>by
        by_cases e:j=v - 1
        · subst e;exact f1
        · exact c j o! q)
     · rw[decide_eq_false (show ¬minute≤t.g ((v - 1)*2) from f1),cond_false]
       exact ⟨v,rfl,a,c,fun j h=>by
        by_cases e:j=v - 1
        · subst e;omega
        · have:=up j (v - 1) o! o!;omega⟩
   · rw[decide_eq_false (by omega:¬(0:Int)<(v:Int)),cond_false];exact ⟨v,rfl,a,c,fun j h=>by omega⟩
theorem ae4 {t:List Int} {n:Nat} (T:mG t n) (hn:n≤160) {minute:Int} (hm:0≤minute):∃i:Nat,(bz t minute).1=(i:Int)∧(∀j,j<i→fr t j<minute)∧(∀j,i≤j→j<n→minute≤fr t j)∧((i<n∧fr t i=minute∧(bz t minute).2=t)∨(1≤i∧i≤n∧(i<n→minute<fr t i)∧Ins t (bz t minute).2 n i minute)):=by
 obtain ⟨i,e,a,b,c⟩:=XQ (minute:=minute) (t:=t) (n:=n) T.zero hm n n (Nat.le_refl _) (Nat.le_refl _) T.up (fun j p q=>by omega)
 refine ⟨i,?_⟩
 rw[bz,T.cn,Int.toNat_natCast,e,Int.toNat_natCast,show ((i:Int)+1)=((i+1:Nat):Int) by omega,show ((n:Int)+1)=((n+1:Nat):Int) by omega,Int.toNat_natCast,Int.toNat_natCast]
 have h1:fr t i≠minute∨n≤i→1≤i:=fun h=>by
  rcases Nat.eq_zero_or_pos i with z | z
  · subst z
    rcases h with h | h
    · have:=b 0 o! T.lo;have:=T.zero;omega
    · have:=T.lo;omega
  · exact z
 have h3:1≤i→Int.toNat ((i:Int) - 1)=i - 1:=fun h=>by omega
 have h4:min (n - i) (n+1 -(i+1))=n - i:=by omega
 have hc:∀jd js q,(br t jd js q).length=324:=fun jd js q=>by rw[xj];exact T.len
 have hL:1≤i→i+1<161→Ins t ((((br t ((i+1)*2) (i*2) ((n - i)*2)).set (i*2) minute).set (i*2+1) ((br t ((i+1)*2) (i*2) ((n - i)*2)).g ((i - 1)*2+1))).set 322 (((((br t ((i+1)*2) (i*2) ((n - i)*2)).set (i*2) minute).set (i*2+1) ((br t ((i+1)*2) (i*2) ((n - i)*2)).g ((i - 1)*2+1))).g 322)+1)) n i minute:=fun q r=>
  XP T.len hn T.cn q a (hc _ _ _) (fun k hk=>gD o!) (fun k p s=>by rw[XO (by rw[T.len];omega) (by rw[T.len];omega) p o!,show k -(i+1)*2+i*2=k - 2 by omega]) (fun k hk=>gD o!) _ (by rw[us,gD o!])
 by_cases f0:i<n
 · rw[decide_eq_true (by omega:(i:Int)<(n:Int)),cond_true]
   by_cases f1:fr t i=minute
   · rw[decide_eq_true (show t.g (i*2)=minute from f1),cond_true]
     exact ⟨rfl,c,b,.inl ⟨f0,f1,rfl⟩⟩
   · rw[decide_eq_false (show ¬t.g (i*2)=minute from f1),cond_false,decide_eq_true (show i+1<161 by omega),cond_true,h4,h3 (h1 (.inl f1))]
     exact ⟨rfl,c,b,.inr ⟨h1 (.inl f1),a,fun q=>by have:=b i o! q;omega,hL (h1 (.inl f1)) o!⟩⟩
 · rw[decide_eq_false (by omega:¬(i:Int)<(n:Int)),cond_false,cond_false]
   by_cases f1:i+1<161
   · rw[decide_eq_true f1,cond_true,h4,h3 (h1 (.inr o!))]
     exact ⟨rfl,c,b,.inr ⟨h1 (.inr o!),a,fun q=>by omega,hL (h1 (.inr o!)) f1⟩⟩
   · rw[decide_eq_false f1,cond_false,h3 (h1 (.inr o!))]
     have z:n - i=0:=by omega
     exact ⟨rfl,c,b,.inr ⟨h1 (.inr o!),a,fun q=>by omega,XP T.len hn T.cn (h1 (.inr o!)) a (hc _ _ _) (fun k hk=>gD o!) (fun k p s=>by omega) (fun k hk=>gD o!) _ (by rw[us,gD o!])⟩⟩
theorem mG.le {t:List Int} {n:Nat} (T:mG t n) {i j:Nat} (h:i≤j) (hj:j<n):fr t i≤fr t j:=by
 rcases Nat.eq_or_lt_of_le h with e | e
 · subst e;exact Int.le_refl _
 · exact Int.le_of_lt (T.up i j e hj)
theorem Un {t t':List Int} {n i:Nat} {minute:Int} (T:mG t n) (hn:n≤160) (I:Ins t t' n i minute) (c:∀j,j<i→fr t j<minute) (b:i<n→minute<fr t i) (h1:1≤i) (h2:i≤n):mG t' (n+1):=by
 refine ⟨I.len,by rw[I.cn];omega,by omega,by omega,by rw[I.lof 0 o!];exact T.zero,fun a e hae he=>?_⟩
 rcases Nat.lt_trichotomy e i with q | q | q
 · rw[I.lof _ q,I.lof _ o!];exact T.up a e hae o!
 · subst q;rw[I.atf,I.lof _ hae];exact c a hae
 · rw[I.hif e q o!]
   rcases Nat.lt_trichotomy a i with r | r | r
   · rw[I.lof _ r];exact T.up a (e - 1) o! o!
   · subst r;rw[I.atf]
     have:=b o!;have:=T.le (i:=a) (j:=e - 1) o! o!;omega
   · rw[I.hif a r o!];exact T.up (a - 1) (e - 1) o! o!
theorem abN {t t':List Int} {n i:Nat} {minute:Int} (T:mG t n) (I:Ins t t' n i minute) (c:∀j,j<i→fr t j<minute) (b:i<n→minute<fr t i) (h1:1≤i) (h2:i≤n) {m:Int} (hm:0≤m):yY t' m (n+1)=yY t m n:=by
 obtain ⟨k,k1,k2,k3⟩:=An (t:=t) (m:=m) (by rw[T.zero];exact hm) T.lo T.up
 rw[vX k1 k3 k2]
 by_cases e:i≤k
 · have hb:=b o!
   have hl:=T.le e k1
   rw[vX (i:=k+1) o! (fun q p r=>by rw[I.hif q o! o!];exact k3 (q - 1) o! o!) (by rw[I.hif _ o! o!];exact k2),I.hiu _ o! o!]
   rfl
 · by_cases f:minute≤m
   · have hk:k=i - 1:=by
      rcases Nat.lt_or_ge k (i - 1) with q | q
      · have:=k3 (i - 1) q o!;have:=c (i - 1) o!;omega
      · omega
     rw[vX (i:=i) o! (fun q p r=>by rw[I.hif q p o!];exact k3 (q - 1) o! o!) (by rw[I.atf];exact f),I.atu,hk]
   · rw[vX (i:=k) o! (fun q p r=>by
      rcases Nat.lt_trichotomy q i with s | s | s
      · rw[I.lof _ s];exact k3 q p o!
      · subst s;rw[I.atf];omega
      · rw[I.hif q s o!]
        have:=b o!;have:=T.le (i:=i) (j:=q - 1) o! o!;omega) (by rw[I.lof _ o!];exact k2),I.lou _ o!]
theorem NJ {t:List Int} {n:Nat} (T:mG t n) (hn:n≤160) {minute:Int} (hm:0≤minute):∃i n':Nat,(bz t minute).1=(i:Int)∧mG (bz t minute).2 n'∧n≤n'∧n'≤n+1∧i<n'∧fr (bz t minute).2 i=minute∧(∀m,0≤m→yY (bz t minute).2 m n'=yY t m n)∧(bz t minute).2.g 323=t.g 323∧(∀k,k<n→fr t k<minute→fr (bz t minute).2 k=fr t k)∧(∀k,k<n'→∃q,q<n∧us (bz t minute).2 k=us t q)∧∀k,k<n'→fr (bz t minute).2 k=minute∨∃q,q<n∧fr (bz t minute).2 k=fr t q:=by
 obtain ⟨i,e,c,b,h⟩:=ae4 T hn hm
 rcases h with ⟨h1,h2,h3⟩ | ⟨h1,h2,h3,I⟩
 · rw[h3]
   exact ⟨i,n,e,T,Nat.le_refl _,by omega,h1,h2,fun m _=>rfl,rfl,fun k _ _=>rfl,fun k hk=>⟨k,hk,rfl⟩,fun k hk=> .inr ⟨k,hk,rfl⟩⟩
 · refine ⟨i,n+1,e,Un T hn I c h3 h1 h2,by omega,by omega,by omega,I.atf,fun m hm=>abN T I c h3 h1 h2 hm,I.mark,fun k hk hf=>?_,fun k hk=>?_,fun k hk=>?_⟩
   · rcases Nat.lt_or_ge k i with q | q
     · exact I.lof k q
     · have:=b k q hk;omega
   · rcases Nat.lt_trichotomy k i with q | q | q
     · exact ⟨k,by omega,I.lou k q⟩
     · subst q;exact ⟨k - 1,by omega,I.atu⟩
     · exact ⟨k - 1,by omega,I.hiu k q o!⟩
   · rcases Nat.lt_trichotomy k i with q | q | q
     · exact .inr ⟨k,by omega,I.lof k q⟩
     · subst q;exact .inl I.atf
     · exact .inr ⟨k - 1,by omega,I.hif k q o!⟩
theorem Ja {pieces:Int} {t:List Int} {s:Span} {e:Nat} (he:(bz ((bz t s.bl).2) (s.aN+1)).1=(e:Int)) (h1:e≤161):∀(kq v:Nat) (a:List Int),a.length=324→e≤v+kq→(∀k,v≤k→k<e→-9223372036854775808≤us a k+pieces∧us a k+pieces<9223372036854775808)→
 (fw pieces t s kq (v:Int) a).length=324∧(∀k,fr (fw pieces t s kq (v:Int) a) k=fr a k)∧(∀k,v≤k→k<e→us (fw pieces t s kq (v:Int) a) k=us a k+pieces)∧∀k,k<v∨e≤k→us (fw pieces t s kq (v:Int) a) k=us a k
 | 0,v,a,ha,hv,hw=>by rw[fw];exact ⟨ha,fun k=>rfl,fun k p q=>by omega,fun k _=>rfl⟩
 | kq+1,v,a,ha,hv,hw=>by
   rw[fw,he]
   by_cases f:v<e
   · rw[decide_eq_true (by omega:(v:Int)<(e:Int)),cond_true,Int.toNat_natCast,show ((v:Int)+1)=((v+1:Nat):Int) by omega]
     have hq:=hw v (Nat.le_refl _) f
     rw[wrap_i64 (n:=a.g (v*2+1)+pieces) hq.1 hq.2]
     have hs:∀k,k≠v→us (a.set (v*2+1) (a.g (v*2+1)+pieces)) k=us a k:=fun k hk=>by rw[us,us,bj o!]
     obtain ⟨r1,r2,r3,r4⟩:=Ja he h1 kq (v+1) (a.set (v*2+1) (a.g (v*2+1)+pieces)) (by rw[List.length_set];exact ha) o! (fun k p q=>by rw[hs k o!];exact hw k o! q)
     refine ⟨r1,fun k=>by rw[r2,fr,fr,bj o!],fun k p q=>?_,fun k p=>?_⟩
     · by_cases z:k=v
       · subst z;rw[r4 k (.inl o!),us,iL (by rw[ha];omega)];rfl
       · rw[r3 k o! q,hs k z]
     · rw[r4 k o!,hs k o!]
   · rw[decide_eq_false (by omega:¬(v:Int)<(e:Int)),cond_false]
     exact ⟨ha,fun k=>rfl,fun k p q=>by omega,fun k _=>rfl⟩
theorem XR {t:List Int} {n:Nat} (T:mG t n) (hn:n≤159) {s:Span} {pieces B C:Int} (hC:∀k,k<n→fr t k≤C) (hs:s.aN<C) (h0:0≤s.bl) (h1:s.bl≤s.aN) (hp:0≤pieces) (hb:∀k,k<n→0≤us t k∧us t k≤B) (hB:B+pieces<9223372036854775808):
 ∃n':Nat,mG (eS t s pieces) n'∧n'≤n+2∧(∀m,0≤m→yY (eS t s pieces) m n'=yY t m n+if s.bl≤m∧m≤s.aN then pieces else 0)∧(eS t s pieces).g 323=t.g 323∧(∀k,k<n'→0≤us (eS t s pieces) k∧us (eS t s pieces) k≤B+pieces)∧∀k,k<n'→fr (eS t s pieces) k≤C:=by
 obtain ⟨i1,n1,e1,T1,a1,b1,c1,d1,l1,m1,k1,u1,v1⟩:=NJ T o! h0
 obtain ⟨i2,n2,e2,T2,a2,b2,c2,d2,l2,m2,k2,u2,v2⟩:=NJ T1 o! (show 0≤s.aN+1 by omega)
 have f1:fr (bz ((bz t s.bl).2) (s.aN+1)).2 i1=s.bl:=by rw[k2 i1 c1 o!,d1]
 have hb2:∀k,k<n2→0≤us (bz ((bz t s.bl).2) (s.aN+1)).2 k∧us (bz ((bz t s.bl).2) (s.aN+1)).2 k≤B:=fun k hk=>by
  obtain ⟨q,hq,eq⟩:=u2 k hk
  obtain ⟨r,hr,er⟩:=u1 q hq
  rw[eq,er];exact hb r hr
 have hf2:∀k,k<n2→fr (bz ((bz t s.bl).2) (s.aN+1)).2 k≤C:=fun k hk=>by
  rcases v2 k hk with e | ⟨q,hq,e⟩
  · omega
  · rw[e]
    rcases v1 q hq with e | ⟨r,hr,e⟩
    · omega
    · rw[e];exact hC r hr
 have i12:i1<i2:=by
  rcases Nat.lt_or_ge i1 i2 with q | q
  · exact q
  · have:=T2.le q (by omega:i1<n2);omega
 have hu:eS t s pieces=fw pieces t s (i2 - i1) (i1:Int) (bz ((bz t s.bl).2) (s.aN+1)).2:=by
  rw[eS,decide_eq_false (show ¬s.aN<s.bl by omega),cond_false,e1,e2,show Int.toNat ((i2:Int) -(i1:Int))=i2 - i1 by omega]
 rw[hu]
 generalize ht:(bz ((bz t s.bl).2) (s.aN+1)).2=t2 at *
 have hi:=T2.hi
 obtain ⟨r1,r2,r3,r4⟩:=Ja (pieces:=pieces) (t:=t) (s:=s) e2 o! (i2 - i1) i1 t2 T2.len o! (fun k p q=>by have:=hb2 k o!;omega)
 generalize fw pieces t s (i2 - i1) (i1:Int) t2=r at *
 have TR:mG r n2:=⟨r1,by rw[show r.g 322=t2.g 322 from r2 161];exact T2.cn,T2.lo,T2.hi,by rw[r2];exact T2.zero,fun a b p q=>by rw[r2,r2];exact T2.up a b p q⟩
 refine ⟨n2,TR,by omega,fun m hm=>?_,?_,fun k hk=>?_,fun k hk=>by rw[r2];exact hf2 k hk⟩
 · rw[←l1 m hm,←l2 m hm]
   obtain ⟨k,q1,q2,q3⟩:=An (t:=t2) (m:=m) (by rw[T2.zero];exact hm) T2.lo T2.up
   rw[vX q1 q3 q2,vX q1 (fun j p q=>by rw[r2];exact q3 j p q) (by rw[r2];exact q2)]
   by_cases z:i1≤k
   · have y1:=T2.le z q1
     by_cases w:k<i2
     · have y2:=q3 i2 w c2
       rw[r3 k z w,if_pos ⟨by omega,by omega⟩]
     · have y2:=T2.le (show i2≤k by omega) q1
       rw[r4 k o!,if_neg o!];omega
   · have y1:=q3 i1 o! o!
     rw[r4 k o!,if_neg o!];omega
 · have:=r4 161 (.inr o!);unfold us at this;rw[show r.g 323=t2.g 323 from this,m2,m1]
 · have hbk:=hb2 k hk
   by_cases z:i1≤k∧k<i2
   · rw[r3 k z.1 z.2];omega
   · rw[r4 k o!];omega
theorem mG.nn {t:List Int} {n:Nat} (T:mG t n) {k:Nat} (h:k<n):0≤fr t k:=by
 have:=T.le (Nat.zero_le k) h;rw[T.zero] at this;exact this
theorem mG.yY {t:List Int} {n:Nat} (T:mG t n) {k:Nat} (h:k<n) {m:Int} (h0:fr t k≤m) (h1:k+1<n→m<fr t (k+1)):yY t m n=us t k:=
 vX h (fun j p q=>by have:=h1 o!;have:=T.le (i:=k+1) (j:=j) o! q;omega) h0
theorem XS {t:List Int} {n:Nat} (T:mG t n) (i:Nat):vV t (i:Int)=if i+1<n then fr t (i+1) else 100001:=by
 rw[vV,T.cn,show ((i:Int)+1)=((i+1:Nat):Int) by omega,Int.toNat_natCast]
 by_cases f:i+1<n
 · rw[decide_eq_true (by omega:((i+1:Nat):Int)<(n:Int)),cond_true,if_pos f];rfl
 · rw[decide_eq_false (by omega:¬((i+1:Nat):Int)<(n:Int)),cond_false,if_neg f]
theorem Gb {t:List Int} {n:Nat} (T:mG t n) {takes pieces pq:Int} (h0:0≤pq) (ht:0≤takes) (ht2:takes≤100000) (hf:∀k,k<n→fr t k≤100001) (hw:∀k,k<n→-9223372036854775808≤us t k+pieces∧us t k+pieces<9223372036854775808):∀(k i:Nat) (v:Int),i+k=n→pq≤v→v≤1000000→
 (∀f,pq≤f→f<v→100001<f+takes∨∃m,f≤m∧m<f+takes∧m<100001∧t.g 323<yY t m n+pieces)∨takes=0→(∀m,v≤m→(i<n→m<fr t i)→m<100001→yY t m n+pieces≤t.g 323)→
 pq≤eA t takes pieces k i v∧((∀f,pq≤f→f<eA t takes pieces k i v→100001<f+takes∨∃m,f≤m∧m<f+takes∧m<100001∧t.g 323<yY t m n+pieces)∨takes=0)∧(∀m,eA t takes pieces k i v≤m→m<eA t takes pieces k i v+takes→m<100001→yY t m n+pieces≤t.g 323)∧eA t takes pieces k i v≤1000000
 | 0,i,v,hi,a,b,c,e=>by
   rw[eA]
   exact ⟨a,c,fun m p q r=>e m p (fun z=>by omega) r,b⟩
 | k+1,i,v,hi,a,b,c,e=>by
   rw[eA,wrap_i64 (n:=v+takes) o! o!]
   have Hy:i<n:=by omega
   have hni:=T.nn Hy
   have hfi:=hf i Hy
   have hl:∀m,fr t i≤m→(i+1<n→m<fr t (i+1))→yY t m n=us t i:=fun m p q=>T.yY Hy p q
   by_cases f0:v+takes≤fr t i
   · rw[decide_eq_true (show v+takes≤t.g (i*2) from f0),cond_true]
     exact ⟨a,c,fun m p q r=>e m p (fun z=>by omega) r,b⟩
   · rw[decide_eq_false (show ¬v+takes≤t.g (i*2) from f0),cond_false,wrap_i64 (n:=t.g (i*2+1)+pieces) (hw i Hy).1 (hw i Hy).2]
     by_cases f1:t.g 323<us t i+pieces
     · rw[decide_eq_true (show t.g 323<t.g (i*2+1)+pieces from f1),cond_true,XS T]
       have he:fr t i≤(if i+1<n then fr t (i+1) else 100001)∧(if i+1<n then fr t (i+1) else (100001:Int))≤100001∧(i+1<n→(if i+1<n then fr t (i+1) else 100001)=fr t (i+1))∧(¬i+1<n→(if i+1<n then fr t (i+1) else (100001:Int))=100001):=by
        by_cases z:i+1<n
        · rw[if_pos z];exact ⟨T.le o! z,hf _ z,fun _=>rfl,fun y=>absurd z y⟩
        · rw[if_neg z];exact ⟨hfi,Int.le_refl _,fun y=>absurd y z,fun _=>rfl⟩
       generalize (if i+1<n then fr t (i+1) else (100001:Int))=E at he
       obtain ⟨he1,he2,he3,he4⟩:=he
       have Vu:v≤imax v E∧E≤imax v E∧(imax v E=v∨imax v E=E):=by
        unfold imax;split<;>omega
       obtain ⟨x1,x2,x3⟩:=Vu
       generalize imax v E=V at x1 x2 x3
       refine Gb T h0 ht ht2 hf hw k (i+1) V o! o! o! ?_ (fun m p q r=>?_)
       · rcases c with c | c
         · by_cases z:takes=0
           · exact .inr z
           · refine .inl fun f p q=>?_
             by_cases y:f<v
             · exact c f p y
             · by_cases w:fr t i≤f
               · exact .inr ⟨f,Int.le_refl _,by omega,by omega,by rw[hl f w (fun r=>by have:=he3 r;omega)];exact f1⟩
               · by_cases y2:fr t i=100001
                 · exact .inl o!
                 exact .inr ⟨fr t i,by omega,by omega,by omega,by rw[hl _ (Int.le_refl _) (fun r=>T.up i (i+1) o! r)];exact f1⟩
         · exact .inr c
       · by_cases u:i+1<n
         · have:=q u;have:=he3 u;omega
         · have:=he4 u;omega
     · rw[decide_eq_false (show ¬t.g 323<t.g (i*2+1)+pieces from f1),cond_false]
       refine Gb T h0 ht ht2 hf hw k (i+1) v o! a b c (fun m p q r=>?_)
       by_cases y:m<fr t i
       · exact e m p (fun _=>y) r
       · rw[hl m o! q];omega
theorem P9 {t:List Int} {n:Nat} (T:mG t n) {takes pieces pq:Int} (h0:0≤pq) (h1:pq≤1000000) (ht:0≤takes) (ht2:takes≤100000) (hf:∀k,k<n→fr t k≤100001) (hw:∀k,k<n→-9223372036854775808≤us t k+pieces∧us t k+pieces<9223372036854775808):
 pq≤m_ t pq takes pieces∧((∀f,pq≤f→f<m_ t pq takes pieces→100001<f+takes∨∃m,f≤m∧m<f+takes∧m<100001∧t.g 323<yY t m n+pieces)∨takes=0)∧(∀m,m_ t pq takes pieces≤m→m<m_ t pq takes pieces+takes→m<100001→yY t m n+pieces≤t.g 323)∧m_ t pq takes pieces≤1000000:=by
 rw[m_,T.cn,Int.toNat_natCast]
 exact Gb T h0 ht ht2 hf hw n 0 pq o! (Int.le_refl _) h1 (.inl fun f p q=>by omega) (fun m p q r=>by have:=q T.lo;rw[T.zero] at this;omega)
def KZ (aB:Int):List Int:=List.replicate 322 0++[1,aB]
theorem Ec {aB:Int} {k:Nat} (h:k<322):(KZ aB).g k=0:=by
 rw[KZ,List.g,List.getD_eq_getElem?_getD,List.getElem?_append_left (by rw[List.length_replicate];exact h),List.getElem?_replicate,if_pos h];rfl
theorem Gc (aB:Int):mG (KZ aB) 1:=
 ⟨rfl,rfl,Nat.le_refl _,by decide,Ec (by decide),fun i j p q=>by omega⟩
theorem XT (aB:Int) {m:Int} (hm:0≤m):yY (KZ aB) m 1=0:=by
 rw[yY,if_pos (by rw[(Gc aB).zero];exact hm),us,Ec (by decide)]
theorem abO (aB:Int) {k:Nat} (h:k<1):us (KZ aB) k=0:=Ec o!
theorem abP (aB:Int) {k:Nat} (h:k<1):fr (KZ aB) k=0:=Ec o!
def Va (s:Span) (m p:Int):Int:=if s.bl≤m∧m≤s.aN then p else 0
structure qo (t:List Int) (n:Nat) (B C:Int):Prop where
 is:mG t n
 u:∀k,k<n→0≤us t k∧us t k≤B
 f:∀k,k<n→fr t k≤C
theorem ae5 (aB:Int) {C:Int} (hC:0≤C):qo (KZ aB) 1 0 C:=
 ⟨Gc aB,fun k h=>by rw[abO aB h];omega,fun k h=>by rw[abP aB h];exact hC⟩
theorem K0 {t:List Int} {n:Nat} {B C:Int} (T:qo t n B C) (hn:n≤159) {s:Span} {p:Int} (h0:0≤s.bl) (hs:s.aN<C) (hp:0≤p) (hB:B+p<9223372036854775808):
 ∃n':Nat,qo (eS t s p) n' (B+p) C∧n'≤n+2∧(∀m,0≤m→yY (eS t s p) m n'=yY t m n+Va s m p)∧(eS t s p).g 323=t.g 323:=by
 by_cases h:s.bl≤s.aN
 · obtain ⟨n',a,b,c,d,e,f⟩:=XR T.is hn T.f hs h0 h hp T.u hB
   exact ⟨n',⟨a,e,f⟩,b,c,d⟩
 · have hw:eS t s p=t:=by rw[eS,decide_eq_true (show s.aN<s.bl by omega),cond_true]
   rw[hw]
   exact ⟨n,⟨T.is,fun k hk=>by have:=T.u k hk;omega,T.f⟩,by omega,fun m _=>by rw[Va,if_neg o!];omega,rfl⟩
def tN (t:List Int) (l:List (Span×Int)):List Int:=l.foldl (fun t x=>eS t x.1 x.2) t
def Ge (l:List (Span×Int)) (m:Int):Int:=(l.map fun x=>Va x.1 m x.2).sum
def AN (l:List (Span×Int)):Int:=(l.map fun x=>x.2).sum
theorem Sp:∀{l:List (Span×Int)},(∀x∈l,0≤x.2)→0≤AN l
 | [],_=>Int.le_refl _
 | x::l,h=>by
   have a:=h x (.head _)
   have b:=Sp (l:=l) fun y hy=>h y (.tail _ hy)
   show 0≤((x::l).map fun x=>x.2).sum
   rw[List.map_cons,List.sum_cons];unfold AN at b;omega
theorem NK {C:Int}:∀(l:List (Span×Int)) (t:List Int) (n:Nat) (B:Int),qo t n B C→n+2*l.length≤161→(∀x∈l,0≤x.1.bl∧x.1.aN<C∧0≤x.2)→B+AN l<9223372036854775808→
 ∃n':Nat,qo (tN t l) n' (B+AN l) C∧n'≤n+2*l.length∧(∀m,0≤m→yY (tN t l) m n'=yY t m n+Ge l m)∧(tN t l).g 323=t.g 323
 | [],t,n,B,T,hn,hx,hB=>⟨n,by rw[show B+AN []=B from Int.add_zero B];exact T,by simp,fun m _=>(Int.add_zero _).symm,rfl⟩
 | x::l,t,n,B,T,hn,hx,hB=>by
   have hp:AN (x::l)=x.2+AN l:=by unfold AN;rw[List.map_cons,List.sum_cons]
   have hq:0≤AN l:=Sp fun y hy=>(hx y (.tail _ hy)).2.2
   have h1:=hx x (.head _)
   rw[List.length_cons] at hn
   obtain ⟨n1,a,b,c,d⟩:=K0 T o! (s:=x.1) (p:=x.2) h1.1 h1.2.1 h1.2.2 o!
   obtain ⟨n2,a2,b2,c2,d2⟩:=NK l (eS t x.1 x.2) n1 (B+x.2) a o! (fun y hy=>hx y (.tail _ hy)) o!
   refine ⟨n2,?_,by rw[List.length_cons];omega,fun m hm=>?_,d2.trans d⟩
   · rw[show B+AN (x::l)=B+x.2+AN l by omega];exact a2
   · show yY (tN (eS t x.1 x.2) l) m n2=_
     rw[c2 m hm,c m hm]
     show _=yY t m n+((x::l).map fun x=>Va x.1 m x.2).sum
     rw[List.map_cons,List.sum_cons];unfold Ge;omega
theorem Ch {α:Type} [Inhabited α] {l:List α} {v:Nat} (h:v<l.length):l.drop v=l.g v::l.drop (v+1):=by
 rw[List.drop_eq_getElem_cons h,List.g,List.getD_eq_getElem?_getD,List.getElem?_eq_getElem h];rfl
def dA (L:List Tl) (us:List jH) (sp:Span):List Tl:=us.foldl (fun L u=>L.set (Int.toNat u.ah) ⟨eS (fit (L.g (Int.toNat u.ah)).l) sp u.aB⟩) L
theorem Jb {j:cG} {task start:Int}:∀(kq v:Nat) (a:List Bool) (b:List Int) (c:List Tl),(j.ab.g (Int.toNat task)).au.length≤v+kq→jC j task start kq (v:Int) a b c=(a,b,dA c ((j.ab.g (Int.toNat task)).au.drop v) ⟨start,start+(j.ab.g (Int.toNat task)).takes - 1⟩)
 | 0,v,a,b,c,h=>by rw[jC,List.drop_eq_nil_of_le o!];rfl
 | kq+1,v,a,b,c,h=>by
   rw[jC]
   by_cases f:v<(j.ab.g (Int.toNat task)).au.length
   · rw[decide_eq_true (by omega:(v:Int)<((j.ab.g (Int.toNat task)).au.length:Int)),cond_true,show ((v:Int)+1)=((v+1:Nat):Int) by omega,Jb kq (v+1) _ _ _ o!,Int.toNat_natCast,Ch f]
     rfl
   · rw[decide_eq_false (by omega:¬(v:Int)<((j.ab.g (Int.toNat task)).au.length:Int)),cond_false,List.drop_eq_nil_of_le o!];rfl
theorem yZ (j:cG) (aj:List Bool) (ar:List Int) (aL:List Tl) (task start:Int):jN j aj ar aL task start=(aj.set (Int.toNat task) true,ar.set (Int.toNat task) start,dA aL (j.ab.g (Int.toNat task)).au ⟨start,start+(j.ab.g (Int.toNat task)).takes - 1⟩):=by
 rw[jN,show (0:Int)=((0:Nat):Int) from rfl,Jb _ _ _ _ _ o!,List.drop_zero]
theorem Gg (us:List jH) (sp:Span):∀L:List Tl,(dA L us sp).length=L.length:=by
 induction us with
 | nil=>intro L;rfl
 | cons u us ih=>intro L;show (dA (L.set _ _) us sp).length=_;rw[ih,List.length_set]
def Dis (us:List jH):Prop:=us.Pairwise fun a b=>Int.toNat a.ah≠Int.toNat b.ah
theorem K1 {sp:Span} {r:Nat}:∀(us:List jH) (L:List Tl),Dis us→(∀u∈us,Int.toNat u.ah<L.length)→
 (∃u∈us,Int.toNat u.ah=r∧(dA L us sp).g r=⟨eS (fit (L.g r).l) sp u.aB⟩)∨((∀u∈us,Int.toNat u.ah≠r)∧(dA L us sp).g r=L.g r)
 | [],L,_,_=> .inr ⟨(fun _ h=>by cases h),rfl⟩
 | u::us,L,hd,hr=>by
   obtain ⟨h1,h2⟩:=List.pairwise_cons.1 hd
   have hu:=hr u (.head _)
   have ih:=K1 (sp:=sp) (r:=r) us (L.set (Int.toNat u.ah) ⟨eS (fit (L.g (Int.toNat u.ah)).l) sp u.aB⟩) h2 fun x hx=>by rw[List.length_set];exact hr x (.tail _ hx)
   have e:dA L (u::us) sp=dA (L.set (Int.toNat u.ah) ⟨eS (fit (L.g (Int.toNat u.ah)).l) sp u.aB⟩) us sp:=rfl
   rw[e]
   by_cases hur:Int.toNat u.ah=r
   · rcases ih with ⟨x,hx,ex,_⟩ | ⟨hn,g⟩
     · exact absurd (hur.trans ex.symm) (h1 x hx)
     · refine .inl ⟨u,.head _,hur,?_⟩
       rw[g,hur,Ua o!]
   · rcases ih with ⟨x,hx,ex,g⟩ | ⟨hn,g⟩
     · exact .inl ⟨x,.tail _ hx,ex,by rw[g,Cc hur]⟩
     · refine .inr ⟨fun x hx=>?_,by rw[g,Cc hur]⟩
       cases hx with
       | head=>exact hur
       | tail _ hx=>exact hn x hx
theorem K2 {us:List jH} (h0:∀q,q<us.length→0≤(us.g q).ah) (hd:∀a,a<us.length→∀b,a<b→b<us.length→(us.g a).ah≠(us.g b).ah):Dis us:=by
 have hg:∀q (h:q<us.length),us.g q=us[q]:=fun q h=>by rw[List.g,List.getD_eq_getElem?_getD,List.getElem?_eq_getElem h];rfl
 refine List.pairwise_iff_getElem.2 fun a b ha hb hab e=>?_
 have:=hd a ha b hab hb
 have x:=h0 a ha
 have y:=h0 b hb
 rw[hg a ha,hg b hb] at this
 rw[hg a ha] at x
 rw[hg b hb] at y
 omega
theorem x7 {α:Type} [Inhabited α] {l:List α} {x:α} (h:x∈l):∃i,i<l.length∧l.g i=x:=by
 obtain ⟨i,hi,e⟩:=List.mem_iff_getElem.1 h
 exact ⟨i,hi,by rw[List.g,List.getD_eq_getElem?_getD,List.getElem?_eq_getElem hi];exact e⟩
theorem Az.use {c:Int} {t:Tl} (h:Az c t) (hc:c≤159) {sp:Span} {p:Int} (h0:0≤sp.bl) (h1:sp.aN≤100000000):Az (c+2) ⟨eS (fit t.l) sp p⟩:=by
 obtain ⟨a,b,c',d,e⟩:=AD (fit t.l) sp p (xn _) h.1 (Int.le_trans h.2.1 hc) h.2.2 h0 h1
 have:=h.2.1
 unfold Az
 rw[tF e]
 exact ⟨a,by omega,c'⟩
theorem XV (j:cG) (aj:List Bool) (ar:List Int) (aL:List Tl) (task start:Int) (ur:∀q,q<(j.ab.g (Int.toNat task)).au.length→0≤((j.ab.g (Int.toNat task)).au.g q).ah∧((j.ab.g (Int.toNat task)).au.g q).ah<(aL.length:Int)) (ud:∀a,a<(j.ab.g (Int.toNat task)).au.length→∀b,a<b→b<(j.ab.g (Int.toNat task)).au.length→((j.ab.g (Int.toNat task)).au.g a).ah≠((j.ab.g (Int.toNat task)).au.g b).ah) (h0:0≤start) (h1:start+(j.ab.g (Int.toNat task)).takes≤100000):
 (jN j aj ar aL task start).2.2.length=aL.length∧∀c:Int,c≤159→(∀r,r<aL.length→Az c (aL.g r))→∀r,r<aL.length→Az (c+2) ((jN j aj ar aL task start).2.2.g r):=by
 rw[yZ]
 refine ⟨Gg _ _ _,fun c hc ht r hr=>?_⟩
 have hd:=K2 (fun q hq=>(ur q hq).1) ud
 rcases K1 (sp:=⟨start,start+(j.ab.g (Int.toNat task)).takes - 1⟩) (r:=r) _ aL hd (fun u hu=>by
  obtain ⟨i,hi,e⟩:=x7 hu
  have:=ur i hi
  rw[e] at this;omega) with ⟨u,_,_,g⟩ | ⟨_,g⟩
 · show Az (c+2) ((dA _ _ _).g r)
   rw[g];exact (ht r hr).use hc h0 (by dsimp only;omega)
 · show Az (c+2) ((dA _ _ _).g r)
   rw[g];exact (ht r hr).le o!
theorem NL {j:cG} {i:Nat}:∀(kq v:Nat) (a:List Int),(j.af.g i).off.length≤v+kq→c9 j i kq (v:Int) a=tN a (((j.af.g i).off.drop v).map fun s=>(s,(j.af.g i).aB))
 | 0,v,a,h=>by rw[c9,List.drop_eq_nil_of_le o!];rfl
 | kq+1,v,a,h=>by
   rw[c9]
   by_cases f:v<(j.af.g i).off.length
   · rw[decide_eq_true (by omega:(v:Int)<((j.af.g i).off.length:Int)),cond_true,show ((v:Int)+1)=((v+1:Nat):Int) by omega,NL kq (v+1) _ o!,Int.toNat_natCast,Ch f]
     rfl
   · rw[decide_eq_false (by omega:¬(v:Int)<((j.af.g i).off.length:Int)),cond_false,List.drop_eq_nil_of_le o!];rfl
def Z0 (r:bI):List Int:=tN (cH r.aB) (r.off.map fun s=>(s,r.aB))
theorem NM {j:cG}:∀(kq i:Nat) (c:List Tl) (a:List Bool) (b:List Int),i+kq=j.af.length→cL j kq i c a b=(c++(j.af.drop i).map fun r=>⟨Z0 r⟩,a,b)
 | 0,i,c,a,b,h=>by rw[cL,List.drop_eq_nil_of_le o!,List.map_nil,List.append_nil]
 | kq+1,i,c,a,b,h=>by
   rw[cL,NM kq (i+1) _ _ _ o!,Ch (show i<j.af.length by omega),List.map_cons,List.append_assoc,show (0:Int)=((0:Nat):Int) from rfl,NL _ _ _ o!,List.drop_zero]
   rfl
theorem Jc (j:cG):ba j=(j.af.map fun r=>⟨Z0 r⟩,List.replicate j.ab.length false,List.replicate j.ab.length 0):=by
 rw[ba,NM _ _ _ _ _ o!];rfl
theorem Jd:∀(l:List (Span×Int)) (t:List Int) (c:Int),t.length=324→Az c ⟨t⟩→c+2*l.length≤161→(∀x∈l,0≤x.1.bl∧x.1.aN≤100000000)→(tN t l).length=324∧Az (c+2*l.length) ⟨tN t l⟩
 | [],t,c,hl,h,_,_=>⟨hl,h.le (by simp)⟩
 | x::l,t,c,hl,h,hc,hx=>by
   rw[List.length_cons] at hc ⊢
   have hx1:=hx x (.head _)
   have hf:=tF hl
   have u:=h.use (sp:=x.1) (p:=x.2) o! hx1.1 hx1.2
   rw[show (⟨t⟩:Tl).l=t from rfl,hf] at u
   obtain ⟨a,b,c',d,e⟩:=AD t x.1 x.2 hl (by have:=h.1;rw[show (⟨t⟩:Tl).l=t from rfl,hf] at this;exact this) (by have:=h.2.1;rw[show (⟨t⟩:Tl).l=t from rfl,hf] at this;omega) (by have:=h.2.2;rw[show (⟨t⟩:Tl).l=t from rfl,hf] at this;exact this) hx1.1 hx1.2
   obtain ⟨r1,r2⟩:=Jd l (eS t x.1 x.2) (c+2) e u o! fun y hy=>hx y (.tail _ hy)
   exact ⟨r1,r2.le o!⟩
theorem x8 (j:cG) (ro:∀r,r<j.af.length→(j.af.g r).off.length≤16∧∀q,q<(j.af.g r).off.length→0≤((j.af.g r).off.g q).bl∧((j.af.g r).off.g q).aN≤100000):(ba j).1.length=j.af.length∧∀r,r<j.af.length→Az 33 ((ba j).1.g r):=by
 rw[Jc]
 refine ⟨List.length_map _,fun r hr=>?_⟩
 have hg:((j.af.map fun r=>(⟨Z0 r⟩:Tl)).g r)=⟨Z0 (j.af.g r)⟩:=by
  rw[List.g,List.g,List.getD_eq_getElem?_getD,List.getD_eq_getElem?_getD,List.getElem?_map,List.getElem?_eq_getElem hr];rfl
 show Az 33 ((j.af.map fun r=>(⟨Z0 r⟩:Tl)).g r)
 rw[hg]
 obtain ⟨n1,n2,n3,n4⟩:=xX (j.af.g r).aB
 obtain ⟨ol,oo⟩:=ro r hr
 have t0:Az 1 ⟨cH (j.af.g r).aB⟩:=by
  unfold Az
  rw[show (⟨cH (j.af.g r).aB⟩:Tl).l=cH (j.af.g r).aB from rfl,tF n3]
  exact ⟨by omega,by omega,n2⟩
 have:=(Jd ((j.af.g r).off.map fun s=>(s,(j.af.g r).aB)) _ 1 n3 t0 (by rw[List.length_map];omega) (fun x hx=>by
  obtain ⟨s,hs,rfl⟩:=List.mem_map.1 hx
  obtain ⟨i,hi,e⟩:=x7 hs
  have:=oo i hi
  rw[e] at this
  exact ⟨this.1,by dsimp only;omega⟩)).2
 exact this.le (by rw[List.length_map];omega)
def nF:List Bool→Nat
 | []=>0
 | b::l=>(bif b then 0 else 1)+nF l
theorem tR:∀n,nF (List.replicate n false)=n
 | 0=>rfl
 | n+1=>by rw[List.replicate_succ,nF,tR n];simp;omega
theorem Gh:∀{l:List Bool} {n:Nat},n<l.length→l.g n=false→nF (l.set n true)+1=nF l
 | b::l,0,_,e=>by
   have e:b=false:=e
   subst e
   simp only[List.set_cons_zero,nF,cond_true,cond_false];omega
 | b::l,n+1,h,e=>by
   have q:=Gh (l:=l) (n:=n) (by simpa using h) e
   simp only[List.set_cons_succ,nF];omega
theorem P_ {l:List Bool} {n:Int} (h0:0≤n) (h1:n<l.length) (h2:l.g (Int.toNat n)=false):nF (l.set (Int.toNat n) true)+1=nF l:=Gh o! h2
noncomputable def NP:Code:=(Tryz.f48.body).getD .skip
theorem NQ:Tryz.f48.body=some NP:=by kernel_rfl
def iI (number:Int) (aB:Int):Bool:=(bif (decide (0≤number)) then (decide (number<aB)) else false)
theorem Gi {d:Nat} {h:aw} (number:Int) (aB:Int) (ct:Tidy h):cU (d+1) (.fn 48) [(Zi number),(Zi aB)] h= .ret (AV.bool (iI number aB)) h:=by
 rcases Bool.eq_false_or_eq_true (decide (0≤number)) with f0 | f0
 · have dx:=of_decide_eq_true f0
   have e:iI number aB=(decide (number<aB)):=by simp only[iI,f0,cond_true,cond_false]
   rw[e]
   exact aE rfl (aZ Tryz.func48 NQ rfl (.inr rfl) (pk (d) _ _ h _ h (CN 2<|VV (pc 3 false true .i64 number 0)<|CC<|BC f0<|BC f0<|BV f0 (bO 3 false false .i64 number aB)<|VV (pe (decide (number<aB)) false f0)<|CC<|ZZ) k!) k!) (Has.refl _) rfl
 · have dx:=of_decide_eq_false f0
   have e:iI number aB=false:=by simp only[iI,f0,cond_true,cond_false]
   rw[e]
   exact aE rfl (aZ Tryz.func48 NQ rfl (.inr rfl) (pk (d) _ _ h _ h (CN 2<|VV (pc 3 false true .i64 number 0)<|CC<|BB f0<|BB f0<|BV f0 (sS false f0)<|CC<|ZZ) k!) k!) (Has.refl _) rfl
theorem su {n m:Int} (h:iI n m=true):0≤n∧n<m:=by
 unfold iI at h
 by_cases a:0≤n
 · rw[decide_eq_true a] at h;exact ⟨a,of_decide_eq_true h⟩
 · rw[decide_eq_false a] at h;cases h
theorem K3 {h:aw} {e s xt:TypeId} {tys:Array TypeId} {bytes b p n:Nat} {f ro:Bool} {z0:AV} {M:List AV} (y:Tidy h) (hp:h.get p=some (.cells [] e false)) (hg:h.get b=some (.cells M e ro)) (ln:M.length=n) (CT:M.all AV.scalar=true) (hl:n≤1000000000)
 (t0:tys[0]? =some s) (t1:tys[1]? =some xt) (hs:env.P.underlying s=some (.slice e)) (hx:env.P.underlying xt=some (.slice e)) (R2:b7 env e=some 1) (hb:jT env e=some bytes) (DH:g5 env e=some z0) (hz:z0.cells.length=1) (h8:bytes≤63):
 ∃q o h',di env h tys (.slice p 0 0 0 false) (.slice b 0 n n f)=some (.slice q 0 n n o,h')∧Tidy h'∧h.nx≤h'.nx∧Has h h'∧h'.get q=some (.cells M e false)∧p≤q:=by
 have hi:oZ (.slice e)=false:=rfl
 have hlen:qF (.slice b 0 n n f)=some n:=rfl
 have pn:=y _ _ hp
 by_cases hn:n=0
 · subst hn
   have hM:M=[]:=List.length_eq_zero_iff.1 ln
   subst hM
   have hf:fF h 1 0 (.slice b 0 0 0 f)=some []:=by simp [fF,hg]
   have hgp:∀i,(h.put p (some (.cells [] e false))).get i=h.get i:=fun i=>by
    by_cases q:i=p
    · subst q;rw[aw.dG,hp]
    · rw[aw.cj (Ne.symm q)]
   refine ⟨p,false,h.put p (some (.cells [] e false)),?_,fun i w q=>y i w (by rw[←hgp];exact q),Nat.le_refl _,fun i w q=>by rw[hgp];exact q,by rw[hgp];exact hp,Nat.le_refl _⟩
   simp only[di,t0,t1,hs,hx,hi,R2,hb,hlen,hf,DH,hz,CT,hp,if_true,if_false,and_self,List.length_nil,Bool.false_eq_true,Nat.zero_mul,Nat.add_zero,Nat.le_refl,setFrom]
 · have hf:fF h 1 n (.slice b 0 n n f)=some M:=by
    simp only[fF,hg,Nat.le_refl,if_true,if_neg hn,Nat.mul_one,Nat.zero_add,List.drop_zero]
    rw[if_pos o!,List.take_of_length_le o!]
   obtain ⟨h',nw⟩:=yO (h:=h) (.cells M e false)
   refine ⟨h.nx,true,h',?_,m4 y nw,by rw[yN nw];omega,xg y nw,tx nw,by omega⟩
   have ZQ:¬n≤0:=by omega
   have big:(4*n+4096)*(bytes+1)≤1099511627776:=Nat.le_trans (Nat.mul_le_mul (show 4*n+4096≤17179869184 by omega) (show bytes+1≤64 by omega)) (by decide)
   simp only[di,t0,t1,hs,hx,hi,R2,hb,hlen,hf,DH,hz,CT,hp,ZQ,if_true,if_false,and_self,Bool.false_eq_true,Nat.zero_mul,Nat.add_zero,Nat.zero_add,List.length_nil,Nat.le_refl,ln,Nat.mul_one]
   rw[if_pos ⟨big,trivial,fun e=>e.elim⟩]
   simp only[List.drop_nil,List.take_nil,List.nil_append,nw]
theorem Uo (l:List Bool):(bs l).all AV.scalar=true:=List.all_eq_true.2 fun x hx=>by
 obtain ⟨y,_,rfl⟩:=List.mem_map.1 hx
 rfl
theorem bS.pre {k:IntKind} {h:aw} {e:TypeId} {v:AV} {l:List Int} (x:bS h k e v l) {t:TypeId} (ht:env.P.underlying t=some (.slice e)) {i:Nat} (hi:i<l.length):∃r,dV env t v none (some (.int .i64 ((i:Nat):Int))) none=some r∧bS h k e r (l.take i):=by
 rcases x.at_.block with h0 | ⟨p,o,m,c,b,C,f,ro,h1,hc,h2,h3⟩
 · omega
 · subst h1
   have hm:m=l.length:=by
    have:=x.at_.lens
    rw[jh] at this
    simp only[Option.some.injEq,AV.int.injEq,true_and] at this
    omega
   subst hm
   refine ⟨.slice p o i c b,?_,⟨⟨x.at_.size,by rw[fZ,Nat.mul_one],by have:=x.small;simp;omega,?_,.inr ⟨p,o,i,c,b,C,f,ro,rfl,by omega,h2,fun j hj=>?_⟩⟩,x.agg,.inr (.inr ⟨_,_,_,_,_,rfl⟩)⟩⟩
   · simp only[dV,ht,x.at_.size,hc,if_true,mE (len:=l.length) (cap:=c) none (some (.int .i64 ((i:Nat):Int))) (.inr ⟨rfl,rfl⟩) (.inl rfl) (Nat.zero_le i) o!]
     rw[if_neg o!]
     simp
   · rw[jh,List.length_take,Nat.min_eq_left (Nat.le_of_lt hi)]
   · rw[fZ,List.length_take] at hj
     rw[h3 j (by rw[fZ];omega),KB k l o!,KB k (l.take i) (by rw[List.length_take];omega)]
     rw[List.g,List.g,List.getD_eq_getElem?_getD,List.getD_eq_getElem?_getD,List.getElem?_take_of_lt o!]
theorem Sq {L:List Int} {n v:Int} {i:Nat} (h:∀q,q<L.length→0≤L.g q∧L.g q<n) (h0:0≤v) (h1:v<n):∀q,q<(L.set i v).length→0≤(L.set i v).g q∧(L.set i v).g q<n:=fun q hq=>by
 rw[List.length_set] at hq
 by_cases e:i=q
 · subst e;rw[iL hq];exact ⟨h0,h1⟩
 · rw[bj e];exact h q hq
theorem abQ {m:Nat}:∀q,q<(List.replicate m (0:Int)).length→0≤(List.replicate m (0:Int)).g q∧(List.replicate m (0:Int)).g q<(m:Int):=fun q hq=>by
 rw[List.length_replicate] at hq
 rw[List.g,List.getD_eq_getElem?_getD,List.getElem?_replicate,if_pos hq]
 exact ⟨Int.le_refl _,by show (0:Int)<_;omega⟩
noncomputable def pr:Code:=(Tryz.f102.body).getD .skip
theorem nY:Tryz.f102.body=some pr:=by kernel_rfl
noncomputable def y7:Code:=(bw pr).getD 0 .skip
def eV (P:Nat→Int) (list:List Int):Nat→Nat→Option (Int)
 | 0,_=>none
 | cS+1,i0=>(bif (!decide ((P i0)=0)) then some (P i0) else eV P list cS (i0+1))
theorem pt {d:Nat} {h:aw} (bK:AV) (g:FuncId) (cap:List AV) (list:List Int) (P:Nat→Int) (bb:bS h .i64 3 bK list) (hP:∀j,j<list.length→∀aV hh,Tidy hh→Has h hh→bS hh .i64 3 aV (list.take j)→cU d (.fn g) (aV:: .int .i64 (list.g j)::cap) hh= .ret (.int .i64 (P j)) hh):∀(k_ i_:Nat) (_:i_+k_=list.length) (x:Nat→AV) (hh:aw) (aA:Tidy hh) (ay:Has h hh),aC (cU (d)) y7 ⟨(bK::(x 1)::(AV.func g [] cap)::rx x 3 11 (bK::(Zn list.length)::(Zn i_)::rx x 17 14 [])),hh,[],.no⟩ (.exit 0) hh (fun y=>(bK::(y 1)::(AV.func g [] cap)::rx y 3 11 (bK::(Zn list.length)::rx y 16 15 []))) (fun r y=>(bK::(y 1)::(AV.func g [] cap)::rx y 3 3 ((Zi r)::rx y 7 7 (bK::(Zn list.length)::rx y 16 15 [])))) (eV P list k_ i_)
 | 0,i0,gq,x,hh,aA,ay=>by
   have cr:=bb.small
   have q1:(decide (((i0:Nat):Int)<((list.length:Nat):Int)))=false:=d!
   exact aC.out rfl (pk (d) _ _ hh _ hh (VV (bO 3 false false .i64 ((i0:Nat):Int) ((list.length:Nat):Int))<|BB q1<|ZZ) k!) (bp.refl aA) k!
 | cS+1,i0,gq,x,hh,aA,ay=>by
   have cr:=bb.small
   have q1:(decide (((i0:Nat):Int)<((list.length:Nat):Int)))=true:=d!
   obtain ⟨p3,q4,cF,_⟩:=(bb.has ay).elem (i:=i0) o!
   have jL:bR env (some (.slice 3)) (some bK) (some (Zn i0))=some (AV.ptr p3 q4):=cF
   have j9:aY env hh 3 (AV.ptr p3 q4)=some (Zi (list.g i0)):=(bb.has ay).load o! cF
   obtain ⟨r6,akx,fr8⟩:=(bb.has ay).pre (t:=26) k! (i:=i0) o!
   have sl7:dV env 26 bK (none) (some (Zn i0)) (none)=some r6:=akx
   have k9:=hP i0 o! r6 hh aA ay fr8
   have dR:=fun {al ps} (k:Pk al _ ps)=>(VV (bO 3 false false .i64 ((i0:Nat):Int) ((list.length:Nat):Int))<|BC q1<|VV jL<|MM j9<|CN 5<|QQ sl7<|CC<|EE k9<|CN 2<|VV (pa 29 false true .i64 (P i0) 0)<|k:Pk _ [] ps)
   rcases Bool.eq_false_or_eq_true (!decide ((P i0)=0)) with f1 | f1
   · have dQ:=HJ f1
     exact aC.ret (P i0) (by simp only[eV,f1,cond_true,cond_false]) (pk (d) _ _ hh _ hh (dR<|BB f1<|CN 2<|ZZ) k!) (bp.refl aA) k!
   · have dQ:=HK f1
     have u11:=dZ 3 false true i0 1 o!
     exact aC.round (by simp only[eV,f1,cond_true,cond_false]) (pk (d) _ _ hh _ hh (dR<|BV f1 u11<|CC<|ZZ) k!) (bp.refl aA) _ k! (fun x=>pt bK g cap list P bb hP cS (i0+1) o! x hh aA ay)
def cI (list:List Int) (dB:Int) (P:Nat→Int):Int:=(bif (decide (dB<((list.length:Nat):Int))) then 3 else (match (eV P list list.length 0) with | none=>0 | some y8=>y8))
theorem Cj {d:Nat} {h:aw} {bK:AV} {g:FuncId} {cap:List AV} (list:List Int) (dB:Int) (P:Nat→Int) (hJ:bS h .i64 3 bK list) (hP:∀j,j<list.length→∀aV hh,Tidy hh→Has h hh→bS hh .i64 3 aV (list.take j)→cU d (.fn g) (aV:: .int .i64 (list.g j)::cap) hh= .ret (.int .i64 (P j)) hh) (ct:Tidy h):cU (d+1) (.fn 102) [bK,(Zi dB),(AV.func g [] cap)] h= .ret (Zi (cI list dB P)) h:=by
 have AO:=hJ.small
 have gL:cc (some (.slice 3)) (some bK)=some (Zn list.length):=hJ.len
 have hI:=fun {al ps} (k:Pk al _ ps)=>(CN 2<|VV gL<|CC<|VV (dw 3 false false .i64 ((list.length:Nat):Int) dB)<|k:Pk _ [] ps)
 rcases Bool.eq_false_or_eq_true (decide (dB<((list.length:Nat):Int))) with f0 | f0
 · have dx:=of_decide_eq_true f0
   have e:cI list dB P=3:=by simp only[cI,f0,cond_true,cond_false]
   rw[e]
   exact aE rfl (aZ Tryz.func102 nY rfl (.inr rfl) (pk (d) _ _ h _ h (hI<|BC f0<|ZZ) k!) k!) (Has.refl _) rfl
 · have dx:=of_decide_eq_false f0
   have L8:cc (some (.slice 3)) (some bK)=some (Zn list.length):=hJ.len
   have NR:=pt (d:=d) (h:=h) bK g cap list P hJ hP list.length 0 o! (fun k_=>((bK::(Zi dB)::(AV.func g [] cap)::AV.undef::AV.undef::AV.undef::(Zi 0)::AV.undef::AV.undef::AV.undef::bK::(Zn list.length)::(Zi dB)::(AV.bool (decide (dB<((list.length:Nat):Int))))::bK::(Zn list.length)::(Zi 0)::lk 14):List AV).getD k_ AV.undef) h ct (Has.refl _)
   cases dg:eV P list list.length 0 with
   | none=>
     obtain ⟨xB,h5,dX,dC⟩:=aC.n dg NR
     have kK:=dC.y
     have tC:h.nx≤h5.nx:=dC.n
     have gE:Has h h5:=dC.a
     have e:cI list dB P=0:=by simp only[cI,f0,dg,cond_true,cond_false]
     rw[e]
     exact aE rfl (aZ Tryz.func102 nY rfl (.inr rfl) (pk (d) _ _ h _ h5 (hI<|BC f0<|VV L8<|CC<|LL dX<|CC<|ZZ) k!) k!) gE rfl
   | some y8=>
     obtain ⟨xB,h5,dX,dC⟩:=aC.r dg NR
     have kK:=dC.y
     have tC:h.nx≤h5.nx:=dC.n
     have gE:Has h h5:=dC.a
     have e:cI list dB P=y8:=by simp only[cI,f0,dg,cond_true,cond_false]
     rw[e]
     exact aE rfl (aZ Tryz.func102 nY rfl (.inr rfl) (pk (d) _ _ h _ h5 (hI<|BC f0<|VV L8<|CC<|LL dX<|ZZ) k!) k!) gE rfl
noncomputable def pv:Code:=(Tryz.f105.body).getD .skip
theorem nZ:Tryz.f105.body=some pv:=by kernel_rfl
noncomputable def y9:Code:=(bw pv).getD 0 .skip
def eW (P:Nat→Int) (list:List jH):Nat→Nat→Option (Int)
 | 0,_=>none
 | cS+1,i0=>(bif (!decide ((P i0)=0)) then some (P i0) else eW P list cS (i0+1))
theorem pw {d:Nat} {h:aw} (bK:AV) (g:FuncId) (cap:List AV) (list:List jH) (P:Nat→Int) (bb:aM h bK list) (hP:∀j,j<list.length→∀aV hh,Tidy hh→Has h hh→aM hh aV (list.take j)→cU d (.fn g) (aV:: .agg (aG.c (list.g j))::cap) hh= .ret (.int .i64 (P j)) hh):∀(k_ i_:Nat) (_:i_+k_=list.length) (x:Nat→AV) (hh:aw) (aA:Tidy hh) (ay:Has h hh),aC (cU (d)) y9 ⟨(bK::(x 1)::(AV.func g [] cap)::rx x 3 11 (bK::(Zn list.length)::(Zn i_)::rx x 17 14 [])),hh,[],.no⟩ (.exit 0) hh (fun y=>(bK::(y 1)::(AV.func g [] cap)::rx y 3 11 (bK::(Zn list.length)::rx y 16 15 []))) (fun r y=>(bK::(y 1)::(AV.func g [] cap)::rx y 3 3 ((Zi r)::rx y 7 7 (bK::(Zn list.length)::rx y 16 15 [])))) (eW P list k_ i_)
 | 0,i0,gq,x,hh,aA,ay=>by
   have cr:=bb.small
   have q1:(decide (((i0:Nat):Int)<((list.length:Nat):Int)))=false:=d!
   exact aC.out rfl (pk (d) _ _ hh _ hh (VV (bO 3 false false .i64 ((i0:Nat):Int) ((list.length:Nat):Int))<|BB q1<|ZZ) k!) (bp.refl aA) k!
 | cS+1,i0,gq,x,hh,aA,ay=>by
   have cr:=bb.small
   have q1:(decide (((i0:Nat):Int)<((list.length:Nat):Int)))=true:=d!
   obtain ⟨p3,q4,cF⟩:=(bb.has ay).elem (i:=i0) o!
   have jL:bR env (some (.slice 80)) (some bK) (some (Zn i0))=some (AV.ptr p3 q4):=cF
   have j9:aY env hh 80 (AV.ptr p3 q4)=some (AV.agg [(Zi ((list.g i0).ah)),(Zi ((list.g i0).aB))]):=(bb.has ay).load o! cF
   obtain ⟨h6,nU,kM,Ce,nV,cE⟩:=kh aA (aH.cells [(Zi 0),(Zi 0)] 80 false)
   have jA:Has hh h6:=cE
   obtain ⟨h7,m8,eO,xA,f_,bD⟩:=qi (t:=80) (n:=2) (i:=hh.nx) (L:=[(Zi ((list.g i0).ah)),(Zi ((list.g i0).aB))]) kM nV k! rfl rfl (by simp only[AV.cells,List.all_cons,List.all_nil,Bool.and_true,Bool.and_self,iE,gd,iF,iG,eP,lF,lG,lH,lI,lJ,iH])
   have du:Has hh h7:=Has.ei jA bD aA o!
   obtain ⟨r8,ae6,ae7⟩:=(bb.has ay).pre (t:=37) k! (i:=i0) o!
   have sl9:dV env 37 bK (none) (some (Zn i0)) (none)=some r8:=ae6
   have U9:=hP i0 o! r8 h7 eO (ay.trans du) (ae7.has du)
   have c12:AV.same 20 (AV.agg [(Zi ((list.g i0).ah)),(Zi ((list.g i0).aB))]) (AV.agg [(Zi ((list.g i0).ah)),(Zi ((list.g i0).aB))])=true:=jy 18 (xh (fun n=>aK n _ _) (xh (fun n=>aK n _ _) TY))
   have dR:=fun {al ps} (k:Pk al _ ps)=>(VV (bO 3 false false .i64 ((i0:Nat):Int) ((list.length:Nat):Int))<|BC q1<|VV jL<|MM j9<|NN nU (fun i=>(Pt i))<|CC<|SS m8<|CN 3<|QQ sl9<|MM (aI 80 0 (AV.agg [(Zi ((list.g i0).ah)),(Zi ((list.g i0).aB))]) f_ k!)<|EE U9<|CC<|HH (aI 80 0 (AV.agg [(Zi ((list.g i0).ah)),(Zi ((list.g i0).aB))]) f_ k!)<|HH c12<|CC<|VV (pa 29 false true .i64 (P i0) 0)<|k:Pk _ [] ps)
   rcases Bool.eq_false_or_eq_true (!decide ((P i0)=0)) with f1 | f1
   · have dQ:=HJ f1
     exact aC.ret (P i0) (by simp only[eW,f1,cond_true,cond_false]) (pk (d) _ _ hh _ h7 (dR<|BB f1<|CN 2<|ZZ) k!) (⟨eO,du,by omega⟩) k!
   · have dQ:=HK f1
     have u14:=dZ 3 false true i0 1 o!
     exact aC.round (by simp only[eW,f1,cond_true,cond_false]) (pk (d) _ _ hh _ h7 (dR<|BV f1 u14<|CC<|ZZ) k!) (⟨eO,du,by omega⟩) _ k! (fun x=>pw bK g cap list P bb hP cS (i0+1) o! x h7 eO (ay.trans du))
def dN (list:List jH) (dB:Int) (P:Nat→Int):Int:=(bif (decide (dB<((list.length:Nat):Int))) then 3 else (match (eW P list list.length 0) with | none=>0 | some y8=>y8))
theorem Ck {d:Nat} {h:aw} {bK:AV} {g:FuncId} {cap:List AV} (list:List jH) (dB:Int) (P:Nat→Int) (hJ:aM h bK list) (hP:∀j,j<list.length→∀aV hh,Tidy hh→Has h hh→aM hh aV (list.take j)→cU d (.fn g) (aV:: .agg (aG.c (list.g j))::cap) hh= .ret (.int .i64 (P j)) hh) (ct:Tidy h):cU (d+1) (.fn 105) [bK,(Zi dB),(AV.func g [] cap)] h= .ret (Zi (dN list dB P)) h:=by
 have AO:=hJ.small
 have gL:cc (some (.slice 80)) (some bK)=some (Zn list.length):=hJ.len
 have hI:=fun {al ps} (k:Pk al _ ps)=>(CN 2<|VV gL<|CC<|VV (dw 3 false false .i64 ((list.length:Nat):Int) dB)<|k:Pk _ [] ps)
 rcases Bool.eq_false_or_eq_true (decide (dB<((list.length:Nat):Int))) with f0 | f0
 · have dx:=of_decide_eq_true f0
   have e:dN list dB P=3:=by simp only[dN,f0,cond_true,cond_false]
   rw[e]
   exact aE rfl (aZ Tryz.func105 nZ rfl (.inr rfl) (pk (d) _ _ h _ h (hI<|BC f0<|ZZ) k!) k!) (Has.refl _) rfl
 · have dx:=of_decide_eq_false f0
   have L8:cc (some (.slice 80)) (some bK)=some (Zn list.length):=hJ.len
   have NR:=pw (d:=d) (h:=h) bK g cap list P hJ hP list.length 0 o! (fun k_=>((bK::(Zi dB)::(AV.func g [] cap)::AV.undef::AV.undef::AV.undef::(Zi 0)::AV.undef::AV.undef::AV.undef::bK::(Zn list.length)::(Zi dB)::(AV.bool (decide (dB<((list.length:Nat):Int))))::bK::(Zn list.length)::(Zi 0)::lk 14):List AV).getD k_ AV.undef) h ct (Has.refl _)
   cases dg:eW P list list.length 0 with
   | none=>
     obtain ⟨xB,h5,dX,dC⟩:=aC.n dg NR
     have kK:=dC.y
     have tC:h.nx≤h5.nx:=dC.n
     have gE:Has h h5:=dC.a
     have e:dN list dB P=0:=by simp only[dN,f0,dg,cond_true,cond_false]
     rw[e]
     exact aE rfl (aZ Tryz.func105 nZ rfl (.inr rfl) (pk (d) _ _ h _ h5 (hI<|BC f0<|VV L8<|CC<|LL dX<|CC<|ZZ) k!) k!) gE rfl
   | some y8=>
     obtain ⟨xB,h5,dX,dC⟩:=aC.r dg NR
     have kK:=dC.y
     have tC:h.nx≤h5.nx:=dC.n
     have gE:Has h h5:=dC.a
     have e:dN list dB P=y8:=by simp only[dN,f0,dg,cond_true,cond_false]
     rw[e]
     exact aE rfl (aZ Tryz.func105 nZ rfl (.inr rfl) (pk (d) _ _ h _ h5 (hI<|BC f0<|VV L8<|CC<|LL dX<|ZZ) k!) k!) gE rfl
noncomputable def AP:Code:=(Tryz.f101.body).getD .skip
theorem Gj:Tryz.f101.body=some AP:=by kernel_rfl
def iV (other:Task) (t:Task):Bool:=(decide (other.name=t.name))
theorem Gk {d:Nat} {h:aw} (other:Task) (t:Task) (tB:Nat) (Ed:aG.ok h other) (Up:aG.ok h t) (Aq:h.get tB=some (.cells (aG.c t) 39 false)) (ct:Tidy h):cU (d+1) (.fn 101) [(AV.agg [(AV.str other.name),(Zi other.takes),other.aO,other.aS]),(Pt tB)] h= .ret (AV.bool (iV other t)) h:=by
 have Z1:=Ed.2.2.small
 have Je:=Up.2.2.small
 obtain ⟨h1,dH,cP,kr,bk,bW⟩:=kh ct (aH.cells [(AV.str other.name),(Zi other.takes),other.aO,other.aS] 39 false)
 have bB:Has h h1:=bW
 have e:iV other t=(decide (other.name=t.name)):=by simp only[iV,cond_true,cond_false]
 rw[e]
 exact aE rfl (aZ Tryz.func101 Gj rfl (.inr rfl) (pk (d) _ _ h _ h1 (NN dH (fun i=>(Pt i))<|CN 2<|MM (aI 9 0 (AV.str other.name) bk k!)<|CC<|MM (aI 9 0 (AV.str t.name) (bW _ _ Aq) k!)<|VV (TX 9 false false other.name t.name)<|CC<|ZZ) k!) k!) bB rfl
noncomputable def x9:Code:=(Tryz.f144.body).getD .skip
theorem Gl:Tryz.f144.body=some x9:=by kernel_rfl
noncomputable def K4:Code:=(bw x9).getD 0 .skip
def iW (s:List Int) (v:Int):Nat→Nat→Option (Int)
 | 0,_=>none
 | cS+1,i0=>(bif (decide (v=(s.g i0))) then some ((i0:Nat):Int) else iW s v cS (i0+1))
theorem ya {d:Nat} {h:aw} (sV:AV) (v:Int) (s:List Int) (bb:bS h .i64 3 sV s):∀(k_ i_:Nat) (_:i_+k_=s.length) (x:Nat→AV) (hh:aw) (aA:Tidy hh) (ay:Has h hh),aC (cU (d)) K4 ⟨(sV::(Zi v)::rx x 2 5 ((Zn s.length)::(Zn i_)::rx x 9 10 [])),hh,[],.no⟩ (.exit 0) hh (fun y=>(sV::(Zi v)::rx y 2 5 ((Zn s.length)::rx y 8 11 []))) (fun r y=>(sV::(Zi v)::(y 2)::(y 3)::(Zi r)::(y 5)::(y 6)::(Zn s.length)::rx y 8 11 [])) (iW s v k_ i_)
 | 0,i0,gq,x,hh,aA,ay=>by
   have cr:=bb.small
   have q1:(decide (((i0:Nat):Int)<((s.length:Nat):Int)))=false:=d!
   exact aC.out rfl (pk (d) _ _ hh _ hh (VV (bO 3 false false .i64 ((i0:Nat):Int) ((s.length:Nat):Int))<|BB q1<|ZZ) k!) (bp.refl aA) k!
 | cS+1,i0,gq,x,hh,aA,ay=>by
   have cr:=bb.small
   have q1:(decide (((i0:Nat):Int)<((s.length:Nat):Int)))=true:=d!
   obtain ⟨p3,q4,cF,_⟩:=(bb.has ay).elem (i:=i0) o!
   have jL:bR env (some (.slice 3)) (some sV) (some (Zn i0))=some (AV.ptr p3 q4):=cF
   have j9:aY env hh 3 (AV.ptr p3 q4)=some (Zi (s.g i0)):=(bb.has ay).load o! cF
   have dR:=fun {al ps} (k:Pk al _ ps)=>(VV (bO 3 false false .i64 ((i0:Nat):Int) ((s.length:Nat):Int))<|BB q1<|CN 5<|VV jL<|MM j9<|VV (xy 3 false false .i64 v (s.g i0))<|k:Pk _ [] ps)
   rcases Bool.eq_false_or_eq_true (decide (v=(s.g i0))) with f1 | f1
   · have dQ:=of_decide_eq_true f1
     exact aC.ret ((i0:Nat):Int) (by simp only[iW,f1,cond_true,cond_false]) (pk (d) _ _ hh _ hh (dR<|BB f1<|CN 2<|ZZ) k!) (bp.refl aA) k!
   · have dQ:=of_decide_eq_false f1
     have u7:=dZ 3 false true i0 1 o!
     exact aC.round (by simp only[iW,f1,cond_true,cond_false]) (pk (d) _ _ hh _ hh (dR<|BV f1 u7<|CC<|ZZ) k!) (bp.refl aA) _ k! (fun x=>ya sV v s bb cS (i0+1) o! x hh aA ay)
def nf (s:List Int) (v:Int):Int:=(match (iW s v s.length 0) with | none=>(-1) | some xC=>xC)
theorem Qa {d:Nat} {h:aw} {sV:AV} (s:List Int) (v:Int) (sU:bS h .i64 3 sV s) (ct:Tidy h):cU (d+1) (.fn 144) [sV,(Zi v)] h= .ret (Zi (nf s v)) h:=by
 have AQ:=sU.small
 have gL:cc (some (.slice 3)) (some sV)=some (Zn s.length):=sU.len
 have Di:=ya (d:=d) (h:=h) sV v s sU s.length 0 o! (fun k_=>((sV::(Zi v)::AV.undef::AV.undef::(Zi 0)::AV.undef::sV::(Zn s.length)::(Zi 0)::lk 10):List AV).getD k_ AV.undef) h ct (Has.refl _)
 cases dz:iW s v s.length 0 with
 | none=>
   obtain ⟨Cb,h3,dy,dt⟩:=aC.n dz Di
   have l9:=dt.y
   have tz:h.nx≤h3.nx:=dt.n
   have iy:Has h h3:=dt.a
   have e:nf s v=(-1):=by simp only[nf,dz,cond_true,cond_false]
   rw[e]
   exact aE rfl (aZ Tryz.func144 Gl rfl (.inr rfl) (pk (d) _ _ h _ h3 (CN 2<|VV gL<|CC<|LL dy<|CC<|ZZ) k!) k!) iy rfl
 | some xC=>
   obtain ⟨Cb,h3,dy,dt⟩:=aC.r dz Di
   have l9:=dt.y
   have tz:h.nx≤h3.nx:=dt.n
   have iy:Has h h3:=dt.a
   have e:nf s v=xC:=by simp only[nf,dz,cond_true,cond_false]
   rw[e]
   exact aE rfl (aZ Tryz.func144 Gl rfl (.inr rfl) (pk (d) _ _ h _ h3 (CN 2<|VV gL<|CC<|LL dy<|ZZ) k!) k!) iy rfl
noncomputable def Cm:Code:=(Tryz.f118.body).getD .skip
theorem HU:Tryz.f118.body=some Cm:=by kernel_rfl
def kW (s:List Int) (v:Int):Bool:=(decide (0≤(nf s v)))
theorem HV {d:Nat} {h:aw} {sV:AV} (s:List Int) (v:Int) (sU:bS h .i64 3 sV s) (ct:Tidy h):cU (d+2) (.fn 118) [sV,(Zi v)] h= .ret (AV.bool (kW s v)) h:=by
 have AQ:=sU.small
 have k1:=Qa (d:=d) s v sU ct
 have e:kW s v=(decide (0≤(nf s v))):=by simp only[kW,cond_true,cond_false]
 rw[e]
 exact aE rfl (aZ Tryz.func118 HU rfl (.inr rfl) (pk (d+1) _ _ h _ h (CN 3<|EE k1<|VV (pc 3 false true .i64 (nf s v) 0)<|CC<|ZZ) k!) k!) (Has.refl _) rfl
noncomputable def Cn:Code:=(Tryz.f104.body).getD .skip
theorem rD:Tryz.f104.body=some Cn:=by kernel_rfl
def gM (j:cG) (before:List Int) (lA:Int):Int:=(bif (!(iI lA ((j.ab.length:Nat):Int))) then 7 else (bif (kW before lA) then 6 else 0))
theorem HW {d:Nat} {h:aw} {ng:AV} (j:cG) (before:List Int) (lA:Int) (bZ:aG.ok h j) (ka:bS h .i64 3 ng before) (ct:Tidy h):cU (d+3) (.fn 104) [(AV.agg [j.ao,j.ai]),ng,(Zi lA)] h= .ret (Zi (gM j before lA)) h:=by
 have y_:=ka.small
 have eT:=bZ.1.small
 have eU:=bZ.2.small
 obtain ⟨h1,dH,cP,kr,bk,bW⟩:=kh ct (aH.cells [j.ao,j.ai] 25 false)
 have bB:Has h h1:=bW
 have K5:cc (some (.slice 39)) (some j.ao)=some (Zn j.ab.length):=bZ.1.len
 have k3:=Gi (d:=d+1) lA ((j.ab.length:Nat):Int) cP
 have dR:=fun {al ps} (k:Pk al _ ps)=>(NN dH (fun i=>(Pt i))<|CN 3<|MM (aI 22 0 j.ao bk k!)<|VV K5<|EE k3<|CN 2<|k:Pk _ [] ps)
 rcases Bool.eq_false_or_eq_true (!(iI lA ((j.ab.length:Nat):Int))) with f0 | f0
 · have e:gM j before lA=7:=by simp only[gM,f0,cond_true,cond_false]
   rw[e]
   exact aE rfl (aZ Tryz.func104 rD rfl (.inr rfl) (pk (d+2) _ _ h _ h1 (dR<|BC f0<|ZZ) k!) k!) bB rfl
 · have k5:=HV (d:=d) before lA (ka.has bB) cP
   rcases Bool.eq_false_or_eq_true (kW before lA) with f1 | f1
   · have e:gM j before lA=6:=by simp only[gM,f0,f1,cond_true,cond_false]
     rw[e]
     exact aE rfl (aZ Tryz.func104 rD rfl (.inr rfl) (pk (d+2) _ _ h _ h1 (dR<|BB f0<|CN 2<|EE k5<|CC<|BC f1<|ZZ) k!) k!) bB rfl
   · have e:gM j before lA=0:=by simp only[gM,f0,f1,cond_true,cond_false]
     rw[e]
     exact aE rfl (aZ Tryz.func104 rD rfl (.inr rfl) (pk (d+2) _ _ h _ h1 (dR<|BB f0<|CN 2<|EE k5<|CC<|BC f1<|ZZ) k!) k!) bB rfl
noncomputable def AR:Code:=(Tryz.f103.body).getD .skip
theorem Gm:Tryz.f103.body=some AR:=by kernel_rfl
def dj (before:List Int) (lA:Int) (j:cG):Int:=(gM j before lA)
theorem Gn {d:Nat} {h:aw} {ng:AV} (before:List Int) (lA:Int) (j:cG) (jB:Nat) (ka:bS h .i64 3 ng before) (bZ:aG.ok h j) (g_j:h.get jB=some (.cells (aG.c j) 25 false)) (ct:Tidy h):cU (d+4) (.fn 103) [ng,(Zi lA),(Pt jB)] h= .ret (Zi (dj before lA j)) h:=by
 have y_:=ka.small
 have eT:=bZ.1.small
 have eU:=bZ.2.small
 have k1:=HW (d:=d) j before lA bZ ka ct
 have e:dj before lA j=(gM j before lA):=by simp only[dj,cond_true,cond_false]
 rw[e]
 exact aE rfl (aZ Tryz.func103 Gm rfl (.inr rfl) (pk (d+3) _ _ h _ h (CC<|MM (aI 25 0 (AV.agg [j.ao,j.ai]) g_j k!)<|CN 2<|EE k1<|CC<|ZZ) k!) k!) (Has.refl _) rfl
noncomputable def Co:Code:=(Tryz.f140.body).getD .skip
theorem HX:Tryz.f140.body=some Co:=by kernel_rfl
def jO (other:jH) (u:jH):Bool:=(decide (other.ah=u.ah))
theorem HY {d:Nat} {h:aw} (other:jH) (u:jH) (uB:Nat) (Ed:aG.ok h other) (h_u:aG.ok h u) (g_u:h.get uB=some (.cells (aG.c u) 80 false)) (ct:Tidy h):cU (d+1) (.fn 140) [(AV.agg [(Zi other.ah),(Zi other.aB)]),(Pt uB)] h= .ret (AV.bool (jO other u)) h:=by
 obtain ⟨h1,dH,cP,kr,bk,bW⟩:=kh ct (aH.cells [(Zi other.ah),(Zi other.aB)] 80 false)
 have bB:Has h h1:=bW
 have e:jO other u=(decide (other.ah=u.ah)):=by simp only[jO,cond_true,cond_false]
 rw[e]
 exact aE rfl (aZ Tryz.func140 HX rfl (.inr rfl) (pk (d) _ _ h _ h1 (NN dH (fun i=>(Pt i))<|CN 2<|MM (aI 3 0 (Zi other.ah) bk k!)<|CC<|MM (aI 3 0 (Zi u.ah) (bW _ _ g_u) k!)<|VV (xy 3 false false .i64 other.ah u.ah)<|CC<|ZZ) k!) k!) bB rfl
noncomputable def uF:Code:=(Tryz.f123.body).getD .skip
theorem AS:Tryz.f123.body=some uF:=by kernel_rfl
noncomputable def Gp:Code:=(bw uF).getD 0 .skip
def gF (s:List jH) (P:jH→Bool):Nat→Nat→Option (Int)
 | 0,_=>none
 | cS+1,i0=>(bif (P (s.g i0)) then some ((i0:Nat):Int) else gF s P cS (i0+1))
theorem uG {d:Nat} {h:aw} (sV:AV) (g:FuncId) (cap:List AV) (s:List jH) (P:jH→Bool) (bb:aM h sV s) (hP:∀y∈s,∀hh,Tidy hh→Has h hh→cU d (.fn g) (.agg (aG.c y)::cap) hh= .ret (.bool (P y)) hh):∀(k_ i_:Nat) (_:i_+k_=s.length) (x:Nat→AV) (hh:aw) (aA:Tidy hh) (ay:Has h hh),aC (cU (d)) Gp ⟨(sV::(AV.func g [] cap)::rx x 2 5 ((Zn s.length)::(Zn i_)::rx x 9 10 [])),hh,[],.no⟩ (.exit 0) hh (fun y=>(sV::(AV.func g [] cap)::rx y 2 5 ((Zn s.length)::rx y 8 11 []))) (fun r y=>(sV::(AV.func g [] cap)::(y 2)::(y 3)::(Zi r)::(y 5)::(y 6)::(Zn s.length)::rx y 8 11 [])) (gF s P k_ i_)
 | 0,i0,gq,x,hh,aA,ay=>by
   have cr:=bb.small
   have q1:(decide (((i0:Nat):Int)<((s.length:Nat):Int)))=false:=d!
   exact aC.out rfl (pk (d) _ _ hh _ hh (VV (bO 3 false false .i64 ((i0:Nat):Int) ((s.length:Nat):Int))<|BB q1<|ZZ) k!) (bp.refl aA) k!
 | cS+1,i0,gq,x,hh,aA,ay=>by
   have cr:=bb.small
   have q1:(decide (((i0:Nat):Int)<((s.length:Nat):Int)))=true:=d!
   obtain ⟨p3,q4,cF⟩:=(bb.has ay).elem (i:=i0) o!
   have jL:bR env (some (.slice 80)) (some sV) (some (Zn i0))=some (AV.ptr p3 q4):=cF
   have j9:aY env hh 80 (AV.ptr p3 q4)=some (AV.agg [(Zi ((s.g i0).ah)),(Zi ((s.g i0).aB))]):=(bb.has ay).load o! cF
   have k6:=hP (s.g i0) (R4 o!) hh aA ay
   have dR:=fun {al ps} (k:Pk al _ ps)=>(VV (bO 3 false false .i64 ((i0:Nat):Int) ((s.length:Nat):Int))<|BB q1<|CN 5<|VV jL<|MM j9<|EE k6<|k:Pk _ [] ps)
   rcases Bool.eq_false_or_eq_true (P (s.g i0)) with f1 | f1
   · exact aC.ret ((i0:Nat):Int) (by simp only[gF,f1,cond_true,cond_false]) (pk (d) _ _ hh _ hh (dR<|BB f1<|CN 2<|ZZ) k!) (bp.refl aA) k!
   · have u8:=dZ 3 false true i0 1 o!
     exact aC.round (by simp only[gF,f1,cond_true,cond_false]) (pk (d) _ _ hh _ hh (dR<|BV f1 u8<|CC<|ZZ) k!) (bp.refl aA) _ k! (fun x=>uG sV g cap s P bb hP cS (i0+1) o! x hh aA ay)
def j0 (s:List jH) (P:jH→Bool):Int:=(match (gF s P s.length 0) with | none=>(-1) | some xC=>xC)
theorem K6 {d:Nat} {h:aw} {sV:AV} {g:FuncId} {cap:List AV} (s:List jH) (P:jH→Bool) (sU:aM h sV s) (hP:∀y∈s,∀hh,Tidy hh→Has h hh→cU d (.fn g) (.agg (aG.c y)::cap) hh= .ret (.bool (P y)) hh) (ct:Tidy h):cU (d+1) (.fn 123) [sV,(AV.func g [] cap)] h= .ret (Zi (j0 s P)) h:=by
 have AQ:=sU.small
 have gL:cc (some (.slice 80)) (some sV)=some (Zn s.length):=sU.len
 have Di:=uG (d:=d) (h:=h) sV g cap s P sU hP s.length 0 o! (fun k_=>((sV::(AV.func g [] cap)::AV.undef::AV.undef::(Zi 0)::AV.undef::sV::(Zn s.length)::(Zi 0)::lk 10):List AV).getD k_ AV.undef) h ct (Has.refl _)
 cases dz:gF s P s.length 0 with
 | none=>
   obtain ⟨Cb,h3,dy,dt⟩:=aC.n dz Di
   have l9:=dt.y
   have tz:h.nx≤h3.nx:=dt.n
   have iy:Has h h3:=dt.a
   have e:j0 s P=(-1):=by simp only[j0,dz,cond_true,cond_false]
   rw[e]
   exact aE rfl (aZ Tryz.func123 AS rfl (.inr rfl) (pk (d) _ _ h _ h3 (CN 2<|VV gL<|CC<|LL dy<|CC<|ZZ) k!) k!) iy rfl
 | some xC=>
   obtain ⟨Cb,h3,dy,dt⟩:=aC.r dz Di
   have l9:=dt.y
   have tz:h.nx≤h3.nx:=dt.n
   have iy:Has h h3:=dt.a
   have e:j0 s P=xC:=by simp only[j0,dz,cond_true,cond_false]
   rw[e]
   exact aE rfl (aZ Tryz.func123 AS rfl (.inr rfl) (pk (d) _ _ h _ h3 (CN 2<|VV gL<|CC<|LL dy<|ZZ) k!) k!) iy rfl
noncomputable def zc:Code:=(Tryz.f70.body).getD .skip
theorem DM:Tryz.f70.body=some zc:=by kernel_rfl
def hU (s:List jH) (P:jH→Bool):Bool:=(decide (0≤(j0 s P)))
theorem DN {d:Nat} {h:aw} {sV:AV} {g:FuncId} {cap:List AV} (s:List jH) (P:jH→Bool) (sU:aM h sV s) (hP:∀y∈s,∀hh,Tidy hh→Has h hh→cU d (.fn g) (.agg (aG.c y)::cap) hh= .ret (.bool (P y)) hh) (ct:Tidy h):cU (d+2) (.fn 70) [sV,(AV.func g [] cap)] h= .ret (AV.bool (hU s P)) h:=by
 have AQ:=sU.small
 have k1:=K6 (d:=d) s P sU hP ct
 have e:hU s P=(decide (0≤(j0 s P))):=by simp only[hU,cond_true,cond_false]
 rw[e]
 exact aE rfl (aZ Tryz.func70 DM rfl (.inr rfl) (pk (d+1) _ _ h _ h (CN 3<|EE k1<|VV (pc 3 false true .i64 (j0 s P) 0)<|CC<|ZZ) k!) k!) (Has.refl _) rfl
end Go.Proofs.aJ
