import Derived.Test.YtemlmndojncekaaGreatW2
import Derived.Test.YtemlmndojncekaaGreatW0
import Derived.Test.YtemlmndojncekaaGreatW1
namespace Go.Proofs.aQ
open Go.Proofs Ab
noncomputable section
set_option maxRecDepth 100000
set_option maxHeartbeats 4000000
set_option linter.unusedVariables false
set_option linter.unusedSimpArgs false
theorem lS.le {t:List Int} {n:Nat} (T:lS t n) {i j:Nat} (h:i≤j) (hj:j<n):fr t i≤fr t j:=by
 rcases Nat.eq_or_lt_of_le h with e | e
 · subst e;exact Int.le_refl _
 · exact Int.le_of_lt (T.up i j e hj)
theorem VS {t t':List Int} {n i:Nat} {mqn:Int} (T:lS t n) (hn:n≤160) (I:Ins t t' n i mqn) (c:∀j,j<i→fr t j<mqn) (b:i<n→mqn<fr t i) (h1:1≤i) (h2:i≤n):lS t' (n+1):=by
 refine ⟨I.len,by rw[I.cn];omega,by omega,by omega,by rw[I.lof 0 o!];exact T.zero,fun a e hae he=>?_⟩
 rcases Nat.lt_trichotomy e i with q | q | q
 · rw[I.lof _ q,I.lof _ o!];exact T.up a e hae o!
 · subst q;rw[I.atf,I.lof _ hae];exact c a hae
 · rw[I.hif e q o!]
   rcases Nat.lt_trichotomy a i with r | r | r
   · rw[I.lof _ r];exact T.up a (e - 1) o! o!
   · subst r;rw[I.atf]
     have:=b o!;have:=T.le (i:=a) (j:=e - 1) o! o!;omega
   · rw[I.hif a r o!];exact T.up (a - 1) (e - 1) o! o!
theorem adr {t t':List Int} {n i:Nat} {mqn:Int} (T:lS t n) (I:Ins t t' n i mqn) (c:∀j,j<i→fr t j<mqn) (b:i<n→mqn<fr t i) (h1:1≤i) (h2:i≤n) {m:Int} (hm:0≤m):yE t' m (n+1)=yE t m n:=by
 obtain ⟨k,k1,k2,k3⟩:=yh (t:=t) (m:=m) (by rw[T.zero];exact hm) T.lo T.up
 rw[uz k1 k3 k2]
 by_cases e:i≤k
 · rw[uz (i:=k+1) o! (fun q p r=>by rw[I.hif q o! o!];exact k3 (q - 1) o! o!) (by rw[I.hif _ o! o!];exact k2),I.hiu _ o! o!]
   rfl
 · by_cases f:mqn≤m
   · have hk:k=i - 1:=by
      rcases Nat.lt_or_ge k (i - 1) with q | q
      · have:=k3 (i - 1) q o!;have:=c (i - 1) o!;omega
      · omega
     rw[uz (i:=i) o! (fun q p r=>by rw[I.hif q p o!];exact k3 (q - 1) o! o!) (by rw[I.atf];exact f),I.atu,hk]
   · rw[uz (i:=k) o! (fun q p r=>by
      rcases Nat.lt_trichotomy q i with s | s | s
      · rw[I.lof _ s];exact k3 q p o!
      · subst s;rw[I.atf];omega
      · rw[I.hif q s o!]
        have:=b o!;have:=T.le (i:=i) (j:=q - 1) o! o!;omega) (by rw[I.lof _ o!];exact k2),I.lou _ o!]
theorem ON {t:List Int} {n:Nat} (T:lS t n) (hn:n≤160) {mqn:Int} (hm:0≤mqn):∃i n':Nat,(bD t mqn).1=(i:Int)∧lS (bD t mqn).2 n'∧n≤n'∧n'≤n+1∧i<n'∧fr (bD t mqn).2 i=mqn∧(∀m,0≤m→yE (bD t mqn).2 m n'=yE t m n)∧(bD t mqn).2.g 323=t.g 323∧(∀k,k<n→fr t k<mqn→fr (bD t mqn).2 k=fr t k)∧(∀k,k<n'→∃q,q<n∧us (bD t mqn).2 k=us t q)∧∀k,k<n'→fr (bD t mqn).2 k=mqn∨∃q,q<n∧fr (bD t mqn).2 k=fr t q:=by
 obtain ⟨i,e,c,b,h⟩:=agJ T hn hm
 rcases h with ⟨h1,h2,h3⟩ | ⟨h1,h2,h3,I⟩
 · rw[h3]
   exact ⟨i,n,e,T,Nat.le_refl _,by omega,h1,h2,fun m _=>rfl,rfl,fun k _ _=>rfl,fun k hk=>⟨k,hk,rfl⟩,fun k hk=> .inr ⟨k,hk,rfl⟩⟩
 · refine ⟨i,n+1,e,VS T hn I c h3 h1 h2,by omega,by omega,by omega,I.atf,fun m hm=>adr T I c h3 h1 h2 hm,I.mark,fun k hk hf=>?_,fun k hk=>?_,fun k hk=>?_⟩
   · rcases Nat.lt_or_ge k i with q | q
     · exact I.lof k q
     · have:=b k q hk;omega
   · rcases Nat.lt_trichotomy k i with q | q | q
     · exact ⟨k,by omega,I.lou k q⟩
     · subst q;exact ⟨k - 1,by omega,I.atu⟩
     · exact ⟨k - 1,by omega,I.hiu k q o!⟩
   · rcases Nat.lt_trichotomy k i with q | q | q
     · exact .inr ⟨k,by omega,I.lof k q⟩
     · subst q;exact .inl I.atf
     · exact .inr ⟨k - 1,by omega,I.hif k q o!⟩
theorem JV {pieces:Int} {t:List Int} {s:Span} {e:Nat} (he:(bD (bD t s.bq).2 (s.ba+1)).1=(e:Int)) (h1:e≤161):∀(kq v:Nat) (a:List Int),a.length=324→e≤v+kq→(∀k,v≤k→k<e→-9223372036854775808≤us a k+pieces∧us a k+pieces<9223372036854775808)→
 (fw pieces t s kq (v:Int) a).length=324∧(∀k,fr (fw pieces t s kq (v:Int) a) k=fr a k)∧(∀k,v≤k→k<e→us (fw pieces t s kq (v:Int) a) k=us a k+pieces)∧∀k,k<v∨e≤k→us (fw pieces t s kq (v:Int) a) k=us a k
 | 0,v,a,ha,hv,hw=>by rw[fw];exact ⟨ha,fun k=>rfl,fun k p q=>by omega,fun k _=>rfl⟩
 | kq+1,v,a,ha,hv,hw=>by
   rw[fw,he]
   by_cases f:v<e
   · rw[decide_eq_true (by omega:(v:Int)<(e:Int)),aj,Int.toNat_natCast,show ((v:Int)+1)=((v+1:Nat):Int) by omega]
     have hq:=hw v (Nat.le_refl _) f
     rw[wrap_i64 (n:=a.g (v*2+1)+pieces) hq.1 hq.2]
     have hs:∀k,k≠v→us (a.set (v*2+1) (a.g (v*2+1)+pieces)) k=us a k:=fun k hk=>by rw[us,us,bn o!]
     obtain ⟨r1,r2,r3,r4⟩:=JV he h1 kq (v+1) (a.set (v*2+1) (a.g (v*2+1)+pieces)) (by rw[List.length_set];exact ha) o! (fun k p q=>by rw[hs k o!];exact hw k o! q)
     refine ⟨r1,fun k=>by rw[r2,fr,fr,bn o!],fun k p q=>?_,fun k p=>?_⟩
     · by_cases z:k=v
       · subst z;rw[r4 k (.inl o!),us,g7 (by rw[ha];omega)];rfl
       · rw[r3 k o! q,hs k z]
     · rw[r4 k o!,hs k o!]
   · rw[decide_eq_false (by omega:¬(v:Int)<(e:Int)),ai]
     exact ⟨ha,fun k=>rfl,fun k p q=>by omega,fun k _=>rfl⟩
theorem ZA {t:List Int} {n:Nat} (T:lS t n) (hn:n≤159) {s:Span} {pieces B C:Int} (hC:∀k,k<n→fr t k≤C) (hs:s.ba<C) (h0:0≤s.bq) (h1:s.bq≤s.ba) (hp:0≤pieces) (hb:∀k,k<n→0≤us t k∧us t k≤B) (hB:B+pieces<9223372036854775808):
 ∃n':Nat,lS (eU t s pieces) n'∧n'≤n+2∧(∀m,0≤m→yE (eU t s pieces) m n'=yE t m n+if s.bq≤m∧m≤s.ba then pieces else 0)∧(eU t s pieces).g 323=t.g 323∧(∀k,k<n'→0≤us (eU t s pieces) k∧us (eU t s pieces) k≤B+pieces)∧∀k,k<n'→fr (eU t s pieces) k≤C:=by
 obtain ⟨i1,n1,e1,T1,a1,b1,c1,d1,l1,m1,k1,u1,v1⟩:=ON T o! h0
 obtain ⟨i2,n2,e2,T2,a2,b2,c2,d2,l2,m2,k2,u2,v2⟩:=ON T1 o! (show 0≤s.ba+1 by omega)
 have f1:fr (bD (bD t s.bq).2 (s.ba+1)).2 i1=s.bq:=by rw[k2 i1 c1 o!,d1]
 have hb2:∀k,k<n2→0≤us (bD (bD t s.bq).2 (s.ba+1)).2 k∧us (bD (bD t s.bq).2 (s.ba+1)).2 k≤B:=fun k hk=>by
  obtain ⟨q,hq,eq⟩:=u2 k hk
  obtain ⟨r,hr,er⟩:=u1 q hq
  rw[eq,er];exact hb r hr
 have hf2:∀k,k<n2→fr (bD (bD t s.bq).2 (s.ba+1)).2 k≤C:=fun k hk=>by
  rcases v2 k hk with e | ⟨q,hq,e⟩
  · omega
  · rw[e]
    rcases v1 q hq with e | ⟨r,hr,e⟩
    · omega
    · rw[e];exact hC r hr
 have i12:i1<i2:=by
  rcases Nat.lt_or_ge i1 i2 with q | q
  · exact q
  · have:=T2.le q (by omega:i1<n2);omega
 have hu:eU t s pieces=fw pieces t s (i2 - i1) (i1:Int) (bD (bD t s.bq).2 (s.ba+1)).2:=by
  rw[eU,decide_eq_false (show ¬s.ba<s.bq by omega),ai,e1,e2,show Int.toNat ((i2:Int) -(i1:Int))=i2 - i1 by omega]
 rw[hu]
 generalize ht:(bD (bD t s.bq).2 (s.ba+1)).2=t2 at *
 have hi:=T2.hi
 obtain ⟨r1,r2,r3,r4⟩:=JV (pieces:=pieces) (t:=t) (s:=s) e2 o! (i2 - i1) i1 t2 T2.len o! (fun k p q=>by have:=hb2 k o!;omega)
 generalize fw pieces t s (i2 - i1) (i1:Int) t2=r at *
 have TR:lS r n2:=⟨r1,by rw[show r.g 322=t2.g 322 from r2 161];exact T2.cn,T2.lo,T2.hi,by rw[r2];exact T2.zero,fun a b p q=>by rw[r2,r2];exact T2.up a b p q⟩
 refine ⟨n2,TR,by omega,fun m hm=>?_,?_,fun k hk=>?_,fun k hk=>by rw[r2];exact hf2 k hk⟩
 · rw[←l1 m hm,←l2 m hm]
   obtain ⟨k,q1,q2,q3⟩:=yh (t:=t2) (m:=m) (by rw[T2.zero];exact hm) T2.lo T2.up
   rw[uz q1 q3 q2,uz q1 (fun j p q=>by rw[r2];exact q3 j p q) (by rw[r2];exact q2)]
   by_cases z:i1≤k
   · have y1:=T2.le z q1
     by_cases w:k<i2
     · have y2:=q3 i2 w c2
       rw[r3 k z w,if_pos ⟨by omega,by omega⟩]
     · have y2:=T2.le (show i2≤k by omega) q1
       rw[r4 k o!,if_neg o!];omega
   · have y1:=q3 i1 o! o!
     rw[r4 k o!,if_neg o!];omega
 · have:=r4 161 (.inr o!);unfold us at this;rw[show r.g 323=t2.g 323 from this,m2,m1]
 · have hbk:=hb2 k hk
   by_cases z:i1≤k∧k<i2
   · rw[r3 k z.1 z.2];omega
   · rw[r4 k o!];omega
theorem lS.nn {t:List Int} {n:Nat} (T:lS t n) {k:Nat} (h:k<n):0≤fr t k:=by
 have:=T.le (Nat.zero_le k) h;rw[T.zero] at this;exact this
theorem lS.yE {t:List Int} {n:Nat} (T:lS t n) {k:Nat} (h:k<n) {m:Int} (h0:fr t k≤m) (h1:k+1<n→m<fr t (k+1)):yE t m n=us t k:=
 uz h (fun j p q=>by have:=h1 o!;have:=T.le (i:=k+1) (j:=j) o! q;omega) h0
theorem ZB {t:List Int} {n:Nat} (T:lS t n) (i:Nat):w_ t (i:Int)=if i+1<n then fr t (i+1) else 100001:=by
 rw[w_,T.cn,show ((i:Int)+1)=((i+1:Nat):Int) by omega,Int.toNat_natCast]
 by_cases f:i+1<n
 · rw[decide_eq_true (by omega:((i+1:Nat):Int)<(n:Int)),aj,if_pos f];rfl
 · rw[decide_eq_false (by omega:¬((i+1:Nat):Int)<(n:Int)),ai,if_neg f]
theorem G5 {t:List Int} {n:Nat} (T:lS t n) {takes pieces pL:Int} (h0:0≤pL) (ht:0≤takes) (ht2:takes≤100000) (hf:∀k,k<n→fr t k≤100001) (hw:∀k,k<n→-9223372036854775808≤us t k+pieces∧us t k+pieces<9223372036854775808):∀(k i:Nat) (v:Int),i+k=n→pL≤v→v≤1000000→
 (∀f,pL≤f→f<v→100001<f+takes∨∃m,f≤m∧m<f+takes∧m<100001∧t.g 323<yE t m n+pieces)∨takes=0→(∀m,v≤m→(i<n→m<fr t i)→m<100001→yE t m n+pieces≤t.g 323)→
 pL≤eE t takes pieces k i v∧((∀f,pL≤f→f<eE t takes pieces k i v→100001<f+takes∨∃m,f≤m∧m<f+takes∧m<100001∧t.g 323<yE t m n+pieces)∨takes=0)∧(∀m,eE t takes pieces k i v≤m→m<eE t takes pieces k i v+takes→m<100001→yE t m n+pieces≤t.g 323)∧eE t takes pieces k i v≤1000000
 | 0,i,v,hi,a,b,c,e=>by
   rw[eE]
   exact ⟨a,c,fun m p q r=>e m p (fun z=>by omega) r,b⟩
 | k+1,i,v,hi,a,b,c,e=>by
   rw[eE,wrap_i64 (n:=v+takes) o! o!]
   have M_:i<n:=by omega
   have hfi:=hf i M_
   have hl:∀m,fr t i≤m→(i+1<n→m<fr t (i+1))→yE t m n=us t i:=fun m p q=>T.yE M_ p q
   by_cases f0:v+takes≤fr t i
   · rw[decide_eq_true (show v+takes≤t.g (i*2) from f0),aj]
     exact ⟨a,c,fun m p q r=>e m p (fun z=>by omega) r,b⟩
   · rw[decide_eq_false (show ¬v+takes≤t.g (i*2) from f0),ai,wrap_i64 (n:=t.g (i*2+1)+pieces) (hw i M_).1 (hw i M_).2]
     by_cases f1:t.g 323<us t i+pieces
     · rw[decide_eq_true (show t.g 323<t.g (i*2+1)+pieces from f1),aj,ZB T]
       have he:fr t i≤(if i+1<n then fr t (i+1) else 100001)∧(if i+1<n then fr t (i+1) else (100001:Int))≤100001∧(i+1<n→(if i+1<n then fr t (i+1) else 100001)=fr t (i+1))∧(¬i+1<n→(if i+1<n then fr t (i+1) else (100001:Int))=100001):=by
        by_cases z:i+1<n
        · rw[if_pos z];exact ⟨T.le o! z,hf _ z,fun _=>rfl,fun y=>absurd z y⟩
        · rw[if_neg z];exact ⟨hfi,Int.le_refl _,fun y=>absurd y z,fun _=>rfl⟩
       generalize (if i+1<n then fr t (i+1) else (100001:Int))=E at he
       obtain ⟨he1,he2,he3,he4⟩:=he
       have Xm:v≤imax v E∧E≤imax v E∧(imax v E=v∨imax v E=E):=by
        unfold imax;split<;>omega
       obtain ⟨x1,x2,x3⟩:=Xm
       generalize imax v E=V at x1 x2 x3
       refine G5 T h0 ht ht2 hf hw k (i+1) V o! o! o! ?_ (fun m p q r=>?_)
       · rcases c with c | c
         · by_cases z:takes=0
           · exact .inr z
           · refine .inl fun f p q=>?_
             by_cases y:f<v
             · exact c f p y
             · by_cases w:fr t i≤f
               · exact .inr ⟨f,Int.le_refl _,by omega,by omega,by rw[hl f w (fun r=>by have:=he3 r;omega)];exact f1⟩
               · by_cases y2:fr t i=100001
                 · exact .inl o!
                 exact .inr ⟨fr t i,by omega,by omega,by omega,by rw[hl _ (Int.le_refl _) (fun r=>T.up i (i+1) o! r)];exact f1⟩
         · exact .inr c
       · by_cases u:i+1<n
         · have:=q u;have:=he3 u;omega
         · have:=he4 u;omega
     · rw[decide_eq_false (show ¬t.g 323<t.g (i*2+1)+pieces from f1),ai]
       refine G5 T h0 ht ht2 hf hw k (i+1) v o! a b c (fun m p q r=>?_)
       by_cases y:m<fr t i
       · exact e m p (fun _=>y) r
       · rw[hl m o! q];omega
theorem Ro {t:List Int} {n:Nat} (T:lS t n) {takes pieces pL:Int} (h0:0≤pL) (h1:pL≤1000000) (ht:0≤takes) (ht2:takes≤100000) (hf:∀k,k<n→fr t k≤100001) (hw:∀k,k<n→-9223372036854775808≤us t k+pieces∧us t k+pieces<9223372036854775808):
 pL≤nC t pL takes pieces∧((∀f,pL≤f→f<nC t pL takes pieces→100001<f+takes∨∃m,f≤m∧m<f+takes∧m<100001∧t.g 323<yE t m n+pieces)∨takes=0)∧(∀m,nC t pL takes pieces≤m→m<nC t pL takes pieces+takes→m<100001→yE t m n+pieces≤t.g 323)∧nC t pL takes pieces≤1000000:=by
 rw[nC,T.cn,Int.toNat_natCast]
 exact G5 T h0 ht ht2 hf hw n 0 pL o! (Int.le_refl _) h1 (.inl fun f p q=>by omega) (fun m p q r=>by have:=q T.lo;rw[T.zero] at this;omega)
def LG (aJ:Int):List Int:=List.replicate 322 0++[1,aJ]
theorem E8 {aJ:Int} {k:Nat} (h:k<322):(LG aJ).g k=0:=by
 rw[LG,List.g,List.getD_eq_getElem?_getD,List.getElem?_append_left (by rw[List.length_replicate];exact h),List.getElem?_replicate,if_pos h];rfl
theorem G6 (aJ:Int):lS (LG aJ) 1:=
 ⟨rfl,rfl,Nat.le_refl _,by decide,E8 (by decide),fun i j p q=>by omega⟩
theorem ZC (aJ:Int) {m:Int} (hm:0≤m):yE (LG aJ) m 1=0:=by
 rw[yE,if_pos (by rw[(G6 aJ).zero];exact hm),us,E8 (by decide)]
theorem ads (aJ:Int) {k:Nat} (h:k<1):us (LG aJ) k=0:=E8 o!
theorem adt (aJ:Int) {k:Nat} (h:k<1):fr (LG aJ) k=0:=E8 o!
def ZD (s:Span) (m p:Int):Int:=if s.bq≤m∧m≤s.ba then p else 0
structure qT (t:List Int) (n:Nat) (B C:Int):Prop where
 is:lS t n
 u:∀k,k<n→0≤us t k∧us t k≤B
 f:∀k,k<n→fr t k≤C
theorem agK (aJ:Int) {C:Int} (hC:0≤C):qT (LG aJ) 1 0 C:=
 ⟨G6 aJ,fun k h=>by rw[ads aJ h];omega,fun k h=>by rw[adt aJ h];exact hC⟩
theorem LH {t:List Int} {n:Nat} {B C:Int} (T:qT t n B C) (hn:n≤159) {s:Span} {p:Int} (h0:0≤s.bq) (hs:s.ba<C) (hp:0≤p) (hB:B+p<9223372036854775808):
 ∃n':Nat,qT (eU t s p) n' (B+p) C∧n'≤n+2∧(∀m,0≤m→yE (eU t s p) m n'=yE t m n+ZD s m p)∧(eU t s p).g 323=t.g 323:=by
 by_cases h:s.bq≤s.ba
 · obtain ⟨n',a,b,c,d,e,f⟩:=ZA T.is hn T.f hs h0 h hp T.u hB
   exact ⟨n',⟨a,e,f⟩,b,c,d⟩
 · have hw:eU t s p=t:=by rw[eU,decide_eq_true (show s.ba<s.bq by omega),aj]
   rw[hw]
   exact ⟨n,⟨T.is,fun k hk=>by have:=T.u k hk;omega,T.f⟩,by omega,fun m _=>by rw[ZD,if_neg o!];omega,rfl⟩
def uA (t:List Int) (l:List (Span×Int)):List Int:=l.foldl (fun t x=>eU t x.1 x.2) t
def IC (l:List (Span×Int)) (m:Int):Int:=(l.map fun x=>ZD x.1 m x.2).sum
def Bz (l:List (Span×Int)):Int:=(l.map fun x=>x.2).sum
theorem TZ:∀{l:List (Span×Int)},(∀x∈l,0≤x.2)→0≤Bz l
 | [],_=>Int.le_refl _
 | x::l,h=>by
   have a:=h x (.head _)
   have b:=TZ (l:=l) fun y hy=>h y (.tail _ hy)
   show 0≤((x::l).map fun x=>x.2).sum
   rw[List.map_cons,List.sum_cons];unfold Bz at b;omega
theorem OO {C:Int}:∀(l:List (Span×Int)) (t:List Int) (n:Nat) (B:Int),qT t n B C→n+2*l.length≤161→(∀x∈l,0≤x.1.bq∧x.1.ba<C∧0≤x.2)→B+Bz l<9223372036854775808→
 ∃n':Nat,qT (uA t l) n' (B+Bz l) C∧n'≤n+2*l.length∧(∀m,0≤m→yE (uA t l) m n'=yE t m n+IC l m)∧(uA t l).g 323=t.g 323
 | [],t,n,B,T,hn,hx,hB=>⟨n,by rw[show B+Bz []=B from Int.add_zero B];exact T,by simp,fun m _=>(Int.add_zero _).symm,rfl⟩
 | x::l,t,n,B,T,hn,hx,hB=>by
   have hp:Bz (x::l)=x.2+Bz l:=by unfold Bz;rw[List.map_cons,List.sum_cons]
   have hq:0≤Bz l:=TZ fun y hy=>(hx y (.tail _ hy)).2.2
   have h1:=hx x (.head _)
   rw[List.length_cons] at hn
   obtain ⟨n1,a,b,c,d⟩:=LH T o! (s:=x.1) (p:=x.2) h1.1 h1.2.1 h1.2.2 o!
   obtain ⟨n2,a2,b2,c2,d2⟩:=OO l (eU t x.1 x.2) n1 (B+x.2) a o! (fun y hy=>hx y (.tail _ hy)) o!
   refine ⟨n2,?_,by rw[List.length_cons];omega,fun m hm=>?_,d2.trans d⟩
   · rw[show B+Bz (x::l)=B+x.2+Bz l by omega];exact a2
   · show yE (uA (eU t x.1 x.2) l) m n2=_
     rw[c2 m hm,c m hm]
     show _=yE t m n+((x::l).map fun x=>ZD x.1 m x.2).sum
     rw[List.map_cons,List.sum_cons];unfold IC;omega
theorem C7 {α:Type} [Inhabited α] {l:List α} {v:Nat} (h:v<l.length):l.drop v=l.g v::l.drop (v+1):=by
 rw[List.drop_eq_getElem_cons h,List.g,List.getD_eq_getElem?_getD,List.getElem?_eq_getElem h];rfl
def ew (L:List Tl) (us:List og) (sp:Span):List Tl:=us.foldl (fun L u=>L.set (Int.toNat u.ah) ⟨eU (fit (L.g (Int.toNat u.ah)).l) sp u.aJ⟩) L
theorem JW {j:cx} {tqk g6:Int}:∀(kq v:Nat) (a:List Bool) (b:List Int) (c:List Tl),(j.ab.g (Int.toNat tqk)).aA.length≤v+kq→jP j tqk g6 kq (v:Int) a b c=(a,b,ew c ((j.ab.g (Int.toNat tqk)).aA.drop v) ⟨g6,g6+(j.ab.g (Int.toNat tqk)).takes - 1⟩)
 | 0,v,a,b,c,h=>by rw[jP,List.drop_eq_nil_of_le o!];rfl
 | kq+1,v,a,b,c,h=>by
   rw[jP]
   by_cases f:v<(j.ab.g (Int.toNat tqk)).aA.length
   · rw[decide_eq_true (by omega:(v:Int)<((j.ab.g (Int.toNat tqk)).aA.length:Int)),aj,show ((v:Int)+1)=((v+1:Nat):Int) by omega,JW kq (v+1) _ _ _ o!,Int.toNat_natCast,C7 f]
     rfl
   · rw[decide_eq_false (by omega:¬(v:Int)<((j.ab.g (Int.toNat tqk)).aA.length:Int)),ai,List.drop_eq_nil_of_le o!];rfl
theorem z9 (j:cx) (az:List Bool) (au:List Int) (aX:List Tl) (tqk g6:Int):fR j az au aX tqk g6=(az.set (Int.toNat tqk) true,au.set (Int.toNat tqk) g6,ew aX (j.ab.g (Int.toNat tqk)).aA ⟨g6,g6+(j.ab.g (Int.toNat tqk)).takes - 1⟩):=by
 rw[fR,show (0:Int)=((0:Nat):Int) from rfl,JW _ _ _ _ _ o!,List.drop_zero]
theorem G7 (us:List og) (sp:Span):∀L:List Tl,(ew L us sp).length=L.length:=by
 induction us with
 | nil=>intro L;rfl
 | cons u us ih=>intro L;show (ew (L.set _ _) us sp).length=_;rw[ih,List.length_set]
def Dis (us:List og):Prop:=us.Pairwise fun a b=>Int.toNat a.ah≠Int.toNat b.ah
theorem LI {sp:Span} {r:Nat}:∀(us:List og) (L:List Tl),Dis us→(∀u∈us,Int.toNat u.ah<L.length)→
 (∃u∈us,Int.toNat u.ah=r∧(ew L us sp).g r=⟨eU (fit (L.g r).l) sp u.aJ⟩)∨((∀u∈us,Int.toNat u.ah≠r)∧(ew L us sp).g r=L.g r)
 | [],L,_,_=> .inr ⟨(fun _ h=>by cases h),rfl⟩
 | u::us,L,hd,hr=>by
   obtain ⟨h1,h2⟩:=List.pairwise_cons.1 hd
   have hu:=hr u (.head _)
   have ih:=LI (sp:=sp) (r:=r) us (L.set (Int.toNat u.ah) ⟨eU (fit (L.g (Int.toNat u.ah)).l) sp u.aJ⟩) h2 fun x hx=>by rw[List.length_set];exact hr x (.tail _ hx)
   have e:ew L (u::us) sp=ew (L.set (Int.toNat u.ah) ⟨eU (fit (L.g (Int.toNat u.ah)).l) sp u.aJ⟩) us sp:=rfl
   rw[e]
   by_cases hur:Int.toNat u.ah=r
   · rcases ih with ⟨x,hx,ex,_⟩ | ⟨hn,g⟩
     · exact absurd (hur.trans ex.symm) (h1 x hx)
     · refine .inl ⟨u,.head _,hur,?_⟩
       rw[g,hur,VH o!]
   · rcases ih with ⟨x,hx,ex,g⟩ | ⟨hn,g⟩
     · exact .inl ⟨x,.tail _ hx,ex,by rw[g,C4 hur]⟩
     · refine .inr ⟨fun x hx=>?_,by rw[g,C4 hur]⟩
       cases hx with
       | head=>exact hur
       | tail _ hx=>exact hn x hx
theorem LJ {us:List og} (h0:∀q,q<us.length→0≤(us.g q).ah) (hd:∀a,a<us.length→∀b,a<b→b<us.length→(us.g a).ah≠(us.g b).ah):Dis us:=by
 have hg:∀q (h:q<us.length),us.g q=us[q]:=fun q h=>by rw[List.g,List.getD_eq_getElem?_getD,List.getElem?_eq_getElem h];rfl
 refine List.pairwise_iff_getElem.2 fun a b ha hb hab e=>?_
 have:=hd a ha b hab hb
 have x:=h0 a ha
 have y:=h0 b hb
 rw[hg a ha,hg b hb] at this
 rw[hg a ha] at x
 rw[hg b hb] at y
 omega
theorem BA {α:Type} [Inhabited α] {l:List α} {x:α} (h:x∈l):∃i,i<l.length∧l.g i=x:=by
 obtain ⟨i,hi,e⟩:=List.mem_iff_getElem.1 h
 exact ⟨i,hi,by rw[List.g,List.getD_eq_getElem?_getD,List.getElem?_eq_getElem hi];exact e⟩
theorem rp.use {c:Int} {t:Tl} (h:rp c t) (hc:c≤159) {sp:Span} {p:Int} (h0:0≤sp.bq) (h1:sp.ba≤100000000):rp (c+2) ⟨eU (fit t.l) sp p⟩:=by
 obtain ⟨a,b,c',d,e⟩:=Bq (fit t.l) sp p (uv _) h.1 (Int.le_trans h.2.1 hc) h.2.2 h0 h1
 have:=h.2.1
 unfold rp
 rw[rZ e]
 exact ⟨a,by omega,c'⟩
theorem OQ (j:cx) (az:List Bool) (au:List Int) (aX:List Tl) (tqk g6:Int) (ur:∀q,q<(j.ab.g (Int.toNat tqk)).aA.length→0≤((j.ab.g (Int.toNat tqk)).aA.g q).ah∧((j.ab.g (Int.toNat tqk)).aA.g q).ah<(aX.length:Int)) (ud:∀a,a<(j.ab.g (Int.toNat tqk)).aA.length→∀b,a<b→b<(j.ab.g (Int.toNat tqk)).aA.length→((j.ab.g (Int.toNat tqk)).aA.g a).ah≠((j.ab.g (Int.toNat tqk)).aA.g b).ah) (h0:0≤g6) (h1:g6+(j.ab.g (Int.toNat tqk)).takes≤100000):
 (fR j az au aX tqk g6).2.2.length=aX.length∧∀c:Int,c≤159→(∀r,r<aX.length→rp c (aX.g r))→∀r,r<aX.length→rp (c+2) ((fR j az au aX tqk g6).2.2.g r):=by
 rw[z9]
 refine ⟨G7 _ _ _,fun c hc ht r hr=>?_⟩
 have hd:=LJ (fun q hq=>(ur q hq).1) ud
 rcases LI (sp:=⟨g6,g6+(j.ab.g (Int.toNat tqk)).takes - 1⟩) (r:=r) _ aX hd (fun u hu=>by
  obtain ⟨i,hi,e⟩:=BA hu
  have:=ur i hi
  rw[e] at this;omega) with ⟨u,_,_,g⟩ | ⟨_,g⟩
 · show rp (c+2) ((ew _ _ _).g r)
   rw[g];exact (ht r hr).use hc h0 (by dsimp only;omega)
 · show rp (c+2) ((ew _ _ _).g r)
   rw[g];exact (ht r hr).le o!
theorem OS {j:cx} {i:Nat}:∀(kq v:Nat) (a:List Int),(j.af.g i).off.length≤v+kq→dr j i kq (v:Int) a=uA a (((j.af.g i).off.drop v).map fun s=>(s,(j.af.g i).aJ))
 | 0,v,a,h=>by rw[dr,List.drop_eq_nil_of_le o!];rfl
 | kq+1,v,a,h=>by
   rw[dr]
   by_cases f:v<(j.af.g i).off.length
   · rw[decide_eq_true (by omega:(v:Int)<((j.af.g i).off.length:Int)),aj,show ((v:Int)+1)=((v+1:Nat):Int) by omega,OS kq (v+1) _ o!,Int.toNat_natCast,C7 f]
     rfl
   · rw[decide_eq_false (by omega:¬(v:Int)<((j.af.g i).off.length:Int)),ai,List.drop_eq_nil_of_le o!];rfl
def nbT (r:bJ):List Int:=uA (cI r.aJ) (r.off.map fun s=>(s,r.aJ))
theorem OT {j:cx}:∀(kq i:Nat) (c:List Tl) (a:List Bool) (b:List Int),i+kq=j.af.length→cP j kq i c a b=(c++(j.af.drop i).map fun r=>⟨nbT r⟩,a,b)
 | 0,i,c,a,b,h=>by rw[cP,List.drop_eq_nil_of_le o!,List.map_nil,List.append_nil]
 | kq+1,i,c,a,b,h=>by
   rw[cP,OT kq (i+1) _ _ _ o!,C7 (show i<j.af.length by omega),List.map_cons,List.append_assoc,show (0:Int)=((0:Nat):Int) from rfl,OS _ _ _ o!,List.drop_zero]
   rfl
theorem JX (j:cx):aK j=(j.af.map fun r=>⟨nbT r⟩,List.replicate j.ab.length false,List.replicate j.ab.length 0):=by
 rw[aK,OT _ _ _ _ _ o!];rfl
theorem JY:∀(l:List (Span×Int)) (t:List Int) (c:Int),t.length=324→rp c ⟨t⟩→c+2*l.length≤161→(∀x∈l,0≤x.1.bq∧x.1.ba≤100000000)→(uA t l).length=324∧rp (c+2*l.length) ⟨uA t l⟩
 | [],t,c,hl,h,_,_=>⟨hl,h.le (by simp)⟩
 | x::l,t,c,hl,h,hc,hx=>by
   rw[List.length_cons] at hc ⊢
   have hx1:=hx x (.head _)
   have hf:=rZ hl
   have u:=h.use (sp:=x.1) (p:=x.2) o! hx1.1 hx1.2
   rw[show (⟨t⟩:Tl).l=t from rfl,hf] at u
   obtain ⟨a,b,c',d,e⟩:=Bq t x.1 x.2 hl (by have:=h.1;rw[show (⟨t⟩:Tl).l=t from rfl,hf] at this;exact this) (by have:=h.2.1;rw[show (⟨t⟩:Tl).l=t from rfl,hf] at this;omega) (by have:=h.2.2;rw[show (⟨t⟩:Tl).l=t from rfl,hf] at this;exact this) hx1.1 hx1.2
   obtain ⟨r1,r2⟩:=JY l (eU t x.1 x.2) (c+2) e u o! fun y hy=>hx y (.tail _ hy)
   exact ⟨r1,r2.le o!⟩
theorem oK (j:cx) (ro:∀r,r<j.af.length→(j.af.g r).off.length≤16∧∀q,q<(j.af.g r).off.length→0≤((j.af.g r).off.g q).bq∧((j.af.g r).off.g q).ba≤100000):(aK j).1.length=j.af.length∧∀r,r<j.af.length→rp 33 ((aK j).1.g r):=by
 rw[JX]
 refine ⟨List.length_map _,fun r hr=>?_⟩
 have hg:((j.af.map fun r=>(⟨nbT r⟩:Tl)).g r)=⟨nbT (j.af.g r)⟩:=by
  rw[List.g,List.g,List.getD_eq_getElem?_getD,List.getD_eq_getElem?_getD,List.getElem?_map,List.getElem?_eq_getElem hr];rfl
 show rp 33 ((j.af.map fun r=>(⟨nbT r⟩:Tl)).g r)
 rw[hg]
 obtain ⟨n1,n2,n3,n4⟩:=yY (j.af.g r).aJ
 obtain ⟨ol,oo⟩:=ro r hr
 have t0:rp 1 ⟨cI (j.af.g r).aJ⟩:=by
  unfold rp
  rw[show (⟨cI (j.af.g r).aJ⟩:Tl).l=cI (j.af.g r).aJ from rfl,rZ n3]
  exact ⟨by omega,by omega,n2⟩
 have:=(JY ((j.af.g r).off.map fun s=>(s,(j.af.g r).aJ)) _ 1 n3 t0 (by rw[List.length_map];omega) (fun x hx=>by
  obtain ⟨s,hs,rfl⟩:=List.mem_map.1 hx
  obtain ⟨i,hi,e⟩:=BA hs
  have:=oo i hi
  rw[e] at this
  exact ⟨this.1,by dsimp only;omega⟩)).2
 exact this.le (by rw[List.length_map];omega)
theorem G8 {X A:List Tl} {v:Int} (p:X.length=A.length∧∀c:Int,c≤159→(∀r,r<A.length→rp c (A.g r))→∀r,r<A.length→rp (c+2) (X.g r)) (i:∀r,r<A.length→rp (33+2*v) (A.g r)) (hv:v≤63):∀r,r<X.length→rp (33+2*(v+1)) (X.g r):=fun r hr=>(p.2 (33+2*v) o! i r o!).le o!
theorem G9 {L:List Tl} {n:Nat} (p:L.length=n∧∀r,r<n→rp 33 (L.g r)):∀r,r<L.length→rp (33+2*0) (L.g r):=fun r hr=>(p.2 r o!).le o!
def nF:List Bool→Nat
 | []=>0
 | b::l=>(bif b then 0 else 1)+nF l
theorem qU:∀n,nF (List.replicate n false)=n
 | 0=>rfl
 | n+1=>by rw[List.replicate_succ,nF,qU n];simp;omega
theorem C8:∀{l:List Bool} {n:Nat},n<l.length→l.g n=false→nF (l.set n true)+1=nF l
 | b::l,0,_,e=>by
   have e:b=false:=e
   subst e
   simp only[List.set_cons_zero,nF,aj,ai];omega
 | b::l,n+1,h,e=>by
   have q:=C8 (l:=l) (n:=n) (by simpa using h) e
   simp only[List.set_cons_succ,nF];omega
theorem ZE {l:List Bool} {n:Int} (h0:0≤n) (h1:n<l.length) (h2:l.g (Int.toNat n)=false):nF (l.set (Int.toNat n) true)+1=nF l:=C8 o! h2
def OU:Code:=(Tryz.f49.body).getD .skip
theorem OV:Tryz.f49.body=some OU:=by kernel_rfl
def iU (vP:Int) (aJ:Int):Bool:=(bif (decide (0≤vP)) then (decide (vP<aJ)) else false)
theorem G_ {d:Nat} {h:aC} (vP:Int) (aJ:Int) (ch:Tidy h):cN (d+1) (.fn 49) [(Zi vP),(Zi aJ)] h= .ret (AV.bool (iU vP aJ)) h:=by
 rcases Bool.eq_false_or_eq_true (decide (0≤vP)) with f0 | f0
 · have e:iU vP aJ=(decide (vP<aJ)):=by simp only[iU,f0,aj,ai]
   rw[e]
   exact aH rfl (bb Tryz.func49 OV rfl (.inr rfl) (pk (d) _ _ h _ h (CN 2<|VV (rv 3 false true .i64 vP 0)<|CC<|BC f0<|BC f0<|BV f0 (bL 3 false false .i64 vP aJ)<|VV (sP (decide (vP<aJ)) false f0)<|CC<|ZZ) k!) k!) (Has.refl _) rfl
 · have e:iU vP aJ=false:=by simp only[iU,f0,aj,ai]
   rw[e]
   exact aH rfl (bb Tryz.func49 OV rfl (.inr rfl) (pk (d) _ _ h _ h (CN 2<|VV (rv 3 false true .i64 vP 0)<|CC<|BB f0<|BB f0<|BV f0 (yB false f0)<|CC<|ZZ) k!) k!) (Has.refl _) rfl
theorem qm {n m:Int} (h:iU n m=true):0≤n∧n<m:=by
 unfold iU at h
 by_cases a:0≤n
 · rw[decide_eq_true a] at h;exact ⟨a,of_decide_eq_true h⟩
 · rw[decide_eq_false a] at h;cases h
theorem LK {h:aC} {e s xt:TypeId} {tys:Array TypeId} {bytes b p n:Nat} {f ro:Bool} {z0:AV} {M:List AV} (y:Tidy h) (hp:h.get p=some (.cells [] e false)) (hg:h.get b=some (.cells M e ro)) (ln:M.length=n) (FP:M.all AV.scalar=true) (hl:n≤1000000000)
 (t0:tys[0]? =some s) (t1:tys[1]? =some xt) (hs:env.P.underlying s=some (.slice e)) (hx:env.P.underlying xt=some (.slice e)) (YV:ca env e=some 1) (hb:kH env e=some bytes) (Ib:iu env e=some z0) (hz:z0.cells.length=1) (h8:bytes≤63):
 ∃q o h',du env h tys (.slice p 0 0 0 false) (.slice b 0 n n f)=some (.slice q 0 n n o,h')∧Tidy h'∧h.nx≤h'.nx∧Has h h'∧h'.get q=some (.cells M e false)∧p≤q:=by
 have hi:qu (.slice e)=false:=rfl
 have hlen:yw (.slice b 0 n n f)=some n:=rfl
 have pn:=y _ _ hp
 by_cases hn:n=0
 · subst hn
   have hM:M=[]:=List.length_eq_zero_iff.1 ln
   subst hM
   have hf:ic h 1 0 (.slice b 0 0 0 f)=some []:=by simp [ic,hg]
   have hgp:∀i,(h.put p (some (.cells [] e false))).get i=h.get i:=fun i=>by
    by_cases q:i=p
    · subst q;rw[aC.dP,hp]
    · rw[aC.cu (Ne.symm q)]
   refine ⟨p,false,h.put p (some (.cells [] e false)),?_,fun i w q=>y i w (by rw[←hgp];exact q),Nat.le_refl _,fun i w q=>by rw[hgp];exact q,by rw[hgp];exact hp,Nat.le_refl _⟩
   simp only[du,t0,t1,hs,hx,hi,YV,hb,hlen,hf,Ib,hz,FP,hp,if_true,if_false,and_self,List.length_nil,Bool.false_eq_true,Nat.zero_mul,Nat.add_zero,Nat.le_refl,setFrom]
 · have hf:ic h 1 n (.slice b 0 n n f)=some M:=by
    simp only[ic,hg,Nat.le_refl,if_true,if_neg hn,Nat.mul_one,Nat.zero_add,List.drop_zero]
    rw[if_pos o!,List.take_of_length_le o!]
   obtain ⟨h',nw⟩:=zN (h:=h) (.cells M e false)
   refine ⟨h.nx,true,h',?_,nk y nw,by rw[zM nw];omega,yi y nw,uj nw,by omega⟩
   have WT:¬n≤0:=by omega
   have big:(4*n+4096)*(bytes+1)≤1099511627776:=Nat.le_trans (Nat.mul_le_mul (show 4*n+4096≤17179869184 by omega) (show bytes+1≤64 by omega)) (by decide)
   simp only[du,t0,t1,hs,hx,hi,YV,hb,hlen,hf,Ib,hz,FP,hp,WT,if_true,if_false,and_self,Bool.false_eq_true,Nat.zero_mul,Nat.add_zero,Nat.zero_add,List.length_nil,Nat.le_refl,ln,Nat.mul_one]
   rw[if_pos ⟨big,trivial,fun e=>e.elim⟩]
   simp only[List.drop_nil,List.take_nil,List.nil_append,nw]
theorem VT (l:List Bool):(bs l).all AV.scalar=true:=List.all_eq_true.2 fun x hx=>by
 obtain ⟨y,_,rfl⟩:=List.mem_map.1 hx
 rfl
theorem b8.pre {k:IntKind} {h:aC} {e:TypeId} {v:AV} {l:List Int} (x:b8 h k e v l) {t:TypeId} (ht:env.P.underlying t=some (.slice e)) {i:Nat} (hi:i<l.length):∃r,fe env t v none (some (.int .i64 ((i:Nat):Int))) none=some r∧b8 h k e r (l.take i):=by
 rcases x.at_.block with h0 | ⟨p,o,m,c,b,C,f,ro,h1,hc,h2,h3⟩
 · omega
 · subst h1
   have hm:m=l.length:=by
    have:=x.at_.lens
    rw[kZ] at this
    simp only[Option.some.injEq,AV.int.injEq,true_and] at this
    omega
   subst hm
   refine ⟨.slice p o i c b,?_,⟨⟨x.at_.size,by rw[fO,Nat.mul_one],by have:=x.small;simp;omega,?_,.inr ⟨p,o,i,c,b,C,f,ro,rfl,by omega,h2,fun j hj=>?_⟩⟩,x.agg,.inr (.inr ⟨_,_,_,_,_,rfl⟩)⟩⟩
   · simp only[fe,ht,x.at_.size,hc,if_true,sO (len:=l.length) (cap:=c) none (some (.int .i64 ((i:Nat):Int))) (.inr ⟨rfl,rfl⟩) (.inl rfl) (Nat.zero_le i) o!]
     rw[if_neg o!]
     simp
   · rw[kZ,List.length_take,Nat.min_eq_left (Nat.le_of_lt hi)]
   · rw[fO,List.length_take] at hj
     rw[h3 j (by rw[fO];omega),Li k l o!,Li k (l.take i) (by rw[List.length_take];omega)]
     rw[List.g,List.g,List.getD_eq_getElem?_getD,List.getD_eq_getElem?_getD,List.getElem?_take_of_lt o!]
theorem T3 {L:List Int} {n v:Int} {i:Nat} (h:∀q,q<L.length→0≤L.g q∧L.g q<n) (h0:0≤v) (h1:v<n):∀q,q<(L.set i v).length→0≤(L.set i v).g q∧(L.set i v).g q<n:=fun q hq=>by
 rw[List.length_set] at hq
 by_cases e:i=q
 · subst e;rw[g7 hq];exact ⟨h0,h1⟩
 · rw[bn e];exact h q hq
theorem adu {m:Nat}:∀q,q<(List.replicate m (0:Int)).length→0≤(List.replicate m (0:Int)).g q∧(List.replicate m (0:Int)).g q<(m:Int):=fun q hq=>by
 rw[List.length_replicate] at hq
 rw[List.g,List.getD_eq_getElem?_getD,List.getElem?_replicate,if_pos hq]
 exact ⟨Int.le_refl _,by show (0:Int)<_;omega⟩
def pM:Code:=(Tryz.f101.body).getD .skip
theorem ou:Tryz.f101.body=some pM:=by kernel_rfl
def z_:Code:=(bw pM).getD 0 .skip
def eV (P:Nat→Int) (bW:List Int):Nat→Nat→Option (Int)
 | 0,_=>none
 | dq+1,i0=>(bif (!decide ((P i0)=0)) then some (P i0) else eV P bW dq (i0+1))
theorem pN {d:Nat} {h:aC} (bM:AV) (g:FuncId) (cap:List AV) (bW:List Int) (P:Nat→Int) (bx:b8 h .i64 3 bM bW) (hP:∀j,j<bW.length→∀aV hh,Tidy hh→Has h hh→b8 hh .i64 3 aV (bW.take j)→cN d (.fn g) (aV:: .int .i64 (bW.g j)::cap) hh= .ret (.int .i64 (P j)) hh):∀(k_ i_:Nat) (_:i_+k_=bW.length) (x:Nat→AV) (hh:aC) (aI:Tidy hh) (aE:Has h hh),aF (cN (d)) z_ ⟨(bM::(x 1)::(AV.func g [] cap)::rx x 3 11 (bM::(Zn bW.length)::(Zn i_)::rx x 17 14 [])),hh,[],.no⟩ (.exit 0) hh (fun y=>(bM::(y 1)::(AV.func g [] cap)::rx y 3 11 (bM::(Zn bW.length)::rx y 16 15 []))) (fun r y=>(bM::(y 1)::(AV.func g [] cap)::rx y 3 3 ((Zi r)::rx y 7 7 (bM::(Zn bW.length)::rx y 16 15 [])))) (eV P bW k_ i_)
 | 0,i0,fX,x,hh,aI,aE=>by
   have q1:(decide (((i0:Nat):Int)<((bW.length:Nat):Int)))=false:=d!
   exact aF.out rfl (pk (d) _ _ hh _ hh (VV (bL 3 false false .i64 ((i0:Nat):Int) ((bW.length:Nat):Int))<|BB q1<|ZZ) k!) (bE.refl aI) k!
 | dq+1,i0,fX,x,hh,aI,aE=>by
   have gT:=bx.small
   have q1:(decide (((i0:Nat):Int)<((bW.length:Nat):Int)))=true:=d!
   obtain ⟨p3,q4,cC,_⟩:=(bx.has aE).elem (i:=i0) o!
   have iW:bO env (some (.slice 3)) (some bM) (some (Zn i0))=some (AV.ptr p3 q4):=cC
   have jY:bh env hh 3 (AV.ptr p3 q4)=some (Zi (bW.g i0)):=(bx.has aE).load o! cC
   obtain ⟨r6,amq,fr8⟩:=(bx.has aE).pre (t:=26) k! (i:=i0) o!
   have sl7:fe env 26 bM (none) (some (Zn i0)) (none)=some r6:=amq
   have k9:=hP i0 o! r6 hh aI aE fr8
   have dJ:=fun {al ps} (k:Pk al _ ps)=>(VV (bL 3 false false .i64 ((i0:Nat):Int) ((bW.length:Nat):Int))<|BC q1<|VV iW<|MM jY<|CN 5<|QQ sl7<|CC<|EE k9<|CN 2<|VV (kS 29 false true .i64 (P i0) 0)<|k:Pk _ [] ps)
   rcases Bool.eq_false_or_eq_true (!decide ((P i0)=0)) with f1 | f1
   · have fP:=P7 f1
     exact aF.ret (P i0) (by simp only[eV,f1,aj,ai]) (pk (d) _ _ hh _ hh (dJ<|BB f1<|CN 2<|ZZ) k!) (bE.refl aI) k!
   · have fP:=P9 f1
     have u11:=fi 3 false true i0 1 o!
     exact aF.round (by simp only[eV,f1,aj,ai]) (pk (d) _ _ hh _ hh (dJ<|BV f1 u11<|CC<|ZZ) k!) (bE.refl aI) _ k! (fun x=>pN bM g cap bW P bx hP dq (i0+1) o! x hh aI aE)
def cK (bW:List Int) (dM:Int) (P:Nat→Int):Int:=(bif (decide (dM<((bW.length:Nat):Int))) then 3 else (match (eV P bW bW.length 0) with | none=>0 | some C_=>C_))
theorem Da {d:Nat} {h:aC} {bM:AV} {g:FuncId} {cap:List AV} (bW:List Int) (dM:Int) (P:Nat→Int) (kg:b8 h .i64 3 bM bW) (hP:∀j,j<bW.length→∀aV hh,Tidy hh→Has h hh→b8 hh .i64 3 aV (bW.take j)→cN d (.fn g) (aV:: .int .i64 (bW.g j)::cap) hh= .ret (.int .i64 (P j)) hh) (ch:Tidy h):cN (d+1) (.fn 101) [bM,(Zi dM),(AV.func g [] cap)] h= .ret (Zi (cK bW dM P)) h:=by
 have iC:cb (some (.slice 3)) (some bM)=some (Zn bW.length):=kg.len
 have hX:=fun {al ps} (k:Pk al _ ps)=>(CN 2<|VV iC<|CC<|VV (dw 3 false false .i64 ((bW.length:Nat):Int) dM)<|k:Pk _ [] ps)
 rcases Bool.eq_false_or_eq_true (decide (dM<((bW.length:Nat):Int))) with f0 | f0
 · have e:cK bW dM P=3:=by simp only[cK,f0,aj,ai]
   rw[e]
   exact aH rfl (bb Tryz.func101 ou rfl (.inr rfl) (pk (d) _ _ h _ h (hX<|BC f0<|ZZ) k!) k!) (Has.refl _) rfl
 · have MU:cb (some (.slice 3)) (some bM)=some (Zn bW.length):=kg.len
   have JZ:=pN (d:=d) (h:=h) bM g cap bW P kg hP bW.length 0 o! (fun k_=>((bM::(Zi dM)::(AV.func g [] cap)::AV.undef::AV.undef::AV.undef::(Zi 0)::AV.undef::AV.undef::AV.undef::bM::(Zn bW.length)::(Zi dM)::(AV.bool (decide (dM<((bW.length:Nat):Int))))::bM::(Zn bW.length)::(Zi 0)::jX 14):List AV).getD k_ AV.undef) h ch (Has.refl _)
   cases ek:eV P bW bW.length 0 with
   | none=>
     obtain ⟨EB,h5,ft,jQ⟩:=aF.n ek JZ
     have hG:Has h h5:=jQ.a
     have e:cK bW dM P=0:=by simp only[cK,f0,ek,aj,ai]
     rw[e]
     exact aH rfl (bb Tryz.func101 ou rfl (.inr rfl) (pk (d) _ _ h _ h5 (hX<|BC f0<|VV MU<|CC<|LL ft<|CC<|ZZ) k!) k!) hG rfl
   | some C_=>
     obtain ⟨EB,h5,ft,jQ⟩:=aF.r ek JZ
     have hG:Has h h5:=jQ.a
     have e:cK bW dM P=C_:=by simp only[cK,f0,ek,aj,ai]
     rw[e]
     exact aH rfl (bb Tryz.func101 ou rfl (.inr rfl) (pk (d) _ _ h _ h5 (hX<|BC f0<|VV MU<|CC<|LL ft<|ZZ) k!) k!) hG rfl
def pO:Code:=(Tryz.f104.body).getD .skip
theorem ov:Tryz.f104.body=some pO:=by kernel_rfl
def Aa:Code:=(bw pO).getD 0 .skip
def eW (P:Nat→Int) (bW:List og):Nat→Nat→Option (Int)
 | 0,_=>none
 | dq+1,i0=>(bif (!decide ((P i0)=0)) then some (P i0) else eW P bW dq (i0+1))
theorem pP {d:Nat} {h:aC} (bM:AV) (g:FuncId) (cap:List AV) (bW:List og) (P:Nat→Int) (bx:aW h bM bW) (hP:∀j,j<bW.length→∀aV hh,Tidy hh→Has h hh→aW hh aV (bW.take j)→cN d (.fn g) (aV:: .agg (aR.c (bW.g j))::cap) hh= .ret (.int .i64 (P j)) hh):∀(k_ i_:Nat) (_:i_+k_=bW.length) (x:Nat→AV) (hh:aC) (aI:Tidy hh) (aE:Has h hh),aF (cN (d)) Aa ⟨(bM::(x 1)::(AV.func g [] cap)::rx x 3 11 (bM::(Zn bW.length)::(Zn i_)::rx x 17 14 [])),hh,[],.no⟩ (.exit 0) hh (fun y=>(bM::(y 1)::(AV.func g [] cap)::rx y 3 11 (bM::(Zn bW.length)::rx y 16 15 []))) (fun r y=>(bM::(y 1)::(AV.func g [] cap)::rx y 3 3 ((Zi r)::rx y 7 7 (bM::(Zn bW.length)::rx y 16 15 [])))) (eW P bW k_ i_)
 | 0,i0,fX,x,hh,aI,aE=>by
   have q1:(decide (((i0:Nat):Int)<((bW.length:Nat):Int)))=false:=d!
   exact aF.out rfl (pk (d) _ _ hh _ hh (VV (bL 3 false false .i64 ((i0:Nat):Int) ((bW.length:Nat):Int))<|BB q1<|ZZ) k!) (bE.refl aI) k!
 | dq+1,i0,fX,x,hh,aI,aE=>by
   have gT:=bx.small
   have q1:(decide (((i0:Nat):Int)<((bW.length:Nat):Int)))=true:=d!
   obtain ⟨p3,q4,cC⟩:=(bx.has aE).elem (i:=i0) o!
   have iW:bO env (some (.slice 83)) (some bM) (some (Zn i0))=some (AV.ptr p3 q4):=cC
   have jY:bh env hh 83 (AV.ptr p3 q4)=some (AV.agg [(Zi (bW.g i0).ah),(Zi (bW.g i0).aJ)]):=(bx.has aE).load o! cC
   obtain ⟨h6,mK,ji,zU,mL,bU⟩:=jE aI (aM.cells [(Zi 0),(Zi 0)] 83 false)
   have hZ:Has hh h6:=bU
   obtain ⟨h7,l7,eP,vH,fH,bp⟩:=n5 (t:=83) (n:=2) (i:=hh.nx) (L:=[(Zi (bW.g i0).ah),(Zi (bW.g i0).aJ)]) ji mL k! rfl rfl (by simp only[AV.cells,List.all_cons,List.all_nil,Bool.and_true,Bool.and_self,gr,eO,gu,gv,dG,jK,jL,jM,jN,jO,gz])
   have dm:Has hh h7:=Has.dg hZ bp aI o!
   obtain ⟨r8,agL,agM⟩:=(bx.has aE).pre (t:=38) k! (i:=i0) o!
   have sl9:fe env 38 bM (none) (some (Zn i0)) (none)=some r8:=agL
   have k11:=hP i0 o! r8 h7 eP (aE.trans dm) (agM.has dm)
   have c12:AV.same 20 (AV.agg [(Zi (bW.g i0).ah),(Zi (bW.g i0).aJ)]) (AV.agg [(Zi (bW.g i0).ah),(Zi (bW.g i0).aJ)])=true:=hT 18 (rH (fun n=>aS n _ _) (rH (fun n=>aS n _ _) P6))
   have dJ:=fun {al ps} (k:Pk al _ ps)=>(VV (bL 3 false false .i64 ((i0:Nat):Int) ((bW.length:Nat):Int))<|BC q1<|VV iW<|MM jY<|NN mK (fun i=>(Pt i))<|CC<|SS l7<|CN 3<|QQ sl9<|MM (aO 83 0 (AV.agg [(Zi (bW.g i0).ah),(Zi (bW.g i0).aJ)]) fH k!)<|EE k11<|CC<|HH (aO 83 0 (AV.agg [(Zi (bW.g i0).ah),(Zi (bW.g i0).aJ)]) fH k!)<|HH c12<|CC<|VV (kS 29 false true .i64 (P i0) 0)<|k:Pk _ [] ps)
   rcases Bool.eq_false_or_eq_true (!decide ((P i0)=0)) with f1 | f1
   · have fP:=P7 f1
     exact aF.ret (P i0) (by simp only[eW,f1,aj,ai]) (pk (d) _ _ hh _ h7 (dJ<|BB f1<|CN 2<|ZZ) k!) (⟨eP,dm,by omega⟩) k!
   · have fP:=P9 f1
     have u14:=fi 3 false true i0 1 o!
     exact aF.round (by simp only[eW,f1,aj,ai]) (pk (d) _ _ hh _ h7 (dJ<|BV f1 u14<|CC<|ZZ) k!) (⟨eP,dm,by omega⟩) _ k! (fun x=>pP bM g cap bW P bx hP dq (i0+1) o! x h7 eP (aE.trans dm))
def dY (bW:List og) (dM:Int) (P:Nat→Int):Int:=(bif (decide (dM<((bW.length:Nat):Int))) then 3 else (match (eW P bW bW.length 0) with | none=>0 | some C_=>C_))
theorem Db {d:Nat} {h:aC} {bM:AV} {g:FuncId} {cap:List AV} (bW:List og) (dM:Int) (P:Nat→Int) (kg:aW h bM bW) (hP:∀j,j<bW.length→∀aV hh,Tidy hh→Has h hh→aW hh aV (bW.take j)→cN d (.fn g) (aV:: .agg (aR.c (bW.g j))::cap) hh= .ret (.int .i64 (P j)) hh) (ch:Tidy h):cN (d+1) (.fn 104) [bM,(Zi dM),(AV.func g [] cap)] h= .ret (Zi (dY bW dM P)) h:=by
 have iC:cb (some (.slice 83)) (some bM)=some (Zn bW.length):=kg.len
 have hX:=fun {al ps} (k:Pk al _ ps)=>(CN 2<|VV iC<|CC<|VV (dw 3 false false .i64 ((bW.length:Nat):Int) dM)<|k:Pk _ [] ps)
 rcases Bool.eq_false_or_eq_true (decide (dM<((bW.length:Nat):Int))) with f0 | f0
 · have e:dY bW dM P=3:=by simp only[dY,f0,aj,ai]
   rw[e]
   exact aH rfl (bb Tryz.func104 ov rfl (.inr rfl) (pk (d) _ _ h _ h (hX<|BC f0<|ZZ) k!) k!) (Has.refl _) rfl
 · have MU:cb (some (.slice 83)) (some bM)=some (Zn bW.length):=kg.len
   have JZ:=pP (d:=d) (h:=h) bM g cap bW P kg hP bW.length 0 o! (fun k_=>((bM::(Zi dM)::(AV.func g [] cap)::AV.undef::AV.undef::AV.undef::(Zi 0)::AV.undef::AV.undef::AV.undef::bM::(Zn bW.length)::(Zi dM)::(AV.bool (decide (dM<((bW.length:Nat):Int))))::bM::(Zn bW.length)::(Zi 0)::jX 14):List AV).getD k_ AV.undef) h ch (Has.refl _)
   cases ek:eW P bW bW.length 0 with
   | none=>
     obtain ⟨EB,h5,ft,jQ⟩:=aF.n ek JZ
     have hG:Has h h5:=jQ.a
     have e:dY bW dM P=0:=by simp only[dY,f0,ek,aj,ai]
     rw[e]
     exact aH rfl (bb Tryz.func104 ov rfl (.inr rfl) (pk (d) _ _ h _ h5 (hX<|BC f0<|VV MU<|CC<|LL ft<|CC<|ZZ) k!) k!) hG rfl
   | some C_=>
     obtain ⟨EB,h5,ft,jQ⟩:=aF.r ek JZ
     have hG:Has h h5:=jQ.a
     have e:dY bW dM P=C_:=by simp only[dY,f0,ek,aj,ai]
     rw[e]
     exact aH rfl (bb Tryz.func104 ov rfl (.inr rfl) (pk (d) _ _ h _ h5 (hX<|BC f0<|VV MU<|CC<|LL ft<|ZZ) k!) k!) hG rfl
def BD:Code:=(Tryz.f100.body).getD .skip
theorem G':Tryz.f100.body=some BD:=by kernel_rfl
def jm (other:Task) (t:Task):Bool:=(decide (other.name=t.name))
theorem Ha {d:Nat} {h:aC} (other:Task) (t:Task) (tB:Nat) (T4:aR.ok h other) (h_t:aR.ok h t) (yW:h.get tB=some (.cells (aR.c t) 40 false)) (ch:Tidy h):cN (d+1) (.fn 100) [(AV.agg [(AV.str other.name),(Zi other.takes),other.aU,other.a_]),(Pt tB)] h= .ret (AV.bool (jm other t)) h:=by
 obtain ⟨h1,di,cS,jU,bm,bP⟩:=jE ch (aM.cells [(AV.str other.name),(Zi other.takes),other.aU,other.a_] 40 false)
 have bA:Has h h1:=bP
 have e:jm other t=(decide (other.name=t.name)):=by simp only[jm,aj,ai]
 rw[e]
 exact aH rfl (bb Tryz.func100 G' rfl (.inr rfl) (pk (d) _ _ h _ h1 (NN di (fun i=>(Pt i))<|CN 2<|MM (aO 9 0 (AV.str other.name) bm k!)<|CC<|MM (aO 9 0 (AV.str t.name) (bP _ _ yW) k!)<|VV (Vv 9 false false other.name t.name)<|CC<|ZZ) k!) k!) bA rfl
def y7:Code:=(Tryz.f143.body).getD .skip
theorem Hb:Tryz.f143.body=some y7:=by kernel_rfl
def LN:Code:=(bw y7).getD 0 .skip
def jn (s:List Int) (v:Int):Nat→Nat→Option (Int)
 | 0,_=>none
 | dq+1,i0=>(bif (decide (v=(s.g i0))) then some ((i0:Nat):Int) else jn s v dq (i0+1))
theorem y8 {d:Nat} {h:aC} (sV:AV) (v:Int) (s:List Int) (bx:b8 h .i64 3 sV s):∀(k_ i_:Nat) (_:i_+k_=s.length) (x:Nat→AV) (hh:aC) (aI:Tidy hh) (aE:Has h hh),aF (cN (d)) LN ⟨(sV::(Zi v)::rx x 2 5 ((Zn s.length)::(Zn i_)::rx x 9 10 [])),hh,[],.no⟩ (.exit 0) hh (fun y=>(sV::(Zi v)::rx y 2 5 ((Zn s.length)::rx y 8 11 []))) (fun r y=>(sV::(Zi v)::(y 2)::(y 3)::(Zi r)::(y 5)::(y 6)::(Zn s.length)::rx y 8 11 [])) (jn s v k_ i_)
 | 0,i0,fX,x,hh,aI,aE=>by
   have q1:(decide (((i0:Nat):Int)<((s.length:Nat):Int)))=false:=d!
   exact aF.out rfl (pk (d) _ _ hh _ hh (VV (bL 3 false false .i64 ((i0:Nat):Int) ((s.length:Nat):Int))<|BB q1<|ZZ) k!) (bE.refl aI) k!
 | dq+1,i0,fX,x,hh,aI,aE=>by
   have gT:=bx.small
   have q1:(decide (((i0:Nat):Int)<((s.length:Nat):Int)))=true:=d!
   obtain ⟨p3,q4,cC,_⟩:=(bx.has aE).elem (i:=i0) o!
   have iW:bO env (some (.slice 3)) (some sV) (some (Zn i0))=some (AV.ptr p3 q4):=cC
   have jY:bh env hh 3 (AV.ptr p3 q4)=some (Zi (s.g i0)):=(bx.has aE).load o! cC
   have dJ:=fun {al ps} (k:Pk al _ ps)=>(VV (bL 3 false false .i64 ((i0:Nat):Int) ((s.length:Nat):Int))<|BB q1<|CN 5<|VV iW<|MM jY<|VV (vE 3 false false .i64 v (s.g i0))<|k:Pk _ [] ps)
   rcases Bool.eq_false_or_eq_true (decide (v=(s.g i0))) with f1 | f1
   · have fP:=of_decide_eq_true f1
     exact aF.ret ((i0:Nat):Int) (by simp only[jn,f1,aj,ai]) (pk (d) _ _ hh _ hh (dJ<|BB f1<|CN 2<|ZZ) k!) (bE.refl aI) k!
   · have fP:=of_decide_eq_false f1
     have u7:=fi 3 false true i0 1 o!
     exact aF.round (by simp only[jn,f1,aj,ai]) (pk (d) _ _ hh _ hh (dJ<|BV f1 u7<|CC<|ZZ) k!) (bE.refl aI) _ k! (fun x=>y8 sV v s bx dq (i0+1) o! x hh aI aE)
def nD (s:List Int) (v:Int):Int:=(match (jn s v s.length 0) with | none=>(-1) | some yF=>yF)
theorem Rp {d:Nat} {h:aC} {sV:AV} (s:List Int) (v:Int) (AK:b8 h .i64 3 sV s) (ch:Tidy h):cN (d+1) (.fn 143) [sV,(Zi v)] h= .ret (Zi (nD s v)) h:=by
 have iC:cb (some (.slice 3)) (some sV)=some (Zn s.length):=AK.len
 have D8:=y8 (d:=d) (h:=h) sV v s AK s.length 0 o! (fun k_=>((sV::(Zi v)::AV.undef::AV.undef::(Zi 0)::AV.undef::sV::(Zn s.length)::(Zi 0)::jX 10):List AV).getD k_ AV.undef) h ch (Has.refl _)
 cases dL:jn s v s.length 0 with
 | none=>
   obtain ⟨D2,h3,dX,gZ⟩:=aF.n dL D8
   have jg:Has h h3:=gZ.a
   have e:nD s v=(-1):=by simp only[nD,dL,aj,ai]
   rw[e]
   exact aH rfl (bb Tryz.func143 Hb rfl (.inr rfl) (pk (d) _ _ h _ h3 (CN 2<|VV iC<|CC<|LL dX<|CC<|ZZ) k!) k!) jg rfl
 | some yF=>
   obtain ⟨D2,h3,dX,gZ⟩:=aF.r dL D8
   have jg:Has h h3:=gZ.a
   have e:nD s v=yF:=by simp only[nD,dL,aj,ai]
   rw[e]
   exact aH rfl (bb Tryz.func143 Hb rfl (.inr rfl) (pk (d) _ _ h _ h3 (CN 2<|VV iC<|CC<|LL dX<|ZZ) k!) k!) jg rfl
def Dc:Code:=(Tryz.f117.body).getD .skip
theorem ID:Tryz.f117.body=some Dc:=by kernel_rfl
def lh (s:List Int) (v:Int):Bool:=(decide (0≤(nD s v)))
theorem IE {d:Nat} {h:aC} {sV:AV} (s:List Int) (v:Int) (AK:b8 h .i64 3 sV s) (ch:Tidy h):cN (d+2) (.fn 117) [sV,(Zi v)] h= .ret (AV.bool (lh s v)) h:=by
 have k1:=Rp (d:=d) s v AK ch
 have e:lh s v=(decide (0≤(nD s v))):=by simp only[lh,aj,ai]
 rw[e]
 exact aH rfl (bb Tryz.func117 ID rfl (.inr rfl) (pk (d+1) _ _ h _ h (CN 3<|EE k1<|VV (rv 3 false true .i64 (nD s v) 0)<|CC<|ZZ) k!) k!) (Has.refl _) rfl
def Dd:Code:=(Tryz.f103.body).getD .skip
theorem sg:Tryz.f103.body=some Dd:=by kernel_rfl
def gU (j:cx) (vm:List Int) (lJ:Int):Int:=(bif (!(iU lJ ((j.ab.length:Nat):Int))) then 7 else (bif (lh vm lJ) then 6 else 0))
theorem IF {d:Nat} {h:aC} {nE:AV} (j:cx) (vm:List Int) (lJ:Int) (bV:aR.ok h j) (nG:b8 h .i64 3 nE vm) (ch:Tidy h):cN (d+3) (.fn 103) [(AV.agg [j.aw,j.ao]),nE,(Zi lJ)] h= .ret (Zi (gU j vm lJ)) h:=by
 obtain ⟨h1,di,cS,jU,bm,bP⟩:=jE ch (aM.cells [j.aw,j.ao] 25 false)
 have bA:Has h h1:=bP
 have EC:cb (some (.slice 40)) (some j.aw)=some (Zn j.ab.length):=bV.1.len
 have k3:=G_ (d:=d+1) lJ ((j.ab.length:Nat):Int) cS
 have dJ:=fun {al ps} (k:Pk al _ ps)=>(NN di (fun i=>(Pt i))<|CN 3<|MM (aO 22 0 j.aw bm k!)<|VV EC<|EE k3<|CN 2<|k:Pk _ [] ps)
 rcases Bool.eq_false_or_eq_true (!(iU lJ ((j.ab.length:Nat):Int))) with f0 | f0
 · have e:gU j vm lJ=7:=by simp only[gU,f0,aj,ai]
   rw[e]
   exact aH rfl (bb Tryz.func103 sg rfl (.inr rfl) (pk (d+2) _ _ h _ h1 (dJ<|BC f0<|ZZ) k!) k!) bA rfl
 · have k5:=IE (d:=d) vm lJ (nG.has bA) cS
   rcases Bool.eq_false_or_eq_true (lh vm lJ) with f1 | f1
   · have e:gU j vm lJ=6:=by simp only[gU,f0,f1,aj,ai]
     rw[e]
     exact aH rfl (bb Tryz.func103 sg rfl (.inr rfl) (pk (d+2) _ _ h _ h1 (dJ<|BB f0<|CN 2<|EE k5<|CC<|BC f1<|ZZ) k!) k!) bA rfl
   · have e:gU j vm lJ=0:=by simp only[gU,f0,f1,aj,ai]
     rw[e]
     exact aH rfl (bb Tryz.func103 sg rfl (.inr rfl) (pk (d+2) _ _ h _ h1 (dJ<|BB f0<|CN 2<|EE k5<|CC<|BC f1<|ZZ) k!) k!) bA rfl
def BE:Code:=(Tryz.f102.body).getD .skip
theorem Hc:Tryz.f102.body=some BE:=by kernel_rfl
def dB (vm:List Int) (lJ:Int) (j:cx):Int:=(gU j vm lJ)
theorem Hd {d:Nat} {h:aC} {nE:AV} (vm:List Int) (lJ:Int) (j:cx) (jB:Nat) (nG:b8 h .i64 3 nE vm) (bV:aR.ok h j) (g_j:h.get jB=some (.cells (aR.c j) 25 false)) (ch:Tidy h):cN (d+4) (.fn 102) [nE,(Zi lJ),(Pt jB)] h= .ret (Zi (dB vm lJ j)) h:=by
 have k1:=IF (d:=d) j vm lJ bV nG ch
 have e:dB vm lJ j=(gU j vm lJ):=by simp only[dB,aj,ai]
 rw[e]
 exact aH rfl (bb Tryz.func102 Hc rfl (.inr rfl) (pk (d+3) _ _ h _ h (CC<|MM (aO 25 0 (AV.agg [j.aw,j.ao]) g_j k!)<|CN 2<|EE k1<|CC<|ZZ) k!) k!) (Has.refl _) rfl
def De:Code:=(Tryz.f139.body).getD .skip
theorem IG:Tryz.f139.body=some De:=by kernel_rfl
def j0 (other:og) (u:og):Bool:=(decide (other.ah=u.ah))
theorem IH {d:Nat} {h:aC} (other:og) (u:og) (uB:Nat) (T4:aR.ok h other) (h_u:aR.ok h u) (g_u:h.get uB=some (.cells (aR.c u) 83 false)) (ch:Tidy h):cN (d+1) (.fn 139) [(AV.agg [(Zi other.ah),(Zi other.aJ)]),(Pt uB)] h= .ret (AV.bool (j0 other u)) h:=by
 obtain ⟨h1,di,cS,jU,bm,bP⟩:=jE ch (aM.cells [(Zi other.ah),(Zi other.aJ)] 83 false)
 have bA:Has h h1:=bP
 have e:j0 other u=(decide (other.ah=u.ah)):=by simp only[j0,aj,ai]
 rw[e]
 exact aH rfl (bb Tryz.func139 IG rfl (.inr rfl) (pk (d) _ _ h _ h1 (NN di (fun i=>(Pt i))<|CN 2<|MM (aO 3 0 (Zi other.ah) bm k!)<|CC<|MM (aO 3 0 (Zi u.ah) (bP _ _ g_u) k!)<|VV (vE 3 false false .i64 other.ah u.ah)<|CC<|ZZ) k!) k!) bA rfl
def vn:Code:=(Tryz.f122.body).getD .skip
theorem BF:Tryz.f122.body=some vn:=by kernel_rfl
def He:Code:=(bw vn).getD 0 .skip
def gL (s:List og) (P:og→Bool):Nat→Nat→Option (Int)
 | 0,_=>none
 | dq+1,i0=>(bif (P (s.g i0)) then some ((i0:Nat):Int) else gL s P dq (i0+1))
theorem vo {d:Nat} {h:aC} (sV:AV) (g:FuncId) (cap:List AV) (s:List og) (P:og→Bool) (bx:aW h sV s) (hP:∀y∈s,∀hh,Tidy hh→Has h hh→cN d (.fn g) (.agg (aR.c y)::cap) hh= .ret (.bool (P y)) hh):∀(k_ i_:Nat) (_:i_+k_=s.length) (x:Nat→AV) (hh:aC) (aI:Tidy hh) (aE:Has h hh),aF (cN (d)) He ⟨(sV::(AV.func g [] cap)::rx x 2 5 ((Zn s.length)::(Zn i_)::rx x 9 10 [])),hh,[],.no⟩ (.exit 0) hh (fun y=>(sV::(AV.func g [] cap)::rx y 2 5 ((Zn s.length)::rx y 8 11 []))) (fun r y=>(sV::(AV.func g [] cap)::(y 2)::(y 3)::(Zi r)::(y 5)::(y 6)::(Zn s.length)::rx y 8 11 [])) (gL s P k_ i_)
 | 0,i0,fX,x,hh,aI,aE=>by
   have q1:(decide (((i0:Nat):Int)<((s.length:Nat):Int)))=false:=d!
   exact aF.out rfl (pk (d) _ _ hh _ hh (VV (bL 3 false false .i64 ((i0:Nat):Int) ((s.length:Nat):Int))<|BB q1<|ZZ) k!) (bE.refl aI) k!
 | dq+1,i0,fX,x,hh,aI,aE=>by
   have gT:=bx.small
   have q1:(decide (((i0:Nat):Int)<((s.length:Nat):Int)))=true:=d!
   obtain ⟨p3,q4,cC⟩:=(bx.has aE).elem (i:=i0) o!
   have iW:bO env (some (.slice 83)) (some sV) (some (Zn i0))=some (AV.ptr p3 q4):=cC
   have jY:bh env hh 83 (AV.ptr p3 q4)=some (AV.agg [(Zi (s.g i0).ah),(Zi (s.g i0).aJ)]):=(bx.has aE).load o! cC
   have k6:=hP (s.g i0) (Tw o!) hh aI aE
   have dJ:=fun {al ps} (k:Pk al _ ps)=>(VV (bL 3 false false .i64 ((i0:Nat):Int) ((s.length:Nat):Int))<|BB q1<|CN 5<|VV iW<|MM jY<|EE k6<|k:Pk _ [] ps)
   rcases Bool.eq_false_or_eq_true (P (s.g i0)) with f1 | f1
   · exact aF.ret ((i0:Nat):Int) (by simp only[gL,f1,aj,ai]) (pk (d) _ _ hh _ hh (dJ<|BB f1<|CN 2<|ZZ) k!) (bE.refl aI) k!
   · have u8:=fi 3 false true i0 1 o!
     exact aF.round (by simp only[gL,f1,aj,ai]) (pk (d) _ _ hh _ hh (dJ<|BV f1 u8<|CC<|ZZ) k!) (bE.refl aI) _ k! (fun x=>vo sV g cap s P bx hP dq (i0+1) o! x hh aI aE)
def kh (s:List og) (P:og→Bool):Int:=(match (gL s P s.length 0) with | none=>(-1) | some yF=>yF)
theorem LO {d:Nat} {h:aC} {sV:AV} {g:FuncId} {cap:List AV} (s:List og) (P:og→Bool) (AK:aW h sV s) (hP:∀y∈s,∀hh,Tidy hh→Has h hh→cN d (.fn g) (.agg (aR.c y)::cap) hh= .ret (.bool (P y)) hh) (ch:Tidy h):cN (d+1) (.fn 122) [sV,(AV.func g [] cap)] h= .ret (Zi (kh s P)) h:=by
 have iC:cb (some (.slice 83)) (some sV)=some (Zn s.length):=AK.len
 have D8:=vo (d:=d) (h:=h) sV g cap s P AK hP s.length 0 o! (fun k_=>((sV::(AV.func g [] cap)::AV.undef::AV.undef::(Zi 0)::AV.undef::sV::(Zn s.length)::(Zi 0)::jX 10):List AV).getD k_ AV.undef) h ch (Has.refl _)
 cases dL:gL s P s.length 0 with
 | none=>
   obtain ⟨D2,h3,dX,gZ⟩:=aF.n dL D8
   have jg:Has h h3:=gZ.a
   have e:kh s P=(-1):=by simp only[kh,dL,aj,ai]
   rw[e]
   exact aH rfl (bb Tryz.func122 BF rfl (.inr rfl) (pk (d) _ _ h _ h3 (CN 2<|VV iC<|CC<|LL dX<|CC<|ZZ) k!) k!) jg rfl
 | some yF=>
   obtain ⟨D2,h3,dX,gZ⟩:=aF.r dL D8
   have jg:Has h h3:=gZ.a
   have e:kh s P=yF:=by simp only[kh,dL,aj,ai]
   rw[e]
   exact aH rfl (bb Tryz.func122 BF rfl (.inr rfl) (pk (d) _ _ h _ h3 (CN 2<|VV iC<|CC<|LL dX<|ZZ) k!) k!) jg rfl
def Ac:Code:=(Tryz.f70.body).getD .skip
theorem ED:Tryz.f70.body=some Ac:=by kernel_rfl
def iw (s:List og) (P:og→Bool):Bool:=(decide (0≤(kh s P)))
theorem EF {d:Nat} {h:aC} {sV:AV} {g:FuncId} {cap:List AV} (s:List og) (P:og→Bool) (AK:aW h sV s) (hP:∀y∈s,∀hh,Tidy hh→Has h hh→cN d (.fn g) (.agg (aR.c y)::cap) hh= .ret (.bool (P y)) hh) (ch:Tidy h):cN (d+2) (.fn 70) [sV,(AV.func g [] cap)] h= .ret (AV.bool (iw s P)) h:=by
 have k1:=LO (d:=d) s P AK hP ch
 have e:iw s P=(decide (0≤(kh s P))):=by simp only[iw,aj,ai]
 rw[e]
 exact aH rfl (bb Tryz.func70 ED rfl (.inr rfl) (pk (d+1) _ _ h _ h (CN 3<|EE k1<|VV (rv 3 false true .i64 (kh s P) 0)<|CC<|ZZ) k!) k!) (Has.refl _) rfl
def EG:Code:=(Tryz.f106.body).getD .skip
theorem lK:Tryz.f106.body=some EG:=by kernel_rfl
def dQ (j:cx) (vm:List og) (u:og):Int:=(bif (!(iU u.ah ((j.af.length:Nat):Int))) then 7 else (bif (iw vm (fun y=>j0 y u)) then 6 else (bif (decide (u.aJ<1)) then 1 else (bif (decide (1000<u.aJ)) then 1 else (bif (decide ((j.af.g u.ah.toNat).aJ<u.aJ)) then 9 else 0)))))
theorem LP {d:Nat} {h:aC} {nE:AV} (j:cx) (vm:List og) (u:og) (bV:aR.ok h j) (nG:aW h nE vm) (h_u:aR.ok h u) (ch:Tidy h):cN (d+4) (.fn 106) [(AV.agg [j.aw,j.ao]),nE,(AV.agg [(Zi u.ah),(Zi u.aJ)])] h= .ret (Zi (dQ j vm u)) h:=by
 have agN:=nG.small
 have kb:=bV.1.small
 have kf:=bV.2.small
 obtain ⟨h1,di,cS,jU,bm,bP⟩:=jE ch (aM.cells [j.aw,j.ao] 25 false)
 have bA:Has h h1:=bP
 obtain ⟨h2,Rd,yC,ac3,pX,r_⟩:=jE cS (aM.cells [(Zi u.ah),(Zi u.aJ)] 83 false)
 have kT:Has h h2:=bA.trans r_
 have MU:cb (some (.slice 37)) (some j.ao)=some (Zn j.af.length):=bV.2.len
 have k4:=G_ (d:=d+2) u.ah ((j.af.length:Nat):Int) yC
 have dJ:=fun {al ps} (k:Pk al _ ps)=>(NN di (fun i=>(Pt i))<|NN Rd (fun i=>(Pt i))<|CN 2<|MM (aO 3 0 (Zi u.ah) pX k!)<|CC<|MM (aO 23 1 j.ao (r_ _ _ bm) k!)<|VV MU<|EE k4<|CN 2<|k:Pk _ [] ps)
 rcases Bool.eq_false_or_eq_true (!(iU u.ah ((j.af.length:Nat):Int))) with f0 | f0
 · have e:dQ j vm u=7:=by simp only[dQ,f0,aj,ai]
   rw[e]
   exact aH rfl (bb Tryz.func106 lK rfl (.inr rfl) (pk (d+3) _ _ h _ h2 (dJ<|BC f0<|ZZ) k!) k!) kT rfl
 · have amr:(iU u.ah ((j.af.length:Nat):Int))=true:=d!
   have alf:=qm amr
   have k6:=EF (d:=d+1) vm (fun y=>j0 y u) (nG.has kT) (fun y hy hh yy aa=>IH (d:=d) y u h1.nx (aR.mono aa ((nG.has kT).oks y hy)) (aR.mono aa trivial) (aa _ _ pX) yy) yC
   have hX:=fun {al ps} (k:Pk al _ ps)=>(dJ<|BB f0<|CN 2<|EE k6<|CC<|k:Pk _ [] ps)
   rcases Bool.eq_false_or_eq_true (iw vm (fun y=>j0 y u)) with f1 | f1
   · have e:dQ j vm u=6:=by simp only[dQ,f0,f1,aj,ai]
     rw[e]
     exact aH rfl (bb Tryz.func106 lK rfl (.inr rfl) (pk (d+3) _ _ h _ h2 (hX<|BC f1<|ZZ) k!) k!) kT rfl
   · have ow:=fun {al ps} (k:Pk al _ ps)=>(hX<|BC f1<|MM (aO 3 1 (Zi u.aJ) pX k!)<|VV (bL 3 false true .i64 u.aJ 1)<|CC<|k:Pk _ [] ps)
     rcases Bool.eq_false_or_eq_true (decide (u.aJ<1)) with f2 | f2
     · have se:=of_decide_eq_true f2
       have e:dQ j vm u=1:=by simp only[dQ,f0,f1,f2,aj,ai]
       rw[e]
       exact aH rfl (bb Tryz.func106 lK rfl (.inr rfl) (pk (d+3) _ _ h _ h2 (ow<|BB f2<|BB f2<|BV f2 (yA true f2)<|CC<|TT<|CC<|ZZ) k!) k!) kT rfl
     · have se:=of_decide_eq_false f2
       have y9:=fun {al ps} (k:Pk al _ ps)=>(ow<|BC f2<|BM f2 (aO 3 1 (Zi u.aJ) pX k!)<|BV f2 (dw 3 false true .i64 u.aJ 1000)<|VV (cf (a:=some (AV.bool true)) (b:=some (AV.bool (decide (1000<u.aJ)))) f2)<|CC<|k:Pk _ [] ps)
       rcases Bool.eq_false_or_eq_true (decide (1000<u.aJ)) with f3 | f3
       · have yG:=of_decide_eq_true f3
         have e:dQ j vm u=1:=by simp only[dQ,f0,f1,f2,f3,aj,ai]
         rw[e]
         exact aH rfl (bb Tryz.func106 lK rfl (.inr rfl) (pk (d+3) _ _ h _ h2 (y9<|BC f3<|ZZ) k!) k!) kT rfl
       · have yG:=of_decide_eq_false f3
         obtain ⟨p11,q12,aeU⟩:=bV.2.elem (i:=u.ah.toNat) o!
         have Zv:bO env (some (.slice 37)) (some j.ao) (some (Zi u.ah))=some (AV.ptr p11 q12):=by rw[show (u.ah:Int)=((u.ah.toNat:Nat):Int) by omega];exact aeU
         have aj1:bh env h2 3 (AV.ptr p11 (q12+1))=some (Zi (j.af.g u.ah.toNat).aJ):=(bV.2.has kT).part (t:=3) (j:=1) o! aeU k! rfl
         have W1:AV.same 20 j.ao j.ao=true:=bV.2.same 19
         have AL:=fun {al ps} (k:Pk al _ ps)=>(y9<|BC f3<|MM (aO 3 1 (Zi u.aJ) pX k!)<|CC<|MM (aO 23 1 j.ao (r_ _ _ bm) k!)<|CC<|MM (aO 3 0 (Zi u.ah) pX k!)<|VV Zv<|CC<|MM aj1<|VV (dw 3 false false .i64 u.aJ (j.af.g u.ah.toNat).aJ)<|CC<|HH (aO 3 1 (Zi u.aJ) pX k!)<|HH (show AV.same 20 (Zi u.aJ) (Zi u.aJ)=true from aS 19 _ _)<|HH (aO 23 1 j.ao (r_ _ _ bm) k!)<|HH W1<|HH (aO 3 0 (Zi u.ah) pX k!)<|HH (show AV.same 20 (Zi u.ah) (Zi u.ah)=true from aS 19 _ _)<|HH aj1<|HH (show AV.same 20 (Zi (j.af.g u.ah.toNat).aJ) (Zi (j.af.g u.ah.toNat).aJ)=true from aS 19 _ _)<|k:Pk _ [] ps)
         rcases Bool.eq_false_or_eq_true (decide ((j.af.g u.ah.toNat).aJ<u.aJ)) with f4 | f4
         · have e:dQ j vm u=9:=by simp only[dQ,f0,f1,f2,f3,f4,aj,ai]
           rw[e]
           exact aH rfl (bb Tryz.func106 lK rfl (.inr rfl) (pk (d+3) _ _ h _ h2 (AL<|BC f4<|ZZ) k!) k!) kT rfl
         · have e:dQ j vm u=0:=by simp only[dQ,f0,f1,f2,f3,f4,aj,ai]
           rw[e]
           exact aH rfl (bb Tryz.func106 lK rfl (.inr rfl) (pk (d+3) _ _ h _ h2 (AL<|BC f4<|ZZ) k!) k!) kT rfl
def BG:Code:=(Tryz.f105.body).getD .skip
theorem Hf:Tryz.f105.body=some BG:=by kernel_rfl
def gM (vm:List og) (u:og) (j:cx):Int:=(dQ j vm u)
theorem Hg {d:Nat} {h:aC} {nE:AV} (vm:List og) (u:og) (j:cx) (jB:Nat) (nG:aW h nE vm) (h_u:aR.ok h u) (bV:aR.ok h j) (g_j:h.get jB=some (.cells (aR.c j) 25 false)) (ch:Tidy h):cN (d+5) (.fn 105) [nE,(AV.agg [(Zi u.ah),(Zi u.aJ)]),(Pt jB)] h= .ret (Zi (gM vm u j)) h:=by
 obtain ⟨h1,di,cS,jU,bm,bP⟩:=jE ch (aM.cells [(Zi u.ah),(Zi u.aJ)] 83 false)
 have bA:Has h h1:=bP
 have k2:=LP (d:=d) j vm u (aR.mono bA bV) (nG.has bA) trivial cS
 have e:gM vm u j=(dQ j vm u):=by simp only[gM,aj,ai]
 rw[e]
 exact aH rfl (bb Tryz.func105 Hf rfl (.inr rfl) (pk (d+4) _ _ h _ h1 (NN di (fun i=>(Pt i))<|CC<|MM (aO 25 0 (AV.agg [j.aw,j.ao]) (bP _ _ g_j) k!)<|CC<|MM (aO 83 0 (AV.agg [(Zi u.ah),(Zi u.aJ)]) bm k!)<|EE k2<|CC<|ZZ) k!) k!) bA rfl
end
end Go.Proofs.aQ
