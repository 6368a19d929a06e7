import Derived.Test.YtijehnelcbdlgaaGreatW2
import Derived.Test.YtijehnelcbdlgaaGreatW0
import Derived.Test.YtijehnelcbdlgaaGreatW1
namespace Go.Proofs.aM
open Go.Proofs Ab
noncomputable section
set_option maxRecDepth 100000
set_option maxHeartbeats 4000000
set_option linter.unusedVariables false
set_option linter.unusedSimpArgs false
theorem ng.le {t:List Int} {n:Nat} (T:ng t n) {i j:Nat} (h:i≤j) (hj:j<n):fr t i≤fr t j:=by
 rcases Nat.eq_or_lt_of_le h with e | e
 · subst e;exact Int.le_refl _
 · exact Int.le_of_lt (T.up i j e hj)
theorem Y9 {t t':List Int} {n i:Nat} {mqn:Int} (T:ng t n) (hn:n≤160) (I:Ins t t' n i mqn) (c:∀j,j<i→fr t j<mqn) (b:i<n→mqn<fr t i) (h1:1≤i) (h2:i≤n):ng t' (n+1):=by
 refine ⟨I.len,by rw[I.cn];omega,by omega,by omega,by rw[I.lof 0 o!];exact T.zero,fun a e hae he=>?_⟩
 rcases Nat.lt_trichotomy e i with q | q | q
 · rw[I.lof _ q,I.lof _ o!];exact T.up a e hae o!
 · subst q;rw[I.atf,I.lof _ hae];exact c a hae
 · rw[I.hif e q o!]
   rcases Nat.lt_trichotomy a i with r | r | r
   · rw[I.lof _ r];exact T.up a (e - 1) o! o!
   · subst r;rw[I.atf]
     have:=b o!;have:=T.le (i:=a) (j:=e - 1) o! o!;omega
   · rw[I.hif a r o!];exact T.up (a - 1) (e - 1) o! o!
theorem agx {t t':List Int} {n i:Nat} {mqn:Int} (T:ng t n) (I:Ins t t' n i mqn) (c:∀j,j<i→fr t j<mqn) (b:i<n→mqn<fr t i) (h1:1≤i) (h2:i≤n) {m:Int} (hm:0≤m):Al t' m (n+1)=Al t m n:=by
 obtain ⟨k,k1,k2,k3⟩:=zO (t:=t) (m:=m) (by rw[T.zero];exact hm) T.lo T.up
 rw[wD k1 k3 k2]
 by_cases e:i≤k
 · have hb:=b o!
   have hl:=T.le e k1
   rw[wD (i:=k+1) o! (fun q p r=>by rw[I.hif q o! o!];exact k3 (q - 1) o! o!) (by rw[I.hif _ o! o!];exact k2),I.hiu _ o! o!]
   rfl
 · by_cases f:mqn≤m
   · have hk:k=i - 1:=by
      rcases Nat.lt_or_ge k (i - 1) with q | q
      · have:=k3 (i - 1) q o!;have:=c (i - 1) o!;omega
      · omega
     rw[wD (i:=i) o! (fun q p r=>by rw[I.hif q p o!];exact k3 (q - 1) o! o!) (by rw[I.atf];exact f),I.atu,hk]
   · rw[wD (i:=k) o! (fun q p r=>by
      rcases Nat.lt_trichotomy q i with s | s | s
      · rw[I.lof _ s];exact k3 q p o!
      · subst s;rw[I.atf];omega
      · rw[I.hif q s o!]
        have:=b o!;have:=T.le (i:=i) (j:=q - 1) o! o!;omega) (by rw[I.lof _ o!];exact k2),I.lou _ o!]
theorem RB {t:List Int} {n:Nat} (T:ng t n) (hn:n≤160) {mqn:Int} (hm:0≤mqn):∃i n':Nat,(bN t mqn).1=(i:Int)∧ng (bN t mqn).2 n'∧n≤n'∧n'≤n+1∧i<n'∧fr (bN t mqn).2 i=mqn∧(∀m,0≤m→Al (bN t mqn).2 m n'=Al t m n)∧(bN t mqn).2.g 323=t.g 323∧(∀k,k<n→fr t k<mqn→fr (bN t mqn).2 k=fr t k)∧(∀k,k<n'→∃q,q<n∧us (bN t mqn).2 k=us t q)∧∀k,k<n'→fr (bN t mqn).2 k=mqn∨∃q,q<n∧fr (bN t mqn).2 k=fr t q:=by
 obtain ⟨i,e,c,b,h⟩:=aj8 T hn hm
 rcases h with ⟨h1,h2,h3⟩ | ⟨h1,h2,h3,I⟩
 · rw[h3]
   exact ⟨i,n,e,T,jR _,by omega,h1,h2,fun m _=>rfl,rfl,fun k _ _=>rfl,fun k hk=>⟨k,hk,rfl⟩,fun k hk=> .inr ⟨k,hk,rfl⟩⟩
 · refine ⟨i,n+1,e,Y9 T hn I c h3 h1 h2,by omega,by omega,by omega,I.atf,fun m hm=>agx T I c h3 h1 h2 hm,I.mark,fun k hk hf=>?_,fun k hk=>?_,fun k hk=>?_⟩
   · rcases Nat.lt_or_ge k i with q | q
     · exact I.lof k q
     · have:=b k q hk;omega
   · rcases Nat.lt_trichotomy k i with q | q | q
     · exact ⟨k,by omega,I.lou k q⟩
     · subst q;exact ⟨k - 1,by omega,I.atu⟩
     · exact ⟨k - 1,by omega,I.hiu k q o!⟩
   · rcases Nat.lt_trichotomy k i with q | q | q
     · exact .inr ⟨k,by omega,I.lof k q⟩
     · subst q;exact .inl I.atf
     · exact .inr ⟨k - 1,by omega,I.hif k q o!⟩
theorem MS {pieces:Int} {t:List Int} {s:Span} {e:Nat} (he:(bN (bN t s.a8).2 (s.aQ+1)).1=(e:Int)) (h1:e≤161):∀(kq v:Nat) (a:List Int),a.length=324→e≤v+kq→(∀k,v≤k→k<e→-9223372036854775808≤us a k+pieces∧us a k+pieces<9223372036854775808)→
 (f_ pieces t s kq (v:Int) a).length=324∧(∀k,fr (f_ pieces t s kq (v:Int) a) k=fr a k)∧(∀k,v≤k→k<e→us (f_ pieces t s kq (v:Int) a) k=us a k+pieces)∧∀k,k<v∨e≤k→us (f_ pieces t s kq (v:Int) a) k=us a k
 | 0,v,a,ha,hv,hw=>by rw[f_];exact ⟨ha,fun k=>rfl,fun k p q=>by omega,fun k _=>rfl⟩
 | kq+1,v,a,ha,hv,hw=>by
  rw[f_,he]
  by_cases f:v<e
  · rw[eV (by omega:(v:Int)<(e:Int)),ao,Int.toNat_natCast,show ((v:Int)+1)=((v+1:Nat):Int) by omega]
    have hq:=hw v (jR _) f
    rw[wrap_i64 (n:=a.g (v*2+1)+pieces) hq.1 hq.2]
    have hs:∀k,k≠v→us (a.set (v*2+1) (a.g (v*2+1)+pieces)) k=us a k:=fun k hk=>by rw[us,us,bk o!]
    obtain ⟨r1,r2,r3,r4⟩:=MS he h1 kq (v+1) (a.set (v*2+1) (a.g (v*2+1)+pieces)) (by rw[List.length_set];exact ha) o! (fun k p q=>by rw[hs k o!];exact hw k o! q)
    refine ⟨r1,fun k=>by rw[r2,fr,fr,bk o!],fun k p q=>?_,fun k p=>?_⟩
    · by_cases z:k=v
      · subst z;rw[r4 k (.inl o!),us,fk (by rw[ha];omega)];rfl
      · rw[r3 k o! q,hs k z]
    · rw[r4 k o!,hs k o!]
  · rw[fL (by omega:¬(v:Int)<(e:Int)),ai]
    exact ⟨ha,fun k=>rfl,fun k p q=>by omega,fun k _=>rfl⟩
theorem acd {t:List Int} {n:Nat} (T:ng t n) (hn:n≤159) {s:Span} {pieces B C:Int} (hC:∀k,k<n→fr t k≤C) (hs:s.aQ<C) (h0:0≤s.a8) (h1:s.a8≤s.aQ) (hp:0≤pieces) (hb:∀k,k<n→0≤us t k∧us t k≤B) (hB:B+pieces<9223372036854775808):
 ∃n':Nat,ng (fC t s pieces) n'∧n'≤n+2∧(∀m,0≤m→Al (fC t s pieces) m n'=Al t m n+if s.a8≤m∧m≤s.aQ then pieces else 0)∧(fC t s pieces).g 323=t.g 323∧(∀k,k<n'→0≤us (fC t s pieces) k∧us (fC t s pieces) k≤B+pieces)∧∀k,k<n'→fr (fC t s pieces) k≤C:=by
 obtain ⟨i1,n1,e1,T1,a1,b1,c1,d1,l1,m1,k1,u1,v1⟩:=RB T o! h0
 obtain ⟨i2,n2,e2,T2,a2,b2,c2,d2,l2,m2,k2,u2,v2⟩:=RB T1 o! (show 0≤s.aQ+1 by omega)
 have f1:fr (bN (bN t s.a8).2 (s.aQ+1)).2 i1=s.a8:=by rw[k2 i1 c1 o!,d1]
 have hb2:∀k,k<n2→0≤us (bN (bN t s.a8).2 (s.aQ+1)).2 k∧us (bN (bN t s.a8).2 (s.aQ+1)).2 k≤B:=fun k hk=>by
  obtain ⟨q,hq,eq⟩:=u2 k hk
  obtain ⟨r,hr,er⟩:=u1 q hq
  rw[eq,er];exact hb r hr
 have hf2:∀k,k<n2→fr (bN (bN t s.a8).2 (s.aQ+1)).2 k≤C:=fun k hk=>by
  rcases v2 k hk with e | ⟨q,hq,e⟩
  · omega
  · rw[e]
    rcases v1 q hq with e | ⟨r,hr,e⟩
    · omega
    · rw[e];exact hC r hr
 have i12:i1<i2:=by
  rcases Nat.lt_or_ge i1 i2 with q | q
  · exact q
  · have:=T2.le q (by omega:i1<n2);omega
 have hu:fC t s pieces=f_ pieces t s (i2 - i1) (i1:Int) (bN (bN t s.a8).2 (s.aQ+1)).2:=by
  rw[fC,fL (show ¬s.aQ<s.a8 by omega),ai,e1,e2,show Int.toNat ((i2:Int) -(i1:Int))=i2 - i1 by omega]
 rw[hu]
 generalize ht:(bN (bN t s.a8).2 (s.aQ+1)).2=t2 at *
 have hi:=T2.hi
 obtain ⟨r1,r2,r3,r4⟩:=MS (pieces:=pieces) (t:=t) (s:=s) e2 o! (i2 - i1) i1 t2 T2.len o! (fun k p q=>by have:=hb2 k o!;omega)
 generalize f_ pieces t s (i2 - i1) (i1:Int) t2=r at *
 have TR:ng r n2:=⟨r1,by rw[show r.g 322=t2.g 322 from r2 161];exact T2.cn,T2.lo,T2.hi,by rw[r2];exact T2.zero,fun a b p q=>by rw[r2,r2];exact T2.up a b p q⟩
 refine ⟨n2,TR,by omega,fun m hm=>?_,?_,fun k hk=>?_,fun k hk=>by rw[r2];exact hf2 k hk⟩
 · rw[←l1 m hm,←l2 m hm]
   obtain ⟨k,q1,q2,q3⟩:=zO (t:=t2) (m:=m) (by rw[T2.zero];exact hm) T2.lo T2.up
   rw[wD q1 q3 q2,wD q1 (fun j p q=>by rw[r2];exact q3 j p q) (by rw[r2];exact q2)]
   by_cases z:i1≤k
   · have y1:=T2.le z q1
     by_cases w:k<i2
     · have y2:=q3 i2 w c2
       rw[r3 k z w,if_pos ⟨by omega,by omega⟩]
     · have y2:=T2.le (show i2≤k by omega) q1
       rw[r4 k o!,if_neg o!];omega
   · have y1:=q3 i1 o! o!
     rw[r4 k o!,if_neg o!];omega
 · have:=r4 161 (.inr o!);unfold us at this;rw[show r.g 323=t2.g 323 from this,m2,m1]
 · have hbk:=hb2 k hk
   by_cases z:i1≤k∧k<i2
   · rw[r3 k z.1 z.2];omega
   · rw[r4 k o!];omega
theorem ng.nn {t:List Int} {n:Nat} (T:ng t n) {k:Nat} (h:k<n):0≤fr t k:=by
 have:=T.le (Nat.zero_le k) h;rw[T.zero] at this;exact this
theorem ng.Al {t:List Int} {n:Nat} (T:ng t n) {k:Nat} (h:k<n) {m:Int} (h0:fr t k≤m) (h1:k+1<n→m<fr t (k+1)):Al t m n=us t k:=
 wD h (fun j p q=>by have:=h1 o!;have:=T.le (i:=k+1) (j:=j) o! q;omega) h0
theorem ace {t:List Int} {n:Nat} (T:ng t n) (i:Nat):yO t (i:Int)=if i+1<n then fr t (i+1) else 100001:=by
 rw[yO,T.cn,show ((i:Int)+1)=((i+1:Nat):Int) by omega,Int.toNat_natCast]
 by_cases f:i+1<n
 · rw[eV (by omega:((i+1:Nat):Int)<(n:Int)),ao,if_pos f];rfl
 · rw[fL (by omega:¬((i+1:Nat):Int)<(n:Int)),ai,if_neg f]
theorem Ju {t:List Int} {n:Nat} (T:ng t n) {takes pieces rM:Int} (h0:0≤rM) (ht:0≤takes) (ht2:takes≤100000) (hf:∀k,k<n→fr t k≤100001) (hw:∀k,k<n→-9223372036854775808≤us t k+pieces∧us t k+pieces<9223372036854775808):∀(k i:Nat) (v:Int),i+k=n→rM≤v→v≤1000000→
 (∀f,rM≤f→f<v→100001<f+takes∨∃m,f≤m∧m<f+takes∧m<100001∧t.g 323<Al t m n+pieces)∨takes=0→(∀m,v≤m→(i<n→m<fr t i)→m<100001→Al t m n+pieces≤t.g 323)→
 rM≤e7 t takes pieces k i v∧((∀f,rM≤f→f<e7 t takes pieces k i v→100001<f+takes∨∃m,f≤m∧m<f+takes∧m<100001∧t.g 323<Al t m n+pieces)∨takes=0)∧(∀m,e7 t takes pieces k i v≤m→m<e7 t takes pieces k i v+takes→m<100001→Al t m n+pieces≤t.g 323)∧e7 t takes pieces k i v≤1000000
 | 0,i,v,hi,a,b,c,e=>by
  rw[e7]
  exact ⟨a,c,fun m p q r=>e m p (fun z=>by omega) r,b⟩
 | k+1,i,v,hi,a,b,c,e=>by
  rw[e7,wrap_i64 (n:=v+takes) o! o!]
  have NM:i<n:=by omega
  have hni:=T.nn NM
  have hfi:=hf i NM
  have hl:∀m,fr t i≤m→(i+1<n→m<fr t (i+1))→Al t m n=us t i:=fun m p q=>T.Al NM p q
  by_cases f0:v+takes≤fr t i
  · rw[eV (show v+takes≤t.g (i*2) from f0),ao]
    exact ⟨a,c,fun m p q r=>e m p (fun z=>by omega) r,b⟩
  · rw[fL (show ¬v+takes≤t.g (i*2) from f0),ai,wrap_i64 (n:=t.g (i*2+1)+pieces) (hw i NM).1 (hw i NM).2]
    by_cases f1:t.g 323<us t i+pieces
    · rw[eV (show t.g 323<t.g (i*2+1)+pieces from f1),ao,ace T]
      have he:fr t i≤(if i+1<n then fr t (i+1) else 100001)∧(if i+1<n then fr t (i+1) else (100001:Int))≤100001∧(i+1<n→(if i+1<n then fr t (i+1) else 100001)=fr t (i+1))∧(¬i+1<n→(if i+1<n then fr t (i+1) else (100001:Int))=100001):=by
       by_cases z:i+1<n
       · rw[if_pos z];exact ⟨T.le o! z,hf _ z,fun _=>rfl,fun y=>absurd z y⟩
       · rw[if_neg z];exact ⟨hfi,Int.le_refl _,fun y=>absurd y z,fun _=>rfl⟩
      generalize (if i+1<n then fr t (i+1) else (100001:Int))=E at he
      obtain ⟨he1,he2,he3,he4⟩:=he
      have hmx:v≤imax v E∧E≤imax v E∧(imax v E=v∨imax v E=E):=by
       unfold imax;split<;>omega
      obtain ⟨x1,x2,x3⟩:=hmx
      generalize imax v E=V at x1 x2 x3
      refine Ju T h0 ht ht2 hf hw k (i+1) V o! o! o! ?_ (fun m p q r=>?_)
      · rcases c with c | c
        · by_cases z:takes=0
          · exact .inr z
          · refine .inl fun f p q=>?_
            by_cases y:f<v
            · exact c f p y
            · by_cases w:fr t i≤f
              · exact .inr ⟨f,Int.le_refl _,by omega,by omega,by rw[hl f w (fun r=>by have:=he3 r;omega)];exact f1⟩
              · by_cases y2:fr t i=100001
                · exact .inl o!
                exact .inr ⟨fr t i,by omega,by omega,by omega,by rw[hl _ (Int.le_refl _) (fun r=>T.up i (i+1) o! r)];exact f1⟩
        · exact .inr c
      · by_cases u:i+1<n
        · have:=q u;have:=he3 u;omega
        · have:=he4 u;omega
    · rw[fL (show ¬t.g 323<t.g (i*2+1)+pieces from f1),ai]
      refine Ju T h0 ht ht2 hf hw k (i+1) v o! a b c (fun m p q r=>?_)
      by_cases y:m<fr t i
      · exact e m p (fun _=>y) r
      · rw[hl m o! q];omega
theorem Uq {t:List Int} {n:Nat} (T:ng t n) {takes pieces rM:Int} (h0:0≤rM) (h1:rM≤1000000) (ht:0≤takes) (ht2:takes≤100000) (hf:∀k,k<n→fr t k≤100001) (hw:∀k,k<n→-9223372036854775808≤us t k+pieces∧us t k+pieces<9223372036854775808):
 rM≤pg t rM takes pieces∧((∀f,rM≤f→f<pg t rM takes pieces→100001<f+takes∨∃m,f≤m∧m<f+takes∧m<100001∧t.g 323<Al t m n+pieces)∨takes=0)∧(∀m,pg t rM takes pieces≤m→m<pg t rM takes pieces+takes→m<100001→Al t m n+pieces≤t.g 323)∧pg t rM takes pieces≤1000000:=by
 rw[pg,T.cn,Int.toNat_natCast]
 exact Ju T h0 ht ht2 hf hw n 0 rM o! (Int.le_refl _) h1 (.inl fun f p q=>by omega) (fun m p q r=>by have:=q T.lo;rw[T.zero] at this;omega)
def Ox (aI:Int):List Int:=List.replicate 322 0++[1,aI]
theorem HV {aI:Int} {k:Nat} (h:k<322):(Ox aI).g k=0:=by
 rw[Ox,List.g,List.getD_eq_getElem?_getD,List.getElem?_append_left (by rw[List.length_replicate];exact h),List.getElem?_replicate,if_pos h];rfl
theorem Jv (aI:Int):ng (Ox aI) 1:=
 ⟨rfl,rfl,jR _,by decide,HV (by decide),fun i j p q=>by omega⟩
theorem acf (aI:Int) {m:Int} (hm:0≤m):Al (Ox aI) m 1=0:=by
 rw[Al,if_pos (by rw[(Jv aI).zero];exact hm),us,HV (by decide)]
theorem agy (aI:Int) {k:Nat} (h:k<1):us (Ox aI) k=0:=HV o!
theorem agz (aI:Int) {k:Nat} (h:k<1):fr (Ox aI) k=0:=HV o!
def inS (s:Span) (m p:Int):Int:=if s.a8≤m∧m≤s.aQ then p else 0
structure sZ (t:List Int) (n:Nat) (B C:Int):Prop where
 is:ng t n
 u:∀k,k<n→0≤us t k∧us t k≤B
 f:∀k,k<n→fr t k≤C
theorem aj9 (aI:Int) {C:Int} (hC:0≤C):sZ (Ox aI) 1 0 C:=
 ⟨Jv aI,fun k h=>by rw[agy aI h];omega,fun k h=>by rw[agz aI h];exact hC⟩
theorem Oy {t:List Int} {n:Nat} {B C:Int} (T:sZ t n B C) (hn:n≤159) {s:Span} {p:Int} (h0:0≤s.a8) (hs:s.aQ<C) (hp:0≤p) (hB:B+p<9223372036854775808):
 ∃n':Nat,sZ (fC t s p) n' (B+p) C∧n'≤n+2∧(∀m,0≤m→Al (fC t s p) m n'=Al t m n+inS s m p)∧(fC t s p).g 323=t.g 323:=by
 by_cases h:s.a8≤s.aQ
 · obtain ⟨n',a,b,c,d,e,f⟩:=acd T.is hn T.f hs h0 h hp T.u hB
   exact ⟨n',⟨a,e,f⟩,b,c,d⟩
 · have hw:fC t s p=t:=by rw[fC,eV (show s.aQ<s.a8 by omega),ao]
   rw[hw]
   exact ⟨n,⟨T.is,fun k hk=>by have:=T.u k hk;omega,T.f⟩,by omega,fun m _=>by rw[inS,if_neg o!];omega,rfl⟩
def wE (t:List Int) (l:List (Span×Int)):List Int:=l.foldl (fun t x=>fC t x.1 x.2) t
def Lu (l:List (Span×Int)) (m:Int):Int:=(l.map fun x=>inS x.1 m x.2).sum
def Di (l:List (Span×Int)):Int:=(l.map fun x=>x.2).sum
theorem WU:∀{l:List (Span×Int)},(∀x∈l,0≤x.2)→0≤Di l
 | [],_=>Int.le_refl _
 | x::l,h=>by
  have a:=h x (.head _)
  have b:=WU (l:=l) fun y hy=>h y (.tail _ hy)
  show 0≤((x::l).map fun x=>x.2).sum
  rw[List.map_cons,List.sum_cons];unfold Di at b;omega
theorem RD {C:Int}:∀(l:List (Span×Int)) (t:List Int) (n:Nat) (B:Int),sZ t n B C→n+2*l.length≤161→(∀x∈l,0≤x.1.a8∧x.1.aQ<C∧0≤x.2)→B+Di l<9223372036854775808→
 ∃n':Nat,sZ (wE t l) n' (B+Di l) C∧n'≤n+2*l.length∧(∀m,0≤m→Al (wE t l) m n'=Al t m n+Lu l m)∧(wE t l).g 323=t.g 323
 | [],t,n,B,T,hn,hx,hB=>⟨n,by rw[show B+Di []=B from Int.add_zero B];exact T,by simp,fun m _=>(Int.add_zero _).symm,rfl⟩
 | x::l,t,n,B,T,hn,hx,hB=>by
  have hp:Di (x::l)=x.2+Di l:=by unfold Di;rw[List.map_cons,List.sum_cons]
  have hq:0≤Di l:=WU fun y hy=>(hx y (.tail _ hy)).2.2
  have h1:=hx x (.head _)
  rw[List.length_cons] at hn
  obtain ⟨n1,a,b,c,d⟩:=Oy T o! (s:=x.1) (p:=x.2) h1.1 h1.2.1 h1.2.2 o!
  obtain ⟨n2,a2,b2,c2,d2⟩:=RD l (fC t x.1 x.2) n1 (B+x.2) a o! (fun y hy=>hx y (.tail _ hy)) o!
  refine ⟨n2,?_,by rw[List.length_cons];omega,fun m hm=>?_,d2.trans d⟩
  · rw[show B+Di (x::l)=B+x.2+Di l by omega];exact a2
  · show Al (wE (fC t x.1 x.2) l) m n2=_
    rw[c2 m hm,c m hm]
    show _=Al t m n+((x::l).map fun x=>inS x.1 m x.2).sum
    rw[List.map_cons,List.sum_cons];unfold Lu;omega
theorem Jx {α:Type} [Inhabited α] {l:List α} {v:Nat} (h:v<l.length):l.drop v=l.g v::l.drop (v+1):=by
 rw[List.drop_eq_getElem_cons h,List.g,List.getD_eq_getElem?_getD,List.getElem?_eq_getElem h];rfl
def gR (L:List Tl) (us:List ko) (sp:Span):List Tl:=us.foldl (fun L u=>L.set (Int.toNat u.ah) ⟨fC (fit (L.g (Int.toNat u.ah)).l) sp u.aI⟩) L
theorem MT {j:bP} {tqk iD:Int}:∀(kq v:Nat) (a:List Bool) (b:List Int) (c:List Tl),(j.ab.g tqk.toNat).aB.length≤v+kq→kW j tqk iD kq (v:Int) a b c=(a,b,gR c ((j.ab.g tqk.toNat).aB.drop v) ⟨iD,iD+(j.ab.g tqk.toNat).takes - 1⟩)
 | 0,v,a,b,c,h=>by rw[kW,List.drop_eq_nil_of_le o!];rfl
 | kq+1,v,a,b,c,h=>by
  rw[kW]
  by_cases f:v<(j.ab.g tqk.toNat).aB.length
  · rw[eV (by omega:(v:Int)<((j.ab.g tqk.toNat).aB.length:Int)),ao,show ((v:Int)+1)=((v+1:Nat):Int) by omega,MT kq (v+1) _ _ _ o!,Int.toNat_natCast,Jx f]
    rfl
  · rw[fL (by omega:¬(v:Int)<((j.ab.g tqk.toNat).aB.length:Int)),ai,List.drop_eq_nil_of_le o!];rfl
theorem Bx (j:bP) (aE:List Bool) (aj:List Int) (aW:List Tl) (tqk iD:Int):di j aE aj aW tqk iD=(aE.set tqk.toNat true,aj.set tqk.toNat iD,gR aW (j.ab.g tqk.toNat).aB ⟨iD,iD+(j.ab.g tqk.toNat).takes - 1⟩):=by
 rw[di,show (0:Int)=((0:Nat):Int) from rfl,MT _ _ _ _ _ o!,List.drop_zero]
theorem Jy (us:List ko) (sp:Span):∀L:List Tl,(gR L us sp).length=L.length:=by
 induction us with
 | nil=>intro L;rfl
 | cons u us ih=>intro L;show (gR (L.set _ _) us sp).length=_;rw[ih,List.length_set]
def Dis (us:List ko):Prop:=us.Pairwise fun a b=>Int.toNat a.ah≠Int.toNat b.ah
theorem Oz {sp:Span} {r:Nat}:∀(us:List ko) (L:List Tl),Dis us→(∀u∈us,Int.toNat u.ah<L.length)→
 (∃u∈us,Int.toNat u.ah=r∧(gR L us sp).g r=⟨fC (fit (L.g r).l) sp u.aI⟩)∨((∀u∈us,Int.toNat u.ah≠r)∧(gR L us sp).g r=L.g r)
 | [],L,_,_=> .inr ⟨(fun _ h=>by cases h),rfl⟩
 | u::us,L,hd,hr=>by
  obtain ⟨h1,h2⟩:=List.pairwise_cons.1 hd
  have hu:=hr u (.head _)
  have ih:=Oz (sp:=sp) (r:=r) us (L.set (Int.toNat u.ah) ⟨fC (fit (L.g (Int.toNat u.ah)).l) sp u.aI⟩) h2 fun x hx=>by rw[List.length_set];exact hr x (.tail _ hx)
  have e:gR L (u::us) sp=gR (L.set (Int.toNat u.ah) ⟨fC (fit (L.g (Int.toNat u.ah)).l) sp u.aI⟩) us sp:=rfl
  rw[e]
  by_cases hur:Int.toNat u.ah=r
  · rcases ih with ⟨x,hx,ex,_⟩ | ⟨hn,g⟩
    · exact absurd (hur.trans ex.symm) (h1 x hx)
    · refine .inl ⟨u,.head _,hur,?_⟩
      rw[g,hur,YW o!]
  · rcases ih with ⟨x,hx,ex,g⟩ | ⟨hn,g⟩
    · exact .inl ⟨x,.tail _ hx,ex,by rw[g,E1 hur]⟩
    · refine .inr ⟨fun x hx=>?_,by rw[g,E1 hur]⟩
      cases hx with
      | head=>exact hur
      | tail _ hx=>exact hn x hx
theorem OA {us:List ko} (h0:∀q,q<us.length→0≤(us.g q).ah) (hd:∀a,a<us.length→∀b,a<b→b<us.length→(us.g a).ah≠(us.g b).ah):Dis us:=by
 have hg:∀q (h:q<us.length),us.g q=us[q]:=fun q h=>by rw[List.g,List.getD_eq_getElem?_getD,List.getElem?_eq_getElem h];rfl
 refine List.pairwise_iff_getElem.2 fun a b ha hb Wc e=>?_
 have:=hd a ha b Wc hb
 have x:=h0 a ha
 have y:=h0 b hb
 rw[hg a ha,hg b hb] at this
 rw[hg a ha] at x
 rw[hg b hb] at y
 omega
theorem Dj {α:Type} [Inhabited α] {l:List α} {x:α} (h:x∈l):∃i,i<l.length∧l.g i=x:=by
 obtain ⟨i,hi,e⟩:=List.mem_iff_getElem.1 h
 exact ⟨i,hi,by rw[List.g,List.getD_eq_getElem?_getD,List.getElem?_eq_getElem hi];exact e⟩
theorem tq.use {c:Int} {t:Tl} (h:tq c t) (hc:c≤159) {sp:Span} {p:Int} (h0:0≤sp.a8) (h1:sp.aQ≤100000000):tq (c+2) ⟨fC (fit t.l) sp p⟩:=by
 obtain ⟨a,b,c',d,e⟩:=C3 (fit t.l) sp p (wq _) h.1 (Int.le_trans h.2.1 hc) h.2.2 h0 h1
 have:=h.2.1
 unfold tq
 rw[ux e]
 exact ⟨a,by omega,c'⟩
theorem Dk (j:bP) (aE:List Bool) (aj:List Int) (aW:List Tl) (tqk iD:Int) (ur:∀q,q<(j.ab.g tqk.toNat).aB.length→0≤((j.ab.g tqk.toNat).aB.g q).ah∧((j.ab.g tqk.toNat).aB.g q).ah<(aW.length:Int)) (ud:∀a,a<(j.ab.g tqk.toNat).aB.length→∀b,a<b→b<(j.ab.g tqk.toNat).aB.length→((j.ab.g tqk.toNat).aB.g a).ah≠((j.ab.g tqk.toNat).aB.g b).ah) (h0:0≤iD) (h1:iD+(j.ab.g tqk.toNat).takes≤100000):
 (di j aE aj aW tqk iD).2.2.length=aW.length∧∀c:Int,c≤159→(∀r,r<aW.length→tq c (aW.g r))→∀r,r<aW.length→tq (c+2) ((di j aE aj aW tqk iD).2.2.g r):=by
 rw[Bx]
 refine ⟨Jy _ _ _,fun c hc ht r hr=>?_⟩
 have hd:=OA (fun q hq=>(ur q hq).1) ud
 rcases Oz (sp:=⟨iD,iD+(j.ab.g tqk.toNat).takes - 1⟩) (r:=r) _ aW hd (fun u hu=>by
  obtain ⟨i,hi,e⟩:=Dj hu
  have:=ur i hi
  rw[e] at this;omega) with ⟨u,_,_,g⟩ | ⟨_,g⟩
 · show tq (c+2) ((gR _ _ _).g r)
   rw[g];exact (ht r hr).use hc h0 (by dsimp only;omega)
 · show tq (c+2) ((gR _ _ _).g r)
   rw[g];exact (ht r hr).le o!
theorem RE {j:bP} {i:Nat}:∀(kq v:Nat) (a:List Int),(j.af.g i).off.length≤v+kq→dN j i kq (v:Int) a=wE a (((j.af.g i).off.drop v).map fun s=>(s,(j.af.g i).aI))
 | 0,v,a,h=>by rw[dN,List.drop_eq_nil_of_le o!];rfl
 | kq+1,v,a,h=>by
  rw[dN]
  by_cases f:v<(j.af.g i).off.length
  · rw[eV (by omega:(v:Int)<((j.af.g i).off.length:Int)),ao,show ((v:Int)+1)=((v+1:Nat):Int) by omega,RE kq (v+1) _ o!,Int.toNat_natCast,Jx f]
    rfl
  · rw[fL (by omega:¬(v:Int)<((j.af.g i).off.length:Int)),ai,List.drop_eq_nil_of_le o!];rfl
def nbT (r:aR):List Int:=wE (dc r.aI) (r.off.map fun s=>(s,r.aI))
theorem RF {j:bP}:∀(kq i:Nat) (c:List Tl) (a:List Bool) (b:List Int),i+kq=j.af.length→dz j kq i c a b=(c++(j.af.drop i).map fun r=>⟨nbT r⟩,a,b)
 | 0,i,c,a,b,h=>by rw[dz,List.drop_eq_nil_of_le o!,List.map_nil,List.append_nil]
 | kq+1,i,c,a,b,h=>by
  rw[dz,RF kq (i+1) _ _ _ o!,Jx (show i<j.af.length by omega),List.map_cons,List.append_assoc,show (0:Int)=((0:Nat):Int) from rfl,RE _ _ _ o!,List.drop_zero]
  rfl
theorem RG (j:bP):ay j=(j.af.map fun r=>⟨nbT r⟩,List.replicate j.ab.length false,List.replicate j.ab.length 0):=by
 rw[ay,RF _ _ _ _ _ o!];rfl
theorem MU:∀(l:List (Span×Int)) (t:List Int) (c:Int),t.length=324→tq c ⟨t⟩→c+2*l.length≤161→(∀x∈l,0≤x.1.a8∧x.1.aQ≤100000000)→(wE t l).length=324∧tq (c+2*l.length) ⟨wE t l⟩
 | [],t,c,hl,h,_,_=>⟨hl,h.le (by simp)⟩
 | x::l,t,c,hl,h,hc,hx=>by
  rw[List.length_cons] at hc ⊢
  have hx1:=hx x (.head _)
  have hf:=ux hl
  have u:=h.use (sp:=x.1) (p:=x.2) o! hx1.1 hx1.2
  rw[show (⟨t⟩:Tl).l=t from rfl,hf] at u
  obtain ⟨a,b,c',d,e⟩:=C3 t x.1 x.2 hl (by have:=h.1;rw[show (⟨t⟩:Tl).l=t from rfl,hf] at this;exact this) (by have:=h.2.1;rw[show (⟨t⟩:Tl).l=t from rfl,hf] at this;omega) (by have:=h.2.2;rw[show (⟨t⟩:Tl).l=t from rfl,hf] at this;exact this) hx1.1 hx1.2
  obtain ⟨r1,r2⟩:=MU l (fC t x.1 x.2) (c+2) e u o! fun y hy=>hx y (.tail _ hy)
  exact ⟨r1,r2.le o!⟩
theorem uH (j:bP) (ro:∀r,r<j.af.length→(j.af.g r).off.length≤16∧∀q,q<(j.af.g r).off.length→0≤((j.af.g r).off.g q).a8∧((j.af.g r).off.g q).aQ≤100000):(ay j).1.length=j.af.length∧∀r,r<j.af.length→tq 33 ((ay j).1.g r):=by
 rw[RG]
 refine ⟨List.length_map _,fun r hr=>?_⟩
 have hg:((j.af.map fun r=>(⟨nbT r⟩:Tl)).g r)=⟨nbT (j.af.g r)⟩:=by
  rw[List.g,List.g,List.getD_eq_getElem?_getD,List.getD_eq_getElem?_getD,List.getElem?_map,List.getElem?_eq_getElem hr];rfl
 show tq 33 ((j.af.map fun r=>(⟨nbT r⟩:Tl)).g r)
 rw[hg]
 obtain ⟨n1,n2,n3,n4⟩:=AE (j.af.g r).aI
 obtain ⟨ol,oo⟩:=ro r hr
 have t0:tq 1 ⟨dc (j.af.g r).aI⟩:=by
  unfold tq
  rw[show (⟨dc (j.af.g r).aI⟩:Tl).l=dc (j.af.g r).aI from rfl,ux n3]
  exact ⟨by omega,by omega,n2⟩
 have:=(MU ((j.af.g r).off.map fun s=>(s,(j.af.g r).aI)) _ 1 n3 t0 (by rw[List.length_map];omega) (fun x hx=>by
  obtain ⟨s,hs,rfl⟩:=List.mem_map.1 hx
  obtain ⟨i,hi,e⟩:=Dj hs
  have:=oo i hi
  rw[e] at this
  exact ⟨this.1,by dsimp only;omega⟩)).2
 exact this.le (by rw[List.length_map];omega)
theorem Jz {X A:List Tl} {v:Int} (p:X.length=A.length∧∀c:Int,c≤159→(∀r,r<A.length→tq c (A.g r))→∀r,r<A.length→tq (c+2) (X.g r)) (i:∀r,r<A.length→tq (33+2*v) (A.g r)) (hv:v≤63):∀r,r<X.length→tq (33+2*(v+1)) (X.g r):=fun r hr=>(p.2 (33+2*v) o! i r o!).le o!
theorem JA {L:List Tl} {n:Nat} (p:L.length=n∧∀r,r<n→tq 33 (L.g r)):∀r,r<L.length→tq (33+2*0) (L.g r):=fun r hr=>(p.2 r o!).le o!
def nF:List Bool→Nat
 | []=>0
 | b::l=>(bif b then 0 else 1)+nF l
theorem yR:∀n,nF (List.replicate n false)=n
 | 0=>rfl
 | n+1=>by rw[List.replicate_succ,nF,yR n];simp;omega
theorem E9:∀{l:List Bool} {n:Nat},n<l.length→l.g n=false→nF (l.set n true)+1=nF l
 | b::l,0,_,e=>by
  have e:b=false:=e
  subst e
  simp only[List.set_cons_zero,nF,ao,ai];omega
 | b::l,n+1,h,e=>by
  have q:=E9 (l:=l) (n:=n) (by simpa using h) e
  simp only[List.set_cons_succ,nF];omega
theorem acg {l:List Bool} {n:Int} (h0:0≤n) (h1:n<l.length) (h2:l.g n.toNat=false):nF (l.set n.toNat true)+1=nF l:=E9 o! h2
def RH:Code:=(Tryz.f73.body).getD .skip
theorem RI:Tryz.f73.body=some RH:=by kernel_rfl
def kY (x8:Int) (aI:Int):Bool:=(bif (decide (0≤x8)) then (decide (x8<aI)) else false)
theorem JB {d:Nat} {h:az} (x8:Int) (aI:Int) (bM:Tidy h):cA (d+1) (.fn 73) [(Zi x8),(Zi aI)] h= .ret (AV.bool (kY x8 aI)) h:=by
 rcases bu (decide (0≤x8)) with f0 | f0
 · have e:kY x8 aI=(decide (x8<aI)):=by simp only[kY,f0,ao,ai]
   rw[e]
   exact aG rfl (aY Tryz.func73 RI rfl (.inr rfl) (pk (d) _ _ h _ h (CN 2<|VV (tA 3 false true .i64 x8 0)<|CC<|BC f0<|BC f0<|BV f0 (bE 3 false false .i64 x8 aI)<|VV (tp (decide (x8<aI)) false f0)<|CC<|ZZ) k!) k!) (Has.refl _) rfl
 · have e:kY x8 aI=false:=by simp only[kY,f0,ao,ai]
   rw[e]
   exact aG rfl (aY Tryz.func73 RI rfl (.inr rfl) (pk (d) _ _ h _ h (CN 2<|VV (tA 3 false true .i64 x8 0)<|CC<|BB f0<|BB f0<|BV f0 (vd false f0)<|CC<|ZZ) k!) k!) (Has.refl _) rfl
theorem zT {n m:Int} (h:kY n m=true):0≤n∧n<m:=by
 unfold kY at h
 by_cases a:0≤n
 · rw[eV a] at h;exact ⟨a,jv h⟩
 · rw[fL a] at h;cases h
theorem OC {h:az} {e s xt:TypeId} {tys:Array TypeId} {bytes b p n:Nat} {f ro:Bool} {z0:AV} {M:List AV} (y:Tidy h) (hp:h.get p=some (.cells [] e false)) (hg:h.get b=some (.cells M e ro)) (ln:M.length=n) (tj:M.all AV.scalar=true) (hl:n≤1000000000)
 (t0:tys[0]? =some s) (t1:tys[1]? =some xt) (hs:env.P.underlying s=some (.slice e)) (hx:env.P.underlying xt=some (.slice e)) (Wz:dm env e=some 1) (hb:jT env e=some bytes) (xS:kE env e=some z0) (hz:z0.cells.length=1) (h8:bytes≤63):
 ∃q o h',cb env h tys (.slice p 0 0 0 false) (.slice b 0 n n f)=some (.slice q 0 n n o,h')∧Tidy h'∧h.nx≤h'.nx∧Has h h'∧h'.get q=some (.cells M e false)∧p≤q:=by
 have hi:sG (.slice e)=false:=rfl
 have hlen:sE (.slice b 0 n n f)=some n:=rfl
 have pn:=y _ _ hp
 by_cases hn:n=0
 · subst hn
   have hM:M=[]:=List.length_eq_zero_iff.1 ln
   subst hM
   have hf:gJ h 1 0 (.slice b 0 0 0 f)=some []:=by simp [gJ,hg]
   have hgp:∀i,(h.put p (some (.cells [] e false))).get i=h.get i:=fun i=>by
    by_cases q:i=p
    · subst q;rw[az.cY,hp]
    · rw[az.bQ (Ne.symm q)]
   refine ⟨p,false,h.put p (some (.cells [] e false)),?_,fun i w q=>y i w (by rw[←hgp];exact q),jR _,fun i w q=>by rw[hgp];exact q,by rw[hgp];exact hp,jR _⟩
   simp only[cb,t0,t1,hs,hx,hi,Wz,hb,hlen,hf,xS,hz,tj,hp,if_true,if_false,and_self,List.length_nil,Bool.false_eq_true,Nat.zero_mul,Nat.add_zero,jR,setFrom]
 · have hf:gJ h 1 n (.slice b 0 n n f)=some M:=by
    simp only[gJ,hg,jR,if_true,if_neg hn,Nat.mul_one,Nat.zero_add,List.drop_zero]
    rw[if_pos o!,List.take_of_length_le o!]
   obtain ⟨h',nw⟩:=uv (h:=h) (.cells M e false)
   refine ⟨h.nx,true,h',?_,mq y nw,by rw[wh nw];omega,wi y nw,rY nw,by omega⟩
   have Qd:¬n≤0:=by omega
   have YL:(4*n+4096)*(bytes+1)≤1099511627776:=Nat.le_trans (Nat.mul_le_mul (show 4*n+4096≤17179869184 by omega) (show bytes+1≤64 by omega)) (by decide)
   simp only[cb,t0,t1,hs,hx,hi,Wz,hb,hlen,hf,xS,hz,tj,hp,Qd,if_true,if_false,and_self,Bool.false_eq_true,Nat.zero_mul,Nat.add_zero,Nat.zero_add,List.length_nil,jR,ln,Nat.mul_one]
   rw[if_pos ⟨YL,trivial,fun e=>e.elim⟩]
   simp only[List.drop_nil,List.take_nil,List.nil_append,nw]
theorem Y_ (l:List Bool):(bs l).all AV.scalar=true:=List.all_eq_true.2 fun x hx=>by
 obtain ⟨y,_,rfl⟩:=List.mem_map.1 hx
 rfl
theorem bT.pre {k:IntKind} {h:az} {e:TypeId} {v:AV} {l:List Int} (x:bT h k e v l) {t:TypeId} (ht:env.P.underlying t=some (.slice e)) {i:Nat} (hi:i<l.length):∃r,iY env t v none (some (.int .i64 ((i:Nat):Int))) none=some r∧bT h k e r (l.take i):=by
 rcases x.at_.block with h0 | ⟨p,o,m,c,b,C,f,ro,h1,hc,h2,h3⟩
 · omega
 · subst h1
   have hm:m=l.length:=by
    have:=x.at_.lens
    rw[ju] at this
    simp only[Option.some.injEq,AV.int.injEq,true_and] at this
    omega
   subst hm
   refine ⟨.slice p o i c b,?_,⟨⟨x.at_.size,by rw[fS,Nat.mul_one],by have:=x.small;simp;omega,?_,.inr ⟨p,o,i,c,b,C,f,ro,rfl,by omega,h2,fun j hj=>?_⟩⟩,x.agg,.inr (.inr ⟨_,_,_,_,_,rfl⟩)⟩⟩
   · simp only[iY,ht,x.at_.size,hc,if_true,vc (len:=l.length) (cap:=c) none (some (.int .i64 ((i:Nat):Int))) (.inr ⟨rfl,rfl⟩) (.inl rfl) (Nat.zero_le i) o!]
     rw[if_neg o!]
     simp
   · rw[ju,List.length_take,Nat.min_eq_left (Nat.le_of_lt hi)]
   · rw[fS,List.length_take] at hj
     rw[h3 j (by rw[fS];omega),IZ k l o!,IZ k (l.take i) (by rw[List.length_take];omega)]
     rw[List.g,List.g,List.getD_eq_getElem?_getD,List.getD_eq_getElem?_getD,List.getElem?_take_of_lt o!]
theorem tT {L:List Int} {n v:Int} {i:Nat} (h:∀q,q<L.length→0≤L.g q∧L.g q<n) (h0:0≤v) (h1:v<n):∀q,q<(L.set i v).length→0≤(L.set i v).g q∧(L.set i v).g q<n:=fun q hq=>by
 rw[List.length_set] at hq
 by_cases e:i=q
 · subst e;rw[fk hq];exact ⟨h0,h1⟩
 · rw[bk e];exact h q hq
theorem agA {m:Nat}:∀q,q<(List.replicate m (0:Int)).length→0≤(List.replicate m (0:Int)).g q∧(List.replicate m (0:Int)).g q<(m:Int):=fun q hq=>by
 rw[List.length_replicate] at hq
 rw[List.g,List.getD_eq_getElem?_getD,List.getElem?_replicate,if_pos hq]
 exact ⟨Int.le_refl _,by show (0:Int)<_;omega⟩
def rN:Code:=(Tryz.f124.body).getD .skip
theorem pY:Tryz.f124.body=some rN:=by kernel_rfl
def By:Code:=(bl rN).getD 0 .skip
def fD (P:Nat→Int) (ct:List Int):Nat→Nat→Option (Int)
 | 0,_=>none
 | dx+1,i0=>(bif (!decide ((P i0)=0)) then some (P i0) else fD P ct dx (i0+1))
theorem rO {d:Nat} {h:az} (cj:AV) (g:FuncId) (cap:List AV) (ct:List Int) (P:Nat→Int) (bp:bT h .i64 3 cj ct) (hP:∀j,j<ct.length→∀aV hh,Tidy hh→Has h hh→bT hh .i64 3 aV (ct.take j)→cA d (.fn g) (aV:: .int .i64 (ct.g j)::cap) hh= .ret (.int .i64 (P j)) hh):∀(k_ i_:Nat) (_:i_+k_=ct.length) (x:Nat→AV) (hh:az) (aF:Tidy hh) (aA:Has h hh),aC (cA (d)) By ⟨(cj::(x 1)::(AV.func g [] cap)::rx x 3 11 (cj::(Zn ct.length)::(Zn i_)::rx x 17 14 [])),hh,[],.no⟩ (.exit 0) hh (fun y=>(cj::(y 1)::(AV.func g [] cap)::rx y 3 11 (cj::(Zn ct.length)::rx y 16 15 []))) (fun r y=>(cj::(y 1)::(AV.func g [] cap)::rx y 3 3 ((Zi r)::rx y 7 7 (cj::(Zn ct.length)::rx y 16 15 [])))) (fD P ct k_ i_)
 | 0,i0,eZ,x,hh,aF,aA=>by
  have q1:(decide (((i0:Nat):Int)<((ct.length:Nat):Int)))=false:=d!
  exact aC.out rfl (pk (d) _ _ hh _ hh (VV (bE 3 false false .i64 ((i0:Nat):Int) ((ct.length:Nat):Int))<|BB q1<|ZZ) k!) (Grow.refl aF) k!
 | dx+1,i0,eZ,x,hh,aF,aA=>by
  have gN:=bp.small
  have q1:(decide (((i0:Nat):Int)<((ct.length:Nat):Int)))=true:=d!
  obtain ⟨p3,q4,gh,_⟩:=(bp.has aA).elem (i:=i0) o!
  have kN:=(bp.has aA).load o! gh
  obtain ⟨r6,arI,fr8⟩:=(bp.has aA).pre (t:=26) k! (i:=i0) o!
  have sl7:iY env 26 cj (none) (some (Zn i0)) (none)=some r6:=arI
  have k9:=hP i0 o! r6 hh aF aA fr8
  have ei:=fun {al ps} (k:Pk al _ ps)=>(VV (bE 3 false false .i64 ((i0:Nat):Int) ((ct.length:Nat):Int))<|BC q1<|VV gh<|MM kN<|CN 5<|QQ sl7<|CC<|EE k9<|CN 2<|VV (kt 31 false true .i64 (P i0) 0)<|k:Pk _ [] ps)
  rcases bu (!decide ((P i0)=0)) with f1 | f1
  · have eB:=Eu f1
    exact aC.ret (P i0) (by simp only[fD,f1,ao,ai]) (pk (d) _ _ hh _ hh (ei<|BB f1<|CN 2<|ZZ) k!) (Grow.refl aF) k!
  · have eB:=Ew f1
    have u11:=eA 3 false true i0 1 o!
    exact aC.round (by simp only[fD,f1,ao,ai]) (pk (d) _ _ hh _ hh (ei<|BV f1 u11<|CC<|ZZ) k!) (Grow.refl aF) _ k! (fun x=>rO cj g cap ct P bp hP dx (i0+1) o! x hh aF aA)
def cP (ct:List Int) (eD:Int) (P:Nat→Int):Int:=(bif (decide (eD<((ct.length:Nat):Int))) then 3 else (match (fD P ct ct.length 0) with | none=>0 | some Bz=>Bz))
theorem E_ {d:Nat} {h:az} {cj:AV} {g:FuncId} {cap:List AV} (ct:List Int) (eD:Int) (P:Nat→Int) (lH:bT h .i64 3 cj ct) (hP:∀j,j<ct.length→∀aV hh,Tidy hh→Has h hh→bT hh .i64 3 aV (ct.take j)→cA d (.fn g) (aV:: .int .i64 (ct.g j)::cap) hh= .ret (.int .i64 (P j)) hh) (bM:Tidy h):cA (d+1) (.fn 124) [cj,(Zi eD),(AV.func g [] cap)] h= .ret (Zi (cP ct eD P)) h:=by
 have gd:=lH.len
 have gK:=fun {al ps} (k:Pk al _ ps)=>(CN 2<|VV gd<|CC<|VV (gz 3 false false .i64 ((ct.length:Nat):Int) eD)<|k:Pk _ [] ps)
 rcases bu (decide (eD<((ct.length:Nat):Int))) with f0 | f0
 · have e:cP ct eD P=3:=by simp only[cP,f0,ao,ai]
   rw[e]
   exact aG rfl (aY Tryz.func124 pY rfl (.inr rfl) (pk (d) _ _ h _ h (gK<|BC f0<|ZZ) k!) k!) (Has.refl _) rfl
 · have ML:=lH.len
   have JC:=rO (d:=d) (h:=h) cj g cap ct P lH hP ct.length 0 o! (dr (cj::(Zi eD)::(AV.func g [] cap)::aL::aL::aL::(Zi 0)::aL::aL::aL::cj::(Zn ct.length)::(Zi eD)::(AV.bool (decide (eD<((ct.length:Nat):Int))))::cj::(Zn ct.length)::(Zi 0)::iW 14)) h bM (Has.refl _)
   cases dX:fD P ct ct.length 0 with
   | none=>
    obtain ⟨Dl,h5,ep,jf⟩:=aC.n dX JC
    have fO:=jf.a
    have e:cP ct eD P=0:=by simp only[cP,f0,dX,ao,ai]
    rw[e]
    exact aG rfl (aY Tryz.func124 pY rfl (.inr rfl) (pk (d) _ _ h _ h5 (gK<|BC f0<|VV ML<|CC<|LL ep<|CC<|ZZ) k!) k!) fO rfl
   | some Bz=>
    obtain ⟨Dl,h5,ep,jf⟩:=aC.r dX JC
    have fO:=jf.a
    have e:cP ct eD P=Bz:=by simp only[cP,f0,dX,ao,ai]
    rw[e]
    exact aG rfl (aY Tryz.func124 pY rfl (.inr rfl) (pk (d) _ _ h _ h5 (gK<|BC f0<|VV ML<|CC<|LL ep<|ZZ) k!) k!) fO rfl
def rP:Code:=(Tryz.f127.body).getD .skip
theorem pZ:Tryz.f127.body=some rP:=by kernel_rfl
def BA:Code:=(bl rP).getD 0 .skip
def fE (P:Nat→Int) (ct:List ko):Nat→Nat→Option (Int)
 | 0,_=>none
 | dx+1,i0=>(bif (!decide ((P i0)=0)) then some (P i0) else fE P ct dx (i0+1))
theorem rQ {d:Nat} {h:az} (cj:AV) (g:FuncId) (cap:List AV) (ct:List ko) (P:Nat→Int) (bp:aO h cj ct) (hP:∀j,j<ct.length→∀aV hh,Tidy hh→Has h hh→aO hh aV (ct.take j)→cA d (.fn g) (aV:: .agg (aK.c (ct.g j))::cap) hh= .ret (.int .i64 (P j)) hh):∀(k_ i_:Nat) (_:i_+k_=ct.length) (x:Nat→AV) (hh:az) (aF:Tidy hh) (aA:Has h hh),aC (cA (d)) BA ⟨(cj::(x 1)::(AV.func g [] cap)::rx x 3 11 (cj::(Zn ct.length)::(Zn i_)::rx x 17 14 [])),hh,[],.no⟩ (.exit 0) hh (fun y=>(cj::(y 1)::(AV.func g [] cap)::rx y 3 11 (cj::(Zn ct.length)::rx y 16 15 []))) (fun r y=>(cj::(y 1)::(AV.func g [] cap)::rx y 3 3 ((Zi r)::rx y 7 7 (cj::(Zn ct.length)::rx y 16 15 [])))) (fE P ct k_ i_)
 | 0,i0,eZ,x,hh,aF,aA=>by
  have q1:(decide (((i0:Nat):Int)<((ct.length:Nat):Int)))=false:=d!
  exact aC.out rfl (pk (d) _ _ hh _ hh (VV (bE 3 false false .i64 ((i0:Nat):Int) ((ct.length:Nat):Int))<|BB q1<|ZZ) k!) (Grow.refl aF) k!
 | dx+1,i0,eZ,x,hh,aF,aA=>by
  have gN:=bp.small
  have q1:(decide (((i0:Nat):Int)<((ct.length:Nat):Int)))=true:=d!
  obtain ⟨p3,q4,gh⟩:=(bp.has aA).elem (i:=i0) o!
  have kN:=(bp.has aA).load o! gh
  obtain ⟨h6,kV,ig,uz,jc,bB⟩:=gQ aF (aN.cells [(Zi 0),(Zi 0)] 50 false)
  have gL:=bB
  obtain ⟨h7,jw,dM,r5,dS,aX⟩:=j_ (t:=50) (n:=2) (i:=hh.nx) (L:=[(Zi (ct.g i0).ah),(Zi (ct.g i0).aI)]) ig jc k! rfl rfl rfl
  have cV:=Has.bK gL aX aF o!
  obtain ⟨r8,aka,akb⟩:=(bp.has aA).pre (t:=46) k! (i:=i0) o!
  have sl9:iY env 46 cj (none) (some (Zn i0)) (none)=some r8:=aka
  have k11:=hP i0 o! r8 h7 dM (aA.trans cV) (akb.has cV)
  have c12:AV.same 20 (AV.agg [(Zi (ct.g i0).ah),(Zi (ct.g i0).aI)]) (AV.agg [(Zi (ct.g i0).ah),(Zi (ct.g i0).aI)])=true:=dK 18 (kK (fun n=>aS n _ _) (kK (fun n=>aS n _ _) CK))
  have ei:=fun {al ps} (k:Pk al _ ps)=>(VV (bE 3 false false .i64 ((i0:Nat):Int) ((ct.length:Nat):Int))<|BC q1<|VV gh<|MM kN<|NN kV (fun i=>(Pt i))<|CC<|SS jw<|CN 3<|QQ sl9<|MM (aP 50 0 (AV.agg [(Zi (ct.g i0).ah),(Zi (ct.g i0).aI)]) dS k!)<|EE k11<|CC<|HH (aP 50 0 (AV.agg [(Zi (ct.g i0).ah),(Zi (ct.g i0).aI)]) dS k!)<|HH c12<|CC<|VV (kt 31 false true .i64 (P i0) 0)<|k:Pk _ [] ps)
  rcases bu (!decide ((P i0)=0)) with f1 | f1
  · have eB:=Eu f1
    exact aC.ret (P i0) (by simp only[fE,f1,ao,ai]) (pk (d) _ _ hh _ h7 (ei<|BB f1<|CN 2<|ZZ) k!) (⟨dM,cV,by omega⟩) k!
  · have eB:=Ew f1
    have u14:=eA 3 false true i0 1 o!
    exact aC.round (by simp only[fE,f1,ao,ai]) (pk (d) _ _ hh _ h7 (ei<|BV f1 u14<|CC<|ZZ) k!) (⟨dM,cV,by omega⟩) _ k! (fun x=>rQ cj g cap ct P bp hP dx (i0+1) o! x h7 dM (aA.trans cV))
def eM (ct:List ko) (eD:Int) (P:Nat→Int):Int:=(bif (decide (eD<((ct.length:Nat):Int))) then 3 else (match (fE P ct ct.length 0) with | none=>0 | some Bz=>Bz))
theorem E' {d:Nat} {h:az} {cj:AV} {g:FuncId} {cap:List AV} (ct:List ko) (eD:Int) (P:Nat→Int) (lH:aO h cj ct) (hP:∀j,j<ct.length→∀aV hh,Tidy hh→Has h hh→aO hh aV (ct.take j)→cA d (.fn g) (aV:: .agg (aK.c (ct.g j))::cap) hh= .ret (.int .i64 (P j)) hh) (bM:Tidy h):cA (d+1) (.fn 127) [cj,(Zi eD),(AV.func g [] cap)] h= .ret (Zi (eM ct eD P)) h:=by
 have gd:=lH.len
 have gK:=fun {al ps} (k:Pk al _ ps)=>(CN 2<|VV gd<|CC<|VV (gz 3 false false .i64 ((ct.length:Nat):Int) eD)<|k:Pk _ [] ps)
 rcases bu (decide (eD<((ct.length:Nat):Int))) with f0 | f0
 · have e:eM ct eD P=3:=by simp only[eM,f0,ao,ai]
   rw[e]
   exact aG rfl (aY Tryz.func127 pZ rfl (.inr rfl) (pk (d) _ _ h _ h (gK<|BC f0<|ZZ) k!) k!) (Has.refl _) rfl
 · have ML:=lH.len
   have JC:=rQ (d:=d) (h:=h) cj g cap ct P lH hP ct.length 0 o! (dr (cj::(Zi eD)::(AV.func g [] cap)::aL::aL::aL::(Zi 0)::aL::aL::aL::cj::(Zn ct.length)::(Zi eD)::(AV.bool (decide (eD<((ct.length:Nat):Int))))::cj::(Zn ct.length)::(Zi 0)::iW 14)) h bM (Has.refl _)
   cases dX:fE P ct ct.length 0 with
   | none=>
    obtain ⟨Dl,h5,ep,jf⟩:=aC.n dX JC
    have fO:=jf.a
    have e:eM ct eD P=0:=by simp only[eM,f0,dX,ao,ai]
    rw[e]
    exact aG rfl (aY Tryz.func127 pZ rfl (.inr rfl) (pk (d) _ _ h _ h5 (gK<|BC f0<|VV ML<|CC<|LL ep<|CC<|ZZ) k!) k!) fO rfl
   | some Bz=>
    obtain ⟨Dl,h5,ep,jf⟩:=aC.r dX JC
    have fO:=jf.a
    have e:eM ct eD P=Bz:=by simp only[eM,f0,dX,ao,ai]
    rw[e]
    exact aG rfl (aY Tryz.func127 pZ rfl (.inr rfl) (pk (d) _ _ h _ h5 (gK<|BC f0<|VV ML<|CC<|LL ep<|ZZ) k!) k!) fO rfl
def Dm:Code:=(Tryz.f123.body).getD .skip
theorem JD:Tryz.f123.body=some Dm:=by kernel_rfl
def fp (other:Task) (t:Task):Bool:=(decide (other.name=t.name))
theorem JE {d:Nat} {h:az} (other:Task) (t:Task) (tB:Nat) (WV:aK.ok h other) (h_t:aK.ok h t) (AD:h.get tB=some (.cells (aK.c t) 48 false)) (bM:Tidy h):cA (d+1) (.fn 123) [(AV.agg [(AV.str other.name),(Zi other.takes),other.bh,other.bo]),(Pt tB)] h= .ret (AV.bool (fp other t)) h:=by
 obtain ⟨h1,dw,de,jW,bx,ca⟩:=gQ bM (aN.cells [(AV.str other.name),(Zi other.takes),other.bh,other.bo] 48 false)
 have bD:=ca
 have e:fp other t=(decide (other.name=t.name)):=by simp only[fp,ao,ai]
 rw[e]
 exact aG rfl (aY Tryz.func123 JD rfl (.inr rfl) (pk (d) _ _ h _ h1 (NN dw (fun i=>(Pt i))<|CN 2<|MM (aP 9 0 (AV.str other.name) bx k!)<|CC<|MM (aP 9 0 (AV.str t.name) (ca _ _ AD) k!)<|VV (YK 9 false false other.name t.name)<|CC<|ZZ) k!) k!) bD rfl
def AI:Code:=(Tryz.f132.body).getD .skip
theorem JF:Tryz.f132.body=some AI:=by kernel_rfl
def OD:Code:=(bl AI).getD 0 .skip
def kf (s:List Int) (v:Int):Nat→Nat→Option (Int)
 | 0,_=>none
 | dx+1,i0=>(bif (decide (v=(s.g i0))) then some ((i0:Nat):Int) else kf s v dx (i0+1))
theorem AJ {d:Nat} {h:az} (sV:AV) (v:Int) (s:List Int) (bp:bT h .i64 3 sV s):∀(k_ i_:Nat) (_:i_+k_=s.length) (x:Nat→AV) (hh:az) (aF:Tidy hh) (aA:Has h hh),aC (cA (d)) OD ⟨(sV::(Zi v)::rx x 2 5 ((Zn s.length)::(Zn i_)::rx x 9 10 [])),hh,[],.no⟩ (.exit 0) hh (fun y=>(sV::(Zi v)::rx y 2 5 ((Zn s.length)::rx y 8 11 []))) (fun r y=>(sV::(Zi v)::(y 2)::(y 3)::(Zi r)::(y 5)::(y 6)::(Zn s.length)::rx y 8 11 [])) (kf s v k_ i_)
 | 0,i0,eZ,x,hh,aF,aA=>by
  have q1:(decide (((i0:Nat):Int)<((s.length:Nat):Int)))=false:=d!
  exact aC.out rfl (pk (d) _ _ hh _ hh (VV (bE 3 false false .i64 ((i0:Nat):Int) ((s.length:Nat):Int))<|BB q1<|ZZ) k!) (Grow.refl aF) k!
 | dx+1,i0,eZ,x,hh,aF,aA=>by
  have gN:=bp.small
  have q1:(decide (((i0:Nat):Int)<((s.length:Nat):Int)))=true:=d!
  obtain ⟨p3,q4,gh,_⟩:=(bp.has aA).elem (i:=i0) o!
  have kN:=(bp.has aA).load o! gh
  have ei:=fun {al ps} (k:Pk al _ ps)=>(VV (bE 3 false false .i64 ((i0:Nat):Int) ((s.length:Nat):Int))<|BB q1<|CN 5<|VV gh<|MM kN<|VV (Bo 3 false false .i64 v (s.g i0))<|k:Pk _ [] ps)
  rcases bu (decide (v=(s.g i0))) with f1 | f1
  · have eB:=jv f1
    exact aC.ret ((i0:Nat):Int) (by simp only[kf,f1,ao,ai]) (pk (d) _ _ hh _ hh (ei<|BB f1<|CN 2<|ZZ) k!) (Grow.refl aF) k!
  · have eB:=pK f1
    have u7:=eA 3 false true i0 1 o!
    exact aC.round (by simp only[kf,f1,ao,ai]) (pk (d) _ _ hh _ hh (ei<|BV f1 u7<|CC<|ZZ) k!) (Grow.refl aF) _ k! (fun x=>AJ sV v s bp dx (i0+1) o! x hh aF aA)
def ph (s:List Int) (v:Int):Int:=(match (kf s v s.length 0) with | none=>(-1) | some Am=>Am)
theorem Ur {d:Nat} {h:az} {sV:AV} (s:List Int) (v:Int) (Cg:bT h .i64 3 sV s) (bM:Tidy h):cA (d+1) (.fn 132) [sV,(Zi v)] h= .ret (Zi (ph s v)) h:=by
 have gd:=Cg.len
 have JG:=AJ (d:=d) (h:=h) sV v s Cg s.length 0 o! (dr (sV::(Zi v)::aL::aL::(Zi 0)::aL::sV::(Zn s.length)::(Zi 0)::iW 10)) h bM (Has.refl _)
 cases eu:kf s v s.length 0 with
 | none=>
  obtain ⟨HN,h3,dV,iC⟩:=aC.n eu JG
  have fl:=iC.a
  have e:ph s v=(-1):=by simp only[ph,eu,ao,ai]
  rw[e]
  exact aG rfl (aY Tryz.func132 JF rfl (.inr rfl) (pk (d) _ _ h _ h3 (CN 2<|VV gd<|CC<|LL dV<|CC<|ZZ) k!) k!) fl rfl
 | some Am=>
  obtain ⟨HN,h3,dV,iC⟩:=aC.r eu JG
  have fl:=iC.a
  have e:ph s v=Am:=by simp only[ph,eu,ao,ai]
  rw[e]
  exact aG rfl (aY Tryz.func132 JF rfl (.inr rfl) (pk (d) _ _ h _ h3 (CN 2<|VV gd<|CC<|LL dV<|ZZ) k!) k!) fl rfl
def Fe:Code:=(Tryz.f74.body).getD .skip
theorem Lv:Tryz.f74.body=some Fe:=by kernel_rfl
def kg (s:List Int) (v:Int):Bool:=(decide (0≤(ph s v)))
theorem Lw {d:Nat} {h:az} {sV:AV} (s:List Int) (v:Int) (Cg:bT h .i64 3 sV s) (bM:Tidy h):cA (d+2) (.fn 74) [sV,(Zi v)] h= .ret (AV.bool (kg s v)) h:=by
 have k1:=Ur (d:=d) s v Cg bM
 have e:kg s v=(decide (0≤(ph s v))):=by simp only[kg,ao,ai]
 rw[e]
 exact aG rfl (aY Tryz.func74 Lv rfl (.inr rfl) (pk (d+1) _ _ h _ h (CN 3<|EE k1<|VV (tA 3 false true .i64 (ph s v) 0)<|CC<|ZZ) k!) k!) (Has.refl _) rfl
def Ff:Code:=(Tryz.f126.body).getD .skip
theorem uI:Tryz.f126.body=some Ff:=by kernel_rfl
def fF (j:bP) (xw:List Int) (oS:Int):Int:=(bif (!(kY oS ((j.ab.length:Nat):Int))) then 7 else (bif (kg xw oS) then 6 else 0))
theorem Lx {d:Nat} {h:az} {pj:AV} (j:bP) (xw:List Int) (oS:Int) (b7:aK.ok h j) (pr:bT h .i64 3 pj xw) (bM:Tidy h):cA (d+3) (.fn 126) [(AV.agg [j.au,j.ar]),pj,(Zi oS)] h= .ret (Zi (fF j xw oS)) h:=by
 obtain ⟨h1,dw,de,jW,bx,ca⟩:=gQ bM (aN.cells [j.au,j.ar] 25 false)
 have bD:=ca
 have JH:=b7.1.len
 have k3:=JB (d:=d+1) oS ((j.ab.length:Nat):Int) de
 have ei:=fun {al ps} (k:Pk al _ ps)=>(NN dw (fun i=>(Pt i))<|CN 3<|MM (aP 22 0 j.au bx k!)<|VV JH<|EE k3<|CN 2<|k:Pk _ [] ps)
 rcases bu (!(kY oS ((j.ab.length:Nat):Int))) with f0 | f0
 · have e:fF j xw oS=7:=by simp only[fF,f0,ao,ai]
   rw[e]
   exact aG rfl (aY Tryz.func126 uI rfl (.inr rfl) (pk (d+2) _ _ h _ h1 (ei<|BC f0<|ZZ) k!) k!) bD rfl
 · have k5:=Lw (d:=d) xw oS (pr.has bD) de
   rcases bu (kg xw oS) with f1 | f1
   · have e:fF j xw oS=6:=by simp only[fF,f0,f1,ao,ai]
     rw[e]
     exact aG rfl (aY Tryz.func126 uI rfl (.inr rfl) (pk (d+2) _ _ h _ h1 (ei<|BB f0<|CN 2<|EE k5<|CC<|BC f1<|ZZ) k!) k!) bD rfl
   · have e:fF j xw oS=0:=by simp only[fF,f0,f1,ao,ai]
     rw[e]
     exact aG rfl (aY Tryz.func126 uI rfl (.inr rfl) (pk (d+2) _ _ h _ h1 (ei<|BB f0<|CN 2<|EE k5<|CC<|BC f1<|ZZ) k!) k!) bD rfl
def Dn:Code:=(Tryz.f125.body).getD .skip
theorem JI:Tryz.f125.body=some Dn:=by kernel_rfl
def cI (xw:List Int) (oS:Int) (j:bP):Int:=(fF j xw oS)
theorem JJ {d:Nat} {h:az} {pj:AV} (xw:List Int) (oS:Int) (j:bP) (jB:Nat) (pr:bT h .i64 3 pj xw) (b7:aK.ok h j) (g_j:h.get jB=some (.cells (aK.c j) 25 false)) (bM:Tidy h):cA (d+4) (.fn 125) [pj,(Zi oS),(Pt jB)] h= .ret (Zi (cI xw oS j)) h:=by
 have k1:=Lx (d:=d) j xw oS b7 pr bM
 have e:cI xw oS j=(fF j xw oS):=by simp only[cI,ao,ai]
 rw[e]
 exact aG rfl (aY Tryz.func125 JI rfl (.inr rfl) (pk (d+3) _ _ h _ h (CC<|MM (aP 25 0 (AV.agg [j.au,j.ar]) g_j k!)<|CN 2<|EE k1<|CC<|ZZ) k!) k!) (Has.refl _) rfl
def Fg:Code:=(Tryz.f159.body).getD .skip
theorem Ly:Tryz.f159.body=some Fg:=by kernel_rfl
def lA (other:ko) (u:ko):Bool:=(decide (other.ah=u.ah))
theorem Lz {d:Nat} {h:az} (other:ko) (u:ko) (uB:Nat) (WV:aK.ok h other) (h_u:aK.ok h u) (g_u:h.get uB=some (.cells (aK.c u) 50 false)) (bM:Tidy h):cA (d+1) (.fn 159) [(AV.agg [(Zi other.ah),(Zi other.aI)]),(Pt uB)] h= .ret (AV.bool (lA other u)) h:=by
 obtain ⟨h1,dw,de,jW,bx,ca⟩:=gQ bM (aN.cells [(Zi other.ah),(Zi other.aI)] 50 false)
 have bD:=ca
 have e:lA other u=(decide (other.ah=u.ah)):=by simp only[lA,ao,ai]
 rw[e]
 exact aG rfl (aY Tryz.func159 Ly rfl (.inr rfl) (pk (d) _ _ h _ h1 (NN dw (fun i=>(Pt i))<|CN 2<|MM (aP 3 0 (Zi other.ah) bx k!)<|CC<|MM (aP 3 0 (Zi u.ah) (ca _ _ g_u) k!)<|VV (Bo 3 false false .i64 other.ah u.ah)<|CC<|ZZ) k!) k!) bD rfl
def xy:Code:=(Tryz.f135.body).getD .skip
theorem Dp:Tryz.f135.body=some xy:=by kernel_rfl
def JK:Code:=(bl xy).getD 0 .skip
def hQ (s:List ko) (P:ko→Bool):Nat→Nat→Option (Int)
 | 0,_=>none
 | dx+1,i0=>(bif (P (s.g i0)) then some ((i0:Nat):Int) else hQ s P dx (i0+1))
theorem xz {d:Nat} {h:az} (sV:AV) (g:FuncId) (cap:List AV) (s:List ko) (P:ko→Bool) (bp:aO h sV s) (hP:∀y∈s,∀hh,Tidy hh→Has h hh→cA d (.fn g) (.agg (aK.c y)::cap) hh= .ret (.bool (P y)) hh):∀(k_ i_:Nat) (_:i_+k_=s.length) (x:Nat→AV) (hh:az) (aF:Tidy hh) (aA:Has h hh),aC (cA (d)) JK ⟨(sV::(AV.func g [] cap)::rx x 2 5 ((Zn s.length)::(Zn i_)::rx x 9 10 [])),hh,[],.no⟩ (.exit 0) hh (fun y=>(sV::(AV.func g [] cap)::rx y 2 5 ((Zn s.length)::rx y 8 11 []))) (fun r y=>(sV::(AV.func g [] cap)::(y 2)::(y 3)::(Zi r)::(y 5)::(y 6)::(Zn s.length)::rx y 8 11 [])) (hQ s P k_ i_)
 | 0,i0,eZ,x,hh,aF,aA=>by
  have q1:(decide (((i0:Nat):Int)<((s.length:Nat):Int)))=false:=d!
  exact aC.out rfl (pk (d) _ _ hh _ hh (VV (bE 3 false false .i64 ((i0:Nat):Int) ((s.length:Nat):Int))<|BB q1<|ZZ) k!) (Grow.refl aF) k!
 | dx+1,i0,eZ,x,hh,aF,aA=>by
  have gN:=bp.small
  have q1:(decide (((i0:Nat):Int)<((s.length:Nat):Int)))=true:=d!
  obtain ⟨p3,q4,gh⟩:=(bp.has aA).elem (i:=i0) o!
  have kN:=(bp.has aA).load o! gh
  have k6:=hP (s.g i0) (oF o!) hh aF aA
  have ei:=fun {al ps} (k:Pk al _ ps)=>(VV (bE 3 false false .i64 ((i0:Nat):Int) ((s.length:Nat):Int))<|BB q1<|CN 5<|VV gh<|MM kN<|EE k6<|k:Pk _ [] ps)
  rcases bu (P (s.g i0)) with f1 | f1
  · exact aC.ret ((i0:Nat):Int) (by simp only[hQ,f1,ao,ai]) (pk (d) _ _ hh _ hh (ei<|BB f1<|CN 2<|ZZ) k!) (Grow.refl aF) k!
  · have u8:=eA 3 false true i0 1 o!
    exact aC.round (by simp only[hQ,f1,ao,ai]) (pk (d) _ _ hh _ hh (ei<|BV f1 u8<|CC<|ZZ) k!) (Grow.refl aF) _ k! (fun x=>xz sV g cap s P bp hP dx (i0+1) o! x hh aF aA)
def lI (s:List ko) (P:ko→Bool):Int:=(match (hQ s P s.length 0) with | none=>(-1) | some Am=>Am)
theorem OE {d:Nat} {h:az} {sV:AV} {g:FuncId} {cap:List AV} (s:List ko) (P:ko→Bool) (Cg:aO h sV s) (hP:∀y∈s,∀hh,Tidy hh→Has h hh→cA d (.fn g) (.agg (aK.c y)::cap) hh= .ret (.bool (P y)) hh) (bM:Tidy h):cA (d+1) (.fn 135) [sV,(AV.func g [] cap)] h= .ret (Zi (lI s P)) h:=by
 have gd:=Cg.len
 have JG:=xz (d:=d) (h:=h) sV g cap s P Cg hP s.length 0 o! (dr (sV::(AV.func g [] cap)::aL::aL::(Zi 0)::aL::sV::(Zn s.length)::(Zi 0)::iW 10)) h bM (Has.refl _)
 cases eu:hQ s P s.length 0 with
 | none=>
  obtain ⟨HN,h3,dV,iC⟩:=aC.n eu JG
  have fl:=iC.a
  have e:lI s P=(-1):=by simp only[lI,eu,ao,ai]
  rw[e]
  exact aG rfl (aY Tryz.func135 Dp rfl (.inr rfl) (pk (d) _ _ h _ h3 (CN 2<|VV gd<|CC<|LL dV<|CC<|ZZ) k!) k!) fl rfl
 | some Am=>
  obtain ⟨HN,h3,dV,iC⟩:=aC.r eu JG
  have fl:=iC.a
  have e:lI s P=Am:=by simp only[lI,eu,ao,ai]
  rw[e]
  exact aG rfl (aY Tryz.func135 Dp rfl (.inr rfl) (pk (d) _ _ h _ h3 (CN 2<|VV gd<|CC<|LL dV<|ZZ) k!) k!) fl rfl
def BD:Code:=(Tryz.f81.body).getD .skip
theorem Hd:Tryz.f81.body=some BD:=by kernel_rfl
def fi (s:List ko) (P:ko→Bool):Bool:=(decide (0≤(lI s P)))
theorem xA {d:Nat} {h:az} {sV:AV} {g:FuncId} {cap:List AV} (s:List ko) (P:ko→Bool) (Cg:aO h sV s) (hP:∀y∈s,∀hh,Tidy hh→Has h hh→cA d (.fn g) (.agg (aK.c y)::cap) hh= .ret (.bool (P y)) hh) (bM:Tidy h):cA (d+2) (.fn 81) [sV,(AV.func g [] cap)] h= .ret (AV.bool (fi s P)) h:=by
 have k1:=OE (d:=d) s P Cg hP bM
 have e:fi s P=(decide (0≤(lI s P))):=by simp only[fi,ao,ai]
 rw[e]
 exact aG rfl (aY Tryz.func81 Hd rfl (.inr rfl) (pk (d+1) _ _ h _ h (CN 3<|EE k1<|VV (tA 3 false true .i64 (lI s P) 0)<|CC<|ZZ) k!) k!) (Has.refl _) rfl
def He:Code:=(Tryz.f129.body).getD .skip
theorem mS:Tryz.f129.body=some He:=by kernel_rfl
def dO (j:bP) (xw:List ko) (u:ko):Int:=(bif (!(kY u.ah ((j.af.length:Nat):Int))) then 7 else (bif (fi xw (fun y=>lA y u)) then 6 else (bif (decide (u.aI<1)) then 1 else (bif (decide (1000<u.aI)) then 1 else (bif (decide ((j.af.g u.ah.toNat).aI<u.aI)) then 9 else 0)))))
theorem OG {d:Nat} {h:az} {pj:AV} (j:bP) (xw:List ko) (u:ko) (b7:aK.ok h j) (pr:aO h pj xw) (h_u:aK.ok h u) (bM:Tidy h):cA (d+4) (.fn 129) [(AV.agg [j.au,j.ar]),pj,(AV.agg [(Zi u.ah),(Zi u.aI)])] h= .ret (Zi (dO j xw u)) h:=by
 have akc:=pr.small
 have l7:=b7.1.small
 have l8:=b7.2.small
 obtain ⟨h1,dw,de,jW,bx,ca⟩:=gQ bM (aN.cells [j.au,j.ar] 25 false)
 have bD:=ca
 obtain ⟨h2,r7,mN,I4,ka,iM⟩:=gQ de (aN.cells [(Zi u.ah),(Zi u.aI)] 50 false)
 have gm:=bD.trans iM
 have ML:=b7.2.len
 have k4:=JB (d:=d+2) u.ah ((j.af.length:Nat):Int) mN
 have ei:=fun {al ps} (k:Pk al _ ps)=>(NN dw (fun i=>(Pt i))<|NN r7 (fun i=>(Pt i))<|CN 2<|MM (aP 3 0 (Zi u.ah) ka k!)<|CC<|MM (aP 23 1 j.ar (iM _ _ bx) k!)<|VV ML<|EE k4<|CN 2<|k:Pk _ [] ps)
 rcases bu (!(kY u.ah ((j.af.length:Nat):Int))) with f0 | f0
 · have e:dO j xw u=7:=by simp only[dO,f0,ao,ai]
   rw[e]
   exact aG rfl (aY Tryz.func129 mS rfl (.inr rfl) (pk (d+3) _ _ h _ h2 (ei<|BC f0<|ZZ) k!) k!) gm rfl
 · have arJ:(kY u.ah ((j.af.length:Nat):Int))=true:=d!
   have aqc:=zT arJ
   have k6:=xA (d:=d+1) xw (fun y=>lA y u) (pr.has gm) (fun y hy hh yy aa=>Lz (d:=d) y u h1.nx (aK.mono aa ((pr.has gm).Te y hy)) (aK.mono aa trivial) (aa _ _ ka) yy) mN
   have gK:=fun {al ps} (k:Pk al _ ps)=>(ei<|BB f0<|CN 2<|EE k6<|CC<|k:Pk _ [] ps)
   rcases bu (fi xw (fun y=>lA y u)) with f1 | f1
   · have e:dO j xw u=6:=by simp only[dO,f0,f1,ao,ai]
     rw[e]
     exact aG rfl (aY Tryz.func129 mS rfl (.inr rfl) (pk (d+3) _ _ h _ h2 (gK<|BC f1<|ZZ) k!) k!) gm rfl
   · have n9:=fun {al ps} (k:Pk al _ ps)=>(gK<|BC f1<|MM (aP 3 1 (Zi u.aI) ka k!)<|VV (bE 3 false true .i64 u.aI 1)<|CC<|k:Pk _ [] ps)
     rcases bu (decide (u.aI<1)) with f2 | f2
     · have pX:=jv f2
       have e:dO j xw u=1:=by simp only[dO,f0,f1,f2,ao,ai]
       rw[e]
       exact aG rfl (aY Tryz.func129 mS rfl (.inr rfl) (pk (d+3) _ _ h _ h2 (n9<|BB f2<|BB f2<|BV f2 (tR true f2)<|CC<|TT<|CC<|ZZ) k!) k!) gm rfl
     · have pX:=pK f2
       have s5:=fun {al ps} (k:Pk al _ ps)=>(n9<|BC f2<|BM f2 (aP 3 1 (Zi u.aI) ka k!)<|BV f2 (gz 3 false true .i64 u.aI 1000)<|VV (dD (a:=some (AV.bool true)) (b:=some (AV.bool (decide (1000<u.aI)))) f2)<|CC<|k:Pk _ [] ps)
       rcases bu (decide (1000<u.aI)) with f3 | f3
       · have tF:=jv f3
         have e:dO j xw u=1:=by simp only[dO,f0,f1,f2,f3,ao,ai]
         rw[e]
         exact aG rfl (aY Tryz.func129 mS rfl (.inr rfl) (pk (d+3) _ _ h _ h2 (s5<|BC f3<|ZZ) k!) k!) gm rfl
       · have tF:=pK f3
         obtain ⟨p11,q12,ais⟩:=b7.2.elem (i:=u.ah.toNat) o!
         have Rx:=xn ais o!
         have ack:=(b7.2.has gm).part (t:=3) (j:=1) o! ais k! rfl
         have WL:=b7.2.same 19
         have vR:=fun {al ps} (k:Pk al _ ps)=>(s5<|BC f3<|MM (aP 3 1 (Zi u.aI) ka k!)<|CC<|MM (aP 23 1 j.ar (iM _ _ bx) k!)<|CC<|MM (aP 3 0 (Zi u.ah) ka k!)<|VV Rx<|CC<|MM ack<|VV (gz 3 false false .i64 u.aI (j.af.g u.ah.toNat).aI)<|CC<|HH (aP 3 1 (Zi u.aI) ka k!)<|HH (show AV.same 20 (Zi u.aI) (Zi u.aI)=true from aS 19 _ _)<|HH (aP 23 1 j.ar (iM _ _ bx) k!)<|HH WL<|HH (aP 3 0 (Zi u.ah) ka k!)<|HH (show AV.same 20 (Zi u.ah) (Zi u.ah)=true from aS 19 _ _)<|HH ack<|HH (show AV.same 20 (Zi (j.af.g u.ah.toNat).aI) (Zi (j.af.g u.ah.toNat).aI)=true from aS 19 _ _)<|k:Pk _ [] ps)
         rcases bu (decide ((j.af.g u.ah.toNat).aI<u.aI)) with f4 | f4
         · have e:dO j xw u=9:=by simp only[dO,f0,f1,f2,f3,f4,ao,ai]
           rw[e]
           exact aG rfl (aY Tryz.func129 mS rfl (.inr rfl) (pk (d+3) _ _ h _ h2 (vR<|BC f4<|ZZ) k!) k!) gm rfl
         · have e:dO j xw u=0:=by simp only[dO,f0,f1,f2,f3,f4,ao,ai]
           rw[e]
           exact aG rfl (aY Tryz.func129 mS rfl (.inr rfl) (pk (d+3) _ _ h _ h2 (vR<|BC f4<|ZZ) k!) k!) gm rfl
def Dq:Code:=(Tryz.f128.body).getD .skip
theorem JL:Tryz.f128.body=some Dq:=by kernel_rfl
def eU (xw:List ko) (u:ko) (j:bP):Int:=(dO j xw u)
theorem JM {d:Nat} {h:az} {pj:AV} (xw:List ko) (u:ko) (j:bP) (jB:Nat) (pr:aO h pj xw) (h_u:aK.ok h u) (b7:aK.ok h j) (g_j:h.get jB=some (.cells (aK.c j) 25 false)) (bM:Tidy h):cA (d+5) (.fn 128) [pj,(AV.agg [(Zi u.ah),(Zi u.aI)]),(Pt jB)] h= .ret (Zi (eU xw u j)) h:=by
 obtain ⟨h1,dw,de,jW,bx,ca⟩:=gQ bM (aN.cells [(Zi u.ah),(Zi u.aI)] 50 false)
 have bD:=ca
 have k2:=OG (d:=d) j xw u (aK.mono bD b7) (pr.has bD) trivial de
 have e:eU xw u j=(dO j xw u):=by simp only[eU,ao,ai]
 rw[e]
 exact aG rfl (aY Tryz.func128 JL rfl (.inr rfl) (pk (d+4) _ _ h _ h1 (NN dw (fun i=>(Pt i))<|CC<|MM (aP 25 0 (AV.agg [j.au,j.ar]) (ca _ _ g_j) k!)<|CC<|MM (aP 50 0 (AV.agg [(Zi u.ah),(Zi u.aI)]) bx k!)<|EE k2<|CC<|ZZ) k!) k!) bD rfl
def vl:Code:=(Tryz.f158.body).getD .skip
theorem AK:Tryz.f158.body=some vl:=by kernel_rfl
def Hf:Code:=(bl vl).getD 0 .skip
def ef (s:List Task) (P:Task→Bool):Nat→Nat→Option (Int)
 | 0,_=>none
 | dx+1,i0=>(bif (P (s.g i0)) then some ((i0:Nat):Int) else ef s P dx (i0+1))
theorem vm {d:Nat} {h:az} (sV:AV) (g:FuncId) (cap:List AV) (s:List Task) (P:Task→Bool) (bp:aO h sV s) (hP:∀y∈s,∀hh,Tidy hh→Has h hh→cA d (.fn g) (.agg (aK.c y)::cap) hh= .ret (.bool (P y)) hh):∀(k_ i_:Nat) (_:i_+k_=s.length) (x:Nat→AV) (hh:az) (aF:Tidy hh) (aA:Has h hh),aC (cA (d)) Hf ⟨(sV::(AV.func g [] cap)::rx x 2 5 ((Zn s.length)::(Zn i_)::rx x 9 10 [])),hh,[],.no⟩ (.exit 0) hh (fun y=>(sV::(AV.func g [] cap)::rx y 2 5 ((Zn s.length)::rx y 8 11 []))) (fun r y=>(sV::(AV.func g [] cap)::(y 2)::(y 3)::(Zi r)::(y 5)::(y 6)::(Zn s.length)::rx y 8 11 [])) (ef s P k_ i_)
 | 0,i0,eZ,x,hh,aF,aA=>by
  have q1:(decide (((i0:Nat):Int)<((s.length:Nat):Int)))=false:=d!
  exact aC.out rfl (pk (d) _ _ hh _ hh (VV (bE 3 false false .i64 ((i0:Nat):Int) ((s.length:Nat):Int))<|BB q1<|ZZ) k!) (Grow.refl aF) k!
 | dx+1,i0,eZ,x,hh,aF,aA=>by
  have gN:=bp.small
  have q1:(decide (((i0:Nat):Int)<((s.length:Nat):Int)))=true:=d!
  obtain ⟨p3,q4,gh⟩:=(bp.has aA).elem (i:=i0) o!
  have kN:=(bp.has aA).load o! gh
  have k6:=hP (s.g i0) (oF o!) hh aF aA
  have ei:=fun {al ps} (k:Pk al _ ps)=>(VV (bE 3 false false .i64 ((i0:Nat):Int) ((s.length:Nat):Int))<|BB q1<|CN 5<|VV gh<|MM kN<|EE k6<|k:Pk _ [] ps)
  rcases bu (P (s.g i0)) with f1 | f1
  · exact aC.ret ((i0:Nat):Int) (by simp only[ef,f1,ao,ai]) (pk (d) _ _ hh _ hh (ei<|BB f1<|CN 2<|ZZ) k!) (Grow.refl aF) k!
  · have u8:=eA 3 false true i0 1 o!
    exact aC.round (by simp only[ef,f1,ao,ai]) (pk (d) _ _ hh _ hh (ei<|BV f1 u8<|CC<|ZZ) k!) (Grow.refl aF) _ k! (fun x=>vm sV g cap s P bp hP dx (i0+1) o! x hh aF aA)
def ik (s:List Task) (P:Task→Bool):Int:=(match (ef s P s.length 0) with | none=>(-1) | some Am=>Am)
theorem LA {d:Nat} {h:az} {sV:AV} {g:FuncId} {cap:List AV} (s:List Task) (P:Task→Bool) (Cg:aO h sV s) (hP:∀y∈s,∀hh,Tidy hh→Has h hh→cA d (.fn g) (.agg (aK.c y)::cap) hh= .ret (.bool (P y)) hh) (bM:Tidy h):cA (d+1) (.fn 158) [sV,(AV.func g [] cap)] h= .ret (Zi (ik s P)) h:=by
 have gd:=Cg.len
 have JG:=vm (d:=d) (h:=h) sV g cap s P Cg hP s.length 0 o! (dr (sV::(AV.func g [] cap)::aL::aL::(Zi 0)::aL::sV::(Zn s.length)::(Zi 0)::iW 10)) h bM (Has.refl _)
 cases eu:ef s P s.length 0 with
 | none=>
  obtain ⟨HN,h3,dV,iC⟩:=aC.n eu JG
  have fl:=iC.a
  have e:ik s P=(-1):=by simp only[ik,eu,ao,ai]
  rw[e]
  exact aG rfl (aY Tryz.func158 AK rfl (.inr rfl) (pk (d) _ _ h _ h3 (CN 2<|VV gd<|CC<|LL dV<|CC<|ZZ) k!) k!) fl rfl
 | some Am=>
  obtain ⟨HN,h3,dV,iC⟩:=aC.r eu JG
  have fl:=iC.a
  have e:ik s P=Am:=by simp only[ik,eu,ao,ai]
  rw[e]
  exact aG rfl (aY Tryz.func158 AK rfl (.inr rfl) (pk (d) _ _ h _ h3 (CN 2<|VV gd<|CC<|LL dV<|ZZ) k!) k!) fl rfl
end
end Go.Proofs.aM
