import Derived.Test.YtogcojohajankaaGreatW8
import Derived.Test.YtogcojohajankaaGreatW9
import Derived.Test.YtogcojohajankaaGreatW0
import Derived.Test.YtogcojohajankaaGreatW1
import Derived.Test.YtogcojohajankaaGreatW2
import Derived.Test.YtogcojohajankaaGreatW3
namespace Go.Proofs.aJ
open Go.Proofs Ab
set_option maxRecDepth 100000
set_option maxHeartbeats 4000000
set_option linter.unusedVariables false
set_option linter.unusedSimpArgs false
theorem Oq {P:Nat→Int→Int} {n:Nat} (hB:∀i,i<n→∀f:Int,0≤f→f≤1000000→P i f≤1000000) {bad:Int→Prop} (hs:∀i,i<n→∀f m:Int,0≤f→f≤1000000→f≤m→m<P i f→bad m):∀(k:Nat) (f:Int),0≤f→f≤1000000→1000001 - f≤k→(∀q,q<n→P q (QM P n k f)≤QM P n k f)∧(∀m,f≤m→m<QM P n k f→bad m)
 | 0,f,a,b,c=>by omega
 | k+1,f,a,b,c=>by
   rw[QM]
   cases e:Vg P f n 0 with
   | none=>exact ⟨fun q hq=>Oj e q (Nat.zero_le _) o!,fun m x (y:m<f)=>by omega⟩
   | some r=>
     obtain ⟨q,_,hq,er,g⟩:=Bd e
     have:=hB q o! f a b
     have ih:=Oq hB hs k r o! o! o!
     refine ⟨ih.1,fun m x y=>?_⟩
     by_cases z:m<r
     · exact hs q o! f m a b x o!
     · exact ih.2 m o! y
theorem acr {P:Nat→Int→Int} {n:Nat} (hB:∀i,i<n→∀f:Int,0≤f→f≤1000000→P i f≤1000000) {bad:Int→Prop} (hs:∀i,i<n→∀f m:Int,0≤f→f≤1000000→f≤m→m<P i f→bad m) {f:Int} (a:0≤f) (b:f≤1000000):(∀q,q<n→P q (fo n P f)≤fo n P f)∧(∀m,f≤m→m<fo n P f→bad m):=Oq hB hs _ f a b o!
section
variable {j:cG} {s:List Int} {p:List Bool}
theorem Bg (F:cu j) {T:List Tl} {k:Nat} (I:INV j p s k T) (hk:k≤64) {i u:Nat} (hi:i<j.ab.length) (hu:u<(j.ab.g i).au.length) {f:Int} (f0:0≤f) (f1:f≤1000000):
 f≤asks j T (i:Int) u f∧asks j T (i:Int) u f≤1000000∧((∀x,f≤x→x<asks j T (i:Int) u f→100001<x+(j.ab.g i).takes∨∃m,x≤m∧m<x+(j.ab.g i).takes∧¬Z8 j p s i u m)∨(j.ab.g i).takes=0)∧∀m,asks j T (i:Int) u f≤m→m<asks j T (i:Int) u f+(j.ab.g i).takes→m<100001→Z8 j p s i u m:=by
 have ur:=F.ur i hi u hu
 have um:=F.um i hi u hu
 have tk:=F.tk i hi
 have rs:=F.rs (Int.toNat ((j.ab.g i).au.g u).ah) o!
 obtain ⟨n,B,hn,lv,mk⟩:=I.2 (Int.toNat ((j.ab.g i).au.g u).ah) o!
 have sp:=P9 B.is (takes:=(j.ab.g i).takes) (pieces:=((j.ab.g i).au.g u).aB) f0 f1 tk.1 tk.2 B.f fun q hq=>by
  have:=B.u q hq
  omega
 rw[asks,Int.toNat_natCast,tF B.is.len]
 rw[mk] at sp
 refine ⟨sp.1,sp.2.2.2,?_,fun m a b c=>?_⟩
 · rcases sp.2.1 with h | h
   · refine .inl fun x a b=>?_
     rcases h x a b with g | ⟨m,g1,g2,g3,g4⟩
     · exact .inl g
     · refine .inr ⟨m,g1,g2,fun o=>?_⟩
       rw[lv m o!] at g4
       unfold Z8 at o
       omega
   · exact .inr h
 · have:=sp.2.2.1 m a b c
   rw[lv m o!] at this
   exact this
theorem afV (F:cu j) (T:Tm j s) {n:Int} (h0:0≤n) (h1:n<(j.ab.length:Int)):jo j s n=s.g (Int.toNat n)+(j.ab.g (Int.toNat n)).takes:=by
 have t:=T (Int.toNat n) o!
 have tk:=F.tk (Int.toNat n) o!
 rw[jo,wrap_i64 o! o!]
theorem acs {a b x:Int}:imax a b≤x↔a≤x∧b≤x:=by unfold imax;split<;>omega
theorem Ot (F:cu j) (T:Tm j s) {i:Nat} (hi:i<j.ab.length) (x:Int):∀(k a:Nat) (v:Int),a+k=(j.ab.g i).ax.length→(bE j s (i:Int) k a v≤x↔v≤x∧∀q,a≤q→q<a+k→s.g (Int.toNat ((j.ab.g i).ax.g q))+(j.ab.g (Int.toNat ((j.ab.g i).ax.g q))).takes≤x)
 | 0,a,v,h=>⟨fun z=>⟨z,fun q x y=>by omega⟩,fun z=>z.1⟩
 | k+1,a,v,h=>by
   have nb:=F.nb i hi a o!
   rw[bE,Int.toNat_natCast,afV F T nb.1 nb.2,Ot F T hi x k (a+1) _ o!,acs]
   refine ⟨fun z=>⟨z.1.1,fun q h1 h2=>?_⟩,fun z=>⟨⟨z.1,z.2 a (Nat.le_refl _) o!⟩,fun q h1 h2=>z.2 q o! o!⟩⟩
   by_cases e:q=a
   · rw[e];exact z.1.2
   · exact z.2 q o! o!
def UL (j:cG) (s:List Int) (T:List Tl) (i:Nat):Int:=fo (nq j (i:Int)) (asks j T (i:Int)) (bE j s (i:Int) (j.ab.g i).ax.length 0 0)
def Rdy (j:cG) (p:List Bool) (i:Nat):Prop:=∀q,q<(j.ab.g i).ax.length→p.g (Int.toNat ((j.ab.g i).ax.g q))=true
theorem UM (F:cu j) (T:Tm j s) {A:List Tl} {k:Nat} (I:INV j p s k A) (hk:k≤64) {i:Nat} (hi:i<j.ab.length) (rd:Rdy j p i):0≤UL j s A i∧(UL j s A i+(j.ab.g i).takes≤100000→cC j s p (i:Int) (UL j s A i)=true)∧∀x,cC j s p (i:Int) x=true→UL j s A i≤x:=by
 have tk:=F.tk i hi
 have f0:0≤bE j s (i:Int) (j.ab.g i).ax.length 0 0:=((Ot F T hi _ _ 0 0 (Nat.zero_add _)).1 (Int.le_refl _)).1
 have f1:bE j s (i:Int) (j.ab.g i).ax.length 0 0≤100000:=(Ot F T hi _ _ 0 0 (Nat.zero_add _)).2 ⟨by decide,fun q _ hq=>by
  have nb:=F.nb i hi q o!
  exact (T _ o!).2⟩
 have no:∀x,NO j p s i x↔∀q,0≤q→q<0+(j.ab.g i).ax.length→s.g (Int.toNat ((j.ab.g i).ax.g q))+(j.ab.g (Int.toNat ((j.ab.g i).ax.g q))).takes≤x:=fun x=>⟨fun h q _ hq=>h q o! (rd q o!),fun h q hq _=>h q (Nat.zero_le _) o!⟩
 have na:∀q,q<nq j (i:Int)→0<(j.ab.g i).takes∧q<(j.ab.g i).au.length:=fun q hq=>by
  unfold nq at hq
  rw[Int.toNat_natCast] at hq
  by_cases c:0<(j.ab.g i).takes
  · rw[decide_eq_true c] at hq;exact ⟨c,hq⟩
  · rw[decide_eq_false c] at hq;exact absurd hq (Nat.not_lt_zero _)
 obtain ⟨g1,g2⟩:=acr (P:=asks j A (i:Int)) (n:=nq j (i:Int)) (bad:=fun x=>x+(j.ab.g i).takes≤100000→¬RM j p s i x) (fun q hq f h0 h1=>(Bg F I hk hi (na q hq).2 h0 h1).2.1) (fun q hq f m h0 h1 h2 h3 h4 rm=>by
  have a:=Bg F I hk hi (na q hq).2 h0 h1
  rcases a.2.2.1 with b | b
  · rcases b m h2 h3 with c | ⟨m',c1,c2,c3⟩
    · omega
    · exact c3 (rm (na q hq).1 q (na q hq).2 m' c1 c2)
  · have:=(na q hq).1;omega) f0 (by omega:bE j s (i:Int) (j.ab.g i).ax.length 0 0≤1000000)
 have g3:=adD (P:=asks j A (i:Int)) (n:=nq j (i:Int)) (fun q hq f h0 h1=>(Bg F I hk hi (na q hq).2 h0 h1).2.1) f0 (by omega:bE j s (i:Int) (j.ab.g i).ax.length 0 0≤1000000)
 show 0≤fo _ _ _∧(fo _ _ _+_≤100000→cC j s p (i:Int) (fo _ _ _)=true)∧∀x,cC j s p (i:Int) x=true→fo _ _ _≤x
 generalize kB:fo (nq j (i:Int)) (asks j A (i:Int)) (bE j s (i:Int) (j.ab.g i).ax.length 0 0)=st at *
 refine ⟨by omega,fun h=>?_,fun x hx=>?_⟩
 · refine (Ba F T hi st).2 ⟨⟨by omega,h⟩,(no st).2 ((Ot F T hi st _ 0 0 (Nat.zero_add _)).1 g3.1).2,fun ht u hu m m0 m1=>?_⟩
   have hn:u<nq j (i:Int):=by
    unfold nq
    rw[Int.toNat_natCast,decide_eq_true ht];exact hu
   have a:=Bg F I hk hi hu (f:=st) o! g3.2
   have b:=g1 u hn
   exact a.2.2.2 m o! o! o!
 · obtain ⟨⟨x0,x1⟩,x2,x3⟩:=(Ba F T hi x).1 hx
   have:=(Ot F T hi x _ 0 0 (Nat.zero_add _)).2 ⟨x0,(no x).1 x2⟩
   by_cases z:x<st
   · exact absurd x3 (g2 x this z x1)
   · omega
def ald (j:cG) (p:List Bool) (s:List Int) (x:Int):Prop:=(∃q,q<j.ab.length∧p.g q=true∧x=s.g q+(j.ab.g q).takes)∨∃r o,r<j.af.length∧o<(j.af.g r).off.length∧x=((j.af.g r).off.g o).aN+1
theorem Ou {c m m':Int} (hc:0≤c):∀{l:List Span},(∀y∈l,y.bl≤m→m≤y.aN→y.bl≤m'∧m'≤y.aN)→Ge (l.map fun s=>(s,c)) m≤Ge (l.map fun s=>(s,c)) m'
 | [],_=>Int.le_refl _
 | y::l,h=>by
   have ih:=Ou hc (l:=l) fun z hz=>h z (.tail _ hz)
   have g:=h y (.head _)
   rw[List.map_cons,sG,sG,Va,Va]
   by_cases a:y.bl≤m∧m≤y.aN
   · rw[if_pos a,if_pos (g a.1 a.2)];omega
   · rw[if_neg a]
     split<;>omega
theorem acu (F:cu j) (T:Tm j s) {i:Nat} (hi:i<j.ab.length) {st:Int} (h0:0<st) (h1:cC j s p (i:Int) st=true) (h2:cC j s p (i:Int) (st - 1)=false):ald j p s st:=by
 obtain ⟨⟨a0,a1⟩,a2,a3⟩:=(Ba F T hi st).1 h1
 have tk:=F.tk i hi
 refine Classical.byContradiction fun nc=>?_
 have:cC j s p (i:Int) (st - 1)=true:=(Ba F T hi (st - 1)).2 ⟨⟨by omega,by omega⟩,fun q hq hp=>?_,fun ht u hu m m0 m1=>?_⟩
 · rw[this] at h2;cases h2
 · have:=a2 q hq hp
   by_cases z:s.g (Int.toNat ((j.ab.g i).ax.g q))+(j.ab.g (Int.toNat ((j.ab.g i).ax.g q))).takes=st
   · have nb:=F.nb i hi q hq
     exact absurd (.inl ⟨_,by omega,hp,z.symm⟩) nc
   · omega
 · by_cases z:st≤m
   · exact a3 ht u hu m z o!
   · have em:m=st - 1:=by omega
     have ur:=F.ur i hi u hu
     have rs:=F.rs (Int.toNat ((j.ab.g i).au.g u).ah) o!
     have k:=a3 ht u hu st (Int.le_refl _) o!
     have b:=Lu F (p:=p) (s:=s) (r:=Int.toNat ((j.ab.g i).au.g u).ah) (m:=m) (m':=st) fun q hq hp hc _=>by
      have c1:=hc.1
      have c2:=hc.2
      refine ⟨by omega,?_⟩
      by_cases w:s.g q+(j.ab.g q).takes=st
      · exact absurd (.inl ⟨q,hq,hp,w.symm⟩) nc
      · omega
     have c:=Ou (c:=(j.af.g (Int.toNat ((j.ab.g i).au.g u).ah)).aB) (m:=m) (m':=st) rs.2.2.1 (l:=(j.af.g (Int.toNat ((j.ab.g i).au.g u).ah)).off) fun y hy y0 y1=>by
      obtain ⟨o,ho,eo⟩:=x7 hy
      refine ⟨by omega,?_⟩
      by_cases w:y.aN+1=st
      · exact absurd (.inr ⟨_,o,by omega,ho,by rw[eo];exact w.symm⟩) nc
      · omega
     unfold Z8 Oe at k ⊢
     omega
def JG (j:cG) (s:List Int) (p:List Bool) (i:Int) (v x:Int):Int:=bif decide (0<x) then (bif decide (v<0) then (bif cC j s p i x then x else v) else (bif decide (x<v) then (bif cC j s p i x then x else v) else v)) else v
def Ivt (j:cG) (s:List Int) (p:List Bool) (i:Int) (v:Int):Prop:=v= -1∨(0<v∧cC j s p i v=true)
def Btr (v w:Int):Prop:=0≤v→0≤w∧w≤v
theorem Ov {i:Int} {v x:Int} (h:Ivt j s p i v):Ivt j s p i (JG j s p i v x)∧(0<x→cC j s p i x=true→0≤JG j s p i v x∧JG j s p i v x≤x)∧Btr v (JG j s p i v x):=by
 unfold JG
 by_cases a:0<x
 · rw[decide_eq_true a,cond_true]
   by_cases b:v<0
   · rw[decide_eq_true b,cond_true]
     cases f:cC j s p i x with
     | true=>exact ⟨.inr ⟨a,f⟩,fun _ _=>⟨by rw[cond_true];omega,Int.le_refl _⟩,fun z=>by omega⟩
     | false=>exact ⟨h,(fun _ z=>by cases z),fun z=>⟨z,Int.le_refl _⟩⟩
   · rw[decide_eq_false b,cond_false]
     by_cases c:x<v
     · rw[decide_eq_true c,cond_true]
       cases f:cC j s p i x with
       | true=>exact ⟨.inr ⟨a,f⟩,fun _ _=>⟨by rw[cond_true];omega,Int.le_refl _⟩,fun z=>⟨by rw[cond_true];omega,by rw[cond_true];omega⟩⟩
       | false=>exact ⟨h,(fun _ z=>by cases z),fun z=>⟨z,Int.le_refl _⟩⟩
     · rw[decide_eq_false c,cond_false]
       exact ⟨h,fun _ _=>⟨by omega,by omega⟩,fun z=>⟨z,Int.le_refl _⟩⟩
 · rw[decide_eq_false a,cond_false]
   exact ⟨h,fun z=>absurd z a,fun z=>⟨z,Int.le_refl _⟩⟩
theorem Btr.trans {u v w:Int} (a:Btr u v) (b:Btr v w):Btr u w:=fun h=>by have x:=a h;have y:=b x.1;exact ⟨y.1,by omega⟩
theorem SX (F:cu j) (T:Tm j s) {i:Int}:∀(k a:Nat) (v:Int),a+k=j.ab.length→Ivt j s p i v→Ivt j s p i (bF s j p 0 i k a v)∧(∀q,a≤q→q<a+k→p.g q=true→0<s.g q+(j.ab.g q).takes→cC j s p i (s.g q+(j.ab.g q).takes)=true→0≤bF s j p 0 i k a v∧bF s j p 0 i k a v≤s.g q+(j.ab.g q).takes)∧Btr v (bF s j p 0 i k a v)
 | 0,a,v,_,h=>⟨h,fun q x y=>by omega,fun z=>⟨z,Int.le_refl _⟩⟩
 | k+1,a,v,e,h=>by
   have t:=T a o!
   have tk:=F.tk a o!
   have st:bF s j p 0 i (k+1) a v=bF s j p 0 i k (a+1) (bif p.g a then JG j s p i v (s.g a+(j.ab.g a).takes) else v):=by
    rw[bF,wrap_i64 o! o!]
    unfold JG
    cases p.g a<;>cases decide (0<s.g a+(j.ab.g a).takes)<;>cases decide (v<0)<;>cases decide (s.g a+(j.ab.g a).takes<v)<;>cases cC j s p i (s.g a+(j.ab.g a).takes)<;>rfl
   rw[st]
   cases hp:p.g a with
   | false=>
     rw[cond_false]
     have ih:=SX F T k (a+1) v o! h
     refine ⟨ih.1,fun q h1 h2 h3=>?_,ih.2.2⟩
     by_cases z:q=a
     · rw[z,hp] at h3;cases h3
     · exact ih.2.1 q o! o! h3
   | true=>
     rw[cond_true]
     have u:=Ov (x:=s.g a+(j.ab.g a).takes) h
     have ih:=SX F T k (a+1) _ o! u.1
     refine ⟨ih.1,fun q h1 h2 h3 h4 h5=>?_,u.2.2.trans ih.2.2⟩
     by_cases z:q=a
     · rw[z] at h4 h5 ⊢
       have x:=u.2.1 h4 h5
       have y:=ih.2.2 x.1
       exact ⟨y.1,by omega⟩
     · exact ih.2.1 q o! o! h3 h4 h5
theorem adJ (F:cu j) {i:Int} {r:Nat} (hr:r<j.af.length):∀(k a:Nat) (v:Int),a+k=(j.af.g r).off.length→Ivt j s p i v→Ivt j s p i (ca j r 0 s p i k a v)∧(∀q,a≤q→q<a+k→0<((j.af.g r).off.g q).aN+1→cC j s p i (((j.af.g r).off.g q).aN+1)=true→0≤ca j r 0 s p i k a v∧ca j r 0 s p i k a v≤((j.af.g r).off.g q).aN+1)∧Btr v (ca j r 0 s p i k a v)
 | 0,a,v,_,h=>⟨h,fun q x y=>by omega,fun z=>⟨z,Int.le_refl _⟩⟩
 | k+1,a,v,e,h=>by
   have t:=(F.ro r hr).2 a o!
   have rs:=(F.rs r hr).1 a o!
   have st:ca j r 0 s p i (k+1) a v=ca j r 0 s p i k (a+1) (JG j s p i v (((j.af.g r).off.g a).aN+1)):=by
    rw[ca,wrap_i64 o! o!]
    unfold JG
    cases decide (0<((j.af.g r).off.g a).aN+1)<;>cases decide (v<0)<;>cases decide (((j.af.g r).off.g a).aN+1<v)<;>cases cC j s p i (((j.af.g r).off.g a).aN+1)<;>rfl
   rw[st]
   have u:=Ov (x:=((j.af.g r).off.g a).aN+1) h
   have ih:=adJ F hr k (a+1) _ o! u.1
   refine ⟨ih.1,fun q h1 h2 h4 h5=>?_,u.2.2.trans ih.2.2⟩
   by_cases z:q=a
   · rw[z] at h4 h5 ⊢
     have x:=u.2.1 h4 h5
     have y:=ih.2.2 x.1
     exact ⟨y.1,by omega⟩
   · exact ih.2.1 q o! o! h4 h5
theorem YV (F:cu j) {i:Int}:∀(k a:Nat) (v:Int),a+k=j.af.length→Ivt j s p i v→Ivt j s p i (eL j 0 s p i k a v)∧(∀r,a≤r→r<a+k→∀q,q<(j.af.g r).off.length→0<((j.af.g r).off.g q).aN+1→cC j s p i (((j.af.g r).off.g q).aN+1)=true→0≤eL j 0 s p i k a v∧eL j 0 s p i k a v≤((j.af.g r).off.g q).aN+1)∧Btr v (eL j 0 s p i k a v)
 | 0,a,v,_,h=>⟨h,fun q x y=>by omega,fun z=>⟨z,Int.le_refl _⟩⟩
 | k+1,a,v,e,h=>by
   rw[eL]
   have u:=adJ F (by omega:a<j.af.length) (j.af.g a).off.length 0 v (Nat.zero_add _) h
   have ih:=YV F k (a+1) _ o! u.1
   refine ⟨ih.1,fun r h1 h2 q hq h4 h5=>?_,u.2.2.trans ih.2.2⟩
   by_cases z:r=a
   · subst z
     have x:=u.2.1 q (Nat.zero_le _) o! h4 h5
     have y:=ih.2.2 x.1
     exact ⟨y.1,by omega⟩
   · exact ih.2.1 r o! o! q hq h4 h5
theorem Ow (F:cu j) (T:Tm j s) {i:Nat} (hi:i<j.ab.length) {st:Int} (h0:0≤st) (h1:cC j s p (i:Int) st=true) (h2:∀x,cC j s p (i:Int) x=true→st≤x):eG j s p (i:Int) 0=st:=by
 rw[eG]
 cases f:cC j s p (i:Int) 0 with
 | true=>have:=h2 0 f;rw[cond_true];omega
 | false=>
   rw[cond_false]
   have pos:0<st:=by
    by_cases z:st=0
    · rw[z,f] at h1;cases h1
    · omega
   have u:=SX F T (p:=p) (i:=(i:Int)) j.ab.length 0 (-1) (Nat.zero_add _) (.inl rfl)
   have w:=YV F (p:=p) (s:=s) (i:=(i:Int)) j.af.length 0 _ (Nat.zero_add _) u.1
   have c:=acu F T hi pos h1 (by
    cases g:cC j s p (i:Int) (st - 1) with
    | false=>rfl
    | true=>have:=h2 _ g;omega)
   have up:0≤eL j 0 s p (i:Int) j.af.length 0 (bF s j p 0 (i:Int) j.ab.length 0 (-1))∧eL j 0 s p (i:Int) j.af.length 0 (bF s j p 0 (i:Int) j.ab.length 0 (-1))≤st:=by
    rcases c with ⟨q,a,b,e⟩ | ⟨r,o,a,b,e⟩
    · have x:=u.2.1 q (Nat.zero_le _) o! b o! (by rw[←e];exact h1)
      have y:=w.2.2 x.1
      exact ⟨y.1,by omega⟩
    · have x:=w.2.1 r (Nat.zero_le _) o! o b o! (by rw[←e];exact h1)
      exact ⟨x.1,by omega⟩
   rcases w.1 with z | ⟨z,g⟩
   · omega
   · have:=h2 _ g;omega
theorem Ih (F:cu j) (T:Tm j s) {i:Nat} (hi:i<j.ab.length) (h:∀x,cC j s p (i:Int) x=false):eG j s p (i:Int) 0= -1:=by
 rw[eG,h 0,cond_false]
 have u:=SX F T (p:=p) (i:=(i:Int)) j.ab.length 0 (-1) (Nat.zero_add _) (.inl rfl)
 have w:=YV F (p:=p) (s:=s) (i:=(i:Int)) j.af.length 0 _ (Nat.zero_add _) u.1
 rcases w.1 with z | ⟨_,g⟩
 · exact z
 · rw[h] at g;cases g
end
theorem gK.wo {e:TypeId} {g h hw:aw} {z:AV} {L:List AV} {b:Nat} (o:gK e g h z L) (ke:∀i,i≠b→hw.get i=h.get i) (hb:b<g.nx):gK e g hw z L:=o.imp id fun ⟨hn,p,op,e,h1,q⟩=>⟨hn,p,op,e,h1,(ke p o!).trans q⟩
def QI (j:cG) (i:Int) (T:List Tl):Prop:=T.length=j.af.length∧∀r,r<j.af.length→∃n:Nat,qo (T.g r).l n (1000*(16+i)) 100001∧(n:Int)≤33+2*i
theorem QI.ok {j:cG} {i:Int} {T:List Tl} (Q:QI j i T) {r:Nat} (hr:r<j.af.length) (hi:i≤63):Az 159 (T.g r)∧YM (T.g r):=by
 obtain ⟨n,B,hn⟩:=Q.2 r hr
 have hf:fit (T.g r).l=(T.g r).l:=tF B.is.len
 refine ⟨?_,fun k=>?_⟩
 · unfold Az
   rw[hf,B.is.cn]
   have:=B.is.lo
   exact ⟨by omega,by omega,B.is.zero⟩
 · rw[hf,XS B.is]
   split
   · rename_i h;have:=B.f (k+1) h;omega
   · decide
theorem QI.put {j:cG} {i:Int} {T:List Tl} (Q:QI j i T) (hi:i≤63) (h0:0≤i) (a:List Bool) (b:List Int) {task start:Int} (F:∀q,q<(j.ab.g (Int.toNat task)).au.length→0≤((j.ab.g (Int.toNat task)).au.g q).ah∧((j.ab.g (Int.toNat task)).au.g q).ah<(T.length:Int)) (ud:∀a,a<(j.ab.g (Int.toNat task)).au.length→∀b,a<b→b<(j.ab.g (Int.toNat task)).au.length→((j.ab.g (Int.toNat task)).au.g a).ah≠((j.ab.g (Int.toNat task)).au.g b).ah) (um:∀q,q<(j.ab.g (Int.toNat task)).au.length→0≤((j.ab.g (Int.toNat task)).au.g q).aB∧((j.ab.g (Int.toNat task)).au.g q).aB≤1000) (s0:0≤start) (s1:start+(j.ab.g (Int.toNat task)).takes≤100000):QI j (i+1) (jN j a b T task start).2.2:=by
 rw[yZ]
 show QI j (i+1) (dA T (j.ab.g (Int.toNat task)).au ⟨start,start+(j.ab.g (Int.toNat task)).takes - 1⟩)
 refine ⟨by rw[Gg];exact Q.1,fun r hr=>?_⟩
 obtain ⟨n,B,hn⟩:=Q.2 r hr
 have hd:=K2 (fun q hq=>(F q hq).1) ud
 have hf:fit (T.g r).l=(T.g r).l:=tF B.is.len
 rcases K1 (sp:=⟨start,start+(j.ab.g (Int.toNat task)).takes - 1⟩) (r:=r) _ T hd (fun u hu=>by
  obtain ⟨q,hq,e⟩:=x7 hu
  have:=F q hq
  rw[e] at this;omega) with ⟨u,hu,er,g⟩ | ⟨Ho,g⟩
 · rw[g,hf]
   obtain ⟨q,hq,e⟩:=x7 hu
   have m:=um q hq
   rw[e] at m
   obtain ⟨n',x1,x2,x3,x4⟩:=K0 B o! (s:=⟨start,start+(j.ab.g (Int.toNat task)).takes - 1⟩) (p:=u.aB) s0 (by dsimp only;omega) o! o!
   exact ⟨n',x1.up o!,by omega⟩
 · rw[g];exact ⟨n,B.up o!,by omega⟩
theorem QI.up {j:cG} {i:Int} {T:List Tl} (Q:QI j i T):QI j (i+1) T:=⟨Q.1,fun r hr=>by
 obtain ⟨n,B,hn⟩:=Q.2 r hr
 exact ⟨n,B.up o!,by omega⟩⟩
theorem adK {j:cG} (F:cu j):QI j 0 (ba j).1:=by
 have I:=YE (s:=[]) F
 exact ⟨I.1,fun r hr=>by
  obtain ⟨n,B,hn,_,_⟩:=I.2 r hr
  exact ⟨n,B,by omega⟩⟩
theorem G4 (j:cG) (aj:List Bool) (ar:List Int) (aL:List Tl) (task from_:Int) (F:cu j) (t0:0≤task) (t1:task<(j.ab.length:Int)) (hl:ar.length=j.ab.length) (ht:aL.length=j.af.length) (f0:0≤from_) (f1:from_≤100000) (sb:∀i,i<ar.length→0≤ar.g i∧ar.g i+(j.ab.g i).takes≤100000):
 (∀i,i<ar.length→0≤(b_ j aj ar aL task from_).2.2.1.g i∧(b_ j aj ar aL task from_).2.2.1.g i+(j.ab.g i).takes≤100000)∧∀i:Int,0≤i→i≤63→QI j i aL→QI j (i+1) (b_ j aj ar aL task from_).2.2.2:=by
 have hi:Int.toNat task<j.ab.length:=by omega
 have fr:∀k i (v:Int),i+k=(j.ab.g (Int.toNat task)).ax.length→0≤v→v≤100000→0≤bE j ar task k i v∧bE j ar task k i v≤100000:=by
  intro k
  induction k with
  | zero=>intro i v _ a b;exact ⟨a,b⟩
  | succ k ih=>
    intro i v e a b
    have nb:=F.nb _ hi i o!
    have eb:=QN sb F.tk hl nb.1 nb.2
    rw[bE]
    exact ih (i+1) _ o! (Lw a) (El b eb.2)
 have f:=fr (j.ab.g (Int.toNat task)).ax.length 0 from_ o! f0 f1
 rw[b_]
 by_cases c:100000<fo (nq j task) (asks j aL task) (bE j ar task (j.ab.g (Int.toNat task)).ax.length 0 from_)+(j.ab.g (Int.toNat task)).takes
 · rw[decide_eq_true c,cond_true]
   exact ⟨sb,fun i _ _ Q=>Q.up⟩
 · rw[decide_eq_false c,cond_false]
   have lo:=aiB (n:=nq j task) (P:=asks j aL task) (bE j ar task (j.ab.g (Int.toNat task)).ax.length 0 from_)
   generalize fo (nq j task) (asks j aL task) (bE j ar task (j.ab.g (Int.toNat task)).ax.length 0 from_)=st at *
   refine ⟨fun i hi=>?_,fun i h0 h1 Q=>?_⟩
   · show 0≤(jN j aj ar aL task st).2.1.g i∧(jN j aj ar aL task st).2.1.g i+(j.ab.g i).takes≤100000
     rw[yZ]
     by_cases e:Int.toNat task=i
     · subst e
       rw[show ((ar.set (Int.toNat task) st).g (Int.toNat task))=st from iL o!];omega
     · rw[show ((ar.set (Int.toNat task) st).g i)=ar.g i from bj e _];exact sb i hi
   · exact Q.put h1 h0 aj ar (fun q hq=>by have:=F.ur _ hi q hq;omega) (F.ud _ hi) (fun q hq=>by
      have a:=F.um _ hi q hq
      have b:=F.ur _ hi q hq
      have c:=(F.rs (Int.toNat ((j.ab.g (Int.toNat task)).au.g q).ah) o!).2.2
      omega) o! o!
theorem G5 {order:List Int} {ts:List Task}:∀(k i:Nat) (v:List Int) (a:List Bool),(cm order ts k i v a).1.length≤v.length+1
 | 0,i,v,a=>by rw[cm];exact Nat.le_succ _
 | k+1,i,v,a=>by
   rw[cm]
   cases kX ts a (order.g i) with
   | true=>rw[cond_true];simp
   | false=>exact G5 (order:=order) (ts:=ts) k (i+1) v a
theorem G6 {order:List Int} {ts:List Task}:∀(k i:Nat) (v:List Int) (a:List Bool),(cT order ts k i v a).1.length≤v.length+k
 | 0,i,v,a=>Nat.le_refl _
 | k+1,i,v,a=>by
   rw[cT]
   have x:=G6 (order:=order) (ts:=ts) k (i+1) (cm order ts order.length 0 v a).1 (cm order ts order.length 0 v a).2
   have y:=G5 (order:=order) (ts:=ts) order.length 0 v a
   omega
theorem Js {order:List Int} {ts:List Task} {Q:Int→Prop} (ho:∀q,q<order.length→Q (order.g q)):∀(k i:Nat) (v:List Int) (a:List Bool),i+k=order.length→(∀x∈v,Q x)→∀x∈(cm order ts k i v a).1,Q x
 | 0,i,v,a,_,hv=>by rw[cm];exact hv
 | k+1,i,v,a,e,hv=>by
   rw[cm]
   cases kX ts a (order.g i) with
   | true=>
     rw[cond_true]
     intro x hx
     rcases List.mem_append.1 hx with h | h
     · exact hv x h
     · rw[List.mem_singleton.1 h];exact ho i o!
   | false=>exact Js ho k (i+1) v a o! hv
theorem Jt {order:List Int} {ts:List Task} {Q:Int→Prop} (ho:∀q,q<order.length→Q (order.g q)):∀(k i:Nat) (v:List Int) (a:List Bool),(∀x∈v,Q x)→∀x∈(cT order ts k i v a).1,Q x
 | 0,i,v,a,hv=>hv
 | k+1,i,v,a,hv=>by
   rw[cT]
   exact Jt ho k (i+1) _ _ (Js ho _ 0 v a (Nat.zero_add _) hv)
theorem qw (ts:List Task) (order:List Int) (aj:List Bool) (ho:∀q,q<order.length→0≤order.g q∧order.g q<(ts.length:Int)):(aF ts order aj).length≤order.length∧∀q,q<(aF ts order aj).length→0≤(aF ts order aj).g q∧(aF ts order aj).g q<(ts.length:Int):=by
 refine ⟨?_,fun q hq=>?_⟩
 · have:=G6 (order:=order) (ts:=ts) order.length 0 [] (cg aj)
   rw[List.length_nil] at this
   rw[aF];omega
 · exact Jt (Q:=fun x=>0≤x∧x<(ts.length:Int)) ho order.length 0 [] (cg aj) (fun x h=>by cases h) _ (GS hq)
theorem SY {j:cG} {st Rr:List Int} {T T':List Tl} {v:Int} (p:(∀i,i<st.length→0≤Rr.g i∧Rr.g i+(j.ab.g i).takes≤100000)∧∀i:Int,0≤i→i≤63→QI j i T→QI j (i+1) T') (hl:Rr.length=st.length) (q:QI j v T) (h0:0≤v) (h1:v≤63):(∀ii,ii<Rr.length→0≤Rr.g ii∧Rr.g ii+(j.ab.g ii).takes≤100000)∧QI j (v+1) T':=
 ⟨fun ii hi=>p.1 ii o!,p.2 v h0 h1 q⟩
theorem cu.uf {j:cG} (F:cu j) {i:Nat} (hi:i<j.ab.length):(j.ab.g i).au.length≤1000000:=by
 have:=YO (n:=j.af.length) (K2 (fun q hq=>(F.ur i hi q hq).1) (F.ud i hi)) fun u hu=>by
  obtain ⟨q,hq,e⟩:=x7 hu
  have:=F.ur i hi q hq
  rw[e] at this;omega
 have:=F.nr
 omega
noncomputable def Dt:Code:=(Tryz.f72.body).getD .skip
theorem YW:Tryz.f72.body=some Dt:=by kernel_rfl
noncomputable def zy:Code:=(bw Dt).getD 0 .skip
def rH (j:cG) (aj:List Bool) (ar:List Int) (task:Int) (start:Int):List Bool×List Int:=((aj.set task.toNat true),(ar.set task.toNat start))
theorem YX {d:Nat} {h hh:aw} {aP placedN aR startsN:Nat} (j:cG) (aj:List Bool) (ar:List Int) (task:Int) (start:Int) (bZ:aG.ok h j) (bQ:hh.get aP=some (aH.cells (bs aj) 4 false)) (qn:aj.length=placedN) (sj:h.get aP=none) (b5:hh.get aR=some (aH.cells (zs .i64 ar) 3 false)) (sm:ar.length=startsN) (sq:h.get aR=none) (nE:0≤task) (qI:task<(j.ab.length:Int)) (yS:aj.length=j.ab.length) (Ar:ar.length=j.ab.length) (DJ:((j.ab.g task.toNat).au).length=0) (Uj:aR≠aP) (ct:Tidy h) (aA:Tidy hh) (ay:Has h hh) (ij:h.nx≤hh.nx):∃hk,cU (d+3) (.fn 72) [(AV.agg [j.ao,j.ai,(AV.slice aP 0 placedN placedN false),(AV.slice aR 0 startsN startsN false),AV.aD]),(Zi task),(Zi start)] hh= .ret (AV.tuple []) hk∧Tidy hk∧hh.nx≤hk.nx∧Has h hk∧hk.get aP=some (aH.cells (bs ((rH j aj ar task start).1)) 4 false)∧((rH j aj ar task start).1).length=placedN∧hk.get aR=some (aH.cells (zs .i64 ((rH j aj ar task start).2)) 3 false)∧((rH j aj ar task start).2).length=startsN:=by
 have eT:=bZ.1.small
 have eU:=bZ.2.small
 have sr:=aA _ _ bQ
 have ss:=aA _ _ b5
 obtain ⟨h1,dH,cP,kr,bk,bW⟩:=kh aA (aH.cells [j.ao,j.ai,(AV.slice aP 0 placedN placedN false),(AV.slice aR 0 startsN startsN false),AV.aD] 76 false)
 have bB:Has h h1:=ay.trans bW
 obtain ⟨p3,q4,cF⟩:=bZ.1.elem (i:=task.toNat) o!
 have jL:bR env (some (.slice 39)) (some j.ao) (some (Zi task))=some (AV.ptr p3 q4):=by rw[show (task:Int)=((task.toNat:Nat):Int) by omega];exact cF
 have j9:aY env h1 39 (AV.ptr p3 q4)=some (AV.agg [(AV.str ((j.ab.g task.toNat).name)),(Zi ((j.ab.g task.toNat).takes)),((j.ab.g task.toNat).aO),((j.ab.g task.toNat).aS)]):=(bZ.1.has bB).load o! cF
 obtain ⟨h6,nU,kM,Ce,nV,cE⟩:=kh cP (aH.cells [(AV.str []),(Zi 0),AV.aD,AV.aD] 39 false)
 have jA:Has h h6:=bB.trans cE
 have PX:AV.scalar ((j.ab.g task.toNat).aO)=true:=((bZ.1.ok (i:=task.toNat) o!).2.1).scalar
 have XI:AV.scalar ((j.ab.g task.toNat).aS)=true:=((bZ.1.ok (i:=task.toNat) o!).2.2).scalar
 obtain ⟨h7,m8,eO,xA,f_,bD⟩:=qi (t:=39) (n:=4) (i:=h1.nx) (L:=[(AV.str ((j.ab.g task.toNat).name)),(Zi ((j.ab.g task.toNat).takes)),((j.ab.g task.toNat).aO),((j.ab.g task.toNat).aS)]) kM nV k! rfl rfl (by simp only[AV.cells,List.all_cons,List.all_nil,Bool.and_true,Bool.and_self,iE,gd,iF,iG,eP,lF,lG,lH,lI,lJ,iH,PX,XI])
 have du:Has h h7:=Has.ei jA bD ct o!
 have P4:bR env (some (.slice 4)) (some (AV.slice aP 0 placedN placedN false)) (some (Zi task))=some (AV.ptr aP task.toNat):=jw k! (show task.toNat<placedN by omega) o!
 obtain ⟨uX,vU⟩:∃KY:aw,KY=h7.put aP (some (aH.cells (bs (aj.set task.toNat true)) 4 false)):=⟨_,rfl⟩
 have F2:dW env h7 4 (AV.ptr aP task.toNat) (AV.bool true)=some uX:=by rw[vU];exact r7 k! (bD _ _ o! (cE _ _ (bW _ _ bQ))) l!
 have fP:KA h7 uX aP (aH.cells (bs (aj.set task.toNat true)) 4 false):=by rw[vU];exact kE eO (bD _ _ o! (cE _ _ (bW _ _ bQ)))
 have uD:=fP.1
 have XB:uX.nx=h7.nx:=by rw[vU];rfl
 have AF:Has h uX:=jz fP du (by first | assumption | exact hG ct o!)
 have P5:bR env (some (.slice 3)) (some (AV.slice aR 0 startsN startsN false)) (some (Zi task))=some (AV.ptr aR task.toNat):=jw k! (show task.toNat<startsN by omega) o!
 obtain ⟨lU,Ga⟩:∃KY:aw,KY=uX.put aR (some (aH.cells (zs .i64 (ar.set task.toNat start)) 3 false)):=⟨_,rfl⟩
 have NF:dW env uX 3 (AV.ptr aR task.toNat) (Zi start)=some lU:=by rw[Ga];exact Ap k! (fP.2.2 _ _ o! (bD _ _ o! (cE _ _ (bW _ _ b5)))) l!
 have po:KA uX lU aR (aH.cells (zs .i64 (ar.set task.toNat start)) 3 false):=by rw[Ga];exact kE uD (fP.2.2 _ _ o! (bD _ _ o! (cE _ _ (bW _ _ b5))))
 have g7:=po.1
 have XJ:lU.nx=uX.nx:=by rw[Ga];rfl
 have iB:Has h lU:=jz po AF (by first | assumption | exact hG ct o!)
 have XK:cc (some (.slice 80)) (some ((j.ab.g task.toNat).aS))=some (Zn (((j.ab.g task.toNat).au).length)):=((bZ.1.ok (i:=task.toNat) o!).2.2).len
 have Z6:(decide (0<((((j.ab.g task.toNat).au).length:Nat):Int)))=false:=d!
 have ale:Ev env (cU (d+2)) zy ⟨((AV.agg [j.ao,j.ai,(AV.slice aP 0 placedN placedN false),(AV.slice aR 0 startsN startsN false),AV.aD])::(Zi task)::(Zi start)::(Pt hh.nx)::AV.undef::AV.undef::(Pt h1.nx)::AV.undef::AV.undef::(Pt hh.nx)::(Pt hh.nx)::j.ao::(Zi task)::(AV.ptr p3 q4)::(AV.agg [(AV.str ((j.ab.g task.toNat).name)),(Zi ((j.ab.g task.toNat).takes)),((j.ab.g task.toNat).aO),((j.ab.g task.toNat).aS)])::(AV.ptr hh.nx 2)::(AV.slice aP 0 placedN placedN false)::(Zi task)::(AV.ptr hh.nx 3)::(AV.slice aR 0 startsN startsN false)::(Zi task)::(Zi start)::(AV.ptr aP task.toNat)::(AV.ptr aR task.toNat)::(AV.ptr h1.nx 3)::((j.ab.g task.toNat).aS)::(Zn (((j.ab.g task.toNat).au).length))::(Zi 0)::lk 19),lU,[],.no⟩ (.exit 0) ⟨((AV.agg [j.ao,j.ai,(AV.slice aP 0 placedN placedN false),(AV.slice aR 0 startsN startsN false),AV.aD])::(Zi task)::(Zi start)::(Pt hh.nx)::AV.undef::AV.undef::(Pt h1.nx)::AV.undef::AV.undef::(Pt hh.nx)::(Pt hh.nx)::j.ao::(Zi task)::(AV.ptr p3 q4)::(AV.agg [(AV.str ((j.ab.g task.toNat).name)),(Zi ((j.ab.g task.toNat).takes)),((j.ab.g task.toNat).aO),((j.ab.g task.toNat).aS)])::(AV.ptr hh.nx 2)::(AV.slice aP 0 placedN placedN false)::(Zi task)::(AV.ptr hh.nx 3)::(AV.slice aR 0 startsN startsN false)::(Zi task)::(Zi start)::(AV.ptr aP task.toNat)::(AV.ptr aR task.toNat)::(AV.ptr h1.nx 3)::((j.ab.g task.toNat).aS)::(Zn (((j.ab.g task.toNat).au).length))::(Zi 0)::(AV.bool (decide (0<((((j.ab.g task.toNat).au).length:Nat):Int))))::lk 18),lU,[],.no⟩:=Ev.to (pk (d+2) zy ((AV.agg [j.ao,j.ai,(AV.slice aP 0 placedN placedN false),(AV.slice aR 0 startsN startsN false),AV.aD])::(Zi task)::(Zi start)::(Pt hh.nx)::AV.undef::AV.undef::(Pt h1.nx)::AV.undef::AV.undef::(Pt hh.nx)::(Pt hh.nx)::j.ao::(Zi task)::(AV.ptr p3 q4)::(AV.agg [(AV.str ((j.ab.g task.toNat).name)),(Zi ((j.ab.g task.toNat).takes)),((j.ab.g task.toNat).aO),((j.ab.g task.toNat).aS)])::(AV.ptr hh.nx 2)::(AV.slice aP 0 placedN placedN false)::(Zi task)::(AV.ptr hh.nx 3)::(AV.slice aR 0 startsN startsN false)::(Zi task)::(Zi start)::(AV.ptr aP task.toNat)::(AV.ptr aR task.toNat)::(AV.ptr h1.nx 3)::((j.ab.g task.toNat).aS)::(Zn (((j.ab.g task.toNat).au).length))::(Zi 0)::lk 19) lU (.exit 0) lU (VV (bO 3 false false .i64 0 ((((j.ab.g task.toNat).au).length:Nat):Int))<|BB Z6<|ZZ) k!) k!
 have e:rH j aj ar task start=((aj.set task.toNat true),(ar.set task.toNat start)):=by simp only[rH,cond_true,cond_false]
 rw[e]
 exact fU rfl (aZ Tryz.func72 YW rfl (.inl rfl) (pk (d+2) _ _ hh _ lU (NN dH (fun i=>(Pt i))<|CN 2<|MM (aI 22 0 j.ao bk k!)<|CC<|VV jL<|MM j9<|NN nU (fun i=>(Pt i))<|SS m8<|CC<|MM (aI 73 2 (AV.slice aP 0 placedN placedN false) (bD _ _ o! (cE _ _ bk)) k!)<|CN 2<|MM (aI 26 3 (AV.slice aR 0 startsN startsN false) (bD _ _ o! (cE _ _ bk)) k!)<|CN 2<|VV P4<|SS F2<|VV P5<|SS NF<|HH (aI 73 2 (AV.slice aP 0 placedN placedN false) (bD _ _ o! (cE _ _ bk)) k!)<|HH (show AV.same 20 (AV.slice aP 0 placedN placedN false) (AV.slice aP 0 placedN placedN false)=true from jg 19 _ _ _ _ _)<|HH (aI 26 3 (AV.slice aR 0 startsN startsN false) (bD _ _ o! (cE _ _ bk)) k!)<|HH (show AV.same 20 (AV.slice aR 0 startsN startsN false) (AV.slice aR 0 startsN startsN false)=true from jg 19 _ _ _ _ _)<|HH (aI 26 3 (AV.slice aR 0 startsN startsN false) (fP.2.2 _ _ o! (bD _ _ o! (cE _ _ bk))) k!)<|HH (show AV.same 20 (AV.slice aR 0 startsN startsN false) (AV.slice aR 0 startsN startsN false)=true from jg 19 _ _ _ _ _)<|CC<|MM (aI 37 3 ((j.ab.g task.toNat).aS) (po.2.2 _ _ o! (fP.2.2 _ _ o! f_)) k!)<|VV XK<|CC<|LL (show Ev env (cU (d+2)) (.loop zy) ⟨((AV.agg [j.ao,j.ai,(AV.slice aP 0 placedN placedN false),(AV.slice aR 0 startsN startsN false),AV.aD])::(Zi task)::(Zi start)::(Pt hh.nx)::AV.undef::AV.undef::(Pt h1.nx)::AV.undef::AV.undef::(Pt hh.nx)::(Pt hh.nx)::j.ao::(Zi task)::(AV.ptr p3 q4)::(AV.agg [(AV.str ((j.ab.g task.toNat).name)),(Zi ((j.ab.g task.toNat).takes)),((j.ab.g task.toNat).aO),((j.ab.g task.toNat).aS)])::(AV.ptr hh.nx 2)::(AV.slice aP 0 placedN placedN false)::(Zi task)::(AV.ptr hh.nx 3)::(AV.slice aR 0 startsN startsN false)::(Zi task)::(Zi start)::(AV.ptr aP task.toNat)::(AV.ptr aR task.toNat)::(AV.ptr h1.nx 3)::((j.ab.g task.toNat).aS)::(Zn (((j.ab.g task.toNat).au).length))::(Zi 0)::lk 19),lU,[],.no⟩ (.exit 0) ⟨((AV.agg [j.ao,j.ai,(AV.slice aP 0 placedN placedN false),(AV.slice aR 0 startsN startsN false),AV.aD])::(Zi task)::(Zi start)::(Pt hh.nx)::AV.undef::AV.undef::(Pt h1.nx)::AV.undef::AV.undef::(Pt hh.nx)::(Pt hh.nx)::j.ao::(Zi task)::(AV.ptr p3 q4)::(AV.agg [(AV.str ((j.ab.g task.toNat).name)),(Zi ((j.ab.g task.toNat).takes)),((j.ab.g task.toNat).aO),((j.ab.g task.toNat).aS)])::(AV.ptr hh.nx 2)::(AV.slice aP 0 placedN placedN false)::(Zi task)::(AV.ptr hh.nx 3)::(AV.slice aR 0 startsN startsN false)::(Zi task)::(Zi start)::(AV.ptr aP task.toNat)::(AV.ptr aR task.toNat)::(AV.ptr h1.nx 3)::((j.ab.g task.toNat).aS)::(Zn (((j.ab.g task.toNat).au).length))::(Zi 0)::(AV.bool (decide (0<((((j.ab.g task.toNat).au).length:Nat):Int))))::lk 18),lU,[],.no⟩ from (Ev.out ale))<|ZZ) k!) k!) aA g7 o! ⟨iB,(po.2.2 _ _ o! fP.2.1),l!,po.2.1,l!⟩ (fun q=>⟨ay,cK q bQ (po.2.2 _ _ o! fP.2.1),l!,cK q b5 po.2.1,l!⟩)
theorem SZ (P:Nat→Int→Int) (f:Int):fo 0 P f=f:=by
 unfold fo
 cases Int.toNat (1000001 - f)<;>rfl
theorem aM.nil {α:Type} [aG α] {h:aw}:aM h AV.aD ([]:List α):=nQ.rows (h0:=h) (.inl ⟨.inl rfl,rfl⟩) (by rw[List.length_nil];decide) fun y hy=>by cases hy
theorem wC {p:Prop} (h:p:=by first | omega | exact ⟨Lw fV.1,El fV.2 (eb_ o!).2⟩):p:=h
theorem jQ {p:Prop} (h:p:=by first | omega | assumption):p:=h
noncomputable def rI:Code:=(Tryz.f52.body).getD .skip
theorem G7:Tryz.f52.body=some rI:=by kernel_rfl
noncomputable def LD:Code:=(bw rI).getD 0 .skip
noncomputable def ue:Code:=(bw rI).getD 1 .skip
def cM (j:cG) (ar:List Int) (task:Int):Nat→Nat→Int→Int
 | 0,_,lW=>lW
 | cS+1,i0,lW=>cM j ar task cS (i0+1) (imax lW (jo j ar (((j.ab.g task.toNat).ax).g i0)))
theorem yh {d:Nat} {h:aw} (task:Int) (j:cG) (placedN:Nat) (startsN:Nat) (aj:List Bool) (ar:List Int) (from_:Int) (a_:Nat) (cx:Nat) (fj:Nat) (iT:Nat) (bb:aM h j.ao j.ab) (cf:aM h j.ai j.af) (dc:bS h .i64 3 ((j.ab.g task.toNat).aO) ((j.ab.g task.toNat).ax)) (iU:((j.ab.g task.toNat).name).length<2^60) (tJ:aM h ((j.ab.g task.toNat).aS) ((j.ab.g task.toNat).au)) (fW:aG.ok h j) (F8:aG.ok h (j.ab.g task.toNat)) (fq:0≤task) (hH:task<(j.ab.length:Int)) (ly:aj.length=j.ab.length) (mw:ar.length=j.ab.length) (l8:((j.ab.g task.toNat).au).length=0) (mO:∀i,i<j.ab.length→∀q,q<(j.ab.g i).ax.length→0≤(j.ab.g i).ax.g q∧(j.ab.g i).ax.g q<(j.ab.length:Int)) (Cg:∀i,i<j.ab.length→0≤(j.ab.g i).takes∧(j.ab.g i).takes≤100000) (F9:∀i,i<ar.length→0≤ar.g i∧ar.g i+(j.ab.g i).takes≤100000) (HQ:0≤from_) (F_:from_≤100000) (vT:startsN=ar.length):∀(k_ i_:Nat) (lW:Int) (_:i_+k_=(((j.ab.g task.toNat).ax).length)) (_:(0≤lW∧lW≤100000)) (x:Nat→AV) (hh:aw) (aA:Tidy hh) (ay:Has h hh) (bh:hh.get a_=some (aH.cells [j.ao,j.ai,(AV.slice fj 0 placedN placedN false),(AV.slice iT 0 startsN startsN false),AV.aD] 76 false)) (cV:hh.get cx=some (aH.cells [(AV.str ((j.ab.g task.toNat).name)),(Zi ((j.ab.g task.toNat).takes)),((j.ab.g task.toNat).aO),((j.ab.g task.toNat).aS)] 39 false)) (gW:hh.get fj=some (aH.cells (bs aj) 4 false)) (kt:hh.get iT=some (aH.cells (zs .i64 ar) 3 false)),bt (cU (d+3)) LD ⟨((x 0)::(Zi task)::(Zi lW)::(Pt a_)::rx x 4 3 ((Pt cx)::rx x 8 13 (((j.ab.g task.toNat).aO)::(Zn (((j.ab.g task.toNat).ax).length))::(Zn i_)::rx x 24 49 []))),hh,[],.no⟩ (.exit 0) hh (fun r y=>((y 0)::(Zi task)::(Zi r)::(Pt a_)::rx y 4 3 ((Pt cx)::rx y 8 13 (((j.ab.g task.toNat).aO)::(Zn (((j.ab.g task.toNat).ax).length))::rx y 23 50 [])))) (fun r=>(0≤r∧r≤100000)) (cM j ar task k_ i_ lW)
 | 0,i0,lW,gq,fV,x,hh,aA,ay,bh,cV,gW,kt=>by
   have cr:=bb.small
   have eQ:=cf.small
   have jD:=dc.small
   have yW:=tJ.small
   have ji:=aA _ _ bh
   have vR:=aA _ _ cV
   have DL:=aA _ _ gW
   have KU:=aA _ _ kt
   have q1:(decide (((i0:Nat):Int)<((((j.ab.g task.toNat).ax).length:Nat):Int)))=false:=d!
   exact bt.out lW rfl (pk (d+3) _ _ hh _ hh (VV (bO 3 false false .i64 ((i0:Nat):Int) ((((j.ab.g task.toNat).ax).length:Nat):Int))<|BB q1<|ZZ) k!) (bp.refl aA) (show (0≤lW∧lW≤100000) from wC) k!
 | cS+1,i0,lW,gq,fV,x,hh,aA,ay,bh,cV,gW,kt=>by
   have cr:=bb.small
   have eQ:=cf.small
   have jD:=dc.small
   have yW:=tJ.small
   have ji:=aA _ _ bh
   have vR:=aA _ _ cV
   have DL:=aA _ _ gW
   have KU:=aA _ _ kt
   have nb_:=fun hq=>mO task.toNat o! i0 hq
   have eb_:=fun hq=>QN F9 Cg o! (nb_ hq).1 (nb_ hq).2
   have q1:(decide (((i0:Nat):Int)<((((j.ab.g task.toNat).ax).length:Nat):Int)))=true:=d!
   obtain ⟨p3,q4,cF,_⟩:=(dc.has ay).elem (i:=i0) o!
   have jL:bR env (some (.slice 3)) (some ((j.ab.g task.toNat).aO)) (some (Zn i0))=some (AV.ptr p3 q4):=cF
   have j9:aY env hh 3 (AV.ptr p3 q4)=some (Zi (((j.ab.g task.toNat).ax).g i0)):=(dc.has ay).load o! cF
   have k6:=Jq (d:=d+2) j ar (((j.ab.g task.toNat).ax).g i0) (aG.mono ay fW) (bS.own (op:=false) (n:=startsN) k! k! kt l! o!) jQ jQ jQ aA
   have u7:=dZ 3 false true i0 1 o!
   exact bt.round (by simp only[cM,cond_true,cond_false]) (pk (d+3) _ _ hh _ hh (VV (bO 3 false false .i64 ((i0:Nat):Int) ((((j.ab.g task.toNat).ax).length:Nat):Int))<|BV q1 jL<|MM j9<|CN 3<|MM (aI 25 0 (AV.agg [j.ao,j.ai]) bh k!)<|CC<|MM (aI 26 3 (AV.slice iT 0 startsN startsN false) bh k!)<|CC<|EE k6<|CN 2<|VV u7<|CC<|ZZ) k!) (bp.refl aA) _ k! (fun x=>yh task j placedN startsN aj ar from_ a_ cx fj iT bb cf dc iU tJ fW F8 fq hH ly mw l8 mO Cg F9 HQ F_ vT cS (i0+1) (imax lW (jo j ar (((j.ab.g task.toNat).ax).g i0))) o! (show (0≤(imax lW (jo j ar (((j.ab.g task.toNat).ax).g i0)))∧(imax lW (jo j ar (((j.ab.g task.toNat).ax).g i0)))≤100000) from wC) x hh aA ay bh cV gW kt)
def dD (j:cG) (aj:List Bool) (ar:List Int) (task:Int) (from_:Int):Bool×List Bool×List Int:=(bif (decide (100000<((cM j ar task (((j.ab.g task.toNat).ax).length) 0 from_)+((j.ab.g task.toNat).takes)))) then (false,aj,ar) else (true,(rH j aj ar task (cM j ar task (((j.ab.g task.toNat).ax).length) 0 from_)).1,(rH j aj ar task (cM j ar task (((j.ab.g task.toNat).ax).length) 0 from_)).2))
theorem QR {d:Nat} {h hh:aw} {aP placedN aR startsN:Nat} (j:cG) (aj:List Bool) (ar:List Int) (task:Int) (from_:Int) (bZ:aG.ok h j) (bQ:hh.get aP=some (aH.cells (bs aj) 4 false)) (qn:aj.length=placedN) (sj:h.get aP=none) (b5:hh.get aR=some (aH.cells (zs .i64 ar) 3 false)) (sm:ar.length=startsN) (sq:h.get aR=none) (nE:0≤task) (qI:task<(j.ab.length:Int)) (yS:aj.length=j.ab.length) (Ar:ar.length=j.ab.length) (DJ:((j.ab.g task.toNat).au).length=0) (Uh:∀i,i<j.ab.length→∀q,q<(j.ab.g i).ax.length→0≤(j.ab.g i).ax.g q∧(j.ab.g i).ax.g q<(j.ab.length:Int)) (pre6:∀i,i<j.ab.length→0≤(j.ab.g i).takes∧(j.ab.g i).takes≤100000) (Ui:∀i,i<ar.length→0≤ar.g i∧ar.g i+(j.ab.g i).takes≤100000) (abJ:0≤from_) (ND:from_≤100000) (Uj:aR≠aP) (ct:Tidy h) (aA:Tidy hh) (ay:Has h hh) (ij:h.nx≤hh.nx):∃hk,cU (d+4) (.fn 52) [(AV.agg [j.ao,j.ai,(AV.slice aP 0 placedN placedN false),(AV.slice aR 0 startsN startsN false),AV.aD]),(Zi task),(Zi from_)] hh= .ret (AV.bool ((dD j aj ar task from_).1)) hk∧Tidy hk∧hh.nx≤hk.nx∧Has h hk∧hk.get aP=some (aH.cells (bs ((dD j aj ar task from_).2.1)) 4 false)∧((dD j aj ar task from_).2.1).length=placedN∧hk.get aR=some (aH.cells (zs .i64 ((dD j aj ar task from_).2.2)) 3 false)∧((dD j aj ar task from_).2.2).length=startsN:=by
 have eT:=bZ.1.small
 have eU:=bZ.2.small
 have sr:=aA _ _ bQ
 have ss:=aA _ _ b5
 obtain ⟨h1,dH,cP,kr,bk,bW⟩:=kh aA (aH.cells [j.ao,j.ai,(AV.slice aP 0 placedN placedN false),(AV.slice aR 0 startsN startsN false),AV.aD] 76 false)
 have bB:Has h h1:=ay.trans bW
 obtain ⟨p3,q4,cF⟩:=bZ.1.elem (i:=task.toNat) o!
 have jL:bR env (some (.slice 39)) (some j.ao) (some (Zi task))=some (AV.ptr p3 q4):=by rw[show (task:Int)=((task.toNat:Nat):Int) by omega];exact cF
 have j9:aY env h1 39 (AV.ptr p3 q4)=some (AV.agg [(AV.str ((j.ab.g task.toNat).name)),(Zi ((j.ab.g task.toNat).takes)),((j.ab.g task.toNat).aO),((j.ab.g task.toNat).aS)]):=(bZ.1.has bB).load o! cF
 obtain ⟨h6,nU,kM,Ce,nV,cE⟩:=kh cP (aH.cells [(AV.str []),(Zi 0),AV.aD,AV.aD] 39 false)
 have jA:Has h h6:=bB.trans cE
 have PX:AV.scalar ((j.ab.g task.toNat).aO)=true:=((bZ.1.ok (i:=task.toNat) o!).2.1).scalar
 have XI:AV.scalar ((j.ab.g task.toNat).aS)=true:=((bZ.1.ok (i:=task.toNat) o!).2.2).scalar
 obtain ⟨h7,m8,eO,xA,f_,bD⟩:=qi (t:=39) (n:=4) (i:=h1.nx) (L:=[(AV.str ((j.ab.g task.toNat).name)),(Zi ((j.ab.g task.toNat).takes)),((j.ab.g task.toNat).aO),((j.ab.g task.toNat).aS)]) kM nV k! rfl rfl (by simp only[AV.cells,List.all_cons,List.all_nil,Bool.and_true,Bool.and_self,iE,gd,iF,iG,eP,lF,lG,lH,lI,lJ,iH,PX,XI])
 have du:Has h h7:=Has.ei jA bD ct o!
 have xK:cc (some (.slice 3)) (some ((j.ab.g task.toNat).aO))=some (Zn (((j.ab.g task.toNat).ax).length)):=((bZ.1.ok (i:=task.toNat) o!).2.1).len
 obtain ⟨jj,pL,Lx,eN,YS⟩:=yh (d:=d) (h:=h) task j placedN startsN aj ar from_ hh.nx h1.nx aP aR bZ.1 bZ.2 ((bZ.1.ok (i:=task.toNat) o!).2.1) ((bZ.1.ok (i:=task.toNat) o!).1) ((bZ.1.ok (i:=task.toNat) o!).2.2) bZ (bZ.1.ok (i:=task.toNat) o!) o! o! o! o! (by assumption) (by assumption) (by assumption) (by assumption) o! o! o! (((j.ab.g task.toNat).ax).length) 0 from_ o! (show (0≤from_∧from_≤100000) from wC) (fun k_=>(((AV.agg [j.ao,j.ai,(AV.slice aP 0 placedN placedN false),(AV.slice aR 0 startsN startsN false),AV.aD])::(Zi task)::(Zi from_)::(Pt hh.nx)::AV.undef::AV.undef::(AV.bool false)::(Pt h1.nx)::AV.undef::AV.undef::AV.undef::AV.undef::AV.undef::AV.undef::(Pt hh.nx)::(Pt hh.nx)::j.ao::(Zi task)::(AV.ptr p3 q4)::(AV.agg [(AV.str ((j.ab.g task.toNat).name)),(Zi ((j.ab.g task.toNat).takes)),((j.ab.g task.toNat).aO),((j.ab.g task.toNat).aS)])::(AV.ptr h1.nx 2)::((j.ab.g task.toNat).aO)::(Zn (((j.ab.g task.toNat).ax).length))::(Zi 0)::lk 49):List AV).getD k_ AV.undef) h7 eO du (bD _ _ o! (cE _ _ bk)) f_ (bD _ _ o! (cE _ _ (bW _ _ bQ))) (bD _ _ o! (cE _ _ (bW _ _ b5)))
 have qm:=eN.y
 have XH:h7.nx≤pL.nx:=eN.n
 have jM:Has h pL:=du.trans eN.a
 have PY:cc (some (.slice 80)) (some ((j.ab.g task.toNat).aS))=some (Zn (((j.ab.g task.toNat).au).length)):=((bZ.1.ok (i:=task.toNat) o!).2.2).len
 have q14:(decide (0<((((j.ab.g task.toNat).au).length:Nat):Int)))=false:=d!
 have alf:Ev env (cU (d+3)) ue ⟨((jj 0)::(Zi task)::(Zi (cM j ar task (((j.ab.g task.toNat).ax).length) 0 from_))::(Pt hh.nx)::rx jj 4 3 ((Pt h1.nx)::(jj 8)::(jj 9)::AV.aD::rx jj 11 10 (((j.ab.g task.toNat).aO)::(Zn (((j.ab.g task.toNat).ax).length))::rx jj 23 13 ((AV.ptr h1.nx 3)::((j.ab.g task.toNat).aS)::(Zn (((j.ab.g task.toNat).au).length))::(Zi 0)::rx jj 40 33 [])))),pL,[],.no⟩ (.exit 2) ⟨((jj 0)::(Zi task)::(Zi (cM j ar task (((j.ab.g task.toNat).ax).length) 0 from_))::(Pt hh.nx)::rx jj 4 3 ((Pt h1.nx)::(jj 8)::(jj 9)::AV.aD::rx jj 11 10 (((j.ab.g task.toNat).aO)::(Zn (((j.ab.g task.toNat).ax).length))::rx jj 23 13 ((AV.ptr h1.nx 3)::((j.ab.g task.toNat).aS)::(Zn (((j.ab.g task.toNat).au).length))::(Zi 0)::(AV.bool (decide (0<((((j.ab.g task.toNat).au).length:Nat):Int))))::rx jj 41 32 [])))),pL,[],.no⟩:=Ev.to (pk (d+3) ue ((jj 0)::(Zi task)::(Zi (cM j ar task (((j.ab.g task.toNat).ax).length) 0 from_))::(Pt hh.nx)::rx jj 4 3 ((Pt h1.nx)::(jj 8)::(jj 9)::AV.aD::rx jj 11 10 (((j.ab.g task.toNat).aO)::(Zn (((j.ab.g task.toNat).ax).length))::rx jj 23 13 ((AV.ptr h1.nx 3)::((j.ab.g task.toNat).aS)::(Zn (((j.ab.g task.toNat).au).length))::(Zi 0)::rx jj 40 33 [])))) pL (.exit 2) pL (VV (bO 3 false false .i64 0 ((((j.ab.g task.toNat).au).length:Nat):Int))<|BB q14<|ZZ) k!) k!
 have kt_:=pre6 task.toNat o!
 have k16:=Ds (d:=d+2) (h:=pL) (claimsV:=AV.aD) (cM j ar task (((j.ab.g task.toNat).ax).length) 0 from_) ((j.ab.g task.toNat).takes) [] (fun _ _=>0) (aM.nil) (fun i hi=>absurd hi (Nat.not_lt_zero _)) (fun i hi=>absurd hi (Nat.not_lt_zero _)) o! o! qm
 rw[adC,List.length_nil,SZ] at k16
 have w17:IntKind.i64.wrap ((cM j ar task (((j.ab.g task.toNat).ax).length) 0 from_)+((j.ab.g task.toNat).takes))=(cM j ar task (((j.ab.g task.toNat).ax).length) 0 from_)+((j.ab.g task.toNat).takes):=wrap_i64 o! o!
 have dR:=fun {al ps} (k:Pk al _ ps)=>(NN dH (fun i=>(Pt i))<|CN 3<|MM (aI 22 0 j.ao bk k!)<|CC<|VV jL<|MM j9<|NN nU (fun i=>(Pt i))<|SS m8<|CC<|MM (aI 26 2 ((j.ab.g task.toNat).aO) f_ k!)<|VV xK<|CC<|LL Lx<|CN 2<|MM (aI 37 3 ((j.ab.g task.toNat).aS) (eN.a _ _ f_) k!)<|VV PY<|CC<|LL (show Ev env (cU (d+3)) (.loop ue) ⟨((jj 0)::(Zi task)::(Zi (cM j ar task (((j.ab.g task.toNat).ax).length) 0 from_))::(Pt hh.nx)::rx jj 4 3 ((Pt h1.nx)::(jj 8)::(jj 9)::AV.aD::rx jj 11 10 (((j.ab.g task.toNat).aO)::(Zn (((j.ab.g task.toNat).ax).length))::rx jj 23 13 ((AV.ptr h1.nx 3)::((j.ab.g task.toNat).aS)::(Zn (((j.ab.g task.toNat).au).length))::(Zi 0)::rx jj 40 33 [])))),pL,[],.no⟩ (.exit 2) ⟨((jj 0)::(Zi task)::(Zi (cM j ar task (((j.ab.g task.toNat).ax).length) 0 from_))::(Pt hh.nx)::rx jj 4 3 ((Pt h1.nx)::(jj 8)::(jj 9)::AV.aD::rx jj 11 10 (((j.ab.g task.toNat).aO)::(Zn (((j.ab.g task.toNat).ax).length))::rx jj 23 13 ((AV.ptr h1.nx 3)::((j.ab.g task.toNat).aS)::(Zn (((j.ab.g task.toNat).au).length))::(Zi 0)::(AV.bool (decide (0<((((j.ab.g task.toNat).au).length:Nat):Int))))::rx jj 41 32 [])))),pL,[],.no⟩ from (Ev.out alf))<|CN 2<|MM (aI 3 1 (Zi ((j.ab.g task.toNat).takes)) (eN.a _ _ f_) k!)<|CC<|EE k16<|CN 3<|MM (aI 3 1 (Zi ((j.ab.g task.toNat).takes)) (eN.a _ _ f_) k!)<|VV (rn 3 false false w17)<|VV (dw 3 false true .i64 ((cM j ar task (((j.ab.g task.toNat).ax).length) 0 from_)+((j.ab.g task.toNat).takes)) 100000)<|k:Pk _ [] ps)
 rcases Bool.eq_false_or_eq_true (decide (100000<((cM j ar task (((j.ab.g task.toNat).ax).length) 0 from_)+((j.ab.g task.toNat).takes)))) with f1 | f1
 · have dQ:=of_decide_eq_true f1
   have e:dD j aj ar task from_=(false,aj,ar):=by simp only[dD,f1,cond_true,cond_false]
   rw[e]
   exact fU rfl (aZ Tryz.func52 G7 rfl (.inr rfl) (pk (d+3) _ _ hh _ pL (dR<|BC f1<|ZZ) k!) k!) aA qm o! ⟨jM,(eN.a _ _ (bD _ _ o! (cE _ _ (bW _ _ bQ)))),l!,(eN.a _ _ (bD _ _ o! (cE _ _ (bW _ _ b5)))),l!⟩ (fun q=>⟨ay,cK q bQ (eN.a _ _ (bD _ _ o! (cE _ _ (bW _ _ bQ)))),l!,cK q b5 (eN.a _ _ (bD _ _ o! (cE _ _ (bW _ _ b5)))),l!⟩)
 · have dQ:=of_decide_eq_false f1
   obtain ⟨Ox,G8,S0,Bh,Bi,nu⟩:=dO qm (eN.a _ _ (bD _ _ o! (cE _ _ (bW _ _ bQ))))
   have zz:Has h Ox:=bM jM (by first | assumption | exact hG ct o!) nu
   obtain ⟨Oy,QS,acv,LF,LG,ug⟩:=dO G8 ((nu _ o!).trans (eN.a _ _ (bD _ _ o! (cE _ _ (bW _ _ b5)))))
   have Cz:Oy.get aP=none:=(ug _ o!).trans Bh
   have CA:Has h Oy:=bM zz (by first | assumption | exact hG ct o!) ug
   obtain ⟨h21,YY,I4,adj,LH,LI,acw,Em,acx⟩:=YX (d:=d) (h:=Oy) (placedN:=placedN) (startsN:=startsN) j aj ar task (cM j ar task (((j.ab.g task.toNat).ax).length) 0 from_) (aG.mono CA bZ) (eN.a _ _ (bD _ _ o! (cE _ _ (bW _ _ bQ)))) l! Cz (eN.a _ _ (bD _ _ o! (cE _ _ (bW _ _ b5)))) l! LF jQ jQ jQ jQ jQ o! QS qm (LG.trans Bi) o!
   have I5:Has h h21:=(CA.trans LH)
   have e:dD j aj ar task from_=(true,(rH j aj ar task (cM j ar task (((j.ab.g task.toNat).ax).length) 0 from_)).1,(rH j aj ar task (cM j ar task (((j.ab.g task.toNat).ax).length) 0 from_)).2):=by simp only[dD,f1,cond_true,cond_false]
   rw[e]
   exact fU rfl (aZ Tryz.func52 G7 rfl (.inr rfl) (pk (d+3) _ _ hh _ h21 (dR<|BM f1 (aI 76 0 (AV.agg [j.ao,j.ai,(AV.slice aP 0 placedN placedN false),(AV.slice aR 0 startsN startsN false),AV.aD]) (eN.a _ _ (bD _ _ o! (cE _ _ bk))) k!)<|CN 2<|EE YY<|CC<|ZZ) k!) k!) aA I4 o! ⟨I5,LI,l!,Em,l!⟩ (fun q=>⟨ay,cK q bQ LI,l!,cK q b5 Em,l!⟩)
theorem cu.u0 {j:cG} (F:cu j) (h:j.af.length=0) {i:Nat} (hi:i<j.ab.length):(j.ab.g i).au.length=0:=by
 rcases Nat.eq_zero_or_pos (j.ab.g i).au.length with e | e
 · exact e
 · have:=F.ur i hi 0 e;omega
theorem Ju {j:cG} {ar:List Int} {task:Int}:∀k i v,cM j ar task k i v=bE j ar task k i v
 | 0,i,v=>rfl
 | k+1,i,v=>by rw[cM,bE,Ju]
theorem Jv (j:cG) (aj:List Bool) (ar:List Int) (task from_:Int) (u0:(j.ab.g (Int.toNat task)).au.length=0):dD j aj ar task from_=((b_ j aj ar [] task from_).1,(b_ j aj ar [] task from_).2.1,(b_ j aj ar [] task from_).2.2.1):=by
 have n0:nq j task=0:=by
  unfold nq
  rw[u0]
  cases decide (0<(j.ab.g (Int.toNat task)).takes)<;>rfl
 rw[dD,b_,n0,SZ,Ju]
 cases decide (100000<bE j ar task (j.ab.g (Int.toNat task)).ax.length 0 from_+(j.ab.g (Int.toNat task)).takes) with
 | true=>rfl
 | false=>
   rw[cond_false,cond_false,yZ]
   rfl
theorem OA (j:cG) (aj:List Bool) (ar:List Int) (task from_:Int) (F:cu j) (t0:0≤task) (t1:task<(j.ab.length:Int)) (hl:ar.length=j.ab.length) (hr:j.af.length=0) (f0:0≤from_) (f1:from_≤100000) (sb:∀i,i<ar.length→0≤ar.g i∧ar.g i+(j.ab.g i).takes≤100000):
 ∀i,i<ar.length→0≤(dD j aj ar task from_).2.2.g i∧(dD j aj ar task from_).2.2.g i+(j.ab.g i).takes≤100000:=by
 rw[Jv j aj ar task from_ (F.u0 hr o!)]
 exact (G4 j aj ar [] task from_ F t0 t1 hl (by rw[hr];rfl) f0 f1 sb).1
theorem YZ {j:cG} {st Rr:List Int} (p:∀i,i<st.length→0≤Rr.g i∧Rr.g i+(j.ab.g i).takes≤100000) (hl:Rr.length=st.length):∀ii,ii<Rr.length→0≤Rr.g ii∧Rr.g ii+(j.ab.g ii).takes≤100000:=fun ii hi=>p ii o!
end Go.Proofs.aJ
