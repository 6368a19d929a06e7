import Derived.Test.YtobmbjlcklkpoaaW6
import Derived.Test.YtobmbjlcklkpoaaW4
import Derived.Test.YtobmbjlcklkpoaaW3
import Derived.Test.YtobmbjlcklkpoaaW0
import Derived.Test.YtobmbjlcklkpoaaW5
import Derived.Test.YtobmbjlcklkpoaaW2
namespace Go.Proofs.aJ
open Go.Proofs Ab
noncomputable section
set_option maxRecDepth 100000
set_option maxHeartbeats 4000000
set_option linter.unusedVariables false
set_option linter.unusedSimpArgs false
def sz (s:Nat):Nat:=((List.range 8).filter fun j=>s.testBit j).length
theorem Nh {s:Nat} (h:s<256):jS ((s:Nat):Int)=(sz s:Int):=by
 have:∀s,s<256→jS ((s:Nat):Int)=(sz s:Int):=by decide+kernel
 exact this s h
theorem Lm {s:Nat} {g:Int} (h:s<256) (g0:0≤g) (g1:g<8):qp ((s:Nat):Int) g=s.testBit g.toNat:=by
 have:∀s,s<256→∀g,g<8→qp ((s:Nat):Int) ((g:Nat):Int)=s.testBit g:=by decide+kernel
 obtain ⟨k,rfl⟩:∃k:Nat,g=k:=⟨g.toNat,by omega⟩
 exact this s h k o!
theorem SD {n:Nat} (h:n≤8):(eB .i64 1 ((n:Nat):Int)).toNat=2^n:=by
 have:∀n,n<9→(eB .i64 1 ((n:Nat):Int)).toNat=2^n:=by decide+kernel
 exact this n o!
theorem xA {n:Nat} (h:n≤8):2^n≤256:=by
 have:=Nat.pow_le_pow_right (n:=2) (by decide) h
 exact this
def XR (n s:Nat):Bool:=(List.range n).any fun j=>decide (s+2^j<2^n)&&(sz (s+2^j)==sz s+1)&&(List.range 8).all fun i=> !s.testBit i||(s+2^j).testBit i
theorem SE:((List.range 9).all fun n=>(List.range (2^n)).all fun s=> !decide (sz s<n)||XR n s)=true:=by decide+kernel
theorem Wc {n s:Nat} (hn:n≤8) (hs:s<2^n) (h:sz s<n):∃s',s'<2^n∧sz s'=sz s+1∧∀i,i<8→s.testBit i=true→s'.testBit i=true:=by
 have a:=List.all_eq_true.1 (List.all_eq_true.1 SE n (List.mem_range.2 o!)) s (List.mem_range.2 hs)
 rw[decide_eq_true h] at a
 obtain ⟨j,_,hj⟩:=List.any_eq_true.1 (show XR n s=true from a)
 rw[Bool.and_eq_true,Bool.and_eq_true] at hj
 refine ⟨_,of_decide_eq_true hj.1.1,eq_of_beq hj.1.2,fun i hi hb=>?_⟩
 have c:=List.all_eq_true.1 hj.2 i (List.mem_range.2 hi)
 rw[hb] at c;exact c
theorem XS {n b:Nat} (hn:n≤8) (hb:b≤n):∀(k s:Nat),s<2^n→sz s+k=b→∃s',s'<2^n∧sz s'=b∧∀i,i<8→s.testBit i=true→s'.testBit i=true
 | 0,s,hs,h=>⟨s,hs,h,fun _ _ h=>h⟩
 | k+1,s,hs,h=>by
   obtain ⟨s1,a1,a2,a3⟩:=Wc hn hs o!
   obtain ⟨s2,b1,b2,b3⟩:=XS hn hb k s1 a1 o!
   exact ⟨s2,b1,b2,fun i hi h=>b3 i hi (a3 i hi h)⟩
def KS (q:ay) (l:List aM) (s:Nat) (c:cu):Prop:=c=XQ q∨∃j,j<l.length∧s.testBit (l.g j).aN.toNat=false∧c=Hm q (l.g j)
theorem kS {q:ay} {l:List aM} (f:RF q l) {s:Nat} (hs:s<256) (c:cu):c∈cG q l ((s:Nat):Int)↔KS q l s c:=by
 rw[Ek f]
 refine or_congr Iff.rfl ⟨fun ⟨j,a,b,c⟩=>⟨j,a,?_,c⟩,fun ⟨j,a,b,c⟩=>⟨j,a,?_,c⟩⟩
 · have:=(f.read j a).1;have:=f.bad;rw[←Lm hs o! o!];exact b
 · have:=(f.read j a).1;have:=f.bad;rw[Lm hs o! o!];exact b
def Cq (q:ay) (l:List aM) (s:Nat):Prop:=∀i,KS q l s i→∀k,KS q l s k→max (iw q.aD q.aC i k.time).aP k.aq≤min (iw q.aD q.aC i k.time).aF k.ak
def XT (q:ay) (l:List aM) (s:Nat) (t x:Int):Prop:=∀c,KS q l s c→(iw q.aD q.aC c t).aP≤x∧x≤(iw q.aD q.aC c t).aF
theorem Gv {q:ay} {l:List aM} (f:RF q l) {s s':Nat} (h:∀i,i<8→s.testBit i=true→s'.testBit i=true) {c:cu} (k:KS q l s' c):KS q l s c:=by
 rcases k with k | ⟨j,a,b,c⟩
 · exact .inl k
 · refine .inr ⟨j,a,?_,c⟩
   have:=(f.read j a).1;have:=f.bad
   cases e:s.testBit (l.g j).aN.toNat with
   | false=>rfl
   | true=>rw[h _ o! e] at b;cases b
theorem SF {q:ay} {l:List aM} (f:RF q l) (t x:Int):(∃s,s<2^q.ar.length∧(sz s:Int)≤q.bad∧Cq q l s∧XT q l s t x)↔∃s,s<2^q.ar.length∧(sz s:Int)=q.bad∧Cq q l s∧XT q l s t x:=by
 obtain ⟨b0,b1,b2⟩:=f.bad
 constructor
 · rintro ⟨s,h1,h2,h3,h4⟩
   obtain ⟨s',a1,a2,a3⟩:=XS b2 (b:=q.bad.toNat) o! (q.bad.toNat - sz s) s h1 o!
   exact ⟨s',a1,by omega,fun i hi k hk=>h3 i (Gv f a3 hi) k (Gv f a3 hk),fun c hc=>h4 c (Gv f a3 hc)⟩
 · rintro ⟨s,h1,h2,h3,h4⟩
   exact ⟨s,h1,by omega,h3,h4⟩
theorem Gw {q:ay} {l:List aM} (f:RF q l) {s:Nat} (hs:s<256):fC q (cG q l ((s:Nat):Int))=true↔Cq q l s:=by
 obtain ⟨r0,r1,f0,f1⟩:=f.Ng
 rw[Ju f0 f1 r0 r1 (xz f _)]
 exact ⟨fun h i hi k hk=>h i ((kS f hs i).2 hi) k ((kS f hs k).2 hk),fun h i hi k hk=>h i ((kS f hs i).1 hi) k ((kS f hs k).1 hk)⟩
theorem Gy {q:ay} {l:List aM} (f:RF q l) {t:Int} (t0:0≤t) (t1:t≤100000):∀(k i:Nat) (v:List Span),i+k=2^q.ar.length→Canon v→(∀s∈v,Bd s)→
 Canon (cy q l t k i v)∧∀x,Cj (cy q l t k i v) x↔Cj v x∨∃s,i≤s∧s<2^q.ar.length∧(sz s:Int)≤q.bad∧Cq q l s∧XT q l s t x
 | 0,i,v,h,c,b=>by
   rw[cy]
   exact ⟨c,fun x=>⟨.inl,fun w=>w.elim id fun ⟨s,a,b,_⟩=>by omega⟩⟩
 | k+1,i,v,h,c,b=>by
   obtain ⟨b0,b1,b2⟩:=f.bad
   obtain ⟨r0,r1,f0,f1⟩:=f.Ng
   have hi:i<256:=by have:=xA b2;omega
   have skip:(¬((sz i:Int)≤q.bad∧Cq q l i))→Canon (cy q l t k (i+1) v)∧∀x,Cj (cy q l t k (i+1) v) x↔Cj v x∨∃s,i≤s∧s<2^q.ar.length∧(sz s:Int)≤q.bad∧Cq q l s∧XT q l s t x:=fun hn=>by
    obtain ⟨x1,x2⟩:=Gy f t0 t1 k (i+1) v o! c b
    refine ⟨x1,fun x=>(x2 x).trans (or_congr Iff.rfl ⟨fun ⟨s,a,w⟩=>⟨s,by omega,w⟩,fun ⟨s,a,w,w2,w3,w4⟩=>⟨s,?_,w,w2,w3,w4⟩⟩)⟩
    rcases Nat.lt_or_eq_of_le a with e | e
    · omega
    · subst e;exact absurd ⟨w2,w3⟩ hn
   rw[cy,Nh hi]
   by_cases e1:q.bad<(sz i:Int)
   · rw[decide_eq_true e1];exact skip fun w=>by omega
   · rw[decide_eq_false e1,ai]
     cases e2:fC q (cG q l ((i:Nat):Int)) with
     | false=>exact skip fun w=>by rw[(Gw f hi).2 w.2] at e2;cases e2
     | true=>
       have ex:=(Gw f hi).1 e2
       obtain ⟨m1,m2,m3⟩:=at_mem f0 f1 r0 r1 (xz f ((i:Nat):Int)) t0 t1 (ug q l ((i:Nat):Int)) ((Ju f0 f1 r0 r1 (xz f _)).1 e2)
       rw[aj,OP c b m1 m2]
       obtain ⟨j1,j2,_⟩:=Cl (l:=v) c m1
       obtain ⟨x1,x2⟩:=Gy f t0 t1 k (i+1) _ o! j1 (Lk b m2)
       refine ⟨x1,fun x=>?_⟩
       rw[x2,j2,m3]
       have vi:(∀c∈cG q l ((i:Nat):Int),(iw q.aD q.aC c t).aP≤x∧x≤(iw q.aD q.aC c t).aF)↔XT q l i t x:=⟨fun h c hc=>h c ((kS f hi c).2 hc),fun h c hc=>h c ((kS f hi c).1 hc)⟩
       rw[vi]
       constructor
       · rintro ((w | w) | ⟨s,a,w⟩)
         · exact .inl w
         · exact .inr ⟨i,Nat.le_refl _,by omega,by omega,ex,w⟩
         · exact .inr ⟨s,by omega,w⟩
       · rintro (w | ⟨s,a,w1,w2,w3,w4⟩)
         · exact .inl (.inl w)
         · rcases Nat.lt_or_eq_of_le a with e | e
           · exact .inr ⟨s,by omega,w1,w2,w3,w4⟩
           · subst e;exact .inl (.inr w4)
theorem Jv {q:ay} {l:List aM} (f:RF q l) {t:Int} (t0:0≤t) (t1:t≤100000):Canon (eT q l t)∧∀x,Cj (eT q l t) x↔∃s,s<2^q.ar.length∧(sz s:Int)=q.bad∧Cq q l s∧XT q l s t x:=by
 rw[eT,SD f.bad.2.2]
 obtain ⟨x1,x2⟩:=Gy f t0 t1 (2^q.ar.length) 0 [] o! .nil (fun s hs=>by cases hs)
 refine ⟨x1,fun x=>?_⟩
 rw[x2,←SF f]
 exact ⟨fun w=>w.elim (fun w=>absurd w AK) fun ⟨s,_,w⟩=>⟨s,w⟩,fun ⟨s,w⟩=> .inr ⟨s,Nat.zero_le _,w⟩⟩
def fe (f:Nat→Option Int):Nat→Nat→Option Int
 | 0,_=>none
 | k+1,i=>match f i with
   | some r=>some r
   | none=>fe f k (i+1)
def er (x:Int):Option Int:=bif !decide (x=0) then some x else none
def tE (f:Nat→Bool):Nat→Nat→Bool
 | 0,_=>false
 | k+1,i=>f i||tE f k (i+1)
theorem Jw {f g:Nat→Option Int}:∀(k i:Nat),(∀j,i≤j→j<i+k→f j=g j)→fe f k i=fe g k i
 | 0,_,_=>rfl
 | k+1,i,h=>by
   rw[fe,fe,h i (Nat.le_refl _) o!,Jw k (i+1) fun j h1 h2=>h j o! o!]
theorem any_congr {f g:Nat→Bool}:∀(k i:Nat),(∀j,i≤j→j<i+k→f j=g j)→tE f k i=tE g k i
 | 0,_,_=>rfl
 | k+1,i,h=>by
   rw[tE,tE,h i (Nat.le_refl _) o!,any_congr k (i+1) fun j h1 h2=>h j o! o!]
theorem XU (o:Option Int):(match o with | none=>0 | some r=>r)=o.getD 0:=by cases o<;>rfl
theorem ZY {α:Type} [Inhabited α] {l:List α} {i j:Nat} (h:j<i):(l.take i).g j=l.g j:=by
 rw[List.g,List.g,List.getD_eq_getElem?_getD,List.getD_eq_getElem?_getD,List.getElem?_take_of_lt h]
theorem SG {α:Type} {l:List α} {i:Nat} (h:i≤l.length):(l.take i).length=i:=by rw[List.length_take];omega
def vT (c:UInt8):Bool:=decide (97≤((c.toNat:Nat):Int))&&decide (((c.toNat:Nat):Int)≤122)
def digit (c:UInt8):Bool:=decide (48≤((c.toNat:Nat):Int))&&decide (((c.toNat:Nat):Int)≤57)
def dash (c:UInt8):Bool:=decide (((c.toNat:Nat):Int)=45)
theorem Cr (s:List bY) (P:bY→Bool):∀(k i:Nat),(ep s P k i=none∧tE (fun j=>P (s.g j)) k i=false)∨∃n:Nat,ep s P k i=some (n:Int)∧tE (fun j=>P (s.g j)) k i=true
 | 0,_=> .inl ⟨rfl,rfl⟩
 | k+1,i=>by
   rw[ep,tE]
   cases h:P (s.g i) with
   | true=>exact .inr ⟨i,rfl,rfl⟩
   | false=>exact Cr s P k (i+1)
theorem uF (s:List bY) (P:bY→Bool):fb s P=tE (fun j=>P (s.g j)) s.length 0:=by
 unfold fb aJ.fY
 rcases Cr s P s.length 0 with ⟨h1,h2⟩ | ⟨n,h1,h2⟩
 · rw[h1,h2];rfl
 · rw[h1,h2];exact decide_eq_true (Int.natCast_nonneg n)
theorem tF {s:List bY} {i:Nat} (h:i≤s.length) (P:bY→Bool):fb (s.take i) P=tE (fun j=>P (s.g j)) i 0:=by
 rw[uF,SG h]
 exact any_congr i 0 fun j _ hj=>by rw[ZY o!]
theorem nK (P:Nat→Int) (l:List bY):∀(k i:Nat),dv P l k i=fe (fun j=>er (P j)) k i
 | 0,_=>rfl
 | k+1,i=>by
   rw[dv,fe,er,nK P l k (i+1)]
   cases (!decide (P i=0))<;>rfl
theorem uG (l:List bY) (fZ:Int) (P:Nat→Int):cZ l fZ P=bif decide (fZ<((l.length:Nat):Int)) then 3 else (fe (fun j=>er (P j)) l.length 0).getD 0:=by
 unfold cZ
 rw[nK]
 cases decide (fZ<((l.length:Nat):Int)) with
 | true=>rfl
 | false=>exact XU _
theorem uY (s:List ay) (P:ay→Bool):∀(k i:Nat),(dm s P k i=none∧tE (fun j=>P (s.g j)) k i=false)∨∃n:Nat,dm s P k i=some (n:Int)∧tE (fun j=>P (s.g j)) k i=true
 | 0,_=> .inl ⟨rfl,rfl⟩
 | k+1,i=>by
   rw[dm,tE]
   cases h:P (s.g i) with
   | true=>exact .inr ⟨i,rfl,rfl⟩
   | false=>exact uY s P k (i+1)
theorem rB (s:List ay) (P:ay→Bool):cM s P=tE (fun j=>P (s.g j)) s.length 0:=by
 unfold cM aJ.et
 rcases uY s P s.length 0 with ⟨h1,h2⟩ | ⟨n,h1,h2⟩
 · rw[h1,h2];rfl
 · rw[h1,h2];exact decide_eq_true (Int.natCast_nonneg n)
def xB (f:Nat→Bool):Nat→Nat→Bool
 | 0,_=>true
 | k+1,i=>f i&&xB f k (i+1)
theorem all_congr {f g:Nat→Bool}:∀(k i:Nat),(∀j,i≤j→j<i+k→f j=g j)→xB f k i=xB g k i
 | 0,_,_=>rfl
 | k+1,i,h=>by
   rw[xB,xB,h i (Nat.le_refl _) o!,all_congr k (i+1) fun j h1 h2=>h j o! o!]
theorem Jx (a b:Int):decide (a<b)= !decide (b≤a):=by
 by_cases h:a<b
 · rw[decide_eq_true h,decide_eq_false o!];rfl
 · rw[decide_eq_false h,decide_eq_true o!];rfl
theorem El (s:List UInt8):∀(k i:Nat),bK s k i=bif xB (fun j=>vT (s.g j)||(!decide ((j:Int)=0)&&(digit (s.g j)||dash (s.g j)))) k i then none else some false
 | 0,_=>rfl
 | k+1,i=>by
   rw[bK,xB,El s k (i+1),vT,digit,dash]
   generalize xB _ k (i+1)=z
   generalize decide (97≤(((s.g i).toNat:Nat):Int))=a
   generalize decide ((((s.g i).toNat:Nat):Int)≤122)=b
   generalize decide (48≤(((s.g i).toNat:Nat):Int))=c
   generalize decide ((((s.g i).toNat:Nat):Int)≤57)=d
   generalize decide ((((s.g i).toNat:Nat):Int)=45)=e
   generalize decide ((i:Int)=0)=f
   cases a<;>cases b<;>cases c<;>cases d<;>cases e<;>cases f<;>rfl
theorem Em (s:List UInt8):∀(k i:Nat),cX s k i=bif xB (fun j=>vT (s.g j)||(digit (s.g j)||dash (s.g j))) k i then none else some false
 | 0,_=>rfl
 | k+1,i=>by
   rw[cX,xB,Em s k (i+1),vT,digit,dash]
   simp only[Jx]
   generalize xB _ k (i+1)=z
   generalize decide (97≤(((s.g i).toNat:Nat):Int))=a
   generalize decide ((((s.g i).toNat:Nat):Int)≤122)=b
   generalize decide (48≤(((s.g i).toNat:Nat):Int))=c
   generalize decide ((((s.g i).toNat:Nat):Int)≤57)=d
   generalize decide ((((s.g i).toNat:Nat):Int)=45)=e
   cases a<;>cases b<;>cases c<;>cases d<;>cases e<;>rfl
theorem Ni (s:List UInt8):gJ s=dr s:=by
 unfold gJ dr
 cases s with
 | nil=>rfl
 | cons x s=>
   rw[decide_eq_false (show ¬x::s=[] by simp),decide_eq_false (show ¬(((x::s).length:Nat):Int)=0 by simp;omega)]
   cases decide (16<(((x::s).length:Nat):Int)) with
   | true=>rfl
   | false=>
     rw[El,Em,List.length_cons,xB,xB,Jx,Jx]
     rw[all_congr (f:=fun j=>vT ((x::s).g j)||(!decide ((j:Int)=0)&&(digit ((x::s).g j)||dash ((x::s).g j)))) (g:=fun j=>vT ((x::s).g j)||(digit ((x::s).g j)||dash ((x::s).g j))) s.length (0+1) fun j hj _=>by
      simp only[decide_eq_false (show ¬(j:Int)=0 by omega),Bool.not_false,Bool.true_and]]
     simp only[vT]
     rw[show decide (((0:Nat):Int)=0)=true from rfl]
     generalize xB _ s.length (0+1)=z
     generalize decide (97≤((((x::s).g 0).toNat:Nat):Int))=a
     generalize decide (((((x::s).g 0).toNat:Nat):Int)≤122)=b
     generalize digit ((x::s).g 0)=c
     generalize dash ((x::s).g 0)=e
     cases a<;>cases b<;>cases c<;>cases e<;>cases z<;>rfl
theorem Jy (n:Int):hT n=cr n:=rfl
theorem AL (n:Int):cE n=cT n:=rfl
theorem xC (x m:Int):dZ x m=(!decide (x<0)&& !decide (m<x)):=by
 unfold dZ
 rw[Jx,Jx]
 cases decide (0≤x)<;>cases decide (x≤m)<;>rfl
theorem SH (g:bY):bM g=bif hQ g then 0 else 1:=by
 unfold bM hQ
 rw[xC,xC,AL]
 cases decide (g.acc<0)<;>cases decide (1000000000<g.acc)<;>cases decide (g.bR<0)<;>cases decide (1000000000<g.bR)<;>cases cT g.since<;>rfl
theorem Nj (q:ay) (i0:Nat):∀(k i:Nat),b6 i0 q k i=bif tE (fun j=>decide ((q.ar.g j).name=(q.ar.g i0).name)) k i then some 6 else none
 | 0,_=>rfl
 | k+1,i=>by
   rw[b6,tE,Nj q i0 k (i+1)]
   cases decide ((q.ar.g i).name=(q.ar.g i0).name)<;>rfl
theorem SI (q:ay) {i:Nat} (hi:i<q.ar.length):er (dA (q.ar.take i) (q.ar.g i))=bif (!(dr (q.ar.g i).name)) then some 5 else (match b6 i q i 0 with | none=>er (bM (q.ar.g i)) | some r=>some r):=by
 unfold dA
 rw[Ni,tF o!,Nj,SH]
 simp only[iv]
 cases dr (q.ar.g i).name with
 | false=>rfl
 | true=>
   cases tE (fun j=>decide ((q.ar.g j).name=(q.ar.g i).name)) i 0 with
   | true=>rfl
   | false=>cases hQ (q.ar.g i)<;>rfl
theorem Nk (q:ay):∀(k i:Nat),bS q k i=fe (fun i=>bif (!(dr (q.ar.g i).name)) then some 5 else (match b6 i q i 0 with | none=>er (bM (q.ar.g i)) | some r=>some r)) k i
 | 0,_=>rfl
 | k+1,i=>by
   rw[bS,fe,Nk q k (i+1)]
   cases (!(dr (q.ar.g i).name)) with
   | true=>rfl
   | false=>
     cases b6 i q i 0 with
     | some r=>rfl
     | none=>
       rw[er]
       cases (!decide (bM (q.ar.g i)=0))<;>rfl
theorem Jz (se:List ay) (q:ay):aW se q=bif (!(dr q.name)) then 5 else bif cM se (fun y=>dP y q) then 6 else aE q:=by
 unfold aW aE
 rw[Ni]
 cases dr q.name with
 | false=>rfl
 | true=>
   cases cM se (fun y=>dP y q) with
   | true=>rfl
   | false=>
     rw[Jy,Jy,xC,xC,xC,uG,Nk,Jw q.ar.length 0 fun j _ hj=>SI q o!]
     cases cr q.af with
     | false=>rfl
     | true=>cases cr q.ab with
       | false=>rfl
       | true=>cases decide (q.ab<q.af) with
         | true=>rfl
         | false=>
           cases decide (q.aC<0) with
           | true=>rfl
           | false=>cases decide (10000<q.aC) with
             | true=>rfl
             | false=>cases decide (q.aD<0) with
               | true=>rfl
               | false=>cases decide (10000<q.aD) with
                 | true=>rfl
                 | false=>cases decide (8<((q.ar.length:Nat):Int)) with
                   | true=>rfl
                   | false=>cases decide (q.bad<0) with
                     | true=>rfl
                     | false=>cases decide (((q.ar.length:Nat):Int)<q.bad) with
                       | true=>rfl
                       | false=>exact (XU _).symm
theorem XV (q:ay):aW ([]:List ay) q=aE q:=by
 rw[Jz]
 have e:cM ([]:List ay) (fun y=>dP y q)=false:=by rw[rB];rfl
 rw[e,ai,aE]
 cases dr q.name<;>rfl
theorem Ln (q:ay) (r:aM):da q r=ch q r:=by
 rw[da,ch,tA]
 by_cases h:r.aN<0
 · rw[decide_eq_true h,decide_eq_false (show ¬0≤r.aN by omega)];rfl
 · rw[decide_eq_false h,decide_eq_true (show 0≤r.aN by omega)]
   by_cases h2:r.aN<(q.ar.length:Int)
   · rw[decide_eq_true h2,decide_eq_false (show ¬(q.ar.length:Int)≤r.aN by omega)];rfl
   · rw[decide_eq_false h2,decide_eq_true (show (q.ar.length:Int)≤r.aN by omega)];rfl
theorem Nl (q:ay) (l:List aM):∀(k i:Nat),(match cS (fun jx=>eF (List.take jx l) (List.g l jx) q) l k i with | none=>0 | some r=>r)=bT q l k i 0
 | 0,_=>rfl
 | k+1,i=>by
   rw[cS,bT]
   simp only[decide_true,aj]
   rw[eF,Ln]
   by_cases h:ch q (l.g i)=0
   · rw[decide_eq_true h,h];exact Nl q l k (i+1)
   · rw[decide_eq_false h,Ca q l k (i+1) _ h];rfl
theorem iV (q:ay) (l:List aM):bf q l=aO q l:=by
 rw[bf,aO,XV]
 by_cases h:aE q=0
 · rw[decide_eq_true h,h,cN]
   by_cases h2:(64:Int)<((l.length:Nat):Int)
   · rw[decide_eq_true h2,Ca q l _ _ 3 (by decide)];rfl
   · rw[decide_eq_false h2];exact Nl q l l.length 0
 · rw[decide_eq_false h,Ca q l _ _ _ h];rfl
theorem OQ {x:Int} (h1: -9223372036854775808≤x) (h2:x<9223372036854775808):IntKind.i64.wrap x=x:=wrap_i64 h1 h2
theorem JC {g:bY} {t:Int} (h:0≤g.since∧g.since≤100000) (t0:0≤t) (t1:t≤100000):gB g t=dH g t:=by
 rw[gB,dH,OQ (x:=t - g.since) o! o!]
 obtain ⟨m1,m2⟩:=SC (x:=t - g.since) (y:=0) (m:=100000) o! o!
 generalize imax (t - g.since) 0=m at m1 m2 ⊢
 rw[OQ (x:=m+1000) o! o!,OQ (x:=m+1000 - 1) o! o!,OQ (x:=m+999) o! o!,show m+1000 - 1=m+999 by omega]
theorem En {q:ay} {t:Int} (hg:∀j,j<q.ar.length→0≤(q.ar.g j).since∧(q.ar.g j).since≤100000) (t0:0≤t) (t1:t≤100000):∀(k i:Nat) (v:Int),i+k=q.ar.length→jU q t k i v=jO q t k i v
 | 0,_,_,_=>rfl
 | k+1,i,v,h=>by rw[jU,jO,JC (hg i o!) t0 t1,En hg t0 t1 k (i+1) _ o!]
theorem OS (q:ay) (p t:Int):c_ q p t=cY q p t:=by
 rw[c_,cY,XV,AL,AL]
 by_cases h:aE q=0
 · rw[decide_eq_true h]
   simp only[Bool.not_true,ai]
   by_cases h1:p<1
   · rw[decide_eq_true h1];rfl
   · rw[decide_eq_false h1]
     simp only[ai]
     by_cases h2:(100000:Int)<p
     · rw[decide_eq_true h2,cT,decide_eq_true (show 0≤p by omega),decide_eq_false (show ¬p≤100000 by omega)];rfl
     · rw[decide_eq_false h2]
       have e1:cT p=true:=by rw[cT,decide_eq_true (show 0≤p by omega),decide_eq_true (show p≤100000 by omega)];rfl
       rw[e1]
       simp only[Bool.not_true,ai]
       cases e2:cT t with
       | false=>rfl
       | true=>
         obtain ⟨t0,t1⟩:=Gu e2
         have rf:RF q []:=Ej (by rw[aO,decide_eq_true h,h];rfl)
         rw[En (fun j hj=>by have:=rf.aN j hj;omega) t0 t1 _ _ _ o!]
 · rw[decide_eq_false h];rfl
def GA:Code:=(Try.f78.body).getD .skip
theorem OT:Try.f78.body=some GA:=by kernel_rfl
def lj (x_:Int):Bool:=(!decide (x_=x_))
theorem Eo {d:Nat} {h:aw} (x_:Int) (bH:Tidy h):cJ (d+1) (.fn 78) [(Zi x_)] h= .ret (AV.bool (lj x_)) h:=by
 have e:lj x_=(!decide (x_=x_)):=by simp only[lj,aj,ai]
 rw[e]
 exact az rfl (a_ Try.func78 OT rfl (.inr rfl) (pk (d) _ _ h _ h (CN 3<|VV (eh 3 false false .i64 x_ x_)<|CC<|ZZ) k!) k!) (Has.refl _) rfl
def Lp:Code:=(Try.f65.body).getD .skip
theorem ui:Try.f65.body=some Lp:=by kernel_rfl
def nL (x_:Int) (y_:Int):Int:=(bif (lj x_) then (bif (lj y_) then 0 else (-1)) else (bif (lj y_) then 1 else (bif (decide (x_<y_)) then (-1) else (bif (decide (y_<x_)) then 1 else 0))))
theorem Wd {d:Nat} {h:aw} (x_:Int) (y_:Int) (bH:Tidy h):cJ (d+2) (.fn 65) [(Zi x_),(Zi y_)] h= .ret (Zi (nL x_ y_)) h:=by
 have k1:=Eo (d:=d) x_ bH
 have k2:=Eo (d:=d) y_ bH
 rcases Bool.eq_false_or_eq_true (lj x_) with f0 | f0
 · rcases Bool.eq_false_or_eq_true (lj y_) with f1 | f1
   · have e:nL x_ y_=0:=by simp only[nL,f0,f1,aj,ai]
     rw[e]
     exact az rfl (a_ Try.func65 ui rfl (.inr rfl) (pk (d+1) _ _ h _ h (CN 2<|EE k1<|CN 2<|EE k2<|CN 2<|BC f0<|BC f1<|ZZ) k!) k!) (Has.refl _) rfl
   · have e:nL x_ y_=(-1):=by simp only[nL,f0,f1,aj,ai]
     rw[e]
     exact az rfl (a_ Try.func65 ui rfl (.inr rfl) (pk (d+1) _ _ h _ h (CN 2<|EE k1<|CN 2<|EE k2<|CN 2<|BC f0<|BC f1<|ZZ) k!) k!) (Has.refl _) rfl
 · rcases Bool.eq_false_or_eq_true (lj y_) with f1 | f1
   · have e:nL x_ y_=1:=by simp only[nL,f0,f1,aj,ai]
     rw[e]
     exact az rfl (a_ Try.func65 ui rfl (.inr rfl) (pk (d+1) _ _ h _ h (CN 2<|EE k1<|CN 2<|EE k2<|CN 2<|BC f0<|BC f1<|ZZ) k!) k!) (Has.refl _) rfl
   · rcases Bool.eq_false_or_eq_true (decide (x_<y_)) with f2 | f2
     · have pO:=of_decide_eq_true f2
       have e:nL x_ y_=(-1):=by simp only[nL,f0,f1,f2,aj,ai]
       rw[e]
       exact az rfl (a_ Try.func65 ui rfl (.inr rfl) (pk (d+1) _ _ h _ h (CN 2<|EE k1<|CN 2<|EE k2<|CN 2<|BC f0<|BB f1<|CN 2<|VV (bz 3 false false .i64 x_ y_)<|BC f2<|ZZ) k!) k!) (Has.refl _) rfl
     · have pO:=of_decide_eq_false f2
       rcases Bool.eq_false_or_eq_true (decide (y_<x_)) with f3 | f3
       · have l7:=of_decide_eq_true f3
         have e:nL x_ y_=1:=by simp only[nL,f0,f1,f2,f3,aj,ai]
         rw[e]
         exact az rfl (a_ Try.func65 ui rfl (.inr rfl) (pk (d+1) _ _ h _ h (CN 2<|EE k1<|CN 2<|EE k2<|CN 2<|BC f0<|BB f1<|CN 2<|VV (bz 3 false false .i64 x_ y_)<|BB f2<|CN 2<|VV (bW 3 false false .i64 x_ y_)<|BC f3<|ZZ) k!) k!) (Has.refl _) rfl
       · have l7:=of_decide_eq_false f3
         have e:nL x_ y_=0:=by simp only[nL,f0,f1,f2,f3,aj,ai]
         rw[e]
         exact az rfl (a_ Try.func65 ui rfl (.inr rfl) (pk (d+1) _ _ h _ h (CN 2<|EE k1<|CN 2<|EE k2<|CN 2<|BC f0<|BB f1<|CN 2<|VV (bz 3 false false .i64 x_ y_)<|BB f2<|CN 2<|VV (bW 3 false false .i64 x_ y_)<|BC f3<|ZZ) k!) k!) (Has.refl _) rfl
def JD:Code:=(Try.f70.body).getD .skip
theorem SJ:Try.f70.body=some JD:=by kernel_rfl
def nD (a:Gate) (b:Gate):Int:=(nL a.time b.time)
theorem SK {d:Nat} {h:aw} (a:Gate) (b:Gate) (Oy:aA.ok h a) (Pq:aA.ok h b) (bH:Tidy h):cJ (d+3) (.fn 70) [(AV.agg [(Zi a.time),(Zi a.aq),(Zi a.ak)]),(AV.agg [(Zi b.time),(Zi b.aq),(Zi b.ak)])] h= .ret (Zi (nD a b)) h:=by
 obtain ⟨h1,bD,bN,fX,aH,bZ⟩:=gu bH (aY.cells [(Zi a.time),(Zi a.aq),(Zi a.ak)] 67 false)
 have bk:Has h h1:=bZ
 obtain ⟨h2,iQ,fJ,uA,dh,dz⟩:=gu bN (aY.cells [(Zi b.time),(Zi b.aq),(Zi b.ak)] 67 false)
 have fl:Has h h2:=bk.trans dz
 have k3:=Wd (d:=d) a.time b.time fJ
 have e:nD a b=(nL a.time b.time):=by simp only[nD,aj,ai]
 rw[e]
 exact az rfl (a_ Try.func70 SJ rfl (.inr rfl) (pk (d+2) _ _ h _ h2 (NN bD (fun i=>(Pt i))<|NN iQ (fun i=>(Pt i))<|CN 2<|MM (aB 3 0 (Zi a.time) (dz _ _ aH) k!)<|CC<|MM (aB 3 0 (Zi b.time) dh k!)<|EE k3<|CC<|ZZ) k!) k!) fl rfl
set_option maxRecDepth 20000
section
variable {α:Type} [aA α] {h:aw} {l:List α} {p i:Nat} {f:TypeId} {ro:Bool}
theorem Lq {q:Nat} (hq:q=0+i*aA.n α) (hi:i<l.length):∀j,j<aA.n α→(l.flatMap aA.c)[q+j]? =(aA.c (l.g i))[j]? :=fun j hj=>by
 rw[hq,Nat.zero_add];exact iU aA.len l i j hi hj
theorem Lr {q:Nat} (hq:q=0+i*aA.n α) (hi:i<l.length):q+aA.n α≤(l.flatMap aA.c).length:=by
 rw[hq,cK aA.len,Nat.zero_add,←Nat.succ_mul];exact Nat.mul_le_mul_right _ hi
theorem mR {q:Nat} (hg:h.get p=some (.cells (l.flatMap aA.c) f ro)) (hq:q=0+i*aA.n α) (hi:i<l.length):bA env h (aA.e α) (.ptr p q)=some (.agg (aA.c (l.g i))):=by
 have h2:=Lq (l:=l) hq hi
 have hl:=aA.len (l.g i)
 have hn:=Lr (l:=l) hq hi
 simp only[bA,hg,iB,aA.agg,aA.size,hn,if_true]
 congr 2
 apply List.ext_getElem?
 intro j
 by_cases hj:j<aA.n α
 · rw[List.getElem?_take_of_lt hj,List.getElem?_drop,h2 j hj]
 · rw[List.getElem?_eq_none (by rw[List.length_take];omega),List.getElem?_eq_none o!]
theorem fj {q j:Nat} {t:TypeId} {w:AV} (hg:h.get p=some (.cells (l.flatMap aA.c) f ro)) (hq:q=0+i*aA.n α) (hi:i<l.length) (ht:fF env t=some false) (hw:(aA.c (l.g i))[j]? =some w):bA env h t (.ptr p (q+j))=some w:=by
 have hj:=(List.getElem?_eq_some_iff.1 hw).1
 rw[aA.len] at hj
 simp only[bA,hg,iB,ht]
 rw[Lq (l:=l) hq hi j hj,hw]
theorem kT {q j n:Nat} {t:TypeId} {ws:List AV} (hg:h.get p=some (.cells (l.flatMap aA.c) f ro)) (hq:q=0+i*aA.n α) (hi:i<l.length) (ht:fF env t=some true) (hs:cq env t=some n) (hj:j+n≤aA.n α) (hw:((aA.c (l.g i)).drop j).take n=ws):bA env h t (.ptr p (q+j))=some (.agg ws):=by
 have h2:=Lq (l:=l) hq hi
 have hl:=aA.len (l.g i)
 have hn:=Lr (l:=l) hq hi
 have hc:q+j+n≤(l.flatMap aA.c).length:=by omega
 simp only[bA,hg,iB,ht,hs,hc,if_true]
 rw[←hw]
 congr 2
 apply List.ext_getElem?
 intro k
 by_cases hk:k<n
 · rw[List.getElem?_take_of_lt hk,List.getElem?_take_of_lt hk,List.getElem?_drop,List.getElem?_drop,Nat.add_assoc,h2 (j+k) o!]
 · rw[List.getElem?_eq_none (by rw[List.length_take];omega),List.getElem?_eq_none (by rw[List.length_take];omega)]
theorem GB {j:Nat} {vs:List AV} {x:α} (hi:i<l.length) (hj:j+vs.length≤aA.n α) (hx:aA.c x=setFrom (aA.c (l.g i)) j vs):setFrom (l.flatMap aA.c) (i*aA.n α+j) vs=(l.set i x).flatMap aA.c:=by
 have e0:=re hi x
 rw[hx] at e0
 rw[←e0]
 have hl:=cK aA.len l
 have hb:i*aA.n α+aA.n α≤l.length*aA.n α:=by rw[←Nat.succ_mul];exact Nat.mul_le_mul_right _ hi
 have hc:=aA.len (l.g i)
 have gi:∀r,r<aA.n α→(l.flatMap aA.c)[i*aA.n α+r]? =(aA.c (l.g i))[r]? :=fun r hr=>iU aA.len l i r hi hr
 have sl:(setFrom (aA.c (l.g i)) j vs).length=aA.n α:=by rw[←hx];exact aA.len x
 apply List.ext_getElem?
 intro k
 rw[eD,eD,hl,sl]
 by_cases e:i*aA.n α≤k∧k<i*aA.n α+aA.n α
 · obtain ⟨r,rfl⟩:∃r,k=i*aA.n α+r:=⟨k - i*aA.n α,by omega⟩
   rw[if_pos (c:=i*aA.n α≤i*aA.n α+r∧i*aA.n α+r<i*aA.n α+aA.n α∧i*aA.n α+r<l.length*aA.n α) ⟨by omega,by omega,by omega⟩,Nat.add_sub_cancel_left,eD,hc]
   by_cases e2:j≤r∧r<j+vs.length
   · rw[if_pos ⟨by omega,by omega,by omega⟩,if_pos ⟨by omega,by omega,by omega⟩]
     congr 1;omega
   · rw[if_neg o!,if_neg o!,gi r o!]
 · rw[if_neg o!,if_neg o!]
theorem Has.nj {p:Nat} {h0 h h':aw} (a:Has h0 h) (k:Kept p h h') (n:h0.get p=none):Has h0 h':=fun i x g=>k i x (fun e=>by subst e;rw[n] at g;cases g) (a i x g)
theorem xD {h:aw} {p:Nat} {o:aY} (y:Tidy h) (g:h.get p=some o):∃h0,Tidy h0∧Has h0 h∧h0.get p=none∧h0.nx=h.nx∧(∀hk,Has h0 hk→Kept p h hk)∧∀g,Has g h→g.get p=none→Has g h0:=by
 refine ⟨h.put p none,fun i x q=>?_,fun i x q=>?_,aw.bU _,rfl,fun hk a i x hi q=>a i x (by rw[aw.bx (Ne.symm hi)];exact q),fun g a n i x q=>by
  by_cases e:p=i
  · subst e;rw[n] at q;cases q
  · rw[aw.bx e];exact a _ _ q⟩
 · by_cases e:p=i
   · subst e;rw[aw.bU] at q;cases q
   · rw[aw.bx e] at q;exact y _ _ q
 · by_cases e:p=i
   · subst e;rw[aw.bU] at q;cases q
   · rw[aw.bx e] at q;exact q
theorem xE {h:aw} {p:Nat} (y:Tidy h) (hp:h.nx≤p):h.get p=none:=by
 cases e:h.get p with
 | none=>rfl
 | some o=>have:=y _ _ e;omega
theorem xF {q j:Nat} {t:TypeId} {n:Nat} {v:AV} {x:α} (y:Tidy h) (hg:h.get p=some (.cells (l.flatMap aA.c) f false)) (hq:q=0+i*aA.n α) (hi:i<l.length) (hs:cq env t=some n) (hv:v.cells.length=n) (hj:j+n≤aA.n α) (hk:v.cells.all AV.scalar=true) (hx:aA.c x=setFrom (aA.c (l.g i)) j v.cells):
 ∃h',fp env h t (.ptr p (q+j)) v=some h'∧Tidy h'∧h'.nx=h.nx∧h'.get p=some (.cells ((l.set i x).flatMap aA.c) f false)∧Kept p h h':=by
 have hf:=Lr (l:=l) hq hi
 obtain ⟨h',s⟩:=wZ (E:=env) (t:=t) (o:=q+j) (n:=n) (v:=v) hg hs hv o! hk
 refine ⟨h',s,ra y s hg,sR s hg,?_,fun a w ha gw=>oK y s hg ha gw⟩
 rw[uc y s hg]
 rw[show q+j=i*aA.n α+j by omega,GB hi o! hx]
end
def xG:Code:=(Try.f93.body).getD .skip
theorem acC:Try.f93.body=some xG:=by kernel_rfl
def Wf:Code:=(ck xG).getD 0 .skip
def Wg:Code:=(ck xG).getD 1 .skip
def jg:Nat→Nat→List Gate→List Gate
 | 0,_,bh=>bh
 | bC+1,i1,bh=>(bif (decide ((nD (bh.g (bC+1)) (bh.g ((bC+1) - 1)))<0)) then jg bC (i1+1) ((bh.set (bC+1) (bh.g ((bC+1) - 1))).set ((bC+1) - 1) (bh.g (bC+1))) else bh)
theorem JE {d:Nat} {h:aw} (n:Nat) (op:Bool) (i0:Nat) (dC:Nat) (IY:i0<n) (bH:Tidy h) (Cs:h.get dC=none):∀(k_ i_:Nat) (bh:List Gate) (_:i_+k_=i0) (_:(List.length bh=n∧n≤20)) (x:Nat→AV) (hh:aw) (aL:Tidy hh) (aX:Has h hh) (gI:h.nx≤hh.nx) (cU:hh.get dC=some (aY.cells (List.flatMap (aA.c (α:=Gate)) bh) 67 false)),cP (σ:=List Gate) (ζ:=Unit) (cJ (d+4)) Wg ⟨((AV.slice dC 0 n n op)::(Zn (0))::(Zn n)::(AV.func 70 [] [])::rx x 4 4 ((Zn i0)::(Zn k_)::rx x 10 43 [])),hh,[],.no⟩ (.exit 2) hh (fun r z y=>((AV.slice dC 0 n n op)::(Zn (0))::(Zn n)::(AV.func 70 [] [])::rx y 4 4 ((Zn i0)::rx y 9 44 []))) (fun r z hk=>Has h hk∧hk.get dC=some (aY.cells (List.flatMap (aA.c (α:=Gate)) r) 67 false)∧(List.length r=n∧n≤20)) (jg k_ i_ bh)
 | 0,i1,bh,jZ,Gl,x,hh,aL,aX,gI,cU=>by
   have BS:=aL _ _ cU
   have q1:(decide (((0:Nat):Int)<((0:Nat):Int)))=false:=d!
   exact cP.out bh () rfl (pk (d+4) _ _ hh _ hh (CN 2<|VV (bW 3 false false .i64 ((0:Nat):Int) ((0:Nat):Int))<|CC<|BB q1<|BB q1<|BB q1<|BB q1<|BB q1<|BB q1<|BB q1<|BB q1<|BB q1<|BB q1<|BB q1<|BV q1 (pN false q1)<|FF<|ZZ) k!) aL o! ⟨aX,cU,(show (List.length bh=n∧n≤20) from (by first | omega | (simp only[List.length_set];omega)))⟩ k!
 | bC+1,i1,bh,jZ,Gl,x,hh,aL,aX,gI,cU=>by
   have BS:=aL _ _ cU
   have q1:(decide (((0:Nat):Int)<(((bC+1):Nat):Int)))=true:=d!
   have nI:di env (some (.slice 67)) (some (AV.slice dC 0 n n op)) (some (Zn (bC+1)))=some (AV.ptr dC (0+(bC+1)*3)):=cA (size:=3) k! (show (bC+1)<n by omega)
   have ld3:bA env hh 67 (AV.ptr dC (0+(bC+1)*3))=some (AV.agg [(Zi (bh.g (bC+1)).time),(Zi (bh.g (bC+1)).aq),(Zi (bh.g (bC+1)).ak)]):=mR (i:=(bC+1)) cU rfl (by first | omega | (simp only[List.length_set,List.length_append,List.length_cons,List.length_nil];omega))
   have u4:=Ox 3 false true (bC+1) 1 o! o!
   have Jo:di env (some (.slice 67)) (some (AV.slice dC 0 n n op)) (some (Zn ((bC+1) - 1)))=some (AV.ptr dC (0+((bC+1) - 1)*3)):=cA (size:=3) k! (show ((bC+1) - 1)<n by omega)
   have pz:bA env hh 67 (AV.ptr dC (0+((bC+1) - 1)*3))=some (AV.agg [(Zi (bh.g ((bC+1) - 1)).time),(Zi (bh.g ((bC+1) - 1)).aq),(Zi (bh.g ((bC+1) - 1)).ak)]):=mR (i:=((bC+1) - 1)) cU rfl (by first | omega | (simp only[List.length_set,List.length_append,List.length_cons,List.length_nil];omega))
   have k7:=SK (d:=d+1) (bh.g (bC+1)) (bh.g ((bC+1) - 1)) trivial trivial aL
   have c8:AV.same 20 (AV.agg [(Zi (bh.g (bC+1)).time),(Zi (bh.g (bC+1)).aq),(Zi (bh.g (bC+1)).ak)]) (AV.agg [(Zi (bh.g (bC+1)).time),(Zi (bh.g (bC+1)).aq),(Zi (bh.g (bC+1)).ak)])=true:=dx 18 (hD (fun n=>aG n _ _) (hD (fun n=>aG n _ _) (hD (fun n=>aG n _ _) AF)))
   have c9:AV.same 20 (AV.agg [(Zi (bh.g ((bC+1) - 1)).time),(Zi (bh.g ((bC+1) - 1)).aq),(Zi (bh.g ((bC+1) - 1)).ak)]) (AV.agg [(Zi (bh.g ((bC+1) - 1)).time),(Zi (bh.g ((bC+1) - 1)).aq),(Zi (bh.g ((bC+1) - 1)).ak)])=true:=dx 18 (hD (fun n=>aG n _ _) (hD (fun n=>aG n _ _) (hD (fun n=>aG n _ _) AF)))
   rcases Bool.eq_false_or_eq_true (decide ((nD (bh.g (bC+1)) (bh.g ((bC+1) - 1)))<0)) with f1 | f1
   · have iK:=of_decide_eq_true f1
     have Hj:=Ox 3 false true (bC+1) 1 o! o!
     have RO:=Ox 3 false true (bC+1) 1 o! o!
     have De:di env (some (.slice 67)) (some (AV.slice dC 0 n n op)) (some (Zn ((bC+1) - 1)))=some (AV.ptr dC (0+((bC+1) - 1)*3)):=cA (size:=3) k! (show ((bC+1) - 1)<n by omega)
     have pj:bA env hh 67 (AV.ptr dC (0+((bC+1) - 1)*3))=some (AV.agg [(Zi (bh.g ((bC+1) - 1)).time),(Zi (bh.g ((bC+1) - 1)).aq),(Zi (bh.g ((bC+1) - 1)).ak)]):=mR (i:=((bC+1) - 1)) cU rfl (by first | omega | (simp only[List.length_set,List.length_append,List.length_cons,List.length_nil];omega))
     have afk:di env (some (.slice 67)) (some (AV.slice dC 0 n n op)) (some (Zn (bC+1)))=some (AV.ptr dC (0+(bC+1)*3)):=cA (size:=3) k! (show (bC+1)<n by omega)
     have K7:bA env hh 67 (AV.ptr dC (0+(bC+1)*3))=some (AV.agg [(Zi (bh.g (bC+1)).time),(Zi (bh.g (bC+1)).aq),(Zi (bh.g (bC+1)).ak)]):=mR (i:=(bC+1)) cU rfl (by first | omega | (simp only[List.length_set,List.length_append,List.length_cons,List.length_nil];omega))
     have Sh:di env (some (.slice 67)) (some (AV.slice dC 0 n n op)) (some (Zn (bC+1)))=some (AV.ptr dC (0+(bC+1)*3)):=cA (size:=3) k! (show (bC+1)<n by omega)
     obtain ⟨XE,Z1,M3,ab9,Se,Z2⟩:=xF (i:=(bC+1)) (j:=0) (t:=67) (n:=3) (v:=(AV.agg [(Zi (bh.g ((bC+1) - 1)).time),(Zi (bh.g ((bC+1) - 1)).aq),(Zi (bh.g ((bC+1) - 1)).ak)])) (x:=(bh.g ((bC+1) - 1))) aL cU rfl (by first | omega | (simp only[List.length_set,List.length_append,List.length_cons,List.length_nil];omega)) k! rfl (by decide) (by simp [AV.cells,AV.scalar]) rfl
     have acD:fp env hh 67 (AV.ptr dC (0+(bC+1)*3)) (AV.agg [(Zi (bh.g ((bC+1) - 1)).time),(Zi (bh.g ((bC+1) - 1)).aq),(Zi (bh.g ((bC+1) - 1)).ak)])=some XE:=Z1
     have Sf:Has h XE:=Has.nj aX Z2 Cs
     have Wh:di env (some (.slice 67)) (some (AV.slice dC 0 n n op)) (some (Zn ((bC+1) - 1)))=some (AV.ptr dC (0+((bC+1) - 1)*3)):=cA (size:=3) k! (show ((bC+1) - 1)<n by omega)
     obtain ⟨SM,Z3,SN,agG,acE,Z4⟩:=xF (i:=((bC+1) - 1)) (j:=0) (t:=67) (n:=3) (v:=(AV.agg [(Zi (bh.g (bC+1)).time),(Zi (bh.g (bC+1)).aq),(Zi (bh.g (bC+1)).ak)])) (x:=(bh.g (bC+1))) M3 Se rfl (by first | omega | (simp only[List.length_set,List.length_append,List.length_cons,List.length_nil];omega)) k! rfl (by decide) (by simp [AV.cells,AV.scalar]) rfl
     have acF:fp env XE 67 (AV.ptr dC (0+((bC+1) - 1)*3)) (AV.agg [(Zi (bh.g (bC+1)).time),(Zi (bh.g (bC+1)).aq),(Zi (bh.g (bC+1)).ak)])=some SM:=Z3
     have SO:Has h SM:=Has.nj Sf Z4 Cs
     have u21:=Ox 3 false true (bC+1) 1 o! o!
     exact cP.round (by simp only[jg,f1,aj,ai]) (pk (d+4) _ _ hh _ SM (CN 2<|VV (bW 3 false false .i64 (((bC+1):Nat):Int) ((0:Nat):Int))<|CC<|BC q1<|BC q1<|BC q1<|BV q1 nI<|BM q1 ld3<|BC q1<|BC q1<|BV q1 u4<|BV q1 Jo<|BM q1 pz<|BB q1<|EE k7<|BV q1 (bz 3 false true .i64 (nD (bh.g (bC+1)) (bh.g ((bC+1) - 1))) 0)<|VV (jA (decide ((nD (bh.g (bC+1)) (bh.g ((bC+1) - 1)))<0)) false q1)<|HH (show bA env hh 67 (AV.ptr dC (0+(bC+1)*3))=some (AV.agg [(Zi (bh.g (bC+1)).time),(Zi (bh.g (bC+1)).aq),(Zi (bh.g (bC+1)).ak)]) from (mR (i:=(bC+1)) cU rfl (by first | omega | (simp only[List.length_set,List.length_append,List.length_cons,List.length_nil];omega))))<|HH c8<|HH (show bA env hh 67 (AV.ptr dC (0+((bC+1) - 1)*3))=some (AV.agg [(Zi (bh.g ((bC+1) - 1)).time),(Zi (bh.g ((bC+1) - 1)).aq),(Zi (bh.g ((bC+1) - 1)).ak)]) from (mR (i:=((bC+1) - 1)) cU rfl (by first | omega | (simp only[List.length_set,List.length_append,List.length_cons,List.length_nil];omega))))<|HH c9<|BB f1<|CN 4<|VV Hj<|CN 2<|VV RO<|VV De<|MM pj<|CN 2<|VV afk<|MM K7<|VV Sh<|SS acD<|VV Wh<|SS acF<|HH (show bA env hh 67 (AV.ptr dC (0+((bC+1) - 1)*3))=some (AV.agg [(Zi (bh.g ((bC+1) - 1)).time),(Zi (bh.g ((bC+1) - 1)).aq),(Zi (bh.g ((bC+1) - 1)).ak)]) from (mR (i:=((bC+1) - 1)) cU rfl (by first | omega | (simp only[List.length_set,List.length_append,List.length_cons,List.length_nil];omega))))<|HH c9<|HH (show bA env hh 67 (AV.ptr dC (0+(bC+1)*3))=some (AV.agg [(Zi (bh.g (bC+1)).time),(Zi (bh.g (bC+1)).aq),(Zi (bh.g (bC+1)).ak)]) from (mR (i:=(bC+1)) cU rfl (by first | omega | (simp only[List.length_set,List.length_append,List.length_cons,List.length_nil];omega))))<|HH c8<|CC<|VV u21<|CC<|ZZ) k!) o! _ k! (fun x=>JE n op i0 dC IY bH Cs bC (i1+1) ((bh.set (bC+1) (bh.g ((bC+1) - 1))).set ((bC+1) - 1) (bh.g (bC+1))) o! (show (List.length ((bh.set (bC+1) (bh.g ((bC+1) - 1))).set ((bC+1) - 1) (bh.g (bC+1)))=n∧n≤20) from (by first | omega | (simp only[List.length_set];omega))) x SM SN SO o! acE)
   · have iK:=of_decide_eq_false f1
     exact cP.out bh () (by simp only[jg,f1,aj,ai]) (pk (d+4) _ _ hh _ hh (CN 2<|VV (bW 3 false false .i64 (((bC+1):Nat):Int) ((0:Nat):Int))<|CC<|BC q1<|BC q1<|BC q1<|BV q1 nI<|BM q1 ld3<|BC q1<|BC q1<|BV q1 u4<|BV q1 Jo<|BM q1 pz<|BB q1<|EE k7<|BV q1 (bz 3 false true .i64 (nD (bh.g (bC+1)) (bh.g ((bC+1) - 1))) 0)<|VV (jA (decide ((nD (bh.g (bC+1)) (bh.g ((bC+1) - 1)))<0)) false q1)<|HH (show bA env hh 67 (AV.ptr dC (0+(bC+1)*3))=some (AV.agg [(Zi (bh.g (bC+1)).time),(Zi (bh.g (bC+1)).aq),(Zi (bh.g (bC+1)).ak)]) from (mR (i:=(bC+1)) cU rfl (by first | omega | (simp only[List.length_set,List.length_append,List.length_cons,List.length_nil];omega))))<|HH c8<|HH (show bA env hh 67 (AV.ptr dC (0+((bC+1) - 1)*3))=some (AV.agg [(Zi (bh.g ((bC+1) - 1)).time),(Zi (bh.g ((bC+1) - 1)).aq),(Zi (bh.g ((bC+1) - 1)).ak)]) from (mR (i:=((bC+1) - 1)) cU rfl (by first | omega | (simp only[List.length_set,List.length_append,List.length_cons,List.length_nil];omega))))<|HH c9<|BB f1<|ZZ) k!) aL o! ⟨aX,cU,(show (List.length bh=n∧n≤20) from (by first | omega | (simp only[List.length_set];omega)))⟩ k!
def fA (n:Nat):Nat→Nat→List Gate→List Gate
 | 0,_,jh=>jh
 | dS+1,i0,jh=>fA n dS (i0+1) (jg i0 0 jh)
theorem JF {d:Nat} {h:aw} (n:Nat) (op:Bool) (cC:Nat) (bH:Tidy h) (rX:h.get cC=none):∀(k_ i_:Nat) (jh:List Gate) (_:i_+k_=n) (_:(List.length jh=n∧n≤20)) (x:Nat→AV) (hh:aw) (aL:Tidy hh) (aX:Has h hh) (gI:h.nx≤hh.nx) (bJ:hh.get cC=some (aY.cells (List.flatMap (aA.c (α:=Gate)) jh) 67 false)),cP (σ:=List Gate) (ζ:=Unit) (cJ (d+4)) Wf ⟨((AV.slice cC 0 n n op)::(Zn (0))::(Zn n)::(AV.func 70 [] [])::rx x 4 4 ((Zn i_)::rx x 9 44 [])),hh,[],.no⟩ (.exit 0) hh (fun r z y=>((AV.slice cC 0 n n op)::(Zn (0))::(Zn n)::(AV.func 70 [] [])::rx y 4 49 [])) (fun r z hk=>Has h hk∧hk.get cC=some (aY.cells (List.flatMap (aA.c (α:=Gate)) r) 67 false)∧(List.length r=n∧n≤20)) (fA n k_ i_ jh)
 | 0,i0,jh,jZ,Gl,x,hh,aL,aX,gI,bJ=>by
   have pP:=aL _ _ bJ
   have q1:(decide (((i0:Nat):Int)<((n:Nat):Int)))=false:=d!
   exact cP.out jh () rfl (pk (d+4) _ _ hh _ hh (CN 2<|VV (bz 3 false false .i64 ((i0:Nat):Int) ((n:Nat):Int))<|BB q1<|ZZ) k!) aL o! ⟨aX,bJ,(show (List.length jh=n∧n≤20) from (by first | omega | (simp only[List.length_set];omega)))⟩ k!
 | dS+1,i0,jh,jZ,Gl,x,hh,aL,aX,gI,bJ=>by
   have pP:=aL _ _ bJ
   have q1:(decide (((i0:Nat):Int)<((n:Nat):Int)))=true:=d!
   obtain ⟨_,OH,h3,fi,eZ,qn,oU,oV,Nb⟩:=JE (d:=d) (h:=h) n op i0 cC o! bH rX i0 0 jh o! (show (List.length jh=n∧n≤20) from (by first | omega | (simp only[List.length_set];omega))) (fun k_=>(((AV.slice cC 0 n n op)::(Zn (0))::(Zn n)::(AV.func 70 [] [])::rx x 4 4 ((Zn i0)::(Zn i0)::(x 10)::(x 11)::(Zn i0)::(Zn n)::(AV.bool (decide (((i0:Nat):Int)<((n:Nat):Int))))::(x 15)::(x 16)::(Zn i0)::rx x 18 35 [])):List AV).getD k_ AV.undef) hh aL aX o! bJ
   have fu:Has h h3:=oU
   have u4:=eR 3 false true i0 1 o!
   exact cP.round (by simp only[fA,aj,ai]) (pk (d+4) _ _ hh _ h3 (CN 2<|VV (bz 3 false false .i64 ((i0:Nat):Int) ((n:Nat):Int))<|BB q1<|CN 2<|LL fi<|CC<|VV u4<|CC<|ZZ) k!) o! _ k! (fun x=>JF n op cC bH rX dS (i0+1) (jg i0 0 jh) o! (show (List.length (jg i0 0 jh)=n∧n≤20) from (by first | omega | (simp only[List.length_set];omega))) x h3 eZ fu o! oV)
theorem acG {d:Nat} {hh:aw} {p n:Nat} {op:Bool} {L:List Gate} (aL:Tidy hh) (gp:hh.get p=some (.cells (List.flatMap (aA.c (α:=Gate)) L) 67 false)) (hn:L.length=n) (Mj:n≤20) (Z5:1≤n):
 ∃hk,cJ (d+5) (.fn 93) [.slice p 0 n n op,Zi 0,Zn n,.func 70 [] []] hh= .ret (.tuple []) hk∧Tidy hk∧hh.nx≤hk.nx∧hk.get p=some (.cells (List.flatMap (aA.c (α:=Gate)) (fA n (n - 1) 1 L)) 67 false)∧Kept p hh hk:=by
 obtain ⟨h,bH,aX,hp,gI,kp,_⟩:=xD aL gp
 have T_p:=aL _ _ gp
 have u1:=eR 3 false true 0 1 o!
 obtain ⟨_,OH,h3,fi,eZ,qn,oU,oV,Nb⟩:=JF (d:=d) (h:=h) n op p bH hp (n -(0+1)) (0+1) L o! (show (List.length L=n∧n≤20) from (by first | omega | (simp only[List.length_set];omega))) (fun k_=>(((AV.slice p 0 n n op)::(Zn (0))::(Zn n)::(AV.func 70 [] [])::AV.undef::AV.undef::AV.undef::AV.undef::(Zn (0+1))::AV.undef::(Zn (0))::(Zn (0+1))::jl 41):List AV).getD k_ AV.undef) hh aL aX o! gp
 have fu:Has h h3:=oU
 have ev:=pk (d+4) xG ((AV.slice p 0 n n op)::(Zn (0))::(Zn n)::(AV.func 70 [] [])::jl 49) hh .normal h3 (CC<|VV u1<|CC<|LL fi<|ZZ) k!
 obtain ⟨hk,e,q⟩:=lu rfl (a_ Try.func93 acC k! (.inl rfl) ev k!)
 refine ⟨hk,e,?_⟩
 rcases q with rfl | ⟨rfl,A⟩
 · exact ⟨eZ,qn,oV,kp _ oU⟩
 · refine ⟨aL,Nat.le_refl _,?_,fun _ _ _ q=>q⟩
   rw[A _ _ gp] at oV
   rw[gp];exact oV
theorem Ct:∀(k i:Nat) (C:List Gate),(jg k i C).length=C.length
 | 0,_,_=>rfl
 | k+1,i,C=>by
   rw[jg]
   cases decide (nD (C.g (k+1)) (C.g ((k+1) - 1))<0) with
   | true=>rw[aj,Ct k];simp
   | false=>rfl
theorem Nn {n:Nat}:∀(k i:Nat) (C:List Gate),(fA n k i C).length=C.length
 | 0,_,_=>rfl
 | k+1,i,C=>by rw[fA,Nn k,Ct]
def xH:Code:=(Try.f81.body).getD .skip
theorem acH:Try.f81.body=some xH:=by kernel_rfl
def GC:Code:=(ck xH).getD 0 .skip
def GD:Code:=(ck xH).getD 1 .skip
theorem acI {d:Nat} {hh:aw} {p n:Nat} {op:Bool} {L:List Gate} (aL:Tidy hh) (gp:hh.get p=some (.cells (List.flatMap (aA.c (α:=Gate)) L) 67 false)) (hn:L.length=n) (Mj:n≤19) (Z5:1≤n):
 ∃hk,cJ (d+6) (.fn 81) [.slice p 0 n n op,Zn n,.func 70 [] []] hh= .ret (.tuple []) hk∧Tidy hk∧hh.nx≤hk.nx∧hk.get p=some (.cells (List.flatMap (aA.c (α:=Gate)) (fA n (n - 1) 1 L)) 67 false)∧Kept p hh hk:=by
 obtain ⟨h,bH,aX,hp,gI,kp,_⟩:=xD aL gp
 have T_p:=aL _ _ gp
 have q1:(decide (20≤((n:Nat):Int)))=false:=d!
 have ur2:Ev env (cJ (d+5)) GC ⟨((AV.slice p 0 n n op)::(Zn n)::(AV.func 70 [] [])::AV.undef::AV.undef::AV.undef::(Zi 20)::(Zi 0)::(Zi 20)::AV.undef::(Zi 20)::jl 52),hh,[],.no⟩ (.exit 0) ⟨((AV.slice p 0 n n op)::(Zn n)::(AV.func 70 [] [])::AV.undef::AV.undef::AV.undef::(Zi 20)::(Zi 0)::(Zi 20)::AV.undef::(Zi 20)::(Zi 20)::(Zn n)::(AV.bool (decide (20≤((n:Nat):Int))))::jl 49),hh,[],.no⟩:=Ev.to (pk (d+5) GC ((AV.slice p 0 n n op)::(Zn n)::(AV.func 70 [] [])::AV.undef::AV.undef::AV.undef::(Zi 20)::(Zi 0)::(Zi 20)::AV.undef::(Zi 20)::jl 52) hh (.exit 0) hh (CN 2<|VV (gR 3 false false .i64 20 ((n:Nat):Int))<|BB q1<|ZZ) k!) k!
 obtain ⟨h3,Z7,eZ,qn,oR,zP⟩:=acG (d:=d) (n:=n) (op:=op) aL gp hn o! Z5
 have fu:Has h h3:=Has.nj aX zP hp
 have q4:(decide (20<((n:Nat):Int)))=false:=d!
 have ur5:Ev env (cJ (d+5)) GD ⟨((AV.slice p 0 n n op)::(Zn n)::(AV.func 70 [] [])::AV.undef::AV.undef::AV.undef::(Zi 20)::(Zi 0)::(Zi 20)::AV.undef::(Zi 20)::(Zi 20)::(Zn n)::(AV.bool (decide (20≤((n:Nat):Int))))::AV.undef::AV.undef::AV.undef::AV.undef::AV.undef::AV.undef::AV.undef::AV.undef::AV.undef::(AV.slice p 0 n n op)::(Zi 0)::(Zn n)::(AV.func 70 [] [])::(AV.tuple [])::jl 35),h3,[],.no⟩ (.exit 2) ⟨((AV.slice p 0 n n op)::(Zn n)::(AV.func 70 [] [])::AV.undef::AV.undef::AV.undef::(Zi 20)::(Zi 0)::(Zi 20)::AV.undef::(Zi 20)::(Zi 20)::(Zn n)::(AV.bool (decide (20≤((n:Nat):Int))))::AV.undef::AV.undef::AV.undef::AV.undef::AV.undef::AV.undef::AV.undef::AV.undef::AV.undef::(AV.slice p 0 n n op)::(Zi 0)::(Zn n)::(AV.func 70 [] [])::(AV.tuple [])::(Zi 20)::(Zn n)::(AV.bool (decide (20<((n:Nat):Int))))::jl 32),h3,[],.no⟩:=Ev.to (pk (d+5) GD ((AV.slice p 0 n n op)::(Zn n)::(AV.func 70 [] [])::AV.undef::AV.undef::AV.undef::(Zi 20)::(Zi 0)::(Zi 20)::AV.undef::(Zi 20)::(Zi 20)::(Zn n)::(AV.bool (decide (20≤((n:Nat):Int))))::AV.undef::AV.undef::AV.undef::AV.undef::AV.undef::AV.undef::AV.undef::AV.undef::AV.undef::(AV.slice p 0 n n op)::(Zi 0)::(Zn n)::(AV.func 70 [] [])::(AV.tuple [])::jl 35) h3 (.exit 2) h3 (CN 2<|VV (bz 3 false false .i64 20 ((n:Nat):Int))<|BB q4<|ZZ) k!) k!
 have ev:=pk (d+5) xH ((AV.slice p 0 n n op)::(Zn n)::(AV.func 70 [] [])::jl 60) hh .normal h3 (CN 4<|LL (show Ev env (cJ (d+5)) (.loop GC) ⟨((AV.slice p 0 n n op)::(Zn n)::(AV.func 70 [] [])::AV.undef::AV.undef::AV.undef::(Zi 20)::(Zi 0)::(Zi 20)::AV.undef::(Zi 20)::jl 52),hh,[],.no⟩ (.exit 0) ⟨((AV.slice p 0 n n op)::(Zn n)::(AV.func 70 [] [])::AV.undef::AV.undef::AV.undef::(Zi 20)::(Zi 0)::(Zi 20)::AV.undef::(Zi 20)::(Zi 20)::(Zn n)::(AV.bool (decide (20≤((n:Nat):Int))))::jl 49),hh,[],.no⟩ from (Ev.out ur2))<|CN 4<|EE Z7<|LL (show Ev env (cJ (d+5)) (.loop GD) ⟨((AV.slice p 0 n n op)::(Zn n)::(AV.func 70 [] [])::AV.undef::AV.undef::AV.undef::(Zi 20)::(Zi 0)::(Zi 20)::AV.undef::(Zi 20)::(Zi 20)::(Zn n)::(AV.bool (decide (20≤((n:Nat):Int))))::AV.undef::AV.undef::AV.undef::AV.undef::AV.undef::AV.undef::AV.undef::AV.undef::AV.undef::(AV.slice p 0 n n op)::(Zi 0)::(Zn n)::(AV.func 70 [] [])::(AV.tuple [])::jl 35),h3,[],.no⟩ (.exit 2) ⟨((AV.slice p 0 n n op)::(Zn n)::(AV.func 70 [] [])::AV.undef::AV.undef::AV.undef::(Zi 20)::(Zi 0)::(Zi 20)::AV.undef::(Zi 20)::(Zi 20)::(Zn n)::(AV.bool (decide (20≤((n:Nat):Int))))::AV.undef::AV.undef::AV.undef::AV.undef::AV.undef::AV.undef::AV.undef::AV.undef::AV.undef::(AV.slice p 0 n n op)::(Zi 0)::(Zn n)::(AV.func 70 [] [])::(AV.tuple [])::(Zi 20)::(Zn n)::(AV.bool (decide (20<((n:Nat):Int))))::jl 32),h3,[],.no⟩ from (Ev.out ur5))<|ZZ) k!
 obtain ⟨hk,e,q⟩:=lu rfl (a_ Try.func81 acH k! (.inl rfl) ev k!)
 refine ⟨hk,e,?_⟩
 rcases q with rfl | ⟨rfl,A⟩
 · exact ⟨eZ,qn,oR,zP⟩
 · refine ⟨aL,Nat.le_refl _,?_,fun _ _ _ q=>q⟩
   rw[A _ _ gp] at oR
   rw[gp];exact oR
def JG:Code:=(Try.f69.body).getD .skip
theorem acJ:Try.f69.body=some JG:=by kernel_rfl
theorem XW {d:Nat} {hh:aw} {p n:Nat} {op:Bool} {L:List Gate} (aL:Tidy hh) (gp:hh.get p=some (.cells (List.flatMap (aA.c (α:=Gate)) L) 67 false)) (hn:L.length=n) (Mj:n≤19) (Z5:1≤n):
 ∃hk,cJ (d+7) (.fn 69) [.slice p 0 n n op,.func 70 [] []] hh= .ret (.tuple []) hk∧Tidy hk∧hh.nx≤hk.nx∧hk.get p=some (.cells (List.flatMap (aA.c (α:=Gate)) (fA n (n - 1) 1 L)) 67 false)∧Kept p hh hk:=by
 obtain ⟨h,bH,aX,hp,gI,kp,_⟩:=xD aL gp
 have T_p:=aL _ _ gp
 obtain ⟨h1,Z8,bN,afm,aH,XX⟩:=acI (d:=d) (n:=n) (op:=op) aL gp hn Mj Z5
 have bk:Has h h1:=Has.nj aX XX hp
 have ev:=pk (d+6) JG ((AV.slice p 0 n n op)::(AV.func 70 [] [])::jl 7) hh .normal h1 (CN 4<|EE Z8<|ZZ) k!
 obtain ⟨hk,e,q⟩:=lu rfl (a_ Try.func69 acJ k! (.inl rfl) ev k!)
 refine ⟨hk,e,?_⟩
 rcases q with rfl | ⟨rfl,A⟩
 · exact ⟨bN,afm,aH,XX⟩
 · refine ⟨aL,Nat.le_refl _,?_,fun _ _ _ q=>q⟩
   rw[A _ _ gp] at aH
   rw[gp];exact aH
def Dm:Code:=(Try.f71.body).getD .skip
theorem Ls:Try.f71.body=some Dm:=by kernel_rfl
def ba (a:Span) (b:Span):Span:=(⟨(imax a.aP b.aP),(yK a.aF b.aF)⟩:Span)
theorem Cu {d:Nat} {h:aw} (a:Span) (b:Span) (Oy:aA.ok h a) (Pq:aA.ok h b) (bH:Tidy h):cJ (d+1) (.fn 71) [(AV.agg [(Zi a.aP),(Zi a.aF)]),(AV.agg [(Zi b.aP),(Zi b.aF)])] h= .ret (AV.agg [(Zi (ba a b).aP),(Zi (ba a b).aF)]) h:=by
 obtain ⟨h1,bD,bN,fX,aH,bZ⟩:=gu bH (aY.cells [(Zi a.aP),(Zi a.aF)] 23 false)
 have bk:Has h h1:=bZ
 obtain ⟨h2,iQ,fJ,uA,dh,dz⟩:=gu bN (aY.cells [(Zi b.aP),(Zi b.aF)] 23 false)
 have fl:Has h h2:=bk.trans dz
 obtain ⟨h3,s7,eZ,I4,oR,dL⟩:=gu fJ (aY.cells [(Zi 0),(Zi 0)] 23 false)
 have fu:Has h h3:=fl.trans dL
 obtain ⟨h4,R0,ng,K3,vH,zI⟩:=pM (t:=23) (n:=2) (i:=h2.nx) (L:=[(Zi (imax a.aP b.aP)),(Zi (yK a.aF b.aF))]) eZ oR k! rfl rfl (by simp only[AV.cells,List.all_cons,List.all_nil,Bool.and_true,Bool.and_self,eI,dt,eJ,eK,cI,gU,gV,gW,gX,gY,eL])
 have mA:Has h h4:=Has.cm fu zI bH o!
 have e:ba a b=(⟨(imax a.aP b.aP),(yK a.aF b.aF)⟩:Span):=by simp only[ba,aj,ai]
 rw[e]
 exact az rfl (h_ (a:=4) (t:=23) (i:=h2.nx) Try.func71 Ls rfl (.inr rfl) (pk (d) _ _ h _ h4 (NN bD (fun i=>(Pt i))<|NN iQ (fun i=>(Pt i))<|NN s7 (fun i=>(Pt i))<|CC<|MM (aB 3 0 (Zi a.aP) (dL _ _ (dz _ _ aH)) k!)<|CC<|MM (aB 3 0 (Zi b.aP) (dL _ _ dh) k!)<|CN 2<|MM (aB 3 1 (Zi a.aF) (dL _ _ (dz _ _ aH)) k!)<|CC<|MM (aB 3 1 (Zi b.aF) (dL _ _ dh) k!)<|CN 2<|SS R0<|ZZ) k!) k! (kL vH k!)) mA rfl
end
end Go.Proofs.aJ
