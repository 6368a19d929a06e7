import Derived.Test.YtijehnelcbdlgaaGreatW6
import Derived.Test.YtijehnelcbdlgaaGreatW3
import Derived.Test.YtijehnelcbdlgaaGreatW1
import Derived.Test.YtijehnelcbdlgaaGreatW0
import Derived.Test.YtijehnelcbdlgaaGreatW2
namespace Go.Proofs.aM
open Go.Proofs Ab
noncomputable section
set_option maxRecDepth 100000
set_option maxHeartbeats 4000000
set_option linter.unusedVariables false
set_option linter.unusedSimpArgs false
theorem acZ (A:Nat→Prop) (f:Nat→Int):∀n,(∃i,i<n∧A i)→∃i,i<n∧A i∧∀k,k<n→A k→f k≤f i
 | 0,⟨i,h,_⟩=>by omega
 | n+1,⟨i,h,a⟩=>by
  by_cases e:∃i,i<n∧A i
  · obtain ⟨q,hq,aq,m⟩:=acZ A f n e
    by_cases z:A n∧f q<f n
    · refine ⟨n,by omega,z.1,fun k hk ak=>?_⟩
      by_cases y:k=n
      · rw[y];exact Int.le_refl _
      · have:=m k o! ak;omega
    · refine ⟨q,by omega,aq,fun k hk ak=>?_⟩
      by_cases y:k=n
      · subst y;by_cases w:f q<f k
        · exact absurd ⟨ak,w⟩ z
        · omega
      · exact m k o! ak
  · have NM:i=n:=by
     by_cases y:i=n
     · exact y
     · exact absurd ⟨i,by omega,a⟩ e
    subst NM
    refine ⟨i,by omega,a,fun k hk ak=>?_⟩
    by_cases y:k=i
    · rw[y];exact Int.le_refl _
    · exact absurd ⟨k,by omega,ak⟩ e
theorem J7 {α:Type} [Inhabited α] {l:List α} {i:Nat} (h:i<l.length):l.g i∈l:=by
 rw[List.g,List.getD_eq_getElem?_getD,List.getElem?_eq_getElem h];exact List.getElem_mem h
theorem kz {a:List Bool} {i q:Nat} {b:Bool}:(a.set i b).g q=if i=q∧q<a.length then b else a.g q:=by
 by_cases e:i=q
 · subst e
   by_cases h:i<a.length
   · rw[if_pos ⟨rfl,h⟩,List.g,List.getD_eq_getElem?_getD,List.getElem?_set_self h];rfl
   · rw[if_neg fun z=>h z.2,List.g,List.g,List.getD_eq_getElem?_getD,List.getD_eq_getElem?_getD,List.getElem?_eq_none (by rw[List.length_set];omega),List.getElem?_eq_none o!]
 · rw[if_neg fun z=>e z.1,List.g,List.g,List.getD_eq_getElem?_getD,List.getD_eq_getElem?_getD,List.getElem?_set_ne e]
theorem sZ.up {t:List Int} {n:Nat} {B B' C:Int} (T:sZ t n B C) (h:B≤B'):sZ t n B' C:=⟨T.is,fun k hk=>⟨(T.u k hk).1,Int.le_trans (T.u k hk).2 h⟩,T.f⟩
theorem Xi {c:Int}:∀{l:List (Span×Int)},(∀x∈l,x.2≤c)→Di l≤c*l.length
 | [],_=>by simp [Di]
 | x::l,h=>by
  have a:=h x (.head _)
  have b:=Xi (l:=l) fun y hy=>h y (.tail _ hy)
  unfold Di at b ⊢
  rw[List.map_cons,List.sum_cons,List.length_cons,show c*((l.length+1:Nat):Int)=c*l.length+c by rw[Int.natCast_add,Int.mul_add];simp]
  omega
theorem Sb {n i:Nat}:(List.replicate n false).g i=false:=by
 rw[List.g,List.getD_eq_getElem?_getD,List.getElem?_replicate];split<;>rfl
theorem akJ {α:Type} {c:Bool} {a b:α} (h:c=false):(if c=true then a else b)=b:=by rw[h];rfl
section
variable {j:bP} {s:List Int} {p:List Bool}
def vv (j:bP) (p:List Bool) (s:List Int) (r:Nat) (m:Int):Int:=tc (fun q=>if p.g q=true then z6 j s r m q else 0) j.ab.length 0
theorem ac0 (F:cE j) {r:Nat} {m:Int}:0≤vv j p s r m∧vv j p s r m≤64000:=by
 have:=acY (f:=fun q=>if p.g q=true then z6 j s r m q else 0) (k:=j.ab.length) (i:=0) fun q _ h=>by
  split
  · exact UY F o!
  · decide
 have nt:=F.nt
 unfold vv;omega
theorem ac1 {s':List Int} {r q:Nat} {m:Int} (h:s'.g q=s.g q):z6 j s' r m q=z6 j s r m q:=by
 by_cases c:J6 j s q m
 · rw[z6,z6,if_pos c,if_pos (show J6 j s' q m by unfold J6 at c ⊢;rw[h];exact c)]
 · rw[z6,z6,if_neg c,if_neg (show ¬J6 j s' q m by unfold J6 at c ⊢;rw[h];exact c)]
theorem H2 {i:Nat} (hi:i<j.ab.length) (hp:p.g i=false) (pl:p.length=j.ab.length) (sl:s.length=j.ab.length) (st:Int) (r:Nat) (m:Int):vv j (p.set i true) (s.set i st) r m=vv j p s r m+if st≤m∧m<st+(j.ab.g i).takes then gP (j.ab.g i) (r:Int) else 0:=by
 have e1:∀q,q≠i→(if (p.set i true).g q=true then z6 j (s.set i st) r m q else 0)=if p.g q=true then z6 j s r m q else 0:=fun q hq=>by
  have a:(p.set i true).g q=p.g q:=by rw[kz,if_neg fun z=>hq z.1.symm]
  have b:(s.set i st).g q=s.g q:=bk (Ne.symm hq) _
  rw[a,ac1 b]
 unfold vv
 rw[Fz (f:=fun q=>if (p.set i true).g q=true then z6 j (s.set i st) r m q else 0) (q:=i) (Nat.zero_le _) o!,Fz (f:=fun q=>if p.g q=true then z6 j s r m q else 0) (q:=i) (Nat.zero_le _) o!]
 rw[ow (f:=fun x=>if x=i then 0 else if (p.set i true).g x=true then z6 j (s.set i st) r m x else 0) (g:=fun x=>if x=i then 0 else if p.g x=true then z6 j s r m x else 0) fun q _ _=>by
  by_cases z:q=i
  · rw[if_pos z,if_pos z]
  · rw[if_neg z,if_neg z,e1 q z]]
 have a:(p.set i true).g i=true:=by rw[kz,if_pos ⟨rfl,by omega⟩]
 have b:(s.set i st).g i=st:=fk o!
 rw[a,hp,if_pos rfl,if_neg (by decide)]
 have c:z6 j (s.set i st) r m i=if st≤m∧m<st+(j.ab.g i).takes then gP (j.ab.g i) (r:Int) else 0:=by
  by_cases z:st≤m∧m<st+(j.ab.g i).takes
  · rw[z6,if_pos (show J6 j (s.set i st) i m by unfold J6;rw[b];exact z),if_pos z]
  · rw[z6,if_neg (show ¬J6 j (s.set i st) i m by unfold J6;rw[b];exact z),if_neg z]
 rw[c]
 omega
def INV (j:bP) (p:List Bool) (s:List Int) (k:Nat) (T:List Tl):Prop:=T.length=j.af.length∧∀r,r<j.af.length→∃n:Nat,sZ (T.g r).l n (1000*(16+k)) 100001∧n≤33+2*k∧(∀m,0≤m→Al (T.g r).l m n=x7 (j.af.g r) m+vv j p s r m)∧(T.g r).l.g 323=(j.af.g r).aI
theorem ac2 {n r:Nat} {m:Int}:vv j (List.replicate n false) s r m=0:=by
 unfold vv
 rw[ow (g:=fun _=>0) fun q _ _=>akJ Sb,Fy]
theorem O6 (F:cE j):INV j (List.replicate j.ab.length false) s 0 (ay j).1:=by
 rw[RG]
 refine ⟨List.length_map _,fun r hr=>?_⟩
 have hg:((j.af.map fun r=>(⟨nbT r⟩:Tl)).g r)=⟨nbT (j.af.g r)⟩:=by
  rw[List.g,List.g,List.getD_eq_getElem?_getD,List.getD_eq_getElem?_getD,List.getElem?_map,List.getElem?_eq_getElem hr];rfl
 have ro:=F.ro r hr
 have rs:=F.rs r hr
 show ∃n:Nat,sZ ((j.af.map fun r=>(⟨nbT r⟩:Tl)).g r).l n (1000*(16+((0:Nat):Int))) 100001∧n≤33+2*0∧(∀m,0≤m→Al ((j.af.map fun r=>(⟨nbT r⟩:Tl)).g r).l m n=x7 (j.af.g r) m+vv j (List.replicate j.ab.length false) s r m)∧((j.af.map fun r=>(⟨nbT r⟩:Tl)).g r).l.g 323=(j.af.g r).aI
 rw[hg]
 have hl:((j.af.g r).off.map fun s=>(s,(j.af.g r).aI)).length≤16:=by rw[List.length_map];exact ro.1
 have sp:=Xi (c:=1000) (l:=(j.af.g r).off.map fun s=>(s,(j.af.g r).aI)) fun x hx=>by
  obtain ⟨y,_,rfl⟩:=List.mem_map.1 hx
  exact rs.2.2.2
 obtain ⟨n,a,b,c,d⟩:=RD (C:=100001) ((j.af.g r).off.map fun s=>(s,(j.af.g r).aI)) (Ox (j.af.g r).aI) 1 0 (aj9 _ (by decide)) o! (fun x hx=>by
  obtain ⟨y,hy,rfl⟩:=List.mem_map.1 hx
  obtain ⟨o,ho,eo⟩:=Dj hy
  have:=ro.2 o ho
  rw[eo] at this
  exact ⟨this.1,by dsimp only;omega,rs.2.2.1⟩) o!
 refine ⟨n,a.up o!,by omega,fun m hm=>?_,d⟩
 show Al (wE (Ox (j.af.g r).aI) _) m n=_
 rw[c m hm,acf _ hm,ac2,x7];omega
theorem O7 (F:cE j) {i k:Nat} (hi:i<j.ab.length) (hk:k≤63) (hp:p.g i=false) (pl:p.length=j.ab.length) (sl:s.length=j.ab.length) {st:Int} (st0:0≤st) (st1:st+(j.ab.g i).takes≤100000) {A:List Tl} (I:INV j p s k A) (a:List Bool) (b:List Int):INV j (p.set i true) (s.set i st) (k+1) (di j a b A (i:Int) st).2.2:=by
 have tk:=F.tk i hi
 rw[Bx]
 show INV j (p.set i true) (s.set i st) (k+1) (gR A (j.ab.g (Int.toNat (i:Int))).aB ⟨st,st+(j.ab.g (Int.toNat (i:Int))).takes - 1⟩)
 rw[Int.toNat_natCast]
 refine ⟨by rw[Jy];exact I.1,fun r hr=>?_⟩
 obtain ⟨n,B,hn,lv,mk⟩:=I.2 r hr
 have hd:=OA (fun q hq=>(F.ur i hi q hq).1) (F.ud i hi)
 have hf:fit (A.g r).l=(A.g r).l:=ux B.is.len
 rcases Oz (sp:=⟨st,st+(j.ab.g i).takes - 1⟩) (r:=r) _ A hd (fun u hu=>by
  obtain ⟨q,hq,e⟩:=Dj hu
  have:=F.ur i hi q hq
  rw[e] at this
  have:=I.1;omega) with ⟨u,hu,er,g⟩ | ⟨K5,g⟩
 · rw[g,hf]
   obtain ⟨q,hq,e⟩:=Dj hu
   have um:=F.um i hi q hq
   have ur:=F.ur i hi q hq
   have us:=HZ F hi hq
   rw[e] at um ur us
   rw[er] at um
   have rs:=(F.rs r hr).2.2
   rw[show u.ah=(r:Int) by omega] at us
   obtain ⟨n',x1,x2,x3,x4⟩:=Oy B o! (s:=⟨st,st+(j.ab.g i).takes - 1⟩) (p:=u.aI) st0 (by dsimp only;omega) o! o!
   refine ⟨n',x1.up o!,by omega,fun m hm=>?_,x4.trans mk⟩
   show Al (fC (A.g r).l ⟨st,st+(j.ab.g i).takes - 1⟩ u.aI) m n'=_
   rw[x3 m hm,lv m hm,H2 hi hp pl sl]
   have:inS ⟨st,st+(j.ab.g i).takes - 1⟩ m u.aI=if st≤m∧m<st+(j.ab.g i).takes then gP (j.ab.g i) (r:Int) else 0:=by
    unfold inS
    rw[us]
    by_cases c:st≤m∧m<st+(j.ab.g i).takes
    · have c':st≤m∧m≤st+(j.ab.g i).takes - 1:=⟨c.1,by omega⟩
      exact (if_pos c').trans (if_pos c).symm
    · have c':¬(st≤m∧m≤st+(j.ab.g i).takes - 1):=fun w=>c ⟨w.1,by omega⟩
      exact (if_neg c').trans (if_neg c).symm
   rw[this];omega
 · rw[g]
   refine ⟨n,B.up o!,by omega,fun m hm=>?_,mk⟩
   have z:gP (j.ab.g i) (r:Int)=0:=by
    rcases H0 F hi (r:Int) with ⟨q,hq,e⟩ | ⟨_,e⟩
    · exact absurd (by rw[e];exact Int.toNat_natCast r) (K5 _ (J7 hq))
    · exact e
   rw[lv m hm,H2 hi hp pl sl,z,ite_self];omega
end
section
variable {j:bP} {s:List Int} {p:List Bool}
def NO (j:bP) (p:List Bool) (s:List Int) (i:Nat) (x:Int):Prop:=∀q,q<(j.ab.g i).aD.length→p.g (Int.toNat ((j.ab.g i).aD.g q))=true→s.g (Int.toNat ((j.ab.g i).aD.g q))+(j.ab.g (Int.toNat ((j.ab.g i).aD.g q))).takes≤x
def RU (j:bP) (p:List Bool) (s:List Int) (i:Nat) (x:Int) (u:Nat):Prop:=
 (∀o,o<(j.af.g (Int.toNat ((j.ab.g i).aB.g u).ah)).off.length→¬(((j.af.g (Int.toNat ((j.ab.g i).aB.g u).ah)).off.g o).a8<x+(j.ab.g i).takes∧x≤((j.af.g (Int.toNat ((j.ab.g i).aB.g u).ah)).off.g o).aQ))∧vv j p s (Int.toNat ((j.ab.g i).aB.g u).ah) x+((j.ab.g i).aB.g u).aI≤(j.af.g (Int.toNat ((j.ab.g i).aB.g u).ah)).aI∧
 ∀k,k<j.ab.length→p.g k=true→x<s.g k→s.g k<x+(j.ab.g i).takes→vv j p s (Int.toNat ((j.ab.g i).aB.g u).ah) (s.g k)+((j.ab.g i).aB.g u).aI≤(j.af.g (Int.toNat ((j.ab.g i).aB.g u).ah)).aI
theorem Xj (F:cE j) (T:Tm j s) {i:Nat} (hi:i<j.ab.length) {x:Int}:∀(k a:Nat),a+k=(j.ab.g i).aD.length→
 (jm j (i:Int) p x s k a=none∧∀q,a≤q→q<a+k→p.g (Int.toNat ((j.ab.g i).aD.g q))=true→s.g (Int.toNat ((j.ab.g i).aD.g q))+(j.ab.g (Int.toNat ((j.ab.g i).aD.g q))).takes≤x)∨(jm j (i:Int) p x s k a=some false∧¬NO j p s i x)
 | 0,a,h=> .inl ⟨rfl,fun q x y=>by omega⟩
 | k+1,a,h=>by
  have nb:=F.nb i hi a o!
  have t:=T (Int.toNat ((j.ab.g i).aD.g a)) o!
  have tk:=F.tk (Int.toNat ((j.ab.g i).aD.g a)) o!
  have ih:=Xj F T hi (x:=x) k (a+1) o!
  have rest:(p.g (Int.toNat ((j.ab.g i).aD.g a))=true→s.g (Int.toNat ((j.ab.g i).aD.g a))+(j.ab.g (Int.toNat ((j.ab.g i).aD.g a))).takes≤x)→(jm j (i:Int) p x s k (a+1)=none∧∀q,a≤q→q<a+(k+1)→p.g (Int.toNat ((j.ab.g i).aD.g q))=true→s.g (Int.toNat ((j.ab.g i).aD.g q))+(j.ab.g (Int.toNat ((j.ab.g i).aD.g q))).takes≤x)∨(jm j (i:Int) p x s k (a+1)=some false∧¬NO j p s i x):=fun c=>by
   rcases ih with ⟨e,f⟩ | g
   · refine .inl ⟨e,fun q x y=>?_⟩
     by_cases z:q=a
     · rw[z];exact c
     · exact f q o! o!
   · exact .inr g
  rw[jm,Int.toNat_natCast,wrap_i64 (n:=s.g (Int.toNat ((j.ab.g i).aD.g a))+(j.ab.g (Int.toNat ((j.ab.g i).aD.g a))).takes) o! o!]
  cases hp:p.g (Int.toNat ((j.ab.g i).aD.g a)) with
  | false=>rw[ai];exact rest fun z=>by rw[hp] at z;cases z
  | true=>
   rw[ao]
   by_cases c:x<s.g (Int.toNat ((j.ab.g i).aD.g a))+(j.ab.g (Int.toNat ((j.ab.g i).aD.g a))).takes
   · rw[eV c];exact .inr ⟨rfl,fun z=>by have:=z a o! hp;omega⟩
   · rw[fL c,ai];exact rest fun _=>by omega
theorem Xk (F:cE j) {i:Nat} (hi:i<j.ab.length) {x:Int} (h0:0≤x) (h1:x+(j.ab.g i).takes≤100000) {u:Nat}:∀(k a:Nat),
 (jn j (i:Int) u x k a=none∧∀q,a≤q→q<a+k→¬(((j.af.g (Int.toNat ((j.ab.g i).aB.g u).ah)).off.g q).a8<x+(j.ab.g i).takes∧x≤((j.af.g (Int.toNat ((j.ab.g i).aB.g u).ah)).off.g q).aQ))∨(jn j (i:Int) u x k a=some false∧∃q,q<a+k∧(((j.af.g (Int.toNat ((j.ab.g i).aB.g u).ah)).off.g q).a8<x+(j.ab.g i).takes∧x≤((j.af.g (Int.toNat ((j.ab.g i).aB.g u).ah)).off.g q).aQ))
 | 0,a=> .inl ⟨rfl,fun q x y=>by omega⟩
 | k+1,a=>by
  have tk:=F.tk i hi
  have ih:=Xk F hi h0 h1 (u:=u) k (a+1)
  have rest:¬(((j.af.g (Int.toNat ((j.ab.g i).aB.g u).ah)).off.g a).a8<x+(j.ab.g i).takes∧x≤((j.af.g (Int.toNat ((j.ab.g i).aB.g u).ah)).off.g a).aQ)→(jn j (i:Int) u x k (a+1)=none∧∀q,a≤q→q<a+(k+1)→¬(((j.af.g (Int.toNat ((j.ab.g i).aB.g u).ah)).off.g q).a8<x+(j.ab.g i).takes∧x≤((j.af.g (Int.toNat ((j.ab.g i).aB.g u).ah)).off.g q).aQ))∨(jn j (i:Int) u x k (a+1)=some false∧∃q,q<a+(k+1)∧(((j.af.g (Int.toNat ((j.ab.g i).aB.g u).ah)).off.g q).a8<x+(j.ab.g i).takes∧x≤((j.af.g (Int.toNat ((j.ab.g i).aB.g u).ah)).off.g q).aQ)):=fun c=>by
   rcases ih with ⟨e,f⟩ | ⟨e,q,x,y⟩
   · refine .inl ⟨e,fun q x y=>?_⟩
     by_cases z:q=a
     · rw[z];exact c
     · exact f q o! o!
   · exact .inr ⟨e,q,by omega,y⟩
  rw[jn,Int.toNat_natCast,wrap_i64 (n:=x+(j.ab.g i).takes) o! o!]
  by_cases c1:((j.af.g (Int.toNat ((j.ab.g i).aB.g u).ah)).off.g a).a8<x+(j.ab.g i).takes
  · rw[eV c1,ao]
    by_cases c2:x≤((j.af.g (Int.toNat ((j.ab.g i).aB.g u).ah)).off.g a).aQ
    · rw[eV c2];exact .inr ⟨rfl,a,by omega,c1,c2⟩
    · rw[fL c2,ai];exact rest fun e=>c2 e.2
  · rw[fL c1,ai];exact rest fun e=>c1 e.1
theorem ac3 (F:cE j) (T:Tm j s) {i u:Nat} (hi:i<j.ab.length) (hu:u<(j.ab.g i).aB.length) (m:Int):IntKind.i64.wrap (lX j s p ((j.ab.g i).aB.g u).ah m+((j.ab.g i).aB.g u).aI)=vv j p s (Int.toNat ((j.ab.g i).aB.g u).ah) m+((j.ab.g i).aB.g u).aI:=by
 have ur:=F.ur i hi u hu
 have um:=F.um i hi u hu
 have rm:=(F.rs (Int.toNat ((j.ab.g i).aB.g u).ah) o!).2.2
 have lb:=ac0 F (s:=s) (p:=p) (r:=(Int.toNat ((j.ab.g i).aB.g u).ah)) (m:=m)
 have ld:=agK F T p (Int.toNat ((j.ab.g i).aB.g u).ah) m
 rw[show (((Int.toNat ((j.ab.g i).aB.g u).ah):Nat):Int)=((j.ab.g i).aB.g u).ah by omega] at ld
 rw[ld]
 show IntKind.i64.wrap (vv j p s (Int.toNat ((j.ab.g i).aB.g u).ah) m+((j.ab.g i).aB.g u).aI)=_
 rw[wrap_i64 o! o!]
theorem Xl (F:cE j) (T:Tm j s) {i:Nat} (hi:i<j.ab.length) {x:Int} (h0:0≤x) (h1:x+(j.ab.g i).takes≤100000) {u:Nat} (hu:u<(j.ab.g i).aB.length):∀(k a:Nat),a+k=j.ab.length→
 (gf j p x s (i:Int) u k a=none∧∀q,a≤q→q<a+k→p.g q=true→x<s.g q→s.g q<x+(j.ab.g i).takes→vv j p s (Int.toNat ((j.ab.g i).aB.g u).ah) (s.g q)+((j.ab.g i).aB.g u).aI≤(j.af.g (Int.toNat ((j.ab.g i).aB.g u).ah)).aI)∨
 (gf j p x s (i:Int) u k a=some false∧¬RU j p s i x u)
 | 0,a,h=> .inl ⟨rfl,fun q x y=>by omega⟩
 | k+1,a,h=>by
  have tk:=F.tk i hi
  have ih:=Xl F T hi h0 h1 hu k (a+1) o!
  have rest:(p.g a=true→x<s.g a→s.g a<x+(j.ab.g i).takes→vv j p s (Int.toNat ((j.ab.g i).aB.g u).ah) (s.g a)+((j.ab.g i).aB.g u).aI≤(j.af.g (Int.toNat ((j.ab.g i).aB.g u).ah)).aI)→(gf j p x s (i:Int) u k (a+1)=none∧∀q,a≤q→q<a+(k+1)→p.g q=true→x<s.g q→s.g q<x+(j.ab.g i).takes→vv j p s (Int.toNat ((j.ab.g i).aB.g u).ah) (s.g q)+((j.ab.g i).aB.g u).aI≤(j.af.g (Int.toNat ((j.ab.g i).aB.g u).ah)).aI)∨
   (gf j p x s (i:Int) u k (a+1)=some false∧¬RU j p s i x u):=fun c=>by
   rcases ih with ⟨e,f⟩ | g
   · refine .inl ⟨e,fun q x y=>?_⟩
     by_cases z:q=a
     · rw[z];exact c
     · exact f q o! o!
   · exact .inr g
  rw[gf,Int.toNat_natCast,wrap_i64 (n:=x+(j.ab.g i).takes) o! o!,ac3 F T hi hu]
  cases e:p.g a with
  | false=>rw[ai];exact rest fun z=>by rw[e] at z;cases z
  | true=>
   rw[ao]
   by_cases c1:x<s.g a
   · rw[eV c1,ao]
     by_cases c2:s.g a<x+(j.ab.g i).takes
     · rw[eV c2,ao]
       by_cases c3:(j.af.g (Int.toNat ((j.ab.g i).aB.g u).ah)).aI<vv j p s (Int.toNat ((j.ab.g i).aB.g u).ah) (s.g a)+((j.ab.g i).aB.g u).aI
       · rw[eV c3];exact .inr ⟨rfl,fun z=>by have:=z.2.2 a o! e c1 c2;omega⟩
       · rw[fL c3,ai];exact rest fun _ _ _=>by omega
     · rw[fL c2,ai];exact rest fun _ _ z=>absurd z c2
   · rw[fL c1,ai];exact rest fun _ z=>absurd z c1
theorem Xm (F:cE j) (T:Tm j s) {i:Nat} (hi:i<j.ab.length) {x:Int} (h0:0≤x) (h1:x+(j.ab.g i).takes≤100000) (ht:0<(j.ab.g i).takes):∀(k a:Nat),a+k=(j.ab.g i).aB.length→
 (iH j (i:Int) x s p k a=none∧∀u,a≤u→u<a+k→RU j p s i x u)∨(iH j (i:Int) x s p k a=some false∧∃u,u<(j.ab.g i).aB.length∧¬RU j p s i x u)
 | 0,a,h=> .inl ⟨rfl,fun q x y=>by omega⟩
 | k+1,a,h=>by
  have hu:a<(j.ab.g i).aB.length:=by omega
  rw[iH,Int.toNat_natCast,eV ht,ao,ac3 F T hi hu]
  rcases Xk F hi h0 h1 (u:=a) (j.af.g (Int.toNat ((j.ab.g i).aB.g a).ah)).off.length 0 with ⟨e2,f2⟩ | ⟨e2,o,x,y⟩
  · rw[e2]
    by_cases c:(j.af.g (Int.toNat ((j.ab.g i).aB.g a).ah)).aI<vv j p s (Int.toNat ((j.ab.g i).aB.g a).ah) x+((j.ab.g i).aB.g a).aI
    · rw[eV c];exact .inr ⟨rfl,a,hu,fun z=>by have:=z.2.1;omega⟩
    · rw[fL c]
      rcases Xl F T hi h0 h1 hu (p:=p) j.ab.length 0 o! with ⟨e3,f3⟩ | ⟨e3,f3⟩
      · rw[e3]
        rcases Xm F T hi h0 h1 ht k (a+1) o! with ⟨e,f⟩ | g
        · refine .inl ⟨e,fun u x y=>?_⟩
          by_cases z:u=a
          · rw[z]
            exact ⟨fun o ho=>f2 o (Nat.zero_le _) o!,by omega,fun k' La=>f3 k' (Nat.zero_le _) o!⟩
          · exact f u o! o!
        · exact .inr g
      · rw[e3];exact .inr ⟨rfl,a,hu,f3⟩
  · rw[e2];exact .inr ⟨rfl,a,hu,fun z=>z.1 o o! y⟩
theorem ac4 {i:Nat} {x:Int} (ht:¬0<(j.ab.g i).takes):∀k a,iH j (i:Int) x s p k a=none
 | 0,a=>rfl
 | k+1,a=>by rw[iH,Int.toNat_natCast,fL ht];rfl
theorem ac5 (F:cE j) {i:Nat} (hi:i<j.ab.length) {x:Int} (h:¬(0≤x∧x+(j.ab.g i).takes≤100000)):iP j s p (i:Int) x=false:=by
 have tk:=F.tk i hi
 rw[iP,eO,Int.toNat_natCast]
 by_cases a:0≤x
 · rw[eV a,ao]
   by_cases b:x≤100000
   · rw[eV b,Bool.not_true,ai,wrap_i64 (n:=x+(j.ab.g i).takes) o! o!,eV (show 100000<x+(j.ab.g i).takes by omega)];rfl
   · rw[fL b];rfl
 · rw[fL a];rfl
theorem agL (F:cE j) (T:Tm j s) {i:Nat} (hi:i<j.ab.length) {x:Int} (h0:0≤x) (h1:x+(j.ab.g i).takes≤100000):iP j s p (i:Int) x=true↔NO j p s i x∧(0<(j.ab.g i).takes→∀u,u<(j.ab.g i).aB.length→RU j p s i x u):=by
 have tk:=F.tk i hi
 rw[iP,eO,eV h0,ao,eV (show x≤100000 by omega),Int.toNat_natCast,wrap_i64 (n:=x+(j.ab.g i).takes) o! o!,fL (show ¬100000<x+(j.ab.g i).takes by omega)]
 rw[Bool.not_true,ai,ai]
 rcases Xj F T hi (p:=p) (x:=x) _ 0 (Nat.zero_add _) with ⟨e,f⟩ | ⟨e,f⟩
 · rw[e]
   have no:NO j p s i x:=fun q hq=>f q (Nat.zero_le _) o!
   by_cases ht:0<(j.ab.g i).takes
   · rcases Xm F T hi h0 h1 ht (p:=p) _ 0 (Nat.zero_add _) with ⟨e1,f1⟩ | ⟨e1,u,x,y⟩
     · rw[e1];exact ⟨fun _=>⟨no,fun _ u hu=>f1 u (Nat.zero_le _) o!⟩,fun _=>rfl⟩
     · rw[e1];exact ⟨(fun z=>by cases z),fun z=>absurd (z.2 ht u x) y⟩
   · rw[ac4 ht];exact ⟨fun _=>⟨no,fun z=>absurd z ht⟩,fun _=>rfl⟩
 · rw[e];exact ⟨(fun z=>by cases z),fun z=>absurd z.1 f⟩
def OK1 (j:bP) (p:List Bool) (s:List Int) (i u:Nat) (m:Int):Prop:=x7 (j.af.g (Int.toNat ((j.ab.g i).aB.g u).ah)) m+vv j p s (Int.toNat ((j.ab.g i).aB.g u).ah) m+((j.ab.g i).aB.g u).aI≤(j.af.g (Int.toNat ((j.ab.g i).aB.g u).ah)).aI
def RM (j:bP) (p:List Bool) (s:List Int) (i:Nat) (x:Int):Prop:=0<(j.ab.g i).takes→∀u,u<(j.ab.g i).aB.length→∀m,x≤m→m<x+(j.ab.g i).takes→OK1 j p s i u m
theorem UZ (F:cE j) {r:Nat} {m m':Int} (h:∀q,q<j.ab.length→p.g q=true→J6 j s q m→gP (j.ab.g q) (r:Int)≠0→J6 j s q m'):vv j p s r m≤vv j p s r m':=by
 unfold vv
 refine O3 fun k _ hk=>?_
 have kn:k<j.ab.length:=by omega
 by_cases hp:p.g k=true
 · rw[if_pos hp,if_pos hp]
   have b:=(UY F (s:=s) (r:=r) (m:=m') kn).1
   by_cases ck:J6 j s k m
   · by_cases uk:gP (j.ab.g k) (r:Int)=0
     · rw[z6,if_pos ck,uk];exact b
     · rw[z6,if_pos ck,z6,if_pos (h k kn hp ck uk)];exact Int.le_refl _
   · rw[z6,if_neg ck];exact b
 · rw[if_neg hp,if_neg hp];exact Int.le_refl _
theorem aiy (F:cE j) (T:Tm j s) {i:Nat} (hi:i<j.ab.length) {x:Int} (h0:0≤x) (ht:0<(j.ab.g i).takes) {u:Nat} (hu:u<(j.ab.g i).aB.length):RU j p s i x u↔∀m,x≤m→m<x+(j.ab.g i).takes→OK1 j p s i u m:=by
 have ur:=F.ur i hi u hu
 have um:=F.um i hi u hu
 have rs:=F.rs (Int.toNat ((j.ab.g i).aB.g u).ah) o!
 constructor
 · intro ⟨a,b,c⟩ m m0 m1
   have o0:x7 (j.af.g (Int.toNat ((j.ab.g i).aB.g u).ah)) m=0:=DJ fun y hy w=>by
    obtain ⟨o,ho,eo⟩:=Dj hy
    have:=a o ho
    rw[eo] at this
    exact this ⟨by omega,by omega⟩
   unfold OK1
   rw[o0]
   by_cases e:∃k,k<j.ab.length∧(p.g k=true∧J6 j s k m∧gP (j.ab.g k) ((Int.toNat ((j.ab.g i).aB.g u).ah):Int)≠0)
   · obtain ⟨k,hk,⟨hp,hc,hr⟩,mx⟩:=acZ (fun k=>p.g k=true∧J6 j s k m∧gP (j.ab.g k) ((Int.toNat ((j.ab.g i).aB.g u).ah):Int)≠0) (fun k=>s.g k) _ e
     have hc1:=hc.1
     by_cases z:s.g k≤x
     · have le:=UZ F (p:=p) (s:=s) (r:=(Int.toNat ((j.ab.g i).aB.g u).ah)) (m:=m) (m':=x) fun q hq qp qc qr=>by
        have a1:=mx q hq ⟨qp,qc,qr⟩
        have a2:=qc.2
        exact ⟨by omega,by omega⟩
       omega
     · have le:=UZ F (p:=p) (s:=s) (r:=(Int.toNat ((j.ab.g i).aB.g u).ah)) (m:=m) (m':=s.g k) fun q hq qp qc qr=>by
        have a1:=mx q hq ⟨qp,qc,qr⟩
        have a2:=qc.2
        exact ⟨a1,by omega⟩
       have:=c k hk hp o! o!
       omega
   · have le:=UZ F (p:=p) (s:=s) (r:=(Int.toNat ((j.ab.g i).aB.g u).ah)) (m:=m) (m':=x) fun q hq qp qc qr=>absurd ⟨q,hq,qp,qc,qr⟩ e
     omega
 · intro K
   have nn:∀m,0≤x7 (j.af.g (Int.toNat ((j.ab.g i).aB.g u).ah)) m:=fun m=>O4 rs.2.2.1
   refine ⟨fun o ho z=>?_,?_,fun k hk hp k0 k1=>?_⟩
   · obtain ⟨m,hm1,hm2,hm3,hm4⟩:∃m:Int,((j.af.g (Int.toNat ((j.ab.g i).aB.g u).ah)).off.g o).a8≤m∧m≤((j.af.g (Int.toNat ((j.ab.g i).aB.g u).ah)).off.g o).aQ∧x≤m∧m<x+(j.ab.g i).takes:=by
      have:=rs.1 o ho
      by_cases y:x≤((j.af.g (Int.toNat ((j.ab.g i).aB.g u).ah)).off.g o).a8
      · exact ⟨((j.af.g (Int.toNat ((j.ab.g i).aB.g u).ah)).off.g o).a8,Int.le_refl _,by omega,y,z.1⟩
      · exact ⟨x,by omega,z.2,Int.le_refl _,by omega⟩
     have k:=K m hm3 hm4
     have g:=UX (c:=(j.af.g (Int.toNat ((j.ab.g i).aB.g u).ah)).aI) (m:=m) rs.2.2.1 (J7 ho) hm1 hm2
     have l:=(ac0 F (s:=s) (p:=p) (r:=(Int.toNat ((j.ab.g i).aB.g u).ah)) (m:=m)).1
     unfold OK1 x7 at k
     omega
   · have k:=K x (Int.le_refl _) o!
     have:=nn x
     unfold OK1 at k
     omega
   · have kk:=K (s.g k) o! k1
     have:=nn (s.g k)
     unfold OK1 at kk
     omega
theorem H4 (F:cE j) (T:Tm j s) {i:Nat} (hi:i<j.ab.length) (x:Int):iP j s p (i:Int) x=true↔(0≤x∧x+(j.ab.g i).takes≤100000)∧NO j p s i x∧RM j p s i x:=by
 by_cases h:0≤x∧x+(j.ab.g i).takes≤100000
 · rw[agL F T hi h.1 h.2]
   exact ⟨fun z=>⟨h,z.1,fun ht u hu=>(aiy F T hi h.1 ht hu).1 (z.2 ht u hu)⟩,fun z=>⟨z.2.1,fun ht u hu=>(aiy F T hi h.1 ht hu).2 (z.2.2 ht u hu)⟩⟩
 · rw[ac5 F hi h];exact ⟨(fun z=>by cases z),fun z=>absurd z.1 h⟩
end
def iw {ρ:Type} (call:b8) (b:Code) (s:St) (ex exs:oP) (hh:az) (tn:(Nat→AV)→List AV) (tr:ρ→(Nat→AV)→List AV):Option ρ→Prop
 | none=>∃y hk,Ev env call (.loop b) s ex ⟨tn y,hk,[],.no⟩∧Grow hh hk
 | some r=>∃y hk,Ev env call (.loop b) s exs ⟨tr r y,hk,[],.no⟩∧Grow hh hk
section
variable {ρ:Type} {call:b8} {b:Code} {s:St} {ex exs:oP} {hh hk:az} {tn:(Nat→AV)→List AV} {tr:ρ→(Nat→AV)→List AV}
theorem iw.n {o:Option ρ} (e:o=none) (x:iw call b s ex exs hh tn tr o):∃y hk,Ev env call (.loop b) s ex ⟨tn y,hk,[],.no⟩∧Grow hh hk:=by subst e;exact x
theorem iw.r {o:Option ρ} {r:ρ} (e:o=some r) (x:iw call b s ex exs hh tn tr o):∃y hk,Ev env call (.loop b) s exs ⟨tr r y,hk,[],.no⟩∧Grow hh hk:=by subst e;exact x
theorem iw.out {i:Nat} {L:List AV} {o:Option ρ} (e:o=none) (ev:Ev env call b s (.exit i) ⟨L,hk,[],.no⟩) (G:Grow hh hk) (hl:L=tn fun k=>L.getD k AV.undef):iw call b s (.exit i) exs hh tn tr o:=by
 subst e
 obtain ⟨y,q⟩:=j9 (Ev.out ev) hl
 exact ⟨y,hk,q,G⟩
theorem iw.ret {i:Nat} {L:List AV} {o:Option ρ} (r:ρ) (e:o=some r) (ev:Ev env call b s (.exit i) ⟨L,hk,[],.no⟩) (G:Grow hh hk) (hl:L=tr r fun k=>L.getD k AV.undef):iw call b s ex (.exit i) hh tn tr o:=by
 subst e
 obtain ⟨y,q⟩:=j9 (tmpl:=tr r) (Ev.out ev) hl
 exact ⟨y,hk,q,G⟩
theorem iw.round {L:List AV} {o o':Option ρ} (e:o=o') (ev:Ev env call b s .normal ⟨L,hk,[],.no⟩) (G:Grow hh hk) (Q':(Nat→AV)→List AV) (hl:L=Q' fun k=>L.getD k AV.undef) (ih:∀x,iw call b ⟨Q' x,hk,[],.no⟩ ex exs hk tn tr o'):iw call b s ex exs hh tn tr o:=by
 subst e
 have q:=ih fun k=>L.getD k AV.undef
 rw[←hl] at q
 cases o with
 | none=>obtain ⟨y,h2,x,g⟩:=q;exact ⟨y,h2,Ev.loop ev x,G.trans g⟩
 | some r=>obtain ⟨y,h2,x,g⟩:=q;exact ⟨y,h2,Ev.loop ev x,G.trans g⟩
end
structure Cl where
 b:Nat
 o:Nat
 pieces:Int
@[reducible] def Cl.c (x:Cl):List AV:=[.func 141 [.ptr x.b x.o] [],.int .i64 x.pieces]
instance:aK Cl:={default:=⟨0,0,0⟩,c:=Cl.c,n:=2,e:=207,len:=fun _=>rfl,ok:=fun _ _=>True,mono:=fun _ o=>o,size:=by kernel_rfl,agg:=by kernel_rfl,pos:=by decide}
instance:Flat Cl where
 free o:=o
def te:Code:=(Tryz.f142.body).getD .skip
theorem Sc:Tryz.f142.body=some te:=by kernel_rfl
def LQ:Code:=(bl te).getD 0 .skip
def LS:Code:=(bl te).getD 1 .skip
def hX (P:Nat→Int→Int) (mi:Int) (cF:List Cl):Nat→Nat→Option (Int)
 | 0,_=>none
 | nK+1,i1=>(bif (decide (mi<(P i1 mi))) then some (P i1 mi) else hX P mi cF nK (i1+1))
theorem zd {d:Nat} {h:az} (mi:Int) (takes:Int) (hZ:AV) (cF:List Cl) (P:Nat→Int→Int) (fm:Int) (eP:aO h hZ cF) (hP:∀i,i<cF.length→∀(f:Int) (hh:az),0≤f→f≤1000000→Tidy hh→Has h hh→cA d (.fn 141) [(AV.ptr (cF.g i).b (cF.g i).o),(Zi f),(Zi takes),(Zi (cF.g i).pieces)] hh= .ret (.int .i64 (P i f)) hh) (hB:∀i,i<cF.length→∀f:Int,0≤f→f≤1000000→P i f≤1000000) (o9:0≤fm) (rz:fm≤1000000) (rA:0≤mi) (vg:mi≤1000000):∀(k_ i_:Nat) (_:i_+k_=cF.length) (x:Nat→AV) (hh:az) (aF:Tidy hh) (aA:Has h hh),iw (cA (d)) LS ⟨((Zi mi)::(Zi takes)::hZ::rx x 3 7 (hZ::(Zn cF.length)::(Zn i_)::rx x 13 16 [])),hh,[],.no⟩ (.exit 2) (.exit 1) hh (fun y=>((Zi mi)::(Zi takes)::hZ::rx y 3 7 (hZ::(Zn cF.length)::rx y 12 17 []))) (fun r y=>((Zi r)::(Zi takes)::hZ::rx y 3 7 (hZ::(Zn cF.length)::rx y 12 17 []))) (hX P mi cF k_ i_)
 | 0,i1,eZ,x,hh,aF,aA=>by
  have q1:(decide (((i1:Nat):Int)<((cF.length:Nat):Int)))=false:=d!
  exact iw.out rfl (pk (d) _ _ hh _ hh (VV (bE 3 false false .i64 ((i1:Nat):Int) ((cF.length:Nat):Int))<|BB q1<|ZZ) k!) (Grow.refl aF) k!
 | nK+1,i1,eZ,x,hh,aF,aA=>by
  have pV:=eP.small
  have q1:(decide (((i1:Nat):Int)<((cF.length:Nat):Int)))=true:=d!
  obtain ⟨p3,q4,gh⟩:=(eP.has aA).elem (i:=i1) o!
  have kN:=(eP.has aA).load o! gh
  obtain ⟨h6,kV,ig,uz,jc,bB⟩:=gQ aF (aN.cells [AV.nilFunc,(Zi 0)] 207 false)
  have gL:=bB
  obtain ⟨h7,jw,dM,r5,dS,aX⟩:=j_ (t:=207) (n:=2) (i:=hh.nx) (L:=[(AV.func 141 [(AV.ptr (cF.g i1).b (cF.g i1).o)] []),(Zi (cF.g i1).pieces)]) ig jc k! rfl rfl (by simp only[AV.cells,List.all_cons,List.all_nil,Bool.and_true,Bool.and_self,ajy,af2,ajz,ajA,abn,ann,ano,anp,anq,anr,ajB,anH])
  have cV:=Has.bK gL aX aF o!
  have k8:=hP i1 o! mi h7 o! o! dM (aA.trans cV)
  have ei:=fun {al ps} (k:Pk al _ ps)=>(VV (bE 3 false false .i64 ((i1:Nat):Int) ((cF.length:Nat):Int))<|BV q1 gh<|MM kN<|NN kV (fun i=>(Pt i))<|SS jw<|CC<|MM (aP 205 0 (AV.func 141 [(AV.ptr (cF.g i1).b (cF.g i1).o)] []) dS k!)<|CN 3<|MM (aP 3 1 (Zi (cF.g i1).pieces) dS k!)<|EE k8<|CN 3<|VV (gz 3 false false .i64 (P i1 mi) mi)<|k:Pk _ [] ps)
  rcases bu (decide (mi<(P i1 mi))) with f1 | f1
  · have eB:=jv f1
    exact iw.ret (P i1 mi) (by simp only[hX,f1,ao,ai]) (pk (d) _ _ hh _ h7 (ei<|BB f1<|CN 2<|ZZ) k!) (⟨dM,cV,by omega⟩) k!
  · have eB:=pK f1
    have u10:=eA 3 false true i1 1 o!
    exact iw.round (by simp only[hX,f1,ao,ai]) (pk (d) _ _ hh _ h7 (ei<|BV f1 u10<|CC<|ZZ) k!) (⟨dM,cV,by omega⟩) _ k! (fun x=>zd mi takes hZ cF P fm eP hP hB o9 rz rA vg nK (i1+1) o! x h7 dM (aA.trans cV))
theorem xF {cF:List Cl} {P:Nat→Int→Int} {f:Int} (hB:∀i,i<cF.length→∀f:Int,0≤f→f≤1000000→P i f≤1000000) (h0:0≤f) (h1:f≤1000000):∀{k i:Nat} {r:Int},i+k=cF.length→hX P f cF k i=some r→f<r∧r≤1000000
 | 0,i,r,_,h=>by cases h
 | k+1,i,r,e,h=>by
  rw[hX] at h
  by_cases c:f<P i f
  · rw[eV c] at h;cases h;exact ⟨c,hB i o! f h0 h1⟩
  · rw[fL c] at h;exact xF hB h0 h1 (k:=k) o! h
def kh (P:Nat→Int→Int) (cF:List Cl):Nat→Int→Int
 | 0,mi=>mi
 | dx+1,mi=>(match (hX P mi cF cF.length 0) with | none=>mi | some Am=>kh P cF dx Am)
theorem ze {d:Nat} {h:az} (takes:Int) (hZ:AV) (cF:List Cl) (P:Nat→Int→Int) (fm:Int) (bp:aO h hZ cF) (hP:∀i,i<cF.length→∀(f:Int) (hh:az),0≤f→f≤1000000→Tidy hh→Has h hh→cA d (.fn 141) [(AV.ptr (cF.g i).b (cF.g i).o),(Zi f),(Zi takes),(Zi (cF.g i).pieces)] hh= .ret (.int .i64 (P i f)) hh) (hB:∀i,i<cF.length→∀f:Int,0≤f→f≤1000000→P i f≤1000000) (fU:0≤fm) (iB:fm≤1000000):∀(k_:Nat) (mi:Int) (_:(1000001 - mi≤(k_:Int))) (_:(0≤mi∧mi≤1000000)) (x:Nat→AV) (hh:az) (aF:Tidy hh) (aA:Has h hh),cr (cA (d)) LQ ⟨((Zi mi)::(Zi takes)::hZ::rx x 3 26 []),hh,[],.no⟩ (.exit 0) hh (fun r y=>((Zi r)::(Zi takes)::hZ::rx y 3 26 [])) (fun r=>(0≤r∧r≤1000000)) (kh P cF k_ mi)
 | 0,mi,eZ,du,x,hh,aF,aA=>by
  exfalso;omega
 | dx+1,mi,eZ,du,x,hh,aF,aA=>by
  have gN:=bp.small
  have gd:=(bp.has aA).len
  have JG:=zd (d:=d) (h:=hh) mi takes hZ cF P fm (bp.has aA) (fun i hi f hh a b y z=>hP i hi f hh a b y (aA.trans z)) hB o! o! o! o! cF.length 0 o! (dr ((Zi mi)::(Zi takes)::hZ::rx x 3 7 (hZ::(Zn cF.length)::(Zi 0)::rx x 13 16 []))) hh aF (Has.refl _)
  cases eu:hX P mi cF cF.length 0 with
  | none=>
   obtain ⟨HN,h3,dV,iC⟩:=iw.n eu JG
   have om:=iC.y
   have Oj:hh.nx≤h3.nx:=iC.n
   have fl:=iC.a
   exact cr.out mi (by simp only[kh,eu,ao,ai]) (pk (d) _ _ hh _ h3 (CC<|VV gd<|CC<|LL dV<|ZZ) k!) (⟨om,fl,by omega⟩) (show (0≤mi∧mi≤1000000) from o!) k!
  | some Am=>
   have lq_:=xF hB o! o! (Nat.zero_add _) eu
   obtain ⟨HN,h3,dV,iC⟩:=iw.r eu JG
   have om:=iC.y
   have Oj:hh.nx≤h3.nx:=iC.n
   have fl:=iC.a
   exact cr.round (by simp only[kh,eu,ao,ai]) (pk (d) _ _ hh _ h3 (CC<|VV gd<|CC<|LL dV<|ZZ) k!) (⟨om,fl,by omega⟩) _ k! (fun x=>ze takes hZ cF P fm bp hP hB fU iB dx Am o! (show (0≤Am∧Am≤1000000) from o!) x h3 om (aA.trans fl))
def vw (fm:Int) (takes:Int) (cF:List Cl) (P:Nat→Int→Int):Int:=(kh P cF (1000001 - fm).toNat fm)
theorem Sd {d:Nat} {h:az} {hZ:AV} (fm:Int) (takes:Int) (cF:List Cl) (P:Nat→Int→Int) (ac6:aO h hZ cF) (hP:∀i,i<cF.length→∀(f:Int) (hh:az),0≤f→f≤1000000→Tidy hh→Has h hh→cA d (.fn 141) [(AV.ptr (cF.g i).b (cF.g i).o),(Zi f),(Zi takes),(Zi (cF.g i).pieces)] hh= .ret (.int .i64 (P i f)) hh) (hB:∀i,i<cF.length→∀f:Int,0≤f→f≤1000000→P i f≤1000000) (mf:0≤fm) (oQ:fm≤1000000) (bM:Tidy h):cA (d+1) (.fn 142) [(Zi fm),(Zi takes),hZ] h= .ret (Zi (vw fm takes cF P)) h:=by
 obtain ⟨yl1,h2,akK,ar7,aqf⟩:=ze (d:=d) (h:=h) takes hZ cF P fm ac6 hP hB o! o! (1000001 - fm).toNat fm o! (show (0≤fm∧fm≤1000000) from o!) (dr ((Zi fm)::(Zi takes)::hZ::aL::aL::aL::(Zi 0)::iW 22)) h bM (Has.refl _)
 have gm:=ar7.a
 have e:vw fm takes cF P=(kh P cF (1000001 - fm).toNat fm):=by simp only[vw,ao,ai]
 rw[e]
 exact aG rfl (aY Tryz.func142 Sc rfl (.inr rfl) (pk (d) _ _ h _ h2 (CC<|LL akK<|CN 2<|ZZ) k!) k!) gm rfl
def O8:Code:=(Tryz.f83.body).getD .skip
theorem Zw:Tryz.f83.body=some O8:=by kernel_rfl
def dk (j:bP) (aj:List Int) (tqk:Int):Int:=(IntKind.i64.wrap ((aj.g tqk.toNat)+((j.ab.g tqk.toNat).takes)))
theorem qe {d:Nat} {h:az} {aJ:AV} (j:bP) (aj:List Int) (tqk:Int) (b7:aK.ok h j) (bA:bT h .i64 3 aJ aj) (mf:0≤tqk) (oQ:tqk<(aj.length:Int)) (xU:tqk<(j.ab.length:Int)) (bM:Tidy h):cA (d+1) (.fn 83) [(AV.agg [j.au,j.ar]),aJ,(Zi tqk)] h= .ret (Zi (dk j aj tqk)) h:=by
 obtain ⟨h1,dw,de,jW,bx,ca⟩:=gQ bM (aN.cells [j.au,j.ar] 25 false)
 have bD:=ca
 obtain ⟨p3,q4,mu,_⟩:=bA.elem (i:=tqk.toNat) o!
 have gh:=xn mu o!
 have kN:=(bA.has bD).load o! mu
 obtain ⟨p7,q8,Se⟩:=b7.1.elem (i:=tqk.toNat) o!
 have MH:=xn Se o!
 have O9:=(b7.1.has bD).part (t:=3) (j:=1) o! Se k! rfl
 have c10:=b7.1.same 19
 have e:dk j aj tqk=(IntKind.i64.wrap ((aj.g tqk.toNat)+((j.ab.g tqk.toNat).takes))):=by simp only[dk,ao,ai]
 rw[e]
 exact aG rfl (aY Tryz.func83 Zw rfl (.inr rfl) (pk (d) _ _ h _ h1 (NN dw (fun i=>(Pt i))<|CN 3<|VV gh<|MM kN<|CC<|MM (aP 22 0 j.au bx k!)<|CC<|VV MH<|CC<|MM O9<|CN 2<|HH kN<|HH (show AV.same 20 (Zi (aj.g tqk.toNat)) (Zi (aj.g tqk.toNat))=true from aS 19 _ _)<|HH (aP 22 0 j.au bx k!)<|HH c10<|HH O9<|HH (show AV.same 20 (Zi (j.ab.g tqk.toNat).takes) (Zi (j.ab.g tqk.toNat).takes)=true from aS 19 _ _)<|ZZ) k!) k!) bD rfl
def fo1 (P:Nat→Int→Int) (f:Int):Nat→Nat→Option Int
 | 0,_=>none
 | k+1,i=>bif decide (f<P i f) then some (P i f) else fo1 P f k (i+1)
def U0 (P:Nat→Int→Int) (n:Nat):Nat→Int→Int
 | 0,f=>f
 | k+1,f=>match fo1 P f n 0 with | none=>f | some r=>U0 P n k r
def fo (n:Nat) (P:Nat→Int→Int) (f:Int):Int:=U0 P n (Int.toNat (1000001 - f)) f
theorem ac7 {P:Nat→Int→Int} {f:Int} {l:List Cl}:∀k i,hX P f l k i=fo1 P f k i
 | 0,i=>rfl
 | k+1,i=>by rw[hX,fo1,ac7 k]
theorem ac8 {P:Nat→Int→Int} {l:List Cl}:∀k f,kh P l k f=U0 P l.length k f
 | 0,f=>rfl
 | k+1,f=>by
  rw[kh,U0,ac7]
  cases fo1 P f l.length 0 with
  | none=>rfl
  | some r=>exact ac8 k r
theorem aoz (f t:Int) (l:List Cl) (P:Nat→Int→Int):vw f t l P=fo l.length P f:=by rw[vw,ac8];rfl
theorem DL {P:Nat→Int→Int} {f:Int}:∀{k i:Nat} {r:Int},fo1 P f k i=some r→∃q,i≤q∧q<i+k∧r=P q f∧f<r
 | 0,i,r,h=>by cases h
 | k+1,i,r,h=>by
  rw[fo1] at h
  by_cases c:f<P i f
  · rw[eV c] at h;cases h;exact ⟨i,jR _,by omega,rfl,c⟩
  · rw[fL c] at h
    obtain ⟨q,a,b,e,g⟩:=DL (k:=k) h
    exact ⟨q,by omega,by omega,e,g⟩
theorem Sf {P:Nat→Int→Int} {f:Int}:∀{k i:Nat},fo1 P f k i=none→∀q,i≤q→q<i+k→P q f≤f
 | 0,i,_,q,a,b=>by omega
 | k+1,i,h,q,a,b=>by
  rw[fo1] at h
  by_cases c:f<P i f
  · rw[eV c] at h;cases h
  · rw[fL c] at h
    by_cases e:q=i
    · rw[e];omega
    · exact Sf (k:=k) h q o! o!
theorem ac9 {P:Nat→Int→Int} {n:Nat} (hB:∀i,i<n→∀f:Int,0≤f→f≤1000000→P i f≤1000000):∀(k:Nat) (f:Int),0≤f→f≤1000000→f≤U0 P n k f∧U0 P n k f≤1000000
 | 0,f,a,b=>⟨Int.le_refl _,b⟩
 | k+1,f,a,b=>by
  rw[U0]
  cases e:fo1 P f n 0 with
  | none=>exact ⟨Int.le_refl _,b⟩
  | some r=>
   obtain ⟨q,_,hq,er,g⟩:=DL e
   have:=hB q o! f a b
   have ih:=ac9 hB k r o! o!
   exact ⟨by show f≤U0 P n k r;omega,ih.2⟩
theorem aiz {P:Nat→Int→Int} {n:Nat} {f:Int} (hB:∀i,i<n→∀f:Int,0≤f→f≤1000000→P i f≤1000000) (h0:0≤f) (h1:f≤1000000):f≤fo n P f∧fo n P f≤1000000:=ac9 hB _ f h0 h1
theorem ada {P:Nat→Int→Int} {n:Nat}:∀(k:Nat) (f:Int),f≤U0 P n k f
 | 0,f=>Int.le_refl _
 | k+1,f=>by
  rw[U0]
  cases e:fo1 P f n 0 with
  | none=>exact Int.le_refl _
  | some r=>
   obtain ⟨q,_,hq,er,g⟩:=DL e
   have ih:=ada (P:=P) (n:=n) k r
   show f≤U0 P n k r;omega
theorem aoA {P:Nat→Int→Int} {n:Nat} (f:Int):f≤fo n P f:=ada _ f
theorem Xn {a b c:Int} (h:c≤a):c≤imax a b:=by unfold imax;split<;>omega
theorem O_ {a b c:Int} (h:a≤c) (g:b≤c):imax a b≤c:=by unfold imax;split<;>omega
theorem adb {j:bP} {aj:List Int} (sb:∀i,i<aj.length→0≤aj.g i∧aj.g i+(j.ab.g i).takes≤100000) (tk:∀i,i<j.ab.length→0≤(j.ab.g i).takes∧(j.ab.g i).takes≤100000) (hl:aj.length=j.ab.length) {n:Int} (h0:0≤n) (h1:n<(j.ab.length:Int)):0≤dk j aj n∧dk j aj n≤100000:=by
 have a:=sb n.toNat o!
 have b:=tk n.toNat o!
 rw[dk,wrap_i64 o! o!];omega
theorem zf {t:List Int} {takes pieces:Int} (hf:∀i:Nat,yO t (i:Int)≤1000000):∀(k i:Nat) (v:Int),v≤1000000→e7 t takes pieces k i v≤1000000
 | 0,i,v,h=>h
 | k+1,i,v,h=>by
  rw[e7]
  cases decide (IntKind.i64.wrap (v+takes)≤t.g (i*2)) with
  | true=>exact h
  | false=>
   rw[ai]
   cases decide (t.g 323<IntKind.i64.wrap (t.g (i*2+1)+pieces)) with
   | true=>exact zf hf k (i+1) _ (O_ h (hf i))
   | false=>exact zf hf k (i+1) v h
def ade (t:Tl):Prop:=∀i:Nat,yO (fit t.l) (i:Int)≤1000000
theorem adf {t:Tl} (h:ade t) {takes pieces f:Int} (h1:f≤1000000):pg (fit t.l) f takes pieces≤1000000:=zf h _ 0 f h1
def asks (j:bP) (tl:List Tl) (tqk:Int) (i:Nat) (f:Int):Int:=pg (fit (tl.g (Int.toNat ((j.ab.g tqk.toNat).aB.g i).ah)).l) f (j.ab.g tqk.toNat).takes ((j.ab.g tqk.toNat).aB.g i).aI
def qW (j:bP) (tqk:Int):Nat:=bif decide (0<(j.ab.g tqk.toNat).takes) then (j.ab.g tqk.toNat).aB.length else 0
theorem aoB {α β:Type} [Inhabited α] [Inhabited β] {l:List α} {f:α→β} {i:Nat} (h:i<l.length):(l.map f).g i=f (l.g i):=by
 show (l.map f).getD i default=f (l.getD i default)
 rw[List.getD_eq_getElem?_getD,List.getD_eq_getElem?_getD,List.getElem?_map,List.getElem?_eq_getElem h];rfl
theorem O':∀(n:Nat) (l:List Nat),l.Nodup→(∀x∈l,x<n)→l.length≤n
 | 0,l,_,h=>by
  cases l with
  | nil=>exact jR _
  | cons x l=>have:=h x (.head _);omega
 | n+1,l,hd,h=>by
  by_cases m:n∈l
  · have e:=List.length_erase_of_mem m
    have:=O' n (l.erase n) (hd.erase n) fun x hx=>by
     have y:=hd.mem_erase_iff.1 hx
     have z:=h x y.2
     have w:=y.1
     omega
    omega
  · have:=O' n l hd fun x hx=>by
     have z:=h x hx
     by_cases e:x=n
     · subst e;exact absurd hx m
     · omega
    omega
theorem adg {us:List ko} {n:Nat} (hd:Dis us) (hr:∀u∈us,Int.toNat u.ah<n):us.length≤n:=by
 have:=O' n (us.map fun u=>Int.toNat u.ah) (List.pairwise_map.2 (show us.Pairwise (fun a b=>Int.toNat a.ah≠Int.toNat b.ah) from hd)) fun x hx=>by
  obtain ⟨u,hu,rfl⟩:=List.mem_map.1 hx
  exact hr u hu
 rw[List.length_map] at this;exact this
end
end Go.Proofs.aM
