import Derived.Test.YtogcojohajankaaGreatW3
import Derived.Test.YtogcojohajankaaGreatW6
import Derived.Test.YtogcojohajankaaGreatW7
import Derived.Test.YtogcojohajankaaGreatW1
import Derived.Test.YtogcojohajankaaGreatW0
import Derived.Test.YtogcojohajankaaGreatW2
namespace Go.Proofs.aJ
open Go.Proofs Ab
set_option maxRecDepth 100000
set_option maxHeartbeats 4000000
set_option linter.unusedVariables false
set_option linter.unusedSimpArgs false
def qu (f:Nat→Int):Nat→Nat→Int
 | 0,_=>0
 | k+1,i=>f i+qu f k (i+1)
theorem tY {f g:Nat→Int}:∀{k i:Nat},(∀q,i≤q→q<i+k→f q=g q)→qu f k i=qu g k i
 | 0,i,h=>rfl
 | k+1,i,h=>by rw[qu,qu,h i (Nat.le_refl _) o!,tY (k:=k) (i:=i+1) fun q a b=>h q o! o!]
theorem SH {f g:Nat→Int}:∀{k i:Nat},(∀q,i≤q→q<i+k→f q≤g q)→qu f k i≤qu g k i
 | 0,i,h=>Int.le_refl _
 | k+1,i,h=>by
   have a:=h i (Nat.le_refl _) o!
   have b:=SH (k:=k) (i:=i+1) (f:=f) (g:=g) fun q a b=>h q o! o!
   rw[qu,qu];omega
theorem Jo:∀(k i:Nat),qu (fun _=>0) k i=0
 | 0,i=>rfl
 | k+1,i=>by rw[qu,Jo k (i+1)];rfl
theorem Cx {f:Nat→Int} {q:Nat}:∀{k i:Nat},i≤q→q<i+k→qu f k i=f q+qu (fun x=>if x=q then 0 else f x) k i
 | 0,i,a,b=>by omega
 | k+1,i,a,b=>by
   rw[qu,qu]
   by_cases e:i=q
   · subst e
     rw[if_pos rfl,tY (f:=f) (g:=fun x=>if x=i then 0 else f x) (k:=k) (i:=i+1) fun x p _=>by rw[if_neg o!]]
     omega
   · rw[if_neg e,Cx (q:=q) (k:=k) (i:=i+1) o! o!];omega
def Od (j:cG) (s:List Int) (i:Nat) (m:Int):Prop:=s.g i≤m∧m<s.g i+(j.ab.g i).takes
instance (j:cG) (s:List Int) (i:Nat) (m:Int):Decidable (Od j s i m):=by unfold Od;infer_instance
def Cy (j:cG) (s:List Int) (r:Nat) (m:Int) (i:Nat):Int:=if Od j s i m then hS (j.ab.g i) (r:Int) else 0
def Oe (x:bI) (m:Int):Int:=Ge (x.off.map fun s=>(s,x.aB)) m
theorem Jp {x:Task} {r:Int}:∀{k i:Nat},(∀q,i≤q→q<i+k→(x.au.g q).ah≠r)→km x r k i=none
 | 0,i,h=>rfl
 | k+1,i,h=>by
   rw[km,decide_eq_false (h i (Nat.le_refl _) o!),cond_false]
   exact Jp fun q a b=>h q o! o!
theorem Of {x:Task} {r:Int} {q0:Nat}:∀{k i:Nat},i≤q0→q0<i+k→(x.au.g q0).ah=r→(∀q,i≤q→q<q0→(x.au.g q).ah≠r)→km x r k i=some (x.au.g q0).aB
 | 0,i,a,b,e,h=>by omega
 | k+1,i,a,b,e,h=>by
   rw[km]
   by_cases z:i=q0
   · subst z;rw[decide_eq_true e];rfl
   · rw[decide_eq_false (h i (Nat.le_refl _) o!),cond_false]
     exact Of o! o! e fun q a b=>h q o! o!
theorem SI {j:cG} (F:cu j) {i:Nat} (hi:i<j.ab.length) {q:Nat} (hq:q<(j.ab.g i).au.length):hS (j.ab.g i) ((j.ab.g i).au.g q).ah=((j.ab.g i).au.g q).aB:=by
 rw[hS,Of (q0:=q) (Nat.zero_le _) o! rfl fun q' _ h=>F.ud i hi q' o! q h hq]
theorem SJ {j:cG} (F:cu j) {i:Nat} (hi:i<j.ab.length) (r:Int):(∃q,q<(j.ab.g i).au.length∧((j.ab.g i).au.g q).ah=r)∨((∀q,q<(j.ab.g i).au.length→((j.ab.g i).au.g q).ah≠r)∧hS (j.ab.g i) r=0):=by
 by_cases h:∃q,q<(j.ab.g i).au.length∧((j.ab.g i).au.g q).ah=r
 · exact .inl h
 · have hn:∀q,q<(j.ab.g i).au.length→((j.ab.g i).au.g q).ah≠r:=fun q hq e=>h ⟨q,hq,e⟩
   exact .inr ⟨hn,by rw[hS,Jp fun q _ b=>hn q o!]⟩
theorem SK {j:cG} (F:cu j) {i:Nat} (hi:i<j.ab.length) (r:Int):0≤hS (j.ab.g i) r∧hS (j.ab.g i) r≤1000:=by
 rcases SJ F hi r with ⟨q,hq,e⟩ | ⟨_,e⟩
 · rw[←e,SI F hi hq]
   have a:=F.um i hi q hq
   have b:=F.ur i hi q hq
   have c:=(F.rs (Int.toNat ((j.ab.g i).au.g q).ah) o!).2.2
   omega
 · rw[e];decide
theorem sG (s:Span) (c:Int) (l:List (Span×Int)) (m:Int):Ge ((s,c)::l) m=Va s m c+Ge l m:=by
 unfold Ge;rw[List.map_cons,List.sum_cons]
theorem Og {c m:Int}:∀{l:List Span},(∀s∈l,¬(s.bl≤m∧m≤s.aN))→Ge (l.map fun s=>(s,c)) m=0
 | [],_=>rfl
 | s::l,h=>by
   rw[List.map_cons,sG,Og fun x hx=>h x (.tail _ hx),Va,if_neg (h s (.head _))];rfl
theorem QK {c m:Int} (hc:0≤c):∀{l:List Span},0≤Ge (l.map fun s=>(s,c)) m
 | []=>Int.le_refl _
 | s::l=>by
   have:=QK hc (m:=m) (l:=l)
   rw[List.map_cons,sG,Va]
   split<;>omega
theorem Yy {c m:Int} (hc:0≤c) {s:Span}:∀{l:List Span},s∈l→s.bl≤m→m≤s.aN→c≤Ge (l.map fun s=>(s,c)) m
 | x::l,h,a,b=>by
   rw[List.map_cons,sG,Va]
   cases h with
   | head=>rw[if_pos ⟨a,b⟩];have:=QK hc (m:=m) (l:=l);omega
   | tail _ h=>have:=Yy hc h a b;split<;>omega
def Tm (j:cG) (s:List Int):Prop:=∀i,i<j.ab.length→0≤s.g i∧s.g i+(j.ab.g i).takes≤100000
theorem Lt {j:cG} (F:cu j) {s:List Int} (T:Tm j s) {p:List Bool} {r:Nat} {m:Int}:∀(k i:Nat) (v:Int),i+k=j.ab.length→0≤v→v≤1000*i→gR j (r:Int) p s m k i v=v+qu (fun q=>if p.g q=true then Cy j s r m q else 0) k i
 | 0,i,v,h,a,b=>by rw[gR,qu];omega
 | k+1,i,v,h,a,b=>by
   have hi:i<j.ab.length:=by omega
   have t:=T i hi
   have tk:=F.tk i hi
   have u:=SK F hi (r:Int)
   have nt:=F.nt
   rw[gR,qu,wrap_i64 (n:=s.g i+(j.ab.g i).takes) o! o!,wrap_i64 (n:=v+hS (j.ab.g i) (r:Int)) o! o!]
   have z:=Lt F T (p:=p) (r:=r) (m:=m) k (i+1) v o! a o!
   have y:=Lt F T (p:=p) (r:=r) (m:=m) k (i+1) (v+hS (j.ab.g i) (r:Int)) o! o! o!
   rw[y,z]
   cases hp:p.g i with
   | false=>rw[cond_false,if_neg (by simp)];omega
   | true=>
     rw[cond_true,if_pos rfl,Cy]
     by_cases c1:s.g i≤m
     · rw[decide_eq_true c1,cond_true]
       by_cases c2:m<s.g i+(j.ab.g i).takes
       · rw[decide_eq_true c2,cond_true,if_pos ⟨c1,c2⟩];omega
       · rw[decide_eq_false c2,cond_false,if_neg fun e=>c2 e.2];omega
     · rw[decide_eq_false c1,cond_false,if_neg fun e=>c1 e.1];omega
theorem aca {j:cG} (F:cu j) {s:List Int} (T:Tm j s) (p:List Bool) (r:Nat) (m:Int):jv j s p (r:Int) m=qu (fun q=>if p.g q=true then Cy j s r m q else 0) j.ab.length 0:=by
 rw[jv,Lt F T _ _ _ o! o! o!];omega
theorem Yz {j:cG} (F:cu j) {s:List Int} {r:Nat} {m:Int} {i:Nat} (hi:i<j.ab.length):0≤Cy j s r m i∧Cy j s r m i≤1000:=by
 have:=SK F hi (r:Int)
 unfold Cy;split<;>omega
theorem YA {f:Nat→Int}:∀{k i:Nat},(∀q,i≤q→q<i+k→0≤f q∧f q≤1000)→0≤qu f k i∧qu f k i≤1000*k
 | 0,i,h=>⟨Int.le_refl _,Int.le_refl _⟩
 | k+1,i,h=>by
   have a:=h i (Nat.le_refl _) o!
   have b:=YA (f:=f) (k:=k) (i:=i+1) fun q x y=>h q o! o!
   rw[qu];omega
theorem YB (A:Nat→Prop) (f:Nat→Int):∀n,(∃i,i<n∧A i)→∃i,i<n∧A i∧∀k,k<n→A k→f k≤f i
 | 0,⟨i,h,_⟩=>by omega
 | n+1,⟨i,h,a⟩=>by
   by_cases e:∃i,i<n∧A i
   · obtain ⟨q,hq,aq,m⟩:=YB A f n e
     by_cases z:A n∧f q<f n
     · refine ⟨n,by omega,z.1,fun k hk ak=>?_⟩
       by_cases y:k=n
       · rw[y];exact Int.le_refl _
       · have:=m k o! ak;omega
     · refine ⟨q,by omega,aq,fun k hk ak=>?_⟩
       by_cases y:k=n
       · subst y;by_cases w:f q<f k
         · exact absurd ⟨ak,w⟩ z
         · omega
       · exact m k o! ak
   · have Hy:i=n:=by
      by_cases y:i=n
      · exact y
      · exact absurd ⟨i,by omega,a⟩ e
     subst Hy
     refine ⟨i,by omega,a,fun k hk ak=>?_⟩
     by_cases y:k=i
     · rw[y];exact Int.le_refl _
     · exact absurd ⟨k,by omega,ak⟩ e
theorem GS {α:Type} [Inhabited α] {l:List α} {i:Nat} (h:i<l.length):l.g i∈l:=by
 rw[List.g,List.getD_eq_getElem?_getD,List.getElem?_eq_getElem h];exact List.getElem_mem h
theorem QL {a:List Bool} {i q:Nat} {b:Bool}:(a.set i b).g q=if i=q∧q<a.length then b else a.g q:=by
 by_cases e:i=q
 · subst e
   by_cases h:i<a.length
   · rw[if_pos ⟨rfl,h⟩,List.g,List.getD_eq_getElem?_getD,List.getElem?_set_self h];rfl
   · rw[if_neg fun z=>h z.2,List.g,List.g,List.getD_eq_getElem?_getD,List.getD_eq_getElem?_getD,List.getElem?_eq_none (by rw[List.length_set];omega),List.getElem?_eq_none o!]
 · rw[if_neg fun z=>e z.1,List.g,List.g,List.getD_eq_getElem?_getD,List.getD_eq_getElem?_getD,List.getElem?_set_ne e]
theorem qo.up {t:List Int} {n:Nat} {B B' C:Int} (T:qo t n B C) (h:B≤B'):qo t n B' C:=⟨T.is,fun k hk=>⟨(T.u k hk).1,Int.le_trans (T.u k hk).2 h⟩,T.f⟩
theorem SL {c:Int}:∀{l:List (Span×Int)},(∀x∈l,x.2≤c)→AN l≤c*l.length
 | [],_=>by simp [AN]
 | x::l,h=>by
   have a:=h x (.head _)
   have b:=SL (l:=l) fun y hy=>h y (.tail _ hy)
   unfold AN at b ⊢
   rw[List.map_cons,List.sum_cons,List.length_cons,show c*((l.length+1:Nat):Int)=c*l.length+c by rw[Int.natCast_add,Int.mul_add];simp]
   omega
theorem adA {n i:Nat}:(List.replicate n false).g i=false:=by
 rw[List.g,List.getD_eq_getElem?_getD,List.getElem?_replicate];split<;>rfl
theorem afH {α:Type} {c:Bool} {a b:α} (h:c=false):(if c=true then a else b)=b:=by rw[h];rfl
section
variable {j:cG} {s:List Int} {p:List Bool}
def GU (j:cG) (p:List Bool) (s:List Int) (r:Nat) (m:Int):Int:=qu (fun q=>if p.g q=true then Cy j s r m q else 0) j.ab.length 0
theorem YC (F:cu j) {r:Nat} {m:Int}:0≤GU j p s r m∧GU j p s r m≤64000:=by
 have:=YA (f:=fun q=>if p.g q=true then Cy j s r m q else 0) (k:=j.ab.length) (i:=0) fun q _ h=>by
  split
  · exact Yz F o!
  · decide
 have nt:=F.nt
 unfold GU;omega
theorem afI {s':List Int} {r q:Nat} {m:Int} (h:s'.g q=s.g q):Cy j s' r m q=Cy j s r m q:=by
 by_cases c:Od j s q m
 · rw[Cy,Cy,if_pos c,if_pos (show Od j s' q m by unfold Od at c ⊢;rw[h];exact c)]
 · rw[Cy,Cy,if_neg c,if_neg (show ¬Od j s' q m by unfold Od at c ⊢;rw[h];exact c)]
theorem SM {i:Nat} (hi:i<j.ab.length) (hp:p.g i=false) (pl:p.length=j.ab.length) (sl:s.length=j.ab.length) (st:Int) (r:Nat) (m:Int):GU j (p.set i true) (s.set i st) r m=GU j p s r m+if st≤m∧m<st+(j.ab.g i).takes then hS (j.ab.g i) (r:Int) else 0:=by
 have e1:∀q,q≠i→(if (p.set i true).g q=true then Cy j (s.set i st) r m q else 0)=if p.g q=true then Cy j s r m q else 0:=fun q hq=>by
  have a:(p.set i true).g q=p.g q:=by rw[QL,if_neg fun z=>hq z.1.symm]
  have b:(s.set i st).g q=s.g q:=bj (Ne.symm hq) _
  rw[a,afI b]
 unfold GU
 rw[Cx (f:=fun q=>if (p.set i true).g q=true then Cy j (s.set i st) r m q else 0) (q:=i) (Nat.zero_le _) o!,Cx (f:=fun q=>if p.g q=true then Cy j s r m q else 0) (q:=i) (Nat.zero_le _) o!]
 rw[tY (f:=fun x=>if x=i then 0 else if (p.set i true).g x=true then Cy j (s.set i st) r m x else 0) (g:=fun x=>if x=i then 0 else if p.g x=true then Cy j s r m x else 0) fun q _ _=>by
  by_cases z:q=i
  · rw[if_pos z,if_pos z]
  · rw[if_neg z,if_neg z,e1 q z]]
 have a:(p.set i true).g i=true:=by rw[QL,if_pos ⟨rfl,by omega⟩]
 have b:(s.set i st).g i=st:=iL o!
 rw[a,hp,if_pos rfl,if_neg (by decide)]
 have c:Cy j (s.set i st) r m i=if st≤m∧m<st+(j.ab.g i).takes then hS (j.ab.g i) (r:Int) else 0:=by
  by_cases z:st≤m∧m<st+(j.ab.g i).takes
  · rw[Cy,if_pos (show Od j (s.set i st) i m by unfold Od;rw[b];exact z),if_pos z]
  · rw[Cy,if_neg (show ¬Od j (s.set i st) i m by unfold Od;rw[b];exact z),if_neg z]
 rw[c]
 omega
def INV (j:cG) (p:List Bool) (s:List Int) (k:Nat) (T:List Tl):Prop:=T.length=j.af.length∧∀r,r<j.af.length→∃n:Nat,qo (T.g r).l n (1000*(16+k)) 100001∧n≤33+2*k∧(∀m,0≤m→yY (T.g r).l m n=Oe (j.af.g r) m+GU j p s r m)∧(T.g r).l.g 323=(j.af.g r).aB
theorem YD {n r:Nat} {m:Int}:GU j (List.replicate n false) s r m=0:=by
 unfold GU
 rw[tY (g:=fun _=>0) fun q _ _=>afH adA,Jo]
theorem YE (F:cu j):INV j (List.replicate j.ab.length false) s 0 (ba j).1:=by
 rw[Jc]
 refine ⟨List.length_map _,fun r hr=>?_⟩
 have hg:((j.af.map fun r=>(⟨Z0 r⟩:Tl)).g r)=⟨Z0 (j.af.g r)⟩:=by
  rw[List.g,List.g,List.getD_eq_getElem?_getD,List.getD_eq_getElem?_getD,List.getElem?_map,List.getElem?_eq_getElem hr];rfl
 have ro:=F.ro r hr
 have rs:=F.rs r hr
 show ∃n:Nat,qo ((j.af.map fun r=>(⟨Z0 r⟩:Tl)).g r).l n (1000*(16+((0:Nat):Int))) 100001∧n≤33+2*0∧(∀m,0≤m→yY ((j.af.map fun r=>(⟨Z0 r⟩:Tl)).g r).l m n=Oe (j.af.g r) m+GU j (List.replicate j.ab.length false) s r m)∧((j.af.map fun r=>(⟨Z0 r⟩:Tl)).g r).l.g 323=(j.af.g r).aB
 rw[hg]
 have hl:((j.af.g r).off.map fun s=>(s,(j.af.g r).aB)).length≤16:=by rw[List.length_map];exact ro.1
 have sp:=SL (c:=1000) (l:=(j.af.g r).off.map fun s=>(s,(j.af.g r).aB)) fun x hx=>by
  obtain ⟨y,_,rfl⟩:=List.mem_map.1 hx
  exact rs.2.2.2
 obtain ⟨n,a,b,c,d⟩:=NK (C:=100001) ((j.af.g r).off.map fun s=>(s,(j.af.g r).aB)) (KZ (j.af.g r).aB) 1 0 (ae5 _ (by decide)) o! (fun x hx=>by
  obtain ⟨y,hy,rfl⟩:=List.mem_map.1 hx
  obtain ⟨o,ho,eo⟩:=x7 hy
  have:=ro.2 o ho
  rw[eo] at this
  exact ⟨this.1,by dsimp only;omega,rs.2.2.1⟩) o!
 refine ⟨n,a.up o!,by omega,fun m hm=>?_,d⟩
 show yY (tN (KZ (j.af.g r).aB) _) m n=_
 rw[c m hm,XT _ hm,YD,Oe];omega
theorem acb (F:cu j) {i k:Nat} (hi:i<j.ab.length) (hk:k≤63) (hp:p.g i=false) (pl:p.length=j.ab.length) (sl:s.length=j.ab.length) {st:Int} (st0:0≤st) (Tt:st+(j.ab.g i).takes≤100000) {A:List Tl} (I:INV j p s k A) (a:List Bool) (b:List Int):INV j (p.set i true) (s.set i st) (k+1) (jN j a b A (i:Int) st).2.2:=by
 have tk:=F.tk i hi
 rw[yZ]
 show INV j (p.set i true) (s.set i st) (k+1) (dA A (j.ab.g (Int.toNat (i:Int))).au ⟨st,st+(j.ab.g (Int.toNat (i:Int))).takes - 1⟩)
 rw[Int.toNat_natCast]
 refine ⟨by rw[Gg];exact I.1,fun r hr=>?_⟩
 obtain ⟨n,B,hn,lv,mk⟩:=I.2 r hr
 have hd:=K2 (fun q hq=>(F.ur i hi q hq).1) (F.ud i hi)
 have hf:fit (A.g r).l=(A.g r).l:=tF B.is.len
 rcases K1 (sp:=⟨st,st+(j.ab.g i).takes - 1⟩) (r:=r) _ A hd (fun u hu=>by
  obtain ⟨q,hq,e⟩:=x7 hu
  have:=F.ur i hi q hq
  rw[e] at this
  have:=I.1;omega) with ⟨u,hu,er,g⟩ | ⟨Ho,g⟩
 · rw[g,hf]
   obtain ⟨q,hq,e⟩:=x7 hu
   have um:=F.um i hi q hq
   have ur:=F.ur i hi q hq
   have us:=SI F hi hq
   rw[e] at um ur us
   rw[er] at um
   have rs:=(F.rs r hr).2.2
   rw[show u.ah=(r:Int) by omega] at us
   obtain ⟨n',x1,x2,x3,x4⟩:=K0 B o! (s:=⟨st,st+(j.ab.g i).takes - 1⟩) (p:=u.aB) st0 (by dsimp only;omega) o! o!
   refine ⟨n',x1.up o!,by omega,fun m hm=>?_,x4.trans mk⟩
   show yY (eS (A.g r).l ⟨st,st+(j.ab.g i).takes - 1⟩ u.aB) m n'=_
   rw[x3 m hm,lv m hm,SM hi hp pl sl]
   have:Va ⟨st,st+(j.ab.g i).takes - 1⟩ m u.aB=if st≤m∧m<st+(j.ab.g i).takes then hS (j.ab.g i) (r:Int) else 0:=by
    unfold Va
    rw[us]
    by_cases c:st≤m∧m<st+(j.ab.g i).takes
    · have c':st≤m∧m≤st+(j.ab.g i).takes - 1:=⟨c.1,by omega⟩
      exact (if_pos c').trans (if_pos c).symm
    · have c':¬(st≤m∧m≤st+(j.ab.g i).takes - 1):=fun w=>c ⟨w.1,by omega⟩
      exact (if_neg c').trans (if_neg c).symm
   rw[this];omega
 · rw[g]
   refine ⟨n,B.up o!,by omega,fun m hm=>?_,mk⟩
   have z:hS (j.ab.g i) (r:Int)=0:=by
    rcases SJ F hi (r:Int) with ⟨q,hq,e⟩ | ⟨_,e⟩
    · exact absurd (by rw[e];exact Int.toNat_natCast r) (Ho _ (GS hq))
    · exact e
   rw[lv m hm,SM hi hp pl sl,z,ite_self];omega
end
section
variable {j:cG} {s:List Int} {p:List Bool}
def NO (j:cG) (p:List Bool) (s:List Int) (i:Nat) (x:Int):Prop:=∀q,q<(j.ab.g i).ax.length→p.g (Int.toNat ((j.ab.g i).ax.g q))=true→s.g (Int.toNat ((j.ab.g i).ax.g q))+(j.ab.g (Int.toNat ((j.ab.g i).ax.g q))).takes≤x
def RU (j:cG) (p:List Bool) (s:List Int) (i:Nat) (x:Int) (u:Nat):Prop:=
 (∀o,o<(j.af.g (Int.toNat ((j.ab.g i).au.g u).ah)).off.length→¬(((j.af.g (Int.toNat ((j.ab.g i).au.g u).ah)).off.g o).bl<x+(j.ab.g i).takes∧x≤((j.af.g (Int.toNat ((j.ab.g i).au.g u).ah)).off.g o).aN))∧GU j p s (Int.toNat ((j.ab.g i).au.g u).ah) x+((j.ab.g i).au.g u).aB≤(j.af.g (Int.toNat ((j.ab.g i).au.g u).ah)).aB∧
 ∀k,k<j.ab.length→p.g k=true→x<s.g k→s.g k<x+(j.ab.g i).takes→GU j p s (Int.toNat ((j.ab.g i).au.g u).ah) (s.g k)+((j.ab.g i).au.g u).aB≤(j.af.g (Int.toNat ((j.ab.g i).au.g u).ah)).aB
theorem SN (F:cu j) (T:Tm j s) {i:Nat} (hi:i<j.ab.length) {x:Int}:∀(k a:Nat),a+k=(j.ab.g i).ax.length→
 (ia j (i:Int) p x s k a=none∧∀q,a≤q→q<a+k→p.g (Int.toNat ((j.ab.g i).ax.g q))=true→s.g (Int.toNat ((j.ab.g i).ax.g q))+(j.ab.g (Int.toNat ((j.ab.g i).ax.g q))).takes≤x)∨(ia j (i:Int) p x s k a=some false∧¬NO j p s i x)
 | 0,a,h=> .inl ⟨rfl,fun q x y=>by omega⟩
 | k+1,a,h=>by
   have nb:=F.nb i hi a o!
   have t:=T (Int.toNat ((j.ab.g i).ax.g a)) o!
   have tk:=F.tk (Int.toNat ((j.ab.g i).ax.g a)) o!
   have ih:=SN F T hi (x:=x) k (a+1) o!
   have rest:(p.g (Int.toNat ((j.ab.g i).ax.g a))=true→s.g (Int.toNat ((j.ab.g i).ax.g a))+(j.ab.g (Int.toNat ((j.ab.g i).ax.g a))).takes≤x)→(ia j (i:Int) p x s k (a+1)=none∧∀q,a≤q→q<a+(k+1)→p.g (Int.toNat ((j.ab.g i).ax.g q))=true→s.g (Int.toNat ((j.ab.g i).ax.g q))+(j.ab.g (Int.toNat ((j.ab.g i).ax.g q))).takes≤x)∨(ia j (i:Int) p x s k (a+1)=some false∧¬NO j p s i x):=fun c=>by
    rcases ih with ⟨e,f⟩ | g
    · refine .inl ⟨e,fun q x y=>?_⟩
      by_cases z:q=a
      · rw[z];exact c
      · exact f q o! o!
    · exact .inr g
   rw[ia,Int.toNat_natCast,wrap_i64 (n:=s.g (Int.toNat ((j.ab.g i).ax.g a))+(j.ab.g (Int.toNat ((j.ab.g i).ax.g a))).takes) o! o!]
   cases hp:p.g (Int.toNat ((j.ab.g i).ax.g a)) with
   | false=>rw[cond_false];exact rest fun z=>by rw[hp] at z;cases z
   | true=>
     rw[cond_true]
     by_cases c:x<s.g (Int.toNat ((j.ab.g i).ax.g a))+(j.ab.g (Int.toNat ((j.ab.g i).ax.g a))).takes
     · rw[decide_eq_true c];exact .inr ⟨rfl,fun z=>by have:=z a o! hp;omega⟩
     · rw[decide_eq_false c,cond_false];exact rest fun _=>by omega
theorem SO (F:cu j) {i:Nat} (hi:i<j.ab.length) {x:Int} (h0:0≤x) (h1:x+(j.ab.g i).takes≤100000) {u:Nat}:∀(k a:Nat),
 (ib j (i:Int) u x k a=none∧∀q,a≤q→q<a+k→¬(((j.af.g (Int.toNat ((j.ab.g i).au.g u).ah)).off.g q).bl<x+(j.ab.g i).takes∧x≤((j.af.g (Int.toNat ((j.ab.g i).au.g u).ah)).off.g q).aN))∨(ib j (i:Int) u x k a=some false∧∃q,q<a+k∧(((j.af.g (Int.toNat ((j.ab.g i).au.g u).ah)).off.g q).bl<x+(j.ab.g i).takes∧x≤((j.af.g (Int.toNat ((j.ab.g i).au.g u).ah)).off.g q).aN))
 | 0,a=> .inl ⟨rfl,fun q x y=>by omega⟩
 | k+1,a=>by
   have tk:=F.tk i hi
   have ih:=SO F hi h0 h1 (u:=u) k (a+1)
   have rest:¬(((j.af.g (Int.toNat ((j.ab.g i).au.g u).ah)).off.g a).bl<x+(j.ab.g i).takes∧x≤((j.af.g (Int.toNat ((j.ab.g i).au.g u).ah)).off.g a).aN)→(ib j (i:Int) u x k (a+1)=none∧∀q,a≤q→q<a+(k+1)→¬(((j.af.g (Int.toNat ((j.ab.g i).au.g u).ah)).off.g q).bl<x+(j.ab.g i).takes∧x≤((j.af.g (Int.toNat ((j.ab.g i).au.g u).ah)).off.g q).aN))∨(ib j (i:Int) u x k (a+1)=some false∧∃q,q<a+(k+1)∧(((j.af.g (Int.toNat ((j.ab.g i).au.g u).ah)).off.g q).bl<x+(j.ab.g i).takes∧x≤((j.af.g (Int.toNat ((j.ab.g i).au.g u).ah)).off.g q).aN)):=fun c=>by
    rcases ih with ⟨e,f⟩ | ⟨e,q,x,y⟩
    · refine .inl ⟨e,fun q x y=>?_⟩
      by_cases z:q=a
      · rw[z];exact c
      · exact f q o! o!
    · exact .inr ⟨e,q,by omega,y⟩
   rw[ib,Int.toNat_natCast,wrap_i64 (n:=x+(j.ab.g i).takes) o! o!]
   by_cases c1:((j.af.g (Int.toNat ((j.ab.g i).au.g u).ah)).off.g a).bl<x+(j.ab.g i).takes
   · rw[decide_eq_true c1,cond_true]
     by_cases c2:x≤((j.af.g (Int.toNat ((j.ab.g i).au.g u).ah)).off.g a).aN
     · rw[decide_eq_true c2];exact .inr ⟨rfl,a,by omega,c1,c2⟩
     · rw[decide_eq_false c2,cond_false];exact rest fun e=>c2 e.2
   · rw[decide_eq_false c1,cond_false];exact rest fun e=>c1 e.1
theorem YF (F:cu j) (T:Tm j s) {i u:Nat} (hi:i<j.ab.length) (hu:u<(j.ab.g i).au.length) (m:Int):IntKind.i64.wrap (jv j s p ((j.ab.g i).au.g u).ah m+((j.ab.g i).au.g u).aB)=GU j p s (Int.toNat ((j.ab.g i).au.g u).ah) m+((j.ab.g i).au.g u).aB:=by
 have ur:=F.ur i hi u hu
 have um:=F.um i hi u hu
 have rm:=(F.rs (Int.toNat ((j.ab.g i).au.g u).ah) o!).2.2
 have lb:=YC F (s:=s) (p:=p) (r:=(Int.toNat ((j.ab.g i).au.g u).ah)) (m:=m)
 have ld:=aca F T p (Int.toNat ((j.ab.g i).au.g u).ah) m
 rw[show (((Int.toNat ((j.ab.g i).au.g u).ah):Nat):Int)=((j.ab.g i).au.g u).ah by omega] at ld
 rw[ld]
 show IntKind.i64.wrap (GU j p s (Int.toNat ((j.ab.g i).au.g u).ah) m+((j.ab.g i).au.g u).aB)=_
 rw[wrap_i64 o! o!]
theorem SP (F:cu j) (T:Tm j s) {i:Nat} (hi:i<j.ab.length) {x:Int} (h0:0≤x) (h1:x+(j.ab.g i).takes≤100000) {u:Nat} (hu:u<(j.ab.g i).au.length):∀(k a:Nat),a+k=j.ab.length→
 (fB j p x s (i:Int) u k a=none∧∀q,a≤q→q<a+k→p.g q=true→x<s.g q→s.g q<x+(j.ab.g i).takes→GU j p s (Int.toNat ((j.ab.g i).au.g u).ah) (s.g q)+((j.ab.g i).au.g u).aB≤(j.af.g (Int.toNat ((j.ab.g i).au.g u).ah)).aB)∨
 (fB j p x s (i:Int) u k a=some false∧¬RU j p s i x u)
 | 0,a,h=> .inl ⟨rfl,fun q x y=>by omega⟩
 | k+1,a,h=>by
   have tk:=F.tk i hi
   have ih:=SP F T hi h0 h1 hu k (a+1) o!
   have rest:(p.g a=true→x<s.g a→s.g a<x+(j.ab.g i).takes→GU j p s (Int.toNat ((j.ab.g i).au.g u).ah) (s.g a)+((j.ab.g i).au.g u).aB≤(j.af.g (Int.toNat ((j.ab.g i).au.g u).ah)).aB)→(fB j p x s (i:Int) u k (a+1)=none∧∀q,a≤q→q<a+(k+1)→p.g q=true→x<s.g q→s.g q<x+(j.ab.g i).takes→GU j p s (Int.toNat ((j.ab.g i).au.g u).ah) (s.g q)+((j.ab.g i).au.g u).aB≤(j.af.g (Int.toNat ((j.ab.g i).au.g u).ah)).aB)∨
    (fB j p x s (i:Int) u k (a+1)=some false∧¬RU j p s i x u):=fun c=>by
    rcases ih with ⟨e,f⟩ | g
    · refine .inl ⟨e,fun q x y=>?_⟩
      by_cases z:q=a
      · rw[z];exact c
      · exact f q o! o!
    · exact .inr g
   rw[fB,Int.toNat_natCast,wrap_i64 (n:=x+(j.ab.g i).takes) o! o!,YF F T hi hu]
   cases e:p.g a with
   | false=>rw[cond_false];exact rest fun z=>by rw[e] at z;cases z
   | true=>
     rw[cond_true]
     by_cases c1:x<s.g a
     · rw[decide_eq_true c1,cond_true]
       by_cases c2:s.g a<x+(j.ab.g i).takes
       · rw[decide_eq_true c2,cond_true]
         by_cases c3:(j.af.g (Int.toNat ((j.ab.g i).au.g u).ah)).aB<GU j p s (Int.toNat ((j.ab.g i).au.g u).ah) (s.g a)+((j.ab.g i).au.g u).aB
         · rw[decide_eq_true c3];exact .inr ⟨rfl,fun z=>by have:=z.2.2 a o! e c1 c2;omega⟩
         · rw[decide_eq_false c3,cond_false];exact rest fun _ _ _=>by omega
       · rw[decide_eq_false c2,cond_false];exact rest fun _ _ z=>absurd z c2
     · rw[decide_eq_false c1,cond_false];exact rest fun _ z=>absurd z c1
theorem SQ (F:cu j) (T:Tm j s) {i:Nat} (hi:i<j.ab.length) {x:Int} (h0:0≤x) (h1:x+(j.ab.g i).takes≤100000) (ht:0<(j.ab.g i).takes):∀(k a:Nat),a+k=(j.ab.g i).au.length→
 (gS j (i:Int) x s p k a=none∧∀u,a≤u→u<a+k→RU j p s i x u)∨(gS j (i:Int) x s p k a=some false∧∃u,u<(j.ab.g i).au.length∧¬RU j p s i x u)
 | 0,a,h=> .inl ⟨rfl,fun q x y=>by omega⟩
 | k+1,a,h=>by
   have hu:a<(j.ab.g i).au.length:=by omega
   rw[gS,Int.toNat_natCast,decide_eq_true ht,cond_true,YF F T hi hu]
   rcases SO F hi h0 h1 (u:=a) (j.af.g (Int.toNat ((j.ab.g i).au.g a).ah)).off.length 0 with ⟨e2,f2⟩ | ⟨e2,o,x,y⟩
   · rw[e2]
     by_cases c:(j.af.g (Int.toNat ((j.ab.g i).au.g a).ah)).aB<GU j p s (Int.toNat ((j.ab.g i).au.g a).ah) x+((j.ab.g i).au.g a).aB
     · rw[decide_eq_true c];exact .inr ⟨rfl,a,hu,fun z=>by have:=z.2.1;omega⟩
     · rw[decide_eq_false c]
       rcases SP F T hi h0 h1 hu (p:=p) j.ab.length 0 o! with ⟨e3,f3⟩ | ⟨e3,f3⟩
       · rw[e3]
         rcases SQ F T hi h0 h1 ht k (a+1) o! with ⟨e,f⟩ | g
         · refine .inl ⟨e,fun u x y=>?_⟩
           by_cases z:u=a
           · rw[z]
             exact ⟨fun o ho=>f2 o (Nat.zero_le _) o!,by omega,fun k' Ht=>f3 k' (Nat.zero_le _) o!⟩
           · exact f u o! o!
         · exact .inr g
       · rw[e3];exact .inr ⟨rfl,a,hu,f3⟩
   · rw[e2];exact .inr ⟨rfl,a,hu,fun z=>z.1 o o! y⟩
theorem YG {i:Nat} {x:Int} (ht:¬0<(j.ab.g i).takes):∀k a,gS j (i:Int) x s p k a=none
 | 0,a=>rfl
 | k+1,a=>by rw[gS,Int.toNat_natCast,decide_eq_false ht];rfl
theorem YH (F:cu j) {i:Nat} (hi:i<j.ab.length) {x:Int} (h:¬(0≤x∧x+(j.ab.g i).takes≤100000)):cC j s p (i:Int) x=false:=by
 have tk:=F.tk i hi
 rw[cC,dP,Int.toNat_natCast]
 by_cases a:0≤x
 · rw[decide_eq_true a,cond_true]
   by_cases b:x≤100000
   · rw[decide_eq_true b,Bool.not_true,cond_false,wrap_i64 (n:=x+(j.ab.g i).takes) o! o!,decide_eq_true (show 100000<x+(j.ab.g i).takes by omega)];rfl
   · rw[decide_eq_false b];rfl
 · rw[decide_eq_false a];rfl
theorem acd (F:cu j) (T:Tm j s) {i:Nat} (hi:i<j.ab.length) {x:Int} (h0:0≤x) (h1:x+(j.ab.g i).takes≤100000):cC j s p (i:Int) x=true↔NO j p s i x∧(0<(j.ab.g i).takes→∀u,u<(j.ab.g i).au.length→RU j p s i x u):=by
 have tk:=F.tk i hi
 rw[cC,dP,decide_eq_true h0,cond_true,decide_eq_true (show x≤100000 by omega),Int.toNat_natCast,wrap_i64 (n:=x+(j.ab.g i).takes) o! o!,decide_eq_false (show ¬100000<x+(j.ab.g i).takes by omega)]
 rw[Bool.not_true,cond_false,cond_false]
 rcases SN F T hi (p:=p) (x:=x) _ 0 (Nat.zero_add _) with ⟨e,f⟩ | ⟨e,f⟩
 · rw[e]
   have no:NO j p s i x:=fun q hq=>f q (Nat.zero_le _) o!
   by_cases ht:0<(j.ab.g i).takes
   · rcases SQ F T hi h0 h1 ht (p:=p) _ 0 (Nat.zero_add _) with ⟨e1,f1⟩ | ⟨e1,u,x,y⟩
     · rw[e1];exact ⟨fun _=>⟨no,fun _ u hu=>f1 u (Nat.zero_le _) o!⟩,fun _=>rfl⟩
     · rw[e1];exact ⟨(fun z=>by cases z),fun z=>absurd (z.2 ht u x) y⟩
   · rw[YG ht];exact ⟨fun _=>⟨no,fun z=>absurd z ht⟩,fun _=>rfl⟩
 · rw[e];exact ⟨(fun z=>by cases z),fun z=>absurd z.1 f⟩
def Z8 (j:cG) (p:List Bool) (s:List Int) (i u:Nat) (m:Int):Prop:=Oe (j.af.g (Int.toNat ((j.ab.g i).au.g u).ah)) m+GU j p s (Int.toNat ((j.ab.g i).au.g u).ah) m+((j.ab.g i).au.g u).aB≤(j.af.g (Int.toNat ((j.ab.g i).au.g u).ah)).aB
def RM (j:cG) (p:List Bool) (s:List Int) (i:Nat) (x:Int):Prop:=0<(j.ab.g i).takes→∀u,u<(j.ab.g i).au.length→∀m,x≤m→m<x+(j.ab.g i).takes→Z8 j p s i u m
theorem Lu (F:cu j) {r:Nat} {m m':Int} (h:∀q,q<j.ab.length→p.g q=true→Od j s q m→hS (j.ab.g q) (r:Int)≠0→Od j s q m'):GU j p s r m≤GU j p s r m':=by
 unfold GU
 refine SH fun k _ hk=>?_
 have kn:k<j.ab.length:=by omega
 by_cases hp:p.g k=true
 · rw[if_pos hp,if_pos hp]
   have b:=(Yz F (s:=s) (r:=r) (m:=m') kn).1
   by_cases ck:Od j s k m
   · by_cases uk:hS (j.ab.g k) (r:Int)=0
     · rw[Cy,if_pos ck,uk];exact b
     · rw[Cy,if_pos ck,Cy,if_pos (h k kn hp ck uk)];exact Int.le_refl _
   · rw[Cy,if_neg ck];exact b
 · rw[if_neg hp,if_neg hp];exact Int.le_refl _
theorem adB (F:cu j) (T:Tm j s) {i:Nat} (hi:i<j.ab.length) {x:Int} (h0:0≤x) (ht:0<(j.ab.g i).takes) {u:Nat} (hu:u<(j.ab.g i).au.length):RU j p s i x u↔∀m,x≤m→m<x+(j.ab.g i).takes→Z8 j p s i u m:=by
 have ur:=F.ur i hi u hu
 have um:=F.um i hi u hu
 have rs:=F.rs (Int.toNat ((j.ab.g i).au.g u).ah) o!
 constructor
 · intro ⟨a,b,c⟩ m m0 m1
   have o0:Oe (j.af.g (Int.toNat ((j.ab.g i).au.g u).ah)) m=0:=Og fun y hy w=>by
    obtain ⟨o,ho,eo⟩:=x7 hy
    have:=a o ho
    rw[eo] at this
    exact this ⟨by omega,by omega⟩
   unfold Z8
   rw[o0]
   by_cases e:∃k,k<j.ab.length∧(p.g k=true∧Od j s k m∧hS (j.ab.g k) ((Int.toNat ((j.ab.g i).au.g u).ah):Int)≠0)
   · obtain ⟨k,hk,⟨hp,hc,hr⟩,mx⟩:=YB (fun k=>p.g k=true∧Od j s k m∧hS (j.ab.g k) ((Int.toNat ((j.ab.g i).au.g u).ah):Int)≠0) (fun k=>s.g k) _ e
     have hc1:=hc.1
     by_cases z:s.g k≤x
     · have le:=Lu F (p:=p) (s:=s) (r:=(Int.toNat ((j.ab.g i).au.g u).ah)) (m:=m) (m':=x) fun q hq qp qc qr=>by
        have a1:=mx q hq ⟨qp,qc,qr⟩
        have a2:=qc.2
        exact ⟨by omega,by omega⟩
       omega
     · have le:=Lu F (p:=p) (s:=s) (r:=(Int.toNat ((j.ab.g i).au.g u).ah)) (m:=m) (m':=s.g k) fun q hq qp qc qr=>by
        have a1:=mx q hq ⟨qp,qc,qr⟩
        have a2:=qc.2
        exact ⟨a1,by omega⟩
       have:=c k hk hp o! o!
       omega
   · have le:=Lu F (p:=p) (s:=s) (r:=(Int.toNat ((j.ab.g i).au.g u).ah)) (m:=m) (m':=x) fun q hq qp qc qr=>absurd ⟨q,hq,qp,qc,qr⟩ e
     omega
 · intro K
   have nn:∀m,0≤Oe (j.af.g (Int.toNat ((j.ab.g i).au.g u).ah)) m:=fun m=>QK rs.2.2.1
   refine ⟨fun o ho z=>?_,?_,fun k hk hp k0 k1=>?_⟩
   · obtain ⟨m,hm1,hm2,hm3,hm4⟩:∃m:Int,((j.af.g (Int.toNat ((j.ab.g i).au.g u).ah)).off.g o).bl≤m∧m≤((j.af.g (Int.toNat ((j.ab.g i).au.g u).ah)).off.g o).aN∧x≤m∧m<x+(j.ab.g i).takes:=by
      have:=rs.1 o ho
      by_cases y:x≤((j.af.g (Int.toNat ((j.ab.g i).au.g u).ah)).off.g o).bl
      · exact ⟨((j.af.g (Int.toNat ((j.ab.g i).au.g u).ah)).off.g o).bl,Int.le_refl _,by omega,y,z.1⟩
      · exact ⟨x,by omega,z.2,Int.le_refl _,by omega⟩
     have k:=K m hm3 hm4
     have g:=Yy (c:=(j.af.g (Int.toNat ((j.ab.g i).au.g u).ah)).aB) (m:=m) rs.2.2.1 (GS ho) hm1 hm2
     have l:=(YC F (s:=s) (p:=p) (r:=(Int.toNat ((j.ab.g i).au.g u).ah)) (m:=m)).1
     unfold Z8 Oe at k
     omega
   · have k:=K x (Int.le_refl _) o!
     have:=nn x
     unfold Z8 at k
     omega
   · have kk:=K (s.g k) o! k1
     have:=nn (s.g k)
     unfold Z8 at kk
     omega
theorem Ba (F:cu j) (T:Tm j s) {i:Nat} (hi:i<j.ab.length) (x:Int):cC j s p (i:Int) x=true↔(0≤x∧x+(j.ab.g i).takes≤100000)∧NO j p s i x∧RM j p s i x:=by
 by_cases h:0≤x∧x+(j.ab.g i).takes≤100000
 · rw[acd F T hi h.1 h.2]
   exact ⟨fun z=>⟨h,z.1,fun ht u hu=>(adB F T hi h.1 ht hu).1 (z.2 ht u hu)⟩,fun z=>⟨z.2.1,fun ht u hu=>(adB F T hi h.1 ht hu).2 (z.2.2 ht u hu)⟩⟩
 · rw[YH F hi h];exact ⟨(fun z=>by cases z),fun z=>absurd z.1 h⟩
end
def gO {ρ:Type} (call:bm) (b:Code) (s:St) (ex exs:lY) (hh:aw) (tn:(Nat→AV)→List AV) (tr:ρ→(Nat→AV)→List AV):Option ρ→Prop
 | none=>∃y hk,Ev env call (.loop b) s ex ⟨tn y,hk,[],.no⟩∧bp hh hk
 | some r=>∃y hk,Ev env call (.loop b) s exs ⟨tr r y,hk,[],.no⟩∧bp hh hk
section
variable {ρ:Type} {call:bm} {b:Code} {s:St} {ex exs:lY} {hh hk:aw} {tn:(Nat→AV)→List AV} {tr:ρ→(Nat→AV)→List AV}
theorem gO.n {o:Option ρ} (e:o=none) (x:gO call b s ex exs hh tn tr o):∃y hk,Ev env call (.loop b) s ex ⟨tn y,hk,[],.no⟩∧bp hh hk:=by subst e;exact x
theorem gO.r {o:Option ρ} {r:ρ} (e:o=some r) (x:gO call b s ex exs hh tn tr o):∃y hk,Ev env call (.loop b) s exs ⟨tr r y,hk,[],.no⟩∧bp hh hk:=by subst e;exact x
theorem gO.out {i:Nat} {L:List AV} {o:Option ρ} (e:o=none) (ev:Ev env call b s (.exit i) ⟨L,hk,[],.no⟩) (G:bp hh hk) (hl:L=tn fun k=>L.getD k AV.undef):gO call b s (.exit i) exs hh tn tr o:=by
 subst e
 obtain ⟨y,q⟩:=kI (Ev.out ev) hl
 exact ⟨y,hk,q,G⟩
theorem gO.ret {i:Nat} {L:List AV} {o:Option ρ} (r:ρ) (e:o=some r) (ev:Ev env call b s (.exit i) ⟨L,hk,[],.no⟩) (G:bp hh hk) (hl:L=tr r fun k=>L.getD k AV.undef):gO call b s ex (.exit i) hh tn tr o:=by
 subst e
 obtain ⟨y,q⟩:=kI (tmpl:=tr r) (Ev.out ev) hl
 exact ⟨y,hk,q,G⟩
theorem gO.round {L:List AV} {o o':Option ρ} (e:o=o') (ev:Ev env call b s .normal ⟨L,hk,[],.no⟩) (G:bp hh hk) (IZ:(Nat→AV)→List AV) (hl:L=IZ fun k=>L.getD k AV.undef) (ih:∀x,gO call b ⟨IZ x,hk,[],.no⟩ ex exs hk tn tr o'):gO call b s ex exs hh tn tr o:=by
 subst e
 have q:=ih fun k=>L.getD k AV.undef
 rw[←hl] at q
 cases o with
 | none=>obtain ⟨y,h2,x,g⟩:=q;exact ⟨y,h2,Ev.loop ev x,G.trans g⟩
 | some r=>obtain ⟨y,h2,x,g⟩:=q;exact ⟨y,h2,Ev.loop ev x,G.trans g⟩
end
structure Cl where
 b:Nat
 o:Nat
 pieces:Int
@[reducible] def Cl.c (x:Cl):List AV:=[.func 111 [.ptr x.b x.o] [],.int .i64 x.pieces]
instance:aG Cl:={default:=⟨0,0,0⟩,c:=Cl.c,n:=2,e:=191,len:=fun _=>rfl,ok:=fun _ _=>True,mono:=fun _ o=>o,size:=by kernel_rfl,agg:=by kernel_rfl,pos:=by decide}
instance:Flat Cl where
 free o:=o
noncomputable def qv:Code:=(Tryz.f112.body).getD .skip
theorem Oh:Tryz.f112.body=some qv:=by kernel_rfl
noncomputable def Ic:Code:=(bw qv).getD 0 .skip
noncomputable def Ie:Code:=(bw qv).getD 1 .skip
def gJ (P:Nat→Int→Int) (kN:Int) (b9:List Cl):Nat→Nat→Option (Int)
 | 0,_=>none
 | nH+1,i1=>(bif (decide (kN<(P i1 kN))) then some (P i1 kN) else gJ P kN b9 nH (i1+1))
theorem wu {d:Nat} {h:aw} (kN:Int) (takes:Int) (claimsV:AV) (b9:List Cl) (P:Nat→Int→Int) (from_:Int) (db:aM h claimsV b9) (hP:∀i,i<b9.length→∀(f:Int) (hh:aw),0≤f→f≤1000000→Tidy hh→Has h hh→cU d (.fn 111) [(AV.ptr (b9.g i).b (b9.g i).o),(Zi f),(Zi takes),(Zi (b9.g i).pieces)] hh= .ret (.int .i64 (P i f)) hh) (hB:∀i,i<b9.length→∀f:Int,0≤f→f≤1000000→P i f≤1000000) (mP:0≤from_) (qJ:from_≤1000000) (ry:0≤kN) (xz:kN≤1000000):∀(k_ i_:Nat) (_:i_+k_=b9.length) (x:Nat→AV) (hh:aw) (aA:Tidy hh) (ay:Has h hh),gO (cU (d)) Ie ⟨((Zi kN)::(Zi takes)::claimsV::rx x 3 7 (claimsV::(Zn b9.length)::(Zn i_)::rx x 13 16 [])),hh,[],.no⟩ (.exit 2) (.exit 1) hh (fun y=>((Zi kN)::(Zi takes)::claimsV::rx y 3 7 (claimsV::(Zn b9.length)::rx y 12 17 []))) (fun r y=>((Zi r)::(Zi takes)::claimsV::rx y 3 7 (claimsV::(Zn b9.length)::rx y 12 17 []))) (gJ P kN b9 k_ i_)
 | 0,i1,gq,x,hh,aA,ay=>by
   have ik:=db.small
   have q1:(decide (((i1:Nat):Int)<((b9.length:Nat):Int)))=false:=d!
   exact gO.out rfl (pk (d) _ _ hh _ hh (VV (bO 3 false false .i64 ((i1:Nat):Int) ((b9.length:Nat):Int))<|BB q1<|ZZ) k!) (bp.refl aA) k!
 | nH+1,i1,gq,x,hh,aA,ay=>by
   have ik:=db.small
   have q1:(decide (((i1:Nat):Int)<((b9.length:Nat):Int)))=true:=d!
   obtain ⟨p3,q4,cF⟩:=(db.has ay).elem (i:=i1) o!
   have jL:bR env (some (.slice 191)) (some claimsV) (some (Zn i1))=some (AV.ptr p3 q4):=cF
   have j9:aY env hh 191 (AV.ptr p3 q4)=some (AV.agg [(AV.func 111 [(AV.ptr ((b9.g i1).b) ((b9.g i1).o))] []),(Zi ((b9.g i1).pieces))]):=(db.has ay).load o! cF
   obtain ⟨h6,nU,kM,Ce,nV,cE⟩:=kh aA (aH.cells [AV.nilFunc,(Zi 0)] 191 false)
   have jA:Has hh h6:=cE
   obtain ⟨h7,m8,eO,xA,f_,bD⟩:=qi (t:=191) (n:=2) (i:=hh.nx) (L:=[(AV.func 111 [(AV.ptr ((b9.g i1).b) ((b9.g i1).o))] []),(Zi ((b9.g i1).pieces))]) kM nV k! rfl rfl (by simp only[AV.cells,List.all_cons,List.all_nil,Bool.and_true,Bool.and_self,iE,gd,iF,iG,eP,lF,lG,lH,lI,lJ,iH,ahD])
   have du:Has hh h7:=Has.ei jA bD aA o!
   have k8:=hP i1 o! kN h7 o! o! eO (ay.trans du)
   have dR:=fun {al ps} (k:Pk al _ ps)=>(VV (bO 3 false false .i64 ((i1:Nat):Int) ((b9.length:Nat):Int))<|BV q1 jL<|MM j9<|NN nU (fun i=>(Pt i))<|SS m8<|CC<|MM (aI 189 0 (AV.func 111 [(AV.ptr ((b9.g i1).b) ((b9.g i1).o))] []) f_ k!)<|CN 3<|MM (aI 3 1 (Zi ((b9.g i1).pieces)) f_ k!)<|EE k8<|CN 3<|VV (dw 3 false false .i64 (P i1 kN) kN)<|k:Pk _ [] ps)
   rcases Bool.eq_false_or_eq_true (decide (kN<(P i1 kN))) with f1 | f1
   · have dQ:=of_decide_eq_true f1
     exact gO.ret (P i1 kN) (by simp only[gJ,f1,cond_true,cond_false]) (pk (d) _ _ hh _ h7 (dR<|BB f1<|CN 2<|ZZ) k!) (⟨eO,du,by omega⟩) k!
   · have dQ:=of_decide_eq_false f1
     have u10:=dZ 3 false true i1 1 o!
     exact gO.round (by simp only[gJ,f1,cond_true,cond_false]) (pk (d) _ _ hh _ h7 (dR<|BV f1 u10<|CC<|ZZ) k!) (⟨eO,du,by omega⟩) _ k! (fun x=>wu kN takes claimsV b9 P from_ db hP hB mP qJ ry xz nH (i1+1) o! x h7 eO (ay.trans du))
theorem uL {b9:List Cl} {P:Nat→Int→Int} {f:Int} (hB:∀i,i<b9.length→∀f:Int,0≤f→f≤1000000→P i f≤1000000) (h0:0≤f) (h1:f≤1000000):∀{k i:Nat} {r:Int},i+k=b9.length→gJ P f b9 k i=some r→f<r∧r≤1000000
 | 0,i,r,_,h=>by cases h
 | k+1,i,r,e,h=>by
   rw[gJ] at h
   by_cases c:f<P i f
   · rw[decide_eq_true c] at h;cases h;exact ⟨c,hB i o! f h0 h1⟩
   · rw[decide_eq_false c] at h;exact uL hB h0 h1 (k:=k) o! h
def ja (P:Nat→Int→Int) (b9:List Cl):Nat→Int→Int
 | 0,kN=>kN
 | cS+1,kN=>(match (gJ P kN b9 b9.length 0) with | none=>kN | some xC=>ja P b9 cS xC)
theorem wv {d:Nat} {h:aw} (takes:Int) (claimsV:AV) (b9:List Cl) (P:Nat→Int→Int) (from_:Int) (bb:aM h claimsV b9) (hP:∀i,i<b9.length→∀(f:Int) (hh:aw),0≤f→f≤1000000→Tidy hh→Has h hh→cU d (.fn 111) [(AV.ptr (b9.g i).b (b9.g i).o),(Zi f),(Zi takes),(Zi (b9.g i).pieces)] hh= .ret (.int .i64 (P i f)) hh) (hB:∀i,i<b9.length→∀f:Int,0≤f→f≤1000000→P i f≤1000000) (fq:0≤from_) (hH:from_≤1000000):∀(k_:Nat) (kN:Int) (_:(1000001 - kN≤(k_:Int))) (_:(0≤kN∧kN≤1000000)) (x:Nat→AV) (hh:aw) (aA:Tidy hh) (ay:Has h hh),bt (cU (d)) Ic ⟨((Zi kN)::(Zi takes)::claimsV::rx x 3 26 []),hh,[],.no⟩ (.exit 0) hh (fun r y=>((Zi r)::(Zi takes)::claimsV::rx y 3 26 [])) (fun r=>(0≤r∧r≤1000000)) (ja P b9 k_ kN)
 | 0,kN,gq,fV,x,hh,aA,ay=>by
   exfalso;omega
 | cS+1,kN,gq,fV,x,hh,aA,ay=>by
   have cr:=bb.small
   have gL:cc (some (.slice 191)) (some claimsV)=some (Zn b9.length):=(bb.has ay).len
   have Di:=wu (d:=d) (h:=hh) kN takes claimsV b9 P from_ (bb.has ay) (fun i hi f hh a b y z=>hP i hi f hh a b y (ay.trans z)) hB o! o! o! o! b9.length 0 o! (fun k_=>(((Zi kN)::(Zi takes)::claimsV::rx x 3 7 (claimsV::(Zn b9.length)::(Zi 0)::rx x 13 16 [])):List AV).getD k_ AV.undef) hh aA (Has.refl _)
   cases dz:gJ P kN b9 b9.length 0 with
   | none=>
     obtain ⟨Cb,h3,dy,dt⟩:=gO.n dz Di
     have l9:=dt.y
     have tz:hh.nx≤h3.nx:=dt.n
     have iy:Has hh h3:=dt.a
     exact bt.out kN (by simp only[ja,dz,cond_true,cond_false]) (pk (d) _ _ hh _ h3 (CC<|VV gL<|CC<|LL dy<|ZZ) k!) (⟨l9,iy,by omega⟩) (show (0≤kN∧kN≤1000000) from o!) k!
   | some xC=>
     have lq_:=uL hB o! o! (Nat.zero_add _) dz
     obtain ⟨Cb,h3,dy,dt⟩:=gO.r dz Di
     have l9:=dt.y
     have tz:hh.nx≤h3.nx:=dt.n
     have iy:Has hh h3:=dt.a
     exact bt.round (by simp only[ja,dz,cond_true,cond_false]) (pk (d) _ _ hh _ h3 (CC<|VV gL<|CC<|LL dy<|ZZ) k!) (⟨l9,iy,by omega⟩) _ k! (fun x=>wv takes claimsV b9 P from_ bb hP hB fq hH cS xC o! (show (0≤xC∧xC≤1000000) from o!) x h3 l9 (ay.trans iy))
def sH (from_:Int) (takes:Int) (b9:List Cl) (P:Nat→Int→Int):Int:=(ja P b9 (1000001 - from_).toNat from_)
theorem Ds {d:Nat} {h:aw} {claimsV:AV} (from_:Int) (takes:Int) (b9:List Cl) (P:Nat→Int→Int) (Oi:aM h claimsV b9) (hP:∀i,i<b9.length→∀(f:Int) (hh:aw),0≤f→f≤1000000→Tidy hh→Has h hh→cU d (.fn 111) [(AV.ptr (b9.g i).b (b9.g i).o),(Zi f),(Zi takes),(Zi (b9.g i).pieces)] hh= .ret (.int .i64 (P i f)) hh) (hB:∀i,i<b9.length→∀f:Int,0≤f→f≤1000000→P i f≤1000000) (nE:0≤from_) (qI:from_≤1000000) (ct:Tidy h):cU (d+1) (.fn 112) [(Zi from_),(Zi takes),claimsV] h= .ret (Zi (sH from_ takes b9 P)) h:=by
 have afJ:=Oi.small
 obtain ⟨yl1,h2,afK,afL,ajl⟩:=wv (d:=d) (h:=h) takes claimsV b9 P from_ Oi hP hB o! o! (1000001 - from_).toNat from_ o! (show (0≤from_∧from_≤1000000) from o!) (fun k_=>(((Zi from_)::(Zi takes)::claimsV::AV.undef::AV.undef::AV.undef::(Zi 0)::lk 22):List AV).getD k_ AV.undef) h ct (Has.refl _)
 have vO:=afL.y
 have akz:h.nx≤h2.nx:=afL.n
 have kJ:Has h h2:=afL.a
 have e:sH from_ takes b9 P=(ja P b9 (1000001 - from_).toNat from_):=by simp only[sH,cond_true,cond_false]
 rw[e]
 exact aE rfl (aZ Tryz.func112 Oh rfl (.inr rfl) (pk (d) _ _ h _ h2 (CC<|LL afK<|CN 2<|ZZ) k!) k!) kJ rfl
noncomputable def Lv:Code:=(Tryz.f61.body).getD .skip
theorem UE:Tryz.f61.body=some Lv:=by kernel_rfl
def jo (j:cG) (ar:List Int) (task:Int):Int:=(IntKind.i64.wrap ((ar.g task.toNat)+((j.ab.g task.toNat).takes)))
theorem Jq {d:Nat} {h:aw} {aX:AV} (j:cG) (ar:List Int) (task:Int) (bZ:aG.ok h j) (im:bS h .i64 3 aX ar) (nE:0≤task) (qI:task<(ar.length:Int)) (yS:task<(j.ab.length:Int)) (ct:Tidy h):cU (d+1) (.fn 61) [(AV.agg [j.ao,j.ai]),aX,(Zi task)] h= .ret (Zi (jo j ar task)) h:=by
 have zq:=im.small
 have eT:=bZ.1.small
 have eU:=bZ.2.small
 obtain ⟨h1,dH,cP,kr,bk,bW⟩:=kh ct (aH.cells [j.ao,j.ai] 25 false)
 have bB:Has h h1:=bW
 obtain ⟨p3,q4,cF,_⟩:=im.elem (i:=task.toNat) o!
 have jL:bR env (some (.slice 3)) (some aX) (some (Zi task))=some (AV.ptr p3 q4):=by rw[show (task:Int)=((task.toNat:Nat):Int) by omega];exact cF
 have j9:aY env h1 3 (AV.ptr p3 q4)=some (Zi (ar.g task.toNat)):=(im.has bB).load o! cF
 obtain ⟨p7,q8,Bb⟩:=bZ.1.elem (i:=task.toNat) o!
 have KN:bR env (some (.slice 39)) (some j.ao) (some (Zi task))=some (AV.ptr p7 q8):=by rw[show (task:Int)=((task.toNat:Nat):Int) by omega];exact Bb
 have O2:aY env h1 3 (AV.ptr p7 (q8+1))=some (Zi ((j.ab.g task.toNat).takes)):=(bZ.1.has bB).part (t:=3) (j:=1) o! Bb k! rfl
 have Z9:AV.same 20 j.ao j.ao=true:=bZ.1.same 19
 have e:jo j ar task=(IntKind.i64.wrap ((ar.g task.toNat)+((j.ab.g task.toNat).takes))):=by simp only[jo,cond_true,cond_false]
 rw[e]
 exact aE rfl (aZ Tryz.func61 UE rfl (.inr rfl) (pk (d) _ _ h _ h1 (NN dH (fun i=>(Pt i))<|CN 3<|VV jL<|MM j9<|CC<|MM (aI 22 0 j.ao bk k!)<|CC<|VV KN<|CC<|MM O2<|CN 2<|HH j9<|HH (show AV.same 20 (Zi (ar.g task.toNat)) (Zi (ar.g task.toNat))=true from aK 19 _ _)<|HH (aI 22 0 j.ao bk k!)<|HH Z9<|HH O2<|HH (show AV.same 20 (Zi ((j.ab.g task.toNat).takes)) (Zi ((j.ab.g task.toNat).takes))=true from aK 19 _ _)<|ZZ) k!) k!) bB rfl
def Vg (P:Nat→Int→Int) (f:Int):Nat→Nat→Option Int
 | 0,_=>none
 | k+1,i=>bif decide (f<P i f) then some (P i f) else Vg P f k (i+1)
def QM (P:Nat→Int→Int) (n:Nat):Nat→Int→Int
 | 0,f=>f
 | k+1,f=>match Vg P f n 0 with | none=>f | some r=>QM P n k r
def fo (n:Nat) (P:Nat→Int→Int) (f:Int):Int:=QM P n (Int.toNat (1000001 - f)) f
theorem YI {P:Nat→Int→Int} {f:Int} {l:List Cl}:∀k i,gJ P f l k i=Vg P f k i
 | 0,i=>rfl
 | k+1,i=>by rw[gJ,Vg,YI k]
theorem YJ {P:Nat→Int→Int} {l:List Cl}:∀k f,ja P l k f=QM P l.length k f
 | 0,f=>rfl
 | k+1,f=>by
   rw[ja,QM,YI]
   cases Vg P f l.length 0 with
   | none=>rfl
   | some r=>exact YJ k r
theorem adC (f t:Int) (l:List Cl) (P:Nat→Int→Int):sH f t l P=fo l.length P f:=by rw[sH,YJ];rfl
theorem Bd {P:Nat→Int→Int} {f:Int}:∀{k i:Nat} {r:Int},Vg P f k i=some r→∃q,i≤q∧q<i+k∧r=P q f∧f<r
 | 0,i,r,h=>by cases h
 | k+1,i,r,h=>by
   rw[Vg] at h
   by_cases c:f<P i f
   · rw[decide_eq_true c] at h;cases h;exact ⟨i,Nat.le_refl _,by omega,rfl,c⟩
   · rw[decide_eq_false c] at h
     obtain ⟨q,a,b,e,g⟩:=Bd (k:=k) h
     exact ⟨q,by omega,by omega,e,g⟩
theorem Oj {P:Nat→Int→Int} {f:Int}:∀{k i:Nat},Vg P f k i=none→∀q,i≤q→q<i+k→P q f≤f
 | 0,i,_,q,a,b=>by omega
 | k+1,i,h,q,a,b=>by
   rw[Vg] at h
   by_cases c:f<P i f
   · rw[decide_eq_true c] at h;cases h
   · rw[decide_eq_false c] at h
     by_cases e:q=i
     · rw[e];omega
     · exact Oj (k:=k) h q o! o!
theorem YK {P:Nat→Int→Int} {n:Nat} (hB:∀i,i<n→∀f:Int,0≤f→f≤1000000→P i f≤1000000):∀(k:Nat) (f:Int),0≤f→f≤1000000→f≤QM P n k f∧QM P n k f≤1000000
 | 0,f,a,b=>⟨Int.le_refl _,b⟩
 | k+1,f,a,b=>by
   rw[QM]
   cases e:Vg P f n 0 with
   | none=>exact ⟨Int.le_refl _,b⟩
   | some r=>
     obtain ⟨q,_,hq,er,g⟩:=Bd e
     have:=hB q o! f a b
     have ih:=YK hB k r o! o!
     exact ⟨by show f≤QM P n k r;omega,ih.2⟩
theorem adD {P:Nat→Int→Int} {n:Nat} {f:Int} (hB:∀i,i<n→∀f:Int,0≤f→f≤1000000→P i f≤1000000) (h0:0≤f) (h1:f≤1000000):f≤fo n P f∧fo n P f≤1000000:=YK hB _ f h0 h1
theorem YL {P:Nat→Int→Int} {n:Nat}:∀(k:Nat) (f:Int),f≤QM P n k f
 | 0,f=>Int.le_refl _
 | k+1,f=>by
   rw[QM]
   cases e:Vg P f n 0 with
   | none=>exact Int.le_refl _
   | some r=>
     obtain ⟨q,_,hq,er,g⟩:=Bd e
     have ih:=YL (P:=P) (n:=n) k r
     show f≤QM P n k r;omega
theorem aiB {P:Nat→Int→Int} {n:Nat} (f:Int):f≤fo n P f:=YL _ f
theorem Lw {a b c:Int} (h:c≤a):c≤imax a b:=by unfold imax;split<;>omega
theorem El {a b c:Int} (h:a≤c) (g:b≤c):imax a b≤c:=by unfold imax;split<;>omega
theorem QN {j:cG} {ar:List Int} (sb:∀i,i<ar.length→0≤ar.g i∧ar.g i+(j.ab.g i).takes≤100000) (tk:∀i,i<j.ab.length→0≤(j.ab.g i).takes∧(j.ab.g i).takes≤100000) (hl:ar.length=j.ab.length) {n:Int} (h0:0≤n) (h1:n<(j.ab.length:Int)):0≤jo j ar n∧jo j ar n≤100000:=by
 have a:=sb (Int.toNat n) o!
 have b:=tk (Int.toNat n) o!
 rw[jo,wrap_i64 o! o!];omega
theorem wx {t:List Int} {takes pieces:Int} (hf:∀i:Nat,vV t (i:Int)≤1000000):∀(k i:Nat) (v:Int),v≤1000000→eA t takes pieces k i v≤1000000
 | 0,i,v,h=>h
 | k+1,i,v,h=>by
   rw[eA]
   cases decide (IntKind.i64.wrap (v+takes)≤t.g (i*2)) with
   | true=>exact h
   | false=>
     rw[cond_false]
     cases decide (t.g 323<IntKind.i64.wrap (t.g (i*2+1)+pieces)) with
     | true=>exact wx hf k (i+1) _ (El h (hf i))
     | false=>exact wx hf k (i+1) v h
def YM (t:Tl):Prop:=∀i:Nat,vV (fit t.l) (i:Int)≤1000000
theorem YN {t:Tl} (h:YM t) {takes pieces f:Int} (h1:f≤1000000):m_ (fit t.l) f takes pieces≤1000000:=wx h _ 0 f h1
def asks (j:cG) (tl:List Tl) (task:Int) (i:Nat) (f:Int):Int:=m_ (fit (tl.g (Int.toNat ((j.ab.g (Int.toNat task)).au.g i).ah)).l) f (j.ab.g (Int.toNat task)).takes ((j.ab.g (Int.toNat task)).au.g i).aB
def nq (j:cG) (task:Int):Nat:=bif decide (0<(j.ab.g (Int.toNat task)).takes) then (j.ab.g (Int.toNat task)).au.length else 0
theorem aiC {α β:Type} [Inhabited α] [Inhabited β] {l:List α} {f:α→β} {i:Nat} (h:i<l.length):(l.map f).g i=f (l.g i):=by
 show (l.map f).getD i default=f (l.getD i default)
 rw[List.getD_eq_getElem?_getD,List.getD_eq_getElem?_getD,List.getElem?_map,List.getElem?_eq_getElem h];rfl
theorem QO:∀(n:Nat) (l:List Nat),l.Nodup→(∀x∈l,x<n)→l.length≤n
 | 0,l,_,h=>by
   cases l with
   | nil=>exact Nat.le_refl _
   | cons x l=>have:=h x (.head _);omega
 | n+1,l,hd,h=>by
   by_cases m:n∈l
   · have e:=List.length_erase_of_mem m
     have:=QO n (l.erase n) (hd.erase n) fun x hx=>by
      have y:=hd.mem_erase_iff.1 hx
      have z:=h x y.2
      have w:=y.1
      omega
     omega
   · have:=QO n l hd fun x hx=>by
      have z:=h x hx
      by_cases e:x=n
      · subst e;exact absurd hx m
      · omega
     omega
theorem YO {us:List jH} {n:Nat} (hd:Dis us) (hr:∀u∈us,Int.toNat u.ah<n):us.length≤n:=by
 have:=QO n (us.map fun u=>Int.toNat u.ah) (List.pairwise_map.2 (show us.Pairwise (fun a b=>Int.toNat a.ah≠Int.toNat b.ah) from hd)) fun x hx=>by
  obtain ⟨u,hu,rfl⟩:=List.mem_map.1 hx
  exact hr u hu
 rw[List.length_map] at this;exact this
end Go.Proofs.aJ
