import Derived.Test.YtemlmndojncekaaGreatW3
import Derived.Test.YtemlmndojncekaaGreatW6
import Derived.Test.YtemlmndojncekaaGreatW7
import Derived.Test.YtemlmndojncekaaGreatW1
import Derived.Test.YtemlmndojncekaaGreatW0
import Derived.Test.YtemlmndojncekaaGreatW2
namespace Go.Proofs.aQ
open Go.Proofs Ab
noncomputable section
set_option maxRecDepth 100000
set_option maxHeartbeats 4000000
set_option linter.unusedVariables false
set_option linter.unusedSimpArgs false
def rb (f:Nat→Int):Nat→Nat→Int
 | 0,_=>0
 | k+1,i=>f i+rb f k (i+1)
theorem oB {f g:Nat→Int}:∀{k i:Nat},(∀q,i≤q→q<i+k→f q=g q)→rb f k i=rb g k i
 | 0,i,h=>rfl
 | k+1,i,h=>by rw[rb,rb,h i (Nat.le_refl _) o!,oB (k:=k) (i:=i+1) fun q a b=>h q o! o!]
theorem Mf {f g:Nat→Int}:∀{k i:Nat},(∀q,i≤q→q<i+k→f q≤g q)→rb f k i≤rb g k i
 | 0,i,h=>Int.le_refl _
 | k+1,i,h=>by
   have a:=h i (Nat.le_refl _) o!
   have b:=Mf (k:=k) (i:=i+1) (f:=f) (g:=g) fun q a b=>h q o! o!
   rw[rb,rb];omega
theorem Dj:∀(k i:Nat),rb (fun _=>0) k i=0
 | 0,i=>rfl
 | k+1,i=>by rw[rb,Dj k (i+1)];rfl
theorem Dk {f:Nat→Int} {q:Nat}:∀{k i:Nat},i≤q→q<i+k→rb f k i=f q+rb (fun x=>if x=q then 0 else f x) k i
 | 0,i,a,b=>by omega
 | k+1,i,a,b=>by
   rw[rb,rb]
   by_cases e:i=q
   · subst e
     rw[if_pos rfl,oB (f:=f) (g:=fun x=>if x=i then 0 else f x) (k:=k) (i:=i+1) fun x p _=>by rw[if_neg o!]]
     omega
   · rw[if_neg e,Dk (q:=q) (k:=k) (i:=i+1) o! o!];omega
def Pe (j:cx) (s:List Int) (i:Nat) (m:Int):Prop:=s.g i≤m∧m<s.g i+(j.ab.g i).takes
instance (j:cx) (s:List Int) (i:Nat) (m:Int):Decidable (Pe j s i m):=by unfold Pe;infer_instance
def Dl (j:cx) (s:List Int) (r:Nat) (m:Int) (i:Nat):Int:=if Pe j s i m then il (j.ab.g i) (r:Int) else 0
def I0 (x:bJ) (m:Int):Int:=IC (x.off.map fun s=>(s,x.aJ)) m
theorem J8 {x:Task} {r:Int}:∀{k i:Nat},(∀q,i≤q→q<i+k→(x.aA.g q).ah≠r)→kG x r k i=none
 | 0,i,h=>rfl
 | k+1,i,h=>by
   rw[kG,decide_eq_false (h i (Nat.le_refl _) o!),ai]
   exact J8 fun q a b=>h q o! o!
theorem Pf {x:Task} {r:Int} {q0:Nat}:∀{k i:Nat},i≤q0→q0<i+k→(x.aA.g q0).ah=r→(∀q,i≤q→q<q0→(x.aA.g q).ah≠r)→kG x r k i=some (x.aA.g q0).aJ
 | 0,i,a,b,e,h=>by omega
 | k+1,i,a,b,e,h=>by
   rw[kG]
   by_cases z:i=q0
   · subst z;rw[decide_eq_true e];rfl
   · rw[decide_eq_false (h i (Nat.le_refl _) o!),ai]
     exact Pf o! o! e fun q a b=>h q o! o!
theorem BZ {j:cx} (F:b5 j) {i:Nat} (hi:i<j.ab.length) {q:Nat} (hq:q<(j.ab.g i).aA.length):il (j.ab.g i) ((j.ab.g i).aA.g q).ah=((j.ab.g i).aA.g q).aJ:=by
 rw[il,Pf (q0:=q) (Nat.zero_le _) o! rfl fun q' _ h=>F.ud i hi q' o! q h hq]
theorem Mg {j:cx} (F:b5 j) {i:Nat} (hi:i<j.ab.length) (r:Int):(∃q,q<(j.ab.g i).aA.length∧((j.ab.g i).aA.g q).ah=r)∨((∀q,q<(j.ab.g i).aA.length→((j.ab.g i).aA.g q).ah≠r)∧il (j.ab.g i) r=0):=by
 by_cases h:∃q,q<(j.ab.g i).aA.length∧((j.ab.g i).aA.g q).ah=r
 · exact .inl h
 · have hn:∀q,q<(j.ab.g i).aA.length→((j.ab.g i).aA.g q).ah≠r:=fun q hq e=>h ⟨q,hq,e⟩
   exact .inr ⟨hn,by rw[il,J8 fun q _ b=>hn q o!]⟩
theorem Uj {j:cx} (F:b5 j) {i:Nat} (hi:i<j.ab.length) (r:Int):0≤il (j.ab.g i) r∧il (j.ab.g i) r≤1000:=by
 rcases Mg F hi r with ⟨q,hq,e⟩ | ⟨_,e⟩
 · rw[←e,BZ F hi hq]
   have a:=F.um i hi q hq
   have b:=F.ur i hi q hq
   have c:=(F.rs (Int.toNat ((j.ab.g i).aA.g q).ah) o!).2.2
   omega
 · rw[e];decide
theorem yq (s:Span) (c:Int) (l:List (Span×Int)) (m:Int):IC ((s,c)::l) m=ZD s m c+IC l m:=by
 unfold IC;rw[List.map_cons,List.sum_cons]
theorem Hx {c m:Int}:∀{l:List Span},(∀s∈l,¬(s.bq≤m∧m≤s.ba))→IC (l.map fun s=>(s,c)) m=0
 | [],_=>rfl
 | s::l,h=>by
   rw[List.map_cons,yq,Hx fun x hx=>h x (.tail _ hx),ZD,if_neg (h s (.head _))];rfl
theorem R4 {c m:Int} (hc:0≤c):∀{l:List Span},0≤IC (l.map fun s=>(s,c)) m
 | []=>Int.le_refl _
 | s::l=>by
   have:=R4 hc (m:=m) (l:=l)
   rw[List.map_cons,yq,ZD]
   split<;>omega
theorem aai {c m:Int} (hc:0≤c) {s:Span}:∀{l:List Span},s∈l→s.bq≤m→m≤s.ba→c≤IC (l.map fun s=>(s,c)) m
 | x::l,h,a,b=>by
   rw[List.map_cons,yq,ZD]
   cases h with
   | head=>rw[if_pos ⟨a,b⟩];have:=R4 hc (m:=m) (l:=l);omega
   | tail _ h=>have:=aai hc h a b;split<;>omega
theorem aaj {c m:Int} (hc:0≤c):∀{l:List Span},l.Pairwise (fun a b=>a.ba<b.bq)→IC (l.map fun s=>(s,c)) m≤c
 | [],_=>hc
 | s::l,h=>by
   obtain ⟨h1,h2⟩:=List.pairwise_cons.1 h
   rw[List.map_cons,yq,ZD]
   by_cases z:s.bq≤m∧m≤s.ba
   · rw[if_pos z,Hx fun x hx e=>by have:=h1 x hx;omega];omega
   · rw[if_neg z];have:=aaj hc (m:=m) h2;omega
theorem ahj {j:cx} (F:b5 j) {r:Nat} (hr:r<j.af.length):(j.af.g r).off.Pairwise (fun a b=>a.ba<b.bq):=by
 have hg:∀q (h:q<(j.af.g r).off.length),(j.af.g r).off.g q=(j.af.g r).off[q]:=fun q h=>by rw[List.g,List.getD_eq_getElem?_getD,List.getElem?_eq_getElem h];rfl
 have key:∀b a,a<b→b<(j.af.g r).off.length→((j.af.g r).off.g a).ba<((j.af.g r).off.g b).bq:=fun b=>by
  induction b with
  | zero=>intro a h;omega
  | succ b ih=>
    intro a h hb
    have x:=(F.rs r hr).2.1 (b+1) o! hb
    rw[Nat.add_sub_cancel] at x
    by_cases e:a=b
    · subst e;exact x
    · have y:=ih a o! o!
      have z:=(F.rs r hr).1 b o!
      omega
 refine List.pairwise_iff_getElem.2 fun a b ha hb hab=>?_
 rw[←hg a ha,←hg b hb]
 exact key b a hab hb
def Tm (j:cx) (s:List Int):Prop:=∀i,i<j.ab.length→0≤s.g i∧s.g i+(j.ab.g i).takes≤100000
theorem Mh {j:cx} (F:b5 j) {s:List Int} (T:Tm j s) {p:List Bool} {r:Nat} {m:Int}:∀(k i:Nat) (v:Int),i+k=j.ab.length→0≤v→v≤1000*i→g8 j (r:Int) p s m k i v=v+rb (fun q=>if p.g q=true then Dl j s r m q else 0) k i
 | 0,i,v,h,a,b=>by rw[g8,rb];omega
 | k+1,i,v,h,a,b=>by
   have hi:i<j.ab.length:=by omega
   have t:=T i hi
   have tk:=F.tk i hi
   have u:=Uj F hi (r:Int)
   have nt:=F.nt
   rw[g8,rb,wrap_i64 (n:=s.g i+(j.ab.g i).takes) o! o!,wrap_i64 (n:=v+il (j.ab.g i) (r:Int)) o! o!]
   have z:=Mh F T (p:=p) (r:=r) (m:=m) k (i+1) v o! a o!
   have y:=Mh F T (p:=p) (r:=r) (m:=m) k (i+1) (v+il (j.ab.g i) (r:Int)) o! o! o!
   rw[y,z]
   cases hp:p.g i with
   | false=>rw[ai,if_neg (by simp)];omega
   | true=>
     rw[aj,if_pos rfl,Dl]
     by_cases c1:s.g i≤m
     · rw[decide_eq_true c1,aj]
       by_cases c2:m<s.g i+(j.ab.g i).takes
       · rw[decide_eq_true c2,aj,if_pos ⟨c1,c2⟩];omega
       · rw[decide_eq_false c2,ai,if_neg fun e=>c2 e.2];omega
     · rw[decide_eq_false c1,ai,if_neg fun e=>c1 e.1];omega
theorem adH {j:cx} (F:b5 j) {s:List Int} (T:Tm j s) (p:List Bool) (r:Nat) (m:Int):jJ j s p (r:Int) m=rb (fun q=>if p.g q=true then Dl j s r m q else 0) j.ab.length 0:=by
 rw[jJ,Mh F T _ _ _ o! o! o!];omega
theorem R5 {j:cx} (F:b5 j) {s:List Int} {r:Nat} {m:Int} {i:Nat} (hi:i<j.ab.length):0≤Dl j s r m i∧Dl j s r m i≤1000:=by
 have:=Uj F hi (r:Int)
 unfold Dl;split<;>omega
theorem aak {f:Nat→Int}:∀{k i:Nat},(∀q,i≤q→q<i+k→0≤f q∧f q≤1000)→0≤rb f k i∧rb f k i≤1000*k
 | 0,i,h=>⟨Int.le_refl _,Int.le_refl _⟩
 | k+1,i,h=>by
   have a:=h i (Nat.le_refl _) o!
   have b:=aak (f:=f) (k:=k) (i:=i+1) fun q x y=>h q o! o!
   rw[rb];omega
theorem aal (A:Nat→Prop) (f:Nat→Int):∀n,(∃i,i<n∧A i)→∃i,i<n∧A i∧∀k,k<n→A k→f k≤f i
 | 0,⟨i,h,_⟩=>by omega
 | n+1,⟨i,h,a⟩=>by
   by_cases e:∃i,i<n∧A i
   · obtain ⟨q,hq,aq,m⟩:=aal A f n e
     by_cases z:A n∧f q<f n
     · refine ⟨n,by omega,z.1,fun k hk ak=>?_⟩
       by_cases y:k=n
       · rw[y];exact Int.le_refl _
       · have:=m k o! ak;omega
     · refine ⟨q,by omega,aq,fun k hk ak=>?_⟩
       by_cases y:k=n
       · subst y;by_cases w:f q<f k
         · exact absurd ⟨ak,w⟩ z
         · omega
       · exact m k o! ak
   · have M_:i=n:=by
      by_cases y:i=n
      · exact y
      · exact absurd ⟨i,by omega,a⟩ e
     subst M_
     refine ⟨i,by omega,a,fun k hk ak=>?_⟩
     by_cases y:k=i
     · rw[y];exact Int.le_refl _
     · exact absurd ⟨k,by omega,ak⟩ e
theorem Hy {α:Type} [Inhabited α] {l:List α} {i:Nat} (h:i<l.length):l.g i∈l:=by
 rw[List.g,List.getD_eq_getElem?_getD,List.getElem?_eq_getElem h];exact List.getElem_mem h
theorem gG {a:List Bool} {i q:Nat} {b:Bool}:(a.set i b).g q=if i=q∧q<a.length then b else a.g q:=by
 by_cases e:i=q
 · subst e
   by_cases h:i<a.length
   · rw[if_pos ⟨rfl,h⟩,List.g,List.getD_eq_getElem?_getD,List.getElem?_set_self h];rfl
   · rw[if_neg fun z=>h z.2,List.g,List.g,List.getD_eq_getElem?_getD,List.getD_eq_getElem?_getD,List.getElem?_eq_none (by rw[List.length_set];omega),List.getElem?_eq_none o!]
 · rw[if_neg fun z=>e z.1,List.g,List.g,List.getD_eq_getElem?_getD,List.getD_eq_getElem?_getD,List.getElem?_set_ne e]
theorem qT.up {t:List Int} {n:Nat} {B B' C:Int} (T:qT t n B C) (h:B≤B'):qT t n B' C:=⟨T.is,fun k hk=>⟨(T.u k hk).1,Int.le_trans (T.u k hk).2 h⟩,T.f⟩
theorem Uk {c:Int}:∀{l:List (Span×Int)},(∀x∈l,x.2≤c)→Bz l≤c*l.length
 | [],_=>by simp [Bz]
 | x::l,h=>by
   have a:=h x (.head _)
   have b:=Uk (l:=l) fun y hy=>h y (.tail _ hy)
   unfold Bz at b ⊢
   rw[List.map_cons,List.sum_cons,List.length_cons,show c*((l.length+1:Nat):Int)=c*l.length+c by rw[Int.natCast_add,Int.mul_add];simp]
   omega
theorem Pg {n i:Nat}:(List.replicate n false).g i=false:=by
 rw[List.g,List.getD_eq_getElem?_getD,List.getElem?_replicate];split<;>rfl
theorem aam {α:Type} {c:Bool} {a b:α} (h:c=false):(if c=true then a else b)=b:=by rw[h];rfl
section
variable {j:cx} {s:List Int} {p:List Bool}
def te (j:cx) (p:List Bool) (s:List Int) (r:Nat) (m:Int):Int:=rb (fun q=>if p.g q=true then Dl j s r m q else 0) j.ab.length 0
theorem aan (F:b5 j) {r:Nat} {m:Int}:0≤te j p s r m∧te j p s r m≤64000:=by
 have:=aak (f:=fun q=>if p.g q=true then Dl j s r m q else 0) (k:=j.ab.length) (i:=0) fun q _ h=>by
  split
  · exact R5 F o!
  · decide
 have nt:=F.nt
 unfold te;omega
theorem R6 {s':List Int} {r q:Nat} {m:Int} (h:s'.g q=s.g q):Dl j s' r m q=Dl j s r m q:=by
 by_cases c:Pe j s q m
 · rw[Dl,Dl,if_pos c,if_pos (show Pe j s' q m by unfold Pe at c ⊢;rw[h];exact c)]
 · rw[Dl,Dl,if_neg c,if_neg (show ¬Pe j s' q m by unfold Pe at c ⊢;rw[h];exact c)]
theorem B0 {i:Nat} (hi:i<j.ab.length) (hp:p.g i=false) (pl:p.length=j.ab.length) (sl:s.length=j.ab.length) (st:Int) (r:Nat) (m:Int):te j (p.set i true) (s.set i st) r m=te j p s r m+if st≤m∧m<st+(j.ab.g i).takes then il (j.ab.g i) (r:Int) else 0:=by
 have e1:∀q,q≠i→(if (p.set i true).g q=true then Dl j (s.set i st) r m q else 0)=if p.g q=true then Dl j s r m q else 0:=fun q hq=>by
  have a:(p.set i true).g q=p.g q:=by rw[gG,if_neg fun z=>hq z.1.symm]
  have b:(s.set i st).g q=s.g q:=bn (Ne.symm hq) _
  rw[a,R6 b]
 unfold te
 rw[Dk (f:=fun q=>if (p.set i true).g q=true then Dl j (s.set i st) r m q else 0) (q:=i) (Nat.zero_le _) o!,Dk (f:=fun q=>if p.g q=true then Dl j s r m q else 0) (q:=i) (Nat.zero_le _) o!]
 rw[oB (f:=fun x=>if x=i then 0 else if (p.set i true).g x=true then Dl j (s.set i st) r m x else 0) (g:=fun x=>if x=i then 0 else if p.g x=true then Dl j s r m x else 0) fun q _ _=>by
  by_cases z:q=i
  · rw[if_pos z,if_pos z]
  · rw[if_neg z,if_neg z,e1 q z]]
 have a:(p.set i true).g i=true:=by rw[gG,if_pos ⟨rfl,by omega⟩]
 have b:(s.set i st).g i=st:=g7 o!
 rw[a,hp,if_pos rfl,if_neg (by decide)]
 have c:Dl j (s.set i st) r m i=if st≤m∧m<st+(j.ab.g i).takes then il (j.ab.g i) (r:Int) else 0:=by
  by_cases z:st≤m∧m<st+(j.ab.g i).takes
  · rw[Dl,if_pos (show Pe j (s.set i st) i m by unfold Pe;rw[b];exact z),if_pos z]
  · rw[Dl,if_neg (show ¬Pe j (s.set i st) i m by unfold Pe;rw[b];exact z),if_neg z]
 rw[c]
 omega
def INV (j:cx) (p:List Bool) (s:List Int) (k:Nat) (T:List Tl):Prop:=T.length=j.af.length∧∀r,r<j.af.length→∃n:Nat,qT (T.g r).l n (1000*(16+k)) 100001∧n≤33+2*k∧(∀m,0≤m→yE (T.g r).l m n=I0 (j.af.g r) m+te j p s r m)∧(T.g r).l.g 323=(j.af.g r).aJ
theorem aao {n r:Nat} {m:Int}:te j (List.replicate n false) s r m=0:=by
 unfold te
 rw[oB (g:=fun _=>0) fun q _ _=>aam Pg,Dj]
theorem Mi (F:b5 j):INV j (List.replicate j.ab.length false) s 0 (aK j).1:=by
 rw[JX]
 refine ⟨List.length_map _,fun r hr=>?_⟩
 have hg:((j.af.map fun r=>(⟨nbT r⟩:Tl)).g r)=⟨nbT (j.af.g r)⟩:=by
  rw[List.g,List.g,List.getD_eq_getElem?_getD,List.getD_eq_getElem?_getD,List.getElem?_map,List.getElem?_eq_getElem hr];rfl
 have ro:=F.ro r hr
 have rs:=F.rs r hr
 show ∃n:Nat,qT ((j.af.map fun r=>(⟨nbT r⟩:Tl)).g r).l n (1000*(16+((0:Nat):Int))) 100001∧n≤33+2*0∧(∀m,0≤m→yE ((j.af.map fun r=>(⟨nbT r⟩:Tl)).g r).l m n=I0 (j.af.g r) m+te j (List.replicate j.ab.length false) s r m)∧((j.af.map fun r=>(⟨nbT r⟩:Tl)).g r).l.g 323=(j.af.g r).aJ
 rw[hg]
 have hl:((j.af.g r).off.map fun s=>(s,(j.af.g r).aJ)).length≤16:=by rw[List.length_map];exact ro.1
 have sp:=Uk (c:=1000) (l:=(j.af.g r).off.map fun s=>(s,(j.af.g r).aJ)) fun x hx=>by
  obtain ⟨y,_,rfl⟩:=List.mem_map.1 hx
  exact rs.2.2.2
 obtain ⟨n,a,b,c,d⟩:=OO (C:=100001) ((j.af.g r).off.map fun s=>(s,(j.af.g r).aJ)) (LG (j.af.g r).aJ) 1 0 (agK _ (by decide)) o! (fun x hx=>by
  obtain ⟨y,hy,rfl⟩:=List.mem_map.1 hx
  obtain ⟨o,ho,eo⟩:=BA hy
  have:=ro.2 o ho
  rw[eo] at this
  exact ⟨this.1,by dsimp only;omega,rs.2.2.1⟩) o!
 refine ⟨n,a.up o!,by omega,fun m hm=>?_,d⟩
 show yE (uA (LG (j.af.g r).aJ) _) m n=_
 rw[c m hm,ZC _ hm,aao,I0];omega
theorem Ul (F:b5 j) {i k:Nat} (hi:i<j.ab.length) (hk:k≤63) (hp:p.g i=false) (pl:p.length=j.ab.length) (sl:s.length=j.ab.length) {st:Int} (st0:0≤st) (U5:st+(j.ab.g i).takes≤100000) {A:List Tl} (I:INV j p s k A) (a:List Bool) (b:List Int):INV j (p.set i true) (s.set i st) (k+1) (fR j a b A (i:Int) st).2.2:=by
 have tk:=F.tk i hi
 rw[z9]
 show INV j (p.set i true) (s.set i st) (k+1) (ew A (j.ab.g (Int.toNat (i:Int))).aA ⟨st,st+(j.ab.g (Int.toNat (i:Int))).takes - 1⟩)
 rw[Int.toNat_natCast]
 refine ⟨by rw[G7];exact I.1,fun r hr=>?_⟩
 obtain ⟨n,B,hn,lv,mk⟩:=I.2 r hr
 have hd:=LJ (fun q hq=>(F.ur i hi q hq).1) (F.ud i hi)
 have hf:fit (A.g r).l=(A.g r).l:=rZ B.is.len
 rcases LI (sp:=⟨st,st+(j.ab.g i).takes - 1⟩) (r:=r) _ A hd (fun u hu=>by
  obtain ⟨q,hq,e⟩:=BA hu
  have:=F.ur i hi q hq
  rw[e] at this
  have:=I.1;omega) with ⟨u,hu,er,g⟩ | ⟨H_,g⟩
 · rw[g,hf]
   obtain ⟨q,hq,e⟩:=BA hu
   have um:=F.um i hi q hq
   have ur:=F.ur i hi q hq
   have us:=BZ F hi hq
   rw[e] at um ur us
   rw[er] at um
   have rs:=(F.rs r hr).2.2
   rw[show u.ah=(r:Int) by omega] at us
   obtain ⟨n',x1,x2,x3,x4⟩:=LH B o! (s:=⟨st,st+(j.ab.g i).takes - 1⟩) (p:=u.aJ) st0 (by dsimp only;omega) o! o!
   refine ⟨n',x1.up o!,by omega,fun m hm=>?_,x4.trans mk⟩
   show yE (eU (A.g r).l ⟨st,st+(j.ab.g i).takes - 1⟩ u.aJ) m n'=_
   rw[x3 m hm,lv m hm,B0 hi hp pl sl]
   have:ZD ⟨st,st+(j.ab.g i).takes - 1⟩ m u.aJ=if st≤m∧m<st+(j.ab.g i).takes then il (j.ab.g i) (r:Int) else 0:=by
    unfold ZD
    rw[us]
    by_cases c:st≤m∧m<st+(j.ab.g i).takes
    · have c':st≤m∧m≤st+(j.ab.g i).takes - 1:=⟨c.1,by omega⟩
      exact (if_pos c').trans (if_pos c).symm
    · have c':¬(st≤m∧m≤st+(j.ab.g i).takes - 1):=fun w=>c ⟨w.1,by omega⟩
      exact (if_neg c').trans (if_neg c).symm
   rw[this];omega
 · rw[g]
   refine ⟨n,B.up o!,by omega,fun m hm=>?_,mk⟩
   have z:il (j.ab.g i) (r:Int)=0:=by
    rcases Mg F hi (r:Int) with ⟨q,hq,e⟩ | ⟨_,e⟩
    · exact absurd (by rw[e];exact Int.toNat_natCast r) (H_ _ (Hy hq))
    · exact e
   rw[lv m hm,B0 hi hp pl sl,z,ite_self];omega
end
section
variable {j:cx} {s:List Int} {p:List Bool}
def NO (j:cx) (p:List Bool) (s:List Int) (i:Nat) (x:Int):Prop:=∀q,q<(j.ab.g i).aB.length→p.g (Int.toNat ((j.ab.g i).aB.g q))=true→s.g (Int.toNat ((j.ab.g i).aB.g q))+(j.ab.g (Int.toNat ((j.ab.g i).aB.g q))).takes≤x
def RU (j:cx) (p:List Bool) (s:List Int) (i:Nat) (x:Int) (u:Nat):Prop:=
 (∀o,o<(j.af.g (Int.toNat ((j.ab.g i).aA.g u).ah)).off.length→¬(((j.af.g (Int.toNat ((j.ab.g i).aA.g u).ah)).off.g o).bq<x+(j.ab.g i).takes∧x≤((j.af.g (Int.toNat ((j.ab.g i).aA.g u).ah)).off.g o).ba))∧te j p s (Int.toNat ((j.ab.g i).aA.g u).ah) x+((j.ab.g i).aA.g u).aJ≤(j.af.g (Int.toNat ((j.ab.g i).aA.g u).ah)).aJ∧
 ∀k,k<j.ab.length→p.g k=true→x<s.g k→s.g k<x+(j.ab.g i).takes→te j p s (Int.toNat ((j.ab.g i).aA.g u).ah) (s.g k)+((j.ab.g i).aA.g u).aJ≤(j.af.g (Int.toNat ((j.ab.g i).aA.g u).ah)).aJ
theorem Um (F:b5 j) (T:Tm j s) {i:Nat} (hi:i<j.ab.length) {x:Int}:∀(k a:Nat),a+k=(j.ab.g i).aB.length→
 (iD j (i:Int) p x s k a=none∧∀q,a≤q→q<a+k→p.g (Int.toNat ((j.ab.g i).aB.g q))=true→s.g (Int.toNat ((j.ab.g i).aB.g q))+(j.ab.g (Int.toNat ((j.ab.g i).aB.g q))).takes≤x)∨(iD j (i:Int) p x s k a=some false∧¬NO j p s i x)
 | 0,a,h=> .inl ⟨rfl,fun q x y=>by omega⟩
 | k+1,a,h=>by
   have nb:=F.nb i hi a o!
   have t:=T (Int.toNat ((j.ab.g i).aB.g a)) o!
   have tk:=F.tk (Int.toNat ((j.ab.g i).aB.g a)) o!
   have ih:=Um F T hi (x:=x) k (a+1) o!
   have rest:(p.g (Int.toNat ((j.ab.g i).aB.g a))=true→s.g (Int.toNat ((j.ab.g i).aB.g a))+(j.ab.g (Int.toNat ((j.ab.g i).aB.g a))).takes≤x)→(iD j (i:Int) p x s k (a+1)=none∧∀q,a≤q→q<a+(k+1)→p.g (Int.toNat ((j.ab.g i).aB.g q))=true→s.g (Int.toNat ((j.ab.g i).aB.g q))+(j.ab.g (Int.toNat ((j.ab.g i).aB.g q))).takes≤x)∨(iD j (i:Int) p x s k (a+1)=some false∧¬NO j p s i x):=fun c=>by
    rcases ih with ⟨e,f⟩ | g
    · refine .inl ⟨e,fun q x y=>?_⟩
      by_cases z:q=a
      · rw[z];exact c
      · exact f q o! o!
    · exact .inr g
   rw[iD,Int.toNat_natCast,wrap_i64 (n:=s.g (Int.toNat ((j.ab.g i).aB.g a))+(j.ab.g (Int.toNat ((j.ab.g i).aB.g a))).takes) o! o!]
   cases hp:p.g (Int.toNat ((j.ab.g i).aB.g a)) with
   | false=>rw[ai];exact rest fun z=>by rw[hp] at z;cases z
   | true=>
     rw[aj]
     by_cases c:x<s.g (Int.toNat ((j.ab.g i).aB.g a))+(j.ab.g (Int.toNat ((j.ab.g i).aB.g a))).takes
     · rw[decide_eq_true c];exact .inr ⟨rfl,fun z=>by have:=z a o! hp;omega⟩
     · rw[decide_eq_false c,ai];exact rest fun _=>by omega
theorem Un (F:b5 j) {i:Nat} (hi:i<j.ab.length) {x:Int} (h0:0≤x) (h1:x+(j.ab.g i).takes≤100000) {u:Nat}:∀(k a:Nat),
 (iE j (i:Int) u x k a=none∧∀q,a≤q→q<a+k→¬(((j.af.g (Int.toNat ((j.ab.g i).aA.g u).ah)).off.g q).bq<x+(j.ab.g i).takes∧x≤((j.af.g (Int.toNat ((j.ab.g i).aA.g u).ah)).off.g q).ba))∨(iE j (i:Int) u x k a=some false∧∃q,q<a+k∧(((j.af.g (Int.toNat ((j.ab.g i).aA.g u).ah)).off.g q).bq<x+(j.ab.g i).takes∧x≤((j.af.g (Int.toNat ((j.ab.g i).aA.g u).ah)).off.g q).ba))
 | 0,a=> .inl ⟨rfl,fun q x y=>by omega⟩
 | k+1,a=>by
   have tk:=F.tk i hi
   have ih:=Un F hi h0 h1 (u:=u) k (a+1)
   have rest:¬(((j.af.g (Int.toNat ((j.ab.g i).aA.g u).ah)).off.g a).bq<x+(j.ab.g i).takes∧x≤((j.af.g (Int.toNat ((j.ab.g i).aA.g u).ah)).off.g a).ba)→(iE j (i:Int) u x k (a+1)=none∧∀q,a≤q→q<a+(k+1)→¬(((j.af.g (Int.toNat ((j.ab.g i).aA.g u).ah)).off.g q).bq<x+(j.ab.g i).takes∧x≤((j.af.g (Int.toNat ((j.ab.g i).aA.g u).ah)).off.g q).ba))∨(iE j (i:Int) u x k (a+1)=some false∧∃q,q<a+(k+1)∧(((j.af.g (Int.toNat ((j.ab.g i).aA.g u).ah)).off.g q).bq<x+(j.ab.g i).takes∧x≤((j.af.g (Int.toNat ((j.ab.g i).aA.g u).ah)).off.g q).ba)):=fun c=>by
    rcases ih with ⟨e,f⟩ | ⟨e,q,x,y⟩
    · refine .inl ⟨e,fun q x y=>?_⟩
      by_cases z:q=a
      · rw[z];exact c
      · exact f q o! o!
    · exact .inr ⟨e,q,by omega,y⟩
   rw[iE,Int.toNat_natCast,wrap_i64 (n:=x+(j.ab.g i).takes) o! o!]
   by_cases c1:((j.af.g (Int.toNat ((j.ab.g i).aA.g u).ah)).off.g a).bq<x+(j.ab.g i).takes
   · rw[decide_eq_true c1,aj]
     by_cases c2:x≤((j.af.g (Int.toNat ((j.ab.g i).aA.g u).ah)).off.g a).ba
     · rw[decide_eq_true c2];exact .inr ⟨rfl,a,by omega,c1,c2⟩
     · rw[decide_eq_false c2,ai];exact rest fun e=>c2 e.2
   · rw[decide_eq_false c1,ai];exact rest fun e=>c1 e.1
theorem aap (F:b5 j) (T:Tm j s) {i u:Nat} (hi:i<j.ab.length) (hu:u<(j.ab.g i).aA.length) (m:Int):IntKind.i64.wrap (jJ j s p ((j.ab.g i).aA.g u).ah m+((j.ab.g i).aA.g u).aJ)=te j p s (Int.toNat ((j.ab.g i).aA.g u).ah) m+((j.ab.g i).aA.g u).aJ:=by
 have ur:=F.ur i hi u hu
 have um:=F.um i hi u hu
 have rm:=(F.rs (Int.toNat ((j.ab.g i).aA.g u).ah) o!).2.2
 have lb:=aan F (s:=s) (p:=p) (r:=(Int.toNat ((j.ab.g i).aA.g u).ah)) (m:=m)
 have ld:=adH F T p (Int.toNat ((j.ab.g i).aA.g u).ah) m
 rw[show (((Int.toNat ((j.ab.g i).aA.g u).ah):Nat):Int)=((j.ab.g i).aA.g u).ah by omega] at ld
 rw[ld]
 show IntKind.i64.wrap (te j p s (Int.toNat ((j.ab.g i).aA.g u).ah) m+((j.ab.g i).aA.g u).aJ)=_
 rw[wrap_i64 o! o!]
theorem Uo (F:b5 j) (T:Tm j s) {i:Nat} (hi:i<j.ab.length) {x:Int} (h0:0≤x) (h1:x+(j.ab.g i).takes≤100000) {u:Nat} (hu:u<(j.ab.g i).aA.length):∀(k a:Nat),a+k=j.ab.length→
 (fA j p x s (i:Int) u k a=none∧∀q,a≤q→q<a+k→p.g q=true→x<s.g q→s.g q<x+(j.ab.g i).takes→te j p s (Int.toNat ((j.ab.g i).aA.g u).ah) (s.g q)+((j.ab.g i).aA.g u).aJ≤(j.af.g (Int.toNat ((j.ab.g i).aA.g u).ah)).aJ)∨
 (fA j p x s (i:Int) u k a=some false∧¬RU j p s i x u)
 | 0,a,h=> .inl ⟨rfl,fun q x y=>by omega⟩
 | k+1,a,h=>by
   have tk:=F.tk i hi
   have ih:=Uo F T hi h0 h1 hu k (a+1) o!
   have rest:(p.g a=true→x<s.g a→s.g a<x+(j.ab.g i).takes→te j p s (Int.toNat ((j.ab.g i).aA.g u).ah) (s.g a)+((j.ab.g i).aA.g u).aJ≤(j.af.g (Int.toNat ((j.ab.g i).aA.g u).ah)).aJ)→(fA j p x s (i:Int) u k (a+1)=none∧∀q,a≤q→q<a+(k+1)→p.g q=true→x<s.g q→s.g q<x+(j.ab.g i).takes→te j p s (Int.toNat ((j.ab.g i).aA.g u).ah) (s.g q)+((j.ab.g i).aA.g u).aJ≤(j.af.g (Int.toNat ((j.ab.g i).aA.g u).ah)).aJ)∨
    (fA j p x s (i:Int) u k (a+1)=some false∧¬RU j p s i x u):=fun c=>by
    rcases ih with ⟨e,f⟩ | g
    · refine .inl ⟨e,fun q x y=>?_⟩
      by_cases z:q=a
      · rw[z];exact c
      · exact f q o! o!
    · exact .inr g
   rw[fA,Int.toNat_natCast,wrap_i64 (n:=x+(j.ab.g i).takes) o! o!,aap F T hi hu]
   cases e:p.g a with
   | false=>rw[ai];exact rest fun z=>by rw[e] at z;cases z
   | true=>
     rw[aj]
     by_cases c1:x<s.g a
     · rw[decide_eq_true c1,aj]
       by_cases c2:s.g a<x+(j.ab.g i).takes
       · rw[decide_eq_true c2,aj]
         by_cases c3:(j.af.g (Int.toNat ((j.ab.g i).aA.g u).ah)).aJ<te j p s (Int.toNat ((j.ab.g i).aA.g u).ah) (s.g a)+((j.ab.g i).aA.g u).aJ
         · rw[decide_eq_true c3];exact .inr ⟨rfl,fun z=>by have:=z.2.2 a o! e c1 c2;omega⟩
         · rw[decide_eq_false c3,ai];exact rest fun _ _ _=>by omega
       · rw[decide_eq_false c2,ai];exact rest fun _ _ z=>absurd z c2
     · rw[decide_eq_false c1,ai];exact rest fun _ z=>absurd z c1
theorem Up (F:b5 j) (T:Tm j s) {i:Nat} (hi:i<j.ab.length) {x:Int} (h0:0≤x) (h1:x+(j.ab.g i).takes≤100000) (ht:0<(j.ab.g i).takes):∀(k a:Nat),a+k=(j.ab.g i).aA.length→
 (g9 j (i:Int) x s p k a=none∧∀u,a≤u→u<a+k→RU j p s i x u)∨(g9 j (i:Int) x s p k a=some false∧∃u,u<(j.ab.g i).aA.length∧¬RU j p s i x u)
 | 0,a,h=> .inl ⟨rfl,fun q x y=>by omega⟩
 | k+1,a,h=>by
   have hu:a<(j.ab.g i).aA.length:=by omega
   rw[g9,Int.toNat_natCast,decide_eq_true ht,aj,aap F T hi hu]
   rcases Un F hi h0 h1 (u:=a) (j.af.g (Int.toNat ((j.ab.g i).aA.g a).ah)).off.length 0 with ⟨e2,f2⟩ | ⟨e2,o,x,y⟩
   · rw[e2]
     by_cases c:(j.af.g (Int.toNat ((j.ab.g i).aA.g a).ah)).aJ<te j p s (Int.toNat ((j.ab.g i).aA.g a).ah) x+((j.ab.g i).aA.g a).aJ
     · rw[decide_eq_true c];exact .inr ⟨rfl,a,hu,fun z=>by have:=z.2.1;omega⟩
     · rw[decide_eq_false c]
       rcases Uo F T hi h0 h1 hu (p:=p) j.ab.length 0 o! with ⟨e3,f3⟩ | ⟨e3,f3⟩
       · rw[e3]
         rcases Up F T hi h0 h1 ht k (a+1) o! with ⟨e,f⟩ | g
         · refine .inl ⟨e,fun u x y=>?_⟩
           by_cases z:u=a
           · rw[z]
             exact ⟨fun o ho=>f2 o (Nat.zero_le _) o!,by omega,fun k' Ig=>f3 k' (Nat.zero_le _) o!⟩
           · exact f u o! o!
         · exact .inr g
       · rw[e3];exact .inr ⟨rfl,a,hu,f3⟩
   · rw[e2];exact .inr ⟨rfl,a,hu,fun z=>z.1 o o! y⟩
theorem aaq {i:Nat} {x:Int} (ht:¬0<(j.ab.g i).takes):∀k a,g9 j (i:Int) x s p k a=none
 | 0,a=>rfl
 | k+1,a=>by rw[g9,Int.toNat_natCast,decide_eq_false ht];rfl
theorem aar (F:b5 j) {i:Nat} (hi:i<j.ab.length) {x:Int} (h:¬(0≤x∧x+(j.ab.g i).takes≤100000)):gF j s p (i:Int) x=false:=by
 have tk:=F.tk i hi
 rw[gF,d_,Int.toNat_natCast]
 by_cases a:0≤x
 · rw[decide_eq_true a,aj]
   by_cases b:x≤100000
   · rw[decide_eq_true b,Bool.not_true,ai,wrap_i64 (n:=x+(j.ab.g i).takes) o! o!,decide_eq_true (show 100000<x+(j.ab.g i).takes by omega)];rfl
   · rw[decide_eq_false b];rfl
 · rw[decide_eq_false a];rfl
theorem adI (F:b5 j) (T:Tm j s) {i:Nat} (hi:i<j.ab.length) {x:Int} (h0:0≤x) (h1:x+(j.ab.g i).takes≤100000):gF j s p (i:Int) x=true↔NO j p s i x∧(0<(j.ab.g i).takes→∀u,u<(j.ab.g i).aA.length→RU j p s i x u):=by
 have tk:=F.tk i hi
 rw[gF,d_,decide_eq_true h0,aj,decide_eq_true (show x≤100000 by omega),Int.toNat_natCast,wrap_i64 (n:=x+(j.ab.g i).takes) o! o!,decide_eq_false (show ¬100000<x+(j.ab.g i).takes by omega)]
 rw[Bool.not_true,ai,ai]
 rcases Um F T hi (p:=p) (x:=x) _ 0 (Nat.zero_add _) with ⟨e,f⟩ | ⟨e,f⟩
 · rw[e]
   have no:NO j p s i x:=fun q hq=>f q (Nat.zero_le _) o!
   by_cases ht:0<(j.ab.g i).takes
   · rcases Up F T hi h0 h1 ht (p:=p) _ 0 (Nat.zero_add _) with ⟨e1,f1⟩ | ⟨e1,u,x,y⟩
     · rw[e1];exact ⟨fun _=>⟨no,fun _ u hu=>f1 u (Nat.zero_le _) o!⟩,fun _=>rfl⟩
     · rw[e1];exact ⟨(fun z=>by cases z),fun z=>absurd (z.2 ht u x) y⟩
   · rw[aaq ht];exact ⟨fun _=>⟨no,fun z=>absurd z ht⟩,fun _=>rfl⟩
 · rw[e];exact ⟨(fun z=>by cases z),fun z=>absurd z.1 f⟩
def W7 (j:cx) (p:List Bool) (s:List Int) (i u:Nat) (m:Int):Prop:=I0 (j.af.g (Int.toNat ((j.ab.g i).aA.g u).ah)) m+te j p s (Int.toNat ((j.ab.g i).aA.g u).ah) m+((j.ab.g i).aA.g u).aJ≤(j.af.g (Int.toNat ((j.ab.g i).aA.g u).ah)).aJ
def RM (j:cx) (p:List Bool) (s:List Int) (i:Nat) (x:Int):Prop:=0<(j.ab.g i).takes→∀u,u<(j.ab.g i).aA.length→∀m,x≤m→m<x+(j.ab.g i).takes→W7 j p s i u m
theorem R7 (F:b5 j) {r:Nat} {m m':Int} (h:∀q,q<j.ab.length→p.g q=true→Pe j s q m→il (j.ab.g q) (r:Int)≠0→Pe j s q m'):te j p s r m≤te j p s r m':=by
 unfold te
 refine Mf fun k _ hk=>?_
 have kn:k<j.ab.length:=by omega
 by_cases hp:p.g k=true
 · rw[if_pos hp,if_pos hp]
   have b:=(R5 F (s:=s) (r:=r) (m:=m') kn).1
   by_cases ck:Pe j s k m
   · by_cases uk:il (j.ab.g k) (r:Int)=0
     · rw[Dl,if_pos ck,uk];exact b
     · rw[Dl,if_pos ck,Dl,if_pos (h k kn hp ck uk)];exact Int.le_refl _
   · rw[Dl,if_neg ck];exact b
 · rw[if_neg hp,if_neg hp];exact Int.le_refl _
theorem ae8 (F:b5 j) (T:Tm j s) {i:Nat} (hi:i<j.ab.length) {x:Int} (h0:0≤x) (ht:0<(j.ab.g i).takes) {u:Nat} (hu:u<(j.ab.g i).aA.length):RU j p s i x u↔∀m,x≤m→m<x+(j.ab.g i).takes→W7 j p s i u m:=by
 have ur:=F.ur i hi u hu
 have um:=F.um i hi u hu
 have rs:=F.rs (Int.toNat ((j.ab.g i).aA.g u).ah) o!
 constructor
 · intro ⟨a,b,c⟩ m m0 m1
   have o0:I0 (j.af.g (Int.toNat ((j.ab.g i).aA.g u).ah)) m=0:=Hx fun y hy w=>by
    obtain ⟨o,ho,eo⟩:=BA hy
    have:=a o ho
    rw[eo] at this
    exact this ⟨by omega,by omega⟩
   unfold W7
   rw[o0]
   by_cases e:∃k,k<j.ab.length∧(p.g k=true∧Pe j s k m∧il (j.ab.g k) ((Int.toNat ((j.ab.g i).aA.g u).ah):Int)≠0)
   · obtain ⟨k,hk,⟨hp,hc,hr⟩,mx⟩:=aal (fun k=>p.g k=true∧Pe j s k m∧il (j.ab.g k) ((Int.toNat ((j.ab.g i).aA.g u).ah):Int)≠0) (fun k=>s.g k) _ e
     have hc1:=hc.1
     by_cases z:s.g k≤x
     · have le:=R7 F (p:=p) (s:=s) (r:=(Int.toNat ((j.ab.g i).aA.g u).ah)) (m:=m) (m':=x) fun q hq qp qc qr=>by
        have a1:=mx q hq ⟨qp,qc,qr⟩
        have a2:=qc.2
        exact ⟨by omega,by omega⟩
       omega
     · have le:=R7 F (p:=p) (s:=s) (r:=(Int.toNat ((j.ab.g i).aA.g u).ah)) (m:=m) (m':=s.g k) fun q hq qp qc qr=>by
        have a1:=mx q hq ⟨qp,qc,qr⟩
        have a2:=qc.2
        exact ⟨a1,by omega⟩
       have:=c k hk hp o! o!
       omega
   · have le:=R7 F (p:=p) (s:=s) (r:=(Int.toNat ((j.ab.g i).aA.g u).ah)) (m:=m) (m':=x) fun q hq qp qc qr=>absurd ⟨q,hq,qp,qc,qr⟩ e
     omega
 · intro K
   have nn:∀m,0≤I0 (j.af.g (Int.toNat ((j.ab.g i).aA.g u).ah)) m:=fun m=>R4 rs.2.2.1
   refine ⟨fun o ho z=>?_,?_,fun k hk hp k0 k1=>?_⟩
   · obtain ⟨m,hm1,hm2,hm3,hm4⟩:∃m:Int,((j.af.g (Int.toNat ((j.ab.g i).aA.g u).ah)).off.g o).bq≤m∧m≤((j.af.g (Int.toNat ((j.ab.g i).aA.g u).ah)).off.g o).ba∧x≤m∧m<x+(j.ab.g i).takes:=by
      have:=rs.1 o ho
      by_cases y:x≤((j.af.g (Int.toNat ((j.ab.g i).aA.g u).ah)).off.g o).bq
      · exact ⟨((j.af.g (Int.toNat ((j.ab.g i).aA.g u).ah)).off.g o).bq,Int.le_refl _,by omega,y,z.1⟩
      · exact ⟨x,by omega,z.2,Int.le_refl _,by omega⟩
     have k:=K m hm3 hm4
     have g:=aai (c:=(j.af.g (Int.toNat ((j.ab.g i).aA.g u).ah)).aJ) (m:=m) rs.2.2.1 (Hy ho) hm1 hm2
     have l:=(aan F (s:=s) (p:=p) (r:=(Int.toNat ((j.ab.g i).aA.g u).ah)) (m:=m)).1
     unfold W7 I0 at k
     omega
   · have k:=K x (Int.le_refl _) o!
     have:=nn x
     unfold W7 at k
     omega
   · have kk:=K (s.g k) o! k1
     have:=nn (s.g k)
     unfold W7 at kk
     omega
theorem B1 (F:b5 j) (T:Tm j s) {i:Nat} (hi:i<j.ab.length) (x:Int):gF j s p (i:Int) x=true↔(0≤x∧x+(j.ab.g i).takes≤100000)∧NO j p s i x∧RM j p s i x:=by
 by_cases h:0≤x∧x+(j.ab.g i).takes≤100000
 · rw[adI F T hi h.1 h.2]
   exact ⟨fun z=>⟨h,z.1,fun ht u hu=>(ae8 F T hi h.1 ht hu).1 (z.2 ht u hu)⟩,fun z=>⟨z.2.1,fun ht u hu=>(ae8 F T hi h.1 ht hu).2 (z.2.2 ht u hu)⟩⟩
 · rw[aar F hi h];exact ⟨(fun z=>by cases z),fun z=>absurd z.1 h⟩
end
def gW {ρ:Type} (call:bu) (b:Code) (s:St) (ex exs:my) (hh:aC) (tn:(Nat→AV)→List AV) (tr:ρ→(Nat→AV)→List AV):Option ρ→Prop
 | none=>∃y hk,Ev env call (.loop b) s ex ⟨tn y,hk,[],.no⟩∧bE hh hk
 | some r=>∃y hk,Ev env call (.loop b) s exs ⟨tr r y,hk,[],.no⟩∧bE hh hk
section
variable {ρ:Type} {call:bu} {b:Code} {s:St} {ex exs:my} {hh hk:aC} {tn:(Nat→AV)→List AV} {tr:ρ→(Nat→AV)→List AV}
theorem gW.n {o:Option ρ} (e:o=none) (x:gW call b s ex exs hh tn tr o):∃y hk,Ev env call (.loop b) s ex ⟨tn y,hk,[],.no⟩∧bE hh hk:=by subst e;exact x
theorem gW.r {o:Option ρ} {r:ρ} (e:o=some r) (x:gW call b s ex exs hh tn tr o):∃y hk,Ev env call (.loop b) s exs ⟨tr r y,hk,[],.no⟩∧bE hh hk:=by subst e;exact x
theorem gW.out {i:Nat} {L:List AV} {o:Option ρ} (e:o=none) (ev:Ev env call b s (.exit i) ⟨L,hk,[],.no⟩) (G:bE hh hk) (hl:L=tn fun k=>L.getD k AV.undef):gW call b s (.exit i) exs hh tn tr o:=by
 subst e
 obtain ⟨y,q⟩:=kz (Ev.out ev) hl
 exact ⟨y,hk,q,G⟩
theorem gW.ret {i:Nat} {L:List AV} {o:Option ρ} (r:ρ) (e:o=some r) (ev:Ev env call b s (.exit i) ⟨L,hk,[],.no⟩) (G:bE hh hk) (hl:L=tr r fun k=>L.getD k AV.undef):gW call b s ex (.exit i) hh tn tr o:=by
 subst e
 obtain ⟨y,q⟩:=kz (tmpl:=tr r) (Ev.out ev) hl
 exact ⟨y,hk,q,G⟩
theorem gW.round {L:List AV} {o o':Option ρ} (e:o=o') (ev:Ev env call b s .normal ⟨L,hk,[],.no⟩) (G:bE hh hk) (Tx:(Nat→AV)→List AV) (hl:L=Tx fun k=>L.getD k AV.undef) (ih:∀x,gW call b ⟨Tx x,hk,[],.no⟩ ex exs hk tn tr o'):gW call b s ex exs hh tn tr o:=by
 subst e
 have q:=ih fun k=>L.getD k AV.undef
 rw[←hl] at q
 cases o with
 | none=>obtain ⟨y,h2,x,g⟩:=q;exact ⟨y,h2,Ev.loop ev x,G.trans g⟩
 | some r=>obtain ⟨y,h2,x,g⟩:=q;exact ⟨y,h2,Ev.loop ev x,G.trans g⟩
end
structure Cl where
 b:Nat
 o:Nat
 pieces:Int
@[reducible] def Cl.c (x:Cl):List AV:=[.func 110 [.ptr x.b x.o] [],.int .i64 x.pieces]
instance:aR Cl:={default:=⟨0,0,0⟩,c:=Cl.c,n:=2,e:=190,len:=fun _=>rfl,ok:=fun _ _=>True,mono:=fun _ o=>o,size:=by kernel_rfl,agg:=by kernel_rfl,pos:=by decide}
instance:Flat Cl where
 free o:=o
def re:Code:=(Tryz.f111.body).getD .skip
theorem Pj:Tryz.f111.body=some re:=by kernel_rfl
def I1:Code:=(bw re).getD 0 .skip
def I2:Code:=(bw re).getD 1 .skip
def gP (P:Nat→Int→Int) (kU:Int) (b_:List Cl):Nat→Nat→Option (Int)
 | 0,_=>none
 | o8+1,i1=>(bif (decide (kU<(P i1 kU))) then some (P i1 kU) else gP P kU b_ o8 (i1+1))
theorem xC {d:Nat} {h:aC} (kU:Int) (takes:Int) (claimsV:AV) (b_:List Cl) (P:Nat→Int→Int) (cA:Int) (eM:aW h claimsV b_) (hP:∀i,i<b_.length→∀(f:Int) (hh:aC),0≤f→f≤1000000→Tidy hh→Has h hh→cN d (.fn 110) [(AV.ptr (b_.g i).b (b_.g i).o),(Zi f),(Zi takes),(Zi (b_.g i).pieces)] hh= .ret (.int .i64 (P i f)) hh) (hB:∀i,i<b_.length→∀f:Int,0≤f→f≤1000000→P i f≤1000000) (pH:0≤cA) (qP:cA≤1000000) (qQ:0≤kU) (vG:kU≤1000000):∀(k_ i_:Nat) (_:i_+k_=b_.length) (x:Nat→AV) (hh:aC) (aI:Tidy hh) (aE:Has h hh),gW (cN (d)) I2 ⟨((Zi kU)::(Zi takes)::claimsV::rx x 3 7 (claimsV::(Zn b_.length)::(Zn i_)::rx x 13 16 [])),hh,[],.no⟩ (.exit 2) (.exit 1) hh (fun y=>((Zi kU)::(Zi takes)::claimsV::rx y 3 7 (claimsV::(Zn b_.length)::rx y 12 17 []))) (fun r y=>((Zi r)::(Zi takes)::claimsV::rx y 3 7 (claimsV::(Zn b_.length)::rx y 12 17 []))) (gP P kU b_ k_ i_)
 | 0,i1,fX,x,hh,aI,aE=>by
   have q1:(decide (((i1:Nat):Int)<((b_.length:Nat):Int)))=false:=d!
   exact gW.out rfl (pk (d) _ _ hh _ hh (VV (bL 3 false false .i64 ((i1:Nat):Int) ((b_.length:Nat):Int))<|BB q1<|ZZ) k!) (bE.refl aI) k!
 | o8+1,i1,fX,x,hh,aI,aE=>by
   have qR:=eM.small
   have q1:(decide (((i1:Nat):Int)<((b_.length:Nat):Int)))=true:=d!
   obtain ⟨p3,q4,cC⟩:=(eM.has aE).elem (i:=i1) o!
   have iW:bO env (some (.slice 190)) (some claimsV) (some (Zn i1))=some (AV.ptr p3 q4):=cC
   have jY:bh env hh 190 (AV.ptr p3 q4)=some (AV.agg [(AV.func 110 [(AV.ptr (b_.g i1).b (b_.g i1).o)] []),(Zi (b_.g i1).pieces)]):=(eM.has aE).load o! cC
   obtain ⟨h6,mK,ji,zU,mL,bU⟩:=jE aI (aM.cells [AV.nilFunc,(Zi 0)] 190 false)
   have hZ:Has hh h6:=bU
   obtain ⟨h7,l7,eP,vH,fH,bp⟩:=n5 (t:=190) (n:=2) (i:=hh.nx) (L:=[(AV.func 110 [(AV.ptr (b_.g i1).b (b_.g i1).o)] []),(Zi (b_.g i1).pieces)]) ji mL k! rfl rfl (by simp only[AV.cells,List.all_cons,List.all_nil,Bool.and_true,Bool.and_self,gr,eO,gu,gv,dG,jK,jL,jM,jN,jO,gz,ajq])
   have dm:Has hh h7:=Has.dg hZ bp aI o!
   have k8:=hP i1 o! kU h7 o! o! eP (aE.trans dm)
   have dJ:=fun {al ps} (k:Pk al _ ps)=>(VV (bL 3 false false .i64 ((i1:Nat):Int) ((b_.length:Nat):Int))<|BV q1 iW<|MM jY<|NN mK (fun i=>(Pt i))<|SS l7<|CC<|MM (aO 188 0 (AV.func 110 [(AV.ptr (b_.g i1).b (b_.g i1).o)] []) fH k!)<|CN 3<|MM (aO 3 1 (Zi (b_.g i1).pieces) fH k!)<|EE k8<|CN 3<|VV (dw 3 false false .i64 (P i1 kU) kU)<|k:Pk _ [] ps)
   rcases Bool.eq_false_or_eq_true (decide (kU<(P i1 kU))) with f1 | f1
   · have fP:=of_decide_eq_true f1
     exact gW.ret (P i1 kU) (by simp only[gP,f1,aj,ai]) (pk (d) _ _ hh _ h7 (dJ<|BB f1<|CN 2<|ZZ) k!) (⟨eP,dm,by omega⟩) k!
   · have fP:=of_decide_eq_false f1
     have u10:=fi 3 false true i1 1 o!
     exact gW.round (by simp only[gP,f1,aj,ai]) (pk (d) _ _ hh _ h7 (dJ<|BV f1 u10<|CC<|ZZ) k!) (⟨eP,dm,by omega⟩) _ k! (fun x=>xC kU takes claimsV b_ P cA eM hP hB pH qP qQ vG o8 (i1+1) o! x h7 eP (aE.trans dm))
theorem vu {b_:List Cl} {P:Nat→Int→Int} {f:Int} (hB:∀i,i<b_.length→∀f:Int,0≤f→f≤1000000→P i f≤1000000) (h0:0≤f) (h1:f≤1000000):∀{k i:Nat} {r:Int},i+k=b_.length→gP P f b_ k i=some r→f<r∧r≤1000000
 | 0,i,r,_,h=>by cases h
 | k+1,i,r,e,h=>by
   rw[gP] at h
   by_cases c:f<P i f
   · rw[decide_eq_true c] at h;cases h;exact ⟨c,hB i o! f h0 h1⟩
   · rw[decide_eq_false c] at h;exact vu hB h0 h1 (k:=k) o! h
def jq (P:Nat→Int→Int) (b_:List Cl):Nat→Int→Int
 | 0,kU=>kU
 | dq+1,kU=>(match (gP P kU b_ b_.length 0) with | none=>kU | some yF=>jq P b_ dq yF)
theorem xD {d:Nat} {h:aC} (takes:Int) (claimsV:AV) (b_:List Cl) (P:Nat→Int→Int) (cA:Int) (bx:aW h claimsV b_) (hP:∀i,i<b_.length→∀(f:Int) (hh:aC),0≤f→f≤1000000→Tidy hh→Has h hh→cN d (.fn 110) [(AV.ptr (b_.g i).b (b_.g i).o),(Zi f),(Zi takes),(Zi (b_.g i).pieces)] hh= .ret (.int .i64 (P i f)) hh) (hB:∀i,i<b_.length→∀f:Int,0≤f→f≤1000000→P i f≤1000000) (hF:0≤cA) (je:cA≤1000000):∀(k_:Nat) (kU:Int) (_:(1000001 - kU≤(k_:Int))) (_:(0≤kU∧kU≤1000000)) (x:Nat→AV) (hh:aC) (aI:Tidy hh) (aE:Has h hh),cE (cN (d)) I1 ⟨((Zi kU)::(Zi takes)::claimsV::rx x 3 26 []),hh,[],.no⟩ (.exit 0) hh (fun r y=>((Zi r)::(Zi takes)::claimsV::rx y 3 26 [])) (fun r=>(0≤r∧r≤1000000)) (jq P b_ k_ kU)
 | 0,kU,fX,fG,x,hh,aI,aE=>by
   exfalso;omega
 | dq+1,kU,fX,fG,x,hh,aI,aE=>by
   have gT:=bx.small
   have iC:cb (some (.slice 190)) (some claimsV)=some (Zn b_.length):=(bx.has aE).len
   have D8:=xC (d:=d) (h:=hh) kU takes claimsV b_ P cA (bx.has aE) (fun i hi f hh a b y z=>hP i hi f hh a b y (aE.trans z)) hB o! o! o! o! b_.length 0 o! (fun k_=>(((Zi kU)::(Zi takes)::claimsV::rx x 3 7 (claimsV::(Zn b_.length)::(Zi 0)::rx x 13 16 [])):List AV).getD k_ AV.undef) hh aI (Has.refl _)
   cases dL:gP P kU b_ b_.length 0 with
   | none=>
     obtain ⟨D2,h3,dX,gZ⟩:=gW.n dL D8
     have zS:=gZ.y
     have agl:hh.nx≤h3.nx:=gZ.n
     have jg:Has hh h3:=gZ.a
     exact cE.out kU (by simp only[jq,dL,aj,ai]) (pk (d) _ _ hh _ h3 (CC<|VV iC<|CC<|LL dX<|ZZ) k!) (⟨zS,jg,by omega⟩) (show (0≤kU∧kU≤1000000) from o!) k!
   | some yF=>
     have lq_:=vu hB o! o! (Nat.zero_add _) dL
     obtain ⟨D2,h3,dX,gZ⟩:=gW.r dL D8
     have zS:=gZ.y
     have agl:hh.nx≤h3.nx:=gZ.n
     have jg:Has hh h3:=gZ.a
     exact cE.round (by simp only[jq,dL,aj,ai]) (pk (d) _ _ hh _ h3 (CC<|VV iC<|CC<|LL dX<|ZZ) k!) (⟨zS,jg,by omega⟩) _ k! (fun x=>xD takes claimsV b_ P cA bx hP hB hF je dq yF o! (show (0≤yF∧yF≤1000000) from o!) x h3 zS (aE.trans jg))
def tf (cA:Int) (takes:Int) (b_:List Cl) (P:Nat→Int→Int):Int:=(jq P b_ (1000001 - cA).toNat cA)
theorem Eg {d:Nat} {h:aC} {claimsV:AV} (cA:Int) (takes:Int) (b_:List Cl) (P:Nat→Int→Int) (aas:aW h claimsV b_) (hP:∀i,i<b_.length→∀(f:Int) (hh:aC),0≤f→f≤1000000→Tidy hh→Has h hh→cN d (.fn 110) [(AV.ptr (b_.g i).b (b_.g i).o),(Zi f),(Zi takes),(Zi (b_.g i).pieces)] hh= .ret (.int .i64 (P i f)) hh) (hB:∀i,i<b_.length→∀f:Int,0≤f→f≤1000000→P i f≤1000000) (l6:0≤cA) (om:cA≤1000000) (ch:Tidy h):cN (d+1) (.fn 111) [(Zi cA),(Zi takes),claimsV] h= .ret (Zi (tf cA takes b_ P)) h:=by
 obtain ⟨yl1,h2,ahk,am2,alg⟩:=xD (d:=d) (h:=h) takes claimsV b_ P cA aas hP hB o! o! (1000001 - cA).toNat cA o! (show (0≤cA∧cA≤1000000) from o!) (fun k_=>(((Zi cA)::(Zi takes)::claimsV::AV.undef::AV.undef::AV.undef::(Zi 0)::jX 22):List AV).getD k_ AV.undef) h ch (Has.refl _)
 have kT:Has h h2:=am2.a
 have e:tf cA takes b_ P=(jq P b_ (1000001 - cA).toNat cA):=by simp only[tf,aj,ai]
 rw[e]
 exact aH rfl (bb Tryz.func111 Pj rfl (.inr rfl) (pk (d) _ _ h _ h2 (CC<|LL ahk<|CN 2<|ZZ) k!) k!) kT rfl
def Mj:Code:=(Tryz.f59.body).getD .skip
theorem Wi:Tryz.f59.body=some Mj:=by kernel_rfl
def cW (j:cx) (au:List Int) (tqk:Int):Int:=(IntKind.i64.wrap ((au.g tqk.toNat)+((j.ab.g tqk.toNat).takes)))
theorem qn {d:Nat} {h:aC} {aN:AV} (j:cx) (au:List Int) (tqk:Int) (bV:aR.ok h j) (cL:b8 h .i64 3 aN au) (l6:0≤tqk) (om:tqk<(au.length:Int)) (yD:tqk<(j.ab.length:Int)) (ch:Tidy h):cN (d+1) (.fn 59) [(AV.agg [j.aw,j.ao]),aN,(Zi tqk)] h= .ret (Zi (cW j au tqk)) h:=by
 obtain ⟨h1,di,cS,jU,bm,bP⟩:=jE ch (aM.cells [j.aw,j.ao] 25 false)
 have bA:Has h h1:=bP
 obtain ⟨p3,q4,cC,_⟩:=cL.elem (i:=tqk.toNat) o!
 have iW:bO env (some (.slice 3)) (some aN) (some (Zi tqk))=some (AV.ptr p3 q4):=by rw[show (tqk:Int)=((tqk.toNat:Nat):Int) by omega];exact cC
 have jY:bh env h1 3 (AV.ptr p3 q4)=some (Zi (au.g tqk.toNat)):=(cL.has bA).load o! cC
 obtain ⟨p7,q8,xE⟩:=bV.1.elem (i:=tqk.toNat) o!
 have Lr:bO env (some (.slice 40)) (some j.aw) (some (Zi tqk))=some (AV.ptr p7 q8):=by rw[show (tqk:Int)=((tqk.toNat:Nat):Int) by omega];exact xE
 have I3:bh env h1 3 (AV.ptr p7 (q8+1))=some (Zi (j.ab.g tqk.toNat).takes):=(bV.1.has bA).part (t:=3) (j:=1) o! xE k! rfl
 have W8:AV.same 20 j.aw j.aw=true:=bV.1.same 19
 have e:cW j au tqk=(IntKind.i64.wrap ((au.g tqk.toNat)+((j.ab.g tqk.toNat).takes))):=by simp only[cW,aj,ai]
 rw[e]
 exact aH rfl (bb Tryz.func59 Wi rfl (.inr rfl) (pk (d) _ _ h _ h1 (NN di (fun i=>(Pt i))<|CN 3<|VV iW<|MM jY<|CC<|MM (aO 22 0 j.aw bm k!)<|CC<|VV Lr<|CC<|MM I3<|CN 2<|HH jY<|HH (show AV.same 20 (Zi (au.g tqk.toNat)) (Zi (au.g tqk.toNat))=true from aS 19 _ _)<|HH (aO 22 0 j.aw bm k!)<|HH W8<|HH I3<|HH (show AV.same 20 (Zi (j.ab.g tqk.toNat).takes) (Zi (j.ab.g tqk.toNat).takes)=true from aS 19 _ _)<|ZZ) k!) k!) bA rfl
def W9 (P:Nat→Int→Int) (f:Int):Nat→Nat→Option Int
 | 0,_=>none
 | k+1,i=>bif decide (f<P i f) then some (P i f) else W9 P f k (i+1)
def R8 (P:Nat→Int→Int) (n:Nat):Nat→Int→Int
 | 0,f=>f
 | k+1,f=>match W9 P f n 0 with | none=>f | some r=>R8 P n k r
def fo (n:Nat) (P:Nat→Int→Int) (f:Int):Int:=R8 P n (Int.toNat (1000001 - f)) f
theorem aat {P:Nat→Int→Int} {f:Int} {l:List Cl}:∀k i,gP P f l k i=W9 P f k i
 | 0,i=>rfl
 | k+1,i=>by rw[gP,W9,aat k]
theorem aau {P:Nat→Int→Int} {l:List Cl}:∀k f,jq P l k f=R8 P l.length k f
 | 0,f=>rfl
 | k+1,f=>by
   rw[jq,R8,aat]
   cases W9 P f l.length 0 with
   | none=>rfl
   | some r=>exact aau k r
theorem ae9 (f t:Int) (l:List Cl) (P:Nat→Int→Int):tf f t l P=fo l.length P f:=by rw[tf,aau];rfl
theorem B3 {P:Nat→Int→Int} {f:Int}:∀{k i:Nat} {r:Int},W9 P f k i=some r→∃q,i≤q∧q<i+k∧r=P q f∧f<r
 | 0,i,r,h=>by cases h
 | k+1,i,r,h=>by
   rw[W9] at h
   by_cases c:f<P i f
   · rw[decide_eq_true c] at h;cases h;exact ⟨i,Nat.le_refl _,by omega,rfl,c⟩
   · rw[decide_eq_false c] at h
     obtain ⟨q,a,b,e,g⟩:=B3 (k:=k) h
     exact ⟨q,by omega,by omega,e,g⟩
theorem Pl {P:Nat→Int→Int} {f:Int}:∀{k i:Nat},W9 P f k i=none→∀q,i≤q→q<i+k→P q f≤f
 | 0,i,_,q,a,b=>by omega
 | k+1,i,h,q,a,b=>by
   rw[W9] at h
   by_cases c:f<P i f
   · rw[decide_eq_true c] at h;cases h
   · rw[decide_eq_false c] at h
     by_cases e:q=i
     · rw[e];omega
     · exact Pl (k:=k) h q o! o!
theorem aav {P:Nat→Int→Int} {n:Nat} (hB:∀i,i<n→∀f:Int,0≤f→f≤1000000→P i f≤1000000):∀(k:Nat) (f:Int),0≤f→f≤1000000→f≤R8 P n k f∧R8 P n k f≤1000000
 | 0,f,a,b=>⟨Int.le_refl _,b⟩
 | k+1,f,a,b=>by
   rw[R8]
   cases e:W9 P f n 0 with
   | none=>exact ⟨Int.le_refl _,b⟩
   | some r=>
     obtain ⟨q,_,hq,er,g⟩:=B3 e
     have:=hB q o! f a b
     have ih:=aav hB k r o! o!
     exact ⟨by show f≤R8 P n k r;omega,ih.2⟩
theorem afa {P:Nat→Int→Int} {n:Nat} {f:Int} (hB:∀i,i<n→∀f:Int,0≤f→f≤1000000→P i f≤1000000) (h0:0≤f) (h1:f≤1000000):f≤fo n P f∧fo n P f≤1000000:=aav hB _ f h0 h1
theorem aaw {P:Nat→Int→Int} {n:Nat}:∀(k:Nat) (f:Int),f≤R8 P n k f
 | 0,f=>Int.le_refl _
 | k+1,f=>by
   rw[R8]
   cases e:W9 P f n 0 with
   | none=>exact Int.le_refl _
   | some r=>
     obtain ⟨q,_,hq,er,g⟩:=B3 e
     have ih:=aaw (P:=P) (n:=n) k r
     show f≤R8 P n k r;omega
theorem akt {P:Nat→Int→Int} {n:Nat} (f:Int):f≤fo n P f:=aaw _ f
theorem Mk {a b c:Int} (h:c≤a):c≤imax a b:=by unfold imax;split<;>omega
theorem Fm {a b c:Int} (h:a≤c) (g:b≤c):imax a b≤c:=by unfold imax;split<;>omega
theorem R9 {j:cx} {au:List Int} (sb:∀i,i<au.length→0≤au.g i∧au.g i+(j.ab.g i).takes≤100000) (tk:∀i,i<j.ab.length→0≤(j.ab.g i).takes∧(j.ab.g i).takes≤100000) (hl:au.length=j.ab.length) {n:Int} (h0:0≤n) (h1:n<(j.ab.length:Int)):0≤cW j au n∧cW j au n≤100000:=by
 have a:=sb (Int.toNat n) o!
 have b:=tk (Int.toNat n) o!
 rw[cW,wrap_i64 o! o!];omega
theorem xF {t:List Int} {takes pieces:Int} (hf:∀i:Nat,w_ t (i:Int)≤1000000):∀(k i:Nat) (v:Int),v≤1000000→eE t takes pieces k i v≤1000000
 | 0,i,v,h=>h
 | k+1,i,v,h=>by
   rw[eE]
   cases decide (IntKind.i64.wrap (v+takes)≤t.g (i*2)) with
   | true=>exact h
   | false=>
     rw[ai]
     cases decide (t.g 323<IntKind.i64.wrap (t.g (i*2+1)+pieces)) with
     | true=>exact xF hf k (i+1) _ (Fm h (hf i))
     | false=>exact xF hf k (i+1) v h
def aax (t:Tl):Prop:=∀i:Nat,w_ (fit t.l) (i:Int)≤1000000
theorem aay {t:Tl} (h:aax t) {takes pieces f:Int} (h1:f≤1000000):nC (fit t.l) f takes pieces≤1000000:=xF h _ 0 f h1
def asks (j:cx) (tl:List Tl) (tqk:Int) (i:Nat) (f:Int):Int:=nC (fit (tl.g (Int.toNat ((j.ab.g (Int.toNat tqk)).aA.g i).ah)).l) f (j.ab.g (Int.toNat tqk)).takes ((j.ab.g (Int.toNat tqk)).aA.g i).aJ
def nL (j:cx) (tqk:Int):Nat:=bif decide (0<(j.ab.g (Int.toNat tqk)).takes) then (j.ab.g (Int.toNat tqk)).aA.length else 0
theorem aku {α β:Type} [Inhabited α] [Inhabited β] {l:List α} {f:α→β} {i:Nat} (h:i<l.length):(l.map f).g i=f (l.g i):=by
 show (l.map f).getD i default=f (l.getD i default)
 rw[List.getD_eq_getElem?_getD,List.getD_eq_getElem?_getD,List.getElem?_map,List.getElem?_eq_getElem h];rfl
theorem R_:∀(n:Nat) (l:List Nat),l.Nodup→(∀x∈l,x<n)→l.length≤n
 | 0,l,_,h=>by
   cases l with
   | nil=>exact Nat.le_refl _
   | cons x l=>have:=h x (.head _);omega
 | n+1,l,hd,h=>by
   by_cases m:n∈l
   · have e:=List.length_erase_of_mem m
     have:=R_ n (l.erase n) (hd.erase n) fun x hx=>by
      have y:=hd.mem_erase_iff.1 hx
      have z:=h x y.2
      have w:=y.1
      omega
     omega
   · have:=R_ n l hd fun x hx=>by
      have z:=h x hx
      by_cases e:x=n
      · subst e;exact absurd hx m
      · omega
     omega
theorem aaz {us:List og} {n:Nat} (hd:Dis us) (hr:∀u∈us,Int.toNat u.ah<n):us.length≤n:=by
 have:=R_ n (us.map fun u=>Int.toNat u.ah) (List.pairwise_map.2 (show us.Pairwise (fun a b=>Int.toNat a.ah≠Int.toNat b.ah) from hd)) fun x hx=>by
  obtain ⟨u,hu,rfl⟩:=List.mem_map.1 hx
  exact hr u hu
 rw[List.length_map] at this;exact this
end
end Go.Proofs.aQ
