import Derived.Test.YtfllahfbmaafcaaW3
import Derived.Test.YtfllahfbmaafcaaW4
import Derived.Test.YtfllahfbmaafcaaW6
import Derived.Test.YtfllahfbmaafcaaW8
import Derived.Test.YtfllahfbmaafcaaW0
import Derived.Test.YtfllahfbmaafcaaEnv
import Derived.Test.YtfllahfbmaafcaaW2
import Derived.Test.YtfllahfbmaafcaaA6
namespace Go.Proofs.aG
open Go.Proofs Ab
noncomputable section
set_option maxRecDepth 100000
set_option maxHeartbeats 4000000
set_option linter.unusedVariables false
set_option linter.unusedSimpArgs false
def aek:Bool:=(List.range 256).all fun s=>decide (jX ((s:Nat):Int)=(sz s:Int))
theorem Tx:aek=true:=by decide+kernel
theorem NJ {s:Nat} (h:s<256):jX ((s:Nat):Int)=(sz s:Int):=of_decide_eq_true (List.all_eq_true.1 Tx s (List.mem_range.2 h))
def hasB:Bool:=(List.range 256).all fun s=>(List.range 8).all fun g=>Cx ((s:Nat):Int) ((g:Nat):Int)==s.testBit g
theorem Xp:hasB=true:=by decide+kernel
theorem abt {s:Nat} {g:Int} (h:s<256) (g0:0≤g) (g1:g<8):Cx ((s:Nat):Int) g=s.testBit g.toNat:=by
 obtain ⟨k,rfl⟩:∃k:Nat,g=k:=⟨g.toNat,by omega⟩
 have:=List.all_eq_true.1 (List.all_eq_true.1 Xp s (List.mem_range.2 h)) k (List.mem_range.2 o!)
 simpa using this
theorem NK {n:Nat} (h:n≤8):(qf .u64 1 ((n:Nat):Int)).toNat=2^n:=by
 have:∀n:Nat,n<9→(qf .u64 1 ((n:Nat):Int)).toNat=2^n:=by decide+kernel
 exact this n o!
def zi (q:ay) (l:List az) (r:List Gate) (s0:Int):List Gate:=([(⟨0,q.ao,q.ai⟩:Gate)]++r)++l.map fun x=>eN q x s0
theorem Ty (q:ay) (l:List az) (r:List Gate) (s0:Int):cC q l s0 l.length 0 (([(⟨0,q.ao,q.ai⟩:Gate)])++r)=zi q l r s0:=by
 rw[LN q l s0 l.length 0 _ o!,List.drop_zero,zi]
theorem NL (q:ay) (l:List az) (r:List Gate) (s0:Int):dI q l r s0=(iI q (zi q l r s0).length ((zi q l r s0).length - 1) 1 (qj (zi q l r s0))).map (iJ q ((zi q l r s0).length - 1) 0):=by
 rw[dI,Ty,qj]
theorem ael (q:ay) (l:List az) (r:List Gate) (s0:Int):uJ q l r s0=(zi q l r s0).length:=by
 rw[uJ,Ty]
theorem xP (q:ay) (l:List az) (r:List Gate) (s0:Int):(zi q l r s0).length=1+r.length+l.length:=by
 rw[zi,List.length_append,List.length_append,List.length_map,List.length_singleton]
section
variable {q:ay} {l:List az} (f:RF q l) {s:Nat} (hs:s<256)
include f hs
theorem NM {j:Nat} (hj:j<l.length):eN q (l.g j) ((s:Nat):Int)=if s.testBit (l.g j).aD.toNat then bu (l.g j).time else ⟨(Et q (l.g j)).time,(Et q (l.g j)).ax,(Et q (l.g j)).ar⟩:=by
 obtain ⟨⟨g1,g2⟩,⟨g3,g4⟩,g5,g6⟩:=f.read j hj
 have hb:=f.bad
 have hg:=f.aD (l.g j).aD.toNat o!
 obtain ⟨w1,w2⟩:=mL hg g3 g4
 rw[eN,abt hs g1 o!]
 cases s.testBit (l.g j).aD.toNat with
 | true=>rfl
 | false=>
   rw[ah,I' ⟨hg.2.2.2.2.1,hg.2.2.2.2.2⟩ g3 g4,Pb o! o!,Pb o! o!];rfl
theorem xQ {r:List Gate} {g:Gate}:g∈zi q l r ((s:Nat):Int)↔g=⟨0,q.ao,q.ai⟩∨g∈r∨∃j,j<l.length∧g=if s.testBit (l.g j).aD.toNat then bu (l.g j).time else ⟨(Et q (l.g j)).time,(Et q (l.g j)).ax,(Et q (l.g j)).ar⟩:=by
 rw[zi,List.mem_append,List.mem_append,List.mem_singleton,List.mem_map,or_assoc]
 refine or_congr Iff.rfl (or_congr Iff.rfl ⟨fun ⟨x,hx,e⟩=>?_,fun ⟨j,hj,e⟩=>?_⟩)
 · obtain ⟨j,hj,rfl⟩:=List.mem_iff_getElem.1 hx
   refine ⟨j,hj,?_⟩
   rw[←NM f hs hj,nf hj];exact e.symm
 · refine ⟨l.g j,by rw[nf hj];exact List.getElem_mem hj,?_⟩
   rw[NM f hs hj];exact e.symm
omit f hs in
theorem NO {t:Int}:¬KB (kn (bu t)):=fun h=>by
 have:=h.2.1
 simp only[kn,bu] at this
 omega
theorem Pj {r:List Gate} (hr:∀g∈r,∃t,0≤t∧t≤100000∧g=bu t):NB (qj (zi q l r ((s:Nat):Int)))∧∀c,KG (qj (zi q l r ((s:Nat):Int))) c↔KS q l s c:=by
 have fs:=f.start
 have k0:KB (kn (⟨0,q.ao,q.ai⟩:Gate)):=⟨⟨by simp [kn],by simp [kn]⟩,by simp only[kn];omega,by simp only[kn];omega,by simp only[kn];omega,by simp only[kn];omega⟩
 have h0:(zi q l r ((s:Nat):Int)).g 0=⟨0,q.ao,q.ai⟩:=rfl
 have ht:∀g∈zi q l r ((s:Nat):Int),(0≤g.time∧g.time≤100000)∧(KB (kn g)∨Open g)∧g.ax≤g.ar:=fun g hg=>by
  rcases (xQ f hs).1 hg with rfl | hg | ⟨j,hj,e⟩
  · exact ⟨⟨Int.le_refl _,by simp only;omega⟩,.inl k0,by simp only;omega⟩
  · obtain ⟨t,t0,t1,rfl⟩:=hr _ hg
    exact ⟨⟨t0,t1⟩,.inr ⟨rfl,rfl⟩,by simp only[bu];omega⟩
  · obtain ⟨⟨g1,g2⟩,⟨g3,g4⟩,g5,g6⟩:=f.read j hj
    have hb:=f.bad
    obtain ⟨w1,w2⟩:=mL (f.aD (l.g j).aD.toNat o!) g3 g4
    cases e1:s.testBit (l.g j).aD.toNat with
    | true=>rw[e1,if_pos rfl] at e;subst e;exact ⟨⟨g3,g4⟩,.inr ⟨rfl,rfl⟩,by simp only[bu];omega⟩
    | false=>rw[e1,if_neg (by decide)] at e;subst e;exact ⟨⟨g3,g4⟩,.inl (Lk f hj),by simp only[Et];omega⟩
 obtain ⟨a,b⟩:=Te (L:=zi q l r ((s:Nat):Int)) (by rw[xP];omega) ht (by rw[h0]) (by rw[h0];exact k0)
 refine ⟨a,fun c=>?_⟩
 rw[b]
 constructor
 · rintro ⟨g,hg,kb,rfl⟩
   rcases (xQ f hs).1 hg with rfl | hg | ⟨j,hj,e⟩
   · exact .inl rfl
   · obtain ⟨t,_,_,rfl⟩:=hr _ hg
     exact absurd kb (NO)
   · cases e1:s.testBit (l.g j).aD.toNat with
     | true=>rw[e1,if_pos rfl] at e;subst e;exact absurd kb (NO)
     | false=>rw[e1,if_neg (by decide)] at e;subst e;exact .inr ⟨j,hj,e1,rfl⟩
 · rintro (rfl | ⟨j,hj,e1,rfl⟩)
   · exact ⟨_,(xQ f hs).2 (.inl rfl),k0,rfl⟩
   · exact ⟨⟨(Et q (l.g j)).time,(Et q (l.g j)).ax,(Et q (l.g j)).ar⟩,(xQ f hs).2 (.inr (.inr ⟨j,hj,by rw[e1];rfl⟩)),Lk f hj,rfl⟩
theorem EI {r:List Gate} (hr:∀g∈r,∃t,0≤t∧t≤100000∧g=bu t):(dI q l r ((s:Nat):Int)=none↔¬Ay q l s)∧∀w,dI q l r ((s:Nat):Int)=some w→
 w.length=(zi q l r ((s:Nat):Int)).length∧(∀g∈zi q l r ((s:Nat):Int),∃j,j<w.length∧(w.g j).time=g.time)∧∀j,j<w.length→∀x,((w.g j).ax≤x∧x≤(w.g j).ar)↔Vf q l s (w.g j).time x:=by
 obtain ⟨r0,r1,f0,f1⟩:=f.IY
 obtain ⟨gs,kg⟩:=Pj f hs hr
 have h1:1≤(zi q l r ((s:Nat):Int)).length:=by rw[xP];omega
 obtain ⟨p1,p2,p3⟩:=zd h1
 have len:=p1.length_eq
 obtain ⟨c1,c2⟩:=Pe f0 f1 r0 r1 gs (n:=(zi q l r ((s:Nat):Int)).length) len.symm h1
 have ex:GM q.aJ q.aI (KG (qj (zi q l r ((s:Nat):Int))))↔Ay q l s:=
  ⟨fun h i hi k hk=>h i ((kg i).2 hi) k ((kg k).2 hk),fun h i hi k hk=>h i ((kg i).1 hi) k ((kg k).1 hk)⟩
 rw[NL]
 refine ⟨?_,fun w e=>?_⟩
 · rw[Option.map_eq_none_iff,c1,ex]
 · obtain ⟨W,e1,rfl⟩:=Option.map_eq_some_iff.1 e
   obtain ⟨d1,d2⟩:=c2 W e1
   refine ⟨d1,fun g hg=>?_,fun j hj x=>?_⟩
   · obtain ⟨j,hj,e2⟩:=List.mem_iff_getElem.1 (p1.symm.subset hg)
     refine ⟨j,by omega,?_⟩
     rw[(d2 j o!).1,nf hj,e2]
   · have nD:j<(zi q l r ((s:Nat):Int)).length:=by omega
     rw[(d2 j nD).2 x,(d2 j nD).1]
     exact ⟨fun h c hc=>h c ((kg c).2 hc),fun h c hc=>h c ((kg c).1 hc)⟩
end
theorem Tz {w:List Gate} {t:Int}:∀(k i:Nat),i+k=w.length→(∃j,i≤j∧j<w.length∧(w.g j).time=t)→∃j:Nat,eO w (fun y=>fC y t) k i=some ((j:Nat):Int)∧j<w.length∧(w.g j).time=t
 | 0,i,h,⟨j,a,b,_⟩=>by omega
 | k+1,i,h,⟨j,a,b,c⟩=>by
   rw[eO]
   show ∃j:Nat,(bif decide ((w.g i).time=t) then some ((i:Nat):Int) else eO w (fun y=>fC y t) k (i+1))=_∧_
   by_cases e:(w.g i).time=t
   · rw[decide_eq_true e];exact ⟨i,rfl,by omega,e⟩
   · rw[decide_eq_false e]
     refine Tz k (i+1) o! ⟨j,?_,b,c⟩
     rcases Nat.lt_or_eq_of_le a with q | q
     · omega
     · subst q;exact absurd c e
theorem TA {w:List Gate} {t:Int} (h:∃j,j<w.length∧(w.g j).time=t):∃j:Nat,bL w (fun y=>fC y t)=((j:Nat):Int)∧j<w.length∧(w.g j).time=t:=by
 obtain ⟨j,a,b⟩:=h
 obtain ⟨i,e,c⟩:=Tz w.length 0 o! ⟨j,Nat.zero_le _,a,b⟩
 exact ⟨i,by rw[bL,e],c⟩
theorem GU {q:ay} {l:List az} (f:RF q l) {t:Int} (t0:0≤t) (t1:t≤100000) {s:Nat} (hs:s<256) {w:List Gate} (e:dI q l [bu t] ((s:Nat):Int)=some w):
 uJ q l [bu t] ((s:Nat):Int)=w.length∧0≤bL w (fun y=>fC y t)∧bL w (fun y=>fC y t)<(w.length:Int)∧w.length<1000∧Ay q l s∧(∀x,((jY w t).aU≤x∧x≤(jY w t).aF)↔Vf q l s t x):=by
 have hr:∀g∈ [bu t],∃t,0≤t∧t≤100000∧g=bu t:=fun g hg=>by rw[List.mem_singleton] at hg;exact ⟨t,t0,t1,hg⟩
 obtain ⟨c1,c2⟩:=EI f hs hr
 obtain ⟨d1,d2,d3⟩:=c2 w e
 obtain ⟨j,e1,e2,e3⟩:=TA (w:=w) (t:=t) (d2 _ ((xQ f hs).2 (.inr (.inl (List.mem_singleton.2 rfl)))))
 have hm:=f.sN
 refine ⟨by rw[ael,d1],by rw[e1];omega,by rw[e1];omega,by rw[d1,xP,List.length_singleton];omega,?_,fun x=>?_⟩
 · exact Classical.byContradiction fun h=>by rw[c1.2 h] at e;cases e
 · have:=d3 j e2 x
   rw[e3] at this
   rw[jY,e1];exact this
section
variable {α:Type} [aA α]
theorem bk.ix {h0 h:aw} {z:AV} {l:List α} (y:Tidy h) (o:bk h0 h z l) {i:Nat} (hi:i<l.length):
 ∃p,dy env (some (.slice (aA.e α))) (some z) (some (.int .i64 ((i:Nat):Int)))=some (.ptr p (i*aA.n α))∧p<h.nx∧h0.nx≤p:=by
 rcases o with ⟨_,rfl⟩ | ⟨hn,p,op,rfl,hp,hg⟩
 · simp at hi
 · have ix:=cn (E:=env) (i:=p) (o:=0) (c:=l.length) (b:=op) (aA.size (α:=α)) hi
   rw[Nat.zero_add] at ix
   exact ⟨p,ix,y _ _ hg,hp⟩
theorem Jp {L:List AV} {o:Nat} (ho:o<L.length) (v:AV):setFrom L o [v]=L.set o v:=by
 apply List.ext_getElem?
 intro k
 rw[eC,List.getElem?_set]
 by_cases e:o=k
 · subst e;rw[if_pos ⟨by omega,by simp,by omega⟩,if_pos rfl,if_pos ho];simp
 · rw[if_neg (by simp only[List.length_cons,List.length_nil];omega),if_neg e]
theorem Pl {l:List α} {i j:Nat} (h:i<l.length) {x:α} {v:AV} (hj:j<aA.n α) (hc:aA.c x=(aA.c (l.g i)).set j v):(l.flatMap aA.c).set (i*aA.n α+j) v=(l.set i x).flatMap aA.c:=by
 rw[←qU h x,hc]
 have hl:=b7 aA.len l
 have hb:i*aA.n α+aA.n α≤l.length*aA.n α:=by rw[←Nat.succ_mul];exact Nat.mul_le_mul_right _ h
 apply List.ext_getElem?
 intro k
 rw[eC,List.length_set,aA.len,hl,List.getElem?_set,hl]
 have gi:∀r,r<aA.n α→(l.flatMap aA.c)[i*aA.n α+r]? =(aA.c (l.g i))[r]? :=fun r hr=>ie aA.len l i r h hr
 by_cases e:i*aA.n α+j=k
 · subst e
   rw[if_pos rfl,if_pos o!,if_pos ⟨by omega,by omega,by omega⟩,Nat.add_sub_cancel_left,List.getElem?_set,if_pos rfl,if_pos (by rw[aA.len];exact hj)]
 · rw[if_neg e]
   by_cases q:i*aA.n α≤k∧k<i*aA.n α+aA.n α∧k<l.length*aA.n α
   · obtain ⟨r,rfl⟩:∃r,k=i*aA.n α+r:=⟨k - i*aA.n α,by omega⟩
     rw[if_pos q,Nat.add_sub_cancel_left,List.getElem?_set,if_neg o!,gi r o!]
   · rw[if_neg o!]
theorem bk.ahq {h0 h:aw} {z:AV} {l:List α} (y:Tidy h) (y0:Tidy h0) (a:Has h0 h) (o:bk h0 h z l) {i:Nat} (hi:i<l.length) {p q:Nat}
 (hix:dy env (some (.slice (aA.e α))) (some z) (some (.int .i64 ((i:Nat):Int)))=some (.ptr p q)) {t:TypeId} {j:Nat} {x:α} {v:AV} (ht:bZ env t=some 1) (hv:v.cells=[v]) (hs:v.scalar=true) (hj:j<aA.n α) (hc:aA.c x=(aA.c (l.g i)).set j v):
 ∃h',eG env h t (.ptr p (q+j)) v=some h'∧Tidy h'∧h'.nx=h.nx∧bk h0 h' z (l.set i x)∧Has h0 h'∧∀b w,b≠p→h.get b=some w→h'.get b=some w:=by
 rcases o with ⟨_,rfl⟩ | ⟨hn,p',op,rfl,hp,hg⟩
 · simp at hi
 · have ix:=cn (E:=env) (i:=p') (o:=0) (c:=l.length) (b:=op) (aA.size (α:=α)) hi
   rw[Nat.zero_add,hix] at ix
   simp only[Option.some.injEq,AV.ptr.injEq] at ix
   obtain ⟨rfl,rfl⟩:=ix
   have hl:=b7 aA.len l
   have hb:i*aA.n α+aA.n α≤l.length*aA.n α:=by rw[←Nat.succ_mul];exact Nat.mul_le_mul_right _ hi
   obtain ⟨h',s⟩:=sB (E:=env) (t:=t) (o:=i*aA.n α+j) (n:=1) (v:=v) hg ht (by rw[hv];rfl) o! (by rw[hv];simp [hs])
   have g':=tT y s hg
   refine ⟨h',s,qQ y s hg,sD s hg,.inr ⟨by intro e;rw[←List.length_eq_zero_iff,List.length_set] at e;omega,p,op,by rw[List.length_set],hp,?_⟩,fun j w gw=>?_,fun b w hb gw=>oo y s hg hb gw⟩
   · rw[g',hv,Jp o!,Pl hi hj hc]
   · have:=y0 _ _ gw
     exact oo y s hg o! (a _ _ gw)
end
def kK (L:List Span):List Span:=(jJ (L.map fun s=>(s.aU,s.aF))).map fun x=>(⟨x.1,x.2⟩:Span)
theorem EJ:∀L:List Span,L.flatMap aA.c=kX (L.map fun s=>(s.aU,s.aF))
 | []=>rfl
 | s::L=>by
   rw[List.flatMap_cons,EJ L];rfl
theorem CM:∀L:List (Int×Int),(L.map fun x=>(⟨x.1,x.2⟩:Span)).flatMap aA.c=kX L
 | []=>rfl
 | s::L=>by
   rw[List.map_cons,List.flatMap_cons,CM L];rfl
theorem kL (L:List Span):(kK L).length=L.length:=by
 have:=(sF (L.map fun s=>(s.aU,s.aF))).2.1
 rw[kK,List.length_map,this,List.length_map]
theorem LX (L:List Span):(kK L).Perm L:=by
 have h:=(sF (L.map fun s=>(s.aU,s.aF))).1.map fun x=>(⟨x.1,x.2⟩:Span)
 rw[List.map_map] at h
 have e:((fun x:Int×Int=>(⟨x.1,x.2⟩:Span))∘fun s:Span=>(s.aU,s.aF))=id:=by funext s;rfl
 rw[e,List.map_id] at h
 exact h
theorem Pm (L:List Span):List.Pairwise (fun s r:Span=>s.aU≤r.aU) (kK L):=by
 obtain ⟨_,h2,h3⟩:=sF (L.map fun s=>(s.aU,s.aF))
 rw[kK,List.pairwise_map,List.pairwise_iff_getElem]
 intro i j hi hj hij
 have:=h3 i j hij (by rw[←h2];exact hj)
 rw[getElem!_pos _ i hi,getElem!_pos _ j hj] at this
 exact this
theorem aem {d:Nat} {e h:aw} {z:AV} {L:List Span} (ch:Tidy h) (oz:bk e h z L) (hL:L.length<1000000):
 ∃h1,dh (d+1) (.fn 78) [z,.func 79 [] []] h= .ret (.tuple []) h1∧Tidy h1∧h1.nx=h.nx∧bk e h1 z (kK L)∧∀k w,bD z k→h.get k=some w→h1.get k=some w:=by
 have go:∀h1,M0 78 [z,.func 79 [] []] h=some (.tuple [],h1)→dh (d+1) (.fn 78) [z,.func 79 [] []] h= .ret (.tuple []) h1:=fun h1 e=>by
  show eX env M0 (d+1) (.fn 78) _ h=_
  simp only[eX,e]
 rcases oz with ⟨rfl | ⟨p,rfl,hp,hg⟩,rfl⟩ | ⟨hn,p,op,rfl,hp,hg⟩
 · refine ⟨h,go h rfl,ch,rfl,.inl ⟨.inl rfl,?_⟩,fun _ _ _ q=>q⟩
   exact List.length_eq_zero_iff.1 (kL [])
 · have e0:kK []=[]:=List.length_eq_zero_iff.1 (kL [])
   have e1:jJ []=[]:=List.length_eq_zero_iff.1 (sF []).2.1
   refine ⟨h.put p (some (.cells [] (aA.e Span) false)),go _ ?_,(l7 ch hg).1,rfl,.inl ⟨.inr ⟨p,rfl,hp,aw.bS _⟩,e0⟩,fun k w hk q=>?_⟩
   · show BZ 79 [.slice p 0 0 0 false,.func 79 [] []] h=_
     unfold BZ
     simp only[hg,vp,if_true,List.length_nil,true_and,e1,kX]
     rfl
   · rw[aw.bx (fun c=>hk 0 0 0 false (by rw[c]))];exact q
 · have hl:(L.map fun s=>(s.aU,s.aF)).length=L.length:=List.length_map ..
   refine ⟨h.put p (some (.cells (kX (jJ (L.map fun s=>(s.aU,s.aF)))) (aA.e Span) false)),go _ ?_,(l7 ch hg).1,rfl,.inr ⟨fun c=>hn (List.length_eq_zero_iff.1 (by rw[←kL,c];rfl)),p,op,by rw[kL],hp,?_⟩,fun k w hk q=>?_⟩
   · show BZ 79 [.slice p 0 L.length L.length op,.func 79 [] []] h=_
     unfold BZ
     rw[EJ] at hg
     simp only[hg,Ee,hl,if_true]
     rw[if_pos ⟨trivial,Nat.le_refl _,hL⟩]
   · rw[aw.bS,kK,CM]
   · rw[aw.bx (fun c=>hk 0 _ _ op (by rw[c]))];exact q
theorem EK {d:Nat} {f:FuncId} {args:List AV} {h h':aw} {v:AV} {P:aw→Prop} (hm:M0 f args h=none) (hd:ug env (eX env M0 d) f args h v h') (p1:P h') (p2:Has h h'→AV.within h.nx 20 v=true→P h):
 ∃hk,dh (d+1) (.fn f) args h= .ret v hk∧P hk:=by
 by_cases hv:Has h h'∧AV.within h.nx 20 v=true
 · exact ⟨h,aC hm hd hv.1 hv.2,p2 hv.1 hv.2⟩
 · exact ⟨h',qb hm hd hv,p1⟩
def GV:Code:=(Try.f59.body).getD .skip
theorem ahr:Try.f59.body=some GV:=by kernel_rfl
def GW:Code:=(cu GV).getD 0 .skip
def oQ (S:List Span):Nat→Nat→List Span→List Span
 | 0,_,L=>L
 | k+1,i,L=>bif (decide (0≤(((L.length:Nat):Int) - 1))) then bif (decide ((S.g i).aU≤(IntKind.i64.wrap (((L.g (((L.length:Nat):Int) - 1).toNat).aF)+1)))) then oQ S k (i+1) (L.set (((L.length:Nat):Int) - 1).toNat ({(L.g (((L.length:Nat):Int) - 1).toNat) with aF:=(imax (L.g (((L.length:Nat):Int) - 1).toNat).aF (S.g i).aF)}:Span)) else oQ S k (i+1) (L++[S.g i]) else oQ S k (i+1) (L++[S.g i])
theorem AZ {d:Nat} {h:aw} {zs:AV} {S:List Span} (ch:Tidy h) (hSh:aP h zs S) (hSl:S.length≤100000):∀(k i0:Nat) (L:List Span) (z:AV) (x:Nat→AV) (hh:aw),i0+k=S.length→Tidy hh→Has h hh→h.nx≤hh.nx→bk h hh z L→L.length≤i0→
 dz (σ:=List Span) (ζ:=AV) (dh (d+1)) GW ⟨(rx x 0 3 (z::rx x 4 5 (zs::(Zn S.length)::(Zn i0)::rx x 12 37 []))),hh,[],.no⟩ (.exit 0) hh (fun _ z y=>rx y 0 3 (z::rx y 4 45 [])) (fun r z hk=>Has h hk∧bk h hk z r) (oQ S k i0 L)
 | 0,i0,L,z,x,hh,mR,aL,bB,iT,oz,hLi=>by
   have hS:=hSh.has bB
   have Vh:∀y∈L,aA.ok hh y:=fun _ _=>trivial
   have Xq:aP hh z L:=bk.rows oz o! Vh
   have q1:(decide (((i0:Nat):Int)<((S.length:Nat):Int)))=false:=d!
   exact dz.out L z rfl (pk (d+1) _ _ hh _ hh (VV (bU 3 false false .i64 ((i0:Nat):Int) ((S.length:Nat):Int))<|BB q1<|ZZ) k!) aL (Nat.le_refl _) ⟨bB,oz⟩ k!
 | k+1,i0,L,z,x,hh,mR,aL,bB,iT,oz,hLi=>by
   have hS:=hSh.has bB
   have Vh:∀y∈L,aA.ok hh y:=fun _ _=>trivial
   have Xq:aP hh z L:=bk.rows oz o! Vh
   rw[oQ]
   rcases Bool.eq_false_or_eq_true (decide (0≤(((L.length:Nat):Int) - 1))) with f1 | f1
   · have f1':=of_decide_eq_true f1
     rcases Bool.eq_false_or_eq_true (decide ((S.g i0).aU≤(IntKind.i64.wrap (((L.g (((L.length:Nat):Int) - 1).toNat).aF)+1)))) with f2 | f2
     · rw[f1,f2,ak,ak]
       have q1:(decide (((i0:Nat):Int)<((S.length:Nat):Int)))=true:=d!
       obtain ⟨p3,q4,j8⟩:=hS.elem (i:=i0) o!
       have vw:dy env (some (.slice 23)) (some zs) (some (Zn i0))=some (AV.ptr p3 q4):=j8
       have yU:bE env hh 23 (AV.ptr p3 q4)=some (AV.agg [(Zi (S.g i0).aU),(Zi (S.g i0).aF)]):=hS.load o! j8
       obtain ⟨h6,vF,m_,Ln,vG,ka⟩:=iX aL (aR.cells [(Zi 0),(Zi 0)] 23 false)
       have oG:Has h h6:=bB.trans ka
       have lD:Has hh h6:=ka
       obtain ⟨h7,qZ,lr,I4,mM,fB⟩:=vq (t:=23) (n:=2) (i:=hh.nx) (L:=[(Zi (S.g i0).aU),(Zi (S.g i0).aF)]) m_ vG k! rfl rfl (by simp only[AV.cells,List.all_cons,List.all_nil,Bool.and_true,Bool.and_self,jd,gK,je,jf,fi,mz,mA,mB,mC,mD,jg])
       have lu:Has h h7:=Has.dr oG fB ch o!
       have nv:Has hh h7:=Has.dr lD fB aL o!
       have rh:bk h h7 z L:=bk.kept (bk.has oz lD) fB (bk.sK aL oz o!)
       have LY:dN (some (.slice 23)) (some z)=some (Zn L.length):=Xq.len
       have w9:IntKind.i64.wrap (((L.length:Nat):Int) - 1)=((L.length:Nat):Int) - 1:=wrap_i64 o! o!
       have tj:(decide (0≤(((L.length:Nat):Int) - 1)))=true:=f1
       obtain ⟨Hl,ox,Xr,Xs⟩:=bk.ix lr rh (i:=(((L.length:Nat):Int) - 1).toNat) (by first | omega | (simp<;>omega))
       have Gu:dy env (some (.slice 23)) (some z) (some (Zi (((L.length:Nat):Int) - 1)))=some (AV.ptr Hl ((((L.length:Nat):Int) - 1).toNat*2)):=by rw[show ((((L.length:Nat):Int) - 1):Int)=(((((L.length:Nat):Int) - 1).toNat:Nat):Int) by omega];exact ox
       have vy:bE env h7 3 (AV.ptr Hl (((((L.length:Nat):Int) - 1).toNat*2)+1))=some (Zi (L.g (((L.length:Nat):Int) - 1).toNat).aF):=(Xq.has nv).part (t:=3) (j:=1) o! ox k! rfl
       have q15:(decide ((S.g i0).aU≤(IntKind.i64.wrap (((L.g (((L.length:Nat):Int) - 1).toNat).aF)+1))))=true:=f2
       have aen:bE env h7 3 (AV.ptr Hl (((((L.length:Nat):Int) - 1).toNat*2)+1))=some (Zi (L.g (((L.length:Nat):Int) - 1).toNat).aF):=(Xq.has nv).part (t:=3) (j:=1) o! ox k! rfl
       have afY:Span.ok h7 (L.g (((L.length:Nat):Int) - 1).toNat):=(dE (D:=Span) (h':=h7) Vh) _ (j7 (by first | omega | (simp only[List.length_set,List.length_append,List.length_nil,List.nil_append];omega)))
       have TB:aA.ok h7 ({(L.g (((L.length:Nat):Int) - 1).toNat) with aF:=(imax (L.g (((L.length:Nat):Int) - 1).toNat).aF (S.g i0).aF)}:Span):=⟨⟩
       obtain ⟨h23,aeo,aep,aiQ,aeq,aer,ahs⟩:=bk.ahq (x:=({(L.g (((L.length:Nat):Int) - 1).toNat) with aF:=(imax (L.g (((L.length:Nat):Int) - 1).toNat).aF (S.g i0).aF)}:Span)) (v:=(Zi (imax (L.g (((L.length:Nat):Int) - 1).toNat).aF (S.g i0).aF))) (t:=3) (j:=1) lr ch lu rh (by first | omega | (simp only[List.length_set,List.length_append,List.length_nil,List.nil_append];omega)) ox k! rfl rfl (by decide) rfl
       have aes:Has h h23:=aer
       have Xt:∀y∈(L.set (((L.length:Nat):Int) - 1).toNat ({(L.g (((L.length:Nat):Int) - 1).toNat) with aF:=(imax (L.g (((L.length:Nat):Int) - 1).toNat).aF (S.g i0).aF)}:Span)),aA.ok h23 y:=dE (D:=Span) (aay (dE (D:=Span) (h':=h7) Vh) TB)
       have Xu:aP h23 z (L.set (((L.length:Nat):Int) - 1).toNat ({(L.g (((L.length:Nat):Int) - 1).toNat) with aF:=(imax (L.g (((L.length:Nat):Int) - 1).toNat).aF (S.g i0).aF)}:Span)):=bk.rows aeq (by first | omega | (simp only[List.length_set,List.length_append,List.length_nil,List.nil_append];omega)) Xt
       have acg:=Xu.small
       have afZ:(L.set (((L.length:Nat):Int) - 1).toNat ({(L.g (((L.length:Nat):Int) - 1).toNat) with aF:=(imax (L.g (((L.length:Nat):Int) - 1).toNat).aF (S.g i0).aF)}:Span)).length=L.length:=List.length_set
       have u25:=fU 3 false true i0 1 o!
       have ev:=pk (d+1) GW (rx x 0 3 (z::rx x 4 5 (zs::(Zn S.length)::(Zn i0)::rx x 12 37 []))) hh .normal h23 (VV (bU 3 false false .i64 ((i0:Nat):Int) ((S.length:Nat):Int))<|BV q1 vw<|MM yU<|NN vF (fun i=>(Pt i))<|SS qZ<|CC<|VV LY<|VV (wC 3 false true w9)<|CN 2<|VV (qd 3 false true .i64 (((L.length:Nat):Int) - 1) 0)<|CC<|BC tj<|BM tj (aK 3 0 (Zi (S.g i0).aU) mM k!)<|BC tj<|BC tj<|BV tj Gu<|BC tj<|BM tj vy<|BC tj<|BV tj (qT 3 false false .i64 (S.g i0).aU (IntKind.i64.wrap (((L.g (((L.length:Nat):Int) - 1).toNat).aF)+1)))<|VV (oV (decide ((S.g i0).aU≤(IntKind.i64.wrap (((L.g (((L.length:Nat):Int) - 1).toNat).aF)+1)))) false tj)<|HH (aK 3 0 (Zi (S.g i0).aU) mM k!)<|HH (show AV.same 20 (Zi (S.g i0).aU) (Zi (S.g i0).aU)=true from aO 19 _ _)<|HH vy<|HH (show AV.same 20 (Zi (L.g (((L.length:Nat):Int) - 1).toNat).aF) (Zi (L.g (((L.length:Nat):Int) - 1).toNat).aF)=true from aO 19 _ _)<|BB q15<|CN 4<|VV Gu<|CC<|MM aen<|CC<|MM (aK 3 1 (Zi (S.g i0).aF) mM k!)<|CC<|VV Gu<|CC<|SS aeo<|HH aen<|HH (show AV.same 20 (Zi (L.g (((L.length:Nat):Int) - 1).toNat).aF) (Zi (L.g (((L.length:Nat):Int) - 1).toNat).aF)=true from aO 19 _ _)<|HH (aK 3 1 (Zi (S.g i0).aF) mM k!)<|HH (show AV.same 20 (Zi (S.g i0).aF) (Zi (S.g i0).aF)=true from aO 19 _ _)<|VV u25<|CC<|ZZ) k!
       refine dz.round rfl ev o! _ k! (fun x=>dz.Sq (AZ ch hSh hSl k (i0+1) _ z x h23 o! aep aes o! aeq (by rw[List.length_set];omega)) fun _ hk hn q=>q)
     · rw[f1,f2,ak,ah]
       have q1:(decide (((i0:Nat):Int)<((S.length:Nat):Int)))=true:=d!
       obtain ⟨p3,q4,j8⟩:=hS.elem (i:=i0) o!
       have vw:dy env (some (.slice 23)) (some zs) (some (Zn i0))=some (AV.ptr p3 q4):=j8
       have yU:bE env hh 23 (AV.ptr p3 q4)=some (AV.agg [(Zi (S.g i0).aU),(Zi (S.g i0).aF)]):=hS.load o! j8
       obtain ⟨h6,vF,m_,Ln,vG,ka⟩:=iX aL (aR.cells [(Zi 0),(Zi 0)] 23 false)
       have oG:Has h h6:=bB.trans ka
       have lD:Has hh h6:=ka
       obtain ⟨h7,qZ,lr,I4,mM,fB⟩:=vq (t:=23) (n:=2) (i:=hh.nx) (L:=[(Zi (S.g i0).aU),(Zi (S.g i0).aF)]) m_ vG k! rfl rfl (by simp only[AV.cells,List.all_cons,List.all_nil,Bool.and_true,Bool.and_self,jd,gK,je,jf,fi,mz,mA,mB,mC,mD,jg])
       have lu:Has h h7:=Has.dr oG fB ch o!
       have nv:Has hh h7:=Has.dr lD fB aL o!
       have rh:bk h h7 z L:=bk.kept (bk.has oz lD) fB (bk.sK aL oz o!)
       have LY:dN (some (.slice 23)) (some z)=some (Zn L.length):=Xq.len
       have w9:IntKind.i64.wrap (((L.length:Nat):Int) - 1)=((L.length:Nat):Int) - 1:=wrap_i64 o! o!
       have tj:(decide (0≤(((L.length:Nat):Int) - 1)))=true:=f1
       obtain ⟨Hl,ox,Xr,Xs⟩:=bk.ix lr rh (i:=(((L.length:Nat):Int) - 1).toNat) (by first | omega | (simp<;>omega))
       have Gu:dy env (some (.slice 23)) (some z) (some (Zi (((L.length:Nat):Int) - 1)))=some (AV.ptr Hl ((((L.length:Nat):Int) - 1).toNat*2)):=by rw[show ((((L.length:Nat):Int) - 1):Int)=(((((L.length:Nat):Int) - 1).toNat:Nat):Int) by omega];exact ox
       have vy:bE env h7 3 (AV.ptr Hl (((((L.length:Nat):Int) - 1).toNat*2)+1))=some (Zi (L.g (((L.length:Nat):Int) - 1).toNat).aF):=(Xq.has nv).part (t:=3) (j:=1) o! ox k! rfl
       have q15:(decide ((S.g i0).aU≤(IntKind.i64.wrap (((L.g (((L.length:Nat):Int) - 1).toNat).aF)+1))))=false:=f2
       obtain ⟨h16,aet,aeu,aiR,aev,TC⟩:=iX lr (aR.cells [(Zi (S.g i0).aU),(Zi (S.g i0).aF)] 23 false)
       have aew:Has h h16:=lu.trans TC
       have aex:Has hh h16:=nv.trans TC
       have TD:Has h7 h16:=TC
       obtain ⟨z18,EB,abu,EC,aiS,aey,aht,ahu,ahv⟩:=bk.Ds (tys:= #[34,34]) (l:=L) (m:=[(S.g i0)]) (x:=(AV.slice h7.nx 0 1 1 false)) aeu ch aew o! (bk.has rh TD) rfl (jh (x:=(S.g i0)) aev) (by simp [aA.c,Span.c,AV.scalar]) (by first | omega | (simp<;>omega)) rfl rfl k! k! (bytes:=16) k! (z0:=(AV.agg [(Zi 0),(Zi 0)])) k! rfl (by decide)
       have ED:Has h EB:=aey
       have ahw:∀y∈(L++[(S.g i0)]),aA.ok EB y:=dE (D:=Span) (kZ (dE (D:=Span) (h':=h16) Vh) (ok_one trivial))
       have u20:=fU 3 false true i0 1 o!
       have ev:=pk (d+1) GW (rx x 0 3 (z::rx x 4 5 (zs::(Zn S.length)::(Zn i0)::rx x 12 37 []))) hh .normal EB (VV (bU 3 false false .i64 ((i0:Nat):Int) ((S.length:Nat):Int))<|BV q1 vw<|MM yU<|NN vF (fun i=>(Pt i))<|SS qZ<|CC<|VV LY<|VV (wC 3 false true w9)<|CN 2<|VV (qd 3 false true .i64 (((L.length:Nat):Int) - 1) 0)<|CC<|BC tj<|BM tj (aK 3 0 (Zi (S.g i0).aU) mM k!)<|BC tj<|BC tj<|BV tj Gu<|BC tj<|BM tj vy<|BC tj<|BV tj (qT 3 false false .i64 (S.g i0).aU (IntKind.i64.wrap (((L.g (((L.length:Nat):Int) - 1).toNat).aF)+1)))<|VV (oV (decide ((S.g i0).aU≤(IntKind.i64.wrap (((L.g (((L.length:Nat):Int) - 1).toNat).aF)+1)))) false tj)<|HH (aK 3 0 (Zi (S.g i0).aU) mM k!)<|HH (show AV.same 20 (Zi (S.g i0).aU) (Zi (S.g i0).aU)=true from aO 19 _ _)<|HH vy<|HH (show AV.same 20 (Zi (L.g (((L.length:Nat):Int) - 1).toNat).aF) (Zi (L.g (((L.length:Nat):Int) - 1).toNat).aF)=true from aO 19 _ _)<|BC q15<|MM (aK 23 0 (AV.agg [(Zi (S.g i0).aU),(Zi (S.g i0).aF)]) mM k!)<|NN aet (fun i=>(AV.slice i 0 1 1 false))<|PP (show bR env h16 #[34,34] z (AV.slice h7.nx 0 1 1 false)=some (z18,EB) from abu)<|CC<|VV u20<|CC<|ZZ) k!
       refine dz.round rfl ev o! _ k! (fun x=>dz.Sq (AZ ch hSh hSl k (i0+1) _ _ x EB o! EC ED o! aht (by rw[List.length_append,List.length_singleton];omega)) fun _ hk hn q=>q)
   · have f1':=of_decide_eq_false f1
     rw[f1,ah]
     have q1:(decide (((i0:Nat):Int)<((S.length:Nat):Int)))=true:=d!
     obtain ⟨p3,q4,j8⟩:=hS.elem (i:=i0) o!
     have vw:dy env (some (.slice 23)) (some zs) (some (Zn i0))=some (AV.ptr p3 q4):=j8
     have yU:bE env hh 23 (AV.ptr p3 q4)=some (AV.agg [(Zi (S.g i0).aU),(Zi (S.g i0).aF)]):=hS.load o! j8
     obtain ⟨h6,vF,m_,Ln,vG,ka⟩:=iX aL (aR.cells [(Zi 0),(Zi 0)] 23 false)
     have oG:Has h h6:=bB.trans ka
     have lD:Has hh h6:=ka
     obtain ⟨h7,qZ,lr,I4,mM,fB⟩:=vq (t:=23) (n:=2) (i:=hh.nx) (L:=[(Zi (S.g i0).aU),(Zi (S.g i0).aF)]) m_ vG k! rfl rfl (by simp only[AV.cells,List.all_cons,List.all_nil,Bool.and_true,Bool.and_self,jd,gK,je,jf,fi,mz,mA,mB,mC,mD,jg])
     have lu:Has h h7:=Has.dr oG fB ch o!
     have nv:Has hh h7:=Has.dr lD fB aL o!
     have rh:bk h h7 z L:=bk.kept (bk.has oz lD) fB (bk.sK aL oz o!)
     have LY:dN (some (.slice 23)) (some z)=some (Zn L.length):=Xq.len
     have w9:IntKind.i64.wrap (((L.length:Nat):Int) - 1)=((L.length:Nat):Int) - 1:=wrap_i64 o! o!
     have tj:(decide (0≤(((L.length:Nat):Int) - 1)))=false:=f1
     obtain ⟨zb,aez,xK,YN,tf,TE⟩:=iX lr (aR.cells [(Zi (S.g i0).aU),(Zi (S.g i0).aF)] 23 false)
     have Cr:Has h zb:=lu.trans TE
     have Jg:Has hh zb:=nv.trans TE
     have TF:Has h7 zb:=TE
     obtain ⟨z13,J3,abv,CO,aiT,aeA,ahx,ahy,ahz⟩:=bk.Ds (tys:= #[34,34]) (l:=L) (m:=[(S.g i0)]) (x:=(AV.slice h7.nx 0 1 1 false)) xK ch Cr o! (bk.has rh TF) rfl (jh (x:=(S.g i0)) tf) (by simp [aA.c,Span.c,AV.scalar]) (by first | omega | (simp<;>omega)) rfl rfl k! k! (bytes:=16) k! (z0:=(AV.agg [(Zi 0),(Zi 0)])) k! rfl (by decide)
     have Jq:Has h J3:=aeA
     have ahA:∀y∈(L++[(S.g i0)]),aA.ok J3 y:=dE (D:=Span) (kZ (dE (D:=Span) (h':=zb) Vh) (ok_one trivial))
     have u15:=fU 3 false true i0 1 o!
     have ev:=pk (d+1) GW (rx x 0 3 (z::rx x 4 5 (zs::(Zn S.length)::(Zn i0)::rx x 12 37 []))) hh .normal J3 (VV (bU 3 false false .i64 ((i0:Nat):Int) ((S.length:Nat):Int))<|BV q1 vw<|MM yU<|NN vF (fun i=>(Pt i))<|SS qZ<|CC<|VV LY<|VV (wC 3 false true w9)<|CN 2<|VV (qd 3 false true .i64 (((L.length:Nat):Int) - 1) 0)<|CC<|BB tj<|BB tj<|BB tj<|BB tj<|BB tj<|BB tj<|BB tj<|BB tj<|BV tj (uj false tj)<|FF<|CC<|MM (aK 23 0 (AV.agg [(Zi (S.g i0).aU),(Zi (S.g i0).aF)]) mM k!)<|NN aez (fun i=>(AV.slice i 0 1 1 false))<|PP (show bR env zb #[34,34] z (AV.slice h7.nx 0 1 1 false)=some (z13,J3) from abv)<|CC<|VV u15<|CC<|ZZ) k!
     refine dz.round rfl ev o! _ k! (fun x=>dz.Sq (AZ ch hSh hSl k (i0+1) _ _ x J3 o! CO Jq o! ahx (by rw[List.length_append,List.length_singleton];omega)) fun _ hk hn q=>q)
def mQ (L:List Span):List Span:=oQ (kK L) (kK L).length 0 []
theorem TG {d:Nat} {e h:aw} {z:AV} {L:List Span} (ch:Tidy h) (oz:bk e h z L) (hL:L.length≤100000):
 ∃z' hk,dh (d+2) (.fn 59) [z] h= .ret z' hk∧Tidy hk∧h.nx≤hk.nx∧bk h hk z' (mQ L)∧∀k w,bD z k→h.get k=some w→hk.get k=some w:=by
 have YZ:=oz
 obtain ⟨h1,aaX,ck,jj,aeB,aeC⟩:=aem (d:=d) ch oz o!
 have rS:aP h1 z (kK L):=bk.rows aeB (by rw[kL];omega) (fun _ _=>trivial)
 have ln2:dN (some (.slice 23)) (some z)=some (Zn (kK L).length):=rS.len
 obtain ⟨z5,yl4,h3,lS,ia,vD,jo,aeD⟩:=AZ (d:=d) (h:=h1) ck rS (by rw[kL];omega) (kK L).length 0 [] AV.aN (fun k_=>((z::AV.undef::AV.aN::AV.aN::AV.undef::AV.undef::AV.undef::z::(AV.tuple [])::z::(Zn (kK L).length)::(Zi 0)::iW 37):List AV).getD k_ AV.undef) h1 o! ck (Has.refl _) (Nat.le_refl _) (.inl ⟨.inl rfl,rfl⟩) (Nat.le_refl _)
 have ev:=pk (d+1) GV (z::iW 48) h .ret h3 (CN 2<|EE aaX<|CN 2<|VV ln2<|CC<|LL lS<|CN 2<|ZZ) k!
 have oL:bk h h3 z5 (mQ L):=aeD.le o!
 obtain ⟨hk,e1,q⟩:=EK (P:=fun hk=>Tidy hk∧h.nx≤hk.nx∧bk h hk z5 (mQ L)∧∀k w,bD z k→h.get k=some w→hk.get k=some w) rfl (bh (v:=z5) Try.func59 ahr k! (.inr rfl) ev k!) ⟨ia,by omega,oL,fun k w n q=>jo _ _ (aeC _ _ n q)⟩ (fun _ v=>⟨ch,Nat.le_refl _,bk.IP oL v,fun _ _ _ q=>q⟩)
 exact ⟨_,hk,e1,q⟩
theorem abw (L:List Span) (c:Span):(L++[c]).g L.length=c:=by
 rw[List.g,List.getD_eq_getElem?_getD,List.getElem?_append_right (Nat.le_refl _),Nat.sub_self];rfl
theorem TH (L:List Span) (c x:Span):(L++[c]).set L.length x=L++[x]:=by
 rw[List.set_append_right _ _ (Nat.le_refl _),Nat.sub_self];rfl
theorem TI (S:List Span):∀(k i:Nat) (L:List Span) (c:Span),i+k=S.length→(∀s∈S.drop i,Bd s)→Bd c→oQ S k i (L++[c])=L++Qb c (S.drop i)
 | 0,i,L,c,h,_,_=>by rw[oQ,List.drop_eq_nil_of_le o!,Qb]
 | k+1,i,L,c,h,hd,hc=>by
   have e:=Lf (l:=S) (i:=i) o!
   have hs:=hd (S.g i) (by rw[e];exact List.mem_cons_self ..)
   have JV:∀s∈S.drop (i+1),Bd s:=fun s q=>hd s (by rw[e];exact List.mem_cons_of_mem _ q)
   obtain ⟨c1,c2,c3,c4⟩:=hc
   obtain ⟨s1,s2,s3,s4⟩:=hs
   have n1:(((L++[c]).length:Nat):Int) - 1=(L.length:Int):=by rw[List.length_append,List.length_singleton];omega
   rw[oQ,n1,decide_eq_true (show (0:Int)≤(L.length:Int) by omega),ak,Int.toNat_natCast,abw,TH,e,Qb,wrap_i64 (n:=c.aF+1) o! o!]
   by_cases q:(S.g i).aU≤c.aF+1
   · rw[decide_eq_true q,ak,if_pos q,me]
     exact TI S k (i+1) L ⟨c.aU,max c.aF (S.g i).aF⟩ o! JV ⟨c1,c2,by simp only;omega,by simp only;omega⟩
   · rw[decide_eq_false q,ah,if_neg q,TI S k (i+1) (L++[c]) (S.g i) o! JV ⟨s1,s2,s3,s4⟩,List.append_assoc];rfl
theorem Jr {A:List Span} (hd:∀s∈A,Bd s) (hn:∀s∈A,s.aU≤s.aF):Canon (mQ A)∧∀x,xj (mQ A) x↔xj A x:=by
 have p:=LX A
 have asc:=Pm A
 have inp:∀x,xj (kK A) x↔xj A x:=fun x=>⟨fun ⟨s,a,b⟩=>⟨s,p.subset a,b⟩,fun ⟨s,a,b⟩=>⟨s,p.symm.subset a,b⟩⟩
 have VH:∀s∈kK A,Bd s:=fun s q=>hd s (p.subset q)
 have Kv:∀s∈kK A,s.aU≤s.aF:=fun s q=>hn s (p.subset q)
 unfold mQ
 generalize kK A=S at asc inp VH Kv
 cases S with
 | nil=>exact ⟨.nil,inp⟩
 | cons c R=>
   obtain ⟨a1,a2⟩:=List.pairwise_cons.1 asc
   have e:oQ (c::R) (c::R).length 0 []=Qb c R:=by
    show oQ (c::R) (R.length+1) 0 []=_
    rw[oQ]
    show (bif decide ((0:Int)≤(([]:List Span).length:Int) - 1) then _ else _)=_
    rw[decide_eq_false (by simp),ah]
    exact TI (c::R) R.length 1 [] c (by simp only[List.length_cons];omega) (fun s q=>VH s (List.mem_cons_of_mem _ q)) (VH c (List.mem_cons_self ..))
   rw[e]
   obtain ⟨j1,j2,_⟩:=B' (l:=R) (c:=c) (Kv c (List.mem_cons_self ..)) (fun s q=>Kv s (List.mem_cons_of_mem _ q)) a1 a2
   refine ⟨j1,fun x=>?_⟩
   rw[j2,←inp,eL]
def Xv:Code:=(Try.f26.body).getD .skip
theorem ahB:Try.f26.body=some Xv:=by kernel_rfl
theorem ahC {d:Nat} {h:aw} (ch:Tidy h) (q:ay) (n:Int) {lv rv:AV} (hq:aA.ok h q) (hl:AV.scalar lv=true) (hr:AV.scalar rv=true):
 ∃bq bl bm br hk,dh (d+2) (.fn 26) [.agg (aA.c q),lv,Zi n,rv] h= .ret (.func 44 [] [Pt bq,Pt bm,Pt br,Pt bl]) hk∧Tidy hk∧h.nx≤hk.nx∧Has h hk∧hk.get bq=some (.cells (aA.c q) 26 false)∧hk.get bl=some (.cells [lv] 27 false)∧hk.get bm=some (.cells [Zi n] 3 false)∧hk.get br=some (.cells [rv] 69 false)∧(h.nx≤bq∧bq<bl∧bl<bm∧bm<br∧br<hk.nx):=by
 obtain ⟨h1,ct,ck,jj,aW,cr⟩:=iX ch (aR.cells [(AV.str q.name),(Zi q.ao),(Zi q.ai),(Zi q.aI),(Zi q.aJ),(Zi q.bad),q.aB] 26 false)
 have bG:Has h h1:=cr
 obtain ⟨h2,pD,jH,GC,fM,hT⟩:=iX ck (aR.cells [lv] 27 false)
 have ke:Has h h2:=bG.trans hT
 obtain ⟨h3,Dz,ia,W5,xG,ib⟩:=iX jH (aR.cells [(Zi n)] 3 false)
 have jo:Has h h3:=ke.trans ib
 obtain ⟨h4,abx,Je,adX,S_,LZ⟩:=iX ia (aR.cells [rv] 69 false)
 have Lx:Has h h4:=jo.trans LZ
 exact ⟨_,_,_,_,_,qb rfl (bh Try.func26 ahB rfl (.inr rfl) (pk (d+1) _ _ h _ h4 (NN ct (fun i=>(Pt i))<|AA (.a (aR.cells [lv] 27 false) (Pt h1.nx) h2)<|HH pD<|HH (show ∃mk:Nat→AV,some (aR.cells (AV.cells lv) 27 false,fun i=>AV.ptr i 0)=some (aR.cells [lv] 27 false,mk)∧mk h1.nx=(Pt h1.nx) from ⟨_,(by rw[w7 hl]),rfl⟩)<|NN Dz (fun i=>(Pt i))<|AA (.a (aR.cells [rv] 69 false) (Pt h3.nx) h4)<|HH abx<|HH (show ∃mk:Nat→AV,some (aR.cells (AV.cells rv) 69 false,fun i=>AV.ptr i 0)=some (aR.cells [rv] 69 false,mk)∧mk h3.nx=(Pt h3.nx) from ⟨_,(by rw[w7 hr]),rfl⟩)<|CN 3<|ZZ) k!) k!) (fun q=>by cases q.2),Je,by omega,Lx,LZ _ _ (ib _ _ (hT _ _ aW)),LZ _ _ (ib _ _ fM),LZ _ _ xG,S_,by omega,by omega,by omega,by omega,by omega⟩
def nw:Code:=(Try.f35.body).getD .skip
theorem ahD:Try.f35.body=some nw:=by kernel_rfl
def ng:Code:=(cu nw).getD 0 .skip
theorem TL {d:Nat} {h hh:aw} {t s0:Int} {bs bt lp:Nat} {z cv:AV} {L:List Span} {G:List Gate} (x:Nat→AV) (ch:Tidy h) (bB:Has h hh) (iT:h.nx≤hh.nx) (aL:Tidy hh) (hG:aP hh cv G) (oz:bk h hh z L) (hL:L.length≤100000) (gs:hh.get bs=some (.cells [z] 34 false)) (gt:hh.get bt=some (.cells [Zi t] 3 false)) (TM:bD z bs) (Y0:bD z bt) (hb:h.nx≤bs) (ne:bs≠bt) (w1:0≤bL G (fun y=>fC y t)) (w2:bL G (fun y=>fC y t)<(G.length:Int)):
 ∃jQ z' h',Ev env (dh (d+8)) ng ⟨rx x 0 5 ((Pt bt)::(x 6)::(Pt bs)::(x 8)::cv::rx x 10 8 ((AV.int .u64 s0)::cv::rx x 20 8 [])),hh,[],.rN lp⟩ .normal ⟨jQ,h',[],.rN lp⟩∧Tidy h'∧hh.nx≤h'.nx∧Has h h'∧bk h h' z' (L++[jY G t])∧h'.get bs=some (.cells [z'] 34 false)∧h'.get bt=some (.cells [Zi t] 3 false)∧bD z' bs∧bD z' bt∧(∀k w,k≠bs→bD z k→hh.get k=some w→h'.get k=some w)∧∀k,k<hh.nx→bD z k→bD z' k:=by
 have T_s:=aL _ _ gs
 have T_t:=aL _ _ gt
 have Vh:∀y∈L,aA.ok hh y:=fun _ _=>trivial
 have Xq:aP hh z L:=bk.rows oz o! Vh
 have k1:=abr (d:=d+5) G t hG (by first | omega | assumption | (simp only[List.length_set,List.length_replicate,List.length_append,List.length_cons,List.length_nil,List.nil_append]<;>omega) | (rw[List.length_take];omega)) (by first | omega | assumption | (simp only[List.length_set,List.length_replicate,List.length_append,List.length_cons,List.length_nil,List.nil_append]<;>omega) | (rw[List.length_take];omega)) aL
 obtain ⟨h2,pD,jH,GC,fM,hT⟩:=iX aL (aR.cells [(Zi (jY G t).aU),(Zi (jY G t).aF)] 23 false)
 have ke:Has h h2:=bB.trans hT
 have Xw:Has hh h2:=hT
 obtain ⟨z4,h3,aeF,ia,vD,ahE,oz5,TN,NP⟩:=bk.Ds (tys:= #[34,34]) (l:=L) (m:=[(jY G t)]) (x:=(AV.slice hh.nx 0 1 1 false)) jH ch ke o! (bk.has oz Xw) rfl (jh (x:=(jY G t)) fM) (by simp [aA.c,Span.c,AV.scalar]) (by first | omega | (simp<;>omega)) rfl rfl k! k! (bytes:=16) k! (z0:=(AV.agg [(Zi 0),(Zi 0)])) k! rfl (by decide)
 have jo:Has h h3:=ahE
 have aeG:∀y∈(L++[(jY G t)]),aA.ok h3 y:=dE (D:=Span) (kZ (dE (D:=Span) (h':=h2) Vh) (ok_one (h:=h2) trivial))
 have sc7:AV.scalar z4=true:=aP.scalar (bk.rows oz5 (by simp;omega) aeG)
 obtain ⟨h6,ahF,m_,Ln,vG,NQ⟩:=agL (t:=34) (i:=bs) (o:=0) (v:=z4) (N:=[z4]) ia (TN _ _ TM (hT _ _ gs)) k! sc7 k! k!
 have oG:Has h h6:=Has.dr jo NQ ch o!
 have TO:bk h h6 z4 (L++[(jY G t)]):=bk.kept oz5 NQ (NP _ (jH _ _ (hT _ _ gs)) TM)
 have c8:AV.same 20 z z=true:=Xq.same 19
 have ev:=pkc (.rN lp) (d+8) ng (rx x 0 5 ((Pt bt)::(x 6)::(Pt bs)::(x 8)::cv::rx x 10 8 ((AV.int .u64 s0)::cv::rx x 20 8 []))) hh .normal h6 (MM (aK 34 0 z gs k!)<|CC<|MM (aK 3 0 (Zi t) gt k!)<|EE k1<|NN pD (fun i=>(AV.slice i 0 1 1 false))<|PP (show bR env h2 #[34,34] z (AV.slice hh.nx 0 1 1 false)=some (z4,h3) from aeF)<|SS ahF<|HH (aK 34 0 z gs k!)<|HH c8<|HH (aK 34 0 z (hT _ _ gs) k!)<|HH c8<|HH (aK 3 0 (Zi t) gt k!)<|HH (show AV.same 20 (Zi t) (Zi t)=true from aO 19 _ _)<|HH (show ∃o,h2.get hh.nx=some o∧aR.same o (aR.cells [(Zi (jY G t).aU),(Zi (jY G t).aF)] 23 false)=true from ⟨_,fM,by simp [aR.same,cM,AV.same]⟩)<|ZZ) k!
 exact ⟨_,z4,_,ev,m_,by omega,oG,TO,vG,NQ _ _ o! (TN _ _ Y0 (hT _ _ gt)),NP _ o! TM,NP _ o! Y0,fun k w c n e=>NQ _ _ c (TN _ _ n (hT _ _ e)),fun k c n=>NP k o! n⟩
def rD:Code:=Tu nw
def tk (x:Nat→AV) (bt bs:Nat):List AV:=rx x 0 5 ((AV.ptr bt 0)::(x 6)::(AV.ptr bs 0)::rx x 8 20 [])
theorem aby {d:Nat} (x:Nat→AV) (bt bs lp:Nat) (s0:Int) (cv:AV) (h:aw):
 Ev env (dh (d+8)) rD ⟨rx x 0 5 ((AV.ptr bt 0)::(x 6)::(AV.ptr bs 0)::rx x 8 10 ((AV.int .u64 s0)::cv::rx x 20 8 [])),h,[],.rN lp⟩ .normal ⟨rx x 0 5 ((AV.ptr bt 0)::(x 6)::(AV.ptr bs 0)::(x 8)::cv::rx x 10 8 ((AV.int .u64 s0)::cv::rx x 20 8 [])),h,[],.rN lp⟩:=by
 have ev:=pkc (.rN lp) (d+8) rD (rx x 0 5 ((AV.ptr bt 0)::(x 6)::(AV.ptr bs 0)::rx x 8 10 ((AV.int .u64 s0)::cv::rx x 20 8 []))) h .normal h (CC<|ZZ) (by kernel_rfl)
 exact CK (by kernel_rfl) ev
theorem abz (x:Nat→AV) (bt bs:Nat) (a c:AV):([18,19].zip [a,c]).foldl (fun ts y=>ts.set y.1 y.2) (tk x bt bs)=rx x 0 5 ((AV.ptr bt 0)::(x 6)::(AV.ptr bs 0)::rx x 8 10 (a::c::rx x 20 8 [])):=by kernel_rfl
def aeH (t:Int) (hk:aw) (a:List AV) (y:Int×List Gate):Prop:=∃cv,a=[.int .u64 y.1,cv]∧aP hk cv y.2∧0≤bL y.2 (fun y=>fC y t)∧bL y.2 (fun y=>fC y t)<(y.2.length:Int)
def PoI (e:aw) (t:Int) (bs bt lp:Nat) (x:Nat→AV) (dn:Nat) (L:List (Int×List Gate)) (P:Nat→Prop) (hh:aw):Prop:=
 L.length≤1000∧∃z,bk e hh z (L.map fun y=>jY y.2 t)∧e.nx≤hh.nx∧lp<hh.nx∧hh.get bs=some (.cells [z] 34 false)∧hh.get bt=some (.cells [Zi t] 3 false)∧hh.get lp=some (.loop .ready none (tk x bt bs) [18,19] rD ng dn)∧bD z bs∧bD z bt∧bD z lp∧(∀k,¬bD z k→e.nx≤k∧k<hh.nx)∧∀k,P k↔(k=bs∨k=bt∨k=lp∨¬bD z k)
theorem aP.aeI {α:Type} [aA α] [Flat α] {h h':aw} {v:AV} {l:List α} (x:aP h v l) (k:∀p C f ro,h.get p=some (.cells C f ro)→h'.get p=some (.cells C f ro)):aP h' v l:=
 ⟨⟨x.at_.size,x.at_.cells,x.at_.small,x.at_.lens,x.at_.block.imp id fun ⟨p,o,m,c,b,C,f,ro,h1,h2,h3,h4⟩=>⟨p,o,m,c,b,C,f,ro,h1,h2,k _ _ _ _ h3,h4⟩⟩,x.known,fun y hy=>Flat.free (x.Gk y hy)⟩
theorem aeJ {d:Nat} {e:aw} {t:Int} {bs bt lp:Nat} (x:Nat→AV) (dn:Nat) (he:∀k,e.get k=none) (eb:e.nx≤bs) (bb:bs≠bt) (lb:bs<lp∧bt<lp∧e.nx≤lp):YlH (dh (d+9)) lp (aeH t) (PoI e t bs bt lp x dn) where
 aU:=by
  rintro L P hh ⟨hL,z,oz,en,lx,gs,gt,gp,n1,n2,n3,zl,pp⟩ k hk
  rcases (pp k).1 hk with p | p | p | p
  · omega
  · omega
  · omega
  · exact (zl k p).2
 stay:=by
  rintro L P hh hk ⟨hL,z,oz,en,lx,gs,gt,gp,n1,n2,n3,zl,pp⟩ yk nk kp
  have K:∀k w,k=bs∨k=bt∨k=lp∨¬bD z k→hh.get k=some w→hk.get k=some w:=fun k w c q=>kp k w ((pp k).2 c) q
  refine ⟨hL,z,?_,by omega,by omega,K _ _ (by simp) gs,K _ _ (by simp) gt,K _ _ (by simp) gp,n1,n2,n3,fun k c=>⟨(zl k c).1,by have:=(zl k c).2;omega⟩,pp⟩
  rcases oz with ⟨rfl | ⟨p,rfl,h1,h2⟩,hl⟩ | ⟨hn,p,op,rfl,hp,hg⟩
  · exact .inl ⟨.inl rfl,hl⟩
  · exact .inl ⟨.inr ⟨p,rfl,h1,K _ _ (.inr (.inr (.inr fun q=>q _ _ _ _ rfl))) h2⟩,hl⟩
  · exact .inr ⟨hn,p,op,rfl,hp,K _ _ (.inr (.inr (.inr fun q=>q _ _ _ _ rfl))) hg⟩
 next:=by
  rintro L a y P hh hLL ⟨cv,rfl,hG,w1,w2⟩ ⟨hL,z,oz,en,lx,gs,gt,gp,n1,n2,n3,zl,pp⟩ aL
  have T1:=aL _ _ gp
  have T2:=aL _ _ gs
  have T3:=aL _ _ gt
  have c1:=l7 (o:= .loop .busy none (tk x bt bs) [18,19] rD ng dn) aL gp
  have oz1:bk e (hh.put lp (some (.loop .busy none (tk x bt bs) [18,19] rD ng dn))) z (L.map fun y=>jY y.2 t):=bk.WS oz c1 n3
  have hG1:=hG.aeI (h':=hh.put lp (some (.loop .busy none (tk x bt bs) [18,19] rD ng dn))) fun p C f ro g=>c1.2.2 _ _ (fun c=>by rw[c,gp] at g;cases g) g
  obtain ⟨jQ,z',h2,ev,y2,n2',a2,oz2,gs2,gt2,ni1,ni2,k2,np2⟩:=TL (d:=d) (h:=e) (hh:=hh.put lp (some (.loop .busy none (tk x bt bs) [18,19] rD ng dn))) (L:=L.map fun y=>jY y.2 t) (s0:=y.1) (lp:=lp) x (fun i w g=>by rw[he] at g;cases g) (fun i w g=>by rw[he] at g;cases g) en c1.1 hG1 oz1 (by rw[List.length_map];omega) (c1.2.2 _ _ o! gs) (c1.2.2 _ _ o! gt) n1 n2 eb bb w1 w2
  have gl2:=k2 _ _ o! n3 c1.2.1
  have q:=KX (d:=d+8) (args:=[.int .u64 y.1,cv]) (jump:=none) gp rfl ((abz x bt bs (.int .u64 y.1) cv)▸aby x bt bs lp y.1 cv hh) gp ev (.inl ⟨rfl,rfl⟩) gl2
  have c3:=l7 (o:= .loop .ready none (tk x bt bs) [18,19] rD ng dn) y2 gl2
  have ni3:bD z' lp:=np2 lp (by show lp<hh.nx;omega) n3
  refine ⟨_,fun k=>k=bs∨k=bt∨k=lp∨¬bD z' k,q,c3.1,n2',⟨by rw[List.length_append,List.length_singleton];omega,z',?_,Nat.le_trans en n2',Nat.lt_of_lt_of_le lx n2',c3.2.2 _ _ o! gs2,c3.2.2 _ _ o! gt2,c3.2.1,ni1,ni2,ni3,fun k c=>⟨?_,?_⟩,fun _=>Iff.rfl⟩,fun k p=>?_,fun k w n g=>?_⟩
  · rw[List.map_append];exact bk.WS oz2 c3 ni3
  · exact Decidable.byContradiction fun h=>c (oz2.O5 o!)
  · exact Decidable.byContradiction fun h=>c (oz2.sK y2 (by show h2.nx≤k;exact Nat.le_of_not_lt h))
  · by_cases hk:k<hh.nx
    · refine .inl ((pp k).2 ?_)
      rcases p with p | p | p | p
      · exact .inl p
      · exact .inr (.inl p)
      · exact .inr (.inr (.inl p))
      · exact .inr (.inr (.inr fun c=>p (np2 k hk c)))
    · exact .inr o!
  · have nn:¬(k=bs∨k=bt∨k=lp∨¬bD z k):=fun c=>n ((pp k).2 c)
    have e1:k≠lp:=fun c=>nn (.inr (.inr (.inl c)))
    exact c3.2.2 _ _ e1 (k2 _ _ (fun c=>nn (.inl c)) (Classical.byContradiction fun c=>nn (.inr (.inr (.inr c)))) (c1.2.2 _ _ e1 g))
theorem z6 {α:Type} [aA α] (inj:∀a b:α,aA.c a=aA.c b→a=b):∀l l':List α,l.length=l'.length→l.flatMap aA.c=l'.flatMap aA.c→l=l'
 | [],[],_,_=>rfl
 | a::l,b::l',hl,h=>by
   rw[List.flatMap_cons,List.flatMap_cons] at h
   obtain ⟨h1,h2⟩:=List.append_inj h (by rw[aA.len,aA.len])
   rw[inj a b h1,z6 inj l l' (by simpa using hl) h2]
theorem bk.same {α:Type} [aA α] (inj:∀a b:α,aA.c a=aA.c b→a=b) {h0 h h':aw} {z:AV} {l l':List α} (o:bk h0 h z l) (o':bk h0 h' z l') (A:Has h h'):l'=l:=by
 rcases o with ⟨e,rfl⟩ | ⟨hn,p,op,e,hp,hg⟩<;>rcases o' with ⟨e',rfl⟩ | ⟨ZE,p',op',e',ZX,hg'⟩
 · rfl
 · exfalso
   have:0<l'.length:=List.length_pos_iff.2 ZE
   rcases e with rfl | ⟨q,rfl,_⟩
   · cases e'
   · have:=(AV.slice.inj e').2.2.1;omega
 · exfalso
   have:0<l.length:=List.length_pos_iff.2 hn
   rcases e' with rfl | ⟨q,rfl,_⟩
   · cases e
   · have:=(AV.slice.inj e).2.2.1;omega
 · rw[e] at e'
   have i:=AV.slice.inj e'
   have q:=A _ _ hg
   rw[i.1,hg'] at q
   exact z6 inj _ _ i.2.2.1.symm (aR.cells.inj (Option.some.inj q)).1
theorem TP (a b:Span) (h:aA.c a=aA.c b):a=b:=by
 cases a;cases b
 have h1:=(List.cons.inj h).1
 have h2:=(List.cons.inj (List.cons.inj h).2).1
 have e1:=(AV.int.inj h1).2
 have e2:=(AV.int.inj h2).2
 simp_all
theorem Xx {e:aw} {t:Int} {bs bt lp:Nat} {x:Nat→AV} {dn:Nat} {L L':List (Int×List Gate)} {P P':Nat→Prop} {hh hk:aw} (a:PoI e t bs bt lp x dn L P hh) (a':PoI e t bs bt lp x dn L' P' hk) (A:Has hh hk):PoI e t bs bt lp x dn L' P hh:=by
 obtain ⟨hL,z,oz,en,lx,gs,w⟩:=a
 obtain ⟨hL',z',oz',en',lx',gs',w'⟩:=a'
 have q:=A _ _ gs
 rw[gs'] at q
 have ez:z'=z:=(List.cons.inj (aR.cells.inj (Option.some.inj q)).1).1
 subst ez
 have el:=bk.same TP oz oz' A
 exact ⟨hL',z',by rw[el];exact oz,en,lx,gs,w⟩
theorem EL (n:Nat):∃e:aw,e.nx=n∧∀k,e.get k=none:=⟨⟨HT.nil,n,fun _=>none⟩,rfl,fun k=>Go.Ab.M' k n⟩
def Y1:Code:=sq1 nw
def Y2:Code:=sq1 (sq2 nw)
def Y3:Code:=sq1 (sq1 (sq2 (sq2 nw)))
def TQ:Code:=sq2 (sq2 (sq2 nw))
theorem TR:nw= .seq Y1 (.seq Y2 (.seq (.seq Y3 (.block 0 (.rangeFunc (.tmp 17) #[18,19] rD ng))) TQ)):=by kernel_rfl
theorem abB {d:Nat} {h:aw} {q:ay} {lv:AV} {l:List az} {t:Int} (ch:Tidy h) (hq:aA.ok h q) (hl:aP h lv l) (HB:l.length≤18) (hq8:q.ae.length≤8) (hgg:∀k,k<l.length→0≤(l.g k).aD∧(l.g k).aD<(q.ae.length:Int))
 (hx:∀{s0:Int} {w:List Gate},dI q l [bu t] s0=some w→uJ q l [bu t] s0=w.length∧0≤bL w (fun y=>fC y t)∧bL w (fun y=>fC y t)<(w.length:Int)∧w.length<1000):
 ∃(x:Nat→AV) (bt bs c:Nat) (z:AV) (hk e:aw),Tidy hk∧h.nx≤hk.nx∧Has h hk∧hk.get bs=some (.cells [z] 34 false)∧bk e hk z ((kq q l [bu t] q.bad).map fun y=>jY y.2 t)∧e.nx=h.nx∧hk.get c=some .uT∧c≠bs∧h.nx≤c∧h.nx≤bs∧(kq q l [bu t] q.bad).length≤1000∧∀{ex:h_} {s':St},Ev env (dh (d+12)) TQ ⟨tk x bt bs,hk,[.Db c],.no⟩ ex s'→Ev env (dh (d+12)) nw ⟨((AV.agg [(AV.str q.name),(AV.int .i64 q.ao),(AV.int .i64 q.ai),(AV.int .i64 q.aI),(AV.int .i64 q.aJ),(AV.int .i64 q.bad),q.aB])::lv::(AV.int .i64 t)::iW 25),h,[],.no⟩ ex s':=by
 obtain ⟨h1,ct,ck,jj,aW,cr⟩:=iX ch (aR.cells [(AV.str q.name),(AV.int .i64 q.ao),(AV.int .i64 q.ai),(AV.int .i64 q.aI),(AV.int .i64 q.aJ),(AV.int .i64 q.bad),q.aB] 26 false)
 have bG:Has h h1:=cr
 obtain ⟨h2,pD,jH,GC,fM,hT⟩:=iX ck (aR.cells [(AV.int .i64 t)] 3 false)
 have ke:Has h h2:=bG.trans hT
 have ev0:=pk (d+12) Y1 ((AV.agg [(AV.str q.name),(AV.int .i64 q.ao),(AV.int .i64 q.ai),(AV.int .i64 q.aI),(AV.int .i64 q.aJ),(AV.int .i64 q.bad),q.aB])::lv::(AV.int .i64 t)::iW 25) h .normal h2 (NN ct (fun i=>(AV.ptr i 0))<|NN pD (fun i=>(AV.ptr i 0))<|CC<|ZZ) (by kernel_rfl)
 obtain ⟨h3,Dz,ia,W5,xG,ib⟩:=iX jH (aR.cells [AV.aN] 34 false)
 have jo:Has h h3:=ke.trans ib
 have ev1:=pk (d+12) Y2 ((AV.agg [(AV.str q.name),(AV.int .i64 q.ao),(AV.int .i64 q.ai),(AV.int .i64 q.aI),(AV.int .i64 q.aJ),(AV.int .i64 q.bad),q.aB])::lv::(AV.int .i64 t)::(AV.ptr h.nx 0)::AV.undef::(AV.ptr h1.nx 0)::AV.aN::iW 21) h2 .normal h3 (NN Dz (fun i=>(AV.ptr i 0))<|ZZ) (by kernel_rfl)
 have k4:=xM (d:=d+11) t ia
 obtain ⟨h5,ahG,I2,ajX,aeK,TU⟩:=iX ia (aR.cells [(AV.int .i64 (bu t).time),(AV.int .i64 (bu t).ax),(AV.int .i64 (bu t).ar)] 66 false)
 have vE:Has h h5:=jo.trans TU
 obtain ⟨bq7,bl8,bm9,aeL,h6,abC,m_,abD,ka,Y4,aeM,aeN,abE,ajY⟩:=ahC (d:=d+10) I2 q q.bad (lv:=lv) (rv:=(AV.slice h3.nx 0 1 1 false)) (aA.mono vE hq) hl.scalar (by rfl)
 have oG:Has h h6:=vE.trans ka
 have c11:AV.same 20 (AV.agg [(AV.str q.name),(AV.int .i64 q.ao),(AV.int .i64 q.ai),(AV.int .i64 q.aI),(AV.int .i64 q.aJ),(AV.int .i64 q.bad),q.aB]) (AV.agg [(AV.str q.name),(AV.int .i64 q.ao),(AV.int .i64 q.ai),(AV.int .i64 q.aI),(AV.int .i64 q.aJ),(AV.int .i64 q.bad),q.aB])=true:=hI 18 (pL (fun n=>pZ n _) (pL (fun n=>aO n _ _) (pL (fun n=>aO n _ _) (pL (fun n=>aO n _ _) (pL (fun n=>aO n _ _) (pL (fun n=>aO n _ _) (pL hq.2.same OX)))))))
 have ev2:=pk (d+12) Y3 ((AV.agg [(AV.str q.name),(AV.int .i64 q.ao),(AV.int .i64 q.ai),(AV.int .i64 q.aI),(AV.int .i64 q.aJ),(AV.int .i64 q.bad),q.aB])::lv::(AV.int .i64 t)::(AV.ptr h.nx 0)::AV.undef::(AV.ptr h1.nx 0)::AV.aN::(AV.ptr h2.nx 0)::iW 20) h3 .normal h6 (MM (aK 26 0 (AV.agg [(AV.str q.name),(AV.int .i64 q.ao),(AV.int .i64 q.ai),(AV.int .i64 q.aI),(AV.int .i64 q.aJ),(AV.int .i64 q.bad),q.aB]) (ib _ _ (hT _ _ aW)) (by kernel_rfl))<|CN 2<|MM (aK 3 5 (AV.int .i64 q.bad) (ib _ _ (hT _ _ aW)) (by kernel_rfl))<|MM (aK 3 0 (AV.int .i64 t) (ib _ _ fM) (by kernel_rfl))<|EE k4<|NN ahG (fun i=>(AV.slice i 0 1 1 false))<|EE abC<|HH (aK 26 0 (AV.agg [(AV.str q.name),(AV.int .i64 q.ao),(AV.int .i64 q.ai),(AV.int .i64 q.aI),(AV.int .i64 q.aJ),(AV.int .i64 q.bad),q.aB]) (ib _ _ (hT _ _ aW)) (by kernel_rfl))<|HH c11<|HH (aK 26 0 (AV.agg [(AV.str q.name),(AV.int .i64 q.ao),(AV.int .i64 q.ai),(AV.int .i64 q.aI),(AV.int .i64 q.aJ),(AV.int .i64 q.bad),q.aB]) (TU _ _ (ib _ _ (hT _ _ aW))) (by kernel_rfl))<|HH c11<|HH (aK 3 5 (AV.int .i64 q.bad) (ib _ _ (hT _ _ aW)) (by kernel_rfl))<|HH (show AV.same 20 (AV.int .i64 q.bad) (AV.int .i64 q.bad)=true from aO 19 _ _)<|HH (aK 3 5 (AV.int .i64 q.bad) (TU _ _ (ib _ _ (hT _ _ aW))) (by kernel_rfl))<|HH (show AV.same 20 (AV.int .i64 q.bad) (AV.int .i64 q.bad)=true from aO 19 _ _)<|HH (aK 3 0 (AV.int .i64 t) (ib _ _ fM) (by kernel_rfl))<|HH (show AV.same 20 (AV.int .i64 t) (AV.int .i64 t)=true from aO 19 _ _)<|HH (show ∃o,h5.get h3.nx=some o∧aR.same o (aR.cells [(AV.int .i64 (bu t).time),(AV.int .i64 (bu t).ax),(AV.int .i64 (bu t).ar)] 66 false)=true from ⟨_,aeK,by simp [aR.same,cM,AV.same]⟩)<|ZZ) (by kernel_rfl)
 have T1:=m_ _ _ Y4
 obtain ⟨e,en,he⟩:=EL h.nx
 obtain ⟨h7,n7⟩:=lQ (h:=h6) .uT
 have y7:=fT m_ n7
 have x7:=lP n7
 let TS:List AV:=((AV.agg [(AV.str q.name),(AV.int .i64 q.ao),(AV.int .i64 q.ai),(AV.int .i64 q.aI),(AV.int .i64 q.aJ),(AV.int .i64 q.bad),q.aB])::lv::(AV.int .i64 t)::(AV.ptr h.nx 0)::AV.undef::(AV.ptr h1.nx 0)::AV.aN::(AV.ptr h2.nx 0)::AV.undef::AV.undef::(AV.agg [(AV.str q.name),(AV.int .i64 q.ao),(AV.int .i64 q.ai),(AV.int .i64 q.aI),(AV.int .i64 q.aJ),(AV.int .i64 q.bad),q.aB])::lv::(AV.ptr h.nx 5)::(AV.int .i64 q.bad)::(AV.int .i64 t)::(AV.agg [(AV.int .i64 (bu t).time),(AV.int .i64 (bu t).ax),(AV.int .i64 (bu t).ar)])::(AV.slice h3.nx 0 1 1 false)::(AV.func 44 [] [(AV.ptr bq7 0),(AV.ptr bm9 0),(AV.ptr aeL 0),(AV.ptr bl8 0)])::iW 10)
 have eTS:TS=tk (fun k=>TS.getD k .undef) h1.nx h2.nx:=by kernel_rfl
 obtain ⟨h8,n8⟩:=lQ (h:=h7) (.loop .ready none TS (#[18,19]:Array Tmp).toList rD ng h6.nx)
 have y8:=fT y7 n8
 have x8:=lP n8
 have K8:∀k w,h6.get k=some w→h8.get k=some w:=fun k w c=>fS y7 n8 (fS m_ n7 c)
 have hi:PoI e t h2.nx h1.nx h7.nx (fun k=>TS.getD k .undef) h6.nx [] (fun k=>k=h2.nx∨k=h1.nx∨k=h7.nx∨¬bD AV.aN k) h8:=
  ⟨by simp,.aN,.inl ⟨.inl rfl,rfl⟩,by omega,by omega,K8 _ _ (ka _ _ (TU _ _ xG)),K8 _ _ (ka _ _ (TU _ _ (ib _ _ fM))),by rw[←eTS];exact jC n8,bD.nil _,bD.nil _,bD.nil _,fun k c=>absurd (bD.nil k) c,fun _=>Iff.rfl⟩
 have yl:=aeJ (d:=d) (e:=e) (t:=t) (bs:=h2.nx) (bt:=h1.nx) (lp:=h7.nx) (fun k=>TS.getD k .undef) h6.nx he o! o! o!
 obtain ⟨e0,e0n,_⟩:=EL 0
 let g0:aw:=(h5.put h1.nx none).put h2.nx none
 have gg:∀k w,g0.get k=some w→h5.get k=some w∧k≠h1.nx∧k≠h2.nx:=fun k w c=>by
  have c:((h5.put h1.nx none).put h2.nx none).get k=some w:=c
  by_cases c2:k=h2.nx
  · subst c2;rw[aw.bS] at c;cases c
  · rw[aw.bx (Ne.symm c2)] at c
    by_cases c1:k=h1.nx
    · subst c1;rw[aw.bS] at c;cases c
    · rw[aw.bx (Ne.symm c1)] at c;exact ⟨c,c1,c2⟩
 have gk:∀k w,k≠h1.nx→k≠h2.nx→h5.get k=some w→g0.get k=some w:=fun k w c1 c2 c=>by
  show ((h5.put h1.nx none).put h2.nx none).get k=some w
  rw[aw.bx (Ne.symm c2),aw.bx (Ne.symm c1)];exact c
 have y0:Tidy g0:=fun k w c=>I2 _ _ (gg k w c).1
 have a0:Has h g0:=fun k w c=>by
  have:=ch _ _ c
  exact gk k w o! o! (vE _ _ c)
 have hr0:aP g0 (AV.slice h3.nx 0 1 1 false) [bu t]:=bk.rows (h0:=h) (.inr ⟨by simp,h3.nx,false,rfl,by omega,gk _ _ o! o! aeK⟩) (by simp) (fun _ _=>trivial)
 have a8:Has g0 h8:=fun k w c=>K8 _ _ (ka _ _ (gg k w c).1)
 have gn:∀k,k=h1.nx∨k=h2.nx→g0.get k=none:=fun k c=>by
  cases c3:g0.get k with
  | none=>rfl
  | some w=>have:=gg k w c3;omega
 obtain ⟨h9,P9,e9,y9,x9,i9,p9,l9⟩:=aef (d:=d+1) (g:=g0) (h:=h8) (q:=q) (l:=l) (r:=[bu t]) (m:=q.bad) (lv:=lv) (rv:=(AV.slice h3.nx 0 1 1 false)) (b:=h7.nx) (bq:=bq7) (bm:=bm9) (br:=aeL) (bl:=bl8) y0 (aA.mono a0 hq) (hl.has a0) hr0 HB (by simp) hq8 hgg o! (show h5.nx≤bq7 by omega) y8 a8 (show h5.nx≤h8.nx by omega) (K8 _ _ Y4) (K8 _ _ aeN) (K8 _ _ abE) (K8 _ _ aeM) yl (fun a b c=>Xx a b c) (fun {s0 w hk p op} ht hg=>⟨_,rfl,by
  obtain ⟨c1,c2,c3,c4⟩:=hx ht
  rw[c1]
  exact bk.rows (h0:=e0) (.inr ⟨fun c=>by have c:w=[]:=c;subst c;simp at c3;omega,p,op,rfl,by omega,hg⟩) (show w.length<2^60 by omega) (fun _ _=>trivial),(hx ht).2.1,(hx ht).2.2.1⟩) hi (fun k c=>by
  rcases c with c | c | c | c
  · exact ⟨gn k (.inr c),by omega⟩
  · exact ⟨gn k (.inl c),by omega⟩
  · exact ⟨AY y0 (show h5.nx≤k by omega),by omega⟩
  · exact absurd (bD.nil k) c)
 obtain ⟨hL,z,oz,en9,lx,gs9,gt9,gp9,n1,n2,n3,zl,pp⟩:=i9
 have er:=IM (E:=env) (call:=dh (d+12)) (ts:=TS) (ds:=[]) (f:= .tmp 17) (ps:= #[18,19]) (aS:=rD) (bd:=ng) (e:= .normal) rfl n7 n8 e9 gp9 (by intro c;cases c) rfl
 have Yx:=l7 (o:= .loop .exhausted none (tk (fun k=>TS.getD k .undef) h1.nx h2.nx) [18,19] rD ng h6.nx) y9 gp9
 have np:∀k,k<h1.nx∨k=h6.nx→¬(k=h2.nx∨k=h1.nx∨k=h7.nx∨¬bD AV.aN k):=by
  rintro k c (p | p | p | p)
  · omega
  · omega
  · omega
  · exact p (bD.nil k)
 have a9:Has h h9:=fun k w c=>l9 _ _ (np k (.inl (by have:=ch _ _ c;omega))) (K8 _ _ (oG _ _ c))
 have gd:h9.get h6.nx=some .uT:=l9 _ _ (np _ (.inr rfl)) (fS y7 n8 (jC n7))
 refine ⟨fun k=>TS.getD k .undef,h1.nx,h2.nx,h6.nx,z,_,e,Yx.1,(show h.nx≤h9.nx by omega),fun k w c=>Yx.2.2 _ _ (by have:=ch _ _ c;omega) (a9 _ _ c),Yx.2.2 _ _ o! gs9,bk.WS oz Yx n3,en,Yx.2.2 _ _ o! gd,by omega,by omega,by omega,hL,fun {ex s'} ev5=>?_⟩
 rw[←eTS] at ev5
 rw[TR]
 exact Ev.seq (CK (L':=((AV.agg [(AV.str q.name),(AV.int .i64 q.ao),(AV.int .i64 q.ai),(AV.int .i64 q.aI),(AV.int .i64 q.aJ),(AV.int .i64 q.bad),q.aB])::lv::(AV.int .i64 t)::(AV.ptr h.nx 0)::AV.undef::(AV.ptr h1.nx 0)::AV.aN::iW 21)) (by kernel_rfl) ev0) (Ev.seq (CK (L':=((AV.agg [(AV.str q.name),(AV.int .i64 q.ao),(AV.int .i64 q.ai),(AV.int .i64 q.aI),(AV.int .i64 q.aJ),(AV.int .i64 q.bad),q.aB])::lv::(AV.int .i64 t)::(AV.ptr h.nx 0)::AV.undef::(AV.ptr h1.nx 0)::AV.aN::(AV.ptr h2.nx 0)::iW 20)) (by kernel_rfl) ev1) (Ev.seq (Ev.seq (CK (L':=TS) (by kernel_rfl) ev2) (Ev.Tv er)) ev5))
theorem aeO {c:Nat} {h:aw} (y:Tidy h):Tidy (shut [c] h):=fun k w gw=>by
 rw[tV]
 by_cases e:k=c
 · subst e
   rw[shut,shut,aw.bS] at gw;cases gw
 · rw[qc (by simpa using e)] at gw;exact y _ _ gw
theorem bk.move {α:Type} [aA α] {g h h':aw} {z:AV} {l:List α} (o:bk g h z l) (k:∀p w,g.nx≤p→h.get p=some w→h'.get p=some w):bk g h' z l:=by
 rcases o with ⟨rfl | ⟨p,rfl,hp,hg⟩,rfl⟩ | ⟨hn,p,op,rfl,hp,hg⟩
 · exact .inl ⟨.inl rfl,rfl⟩
 · exact .inl ⟨.inr ⟨p,rfl,hp,k _ _ hp hg⟩,rfl⟩
 · exact .inr ⟨hn,p,op,rfl,hp,k _ _ hp hg⟩
def dM (q:ay) (l:List az) (t:Int):List Span:=mQ ((kq q l [bu t] q.bad).map fun y=>jY y.2 t)
theorem L7 {d:Nat} {h:aw} {q:ay} {lv:AV} {l:List az} {t:Int} (ch:Tidy h) (hq:aA.ok h q) (hl:aP h lv l) (HB:l.length≤18) (hq8:q.ae.length≤8) (hgg:∀k,k<l.length→0≤(l.g k).aD∧(l.g k).aD<(q.ae.length:Int))
 (hx:∀{s0:Int} {w:List Gate},dI q l [bu t] s0=some w→uJ q l [bu t] s0=w.length∧0≤bL w (fun y=>fC y t)∧bL w (fun y=>fC y t)<(w.length:Int)∧w.length<1000):
 ∃z hk,dh (d+13) (.fn 35) [(AV.agg [(AV.str q.name),(AV.int .i64 q.ao),(AV.int .i64 q.ai),(AV.int .i64 q.aI),(AV.int .i64 q.aJ),(AV.int .i64 q.bad),q.aB]),lv,(AV.int .i64 t)] h= .ret z hk∧Tidy hk∧h.nx≤hk.nx∧Has h hk∧bk h hk z (dM q l t):=by
 obtain ⟨x,bt,bs,c,z,h1,e,y1,n1,a1,g1,o1,en,gc,ncb,hc,hb,hlen,go⟩:=abB (d:=d) ch hq hl HB hq8 hgg hx
 obtain ⟨z2,h2,k2,y2,n2,o2,kp2⟩:=TG (d:=d+10) y1 o1 (by rw[List.length_map];omega)
 have T1:=y1 _ _ gc
 have nzc:bD z c:=fun o n cc b q=>by
  subst q
  rcases o1 with ⟨q | ⟨p,q,hp,hg⟩,_⟩ | ⟨hn,p,op,q,hp,hg⟩
  · cases q
  · rw[(AV.slice.inj q).1,hg] at gc;cases gc
  · rw[(AV.slice.inj q).1,hg] at gc;cases gc
 have ev5:=pk_ (d+12) TQ (tk x bt bs) h1 [.Db c] .no .ret h2 (MM (aK 34 0 z g1 (by kernel_rfl))<|EE k2<|CC<|ZZ) (by kernel_rfl)
 have ev:=go ev5
 have gc2:=kp2 _ _ nzc gc
 have fn:=R8 (args:=[(AV.agg [(AV.str q.name),(AV.int .i64 q.ao),(AV.int .i64 q.ai),(AV.int .i64 q.aI),(AV.int .i64 q.aJ),(AV.int .i64 q.bad),q.aB]),lv,(AV.int .i64 t)]) (L:=[c]) (v:=z2) Try.func35 ahD (by kernel_rfl) (.inr rfl) ev (by simp) (fun k hk=>by rw[List.mem_singleton.1 hk];exact gc2) (by kernel_rfl)
 have nz:∀k,k<h.nx→bD z k:=fun k hk=>o1.O5 o!
 have o3:bk h h2 z2 (dM q l t):=o2.le n1
 obtain ⟨hk,e1,q1⟩:=EK (P:=fun hk=>Tidy hk∧h.nx≤hk.nx∧Has h hk∧bk h hk z2 (dM q l t)) rfl fn
  ⟨aeO y2,by rw[tV];omega,fun k w g=>by
   have:=ch _ _ g
   rw[qc (by simp;omega)];exact kp2 _ _ (nz k this) (a1 _ _ g),(o2.move fun p w hp g=>by rw[qc (by simp;omega)];exact g).le n1⟩
  (fun _ v=>⟨ch,Nat.le_refl _,Has.refl _,bk.IP o3 v⟩)
 exact ⟨z2,hk,e1,q1⟩
end
end Go.Proofs.aG
