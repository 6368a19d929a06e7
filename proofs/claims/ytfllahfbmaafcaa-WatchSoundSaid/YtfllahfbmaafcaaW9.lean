import Derived.Test.YtfllahfbmaafcaaW3
import Derived.Test.YtfllahfbmaafcaaW4
import Derived.Test.YtfllahfbmaafcaaW6
import Derived.Test.YtfllahfbmaafcaaW8
import Derived.Test.YtfllahfbmaafcaaW0
import Derived.Test.YtfllahfbmaafcaaEnv
import Derived.Test.YtfllahfbmaafcaaW2
import Derived.Test.YtfllahfbmaafcaaA6
namespace Go.Proofs.aH
open Go.Proofs Ab
noncomputable section
set_option maxRecDepth 100000
set_option maxHeartbeats 4000000
set_option linter.unusedVariables false
set_option linter.unusedSimpArgs false
def aeU:Bool:=(List.range 256).all fun s=>decide (j9 ((s:Nat):Int)=(sz s:Int))
theorem Uh:aeU=true:=by decide+kernel
theorem Od {s:Nat} (h:s<256):j9 ((s:Nat):Int)=(sz s:Int):=of_decide_eq_true (List.all_eq_true.1 Uh s (List.mem_range.2 h))
def hasB:Bool:=(List.range 256).all fun s=>(List.range 8).all fun g=>xU ((s:Nat):Int) ((g:Nat):Int)==s.testBit g
theorem Yk:hasB=true:=by decide+kernel
theorem abZ {s:Nat} {g:Int} (h:s<256) (g0:0≤g) (g1:g<8):xU ((s:Nat):Int) g=s.testBit g.toNat:=by
 obtain ⟨k,rfl⟩:∃k:Nat,g=k:=⟨g.toNat,by omega⟩
 have:=List.all_eq_true.1 (List.all_eq_true.1 Yk s (List.mem_range.2 h)) k (List.mem_range.2 o!)
 simpa using this
theorem Oe {n:Nat} (h:n≤8):(qk .u64 1 ((n:Nat):Int)).toNat=2^n:=by
 have:∀n:Nat,n<9→(qk .u64 1 ((n:Nat):Int)).toNat=2^n:=by decide+kernel
 exact this n o!
def zu (q:ay) (l:List az) (r:List Gate) (s0:Int):List Gate:=([(⟨0,q.aj,q.ah⟩:Gate)]++r)++l.map fun x=>eL q x s0
theorem Ui (q:ay) (l:List az) (r:List Gate) (s0:Int):cG q l s0 l.length 0 (([(⟨0,q.aj,q.ah⟩:Gate)])++r)=zu q l r s0:=by
 rw[Ms q l s0 l.length 0 _ o!,List.drop_zero,zu]
theorem Of (q:ay) (l:List az) (r:List Gate) (s0:Int):dG q l r s0=(iZ q (zu q l r s0).length ((zu q l r s0).length - 1) 1 (qt (zu q l r s0))).map (ja q ((zu q l r s0).length - 1) 0):=by
 rw[dG,Ui,qt]
theorem aeV (q:ay) (l:List az) (r:List Gate) (s0:Int):uY q l r s0=(zu q l r s0).length:=by
 rw[uY,Ui]
theorem xX (q:ay) (l:List az) (r:List Gate) (s0:Int):(zu q l r s0).length=1+r.length+l.length:=by
 rw[zu,List.length_append,List.length_append,List.length_map,List.length_singleton]
section
variable {q:ay} {l:List az} (f:RF q l) {s:Nat} (hs:s<256)
include f hs
theorem Og {j:Nat} (hj:j<l.length):eL q (l.g j) ((s:Nat):Int)=if s.testBit (l.g j).aD.toNat then bz (l.g j).time else ⟨(H4 q (l.g j)).time,(H4 q (l.g j)).ax,(H4 q (l.g j)).ar⟩:=by
 obtain ⟨⟨g1,g2⟩,⟨g3,g4⟩,g5,g6⟩:=f.read j hj
 have hb:=f.bad
 have hg:=f.aD (l.g j).aD.toNat o!
 obtain ⟨w1,w2⟩:=qm hg g3 g4
 rw[eL,abZ hs g1 o!]
 cases s.testBit (l.g j).aD.toNat with
 | true=>rfl
 | false=>
   rw[ai,TD ⟨hg.2.2.2.2.1,hg.2.2.2.2.2⟩ g3 g4,PH o! o!,PH o! o!];rfl
theorem xY {r:List Gate} {g:Gate}:g∈zu q l r ((s:Nat):Int)↔g=⟨0,q.aj,q.ah⟩∨g∈r∨∃j,j<l.length∧g=if s.testBit (l.g j).aD.toNat then bz (l.g j).time else ⟨(H4 q (l.g j)).time,(H4 q (l.g j)).ax,(H4 q (l.g j)).ar⟩:=by
 rw[zu,List.mem_append,List.mem_append,List.mem_singleton,List.mem_map,or_assoc]
 refine or_congr Iff.rfl (or_congr Iff.rfl ⟨fun ⟨x,hx,e⟩=>?_,fun ⟨j,hj,e⟩=>?_⟩)
 · obtain ⟨j,hj,rfl⟩:=List.mem_iff_getElem.1 hx
   refine ⟨j,hj,?_⟩
   rw[←Og f hs hj,nA hj];exact e.symm
 · refine ⟨l.g j,by rw[nA hj];exact List.getElem_mem hj,?_⟩
   rw[Og f hs hj];exact e.symm
omit f hs in
theorem Oh {t:Int}:¬KB (kn (bz t)):=fun h=>by
 have:=h.2.1
 simp only[kn,bz] at this
 omega
theorem PS {r:List Gate} (hr:∀g∈r,∃t,0≤t∧t≤100000∧g=bz t):N8 (qt (zu q l r ((s:Nat):Int)))∧∀c,KG (qt (zu q l r ((s:Nat):Int))) c↔KS q l s c:=by
 have fs:=f.start
 have k0:KB (kn (⟨0,q.aj,q.ah⟩:Gate)):=⟨⟨by simp [kn],by simp [kn]⟩,by simp only[kn];omega,by simp only[kn];omega,by simp only[kn];omega,by simp only[kn];omega⟩
 have h0:(zu q l r ((s:Nat):Int)).g 0=⟨0,q.aj,q.ah⟩:=rfl
 have ht:∀g∈zu q l r ((s:Nat):Int),(0≤g.time∧g.time≤100000)∧(KB (kn g)∨Open g)∧g.ax≤g.ar:=fun g hg=>by
  rcases (xY f hs).1 hg with rfl | hg | ⟨j,hj,e⟩
  · exact ⟨⟨Int.le_refl _,by simp only;omega⟩,.inl k0,by simp only;omega⟩
  · obtain ⟨t,t0,t1,rfl⟩:=hr _ hg
    exact ⟨⟨t0,t1⟩,.inr ⟨rfl,rfl⟩,by simp only[bz];omega⟩
  · obtain ⟨⟨g1,g2⟩,⟨g3,g4⟩,g5,g6⟩:=f.read j hj
    have hb:=f.bad
    obtain ⟨w1,w2⟩:=qm (f.aD (l.g j).aD.toNat o!) g3 g4
    cases e1:s.testBit (l.g j).aD.toNat with
    | true=>rw[e1,if_pos rfl] at e;subst e;exact ⟨⟨g3,g4⟩,.inr ⟨rfl,rfl⟩,by simp only[bz];omega⟩
    | false=>rw[e1,if_neg (by decide)] at e;subst e;exact ⟨⟨g3,g4⟩,.inl (LZ f hj),by simp only[H4];omega⟩
 obtain ⟨a,b⟩:=TQ (L:=zu q l r ((s:Nat):Int)) (by rw[xX];omega) ht (by rw[h0]) (by rw[h0];exact k0)
 refine ⟨a,fun c=>?_⟩
 rw[b]
 constructor
 · rintro ⟨g,hg,kb,rfl⟩
   rcases (xY f hs).1 hg with rfl | hg | ⟨j,hj,e⟩
   · exact .inl rfl
   · obtain ⟨t,_,_,rfl⟩:=hr _ hg
     exact absurd kb (Oh)
   · cases e1:s.testBit (l.g j).aD.toNat with
     | true=>rw[e1,if_pos rfl] at e;subst e;exact absurd kb (Oh)
     | false=>rw[e1,if_neg (by decide)] at e;subst e;exact .inr ⟨j,hj,e1,rfl⟩
 · rintro (rfl | ⟨j,hj,e1,rfl⟩)
   · exact ⟨_,(xY f hs).2 (.inl rfl),k0,rfl⟩
   · exact ⟨⟨(H4 q (l.g j)).time,(H4 q (l.g j)).ax,(H4 q (l.g j)).ar⟩,(xY f hs).2 (.inr (.inr ⟨j,hj,by rw[e1];rfl⟩)),LZ f hj,rfl⟩
theorem E7 {r:List Gate} (hr:∀g∈r,∃t,0≤t∧t≤100000∧g=bz t):(dG q l r ((s:Nat):Int)=none↔¬A0 q l s)∧∀w,dG q l r ((s:Nat):Int)=some w→
 w.length=(zu q l r ((s:Nat):Int)).length∧(∀g∈zu q l r ((s:Nat):Int),∃j,j<w.length∧(w.g j).time=g.time)∧∀j,j<w.length→∀x,((w.g j).ax≤x∧x≤(w.g j).ar)↔Wc q l s (w.g j).time x:=by
 obtain ⟨r0,r1,f0,f1⟩:=f.xz
 obtain ⟨gs,kg⟩:=PS f hs hr
 have h1:1≤(zu q l r ((s:Nat):Int)).length:=by rw[xX];omega
 obtain ⟨p1,p2,p3⟩:=zo h1
 have len:=p1.length_eq
 obtain ⟨c1,c2⟩:=PL f0 f1 r0 r1 gs (n:=(zu q l r ((s:Nat):Int)).length) len.symm h1
 have ex:Hm q.aK q.aI (KG (qt (zu q l r ((s:Nat):Int))))↔A0 q l s:=
  ⟨fun h i hi k hk=>h i ((kg i).2 hi) k ((kg k).2 hk),fun h i hi k hk=>h i ((kg i).1 hi) k ((kg k).1 hk)⟩
 rw[Of]
 refine ⟨?_,fun w e=>?_⟩
 · rw[Option.map_eq_none_iff,c1,ex]
 · obtain ⟨W,e1,rfl⟩:=Option.map_eq_some_iff.1 e
   obtain ⟨d1,d2⟩:=c2 W e1
   refine ⟨d1,fun g hg=>?_,fun j hj x=>?_⟩
   · obtain ⟨j,hj,e2⟩:=List.mem_iff_getElem.1 (p1.symm.subset hg)
     refine ⟨j,by omega,?_⟩
     rw[(d2 j o!).1,nA hj,e2]
   · have nR:j<(zu q l r ((s:Nat):Int)).length:=by omega
     rw[(d2 j nR).2 x,(d2 j nR).1]
     exact ⟨fun h c hc=>h c ((kg c).2 hc),fun h c hc=>h c ((kg c).1 hc)⟩
end
theorem Uj {w:List Gate} {t:Int}:∀(k i:Nat),i+k=w.length→(∃j,i≤j∧j<w.length∧(w.g j).time=t)→∃j:Nat,eM w (fun y=>fK y t) k i=some ((j:Nat):Int)∧j<w.length∧(w.g j).time=t
 | 0,i,h,⟨j,a,b,_⟩=>by omega
 | k+1,i,h,⟨j,a,b,c⟩=>by
   rw[eM]
   show ∃j:Nat,(bif decide ((w.g i).time=t) then some ((i:Nat):Int) else eM w (fun y=>fK y t) k (i+1))=_∧_
   by_cases e:(w.g i).time=t
   · rw[decide_eq_true e];exact ⟨i,rfl,by omega,e⟩
   · rw[decide_eq_false e]
     refine Uj k (i+1) o! ⟨j,?_,b,c⟩
     rcases Nat.lt_or_eq_of_le a with q | q
     · omega
     · subst q;exact absurd c e
theorem Uk {w:List Gate} {t:Int} (h:∃j,j<w.length∧(w.g j).time=t):∃j:Nat,bM w (fun y=>fK y t)=((j:Nat):Int)∧j<w.length∧(w.g j).time=t:=by
 obtain ⟨j,a,b⟩:=h
 obtain ⟨i,e,c⟩:=Uj w.length 0 o! ⟨j,Nat.zero_le _,a,b⟩
 exact ⟨i,by rw[bM,e],c⟩
theorem Ht {q:ay} {l:List az} (f:RF q l) {t:Int} (t0:0≤t) (t1:t≤100000) {s:Nat} (hs:s<256) {w:List Gate} (e:dG q l [bz t] ((s:Nat):Int)=some w):
 uY q l [bz t] ((s:Nat):Int)=w.length∧0≤bM w (fun y=>fK y t)∧bM w (fun y=>fK y t)<(w.length:Int)∧w.length<1000∧A0 q l s∧(∀x,((j_ w t).aX≤x∧x≤(j_ w t).aG)↔Wc q l s t x):=by
 have hr:∀g∈ [bz t],∃t,0≤t∧t≤100000∧g=bz t:=fun g hg=>by rw[List.mem_singleton] at hg;exact ⟨t,t0,t1,hg⟩
 obtain ⟨c1,c2⟩:=E7 f hs hr
 obtain ⟨d1,d2,d3⟩:=c2 w e
 obtain ⟨j,e1,e2,e3⟩:=Uk (w:=w) (t:=t) (d2 _ ((xY f hs).2 (.inr (.inl (List.mem_singleton.2 rfl)))))
 have hm:=f.tb
 refine ⟨by rw[aeV,d1],by rw[e1];omega,by rw[e1];omega,by rw[d1,xX,List.length_singleton];omega,?_,fun x=>?_⟩
 · exact Classical.byContradiction fun h=>by rw[c1.2 h] at e;cases e
 · have:=d3 j e2 x
   rw[e3] at this
   rw[j_,e1];exact this
section
variable {α:Type} [aA α]
theorem bC.ix {h0 h:au} {z:AV} {l:List α} (y:Tidy h) (o:bC h0 h z l) {i:Nat} (hi:i<l.length):
 ∃p,dr env (some (.slice (aA.e α))) (some z) (some (.int .i64 ((i:Nat):Int)))=some (.ptr p (i*aA.n α))∧p<h.nx∧h0.nx≤p:=by
 rcases o with ⟨_,rfl⟩ | ⟨hn,p,op,rfl,hp,hg⟩
 · simp at hi
 · have ix:=cx (E:=env) (i:=p) (o:=0) (c:=l.length) (b:=op) (aA.size (α:=α)) hi
   rw[Nat.zero_add] at ix
   exact ⟨p,ix,y _ _ hg,hp⟩
theorem J2 {L:List AV} {o:Nat} (ho:o<L.length) (v:AV):setFrom L o [v]=L.set o v:=by
 apply List.ext_getElem?
 intro k
 rw[eu,List.getElem?_set]
 by_cases e:o=k
 · subst e;rw[if_pos ⟨by omega,by simp,by omega⟩,if_pos rfl,if_pos ho];simp
 · rw[if_neg (by simp only[List.length_cons,List.length_nil];omega),if_neg e]
theorem PT {l:List α} {i j:Nat} (h:i<l.length) {x:α} {v:AV} (hj:j<aA.n α) (hc:aA.c x=(aA.c (l.g i)).set j v):(l.flatMap aA.c).set (i*aA.n α+j) v=(l.set i x).flatMap aA.c:=by
 rw[←rh h x,hc]
 have hl:=ch aA.len l
 have hb:i*aA.n α+aA.n α≤l.length*aA.n α:=by rw[←Nat.succ_mul];exact Nat.mul_le_mul_right _ h
 apply List.ext_getElem?
 intro k
 rw[eu,List.length_set,aA.len,hl,List.getElem?_set,hl]
 have gi:∀r,r<aA.n α→(l.flatMap aA.c)[i*aA.n α+r]? =(aA.c (l.g i))[r]? :=fun r hr=>iz aA.len l i r h hr
 by_cases e:i*aA.n α+j=k
 · subst e
   rw[if_pos rfl,if_pos o!,if_pos ⟨by omega,by omega,by omega⟩,Nat.add_sub_cancel_left,List.getElem?_set,if_pos rfl,if_pos (by rw[aA.len];exact hj)]
 · rw[if_neg e]
   by_cases q:i*aA.n α≤k∧k<i*aA.n α+aA.n α∧k<l.length*aA.n α
   · obtain ⟨r,rfl⟩:∃r,k=i*aA.n α+r:=⟨k - i*aA.n α,by omega⟩
     rw[if_pos q,Nat.add_sub_cancel_left,List.getElem?_set,if_neg o!,gi r o!]
   · rw[if_neg o!]
theorem bC.ahZ {h0 h:au} {z:AV} {l:List α} (y:Tidy h) (y0:Tidy h0) (a:Has h0 h) (o:bC h0 h z l) {i:Nat} (hi:i<l.length) {p q:Nat}
 (hix:dr env (some (.slice (aA.e α))) (some z) (some (.int .i64 ((i:Nat):Int)))=some (.ptr p q)) {t:TypeId} {j:Nat} {x:α} {v:AV} (ht:b7 env t=some 1) (hv:v.cells=[v]) (hs:v.scalar=true) (hj:j<aA.n α) (hc:aA.c x=(aA.c (l.g i)).set j v):
 ∃h',eF env h t (.ptr p (q+j)) v=some h'∧Tidy h'∧h'.nx=h.nx∧bC h0 h' z (l.set i x)∧Has h0 h'∧∀b w,b≠p→h.get b=some w→h'.get b=some w:=by
 rcases o with ⟨_,rfl⟩ | ⟨hn,p',op,rfl,hp,hg⟩
 · simp at hi
 · have ix:=cx (E:=env) (i:=p') (o:=0) (c:=l.length) (b:=op) (aA.size (α:=α)) hi
   rw[Nat.zero_add,hix] at ix
   simp only[Option.some.injEq,AV.ptr.injEq] at ix
   obtain ⟨rfl,rfl⟩:=ix
   have hl:=ch aA.len l
   have hb:i*aA.n α+aA.n α≤l.length*aA.n α:=by rw[←Nat.succ_mul];exact Nat.mul_le_mul_right _ hi
   obtain ⟨h',s⟩:=sQ (E:=env) (t:=t) (o:=i*aA.n α+j) (n:=1) (v:=v) hg ht (by rw[hv];rfl) o! (by rw[hv];simp [hs])
   have g':=ue y s hg
   refine ⟨h',s,rb y s hg,sS s hg,.inr ⟨by intro e;rw[←List.length_eq_zero_iff,List.length_set] at e;omega,p,op,by rw[List.length_set],hp,?_⟩,fun j w gw=>?_,fun b w hb gw=>oH y s hg hb gw⟩
   · rw[g',hv,J2 o!,PT hi hj hc]
   · have:=y0 _ _ gw
     exact oH y s hg o! (a _ _ gw)
end
def kR (L:List Span):List Span:=(jW (L.map fun s=>(s.aX,s.aG))).map fun x=>(⟨x.1,x.2⟩:Span)
theorem E8:∀L:List Span,L.flatMap aA.c=lA (L.map fun s=>(s.aX,s.aG))
 | []=>rfl
 | s::L=>by
   rw[List.flatMap_cons,E8 L];rfl
theorem Di:∀L:List (Int×Int),(L.map fun x=>(⟨x.1,x.2⟩:Span)).flatMap aA.c=lA L
 | []=>rfl
 | s::L=>by
   rw[List.map_cons,List.flatMap_cons,Di L];rfl
theorem kS (L:List Span):(kR L).length=L.length:=by
 have:=(sW (L.map fun s=>(s.aX,s.aG))).2.1
 rw[kR,List.length_map,this,List.length_map]
theorem Mz (L:List Span):(kR L).Perm L:=by
 have h:=(sW (L.map fun s=>(s.aX,s.aG))).1.map fun x=>(⟨x.1,x.2⟩:Span)
 rw[List.map_map] at h
 have e:((fun x:Int×Int=>(⟨x.1,x.2⟩:Span))∘fun s:Span=>(s.aX,s.aG))=id:=by funext s;rfl
 rw[e,List.map_id] at h
 exact h
theorem PU (L:List Span):List.Pairwise (fun s r:Span=>s.aX≤r.aX) (kR L):=by
 obtain ⟨_,h2,h3⟩:=sW (L.map fun s=>(s.aX,s.aG))
 rw[kR,List.pairwise_map,List.pairwise_iff_getElem]
 intro i j hi hj hij
 have:=h3 i j hij (by rw[←h2];exact hj)
 rw[getElem!_pos _ i hi,getElem!_pos _ j hj] at this
 exact this
theorem aeW {d:Nat} {e h:au} {z:AV} {L:List Span} (bY:Tidy h) (oz:bC e h z L) (hL:L.length<1000000):
 ∃h1,cW (d+1) (.fn 78) [z,.func 79 [] []] h= .ret (.tuple []) h1∧Tidy h1∧h1.nx=h.nx∧bC e h1 z (kR L)∧∀k w,bJ z k→h.get k=some w→h1.get k=some w:=by
 have go:∀h1,M0 78 [z,.func 79 [] []] h=some (.tuple [],h1)→cW (d+1) (.fn 78) [z,.func 79 [] []] h= .ret (.tuple []) h1:=fun h1 e=>by
  show eO env M0 (d+1) (.fn 78) _ h=_
  simp only[eO,e]
 rcases oz with ⟨rfl | ⟨p,rfl,hp,hg⟩,rfl⟩ | ⟨hn,p,op,rfl,hp,hg⟩
 · refine ⟨h,go h rfl,bY,rfl,.inl ⟨.inl rfl,?_⟩,fun _ _ _ q=>q⟩
   exact List.length_eq_zero_iff.1 (kS [])
 · have e0:kR []=[]:=List.length_eq_zero_iff.1 (kS [])
   have e1:jW []=[]:=List.length_eq_zero_iff.1 (sW []).2.1
   refine ⟨h.put p (some (.cells [] (aA.e Span) false)),go _ ?_,(jR bY hg).1,rfl,.inl ⟨.inr ⟨p,rfl,hp,au.bS _⟩,e0⟩,fun k w hk q=>?_⟩
   · show Cl 79 [.slice p 0 0 0 false,.func 79 [] []] h=_
     unfold Cl
     simp only[hg,vF,if_true,List.length_nil,true_and,e1,lA]
     rfl
   · rw[au.bA (fun c=>hk 0 0 0 false (by rw[c]))];exact q
 · have hl:(L.map fun s=>(s.aX,s.aG)).length=L.length:=List.length_map ..
   refine ⟨h.put p (some (.cells (lA (jW (L.map fun s=>(s.aX,s.aG)))) (aA.e Span) false)),go _ ?_,(jR bY hg).1,rfl,.inr ⟨fun c=>hn (List.length_eq_zero_iff.1 (by rw[←kS,c];rfl)),p,op,by rw[kS],hp,?_⟩,fun k w hk q=>?_⟩
   · show Cl 79 [.slice p 0 L.length L.length op,.func 79 [] []] h=_
     unfold Cl
     rw[E8] at hg
     simp only[hg,EG,hl,if_true]
     rw[if_pos ⟨trivial,Nat.le_refl _,hL⟩]
   · rw[au.bS,kR,Di]
   · rw[au.bA (fun c=>hk 0 _ _ op (by rw[c]))];exact q
theorem E9 {d:Nat} {f:FuncId} {args:List AV} {h h':au} {v:AV} {P:au→Prop} (hm:M0 f args h=none) (hd:sP env (eO env M0 d) f args h v h') (p1:P h') (p2:Has h h'→AV.within h.nx 20 v=true→P h):
 ∃hk,cW (d+1) (.fn f) args h= .ret v hk∧P hk:=by
 by_cases hv:Has h h'∧AV.within h.nx 20 v=true
 · exact ⟨h,aC hm hd hv.1 hv.2,p2 hv.1 hv.2⟩
 · exact ⟨h',nX hm hd hv,p1⟩
def Hu:Code:=(Try.f59.body).getD .skip
theorem ah0:Try.f59.body=some Hu:=by kernel_rfl
def Hv:Code:=(cC Hu).getD 0 .skip
def oX (S:List Span):Nat→Nat→List Span→List Span
 | 0,_,L=>L
 | k+1,i,L=>bif (decide (0≤(((L.length:Nat):Int) - 1))) then bif (decide ((S.g i).aX≤(IntKind.i64.wrap (((L.g (((L.length:Nat):Int) - 1).toNat).aG)+1)))) then oX S k (i+1) (L.set (((L.length:Nat):Int) - 1).toNat ({(L.g (((L.length:Nat):Int) - 1).toNat) with aG:=(imax (L.g (((L.length:Nat):Int) - 1).toNat).aG (S.g i).aG)}:Span)) else oX S k (i+1) (L++[S.g i]) else oX S k (i+1) (L++[S.g i])
theorem Bl {d:Nat} {h:au} {zs:AV} {S:List Span} (bY:Tidy h) (hSh:aZ h zs S) (hSl:S.length≤100000):∀(k i0:Nat) (L:List Span) (z:AV) (x:Nat→AV) (hh:au),i0+k=S.length→Tidy hh→Has h hh→h.nx≤hh.nx→bC h hh z L→L.length≤i0→
 dU (σ:=List Span) (ζ:=AV) (cW (d+1)) Hv ⟨(rx x 0 3 (z::rx x 4 5 (zs::(Zn S.length)::(Zn i0)::rx x 12 37 []))),hh,[],.no⟩ (.exit 0) hh (fun _ z y=>rx y 0 3 (z::rx y 4 45 [])) (fun r z hk=>Has h hk∧bC h hk z r) (oX S k i0 L)
 | 0,i0,L,z,x,hh,kY,aN,bj,jo,oz,hLi=>by
   have hS:=hSh.has bj
   have Wg:∀y∈L,aA.ok hh y:=fun _ _=>trivial
   have Ym:aZ hh z L:=bC.rows oz o! Wg
   have q1:(decide (((i0:Nat):Int)<((S.length:Nat):Int)))=false:=d!
   exact dU.out L z rfl (pk (d+1) _ _ hh _ hh (VV (bZ 3 false false .i64 ((i0:Nat):Int) ((S.length:Nat):Int))<|BB q1<|ZZ) k!) aN (Nat.le_refl _) ⟨bj,oz⟩ k!
 | k+1,i0,L,z,x,hh,kY,aN,bj,jo,oz,hLi=>by
   have hS:=hSh.has bj
   have Wg:∀y∈L,aA.ok hh y:=fun _ _=>trivial
   have Ym:aZ hh z L:=bC.rows oz o! Wg
   rw[oX]
   rcases Bool.eq_false_or_eq_true (decide (0≤(((L.length:Nat):Int) - 1))) with f1 | f1
   · have f1':=of_decide_eq_true f1
     rcases Bool.eq_false_or_eq_true (decide ((S.g i0).aX≤(IntKind.i64.wrap (((L.g (((L.length:Nat):Int) - 1).toNat).aG)+1)))) with f2 | f2
     · rw[f1,f2,ao,ao]
       have q1:(decide (((i0:Nat):Int)<((S.length:Nat):Int)))=true:=d!
       obtain ⟨p3,q4,lE⟩:=hS.elem (i:=i0) o!
       have xp:dr env (some (.slice 23)) (some zs) (some (Zn i0))=some (AV.ptr p3 q4):=lE
       have AZ:bG env hh 23 (AV.ptr p3 q4)=some (AV.agg [(Zi (S.g i0).aX),(Zi (S.g i0).aG)]):=hS.load o! lE
       obtain ⟨h6,zh,mh,JH,ti,lL⟩:=iQ aN (a_.cells [(Zi 0),(Zi 0)] 23 false)
       have nu:Has h h6:=bj.trans lL
       have iN:Has hh h6:=lL
       obtain ⟨h7,pJ,lM,Ha,lV,dX⟩:=xg (t:=23) (n:=2) (i:=hh.nx) (L:=[(Zi (S.g i0).aX),(Zi (S.g i0).aG)]) mh ti k! rfl rfl (by simp only[AV.cells,List.all_cons,List.all_nil,Bool.and_true,Bool.and_self,fB,dZ,fC,fD,dh,iT,iU,iV,iW,iX,fE])
       have kJ:Has h h7:=Has.cj nu dX bY o!
       have jU:Has hh h7:=Has.cj iN dX aN o!
       have ry:bC h h7 z L:=bC.kept (bC.has oz iN) dX (bC.s7 aN oz o!)
       have J3:dJ (some (.slice 23)) (some z)=some (Zn L.length):=Ym.len
       have w9:IntKind.i64.wrap (((L.length:Nat):Int) - 1)=((L.length:Nat):Int) - 1:=wrap_i64 o! o!
       have rO:(decide (0≤(((L.length:Nat):Int) - 1)))=true:=f1
       obtain ⟨H0,oJ,Yn,Yo⟩:=bC.ix lM ry (i:=(((L.length:Nat):Int) - 1).toNat) (by first | omega | (simp<;>omega))
       have G7:dr env (some (.slice 23)) (some z) (some (Zi (((L.length:Nat):Int) - 1)))=some (AV.ptr H0 ((((L.length:Nat):Int) - 1).toNat*2)):=by rw[show ((((L.length:Nat):Int) - 1):Int)=(((((L.length:Nat):Int) - 1).toNat:Nat):Int) by omega];exact oJ
       have vK:bG env h7 3 (AV.ptr H0 (((((L.length:Nat):Int) - 1).toNat*2)+1))=some (Zi (L.g (((L.length:Nat):Int) - 1).toNat).aG):=(Ym.has jU).part (t:=3) (j:=1) o! oJ k! rfl
       have q15:(decide ((S.g i0).aX≤(IntKind.i64.wrap (((L.g (((L.length:Nat):Int) - 1).toNat).aG)+1))))=true:=f2
       have aeX:bG env h7 3 (AV.ptr H0 (((((L.length:Nat):Int) - 1).toNat*2)+1))=some (Zi (L.g (((L.length:Nat):Int) - 1).toNat).aG):=(Ym.has jU).part (t:=3) (j:=1) o! oJ k! rfl
       have agD:Span.ok h7 (L.g (((L.length:Nat):Int) - 1).toNat):=(eJ (D:=Span) (h':=h7) Wg) _ (lB (by first | omega | (simp only[List.length_set,List.length_append,List.length_nil,List.nil_append];omega)))
       have Ul:aA.ok h7 ({(L.g (((L.length:Nat):Int) - 1).toNat) with aG:=(imax (L.g (((L.length:Nat):Int) - 1).toNat).aG (S.g i0).aG)}:Span):=⟨⟩
       obtain ⟨E_,aeY,Um,ajp,aeZ,ae0,ah1⟩:=bC.ahZ (x:=({(L.g (((L.length:Nat):Int) - 1).toNat) with aG:=(imax (L.g (((L.length:Nat):Int) - 1).toNat).aG (S.g i0).aG)}:Span)) (v:=(Zi (imax (L.g (((L.length:Nat):Int) - 1).toNat).aG (S.g i0).aG))) (t:=3) (j:=1) lM bY kJ ry (by first | omega | (simp only[List.length_set,List.length_append,List.length_nil,List.nil_append];omega)) oJ k! rfl rfl (by decide) rfl
       have E':Has h E_:=ae0
       have Yp:∀y∈(L.set (((L.length:Nat):Int) - 1).toNat ({(L.g (((L.length:Nat):Int) - 1).toNat) with aG:=(imax (L.g (((L.length:Nat):Int) - 1).toNat).aG (S.g i0).aG)}:Span)),aA.ok E_ y:=eJ (D:=Span) (aa6 (eJ (D:=Span) (h':=h7) Wg) Ul)
       have Yq:aZ E_ z (L.set (((L.length:Nat):Int) - 1).toNat ({(L.g (((L.length:Nat):Int) - 1).toNat) with aG:=(imax (L.g (((L.length:Nat):Int) - 1).toNat).aG (S.g i0).aG)}:Span)):=bC.rows aeZ (by first | omega | (simp only[List.length_set,List.length_append,List.length_nil,List.nil_append];omega)) Yp
       have ac4:=Yq.small
       have agE:(L.set (((L.length:Nat):Int) - 1).toNat ({(L.g (((L.length:Nat):Int) - 1).toNat) with aG:=(imax (L.g (((L.length:Nat):Int) - 1).toNat).aG (S.g i0).aG)}:Span)).length=L.length:=List.length_set
       have u25:=fj 3 false true i0 1 o!
       have ev:=pk (d+1) Hv (rx x 0 3 (z::rx x 4 5 (zs::(Zn S.length)::(Zn i0)::rx x 12 37 []))) hh .normal E_ (VV (bZ 3 false false .i64 ((i0:Nat):Int) ((S.length:Nat):Int))<|BV q1 xp<|MM AZ<|NN zh (fun i=>(Pt i))<|SS pJ<|CC<|VV J3<|VV (wM 3 false true w9)<|CN 2<|VV (qh 3 false true .i64 (((L.length:Nat):Int) - 1) 0)<|CC<|BC rO<|BM rO (aM 3 0 (Zi (S.g i0).aX) lV k!)<|BC rO<|BC rO<|BV rO G7<|BC rO<|BM rO vK<|BC rO<|BV rO (qg 3 false false .i64 (S.g i0).aX (IntKind.i64.wrap (((L.g (((L.length:Nat):Int) - 1).toNat).aG)+1)))<|VV (pG (decide ((S.g i0).aX≤(IntKind.i64.wrap (((L.g (((L.length:Nat):Int) - 1).toNat).aG)+1)))) false rO)<|HH (aM 3 0 (Zi (S.g i0).aX) lV k!)<|HH (show AV.same 20 (Zi (S.g i0).aX) (Zi (S.g i0).aX)=true from aU 19 _ _)<|HH vK<|HH (show AV.same 20 (Zi (L.g (((L.length:Nat):Int) - 1).toNat).aG) (Zi (L.g (((L.length:Nat):Int) - 1).toNat).aG)=true from aU 19 _ _)<|BB q15<|CN 4<|VV G7<|CC<|MM aeX<|CC<|MM (aM 3 1 (Zi (S.g i0).aG) lV k!)<|CC<|VV G7<|CC<|SS aeY<|HH aeX<|HH (show AV.same 20 (Zi (L.g (((L.length:Nat):Int) - 1).toNat).aG) (Zi (L.g (((L.length:Nat):Int) - 1).toNat).aG)=true from aU 19 _ _)<|HH (aM 3 1 (Zi (S.g i0).aG) lV k!)<|HH (show AV.same 20 (Zi (S.g i0).aG) (Zi (S.g i0).aG)=true from aU 19 _ _)<|VV u25<|CC<|ZZ) k!
       refine dU.round rfl ev o! _ k! (fun x=>dU.S_ (Bl bY hSh hSl k (i0+1) _ z x E_ o! Um E' o! aeZ (by rw[List.length_set];omega)) fun _ hk hn q=>q)
     · rw[f1,f2,ao,ai]
       have q1:(decide (((i0:Nat):Int)<((S.length:Nat):Int)))=true:=d!
       obtain ⟨p3,q4,lE⟩:=hS.elem (i:=i0) o!
       have xp:dr env (some (.slice 23)) (some zs) (some (Zn i0))=some (AV.ptr p3 q4):=lE
       have AZ:bG env hh 23 (AV.ptr p3 q4)=some (AV.agg [(Zi (S.g i0).aX),(Zi (S.g i0).aG)]):=hS.load o! lE
       obtain ⟨h6,zh,mh,JH,ti,lL⟩:=iQ aN (a_.cells [(Zi 0),(Zi 0)] 23 false)
       have nu:Has h h6:=bj.trans lL
       have iN:Has hh h6:=lL
       obtain ⟨h7,pJ,lM,Ha,lV,dX⟩:=xg (t:=23) (n:=2) (i:=hh.nx) (L:=[(Zi (S.g i0).aX),(Zi (S.g i0).aG)]) mh ti k! rfl rfl (by simp only[AV.cells,List.all_cons,List.all_nil,Bool.and_true,Bool.and_self,fB,dZ,fC,fD,dh,iT,iU,iV,iW,iX,fE])
       have kJ:Has h h7:=Has.cj nu dX bY o!
       have jU:Has hh h7:=Has.cj iN dX aN o!
       have ry:bC h h7 z L:=bC.kept (bC.has oz iN) dX (bC.s7 aN oz o!)
       have J3:dJ (some (.slice 23)) (some z)=some (Zn L.length):=Ym.len
       have w9:IntKind.i64.wrap (((L.length:Nat):Int) - 1)=((L.length:Nat):Int) - 1:=wrap_i64 o! o!
       have rO:(decide (0≤(((L.length:Nat):Int) - 1)))=true:=f1
       obtain ⟨H0,oJ,Yn,Yo⟩:=bC.ix lM ry (i:=(((L.length:Nat):Int) - 1).toNat) (by first | omega | (simp<;>omega))
       have G7:dr env (some (.slice 23)) (some z) (some (Zi (((L.length:Nat):Int) - 1)))=some (AV.ptr H0 ((((L.length:Nat):Int) - 1).toNat*2)):=by rw[show ((((L.length:Nat):Int) - 1):Int)=(((((L.length:Nat):Int) - 1).toNat:Nat):Int) by omega];exact oJ
       have vK:bG env h7 3 (AV.ptr H0 (((((L.length:Nat):Int) - 1).toNat*2)+1))=some (Zi (L.g (((L.length:Nat):Int) - 1).toNat).aG):=(Ym.has jU).part (t:=3) (j:=1) o! oJ k! rfl
       have q15:(decide ((S.g i0).aX≤(IntKind.i64.wrap (((L.g (((L.length:Nat):Int) - 1).toNat).aG)+1))))=false:=f2
       obtain ⟨h16,ae1,ae2,ajq,ae3,Un⟩:=iQ lM (a_.cells [(Zi (S.g i0).aX),(Zi (S.g i0).aG)] 23 false)
       have ae4:Has h h16:=kJ.trans Un
       have ae5:Has hh h16:=jU.trans Un
       have Uo:Has h7 h16:=Un
       obtain ⟨Bm,rL,ab0,tD,ZU,ae6,ah2,ah3,ah4⟩:=bC.Jt (tys:= #[34,34]) (l:=L) (m:=[(S.g i0)]) (x:=(AV.slice h7.nx 0 1 1 false)) ae2 bY ae4 o! (bC.has ry Uo) rfl (mb (x:=(S.g i0)) ae3) (by simp [aA.c,Span.c,AV.scalar]) (by first | omega | (simp<;>omega)) rfl rfl k! k! (bytes:=16) k! (z0:=(AV.agg [(Zi 0),(Zi 0)])) k! rfl (by decide)
       have rM:Has h rL:=ae6
       have ah5:∀y∈(L++[(S.g i0)]),aA.ok rL y:=eJ (D:=Span) (nq (eJ (D:=Span) (h':=h16) Wg) (ok_one trivial))
       have u20:=fj 3 false true i0 1 o!
       have ev:=pk (d+1) Hv (rx x 0 3 (z::rx x 4 5 (zs::(Zn S.length)::(Zn i0)::rx x 12 37 []))) hh .normal rL (VV (bZ 3 false false .i64 ((i0:Nat):Int) ((S.length:Nat):Int))<|BV q1 xp<|MM AZ<|NN zh (fun i=>(Pt i))<|SS pJ<|CC<|VV J3<|VV (wM 3 false true w9)<|CN 2<|VV (qh 3 false true .i64 (((L.length:Nat):Int) - 1) 0)<|CC<|BC rO<|BM rO (aM 3 0 (Zi (S.g i0).aX) lV k!)<|BC rO<|BC rO<|BV rO G7<|BC rO<|BM rO vK<|BC rO<|BV rO (qg 3 false false .i64 (S.g i0).aX (IntKind.i64.wrap (((L.g (((L.length:Nat):Int) - 1).toNat).aG)+1)))<|VV (pG (decide ((S.g i0).aX≤(IntKind.i64.wrap (((L.g (((L.length:Nat):Int) - 1).toNat).aG)+1)))) false rO)<|HH (aM 3 0 (Zi (S.g i0).aX) lV k!)<|HH (show AV.same 20 (Zi (S.g i0).aX) (Zi (S.g i0).aX)=true from aU 19 _ _)<|HH vK<|HH (show AV.same 20 (Zi (L.g (((L.length:Nat):Int) - 1).toNat).aG) (Zi (L.g (((L.length:Nat):Int) - 1).toNat).aG)=true from aU 19 _ _)<|BC q15<|MM (aM 23 0 (AV.agg [(Zi (S.g i0).aX),(Zi (S.g i0).aG)]) lV k!)<|NN ae1 (fun i=>(AV.slice i 0 1 1 false))<|PP (show bU env h16 #[34,34] z (AV.slice h7.nx 0 1 1 false)=some (Bm,rL) from ab0)<|CC<|VV u20<|CC<|ZZ) k!
       refine dU.round rfl ev o! _ k! (fun x=>dU.S_ (Bl bY hSh hSl k (i0+1) _ _ x rL o! tD rM o! ah2 (by rw[List.length_append,List.length_singleton];omega)) fun _ hk hn q=>q)
   · have f1':=of_decide_eq_false f1
     rw[f1,ai]
     have q1:(decide (((i0:Nat):Int)<((S.length:Nat):Int)))=true:=d!
     obtain ⟨p3,q4,lE⟩:=hS.elem (i:=i0) o!
     have xp:dr env (some (.slice 23)) (some zs) (some (Zn i0))=some (AV.ptr p3 q4):=lE
     have AZ:bG env hh 23 (AV.ptr p3 q4)=some (AV.agg [(Zi (S.g i0).aX),(Zi (S.g i0).aG)]):=hS.load o! lE
     obtain ⟨h6,zh,mh,JH,ti,lL⟩:=iQ aN (a_.cells [(Zi 0),(Zi 0)] 23 false)
     have nu:Has h h6:=bj.trans lL
     have iN:Has hh h6:=lL
     obtain ⟨h7,pJ,lM,Ha,lV,dX⟩:=xg (t:=23) (n:=2) (i:=hh.nx) (L:=[(Zi (S.g i0).aX),(Zi (S.g i0).aG)]) mh ti k! rfl rfl (by simp only[AV.cells,List.all_cons,List.all_nil,Bool.and_true,Bool.and_self,fB,dZ,fC,fD,dh,iT,iU,iV,iW,iX,fE])
     have kJ:Has h h7:=Has.cj nu dX bY o!
     have jU:Has hh h7:=Has.cj iN dX aN o!
     have ry:bC h h7 z L:=bC.kept (bC.has oz iN) dX (bC.s7 aN oz o!)
     have J3:dJ (some (.slice 23)) (some z)=some (Zn L.length):=Ym.len
     have w9:IntKind.i64.wrap (((L.length:Nat):Int) - 1)=((L.length:Nat):Int) - 1:=wrap_i64 o! o!
     have rO:(decide (0≤(((L.length:Nat):Int) - 1)))=false:=f1
     obtain ⟨DY,ae7,CX,ZJ,tC,Up⟩:=iQ lM (a_.cells [(Zi (S.g i0).aX),(Zi (S.g i0).aG)] 23 false)
     have JU:Has h DY:=kJ.trans Up
     have JV:Has hh DY:=jU.trans Up
     have Uq:Has h7 DY:=Up
     obtain ⟨z13,Ur,ab1,Us,ajr,ae8,ah6,ah7,ah8⟩:=bC.Jt (tys:= #[34,34]) (l:=L) (m:=[(S.g i0)]) (x:=(AV.slice h7.nx 0 1 1 false)) CX bY JU o! (bC.has ry Uq) rfl (mb (x:=(S.g i0)) tC) (by simp [aA.c,Span.c,AV.scalar]) (by first | omega | (simp<;>omega)) rfl rfl k! k! (bytes:=16) k! (z0:=(AV.agg [(Zi 0),(Zi 0)])) k! rfl (by decide)
     have Ut:Has h Ur:=ae8
     have ah9:∀y∈(L++[(S.g i0)]),aA.ok Ur y:=eJ (D:=Span) (nq (eJ (D:=Span) (h':=DY) Wg) (ok_one trivial))
     have u15:=fj 3 false true i0 1 o!
     have ev:=pk (d+1) Hv (rx x 0 3 (z::rx x 4 5 (zs::(Zn S.length)::(Zn i0)::rx x 12 37 []))) hh .normal Ur (VV (bZ 3 false false .i64 ((i0:Nat):Int) ((S.length:Nat):Int))<|BV q1 xp<|MM AZ<|NN zh (fun i=>(Pt i))<|SS pJ<|CC<|VV J3<|VV (wM 3 false true w9)<|CN 2<|VV (qh 3 false true .i64 (((L.length:Nat):Int) - 1) 0)<|CC<|BB rO<|BB rO<|BB rO<|BB rO<|BB rO<|BB rO<|BB rO<|BB rO<|BV rO (vG false rO)<|FF<|CC<|MM (aM 23 0 (AV.agg [(Zi (S.g i0).aX),(Zi (S.g i0).aG)]) lV k!)<|NN ae7 (fun i=>(AV.slice i 0 1 1 false))<|PP (show bU env DY #[34,34] z (AV.slice h7.nx 0 1 1 false)=some (z13,Ur) from ab1)<|CC<|VV u15<|CC<|ZZ) k!
     refine dU.round rfl ev o! _ k! (fun x=>dU.S_ (Bl bY hSh hSl k (i0+1) _ _ x Ur o! Us Ut o! ah6 (by rw[List.length_append,List.length_singleton];omega)) fun _ hk hn q=>q)
def mW (L:List Span):List Span:=oX (kR L) (kR L).length 0 []
theorem Uu {d:Nat} {e h:au} {z:AV} {L:List Span} (bY:Tidy h) (oz:bC e h z L) (hL:L.length≤100000):
 ∃z' hk,cW (d+2) (.fn 59) [z] h= .ret z' hk∧Tidy hk∧h.nx≤hk.nx∧bC h hk z' (mW L)∧∀k w,bJ z k→h.get k=some w→hk.get k=some w:=by
 have Oi:=oz
 obtain ⟨h1,abt,cq,jf,ae9,afa⟩:=aeW (d:=d) bY oz o!
 have rS:aZ h1 z (kR L):=bC.rows ae9 (by rw[kS];omega) (fun _ _=>trivial)
 have ln2:dJ (some (.slice 23)) (some z)=some (Zn (kR L).length):=rS.len
 obtain ⟨z5,yl4,h3,mg,gF,vP,ik,afb⟩:=Bl (d:=d) (h:=h1) cq rS (by rw[kS];omega) (kR L).length 0 [] AV.aQ (fun k_=>((z::AV.undef::AV.aQ::AV.aQ::AV.undef::AV.undef::AV.undef::z::(AV.tuple [])::z::(Zn (kR L).length)::(Zi 0)::kX 37):List AV).getD k_ AV.undef) h1 o! cq (Has.refl _) (Nat.le_refl _) (.inl ⟨.inl rfl,rfl⟩) (Nat.le_refl _)
 have ev:=pk (d+1) Hu (z::kX 48) h .ret h3 (CN 2<|EE abt<|CN 2<|VV ln2<|CC<|LL mg<|CN 2<|ZZ) k!
 have oL:bC h h3 z5 (mW L):=afb.le o!
 obtain ⟨hk,e1,q⟩:=E9 (P:=fun hk=>Tidy hk∧h.nx≤hk.nx∧bC h hk z5 (mW L)∧∀k w,bJ z k→h.get k=some w→hk.get k=some w) rfl (bx (v:=z5) Try.func59 ah0 k! (.inr rfl) ev k!) ⟨gF,by omega,oL,fun k w n q=>ik _ _ (afa _ _ n q)⟩ (fun _ v=>⟨bY,Nat.le_refl _,bC.Jv oL v,fun _ _ _ q=>q⟩)
 exact ⟨_,hk,e1,q⟩
theorem ab2 (L:List Span) (c:Span):(L++[c]).g L.length=c:=by
 rw[List.g,List.getD_eq_getElem?_getD,List.getElem?_append_right (Nat.le_refl _),Nat.sub_self];rfl
theorem Uv (L:List Span) (c x:Span):(L++[c]).set L.length x=L++[x]:=by
 rw[List.set_append_right _ _ (Nat.le_refl _),Nat.sub_self];rfl
theorem Uw (S:List Span):∀(k i:Nat) (L:List Span) (c:Span),i+k=S.length→(∀s∈S.drop i,Bd s)→Bd c→oX S k i (L++[c])=L++QS c (S.drop i)
 | 0,i,L,c,h,_,_=>by rw[oX,List.drop_eq_nil_of_le o!,QS]
 | k+1,i,L,c,h,hd,hc=>by
   have e:=LV (l:=S) (i:=i) o!
   have hs:=hd (S.g i) (by rw[e];exact List.mem_cons_self ..)
   have KA:∀s∈S.drop (i+1),Bd s:=fun s q=>hd s (by rw[e];exact List.mem_cons_of_mem _ q)
   obtain ⟨c1,c2,c3,c4⟩:=hc
   obtain ⟨s1,s2,s3,s4⟩:=hs
   have n1:(((L++[c]).length:Nat):Int) - 1=(L.length:Int):=by rw[List.length_append,List.length_singleton];omega
   rw[oX,n1,decide_eq_true (show (0:Int)≤(L.length:Int) by omega),ao,Int.toNat_natCast,ab2,Uv,e,QS,wrap_i64 (n:=c.aG+1) o! o!]
   by_cases q:(S.g i).aX≤c.aG+1
   · rw[decide_eq_true q,ao,if_pos q,um]
     exact Uw S k (i+1) L ⟨c.aX,max c.aG (S.g i).aG⟩ o! KA ⟨c1,c2,by simp only;omega,by simp only;omega⟩
   · rw[decide_eq_false q,ai,if_neg q,Uw S k (i+1) (L++[c]) (S.g i) o! KA ⟨s1,s2,s3,s4⟩,List.append_assoc];rfl
theorem J4 {A:List Span} (hd:∀s∈A,Bd s) (hn:∀s∈A,s.aX≤s.aG):Canon (mW A)∧∀x,we (mW A) x↔we A x:=by
 have p:=Mz A
 have asc:=PU A
 have inp:∀x,we (kR A) x↔we A x:=fun x=>⟨fun ⟨s,a,b⟩=>⟨s,p.subset a,b⟩,fun ⟨s,a,b⟩=>⟨s,p.symm.subset a,b⟩⟩
 have WI:∀s∈kR A,Bd s:=fun s q=>hd s (p.subset q)
 have Ng:∀s∈kR A,s.aX≤s.aG:=fun s q=>hn s (p.subset q)
 unfold mW
 generalize kR A=S at asc inp WI Ng
 cases S with
 | nil=>exact ⟨.nil,inp⟩
 | cons c R=>
   obtain ⟨a1,a2⟩:=List.pairwise_cons.1 asc
   have e:oX (c::R) (c::R).length 0 []=QS c R:=by
    show oX (c::R) (R.length+1) 0 []=_
    rw[oX]
    show (bif decide ((0:Int)≤(([]:List Span).length:Int) - 1) then _ else _)=_
    rw[decide_eq_false (by simp),ai]
    exact Uw (c::R) R.length 1 [] c (by simp only[List.length_cons];omega) (fun s q=>WI s (List.mem_cons_of_mem _ q)) (WI c (List.mem_cons_self ..))
   rw[e]
   obtain ⟨j1,j2,_⟩:=CA (l:=R) (c:=c) (Ng c (List.mem_cons_self ..)) (fun s q=>Ng s (List.mem_cons_of_mem _ q)) a1 a2
   refine ⟨j1,fun x=>?_⟩
   rw[j2,←inp,eK]
def Yr:Code:=(Try.f26.body).getD .skip
theorem aia:Try.f26.body=some Yr:=by kernel_rfl
theorem ab3 {d:Nat} {h:au} (bY:Tidy h) (q:ay) (n:Int) {lv rv:AV} (hq:aA.ok h q) (hl:AV.scalar lv=true) (hr:AV.scalar rv=true):
 ∃bq bl bm br hk,cW (d+2) (.fn 26) [.agg (aA.c q),lv,Zi n,rv] h= .ret (.func 44 [] [Pt bq,Pt bm,Pt br,Pt bl]) hk∧Tidy hk∧h.nx≤hk.nx∧Has h hk∧hk.get bq=some (.cells (aA.c q) 26 false)∧hk.get bl=some (.cells [lv] 27 false)∧hk.get bm=some (.cells [Zi n] 3 false)∧hk.get br=some (.cells [rv] 69 false)∧(h.nx≤bq∧bq<bl∧bl<bm∧bm<br∧br<hk.nx):=by
 obtain ⟨h1,cA,cq,jf,aY,ct⟩:=iQ bY (a_.cells [(AV.str q.name),(Zi q.aj),(Zi q.ah),(Zi q.aI),(Zi q.aK),(Zi q.bad),q.aB] 26 false)
 have bI:Has h h1:=ct
 obtain ⟨h2,nv,gG,CP,fW,fJ⟩:=iQ cq (a_.cells [lv] 27 false)
 have fF:Has h h2:=bI.trans fJ
 obtain ⟨h3,xQ,gF,Me,qo,fG⟩:=iQ gG (a_.cells [(Zi n)] 3 false)
 have ik:Has h h3:=fF.trans fG
 obtain ⟨h4,Hw,qp,PK,zm,pc⟩:=iQ gF (a_.cells [rv] 69 false)
 have qq:Has h h4:=ik.trans pc
 exact ⟨_,_,_,_,_,nX rfl (bx Try.func26 aia rfl (.inr rfl) (pk (d+1) _ _ h _ h4 (NN cA (fun i=>(Pt i))<|AA (.a (a_.cells [lv] 27 false) (Pt h1.nx) h2)<|HH nv<|HH (show ∃mk:Nat→AV,some (a_.cells (AV.cells lv) 27 false,fun i=>AV.ptr i 0)=some (a_.cells [lv] 27 false,mk)∧mk h1.nx=(Pt h1.nx) from ⟨_,(by rw[xm hl]),rfl⟩)<|NN xQ (fun i=>(Pt i))<|AA (.a (a_.cells [rv] 69 false) (Pt h3.nx) h4)<|HH Hw<|HH (show ∃mk:Nat→AV,some (a_.cells (AV.cells rv) 69 false,fun i=>AV.ptr i 0)=some (a_.cells [rv] 69 false,mk)∧mk h3.nx=(Pt h3.nx) from ⟨_,(by rw[xm hr]),rfl⟩)<|CN 3<|ZZ) k!) k!) (fun q=>by cases q.2),qp,by omega,qq,pc _ _ (fG _ _ (fJ _ _ aY)),pc _ _ (fG _ _ fW),pc _ _ qo,zm,by omega,by omega,by omega,by omega,by omega⟩
def nN:Code:=(Try.f35.body).getD .skip
theorem aib:Try.f35.body=some nN:=by kernel_rfl
def nB:Code:=(cC nN).getD 0 .skip
theorem Uy {d:Nat} {h hh:au} {t s0:Int} {bs bt lp:Nat} {z cv:AV} {L:List Span} {G:List Gate} (x:Nat→AV) (bY:Tidy h) (bj:Has h hh) (jo:h.nx≤hh.nx) (aN:Tidy hh) (hG:aZ hh cv G) (oz:bC h hh z L) (hL:L.length≤100000) (gs:hh.get bs=some (.cells [z] 34 false)) (gt:hh.get bt=some (.cells [Zi t] 3 false)) (Uz:bJ z bs) (ZV:bJ z bt) (hb:h.nx≤bs) (ne:bs≠bt) (w1:0≤bM G (fun y=>fK y t)) (w2:bM G (fun y=>fK y t)<(G.length:Int)):
 ∃jH z' h',Ev env (cW (d+8)) nB ⟨rx x 0 5 ((Pt bt)::(x 6)::(Pt bs)::(x 8)::cv::rx x 10 8 ((AV.int .u64 s0)::cv::rx x 20 8 [])),hh,[],.pP lp⟩ .normal ⟨jH,h',[],.pP lp⟩∧Tidy h'∧hh.nx≤h'.nx∧Has h h'∧bC h h' z' (L++[j_ G t])∧h'.get bs=some (.cells [z'] 34 false)∧h'.get bt=some (.cells [Zi t] 3 false)∧bJ z' bs∧bJ z' bt∧(∀k w,k≠bs→bJ z k→hh.get k=some w→h'.get k=some w)∧∀k,k<hh.nx→bJ z k→bJ z' k:=by
 have T_s:=aN _ _ gs
 have T_t:=aN _ _ gt
 have Wg:∀y∈L,aA.ok hh y:=fun _ _=>trivial
 have Ym:aZ hh z L:=bC.rows oz o! Wg
 have k1:=abY (d:=d+5) G t hG (by first | omega | assumption | (simp only[List.length_set,List.length_replicate,List.length_append,List.length_cons,List.length_nil,List.nil_append]<;>omega) | (rw[List.length_take];omega)) (by first | omega | assumption | (simp only[List.length_set,List.length_replicate,List.length_append,List.length_cons,List.length_nil,List.nil_append]<;>omega) | (rw[List.length_take];omega)) aN
 obtain ⟨h2,nv,gG,CP,fW,fJ⟩:=iQ aN (a_.cells [(Zi (j_ G t).aX),(Zi (j_ G t).aG)] 23 false)
 have fF:Has h h2:=bj.trans fJ
 have xZ:Has hh h2:=fJ
 obtain ⟨z4,h3,afd,gF,vP,aic,oz5,UA,Oj⟩:=bC.Jt (tys:= #[34,34]) (l:=L) (m:=[(j_ G t)]) (x:=(AV.slice hh.nx 0 1 1 false)) gG bY fF o! (bC.has oz xZ) rfl (mb (x:=(j_ G t)) fW) (by simp [aA.c,Span.c,AV.scalar]) (by first | omega | (simp<;>omega)) rfl rfl k! k! (bytes:=16) k! (z0:=(AV.agg [(Zi 0),(Zi 0)])) k! rfl (by decide)
 have ik:Has h h3:=aic
 have afe:∀y∈(L++[(j_ G t)]),aA.ok h3 y:=eJ (D:=Span) (nq (eJ (D:=Span) (h':=h2) Wg) (ok_one (h:=h2) trivial))
 have sc7:AV.scalar z4=true:=aZ.scalar (bC.rows oz5 (by simp;omega) afe)
 obtain ⟨h6,UB,mh,JH,ti,mX⟩:=ahp (t:=34) (i:=bs) (o:=0) (v:=z4) (N:=[z4]) gF (UA _ _ Uz (fJ _ _ gs)) k! sc7 k! k!
 have nu:Has h h6:=Has.cj ik mX bY o!
 have UC:bC h h6 z4 (L++[(j_ G t)]):=bC.kept oz5 mX (Oj _ (gG _ _ (fJ _ _ gs)) Uz)
 have c8:AV.same 20 z z=true:=Ym.same 19
 have ev:=XQ (.pP lp) (d+8) nB (rx x 0 5 ((Pt bt)::(x 6)::(Pt bs)::(x 8)::cv::rx x 10 8 ((AV.int .u64 s0)::cv::rx x 20 8 []))) hh .normal h6 (MM (aM 34 0 z gs k!)<|CC<|MM (aM 3 0 (Zi t) gt k!)<|EE k1<|NN nv (fun i=>(AV.slice i 0 1 1 false))<|PP (show bU env h2 #[34,34] z (AV.slice hh.nx 0 1 1 false)=some (z4,h3) from afd)<|SS UB<|HH (aM 34 0 z gs k!)<|HH c8<|HH (aM 34 0 z (fJ _ _ gs) k!)<|HH c8<|HH (aM 3 0 (Zi t) gt k!)<|HH (show AV.same 20 (Zi t) (Zi t)=true from aU 19 _ _)<|HH (show ∃o,h2.get hh.nx=some o∧a_.same o (a_.cells [(Zi (j_ G t).aX),(Zi (j_ G t).aG)] 23 false)=true from ⟨_,fW,by simp [a_.same,cL,AV.same]⟩)<|ZZ) k!
 exact ⟨_,z4,_,ev,mh,by omega,nu,UC,ti,mX _ _ o! (UA _ _ ZV (fJ _ _ gt)),Oj _ o! Uz,Oj _ o! ZV,fun k w c n e=>mX _ _ c (UA _ _ n (fJ _ _ e)),fun k c n=>Oj k o! n⟩
def rP:Code:=PN nN
def tH (x:Nat→AV) (bt bs:Nat):List AV:=rx x 0 5 ((AV.ptr bt 0)::(x 6)::(AV.ptr bs 0)::rx x 8 20 [])
theorem ab4 {d:Nat} (x:Nat→AV) (bt bs lp:Nat) (s0:Int) (cv:AV) (h:au):
 Ev env (cW (d+8)) rP ⟨rx x 0 5 ((AV.ptr bt 0)::(x 6)::(AV.ptr bs 0)::rx x 8 10 ((AV.int .u64 s0)::cv::rx x 20 8 [])),h,[],.pP lp⟩ .normal ⟨rx x 0 5 ((AV.ptr bt 0)::(x 6)::(AV.ptr bs 0)::(x 8)::cv::rx x 10 8 ((AV.int .u64 s0)::cv::rx x 20 8 [])),h,[],.pP lp⟩:=by
 have ev:=XQ (.pP lp) (d+8) rP (rx x 0 5 ((AV.ptr bt 0)::(x 6)::(AV.ptr bs 0)::rx x 8 10 ((AV.int .u64 s0)::cv::rx x 20 8 []))) h .normal h (CC<|ZZ) (by kernel_rfl)
 exact Ap (by kernel_rfl) ev
theorem ab5 (x:Nat→AV) (bt bs:Nat) (a c:AV):([18,19].zip [a,c]).foldl (fun ts y=>ts.set y.1 y.2) (tH x bt bs)=rx x 0 5 ((AV.ptr bt 0)::(x 6)::(AV.ptr bs 0)::rx x 8 10 (a::c::rx x 20 8 [])):=by kernel_rfl
def aff (t:Int) (hk:au) (a:List AV) (y:Int×List Gate):Prop:=∃cv,a=[.int .u64 y.1,cv]∧aZ hk cv y.2∧0≤bM y.2 (fun y=>fK y t)∧bM y.2 (fun y=>fK y t)<(y.2.length:Int)
def PoI (e:au) (t:Int) (bs bt lp:Nat) (x:Nat→AV) (dn:Nat) (L:List (Int×List Gate)) (P:Nat→Prop) (hh:au):Prop:=
 L.length≤1000∧∃z,bC e hh z (L.map fun y=>j_ y.2 t)∧e.nx≤hh.nx∧lp<hh.nx∧hh.get bs=some (.cells [z] 34 false)∧hh.get bt=some (.cells [Zi t] 3 false)∧hh.get lp=some (.loop .ready none (tH x bt bs) [18,19] rP nB dn)∧bJ z bs∧bJ z bt∧bJ z lp∧(∀k,¬bJ z k→e.nx≤k∧k<hh.nx)∧∀k,P k↔(k=bs∨k=bt∨k=lp∨¬bJ z k)
theorem aZ.afg {α:Type} [aA α] [Flat α] {h h':au} {v:AV} {l:List α} (x:aZ h v l) (k:∀p C f ro,h.get p=some (.cells C f ro)→h'.get p=some (.cells C f ro)):aZ h' v l:=
 ⟨⟨x.at_.size,x.at_.cells,x.at_.small,x.at_.lens,x.at_.block.imp id fun ⟨p,o,m,c,b,C,f,ro,h1,h2,h3,h4⟩=>⟨p,o,m,c,b,C,f,ro,h1,h2,k _ _ _ _ h3,h4⟩⟩,x.known,fun y hy=>Flat.free (x.GU y hy)⟩
theorem afh {d:Nat} {e:au} {t:Int} {bs bt lp:Nat} (x:Nat→AV) (dn:Nat) (he:∀k,e.get k=none) (eb:e.nx≤bs) (bb:bs≠bt) (lb:bs<lp∧bt<lp∧e.nx≤lp):YlH (cW (d+9)) lp (aff t) (PoI e t bs bt lp x dn) where
 aX:=by
  rintro L P hh ⟨hL,z,oz,en,lx,gs,gt,gp,n1,n2,n3,zl,pp⟩ k hk
  rcases (pp k).1 hk with p | p | p | p
  · omega
  · omega
  · omega
  · exact (zl k p).2
 stay:=by
  rintro L P hh hk ⟨hL,z,oz,en,lx,gs,gt,gp,n1,n2,n3,zl,pp⟩ yk nk kp
  have K:∀k w,k=bs∨k=bt∨k=lp∨¬bJ z k→hh.get k=some w→hk.get k=some w:=fun k w c q=>kp k w ((pp k).2 c) q
  refine ⟨hL,z,?_,by omega,by omega,K _ _ (by simp) gs,K _ _ (by simp) gt,K _ _ (by simp) gp,n1,n2,n3,fun k c=>⟨(zl k c).1,by have:=(zl k c).2;omega⟩,pp⟩
  rcases oz with ⟨rfl | ⟨p,rfl,h1,h2⟩,hl⟩ | ⟨hn,p,op,rfl,hp,hg⟩
  · exact .inl ⟨.inl rfl,hl⟩
  · exact .inl ⟨.inr ⟨p,rfl,h1,K _ _ (.inr (.inr (.inr fun q=>q _ _ _ _ rfl))) h2⟩,hl⟩
  · exact .inr ⟨hn,p,op,rfl,hp,K _ _ (.inr (.inr (.inr fun q=>q _ _ _ _ rfl))) hg⟩
 next:=by
  rintro L a y P hh hLL ⟨cv,rfl,hG,w1,w2⟩ ⟨hL,z,oz,en,lx,gs,gt,gp,n1,n2,n3,zl,pp⟩ aN
  have T1:=aN _ _ gp
  have T2:=aN _ _ gs
  have T3:=aN _ _ gt
  have c1:=jR (o:= .loop .busy none (tH x bt bs) [18,19] rP nB dn) aN gp
  have oz1:bC e (hh.put lp (some (.loop .busy none (tH x bt bs) [18,19] rP nB dn))) z (L.map fun y=>j_ y.2 t):=bC.XP oz c1 n3
  have hG1:=hG.afg (h':=hh.put lp (some (.loop .busy none (tH x bt bs) [18,19] rP nB dn))) fun p C f ro g=>c1.2.2 _ _ (fun c=>by rw[c,gp] at g;cases g) g
  obtain ⟨jH,z',h2,ev,y2,Ys,a2,oz2,gs2,gt2,ni1,ni2,k2,np2⟩:=Uy (d:=d) (h:=e) (hh:=hh.put lp (some (.loop .busy none (tH x bt bs) [18,19] rP nB dn))) (L:=L.map fun y=>j_ y.2 t) (s0:=y.1) (lp:=lp) x (fun i w g=>by rw[he] at g;cases g) (fun i w g=>by rw[he] at g;cases g) en c1.1 hG1 oz1 (by rw[List.length_map];omega) (c1.2.2 _ _ o! gs) (c1.2.2 _ _ o! gt) n1 n2 eb bb w1 w2
  have gl2:=k2 _ _ o! n3 c1.2.1
  have q:=GQ (d:=d+8) (args:=[.int .u64 y.1,cv]) (jump:=none) gp rfl ((ab5 x bt bs (.int .u64 y.1) cv)▸ab4 x bt bs lp y.1 cv hh) gp ev (.inl ⟨rfl,rfl⟩) gl2
  have c3:=jR (o:= .loop .ready none (tH x bt bs) [18,19] rP nB dn) y2 gl2
  have ni3:bJ z' lp:=np2 lp (by show lp<hh.nx;omega) n3
  refine ⟨_,fun k=>k=bs∨k=bt∨k=lp∨¬bJ z' k,q,c3.1,Ys,⟨by rw[List.length_append,List.length_singleton];omega,z',?_,Nat.le_trans en Ys,Nat.lt_of_lt_of_le lx Ys,c3.2.2 _ _ o! gs2,c3.2.2 _ _ o! gt2,c3.2.1,ni1,ni2,ni3,fun k c=>⟨?_,?_⟩,fun _=>Iff.rfl⟩,fun k p=>?_,fun k w n g=>?_⟩
  · rw[List.map_append];exact bC.XP oz2 c3 ni3
  · exact Decidable.byContradiction fun h=>c (oz2.Pz o!)
  · exact Decidable.byContradiction fun h=>c (oz2.s7 y2 (by show h2.nx≤k;exact Nat.le_of_not_lt h))
  · by_cases hk:k<hh.nx
    · refine .inl ((pp k).2 ?_)
      rcases p with p | p | p | p
      · exact .inl p
      · exact .inr (.inl p)
      · exact .inr (.inr (.inl p))
      · exact .inr (.inr (.inr fun c=>p (np2 k hk c)))
    · exact .inr o!
  · have nn:¬(k=bs∨k=bt∨k=lp∨¬bJ z k):=fun c=>n ((pp k).2 c)
    have e1:k≠lp:=fun c=>nn (.inr (.inr (.inl c)))
    exact c3.2.2 _ _ e1 (k2 _ _ (fun c=>nn (.inl c)) (Classical.byContradiction fun c=>nn (.inr (.inr (.inr c)))) (c1.2.2 _ _ e1 g))
theorem Aq {α:Type} [aA α] (inj:∀a b:α,aA.c a=aA.c b→a=b):∀l l':List α,l.length=l'.length→l.flatMap aA.c=l'.flatMap aA.c→l=l'
 | [],[],_,_=>rfl
 | a::l,b::l',hl,h=>by
   rw[List.flatMap_cons,List.flatMap_cons] at h
   obtain ⟨h1,h2⟩:=List.append_inj h (by rw[aA.len,aA.len])
   rw[inj a b h1,Aq inj l l' (by simpa using hl) h2]
theorem bC.same {α:Type} [aA α] (inj:∀a b:α,aA.c a=aA.c b→a=b) {h0 h h':au} {z:AV} {l l':List α} (o:bC h0 h z l) (o':bC h0 h' z l') (A:Has h h'):l'=l:=by
 rcases o with ⟨e,rfl⟩ | ⟨hn,p,op,e,hp,hg⟩<;>rcases o' with ⟨e',rfl⟩ | ⟨hn',p',op',e',hp',hg'⟩
 · rfl
 · exfalso
   have:0<l'.length:=List.length_pos_iff.2 hn'
   rcases e with rfl | ⟨q,rfl,_⟩
   · cases e'
   · have:=(AV.slice.inj e').2.2.1;omega
 · exfalso
   have:0<l.length:=List.length_pos_iff.2 hn
   rcases e' with rfl | ⟨q,rfl,_⟩
   · cases e
   · have:=(AV.slice.inj e).2.2.1;omega
 · rw[e] at e'
   have i:=AV.slice.inj e'
   have q:=A _ _ hg
   rw[i.1,hg'] at q
   exact Aq inj _ _ i.2.2.1.symm (a_.cells.inj (Option.some.inj q)).1
theorem UD (a b:Span) (h:aA.c a=aA.c b):a=b:=by
 cases a;cases b
 have h1:=(List.cons.inj h).1
 have h2:=(List.cons.inj (List.cons.inj h).2).1
 have e1:=(AV.int.inj h1).2
 have e2:=(AV.int.inj h2).2
 simp_all
theorem Yt {e:au} {t:Int} {bs bt lp:Nat} {x:Nat→AV} {dn:Nat} {L L':List (Int×List Gate)} {P P':Nat→Prop} {hh hk:au} (a:PoI e t bs bt lp x dn L P hh) (a':PoI e t bs bt lp x dn L' P' hk) (A:Has hh hk):PoI e t bs bt lp x dn L' P hh:=by
 obtain ⟨hL,z,oz,en,lx,gs,w⟩:=a
 obtain ⟨hL',z',oz',en',lx',gs',w'⟩:=a'
 have q:=A _ _ gs
 rw[gs'] at q
 have ez:z'=z:=(List.cons.inj (a_.cells.inj (Option.some.inj q)).1).1
 subst ez
 have el:=bC.same UD oz oz' A
 exact ⟨hL',z',by rw[el];exact oz,en,lx,gs,w⟩
theorem zv (n:Nat):∃e:au,e.nx=n∧∀k,e.get k=none:=⟨⟨HT.nil,n,fun _=>none⟩,rfl,fun k=>Go.Ab.NJ k n⟩
def ZW:Code:=sq1 nN
def ZX:Code:=sq1 (sq2 nN)
def ZY:Code:=sq1 (sq1 (sq2 (sq2 nN)))
def UE:Code:=sq2 (sq2 (sq2 nN))
theorem UF:nN= .seq ZW (.seq ZX (.seq (.seq ZY (.block 0 (.rangeFunc (.tmp 17) #[18,19] rP nB))) UE)):=by kernel_rfl
theorem ab7 {d:Nat} {h:au} {q:ay} {lv:AV} {l:List az} {t:Int} (bY:Tidy h) (hq:aA.ok h q) (hl:aZ h lv l) (F2:l.length≤12) (hq8:q.af.length≤8) (XJ:∀k,k<l.length→0≤(l.g k).aD∧(l.g k).aD<(q.af.length:Int))
 (hx:∀{s0:Int} {w:List Gate},dG q l [bz t] s0=some w→uY q l [bz t] s0=w.length∧0≤bM w (fun y=>fK y t)∧bM w (fun y=>fK y t)<(w.length:Int)∧w.length<1000):
 ∃(x:Nat→AV) (bt bs c:Nat) (z:AV) (hk e:au),Tidy hk∧h.nx≤hk.nx∧Has h hk∧hk.get bs=some (.cells [z] 34 false)∧bC e hk z ((cn q l [bz t] q.bad).map fun y=>j_ y.2 t)∧e.nx=h.nx∧hk.get c=some .pz∧c≠bs∧h.nx≤c∧h.nx≤bs∧(cn q l [bz t] q.bad).length≤1000∧∀{ex:hZ} {s':St},Ev env (cW (d+12)) UE ⟨tH x bt bs,hk,[.rQ c],.no⟩ ex s'→Ev env (cW (d+12)) nN ⟨((AV.agg [(AV.str q.name),(AV.int .i64 q.aj),(AV.int .i64 q.ah),(AV.int .i64 q.aI),(AV.int .i64 q.aK),(AV.int .i64 q.bad),q.aB])::lv::(AV.int .i64 t)::kX 25),h,[],.no⟩ ex s':=by
 obtain ⟨h1,cA,cq,jf,aY,ct⟩:=iQ bY (a_.cells [(AV.str q.name),(AV.int .i64 q.aj),(AV.int .i64 q.ah),(AV.int .i64 q.aI),(AV.int .i64 q.aK),(AV.int .i64 q.bad),q.aB] 26 false)
 have bI:Has h h1:=ct
 obtain ⟨h2,nv,gG,CP,fW,fJ⟩:=iQ cq (a_.cells [(AV.int .i64 t)] 3 false)
 have fF:Has h h2:=bI.trans fJ
 have ev0:=pk (d+12) ZW ((AV.agg [(AV.str q.name),(AV.int .i64 q.aj),(AV.int .i64 q.ah),(AV.int .i64 q.aI),(AV.int .i64 q.aK),(AV.int .i64 q.bad),q.aB])::lv::(AV.int .i64 t)::kX 25) h .normal h2 (NN cA (fun i=>(AV.ptr i 0))<|NN nv (fun i=>(AV.ptr i 0))<|CC<|ZZ) (by kernel_rfl)
 obtain ⟨h3,xQ,gF,Me,qo,fG⟩:=iQ gG (a_.cells [AV.aQ] 34 false)
 have ik:Has h h3:=fF.trans fG
 have ev1:=pk (d+12) ZX ((AV.agg [(AV.str q.name),(AV.int .i64 q.aj),(AV.int .i64 q.ah),(AV.int .i64 q.aI),(AV.int .i64 q.aK),(AV.int .i64 q.bad),q.aB])::lv::(AV.int .i64 t)::(AV.ptr h.nx 0)::AV.undef::(AV.ptr h1.nx 0)::AV.aQ::kX 21) h2 .normal h3 (NN xQ (fun i=>(AV.ptr i 0))<|ZZ) (by kernel_rfl)
 have k4:=xV (d:=d+11) t gF
 obtain ⟨h5,aid,nK,ab8,J5,UG⟩:=iQ gF (a_.cells [(AV.int .i64 (bz t).time),(AV.int .i64 (bz t).ax),(AV.int .i64 (bz t).ar)] 66 false)
 have nL:Has h h5:=ik.trans UG
 obtain ⟨bq7,bl8,bm9,afi,h6,ab9,mh,aca,lL,Z0,afj,afk,acb,akk⟩:=ab3 (d:=d+10) nK q q.bad (lv:=lv) (rv:=(AV.slice h3.nx 0 1 1 false)) (aA.mono nL hq) hl.scalar (by rfl)
 have nu:Has h h6:=nL.trans lL
 have c11:AV.same 20 (AV.agg [(AV.str q.name),(AV.int .i64 q.aj),(AV.int .i64 q.ah),(AV.int .i64 q.aI),(AV.int .i64 q.aK),(AV.int .i64 q.bad),q.aB]) (AV.agg [(AV.str q.name),(AV.int .i64 q.aj),(AV.int .i64 q.ah),(AV.int .i64 q.aI),(AV.int .i64 q.aK),(AV.int .i64 q.bad),q.aB])=true:=ie 18 (pR (fun n=>qc n _) (pR (fun n=>aU n _ _) (pR (fun n=>aU n _ _) (pR (fun n=>aU n _ _) (pR (fun n=>aU n _ _) (pR (fun n=>aU n _ _) (pR hq.2.same Pq)))))))
 have ev2:=pk (d+12) ZY ((AV.agg [(AV.str q.name),(AV.int .i64 q.aj),(AV.int .i64 q.ah),(AV.int .i64 q.aI),(AV.int .i64 q.aK),(AV.int .i64 q.bad),q.aB])::lv::(AV.int .i64 t)::(AV.ptr h.nx 0)::AV.undef::(AV.ptr h1.nx 0)::AV.aQ::(AV.ptr h2.nx 0)::kX 20) h3 .normal h6 (MM (aM 26 0 (AV.agg [(AV.str q.name),(AV.int .i64 q.aj),(AV.int .i64 q.ah),(AV.int .i64 q.aI),(AV.int .i64 q.aK),(AV.int .i64 q.bad),q.aB]) (fG _ _ (fJ _ _ aY)) (by kernel_rfl))<|CN 2<|MM (aM 3 5 (AV.int .i64 q.bad) (fG _ _ (fJ _ _ aY)) (by kernel_rfl))<|MM (aM 3 0 (AV.int .i64 t) (fG _ _ fW) (by kernel_rfl))<|EE k4<|NN aid (fun i=>(AV.slice i 0 1 1 false))<|EE ab9<|HH (aM 26 0 (AV.agg [(AV.str q.name),(AV.int .i64 q.aj),(AV.int .i64 q.ah),(AV.int .i64 q.aI),(AV.int .i64 q.aK),(AV.int .i64 q.bad),q.aB]) (fG _ _ (fJ _ _ aY)) (by kernel_rfl))<|HH c11<|HH (aM 26 0 (AV.agg [(AV.str q.name),(AV.int .i64 q.aj),(AV.int .i64 q.ah),(AV.int .i64 q.aI),(AV.int .i64 q.aK),(AV.int .i64 q.bad),q.aB]) (UG _ _ (fG _ _ (fJ _ _ aY))) (by kernel_rfl))<|HH c11<|HH (aM 3 5 (AV.int .i64 q.bad) (fG _ _ (fJ _ _ aY)) (by kernel_rfl))<|HH (show AV.same 20 (AV.int .i64 q.bad) (AV.int .i64 q.bad)=true from aU 19 _ _)<|HH (aM 3 5 (AV.int .i64 q.bad) (UG _ _ (fG _ _ (fJ _ _ aY))) (by kernel_rfl))<|HH (show AV.same 20 (AV.int .i64 q.bad) (AV.int .i64 q.bad)=true from aU 19 _ _)<|HH (aM 3 0 (AV.int .i64 t) (fG _ _ fW) (by kernel_rfl))<|HH (show AV.same 20 (AV.int .i64 t) (AV.int .i64 t)=true from aU 19 _ _)<|HH (show ∃o,h5.get h3.nx=some o∧a_.same o (a_.cells [(AV.int .i64 (bz t).time),(AV.int .i64 (bz t).ax),(AV.int .i64 (bz t).ar)] 66 false)=true from ⟨_,J5,by simp [a_.same,cL,AV.same]⟩)<|ZZ) (by kernel_rfl)
 have T1:=mh _ _ Z0
 obtain ⟨e,en,he⟩:=zv h.nx
 obtain ⟨h7,n7⟩:=kF (h:=h6) .pz
 have y7:=fi mh n7
 have x7:=kE n7
 let TS:List AV:=((AV.agg [(AV.str q.name),(AV.int .i64 q.aj),(AV.int .i64 q.ah),(AV.int .i64 q.aI),(AV.int .i64 q.aK),(AV.int .i64 q.bad),q.aB])::lv::(AV.int .i64 t)::(AV.ptr h.nx 0)::AV.undef::(AV.ptr h1.nx 0)::AV.aQ::(AV.ptr h2.nx 0)::AV.undef::AV.undef::(AV.agg [(AV.str q.name),(AV.int .i64 q.aj),(AV.int .i64 q.ah),(AV.int .i64 q.aI),(AV.int .i64 q.aK),(AV.int .i64 q.bad),q.aB])::lv::(AV.ptr h.nx 5)::(AV.int .i64 q.bad)::(AV.int .i64 t)::(AV.agg [(AV.int .i64 (bz t).time),(AV.int .i64 (bz t).ax),(AV.int .i64 (bz t).ar)])::(AV.slice h3.nx 0 1 1 false)::(AV.func 44 [] [(AV.ptr bq7 0),(AV.ptr bm9 0),(AV.ptr afi 0),(AV.ptr bl8 0)])::kX 10)
 have eTS:TS=tH (fun k=>TS.getD k .undef) h1.nx h2.nx:=by kernel_rfl
 obtain ⟨h8,n8⟩:=kF (h:=h7) (.loop .ready none TS (#[18,19]:Array Tmp).toList rP nB h6.nx)
 have y8:=fi y7 n8
 have x8:=kE n8
 have K8:∀k w,h6.get k=some w→h8.get k=some w:=fun k w c=>eW y7 n8 (eW mh n7 c)
 have hi:PoI e t h2.nx h1.nx h7.nx (fun k=>TS.getD k .undef) h6.nx [] (fun k=>k=h2.nx∨k=h1.nx∨k=h7.nx∨¬bJ AV.aQ k) h8:=
  ⟨by simp,.aQ,.inl ⟨.inl rfl,rfl⟩,by omega,by omega,K8 _ _ (lL _ _ (UG _ _ qo)),K8 _ _ (lL _ _ (UG _ _ (fG _ _ fW))),by rw[←eTS];exact iJ n8,bJ.nil _,bJ.nil _,bJ.nil _,fun k c=>absurd (bJ.nil k) c,fun _=>Iff.rfl⟩
 have yl:=afh (d:=d) (e:=e) (t:=t) (bs:=h2.nx) (bt:=h1.nx) (lp:=h7.nx) (fun k=>TS.getD k .undef) h6.nx he o! o! o!
 obtain ⟨e0,e0n,_⟩:=zv 0
 let g0:au:=(h5.put h1.nx none).put h2.nx none
 have gg:∀k w,g0.get k=some w→h5.get k=some w∧k≠h1.nx∧k≠h2.nx:=fun k w c=>by
  have c:((h5.put h1.nx none).put h2.nx none).get k=some w:=c
  by_cases c2:k=h2.nx
  · subst c2;rw[au.bS] at c;cases c
  · rw[au.bA (Ne.symm c2)] at c
    by_cases c1:k=h1.nx
    · subst c1;rw[au.bS] at c;cases c
    · rw[au.bA (Ne.symm c1)] at c;exact ⟨c,c1,c2⟩
 have gk:∀k w,k≠h1.nx→k≠h2.nx→h5.get k=some w→g0.get k=some w:=fun k w c1 c2 c=>by
  show ((h5.put h1.nx none).put h2.nx none).get k=some w
  rw[au.bA (Ne.symm c2),au.bA (Ne.symm c1)];exact c
 have y0:Tidy g0:=fun k w c=>nK _ _ (gg k w c).1
 have a0:Has h g0:=fun k w c=>by
  have:=bY _ _ c
  exact gk k w o! o! (nL _ _ c)
 have hr0:aZ g0 (AV.slice h3.nx 0 1 1 false) [bz t]:=bC.rows (h0:=h) (.inr ⟨by simp,h3.nx,false,rfl,by omega,gk _ _ o! o! J5⟩) (by simp) (fun _ _=>trivial)
 have a8:Has g0 h8:=fun k w c=>K8 _ _ (lL _ _ (gg k w c).1)
 have gn:∀k,k=h1.nx∨k=h2.nx→g0.get k=none:=fun k c=>by
  cases c3:g0.get k with
  | none=>rfl
  | some w=>have:=gg k w c3;omega
 obtain ⟨h9,P9,e9,y9,x9,i9,p9,l9⟩:=ZQ (d:=d+1) (g:=g0) (h:=h8) (q:=q) (l:=l) (r:=[bz t]) (m:=q.bad) (lv:=lv) (rv:=(AV.slice h3.nx 0 1 1 false)) (b:=h7.nx) (bq:=bq7) (bm:=bm9) (br:=afi) (bl:=bl8) y0 (aA.mono a0 hq) (hl.has a0) hr0 F2 (by simp) hq8 XJ o! (show h5.nx≤bq7 by omega) y8 a8 (show h5.nx≤h8.nx by omega) (K8 _ _ Z0) (K8 _ _ afk) (K8 _ _ acb) (K8 _ _ afj) yl (fun a b c=>Yt a b c) (fun {s0 w hk p op} ht hg=>⟨_,rfl,by
  obtain ⟨c1,c2,c3,c4⟩:=hx ht
  rw[c1]
  exact bC.rows (h0:=e0) (.inr ⟨fun c=>by have c:w=[]:=c;subst c;simp at c3;omega,p,op,rfl,by omega,hg⟩) (show w.length<2^60 by omega) (fun _ _=>trivial),(hx ht).2.1,(hx ht).2.2.1⟩) hi (fun k c=>by
  rcases c with c | c | c | c
  · exact ⟨gn k (.inr c),by omega⟩
  · exact ⟨gn k (.inl c),by omega⟩
  · exact ⟨xL y0 (show h5.nx≤k by omega),by omega⟩
  · exact absurd (bJ.nil k) c)
 obtain ⟨hL,z,oz,en9,lx,gs9,gt9,gp9,n1,n2,n3,zl,pp⟩:=i9
 have er:=Cm (E:=env) (call:=cW (d+12)) (ts:=TS) (ds:=[]) (f:= .tmp 17) (ps:= #[18,19]) (aS:=rP) (bd:=nB) (e:= .normal) rfl n7 n8 e9 gp9 (by intro c;cases c) rfl
 have LN:=jR (o:= .loop .exhausted none (tH (fun k=>TS.getD k .undef) h1.nx h2.nx) [18,19] rP nB h6.nx) y9 gp9
 have np:∀k,k<h1.nx∨k=h6.nx→¬(k=h2.nx∨k=h1.nx∨k=h7.nx∨¬bJ AV.aQ k):=by
  rintro k c (p | p | p | p)
  · omega
  · omega
  · omega
  · exact p (bJ.nil k)
 have a9:Has h h9:=fun k w c=>l9 _ _ (np k (.inl (by have:=bY _ _ c;omega))) (K8 _ _ (nu _ _ c))
 have gd:h9.get h6.nx=some .pz:=l9 _ _ (np _ (.inr rfl)) (eW y7 n8 (iJ n7))
 refine ⟨fun k=>TS.getD k .undef,h1.nx,h2.nx,h6.nx,z,_,e,LN.1,(show h.nx≤h9.nx by omega),fun k w c=>LN.2.2 _ _ (by have:=bY _ _ c;omega) (a9 _ _ c),LN.2.2 _ _ o! gs9,bC.XP oz LN n3,en,LN.2.2 _ _ o! gd,by omega,by omega,by omega,hL,fun {ex s'} ev5=>?_⟩
 rw[←eTS] at ev5
 rw[UF]
 exact Ev.seq (Ap (L':=((AV.agg [(AV.str q.name),(AV.int .i64 q.aj),(AV.int .i64 q.ah),(AV.int .i64 q.aI),(AV.int .i64 q.aK),(AV.int .i64 q.bad),q.aB])::lv::(AV.int .i64 t)::(AV.ptr h.nx 0)::AV.undef::(AV.ptr h1.nx 0)::AV.aQ::kX 21)) (by kernel_rfl) ev0) (Ev.seq (Ap (L':=((AV.agg [(AV.str q.name),(AV.int .i64 q.aj),(AV.int .i64 q.ah),(AV.int .i64 q.aI),(AV.int .i64 q.aK),(AV.int .i64 q.bad),q.aB])::lv::(AV.int .i64 t)::(AV.ptr h.nx 0)::AV.undef::(AV.ptr h1.nx 0)::AV.aQ::(AV.ptr h2.nx 0)::kX 20)) (by kernel_rfl) ev1) (Ev.seq (Ev.seq (Ap (L':=TS) (by kernel_rfl) ev2) (Ev.Ue er)) ev5))
theorem afl {c:Nat} {h:au} (y:Tidy h):Tidy (shut [c] h):=fun k w gw=>by
 rw[nI]
 by_cases e:k=c
 · subst e
   rw[shut,shut,au.bS] at gw;cases gw
 · rw[kl (by simpa using e)] at gw;exact y _ _ gw
theorem bC.move {α:Type} [aA α] {g h h':au} {z:AV} {l:List α} (o:bC g h z l) (k:∀p w,g.nx≤p→h.get p=some w→h'.get p=some w):bC g h' z l:=by
 rcases o with ⟨rfl | ⟨p,rfl,hp,hg⟩,rfl⟩ | ⟨hn,p,op,rfl,hp,hg⟩
 · exact .inl ⟨.inl rfl,rfl⟩
 · exact .inl ⟨.inr ⟨p,rfl,hp,k _ _ hp hg⟩,rfl⟩
 · exact .inr ⟨hn,p,op,rfl,hp,k _ _ hp hg⟩
def dA (q:ay) (l:List az) (t:Int):List Span:=mW ((cn q l [bz t] q.bad).map fun y=>j_ y.2 t)
theorem MA {d:Nat} {h:au} {q:ay} {lv:AV} {l:List az} {t:Int} (bY:Tidy h) (hq:aA.ok h q) (hl:aZ h lv l) (F2:l.length≤12) (hq8:q.af.length≤8) (XJ:∀k,k<l.length→0≤(l.g k).aD∧(l.g k).aD<(q.af.length:Int))
 (hx:∀{s0:Int} {w:List Gate},dG q l [bz t] s0=some w→uY q l [bz t] s0=w.length∧0≤bM w (fun y=>fK y t)∧bM w (fun y=>fK y t)<(w.length:Int)∧w.length<1000):
 ∃z hk,cW (d+13) (.fn 35) [(AV.agg [(AV.str q.name),(AV.int .i64 q.aj),(AV.int .i64 q.ah),(AV.int .i64 q.aI),(AV.int .i64 q.aK),(AV.int .i64 q.bad),q.aB]),lv,(AV.int .i64 t)] h= .ret z hk∧Tidy hk∧h.nx≤hk.nx∧Has h hk∧bC h hk z (dA q l t):=by
 obtain ⟨x,bt,bs,c,z,h1,e,y1,n1,a1,g1,o1,en,gc,ncb,hc,hb,hlen,go⟩:=ab7 (d:=d) bY hq hl F2 hq8 XJ hx
 obtain ⟨z2,h2,k2,y2,n2,o2,kp2⟩:=Uu (d:=d+10) y1 o1 (by rw[List.length_map];omega)
 have T1:=y1 _ _ gc
 have nzc:bJ z c:=fun o n cc b q=>by
  subst q
  rcases o1 with ⟨q | ⟨p,q,hp,hg⟩,_⟩ | ⟨hn,p,op,q,hp,hg⟩
  · cases q
  · rw[(AV.slice.inj q).1,hg] at gc;cases gc
  · rw[(AV.slice.inj q).1,hg] at gc;cases gc
 have ev5:=pk_ (d+12) UE (tH x bt bs) h1 [.rQ c] .no .ret h2 (MM (aM 34 0 z g1 (by kernel_rfl))<|EE k2<|CC<|ZZ) (by kernel_rfl)
 have ev:=go ev5
 have gc2:=kp2 _ _ nzc gc
 have fn:=GR (args:=[(AV.agg [(AV.str q.name),(AV.int .i64 q.aj),(AV.int .i64 q.ah),(AV.int .i64 q.aI),(AV.int .i64 q.aK),(AV.int .i64 q.bad),q.aB]),lv,(AV.int .i64 t)]) (L:=[c]) (v:=z2) Try.func35 aib (by kernel_rfl) (.inr rfl) ev (by simp) (fun k hk=>by rw[List.mem_singleton.1 hk];exact gc2) (by kernel_rfl)
 have nz:∀k,k<h.nx→bJ z k:=fun k hk=>o1.Pz o!
 have o3:bC h h2 z2 (dA q l t):=o2.le n1
 obtain ⟨hk,e1,q1⟩:=E9 (P:=fun hk=>Tidy hk∧h.nx≤hk.nx∧Has h hk∧bC h hk z2 (dA q l t)) rfl fn
  ⟨afl y2,by rw[nI];omega,fun k w g=>by
   have:=bY _ _ g
   rw[kl (by simp;omega)];exact kp2 _ _ (nz k this) (a1 _ _ g),(o2.move fun p w hp g=>by rw[kl (by simp;omega)];exact g).le n1⟩
  (fun _ v=>⟨bY,Nat.le_refl _,Has.refl _,bC.Jv o3 v⟩)
 exact ⟨z2,hk,e1,q1⟩
end
end Go.Proofs.aH
