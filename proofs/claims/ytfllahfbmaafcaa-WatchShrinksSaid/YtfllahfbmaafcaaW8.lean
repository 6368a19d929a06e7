import Derived.Test.YtfllahfbmaafcaaW1
import Derived.Test.YtfllahfbmaafcaaW3
import Derived.Test.YtfllahfbmaafcaaW5
import Derived.Test.YtfllahfbmaafcaaW7
import Derived.Test.YtfllahfbmaafcaaW0
import Derived.Test.YtfllahfbmaafcaaEnv
import Derived.Test.YtfllahfbmaafcaaA6
namespace Go.Proofs.aK
open Go.Proofs Ab
noncomputable section
set_option maxRecDepth 100000
set_option maxHeartbeats 4000000
set_option linter.unusedVariables false
set_option linter.unusedSimpArgs false
def aa9:Bool:=(List.range 256).all fun s=>decide (iU ((s:Nat):Int)=(sz s:Int))
theorem P5:aa9=true:=by decide+kernel
theorem J2 {s:Nat} (h:s<256):iU ((s:Nat):Int)=(sz s:Int):=of_decide_eq_true (List.all_eq_true.1 P5 s (List.mem_range.2 h))
def hasB:Bool:=(List.range 256).all fun s=>(List.range 8).all fun g=>Af ((s:Nat):Int) ((g:Nat):Int)==s.testBit g
theorem Uf:hasB=true:=by decide+kernel
theorem X6 {s:Nat} {g:Int} (h:s<256) (g0:0≤g) (g1:g<8):Af ((s:Nat):Int) g=s.testBit g.toNat:=by
 obtain ⟨k,rfl⟩:∃k:Nat,g=k:=⟨g.toNat,by omega⟩
 have:=List.all_eq_true.1 (List.all_eq_true.1 Uf s (List.mem_range.2 h)) k (List.mem_range.2 o!)
 simpa using this
theorem J3 {n:Nat} (h:n≤8):(oq .u64 1 ((n:Nat):Int)).toNat=2^n:=by
 have:∀n:Nat,n<9→(oq .u64 1 ((n:Nat):Int)).toNat=2^n:=by decide+kernel
 exact this n o!
def we (q:aw) (l:List aB) (r:List Gate) (s0:Int):List Gate:=([(⟨0,q.ai,q.af⟩:Gate)]++r)++l.map fun x=>dJ q x s0
theorem P7 (q:aw) (l:List aB) (r:List Gate) (s0:Int):cf q l s0 l.length 0 (([(⟨0,q.ai,q.af⟩:Gate)])++r)=we q l r s0:=by
 rw[It q l s0 l.length 0 _ o!,List.drop_zero,we]
theorem J4 (q:aw) (l:List aB) (r:List Gate) (s0:Int):cZ q l r s0=(gU q (we q l r s0).length ((we q l r s0).length - 1) 1 (ov (we q l r s0))).map (gV q ((we q l r s0).length - 1) 0):=by
 rw[cZ,P7,ov]
theorem aba (q:aw) (l:List aB) (r:List Gate) (s0:Int):sD q l r s0=(we q l r s0).length:=by
 rw[sD,P7]
theorem ve (q:aw) (l:List aB) (r:List Gate) (s0:Int):(we q l r s0).length=1+r.length+l.length:=by
 rw[we,List.length_append,List.length_append,List.length_map,List.length_singleton]
section
variable {q:aw} {l:List aB} (f:RF q l) {s:Nat} (hs:s<256)
include f hs
theorem J5 {j:Nat} (hj:j<l.length):dJ q (l.g j) ((s:Nat):Int)=if s.testBit (l.g j).aC.toNat then aX (l.g j).time else ⟨(D3 q (l.g j)).time,(D3 q (l.g j)).aj,(D3 q (l.g j)).ah⟩:=by
 obtain ⟨⟨g1,g2⟩,⟨g3,g4⟩,g5,g6⟩:=f.read j hj
 have hb:=f.bad
 have hg:=f.aC (l.g j).aC.toNat o!
 obtain ⟨w1,w2⟩:=uH hg g3 g4
 rw[dJ,X6 hs g1 o!]
 cases s.testBit (l.g j).aC.toNat with
 | true=>rfl
 | false=>
   rw[ar,Pz ⟨hg.2.2.2.2.1,hg.2.2.2.2.2⟩ g3 g4,Lq o! o!,Lq o! o!];rfl
theorem vf {r:List Gate} {g:Gate}:g∈we q l r ((s:Nat):Int)↔g=⟨0,q.ai,q.af⟩∨g∈r∨∃j,j<l.length∧g=if s.testBit (l.g j).aC.toNat then aX (l.g j).time else ⟨(D3 q (l.g j)).time,(D3 q (l.g j)).aj,(D3 q (l.g j)).ah⟩:=by
 rw[we,List.mem_append,List.mem_append,List.mem_singleton,List.mem_map,or_assoc]
 refine or_congr Iff.rfl (or_congr Iff.rfl ⟨fun ⟨x,hx,e⟩=>?_,fun ⟨j,hj,e⟩=>?_⟩)
 · obtain ⟨j,hj,rfl⟩:=List.mem_iff_getElem.1 hx
   refine ⟨j,hj,?_⟩
   rw[←J5 f hs hj,lD hj];exact e.symm
 · refine ⟨l.g j,by rw[lD hj];exact List.getElem_mem hj,?_⟩
   rw[J5 f hs hj];exact e.symm
omit f hs in
theorem J6 {t:Int}:¬KB (kn (aX t)):=fun h=>by
 have:=h.2.1
 simp only[kn,aX] at this
 omega
theorem Lw {r:List Gate} (hr:∀g∈r,∃t,0≤t∧t≤100000∧g=aX t):JV (ov (we q l r ((s:Nat):Int)))∧∀c,KG (ov (we q l r ((s:Nat):Int))) c↔KS q l s c:=by
 have fs:=f.start
 have k0:KB (kn (⟨0,q.ai,q.af⟩:Gate)):=⟨⟨by simp [kn],by simp [kn]⟩,by simp only[kn];omega,by simp only[kn];omega,by simp only[kn];omega,by simp only[kn];omega⟩
 have h0:(we q l r ((s:Nat):Int)).g 0=⟨0,q.ai,q.af⟩:=rfl
 have ht:∀g∈we q l r ((s:Nat):Int),(0≤g.time∧g.time≤100000)∧(KB (kn g)∨Open g)∧g.aj≤g.ah:=fun g hg=>by
  rcases (vf f hs).1 hg with rfl | hg | ⟨j,hj,e⟩
  · exact ⟨⟨Int.le_refl _,by simp only;omega⟩,.inl k0,by simp only;omega⟩
  · obtain ⟨t,t0,t1,rfl⟩:=hr _ hg
    exact ⟨⟨t0,t1⟩,.inr ⟨rfl,rfl⟩,by simp only[aX];omega⟩
  · obtain ⟨⟨g1,g2⟩,⟨g3,g4⟩,g5,g6⟩:=f.read j hj
    have hb:=f.bad
    obtain ⟨w1,w2⟩:=uH (f.aC (l.g j).aC.toNat o!) g3 g4
    cases e1:s.testBit (l.g j).aC.toNat with
    | true=>rw[e1,if_pos rfl] at e;subst e;exact ⟨⟨g3,g4⟩,.inr ⟨rfl,rfl⟩,by simp only[aX];omega⟩
    | false=>rw[e1,if_neg (by decide)] at e;subst e;exact ⟨⟨g3,g4⟩,.inl (HY f hj),by simp only[D3];omega⟩
 obtain ⟨a,b⟩:=PI (L:=we q l r ((s:Nat):Int)) (by rw[ve];omega) ht (by rw[h0]) (by rw[h0];exact k0)
 refine ⟨a,fun c=>?_⟩
 rw[b]
 constructor
 · rintro ⟨g,hg,kb,rfl⟩
   rcases (vf f hs).1 hg with rfl | hg | ⟨j,hj,e⟩
   · exact .inl rfl
   · obtain ⟨t,_,_,rfl⟩:=hr _ hg
     exact absurd kb (J6)
   · cases e1:s.testBit (l.g j).aC.toNat with
     | true=>rw[e1,if_pos rfl] at e;subst e;exact absurd kb (J6)
     | false=>rw[e1,if_neg (by decide)] at e;subst e;exact .inr ⟨j,hj,e1,rfl⟩
 · rintro (rfl | ⟨j,hj,e1,rfl⟩)
   · exact ⟨_,(vf f hs).2 (.inl rfl),k0,rfl⟩
   · exact ⟨⟨(D3 q (l.g j)).time,(D3 q (l.g j)).aj,(D3 q (l.g j)).ah⟩,(vf f hs).2 (.inr (.inr ⟨j,hj,by rw[e1];rfl⟩)),HY f hj,rfl⟩
theorem B8 {r:List Gate} (hr:∀g∈r,∃t,0≤t∧t≤100000∧g=aX t):(cZ q l r ((s:Nat):Int)=none↔¬ti q l s)∧∀w,cZ q l r ((s:Nat):Int)=some w→
 w.length=(we q l r ((s:Nat):Int)).length∧(∀g∈we q l r ((s:Nat):Int),∃j,j<w.length∧(w.g j).time=g.time)∧∀j,j<w.length→∀x,((w.g j).aj≤x∧x≤(w.g j).ah)↔Lj q l s (w.g j).time x:=by
 obtain ⟨r0,r1,f0,f1⟩:=f.FM
 obtain ⟨gs,kg⟩:=Lw f hs hr
 have h1:1≤(we q l r ((s:Nat):Int)).length:=by rw[ve];omega
 obtain ⟨p1,p2,p3⟩:=v7 h1
 have len:=p1.length_eq
 obtain ⟨c1,c2⟩:=Lt f0 f1 r0 r1 gs (n:=(we q l r ((s:Nat):Int)).length) len.symm h1
 have ex:DD q.aJ q.aH (KG (ov (we q l r ((s:Nat):Int))))↔ti q l s:=
  ⟨fun h i hi k hk=>h i ((kg i).2 hi) k ((kg k).2 hk),fun h i hi k hk=>h i ((kg i).1 hi) k ((kg k).1 hk)⟩
 rw[J4]
 refine ⟨?_,fun w e=>?_⟩
 · rw[Option.map_eq_none_iff,c1,ex]
 · obtain ⟨W,e1,rfl⟩:=Option.map_eq_some_iff.1 e
   obtain ⟨d1,d2⟩:=c2 W e1
   refine ⟨d1,fun g hg=>?_,fun j hj x=>?_⟩
   · obtain ⟨j,hj,e2⟩:=List.mem_iff_getElem.1 (p1.symm.subset hg)
     refine ⟨j,by omega,?_⟩
     rw[(d2 j o!).1,lD hj,e2]
   · have mQ:j<(we q l r ((s:Nat):Int)).length:=by omega
     rw[(d2 j mQ).2 x,(d2 j mQ).1]
     exact ⟨fun h c hc=>h c ((kg c).2 hc),fun h c hc=>h c ((kg c).1 hc)⟩
end
theorem P_ {w:List Gate} {t:Int}:∀(k i:Nat),i+k=w.length→(∃j,i≤j∧j<w.length∧(w.g j).time=t)→∃j:Nat,dK w (fun y=>eJ y t) k i=some ((j:Nat):Int)∧j<w.length∧(w.g j).time=t
 | 0,i,h,⟨j,a,b,_⟩=>by omega
 | k+1,i,h,⟨j,a,b,c⟩=>by
   rw[dK]
   show ∃j:Nat,(bif decide ((w.g i).time=t) then some ((i:Nat):Int) else dK w (fun y=>eJ y t) k (i+1))=_∧_
   by_cases e:(w.g i).time=t
   · rw[decide_eq_true e];exact ⟨i,rfl,by omega,e⟩
   · rw[decide_eq_false e]
     refine P_ k (i+1) o! ⟨j,?_,b,c⟩
     rcases Nat.lt_or_eq_of_le a with q | q
     · omega
     · subst q;exact absurd c e
theorem Qa {w:List Gate} {t:Int} (h:∃j,j<w.length∧(w.g j).time=t):∃j:Nat,bz w (fun y=>eJ y t)=((j:Nat):Int)∧j<w.length∧(w.g j).time=t:=by
 obtain ⟨j,a,b⟩:=h
 obtain ⟨i,e,c⟩:=P_ w.length 0 o! ⟨j,Nat.zero_le _,a,b⟩
 exact ⟨i,by rw[bz,e],c⟩
theorem DK {q:aw} {l:List aB} (f:RF q l) {t:Int} (t0:0≤t) (t1:t≤100000) {s:Nat} (hs:s<256) {w:List Gate} (e:cZ q l [aX t] ((s:Nat):Int)=some w):
 sD q l [aX t] ((s:Nat):Int)=w.length∧0≤bz w (fun y=>eJ y t)∧bz w (fun y=>eJ y t)<(w.length:Int)∧w.length<1000∧ti q l s∧(∀x,((iV w t).aM≤x∧x≤(iV w t).aD)↔Lj q l s t x):=by
 have hr:∀g∈ [aX t],∃t,0≤t∧t≤100000∧g=aX t:=fun g hg=>by rw[List.mem_singleton] at hg;exact ⟨t,t0,t1,hg⟩
 obtain ⟨c1,c2⟩:=B8 f hs hr
 obtain ⟨d1,d2,d3⟩:=c2 w e
 obtain ⟨j,e1,e2,e3⟩:=Qa (w:=w) (t:=t) (d2 _ ((vf f hs).2 (.inr (.inl (List.mem_singleton.2 rfl)))))
 have hm:=f.nm
 refine ⟨by rw[aba,d1],by rw[e1];omega,by rw[e1];omega,by rw[d1,ve,List.length_singleton];omega,?_,fun x=>?_⟩
 · exact Classical.byContradiction fun h=>by rw[c1.2 h] at e;cases e
 · have:=d3 j e2 x
   rw[e3] at this
   rw[iV,e1];exact this
section
variable {α:Type} [az α]
theorem ba.ix {h0 h:au} {z:AV} {l:List α} (y:Tidy h) (o:ba h0 h z l) {i:Nat} (hi:i<l.length):
 ∃p,dL env (some (.slice (az.e α))) (some z) (some (.int .i64 ((i:Nat):Int)))=some (.ptr p (i*az.n α))∧p<h.nx∧h0.nx≤p:=by
 rcases o with ⟨_,rfl⟩ | ⟨hn,p,op,rfl,hp,hg⟩
 · simp at hi
 · have ix:=b7 (E:=env) (i:=p) (o:=0) (c:=l.length) (b:=op) (az.size (α:=α)) hi
   rw[Nat.zero_add] at ix
   exact ⟨p,ix,y _ _ hg,hp⟩
theorem Gg {L:List AV} {o:Nat} (ho:o<L.length) (v:AV):setFrom L o [v]=L.set o v:=by
 apply List.ext_getElem?
 intro k
 rw[dy,List.getElem?_set]
 by_cases e:o=k
 · subst e;rw[if_pos ⟨by omega,by simp,by omega⟩,if_pos rfl,if_pos ho];simp
 · rw[if_neg (by simp only[List.length_cons,List.length_nil];omega),if_neg e]
theorem Lx {l:List α} {i j:Nat} (h:i<l.length) {x:α} {v:AV} (hj:j<az.n α) (hc:az.c x=(az.c (l.g i)).set j v):(l.flatMap az.c).set (i*az.n α+j) v=(l.set i x).flatMap az.c:=by
 rw[←pe h x,hc]
 have hl:=bP az.len l
 have hb:i*az.n α+az.n α≤l.length*az.n α:=by rw[←Nat.succ_mul];exact Nat.mul_le_mul_right _ h
 apply List.ext_getElem?
 intro k
 rw[dy,List.length_set,az.len,hl,List.getElem?_set,hl]
 have gi:∀r,r<az.n α→(l.flatMap az.c)[i*az.n α+r]? =(az.c (l.g i))[r]? :=fun r hr=>gD az.len l i r h hr
 by_cases e:i*az.n α+j=k
 · subst e
   rw[if_pos rfl,if_pos o!,if_pos ⟨by omega,by omega,by omega⟩,Nat.add_sub_cancel_left,List.getElem?_set,if_pos rfl,if_pos (by rw[az.len];exact hj)]
 · rw[if_neg e]
   by_cases q:i*az.n α≤k∧k<i*az.n α+az.n α∧k<l.length*az.n α
   · obtain ⟨r,rfl⟩:∃r,k=i*az.n α+r:=⟨k - i*az.n α,by omega⟩
     rw[if_pos q,Nat.add_sub_cancel_left,List.getElem?_set,if_neg o!,gi r o!]
   · rw[if_neg o!]
theorem ba.X7 {h0 h:au} {z:AV} {l:List α} (y:Tidy h) (y0:Tidy h0) (a:Has h0 h) (o:ba h0 h z l) {i:Nat} (hi:i<l.length) {p q:Nat}
 (hix:dL env (some (.slice (az.e α))) (some z) (some (.int .i64 ((i:Nat):Int)))=some (.ptr p q)) {t:TypeId} {j:Nat} {x:α} {v:AV} (ht:bT env t=some 1) (hv:v.cells=[v]) (hs:v.scalar=true) (hj:j<az.n α) (hc:az.c x=(az.c (l.g i)).set j v):
 ∃h',dX env h t (.ptr p (q+j)) v=some h'∧Tidy h'∧h'.nx=h.nx∧ba h0 h' z (l.set i x)∧Has h0 h'∧∀b w,b≠p→h.get b=some w→h'.get b=some w:=by
 rcases o with ⟨_,rfl⟩ | ⟨hn,p',op,rfl,hp,hg⟩
 · simp at hi
 · have ix:=b7 (E:=env) (i:=p') (o:=0) (c:=l.length) (b:=op) (az.size (α:=α)) hi
   rw[Nat.zero_add,hix] at ix
   simp only[Option.some.injEq,AV.ptr.injEq] at ix
   obtain ⟨rfl,rfl⟩:=ix
   have hl:=bP az.len l
   have hb:i*az.n α+az.n α≤l.length*az.n α:=by rw[←Nat.succ_mul];exact Nat.mul_le_mul_right _ hi
   obtain ⟨h',s⟩:=uw (E:=env) (t:=t) (o:=i*az.n α+j) (n:=1) (v:=v) hg ht (by rw[hv];rfl) o! (by rw[hv];simp [hs])
   have g':=rL y s hg
   refine ⟨h',s,o9 y s hg,qz s hg,.inr ⟨by intro e;rw[←List.length_eq_zero_iff,List.length_set] at e;omega,p,op,by rw[List.length_set],hp,?_⟩,fun j w gw=>?_,fun b w hb gw=>mu y s hg hb gw⟩
   · rw[g',hv,Gg o!,Lx hi hj hc]
   · have:=y0 _ _ gw
     exact mu y s hg o! (a _ _ gw)
end
def jB (L:List Span):List Span:=(iI (L.map fun s=>(s.aM,s.aD))).map fun x=>(⟨x.1,x.2⟩:Span)
theorem B9:∀L:List Span,L.flatMap az.c=jR (L.map fun s=>(s.aM,s.aD))
 | []=>rfl
 | s::L=>by
   rw[List.flatMap_cons,B9 L];rfl
theorem Ap:∀L:List (Int×Int),(L.map fun x=>(⟨x.1,x.2⟩:Span)).flatMap az.c=jR L
 | []=>rfl
 | s::L=>by
   rw[List.map_cons,List.flatMap_cons,Ap L];rfl
theorem jC (L:List Span):(jB L).length=L.length:=by
 have:=(qC (L.map fun s=>(s.aM,s.aD))).2.1
 rw[jB,List.length_map,this,List.length_map]
theorem IB (L:List Span):(jB L).Perm L:=by
 have h:=(qC (L.map fun s=>(s.aM,s.aD))).1.map fun x=>(⟨x.1,x.2⟩:Span)
 rw[List.map_map] at h
 have e:((fun x:Int×Int=>(⟨x.1,x.2⟩:Span))∘fun s:Span=>(s.aM,s.aD))=id:=by funext s;rfl
 rw[e,List.map_id] at h
 exact h
theorem Ly (L:List Span):List.Pairwise (fun s r:Span=>s.aM≤r.aM) (jB L):=by
 obtain ⟨_,h2,h3⟩:=qC (L.map fun s=>(s.aM,s.aD))
 rw[jB,List.pairwise_map,List.pairwise_iff_getElem]
 intro i j hi hj ZG
 have:=h3 i j ZG (by rw[←h2];exact hj)
 rw[getElem!_pos _ i hi,getElem!_pos _ j hj] at this
 exact this
theorem abb {d:Nat} {e h:au} {z:AV} {L:List Span} (cj:Tidy h) (oz:ba e h z L) (hL:L.length<1000000):
 ∃h1,dw (d+1) (.fn 78) [z,.func 79 [] []] h= .ret (.tuple []) h1∧Tidy h1∧h1.nx=h.nx∧ba e h1 z (jB L)∧∀k w,bA z k→h.get k=some w→h1.get k=some w:=by
 have go:∀h1,M0 78 [z,.func 79 [] []] h=some (.tuple [],h1)→dw (d+1) (.fn 78) [z,.func 79 [] []] h= .ret (.tuple []) h1:=fun h1 e=>by
  show dU env M0 (d+1) (.fn 78) _ h=_
  simp only[dU,e]
 rcases oz with ⟨rfl | ⟨p,rfl,hp,hg⟩,rfl⟩ | ⟨hn,p,op,rfl,hp,hg⟩
 · refine ⟨h,go h rfl,cj,rfl,.inl ⟨.inl rfl,?_⟩,fun _ _ _ q=>q⟩
   exact List.length_eq_zero_iff.1 (jC [])
 · have e0:jB []=[]:=List.length_eq_zero_iff.1 (jC [])
   have e1:iI []=[]:=List.length_eq_zero_iff.1 (qC []).2.1
   refine ⟨h.put p (some (.cells [] (az.e Span) false)),go _ ?_,(lM cj hg).1,rfl,.inl ⟨.inr ⟨p,rfl,hp,au.bF _⟩,e0⟩,fun k w hk q=>?_⟩
   · show zw 79 [.slice p 0 0 0 false,.func 79 [] []] h=_
     unfold zw
     simp only[hg,te,if_true,List.length_nil,true_and,e1,jR]
     rfl
   · rw[au.aY (fun c=>hk 0 0 0 false (by rw[c]))];exact q
 · have hl:(L.map fun s=>(s.aM,s.aD)).length=L.length:=List.length_map ..
   refine ⟨h.put p (some (.cells (jR (iI (L.map fun s=>(s.aM,s.aD)))) (az.e Span) false)),go _ ?_,(lM cj hg).1,rfl,.inr ⟨fun c=>hn (List.length_eq_zero_iff.1 (by rw[←jC,c];rfl)),p,op,by rw[jC],hp,?_⟩,fun k w hk q=>?_⟩
   · show zw 79 [.slice p 0 L.length L.length op,.func 79 [] []] h=_
     unfold zw
     rw[B9] at hg
     simp only[hg,BJ,hl,if_true]
     rw[if_pos ⟨trivial,Nat.le_refl _,hL⟩]
   · rw[au.bF,jB,Ap]
   · rw[au.aY (fun c=>hk 0 _ _ op (by rw[c]))];exact q
theorem B_ {d:Nat} {f:FuncId} {args:List AV} {h h':au} {v:AV} {P:au→Prop} (hm:M0 f args h=none) (hd:r7 env (dU env M0 d) f args h v h') (p1:P h') (p2:Has h h'→AV.within h.nx 20 v=true→P h):
 ∃hk,dw (d+1) (.fn f) args h= .ret v hk∧P hk:=by
 by_cases hv:Has h h'∧AV.within h.nx 20 v=true
 · exact ⟨h,aF hm hd hv.1 hv.2,p2 hv.1 hv.2⟩
 · exact ⟨h',om hm hd hv,p1⟩
def DL:Code:=(Try.f59.body).getD .skip
theorem adV:Try.f59.body=some DL:=by kernel_rfl
def DM:Code:=(cX DL).getD 0 .skip
def mN (S:List Span):Nat→Nat→List Span→List Span
 | 0,_,L=>L
 | k+1,i,L=>bif (decide (0≤(((L.length:Nat):Int) - 1))) then bif (decide ((S.g i).aM≤(IntKind.i64.wrap (((L.g (((L.length:Nat):Int) - 1).toNat).aD)+1)))) then mN S k (i+1) (L.set (((L.length:Nat):Int) - 1).toNat ({(L.g (((L.length:Nat):Int) - 1).toNat) with aD:=(imax (L.g (((L.length:Nat):Int) - 1).toNat).aD (S.g i).aD)}:Span)) else mN S k (i+1) (L++[S.g i]) else mN S k (i+1) (L++[S.g i])
theorem yi {d:Nat} {h:au} {zs:AV} {S:List Span} (cj:Tidy h) (hSh:aQ h zs S) (hSl:S.length≤100000):∀(k i0:Nat) (L:List Span) (z:AV) (x:Nat→AV) (hh:au),i0+k=S.length→Tidy hh→Has h hh→h.nx≤hh.nx→ba h hh z L→L.length≤i0→
 ey (σ:=List Span) (ζ:=AV) (dw (d+1)) DM ⟨(rx x 0 3 (z::rx x 4 5 (zs::(Zn S.length)::(Zn i0)::rx x 12 37 []))),hh,[],.no⟩ (.exit 0) hh (fun _ z y=>rx y 0 3 (z::rx y 4 45 [])) (fun r z hk=>Has h hk∧ba h hk z r) (mN S k i0 L)
 | 0,i0,L,z,x,hh,rR,a_,bN,nJ,oz,hLi=>by
   have hS:=hSh.has bN
   have RV:∀y∈L,az.ok hh y:=fun _ _=>trivial
   have Ug:aQ hh z L:=ba.rows oz o! RV
   have q1:(decide (((i0:Nat):Int)<((S.length:Nat):Int)))=false:=d!
   exact ey.out L z rfl (pk (d+1) _ _ hh _ hh (VV (cS 3 false false .i64 ((i0:Nat):Int) ((S.length:Nat):Int))<|BB q1<|ZZ) k!) a_ (Nat.le_refl _) ⟨bN,oz⟩ k!
 | k+1,i0,L,z,x,hh,rR,a_,bN,nJ,oz,hLi=>by
   have hS:=hSh.has bN
   have RV:∀y∈L,az.ok hh y:=fun _ _=>trivial
   have Ug:aQ hh z L:=ba.rows oz o! RV
   rw[mN]
   rcases Bool.eq_false_or_eq_true (decide (0≤(((L.length:Nat):Int) - 1))) with f1 | f1
   · have f1':=of_decide_eq_true f1
     rcases Bool.eq_false_or_eq_true (decide ((S.g i0).aM≤(IntKind.i64.wrap (((L.g (((L.length:Nat):Int) - 1).toNat).aD)+1)))) with f2 | f2
     · rw[f1,f2,ax,ax]
       have q1:(decide (((i0:Nat):Int)<((S.length:Nat):Int)))=true:=d!
       obtain ⟨p3,q4,kY⟩:=hS.elem (i:=i0) o!
       have mU:dL env (some (.slice 23)) (some zs) (some (Zn i0))=some (AV.ptr p3 q4):=kY
       have AJ:bw env hh 23 (AV.ptr p3 q4)=some (AV.agg [(Zi (S.g i0).aM),(Zi (S.g i0).aD)]):=hS.load o! kY
       obtain ⟨h6,vV,js,Lm,vW,j0⟩:=jS a_ (aR.cells [(Zi 0),(Zi 0)] 23 false)
       have mV:Has h h6:=bN.trans j0
       have j7:Has hh h6:=j0
       obtain ⟨h7,tu,mG,Ln,lO,fA⟩:=sa (t:=23) (n:=2) (i:=hh.nx) (L:=[(Zi (S.g i0).aM),(Zi (S.g i0).aD)]) js vW k! rfl rfl (by simp only[AV.cells,List.all_cons,List.all_nil,Bool.and_true,Bool.and_self,ib,fL,ic,ie,ei,kR,kS,kT,kU,kV,ig])
       have mH:Has h h7:=Has.bG mV fA cj o!
       have lQ:Has hh h7:=Has.bG j7 fA a_ o!
       have pv:ba h h7 z L:=ba.kept (ba.has oz j7) fA (ba.BS a_ oz o!)
       have J7:eF (some (.slice 23)) (some z)=some (Zn L.length):=Ug.len
       have w9:IntKind.i64.wrap (((L.length:Nat):Int) - 1)=((L.length:Nat):Int) - 1:=wrap_i64 o! o!
       have rf:(decide (0≤(((L.length:Nat):Int) - 1)))=true:=f1
       obtain ⟨YS,Aq,Uh,Ui⟩:=ba.ix mG pv (i:=(((L.length:Nat):Int) - 1).toNat) (by first | omega | (simp<;>omega))
       have Qb:dL env (some (.slice 23)) (some z) (some (Zi (((L.length:Nat):Int) - 1)))=some (AV.ptr YS ((((L.length:Nat):Int) - 1).toNat*2)):=by rw[show ((((L.length:Nat):Int) - 1):Int)=(((((L.length:Nat):Int) - 1).toNat:Nat):Int) by omega];exact Aq
       have xK:bw env h7 3 (AV.ptr YS (((((L.length:Nat):Int) - 1).toNat*2)+1))=some (Zi (L.g (((L.length:Nat):Int) - 1).toNat).aD):=(Ug.has lQ).part (t:=3) (j:=1) o! Aq k! rfl
       have YT:(decide ((S.g i0).aM≤(IntKind.i64.wrap (((L.g (((L.length:Nat):Int) - 1).toNat).aD)+1))))=true:=f2
       have abc:bw env h7 3 (AV.ptr YS (((((L.length:Nat):Int) - 1).toNat*2)+1))=some (Zi (L.g (((L.length:Nat):Int) - 1).toNat).aD):=(Ug.has lQ).part (t:=3) (j:=1) o! Aq k! rfl
       have acx:Span.ok h7 (L.g (((L.length:Nat):Int) - 1).toNat):=(cR (D:=Span) (h':=h7) RV) _ (jT (by first | omega | (simp only[List.length_set,List.length_append,List.length_nil,List.nil_append];omega)))
       have Qc:az.ok h7 ({(L.g (((L.length:Nat):Int) - 1).toNat) with aD:=(imax (L.g (((L.length:Nat):Int) - 1).toNat).aD (S.g i0).aD)}:Span):=⟨⟩
       obtain ⟨oC,abd,rh,aeX,abe,cD,X8⟩:=ba.X7 (x:=({(L.g (((L.length:Nat):Int) - 1).toNat) with aD:=(imax (L.g (((L.length:Nat):Int) - 1).toNat).aD (S.g i0).aD)}:Span)) (v:=(Zi (imax (L.g (((L.length:Nat):Int) - 1).toNat).aD (S.g i0).aD))) (t:=3) (j:=1) mG cj mH pv (by first | omega | (simp only[List.length_set,List.length_append,List.length_nil,List.nil_append];omega)) Aq k! rfl rfl (by decide) rfl
       have J8:Has h oC:=cD
       have Uj:∀y∈(L.set (((L.length:Nat):Int) - 1).toNat ({(L.g (((L.length:Nat):Int) - 1).toNat) with aD:=(imax (L.g (((L.length:Nat):Int) - 1).toNat).aD (S.g i0).aD)}:Span)),az.ok oC y:=cR (D:=Span) (HM (cR (D:=Span) (h':=h7) RV) Qc)
       have Uk:aQ oC z (L.set (((L.length:Nat):Int) - 1).toNat ({(L.g (((L.length:Nat):Int) - 1).toNat) with aD:=(imax (L.g (((L.length:Nat):Int) - 1).toNat).aD (S.g i0).aD)}:Span)):=ba.rows abe (by first | omega | (simp only[List.length_set,List.length_append,List.length_nil,List.nil_append];omega)) Uj
       have YU:=Uk.small
       have acy:(L.set (((L.length:Nat):Int) - 1).toNat ({(L.g (((L.length:Nat):Int) - 1).toNat) with aD:=(imax (L.g (((L.length:Nat):Int) - 1).toNat).aD (S.g i0).aD)}:Span)).length=L.length:=List.length_set
       have u25:=ks 3 false true i0 1 o!
       have ev:=pk (d+1) DM (rx x 0 3 (z::rx x 4 5 (zs::(Zn S.length)::(Zn i0)::rx x 12 37 []))) hh .normal oC (VV (cS 3 false false .i64 ((i0:Nat):Int) ((S.length:Nat):Int))<|BV q1 mU<|MM AJ<|NN vV (fun i=>(Pt i))<|SS tu<|CC<|VV J7<|VV (CU 3 false true w9)<|CN 2<|VV (eG 3 false true .i64 (((L.length:Nat):Int) - 1) 0)<|CC<|BC rf<|BM rf (aL 3 0 (Zi (S.g i0).aM) lO k!)<|BC rf<|BC rf<|BV rf Qb<|BC rf<|BM rf xK<|BC rf<|BV rf (gA 3 false false .i64 (S.g i0).aM (IntKind.i64.wrap (((L.g (((L.length:Nat):Int) - 1).toNat).aD)+1)))<|VV (jG (decide ((S.g i0).aM≤(IntKind.i64.wrap (((L.g (((L.length:Nat):Int) - 1).toNat).aD)+1)))) false rf)<|HH (aL 3 0 (Zi (S.g i0).aM) lO k!)<|HH (show AV.same 20 (Zi (S.g i0).aM) (Zi (S.g i0).aM)=true from aN 19 _ _)<|HH xK<|HH (show AV.same 20 (Zi (L.g (((L.length:Nat):Int) - 1).toNat).aD) (Zi (L.g (((L.length:Nat):Int) - 1).toNat).aD)=true from aN 19 _ _)<|BB YT<|CN 4<|VV Qb<|CC<|MM abc<|CC<|MM (aL 3 1 (Zi (S.g i0).aD) lO k!)<|CC<|VV Qb<|CC<|SS abd<|HH abc<|HH (show AV.same 20 (Zi (L.g (((L.length:Nat):Int) - 1).toNat).aD) (Zi (L.g (((L.length:Nat):Int) - 1).toNat).aD)=true from aN 19 _ _)<|HH (aL 3 1 (Zi (S.g i0).aD) lO k!)<|HH (show AV.same 20 (Zi (S.g i0).aD) (Zi (S.g i0).aD)=true from aN 19 _ _)<|VV u25<|CC<|ZZ) k!
       refine ey.round rfl ev o! _ k! (fun x=>ey.Pa (yi cj hSh hSl k (i0+1) _ z x oC o! rh J8 o! abe (by rw[List.length_set];omega)) fun _ hk hn q=>q)
     · rw[f1,f2,ax,ar]
       have q1:(decide (((i0:Nat):Int)<((S.length:Nat):Int)))=true:=d!
       obtain ⟨p3,q4,kY⟩:=hS.elem (i:=i0) o!
       have mU:dL env (some (.slice 23)) (some zs) (some (Zn i0))=some (AV.ptr p3 q4):=kY
       have AJ:bw env hh 23 (AV.ptr p3 q4)=some (AV.agg [(Zi (S.g i0).aM),(Zi (S.g i0).aD)]):=hS.load o! kY
       obtain ⟨h6,vV,js,Lm,vW,j0⟩:=jS a_ (aR.cells [(Zi 0),(Zi 0)] 23 false)
       have mV:Has h h6:=bN.trans j0
       have j7:Has hh h6:=j0
       obtain ⟨h7,tu,mG,Ln,lO,fA⟩:=sa (t:=23) (n:=2) (i:=hh.nx) (L:=[(Zi (S.g i0).aM),(Zi (S.g i0).aD)]) js vW k! rfl rfl (by simp only[AV.cells,List.all_cons,List.all_nil,Bool.and_true,Bool.and_self,ib,fL,ic,ie,ei,kR,kS,kT,kU,kV,ig])
       have mH:Has h h7:=Has.bG mV fA cj o!
       have lQ:Has hh h7:=Has.bG j7 fA a_ o!
       have pv:ba h h7 z L:=ba.kept (ba.has oz j7) fA (ba.BS a_ oz o!)
       have J7:eF (some (.slice 23)) (some z)=some (Zn L.length):=Ug.len
       have w9:IntKind.i64.wrap (((L.length:Nat):Int) - 1)=((L.length:Nat):Int) - 1:=wrap_i64 o! o!
       have rf:(decide (0≤(((L.length:Nat):Int) - 1)))=true:=f1
       obtain ⟨YS,Aq,Uh,Ui⟩:=ba.ix mG pv (i:=(((L.length:Nat):Int) - 1).toNat) (by first | omega | (simp<;>omega))
       have Qb:dL env (some (.slice 23)) (some z) (some (Zi (((L.length:Nat):Int) - 1)))=some (AV.ptr YS ((((L.length:Nat):Int) - 1).toNat*2)):=by rw[show ((((L.length:Nat):Int) - 1):Int)=(((((L.length:Nat):Int) - 1).toNat:Nat):Int) by omega];exact Aq
       have xK:bw env h7 3 (AV.ptr YS (((((L.length:Nat):Int) - 1).toNat*2)+1))=some (Zi (L.g (((L.length:Nat):Int) - 1).toNat).aD):=(Ug.has lQ).part (t:=3) (j:=1) o! Aq k! rfl
       have YT:(decide ((S.g i0).aM≤(IntKind.i64.wrap (((L.g (((L.length:Nat):Int) - 1).toNat).aD)+1))))=false:=f2
       obtain ⟨h16,abf,abg,aeY,abh,Qd⟩:=jS mG (aR.cells [(Zi (S.g i0).aM),(Zi (S.g i0).aD)] 23 false)
       have abi:Has h h16:=mH.trans Qd
       have abj:Has hh h16:=lQ.trans Qd
       have Qe:Has h7 h16:=Qd
       obtain ⟨z18,AK,X9,B3,aeZ,abk,adW,adX,adY⟩:=ba.HL (tys:= #[34,34]) (l:=L) (m:=[(S.g i0)]) (x:=(AV.slice h7.nx 0 1 1 false)) abg cj abi o! (ba.has pv Qe) rfl (pc (x:=(S.g i0)) abh) (by simp [az.c,Span.c,AV.scalar]) (by first | omega | (simp<;>omega)) rfl rfl k! k! (bytes:=16) k! (z0:=(AV.agg [(Zi 0),(Zi 0)])) k! rfl (by decide)
       have B4:Has h AK:=abk
       have adZ:∀y∈(L++[(S.g i0)]),az.ok AK y:=cR (D:=Span) (nE (cR (D:=Span) (h':=h16) RV) (ok_one trivial))
       have u20:=ks 3 false true i0 1 o!
       have ev:=pk (d+1) DM (rx x 0 3 (z::rx x 4 5 (zs::(Zn S.length)::(Zn i0)::rx x 12 37 []))) hh .normal AK (VV (cS 3 false false .i64 ((i0:Nat):Int) ((S.length:Nat):Int))<|BV q1 mU<|MM AJ<|NN vV (fun i=>(Pt i))<|SS tu<|CC<|VV J7<|VV (CU 3 false true w9)<|CN 2<|VV (eG 3 false true .i64 (((L.length:Nat):Int) - 1) 0)<|CC<|BC rf<|BM rf (aL 3 0 (Zi (S.g i0).aM) lO k!)<|BC rf<|BC rf<|BV rf Qb<|BC rf<|BM rf xK<|BC rf<|BV rf (gA 3 false false .i64 (S.g i0).aM (IntKind.i64.wrap (((L.g (((L.length:Nat):Int) - 1).toNat).aD)+1)))<|VV (jG (decide ((S.g i0).aM≤(IntKind.i64.wrap (((L.g (((L.length:Nat):Int) - 1).toNat).aD)+1)))) false rf)<|HH (aL 3 0 (Zi (S.g i0).aM) lO k!)<|HH (show AV.same 20 (Zi (S.g i0).aM) (Zi (S.g i0).aM)=true from aN 19 _ _)<|HH xK<|HH (show AV.same 20 (Zi (L.g (((L.length:Nat):Int) - 1).toNat).aD) (Zi (L.g (((L.length:Nat):Int) - 1).toNat).aD)=true from aN 19 _ _)<|BC YT<|MM (aL 23 0 (AV.agg [(Zi (S.g i0).aM),(Zi (S.g i0).aD)]) lO k!)<|NN abf (fun i=>(AV.slice i 0 1 1 false))<|PP (show bf env h16 #[34,34] z (AV.slice h7.nx 0 1 1 false)=some (z18,AK) from X9)<|CC<|VV u20<|CC<|ZZ) k!
       refine ey.round rfl ev o! _ k! (fun x=>ey.Pa (yi cj hSh hSl k (i0+1) _ _ x AK o! B3 B4 o! adW (by rw[List.length_append,List.length_singleton];omega)) fun _ hk hn q=>q)
   · have f1':=of_decide_eq_false f1
     rw[f1,ar]
     have q1:(decide (((i0:Nat):Int)<((S.length:Nat):Int)))=true:=d!
     obtain ⟨p3,q4,kY⟩:=hS.elem (i:=i0) o!
     have mU:dL env (some (.slice 23)) (some zs) (some (Zn i0))=some (AV.ptr p3 q4):=kY
     have AJ:bw env hh 23 (AV.ptr p3 q4)=some (AV.agg [(Zi (S.g i0).aM),(Zi (S.g i0).aD)]):=hS.load o! kY
     obtain ⟨h6,vV,js,Lm,vW,j0⟩:=jS a_ (aR.cells [(Zi 0),(Zi 0)] 23 false)
     have mV:Has h h6:=bN.trans j0
     have j7:Has hh h6:=j0
     obtain ⟨h7,tu,mG,Ln,lO,fA⟩:=sa (t:=23) (n:=2) (i:=hh.nx) (L:=[(Zi (S.g i0).aM),(Zi (S.g i0).aD)]) js vW k! rfl rfl (by simp only[AV.cells,List.all_cons,List.all_nil,Bool.and_true,Bool.and_self,ib,fL,ic,ie,ei,kR,kS,kT,kU,kV,ig])
     have mH:Has h h7:=Has.bG mV fA cj o!
     have lQ:Has hh h7:=Has.bG j7 fA a_ o!
     have pv:ba h h7 z L:=ba.kept (ba.has oz j7) fA (ba.BS a_ oz o!)
     have J7:eF (some (.slice 23)) (some z)=some (Zn L.length):=Ug.len
     have w9:IntKind.i64.wrap (((L.length:Nat):Int) - 1)=((L.length:Nat):Int) - 1:=wrap_i64 o! o!
     have rf:(decide (0≤(((L.length:Nat):Int) - 1)))=false:=f1
     obtain ⟨yh,abl,z8,Vu,mK,Qf⟩:=jS mG (aR.cells [(Zi (S.g i0).aM),(Zi (S.g i0).aD)] 23 false)
     have F9:Has h yh:=mH.trans Qf
     have F_:Has hh yh:=lQ.trans Qf
     have Qg:Has h7 yh:=Qf
     obtain ⟨z13,vg,X_,Qh,ae0,abm,ad0,ad1,ad2⟩:=ba.HL (tys:= #[34,34]) (l:=L) (m:=[(S.g i0)]) (x:=(AV.slice h7.nx 0 1 1 false)) z8 cj F9 o! (ba.has pv Qg) rfl (pc (x:=(S.g i0)) mK) (by simp [az.c,Span.c,AV.scalar]) (by first | omega | (simp<;>omega)) rfl rfl k! k! (bytes:=16) k! (z0:=(AV.agg [(Zi 0),(Zi 0)])) k! rfl (by decide)
     have xh:Has h vg:=abm
     have ad3:∀y∈(L++[(S.g i0)]),az.ok vg y:=cR (D:=Span) (nE (cR (D:=Span) (h':=yh) RV) (ok_one trivial))
     have u15:=ks 3 false true i0 1 o!
     have ev:=pk (d+1) DM (rx x 0 3 (z::rx x 4 5 (zs::(Zn S.length)::(Zn i0)::rx x 12 37 []))) hh .normal vg (VV (cS 3 false false .i64 ((i0:Nat):Int) ((S.length:Nat):Int))<|BV q1 mU<|MM AJ<|NN vV (fun i=>(Pt i))<|SS tu<|CC<|VV J7<|VV (CU 3 false true w9)<|CN 2<|VV (eG 3 false true .i64 (((L.length:Nat):Int) - 1) 0)<|CC<|BB rf<|BB rf<|BB rf<|BB rf<|BB rf<|BB rf<|BB rf<|BB rf<|BV rf (pH false rf)<|FF<|CC<|MM (aL 23 0 (AV.agg [(Zi (S.g i0).aM),(Zi (S.g i0).aD)]) lO k!)<|NN abl (fun i=>(AV.slice i 0 1 1 false))<|PP (show bf env yh #[34,34] z (AV.slice h7.nx 0 1 1 false)=some (z13,vg) from X_)<|CC<|VV u15<|CC<|ZZ) k!
     refine ey.round rfl ev o! _ k! (fun x=>ey.Pa (yi cj hSh hSl k (i0+1) _ _ x vg o! Qh xh o! ad0 (by rw[List.length_append,List.length_singleton];omega)) fun _ hk hn q=>q)
def lj (L:List Span):List Span:=mN (jB L) (jB L).length 0 []
theorem Qi {d:Nat} {e h:au} {z:AV} {L:List Span} (cj:Tidy h) (oz:ba e h z L) (hL:L.length≤100000):
 ∃z' hk,dw (d+2) (.fn 59) [z] h= .ret z' hk∧Tidy hk∧h.nx≤hk.nx∧ba h hk z' (lj L)∧∀k w,bA z k→h.get k=some w→hk.get k=some w:=by
 have oz0:=oz
 obtain ⟨h1,Xs,cL,kt,abn,abo⟩:=abb (d:=d) cj oz o!
 have rS:aQ h1 z (jB L):=ba.rows abn (by rw[jC];omega) (fun _ _=>trivial)
 have ln2:eF (some (.slice 23)) (some z)=some (Zn (jB L).length):=rS.len
 obtain ⟨z5,YJ,h3,ky,hQ,uJ,jq,abp⟩:=yi (d:=d) (h:=h1) cL rS (by rw[jC];omega) (jB L).length 0 [] AV.aI (fun k_=>((z::AV.undef::AV.aI::AV.aI::AV.undef::AV.undef::AV.undef::z::(AV.tuple [])::z::(Zn (jB L).length)::(Zi 0)::ka 37):List AV).getD k_ AV.undef) h1 o! cL (Has.refl _) (Nat.le_refl _) (.inl ⟨.inl rfl,rfl⟩) (Nat.le_refl _)
 have ev:=pk (d+1) DL (z::ka 48) h .ret h3 (CN 2<|EE Xs<|CN 2<|VV ln2<|CC<|LL ky<|CN 2<|ZZ) k!
 have oL:ba h h3 z5 (lj L):=abp.le o!
 obtain ⟨hk,e1,q⟩:=B_ (P:=fun hk=>Tidy hk∧h.nx≤hk.nx∧ba h hk z5 (lj L)∧∀k w,bA z k→h.get k=some w→hk.get k=some w) rfl (bu (v:=z5) Try.func59 adV k! (.inr rfl) ev k!) ⟨hQ,by omega,oL,fun k w n q=>jq _ _ (abo _ _ n q)⟩ (fun _ v=>⟨cj,Nat.le_refl _,ba.JD oL v,fun _ _ _ q=>q⟩)
 exact ⟨_,hk,e1,q⟩
theorem X' (L:List Span) (c:Span):(L++[c]).g L.length=c:=by
 rw[List.g,List.getD_eq_getElem?_getD,List.getElem?_append_right (Nat.le_refl _),Nat.sub_self];rfl
theorem Qj (L:List Span) (c x:Span):(L++[c]).set L.length x=L++[x]:=by
 rw[List.set_append_right _ _ (Nat.le_refl _),Nat.sub_self];rfl
theorem Qk (S:List Span):∀(k i:Nat) (L:List Span) (c:Span),i+k=S.length→(∀s∈S.drop i,Bd s)→Bd c→mN S k i (L++[c])=L++MX c (S.drop i)
 | 0,i,L,c,h,_,_=>by rw[mN,List.drop_eq_nil_of_le o!,MX]
 | k+1,i,L,c,h,hd,hc=>by
   have e:=HS (l:=S) (i:=i) o!
   have hs:=hd (S.g i) (by rw[e];exact List.mem_cons_self ..)
   have GG:∀s∈S.drop (i+1),Bd s:=fun s q=>hd s (by rw[e];exact List.mem_cons_of_mem _ q)
   obtain ⟨c1,c2,c3,c4⟩:=hc
   obtain ⟨s1,s2,s3,s4⟩:=hs
   have n1:(((L++[c]).length:Nat):Int) - 1=(L.length:Int):=by rw[List.length_append,List.length_singleton];omega
   rw[mN,n1,decide_eq_true (show (0:Int)≤(L.length:Int) by omega),ax,Int.toNat_natCast,X',Qj,e,MX,wrap_i64 (n:=c.aD+1) o! o!]
   by_cases q:(S.g i).aM≤c.aD+1
   · rw[decide_eq_true q,ax,if_pos q,ph]
     exact Qk S k (i+1) L ⟨c.aM,max c.aD (S.g i).aD⟩ o! GG ⟨c1,c2,by simp only;omega,by simp only;omega⟩
   · rw[decide_eq_false q,ar,if_neg q,Qk S k (i+1) (L++[c]) (S.g i) o! GG ⟨s1,s2,s3,s4⟩,List.append_assoc];rfl
theorem Gh {A:List Span} (hd:∀s∈A,Bd s) (hn:∀s∈A,s.aM≤s.aD):Canon (lj A)∧∀x,uE (lj A) x↔uE A x:=by
 have p:=IB A
 have asc:=Ly A
 have inp:∀x,uE (jB A) x↔uE A x:=fun x=>⟨fun ⟨s,a,b⟩=>⟨s,p.subset a,b⟩,fun ⟨s,a,b⟩=>⟨s,p.symm.subset a,b⟩⟩
 have Sm:∀s∈jB A,Bd s:=fun s q=>hd s (p.subset q)
 have I4:∀s∈jB A,s.aM≤s.aD:=fun s q=>hn s (p.subset q)
 unfold lj
 generalize jB A=S at asc inp Sm I4
 cases S with
 | nil=>exact ⟨.nil,inp⟩
 | cons c R=>
   obtain ⟨a1,a2⟩:=List.pairwise_cons.1 asc
   have e:mN (c::R) (c::R).length 0 []=MX c R:=by
    show mN (c::R) (R.length+1) 0 []=_
    rw[mN]
    show (bif decide ((0:Int)≤(([]:List Span).length:Int) - 1) then _ else _)=_
    rw[decide_eq_false (by simp),ar]
    exact Qk (c::R) R.length 1 [] c (by simp only[List.length_cons];omega) (fun s q=>Sm s (List.mem_cons_of_mem _ q)) (Sm c (List.mem_cons_self ..))
   rw[e]
   obtain ⟨j1,j2,_⟩:=zH (l:=R) (c:=c) (I4 c (List.mem_cons_self ..)) (fun s q=>I4 s (List.mem_cons_of_mem _ q)) a1 a2
   refine ⟨j1,fun x=>?_⟩
   rw[j2,←inp,dI]
def Ul:Code:=(Try.f26.body).getD .skip
theorem ad4:Try.f26.body=some Ul:=by kernel_rfl
theorem ad5 {d:Nat} {h:au} (cj:Tidy h) (q:aw) (n:Int) {lv rv:AV} (hq:az.ok h q) (hl:AV.scalar lv=true) (hr:AV.scalar rv=true):
 ∃bq bl bm br hk,dw (d+2) (.fn 26) [.agg (az.c q),lv,Zi n,rv] h= .ret (.func 44 [] [Pt bq,Pt bm,Pt br,Pt bl]) hk∧Tidy hk∧h.nx≤hk.nx∧Has h hk∧hk.get bq=some (.cells (az.c q) 26 false)∧hk.get bl=some (.cells [lv] 27 false)∧hk.get bm=some (.cells [Zi n] 3 false)∧hk.get br=some (.cells [rv] 69 false)∧(h.nx≤bq∧bq<bl∧bl<bm∧bm<br∧br<hk.nx):=by
 obtain ⟨h1,b9,cL,kt,aO,cz⟩:=jS cj (aR.cells [(AV.str q.name),(Zi q.ai),(Zi q.af),(Zi q.aH),(Zi q.aJ),(Zi q.bad),q.aA] 26 false)
 have bQ:Has h h1:=cz
 obtain ⟨h2,nH,iH,Du,fN,gv⟩:=jS cL (aR.cells [lv] 27 false)
 have im:Has h h2:=bQ.trans gv
 obtain ⟨h3,F7,hQ,Xt,xL,hD⟩:=jS iH (aR.cells [(Zi n)] 3 false)
 have jq:Has h h3:=im.trans hD
 obtain ⟨h4,ad6,A4,ads,Xu,Um⟩:=jS hQ (aR.cells [rv] 69 false)
 have DB:Has h h4:=jq.trans Um
 exact ⟨_,_,_,_,_,om rfl (bu Try.func26 ad4 rfl (.inr rfl) (pk (d+1) _ _ h _ h4 (NN b9 (fun i=>(Pt i))<|AA (.a (aR.cells [lv] 27 false) (Pt h1.nx) h2)<|HH nH<|HH (show ∃mk:Nat→AV,some (aR.cells (AV.cells lv) 27 false,fun i=>AV.ptr i 0)=some (aR.cells [lv] 27 false,mk)∧mk h1.nx=(Pt h1.nx) from ⟨_,(by rw[uA hl]),rfl⟩)<|NN F7 (fun i=>(Pt i))<|AA (.a (aR.cells [rv] 69 false) (Pt h3.nx) h4)<|HH ad6<|HH (show ∃mk:Nat→AV,some (aR.cells (AV.cells rv) 69 false,fun i=>AV.ptr i 0)=some (aR.cells [rv] 69 false,mk)∧mk h3.nx=(Pt h3.nx) from ⟨_,(by rw[uA hr]),rfl⟩)<|CN 3<|ZZ) k!) k!) (fun q=>by cases q.2),A4,by omega,DB,Um _ _ (hD _ _ (gv _ _ aO)),Um _ _ (hD _ _ fN),Um _ _ xL,Xu,by omega,by omega,by omega,by omega,by omega⟩
def lR:Code:=(Try.f35.body).getD .skip
theorem ad7:Try.f35.body=some lR:=by kernel_rfl
def lE:Code:=(cX lR).getD 0 .skip
theorem Ql {d:Nat} {h hh:au} {t s0:Int} {bs bt lp:Nat} {z cv:AV} {L:List Span} {G:List Gate} (x:Nat→AV) (cj:Tidy h) (bN:Has h hh) (nJ:h.nx≤hh.nx) (a_:Tidy hh) (hG:aQ hh cv G) (oz:ba h hh z L) (hL:L.length≤100000) (gs:hh.get bs=some (.cells [z] 34 false)) (gt:hh.get bt=some (.cells [Zi t] 3 false)) (Qm:bA z bs) (VG:bA z bt) (hb:h.nx≤bs) (ne:bs≠bt) (w1:0≤bz G (fun y=>eJ y t)) (w2:bz G (fun y=>eJ y t)<(G.length:Int)):
 ∃iN z' h',Ev env (dw (d+8)) lE ⟨rx x 0 5 ((Pt bt)::(x 6)::(Pt bs)::(x 8)::cv::rx x 10 8 ((AV.int .u64 s0)::cv::rx x 20 8 [])),hh,[],.pT lp⟩ .normal ⟨iN,h',[],.pT lp⟩∧Tidy h'∧hh.nx≤h'.nx∧Has h h'∧ba h h' z' (L++[iV G t])∧h'.get bs=some (.cells [z'] 34 false)∧h'.get bt=some (.cells [Zi t] 3 false)∧bA z' bs∧bA z' bt∧(∀k w,k≠bs→bA z k→hh.get k=some w→h'.get k=some w)∧∀k,k<hh.nx→bA z k→bA z' k:=by
 have T_s:=a_ _ _ gs
 have T_t:=a_ _ _ gt
 have RV:∀y∈L,az.ok hh y:=fun _ _=>trivial
 have Ug:aQ hh z L:=ba.rows oz o! RV
 have k1:=X5 (d:=d+5) G t hG (by first | omega | assumption | (simp only[List.length_set,List.length_replicate,List.length_append,List.length_cons,List.length_nil,List.nil_append]<;>omega) | (rw[List.length_take];omega)) (by first | omega | assumption | (simp only[List.length_set,List.length_replicate,List.length_append,List.length_cons,List.length_nil,List.nil_append]<;>omega) | (rw[List.length_take];omega)) a_
 obtain ⟨h2,nH,iH,Du,fN,gv⟩:=jS a_ (aR.cells [(Zi (iV G t).aM),(Zi (iV G t).aD)] 23 false)
 have im:Has h h2:=bN.trans gv
 have Un:Has hh h2:=gv
 obtain ⟨z4,h3,abt,hQ,uJ,ad8,YO,Qo,J9⟩:=ba.HL (tys:= #[34,34]) (l:=L) (m:=[(iV G t)]) (x:=(AV.slice hh.nx 0 1 1 false)) iH cj im o! (ba.has oz Un) rfl (pc (x:=(iV G t)) fN) (by simp [az.c,Span.c,AV.scalar]) (by first | omega | (simp<;>omega)) rfl rfl k! k! (bytes:=16) k! (z0:=(AV.agg [(Zi 0),(Zi 0)])) k! rfl (by decide)
 have jq:Has h h3:=ad8
 have abu:∀y∈(L++[(iV G t)]),az.ok h3 y:=cR (D:=Span) (nE (cR (D:=Span) (h':=h2) RV) (ok_one (h:=h2) trivial))
 have sc7:AV.scalar z4=true:=aQ.scalar (ba.rows YO (by simp;omega) abu)
 obtain ⟨h6,ad9,js,Lm,vW,J_⟩:=W7 (t:=34) (i:=bs) (o:=0) (v:=z4) (N:=[z4]) hQ (Qo _ _ Qm (gv _ _ gs)) k! sc7 k! k!
 have mV:Has h h6:=Has.bG jq J_ cj o!
 have Qp:ba h h6 z4 (L++[(iV G t)]):=ba.kept YO J_ (J9 _ (iH _ _ (gv _ _ gs)) Qm)
 have c8:AV.same 20 z z=true:=Ug.same 19
 have ev:=W9 (.pT lp) (d+8) lE (rx x 0 5 ((Pt bt)::(x 6)::(Pt bs)::(x 8)::cv::rx x 10 8 ((AV.int .u64 s0)::cv::rx x 20 8 []))) hh .normal h6 (MM (aL 34 0 z gs k!)<|CC<|MM (aL 3 0 (Zi t) gt k!)<|EE k1<|NN nH (fun i=>(AV.slice i 0 1 1 false))<|PP (show bf env h2 #[34,34] z (AV.slice hh.nx 0 1 1 false)=some (z4,h3) from abt)<|SS ad9<|HH (aL 34 0 z gs k!)<|HH c8<|HH (aL 34 0 z (gv _ _ gs) k!)<|HH c8<|HH (aL 3 0 (Zi t) gt k!)<|HH (show AV.same 20 (Zi t) (Zi t)=true from aN 19 _ _)<|HH (show ∃o,h2.get hh.nx=some o∧aR.same o (aR.cells [(Zi (iV G t).aM),(Zi (iV G t).aD)] 23 false)=true from ⟨_,fN,by simp [aR.same,cg,AV.same]⟩)<|ZZ) k!
 exact ⟨_,z4,_,ev,js,by omega,mV,Qp,vW,J_ _ _ o! (Qo _ _ VG (gv _ _ gt)),J9 _ o! Qm,J9 _ o! VG,fun k w c n e=>J_ _ _ c (Qo _ _ n (gv _ _ e)),fun k c n=>J9 k o! n⟩
def pK:Code:=PY lR
def ri (x:Nat→AV) (bt bs:Nat):List AV:=rx x 0 5 ((AV.ptr bt 0)::(x 6)::(AV.ptr bs 0)::rx x 8 20 [])
theorem Ya {d:Nat} (x:Nat→AV) (bt bs lp:Nat) (s0:Int) (cv:AV) (h:au):
 Ev env (dw (d+8)) pK ⟨rx x 0 5 ((AV.ptr bt 0)::(x 6)::(AV.ptr bs 0)::rx x 8 10 ((AV.int .u64 s0)::cv::rx x 20 8 [])),h,[],.pT lp⟩ .normal ⟨rx x 0 5 ((AV.ptr bt 0)::(x 6)::(AV.ptr bs 0)::(x 8)::cv::rx x 10 8 ((AV.int .u64 s0)::cv::rx x 20 8 [])),h,[],.pT lp⟩:=by
 have ev:=W9 (.pT lp) (d+8) pK (rx x 0 5 ((AV.ptr bt 0)::(x 6)::(AV.ptr bs 0)::rx x 8 10 ((AV.int .u64 s0)::cv::rx x 20 8 []))) h .normal h (CC<|ZZ) (by kernel_rfl)
 exact An (by kernel_rfl) ev
theorem Yb (x:Nat→AV) (bt bs:Nat) (a c:AV):([18,19].zip [a,c]).foldl (fun ts y=>ts.set y.1 y.2) (ri x bt bs)=rx x 0 5 ((AV.ptr bt 0)::(x 6)::(AV.ptr bs 0)::rx x 8 10 (a::c::rx x 20 8 [])):=by kernel_rfl
def abv (t:Int) (hk:au) (a:List AV) (y:Int×List Gate):Prop:=∃cv,a=[.int .u64 y.1,cv]∧aQ hk cv y.2∧0≤bz y.2 (fun y=>eJ y t)∧bz y.2 (fun y=>eJ y t)<(y.2.length:Int)
def PoI (e:au) (t:Int) (bs bt lp:Nat) (x:Nat→AV) (dn:Nat) (L:List (Int×List Gate)) (P:Nat→Prop) (hh:au):Prop:=
 L.length≤1000∧∃z,ba e hh z (L.map fun y=>iV y.2 t)∧e.nx≤hh.nx∧lp<hh.nx∧hh.get bs=some (.cells [z] 34 false)∧hh.get bt=some (.cells [Zi t] 3 false)∧hh.get lp=some (.loop .ready none (ri x bt bs) [18,19] pK lE dn)∧bA z bs∧bA z bt∧bA z lp∧(∀k,¬bA z k→e.nx≤k∧k<hh.nx)∧∀k,P k↔(k=bs∨k=bt∨k=lp∨¬bA z k)
theorem aQ.abw {α:Type} [az α] [Flat α] {h h':au} {v:AV} {l:List α} (x:aQ h v l) (k:∀p C f ro,h.get p=some (.cells C f ro)→h'.get p=some (.cells C f ro)):aQ h' v l:=
 ⟨⟨x.at_.size,x.at_.cells,x.at_.small,x.at_.lens,x.at_.block.imp id fun ⟨p,o,m,c,b,C,f,ro,h1,h2,h3,h4⟩=>⟨p,o,m,c,b,C,f,ro,h1,h2,k _ _ _ _ h3,h4⟩⟩,x.known,fun y hy=>Flat.free (x.Dp y hy)⟩
theorem abx {d:Nat} {e:au} {t:Int} {bs bt lp:Nat} (x:Nat→AV) (dn:Nat) (he:∀k,e.get k=none) (eb:e.nx≤bs) (bb:bs≠bt) (lb:bs<lp∧bt<lp∧e.nx≤lp):YlH (dw (d+9)) lp (abv t) (PoI e t bs bt lp x dn) where
 aM:=by
  rintro L P hh ⟨hL,z,oz,en,lx,gs,gt,gp,n1,n2,n3,zl,pp⟩ k hk
  rcases (pp k).1 hk with p | p | p | p
  · omega
  · omega
  · omega
  · exact (zl k p).2
 stay:=by
  rintro L P hh hk ⟨hL,z,oz,en,lx,gs,gt,gp,n1,n2,n3,zl,pp⟩ yk nk kp
  have K:∀k w,k=bs∨k=bt∨k=lp∨¬bA z k→hh.get k=some w→hk.get k=some w:=fun k w c q=>kp k w ((pp k).2 c) q
  refine ⟨hL,z,?_,by omega,by omega,K _ _ (by simp) gs,K _ _ (by simp) gt,K _ _ (by simp) gp,n1,n2,n3,fun k c=>⟨(zl k c).1,by have:=(zl k c).2;omega⟩,pp⟩
  rcases oz with ⟨rfl | ⟨p,rfl,h1,h2⟩,hl⟩ | ⟨hn,p,op,rfl,hp,hg⟩
  · exact .inl ⟨.inl rfl,hl⟩
  · exact .inl ⟨.inr ⟨p,rfl,h1,K _ _ (.inr (.inr (.inr fun q=>q _ _ _ _ rfl))) h2⟩,hl⟩
  · exact .inr ⟨hn,p,op,rfl,hp,K _ _ (.inr (.inr (.inr fun q=>q _ _ _ _ rfl))) hg⟩
 next:=by
  rintro L a y P hh hLL ⟨cv,rfl,hG,w1,w2⟩ ⟨hL,z,oz,en,lx,gs,gt,gp,n1,n2,n3,zl,pp⟩ a_
  have T1:=a_ _ _ gp
  have T2:=a_ _ _ gs
  have T3:=a_ _ _ gt
  have c1:=lM (o:= .loop .busy none (ri x bt bs) [18,19] pK lE dn) a_ gp
  have oz1:ba e (hh.put lp (some (.loop .busy none (ri x bt bs) [18,19] pK lE dn))) z (L.map fun y=>iV y.2 t):=ba.Tv oz c1 n3
  have hG1:=hG.abw (h':=hh.put lp (some (.loop .busy none (ri x bt bs) [18,19] pK lE dn))) fun p C f ro g=>c1.2.2 _ _ (fun c=>by rw[c,gp] at g;cases g) g
  obtain ⟨iN,z',h2,ev,y2,n2',a2,oz2,gs2,gt2,ni1,ni2,k2,np2⟩:=Ql (d:=d) (h:=e) (hh:=hh.put lp (some (.loop .busy none (ri x bt bs) [18,19] pK lE dn))) (L:=L.map fun y=>iV y.2 t) (s0:=y.1) (lp:=lp) x (fun i w g=>by rw[he] at g;cases g) (fun i w g=>by rw[he] at g;cases g) en c1.1 hG1 oz1 (by rw[List.length_map];omega) (c1.2.2 _ _ o! gs) (c1.2.2 _ _ o! gt) n1 n2 eb bb w1 w2
  have gl2:=k2 _ _ o! n3 c1.2.1
  have q:=HF (d:=d+8) (args:=[.int .u64 y.1,cv]) (jump:=none) gp rfl ((Yb x bt bs (.int .u64 y.1) cv)▸Ya x bt bs lp y.1 cv hh) gp ev (.inl ⟨rfl,rfl⟩) gl2
  have c3:=lM (o:= .loop .ready none (ri x bt bs) [18,19] pK lE dn) y2 gl2
  have ni3:bA z' lp:=np2 lp (by show lp<hh.nx;omega) n3
  refine ⟨_,fun k=>k=bs∨k=bt∨k=lp∨¬bA z' k,q,c3.1,n2',⟨by rw[List.length_append,List.length_singleton];omega,z',?_,Nat.le_trans en n2',Nat.lt_of_lt_of_le lx n2',c3.2.2 _ _ o! gs2,c3.2.2 _ _ o! gt2,c3.2.1,ni1,ni2,ni3,fun k c=>⟨?_,?_⟩,fun _=>Iff.rfl⟩,fun k p=>?_,fun k w n g=>?_⟩
  · rw[List.map_append];exact ba.Tv oz2 c3 ni3
  · exact Decidable.byContradiction fun h=>c (oz2.Tw o!)
  · exact Decidable.byContradiction fun h=>c (oz2.BS y2 (by show h2.nx≤k;exact Nat.le_of_not_lt h))
  · by_cases hk:k<hh.nx
    · refine .inl ((pp k).2 ?_)
      rcases p with p | p | p | p
      · exact .inl p
      · exact .inr (.inl p)
      · exact .inr (.inr (.inl p))
      · exact .inr (.inr (.inr fun c=>p (np2 k hk c)))
    · exact .inr o!
  · have nn:¬(k=bs∨k=bt∨k=lp∨¬bA z k):=fun c=>n ((pp k).2 c)
    have e1:k≠lp:=fun c=>nn (.inr (.inr (.inl c)))
    exact c3.2.2 _ _ e1 (k2 _ _ (fun c=>nn (.inl c)) (Classical.byContradiction fun c=>nn (.inr (.inr (.inr c)))) (c1.2.2 _ _ e1 g))
theorem xj {α:Type} [az α] (inj:∀a b:α,az.c a=az.c b→a=b):∀l l':List α,l.length=l'.length→l.flatMap az.c=l'.flatMap az.c→l=l'
 | [],[],_,_=>rfl
 | a::l,b::l',hl,h=>by
   rw[List.flatMap_cons,List.flatMap_cons] at h
   obtain ⟨h1,h2⟩:=List.append_inj h (by rw[az.len,az.len])
   rw[inj a b h1,xj inj l l' (by simpa using hl) h2]
theorem ba.same {α:Type} [az α] (inj:∀a b:α,az.c a=az.c b→a=b) {h0 h h':au} {z:AV} {l l':List α} (o:ba h0 h z l) (o':ba h0 h' z l') (A:Has h h'):l'=l:=by
 rcases o with ⟨e,rfl⟩ | ⟨hn,p,op,e,hp,hg⟩<;>rcases o' with ⟨e',rfl⟩ | ⟨V4,p',op',e',Wk,hg'⟩
 · rfl
 · exfalso
   have:0<l'.length:=List.length_pos_iff.2 V4
   rcases e with rfl | ⟨q,rfl,_⟩
   · cases e'
   · have:=(AV.slice.inj e').2.2.1;omega
 · exfalso
   have:0<l.length:=List.length_pos_iff.2 hn
   rcases e' with rfl | ⟨q,rfl,_⟩
   · cases e
   · have:=(AV.slice.inj e).2.2.1;omega
 · rw[e] at e'
   have i:=AV.slice.inj e'
   have q:=A _ _ hg
   rw[i.1,hg'] at q
   exact xj inj _ _ i.2.2.1.symm (aR.cells.inj (Option.some.inj q)).1
theorem Qq (a b:Span) (h:az.c a=az.c b):a=b:=by
 cases a;cases b
 have h1:=(List.cons.inj h).1
 have h2:=(List.cons.inj (List.cons.inj h).2).1
 have e1:=(AV.int.inj h1).2
 have e2:=(AV.int.inj h2).2
 simp_all
theorem Uo {e:au} {t:Int} {bs bt lp:Nat} {x:Nat→AV} {dn:Nat} {L L':List (Int×List Gate)} {P P':Nat→Prop} {hh hk:au} (a:PoI e t bs bt lp x dn L P hh) (a':PoI e t bs bt lp x dn L' P' hk) (A:Has hh hk):PoI e t bs bt lp x dn L' P hh:=by
 obtain ⟨hL,z,oz,en,lx,gs,w⟩:=a
 obtain ⟨hL',z',oz',en',lx',gs',w'⟩:=a'
 have q:=A _ _ gs
 rw[gs'] at q
 have ez:z'=z:=(List.cons.inj (aR.cells.inj (Option.some.inj q)).1).1
 subst ez
 have el:=ba.same Qq oz oz' A
 exact ⟨hL',z',by rw[el];exact oz,en,lx,gs,w⟩
theorem rU (n:Nat):∃e:au,e.nx=n∧∀k,e.get k=none:=⟨⟨HT.nil,n,fun _=>none⟩,rfl,fun k=>Go.Ab.Jt k n⟩
def VH:Code:=YR lR
def VI:Code:=YR (X3 lR)
def VJ:Code:=YR (YR (X3 (X3 lR)))
def Qs:Code:=X3 (X3 (X3 lR))
theorem Qt:lR= .seq VH (.seq VI (.seq (.seq VJ (.block 0 (.rangeFunc (.tmp 17) #[18,19] pK lE))) Qs)):=by kernel_rfl
theorem Yc {d:Nat} {h:au} {q:aw} {lv:AV} {l:List aB} {t:Int} (cj:Tidy h) (hq:az.ok h q) (hl:aQ h lv l) (Ej:l.length≤12) (hq8:q.ao.length≤8) (WX:∀k,k<l.length→0≤(l.g k).aC∧(l.g k).aC<(q.ao.length:Int))
 (hx:∀{s0:Int} {w:List Gate},cZ q l [aX t] s0=some w→sD q l [aX t] s0=w.length∧0≤bz w (fun y=>eJ y t)∧bz w (fun y=>eJ y t)<(w.length:Int)∧w.length<1000):
 ∃(x:Nat→AV) (bt bs c:Nat) (z:AV) (hk e:au),Tidy hk∧h.nx≤hk.nx∧Has h hk∧hk.get bs=some (.cells [z] 34 false)∧ba e hk z ((jj q l [aX t] q.bad).map fun y=>iV y.2 t)∧e.nx=h.nx∧hk.get c=some .tJ∧c≠bs∧h.nx≤c∧h.nx≤bs∧(jj q l [aX t] q.bad).length≤1000∧∀{ex:gR} {s':St},Ev env (dw (d+12)) Qs ⟨ri x bt bs,hk,[.MI c],.no⟩ ex s'→Ev env (dw (d+12)) lR ⟨((AV.agg [(AV.str q.name),(AV.int .i64 q.ai),(AV.int .i64 q.af),(AV.int .i64 q.aH),(AV.int .i64 q.aJ),(AV.int .i64 q.bad),q.aA])::lv::(AV.int .i64 t)::ka 25),h,[],.no⟩ ex s':=by
 obtain ⟨h1,b9,cL,kt,aO,cz⟩:=jS cj (aR.cells [(AV.str q.name),(AV.int .i64 q.ai),(AV.int .i64 q.af),(AV.int .i64 q.aH),(AV.int .i64 q.aJ),(AV.int .i64 q.bad),q.aA] 26 false)
 have bQ:Has h h1:=cz
 obtain ⟨h2,nH,iH,Du,fN,gv⟩:=jS cL (aR.cells [(AV.int .i64 t)] 3 false)
 have im:Has h h2:=bQ.trans gv
 have ev0:=pk (d+12) VH ((AV.agg [(AV.str q.name),(AV.int .i64 q.ai),(AV.int .i64 q.af),(AV.int .i64 q.aH),(AV.int .i64 q.aJ),(AV.int .i64 q.bad),q.aA])::lv::(AV.int .i64 t)::ka 25) h .normal h2 (NN b9 (fun i=>(AV.ptr i 0))<|NN nH (fun i=>(AV.ptr i 0))<|CC<|ZZ) (by kernel_rfl)
 obtain ⟨h3,F7,hQ,Xt,xL,hD⟩:=jS iH (aR.cells [AV.aI] 34 false)
 have jq:Has h h3:=im.trans hD
 have ev1:=pk (d+12) VI ((AV.agg [(AV.str q.name),(AV.int .i64 q.ai),(AV.int .i64 q.af),(AV.int .i64 q.aH),(AV.int .i64 q.aJ),(AV.int .i64 q.bad),q.aA])::lv::(AV.int .i64 t)::(AV.ptr h.nx 0)::AV.undef::(AV.ptr h1.nx 0)::AV.aI::ka 21) h2 .normal h3 (NN F7 (fun i=>(AV.ptr i 0))<|ZZ) (by kernel_rfl)
 have k4:=vc (d:=d+11) t hQ
 obtain ⟨h5,aeb,FT,afU,aby,Qu⟩:=jS hQ (aR.cells [(AV.int .i64 (aX t).time),(AV.int .i64 (aX t).aj),(AV.int .i64 (aX t).ah)] 66 false)
 have tq:Has h h5:=jq.trans Qu
 obtain ⟨bq7,bl8,bm9,abz,h6,si,js,abA,j0,VK,abB,abC,Yd,afV⟩:=ad5 (d:=d+10) FT q q.bad (lv:=lv) (rv:=(AV.slice h3.nx 0 1 1 false)) (az.mono tq hq) hl.scalar (by rfl)
 have mV:Has h h6:=tq.trans j0
 have c11:AV.same 20 (AV.agg [(AV.str q.name),(AV.int .i64 q.ai),(AV.int .i64 q.af),(AV.int .i64 q.aH),(AV.int .i64 q.aJ),(AV.int .i64 q.bad),q.aA]) (AV.agg [(AV.str q.name),(AV.int .i64 q.ai),(AV.int .i64 q.af),(AV.int .i64 q.aH),(AV.int .i64 q.aJ),(AV.int .i64 q.bad),q.aA])=true:=ja 18 (sx (fun n=>zi n _) (sx (fun n=>aN n _ _) (sx (fun n=>aN n _ _) (sx (fun n=>aN n _ _) (sx (fun n=>aN n _ _) (sx (fun n=>aN n _ _) (sx hq.2.same RR)))))))
 have ev2:=pk (d+12) VJ ((AV.agg [(AV.str q.name),(AV.int .i64 q.ai),(AV.int .i64 q.af),(AV.int .i64 q.aH),(AV.int .i64 q.aJ),(AV.int .i64 q.bad),q.aA])::lv::(AV.int .i64 t)::(AV.ptr h.nx 0)::AV.undef::(AV.ptr h1.nx 0)::AV.aI::(AV.ptr h2.nx 0)::ka 20) h3 .normal h6 (MM (aL 26 0 (AV.agg [(AV.str q.name),(AV.int .i64 q.ai),(AV.int .i64 q.af),(AV.int .i64 q.aH),(AV.int .i64 q.aJ),(AV.int .i64 q.bad),q.aA]) (hD _ _ (gv _ _ aO)) (by kernel_rfl))<|CN 2<|MM (aL 3 5 (AV.int .i64 q.bad) (hD _ _ (gv _ _ aO)) (by kernel_rfl))<|MM (aL 3 0 (AV.int .i64 t) (hD _ _ fN) (by kernel_rfl))<|EE k4<|NN aeb (fun i=>(AV.slice i 0 1 1 false))<|EE si<|HH (aL 26 0 (AV.agg [(AV.str q.name),(AV.int .i64 q.ai),(AV.int .i64 q.af),(AV.int .i64 q.aH),(AV.int .i64 q.aJ),(AV.int .i64 q.bad),q.aA]) (hD _ _ (gv _ _ aO)) (by kernel_rfl))<|HH c11<|HH (aL 26 0 (AV.agg [(AV.str q.name),(AV.int .i64 q.ai),(AV.int .i64 q.af),(AV.int .i64 q.aH),(AV.int .i64 q.aJ),(AV.int .i64 q.bad),q.aA]) (Qu _ _ (hD _ _ (gv _ _ aO))) (by kernel_rfl))<|HH c11<|HH (aL 3 5 (AV.int .i64 q.bad) (hD _ _ (gv _ _ aO)) (by kernel_rfl))<|HH (show AV.same 20 (AV.int .i64 q.bad) (AV.int .i64 q.bad)=true from aN 19 _ _)<|HH (aL 3 5 (AV.int .i64 q.bad) (Qu _ _ (hD _ _ (gv _ _ aO))) (by kernel_rfl))<|HH (show AV.same 20 (AV.int .i64 q.bad) (AV.int .i64 q.bad)=true from aN 19 _ _)<|HH (aL 3 0 (AV.int .i64 t) (hD _ _ fN) (by kernel_rfl))<|HH (show AV.same 20 (AV.int .i64 t) (AV.int .i64 t)=true from aN 19 _ _)<|HH (show ∃o,h5.get h3.nx=some o∧aR.same o (aR.cells [(AV.int .i64 (aX t).time),(AV.int .i64 (aX t).aj),(AV.int .i64 (aX t).ah)] 66 false)=true from ⟨_,aby,by simp [aR.same,cg,AV.same]⟩)<|ZZ) (by kernel_rfl)
 have T1:=js _ _ VK
 obtain ⟨e,en,he⟩:=rU h.nx
 obtain ⟨h7,n7⟩:=kr (h:=h6) .tJ
 have y7:=fM js n7
 have x7:=kq n7
 let TS:List AV:=((AV.agg [(AV.str q.name),(AV.int .i64 q.ai),(AV.int .i64 q.af),(AV.int .i64 q.aH),(AV.int .i64 q.aJ),(AV.int .i64 q.bad),q.aA])::lv::(AV.int .i64 t)::(AV.ptr h.nx 0)::AV.undef::(AV.ptr h1.nx 0)::AV.aI::(AV.ptr h2.nx 0)::AV.undef::AV.undef::(AV.agg [(AV.str q.name),(AV.int .i64 q.ai),(AV.int .i64 q.af),(AV.int .i64 q.aH),(AV.int .i64 q.aJ),(AV.int .i64 q.bad),q.aA])::lv::(AV.ptr h.nx 5)::(AV.int .i64 q.bad)::(AV.int .i64 t)::(AV.agg [(AV.int .i64 (aX t).time),(AV.int .i64 (aX t).aj),(AV.int .i64 (aX t).ah)])::(AV.slice h3.nx 0 1 1 false)::(AV.func 44 [] [(AV.ptr bq7 0),(AV.ptr bm9 0),(AV.ptr abz 0),(AV.ptr bl8 0)])::ka 10)
 have eTS:TS=ri (fun k=>TS.getD k .undef) h1.nx h2.nx:=by kernel_rfl
 obtain ⟨h8,n8⟩:=kr (h:=h7) (.loop .ready none TS (#[18,19]:Array Tmp).toList pK lE h6.nx)
 have y8:=fM y7 n8
 have x8:=kq n8
 have K8:∀k w,h6.get k=some w→h8.get k=some w:=fun k w c=>eZ y7 n8 (eZ js n7 c)
 have hi:PoI e t h2.nx h1.nx h7.nx (fun k=>TS.getD k .undef) h6.nx [] (fun k=>k=h2.nx∨k=h1.nx∨k=h7.nx∨¬bA AV.aI k) h8:=
  ⟨by simp,.aI,.inl ⟨.inl rfl,rfl⟩,by omega,by omega,K8 _ _ (j0 _ _ (Qu _ _ xL)),K8 _ _ (j0 _ _ (Qu _ _ (hD _ _ fN))),by rw[←eTS];exact iD n8,bA.nil _,bA.nil _,bA.nil _,fun k c=>absurd (bA.nil k) c,fun _=>Iff.rfl⟩
 have yl:=abx (d:=d) (e:=e) (t:=t) (bs:=h2.nx) (bt:=h1.nx) (lp:=h7.nx) (fun k=>TS.getD k .undef) h6.nx he o! o! o!
 obtain ⟨e0,e0n,_⟩:=rU 0
 let g0:au:=(h5.put h1.nx none).put h2.nx none
 have gg:∀k w,g0.get k=some w→h5.get k=some w∧k≠h1.nx∧k≠h2.nx:=fun k w c=>by
  have c:((h5.put h1.nx none).put h2.nx none).get k=some w:=c
  by_cases c2:k=h2.nx
  · subst c2;rw[au.bF] at c;cases c
  · rw[au.aY (Ne.symm c2)] at c
    by_cases c1:k=h1.nx
    · subst c1;rw[au.bF] at c;cases c
    · rw[au.aY (Ne.symm c1)] at c;exact ⟨c,c1,c2⟩
 have gk:∀k w,k≠h1.nx→k≠h2.nx→h5.get k=some w→g0.get k=some w:=fun k w c1 c2 c=>by
  show ((h5.put h1.nx none).put h2.nx none).get k=some w
  rw[au.aY (Ne.symm c2),au.aY (Ne.symm c1)];exact c
 have y0:Tidy g0:=fun k w c=>FT _ _ (gg k w c).1
 have a0:Has h g0:=fun k w c=>by
  have:=cj _ _ c
  exact gk k w o! o! (tq _ _ c)
 have hr0:aQ g0 (AV.slice h3.nx 0 1 1 false) [aX t]:=ba.rows (h0:=h) (.inr ⟨by simp,h3.nx,false,rfl,by omega,gk _ _ o! o! aby⟩) (by simp) (fun _ _=>trivial)
 have a8:Has g0 h8:=fun k w c=>K8 _ _ (j0 _ _ (gg k w c).1)
 have gn:∀k,k=h1.nx∨k=h2.nx→g0.get k=none:=fun k c=>by
  cases c3:g0.get k with
  | none=>rfl
  | some w=>have:=gg k w c3;omega
 obtain ⟨h9,P9,e9,y9,x9,i9,p9,l9⟩:=aa4 (d:=d+1) (g:=g0) (h:=h8) (q:=q) (l:=l) (r:=[aX t]) (m:=q.bad) (lv:=lv) (rv:=(AV.slice h3.nx 0 1 1 false)) (b:=h7.nx) (bq:=bq7) (bm:=bm9) (br:=abz) (bl:=bl8) y0 (az.mono a0 hq) (hl.has a0) hr0 Ej (by simp) hq8 WX o! (show h5.nx≤bq7 by omega) y8 a8 (show h5.nx≤h8.nx by omega) (K8 _ _ VK) (K8 _ _ abC) (K8 _ _ Yd) (K8 _ _ abB) yl (fun a b c=>Uo a b c) (fun {s0 w hk p op} ht hg=>⟨_,rfl,by
  obtain ⟨c1,c2,c3,c4⟩:=hx ht
  rw[c1]
  exact ba.rows (h0:=e0) (.inr ⟨fun c=>by have c:w=[]:=c;subst c;simp at c3;omega,p,op,rfl,by omega,hg⟩) (show w.length<2^60 by omega) (fun _ _=>trivial),(hx ht).2.1,(hx ht).2.2.1⟩) hi (fun k c=>by
  rcases c with c | c | c | c
  · exact ⟨gn k (.inr c),by omega⟩
  · exact ⟨gn k (.inl c),by omega⟩
  · exact ⟨yg y0 (show h5.nx≤k by omega),by omega⟩
  · exact absurd (bA.nil k) c)
 obtain ⟨hL,z,oz,en9,lx,gs9,gt9,gp9,n1,n2,n3,zl,pp⟩:=i9
 have er:=FG (E:=env) (call:=dw (d+12)) (ts:=TS) (ds:=[]) (f:= .tmp 17) (ps:= #[18,19]) (aS:=pK) (bd:=lE) (e:= .normal) rfl n7 n8 e9 gp9 (by intro c;cases c) rfl
 have c10:=lM (o:= .loop .exhausted none (ri (fun k=>TS.getD k .undef) h1.nx h2.nx) [18,19] pK lE h6.nx) y9 gp9
 have np:∀k,k<h1.nx∨k=h6.nx→¬(k=h2.nx∨k=h1.nx∨k=h7.nx∨¬bA AV.aI k):=by
  rintro k c (p | p | p | p)
  · omega
  · omega
  · omega
  · exact p (bA.nil k)
 have a9:Has h h9:=fun k w c=>l9 _ _ (np k (.inl (by have:=cj _ _ c;omega))) (K8 _ _ (mV _ _ c))
 have gd:h9.get h6.nx=some .tJ:=l9 _ _ (np _ (.inr rfl)) (eZ y7 n8 (iD n7))
 refine ⟨fun k=>TS.getD k .undef,h1.nx,h2.nx,h6.nx,z,_,e,c10.1,(show h.nx≤h9.nx by omega),fun k w c=>c10.2.2 _ _ (by have:=cj _ _ c;omega) (a9 _ _ c),c10.2.2 _ _ o! gs9,ba.Tv oz c10 n3,en,c10.2.2 _ _ o! gd,by omega,by omega,by omega,hL,fun {ex s'} ev5=>?_⟩
 rw[←eTS] at ev5
 rw[Qt]
 exact Ev.seq (An (L':=((AV.agg [(AV.str q.name),(AV.int .i64 q.ai),(AV.int .i64 q.af),(AV.int .i64 q.aH),(AV.int .i64 q.aJ),(AV.int .i64 q.bad),q.aA])::lv::(AV.int .i64 t)::(AV.ptr h.nx 0)::AV.undef::(AV.ptr h1.nx 0)::AV.aI::ka 21)) (by kernel_rfl) ev0) (Ev.seq (An (L':=((AV.agg [(AV.str q.name),(AV.int .i64 q.ai),(AV.int .i64 q.af),(AV.int .i64 q.aH),(AV.int .i64 q.aJ),(AV.int .i64 q.bad),q.aA])::lv::(AV.int .i64 t)::(AV.ptr h.nx 0)::AV.undef::(AV.ptr h1.nx 0)::AV.aI::(AV.ptr h2.nx 0)::ka 20)) (by kernel_rfl) ev1) (Ev.seq (Ev.seq (An (L':=TS) (by kernel_rfl) ev2) (Ev.PZ er)) ev5))
theorem abD {c:Nat} {h:au} (y:Tidy h):Tidy (shut [c] h):=fun k w gw=>by
 rw[rN]
 by_cases e:k=c
 · subst e
   rw[shut,shut,au.bF] at gw;cases gw
 · rw[oo (by simpa using e)] at gw;exact y _ _ gw
theorem ba.move {α:Type} [az α] {g h h':au} {z:AV} {l:List α} (o:ba g h z l) (k:∀p w,g.nx≤p→h.get p=some w→h'.get p=some w):ba g h' z l:=by
 rcases o with ⟨rfl | ⟨p,rfl,hp,hg⟩,rfl⟩ | ⟨hn,p,op,rfl,hp,hg⟩
 · exact .inl ⟨.inl rfl,rfl⟩
 · exact .inl ⟨.inr ⟨p,rfl,hp,k _ _ hp hg⟩,rfl⟩
 · exact .inr ⟨hn,p,op,rfl,hp,k _ _ hp hg⟩
def cO (q:aw) (l:List aB) (t:Int):List Span:=lj ((jj q l [aX t] q.bad).map fun y=>iV y.2 t)
theorem IC {d:Nat} {h:au} {q:aw} {lv:AV} {l:List aB} {t:Int} (cj:Tidy h) (hq:az.ok h q) (hl:aQ h lv l) (Ej:l.length≤12) (hq8:q.ao.length≤8) (WX:∀k,k<l.length→0≤(l.g k).aC∧(l.g k).aC<(q.ao.length:Int))
 (hx:∀{s0:Int} {w:List Gate},cZ q l [aX t] s0=some w→sD q l [aX t] s0=w.length∧0≤bz w (fun y=>eJ y t)∧bz w (fun y=>eJ y t)<(w.length:Int)∧w.length<1000):
 ∃z hk,dw (d+13) (.fn 35) [(AV.agg [(AV.str q.name),(AV.int .i64 q.ai),(AV.int .i64 q.af),(AV.int .i64 q.aH),(AV.int .i64 q.aJ),(AV.int .i64 q.bad),q.aA]),lv,(AV.int .i64 t)] h= .ret z hk∧Tidy hk∧h.nx≤hk.nx∧Has h hk∧ba h hk z (cO q l t):=by
 obtain ⟨x,bt,bs,c,z,h1,e,y1,n1,a1,g1,o1,en,gc,ncb,hc,hb,hlen,go⟩:=Yc (d:=d) cj hq hl Ej hq8 WX hx
 obtain ⟨z2,h2,k2,y2,n2,o2,kp2⟩:=Qi (d:=d+10) y1 o1 (by rw[List.length_map];omega)
 have T1:=y1 _ _ gc
 have nzc:bA z c:=fun o n cc b q=>by
  subst q
  rcases o1 with ⟨q | ⟨p,q,hp,hg⟩,_⟩ | ⟨hn,p,op,q,hp,hg⟩
  · cases q
  · rw[(AV.slice.inj q).1,hg] at gc;cases gc
  · rw[(AV.slice.inj q).1,hg] at gc;cases gc
 have ev5:=pk_ (d+12) Qs (ri x bt bs) h1 [.MI c] .no .ret h2 (MM (aL 34 0 z g1 (by kernel_rfl))<|EE k2<|CC<|ZZ) (by kernel_rfl)
 have ev:=go ev5
 have gc2:=kp2 _ _ nzc gc
 have fn:=OW (args:=[(AV.agg [(AV.str q.name),(AV.int .i64 q.ai),(AV.int .i64 q.af),(AV.int .i64 q.aH),(AV.int .i64 q.aJ),(AV.int .i64 q.bad),q.aA]),lv,(AV.int .i64 t)]) (L:=[c]) (v:=z2) Try.func35 ad7 (by kernel_rfl) (.inr rfl) ev (by simp) (fun k hk=>by rw[List.mem_singleton.1 hk];exact gc2) (by kernel_rfl)
 have nz:∀k,k<h.nx→bA z k:=fun k hk=>o1.Tw o!
 have o3:ba h h2 z2 (cO q l t):=o2.le n1
 obtain ⟨hk,e1,q1⟩:=B_ (P:=fun hk=>Tidy hk∧h.nx≤hk.nx∧Has h hk∧ba h hk z2 (cO q l t)) rfl fn
  ⟨abD y2,by rw[rN];omega,fun k w g=>by
   have:=cj _ _ g
   rw[oo (by simp;omega)];exact kp2 _ _ (nz k this) (a1 _ _ g),(o2.move fun p w hp g=>by rw[oo (by simp;omega)];exact g).le n1⟩
  (fun _ v=>⟨cj,Nat.le_refl _,Has.refl _,ba.JD o3 v⟩)
 exact ⟨z2,hk,e1,q1⟩
end
end Go.Proofs.aK
