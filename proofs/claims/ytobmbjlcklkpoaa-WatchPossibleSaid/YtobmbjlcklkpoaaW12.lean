import Derived.Test.YtobmbjlcklkpoaaW7
import Derived.Test.YtobmbjlcklkpoaaW9
import Derived.Test.YtobmbjlcklkpoaaW11
import Derived.Test.YtobmbjlcklkpoaaW0
import Derived.Test.YtobmbjlcklkpoaaEnv
import Derived.Test.YtobmbjlcklkpoaaW6
import Derived.Test.YtobmbjlcklkpoaaA6
namespace Go.Proofs.aJ
open Go.Proofs Ab
noncomputable section
set_option maxRecDepth 100000
set_option maxHeartbeats 4000000
set_option linter.unusedVariables false
set_option linter.unusedSimpArgs false
def ac3:Bool:=(List.range 256).all fun s=>decide (ji ((s:Nat):Int)=(sz s:Int))
theorem Ta:ac3=true:=by decide+kernel
theorem GO {s:Nat} (h:s<256):ji ((s:Nat):Int)=(sz s:Int):=of_decide_eq_true (List.all_eq_true.1 Ta s (List.mem_range.2 h))
def hasB:Bool:=(List.range 256).all fun s=>(List.range 8).all fun g=>xM ((s:Nat):Int) ((g:Nat):Int)==s.testBit g
theorem WD:hasB=true:=by decide+kernel
theorem Tb {s:Nat} {g:Int} (h:s<256) (g0:0≤g) (g1:g<8):xM ((s:Nat):Int) g=s.testBit g.toNat:=by
 obtain ⟨k,rfl⟩:∃k:Nat,g=k:=⟨g.toNat,by omega⟩
 have:=List.all_eq_true.1 (List.all_eq_true.1 WD s (List.mem_range.2 h)) k (List.mem_range.2 o!)
 simpa using this
theorem GP {n:Nat} (h:n≤8):(eB .u64 1 ((n:Nat):Int)).toNat=2^n:=by
 have:∀n:Nat,n<9→(eB .u64 1 ((n:Nat):Int)).toNat=2^n:=by decide+kernel
 exact this n o!
def yY (q:ay) (l:List aM) (r:List Gate) (s0:Int):List Gate:=([(⟨0,q.af,q.ab⟩:Gate)]++r)++l.map fun x=>eU q x s0
theorem Tc (q:ay) (l:List aM) (r:List Gate) (s0:Int):cH q l s0 l.length 0 (([(⟨0,q.af,q.ab⟩:Gate)])++r)=yY q l r s0:=by
 rw[LG q l s0 l.length 0 _ o!,List.drop_zero,yY]
theorem Nz (q:ay) (l:List aM) (r:List Gate) (s0:Int):dj q l r s0=(jr q (yY q l r s0).length ((yY q l r s0).length - 1) 1 (qw (yY q l r s0))).map (js q ((yY q l r s0).length - 1) 0):=by
 rw[dj,Tc,qw]
theorem ac4 (q:ay) (l:List aM) (r:List Gate) (s0:Int):uZ q l r s0=(yY q l r s0).length:=by
 rw[uZ,Tc]
theorem xP (q:ay) (l:List aM) (r:List Gate) (s0:Int):(yY q l r s0).length=1+r.length+l.length:=by
 rw[yY,List.length_append,List.length_append,List.length_map,List.length_singleton]
section
variable {q:ay} {l:List aM} (f:RF q l) {s:Nat} (hs:s<256)
include f hs
theorem NA {j:Nat} (hj:j<l.length):eU q (l.g j) ((s:Nat):Int)=if s.testBit (l.g j).aN.toNat then bw (l.g j).time else ⟨(Hm q (l.g j)).time,(Hm q (l.g j)).aq,(Hm q (l.g j)).ak⟩:=by
 obtain ⟨⟨g1,g2⟩,⟨g3,g4⟩,g5,g6⟩:=f.read j hj
 have hb:=f.bad
 have hg:=f.aN (l.g j).aN.toNat o!
 obtain ⟨w1,w2⟩:=xy hg g3 g4
 rw[eU,Tb hs g1 o!]
 cases s.testBit (l.g j).aN.toNat with
 | true=>rfl
 | false=>
   rw[ai,JC ⟨hg.2.2.2.2.1,hg.2.2.2.2.2⟩ g3 g4,OQ o! o!,OQ o! o!];rfl
theorem xQ {r:List Gate} {g:Gate}:g∈yY q l r ((s:Nat):Int)↔g=⟨0,q.af,q.ab⟩∨g∈r∨∃j,j<l.length∧g=if s.testBit (l.g j).aN.toNat then bw (l.g j).time else ⟨(Hm q (l.g j)).time,(Hm q (l.g j)).aq,(Hm q (l.g j)).ak⟩:=by
 rw[yY,List.mem_append,List.mem_append,List.mem_singleton,List.mem_map,or_assoc]
 refine or_congr Iff.rfl (or_congr Iff.rfl ⟨fun ⟨x,hx,e⟩=>?_,fun ⟨j,hj,e⟩=>?_⟩)
 · obtain ⟨j,hj,rfl⟩:=List.mem_iff_getElem.1 hx
   refine ⟨j,hj,?_⟩
   rw[←NA f hs hj,nE hj];exact e.symm
 · refine ⟨l.g j,by rw[nE hj];exact List.getElem_mem hj,?_⟩
   rw[NA f hs hj];exact e.symm
omit f hs in
theorem NB {t:Int}:¬KB (kn (bw t)):=fun h=>by
 have:=h.2.1
 simp only[kn,bw] at this
 omega
theorem OZ {r:List Gate} (hr:∀g∈r,∃t,0≤t∧t≤100000∧g=bw t):Nt (qw (yY q l r ((s:Nat):Int)))∧∀c,KG (qw (yY q l r ((s:Nat):Int))) c↔KS q l s c:=by
 have fs:=f.start
 have k0:KB (kn (⟨0,q.af,q.ab⟩:Gate)):=⟨⟨by simp [kn],by simp [kn]⟩,by simp only[kn];omega,by simp only[kn];omega,by simp only[kn];omega,by simp only[kn];omega⟩
 have h0:(yY q l r ((s:Nat):Int)).g 0=⟨0,q.af,q.ab⟩:=rfl
 have ht:∀g∈yY q l r ((s:Nat):Int),(0≤g.time∧g.time≤100000)∧(KB (kn g)∨Open g)∧g.aq≤g.ak:=fun g hg=>by
  rcases (xQ f hs).1 hg with rfl | hg | ⟨j,hj,e⟩
  · exact ⟨⟨Int.le_refl _,by simp only;omega⟩,.inl k0,by simp only;omega⟩
  · obtain ⟨t,t0,t1,rfl⟩:=hr _ hg
    exact ⟨⟨t0,t1⟩,.inr ⟨rfl,rfl⟩,by simp only[bw];omega⟩
  · obtain ⟨⟨g1,g2⟩,⟨g3,g4⟩,g5,g6⟩:=f.read j hj
    have hb:=f.bad
    obtain ⟨w1,w2⟩:=xy (f.aN (l.g j).aN.toNat o!) g3 g4
    cases e1:s.testBit (l.g j).aN.toNat with
    | true=>rw[e1,if_pos rfl] at e;subst e;exact ⟨⟨g3,g4⟩,.inr ⟨rfl,rfl⟩,by simp only[bw];omega⟩
    | false=>rw[e1,if_neg (by decide)] at e;subst e;exact ⟨⟨g3,g4⟩,.inl (Ll f hj),by simp only[Hm];omega⟩
 obtain ⟨a,b⟩:=SV (L:=yY q l r ((s:Nat):Int)) (by rw[xP];omega) ht (by rw[h0]) (by rw[h0];exact k0)
 refine ⟨a,fun c=>?_⟩
 rw[b]
 constructor
 · rintro ⟨g,hg,kb,rfl⟩
   rcases (xQ f hs).1 hg with rfl | hg | ⟨j,hj,e⟩
   · exact .inl rfl
   · obtain ⟨t,_,_,rfl⟩:=hr _ hg
     exact absurd kb (NB)
   · cases e1:s.testBit (l.g j).aN.toNat with
     | true=>rw[e1,if_pos rfl] at e;subst e;exact absurd kb (NB)
     | false=>rw[e1,if_neg (by decide)] at e;subst e;exact .inr ⟨j,hj,e1,rfl⟩
 · rintro (rfl | ⟨j,hj,e1,rfl⟩)
   · exact ⟨_,(xQ f hs).2 (.inl rfl),k0,rfl⟩
   · exact ⟨⟨(Hm q (l.g j)).time,(Hm q (l.g j)).aq,(Hm q (l.g j)).ak⟩,(xQ f hs).2 (.inr (.inr ⟨j,hj,by rw[e1];rfl⟩)),Ll f hj,rfl⟩
theorem yZ {r:List Gate} (hr:∀g∈r,∃t,0≤t∧t≤100000∧g=bw t):(dj q l r ((s:Nat):Int)=none↔¬Cq q l s)∧∀w,dj q l r ((s:Nat):Int)=some w→
 w.length=(yY q l r ((s:Nat):Int)).length∧(∀g∈yY q l r ((s:Nat):Int),∃j,j<w.length∧(w.g j).time=g.time)∧∀j,j<w.length→∀x,((w.g j).aq≤x∧x≤(w.g j).ak)↔XT q l s (w.g j).time x:=by
 obtain ⟨r0,r1,f0,f1⟩:=f.Ng
 obtain ⟨gs,kg⟩:=OZ f hs hr
 have h1:1≤(yY q l r ((s:Nat):Int)).length:=by rw[xP];omega
 obtain ⟨p1,p2,p3⟩:=yS h1
 have len:=p1.length_eq
 obtain ⟨c1,c2⟩:=OV f0 f1 r0 r1 gs (n:=(yY q l r ((s:Nat):Int)).length) len.symm h1
 have ex:GG q.aD q.aC (KG (qw (yY q l r ((s:Nat):Int))))↔Cq q l s:=
  ⟨fun h i hi k hk=>h i ((kg i).2 hi) k ((kg k).2 hk),fun h i hi k hk=>h i ((kg i).1 hi) k ((kg k).1 hk)⟩
 rw[Nz]
 refine ⟨?_,fun w e=>?_⟩
 · rw[Option.map_eq_none_iff,c1,ex]
 · obtain ⟨W,e1,rfl⟩:=Option.map_eq_some_iff.1 e
   obtain ⟨d1,d2⟩:=c2 W e1
   refine ⟨d1,fun g hg=>?_,fun j hj x=>?_⟩
   · obtain ⟨j,hj,e2⟩:=List.mem_iff_getElem.1 (p1.symm.subset hg)
     refine ⟨j,by omega,?_⟩
     rw[(d2 j o!).1,nE hj,e2]
   · have pf:j<(yY q l r ((s:Nat):Int)).length:=by omega
     rw[(d2 j pf).2 x,(d2 j pf).1]
     exact ⟨fun h c hc=>h c ((kg c).2 hc),fun h c hc=>h c ((kg c).1 hc)⟩
end
theorem Td {w:List Gate} {t:Int}:∀(k i:Nat),i+k=w.length→(∃j,i≤j∧j<w.length∧(w.g j).time=t)→∃j:Nat,eV w (fun y=>fS y t) k i=some ((j:Nat):Int)∧j<w.length∧(w.g j).time=t
 | 0,i,h,⟨j,a,b,_⟩=>by omega
 | k+1,i,h,⟨j,a,b,c⟩=>by
   rw[eV]
   show ∃j:Nat,(bif decide ((w.g i).time=t) then some ((i:Nat):Int) else eV w (fun y=>fS y t) k (i+1))=_∧_
   by_cases e:(w.g i).time=t
   · rw[decide_eq_true e];exact ⟨i,rfl,by omega,e⟩
   · rw[decide_eq_false e]
     refine Td k (i+1) o! ⟨j,?_,b,c⟩
     rcases Nat.lt_or_eq_of_le a with q | q
     · omega
     · subst q;exact absurd c e
theorem Te {w:List Gate} {t:Int} (h:∃j,j<w.length∧(w.g j).time=t):∃j:Nat,bL w (fun y=>fS y t)=((j:Nat):Int)∧j<w.length∧(w.g j).time=t:=by
 obtain ⟨j,a,b⟩:=h
 obtain ⟨i,e,c⟩:=Td w.length 0 o! ⟨j,Nat.zero_le _,a,b⟩
 exact ⟨i,by rw[bL,e],c⟩
theorem GQ {q:ay} {l:List aM} (f:RF q l) {t:Int} (t0:0≤t) (t1:t≤100000) {s:Nat} (hs:s<256) {w:List Gate} (e:dj q l [bw t] ((s:Nat):Int)=some w):
 uZ q l [bw t] ((s:Nat):Int)=w.length∧0≤bL w (fun y=>fS y t)∧bL w (fun y=>fS y t)<(w.length:Int)∧w.length<1000∧Cq q l s∧(∀x,((kF w t).aP≤x∧x≤(kF w t).aF)↔XT q l s t x):=by
 have hr:∀g∈ [bw t],∃t,0≤t∧t≤100000∧g=bw t:=fun g hg=>by rw[List.mem_singleton] at hg;exact ⟨t,t0,t1,hg⟩
 obtain ⟨c1,c2⟩:=yZ f hs hr
 obtain ⟨d1,d2,d3⟩:=c2 w e
 obtain ⟨j,e1,e2,e3⟩:=Te (w:=w) (t:=t) (d2 _ ((xQ f hs).2 (.inr (.inl (List.mem_singleton.2 rfl)))))
 have hm:=f.tC
 refine ⟨by rw[ac4,d1],by rw[e1];omega,by rw[e1];omega,by rw[d1,xP,List.length_singleton];omega,?_,fun x=>?_⟩
 · exact Classical.byContradiction fun h=>by rw[c1.2 h] at e;cases e
 · have:=d3 j e2 x
   rw[e3] at this
   rw[kF,e1];exact this
section
variable {α:Type} [aA α]
theorem bu.ix {h0 h:aw} {z:AV} {l:List α} (y:Tidy h) (o:bu h0 h z l) {i:Nat} (hi:i<l.length):
 ∃p,di env (some (.slice (aA.e α))) (some z) (some (.int .i64 ((i:Nat):Int)))=some (.ptr p (i*aA.n α))∧p<h.nx∧h0.nx≤p:=by
 rcases o with ⟨_,rfl⟩ | ⟨hn,p,op,rfl,hp,hg⟩
 · simp at hi
 · have ix:=cA (E:=env) (i:=p) (o:=0) (c:=l.length) (b:=op) (aA.size (α:=α)) hi
   rw[Nat.zero_add] at ix
   exact ⟨p,ix,y _ _ hg,hp⟩
theorem JP {L:List AV} {o:Nat} (ho:o<L.length) (v:AV):setFrom L o [v]=L.set o v:=by
 apply List.ext_getElem?
 intro k
 rw[eD,List.getElem?_set]
 by_cases e:o=k
 · subst e;rw[if_pos ⟨by omega,by simp,by omega⟩,if_pos rfl,if_pos ho];simp
 · rw[if_neg (by simp only[List.length_cons,List.length_nil];omega),if_neg e]
theorem O0 {l:List α} {i j:Nat} (h:i<l.length) {x:α} {v:AV} (hj:j<aA.n α) (hc:aA.c x=(aA.c (l.g i)).set j v):(l.flatMap aA.c).set (i*aA.n α+j) v=(l.set i x).flatMap aA.c:=by
 rw[←re h x,hc]
 have hl:=cK aA.len l
 have hb:i*aA.n α+aA.n α≤l.length*aA.n α:=by rw[←Nat.succ_mul];exact Nat.mul_le_mul_right _ h
 apply List.ext_getElem?
 intro k
 rw[eD,List.length_set,aA.len,hl,List.getElem?_set,hl]
 have gi:∀r,r<aA.n α→(l.flatMap aA.c)[i*aA.n α+r]? =(aA.c (l.g i))[r]? :=fun r hr=>iU aA.len l i r h hr
 by_cases e:i*aA.n α+j=k
 · subst e
   rw[if_pos rfl,if_pos o!,if_pos ⟨by omega,by omega,by omega⟩,Nat.add_sub_cancel_left,List.getElem?_set,if_pos rfl,if_pos (by rw[aA.len];exact hj)]
 · rw[if_neg e]
   by_cases q:i*aA.n α≤k∧k<i*aA.n α+aA.n α∧k<l.length*aA.n α
   · obtain ⟨r,rfl⟩:∃r,k=i*aA.n α+r:=⟨k - i*aA.n α,by omega⟩
     rw[if_pos q,Nat.add_sub_cancel_left,List.getElem?_set,if_neg o!,gi r o!]
   · rw[if_neg o!]
theorem bu.afL {h0 h:aw} {z:AV} {l:List α} (y:Tidy h) (y0:Tidy h0) (a:Has h0 h) (o:bu h0 h z l) {i:Nat} (hi:i<l.length) {p q:Nat}
 (hix:di env (some (.slice (aA.e α))) (some z) (some (.int .i64 ((i:Nat):Int)))=some (.ptr p q)) {t:TypeId} {j:Nat} {x:α} {v:AV} (ht:cq env t=some 1) (hv:v.cells=[v]) (hs:v.scalar=true) (hj:j<aA.n α) (hc:aA.c x=(aA.c (l.g i)).set j v):
 ∃h',fp env h t (.ptr p (q+j)) v=some h'∧Tidy h'∧h'.nx=h.nx∧bu h0 h' z (l.set i x)∧Has h0 h'∧∀b w,b≠p→h.get b=some w→h'.get b=some w:=by
 rcases o with ⟨_,rfl⟩ | ⟨hn,p',op,rfl,hp,hg⟩
 · simp at hi
 · have ix:=cA (E:=env) (i:=p') (o:=0) (c:=l.length) (b:=op) (aA.size (α:=α)) hi
   rw[Nat.zero_add,hix] at ix
   simp only[Option.some.injEq,AV.ptr.injEq] at ix
   obtain ⟨rfl,rfl⟩:=ix
   have hl:=cK aA.len l
   have hb:i*aA.n α+aA.n α≤l.length*aA.n α:=by rw[←Nat.succ_mul];exact Nat.mul_le_mul_right _ hi
   obtain ⟨h',s⟩:=wZ (E:=env) (t:=t) (o:=i*aA.n α+j) (n:=1) (v:=v) hg ht (by rw[hv];rfl) o! (by rw[hv];simp [hs])
   have g':=uc y s hg
   refine ⟨h',s,ra y s hg,sR s hg,.inr ⟨by intro e;rw[←List.length_eq_zero_iff,List.length_set] at e;omega,p,op,by rw[List.length_set],hp,?_⟩,fun j w gw=>?_,fun b w hb gw=>oK y s hg hb gw⟩
   · rw[g',hv,JP o!,O0 hi hj hc]
   · have:=y0 _ _ gw
     exact oK y s hg o! (a _ _ gw)
end
def lJ (L:List Span):List Span:=(ko (L.map fun s=>(s.aP,s.aF))).map fun x=>(⟨x.1,x.2⟩:Span)
theorem Ew:∀L:List Span,L.flatMap aA.c=lY (L.map fun s=>(s.aP,s.aF))
 | []=>rfl
 | s::L=>by
   rw[List.flatMap_cons,Ew L];rfl
theorem CL:∀L:List (Int×Int),(L.map fun x=>(⟨x.1,x.2⟩:Span)).flatMap aA.c=lY L
 | []=>rfl
 | s::L=>by
   rw[List.map_cons,List.flatMap_cons,CL L];rfl
theorem lK (L:List Span):(lJ L).length=L.length:=by
 have:=(sU (L.map fun s=>(s.aP,s.aF))).2.1
 rw[lJ,List.length_map,this,List.length_map]
theorem LO (L:List Span):(lJ L).Perm L:=by
 have h:=(sU (L.map fun s=>(s.aP,s.aF))).1.map fun x=>(⟨x.1,x.2⟩:Span)
 rw[List.map_map] at h
 have e:((fun x:Int×Int=>(⟨x.1,x.2⟩:Span))∘fun s:Span=>(s.aP,s.aF))=id:=by funext s;rfl
 rw[e,List.map_id] at h
 exact h
theorem O1 (L:List Span):List.Pairwise (fun s r:Span=>s.aP≤r.aP) (lJ L):=by
 obtain ⟨_,h2,h3⟩:=sU (L.map fun s=>(s.aP,s.aF))
 rw[lJ,List.pairwise_map,List.pairwise_iff_getElem]
 intro i j hi hj hij
 have:=h3 i j hij (by rw[←h2];exact hj)
 rw[getElem!_pos _ i hi,getElem!_pos _ j hj] at this
 exact this
theorem ac5 {d:Nat} {e h:aw} {z:AV} {L:List Span} (bH:Tidy h) (oz:bu e h z L) (hL:L.length<1000000):
 ∃h1,cJ (d+1) (.fn 63) [z,.func 64 [] []] h= .ret (.tuple []) h1∧Tidy h1∧h1.nx=h.nx∧bu e h1 z (lJ L)∧∀k w,bG z k→h.get k=some w→h1.get k=some w:=by
 have go:∀h1,M0 63 [z,.func 64 [] []] h=some (.tuple [],h1)→cJ (d+1) (.fn 63) [z,.func 64 [] []] h= .ret (.tuple []) h1:=fun h1 e=>by
  show e_ env M0 (d+1) (.fn 63) _ h=_
  simp only[e_,e]
 rcases oz with ⟨rfl | ⟨p,rfl,hp,hg⟩,rfl⟩ | ⟨hn,p,op,rfl,hp,hg⟩
 · refine ⟨h,go h rfl,bH,rfl,.inl ⟨.inl rfl,?_⟩,fun _ _ _ q=>q⟩
   exact List.length_eq_zero_iff.1 (lK [])
 · have e0:lJ []=[]:=List.length_eq_zero_iff.1 (lK [])
   have e1:ko []=[]:=List.length_eq_zero_iff.1 (sU []).2.1
   refine ⟨h.put p (some (.cells [] (aA.e Span) false)),go _ ?_,(kY bH hg).1,rfl,.inl ⟨.inr ⟨p,rfl,hp,aw.bU _⟩,e0⟩,fun k w hk q=>?_⟩
   · show BI 64 [.slice p 0 0 0 false,.func 64 [] []] h=_
     unfold BI
     simp only[hg,vC,if_true,List.length_nil,true_and,e1,lY]
     rfl
   · rw[aw.bx (fun c=>hk 0 0 0 false (by rw[c]))];exact q
 · have hl:(L.map fun s=>(s.aP,s.aF)).length=L.length:=List.length_map ..
   refine ⟨h.put p (some (.cells (lY (ko (L.map fun s=>(s.aP,s.aF)))) (aA.e Span) false)),go _ ?_,(kY bH hg).1,rfl,.inr ⟨fun c=>hn (List.length_eq_zero_iff.1 (by rw[←lK,c];rfl)),p,op,by rw[lK],hp,?_⟩,fun k w hk q=>?_⟩
   · show BI 64 [.slice p 0 L.length L.length op,.func 64 [] []] h=_
     unfold BI
     rw[Ew] at hg
     simp only[hg,D0,hl,if_true]
     rw[if_pos ⟨trivial,Nat.le_refl _,hL⟩]
   · rw[aw.bU,lJ,CL]
   · rw[aw.bx (fun c=>hk 0 _ _ op (by rw[c]))];exact q
theorem Ex {d:Nat} {f:FuncId} {args:List AV} {h h':aw} {v:AV} {P:aw→Prop} (hm:M0 f args h=none) (hd:sQ env (e_ env M0 d) f args h v h') (p1:P h') (p2:Has h h'→AV.within h.nx 20 v=true→P h):
 ∃hk,cJ (d+1) (.fn f) args h= .ret v hk∧P hk:=by
 by_cases hv:Has h h'∧AV.within h.nx 20 v=true
 · exact ⟨h,az hm hd hv.1 hv.2,p2 hv.1 hv.2⟩
 · exact ⟨h',oc hm hd hv,p1⟩
def GR:Code:=(Try.f35.body).getD .skip
theorem afM:Try.f35.body=some GR:=by kernel_rfl
def GS:Code:=(ck GR).getD 0 .skip
def pc (S:List Span):Nat→Nat→List Span→List Span
 | 0,_,L=>L
 | k+1,i,L=>bif (decide (0≤(((L.length:Nat):Int) - 1))) then bif (decide ((S.g i).aP≤(IntKind.i64.wrap (((L.g (((L.length:Nat):Int) - 1).toNat).aF)+1)))) then pc S k (i+1) (L.set (((L.length:Nat):Int) - 1).toNat ({(L.g (((L.length:Nat):Int) - 1).toNat) with aF:=(imax (L.g (((L.length:Nat):Int) - 1).toNat).aF (S.g i).aF)}:Span)) else pc S k (i+1) (L++[S.g i]) else pc S k (i+1) (L++[S.g i])
theorem AM {d:Nat} {h:aw} {zs:AV} {S:List Span} (bH:Tidy h) (hSh:aQ h zs S) (hSl:S.length≤100000):∀(k i0:Nat) (L:List Span) (z:AV) (x:Nat→AV) (hh:aw),i0+k=S.length→Tidy hh→Has h hh→h.nx≤hh.nx→bu h hh z L→L.length≤i0→
 cP (σ:=List Span) (ζ:=AV) (cJ (d+1)) GS ⟨(rx x 0 3 (z::rx x 4 5 (zs::(Zn S.length)::(Zn i0)::rx x 12 37 []))),hh,[],.no⟩ (.exit 0) hh (fun _ z y=>rx y 0 3 (z::rx y 4 45 [])) (fun r z hk=>Has h hk∧bu h hk z r) (pc S k i0 L)
 | 0,i0,L,z,x,hh,jZ,aL,aX,gI,oz,hLi=>by
   have hS:=hSh.has aX
   have Ur:∀y∈L,aA.ok hh y:=fun _ _=>trivial
   have WE:aQ hh z L:=bu.rows oz o! Ur
   have q1:(decide (((i0:Nat):Int)<((S.length:Nat):Int)))=false:=d!
   exact cP.out L z rfl (pk (d+1) _ _ hh _ hh (VV (bz 3 false false .i64 ((i0:Nat):Int) ((S.length:Nat):Int))<|BB q1<|ZZ) k!) aL (Nat.le_refl _) ⟨aX,oz⟩ k!
 | k+1,i0,L,z,x,hh,jZ,aL,aX,gI,oz,hLi=>by
   have hS:=hSh.has aX
   have Ur:∀y∈L,aA.ok hh y:=fun _ _=>trivial
   have WE:aQ hh z L:=bu.rows oz o! Ur
   rw[pc]
   rcases Bool.eq_false_or_eq_true (decide (0≤(((L.length:Nat):Int) - 1))) with f1 | f1
   · have f1':=of_decide_eq_true f1
     rcases Bool.eq_false_or_eq_true (decide ((S.g i0).aP≤(IntKind.i64.wrap (((L.g (((L.length:Nat):Int) - 1).toNat).aF)+1)))) with f2 | f2
     · rw[f1,f2,aj,aj]
       have q1:(decide (((i0:Nat):Int)<((S.length:Nat):Int)))=true:=d!
       obtain ⟨p3,q4,kO⟩:=hS.elem (i:=i0) o!
       have nI:di env (some (.slice 23)) (some zs) (some (Zn i0))=some (AV.ptr p3 q4):=kO
       have xh:bA env hh 23 (AV.ptr p3 q4)=some (AV.agg [(Zi (S.g i0).aP),(Zi (S.g i0).aF)]):=hS.load o! kO
       obtain ⟨h6,te,mf,Df,pR,jQ⟩:=gu aL (aY.cells [(Zi 0),(Zi 0)] 23 false)
       have mg:Has h h6:=aX.trans jQ
       have jj:Has hh h6:=jQ
       obtain ⟨h7,pS,iR,Dd,kf,dN⟩:=pM (t:=23) (n:=2) (i:=hh.nx) (L:=[(Zi (S.g i0).aP),(Zi (S.g i0).aF)]) mf pR k! rfl rfl (by simp only[AV.cells,List.all_cons,List.all_nil,Bool.and_true,Bool.and_self,eI,dt,eJ,eK,cI,gU,gV,gW,gX,gY,eL])
       have hI:Has h h7:=Has.cm mg dN bH o!
       have kl:Has hh h7:=Has.cm jj dN aL o!
       have rD:bu h h7 z L:=bu.kept (bu.has oz jj) dN (bu.B3 aL oz o!)
       have IT:dw (some (.slice 23)) (some z)=some (Zn L.length):=WE.len
       have w9:IntKind.i64.wrap (((L.length:Nat):Int) - 1)=((L.length:Nat):Int) - 1:=wrap_i64 o! o!
       have rJ:(decide (0≤(((L.length:Nat):Int) - 1)))=true:=f1
       obtain ⟨Pv,qm,WG,WH⟩:=bu.ix iR rD (i:=(((L.length:Nat):Int) - 1).toNat) (by first | omega | (simp<;>omega))
       have BU:di env (some (.slice 23)) (some z) (some (Zi (((L.length:Nat):Int) - 1)))=some (AV.ptr Pv ((((L.length:Nat):Int) - 1).toNat*2)):=by rw[show ((((L.length:Nat):Int) - 1):Int)=(((((L.length:Nat):Int) - 1).toNat:Nat):Int) by omega];exact qm
       have pj:bA env h7 3 (AV.ptr Pv (((((L.length:Nat):Int) - 1).toNat*2)+1))=some (Zi (L.g (((L.length:Nat):Int) - 1).toNat).aF):=(WE.has kl).part (t:=3) (j:=1) o! qm k! rfl
       have V9:(decide ((S.g i0).aP≤(IntKind.i64.wrap (((L.g (((L.length:Nat):Int) - 1).toNat).aF)+1))))=true:=f2
       have ac6:bA env h7 3 (AV.ptr Pv (((((L.length:Nat):Int) - 1).toNat*2)+1))=some (Zi (L.g (((L.length:Nat):Int) - 1).toNat).aF):=(WE.has kl).part (t:=3) (j:=1) o! qm k! rfl
       have ad7:Span.ok h7 (L.g (((L.length:Nat):Int) - 1).toNat):=(dG (D:=Span) (h':=h7) Ur) _ (oM (by first | omega | (simp only[List.length_set,List.length_append,List.length_nil,List.nil_append];omega)))
       have Tf:aA.ok h7 ({(L.g (((L.length:Nat):Int) - 1).toNat) with aF:=(imax (L.g (((L.length:Nat):Int) - 1).toNat).aF (S.g i0).aF)}:Span):=⟨⟩
       obtain ⟨R',ac7,Sa,agQ,ac8,Sb,Sc⟩:=bu.afL (x:=({(L.g (((L.length:Nat):Int) - 1).toNat) with aF:=(imax (L.g (((L.length:Nat):Int) - 1).toNat).aF (S.g i0).aF)}:Span)) (v:=(Zi (imax (L.g (((L.length:Nat):Int) - 1).toNat).aF (S.g i0).aF))) (t:=3) (j:=1) iR bH hI rD (by first | omega | (simp only[List.length_set,List.length_append,List.length_nil,List.nil_append];omega)) qm k! rfl rfl (by decide) rfl
       have Sd:Has h R':=Sb
       have WI:∀y∈(L.set (((L.length:Nat):Int) - 1).toNat ({(L.g (((L.length:Nat):Int) - 1).toNat) with aF:=(imax (L.g (((L.length:Nat):Int) - 1).toNat).aF (S.g i0).aF)}:Span)),aA.ok R' y:=dG (D:=Span) (Zf (dG (D:=Span) (h':=h7) Ur) Tf)
       have WJ:aQ R' z (L.set (((L.length:Nat):Int) - 1).toNat ({(L.g (((L.length:Nat):Int) - 1).toNat) with aF:=(imax (L.g (((L.length:Nat):Int) - 1).toNat).aF (S.g i0).aF)}:Span)):=bu.rows ac8 (by first | omega | (simp only[List.length_set,List.length_append,List.length_nil,List.nil_append];omega)) WI
       have aaX:=WJ.small
       have ad8:(L.set (((L.length:Nat):Int) - 1).toNat ({(L.g (((L.length:Nat):Int) - 1).toNat) with aF:=(imax (L.g (((L.length:Nat):Int) - 1).toNat).aF (S.g i0).aF)}:Span)).length=L.length:=List.length_set
       have u25:=eR 3 false true i0 1 o!
       have ev:=pk (d+1) GS (rx x 0 3 (z::rx x 4 5 (zs::(Zn S.length)::(Zn i0)::rx x 12 37 []))) hh .normal R' (VV (bz 3 false false .i64 ((i0:Nat):Int) ((S.length:Nat):Int))<|BV q1 nI<|MM xh<|NN te (fun i=>(Pt i))<|SS pS<|CC<|VV IT<|VV (Ft 3 false true w9)<|CN 2<|VV (eN 3 false true .i64 (((L.length:Nat):Int) - 1) 0)<|CC<|BC rJ<|BM rJ (aB 3 0 (Zi (S.g i0).aP) kf k!)<|BC rJ<|BC rJ<|BV rJ BU<|BC rJ<|BM rJ pj<|BC rJ<|BV rJ (gR 3 false false .i64 (S.g i0).aP (IntKind.i64.wrap (((L.g (((L.length:Nat):Int) - 1).toNat).aF)+1)))<|VV (jA (decide ((S.g i0).aP≤(IntKind.i64.wrap (((L.g (((L.length:Nat):Int) - 1).toNat).aF)+1)))) false rJ)<|HH (aB 3 0 (Zi (S.g i0).aP) kf k!)<|HH (show AV.same 20 (Zi (S.g i0).aP) (Zi (S.g i0).aP)=true from aG 19 _ _)<|HH pj<|HH (show AV.same 20 (Zi (L.g (((L.length:Nat):Int) - 1).toNat).aF) (Zi (L.g (((L.length:Nat):Int) - 1).toNat).aF)=true from aG 19 _ _)<|BB V9<|CN 4<|VV BU<|CC<|MM ac6<|CC<|MM (aB 3 1 (Zi (S.g i0).aF) kf k!)<|CC<|VV BU<|CC<|SS ac7<|HH ac6<|HH (show AV.same 20 (Zi (L.g (((L.length:Nat):Int) - 1).toNat).aF) (Zi (L.g (((L.length:Nat):Int) - 1).toNat).aF)=true from aG 19 _ _)<|HH (aB 3 1 (Zi (S.g i0).aF) kf k!)<|HH (show AV.same 20 (Zi (S.g i0).aF) (Zi (S.g i0).aF)=true from aG 19 _ _)<|VV u25<|CC<|ZZ) k!
       refine cP.round rfl ev o! _ k! (fun x=>cP.R2 (AM bH hSh hSl k (i0+1) _ z x R' o! Sa Sd o! ac8 (by rw[List.length_set];omega)) fun _ hk hn q=>q)
     · rw[f1,f2,aj,ai]
       have q1:(decide (((i0:Nat):Int)<((S.length:Nat):Int)))=true:=d!
       obtain ⟨p3,q4,kO⟩:=hS.elem (i:=i0) o!
       have nI:di env (some (.slice 23)) (some zs) (some (Zn i0))=some (AV.ptr p3 q4):=kO
       have xh:bA env hh 23 (AV.ptr p3 q4)=some (AV.agg [(Zi (S.g i0).aP),(Zi (S.g i0).aF)]):=hS.load o! kO
       obtain ⟨h6,te,mf,Df,pR,jQ⟩:=gu aL (aY.cells [(Zi 0),(Zi 0)] 23 false)
       have mg:Has h h6:=aX.trans jQ
       have jj:Has hh h6:=jQ
       obtain ⟨h7,pS,iR,Dd,kf,dN⟩:=pM (t:=23) (n:=2) (i:=hh.nx) (L:=[(Zi (S.g i0).aP),(Zi (S.g i0).aF)]) mf pR k! rfl rfl (by simp only[AV.cells,List.all_cons,List.all_nil,Bool.and_true,Bool.and_self,eI,dt,eJ,eK,cI,gU,gV,gW,gX,gY,eL])
       have hI:Has h h7:=Has.cm mg dN bH o!
       have kl:Has hh h7:=Has.cm jj dN aL o!
       have rD:bu h h7 z L:=bu.kept (bu.has oz jj) dN (bu.B3 aL oz o!)
       have IT:dw (some (.slice 23)) (some z)=some (Zn L.length):=WE.len
       have w9:IntKind.i64.wrap (((L.length:Nat):Int) - 1)=((L.length:Nat):Int) - 1:=wrap_i64 o! o!
       have rJ:(decide (0≤(((L.length:Nat):Int) - 1)))=true:=f1
       obtain ⟨Pv,qm,WG,WH⟩:=bu.ix iR rD (i:=(((L.length:Nat):Int) - 1).toNat) (by first | omega | (simp<;>omega))
       have BU:di env (some (.slice 23)) (some z) (some (Zi (((L.length:Nat):Int) - 1)))=some (AV.ptr Pv ((((L.length:Nat):Int) - 1).toNat*2)):=by rw[show ((((L.length:Nat):Int) - 1):Int)=(((((L.length:Nat):Int) - 1).toNat:Nat):Int) by omega];exact qm
       have pj:bA env h7 3 (AV.ptr Pv (((((L.length:Nat):Int) - 1).toNat*2)+1))=some (Zi (L.g (((L.length:Nat):Int) - 1).toNat).aF):=(WE.has kl).part (t:=3) (j:=1) o! qm k! rfl
       have V9:(decide ((S.g i0).aP≤(IntKind.i64.wrap (((L.g (((L.length:Nat):Int) - 1).toNat).aF)+1))))=false:=f2
       obtain ⟨Hn,ac9,Ey,agR,ada,Tg⟩:=gu iR (aY.cells [(Zi (S.g i0).aP),(Zi (S.g i0).aF)] 23 false)
       have va:Has h Hn:=hI.trans Tg
       have adb:Has hh Hn:=kl.trans Tg
       have Th:Has h7 Hn:=Tg
       obtain ⟨z18,xJ,aaB,zQ,ade,adf,afN,afO,afP⟩:=bu.Ag (tys:= #[30,30]) (l:=L) (m:=[(S.g i0)]) (x:=(AV.slice h7.nx 0 1 1 false)) Ey bH va o! (bu.has rD Th) rfl (im (x:=(S.g i0)) ada) (by simp [aA.c,Span.c,AV.scalar]) (by first | omega | (simp<;>omega)) rfl rfl k! k! (bytes:=16) k! (z0:=(AV.agg [(Zi 0),(Zi 0)])) k! rfl (by decide)
       have zR:Has h xJ:=adf
       have afQ:∀y∈(L++[(S.g i0)]),aA.ok xJ y:=dG (D:=Span) (nC (dG (D:=Span) (h':=Hn) Ur) (ok_one trivial))
       have u20:=eR 3 false true i0 1 o!
       have ev:=pk (d+1) GS (rx x 0 3 (z::rx x 4 5 (zs::(Zn S.length)::(Zn i0)::rx x 12 37 []))) hh .normal xJ (VV (bz 3 false false .i64 ((i0:Nat):Int) ((S.length:Nat):Int))<|BV q1 nI<|MM xh<|NN te (fun i=>(Pt i))<|SS pS<|CC<|VV IT<|VV (Ft 3 false true w9)<|CN 2<|VV (eN 3 false true .i64 (((L.length:Nat):Int) - 1) 0)<|CC<|BC rJ<|BM rJ (aB 3 0 (Zi (S.g i0).aP) kf k!)<|BC rJ<|BC rJ<|BV rJ BU<|BC rJ<|BM rJ pj<|BC rJ<|BV rJ (gR 3 false false .i64 (S.g i0).aP (IntKind.i64.wrap (((L.g (((L.length:Nat):Int) - 1).toNat).aF)+1)))<|VV (jA (decide ((S.g i0).aP≤(IntKind.i64.wrap (((L.g (((L.length:Nat):Int) - 1).toNat).aF)+1)))) false rJ)<|HH (aB 3 0 (Zi (S.g i0).aP) kf k!)<|HH (show AV.same 20 (Zi (S.g i0).aP) (Zi (S.g i0).aP)=true from aG 19 _ _)<|HH pj<|HH (show AV.same 20 (Zi (L.g (((L.length:Nat):Int) - 1).toNat).aF) (Zi (L.g (((L.length:Nat):Int) - 1).toNat).aF)=true from aG 19 _ _)<|BC V9<|MM (aB 23 0 (AV.agg [(Zi (S.g i0).aP),(Zi (S.g i0).aF)]) kf k!)<|NN ac9 (fun i=>(AV.slice i 0 1 1 false))<|PP (show b8 env Hn #[30,30] z (AV.slice h7.nx 0 1 1 false)=some (z18,xJ) from aaB)<|CC<|VV u20<|CC<|ZZ) k!
       refine cP.round rfl ev o! _ k! (fun x=>cP.R2 (AM bH hSh hSl k (i0+1) _ _ x xJ o! zQ zR o! afN (by rw[List.length_append,List.length_singleton];omega)) fun _ hk hn q=>q)
   · have f1':=of_decide_eq_false f1
     rw[f1,ai]
     have q1:(decide (((i0:Nat):Int)<((S.length:Nat):Int)))=true:=d!
     obtain ⟨p3,q4,kO⟩:=hS.elem (i:=i0) o!
     have nI:di env (some (.slice 23)) (some zs) (some (Zn i0))=some (AV.ptr p3 q4):=kO
     have xh:bA env hh 23 (AV.ptr p3 q4)=some (AV.agg [(Zi (S.g i0).aP),(Zi (S.g i0).aF)]):=hS.load o! kO
     obtain ⟨h6,te,mf,Df,pR,jQ⟩:=gu aL (aY.cells [(Zi 0),(Zi 0)] 23 false)
     have mg:Has h h6:=aX.trans jQ
     have jj:Has hh h6:=jQ
     obtain ⟨h7,pS,iR,Dd,kf,dN⟩:=pM (t:=23) (n:=2) (i:=hh.nx) (L:=[(Zi (S.g i0).aP),(Zi (S.g i0).aF)]) mf pR k! rfl rfl (by simp only[AV.cells,List.all_cons,List.all_nil,Bool.and_true,Bool.and_self,eI,dt,eJ,eK,cI,gU,gV,gW,gX,gY,eL])
     have hI:Has h h7:=Has.cm mg dN bH o!
     have kl:Has hh h7:=Has.cm jj dN aL o!
     have rD:bu h h7 z L:=bu.kept (bu.has oz jj) dN (bu.B3 aL oz o!)
     have IT:dw (some (.slice 23)) (some z)=some (Zn L.length):=WE.len
     have w9:IntKind.i64.wrap (((L.length:Nat):Int) - 1)=((L.length:Nat):Int) - 1:=wrap_i64 o! o!
     have rJ:(decide (0≤(((L.length:Nat):Int) - 1)))=false:=f1
     obtain ⟨xZ,adg,zH,XZ,o9,Ti⟩:=gu iR (aY.cells [(Zi (S.g i0).aP),(Zi (S.g i0).aF)] 23 false)
     have BY:Has h xZ:=hI.trans Ti
     have JH:Has hh xZ:=kl.trans Ti
     have Tj:Has h7 xZ:=Ti
     obtain ⟨z13,Uo,aaC,MY,agS,adh,afR,afS,afT⟩:=bu.Ag (tys:= #[30,30]) (l:=L) (m:=[(S.g i0)]) (x:=(AV.slice h7.nx 0 1 1 false)) zH bH BY o! (bu.has rD Tj) rfl (im (x:=(S.g i0)) o9) (by simp [aA.c,Span.c,AV.scalar]) (by first | omega | (simp<;>omega)) rfl rfl k! k! (bytes:=16) k! (z0:=(AV.agg [(Zi 0),(Zi 0)])) k! rfl (by decide)
     have R7:Has h Uo:=adh
     have afU:∀y∈(L++[(S.g i0)]),aA.ok Uo y:=dG (D:=Span) (nC (dG (D:=Span) (h':=xZ) Ur) (ok_one trivial))
     have VZ:=eR 3 false true i0 1 o!
     have ev:=pk (d+1) GS (rx x 0 3 (z::rx x 4 5 (zs::(Zn S.length)::(Zn i0)::rx x 12 37 []))) hh .normal Uo (VV (bz 3 false false .i64 ((i0:Nat):Int) ((S.length:Nat):Int))<|BV q1 nI<|MM xh<|NN te (fun i=>(Pt i))<|SS pS<|CC<|VV IT<|VV (Ft 3 false true w9)<|CN 2<|VV (eN 3 false true .i64 (((L.length:Nat):Int) - 1) 0)<|CC<|BB rJ<|BB rJ<|BB rJ<|BB rJ<|BB rJ<|BB rJ<|BB rJ<|BB rJ<|BV rJ (pN false rJ)<|FF<|CC<|MM (aB 23 0 (AV.agg [(Zi (S.g i0).aP),(Zi (S.g i0).aF)]) kf k!)<|NN adg (fun i=>(AV.slice i 0 1 1 false))<|PP (show b8 env xZ #[30,30] z (AV.slice h7.nx 0 1 1 false)=some (z13,Uo) from aaC)<|CC<|VV VZ<|CC<|ZZ) k!
     refine cP.round rfl ev o! _ k! (fun x=>cP.R2 (AM bH hSh hSl k (i0+1) _ _ x Uo o! MY R7 o! afR (by rw[List.length_append,List.length_singleton];omega)) fun _ hk hn q=>q)
def nq (L:List Span):List Span:=pc (lJ L) (lJ L).length 0 []
theorem Tk {d:Nat} {e h:aw} {z:AV} {L:List Span} (bH:Tidy h) (oz:bu e h z L) (hL:L.length≤100000):
 ∃z' hk,cJ (d+2) (.fn 35) [z] h= .ret z' hk∧Tidy hk∧h.nx≤hk.nx∧bu h hk z' (nq L)∧∀k w,bG z k→h.get k=some w→hk.get k=some w:=by
 have PE:=oz
 obtain ⟨h1,Z8,bN,fX,adi,adj⟩:=ac5 (d:=d) bH oz o!
 have rS:aQ h1 z (lJ L):=bu.rows adi (by rw[lK];omega) (fun _ _=>trivial)
 have RP:dw (some (.slice 23)) (some z)=some (Zn (lJ L).length):=rS.len
 obtain ⟨z5,Pr,h3,fO,eZ,qn,fu,adk⟩:=AM (d:=d) (h:=h1) bN rS (by rw[lK];omega) (lJ L).length 0 [] AV.aK (fun k_=>((z::AV.undef::AV.aK::AV.aK::AV.undef::AV.undef::AV.undef::z::(AV.tuple [])::z::(Zn (lJ L).length)::(Zi 0)::jl 37):List AV).getD k_ AV.undef) h1 o! bN (Has.refl _) (Nat.le_refl _) (.inl ⟨.inl rfl,rfl⟩) (Nat.le_refl _)
 have ev:=pk (d+1) GR (z::jl 48) h .ret h3 (CN 2<|EE Z8<|CN 2<|VV RP<|CC<|LL fO<|CN 2<|ZZ) k!
 have oL:bu h h3 z5 (nq L):=adk.le o!
 obtain ⟨hk,e1,q⟩:=Ex (P:=fun hk=>Tidy hk∧h.nx≤hk.nx∧bu h hk z5 (nq L)∧∀k w,bG z k→h.get k=some w→hk.get k=some w) rfl (a_ (v:=z5) Try.func35 afM k! (.inr rfl) ev k!) ⟨eZ,by omega,oL,fun k w n q=>fu _ _ (adj _ _ n q)⟩ (fun _ v=>⟨bH,Nat.le_refl _,bu.s_ oL v,fun _ _ _ q=>q⟩)
 exact ⟨_,hk,e1,q⟩
theorem aaD (L:List Span) (c:Span):(L++[c]).g L.length=c:=by
 rw[List.g,List.getD_eq_getElem?_getD,List.getElem?_append_right (Nat.le_refl _),Nat.sub_self];rfl
theorem Tl (L:List Span) (c x:Span):(L++[c]).set L.length x=L++[x]:=by
 rw[List.set_append_right _ _ (Nat.le_refl _),Nat.sub_self];rfl
theorem Tm (S:List Span):∀(k i:Nat) (L:List Span) (c:Span),i+k=S.length→(∀s∈S.drop i,Bd s)→Bd c→pc S k i (L++[c])=L++PC c (S.drop i)
 | 0,i,L,c,h,_,_=>by rw[pc,List.drop_eq_nil_of_le o!,PC]
 | k+1,i,L,c,h,hd,hc=>by
   have e:=Li (l:=S) (i:=i) o!
   have hs:=hd (S.g i) (by rw[e];exact List.mem_cons_self ..)
   have J1:∀s∈S.drop (i+1),Bd s:=fun s q=>hd s (by rw[e];exact List.mem_cons_of_mem _ q)
   obtain ⟨c1,c2,c3,c4⟩:=hc
   obtain ⟨s1,s2,s3,s4⟩:=hs
   have n1:(((L++[c]).length:Nat):Int) - 1=(L.length:Int):=by rw[List.length_append,List.length_singleton];omega
   rw[pc,n1,decide_eq_true (show (0:Int)≤(L.length:Int) by omega),aj,Int.toNat_natCast,aaD,Tl,e,PC,wrap_i64 (n:=c.aF+1) o! o!]
   by_cases q:(S.g i).aP≤c.aF+1
   · rw[decide_eq_true q,aj,if_pos q,uh]
     exact Tm S k (i+1) L ⟨c.aP,max c.aF (S.g i).aF⟩ o! J1 ⟨c1,c2,by simp only;omega,by simp only;omega⟩
   · rw[decide_eq_false q,ai,if_neg q,Tm S k (i+1) (L++[c]) (S.g i) o! J1 ⟨s1,s2,s3,s4⟩,List.append_assoc];rfl
theorem JQ {A:List Span} (hd:∀s∈A,Bd s) (hn:∀s∈A,s.aP≤s.aF):Canon (nq A)∧∀x,Cj (nq A) x↔Cj A x:=by
 have p:=LO A
 have asc:=O1 A
 have inp:∀x,Cj (lJ A) x↔Cj A x:=fun x=>⟨fun ⟨s,a,b⟩=>⟨s,p.subset a,b⟩,fun ⟨s,a,b⟩=>⟨s,p.symm.subset a,b⟩⟩
 have UT:∀s∈lJ A,Bd s:=fun s q=>hd s (p.subset q)
 have Mj:∀s∈lJ A,s.aP≤s.aF:=fun s q=>hn s (p.subset q)
 unfold nq
 generalize lJ A=S at asc inp UT Mj
 cases S with
 | nil=>exact ⟨.nil,inp⟩
 | cons c R=>
   obtain ⟨a1,a2⟩:=List.pairwise_cons.1 asc
   have e:pc (c::R) (c::R).length 0 []=PC c R:=by
    show pc (c::R) (R.length+1) 0 []=_
    rw[pc]
    show (bif decide ((0:Int)≤(([]:List Span).length:Int) - 1) then _ else _)=_
    rw[decide_eq_false (by simp),ai]
    exact Tm (c::R) R.length 1 [] c (by simp only[List.length_cons];omega) (fun s q=>UT s (List.mem_cons_of_mem _ q)) (UT c (List.mem_cons_self ..))
   rw[e]
   obtain ⟨j1,j2,_⟩:=Cm (l:=R) (c:=c) (Mj c (List.mem_cons_self ..)) (fun s q=>Mj s (List.mem_cons_of_mem _ q)) a1 a2
   refine ⟨j1,fun x=>?_⟩
   rw[j2,←inp,fm]
def WK:Code:=(Try.f22.body).getD .skip
theorem afV:Try.f22.body=some WK:=by kernel_rfl
theorem aaE {d:Nat} {h:aw} (bH:Tidy h) (q:ay) (n:Int) {lv rv:AV} (hq:aA.ok h q) (hl:AV.scalar lv=true) (hr:AV.scalar rv=true):
 ∃bq bl bm br hk,cJ (d+2) (.fn 22) [.agg (aA.c q),lv,Zi n,rv] h= .ret (.func 42 [] [Pt bq,Pt bm,Pt br,Pt bl]) hk∧Tidy hk∧h.nx≤hk.nx∧Has h hk∧hk.get bq=some (.cells (aA.c q) 26 false)∧hk.get bl=some (.cells [lv] 27 false)∧hk.get bm=some (.cells [Zi n] 3 false)∧hk.get br=some (.cells [rv] 69 false)∧(h.nx≤bq∧bq<bl∧bl<bm∧bm<br∧br<hk.nx):=by
 obtain ⟨h1,bD,bN,fX,aH,bZ⟩:=gu bH (aY.cells [(AV.str q.name),(Zi q.af),(Zi q.ab),(Zi q.aC),(Zi q.aD),(Zi q.bad),q.ao] 26 false)
 have bk:Has h h1:=bZ
 obtain ⟨h2,iQ,fJ,uA,dh,dz⟩:=gu bN (aY.cells [lv] 27 false)
 have fl:Has h h2:=bk.trans dz
 obtain ⟨h3,s7,eZ,I4,oR,dL⟩:=gu fJ (aY.cells [(Zi n)] 3 false)
 have fu:Has h h3:=fl.trans dL
 obtain ⟨h4,GU,ng,K3,vH,pU⟩:=gu eZ (aY.cells [rv] 69 false)
 have mA:Has h h4:=fu.trans pU
 exact ⟨_,_,_,_,_,oc rfl (a_ Try.func22 afV rfl (.inr rfl) (pk (d+1) _ _ h _ h4 (NN bD (fun i=>(Pt i))<|AA (.a (aY.cells [lv] 27 false) (Pt h1.nx) h2)<|HH iQ<|HH (show ∃mk:Nat→AV,some (aY.cells (AV.cells lv) 27 false,fun i=>AV.ptr i 0)=some (aY.cells [lv] 27 false,mk)∧mk h1.nx=(Pt h1.nx) from ⟨_,(by rw[w8 hl]),rfl⟩)<|NN s7 (fun i=>(Pt i))<|AA (.a (aY.cells [rv] 69 false) (Pt h3.nx) h4)<|HH GU<|HH (show ∃mk:Nat→AV,some (aY.cells (AV.cells rv) 69 false,fun i=>AV.ptr i 0)=some (aY.cells [rv] 69 false,mk)∧mk h3.nx=(Pt h3.nx) from ⟨_,(by rw[w8 hr]),rfl⟩)<|CN 3<|ZZ) k!) k!) (fun q=>by cases q.2),ng,by omega,mA,pU _ _ (dL _ _ (dz _ _ aH)),pU _ _ (dL _ _ dh),pU _ _ oR,vH,by omega,by omega,by omega,by omega,by omega⟩
def nY:Code:=(Try.f17.body).getD .skip
theorem afW:Try.f17.body=some nY:=by kernel_rfl
def nG:Code:=(ck nY).getD 0 .skip
theorem To {d:Nat} {h hh:aw} {t s0:Int} {bs bt lp:Nat} {z cv:AV} {L:List Span} {G:List Gate} (x:Nat→AV) (bH:Tidy h) (aX:Has h hh) (gI:h.nx≤hh.nx) (aL:Tidy hh) (hG:aQ hh cv G) (oz:bu h hh z L) (hL:L.length≤100000) (gs:hh.get bs=some (.cells [z] 30 false)) (gt:hh.get bt=some (.cells [Zi t] 3 false)) (Tp:bG z bs) (X_:bG z bt) (hb:h.nx≤bs) (ne:bs≠bt) (w1:0≤bL G (fun y=>fS y t)) (w2:bL G (fun y=>fS y t)<(G.length:Int)):
 ∃jY z' h',Ev env (cJ (d+8)) nG ⟨rx x 0 5 ((Pt bt)::(x 6)::(Pt bs)::(x 8)::cv::rx x 10 8 ((AV.int .u64 s0)::cv::rx x 20 8 [])),hh,[],.pX lp⟩ .normal ⟨jY,h',[],.pX lp⟩∧Tidy h'∧hh.nx≤h'.nx∧Has h h'∧bu h h' z' (L++[kF G t])∧h'.get bs=some (.cells [z'] 30 false)∧h'.get bt=some (.cells [Zi t] 3 false)∧bG z' bs∧bG z' bt∧(∀k w,k≠bs→bG z k→hh.get k=some w→h'.get k=some w)∧∀k,k<hh.nx→bG z k→bG z' k:=by
 have T_s:=aL _ _ gs
 have T_t:=aL _ _ gt
 have Ur:∀y∈L,aA.ok hh y:=fun _ _=>trivial
 have WE:aQ hh z L:=bu.rows oz o! Ur
 have k1:=aaA (d:=d+5) G t hG (by first | omega | assumption | (simp only[List.length_set,List.length_replicate,List.length_append,List.length_cons,List.length_nil,List.nil_append]<;>omega) | (rw[List.length_take];omega)) (by first | omega | assumption | (simp only[List.length_set,List.length_replicate,List.length_append,List.length_cons,List.length_nil,List.nil_append]<;>omega) | (rw[List.length_take];omega)) aL
 obtain ⟨h2,iQ,fJ,uA,dh,dz⟩:=gu aL (aY.cells [(Zi (kF G t).aP),(Zi (kF G t).aF)] 23 false)
 have fl:Has h h2:=aX.trans dz
 have xR:Has hh h2:=dz
 obtain ⟨z4,h3,adm,eZ,qn,afX,oz5,Tq,NC⟩:=bu.Ag (tys:= #[30,30]) (l:=L) (m:=[(kF G t)]) (x:=(AV.slice hh.nx 0 1 1 false)) fJ bH fl o! (bu.has oz xR) rfl (im (x:=(kF G t)) dh) (by simp [aA.c,Span.c,AV.scalar]) (by first | omega | (simp<;>omega)) rfl rfl k! k! (bytes:=16) k! (z0:=(AV.agg [(Zi 0),(Zi 0)])) k! rfl (by decide)
 have fu:Has h h3:=afX
 have adn:∀y∈(L++[(kF G t)]),aA.ok h3 y:=dG (D:=Span) (nC (dG (D:=Span) (h':=h2) Ur) (ok_one (h:=h2) trivial))
 have sc7:AV.scalar z4=true:=aQ.scalar (bu.rows oz5 (by simp;omega) adn)
 obtain ⟨h6,Ts,mf,Df,pR,nr⟩:=aeM (t:=30) (i:=bs) (o:=0) (v:=z4) (N:=[z4]) eZ (Tq _ _ Tp (dz _ _ gs)) k! sc7 k! k!
 have mg:Has h h6:=Has.cm fu nr bH o!
 have Tt:bu h h6 z4 (L++[(kF G t)]):=bu.kept oz5 nr (NC _ (fJ _ _ (dz _ _ gs)) Tp)
 have c8:AV.same 20 z z=true:=WE.same 19
 have ev:=V3 (.pX lp) (d+8) nG (rx x 0 5 ((Pt bt)::(x 6)::(Pt bs)::(x 8)::cv::rx x 10 8 ((AV.int .u64 s0)::cv::rx x 20 8 []))) hh .normal h6 (MM (aB 30 0 z gs k!)<|CC<|MM (aB 3 0 (Zi t) gt k!)<|EE k1<|NN iQ (fun i=>(AV.slice i 0 1 1 false))<|PP (show b8 env h2 #[30,30] z (AV.slice hh.nx 0 1 1 false)=some (z4,h3) from adm)<|SS Ts<|HH (aB 30 0 z gs k!)<|HH c8<|HH (aB 30 0 z (dz _ _ gs) k!)<|HH c8<|HH (aB 3 0 (Zi t) gt k!)<|HH (show AV.same 20 (Zi t) (Zi t)=true from aG 19 _ _)<|HH (show ∃o,h2.get hh.nx=some o∧aY.same o (aY.cells [(Zi (kF G t).aP),(Zi (kF G t).aF)] 23 false)=true from ⟨_,dh,by simp [aY.same,dQ,AV.same]⟩)<|ZZ) k!
 exact ⟨_,z4,_,ev,mf,by omega,mg,Tt,pR,nr _ _ o! (Tq _ _ X_ (dz _ _ gt)),NC _ o! Tp,NC _ o! X_,fun k w c n e=>nr _ _ c (Tq _ _ n (dz _ _ e)),fun k c n=>NC k o! n⟩
def rN:Code:=OW nY
def tJ (x:Nat→AV) (bt bs:Nat):List AV:=rx x 0 5 ((AV.ptr bt 0)::(x 6)::(AV.ptr bs 0)::rx x 8 20 [])
theorem aaF {d:Nat} (x:Nat→AV) (bt bs lp:Nat) (s0:Int) (cv:AV) (h:aw):
 Ev env (cJ (d+8)) rN ⟨rx x 0 5 ((AV.ptr bt 0)::(x 6)::(AV.ptr bs 0)::rx x 8 10 ((AV.int .u64 s0)::cv::rx x 20 8 [])),h,[],.pX lp⟩ .normal ⟨rx x 0 5 ((AV.ptr bt 0)::(x 6)::(AV.ptr bs 0)::(x 8)::cv::rx x 10 8 ((AV.int .u64 s0)::cv::rx x 20 8 [])),h,[],.pX lp⟩:=by
 have ev:=V3 (.pX lp) (d+8) rN (rx x 0 5 ((AV.ptr bt 0)::(x 6)::(AV.ptr bs 0)::rx x 8 10 ((AV.int .u64 s0)::cv::rx x 20 8 []))) h .normal h (CC<|ZZ) (by kernel_rfl)
 exact zS (by kernel_rfl) ev
theorem aaG (x:Nat→AV) (bt bs:Nat) (a c:AV):([18,19].zip [a,c]).foldl (fun ts y=>ts.set y.1 y.2) (tJ x bt bs)=rx x 0 5 ((AV.ptr bt 0)::(x 6)::(AV.ptr bs 0)::rx x 8 10 (a::c::rx x 20 8 [])):=by kernel_rfl
def ado (t:Int) (hk:aw) (a:List AV) (y:Int×List Gate):Prop:=∃cv,a=[.int .u64 y.1,cv]∧aQ hk cv y.2∧0≤bL y.2 (fun y=>fS y t)∧bL y.2 (fun y=>fS y t)<(y.2.length:Int)
def PoI (e:aw) (t:Int) (bs bt lp:Nat) (x:Nat→AV) (dn:Nat) (L:List (Int×List Gate)) (P:Nat→Prop) (hh:aw):Prop:=
 L.length≤1000∧∃z,bu e hh z (L.map fun y=>kF y.2 t)∧e.nx≤hh.nx∧lp<hh.nx∧hh.get bs=some (.cells [z] 30 false)∧hh.get bt=some (.cells [Zi t] 3 false)∧hh.get lp=some (.loop .ready none (tJ x bt bs) [18,19] rN nG dn)∧bG z bs∧bG z bt∧bG z lp∧(∀k,¬bG z k→e.nx≤k∧k<hh.nx)∧∀k,P k↔(k=bs∨k=bt∨k=lp∨¬bG z k)
theorem aQ.adp {α:Type} [aA α] [Flat α] {h h':aw} {v:AV} {l:List α} (x:aQ h v l) (k:∀p C f ro,h.get p=some (.cells C f ro)→h'.get p=some (.cells C f ro)):aQ h' v l:=
 ⟨⟨x.at_.size,x.at_.cells,x.at_.small,x.at_.lens,x.at_.block.imp id fun ⟨p,o,m,c,b,C,f,ro,h1,h2,h3,h4⟩=>⟨p,o,m,c,b,C,f,ro,h1,h2,k _ _ _ _ h3,h4⟩⟩,x.known,fun y hy=>Flat.free (x.Pp y hy)⟩
theorem adq {d:Nat} {e:aw} {t:Int} {bs bt lp:Nat} (x:Nat→AV) (dn:Nat) (he:∀k,e.get k=none) (eb:e.nx≤bs) (bb:bs≠bt) (lb:bs<lp∧bt<lp∧e.nx≤lp):YlH (cJ (d+9)) lp (ado t) (PoI e t bs bt lp x dn) where
 aP:=by
  rintro L P hh ⟨hL,z,oz,en,lx,gs,gt,gp,n1,n2,n3,zl,pp⟩ k hk
  rcases (pp k).1 hk with p | p | p | p
  · omega
  · omega
  · omega
  · exact (zl k p).2
 stay:=by
  rintro L P hh hk ⟨hL,z,oz,en,lx,gs,gt,gp,n1,n2,n3,zl,pp⟩ yk nk kp
  have K:∀k w,k=bs∨k=bt∨k=lp∨¬bG z k→hh.get k=some w→hk.get k=some w:=fun k w c q=>kp k w ((pp k).2 c) q
  refine ⟨hL,z,?_,by omega,by omega,K _ _ (by simp) gs,K _ _ (by simp) gt,K _ _ (by simp) gp,n1,n2,n3,fun k c=>⟨(zl k c).1,by have:=(zl k c).2;omega⟩,pp⟩
  rcases oz with ⟨rfl | ⟨p,rfl,h1,h2⟩,hl⟩ | ⟨hn,p,op,rfl,hp,hg⟩
  · exact .inl ⟨.inl rfl,hl⟩
  · exact .inl ⟨.inr ⟨p,rfl,h1,K _ _ (.inr (.inr (.inr fun q=>q _ _ _ _ rfl))) h2⟩,hl⟩
  · exact .inr ⟨hn,p,op,rfl,hp,K _ _ (.inr (.inr (.inr fun q=>q _ _ _ _ rfl))) hg⟩
 next:=by
  rintro L a y P hh hLL ⟨cv,rfl,hG,w1,w2⟩ ⟨hL,z,oz,en,lx,gs,gt,gp,n1,n2,n3,zl,pp⟩ aL
  have T1:=aL _ _ gp
  have T2:=aL _ _ gs
  have T3:=aL _ _ gt
  have c1:=kY (o:= .loop .busy none (tJ x bt bs) [18,19] rN nG dn) aL gp
  have oz1:bu e (hh.put lp (some (.loop .busy none (tJ x bt bs) [18,19] rN nG dn))) z (L.map fun y=>kF y.2 t):=bu.V2 oz c1 n3
  have hG1:=hG.adp (h':=hh.put lp (some (.loop .busy none (tJ x bt bs) [18,19] rN nG dn))) fun p C f ro g=>c1.2.2 _ _ (fun c=>by rw[c,gp] at g;cases g) g
  obtain ⟨jY,z',h2,ev,y2,WL,a2,oz2,gs2,gt2,ni1,ni2,k2,np2⟩:=To (d:=d) (h:=e) (hh:=hh.put lp (some (.loop .busy none (tJ x bt bs) [18,19] rN nG dn))) (L:=L.map fun y=>kF y.2 t) (s0:=y.1) (lp:=lp) x (fun i w g=>by rw[he] at g;cases g) (fun i w g=>by rw[he] at g;cases g) en c1.1 hG1 oz1 (by rw[List.length_map];omega) (c1.2.2 _ _ o! gs) (c1.2.2 _ _ o! gt) n1 n2 eb bb w1 w2
  have gl2:=k2 _ _ o! n3 c1.2.1
  have q:=F0 (d:=d+8) (args:=[.int .u64 y.1,cv]) (jump:=none) gp rfl ((aaG x bt bs (.int .u64 y.1) cv)▸aaF x bt bs lp y.1 cv hh) gp ev (.inl ⟨rfl,rfl⟩) gl2
  have c3:=kY (o:= .loop .ready none (tJ x bt bs) [18,19] rN nG dn) y2 gl2
  have ni3:bG z' lp:=np2 lp (by show lp<hh.nx;omega) n3
  refine ⟨_,fun k=>k=bs∨k=bt∨k=lp∨¬bG z' k,q,c3.1,WL,⟨by rw[List.length_append,List.length_singleton];omega,z',?_,Nat.le_trans en WL,Nat.lt_of_lt_of_le lx WL,c3.2.2 _ _ o! gs2,c3.2.2 _ _ o! gt2,c3.2.1,ni1,ni2,ni3,fun k c=>⟨?_,?_⟩,fun _=>Iff.rfl⟩,fun k p=>?_,fun k w n g=>?_⟩
  · rw[List.map_append];exact bu.V2 oz2 c3 ni3
  · exact Decidable.byContradiction fun h=>c (oz2.Zo o!)
  · exact Decidable.byContradiction fun h=>c (oz2.B3 y2 (by show h2.nx≤k;exact Nat.le_of_not_lt h))
  · by_cases hk:k<hh.nx
    · refine .inl ((pp k).2 ?_)
      rcases p with p | p | p | p
      · exact .inl p
      · exact .inr (.inl p)
      · exact .inr (.inr (.inl p))
      · exact .inr (.inr (.inr fun c=>p (np2 k hk c)))
    · exact .inr o!
  · have nn:¬(k=bs∨k=bt∨k=lp∨¬bG z k):=fun c=>n ((pp k).2 c)
    have e1:k≠lp:=fun c=>nn (.inr (.inr (.inl c)))
    exact c3.2.2 _ _ e1 (k2 _ _ (fun c=>nn (.inl c)) (Classical.byContradiction fun c=>nn (.inr (.inr (.inr c)))) (c1.2.2 _ _ e1 g))
theorem zT {α:Type} [aA α] (inj:∀a b:α,aA.c a=aA.c b→a=b):∀l l':List α,l.length=l'.length→l.flatMap aA.c=l'.flatMap aA.c→l=l'
 | [],[],_,_=>rfl
 | a::l,b::l',hl,h=>by
   rw[List.flatMap_cons,List.flatMap_cons] at h
   obtain ⟨h1,h2⟩:=List.append_inj h (by rw[aA.len,aA.len])
   rw[inj a b h1,zT inj l l' (by simpa using hl) h2]
theorem bu.same {α:Type} [aA α] (inj:∀a b:α,aA.c a=aA.c b→a=b) {h0 h h':aw} {z:AV} {l l':List α} (o:bu h0 h z l) (o':bu h0 h' z l') (A:Has h h'):l'=l:=by
 rcases o with ⟨e,rfl⟩ | ⟨hn,p,op,e,hp,hg⟩<;>rcases o' with ⟨e',rfl⟩ | ⟨Yg,p',op',e',Yx,hg'⟩
 · rfl
 · exfalso
   have:0<l'.length:=List.length_pos_iff.2 Yg
   rcases e with rfl | ⟨q,rfl,_⟩
   · cases e'
   · have:=(AV.slice.inj e').2.2.1;omega
 · exfalso
   have:0<l.length:=List.length_pos_iff.2 hn
   rcases e' with rfl | ⟨q,rfl,_⟩
   · cases e
   · have:=(AV.slice.inj e).2.2.1;omega
 · rw[e] at e'
   have i:=AV.slice.inj e'
   have q:=A _ _ hg
   rw[i.1,hg'] at q
   exact zT inj _ _ i.2.2.1.symm (aY.cells.inj (Option.some.inj q)).1
theorem Tu (a b:Span) (h:aA.c a=aA.c b):a=b:=by
 cases a;cases b
 have h1:=(List.cons.inj h).1
 have h2:=(List.cons.inj (List.cons.inj h).2).1
 have e1:=(AV.int.inj h1).2
 have e2:=(AV.int.inj h2).2
 simp_all
theorem WM {e:aw} {t:Int} {bs bt lp:Nat} {x:Nat→AV} {dn:Nat} {L L':List (Int×List Gate)} {P P':Nat→Prop} {hh hk:aw} (a:PoI e t bs bt lp x dn L P hh) (a':PoI e t bs bt lp x dn L' P' hk) (A:Has hh hk):PoI e t bs bt lp x dn L' P hh:=by
 obtain ⟨hL,z,oz,en,lx,gs,w⟩:=a
 obtain ⟨hL',z',oz',en',lx',gs',w'⟩:=a'
 have q:=A _ _ gs
 rw[gs'] at q
 have ez:z'=z:=(List.cons.inj (aY.cells.inj (Option.some.inj q)).1).1
 subst ez
 have el:=bu.same Tu oz oz' A
 exact ⟨hL',z',by rw[el];exact oz,en,lx,gs,w⟩
theorem za (n:Nat):∃e:aw,e.nx=n∧∀k,e.get k=none:=⟨⟨HT.nil,n,fun _=>none⟩,rfl,fun k=>Go.Ab.MK k n⟩
def X':Code:=sq1 nY
def Ya:Code:=sq1 (sq2 nY)
def Yb:Code:=sq1 (sq1 (sq2 (sq2 nY)))
def Tv:Code:=sq2 (sq2 (sq2 nY))
theorem Tw:nY= .seq X' (.seq Ya (.seq (.seq Yb (.block 0 (.rangeFunc (.tmp 17) #[18,19] rN nG))) Tv)):=by kernel_rfl
theorem aaH {d:Nat} {h:aw} {q:ay} {lv:AV} {l:List aM} {t:Int} (bH:Tidy h) (hq:aA.ok h q) (hl:aQ h lv l) (E1:l.length≤12) (hq8:q.ar.length≤8) (VT:∀k,k<l.length→0≤(l.g k).aN∧(l.g k).aN<(q.ar.length:Int))
 (hx:∀{s0:Int} {w:List Gate},dj q l [bw t] s0=some w→uZ q l [bw t] s0=w.length∧0≤bL w (fun y=>fS y t)∧bL w (fun y=>fS y t)<(w.length:Int)∧w.length<1000):
 ∃(x:Nat→AV) (bt bs c:Nat) (z:AV) (hk e:aw),Tidy hk∧h.nx≤hk.nx∧Has h hk∧hk.get bs=some (.cells [z] 30 false)∧bu e hk z ((ct q l [bw t] q.bad).map fun y=>kF y.2 t)∧e.nx=h.nx∧hk.get c=some .pG∧c≠bs∧h.nx≤c∧h.nx≤bs∧(ct q l [bw t] q.bad).length≤1000∧∀{ex:iC} {s':St},Ev env (cJ (d+12)) Tv ⟨tJ x bt bs,hk,[.rQ c],.no⟩ ex s'→Ev env (cJ (d+12)) nY ⟨((AV.agg [(AV.str q.name),(AV.int .i64 q.af),(AV.int .i64 q.ab),(AV.int .i64 q.aC),(AV.int .i64 q.aD),(AV.int .i64 q.bad),q.ao])::lv::(AV.int .i64 t)::jl 25),h,[],.no⟩ ex s':=by
 obtain ⟨h1,bD,bN,fX,aH,bZ⟩:=gu bH (aY.cells [(AV.str q.name),(AV.int .i64 q.af),(AV.int .i64 q.ab),(AV.int .i64 q.aC),(AV.int .i64 q.aD),(AV.int .i64 q.bad),q.ao] 26 false)
 have bk:Has h h1:=bZ
 obtain ⟨h2,iQ,fJ,uA,dh,dz⟩:=gu bN (aY.cells [(AV.int .i64 t)] 3 false)
 have fl:Has h h2:=bk.trans dz
 have ev0:=pk (d+12) X' ((AV.agg [(AV.str q.name),(AV.int .i64 q.af),(AV.int .i64 q.ab),(AV.int .i64 q.aC),(AV.int .i64 q.aD),(AV.int .i64 q.bad),q.ao])::lv::(AV.int .i64 t)::jl 25) h .normal h2 (NN bD (fun i=>(AV.ptr i 0))<|NN iQ (fun i=>(AV.ptr i 0))<|CC<|ZZ) (by kernel_rfl)
 obtain ⟨h3,s7,eZ,I4,oR,dL⟩:=gu fJ (aY.cells [AV.aK] 30 false)
 have fu:Has h h3:=fl.trans dL
 have ev1:=pk (d+12) Ya ((AV.agg [(AV.str q.name),(AV.int .i64 q.af),(AV.int .i64 q.ab),(AV.int .i64 q.aC),(AV.int .i64 q.aD),(AV.int .i64 q.bad),q.ao])::lv::(AV.int .i64 t)::(AV.ptr h.nx 0)::AV.undef::(AV.ptr h1.nx 0)::AV.aK::jl 21) h2 .normal h3 (NN s7 (fun i=>(AV.ptr i 0))<|ZZ) (by kernel_rfl)
 have k4:=xN (d:=d+11) t eZ
 obtain ⟨h5,afY,jJ,RY,Ai,Tx⟩:=gu eZ (aY.cells [(AV.int .i64 (bw t).time),(AV.int .i64 (bw t).aq),(AV.int .i64 (bw t).ak)] 67 false)
 have iP:Has h h5:=fu.trans Tx
 obtain ⟨bq7,bl8,bm9,ads,h6,Ar,mf,adt,jQ,Yc,adu,adv,aaI,ahq⟩:=aaE (d:=d+10) jJ q q.bad (lv:=lv) (rv:=(AV.slice h3.nx 0 1 1 false)) (aA.mono iP hq) hl.scalar (by rfl)
 have mg:Has h h6:=iP.trans jQ
 have Xy:AV.same 20 (AV.agg [(AV.str q.name),(AV.int .i64 q.af),(AV.int .i64 q.ab),(AV.int .i64 q.aC),(AV.int .i64 q.aD),(AV.int .i64 q.bad),q.ao]) (AV.agg [(AV.str q.name),(AV.int .i64 q.af),(AV.int .i64 q.ab),(AV.int .i64 q.aC),(AV.int .i64 q.aD),(AV.int .i64 q.bad),q.ao])=true:=dx 18 (hD (fun n=>iJ n _) (hD (fun n=>aG n _ _) (hD (fun n=>aG n _ _) (hD (fun n=>aG n _ _) (hD (fun n=>aG n _ _) (hD (fun n=>aG n _ _) (hD hq.2.same AF)))))))
 have ev2:=pk (d+12) Yb ((AV.agg [(AV.str q.name),(AV.int .i64 q.af),(AV.int .i64 q.ab),(AV.int .i64 q.aC),(AV.int .i64 q.aD),(AV.int .i64 q.bad),q.ao])::lv::(AV.int .i64 t)::(AV.ptr h.nx 0)::AV.undef::(AV.ptr h1.nx 0)::AV.aK::(AV.ptr h2.nx 0)::jl 20) h3 .normal h6 (MM (aB 26 0 (AV.agg [(AV.str q.name),(AV.int .i64 q.af),(AV.int .i64 q.ab),(AV.int .i64 q.aC),(AV.int .i64 q.aD),(AV.int .i64 q.bad),q.ao]) (dL _ _ (dz _ _ aH)) (by kernel_rfl))<|CN 2<|MM (aB 3 5 (AV.int .i64 q.bad) (dL _ _ (dz _ _ aH)) (by kernel_rfl))<|MM (aB 3 0 (AV.int .i64 t) (dL _ _ dh) (by kernel_rfl))<|EE k4<|NN afY (fun i=>(AV.slice i 0 1 1 false))<|EE Ar<|HH (aB 26 0 (AV.agg [(AV.str q.name),(AV.int .i64 q.af),(AV.int .i64 q.ab),(AV.int .i64 q.aC),(AV.int .i64 q.aD),(AV.int .i64 q.bad),q.ao]) (dL _ _ (dz _ _ aH)) (by kernel_rfl))<|HH Xy<|HH (aB 26 0 (AV.agg [(AV.str q.name),(AV.int .i64 q.af),(AV.int .i64 q.ab),(AV.int .i64 q.aC),(AV.int .i64 q.aD),(AV.int .i64 q.bad),q.ao]) (Tx _ _ (dL _ _ (dz _ _ aH))) (by kernel_rfl))<|HH Xy<|HH (aB 3 5 (AV.int .i64 q.bad) (dL _ _ (dz _ _ aH)) (by kernel_rfl))<|HH (show AV.same 20 (AV.int .i64 q.bad) (AV.int .i64 q.bad)=true from aG 19 _ _)<|HH (aB 3 5 (AV.int .i64 q.bad) (Tx _ _ (dL _ _ (dz _ _ aH))) (by kernel_rfl))<|HH (show AV.same 20 (AV.int .i64 q.bad) (AV.int .i64 q.bad)=true from aG 19 _ _)<|HH (aB 3 0 (AV.int .i64 t) (dL _ _ dh) (by kernel_rfl))<|HH (show AV.same 20 (AV.int .i64 t) (AV.int .i64 t)=true from aG 19 _ _)<|HH (show ∃o,h5.get h3.nx=some o∧aY.same o (aY.cells [(AV.int .i64 (bw t).time),(AV.int .i64 (bw t).aq),(AV.int .i64 (bw t).ak)] 67 false)=true from ⟨_,Ai,by simp [aY.same,dQ,AV.same]⟩)<|ZZ) (by kernel_rfl)
 have T1:=mf _ _ Yc
 obtain ⟨e,en,he⟩:=za h.nx
 obtain ⟨h7,n7⟩:=lX (h:=h6) .pG
 have y7:=fQ mf n7
 have x7:=lr n7
 let TS:List AV:=((AV.agg [(AV.str q.name),(AV.int .i64 q.af),(AV.int .i64 q.ab),(AV.int .i64 q.aC),(AV.int .i64 q.aD),(AV.int .i64 q.bad),q.ao])::lv::(AV.int .i64 t)::(AV.ptr h.nx 0)::AV.undef::(AV.ptr h1.nx 0)::AV.aK::(AV.ptr h2.nx 0)::AV.undef::AV.undef::(AV.agg [(AV.str q.name),(AV.int .i64 q.af),(AV.int .i64 q.ab),(AV.int .i64 q.aC),(AV.int .i64 q.aD),(AV.int .i64 q.bad),q.ao])::lv::(AV.ptr h.nx 5)::(AV.int .i64 q.bad)::(AV.int .i64 t)::(AV.agg [(AV.int .i64 (bw t).time),(AV.int .i64 (bw t).aq),(AV.int .i64 (bw t).ak)])::(AV.slice h3.nx 0 1 1 false)::(AV.func 42 [] [(AV.ptr bq7 0),(AV.ptr bm9 0),(AV.ptr ads 0),(AV.ptr bl8 0)])::jl 10)
 have eTS:TS=tJ (fun k=>TS.getD k .undef) h1.nx h2.nx:=by kernel_rfl
 obtain ⟨h8,n8⟩:=lX (h:=h7) (.loop .ready none TS (#[18,19]:Array Tmp).toList rN nG h6.nx)
 have y8:=fQ y7 n8
 have x8:=lr n8
 have K8:∀k w,h6.get k=some w→h8.get k=some w:=fun k w c=>fG y7 n8 (fG mf n7 c)
 have hi:PoI e t h2.nx h1.nx h7.nx (fun k=>TS.getD k .undef) h6.nx [] (fun k=>k=h2.nx∨k=h1.nx∨k=h7.nx∨¬bG AV.aK k) h8:=
  ⟨by simp,.aK,.inl ⟨.inl rfl,rfl⟩,by omega,by omega,K8 _ _ (jQ _ _ (Tx _ _ oR)),K8 _ _ (jQ _ _ (Tx _ _ (dL _ _ dh))),by rw[←eTS];exact jc n8,bG.nil _,bG.nil _,bG.nil _,fun k c=>absurd (bG.nil k) c,fun _=>Iff.rfl⟩
 have yl:=adq (d:=d) (e:=e) (t:=t) (bs:=h2.nx) (bt:=h1.nx) (lp:=h7.nx) (fun k=>TS.getD k .undef) h6.nx he o! o! o!
 obtain ⟨e0,e0n,_⟩:=za 0
 let g0:aw:=(h5.put h1.nx none).put h2.nx none
 have gg:∀k w,g0.get k=some w→h5.get k=some w∧k≠h1.nx∧k≠h2.nx:=fun k w c=>by
  have c:((h5.put h1.nx none).put h2.nx none).get k=some w:=c
  by_cases c2:k=h2.nx
  · subst c2;rw[aw.bU] at c;cases c
  · rw[aw.bx (Ne.symm c2)] at c
    by_cases c1:k=h1.nx
    · subst c1;rw[aw.bU] at c;cases c
    · rw[aw.bx (Ne.symm c1)] at c;exact ⟨c,c1,c2⟩
 have gk:∀k w,k≠h1.nx→k≠h2.nx→h5.get k=some w→g0.get k=some w:=fun k w c1 c2 c=>by
  show ((h5.put h1.nx none).put h2.nx none).get k=some w
  rw[aw.bx (Ne.symm c2),aw.bx (Ne.symm c1)];exact c
 have y0:Tidy g0:=fun k w c=>jJ _ _ (gg k w c).1
 have a0:Has h g0:=fun k w c=>by
  have:=bH _ _ c
  exact gk k w o! o! (iP _ _ c)
 have hr0:aQ g0 (AV.slice h3.nx 0 1 1 false) [bw t]:=bu.rows (h0:=h) (.inr ⟨by simp,h3.nx,false,rfl,by omega,gk _ _ o! o! Ai⟩) (by simp) (fun _ _=>trivial)
 have a8:Has g0 h8:=fun k w c=>K8 _ _ (jQ _ _ (gg k w c).1)
 have gn:∀k,k=h1.nx∨k=h2.nx→g0.get k=none:=fun k c=>by
  cases c3:g0.get k with
  | none=>rfl
  | some w=>have:=gg k w c3;omega
 obtain ⟨h9,P9,e9,y9,x9,i9,p9,l9⟩:=X6 (d:=d+1) (g:=g0) (h:=h8) (q:=q) (l:=l) (r:=[bw t]) (m:=q.bad) (lv:=lv) (rv:=(AV.slice h3.nx 0 1 1 false)) (b:=h7.nx) (bq:=bq7) (bm:=bm9) (br:=ads) (bl:=bl8) y0 (aA.mono a0 hq) (hl.has a0) hr0 E1 (by simp) hq8 VT o! (show h5.nx≤bq7 by omega) y8 a8 (show h5.nx≤h8.nx by omega) (K8 _ _ Yc) (K8 _ _ adv) (K8 _ _ aaI) (K8 _ _ adu) yl (fun a b c=>WM a b c) (fun {s0 w hk p op} ht hg=>⟨_,rfl,by
  obtain ⟨c1,c2,c3,c4⟩:=hx ht
  rw[c1]
  exact bu.rows (h0:=e0) (.inr ⟨fun c=>by have c:w=[]:=c;subst c;simp at c3;omega,p,op,rfl,by omega,hg⟩) (show w.length<2^60 by omega) (fun _ _=>trivial),(hx ht).2.1,(hx ht).2.2.1⟩) hi (fun k c=>by
  rcases c with c | c | c | c
  · exact ⟨gn k (.inr c),by omega⟩
  · exact ⟨gn k (.inl c),by omega⟩
  · exact ⟨xE y0 (show h5.nx≤k by omega),by omega⟩
  · exact absurd (bG.nil k) c)
 obtain ⟨hL,z,oz,en9,lx,gs9,gt9,gp9,n1,n2,n3,zl,pp⟩:=i9
 have er:=BJ (E:=env) (call:=cJ (d+12)) (ts:=TS) (ds:=[]) (f:= .tmp 17) (ps:= #[18,19]) (aS:=rN) (bd:=nG) (e:= .normal) rfl n7 n8 e9 gp9 (by intro c;cases c) rfl
 have vG:=kY (o:= .loop .exhausted none (tJ (fun k=>TS.getD k .undef) h1.nx h2.nx) [18,19] rN nG h6.nx) y9 gp9
 have np:∀k,k<h1.nx∨k=h6.nx→¬(k=h2.nx∨k=h1.nx∨k=h7.nx∨¬bG AV.aK k):=by
  rintro k c (p | p | p | p)
  · omega
  · omega
  · omega
  · exact p (bG.nil k)
 have a9:Has h h9:=fun k w c=>l9 _ _ (np k (.inl (by have:=bH _ _ c;omega))) (K8 _ _ (mg _ _ c))
 have gd:h9.get h6.nx=some .pG:=l9 _ _ (np _ (.inr rfl)) (fG y7 n8 (jc n7))
 refine ⟨fun k=>TS.getD k .undef,h1.nx,h2.nx,h6.nx,z,_,e,vG.1,(show h.nx≤h9.nx by omega),fun k w c=>vG.2.2 _ _ (by have:=bH _ _ c;omega) (a9 _ _ c),vG.2.2 _ _ o! gs9,bu.V2 oz vG n3,en,vG.2.2 _ _ o! gd,by omega,by omega,by omega,hL,fun {ex s'} ev5=>?_⟩
 rw[←eTS] at ev5
 rw[Tw]
 exact Ev.seq (zS (L':=((AV.agg [(AV.str q.name),(AV.int .i64 q.af),(AV.int .i64 q.ab),(AV.int .i64 q.aC),(AV.int .i64 q.aD),(AV.int .i64 q.bad),q.ao])::lv::(AV.int .i64 t)::(AV.ptr h.nx 0)::AV.undef::(AV.ptr h1.nx 0)::AV.aK::jl 21)) (by kernel_rfl) ev0) (Ev.seq (zS (L':=((AV.agg [(AV.str q.name),(AV.int .i64 q.af),(AV.int .i64 q.ab),(AV.int .i64 q.aC),(AV.int .i64 q.aD),(AV.int .i64 q.bad),q.ao])::lv::(AV.int .i64 t)::(AV.ptr h.nx 0)::AV.undef::(AV.ptr h1.nx 0)::AV.aK::(AV.ptr h2.nx 0)::jl 20)) (by kernel_rfl) ev1) (Ev.seq (Ev.seq (zS (L':=TS) (by kernel_rfl) ev2) (Ev.S_ er)) ev5))
theorem adw {c:Nat} {h:aw} (y:Tidy h):Tidy (shut [c] h):=fun k w gw=>by
 rw[nQ]
 by_cases e:k=c
 · subst e
   rw[shut,shut,aw.bU] at gw;cases gw
 · rw[kM (by simpa using e)] at gw;exact y _ _ gw
theorem bu.move {α:Type} [aA α] {g h h':aw} {z:AV} {l:List α} (o:bu g h z l) (k:∀p w,g.nx≤p→h.get p=some w→h'.get p=some w):bu g h' z l:=by
 rcases o with ⟨rfl | ⟨p,rfl,hp,hg⟩,rfl⟩ | ⟨hn,p,op,rfl,hp,hg⟩
 · exact .inl ⟨.inl rfl,rfl⟩
 · exact .inl ⟨.inr ⟨p,rfl,hp,k _ _ hp hg⟩,rfl⟩
 · exact .inr ⟨hn,p,op,rfl,hp,k _ _ hp hg⟩
def eW (q:ay) (l:List aM) (t:Int):List Span:=nq ((ct q l [bw t] q.bad).map fun y=>kF y.2 t)
theorem LP {d:Nat} {h:aw} {q:ay} {lv:AV} {l:List aM} {t:Int} (bH:Tidy h) (hq:aA.ok h q) (hl:aQ h lv l) (E1:l.length≤12) (hq8:q.ar.length≤8) (VT:∀k,k<l.length→0≤(l.g k).aN∧(l.g k).aN<(q.ar.length:Int))
 (hx:∀{s0:Int} {w:List Gate},dj q l [bw t] s0=some w→uZ q l [bw t] s0=w.length∧0≤bL w (fun y=>fS y t)∧bL w (fun y=>fS y t)<(w.length:Int)∧w.length<1000):
 ∃z hk,cJ (d+13) (.fn 17) [(AV.agg [(AV.str q.name),(AV.int .i64 q.af),(AV.int .i64 q.ab),(AV.int .i64 q.aC),(AV.int .i64 q.aD),(AV.int .i64 q.bad),q.ao]),lv,(AV.int .i64 t)] h= .ret z hk∧Tidy hk∧h.nx≤hk.nx∧Has h hk∧bu h hk z (eW q l t):=by
 obtain ⟨x,bt,bs,c,z,h1,e,y1,n1,a1,g1,o1,en,gc,ncb,hc,hb,hlen,go⟩:=aaH (d:=d) bH hq hl E1 hq8 VT hx
 obtain ⟨z2,h2,k2,y2,n2,o2,kp2⟩:=Tk (d:=d+10) y1 o1 (by rw[List.length_map];omega)
 have T1:=y1 _ _ gc
 have nzc:bG z c:=fun o n cc b q=>by
  subst q
  rcases o1 with ⟨q | ⟨p,q,hp,hg⟩,_⟩ | ⟨hn,p,op,q,hp,hg⟩
  · cases q
  · rw[(AV.slice.inj q).1,hg] at gc;cases gc
  · rw[(AV.slice.inj q).1,hg] at gc;cases gc
 have ev5:=pk_ (d+12) Tv (tJ x bt bs) h1 [.rQ c] .no .ret h2 (MM (aB 30 0 z g1 (by kernel_rfl))<|EE k2<|CC<|ZZ) (by kernel_rfl)
 have ev:=go ev5
 have gc2:=kp2 _ _ nzc gc
 have fn:=F1 (args:=[(AV.agg [(AV.str q.name),(AV.int .i64 q.af),(AV.int .i64 q.ab),(AV.int .i64 q.aC),(AV.int .i64 q.aD),(AV.int .i64 q.bad),q.ao]),lv,(AV.int .i64 t)]) (L:=[c]) (v:=z2) Try.func17 afW (by kernel_rfl) (.inr rfl) ev (by simp) (fun k hk=>by rw[List.mem_singleton.1 hk];exact gc2) (by kernel_rfl)
 have nz:∀k,k<h.nx→bG z k:=fun k hk=>o1.Zo o!
 have o3:bu h h2 z2 (eW q l t):=o2.le n1
 obtain ⟨hk,e1,q1⟩:=Ex (P:=fun hk=>Tidy hk∧h.nx≤hk.nx∧Has h hk∧bu h hk z2 (eW q l t)) rfl fn
  ⟨adw y2,by rw[nQ];omega,fun k w g=>by
   have:=bH _ _ g
   rw[kM (by simp;omega)];exact kp2 _ _ (nz k this) (a1 _ _ g),(o2.move fun p w hp g=>by rw[kM (by simp;omega)];exact g).le n1⟩
  (fun _ v=>⟨bH,Nat.le_refl _,Has.refl _,bu.s_ o3 v⟩)
 exact ⟨z2,hk,e1,q1⟩
end
end Go.Proofs.aJ
