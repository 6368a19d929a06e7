import Derived.Test.YtfllahfbmaafcaaW9
import Derived.Test.YtfllahfbmaafcaaW0
import Derived.Test.YtfllahfbmaafcaaW4
import Derived.Test.YtfllahfbmaafcaaW1
namespace Go.Proofs.aH
open Go.Proofs Ab
noncomputable section
set_option maxRecDepth 100000
set_option maxHeartbeats 4000000
set_option linter.unusedVariables false
set_option linter.unusedSimpArgs false
theorem Dj (m:Int):∀(k i:Nat),tF m k i=((List.range' i k).filter fun s=>decide (j9 ((s:Nat):Int)=m)).map fun s=> [AV.int .u64 ((s:Nat):Int)]
 | 0,i=>rfl
 | k+1,i=>by
   rw[tF,Dj m k (i+1),List.range'_succ,List.filter_cons]
   cases decide (j9 ((i:Nat):Int)=m)<;>rfl
theorem Ar (q:ay) (n:Nat):∀(k i:Nat) (C W:List Gate),iZ q n k i C=some W→W.length=C.length∧∀j,(W.g j).time=(C.g j).time
 | 0,i,C,W,e=>by
   rw[iZ] at e;cases e;exact ⟨rfl,fun _=>rfl⟩
 | k+1,i,C,W,e=>by
   rw[C4] at e
   cases h:decide (((C.set i (N7 q (C.g (i - 1)) (C.g i))).g i).ar<((C.set i (N7 q (C.g (i - 1)) (C.g i))).g i).ax) with
   | true=>rw[h,ao] at e;cases e
   | false=>
     rw[h,ai] at e
     obtain ⟨a,b⟩:=Ar q n k (i+1) _ W e
     refine ⟨by rw[a,List.length_set],fun j=>?_⟩
     rw[b j]
     by_cases w:i=j
     · subst w
       by_cases hi:i<C.length
       · rw[oT _ hi];rfl
       · rw[List.set_eq_of_length_le o!]
     · rw[mV _ w]
theorem As (q:ay):∀(k i:Nat) (C:List Gate),(ja q k i C).length=C.length∧∀j,((ja q k i C).g j).time=(C.g j).time
 | 0,i,C=>by rw[ja];exact ⟨rfl,fun _=>rfl⟩
 | k+1,i,C=>by
   rw[C5]
   obtain ⟨a,b⟩:=As q k (i+1) (C.set k (X5 q (C.g k) (C.g (k+1))))
   refine ⟨by rw[a,List.length_set],fun j=>?_⟩
   rw[b j]
   by_cases w:k=j
   · subst w
     by_cases hi:k<C.length
     · rw[oT _ hi];rfl
     · rw[List.set_eq_of_length_le o!]
   · rw[mV _ w]
theorem MB {q:ay} {l:List az} {r:List Gate} {s0:Int} {w:List Gate} (e:dG q l r s0=some w):w.length=(zu q l r s0).length∧∀g∈zu q l r s0,∃j,j<w.length∧(w.g j).time=g.time:=by
 rw[Of] at e
 obtain ⟨W,e1,rfl⟩:=Option.map_eq_some_iff.1 e
 obtain ⟨a1,a2⟩:=Ar q _ _ _ _ _ e1
 obtain ⟨b1,b2⟩:=As q ((zu q l r s0).length - 1) 0 W
 obtain ⟨p1,p2,p3⟩:=zo (L:=zu q l r s0) (by rw[xX];omega)
 have len:=p1.length_eq
 refine ⟨by omega,fun g hg=>?_⟩
 obtain ⟨j,hj,e2⟩:=List.mem_iff_getElem.1 (p1.symm.subset hg)
 exact ⟨j,by omega,by rw[b2,a2,nA hj,e2]⟩
theorem Yu {q:ay} {l:List az} {t:Int} (hl:l.length≤12) {s0:Int} {w:List Gate} (e:dG q l [bz t] s0=some w):uY q l [bz t] s0=w.length∧0≤bM w (fun y=>fK y t)∧bM w (fun y=>fK y t)<(w.length:Int)∧w.length<1000:=by
 obtain ⟨d1,d2⟩:=MB e
 obtain ⟨j,e1,e2,e3⟩:=Uk (w:=w) (t:=t) (d2 (bz t) (by rw[zu];simp))
 exact ⟨by rw[aeV,d1],by rw[e1];omega,by rw[e1];omega,by rw[d1,xX,List.length_singleton];omega⟩
section
variable {q:ay} {l:List az} (f:RF q l)
include f
theorem Bn {r:List Gate} {m:Int} {y:Int×List Gate}:y∈cn q l r m↔∃s:Nat,s<2^q.af.length∧(sz s:Int)=m∧y.1=((s:Nat):Int)∧dG q l r ((s:Nat):Int)=some y.2:=by
 have hp:=xB f.bad.2.2
 rw[cn,Oe f.bad.2.2,Dj,List.mem_filterMap]
 constructor
 · rintro ⟨a,ha,e⟩
   obtain ⟨s,hs,rfl⟩:=List.mem_map.1 ha
   obtain ⟨h1,h2⟩:=List.mem_filter.1 hs
   have h3:s<2^q.af.length:=by have:=List.mem_range'_1.1 h1;omega
   obtain ⟨w,e1,rfl⟩:=Option.map_eq_some_iff.1 (show (dG q l r ((s:Nat):Int)).map (fun w=>(((s:Nat):Int),w))=some y from e)
   exact ⟨s,h3,by rw[←Od o!];exact of_decide_eq_true h2,rfl,e1⟩
 · rintro ⟨s,h1,h2,h3,h4⟩
   refine ⟨[AV.int .u64 ((s:Nat):Int)],List.mem_map.2 ⟨s,List.mem_filter.2 ⟨List.mem_range'_1.2 ⟨Nat.zero_le _,by omega⟩,?_⟩,rfl⟩,?_⟩
   · rw[decide_eq_true_eq,Od o!];exact h2
   · show (dG q l r ((s:Nat):Int)).map (fun w=>(((s:Nat):Int),w))=some y
     rw[h4,Option.map_some,←h3]
variable {t:Int} (t0:0≤t) (t1:t≤100000)
include t0 t1
theorem Yv {s:Nat} (hs:s<256) {w:List Gate} (e:dG q l [bz t] ((s:Nat):Int)=some w):(j_ w t).aX≤(j_ w t).aG∧Bd (j_ w t):=by
 obtain ⟨_,_,_,_,h5,h6⟩:=Ht f t0 t1 hs e
 obtain ⟨r0,r1,f0,f1⟩:=f.xz
 have ag:ou q.aK q.aI (iK q l ((s:Nat):Int)):=fun i hi k hk=>h5 i ((ko f hs i).1 hi) k ((ko f hs k).1 hk)
 obtain ⟨v1,⟨b1,b2,b3,b4⟩,v3⟩:=at_mem f0 f1 r0 r1 (xA f ((s:Nat):Int)) t0 t1 (EV q l ((s:Nat):Int)) ag
 have same:∀x,((j_ w t).aX≤x∧x≤(j_ w t).aG)↔((vN q (iK q l ((s:Nat):Int)) t).aX≤x∧x≤(vN q (iK q l ((s:Nat):Int)) t).aG):=fun x=>by
  rw[h6,v3]
  exact ⟨fun h c hc=>h c ((ko f hs c).1 hc),fun h c hc=>h c ((ko f hs c).2 hc)⟩
 have a1:=(same (vN q (iK q l ((s:Nat):Int)) t).aX).2 ⟨Int.le_refl _,v1⟩
 have a2:=(same (vN q (iK q l ((s:Nat):Int)) t).aG).2 ⟨v1,Int.le_refl _⟩
 have a3:=(same (j_ w t).aX).1 ⟨Int.le_refl _,by omega⟩
 have a4:=(same (j_ w t).aG).1 ⟨by omega,Int.le_refl _⟩
 exact ⟨by omega,by omega,by omega,by omega,by omega⟩
theorem J6:dA q l t=rl q l t:=by
 have hp:=xB f.bad.2.2
 have afm:∀s∈(cn q l [bz t] q.bad).map fun y=>j_ y.2 t,s.aX≤s.aG∧Bd s:=fun s hs=>by
  obtain ⟨y,hy,rfl⟩:=List.mem_map.1 hs
  obtain ⟨n,n1,n2,n3,n4⟩:=(Bn f).1 hy
  exact Yv f t0 t1 o! n4
 obtain ⟨c1,i1⟩:=J4 (A:=(cn q l [bz t] q.bad).map fun y=>j_ y.2 t) (fun s hs=>(afm s hs).2) (fun s hs=>(afm s hs).1)
 obtain ⟨c2,i2⟩:=Aj f t0 t1
 refine Cy c1 c2 fun x=>?_
 rw[dA,i1,i2]
 constructor
 · rintro ⟨s,hs,hx⟩
   obtain ⟨y,hy,rfl⟩:=List.mem_map.1 hs
   obtain ⟨n,n1,n2,n3,n4⟩:=(Bn f).1 hy
   obtain ⟨_,_,_,_,h5,h6⟩:=Ht f t0 t1 o! n4
   exact ⟨n,n1,n2,h5,(h6 x).1 hx⟩
 · rintro ⟨n,n1,n2,h5,hx⟩
   have hr:∀g∈ [bz t],∃t,0≤t∧t≤100000∧g=bz t:=fun g hg=>by rw[List.mem_singleton] at hg;exact ⟨t,t0,t1,hg⟩
   have sp:=(E7 f (s:=n) o! hr).1
   cases e:dG q l [bz t] ((n:Nat):Int) with
   | none=>exact absurd h5 (sp.1 e)
   | some w=>
     obtain ⟨_,_,_,_,_,h6⟩:=Ht f t0 t1 o! e
     exact ⟨j_ w t,List.mem_map.2 ⟨(((n:Nat):Int),w),(Bn f).2 ⟨n,n1,n2,rfl,e⟩,rfl⟩,(h6 x).2 hx⟩
end
def J7:Code:=(Try.f7.body).getD .skip
theorem kq:Try.f7.body=some J7:=by kernel_rfl
def eT (q:ay) (l_:List az):Bool:=(bif (decide (100<((List.length q.name:Nat):Int))) then true else (bif (decide (6<((q.af.length:Nat):Int))) then (bif (decide (((q.af.length:Nat):Int)≤8)) then true else (bif (decide (20<((q.af.length:Nat):Int))) then true else (bif (decide (12<((l_.length:Nat):Int))) then (bif (decide (((l_.length:Nat):Int)≤64)) then true else (decide (80<((l_.length:Nat):Int)))) else (decide (80<((l_.length:Nat):Int)))))) else (bif (decide (20<((q.af.length:Nat):Int))) then true else (bif (decide (12<((l_.length:Nat):Int))) then (bif (decide (((l_.length:Nat):Int)≤64)) then true else (decide (80<((l_.length:Nat):Int)))) else (decide (80<((l_.length:Nat):Int)))))))
theorem UH {d:Nat} {h:au} {qA:AV} (q:ay) (l_:List az) (jh:aA.ok h q) (mS:aZ h qA l_) (bY:Tidy h):cW (d+1) (.fn 7) [(AV.agg [(AV.str q.name),(Zi q.aj),(Zi q.ah),(Zi q.aI),(Zi q.aK),(Zi q.bad),q.aB]),qA] h= .ret (AV.bool (eT q l_)) h:=by
 have Hd:=mS.small
 have ky:=jh.2.small
 obtain ⟨h1,cA,cq,jf,aY,ct⟩:=iQ bY (a_.cells [(AV.str q.name),(Zi q.aj),(Zi q.ah),(Zi q.aI),(Zi q.aK),(Zi q.bad),q.aB] 26 false)
 have bI:Has h h1:=ct
 have sn2:q.name.length<2^60:=jh.1
 have za:=fun {al ps} (k:Pk al _ ps)=>(NN cA (fun i=>(Pt i))<|CN 2<|MM (aM 9 0 (AV.str q.name) aY k!)<|CC<|VV (cg 3 false true .i64 ((List.length q.name:Nat):Int) 100)<|CC<|k:Pk _ [] ps)
 rcases Bool.eq_false_or_eq_true (decide (100<((List.length q.name:Nat):Int))) with f0 | f0
 · have j8:=of_decide_eq_true f0
   have e:eT q l_=true:=by simp only[eT,f0,ao,ai]
   rw[e]
   exact aC rfl (bx Try.func7 kq rfl (.inr rfl) (pk (d) _ _ h _ h1 (za<|BB f0<|BB f0<|BB f0<|BB f0<|BB f0<|BV f0 (pa true f0)<|CC<|TT<|TT<|TT<|TT<|CN 2<|TT<|TT<|TT<|TT<|TT<|CN 2<|TT<|TT<|TT<|CN 2<|ZZ) k!) k!) bI rfl
 · have j8:=of_decide_eq_false f0
   have ln4:dJ (some (.slice 45)) (some q.aB)=some (Zn q.af.length):=jh.2.len
   have HZ:=fun {al ps} (k:Pk al _ ps)=>(za<|BC f0<|BM f0 (aM 24 6 q.aB aY k!)<|BV f0 ln4<|BV f0 (cg 3 false true .i64 ((q.af.length:Nat):Int) 6)<|BC f0<|k:Pk _ [] ps)
   rcases Bool.eq_false_or_eq_true (decide (6<((q.af.length:Nat):Int))) with f1 | f1
   · have jg:=of_decide_eq_true f1
     have KL:dJ (some (.slice 45)) (some q.aB)=some (Zn q.af.length):=jh.2.len
     have Jw:=fun {al ps} (k:Pk al _ ps)=>(HZ<|BC f1<|BM f1 (aM 24 6 q.aB aY k!)<|BV f1 KL<|BV f1 (qg 3 false true .i64 ((q.af.length:Nat):Int) 8)<|BV f0 (pG (decide (((q.af.length:Nat):Int)≤8)) false f1)<|VV (ba (a:=some (AV.bool true)) (b:=some (AV.bool (decide (((q.af.length:Nat):Int)≤8)))) f0)<|CC<|k:Pk _ [] ps)
     rcases Bool.eq_false_or_eq_true (decide (((q.af.length:Nat):Int)≤8)) with f2 | f2
     · have nr:=of_decide_eq_true f2
       have e:eT q l_=true:=by simp only[eT,f0,f1,f2,ao,ai]
       rw[e]
       exact aC rfl (bx Try.func7 kq rfl (.inr rfl) (pk (d) _ _ h _ h1 (Jw<|BB f2<|BB f2<|BB f2<|BV f2 (pa true f2)<|CC<|TT<|TT<|TT<|TT<|TT<|CN 2<|TT<|TT<|TT<|CN 2<|ZZ) k!) k!) bI rfl
     · have nr:=of_decide_eq_false f2
       have J3:dJ (some (.slice 45)) (some q.aB)=some (Zn q.af.length):=jh.2.len
       have Jy:=fun {al ps} (k:Pk al _ ps)=>(Jw<|BC f2<|BM f2 (aM 24 6 q.aB aY k!)<|BV f2 J3<|BV f2 (cg 3 false true .i64 ((q.af.length:Nat):Int) 20)<|VV (ba (a:=some (AV.bool true)) (b:=some (AV.bool (decide (20<((q.af.length:Nat):Int))))) f2)<|CC<|k:Pk _ [] ps)
       rcases Bool.eq_false_or_eq_true (decide (20<((q.af.length:Nat):Int))) with f3 | f3
       · have jy:=of_decide_eq_true f3
         have e:eT q l_=true:=by simp only[eT,f0,f1,f2,f3,ao,ai]
         rw[e]
         exact aC rfl (bx Try.func7 kq rfl (.inr rfl) (pk (d) _ _ h _ h1 (Jy<|BB f3<|BB f3<|BB f3<|BB f3<|BV f3 (pa true f3)<|CC<|TT<|TT<|TT<|CN 2<|ZZ) k!) k!) bI rfl
       · have jy:=of_decide_eq_false f3
         have UI:dJ (some (.slice 43)) (some qA)=some (Zn l_.length):=mS.len
         have DQ:=fun {al ps} (k:Pk al _ ps)=>(Jy<|BC f3<|BV f3 UI<|BV f3 (cg 3 false true .i64 ((l_.length:Nat):Int) 12)<|BC f3<|k:Pk _ [] ps)
         rcases Bool.eq_false_or_eq_true (decide (12<((l_.length:Nat):Int))) with f4 | f4
         · have km:=of_decide_eq_true f4
           have UJ:dJ (some (.slice 43)) (some qA)=some (Zn l_.length):=mS.len
           have Cr:=fun {al ps} (k:Pk al _ ps)=>(DQ<|BC f4<|BV f4 UJ<|BV f4 (qg 3 false true .i64 ((l_.length:Nat):Int) 64)<|BV f3 (pG (decide (((l_.length:Nat):Int)≤64)) false f4)<|VV (ba (a:=some (AV.bool true)) (b:=some (AV.bool (decide (((l_.length:Nat):Int)≤64)))) f3)<|CC<|k:Pk _ [] ps)
           rcases Bool.eq_false_or_eq_true (decide (((l_.length:Nat):Int)≤64)) with f5 | f5
           · have zb:=of_decide_eq_true f5
             have e:eT q l_=true:=by simp only[eT,f0,f1,f2,f3,f4,f5,ao,ai]
             rw[e]
             exact aC rfl (bx Try.func7 kq rfl (.inr rfl) (pk (d) _ _ h _ h1 (Cr<|BB f5<|BB f5<|BV f5 (pa true f5)<|CC<|ZZ) k!) k!) bI rfl
           · have zb:=of_decide_eq_false f5
             have aie:dJ (some (.slice 43)) (some qA)=some (Zn l_.length):=mS.len
             have e:eT q l_=(decide (80<((l_.length:Nat):Int))):=by simp only[eT,f0,f1,f2,f3,f4,f5,ao,ai]
             rw[e]
             exact aC rfl (bx Try.func7 kq rfl (.inr rfl) (pk (d) _ _ h _ h1 (Cr<|BC f5<|BV f5 aie<|BV f5 (cg 3 false true .i64 ((l_.length:Nat):Int) 80)<|VV (ba (a:=some (AV.bool true)) (b:=some (AV.bool (decide (80<((l_.length:Nat):Int))))) f5)<|CC<|ZZ) k!) k!) bI rfl
         · have km:=of_decide_eq_false f4
           have UJ:dJ (some (.slice 43)) (some qA)=some (Zn l_.length):=mS.len
           have e:eT q l_=(decide (80<((l_.length:Nat):Int))):=by simp only[eT,f0,f1,f2,f3,f4,ao,ai]
           rw[e]
           exact aC rfl (bx Try.func7 kq rfl (.inr rfl) (pk (d) _ _ h _ h1 (DQ<|BB f4<|BB f4<|BB f4<|BV f3 (vG false f4)<|VV (pcf true false f3)<|CC<|FF<|CC<|FF<|VV UJ<|FF<|VV (cg 3 false true .i64 ((l_.length:Nat):Int) 80)<|CN 2<|ZZ) k!) k!) bI rfl
   · have jg:=of_decide_eq_false f1
     have KL:dJ (some (.slice 45)) (some q.aB)=some (Zn q.af.length):=jh.2.len
     have Tq:=fun {al ps} (k:Pk al _ ps)=>(HZ<|BB f1<|BB f1<|BB f1<|BB f1<|BV f0 (vG false f1)<|VV (pcf true false f0)<|CC<|FF<|CC<|FF<|MM (aM 24 6 q.aB aY k!)<|FF<|VV KL<|FF<|VV (cg 3 false true .i64 ((q.af.length:Nat):Int) 20)<|CN 2<|k:Pk _ [] ps)
     rcases Bool.eq_false_or_eq_true (decide (20<((q.af.length:Nat):Int))) with f2 | f2
     · have nr:=of_decide_eq_true f2
       have e:eT q l_=true:=by simp only[eT,f0,f1,f2,ao,ai]
       rw[e]
       exact aC rfl (bx Try.func7 kq rfl (.inr rfl) (pk (d) _ _ h _ h1 (Tq<|BB f2<|BB f2<|BB f2<|BB f2<|BV f2 (pa true f2)<|CC<|TT<|TT<|TT<|CN 2<|ZZ) k!) k!) bI rfl
     · have nr:=of_decide_eq_false f2
       have J3:dJ (some (.slice 43)) (some qA)=some (Zn l_.length):=mS.len
       have Ts:=fun {al ps} (k:Pk al _ ps)=>(Tq<|BC f2<|BV f2 J3<|BV f2 (cg 3 false true .i64 ((l_.length:Nat):Int) 12)<|BC f2<|k:Pk _ [] ps)
       rcases Bool.eq_false_or_eq_true (decide (12<((l_.length:Nat):Int))) with f3 | f3
       · have jy:=of_decide_eq_true f3
         have UI:dJ (some (.slice 43)) (some qA)=some (Zn l_.length):=mS.len
         have H5:=fun {al ps} (k:Pk al _ ps)=>(Ts<|BC f3<|BV f3 UI<|BV f3 (qg 3 false true .i64 ((l_.length:Nat):Int) 64)<|BV f2 (pG (decide (((l_.length:Nat):Int)≤64)) false f3)<|VV (ba (a:=some (AV.bool true)) (b:=some (AV.bool (decide (((l_.length:Nat):Int)≤64)))) f2)<|CC<|k:Pk _ [] ps)
         rcases Bool.eq_false_or_eq_true (decide (((l_.length:Nat):Int)≤64)) with f4 | f4
         · have km:=of_decide_eq_true f4
           have e:eT q l_=true:=by simp only[eT,f0,f1,f2,f3,f4,ao,ai]
           rw[e]
           exact aC rfl (bx Try.func7 kq rfl (.inr rfl) (pk (d) _ _ h _ h1 (H5<|BB f4<|BB f4<|BV f4 (pa true f4)<|CC<|ZZ) k!) k!) bI rfl
         · have km:=of_decide_eq_false f4
           have UJ:dJ (some (.slice 43)) (some qA)=some (Zn l_.length):=mS.len
           have e:eT q l_=(decide (80<((l_.length:Nat):Int))):=by simp only[eT,f0,f1,f2,f3,f4,ao,ai]
           rw[e]
           exact aC rfl (bx Try.func7 kq rfl (.inr rfl) (pk (d) _ _ h _ h1 (H5<|BC f4<|BV f4 UJ<|BV f4 (cg 3 false true .i64 ((l_.length:Nat):Int) 80)<|VV (ba (a:=some (AV.bool true)) (b:=some (AV.bool (decide (80<((l_.length:Nat):Int))))) f4)<|CC<|ZZ) k!) k!) bI rfl
       · have jy:=of_decide_eq_false f3
         have UI:dJ (some (.slice 43)) (some qA)=some (Zn l_.length):=mS.len
         have e:eT q l_=(decide (80<((l_.length:Nat):Int))):=by simp only[eT,f0,f1,f2,f3,ao,ai]
         rw[e]
         exact aC rfl (bx Try.func7 kq rfl (.inr rfl) (pk (d) _ _ h _ h1 (Ts<|BB f3<|BB f3<|BB f3<|BV f2 (vG false f3)<|VV (pcf true false f2)<|CC<|FF<|CC<|FF<|VV UI<|FF<|VV (cg 3 false true .i64 ((l_.length:Nat):Int) 80)<|CN 2<|ZZ) k!) k!) bI rfl
theorem uq {d:Nat} {h:au}:cW (d+1) (.fn 8) [] h= .ret (.bool true) h:=by
 have e:M0 8 [] h=some (.bool true,h):=rfl
 show eO env M0 (d+1) (.fn 8) _ h=_
 simp only[eO,e]
theorem J8 {d:Nat} {h:au} {qA:AV} (q:ay) (l_:List az) (t:Int) (jh:aA.ok h q) (mS:aZ h qA l_) (mM:∀i,i<l_.length→0≤(l_.g i).aD∧(l_.g i).aD<(q.af.length:Int)) (Ju:l_.length≤12) (GW:q.af.length≤8) (bY:Tidy h):∃z hk,cW (d+13) (.fn 35) [(AV.agg [(AV.str q.name),(Zi q.aj),(Zi q.ah),(Zi q.aI),(Zi q.aK),(Zi q.bad),q.aB]),qA,(Zi t)] h= .ret z hk∧Grow h hk∧(aZ hk z (dA q l_ t)∧bC h hk z (dA q l_ t)):=by
 obtain ⟨z,hk,e,y,n,a,o⟩:=MA (d:=d) (t:=t) bY jh mS Ju GW mM (fun e=>Yu Ju e)
 refine ⟨z,hk,e,⟨y,a,n⟩,bC.rows o ?_ (fun _ _=>trivial),o⟩
 have:∀(S:List Span) (k i:Nat) (L:List Span),(oX S k i L).length≤L.length+k:=by
  intro S k
  induction k with
  | zero=>intro i L;rw[oX];omega
  | succ k ih=>
    intro i L
    rw[oX]
    have h1:=ih (i+1) (L++[S.g i])
    rw[List.length_append,List.length_singleton] at h1
    have h2:=ih (i+1)
    cases decide (0≤(((L.length:Nat):Int) - 1)) with
    | false=>simp only[ai];omega
    | true=>
      rw[ao]
      cases decide ((S.g i).aX≤(IntKind.i64.wrap (((L.g (((L.length:Nat):Int) - 1).toNat).aG)+1)))
      · rw[ai];omega
      · rw[ao]
        have:=h2 (L.set (((L.length:Nat):Int) - 1).toNat ({(L.g (((L.length:Nat):Int) - 1).toNat) with aG:=(imax (L.g (((L.length:Nat):Int) - 1).toNat).aG (S.g i).aG)}:Span))
        rw[List.length_set] at this;omega
 have h1:=this (kR ((cn q l_ [bz t] q.bad).map fun y=>j_ y.2 t)) (kR ((cn q l_ [bz t] q.bad).map fun y=>j_ y.2 t)).length 0 []
 rw[kS,List.length_map] at h1
 have h2:(cn q l_ [bz t] q.bad).length≤2^q.af.length:=by
  rw[cn,Oe GW,Dj]
  refine Nat.le_trans (List.length_filterMap_le _ _) ?_
  rw[List.length_map]
  refine Nat.le_trans (List.length_filter_le _ _) ?_
  rw[List.length_range'];exact Nat.le_refl _
 have h3:=xB GW
 rw[dA,mW,kS,List.length_map]
 rw[List.length_nil] at h1
 omega
theorem Yw {q:ay} {l:List az} (h:eT q l=false):l.length≤12∨64<l.length:=by
 rw[eT] at h
 by_cases a:(12:Int)<((l.length:Nat):Int)
 · by_cases b:((l.length:Nat):Int)≤64
   · exfalso
     rw[decide_eq_true a,decide_eq_true b] at h
     revert h
     cases decide (100<((List.length q.name:Nat):Int))<;>cases decide (6<((q.af.length:Nat):Int))<;>cases decide (((q.af.length:Nat):Int)≤8)<;>cases decide (20<((q.af.length:Nat):Int))<;>intro h<;>cases h
   · exact .inr o!
 · exact .inl o!
theorem J9 {q:ay} {l:List az} {t:Int} (h:cm q l t=0):cz q l=0∧gu t=true:=by
 rw[cm,jE] at h
 by_cases a:cz q l=0
 · rw[decide_eq_true a] at h
   refine ⟨a,?_⟩
   cases b:gu t with
   | true=>rfl
   | false=>rw[b] at h;cases h
 · rw[decide_eq_false a] at h
   exact absurd h a
theorem lR {q:ay} {l:List az} {t:Int} (h:cm q l t=0) (m:l.length≤12∨64<l.length):(∀i,i<l.length→0≤(l.g i).aD∧(l.g i).aD<(q.af.length:Int))∧l.length≤12∧q.af.length≤8:=by
 obtain ⟨a,b,c⟩:=Cv (J9 h).1
 rcases m with d | d
 · exact ⟨a,d,c⟩
 · omega
def A_:Code:=(Try.f13.body).getD .skip
theorem ya:Try.f13.body=some A_:=by kernel_rfl
def aP (q:ay) (l_:List az) (t:Int):List Span×Int:=(bif (!decide ((cm q l_ t)=0)) then ([],(cm q l_ t)) else ((dA q l_ t),0))
theorem Hx {d:Nat} {h:au} {qA:AV} (q:ay) (l_:List az) (t:Int) (jh:aA.ok h q) (mS:aZ h qA l_) (mM:l_.length≤12∨64<l_.length) (bY:Tidy h):∃z0 hk,cW (d+14) (.fn 13) [(AV.agg [(AV.str q.name),(Zi q.aj),(Zi q.ah),(Zi q.aI),(Zi q.aK),(Zi q.bad),q.aB]),qA,(Zi t)] h= .ret (AV.tuple [z0,(Zi (aP q l_ t).2)]) hk∧Grow h hk∧(aZ hk z0 ((aP q l_ t).1)∧bC h hk z0 (aP q l_ t).1):=by
 have Hd:=mS.small
 have ky:=jh.2.small
 obtain ⟨h1,cA,cq,jf,aY,ct⟩:=iQ bY (a_.cells [(AV.str q.name),(Zi q.aj),(Zi q.ah),(Zi q.aI),(Zi q.aK),(Zi q.bad),q.aB] 26 false)
 have bI:Has h h1:=ct
 have k2:=CQ (d:=d+1) q l_ t (aA.mono bI jh) (mS.has bI) cq
 rcases Bool.eq_false_or_eq_true (!decide ((cm q l_ t)=0)) with f0 | f0
 · have j8:=EM f0
   have e:aP q l_ t=([],(cm q l_ t)):=by simp only[aP,f0,ao,ai]
   rw[e]
   have Hy:bC h h1 AV.aQ ([]:List Span):= .inl ⟨.inl rfl,rfl⟩
   exact ⟨AV.aQ,ma rfl (bx Try.func13 ya rfl (.inr rfl) (pk (d+13) _ _ h _ h1 (NN cA (fun i=>(Pt i))<|CN 2<|MM (aM 26 0 (AV.agg [(AV.str q.name),(Zi q.aj),(Zi q.ah),(Zi q.aI),(Zi q.aK),(Zi q.bad),q.aB]) aY k!)<|CN 2<|EE k2<|CN 2<|VV (jw 31 false true .i64 (cm q l_ t) 0)<|BB f0<|CN 3<|ZZ) k!) k!) bY ⟨cq,bI,by omega⟩ (P:=fun hh=>(aZ hh AV.aQ ([]:List Span)∧bC h hh AV.aQ ([]:List Span))) ⟨bC.rows Hy (by first | omega | decide) (fun y hy=>by cases hy),Hy⟩ fun v=>⟨bC.S4 Hy (uh v (by simp)),bC.Jv Hy (uh v (by simp))⟩⟩
 · have j8:=EN f0
   obtain ⟨z4,h6,ab9,acd,fz5,aif⟩:=J8 (d:=d) q l_ t (aA.mono bI jh) (mS.has bI) (by first | omega | exact (lR (by assumption) mM).1 | exact (lR (by assumption) mM).2.1 | exact (lR (by assumption) mM).2.2) (by first | omega | exact (lR (by assumption) mM).1 | exact (lR (by assumption) mM).2.1 | exact (lR (by assumption) mM).2.2) (by first | omega | exact (lR (by assumption) mM).1 | exact (lR (by assumption) mM).2.1 | exact (lR (by assumption) mM).2.2) cq
   have mh:=acd.y
   have aca:h1.nx≤h6.nx:=acd.n
   have nu:Has h h6:=bI.trans acd.a
   have ajt:=fz5.small
   have e:aP q l_ t=((dA q l_ t),0):=by simp only[aP,f0,ao,ai]
   rw[e]
   have Hy:bC h h6 z4 (dA q l_ t):=bC.le (h0:=h) aif o!
   exact ⟨z4,ma rfl (bx Try.func13 ya rfl (.inr rfl) (pk (d+13) _ _ h _ h6 (NN cA (fun i=>(Pt i))<|CN 2<|MM (aM 26 0 (AV.agg [(AV.str q.name),(Zi q.aj),(Zi q.ah),(Zi q.aI),(Zi q.aK),(Zi q.bad),q.aB]) aY k!)<|CN 2<|EE k2<|CN 2<|VV (jw 31 false true .i64 (cm q l_ t) 0)<|BM f0 (aM 26 0 (AV.agg [(AV.str q.name),(Zi q.aj),(Zi q.ah),(Zi q.aI),(Zi q.aK),(Zi q.bad),q.aB]) aY k!)<|CN 2<|EE ab9<|CN 2<|ZZ) k!) k!) bY ⟨mh,nu,by omega⟩ (P:=fun hh=>(aZ hh z4 (dA q l_ t)∧bC h hh z4 (dA q l_ t))) ⟨bC.rows Hy (by first | omega | decide) (fz5.GU),Hy⟩ fun v=>⟨bC.S4 Hy (uh v (by simp)),bC.Jv Hy (uh v (by simp))⟩⟩
theorem pL {q:ay} {l:List az} (f:RF q l) {t:Int} (t0:0≤t) (t1:t≤100000):Canon (dA q l t)∧∀x,we (dA q l t) x↔∃s,s<2^q.af.length∧(sz s:Int)=q.bad∧A0 q l s∧Wc q l s t x:=by
 rw[J6 f t0 t1];exact Aj f t0 t1
theorem Yx {q:ay} {l:List az} {t:Int} (h:cm q l t=0):RF q l∧0≤t∧t≤100000:=by
 obtain ⟨a,b⟩:=J9 h
 exact ⟨EW a,LY (by rw[←Hc];exact b)⟩
theorem MC {q:ay} {l:List az} {t:Int} (h:(aP q l t).2=0):cm q l t=0:=by
 rw[aP] at h
 by_cases a:cm q l t=0
 · exact a
 · rw[decide_eq_false a] at h;exact h
theorem Ol {q:ay} {l:List az} {t:Int} (h:(aP q l t).2=0):RF q l∧(0≤t∧t≤100000)∧(aP q l t).1=dA q l t:=by
 have a:=MC h
 obtain ⟨f,t0⟩:=Yx a
 refine ⟨f,t0,?_⟩
 rw[aP,decide_eq_true a];rfl
theorem Z2 (q:ay) (l:List az):∀(k i:Nat),i+k=l.length→(∀j,j<l.length→dV q (l.g j)=0)→cy q l k i 0=0
 | 0,_,_,_=>rfl
 | k+1,i,e,h=>by
   rw[cy]
   simp only[decide_true,ao]
   rw[h i o!]
   exact Z2 q l k (i+1) o! h
theorem MD {q:ay} {l:List az} (a:aE q=0) (b:l.length≤64) (c:∀i,i<l.length→dV q (l.g i)=0):cz q l=0:=by
 rw[cz,decide_eq_true a,ao,decide_eq_false (show ¬(64:Int)<((l.length:Nat):Int) by omega),ai,a]
 exact Z2 q l _ _ o! c
theorem PW {q:ay} {l:List az} {t:Int} (a:cz q l=0) (b:gu t=true):cm q l t=0:=by
 rw[cm,jE,decide_eq_true a,b];rfl
theorem UK {q:ay} {l:List az} {t:Int} (a:cz q l=0) (b:gu t=true):(aP q l t).2=0:=by
 rw[aP,decide_eq_true (PW a b)];rfl
theorem UL {q:ay} (h:aE q=0) {j:Nat} (hj:j<q.af.length):bD (q.af.g j)=0:=by
 have e:=h
 rw[aE] at e
 obtain ⟨_,e⟩:=hT (by decide) e
 obtain ⟨_,e⟩:=hT (by decide) e
 obtain ⟨_,e⟩:=hT (by decide) e
 obtain ⟨_,e⟩:=hT (by decide) e
 obtain ⟨_,e⟩:=hT (by decide) e
 obtain ⟨_,e⟩:=hT (by decide) e
 obtain ⟨_,e⟩:=hT (by decide) e
 obtain ⟨_,e⟩:=hT (by decide) e
 obtain ⟨_,e⟩:=hT (by decide) e
 obtain ⟨_,e⟩:=hT (by decide) e
 obtain ⟨_,e⟩:=hT (by decide) e
 have hz:bO q q.af.length 0=none:=by
  cases hc:bO q q.af.length 0 with
  | none=>rfl
  | some r=>rw[hc] at e;exact absurd (hc.trans (congrArg some e)) (Tj q _ _ fun _ _=>trivial)
 exact Ti q _ _ hz j (Nat.zero_le _) o!
theorem Canon.gap {l:List Span}:∀{r:Span},Canon l→r∈l→¬we l (r.aG+1):=by
 induction l with
 | nil=>intro r _ h;cases h
 | cons s l ih=>
   intro r c hr h
   have hb:=c.beyond
   have hh:=c.head
   rcases List.mem_cons.1 hr with rfl | hr
   · exact c.ends.2.2.1 h
   · rcases eK.1 h with h | h
     · have:=hb r hr
       have:r.aX≤r.aG:=by
        have:∀{m:List Span},Canon m→∀x∈m,x.aX≤x.aG:=by
         intro m
         induction m with
         | nil=>intro _ x hx;cases hx
         | cons a m ih=>intro c x hx;rcases List.mem_cons.1 hx with rfl | hx;exact c.head;exact ih c.tail x hx
        exact this c.tail r hr
       omega
     · exact ih c.tail hr h
theorem Canon.some {m:List Span}:Canon m→∀x∈m,x.aX≤x.aG:=by
 induction m with
 | nil=>intro _ x hx;cases hx
 | cons a m ih=>
   intro c x hx
   rcases List.mem_cons.1 hx with rfl | hx
   · exact c.head
   · exact ih c.tail x hx
theorem Canon.within {a b:List Span} (ca:Canon a) (cb:Canon b) (h:∀x,we a x→we b x):∀s∈a,∃r∈b,r.aX≤s.aX∧s.aG≤r.aG:=by
 intro s hs
 have hh:=ca.some s hs
 obtain ⟨r,hr,h1,h2⟩:=h s.aX ⟨s,hs,Int.le_refl _,hh⟩
 refine ⟨r,hr,h1,?_⟩
 by_cases e:s.aG≤r.aG
 · exact e
 · exact absurd (h (r.aG+1) ⟨s,hs,by omega,by omega⟩) (cb.gap hr)
theorem fp (n aX aG:Int) (h0: -1000000000000≤aX) (h1:aX≤aG) (h2:aG≤1000000000000):aX≤ab n aX aG∧ab n aX aG≤aG:=by
 rw[ab]
 have m:=modn (a:=n) (b:=aG - aX+1) o! o!
 generalize Int.tmod (IntKind.i64.wrap ((Int.tmod n ((aG - aX)+1))+((aG - aX)+1))) ((aG - aX)+1)=k at m ⊢
 rw[wrap_i64 o! o!]
 omega
theorem Om {q:ay} (h:aE q=0) {j:Nat} (hj:j<q.af.length):0≤(q.af.g j).acc∧(q.af.g j).acc≤1000000000∧0≤(q.af.g j).bP∧(q.af.g j).bP≤1000000000∧0≤(q.af.g j).since∧(q.af.g j).since≤100000:=by
 have f:RF q []:=EW (MD h (by decide) fun i hi=>by cases hi)
 exact f.aD j hj
theorem J_ {q:ay} (h:aE q=0) {j:Nat} (hj:j<q.af.length) {t:Int} (t0:0≤t) (t1:t≤100000):bh (q.af.g j) t=(dy (q.af.g j) t,0):=by
 rw[bh,UL h hj,ff,decide_eq_true t0,decide_eq_true t1];rfl
theorem UM {q:ay} (h:aE q=0) {j:Nat} (hj:j<q.af.length) {t:Int} (t0:0≤t) (t1:t≤100000):0≤(bh (q.af.g j) t).1∧(bh (q.af.g j) t).1≤102000000000:=by
 rw[J_ h hj t0 t1];exact qm (Om h hj) t0 t1
end
end Go.Proofs.aH
