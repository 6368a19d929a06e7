import Derived.Test.YtfllahfbmaafcaaW9
import Derived.Test.YtfllahfbmaafcaaW0
import Derived.Test.YtfllahfbmaafcaaW4
import Derived.Test.YtfllahfbmaafcaaW1
namespace Go.Proofs.aG
open Go.Proofs Ab
noncomputable section
set_option maxRecDepth 100000
set_option maxHeartbeats 4000000
set_option linter.unusedVariables false
set_option linter.unusedSimpArgs false
theorem CP (m:Int):∀(k i:Nat),th m k i=((List.range' i k).filter fun s=>decide (jX ((s:Nat):Int)=m)).map fun s=> [AV.int .u64 ((s:Nat):Int)]
 | 0,i=>rfl
 | k+1,i=>by
   rw[th,CP m k (i+1),List.range'_succ,List.filter_cons]
   cases decide (jX ((i:Nat):Int)=m)<;>rfl
theorem z7 (q:ay) (n:Nat):∀(k i:Nat) (C W:List Gate),iI q n k i C=some W→W.length=C.length∧∀j,(W.g j).time=(C.g j).time
 | 0,i,C,W,e=>by
   rw[iI] at e;cases e;exact ⟨rfl,fun _=>rfl⟩
 | k+1,i,C,W,e=>by
   rw[Cu] at e
   cases h:decide (((C.set i (NA q (C.g (i - 1)) (C.g i))).g i).ar<((C.set i (NA q (C.g (i - 1)) (C.g i))).g i).ax) with
   | true=>rw[h,ak] at e;cases e
   | false=>
     rw[h,ah] at e
     obtain ⟨a,b⟩:=z7 q n k (i+1) _ W e
     refine ⟨by rw[a,List.length_set],fun j=>?_⟩
     rw[b j]
     by_cases w:i=j
     · subst w
       by_cases hi:i<C.length
       · rw[oM _ hi];rfl
       · rw[List.set_eq_of_length_le o!]
     · rw[mP _ w]
theorem z8 (q:ay):∀(k i:Nat) (C:List Gate),(iJ q k i C).length=C.length∧∀j,((iJ q k i C).g j).time=(C.g j).time
 | 0,i,C=>by rw[iJ];exact ⟨rfl,fun _=>rfl⟩
 | k+1,i,C=>by
   rw[Cv]
   obtain ⟨a,b⟩:=z8 q k (i+1) (C.set k (W7 q (C.g k) (C.g (k+1))))
   refine ⟨by rw[a,List.length_set],fun j=>?_⟩
   rw[b j]
   by_cases w:k=j
   · subst w
     by_cases hi:k<C.length
     · rw[oM _ hi];rfl
     · rw[List.set_eq_of_length_le o!]
   · rw[mP _ w]
theorem L8 {q:ay} {l:List az} {r:List Gate} {s0:Int} {w:List Gate} (e:dI q l r s0=some w):w.length=(zi q l r s0).length∧∀g∈zi q l r s0,∃j,j<w.length∧(w.g j).time=g.time:=by
 rw[NL] at e
 obtain ⟨W,e1,rfl⟩:=Option.map_eq_some_iff.1 e
 obtain ⟨a1,a2⟩:=z7 q _ _ _ _ _ e1
 obtain ⟨b1,b2⟩:=z8 q ((zi q l r s0).length - 1) 0 W
 obtain ⟨p1,p2,p3⟩:=zd (L:=zi q l r s0) (by rw[xP];omega)
 have len:=p1.length_eq
 refine ⟨by omega,fun g hg=>?_⟩
 obtain ⟨j,hj,e2⟩:=List.mem_iff_getElem.1 (p1.symm.subset hg)
 exact ⟨j,by omega,by rw[b2,a2,nf hj,e2]⟩
theorem Xy {q:ay} {l:List az} {t:Int} (hl:l.length≤18) {s0:Int} {w:List Gate} (e:dI q l [bu t] s0=some w):uJ q l [bu t] s0=w.length∧0≤bL w (fun y=>fC y t)∧bL w (fun y=>fC y t)<(w.length:Int)∧w.length<1000:=by
 obtain ⟨d1,d2⟩:=L8 e
 obtain ⟨j,e1,e2,e3⟩:=TA (w:=w) (t:=t) (d2 (bu t) (by rw[zi];simp))
 exact ⟨by rw[ael,d1],by rw[e1];omega,by rw[e1];omega,by rw[d1,xP,List.length_singleton];omega⟩
section
variable {q:ay} {l:List az} (f:RF q l)
include f
theorem GX {r:List Gate} {m:Int} {y:Int×List Gate}:y∈kq q l r m↔∃s:Nat,s<2^q.ae.length∧(sz s:Int)=m∧y.1=((s:Nat):Int)∧dI q l r ((s:Nat):Int)=some y.2:=by
 have hp:=AX f.bad.2.2
 rw[kq,NK f.bad.2.2,CP,List.mem_filterMap]
 constructor
 · rintro ⟨a,ha,e⟩
   obtain ⟨s,hs,rfl⟩:=List.mem_map.1 ha
   obtain ⟨h1,h2⟩:=List.mem_filter.1 hs
   have h3:s<2^q.ae.length:=by have:=List.mem_range'_1.1 h1;omega
   obtain ⟨w,e1,rfl⟩:=Option.map_eq_some_iff.1 (show (dI q l r ((s:Nat):Int)).map (fun w=>(((s:Nat):Int),w))=some y from e)
   exact ⟨s,h3,by rw[←NJ o!];exact of_decide_eq_true h2,rfl,e1⟩
 · rintro ⟨s,h1,h2,h3,h4⟩
   refine ⟨[AV.int .u64 ((s:Nat):Int)],List.mem_map.2 ⟨s,List.mem_filter.2 ⟨List.mem_range'_1.2 ⟨Nat.zero_le _,by omega⟩,?_⟩,rfl⟩,?_⟩
   · rw[decide_eq_true_eq,NJ o!];exact h2
   · show (dI q l r ((s:Nat):Int)).map (fun w=>(((s:Nat):Int),w))=some y
     rw[h4,Option.map_some,←h3]
variable {t:Int} (t0:0≤t) (t1:t≤100000)
include t0 t1
theorem Xz {s:Nat} (hs:s<256) {w:List Gate} (e:dI q l [bu t] ((s:Nat):Int)=some w):(jY w t).aU≤(jY w t).aF∧Bd (jY w t):=by
 obtain ⟨_,_,_,_,h5,h6⟩:=GU f t0 t1 hs e
 obtain ⟨r0,r1,f0,f1⟩:=f.IY
 have ag:nY q.aJ q.aI (iA q l ((s:Nat):Int)):=fun i hi k hk=>h5 i ((j_ f hs i).1 hi) k ((j_ f hs k).1 hk)
 obtain ⟨v1,⟨b1,b2,b3,b4⟩,v3⟩:=at_mem f0 f1 r0 r1 (xn f ((s:Nat):Int)) t0 t1 (Es q l ((s:Nat):Int)) ag
 have same:∀x,((jY w t).aU≤x∧x≤(jY w t).aF)↔((vB q (iA q l ((s:Nat):Int)) t).aU≤x∧x≤(vB q (iA q l ((s:Nat):Int)) t).aF):=fun x=>by
  rw[h6,v3]
  exact ⟨fun h c hc=>h c ((j_ f hs c).1 hc),fun h c hc=>h c ((j_ f hs c).2 hc)⟩
 have a1:=(same (vB q (iA q l ((s:Nat):Int)) t).aU).2 ⟨Int.le_refl _,v1⟩
 have a2:=(same (vB q (iA q l ((s:Nat):Int)) t).aF).2 ⟨v1,Int.le_refl _⟩
 have a3:=(same (jY w t).aU).1 ⟨Int.le_refl _,by omega⟩
 have a4:=(same (jY w t).aF).1 ⟨by omega,Int.le_refl _⟩
 exact ⟨by omega,by omega,by omega,by omega,by omega⟩
theorem Js:dM q l t=qW q l t:=by
 have hp:=AX f.bad.2.2
 have aeP:∀s∈(kq q l [bu t] q.bad).map fun y=>jY y.2 t,s.aU≤s.aF∧Bd s:=fun s hs=>by
  obtain ⟨y,hy,rfl⟩:=List.mem_map.1 hs
  obtain ⟨n,n1,n2,n3,n4⟩:=(GX f).1 hy
  exact Xz f t0 t1 o! n4
 obtain ⟨c1,i1⟩:=Jr (A:=(kq q l [bu t] q.bad).map fun y=>jY y.2 t) (fun s hs=>(aeP s hs).2) (fun s hs=>(aeP s hs).1)
 obtain ⟨c2,i2⟩:=zV f t0 t1
 refine B9 c1 c2 fun x=>?_
 rw[dM,i1,i2]
 constructor
 · rintro ⟨s,hs,hx⟩
   obtain ⟨y,hy,rfl⟩:=List.mem_map.1 hs
   obtain ⟨n,n1,n2,n3,n4⟩:=(GX f).1 hy
   obtain ⟨_,_,_,_,h5,h6⟩:=GU f t0 t1 o! n4
   exact ⟨n,n1,n2,h5,(h6 x).1 hx⟩
 · rintro ⟨n,n1,n2,h5,hx⟩
   have hr:∀g∈ [bu t],∃t,0≤t∧t≤100000∧g=bu t:=fun g hg=>by rw[List.mem_singleton] at hg;exact ⟨t,t0,t1,hg⟩
   have sp:=(EI f (s:=n) o! hr).1
   cases e:dI q l [bu t] ((n:Nat):Int) with
   | none=>exact absurd h5 (sp.1 e)
   | some w=>
     obtain ⟨_,_,_,_,_,h6⟩:=GU f t0 t1 o! e
     exact ⟨jY w t,List.mem_map.2 ⟨(((n:Nat):Int),w),(GX f).2 ⟨n,n1,n2,rfl,e⟩,rfl⟩,(h6 x).2 hx⟩
end
def Jt:Code:=(Try.f7.body).getD .skip
theorem kf:Try.f7.body=some Jt:=by kernel_rfl
def eV (q:ay) (l_:List az):Bool:=(bif (decide (100<((List.length q.name:Nat):Int))) then true else (bif (decide (6<((q.ae.length:Nat):Int))) then (bif (decide (((q.ae.length:Nat):Int)≤8)) then true else (bif (decide (20<((q.ae.length:Nat):Int))) then true else (bif (decide (12<((l_.length:Nat):Int))) then (bif (decide (((l_.length:Nat):Int)≤64)) then true else (decide (80<((l_.length:Nat):Int)))) else (decide (80<((l_.length:Nat):Int)))))) else (bif (decide (20<((q.ae.length:Nat):Int))) then true else (bif (decide (12<((l_.length:Nat):Int))) then (bif (decide (((l_.length:Nat):Int)≤64)) then true else (decide (80<((l_.length:Nat):Int)))) else (decide (80<((l_.length:Nat):Int)))))))
theorem TV {d:Nat} {h:aw} {Da:AV} (q:ay) (l_:List az) (gA:aA.ok h q) (oY:aP h Da l_) (ch:Tidy h):dh (d+1) (.fn 7) [(AV.agg [(AV.str q.name),(Zi q.ao),(Zi q.ai),(Zi q.aI),(Zi q.aJ),(Zi q.bad),q.aB]),Da] h= .ret (AV.bool (eV q l_)) h:=by
 have Lq:=oY.small
 have jF:=gA.2.small
 obtain ⟨h1,ct,ck,jj,aW,cr⟩:=iX ch (aR.cells [(AV.str q.name),(Zi q.ao),(Zi q.ai),(Zi q.aI),(Zi q.aJ),(Zi q.bad),q.aB] 26 false)
 have bG:Has h h1:=cr
 have sn2:q.name.length<2^60:=gA.1
 have Ep:=fun {al ps} (k:Pk al _ ps)=>(NN ct (fun i=>(Pt i))<|CN 2<|MM (aK 9 0 (AV.str q.name) aW k!)<|CC<|VV (b9 3 false true .i64 ((List.length q.name:Nat):Int) 100)<|CC<|k:Pk _ [] ps)
 rcases Bool.eq_false_or_eq_true (decide (100<((List.length q.name:Nat):Int))) with f0 | f0
 · have ji:=of_decide_eq_true f0
   have e:eV q l_=true:=by simp only[eV,f0,ak,ah]
   rw[e]
   exact aC rfl (bh Try.func7 kf rfl (.inr rfl) (pk (d) _ _ h _ h1 (Ep<|BB f0<|BB f0<|BB f0<|BB f0<|BB f0<|BV f0 (ot true f0)<|CC<|TT<|TT<|TT<|TT<|CN 2<|TT<|TT<|TT<|TT<|TT<|CN 2<|TT<|TT<|TT<|CN 2<|ZZ) k!) k!) bG rfl
 · have ji:=of_decide_eq_false f0
   have ln4:dN (some (.slice 45)) (some q.aB)=some (Zn q.ae.length):=gA.2.len
   have Hk:=fun {al ps} (k:Pk al _ ps)=>(Ep<|BC f0<|BM f0 (aK 24 6 q.aB aW k!)<|BV f0 ln4<|BV f0 (b9 3 false true .i64 ((q.ae.length:Nat):Int) 6)<|BC f0<|k:Pk _ [] ps)
   rcases Bool.eq_false_or_eq_true (decide (6<((q.ae.length:Nat):Int))) with f1 | f1
   · have jk:=of_decide_eq_true f1
     have NF:dN (some (.slice 45)) (some q.aB)=some (Zn q.ae.length):=gA.2.len
     have IS:=fun {al ps} (k:Pk al _ ps)=>(Hk<|BC f1<|BM f1 (aK 24 6 q.aB aW k!)<|BV f1 NF<|BV f1 (qT 3 false true .i64 ((q.ae.length:Nat):Int) 8)<|BV f0 (oV (decide (((q.ae.length:Nat):Int)≤8)) false f1)<|VV (a_ (a:=some (AV.bool true)) (b:=some (AV.bool (decide (((q.ae.length:Nat):Int)≤8)))) f0)<|CC<|k:Pk _ [] ps)
     rcases Bool.eq_false_or_eq_true (decide (((q.ae.length:Nat):Int)≤8)) with f2 | f2
     · have ou:=of_decide_eq_true f2
       have e:eV q l_=true:=by simp only[eV,f0,f1,f2,ak,ah]
       rw[e]
       exact aC rfl (bh Try.func7 kf rfl (.inr rfl) (pk (d) _ _ h _ h1 (IS<|BB f2<|BB f2<|BB f2<|BV f2 (ot true f2)<|CC<|TT<|TT<|TT<|TT<|TT<|CN 2<|TT<|TT<|TT<|CN 2<|ZZ) k!) k!) bG rfl
     · have ou:=of_decide_eq_false f2
       have LY:dN (some (.slice 45)) (some q.aB)=some (Zn q.ae.length):=gA.2.len
       have IT:=fun {al ps} (k:Pk al _ ps)=>(IS<|BC f2<|BM f2 (aK 24 6 q.aB aW k!)<|BV f2 LY<|BV f2 (b9 3 false true .i64 ((q.ae.length:Nat):Int) 20)<|VV (a_ (a:=some (AV.bool true)) (b:=some (AV.bool (decide (20<((q.ae.length:Nat):Int))))) f2)<|CC<|k:Pk _ [] ps)
       rcases Bool.eq_false_or_eq_true (decide (20<((q.ae.length:Nat):Int))) with f3 | f3
       · have jl:=of_decide_eq_true f3
         have e:eV q l_=true:=by simp only[eV,f0,f1,f2,f3,ak,ah]
         rw[e]
         exact aC rfl (bh Try.func7 kf rfl (.inr rfl) (pk (d) _ _ h _ h1 (IT<|BB f3<|BB f3<|BB f3<|BB f3<|BV f3 (ot true f3)<|CC<|TT<|TT<|TT<|CN 2<|ZZ) k!) k!) bG rfl
       · have jl:=of_decide_eq_false f3
         have TW:dN (some (.slice 43)) (some Da)=some (Zn l_.length):=oY.len
         have IU:=fun {al ps} (k:Pk al _ ps)=>(IT<|BC f3<|BV f3 TW<|BV f3 (b9 3 false true .i64 ((l_.length:Nat):Int) 12)<|BC f3<|k:Pk _ [] ps)
         rcases Bool.eq_false_or_eq_true (decide (12<((l_.length:Nat):Int))) with f4 | f4
         · have jE:=of_decide_eq_true f4
           have TX:dN (some (.slice 43)) (some Da)=some (Zn l_.length):=oY.len
           have yh:=fun {al ps} (k:Pk al _ ps)=>(IU<|BC f4<|BV f4 TX<|BV f4 (qT 3 false true .i64 ((l_.length:Nat):Int) 64)<|BV f3 (oV (decide (((l_.length:Nat):Int)≤64)) false f4)<|VV (a_ (a:=some (AV.bool true)) (b:=some (AV.bool (decide (((l_.length:Nat):Int)≤64)))) f3)<|CC<|k:Pk _ [] ps)
           rcases Bool.eq_false_or_eq_true (decide (((l_.length:Nat):Int)≤64)) with f5 | f5
           · have vu:=of_decide_eq_true f5
             have e:eV q l_=true:=by simp only[eV,f0,f1,f2,f3,f4,f5,ak,ah]
             rw[e]
             exact aC rfl (bh Try.func7 kf rfl (.inr rfl) (pk (d) _ _ h _ h1 (yh<|BB f5<|BB f5<|BV f5 (ot true f5)<|CC<|ZZ) k!) k!) bG rfl
           · have vu:=of_decide_eq_false f5
             have ahH:dN (some (.slice 43)) (some Da)=some (Zn l_.length):=oY.len
             have e:eV q l_=(decide (80<((l_.length:Nat):Int))):=by simp only[eV,f0,f1,f2,f3,f4,f5,ak,ah]
             rw[e]
             exact aC rfl (bh Try.func7 kf rfl (.inr rfl) (pk (d) _ _ h _ h1 (yh<|BC f5<|BV f5 ahH<|BV f5 (b9 3 false true .i64 ((l_.length:Nat):Int) 80)<|VV (a_ (a:=some (AV.bool true)) (b:=some (AV.bool (decide (80<((l_.length:Nat):Int))))) f5)<|CC<|ZZ) k!) k!) bG rfl
         · have jE:=of_decide_eq_false f4
           have TX:dN (some (.slice 43)) (some Da)=some (Zn l_.length):=oY.len
           have e:eV q l_=(decide (80<((l_.length:Nat):Int))):=by simp only[eV,f0,f1,f2,f3,f4,ak,ah]
           rw[e]
           exact aC rfl (bh Try.func7 kf rfl (.inr rfl) (pk (d) _ _ h _ h1 (IU<|BB f4<|BB f4<|BB f4<|BV f3 (uj false f4)<|VV (pcf true false f3)<|CC<|FF<|CC<|FF<|VV TX<|FF<|VV (b9 3 false true .i64 ((l_.length:Nat):Int) 80)<|CN 2<|ZZ) k!) k!) bG rfl
   · have jk:=of_decide_eq_false f1
     have NF:dN (some (.slice 45)) (some q.aB)=some (Zn q.ae.length):=gA.2.len
     have SL:=fun {al ps} (k:Pk al _ ps)=>(Hk<|BB f1<|BB f1<|BB f1<|BB f1<|BV f0 (uj false f1)<|VV (pcf true false f0)<|CC<|FF<|CC<|FF<|MM (aK 24 6 q.aB aW k!)<|FF<|VV NF<|FF<|VV (b9 3 false true .i64 ((q.ae.length:Nat):Int) 20)<|CN 2<|k:Pk _ [] ps)
     rcases Bool.eq_false_or_eq_true (decide (20<((q.ae.length:Nat):Int))) with f2 | f2
     · have ou:=of_decide_eq_true f2
       have e:eV q l_=true:=by simp only[eV,f0,f1,f2,ak,ah]
       rw[e]
       exact aC rfl (bh Try.func7 kf rfl (.inr rfl) (pk (d) _ _ h _ h1 (SL<|BB f2<|BB f2<|BB f2<|BB f2<|BV f2 (ot true f2)<|CC<|TT<|TT<|TT<|CN 2<|ZZ) k!) k!) bG rfl
     · have ou:=of_decide_eq_false f2
       have LY:dN (some (.slice 43)) (some Da)=some (Zn l_.length):=oY.len
       have SM:=fun {al ps} (k:Pk al _ ps)=>(SL<|BC f2<|BV f2 LY<|BV f2 (b9 3 false true .i64 ((l_.length:Nat):Int) 12)<|BC f2<|k:Pk _ [] ps)
       rcases Bool.eq_false_or_eq_true (decide (12<((l_.length:Nat):Int))) with f3 | f3
       · have jl:=of_decide_eq_true f3
         have TW:dN (some (.slice 43)) (some Da)=some (Zn l_.length):=oY.len
         have SN:=fun {al ps} (k:Pk al _ ps)=>(SM<|BC f3<|BV f3 TW<|BV f3 (qT 3 false true .i64 ((l_.length:Nat):Int) 64)<|BV f2 (oV (decide (((l_.length:Nat):Int)≤64)) false f3)<|VV (a_ (a:=some (AV.bool true)) (b:=some (AV.bool (decide (((l_.length:Nat):Int)≤64)))) f2)<|CC<|k:Pk _ [] ps)
         rcases Bool.eq_false_or_eq_true (decide (((l_.length:Nat):Int)≤64)) with f4 | f4
         · have jE:=of_decide_eq_true f4
           have e:eV q l_=true:=by simp only[eV,f0,f1,f2,f3,f4,ak,ah]
           rw[e]
           exact aC rfl (bh Try.func7 kf rfl (.inr rfl) (pk (d) _ _ h _ h1 (SN<|BB f4<|BB f4<|BV f4 (ot true f4)<|CC<|ZZ) k!) k!) bG rfl
         · have jE:=of_decide_eq_false f4
           have TX:dN (some (.slice 43)) (some Da)=some (Zn l_.length):=oY.len
           have e:eV q l_=(decide (80<((l_.length:Nat):Int))):=by simp only[eV,f0,f1,f2,f3,f4,ak,ah]
           rw[e]
           exact aC rfl (bh Try.func7 kf rfl (.inr rfl) (pk (d) _ _ h _ h1 (SN<|BC f4<|BV f4 TX<|BV f4 (b9 3 false true .i64 ((l_.length:Nat):Int) 80)<|VV (a_ (a:=some (AV.bool true)) (b:=some (AV.bool (decide (80<((l_.length:Nat):Int))))) f4)<|CC<|ZZ) k!) k!) bG rfl
       · have jl:=of_decide_eq_false f3
         have TW:dN (some (.slice 43)) (some Da)=some (Zn l_.length):=oY.len
         have e:eV q l_=(decide (80<((l_.length:Nat):Int))):=by simp only[eV,f0,f1,f2,f3,ak,ah]
         rw[e]
         exact aC rfl (bh Try.func7 kf rfl (.inr rfl) (pk (d) _ _ h _ h1 (SM<|BB f3<|BB f3<|BB f3<|BV f2 (uj false f3)<|VV (pcf true false f2)<|CC<|FF<|CC<|FF<|VV TW<|FF<|VV (b9 3 false true .i64 ((l_.length:Nat):Int) 80)<|CN 2<|ZZ) k!) k!) bG rfl
theorem ny {d:Nat} {h:aw}:dh (d+1) (.fn 8) [] h= .ret (.bool true) h:=by
 have e:M0 8 [] h=some (.bool true,h):=rfl
 show eX env M0 (d+1) (.fn 8) _ h=_
 simp only[eX,e]
theorem Ju {d:Nat} {h:aw} {Da:AV} (q:ay) (l_:List az) (t:Int) (gA:aA.ok h q) (oY:aP h Da l_) (qV:∀i,i<l_.length→0≤(l_.g i).aD∧(l_.g i).aD<(q.ae.length:Int)) (IN:l_.length≤18) (Gn:q.ae.length≤8) (ch:Tidy h):∃z hk,dh (d+13) (.fn 35) [(AV.agg [(AV.str q.name),(Zi q.ao),(Zi q.ai),(Zi q.aI),(Zi q.aJ),(Zi q.bad),q.aB]),Da,(Zi t)] h= .ret z hk∧Grow h hk∧(aP hk z (dM q l_ t)∧bk h hk z (dM q l_ t)):=by
 obtain ⟨z,hk,e,y,n,a,o⟩:=L7 (d:=d) (t:=t) ch gA oY IN Gn qV (fun e=>Xy IN e)
 refine ⟨z,hk,e,⟨y,a,n⟩,bk.rows o ?_ (fun _ _=>trivial),o⟩
 have:∀(S:List Span) (k i:Nat) (L:List Span),(oQ S k i L).length≤L.length+k:=by
  intro S k
  induction k with
  | zero=>intro i L;rw[oQ];omega
  | succ k ih=>
    intro i L
    rw[oQ]
    have h1:=ih (i+1) (L++[S.g i])
    rw[List.length_append,List.length_singleton] at h1
    have h2:=ih (i+1)
    cases decide (0≤(((L.length:Nat):Int) - 1)) with
    | false=>simp only[ah];omega
    | true=>
      rw[ak]
      cases decide ((S.g i).aU≤(IntKind.i64.wrap (((L.g (((L.length:Nat):Int) - 1).toNat).aF)+1)))
      · rw[ah];omega
      · rw[ak]
        have:=h2 (L.set (((L.length:Nat):Int) - 1).toNat ({(L.g (((L.length:Nat):Int) - 1).toNat) with aF:=(imax (L.g (((L.length:Nat):Int) - 1).toNat).aF (S.g i).aF)}:Span))
        rw[List.length_set] at this;omega
 have h1:=this (kK ((kq q l_ [bu t] q.bad).map fun y=>jY y.2 t)) (kK ((kq q l_ [bu t] q.bad).map fun y=>jY y.2 t)).length 0 []
 rw[kL,List.length_map] at h1
 have h2:(kq q l_ [bu t] q.bad).length≤2^q.ae.length:=by
  rw[kq,NK Gn,CP]
  refine Nat.le_trans (List.length_filterMap_le _ _) ?_
  rw[List.length_map]
  refine Nat.le_trans (List.length_filter_le _ _) ?_
  rw[List.length_range'];exact Nat.le_refl _
 have h3:=AX Gn
 rw[dM,mQ,kL,List.length_map]
 rw[List.length_nil] at h1
 omega
theorem XA {q:ay} {l:List az} (h:eV q l=false):l.length≤18∨64<l.length:=by
 rw[eV] at h
 by_cases a:(12:Int)<((l.length:Nat):Int)
 · by_cases b:((l.length:Nat):Int)≤64
   · exfalso
     rw[decide_eq_true a,decide_eq_true b] at h
     revert h
     cases decide (100<((List.length q.name:Nat):Int))<;>cases decide (6<((q.ae.length:Nat):Int))<;>cases decide (((q.ae.length:Nat):Int)≤8)<;>cases decide (20<((q.ae.length:Nat):Int))<;>intro h<;>cases h
   · exact .inr o!
 · exact .inl o!
theorem Jv {q:ay} {l:List az} {t:Int} (h:cj q l t=0):cD q l=0∧cN t=true:=by
 rw[cj,zZ] at h
 by_cases a:cD q l=0
 · rw[decide_eq_true a] at h
   refine ⟨a,?_⟩
   cases b:cN t with
   | true=>rfl
   | false=>rw[b] at h;cases h
 · rw[decide_eq_false a] at h
   exact absurd h a
theorem lE {q:ay} {l:List az} {t:Int} (h:cj q l t=0) (m:l.length≤18∨64<l.length):(∀i,i<l.length→0≤(l.g i).aD∧(l.g i).aD<(q.ae.length:Int))∧l.length≤18∧q.ae.length≤8:=by
 obtain ⟨a,b,c⟩:=Sx (Jv h).1
 rcases m with d | d
 · exact ⟨a,d,c⟩
 · omega
def AI:Code:=(Try.f13.body).getD .skip
theorem xR:Try.f13.body=some AI:=by kernel_rfl
def aM (q:ay) (l_:List az) (t:Int):List Span×Int:=(bif (!decide ((cj q l_ t)=0)) then ([],(cj q l_ t)) else ((dM q l_ t),0))
theorem GY {d:Nat} {h:aw} {Da:AV} (q:ay) (l_:List az) (t:Int) (gA:aA.ok h q) (oY:aP h Da l_) (qV:l_.length≤18∨64<l_.length) (ch:Tidy h):∃z0 hk,dh (d+14) (.fn 13) [(AV.agg [(AV.str q.name),(Zi q.ao),(Zi q.ai),(Zi q.aI),(Zi q.aJ),(Zi q.bad),q.aB]),Da,(Zi t)] h= .ret (AV.tuple [z0,(Zi (aM q l_ t).2)]) hk∧Grow h hk∧(aP hk z0 ((aM q l_ t).1)∧bk h hk z0 (aM q l_ t).1):=by
 have Lq:=oY.small
 have jF:=gA.2.small
 obtain ⟨h1,ct,ck,jj,aW,cr⟩:=iX ch (aR.cells [(AV.str q.name),(Zi q.ao),(Zi q.ai),(Zi q.aI),(Zi q.aJ),(Zi q.bad),q.aB] 26 false)
 have bG:Has h h1:=cr
 have k2:=Cl (d:=d+1) q l_ t (aA.mono bG gA) (oY.has bG) ck
 rcases Bool.eq_false_or_eq_true (!decide ((cj q l_ t)=0)) with f0 | f0
 · have ji:=Dp f0
   have e:aM q l_ t=([],(cj q l_ t)):=by simp only[aM,f0,ak,ah]
   rw[e]
   have GZ:bk h h1 AV.aN ([]:List Span):= .inl ⟨.inl rfl,rfl⟩
   exact ⟨AV.aN,oq rfl (bh Try.func13 xR rfl (.inr rfl) (pk (d+13) _ _ h _ h1 (NN ct (fun i=>(Pt i))<|CN 2<|MM (aK 26 0 (AV.agg [(AV.str q.name),(Zi q.ao),(Zi q.ai),(Zi q.aI),(Zi q.aJ),(Zi q.bad),q.aB]) aW k!)<|CN 2<|EE k2<|CN 2<|VV (j6 31 false true .i64 (cj q l_ t) 0)<|BB f0<|CN 3<|ZZ) k!) k!) ch ⟨ck,bG,by omega⟩ (P:=fun hh=>(aP hh AV.aN ([]:List Span)∧bk h hh AV.aN ([]:List Span))) ⟨bk.rows GZ (by first | omega | decide) (fun y hy=>by cases hy),GZ⟩ fun v=>⟨bk.Sk GZ (AS v (by simp)),bk.IP GZ (AS v (by simp))⟩⟩
 · have ji:=Dq f0
   obtain ⟨z4,h6,abC,abF,fz5,ahI⟩:=Ju (d:=d) q l_ t (aA.mono bG gA) (oY.has bG) (by first | omega | exact (lE (by assumption) qV).1 | exact (lE (by assumption) qV).2.1 | exact (lE (by assumption) qV).2.2) (by first | omega | exact (lE (by assumption) qV).1 | exact (lE (by assumption) qV).2.1 | exact (lE (by assumption) qV).2.2) (by first | omega | exact (lE (by assumption) qV).1 | exact (lE (by assumption) qV).2.1 | exact (lE (by assumption) qV).2.2) ck
   have m_:=abF.y
   have abD:h1.nx≤h6.nx:=abF.n
   have oG:Has h h6:=bG.trans abF.a
   have aiV:=fz5.small
   have e:aM q l_ t=((dM q l_ t),0):=by simp only[aM,f0,ak,ah]
   rw[e]
   have GZ:bk h h6 z4 (dM q l_ t):=bk.le (h0:=h) ahI o!
   exact ⟨z4,oq rfl (bh Try.func13 xR rfl (.inr rfl) (pk (d+13) _ _ h _ h6 (NN ct (fun i=>(Pt i))<|CN 2<|MM (aK 26 0 (AV.agg [(AV.str q.name),(Zi q.ao),(Zi q.ai),(Zi q.aI),(Zi q.aJ),(Zi q.bad),q.aB]) aW k!)<|CN 2<|EE k2<|CN 2<|VV (j6 31 false true .i64 (cj q l_ t) 0)<|BM f0 (aK 26 0 (AV.agg [(AV.str q.name),(Zi q.ao),(Zi q.ai),(Zi q.aI),(Zi q.aJ),(Zi q.bad),q.aB]) aW k!)<|CN 2<|EE abC<|CN 2<|ZZ) k!) k!) ch ⟨m_,oG,by omega⟩ (P:=fun hh=>(aP hh z4 (dM q l_ t)∧bk h hh z4 (dM q l_ t))) ⟨bk.rows GZ (by first | omega | decide) (fz5.Gk),GZ⟩ fun v=>⟨bk.Sk GZ (AS v (by simp)),bk.IP GZ (AS v (by simp))⟩⟩
theorem pG {q:ay} {l:List az} (f:RF q l) {t:Int} (t0:0≤t) (t1:t≤100000):Canon (dM q l t)∧∀x,xj (dM q l t) x↔∃s,s<2^q.ae.length∧(sz s:Int)=q.bad∧Ay q l s∧Vf q l s t x:=by
 rw[Js f t0 t1];exact zV f t0 t1
theorem XB {q:ay} {l:List az} {t:Int} (h:cj q l t=0):RF q l∧0≤t∧t≤100000:=by
 obtain ⟨a,b⟩:=Jv h
 exact ⟨SF a,Li (by rw[←rb];exact b)⟩
theorem L9 {q:ay} {l:List az} {t:Int} (h:(aM q l t).2=0):cj q l t=0:=by
 rw[aM] at h
 by_cases a:cj q l t=0
 · exact a
 · rw[decide_eq_false a] at h;exact h
theorem G7 {q:ay} {l:List az} {t:Int} (h:(aM q l t).2=0):RF q l∧(0≤t∧t≤100000)∧(aM q l t).1=dM q l t:=by
 have a:=L9 h
 obtain ⟨f,t0⟩:=XB a
 refine ⟨f,t0,?_⟩
 rw[aM,decide_eq_true a];rfl
theorem Y6 (q:ay) (l:List az):∀(k i:Nat),i+k=l.length→(∀j,j<l.length→dW q (l.g j)=0)→cq q l k i 0=0
 | 0,_,_,_=>rfl
 | k+1,i,e,h=>by
   rw[cq]
   simp only[decide_true,ak]
   rw[h i o!]
   exact Y6 q l k (i+1) o! h
theorem L_ {q:ay} {l:List az} (a:aE q=0) (b:l.length≤64) (c:∀i,i<l.length→dW q (l.g i)=0):cD q l=0:=by
 rw[cD,decide_eq_true a,ak,decide_eq_false (show ¬(64:Int)<((l.length:Nat):Int) by omega),ah,a]
 exact Y6 q l _ _ o! c
theorem Po {q:ay} {l:List az} {t:Int} (a:cD q l=0) (b:cN t=true):cj q l t=0:=by
 rw[cj,zZ,decide_eq_true a,b];rfl
theorem TY {q:ay} {l:List az} {t:Int} (a:cD q l=0) (b:cN t=true):(aM q l t).2=0:=by
 rw[aM,decide_eq_true (Po a b)];rfl
theorem TZ {q:ay} (h:aE q=0) {j:Nat} (hj:j<q.ae.length):bz (q.ae.g j)=0:=by
 have e:=h
 rw[aE] at e
 obtain ⟨_,e⟩:=gX (by decide) e
 obtain ⟨_,e⟩:=gX (by decide) e
 obtain ⟨_,e⟩:=gX (by decide) e
 obtain ⟨_,e⟩:=gX (by decide) e
 obtain ⟨_,e⟩:=gX (by decide) e
 obtain ⟨_,e⟩:=gX (by decide) e
 obtain ⟨_,e⟩:=gX (by decide) e
 obtain ⟨_,e⟩:=gX (by decide) e
 obtain ⟨_,e⟩:=gX (by decide) e
 obtain ⟨_,e⟩:=gX (by decide) e
 obtain ⟨_,e⟩:=gX (by decide) e
 have hz:bO q q.ae.length 0=none:=by
  cases hc:bO q q.ae.length 0 with
  | none=>rfl
  | some r=>rw[hc] at e;exact absurd (hc.trans (congrArg some e)) (SE q _ _ fun _ _=>trivial)
 exact SD q _ _ hz j (Nat.zero_le _) o!
theorem Canon.gap {l:List Span}:∀{r:Span},Canon l→r∈l→¬xj l (r.aF+1):=by
 induction l with
 | nil=>intro r _ h;cases h
 | cons s l ih=>
   intro r c hr h
   have hb:=c.beyond
   have hh:=c.head
   rcases List.mem_cons.1 hr with rfl | hr
   · exact c.ends.2.2.1 h
   · rcases eL.1 h with h | h
     · have:=hb r hr
       have:r.aU≤r.aF:=by
        have:∀{m:List Span},Canon m→∀x∈m,x.aU≤x.aF:=by
         intro m
         induction m with
         | nil=>intro _ x hx;cases hx
         | cons a m ih=>intro c x hx;rcases List.mem_cons.1 hx with rfl | hx;exact c.head;exact ih c.tail x hx
        exact this c.tail r hr
       omega
     · exact ih c.tail hr h
theorem Canon.some {m:List Span}:Canon m→∀x∈m,x.aU≤x.aF:=by
 induction m with
 | nil=>intro _ x hx;cases hx
 | cons a m ih=>
   intro c x hx
   rcases List.mem_cons.1 hx with rfl | hx
   · exact c.head
   · exact ih c.tail x hx
theorem Canon.within {a b:List Span} (ca:Canon a) (cb:Canon b) (h:∀x,xj a x→xj b x):∀s∈a,∃r∈b,r.aU≤s.aU∧s.aF≤r.aF:=by
 intro s hs
 have hh:=ca.some s hs
 obtain ⟨r,hr,h1,h2⟩:=h s.aU ⟨s,hs,Int.le_refl _,hh⟩
 refine ⟨r,hr,h1,?_⟩
 by_cases e:s.aF≤r.aF
 · exact e
 · exact absurd (h (r.aF+1) ⟨s,hs,by omega,by omega⟩) (cb.gap hr)
theorem Jw {g:bT} {t:Int} (h:0≤g.acc∧g.acc≤1000000000∧0≤g.bH∧g.bH≤1000000000∧0≤g.since∧g.since≤100000) (t0:0≤t) (t1:t≤100000):cx g t=g.acc+g.bH*(((max (t - g.since) 0)+999) /1000):=by
 obtain ⟨a1,a2,a3,a4,a5,a6⟩:=h
 rw[cx,wrap_i64 (n:=t - g.since) o! o!]
 obtain ⟨m1,m2⟩:=Lj (x:=t - g.since) (y:=0) (m:=100000) o! o!
 rw[me] at m1 m2 ⊢
 generalize max (t - g.since) 0=m at m1 m2 ⊢
 rw[wrap_i64 (n:=m+999) o! o!,Int.tdiv_eq_ediv_of_nonneg o!]
 rw[wrap_i64 (n:=(m+999) /1000) o! o!]
 have d1:0≤(m+999) /1000:=by omega
 have d2:(m+999) /1000≤100:=by omega
 generalize (m+999) /1000=d at d1 d2 ⊢
 have p1:0≤g.bH*d:=Int.mul_nonneg a3 d1
 have p2:g.bH*d≤100000000000:=by
  calc g.bH*d≤1000000000*d:=Int.mul_le_mul_of_nonneg_right a4 d1
   _≤100000000000:=by omega
 rw[wrap_i64 (n:=g.bH*d) o! o!,wrap_i64 (n:=g.acc+g.bH*d) o! o!]
theorem cW (n aU aF:Int) (h0: -1000000000000≤aU) (h1:aU≤aF) (h2:aF≤1000000000000):aU≤ab n aU aF∧ab n aU aF≤aF:=by
 rw[ab]
 have m:=modn (a:=n) (b:=aF - aU+1) o! o!
 generalize Int.tmod (IntKind.i64.wrap ((Int.tmod n ((aF - aU)+1))+((aF - aU)+1))) ((aF - aU)+1)=k at m ⊢
 rw[wrap_i64 o! o!]
 omega
theorem xS {q:ay} (h:aE q=0) {j:Nat} (hj:j<q.ae.length):0≤(q.ae.g j).acc∧(q.ae.g j).acc≤1000000000∧0≤(q.ae.g j).bH∧(q.ae.g j).bH≤1000000000∧0≤(q.ae.g j).since∧(q.ae.g j).since≤100000:=by
 have f:RF q []:=SF (L_ h (by decide) fun i hi=>by cases hi)
 exact f.aD j hj
theorem Jx {q:ay} (h:aE q=0) {j:Nat} (hj:j<q.ae.length) {t:Int} (t0:0≤t) (t1:t≤100000):aY (q.ae.g j) t=(cx (q.ae.g j) t,0):=by
 rw[aY,TZ h hj,d_,decide_eq_true t0,decide_eq_true t1];rfl
theorem T6 {q:ay} (h:aE q=0) {j:Nat} (hj:j<q.ae.length) {t:Int} (t0:0≤t) (t1:t≤100000):0≤(aY (q.ae.g j) t).1∧(aY (q.ae.g j) t).1≤102000000000:=by
 rw[Jx h hj t0 t1];exact mL (xS h hj) t0 t1
end
end Go.Proofs.aG
