import Derived.Test.YtfllahfbmaafcaaW10
import Derived.Test.YtfllahfbmaafcaaW0
import Derived.Test.YtfllahfbmaafcaaW5
import Derived.Test.YtfllahfbmaafcaaW2
import Derived.Test.YtfllahfbmaafcaaW7
set_option linter.unusedVariables false
set_option linter.unusedSimpArgs false
namespace Go.Proofs.aG
open Go.Proofs Ab
noncomputable section
set_option maxRecDepth 100000
set_option maxHeartbeats 4000000
theorem yr (m:Int):∀(k i:Nat),jK m k i=((List.range' i k).filter fun s=>decide (j7 ((s:Nat):Int)=m)).map fun s=> [AV.int .u64 ((s:Nat):Int)]
 | 0,i=>rfl
 | k+1,i=>by
   rw[jK,yr m k (i+1),List.range'_succ,List.filter_cons]
   cases decide (j7 ((i:Nat):Int)=m)<;>rfl
theorem An (q:aD) (n:Nat):∀(k i:Nat) (C W:List Gate),iV q n k i C=some W→W.length=C.length∧∀j,(W.g j).time=(C.g j).time
 | 0,i,C,W,e=>by
   rw[iV] at e;cases e;exact ⟨rfl,fun _=>rfl⟩
 | k+1,i,C,W,e=>by
   rw[wj] at e
   cases h:decide (((C.set i (DD q (C.g (i - 1)) (C.g i))).g i).ar<((C.set i (DD q (C.g (i - 1)) (C.g i))).g i).aw) with
   | true=>rw[h,ak] at e;cases e
   | false=>
     rw[h,aj] at e
     obtain ⟨a,b⟩:=An q n k (i+1) _ W e
     refine ⟨by rw[a,List.length_set],fun j=>?_⟩
     rw[b j]
     by_cases w:i=j
     · subst w
       by_cases hi:i<C.length
       · rw[jz _ hi];rfl
       · rw[List.set_eq_of_length_le o!]
     · rw[j6 _ w]
theorem Ao (q:aD):∀(k i:Nat) (C:List Gate),(jy q k i C).length=C.length∧∀j,((jy q k i C).g j).time=(C.g j).time
 | 0,i,C=>by rw[jy];exact ⟨rfl,fun _=>rfl⟩
 | k+1,i,C=>by
   rw[C5]
   obtain ⟨a,b⟩:=Ao q k (i+1) (C.set k (W9 q (C.g k) (C.g (k+1))))
   refine ⟨by rw[a,List.length_set],fun j=>?_⟩
   rw[b j]
   by_cases w:k=j
   · subst w
     by_cases hi:k<C.length
     · rw[jz _ hi];rfl
     · rw[List.set_eq_of_length_le o!]
   · rw[j6 _ w]
theorem My {q:aD} {l:List aK} {r:List Gate} {s0:Int} {w:List Gate} (e:cq q l r s0=some w):w.length=(pe q l r s0).length∧∀g∈pe q l r s0,∃j,j<w.length∧(w.g j).time=g.time:=by
 rw[A5] at e
 obtain ⟨W,e1,rfl⟩:=Option.map_eq_some_iff.1 e
 obtain ⟨a1,a2⟩:=An q _ _ _ _ _ e1
 obtain ⟨b1,b2⟩:=Ao q ((pe q l r s0).length - 1) 0 W
 obtain ⟨p1,p2,p3⟩:=qI (L:=pe q l r s0) (by rw[pM];omega)
 have len:=p1.length_eq
 refine ⟨by omega,fun g hg=>?_⟩
 obtain ⟨j,hj,e2⟩:=List.mem_iff_getElem.1 (p1.symm.subset hg)
 exact ⟨j,by omega,by rw[b2,a2,kI hj,e2]⟩
section
variable {q:aD} {l:List aK} (f:RF q l)
include f
theorem HG {r:List Gate} {m:Int} {y:Int×List Gate}:y∈yn q l r m↔∃s:Nat,s<2^q.aC.length∧(sz s:Int)=m∧y.1=((s:Nat):Int)∧cq q l r ((s:Nat):Int)=some y.2:=by
 have hp:=pH f.bad.2.2
 rw[yn,HC f.bad.2.2,yr,List.mem_filterMap]
 constructor
 · rintro ⟨a,ha,e⟩
   obtain ⟨s,hs,rfl⟩:=List.mem_map.1 ha
   obtain ⟨h1,h2⟩:=List.mem_filter.1 hs
   have h3:s<2^q.aC.length:=by have:=List.mem_range'_1.1 h1;omega
   obtain ⟨w,e1,rfl⟩:=Option.map_eq_some_iff.1 (show (cq q l r ((s:Nat):Int)).map (fun w=>(((s:Nat):Int),w))=some y from e)
   exact ⟨s,h3,by rw[←A4 o!];exact of_decide_eq_true h2,rfl,e1⟩
 · rintro ⟨s,h1,h2,h3,h4⟩
   refine ⟨[AV.int .u64 ((s:Nat):Int)],List.mem_map.2 ⟨s,List.mem_filter.2 ⟨List.mem_range'_1.2 ⟨Nat.zero_le _,by omega⟩,?_⟩,rfl⟩,?_⟩
   · rw[decide_eq_true_eq,A4 o!];exact h2
   · show (cq q l r ((s:Nat):Int)).map (fun w=>(((s:Nat):Int),w))=some y
     rw[h4,Option.map_some,←h3]
variable {t:Int} (t0:0≤t) (t1:t≤100000)
include t0 t1
theorem Xo {s:Nat} (hs:s<256) {w:List Gate} (e:cq q l [bZ t] ((s:Nat):Int)=some w):(nA w t).ay≤(nA w t).aq∧Bd (nA w t):=by
 obtain ⟨_,_,_,_,h5,h6⟩:=HE f t0 t1 hs e
 obtain ⟨r0,r1,f0,f1⟩:=f.pG
 have ag:nV q.aI q.aH (dK q l ((s:Nat):Int)):=fun i hi k hk=>h5 i ((jY f hs i).1 hi) k ((jY f hs k).1 hk)
 obtain ⟨v1,⟨b1,b2,b3,b4⟩,v3⟩:=at_mem f0 f1 r0 r1 (tv f ((s:Nat):Int)) t0 t1 (zo q l ((s:Nat):Int)) ag
 have same:∀x,((nA w t).ay≤x∧x≤(nA w t).aq)↔((mz q (dK q l ((s:Nat):Int)) t).ay≤x∧x≤(mz q (dK q l ((s:Nat):Int)) t).aq):=fun x=>by
  rw[h6,v3]
  exact ⟨fun h c hc=>h c ((jY f hs c).1 hc),fun h c hc=>h c ((jY f hs c).2 hc)⟩
 have a1:=(same (mz q (dK q l ((s:Nat):Int)) t).ay).2 ⟨Int.le_refl _,v1⟩
 have a2:=(same (mz q (dK q l ((s:Nat):Int)) t).aq).2 ⟨v1,Int.le_refl _⟩
 have a3:=(same (nA w t).ay).1 ⟨Int.le_refl _,by omega⟩
 have a4:=(same (nA w t).aq).1 ⟨by omega,Int.le_refl _⟩
 exact ⟨by omega,by omega,by omega,by omega,by omega⟩
theorem Ap:rP q l t=cC q l t:=by
 have hp:=pH f.bad.2.2
 have ad2:∀s∈(yn q l [bZ t] q.bad).map fun y=>nA y.2 t,s.ay≤s.aq∧Bd s:=fun s hs=>by
  obtain ⟨y,hy,rfl⟩:=List.mem_map.1 hs
  obtain ⟨n,n1,n2,n3,n4⟩:=(HG f).1 hy
  exact Xo f t0 t1 o! n4
 obtain ⟨c1,i1⟩:=Kb (A:=(yn q l [bZ t] q.bad).map fun y=>nA y.2 t) (fun s hs=>(ad2 s hs).2) (fun s hs=>(ad2 s hs).1)
 obtain ⟨c2,i2⟩:=tw f t0 t1
 refine CB c1 c2 fun x=>?_
 rw[rP,i1,i2]
 constructor
 · rintro ⟨s,hs,hx⟩
   obtain ⟨y,hy,rfl⟩:=List.mem_map.1 hs
   obtain ⟨n,n1,n2,n3,n4⟩:=(HG f).1 hy
   obtain ⟨_,_,_,_,h5,h6⟩:=HE f t0 t1 o! n4
   exact ⟨n,n1,n2,h5,(h6 x).1 hx⟩
 · rintro ⟨n,n1,n2,h5,hx⟩
   have hr:∀g∈ [bZ t],∃t,0≤t∧t≤100000∧g=bZ t:=fun g hg=>by rw[List.mem_singleton] at hg;exact ⟨t,t0,t1,hg⟩
   have sp:=(Fs f (s:=n) o! hr).1
   cases e:cq q l [bZ t] ((n:Nat):Int) with
   | none=>exact absurd h5 (sp.1 e)
   | some w=>
     obtain ⟨_,_,_,_,_,h6⟩:=HE f t0 t1 o! e
     exact ⟨nA w t,List.mem_map.2 ⟨(((n:Nat):Int),w),(HG f).2 ⟨n,n1,n2,rfl,e⟩,rfl⟩,(h6 x).2 hx⟩
end
def Kc:Code:=(Try.f7.body).getD .skip
theorem kR:Try.f7.body=some Kc:=by kernel_rfl
def fm (q:aD) (l_:List aK):Bool:=(bif (decide (100<((List.length q.name:Nat):Int))) then true else (bif (decide (6<((q.aC.length:Nat):Int))) then (bif (decide (((q.aC.length:Nat):Int)≤8)) then true else (bif (decide (20<((q.aC.length:Nat):Int))) then true else (bif (decide (12<((l_.length:Nat):Int))) then (bif (decide (((l_.length:Nat):Int)≤64)) then true else (decide (80<((l_.length:Nat):Int)))) else (decide (80<((l_.length:Nat):Int)))))) else (bif (decide (20<((q.aC.length:Nat):Int))) then true else (bif (decide (12<((l_.length:Nat):Int))) then (bif (decide (((l_.length:Nat):Int)≤64)) then true else (decide (80<((l_.length:Nat):Int)))) else (decide (80<((l_.length:Nat):Int)))))))
theorem Ud {d:Nat} {h:aA} {bJ:AV} (q:aD) (l_:List aK) (fB:aF.ok h q) (dR:aY h bJ l_) (bS:Tidy h):cz (d+1) (.fn 7) [(AV.agg [(AV.str q.name),(Zi q.ai),(Zi q.af),(Zi q.aH),(Zi q.aI),(Zi q.bad),q.az]),bJ] h= .ret (AV.bool (fm q l_)) h:=by
 have mL:=dR.small
 have hU:=fB.2.small
 obtain ⟨h1,cj,cg,iu,bf,cf⟩:=fY bS (aX.cells [(AV.str q.name),(Zi q.ai),(Zi q.af),(Zi q.aH),(Zi q.aI),(Zi q.bad),q.az] 26 false)
 have bA:Has h h1:=cf
 have sn2:q.name.length<2^60:=fB.1
 have mV:=fun {al ps} (k:Pk al _ ps)=>(NN cj (fun i=>(Pt i))<|CN 2<|MM (aO 9 0 (AV.str q.name) bf k!)<|CC<|VV (cI 3 false true .i64 ((List.length q.name:Nat):Int) 100)<|CC<|k:Pk _ [] ps)
 rcases bZq (decide (100<((List.length q.name:Nat):Int))) with f0 | f0
 · have jW:=of_decide_eq_true f0
   have e:fm q l_=true:=by simp only[fm,f0,ak,aj]
   rw[e]
   exact aE rfl (ba Try.func7 kR rfl (.inr rfl) (pk (d) _ _ h _ h1 (mV<|BB f0<|BB f0<|BB f0<|BB f0<|BB f0<|BV f0 (ow true f0)<|CC<|TT<|TT<|TT<|TT<|CN 2<|TT<|TT<|TT<|TT<|TT<|CN 2<|TT<|TT<|TT<|CN 2<|ZZ) k!) k!) bA rfl
 · have jW:=of_decide_eq_false f0
   have SE:dy (some (.slice 45)) (some q.az)=some (Zn q.aC.length):=fB.2.len
   have yC:=fun {al ps} (k:Pk al _ ps)=>(mV<|BC f0<|BM f0 (aO 24 6 q.az bf k!)<|BV f0 SE<|BV f0 (cI 3 false true .i64 ((q.aC.length:Nat):Int) 6)<|BC f0<|k:Pk _ [] ps)
   rcases bZq (decide (6<((q.aC.length:Nat):Int))) with f1 | f1
   · have ic:=of_decide_eq_true f1
     have Xh:dy (some (.slice 45)) (some q.az)=some (Zn q.aC.length):=fB.2.len
     have EP:=fun {al ps} (k:Pk al _ ps)=>(yC<|BC f1<|BM f1 (aO 24 6 q.az bf k!)<|BV f1 Xh<|BV f1 (sf 3 false true .i64 ((q.aC.length:Nat):Int) 8)<|BV f0 (ov (decide (((q.aC.length:Nat):Int)≤8)) false f1)<|VV (aZ (a:=some (AV.bool true)) (b:=some (AV.bool (decide (((q.aC.length:Nat):Int)≤8)))) f0)<|CC<|k:Pk _ [] ps)
     rcases bZq (decide (((q.aC.length:Nat):Int)≤8)) with f2 | f2
     · have my:=of_decide_eq_true f2
       have e:fm q l_=true:=by simp only[fm,f0,f1,f2,ak,aj]
       rw[e]
       exact aE rfl (ba Try.func7 kR rfl (.inr rfl) (pk (d) _ _ h _ h1 (EP<|BB f2<|BB f2<|BB f2<|BV f2 (ow true f2)<|CC<|TT<|TT<|TT<|TT<|TT<|CN 2<|TT<|TT<|TT<|CN 2<|ZZ) k!) k!) bA rfl
     · have my:=of_decide_eq_false f2
       have ln8:dy (some (.slice 45)) (some q.az)=some (Zn q.aC.length):=fB.2.len
       have ES:=fun {al ps} (k:Pk al _ ps)=>(EP<|BC f2<|BM f2 (aO 24 6 q.az bf k!)<|BV f2 ln8<|BV f2 (cI 3 false true .i64 ((q.aC.length:Nat):Int) 20)<|VV (aZ (a:=some (AV.bool true)) (b:=some (AV.bool (decide (20<((q.aC.length:Nat):Int))))) f2)<|CC<|k:Pk _ [] ps)
       rcases bZq (decide (20<((q.aC.length:Nat):Int))) with f3 | f3
       · have lr:=of_decide_eq_true f3
         have e:fm q l_=true:=by simp only[fm,f0,f1,f2,f3,ak,aj]
         rw[e]
         exact aE rfl (ba Try.func7 kR rfl (.inr rfl) (pk (d) _ _ h _ h1 (ES<|BB f3<|BB f3<|BB f3<|BB f3<|BV f3 (ow true f3)<|CC<|TT<|TT<|TT<|CN 2<|ZZ) k!) k!) bA rfl
       · have lr:=of_decide_eq_false f3
         have Ue:dy (some (.slice 43)) (some bJ)=some (Zn l_.length):=dR.len
         have Cb:=fun {al ps} (k:Pk al _ ps)=>(ES<|BC f3<|BV f3 Ue<|BV f3 (cI 3 false true .i64 ((l_.length:Nat):Int) 12)<|BC f3<|k:Pk _ [] ps)
         rcases bZq (decide (12<((l_.length:Nat):Int))) with f4 | f4
         · have jV:=of_decide_eq_true f4
           have HI:dy (some (.slice 43)) (some bJ)=some (Zn l_.length):=dR.len
           have Aa:=fun {al ps} (k:Pk al _ ps)=>(Cb<|BC f4<|BV f4 HI<|BV f4 (sf 3 false true .i64 ((l_.length:Nat):Int) 64)<|BV f3 (ov (decide (((l_.length:Nat):Int)≤64)) false f4)<|VV (aZ (a:=some (AV.bool true)) (b:=some (AV.bool (decide (((l_.length:Nat):Int)≤64)))) f3)<|CC<|k:Pk _ [] ps)
           rcases bZq (decide (((l_.length:Nat):Int)≤64)) with f5 | f5
           · have tc:=of_decide_eq_true f5
             have e:fm q l_=true:=by simp only[fm,f0,f1,f2,f3,f4,f5,ak,aj]
             rw[e]
             exact aE rfl (ba Try.func7 kR rfl (.inr rfl) (pk (d) _ _ h _ h1 (Aa<|BB f5<|BB f5<|BV f5 (ow true f5)<|CC<|ZZ) k!) k!) bA rfl
           · have tc:=of_decide_eq_false f5
             have abi:dy (some (.slice 43)) (some bJ)=some (Zn l_.length):=dR.len
             have e:fm q l_=(decide (80<((l_.length:Nat):Int))):=by simp only[fm,f0,f1,f2,f3,f4,f5,ak,aj]
             rw[e]
             exact aE rfl (ba Try.func7 kR rfl (.inr rfl) (pk (d) _ _ h _ h1 (Aa<|BC f5<|BV f5 abi<|BV f5 (cI 3 false true .i64 ((l_.length:Nat):Int) 80)<|VV (aZ (a:=some (AV.bool true)) (b:=some (AV.bool (decide (80<((l_.length:Nat):Int))))) f5)<|CC<|ZZ) k!) k!) bA rfl
         · have jV:=of_decide_eq_false f4
           have HI:dy (some (.slice 43)) (some bJ)=some (Zn l_.length):=dR.len
           have e:fm q l_=(decide (80<((l_.length:Nat):Int))):=by simp only[fm,f0,f1,f2,f3,f4,ak,aj]
           rw[e]
           exact aE rfl (ba Try.func7 kR rfl (.inr rfl) (pk (d) _ _ h _ h1 (Cb<|BB f4<|BB f4<|BB f4<|BV f3 (uL false f4)<|VV (pcf true false f3)<|CC<|FF<|CC<|FF<|VV HI<|FF<|VV (cI 3 false true .i64 ((l_.length:Nat):Int) 80)<|CN 2<|ZZ) k!) k!) bA rfl
   · have ic:=of_decide_eq_false f1
     have Xh:dy (some (.slice 45)) (some q.az)=some (Zn q.aC.length):=fB.2.len
     have NX:=fun {al ps} (k:Pk al _ ps)=>(yC<|BB f1<|BB f1<|BB f1<|BB f1<|BV f0 (uL false f1)<|VV (pcf true false f0)<|CC<|FF<|CC<|FF<|MM (aO 24 6 q.az bf k!)<|FF<|VV Xh<|FF<|VV (cI 3 false true .i64 ((q.aC.length:Nat):Int) 20)<|CN 2<|k:Pk _ [] ps)
     rcases bZq (decide (20<((q.aC.length:Nat):Int))) with f2 | f2
     · have my:=of_decide_eq_true f2
       have e:fm q l_=true:=by simp only[fm,f0,f1,f2,ak,aj]
       rw[e]
       exact aE rfl (ba Try.func7 kR rfl (.inr rfl) (pk (d) _ _ h _ h1 (NX<|BB f2<|BB f2<|BB f2<|BB f2<|BV f2 (ow true f2)<|CC<|TT<|TT<|TT<|CN 2<|ZZ) k!) k!) bA rfl
     · have my:=of_decide_eq_false f2
       have ln8:dy (some (.slice 43)) (some bJ)=some (Zn l_.length):=dR.len
       have NY:=fun {al ps} (k:Pk al _ ps)=>(NX<|BC f2<|BV f2 ln8<|BV f2 (cI 3 false true .i64 ((l_.length:Nat):Int) 12)<|BC f2<|k:Pk _ [] ps)
       rcases bZq (decide (12<((l_.length:Nat):Int))) with f3 | f3
       · have lr:=of_decide_eq_true f3
         have Ue:dy (some (.slice 43)) (some bJ)=some (Zn l_.length):=dR.len
         have JO:=fun {al ps} (k:Pk al _ ps)=>(NY<|BC f3<|BV f3 Ue<|BV f3 (sf 3 false true .i64 ((l_.length:Nat):Int) 64)<|BV f2 (ov (decide (((l_.length:Nat):Int)≤64)) false f3)<|VV (aZ (a:=some (AV.bool true)) (b:=some (AV.bool (decide (((l_.length:Nat):Int)≤64)))) f2)<|CC<|k:Pk _ [] ps)
         rcases bZq (decide (((l_.length:Nat):Int)≤64)) with f4 | f4
         · have jV:=of_decide_eq_true f4
           have e:fm q l_=true:=by simp only[fm,f0,f1,f2,f3,f4,ak,aj]
           rw[e]
           exact aE rfl (ba Try.func7 kR rfl (.inr rfl) (pk (d) _ _ h _ h1 (JO<|BB f4<|BB f4<|BV f4 (ow true f4)<|CC<|ZZ) k!) k!) bA rfl
         · have jV:=of_decide_eq_false f4
           have HI:dy (some (.slice 43)) (some bJ)=some (Zn l_.length):=dR.len
           have e:fm q l_=(decide (80<((l_.length:Nat):Int))):=by simp only[fm,f0,f1,f2,f3,f4,ak,aj]
           rw[e]
           exact aE rfl (ba Try.func7 kR rfl (.inr rfl) (pk (d) _ _ h _ h1 (JO<|BC f4<|BV f4 HI<|BV f4 (cI 3 false true .i64 ((l_.length:Nat):Int) 80)<|VV (aZ (a:=some (AV.bool true)) (b:=some (AV.bool (decide (80<((l_.length:Nat):Int))))) f4)<|CC<|ZZ) k!) k!) bA rfl
       · have lr:=of_decide_eq_false f3
         have Ue:dy (some (.slice 43)) (some bJ)=some (Zn l_.length):=dR.len
         have e:fm q l_=(decide (80<((l_.length:Nat):Int))):=by simp only[fm,f0,f1,f2,f3,ak,aj]
         rw[e]
         exact aE rfl (ba Try.func7 kR rfl (.inr rfl) (pk (d) _ _ h _ h1 (NY<|BB f3<|BB f3<|BB f3<|BV f2 (uL false f3)<|VV (pcf true false f2)<|CC<|FF<|CC<|FF<|VV Ue<|FF<|VV (cI 3 false true .i64 ((l_.length:Nat):Int) 80)<|CN 2<|ZZ) k!) k!) bA rfl
theorem A6 {d:Nat} {h:aA}:cz (d+1) (.fn 8) [] h= .ret (.bool true) h:=by
 have e:M0 8 [] h=some (.bool true,h):=rfl
 show fF env M0 (d+1) (.fn 8) _ h=_
 simp only[fF,e]
theorem Oi {q:aD} {l:List aK} (h:fm q l=false):l.length≤18∨64<l.length:=by
 rw[fm] at h
 by_cases a:(12:Int)<((l.length:Nat):Int)
 · by_cases b:((l.length:Nat):Int)≤64
   · exfalso
     rw[decide_eq_true a,decide_eq_true b] at h
     revert h
     cases decide (100<((List.length q.name:Nat):Int))<;>cases decide (6<((q.aC.length:Nat):Int))<;>cases decide (((q.aC.length:Nat):Int)≤8)<;>cases decide (20<((q.aC.length:Nat):Int))<;>intro h<;>cases h
   · exact .inr o!
 · exact .inl o!
theorem yu {q:aD} {l:List aK} {t:Int} (h:bj q l t=0):bx q l=0∧iR t=true:=by
 rw[bj,Aj] at h
 by_cases a:bx q l=0
 · rw[decide_eq_true a] at h
   refine ⟨a,?_⟩
   cases b:iR t with
   | true=>rfl
   | false=>rw[b] at h;cases h
 · rw[decide_eq_false a] at h
   exact absurd h a
theorem Ke {q:aD} {l:List aK} {t:Int} (h:bj q l t=0) (m:l.length≤18∨64<l.length):(∀i,i<l.length→0≤(l.g i).aL∧(l.g i).aL<(q.aC.length:Int))∧l.length≤18∧q.aC.length≤8:=by
 obtain ⟨a,b,c⟩:=kO (yu h).1
 rcases m with d | d
 · exact ⟨a,d,c⟩
 · omega
structure YlT {X:Type} (call:bh) (b:Nat) (ok:List AV→Prop) (T:List AV→Option X) (I:(Nat→Prop)→aA→Prop) (J:X→(Nat→Prop)→aA→Prop):Prop where
 ay:∀{P hh},I P hh→∀k,P k→k<hh.nx
 Xp:∀{x P hh},J x P hh→∀k,P k→k<hh.nx
 stay:∀{P hh hk},I P hh→Tidy hk→hh.nx≤hk.nx→(∀k w,P k→hh.get k=some w→hk.get k=some w)→I P hk
 Fv:∀{x P hh hk},J x P hh→Tidy hk→hh.nx≤hk.nx→(∀k w,P k→hh.get k=some w→hk.get k=some w)→J x P hk
 Gb:∀{x P P' hh hk},I P hh→J x P' hk→Has hh hk→False
 next:∀{a P hh},T a=none→ok a→I P hh→Tidy hh→∃hk,call (.ua b) a hh= .ret (.bool true) hk∧Tidy hk∧hh.nx≤hk.nx∧I P hk∧Left P hh hk
 stop:∀{a x P hh},T a=some x→ok a→I P hh→Tidy hh→∃hk P',call (.ua b) a hh= .ret (.bool false) hk∧Tidy hk∧hh.nx≤hk.nx∧J x P' hk∧(∀k,P' k→P k∨hh.nx≤k)∧Left P hh hk
structure YlZ {X:Type} (call:bh) (b:Nat) (ok:aA→List AV→X→Prop) (I:(Nat→Prop)→aA→Prop) (J:X→(Nat→Prop)→aA→Prop):Prop where
 ay:∀{P hh},I P hh→∀k,P k→k<hh.nx
 Xp:∀{x P hh},J x P hh→∀k,P k→k<hh.nx
 stay:∀{P hh hk},I P hh→Tidy hk→hh.nx≤hk.nx→(∀k w,P k→hh.get k=some w→hk.get k=some w)→I P hk
 Fv:∀{x P hh hk},J x P hh→Tidy hk→hh.nx≤hk.nx→(∀k w,P k→hh.get k=some w→hk.get k=some w)→J x P hk
 Gb:∀{x P P' hh hk},I P hh→J x P' hk→Has hh hk→False
 stop:∀{a x P hh},ok hh a x→I P hh→Tidy hh→∃hk P',call (.ua b) a hh= .ret (.bool false) hk∧Tidy hk∧hh.nx≤hk.nx∧J x P' hk∧(∀k,P' k→P k∨hh.nx≤k)∧Left P hh hk
theorem im.acU {σ ζ:Type} {call:bh} {b:Code} {s:St} {ex:iB} {hh hg:aA} {tn:σ→ζ→(Nat→AV)→List AV} {Qn Qn':σ→ζ→aA→Prop} {tr:(Nat→AV)→List AV} {Rn Rn':aA→Prop} {v:Option σ} (l:im call b s ex hh tn Qn tr Rn v) (hn:hg.nx≤hh.nx) (w:∀v z hk,hh.nx≤hk.nx→Qn v z hk→Qn' v z hk) (w2:∀hk,hh.nx≤hk.nx→Rn hk→Rn' hk):im call b s ex hg tn Qn' tr Rn' v:=by
 cases v with
 | some v=>
   obtain ⟨z,y,hk,a,b1,c,q⟩:=l
   exact ⟨z,y,hk,a,b1,Nat.le_trans hn c,w v z hk c q⟩
 | none=>
   obtain ⟨y,hk,a,b1,c,q⟩:=l
   exact ⟨y,hk,a,b1,Nat.le_trans hn c,w2 hk c q⟩
theorem PQ {d:Nat} {h:aA} {q:aD} {l:List aK} {r:List Gate} {m s0:Int} {lv rv:AV} {b bq bm br bl by_ lp:Nat} (x:Nat→AV) (bS:Tidy h) (hq:aF.ok h q) (hl:aY h lv l) (hr:aY h rv r) (Ik:l.length≤18) (hrl:r.length≤1) (hg:∀k,k<l.length→0≤(l.g k).aL∧(l.g k).aL<(q.aC.length:Int)) (gq:h.get bq=some (.cells (aF.c q) 26 false)) (gm:h.get bm=some (.cells [Zi m] 3 false)) (gr:h.get br=some (.cells [rv] 69 false)) (gl:h.get bl=some (.cells [lv] 27 false)) (gy:h.get by_=some (.cells [.cE b] 86 false)) (dd:bq<bl∧bl<bm∧bm<br∧br<by_) {w:List Gate} (hc:(iV q (ct q l s0 l.length 0 (([(⟨0,q.ai,q.af⟩:Gate)])++r)).length ((ct q l s0 l.length 0 (([(⟨0,q.ai,q.af⟩:Gate)])++r)).length - 1) 1 (eI (ct q l s0 l.length 0 (([(⟨0,q.ai,q.af⟩:Gate)])++r)).length ((ct q l s0 l.length 0 (([(⟨0,q.ai,q.af⟩:Gate)])++r)).length - 1) 1 (ct q l s0 l.length 0 (([(⟨0,q.ai,q.af⟩:Gate)])++r))))=some w) {ok:aA→List AV→(Int×List Gate)→Prop} {I:(Nat→Prop)→aA→Prop} {J:(Int×List Gate)→(Nat→Prop)→aA→Prop} (yl:YlZ (cz (d+8)) b ok I J) {P:Nat→Prop} (hi:I P h) (js:∀{hk:aA} {p:Nat} {op:Bool},Has h hk→hk.get p=some (.cells (List.flatMap (aF.c (α:=Gate)) (jy q ((ct q l s0 l.length 0 (([(⟨0,q.ai,q.af⟩:Gate)])++r)).length - 1) 0 w)) 66 false)→ok hk [.int .u64 s0,.slice p 0 (ct q l s0 l.length 0 (([(⟨0,q.ai,q.af⟩:Gate)])++r)).length (ct q l s0 l.length 0 (([(⟨0,q.ai,q.af⟩:Gate)])++r)).length op] (s0,jy q ((ct q l s0 l.length 0 (([(⟨0,q.ai,q.af⟩:Gate)])++r)).length - 1) 0 w)) (aiv:¬P bq) (aiw:¬P bm) (aix:¬P br) (aiy:¬P bl) (ahL:¬P by_):
 ∃kz h' P',Ev env (cz (d+8)) eG ⟨((AV.cE b)::(Pt bq)::(Pt bm)::(Pt br)::(Pt bl)::(Pt by_)::(AV.int .u64 s0)::rx x 7 9 ((AV.int .u64 s0)::rx x 17 33 [])),h,[],.sm lp⟩ .ret ⟨kz,h',[],.sm lp⟩∧Tidy h'∧h.nx≤h'.nx∧J (s0,jy q ((ct q l s0 l.length 0 (([(⟨0,q.ai,q.af⟩:Gate)])++r)).length - 1) 0 w) P' h'∧(∀j,P' j→P j∨h.nx≤j)∧Left P h h':=by
 have T_q:=bS _ _ gq
 have T_m:=bS _ _ gm
 have T_r:=bS _ _ gr
 have T_l:=bS _ _ gl
 have T_y:=bS _ _ gy
 have s_l:=hl.small
 have s_r:=hr.small
 have np_:0<(ct q l s0 l.length 0 (([(⟨0,q.ai,q.af⟩:Gate)])++r)).length:=List.length_pos_iff.2 (C_ ())
 obtain ⟨h1,cj,cg,iu,bf,cf⟩:=fY bS (aX.cells [(Zi 0),(Zi q.ai),(Zi q.af)] 66 false)
 have bA:Has h h1:=cf
 have oz5:bH h h1 (AV.slice h.nx 0 1 1 false) [(⟨0,q.ai,q.af⟩:Gate)]:= .inr ⟨by simp,h.nx,false,rfl,by omega,bf⟩
 obtain ⟨z3,h2,TV,eQ,zn,aa6,oz4,tR,ym⟩:=bH.B_ (tys:= #[69,69]) (l:=[(⟨0,q.ai,q.af⟩:Gate)]) (m:=r) (x:=rv) cg bS bA o! oz5 (hr.has bA).nE (hr.has bA).first (zZ (hr.has bA) (fun y hy=>by simp [aF.c,Gate.c,AV.scalar])) (by first | omega | (simp<;>omega)) rfl rfl k! k! (bytes:=24) k! (z0:=(AV.agg [(Zi 0),(Zi 0),(Zi 0)])) k! rfl (by decide)
 have dZ:Has h h2:=aa6
 have TW:∀y∈(([(⟨0,q.ai,q.af⟩:Gate)])++r),aF.ok h2 y:=eP (D:=Gate) (mJ (eP (D:=Gate) (h':=h1) (ok_one (h:=h1) trivial)) (hr.has bA).Va)
 have Xh:dy (some (.slice 43)) (some lv)=some (Zn l.length):=hl.len
 obtain ⟨zo9,PK,h8,tS,uS,PD,Da,tT,aa7,aa8,TX,Db,HA,aa9,AP,AQ,AR,r6⟩:=C9 (d:=d) (rc:=(.sm lp)) (h:=h) s0 lv l q rv b r bq br bl by_ hl hq.1 hq.2 hr hq hg Ik bS o! o! o! o! o! o! o! o! o! o! l.length 0 (([(⟨0,q.ai,q.af⟩:Gate)])++r) z3 o! (fun k_=>(((AV.cE b)::(Pt bq)::(Pt bm)::(Pt br)::(Pt bl)::(Pt by_)::(AV.int .u64 s0)::z3::rx x 8 8 ((AV.int .u64 s0)::(AV.ptr bq 1)::(AV.agg [(Zi q.ai),(Zi q.af)])::(AV.agg [(Zi 0),(Zi q.ai),(Zi q.af)])::(AV.slice h.nx 0 1 1 false)::rv::z3::lv::(Zn l.length)::(Zi 0)::rx x 26 24 [])):List AV).getD k_ AV.undef) h2 eQ dZ o! (tR _ _ (b6.slice o!) (cf _ _ gq)) (tR _ _ (b6.slice o!) (cf _ _ gr)) (tR _ _ (b6.slice o!) (cf _ _ gl)) (tR _ _ (b6.slice o!) (cf _ _ gy)) oz4 TW (by first | omega | (simp<;>omega)) (ym _ (cg _ _ (cf _ _ gq)) (b6.slice o!)) (ym _ (cg _ _ (cf _ _ gr)) (b6.slice o!)) (ym _ (cg _ _ (cf _ _ gl)) (b6.slice o!)) (ym _ (cg _ _ (cf _ _ gy)) (b6.slice o!))
 have Ms:aY h8 zo9 (ct q l s0 l.length 0 (([(⟨0,q.ai,q.af⟩:Gate)])++r)):=bH.rows Db o! HA
 have Xi:=Ms.small
 have qE:Has h h8:=Da
 obtain ⟨Xj,TY,HB,Dc,Mt⟩:=bH.sl Db (C_ ())
 obtain ⟨mA,aba,Dd,fZ,Cg,rO,TZ,Mu⟩:=adO (d:=d) (g:=h) (p:=Xj) (op:=TY) (L:=(ct q l s0 l.length 0 (([(⟨0,q.ai,q.af⟩:Gate)])++r))) q hq qE (A3 bS Dc) uS Mt rfl o! (List.length_pos_iff.2 (C_ ()))
 rw[(Mu _ hc).1] at Dd
 have T3:(cz (d+8)) (.fn 47) [(AV.agg [(AV.str q.name),(Zi q.ai),(Zi q.af),(Zi q.aH),(Zi q.aI),(Zi q.bad),q.az]),zo9] h8= .ret (AV.slice Xj 0 (ct q l s0 l.length 0 (([(⟨0,q.ai,q.af⟩:Gate)])++r)).length (ct q l s0 l.length 0 (([(⟨0,q.ai,q.af⟩:Gate)])++r)).length TY) mA:=by rw[HB];exact Dd
 have ik:Has h mA:=(Has.cS qE rO bS Dc)
 have Qp:(decide (0<(((ct q l s0 l.length 0 (([(⟨0,q.ai,q.af⟩:Gate)])++r)).length:Nat):Int)))=true:=d!
 obtain ⟨G7,ad3,Td,ti,adn,ad4,ad5,abj⟩:=yl.stop (js (op:=TY) ik (Mu _ hc).2) (yl.stay hi fZ o! (fun k w _ g=>ik _ _ g)) fZ
 have ev:=pkc (.sm lp) (d+8) eG ((AV.cE b)::(Pt bq)::(Pt bm)::(Pt br)::(Pt bl)::(Pt by_)::(AV.int .u64 s0)::rx x 7 9 ((AV.int .u64 s0)::rx x 17 33 [])) h .ret G7 (CC<|MM (aO 23 1 (AV.agg [(Zi q.ai),(Zi q.af)]) gq k!)<|CC<|NN cj (fun i=>(AV.slice i 0 1 1 false))<|MM (aO 69 0 rv (cf _ _ gr) k!)<|PP (show bX env h1 #[69,69] (AV.slice h.nx 0 1 1 false) rv=some (z3,h2) from TV)<|CC<|MM (aO 27 0 lv (tR _ _ (b6.slice o!) (cf _ _ gl)) k!)<|VV Xh<|CC<|LL tS<|MM (aO 26 0 (AV.agg [(AV.str q.name),(Zi q.ai),(Zi q.af),(Zi q.aH),(Zi q.aI),(Zi q.bad),q.az]) tT k!)<|CC<|EE T3<|CN 3<|VV (cI 3 false true .i64 (((ct q l s0 l.length 0 (([(⟨0,q.ai,q.af⟩:Gate)])++r)).length:Nat):Int) 0)<|CC<|BM Qp (aO 86 0 (AV.cE b) (rO _ _ (r6.ne HB) TX) k!)<|BC Qp<|BC Qp<|BB Qp<|AA (.e (.bool false) G7)<|HH Td<|BC Qp<|VV (ov true false Qp)<|TT<|ZZ) k!
 exact ⟨_,_,ad3,ev,ti,by omega,ad4,fun j hj=>(ad5 j hj).imp id fun _=>by omega,fun j w hj gw=>abj _ _ hj (ik _ _ gw)⟩
def uA:Code:=(Try.f70.body).getD .skip
theorem Uf:Try.f70.body=some uA:=by kernel_rfl
def Kf:Code:=(cc uA).getD 0 .skip
def Xq {X:Type}:Option X→Option Unit
 | none=>some ()
 | some _=>none
theorem uB {X:Type} {d:Nat} {b bn bm:Nat} {n m N:Int} {ok:List AV→Prop} {T:List AV→Option X} {I:(Nat→Prop)→aA→Prop} {J:X→(Nat→Prop)→aA→Prop} (yl:YlT (cz (d+2)) b ok T I J) (js:∀s:Nat,(s:Int)<N→decide (j7 ((s:Nat):Int)=m)=true→ok [AV.int .u64 ((s:Nat):Int)]) (hN:N≤1000):∀(k s0:Nat) (P:Nat→Prop) (x:Nat→AV) (hh:aA) (aQ:Tidy hh) (gn:hh.get bn=some (.cells [Zi n] 3 false)) (gm:hh.get bm=some (.cells [Zi m] 3 false)) (hi:I P hh) (YK:¬P bn) (YL:¬P bm),(s0:Int)+k=N→
 im (σ:=Unit) (ζ:=Unit) (cz (d+2)) Kf ⟨((AV.cE b)::(Pt bn)::(Pt bm)::rx x 3 3 ((AV.int .u64 N)::(AV.int .u64 ((s0:Nat):Int))::rx x 8 13 [])),hh,[],.no⟩ (.exit 0) hh (fun _ _ y=>rx y 0 21 []) (fun _ _ hk=>I P hk∧Left P hh hk) (fun y=>rx y 0 21 []) (fun hk=>∃x,(jK m k s0).findSome? T=some x∧∃P',J x P' hk∧(∀j,P' j→P j∨hh.nx≤j)∧Left P hh hk) (Xq ((jK m k s0).findSome? T))
 | 0,s0,P,x,hh,aQ,gn,gm,hi,YK,YL,kY=>by
   have q1:(decide (((s0:Nat):Int)<N))=false:=d!
   exact im.out () () rfl (pk (d+2) _ _ hh _ hh (VV (bK 68 false false .u64 ((s0:Nat):Int) N)<|BB q1<|ZZ) k!) aQ (Nat.le_refl _) ⟨hi,Left.refl _ _⟩ k!
 | k+1,s0,P,x,hh,aQ,gn,gm,hi,YK,YL,kY=>by
   have T1:=aQ _ _ gn
   have T2:=aQ _ _ gm
   rcases bZq (decide ((j7 ((s0:Nat):Int))=m)) with f | f
   · cases fT:T [AV.int .u64 ((s0:Nat):Int)] with
     | none=>
       have q1:(decide (((s0:Nat):Int)<N))=true:=d!
       have k2:=C6 (d:=d) ((s0:Nat):Int) aQ
       have q3:(decide ((j7 ((s0:Nat):Int))=m))=true:=d!
       obtain ⟨h4,Ug,oh,Pw,agz,Fx⟩:=yl.next fT (js s0 o! f) hi aQ
       have u5:cy env .add 68 false true (some (AV.int .u64 ((s0:Nat):Int))) (some (AV.int .u64 1))=some (AV.int .u64 ((s0+1:Nat):Int)):=zW (a:=s0) (b:=1) o!
       have ev:=pk (d+2) Kf ((AV.cE b)::(Pt bn)::(Pt bm)::rx x 3 3 ((AV.int .u64 N)::(AV.int .u64 ((s0:Nat):Int))::rx x 8 13 [])) hh .normal h4 (VV (bK 68 false false .u64 ((s0:Nat):Int) N)<|BB q1<|CN 3<|MM (aO 3 0 (Zi m) gm k!)<|EE k2<|VV (lV 3 false false .i64 (j7 ((s0:Nat):Int)) m)<|CC<|BC q3<|BC q3<|BB q3<|AA (.e (.bool true) h4)<|HH Ug<|BC q3<|VV (ov false false q3)<|HH (aO 3 0 (Zi m) gm k!)<|HH (show AV.same 20 (Zi m) (Zi m)=true from aJ 19 _ _)<|HH (aO 3 0 (Zi m) gm k!)<|HH (show AV.same 20 (Zi m) (Zi m)=true from aJ 19 _ _)<|FF<|VV u5<|CC<|ZZ) k!
       have e:(jK m (k+1) s0).findSome? T=(jK m k (s0+1)).findSome? T:=by rw[jK,f,ak,List.findSome?_cons,fT]
       rw[e]
       refine im.round rfl ev o! _ k! (fun x=>im.acU (uB yl js hN k (s0+1) P x h4 oh (Fx _ _ YK gn) (Fx _ _ YL gm) agz YK YL o!) (Nat.le_refl _) (fun _ _ hk hn q=>⟨q.1,fun j w hj gw=>q.2 _ _ hj (Fx _ _ hj gw)⟩) fun hk hn q=>?_)
       obtain ⟨x1,e1,P',a1,a2,a3⟩:=q
       exact ⟨x1,e1,P',a1,fun j hj=>(a2 j hj).imp id fun h=>by omega,fun j w hj gw=>a3 _ _ hj (Fx _ _ hj gw)⟩
     | some x1=>
       have q1:(decide (((s0:Nat):Int)<N))=true:=d!
       have k2:=C6 (d:=d) ((s0:Nat):Int) aQ
       have q3:(decide ((j7 ((s0:Nat):Int))=m))=true:=d!
       obtain ⟨h4,agA,Ug,oh,Pw,agB,agC,Fx⟩:=yl.stop fT (js s0 o! f) hi aQ
       have e:(jK m (k+1) s0).findSome? T=some x1:=by rw[jK,f,ak,List.findSome?_cons,fT]
       rw[e]
       exact im.ret rfl (pk (d+2) _ _ hh _ h4 (VV (bK 68 false false .u64 ((s0:Nat):Int) N)<|BB q1<|CN 3<|MM (aO 3 0 (Zi m) gm k!)<|EE k2<|VV (lV 3 false false .i64 (j7 ((s0:Nat):Int)) m)<|CC<|BC q3<|BC q3<|BB q3<|AA (.e (.bool false) h4)<|HH Ug<|BC q3<|VV (ov true false q3)<|HH (aO 3 0 (Zi m) gm k!)<|HH (show AV.same 20 (Zi m) (Zi m)=true from aJ 19 _ _)<|HH (aO 3 0 (Zi m) gm k!)<|HH (show AV.same 20 (Zi m) (Zi m)=true from aJ 19 _ _)<|TT<|ZZ) k!) oh Pw ⟨x1,rfl,agA,agB,agC,Fx⟩ k!
   · skip
     have q1:(decide (((s0:Nat):Int)<N))=true:=d!
     have k2:=C6 (d:=d) ((s0:Nat):Int) aQ
     have q3:(decide ((j7 ((s0:Nat):Int))=m))=false:=d!
     have u4:cy env .add 68 false true (some (AV.int .u64 ((s0:Nat):Int))) (some (AV.int .u64 1))=some (AV.int .u64 ((s0+1:Nat):Int)):=zW (a:=s0) (b:=1) o!
     have e:(jK m (k+1) s0).findSome? T=(jK m k (s0+1)).findSome? T:=by rw[jK,f,aj]
     rw[e]
     exact im.round rfl (pk (d+2) _ _ hh _ hh (VV (bK 68 false false .u64 ((s0:Nat):Int) N)<|BB q1<|CN 3<|MM (aO 3 0 (Zi m) gm k!)<|EE k2<|VV (lV 3 false false .i64 (j7 ((s0:Nat):Int)) m)<|CC<|BB q3<|BB q3<|BB q3<|BV q3 (uL false q3)<|HH (aO 3 0 (Zi m) gm k!)<|HH (show AV.same 20 (Zi m) (Zi m)=true from aJ 19 _ _)<|HH (aO 3 0 (Zi m) gm k!)<|HH (show AV.same 20 (Zi m) (Zi m)=true from aJ 19 _ _)<|FF<|VV u4<|CC<|ZZ) k!) o! _ k! (fun x=>uB yl js hN k (s0+1) P x hh aQ gn gm hi YK YL o!)
theorem abk {X:Type} {d:Nat} {b bn bm:Nat} {n m:Int} {ok:List AV→Prop} {T:List AV→Option X} {I:(Nat→Prop)→aA→Prop} {J:X→(Nat→Prop)→aA→Prop} (yl:YlT (cz (d+2)) b ok T I J) (js:∀s:Nat,(s:Int)<d_ .u64 1 n→decide (j7 ((s:Nat):Int)=m)=true→ok [AV.int .u64 ((s:Nat):Int)]) (h0:0≤n) (hn:n≤8) {P:Nat→Prop} {hh:aA} (aQ:Tidy hh) (gn:hh.get bn=some (.cells [Zi n] 3 false)) (gm:hh.get bm=some (.cells [Zi m] 3 false)) (hi:I P hh) (YK:¬P bn) (YL:¬P bm):
 ∃hk,cz (d+3) (.fn 70) [.cE b,.ptr bn 0,.ptr bm 0] hh= .ret (.tuple []) hk∧Tidy hk∧hh.nx≤hk.nx∧Left P hh hk∧(((jK m (d_ .u64 1 n).toNat 0).findSome? T=none→I P hk)∧∀x,(jK m (d_ .u64 1 n).toNat 0).findSome? T=some x→∃P',J x P' hk∧∀j,P' j→P j∨hh.nx≤j):=by
 cases hF:(jK m (d_ .u64 1 n).toNat 0).findSome? T with
 | none=>
   have u1:cy env .shl 68 true false (some (AV.int .u64 1)) (some (Zi n))=some (AV.int .u64 (d_ .u64 1 n)):=qz 68 true false .u64 .i64 o!
   have FW:=uB (d:=d) (N:=(d_ .u64 1 n)) yl js (Oa h0 hn).2 (d_ .u64 1 n).toNat 0 P (fun k_=>(((AV.cE b)::(Pt bn)::(Pt bm)::AV.undef::AV.undef::(Zi n)::(AV.int .u64 (d_ .u64 1 n))::(AV.int .u64 0)::iL 13):List AV).getD k_ AV.undef) hh aQ gn gm hi YK YL (by have:=(Oa h0 hn).1;omega)
   rw[hF] at FW
   obtain ⟨_,SJ,h2,rE,eQ,zn,agD,Uh⟩:=FW
   have ev:=pk (d+2) uA ((AV.cE b)::(Pt bn)::(Pt bm)::iL 18) hh .normal h2 (MM (aO 3 0 (Zi n) gn k!)<|VV u1<|CC<|LL rE<|ZZ) k!
   obtain ⟨hk,e,q⟩:=ib rfl (ba (v:= .tuple []) Try.func70 Uf k! (.inl rfl) ev k!)
   rcases q with rfl | ⟨rfl,A⟩
   · exact ⟨_,e,eQ,zn,Uh,fun _=>agD,fun x h=>by cases h⟩
   · exact ⟨_,e,aQ,Nat.le_refl _,Left.refl _ _,fun _=>hi,fun x h=>by cases h⟩
 | some x0=>
   have u1:cy env .shl 68 true false (some (AV.int .u64 1)) (some (Zi n))=some (AV.int .u64 (d_ .u64 1 n)):=qz 68 true false .u64 .i64 o!
   have FW:=uB (d:=d) (N:=(d_ .u64 1 n)) yl js (Oa h0 hn).2 (d_ .u64 1 n).toNat 0 P (fun k_=>(((AV.cE b)::(Pt bn)::(Pt bm)::AV.undef::AV.undef::(Zi n)::(AV.int .u64 (d_ .u64 1 n))::(AV.int .u64 0)::iL 13):List AV).getD k_ AV.undef) hh aQ gn gm hi YK YL (by have:=(Oa h0 hn).1;omega)
   rw[hF] at FW
   obtain ⟨SJ,h2,rE,eQ,zn,xF,ad6,agE,ad7,agG,Uh⟩:=FW
   have ev:=pk (d+2) uA ((AV.cE b)::(Pt bn)::(Pt bm)::iL 18) hh .ret h2 (MM (aO 3 0 (Zi n) gn k!)<|VV u1<|CC<|LL rE<|ZZ) k!
   obtain ⟨hk,e,q⟩:=ib rfl (ba (v:= .tuple []) Try.func70 Uf k! (.inr rfl) ev k!)
   have exx:x0=xF:=Option.some.inj ad6
   subst exx
   rcases q with rfl | ⟨rfl,A⟩
   · exact ⟨_,e,eQ,zn,Uh,fun h=>(by cases h),fun x h=>by cases h;exact ⟨agE,ad7,agG⟩⟩
   · exact (yl.Gb hi ad7 A).elim
def ExZ (I:(Nat→Prop)→aA→Prop) (g:aA) (q:aD) (l:List aK) (r:List Gate) (m:Int) (lv rv:AV) (b bq bm br bl by_ lp:Nat) (x:Nat→AV) (dn:Nat) (P':Nat→Prop) (hh:aA):Prop:=
 ∃P0:Nat→Prop,I P0 hh∧Has g hh∧g.nx≤hh.nx∧lp<hh.nx∧hh.get bq=some (.cells (aF.c q) 26 false)∧hh.get bm=some (.cells [Zi m] 3 false)∧hh.get br=some (.cells [rv] 69 false)∧hh.get bl=some (.cells [lv] 27 false)∧hh.get by_=some (.cells [.cE b] 86 false)∧hh.get lp=some (.loop .ready none (jF x b bq bm br bl by_) [16] gR eG dn)∧(∀k,P0 k→g.get k=none∧k≠bq∧k≠bm∧k≠br∧k≠bl∧k≠by_∧k≠lp)∧∀k,P' k↔(P0 k∨(∃w,g.get k=some w)∨k=bq∨k=bm∨k=br∨k=bl∨k=by_∨k=lp)
def ExJ (J:(Int×List Gate)→(Nat→Prop)→aA→Prop) (g:aA) (q:aD) (m:Int) (lv rv:AV) (b bq bm br bl by_ lp:Nat) (x:Nat→AV) (dn:Nat) (y:Int×List Gate) (P':Nat→Prop) (hh:aA):Prop:=
 ∃P0:Nat→Prop,J y P0 hh∧Has g hh∧g.nx≤hh.nx∧lp<hh.nx∧hh.get bq=some (.cells (aF.c q) 26 false)∧hh.get bm=some (.cells [Zi m] 3 false)∧hh.get br=some (.cells [rv] 69 false)∧hh.get bl=some (.cells [lv] 27 false)∧hh.get by_=some (.cells [.cE b] 86 false)∧hh.get lp=some (.loop .done (some .ret) (jF x b bq bm br bl by_) [16] gR eG dn)∧(∀k,P0 k→g.get k=none∧k≠bq∧k≠bm∧k≠br∧k≠bl∧k≠by_∧k≠lp)∧∀k,P' k↔(P0 k∨(∃w,g.get k=some w)∨k=bq∨k=bm∨k=br∨k=bl∨k=by_∨k=lp)
theorem Xr {d:Nat} {g:aA} {q:aD} {l:List aK} {r:List Gate} {m:Int} {lv rv:AV} {b bq bm br bl by_ lp:Nat} (x:Nat→AV) (dn:Nat) (PS:Tidy g) (hq:aF.ok g q) (hl:aY g lv l) (hr:aY g rv r) (Ik:l.length≤18) (hrl:r.length≤1) (hg:∀k,k<l.length→0≤(l.g k).aL∧(l.g k).aL<(q.aC.length:Int)) (dd:bq<bl∧bl<bm∧bm<br∧br<by_) (gb:g.nx≤bq) (bp:by_<lp)
 {ok:aA→List AV→(Int×List Gate)→Prop} {I:(Nat→Prop)→aA→Prop} {J:(Int×List Gate)→(Nat→Prop)→aA→Prop} (yl:YlZ (cz (d+8)) b ok I J) (js:∀{s0:Int} {w:List Gate} {hk:aA} {p:Nat} {op:Bool},cq q l r s0=some w→Has g hk→hk.get p=some (.cells (List.flatMap (aF.c (α:=Gate)) w) 66 false)→ok hk [.int .u64 s0,.slice p 0 (tU q l r s0) (tU q l r s0) op] (s0,w)):
 YlT (cz (d+9)) lp (fun a=>∃s0:Int,a=[AV.int .u64 s0]) (Al q l r) (ExZ I g q l r m lv rv b bq bm br bl by_ lp x dn) (ExJ J g q m lv rv b bq bm br bl by_ lp x dn) where
 ay:=by
  rintro P' hh ⟨P0,i0,ag,gn,gx,gq,gm,gr,gl,gy,gp,nP,pp⟩ k hk
  rcases (pp k).1 hk with p | ⟨w,p⟩ | p
  · exact yl.ay i0 k p
  · have:=PS _ _ p;omega
  · omega
 Xp:=by
  rintro y P' hh ⟨P0,i0,ag,gn,gx,gq,gm,gr,gl,gy,gp,nP,pp⟩ k hk
  rcases (pp k).1 hk with p | ⟨w,p⟩ | p
  · exact yl.Xp i0 k p
  · have:=PS _ _ p;omega
  · omega
 stay:=by
  rintro P' hh hk ⟨P0,i0,ag,gn,gx,gq,gm,gr,gl,gy,gp,nP,pp⟩ yk nk kp
  have K:=fun k w (c:P0 k∨(∃w,g.get k=some w)∨k=bq∨k=bm∨k=br∨k=bl∨k=by_∨k=lp) e=>kp k w ((pp k).2 c) e
  exact ⟨P0,yl.stay i0 yk nk fun k w p e=>K k w (.inl p) e,fun k w e=>K k w (.inr (.inl ⟨_,e⟩)) (ag _ _ e),by omega,by omega,K _ _ (by simp) gq,K _ _ (by simp) gm,K _ _ (by simp) gr,K _ _ (by simp) gl,K _ _ (by simp) gy,K _ _ (by simp) gp,nP,pp⟩
 Fv:=by
  rintro y P' hh hk ⟨P0,i0,ag,gn,gx,gq,gm,gr,gl,gy,gp,nP,pp⟩ yk nk kp
  have K:=fun k w (c:P0 k∨(∃w,g.get k=some w)∨k=bq∨k=bm∨k=br∨k=bl∨k=by_∨k=lp) e=>kp k w ((pp k).2 c) e
  exact ⟨P0,yl.Fv i0 yk nk fun k w p e=>K k w (.inl p) e,fun k w e=>K k w (.inr (.inl ⟨_,e⟩)) (ag _ _ e),by omega,by omega,K _ _ (by simp) gq,K _ _ (by simp) gm,K _ _ (by simp) gr,K _ _ (by simp) gl,K _ _ (by simp) gy,K _ _ (by simp) gp,nP,pp⟩
 Gb:=by
  rintro y P P' hh hk ⟨P0,i0,ag,gn,gx,gq,gm,gr,gl,gy,gp,nP,pp⟩ ⟨P1,i1,_,_,_,_,_,_,_,_,gp1,_⟩ A
  rw[A _ _ gp] at gp1
  cases gp1
 next:=by
  rintro a P' hh hT ⟨s0,rfl⟩ ⟨P0,i0,ag,gn,gx,gq,gm,gr,gl,gy,gp,nP,pp⟩ y
  have T1:=y _ _ gp
  have c1:=od (o:= .loop .busy none (jF x b bq bm br bl by_) [16] gR eG dn) y gp
  have Ui:Has g (hh.put lp (some (.loop .busy none (jF x b bq bm br bl by_) [16] gR eG dn))):=fun k w e=>c1.2.2 _ _ (fun e'=>by have:=PS _ _ e;omega) (ag _ _ e)
  have pl:P' lp:=(pp lp).2 (by simp)
  have hc:(iV q (ct q l s0 l.length 0 (([(⟨0,q.ai,q.af⟩:Gate)])++r)).length ((ct q l s0 l.length 0 (([(⟨0,q.ai,q.af⟩:Gate)])++r)).length - 1) 1 (eI (ct q l s0 l.length 0 (([(⟨0,q.ai,q.af⟩:Gate)])++r)).length ((ct q l s0 l.length 0 (([(⟨0,q.ai,q.af⟩:Gate)])++r)).length - 1) 1 (ct q l s0 l.length 0 (([(⟨0,q.ai,q.af⟩:Gate)])++r))))=none:=by
   have h1:(cq q l r s0).map (fun w=>(s0,w))=none:=hT
   rw[cq] at h1
   simpa using h1
  obtain ⟨kz,h2,ev,y2,n2,a2⟩:=TU (d:=d) (b:=b) (bq:=bq) (bm:=bm) (br:=br) (bl:=bl) (by_:=by_) (lp:=lp) x c1.1 (aF.mono Ui hq) (hl.has Ui) (hr.has Ui) Ik hrl hg (c1.2.2 _ _ o! gq) (c1.2.2 _ _ o! gm) (c1.2.2 _ _ o! gr) (c1.2.2 _ _ o! gl) (c1.2.2 _ _ o! gy) dd hc
  have e:=Ls (d:=d+8) (args:=[.int .u64 s0]) (jump:=none) gp rfl ((Of x b bq bm br bl by_ (.int .u64 s0))▸Oe x b bq bm br bl by_ lp s0 hh) gp ev (.inl ⟨rfl,rfl⟩) (a2 _ _ c1.2.1)
  have c3:=od (o:= .loop .ready none (jF x b bq bm br bl by_) [16] gR eG dn) y2 (a2 _ _ c1.2.1)
  have K:∀k w,k≠lp→hh.get k=some w→(h2.put lp (some (.loop .ready none (jF x b bq bm br bl by_) [16] gR eG dn))).get k=some w:=fun k w n e=>c3.2.2 _ _ n (a2 _ _ (c1.2.2 _ _ n e))
  exact ⟨_,e,c3.1,n2,⟨P0,yl.stay i0 c3.1 n2 fun k w p e=>K k w (nP k p).2.2.2.2.2.2 e,fun k w e=>K _ _ (fun e'=>by have:=PS _ _ e;omega) (ag _ _ e),Nat.le_trans gn n2,Nat.lt_of_lt_of_le gx n2,K _ _ o! gq,K _ _ o! gm,K _ _ o! gr,K _ _ o! gl,K _ _ o! gy,c3.2.1,nP,pp⟩,fun k w n e=>K k w (fun e'=>n (e'▸pl)) e⟩
 stop:=by
  rintro a yx P' hh hT ⟨s0,rfl⟩ ⟨P0,i0,ag,gn,gx,gq,gm,gr,gl,gy,gp,nP,pp⟩ y
  have T1:=y _ _ gp
  have c1:=od (o:= .loop .busy none (jF x b bq bm br bl by_) [16] gR eG dn) y gp
  have Ui:Has g (hh.put lp (some (.loop .busy none (jF x b bq bm br bl by_) [16] gR eG dn))):=fun k w e=>c1.2.2 _ _ (fun e'=>by have:=PS _ _ e;omega) (ag _ _ e)
  have pl:P' lp:=(pp lp).2 (by simp)
  cases hc:(iV q (ct q l s0 l.length 0 (([(⟨0,q.ai,q.af⟩:Gate)])++r)).length ((ct q l s0 l.length 0 (([(⟨0,q.ai,q.af⟩:Gate)])++r)).length - 1) 1 (eI (ct q l s0 l.length 0 (([(⟨0,q.ai,q.af⟩:Gate)])++r)).length ((ct q l s0 l.length 0 (([(⟨0,q.ai,q.af⟩:Gate)])++r)).length - 1) 1 (ct q l s0 l.length 0 (([(⟨0,q.ai,q.af⟩:Gate)])++r)))) with
  | none=>
    exfalso
    have h1:(cq q l r s0).map (fun w=>(s0,w))=some yx:=hT
    rw[cq,hc] at h1
    cases h1
  | some w=>
    have ht:cq q l r s0=some (jy q ((ct q l s0 l.length 0 (([(⟨0,q.ai,q.af⟩:Gate)])++r)).length - 1) 0 w):=by rw[cq,hc];rfl
    have hy:yx=(s0,jy q ((ct q l s0 l.length 0 (([(⟨0,q.ai,q.af⟩:Gate)])++r)).length - 1) 0 w):=by
     have h1:(cq q l r s0).map (fun w=>(s0,w))=some yx:=hT
     rw[ht] at h1
     exact (Option.some.inj h1).symm
    subst hy
    have np:∀{k},(k=bq∨k=bm∨k=br∨k=bl∨k=by_∨k=lp)→¬P0 k:=fun {k} c p=>by have:=nP k p;omega
    obtain ⟨kz,h2,P2,ev,y2,n2,i2,p2,l2⟩:=PQ (d:=d) (b:=b) (bq:=bq) (bm:=bm) (br:=br) (bl:=bl) (by_:=by_) (lp:=lp) x c1.1 (aF.mono Ui hq) (hl.has Ui) (hr.has Ui) Ik hrl hg (c1.2.2 _ _ o! gq) (c1.2.2 _ _ o! gm) (c1.2.2 _ _ o! gr) (c1.2.2 _ _ o! gl) (c1.2.2 _ _ o! gy) dd hc yl (yl.stay i0 c1.1 (Nat.le_refl _) fun k w p e=>c1.2.2 _ _ (nP k p).2.2.2.2.2.2 e) (fun {hk p op} A e=>js ht (fun k w c=>A _ _ (Ui _ _ c)) e) (np (by simp)) (np (by simp)) (np (by simp)) (np (by simp)) (np (by simp))
    have e:=Ls (d:=d+8) (args:=[.int .u64 s0]) (jump:=some .ret) gp rfl ((Of x b bq bm br bl by_ (.int .u64 s0))▸Oe x b bq bm br bl by_ lp s0 hh) gp ev (.inr (.inl ⟨rfl,rfl⟩)) (l2 _ _ (np (by simp)) c1.2.1)
    have c3:=od (o:= .loop .done (some .ret) (jF x b bq bm br bl by_) [16] gR eG dn) y2 (l2 _ _ (np (by simp)) c1.2.1)
    have K:∀k w,k≠lp→¬P0 k→hh.get k=some w→(h2.put lp (some (.loop .done (some .ret) (jF x b bq bm br bl by_) [16] gR eG dn))).get k=some w:=fun k w n n' e=>c3.2.2 _ _ n (l2 _ _ n' (c1.2.2 _ _ n e))
    have T:∀{k w},hh.get k=some w→k<hh.nx:=fun e=>y _ _ e
    have t1:=T gq;have t2:=T gm;have t3:=T gr;have t4:=T gl;have t5:=T gy
    have nP2:∀k,P2 k→g.get k=none∧k≠bq∧k≠bm∧k≠br∧k≠bl∧k≠by_∧k≠lp:=fun k p=>by
     rcases p2 k p with h | h
     · exact nP k h
     · have h:hh.nx≤k:=h
       exact ⟨A3 PS o!,by omega⟩
    refine ⟨_,fun k=>P2 k∨(∃w,g.get k=some w)∨k=bq∨k=bm∨k=br∨k=bl∨k=by_∨k=lp,e,c3.1,n2,⟨P2,yl.Fv i2 c3.1 (Nat.le_refl _) fun k w p e=>c3.2.2 _ _ (nP2 k p).2.2.2.2.2.2 e,fun k w e=>K _ _ (fun e'=>by have:=PS _ _ e;omega) (fun p=>by have:=(nP k p).1;rw[e] at this;cases this) (ag _ _ e),Nat.le_trans gn n2,Nat.lt_of_lt_of_le gx n2,K _ _ o! (np (by simp)) gq,K _ _ o! (np (by simp)) gm,K _ _ o! (np (by simp)) gr,K _ _ o! (np (by simp)) gl,K _ _ o! (np (by simp)) gy,c3.2.1,nP2,fun _=>Iff.rfl⟩,fun k p=>?_,fun k w n e=>K k w (fun e'=>n (e'▸pl)) (fun p=>n ((pp k).2 (.inl p))) e⟩
    rcases p with p | p
    · exact (p2 k p).imp (fun h=>(pp k).2 (.inl h)) id
    · exact .inl ((pp k).2 (.inr p))
theorem Ev.abl {call:bh} {i:Nat} {b:Code} {s s':St} (h:Ev env call b s .ret s'):Ev env call (.block i b) s .ret s':=by
 obtain ⟨n0,h3⟩:=h
 refine ⟨n0+1,fun n hn=>?_⟩
 obtain ⟨k,rfl⟩:∃k,n=k+1:=⟨n - 1,by omega⟩
 rw[xn,h3 k o!]
 rfl
theorem abm {d:Nat} {g h:aA} {q:aD} {l:List aK} {r:List Gate} {m:Int} {lv rv:AV} {b bq bm br bl:Nat} (PS:Tidy g) (hqg:aF.ok g q) (hlg:aY g lv l) (hrg:aY g rv r) (Ik:l.length≤18) (hrl:r.length≤1) (hq8:q.aC.length≤8) (hgg:∀k,k<l.length→0≤(l.g k).aL∧(l.g k).aL<(q.aC.length:Int)) (dd:bq<bl∧bl<bm∧bm<br) (gb:g.nx≤bq) (bS:Tidy h) (ag:Has g h) (ngh:g.nx≤h.nx) (gq:h.get bq=some (.cells (aF.c q) 26 false)) (gm:h.get bm=some (.cells [Zi m] 3 false)) (gr:h.get br=some (.cells [rv] 69 false)) (gl:h.get bl=some (.cells [lv] 27 false))
 {ok:aA→List AV→(Int×List Gate)→Prop} {I:(Nat→Prop)→aA→Prop} {J:(Int×List Gate)→(Nat→Prop)→aA→Prop} (yl:YlZ (cz (d+8)) b ok I J) (js:∀{s0:Int} {w:List Gate} {hk:aA} {p:Nat} {op:Bool},cq q l r s0=some w→Has g hk→hk.get p=some (.cells (List.flatMap (aF.c (α:=Gate)) w) 66 false)→ok hk [.int .u64 s0,.slice p 0 (tU q l r s0) (tU q l r s0) op] (s0,w))
 {P:Nat→Prop} (hi:I P h) (nP:∀k,P k→g.get k=none∧k≠bq∧k≠bm∧k≠br∧k≠bl):
 ∃hk,cz (d+11) (.fn 44) [.cE b,.ptr bq 0,.ptr bm 0,.ptr br 0,.ptr bl 0] h= .ret (.tuple []) hk∧Tidy hk∧h.nx≤hk.nx∧Left P h hk∧(((jK m (d_ .u64 1 ((q.aC.length:Nat):Int)).toNat 0).findSome? (Al q l r)=none→∃P',I P' hk∧∀j,P' j→P j∨h.nx≤j)∧∀y,(jK m (d_ .u64 1 ((q.aC.length:Nat):Int)).toNat 0).findSome? (Al q l r)=some y→∃P',J y P' hk∧∀j,P' j→P j∨h.nx≤j):=by
 have hq:=aF.mono ag hqg
 have T_q:=bS _ _ gq
 have T_m:=bS _ _ gm
 have T_r:=bS _ _ gr
 have T_l:=bS _ _ gl
 obtain ⟨h1,cj,cg,iu,bf,cf⟩:=fY bS (aX.cells [(AV.cE b)] 86 false)
 have ev0:=pk (d+10) YH ((AV.cE b)::(AV.ptr bq 0)::(AV.ptr bm 0)::(AV.ptr br 0)::(AV.ptr bl 0)::iL 45) h .normal h1 (NN cj (fun i=>(AV.ptr i 0))<|ZZ) (by kernel_rfl)
 have ln2:dy (some (.slice 45)) (some q.az)=some (AV.int .i64 ((q.aC.length:Nat):Int)):=hq.2.len
 obtain ⟨bn4,bm5,h3,Hs,fA,qw,dq,YM,YN,ahN,ahO⟩:=agn (d:=d+8) (n:=((q.aC.length:Nat):Int)) (m:=m) cg
 have ev1:=pk (d+10) YI ((AV.cE b)::(AV.ptr bq 0)::(AV.ptr bm 0)::(AV.ptr br 0)::(AV.ptr bl 0)::(AV.ptr h.nx 0)::iL 44) h1 .normal h3 (CC<|MM (aO 24 6 q.az (cf _ _ gq) (by kernel_rfl))<|VV ln2<|MM (aO 3 0 (AV.int .i64 m) (cf _ _ gm) (by kernel_rfl))<|EE Hs<|ZZ) (by kernel_rfl)
 have T4:=fA _ _ YM
 have T5:=fA _ _ YN
 obtain ⟨h4,n4⟩:=nL (h:=h3) .qQ
 have y4:=hQ fA n4
 have x4:=mI n4
 let TS:List AV:=((AV.cE b)::(AV.ptr bq 0)::(AV.ptr bm 0)::(AV.ptr br 0)::(AV.ptr bl 0)::(AV.ptr h.nx 0)::AV.undef::AV.undef::AV.undef::AV.undef::AV.undef::(AV.ptr bq 6)::q.az::(AV.int .i64 ((q.aC.length:Nat):Int))::(AV.int .i64 m)::(AV.func 70 [] [(AV.ptr bn4 0),(AV.ptr bm5 0)])::iL 34)
 have eTS:TS=jF (fun k=>TS.getD k .undef) b bq bm br bl h.nx:=by kernel_rfl
 obtain ⟨h5,n5⟩:=nL (h:=h4) (.loop .ready none TS (#[16]:Array Tmp).toList gR eG h3.nx)
 have y5:=hQ y4 n5
 have x5:=mI n5
 have K5:∀k w,h3.get k=some w→h5.get k=some w:=fun k w e=>hJ y4 n5 (hJ fA n4 e)
 have K1:∀k w,h.get k=some w→h5.get k=some w:=fun k w e=>K5 k w (dq _ _ (cf _ _ e))
 have g_y:h5.get h.nx=some (.cells [.cE b] 86 false):=K5 _ _ (dq _ _ bf)
 have ad8:∀k,P k→k<h.nx:=yl.ay hi
 have hi5:ExZ I g q l r m lv rv b bq bm br bl h.nx h4.nx (fun k=>TS.getD k .undef) h3.nx (fun k=>P k∨(∃w,g.get k=some w)∨k=bq∨k=bm∨k=br∨k=bl∨k=h.nx∨k=h4.nx) h5:=
  ⟨P,yl.stay hi y5 o! fun k w _ e=>K1 k w e,fun k w e=>K1 k w (ag _ _ e),by omega,by omega,K1 _ _ gq,K1 _ _ gm,K1 _ _ gr,K1 _ _ gl,g_y,by rw[←eTS];exact km n5,fun k p=>⟨(nP k p).1,by have:=nP k p;have:=ad8 k p;omega⟩,fun _=>Iff.rfl⟩
 have ylx:=Xr (d:=d) (g:=g) (q:=q) (l:=l) (r:=r) (m:=m) (lv:=lv) (rv:=rv) (b:=b) (bq:=bq) (bm:=bm) (br:=br) (bl:=bl) (by_:=h.nx) (lp:=h4.nx) (fun k=>TS.getD k .undef) h3.nx PS hqg hlg hrg Ik hrl hgg o! gb o! yl js
 have nb:∀j,h1.nx≤j→j<h4.nx→¬(P j∨(∃w,g.get j=some w)∨j=bq∨j=bm∨j=br∨j=bl∨j=h.nx∨j=h4.nx):=by
  rintro j c1 c2 (p | ⟨w,p⟩ | p)
  · have:=ad8 j p;omega
  · have:=PS _ _ p;omega
  · omega
 obtain ⟨h6,e6,y6,x6,l6,iN,iS⟩:=abk (d:=d+7) (n:=((q.aC.length:Nat):Int)) (m:=m) ylx (fun s _ _=>⟨(s:Int),rfl⟩) o! o! y5 (K5 _ _ YM) (K5 _ _ YN) hi5 (nb _ o! o!) (nb _ o! o!)
 have gd:h6.get h3.nx=some .qQ:=l6 _ _ (nb _ o! o!) (hJ y4 n5 (km n4))
 have fin:∀(st:LoopState) (pd:Option Code) (ex:iB) (W:(Nat→Prop)→aA→Prop) (P0 P6:Nat→Prop),st≠ .busy→Ef pd=some ex→(ex= .normal∨ex= .ret)→(∀{P hh hk},W P hh→Tidy hk→hh.nx≤hk.nx→(∀k w,P k→hh.get k=some w→hk.get k=some w)→W P hk)→W P0 h6→Has g h6→h6.get bq=some (.cells (aF.c q) 26 false)→h6.get bm=some (.cells [Zi m] 3 false)→h6.get br=some (.cells [rv] 69 false)→h6.get bl=some (.cells [lv] 27 false)→h6.get h4.nx=some (.loop st pd (jF (fun k=>TS.getD k .undef) b bq bm br bl h.nx) [16] gR eG h3.nx)→(∀k,P0 k→g.get k=none∧k≠bq∧k≠bm∧k≠br∧k≠bl∧k≠h.nx∧k≠h4.nx)→(∀k,P0 k→P6 k)→(∀j,P6 j→(P j∨(∃w,g.get j=some w)∨j=bq∨j=bm∨j=br∨j=bl∨j=h.nx∨j=h4.nx)∨h5.nx≤j)→
  ∃hk hF,cz (d+11) (.fn 44) [.cE b,.ptr bq 0,.ptr bm 0,.ptr br 0,.ptr bl 0] h= .ret (.tuple []) hk∧(hk=hF∨(hk=h∧Has h hF))∧Tidy hF∧h.nx≤hF.nx∧Left P h hF∧W P0 hF∧∀j,P0 j→P j∨h.nx≤j:=by
  intro st pd ex W P0 P6 iY hj hex hW i0 ag6 gq6 gm6 gr6 gl6 gp6 nP6 pp6 p6
  have er:=B7 (E:=env) (call:=cz (d+10)) (ts:=TS) (ds:=[]) (f:= .tmp 15) (ps:= #[16]) (aS:=gR) (bd:=eG) (e:=ex) rfl n4 n5 e6 gp6 iY hj
  have ev:Ev env (cz (d+10)) nz ⟨(AV.cE b)::(AV.ptr bq 0)::(AV.ptr bm 0)::(AV.ptr br 0)::(AV.ptr bl 0)::iL 45,h,[],.no⟩ ex ⟨TS,h6.put h4.nx (some (.loop .exhausted pd (jF (fun k=>TS.getD k .undef) b bq bm br bl h.nx) [16] gR eG h3.nx)),[.pj h3.nx],.no⟩:=by
   rcases hex with rfl | rfl
   · exact Fq▸Ev.seq (Fo (L':=(AV.cE b)::(AV.ptr bq 0)::(AV.ptr bm 0)::(AV.ptr br 0)::(AV.ptr bl 0)::(AV.ptr h.nx 0)::iL 44) (by kernel_rfl) ev0) (Ev.seq (Fo (L':=TS) (by kernel_rfl) ev1) (Ev.abc er))
   · exact Fq▸Ev.seq (Fo (L':=(AV.cE b)::(AV.ptr bq 0)::(AV.ptr bm 0)::(AV.ptr br 0)::(AV.ptr bl 0)::(AV.ptr h.nx 0)::iL 44) (by kernel_rfl) ev0) (Ev.seq (Fo (L':=TS) (by kernel_rfl) ev1) (Ev.abl er))
  have c7:=od (o:= .loop .exhausted pd (jF (fun k=>TS.getD k .undef) b bq bm br bl h.nx) [16] gR eG h3.nx) y6 gp6
  have fn:=Lt (args:=[.cE b,.ptr bq 0,.ptr bm 0,.ptr br 0,.ptr bl 0]) (L:=[h3.nx]) (v:= .tuple []) Try.func44 adT (by kernel_rfl) hex ev (by simp) (fun k hk=>by rw[List.mem_singleton.1 hk];exact c7.2.2 _ _ o! gd) rfl
  obtain ⟨hk,ek,cs⟩:=ib (M0:=M0) rfl fn
  have KF:∀k w,k≠h4.nx→k≠h3.nx→h6.get k=some w→(shut [h3.nx] (h6.put h4.nx (some (.loop .exhausted pd (jF (fun k=>TS.getD k .undef) b bq bm br bl h.nx) [16] gR eG h3.nx)))).get k=some w:=fun k w c1 c2 e=>by
   rw[oV (by simpa using c2)];exact c7.2.2 _ _ c1 e
  have yF:Tidy (shut [h3.nx] (h6.put h4.nx (some (.loop .exhausted pd (jF (fun k=>TS.getD k .undef) b bq bm br bl h.nx) [16] gR eG h3.nx)))):=fun k w gw=>by
   rw[rz]
   by_cases c:k=h3.nx
   · subst c
     rw[shut,shut,aA.ck] at gw;cases gw
   · rw[oV (by simpa using c)] at gw;exact c7.1 _ _ gw
  have nF:h.nx≤(shut [h3.nx] (h6.put h4.nx (some (.loop .exhausted pd (jF (fun k=>TS.getD k .undef) b bq bm br bl h.nx) [16] gR eG h3.nx)))).nx:=by
   rw[rz];show h.nx≤h6.nx;omega
  have nd:∀k,P0 k→k≠h3.nx:=fun k p c=>by
   subst c
   rcases p6 _ (pp6 _ p) with c | c
   · exact nb _ o! o! c
   · omega
  have iF:=hW i0 yF (by rw[rz];exact Nat.le_refl _) fun k w p e=>KF k w (nP6 k p).2.2.2.2.2.2 (nd k p) e
  have pF:∀j,P0 j→P j∨h.nx≤j:=fun j p=>by
   have np:=nP6 j p
   rcases p6 j (pp6 j p) with (c | ⟨w,c⟩ | c) | c
   · exact .inl c
   · have:=np.1;rw[c] at this;cases this
   · omega
   · exact .inr o!
  have lF:Left P h (shut [h3.nx] (h6.put h4.nx (some (.loop .exhausted pd (jF (fun k=>TS.getD k .undef) b bq bm br bl h.nx) [16] gR eG h3.nx)))):=fun k w n e=>by
   have T:=bS _ _ e
   refine KF k w o! o! ?_
   by_cases c0:∃w',g.get k=some w'
   · obtain ⟨w',c0⟩:=c0
     have:=ag _ _ c0
     rw[e] at this
     rw[ag6 _ _ c0,this]
   · by_cases c1:k=bq
     · subst c1;rw[gq6,←gq,e]
     · by_cases c2:k=bm
       · subst c2;rw[gm6,←gm,e]
       · by_cases c3:k=br
         · subst c3;rw[gr6,←gr,e]
         · by_cases c4:k=bl
           · subst c4;rw[gl6,←gl,e]
           · refine l6 _ _ ?_ (K1 _ _ e)
             rintro (p | p | p)
             · exact n p
             · exact c0 p
             · omega
  exact ⟨hk,_,ek,cs,yF,nF,lF,iF,pF⟩
 cases hF:(jK m (d_ .u64 1 ((q.aC.length:Nat):Int)).toNat 0).findSome? (Al q l r) with
 | none=>
   obtain ⟨P0,i0,ag6,gn6,gx6,gq6,gm6,gr6,gl6,gy6,gp6,nP6,pp6⟩:=iN hF
   obtain ⟨hk,hG,ek,cs,yF,nF,lF,iF,pF⟩:=fin .ready none .normal I P0 _ (by intro c;cases c) rfl (.inl rfl) yl.stay i0 ag6 gq6 gm6 gr6 gl6 gp6 nP6 (fun k p=>(pp6 k).2 (.inl p)) (fun j p=> .inl p)
   rcases cs with rfl | ⟨rfl,A⟩
   · exact ⟨_,ek,yF,nF,lF,fun _=>⟨P0,iF,pF⟩,fun y h=>by cases h⟩
   · exact ⟨_,ek,bS,Nat.le_refl _,Left.refl _ _,fun _=>⟨P,hi,fun _=> .inl⟩,fun y h=>by cases h⟩
 | some y0=>
   obtain ⟨P6,⟨P0,i0,ag6,gn6,gx6,gq6,gm6,gr6,gl6,gy6,gp6,nP6,pp6⟩,p6⟩:=iS y0 hF
   obtain ⟨hk,hG,ek,cs,yF,nF,lF,iF,pF⟩:=fin .done (some .ret) .ret (J y0) P0 P6 (by intro c;cases c) rfl (.inr rfl) yl.Fv i0 ag6 gq6 gm6 gr6 gl6 gp6 nP6 (fun k p=>(pp6 k).2 (.inl p)) p6
   rcases cs with rfl | ⟨rfl,A⟩
   · exact ⟨_,ek,yF,nF,lF,fun h=>(by cases h),fun y h=>(by cases h;exact ⟨P0,iF,pF⟩)⟩
   · exact (yl.Gb hi iF A).elim
def Oj:Code:=(Try.f9.body).getD .skip
def kJ:Code:=(cc Oj).getD 1 .skip
theorem Uj {d:Nat} {hh:aA} {s0:Int} {w:List Gate} {l_:List aK} {b5 b8 b9 b10 b11 lp:Nat} {cv lv:AV} (x:Nat→AV) (aQ:Tidy hh) (hc:aY hh cv w) (hl:aY hh lv l_) (hx:∀i,i<l_.length→0≤bz w (fun y=>eU y (l_.g i).time)∧bz w (fun y=>eU y (l_.g i).time)<(w.length:Int)) (Qh:l_.length≤1000) (g5:hh.get b5=some (.cells [lv] 27 false)) (g8:hh.get b8=some (.cells [.aP] 30 false)) (g9:hh.get b9=some (.cells [.aP] 30 false)) (g10:hh.get b10=some (.cells [.bool false] 4 false)) (g11:hh.get b11=some (.cells [Zi 0] 31 false)) (l5:b5<b8) (l8:b8<b9) (l9:b9<b10) (Uk:b10<b11):
 ∃kz h' z1 z2,Ev env (cz (d+8)) kJ ⟨(rx x 0 5 ((Pt b5)::(x 6)::(x 7)::(Pt b8)::(Pt b9)::(Pt b10)::(Pt b11)::(x 12)::(x 13)::(AV.int .u64 s0)::cv::rx x 16 23 ((AV.int .u64 s0)::cv::rx x 41 6 []))),hh,[],.sm lp⟩ .ret ⟨kz,h',[],.sm lp⟩∧Tidy h'∧hh.nx≤h'.nx∧h'.get b8=some (.cells [z1] 30 false)∧h'.get b9=some (.cells [z2] 30 false)∧h'.get b10=some (.cells [.bool true] 4 false)∧h'.get b11=some (.cells [Zi 0] 31 false)∧dk 3 hh h' z1 (zs .i64 (dD s0))∧dk 3 hh h' z2 (zs .i64 (dC w l_))∧(∀k w,k≠b8→k≠b9→k≠b10→k≠b11→hh.get k=some w→h'.get k=some w):=by
 have T5:=aQ _ _ g5
 have T8:=aQ _ _ g8
 have T9:=aQ _ _ g9
 have T10:=aQ _ _ g10
 have T11:=aQ _ _ g11
 obtain ⟨z1,h3,Hs,gP,fz2,agI⟩:=Ka (d:=d+6) s0 aQ
 have fA:=gP.y
 have qw:hh.nx≤h3.nx:=gP.n
 have fl:Has hh h3:=gP.a
 have ahQ:=fz2.small
 obtain ⟨z4,h6,agJ,Ea,fz5,agK⟩:=J_ (d:=d+4) w l_ (hc.has fl) (hl.has fl) (by first | omega | assumption | (simp only[List.length_set,List.length_replicate,List.length_append,List.length_cons,List.length_nil,List.nil_append]<;>omega) | (rw[List.length_take];omega)) (by first | omega | assumption | (simp only[List.length_set,List.length_replicate,List.length_append,List.length_cons,List.length_nil,List.nil_append]<;>omega) | (rw[List.length_take];omega)) fA
 have qx:=Ea.y
 have aiz:h3.nx≤h6.nx:=Ea.n
 have pt:Has hh h6:=fl.trans Ea.a
 have G':Has h3 h6:=Ea.a
 have ahR:=fz5.small
 have sc8:AV.scalar z1=true:=fz2.scalar
 obtain ⟨h7,zq,mM,Py,pW,iT⟩:=acQ (t:=30) (i:=b8) (o:=0) (v:=z1) (N:=[z1]) qx (Ea.a _ _ (gP.a _ _ g8)) k! fz2.scalar k! k!
 have aiA:AV.scalar z4=true:=fz5.scalar
 obtain ⟨h9,LI,nM,SN,Cq,l7⟩:=acQ (t:=30) (i:=b9) (o:=0) (v:=z4) (N:=[z4]) mM (iT _ _ o! (Ea.a _ _ (gP.a _ _ g9))) k! fz5.scalar k! k!
 obtain ⟨qH,C2,tN,N5,kr,dv⟩:=AE (t:=4) (n:=1) (i:=b10) (o:=0) (v:=(AV.bool true)) (N:=[(AV.bool true)]) nM (l7 _ _ o! (iT _ _ o! (Ea.a _ _ (gP.a _ _ g10)))) k! rfl k! k! (by simp only[AV.cells,List.all_cons,List.all_nil,Bool.and_true,Bool.and_self,eL,dw,eM,eN,cH,gZ,g_,hB,hD,hI,eO])
 obtain ⟨uR,qK,tj,NF,f_,cJ⟩:=AE (t:=31) (n:=1) (i:=b11) (o:=0) (v:=(Zi 0)) (N:=[(Zi 0)]) tN (dv _ _ o! (l7 _ _ o! (iT _ _ o! (Ea.a _ _ (gP.a _ _ g11))))) k! rfl k! k! (by simp only[AV.cells,List.all_cons,List.all_nil,Bool.and_true,Bool.and_self,eL,dw,eM,eN,cH,gZ,g_,hB,hD,hI,eO])
 have c13:AV.same 20 lv lv=true:=hl.same 19
 have ev:=pkc (.sm lp) (d+8) kJ (rx x 0 5 ((Pt b5)::(x 6)::(x 7)::(Pt b8)::(Pt b9)::(Pt b10)::(Pt b11)::(x 12)::(x 13)::(AV.int .u64 s0)::cv::rx x 16 23 ((AV.int .u64 s0)::cv::rx x 41 6 []))) hh .ret uR (CN 2<|MM (aO 27 0 lv g5 k!)<|EE Hs<|EE agJ<|SS zq<|SS LI<|SS C2<|SS qK<|HH (aO 27 0 lv g5 k!)<|HH c13<|HH (aO 27 0 lv (gP.a _ _ g5) k!)<|HH c13<|ZZ) k!
 have o1:dk 3 hh h6 z1 (zs .i64 (dD s0)):=agI.has Ea.a
 have o2:dk 3 hh h6 z4 (zs .i64 (dC w l_)):=agK.le o!
 exact ⟨_,_,z1,z4,ev,tj,by omega,cJ _ _ o! (dv _ _ o! (l7 _ _ o! pW)),cJ _ _ o! (dv _ _ o! Cq),cJ _ _ o! kr,f_,(((o1.kept iT (o1.ay T8)).kept l7 (o1.ay T9)).kept dv (o1.ay T10)).kept cJ (o1.ay T11),(((o2.kept iT (o2.ay T8)).kept l7 (o2.ay T9)).kept dv (o2.ay T10)).kept cJ (o2.ay T11),fun k v e8 e9 X4 e11 e=>cJ _ _ e11 (dv _ _ X4 (l7 _ _ e9 (iT _ _ e8 (Ea.a _ _ (gP.a _ _ e)))))⟩

def Kg:Code→Code
 | .seq a b=>match Kg a with
   | .skip=>Kg b
   | c=>c
 | .block _ b=>Kg b
 | .loop b=>Kg b
 | .rangeFunc f p a b=> .rangeFunc f p a b
 | _=> .skip
end
end Go.Proofs.aG
