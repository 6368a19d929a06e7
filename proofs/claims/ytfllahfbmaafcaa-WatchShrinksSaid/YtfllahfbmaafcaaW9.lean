import Derived.Test.YtfllahfbmaafcaaW8
import Derived.Test.YtfllahfbmaafcaaW0
import Derived.Test.YtfllahfbmaafcaaW3
namespace Go.Proofs.aK
open Go.Proofs Ab
noncomputable section
set_option maxRecDepth 100000
set_option maxHeartbeats 4000000
set_option linter.unusedVariables false
set_option linter.unusedSimpArgs false
theorem Ar (m:Int):∀(k i:Nat),rb m k i=((List.range' i k).filter fun s=>decide (iU ((s:Nat):Int)=m)).map fun s=> [AV.int .u64 ((s:Nat):Int)]
 | 0,i=>rfl
 | k+1,i=>by
   rw[rb,Ar m k (i+1),List.range'_succ,List.filter_cons]
   cases decide (iU ((i:Nat):Int)=m)<;>rfl
theorem xk (q:aw) (n:Nat):∀(k i:Nat) (C W:List Gate),gU q n k i C=some W→W.length=C.length∧∀j,(W.g j).time=(C.g j).time
 | 0,i,C,W,e=>by
   rw[gU] at e;cases e;exact ⟨rfl,fun _=>rfl⟩
 | k+1,i,C,W,e=>by
   rw[Ac] at e
   cases h:decide (((C.set i (JU q (C.g (i - 1)) (C.g i))).g i).ah<((C.set i (JU q (C.g (i - 1)) (C.g i))).g i).aj) with
   | true=>rw[h,ax] at e;cases e
   | false=>
     rw[h,ar] at e
     obtain ⟨a,b⟩:=xk q n k (i+1) _ W e
     refine ⟨by rw[a,List.length_set],fun j=>?_⟩
     rw[b j]
     by_cases w:i=j
     · subst w
       by_cases hi:i<C.length
       · rw[mL _ hi];rfl
       · rw[List.set_eq_of_length_le o!]
     · rw[lh _ w]
theorem xm (q:aw):∀(k i:Nat) (C:List Gate),(gV q k i C).length=C.length∧∀j,((gV q k i C).g j).time=(C.g j).time
 | 0,i,C=>by rw[gV];exact ⟨rfl,fun _=>rfl⟩
 | k+1,i,C=>by
   rw[Ad]
   obtain ⟨a,b⟩:=xm q k (i+1) (C.set k (TP q (C.g k) (C.g (k+1))))
   refine ⟨by rw[a,List.length_set],fun j=>?_⟩
   rw[b j]
   by_cases w:k=j
   · subst w
     by_cases hi:k<C.length
     · rw[mL _ hi];rfl
     · rw[List.set_eq_of_length_le o!]
   · rw[lh _ w]
theorem ID {q:aw} {l:List aB} {r:List Gate} {s0:Int} {w:List Gate} (e:cZ q l r s0=some w):w.length=(we q l r s0).length∧∀g∈we q l r s0,∃j,j<w.length∧(w.g j).time=g.time:=by
 rw[J4] at e
 obtain ⟨W,e1,rfl⟩:=Option.map_eq_some_iff.1 e
 obtain ⟨a1,a2⟩:=xk q _ _ _ _ _ e1
 obtain ⟨b1,b2⟩:=xm q ((we q l r s0).length - 1) 0 W
 obtain ⟨p1,p2,p3⟩:=v7 (L:=we q l r s0) (by rw[ve];omega)
 have len:=p1.length_eq
 refine ⟨by omega,fun g hg=>?_⟩
 obtain ⟨j,hj,e2⟩:=List.mem_iff_getElem.1 (p1.symm.subset hg)
 exact ⟨j,by omega,by rw[b2,a2,lD hj,e2]⟩
theorem Up {q:aw} {l:List aB} {t:Int} (hl:l.length≤12) {s0:Int} {w:List Gate} (e:cZ q l [aX t] s0=some w):sD q l [aX t] s0=w.length∧0≤bz w (fun y=>eJ y t)∧bz w (fun y=>eJ y t)<(w.length:Int)∧w.length<1000:=by
 obtain ⟨d1,d2⟩:=ID e
 obtain ⟨j,e1,e2,e3⟩:=Qa (w:=w) (t:=t) (d2 (aX t) (by rw[we];simp))
 exact ⟨by rw[aba,d1],by rw[e1];omega,by rw[e1];omega,by rw[d1,ve,List.length_singleton];omega⟩
section
variable {q:aw} {l:List aB} (f:RF q l)
include f
theorem DN {r:List Gate} {m:Int} {y:Int×List Gate}:y∈jj q l r m↔∃s:Nat,s<2^q.ao.length∧(sz s:Int)=m∧y.1=((s:Nat):Int)∧cZ q l r ((s:Nat):Int)=some y.2:=by
 have hp:=ye f.bad.2.2
 rw[jj,J3 f.bad.2.2,Ar,List.mem_filterMap]
 constructor
 · rintro ⟨a,ha,e⟩
   obtain ⟨s,hs,rfl⟩:=List.mem_map.1 ha
   obtain ⟨h1,h2⟩:=List.mem_filter.1 hs
   have h3:s<2^q.ao.length:=by have:=List.mem_range'_1.1 h1;omega
   obtain ⟨w,e1,rfl⟩:=Option.map_eq_some_iff.1 (show (cZ q l r ((s:Nat):Int)).map (fun w=>(((s:Nat):Int),w))=some y from e)
   exact ⟨s,h3,by rw[←J2 o!];exact of_decide_eq_true h2,rfl,e1⟩
 · rintro ⟨s,h1,h2,h3,h4⟩
   refine ⟨[AV.int .u64 ((s:Nat):Int)],List.mem_map.2 ⟨s,List.mem_filter.2 ⟨List.mem_range'_1.2 ⟨Nat.zero_le _,by omega⟩,?_⟩,rfl⟩,?_⟩
   · rw[decide_eq_true_eq,J2 o!];exact h2
   · show (cZ q l r ((s:Nat):Int)).map (fun w=>(((s:Nat):Int),w))=some y
     rw[h4,Option.map_some,←h3]
variable {t:Int} (t0:0≤t) (t1:t≤100000)
include t0 t1
theorem Uq {s:Nat} (hs:s<256) {w:List Gate} (e:cZ q l [aX t] ((s:Nat):Int)=some w):(iV w t).aM≤(iV w t).aD∧Bd (iV w t):=by
 obtain ⟨_,_,_,_,h5,h6⟩:=DK f t0 t1 hs e
 obtain ⟨r0,r1,f0,f1⟩:=f.FM
 have ag:me q.aJ q.aH (gM q l ((s:Nat):Int)):=fun i hi k hk=>h5 i ((jb f hs i).1 hi) k ((jb f hs k).1 hk)
 obtain ⟨v1,⟨b1,b2,b3,b4⟩,v3⟩:=at_mem f0 f1 r0 r1 (uI f ((s:Nat):Int)) t0 t1 (BU q l ((s:Nat):Int)) ag
 have same:∀x,((iV w t).aM≤x∧x≤(iV w t).aD)↔((tg q (gM q l ((s:Nat):Int)) t).aM≤x∧x≤(tg q (gM q l ((s:Nat):Int)) t).aD):=fun x=>by
  rw[h6,v3]
  exact ⟨fun h c hc=>h c ((jb f hs c).1 hc),fun h c hc=>h c ((jb f hs c).2 hc)⟩
 have a1:=(same (tg q (gM q l ((s:Nat):Int)) t).aM).2 ⟨Int.le_refl _,v1⟩
 have a2:=(same (tg q (gM q l ((s:Nat):Int)) t).aD).2 ⟨v1,Int.le_refl _⟩
 have a3:=(same (iV w t).aM).1 ⟨Int.le_refl _,by omega⟩
 have a4:=(same (iV w t).aD).1 ⟨by omega,Int.le_refl _⟩
 exact ⟨by omega,by omega,by omega,by omega,by omega⟩
theorem Gi:cO q l t=pg q l t:=by
 have hp:=ye f.bad.2.2
 have abF:∀s∈(jj q l [aX t] q.bad).map fun y=>iV y.2 t,s.aM≤s.aD∧Bd s:=fun s hs=>by
  obtain ⟨y,hy,rfl⟩:=List.mem_map.1 hs
  obtain ⟨n,n1,n2,n3,n4⟩:=(DN f).1 hy
  exact Uq f t0 t1 o! n4
 obtain ⟨c1,i1⟩:=Gh (A:=(jj q l [aX t] q.bad).map fun y=>iV y.2 t) (fun s hs=>(abF s hs).2) (fun s hs=>(abF s hs).1)
 obtain ⟨c2,i2⟩:=xa f t0 t1
 refine th c1 c2 fun x=>?_
 rw[cO,i1,i2]
 constructor
 · rintro ⟨s,hs,hx⟩
   obtain ⟨y,hy,rfl⟩:=List.mem_map.1 hs
   obtain ⟨n,n1,n2,n3,n4⟩:=(DN f).1 hy
   obtain ⟨_,_,_,_,h5,h6⟩:=DK f t0 t1 o! n4
   exact ⟨n,n1,n2,h5,(h6 x).1 hx⟩
 · rintro ⟨n,n1,n2,h5,hx⟩
   have hr:∀g∈ [aX t],∃t,0≤t∧t≤100000∧g=aX t:=fun g hg=>by rw[List.mem_singleton] at hg;exact ⟨t,t0,t1,hg⟩
   have sp:=(B8 f (s:=n) o! hr).1
   cases e:cZ q l [aX t] ((n:Nat):Int) with
   | none=>exact absurd h5 (sp.1 e)
   | some w=>
     obtain ⟨_,_,_,_,_,h6⟩:=DK f t0 t1 o! e
     exact ⟨iV w t,List.mem_map.2 ⟨(((n:Nat):Int),w),(DN f).2 ⟨n,n1,n2,rfl,e⟩,rfl⟩,(h6 x).2 hx⟩
end
def Gj:Code:=(Try.f7.body).getD .skip
theorem jd:Try.f7.body=some Gj:=by kernel_rfl
def dQ (q:aw) (l_:List aB):Bool:=(bif (decide (100<((List.length q.name:Nat):Int))) then true else (bif (decide (6<((q.ao.length:Nat):Int))) then (bif (decide (((q.ao.length:Nat):Int)≤8)) then true else (bif (decide (20<((q.ao.length:Nat):Int))) then true else (bif (decide (12<((l_.length:Nat):Int))) then (bif (decide (((l_.length:Nat):Int)≤64)) then true else (decide (80<((l_.length:Nat):Int)))) else (decide (80<((l_.length:Nat):Int)))))) else (bif (decide (20<((q.ao.length:Nat):Int))) then true else (bif (decide (12<((l_.length:Nat):Int))) then (bif (decide (((l_.length:Nat):Int)≤64)) then true else (decide (80<((l_.length:Nat):Int)))) else (decide (80<((l_.length:Nat):Int)))))))
theorem Qv {d:Nat} {h:au} {nI:AV} (q:aw) (l_:List aB) (jH:az.ok h q) (gN:aQ h nI l_) (cj:Tidy h):dw (d+1) (.fn 7) [(AV.agg [(AV.str q.name),(Zi q.ai),(Zi q.af),(Zi q.aH),(Zi q.aJ),(Zi q.bad),q.aA]),nI] h= .ret (AV.bool (dQ q l_)) h:=by
 have Dv:=gN.small
 have nt:=jH.2.small
 obtain ⟨h1,b9,cL,kt,aO,cz⟩:=jS cj (aR.cells [(AV.str q.name),(Zi q.ai),(Zi q.af),(Zi q.aH),(Zi q.aJ),(Zi q.bad),q.aA] 26 false)
 have bQ:Has h h1:=cz
 have sn2:q.name.length<2^60:=jH.1
 rcases Bool.eq_false_or_eq_true (decide (100<((List.length q.name:Nat):Int))) with f0 | f0
 · have pn:=of_decide_eq_true f0
   have e:dQ q l_=true:=by simp only[dQ,f0,ax,ar]
   rw[e]
   exact aF rfl (bu Try.func7 jd rfl (.inr rfl) (pk (d) _ _ h _ h1 (NN b9 (fun i=>(Pt i))<|CN 2<|MM (aL 9 0 (AV.str q.name) aO k!)<|CC<|VV (dx 3 false true .i64 ((List.length q.name:Nat):Int) 100)<|CC<|BB f0<|BB f0<|BB f0<|BB f0<|BB f0<|BV f0 (AI true f0)<|CC<|TT<|TT<|TT<|TT<|CN 2<|TT<|TT<|TT<|TT<|TT<|CN 2<|TT<|TT<|TT<|CN 2<|ZZ) k!) k!) bQ rfl
 · have pn:=of_decide_eq_false f0
   have As:eF (some (.slice 45)) (some q.aA)=some (Zn q.ao.length):=jH.2.len
   rcases Bool.eq_false_or_eq_true (decide (6<((q.ao.length:Nat):Int))) with f1 | f1
   · have tp:=of_decide_eq_true f1
     have JY:eF (some (.slice 45)) (some q.aA)=some (Zn q.ao.length):=jH.2.len
     rcases Bool.eq_false_or_eq_true (decide (((q.ao.length:Nat):Int)≤8)) with f2 | f2
     · have uM:=of_decide_eq_true f2
       have e:dQ q l_=true:=by simp only[dQ,f0,f1,f2,ax,ar]
       rw[e]
       exact aF rfl (bu Try.func7 jd rfl (.inr rfl) (pk (d) _ _ h _ h1 (NN b9 (fun i=>(Pt i))<|CN 2<|MM (aL 9 0 (AV.str q.name) aO k!)<|CC<|VV (dx 3 false true .i64 ((List.length q.name:Nat):Int) 100)<|CC<|BC f0<|BM f0 (aL 24 6 q.aA aO k!)<|BV f0 As<|BV f0 (dx 3 false true .i64 ((q.ao.length:Nat):Int) 6)<|BC f0<|BC f1<|BM f1 (aL 24 6 q.aA aO k!)<|BV f1 JY<|BV f1 (gA 3 false true .i64 ((q.ao.length:Nat):Int) 8)<|BV f0 (jG (decide (((q.ao.length:Nat):Int)≤8)) false f1)<|VV (bJ (a:=some (AV.bool true)) (b:=some (AV.bool (decide (((q.ao.length:Nat):Int)≤8)))) f0)<|CC<|BB f2<|BB f2<|BB f2<|BV f2 (AI true f2)<|CC<|TT<|TT<|TT<|TT<|TT<|CN 2<|TT<|TT<|TT<|CN 2<|ZZ) k!) k!) bQ rfl
     · have uM:=of_decide_eq_false f2
       have J7:eF (some (.slice 45)) (some q.aA)=some (Zn q.ao.length):=jH.2.len
       rcases Bool.eq_false_or_eq_true (decide (20<((q.ao.length:Nat):Int))) with f3 | f3
       · have qL:=of_decide_eq_true f3
         have e:dQ q l_=true:=by simp only[dQ,f0,f1,f2,f3,ax,ar]
         rw[e]
         exact aF rfl (bu Try.func7 jd rfl (.inr rfl) (pk (d) _ _ h _ h1 (NN b9 (fun i=>(Pt i))<|CN 2<|MM (aL 9 0 (AV.str q.name) aO k!)<|CC<|VV (dx 3 false true .i64 ((List.length q.name:Nat):Int) 100)<|CC<|BC f0<|BM f0 (aL 24 6 q.aA aO k!)<|BV f0 As<|BV f0 (dx 3 false true .i64 ((q.ao.length:Nat):Int) 6)<|BC f0<|BC f1<|BM f1 (aL 24 6 q.aA aO k!)<|BV f1 JY<|BV f1 (gA 3 false true .i64 ((q.ao.length:Nat):Int) 8)<|BV f0 (jG (decide (((q.ao.length:Nat):Int)≤8)) false f1)<|VV (bJ (a:=some (AV.bool true)) (b:=some (AV.bool (decide (((q.ao.length:Nat):Int)≤8)))) f0)<|CC<|BC f2<|BM f2 (aL 24 6 q.aA aO k!)<|BV f2 J7<|BV f2 (dx 3 false true .i64 ((q.ao.length:Nat):Int) 20)<|VV (bJ (a:=some (AV.bool true)) (b:=some (AV.bool (decide (20<((q.ao.length:Nat):Int))))) f2)<|CC<|BB f3<|BB f3<|BB f3<|BB f3<|BV f3 (AI true f3)<|CC<|TT<|TT<|TT<|CN 2<|ZZ) k!) k!) bQ rfl
       · have qL:=of_decide_eq_false f3
         have pw:eF (some (.slice 43)) (some nI)=some (Zn l_.length):=gN.len
         rcases Bool.eq_false_or_eq_true (decide (12<((l_.length:Nat):Int))) with f4 | f4
         · have qM:=of_decide_eq_true f4
           have Lz:eF (some (.slice 43)) (some nI)=some (Zn l_.length):=gN.len
           rcases Bool.eq_false_or_eq_true (decide (((l_.length:Nat):Int)≤64)) with f5 | f5
           · have zP:=of_decide_eq_true f5
             have e:dQ q l_=true:=by simp only[dQ,f0,f1,f2,f3,f4,f5,ax,ar]
             rw[e]
             exact aF rfl (bu Try.func7 jd rfl (.inr rfl) (pk (d) _ _ h _ h1 (NN b9 (fun i=>(Pt i))<|CN 2<|MM (aL 9 0 (AV.str q.name) aO k!)<|CC<|VV (dx 3 false true .i64 ((List.length q.name:Nat):Int) 100)<|CC<|BC f0<|BM f0 (aL 24 6 q.aA aO k!)<|BV f0 As<|BV f0 (dx 3 false true .i64 ((q.ao.length:Nat):Int) 6)<|BC f0<|BC f1<|BM f1 (aL 24 6 q.aA aO k!)<|BV f1 JY<|BV f1 (gA 3 false true .i64 ((q.ao.length:Nat):Int) 8)<|BV f0 (jG (decide (((q.ao.length:Nat):Int)≤8)) false f1)<|VV (bJ (a:=some (AV.bool true)) (b:=some (AV.bool (decide (((q.ao.length:Nat):Int)≤8)))) f0)<|CC<|BC f2<|BM f2 (aL 24 6 q.aA aO k!)<|BV f2 J7<|BV f2 (dx 3 false true .i64 ((q.ao.length:Nat):Int) 20)<|VV (bJ (a:=some (AV.bool true)) (b:=some (AV.bool (decide (20<((q.ao.length:Nat):Int))))) f2)<|CC<|BC f3<|BV f3 pw<|BV f3 (dx 3 false true .i64 ((l_.length:Nat):Int) 12)<|BC f3<|BC f4<|BV f4 Lz<|BV f4 (gA 3 false true .i64 ((l_.length:Nat):Int) 64)<|BV f3 (jG (decide (((l_.length:Nat):Int)≤64)) false f4)<|VV (bJ (a:=some (AV.bool true)) (b:=some (AV.bool (decide (((l_.length:Nat):Int)≤64)))) f3)<|CC<|BB f5<|BB f5<|BV f5 (AI true f5)<|CC<|ZZ) k!) k!) bQ rfl
           · have zP:=of_decide_eq_false f5
             have aec:eF (some (.slice 43)) (some nI)=some (Zn l_.length):=gN.len
             have e:dQ q l_=(decide (80<((l_.length:Nat):Int))):=by simp only[dQ,f0,f1,f2,f3,f4,f5,ax,ar]
             rw[e]
             exact aF rfl (bu Try.func7 jd rfl (.inr rfl) (pk (d) _ _ h _ h1 (NN b9 (fun i=>(Pt i))<|CN 2<|MM (aL 9 0 (AV.str q.name) aO k!)<|CC<|VV (dx 3 false true .i64 ((List.length q.name:Nat):Int) 100)<|CC<|BC f0<|BM f0 (aL 24 6 q.aA aO k!)<|BV f0 As<|BV f0 (dx 3 false true .i64 ((q.ao.length:Nat):Int) 6)<|BC f0<|BC f1<|BM f1 (aL 24 6 q.aA aO k!)<|BV f1 JY<|BV f1 (gA 3 false true .i64 ((q.ao.length:Nat):Int) 8)<|BV f0 (jG (decide (((q.ao.length:Nat):Int)≤8)) false f1)<|VV (bJ (a:=some (AV.bool true)) (b:=some (AV.bool (decide (((q.ao.length:Nat):Int)≤8)))) f0)<|CC<|BC f2<|BM f2 (aL 24 6 q.aA aO k!)<|BV f2 J7<|BV f2 (dx 3 false true .i64 ((q.ao.length:Nat):Int) 20)<|VV (bJ (a:=some (AV.bool true)) (b:=some (AV.bool (decide (20<((q.ao.length:Nat):Int))))) f2)<|CC<|BC f3<|BV f3 pw<|BV f3 (dx 3 false true .i64 ((l_.length:Nat):Int) 12)<|BC f3<|BC f4<|BV f4 Lz<|BV f4 (gA 3 false true .i64 ((l_.length:Nat):Int) 64)<|BV f3 (jG (decide (((l_.length:Nat):Int)≤64)) false f4)<|VV (bJ (a:=some (AV.bool true)) (b:=some (AV.bool (decide (((l_.length:Nat):Int)≤64)))) f3)<|CC<|BC f5<|BV f5 aec<|BV f5 (dx 3 false true .i64 ((l_.length:Nat):Int) 80)<|VV (bJ (a:=some (AV.bool true)) (b:=some (AV.bool (decide (80<((l_.length:Nat):Int))))) f5)<|CC<|ZZ) k!) k!) bQ rfl
         · have qM:=of_decide_eq_false f4
           have Lz:eF (some (.slice 43)) (some nI)=some (Zn l_.length):=gN.len
           have e:dQ q l_=(decide (80<((l_.length:Nat):Int))):=by simp only[dQ,f0,f1,f2,f3,f4,ax,ar]
           rw[e]
           exact aF rfl (bu Try.func7 jd rfl (.inr rfl) (pk (d) _ _ h _ h1 (NN b9 (fun i=>(Pt i))<|CN 2<|MM (aL 9 0 (AV.str q.name) aO k!)<|CC<|VV (dx 3 false true .i64 ((List.length q.name:Nat):Int) 100)<|CC<|BC f0<|BM f0 (aL 24 6 q.aA aO k!)<|BV f0 As<|BV f0 (dx 3 false true .i64 ((q.ao.length:Nat):Int) 6)<|BC f0<|BC f1<|BM f1 (aL 24 6 q.aA aO k!)<|BV f1 JY<|BV f1 (gA 3 false true .i64 ((q.ao.length:Nat):Int) 8)<|BV f0 (jG (decide (((q.ao.length:Nat):Int)≤8)) false f1)<|VV (bJ (a:=some (AV.bool true)) (b:=some (AV.bool (decide (((q.ao.length:Nat):Int)≤8)))) f0)<|CC<|BC f2<|BM f2 (aL 24 6 q.aA aO k!)<|BV f2 J7<|BV f2 (dx 3 false true .i64 ((q.ao.length:Nat):Int) 20)<|VV (bJ (a:=some (AV.bool true)) (b:=some (AV.bool (decide (20<((q.ao.length:Nat):Int))))) f2)<|CC<|BC f3<|BV f3 pw<|BV f3 (dx 3 false true .i64 ((l_.length:Nat):Int) 12)<|BC f3<|BB f4<|BB f4<|BB f4<|BV f3 (pH false f4)<|VV (Tr true false f3)<|CC<|FF<|CC<|FF<|VV Lz<|FF<|VV (dx 3 false true .i64 ((l_.length:Nat):Int) 80)<|CN 2<|ZZ) k!) k!) bQ rfl
   · have tp:=of_decide_eq_false f1
     have JY:eF (some (.slice 45)) (some q.aA)=some (Zn q.ao.length):=jH.2.len
     rcases Bool.eq_false_or_eq_true (decide (20<((q.ao.length:Nat):Int))) with f2 | f2
     · have uM:=of_decide_eq_true f2
       have e:dQ q l_=true:=by simp only[dQ,f0,f1,f2,ax,ar]
       rw[e]
       exact aF rfl (bu Try.func7 jd rfl (.inr rfl) (pk (d) _ _ h _ h1 (NN b9 (fun i=>(Pt i))<|CN 2<|MM (aL 9 0 (AV.str q.name) aO k!)<|CC<|VV (dx 3 false true .i64 ((List.length q.name:Nat):Int) 100)<|CC<|BC f0<|BM f0 (aL 24 6 q.aA aO k!)<|BV f0 As<|BV f0 (dx 3 false true .i64 ((q.ao.length:Nat):Int) 6)<|BC f0<|BB f1<|BB f1<|BB f1<|BB f1<|BV f0 (pH false f1)<|VV (Tr true false f0)<|CC<|FF<|CC<|FF<|MM (aL 24 6 q.aA aO k!)<|FF<|VV JY<|FF<|VV (dx 3 false true .i64 ((q.ao.length:Nat):Int) 20)<|CN 2<|BB f2<|BB f2<|BB f2<|BB f2<|BV f2 (AI true f2)<|CC<|TT<|TT<|TT<|CN 2<|ZZ) k!) k!) bQ rfl
     · have uM:=of_decide_eq_false f2
       have J7:eF (some (.slice 43)) (some nI)=some (Zn l_.length):=gN.len
       rcases Bool.eq_false_or_eq_true (decide (12<((l_.length:Nat):Int))) with f3 | f3
       · have qL:=of_decide_eq_true f3
         have pw:eF (some (.slice 43)) (some nI)=some (Zn l_.length):=gN.len
         rcases Bool.eq_false_or_eq_true (decide (((l_.length:Nat):Int)≤64)) with f4 | f4
         · have qM:=of_decide_eq_true f4
           have e:dQ q l_=true:=by simp only[dQ,f0,f1,f2,f3,f4,ax,ar]
           rw[e]
           exact aF rfl (bu Try.func7 jd rfl (.inr rfl) (pk (d) _ _ h _ h1 (NN b9 (fun i=>(Pt i))<|CN 2<|MM (aL 9 0 (AV.str q.name) aO k!)<|CC<|VV (dx 3 false true .i64 ((List.length q.name:Nat):Int) 100)<|CC<|BC f0<|BM f0 (aL 24 6 q.aA aO k!)<|BV f0 As<|BV f0 (dx 3 false true .i64 ((q.ao.length:Nat):Int) 6)<|BC f0<|BB f1<|BB f1<|BB f1<|BB f1<|BV f0 (pH false f1)<|VV (Tr true false f0)<|CC<|FF<|CC<|FF<|MM (aL 24 6 q.aA aO k!)<|FF<|VV JY<|FF<|VV (dx 3 false true .i64 ((q.ao.length:Nat):Int) 20)<|CN 2<|BC f2<|BV f2 J7<|BV f2 (dx 3 false true .i64 ((l_.length:Nat):Int) 12)<|BC f2<|BC f3<|BV f3 pw<|BV f3 (gA 3 false true .i64 ((l_.length:Nat):Int) 64)<|BV f2 (jG (decide (((l_.length:Nat):Int)≤64)) false f3)<|VV (bJ (a:=some (AV.bool true)) (b:=some (AV.bool (decide (((l_.length:Nat):Int)≤64)))) f2)<|CC<|BB f4<|BB f4<|BV f4 (AI true f4)<|CC<|ZZ) k!) k!) bQ rfl
         · have qM:=of_decide_eq_false f4
           have Lz:eF (some (.slice 43)) (some nI)=some (Zn l_.length):=gN.len
           have e:dQ q l_=(decide (80<((l_.length:Nat):Int))):=by simp only[dQ,f0,f1,f2,f3,f4,ax,ar]
           rw[e]
           exact aF rfl (bu Try.func7 jd rfl (.inr rfl) (pk (d) _ _ h _ h1 (NN b9 (fun i=>(Pt i))<|CN 2<|MM (aL 9 0 (AV.str q.name) aO k!)<|CC<|VV (dx 3 false true .i64 ((List.length q.name:Nat):Int) 100)<|CC<|BC f0<|BM f0 (aL 24 6 q.aA aO k!)<|BV f0 As<|BV f0 (dx 3 false true .i64 ((q.ao.length:Nat):Int) 6)<|BC f0<|BB f1<|BB f1<|BB f1<|BB f1<|BV f0 (pH false f1)<|VV (Tr true false f0)<|CC<|FF<|CC<|FF<|MM (aL 24 6 q.aA aO k!)<|FF<|VV JY<|FF<|VV (dx 3 false true .i64 ((q.ao.length:Nat):Int) 20)<|CN 2<|BC f2<|BV f2 J7<|BV f2 (dx 3 false true .i64 ((l_.length:Nat):Int) 12)<|BC f2<|BC f3<|BV f3 pw<|BV f3 (gA 3 false true .i64 ((l_.length:Nat):Int) 64)<|BV f2 (jG (decide (((l_.length:Nat):Int)≤64)) false f3)<|VV (bJ (a:=some (AV.bool true)) (b:=some (AV.bool (decide (((l_.length:Nat):Int)≤64)))) f2)<|CC<|BC f4<|BV f4 Lz<|BV f4 (dx 3 false true .i64 ((l_.length:Nat):Int) 80)<|VV (bJ (a:=some (AV.bool true)) (b:=some (AV.bool (decide (80<((l_.length:Nat):Int))))) f4)<|CC<|ZZ) k!) k!) bQ rfl
       · have qL:=of_decide_eq_false f3
         have pw:eF (some (.slice 43)) (some nI)=some (Zn l_.length):=gN.len
         have e:dQ q l_=(decide (80<((l_.length:Nat):Int))):=by simp only[dQ,f0,f1,f2,f3,ax,ar]
         rw[e]
         exact aF rfl (bu Try.func7 jd rfl (.inr rfl) (pk (d) _ _ h _ h1 (NN b9 (fun i=>(Pt i))<|CN 2<|MM (aL 9 0 (AV.str q.name) aO k!)<|CC<|VV (dx 3 false true .i64 ((List.length q.name:Nat):Int) 100)<|CC<|BC f0<|BM f0 (aL 24 6 q.aA aO k!)<|BV f0 As<|BV f0 (dx 3 false true .i64 ((q.ao.length:Nat):Int) 6)<|BC f0<|BB f1<|BB f1<|BB f1<|BB f1<|BV f0 (pH false f1)<|VV (Tr true false f0)<|CC<|FF<|CC<|FF<|MM (aL 24 6 q.aA aO k!)<|FF<|VV JY<|FF<|VV (dx 3 false true .i64 ((q.ao.length:Nat):Int) 20)<|CN 2<|BC f2<|BV f2 J7<|BV f2 (dx 3 false true .i64 ((l_.length:Nat):Int) 12)<|BC f2<|BB f3<|BB f3<|BB f3<|BV f2 (pH false f3)<|VV (Tr true false f2)<|CC<|FF<|CC<|FF<|VV pw<|FF<|VV (dx 3 false true .i64 ((l_.length:Nat):Int) 80)<|CN 2<|ZZ) k!) k!) bQ rfl
theorem vh {d:Nat} {h:au}:dw (d+1) (.fn 8) [] h= .ret (.bool true) h:=by
 have e:M0 8 [] h=some (.bool true,h):=rfl
 show dU env M0 (d+1) (.fn 8) _ h=_
 simp only[dU,e]
theorem Gk {d:Nat} {h:au} {nI:AV} (q:aw) (l_:List aB) (t:Int) (jH:az.ok h q) (gN:aQ h nI l_) (vb:∀i,i<l_.length→0≤(l_.g i).aC∧(l_.g i).aC<(q.ao.length:Int)) (T8:l_.length≤12) (Ye:q.ao.length≤8) (cj:Tidy h):∃z hk,dw (d+13) (.fn 35) [(AV.agg [(AV.str q.name),(Zi q.ai),(Zi q.af),(Zi q.aH),(Zi q.aJ),(Zi q.bad),q.aA]),nI,(Zi t)] h= .ret z hk∧Grow h hk∧(aQ hk z (cO q l_ t)∧ba h hk z (cO q l_ t)):=by
 obtain ⟨z,hk,e,y,n,a,o⟩:=IC (d:=d) (t:=t) cj jH gN T8 Ye vb (fun e=>Up T8 e)
 refine ⟨z,hk,e,⟨y,a,n⟩,ba.rows o ?_ (fun _ _=>trivial),o⟩
 have:∀(S:List Span) (k i:Nat) (L:List Span),(mN S k i L).length≤L.length+k:=by
  intro S k
  induction k with
  | zero=>intro i L;rw[mN];omega
  | succ k ih=>
    intro i L
    rw[mN]
    have h1:=ih (i+1) (L++[S.g i])
    rw[List.length_append,List.length_singleton] at h1
    have h2:=ih (i+1)
    cases decide (0≤(((L.length:Nat):Int) - 1)) with
    | false=>simp only[ar];omega
    | true=>
      rw[ax]
      cases decide ((S.g i).aM≤(IntKind.i64.wrap (((L.g (((L.length:Nat):Int) - 1).toNat).aD)+1)))
      · rw[ar];omega
      · rw[ax]
        have:=h2 (L.set (((L.length:Nat):Int) - 1).toNat ({(L.g (((L.length:Nat):Int) - 1).toNat) with aD:=(imax (L.g (((L.length:Nat):Int) - 1).toNat).aD (S.g i).aD)}:Span))
        rw[List.length_set] at this;omega
 have h1:=this (jB ((jj q l_ [aX t] q.bad).map fun y=>iV y.2 t)) (jB ((jj q l_ [aX t] q.bad).map fun y=>iV y.2 t)).length 0 []
 rw[jC,List.length_map] at h1
 have h2:(jj q l_ [aX t] q.bad).length≤2^q.ao.length:=by
  rw[jj,J3 Ye,Ar]
  refine Nat.le_trans (List.length_filterMap_le _ _) ?_
  rw[List.length_map]
  refine Nat.le_trans (List.length_filter_le _ _) ?_
  rw[List.length_range'];exact Nat.le_refl _
 have h3:=ye Ye
 rw[cO,lj,jC,List.length_map]
 rw[List.length_nil] at h1
 omega
theorem rV {q:aw} {l:List aB} (h:dQ q l=false):l.length≤12∨64<l.length:=by
 rw[dQ] at h
 by_cases a:(12:Int)<((l.length:Nat):Int)
 · by_cases b:((l.length:Nat):Int)≤64
   · exfalso
     rw[decide_eq_true a,decide_eq_true b] at h
     revert h
     cases decide (100<((List.length q.name:Nat):Int))<;>cases decide (6<((q.ao.length:Nat):Int))<;>cases decide (((q.ao.length:Nat):Int)≤8)<;>cases decide (20<((q.ao.length:Nat):Int))<;>intro h<;>cases h
   · exact .inr o!
 · exact .inl o!
theorem Au {q:aw} {l:List aB} {t:Int} (h:bH q l t=0):bY q l=0∧eI t=true:=by
 rw[bH,xg] at h
 by_cases a:bY q l=0
 · rw[decide_eq_true a] at h
   refine ⟨a,?_⟩
   cases b:eI t with
   | true=>rfl
   | false=>rw[b] at h;cases h
 · rw[decide_eq_false a] at h
   exact absurd h a
theorem j8 {q:aw} {l:List aB} {t:Int} (h:bH q l t=0) (m:l.length≤12∨64<l.length):(∀i,i<l.length→0≤(l.g i).aC∧(l.g i).aC<(q.ao.length:Int))∧l.length≤12∧q.ao.length≤8:=by
 obtain ⟨a,b,c⟩:=O' (Au h).1
 rcases m with d | d
 · exact ⟨a,d,c⟩
 · omega
def xR:Code:=(Try.f13.body).getD .skip
theorem vj:Try.f13.body=some xR:=by kernel_rfl
def ay (q:aw) (l_:List aB) (t:Int):List Span×Int:=(bif (!decide ((bH q l_ t)=0)) then ([],(bH q l_ t)) else ((cO q l_ t),0))
theorem j9 {d:Nat} {h:au} {nI:AV} (q:aw) (l_:List aB) (t:Int) (jH:az.ok h q) (gN:aQ h nI l_) (vb:l_.length≤12∨64<l_.length) (cj:Tidy h):∃z0 hk,dw (d+14) (.fn 13) [(AV.agg [(AV.str q.name),(Zi q.ai),(Zi q.af),(Zi q.aH),(Zi q.aJ),(Zi q.bad),q.aA]),nI,(Zi t)] h= .ret (AV.tuple [z0,(Zi (ay q l_ t).2)]) hk∧Grow h hk∧(aQ hk z0 ((ay q l_ t).1)∧ba h hk z0 (ay q l_ t).1):=by
 have Dv:=gN.small
 have nt:=jH.2.small
 obtain ⟨h1,b9,cL,kt,aO,cz⟩:=jS cj (aR.cells [(AV.str q.name),(Zi q.ai),(Zi q.af),(Zi q.aH),(Zi q.aJ),(Zi q.bad),q.aA] 26 false)
 have bQ:Has h h1:=cz
 have k2:=zU (d:=d+1) q l_ t (az.mono bQ jH) (gN.has bQ) cL
 rcases Bool.eq_false_or_eq_true (!decide ((bH q l_ t)=0)) with f0 | f0
 · have pn:=HI f0
   have e:ay q l_ t=([],(bH q l_ t)):=by simp only[ay,f0,ax,ar]
   rw[e]
   have DP:ba h h1 AV.aI ([]:List Span):= .inl ⟨.inl rfl,rfl⟩
   exact ⟨AV.aI,zt rfl (bu Try.func13 vj rfl (.inr rfl) (pk (d+13) _ _ h _ h1 (NN b9 (fun i=>(Pt i))<|CN 2<|MM (aL 26 0 (AV.agg [(AV.str q.name),(Zi q.ai),(Zi q.af),(Zi q.aH),(Zi q.aJ),(Zi q.bad),q.aA]) aO k!)<|CN 2<|EE k2<|CN 2<|VV (gL 31 false true .i64 (bH q l_ t) 0)<|BB f0<|CN 3<|ZZ) k!) k!) cj ⟨cL,bQ,by omega⟩ (P:=fun hh=>(aQ hh AV.aI ([]:List Span)∧ba h hh AV.aI ([]:List Span))) ⟨ba.rows DP (by first | omega | decide) (fun y hy=>by cases hy),DP⟩ fun v=>⟨ba.Vi DP (yb v (by simp)),ba.JD DP (yb v (by simp))⟩⟩
 · have pn:=HJ f0
   obtain ⟨z4,h6,si,dM,fz5,aee⟩:=Gk (d:=d) q l_ t (az.mono bQ jH) (gN.has bQ) (by first | omega | exact (j8 (by assumption) vb).1 | exact (j8 (by assumption) vb).2.1 | exact (j8 (by assumption) vb).2.2) (by first | omega | exact (j8 (by assumption) vb).1 | exact (j8 (by assumption) vb).2.1 | exact (j8 (by assumption) vb).2.2) (by first | omega | exact (j8 (by assumption) vb).1 | exact (j8 (by assumption) vb).2.1 | exact (j8 (by assumption) vb).2.2) cL
   have js:=dM.y
   have abA:h1.nx≤h6.nx:=dM.n
   have mV:Has h h6:=bQ.trans dM.a
   have ae2:=fz5.small
   have e:ay q l_ t=((cO q l_ t),0):=by simp only[ay,f0,ax,ar]
   rw[e]
   have DP:ba h h6 z4 (cO q l_ t):=ba.le (h0:=h) aee o!
   exact ⟨z4,zt rfl (bu Try.func13 vj rfl (.inr rfl) (pk (d+13) _ _ h _ h6 (NN b9 (fun i=>(Pt i))<|CN 2<|MM (aL 26 0 (AV.agg [(AV.str q.name),(Zi q.ai),(Zi q.af),(Zi q.aH),(Zi q.aJ),(Zi q.bad),q.aA]) aO k!)<|CN 2<|EE k2<|CN 2<|VV (gL 31 false true .i64 (bH q l_ t) 0)<|BM f0 (aL 26 0 (AV.agg [(AV.str q.name),(Zi q.ai),(Zi q.af),(Zi q.aH),(Zi q.aJ),(Zi q.bad),q.aA]) aO k!)<|CN 2<|EE si<|CN 2<|ZZ) k!) k!) cj ⟨js,mV,by omega⟩ (P:=fun hh=>(aQ hh z4 (cO q l_ t)∧ba h hh z4 (cO q l_ t))) ⟨ba.rows DP (by first | omega | decide) (fz5.Dp),DP⟩ fun v=>⟨ba.Vi DP (yb v (by simp)),ba.JD DP (yb v (by simp))⟩⟩
theorem kH {q:aw} {l:List aB} (f:RF q l) {t:Int} (t0:0≤t) (t1:t≤100000):Canon (cO q l t)∧∀x,uE (cO q l t) x↔∃s,s<2^q.ao.length∧(sz s:Int)=q.bad∧ti q l s∧Lj q l s t x:=by
 rw[Gi f t0 t1];exact xa f t0 t1
theorem J' {q:aw} {l:List aB} {t:Int} (h:bH q l t=0):RF q l∧0≤t∧t≤100000:=by
 obtain ⟨a,b⟩:=Au h
 exact ⟨JG a,HW (by rw[←JK];exact b)⟩
theorem Av {q:aw} {l:List aB} {t:Int} (h:(ay q l t).2=0):bH q l t=0:=by
 rw[ay] at h
 by_cases a:bH q l t=0
 · exact a
 · rw[decide_eq_false a] at h;exact h
theorem nv {q:aw} {l:List aB} {t:Int} (h:(ay q l t).2=0):RF q l∧(0≤t∧t≤100000)∧(ay q l t).1=cO q l t:=by
 have a:=Av h
 obtain ⟨f,t0⟩:=J' a
 refine ⟨f,t0,?_⟩
 rw[ay,decide_eq_true a];rfl
theorem Qw {q:aw} {l:List aB} {t:Int} (h:¬(ay q l t).2=0):(ay q l t).1=[]:=by
 rw[ay] at h ⊢
 by_cases a:bH q l t=0
 · rw[decide_eq_true a] at h;exact absurd rfl h
 · rw[decide_eq_false a];rfl
theorem Qx {q:aw} {l:List aB} {t:Int} (h:(ay q l t).2=0):(0≤q.bad∧q.bad≤8)∧q.ao.length≤8∧l.length≤64:=by
 have:=(nv h).1.bad;have:=(nv h).1.nm;omega
theorem Aw {q:aw} {l:List aB} {t:Int} (h:(ay q l t).2=0) {i:Nat} (hi:i<l.length):0≤(l.g i).aC∧(l.g i).aC<(q.ao.length:Int):=((nv h).1.read i hi).1
theorem Ur {q:aw} {l:List aB} (h:dQ q l=false):l.length≤80∧q.ao.length≤20:=by
 rw[dQ] at h
 by_cases a:(20:Int)<((q.ao.length:Nat):Int)
 · exfalso
   rw[decide_eq_true a] at h
   revert h
   cases decide (100<((List.length q.name:Nat):Int))<;>cases decide (6<((q.ao.length:Nat):Int))<;>cases decide (((q.ao.length:Nat):Int)≤8)<;>intro h<;>cases h
 · by_cases b:(80:Int)<((l.length:Nat):Int)
   · exfalso
     rw[decide_eq_true b,decide_eq_false a] at h
     revert h
     cases decide (100<((List.length q.name:Nat):Int))<;>cases decide (6<((q.ao.length:Nat):Int))<;>cases decide (((q.ao.length:Nat):Int)≤8)<;>cases decide (12<((l.length:Nat):Int))<;>cases decide (((l.length:Nat):Int)≤64)<;>intro h<;>cases h
   · omega
abbrev Gl (q:aw):aw:=⟨q.name,q.ai,q.af,q.aH,q.aJ,q.bad,.aI,q.ao⟩
theorem Us (q:aw) (l:List aB) (t:Int):bH q l t=bH (Gl q) l t:=by
 unfold bH
 rw[show bS q l=bS (Gl q) l from rfl]
theorem aef {q:aw} {l:List aB} (f:RF q l):RF (Gl q) l:=⟨f.start,f.FM,f.bad,f.aC,f.nm,f.read⟩
theorem px (q:aw) (l:List aB) (t:Int):ay q l t=ay (Gl q) l t:=by
 rw[ay,ay,←Us]
 by_cases a:bH q l t=0
 · obtain ⟨f,t0,t1⟩:=J' a
   obtain ⟨c1,i1⟩:=kH f t0 t1
   obtain ⟨c2,i2⟩:=kH (aef f) t0 t1
   have e:cO q l t=cO (Gl q) l t:=th c1 c2 fun x=>by rw[i1,i2];exact Iff.rfl
   rw[e]
 · rw[decide_eq_false a];rfl
theorem Has.mO {g h h':au} {p:Nat} (a:Has g h) (kp:∀b w,b≠p→h.get b=some w→h'.get b=some w) (y:Tidy g) (hp:g.nx≤p):Has g h':=fun i w e=>by
 have:=y _ _ e
 exact kp _ _ o! (a _ _ e)
theorem DQ {q:aw} {l:List aB} (h:bY q l=0):bB q=0∧l.length≤64∧∀i,i<l.length→ch q (l.g i)=0:=by
 have hm:=(JG h).nm
 rw[bY] at h
 by_cases e:bB q=0
 · rw[decide_eq_true e,ax,decide_eq_false (show ¬(64:Int)<((l.length:Nat):Int) by omega),ar] at h
   exact ⟨e,hm,fun i hi=>(pf q l _ _ _ h).2 i (Nat.zero_le _) o!⟩
 · rw[decide_eq_false e,ar] at h
   exact absurd (pf q l _ _ _ h).1 e
theorem VL (q:aw) (l:List aB):∀(k i:Nat),i+k=l.length→(∀j,j<l.length→ch q (l.g j)=0)→bX q l k i 0=0
 | 0,_,_,_=>rfl
 | k+1,i,e,h=>by
   rw[bX]
   simp only[decide_true,ax]
   rw[h i o!]
   exact VL q l k (i+1) o! h
theorem IE {q:aw} {l:List aB} (a:bB q=0) (b:l.length≤64) (c:∀i,i<l.length→ch q (l.g i)=0):bY q l=0:=by
 rw[bY,decide_eq_true a,ax,decide_eq_false (show ¬(64:Int)<((l.length:Nat):Int) by omega),ar,a]
 exact VL q l _ _ o! c
theorem LB {q:aw} {l:List aB} {t:Int} (a:bY q l=0) (b:eI t=true):bH q l t=0:=by
 rw[bH,xg,decide_eq_true a,b];rfl
theorem vk {q:aw} {l:List aB} {t:Int} (h:(ay q l t).2=0):bY q l=0∧eI t=true:=Au (Av h)
theorem Ax {q:aw} {l:List aB} {t:Int} (a:bY q l=0) (b:eI t=true):(ay q l t).2=0:=by
 rw[ay,decide_eq_true (LB a b)];rfl
theorem VM {p q:aw} (n:∀j,(p.ao.g j).name=(q.ao.g j).name) (i0:Nat):∀(k i:Nat),bE i0 p k i=bE i0 q k i
 | 0,_=>rfl
 | k+1,i=>by rw[bE,bE,n,n,VM n i0 k (i+1)]
theorem Qy {p q:aw} (n:∀j,(p.ao.g j).name=(q.ao.g j).name) (g:∀j,bK (q.ao.g j)=0→bK (p.ao.g j)=0):∀(k i:Nat),bC q k i=none→bC p k i=none
 | 0,_,_=>rfl
 | k+1,i,h=>by
   rw[bC] at h ⊢
   rw[n,VM n]
   cases h1:jV (q.ao.g i).name with
   | false=>rw[h1] at h;cases h
   | true=>
     rw[h1] at h
     simp only[Bool.not_true,ar] at h ⊢
     cases h2:bE i q i 0 with
     | some r=>rw[h2] at h;cases h
     | none=>
       rw[h2] at h
       simp only at h ⊢
       by_cases e:bK (q.ao.g i)=0
       · rw[decide_eq_true e] at h;rw[decide_eq_true (g i e)]
         exact Qy n g k (i+1) h
       · rw[decide_eq_false e] at h;cases h
theorem VN {p q:aw} (h:bB q=0) (hn:p.name=q.name) (hl:p.ai=q.ai) (hh:p.af=q.af) (hr:p.aH=q.aH) (hf:p.aJ=q.aJ) (len:p.ao.length=q.ao.length) (b:0≤p.bad∧p.bad≤(q.ao.length:Int)) (n:∀j,(p.ao.g j).name=(q.ao.g j).name) (g:∀j,bK (q.ao.g j)=0→bK (p.ao.g j)=0):bB p=0:=by
 have e:=h
 rw[bB] at e
 obtain ⟨a0,e⟩:=d_ (by decide) e
 obtain ⟨a1,e⟩:=d_ (by decide) e
 obtain ⟨a2,e⟩:=d_ (by decide) e
 obtain ⟨a3,e⟩:=d_ (by decide) e
 obtain ⟨a4,e⟩:=d_ (by decide) e
 obtain ⟨a5,e⟩:=d_ (by decide) e
 obtain ⟨a6,e⟩:=d_ (by decide) e
 obtain ⟨a7,e⟩:=d_ (by decide) e
 obtain ⟨a8,e⟩:=d_ (by decide) e
 obtain ⟨a9,e⟩:=d_ (by decide) e
 obtain ⟨U',e⟩:=d_ (by decide) e
 have hz:bC q q.ao.length 0=none:=by
  cases hc:bC q q.ao.length 0 with
  | none=>rfl
  | some r=>rw[hc] at e;exact absurd (hc.trans (congrArg some e)) (JF q _ _ fun _ _=>trivial)
 rw[bB,hn,hl,hh,hr,hf,len,a0,a1,a2,a3,a4,a5,a6,a7,a8,decide_eq_false (show ¬p.bad<0 by omega),decide_eq_false (show ¬(q.ao.length:Int)<p.bad by omega),Qy n g _ _ hz]
 rfl
theorem VO {p q:aw} (len:p.ao.length=q.ao.length) (r:aB):ch p r=ch q r:=by rw[ch,ch,len]
theorem Canon.gap {l:List Span}:∀{r:Span},Canon l→r∈l→¬uE l (r.aD+1):=by
 induction l with
 | nil=>intro r _ h;cases h
 | cons s l ih=>
   intro r c hr h
   have hb:=c.beyond
   have hh:=c.head
   rcases List.mem_cons.1 hr with rfl | hr
   · exact c.ends.2.2.1 h
   · rcases dI.1 h with h | h
     · have:=hb r hr
       have:r.aM≤r.aD:=by
        have:∀{m:List Span},Canon m→∀x∈m,x.aM≤x.aD:=by
         intro m
         induction m with
         | nil=>intro _ x hx;cases hx
         | cons a m ih=>intro c x hx;rcases List.mem_cons.1 hx with rfl | hx;exact c.head;exact ih c.tail x hx
        exact this c.tail r hr
       omega
     · exact ih c.tail hr h
theorem Canon.some {m:List Span}:Canon m→∀x∈m,x.aM≤x.aD:=by
 induction m with
 | nil=>intro _ x hx;cases hx
 | cons a m ih=>
   intro c x hx
   rcases List.mem_cons.1 hx with rfl | hx
   · exact c.head
   · exact ih c.tail x hx
theorem Canon.within {a b:List Span} (ca:Canon a) (cb:Canon b) (h:∀x,uE a x→uE b x):∀s∈a,∃r∈b,r.aM≤s.aM∧s.aD≤r.aD:=by
 intro s hs
 have hh:=ca.some s hs
 obtain ⟨r,hr,h1,h2⟩:=h s.aM ⟨s,hs,Int.le_refl _,hh⟩
 refine ⟨r,hr,h1,?_⟩
 by_cases e:s.aD≤r.aD
 · exact e
 · exact absurd (h (r.aD+1) ⟨s,hs,by omega,by omega⟩) (cb.gap hr)
theorem Gm {g:aE} {t:Int} (h:0≤g.acc∧g.acc≤1000000000∧0≤g.b6∧g.b6≤1000000000∧0≤g.since∧g.since≤100000) (t0:0≤t) (t1:t≤100000):eM g t=g.acc+g.b6*(((max (t - g.since) 0)+999) /1000):=by
 obtain ⟨a1,a2,a3,a4,a5,a6⟩:=h
 rw[eM,wrap_i64 (n:=t - g.since) o! o!]
 obtain ⟨m1,m2⟩:=HX (x:=t - g.since) (y:=0) (m:=100000) o! o!
 rw[ph] at m1 m2 ⊢
 generalize max (t - g.since) 0=m at m1 m2 ⊢
 rw[wrap_i64 (n:=m+999) o! o!,Int.tdiv_eq_ediv_of_nonneg o!]
 rw[wrap_i64 (n:=(m+999) /1000) o! o!]
 have d1:0≤(m+999) /1000:=by omega
 have d2:(m+999) /1000≤100:=by omega
 generalize (m+999) /1000=d at d1 d2 ⊢
 have p1:0≤g.b6*d:=Int.mul_nonneg a3 d1
 have p2:g.b6*d≤100000000000:=by
  calc g.b6*d≤1000000000*d:=Int.mul_le_mul_of_nonneg_right a4 d1
   _≤100000000000:=by omega
 rw[wrap_i64 (n:=g.b6*d) o! o!,wrap_i64 (n:=g.acc+g.b6*d) o! o!]
theorem Gn {f r:Int} {c c':cK} (e:c'.time=c.time) (h1:c.aj≤c'.aj) (h2:c'.ah≤c.ah) (t:Int):(fm f r c t).aM≤(fm f r c' t).aM∧(fm f r c' t).aD≤(fm f r c t).aD:=by
 rw[fm,fm,e]
 split<;>(simp only;omega)
theorem wg {q p:aw} {l m:List aB} {s s':Nat} (hr:p.aH=q.aH) (hf:p.aJ=q.aJ) (h:∀c,KS q l s c→∃c',KS p m s' c'∧c'.time=c.time∧c.aj≤c'.aj∧c'.ah≤c.ah):(ti p m s'→ti q l s)∧∀t x,Lj p m s' t x→Lj q l s t x:=by
 refine ⟨fun e i ki k kk=>?_,fun t x v c kc=>?_⟩
 · obtain ⟨i',ki',e1,a1,b1⟩:=h i ki
   obtain ⟨k',kk',e2,a2,b2⟩:=h k kk
   have w:=e i' ki' k' kk'
   rw[hr,hf,e2] at w
   have f1:=Gn (f:=q.aJ) (r:=q.aH) e1 a1 b1 k.time
   omega
 · obtain ⟨c',kc',e1,a1,b1⟩:=h c kc
   have w:=v c' kc'
   rw[hr,hf] at w
   have f1:=Gn (f:=q.aJ) (r:=q.aH) e1 a1 b1 t
   omega
def nM:Code:=(Try.f14.body).getD .skip
theorem Ay:Try.f14.body=some nM:=by kernel_rfl
def DS:Code:=(cX nM).getD 0 .skip
def DT:Code:=(cX nM).getD 1 .skip
def dO (a:List Span) (i0:Nat) (b:List Span):Nat→Nat→Bool→Bool
 | 0,_,A_=>A_
 | bj+1,i1,A_=>(bif A_ then dO a i0 b bj (i1+1) true else (bif (decide ((b.g i1).aM≤((a.g i0).aM))) then dO a i0 b bj (i1+1) (decide ((a.g i0).aD≤((b.g i1).aD))) else dO a i0 b bj (i1+1) false))
theorem kI {d:Nat} {h:au} (aV:AV) (bV:AV) (i0:Nat) (b:List Span) (a:List Span) (qZ:aQ h aV a) (q9:aQ h bV b) (F3:i0<a.length):∀(k_ i_:Nat) (A_:Bool) (_:i_+k_=b.length) (x:Nat→AV) (hh:au) (a_:Tidy hh) (bN:Has h hh),kD (dw (d)) DT ⟨(aV::bV::rx x 2 3 ((Zn i0)::(AV.bool A_)::(Zn i_)::rx x 8 41 [])),hh,[],.no⟩ (.exit 2) hh (fun r y=>(aV::bV::rx y 2 3 ((Zn i0)::(AV.bool r)::rx y 7 42 []))) (fun r=>True) (dO a i0 b k_ i_ A_)
 | 0,i1,A_,rR,x,hh,a_,bN=>by
   have Ir:=qZ.small
   have Ig:=q9.small
   have vU:eF (some (.slice 23)) (some bV)=some (Zn b.length):=(q9.has bN).len
   have q2:(decide (((i1:Nat):Int)<((b.length:Nat):Int)))=false:=d!
   exact kD.out A_ rfl (pk (d) _ _ hh _ hh (CN 2<|VV vU<|VV (cS 3 false false .i64 ((i1:Nat):Int) ((b.length:Nat):Int))<|BB q2<|ZZ) k!) (Grow.refl a_) trivial k!
 | bj+1,i1,A_,rR,x,hh,a_,bN=>by
   have Ir:=qZ.small
   have Ig:=q9.small
   have vU:eF (some (.slice 23)) (some bV)=some (Zn b.length):=(q9.has bN).len
   have q2:(decide (((i1:Nat):Int)<((b.length:Nat):Int)))=true:=d!
   rcases Bool.eq_false_or_eq_true A_ with f1 | f1
   · have u4:=ks 3 false true i1 1 o!
     exact kD.round (by simp only[dO,f1,ax,ar]) (pk (d) _ _ hh _ hh (CN 2<|VV vU<|VV (cS 3 false false .i64 ((i1:Nat):Int) ((b.length:Nat):Int))<|BB q2<|CN 2<|BB f1<|BB f1<|BB f1<|BB f1<|BB f1<|BB f1<|BB f1<|BB f1<|BB f1<|BB f1<|BB f1<|BB f1<|BV f1 (AI true f1)<|CN 2<|VV u4<|CC<|ZZ) k!) (Grow.refl a_) _ k! (fun x=>kI aV bV i0 b a qZ q9 F3 bj (i1+1) true o! x hh a_ bN)
   · obtain ⟨p5,q6,P4⟩:=(q9.has bN).elem (i:=i1) o!
     have xJ:dL env (some (.slice 23)) (some bV) (some (Zn i1))=some (AV.ptr p5 q6):=P4
     have Vv:bw env hh 3 (AV.ptr p5 (q6+0))=some (Zi (b.g i1).aM):=(q9.has bN).part (t:=3) (j:=0) o! P4 k! rfl
     obtain ⟨p9,rf,abG⟩:=(qZ.has bN).elem (i:=i0) o!
     have Pq:dL env (some (.slice 23)) (some aV) (some (Zn i0))=some (AV.ptr p9 rf):=abG
     have Ut:bw env hh 3 (AV.ptr p9 (rf+0))=some (Zi (a.g i0).aM):=(qZ.has bN).part (t:=3) (j:=0) o! abG k! rfl
     rcases Bool.eq_false_or_eq_true (decide ((b.g i1).aM≤((a.g i0).aM))) with f2 | f2
     · have uM:=of_decide_eq_true f2
       obtain ⟨p14,YT,VP⟩:=(qZ.has bN).elem (i:=i0) o!
       have F4:dL env (some (.slice 23)) (some aV) (some (Zn i0))=some (AV.ptr p14 YT):=VP
       have TE:bw env hh 3 (AV.ptr p14 (YT+1))=some (Zi (a.g i0).aD):=(qZ.has bN).part (t:=3) (j:=1) o! VP k! rfl
       obtain ⟨p18,q19,VQ⟩:=(q9.has bN).elem (i:=i1) o!
       have Xj:dL env (some (.slice 23)) (some bV) (some (Zn i1))=some (AV.ptr p18 q19):=VQ
       have PE:bw env hh 3 (AV.ptr p18 (q19+1))=some (Zi (b.g i1).aD):=(q9.has bN).part (t:=3) (j:=1) o! VQ k! rfl
       have u21:=ks 3 false true i1 1 o!
       exact kD.round (by simp only[dO,f1,f2,ax,ar]) (pk (d) _ _ hh _ hh (CN 2<|VV vU<|VV (cS 3 false false .i64 ((i1:Nat):Int) ((b.length:Nat):Int))<|BB q2<|CN 2<|BC f1<|BC f1<|BV f1 xJ<|BC f1<|BM f1 Vv<|BC f1<|BC f1<|BV f1 Pq<|BC f1<|BM f1 Ut<|BV f1 (gA 3 false false .i64 (b.g i1).aM (a.g i0).aM)<|BC f1<|BC f2<|BC f2<|BV f2 F4<|BC f2<|BM f2 TE<|BC f2<|BC f2<|BV f2 Xj<|BC f2<|BM f2 PE<|BV f2 (gA 3 false false .i64 (a.g i0).aD (b.g i1).aD)<|BV f1 (jG (decide ((a.g i0).aD≤((b.g i1).aD))) false f2)<|VV (bJ (a:=some (AV.bool true)) (b:=some (AV.bool (decide ((a.g i0).aD≤((b.g i1).aD))))) f1)<|CC<|HH Vv<|HH (show AV.same 20 (Zi (b.g i1).aM) (Zi (b.g i1).aM)=true from aN 19 _ _)<|HH Ut<|HH (show AV.same 20 (Zi (a.g i0).aM) (Zi (a.g i0).aM)=true from aN 19 _ _)<|HH TE<|HH (show AV.same 20 (Zi (a.g i0).aD) (Zi (a.g i0).aD)=true from aN 19 _ _)<|HH PE<|HH (show AV.same 20 (Zi (b.g i1).aD) (Zi (b.g i1).aD)=true from aN 19 _ _)<|CC<|VV u21<|CC<|ZZ) k!) (Grow.refl a_) _ k! (fun x=>kI aV bV i0 b a qZ q9 F3 bj (i1+1) (decide ((a.g i0).aD≤((b.g i1).aD))) o! x hh a_ bN)
     · have uM:=of_decide_eq_false f2
       have Xd:=ks 3 false true i1 1 o!
       exact kD.round (by simp only[dO,f1,f2,ax,ar]) (pk (d) _ _ hh _ hh (CN 2<|VV vU<|VV (cS 3 false false .i64 ((i1:Nat):Int) ((b.length:Nat):Int))<|BB q2<|CN 2<|BC f1<|BC f1<|BV f1 xJ<|BC f1<|BM f1 Vv<|BC f1<|BC f1<|BV f1 Pq<|BC f1<|BM f1 Ut<|BV f1 (gA 3 false false .i64 (b.g i1).aM (a.g i0).aM)<|BC f1<|BB f2<|BB f2<|BB f2<|BB f2<|BB f2<|BB f2<|BB f2<|BB f2<|BB f2<|BB f2<|BB f2<|BV f1 (pH false f2)<|VV (Tr true false f1)<|CC<|HH Vv<|HH (show AV.same 20 (Zi (b.g i1).aM) (Zi (b.g i1).aM)=true from aN 19 _ _)<|HH Ut<|HH (show AV.same 20 (Zi (a.g i0).aM) (Zi (a.g i0).aM)=true from aN 19 _ _)<|CC<|VV Xd<|CC<|ZZ) k!) (Grow.refl a_) _ k! (fun x=>kI aV bV i0 b a qZ q9 F3 bj (i1+1) false o! x hh a_ bN)
def gE (a:List Span) (b:List Span):Nat→Nat→Option (Bool)
 | 0,_=>none
 | gB+1,i0=>(bif (!(dO a i0 b b.length 0 false)) then some false else gE a b gB (i0+1))
theorem nN {d:Nat} {h:au} (aV:AV) (bV:AV) (a:List Span) (b:List Span) (eH:aQ h aV a) (F8:aQ h bV b):∀(k_ i_:Nat) (_:i_+k_=a.length) (x:Nat→AV) (hh:au) (a_:Tidy hh) (bN:Has h hh),bh (dw (d)) DS ⟨(aV::bV::rx x 2 3 ((Zn i_)::rx x 6 43 [])),hh,[],.no⟩ (.exit 0) hh (fun y=>(aV::bV::rx y 2 47 [])) (fun r y=>(aV::bV::(y 2)::(y 3)::(AV.bool r)::rx y 5 44 [])) (gE a b k_ i_)
 | 0,i0,rR,x,hh,a_,bN=>by
   have mD:=eH.small
   have Ib:=F8.small
   have vU:eF (some (.slice 23)) (some aV)=some (Zn a.length):=(eH.has bN).len
   have q2:(decide (((i0:Nat):Int)<((a.length:Nat):Int)))=false:=d!
   exact bh.out rfl (pk (d) _ _ hh _ hh (CN 2<|VV vU<|VV (cS 3 false false .i64 ((i0:Nat):Int) ((a.length:Nat):Int))<|BB q2<|ZZ) k!) (Grow.refl a_) k!
 | gB+1,i0,rR,x,hh,a_,bN=>by
   have mD:=eH.small
   have Ib:=F8.small
   have vU:eF (some (.slice 23)) (some aV)=some (Zn a.length):=(eH.has bN).len
   have q2:(decide (((i0:Nat):Int)<((a.length:Nat):Int)))=true:=d!
   obtain ⟨TN,h4,vY,Yf,TO⟩:=kI (d:=d) (h:=hh) aV bV i0 b a (eH.has bN) (F8.has bN) o! b.length 0 false o! (fun k_=>((aV::bV::rx x 2 3 ((Zn i0)::(AV.bool false)::(Zi 0)::(Zn i0)::aV::(Zn a.length)::(AV.bool (decide (((i0:Nat):Int)<((a.length:Nat):Int))))::rx x 12 37 [])):List AV).getD k_ AV.undef) hh a_ (Has.refl _)
   have A4:=Yf.y
   have aaN:hh.nx≤h4.nx:=Yf.n
   have DB:Has hh h4:=Yf.a
   rcases Bool.eq_false_or_eq_true (!(dO a i0 b b.length 0 false)) with f1 | f1
   · exact bh.ret false (by simp only[gE,f1,ax,ar]) (pk (d) _ _ hh _ h4 (CN 2<|VV vU<|VV (cS 3 false false .i64 ((i0:Nat):Int) ((a.length:Nat):Int))<|BB q2<|CN 2<|LL vY<|CN 2<|BC f1<|ZZ) k!) (⟨A4,DB,by omega⟩) k!
   · have u6:=ks 3 false true i0 1 o!
     exact bh.round (by simp only[gE,f1,ax,ar]) (pk (d) _ _ hh _ h4 (CN 2<|VV vU<|VV (cS 3 false false .i64 ((i0:Nat):Int) ((a.length:Nat):Int))<|BB q2<|CN 2<|LL vY<|CN 2<|BC f1<|VV u6<|CC<|ZZ) k!) (⟨A4,DB,by omega⟩) _ k! (fun x=>nN aV bV a b eH F8 gB (i0+1) o! x h4 A4 (bN.trans DB))
def bR (a:List Span) (b:List Span):Bool:=(match (gE a b a.length 0) with | none=>true | some rr1=>rr1)
theorem py {d:Nat} {h:au} {aV bV:AV} (a:List Span) (b:List Span) (h_a:aQ h aV a) (h_b:aQ h bV b) (cj:Tidy h):dw (d+1) (.fn 14) [aV,bV] h= .ret (AV.bool (bR a b)) h:=by
 have ae3:=h_a.small
 have ae4:=h_b.small
 cases DU:gE a b a.length 0 with
 | none=>
   obtain ⟨yl1,h2,IF,IG⟩:=bh.n DU (nN (d:=d) (h:=h) aV bV a b h_a h_b a.length 0 o! (fun k_=>((aV::bV::AV.undef::AV.undef::(AV.bool false)::(Zi 0)::ka 43):List AV).getD k_ AV.undef) h cj (Has.refl _))
   have iH:=IG.y
   have Ih:h.nx≤h2.nx:=IG.n
   have im:Has h h2:=IG.a
   have e:bR a b=true:=by simp only[bR,DU,ax,ar]
   rw[e]
   exact aF rfl (bu Try.func14 Ay rfl (.inr rfl) (pk (d) _ _ h _ h2 (CN 2<|LL IF<|CC<|ZZ) k!) k!) im rfl
 | some rr1=>
   obtain ⟨yl1,h2,IF,IG⟩:=bh.r DU (nN (d:=d) (h:=h) aV bV a b h_a h_b a.length 0 o! (fun k_=>((aV::bV::AV.undef::AV.undef::(AV.bool false)::(Zi 0)::ka 43):List AV).getD k_ AV.undef) h cj (Has.refl _))
   have iH:=IG.y
   have Ih:h.nx≤h2.nx:=IG.n
   have im:Has h h2:=IG.a
   have e:bR a b=rr1:=by simp only[bR,DU,ax,ar]
   rw[e]
   exact aF rfl (bu Try.func14 Ay rfl (.inr rfl) (pk (d) _ _ h _ h2 (CN 2<|LL IF<|ZZ) k!) k!) im rfl
theorem Gq (a b:List Span) (i0:Nat):∀(k i:Nat) (v:Bool),(v=true∨∃j,i≤j∧j<i+k∧(b.g j).aM≤(a.g i0).aM∧(a.g i0).aD≤(b.g j).aD)→dO a i0 b k i v=true
 | 0,i,v,h=>by
   rw[dO]
   rcases h with h | ⟨j,h1,h2,_⟩
   · exact h
   · omega
 | k+1,i,v,h=>by
   rw[dO]
   cases v with
   | true=>rw[ax];exact Gq a b i0 k (i+1) true (.inl rfl)
   | false=>
     rw[ar]
     rcases h with h | ⟨j,h1,h2,h3,h4⟩
     · cases h
     · by_cases e:j=i
       · subst e
         rw[decide_eq_true h3,decide_eq_true h4,ax]
         exact Gq a b i0 k (j+1) true (.inl rfl)
       · cases decide ((b.g i).aM≤(a.g i0).aM)
         · rw[ar];exact Gq a b i0 k (i+1) _ (.inr ⟨j,by omega,by omega,h3,h4⟩)
         · rw[ax];exact Gq a b i0 k (i+1) _ (.inr ⟨j,by omega,by omega,h3,h4⟩)
theorem Yg {l:List Span} {r:Span} (h:r∈l):∃j,j<l.length∧l.g j=r:=by
 obtain ⟨j,hj,e⟩:=List.mem_iff_getElem.1 h
 refine ⟨j,hj,?_⟩
 rw[←e]
 show l.getD j default=_
 rw[List.getD_eq_getElem?_getD,List.getElem?_eq_getElem hj];rfl
theorem VS {a b:List Span} (h:∀s∈a,∃r∈b,r.aM≤s.aM∧s.aD≤r.aD):∀(k i:Nat),i+k=a.length→gE a b k i=none
 | 0,_,_=>rfl
 | k+1,i,e=>by
   rw[gE]
   obtain ⟨r,hr,h1,h2⟩:=h (a.g i) (jT o!)
   obtain ⟨j,hj,rfl⟩:=Yg hr
   rw[Gq a b i b.length 0 false (.inr ⟨j,Nat.zero_le _,by omega,h1,h2⟩)]
   exact VS h k (i+1) o!
theorem LC {a b:List Span} (ca:Canon a) (cb:Canon b) (h:∀x,uE a x→uE b x):bR a b=true:=by
 rw[bR,VS (ca.within cb h) a.length 0 o!]
theorem DV {q p:aw} {l m:List aB} {t:Int} (hq:(ay q l t).2=0) (hp:(ay p m t).2=0) (h:∀s,s<2^q.ao.length→(sz s:Int)=q.bad→∃s',s'<2^p.ao.length∧(sz s':Int)=p.bad∧(ti q l s→ti p m s')∧∀x,Lj q l s t x→Lj p m s' t x):bR (ay q l t).1 (ay p m t).1=true:=by
 obtain ⟨fq,⟨t0,t1⟩,eq⟩:=nv hq
 obtain ⟨fp,_,ep⟩:=nv hp
 obtain ⟨cq,iq⟩:=kH fq t0 t1
 obtain ⟨cp,ip⟩:=kH fp t0 t1
 rw[eq,ep]
 refine LC cq cp fun x hx=>(ip x).2 ?_
 obtain ⟨s,h1,h2,h3,h4⟩:=(iq x).1 hx
 obtain ⟨s',a1,a2,a3,a4⟩:=h s h1 h2
 exact ⟨s',a1,a2,a3 h3,a4 x h4⟩
theorem aQ.suf {α:Type} [az α] {h:au} {v:AV} {l:List α} (x:aQ h v l) {t:TypeId} (ht:env.P.underlying t=some (.slice (az.e α))) {i:Nat} (h0:0<l.length) (hi:i≤l.length):∃r,dW env t v (some (.int .i64 ((i:Nat):Int))) none none=some r∧aQ h r (l.drop i):=by
 rcases x.at_.block with h1 | ⟨p,o,m,c,b,C,f,ro,h1,hc,h2,h3⟩
 · omega
 · subst h1
   have hm:m=l.length:=by
    have:=x.at_.lens
    rw[eY] at this
    simp only[Option.some.injEq,AV.int.injEq,true_and] at this
    omega
   subst hm
   have bo:=oi (len:=l.length) (cap:=c) (some (.int .i64 ((i:Nat):Int))) none (.inl rfl) (.inr ⟨rfl,rfl⟩) hi hc
   have RI:=x.small
   have hd:(l.drop i).length<2^60:=by rw[List.length_drop];omega
   have fl:((l.drop i).flatMap az.c).length=(l.drop i).length*az.n α:=bP az.len _
   have ok:∀y∈l.drop i,az.ok h y:=fun y hy=>x.Dp y (List.mem_of_mem_drop hy)
   by_cases e:c=i
   · subst e
     have hz:l.drop c=[]:=List.drop_eq_nil_of_le o!
     cases b with
     | true=>
       refine ⟨.dG,?_,⟨⟨x.at_.size,fl,hd,by rw[hz];rfl,.inl (by rw[hz];rfl)⟩,.inr (.inl rfl),ok⟩⟩
       simp only[dW,ht,x.at_.size,hc,if_true,bo]
       rfl
     | false=>
       refine ⟨.slice p o (l.length - c) (c - c) false,?_,⟨⟨x.at_.size,fl,hd,by rw[List.length_drop];exact eY _ _ _ _ _ _,.inl (by rw[hz];rfl)⟩,.inr (.inr ⟨_,_,_,_,_,rfl,fun q=>by cases q⟩),ok⟩⟩
       simp only[dW,ht,x.at_.size,hc,if_true,bo]
       simp
   · refine ⟨.slice p (o+i*az.n α) (l.length - i) (c - i) b,?_,⟨⟨x.at_.size,fl,hd,by rw[List.length_drop];exact eY _ _ _ _ _ _,.inr ⟨p,o+i*az.n α,_,_,b,C,f,ro,rfl,by omega,h2,fun j hj=>?_⟩⟩,.inr (.inr ⟨_,_,_,_,_,rfl,fun _=>by omega⟩),ok⟩⟩
     · simp only[dW,ht,x.at_.size,hc,if_true,bo]
       rw[if_neg e]
       simp
     · rw[fl,List.length_drop] at hj
       have jE:i*az.n α+j<(l.flatMap az.c).length:=by
        rw[bP az.len]
        have:=Nat.sub_mul l.length i (az.n α)
        have:=Nat.mul_le_mul_right (az.n α) hi
        omega
       rw[Nat.add_assoc,h3 _ jE]
       have e2:l=l.take i++l.drop i:=(List.take_append_drop i l).symm
       conv=>lhs;rw[e2,List.flatMap_append]
       rw[List.getElem?_append_right (by rw[bP az.len,List.length_take,Nat.min_eq_left hi];omega),bP az.len,List.length_take,Nat.min_eq_left hi,Nat.add_sub_cancel_left]
theorem modn {a b:Int} (hb:0<b) (hs:b<2^62):0≤Int.tmod (IntKind.i64.wrap (Int.tmod a b+b)) b∧Int.tmod (IntKind.i64.wrap (Int.tmod a b+b)) b<b:=by
 have h1:=Int.tmod_lt_of_pos a hb
 have h2: -b<Int.tmod a b:=by
  rcases Int.le_total 0 a with h | h
  · have:=Int.tmod_nonneg b h;omega
  · have:=Int.tmod_lt_of_pos (-a) hb
    rw[Int.neg_tmod] at this;omega
 rw[wrap_i64 o! o!]
 exact ⟨Int.tmod_nonneg b o!,Int.tmod_lt_of_pos _ hb⟩
end
end Go.Proofs.aK
