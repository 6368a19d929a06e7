import Derived.Test.YtobmbjlcklkpoaaW0
namespace Go.Proofs.aJ
open Go.Proofs Ab
noncomputable section
set_option maxRecDepth 100000
set_option maxHeartbeats 4000000
set_option linter.unusedVariables false
set_option linter.unusedSimpArgs false
def zF:Code:=(Try.f11.body).getD .skip
theorem BQ:Try.f11.body=some zF:=by kernel_rfl
def KW:Code:=(ck zF).getD 0 .skip
def lG (a:List Int) (b:List Int):Nat→Nat→Option (Bool)
 | 0,_=>none
 | dS+1,i0=>(bif (!decide ((a.g i0)=(b.g i0))) then some false else lG a b dS (i0+1))
theorem sZ {d:Nat} {h:aw} (aV:AV) (bV:AV) (a:List Int) (b:List Int) (bI:gA h .i64 3 aV a) (eO:gA h .i64 3 bV b) (rh:a.length=b.length):∀(k_ i_:Nat) (_:i_+k_=a.length) (x:Nat→AV) (hh:aw) (aL:Tidy hh) (aX:Has h hh),aU (cJ (d)) KW ⟨(aV::bV::rx x 2 3 ((Zn i_)::rx x 6 20 [])),hh,[],.no⟩ (.exit 0) hh (fun y=>(aV::bV::rx y 2 24 [])) (fun r y=>(aV::bV::(y 2)::(y 3)::(AV.bool r)::rx y 5 21 [])) (lG a b k_ i_)
 | 0,i0,jZ,x,hh,aL,aX=>by
   have fN:=bI.small
   have oO:=eO.small
   have ie:dw (some (.slice 3)) (some aV)=some (Zn a.length):=(bI.has aX).len
   have q2:(decide (((i0:Nat):Int)<((a.length:Nat):Int)))=false:=d!
   exact aU.out rfl (pk (d) _ _ hh _ hh (CN 2<|VV ie<|VV (bz 3 false false .i64 ((i0:Nat):Int) ((a.length:Nat):Int))<|BB q2<|ZZ) k!) (Grow.refl aL) k!
 | dS+1,i0,jZ,x,hh,aL,aX=>by
   have fN:=bI.small
   have oO:=eO.small
   have ie:dw (some (.slice 3)) (some aV)=some (Zn a.length):=(bI.has aX).len
   have q2:(decide (((i0:Nat):Int)<((a.length:Nat):Int)))=true:=d!
   obtain ⟨p4,q5,mH,_⟩:=(bI.has aX).elem (i:=i0) o!
   have py:di env (some (.slice 3)) (some aV) (some (Zn i0))=some (AV.ptr p4 q5):=mH
   have pz:bA env hh 3 (AV.ptr p4 q5)=some (Zi (a.g i0)):=(bI.has aX).load o! mH
   obtain ⟨p8,q9,IN,_⟩:=(eO.has aX).elem (i:=i0) o!
   have Dc:di env (some (.slice 3)) (some bV) (some (Zn i0))=some (AV.ptr p8 q9):=IN
   have xb:bA env hh 3 (AV.ptr p8 q9)=some (Zi (b.g i0)):=(eO.has aX).load o! IN
   rcases Bool.eq_false_or_eq_true (!decide ((a.g i0)=(b.g i0))) with f1 | f1
   · have iK:=AG f1
     exact aU.ret false (by simp only[lG,f1,aj,ai]) (pk (d) _ _ hh _ hh (CN 2<|VV ie<|VV (bz 3 false false .i64 ((i0:Nat):Int) ((a.length:Nat):Int))<|BB q2<|CN 2<|VV py<|MM pz<|CN 2<|VV Dc<|MM xb<|VV (eh 3 false false .i64 (a.g i0) (b.g i0))<|HH pz<|HH (show AV.same 20 (Zi (a.g i0)) (Zi (a.g i0))=true from aG 19 _ _)<|HH xb<|HH (show AV.same 20 (Zi (b.g i0)) (Zi (b.g i0))=true from aG 19 _ _)<|BC f1<|ZZ) k!) (Grow.refl aL) k!
   · have iK:=AH f1
     have RO:=eR 3 false true i0 1 o!
     exact aU.round (by simp only[lG,f1,aj,ai]) (pk (d) _ _ hh _ hh (CN 2<|VV ie<|VV (bz 3 false false .i64 ((i0:Nat):Int) ((a.length:Nat):Int))<|BB q2<|CN 2<|VV py<|MM pz<|CN 2<|VV Dc<|MM xb<|VV (eh 3 false false .i64 (a.g i0) (b.g i0))<|HH pz<|HH (show AV.same 20 (Zi (a.g i0)) (Zi (a.g i0))=true from aG 19 _ _)<|HH xb<|HH (show AV.same 20 (Zi (b.g i0)) (Zi (b.g i0))=true from aG 19 _ _)<|BC f1<|VV RO<|CC<|ZZ) k!) (Grow.refl aL) _ k! (fun x=>sZ aV bV a b bI eO rh dS (i0+1) o! x hh aL aX)
def hF (a:List Int) (b:List Int):Bool:=(bif (!decide (((a.length:Nat):Int)=((b.length:Nat):Int))) then false else (match (lG a b a.length 0) with | none=>true | some F3=>F3))
theorem IP {d:Nat} {h:aw} {aV bV:AV} (a:List Int) (b:List Int) (Oy:gA h .i64 3 aV a) (Pq:gA h .i64 3 bV b) (bH:Tidy h):cJ (d+1) (.fn 11) [aV,bV] h= .ret (AV.bool (hF a b)) h:=by
 have abR:=Oy.small
 have abS:=Pq.small
 have ie:dw (some (.slice 3)) (some aV)=some (Zn a.length):=Oy.len
 have RP:dw (some (.slice 3)) (some bV)=some (Zn b.length):=Pq.len
 rcases Bool.eq_false_or_eq_true (!decide (((a.length:Nat):Int)=((b.length:Nat):Int))) with f0 | f0
 · have ir:=AG f0
   have e:hF a b=false:=by simp only[hF,f0,aj,ai]
   rw[e]
   exact az rfl (a_ Try.func11 BQ rfl (.inr rfl) (pk (d) _ _ h _ h (CN 2<|VV ie<|CC<|VV RP<|VV (eh 3 false false .i64 ((a.length:Nat):Int) ((b.length:Nat):Int))<|BC f0<|ZZ) k!) k!) (Has.refl _) rfl
 · have ir:=AH f0
   cases fV:lG a b a.length 0 with
   | none=>
     obtain ⟨Pr,h5,fO,iu⟩:=aU.n fV (sZ (d:=d) (h:=h) aV bV a b Oy Pq o! a.length 0 o! (fun k_=>((aV::bV::AV.undef::AV.undef::(AV.bool false)::(Zi 0)::aV::(Zn a.length)::bV::(Zn b.length)::(AV.bool (!decide (((a.length:Nat):Int)=((b.length:Nat):Int))))::jl 15):List AV).getD k_ AV.undef) h bH (Has.refl _))
     have jJ:=iu.y
     have vD:h.nx≤h5.nx:=iu.n
     have iP:Has h h5:=iu.a
     have e:hF a b=true:=by simp only[hF,f0,fV,aj,ai]
     rw[e]
     exact az rfl (a_ Try.func11 BQ rfl (.inr rfl) (pk (d) _ _ h _ h5 (CN 2<|VV ie<|CC<|VV RP<|VV (eh 3 false false .i64 ((a.length:Nat):Int) ((b.length:Nat):Int))<|BC f0<|LL fO<|CC<|ZZ) k!) k!) iP rfl
   | some F3=>
     obtain ⟨Pr,h5,fO,iu⟩:=aU.r fV (sZ (d:=d) (h:=h) aV bV a b Oy Pq o! a.length 0 o! (fun k_=>((aV::bV::AV.undef::AV.undef::(AV.bool false)::(Zi 0)::aV::(Zn a.length)::bV::(Zn b.length)::(AV.bool (!decide (((a.length:Nat):Int)=((b.length:Nat):Int))))::jl 15):List AV).getD k_ AV.undef) h bH (Has.refl _))
     have jJ:=iu.y
     have vD:h.nx≤h5.nx:=iu.n
     have iP:Has h h5:=iu.a
     have e:hF a b=F3:=by simp only[hF,f0,fV,aj,ai]
     rw[e]
     exact az rfl (a_ Try.func11 BQ rfl (.inr rfl) (pk (d) _ _ h _ h5 (CN 2<|VV ie<|CC<|VV RP<|VV (eh 3 false false .i64 ((a.length:Nat):Int) ((b.length:Nat):Int))<|BC f0<|LL fO<|ZZ) k!) k!) iP rfl
def IQ:Code:=(Try.f4.body).getD .skip
theorem kN:Try.f4.body=some IQ:=by kernel_rfl
def eS (q:ay) (l_:List aM):Bool:=(bif (decide (100<((List.length q.name:Nat):Int))) then true else (bif (decide (6<((q.ar.length:Nat):Int))) then (bif (decide (((q.ar.length:Nat):Int)≤8)) then true else (bif (decide (20<((q.ar.length:Nat):Int))) then true else (bif (decide (12<((l_.length:Nat):Int))) then (bif (decide (((l_.length:Nat):Int)≤64)) then true else (decide (80<((l_.length:Nat):Int)))) else (decide (80<((l_.length:Nat):Int)))))) else (bif (decide (20<((q.ar.length:Nat):Int))) then true else (bif (decide (12<((l_.length:Nat):Int))) then (bif (decide (((l_.length:Nat):Int)≤64)) then true else (decide (80<((l_.length:Nat):Int)))) else (decide (80<((l_.length:Nat):Int)))))))
theorem RQ {d:Nat} {h:aw} {dB:AV} (q:ay) (l_:List aM) (eP:aA.ok h q) (eY:aQ h dB l_) (bH:Tidy h):cJ (d+1) (.fn 4) [(AV.agg [(AV.str q.name),(Zi q.af),(Zi q.ab),(Zi q.aC),(Zi q.aD),(Zi q.bad),q.ao]),dB] h= .ret (AV.bool (eS q l_)) h:=by
 have oP:=eY.small
 have fW:=eP.2.small
 obtain ⟨h1,bD,bN,fX,aH,bZ⟩:=gu bH (aY.cells [(AV.str q.name),(Zi q.af),(Zi q.ab),(Zi q.aC),(Zi q.aD),(Zi q.bad),q.ao] 26 false)
 have bk:Has h h1:=bZ
 have sn2:q.name.length<2^60:=eP.1
 rcases Bool.eq_false_or_eq_true (decide (100<((List.length q.name:Nat):Int))) with f0 | f0
 · have ir:=of_decide_eq_true f0
   have e:eS q l_=true:=by simp only[eS,f0,aj,ai]
   rw[e]
   exact az rfl (a_ Try.func4 kN rfl (.inr rfl) (pk (d) _ _ h _ h1 (NN bD (fun i=>(Pt i))<|CN 2<|MM (aB 9 0 (AV.str q.name) aH k!)<|CC<|VV (bW 3 false true .i64 ((List.length q.name:Nat):Int) 100)<|CC<|BB f0<|BB f0<|BB f0<|BB f0<|BB f0<|BV f0 (nR true f0)<|CC<|TT<|TT<|TT<|TT<|CN 2<|TT<|TT<|TT<|TT<|TT<|CN 2<|TT<|TT<|TT<|CN 2<|ZZ) k!) k!) bk rfl
 · have ir:=of_decide_eq_false f0
   have IS:dw (some (.slice 63)) (some q.ao)=some (Zn q.ar.length):=eP.2.len
   rcases Bool.eq_false_or_eq_true (decide (6<((q.ar.length:Nat):Int))) with f1 | f1
   · have iK:=of_decide_eq_true f1
     have MU:dw (some (.slice 63)) (some q.ao)=some (Zn q.ar.length):=eP.2.len
     rcases Bool.eq_false_or_eq_true (decide (((q.ar.length:Nat):Int)≤8)) with f2 | f2
     · have pO:=of_decide_eq_true f2
       have e:eS q l_=true:=by simp only[eS,f0,f1,f2,aj,ai]
       rw[e]
       exact az rfl (a_ Try.func4 kN rfl (.inr rfl) (pk (d) _ _ h _ h1 (NN bD (fun i=>(Pt i))<|CN 2<|MM (aB 9 0 (AV.str q.name) aH k!)<|CC<|VV (bW 3 false true .i64 ((List.length q.name:Nat):Int) 100)<|CC<|BC f0<|BM f0 (aB 24 6 q.ao aH k!)<|BV f0 IS<|BV f0 (bW 3 false true .i64 ((q.ar.length:Nat):Int) 6)<|BC f0<|BC f1<|BM f1 (aB 24 6 q.ao aH k!)<|BV f1 MU<|BV f1 (gR 3 false true .i64 ((q.ar.length:Nat):Int) 8)<|BV f0 (jA (decide (((q.ar.length:Nat):Int)≤8)) false f1)<|VV (aR (a:=some (AV.bool true)) (b:=some (AV.bool (decide (((q.ar.length:Nat):Int)≤8)))) f0)<|CC<|BB f2<|BB f2<|BB f2<|BV f2 (nR true f2)<|CC<|TT<|TT<|TT<|TT<|TT<|CN 2<|TT<|TT<|TT<|CN 2<|ZZ) k!) k!) bk rfl
     · have pO:=of_decide_eq_false f2
       have IT:dw (some (.slice 63)) (some q.ao)=some (Zn q.ar.length):=eP.2.len
       rcases Bool.eq_false_or_eq_true (decide (20<((q.ar.length:Nat):Int))) with f3 | f3
       · have l7:=of_decide_eq_true f3
         have e:eS q l_=true:=by simp only[eS,f0,f1,f2,f3,aj,ai]
         rw[e]
         exact az rfl (a_ Try.func4 kN rfl (.inr rfl) (pk (d) _ _ h _ h1 (NN bD (fun i=>(Pt i))<|CN 2<|MM (aB 9 0 (AV.str q.name) aH k!)<|CC<|VV (bW 3 false true .i64 ((List.length q.name:Nat):Int) 100)<|CC<|BC f0<|BM f0 (aB 24 6 q.ao aH k!)<|BV f0 IS<|BV f0 (bW 3 false true .i64 ((q.ar.length:Nat):Int) 6)<|BC f0<|BC f1<|BM f1 (aB 24 6 q.ao aH k!)<|BV f1 MU<|BV f1 (gR 3 false true .i64 ((q.ar.length:Nat):Int) 8)<|BV f0 (jA (decide (((q.ar.length:Nat):Int)≤8)) false f1)<|VV (aR (a:=some (AV.bool true)) (b:=some (AV.bool (decide (((q.ar.length:Nat):Int)≤8)))) f0)<|CC<|BC f2<|BM f2 (aB 24 6 q.ao aH k!)<|BV f2 IT<|BV f2 (bW 3 false true .i64 ((q.ar.length:Nat):Int) 20)<|VV (aR (a:=some (AV.bool true)) (b:=some (AV.bool (decide (20<((q.ar.length:Nat):Int))))) f2)<|CC<|BB f3<|BB f3<|BB f3<|BB f3<|BV f3 (nR true f3)<|CC<|TT<|TT<|TT<|CN 2<|ZZ) k!) k!) bk rfl
       · have l7:=of_decide_eq_false f3
         have IU:dw (some (.slice 44)) (some dB)=some (Zn l_.length):=eY.len
         rcases Bool.eq_false_or_eq_true (decide (12<((l_.length:Nat):Int))) with f4 | f4
         · have l8:=of_decide_eq_true f4
           have Oz:dw (some (.slice 44)) (some dB)=some (Zn l_.length):=eY.len
           rcases Bool.eq_false_or_eq_true (decide (((l_.length:Nat):Int)≤64)) with f5 | f5
           · have yM:=of_decide_eq_true f5
             have e:eS q l_=true:=by simp only[eS,f0,f1,f2,f3,f4,f5,aj,ai]
             rw[e]
             exact az rfl (a_ Try.func4 kN rfl (.inr rfl) (pk (d) _ _ h _ h1 (NN bD (fun i=>(Pt i))<|CN 2<|MM (aB 9 0 (AV.str q.name) aH k!)<|CC<|VV (bW 3 false true .i64 ((List.length q.name:Nat):Int) 100)<|CC<|BC f0<|BM f0 (aB 24 6 q.ao aH k!)<|BV f0 IS<|BV f0 (bW 3 false true .i64 ((q.ar.length:Nat):Int) 6)<|BC f0<|BC f1<|BM f1 (aB 24 6 q.ao aH k!)<|BV f1 MU<|BV f1 (gR 3 false true .i64 ((q.ar.length:Nat):Int) 8)<|BV f0 (jA (decide (((q.ar.length:Nat):Int)≤8)) false f1)<|VV (aR (a:=some (AV.bool true)) (b:=some (AV.bool (decide (((q.ar.length:Nat):Int)≤8)))) f0)<|CC<|BC f2<|BM f2 (aB 24 6 q.ao aH k!)<|BV f2 IT<|BV f2 (bW 3 false true .i64 ((q.ar.length:Nat):Int) 20)<|VV (aR (a:=some (AV.bool true)) (b:=some (AV.bool (decide (20<((q.ar.length:Nat):Int))))) f2)<|CC<|BC f3<|BV f3 IU<|BV f3 (bW 3 false true .i64 ((l_.length:Nat):Int) 12)<|BC f3<|BC f4<|BV f4 Oz<|BV f4 (gR 3 false true .i64 ((l_.length:Nat):Int) 64)<|BV f3 (jA (decide (((l_.length:Nat):Int)≤64)) false f4)<|VV (aR (a:=some (AV.bool true)) (b:=some (AV.bool (decide (((l_.length:Nat):Int)≤64)))) f3)<|CC<|BB f5<|BB f5<|BV f5 (nR true f5)<|CC<|ZZ) k!) k!) bk rfl
           · have yM:=of_decide_eq_false f5
             have aeN:dw (some (.slice 44)) (some dB)=some (Zn l_.length):=eY.len
             have e:eS q l_=(decide (80<((l_.length:Nat):Int))):=by simp only[eS,f0,f1,f2,f3,f4,f5,aj,ai]
             rw[e]
             exact az rfl (a_ Try.func4 kN rfl (.inr rfl) (pk (d) _ _ h _ h1 (NN bD (fun i=>(Pt i))<|CN 2<|MM (aB 9 0 (AV.str q.name) aH k!)<|CC<|VV (bW 3 false true .i64 ((List.length q.name:Nat):Int) 100)<|CC<|BC f0<|BM f0 (aB 24 6 q.ao aH k!)<|BV f0 IS<|BV f0 (bW 3 false true .i64 ((q.ar.length:Nat):Int) 6)<|BC f0<|BC f1<|BM f1 (aB 24 6 q.ao aH k!)<|BV f1 MU<|BV f1 (gR 3 false true .i64 ((q.ar.length:Nat):Int) 8)<|BV f0 (jA (decide (((q.ar.length:Nat):Int)≤8)) false f1)<|VV (aR (a:=some (AV.bool true)) (b:=some (AV.bool (decide (((q.ar.length:Nat):Int)≤8)))) f0)<|CC<|BC f2<|BM f2 (aB 24 6 q.ao aH k!)<|BV f2 IT<|BV f2 (bW 3 false true .i64 ((q.ar.length:Nat):Int) 20)<|VV (aR (a:=some (AV.bool true)) (b:=some (AV.bool (decide (20<((q.ar.length:Nat):Int))))) f2)<|CC<|BC f3<|BV f3 IU<|BV f3 (bW 3 false true .i64 ((l_.length:Nat):Int) 12)<|BC f3<|BC f4<|BV f4 Oz<|BV f4 (gR 3 false true .i64 ((l_.length:Nat):Int) 64)<|BV f3 (jA (decide (((l_.length:Nat):Int)≤64)) false f4)<|VV (aR (a:=some (AV.bool true)) (b:=some (AV.bool (decide (((l_.length:Nat):Int)≤64)))) f3)<|CC<|BC f5<|BV f5 aeN<|BV f5 (bW 3 false true .i64 ((l_.length:Nat):Int) 80)<|VV (aR (a:=some (AV.bool true)) (b:=some (AV.bool (decide (80<((l_.length:Nat):Int))))) f5)<|CC<|ZZ) k!) k!) bk rfl
         · have l8:=of_decide_eq_false f4
           have Oz:dw (some (.slice 44)) (some dB)=some (Zn l_.length):=eY.len
           have e:eS q l_=(decide (80<((l_.length:Nat):Int))):=by simp only[eS,f0,f1,f2,f3,f4,aj,ai]
           rw[e]
           exact az rfl (a_ Try.func4 kN rfl (.inr rfl) (pk (d) _ _ h _ h1 (NN bD (fun i=>(Pt i))<|CN 2<|MM (aB 9 0 (AV.str q.name) aH k!)<|CC<|VV (bW 3 false true .i64 ((List.length q.name:Nat):Int) 100)<|CC<|BC f0<|BM f0 (aB 24 6 q.ao aH k!)<|BV f0 IS<|BV f0 (bW 3 false true .i64 ((q.ar.length:Nat):Int) 6)<|BC f0<|BC f1<|BM f1 (aB 24 6 q.ao aH k!)<|BV f1 MU<|BV f1 (gR 3 false true .i64 ((q.ar.length:Nat):Int) 8)<|BV f0 (jA (decide (((q.ar.length:Nat):Int)≤8)) false f1)<|VV (aR (a:=some (AV.bool true)) (b:=some (AV.bool (decide (((q.ar.length:Nat):Int)≤8)))) f0)<|CC<|BC f2<|BM f2 (aB 24 6 q.ao aH k!)<|BV f2 IT<|BV f2 (bW 3 false true .i64 ((q.ar.length:Nat):Int) 20)<|VV (aR (a:=some (AV.bool true)) (b:=some (AV.bool (decide (20<((q.ar.length:Nat):Int))))) f2)<|CC<|BC f3<|BV f3 IU<|BV f3 (bW 3 false true .i64 ((l_.length:Nat):Int) 12)<|BC f3<|BB f4<|BB f4<|BB f4<|BV f3 (pN false f4)<|VV (Xu true false f3)<|CC<|FF<|CC<|FF<|VV Oz<|FF<|VV (bW 3 false true .i64 ((l_.length:Nat):Int) 80)<|CN 2<|ZZ) k!) k!) bk rfl
   · have iK:=of_decide_eq_false f1
     have MU:dw (some (.slice 63)) (some q.ao)=some (Zn q.ar.length):=eP.2.len
     rcases Bool.eq_false_or_eq_true (decide (20<((q.ar.length:Nat):Int))) with f2 | f2
     · have pO:=of_decide_eq_true f2
       have e:eS q l_=true:=by simp only[eS,f0,f1,f2,aj,ai]
       rw[e]
       exact az rfl (a_ Try.func4 kN rfl (.inr rfl) (pk (d) _ _ h _ h1 (NN bD (fun i=>(Pt i))<|CN 2<|MM (aB 9 0 (AV.str q.name) aH k!)<|CC<|VV (bW 3 false true .i64 ((List.length q.name:Nat):Int) 100)<|CC<|BC f0<|BM f0 (aB 24 6 q.ao aH k!)<|BV f0 IS<|BV f0 (bW 3 false true .i64 ((q.ar.length:Nat):Int) 6)<|BC f0<|BB f1<|BB f1<|BB f1<|BB f1<|BV f0 (pN false f1)<|VV (Xu true false f0)<|CC<|FF<|CC<|FF<|MM (aB 24 6 q.ao aH k!)<|FF<|VV MU<|FF<|VV (bW 3 false true .i64 ((q.ar.length:Nat):Int) 20)<|CN 2<|BB f2<|BB f2<|BB f2<|BB f2<|BV f2 (nR true f2)<|CC<|TT<|TT<|TT<|CN 2<|ZZ) k!) k!) bk rfl
     · have pO:=of_decide_eq_false f2
       have IT:dw (some (.slice 44)) (some dB)=some (Zn l_.length):=eY.len
       rcases Bool.eq_false_or_eq_true (decide (12<((l_.length:Nat):Int))) with f3 | f3
       · have l7:=of_decide_eq_true f3
         have IU:dw (some (.slice 44)) (some dB)=some (Zn l_.length):=eY.len
         rcases Bool.eq_false_or_eq_true (decide (((l_.length:Nat):Int)≤64)) with f4 | f4
         · have l8:=of_decide_eq_true f4
           have e:eS q l_=true:=by simp only[eS,f0,f1,f2,f3,f4,aj,ai]
           rw[e]
           exact az rfl (a_ Try.func4 kN rfl (.inr rfl) (pk (d) _ _ h _ h1 (NN bD (fun i=>(Pt i))<|CN 2<|MM (aB 9 0 (AV.str q.name) aH k!)<|CC<|VV (bW 3 false true .i64 ((List.length q.name:Nat):Int) 100)<|CC<|BC f0<|BM f0 (aB 24 6 q.ao aH k!)<|BV f0 IS<|BV f0 (bW 3 false true .i64 ((q.ar.length:Nat):Int) 6)<|BC f0<|BB f1<|BB f1<|BB f1<|BB f1<|BV f0 (pN false f1)<|VV (Xu true false f0)<|CC<|FF<|CC<|FF<|MM (aB 24 6 q.ao aH k!)<|FF<|VV MU<|FF<|VV (bW 3 false true .i64 ((q.ar.length:Nat):Int) 20)<|CN 2<|BC f2<|BV f2 IT<|BV f2 (bW 3 false true .i64 ((l_.length:Nat):Int) 12)<|BC f2<|BC f3<|BV f3 IU<|BV f3 (gR 3 false true .i64 ((l_.length:Nat):Int) 64)<|BV f2 (jA (decide (((l_.length:Nat):Int)≤64)) false f3)<|VV (aR (a:=some (AV.bool true)) (b:=some (AV.bool (decide (((l_.length:Nat):Int)≤64)))) f2)<|CC<|BB f4<|BB f4<|BV f4 (nR true f4)<|CC<|ZZ) k!) k!) bk rfl
         · have l8:=of_decide_eq_false f4
           have Oz:dw (some (.slice 44)) (some dB)=some (Zn l_.length):=eY.len
           have e:eS q l_=(decide (80<((l_.length:Nat):Int))):=by simp only[eS,f0,f1,f2,f3,f4,aj,ai]
           rw[e]
           exact az rfl (a_ Try.func4 kN rfl (.inr rfl) (pk (d) _ _ h _ h1 (NN bD (fun i=>(Pt i))<|CN 2<|MM (aB 9 0 (AV.str q.name) aH k!)<|CC<|VV (bW 3 false true .i64 ((List.length q.name:Nat):Int) 100)<|CC<|BC f0<|BM f0 (aB 24 6 q.ao aH k!)<|BV f0 IS<|BV f0 (bW 3 false true .i64 ((q.ar.length:Nat):Int) 6)<|BC f0<|BB f1<|BB f1<|BB f1<|BB f1<|BV f0 (pN false f1)<|VV (Xu true false f0)<|CC<|FF<|CC<|FF<|MM (aB 24 6 q.ao aH k!)<|FF<|VV MU<|FF<|VV (bW 3 false true .i64 ((q.ar.length:Nat):Int) 20)<|CN 2<|BC f2<|BV f2 IT<|BV f2 (bW 3 false true .i64 ((l_.length:Nat):Int) 12)<|BC f2<|BC f3<|BV f3 IU<|BV f3 (gR 3 false true .i64 ((l_.length:Nat):Int) 64)<|BV f2 (jA (decide (((l_.length:Nat):Int)≤64)) false f3)<|VV (aR (a:=some (AV.bool true)) (b:=some (AV.bool (decide (((l_.length:Nat):Int)≤64)))) f2)<|CC<|BC f4<|BV f4 Oz<|BV f4 (bW 3 false true .i64 ((l_.length:Nat):Int) 80)<|VV (aR (a:=some (AV.bool true)) (b:=some (AV.bool (decide (80<((l_.length:Nat):Int))))) f4)<|CC<|ZZ) k!) k!) bk rfl
       · have l7:=of_decide_eq_false f3
         have IU:dw (some (.slice 44)) (some dB)=some (Zn l_.length):=eY.len
         have e:eS q l_=(decide (80<((l_.length:Nat):Int))):=by simp only[eS,f0,f1,f2,f3,aj,ai]
         rw[e]
         exact az rfl (a_ Try.func4 kN rfl (.inr rfl) (pk (d) _ _ h _ h1 (NN bD (fun i=>(Pt i))<|CN 2<|MM (aB 9 0 (AV.str q.name) aH k!)<|CC<|VV (bW 3 false true .i64 ((List.length q.name:Nat):Int) 100)<|CC<|BC f0<|BM f0 (aB 24 6 q.ao aH k!)<|BV f0 IS<|BV f0 (bW 3 false true .i64 ((q.ar.length:Nat):Int) 6)<|BC f0<|BB f1<|BB f1<|BB f1<|BB f1<|BV f0 (pN false f1)<|VV (Xu true false f0)<|CC<|FF<|CC<|FF<|MM (aB 24 6 q.ao aH k!)<|FF<|VV MU<|FF<|VV (bW 3 false true .i64 ((q.ar.length:Nat):Int) 20)<|CN 2<|BC f2<|BV f2 IT<|BV f2 (bW 3 false true .i64 ((l_.length:Nat):Int) 12)<|BC f2<|BB f3<|BB f3<|BB f3<|BV f2 (pN false f3)<|VV (Xu true false f2)<|CC<|FF<|CC<|FF<|VV IU<|FF<|VV (bW 3 false true .i64 ((l_.length:Nat):Int) 80)<|CN 2<|ZZ) k!) k!) bk rfl
def xe:Code:=(Try.f8.body).getD .skip
theorem yN:Try.f8.body=some xe:=by kernel_rfl
def IV:Code:=(ck xe).getD 0 .skip
def jK (a:List Span) (b:List Span):Nat→Nat→Option (Bool)
 | 0,_=>none
 | dS+1,i0=>(bif (!Span.eq (a.g i0) (b.g i0)) then some false else jK a b dS (i0+1))
theorem ri {d:Nat} {h:aw} (aV:AV) (bV:AV) (a:List Span) (b:List Span) (bI:aQ h aV a) (eO:aQ h bV b) (rh:a.length=b.length):∀(k_ i_:Nat) (_:i_+k_=a.length) (x:Nat→AV) (hh:aw) (aL:Tidy hh) (aX:Has h hh),aU (cJ (d)) IV ⟨(aV::bV::rx x 2 3 ((Zn i_)::rx x 6 20 [])),hh,[],.no⟩ (.exit 0) hh (fun y=>(aV::bV::rx y 2 24 [])) (fun r y=>(aV::bV::(y 2)::(y 3)::(AV.bool r)::rx y 5 21 [])) (jK a b k_ i_)
 | 0,i0,jZ,x,hh,aL,aX=>by
   have fN:=bI.small
   have oO:=eO.small
   have ie:dw (some (.slice 23)) (some aV)=some (Zn a.length):=(bI.has aX).len
   have q2:(decide (((i0:Nat):Int)<((a.length:Nat):Int)))=false:=d!
   exact aU.out rfl (pk (d) _ _ hh _ hh (CN 2<|VV ie<|VV (bz 3 false false .i64 ((i0:Nat):Int) ((a.length:Nat):Int))<|BB q2<|ZZ) k!) (Grow.refl aL) k!
 | dS+1,i0,jZ,x,hh,aL,aX=>by
   have fN:=bI.small
   have oO:=eO.small
   have ie:dw (some (.slice 23)) (some aV)=some (Zn a.length):=(bI.has aX).len
   have q2:(decide (((i0:Nat):Int)<((a.length:Nat):Int)))=true:=d!
   obtain ⟨p4,q5,mH⟩:=(bI.has aX).elem (i:=i0) o!
   have py:di env (some (.slice 23)) (some aV) (some (Zn i0))=some (AV.ptr p4 q5):=mH
   have pz:bA env hh 23 (AV.ptr p4 q5)=some (AV.agg [(Zi (a.g i0).aP),(Zi (a.g i0).aF)]):=(bI.has aX).load o! mH
   obtain ⟨p8,q9,IN⟩:=(eO.has aX).elem (i:=i0) o!
   have Dc:di env (some (.slice 23)) (some bV) (some (Zn i0))=some (AV.ptr p8 q9):=IN
   have xb:bA env hh 23 (AV.ptr p8 q9)=some (AV.agg [(Zi (b.g i0).aP),(Zi (b.g i0).aF)]):=(eO.has aX).load o! IN
   have Hj:cD env .neq 23 false false (some (AV.agg [(Zi (a.g i0).aP),(Zi (a.g i0).aF)])) (some (AV.agg [(Zi (b.g i0).aP),(Zi (b.g i0).aF)]))=some (AV.bool (!Span.eq (a.g i0) (b.g i0))):=Span.neq (a.g i0) (b.g i0)
   have IW:AV.same 20 (AV.agg [(Zi (a.g i0).aP),(Zi (a.g i0).aF)]) (AV.agg [(Zi (a.g i0).aP),(Zi (a.g i0).aF)])=true:=dx 18 (hD (fun n=>aG n _ _) (hD (fun n=>aG n _ _) AF))
   have c13:AV.same 20 (AV.agg [(Zi (b.g i0).aP),(Zi (b.g i0).aF)]) (AV.agg [(Zi (b.g i0).aP),(Zi (b.g i0).aF)])=true:=dx 18 (hD (fun n=>aG n _ _) (hD (fun n=>aG n _ _) AF))
   rcases Bool.eq_false_or_eq_true (!Span.eq (a.g i0) (b.g i0)) with f1 | f1
   · exact aU.ret false (by simp only[jK,f1,aj,ai]) (pk (d) _ _ hh _ hh (CN 2<|VV ie<|VV (bz 3 false false .i64 ((i0:Nat):Int) ((a.length:Nat):Int))<|BB q2<|CN 2<|VV py<|MM pz<|CN 2<|VV Dc<|MM xb<|VV Hj<|HH pz<|HH IW<|HH xb<|HH c13<|BC f1<|ZZ) k!) (Grow.refl aL) k!
   · have VZ:=eR 3 false true i0 1 o!
     exact aU.round (by simp only[jK,f1,aj,ai]) (pk (d) _ _ hh _ hh (CN 2<|VV ie<|VV (bz 3 false false .i64 ((i0:Nat):Int) ((a.length:Nat):Int))<|BB q2<|CN 2<|VV py<|MM pz<|CN 2<|VV Dc<|MM xb<|VV Hj<|HH pz<|HH IW<|HH xb<|HH c13<|BC f1<|VV VZ<|CC<|ZZ) k!) (Grow.refl aL) _ k! (fun x=>ri aV bV a b bI eO rh dS (i0+1) o! x hh aL aX)
def gO (a:List Span) (b:List Span):Bool:=(bif (!decide (((a.length:Nat):Int)=((b.length:Nat):Int))) then false else (match (jK a b a.length 0) with | none=>true | some F3=>F3))
theorem OA {d:Nat} {h:aw} {aV bV:AV} (a:List Span) (b:List Span) (Oy:aQ h aV a) (Pq:aQ h bV b) (bH:Tidy h):cJ (d+1) (.fn 8) [aV,bV] h= .ret (AV.bool (gO a b)) h:=by
 have abR:=Oy.small
 have abS:=Pq.small
 have ie:dw (some (.slice 23)) (some aV)=some (Zn a.length):=Oy.len
 have RP:dw (some (.slice 23)) (some bV)=some (Zn b.length):=Pq.len
 rcases Bool.eq_false_or_eq_true (!decide (((a.length:Nat):Int)=((b.length:Nat):Int))) with f0 | f0
 · have ir:=AG f0
   have e:gO a b=false:=by simp only[gO,f0,aj,ai]
   rw[e]
   exact az rfl (a_ Try.func8 yN rfl (.inr rfl) (pk (d) _ _ h _ h (CN 2<|VV ie<|CC<|VV RP<|VV (eh 3 false false .i64 ((a.length:Nat):Int) ((b.length:Nat):Int))<|BC f0<|ZZ) k!) k!) (Has.refl _) rfl
 · have ir:=AH f0
   cases fV:jK a b a.length 0 with
   | none=>
     obtain ⟨Pr,h5,fO,iu⟩:=aU.n fV (ri (d:=d) (h:=h) aV bV a b Oy Pq o! a.length 0 o! (fun k_=>((aV::bV::AV.undef::AV.undef::(AV.bool false)::(Zi 0)::aV::(Zn a.length)::bV::(Zn b.length)::(AV.bool (!decide (((a.length:Nat):Int)=((b.length:Nat):Int))))::jl 15):List AV).getD k_ AV.undef) h bH (Has.refl _))
     have jJ:=iu.y
     have vD:h.nx≤h5.nx:=iu.n
     have iP:Has h h5:=iu.a
     have e:gO a b=true:=by simp only[gO,f0,fV,aj,ai]
     rw[e]
     exact az rfl (a_ Try.func8 yN rfl (.inr rfl) (pk (d) _ _ h _ h5 (CN 2<|VV ie<|CC<|VV RP<|VV (eh 3 false false .i64 ((a.length:Nat):Int) ((b.length:Nat):Int))<|BC f0<|LL fO<|CC<|ZZ) k!) k!) iP rfl
   | some F3=>
     obtain ⟨Pr,h5,fO,iu⟩:=aU.r fV (ri (d:=d) (h:=h) aV bV a b Oy Pq o! a.length 0 o! (fun k_=>((aV::bV::AV.undef::AV.undef::(AV.bool false)::(Zi 0)::aV::(Zn a.length)::bV::(Zn b.length)::(AV.bool (!decide (((a.length:Nat):Int)=((b.length:Nat):Int))))::jl 15):List AV).getD k_ AV.undef) h bH (Has.refl _))
     have jJ:=iu.y
     have vD:h.nx≤h5.nx:=iu.n
     have iP:Has h h5:=iu.a
     have e:gO a b=F3:=by simp only[gO,f0,fV,aj,ai]
     rw[e]
     exact az rfl (a_ Try.func8 yN rfl (.inr rfl) (pk (d) _ _ h _ h5 (CN 2<|VV ie<|CC<|VV RP<|VV (eh 3 false false .i64 ((a.length:Nat):Int) ((b.length:Nat):Int))<|BC f0<|LL fO<|ZZ) k!) k!) iP rfl
def zG:Code:=(Try.f58.body).getD .skip
theorem qk:Try.f58.body=some zG:=by kernel_rfl
def KX:Code:=(ck zG).getD 0 .skip
def cX (s:List UInt8):Nat→Nat→Option (Bool)
 | 0,_=>none
 | dS+1,i0=>(bif (decide ((((s.g i0).toNat:Nat):Int)<97)) then (bif (decide ((((s.g i0).toNat:Nat):Int)<48)) then (bif (!decide ((((s.g i0).toNat:Nat):Int)=45)) then some false else cX s dS (i0+1)) else (bif (decide (57<(((s.g i0).toNat:Nat):Int))) then (bif (!decide ((((s.g i0).toNat:Nat):Int)=45)) then some false else cX s dS (i0+1)) else cX s dS (i0+1))) else (bif (decide (122<(((s.g i0).toNat:Nat):Int))) then (bif (decide ((((s.g i0).toNat:Nat):Int)<48)) then (bif (!decide ((((s.g i0).toNat:Nat):Int)=45)) then some false else cX s dS (i0+1)) else (bif (decide (57<(((s.g i0).toNat:Nat):Int))) then (bif (!decide ((((s.g i0).toNat:Nat):Int)=45)) then some false else cX s dS (i0+1)) else cX s dS (i0+1))) else cX s dS (i0+1)))
theorem ia {d:Nat} {h:aw} (s:List UInt8) (bI:s.length<2^60):∀(k_ i_:Nat) (_:i_+k_=(List.length s)) (x:Nat→AV) (hh:aw) (aL:Tidy hh) (aX:Has h hh),aU (cJ (d)) KX ⟨((AV.str s)::(x 1)::(x 2)::(Zn i_)::rx x 4 46 []),hh,[],.no⟩ (.exit 0) hh (fun y=>((AV.str s)::rx y 1 49 [])) (fun r y=>((AV.str s)::(y 1)::(AV.bool r)::rx y 3 47 [])) (cX s k_ i_)
 | 0,i0,jZ,x,hh,aL,aX=>by
   have sn1:s.length<2^60:=bI
   have q2:(decide (((i0:Nat):Int)<((List.length s:Nat):Int)))=false:=d!
   exact aU.out rfl (pk (d) _ _ hh _ hh (CN 3<|VV (bz 3 false false .i64 ((i0:Nat):Int) ((List.length s:Nat):Int))<|BB q2<|ZZ) k!) (Grow.refl aL) k!
 | dS+1,i0,jZ,x,hh,aL,aX=>by
   have sn1:s.length<2^60:=bI
   have q2:(decide (((i0:Nat):Int)<((List.length s:Nat):Int)))=true:=d!
   have py:qZ env (some .string) (some (AV.str s)) (some (Zn i0))=some (AV.int .u8 (((s.g i0).toNat:Nat):Int)):=j_ (j:=i0) o!
   rcases Bool.eq_false_or_eq_true (decide ((((s.g i0).toNat:Nat):Int)<97)) with f1 | f1
   · have iK:=of_decide_eq_true f1
     rcases Bool.eq_false_or_eq_true (decide ((((s.g i0).toNat:Nat):Int)<48)) with f2 | f2
     · have pO:=of_decide_eq_true f2
       rcases Bool.eq_false_or_eq_true (!decide ((((s.g i0).toNat:Nat):Int)=45)) with f3 | f3
       · have l7:=AG f3
         exact aU.ret false (by simp only[cX,f1,f2,f3,aj,ai]) (pk (d) _ _ hh _ hh (CN 3<|VV (bz 3 false false .i64 ((i0:Nat):Int) ((List.length s:Nat):Int))<|BB q2<|CN 2<|VV py<|CN 2<|VV (bz 5 false true .u8 (((s.g i0).toNat:Nat):Int) 97)<|CC<|BB f1<|BV f1 (nR true f1)<|CC<|TT<|CC<|TT<|VV (bz 5 false true .u8 (((s.g i0).toNat:Nat):Int) 48)<|TT<|CC<|BB f2<|BB f2<|TT<|VV (nR true f2)<|CN 2<|TT<|CC<|TT<|VV (eh 5 false true .u8 (((s.g i0).toNat:Nat):Int) 45)<|CC<|BC f3<|ZZ) k!) (Grow.refl aL) k!
       · have l7:=AH f3
         have u7:=eR 3 false true i0 1 o!
         exact aU.round (by simp only[cX,f1,f2,f3,aj,ai]) (pk (d) _ _ hh _ hh (CN 3<|VV (bz 3 false false .i64 ((i0:Nat):Int) ((List.length s:Nat):Int))<|BB q2<|CN 2<|VV py<|CN 2<|VV (bz 5 false true .u8 (((s.g i0).toNat:Nat):Int) 97)<|CC<|BB f1<|BV f1 (nR true f1)<|CC<|TT<|CC<|TT<|VV (bz 5 false true .u8 (((s.g i0).toNat:Nat):Int) 48)<|TT<|CC<|BB f2<|BB f2<|TT<|VV (nR true f2)<|CN 2<|TT<|CC<|TT<|VV (eh 5 false true .u8 (((s.g i0).toNat:Nat):Int) 45)<|CC<|BC f3<|VV u7<|CC<|ZZ) k!) (Grow.refl aL) _ k! (fun x=>ia s bI dS (i0+1) o! x hh aL aX)
     · have pO:=of_decide_eq_false f2
       rcases Bool.eq_false_or_eq_true (decide (57<(((s.g i0).toNat:Nat):Int))) with f3 | f3
       · have l7:=of_decide_eq_true f3
         rcases Bool.eq_false_or_eq_true (!decide ((((s.g i0).toNat:Nat):Int)=45)) with f4 | f4
         · have l8:=AG f4
           exact aU.ret false (by simp only[cX,f1,f2,f3,f4,aj,ai]) (pk (d) _ _ hh _ hh (CN 3<|VV (bz 3 false false .i64 ((i0:Nat):Int) ((List.length s:Nat):Int))<|BB q2<|CN 2<|VV py<|CN 2<|VV (bz 5 false true .u8 (((s.g i0).toNat:Nat):Int) 97)<|CC<|BB f1<|BV f1 (nR true f1)<|CC<|TT<|CC<|TT<|VV (bz 5 false true .u8 (((s.g i0).toNat:Nat):Int) 48)<|TT<|CC<|BC f2<|BV f2 (bW 5 false true .u8 (((s.g i0).toNat:Nat):Int) 57)<|TT<|VV (aR (a:=some (AV.bool true)) (b:=some (AV.bool (decide (57<(((s.g i0).toNat:Nat):Int))))) f2)<|CN 2<|BC f3<|BV f3 (eh 5 false true .u8 (((s.g i0).toNat:Nat):Int) 45)<|VV (jA (!decide ((((s.g i0).toNat:Nat):Int)=45)) false f3)<|BC f4<|ZZ) k!) (Grow.refl aL) k!
         · have l8:=AH f4
           have u8:=eR 3 false true i0 1 o!
           exact aU.round (by simp only[cX,f1,f2,f3,f4,aj,ai]) (pk (d) _ _ hh _ hh (CN 3<|VV (bz 3 false false .i64 ((i0:Nat):Int) ((List.length s:Nat):Int))<|BB q2<|CN 2<|VV py<|CN 2<|VV (bz 5 false true .u8 (((s.g i0).toNat:Nat):Int) 97)<|CC<|BB f1<|BV f1 (nR true f1)<|CC<|TT<|CC<|TT<|VV (bz 5 false true .u8 (((s.g i0).toNat:Nat):Int) 48)<|TT<|CC<|BC f2<|BV f2 (bW 5 false true .u8 (((s.g i0).toNat:Nat):Int) 57)<|TT<|VV (aR (a:=some (AV.bool true)) (b:=some (AV.bool (decide (57<(((s.g i0).toNat:Nat):Int))))) f2)<|CN 2<|BC f3<|BV f3 (eh 5 false true .u8 (((s.g i0).toNat:Nat):Int) 45)<|VV (jA (!decide ((((s.g i0).toNat:Nat):Int)=45)) false f3)<|BC f4<|VV u8<|CC<|ZZ) k!) (Grow.refl aL) _ k! (fun x=>ia s bI dS (i0+1) o! x hh aL aX)
       · have l7:=of_decide_eq_false f3
         have u7:=eR 3 false true i0 1 o!
         exact aU.round (by simp only[cX,f1,f2,f3,aj,ai]) (pk (d) _ _ hh _ hh (CN 3<|VV (bz 3 false false .i64 ((i0:Nat):Int) ((List.length s:Nat):Int))<|BB q2<|CN 2<|VV py<|CN 2<|VV (bz 5 false true .u8 (((s.g i0).toNat:Nat):Int) 97)<|CC<|BB f1<|BV f1 (nR true f1)<|CC<|TT<|CC<|TT<|VV (bz 5 false true .u8 (((s.g i0).toNat:Nat):Int) 48)<|TT<|CC<|BC f2<|BV f2 (bW 5 false true .u8 (((s.g i0).toNat:Nat):Int) 57)<|TT<|VV (aR (a:=some (AV.bool true)) (b:=some (AV.bool (decide (57<(((s.g i0).toNat:Nat):Int))))) f2)<|CN 2<|BB f3<|BV f3 (pN false f3)<|FF<|CC<|VV u7<|CC<|ZZ) k!) (Grow.refl aL) _ k! (fun x=>ia s bI dS (i0+1) o! x hh aL aX)
   · have iK:=of_decide_eq_false f1
     rcases Bool.eq_false_or_eq_true (decide (122<(((s.g i0).toNat:Nat):Int))) with f2 | f2
     · have pO:=of_decide_eq_true f2
       rcases Bool.eq_false_or_eq_true (decide ((((s.g i0).toNat:Nat):Int)<48)) with f3 | f3
       · have l7:=of_decide_eq_true f3
         rcases Bool.eq_false_or_eq_true (!decide ((((s.g i0).toNat:Nat):Int)=45)) with f4 | f4
         · have l8:=AG f4
           exact aU.ret false (by simp only[cX,f1,f2,f3,f4,aj,ai]) (pk (d) _ _ hh _ hh (CN 3<|VV (bz 3 false false .i64 ((i0:Nat):Int) ((List.length s:Nat):Int))<|BB q2<|CN 2<|VV py<|CN 2<|VV (bz 5 false true .u8 (((s.g i0).toNat:Nat):Int) 97)<|CC<|BC f1<|BV f1 (bW 5 false true .u8 (((s.g i0).toNat:Nat):Int) 122)<|VV (aR (a:=some (AV.bool true)) (b:=some (AV.bool (decide (122<(((s.g i0).toNat:Nat):Int))))) f1)<|CC<|BC f2<|BV f2 (bz 5 false true .u8 (((s.g i0).toNat:Nat):Int) 48)<|BC f2<|BB f3<|BB f3<|BV f2 (nR true f3)<|VV (jA true false f2)<|CC<|TT<|CC<|TT<|VV (eh 5 false true .u8 (((s.g i0).toNat:Nat):Int) 45)<|CC<|BC f4<|ZZ) k!) (Grow.refl aL) k!
         · have l8:=AH f4
           have u8:=eR 3 false true i0 1 o!
           exact aU.round (by simp only[cX,f1,f2,f3,f4,aj,ai]) (pk (d) _ _ hh _ hh (CN 3<|VV (bz 3 false false .i64 ((i0:Nat):Int) ((List.length s:Nat):Int))<|BB q2<|CN 2<|VV py<|CN 2<|VV (bz 5 false true .u8 (((s.g i0).toNat:Nat):Int) 97)<|CC<|BC f1<|BV f1 (bW 5 false true .u8 (((s.g i0).toNat:Nat):Int) 122)<|VV (aR (a:=some (AV.bool true)) (b:=some (AV.bool (decide (122<(((s.g i0).toNat:Nat):Int))))) f1)<|CC<|BC f2<|BV f2 (bz 5 false true .u8 (((s.g i0).toNat:Nat):Int) 48)<|BC f2<|BB f3<|BB f3<|BV f2 (nR true f3)<|VV (jA true false f2)<|CC<|TT<|CC<|TT<|VV (eh 5 false true .u8 (((s.g i0).toNat:Nat):Int) 45)<|CC<|BC f4<|VV u8<|CC<|ZZ) k!) (Grow.refl aL) _ k! (fun x=>ia s bI dS (i0+1) o! x hh aL aX)
       · have l7:=of_decide_eq_false f3
         rcases Bool.eq_false_or_eq_true (decide (57<(((s.g i0).toNat:Nat):Int))) with f4 | f4
         · have l8:=of_decide_eq_true f4
           rcases Bool.eq_false_or_eq_true (!decide ((((s.g i0).toNat:Nat):Int)=45)) with f5 | f5
           · have yM:=AG f5
             exact aU.ret false (by simp only[cX,f1,f2,f3,f4,f5,aj,ai]) (pk (d) _ _ hh _ hh (CN 3<|VV (bz 3 false false .i64 ((i0:Nat):Int) ((List.length s:Nat):Int))<|BB q2<|CN 2<|VV py<|CN 2<|VV (bz 5 false true .u8 (((s.g i0).toNat:Nat):Int) 97)<|CC<|BC f1<|BV f1 (bW 5 false true .u8 (((s.g i0).toNat:Nat):Int) 122)<|VV (aR (a:=some (AV.bool true)) (b:=some (AV.bool (decide (122<(((s.g i0).toNat:Nat):Int))))) f1)<|CC<|BC f2<|BV f2 (bz 5 false true .u8 (((s.g i0).toNat:Nat):Int) 48)<|BC f2<|BC f3<|BV f3 (bW 5 false true .u8 (((s.g i0).toNat:Nat):Int) 57)<|BV f2 (aR (a:=some (AV.bool true)) (b:=some (AV.bool (decide (57<(((s.g i0).toNat:Nat):Int))))) f3)<|VV (jA (decide (57<(((s.g i0).toNat:Nat):Int))) false f2)<|CC<|BC f4<|BV f4 (eh 5 false true .u8 (((s.g i0).toNat:Nat):Int) 45)<|VV (jA (!decide ((((s.g i0).toNat:Nat):Int)=45)) false f4)<|BC f5<|ZZ) k!) (Grow.refl aL) k!
           · have yM:=AH f5
             have u9:=eR 3 false true i0 1 o!
             exact aU.round (by simp only[cX,f1,f2,f3,f4,f5,aj,ai]) (pk (d) _ _ hh _ hh (CN 3<|VV (bz 3 false false .i64 ((i0:Nat):Int) ((List.length s:Nat):Int))<|BB q2<|CN 2<|VV py<|CN 2<|VV (bz 5 false true .u8 (((s.g i0).toNat:Nat):Int) 97)<|CC<|BC f1<|BV f1 (bW 5 false true .u8 (((s.g i0).toNat:Nat):Int) 122)<|VV (aR (a:=some (AV.bool true)) (b:=some (AV.bool (decide (122<(((s.g i0).toNat:Nat):Int))))) f1)<|CC<|BC f2<|BV f2 (bz 5 false true .u8 (((s.g i0).toNat:Nat):Int) 48)<|BC f2<|BC f3<|BV f3 (bW 5 false true .u8 (((s.g i0).toNat:Nat):Int) 57)<|BV f2 (aR (a:=some (AV.bool true)) (b:=some (AV.bool (decide (57<(((s.g i0).toNat:Nat):Int))))) f3)<|VV (jA (decide (57<(((s.g i0).toNat:Nat):Int))) false f2)<|CC<|BC f4<|BV f4 (eh 5 false true .u8 (((s.g i0).toNat:Nat):Int) 45)<|VV (jA (!decide ((((s.g i0).toNat:Nat):Int)=45)) false f4)<|BC f5<|VV u9<|CC<|ZZ) k!) (Grow.refl aL) _ k! (fun x=>ia s bI dS (i0+1) o! x hh aL aX)
         · have l8:=of_decide_eq_false f4
           have u8:=eR 3 false true i0 1 o!
           exact aU.round (by simp only[cX,f1,f2,f3,f4,aj,ai]) (pk (d) _ _ hh _ hh (CN 3<|VV (bz 3 false false .i64 ((i0:Nat):Int) ((List.length s:Nat):Int))<|BB q2<|CN 2<|VV py<|CN 2<|VV (bz 5 false true .u8 (((s.g i0).toNat:Nat):Int) 97)<|CC<|BC f1<|BV f1 (bW 5 false true .u8 (((s.g i0).toNat:Nat):Int) 122)<|VV (aR (a:=some (AV.bool true)) (b:=some (AV.bool (decide (122<(((s.g i0).toNat:Nat):Int))))) f1)<|CC<|BC f2<|BV f2 (bz 5 false true .u8 (((s.g i0).toNat:Nat):Int) 48)<|BC f2<|BC f3<|BV f3 (bW 5 false true .u8 (((s.g i0).toNat:Nat):Int) 57)<|BV f2 (aR (a:=some (AV.bool true)) (b:=some (AV.bool (decide (57<(((s.g i0).toNat:Nat):Int))))) f3)<|VV (jA (decide (57<(((s.g i0).toNat:Nat):Int))) false f2)<|CC<|BB f4<|BV f4 (pN false f4)<|FF<|CC<|VV u8<|CC<|ZZ) k!) (Grow.refl aL) _ k! (fun x=>ia s bI dS (i0+1) o! x hh aL aX)
     · have pO:=of_decide_eq_false f2
       have u6:=eR 3 false true i0 1 o!
       exact aU.round (by simp only[cX,f1,f2,aj,ai]) (pk (d) _ _ hh _ hh (CN 3<|VV (bz 3 false false .i64 ((i0:Nat):Int) ((List.length s:Nat):Int))<|BB q2<|CN 2<|VV py<|CN 2<|VV (bz 5 false true .u8 (((s.g i0).toNat:Nat):Int) 97)<|CC<|BC f1<|BV f1 (bW 5 false true .u8 (((s.g i0).toNat:Nat):Int) 122)<|VV (aR (a:=some (AV.bool true)) (b:=some (AV.bool (decide (122<(((s.g i0).toNat:Nat):Int))))) f1)<|CC<|BB f2<|BB f2<|BB f2<|BV f2 (pN false f2)<|CC<|FF<|FF<|CC<|FF<|CC<|VV u6<|CC<|ZZ) k!) (Grow.refl aL) _ k! (fun x=>ia s bI dS (i0+1) o! x hh aL aX)
def dr (s:List UInt8):Bool:=(bif (decide (((List.length s:Nat):Int)=0)) then false else (bif (decide (16<((List.length s:Nat):Int))) then false else (bif (decide ((((s.g 0).toNat:Nat):Int)<97)) then false else (bif (decide (122<(((s.g 0).toNat:Nat):Int))) then false else (match (cX s (List.length s) 0) with | none=>true | some rr8=>rr8)))))
theorem IX {d:Nat} {h:aw} (s:List UInt8) (AI:s.length<2^60) (bH:Tidy h):cJ (d+1) (.fn 58) [(AV.str s)] h= .ret (AV.bool (dr s)) h:=by
 have sn1:s.length<2^60:=AI
 rcases Bool.eq_false_or_eq_true (decide (((List.length s:Nat):Int)=0)) with f0 | f0
 · have ir:=of_decide_eq_true f0
   have e:dr s=false:=by simp only[dr,f0,aj,ai]
   rw[e]
   exact az rfl (a_ Try.func58 qk rfl (.inr rfl) (pk (d) _ _ h _ h (CN 3<|VV (fh 3 false true .i64 ((List.length s:Nat):Int) 0)<|CC<|BB f0<|BB f0<|BV f0 (nR true f0)<|CC<|TT<|TT<|TT<|CN 2<|TT<|TT<|TT<|CC<|TT<|CC<|ZZ) k!) k!) (Has.refl _) rfl
 · have ir:=of_decide_eq_false f0
   rcases Bool.eq_false_or_eq_true (decide (16<((List.length s:Nat):Int))) with f1 | f1
   · have iK:=of_decide_eq_true f1
     have e:dr s=false:=by simp only[dr,f0,f1,aj,ai]
     rw[e]
     exact az rfl (a_ Try.func58 qk rfl (.inr rfl) (pk (d) _ _ h _ h (CN 3<|VV (fh 3 false true .i64 ((List.length s:Nat):Int) 0)<|CC<|BC f0<|BC f0<|BV f0 (bW 3 false true .i64 ((List.length s:Nat):Int) 16)<|VV (aR (a:=some (AV.bool true)) (b:=some (AV.bool (decide (16<((List.length s:Nat):Int))))) f0)<|CC<|BB f1<|BB f1<|BV f1 (nR true f1)<|CC<|TT<|TT<|TT<|CC<|TT<|CC<|ZZ) k!) k!) (Has.refl _) rfl
   · have iK:=of_decide_eq_false f1
     have xf:qZ env (some .string) (some (AV.str s)) (some (Zi 0))=some (AV.int .u8 (((s.g 0).toNat:Nat):Int)):=j_ (j:=0) o!
     rcases Bool.eq_false_or_eq_true (decide ((((s.g 0).toNat:Nat):Int)<97)) with f2 | f2
     · have pO:=of_decide_eq_true f2
       have e:dr s=false:=by simp only[dr,f0,f1,f2,aj,ai]
       rw[e]
       exact az rfl (a_ Try.func58 qk rfl (.inr rfl) (pk (d) _ _ h _ h (CN 3<|VV (fh 3 false true .i64 ((List.length s:Nat):Int) 0)<|CC<|BC f0<|BC f0<|BV f0 (bW 3 false true .i64 ((List.length s:Nat):Int) 16)<|VV (aR (a:=some (AV.bool true)) (b:=some (AV.bool (decide (16<((List.length s:Nat):Int))))) f0)<|CC<|BC f1<|BV f1 xf<|BV f1 (bz 5 false true .u8 (((s.g 0).toNat:Nat):Int) 97)<|VV (aR (a:=some (AV.bool true)) (b:=some (AV.bool (decide ((((s.g 0).toNat:Nat):Int)<97)))) f1)<|CC<|BB f2<|BB f2<|BV f2 (nR true f2)<|TT<|CC<|ZZ) k!) k!) (Has.refl _) rfl
     · have pO:=of_decide_eq_false f2
       have D6:qZ env (some .string) (some (AV.str s)) (some (Zi 0))=some (AV.int .u8 (((s.g 0).toNat:Nat):Int)):=j_ (j:=0) o!
       rcases Bool.eq_false_or_eq_true (decide (122<(((s.g 0).toNat:Nat):Int))) with f3 | f3
       · have l7:=of_decide_eq_true f3
         have e:dr s=false:=by simp only[dr,f0,f1,f2,f3,aj,ai]
         rw[e]
         exact az rfl (a_ Try.func58 qk rfl (.inr rfl) (pk (d) _ _ h _ h (CN 3<|VV (fh 3 false true .i64 ((List.length s:Nat):Int) 0)<|CC<|BC f0<|BC f0<|BV f0 (bW 3 false true .i64 ((List.length s:Nat):Int) 16)<|VV (aR (a:=some (AV.bool true)) (b:=some (AV.bool (decide (16<((List.length s:Nat):Int))))) f0)<|CC<|BC f1<|BV f1 xf<|BV f1 (bz 5 false true .u8 (((s.g 0).toNat:Nat):Int) 97)<|VV (aR (a:=some (AV.bool true)) (b:=some (AV.bool (decide ((((s.g 0).toNat:Nat):Int)<97)))) f1)<|CC<|BC f2<|BV f2 D6<|BV f2 (bW 5 false true .u8 (((s.g 0).toNat:Nat):Int) 122)<|VV (aR (a:=some (AV.bool true)) (b:=some (AV.bool (decide (122<(((s.g 0).toNat:Nat):Int))))) f2)<|BC f3<|ZZ) k!) k!) (Has.refl _) rfl
       · have l7:=of_decide_eq_false f3
         cases F4:cX s (List.length s) 0 with
         | none=>
           obtain ⟨yl8,h9,KY,ke⟩:=aU.n F4 (ia (d:=d) (h:=h) s AI (List.length s) 0 o! (fun k_=>(((AV.str s)::AV.undef::(AV.bool false)::(Zi 0)::AV.undef::(AV.str s)::(Zn (List.length s))::(AV.bool (decide (((List.length s:Nat):Int)=0)))::(AV.bool (decide (((List.length s:Nat):Int)=0)))::(AV.str s)::(Zn (List.length s))::(AV.bool (decide (16<((List.length s:Nat):Int))))::(AV.bool (decide (16<((List.length s:Nat):Int))))::(AV.bool (decide (16<((List.length s:Nat):Int))))::(AV.str s)::(AV.int .u8 (((s.g 0).toNat:Nat):Int))::(AV.bool (decide ((((s.g 0).toNat:Nat):Int)<97)))::(AV.bool (decide ((((s.g 0).toNat:Nat):Int)<97)))::(AV.bool (decide ((((s.g 0).toNat:Nat):Int)<97)))::(AV.str s)::(AV.int .u8 (((s.g 0).toNat:Nat):Int))::(AV.bool (decide (122<(((s.g 0).toNat:Nat):Int))))::(AV.bool (decide (122<(((s.g 0).toNat:Nat):Int))))::jl 27):List AV).getD k_ AV.undef) h bH (Has.refl _))
           have uw:=ke.y
           have Zg:h.nx≤h9.nx:=ke.n
           have s6:Has h h9:=ke.a
           have e:dr s=true:=by simp only[dr,f0,f1,f2,f3,F4,aj,ai]
           rw[e]
           exact az rfl (a_ Try.func58 qk rfl (.inr rfl) (pk (d) _ _ h _ h9 (CN 3<|VV (fh 3 false true .i64 ((List.length s:Nat):Int) 0)<|CC<|BC f0<|BC f0<|BV f0 (bW 3 false true .i64 ((List.length s:Nat):Int) 16)<|VV (aR (a:=some (AV.bool true)) (b:=some (AV.bool (decide (16<((List.length s:Nat):Int))))) f0)<|CC<|BC f1<|BV f1 xf<|BV f1 (bz 5 false true .u8 (((s.g 0).toNat:Nat):Int) 97)<|VV (aR (a:=some (AV.bool true)) (b:=some (AV.bool (decide ((((s.g 0).toNat:Nat):Int)<97)))) f1)<|CC<|BC f2<|BV f2 D6<|BV f2 (bW 5 false true .u8 (((s.g 0).toNat:Nat):Int) 122)<|VV (aR (a:=some (AV.bool true)) (b:=some (AV.bool (decide (122<(((s.g 0).toNat:Nat):Int))))) f2)<|BC f3<|LL KY<|CC<|ZZ) k!) k!) s6 rfl
         | some rr8=>
           obtain ⟨yl8,h9,KY,ke⟩:=aU.r F4 (ia (d:=d) (h:=h) s AI (List.length s) 0 o! (fun k_=>(((AV.str s)::AV.undef::(AV.bool false)::(Zi 0)::AV.undef::(AV.str s)::(Zn (List.length s))::(AV.bool (decide (((List.length s:Nat):Int)=0)))::(AV.bool (decide (((List.length s:Nat):Int)=0)))::(AV.str s)::(Zn (List.length s))::(AV.bool (decide (16<((List.length s:Nat):Int))))::(AV.bool (decide (16<((List.length s:Nat):Int))))::(AV.bool (decide (16<((List.length s:Nat):Int))))::(AV.str s)::(AV.int .u8 (((s.g 0).toNat:Nat):Int))::(AV.bool (decide ((((s.g 0).toNat:Nat):Int)<97)))::(AV.bool (decide ((((s.g 0).toNat:Nat):Int)<97)))::(AV.bool (decide ((((s.g 0).toNat:Nat):Int)<97)))::(AV.str s)::(AV.int .u8 (((s.g 0).toNat:Nat):Int))::(AV.bool (decide (122<(((s.g 0).toNat:Nat):Int))))::(AV.bool (decide (122<(((s.g 0).toNat:Nat):Int))))::jl 27):List AV).getD k_ AV.undef) h bH (Has.refl _))
           have uw:=ke.y
           have Zg:h.nx≤h9.nx:=ke.n
           have s6:Has h h9:=ke.a
           have e:dr s=rr8:=by simp only[dr,f0,f1,f2,f3,F4,aj,ai]
           rw[e]
           exact az rfl (a_ Try.func58 qk rfl (.inr rfl) (pk (d) _ _ h _ h9 (CN 3<|VV (fh 3 false true .i64 ((List.length s:Nat):Int) 0)<|CC<|BC f0<|BC f0<|BV f0 (bW 3 false true .i64 ((List.length s:Nat):Int) 16)<|VV (aR (a:=some (AV.bool true)) (b:=some (AV.bool (decide (16<((List.length s:Nat):Int))))) f0)<|CC<|BC f1<|BV f1 xf<|BV f1 (bz 5 false true .u8 (((s.g 0).toNat:Nat):Int) 97)<|VV (aR (a:=some (AV.bool true)) (b:=some (AV.bool (decide ((((s.g 0).toNat:Nat):Int)<97)))) f1)<|CC<|BC f2<|BV f2 D6<|BV f2 (bW 5 false true .u8 (((s.g 0).toNat:Nat):Int) 122)<|VV (aR (a:=some (AV.bool true)) (b:=some (AV.bool (decide (122<(((s.g 0).toNat:Nat):Int))))) f2)<|BC f3<|LL KY<|ZZ) k!) k!) s6 rfl
def F5:Code:=(Try.f19.body).getD .skip
theorem D7:Try.f19.body=some F5:=by kernel_rfl
def cT (n:Int):Bool:=(bif (decide (0≤n)) then (decide (n≤100000)) else false)
theorem uf {d:Nat} {h:aw} (n:Int) (bH:Tidy h):cJ (d+1) (.fn 19) [(Zi n)] h= .ret (AV.bool (cT n)) h:=by
 rcases Bool.eq_false_or_eq_true (decide (0≤n)) with f0 | f0
 · have ir:=of_decide_eq_true f0
   have e:cT n=(decide (n≤100000)):=by simp only[cT,f0,aj,ai]
   rw[e]
   exact az rfl (a_ Try.func19 D7 rfl (.inr rfl) (pk (d) _ _ h _ h (CN 2<|VV (eN 3 false true .i64 n 0)<|CC<|BC f0<|BV f0 (gR 3 false true .i64 n 100000)<|VV (jA (decide (n≤100000)) false f0)<|CC<|ZZ) k!) k!) (Has.refl _) rfl
 · have ir:=of_decide_eq_false f0
   have e:cT n=false:=by simp only[cT,f0,aj,ai]
   rw[e]
   exact az rfl (a_ Try.func19 D7 rfl (.inr rfl) (pk (d) _ _ h _ h (CN 2<|VV (eN 3 false true .i64 n 0)<|CC<|BB f0<|BV f0 (pN false f0)<|CC<|ZZ) k!) k!) (Has.refl _) rfl
def xg:Code:=(Try.f60.body).getD .skip
theorem iL:Try.f60.body=some xg:=by kernel_rfl
def bM (g:bY):Int:=(bif (decide (g.acc<0)) then 1 else (bif (decide (1000000000<g.acc)) then 1 else (bif (decide (g.bR<0)) then 1 else (bif (decide (1000000000<g.bR)) then 1 else (bif (!(cT g.since)) then 1 else 0)))))
theorem BR {d:Nat} {h:aw} (g:bY) (Zh:aA.ok h g) (bH:Tidy h):cJ (d+2) (.fn 60) [(AV.agg [(AV.str g.name),(Zi g.acc),(Zi g.bR),(Zi g.since)])] h= .ret (Zi (bM g)) h:=by
 obtain ⟨h1,bD,bN,fX,aH,bZ⟩:=gu bH (aY.cells [(AV.str g.name),(Zi g.acc),(Zi g.bR),(Zi g.since)] 63 false)
 have bk:Has h h1:=bZ
 rcases Bool.eq_false_or_eq_true (decide (g.acc<0)) with f0 | f0
 · have ir:=of_decide_eq_true f0
   have e:bM g=1:=by simp only[bM,f0,aj,ai]
   rw[e]
   exact az rfl (a_ Try.func60 iL rfl (.inr rfl) (pk (d+1) _ _ h _ h1 (NN bD (fun i=>(Pt i))<|CN 2<|MM (aB 3 1 (Zi g.acc) aH k!)<|VV (bz 3 false true .i64 g.acc 0)<|CC<|BB f0<|BB f0<|BV f0 (nR true f0)<|CC<|TT<|TT<|TT<|CN 2<|TT<|TT<|TT<|CN 2<|TT<|TT<|TT<|TT<|CC<|TT<|CC<|ZZ) k!) k!) bk rfl
 · have ir:=of_decide_eq_false f0
   rcases Bool.eq_false_or_eq_true (decide (1000000000<g.acc)) with f1 | f1
   · have iK:=of_decide_eq_true f1
     have e:bM g=1:=by simp only[bM,f0,f1,aj,ai]
     rw[e]
     exact az rfl (a_ Try.func60 iL rfl (.inr rfl) (pk (d+1) _ _ h _ h1 (NN bD (fun i=>(Pt i))<|CN 2<|MM (aB 3 1 (Zi g.acc) aH k!)<|VV (bz 3 false true .i64 g.acc 0)<|CC<|BC f0<|BM f0 (aB 3 1 (Zi g.acc) aH k!)<|BV f0 (bW 3 false true .i64 g.acc 1000000000)<|VV (aR (a:=some (AV.bool true)) (b:=some (AV.bool (decide (1000000000<g.acc)))) f0)<|CC<|BB f1<|BB f1<|BV f1 (nR true f1)<|CC<|TT<|TT<|TT<|CN 2<|TT<|TT<|TT<|TT<|CC<|TT<|CC<|ZZ) k!) k!) bk rfl
   · have iK:=of_decide_eq_false f1
     rcases Bool.eq_false_or_eq_true (decide (g.bR<0)) with f2 | f2
     · have pO:=of_decide_eq_true f2
       have e:bM g=1:=by simp only[bM,f0,f1,f2,aj,ai]
       rw[e]
       exact az rfl (a_ Try.func60 iL rfl (.inr rfl) (pk (d+1) _ _ h _ h1 (NN bD (fun i=>(Pt i))<|CN 2<|MM (aB 3 1 (Zi g.acc) aH k!)<|VV (bz 3 false true .i64 g.acc 0)<|CC<|BC f0<|BM f0 (aB 3 1 (Zi g.acc) aH k!)<|BV f0 (bW 3 false true .i64 g.acc 1000000000)<|VV (aR (a:=some (AV.bool true)) (b:=some (AV.bool (decide (1000000000<g.acc)))) f0)<|CC<|BC f1<|BM f1 (aB 3 2 (Zi g.bR) aH k!)<|BV f1 (bz 3 false true .i64 g.bR 0)<|VV (aR (a:=some (AV.bool true)) (b:=some (AV.bool (decide (g.bR<0)))) f1)<|CC<|BB f2<|BB f2<|BV f2 (nR true f2)<|CC<|TT<|TT<|TT<|TT<|CC<|TT<|CC<|ZZ) k!) k!) bk rfl
     · have pO:=of_decide_eq_false f2
       rcases Bool.eq_false_or_eq_true (decide (1000000000<g.bR)) with f3 | f3
       · have l7:=of_decide_eq_true f3
         have e:bM g=1:=by simp only[bM,f0,f1,f2,f3,aj,ai]
         rw[e]
         exact az rfl (a_ Try.func60 iL rfl (.inr rfl) (pk (d+1) _ _ h _ h1 (NN bD (fun i=>(Pt i))<|CN 2<|MM (aB 3 1 (Zi g.acc) aH k!)<|VV (bz 3 false true .i64 g.acc 0)<|CC<|BC f0<|BM f0 (aB 3 1 (Zi g.acc) aH k!)<|BV f0 (bW 3 false true .i64 g.acc 1000000000)<|VV (aR (a:=some (AV.bool true)) (b:=some (AV.bool (decide (1000000000<g.acc)))) f0)<|CC<|BC f1<|BM f1 (aB 3 2 (Zi g.bR) aH k!)<|BV f1 (bz 3 false true .i64 g.bR 0)<|VV (aR (a:=some (AV.bool true)) (b:=some (AV.bool (decide (g.bR<0)))) f1)<|CC<|BC f2<|BM f2 (aB 3 2 (Zi g.bR) aH k!)<|BV f2 (bW 3 false true .i64 g.bR 1000000000)<|VV (aR (a:=some (AV.bool true)) (b:=some (AV.bool (decide (1000000000<g.bR)))) f2)<|CC<|BB f3<|BB f3<|BB f3<|BV f3 (nR true f3)<|TT<|CC<|ZZ) k!) k!) bk rfl
       · have l7:=of_decide_eq_false f3
         have k6:=uf (d:=d) g.since bN
         rcases Bool.eq_false_or_eq_true (!(cT g.since)) with f4 | f4
         · have e:bM g=1:=by simp only[bM,f0,f1,f2,f3,f4,aj,ai]
           rw[e]
           exact az rfl (a_ Try.func60 iL rfl (.inr rfl) (pk (d+1) _ _ h _ h1 (NN bD (fun i=>(Pt i))<|CN 2<|MM (aB 3 1 (Zi g.acc) aH k!)<|VV (bz 3 false true .i64 g.acc 0)<|CC<|BC f0<|BM f0 (aB 3 1 (Zi g.acc) aH k!)<|BV f0 (bW 3 false true .i64 g.acc 1000000000)<|VV (aR (a:=some (AV.bool true)) (b:=some (AV.bool (decide (1000000000<g.acc)))) f0)<|CC<|BC f1<|BM f1 (aB 3 2 (Zi g.bR) aH k!)<|BV f1 (bz 3 false true .i64 g.bR 0)<|VV (aR (a:=some (AV.bool true)) (b:=some (AV.bool (decide (g.bR<0)))) f1)<|CC<|BC f2<|BM f2 (aB 3 2 (Zi g.bR) aH k!)<|BV f2 (bW 3 false true .i64 g.bR 1000000000)<|VV (aR (a:=some (AV.bool true)) (b:=some (AV.bool (decide (1000000000<g.bR)))) f2)<|CC<|BC f3<|BM f3 (aB 3 3 (Zi g.since) aH k!)<|BB f3<|EE k6<|BC f3<|VV (aR (a:=some (AV.bool true)) (b:=some (AV.bool (!(cT g.since)))) f3)<|BC f4<|ZZ) k!) k!) bk rfl
         · have e:bM g=0:=by simp only[bM,f0,f1,f2,f3,f4,aj,ai]
           rw[e]
           exact az rfl (a_ Try.func60 iL rfl (.inr rfl) (pk (d+1) _ _ h _ h1 (NN bD (fun i=>(Pt i))<|CN 2<|MM (aB 3 1 (Zi g.acc) aH k!)<|VV (bz 3 false true .i64 g.acc 0)<|CC<|BC f0<|BM f0 (aB 3 1 (Zi g.acc) aH k!)<|BV f0 (bW 3 false true .i64 g.acc 1000000000)<|VV (aR (a:=some (AV.bool true)) (b:=some (AV.bool (decide (1000000000<g.acc)))) f0)<|CC<|BC f1<|BM f1 (aB 3 2 (Zi g.bR) aH k!)<|BV f1 (bz 3 false true .i64 g.bR 0)<|VV (aR (a:=some (AV.bool true)) (b:=some (AV.bool (decide (g.bR<0)))) f1)<|CC<|BC f2<|BM f2 (aB 3 2 (Zi g.bR) aH k!)<|BV f2 (bW 3 false true .i64 g.bR 1000000000)<|VV (aR (a:=some (AV.bool true)) (b:=some (AV.bool (decide (1000000000<g.bR)))) f2)<|CC<|BC f3<|BM f3 (aB 3 3 (Zi g.since) aH k!)<|BB f3<|EE k6<|BC f3<|VV (aR (a:=some (AV.bool true)) (b:=some (AV.bool (!(cT g.since)))) f3)<|BC f4<|ZZ) k!) k!) bk rfl
def F6:Code:=(Try.f59.body).getD .skip
theorem D8:Try.f59.body=some F6:=by kernel_rfl
def cr (n:Int):Bool:=(bif (decide ((-1000000000)≤n)) then (decide (n≤1000000000)) else false)
theorem yO {d:Nat} {h:aw} (n:Int) (bH:Tidy h):cJ (d+1) (.fn 59) [(Zi n)] h= .ret (AV.bool (cr n)) h:=by
 rcases Bool.eq_false_or_eq_true (decide ((-1000000000)≤n)) with f0 | f0
 · have ir:=of_decide_eq_true f0
   have e:cr n=(decide (n≤1000000000)):=by simp only[cr,f0,aj,ai]
   rw[e]
   exact az rfl (a_ Try.func59 D8 rfl (.inr rfl) (pk (d) _ _ h _ h (CN 2<|VV (eN 3 false true .i64 n (-1000000000))<|CC<|BC f0<|BV f0 (gR 3 false true .i64 n 1000000000)<|VV (jA (decide (n≤1000000000)) false f0)<|CC<|ZZ) k!) k!) (Has.refl _) rfl
 · have ir:=of_decide_eq_false f0
   have e:cr n=false:=by simp only[cr,f0,aj,ai]
   rw[e]
   exact az rfl (a_ Try.func59 D8 rfl (.inr rfl) (pk (d) _ _ h _ h (CN 2<|VV (eN 3 false true .i64 n (-1000000000))<|CC<|BB f0<|BV f0 (pN false f0)<|CC<|ZZ) k!) k!) (Has.refl _) rfl
end
end Go.Proofs.aJ
