import Derived.Test.YtfllahfbmaafcaaW0
import Derived.Test.YtfllahfbmaafcaaW1
namespace Go.Proofs.aG
open Go.Proofs Ab
noncomputable section
set_option maxRecDepth 100000
set_option maxHeartbeats 4000000
set_option linter.unusedVariables false
set_option linter.unusedSimpArgs false
def jm:Code:=(Try.f15.body).getD .skip
theorem cm:Try.f15.body=some jm:=by kernel_rfl
def uk:Code:=(cu jm).getD 0 .skip
def um:Code:=(cu jm).getD 1 .skip
def bV (i0:Nat) (q:ay):Nat→Nat→Option (Int)
 | 0,_=>none
 | bC+1,i1=>(bif (decide ((q.ae.g i1).name=((q.ae.g i0).name))) then some 6 else bV i0 q bC (i1+1))
theorem mH {d:Nat} {h:aw} (i0:Nat) (q:ay) (dc:Nat) (ov:q.name.length<2^60) (mY:aP h q.aB q.ae) (yS:aA.ok h q) (B2:i0<q.ae.length):∀(k_ i_:Nat) (_:i_+k_=i0) (x:Nat→AV) (hh:aw) (aL:Tidy hh) (bB:Has h hh) (dC:hh.get dc=some (aR.cells [(AV.str q.name),(Zi q.ao),(Zi q.ai),(Zi q.aI),(Zi q.aJ),(Zi q.bad),q.aB] 26 false)),ba (dh (d+2)) um ⟨((x 0)::(Pt dc)::(x 2)::(Zn i0)::(Zn i_)::rx x 5 106 []),hh,[],.no⟩ (.exit 3) hh (fun y=>((y 0)::(Pt dc)::(y 2)::(Zn i0)::rx y 4 107 [])) (fun r y=>((y 0)::(Pt dc)::(Zi r)::(Zn i0)::rx y 4 107 [])) (bV i0 q k_ i_)
 | 0,i1,mR,x,hh,aL,bB,dC=>by
   have vv:=mY.small
   have yT:=aL _ _ dC
   have q1:(decide (((i1:Nat):Int)<((i0:Nat):Int)))=false:=d!
   exact ba.out rfl (pk (d+2) _ _ hh _ hh (CN 2<|VV (bU 3 false false .i64 ((i1:Nat):Int) ((i0:Nat):Int))<|BB q1<|ZZ) k!) (Grow.refl aL) k!
 | bC+1,i1,mR,x,hh,aL,bB,dC=>by
   have vv:=mY.small
   have yT:=aL _ _ dC
   have q1:(decide (((i1:Nat):Int)<((i0:Nat):Int)))=true:=d!
   obtain ⟨p3,q4,j8⟩:=(mY.has bB).elem (i:=i1) o!
   have vw:dy env (some (.slice 45)) (some q.aB) (some (Zn i1))=some (AV.ptr p3 q4):=j8
   have yU:bE env hh 9 (AV.ptr p3 (q4+0))=some (AV.str (q.ae.g i1).name):=(mY.has bB).part (t:=9) (j:=0) o! j8 k! rfl
   obtain ⟨p7,q8,Ss⟩:=(mY.has bB).elem (i:=i0) o!
   have K3:dy env (some (.slice 45)) (some q.aB) (some (Zn i0))=some (AV.ptr p7 q8):=Ss
   have WT:bE env hh 9 (AV.ptr p7 (q8+0))=some (AV.str (q.ae.g i0).name):=(mY.has bB).part (t:=9) (j:=0) o! Ss k! rfl
   have Yx:AV.same 20 q.aB q.aB=true:=(mY.has bB).same 19
   have Ep:=fun {al ps} (k:Pk al _ ps)=>(CN 2<|VV (bU 3 false false .i64 ((i1:Nat):Int) ((i0:Nat):Int))<|BC q1<|MM (aK 24 6 q.aB dC k!)<|CC<|VV vw<|CC<|MM yU<|CC<|MM (aK 24 6 q.aB dC k!)<|CC<|VV K3<|CC<|MM WT<|VV (WM 9 false false (q.ae.g i1).name (q.ae.g i0).name)<|HH (aK 24 6 q.aB dC k!)<|HH Yx<|HH yU<|HH (show AV.same 20 (AV.str (q.ae.g i1).name) (AV.str (q.ae.g i1).name)=true from pZ 19 _)<|HH (aK 24 6 q.aB dC k!)<|HH Yx<|HH WT<|HH (show AV.same 20 (AV.str (q.ae.g i0).name) (AV.str (q.ae.g i0).name)=true from pZ 19 _)<|k:Pk _ [] ps)
   rcases Bool.eq_false_or_eq_true (decide ((q.ae.g i1).name=((q.ae.g i0).name))) with f1 | f1
   · have jk:=of_decide_eq_true f1
     exact ba.ret 6 (by simp only[bV,f1,ak,ah]) (pk (d+2) _ _ hh _ hh (Ep<|BC f1<|ZZ) k!) (Grow.refl aL) k!
   · have jk:=of_decide_eq_false f1
     have u12:=fU 3 false true i1 1 o!
     exact ba.round (by simp only[bV,f1,ak,ah]) (pk (d+2) _ _ hh _ hh (Ep<|BC f1<|VV u12<|CC<|ZZ) k!) (Grow.refl aL) _ k! (fun x=>mH i0 q dc ov mY yS B2 bC (i1+1) o! x hh aL bB dC)
def bO (q:ay):Nat→Nat→Option (Int)
 | 0,_=>none
 | eH+1,i0=>(bif (!(dK (q.ae.g i0).name)) then some 5 else (match (bV i0 q i0 0) with | none=>(bif (!decide ((bz (q.ae.g i0))=0)) then some (bz (q.ae.g i0)) else bO q eH (i0+1)) | some rr9=>some rr9))
theorem mI {d:Nat} {h:aw} (q:ay) (cF:Nat) (cH:q.name.length<2^60) (dH:aP h q.aB q.ae) (nt:aA.ok h q):∀(k_ i_:Nat) (_:i_+k_=q.ae.length) (x:Nat→AV) (hh:aw) (aL:Tidy hh) (bB:Has h hh) (da:hh.get cF=some (aR.cells [(AV.str q.name),(Zi q.ao),(Zi q.ai),(Zi q.aI),(Zi q.aJ),(Zi q.bad),q.aB] 26 false)),ba (dh (d+2)) uk ⟨((x 0)::(Pt cF)::(x 2)::(Zn i_)::rx x 4 107 []),hh,[],.no⟩ (.exit 1) hh (fun y=>((y 0)::(Pt cF)::rx y 2 109 [])) (fun r y=>((y 0)::(Pt cF)::(Zi r)::rx y 3 108 [])) (bO q k_ i_)
 | 0,i0,mR,x,hh,aL,bB,da=>by
   have ow:=dH.small
   have vx:=aL _ _ da
   have rA:dN (some (.slice 45)) (some q.aB)=some (Zn q.ae.length):=(dH.has bB).len
   have q2:(decide (((i0:Nat):Int)<((q.ae.length:Nat):Int)))=false:=d!
   exact ba.out rfl (pk (d+2) _ _ hh _ hh (CN 2<|MM (aK 24 6 q.aB da k!)<|VV rA<|VV (bU 3 false false .i64 ((i0:Nat):Int) ((q.ae.length:Nat):Int))<|BB q2<|ZZ) k!) (Grow.refl aL) k!
 | eH+1,i0,mR,x,hh,aL,bB,da=>by
   have ow:=dH.small
   have vx:=aL _ _ da
   have rA:dN (some (.slice 45)) (some q.aB)=some (Zn q.ae.length):=(dH.has bB).len
   have q2:(decide (((i0:Nat):Int)<((q.ae.length:Nat):Int)))=true:=d!
   obtain ⟨p4,q5,rK⟩:=(dH.has bB).elem (i:=i0) o!
   have w_:dy env (some (.slice 45)) (some q.aB) (some (Zn i0))=some (AV.ptr p4 q5):=rK
   have Gm:bE env hh 9 (AV.ptr p4 (q5+0))=some (AV.str (q.ae.g i0).name):=(dH.has bB).part (t:=9) (j:=0) o! rK k! rfl
   have k7:=IQ (d:=d+1) (q.ae.g i0).name ((dH.has bB).ok (i:=i0) o!) aL
   have Hk:=fun {al ps} (k:Pk al _ ps)=>(CN 2<|MM (aK 24 6 q.aB da k!)<|VV rA<|VV (bU 3 false false .i64 ((i0:Nat):Int) ((q.ae.length:Nat):Int))<|BC q2<|MM (aK 24 6 q.aB da k!)<|CC<|VV w_<|CC<|MM Gm<|EE k7<|CC<|k:Pk _ [] ps)
   rcases Bool.eq_false_or_eq_true (!(dK (q.ae.g i0).name)) with f1 | f1
   · exact ba.ret 5 (by simp only[bO,f1,ak,ah]) (pk (d+2) _ _ hh _ hh (Hk<|BC f1<|ZZ) k!) (Grow.refl aL) k!
   · have lp7:=mH (d:=d) (h:=hh) i0 q cF cH (dH.has bB) (aA.mono bB nt) o! i0 0 o! (fun k_=>(((x 0)::(Pt cF)::(x 2)::(Zn i0)::(Zi 0)::rx x 5 64 ((Zn i0)::(AV.ptr cF 6)::q.aB::(Zn q.ae.length)::(AV.bool (decide (((i0:Nat):Int)<((q.ae.length:Nat):Int))))::(x 74)::(x 75)::(AV.ptr cF 6)::q.aB::(Zn i0)::(AV.ptr p4 q5)::(AV.ptr p4 (q5+0))::(AV.str (q.ae.g i0).name)::(AV.bool (dK (q.ae.g i0).name))::(AV.bool (!(dK (q.ae.g i0).name)))::rx x 84 27 [])):List AV).getD k_ AV.undef) hh aL (Has.refl _) da
     cases B3:bV i0 q i0 0 with
     | none=>
       obtain ⟨yl9,pM,K_,xe⟩:=ba.n B3 lp7
       have j9:=xe.y
       have Nn:hh.nx≤pM.nx:=xe.n
       have kG:Has hh pM:=xe.a
       obtain ⟨Hl,Hm,ox⟩:=(dH.has bB).elem (i:=i0) o!
       have Gu:dy env (some (.slice 45)) (some q.aB) (some (Zn i0))=some (AV.ptr Hl Hm):=ox
       have vy:bE env pM 45 (AV.ptr Hl Hm)=some (AV.agg [(AV.str (q.ae.g i0).name),(Zi (q.ae.g i0).acc),(Zi (q.ae.g i0).bH),(Zi (q.ae.g i0).since)]):=((dH.has bB).has kG).load o! ox
       have k15:=sJ (d:=d) (q.ae.g i0) (aA.mono kG ((dH.has bB).ok (i:=i0) o!)) j9
       have IS:=fun {al ps} (k:Pk al _ ps)=>(Hk<|BC f1<|LL K_<|CC<|MM (aK 24 6 q.aB (xe.a _ _ da) k!)<|CC<|VV Gu<|MM vy<|EE k15<|CN 2<|VV (j6 31 false true .i64 (bz (q.ae.g i0)) 0)<|k:Pk _ [] ps)
       rcases Bool.eq_false_or_eq_true (!decide ((bz (q.ae.g i0))=0)) with f3 | f3
       · have jl:=Dp f3
         exact ba.ret (bz (q.ae.g i0)) (by simp only[bO,f1,B3,f3,ak,ah]) (pk (d+2) _ _ hh _ pM (IS<|BB f3<|CN 2<|ZZ) k!) (⟨j9,kG,by omega⟩) k!
       · have jl:=Dq f3
         have u17:=fU 3 false true i0 1 o!
         exact ba.round (by simp only[bO,f1,B3,f3,ak,ah]) (pk (d+2) _ _ hh _ pM (IS<|BC f3<|VV u17<|CC<|ZZ) k!) (⟨j9,kG,by omega⟩) _ k! (fun x=>mI q cF cH dH nt eH (i0+1) o! x pM j9 (bB.trans kG) (xe.a _ _ da))
     | some rr9=>
       obtain ⟨yl9,pM,K_,xe⟩:=ba.r B3 lp7
       have j9:=xe.y
       have Nn:hh.nx≤pM.nx:=xe.n
       have kG:Has hh pM:=xe.a
       exact ba.ret rr9 (by simp only[bO,f1,B3,ak,ah]) (pk (d+2) _ _ hh _ pM (Hk<|BC f1<|LL K_<|ZZ) k!) (⟨j9,kG,by omega⟩) k!
def aE (q:ay):Int:=(bif (!(dK q.name)) then 5 else (bif (!(cL q.ao)) then 1 else (bif (!(cL q.ai)) then 1 else (bif (decide (q.ai<q.ao)) then 1 else (bif (decide (q.aI<0)) then 1 else (bif (decide (10000<q.aI)) then 1 else (bif (decide (q.aJ<0)) then 1 else (bif (decide (10000<q.aJ)) then 1 else (bif (decide (8<((q.ae.length:Nat):Int))) then 3 else (bif (decide (q.bad<0)) then 1 else (bif (decide (((q.ae.length:Nat):Int)<q.bad)) then 1 else (match (bO q q.ae.length 0) with | none=>0 | some aaB=>aaB))))))))))))
theorem xf {d:Nat} {h:aw} (q:ay) (gA:aA.ok h q) (ch:Tidy h):dh (d+3) (.fn 15) [(AV.agg [(AV.str q.name),(Zi q.ao),(Zi q.ai),(Zi q.aI),(Zi q.aJ),(Zi q.bad),q.aB])] h= .ret (Zi (aE q)) h:=by
 have jF:=gA.2.small
 obtain ⟨h1,ct,ck,jj,aW,cr⟩:=iX ch (aR.cells [(AV.str q.name),(Zi q.ao),(Zi q.ai),(Zi q.aI),(Zi q.aJ),(Zi q.bad),q.aB] 26 false)
 have bG:Has h h1:=cr
 have k2:=IQ (d:=d+1) q.name gA.1 ck
 have IT:=fun {al ps} (k:Pk al _ ps)=>(NN ct (fun i=>(Pt i))<|CN 2<|MM (aK 9 0 (AV.str q.name) aW k!)<|EE k2<|CN 2<|k:Pk _ [] ps)
 rcases Bool.eq_false_or_eq_true (!(dK q.name)) with f0 | f0
 · have e:aE q=5:=by simp only[aE,f0,ak,ah]
   rw[e]
   exact aC rfl (bh Try.func15 cm rfl (.inr rfl) (pk (d+2) _ _ h _ h1 (IT<|BC f0<|ZZ) k!) k!) bG rfl
 · have k4:=Eo (d:=d+1) q.ao ck
   have IU:=fun {al ps} (k:Pk al _ ps)=>(IT<|BB f0<|CN 2<|MM (aK 3 1 (Zi q.ao) aW k!)<|EE k4<|CN 2<|k:Pk _ [] ps)
   rcases Bool.eq_false_or_eq_true (!(cL q.ao)) with f1 | f1
   · have e:aE q=1:=by simp only[aE,f0,f1,ak,ah]
     rw[e]
     exact aC rfl (bh Try.func15 cm rfl (.inr rfl) (pk (d+2) _ _ h _ h1 (IU<|BB f1<|BB f1<|BB f1<|BB f1<|BV f1 (ot true f1)<|CC<|TT<|TT<|TT<|TT<|TT<|TT<|TT<|CN 2<|TT<|CC<|ZZ) k!) k!) bG rfl
   · have k6:=Eo (d:=d+1) q.ai ck
     have yh:=fun {al ps} (k:Pk al _ ps)=>(IU<|BC f1<|BC f1<|BM f1 (aK 3 2 (Zi q.ai) aW k!)<|BB f1<|EE k6<|BC f1<|k:Pk _ [] ps)
     rcases Bool.eq_false_or_eq_true (!(cL q.ai)) with f2 | f2
     · have e:aE q=1:=by simp only[aE,f0,f1,f2,ak,ah]
       rw[e]
       exact aC rfl (bh Try.func15 cm rfl (.inr rfl) (pk (d+2) _ _ h _ h1 (yh<|VV (a_ (a:=some (AV.bool true)) (b:=some (AV.bool (!(cL q.ai)))) f1)<|CC<|BB f2<|BB f2<|BB f2<|BB f2<|BB f2<|BB f2<|BV f2 (ot true f2)<|CC<|TT<|CC<|ZZ) k!) k!) bG rfl
     · rcases Bool.eq_false_or_eq_true (decide (q.ai<q.ao)) with f3 | f3
       · have jl:=of_decide_eq_true f3
         have e:aE q=1:=by simp only[aE,f0,f1,f2,f3,ak,ah]
         rw[e]
         exact aC rfl (bh Try.func15 cm rfl (.inr rfl) (pk (d+2) _ _ h _ h1 (yh<|VV (a_ (a:=some (AV.bool true)) (b:=some (AV.bool (!(cL q.ai)))) f1)<|CC<|BC f2<|BC f2<|BM f2 (aK 3 1 (Zi q.ao) aW k!)<|BC f2<|BC f2<|BM f2 (aK 3 2 (Zi q.ai) aW k!)<|BV f2 (b9 3 false false .i64 q.ao q.ai)<|VV (a_ (a:=some (AV.bool true)) (b:=some (AV.bool (decide (q.ai<q.ao)))) f2)<|CC<|BC f3<|ZZ) k!) k!) bG rfl
       · have jl:=of_decide_eq_false f3
         rcases Bool.eq_false_or_eq_true (decide (q.aI<0)) with f4 | f4
         · have jE:=of_decide_eq_true f4
           have e:aE q=1:=by simp only[aE,f0,f1,f2,f3,f4,ak,ah]
           rw[e]
           exact aC rfl (bh Try.func15 cm rfl (.inr rfl) (pk (d+2) _ _ h _ h1 (yh<|VV (a_ (a:=some (AV.bool true)) (b:=some (AV.bool (!(cL q.ai)))) f1)<|CC<|BC f2<|BC f2<|BM f2 (aK 3 1 (Zi q.ao) aW k!)<|BC f2<|BC f2<|BM f2 (aK 3 2 (Zi q.ai) aW k!)<|BV f2 (b9 3 false false .i64 q.ao q.ai)<|VV (a_ (a:=some (AV.bool true)) (b:=some (AV.bool (decide (q.ai<q.ao)))) f2)<|CC<|BC f3<|MM (aK 3 3 (Zi q.aI) aW k!)<|VV (bU 3 false true .i64 q.aI 0)<|CC<|BB f4<|BB f4<|BV f4 (ot true f4)<|CC<|TT<|TT<|TT<|CN 2<|TT<|TT<|TT<|CN 2<|TT<|CC<|ZZ) k!) k!) bG rfl
         · have jE:=of_decide_eq_false f4
           rcases Bool.eq_false_or_eq_true (decide (10000<q.aI)) with f5 | f5
           · have vu:=of_decide_eq_true f5
             have e:aE q=1:=by simp only[aE,f0,f1,f2,f3,f4,f5,ak,ah]
             rw[e]
             exact aC rfl (bh Try.func15 cm rfl (.inr rfl) (pk (d+2) _ _ h _ h1 (yh<|VV (a_ (a:=some (AV.bool true)) (b:=some (AV.bool (!(cL q.ai)))) f1)<|CC<|BC f2<|BC f2<|BM f2 (aK 3 1 (Zi q.ao) aW k!)<|BC f2<|BC f2<|BM f2 (aK 3 2 (Zi q.ai) aW k!)<|BV f2 (b9 3 false false .i64 q.ao q.ai)<|VV (a_ (a:=some (AV.bool true)) (b:=some (AV.bool (decide (q.ai<q.ao)))) f2)<|CC<|BC f3<|MM (aK 3 3 (Zi q.aI) aW k!)<|VV (bU 3 false true .i64 q.aI 0)<|CC<|BC f4<|BM f4 (aK 3 3 (Zi q.aI) aW k!)<|BV f4 (b9 3 false true .i64 q.aI 10000)<|VV (a_ (a:=some (AV.bool true)) (b:=some (AV.bool (decide (10000<q.aI)))) f4)<|CC<|BB f5<|BB f5<|BV f5 (ot true f5)<|CC<|TT<|TT<|TT<|CN 2<|TT<|CC<|ZZ) k!) k!) bG rfl
           · have vu:=of_decide_eq_false f5
             rcases Bool.eq_false_or_eq_true (decide (q.aJ<0)) with f6 | f6
             · have Su:=of_decide_eq_true f6
               have e:aE q=1:=by simp only[aE,f0,f1,f2,f3,f4,f5,f6,ak,ah]
               rw[e]
               exact aC rfl (bh Try.func15 cm rfl (.inr rfl) (pk (d+2) _ _ h _ h1 (yh<|VV (a_ (a:=some (AV.bool true)) (b:=some (AV.bool (!(cL q.ai)))) f1)<|CC<|BC f2<|BC f2<|BM f2 (aK 3 1 (Zi q.ao) aW k!)<|BC f2<|BC f2<|BM f2 (aK 3 2 (Zi q.ai) aW k!)<|BV f2 (b9 3 false false .i64 q.ao q.ai)<|VV (a_ (a:=some (AV.bool true)) (b:=some (AV.bool (decide (q.ai<q.ao)))) f2)<|CC<|BC f3<|MM (aK 3 3 (Zi q.aI) aW k!)<|VV (bU 3 false true .i64 q.aI 0)<|CC<|BC f4<|BM f4 (aK 3 3 (Zi q.aI) aW k!)<|BV f4 (b9 3 false true .i64 q.aI 10000)<|VV (a_ (a:=some (AV.bool true)) (b:=some (AV.bool (decide (10000<q.aI)))) f4)<|CC<|BC f5<|BM f5 (aK 3 4 (Zi q.aJ) aW k!)<|BV f5 (bU 3 false true .i64 q.aJ 0)<|VV (a_ (a:=some (AV.bool true)) (b:=some (AV.bool (decide (q.aJ<0)))) f5)<|CC<|BB f6<|BB f6<|BV f6 (ot true f6)<|CC<|TT<|CC<|ZZ) k!) k!) bG rfl
             · have Su:=of_decide_eq_false f6
               rcases Bool.eq_false_or_eq_true (decide (10000<q.aJ)) with f7 | f7
               · have La:=of_decide_eq_true f7
                 have e:aE q=1:=by simp only[aE,f0,f1,f2,f3,f4,f5,f6,f7,ak,ah]
                 rw[e]
                 exact aC rfl (bh Try.func15 cm rfl (.inr rfl) (pk (d+2) _ _ h _ h1 (yh<|VV (a_ (a:=some (AV.bool true)) (b:=some (AV.bool (!(cL q.ai)))) f1)<|CC<|BC f2<|BC f2<|BM f2 (aK 3 1 (Zi q.ao) aW k!)<|BC f2<|BC f2<|BM f2 (aK 3 2 (Zi q.ai) aW k!)<|BV f2 (b9 3 false false .i64 q.ao q.ai)<|VV (a_ (a:=some (AV.bool true)) (b:=some (AV.bool (decide (q.ai<q.ao)))) f2)<|CC<|BC f3<|MM (aK 3 3 (Zi q.aI) aW k!)<|VV (bU 3 false true .i64 q.aI 0)<|CC<|BC f4<|BM f4 (aK 3 3 (Zi q.aI) aW k!)<|BV f4 (b9 3 false true .i64 q.aI 10000)<|VV (a_ (a:=some (AV.bool true)) (b:=some (AV.bool (decide (10000<q.aI)))) f4)<|CC<|BC f5<|BM f5 (aK 3 4 (Zi q.aJ) aW k!)<|BV f5 (bU 3 false true .i64 q.aJ 0)<|VV (a_ (a:=some (AV.bool true)) (b:=some (AV.bool (decide (q.aJ<0)))) f5)<|CC<|BC f6<|BM f6 (aK 3 4 (Zi q.aJ) aW k!)<|BV f6 (b9 3 false true .i64 q.aJ 10000)<|VV (a_ (a:=some (AV.bool true)) (b:=some (AV.bool (decide (10000<q.aJ)))) f6)<|CC<|BC f7<|ZZ) k!) k!) bG rfl
               · have La:=of_decide_eq_false f7
                 have Sv:dN (some (.slice 45)) (some q.aB)=some (Zn q.ae.length):=gA.2.len
                 rcases Bool.eq_false_or_eq_true (decide (8<((q.ae.length:Nat):Int))) with f8 | f8
                 · have aaC:=of_decide_eq_true f8
                   have e:aE q=3:=by simp only[aE,f0,f1,f2,f3,f4,f5,f6,f7,f8,ak,ah]
                   rw[e]
                   exact aC rfl (bh Try.func15 cm rfl (.inr rfl) (pk (d+2) _ _ h _ h1 (yh<|VV (a_ (a:=some (AV.bool true)) (b:=some (AV.bool (!(cL q.ai)))) f1)<|CC<|BC f2<|BC f2<|BM f2 (aK 3 1 (Zi q.ao) aW k!)<|BC f2<|BC f2<|BM f2 (aK 3 2 (Zi q.ai) aW k!)<|BV f2 (b9 3 false false .i64 q.ao q.ai)<|VV (a_ (a:=some (AV.bool true)) (b:=some (AV.bool (decide (q.ai<q.ao)))) f2)<|CC<|BC f3<|MM (aK 3 3 (Zi q.aI) aW k!)<|VV (bU 3 false true .i64 q.aI 0)<|CC<|BC f4<|BM f4 (aK 3 3 (Zi q.aI) aW k!)<|BV f4 (b9 3 false true .i64 q.aI 10000)<|VV (a_ (a:=some (AV.bool true)) (b:=some (AV.bool (decide (10000<q.aI)))) f4)<|CC<|BC f5<|BM f5 (aK 3 4 (Zi q.aJ) aW k!)<|BV f5 (bU 3 false true .i64 q.aJ 0)<|VV (a_ (a:=some (AV.bool true)) (b:=some (AV.bool (decide (q.aJ<0)))) f5)<|CC<|BC f6<|BM f6 (aK 3 4 (Zi q.aJ) aW k!)<|BV f6 (b9 3 false true .i64 q.aJ 10000)<|VV (a_ (a:=some (AV.bool true)) (b:=some (AV.bool (decide (10000<q.aJ)))) f6)<|CC<|BC f7<|MM (aK 24 6 q.aB aW k!)<|VV Sv<|VV (b9 3 false true .i64 ((q.ae.length:Nat):Int) 8)<|CC<|BC f8<|ZZ) k!) k!) bG rfl
                 · have aaC:=of_decide_eq_false f8
                   rcases Bool.eq_false_or_eq_true (decide (q.bad<0)) with f9 | f9
                   · have aaD:=of_decide_eq_true f9
                     have e:aE q=1:=by simp only[aE,f0,f1,f2,f3,f4,f5,f6,f7,f8,f9,ak,ah]
                     rw[e]
                     exact aC rfl (bh Try.func15 cm rfl (.inr rfl) (pk (d+2) _ _ h _ h1 (yh<|VV (a_ (a:=some (AV.bool true)) (b:=some (AV.bool (!(cL q.ai)))) f1)<|CC<|BC f2<|BC f2<|BM f2 (aK 3 1 (Zi q.ao) aW k!)<|BC f2<|BC f2<|BM f2 (aK 3 2 (Zi q.ai) aW k!)<|BV f2 (b9 3 false false .i64 q.ao q.ai)<|VV (a_ (a:=some (AV.bool true)) (b:=some (AV.bool (decide (q.ai<q.ao)))) f2)<|CC<|BC f3<|MM (aK 3 3 (Zi q.aI) aW k!)<|VV (bU 3 false true .i64 q.aI 0)<|CC<|BC f4<|BM f4 (aK 3 3 (Zi q.aI) aW k!)<|BV f4 (b9 3 false true .i64 q.aI 10000)<|VV (a_ (a:=some (AV.bool true)) (b:=some (AV.bool (decide (10000<q.aI)))) f4)<|CC<|BC f5<|BM f5 (aK 3 4 (Zi q.aJ) aW k!)<|BV f5 (bU 3 false true .i64 q.aJ 0)<|VV (a_ (a:=some (AV.bool true)) (b:=some (AV.bool (decide (q.aJ<0)))) f5)<|CC<|BC f6<|BM f6 (aK 3 4 (Zi q.aJ) aW k!)<|BV f6 (b9 3 false true .i64 q.aJ 10000)<|VV (a_ (a:=some (AV.bool true)) (b:=some (AV.bool (decide (10000<q.aJ)))) f6)<|CC<|BC f7<|MM (aK 24 6 q.aB aW k!)<|VV Sv<|VV (b9 3 false true .i64 ((q.ae.length:Nat):Int) 8)<|CC<|BC f8<|MM (aK 3 5 (Zi q.bad) aW k!)<|VV (bU 3 false true .i64 q.bad 0)<|CC<|BB f9<|BB f9<|BB f9<|BB f9<|BB f9<|BV f9 (ot true f9)<|CC<|TT<|CC<|ZZ) k!) k!) bG rfl
                   · have aaD:=of_decide_eq_false f9
                     have aaE:dN (some (.slice 45)) (some q.aB)=some (Zn q.ae.length):=gA.2.len
                     rcases Bool.eq_false_or_eq_true (decide (((q.ae.length:Nat):Int)<q.bad)) with f10 | f10
                     · have Sw:=of_decide_eq_true f10
                       have e:aE q=1:=by simp only[aE,f0,f1,f2,f3,f4,f5,f6,f7,f8,f9,f10,ak,ah]
                       rw[e]
                       exact aC rfl (bh Try.func15 cm rfl (.inr rfl) (pk (d+2) _ _ h _ h1 (yh<|VV (a_ (a:=some (AV.bool true)) (b:=some (AV.bool (!(cL q.ai)))) f1)<|CC<|BC f2<|BC f2<|BM f2 (aK 3 1 (Zi q.ao) aW k!)<|BC f2<|BC f2<|BM f2 (aK 3 2 (Zi q.ai) aW k!)<|BV f2 (b9 3 false false .i64 q.ao q.ai)<|VV (a_ (a:=some (AV.bool true)) (b:=some (AV.bool (decide (q.ai<q.ao)))) f2)<|CC<|BC f3<|MM (aK 3 3 (Zi q.aI) aW k!)<|VV (bU 3 false true .i64 q.aI 0)<|CC<|BC f4<|BM f4 (aK 3 3 (Zi q.aI) aW k!)<|BV f4 (b9 3 false true .i64 q.aI 10000)<|VV (a_ (a:=some (AV.bool true)) (b:=some (AV.bool (decide (10000<q.aI)))) f4)<|CC<|BC f5<|BM f5 (aK 3 4 (Zi q.aJ) aW k!)<|BV f5 (bU 3 false true .i64 q.aJ 0)<|VV (a_ (a:=some (AV.bool true)) (b:=some (AV.bool (decide (q.aJ<0)))) f5)<|CC<|BC f6<|BM f6 (aK 3 4 (Zi q.aJ) aW k!)<|BV f6 (b9 3 false true .i64 q.aJ 10000)<|VV (a_ (a:=some (AV.bool true)) (b:=some (AV.bool (decide (10000<q.aJ)))) f6)<|CC<|BC f7<|MM (aK 24 6 q.aB aW k!)<|VV Sv<|VV (b9 3 false true .i64 ((q.ae.length:Nat):Int) 8)<|CC<|BC f8<|MM (aK 3 5 (Zi q.bad) aW k!)<|VV (bU 3 false true .i64 q.bad 0)<|CC<|BC f9<|BM f9 (aK 3 5 (Zi q.bad) aW k!)<|BC f9<|BM f9 (aK 24 6 q.aB aW k!)<|BV f9 aaE<|BV f9 (b9 3 false false .i64 q.bad ((q.ae.length:Nat):Int))<|VV (a_ (a:=some (AV.bool true)) (b:=some (AV.bool (decide (((q.ae.length:Nat):Int)<q.bad)))) f9)<|CC<|BC f10<|ZZ) k!) k!) bG rfl
                     · have Sw:=of_decide_eq_false f10
                       have lp8:=mI (d:=d) (h:=h) q h.nx gA.1 gA.2 gA q.ae.length 0 o! (fun k_=>(((AV.agg [(AV.str q.name),(Zi q.ao),(Zi q.ai),(Zi q.aI),(Zi q.aJ),(Zi q.bad),q.aB])::(Pt h.nx)::(Zi 0)::(Zi 0)::AV.undef::AV.undef::(AV.bool (!(dK q.name)))::(Pt h.nx)::(AV.str q.name)::(AV.bool (dK q.name))::(AV.bool (!(dK q.name)))::(AV.bool (decide (q.ai<q.ao)))::(AV.ptr h.nx 1)::(AV.ptr h.nx 1)::(Zi q.ao)::(AV.bool (cL q.ao))::(AV.bool (!(cL q.ao)))::(AV.bool (!(cL q.ao)))::(AV.ptr h.nx 1)::(AV.ptr h.nx 2)::(Zi q.ai)::(AV.bool (cL q.ai))::(AV.bool (!(cL q.ai)))::(AV.bool (!(cL q.ai)))::(AV.bool (!(cL q.ai)))::(AV.ptr h.nx 1)::(AV.ptr h.nx 1)::(Zi q.ao)::(AV.ptr h.nx 1)::(AV.ptr h.nx 2)::(Zi q.ai)::(AV.bool (decide (q.ai<q.ao)))::(AV.bool (decide (q.ai<q.ao)))::(AV.bool (decide (10000<q.aJ)))::(AV.ptr h.nx 3)::(Zi q.aI)::(AV.bool (decide (q.aI<0)))::(AV.bool (decide (q.aI<0)))::(AV.ptr h.nx 3)::(Zi q.aI)::(AV.bool (decide (10000<q.aI)))::(AV.bool (decide (10000<q.aI)))::(AV.bool (decide (10000<q.aI)))::(AV.ptr h.nx 4)::(Zi q.aJ)::(AV.bool (decide (q.aJ<0)))::(AV.bool (decide (q.aJ<0)))::(AV.bool (decide (q.aJ<0)))::(AV.ptr h.nx 4)::(Zi q.aJ)::(AV.bool (decide (10000<q.aJ)))::(AV.bool (decide (10000<q.aJ)))::(AV.bool (decide (8<((q.ae.length:Nat):Int))))::(AV.ptr h.nx 6)::q.aB::(Zn q.ae.length)::(AV.bool (decide (8<((q.ae.length:Nat):Int))))::(AV.bool (decide (((q.ae.length:Nat):Int)<q.bad)))::(AV.ptr h.nx 5)::(Zi q.bad)::(AV.bool (decide (q.bad<0)))::(AV.bool (decide (q.bad<0)))::(AV.ptr h.nx 5)::(Zi q.bad)::(AV.ptr h.nx 6)::q.aB::(Zn q.ae.length)::(AV.bool (decide (((q.ae.length:Nat):Int)<q.bad)))::(AV.bool (decide (((q.ae.length:Nat):Int)<q.bad)))::iW 42):List AV).getD k_ AV.undef) h1 ck bG aW
                       cases AU:bO q q.ae.length 0 with
                       | none=>
                         obtain ⟨agP,Lb,Gv,B4⟩:=ba.n AU lp8
                         have zT:=B4.y
                         have adx:h1.nx≤Lb.nx:=B4.n
                         have sM:Has h Lb:=bG.trans B4.a
                         have e:aE q=0:=by simp only[aE,f0,f1,f2,f3,f4,f5,f6,f7,f8,f9,f10,AU,ak,ah]
                         rw[e]
                         exact aC rfl (bh Try.func15 cm rfl (.inr rfl) (pk (d+2) _ _ h _ Lb (yh<|VV (a_ (a:=some (AV.bool true)) (b:=some (AV.bool (!(cL q.ai)))) f1)<|CC<|BC f2<|BC f2<|BM f2 (aK 3 1 (Zi q.ao) aW k!)<|BC f2<|BC f2<|BM f2 (aK 3 2 (Zi q.ai) aW k!)<|BV f2 (b9 3 false false .i64 q.ao q.ai)<|VV (a_ (a:=some (AV.bool true)) (b:=some (AV.bool (decide (q.ai<q.ao)))) f2)<|CC<|BC f3<|MM (aK 3 3 (Zi q.aI) aW k!)<|VV (bU 3 false true .i64 q.aI 0)<|CC<|BC f4<|BM f4 (aK 3 3 (Zi q.aI) aW k!)<|BV f4 (b9 3 false true .i64 q.aI 10000)<|VV (a_ (a:=some (AV.bool true)) (b:=some (AV.bool (decide (10000<q.aI)))) f4)<|CC<|BC f5<|BM f5 (aK 3 4 (Zi q.aJ) aW k!)<|BV f5 (bU 3 false true .i64 q.aJ 0)<|VV (a_ (a:=some (AV.bool true)) (b:=some (AV.bool (decide (q.aJ<0)))) f5)<|CC<|BC f6<|BM f6 (aK 3 4 (Zi q.aJ) aW k!)<|BV f6 (b9 3 false true .i64 q.aJ 10000)<|VV (a_ (a:=some (AV.bool true)) (b:=some (AV.bool (decide (10000<q.aJ)))) f6)<|CC<|BC f7<|MM (aK 24 6 q.aB aW k!)<|VV Sv<|VV (b9 3 false true .i64 ((q.ae.length:Nat):Int) 8)<|CC<|BC f8<|MM (aK 3 5 (Zi q.bad) aW k!)<|VV (bU 3 false true .i64 q.bad 0)<|CC<|BC f9<|BM f9 (aK 3 5 (Zi q.bad) aW k!)<|BC f9<|BM f9 (aK 24 6 q.aB aW k!)<|BV f9 aaE<|BV f9 (b9 3 false false .i64 q.bad ((q.ae.length:Nat):Int))<|VV (a_ (a:=some (AV.bool true)) (b:=some (AV.bool (decide (((q.ae.length:Nat):Int)<q.bad)))) f9)<|CC<|BC f10<|LL Gv<|CC<|ZZ) k!) k!) sM rfl
                       | some aaB=>
                         obtain ⟨agP,Lb,Gv,B4⟩:=ba.r AU lp8
                         have zT:=B4.y
                         have adx:h1.nx≤Lb.nx:=B4.n
                         have sM:Has h Lb:=bG.trans B4.a
                         have e:aE q=aaB:=by simp only[aE,f0,f1,f2,f3,f4,f5,f6,f7,f8,f9,f10,AU,ak,ah]
                         rw[e]
                         exact aC rfl (bh Try.func15 cm rfl (.inr rfl) (pk (d+2) _ _ h _ Lb (yh<|VV (a_ (a:=some (AV.bool true)) (b:=some (AV.bool (!(cL q.ai)))) f1)<|CC<|BC f2<|BC f2<|BM f2 (aK 3 1 (Zi q.ao) aW k!)<|BC f2<|BC f2<|BM f2 (aK 3 2 (Zi q.ai) aW k!)<|BV f2 (b9 3 false false .i64 q.ao q.ai)<|VV (a_ (a:=some (AV.bool true)) (b:=some (AV.bool (decide (q.ai<q.ao)))) f2)<|CC<|BC f3<|MM (aK 3 3 (Zi q.aI) aW k!)<|VV (bU 3 false true .i64 q.aI 0)<|CC<|BC f4<|BM f4 (aK 3 3 (Zi q.aI) aW k!)<|BV f4 (b9 3 false true .i64 q.aI 10000)<|VV (a_ (a:=some (AV.bool true)) (b:=some (AV.bool (decide (10000<q.aI)))) f4)<|CC<|BC f5<|BM f5 (aK 3 4 (Zi q.aJ) aW k!)<|BV f5 (bU 3 false true .i64 q.aJ 0)<|VV (a_ (a:=some (AV.bool true)) (b:=some (AV.bool (decide (q.aJ<0)))) f5)<|CC<|BC f6<|BM f6 (aK 3 4 (Zi q.aJ) aW k!)<|BV f6 (b9 3 false true .i64 q.aJ 10000)<|VV (a_ (a:=some (AV.bool true)) (b:=some (AV.bool (decide (10000<q.aJ)))) f6)<|CC<|BC f7<|MM (aK 24 6 q.aB aW k!)<|VV Sv<|VV (b9 3 false true .i64 ((q.ae.length:Nat):Int) 8)<|CC<|BC f8<|MM (aK 3 5 (Zi q.bad) aW k!)<|VV (bU 3 false true .i64 q.bad 0)<|CC<|BC f9<|BM f9 (aK 3 5 (Zi q.bad) aW k!)<|BC f9<|BM f9 (aK 24 6 q.aB aW k!)<|BV f9 aaE<|BV f9 (b9 3 false false .i64 q.bad ((q.ae.length:Nat):Int))<|VV (a_ (a:=some (AV.bool true)) (b:=some (AV.bool (decide (((q.ae.length:Nat):Int)<q.bad)))) f9)<|CC<|BC f10<|LL Gv<|ZZ) k!) k!) sM rfl
def dW (q:ay) (r:az):Int:=(bif (decide (r.aD<0)) then 7 else (bif (decide (((q.ae.length:Nat):Int)≤r.aD)) then 7 else (bif (!(d_ r.time)) then 1 else (bif (!(cL r.value)) then 1 else 0))))
def cq (q:ay) (l_:List az):Nat→Nat→Int→Int
 | 0,_,B5=>B5
 | eH+1,i0,B5=>(bif (decide (B5=0)) then cq q l_ eH (i0+1) (dW q (l_.g i0)) else B5)
def cD (q:ay) (l_:List az):Int:=(bif (decide ((aE q)=0)) then (bif (decide (64<((l_.length:Nat):Int))) then (cq q l_ l_.length 0 3) else (cq q l_ l_.length 0 (aE q))) else (cq q l_ l_.length 0 (aE q)))
theorem gX {c:Bool} {a b:Int} (ha:a≠0) (h:(bif c then a else b)=0):c=false∧b=0:=by
 cases c with
 | true=>exact absurd h ha
 | false=>exact ⟨rfl,h⟩
theorem B6 (q:ay) (l:List az):∀(k i:Nat) (v:Int),v≠0→cq q l k i v=v
 | 0,_,_,_=>rfl
 | k+1,i,v,h=>by rw[cq,decide_eq_false h];rfl
theorem vA (q:ay) (l:List az):∀(k i:Nat) (v:Int),cq q l k i v=0→v=0∧∀j,i≤j→j<i+k→dW q (l.g j)=0
 | 0,i,v,h=>⟨h,fun j a b=>by omega⟩
 | k+1,i,v,h=>by
   rw[cq] at h
   by_cases e:v=0
   · rw[decide_eq_true e,ak] at h
     obtain ⟨h1,h2⟩:=vA q l k (i+1) _ h
     refine ⟨e,fun j a b=>?_⟩
     by_cases ej:j=i
     · rw[ej];exact h1
     · exact h2 j o! o!
   · rw[decide_eq_false e] at h;exact absurd h e
theorem Lc {q:ay} (h:aE q=0):q.ae.length≤8:=by
 rw[aE] at h
 obtain ⟨_,h⟩:=gX (by decide) h
 obtain ⟨_,h⟩:=gX (by decide) h
 obtain ⟨_,h⟩:=gX (by decide) h
 obtain ⟨_,h⟩:=gX (by decide) h
 obtain ⟨_,h⟩:=gX (by decide) h
 obtain ⟨_,h⟩:=gX (by decide) h
 obtain ⟨_,h⟩:=gX (by decide) h
 obtain ⟨_,h⟩:=gX (by decide) h
 obtain ⟨h1,_⟩:=gX (by decide) h
 have:=of_decide_eq_false h1
 omega
theorem Sx {q:ay} {l:List az} (h:cD q l=0):(∀i,i<l.length→0≤(l.g i).aD∧(l.g i).aD<(q.ae.length:Int))∧l.length≤64∧q.ae.length≤8:=by
 rw[cD] at h
 by_cases e:aE q=0
 · rw[decide_eq_true e,ak] at h
   by_cases e2:(64:Int)<((l.length:Nat):Int)
   · rw[decide_eq_true e2,ak] at h
     exact absurd (vA q l _ _ _ h).1 (by decide)
   · rw[decide_eq_false e2,ah] at h
     refine ⟨fun i hi=>?_,by omega,Lc e⟩
     have k:=(vA q l _ _ _ h).2 i (Nat.zero_le _) o!
     rw[dW] at k
     obtain ⟨k1,k⟩:=gX (by decide) k
     obtain ⟨k2,_⟩:=gX (by decide) k
     have:=of_decide_eq_false k1;have:=of_decide_eq_false k2
     omega
 · rw[decide_eq_false e,ah] at h
   exact absurd (vA q l _ _ _ h).1 e
def xg (a:Span):Bool:=(decide (a.aF<a.aU))
def pC (q:ay) (k_:dq) (t:Int):Span:=(bif (decide (k_.time≤t)) then (⟨(IntKind.i64.wrap (k_.ax -(IntKind.i64.wrap (q.aJ*(IntKind.i64.wrap (t - k_.time)))))),(IntKind.i64.wrap (k_.ar+(IntKind.i64.wrap (q.aI*(IntKind.i64.wrap (t - k_.time))))))⟩:Span) else (⟨(IntKind.i64.wrap (k_.ax -(IntKind.i64.wrap (q.aI*(IntKind.i64.wrap (k_.time - t)))))),(IntKind.i64.wrap (k_.ar+(IntKind.i64.wrap (q.aJ*(IntKind.i64.wrap (k_.time - t))))))⟩:Span))
def yV (a:Span) (b:Span):Span:=(⟨(imax a.aU b.aU),(rJ a.aF b.aF)⟩:Span)
def oA (l_:List dq) (q:ay) (i0:Nat):Nat→Nat→Option (Bool)
 | 0,_=>none
 | bC+1,i1=>(bif (xg (yV (pC q (l_.g i0) (l_.g i1).time) (⟨(l_.g i1).ax,(l_.g i1).ar⟩:Span))) then some false else oA l_ q i0 bC (i1+1))
def oB (l_:List dq) (q:ay):Nat→Nat→Option (Bool)
 | 0,_=>none
 | eH+1,i0=>(match (oA l_ q i0 l_.length 0) with | none=>oB l_ q eH (i0+1) | some rr3=>some rr3)
def xh (q:ay) (l_:List dq):Bool:=(match (oB l_ q l_.length 0) with | none=>true | some O8=>O8)
def l8 (q:ay) (l_:List dq) (t:Int):Nat→Nat→Int→Int→Int×Int
 | 0,_,tX,tY=>(tX,tY)
 | eH+1,i0,tX,tY=>l8 q l_ t eH (i0+1) (yV (⟨tX,tY⟩:Span) (pC q (l_.g i0) t)).aU (yV (⟨tX,tY⟩:Span) (pC q (l_.g i0) t)).aF
def vB (q:ay) (l_:List dq) (t:Int):Span:=(⟨(l8 q l_ t (l_.length - 1) 1 (pC q (l_.g 0) t).aU (pC q (l_.g 0) t).aF).1,(l8 q l_ t (l_.length - 1) 1 (pC q (l_.g 0) t).aU (pC q (l_.g 0) t).aF).2⟩:Span)
def cP (l_:List Span):Nat→Nat→List Span→Bool→Int→Int→List Span×Bool×Int×Int
 | 0,_,B5,mZ,kH,kI=>(B5,mZ,kH,kI)
 | eH+1,i0,B5,mZ,kH,kI=>(bif (decide ((IntKind.i64.wrap (((l_.g i0).aF)+1))<kH)) then cP l_ eH (i0+1) (B5++[(l_.g i0)]) mZ kH kI else (bif (decide ((IntKind.i64.wrap (kI+1))<((l_.g i0).aU))) then (bif (!mZ) then cP l_ eH (i0+1) ((B5++[(⟨kH,kI⟩:Span)])++[(l_.g i0)]) true kH kI else cP l_ eH (i0+1) (B5++[(l_.g i0)]) mZ kH kI) else cP l_ eH (i0+1) B5 mZ (rJ kH (l_.g i0).aU) (imax kI (l_.g i0).aF)))
def IV (l_:List Span) (x_:Span):List Span:=(bif (!((cP l_ l_.length 0 ([]:List Span) false x_.aU x_.aF).2.1)) then (((cP l_ l_.length 0 ([]:List Span) false x_.aU x_.aF).1)++([(⟨(cP l_ l_.length 0 ([]:List Span) false x_.aU x_.aF).2.2.1,(cP l_ l_.length 0 ([]:List Span) false x_.aU x_.aF).2.2.2⟩:Span)])) else (cP l_ l_.length 0 ([]:List Span) false x_.aU x_.aF).1)

def af (k:IntKind) (a b:Int):Int:=k.wrap ((BitVec.ofInt k.bits a&&& BitVec.ofInt k.bits b).toNat:Nat)
def aq (k:IntKind) (x y:Int):Int:=x.fdiv (2^(min y.toNat k.bits))
def qf (k:IntKind) (x y:Int):Int:=k.wrap (x*2^(min y.toNat k.bits))
def au (k:IntKind) (x y:Int):Int:=k.wrap (x+y)
theorem mJ (t:TypeId) (c d:Bool) (k:IntKind) (a b:Int):cE env .and t c d (some (.int k a)) (some (.int k b))=some (.int k (af k a b)):=by simp [cE,jM,cZ,af]
theorem qg (t:TypeId) (c d:Bool) (k:IntKind) (a b:Int):cE env .add t c d (some (.int k a)) (some (.int k b))=some (.int k (au k a b)):=by simp [cE,jM,cZ,au]
theorem mK (t:TypeId) (c d:Bool) (k j:IntKind) {a b:Int} (h:0≤b):cE env .shr t c d (some (.int k a)) (some (.int j b))=some (.int k (aq k a b)):=by
 have h':¬b<0:=by omega
 simp [cE,jM,aq,h']
theorem Sy (t:TypeId) (c d:Bool) (k j:IntKind) {a b:Int} (h:0≤b):cE env .shl t c d (some (.int k a)) (some (.int j b))=some (.int k (qf k a b)):=by
 have h':¬b<0:=by omega
 simp [cE,jM,qf,h']
def B7 (set:Int) (aD:Int):Bool:=(decide ((af .i64 (aq .i64 set aD) 1)=1))
def gQ (l_:List az) (q:ay) (set:Int):Nat→Nat→List dq→List dq
 | 0,_,iH=>iH
 | eH+1,i0,iH=>(bif (!(B7 set (l_.g i0).aD)) then gQ l_ q set eH (i0+1) (iH++[(⟨(l_.g i0).time,(IntKind.i64.wrap ((l_.g i0).value -(cx (q.ae.g (l_.g i0).aD.toNat) (l_.g i0).time))),(IntKind.i64.wrap (((l_.g i0).value)+(cx (q.ae.g (l_.g i0).aD.toNat) (l_.g i0).time)))⟩:dq)]) else gQ l_ q set eH (i0+1) iH)
def iA (q:ay) (l_:List az) (set:Int):List dq:=(gQ l_ q set l_.length 0 ([(⟨0,q.ao,q.ai⟩:dq)]))
def Er (set:Int):Nat→Nat→Int→Int
 | 0,_,aaG=>aaG
 | eH+1,i0,aaG=>Er set eH (i0+1) (IntKind.i64.wrap (aaG+(af .i64 (aq .i64 set ((i0:Nat):Int)) 1)))
def Ld (set:Int):Int:=(Er set (Int.toNat 8) 0 0)

theorem oC (l:List az) (q:ay) (s:Int):∀(k i:Nat) (v:List dq),v.length≤(gQ l q s k i v).length
 | 0,_,_=>Nat.le_refl _
 | k+1,i,v=>by
   rw[gQ]
   cases B7 s (l.g i).aD with
   | true=>exact oC l q s k (i+1) v
   | false=>exact Nat.le_trans (by rw[List.length_append];exact Nat.le_add_right _ _) (oC l q s k (i+1) _)
theorem Es (q:ay) (l:List az) (s:Int):0<(iA q l s).length:=Nat.lt_of_lt_of_le Nat.one_pos (oC l q s l.length 0 [(⟨0,q.ao,q.ai⟩:dq)])
def eI (q:ay) (l_:List az) (t:Int):Nat→Nat→List Span→List Span
 | 0,_,iH=>iH
 | eH+1,i0,iH=>(bif (decide (q.bad<(Ld ((i0:Nat):Int)))) then eI q l_ t eH (i0+1) iH else (bif (xh q (iA q l_ ((i0:Nat):Int))) then eI q l_ t eH (i0+1) (IV iH (vB q (iA q l_ ((i0:Nat):Int)) t)) else eI q l_ t eH (i0+1) iH))
def qW (q:ay) (l_:List az) (t:Int):List Span:=(eI q l_ t (qf .i64 1 ((q.ae.length:Nat):Int)).toNat 0 ([]:List Span))
def xj (l:List Span) (x:Int):Prop:=∃s∈l,s.aU≤x∧x≤s.aF
inductive Canon:List Span→Prop
 | nil:Canon []
 | one (s:Span):s.aU≤s.aF→Canon [s]
 | cons (s r:Span) (l:List Span):s.aU≤s.aF→s.aF+1<r.aU→Canon (r::l)→Canon (s::r::l)
theorem Canon.tail {s:Span} {l:List Span} (c:Canon (s::l)):Canon l:=by
 cases c with
 | one=>exact .nil
 | cons _ _ _ _ _ c=>exact c
theorem Canon.head {s:Span} {l:List Span} (c:Canon (s::l)):s.aU≤s.aF:=by cases c<;>assumption
theorem Canon.beyond {l:List Span}:∀{s:Span},Canon (s::l)→∀r∈l,s.aF+1<r.aU:=by
 induction l with
 | nil=>intro s _ r hr;cases hr
 | cons a l ih=>
   intro s c r hr
   cases c with
   | cons _ _ _ h1 h2 c=>
     rcases List.mem_cons.1 hr with rfl | hr
     · exact h2
     · have:=ih c r hr;have:=c.head;omega
theorem Canon.mk {s:Span} {l:List Span} (h:s.aU≤s.aF) (b:∀r∈l,s.aF+1<r.aU) (c:Canon l):Canon (s::l):=by
 cases l with
 | nil=>exact .one s h
 | cons a l=>exact .cons s a l h (b a (List.mem_cons_self ..)) c
theorem eL {s:Span} {l:List Span} {x:Int}:xj (s::l) x↔(s.aU≤x∧x≤s.aF)∨xj l x:=by
 constructor
 · rintro ⟨r,hr,h⟩
   rcases List.mem_cons.1 hr with rfl | hr
   · exact .inl h
   · exact .inr ⟨r,hr,h⟩
 · rintro (h | ⟨r,hr,h⟩)
   · exact ⟨s,List.mem_cons_self ..,h⟩
   · exact ⟨r,List.mem_cons_of_mem _ hr,h⟩
theorem AW {x:Int}:¬xj [] x:=by rintro ⟨_,h,_⟩;cases h
theorem Canon.ends {s:Span} {l:List Span} (c:Canon (s::l)):xj (s::l) s.aU∧xj (s::l) s.aF∧¬xj (s::l) (s.aF+1)∧∀x,x<s.aU→¬xj (s::l) x:=by
 have hh:=c.head
 have hb:=c.beyond
 refine ⟨eL.2 (.inl ⟨Int.le_refl _,hh⟩),eL.2 (.inl ⟨hh,Int.le_refl _⟩),fun h=>?_,fun x hx h=>?_⟩
 · rcases eL.1 h with h | ⟨r,hr,h⟩
   · omega
   · have:=hb r hr;omega
 · rcases eL.1 h with h | ⟨r,hr,h⟩
   · omega
   · have:=hb r hr;omega
theorem SA {a b:Span} (h1:a.aU=b.aU) (h2:a.aF=b.aF):a=b:=by
 cases a;cases b;simp only at h1 h2;rw[h1,h2]
theorem B9:∀{l m:List Span},Canon l→Canon m→(∀x,xj l x↔xj m x)→l=m
 | [],[],_,_,_=>rfl
 | [],r::m,_,c,h=>absurd ((h r.aU).2 c.ends.1) AW
 | s::l,[],c,_,h=>absurd ((h s.aU).1 c.ends.1) AW
 | s::l,r::m,c,d,h=>by
   obtain ⟨c1,c2,c3,c4⟩:=c.ends
   obtain ⟨d1,d2,d3,d4⟩:=d.ends
   have lo:s.aU=r.aU:=by
    have a:¬s.aU<r.aU:=fun q=>d4 _ q ((h _).1 c1)
    have b:¬r.aU<s.aU:=fun q=>c4 _ q ((h _).2 d1)
    omega
   have hi:s.aF=r.aF:=by
    have hs:=c.head;have hr:=d.head
    have a:¬s.aF<r.aF:=fun q=>c3 ((h _).2 (eL.2 (.inl ⟨by omega,by omega⟩)))
    have b:¬r.aF<s.aF:=fun q=>d3 ((h _).1 (eL.2 (.inl ⟨by omega,by omega⟩)))
    omega
   have e:=SA lo hi
   subst e
   rw[B9 c.tail d.tail fun x=>?_]
   have hx:=h x
   rw[eL,eL] at hx
   have cb:=c.beyond;have db:=d.beyond
   constructor
   · intro q
     rcases hx.1 (.inr q) with w | w
     · obtain ⟨r,hr,w2⟩:=q;have:=cb r hr;omega
     · exact w
   · intro q
     rcases hx.2 (.inr q) with w | w
     · obtain ⟨r,hr,w2⟩:=q;have:=db r hr;omega
     · exact w
def Np:List Span→Int→Int→List Span
 | [],a,b=> [⟨a,b⟩]
 | s::R,a,b=>if s.aF+1<a then s::Np R a b else if b+1<s.aU then ⟨a,b⟩::s::R else Np R (min a s.aU) (max b s.aF)
theorem B_:∀{l:List Span} {a b:Int},Canon l→a≤b→Canon (Np l a b)∧(∀x,xj (Np l a b) x↔xj l x∨(a≤x∧x≤b))∧∀s∈Np l a b,a≤s.aU∨∃r∈l,r.aU≤s.aU
 | [],a,b,_,h=>by
   refine ⟨.one _ h,fun x=>?_,fun s hs=>?_⟩
   · rw[Np,eL];simp [AW]
   · rw[Np,List.mem_singleton] at hs;subst hs;exact .inl (Int.le_refl _)
 | s::R,a,b,c,h=>by
   have hs:=c.head;have hb:=c.beyond
   rw[Np]
   split
   · rename_i q
     obtain ⟨i1,i2,i3⟩:=B_ (a:=a) (b:=b) c.tail h
     refine ⟨Canon.mk hs (fun r hr=>?_) i1,fun x=>?_,fun r hr=>?_⟩
     · rcases i3 r hr with w | ⟨r',Hv,w⟩
       · omega
       · have:=hb r' Hv;omega
     · rw[eL,i2,eL,or_assoc]
     · rcases List.mem_cons.1 hr with rfl | hr
       · exact .inr ⟨r,List.mem_cons_self ..,Int.le_refl _⟩
       · rcases i3 r hr with w | ⟨r',Hv,w⟩
         · exact .inl w
         · exact .inr ⟨r',List.mem_cons_of_mem _ Hv,w⟩
   · split
     · rename_i q1 q2
       refine ⟨.cons _ _ _ h q2 c,fun x=>?_,fun r hr=>?_⟩
       · rw[eL];exact Or.comm
       · rcases List.mem_cons.1 hr with rfl | hr
         · exact .inl (Int.le_refl _)
         · exact .inr ⟨r,hr,Int.le_refl _⟩
     · rename_i q1 q2
       obtain ⟨i1,i2,i3⟩:=B_ (l:=R) (a:=min a s.aU) (b:=max b s.aF) c.tail o!
       refine ⟨i1,fun x=>?_,fun r hr=>?_⟩
       · rw[i2,eL]
         constructor
         · rintro (w | w)
           · exact .inl (.inr w)
           · by_cases e:a≤x∧x≤b
             · exact .inr e
             · exact .inl (.inl ⟨by omega,by omega⟩)
         · rintro ((w | w) | w)
           · exact .inr ⟨by omega,by omega⟩
           · exact .inl w
           · exact .inr ⟨by omega,by omega⟩
       · rcases i3 r hr with w | ⟨r',Hv,w⟩
         · by_cases e:a≤s.aU
           · exact .inl o!
           · exact .inr ⟨s,List.mem_cons_self ..,by omega⟩
         · exact .inr ⟨r',List.mem_cons_of_mem _ Hv,w⟩
def Qb:Span→List Span→List Span
 | c,[]=> [c]
 | c,s::R=>if s.aU≤c.aF+1 then Qb ⟨c.aU,max c.aF s.aF⟩ R else c::Qb s R
theorem B':∀{l:List Span} {c:Span},c.aU≤c.aF→(∀s∈l,s.aU≤s.aF)→(∀s∈l,c.aU≤s.aU)→List.Pairwise (fun s r:Span=>s.aU≤r.aU) l→
 Canon (Qb c l)∧(∀x,xj (Qb c l) x↔(c.aU≤x∧x≤c.aF)∨xj l x)∧∀s∈Qb c l,c.aU≤s.aU
 | [],c,h,_,_,_=>by
   refine ⟨.one _ h,fun x=>?_,fun s hs=>?_⟩
   · rw[Qb,eL]
   · rw[Qb,List.mem_singleton] at hs;subst hs;exact Int.le_refl _
 | s::R,c,h,hn,hc,hp=>by
   have h1:=hn s (List.mem_cons_self ..);have h2:=hc s (List.mem_cons_self ..)
   obtain ⟨p1,p2⟩:=List.pairwise_cons.1 hp
   rw[Qb]
   split
   · rename_i q
     obtain ⟨i1,i2,i3⟩:=B' (l:=R) (c:=⟨c.aU,max c.aF s.aF⟩) (by show c.aU≤max c.aF s.aF;omega) (fun r hr=>hn r (List.mem_cons_of_mem _ hr)) (fun r hr=>hc r (List.mem_cons_of_mem _ hr)) p2
     refine ⟨i1,fun x=>?_,i3⟩
     rw[i2,eL]
     show (c.aU≤x∧x≤max c.aF s.aF)∨xj R x↔_
     constructor
     · rintro (w | w)
       · by_cases e:x≤c.aF
         · exact .inl ⟨w.1,e⟩
         · exact .inr (.inl ⟨by omega,by omega⟩)
       · exact .inr (.inr w)
     · rintro (w | w | w)
       · exact .inl ⟨w.1,by omega⟩
       · exact .inl ⟨by omega,by omega⟩
       · exact .inr w
   · rename_i q
     obtain ⟨i1,i2,i3⟩:=B' (l:=R) (c:=s) h1 (fun r hr=>hn r (List.mem_cons_of_mem _ hr)) p1 p2
     refine ⟨Canon.mk h (fun r hr=>?_) i1,fun x=>?_,fun r hr=>?_⟩
     · have:=i3 r hr;omega
     · rw[eL,i2,eL]
     · rcases List.mem_cons.1 hr with rfl | hr
       · exact Int.le_refl _
       · have:=i3 r hr;omega
theorem tZ (x y:Int):rJ x y=min x y:=by unfold rJ;split<;>omega
theorem me (x y:Int):imax x y=max x y:=by unfold imax;split<;>omega
def Bd (s:Span):Prop:= -4611686018427387904≤s.aU∧s.aU≤4611686018427387904∧-4611686018427387904≤s.aF∧s.aF≤4611686018427387904
theorem Lf {α:Type} [Inhabited α] {l:List α} {i:Nat} (h:i<l.length):l.drop i=l.g i::l.drop (i+1):=by
 rw[List.drop_eq_getElem_cons h,List.g,List.getD_eq_getElem?_getD,List.getElem?_eq_getElem h];rfl
theorem SB {l:List Span} {a b:Int}:∀(k i:Nat) (o:List Span),i+k=l.length→(∀s∈l.drop i,b+1<s.aU)→(∀s∈l.drop i,Bd s)→-4611686018427387904≤b→b≤4611686018427387904→cP l k i o true a b=(o++l.drop i,true,a,b)
 | 0,i,o,h,_,_,_,_=>by rw[cP,List.drop_eq_nil_of_le o!,List.append_nil]
 | k+1,i,o,h,hb,hd,b1,b2=>by
   have e:=Lf (l:=l) (i:=i) o!
   rw[e] at hb hd
   have ih:=SB (l:=l) (a:=a) (b:=b) k (i+1) (o++[l.g i]) o! (fun s hs=>hb s (List.mem_cons_of_mem _ hs)) (fun s hs=>hd s (List.mem_cons_of_mem _ hs)) b1 b2
   have h1:=hb _ (List.mem_cons_self ..)
   rw[cP,wrap_i64 (n:=b+1) o! o!,decide_eq_true h1,ih,e,List.append_assoc,List.singleton_append]
   cases decide (IntKind.i64.wrap ((l.g i).aF+1)<a)<;>rfl
def fin (r:List Span×Bool×Int×Int):List Span:=bif !r.2.1 then r.1++[(⟨r.2.2.1,r.2.2.2⟩:Span)] else r.1
theorem Lg {l:List Span}:∀(k i:Nat) (o:List Span) (a b:Int),i+k=l.length→Canon (l.drop i)→(∀s∈l.drop i,Bd s)→a≤b→Bd ⟨a,b⟩→fin (cP l k i o false a b)=o++Np (l.drop i) a b
 | 0,i,o,a,b,h,_,_,_,_=>by rw[cP,List.drop_eq_nil_of_le o!];rfl
 | k+1,i,o,a,b,h,hc,hd,hab,⟨b1,b2,b3,b4⟩=>by
   have e:=Lf (l:=l) (i:=i) o!
   rw[e] at hc hd ⊢
   obtain ⟨d1,d2,d3,d4⟩:=hd _ (List.mem_cons_self ..)
   simp only at b1 b2 b3 b4
   rw[cP,wrap_i64 (n:=(l.g i).aF+1) o! o!,wrap_i64 (n:=b+1) o! o!,Np]
   by_cases q1:(l.g i).aF+1<a
   · rw[decide_eq_true q1,if_pos q1]
     show fin (cP l k (i+1) (o++[l.g i]) false a b)=_
     rw[Lg k (i+1) _ a b o! hc.tail (fun s hs=>hd s (List.mem_cons_of_mem _ hs)) hab ⟨b1,b2,b3,b4⟩,List.append_assoc,List.singleton_append]
   · rw[decide_eq_false q1,if_neg q1]
     by_cases q2:b+1<(l.g i).aU
     · rw[decide_eq_true q2,if_pos q2]
       show fin (cP l k (i+1) ((o++[(⟨a,b⟩:Span)])++[l.g i]) true a b)=_
       have hh:=hc.head
       rw[SB k (i+1) _ o! (fun s hs=>by have:=hc.beyond s hs;omega) (fun s hs=>hd s (List.mem_cons_of_mem _ hs)) b3 b4]
       show ((o++[(⟨a,b⟩:Span)])++[l.g i])++l.drop (i+1)=_
       simp
     · rw[decide_eq_false q2,if_neg q2]
       show fin (cP l k (i+1) o false (rJ a (l.g i).aU) (imax b (l.g i).aF))=_
       rw[tZ,me]
       exact Lg k (i+1) o _ _ o! hc.tail (fun s hs=>hd s (List.mem_cons_of_mem _ hs)) (by have:=hc.head;omega) ⟨by simp only;omega,by simp only;omega,by simp only;omega,by simp only;omega⟩
theorem O_ {l:List Span} {x:Span} (hc:Canon l) (hd:∀s∈l,Bd s) (hx:x.aU≤x.aF) (hb:Bd x):IV l x=Np l x.aU x.aF:=by
 have h:=Lg (l:=l) l.length 0 [] x.aU x.aF o! (by rw[List.drop_zero];exact hc) (by rw[List.drop_zero];exact hd) hx hb
 rw[List.drop_zero,List.nil_append] at h
 exact h
theorem Lh:∀{l:List Span} {a b:Int},(∀s∈l,Bd s)→Bd ⟨a,b⟩→∀s∈Np l a b,Bd s
 | [],a,b,_,h,s,hs=>by rw[Np,List.mem_singleton] at hs;subst hs;exact h
 | r::R,a,b,hd,h,s,hs=>by
   have hr:=hd r (List.mem_cons_self ..);have hR:=fun q hq=>hd q (List.mem_cons_of_mem r hq)
   rw[Np] at hs
   split at hs
   · rcases List.mem_cons.1 hs with rfl | hs
     · exact hr
     · exact Lh hR h s hs
   · split at hs
     · rcases List.mem_cons.1 hs with rfl | hs
       · exact h
       · exact hd s hs
     · obtain ⟨a1,a2,a3,a4⟩:=h;obtain ⟨c1,c2,c3,c4⟩:=hr
       simp only at a1 a2 a3 a4
       exact Lh hR ⟨by simp only;omega,by simp only;omega,by simp only;omega,by simp only;omega⟩ s hs
def gB (f r:Int) (k:dq) (t:Int):Span:=if k.time≤t then ⟨k.ax - f*(t - k.time),k.ar+r*(t - k.time)⟩ else ⟨k.ax - r*(k.time - t),k.ar+f*(k.time - t)⟩
def KB (k:dq):Prop:=(0≤k.time∧k.time≤100000)∧-1000000000000≤k.ax∧k.ax≤1000000000000∧-1000000000000≤k.ar∧k.ar≤1000000000000
theorem jW {f x:Int} (h0:0≤f) (h1:f≤10000) (h2:0≤x) (h3:x≤100000):0≤f*x∧f*x≤1000000000:=by
 refine ⟨Int.mul_nonneg h0 h2,?_⟩
 calc f*x≤10000*x:=Int.mul_le_mul_of_nonneg_right h1 h2
  _≤1000000000:=by omega
theorem xm {q:ay} {k:dq} {t:Int} (f0:0≤q.aJ) (f1:q.aJ≤10000) (r0:0≤q.aI) (r1:q.aI≤10000) (hk:KB k) (t0:0≤t) (t1:t≤100000):pC q k t=gB q.aJ q.aI k t∧Bd (gB q.aJ q.aI k t):=by
 obtain ⟨⟨a,b⟩,c,d,e,g⟩:=hk
 rw[pC,gB]
 by_cases h:k.time≤t
 · obtain ⟨m1,m2⟩:=jW f0 f1 (x:=t - k.time) o! o!
   obtain ⟨m3,m4⟩:=jW r0 r1 (x:=t - k.time) o! o!
   rw[decide_eq_true h,if_pos h,ak,wrap_i64 (n:=t - k.time) o! o!,wrap_i64 (n:=q.aJ*(t - k.time)) o! o!,wrap_i64 (n:=q.aI*(t - k.time)) o! o!,wrap_i64 (n:=k.ax - q.aJ*(t - k.time)) o! o!,wrap_i64 (n:=k.ar+q.aI*(t - k.time)) o! o!]
   exact ⟨rfl,by simp only;omega,by simp only;omega,by simp only;omega,by simp only;omega⟩
 · obtain ⟨m1,m2⟩:=jW f0 f1 (x:=k.time - t) o! o!
   obtain ⟨m3,m4⟩:=jW r0 r1 (x:=k.time - t) o! o!
   rw[decide_eq_false h,if_neg h,ah,wrap_i64 (n:=k.time - t) o! o!,wrap_i64 (n:=q.aI*(k.time - t)) o! o!,wrap_i64 (n:=q.aJ*(k.time - t)) o! o!,wrap_i64 (n:=k.ax - q.aI*(k.time - t)) o! o!,wrap_i64 (n:=k.ar+q.aJ*(k.time - t)) o! o!]
   exact ⟨rfl,by simp only;omega,by simp only;omega,by simp only;omega,by simp only;omega⟩
def nY (f r:Int) (K:List dq):Prop:=∀i∈K,∀k∈K,max (gB f r i k.time).aU k.ax≤min (gB f r i k.time).aF k.ar
theorem Ca {f r:Int} {K:List dq} (h:nY f r K) {i k:dq} (hi:i∈K) (hk:k∈K):(gB f r i k.time).aU≤k.ar∧k.ax≤(gB f r i k.time).aF∧k.ax≤k.ar:=by
 have:=h i hi k hk;omega
theorem Cb {f r:Int} {K:List dq} (f0:0≤f) (r0:0≤r) (h:nY f r K) (t:Int) {i k:dq} (hi:i∈K) (hk:k∈K):(gB f r i t).aU≤(gB f r k t).aF:=by
 obtain ⟨a1,a2,a3⟩:=Ca h hi hk
 obtain ⟨b1,b2,b3⟩:=Ca h hk hi
 have M:∀(c x y:Int),0≤c→x≤y→c*x≤c*y:=fun c x y hc hx=>Int.mul_le_mul_of_nonneg_left hx hc
 unfold gB at a1 a2 b1 b2 ⊢
 split at a1<;>split at b1<;>split<;>split<;>simp only[Int.mul_sub] at * <;>first
  | omega
  | (have:=M f i.time k.time f0;have:=M f k.time i.time f0;have:=M r i.time k.time r0;have:=M r k.time i.time r0
     have:=M f i.time t f0;have:=M f t i.time f0;have:=M f k.time t f0;have:=M f t k.time f0
     have:=M r i.time t r0;have:=M r t i.time r0;have:=M r k.time t r0;have:=M r t k.time r0
     omega)
theorem aaH {α:Type} [Inhabited α] {l:List α} {P:α→Prop}:(∀x∈l,P x)↔∀i,i<l.length→P (l.g i):=by
 constructor
 · intro h i hi;exact h _ (by rw[List.g,List.getD_eq_getElem?_getD,List.getElem?_eq_getElem hi];exact List.getElem_mem hi)
 · intro h x hx
   obtain ⟨i,hi,rfl⟩:=List.mem_iff_getElem.1 hx
   have:=h i hi
   rwa [List.g,List.getD_eq_getElem?_getD,List.getElem?_eq_getElem hi] at this
def qX (q:ay) (l:List dq) (i j:Nat):Bool:=xg (yV (pC q (l.g i) (l.g j).time) (⟨(l.g j).ax,(l.g j).ar⟩:Span))
theorem Yy (l:List dq) (q:ay) (i0:Nat):∀(k i:Nat),(oA l q i0 k i=none∧∀j,i≤j→j<i+k→qX q l i0 j=false)∨(oA l q i0 k i=some false∧∃j,i≤j∧j<i+k∧qX q l i0 j=true)
 | 0,i=> .inl ⟨rfl,fun j a b=>by omega⟩
 | k+1,i=>by
   rw[oA]
   show ((bif qX q l i0 i then some false else _)=none∧_)∨_
   cases e:qX q l i0 i with
   | true=>exact .inr ⟨by rw[show xg _=true from e];rfl,i,Nat.le_refl _,by omega,e⟩
   | false=>
     rw[show xg _=false from e]
     rcases Yy l q i0 k (i+1) with ⟨h1,h2⟩ | ⟨h1,j,h2,h3,h4⟩
     · refine .inl ⟨h1,fun j a b=>?_⟩
       by_cases ej:j=i
       · rw[ej];exact e
       · exact h2 j o! o!
     · exact .inr ⟨h1,j,by omega,by omega,h4⟩
theorem Yz (l:List dq) (q:ay):∀(k i:Nat),(oB l q k i=none∧∀j,i≤j→j<i+k→∀m,m<l.length→qX q l j m=false)∨(oB l q k i=some false∧∃j m,i≤j∧j<i+k∧m<l.length∧qX q l j m=true)
 | 0,i=> .inl ⟨rfl,fun j a b=>by omega⟩
 | k+1,i=>by
   rw[oB]
   rcases Yy l q i l.length 0 with ⟨h1,h2⟩ | ⟨h1,m,_,h3,h4⟩
   · rw[h1]
     rcases Yz l q k (i+1) with ⟨h5,h6⟩ | ⟨h5,j,m,h6,h7,h8,h9⟩
     · refine .inl ⟨h5,fun j a b m hm=>?_⟩
       by_cases ej:j=i
       · rw[ej];exact h2 m (Nat.zero_le _) o!
       · exact h6 j o! o! m hm
     · exact .inr ⟨h5,j,m,by omega,by omega,h8,h9⟩
   · rw[h1];exact .inr ⟨rfl,i,m,Nat.le_refl _,by omega,by omega,h4⟩
section
variable {q:ay} (f0:0≤q.aJ) (f1:q.aJ≤10000) (r0:0≤q.aI) (r1:q.aI≤10000) {l:List dq} (hl:∀k∈l,KB k)
include f0 f1 r0 r1 hl
theorem IW {i j:Nat} (hi:i<l.length) (hj:j<l.length):qX q l i j=false↔max (gB q.aJ q.aI (l.g i) (l.g j).time).aU (l.g j).ax≤min (gB q.aJ q.aI (l.g i) (l.g j).time).aF (l.g j).ar:=by
 have kj:=hl _ (j7 hj)
 rw[qX,(xm f0 f1 r0 r1 (hl _ (j7 hi)) kj.1.1 kj.1.2).1,xg,yV]
 simp only[tZ,me,decide_eq_false_iff_not,Int.not_lt]
theorem IX:xh q l=true↔nY q.aJ q.aI l:=by
 have key:nY q.aJ q.aI l↔∀i,i<l.length→∀j,j<l.length→qX q l i j=false:=by
  unfold nY
  constructor
  · intro h i hi j hj;exact (IW f0 f1 r0 r1 hl hi hj).2 (h _ (j7 hi) _ (j7 hj))
  · intro h
    rw[aaH];intro i hi;rw[aaH];intro j hj
    exact (IW f0 f1 r0 r1 hl hi hj).1 (h i hi j hj)
 rw[key,xh]
 rcases Yz l q l.length 0 with ⟨h1,h2⟩ | ⟨h1,j,m,h2,h3,h4,h5⟩
 · rw[h1];exact ⟨fun _ i hi j hj=>h2 i (Nat.zero_le _) o! j hj,fun _=>rfl⟩
 · rw[h1]
   refine ⟨fun h=>(by cases h),fun h=>?_⟩
   rw[h j o! m h4] at h5;cases h5
variable {t:Int} (t0:0≤t) (t1:t≤100000)
include t0 t1
theorem YA:∀(k i:Nat) (a b:Int),i+k=l.length→(∃c∈l,a=(gB q.aJ q.aI c t).aU)→(∃c∈l,b=(gB q.aJ q.aI c t).aF)→
 (∃c∈l,(l8 q l t k i a b).1=(gB q.aJ q.aI c t).aU)∧(∃c∈l,(l8 q l t k i a b).2=(gB q.aJ q.aI c t).aF)∧a≤(l8 q l t k i a b).1∧(l8 q l t k i a b).2≤b∧∀j,i≤j→j<l.length→(gB q.aJ q.aI (l.g j) t).aU≤(l8 q l t k i a b).1∧(l8 q l t k i a b).2≤(gB q.aJ q.aI (l.g j) t).aF
 | 0,i,a,b,h,ha,hb=>⟨ha,hb,Int.le_refl _,Int.le_refl _,fun j p q=>by omega⟩
 | k+1,i,a,b,h,ha,hb=>by
   have hi:i<l.length:=by omega
   rw[l8,(xm f0 f1 r0 r1 (hl _ (j7 hi)) t0 t1).1,yV]
   simp only[tZ,me]
   obtain ⟨x1,x2,x3,x4,x5⟩:=YA k (i+1) (max a (gB q.aJ q.aI (l.g i) t).aU) (min b (gB q.aJ q.aI (l.g i) t).aF) o!
    (by
     by_cases e:a≤(gB q.aJ q.aI (l.g i) t).aU
     · exact ⟨_,j7 hi,by omega⟩
     · obtain ⟨c,h1,h2⟩:=ha;exact ⟨c,h1,by omega⟩)
    (by
     by_cases e:(gB q.aJ q.aI (l.g i) t).aF≤b
     · exact ⟨_,j7 hi,by omega⟩
     · obtain ⟨c,h1,h2⟩:=hb;exact ⟨c,h1,by omega⟩)
   refine ⟨x1,x2,by omega,by omega,fun j p q'=>?_⟩
   by_cases e:j=i
   · subst e;exact ⟨by omega,by omega⟩
   · exact x5 j o! q'
theorem adA (hn:0<l.length):(∃c∈l,(vB q l t).aU=(gB q.aJ q.aI c t).aU)∧(∃c∈l,(vB q l t).aF=(gB q.aJ q.aI c t).aF)∧∀c∈l,(gB q.aJ q.aI c t).aU≤(vB q l t).aU∧(vB q l t).aF≤(gB q.aJ q.aI c t).aF:=by
 have e0:=(xm f0 f1 r0 r1 (hl _ (j7 hn)) t0 t1).1
 rw[vB,e0]
 obtain ⟨x1,x2,x3,x4,x5⟩:=YA f0 f1 r0 r1 hl t0 t1 (l.length - 1) 1 _ _ o! ⟨_,j7 hn,rfl⟩ ⟨_,j7 hn,rfl⟩
 refine ⟨x1,x2,?_⟩
 rw[aaH];intro j hj
 by_cases e:j=0
 · subst e;exact ⟨x3,x4⟩
 · exact x5 j o! hj
theorem at_mem (hn:0<l.length) (ha:nY q.aJ q.aI l):(vB q l t).aU≤(vB q l t).aF∧Bd (vB q l t)∧∀x,((vB q l t).aU≤x∧x≤(vB q l t).aF)↔∀c∈l,(gB q.aJ q.aI c t).aU≤x∧x≤(gB q.aJ q.aI c t).aF:=by
 obtain ⟨⟨c,hc,e1⟩,⟨d,hd,e2⟩,h⟩:=adA f0 f1 r0 r1 hl t0 t1 hn
 obtain ⟨b1,b2,b3,b4⟩:=(xm f0 f1 r0 r1 (hl _ hc) t0 t1).2
 obtain ⟨c1,c2,c3,c4⟩:=(xm f0 f1 r0 r1 (hl _ hd) t0 t1).2
 refine ⟨by rw[e1,e2];exact Cb f0 r0 ha t hc hd,⟨by omega,by omega,by omega,by omega⟩,fun x=>⟨fun hx k hk=>?_,fun hx=>?_⟩⟩
 · have:=h k hk;omega
 · have:=hx c hc;have:=hx d hd;omega
end
end
end Go.Proofs.aG
