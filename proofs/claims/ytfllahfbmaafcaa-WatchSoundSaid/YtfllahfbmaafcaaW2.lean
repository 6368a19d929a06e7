import Derived.Test.YtfllahfbmaafcaaW0
import Derived.Test.YtfllahfbmaafcaaW1
namespace Go.Proofs.aH
open Go.Proofs Ab
noncomputable section
set_option maxRecDepth 100000
set_option maxHeartbeats 4000000
set_option linter.unusedVariables false
set_option linter.unusedSimpArgs false
def jz:Code:=(Try.f15.body).getD .skip
theorem cu:Try.f15.body=some jz:=by kernel_rfl
def uD:Code:=(cC jz).getD 0 .skip
def uE:Code:=(cC jz).getD 1 .skip
def bW (i0:Nat) (q:ay):Nat→Nat→Option (Int)
 | 0,_=>none
 | bF+1,i1=>(bif (decide ((q.af.g i1).name=((q.af.g i0).name))) then some 6 else bW i0 q bF (i1+1))
theorem mN {d:Nat} {h:au} (i0:Nat) (q:ay) (dt:Nat) (qj:q.name.length<2^60) (me:aZ h q.aB q.af) (zc:aA.ok h q) (uV:i0<q.af.length):∀(k_ i_:Nat) (_:i_+k_=i0) (x:Nat→AV) (hh:au) (aN:Tidy hh) (bj:Has h hh) (dK:hh.get dt=some (a_.cells [(AV.str q.name),(Zi q.aj),(Zi q.ah),(Zi q.aI),(Zi q.aK),(Zi q.bad),q.aB] 26 false)),aW (cW (d+2)) uE ⟨((x 0)::(Pt dt)::(x 2)::(Zn i0)::(Zn i_)::rx x 5 106 []),hh,[],.no⟩ (.exit 3) hh (fun y=>((y 0)::(Pt dt)::(y 2)::(Zn i0)::rx y 4 107 [])) (fun r y=>((y 0)::(Pt dt)::(Zi r)::(Zn i0)::rx y 4 107 [])) (bW i0 q k_ i_)
 | 0,i1,kY,x,hh,aN,bj,dK=>by
   have rj:=me.small
   have zd:=aN _ _ dK
   have q1:(decide (((i1:Nat):Int)<((i0:Nat):Int)))=false:=d!
   exact aW.out rfl (pk (d+2) _ _ hh _ hh (CN 2<|VV (bZ 3 false false .i64 ((i1:Nat):Int) ((i0:Nat):Int))<|BB q1<|ZZ) k!) (Grow.refl aN) k!
 | bF+1,i1,kY,x,hh,aN,bj,dK=>by
   have rj:=me.small
   have zd:=aN _ _ dK
   have q1:(decide (((i1:Nat):Int)<((i0:Nat):Int)))=true:=d!
   obtain ⟨p3,q4,lE⟩:=(me.has bj).elem (i:=i1) o!
   have xp:dr env (some (.slice 45)) (some q.aB) (some (Zn i1))=some (AV.ptr p3 q4):=lE
   have AZ:bG env hh 9 (AV.ptr p3 (q4+0))=some (AV.str (q.af.g i1).name):=(me.has bj).part (t:=9) (j:=0) o! lE k! rfl
   obtain ⟨p7,q8,S'⟩:=(me.has bj).elem (i:=i0) o!
   have LK:dr env (some (.slice 45)) (some q.aB) (some (Zn i0))=some (AV.ptr p7 q8):=S'
   have XR:bG env hh 9 (AV.ptr p7 (q8+0))=some (AV.str (q.af.g i0).name):=(me.has bj).part (t:=9) (j:=0) o! S' k! rfl
   have LN:AV.same 20 q.aB q.aB=true:=(me.has bj).same 19
   have za:=fun {al ps} (k:Pk al _ ps)=>(CN 2<|VV (bZ 3 false false .i64 ((i1:Nat):Int) ((i0:Nat):Int))<|BC q1<|MM (aM 24 6 q.aB dK k!)<|CC<|VV xp<|CC<|MM AZ<|CC<|MM (aM 24 6 q.aB dK k!)<|CC<|VV LK<|CC<|MM XR<|VV (XL 9 false false (q.af.g i1).name (q.af.g i0).name)<|HH (aM 24 6 q.aB dK k!)<|HH LN<|HH AZ<|HH (show AV.same 20 (AV.str (q.af.g i1).name) (AV.str (q.af.g i1).name)=true from qc 19 _)<|HH (aM 24 6 q.aB dK k!)<|HH LN<|HH XR<|HH (show AV.same 20 (AV.str (q.af.g i0).name) (AV.str (q.af.g i0).name)=true from qc 19 _)<|k:Pk _ [] ps)
   rcases Bool.eq_false_or_eq_true (decide ((q.af.g i1).name=((q.af.g i0).name))) with f1 | f1
   · have jg:=of_decide_eq_true f1
     exact aW.ret 6 (by simp only[bW,f1,ao,ai]) (pk (d+2) _ _ hh _ hh (za<|BC f1<|ZZ) k!) (Grow.refl aN) k!
   · have jg:=of_decide_eq_false f1
     have u12:=fj 3 false true i1 1 o!
     exact aW.round (by simp only[bW,f1,ao,ai]) (pk (d+2) _ _ hh _ hh (za<|BC f1<|VV u12<|CC<|ZZ) k!) (Grow.refl aN) _ k! (fun x=>mN i0 q dt qj me zc uV bF (i1+1) o! x hh aN bj dK)
def bO (q:ay):Nat→Nat→Option (Int)
 | 0,_=>none
 | d_+1,i0=>(bif (!(dI (q.af.g i0).name)) then some 5 else (match (bW i0 q i0 0) with | none=>(bif (!decide ((bD (q.af.g i0))=0)) then some (bD (q.af.g i0)) else bO q d_ (i0+1)) | some rr9=>some rr9))
theorem mO {d:Nat} {h:au} (q:ay) (cY:Nat) (cD:q.name.length<2^60) (eX:aZ h q.aB q.af) (oI:aA.ok h q):∀(k_ i_:Nat) (_:i_+k_=q.af.length) (x:Nat→AV) (hh:au) (aN:Tidy hh) (bj:Has h hh) (du:hh.get cY=some (a_.cells [(AV.str q.name),(Zi q.aj),(Zi q.ah),(Zi q.aI),(Zi q.aK),(Zi q.bad),q.aB] 26 false)),aW (cW (d+2)) uD ⟨((x 0)::(Pt cY)::(x 2)::(Zn i_)::rx x 4 107 []),hh,[],.no⟩ (.exit 1) hh (fun y=>((y 0)::(Pt cY)::rx y 2 109 [])) (fun r y=>((y 0)::(Pt cY)::(Zi r)::rx y 3 108 [])) (bO q k_ i_)
 | 0,i0,kY,x,hh,aN,bj,du=>by
   have rk:=eX.small
   have ze:=aN _ _ du
   have nY:dJ (some (.slice 45)) (some q.aB)=some (Zn q.af.length):=(eX.has bj).len
   have q2:(decide (((i0:Nat):Int)<((q.af.length:Nat):Int)))=false:=d!
   exact aW.out rfl (pk (d+2) _ _ hh _ hh (CN 2<|MM (aM 24 6 q.aB du k!)<|VV nY<|VV (bZ 3 false false .i64 ((i0:Nat):Int) ((q.af.length:Nat):Int))<|BB q2<|ZZ) k!) (Grow.refl aN) k!
 | d_+1,i0,kY,x,hh,aN,bj,du=>by
   have rk:=eX.small
   have ze:=aN _ _ du
   have nY:dJ (some (.slice 45)) (some q.aB)=some (Zn q.af.length):=(eX.has bj).len
   have q2:(decide (((i0:Nat):Int)<((q.af.length:Nat):Int)))=true:=d!
   obtain ⟨p4,q5,pH⟩:=(eX.has bj).elem (i:=i0) o!
   have DP:dr env (some (.slice 45)) (some q.aB) (some (Zn i0))=some (AV.ptr p4 q5):=pH
   have Af:bG env hh 9 (AV.ptr p4 (q5+0))=some (AV.str (q.af.g i0).name):=(eX.has bj).part (t:=9) (j:=0) o! pH k! rfl
   have k7:=Jx (d:=d+1) (q.af.g i0).name ((eX.has bj).ok (i:=i0) o!) aN
   have HZ:=fun {al ps} (k:Pk al _ ps)=>(CN 2<|MM (aM 24 6 q.aB du k!)<|VV nY<|VV (bZ 3 false false .i64 ((i0:Nat):Int) ((q.af.length:Nat):Int))<|BC q2<|MM (aM 24 6 q.aB du k!)<|CC<|VV DP<|CC<|MM Af<|EE k7<|CC<|k:Pk _ [] ps)
   rcases Bool.eq_false_or_eq_true (!(dI (q.af.g i0).name)) with f1 | f1
   · exact aW.ret 5 (by simp only[bO,f1,ao,ai]) (pk (d+2) _ _ hh _ hh (HZ<|BC f1<|ZZ) k!) (Grow.refl aN) k!
   · have lp7:=mN (d:=d) (h:=hh) i0 q cY cD (eX.has bj) (aA.mono bj oI) o! i0 0 o! (fun k_=>(((x 0)::(Pt cY)::(x 2)::(Zn i0)::(Zi 0)::rx x 5 64 ((Zn i0)::(AV.ptr cY 6)::q.aB::(Zn q.af.length)::(AV.bool (decide (((i0:Nat):Int)<((q.af.length:Nat):Int))))::(x 74)::(x 75)::(AV.ptr cY 6)::q.aB::(Zn i0)::(AV.ptr p4 q5)::(AV.ptr p4 (q5+0))::(AV.str (q.af.g i0).name)::(AV.bool (dI (q.af.g i0).name))::(AV.bool (!(dI (q.af.g i0).name)))::rx x 84 27 [])):List AV).getD k_ AV.undef) hh aN (Has.refl _) du
     cases Cq:bW i0 q i0 0 with
     | none=>
       obtain ⟨yl9,rZ,LO,xq⟩:=aW.n Cq lp7
       have mP:=xq.y
       have NV:hh.nx≤rZ.nx:=xq.n
       have lW:Has hh rZ:=xq.a
       obtain ⟨H0,H2,oJ⟩:=(eX.has bj).elem (i:=i0) o!
       have G7:dr env (some (.slice 45)) (some q.aB) (some (Zn i0))=some (AV.ptr H0 H2):=oJ
       have vK:bG env rZ 45 (AV.ptr H0 H2)=some (AV.agg [(AV.str (q.af.g i0).name),(Zi (q.af.g i0).acc),(Zi (q.af.g i0).bP),(Zi (q.af.g i0).since)]):=((eX.has bj).has lW).load o! oJ
       have k15:=s6 (d:=d) (q.af.g i0) (aA.mono lW ((eX.has bj).ok (i:=i0) o!)) mP
       have Jw:=fun {al ps} (k:Pk al _ ps)=>(HZ<|BC f1<|LL LO<|CC<|MM (aM 24 6 q.aB (xq.a _ _ du) k!)<|CC<|VV G7<|MM vK<|EE k15<|CN 2<|VV (jw 31 false true .i64 (bD (q.af.g i0)) 0)<|k:Pk _ [] ps)
       rcases Bool.eq_false_or_eq_true (!decide ((bD (q.af.g i0))=0)) with f3 | f3
       · have jy:=EM f3
         exact aW.ret (bD (q.af.g i0)) (by simp only[bO,f1,Cq,f3,ao,ai]) (pk (d+2) _ _ hh _ rZ (Jw<|BB f3<|CN 2<|ZZ) k!) (⟨mP,lW,by omega⟩) k!
       · have jy:=EN f3
         have u17:=fj 3 false true i0 1 o!
         exact aW.round (by simp only[bO,f1,Cq,f3,ao,ai]) (pk (d+2) _ _ hh _ rZ (Jw<|BC f3<|VV u17<|CC<|ZZ) k!) (⟨mP,lW,by omega⟩) _ k! (fun x=>mO q cY cD eX oI d_ (i0+1) o! x rZ mP (bj.trans lW) (xq.a _ _ du))
     | some rr9=>
       obtain ⟨yl9,rZ,LO,xq⟩:=aW.r Cq lp7
       have mP:=xq.y
       have NV:hh.nx≤rZ.nx:=xq.n
       have lW:Has hh rZ:=xq.a
       exact aW.ret rr9 (by simp only[bO,f1,Cq,ao,ai]) (pk (d+2) _ _ hh _ rZ (HZ<|BC f1<|LL LO<|ZZ) k!) (⟨mP,lW,by omega⟩) k!
def aE (q:ay):Int:=(bif (!(dI q.name)) then 5 else (bif (!(cK q.aj)) then 1 else (bif (!(cK q.ah)) then 1 else (bif (decide (q.ah<q.aj)) then 1 else (bif (decide (q.aI<0)) then 1 else (bif (decide (10000<q.aI)) then 1 else (bif (decide (q.aK<0)) then 1 else (bif (decide (10000<q.aK)) then 1 else (bif (decide (8<((q.af.length:Nat):Int))) then 3 else (bif (decide (q.bad<0)) then 1 else (bif (decide (((q.af.length:Nat):Int)<q.bad)) then 1 else (match (bO q q.af.length 0) with | none=>0 | some aba=>aba))))))))))))
theorem xr {d:Nat} {h:au} (q:ay) (jh:aA.ok h q) (bY:Tidy h):cW (d+3) (.fn 15) [(AV.agg [(AV.str q.name),(Zi q.aj),(Zi q.ah),(Zi q.aI),(Zi q.aK),(Zi q.bad),q.aB])] h= .ret (Zi (aE q)) h:=by
 have ky:=jh.2.small
 obtain ⟨h1,cA,cq,jf,aY,ct⟩:=iQ bY (a_.cells [(AV.str q.name),(Zi q.aj),(Zi q.ah),(Zi q.aI),(Zi q.aK),(Zi q.bad),q.aB] 26 false)
 have bI:Has h h1:=ct
 have k2:=Jx (d:=d+1) q.name jh.1 cq
 have Jy:=fun {al ps} (k:Pk al _ ps)=>(NN cA (fun i=>(Pt i))<|CN 2<|MM (aM 9 0 (AV.str q.name) aY k!)<|EE k2<|CN 2<|k:Pk _ [] ps)
 rcases Bool.eq_false_or_eq_true (!(dI q.name)) with f0 | f0
 · have e:aE q=5:=by simp only[aE,f0,ao,ai]
   rw[e]
   exact aC rfl (bx Try.func15 cu rfl (.inr rfl) (pk (d+2) _ _ h _ h1 (Jy<|BC f0<|ZZ) k!) k!) bI rfl
 · have k4:=ET (d:=d+1) q.aj cq
   have DQ:=fun {al ps} (k:Pk al _ ps)=>(Jy<|BB f0<|CN 2<|MM (aM 3 1 (Zi q.aj) aY k!)<|EE k4<|CN 2<|k:Pk _ [] ps)
   rcases Bool.eq_false_or_eq_true (!(cK q.aj)) with f1 | f1
   · have e:aE q=1:=by simp only[aE,f0,f1,ao,ai]
     rw[e]
     exact aC rfl (bx Try.func15 cu rfl (.inr rfl) (pk (d+2) _ _ h _ h1 (DQ<|BB f1<|BB f1<|BB f1<|BB f1<|BV f1 (pa true f1)<|CC<|TT<|TT<|TT<|TT<|TT<|TT<|TT<|CN 2<|TT<|CC<|ZZ) k!) k!) bI rfl
   · have k6:=ET (d:=d+1) q.ah cq
     have Cr:=fun {al ps} (k:Pk al _ ps)=>(DQ<|BC f1<|BC f1<|BM f1 (aM 3 2 (Zi q.ah) aY k!)<|BB f1<|EE k6<|BC f1<|k:Pk _ [] ps)
     rcases Bool.eq_false_or_eq_true (!(cK q.ah)) with f2 | f2
     · have e:aE q=1:=by simp only[aE,f0,f1,f2,ao,ai]
       rw[e]
       exact aC rfl (bx Try.func15 cu rfl (.inr rfl) (pk (d+2) _ _ h _ h1 (Cr<|VV (ba (a:=some (AV.bool true)) (b:=some (AV.bool (!(cK q.ah)))) f1)<|CC<|BB f2<|BB f2<|BB f2<|BB f2<|BB f2<|BB f2<|BV f2 (pa true f2)<|CC<|TT<|CC<|ZZ) k!) k!) bI rfl
     · rcases Bool.eq_false_or_eq_true (decide (q.ah<q.aj)) with f3 | f3
       · have jy:=of_decide_eq_true f3
         have e:aE q=1:=by simp only[aE,f0,f1,f2,f3,ao,ai]
         rw[e]
         exact aC rfl (bx Try.func15 cu rfl (.inr rfl) (pk (d+2) _ _ h _ h1 (Cr<|VV (ba (a:=some (AV.bool true)) (b:=some (AV.bool (!(cK q.ah)))) f1)<|CC<|BC f2<|BC f2<|BM f2 (aM 3 1 (Zi q.aj) aY k!)<|BC f2<|BC f2<|BM f2 (aM 3 2 (Zi q.ah) aY k!)<|BV f2 (cg 3 false false .i64 q.aj q.ah)<|VV (ba (a:=some (AV.bool true)) (b:=some (AV.bool (decide (q.ah<q.aj)))) f2)<|CC<|BC f3<|ZZ) k!) k!) bI rfl
       · have jy:=of_decide_eq_false f3
         rcases Bool.eq_false_or_eq_true (decide (q.aI<0)) with f4 | f4
         · have km:=of_decide_eq_true f4
           have e:aE q=1:=by simp only[aE,f0,f1,f2,f3,f4,ao,ai]
           rw[e]
           exact aC rfl (bx Try.func15 cu rfl (.inr rfl) (pk (d+2) _ _ h _ h1 (Cr<|VV (ba (a:=some (AV.bool true)) (b:=some (AV.bool (!(cK q.ah)))) f1)<|CC<|BC f2<|BC f2<|BM f2 (aM 3 1 (Zi q.aj) aY k!)<|BC f2<|BC f2<|BM f2 (aM 3 2 (Zi q.ah) aY k!)<|BV f2 (cg 3 false false .i64 q.aj q.ah)<|VV (ba (a:=some (AV.bool true)) (b:=some (AV.bool (decide (q.ah<q.aj)))) f2)<|CC<|BC f3<|MM (aM 3 3 (Zi q.aI) aY k!)<|VV (bZ 3 false true .i64 q.aI 0)<|CC<|BB f4<|BB f4<|BV f4 (pa true f4)<|CC<|TT<|TT<|TT<|CN 2<|TT<|TT<|TT<|CN 2<|TT<|CC<|ZZ) k!) k!) bI rfl
         · have km:=of_decide_eq_false f4
           rcases Bool.eq_false_or_eq_true (decide (10000<q.aI)) with f5 | f5
           · have zb:=of_decide_eq_true f5
             have e:aE q=1:=by simp only[aE,f0,f1,f2,f3,f4,f5,ao,ai]
             rw[e]
             exact aC rfl (bx Try.func15 cu rfl (.inr rfl) (pk (d+2) _ _ h _ h1 (Cr<|VV (ba (a:=some (AV.bool true)) (b:=some (AV.bool (!(cK q.ah)))) f1)<|CC<|BC f2<|BC f2<|BM f2 (aM 3 1 (Zi q.aj) aY k!)<|BC f2<|BC f2<|BM f2 (aM 3 2 (Zi q.ah) aY k!)<|BV f2 (cg 3 false false .i64 q.aj q.ah)<|VV (ba (a:=some (AV.bool true)) (b:=some (AV.bool (decide (q.ah<q.aj)))) f2)<|CC<|BC f3<|MM (aM 3 3 (Zi q.aI) aY k!)<|VV (bZ 3 false true .i64 q.aI 0)<|CC<|BC f4<|BM f4 (aM 3 3 (Zi q.aI) aY k!)<|BV f4 (cg 3 false true .i64 q.aI 10000)<|VV (ba (a:=some (AV.bool true)) (b:=some (AV.bool (decide (10000<q.aI)))) f4)<|CC<|BB f5<|BB f5<|BV f5 (pa true f5)<|CC<|TT<|TT<|TT<|CN 2<|TT<|CC<|ZZ) k!) k!) bI rfl
           · have zb:=of_decide_eq_false f5
             rcases Bool.eq_false_or_eq_true (decide (q.aK<0)) with f6 | f6
             · have Ta:=of_decide_eq_true f6
               have e:aE q=1:=by simp only[aE,f0,f1,f2,f3,f4,f5,f6,ao,ai]
               rw[e]
               exact aC rfl (bx Try.func15 cu rfl (.inr rfl) (pk (d+2) _ _ h _ h1 (Cr<|VV (ba (a:=some (AV.bool true)) (b:=some (AV.bool (!(cK q.ah)))) f1)<|CC<|BC f2<|BC f2<|BM f2 (aM 3 1 (Zi q.aj) aY k!)<|BC f2<|BC f2<|BM f2 (aM 3 2 (Zi q.ah) aY k!)<|BV f2 (cg 3 false false .i64 q.aj q.ah)<|VV (ba (a:=some (AV.bool true)) (b:=some (AV.bool (decide (q.ah<q.aj)))) f2)<|CC<|BC f3<|MM (aM 3 3 (Zi q.aI) aY k!)<|VV (bZ 3 false true .i64 q.aI 0)<|CC<|BC f4<|BM f4 (aM 3 3 (Zi q.aI) aY k!)<|BV f4 (cg 3 false true .i64 q.aI 10000)<|VV (ba (a:=some (AV.bool true)) (b:=some (AV.bool (decide (10000<q.aI)))) f4)<|CC<|BC f5<|BM f5 (aM 3 4 (Zi q.aK) aY k!)<|BV f5 (bZ 3 false true .i64 q.aK 0)<|VV (ba (a:=some (AV.bool true)) (b:=some (AV.bool (decide (q.aK<0)))) f5)<|CC<|BB f6<|BB f6<|BV f6 (pa true f6)<|CC<|TT<|CC<|ZZ) k!) k!) bI rfl
             · have Ta:=of_decide_eq_false f6
               rcases Bool.eq_false_or_eq_true (decide (10000<q.aK)) with f7 | f7
               · have Tb:=of_decide_eq_true f7
                 have e:aE q=1:=by simp only[aE,f0,f1,f2,f3,f4,f5,f6,f7,ao,ai]
                 rw[e]
                 exact aC rfl (bx Try.func15 cu rfl (.inr rfl) (pk (d+2) _ _ h _ h1 (Cr<|VV (ba (a:=some (AV.bool true)) (b:=some (AV.bool (!(cK q.ah)))) f1)<|CC<|BC f2<|BC f2<|BM f2 (aM 3 1 (Zi q.aj) aY k!)<|BC f2<|BC f2<|BM f2 (aM 3 2 (Zi q.ah) aY k!)<|BV f2 (cg 3 false false .i64 q.aj q.ah)<|VV (ba (a:=some (AV.bool true)) (b:=some (AV.bool (decide (q.ah<q.aj)))) f2)<|CC<|BC f3<|MM (aM 3 3 (Zi q.aI) aY k!)<|VV (bZ 3 false true .i64 q.aI 0)<|CC<|BC f4<|BM f4 (aM 3 3 (Zi q.aI) aY k!)<|BV f4 (cg 3 false true .i64 q.aI 10000)<|VV (ba (a:=some (AV.bool true)) (b:=some (AV.bool (decide (10000<q.aI)))) f4)<|CC<|BC f5<|BM f5 (aM 3 4 (Zi q.aK) aY k!)<|BV f5 (bZ 3 false true .i64 q.aK 0)<|VV (ba (a:=some (AV.bool true)) (b:=some (AV.bool (decide (q.aK<0)))) f5)<|CC<|BC f6<|BM f6 (aM 3 4 (Zi q.aK) aY k!)<|BV f6 (cg 3 false true .i64 q.aK 10000)<|VV (ba (a:=some (AV.bool true)) (b:=some (AV.bool (decide (10000<q.aK)))) f6)<|CC<|BC f7<|ZZ) k!) k!) bI rfl
               · have Tb:=of_decide_eq_false f7
                 have Tc:dJ (some (.slice 45)) (some q.aB)=some (Zn q.af.length):=jh.2.len
                 rcases Bool.eq_false_or_eq_true (decide (8<((q.af.length:Nat):Int))) with f8 | f8
                 · have ahs:=of_decide_eq_true f8
                   have e:aE q=3:=by simp only[aE,f0,f1,f2,f3,f4,f5,f6,f7,f8,ao,ai]
                   rw[e]
                   exact aC rfl (bx Try.func15 cu rfl (.inr rfl) (pk (d+2) _ _ h _ h1 (Cr<|VV (ba (a:=some (AV.bool true)) (b:=some (AV.bool (!(cK q.ah)))) f1)<|CC<|BC f2<|BC f2<|BM f2 (aM 3 1 (Zi q.aj) aY k!)<|BC f2<|BC f2<|BM f2 (aM 3 2 (Zi q.ah) aY k!)<|BV f2 (cg 3 false false .i64 q.aj q.ah)<|VV (ba (a:=some (AV.bool true)) (b:=some (AV.bool (decide (q.ah<q.aj)))) f2)<|CC<|BC f3<|MM (aM 3 3 (Zi q.aI) aY k!)<|VV (bZ 3 false true .i64 q.aI 0)<|CC<|BC f4<|BM f4 (aM 3 3 (Zi q.aI) aY k!)<|BV f4 (cg 3 false true .i64 q.aI 10000)<|VV (ba (a:=some (AV.bool true)) (b:=some (AV.bool (decide (10000<q.aI)))) f4)<|CC<|BC f5<|BM f5 (aM 3 4 (Zi q.aK) aY k!)<|BV f5 (bZ 3 false true .i64 q.aK 0)<|VV (ba (a:=some (AV.bool true)) (b:=some (AV.bool (decide (q.aK<0)))) f5)<|CC<|BC f6<|BM f6 (aM 3 4 (Zi q.aK) aY k!)<|BV f6 (cg 3 false true .i64 q.aK 10000)<|VV (ba (a:=some (AV.bool true)) (b:=some (AV.bool (decide (10000<q.aK)))) f6)<|CC<|BC f7<|MM (aM 24 6 q.aB aY k!)<|VV Tc<|VV (cg 3 false true .i64 ((q.af.length:Nat):Int) 8)<|CC<|BC f8<|ZZ) k!) k!) bI rfl
                 · have ahs:=of_decide_eq_false f8
                   rcases Bool.eq_false_or_eq_true (decide (q.bad<0)) with f9 | f9
                   · have aht:=of_decide_eq_true f9
                     have e:aE q=1:=by simp only[aE,f0,f1,f2,f3,f4,f5,f6,f7,f8,f9,ao,ai]
                     rw[e]
                     exact aC rfl (bx Try.func15 cu rfl (.inr rfl) (pk (d+2) _ _ h _ h1 (Cr<|VV (ba (a:=some (AV.bool true)) (b:=some (AV.bool (!(cK q.ah)))) f1)<|CC<|BC f2<|BC f2<|BM f2 (aM 3 1 (Zi q.aj) aY k!)<|BC f2<|BC f2<|BM f2 (aM 3 2 (Zi q.ah) aY k!)<|BV f2 (cg 3 false false .i64 q.aj q.ah)<|VV (ba (a:=some (AV.bool true)) (b:=some (AV.bool (decide (q.ah<q.aj)))) f2)<|CC<|BC f3<|MM (aM 3 3 (Zi q.aI) aY k!)<|VV (bZ 3 false true .i64 q.aI 0)<|CC<|BC f4<|BM f4 (aM 3 3 (Zi q.aI) aY k!)<|BV f4 (cg 3 false true .i64 q.aI 10000)<|VV (ba (a:=some (AV.bool true)) (b:=some (AV.bool (decide (10000<q.aI)))) f4)<|CC<|BC f5<|BM f5 (aM 3 4 (Zi q.aK) aY k!)<|BV f5 (bZ 3 false true .i64 q.aK 0)<|VV (ba (a:=some (AV.bool true)) (b:=some (AV.bool (decide (q.aK<0)))) f5)<|CC<|BC f6<|BM f6 (aM 3 4 (Zi q.aK) aY k!)<|BV f6 (cg 3 false true .i64 q.aK 10000)<|VV (ba (a:=some (AV.bool true)) (b:=some (AV.bool (decide (10000<q.aK)))) f6)<|CC<|BC f7<|MM (aM 24 6 q.aB aY k!)<|VV Tc<|VV (cg 3 false true .i64 ((q.af.length:Nat):Int) 8)<|CC<|BC f8<|MM (aM 3 5 (Zi q.bad) aY k!)<|VV (bZ 3 false true .i64 q.bad 0)<|CC<|BB f9<|BB f9<|BB f9<|BB f9<|BB f9<|BV f9 (pa true f9)<|CC<|TT<|CC<|ZZ) k!) k!) bI rfl
                   · have aht:=of_decide_eq_false f9
                     have abb:dJ (some (.slice 45)) (some q.aB)=some (Zn q.af.length):=jh.2.len
                     rcases Bool.eq_false_or_eq_true (decide (((q.af.length:Nat):Int)<q.bad)) with f10 | f10
                     · have ad7:=of_decide_eq_true f10
                       have e:aE q=1:=by simp only[aE,f0,f1,f2,f3,f4,f5,f6,f7,f8,f9,f10,ao,ai]
                       rw[e]
                       exact aC rfl (bx Try.func15 cu rfl (.inr rfl) (pk (d+2) _ _ h _ h1 (Cr<|VV (ba (a:=some (AV.bool true)) (b:=some (AV.bool (!(cK q.ah)))) f1)<|CC<|BC f2<|BC f2<|BM f2 (aM 3 1 (Zi q.aj) aY k!)<|BC f2<|BC f2<|BM f2 (aM 3 2 (Zi q.ah) aY k!)<|BV f2 (cg 3 false false .i64 q.aj q.ah)<|VV (ba (a:=some (AV.bool true)) (b:=some (AV.bool (decide (q.ah<q.aj)))) f2)<|CC<|BC f3<|MM (aM 3 3 (Zi q.aI) aY k!)<|VV (bZ 3 false true .i64 q.aI 0)<|CC<|BC f4<|BM f4 (aM 3 3 (Zi q.aI) aY k!)<|BV f4 (cg 3 false true .i64 q.aI 10000)<|VV (ba (a:=some (AV.bool true)) (b:=some (AV.bool (decide (10000<q.aI)))) f4)<|CC<|BC f5<|BM f5 (aM 3 4 (Zi q.aK) aY k!)<|BV f5 (bZ 3 false true .i64 q.aK 0)<|VV (ba (a:=some (AV.bool true)) (b:=some (AV.bool (decide (q.aK<0)))) f5)<|CC<|BC f6<|BM f6 (aM 3 4 (Zi q.aK) aY k!)<|BV f6 (cg 3 false true .i64 q.aK 10000)<|VV (ba (a:=some (AV.bool true)) (b:=some (AV.bool (decide (10000<q.aK)))) f6)<|CC<|BC f7<|MM (aM 24 6 q.aB aY k!)<|VV Tc<|VV (cg 3 false true .i64 ((q.af.length:Nat):Int) 8)<|CC<|BC f8<|MM (aM 3 5 (Zi q.bad) aY k!)<|VV (bZ 3 false true .i64 q.bad 0)<|CC<|BC f9<|BM f9 (aM 3 5 (Zi q.bad) aY k!)<|BC f9<|BM f9 (aM 24 6 q.aB aY k!)<|BV f9 abb<|BV f9 (cg 3 false false .i64 q.bad ((q.af.length:Nat):Int))<|VV (ba (a:=some (AV.bool true)) (b:=some (AV.bool (decide (((q.af.length:Nat):Int)<q.bad)))) f9)<|CC<|BC f10<|ZZ) k!) k!) bI rfl
                     · have ad7:=of_decide_eq_false f10
                       have lp8:=mO (d:=d) (h:=h) q h.nx jh.1 jh.2 jh q.af.length 0 o! (fun k_=>(((AV.agg [(AV.str q.name),(Zi q.aj),(Zi q.ah),(Zi q.aI),(Zi q.aK),(Zi q.bad),q.aB])::(Pt h.nx)::(Zi 0)::(Zi 0)::AV.undef::AV.undef::(AV.bool (!(dI q.name)))::(Pt h.nx)::(AV.str q.name)::(AV.bool (dI q.name))::(AV.bool (!(dI q.name)))::(AV.bool (decide (q.ah<q.aj)))::(AV.ptr h.nx 1)::(AV.ptr h.nx 1)::(Zi q.aj)::(AV.bool (cK q.aj))::(AV.bool (!(cK q.aj)))::(AV.bool (!(cK q.aj)))::(AV.ptr h.nx 1)::(AV.ptr h.nx 2)::(Zi q.ah)::(AV.bool (cK q.ah))::(AV.bool (!(cK q.ah)))::(AV.bool (!(cK q.ah)))::(AV.bool (!(cK q.ah)))::(AV.ptr h.nx 1)::(AV.ptr h.nx 1)::(Zi q.aj)::(AV.ptr h.nx 1)::(AV.ptr h.nx 2)::(Zi q.ah)::(AV.bool (decide (q.ah<q.aj)))::(AV.bool (decide (q.ah<q.aj)))::(AV.bool (decide (10000<q.aK)))::(AV.ptr h.nx 3)::(Zi q.aI)::(AV.bool (decide (q.aI<0)))::(AV.bool (decide (q.aI<0)))::(AV.ptr h.nx 3)::(Zi q.aI)::(AV.bool (decide (10000<q.aI)))::(AV.bool (decide (10000<q.aI)))::(AV.bool (decide (10000<q.aI)))::(AV.ptr h.nx 4)::(Zi q.aK)::(AV.bool (decide (q.aK<0)))::(AV.bool (decide (q.aK<0)))::(AV.bool (decide (q.aK<0)))::(AV.ptr h.nx 4)::(Zi q.aK)::(AV.bool (decide (10000<q.aK)))::(AV.bool (decide (10000<q.aK)))::(AV.bool (decide (8<((q.af.length:Nat):Int))))::(AV.ptr h.nx 6)::q.aB::(Zn q.af.length)::(AV.bool (decide (8<((q.af.length:Nat):Int))))::(AV.bool (decide (((q.af.length:Nat):Int)<q.bad)))::(AV.ptr h.nx 5)::(Zi q.bad)::(AV.bool (decide (q.bad<0)))::(AV.bool (decide (q.bad<0)))::(AV.ptr h.nx 5)::(Zi q.bad)::(AV.ptr h.nx 6)::q.aB::(Zn q.af.length)::(AV.bool (decide (((q.af.length:Nat):Int)<q.bad)))::(AV.bool (decide (((q.af.length:Nat):Int)<q.bad)))::kX 42):List AV).getD k_ AV.undef) h1 cq bI aY
                       cases Bj:bO q q.af.length 0 with
                       | none=>
                         obtain ⟨ahu,LP,G8,Cs⟩:=aW.n Bj lp8
                         have Ah:=Cs.y
                         have ad8:h1.nx≤LP.nx:=Cs.n
                         have ta:Has h LP:=bI.trans Cs.a
                         have e:aE q=0:=by simp only[aE,f0,f1,f2,f3,f4,f5,f6,f7,f8,f9,f10,Bj,ao,ai]
                         rw[e]
                         exact aC rfl (bx Try.func15 cu rfl (.inr rfl) (pk (d+2) _ _ h _ LP (Cr<|VV (ba (a:=some (AV.bool true)) (b:=some (AV.bool (!(cK q.ah)))) f1)<|CC<|BC f2<|BC f2<|BM f2 (aM 3 1 (Zi q.aj) aY k!)<|BC f2<|BC f2<|BM f2 (aM 3 2 (Zi q.ah) aY k!)<|BV f2 (cg 3 false false .i64 q.aj q.ah)<|VV (ba (a:=some (AV.bool true)) (b:=some (AV.bool (decide (q.ah<q.aj)))) f2)<|CC<|BC f3<|MM (aM 3 3 (Zi q.aI) aY k!)<|VV (bZ 3 false true .i64 q.aI 0)<|CC<|BC f4<|BM f4 (aM 3 3 (Zi q.aI) aY k!)<|BV f4 (cg 3 false true .i64 q.aI 10000)<|VV (ba (a:=some (AV.bool true)) (b:=some (AV.bool (decide (10000<q.aI)))) f4)<|CC<|BC f5<|BM f5 (aM 3 4 (Zi q.aK) aY k!)<|BV f5 (bZ 3 false true .i64 q.aK 0)<|VV (ba (a:=some (AV.bool true)) (b:=some (AV.bool (decide (q.aK<0)))) f5)<|CC<|BC f6<|BM f6 (aM 3 4 (Zi q.aK) aY k!)<|BV f6 (cg 3 false true .i64 q.aK 10000)<|VV (ba (a:=some (AV.bool true)) (b:=some (AV.bool (decide (10000<q.aK)))) f6)<|CC<|BC f7<|MM (aM 24 6 q.aB aY k!)<|VV Tc<|VV (cg 3 false true .i64 ((q.af.length:Nat):Int) 8)<|CC<|BC f8<|MM (aM 3 5 (Zi q.bad) aY k!)<|VV (bZ 3 false true .i64 q.bad 0)<|CC<|BC f9<|BM f9 (aM 3 5 (Zi q.bad) aY k!)<|BC f9<|BM f9 (aM 24 6 q.aB aY k!)<|BV f9 abb<|BV f9 (cg 3 false false .i64 q.bad ((q.af.length:Nat):Int))<|VV (ba (a:=some (AV.bool true)) (b:=some (AV.bool (decide (((q.af.length:Nat):Int)<q.bad)))) f9)<|CC<|BC f10<|LL G8<|CC<|ZZ) k!) k!) ta rfl
                       | some aba=>
                         obtain ⟨ahu,LP,G8,Cs⟩:=aW.r Bj lp8
                         have Ah:=Cs.y
                         have ad8:h1.nx≤LP.nx:=Cs.n
                         have ta:Has h LP:=bI.trans Cs.a
                         have e:aE q=aba:=by simp only[aE,f0,f1,f2,f3,f4,f5,f6,f7,f8,f9,f10,Bj,ao,ai]
                         rw[e]
                         exact aC rfl (bx Try.func15 cu rfl (.inr rfl) (pk (d+2) _ _ h _ LP (Cr<|VV (ba (a:=some (AV.bool true)) (b:=some (AV.bool (!(cK q.ah)))) f1)<|CC<|BC f2<|BC f2<|BM f2 (aM 3 1 (Zi q.aj) aY k!)<|BC f2<|BC f2<|BM f2 (aM 3 2 (Zi q.ah) aY k!)<|BV f2 (cg 3 false false .i64 q.aj q.ah)<|VV (ba (a:=some (AV.bool true)) (b:=some (AV.bool (decide (q.ah<q.aj)))) f2)<|CC<|BC f3<|MM (aM 3 3 (Zi q.aI) aY k!)<|VV (bZ 3 false true .i64 q.aI 0)<|CC<|BC f4<|BM f4 (aM 3 3 (Zi q.aI) aY k!)<|BV f4 (cg 3 false true .i64 q.aI 10000)<|VV (ba (a:=some (AV.bool true)) (b:=some (AV.bool (decide (10000<q.aI)))) f4)<|CC<|BC f5<|BM f5 (aM 3 4 (Zi q.aK) aY k!)<|BV f5 (bZ 3 false true .i64 q.aK 0)<|VV (ba (a:=some (AV.bool true)) (b:=some (AV.bool (decide (q.aK<0)))) f5)<|CC<|BC f6<|BM f6 (aM 3 4 (Zi q.aK) aY k!)<|BV f6 (cg 3 false true .i64 q.aK 10000)<|VV (ba (a:=some (AV.bool true)) (b:=some (AV.bool (decide (10000<q.aK)))) f6)<|CC<|BC f7<|MM (aM 24 6 q.aB aY k!)<|VV Tc<|VV (cg 3 false true .i64 ((q.af.length:Nat):Int) 8)<|CC<|BC f8<|MM (aM 3 5 (Zi q.bad) aY k!)<|VV (bZ 3 false true .i64 q.bad 0)<|CC<|BC f9<|BM f9 (aM 3 5 (Zi q.bad) aY k!)<|BC f9<|BM f9 (aM 24 6 q.aB aY k!)<|BV f9 abb<|BV f9 (cg 3 false false .i64 q.bad ((q.af.length:Nat):Int))<|VV (ba (a:=some (AV.bool true)) (b:=some (AV.bool (decide (((q.af.length:Nat):Int)<q.bad)))) f9)<|CC<|BC f10<|LL G8<|ZZ) k!) k!) ta rfl
def dV (q:ay) (r:az):Int:=(bif (decide (r.aD<0)) then 7 else (bif (decide (((q.af.length:Nat):Int)≤r.aD)) then 7 else (bif (!(ff r.time)) then 1 else (bif (!(cK r.value)) then 1 else 0))))
def cy (q:ay) (l_:List az):Nat→Nat→Int→Int
 | 0,_,Ct=>Ct
 | d_+1,i0,Ct=>(bif (decide (Ct=0)) then cy q l_ d_ (i0+1) (dV q (l_.g i0)) else Ct)
def cz (q:ay) (l_:List az):Int:=(bif (decide ((aE q)=0)) then (bif (decide (64<((l_.length:Nat):Int))) then (cy q l_ l_.length 0 3) else (cy q l_ l_.length 0 (aE q))) else (cy q l_ l_.length 0 (aE q)))
theorem hT {c:Bool} {a b:Int} (ha:a≠0) (h:(bif c then a else b)=0):c=false∧b=0:=by
 cases c with
 | true=>exact absurd h ha
 | false=>exact ⟨rfl,h⟩
theorem Cu (q:ay) (l:List az):∀(k i:Nat) (v:Int),v≠0→cy q l k i v=v
 | 0,_,_,_=>rfl
 | k+1,i,v,h=>by rw[cy,decide_eq_false h];rfl
theorem vM (q:ay) (l:List az):∀(k i:Nat) (v:Int),cy q l k i v=0→v=0∧∀j,i≤j→j<i+k→dV q (l.g j)=0
 | 0,i,v,h=>⟨h,fun j a b=>by omega⟩
 | k+1,i,v,h=>by
   rw[cy] at h
   by_cases e:v=0
   · rw[decide_eq_true e,ao] at h
     obtain ⟨h1,h2⟩:=vM q l k (i+1) _ h
     refine ⟨e,fun j a b=>?_⟩
     by_cases ej:j=i
     · rw[ej];exact h1
     · exact h2 j o! o!
   · rw[decide_eq_false e] at h;exact absurd h e
theorem LQ {q:ay} (h:aE q=0):q.af.length≤8:=by
 rw[aE] at h
 obtain ⟨_,h⟩:=hT (by decide) h
 obtain ⟨_,h⟩:=hT (by decide) h
 obtain ⟨_,h⟩:=hT (by decide) h
 obtain ⟨_,h⟩:=hT (by decide) h
 obtain ⟨_,h⟩:=hT (by decide) h
 obtain ⟨_,h⟩:=hT (by decide) h
 obtain ⟨_,h⟩:=hT (by decide) h
 obtain ⟨_,h⟩:=hT (by decide) h
 obtain ⟨h1,_⟩:=hT (by decide) h
 have:=of_decide_eq_false h1
 omega
theorem Cv {q:ay} {l:List az} (h:cz q l=0):(∀i,i<l.length→0≤(l.g i).aD∧(l.g i).aD<(q.af.length:Int))∧l.length≤64∧q.af.length≤8:=by
 rw[cz] at h
 by_cases e:aE q=0
 · rw[decide_eq_true e,ao] at h
   by_cases e2:(64:Int)<((l.length:Nat):Int)
   · rw[decide_eq_true e2,ao] at h
     exact absurd (vM q l _ _ _ h).1 (by decide)
   · rw[decide_eq_false e2,ai] at h
     refine ⟨fun i hi=>?_,by omega,LQ e⟩
     have k:=(vM q l _ _ _ h).2 i (Nat.zero_le _) o!
     rw[dV] at k
     obtain ⟨k1,k⟩:=hT (by decide) k
     obtain ⟨k2,_⟩:=hT (by decide) k
     have:=of_decide_eq_false k1;have:=of_decide_eq_false k2
     omega
 · rw[decide_eq_false e,ai] at h
   exact absurd (vM q l _ _ _ h).1 e
def xu (a:Span):Bool:=(decide (a.aG<a.aX))
def pI (q:ay) (k_:di) (t:Int):Span:=(bif (decide (k_.time≤t)) then (⟨(IntKind.i64.wrap (k_.ax -(IntKind.i64.wrap (q.aK*(IntKind.i64.wrap (t - k_.time)))))),(IntKind.i64.wrap (k_.ar+(IntKind.i64.wrap (q.aI*(IntKind.i64.wrap (t - k_.time))))))⟩:Span) else (⟨(IntKind.i64.wrap (k_.ax -(IntKind.i64.wrap (q.aI*(IntKind.i64.wrap (k_.time - t)))))),(IntKind.i64.wrap (k_.ar+(IntKind.i64.wrap (q.aK*(IntKind.i64.wrap (k_.time - t))))))⟩:Span))
def zf (a:Span) (b:Span):Span:=(⟨(imax a.aX b.aX),(rX a.aG b.aG)⟩:Span)
def oK (l_:List di) (q:ay) (i0:Nat):Nat→Nat→Option (Bool)
 | 0,_=>none
 | bF+1,i1=>(bif (xu (zf (pI q (l_.g i0) (l_.g i1).time) (⟨(l_.g i1).ax,(l_.g i1).ar⟩:Span))) then some false else oK l_ q i0 bF (i1+1))
def oM (l_:List di) (q:ay):Nat→Nat→Option (Bool)
 | 0,_=>none
 | d_+1,i0=>(match (oK l_ q i0 l_.length 0) with | none=>oM l_ q d_ (i0+1) | some rr3=>some rr3)
def xw (q:ay) (l_:List di):Bool:=(match (oM l_ q l_.length 0) with | none=>true | some PC=>PC)
def mr (q:ay) (l_:List di) (t:Int):Nat→Nat→Int→Int→Int×Int
 | 0,_,ui,uj=>(ui,uj)
 | d_+1,i0,ui,uj=>mr q l_ t d_ (i0+1) (zf (⟨ui,uj⟩:Span) (pI q (l_.g i0) t)).aX (zf (⟨ui,uj⟩:Span) (pI q (l_.g i0) t)).aG
def vN (q:ay) (l_:List di) (t:Int):Span:=(⟨(mr q l_ t (l_.length - 1) 1 (pI q (l_.g 0) t).aX (pI q (l_.g 0) t).aG).1,(mr q l_ t (l_.length - 1) 1 (pI q (l_.g 0) t).aX (pI q (l_.g 0) t).aG).2⟩:Span)
def cN (l_:List Span):Nat→Nat→List Span→Bool→Int→Int→List Span×Bool×Int×Int
 | 0,_,Ct,nt,kO,kP=>(Ct,nt,kO,kP)
 | d_+1,i0,Ct,nt,kO,kP=>(bif (decide ((IntKind.i64.wrap (((l_.g i0).aG)+1))<kO)) then cN l_ d_ (i0+1) (Ct++[(l_.g i0)]) nt kO kP else (bif (decide ((IntKind.i64.wrap (kP+1))<((l_.g i0).aX))) then (bif (!nt) then cN l_ d_ (i0+1) ((Ct++[(⟨kO,kP⟩:Span)])++[(l_.g i0)]) true kO kP else cN l_ d_ (i0+1) (Ct++[(l_.g i0)]) nt kO kP) else cN l_ d_ (i0+1) Ct nt (rX kO (l_.g i0).aX) (imax kP (l_.g i0).aG)))
def Jz (l_:List Span) (x_:Span):List Span:=(bif (!((cN l_ l_.length 0 ([]:List Span) false x_.aX x_.aG).2.1)) then (((cN l_ l_.length 0 ([]:List Span) false x_.aX x_.aG).1)++([(⟨(cN l_ l_.length 0 ([]:List Span) false x_.aX x_.aG).2.2.1,(cN l_ l_.length 0 ([]:List Span) false x_.aX x_.aG).2.2.2⟩:Span)])) else (cN l_ l_.length 0 ([]:List Span) false x_.aX x_.aG).1)

def ae (k:IntKind) (a b:Int):Int:=k.wrap ((BitVec.ofInt k.bits a&&& BitVec.ofInt k.bits b).toNat:Nat)
def Wb (k:IntKind) (a b:Int):Int:=k.wrap ((BitVec.ofInt k.bits a||| BitVec.ofInt k.bits b).toNat:Nat)
def aq (k:IntKind) (x y:Int):Int:=x.fdiv (2^(min y.toNat k.bits))
def qk (k:IntKind) (x y:Int):Int:=k.wrap (x*2^(min y.toNat k.bits))
def aw (k:IntKind) (x y:Int):Int:=k.wrap (x+y)
theorem lG (t:TypeId) (c d:Bool) (k:IntKind) (a b:Int):cF env .and t c d (some (.int k a)) (some (.int k b))=some (.int k (ae k a b)):=by simp [cF,jI,cP,ae]
theorem XS (t:TypeId) (c d:Bool) (k:IntKind) (a b:Int):cF env .or t c d (some (.int k a)) (some (.int k b))=some (.int k (Wb k a b)):=by simp [cF,jI,cP,Wb]
theorem ql (t:TypeId) (c d:Bool) (k:IntKind) (a b:Int):cF env .add t c d (some (.int k a)) (some (.int k b))=some (.int k (aw k a b)):=by simp [cF,jI,cP,aw]
theorem mQ (t:TypeId) (c d:Bool) (k j:IntKind) {a b:Int} (h:0≤b):cF env .shr t c d (some (.int k a)) (some (.int j b))=some (.int k (aq k a b)):=by
 have h':¬b<0:=by omega
 simp [cF,jI,aq,h']
theorem Td (t:TypeId) (c d:Bool) (k j:IntKind) {a b:Int} (h:0≤b):cF env .shl t c d (some (.int k a)) (some (.int j b))=some (.int k (qk k a b)):=by
 have h':¬b<0:=by omega
 simp [cF,jI,qk,h']
def Cw (set:Int) (aD:Int):Bool:=(decide ((ae .i64 (aq .i64 set aD) 1)=1))
def g_ (l_:List az) (q:ay) (set:Int):Nat→Nat→List di→List di
 | 0,_,iY=>iY
 | d_+1,i0,iY=>(bif (!(Cw set (l_.g i0).aD)) then g_ l_ q set d_ (i0+1) (iY++[(⟨(l_.g i0).time,(IntKind.i64.wrap ((l_.g i0).value -(dy (q.af.g (l_.g i0).aD.toNat) (l_.g i0).time))),(IntKind.i64.wrap (((l_.g i0).value)+(dy (q.af.g (l_.g i0).aD.toNat) (l_.g i0).time)))⟩:di)]) else g_ l_ q set d_ (i0+1) iY)
def iK (q:ay) (l_:List az) (set:Int):List di:=(g_ l_ q set l_.length 0 ([(⟨0,q.aj,q.ah⟩:di)]))
def EU (set:Int):Nat→Nat→Int→Int
 | 0,_,r5=>r5
 | d_+1,i0,r5=>EU set d_ (i0+1) (IntKind.i64.wrap (r5+(ae .i64 (aq .i64 set ((i0:Nat):Int)) 1)))
def LS (set:Int):Int:=(EU set (Int.toNat 8) 0 0)

theorem oN (l:List az) (q:ay) (s:Int):∀(k i:Nat) (v:List di),v.length≤(g_ l q s k i v).length
 | 0,_,_=>Nat.le_refl _
 | k+1,i,v=>by
   rw[g_]
   cases Cw s (l.g i).aD with
   | true=>exact oN l q s k (i+1) v
   | false=>exact Nat.le_trans (by rw[List.length_append];exact Nat.le_add_right _ _) (oN l q s k (i+1) _)
theorem EV (q:ay) (l:List az) (s:Int):0<(iK q l s).length:=Nat.lt_of_lt_of_le Nat.one_pos (oN l q s l.length 0 [(⟨0,q.aj,q.ah⟩:di)])
def eG (q:ay) (l_:List az) (t:Int):Nat→Nat→List Span→List Span
 | 0,_,iY=>iY
 | d_+1,i0,iY=>(bif (decide (q.bad<(LS ((i0:Nat):Int)))) then eG q l_ t d_ (i0+1) iY else (bif (xw q (iK q l_ ((i0:Nat):Int))) then eG q l_ t d_ (i0+1) (Jz iY (vN q (iK q l_ ((i0:Nat):Int)) t)) else eG q l_ t d_ (i0+1) iY))
def rl (q:ay) (l_:List az) (t:Int):List Span:=(eG q l_ t (qk .i64 1 ((q.af.length:Nat):Int)).toNat 0 ([]:List Span))
def we (l:List Span) (x:Int):Prop:=∃s∈l,s.aX≤x∧x≤s.aG
inductive Canon:List Span→Prop
 | nil:Canon []
 | one (s:Span):s.aX≤s.aG→Canon [s]
 | cons (s r:Span) (l:List Span):s.aX≤s.aG→s.aG+1<r.aX→Canon (r::l)→Canon (s::r::l)
theorem Canon.tail {s:Span} {l:List Span} (c:Canon (s::l)):Canon l:=by
 cases c with
 | one=>exact .nil
 | cons _ _ _ _ _ c=>exact c
theorem Canon.head {s:Span} {l:List Span} (c:Canon (s::l)):s.aX≤s.aG:=by cases c<;>assumption
theorem Canon.beyond {l:List Span}:∀{s:Span},Canon (s::l)→∀r∈l,s.aG+1<r.aX:=by
 induction l with
 | nil=>intro s _ r hr;cases hr
 | cons a l ih=>
   intro s c r hr
   cases c with
   | cons _ _ _ h1 h2 c=>
     rcases List.mem_cons.1 hr with rfl | hr
     · exact h2
     · have:=ih c r hr;have:=c.head;omega
theorem Canon.mk {s:Span} {l:List Span} (h:s.aX≤s.aG) (b:∀r∈l,s.aG+1<r.aX) (c:Canon l):Canon (s::l):=by
 cases l with
 | nil=>exact .one s h
 | cons a l=>exact .cons s a l h (b a (List.mem_cons_self ..)) c
theorem eK {s:Span} {l:List Span} {x:Int}:we (s::l) x↔(s.aX≤x∧x≤s.aG)∨we l x:=by
 constructor
 · rintro ⟨r,hr,h⟩
   rcases List.mem_cons.1 hr with rfl | hr
   · exact .inl h
   · exact .inr ⟨r,hr,h⟩
 · rintro (h | ⟨r,hr,h⟩)
   · exact ⟨s,List.mem_cons_self ..,h⟩
   · exact ⟨r,List.mem_cons_of_mem _ hr,h⟩
theorem Bk {x:Int}:¬we [] x:=by rintro ⟨_,h,_⟩;cases h
theorem Canon.ends {s:Span} {l:List Span} (c:Canon (s::l)):we (s::l) s.aX∧we (s::l) s.aG∧¬we (s::l) (s.aG+1)∧∀x,x<s.aX→¬we (s::l) x:=by
 have hh:=c.head
 have hb:=c.beyond
 refine ⟨eK.2 (.inl ⟨Int.le_refl _,hh⟩),eK.2 (.inl ⟨hh,Int.le_refl _⟩),fun h=>?_,fun x hx h=>?_⟩
 · rcases eK.1 h with h | ⟨r,hr,h⟩
   · omega
   · have:=hb r hr;omega
 · rcases eK.1 h with h | ⟨r,hr,h⟩
   · omega
   · have:=hb r hr;omega
theorem Tf {a b:Span} (h1:a.aX=b.aX) (h2:a.aG=b.aG):a=b:=by
 cases a;cases b;simp only at h1 h2;rw[h1,h2]
theorem Cy:∀{l m:List Span},Canon l→Canon m→(∀x,we l x↔we m x)→l=m
 | [],[],_,_,_=>rfl
 | [],r::m,_,c,h=>absurd ((h r.aX).2 c.ends.1) Bk
 | s::l,[],c,_,h=>absurd ((h s.aX).1 c.ends.1) Bk
 | s::l,r::m,c,d,h=>by
   obtain ⟨c1,c2,c3,c4⟩:=c.ends
   obtain ⟨d1,d2,d3,d4⟩:=d.ends
   have lo:s.aX=r.aX:=by
    have a:¬s.aX<r.aX:=fun q=>d4 _ q ((h _).1 c1)
    have b:¬r.aX<s.aX:=fun q=>c4 _ q ((h _).2 d1)
    omega
   have hi:s.aG=r.aG:=by
    have hs:=c.head;have hr:=d.head
    have a:¬s.aG<r.aG:=fun q=>c3 ((h _).2 (eK.2 (.inl ⟨by omega,by omega⟩)))
    have b:¬r.aG<s.aG:=fun q=>d3 ((h _).1 (eK.2 (.inl ⟨by omega,by omega⟩)))
    omega
   have e:=Tf lo hi
   subst e
   rw[Cy c.tail d.tail fun x=>?_]
   have hx:=h x
   rw[eK,eK] at hx
   have cb:=c.beyond;have db:=d.beyond
   constructor
   · intro q
     rcases hx.1 (.inr q) with w | w
     · obtain ⟨r,hr,w2⟩:=q;have:=cb r hr;omega
     · exact w
   · intro q
     rcases hx.2 (.inr q) with w | w
     · obtain ⟨r,hr,w2⟩:=q;have:=db r hr;omega
     · exact w
def NX:List Span→Int→Int→List Span
 | [],a,b=> [⟨a,b⟩]
 | s::R,a,b=>if s.aG+1<a then s::NX R a b else if b+1<s.aX then ⟨a,b⟩::s::R else NX R (min a s.aX) (max b s.aG)
theorem Cz:∀{l:List Span} {a b:Int},Canon l→a≤b→Canon (NX l a b)∧(∀x,we (NX l a b) x↔we l x∨(a≤x∧x≤b))∧∀s∈NX l a b,a≤s.aX∨∃r∈l,r.aX≤s.aX
 | [],a,b,_,h=>by
   refine ⟨.one _ h,fun x=>?_,fun s hs=>?_⟩
   · rw[NX,eK];simp [Bk]
   · rw[NX,List.mem_singleton] at hs;subst hs;exact .inl (Int.le_refl _)
 | s::R,a,b,c,h=>by
   have hs:=c.head;have hb:=c.beyond
   rw[NX]
   split
   · rename_i q
     obtain ⟨i1,i2,i3⟩:=Cz (a:=a) (b:=b) c.tail h
     refine ⟨Canon.mk hs (fun r hr=>?_) i1,fun x=>?_,fun r hr=>?_⟩
     · rcases i3 r hr with w | ⟨r',Ig,w⟩
       · omega
       · have:=hb r' Ig;omega
     · rw[eK,i2,eK,or_assoc]
     · rcases List.mem_cons.1 hr with rfl | hr
       · exact .inr ⟨r,List.mem_cons_self ..,Int.le_refl _⟩
       · rcases i3 r hr with w | ⟨r',Ig,w⟩
         · exact .inl w
         · exact .inr ⟨r',List.mem_cons_of_mem _ Ig,w⟩
   · split
     · rename_i q1 q2
       refine ⟨.cons _ _ _ h q2 c,fun x=>?_,fun r hr=>?_⟩
       · rw[eK];exact Or.comm
       · rcases List.mem_cons.1 hr with rfl | hr
         · exact .inl (Int.le_refl _)
         · exact .inr ⟨r,hr,Int.le_refl _⟩
     · rename_i q1 q2
       obtain ⟨i1,i2,i3⟩:=Cz (l:=R) (a:=min a s.aX) (b:=max b s.aG) c.tail o!
       refine ⟨i1,fun x=>?_,fun r hr=>?_⟩
       · rw[i2,eK]
         constructor
         · rintro (w | w)
           · exact .inl (.inr w)
           · by_cases e:a≤x∧x≤b
             · exact .inr e
             · exact .inl (.inl ⟨by omega,by omega⟩)
         · rintro ((w | w) | w)
           · exact .inr ⟨by omega,by omega⟩
           · exact .inl w
           · exact .inr ⟨by omega,by omega⟩
       · rcases i3 r hr with w | ⟨r',Ig,w⟩
         · by_cases e:a≤s.aX
           · exact .inl o!
           · exact .inr ⟨s,List.mem_cons_self ..,by omega⟩
         · exact .inr ⟨r',List.mem_cons_of_mem _ Ig,w⟩
def QS:Span→List Span→List Span
 | c,[]=> [c]
 | c,s::R=>if s.aX≤c.aG+1 then QS ⟨c.aX,max c.aG s.aG⟩ R else c::QS s R
theorem CA:∀{l:List Span} {c:Span},c.aX≤c.aG→(∀s∈l,s.aX≤s.aG)→(∀s∈l,c.aX≤s.aX)→List.Pairwise (fun s r:Span=>s.aX≤r.aX) l→
 Canon (QS c l)∧(∀x,we (QS c l) x↔(c.aX≤x∧x≤c.aG)∨we l x)∧∀s∈QS c l,c.aX≤s.aX
 | [],c,h,_,_,_=>by
   refine ⟨.one _ h,fun x=>?_,fun s hs=>?_⟩
   · rw[QS,eK]
   · rw[QS,List.mem_singleton] at hs;subst hs;exact Int.le_refl _
 | s::R,c,h,hn,hc,hp=>by
   have h1:=hn s (List.mem_cons_self ..);have h2:=hc s (List.mem_cons_self ..)
   obtain ⟨p1,p2⟩:=List.pairwise_cons.1 hp
   rw[QS]
   split
   · rename_i q
     obtain ⟨i1,i2,i3⟩:=CA (l:=R) (c:=⟨c.aX,max c.aG s.aG⟩) (by show c.aX≤max c.aG s.aG;omega) (fun r hr=>hn r (List.mem_cons_of_mem _ hr)) (fun r hr=>hc r (List.mem_cons_of_mem _ hr)) p2
     refine ⟨i1,fun x=>?_,i3⟩
     rw[i2,eK]
     show (c.aX≤x∧x≤max c.aG s.aG)∨we R x↔_
     constructor
     · rintro (w | w)
       · by_cases e:x≤c.aG
         · exact .inl ⟨w.1,e⟩
         · exact .inr (.inl ⟨by omega,by omega⟩)
       · exact .inr (.inr w)
     · rintro (w | w | w)
       · exact .inl ⟨w.1,by omega⟩
       · exact .inl ⟨by omega,by omega⟩
       · exact .inr w
   · rename_i q
     obtain ⟨i1,i2,i3⟩:=CA (l:=R) (c:=s) h1 (fun r hr=>hn r (List.mem_cons_of_mem _ hr)) p1 p2
     refine ⟨Canon.mk h (fun r hr=>?_) i1,fun x=>?_,fun r hr=>?_⟩
     · have:=i3 r hr;omega
     · rw[eK,i2,eK]
     · rcases List.mem_cons.1 hr with rfl | hr
       · exact Int.le_refl _
       · have:=i3 r hr;omega
theorem uk (x y:Int):rX x y=min x y:=by unfold rX;split<;>omega
theorem um (x y:Int):imax x y=max x y:=by unfold imax;split<;>omega
def Bd (s:Span):Prop:= -4611686018427387904≤s.aX∧s.aX≤4611686018427387904∧-4611686018427387904≤s.aG∧s.aG≤4611686018427387904
theorem LV {α:Type} [Inhabited α] {l:List α} {i:Nat} (h:i<l.length):l.drop i=l.g i::l.drop (i+1):=by
 rw[List.drop_eq_getElem_cons h,List.g,List.getD_eq_getElem?_getD,List.getElem?_eq_getElem h];rfl
theorem Tg {l:List Span} {a b:Int}:∀(k i:Nat) (o:List Span),i+k=l.length→(∀s∈l.drop i,b+1<s.aX)→(∀s∈l.drop i,Bd s)→-4611686018427387904≤b→b≤4611686018427387904→cN l k i o true a b=(o++l.drop i,true,a,b)
 | 0,i,o,h,_,_,_,_=>by rw[cN,List.drop_eq_nil_of_le o!,List.append_nil]
 | k+1,i,o,h,hb,hd,b1,b2=>by
   have e:=LV (l:=l) (i:=i) o!
   rw[e] at hb hd
   have ih:=Tg (l:=l) (a:=a) (b:=b) k (i+1) (o++[l.g i]) o! (fun s hs=>hb s (List.mem_cons_of_mem _ hs)) (fun s hs=>hd s (List.mem_cons_of_mem _ hs)) b1 b2
   have h1:=hb _ (List.mem_cons_self ..)
   rw[cN,wrap_i64 (n:=b+1) o! o!,decide_eq_true h1,ih,e,List.append_assoc,List.singleton_append]
   cases decide (IntKind.i64.wrap ((l.g i).aG+1)<a)<;>rfl
def fin (r:List Span×Bool×Int×Int):List Span:=bif !r.2.1 then r.1++[(⟨r.2.2.1,r.2.2.2⟩:Span)] else r.1
theorem LW {l:List Span}:∀(k i:Nat) (o:List Span) (a b:Int),i+k=l.length→Canon (l.drop i)→(∀s∈l.drop i,Bd s)→a≤b→Bd ⟨a,b⟩→fin (cN l k i o false a b)=o++NX (l.drop i) a b
 | 0,i,o,a,b,h,_,_,_,_=>by rw[cN,List.drop_eq_nil_of_le o!];rfl
 | k+1,i,o,a,b,h,hc,hd,hab,⟨b1,b2,b3,b4⟩=>by
   have e:=LV (l:=l) (i:=i) o!
   rw[e] at hc hd ⊢
   obtain ⟨d1,d2,d3,d4⟩:=hd _ (List.mem_cons_self ..)
   simp only at b1 b2 b3 b4
   rw[cN,wrap_i64 (n:=(l.g i).aG+1) o! o!,wrap_i64 (n:=b+1) o! o!,NX]
   by_cases q1:(l.g i).aG+1<a
   · rw[decide_eq_true q1,if_pos q1]
     show fin (cN l k (i+1) (o++[l.g i]) false a b)=_
     rw[LW k (i+1) _ a b o! hc.tail (fun s hs=>hd s (List.mem_cons_of_mem _ hs)) hab ⟨b1,b2,b3,b4⟩,List.append_assoc,List.singleton_append]
   · rw[decide_eq_false q1,if_neg q1]
     by_cases q2:b+1<(l.g i).aX
     · rw[decide_eq_true q2,if_pos q2]
       show fin (cN l k (i+1) ((o++[(⟨a,b⟩:Span)])++[l.g i]) true a b)=_
       have hh:=hc.head
       rw[Tg k (i+1) _ o! (fun s hs=>by have:=hc.beyond s hs;omega) (fun s hs=>hd s (List.mem_cons_of_mem _ hs)) b3 b4]
       show ((o++[(⟨a,b⟩:Span)])++[l.g i])++l.drop (i+1)=_
       simp
     · rw[decide_eq_false q2,if_neg q2]
       show fin (cN l k (i+1) o false (rX a (l.g i).aX) (imax b (l.g i).aG))=_
       rw[uk,um]
       exact LW k (i+1) o _ _ o! hc.tail (fun s hs=>hd s (List.mem_cons_of_mem _ hs)) (by have:=hc.head;omega) ⟨by simp only;omega,by simp only;omega,by simp only;omega,by simp only;omega⟩
theorem PE {l:List Span} {x:Span} (hc:Canon l) (hd:∀s∈l,Bd s) (hx:x.aX≤x.aG) (hb:Bd x):Jz l x=NX l x.aX x.aG:=by
 have h:=LW (l:=l) l.length 0 [] x.aX x.aG o! (by rw[List.drop_zero];exact hc) (by rw[List.drop_zero];exact hd) hx hb
 rw[List.drop_zero,List.nil_append] at h
 exact h
theorem LX:∀{l:List Span} {a b:Int},(∀s∈l,Bd s)→Bd ⟨a,b⟩→∀s∈NX l a b,Bd s
 | [],a,b,_,h,s,hs=>by rw[NX,List.mem_singleton] at hs;subst hs;exact h
 | r::R,a,b,hd,h,s,hs=>by
   have hr:=hd r (List.mem_cons_self ..);have hR:=fun q hq=>hd q (List.mem_cons_of_mem r hq)
   rw[NX] at hs
   split at hs
   · rcases List.mem_cons.1 hs with rfl | hs
     · exact hr
     · exact LX hR h s hs
   · split at hs
     · rcases List.mem_cons.1 hs with rfl | hs
       · exact h
       · exact hd s hs
     · obtain ⟨a1,a2,a3,a4⟩:=h;obtain ⟨c1,c2,c3,c4⟩:=hr
       simp only at a1 a2 a3 a4
       exact LX hR ⟨by simp only;omega,by simp only;omega,by simp only;omega,by simp only;omega⟩ s hs
def gM (f r:Int) (k:di) (t:Int):Span:=if k.time≤t then ⟨k.ax - f*(t - k.time),k.ar+r*(t - k.time)⟩ else ⟨k.ax - r*(k.time - t),k.ar+f*(k.time - t)⟩
def KB (k:di):Prop:=(0≤k.time∧k.time≤100000)∧-1000000000000≤k.ax∧k.ax≤1000000000000∧-1000000000000≤k.ar∧k.ar≤1000000000000
theorem ji {f x:Int} (h0:0≤f) (h1:f≤10000) (h2:0≤x) (h3:x≤100000):0≤f*x∧f*x≤1000000000:=by
 refine ⟨Int.mul_nonneg h0 h2,?_⟩
 calc f*x≤10000*x:=Int.mul_le_mul_of_nonneg_right h1 h2
  _≤1000000000:=by omega
theorem xy {q:ay} {k:di} {t:Int} (f0:0≤q.aK) (f1:q.aK≤10000) (r0:0≤q.aI) (r1:q.aI≤10000) (hk:KB k) (t0:0≤t) (t1:t≤100000):pI q k t=gM q.aK q.aI k t∧Bd (gM q.aK q.aI k t):=by
 obtain ⟨⟨a,b⟩,c,d,e,g⟩:=hk
 rw[pI,gM]
 by_cases h:k.time≤t
 · obtain ⟨m1,m2⟩:=ji f0 f1 (x:=t - k.time) o! o!
   obtain ⟨m3,m4⟩:=ji r0 r1 (x:=t - k.time) o! o!
   rw[decide_eq_true h,if_pos h,ao,wrap_i64 (n:=t - k.time) o! o!,wrap_i64 (n:=q.aK*(t - k.time)) o! o!,wrap_i64 (n:=q.aI*(t - k.time)) o! o!,wrap_i64 (n:=k.ax - q.aK*(t - k.time)) o! o!,wrap_i64 (n:=k.ar+q.aI*(t - k.time)) o! o!]
   exact ⟨rfl,by simp only;omega,by simp only;omega,by simp only;omega,by simp only;omega⟩
 · obtain ⟨m1,m2⟩:=ji f0 f1 (x:=k.time - t) o! o!
   obtain ⟨m3,m4⟩:=ji r0 r1 (x:=k.time - t) o! o!
   rw[decide_eq_false h,if_neg h,ai,wrap_i64 (n:=k.time - t) o! o!,wrap_i64 (n:=q.aI*(k.time - t)) o! o!,wrap_i64 (n:=q.aK*(k.time - t)) o! o!,wrap_i64 (n:=k.ax - q.aI*(k.time - t)) o! o!,wrap_i64 (n:=k.ar+q.aK*(k.time - t)) o! o!]
   exact ⟨rfl,by simp only;omega,by simp only;omega,by simp only;omega,by simp only;omega⟩
def ou (f r:Int) (K:List di):Prop:=∀i∈K,∀k∈K,max (gM f r i k.time).aX k.ax≤min (gM f r i k.time).aG k.ar
theorem CB {f r:Int} {K:List di} (h:ou f r K) {i k:di} (hi:i∈K) (hk:k∈K):(gM f r i k.time).aX≤k.ar∧k.ax≤(gM f r i k.time).aG∧k.ax≤k.ar:=by
 have:=h i hi k hk;omega
theorem CD {f r:Int} {K:List di} (f0:0≤f) (r0:0≤r) (h:ou f r K) (t:Int) {i k:di} (hi:i∈K) (hk:k∈K):(gM f r i t).aX≤(gM f r k t).aG:=by
 obtain ⟨a1,a2,a3⟩:=CB h hi hk
 obtain ⟨b1,b2,b3⟩:=CB h hk hi
 have M:∀(c x y:Int),0≤c→x≤y→c*x≤c*y:=fun c x y hc hx=>Int.mul_le_mul_of_nonneg_left hx hc
 unfold gM at a1 a2 b1 b2 ⊢
 split at a1<;>split at b1<;>split<;>split<;>simp only[Int.mul_sub] at * <;>first
  | omega
  | (have:=M f i.time k.time f0;have:=M f k.time i.time f0;have:=M r i.time k.time r0;have:=M r k.time i.time r0
     have:=M f i.time t f0;have:=M f t i.time f0;have:=M f k.time t f0;have:=M f t k.time f0
     have:=M r i.time t r0;have:=M r t i.time r0;have:=M r k.time t r0;have:=M r t k.time r0
     omega)
theorem abd {α:Type} [Inhabited α] {l:List α} {P:α→Prop}:(∀x∈l,P x)↔∀i,i<l.length→P (l.g i):=by
 constructor
 · intro h i hi;exact h _ (by rw[List.g,List.getD_eq_getElem?_getD,List.getElem?_eq_getElem hi];exact List.getElem_mem hi)
 · intro h x hx
   obtain ⟨i,hi,rfl⟩:=List.mem_iff_getElem.1 hx
   have:=h i hi
   rwa [List.g,List.getD_eq_getElem?_getD,List.getElem?_eq_getElem hi] at this
def rm (q:ay) (l:List di) (i j:Nat):Bool:=xu (zf (pI q (l.g i) (l.g j).time) (⟨(l.g j).ax,(l.g j).ar⟩:Span))
theorem Zy (l:List di) (q:ay) (i0:Nat):∀(k i:Nat),(oK l q i0 k i=none∧∀j,i≤j→j<i+k→rm q l i0 j=false)∨(oK l q i0 k i=some false∧∃j,i≤j∧j<i+k∧rm q l i0 j=true)
 | 0,i=> .inl ⟨rfl,fun j a b=>by omega⟩
 | k+1,i=>by
   rw[oK]
   show ((bif rm q l i0 i then some false else _)=none∧_)∨_
   cases e:rm q l i0 i with
   | true=>exact .inr ⟨by rw[show xu _=true from e];rfl,i,Nat.le_refl _,by omega,e⟩
   | false=>
     rw[show xu _=false from e]
     rcases Zy l q i0 k (i+1) with ⟨h1,h2⟩ | ⟨h1,j,h2,h3,h4⟩
     · refine .inl ⟨h1,fun j a b=>?_⟩
       by_cases ej:j=i
       · rw[ej];exact e
       · exact h2 j o! o!
     · exact .inr ⟨h1,j,by omega,by omega,h4⟩
theorem Zz (l:List di) (q:ay):∀(k i:Nat),(oM l q k i=none∧∀j,i≤j→j<i+k→∀m,m<l.length→rm q l j m=false)∨(oM l q k i=some false∧∃j m,i≤j∧j<i+k∧m<l.length∧rm q l j m=true)
 | 0,i=> .inl ⟨rfl,fun j a b=>by omega⟩
 | k+1,i=>by
   rw[oM]
   rcases Zy l q i l.length 0 with ⟨h1,h2⟩ | ⟨h1,m,_,h3,h4⟩
   · rw[h1]
     rcases Zz l q k (i+1) with ⟨h5,h6⟩ | ⟨h5,j,m,h6,h7,h8,h9⟩
     · refine .inl ⟨h5,fun j a b m hm=>?_⟩
       by_cases ej:j=i
       · rw[ej];exact h2 m (Nat.zero_le _) o!
       · exact h6 j o! o! m hm
     · exact .inr ⟨h5,j,m,by omega,by omega,h8,h9⟩
   · rw[h1];exact .inr ⟨rfl,i,m,Nat.le_refl _,by omega,by omega,h4⟩
section
variable {q:ay} (f0:0≤q.aK) (f1:q.aK≤10000) (r0:0≤q.aI) (r1:q.aI≤10000) {l:List di} (hl:∀k∈l,KB k)
include f0 f1 r0 r1 hl
theorem JA {i j:Nat} (hi:i<l.length) (hj:j<l.length):rm q l i j=false↔max (gM q.aK q.aI (l.g i) (l.g j).time).aX (l.g j).ax≤min (gM q.aK q.aI (l.g i) (l.g j).time).aG (l.g j).ar:=by
 have kj:=hl _ (lB hj)
 rw[rm,(xy f0 f1 r0 r1 (hl _ (lB hi)) kj.1.1 kj.1.2).1,xu,zf]
 simp only[uk,um,decide_eq_false_iff_not,Int.not_lt]
theorem JB:xw q l=true↔ou q.aK q.aI l:=by
 have key:ou q.aK q.aI l↔∀i,i<l.length→∀j,j<l.length→rm q l i j=false:=by
  unfold ou
  constructor
  · intro h i hi j hj;exact (JA f0 f1 r0 r1 hl hi hj).2 (h _ (lB hi) _ (lB hj))
  · intro h
    rw[abd];intro i hi;rw[abd];intro j hj
    exact (JA f0 f1 r0 r1 hl hi hj).1 (h i hi j hj)
 rw[key,xw]
 rcases Zz l q l.length 0 with ⟨h1,h2⟩ | ⟨h1,j,m,h2,h3,h4,h5⟩
 · rw[h1];exact ⟨fun _ i hi j hj=>h2 i (Nat.zero_le _) o! j hj,fun _=>rfl⟩
 · rw[h1]
   refine ⟨fun h=>(by cases h),fun h=>?_⟩
   rw[h j o! m h4] at h5;cases h5
variable {t:Int} (t0:0≤t) (t1:t≤100000)
include t0 t1
theorem ZA:∀(k i:Nat) (a b:Int),i+k=l.length→(∃c∈l,a=(gM q.aK q.aI c t).aX)→(∃c∈l,b=(gM q.aK q.aI c t).aG)→
 (∃c∈l,(mr q l t k i a b).1=(gM q.aK q.aI c t).aX)∧(∃c∈l,(mr q l t k i a b).2=(gM q.aK q.aI c t).aG)∧a≤(mr q l t k i a b).1∧(mr q l t k i a b).2≤b∧∀j,i≤j→j<l.length→(gM q.aK q.aI (l.g j) t).aX≤(mr q l t k i a b).1∧(mr q l t k i a b).2≤(gM q.aK q.aI (l.g j) t).aG
 | 0,i,a,b,h,ha,hb=>⟨ha,hb,Int.le_refl _,Int.le_refl _,fun j p q=>by omega⟩
 | k+1,i,a,b,h,ha,hb=>by
   have hi:i<l.length:=by omega
   rw[mr,(xy f0 f1 r0 r1 (hl _ (lB hi)) t0 t1).1,zf]
   simp only[uk,um]
   obtain ⟨x1,x2,x3,x4,x5⟩:=ZA k (i+1) (max a (gM q.aK q.aI (l.g i) t).aX) (min b (gM q.aK q.aI (l.g i) t).aG) o!
    (by
     by_cases e:a≤(gM q.aK q.aI (l.g i) t).aX
     · exact ⟨_,lB hi,by omega⟩
     · obtain ⟨c,h1,h2⟩:=ha;exact ⟨c,h1,by omega⟩)
    (by
     by_cases e:(gM q.aK q.aI (l.g i) t).aG≤b
     · exact ⟨_,lB hi,by omega⟩
     · obtain ⟨c,h1,h2⟩:=hb;exact ⟨c,h1,by omega⟩)
   refine ⟨x1,x2,by omega,by omega,fun j p q'=>?_⟩
   by_cases e:j=i
   · subst e;exact ⟨by omega,by omega⟩
   · exact x5 j o! q'
theorem aeb (hn:0<l.length):(∃c∈l,(vN q l t).aX=(gM q.aK q.aI c t).aX)∧(∃c∈l,(vN q l t).aG=(gM q.aK q.aI c t).aG)∧∀c∈l,(gM q.aK q.aI c t).aX≤(vN q l t).aX∧(vN q l t).aG≤(gM q.aK q.aI c t).aG:=by
 have e0:=(xy f0 f1 r0 r1 (hl _ (lB hn)) t0 t1).1
 rw[vN,e0]
 obtain ⟨x1,x2,x3,x4,x5⟩:=ZA f0 f1 r0 r1 hl t0 t1 (l.length - 1) 1 _ _ o! ⟨_,lB hn,rfl⟩ ⟨_,lB hn,rfl⟩
 refine ⟨x1,x2,?_⟩
 rw[abd];intro j hj
 by_cases e:j=0
 · subst e;exact ⟨x3,x4⟩
 · exact x5 j o! hj
theorem at_mem (hn:0<l.length) (ha:ou q.aK q.aI l):(vN q l t).aX≤(vN q l t).aG∧Bd (vN q l t)∧∀x,((vN q l t).aX≤x∧x≤(vN q l t).aG)↔∀c∈l,(gM q.aK q.aI c t).aX≤x∧x≤(gM q.aK q.aI c t).aG:=by
 obtain ⟨⟨c,hc,e1⟩,⟨d,hd,e2⟩,h⟩:=aeb f0 f1 r0 r1 hl t0 t1 hn
 obtain ⟨b1,b2,b3,b4⟩:=(xy f0 f1 r0 r1 (hl _ hc) t0 t1).2
 obtain ⟨c1,c2,c3,c4⟩:=(xy f0 f1 r0 r1 (hl _ hd) t0 t1).2
 refine ⟨by rw[e1,e2];exact CD f0 r0 ha t hc hd,⟨by omega,by omega,by omega,by omega⟩,fun x=>⟨fun hx k hk=>?_,fun hx=>?_⟩⟩
 · have:=h k hk;omega
 · have:=hx c hc;have:=hx d hd;omega
end
end
end Go.Proofs.aH
