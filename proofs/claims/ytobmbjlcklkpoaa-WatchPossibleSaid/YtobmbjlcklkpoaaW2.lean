import Derived.Test.YtobmbjlcklkpoaaW0
import Derived.Test.YtobmbjlcklkpoaaW1
namespace Go.Proofs.aJ
open Go.Proofs Ab
noncomputable section
set_option maxRecDepth 100000
set_option maxHeartbeats 4000000
set_option linter.unusedVariables false
set_option linter.unusedSimpArgs false
def jL:Code:=(Try.f31.body).getD .skip
theorem cx:Try.f31.body=some jL:=by kernel_rfl
def ux:Code:=(ck jL).getD 0 .skip
def uy:Code:=(ck jL).getD 1 .skip
def b6 (i0:Nat) (q:ay):Nat→Nat→Option (Int)
 | 0,_=>none
 | bC+1,i1=>(bif (decide ((q.ar.g i1).name=((q.ar.g i0).name))) then some 6 else b6 i0 q bC (i1+1))
theorem jM {d:Nat} {h:aw} (i0:Nat) (q:ay) (dC:Nat) (mz:q.name.length<2^60) (ql:aQ h q.ao q.ar) (vF:aA.ok h q) (IY:i0<q.ar.length):∀(k_ i_:Nat) (_:i_+k_=i0) (x:Nat→AV) (hh:aw) (aL:Tidy hh) (aX:Has h hh) (cU:hh.get dC=some (aY.cells [(AV.str q.name),(Zi q.af),(Zi q.ab),(Zi q.aC),(Zi q.aD),(Zi q.bad),q.ao] 26 false)),aU (cJ (d+2)) uy ⟨((x 0)::(Pt dC)::(x 2)::(Zn i0)::(Zn i_)::rx x 5 106 []),hh,[],.no⟩ (.exit 3) hh (fun y=>((y 0)::(Pt dC)::(y 2)::(Zn i0)::rx y 4 107 [])) (fun r y=>((y 0)::(Pt dC)::(Zi r)::(Zn i0)::rx y 4 107 [])) (b6 i0 q k_ i_)
 | 0,i1,jZ,x,hh,aL,aX,cU=>by
   have K0:=ql.small
   have BS:=aL _ _ cU
   have q1:(decide (((i1:Nat):Int)<((i0:Nat):Int)))=false:=d!
   exact aU.out rfl (pk (d+2) _ _ hh _ hh (CN 2<|VV (bz 3 false false .i64 ((i1:Nat):Int) ((i0:Nat):Int))<|BB q1<|ZZ) k!) (Grow.refl aL) k!
 | bC+1,i1,jZ,x,hh,aL,aX,cU=>by
   have K0:=ql.small
   have BS:=aL _ _ cU
   have q1:(decide (((i1:Nat):Int)<((i0:Nat):Int)))=true:=d!
   obtain ⟨p3,q4,kO⟩:=(ql.has aX).elem (i:=i1) o!
   have nI:di env (some (.slice 63)) (some q.ao) (some (Zn i1))=some (AV.ptr p3 q4):=kO
   have xh:bA env hh 9 (AV.ptr p3 (q4+0))=some (AV.str (q.ar.g i1).name):=(ql.has aX).part (t:=9) (j:=0) o! kO k! rfl
   obtain ⟨p7,q8,RR⟩:=(ql.has aX).elem (i:=i0) o!
   have D6:di env (some (.slice 63)) (some q.ao) (some (Zn i0))=some (AV.ptr p7 q8):=RR
   have Pu:bA env hh 9 (AV.ptr p7 (q8+0))=some (AV.str (q.ar.g i0).name):=(ql.has aX).part (t:=9) (j:=0) o! RR k! rfl
   have vG:AV.same 20 q.ao q.ao=true:=(ql.has aX).same 19
   rcases Bool.eq_false_or_eq_true (decide ((q.ar.g i1).name=((q.ar.g i0).name))) with f1 | f1
   · have iK:=of_decide_eq_true f1
     exact aU.ret 6 (by simp only[b6,f1,aj,ai]) (pk (d+2) _ _ hh _ hh (CN 2<|VV (bz 3 false false .i64 ((i1:Nat):Int) ((i0:Nat):Int))<|BC q1<|MM (aB 24 6 q.ao cU k!)<|CC<|VV nI<|CC<|MM xh<|CC<|MM (aB 24 6 q.ao cU k!)<|CC<|VV D6<|CC<|MM Pu<|VV (IL 9 false false (q.ar.g i1).name (q.ar.g i0).name)<|HH (aB 24 6 q.ao cU k!)<|HH vG<|HH xh<|HH (show AV.same 20 (AV.str (q.ar.g i1).name) (AV.str (q.ar.g i1).name)=true from iJ 19 _)<|HH (aB 24 6 q.ao cU k!)<|HH vG<|HH Pu<|HH (show AV.same 20 (AV.str (q.ar.g i0).name) (AV.str (q.ar.g i0).name)=true from iJ 19 _)<|BC f1<|ZZ) k!) (Grow.refl aL) k!
   · have iK:=of_decide_eq_false f1
     have RO:=eR 3 false true i1 1 o!
     exact aU.round (by simp only[b6,f1,aj,ai]) (pk (d+2) _ _ hh _ hh (CN 2<|VV (bz 3 false false .i64 ((i1:Nat):Int) ((i0:Nat):Int))<|BC q1<|MM (aB 24 6 q.ao cU k!)<|CC<|VV nI<|CC<|MM xh<|CC<|MM (aB 24 6 q.ao cU k!)<|CC<|VV D6<|CC<|MM Pu<|VV (IL 9 false false (q.ar.g i1).name (q.ar.g i0).name)<|HH (aB 24 6 q.ao cU k!)<|HH vG<|HH xh<|HH (show AV.same 20 (AV.str (q.ar.g i1).name) (AV.str (q.ar.g i1).name)=true from iJ 19 _)<|HH (aB 24 6 q.ao cU k!)<|HH vG<|HH Pu<|HH (show AV.same 20 (AV.str (q.ar.g i0).name) (AV.str (q.ar.g i0).name)=true from iJ 19 _)<|BC f1<|VV RO<|CC<|ZZ) k!) (Grow.refl aL) _ k! (fun x=>jM i0 q dC mz ql vF IY bC (i1+1) o! x hh aL aX cU)
def bS (q:ay):Nat→Nat→Option (Int)
 | 0,_=>none
 | dS+1,i0=>(bif (!(dr (q.ar.g i0).name)) then some 5 else (match (b6 i0 q i0 0) with | none=>(bif (!decide ((bM (q.ar.g i0))=0)) then some (bM (q.ar.g i0)) else bS q dS (i0+1)) | some rr9=>some rr9))
theorem jN {d:Nat} {h:aw} (q:ay) (cC:Nat) (bI:q.name.length<2^60) (eO:aQ h q.ao q.ar) (ma:aA.ok h q):∀(k_ i_:Nat) (_:i_+k_=q.ar.length) (x:Nat→AV) (hh:aw) (aL:Tidy hh) (aX:Has h hh) (bJ:hh.get cC=some (aY.cells [(AV.str q.name),(Zi q.af),(Zi q.ab),(Zi q.aC),(Zi q.aD),(Zi q.bad),q.ao] 26 false)),aU (cJ (d+2)) ux ⟨((x 0)::(Pt cC)::(x 2)::(Zn i_)::rx x 4 107 []),hh,[],.no⟩ (.exit 1) hh (fun y=>((y 0)::(Pt cC)::rx y 2 109 [])) (fun r y=>((y 0)::(Pt cC)::(Zi r)::rx y 3 108 [])) (bS q k_ i_)
 | 0,i0,jZ,x,hh,aL,aX,bJ=>by
   have oO:=eO.small
   have pP:=aL _ _ bJ
   have ie:dw (some (.slice 63)) (some q.ao)=some (Zn q.ar.length):=(eO.has aX).len
   have q2:(decide (((i0:Nat):Int)<((q.ar.length:Nat):Int)))=false:=d!
   exact aU.out rfl (pk (d+2) _ _ hh _ hh (CN 2<|MM (aB 24 6 q.ao bJ k!)<|VV ie<|VV (bz 3 false false .i64 ((i0:Nat):Int) ((q.ar.length:Nat):Int))<|BB q2<|ZZ) k!) (Grow.refl aL) k!
 | dS+1,i0,jZ,x,hh,aL,aX,bJ=>by
   have oO:=eO.small
   have pP:=aL _ _ bJ
   have ie:dw (some (.slice 63)) (some q.ao)=some (Zn q.ar.length):=(eO.has aX).len
   have q2:(decide (((i0:Nat):Int)<((q.ar.length:Nat):Int)))=true:=d!
   obtain ⟨p4,q5,mH⟩:=(eO.has aX).elem (i:=i0) o!
   have py:di env (some (.slice 63)) (some q.ao) (some (Zn i0))=some (AV.ptr p4 q5):=mH
   have pz:bA env hh 9 (AV.ptr p4 (q5+0))=some (AV.str (q.ar.g i0).name):=(eO.has aX).part (t:=9) (j:=0) o! mH k! rfl
   have k7:=IX (d:=d+1) (q.ar.g i0).name ((eO.has aX).ok (i:=i0) o!) aL
   rcases Bool.eq_false_or_eq_true (!(dr (q.ar.g i0).name)) with f1 | f1
   · exact aU.ret 5 (by simp only[bS,f1,aj,ai]) (pk (d+2) _ _ hh _ hh (CN 2<|MM (aB 24 6 q.ao bJ k!)<|VV ie<|VV (bz 3 false false .i64 ((i0:Nat):Int) ((q.ar.length:Nat):Int))<|BC q2<|MM (aB 24 6 q.ao bJ k!)<|CC<|VV py<|CC<|MM pz<|EE k7<|CC<|BC f1<|ZZ) k!) (Grow.refl aL) k!
   · cases BT:b6 i0 q i0 0 with
     | none=>
       obtain ⟨yl9,oQ,F7,nJ⟩:=aU.n BT (jM (d:=d) (h:=hh) i0 q cC bI (eO.has aX) (aA.mono aX ma) o! i0 0 o! (fun k_=>(((x 0)::(Pt cC)::(x 2)::(Zn i0)::(Zi 0)::rx x 5 64 ((Zn i0)::(AV.ptr cC 6)::q.ao::(Zn q.ar.length)::(AV.bool (decide (((i0:Nat):Int)<((q.ar.length:Nat):Int))))::(x 74)::(x 75)::(AV.ptr cC 6)::q.ao::(Zn i0)::(AV.ptr p4 q5)::(AV.ptr p4 (q5+0))::(AV.str (q.ar.g i0).name)::(AV.bool (dr (q.ar.g i0).name))::(AV.bool (!(dr (q.ar.g i0).name)))::rx x 84 27 [])):List AV).getD k_ AV.undef) hh aL (Has.refl _) bJ)
       have mb:=nJ.y
       have IZ:hh.nx≤oQ.nx:=nJ.n
       have lH:Has hh oQ:=nJ.a
       obtain ⟨Pv,Pw,qm⟩:=(eO.has aX).elem (i:=i0) o!
       have BU:di env (some (.slice 63)) (some q.ao) (some (Zn i0))=some (AV.ptr Pv Pw):=qm
       have pj:bA env oQ 63 (AV.ptr Pv Pw)=some (AV.agg [(AV.str (q.ar.g i0).name),(Zi (q.ar.g i0).acc),(Zi (q.ar.g i0).bR),(Zi (q.ar.g i0).since)]):=((eO.has aX).has lH).load o! qm
       have Po:=BR (d:=d) (q.ar.g i0) (aA.mono lH ((eO.has aX).ok (i:=i0) o!)) mb
       rcases Bool.eq_false_or_eq_true (!decide ((bM (q.ar.g i0))=0)) with f3 | f3
       · have l7:=AG f3
         exact aU.ret (bM (q.ar.g i0)) (by simp only[bS,f1,BT,f3,aj,ai]) (pk (d+2) _ _ hh _ oQ (CN 2<|MM (aB 24 6 q.ao bJ k!)<|VV ie<|VV (bz 3 false false .i64 ((i0:Nat):Int) ((q.ar.length:Nat):Int))<|BC q2<|MM (aB 24 6 q.ao bJ k!)<|CC<|VV py<|CC<|MM pz<|EE k7<|CC<|BC f1<|LL F7<|CC<|MM (aB 24 6 q.ao (nJ.a _ _ bJ) k!)<|CC<|VV BU<|MM pj<|EE Po<|CN 2<|VV (eh 31 false true .i64 (bM (q.ar.g i0)) 0)<|BB f3<|CN 2<|ZZ) k!) (⟨mb,lH,by omega⟩) k!
       · have l7:=AH f3
         have u17:=eR 3 false true i0 1 o!
         exact aU.round (by simp only[bS,f1,BT,f3,aj,ai]) (pk (d+2) _ _ hh _ oQ (CN 2<|MM (aB 24 6 q.ao bJ k!)<|VV ie<|VV (bz 3 false false .i64 ((i0:Nat):Int) ((q.ar.length:Nat):Int))<|BC q2<|MM (aB 24 6 q.ao bJ k!)<|CC<|VV py<|CC<|MM pz<|EE k7<|CC<|BC f1<|LL F7<|CC<|MM (aB 24 6 q.ao (nJ.a _ _ bJ) k!)<|CC<|VV BU<|MM pj<|EE Po<|CN 2<|VV (eh 31 false true .i64 (bM (q.ar.g i0)) 0)<|BC f3<|VV u17<|CC<|ZZ) k!) (⟨mb,lH,by omega⟩) _ k! (fun x=>jN q cC bI eO ma dS (i0+1) o! x oQ mb (aX.trans lH) (nJ.a _ _ bJ))
     | some rr9=>
       obtain ⟨yl9,oQ,F7,nJ⟩:=aU.r BT (jM (d:=d) (h:=hh) i0 q cC bI (eO.has aX) (aA.mono aX ma) o! i0 0 o! (fun k_=>(((x 0)::(Pt cC)::(x 2)::(Zn i0)::(Zi 0)::rx x 5 64 ((Zn i0)::(AV.ptr cC 6)::q.ao::(Zn q.ar.length)::(AV.bool (decide (((i0:Nat):Int)<((q.ar.length:Nat):Int))))::(x 74)::(x 75)::(AV.ptr cC 6)::q.ao::(Zn i0)::(AV.ptr p4 q5)::(AV.ptr p4 (q5+0))::(AV.str (q.ar.g i0).name)::(AV.bool (dr (q.ar.g i0).name))::(AV.bool (!(dr (q.ar.g i0).name)))::rx x 84 27 [])):List AV).getD k_ AV.undef) hh aL (Has.refl _) bJ)
       have mb:=nJ.y
       have IZ:hh.nx≤oQ.nx:=nJ.n
       have lH:Has hh oQ:=nJ.a
       exact aU.ret rr9 (by simp only[bS,f1,BT,aj,ai]) (pk (d+2) _ _ hh _ oQ (CN 2<|MM (aB 24 6 q.ao bJ k!)<|VV ie<|VV (bz 3 false false .i64 ((i0:Nat):Int) ((q.ar.length:Nat):Int))<|BC q2<|MM (aB 24 6 q.ao bJ k!)<|CC<|VV py<|CC<|MM pz<|EE k7<|CC<|BC f1<|LL F7<|ZZ) k!) (⟨mb,lH,by omega⟩) k!
def aE (q:ay):Int:=(bif (!(dr q.name)) then 5 else (bif (!(cr q.af)) then 1 else (bif (!(cr q.ab)) then 1 else (bif (decide (q.ab<q.af)) then 1 else (bif (decide (q.aC<0)) then 1 else (bif (decide (10000<q.aC)) then 1 else (bif (decide (q.aD<0)) then 1 else (bif (decide (10000<q.aD)) then 1 else (bif (decide (8<((q.ar.length:Nat):Int))) then 3 else (bif (decide (q.bad<0)) then 1 else (bif (decide (((q.ar.length:Nat):Int)<q.bad)) then 1 else (match (bS q q.ar.length 0) with | none=>0 | some Zj=>Zj))))))))))))
theorem pA {d:Nat} {h:aw} (q:ay) (eP:aA.ok h q) (bH:Tidy h):cJ (d+3) (.fn 31) [(AV.agg [(AV.str q.name),(Zi q.af),(Zi q.ab),(Zi q.aC),(Zi q.aD),(Zi q.bad),q.ao])] h= .ret (Zi (aE q)) h:=by
 have fW:=eP.2.small
 obtain ⟨h1,bD,bN,fX,aH,bZ⟩:=gu bH (aY.cells [(AV.str q.name),(Zi q.af),(Zi q.ab),(Zi q.aC),(Zi q.aD),(Zi q.bad),q.ao] 26 false)
 have bk:Has h h1:=bZ
 have k2:=IX (d:=d+1) q.name eP.1 bN
 rcases Bool.eq_false_or_eq_true (!(dr q.name)) with f0 | f0
 · have e:aE q=5:=by simp only[aE,f0,aj,ai]
   rw[e]
   exact az rfl (a_ Try.func31 cx rfl (.inr rfl) (pk (d+2) _ _ h _ h1 (NN bD (fun i=>(Pt i))<|CN 2<|MM (aB 9 0 (AV.str q.name) aH k!)<|EE k2<|CN 2<|BC f0<|ZZ) k!) k!) bk rfl
 · have k4:=yO (d:=d+1) q.af bN
   rcases Bool.eq_false_or_eq_true (!(cr q.af)) with f1 | f1
   · have e:aE q=1:=by simp only[aE,f0,f1,aj,ai]
     rw[e]
     exact az rfl (a_ Try.func31 cx rfl (.inr rfl) (pk (d+2) _ _ h _ h1 (NN bD (fun i=>(Pt i))<|CN 2<|MM (aB 9 0 (AV.str q.name) aH k!)<|EE k2<|CN 2<|BB f0<|CN 2<|MM (aB 3 1 (Zi q.af) aH k!)<|EE k4<|CN 2<|BB f1<|BB f1<|BB f1<|BB f1<|BV f1 (nR true f1)<|CC<|TT<|TT<|TT<|TT<|TT<|TT<|TT<|CN 2<|TT<|CC<|ZZ) k!) k!) bk rfl
   · have k6:=yO (d:=d+1) q.ab bN
     rcases Bool.eq_false_or_eq_true (!(cr q.ab)) with f2 | f2
     · have e:aE q=1:=by simp only[aE,f0,f1,f2,aj,ai]
       rw[e]
       exact az rfl (a_ Try.func31 cx rfl (.inr rfl) (pk (d+2) _ _ h _ h1 (NN bD (fun i=>(Pt i))<|CN 2<|MM (aB 9 0 (AV.str q.name) aH k!)<|EE k2<|CN 2<|BB f0<|CN 2<|MM (aB 3 1 (Zi q.af) aH k!)<|EE k4<|CN 2<|BC f1<|BC f1<|BM f1 (aB 3 2 (Zi q.ab) aH k!)<|BB f1<|EE k6<|BC f1<|VV (aR (a:=some (AV.bool true)) (b:=some (AV.bool (!(cr q.ab)))) f1)<|CC<|BB f2<|BB f2<|BB f2<|BB f2<|BB f2<|BB f2<|BV f2 (nR true f2)<|CC<|TT<|CC<|ZZ) k!) k!) bk rfl
     · rcases Bool.eq_false_or_eq_true (decide (q.ab<q.af)) with f3 | f3
       · have l7:=of_decide_eq_true f3
         have e:aE q=1:=by simp only[aE,f0,f1,f2,f3,aj,ai]
         rw[e]
         exact az rfl (a_ Try.func31 cx rfl (.inr rfl) (pk (d+2) _ _ h _ h1 (NN bD (fun i=>(Pt i))<|CN 2<|MM (aB 9 0 (AV.str q.name) aH k!)<|EE k2<|CN 2<|BB f0<|CN 2<|MM (aB 3 1 (Zi q.af) aH k!)<|EE k4<|CN 2<|BC f1<|BC f1<|BM f1 (aB 3 2 (Zi q.ab) aH k!)<|BB f1<|EE k6<|BC f1<|VV (aR (a:=some (AV.bool true)) (b:=some (AV.bool (!(cr q.ab)))) f1)<|CC<|BC f2<|BC f2<|BM f2 (aB 3 1 (Zi q.af) aH k!)<|BC f2<|BC f2<|BM f2 (aB 3 2 (Zi q.ab) aH k!)<|BV f2 (bW 3 false false .i64 q.af q.ab)<|VV (aR (a:=some (AV.bool true)) (b:=some (AV.bool (decide (q.ab<q.af)))) f2)<|CC<|BC f3<|ZZ) k!) k!) bk rfl
       · have l7:=of_decide_eq_false f3
         rcases Bool.eq_false_or_eq_true (decide (q.aC<0)) with f4 | f4
         · have l8:=of_decide_eq_true f4
           have e:aE q=1:=by simp only[aE,f0,f1,f2,f3,f4,aj,ai]
           rw[e]
           exact az rfl (a_ Try.func31 cx rfl (.inr rfl) (pk (d+2) _ _ h _ h1 (NN bD (fun i=>(Pt i))<|CN 2<|MM (aB 9 0 (AV.str q.name) aH k!)<|EE k2<|CN 2<|BB f0<|CN 2<|MM (aB 3 1 (Zi q.af) aH k!)<|EE k4<|CN 2<|BC f1<|BC f1<|BM f1 (aB 3 2 (Zi q.ab) aH k!)<|BB f1<|EE k6<|BC f1<|VV (aR (a:=some (AV.bool true)) (b:=some (AV.bool (!(cr q.ab)))) f1)<|CC<|BC f2<|BC f2<|BM f2 (aB 3 1 (Zi q.af) aH k!)<|BC f2<|BC f2<|BM f2 (aB 3 2 (Zi q.ab) aH k!)<|BV f2 (bW 3 false false .i64 q.af q.ab)<|VV (aR (a:=some (AV.bool true)) (b:=some (AV.bool (decide (q.ab<q.af)))) f2)<|CC<|BC f3<|MM (aB 3 3 (Zi q.aC) aH k!)<|VV (bz 3 false true .i64 q.aC 0)<|CC<|BB f4<|BB f4<|BV f4 (nR true f4)<|CC<|TT<|TT<|TT<|CN 2<|TT<|TT<|TT<|CN 2<|TT<|CC<|ZZ) k!) k!) bk rfl
         · have l8:=of_decide_eq_false f4
           rcases Bool.eq_false_or_eq_true (decide (10000<q.aC)) with f5 | f5
           · have yM:=of_decide_eq_true f5
             have e:aE q=1:=by simp only[aE,f0,f1,f2,f3,f4,f5,aj,ai]
             rw[e]
             exact az rfl (a_ Try.func31 cx rfl (.inr rfl) (pk (d+2) _ _ h _ h1 (NN bD (fun i=>(Pt i))<|CN 2<|MM (aB 9 0 (AV.str q.name) aH k!)<|EE k2<|CN 2<|BB f0<|CN 2<|MM (aB 3 1 (Zi q.af) aH k!)<|EE k4<|CN 2<|BC f1<|BC f1<|BM f1 (aB 3 2 (Zi q.ab) aH k!)<|BB f1<|EE k6<|BC f1<|VV (aR (a:=some (AV.bool true)) (b:=some (AV.bool (!(cr q.ab)))) f1)<|CC<|BC f2<|BC f2<|BM f2 (aB 3 1 (Zi q.af) aH k!)<|BC f2<|BC f2<|BM f2 (aB 3 2 (Zi q.ab) aH k!)<|BV f2 (bW 3 false false .i64 q.af q.ab)<|VV (aR (a:=some (AV.bool true)) (b:=some (AV.bool (decide (q.ab<q.af)))) f2)<|CC<|BC f3<|MM (aB 3 3 (Zi q.aC) aH k!)<|VV (bz 3 false true .i64 q.aC 0)<|CC<|BC f4<|BM f4 (aB 3 3 (Zi q.aC) aH k!)<|BV f4 (bW 3 false true .i64 q.aC 10000)<|VV (aR (a:=some (AV.bool true)) (b:=some (AV.bool (decide (10000<q.aC)))) f4)<|CC<|BB f5<|BB f5<|BV f5 (nR true f5)<|CC<|TT<|TT<|TT<|CN 2<|TT<|CC<|ZZ) k!) k!) bk rfl
           · have yM:=of_decide_eq_false f5
             rcases Bool.eq_false_or_eq_true (decide (q.aD<0)) with f6 | f6
             · have RS:=of_decide_eq_true f6
               have e:aE q=1:=by simp only[aE,f0,f1,f2,f3,f4,f5,f6,aj,ai]
               rw[e]
               exact az rfl (a_ Try.func31 cx rfl (.inr rfl) (pk (d+2) _ _ h _ h1 (NN bD (fun i=>(Pt i))<|CN 2<|MM (aB 9 0 (AV.str q.name) aH k!)<|EE k2<|CN 2<|BB f0<|CN 2<|MM (aB 3 1 (Zi q.af) aH k!)<|EE k4<|CN 2<|BC f1<|BC f1<|BM f1 (aB 3 2 (Zi q.ab) aH k!)<|BB f1<|EE k6<|BC f1<|VV (aR (a:=some (AV.bool true)) (b:=some (AV.bool (!(cr q.ab)))) f1)<|CC<|BC f2<|BC f2<|BM f2 (aB 3 1 (Zi q.af) aH k!)<|BC f2<|BC f2<|BM f2 (aB 3 2 (Zi q.ab) aH k!)<|BV f2 (bW 3 false false .i64 q.af q.ab)<|VV (aR (a:=some (AV.bool true)) (b:=some (AV.bool (decide (q.ab<q.af)))) f2)<|CC<|BC f3<|MM (aB 3 3 (Zi q.aC) aH k!)<|VV (bz 3 false true .i64 q.aC 0)<|CC<|BC f4<|BM f4 (aB 3 3 (Zi q.aC) aH k!)<|BV f4 (bW 3 false true .i64 q.aC 10000)<|VV (aR (a:=some (AV.bool true)) (b:=some (AV.bool (decide (10000<q.aC)))) f4)<|CC<|BC f5<|BM f5 (aB 3 4 (Zi q.aD) aH k!)<|BV f5 (bz 3 false true .i64 q.aD 0)<|VV (aR (a:=some (AV.bool true)) (b:=some (AV.bool (decide (q.aD<0)))) f5)<|CC<|BB f6<|BB f6<|BV f6 (nR true f6)<|CC<|TT<|CC<|ZZ) k!) k!) bk rfl
             · have RS:=of_decide_eq_false f6
               rcases Bool.eq_false_or_eq_true (decide (10000<q.aD)) with f7 | f7
               · have RU:=of_decide_eq_true f7
                 have e:aE q=1:=by simp only[aE,f0,f1,f2,f3,f4,f5,f6,f7,aj,ai]
                 rw[e]
                 exact az rfl (a_ Try.func31 cx rfl (.inr rfl) (pk (d+2) _ _ h _ h1 (NN bD (fun i=>(Pt i))<|CN 2<|MM (aB 9 0 (AV.str q.name) aH k!)<|EE k2<|CN 2<|BB f0<|CN 2<|MM (aB 3 1 (Zi q.af) aH k!)<|EE k4<|CN 2<|BC f1<|BC f1<|BM f1 (aB 3 2 (Zi q.ab) aH k!)<|BB f1<|EE k6<|BC f1<|VV (aR (a:=some (AV.bool true)) (b:=some (AV.bool (!(cr q.ab)))) f1)<|CC<|BC f2<|BC f2<|BM f2 (aB 3 1 (Zi q.af) aH k!)<|BC f2<|BC f2<|BM f2 (aB 3 2 (Zi q.ab) aH k!)<|BV f2 (bW 3 false false .i64 q.af q.ab)<|VV (aR (a:=some (AV.bool true)) (b:=some (AV.bool (decide (q.ab<q.af)))) f2)<|CC<|BC f3<|MM (aB 3 3 (Zi q.aC) aH k!)<|VV (bz 3 false true .i64 q.aC 0)<|CC<|BC f4<|BM f4 (aB 3 3 (Zi q.aC) aH k!)<|BV f4 (bW 3 false true .i64 q.aC 10000)<|VV (aR (a:=some (AV.bool true)) (b:=some (AV.bool (decide (10000<q.aC)))) f4)<|CC<|BC f5<|BM f5 (aB 3 4 (Zi q.aD) aH k!)<|BV f5 (bz 3 false true .i64 q.aD 0)<|VV (aR (a:=some (AV.bool true)) (b:=some (AV.bool (decide (q.aD<0)))) f5)<|CC<|BC f6<|BM f6 (aB 3 4 (Zi q.aD) aH k!)<|BV f6 (bW 3 false true .i64 q.aD 10000)<|VV (aR (a:=some (AV.bool true)) (b:=some (AV.bool (decide (10000<q.aD)))) f6)<|CC<|BC f7<|ZZ) k!) k!) bk rfl
               · have RU:=of_decide_eq_false f7
                 have RV:dw (some (.slice 63)) (some q.ao)=some (Zn q.ar.length):=eP.2.len
                 rcases Bool.eq_false_or_eq_true (decide (8<((q.ar.length:Nat):Int))) with f8 | f8
                 · have aeO:=of_decide_eq_true f8
                   have e:aE q=3:=by simp only[aE,f0,f1,f2,f3,f4,f5,f6,f7,f8,aj,ai]
                   rw[e]
                   exact az rfl (a_ Try.func31 cx rfl (.inr rfl) (pk (d+2) _ _ h _ h1 (NN bD (fun i=>(Pt i))<|CN 2<|MM (aB 9 0 (AV.str q.name) aH k!)<|EE k2<|CN 2<|BB f0<|CN 2<|MM (aB 3 1 (Zi q.af) aH k!)<|EE k4<|CN 2<|BC f1<|BC f1<|BM f1 (aB 3 2 (Zi q.ab) aH k!)<|BB f1<|EE k6<|BC f1<|VV (aR (a:=some (AV.bool true)) (b:=some (AV.bool (!(cr q.ab)))) f1)<|CC<|BC f2<|BC f2<|BM f2 (aB 3 1 (Zi q.af) aH k!)<|BC f2<|BC f2<|BM f2 (aB 3 2 (Zi q.ab) aH k!)<|BV f2 (bW 3 false false .i64 q.af q.ab)<|VV (aR (a:=some (AV.bool true)) (b:=some (AV.bool (decide (q.ab<q.af)))) f2)<|CC<|BC f3<|MM (aB 3 3 (Zi q.aC) aH k!)<|VV (bz 3 false true .i64 q.aC 0)<|CC<|BC f4<|BM f4 (aB 3 3 (Zi q.aC) aH k!)<|BV f4 (bW 3 false true .i64 q.aC 10000)<|VV (aR (a:=some (AV.bool true)) (b:=some (AV.bool (decide (10000<q.aC)))) f4)<|CC<|BC f5<|BM f5 (aB 3 4 (Zi q.aD) aH k!)<|BV f5 (bz 3 false true .i64 q.aD 0)<|VV (aR (a:=some (AV.bool true)) (b:=some (AV.bool (decide (q.aD<0)))) f5)<|CC<|BC f6<|BM f6 (aB 3 4 (Zi q.aD) aH k!)<|BV f6 (bW 3 false true .i64 q.aD 10000)<|VV (aR (a:=some (AV.bool true)) (b:=some (AV.bool (decide (10000<q.aD)))) f6)<|CC<|BC f7<|MM (aB 24 6 q.ao aH k!)<|VV RV<|VV (bW 3 false true .i64 ((q.ar.length:Nat):Int) 8)<|CC<|BC f8<|ZZ) k!) k!) bk rfl
                 · have aeO:=of_decide_eq_false f8
                   rcases Bool.eq_false_or_eq_true (decide (q.bad<0)) with f9 | f9
                   · have aeP:=of_decide_eq_true f9
                     have e:aE q=1:=by simp only[aE,f0,f1,f2,f3,f4,f5,f6,f7,f8,f9,aj,ai]
                     rw[e]
                     exact az rfl (a_ Try.func31 cx rfl (.inr rfl) (pk (d+2) _ _ h _ h1 (NN bD (fun i=>(Pt i))<|CN 2<|MM (aB 9 0 (AV.str q.name) aH k!)<|EE k2<|CN 2<|BB f0<|CN 2<|MM (aB 3 1 (Zi q.af) aH k!)<|EE k4<|CN 2<|BC f1<|BC f1<|BM f1 (aB 3 2 (Zi q.ab) aH k!)<|BB f1<|EE k6<|BC f1<|VV (aR (a:=some (AV.bool true)) (b:=some (AV.bool (!(cr q.ab)))) f1)<|CC<|BC f2<|BC f2<|BM f2 (aB 3 1 (Zi q.af) aH k!)<|BC f2<|BC f2<|BM f2 (aB 3 2 (Zi q.ab) aH k!)<|BV f2 (bW 3 false false .i64 q.af q.ab)<|VV (aR (a:=some (AV.bool true)) (b:=some (AV.bool (decide (q.ab<q.af)))) f2)<|CC<|BC f3<|MM (aB 3 3 (Zi q.aC) aH k!)<|VV (bz 3 false true .i64 q.aC 0)<|CC<|BC f4<|BM f4 (aB 3 3 (Zi q.aC) aH k!)<|BV f4 (bW 3 false true .i64 q.aC 10000)<|VV (aR (a:=some (AV.bool true)) (b:=some (AV.bool (decide (10000<q.aC)))) f4)<|CC<|BC f5<|BM f5 (aB 3 4 (Zi q.aD) aH k!)<|BV f5 (bz 3 false true .i64 q.aD 0)<|VV (aR (a:=some (AV.bool true)) (b:=some (AV.bool (decide (q.aD<0)))) f5)<|CC<|BC f6<|BM f6 (aB 3 4 (Zi q.aD) aH k!)<|BV f6 (bW 3 false true .i64 q.aD 10000)<|VV (aR (a:=some (AV.bool true)) (b:=some (AV.bool (decide (10000<q.aD)))) f6)<|CC<|BC f7<|MM (aB 24 6 q.ao aH k!)<|VV RV<|VV (bW 3 false true .i64 ((q.ar.length:Nat):Int) 8)<|CC<|BC f8<|MM (aB 3 5 (Zi q.bad) aH k!)<|VV (bz 3 false true .i64 q.bad 0)<|CC<|BB f9<|BB f9<|BB f9<|BB f9<|BB f9<|BV f9 (nR true f9)<|CC<|TT<|CC<|ZZ) k!) k!) bk rfl
                   · have aeP:=of_decide_eq_false f9
                     have Zk:dw (some (.slice 63)) (some q.ao)=some (Zn q.ar.length):=eP.2.len
                     rcases Bool.eq_false_or_eq_true (decide (((q.ar.length:Nat):Int)<q.bad)) with f10 | f10
                     · have abT:=of_decide_eq_true f10
                       have e:aE q=1:=by simp only[aE,f0,f1,f2,f3,f4,f5,f6,f7,f8,f9,f10,aj,ai]
                       rw[e]
                       exact az rfl (a_ Try.func31 cx rfl (.inr rfl) (pk (d+2) _ _ h _ h1 (NN bD (fun i=>(Pt i))<|CN 2<|MM (aB 9 0 (AV.str q.name) aH k!)<|EE k2<|CN 2<|BB f0<|CN 2<|MM (aB 3 1 (Zi q.af) aH k!)<|EE k4<|CN 2<|BC f1<|BC f1<|BM f1 (aB 3 2 (Zi q.ab) aH k!)<|BB f1<|EE k6<|BC f1<|VV (aR (a:=some (AV.bool true)) (b:=some (AV.bool (!(cr q.ab)))) f1)<|CC<|BC f2<|BC f2<|BM f2 (aB 3 1 (Zi q.af) aH k!)<|BC f2<|BC f2<|BM f2 (aB 3 2 (Zi q.ab) aH k!)<|BV f2 (bW 3 false false .i64 q.af q.ab)<|VV (aR (a:=some (AV.bool true)) (b:=some (AV.bool (decide (q.ab<q.af)))) f2)<|CC<|BC f3<|MM (aB 3 3 (Zi q.aC) aH k!)<|VV (bz 3 false true .i64 q.aC 0)<|CC<|BC f4<|BM f4 (aB 3 3 (Zi q.aC) aH k!)<|BV f4 (bW 3 false true .i64 q.aC 10000)<|VV (aR (a:=some (AV.bool true)) (b:=some (AV.bool (decide (10000<q.aC)))) f4)<|CC<|BC f5<|BM f5 (aB 3 4 (Zi q.aD) aH k!)<|BV f5 (bz 3 false true .i64 q.aD 0)<|VV (aR (a:=some (AV.bool true)) (b:=some (AV.bool (decide (q.aD<0)))) f5)<|CC<|BC f6<|BM f6 (aB 3 4 (Zi q.aD) aH k!)<|BV f6 (bW 3 false true .i64 q.aD 10000)<|VV (aR (a:=some (AV.bool true)) (b:=some (AV.bool (decide (10000<q.aD)))) f6)<|CC<|BC f7<|MM (aB 24 6 q.ao aH k!)<|VV RV<|VV (bW 3 false true .i64 ((q.ar.length:Nat):Int) 8)<|CC<|BC f8<|MM (aB 3 5 (Zi q.bad) aH k!)<|VV (bz 3 false true .i64 q.bad 0)<|CC<|BC f9<|BM f9 (aB 3 5 (Zi q.bad) aH k!)<|BC f9<|BM f9 (aB 24 6 q.ao aH k!)<|BV f9 Zk<|BV f9 (bW 3 false false .i64 q.bad ((q.ar.length:Nat):Int))<|VV (aR (a:=some (AV.bool true)) (b:=some (AV.bool (decide (((q.ar.length:Nat):Int)<q.bad)))) f9)<|CC<|BC f10<|ZZ) k!) k!) bk rfl
                     · have abT:=of_decide_eq_false f10
                       cases AJ:bS q q.ar.length 0 with
                       | none=>
                         obtain ⟨aeQ,OB,F8,BW⟩:=aU.n AJ (jN (d:=d) (h:=h) q h.nx eP.1 eP.2 eP q.ar.length 0 o! (fun k_=>(((AV.agg [(AV.str q.name),(Zi q.af),(Zi q.ab),(Zi q.aC),(Zi q.aD),(Zi q.bad),q.ao])::(Pt h.nx)::(Zi 0)::(Zi 0)::AV.undef::AV.undef::(AV.bool (!(dr q.name)))::(Pt h.nx)::(AV.str q.name)::(AV.bool (dr q.name))::(AV.bool (!(dr q.name)))::(AV.bool (decide (q.ab<q.af)))::(AV.ptr h.nx 1)::(AV.ptr h.nx 1)::(Zi q.af)::(AV.bool (cr q.af))::(AV.bool (!(cr q.af)))::(AV.bool (!(cr q.af)))::(AV.ptr h.nx 1)::(AV.ptr h.nx 2)::(Zi q.ab)::(AV.bool (cr q.ab))::(AV.bool (!(cr q.ab)))::(AV.bool (!(cr q.ab)))::(AV.bool (!(cr q.ab)))::(AV.ptr h.nx 1)::(AV.ptr h.nx 1)::(Zi q.af)::(AV.ptr h.nx 1)::(AV.ptr h.nx 2)::(Zi q.ab)::(AV.bool (decide (q.ab<q.af)))::(AV.bool (decide (q.ab<q.af)))::(AV.bool (decide (10000<q.aD)))::(AV.ptr h.nx 3)::(Zi q.aC)::(AV.bool (decide (q.aC<0)))::(AV.bool (decide (q.aC<0)))::(AV.ptr h.nx 3)::(Zi q.aC)::(AV.bool (decide (10000<q.aC)))::(AV.bool (decide (10000<q.aC)))::(AV.bool (decide (10000<q.aC)))::(AV.ptr h.nx 4)::(Zi q.aD)::(AV.bool (decide (q.aD<0)))::(AV.bool (decide (q.aD<0)))::(AV.bool (decide (q.aD<0)))::(AV.ptr h.nx 4)::(Zi q.aD)::(AV.bool (decide (10000<q.aD)))::(AV.bool (decide (10000<q.aD)))::(AV.bool (decide (8<((q.ar.length:Nat):Int))))::(AV.ptr h.nx 6)::q.ao::(Zn q.ar.length)::(AV.bool (decide (8<((q.ar.length:Nat):Int))))::(AV.bool (decide (((q.ar.length:Nat):Int)<q.bad)))::(AV.ptr h.nx 5)::(Zi q.bad)::(AV.bool (decide (q.bad<0)))::(AV.bool (decide (q.bad<0)))::(AV.ptr h.nx 5)::(Zi q.bad)::(AV.ptr h.nx 6)::q.ao::(Zn q.ar.length)::(AV.bool (decide (((q.ar.length:Nat):Int)<q.bad)))::(AV.bool (decide (((q.ar.length:Nat):Int)<q.bad)))::jl 42):List AV).getD k_ AV.undef) h1 bN bk aH)
                         have RW:=BW.y
                         have Xx:h1.nx≤OB.nx:=BW.n
                         have I0:Has h OB:=bk.trans BW.a
                         have e:aE q=0:=by simp only[aE,f0,f1,f2,f3,f4,f5,f6,f7,f8,f9,f10,AJ,aj,ai]
                         rw[e]
                         exact az rfl (a_ Try.func31 cx rfl (.inr rfl) (pk (d+2) _ _ h _ OB (NN bD (fun i=>(Pt i))<|CN 2<|MM (aB 9 0 (AV.str q.name) aH k!)<|EE k2<|CN 2<|BB f0<|CN 2<|MM (aB 3 1 (Zi q.af) aH k!)<|EE k4<|CN 2<|BC f1<|BC f1<|BM f1 (aB 3 2 (Zi q.ab) aH k!)<|BB f1<|EE k6<|BC f1<|VV (aR (a:=some (AV.bool true)) (b:=some (AV.bool (!(cr q.ab)))) f1)<|CC<|BC f2<|BC f2<|BM f2 (aB 3 1 (Zi q.af) aH k!)<|BC f2<|BC f2<|BM f2 (aB 3 2 (Zi q.ab) aH k!)<|BV f2 (bW 3 false false .i64 q.af q.ab)<|VV (aR (a:=some (AV.bool true)) (b:=some (AV.bool (decide (q.ab<q.af)))) f2)<|CC<|BC f3<|MM (aB 3 3 (Zi q.aC) aH k!)<|VV (bz 3 false true .i64 q.aC 0)<|CC<|BC f4<|BM f4 (aB 3 3 (Zi q.aC) aH k!)<|BV f4 (bW 3 false true .i64 q.aC 10000)<|VV (aR (a:=some (AV.bool true)) (b:=some (AV.bool (decide (10000<q.aC)))) f4)<|CC<|BC f5<|BM f5 (aB 3 4 (Zi q.aD) aH k!)<|BV f5 (bz 3 false true .i64 q.aD 0)<|VV (aR (a:=some (AV.bool true)) (b:=some (AV.bool (decide (q.aD<0)))) f5)<|CC<|BC f6<|BM f6 (aB 3 4 (Zi q.aD) aH k!)<|BV f6 (bW 3 false true .i64 q.aD 10000)<|VV (aR (a:=some (AV.bool true)) (b:=some (AV.bool (decide (10000<q.aD)))) f6)<|CC<|BC f7<|MM (aB 24 6 q.ao aH k!)<|VV RV<|VV (bW 3 false true .i64 ((q.ar.length:Nat):Int) 8)<|CC<|BC f8<|MM (aB 3 5 (Zi q.bad) aH k!)<|VV (bz 3 false true .i64 q.bad 0)<|CC<|BC f9<|BM f9 (aB 3 5 (Zi q.bad) aH k!)<|BC f9<|BM f9 (aB 24 6 q.ao aH k!)<|BV f9 Zk<|BV f9 (bW 3 false false .i64 q.bad ((q.ar.length:Nat):Int))<|VV (aR (a:=some (AV.bool true)) (b:=some (AV.bool (decide (((q.ar.length:Nat):Int)<q.bad)))) f9)<|CC<|BC f10<|LL F8<|CC<|ZZ) k!) k!) I0 rfl
                       | some Zj=>
                         obtain ⟨aeQ,OB,F8,BW⟩:=aU.r AJ (jN (d:=d) (h:=h) q h.nx eP.1 eP.2 eP q.ar.length 0 o! (fun k_=>(((AV.agg [(AV.str q.name),(Zi q.af),(Zi q.ab),(Zi q.aC),(Zi q.aD),(Zi q.bad),q.ao])::(Pt h.nx)::(Zi 0)::(Zi 0)::AV.undef::AV.undef::(AV.bool (!(dr q.name)))::(Pt h.nx)::(AV.str q.name)::(AV.bool (dr q.name))::(AV.bool (!(dr q.name)))::(AV.bool (decide (q.ab<q.af)))::(AV.ptr h.nx 1)::(AV.ptr h.nx 1)::(Zi q.af)::(AV.bool (cr q.af))::(AV.bool (!(cr q.af)))::(AV.bool (!(cr q.af)))::(AV.ptr h.nx 1)::(AV.ptr h.nx 2)::(Zi q.ab)::(AV.bool (cr q.ab))::(AV.bool (!(cr q.ab)))::(AV.bool (!(cr q.ab)))::(AV.bool (!(cr q.ab)))::(AV.ptr h.nx 1)::(AV.ptr h.nx 1)::(Zi q.af)::(AV.ptr h.nx 1)::(AV.ptr h.nx 2)::(Zi q.ab)::(AV.bool (decide (q.ab<q.af)))::(AV.bool (decide (q.ab<q.af)))::(AV.bool (decide (10000<q.aD)))::(AV.ptr h.nx 3)::(Zi q.aC)::(AV.bool (decide (q.aC<0)))::(AV.bool (decide (q.aC<0)))::(AV.ptr h.nx 3)::(Zi q.aC)::(AV.bool (decide (10000<q.aC)))::(AV.bool (decide (10000<q.aC)))::(AV.bool (decide (10000<q.aC)))::(AV.ptr h.nx 4)::(Zi q.aD)::(AV.bool (decide (q.aD<0)))::(AV.bool (decide (q.aD<0)))::(AV.bool (decide (q.aD<0)))::(AV.ptr h.nx 4)::(Zi q.aD)::(AV.bool (decide (10000<q.aD)))::(AV.bool (decide (10000<q.aD)))::(AV.bool (decide (8<((q.ar.length:Nat):Int))))::(AV.ptr h.nx 6)::q.ao::(Zn q.ar.length)::(AV.bool (decide (8<((q.ar.length:Nat):Int))))::(AV.bool (decide (((q.ar.length:Nat):Int)<q.bad)))::(AV.ptr h.nx 5)::(Zi q.bad)::(AV.bool (decide (q.bad<0)))::(AV.bool (decide (q.bad<0)))::(AV.ptr h.nx 5)::(Zi q.bad)::(AV.ptr h.nx 6)::q.ao::(Zn q.ar.length)::(AV.bool (decide (((q.ar.length:Nat):Int)<q.bad)))::(AV.bool (decide (((q.ar.length:Nat):Int)<q.bad)))::jl 42):List AV).getD k_ AV.undef) h1 bN bk aH)
                         have RW:=BW.y
                         have Xx:h1.nx≤OB.nx:=BW.n
                         have I0:Has h OB:=bk.trans BW.a
                         have e:aE q=Zj:=by simp only[aE,f0,f1,f2,f3,f4,f5,f6,f7,f8,f9,f10,AJ,aj,ai]
                         rw[e]
                         exact az rfl (a_ Try.func31 cx rfl (.inr rfl) (pk (d+2) _ _ h _ OB (NN bD (fun i=>(Pt i))<|CN 2<|MM (aB 9 0 (AV.str q.name) aH k!)<|EE k2<|CN 2<|BB f0<|CN 2<|MM (aB 3 1 (Zi q.af) aH k!)<|EE k4<|CN 2<|BC f1<|BC f1<|BM f1 (aB 3 2 (Zi q.ab) aH k!)<|BB f1<|EE k6<|BC f1<|VV (aR (a:=some (AV.bool true)) (b:=some (AV.bool (!(cr q.ab)))) f1)<|CC<|BC f2<|BC f2<|BM f2 (aB 3 1 (Zi q.af) aH k!)<|BC f2<|BC f2<|BM f2 (aB 3 2 (Zi q.ab) aH k!)<|BV f2 (bW 3 false false .i64 q.af q.ab)<|VV (aR (a:=some (AV.bool true)) (b:=some (AV.bool (decide (q.ab<q.af)))) f2)<|CC<|BC f3<|MM (aB 3 3 (Zi q.aC) aH k!)<|VV (bz 3 false true .i64 q.aC 0)<|CC<|BC f4<|BM f4 (aB 3 3 (Zi q.aC) aH k!)<|BV f4 (bW 3 false true .i64 q.aC 10000)<|VV (aR (a:=some (AV.bool true)) (b:=some (AV.bool (decide (10000<q.aC)))) f4)<|CC<|BC f5<|BM f5 (aB 3 4 (Zi q.aD) aH k!)<|BV f5 (bz 3 false true .i64 q.aD 0)<|VV (aR (a:=some (AV.bool true)) (b:=some (AV.bool (decide (q.aD<0)))) f5)<|CC<|BC f6<|BM f6 (aB 3 4 (Zi q.aD) aH k!)<|BV f6 (bW 3 false true .i64 q.aD 10000)<|VV (aR (a:=some (AV.bool true)) (b:=some (AV.bool (decide (10000<q.aD)))) f6)<|CC<|BC f7<|MM (aB 24 6 q.ao aH k!)<|VV RV<|VV (bW 3 false true .i64 ((q.ar.length:Nat):Int) 8)<|CC<|BC f8<|MM (aB 3 5 (Zi q.bad) aH k!)<|VV (bz 3 false true .i64 q.bad 0)<|CC<|BC f9<|BM f9 (aB 3 5 (Zi q.bad) aH k!)<|BC f9<|BM f9 (aB 24 6 q.ao aH k!)<|BV f9 Zk<|BV f9 (bW 3 false false .i64 q.bad ((q.ar.length:Nat):Int))<|VV (aR (a:=some (AV.bool true)) (b:=some (AV.bool (decide (((q.ar.length:Nat):Int)<q.bad)))) f9)<|CC<|BC f10<|LL F8<|ZZ) k!) k!) I0 rfl
def F9:Code:=(Try.f32.body).getD .skip
theorem OC:Try.f32.body=some F9:=by kernel_rfl
def dH (g:bY) (t:Int):Int:=(IntKind.i64.wrap (g.acc+(IntKind.i64.wrap (g.bR*(IntKind.i64.wrap (Int.tdiv (IntKind.i64.wrap ((imax (IntKind.i64.wrap (t - g.since)) 0)+999)) 1000))))))
theorem D9 {d:Nat} {h:aw} (g:bY) (t:Int) (Zh:aA.ok h g) (bH:Tidy h):cJ (d+1) (.fn 32) [(AV.agg [(AV.str g.name),(Zi g.acc),(Zi g.bR),(Zi g.since)]),(Zi t)] h= .ret (Zi (dH g t)) h:=by
 obtain ⟨h1,bD,bN,fX,aH,bZ⟩:=gu bH (aY.cells [(AV.str g.name),(Zi g.acc),(Zi g.bR),(Zi g.since)] 63 false)
 have bk:Has h h1:=bZ
 have e:dH g t=(IntKind.i64.wrap (g.acc+(IntKind.i64.wrap (g.bR*(IntKind.i64.wrap (Int.tdiv (IntKind.i64.wrap ((imax (IntKind.i64.wrap (t - g.since)) 0)+999)) 1000)))))):=by simp only[dH,aj,ai]
 rw[e]
 exact az rfl (a_ Try.func32 OC rfl (.inr rfl) (pk (d) _ _ h _ h1 (NN bD (fun i=>(Pt i))<|CN 3<|MM (aB 3 3 (Zi g.since) aH k!)<|CN 4<|MM (aB 3 1 (Zi g.acc) aH k!)<|CC<|MM (aB 3 2 (Zi g.bR) aH k!)<|CN 6<|ZZ) k!) k!) bk rfl
def uR:Code:=(Try.f13.body).getD .skip
theorem mI:Try.f13.body=some uR:=by kernel_rfl
def F_:Code:=(ck uR).getD 0 .skip
def jO (q:ay) (bO:Int):Nat→Nat→Int→Int
 | 0,_,pQ=>pQ
 | dS+1,i0,pQ=>jO q bO dS (i0+1) (imax pQ (dH (q.ar.g i0) bO))
theorem uS {d:Nat} {h:aw} (period:Int) (bO:Int) (q:ay) (cC:Nat) (bI:q.name.length<2^60) (eO:aQ h q.ao q.ar) (ma:aA.ok h q):∀(k_ i_:Nat) (pQ:Int) (_:i_+k_=q.ar.length) (x:Nat→AV) (hh:aw) (aL:Tidy hh) (aX:Has h hh) (bJ:hh.get cC=some (aY.cells [(AV.str q.name),(Zi q.af),(Zi q.ab),(Zi q.aC),(Zi q.aD),(Zi q.bad),q.ao] 26 false)),gN (cJ (d+3)) F_ ⟨((x 0)::(Zi period)::(Zi bO)::(Pt cC)::rx x 4 5 ((Zi pQ)::(Zn i_)::rx x 11 52 [])),hh,[],.no⟩ (.exit 1) hh (fun r y=>((y 0)::(Zi period)::(Zi bO)::(Pt cC)::rx y 4 5 ((Zi r)::rx y 10 53 []))) (fun r=>True) (jO q bO k_ i_ pQ)
 | 0,i0,pQ,jZ,x,hh,aL,aX,bJ=>by
   have oO:=eO.small
   have pP:=aL _ _ bJ
   have ie:dw (some (.slice 63)) (some q.ao)=some (Zn q.ar.length):=(eO.has aX).len
   have q2:(decide (((i0:Nat):Int)<((q.ar.length:Nat):Int)))=false:=d!
   exact gN.out pQ rfl (pk (d+3) _ _ hh _ hh (CN 2<|MM (aB 24 6 q.ao bJ k!)<|VV ie<|VV (bz 3 false false .i64 ((i0:Nat):Int) ((q.ar.length:Nat):Int))<|BB q2<|ZZ) k!) (Grow.refl aL) trivial k!
 | dS+1,i0,pQ,jZ,x,hh,aL,aX,bJ=>by
   have oO:=eO.small
   have pP:=aL _ _ bJ
   have ie:dw (some (.slice 63)) (some q.ao)=some (Zn q.ar.length):=(eO.has aX).len
   have q2:(decide (((i0:Nat):Int)<((q.ar.length:Nat):Int)))=true:=d!
   obtain ⟨p4,q5,mH⟩:=(eO.has aX).elem (i:=i0) o!
   have py:di env (some (.slice 63)) (some q.ao) (some (Zn i0))=some (AV.ptr p4 q5):=mH
   have pz:bA env hh 63 (AV.ptr p4 q5)=some (AV.agg [(AV.str (q.ar.g i0).name),(Zi (q.ar.g i0).acc),(Zi (q.ar.g i0).bR),(Zi (q.ar.g i0).since)]):=(eO.has aX).load o! mH
   have k7:=D9 (d:=d+2) (q.ar.g i0) bO ((eO.has aX).ok (i:=i0) o!) aL
   have u8:=eR 3 false true i0 1 o!
   exact gN.round (by simp only[jO,aj,ai]) (pk (d+3) _ _ hh _ hh (CN 2<|MM (aB 24 6 q.ao bJ k!)<|VV ie<|VV (bz 3 false false .i64 ((i0:Nat):Int) ((q.ar.length:Nat):Int))<|BB q2<|CN 2<|MM (aB 24 6 q.ao bJ k!)<|CC<|VV py<|MM pz<|CC<|EE k7<|CN 3<|VV u8<|CC<|ZZ) k!) (Grow.refl aL) _ k! (fun x=>uS period bO q cC bI eO ma dS (i0+1) (imax pQ (dH (q.ar.g i0) bO)) o! x hh aL aX bJ)
def cY (q:ay) (period:Int) (bO:Int):Int×Int:=(bif (!decide ((aE q)=0)) then (0,(aE q)) else (bif (decide (period<1)) then (0,1) else (bif (decide (100000<period)) then (0,1) else (bif (!(cT bO)) then (0,1) else (bif (decide (((q.ar.length:Nat):Int)≤(IntKind.i64.wrap (2*q.bad)))) then (0,9) else ((IntKind.i64.wrap ((IntKind.i64.wrap (2*(jO q bO q.ar.length 0 0)))+(IntKind.i64.wrap ((IntKind.i64.wrap (q.aC+q.aD))*period)))),0))))))
theorem K2 {d:Nat} {h:aw} (q:ay) (period:Int) (bO:Int) (eP:aA.ok h q) (bH:Tidy h):cJ (d+4) (.fn 13) [(AV.agg [(AV.str q.name),(Zi q.af),(Zi q.ab),(Zi q.aC),(Zi q.aD),(Zi q.bad),q.ao]),(Zi period),(Zi bO)] h= .ret (AV.tuple [(Zi (cY q period bO).1),(Zi (cY q period bO).2)]) h:=by
 have fW:=eP.2.small
 obtain ⟨h1,bD,bN,fX,aH,bZ⟩:=gu bH (aY.cells [(AV.str q.name),(Zi q.af),(Zi q.ab),(Zi q.aC),(Zi q.aD),(Zi q.bad),q.ao] 26 false)
 have bk:Has h h1:=bZ
 have k2:=pA (d:=d) q (aA.mono bk eP) bN
 rcases Bool.eq_false_or_eq_true (!decide ((aE q)=0)) with f0 | f0
 · have ir:=AG f0
   have e:cY q period bO=(0,(aE q)):=by simp only[cY,f0,aj,ai]
   rw[e]
   exact az rfl (a_ Try.func13 mI rfl (.inr rfl) (pk (d+3) _ _ h _ h1 (NN bD (fun i=>(Pt i))<|CN 2<|MM (aB 26 0 (AV.agg [(AV.str q.name),(Zi q.af),(Zi q.ab),(Zi q.aC),(Zi q.aD),(Zi q.bad),q.ao]) aH k!)<|EE k2<|CN 2<|VV (eh 31 false true .i64 (aE q) 0)<|CC<|BB f0<|CN 3<|ZZ) k!) k!) bk rfl
 · have ir:=AH f0
   rcases Bool.eq_false_or_eq_true (decide (period<1)) with f1 | f1
   · have iK:=of_decide_eq_true f1
     have e:cY q period bO=(0,1):=by simp only[cY,f0,f1,aj,ai]
     rw[e]
     exact az rfl (a_ Try.func13 mI rfl (.inr rfl) (pk (d+3) _ _ h _ h1 (NN bD (fun i=>(Pt i))<|CN 2<|MM (aB 26 0 (AV.agg [(AV.str q.name),(Zi q.af),(Zi q.ab),(Zi q.aC),(Zi q.aD),(Zi q.bad),q.ao]) aH k!)<|EE k2<|CN 2<|VV (eh 31 false true .i64 (aE q) 0)<|CC<|BC f0<|VV (bz 3 false true .i64 period 1)<|CC<|BB f1<|BV f1 (nR true f1)<|CC<|TT<|TT<|TT<|CN 2<|TT<|CN 2<|ZZ) k!) k!) bk rfl
   · have iK:=of_decide_eq_false f1
     rcases Bool.eq_false_or_eq_true (decide (100000<period)) with f2 | f2
     · have pO:=of_decide_eq_true f2
       have e:cY q period bO=(0,1):=by simp only[cY,f0,f1,f2,aj,ai]
       rw[e]
       exact az rfl (a_ Try.func13 mI rfl (.inr rfl) (pk (d+3) _ _ h _ h1 (NN bD (fun i=>(Pt i))<|CN 2<|MM (aB 26 0 (AV.agg [(AV.str q.name),(Zi q.af),(Zi q.ab),(Zi q.aC),(Zi q.aD),(Zi q.bad),q.ao]) aH k!)<|EE k2<|CN 2<|VV (eh 31 false true .i64 (aE q) 0)<|CC<|BC f0<|VV (bz 3 false true .i64 period 1)<|CC<|BC f1<|BV f1 (bW 3 false true .i64 period 100000)<|VV (aR (a:=some (AV.bool true)) (b:=some (AV.bool (decide (100000<period)))) f1)<|CC<|BB f2<|BB f2<|BV f2 (nR true f2)<|CC<|TT<|CN 2<|ZZ) k!) k!) bk rfl
     · have pO:=of_decide_eq_false f2
       have k6:=uf (d:=d+2) bO bN
       rcases Bool.eq_false_or_eq_true (!(cT bO)) with f3 | f3
       · have e:cY q period bO=(0,1):=by simp only[cY,f0,f1,f2,f3,aj,ai]
         rw[e]
         exact az rfl (a_ Try.func13 mI rfl (.inr rfl) (pk (d+3) _ _ h _ h1 (NN bD (fun i=>(Pt i))<|CN 2<|MM (aB 26 0 (AV.agg [(AV.str q.name),(Zi q.af),(Zi q.ab),(Zi q.aC),(Zi q.aD),(Zi q.bad),q.ao]) aH k!)<|EE k2<|CN 2<|VV (eh 31 false true .i64 (aE q) 0)<|CC<|BC f0<|VV (bz 3 false true .i64 period 1)<|CC<|BC f1<|BV f1 (bW 3 false true .i64 period 100000)<|VV (aR (a:=some (AV.bool true)) (b:=some (AV.bool (decide (100000<period)))) f1)<|CC<|BC f2<|BB f2<|EE k6<|BC f2<|VV (aR (a:=some (AV.bool true)) (b:=some (AV.bool (!(cT bO)))) f2)<|CC<|BB f3<|CN 2<|ZZ) k!) k!) bk rfl
       · have IT:dw (some (.slice 63)) (some q.ao)=some (Zn q.ar.length):=eP.2.len
         rcases Bool.eq_false_or_eq_true (decide (((q.ar.length:Nat):Int)≤(IntKind.i64.wrap (2*q.bad)))) with f4 | f4
         · have l8:=of_decide_eq_true f4
           have e:cY q period bO=(0,9):=by simp only[cY,f0,f1,f2,f3,f4,aj,ai]
           rw[e]
           exact az rfl (a_ Try.func13 mI rfl (.inr rfl) (pk (d+3) _ _ h _ h1 (NN bD (fun i=>(Pt i))<|CN 2<|MM (aB 26 0 (AV.agg [(AV.str q.name),(Zi q.af),(Zi q.ab),(Zi q.aC),(Zi q.aD),(Zi q.bad),q.ao]) aH k!)<|EE k2<|CN 2<|VV (eh 31 false true .i64 (aE q) 0)<|CC<|BC f0<|VV (bz 3 false true .i64 period 1)<|CC<|BC f1<|BV f1 (bW 3 false true .i64 period 100000)<|VV (aR (a:=some (AV.bool true)) (b:=some (AV.bool (decide (100000<period)))) f1)<|CC<|BC f2<|BB f2<|EE k6<|BC f2<|VV (aR (a:=some (AV.bool true)) (b:=some (AV.bool (!(cT bO)))) f2)<|CC<|BC f3<|MM (aB 24 6 q.ao aH k!)<|VV IT<|CC<|MM (aB 3 5 (Zi q.bad) aH k!)<|CC<|VV (gR 3 false false .i64 ((q.ar.length:Nat):Int) (IntKind.i64.wrap (2*q.bad)))<|CC<|BB f4<|CN 2<|ZZ) k!) k!) bk rfl
         · have l8:=of_decide_eq_false f4
           obtain ⟨ahb,xZ,V0,I1,abU⟩:=uS (d:=d) (h:=h) period bO q h.nx eP.1 eP.2 eP q.ar.length 0 0 o! (fun k_=>(((AV.agg [(AV.str q.name),(Zi q.af),(Zi q.ab),(Zi q.aC),(Zi q.aD),(Zi q.bad),q.ao])::(Zi period)::(Zi bO)::(Pt h.nx)::AV.undef::AV.undef::(Zi 0)::(Zi 0)::(Zi (aE q))::(Zi 0)::(Zi 0)::(AV.agg [(AV.str q.name),(Zi q.af),(Zi q.ab),(Zi q.aC),(Zi q.aD),(Zi q.bad),q.ao])::(Zi (aE q))::(AV.bool (!decide ((aE q)=0)))::(Zi (aE q))::(AV.bool (!decide ((aE q)=0)))::AV.undef::(AV.bool (!(cT bO)))::(Zi period)::(AV.bool (decide (period<1)))::(AV.bool (decide (period<1)))::(Zi period)::(AV.bool (decide (100000<period)))::(AV.bool (decide (100000<period)))::(AV.bool (decide (100000<period)))::(Zi bO)::(AV.bool (cT bO))::(AV.bool (!(cT bO)))::(AV.bool (!(cT bO)))::(AV.bool (decide (((q.ar.length:Nat):Int)≤(IntKind.i64.wrap (2*q.bad)))))::(AV.ptr h.nx 6)::q.ao::(Zn q.ar.length)::(AV.ptr h.nx 5)::(Zi q.bad)::(Zi (IntKind.i64.wrap (2*q.bad)))::(AV.bool (decide (((q.ar.length:Nat):Int)≤(IntKind.i64.wrap (2*q.bad)))))::jl 26):List AV).getD k_ AV.undef) h1 bN bk aH
           have zH:=I1.y
           have agu:h1.nx≤xZ.nx:=I1.n
           have BY:Has h xZ:=bk.trans I1.a
           have e:cY q period bO=((IntKind.i64.wrap ((IntKind.i64.wrap (2*(jO q bO q.ar.length 0 0)))+(IntKind.i64.wrap ((IntKind.i64.wrap (q.aC+q.aD))*period)))),0):=by simp only[cY,f0,f1,f2,f3,f4,aj,ai]
           rw[e]
           exact az rfl (a_ Try.func13 mI rfl (.inr rfl) (pk (d+3) _ _ h _ xZ (NN bD (fun i=>(Pt i))<|CN 2<|MM (aB 26 0 (AV.agg [(AV.str q.name),(Zi q.af),(Zi q.ab),(Zi q.aC),(Zi q.aD),(Zi q.bad),q.ao]) aH k!)<|EE k2<|CN 2<|VV (eh 31 false true .i64 (aE q) 0)<|CC<|BC f0<|VV (bz 3 false true .i64 period 1)<|CC<|BC f1<|BV f1 (bW 3 false true .i64 period 100000)<|VV (aR (a:=some (AV.bool true)) (b:=some (AV.bool (decide (100000<period)))) f1)<|CC<|BC f2<|BB f2<|EE k6<|BC f2<|VV (aR (a:=some (AV.bool true)) (b:=some (AV.bool (!(cT bO)))) f2)<|CC<|BC f3<|MM (aB 24 6 q.ao aH k!)<|VV IT<|CC<|MM (aB 3 5 (Zi q.bad) aH k!)<|CC<|VV (gR 3 false false .i64 ((q.ar.length:Nat):Int) (IntKind.i64.wrap (2*q.bad)))<|CC<|BB f4<|CN 2<|LL V0<|CN 3<|MM (aB 3 3 (Zi q.aC) (I1.a _ _ aH) k!)<|CC<|MM (aB 3 4 (Zi q.aD) (I1.a _ _ aH) k!)<|CN 6<|ZZ) k!) k!) BY rfl
def uz:Code:=(Try.f36.body).getD .skip
theorem iM:Try.f36.body=some uz:=by kernel_rfl
def ch (q:ay) (r:aM):Int:=(bif (decide (r.aN<0)) then 7 else (bif (decide (((q.ar.length:Nat):Int)≤r.aN)) then 7 else (bif (!(cT r.time)) then 1 else (bif (!(cr r.value)) then 1 else 0))))
theorem yP {d:Nat} {h:aw} (q:ay) (r:aM) (eP:aA.ok h q) (h_r:aA.ok h r) (bH:Tidy h):cJ (d+2) (.fn 36) [(AV.agg [(AV.str q.name),(Zi q.af),(Zi q.ab),(Zi q.aC),(Zi q.aD),(Zi q.bad),q.ao]),(AV.agg [(Zi r.aN),(Zi r.time),(Zi r.value)])] h= .ret (Zi (ch q r)) h:=by
 have fW:=eP.2.small
 obtain ⟨h1,bD,bN,fX,aH,bZ⟩:=gu bH (aY.cells [(AV.str q.name),(Zi q.af),(Zi q.ab),(Zi q.aC),(Zi q.aD),(Zi q.bad),q.ao] 26 false)
 have bk:Has h h1:=bZ
 obtain ⟨h2,iQ,fJ,uA,dh,dz⟩:=gu bN (aY.cells [(Zi r.aN),(Zi r.time),(Zi r.value)] 44 false)
 have fl:Has h h2:=bk.trans dz
 rcases Bool.eq_false_or_eq_true (decide (r.aN<0)) with f0 | f0
 · have ir:=of_decide_eq_true f0
   have e:ch q r=7:=by simp only[ch,f0,aj,ai]
   rw[e]
   exact az rfl (a_ Try.func36 iM rfl (.inr rfl) (pk (d+1) _ _ h _ h2 (NN bD (fun i=>(Pt i))<|NN iQ (fun i=>(Pt i))<|CN 2<|MM (aB 3 0 (Zi r.aN) dh k!)<|VV (bz 3 false true .i64 r.aN 0)<|CC<|BB f0<|BB f0<|BB f0<|BB f0<|BB f0<|BV f0 (nR true f0)<|TT<|CC<|ZZ) k!) k!) fl rfl
 · have ir:=of_decide_eq_false f0
   have IS:dw (some (.slice 63)) (some q.ao)=some (Zn q.ar.length):=eP.2.len
   rcases Bool.eq_false_or_eq_true (decide (((q.ar.length:Nat):Int)≤r.aN)) with f1 | f1
   · have iK:=of_decide_eq_true f1
     have e:ch q r=7:=by simp only[ch,f0,f1,aj,ai]
     rw[e]
     exact az rfl (a_ Try.func36 iM rfl (.inr rfl) (pk (d+1) _ _ h _ h2 (NN bD (fun i=>(Pt i))<|NN iQ (fun i=>(Pt i))<|CN 2<|MM (aB 3 0 (Zi r.aN) dh k!)<|VV (bz 3 false true .i64 r.aN 0)<|CC<|BC f0<|BM f0 (aB 3 0 (Zi r.aN) dh k!)<|BC f0<|BM f0 (aB 24 6 q.ao (dz _ _ aH) k!)<|BV f0 IS<|BV f0 (eN 3 false false .i64 r.aN ((q.ar.length:Nat):Int))<|VV (aR (a:=some (AV.bool true)) (b:=some (AV.bool (decide (((q.ar.length:Nat):Int)≤r.aN)))) f0)<|BC f1<|ZZ) k!) k!) fl rfl
   · have iK:=of_decide_eq_false f1
     have k6:=uf (d:=d) r.time fJ
     rcases Bool.eq_false_or_eq_true (!(cT r.time)) with f2 | f2
     · have e:ch q r=1:=by simp only[ch,f0,f1,f2,aj,ai]
       rw[e]
       exact az rfl (a_ Try.func36 iM rfl (.inr rfl) (pk (d+1) _ _ h _ h2 (NN bD (fun i=>(Pt i))<|NN iQ (fun i=>(Pt i))<|CN 2<|MM (aB 3 0 (Zi r.aN) dh k!)<|VV (bz 3 false true .i64 r.aN 0)<|CC<|BC f0<|BM f0 (aB 3 0 (Zi r.aN) dh k!)<|BC f0<|BM f0 (aB 24 6 q.ao (dz _ _ aH) k!)<|BV f0 IS<|BV f0 (eN 3 false false .i64 r.aN ((q.ar.length:Nat):Int))<|VV (aR (a:=some (AV.bool true)) (b:=some (AV.bool (decide (((q.ar.length:Nat):Int)≤r.aN)))) f0)<|BC f1<|MM (aB 3 1 (Zi r.time) dh k!)<|EE k6<|CN 2<|BB f2<|BB f2<|BB f2<|BV f2 (nR true f2)<|TT<|CC<|ZZ) k!) k!) fl rfl
     · have k8:=yO (d:=d) r.value fJ
       rcases Bool.eq_false_or_eq_true (!(cr r.value)) with f3 | f3
       · have e:ch q r=1:=by simp only[ch,f0,f1,f2,f3,aj,ai]
         rw[e]
         exact az rfl (a_ Try.func36 iM rfl (.inr rfl) (pk (d+1) _ _ h _ h2 (NN bD (fun i=>(Pt i))<|NN iQ (fun i=>(Pt i))<|CN 2<|MM (aB 3 0 (Zi r.aN) dh k!)<|VV (bz 3 false true .i64 r.aN 0)<|CC<|BC f0<|BM f0 (aB 3 0 (Zi r.aN) dh k!)<|BC f0<|BM f0 (aB 24 6 q.ao (dz _ _ aH) k!)<|BV f0 IS<|BV f0 (eN 3 false false .i64 r.aN ((q.ar.length:Nat):Int))<|VV (aR (a:=some (AV.bool true)) (b:=some (AV.bool (decide (((q.ar.length:Nat):Int)≤r.aN)))) f0)<|BC f1<|MM (aB 3 1 (Zi r.time) dh k!)<|EE k6<|CN 2<|BC f2<|BM f2 (aB 3 2 (Zi r.value) dh k!)<|BB f2<|EE k8<|BC f2<|VV (aR (a:=some (AV.bool true)) (b:=some (AV.bool (!(cr r.value)))) f2)<|BC f3<|ZZ) k!) k!) fl rfl
       · have e:ch q r=0:=by simp only[ch,f0,f1,f2,f3,aj,ai]
         rw[e]
         exact az rfl (a_ Try.func36 iM rfl (.inr rfl) (pk (d+1) _ _ h _ h2 (NN bD (fun i=>(Pt i))<|NN iQ (fun i=>(Pt i))<|CN 2<|MM (aB 3 0 (Zi r.aN) dh k!)<|VV (bz 3 false true .i64 r.aN 0)<|CC<|BC f0<|BM f0 (aB 3 0 (Zi r.aN) dh k!)<|BC f0<|BM f0 (aB 24 6 q.ao (dz _ _ aH) k!)<|BV f0 IS<|BV f0 (eN 3 false false .i64 r.aN ((q.ar.length:Nat):Int))<|VV (aR (a:=some (AV.bool true)) (b:=some (AV.bool (decide (((q.ar.length:Nat):Int)≤r.aN)))) f0)<|BC f1<|MM (aB 3 1 (Zi r.time) dh k!)<|EE k6<|CN 2<|BC f2<|BM f2 (aB 3 2 (Zi r.value) dh k!)<|BB f2<|EE k8<|BC f2<|VV (aR (a:=some (AV.bool true)) (b:=some (AV.bool (!(cr r.value)))) f2)<|BC f3<|ZZ) k!) k!) fl rfl
def nf:Code:=(Try.f18.body).getD .skip
theorem mc:Try.f18.body=some nf:=by kernel_rfl
def uB:Code:=(ck nf).getD 0 .skip
def bT (q:ay) (l_:List aM):Nat→Nat→Int→Int
 | 0,_,ib=>ib
 | dS+1,i0,ib=>(bif (decide (ib=0)) then bT q l_ dS (i0+1) (ch q (l_.g i0)) else ib)
theorem ic {d:Nat} {h:aw} (dB:AV) (l_:List aM) (q:ay) (cC:Nat) (bI:aQ h dB l_) (eO:q.name.length<2^60) (kP:aQ h q.ao q.ar) (ma:aA.ok h q):∀(k_ i_:Nat) (ib:Int) (_:i_+k_=l_.length) (x:Nat→AV) (hh:aw) (aL:Tidy hh) (aX:Has h hh) (bJ:hh.get cC=some (aY.cells [(AV.str q.name),(Zi q.af),(Zi q.ab),(Zi q.aC),(Zi q.aD),(Zi q.bad),q.ao] 26 false)),gN (cJ (d+3)) uB ⟨((x 0)::dB::(Pt cC)::(x 3)::(x 4)::(Zi ib)::(Zn i_)::rx x 7 26 []),hh,[],.no⟩ (.exit 0) hh (fun r y=>((y 0)::dB::(Pt cC)::(y 3)::(y 4)::(Zi r)::rx y 6 27 [])) (fun r=>True) (bT q l_ k_ i_ ib)
 | 0,i0,ib,jZ,x,hh,aL,aX,bJ=>by
   have fN:=bI.small
   have rj:=kP.small
   have pP:=aL _ _ bJ
   have ie:dw (some (.slice 44)) (some dB)=some (Zn l_.length):=(bI.has aX).len
   have q2:(decide (((i0:Nat):Int)<((l_.length:Nat):Int)))=false:=d!
   exact gN.out ib rfl (pk (d+3) _ _ hh _ hh (CN 2<|VV ie<|VV (bz 3 false false .i64 ((i0:Nat):Int) ((l_.length:Nat):Int))<|CC<|BB q2<|BV q2 (pN false q2)<|FF<|ZZ) k!) (Grow.refl aL) trivial k!
 | dS+1,i0,ib,jZ,x,hh,aL,aX,bJ=>by
   have fN:=bI.small
   have rj:=kP.small
   have pP:=aL _ _ bJ
   have ie:dw (some (.slice 44)) (some dB)=some (Zn l_.length):=(bI.has aX).len
   have q2:(decide (((i0:Nat):Int)<((l_.length:Nat):Int)))=true:=d!
   rcases Bool.eq_false_or_eq_true (decide (ib=0)) with f1 | f1
   · have iK:=of_decide_eq_true f1
     obtain ⟨p5,q6,RX⟩:=(bI.has aX).elem (i:=i0) o!
     have xf:di env (some (.slice 44)) (some dB) (some (Zn i0))=some (AV.ptr p5 q6):=RX
     have ld7:bA env hh 44 (AV.ptr p5 q6)=some (AV.agg [(Zi (l_.g i0).aN),(Zi (l_.g i0).time),(Zi (l_.g i0).value)]):=(bI.has aX).load o! RX
     have k8:=yP (d:=d+1) q (l_.g i0) (aA.mono aX ma) trivial aL
     have c9:AV.same 20 (AV.agg [(AV.str q.name),(Zi q.af),(Zi q.ab),(Zi q.aC),(Zi q.aD),(Zi q.bad),q.ao]) (AV.agg [(AV.str q.name),(Zi q.af),(Zi q.ab),(Zi q.aC),(Zi q.aD),(Zi q.bad),q.ao])=true:=dx 18 (hD (fun n=>iJ n _) (hD (fun n=>aG n _ _) (hD (fun n=>aG n _ _) (hD (fun n=>aG n _ _) (hD (fun n=>aG n _ _) (hD (fun n=>aG n _ _) (hD (kP.has aX).same AF)))))))
     have vG:AV.same 20 (AV.agg [(Zi (l_.g i0).aN),(Zi (l_.g i0).time),(Zi (l_.g i0).value)]) (AV.agg [(Zi (l_.g i0).aN),(Zi (l_.g i0).time),(Zi (l_.g i0).value)])=true:=dx 18 (hD (fun n=>aG n _ _) (hD (fun n=>aG n _ _) (hD (fun n=>aG n _ _) AF)))
     have Hj:=eR 3 false true i0 1 o!
     exact gN.round (by simp only[bT,f1,aj,ai]) (pk (d+3) _ _ hh _ hh (CN 2<|VV ie<|VV (bz 3 false false .i64 ((i0:Nat):Int) ((l_.length:Nat):Int))<|CC<|BC q2<|BV q2 (fh 31 false true .i64 ib 0)<|VV (jA (decide (ib=0)) false q2)<|BM f1 (aB 26 0 (AV.agg [(AV.str q.name),(Zi q.af),(Zi q.ab),(Zi q.aC),(Zi q.aD),(Zi q.bad),q.ao]) bJ k!)<|CN 2<|VV xf<|MM ld7<|EE k8<|CC<|HH (aB 26 0 (AV.agg [(AV.str q.name),(Zi q.af),(Zi q.ab),(Zi q.aC),(Zi q.aD),(Zi q.bad),q.ao]) bJ k!)<|HH c9<|HH ld7<|HH vG<|CC<|VV Hj<|CC<|ZZ) k!) (Grow.refl aL) _ k! (fun x=>ic dB l_ q cC bI eO kP ma dS (i0+1) (ch q (l_.g i0)) o! x hh aL aX bJ)
   · have iK:=of_decide_eq_false f1
     exact gN.out ib (by simp only[bT,f1,aj,ai]) (pk (d+3) _ _ hh _ hh (CN 2<|VV ie<|VV (bz 3 false false .i64 ((i0:Nat):Int) ((l_.length:Nat):Int))<|CC<|BC q2<|BV q2 (fh 31 false true .i64 ib 0)<|VV (jA (decide (ib=0)) false q2)<|BB f1<|ZZ) k!) (Grow.refl aL) trivial k!
def aO (q:ay) (l_:List aM):Int:=(bif (decide ((aE q)=0)) then (bif (decide (64<((l_.length:Nat):Int))) then (bT q l_ l_.length 0 3) else (bT q l_ l_.length 0 (aE q))) else (bT q l_ l_.length 0 (aE q)))
theorem jB {d:Nat} {h:aw} {dB:AV} (q:ay) (l_:List aM) (eP:aA.ok h q) (eY:aQ h dB l_) (bH:Tidy h):cJ (d+4) (.fn 18) [(AV.agg [(AV.str q.name),(Zi q.af),(Zi q.ab),(Zi q.aC),(Zi q.aD),(Zi q.bad),q.ao]),dB] h= .ret (Zi (aO q l_)) h:=by
 have oP:=eY.small
 have fW:=eP.2.small
 obtain ⟨h1,bD,bN,fX,aH,bZ⟩:=gu bH (aY.cells [(AV.str q.name),(Zi q.af),(Zi q.ab),(Zi q.aC),(Zi q.aD),(Zi q.bad),q.ao] 26 false)
 have bk:Has h h1:=bZ
 have k2:=pA (d:=d) q (aA.mono bk eP) bN
 rcases Bool.eq_false_or_eq_true (decide ((aE q)=0)) with f0 | f0
 · have ir:=of_decide_eq_true f0
   have IS:dw (some (.slice 44)) (some dB)=some (Zn l_.length):=eY.len
   rcases Bool.eq_false_or_eq_true (decide (64<((l_.length:Nat):Int))) with f1 | f1
   · have iK:=of_decide_eq_true f1
     obtain ⟨yl6,h7,rk,Ah,MW⟩:=ic (d:=d) (h:=h) dB l_ q h.nx eY eP.1 eP.2 eP l_.length 0 3 o! (fun k_=>(((AV.agg [(AV.str q.name),(Zi q.af),(Zi q.ab),(Zi q.aC),(Zi q.aD),(Zi q.bad),q.ao])::dB::(Pt h.nx)::AV.undef::(Zi 0)::(Zi 3)::(Zi 0)::(AV.agg [(AV.str q.name),(Zi q.af),(Zi q.ab),(Zi q.aC),(Zi q.aD),(Zi q.bad),q.ao])::(Zi (aE q))::(Zi (aE q))::(AV.bool (decide ((aE q)=0)))::(AV.bool (decide ((aE q)=0)))::dB::(Zn l_.length)::(AV.bool (decide (64<((l_.length:Nat):Int))))::(AV.bool (decide (64<((l_.length:Nat):Int))))::jl 17):List AV).getD k_ AV.undef) h1 bN bk aH
     have iR:=Ah.y
     have V1:h1.nx≤h7.nx:=Ah.n
     have hI:Has h h7:=bk.trans Ah.a
     have e:aO q l_=(bT q l_ l_.length 0 3):=by simp only[aO,f0,f1,aj,ai]
     rw[e]
     exact az rfl (a_ Try.func18 mc rfl (.inr rfl) (pk (d+3) _ _ h _ h7 (NN bD (fun i=>(Pt i))<|CC<|MM (aB 26 0 (AV.agg [(AV.str q.name),(Zi q.af),(Zi q.ab),(Zi q.aC),(Zi q.aD),(Zi q.bad),q.ao]) aH k!)<|EE k2<|CN 2<|VV (fh 31 false true .i64 (aE q) 0)<|CC<|BC f0<|BV f0 IS<|BV f0 (bW 3 false true .i64 ((l_.length:Nat):Int) 64)<|VV (jA (decide (64<((l_.length:Nat):Int))) false f0)<|BB f1<|CN 2<|LL rk<|CN 2<|ZZ) k!) k!) hI rfl
   · have iK:=of_decide_eq_false f1
     obtain ⟨yl6,h7,rk,Ah,MW⟩:=ic (d:=d) (h:=h) dB l_ q h.nx eY eP.1 eP.2 eP l_.length 0 (aE q) o! (fun k_=>(((AV.agg [(AV.str q.name),(Zi q.af),(Zi q.ab),(Zi q.aC),(Zi q.aD),(Zi q.bad),q.ao])::dB::(Pt h.nx)::AV.undef::(Zi 0)::(Zi (aE q))::(Zi 0)::(AV.agg [(AV.str q.name),(Zi q.af),(Zi q.ab),(Zi q.aC),(Zi q.aD),(Zi q.bad),q.ao])::(Zi (aE q))::(Zi (aE q))::(AV.bool (decide ((aE q)=0)))::(AV.bool (decide ((aE q)=0)))::dB::(Zn l_.length)::(AV.bool (decide (64<((l_.length:Nat):Int))))::(AV.bool (decide (64<((l_.length:Nat):Int))))::jl 17):List AV).getD k_ AV.undef) h1 bN bk aH
     have iR:=Ah.y
     have V1:h1.nx≤h7.nx:=Ah.n
     have hI:Has h h7:=bk.trans Ah.a
     have e:aO q l_=(bT q l_ l_.length 0 (aE q)):=by simp only[aO,f0,f1,aj,ai]
     rw[e]
     exact az rfl (a_ Try.func18 mc rfl (.inr rfl) (pk (d+3) _ _ h _ h7 (NN bD (fun i=>(Pt i))<|CC<|MM (aB 26 0 (AV.agg [(AV.str q.name),(Zi q.af),(Zi q.ab),(Zi q.aC),(Zi q.aD),(Zi q.bad),q.ao]) aH k!)<|EE k2<|CN 2<|VV (fh 31 false true .i64 (aE q) 0)<|CC<|BC f0<|BV f0 IS<|BV f0 (bW 3 false true .i64 ((l_.length:Nat):Int) 64)<|VV (jA (decide (64<((l_.length:Nat):Int))) false f0)<|BC f1<|LL rk<|CN 2<|ZZ) k!) k!) hI rfl
 · have ir:=of_decide_eq_false f0
   obtain ⟨Pr,h5,fO,iu,adW⟩:=ic (d:=d) (h:=h) dB l_ q h.nx eY eP.1 eP.2 eP l_.length 0 (aE q) o! (fun k_=>(((AV.agg [(AV.str q.name),(Zi q.af),(Zi q.ab),(Zi q.aC),(Zi q.aD),(Zi q.bad),q.ao])::dB::(Pt h.nx)::AV.undef::(Zi 0)::(Zi (aE q))::(Zi 0)::(AV.agg [(AV.str q.name),(Zi q.af),(Zi q.ab),(Zi q.aC),(Zi q.aD),(Zi q.bad),q.ao])::(Zi (aE q))::(Zi (aE q))::(AV.bool (decide ((aE q)=0)))::(AV.bool (decide ((aE q)=0)))::AV.undef::AV.undef::AV.undef::(AV.bool false)::jl 17):List AV).getD k_ AV.undef) h1 bN bk aH
   have jJ:=iu.y
   have vD:h1.nx≤h5.nx:=iu.n
   have iP:Has h h5:=bk.trans iu.a
   have e:aO q l_=(bT q l_ l_.length 0 (aE q)):=by simp only[aO,f0,aj,ai]
   rw[e]
   exact az rfl (a_ Try.func18 mc rfl (.inr rfl) (pk (d+3) _ _ h _ h5 (NN bD (fun i=>(Pt i))<|CC<|MM (aB 26 0 (AV.agg [(AV.str q.name),(Zi q.af),(Zi q.ab),(Zi q.aC),(Zi q.aD),(Zi q.bad),q.ao]) aH k!)<|EE k2<|CN 2<|VV (fh 31 false true .i64 (aE q) 0)<|CC<|BB f0<|BB f0<|BV f0 (pN false f0)<|FF<|CC<|LL fO<|CN 2<|ZZ) k!) k!) iP rfl
def F':Code:=(Try.f47.body).getD .skip
theorem OD:Try.f47.body=some F':=by kernel_rfl
def nU (a:Span):Bool:=(decide (a.aF<a.aP))
theorem OE {d:Nat} {h:aw} (a:Span) (Oy:aA.ok h a) (bH:Tidy h):cJ (d+1) (.fn 47) [(AV.agg [(Zi a.aP),(Zi a.aF)])] h= .ret (AV.bool (nU a)) h:=by
 obtain ⟨h1,bD,bN,fX,aH,bZ⟩:=gu bH (aY.cells [(Zi a.aP),(Zi a.aF)] 23 false)
 have bk:Has h h1:=bZ
 have e:nU a=(decide (a.aF<a.aP)):=by simp only[nU,aj,ai]
 rw[e]
 exact az rfl (a_ Try.func47 OD rfl (.inr rfl) (pk (d) _ _ h _ h1 (NN bD (fun i=>(Pt i))<|CN 2<|MM (aB 3 0 (Zi a.aP) aH k!)<|CC<|MM (aB 3 1 (Zi a.aF) aH k!)<|VV (bW 3 false false .i64 a.aP a.aF)<|CC<|ZZ) k!) k!) bk rfl
def I2:Code:=(Try.f49.body).getD .skip
theorem I3:Try.f49.body=some I2:=by kernel_rfl
def cR (q:ay) (k_:cu) (t:Int):Span:=(bif (decide (k_.time≤t)) then (⟨(IntKind.i64.wrap (k_.aq -(IntKind.i64.wrap (q.aD*(IntKind.i64.wrap (t - k_.time)))))),(IntKind.i64.wrap (k_.ak+(IntKind.i64.wrap (q.aC*(IntKind.i64.wrap (t - k_.time))))))⟩:Span) else (⟨(IntKind.i64.wrap (k_.aq -(IntKind.i64.wrap (q.aC*(IntKind.i64.wrap (k_.time - t)))))),(IntKind.i64.wrap (k_.ak+(IntKind.i64.wrap (q.aD*(IntKind.i64.wrap (k_.time - t))))))⟩:Span))
theorem BZ {d:Nat} {h:aw} (q:ay) (k_:cu) (t:Int) (eP:aA.ok h q) (ahc:aA.ok h k_) (bH:Tidy h):cJ (d+1) (.fn 49) [(AV.agg [(AV.str q.name),(Zi q.af),(Zi q.ab),(Zi q.aC),(Zi q.aD),(Zi q.bad),q.ao]),(AV.agg [(Zi k_.time),(Zi k_.aq),(Zi k_.ak)]),(Zi t)] h= .ret (AV.agg [(Zi (cR q k_ t).aP),(Zi (cR q k_ t).aF)]) h:=by
 have fW:=eP.2.small
 obtain ⟨h1,bD,bN,fX,aH,bZ⟩:=gu bH (aY.cells [(AV.str q.name),(Zi q.af),(Zi q.ab),(Zi q.aC),(Zi q.aD),(Zi q.bad),q.ao] 26 false)
 have bk:Has h h1:=bZ
 obtain ⟨h2,iQ,fJ,uA,dh,dz⟩:=gu bN (aY.cells [(Zi k_.time),(Zi k_.aq),(Zi k_.ak)] 88 false)
 have fl:Has h h2:=bk.trans dz
 obtain ⟨h3,s7,eZ,I4,oR,dL⟩:=gu fJ (aY.cells [(Zi 0),(Zi 0)] 23 false)
 have fu:Has h h3:=fl.trans dL
 rcases Bool.eq_false_or_eq_true (decide (k_.time≤t)) with f0 | f0
 · have ir:=of_decide_eq_true f0
   obtain ⟨h5,Ga,jJ,RY,Ai,kQ⟩:=pM (t:=23) (n:=2) (i:=h2.nx) (L:=[(Zi (IntKind.i64.wrap (k_.aq -(IntKind.i64.wrap (q.aD*(IntKind.i64.wrap (t - k_.time))))))),(Zi (IntKind.i64.wrap (k_.ak+(IntKind.i64.wrap (q.aC*(IntKind.i64.wrap (t - k_.time)))))))]) eZ oR k! rfl rfl (by simp only[AV.cells,List.all_cons,List.all_nil,Bool.and_true,Bool.and_self,eI,dt,eJ,eK,cI,gU,gV,gW,gX,gY,eL])
   have iP:Has h h5:=Has.cm fu kQ bH o!
   have e:cR q k_ t=(⟨(IntKind.i64.wrap (k_.aq -(IntKind.i64.wrap (q.aD*(IntKind.i64.wrap (t - k_.time)))))),(IntKind.i64.wrap (k_.ak+(IntKind.i64.wrap (q.aC*(IntKind.i64.wrap (t - k_.time))))))⟩:Span):=by simp only[cR,f0,aj,ai]
   rw[e]
   exact az rfl (h_ (a:=6) (t:=23) (i:=h2.nx) Try.func49 I3 rfl (.inr rfl) (pk (d) _ _ h _ h5 (NN bD (fun i=>(Pt i))<|NN iQ (fun i=>(Pt i))<|NN s7 (fun i=>(Pt i))<|CN 2<|MM (aB 3 0 (Zi k_.time) (dL _ _ dh) k!)<|VV (eN 3 false false .i64 t k_.time)<|BB f0<|CN 2<|MM (aB 3 1 (Zi k_.aq) (dL _ _ dh) k!)<|CC<|MM (aB 3 4 (Zi q.aD) (dL _ _ (dz _ _ aH)) k!)<|CN 2<|MM (aB 3 0 (Zi k_.time) (dL _ _ dh) k!)<|CN 5<|MM (aB 3 2 (Zi k_.ak) (dL _ _ dh) k!)<|CC<|MM (aB 3 3 (Zi q.aC) (dL _ _ (dz _ _ aH)) k!)<|CN 2<|MM (aB 3 0 (Zi k_.time) (dL _ _ dh) k!)<|CN 4<|SS Ga<|ZZ) k!) k! (kL Ai k!)) iP rfl
 · have ir:=of_decide_eq_false f0
   obtain ⟨h5,Ga,jJ,RY,Ai,kQ⟩:=pM (t:=23) (n:=2) (i:=h2.nx) (L:=[(Zi (IntKind.i64.wrap (k_.aq -(IntKind.i64.wrap (q.aC*(IntKind.i64.wrap (k_.time - t))))))),(Zi (IntKind.i64.wrap (k_.ak+(IntKind.i64.wrap (q.aD*(IntKind.i64.wrap (k_.time - t)))))))]) eZ oR k! rfl rfl (by simp only[AV.cells,List.all_cons,List.all_nil,Bool.and_true,Bool.and_self,eI,dt,eJ,eK,cI,gU,gV,gW,gX,gY,eL])
   have iP:Has h h5:=Has.cm fu kQ bH o!
   have e:cR q k_ t=(⟨(IntKind.i64.wrap (k_.aq -(IntKind.i64.wrap (q.aC*(IntKind.i64.wrap (k_.time - t)))))),(IntKind.i64.wrap (k_.ak+(IntKind.i64.wrap (q.aD*(IntKind.i64.wrap (k_.time - t))))))⟩:Span):=by simp only[cR,f0,aj,ai]
   rw[e]
   exact az rfl (h_ (a:=6) (t:=23) (i:=h2.nx) Try.func49 I3 rfl (.inr rfl) (pk (d) _ _ h _ h5 (NN bD (fun i=>(Pt i))<|NN iQ (fun i=>(Pt i))<|NN s7 (fun i=>(Pt i))<|CN 2<|MM (aB 3 0 (Zi k_.time) (dL _ _ dh) k!)<|VV (eN 3 false false .i64 t k_.time)<|BB f0<|CN 2<|MM (aB 3 1 (Zi k_.aq) (dL _ _ dh) k!)<|CC<|MM (aB 3 3 (Zi q.aC) (dL _ _ (dz _ _ aH)) k!)<|CC<|MM (aB 3 0 (Zi k_.time) (dL _ _ dh) k!)<|CN 6<|MM (aB 3 2 (Zi k_.ak) (dL _ _ dh) k!)<|CC<|MM (aB 3 4 (Zi q.aD) (dL _ _ (dz _ _ aH)) k!)<|CC<|MM (aB 3 0 (Zi k_.time) (dL _ _ dh) k!)<|CN 5<|SS Ga<|ZZ) k!) k! (kL Ai k!)) iP rfl
end
end Go.Proofs.aJ
