import Derived.Test.YtfllahfbmaafcaaW0
import Derived.Test.YtfllahfbmaafcaaW1
import Derived.Test.YtfllahfbmaafcaaW10
namespace Go.Proofs.aH
open Go.Proofs Ab
noncomputable section
set_option maxRecDepth 100000
set_option maxHeartbeats 4000000
set_option linter.unusedVariables false
set_option linter.unusedSimpArgs false
theorem cf {p:Prop} (h:p:=by first | omega | assumption | (rw[wrap_i64 o! o!];omega)):p:=h
theorem cU {p:Prop} (h:p:=by first | omega | (simp<;>omega)):p:=h
def rz:Code:=(Try.f18.body).getD .skip
theorem PX:Try.f18.body=some rz:=by kernel_rfl
def J':Code:=(cC rz).getD 0 .skip
def Av:Code:=(cC rz).getD 1 .skip
def bK (raw:List az) (i0:Nat) (bf:List az):Nat→Int→Int
 | 0,bT=>bT
 | bF+1,bT=>(bif (decide (0<bT)) then (bif (decide ((ab (raw.g i0).time 0 40)<((bf.g (bT - 1).toNat).time))) then bK raw i0 bf bF (bT - 1) else bT) else bT)
theorem yb {d:Nat} {h:au} (ug:AV) (hD:Nat) (ml:Bool) (fQ:AV) (hU:AV) (i0:Nat) (bad:List Bool) (q:ay) (raw:List az) (bf:List az) (x_:List Int) (dt:Nat) (fm:Nat) (oV:Nat) (qj:eS h .i64 3 ug x_) (me:aZ h fQ raw) (A5:q.name.length<2^60) (uJ:aZ h q.aB q.af) (mY:aZ h hU bf) (zc:aA.ok h q) (ace:aA.ok h (raw.g i0)) (uV:i0<raw.length) (Mo:raw.length≤12) (TX:q.af.length≤8) (acf:0<x_.length) (acg:bad.length=q.af.length) (ach:aE q=0):∀(k_:Nat) (bT:Int) (_:(bT≤(k_:Int))) (_:(0≤bT∧bT≤(List.length bf:Int))) (x:Nat→AV) (hh:au) (aN:Tidy hh) (bj:Has h hh) (dK:hh.get dt=some (a_.cells (bs bad) 4 false)) (jq:hh.get fm=some (a_.cells [(AV.str q.name),(Zi q.aj),(Zi q.ah),(Zi q.aI),(Zi q.aK),(Zi q.bad),q.aB] 26 false)) (oW:hh.get oV=some (a_.cells [(Zi (ab (raw.g i0).aD 0 ((q.af.length - 1:Nat):Int))),(Zi (ab (raw.g i0).time 0 40)),(Zi (ab (raw.g i0).value (-1000000000) 1000000000))] 43 false)),fM (cW (d+3)) Av ⟨((x 0)::ug::(AV.slice dt 0 hD hD ml)::fQ::(Pt fm)::rx x 5 4 (hU::(Zn i0)::(Pt oV)::(x 12)::(x 13)::(Zi bT)::rx x 15 106 [])),hh,[],.no⟩ (.exit 2) hh (fun r y=>((y 0)::ug::(AV.slice dt 0 hD hD ml)::fQ::(Pt fm)::rx y 5 4 (hU::(Zn i0)::(Pt oV)::(y 12)::(y 13)::(Zi r)::rx y 15 106 []))) (fun r=>(0≤r∧r≤(List.length bf:Int))) (bK raw i0 bf k_ bT)
 | 0,bT,kY,zj,x,hh,aN,bj,dK,jq,oW=>by
   have C_:=qj.small
   have rj:=me.small
   have v7:=uJ.small
   have Dk:=mY.small
   have zd:=aN _ _ dK
   have Mh:=aN _ _ jq
   have TY:=aN _ _ oW
   have q1:(decide (0<bT))=false:=d!
   exact fM.out bT rfl (pk (d+3) _ _ hh _ hh (CC<|VV (cg 3 false true .i64 bT 0)<|CC<|BB q1<|BB q1<|BB q1<|BB q1<|BB q1<|BB q1<|BB q1<|BB q1<|BV q1 (vG false q1)<|FF<|ZZ) k!) (Grow.refl aN) (show (0≤bT∧bT≤(List.length bf:Int)) from by omega) k!
 | bF+1,bT,kY,zj,x,hh,aN,bj,dK,jq,oW=>by
   have C_:=qj.small
   have rj:=me.small
   have v7:=uJ.small
   have Dk:=mY.small
   have zd:=aN _ _ dK
   have Mh:=aN _ _ jq
   have TY:=aN _ _ oW
   have za:=fun {al ps} (k:Pk al _ ps)=>(CC<|VV (cg 3 false true .i64 bT 0)<|CC<|k:Pk _ [] ps)
   rcases Bool.eq_false_or_eq_true (decide (0<bT)) with f0 | f0
   · have j8:=of_decide_eq_true f0
     have w2:IntKind.i64.wrap (bT - 1)=bT - 1:=wrap_i64 o! o!
     obtain ⟨p4,q5,pH⟩:=(mY.has bj).elem (i:=(bT - 1).toNat) o!
     have DP:dr env (some (.slice 43)) (some hU) (some (Zi (bT - 1)))=some (AV.ptr p4 q5):=by rw[show ((bT - 1):Int)=(((bT - 1).toNat:Nat):Int) by omega];exact pH
     have Af:bG env hh 3 (AV.ptr p4 (q5+1))=some (Zi (bf.g (bT - 1).toNat).time):=(mY.has bj).part (t:=3) (j:=1) o! pH k! rfl
     have HZ:=fun {al ps} (k:Pk al _ ps)=>(za<|BC f0<|BC f0<|BV f0 (wM 3 false true w2)<|BV f0 DP<|BC f0<|BM f0 Af<|BC f0<|BM f0 (aM 3 1 (Zi (ab (raw.g i0).time 0 40)) oW k!)<|BV f0 (cg 3 false false .i64 (bf.g (bT - 1).toNat).time (ab (raw.g i0).time 0 40))<|VV (pG (decide ((ab (raw.g i0).time 0 40)<((bf.g (bT - 1).toNat).time))) false f0)<|HH Af<|HH (show AV.same 20 (Zi (bf.g (bT - 1).toNat).time) (Zi (bf.g (bT - 1).toNat).time)=true from aU 19 _ _)<|HH (aM 3 1 (Zi (ab (raw.g i0).time 0 40)) oW k!)<|HH (show AV.same 20 (Zi (ab (raw.g i0).time 0 40)) (Zi (ab (raw.g i0).time 0 40))=true from aU 19 _ _)<|k:Pk _ [] ps)
     rcases Bool.eq_false_or_eq_true (decide ((ab (raw.g i0).time 0 40)<((bf.g (bT - 1).toNat).time))) with f1 | f1
     · have jg:=of_decide_eq_true f1
       have w8:IntKind.i64.wrap (bT - 1)=bT - 1:=wrap_i64 o! o!
       exact fM.round (by simp only[bK,f0,f1,ao,ai]) (pk (d+3) _ _ hh _ hh (HZ<|BC f1<|VV (wM 3 false true w8)<|CC<|ZZ) k!) (Grow.refl aN) _ k! (fun x=>yb ug hD ml fQ hU i0 bad q raw bf x_ dt fm oV qj me A5 uJ mY zc ace uV Mo TX acf acg ach bF (bT - 1) o! (show (0≤(bT - 1)∧(bT - 1)≤(List.length bf:Int)) from by omega) x hh aN bj dK jq oW)
     · have jg:=of_decide_eq_false f1
       exact fM.out bT (by simp only[bK,f0,f1,ao,ai]) (pk (d+3) _ _ hh _ hh (HZ<|BB f1<|ZZ) k!) (Grow.refl aN) (show (0≤bT∧bT≤(List.length bf:Int)) from by omega) k!
   · have j8:=of_decide_eq_false f0
     exact fM.out bT (by simp only[bK,f0,ao,ai]) (pk (d+3) _ _ hh _ hh (za<|BB f0<|BB f0<|BB f0<|BB f0<|BB f0<|BB f0<|BB f0<|BB f0<|BV f0 (vG false f0)<|FF<|ZZ) k!) (Grow.refl aN) (show (0≤bT∧bT≤(List.length bf:Int)) from by omega) k!
def bN (raw:List az) (i0:Nat) (bf:List az):Nat→Int→Int
 | 0,bT=>bT
 | bF+1,bT=>(bif (decide (0<bT)) then (bif (decide ((ab (raw.g i0).time 0 40)<((bf.g (bT - 1).toNat).time))) then bN raw i0 bf bF (bT - 1) else bT) else bT)
theorem u_ {d:Nat} {h:au} (ug:AV) (hD:Nat) (ml:Bool) (fQ:AV) (hU:AV) (i0:Nat) (bad:List Bool) (q:ay) (raw:List az) (x_:List Int) (bf:List az) (dt:Nat) (fm:Nat) (oV:Nat) (qj:eS h .i64 3 ug x_) (me:aZ h fQ raw) (A5:q.name.length<2^60) (uJ:aZ h q.aB q.af) (mY:aZ h hU bf) (zc:aA.ok h q) (ace:aA.ok h (raw.g i0)) (uV:i0<raw.length) (Mo:raw.length≤12) (TX:q.af.length≤8) (acf:0<x_.length) (acg:bad.length=q.af.length) (ach:aE q=0):∀(k_:Nat) (bT:Int) (_:(bT≤(k_:Int))) (_:(0≤bT∧bT≤(List.length bf:Int))) (x:Nat→AV) (hh:au) (aN:Tidy hh) (bj:Has h hh) (dK:hh.get dt=some (a_.cells (bs bad) 4 false)) (jq:hh.get fm=some (a_.cells [(AV.str q.name),(Zi q.aj),(Zi q.ah),(Zi q.aI),(Zi q.aK),(Zi q.bad),q.aB] 26 false)) (oW:hh.get oV=some (a_.cells [(Zi (ab (raw.g i0).aD 0 ((q.af.length - 1:Nat):Int))),(Zi (ab (raw.g i0).time 0 40)),(Zi (IntKind.i64.wrap ((dE x_ (ab (raw.g i0).time 0 40))+(ab (raw.g i0).value (IntKind.i64.wrap (0 -((bh (q.af.g (ab (raw.g i0).aD 0 ((q.af.length - 1:Nat):Int)).toNat) (ab (raw.g i0).time 0 40)).1))) (bh (q.af.g (ab (raw.g i0).aD 0 ((q.af.length - 1:Nat):Int)).toNat) (ab (raw.g i0).time 0 40)).1))))] 43 false)),fM (cW (d+3)) Av ⟨((x 0)::ug::(AV.slice dt 0 hD hD ml)::fQ::(Pt fm)::rx x 5 4 (hU::(Zn i0)::(Pt oV)::(x 12)::(x 13)::(Zi bT)::rx x 15 106 [])),hh,[],.no⟩ (.exit 2) hh (fun r y=>((y 0)::ug::(AV.slice dt 0 hD hD ml)::fQ::(Pt fm)::rx y 5 4 (hU::(Zn i0)::(Pt oV)::(y 12)::(y 13)::(Zi r)::rx y 15 106 []))) (fun r=>(0≤r∧r≤(List.length bf:Int))) (bN raw i0 bf k_ bT)
 | 0,bT,kY,zj,x,hh,aN,bj,dK,jq,oW=>by
   have C_:=qj.small
   have rj:=me.small
   have v7:=uJ.small
   have Dk:=mY.small
   have zd:=aN _ _ dK
   have Mh:=aN _ _ jq
   have TY:=aN _ _ oW
   have q1:(decide (0<bT))=false:=d!
   exact fM.out bT rfl (pk (d+3) _ _ hh _ hh (CC<|VV (cg 3 false true .i64 bT 0)<|CC<|BB q1<|BB q1<|BB q1<|BB q1<|BB q1<|BB q1<|BB q1<|BB q1<|BV q1 (vG false q1)<|FF<|ZZ) k!) (Grow.refl aN) (show (0≤bT∧bT≤(List.length bf:Int)) from by omega) k!
 | bF+1,bT,kY,zj,x,hh,aN,bj,dK,jq,oW=>by
   have C_:=qj.small
   have rj:=me.small
   have v7:=uJ.small
   have Dk:=mY.small
   have zd:=aN _ _ dK
   have Mh:=aN _ _ jq
   have TY:=aN _ _ oW
   have Jw:=fun {al ps} (k:Pk al _ ps)=>(CC<|VV (cg 3 false true .i64 bT 0)<|CC<|k:Pk _ [] ps)
   rcases Bool.eq_false_or_eq_true (decide (0<bT)) with f0 | f0
   · have j8:=of_decide_eq_true f0
     have w2:IntKind.i64.wrap (bT - 1)=bT - 1:=wrap_i64 o! o!
     obtain ⟨p4,q5,pH⟩:=(mY.has bj).elem (i:=(bT - 1).toNat) o!
     have DP:dr env (some (.slice 43)) (some hU) (some (Zi (bT - 1)))=some (AV.ptr p4 q5):=by rw[show ((bT - 1):Int)=(((bT - 1).toNat:Nat):Int) by omega];exact pH
     have Af:bG env hh 3 (AV.ptr p4 (q5+1))=some (Zi (bf.g (bT - 1).toNat).time):=(mY.has bj).part (t:=3) (j:=1) o! pH k! rfl
     have Jy:=fun {al ps} (k:Pk al _ ps)=>(Jw<|BC f0<|BC f0<|BV f0 (wM 3 false true w2)<|BV f0 DP<|BC f0<|BM f0 Af<|BC f0<|BM f0 (aM 3 1 (Zi (ab (raw.g i0).time 0 40)) oW k!)<|BV f0 (cg 3 false false .i64 (bf.g (bT - 1).toNat).time (ab (raw.g i0).time 0 40))<|VV (pG (decide ((ab (raw.g i0).time 0 40)<((bf.g (bT - 1).toNat).time))) false f0)<|HH Af<|HH (show AV.same 20 (Zi (bf.g (bT - 1).toNat).time) (Zi (bf.g (bT - 1).toNat).time)=true from aU 19 _ _)<|HH (aM 3 1 (Zi (ab (raw.g i0).time 0 40)) oW k!)<|HH (show AV.same 20 (Zi (ab (raw.g i0).time 0 40)) (Zi (ab (raw.g i0).time 0 40))=true from aU 19 _ _)<|k:Pk _ [] ps)
     rcases Bool.eq_false_or_eq_true (decide ((ab (raw.g i0).time 0 40)<((bf.g (bT - 1).toNat).time))) with f1 | f1
     · have jg:=of_decide_eq_true f1
       have w8:IntKind.i64.wrap (bT - 1)=bT - 1:=wrap_i64 o! o!
       exact fM.round (by simp only[bN,f0,f1,ao,ai]) (pk (d+3) _ _ hh _ hh (Jy<|BC f1<|VV (wM 3 false true w8)<|CC<|ZZ) k!) (Grow.refl aN) _ k! (fun x=>u_ ug hD ml fQ hU i0 bad q raw x_ bf dt fm oV qj me A5 uJ mY zc ace uV Mo TX acf acg ach bF (bT - 1) o! (show (0≤(bT - 1)∧(bT - 1)≤(List.length bf:Int)) from by omega) x hh aN bj dK jq oW)
     · have jg:=of_decide_eq_false f1
       exact fM.out bT (by simp only[bN,f0,f1,ao,ai]) (pk (d+3) _ _ hh _ hh (Jy<|BB f1<|ZZ) k!) (Grow.refl aN) (show (0≤bT∧bT≤(List.length bf:Int)) from by omega) k!
   · have j8:=of_decide_eq_false f0
     exact fM.out bT (by simp only[bN,f0,ao,ai]) (pk (d+3) _ _ hh _ hh (Jw<|BB f0<|BB f0<|BB f0<|BB f0<|BB f0<|BB f0<|BB f0<|BB f0<|BV f0 (vG false f0)<|FF<|ZZ) k!) (Grow.refl aN) (show (0≤bT∧bT≤(List.length bf:Int)) from by omega) k!
def ck (raw:List az) (q:ay) (x_:List Int) (bad:List Bool):Nat→Nat→List az→List az
 | 0,_,bf=>bf
 | d_+1,i0,bf=>(bif (decide (0<((q.af.length:Nat):Int))) then (bif (bad.g (ab (raw.g i0).aD 0 ((q.af.length - 1:Nat):Int)).toNat) then (bif (decide ((ab (raw.g i0).value (-1000000000) 1000000000)<(-1000000000))) then ck raw q x_ bad d_ (i0+1) bf else (bif (decide (1000000000<(ab (raw.g i0).value (-1000000000) 1000000000))) then ck raw q x_ bad d_ (i0+1) bf else ck raw q x_ bad d_ (i0+1) (((([]:List az)++(bf.take (bK raw i0 bf ((bf.length:Nat):Int).toNat ((bf.length:Nat):Int)).toNat))++([(⟨(ab (raw.g i0).aD 0 ((q.af.length - 1:Nat):Int)),(ab (raw.g i0).time 0 40),(ab (raw.g i0).value (-1000000000) 1000000000)⟩:az)]))++(bf.drop (bK raw i0 bf ((bf.length:Nat):Int).toNat ((bf.length:Nat):Int)).toNat)))) else (bif (decide ((IntKind.i64.wrap ((dE x_ (ab (raw.g i0).time 0 40))+(ab (raw.g i0).value (IntKind.i64.wrap (0 -((bh (q.af.g (ab (raw.g i0).aD 0 ((q.af.length - 1:Nat):Int)).toNat) (ab (raw.g i0).time 0 40)).1))) (bh (q.af.g (ab (raw.g i0).aD 0 ((q.af.length - 1:Nat):Int)).toNat) (ab (raw.g i0).time 0 40)).1)))<(-1000000000))) then ck raw q x_ bad d_ (i0+1) bf else (bif (decide (1000000000<(IntKind.i64.wrap ((dE x_ (ab (raw.g i0).time 0 40))+(ab (raw.g i0).value (IntKind.i64.wrap (0 -((bh (q.af.g (ab (raw.g i0).aD 0 ((q.af.length - 1:Nat):Int)).toNat) (ab (raw.g i0).time 0 40)).1))) (bh (q.af.g (ab (raw.g i0).aD 0 ((q.af.length - 1:Nat):Int)).toNat) (ab (raw.g i0).time 0 40)).1))))) then ck raw q x_ bad d_ (i0+1) bf else ck raw q x_ bad d_ (i0+1) (((([]:List az)++(bf.take (bN raw i0 bf ((bf.length:Nat):Int).toNat ((bf.length:Nat):Int)).toNat))++([(⟨(ab (raw.g i0).aD 0 ((q.af.length - 1:Nat):Int)),(ab (raw.g i0).time 0 40),(IntKind.i64.wrap ((dE x_ (ab (raw.g i0).time 0 40))+(ab (raw.g i0).value (IntKind.i64.wrap (0 -((bh (q.af.g (ab (raw.g i0).aD 0 ((q.af.length - 1:Nat):Int)).toNat) (ab (raw.g i0).time 0 40)).1))) (bh (q.af.g (ab (raw.g i0).aD 0 ((q.af.length - 1:Nat):Int)).toNat) (ab (raw.g i0).time 0 40)).1)))⟩:az)]))++(bf.drop (bN raw i0 bf ((bf.length:Nat):Int).toNat ((bf.length:Nat):Int)).toNat))))) else bf)
theorem iO {d:Nat} {h:au} (ug:AV) (hD:Nat) (ml:Bool) (fQ:AV) (raw:List az) (bad:List Bool) (q:ay) (x_:List Int) (cY:Nat) (dj:Nat) (cD:eS h .i64 3 ug x_) (eX:aZ h fQ raw) (v8:q.name.length<2^60) (pM:aZ h q.aB q.af) (oI:aA.ok h q) (yd:raw.length≤12) (D4:q.af.length≤8) (Ka:0<x_.length) (Kb:bad.length=q.af.length) (Kc:aE q=0) (Ke:bad.length=hD) (bY:Tidy h) (tA:cY<h.nx) (zn:h.nx≤dj) (ny:dj≠cY):∀(k_ i_:Nat) (bf:List az) (hU:AV) (_:i_+k_=raw.length) (x:Nat→AV) (hh:au) (aN:Tidy hh) (bj:Has h hh) (jo:h.nx≤hh.nx) (du:hh.get cY=some (a_.cells (bs bad) 4 false)) (gH:hh.get dj=some (a_.cells [(AV.str q.name),(Zi q.aj),(Zi q.ah),(Zi q.aI),(Zi q.aK),(Zi q.bad),q.aB] 26 false)) (Aw:bC h hh hU bf) (pN:∀y∈bf,aA.ok hh y) (Z3:bf.length≤i_) (gW:bJ hU cY) (gX:bJ hU dj),dU (σ:=List az) (ζ:=AV) (cW (d+3)) J' ⟨((x 0)::ug::(AV.slice cY 0 hD hD ml)::fQ::(Pt dj)::rx x 5 4 (hU::(Zn i_)::rx x 11 110 [])),hh,[],.no⟩ (.exit 0) hh (fun r z y=>((y 0)::ug::(AV.slice cY 0 hD hD ml)::fQ::(Pt dj)::rx y 5 4 (z::rx y 10 111 []))) (fun r z hk=>Has h hk∧hk.get cY=some (a_.cells (bs bad) 4 false)∧hk.get dj=some (a_.cells [(AV.str q.name),(Zi q.aj),(Zi q.ah),(Zi q.aI),(Zi q.aK),(Zi q.bad),q.aB] 26 false)∧bC h hk z r∧(∀y∈r,aA.ok hk y)∧r.length≤raw.length∧bJ z cY∧bJ z dj) (ck raw q x_ bad k_ i_ bf)
 | 0,i0,bf,hU,kY,x,hh,aN,bj,jo,du,gH,Aw,pN,Z3,gW,gX=>by
   have jA:=cD.small
   have rk:=eX.small
   have MF:=pM.small
   have ze:=aN _ _ du
   have TH:=aN _ _ gH
   have rA:aZ hh hU bf:=bC.rows Aw o! pN
   have nY:dJ (some (.slice 43)) (some fQ)=some (Zn raw.length):=eX.len
   have q2:(decide (((i0:Nat):Int)<((raw.length:Nat):Int)))=false:=d!
   exact dU.out bf hU rfl (pk (d+3) _ _ hh _ hh (CN 2<|VV nY<|VV (bZ 3 false false .i64 ((i0:Nat):Int) ((raw.length:Nat):Int))<|CC<|BB q2<|BB q2<|BB q2<|BV q2 (vG false q2)<|FF<|ZZ) k!) aN o! ⟨bj,du,gH,Aw,pN,cU,gW,gX⟩ k!
 | d_+1,i0,bf,hU,kY,x,hh,aN,bj,jo,du,gH,Aw,pN,Z3,gW,gX=>by
   have jA:=cD.small
   have rk:=eX.small
   have MF:=pM.small
   have ze:=aN _ _ du
   have TH:=aN _ _ gH
   have rA:aZ hh hU bf:=bC.rows Aw o! pN
   have nY:dJ (some (.slice 43)) (some fQ)=some (Zn raw.length):=eX.len
   have q2:(decide (((i0:Nat):Int)<((raw.length:Nat):Int)))=true:=d!
   have QV:dJ (some (.slice 45)) (some q.aB)=some (Zn q.af.length):=pM.len
   have DQ:=fun {al ps} (k:Pk al _ ps)=>(CN 2<|VV nY<|VV (bZ 3 false false .i64 ((i0:Nat):Int) ((raw.length:Nat):Int))<|CC<|BC q2<|BM q2 (aM 24 6 q.aB gH k!)<|BV q2 QV<|BV q2 (cg 3 false true .i64 ((q.af.length:Nat):Int) 0)<|VV (pG (decide (0<((q.af.length:Nat):Int))) false q2)<|k:Pk _ [] ps)
   rcases Bool.eq_false_or_eq_true (decide (0<((q.af.length:Nat):Int))) with f1 | f1
   · have jg:=of_decide_eq_true f1
     obtain ⟨p6,q7,aci⟩:=eX.elem (i:=i0) o!
     have ZE:dr env (some (.slice 43)) (some fQ) (some (Zn i0))=some (AV.ptr p6 q7):=aci
     have ld8:bG env hh 3 (AV.ptr p6 (q7+0))=some (Zi (raw.g i0).aD):=(eX.has bj).part (t:=3) (j:=0) o! aci k! rfl
     have ln9:dJ (some (.slice 45)) (some q.aB)=some (Zn q.af.length):=pM.len
     have u10:=GS 3 false true q.af.length 1 o! o!
     obtain ⟨H0,H2,oJ⟩:=eX.elem (i:=i0) o!
     have G7:dr env (some (.slice 43)) (some fQ) (some (Zn i0))=some (AV.ptr H0 H2):=oJ
     have vK:bG env hh 3 (AV.ptr H0 (H2+1))=some (Zi (raw.g i0).time):=(eX.has bj).part (t:=3) (j:=1) o! oJ k! rfl
     obtain ⟨Z4,afo,UN,ajv,On,jX⟩:=iQ aN (a_.cells [(Zi 0),(Zi 0),(Zi 0)] 43 false)
     have Oo:Has h Z4:=bj.trans jX
     have Kf:Has hh Z4:=jX
     have aii:=fp (raw.g i0).aD 0 ((q.af.length - 1:Nat):Int) cf cf cf
     have k16:=mc (d:=d+2) (raw.g i0).aD 0 ((q.af.length - 1:Nat):Int) cf cf cf UN
     have aij:=fp (raw.g i0).time 0 40 cf cf cf
     have k17:=mc (d:=d+2) (raw.g i0).time 0 40 cf cf cf UN
     have MG:bJ hU hh.nx:=(bC.s7 aN Aw o!)
     obtain ⟨LP,afp,Ah,ajw,ye,gN⟩:=xg (t:=43) (n:=3) (i:=hh.nx) (L:=[(Zi (ab (raw.g i0).aD 0 ((q.af.length - 1:Nat):Int))),(Zi (ab (raw.g i0).time 0 40)),(Zi 0)]) UN On k! rfl rfl (by simp only[AV.cells,List.all_cons,List.all_nil,Bool.and_true,Bool.and_self,fB,dZ,fC,fD,dh,iT,iU,iV,iW,iX,fE])
     have ta:Has h LP:=Has.cj Oo gN bY o!
     have Kg:Has hh LP:=Has.cj Kf gN aN o!
     have Ax:bC h LP hU bf:=bC.kept (bC.has Aw Kf) gN MG
     have c20:AV.same 20 q.aB q.aB=true:=pM.same 19
     have aby:dr env (some (.slice 4)) (some (AV.slice cY 0 hD hD ml)) (some (Zi (ab (raw.g i0).aD 0 ((q.af.length - 1:Nat):Int))))=some (AV.ptr cY (ab (raw.g i0).aD 0 ((q.af.length - 1:Nat):Int)).toNat):=Jq k! (show (ab (raw.g i0).aD 0 ((q.af.length - 1:Nat):Int)).toNat<hD by omega) o!
     have abz:bG env LP 4 (AV.ptr cY (ab (raw.g i0).aD 0 ((q.af.length - 1:Nat):Int)).toNat)=some (AV.bool (bad.g (ab (raw.g i0).aD 0 ((q.af.length - 1:Nat):Int)).toNat)):=XO k! (gN _ _ o! (jX _ _ du)) l!
     have Cr:=fun {al ps} (k:Pk al _ ps)=>(DQ<|BB f1<|CN 2<|VV ZE<|CC<|MM ld8<|CC<|MM (aM 24 6 q.aB gH k!)<|VV ln9<|VV u10<|CN 2<|VV G7<|CC<|MM vK<|NN afo (fun i=>(Pt i))<|EE k16<|EE k17<|CC<|SS afp<|HH (show bG env Z4 3 (AV.ptr p6 (q7+0))=some (Zi (raw.g i0).aD) from ((eX.has Oo).part (t:=3) (j:=0) o! aci k! rfl))<|HH (show AV.same 20 (Zi (raw.g i0).aD) (Zi (raw.g i0).aD)=true from aU 19 _ _)<|HH (aM 24 6 q.aB (jX _ _ gH) k!)<|HH c20<|HH (show bG env Z4 3 (AV.ptr H0 (H2+1))=some (Zi (raw.g i0).time) from ((eX.has Oo).part (t:=3) (j:=1) o! oJ k! rfl))<|HH (show AV.same 20 (Zi (raw.g i0).time) (Zi (raw.g i0).time)=true from aU 19 _ _)<|HH (show bG env Z4 3 (AV.ptr H0 (H2+1))=some (Zi (raw.g i0).time) from ((eX.has Oo).part (t:=3) (j:=1) o! oJ k! rfl))<|HH (show AV.same 20 (Zi (raw.g i0).time) (Zi (raw.g i0).time)=true from aU 19 _ _)<|HH (show ∃o,Z4.get hh.nx=some o∧a_.same o (a_.cells [(Zi 0),(Zi 0),(Zi 0)] 43 false)=true from ⟨_,On,by simp [a_.same,cL,AV.same]⟩)<|HH (show ∃o,Z4.get hh.nx=some o∧a_.same o (a_.cells [(Zi 0),(Zi 0),(Zi 0)] 43 false)=true from ⟨_,On,by simp [a_.same,cL,AV.same]⟩)<|HH (show ∃o,Z4.get hh.nx=some o∧a_.same o (a_.cells [(Zi 0),(Zi 0),(Zi 0)] 43 false)=true from ⟨_,On,by simp [a_.same,cL,AV.same]⟩)<|CN 2<|MM (aM 3 0 (Zi (ab (raw.g i0).aD 0 ((q.af.length - 1:Nat):Int))) ye k!)<|VV aby<|MM abz<|k:Pk _ [] ps)
     rcases Bool.eq_false_or_eq_true (bad.g (ab (raw.g i0).aD 0 ((q.af.length - 1:Nat):Int)).toNat) with f2 | f2
     · obtain ⟨Z5,Z6,Kh⟩:=eX.elem (i:=i0) o!
       have acj:dr env (some (.slice 43)) (some fQ) (some (Zn i0))=some (AV.ptr Z5 Z6):=Kh
       have Yz:bG env LP 3 (AV.ptr Z5 (Z6+2))=some (Zi (raw.g i0).value):=(eX.has ta).part (t:=3) (j:=2) o! Kh k! rfl
       have aik:=fp (raw.g i0).value (-1000000000) 1000000000 cf cf cf
       have k28:=mc (d:=d+2) (raw.g i0).value (-1000000000) 1000000000 cf cf cf Ah
       obtain ⟨KM,afq,UO,ajx,Ff,oY⟩:=yX (t:=3) (n:=1) (i:=hh.nx) (o:=2) (v:=(Zi (ab (raw.g i0).value (-1000000000) 1000000000))) (N:=[(Zi (ab (raw.g i0).aD 0 ((q.af.length - 1:Nat):Int))),(Zi (ab (raw.g i0).time 0 40)),(Zi (ab (raw.g i0).value (-1000000000) 1000000000))]) Ah ye k! rfl k! k! (by simp only[AV.cells,List.all_cons,List.all_nil,Bool.and_true,Bool.and_self,fB,dZ,fC,fD,dh,iT,iU,iV,iW,iX,fE])
       have Ay:Has h KM:=Has.cj ta oY bY o!
       have yf:Has hh KM:=Has.cj Kg oY aN o!
       have pw:bC h KM hU bf:=bC.kept Ax oY MG
       have Tq:=fun {al ps} (k:Pk al _ ps)=>(Cr<|BB f2<|CN 2<|VV acj<|CC<|MM Yz<|EE k28<|CC<|SS afq<|CC<|MM (aM 3 2 (Zi (ab (raw.g i0).value (-1000000000) 1000000000)) Ff k!)<|VV (bZ 3 false true .i64 (ab (raw.g i0).value (-1000000000) 1000000000) (-1000000000))<|CC<|k:Pk _ [] ps)
       rcases Bool.eq_false_or_eq_true (decide ((ab (raw.g i0).value (-1000000000) 1000000000)<(-1000000000))) with f3 | f3
       · have jy:=of_decide_eq_true f3
         have u31:=fj 3 false true i0 1 o!
         exact dU.round (by simp only[ck,f1,f2,f3,ao,ai]) (pk (d+3) _ _ hh _ KM (Tq<|BB f3<|BB f3<|BV f3 (pa true f3)<|TT<|CC<|VV u31<|CC<|ZZ) k!) o! _ k! (fun x=>iO ug hD ml fQ raw bad q x_ cY dj cD eX v8 pM oI yd D4 Ka Kb Kc Ke bY tA zn ny d_ (i0+1) bf hU o! x KM UO Ay o! (oY _ _ o! (gN _ _ o! (jX _ _ du))) (oY _ _ o! (gN _ _ o! (jX _ _ gH))) pw (eJ (D:=az) pN) cU gW gX)
       · have jy:=of_decide_eq_false f3
         have Ts:=fun {al ps} (k:Pk al _ ps)=>(Tq<|BC f3<|BM f3 (aM 3 2 (Zi (ab (raw.g i0).value (-1000000000) 1000000000)) Ff k!)<|BV f3 (cg 3 false true .i64 (ab (raw.g i0).value (-1000000000) 1000000000) 1000000000)<|VV (ba (a:=some (AV.bool true)) (b:=some (AV.bool (decide (1000000000<(ab (raw.g i0).value (-1000000000) 1000000000))))) f3)<|k:Pk _ [] ps)
         rcases Bool.eq_false_or_eq_true (decide (1000000000<(ab (raw.g i0).value (-1000000000) 1000000000))) with f4 | f4
         · have km:=of_decide_eq_true f4
           have u32:=fj 3 false true i0 1 o!
           exact dU.round (by simp only[ck,f1,f2,f3,f4,ao,ai]) (pk (d+3) _ _ hh _ KM (Ts<|BC f4<|VV u32<|CC<|ZZ) k!) o! _ k! (fun x=>iO ug hD ml fQ raw bad q x_ cY dj cD eX v8 pM oI yd D4 Ka Kb Kc Ke bY tA zn ny d_ (i0+1) bf hU o! x KM UO Ay o! (oY _ _ o! (gN _ _ o! (jX _ _ du))) (oY _ _ o! (gN _ _ o! (jX _ _ gH))) pw (eJ (D:=az) pN) cU gW gX)
         · have km:=of_decide_eq_false f4
           have ail:dJ (some (.slice 43)) (some hU)=some (Zn bf.length):=rA.len
           obtain ⟨akm,Oq,YA,va,UP⟩:=yb (d:=d) (h:=KM) ug hD ml fQ hU i0 bad q raw bf x_ cY dj hh.nx (cD.has Ay) (eX.has Ay) v8 (pM.has Ay) (rA.has yf) (aA.mono Ay oI) (aA.mono Ay (eX.ok (i:=i0) o!)) o! o! o! o! o! o! ((bf.length:Nat):Int).toNat ((bf.length:Nat):Int) o! (show (0≤((bf.length:Nat):Int)∧((bf.length:Nat):Int)≤(List.length bf:Int)) from by omega) (fun k_=>(((x 0)::ug::(AV.slice cY 0 hD hD ml)::fQ::(Pt dj)::rx x 5 4 (hU::(Zn i0)::(Pt hh.nx)::(x 12)::(x 13)::(Zn bf.length)::(Zn i0)::fQ::(Zn raw.length)::(AV.bool (decide (((i0:Nat):Int)<((raw.length:Nat):Int))))::(AV.bool (decide (((i0:Nat):Int)<((raw.length:Nat):Int))))::(AV.ptr dj 6)::q.aB::(Zn q.af.length)::(AV.bool (decide (0<((q.af.length:Nat):Int))))::(AV.bool (decide (0<((q.af.length:Nat):Int))))::(x 25)::(x 26)::fQ::(Zn i0)::(AV.ptr p6 q7)::(AV.ptr p6 (q7+0))::(Zi (raw.g i0).aD)::(AV.ptr dj 6)::q.aB::(Zn q.af.length)::(Zn (q.af.length - 1))::(Zi (ab (raw.g i0).aD 0 ((q.af.length - 1:Nat):Int)))::fQ::(Zn i0)::(AV.ptr H0 H2)::(AV.ptr H0 (H2+1))::(Zi (raw.g i0).time)::(Zi (ab (raw.g i0).time 0 40))::(AV.agg [(Zi (ab (raw.g i0).aD 0 ((q.af.length - 1:Nat):Int))),(Zi (ab (raw.g i0).time 0 40)),(Zi 0)])::(AV.slice cY 0 hD hD ml)::(Pt hh.nx)::(Zi (ab (raw.g i0).aD 0 ((q.af.length - 1:Nat):Int)))::(AV.ptr cY (ab (raw.g i0).aD 0 ((q.af.length - 1:Nat):Int)).toNat)::(AV.bool (bad.g (ab (raw.g i0).aD 0 ((q.af.length - 1:Nat):Int)).toNat))::fQ::(Zn i0)::(AV.ptr Z5 Z6)::(AV.ptr Z5 (Z6+2))::(Zi (raw.g i0).value)::(Zi (ab (raw.g i0).value (-1000000000) 1000000000))::(AV.ptr hh.nx 2)::rx x 56 27 ((AV.ptr hh.nx 2)::(Zi (ab (raw.g i0).value (-1000000000) 1000000000))::(AV.bool (decide ((ab (raw.g i0).value (-1000000000) 1000000000)<(-1000000000))))::(AV.bool (decide ((ab (raw.g i0).value (-1000000000) 1000000000)<(-1000000000))))::(AV.ptr hh.nx 2)::(Zi (ab (raw.g i0).value (-1000000000) 1000000000))::(AV.bool (decide (1000000000<(ab (raw.g i0).value (-1000000000) 1000000000))))::(AV.bool (decide (1000000000<(ab (raw.g i0).value (-1000000000) 1000000000))))::hU::(Zn bf.length)::rx x 93 28 []))):List AV).getD k_ AV.undef) KM UO (Has.refl _) (oY _ _ o! (gN _ _ o! (jX _ _ du))) (oY _ _ o! (gN _ _ o! (jX _ _ gH))) Ff
           have afr:=(show (0≤(bK raw i0 bf ((bf.length:Nat):Int).toNat ((bf.length:Nat):Int))∧(bK raw i0 bf ((bf.length:Nat):Int).toNat ((bf.length:Nat):Int))≤(List.length bf:Int)) from UP)
           have Ot:=va.y
           have ajy:KM.nx≤Oq.nx:=va.n
           have UQ:Has h Oq:=Ay.trans va.a
           have Dl:Has hh Oq:=yf.trans va.a
           have zw:Has KM Oq:=va.a
           obtain ⟨YB,afs,afu,ajz,Z7,Dm⟩:=iQ Ot (a_.cells [] 43 false)
           have afv:Has h YB:=UQ.trans Dm
           have UR:Has hh YB:=Dl.trans Dm
           have PY:Has KM YB:=zw.trans Dm
           have PZ:Has Oq YB:=Dm
           obtain ⟨r36,afw,US⟩:=bC.GW pw (rA.has yf) (t:=27) k! (i:=(bK raw i0 bf ((bf.length:Nat):Int).toNat ((bf.length:Nat):Int)).toNat) o!
           have aim:dw env 27 hU (none) (some (Zi (bK raw i0 bf ((bf.length:Nat):Int).toNat ((bf.length:Nat):Int)))) (none)=some r36:=by rw[show ((bK raw i0 bf ((bf.length:Nat):Int).toNat ((bf.length:Nat):Int)):Int)=(((bK raw i0 bf ((bf.length:Nat):Int).toNat ((bf.length:Nat):Int)).toNat:Nat):Int) by omega];exact afw
           obtain ⟨Z8,afx,afy,ajA,UT,Az⟩:=iQ afu (a_.cells [(Zi (ab (raw.g i0).aD 0 ((q.af.length - 1:Nat):Int))),(Zi (ab (raw.g i0).time 0 40)),(Zi (ab (raw.g i0).value (-1000000000) 1000000000))] 43 false)
           have afz:Has h Z8:=afv.trans Az
           have UU:Has hh Z8:=UR.trans Az
           have nZ:Has KM Z8:=PY.trans Az
           have Fl:Has Oq Z8:=PZ.trans Az
           obtain ⟨r40,afA,UW⟩:=bC.ad6 pw (rA.has yf) (t:=27) k! (i:=(bK raw i0 bf ((bf.length:Nat):Int).toNat ((bf.length:Nat):Int)).toNat) o!
           have ain:dw env 27 hU (some (Zi (bK raw i0 bf ((bf.length:Nat):Int).toNat ((bf.length:Nat):Int)))) (none) (none)=some r40:=by rw[show ((bK raw i0 bf ((bf.length:Nat):Int).toNat ((bf.length:Nat):Int)):Int)=(((bK raw i0 bf ((bf.length:Nat):Int).toNat ((bf.length:Nat):Int)).toNat:Nat):Int) by omega];exact afA
           obtain ⟨z44,YC,ack,afB,ajB,ajC,afC,tI⟩:=bC.ad1 (tys:= #[27,27]) (l:=([]:List az)) (m:=(bf.take (bK raw i0 bf ((bf.length:Nat):Int).toNat ((bf.length:Nat):Int)).toNat)) (x:=r36) afy Ot Fl o! (.inl ⟨.inr ⟨_,rfl,(Nat.le_refl _),(Az _ _ Z7)⟩,rfl⟩:bC Oq Z8 (AV.slice Oq.nx 0 0 0 false) ([]:List az)) (US.has nZ).kV (US.has nZ).first (kN (US.has nZ) fun y hy=>az.sc ((US.has nZ).GU y hy)) cU rfl rfl k! k! (bytes:=24) k! (z0:=(AV.agg [(Zi 0),(Zi 0),(Zi 0)])) k! rfl (by decide)
           have ajD:Has h YC:=afz.trans tI
           have afD:Has hh YC:=UU.trans tI
           have ac5:Has KM YC:=nZ.trans tI
           have P3:Has Oq YC:=Fl.trans tI
           have UX:∀y∈(([]:List az)++(bf.take (bK raw i0 bf ((bf.length:Nat):Int).toNat ((bf.length:Nat):Int)).toNat)),aA.ok YC y:=NT tI (nq (fun y hy=>by cases hy) (US.has nZ).GU)
           have acm:aZ YC z44 (([]:List az)++(bf.take (bK raw i0 bf ((bf.length:Nat):Int).toNat ((bf.length:Nat):Int)).toNat)):=bC.rows afC cU UX
           have afE:=acm.small
           obtain ⟨z47,Ki,acn,UY,ajE,Ou,afF,aio⟩:=bC.app (tys:= #[27,27]) (l:=(([]:List az)++(bf.take (bK raw i0 bf ((bf.length:Nat):Int).toNat ((bf.length:Nat):Int)).toNat))) (m:=[(⟨(ab (raw.g i0).aD 0 ((q.af.length - 1:Nat):Int)),(ab (raw.g i0).time 0 40),(ab (raw.g i0).value (-1000000000) 1000000000)⟩:az)]) (x:=(AV.slice YB.nx 0 1 1 false)) afB Ot P3 o! afC rfl (mb (x:=(⟨(ab (raw.g i0).aD 0 ((q.af.length - 1:Nat):Int)),(ab (raw.g i0).time 0 40),(ab (raw.g i0).value (-1000000000) 1000000000)⟩:az)) (tI _ _ UT)) (by simp [aA.c,az.c,AV.scalar]) cU rfl rfl k! k! (bytes:=24) k! (z0:=(AV.agg [(Zi 0),(Zi 0),(Zi 0)])) k! rfl (by decide)
           have Z9:Has h Ki:=UQ.trans Ou
           have Kj:Has hh Ki:=Dl.trans Ou
           have qv:Has KM Ki:=zw.trans Ou
           have P4:Has Oq Ki:=Ou
           have UZ:∀y∈((([]:List az)++(bf.take (bK raw i0 bf ((bf.length:Nat):Int).toNat ((bf.length:Nat):Int)).toNat))++([(⟨(ab (raw.g i0).aD 0 ((q.af.length - 1:Nat):Int)),(ab (raw.g i0).time 0 40),(ab (raw.g i0).value (-1000000000) 1000000000)⟩:az)])),aA.ok Ki y:=eJ (D:=az) (nq UX (ok_one trivial))
           have aco:aZ Ki z47 ((([]:List az)++(bf.take (bK raw i0 bf ((bf.length:Nat):Int).toNat ((bf.length:Nat):Int)).toNat))++([(⟨(ab (raw.g i0).aD 0 ((q.af.length - 1:Nat):Int)),(ab (raw.g i0).time 0 40),(ab (raw.g i0).value (-1000000000) 1000000000)⟩:az)])):=bC.rows afF cU UZ
           have afG:=aco.small
           obtain ⟨z50,YD,acp,U0,ajF,Fm,P5,aip⟩:=bC.app (tys:= #[27,27]) (l:=((([]:List az)++(bf.take (bK raw i0 bf ((bf.length:Nat):Int).toNat ((bf.length:Nat):Int)).toNat))++([(⟨(ab (raw.g i0).aD 0 ((q.af.length - 1:Nat):Int)),(ab (raw.g i0).time 0 40),(ab (raw.g i0).value (-1000000000) 1000000000)⟩:az)]))) (m:=(bf.drop (bK raw i0 bf ((bf.length:Nat):Int).toNat ((bf.length:Nat):Int)).toNat)) (x:=r40) UY Ot P4 o! afF (UW.has qv).kV (UW.has qv).first (kN (UW.has qv) fun y hy=>az.sc ((UW.has qv).GU y hy)) cU rfl rfl k! k! (bytes:=24) k! (z0:=(AV.agg [(Zi 0),(Zi 0),(Zi 0)])) k! rfl (by decide)
           have afH:Has h YD:=UQ.trans Fm
           have afI:Has hh YD:=Dl.trans Fm
           have ac6:Has KM YD:=zw.trans Fm
           have ac7:Has Oq YD:=Fm
           have U1:∀y∈(((([]:List az)++(bf.take (bK raw i0 bf ((bf.length:Nat):Int).toNat ((bf.length:Nat):Int)).toNat))++([(⟨(ab (raw.g i0).aD 0 ((q.af.length - 1:Nat):Int)),(ab (raw.g i0).time 0 40),(ab (raw.g i0).value (-1000000000) 1000000000)⟩:az)]))++(bf.drop (bK raw i0 bf ((bf.length:Nat):Int).toNat ((bf.length:Nat):Int)).toNat)),aA.ok YD y:=eJ (D:=az) (nq UZ (UW.has qv).GU)
           have acq:aZ YD z50 (((([]:List az)++(bf.take (bK raw i0 bf ((bf.length:Nat):Int).toNat ((bf.length:Nat):Int)).toNat))++([(⟨(ab (raw.g i0).aD 0 ((q.af.length - 1:Nat):Int)),(ab (raw.g i0).time 0 40),(ab (raw.g i0).value (-1000000000) 1000000000)⟩:az)]))++(bf.drop (bK raw i0 bf ((bf.length:Nat):Int).toNat ((bf.length:Nat):Int)).toNat)):=bC.rows P5 cU U1
           have afJ:=acq.small
           have c52:AV.same 20 (AV.agg [(Zi (ab (raw.g i0).aD 0 ((q.af.length - 1:Nat):Int))),(Zi (ab (raw.g i0).time 0 40)),(Zi (ab (raw.g i0).value (-1000000000) 1000000000))]) (AV.agg [(Zi (ab (raw.g i0).aD 0 ((q.af.length - 1:Nat):Int))),(Zi (ab (raw.g i0).time 0 40)),(Zi (ab (raw.g i0).value (-1000000000) 1000000000))])=true:=ie 18 (pR (fun n=>aU n _ _) (pR (fun n=>aU n _ _) (pR (fun n=>aU n _ _) Pq)))
           have u53:=fj 3 false true i0 1 o!
           exact dU.round (by simp only[ck,f1,f2,f3,f4,ao,ai]) (pk (d+3) _ _ hh _ YD (Ts<|BC f4<|VV ail<|CC<|LL YA<|NN afs (fun i=>(AV.slice i 0 0 0 false))<|CN 2<|QQ aim<|MM (aM 43 0 (AV.agg [(Zi (ab (raw.g i0).aD 0 ((q.af.length - 1:Nat):Int))),(Zi (ab (raw.g i0).time 0 40)),(Zi (ab (raw.g i0).value (-1000000000) 1000000000))]) (Dm _ _ (va.a _ _ Ff)) k!)<|NN afx (fun i=>(AV.slice i 0 1 1 false))<|CN 2<|QQ ain<|PP (show bU env Z8 #[27,27] (AV.slice Oq.nx 0 0 0 false) r36=some (z44,YC) from ack)<|PP (show bU env YC #[27,27] z44 (AV.slice YB.nx 0 1 1 false)=some (z47,Ki) from acn)<|PP (show bU env Ki #[27,27] z47 r40=some (z50,YD) from acp)<|CC<|HH (show ∃o,Z8.get Oq.nx=some o∧a_.same o (a_.cells [] 43 false)=true from ⟨_,(Az _ _ Z7),by simp [a_.same,cL,AV.same]⟩)<|HH (aM 43 0 (AV.agg [(Zi (ab (raw.g i0).aD 0 ((q.af.length - 1:Nat):Int))),(Zi (ab (raw.g i0).time 0 40)),(Zi (ab (raw.g i0).value (-1000000000) 1000000000))]) (Az _ _ (Dm _ _ (va.a _ _ Ff))) k!)<|HH c52<|HH (aM 43 0 (AV.agg [(Zi (ab (raw.g i0).aD 0 ((q.af.length - 1:Nat):Int))),(Zi (ab (raw.g i0).time 0 40)),(Zi (ab (raw.g i0).value (-1000000000) 1000000000))]) (tI _ _ (Az _ _ (Dm _ _ (va.a _ _ Ff)))) k!)<|HH c52<|HH (show ∃o,Z8.get YB.nx=some o∧a_.same o (a_.cells [(Zi (ab (raw.g i0).aD 0 ((q.af.length - 1:Nat):Int))),(Zi (ab (raw.g i0).time 0 40)),(Zi (ab (raw.g i0).value (-1000000000) 1000000000))] 43 false)=true from ⟨_,UT,by simp [a_.same,cL,AV.same]⟩)<|HH (show ∃o,YC.get YB.nx=some o∧a_.same o (a_.cells [(Zi (ab (raw.g i0).aD 0 ((q.af.length - 1:Nat):Int))),(Zi (ab (raw.g i0).time 0 40)),(Zi (ab (raw.g i0).value (-1000000000) 1000000000))] 43 false)=true from ⟨_,(tI _ _ UT),by simp [a_.same,cL,AV.same]⟩)<|HH (show nodup [Oq.nx,YB.nx]=true from (by simp [nodup];omega))<|CC<|VV u53<|CC<|ZZ) k!) o! _ k! (fun x=>iO ug hD ml fQ raw bad q x_ cY dj cD eX v8 pM oI yd D4 Ka Kb Kc Ke bY tA zn ny d_ (i0+1) (((([]:List az)++(bf.take (bK raw i0 bf ((bf.length:Nat):Int).toNat ((bf.length:Nat):Int)).toNat))++([(⟨(ab (raw.g i0).aD 0 ((q.af.length - 1:Nat):Int)),(ab (raw.g i0).time 0 40),(ab (raw.g i0).value (-1000000000) 1000000000)⟩:az)]))++(bf.drop (bK raw i0 bf ((bf.length:Nat):Int).toNat ((bf.length:Nat):Int)).toNat)) z50 o! x YD U0 afH o! (Fm _ _ (va.a _ _ (oY _ _ o! (gN _ _ o! (jX _ _ du))))) (Fm _ _ (va.a _ _ (oY _ _ o! (gN _ _ o! (jX _ _ gH))))) (bC.le (h0:=h) P5 o!) U1 cU (by first | exact bC.Pz P5 o! | exact bC.s7 U0 P5 o!) (by first | exact bC.Pz P5 o! | exact bC.s7 U0 P5 o!))
     · obtain ⟨Z5,Z6,Kh⟩:=pM.elem (i:=(ab (raw.g i0).aD 0 ((q.af.length - 1:Nat):Int)).toNat) o!
       have acj:dr env (some (.slice 45)) (some q.aB) (some (Zi (ab (raw.g i0).aD 0 ((q.af.length - 1:Nat):Int))))=some (AV.ptr Z5 Z6):=by rw[show ((ab (raw.g i0).aD 0 ((q.af.length - 1:Nat):Int)):Int)=(((ab (raw.g i0).aD 0 ((q.af.length - 1:Nat):Int)).toNat:Nat):Int) by omega];exact Kh
       have Yz:bG env LP 45 (AV.ptr Z5 Z6)=some (AV.agg [(AV.str (q.af.g (ab (raw.g i0).aD 0 ((q.af.length - 1:Nat):Int)).toNat).name),(Zi (q.af.g (ab (raw.g i0).aD 0 ((q.af.length - 1:Nat):Int)).toNat).acc),(Zi (q.af.g (ab (raw.g i0).aD 0 ((q.af.length - 1:Nat):Int)).toNat).bP),(Zi (q.af.g (ab (raw.g i0).aD 0 ((q.af.length - 1:Nat):Int)).toNat).since)]):=(pM.has ta).load o! Kh
       have aiq:0≤(bh (q.af.g (ab (raw.g i0).aD 0 ((q.af.length - 1:Nat):Int)).toNat) (ab (raw.g i0).time 0 40)).1∧(bh (q.af.g (ab (raw.g i0).aD 0 ((q.af.length - 1:Nat):Int)).toNat) (ab (raw.g i0).time 0 40)).1≤102000000000:=UM (by assumption) cf cf cf
       have k28:=Py (d:=d) (q.af.g (ab (raw.g i0).aD 0 ((q.af.length - 1:Nat):Int)).toNat) (ab (raw.g i0).time 0 40) (aA.mono ta (pM.ok (i:=(ab (raw.g i0).aD 0 ((q.af.length - 1:Nat):Int)).toNat) o!)) Ah
       have c29:AV.same 20 (AV.agg [(AV.str (q.af.g (ab (raw.g i0).aD 0 ((q.af.length - 1:Nat):Int)).toNat).name),(Zi (q.af.g (ab (raw.g i0).aD 0 ((q.af.length - 1:Nat):Int)).toNat).acc),(Zi (q.af.g (ab (raw.g i0).aD 0 ((q.af.length - 1:Nat):Int)).toNat).bP),(Zi (q.af.g (ab (raw.g i0).aD 0 ((q.af.length - 1:Nat):Int)).toNat).since)]) (AV.agg [(AV.str (q.af.g (ab (raw.g i0).aD 0 ((q.af.length - 1:Nat):Int)).toNat).name),(Zi (q.af.g (ab (raw.g i0).aD 0 ((q.af.length - 1:Nat):Int)).toNat).acc),(Zi (q.af.g (ab (raw.g i0).aD 0 ((q.af.length - 1:Nat):Int)).toNat).bP),(Zi (q.af.g (ab (raw.g i0).aD 0 ((q.af.length - 1:Nat):Int)).toNat).since)])=true:=ie 18 (pR (fun n=>qc n _) (pR (fun n=>aU n _ _) (pR (fun n=>aU n _ _) (pR (fun n=>aU n _ _) Pq))))
       obtain ⟨p31,q32,Z_⟩:=eX.elem (i:=i0) o!
       have air:dr env (some (.slice 43)) (some fQ) (some (Zn i0))=some (AV.ptr p31 q32):=Z_
       have acr:bG env LP 3 (AV.ptr p31 (q32+2))=some (Zi (raw.g i0).value):=(eX.has ta).part (t:=3) (j:=2) o! Z_ k! rfl
       have k34:=S8 (d:=d+2) x_ (ab (raw.g i0).time 0 40) (cD.has ta) cf cf Ah
       have ais:=fp (raw.g i0).value (IntKind.i64.wrap (0 -((bh (q.af.g (ab (raw.g i0).aD 0 ((q.af.length - 1:Nat):Int)).toNat) (ab (raw.g i0).time 0 40)).1))) (bh (q.af.g (ab (raw.g i0).aD 0 ((q.af.length - 1:Nat):Int)).toNat) (ab (raw.g i0).time 0 40)).1 cf cf cf
       have k35:=mc (d:=d+2) (raw.g i0).value (IntKind.i64.wrap (0 -((bh (q.af.g (ab (raw.g i0).aD 0 ((q.af.length - 1:Nat):Int)).toNat) (ab (raw.g i0).time 0 40)).1))) (bh (q.af.g (ab (raw.g i0).aD 0 ((q.af.length - 1:Nat):Int)).toNat) (ab (raw.g i0).time 0 40)).1 cf cf cf Ah
       obtain ⟨KN,afK,U2,ajG,Fo,oZ⟩:=yX (t:=3) (n:=1) (i:=hh.nx) (o:=2) (v:=(Zi (IntKind.i64.wrap ((dE x_ (ab (raw.g i0).time 0 40))+(ab (raw.g i0).value (IntKind.i64.wrap (0 -((bh (q.af.g (ab (raw.g i0).aD 0 ((q.af.length - 1:Nat):Int)).toNat) (ab (raw.g i0).time 0 40)).1))) (bh (q.af.g (ab (raw.g i0).aD 0 ((q.af.length - 1:Nat):Int)).toNat) (ab (raw.g i0).time 0 40)).1))))) (N:=[(Zi (ab (raw.g i0).aD 0 ((q.af.length - 1:Nat):Int))),(Zi (ab (raw.g i0).time 0 40)),(Zi (IntKind.i64.wrap ((dE x_ (ab (raw.g i0).time 0 40))+(ab (raw.g i0).value (IntKind.i64.wrap (0 -((bh (q.af.g (ab (raw.g i0).aD 0 ((q.af.length - 1:Nat):Int)).toNat) (ab (raw.g i0).time 0 40)).1))) (bh (q.af.g (ab (raw.g i0).aD 0 ((q.af.length - 1:Nat):Int)).toNat) (ab (raw.g i0).time 0 40)).1))))]) Ah ye k! rfl k! k! (by simp only[AV.cells,List.all_cons,List.all_nil,Bool.and_true,Bool.and_self,fB,dZ,fC,fD,dh,iT,iU,iV,iW,iX,fE])
       have AB:Has h KN:=Has.cj ta oZ bY o!
       have yg:Has hh KN:=Has.cj Kg oZ aN o!
       have px:bC h KN hU bf:=bC.kept Ax oZ MG
       have H5:=fun {al ps} (k:Pk al _ ps)=>(Cr<|BC f2<|MM (aM 24 6 q.aB (gN _ _ o! (jX _ _ gH)) k!)<|CC<|MM (aM 3 0 (Zi (ab (raw.g i0).aD 0 ((q.af.length - 1:Nat):Int))) ye k!)<|VV acj<|MM Yz<|CC<|MM (aM 3 1 (Zi (ab (raw.g i0).time 0 40)) ye k!)<|EE k28<|CN 5<|HH (aM 24 6 q.aB (gN _ _ o! (jX _ _ gH)) k!)<|HH c20<|HH (aM 3 0 (Zi (ab (raw.g i0).aD 0 ((q.af.length - 1:Nat):Int))) ye k!)<|HH (show AV.same 20 (Zi (ab (raw.g i0).aD 0 ((q.af.length - 1:Nat):Int))) (Zi (ab (raw.g i0).aD 0 ((q.af.length - 1:Nat):Int)))=true from aU 19 _ _)<|HH Yz<|HH c29<|HH (aM 3 1 (Zi (ab (raw.g i0).time 0 40)) ye k!)<|HH (show AV.same 20 (Zi (ab (raw.g i0).time 0 40)) (Zi (ab (raw.g i0).time 0 40))=true from aU 19 _ _)<|CN 2<|MM (aM 3 1 (Zi (ab (raw.g i0).time 0 40)) ye k!)<|CN 2<|VV air<|CC<|MM acr<|CN 3<|EE k34<|EE k35<|CN 2<|SS afK<|HH (aM 3 1 (Zi (ab (raw.g i0).time 0 40)) ye k!)<|HH (show AV.same 20 (Zi (ab (raw.g i0).time 0 40)) (Zi (ab (raw.g i0).time 0 40))=true from aU 19 _ _)<|HH acr<|HH (show AV.same 20 (Zi (raw.g i0).value) (Zi (raw.g i0).value)=true from aU 19 _ _)<|HH acr<|HH (show AV.same 20 (Zi (raw.g i0).value) (Zi (raw.g i0).value)=true from aU 19 _ _)<|CC<|MM (aM 3 2 (Zi (IntKind.i64.wrap ((dE x_ (ab (raw.g i0).time 0 40))+(ab (raw.g i0).value (IntKind.i64.wrap (0 -((bh (q.af.g (ab (raw.g i0).aD 0 ((q.af.length - 1:Nat):Int)).toNat) (ab (raw.g i0).time 0 40)).1))) (bh (q.af.g (ab (raw.g i0).aD 0 ((q.af.length - 1:Nat):Int)).toNat) (ab (raw.g i0).time 0 40)).1)))) Fo k!)<|VV (bZ 3 false true .i64 (IntKind.i64.wrap ((dE x_ (ab (raw.g i0).time 0 40))+(ab (raw.g i0).value (IntKind.i64.wrap (0 -((bh (q.af.g (ab (raw.g i0).aD 0 ((q.af.length - 1:Nat):Int)).toNat) (ab (raw.g i0).time 0 40)).1))) (bh (q.af.g (ab (raw.g i0).aD 0 ((q.af.length - 1:Nat):Int)).toNat) (ab (raw.g i0).time 0 40)).1))) (-1000000000))<|CC<|k:Pk _ [] ps)
       rcases Bool.eq_false_or_eq_true (decide ((IntKind.i64.wrap ((dE x_ (ab (raw.g i0).time 0 40))+(ab (raw.g i0).value (IntKind.i64.wrap (0 -((bh (q.af.g (ab (raw.g i0).aD 0 ((q.af.length - 1:Nat):Int)).toNat) (ab (raw.g i0).time 0 40)).1))) (bh (q.af.g (ab (raw.g i0).aD 0 ((q.af.length - 1:Nat):Int)).toNat) (ab (raw.g i0).time 0 40)).1)))<(-1000000000))) with f3 | f3
       · have jy:=of_decide_eq_true f3
         have u38:=fj 3 false true i0 1 o!
         exact dU.round (by simp only[ck,f1,f2,f3,ao,ai]) (pk (d+3) _ _ hh _ KN (H5<|BB f3<|BB f3<|BV f3 (pa true f3)<|TT<|CC<|VV u38<|CC<|ZZ) k!) o! _ k! (fun x=>iO ug hD ml fQ raw bad q x_ cY dj cD eX v8 pM oI yd D4 Ka Kb Kc Ke bY tA zn ny d_ (i0+1) bf hU o! x KN U2 AB o! (oZ _ _ o! (gN _ _ o! (jX _ _ du))) (oZ _ _ o! (gN _ _ o! (jX _ _ gH))) px (eJ (D:=az) pN) cU gW gX)
       · have jy:=of_decide_eq_false f3
         have Tu:=fun {al ps} (k:Pk al _ ps)=>(H5<|BC f3<|BM f3 (aM 3 2 (Zi (IntKind.i64.wrap ((dE x_ (ab (raw.g i0).time 0 40))+(ab (raw.g i0).value (IntKind.i64.wrap (0 -((bh (q.af.g (ab (raw.g i0).aD 0 ((q.af.length - 1:Nat):Int)).toNat) (ab (raw.g i0).time 0 40)).1))) (bh (q.af.g (ab (raw.g i0).aD 0 ((q.af.length - 1:Nat):Int)).toNat) (ab (raw.g i0).time 0 40)).1)))) Fo k!)<|BV f3 (cg 3 false true .i64 (IntKind.i64.wrap ((dE x_ (ab (raw.g i0).time 0 40))+(ab (raw.g i0).value (IntKind.i64.wrap (0 -((bh (q.af.g (ab (raw.g i0).aD 0 ((q.af.length - 1:Nat):Int)).toNat) (ab (raw.g i0).time 0 40)).1))) (bh (q.af.g (ab (raw.g i0).aD 0 ((q.af.length - 1:Nat):Int)).toNat) (ab (raw.g i0).time 0 40)).1))) 1000000000)<|VV (ba (a:=some (AV.bool true)) (b:=some (AV.bool (decide (1000000000<(IntKind.i64.wrap ((dE x_ (ab (raw.g i0).time 0 40))+(ab (raw.g i0).value (IntKind.i64.wrap (0 -((bh (q.af.g (ab (raw.g i0).aD 0 ((q.af.length - 1:Nat):Int)).toNat) (ab (raw.g i0).time 0 40)).1))) (bh (q.af.g (ab (raw.g i0).aD 0 ((q.af.length - 1:Nat):Int)).toNat) (ab (raw.g i0).time 0 40)).1))))))) f3)<|k:Pk _ [] ps)
         rcases Bool.eq_false_or_eq_true (decide (1000000000<(IntKind.i64.wrap ((dE x_ (ab (raw.g i0).time 0 40))+(ab (raw.g i0).value (IntKind.i64.wrap (0 -((bh (q.af.g (ab (raw.g i0).aD 0 ((q.af.length - 1:Nat):Int)).toNat) (ab (raw.g i0).time 0 40)).1))) (bh (q.af.g (ab (raw.g i0).aD 0 ((q.af.length - 1:Nat):Int)).toNat) (ab (raw.g i0).time 0 40)).1))))) with f4 | f4
         · have km:=of_decide_eq_true f4
           have u39:=fj 3 false true i0 1 o!
           exact dU.round (by simp only[ck,f1,f2,f3,f4,ao,ai]) (pk (d+3) _ _ hh _ KN (Tu<|BC f4<|VV u39<|CC<|ZZ) k!) o! _ k! (fun x=>iO ug hD ml fQ raw bad q x_ cY dj cD eX v8 pM oI yd D4 Ka Kb Kc Ke bY tA zn ny d_ (i0+1) bf hU o! x KN U2 AB o! (oZ _ _ o! (gN _ _ o! (jX _ _ du))) (oZ _ _ o! (gN _ _ o! (jX _ _ gH))) px (eJ (D:=az) pN) cU gW gX)
         · have km:=of_decide_eq_false f4
           have ait:dJ (some (.slice 43)) (some hU)=some (Zn bf.length):=rA.len
           obtain ⟨akn,Ov,YE,vb,U3⟩:=u_ (d:=d) (h:=KN) ug hD ml fQ hU i0 bad q raw x_ bf cY dj hh.nx (cD.has AB) (eX.has AB) v8 (pM.has AB) (rA.has yg) (aA.mono AB oI) (aA.mono AB (eX.ok (i:=i0) o!)) o! o! o! o! o! o! ((bf.length:Nat):Int).toNat ((bf.length:Nat):Int) o! (show (0≤((bf.length:Nat):Int)∧((bf.length:Nat):Int)≤(List.length bf:Int)) from by omega) (fun k_=>(((x 0)::ug::(AV.slice cY 0 hD hD ml)::fQ::(Pt dj)::rx x 5 4 (hU::(Zn i0)::(Pt hh.nx)::(Zi (bh (q.af.g (ab (raw.g i0).aD 0 ((q.af.length - 1:Nat):Int)).toNat) (ab (raw.g i0).time 0 40)).1)::(Zi (bh (q.af.g (ab (raw.g i0).aD 0 ((q.af.length - 1:Nat):Int)).toNat) (ab (raw.g i0).time 0 40)).2)::(Zn bf.length)::(Zn i0)::fQ::(Zn raw.length)::(AV.bool (decide (((i0:Nat):Int)<((raw.length:Nat):Int))))::(AV.bool (decide (((i0:Nat):Int)<((raw.length:Nat):Int))))::(AV.ptr dj 6)::q.aB::(Zn q.af.length)::(AV.bool (decide (0<((q.af.length:Nat):Int))))::(AV.bool (decide (0<((q.af.length:Nat):Int))))::(x 25)::(x 26)::fQ::(Zn i0)::(AV.ptr p6 q7)::(AV.ptr p6 (q7+0))::(Zi (raw.g i0).aD)::(AV.ptr dj 6)::q.aB::(Zn q.af.length)::(Zn (q.af.length - 1))::(Zi (ab (raw.g i0).aD 0 ((q.af.length - 1:Nat):Int)))::fQ::(Zn i0)::(AV.ptr H0 H2)::(AV.ptr H0 (H2+1))::(Zi (raw.g i0).time)::(Zi (ab (raw.g i0).time 0 40))::(AV.agg [(Zi (ab (raw.g i0).aD 0 ((q.af.length - 1:Nat):Int))),(Zi (ab (raw.g i0).time 0 40)),(Zi 0)])::(AV.slice cY 0 hD hD ml)::(Pt hh.nx)::(Zi (ab (raw.g i0).aD 0 ((q.af.length - 1:Nat):Int)))::(AV.ptr cY (ab (raw.g i0).aD 0 ((q.af.length - 1:Nat):Int)).toNat)::(AV.bool (bad.g (ab (raw.g i0).aD 0 ((q.af.length - 1:Nat):Int)).toNat))::rx x 49 7 ((AV.tuple [(Zi (bh (q.af.g (ab (raw.g i0).aD 0 ((q.af.length - 1:Nat):Int)).toNat) (ab (raw.g i0).time 0 40)).1),(Zi (bh (q.af.g (ab (raw.g i0).aD 0 ((q.af.length - 1:Nat):Int)).toNat) (ab (raw.g i0).time 0 40)).2)])::(AV.ptr dj 6)::q.aB::(Pt hh.nx)::(Zi (ab (raw.g i0).aD 0 ((q.af.length - 1:Nat):Int)))::(AV.ptr Z5 Z6)::(AV.agg [(AV.str (q.af.g (ab (raw.g i0).aD 0 ((q.af.length - 1:Nat):Int)).toNat).name),(Zi (q.af.g (ab (raw.g i0).aD 0 ((q.af.length - 1:Nat):Int)).toNat).acc),(Zi (q.af.g (ab (raw.g i0).aD 0 ((q.af.length - 1:Nat):Int)).toNat).bP),(Zi (q.af.g (ab (raw.g i0).aD 0 ((q.af.length - 1:Nat):Int)).toNat).since)])::(AV.ptr hh.nx 1)::(Zi (ab (raw.g i0).time 0 40))::(AV.tuple [(Zi (bh (q.af.g (ab (raw.g i0).aD 0 ((q.af.length - 1:Nat):Int)).toNat) (ab (raw.g i0).time 0 40)).1),(Zi (bh (q.af.g (ab (raw.g i0).aD 0 ((q.af.length - 1:Nat):Int)).toNat) (ab (raw.g i0).time 0 40)).2)])::(Zi (bh (q.af.g (ab (raw.g i0).aD 0 ((q.af.length - 1:Nat):Int)).toNat) (ab (raw.g i0).time 0 40)).1)::(Zi (bh (q.af.g (ab (raw.g i0).aD 0 ((q.af.length - 1:Nat):Int)).toNat) (ab (raw.g i0).time 0 40)).2)::ug::(AV.ptr hh.nx 1)::(Zi (ab (raw.g i0).time 0 40))::(Zi (dE x_ (ab (raw.g i0).time 0 40)))::fQ::(Zn i0)::(AV.ptr p31 q32)::(AV.ptr p31 (q32+2))::(Zi (raw.g i0).value)::(Zi (bh (q.af.g (ab (raw.g i0).aD 0 ((q.af.length - 1:Nat):Int)).toNat) (ab (raw.g i0).time 0 40)).1)::(Zi (IntKind.i64.wrap (0 -((bh (q.af.g (ab (raw.g i0).aD 0 ((q.af.length - 1:Nat):Int)).toNat) (ab (raw.g i0).time 0 40)).1))))::(Zi (bh (q.af.g (ab (raw.g i0).aD 0 ((q.af.length - 1:Nat):Int)).toNat) (ab (raw.g i0).time 0 40)).1)::(Zi (ab (raw.g i0).value (IntKind.i64.wrap (0 -((bh (q.af.g (ab (raw.g i0).aD 0 ((q.af.length - 1:Nat):Int)).toNat) (ab (raw.g i0).time 0 40)).1))) (bh (q.af.g (ab (raw.g i0).aD 0 ((q.af.length - 1:Nat):Int)).toNat) (ab (raw.g i0).time 0 40)).1))::(Zi (IntKind.i64.wrap ((dE x_ (ab (raw.g i0).time 0 40))+(ab (raw.g i0).value (IntKind.i64.wrap (0 -((bh (q.af.g (ab (raw.g i0).aD 0 ((q.af.length - 1:Nat):Int)).toNat) (ab (raw.g i0).time 0 40)).1))) (bh (q.af.g (ab (raw.g i0).aD 0 ((q.af.length - 1:Nat):Int)).toNat) (ab (raw.g i0).time 0 40)).1))))::(AV.ptr hh.nx 2)::(AV.ptr hh.nx 2)::(Zi (IntKind.i64.wrap ((dE x_ (ab (raw.g i0).time 0 40))+(ab (raw.g i0).value (IntKind.i64.wrap (0 -((bh (q.af.g (ab (raw.g i0).aD 0 ((q.af.length - 1:Nat):Int)).toNat) (ab (raw.g i0).time 0 40)).1))) (bh (q.af.g (ab (raw.g i0).aD 0 ((q.af.length - 1:Nat):Int)).toNat) (ab (raw.g i0).time 0 40)).1))))::(AV.bool (decide ((IntKind.i64.wrap ((dE x_ (ab (raw.g i0).time 0 40))+(ab (raw.g i0).value (IntKind.i64.wrap (0 -((bh (q.af.g (ab (raw.g i0).aD 0 ((q.af.length - 1:Nat):Int)).toNat) (ab (raw.g i0).time 0 40)).1))) (bh (q.af.g (ab (raw.g i0).aD 0 ((q.af.length - 1:Nat):Int)).toNat) (ab (raw.g i0).time 0 40)).1)))<(-1000000000))))::(AV.bool (decide ((IntKind.i64.wrap ((dE x_ (ab (raw.g i0).time 0 40))+(ab (raw.g i0).value (IntKind.i64.wrap (0 -((bh (q.af.g (ab (raw.g i0).aD 0 ((q.af.length - 1:Nat):Int)).toNat) (ab (raw.g i0).time 0 40)).1))) (bh (q.af.g (ab (raw.g i0).aD 0 ((q.af.length - 1:Nat):Int)).toNat) (ab (raw.g i0).time 0 40)).1)))<(-1000000000))))::(AV.ptr hh.nx 2)::(Zi (IntKind.i64.wrap ((dE x_ (ab (raw.g i0).time 0 40))+(ab (raw.g i0).value (IntKind.i64.wrap (0 -((bh (q.af.g (ab (raw.g i0).aD 0 ((q.af.length - 1:Nat):Int)).toNat) (ab (raw.g i0).time 0 40)).1))) (bh (q.af.g (ab (raw.g i0).aD 0 ((q.af.length - 1:Nat):Int)).toNat) (ab (raw.g i0).time 0 40)).1))))::(AV.bool (decide (1000000000<(IntKind.i64.wrap ((dE x_ (ab (raw.g i0).time 0 40))+(ab (raw.g i0).value (IntKind.i64.wrap (0 -((bh (q.af.g (ab (raw.g i0).aD 0 ((q.af.length - 1:Nat):Int)).toNat) (ab (raw.g i0).time 0 40)).1))) (bh (q.af.g (ab (raw.g i0).aD 0 ((q.af.length - 1:Nat):Int)).toNat) (ab (raw.g i0).time 0 40)).1))))))::(AV.bool (decide (1000000000<(IntKind.i64.wrap ((dE x_ (ab (raw.g i0).time 0 40))+(ab (raw.g i0).value (IntKind.i64.wrap (0 -((bh (q.af.g (ab (raw.g i0).aD 0 ((q.af.length - 1:Nat):Int)).toNat) (ab (raw.g i0).time 0 40)).1))) (bh (q.af.g (ab (raw.g i0).aD 0 ((q.af.length - 1:Nat):Int)).toNat) (ab (raw.g i0).time 0 40)).1))))))::hU::(Zn bf.length)::rx x 93 28 []))):List AV).getD k_ AV.undef) KN U2 (Has.refl _) (oZ _ _ o! (gN _ _ o! (jX _ _ du))) (oZ _ _ o! (gN _ _ o! (jX _ _ gH))) Fo
           have afL:=(show (0≤(bN raw i0 bf ((bf.length:Nat):Int).toNat ((bf.length:Nat):Int))∧(bN raw i0 bf ((bf.length:Nat):Int).toNat ((bf.length:Nat):Int))≤(List.length bf:Int)) from U3)
           have Ow:=vb.y
           have ajH:KN.nx≤Ov.nx:=vb.n
           have U4:Has h Ov:=AB.trans vb.a
           have Dn:Has hh Ov:=yg.trans vb.a
           have zx:Has KN Ov:=vb.a
           obtain ⟨YF,afM,afN,ajI,Z',Dp⟩:=iQ Ow (a_.cells [] 43 false)
           have afO:Has h YF:=U4.trans Dp
           have U5:Has hh YF:=Dn.trans Dp
           have P7:Has KN YF:=zx.trans Dp
           have P_:Has Ov YF:=Dp
           obtain ⟨r43,afP,U6⟩:=bC.GW px (rA.has yg) (t:=27) k! (i:=(bN raw i0 bf ((bf.length:Nat):Int).toNat ((bf.length:Nat):Int)).toNat) o!
           have aiu:dw env 27 hU (none) (some (Zi (bN raw i0 bf ((bf.length:Nat):Int).toNat ((bf.length:Nat):Int)))) (none)=some r43:=by rw[show ((bN raw i0 bf ((bf.length:Nat):Int).toNat ((bf.length:Nat):Int)):Int)=(((bN raw i0 bf ((bf.length:Nat):Int).toNat ((bf.length:Nat):Int)).toNat:Nat):Int) by omega];exact afP
           obtain ⟨Ki,afQ,UY,ajJ,U7,AD⟩:=iQ afN (a_.cells [(Zi (ab (raw.g i0).aD 0 ((q.af.length - 1:Nat):Int))),(Zi (ab (raw.g i0).time 0 40)),(Zi (IntKind.i64.wrap ((dE x_ (ab (raw.g i0).time 0 40))+(ab (raw.g i0).value (IntKind.i64.wrap (0 -((bh (q.af.g (ab (raw.g i0).aD 0 ((q.af.length - 1:Nat):Int)).toNat) (ab (raw.g i0).time 0 40)).1))) (bh (q.af.g (ab (raw.g i0).aD 0 ((q.af.length - 1:Nat):Int)).toNat) (ab (raw.g i0).time 0 40)).1))))] 43 false)
           have Z9:Has h Ki:=afO.trans AD
           have Kj:Has hh Ki:=U5.trans AD
           have n9:Has KN Ki:=P7.trans AD
           have Fq:Has Ov Ki:=P_.trans AD
           obtain ⟨r47,afR,U8⟩:=bC.ad6 px (rA.has yg) (t:=27) k! (i:=(bN raw i0 bf ((bf.length:Nat):Int).toNat ((bf.length:Nat):Int)).toNat) o!
           have aiv:dw env 27 hU (some (Zi (bN raw i0 bf ((bf.length:Nat):Int).toNat ((bf.length:Nat):Int)))) (none) (none)=some r47:=by rw[show ((bN raw i0 bf ((bf.length:Nat):Int).toNat ((bf.length:Nat):Int)):Int)=(((bN raw i0 bf ((bf.length:Nat):Int).toNat ((bf.length:Nat):Int)).toNat:Nat):Int) by omega];exact afR
           obtain ⟨z51,YG,acs,afS,ajK,ajL,afT,tJ⟩:=bC.ad1 (tys:= #[27,27]) (l:=([]:List az)) (m:=(bf.take (bN raw i0 bf ((bf.length:Nat):Int).toNat ((bf.length:Nat):Int)).toNat)) (x:=r43) UY Ow Fq o! (.inl ⟨.inr ⟨_,rfl,(Nat.le_refl _),(AD _ _ Z')⟩,rfl⟩:bC Ov Ki (AV.slice Ov.nx 0 0 0 false) ([]:List az)) (U6.has n9).kV (U6.has n9).first (kN (U6.has n9) fun y hy=>az.sc ((U6.has n9).GU y hy)) cU rfl rfl k! k! (bytes:=24) k! (z0:=(AV.agg [(Zi 0),(Zi 0),(Zi 0)])) k! rfl (by decide)
           have ajM:Has h YG:=Z9.trans tJ
           have afU:Has hh YG:=Kj.trans tJ
           have ac8:Has KN YG:=n9.trans tJ
           have Qa:Has Ov YG:=Fq.trans tJ
           have U9:∀y∈(([]:List az)++(bf.take (bN raw i0 bf ((bf.length:Nat):Int).toNat ((bf.length:Nat):Int)).toNat)),aA.ok YG y:=NT tJ (nq (fun y hy=>by cases hy) (U6.has n9).GU)
           have acu:aZ YG z51 (([]:List az)++(bf.take (bN raw i0 bf ((bf.length:Nat):Int).toNat ((bf.length:Nat):Int)).toNat)):=bC.rows afT cU U9
           have afV:=acu.small
           obtain ⟨z54,h53,acv,afW,ajN,Ox,afX,aiw⟩:=bC.app (tys:= #[27,27]) (l:=(([]:List az)++(bf.take (bN raw i0 bf ((bf.length:Nat):Int).toNat ((bf.length:Nat):Int)).toNat))) (m:=[(⟨(ab (raw.g i0).aD 0 ((q.af.length - 1:Nat):Int)),(ab (raw.g i0).time 0 40),(IntKind.i64.wrap ((dE x_ (ab (raw.g i0).time 0 40))+(ab (raw.g i0).value (IntKind.i64.wrap (0 -((bh (q.af.g (ab (raw.g i0).aD 0 ((q.af.length - 1:Nat):Int)).toNat) (ab (raw.g i0).time 0 40)).1))) (bh (q.af.g (ab (raw.g i0).aD 0 ((q.af.length - 1:Nat):Int)).toNat) (ab (raw.g i0).time 0 40)).1)))⟩:az)]) (x:=(AV.slice YF.nx 0 1 1 false)) afS Ow Qa o! afT rfl (mb (x:=(⟨(ab (raw.g i0).aD 0 ((q.af.length - 1:Nat):Int)),(ab (raw.g i0).time 0 40),(IntKind.i64.wrap ((dE x_ (ab (raw.g i0).time 0 40))+(ab (raw.g i0).value (IntKind.i64.wrap (0 -((bh (q.af.g (ab (raw.g i0).aD 0 ((q.af.length - 1:Nat):Int)).toNat) (ab (raw.g i0).time 0 40)).1))) (bh (q.af.g (ab (raw.g i0).aD 0 ((q.af.length - 1:Nat):Int)).toNat) (ab (raw.g i0).time 0 40)).1)))⟩:az)) (tJ _ _ U7)) (by simp [aA.c,az.c,AV.scalar]) cU rfl rfl k! k! (bytes:=24) k! (z0:=(AV.agg [(Zi 0),(Zi 0),(Zi 0)])) k! rfl (by decide)
           have ajO:Has h h53:=U4.trans Ox
           have afY:Has hh h53:=Dn.trans Ox
           have qw:Has KN h53:=zx.trans Ox
           have Qb:Has Ov h53:=Ox
           have U_:∀y∈((([]:List az)++(bf.take (bN raw i0 bf ((bf.length:Nat):Int).toNat ((bf.length:Nat):Int)).toNat))++([(⟨(ab (raw.g i0).aD 0 ((q.af.length - 1:Nat):Int)),(ab (raw.g i0).time 0 40),(IntKind.i64.wrap ((dE x_ (ab (raw.g i0).time 0 40))+(ab (raw.g i0).value (IntKind.i64.wrap (0 -((bh (q.af.g (ab (raw.g i0).aD 0 ((q.af.length - 1:Nat):Int)).toNat) (ab (raw.g i0).time 0 40)).1))) (bh (q.af.g (ab (raw.g i0).aD 0 ((q.af.length - 1:Nat):Int)).toNat) (ab (raw.g i0).time 0 40)).1)))⟩:az)])),aA.ok h53 y:=eJ (D:=az) (nq U9 (ok_one trivial))
           have acw:aZ h53 z54 ((([]:List az)++(bf.take (bN raw i0 bf ((bf.length:Nat):Int).toNat ((bf.length:Nat):Int)).toNat))++([(⟨(ab (raw.g i0).aD 0 ((q.af.length - 1:Nat):Int)),(ab (raw.g i0).time 0 40),(IntKind.i64.wrap ((dE x_ (ab (raw.g i0).time 0 40))+(ab (raw.g i0).value (IntKind.i64.wrap (0 -((bh (q.af.g (ab (raw.g i0).aD 0 ((q.af.length - 1:Nat):Int)).toNat) (ab (raw.g i0).time 0 40)).1))) (bh (q.af.g (ab (raw.g i0).aD 0 ((q.af.length - 1:Nat):Int)).toNat) (ab (raw.g i0).time 0 40)).1)))⟩:az)])):=bC.rows afX cU U_
           have afZ:=acw.small
           obtain ⟨z57,YH,acx,U',ajP,Fs,Qc,aix⟩:=bC.app (tys:= #[27,27]) (l:=((([]:List az)++(bf.take (bN raw i0 bf ((bf.length:Nat):Int).toNat ((bf.length:Nat):Int)).toNat))++([(⟨(ab (raw.g i0).aD 0 ((q.af.length - 1:Nat):Int)),(ab (raw.g i0).time 0 40),(IntKind.i64.wrap ((dE x_ (ab (raw.g i0).time 0 40))+(ab (raw.g i0).value (IntKind.i64.wrap (0 -((bh (q.af.g (ab (raw.g i0).aD 0 ((q.af.length - 1:Nat):Int)).toNat) (ab (raw.g i0).time 0 40)).1))) (bh (q.af.g (ab (raw.g i0).aD 0 ((q.af.length - 1:Nat):Int)).toNat) (ab (raw.g i0).time 0 40)).1)))⟩:az)]))) (m:=(bf.drop (bN raw i0 bf ((bf.length:Nat):Int).toNat ((bf.length:Nat):Int)).toNat)) (x:=r47) afW Ow Qb o! afX (U8.has qw).kV (U8.has qw).first (kN (U8.has qw) fun y hy=>az.sc ((U8.has qw).GU y hy)) cU rfl rfl k! k! (bytes:=24) k! (z0:=(AV.agg [(Zi 0),(Zi 0),(Zi 0)])) k! rfl (by decide)
           have af0:Has h YH:=U4.trans Fs
           have af1:Has hh YH:=Dn.trans Fs
           have ac9:Has KN YH:=zx.trans Fs
           have ada:Has Ov YH:=Fs
           have Va:∀y∈(((([]:List az)++(bf.take (bN raw i0 bf ((bf.length:Nat):Int).toNat ((bf.length:Nat):Int)).toNat))++([(⟨(ab (raw.g i0).aD 0 ((q.af.length - 1:Nat):Int)),(ab (raw.g i0).time 0 40),(IntKind.i64.wrap ((dE x_ (ab (raw.g i0).time 0 40))+(ab (raw.g i0).value (IntKind.i64.wrap (0 -((bh (q.af.g (ab (raw.g i0).aD 0 ((q.af.length - 1:Nat):Int)).toNat) (ab (raw.g i0).time 0 40)).1))) (bh (q.af.g (ab (raw.g i0).aD 0 ((q.af.length - 1:Nat):Int)).toNat) (ab (raw.g i0).time 0 40)).1)))⟩:az)]))++(bf.drop (bN raw i0 bf ((bf.length:Nat):Int).toNat ((bf.length:Nat):Int)).toNat)),aA.ok YH y:=eJ (D:=az) (nq U_ (U8.has qw).GU)
           have acy:aZ YH z57 (((([]:List az)++(bf.take (bN raw i0 bf ((bf.length:Nat):Int).toNat ((bf.length:Nat):Int)).toNat))++([(⟨(ab (raw.g i0).aD 0 ((q.af.length - 1:Nat):Int)),(ab (raw.g i0).time 0 40),(IntKind.i64.wrap ((dE x_ (ab (raw.g i0).time 0 40))+(ab (raw.g i0).value (IntKind.i64.wrap (0 -((bh (q.af.g (ab (raw.g i0).aD 0 ((q.af.length - 1:Nat):Int)).toNat) (ab (raw.g i0).time 0 40)).1))) (bh (q.af.g (ab (raw.g i0).aD 0 ((q.af.length - 1:Nat):Int)).toNat) (ab (raw.g i0).time 0 40)).1)))⟩:az)]))++(bf.drop (bN raw i0 bf ((bf.length:Nat):Int).toNat ((bf.length:Nat):Int)).toNat)):=bC.rows Qc cU Va
           have af2:=acy.small
           have c59:AV.same 20 (AV.agg [(Zi (ab (raw.g i0).aD 0 ((q.af.length - 1:Nat):Int))),(Zi (ab (raw.g i0).time 0 40)),(Zi (IntKind.i64.wrap ((dE x_ (ab (raw.g i0).time 0 40))+(ab (raw.g i0).value (IntKind.i64.wrap (0 -((bh (q.af.g (ab (raw.g i0).aD 0 ((q.af.length - 1:Nat):Int)).toNat) (ab (raw.g i0).time 0 40)).1))) (bh (q.af.g (ab (raw.g i0).aD 0 ((q.af.length - 1:Nat):Int)).toNat) (ab (raw.g i0).time 0 40)).1))))]) (AV.agg [(Zi (ab (raw.g i0).aD 0 ((q.af.length - 1:Nat):Int))),(Zi (ab (raw.g i0).time 0 40)),(Zi (IntKind.i64.wrap ((dE x_ (ab (raw.g i0).time 0 40))+(ab (raw.g i0).value (IntKind.i64.wrap (0 -((bh (q.af.g (ab (raw.g i0).aD 0 ((q.af.length - 1:Nat):Int)).toNat) (ab (raw.g i0).time 0 40)).1))) (bh (q.af.g (ab (raw.g i0).aD 0 ((q.af.length - 1:Nat):Int)).toNat) (ab (raw.g i0).time 0 40)).1))))])=true:=ie 18 (pR (fun n=>aU n _ _) (pR (fun n=>aU n _ _) (pR (fun n=>aU n _ _) Pq)))
           have u60:=fj 3 false true i0 1 o!
           exact dU.round (by simp only[ck,f1,f2,f3,f4,ao,ai]) (pk (d+3) _ _ hh _ YH (Tu<|BC f4<|VV ait<|CC<|LL YE<|NN afM (fun i=>(AV.slice i 0 0 0 false))<|CN 2<|QQ aiu<|MM (aM 43 0 (AV.agg [(Zi (ab (raw.g i0).aD 0 ((q.af.length - 1:Nat):Int))),(Zi (ab (raw.g i0).time 0 40)),(Zi (IntKind.i64.wrap ((dE x_ (ab (raw.g i0).time 0 40))+(ab (raw.g i0).value (IntKind.i64.wrap (0 -((bh (q.af.g (ab (raw.g i0).aD 0 ((q.af.length - 1:Nat):Int)).toNat) (ab (raw.g i0).time 0 40)).1))) (bh (q.af.g (ab (raw.g i0).aD 0 ((q.af.length - 1:Nat):Int)).toNat) (ab (raw.g i0).time 0 40)).1))))]) (Dp _ _ (vb.a _ _ Fo)) k!)<|NN afQ (fun i=>(AV.slice i 0 1 1 false))<|CN 2<|QQ aiv<|PP (show bU env Ki #[27,27] (AV.slice Ov.nx 0 0 0 false) r43=some (z51,YG) from acs)<|PP (show bU env YG #[27,27] z51 (AV.slice YF.nx 0 1 1 false)=some (z54,h53) from acv)<|PP (show bU env h53 #[27,27] z54 r47=some (z57,YH) from acx)<|CC<|HH (show ∃o,Ki.get Ov.nx=some o∧a_.same o (a_.cells [] 43 false)=true from ⟨_,(AD _ _ Z'),by simp [a_.same,cL,AV.same]⟩)<|HH (aM 43 0 (AV.agg [(Zi (ab (raw.g i0).aD 0 ((q.af.length - 1:Nat):Int))),(Zi (ab (raw.g i0).time 0 40)),(Zi (IntKind.i64.wrap ((dE x_ (ab (raw.g i0).time 0 40))+(ab (raw.g i0).value (IntKind.i64.wrap (0 -((bh (q.af.g (ab (raw.g i0).aD 0 ((q.af.length - 1:Nat):Int)).toNat) (ab (raw.g i0).time 0 40)).1))) (bh (q.af.g (ab (raw.g i0).aD 0 ((q.af.length - 1:Nat):Int)).toNat) (ab (raw.g i0).time 0 40)).1))))]) (AD _ _ (Dp _ _ (vb.a _ _ Fo))) k!)<|HH c59<|HH (aM 43 0 (AV.agg [(Zi (ab (raw.g i0).aD 0 ((q.af.length - 1:Nat):Int))),(Zi (ab (raw.g i0).time 0 40)),(Zi (IntKind.i64.wrap ((dE x_ (ab (raw.g i0).time 0 40))+(ab (raw.g i0).value (IntKind.i64.wrap (0 -((bh (q.af.g (ab (raw.g i0).aD 0 ((q.af.length - 1:Nat):Int)).toNat) (ab (raw.g i0).time 0 40)).1))) (bh (q.af.g (ab (raw.g i0).aD 0 ((q.af.length - 1:Nat):Int)).toNat) (ab (raw.g i0).time 0 40)).1))))]) (tJ _ _ (AD _ _ (Dp _ _ (vb.a _ _ Fo)))) k!)<|HH c59<|HH (show ∃o,Ki.get YF.nx=some o∧a_.same o (a_.cells [(Zi (ab (raw.g i0).aD 0 ((q.af.length - 1:Nat):Int))),(Zi (ab (raw.g i0).time 0 40)),(Zi (IntKind.i64.wrap ((dE x_ (ab (raw.g i0).time 0 40))+(ab (raw.g i0).value (IntKind.i64.wrap (0 -((bh (q.af.g (ab (raw.g i0).aD 0 ((q.af.length - 1:Nat):Int)).toNat) (ab (raw.g i0).time 0 40)).1))) (bh (q.af.g (ab (raw.g i0).aD 0 ((q.af.length - 1:Nat):Int)).toNat) (ab (raw.g i0).time 0 40)).1))))] 43 false)=true from ⟨_,U7,by simp [a_.same,cL,AV.same]⟩)<|HH (show ∃o,YG.get YF.nx=some o∧a_.same o (a_.cells [(Zi (ab (raw.g i0).aD 0 ((q.af.length - 1:Nat):Int))),(Zi (ab (raw.g i0).time 0 40)),(Zi (IntKind.i64.wrap ((dE x_ (ab (raw.g i0).time 0 40))+(ab (raw.g i0).value (IntKind.i64.wrap (0 -((bh (q.af.g (ab (raw.g i0).aD 0 ((q.af.length - 1:Nat):Int)).toNat) (ab (raw.g i0).time 0 40)).1))) (bh (q.af.g (ab (raw.g i0).aD 0 ((q.af.length - 1:Nat):Int)).toNat) (ab (raw.g i0).time 0 40)).1))))] 43 false)=true from ⟨_,(tJ _ _ U7),by simp [a_.same,cL,AV.same]⟩)<|HH (show nodup [Ov.nx,YF.nx]=true from (by simp [nodup];omega))<|CC<|VV u60<|CC<|ZZ) k!) o! _ k! (fun x=>iO ug hD ml fQ raw bad q x_ cY dj cD eX v8 pM oI yd D4 Ka Kb Kc Ke bY tA zn ny d_ (i0+1) (((([]:List az)++(bf.take (bN raw i0 bf ((bf.length:Nat):Int).toNat ((bf.length:Nat):Int)).toNat))++([(⟨(ab (raw.g i0).aD 0 ((q.af.length - 1:Nat):Int)),(ab (raw.g i0).time 0 40),(IntKind.i64.wrap ((dE x_ (ab (raw.g i0).time 0 40))+(ab (raw.g i0).value (IntKind.i64.wrap (0 -((bh (q.af.g (ab (raw.g i0).aD 0 ((q.af.length - 1:Nat):Int)).toNat) (ab (raw.g i0).time 0 40)).1))) (bh (q.af.g (ab (raw.g i0).aD 0 ((q.af.length - 1:Nat):Int)).toNat) (ab (raw.g i0).time 0 40)).1)))⟩:az)]))++(bf.drop (bN raw i0 bf ((bf.length:Nat):Int).toNat ((bf.length:Nat):Int)).toNat)) z57 o! x YH U' af0 o! (Fs _ _ (vb.a _ _ (oZ _ _ o! (gN _ _ o! (jX _ _ du))))) (Fs _ _ (vb.a _ _ (oZ _ _ o! (gN _ _ o! (jX _ _ gH))))) (bC.le (h0:=h) Qc o!) Va cU (by first | exact bC.Pz Qc o! | exact bC.s7 U' Qc o!) (by first | exact bC.Pz Qc o! | exact bC.s7 U' Qc o!))
   · have jg:=of_decide_eq_false f1
     exact dU.out bf hU (by simp only[ck,f1,ao,ai]) (pk (d+3) _ _ hh _ hh (DQ<|BB f1<|ZZ) k!) aN o! ⟨bj,du,gH,Aw,pN,cU,gW,gX⟩ k!
def aL (q:ay) (x_:List Int) (bad:List Bool) (raw:List az):List az:=(ck raw q x_ bad raw.length 0 ([]:List az))
theorem Qd {d:Nat} {h:au} {ug fQ:AV} (q:ay) (x_:List Int) (bad:List Bool) (Vb:Nat) (hD:Nat) (ml:Bool) (raw:List az) (jh:aA.ok h q) (LH:eS h .i64 3 ug x_) (af3:h.get Vb=some (a_.cells (bs bad) 4 false)) (ajQ:bad.length=hD) (ajR:Vb<h.nx) (Ft:aZ h fQ raw) (mM:raw.length≤12) (Ju:q.af.length≤8) (GW:0<x_.length) (aiy:bad.length=q.af.length) (aiz:aE q=0) (bY:Tidy h):∃z hk,cW (d+4) (.fn 18) [(AV.agg [(AV.str q.name),(Zi q.aj),(Zi q.ah),(Zi q.aI),(Zi q.aK),(Zi q.bad),q.aB]),ug,(AV.slice Vb 0 hD hD ml),fQ] h= .ret z hk∧Grow h hk∧aZ hk z (aL q x_ bad raw)∧bC h hk z (aL q x_ bad raw):=by
 have aa8:=LH.small
 have YI:=Ft.small
 have ky:=jh.2.small
 obtain ⟨h1,cA,cq,jf,aY,ct⟩:=iQ bY (a_.cells [(AV.str q.name),(Zi q.aj),(Zi q.ah),(Zi q.aI),(Zi q.aK),(Zi q.bad),q.aB] 26 false)
 have bI:Has h h1:=ct
 obtain ⟨zo4,ZD,h3,jB,gF,vP,xO,zk,aiA,Vc,Oy,aiB,QY,QZ⟩:=iO (d:=d) (h:=h) ug hD ml fQ raw bad q x_ Vb h.nx LH Ft jh.1 jh.2 jh o! o! o! o! (by assumption) o! bY o! o! o! raw.length 0 ([]:List az) AV.aQ o! (fun k_=>(((AV.agg [(AV.str q.name),(Zi q.aj),(Zi q.ah),(Zi q.aI),(Zi q.aK),(Zi q.bad),q.aB])::ug::(AV.slice Vb 0 hD hD ml)::fQ::(Pt h.nx)::AV.undef::AV.undef::AV.undef::AV.aQ::AV.aQ::(Zi 0)::kX 110):List AV).getD k_ AV.undef) h1 cq bI o! (ct _ _ af3) aY (.inl ⟨.inl rfl,rfl⟩) (fun y hy=>by cases hy) (Nat.zero_le _) (bJ.nil _) (bJ.nil _)
 have acz:aZ h3 zo4 (ck raw q x_ bad raw.length 0 ([]:List az)):=bC.rows Vc o! Oy
 have agG:=acz.small
 have ik:Has h h3:=xO
 have e:aL q x_ bad raw=(ck raw q x_ bad raw.length 0 ([]:List az)):=by simp only[aL,ao,ai]
 rw[e]
 have oz:=bC.le (h0:=h) Vc o!
 exact ⟨zo4,ma rfl (bx Try.func18 PX rfl (.inr rfl) (pk (d+3) _ _ h _ h3 (NN cA (fun i=>(Pt i))<|CN 3<|LL jB<|CN 2<|ZZ) k!) k!) bY ⟨gF,ik,by omega⟩ (P:=fun hh=>aZ hh zo4 (ck raw q x_ bad raw.length 0 ([]:List az))∧bC h hh zo4 (ck raw q x_ bad raw.length 0 ([]:List az))) ⟨bC.rows oz (by first | omega | decide) Oy,oz⟩ fun v=>⟨bC.S4 oz v,bC.Jv oz v⟩⟩
end
end Go.Proofs.aH
