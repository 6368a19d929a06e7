import Derived.Test.YtfllahfbmaafcaaW0
import Derived.Test.YtfllahfbmaafcaaW1
import Derived.Test.YtfllahfbmaafcaaW12
import Derived.Test.YtfllahfbmaafcaaW10
import Derived.Test.YtfllahfbmaafcaaW11
import Derived.Test.YtfllahfbmaafcaaW2
import Derived.Test.YtfllahfbmaafcaaW13
import Derived.Test.YtfllahfbmaafcaaA7
namespace Go.Proofs.aH
open Go.Proofs Ab
noncomputable section
set_option maxRecDepth 100000
set_option maxHeartbeats 4000000
set_option linter.unusedVariables false
set_option linter.unusedSimpArgs false
theorem dB {p:Prop} (h:p:=by first | omega | assumption | exact Yw (by assumption) | (have:=lS (by assumption);omega)):p:=h
def lT:Code:=(Try.f5.body).getD .skip
theorem jc:Try.f5.body=some lT:=by kernel_rfl
def Ku:Code:=(cC lT).getD 0 .skip
def Kv:Code:=(cC lT).getD 1 .skip
def Kw:Code:=(cC lT).getD 2 .skip
def Kx:Code:=(cC lT).getD 3 .skip
def gB (q:ay) (begin:Int) (steps:List Int) (bits:Int) (raw:List az) (i0:Nat):Nat→Nat→Option (Bool)
 | 0,_=>none
 | bF+1,i1=>(bif (decide (((aP q (aL q (aO q begin steps) (aF q bits) raw) ((i0:Nat):Int)).1.g i1).aG<(((aP q (aL q (aO q begin steps) (aF q bits) raw) ((i0:Nat):Int)).1.g i1).aX))) then some false else (bif (decide (0<((i1:Nat):Int))) then (bif (decide (((aP q (aL q (aO q begin steps) (aF q bits) raw) ((i0:Nat):Int)).1.g i1).aX≤(IntKind.i64.wrap ((((aP q (aL q (aO q begin steps) (aF q bits) raw) ((i0:Nat):Int)).1.g (i1 - 1)).aG)+1)))) then some false else gB q begin steps bits raw i0 bF (i1+1)) else gB q begin steps bits raw i0 bF (i1+1)))
theorem rC {d:Nat} {h:au} (z12:AV) (Bm:AV) (i0:Nat) (z3:AV) (q:ay) (begin:Int) (steps:List Int) (bits:Int) (raw:List az) (dt:Nat) (qj:q.name.length<2^60) (me:aZ h q.aB q.af) (A5:eS h .i64 3 z12 (aO q begin steps)) (uJ:aZ h Bm (aL q (aO q begin steps) (aF q bits) raw)) (mY:aZ h z3 (aP q (aL q (aO q begin steps) (aF q bits) raw) ((i0:Nat):Int)).1) (zc:aA.ok h q) (uV:i0<43):∀(k_ i_:Nat) (_:i_+k_=((aP q (aL q (aO q begin steps) (aF q bits) raw) ((i0:Nat):Int)).1.length)) (x:Nat→AV) (hh:au) (aN:Tidy hh) (bj:Has h hh) (dK:hh.get dt=some (a_.cells [(AV.str q.name),(Zi q.aj),(Zi q.ah),(Zi q.aI),(Zi q.aK),(Zi q.bad),q.aB] 26 false)),aW (cW (d+15)) Kv ⟨(rx x 0 5 ((Pt dt)::rx x 6 5 (z12::(x 12)::Bm::(Zn i0)::z3::(x 16)::(Zn i_)::rx x 18 142 []))),hh,[],.no⟩ (.exit 2) hh (fun y=>(rx y 0 5 ((Pt dt)::rx y 6 5 (z12::(y 12)::Bm::(Zn i0)::z3::rx y 16 144 [])))) (fun r y=>(rx y 0 5 ((Pt dt)::rx y 6 4 ((AV.bool r)::z12::(y 12)::Bm::(Zn i0)::z3::rx y 16 144 [])))) (gB q begin steps bits raw i0 k_ i_)
 | 0,i1,kY,x,hh,aN,bj,dK=>by
   have rj:=me.small
   have Mq:=A5.small
   have v7:=uJ.small
   have Dk:=mY.small
   have zd:=aN _ _ dK
   have nY:dJ (some (.slice 23)) (some z3)=some (Zn (aP q (aL q (aO q begin steps) (aF q bits) raw) ((i0:Nat):Int)).1.length):=(mY.has bj).len
   have q2:(decide (((i1:Nat):Int)<(((aP q (aL q (aO q begin steps) (aF q bits) raw) ((i0:Nat):Int)).1.length:Nat):Int)))=false:=d!
   exact aW.out rfl (pk (d+15) _ _ hh _ hh (CN 2<|VV nY<|VV (bZ 3 false false .i64 ((i1:Nat):Int) (((aP q (aL q (aO q begin steps) (aF q bits) raw) ((i0:Nat):Int)).1.length:Nat):Int))<|BB q2<|ZZ) k!) (Grow.refl aN) k!
 | bF+1,i1,kY,x,hh,aN,bj,dK=>by
   have rj:=me.small
   have Mq:=A5.small
   have v7:=uJ.small
   have Dk:=mY.small
   have zd:=aN _ _ dK
   have nY:dJ (some (.slice 23)) (some z3)=some (Zn (aP q (aL q (aO q begin steps) (aF q bits) raw) ((i0:Nat):Int)).1.length):=(mY.has bj).len
   have q2:(decide (((i1:Nat):Int)<(((aP q (aL q (aO q begin steps) (aF q bits) raw) ((i0:Nat):Int)).1.length:Nat):Int)))=true:=d!
   obtain ⟨p4,q5,pH⟩:=(mY.has bj).elem (i:=i1) o!
   have DP:dr env (some (.slice 23)) (some z3) (some (Zn i1))=some (AV.ptr p4 q5):=pH
   have Af:bG env hh 3 (AV.ptr p4 (q5+0))=some (Zi ((aP q (aL q (aO q begin steps) (aF q bits) raw) ((i0:Nat):Int)).1.g i1).aX):=(mY.has bj).part (t:=3) (j:=0) o! pH k! rfl
   obtain ⟨p8,q9,Ve⟩:=(mY.has bj).elem (i:=i1) o!
   have ix7:dr env (some (.slice 23)) (some z3) (some (Zn i1))=some (AV.ptr p8 q9):=Ve
   have MI:bG env hh 3 (AV.ptr p8 (q9+1))=some (Zi ((aP q (aL q (aO q begin steps) (aF q bits) raw) ((i0:Nat):Int)).1.g i1).aG):=(mY.has bj).part (t:=3) (j:=1) o! Ve k! rfl
   have za:=fun {al ps} (k:Pk al _ ps)=>(CN 2<|VV nY<|VV (bZ 3 false false .i64 ((i1:Nat):Int) (((aP q (aL q (aO q begin steps) (aF q bits) raw) ((i0:Nat):Int)).1.length:Nat):Int))<|BB q2<|CN 2<|VV DP<|CC<|MM Af<|CN 2<|VV ix7<|CC<|MM MI<|VV (cg 3 false false .i64 ((aP q (aL q (aO q begin steps) (aF q bits) raw) ((i0:Nat):Int)).1.g i1).aX ((aP q (aL q (aO q begin steps) (aF q bits) raw) ((i0:Nat):Int)).1.g i1).aG)<|CC<|k:Pk _ [] ps)
   rcases Bool.eq_false_or_eq_true (decide (((aP q (aL q (aO q begin steps) (aF q bits) raw) ((i0:Nat):Int)).1.g i1).aG<(((aP q (aL q (aO q begin steps) (aF q bits) raw) ((i0:Nat):Int)).1.g i1).aX))) with f1 | f1
   · have jg:=of_decide_eq_true f1
     exact aW.ret false (by simp only[gB,f1,ao,ai]) (pk (d+15) _ _ hh _ hh (za<|BB f1<|BB f1<|BB f1<|BV f1 (pa true f1)<|HH Af<|HH (show AV.same 20 (Zi ((aP q (aL q (aO q begin steps) (aF q bits) raw) ((i0:Nat):Int)).1.g i1).aX) (Zi ((aP q (aL q (aO q begin steps) (aF q bits) raw) ((i0:Nat):Int)).1.g i1).aX)=true from aU 19 _ _)<|HH MI<|HH (show AV.same 20 (Zi ((aP q (aL q (aO q begin steps) (aF q bits) raw) ((i0:Nat):Int)).1.g i1).aG) (Zi ((aP q (aL q (aO q begin steps) (aF q bits) raw) ((i0:Nat):Int)).1.g i1).aG)=true from aU 19 _ _)<|TT<|CC<|ZZ) k!) (Grow.refl aN) k!
   · have jg:=of_decide_eq_false f1
     have HZ:=fun {al ps} (k:Pk al _ ps)=>(za<|BC f1<|BV f1 (cg 3 false true .i64 ((i1:Nat):Int) 0)<|BC f1<|k:Pk _ [] ps)
     rcases Bool.eq_false_or_eq_true (decide (0<((i1:Nat):Int))) with f2 | f2
     · have nr:=of_decide_eq_true f2
       have Tt:=GS 3 false true i1 1 o! o!
       obtain ⟨p15,q16,aaj⟩:=(mY.has bj).elem (i:=(i1 - 1)) o!
       have aiQ:dr env (some (.slice 23)) (some z3) (some (Zn (i1 - 1)))=some (AV.ptr p15 q16):=aaj
       have agl:bG env hh 3 (AV.ptr p15 (q16+1))=some (Zi ((aP q (aL q (aO q begin steps) (aF q bits) raw) ((i0:Nat):Int)).1.g (i1 - 1)).aG):=(mY.has bj).part (t:=3) (j:=1) o! aaj k! rfl
       obtain ⟨p19,q20,aak⟩:=(mY.has bj).elem (i:=i1) o!
       have aiR:dr env (some (.slice 23)) (some z3) (some (Zn i1))=some (AV.ptr p19 q20):=aak
       have agm:bG env hh 3 (AV.ptr p19 (q20+0))=some (Zi ((aP q (aL q (aO q begin steps) (aF q bits) raw) ((i0:Nat):Int)).1.g i1).aX):=(mY.has bj).part (t:=3) (j:=0) o! aak k! rfl
       have Jw:=fun {al ps} (k:Pk al _ ps)=>(HZ<|BC f2<|BC f2<|BV f2 Tt<|BV f2 aiQ<|BC f2<|BM f2 agl<|BC f2<|BC f2<|BC f2<|BV f2 aiR<|BC f2<|BM f2 agm<|BV f2 (qh 3 false false .i64 (IntKind.i64.wrap ((((aP q (aL q (aO q begin steps) (aF q bits) raw) ((i0:Nat):Int)).1.g (i1 - 1)).aG)+1)) ((aP q (aL q (aO q begin steps) (aF q bits) raw) ((i0:Nat):Int)).1.g i1).aX)<|BV f1 (pG (decide (((aP q (aL q (aO q begin steps) (aF q bits) raw) ((i0:Nat):Int)).1.g i1).aX≤(IntKind.i64.wrap ((((aP q (aL q (aO q begin steps) (aF q bits) raw) ((i0:Nat):Int)).1.g (i1 - 1)).aG)+1)))) false f2)<|VV (ba (a:=some (AV.bool true)) (b:=some (AV.bool (decide (((aP q (aL q (aO q begin steps) (aF q bits) raw) ((i0:Nat):Int)).1.g i1).aX≤(IntKind.i64.wrap ((((aP q (aL q (aO q begin steps) (aF q bits) raw) ((i0:Nat):Int)).1.g (i1 - 1)).aG)+1)))))) f1)<|HH Af<|HH (show AV.same 20 (Zi ((aP q (aL q (aO q begin steps) (aF q bits) raw) ((i0:Nat):Int)).1.g i1).aX) (Zi ((aP q (aL q (aO q begin steps) (aF q bits) raw) ((i0:Nat):Int)).1.g i1).aX)=true from aU 19 _ _)<|HH MI<|HH (show AV.same 20 (Zi ((aP q (aL q (aO q begin steps) (aF q bits) raw) ((i0:Nat):Int)).1.g i1).aG) (Zi ((aP q (aL q (aO q begin steps) (aF q bits) raw) ((i0:Nat):Int)).1.g i1).aG)=true from aU 19 _ _)<|HH agl<|HH (show AV.same 20 (Zi ((aP q (aL q (aO q begin steps) (aF q bits) raw) ((i0:Nat):Int)).1.g (i1 - 1)).aG) (Zi ((aP q (aL q (aO q begin steps) (aF q bits) raw) ((i0:Nat):Int)).1.g (i1 - 1)).aG)=true from aU 19 _ _)<|HH agm<|HH (show AV.same 20 (Zi ((aP q (aL q (aO q begin steps) (aF q bits) raw) ((i0:Nat):Int)).1.g i1).aX) (Zi ((aP q (aL q (aO q begin steps) (aF q bits) raw) ((i0:Nat):Int)).1.g i1).aX)=true from aU 19 _ _)<|k:Pk _ [] ps)
       rcases Bool.eq_false_or_eq_true (decide (((aP q (aL q (aO q begin steps) (aF q bits) raw) ((i0:Nat):Int)).1.g i1).aX≤(IntKind.i64.wrap ((((aP q (aL q (aO q begin steps) (aF q bits) raw) ((i0:Nat):Int)).1.g (i1 - 1)).aG)+1)))) with f3 | f3
       · have jy:=of_decide_eq_true f3
         exact aW.ret false (by simp only[gB,f1,f2,f3,ao,ai]) (pk (d+15) _ _ hh _ hh (Jw<|BC f3<|ZZ) k!) (Grow.refl aN) k!
       · have jy:=of_decide_eq_false f3
         have u23:=fj 3 false true i1 1 o!
         exact aW.round (by simp only[gB,f1,f2,f3,ao,ai]) (pk (d+15) _ _ hh _ hh (Jw<|BC f3<|VV u23<|CC<|ZZ) k!) (Grow.refl aN) _ k! (fun x=>rC z12 Bm i0 z3 q begin steps bits raw dt qj me A5 uJ mY zc uV bF (i1+1) o! x hh aN bj dK)
     · have nr:=of_decide_eq_false f2
       have Tt:=fj 3 false true i1 1 o!
       exact aW.round (by simp only[gB,f1,f2,ao,ai]) (pk (d+15) _ _ hh _ hh (HZ<|BB f2<|BB f2<|BB f2<|BB f2<|BB f2<|BB f2<|BB f2<|BB f2<|BB f2<|BB f2<|BB f2<|BB f2<|BB f2<|BV f1 (vG false f2)<|VV (pcf true false f1)<|HH Af<|HH (show AV.same 20 (Zi ((aP q (aL q (aO q begin steps) (aF q bits) raw) ((i0:Nat):Int)).1.g i1).aX) (Zi ((aP q (aL q (aO q begin steps) (aF q bits) raw) ((i0:Nat):Int)).1.g i1).aX)=true from aU 19 _ _)<|HH MI<|HH (show AV.same 20 (Zi ((aP q (aL q (aO q begin steps) (aF q bits) raw) ((i0:Nat):Int)).1.g i1).aG) (Zi ((aP q (aL q (aO q begin steps) (aF q bits) raw) ((i0:Nat):Int)).1.g i1).aG)=true from aU 19 _ _)<|FF<|CC<|VV Tt<|CC<|ZZ) k!) (Grow.refl aN) _ k! (fun x=>rC z12 Bm i0 z3 q begin steps bits raw dt qj me A5 uJ mY zc uV bF (i1+1) o! x hh aN bj dK)
def hF (q:ay) (begin:Int) (steps:List Int) (bits:Int) (raw:List az):Nat→Nat→Option (Bool)
 | 0,_=>none
 | d_+1,i0=>(bif (!decide ((aP q (aL q (aO q begin steps) (aF q bits) raw) ((i0:Nat):Int)).2=0)) then some false else (bif (!(gA (aP q (aL q (aO q begin steps) (aF q bits) raw) ((i0:Nat):Int)).1 (dE (aO q begin steps) ((i0:Nat):Int)))) then some false else (match (gB q begin steps bits raw i0 (aP q (aL q (aO q begin steps) (aF q bits) raw) ((i0:Nat):Int)).1.length 0) with | none=>hF q begin steps bits raw d_ (i0+1) | some rr8=>some rr8)))
theorem yj {d:Nat} {h:au} (z12:AV) (Bm:AV) (q:ay) (begin:Int) (steps:List Int) (bits:Int) (raw:List az) (cY:Nat) (cD:aZ h Bm (aL q (aO q begin steps) (aF q bits) raw)) (eX:eS h .i64 3 z12 (aO q begin steps)) (v8:q.name.length<2^60) (pM:aZ h q.aB q.af) (oI:aA.ok h q) (yd:(aL q (aO q begin steps) (aF q bits) raw).length≤12) (D4:0<(aO q begin steps).length):∀(k_ i_:Nat) (_:i_+k_=43) (x:Nat→AV) (hh:au) (aN:Tidy hh) (bj:Has h hh) (du:hh.get cY=some (a_.cells [(AV.str q.name),(Zi q.aj),(Zi q.ah),(Zi q.aI),(Zi q.aK),(Zi q.bad),q.aB] 26 false)),aW (cW (d+15)) Ku ⟨(rx x 0 5 ((Pt cY)::rx x 6 5 (z12::(x 12)::Bm::(Zn i_)::rx x 15 145 []))),hh,[],.no⟩ (.exit 0) hh (fun y=>(rx y 0 5 ((Pt cY)::rx y 6 5 (z12::(y 12)::Bm::rx y 14 146 [])))) (fun r y=>(rx y 0 5 ((Pt cY)::rx y 6 4 ((AV.bool r)::z12::(y 12)::Bm::rx y 14 146 [])))) (hF q begin steps bits raw k_ i_)
 | 0,i0,kY,x,hh,aN,bj,du=>by
   have jA:=cD.small
   have rk:=eX.small
   have MF:=pM.small
   have ze:=aN _ _ du
   have q1:(decide (((i0:Nat):Int)≤42))=false:=d!
   exact aW.out rfl (pk (d+15) _ _ hh _ hh (CC<|VV (qg 3 false true .i64 ((i0:Nat):Int) 42)<|BB q1<|ZZ) k!) (Grow.refl aN) k!
 | d_+1,i0,kY,x,hh,aN,bj,du=>by
   have jA:=cD.small
   have rk:=eX.small
   have MF:=pM.small
   have ze:=aN _ _ du
   have q1:(decide (((i0:Nat):Int)≤42))=true:=d!
   obtain ⟨z3,h2,TM,tL,⟨VG,aiS⟩⟩:=Hx (d:=d+1) q (aL q (aO q begin steps) (aF q bits) raw) ((i0:Nat):Int) (aA.mono bj oI) (cD.has bj) dB aN
   have gG:=tL.y
   have Hl:hh.nx≤h2.nx:=tL.n
   have fF:Has hh h2:=tL.a
   have ajW:=VG.small
   have Jy:=fun {al ps} (k:Pk al _ ps)=>(CC<|VV (qg 3 false true .i64 ((i0:Nat):Int) 42)<|BM q1 (aM 26 0 (AV.agg [(AV.str q.name),(Zi q.aj),(Zi q.ah),(Zi q.aI),(Zi q.aK),(Zi q.bad),q.aB]) du k!)<|CN 2<|EE TM<|CN 6<|VV (jw 31 false true .i64 (aP q (aL q (aO q begin steps) (aF q bits) raw) ((i0:Nat):Int)).2 0)<|CC<|k:Pk _ [] ps)
   rcases Bool.eq_false_or_eq_true (!decide ((aP q (aL q (aO q begin steps) (aF q bits) raw) ((i0:Nat):Int)).2=0)) with f1 | f1
   · have jg:=EM f1
     exact aW.ret false (by simp only[hF,f1,ao,ai]) (pk (d+15) _ _ hh _ h2 (Jy<|BB f1<|BB f1<|BB f1<|BB f1<|BB f1<|BV f1 (pa true f1)<|TT<|CC<|ZZ) k!) (⟨gG,fF,by omega⟩) k!
   · have jg:=EN f1
     have k5:=S8 (d:=d+14) (aO q begin steps) ((i0:Nat):Int) ((eX.has bj).has fF) dB dB gG
     have k6:=MO (d:=d+14) (aP q (aL q (aO q begin steps) (aF q bits) raw) ((i0:Nat):Int)).1 (dE (aO q begin steps) ((i0:Nat):Int)) VG gG
     have DQ:=fun {al ps} (k:Pk al _ ps)=>(Jy<|BC f1<|BC f1<|BC f1<|BB f1<|EE k5<|BB f1<|EE k6<|BC f1<|k:Pk _ [] ps)
     rcases Bool.eq_false_or_eq_true (!(gA (aP q (aL q (aO q begin steps) (aF q bits) raw) ((i0:Nat):Int)).1 (dE (aO q begin steps) ((i0:Nat):Int)))) with f2 | f2
     · exact aW.ret false (by simp only[hF,f1,f2,ao,ai]) (pk (d+15) _ _ hh _ h2 (DQ<|VV (ba (a:=some (AV.bool true)) (b:=some (AV.bool (!(gA (aP q (aL q (aO q begin steps) (aF q bits) raw) ((i0:Nat):Int)).1 (dE (aO q begin steps) ((i0:Nat):Int)))))) f1)<|BC f2<|ZZ) k!) (⟨gG,fF,by omega⟩) k!
     · have agn:=rC (d:=d) (h:=h2) z12 Bm i0 z3 q begin steps bits raw cY v8 ((pM.has bj).has fF) ((eX.has bj).has fF) ((cD.has bj).has fF) VG (aA.mono fF (aA.mono bj oI)) o! (aP q (aL q (aO q begin steps) (aF q bits) raw) ((i0:Nat):Int)).1.length 0 o! (fun k_=>((rx x 0 5 ((Pt cY)::rx x 6 5 (z12::(x 12)::Bm::(Zn i0)::z3::(Zi (aP q (aL q (aO q begin steps) (aF q bits) raw) ((i0:Nat):Int)).2)::(Zi 0)::rx x 18 42 ((Zn i0)::(AV.bool (decide (((i0:Nat):Int)≤42)))::(x 62)::(x 63)::(AV.tuple [z3,(Zi (aP q (aL q (aO q begin steps) (aF q bits) raw) ((i0:Nat):Int)).2)])::(AV.agg [(AV.str q.name),(Zi q.aj),(Zi q.ah),(Zi q.aI),(Zi q.aK),(Zi q.bad),q.aB])::Bm::(Zn i0)::(AV.tuple [z3,(Zi (aP q (aL q (aO q begin steps) (aF q bits) raw) ((i0:Nat):Int)).2)])::z3::(Zi (aP q (aL q (aO q begin steps) (aF q bits) raw) ((i0:Nat):Int)).2)::(Zi (aP q (aL q (aO q begin steps) (aF q bits) raw) ((i0:Nat):Int)).2)::(AV.bool (!decide ((aP q (aL q (aO q begin steps) (aF q bits) raw) ((i0:Nat):Int)).2=0)))::(AV.bool (!decide ((aP q (aL q (aO q begin steps) (aF q bits) raw) ((i0:Nat):Int)).2=0)))::z3::z12::(Zn i0)::(Zi (dE (aO q begin steps) ((i0:Nat):Int)))::(AV.bool (gA (aP q (aL q (aO q begin steps) (aF q bits) raw) ((i0:Nat):Int)).1 (dE (aO q begin steps) ((i0:Nat):Int))))::(AV.bool (!(gA (aP q (aL q (aO q begin steps) (aF q bits) raw) ((i0:Nat):Int)).1 (dE (aO q begin steps) ((i0:Nat):Int)))))::(AV.bool (!(gA (aP q (aL q (aO q begin steps) (aF q bits) raw) ((i0:Nat):Int)).1 (dE (aO q begin steps) ((i0:Nat):Int)))))::rx x 81 79 [])))):List AV).getD k_ AV.undef) h2 gG (Has.refl _) (tL.a _ _ du)
       cases ri:gB q begin steps bits raw i0 (aP q (aL q (aO q begin steps) (aF q bits) raw) ((i0:Nat):Int)).1.length 0 with
       | none=>
         obtain ⟨yl8,h9,vJ,rY⟩:=aW.n ri agn
         have AY:=rY.y
         have aa9:h2.nx≤h9.nx:=rY.n
         have DS:Has hh h9:=fF.trans rY.a
         have YQ:Has h2 h9:=rY.a
         have u10:=fj 3 false true i0 1 o!
         exact aW.round (by simp only[hF,f1,f2,ri,ao,ai]) (pk (d+15) _ _ hh _ h9 (DQ<|VV (ba (a:=some (AV.bool true)) (b:=some (AV.bool (!(gA (aP q (aL q (aO q begin steps) (aF q bits) raw) ((i0:Nat):Int)).1 (dE (aO q begin steps) ((i0:Nat):Int)))))) f1)<|BC f2<|LL vJ<|CC<|VV u10<|CC<|ZZ) k!) (⟨AY,DS,by omega⟩) _ k! (fun x=>yj z12 Bm q begin steps bits raw cY cD eX v8 pM oI yd D4 d_ (i0+1) o! x h9 AY (bj.trans DS) (rY.a _ _ (tL.a _ _ du)))
       | some rr8=>
         obtain ⟨yl8,h9,vJ,rY⟩:=aW.r ri agn
         have AY:=rY.y
         have aa9:h2.nx≤h9.nx:=rY.n
         have DS:Has hh h9:=fF.trans rY.a
         have YQ:Has h2 h9:=rY.a
         exact aW.ret rr8 (by simp only[hF,f1,f2,ri,ao,ai]) (pk (d+15) _ _ hh _ h9 (DQ<|VV (ba (a:=some (AV.bool true)) (b:=some (AV.bool (!(gA (aP q (aL q (aO q begin steps) (aF q bits) raw) ((i0:Nat):Int)).1 (dE (aO q begin steps) ((i0:Nat):Int)))))) f1)<|BC f2<|LL vJ<|ZZ) k!) (⟨AY,DS,by omega⟩) k!
def hI (q:ay) (begin:Int) (steps:List Int) (bits:Int) (raw:List az) (i2:Nat):Nat→Nat→Bool→Bool
 | 0,_,vg=>vg
 | kq3+1,i3,vg=>(bif vg then hI q begin steps bits raw i2 kq3 (i3+1) true else hI q begin steps bits raw i2 kq3 (i3+1) (decide (((aR q (aL q (aO q begin steps) (aF q bits) raw)).2.1.g i3)=((aR q (aL q (aO q begin steps) (aF q bits) raw)).1.g i2))))
theorem rD {d:Nat} {h:au} (z24:AV) (z25:AV) (i2:Nat) (q:ay) (begin:Int) (steps:List Int) (bits:Int) (raw:List az) (Qm:eS h .i64 3 z24 (aR q (aL q (aO q begin steps) (aF q bits) raw)).1) (Ky:eS h .i64 3 z25 (aR q (aL q (aO q begin steps) (aF q bits) raw)).2.1) (aal:i2<((aR q (aL q (aO q begin steps) (aF q bits) raw)).1.length)):∀(k_ i_:Nat) (vg:Bool) (_:i_+k_=((aR q (aL q (aO q begin steps) (aF q bits) raw)).2.1.length)) (x:Nat→AV) (hh:au) (aN:Tidy hh) (bj:Has h hh),fM (cW (d+15)) Kx ⟨(rx x 0 18 (z24::z25::(x 20)::(Zn i2)::(AV.bool vg)::(Zn i_)::rx x 24 136 [])),hh,[],.no⟩ (.exit 6) hh (fun r y=>(rx y 0 18 (z24::z25::(y 20)::(Zn i2)::(AV.bool r)::rx y 23 137 []))) (fun r=>True) (hI q begin steps bits raw i2 k_ i_ vg)
 | 0,i3,vg,kY,x,hh,aN,bj=>by
   have acM:=Qm.small
   have acN:=Ky.small
   have nY:dJ (some (.slice 3)) (some z25)=some (Zn (aR q (aL q (aO q begin steps) (aF q bits) raw)).2.1.length):=(Ky.has bj).len
   have q2:(decide (((i3:Nat):Int)<(((aR q (aL q (aO q begin steps) (aF q bits) raw)).2.1.length:Nat):Int)))=false:=d!
   exact fM.out vg rfl (pk (d+15) _ _ hh _ hh (CN 2<|VV nY<|VV (bZ 3 false false .i64 ((i3:Nat):Int) (((aR q (aL q (aO q begin steps) (aF q bits) raw)).2.1.length:Nat):Int))<|BB q2<|ZZ) k!) (Grow.refl aN) trivial k!
 | kq3+1,i3,vg,kY,x,hh,aN,bj=>by
   have acM:=Qm.small
   have acN:=Ky.small
   have nY:dJ (some (.slice 3)) (some z25)=some (Zn (aR q (aL q (aO q begin steps) (aF q bits) raw)).2.1.length):=(Ky.has bj).len
   have q2:(decide (((i3:Nat):Int)<(((aR q (aL q (aO q begin steps) (aF q bits) raw)).2.1.length:Nat):Int)))=true:=d!
   have Cr:=fun {al ps} (k:Pk al _ ps)=>(CN 2<|VV nY<|VV (bZ 3 false false .i64 ((i3:Nat):Int) (((aR q (aL q (aO q begin steps) (aF q bits) raw)).2.1.length:Nat):Int))<|BB q2<|CN 2<|k:Pk _ [] ps)
   rcases Bool.eq_false_or_eq_true vg with f1 | f1
   · have u4:=fj 3 false true i3 1 o!
     exact fM.round (by simp only[hI,f1,ao,ai]) (pk (d+15) _ _ hh _ hh (Cr<|BB f1<|BB f1<|BB f1<|BB f1<|BB f1<|BB f1<|BB f1<|BB f1<|BV f1 (pa true f1)<|CN 2<|VV u4<|CC<|ZZ) k!) (Grow.refl aN) _ k! (fun x=>rD z24 z25 i2 q begin steps bits raw Qm Ky aal kq3 (i3+1) true o! x hh aN bj)
   · obtain ⟨p5,q6,Ug,_⟩:=(Ky.has bj).elem (i:=i3) o!
     have QR:dr env (some (.slice 3)) (some z25) (some (Zn i3))=some (AV.ptr p5 q6):=Ug
     have ld7:bG env hh 3 (AV.ptr p5 q6)=some (Zi ((aR q (aL q (aO q begin steps) (aF q bits) raw)).2.1.g i3)):=(Ky.has bj).load o! Ug
     obtain ⟨p9,rO,Vi,_⟩:=(Qm.has bj).elem (i:=i2) o!
     have Wd:dr env (some (.slice 3)) (some z24) (some (Zn i2))=some (AV.ptr p9 rO):=Vi
     have Vj:bG env hh 3 (AV.ptr p9 rO)=some (Zi ((aR q (aL q (aO q begin steps) (aF q bits) raw)).1.g i2)):=(Qm.has bj).load o! Vi
     have u12:=fj 3 false true i3 1 o!
     exact fM.round (by simp only[hI,f1,ao,ai]) (pk (d+15) _ _ hh _ hh (Cr<|BC f1<|BC f1<|BV f1 QR<|BM f1 ld7<|BC f1<|BC f1<|BV f1 Wd<|BM f1 Vj<|BV f1 (o_ 3 false false .i64 ((aR q (aL q (aO q begin steps) (aF q bits) raw)).2.1.g i3) ((aR q (aL q (aO q begin steps) (aF q bits) raw)).1.g i2))<|VV (ba (a:=some (AV.bool true)) (b:=some (AV.bool (decide (((aR q (aL q (aO q begin steps) (aF q bits) raw)).2.1.g i3)=((aR q (aL q (aO q begin steps) (aF q bits) raw)).1.g i2))))) f1)<|CC<|HH ld7<|HH (show AV.same 20 (Zi ((aR q (aL q (aO q begin steps) (aF q bits) raw)).2.1.g i3)) (Zi ((aR q (aL q (aO q begin steps) (aF q bits) raw)).2.1.g i3))=true from aU 19 _ _)<|HH Vj<|HH (show AV.same 20 (Zi ((aR q (aL q (aO q begin steps) (aF q bits) raw)).1.g i2)) (Zi ((aR q (aL q (aO q begin steps) (aF q bits) raw)).1.g i2))=true from aU 19 _ _)<|CC<|VV u12<|CC<|ZZ) k!) (Grow.refl aN) _ k! (fun x=>rD z24 z25 i2 q begin steps bits raw Qm Ky aal kq3 (i3+1) (decide (((aR q (aL q (aO q begin steps) (aF q bits) raw)).2.1.g i3)=((aR q (aL q (aO q begin steps) (aF q bits) raw)).1.g i2))) o! x hh aN bj)
def jG (q:ay) (begin:Int) (steps:List Int) (bits:Int) (raw:List az):Nat→Nat→Option (Bool)
 | 0,_=>none
 | kq2+1,i2=>(bif (!(hI q begin steps bits raw i2 (aR q (aL q (aO q begin steps) (aF q bits) raw)).2.1.length 0 false)) then some false else jG q begin steps bits raw kq2 (i2+1))
theorem ym {d:Nat} {h:au} (z24:AV) (z25:AV) (q:ay) (begin:Int) (steps:List Int) (bits:Int) (raw:List az) (Qo:eS h .i64 3 z24 (aR q (aL q (aO q begin steps) (aF q bits) raw)).1) (YR:eS h .i64 3 z25 (aR q (aL q (aO q begin steps) (aF q bits) raw)).2.1):∀(k_ i_:Nat) (_:i_+k_=((aR q (aL q (aO q begin steps) (aF q bits) raw)).1.length)) (x:Nat→AV) (hh:au) (aN:Tidy hh) (bj:Has h hh),aW (cW (d+15)) Kw ⟨(rx x 0 18 (z24::z25::(x 20)::(Zn i_)::rx x 22 138 [])),hh,[],.no⟩ (.exit 4) hh (fun y=>(rx y 0 18 (z24::z25::rx y 20 140 []))) (fun r y=>(rx y 0 10 ((AV.bool r)::rx y 11 7 (z24::z25::rx y 20 140 [])))) (jG q begin steps bits raw k_ i_)
 | 0,i2,kY,x,hh,aN,bj=>by
   have acO:=Qo.small
   have acP:=YR.small
   have nY:dJ (some (.slice 3)) (some z24)=some (Zn (aR q (aL q (aO q begin steps) (aF q bits) raw)).1.length):=(Qo.has bj).len
   have q2:(decide (((i2:Nat):Int)<(((aR q (aL q (aO q begin steps) (aF q bits) raw)).1.length:Nat):Int)))=false:=d!
   exact aW.out rfl (pk (d+15) _ _ hh _ hh (CN 2<|VV nY<|VV (bZ 3 false false .i64 ((i2:Nat):Int) (((aR q (aL q (aO q begin steps) (aF q bits) raw)).1.length:Nat):Int))<|BB q2<|ZZ) k!) (Grow.refl aN) k!
 | kq2+1,i2,kY,x,hh,aN,bj=>by
   have acO:=Qo.small
   have acP:=YR.small
   have nY:dJ (some (.slice 3)) (some z24)=some (Zn (aR q (aL q (aO q begin steps) (aF q bits) raw)).1.length):=(Qo.has bj).len
   have q2:(decide (((i2:Nat):Int)<(((aR q (aL q (aO q begin steps) (aF q bits) raw)).1.length:Nat):Int)))=true:=d!
   obtain ⟨X3,h4,C2,acQ,X4⟩:=rD (d:=d) (h:=hh) z24 z25 i2 q begin steps bits raw (Qo.has bj) (YR.has bj) o! (aR q (aL q (aO q begin steps) (aF q bits) raw)).2.1.length 0 false o! (fun k_=>((rx x 0 18 (z24::z25::(x 20)::(Zn i2)::(AV.bool false)::(Zi 0)::rx x 24 109 ((Zn i2)::z24::(Zn (aR q (aL q (aO q begin steps) (aF q bits) raw)).1.length)::(AV.bool (decide (((i2:Nat):Int)<(((aR q (aL q (aO q begin steps) (aF q bits) raw)).1.length:Nat):Int))))::rx x 137 23 []))):List AV).getD k_ AV.undef) hh aN (Has.refl _)
   have qp:=acQ.y
   have aeE:hh.nx≤h4.nx:=acQ.n
   have qq:Has hh h4:=acQ.a
   have Tq:=fun {al ps} (k:Pk al _ ps)=>(CN 2<|VV nY<|VV (bZ 3 false false .i64 ((i2:Nat):Int) (((aR q (aL q (aO q begin steps) (aF q bits) raw)).1.length:Nat):Int))<|BB q2<|CN 2<|LL C2<|CN 2<|k:Pk _ [] ps)
   rcases Bool.eq_false_or_eq_true (!(hI q begin steps bits raw i2 (aR q (aL q (aO q begin steps) (aF q bits) raw)).2.1.length 0 false)) with f1 | f1
   · exact aW.ret false (by simp only[jG,f1,ao,ai]) (pk (d+15) _ _ hh _ h4 (Tq<|BC f1<|ZZ) k!) (⟨qp,qq,by omega⟩) k!
   · have u6:=fj 3 false true i2 1 o!
     exact aW.round (by simp only[jG,f1,ao,ai]) (pk (d+15) _ _ hh _ h4 (Tq<|BC f1<|VV u6<|CC<|ZZ) k!) (⟨qp,qq,by omega⟩) _ k! (fun x=>ym z24 z25 q begin steps bits raw Qo YR kq2 (i2+1) o! x h4 qp (bj.trans qq))
def eN (q:ay) (begin:Int) (steps:List Int) (raw:List az) (bits:Int):Bool:=(bif (eT q ([]:List az)) then true else (bif (decide (6<((q.af.length:Nat):Int))) then true else (bif (decide (40<((steps.length:Nat):Int))) then true else (bif (decide (12<((raw.length:Nat):Int))) then true else (bif (!decide ((aE q)=0)) then true else (match (hF q begin steps bits raw 43 0) with | none=>(bif (!decide ((aR q (aL q (aO q begin steps) (aF q bits) raw)).2.2=0)) then false else (bif (decide (q.bad<(((aR q (aL q (aO q begin steps) (aF q bits) raw)).1.length:Nat):Int))) then false else (match (jG q begin steps bits raw (aR q (aL q (aO q begin steps) (aF q bits) raw)).1.length 0) with | none=>true | some acR=>acR))) | some acS=>acS))))))
theorem Qp {d:Nat} {h:au} {iu fQ:AV} (q:ay) (begin:Int) (steps:List Int) (raw:List az) (bits:Int) (jh:aA.ok h q) (ur:eS h .i64 3 iu steps) (Ft:aZ h fQ raw) (bY:Tidy h):cW (d+16) (.fn 5) [(AV.agg [(AV.str q.name),(Zi q.aj),(Zi q.ah),(Zi q.aI),(Zi q.aK),(Zi q.bad),q.aB]),(Zi begin),iu,fQ,(Zi bits)] h= .ret (AV.bool (eN q begin steps raw bits)) h:=by
 have Qe:=ur.small
 have YI:=Ft.small
 have ky:=jh.2.small
 obtain ⟨h1,cA,cq,jf,aY,ct⟩:=iQ bY (a_.cells [(AV.str q.name),(Zi q.aj),(Zi q.ah),(Zi q.aI),(Zi q.aK),(Zi q.bad),q.aB] 26 false)
 have bI:Has h h1:=ct
 have k2:=UH (d:=d+14) q ([]:List az) (aA.mono bI jh) aZ.nil cq
 have Ts:=fun {al ps} (k:Pk al _ ps)=>(NN cA (fun i=>(Pt i))<|CC<|MM (aM 26 0 (AV.agg [(AV.str q.name),(Zi q.aj),(Zi q.ah),(Zi q.aI),(Zi q.aK),(Zi q.bad),q.aB]) aY k!)<|EE k2<|CC<|k:Pk _ [] ps)
 rcases Bool.eq_false_or_eq_true (eT q ([]:List az)) with f0 | f0
 · have k4:=uq (d:=d+14) (h:=h1)
   have e:eN q begin steps raw bits=true:=by simp only[eN,f0,ao,ai]
   rw[e]
   exact aC rfl (bx Try.func5 jc rfl (.inr rfl) (pk (d+15) _ _ h _ h1 (Ts<|BB f0<|BB f0<|BB f0<|BV f0 (pa true f0)<|CC<|TT<|TT<|TT<|CN 2<|TT<|TT<|TT<|CN 2<|TT<|TT<|TT<|CC<|TT<|EE k4<|CC<|ZZ) k!) k!) bI rfl
 · have ln4:dJ (some (.slice 45)) (some q.aB)=some (Zn q.af.length):=jh.2.len
   have H5:=fun {al ps} (k:Pk al _ ps)=>(Ts<|BC f0<|BM f0 (aM 24 6 q.aB aY k!)<|BV f0 ln4<|BV f0 (cg 3 false true .i64 ((q.af.length:Nat):Int) 6)<|k:Pk _ [] ps)
   rcases Bool.eq_false_or_eq_true (decide (6<((q.af.length:Nat):Int))) with f1 | f1
   · have jg:=of_decide_eq_true f1
     have k6:=uq (d:=d+14) (h:=h1)
     have e:eN q begin steps raw bits=true:=by simp only[eN,f0,f1,ao,ai]
     rw[e]
     exact aC rfl (bx Try.func5 jc rfl (.inr rfl) (pk (d+15) _ _ h _ h1 (H5<|VV (ba (a:=some (AV.bool true)) (b:=some (AV.bool (decide (6<((q.af.length:Nat):Int))))) f0)<|CC<|BB f1<|BB f1<|BV f1 (pa true f1)<|CC<|TT<|TT<|TT<|CN 2<|TT<|TT<|TT<|CC<|TT<|EE k6<|CC<|ZZ) k!) k!) bI rfl
   · have jg:=of_decide_eq_false f1
     have KL:dJ (some (.slice 3)) (some iu)=some (Zn steps.length):=ur.len
     rcases Bool.eq_false_or_eq_true (decide (40<((steps.length:Nat):Int))) with f2 | f2
     · have nr:=of_decide_eq_true f2
       have k8:=uq (d:=d+14) (h:=h1)
       have e:eN q begin steps raw bits=true:=by simp only[eN,f0,f1,f2,ao,ai]
       rw[e]
       exact aC rfl (bx Try.func5 jc rfl (.inr rfl) (pk (d+15) _ _ h _ h1 (H5<|VV (ba (a:=some (AV.bool true)) (b:=some (AV.bool (decide (6<((q.af.length:Nat):Int))))) f0)<|CC<|BC f1<|BV f1 KL<|BV f1 (cg 3 false true .i64 ((steps.length:Nat):Int) 40)<|VV (ba (a:=some (AV.bool true)) (b:=some (AV.bool (decide (40<((steps.length:Nat):Int))))) f1)<|CC<|BB f2<|BB f2<|BV f2 (pa true f2)<|CC<|TT<|TT<|TT<|CC<|TT<|EE k8<|CC<|ZZ) k!) k!) bI rfl
     · have nr:=of_decide_eq_false f2
       have J3:dJ (some (.slice 43)) (some fQ)=some (Zn raw.length):=Ft.len
       rcases Bool.eq_false_or_eq_true (decide (12<((raw.length:Nat):Int))) with f3 | f3
       · have jy:=of_decide_eq_true f3
         have QP:=uq (d:=d+14) (h:=h1)
         have e:eN q begin steps raw bits=true:=by simp only[eN,f0,f1,f2,f3,ao,ai]
         rw[e]
         exact aC rfl (bx Try.func5 jc rfl (.inr rfl) (pk (d+15) _ _ h _ h1 (H5<|VV (ba (a:=some (AV.bool true)) (b:=some (AV.bool (decide (6<((q.af.length:Nat):Int))))) f0)<|CC<|BC f1<|BV f1 KL<|BV f1 (cg 3 false true .i64 ((steps.length:Nat):Int) 40)<|VV (ba (a:=some (AV.bool true)) (b:=some (AV.bool (decide (40<((steps.length:Nat):Int))))) f1)<|CC<|BC f2<|BV f2 J3<|BV f2 (cg 3 false true .i64 ((raw.length:Nat):Int) 12)<|VV (ba (a:=some (AV.bool true)) (b:=some (AV.bool (decide (12<((raw.length:Nat):Int))))) f2)<|CC<|BB f3<|BB f3<|BV f3 (pa true f3)<|TT<|EE QP<|CC<|ZZ) k!) k!) bI rfl
       · have jy:=of_decide_eq_false f3
         have QP:=xr (d:=d+12) q (aA.mono bI jh) cq
         rcases Bool.eq_false_or_eq_true (!decide ((aE q)=0)) with f4 | f4
         · have km:=EM f4
           have k12:=uq (d:=d+14) (h:=h1)
           have e:eN q begin steps raw bits=true:=by simp only[eN,f0,f1,f2,f3,f4,ao,ai]
           rw[e]
           exact aC rfl (bx Try.func5 jc rfl (.inr rfl) (pk (d+15) _ _ h _ h1 (H5<|VV (ba (a:=some (AV.bool true)) (b:=some (AV.bool (decide (6<((q.af.length:Nat):Int))))) f0)<|CC<|BC f1<|BV f1 KL<|BV f1 (cg 3 false true .i64 ((steps.length:Nat):Int) 40)<|VV (ba (a:=some (AV.bool true)) (b:=some (AV.bool (decide (40<((steps.length:Nat):Int))))) f1)<|CC<|BC f2<|BV f2 J3<|BV f2 (cg 3 false true .i64 ((raw.length:Nat):Int) 12)<|VV (ba (a:=some (AV.bool true)) (b:=some (AV.bool (decide (12<((raw.length:Nat):Int))))) f2)<|CC<|BM f3 (aM 26 0 (AV.agg [(AV.str q.name),(Zi q.aj),(Zi q.ah),(Zi q.aI),(Zi q.aK),(Zi q.bad),q.aB]) aY k!)<|BB f3<|EE QP<|BV f3 (jw 31 false true .i64 (aE q) 0)<|VV (ba (a:=some (AV.bool true)) (b:=some (AV.bool (!decide ((aE q)=0)))) f3)<|BB f4<|EE k12<|CC<|ZZ) k!) k!) bI rfl
         · have km:=EN f4
           have agI:=lS km
           obtain ⟨z12,PM,Dg,kr,acT,ajX⟩:=Vg (d:=d+13) q begin steps (aA.mono bI jh) (ur.has bI) dB dB dB dB dB dB dB dB cq
           have Ud:=kr.y
           have aeO:h1.nx≤PM.nx:=kr.n
           have aam:Has h PM:=bI.trans kr.a
           have aiT:=acT.small
           have aiU:=yh q begin steps
           obtain ⟨YS,_,YT,rL,Du,jn,OD,rfl,agJ⟩:=ML (d:=d+14) q bits (aA.mono aam jh) dB Ud
           have tD:=jn.y
           have ZU:PM.nx≤rL.nx:=jn.n
           have rM:Has h rL:=aam.trans jn.a
           have Fz:Has PM rL:=jn.a
           have aiV:=tD _ _ OD
           have agK:=Dq q bits
           obtain ⟨Bm,A3,Dv,kT,Qj,aaf⟩:=Qd (d:=d+11) q (aO q begin steps) (aF q bits) YS (aF q bits).length YT raw (aA.mono rM jh) (acT.has Fz) OD l! o! (Ft.has rM) dB dB dB dB dB tD
           have JQ:=kT.y
           have agc:rL.nx≤A3.nx:=kT.n
           have An:Has h A3:=rM.trans kT.a
           have zB:Has PM A3:=Fz.trans kT.a
           have qx:Has rL A3:=kT.a
           have acK:=Qj.small
           have aiW:=Fx q (aO q begin steps) (aF q bits) raw
           have ago:=yj (d:=d) (h:=A3) z12 Bm q begin steps bits raw h.nx Qj (acT.has zB) jh.1 (jh.2.has An) (aA.mono An jh) o! o! 43 0 o! (fun k_=>(((AV.agg [(AV.str q.name),(Zi q.aj),(Zi q.ah),(Zi q.aI),(Zi q.aK),(Zi q.bad),q.aB])::(Zi begin)::iu::fQ::(Zi bits)::(Pt h.nx)::AV.undef::AV.undef::AV.undef::AV.undef::(AV.bool false)::z12::(AV.slice YS 0 (aF q bits).length (aF q bits).length YT)::Bm::(Zi 0)::AV.undef::AV.undef::AV.undef::AV.undef::AV.undef::AV.undef::AV.undef::AV.undef::AV.undef::(AV.agg [(AV.str q.name),(Zi q.aj),(Zi q.ah),(Zi q.aI),(Zi q.aK),(Zi q.bad),q.aB])::(AV.bool (eT q ([]:List az)))::(AV.bool (eT q ([]:List az)))::(AV.ptr h.nx 6)::q.aB::(Zn q.af.length)::(AV.bool (decide (6<((q.af.length:Nat):Int))))::(AV.bool (decide (6<((q.af.length:Nat):Int))))::(AV.bool (decide (6<((q.af.length:Nat):Int))))::iu::(Zn steps.length)::(AV.bool (decide (40<((steps.length:Nat):Int))))::(AV.bool (decide (40<((steps.length:Nat):Int))))::(AV.bool (decide (40<((steps.length:Nat):Int))))::fQ::(Zn raw.length)::(AV.bool (decide (12<((raw.length:Nat):Int))))::(AV.bool (decide (12<((raw.length:Nat):Int))))::(AV.bool (decide (12<((raw.length:Nat):Int))))::(AV.agg [(AV.str q.name),(Zi q.aj),(Zi q.ah),(Zi q.aI),(Zi q.aK),(Zi q.bad),q.aB])::(Zi (aE q))::(AV.bool (!decide ((aE q)=0)))::(AV.bool (!decide ((aE q)=0)))::AV.undef::(AV.agg [(AV.str q.name),(Zi q.aj),(Zi q.ah),(Zi q.aI),(Zi q.aK),(Zi q.bad),q.aB])::(Zi begin)::iu::z12::(AV.agg [(AV.str q.name),(Zi q.aj),(Zi q.ah),(Zi q.aI),(Zi q.aK),(Zi q.bad),q.aB])::(Zi bits)::(AV.slice YS 0 (aF q bits).length (aF q bits).length YT)::(AV.agg [(AV.str q.name),(Zi q.aj),(Zi q.ah),(Zi q.aI),(Zi q.aK),(Zi q.bad),q.aB])::z12::(AV.slice YS 0 (aF q bits).length (aF q bits).length YT)::fQ::Bm::kX 100):List AV).getD k_ AV.undef) A3 JQ (Has.refl _) (kT.a _ _ (jn.a _ _ (kr.a _ _ aY)))
           cases rE:hF q begin steps bits raw 43 0 with
           | none=>
             obtain ⟨MY,KO,uv,kU⟩:=aW.n rE ago
             have aan:=kU.y
             have agp:A3.nx≤KO.nx:=kU.n
             have OE:Has h KO:=An.trans kU.a
             have FA:Has PM KO:=zB.trans kU.a
             have FB:Has rL KO:=qx.trans kU.a
             have zC:Has A3 KO:=kU.a
             obtain ⟨z24,z25,E_,OF,vh,MZ,VH⟩:=HM (d:=d+2) aan (aA.mono OE jh) (Qj.has zC) (fun _=>by omega)
             have Um:=vh.y
             have ajY:KO.nx≤E_.nx:=vh.n
             have E':Has h E_:=OE.trans vh.a
             have FC:Has PM E_:=FA.trans vh.a
             have FD:Has rL E_:=FB.trans vh.a
             have FE:Has A3 E_:=zC.trans vh.a
             have FG:Has KO E_:=vh.a
             have aiX:=MZ.small
             have aiY:=VH.small
             rcases Bool.eq_false_or_eq_true (!decide ((aR q (aL q (aO q begin steps) (aF q bits) raw)).2.2=0)) with f6 | f6
             · have Ta:=EM f6
               have e:eN q begin steps raw bits=false:=by simp only[eN,f0,f1,f2,f3,f4,rE,f6,ao,ai]
               rw[e]
               exact aC rfl (bx Try.func5 jc rfl (.inr rfl) (pk (d+15) _ _ h _ E_ (H5<|VV (ba (a:=some (AV.bool true)) (b:=some (AV.bool (decide (6<((q.af.length:Nat):Int))))) f0)<|CC<|BC f1<|BV f1 KL<|BV f1 (cg 3 false true .i64 ((steps.length:Nat):Int) 40)<|VV (ba (a:=some (AV.bool true)) (b:=some (AV.bool (decide (40<((steps.length:Nat):Int))))) f1)<|CC<|BC f2<|BV f2 J3<|BV f2 (cg 3 false true .i64 ((raw.length:Nat):Int) 12)<|VV (ba (a:=some (AV.bool true)) (b:=some (AV.bool (decide (12<((raw.length:Nat):Int))))) f2)<|CC<|BM f3 (aM 26 0 (AV.agg [(AV.str q.name),(Zi q.aj),(Zi q.ah),(Zi q.aI),(Zi q.aK),(Zi q.bad),q.aB]) aY k!)<|BB f3<|EE QP<|BV f3 (jw 31 false true .i64 (aE q) 0)<|VV (ba (a:=some (AV.bool true)) (b:=some (AV.bool (!decide ((aE q)=0)))) f3)<|BM f4 (aM 26 0 (AV.agg [(AV.str q.name),(Zi q.aj),(Zi q.ah),(Zi q.aI),(Zi q.aK),(Zi q.bad),q.aB]) aY k!)<|CN 2<|EE Dg<|CC<|MM (aM 26 0 (AV.agg [(AV.str q.name),(Zi q.aj),(Zi q.ah),(Zi q.aI),(Zi q.aK),(Zi q.bad),q.aB]) (kr.a _ _ aY) k!)<|CC<|EE Du<|CC<|MM (aM 26 0 (AV.agg [(AV.str q.name),(Zi q.aj),(Zi q.ah),(Zi q.aI),(Zi q.aK),(Zi q.bad),q.aB]) (jn.a _ _ (kr.a _ _ aY)) k!)<|CN 3<|EE Dv<|CN 2<|LL uv<|MM (aM 26 0 (AV.agg [(AV.str q.name),(Zi q.aj),(Zi q.ah),(Zi q.aI),(Zi q.aK),(Zi q.bad),q.aB]) (kU.a _ _ (kT.a _ _ (jn.a _ _ (kr.a _ _ aY)))) k!)<|CC<|EE OF<|CN 8<|VV (jw 31 false true .i64 (aR q (aL q (aO q begin steps) (aF q bits) raw)).2.2 0)<|CC<|BB f6<|BB f6<|BB f6<|BB f6<|BV f6 (pa true f6)<|TT<|CC<|ZZ) k!) k!) E' rfl
             · have Ta:=EN f6
               have acU:dJ (some (.slice 3)) (some z24)=some (Zn (aR q (aL q (aO q begin steps) (aF q bits) raw)).1.length):=MZ.len
               rcases Bool.eq_false_or_eq_true (decide (q.bad<(((aR q (aL q (aO q begin steps) (aF q bits) raw)).1.length:Nat):Int))) with f7 | f7
               · have Tb:=of_decide_eq_true f7
                 have e:eN q begin steps raw bits=false:=by simp only[eN,f0,f1,f2,f3,f4,rE,f6,f7,ao,ai]
                 rw[e]
                 exact aC rfl (bx Try.func5 jc rfl (.inr rfl) (pk (d+15) _ _ h _ E_ (H5<|VV (ba (a:=some (AV.bool true)) (b:=some (AV.bool (decide (6<((q.af.length:Nat):Int))))) f0)<|CC<|BC f1<|BV f1 KL<|BV f1 (cg 3 false true .i64 ((steps.length:Nat):Int) 40)<|VV (ba (a:=some (AV.bool true)) (b:=some (AV.bool (decide (40<((steps.length:Nat):Int))))) f1)<|CC<|BC f2<|BV f2 J3<|BV f2 (cg 3 false true .i64 ((raw.length:Nat):Int) 12)<|VV (ba (a:=some (AV.bool true)) (b:=some (AV.bool (decide (12<((raw.length:Nat):Int))))) f2)<|CC<|BM f3 (aM 26 0 (AV.agg [(AV.str q.name),(Zi q.aj),(Zi q.ah),(Zi q.aI),(Zi q.aK),(Zi q.bad),q.aB]) aY k!)<|BB f3<|EE QP<|BV f3 (jw 31 false true .i64 (aE q) 0)<|VV (ba (a:=some (AV.bool true)) (b:=some (AV.bool (!decide ((aE q)=0)))) f3)<|BM f4 (aM 26 0 (AV.agg [(AV.str q.name),(Zi q.aj),(Zi q.ah),(Zi q.aI),(Zi q.aK),(Zi q.bad),q.aB]) aY k!)<|CN 2<|EE Dg<|CC<|MM (aM 26 0 (AV.agg [(AV.str q.name),(Zi q.aj),(Zi q.ah),(Zi q.aI),(Zi q.aK),(Zi q.bad),q.aB]) (kr.a _ _ aY) k!)<|CC<|EE Du<|CC<|MM (aM 26 0 (AV.agg [(AV.str q.name),(Zi q.aj),(Zi q.ah),(Zi q.aI),(Zi q.aK),(Zi q.bad),q.aB]) (jn.a _ _ (kr.a _ _ aY)) k!)<|CN 3<|EE Dv<|CN 2<|LL uv<|MM (aM 26 0 (AV.agg [(AV.str q.name),(Zi q.aj),(Zi q.ah),(Zi q.aI),(Zi q.aK),(Zi q.bad),q.aB]) (kU.a _ _ (kT.a _ _ (jn.a _ _ (kr.a _ _ aY)))) k!)<|CC<|EE OF<|CN 8<|VV (jw 31 false true .i64 (aR q (aL q (aO q begin steps) (aF q bits) raw)).2.2 0)<|CC<|BC f6<|BV f6 acU<|BC f6<|BM f6 (aM 3 5 (Zi q.bad) (vh.a _ _ (kU.a _ _ (kT.a _ _ (jn.a _ _ (kr.a _ _ aY))))) k!)<|BV f6 (cg 3 false false .i64 (((aR q (aL q (aO q begin steps) (aF q bits) raw)).1.length:Nat):Int) q.bad)<|VV (ba (a:=some (AV.bool true)) (b:=some (AV.bool (decide (q.bad<(((aR q (aL q (aO q begin steps) (aF q bits) raw)).1.length:Nat):Int))))) f6)<|BC f7<|ZZ) k!) k!) E' rfl
               · have Tb:=of_decide_eq_false f7
                 have agq:=ym (d:=d) (h:=E_) z24 z25 q begin steps bits raw MZ VH (aR q (aL q (aO q begin steps) (aF q bits) raw)).1.length 0 o! (fun k_=>((rx MY 0 5 ((Pt h.nx)::rx MY 6 5 (z12::(MY 12)::Bm::rx MY 14 4 (z24::z25::(Zi (aR q (aL q (aO q begin steps) (aF q bits) raw)).2.2)::(Zi 0)::rx MY 22 95 ((AV.tuple [z24,z25,(Zi (aR q (aL q (aO q begin steps) (aF q bits) raw)).2.2)])::(AV.agg [(AV.str q.name),(Zi q.aj),(Zi q.ah),(Zi q.aI),(Zi q.aK),(Zi q.bad),q.aB])::Bm::(AV.tuple [z24,z25,(Zi (aR q (aL q (aO q begin steps) (aF q bits) raw)).2.2)])::z24::z25::(Zi (aR q (aL q (aO q begin steps) (aF q bits) raw)).2.2)::(Zi (aR q (aL q (aO q begin steps) (aF q bits) raw)).2.2)::(AV.bool (!decide ((aR q (aL q (aO q begin steps) (aF q bits) raw)).2.2=0)))::(AV.bool (!decide ((aR q (aL q (aO q begin steps) (aF q bits) raw)).2.2=0)))::z24::(Zn (aR q (aL q (aO q begin steps) (aF q bits) raw)).1.length)::(AV.ptr h.nx 5)::(Zi q.bad)::(AV.bool (decide (q.bad<(((aR q (aL q (aO q begin steps) (aF q bits) raw)).1.length:Nat):Int))))::(AV.bool (decide (q.bad<(((aR q (aL q (aO q begin steps) (aF q bits) raw)).1.length:Nat):Int))))::rx MY 133 27 []))))):List AV).getD k_ AV.undef) E_ Um (Has.refl _)
                 cases Bp:jG q begin steps bits raw (aR q (aL q (aO q begin steps) (aF q bits) raw)).1.length 0 with
                 | none=>
                   obtain ⟨aiZ,H9,HQ,m_⟩:=aW.n Bp agq
                   have agr:=m_.y
                   have ags:E_.nx≤H9.nx:=m_.n
                   have VI:Has h H9:=E'.trans m_.a
                   have Qq:Has PM H9:=FC.trans m_.a
                   have Qs:Has rL H9:=FD.trans m_.a
                   have Qt:Has A3 H9:=FE.trans m_.a
                   have Qu:Has KO H9:=FG.trans m_.a
                   have Qv:Has E_ H9:=m_.a
                   have k31:=uq (d:=d+14) (h:=H9)
                   have e:eN q begin steps raw bits=true:=by simp only[eN,f0,f1,f2,f3,f4,rE,f6,f7,Bp,ao,ai]
                   rw[e]
                   exact aC rfl (bx Try.func5 jc rfl (.inr rfl) (pk (d+15) _ _ h _ H9 (H5<|VV (ba (a:=some (AV.bool true)) (b:=some (AV.bool (decide (6<((q.af.length:Nat):Int))))) f0)<|CC<|BC f1<|BV f1 KL<|BV f1 (cg 3 false true .i64 ((steps.length:Nat):Int) 40)<|VV (ba (a:=some (AV.bool true)) (b:=some (AV.bool (decide (40<((steps.length:Nat):Int))))) f1)<|CC<|BC f2<|BV f2 J3<|BV f2 (cg 3 false true .i64 ((raw.length:Nat):Int) 12)<|VV (ba (a:=some (AV.bool true)) (b:=some (AV.bool (decide (12<((raw.length:Nat):Int))))) f2)<|CC<|BM f3 (aM 26 0 (AV.agg [(AV.str q.name),(Zi q.aj),(Zi q.ah),(Zi q.aI),(Zi q.aK),(Zi q.bad),q.aB]) aY k!)<|BB f3<|EE QP<|BV f3 (jw 31 false true .i64 (aE q) 0)<|VV (ba (a:=some (AV.bool true)) (b:=some (AV.bool (!decide ((aE q)=0)))) f3)<|BM f4 (aM 26 0 (AV.agg [(AV.str q.name),(Zi q.aj),(Zi q.ah),(Zi q.aI),(Zi q.aK),(Zi q.bad),q.aB]) aY k!)<|CN 2<|EE Dg<|CC<|MM (aM 26 0 (AV.agg [(AV.str q.name),(Zi q.aj),(Zi q.ah),(Zi q.aI),(Zi q.aK),(Zi q.bad),q.aB]) (kr.a _ _ aY) k!)<|CC<|EE Du<|CC<|MM (aM 26 0 (AV.agg [(AV.str q.name),(Zi q.aj),(Zi q.ah),(Zi q.aI),(Zi q.aK),(Zi q.bad),q.aB]) (jn.a _ _ (kr.a _ _ aY)) k!)<|CN 3<|EE Dv<|CN 2<|LL uv<|MM (aM 26 0 (AV.agg [(AV.str q.name),(Zi q.aj),(Zi q.ah),(Zi q.aI),(Zi q.aK),(Zi q.bad),q.aB]) (kU.a _ _ (kT.a _ _ (jn.a _ _ (kr.a _ _ aY)))) k!)<|CC<|EE OF<|CN 8<|VV (jw 31 false true .i64 (aR q (aL q (aO q begin steps) (aF q bits) raw)).2.2 0)<|CC<|BC f6<|BV f6 acU<|BC f6<|BM f6 (aM 3 5 (Zi q.bad) (vh.a _ _ (kU.a _ _ (kT.a _ _ (jn.a _ _ (kr.a _ _ aY))))) k!)<|BV f6 (cg 3 false false .i64 (((aR q (aL q (aO q begin steps) (aF q bits) raw)).1.length:Nat):Int) q.bad)<|VV (ba (a:=some (AV.bool true)) (b:=some (AV.bool (decide (q.bad<(((aR q (aL q (aO q begin steps) (aF q bits) raw)).1.length:Nat):Int))))) f6)<|BC f7<|LL HQ<|EE k31<|CC<|ZZ) k!) k!) VI rfl
                 | some acR=>
                   obtain ⟨aiZ,H9,HQ,m_⟩:=aW.r Bp agq
                   have agr:=m_.y
                   have ags:E_.nx≤H9.nx:=m_.n
                   have VI:Has h H9:=E'.trans m_.a
                   have Qq:Has PM H9:=FC.trans m_.a
                   have Qs:Has rL H9:=FD.trans m_.a
                   have Qt:Has A3 H9:=FE.trans m_.a
                   have Qu:Has KO H9:=FG.trans m_.a
                   have Qv:Has E_ H9:=m_.a
                   have e:eN q begin steps raw bits=acR:=by simp only[eN,f0,f1,f2,f3,f4,rE,f6,f7,Bp,ao,ai]
                   rw[e]
                   exact aC rfl (bx Try.func5 jc rfl (.inr rfl) (pk (d+15) _ _ h _ H9 (H5<|VV (ba (a:=some (AV.bool true)) (b:=some (AV.bool (decide (6<((q.af.length:Nat):Int))))) f0)<|CC<|BC f1<|BV f1 KL<|BV f1 (cg 3 false true .i64 ((steps.length:Nat):Int) 40)<|VV (ba (a:=some (AV.bool true)) (b:=some (AV.bool (decide (40<((steps.length:Nat):Int))))) f1)<|CC<|BC f2<|BV f2 J3<|BV f2 (cg 3 false true .i64 ((raw.length:Nat):Int) 12)<|VV (ba (a:=some (AV.bool true)) (b:=some (AV.bool (decide (12<((raw.length:Nat):Int))))) f2)<|CC<|BM f3 (aM 26 0 (AV.agg [(AV.str q.name),(Zi q.aj),(Zi q.ah),(Zi q.aI),(Zi q.aK),(Zi q.bad),q.aB]) aY k!)<|BB f3<|EE QP<|BV f3 (jw 31 false true .i64 (aE q) 0)<|VV (ba (a:=some (AV.bool true)) (b:=some (AV.bool (!decide ((aE q)=0)))) f3)<|BM f4 (aM 26 0 (AV.agg [(AV.str q.name),(Zi q.aj),(Zi q.ah),(Zi q.aI),(Zi q.aK),(Zi q.bad),q.aB]) aY k!)<|CN 2<|EE Dg<|CC<|MM (aM 26 0 (AV.agg [(AV.str q.name),(Zi q.aj),(Zi q.ah),(Zi q.aI),(Zi q.aK),(Zi q.bad),q.aB]) (kr.a _ _ aY) k!)<|CC<|EE Du<|CC<|MM (aM 26 0 (AV.agg [(AV.str q.name),(Zi q.aj),(Zi q.ah),(Zi q.aI),(Zi q.aK),(Zi q.bad),q.aB]) (jn.a _ _ (kr.a _ _ aY)) k!)<|CN 3<|EE Dv<|CN 2<|LL uv<|MM (aM 26 0 (AV.agg [(AV.str q.name),(Zi q.aj),(Zi q.ah),(Zi q.aI),(Zi q.aK),(Zi q.bad),q.aB]) (kU.a _ _ (kT.a _ _ (jn.a _ _ (kr.a _ _ aY)))) k!)<|CC<|EE OF<|CN 8<|VV (jw 31 false true .i64 (aR q (aL q (aO q begin steps) (aF q bits) raw)).2.2 0)<|CC<|BC f6<|BV f6 acU<|BC f6<|BM f6 (aM 3 5 (Zi q.bad) (vh.a _ _ (kU.a _ _ (kT.a _ _ (jn.a _ _ (kr.a _ _ aY))))) k!)<|BV f6 (cg 3 false false .i64 (((aR q (aL q (aO q begin steps) (aF q bits) raw)).1.length:Nat):Int) q.bad)<|VV (ba (a:=some (AV.bool true)) (b:=some (AV.bool (decide (q.bad<(((aR q (aL q (aO q begin steps) (aF q bits) raw)).1.length:Nat):Int))))) f6)<|BC f7<|LL HQ<|ZZ) k!) k!) VI rfl
           | some acS=>
             obtain ⟨MY,KO,uv,kU⟩:=aW.r rE ago
             have aan:=kU.y
             have agp:A3.nx≤KO.nx:=kU.n
             have OE:Has h KO:=An.trans kU.a
             have FA:Has PM KO:=zB.trans kU.a
             have FB:Has rL KO:=qx.trans kU.a
             have zC:Has A3 KO:=kU.a
             have e:eN q begin steps raw bits=acS:=by simp only[eN,f0,f1,f2,f3,f4,rE,ao,ai]
             rw[e]
             exact aC rfl (bx Try.func5 jc rfl (.inr rfl) (pk (d+15) _ _ h _ KO (H5<|VV (ba (a:=some (AV.bool true)) (b:=some (AV.bool (decide (6<((q.af.length:Nat):Int))))) f0)<|CC<|BC f1<|BV f1 KL<|BV f1 (cg 3 false true .i64 ((steps.length:Nat):Int) 40)<|VV (ba (a:=some (AV.bool true)) (b:=some (AV.bool (decide (40<((steps.length:Nat):Int))))) f1)<|CC<|BC f2<|BV f2 J3<|BV f2 (cg 3 false true .i64 ((raw.length:Nat):Int) 12)<|VV (ba (a:=some (AV.bool true)) (b:=some (AV.bool (decide (12<((raw.length:Nat):Int))))) f2)<|CC<|BM f3 (aM 26 0 (AV.agg [(AV.str q.name),(Zi q.aj),(Zi q.ah),(Zi q.aI),(Zi q.aK),(Zi q.bad),q.aB]) aY k!)<|BB f3<|EE QP<|BV f3 (jw 31 false true .i64 (aE q) 0)<|VV (ba (a:=some (AV.bool true)) (b:=some (AV.bool (!decide ((aE q)=0)))) f3)<|BM f4 (aM 26 0 (AV.agg [(AV.str q.name),(Zi q.aj),(Zi q.ah),(Zi q.aI),(Zi q.aK),(Zi q.bad),q.aB]) aY k!)<|CN 2<|EE Dg<|CC<|MM (aM 26 0 (AV.agg [(AV.str q.name),(Zi q.aj),(Zi q.ah),(Zi q.aI),(Zi q.aK),(Zi q.bad),q.aB]) (kr.a _ _ aY) k!)<|CC<|EE Du<|CC<|MM (aM 26 0 (AV.agg [(AV.str q.name),(Zi q.aj),(Zi q.ah),(Zi q.aI),(Zi q.aK),(Zi q.bad),q.aB]) (jn.a _ _ (kr.a _ _ aY)) k!)<|CN 3<|EE Dv<|CN 2<|LL uv<|ZZ) k!) k!) OE rfl
theorem VJ {l:List Int} {i:Nat} (h:i<l.length):l.g i=l[i]:=by
 show l.getD i default=_
 rw[List.getD_eq_getElem?_getD,List.getElem?_eq_getElem h];rfl
theorem acW {l:List Int} {i:Nat} (h:i<l.length):l.g i∈l:=by rw[VJ h];exact List.getElem_mem h
section
variable {q:ay} {begin:Int} {steps:List Int} {raw:List az} {bits:Int} (hq:aE q=0) (hs:steps.length≤40) (hr:raw.length≤12)
include hq hs hr
omit hr in
theorem VK:∀r∈aL q (aO q begin steps) (aF q bits) raw,SR q (aO q begin steps) (aF q bits) r:=
 Vz hq (by rw[yh];omega) (by rw[yh];omega) (OB hq begin hs) _
theorem zD:cz q (aL q (aO q begin steps) (aF q bits) raw)=0:=
 VA hq (by have:=Fx q (aO q begin steps) (aF q bits) raw;omega) (VK hq hs)
theorem Dw {t:Int} (t0:0≤t) (t1:t≤42):(aP q (aL q (aO q begin steps) (aF q bits) raw) t).2=0:=
 UK (zD hq hs hr) (by rw[Hc,ff,decide_eq_true t0,decide_eq_true (show t≤100000 by omega)];rfl)
theorem acX {t:Int} (t0:0≤t) (t1:t≤42):we (aP q (aL q (aO q begin steps) (aF q bits) raw) t).1 (dE (aO q begin steps) t):=by
 obtain ⟨f,tt,e⟩:=Ol (Dw (begin:=begin) (bits:=bits) hq hs hr t0 t1)
 rw[e]
 obtain ⟨s,h1,h2,h3⟩:=MX hq bits
 have hx:0<(aO q begin steps).length:=by rw[yh];omega
 have w:=OB hq begin hs
 obtain ⟨v1,v2⟩:=Vx (MV hq hx w) (VB hq hx w (VK (bits:=bits) hq hs) h3)
 exact ((pL f tt.1 tt.2).2 _).2 ⟨s,h1,h2,v1,v2 t t0⟩
theorem VL {t:Nat} (t1:t≤42):∀(k i:Nat),i+k=(aP q (aL q (aO q begin steps) (aF q bits) raw) ((t:Nat):Int)).1.length→gB q begin steps bits raw t k i=none
 | 0,i,_=>rfl
 | k+1,i,e=>by
   rw[gB]
   obtain ⟨f,tt,ep⟩:=Ol (Dw (begin:=begin) (bits:=bits) (t:=((t:Nat):Int)) hq hs hr o! o!)
   have c:=(pL f tt.1 tt.2).1
   rw[←ep] at c
   have st:=c.step i o!
   have ih:=VL t1 k (i+1) o!
   rw[decide_eq_false o!,ai]
   by_cases i0:(0:Int)<((i:Nat):Int)
   · rw[decide_eq_true i0,ao]
     have m:(aP q (aL q (aO q begin steps) (aF q bits) raw) ((t:Nat):Int)).1.g (i - 1)∈(aP q (aL q (aO q begin steps) (aF q bits) raw) ((t:Nat):Int)).1:=lB o!
     have sm:=c.some _ m
     have b:=YN f tt.1 tt.2 (x:=((aP q (aL q (aO q begin steps) (aF q bits) raw) ((t:Nat):Int)).1.g (i - 1)).aG) (by rw[←ep];exact ⟨_,m,sm,Int.le_refl _⟩)
     rw[wrap_i64 o! o!,decide_eq_false (by have:=st.2 o!;omega),ai]
     exact ih
   · rw[decide_eq_false i0,ai];exact ih
theorem VM:∀(k i:Nat),i+k=43→hF q begin steps bits raw k i=none
 | 0,i,_=>rfl
 | k+1,i,e=>by
   rw[hF,Dw hq hs hr o! o!,Ql (acX hq hs hr o! o!),VL hq hs hr o! _ 0 o!]
   exact VM k (i+1) o!
omit hq hs hr in
theorem HR {i2:Nat}:∀(k i:Nat) (v:Bool),(v=true∨∃j,i≤j∧j<i+k∧(aR q (aL q (aO q begin steps) (aF q bits) raw)).2.1.g j=(aR q (aL q (aO q begin steps) (aF q bits) raw)).1.g i2)→hI q begin steps bits raw i2 k i v=true
 | 0,i,v,h=>by
   rw[hI]
   rcases h with h | ⟨j,a,b,_⟩
   · exact h
   · omega
 | k+1,i,v,h=>by
   rw[hI]
   cases v with
   | true=>rw[ao];exact HR k (i+1) true (.inl rfl)
   | false=>
     rw[ai]
     rcases h with h | ⟨j,a,b,c⟩
     · cases h
     · by_cases e:j=i
       · subst e;rw[decide_eq_true c];exact HR k (j+1) true (.inl rfl)
       · exact HR k (i+1) _ (.inr ⟨j,by omega,by omega,c⟩)
theorem VN:∀(k i:Nat),i+k=(aR q (aL q (aO q begin steps) (aF q bits) raw)).1.length→jG q begin steps bits raw k i=none
 | 0,i,_=>rfl
 | k+1,i,e=>by
   rw[jG]
   have so:=(VF (zD (begin:=begin) (bits:=bits) hq hs hr)).2.2 _ (acW (i:=i) o!)
   obtain ⟨j,hj,ej⟩:=List.mem_iff_getElem.1 so
   rw[HR _ 0 false (.inr ⟨j,Nat.zero_le _,by omega,by rw[VJ hj];exact ej⟩)]
   exact VN k (i+1) o!
end
theorem VO (q:ay) (begin:Int) (steps:List Int) (raw:List az) (bits:Int):eN q begin steps raw bits=true:=by
 rw[eN]
 cases eT q ([]:List az) with
 | true=>rfl
 | false=>
   rw[ai]
   by_cases e1:(6:Int)<((q.af.length:Nat):Int)
   · rw[decide_eq_true e1];rfl
   rw[decide_eq_false e1,ai]
   by_cases e2:(40:Int)<((steps.length:Nat):Int)
   · rw[decide_eq_true e2];rfl
   rw[decide_eq_false e2,ai]
   by_cases e3:(12:Int)<((raw.length:Nat):Int)
   · rw[decide_eq_true e3];rfl
   rw[decide_eq_false e3,ai]
   by_cases e4:aE q=0
   · rw[decide_eq_true e4]
     have hs:steps.length≤40:=by omega
     have hr:raw.length≤12:=by omega
     obtain ⟨a,b,_⟩:=VF (zD (begin:=begin) (bits:=bits) e4 hs hr)
     rw[VM e4 hs hr 43 0 rfl,a,decide_eq_false (show ¬q.bad<_ by omega),VN e4 hs hr _ 0 o!]
     rfl
   · rw[decide_eq_false e4];rfl
open Go.ChangeShapes Go.WideShapes Go.RowKit
structure Gx (φ φ':Ph) (h h':au) (w:World):Prop where
 ok:OK env φ' h' w
 le:φ.le φ'
 ro:xa h'
 has:Has h h'
 nx:h.nx≤h'.nx
 tidy:Tidy h'
theorem Gx.refl {φ:Ph} {h:au} {w:World} (ok:OK env φ h w) (ro:xa h) (y:Tidy h):Gx φ φ h h w:=⟨ok,Ph.le_refl _,ro,Has.refl _,Nat.le_refl _,y⟩
theorem Gx.trans {a b c:Ph} {h1 h2 h3:au} {w:World} (x:Gx a b h1 h2 w) (y:Gx b c h2 h3 w):Gx a c h1 h3 w:=⟨y.ok,Ph.le_trans x.le y.le,y.ro,x.has.trans y.has,Nat.le_trans x.nx y.nx,y.tidy⟩
section
variable {H:Type} (enc:TypeId×Value→H) (w:World) (base:Nat) (spare:Nat→Bool) (held:Bool)
def Small (t:TypeId) (d:DataW H):Prop:=(DataW.weights env.P t d).all (· ≤reachBytes)=true
theorem Small.all {e:TypeId}:∀{l:List (DataW H)},(DataW.weightsAll env.P e l).all (· ≤reachBytes)=true→∀d∈l,Small e d
 | [],_,d,hd=>by cases hd
 | x::l,h,d,hd=>by
   rw[DataW.weightsAll,List.all_append,Bool.and_eq_true] at h
   rcases List.mem_cons.1 hd with rfl | hd
   · exact h.1
   · exact Small.all h.2 d hd
theorem Small.struct {t:TypeId} {fs:Array Field} {parts:List (DataW H)} (ht:env.P.underlying t=some (.struct fs)) (h:Small t (.agg parts)):(DataW.weightsEach env.P (fs.toList.map (·.type)) parts).all (· ≤reachBytes)=true:=by
 unfold Small at h
 rw[DataW.weights,ht] at h
 exact h
theorem Small.cr {t:TypeId} {ts:List TypeId} {d:DataW H} {ds:List (DataW H)} (h:(DataW.weightsEach env.P (t::ts) (d::ds)).all (· ≤reachBytes)=true):Small t d∧(DataW.weightsEach env.P ts ds).all (· ≤reachBytes)=true:=by
 rw[DataW.weightsEach,List.all_append,Bool.and_eq_true] at h
 exact h
theorem HS {n:Nat} (h:n≤reachBytes):n<2^60:=Nat.lt_of_le_of_lt h (by unfold reachBytes;decide)
def py {D:Type} (t:TypeId) (sz:Nat) (c:D→List AV) (ok:au→D→Prop):Prop:=
 ∀(φ:Ph) (h:au),OK env φ h w→xa h→Tidy h→∀(cs:List Value) (y:DataW H×List MemPlace) (n:Nat),cs.length=sz→Small t y.1→DataW.trod enc env.P w base spare held n t cs=some y→
  ∃φ' h' x,Gx φ φ' h h' w∧LR φ' (c x) cs∧ok h' x
variable {enc w base spare held}
theorem fq {k:IntKind} {t:TypeId} (ht:env.P.underlying t=some (.int k)):py enc w base spare held t 1 (fun x:Int=> [.int k x]) (fun _ _=>True):=fun φ h ok ro y cs z n _ hw hv=>by
 obtain ⟨m,rfl,_,_⟩:=DataW.trod_int ht hv
 exact ⟨φ,h,m,Gx.refl ok ro y,LR.cons (VR.int k m) (LR.nil _),trivial⟩
theorem FH {t:TypeId} (ht:env.P.underlying t=some .string):py enc w base spare held t 1 (fun x:List UInt8=> [.str x]) (fun _ x=>x.length<2^60):=fun φ h ok ro y cs z n _ hw hv=>by
 obtain ⟨s,rfl,rfl,hs⟩:=DataW.trod_string ht hv
 refine ⟨φ,h,s.data.toList,Gx.refl ok ro y,LR.cons (VR.str s) (LR.nil _),?_⟩
 unfold Small at hw
 rw[DataW.weights,List.all_cons,Bool.and_eq_true] at hw
 exact HS (of_decide_eq_true hw.1)
theorem AM {α:Type} [aA α] {t:TypeId} (ht:env.P.underlying t=some (.slice (aA.e α))) (hs:env.P.cellsOf (aA.e α)=aA.n α) (hby:0<env.P.bytesOf (aA.e α)) (hm:∀(h:au) (x:α) m,aA.ok h x→AV.map m ∉ aA.c x)
 (he:py enc w base spare held (aA.e α) (aA.n α) (aA.c (α:=α)) aA.ok):py enc w base spare held t 1 (fun x:AV×List α=> [x.1]) (fun h x=>aZ h x.1 x.2):=fun φ h ok ro y cs z fuel _ hw hv=>by
 have La:=aA.pos (α:=α)
 rcases DataW.trod_slice ht hv with ⟨rfl,_⟩ | ⟨a,len,cap,elems,rest,n,_,rfl,rfl,hb,hlc,hcm,acY,fZ,_,_⟩
 · exact ⟨φ,h,(.aQ,[]),Gx.refl ok ro y,LR.cons VR.aQ (LR.nil _),⟨aA.size,(Nat.zero_mul _).symm,Nat.pow_pos (by decide),rfl,.inl rfl⟩,.inl rfl,fun x hx=>by cases hx⟩
 rcases Nat.eq_zero_or_pos len with h0 | h0
 · subst h0
   exact ⟨φ,h,(.dN,[]),Gx.refl ok ro y,LR.cons (VR.dN a cap) (LR.nil _),⟨aA.size,(Nat.zero_mul _).symm,Nat.pow_pos (by decide),rfl,.inl rfl⟩,.inr (.inl rfl),fun x hx=>by cases hx⟩
 have AR:len<2^60∧(DataW.weightsAll env.P (aA.e α) (elems.map (·.1))).all (· ≤reachBytes)=true:=by
  unfold Small at hw
  rw[DataW.weights,ht] at hw
  simp only[List.all_cons,List.all_append,Bool.and_eq_true,List.length_map] at hw
  refine ⟨HS (Nat.le_trans ?_ (of_decide_eq_true hw.1)),hw.2.1⟩
  rw[acY]
  exact Nat.le_trans (Nat.le_add_right _ _) (Nat.le_mul_of_pos_right _ hby)
 have all:∀m,m≤len→∃(φ':Ph) (h':au) (xs:List α),Gx φ φ' h h' w∧xs.length=m∧(∀x∈xs,aA.ok h' x)∧∀(i:Nat) (x:α),xs[i]? =some x→∀j v,(aA.c x)[j]? =some v→∃y,w.cell? ((a.add (i*aA.n α)).add j)=some y∧VR φ' v y:=by
  intro m
  induction m with
  | zero=>exact fun _=>⟨φ,h,[],Gx.refl ok ro y,rfl,fun _ hx=>(by cases hx),fun i xi hx=>(by simp at hx)⟩
  | succ m ih=>
    intro V9
    obtain ⟨φ1,h1,xs,g1,hl,hq,hx⟩:=ih o!
    have h2:=fZ m o!
    rw[List.getElem?_eq_getElem o!,hs] at h2
    simp only[Option.bind_eq_some_iff] at h2
    obtain ⟨ci,hc1,hc2⟩:=h2
    obtain ⟨_,Nb,Ez⟩:=World.cells?_some hc1
    obtain ⟨φ2,h2,x,g2,zH,jV⟩:=he φ1 h1 g1.ok g1.ro g1.tidy ci _ n Nb (Small.all AR.2 _ (List.mem_map.2 ⟨_,List.getElem_mem _,rfl⟩)) hc2
    refine ⟨φ2,h2,xs++[x],g1.trans g2,by simp [hl],fun z hz=>?_,fun i z hz=>?_⟩
    · rcases List.mem_append.1 hz with h | h
      · exact aA.mono g2.has (hq z h)
      · simp at h;subst h;exact jV
    · by_cases hi:i<xs.length
      · rw[List.getElem?_append_left hi] at hz
        intro j v hj
        obtain ⟨q,e1,e2⟩:=hx i z hz j v hj
        exact ⟨q,e1,e2.mono g2.le⟩
      · rw[List.getElem?_append_right o!] at hz
        have:i - xs.length=0:=by
         have:=(List.getElem?_eq_some_iff.1 hz).1
         simp at this;omega
        rw[this] at hz
        simp at hz;subst hz
        have:i=m:=by omega
        subst this
        intro j v hj
        have nR:j<(aA.c x).length:=(List.getElem?_eq_some_iff.1 hj).1
        have LF:j<ci.length:=by rw[←zH.1];exact nR
        exact ⟨ci[j],by rw[Ez j (by rw[Nb] at LF;exact LF),List.getElem?_eq_getElem LF],zH.2 j v _ hj (List.getElem?_eq_getElem LF)⟩
 obtain ⟨φ1,h1,xs,g1,hl,hq,hx⟩:=all len (Nat.le_refl _)
 have xh:=ch aA.len xs
 have yn:a.spot=none:=by
  have hx0:xs[0]? =some (xs[0]'o!):=List.getElem?_eq_getElem o!
  obtain ⟨y,hy,_⟩:=hx 0 _ hx0 0 ((aA.c (xs[0]'o!))[0]'(by rw[aA.len];exact La)) (List.getElem?_eq_getElem _)
  simp only[Nat.zero_mul,Addr.add,if_true] at hy
  unfold World.cell? at hy
  split at hy
  · cases hsp:a.spot with
    | none=>rfl
    | some _=>rw[hsp] at hy;simp at hy
  · cases hy
 have VP:∀i j,(a.add (i*aA.n α)).add j=⟨a.block,a.off+(i*aA.n α+j),none⟩:=by
  intro i j
  obtain ⟨b,o,sp⟩:=a
  simp only at yn
  subst yn
  unfold Addr.add
  by_cases h1:i*aA.n α=0<;>by_cases h2:j=0<;>simp [h1,h2,Nat.add_assoc]
 have dR:xs.flatMap aA.c≠ []:=by
  intro e
  have:=congrArg List.length e
  rw[xh,hl] at this
  have:=Nat.mul_pos h0 La
  simp at *
  omega
 obtain ⟨h',hn,rJ,hle,acZ,ai0,hg,hold,gT⟩:=g1.ok.show g1.ro (b:=a.block) (off:=a.off) (e:=aA.e α) dR (fun m V9=>by
  have:AV.map m∈xs.flatMap aA.c:=by rw[V9];simp
  obtain ⟨z,hz,hmz⟩:=List.mem_flatMap.1 this
  exact hm h1 z m (hq z hz) hmz) (fun k v hk=>by
  have Ec:k<(xs.flatMap aA.c).length:=(List.getElem?_eq_some_iff.1 hk).1
  have hdm:k/aA.n α*aA.n α+k%aA.n α=k:=by rw[Nat.mul_comm];exact Nat.div_add_mod k _
  have hi:k/aA.n α<xs.length:=by
   rw[xh] at Ec
   exact (Nat.div_lt_iff_lt_mul La).2 Ec
  have hk2:=hk
  rw[←hdm,iz aA.len _ _ _ hi (Nat.mod_lt _ La)] at hk2
  have hgi:xs[k/aA.n α]? =some (xs.g (k/aA.n α)):=by
   rw[List.g,List.getD_eq_getElem?_getD,List.getElem?_eq_getElem hi];rfl
  obtain ⟨y,hy,hvr⟩:=hx _ _ hgi _ v hk2
  rw[VP,hdm] at hy
  exact ⟨y,hy,hvr⟩)
 have hVR:=VR.slice (φ:=φ1.add h1.nx ⟨a.block,a.off,0⟩) 0 len cap false gT
 have has:Has h1 h':=ud g1.tidy hn
 refine ⟨_,h',(.slice h1.nx 0 len cap false,xs),g1.trans ⟨rJ,hle,acZ,has,by omega,fi g1.tidy hn⟩,LR.cons ?_ (LR.nil _),?_⟩
 · obtain ⟨b,o,sp⟩:=a
   simp only at yn
   subst yn
   exact hVR
 · subst hl
   exact ⟨⟨aA.size,xh,AR.1,rfl,.inr ⟨h1.nx,0,_,cap,false,_,_,true,rfl,hlc,hg,fun j _=>by rw[Nat.zero_add]⟩⟩,.inr (.inr ⟨_,_,_,_,_,rfl,fun e=>by cases e⟩),fun x hx=>aA.mono has (hq x hx)⟩
end
end
end Go.Proofs.aH
