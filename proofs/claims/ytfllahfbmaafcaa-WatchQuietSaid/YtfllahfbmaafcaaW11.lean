import Derived.Test.YtfllahfbmaafcaaW0
import Derived.Test.YtfllahfbmaafcaaW1
import Derived.Test.YtfllahfbmaafcaaW10
namespace Go.Proofs.aG
open Go.Proofs Ab
noncomputable section
set_option maxRecDepth 100000
set_option maxHeartbeats 4000000
set_option linter.unusedVariables false
set_option linter.unusedSimpArgs false
theorem b6 {p:Prop} (h:p:=by first | omega | assumption | (rw[wrap_i64 o! o!];omega)):p:=h
theorem cX {p:Prop} (h:p:=by first | omega | (simp<;>omega)):p:=h
def ri:Code:=(Try.f18.body).getD .skip
theorem Pp:Try.f18.body=some ri:=by kernel_rfl
def Jy:Code:=(cu ri).getD 0 .skip
def z_:Code:=(cu ri).getD 1 .skip
def bJ (raw:List az) (i0:Nat) (aQ:List az):Nat→Int→Int
 | 0,bQ=>bQ
 | bC+1,bQ=>(bif (decide (0<bQ)) then (bif (decide ((ab (raw.g i0).time 0 40)<((aQ.g (bQ - 1).toNat).time))) then bJ raw i0 aQ bC (bQ - 1) else bQ) else bQ)
theorem xU {d:Nat} {h:aw} (tW:AV) (gS:Nat) (lV:Bool) (fH:AV) (gY:AV) (i0:Nat) (bad:List Bool) (q:ay) (raw:List az) (aQ:List az) (x_:List Int) (dc:Nat) (dL:Nat) (oO:Nat) (ov:gW h .i64 3 tW x_) (mY:aP h fH raw) (xN:q.name.length<2^60) (CB:aP h q.aB q.ae) (CQ:aP h gY aQ) (yS:aA.ok h q) (abG:aA.ok h (raw.g i0)) (B2:i0<raw.length) (DD:raw.length≤12) (Jn:q.ae.length≤8) (Pq:0<x_.length) (Pr:bad.length=q.ae.length) (abH:aE q=0):∀(k_:Nat) (bQ:Int) (_:(bQ≤(k_:Int))) (_:(0≤bQ∧bQ≤(List.length aQ:Int))) (x:Nat→AV) (hh:aw) (aL:Tidy hh) (bB:Has h hh) (dC:hh.get dc=some (aR.cells (bs bad) 4 false)) (f_:hh.get dL=some (aR.cells [(AV.str q.name),(Zi q.ao),(Zi q.ai),(Zi q.aI),(Zi q.aJ),(Zi q.bad),q.aB] 26 false)) (oP:hh.get oO=some (aR.cells [(Zi (ab (raw.g i0).aD 0 ((q.ae.length - 1:Nat):Int))),(Zi (ab (raw.g i0).time 0 40)),(Zi (ab (raw.g i0).value (-1000000000) 1000000000))] 43 false)),fZ (dh (d+3)) z_ ⟨((x 0)::tW::(AV.slice dc 0 gS gS lV)::fH::(Pt dL)::rx x 5 4 (gY::(Zn i0)::(Pt oO)::(x 12)::(x 13)::(Zi bQ)::rx x 15 106 [])),hh,[],.no⟩ (.exit 2) hh (fun r y=>((y 0)::tW::(AV.slice dc 0 gS gS lV)::fH::(Pt dL)::rx y 5 4 (gY::(Zn i0)::(Pt oO)::(y 12)::(y 13)::(Zi r)::rx y 15 106 []))) (fun r=>(0≤r∧r≤(List.length aQ:Int))) (bJ raw i0 aQ k_ bQ)
 | 0,bQ,mR,yY,x,hh,aL,bB,dC,f_,oP=>by
   have vP:=ov.small
   have vv:=mY.small
   have CD:=CB.small
   have Mb:=CQ.small
   have yT:=aL _ _ dC
   have GK:=aL _ _ f_
   have Tk:=aL _ _ oP
   have q1:(decide (0<bQ))=false:=d!
   exact fZ.out bQ rfl (pk (d+3) _ _ hh _ hh (CC<|VV (b9 3 false true .i64 bQ 0)<|CC<|BB q1<|BB q1<|BB q1<|BB q1<|BB q1<|BB q1<|BB q1<|BB q1<|BV q1 (uj false q1)<|FF<|ZZ) k!) (Grow.refl aL) (show (0≤bQ∧bQ≤(List.length aQ:Int)) from by omega) k!
 | bC+1,bQ,mR,yY,x,hh,aL,bB,dC,f_,oP=>by
   have vP:=ov.small
   have vv:=mY.small
   have CD:=CB.small
   have Mb:=CQ.small
   have yT:=aL _ _ dC
   have GK:=aL _ _ f_
   have Tk:=aL _ _ oP
   have Ep:=fun {al ps} (k:Pk al _ ps)=>(CC<|VV (b9 3 false true .i64 bQ 0)<|CC<|k:Pk _ [] ps)
   rcases Bool.eq_false_or_eq_true (decide (0<bQ)) with f0 | f0
   · have ji:=of_decide_eq_true f0
     have w2:IntKind.i64.wrap (bQ - 1)=bQ - 1:=wrap_i64 o! o!
     obtain ⟨p4,q5,rK⟩:=(CQ.has bB).elem (i:=(bQ - 1).toNat) o!
     have w_:dy env (some (.slice 43)) (some gY) (some (Zi (bQ - 1)))=some (AV.ptr p4 q5):=by rw[show ((bQ - 1):Int)=(((bQ - 1).toNat:Nat):Int) by omega];exact rK
     have Gm:bE env hh 3 (AV.ptr p4 (q5+1))=some (Zi (aQ.g (bQ - 1).toNat).time):=(CQ.has bB).part (t:=3) (j:=1) o! rK k! rfl
     have Hk:=fun {al ps} (k:Pk al _ ps)=>(Ep<|BC f0<|BC f0<|BV f0 (wC 3 false true w2)<|BV f0 w_<|BC f0<|BM f0 Gm<|BC f0<|BM f0 (aK 3 1 (Zi (ab (raw.g i0).time 0 40)) oP k!)<|BV f0 (b9 3 false false .i64 (aQ.g (bQ - 1).toNat).time (ab (raw.g i0).time 0 40))<|VV (oV (decide ((ab (raw.g i0).time 0 40)<((aQ.g (bQ - 1).toNat).time))) false f0)<|HH Gm<|HH (show AV.same 20 (Zi (aQ.g (bQ - 1).toNat).time) (Zi (aQ.g (bQ - 1).toNat).time)=true from aO 19 _ _)<|HH (aK 3 1 (Zi (ab (raw.g i0).time 0 40)) oP k!)<|HH (show AV.same 20 (Zi (ab (raw.g i0).time 0 40)) (Zi (ab (raw.g i0).time 0 40))=true from aO 19 _ _)<|k:Pk _ [] ps)
     rcases Bool.eq_false_or_eq_true (decide ((ab (raw.g i0).time 0 40)<((aQ.g (bQ - 1).toNat).time))) with f1 | f1
     · have jk:=of_decide_eq_true f1
       have w8:IntKind.i64.wrap (bQ - 1)=bQ - 1:=wrap_i64 o! o!
       exact fZ.round (by simp only[bJ,f0,f1,ak,ah]) (pk (d+3) _ _ hh _ hh (Hk<|BC f1<|VV (wC 3 false true w8)<|CC<|ZZ) k!) (Grow.refl aL) _ k! (fun x=>xU tW gS lV fH gY i0 bad q raw aQ x_ dc dL oO ov mY xN CB CQ yS abG B2 DD Jn Pq Pr abH bC (bQ - 1) o! (show (0≤(bQ - 1)∧(bQ - 1)≤(List.length aQ:Int)) from by omega) x hh aL bB dC f_ oP)
     · have jk:=of_decide_eq_false f1
       exact fZ.out bQ (by simp only[bJ,f0,f1,ak,ah]) (pk (d+3) _ _ hh _ hh (Hk<|BB f1<|ZZ) k!) (Grow.refl aL) (show (0≤bQ∧bQ≤(List.length aQ:Int)) from by omega) k!
   · have ji:=of_decide_eq_false f0
     exact fZ.out bQ (by simp only[bJ,f0,ak,ah]) (pk (d+3) _ _ hh _ hh (Ep<|BB f0<|BB f0<|BB f0<|BB f0<|BB f0<|BB f0<|BB f0<|BB f0<|BV f0 (uj false f0)<|FF<|ZZ) k!) (Grow.refl aL) (show (0≤bQ∧bQ≤(List.length aQ:Int)) from by omega) k!
def bM (raw:List az) (i0:Nat) (aQ:List az):Nat→Int→Int
 | 0,bQ=>bQ
 | bC+1,bQ=>(bif (decide (0<bQ)) then (bif (decide ((ab (raw.g i0).time 0 40)<((aQ.g (bQ - 1).toNat).time))) then bM raw i0 aQ bC (bQ - 1) else bQ) else bQ)
theorem uL {d:Nat} {h:aw} (tW:AV) (gS:Nat) (lV:Bool) (fH:AV) (gY:AV) (i0:Nat) (bad:List Bool) (q:ay) (raw:List az) (x_:List Int) (aQ:List az) (dc:Nat) (dL:Nat) (oO:Nat) (ov:gW h .i64 3 tW x_) (mY:aP h fH raw) (xN:q.name.length<2^60) (CB:aP h q.aB q.ae) (CQ:aP h gY aQ) (yS:aA.ok h q) (abG:aA.ok h (raw.g i0)) (B2:i0<raw.length) (DD:raw.length≤12) (Jn:q.ae.length≤8) (Pq:0<x_.length) (Pr:bad.length=q.ae.length) (abH:aE q=0):∀(k_:Nat) (bQ:Int) (_:(bQ≤(k_:Int))) (_:(0≤bQ∧bQ≤(List.length aQ:Int))) (x:Nat→AV) (hh:aw) (aL:Tidy hh) (bB:Has h hh) (dC:hh.get dc=some (aR.cells (bs bad) 4 false)) (f_:hh.get dL=some (aR.cells [(AV.str q.name),(Zi q.ao),(Zi q.ai),(Zi q.aI),(Zi q.aJ),(Zi q.bad),q.aB] 26 false)) (oP:hh.get oO=some (aR.cells [(Zi (ab (raw.g i0).aD 0 ((q.ae.length - 1:Nat):Int))),(Zi (ab (raw.g i0).time 0 40)),(Zi (IntKind.i64.wrap ((cA x_ (ab (raw.g i0).time 0 40))+(ab (raw.g i0).value (IntKind.i64.wrap (0 -((aY (q.ae.g (ab (raw.g i0).aD 0 ((q.ae.length - 1:Nat):Int)).toNat) (ab (raw.g i0).time 0 40)).1))) (aY (q.ae.g (ab (raw.g i0).aD 0 ((q.ae.length - 1:Nat):Int)).toNat) (ab (raw.g i0).time 0 40)).1))))] 43 false)),fZ (dh (d+3)) z_ ⟨((x 0)::tW::(AV.slice dc 0 gS gS lV)::fH::(Pt dL)::rx x 5 4 (gY::(Zn i0)::(Pt oO)::(x 12)::(x 13)::(Zi bQ)::rx x 15 106 [])),hh,[],.no⟩ (.exit 2) hh (fun r y=>((y 0)::tW::(AV.slice dc 0 gS gS lV)::fH::(Pt dL)::rx y 5 4 (gY::(Zn i0)::(Pt oO)::(y 12)::(y 13)::(Zi r)::rx y 15 106 []))) (fun r=>(0≤r∧r≤(List.length aQ:Int))) (bM raw i0 aQ k_ bQ)
 | 0,bQ,mR,yY,x,hh,aL,bB,dC,f_,oP=>by
   have vP:=ov.small
   have vv:=mY.small
   have CD:=CB.small
   have Mb:=CQ.small
   have yT:=aL _ _ dC
   have GK:=aL _ _ f_
   have Tk:=aL _ _ oP
   have q1:(decide (0<bQ))=false:=d!
   exact fZ.out bQ rfl (pk (d+3) _ _ hh _ hh (CC<|VV (b9 3 false true .i64 bQ 0)<|CC<|BB q1<|BB q1<|BB q1<|BB q1<|BB q1<|BB q1<|BB q1<|BB q1<|BV q1 (uj false q1)<|FF<|ZZ) k!) (Grow.refl aL) (show (0≤bQ∧bQ≤(List.length aQ:Int)) from by omega) k!
 | bC+1,bQ,mR,yY,x,hh,aL,bB,dC,f_,oP=>by
   have vP:=ov.small
   have vv:=mY.small
   have CD:=CB.small
   have Mb:=CQ.small
   have yT:=aL _ _ dC
   have GK:=aL _ _ f_
   have Tk:=aL _ _ oP
   have IS:=fun {al ps} (k:Pk al _ ps)=>(CC<|VV (b9 3 false true .i64 bQ 0)<|CC<|k:Pk _ [] ps)
   rcases Bool.eq_false_or_eq_true (decide (0<bQ)) with f0 | f0
   · have ji:=of_decide_eq_true f0
     have w2:IntKind.i64.wrap (bQ - 1)=bQ - 1:=wrap_i64 o! o!
     obtain ⟨p4,q5,rK⟩:=(CQ.has bB).elem (i:=(bQ - 1).toNat) o!
     have w_:dy env (some (.slice 43)) (some gY) (some (Zi (bQ - 1)))=some (AV.ptr p4 q5):=by rw[show ((bQ - 1):Int)=(((bQ - 1).toNat:Nat):Int) by omega];exact rK
     have Gm:bE env hh 3 (AV.ptr p4 (q5+1))=some (Zi (aQ.g (bQ - 1).toNat).time):=(CQ.has bB).part (t:=3) (j:=1) o! rK k! rfl
     have IT:=fun {al ps} (k:Pk al _ ps)=>(IS<|BC f0<|BC f0<|BV f0 (wC 3 false true w2)<|BV f0 w_<|BC f0<|BM f0 Gm<|BC f0<|BM f0 (aK 3 1 (Zi (ab (raw.g i0).time 0 40)) oP k!)<|BV f0 (b9 3 false false .i64 (aQ.g (bQ - 1).toNat).time (ab (raw.g i0).time 0 40))<|VV (oV (decide ((ab (raw.g i0).time 0 40)<((aQ.g (bQ - 1).toNat).time))) false f0)<|HH Gm<|HH (show AV.same 20 (Zi (aQ.g (bQ - 1).toNat).time) (Zi (aQ.g (bQ - 1).toNat).time)=true from aO 19 _ _)<|HH (aK 3 1 (Zi (ab (raw.g i0).time 0 40)) oP k!)<|HH (show AV.same 20 (Zi (ab (raw.g i0).time 0 40)) (Zi (ab (raw.g i0).time 0 40))=true from aO 19 _ _)<|k:Pk _ [] ps)
     rcases Bool.eq_false_or_eq_true (decide ((ab (raw.g i0).time 0 40)<((aQ.g (bQ - 1).toNat).time))) with f1 | f1
     · have jk:=of_decide_eq_true f1
       have w8:IntKind.i64.wrap (bQ - 1)=bQ - 1:=wrap_i64 o! o!
       exact fZ.round (by simp only[bM,f0,f1,ak,ah]) (pk (d+3) _ _ hh _ hh (IT<|BC f1<|VV (wC 3 false true w8)<|CC<|ZZ) k!) (Grow.refl aL) _ k! (fun x=>uL tW gS lV fH gY i0 bad q raw x_ aQ dc dL oO ov mY xN CB CQ yS abG B2 DD Jn Pq Pr abH bC (bQ - 1) o! (show (0≤(bQ - 1)∧(bQ - 1)≤(List.length aQ:Int)) from by omega) x hh aL bB dC f_ oP)
     · have jk:=of_decide_eq_false f1
       exact fZ.out bQ (by simp only[bM,f0,f1,ak,ah]) (pk (d+3) _ _ hh _ hh (IT<|BB f1<|ZZ) k!) (Grow.refl aL) (show (0≤bQ∧bQ≤(List.length aQ:Int)) from by omega) k!
   · have ji:=of_decide_eq_false f0
     exact fZ.out bQ (by simp only[bM,f0,ak,ah]) (pk (d+3) _ _ hh _ hh (IS<|BB f0<|BB f0<|BB f0<|BB f0<|BB f0<|BB f0<|BB f0<|BB f0<|BV f0 (uj false f0)<|FF<|ZZ) k!) (Grow.refl aL) (show (0≤bQ∧bQ≤(List.length aQ:Int)) from by omega) k!
def cg (raw:List az) (q:ay) (x_:List Int) (bad:List Bool):Nat→Nat→List az→List az
 | 0,_,aQ=>aQ
 | eH+1,i0,aQ=>(bif (decide (0<((q.ae.length:Nat):Int))) then (bif (bad.g (ab (raw.g i0).aD 0 ((q.ae.length - 1:Nat):Int)).toNat) then (bif (decide ((ab (raw.g i0).value (-1000000000) 1000000000)<(-1000000000))) then cg raw q x_ bad eH (i0+1) aQ else (bif (decide (1000000000<(ab (raw.g i0).value (-1000000000) 1000000000))) then cg raw q x_ bad eH (i0+1) aQ else cg raw q x_ bad eH (i0+1) (((([]:List az)++(aQ.take (bJ raw i0 aQ ((aQ.length:Nat):Int).toNat ((aQ.length:Nat):Int)).toNat))++([(⟨(ab (raw.g i0).aD 0 ((q.ae.length - 1:Nat):Int)),(ab (raw.g i0).time 0 40),(ab (raw.g i0).value (-1000000000) 1000000000)⟩:az)]))++(aQ.drop (bJ raw i0 aQ ((aQ.length:Nat):Int).toNat ((aQ.length:Nat):Int)).toNat)))) else (bif (decide ((IntKind.i64.wrap ((cA x_ (ab (raw.g i0).time 0 40))+(ab (raw.g i0).value (IntKind.i64.wrap (0 -((aY (q.ae.g (ab (raw.g i0).aD 0 ((q.ae.length - 1:Nat):Int)).toNat) (ab (raw.g i0).time 0 40)).1))) (aY (q.ae.g (ab (raw.g i0).aD 0 ((q.ae.length - 1:Nat):Int)).toNat) (ab (raw.g i0).time 0 40)).1)))<(-1000000000))) then cg raw q x_ bad eH (i0+1) aQ else (bif (decide (1000000000<(IntKind.i64.wrap ((cA x_ (ab (raw.g i0).time 0 40))+(ab (raw.g i0).value (IntKind.i64.wrap (0 -((aY (q.ae.g (ab (raw.g i0).aD 0 ((q.ae.length - 1:Nat):Int)).toNat) (ab (raw.g i0).time 0 40)).1))) (aY (q.ae.g (ab (raw.g i0).aD 0 ((q.ae.length - 1:Nat):Int)).toNat) (ab (raw.g i0).time 0 40)).1))))) then cg raw q x_ bad eH (i0+1) aQ else cg raw q x_ bad eH (i0+1) (((([]:List az)++(aQ.take (bM raw i0 aQ ((aQ.length:Nat):Int).toNat ((aQ.length:Nat):Int)).toNat))++([(⟨(ab (raw.g i0).aD 0 ((q.ae.length - 1:Nat):Int)),(ab (raw.g i0).time 0 40),(IntKind.i64.wrap ((cA x_ (ab (raw.g i0).time 0 40))+(ab (raw.g i0).value (IntKind.i64.wrap (0 -((aY (q.ae.g (ab (raw.g i0).aD 0 ((q.ae.length - 1:Nat):Int)).toNat) (ab (raw.g i0).time 0 40)).1))) (aY (q.ae.g (ab (raw.g i0).aD 0 ((q.ae.length - 1:Nat):Int)).toNat) (ab (raw.g i0).time 0 40)).1)))⟩:az)]))++(aQ.drop (bM raw i0 aQ ((aQ.length:Nat):Int).toNat ((aQ.length:Nat):Int)).toNat))))) else aQ)
theorem iD {d:Nat} {h:aw} (tW:AV) (gS:Nat) (lV:Bool) (fH:AV) (raw:List az) (bad:List Bool) (q:ay) (x_:List Int) (cF:Nat) (cG:Nat) (cH:gW h .i64 3 tW x_) (dH:aP h fH raw) (vQ:q.name.length<2^60) (pH:aP h q.aB q.ae) (nt:aA.ok h q) (vR:raw.length≤12) (Jz:q.ae.length≤8) (JA:0<x_.length) (JB:bad.length=q.ae.length) (JC:aE q=0) (JD:bad.length=gS) (ch:Tidy h) (qi:cF<h.nx) (uv:h.nx≤cG) (kB:cG≠cF):∀(k_ i_:Nat) (aQ:List az) (gY:AV) (_:i_+k_=raw.length) (x:Nat→AV) (hh:aw) (aL:Tidy hh) (bB:Has h hh) (iT:h.nx≤hh.nx) (da:hh.get cF=some (aR.cells (bs bad) 4 false)) (fb:hh.get cG=some (aR.cells [(AV.str q.name),(Zi q.ao),(Zi q.ai),(Zi q.aI),(Zi q.aJ),(Zi q.bad),q.aB] 26 false)) (Aa:bk h hh gY aQ) (pI:∀y∈aQ,aA.ok hh y) (Y7:aQ.length≤i_) (gM:bD gY cF) (gN:bD gY cG),dz (σ:=List az) (ζ:=AV) (dh (d+3)) Jy ⟨((x 0)::tW::(AV.slice cF 0 gS gS lV)::fH::(Pt cG)::rx x 5 4 (gY::(Zn i_)::rx x 11 110 [])),hh,[],.no⟩ (.exit 0) hh (fun r z y=>((y 0)::tW::(AV.slice cF 0 gS gS lV)::fH::(Pt cG)::rx y 5 4 (z::rx y 10 111 []))) (fun r z hk=>Has h hk∧hk.get cF=some (aR.cells (bs bad) 4 false)∧hk.get cG=some (aR.cells [(AV.str q.name),(Zi q.ao),(Zi q.ai),(Zi q.aI),(Zi q.aJ),(Zi q.bad),q.aB] 26 false)∧bk h hk z r∧(∀y∈r,aA.ok hk y)∧r.length≤raw.length∧bD z cF∧bD z cG) (cg raw q x_ bad k_ i_ aQ)
 | 0,i0,aQ,gY,mR,x,hh,aL,bB,iT,da,fb,Aa,pI,Y7,gM,gN=>by
   have kz:=cH.small
   have ow:=dH.small
   have Mc:=pH.small
   have vx:=aL _ _ da
   have Ly:=aL _ _ fb
   have rj:aP hh gY aQ:=bk.rows Aa o! pI
   have rA:dN (some (.slice 43)) (some fH)=some (Zn raw.length):=dH.len
   have q2:(decide (((i0:Nat):Int)<((raw.length:Nat):Int)))=false:=d!
   exact dz.out aQ gY rfl (pk (d+3) _ _ hh _ hh (CN 2<|VV rA<|VV (bU 3 false false .i64 ((i0:Nat):Int) ((raw.length:Nat):Int))<|CC<|BB q2<|BB q2<|BB q2<|BV q2 (uj false q2)<|FF<|ZZ) k!) aL o! ⟨bB,da,fb,Aa,pI,cX,gM,gN⟩ k!
 | eH+1,i0,aQ,gY,mR,x,hh,aL,bB,iT,da,fb,Aa,pI,Y7,gM,gN=>by
   have kz:=cH.small
   have ow:=dH.small
   have Mc:=pH.small
   have vx:=aL _ _ da
   have Ly:=aL _ _ fb
   have rj:aP hh gY aQ:=bk.rows Aa o! pI
   have rA:dN (some (.slice 43)) (some fH)=some (Zn raw.length):=dH.len
   have q2:(decide (((i0:Nat):Int)<((raw.length:Nat):Int)))=true:=d!
   have Qd:dN (some (.slice 45)) (some q.aB)=some (Zn q.ae.length):=pH.len
   have IU:=fun {al ps} (k:Pk al _ ps)=>(CN 2<|VV rA<|VV (bU 3 false false .i64 ((i0:Nat):Int) ((raw.length:Nat):Int))<|CC<|BC q2<|BM q2 (aK 24 6 q.aB fb k!)<|BV q2 Qd<|BV q2 (b9 3 false true .i64 ((q.ae.length:Nat):Int) 0)<|VV (oV (decide (0<((q.ae.length:Nat):Int))) false q2)<|k:Pk _ [] ps)
   rcases Bool.eq_false_or_eq_true (decide (0<((q.ae.length:Nat):Int))) with f1 | f1
   · have jk:=of_decide_eq_true f1
     obtain ⟨p6,q7,abI⟩:=dH.elem (i:=i0) o!
     have YF:dy env (some (.slice 43)) (some fH) (some (Zn i0))=some (AV.ptr p6 q7):=abI
     have ld8:bE env hh 3 (AV.ptr p6 (q7+0))=some (Zi (raw.g i0).aD):=(dH.has bB).part (t:=3) (j:=0) o! abI k! rfl
     have ln9:dN (some (.slice 45)) (some q.aB)=some (Zn q.ae.length):=pH.len
     have u10:=Gj 3 false true q.ae.length 1 o! o!
     obtain ⟨Hl,Hm,ox⟩:=dH.elem (i:=i0) o!
     have Gu:dy env (some (.slice 43)) (some fH) (some (Zn i0))=some (AV.ptr Hl Hm):=ox
     have vy:bE env hh 3 (AV.ptr Hl (Hm+1))=some (Zi (raw.g i0).time):=(dH.has bB).part (t:=3) (j:=1) o! ox k! rfl
     obtain ⟨Y8,aeR,T7,aiX,NR,jK⟩:=iX aL (aR.cells [(Zi 0),(Zi 0),(Zi 0)] 43 false)
     have NS:Has h Y8:=bB.trans jK
     have JE:Has hh Y8:=jK
     have ahK:=cW (raw.g i0).aD 0 ((q.ae.length - 1:Nat):Int) b6 b6 b6
     have k16:=iz (d:=d+2) (raw.g i0).aD 0 ((q.ae.length - 1:Nat):Int) b6 b6 b6 T7
     have ahL:=cW (raw.g i0).time 0 40 b6 b6 b6
     have k17:=iz (d:=d+2) (raw.g i0).time 0 40 b6 b6 b6 T7
     have Md:bD gY hh.nx:=(bk.sK aL Aa o!)
     obtain ⟨Lb,aeS,zT,aiY,xV,gC⟩:=vq (t:=43) (n:=3) (i:=hh.nx) (L:=[(Zi (ab (raw.g i0).aD 0 ((q.ae.length - 1:Nat):Int))),(Zi (ab (raw.g i0).time 0 40)),(Zi 0)]) T7 NR k! rfl rfl (by simp only[AV.cells,List.all_cons,List.all_nil,Bool.and_true,Bool.and_self,jd,gK,je,jf,fi,mz,mA,mB,mC,mD,jg])
     have sM:Has h Lb:=Has.dr NS gC ch o!
     have JF:Has hh Lb:=Has.dr JE gC aL o!
     have Ac:bk h Lb gY aQ:=bk.kept (bk.has Aa JE) gC Md
     have c20:AV.same 20 q.aB q.aB=true:=pH.same 19
     have aa1:dy env (some (.slice 4)) (some (AV.slice cF 0 gS gS lV)) (some (Zi (ab (raw.g i0).aD 0 ((q.ae.length - 1:Nat):Int))))=some (AV.ptr cF (ab (raw.g i0).aD 0 ((q.ae.length - 1:Nat):Int)).toNat):=BW k! (show (ab (raw.g i0).aD 0 ((q.ae.length - 1:Nat):Int)).toNat<gS by omega) o!
     have aa2:bE env Lb 4 (AV.ptr cF (ab (raw.g i0).aD 0 ((q.ae.length - 1:Nat):Int)).toNat)=some (AV.bool (bad.g (ab (raw.g i0).aD 0 ((q.ae.length - 1:Nat):Int)).toNat)):=Nl k! (gC _ _ o! (jK _ _ da)) l!
     have yh:=fun {al ps} (k:Pk al _ ps)=>(IU<|BB f1<|CN 2<|VV YF<|CC<|MM ld8<|CC<|MM (aK 24 6 q.aB fb k!)<|VV ln9<|VV u10<|CN 2<|VV Gu<|CC<|MM vy<|NN aeR (fun i=>(Pt i))<|EE k16<|EE k17<|CC<|SS aeS<|HH (show bE env Y8 3 (AV.ptr p6 (q7+0))=some (Zi (raw.g i0).aD) from ((dH.has NS).part (t:=3) (j:=0) o! abI k! rfl))<|HH (show AV.same 20 (Zi (raw.g i0).aD) (Zi (raw.g i0).aD)=true from aO 19 _ _)<|HH (aK 24 6 q.aB (jK _ _ fb) k!)<|HH c20<|HH (show bE env Y8 3 (AV.ptr Hl (Hm+1))=some (Zi (raw.g i0).time) from ((dH.has NS).part (t:=3) (j:=1) o! ox k! rfl))<|HH (show AV.same 20 (Zi (raw.g i0).time) (Zi (raw.g i0).time)=true from aO 19 _ _)<|HH (show bE env Y8 3 (AV.ptr Hl (Hm+1))=some (Zi (raw.g i0).time) from ((dH.has NS).part (t:=3) (j:=1) o! ox k! rfl))<|HH (show AV.same 20 (Zi (raw.g i0).time) (Zi (raw.g i0).time)=true from aO 19 _ _)<|HH (show ∃o,Y8.get hh.nx=some o∧aR.same o (aR.cells [(Zi 0),(Zi 0),(Zi 0)] 43 false)=true from ⟨_,NR,by simp [aR.same,cM,AV.same]⟩)<|HH (show ∃o,Y8.get hh.nx=some o∧aR.same o (aR.cells [(Zi 0),(Zi 0),(Zi 0)] 43 false)=true from ⟨_,NR,by simp [aR.same,cM,AV.same]⟩)<|HH (show ∃o,Y8.get hh.nx=some o∧aR.same o (aR.cells [(Zi 0),(Zi 0),(Zi 0)] 43 false)=true from ⟨_,NR,by simp [aR.same,cM,AV.same]⟩)<|CN 2<|MM (aK 3 0 (Zi (ab (raw.g i0).aD 0 ((q.ae.length - 1:Nat):Int))) xV k!)<|VV aa1<|MM aa2<|k:Pk _ [] ps)
     rcases Bool.eq_false_or_eq_true (bad.g (ab (raw.g i0).aD 0 ((q.ae.length - 1:Nat):Int)).toNat) with f2 | f2
     · obtain ⟨Y9,Y_,JG⟩:=dH.elem (i:=i0) o!
       have abJ:dy env (some (.slice 43)) (some fH) (some (Zn i0))=some (AV.ptr Y9 Y_):=JG
       have XD:bE env Lb 3 (AV.ptr Y9 (Y_+2))=some (Zi (raw.g i0).value):=(dH.has sM).part (t:=3) (j:=2) o! JG k! rfl
       have ahM:=cW (raw.g i0).value (-1000000000) 1000000000 b6 b6 b6
       have k28:=iz (d:=d+2) (raw.g i0).value (-1000000000) 1000000000 b6 b6 b6 zT
       obtain ⟨A0,aeT,JH,aiZ,EM,oR⟩:=WN (t:=3) (n:=1) (i:=hh.nx) (o:=2) (v:=(Zi (ab (raw.g i0).value (-1000000000) 1000000000))) (N:=[(Zi (ab (raw.g i0).aD 0 ((q.ae.length - 1:Nat):Int))),(Zi (ab (raw.g i0).time 0 40)),(Zi (ab (raw.g i0).value (-1000000000) 1000000000))]) zT xV k! rfl k! k! (by simp only[AV.cells,List.all_cons,List.all_nil,Bool.and_true,Bool.and_self,jd,gK,je,jf,fi,mz,mA,mB,mC,mD,jg])
       have tq:Has h A0:=Has.dr sM oR ch o!
       have xW:Has hh A0:=Has.dr JF oR aL o!
       have po:bk h A0 gY aQ:=bk.kept Ac oR Md
       have SL:=fun {al ps} (k:Pk al _ ps)=>(yh<|BB f2<|CN 2<|VV abJ<|CC<|MM XD<|EE k28<|CC<|SS aeT<|CC<|MM (aK 3 2 (Zi (ab (raw.g i0).value (-1000000000) 1000000000)) EM k!)<|VV (bU 3 false true .i64 (ab (raw.g i0).value (-1000000000) 1000000000) (-1000000000))<|CC<|k:Pk _ [] ps)
       rcases Bool.eq_false_or_eq_true (decide ((ab (raw.g i0).value (-1000000000) 1000000000)<(-1000000000))) with f3 | f3
       · have jl:=of_decide_eq_true f3
         have u31:=fU 3 false true i0 1 o!
         exact dz.round (by simp only[cg,f1,f2,f3,ak,ah]) (pk (d+3) _ _ hh _ A0 (SL<|BB f3<|BB f3<|BV f3 (ot true f3)<|TT<|CC<|VV u31<|CC<|ZZ) k!) o! _ k! (fun x=>iD tW gS lV fH raw bad q x_ cF cG cH dH vQ pH nt vR Jz JA JB JC JD ch qi uv kB eH (i0+1) aQ gY o! x A0 JH tq o! (oR _ _ o! (gC _ _ o! (jK _ _ da))) (oR _ _ o! (gC _ _ o! (jK _ _ fb))) po (dE (D:=az) pI) cX gM gN)
       · have jl:=of_decide_eq_false f3
         have SM:=fun {al ps} (k:Pk al _ ps)=>(SL<|BC f3<|BM f3 (aK 3 2 (Zi (ab (raw.g i0).value (-1000000000) 1000000000)) EM k!)<|BV f3 (b9 3 false true .i64 (ab (raw.g i0).value (-1000000000) 1000000000) 1000000000)<|VV (a_ (a:=some (AV.bool true)) (b:=some (AV.bool (decide (1000000000<(ab (raw.g i0).value (-1000000000) 1000000000))))) f3)<|k:Pk _ [] ps)
         rcases Bool.eq_false_or_eq_true (decide (1000000000<(ab (raw.g i0).value (-1000000000) 1000000000))) with f4 | f4
         · have jE:=of_decide_eq_true f4
           have u32:=fU 3 false true i0 1 o!
           exact dz.round (by simp only[cg,f1,f2,f3,f4,ak,ah]) (pk (d+3) _ _ hh _ A0 (SM<|BC f4<|VV u32<|CC<|ZZ) k!) o! _ k! (fun x=>iD tW gS lV fH raw bad q x_ cF cG cH dH vQ pH nt vR Jz JA JB JC JD ch qi uv kB eH (i0+1) aQ gY o! x A0 JH tq o! (oR _ _ o! (gC _ _ o! (jK _ _ da))) (oR _ _ o! (gC _ _ o! (jK _ _ fb))) po (dE (D:=az) pI) cX gM gN)
         · have jE:=of_decide_eq_false f4
           have ahN:dN (some (.slice 43)) (some gY)=some (Zn aQ.length):=rj.len
           obtain ⟨aj0,NT,XE,uM,T8⟩:=xU (d:=d) (h:=A0) tW gS lV fH gY i0 bad q raw aQ x_ cF cG hh.nx (cH.has tq) (dH.has tq) vQ (pH.has tq) (rj.has xW) (aA.mono tq nt) (aA.mono tq (dH.ok (i:=i0) o!)) o! o! o! o! o! o! ((aQ.length:Nat):Int).toNat ((aQ.length:Nat):Int) o! (show (0≤((aQ.length:Nat):Int)∧((aQ.length:Nat):Int)≤(List.length aQ:Int)) from by omega) (fun k_=>(((x 0)::tW::(AV.slice cF 0 gS gS lV)::fH::(Pt cG)::rx x 5 4 (gY::(Zn i0)::(Pt hh.nx)::(x 12)::(x 13)::(Zn aQ.length)::(Zn i0)::fH::(Zn raw.length)::(AV.bool (decide (((i0:Nat):Int)<((raw.length:Nat):Int))))::(AV.bool (decide (((i0:Nat):Int)<((raw.length:Nat):Int))))::(AV.ptr cG 6)::q.aB::(Zn q.ae.length)::(AV.bool (decide (0<((q.ae.length:Nat):Int))))::(AV.bool (decide (0<((q.ae.length:Nat):Int))))::(x 25)::(x 26)::fH::(Zn i0)::(AV.ptr p6 q7)::(AV.ptr p6 (q7+0))::(Zi (raw.g i0).aD)::(AV.ptr cG 6)::q.aB::(Zn q.ae.length)::(Zn (q.ae.length - 1))::(Zi (ab (raw.g i0).aD 0 ((q.ae.length - 1:Nat):Int)))::fH::(Zn i0)::(AV.ptr Hl Hm)::(AV.ptr Hl (Hm+1))::(Zi (raw.g i0).time)::(Zi (ab (raw.g i0).time 0 40))::(AV.agg [(Zi (ab (raw.g i0).aD 0 ((q.ae.length - 1:Nat):Int))),(Zi (ab (raw.g i0).time 0 40)),(Zi 0)])::(AV.slice cF 0 gS gS lV)::(Pt hh.nx)::(Zi (ab (raw.g i0).aD 0 ((q.ae.length - 1:Nat):Int)))::(AV.ptr cF (ab (raw.g i0).aD 0 ((q.ae.length - 1:Nat):Int)).toNat)::(AV.bool (bad.g (ab (raw.g i0).aD 0 ((q.ae.length - 1:Nat):Int)).toNat))::fH::(Zn i0)::(AV.ptr Y9 Y_)::(AV.ptr Y9 (Y_+2))::(Zi (raw.g i0).value)::(Zi (ab (raw.g i0).value (-1000000000) 1000000000))::(AV.ptr hh.nx 2)::rx x 56 27 ((AV.ptr hh.nx 2)::(Zi (ab (raw.g i0).value (-1000000000) 1000000000))::(AV.bool (decide ((ab (raw.g i0).value (-1000000000) 1000000000)<(-1000000000))))::(AV.bool (decide ((ab (raw.g i0).value (-1000000000) 1000000000)<(-1000000000))))::(AV.ptr hh.nx 2)::(Zi (ab (raw.g i0).value (-1000000000) 1000000000))::(AV.bool (decide (1000000000<(ab (raw.g i0).value (-1000000000) 1000000000))))::(AV.bool (decide (1000000000<(ab (raw.g i0).value (-1000000000) 1000000000))))::gY::(Zn aQ.length)::rx x 93 28 []))):List AV).getD k_ AV.undef) A0 JH (Has.refl _) (oR _ _ o! (gC _ _ o! (jK _ _ da))) (oR _ _ o! (gC _ _ o! (jK _ _ fb))) EM
           have aeU:=(show (0≤(bJ raw i0 aQ ((aQ.length:Nat):Int).toNat ((aQ.length:Nat):Int))∧(bJ raw i0 aQ ((aQ.length:Nat):Int).toNat ((aQ.length:Nat):Int))≤(List.length aQ:Int)) from T8)
           have NU:=uM.y
           have ai0:A0.nx≤NT.nx:=uM.n
           have T9:Has h NT:=tq.trans uM.a
           have CT:Has hh NT:=xW.trans uM.a
           have zj:Has A0 NT:=uM.a
           obtain ⟨XF,aeV,aeW,ai1,Y',CU⟩:=iX NU (aR.cells [] 43 false)
           have aeX:Has h XF:=T9.trans CU
           have T_:Has hh XF:=CT.trans CU
           have Ps:Has A0 XF:=zj.trans CU
           have Pu:Has NT XF:=CU
           obtain ⟨r36,aeY,T'⟩:=bk.Gn po (rj.has xW) (t:=27) k! (i:=(bJ raw i0 aQ ((aQ.length:Nat):Int).toNat ((aQ.length:Nat):Int)).toNat) o!
           have ahO:dx env 27 gY (none) (some (Zi (bJ raw i0 aQ ((aQ.length:Nat):Int).toNat ((aQ.length:Nat):Int)))) (none)=some r36:=by rw[show ((bJ raw i0 aQ ((aQ.length:Nat):Int).toNat ((aQ.length:Nat):Int)):Int)=(((bJ raw i0 aQ ((aQ.length:Nat):Int).toNat ((aQ.length:Nat):Int)).toNat:Nat):Int) by omega];exact aeY
           obtain ⟨Za,aeZ,ae0,ai2,Ua,Ad⟩:=iX aeW (aR.cells [(Zi (ab (raw.g i0).aD 0 ((q.ae.length - 1:Nat):Int))),(Zi (ab (raw.g i0).time 0 40)),(Zi (ab (raw.g i0).value (-1000000000) 1000000000))] 43 false)
           have ae1:Has h Za:=aeX.trans Ad
           have Ub:Has hh Za:=T_.trans Ad
           have nI:Has A0 Za:=Ps.trans Ad
           have EN:Has NT Za:=Pu.trans Ad
           obtain ⟨r40,ae2,Uc⟩:=bk.adw po (rj.has xW) (t:=27) k! (i:=(bJ raw i0 aQ ((aQ.length:Nat):Int).toNat ((aQ.length:Nat):Int)).toNat) o!
           have ahP:dx env 27 gY (some (Zi (bJ raw i0 aQ ((aQ.length:Nat):Int).toNat ((aQ.length:Nat):Int)))) (none) (none)=some r40:=by rw[show ((bJ raw i0 aQ ((aQ.length:Nat):Int).toNat ((aQ.length:Nat):Int)):Int)=(((bJ raw i0 aQ ((aQ.length:Nat):Int).toNat ((aQ.length:Nat):Int)).toNat:Nat):Int) by omega];exact ae2
           obtain ⟨z44,XG,abK,ae3,ai3,ai4,ae4,tu⟩:=bk.adq (tys:= #[27,27]) (l:=([]:List az)) (m:=(aQ.take (bJ raw i0 aQ ((aQ.length:Nat):Int).toNat ((aQ.length:Nat):Int)).toNat)) (x:=r36) ae0 NU EN o! (.inl ⟨.inr ⟨_,rfl,(Nat.le_refl _),(Ad _ _ Y')⟩,rfl⟩:bk NT Za (AV.slice NT.nx 0 0 0 false) ([]:List az)) (T'.has nI).kM (T'.has nI).first (kF (T'.has nI) fun y hy=>az.sc ((T'.has nI).Gk y hy)) cX rfl rfl k! k! (bytes:=24) k! (z0:=(AV.agg [(Zi 0),(Zi 0),(Zi 0)])) k! rfl (by decide)
           have ai5:Has h XG:=ae1.trans tu
           have ae5:Has hh XG:=Ub.trans tu
           have ach:Has A0 XG:=nI.trans tu
           have Pv:Has NT XG:=EN.trans tu
           have Ud:∀y∈(([]:List az)++(aQ.take (bJ raw i0 aQ ((aQ.length:Nat):Int).toNat ((aQ.length:Nat):Int)).toNat)),aA.ok XG y:=Nj tu (kZ (fun y hy=>by cases hy) (T'.has nI).Gk)
           have abL:aP XG z44 (([]:List az)++(aQ.take (bJ raw i0 aQ ((aQ.length:Nat):Int).toNat ((aQ.length:Nat):Int)).toNat)):=bk.rows ae4 cX Ud
           have ae6:=abL.small
           obtain ⟨z47,JI,abM,Ue,ai6,NV,ae7,ahQ⟩:=bk.app (tys:= #[27,27]) (l:=(([]:List az)++(aQ.take (bJ raw i0 aQ ((aQ.length:Nat):Int).toNat ((aQ.length:Nat):Int)).toNat))) (m:=[(⟨(ab (raw.g i0).aD 0 ((q.ae.length - 1:Nat):Int)),(ab (raw.g i0).time 0 40),(ab (raw.g i0).value (-1000000000) 1000000000)⟩:az)]) (x:=(AV.slice XF.nx 0 1 1 false)) ae3 NU Pv o! ae4 rfl (jh (x:=(⟨(ab (raw.g i0).aD 0 ((q.ae.length - 1:Nat):Int)),(ab (raw.g i0).time 0 40),(ab (raw.g i0).value (-1000000000) 1000000000)⟩:az)) (tu _ _ Ua)) (by simp [aA.c,az.c,AV.scalar]) cX rfl rfl k! k! (bytes:=24) k! (z0:=(AV.agg [(Zi 0),(Zi 0),(Zi 0)])) k! rfl (by decide)
           have Zb:Has h JI:=T9.trans NV
           have JJ:Has hh JI:=CT.trans NV
           have ql:Has A0 JI:=zj.trans NV
           have Pw:Has NT JI:=NV
           have Uf:∀y∈((([]:List az)++(aQ.take (bJ raw i0 aQ ((aQ.length:Nat):Int).toNat ((aQ.length:Nat):Int)).toNat))++([(⟨(ab (raw.g i0).aD 0 ((q.ae.length - 1:Nat):Int)),(ab (raw.g i0).time 0 40),(ab (raw.g i0).value (-1000000000) 1000000000)⟩:az)])),aA.ok JI y:=dE (D:=az) (kZ Ud (ok_one trivial))
           have abN:aP JI z47 ((([]:List az)++(aQ.take (bJ raw i0 aQ ((aQ.length:Nat):Int).toNat ((aQ.length:Nat):Int)).toNat))++([(⟨(ab (raw.g i0).aD 0 ((q.ae.length - 1:Nat):Int)),(ab (raw.g i0).time 0 40),(ab (raw.g i0).value (-1000000000) 1000000000)⟩:az)])):=bk.rows ae7 cX Uf
           have ae8:=abN.small
           obtain ⟨z50,XH,abO,Ug,ai7,EO,Px,ahR⟩:=bk.app (tys:= #[27,27]) (l:=((([]:List az)++(aQ.take (bJ raw i0 aQ ((aQ.length:Nat):Int).toNat ((aQ.length:Nat):Int)).toNat))++([(⟨(ab (raw.g i0).aD 0 ((q.ae.length - 1:Nat):Int)),(ab (raw.g i0).time 0 40),(ab (raw.g i0).value (-1000000000) 1000000000)⟩:az)]))) (m:=(aQ.drop (bJ raw i0 aQ ((aQ.length:Nat):Int).toNat ((aQ.length:Nat):Int)).toNat)) (x:=r40) Ue NU Pw o! ae7 (Uc.has ql).kM (Uc.has ql).first (kF (Uc.has ql) fun y hy=>az.sc ((Uc.has ql).Gk y hy)) cX rfl rfl k! k! (bytes:=24) k! (z0:=(AV.agg [(Zi 0),(Zi 0),(Zi 0)])) k! rfl (by decide)
           have ae9:Has h XH:=T9.trans EO
           have afa:Has hh XH:=CT.trans EO
           have aci:Has A0 XH:=zj.trans EO
           have acj:Has NT XH:=EO
           have Uh:∀y∈(((([]:List az)++(aQ.take (bJ raw i0 aQ ((aQ.length:Nat):Int).toNat ((aQ.length:Nat):Int)).toNat))++([(⟨(ab (raw.g i0).aD 0 ((q.ae.length - 1:Nat):Int)),(ab (raw.g i0).time 0 40),(ab (raw.g i0).value (-1000000000) 1000000000)⟩:az)]))++(aQ.drop (bJ raw i0 aQ ((aQ.length:Nat):Int).toNat ((aQ.length:Nat):Int)).toNat)),aA.ok XH y:=dE (D:=az) (kZ Uf (Uc.has ql).Gk)
           have abP:aP XH z50 (((([]:List az)++(aQ.take (bJ raw i0 aQ ((aQ.length:Nat):Int).toNat ((aQ.length:Nat):Int)).toNat))++([(⟨(ab (raw.g i0).aD 0 ((q.ae.length - 1:Nat):Int)),(ab (raw.g i0).time 0 40),(ab (raw.g i0).value (-1000000000) 1000000000)⟩:az)]))++(aQ.drop (bJ raw i0 aQ ((aQ.length:Nat):Int).toNat ((aQ.length:Nat):Int)).toNat)):=bk.rows Px cX Uh
           have afb:=abP.small
           have c52:AV.same 20 (AV.agg [(Zi (ab (raw.g i0).aD 0 ((q.ae.length - 1:Nat):Int))),(Zi (ab (raw.g i0).time 0 40)),(Zi (ab (raw.g i0).value (-1000000000) 1000000000))]) (AV.agg [(Zi (ab (raw.g i0).aD 0 ((q.ae.length - 1:Nat):Int))),(Zi (ab (raw.g i0).time 0 40)),(Zi (ab (raw.g i0).value (-1000000000) 1000000000))])=true:=hI 18 (pL (fun n=>aO n _ _) (pL (fun n=>aO n _ _) (pL (fun n=>aO n _ _) OX)))
           have u53:=fU 3 false true i0 1 o!
           exact dz.round (by simp only[cg,f1,f2,f3,f4,ak,ah]) (pk (d+3) _ _ hh _ XH (SM<|BC f4<|VV ahN<|CC<|LL XE<|NN aeV (fun i=>(AV.slice i 0 0 0 false))<|CN 2<|QQ ahO<|MM (aK 43 0 (AV.agg [(Zi (ab (raw.g i0).aD 0 ((q.ae.length - 1:Nat):Int))),(Zi (ab (raw.g i0).time 0 40)),(Zi (ab (raw.g i0).value (-1000000000) 1000000000))]) (CU _ _ (uM.a _ _ EM)) k!)<|NN aeZ (fun i=>(AV.slice i 0 1 1 false))<|CN 2<|QQ ahP<|PP (show bR env Za #[27,27] (AV.slice NT.nx 0 0 0 false) r36=some (z44,XG) from abK)<|PP (show bR env XG #[27,27] z44 (AV.slice XF.nx 0 1 1 false)=some (z47,JI) from abM)<|PP (show bR env JI #[27,27] z47 r40=some (z50,XH) from abO)<|CC<|HH (show ∃o,Za.get NT.nx=some o∧aR.same o (aR.cells [] 43 false)=true from ⟨_,(Ad _ _ Y'),by simp [aR.same,cM,AV.same]⟩)<|HH (aK 43 0 (AV.agg [(Zi (ab (raw.g i0).aD 0 ((q.ae.length - 1:Nat):Int))),(Zi (ab (raw.g i0).time 0 40)),(Zi (ab (raw.g i0).value (-1000000000) 1000000000))]) (Ad _ _ (CU _ _ (uM.a _ _ EM))) k!)<|HH c52<|HH (aK 43 0 (AV.agg [(Zi (ab (raw.g i0).aD 0 ((q.ae.length - 1:Nat):Int))),(Zi (ab (raw.g i0).time 0 40)),(Zi (ab (raw.g i0).value (-1000000000) 1000000000))]) (tu _ _ (Ad _ _ (CU _ _ (uM.a _ _ EM)))) k!)<|HH c52<|HH (show ∃o,Za.get XF.nx=some o∧aR.same o (aR.cells [(Zi (ab (raw.g i0).aD 0 ((q.ae.length - 1:Nat):Int))),(Zi (ab (raw.g i0).time 0 40)),(Zi (ab (raw.g i0).value (-1000000000) 1000000000))] 43 false)=true from ⟨_,Ua,by simp [aR.same,cM,AV.same]⟩)<|HH (show ∃o,XG.get XF.nx=some o∧aR.same o (aR.cells [(Zi (ab (raw.g i0).aD 0 ((q.ae.length - 1:Nat):Int))),(Zi (ab (raw.g i0).time 0 40)),(Zi (ab (raw.g i0).value (-1000000000) 1000000000))] 43 false)=true from ⟨_,(tu _ _ Ua),by simp [aR.same,cM,AV.same]⟩)<|HH (show nodup [NT.nx,XF.nx]=true from (by simp [nodup];omega))<|CC<|VV u53<|CC<|ZZ) k!) o! _ k! (fun x=>iD tW gS lV fH raw bad q x_ cF cG cH dH vQ pH nt vR Jz JA JB JC JD ch qi uv kB eH (i0+1) (((([]:List az)++(aQ.take (bJ raw i0 aQ ((aQ.length:Nat):Int).toNat ((aQ.length:Nat):Int)).toNat))++([(⟨(ab (raw.g i0).aD 0 ((q.ae.length - 1:Nat):Int)),(ab (raw.g i0).time 0 40),(ab (raw.g i0).value (-1000000000) 1000000000)⟩:az)]))++(aQ.drop (bJ raw i0 aQ ((aQ.length:Nat):Int).toNat ((aQ.length:Nat):Int)).toNat)) z50 o! x XH Ug ae9 o! (EO _ _ (uM.a _ _ (oR _ _ o! (gC _ _ o! (jK _ _ da))))) (EO _ _ (uM.a _ _ (oR _ _ o! (gC _ _ o! (jK _ _ fb))))) (bk.le (h0:=h) Px o!) Uh cX (by first | exact bk.O5 Px o! | exact bk.sK Ug Px o!) (by first | exact bk.O5 Px o! | exact bk.sK Ug Px o!))
     · obtain ⟨Y9,Y_,JG⟩:=pH.elem (i:=(ab (raw.g i0).aD 0 ((q.ae.length - 1:Nat):Int)).toNat) o!
       have abJ:dy env (some (.slice 45)) (some q.aB) (some (Zi (ab (raw.g i0).aD 0 ((q.ae.length - 1:Nat):Int))))=some (AV.ptr Y9 Y_):=by rw[show ((ab (raw.g i0).aD 0 ((q.ae.length - 1:Nat):Int)):Int)=(((ab (raw.g i0).aD 0 ((q.ae.length - 1:Nat):Int)).toNat:Nat):Int) by omega];exact JG
       have XD:bE env Lb 45 (AV.ptr Y9 Y_)=some (AV.agg [(AV.str (q.ae.g (ab (raw.g i0).aD 0 ((q.ae.length - 1:Nat):Int)).toNat).name),(Zi (q.ae.g (ab (raw.g i0).aD 0 ((q.ae.length - 1:Nat):Int)).toNat).acc),(Zi (q.ae.g (ab (raw.g i0).aD 0 ((q.ae.length - 1:Nat):Int)).toNat).bH),(Zi (q.ae.g (ab (raw.g i0).aD 0 ((q.ae.length - 1:Nat):Int)).toNat).since)]):=(pH.has sM).load o! JG
       have ahS:0≤(aY (q.ae.g (ab (raw.g i0).aD 0 ((q.ae.length - 1:Nat):Int)).toNat) (ab (raw.g i0).time 0 40)).1∧(aY (q.ae.g (ab (raw.g i0).aD 0 ((q.ae.length - 1:Nat):Int)).toNat) (ab (raw.g i0).time 0 40)).1≤102000000000:=T6 (by assumption) b6 b6 b6
       have k28:=O4 (d:=d) (q.ae.g (ab (raw.g i0).aD 0 ((q.ae.length - 1:Nat):Int)).toNat) (ab (raw.g i0).time 0 40) (aA.mono sM (pH.ok (i:=(ab (raw.g i0).aD 0 ((q.ae.length - 1:Nat):Int)).toNat) o!)) zT
       have c29:AV.same 20 (AV.agg [(AV.str (q.ae.g (ab (raw.g i0).aD 0 ((q.ae.length - 1:Nat):Int)).toNat).name),(Zi (q.ae.g (ab (raw.g i0).aD 0 ((q.ae.length - 1:Nat):Int)).toNat).acc),(Zi (q.ae.g (ab (raw.g i0).aD 0 ((q.ae.length - 1:Nat):Int)).toNat).bH),(Zi (q.ae.g (ab (raw.g i0).aD 0 ((q.ae.length - 1:Nat):Int)).toNat).since)]) (AV.agg [(AV.str (q.ae.g (ab (raw.g i0).aD 0 ((q.ae.length - 1:Nat):Int)).toNat).name),(Zi (q.ae.g (ab (raw.g i0).aD 0 ((q.ae.length - 1:Nat):Int)).toNat).acc),(Zi (q.ae.g (ab (raw.g i0).aD 0 ((q.ae.length - 1:Nat):Int)).toNat).bH),(Zi (q.ae.g (ab (raw.g i0).aD 0 ((q.ae.length - 1:Nat):Int)).toNat).since)])=true:=hI 18 (pL (fun n=>pZ n _) (pL (fun n=>aO n _ _) (pL (fun n=>aO n _ _) (pL (fun n=>aO n _ _) OX))))
       obtain ⟨p31,q32,Zc⟩:=dH.elem (i:=i0) o!
       have ahT:dy env (some (.slice 43)) (some fH) (some (Zn i0))=some (AV.ptr p31 q32):=Zc
       have abQ:bE env Lb 3 (AV.ptr p31 (q32+2))=some (Zi (raw.g i0).value):=(dH.has sM).part (t:=3) (j:=2) o! Zc k! rfl
       have k34:=Gl (d:=d+2) x_ (ab (raw.g i0).time 0 40) (cH.has sM) b6 b6 zT
       have ahU:=cW (raw.g i0).value (IntKind.i64.wrap (0 -((aY (q.ae.g (ab (raw.g i0).aD 0 ((q.ae.length - 1:Nat):Int)).toNat) (ab (raw.g i0).time 0 40)).1))) (aY (q.ae.g (ab (raw.g i0).aD 0 ((q.ae.length - 1:Nat):Int)).toNat) (ab (raw.g i0).time 0 40)).1 b6 b6 b6
       have k35:=iz (d:=d+2) (raw.g i0).value (IntKind.i64.wrap (0 -((aY (q.ae.g (ab (raw.g i0).aD 0 ((q.ae.length - 1:Nat):Int)).toNat) (ab (raw.g i0).time 0 40)).1))) (aY (q.ae.g (ab (raw.g i0).aD 0 ((q.ae.length - 1:Nat):Int)).toNat) (ab (raw.g i0).time 0 40)).1 b6 b6 b6 zT
       obtain ⟨J4,afc,Ui,ai8,EP,oS⟩:=WN (t:=3) (n:=1) (i:=hh.nx) (o:=2) (v:=(Zi (IntKind.i64.wrap ((cA x_ (ab (raw.g i0).time 0 40))+(ab (raw.g i0).value (IntKind.i64.wrap (0 -((aY (q.ae.g (ab (raw.g i0).aD 0 ((q.ae.length - 1:Nat):Int)).toNat) (ab (raw.g i0).time 0 40)).1))) (aY (q.ae.g (ab (raw.g i0).aD 0 ((q.ae.length - 1:Nat):Int)).toNat) (ab (raw.g i0).time 0 40)).1))))) (N:=[(Zi (ab (raw.g i0).aD 0 ((q.ae.length - 1:Nat):Int))),(Zi (ab (raw.g i0).time 0 40)),(Zi (IntKind.i64.wrap ((cA x_ (ab (raw.g i0).time 0 40))+(ab (raw.g i0).value (IntKind.i64.wrap (0 -((aY (q.ae.g (ab (raw.g i0).aD 0 ((q.ae.length - 1:Nat):Int)).toNat) (ab (raw.g i0).time 0 40)).1))) (aY (q.ae.g (ab (raw.g i0).aD 0 ((q.ae.length - 1:Nat):Int)).toNat) (ab (raw.g i0).time 0 40)).1))))]) zT xV k! rfl k! k! (by simp only[AV.cells,List.all_cons,List.all_nil,Bool.and_true,Bool.and_self,jd,gK,je,jf,fi,mz,mA,mB,mC,mD,jg])
       have Ae:Has h J4:=Has.dr sM oS ch o!
       have xX:Has hh J4:=Has.dr JF oS aL o!
       have pq:bk h J4 gY aQ:=bk.kept Ac oS Md
       have SN:=fun {al ps} (k:Pk al _ ps)=>(yh<|BC f2<|MM (aK 24 6 q.aB (gC _ _ o! (jK _ _ fb)) k!)<|CC<|MM (aK 3 0 (Zi (ab (raw.g i0).aD 0 ((q.ae.length - 1:Nat):Int))) xV k!)<|VV abJ<|MM XD<|CC<|MM (aK 3 1 (Zi (ab (raw.g i0).time 0 40)) xV k!)<|EE k28<|CN 5<|HH (aK 24 6 q.aB (gC _ _ o! (jK _ _ fb)) k!)<|HH c20<|HH (aK 3 0 (Zi (ab (raw.g i0).aD 0 ((q.ae.length - 1:Nat):Int))) xV k!)<|HH (show AV.same 20 (Zi (ab (raw.g i0).aD 0 ((q.ae.length - 1:Nat):Int))) (Zi (ab (raw.g i0).aD 0 ((q.ae.length - 1:Nat):Int)))=true from aO 19 _ _)<|HH XD<|HH c29<|HH (aK 3 1 (Zi (ab (raw.g i0).time 0 40)) xV k!)<|HH (show AV.same 20 (Zi (ab (raw.g i0).time 0 40)) (Zi (ab (raw.g i0).time 0 40))=true from aO 19 _ _)<|CN 2<|MM (aK 3 1 (Zi (ab (raw.g i0).time 0 40)) xV k!)<|CN 2<|VV ahT<|CC<|MM abQ<|CN 3<|EE k34<|EE k35<|CN 2<|SS afc<|HH (aK 3 1 (Zi (ab (raw.g i0).time 0 40)) xV k!)<|HH (show AV.same 20 (Zi (ab (raw.g i0).time 0 40)) (Zi (ab (raw.g i0).time 0 40))=true from aO 19 _ _)<|HH abQ<|HH (show AV.same 20 (Zi (raw.g i0).value) (Zi (raw.g i0).value)=true from aO 19 _ _)<|HH abQ<|HH (show AV.same 20 (Zi (raw.g i0).value) (Zi (raw.g i0).value)=true from aO 19 _ _)<|CC<|MM (aK 3 2 (Zi (IntKind.i64.wrap ((cA x_ (ab (raw.g i0).time 0 40))+(ab (raw.g i0).value (IntKind.i64.wrap (0 -((aY (q.ae.g (ab (raw.g i0).aD 0 ((q.ae.length - 1:Nat):Int)).toNat) (ab (raw.g i0).time 0 40)).1))) (aY (q.ae.g (ab (raw.g i0).aD 0 ((q.ae.length - 1:Nat):Int)).toNat) (ab (raw.g i0).time 0 40)).1)))) EP k!)<|VV (bU 3 false true .i64 (IntKind.i64.wrap ((cA x_ (ab (raw.g i0).time 0 40))+(ab (raw.g i0).value (IntKind.i64.wrap (0 -((aY (q.ae.g (ab (raw.g i0).aD 0 ((q.ae.length - 1:Nat):Int)).toNat) (ab (raw.g i0).time 0 40)).1))) (aY (q.ae.g (ab (raw.g i0).aD 0 ((q.ae.length - 1:Nat):Int)).toNat) (ab (raw.g i0).time 0 40)).1))) (-1000000000))<|CC<|k:Pk _ [] ps)
       rcases Bool.eq_false_or_eq_true (decide ((IntKind.i64.wrap ((cA x_ (ab (raw.g i0).time 0 40))+(ab (raw.g i0).value (IntKind.i64.wrap (0 -((aY (q.ae.g (ab (raw.g i0).aD 0 ((q.ae.length - 1:Nat):Int)).toNat) (ab (raw.g i0).time 0 40)).1))) (aY (q.ae.g (ab (raw.g i0).aD 0 ((q.ae.length - 1:Nat):Int)).toNat) (ab (raw.g i0).time 0 40)).1)))<(-1000000000))) with f3 | f3
       · have jl:=of_decide_eq_true f3
         have u38:=fU 3 false true i0 1 o!
         exact dz.round (by simp only[cg,f1,f2,f3,ak,ah]) (pk (d+3) _ _ hh _ J4 (SN<|BB f3<|BB f3<|BV f3 (ot true f3)<|TT<|CC<|VV u38<|CC<|ZZ) k!) o! _ k! (fun x=>iD tW gS lV fH raw bad q x_ cF cG cH dH vQ pH nt vR Jz JA JB JC JD ch qi uv kB eH (i0+1) aQ gY o! x J4 Ui Ae o! (oS _ _ o! (gC _ _ o! (jK _ _ da))) (oS _ _ o! (gC _ _ o! (jK _ _ fb))) pq (dE (D:=az) pI) cX gM gN)
       · have jl:=of_decide_eq_false f3
         have I1:=fun {al ps} (k:Pk al _ ps)=>(SN<|BC f3<|BM f3 (aK 3 2 (Zi (IntKind.i64.wrap ((cA x_ (ab (raw.g i0).time 0 40))+(ab (raw.g i0).value (IntKind.i64.wrap (0 -((aY (q.ae.g (ab (raw.g i0).aD 0 ((q.ae.length - 1:Nat):Int)).toNat) (ab (raw.g i0).time 0 40)).1))) (aY (q.ae.g (ab (raw.g i0).aD 0 ((q.ae.length - 1:Nat):Int)).toNat) (ab (raw.g i0).time 0 40)).1)))) EP k!)<|BV f3 (b9 3 false true .i64 (IntKind.i64.wrap ((cA x_ (ab (raw.g i0).time 0 40))+(ab (raw.g i0).value (IntKind.i64.wrap (0 -((aY (q.ae.g (ab (raw.g i0).aD 0 ((q.ae.length - 1:Nat):Int)).toNat) (ab (raw.g i0).time 0 40)).1))) (aY (q.ae.g (ab (raw.g i0).aD 0 ((q.ae.length - 1:Nat):Int)).toNat) (ab (raw.g i0).time 0 40)).1))) 1000000000)<|VV (a_ (a:=some (AV.bool true)) (b:=some (AV.bool (decide (1000000000<(IntKind.i64.wrap ((cA x_ (ab (raw.g i0).time 0 40))+(ab (raw.g i0).value (IntKind.i64.wrap (0 -((aY (q.ae.g (ab (raw.g i0).aD 0 ((q.ae.length - 1:Nat):Int)).toNat) (ab (raw.g i0).time 0 40)).1))) (aY (q.ae.g (ab (raw.g i0).aD 0 ((q.ae.length - 1:Nat):Int)).toNat) (ab (raw.g i0).time 0 40)).1))))))) f3)<|k:Pk _ [] ps)
         rcases Bool.eq_false_or_eq_true (decide (1000000000<(IntKind.i64.wrap ((cA x_ (ab (raw.g i0).time 0 40))+(ab (raw.g i0).value (IntKind.i64.wrap (0 -((aY (q.ae.g (ab (raw.g i0).aD 0 ((q.ae.length - 1:Nat):Int)).toNat) (ab (raw.g i0).time 0 40)).1))) (aY (q.ae.g (ab (raw.g i0).aD 0 ((q.ae.length - 1:Nat):Int)).toNat) (ab (raw.g i0).time 0 40)).1))))) with f4 | f4
         · have jE:=of_decide_eq_true f4
           have u39:=fU 3 false true i0 1 o!
           exact dz.round (by simp only[cg,f1,f2,f3,f4,ak,ah]) (pk (d+3) _ _ hh _ J4 (I1<|BC f4<|VV u39<|CC<|ZZ) k!) o! _ k! (fun x=>iD tW gS lV fH raw bad q x_ cF cG cH dH vQ pH nt vR Jz JA JB JC JD ch qi uv kB eH (i0+1) aQ gY o! x J4 Ui Ae o! (oS _ _ o! (gC _ _ o! (jK _ _ da))) (oS _ _ o! (gC _ _ o! (jK _ _ fb))) pq (dE (D:=az) pI) cX gM gN)
         · have jE:=of_decide_eq_false f4
           have ahV:dN (some (.slice 43)) (some gY)=some (Zn aQ.length):=rj.len
           obtain ⟨aj1,NW,XI,uN,Uj⟩:=uL (d:=d) (h:=J4) tW gS lV fH gY i0 bad q raw x_ aQ cF cG hh.nx (cH.has Ae) (dH.has Ae) vQ (pH.has Ae) (rj.has xX) (aA.mono Ae nt) (aA.mono Ae (dH.ok (i:=i0) o!)) o! o! o! o! o! o! ((aQ.length:Nat):Int).toNat ((aQ.length:Nat):Int) o! (show (0≤((aQ.length:Nat):Int)∧((aQ.length:Nat):Int)≤(List.length aQ:Int)) from by omega) (fun k_=>(((x 0)::tW::(AV.slice cF 0 gS gS lV)::fH::(Pt cG)::rx x 5 4 (gY::(Zn i0)::(Pt hh.nx)::(Zi (aY (q.ae.g (ab (raw.g i0).aD 0 ((q.ae.length - 1:Nat):Int)).toNat) (ab (raw.g i0).time 0 40)).1)::(Zi (aY (q.ae.g (ab (raw.g i0).aD 0 ((q.ae.length - 1:Nat):Int)).toNat) (ab (raw.g i0).time 0 40)).2)::(Zn aQ.length)::(Zn i0)::fH::(Zn raw.length)::(AV.bool (decide (((i0:Nat):Int)<((raw.length:Nat):Int))))::(AV.bool (decide (((i0:Nat):Int)<((raw.length:Nat):Int))))::(AV.ptr cG 6)::q.aB::(Zn q.ae.length)::(AV.bool (decide (0<((q.ae.length:Nat):Int))))::(AV.bool (decide (0<((q.ae.length:Nat):Int))))::(x 25)::(x 26)::fH::(Zn i0)::(AV.ptr p6 q7)::(AV.ptr p6 (q7+0))::(Zi (raw.g i0).aD)::(AV.ptr cG 6)::q.aB::(Zn q.ae.length)::(Zn (q.ae.length - 1))::(Zi (ab (raw.g i0).aD 0 ((q.ae.length - 1:Nat):Int)))::fH::(Zn i0)::(AV.ptr Hl Hm)::(AV.ptr Hl (Hm+1))::(Zi (raw.g i0).time)::(Zi (ab (raw.g i0).time 0 40))::(AV.agg [(Zi (ab (raw.g i0).aD 0 ((q.ae.length - 1:Nat):Int))),(Zi (ab (raw.g i0).time 0 40)),(Zi 0)])::(AV.slice cF 0 gS gS lV)::(Pt hh.nx)::(Zi (ab (raw.g i0).aD 0 ((q.ae.length - 1:Nat):Int)))::(AV.ptr cF (ab (raw.g i0).aD 0 ((q.ae.length - 1:Nat):Int)).toNat)::(AV.bool (bad.g (ab (raw.g i0).aD 0 ((q.ae.length - 1:Nat):Int)).toNat))::rx x 49 7 ((AV.tuple [(Zi (aY (q.ae.g (ab (raw.g i0).aD 0 ((q.ae.length - 1:Nat):Int)).toNat) (ab (raw.g i0).time 0 40)).1),(Zi (aY (q.ae.g (ab (raw.g i0).aD 0 ((q.ae.length - 1:Nat):Int)).toNat) (ab (raw.g i0).time 0 40)).2)])::(AV.ptr cG 6)::q.aB::(Pt hh.nx)::(Zi (ab (raw.g i0).aD 0 ((q.ae.length - 1:Nat):Int)))::(AV.ptr Y9 Y_)::(AV.agg [(AV.str (q.ae.g (ab (raw.g i0).aD 0 ((q.ae.length - 1:Nat):Int)).toNat).name),(Zi (q.ae.g (ab (raw.g i0).aD 0 ((q.ae.length - 1:Nat):Int)).toNat).acc),(Zi (q.ae.g (ab (raw.g i0).aD 0 ((q.ae.length - 1:Nat):Int)).toNat).bH),(Zi (q.ae.g (ab (raw.g i0).aD 0 ((q.ae.length - 1:Nat):Int)).toNat).since)])::(AV.ptr hh.nx 1)::(Zi (ab (raw.g i0).time 0 40))::(AV.tuple [(Zi (aY (q.ae.g (ab (raw.g i0).aD 0 ((q.ae.length - 1:Nat):Int)).toNat) (ab (raw.g i0).time 0 40)).1),(Zi (aY (q.ae.g (ab (raw.g i0).aD 0 ((q.ae.length - 1:Nat):Int)).toNat) (ab (raw.g i0).time 0 40)).2)])::(Zi (aY (q.ae.g (ab (raw.g i0).aD 0 ((q.ae.length - 1:Nat):Int)).toNat) (ab (raw.g i0).time 0 40)).1)::(Zi (aY (q.ae.g (ab (raw.g i0).aD 0 ((q.ae.length - 1:Nat):Int)).toNat) (ab (raw.g i0).time 0 40)).2)::tW::(AV.ptr hh.nx 1)::(Zi (ab (raw.g i0).time 0 40))::(Zi (cA x_ (ab (raw.g i0).time 0 40)))::fH::(Zn i0)::(AV.ptr p31 q32)::(AV.ptr p31 (q32+2))::(Zi (raw.g i0).value)::(Zi (aY (q.ae.g (ab (raw.g i0).aD 0 ((q.ae.length - 1:Nat):Int)).toNat) (ab (raw.g i0).time 0 40)).1)::(Zi (IntKind.i64.wrap (0 -((aY (q.ae.g (ab (raw.g i0).aD 0 ((q.ae.length - 1:Nat):Int)).toNat) (ab (raw.g i0).time 0 40)).1))))::(Zi (aY (q.ae.g (ab (raw.g i0).aD 0 ((q.ae.length - 1:Nat):Int)).toNat) (ab (raw.g i0).time 0 40)).1)::(Zi (ab (raw.g i0).value (IntKind.i64.wrap (0 -((aY (q.ae.g (ab (raw.g i0).aD 0 ((q.ae.length - 1:Nat):Int)).toNat) (ab (raw.g i0).time 0 40)).1))) (aY (q.ae.g (ab (raw.g i0).aD 0 ((q.ae.length - 1:Nat):Int)).toNat) (ab (raw.g i0).time 0 40)).1))::(Zi (IntKind.i64.wrap ((cA x_ (ab (raw.g i0).time 0 40))+(ab (raw.g i0).value (IntKind.i64.wrap (0 -((aY (q.ae.g (ab (raw.g i0).aD 0 ((q.ae.length - 1:Nat):Int)).toNat) (ab (raw.g i0).time 0 40)).1))) (aY (q.ae.g (ab (raw.g i0).aD 0 ((q.ae.length - 1:Nat):Int)).toNat) (ab (raw.g i0).time 0 40)).1))))::(AV.ptr hh.nx 2)::(AV.ptr hh.nx 2)::(Zi (IntKind.i64.wrap ((cA x_ (ab (raw.g i0).time 0 40))+(ab (raw.g i0).value (IntKind.i64.wrap (0 -((aY (q.ae.g (ab (raw.g i0).aD 0 ((q.ae.length - 1:Nat):Int)).toNat) (ab (raw.g i0).time 0 40)).1))) (aY (q.ae.g (ab (raw.g i0).aD 0 ((q.ae.length - 1:Nat):Int)).toNat) (ab (raw.g i0).time 0 40)).1))))::(AV.bool (decide ((IntKind.i64.wrap ((cA x_ (ab (raw.g i0).time 0 40))+(ab (raw.g i0).value (IntKind.i64.wrap (0 -((aY (q.ae.g (ab (raw.g i0).aD 0 ((q.ae.length - 1:Nat):Int)).toNat) (ab (raw.g i0).time 0 40)).1))) (aY (q.ae.g (ab (raw.g i0).aD 0 ((q.ae.length - 1:Nat):Int)).toNat) (ab (raw.g i0).time 0 40)).1)))<(-1000000000))))::(AV.bool (decide ((IntKind.i64.wrap ((cA x_ (ab (raw.g i0).time 0 40))+(ab (raw.g i0).value (IntKind.i64.wrap (0 -((aY (q.ae.g (ab (raw.g i0).aD 0 ((q.ae.length - 1:Nat):Int)).toNat) (ab (raw.g i0).time 0 40)).1))) (aY (q.ae.g (ab (raw.g i0).aD 0 ((q.ae.length - 1:Nat):Int)).toNat) (ab (raw.g i0).time 0 40)).1)))<(-1000000000))))::(AV.ptr hh.nx 2)::(Zi (IntKind.i64.wrap ((cA x_ (ab (raw.g i0).time 0 40))+(ab (raw.g i0).value (IntKind.i64.wrap (0 -((aY (q.ae.g (ab (raw.g i0).aD 0 ((q.ae.length - 1:Nat):Int)).toNat) (ab (raw.g i0).time 0 40)).1))) (aY (q.ae.g (ab (raw.g i0).aD 0 ((q.ae.length - 1:Nat):Int)).toNat) (ab (raw.g i0).time 0 40)).1))))::(AV.bool (decide (1000000000<(IntKind.i64.wrap ((cA x_ (ab (raw.g i0).time 0 40))+(ab (raw.g i0).value (IntKind.i64.wrap (0 -((aY (q.ae.g (ab (raw.g i0).aD 0 ((q.ae.length - 1:Nat):Int)).toNat) (ab (raw.g i0).time 0 40)).1))) (aY (q.ae.g (ab (raw.g i0).aD 0 ((q.ae.length - 1:Nat):Int)).toNat) (ab (raw.g i0).time 0 40)).1))))))::(AV.bool (decide (1000000000<(IntKind.i64.wrap ((cA x_ (ab (raw.g i0).time 0 40))+(ab (raw.g i0).value (IntKind.i64.wrap (0 -((aY (q.ae.g (ab (raw.g i0).aD 0 ((q.ae.length - 1:Nat):Int)).toNat) (ab (raw.g i0).time 0 40)).1))) (aY (q.ae.g (ab (raw.g i0).aD 0 ((q.ae.length - 1:Nat):Int)).toNat) (ab (raw.g i0).time 0 40)).1))))))::gY::(Zn aQ.length)::rx x 93 28 []))):List AV).getD k_ AV.undef) J4 Ui (Has.refl _) (oS _ _ o! (gC _ _ o! (jK _ _ da))) (oS _ _ o! (gC _ _ o! (jK _ _ fb))) EP
           have afd:=(show (0≤(bM raw i0 aQ ((aQ.length:Nat):Int).toNat ((aQ.length:Nat):Int))∧(bM raw i0 aQ ((aQ.length:Nat):Int).toNat ((aQ.length:Nat):Int))≤(List.length aQ:Int)) from Uj)
           have NX:=uN.y
           have ai9:J4.nx≤NW.nx:=uN.n
           have Uk:Has h NW:=Ae.trans uN.a
           have CV:Has hh NW:=xX.trans uN.a
           have zk:Has J4 NW:=uN.a
           obtain ⟨XJ,afe,aff,aja,Zd,CW⟩:=iX NX (aR.cells [] 43 false)
           have afg:Has h XJ:=Uk.trans CW
           have Ul:Has hh XJ:=CV.trans CW
           have Py:Has J4 XJ:=zk.trans CW
           have Pz:Has NW XJ:=CW
           obtain ⟨r43,afh,Um⟩:=bk.Gn pq (rj.has xX) (t:=27) k! (i:=(bM raw i0 aQ ((aQ.length:Nat):Int).toNat ((aQ.length:Nat):Int)).toNat) o!
           have ahW:dx env 27 gY (none) (some (Zi (bM raw i0 aQ ((aQ.length:Nat):Int).toNat ((aQ.length:Nat):Int)))) (none)=some r43:=by rw[show ((bM raw i0 aQ ((aQ.length:Nat):Int).toNat ((aQ.length:Nat):Int)):Int)=(((bM raw i0 aQ ((aQ.length:Nat):Int).toNat ((aQ.length:Nat):Int)).toNat:Nat):Int) by omega];exact afh
           obtain ⟨JI,afi,Ue,ajb,Un,Af⟩:=iX aff (aR.cells [(Zi (ab (raw.g i0).aD 0 ((q.ae.length - 1:Nat):Int))),(Zi (ab (raw.g i0).time 0 40)),(Zi (IntKind.i64.wrap ((cA x_ (ab (raw.g i0).time 0 40))+(ab (raw.g i0).value (IntKind.i64.wrap (0 -((aY (q.ae.g (ab (raw.g i0).aD 0 ((q.ae.length - 1:Nat):Int)).toNat) (ab (raw.g i0).time 0 40)).1))) (aY (q.ae.g (ab (raw.g i0).aD 0 ((q.ae.length - 1:Nat):Int)).toNat) (ab (raw.g i0).time 0 40)).1))))] 43 false)
           have Zb:Has h JI:=afg.trans Af
           have JJ:Has hh JI:=Ul.trans Af
           have nJ:Has J4 JI:=Py.trans Af
           have ES:Has NW JI:=Pz.trans Af
           obtain ⟨r47,afj,Uo⟩:=bk.adw pq (rj.has xX) (t:=27) k! (i:=(bM raw i0 aQ ((aQ.length:Nat):Int).toNat ((aQ.length:Nat):Int)).toNat) o!
           have ahX:dx env 27 gY (some (Zi (bM raw i0 aQ ((aQ.length:Nat):Int).toNat ((aQ.length:Nat):Int)))) (none) (none)=some r47:=by rw[show ((bM raw i0 aQ ((aQ.length:Nat):Int).toNat ((aQ.length:Nat):Int)):Int)=(((bM raw i0 aQ ((aQ.length:Nat):Int).toNat ((aQ.length:Nat):Int)).toNat:Nat):Int) by omega];exact afj
           obtain ⟨z51,XK,abR,afk,ajc,ajd,afl,tv⟩:=bk.adq (tys:= #[27,27]) (l:=([]:List az)) (m:=(aQ.take (bM raw i0 aQ ((aQ.length:Nat):Int).toNat ((aQ.length:Nat):Int)).toNat)) (x:=r43) Ue NX ES o! (.inl ⟨.inr ⟨_,rfl,(Nat.le_refl _),(Af _ _ Zd)⟩,rfl⟩:bk NW JI (AV.slice NW.nx 0 0 0 false) ([]:List az)) (Um.has nJ).kM (Um.has nJ).first (kF (Um.has nJ) fun y hy=>az.sc ((Um.has nJ).Gk y hy)) cX rfl rfl k! k! (bytes:=24) k! (z0:=(AV.agg [(Zi 0),(Zi 0),(Zi 0)])) k! rfl (by decide)
           have aje:Has h XK:=Zb.trans tv
           have afm:Has hh XK:=JJ.trans tv
           have ack:Has J4 XK:=nJ.trans tv
           have PA:Has NW XK:=ES.trans tv
           have Up:∀y∈(([]:List az)++(aQ.take (bM raw i0 aQ ((aQ.length:Nat):Int).toNat ((aQ.length:Nat):Int)).toNat)),aA.ok XK y:=Nj tv (kZ (fun y hy=>by cases hy) (Um.has nJ).Gk)
           have abS:aP XK z51 (([]:List az)++(aQ.take (bM raw i0 aQ ((aQ.length:Nat):Int).toNat ((aQ.length:Nat):Int)).toNat)):=bk.rows afl cX Up
           have afn:=abS.small
           obtain ⟨z54,Ze,abT,afo,ajf,NY,afp,ahY⟩:=bk.app (tys:= #[27,27]) (l:=(([]:List az)++(aQ.take (bM raw i0 aQ ((aQ.length:Nat):Int).toNat ((aQ.length:Nat):Int)).toNat))) (m:=[(⟨(ab (raw.g i0).aD 0 ((q.ae.length - 1:Nat):Int)),(ab (raw.g i0).time 0 40),(IntKind.i64.wrap ((cA x_ (ab (raw.g i0).time 0 40))+(ab (raw.g i0).value (IntKind.i64.wrap (0 -((aY (q.ae.g (ab (raw.g i0).aD 0 ((q.ae.length - 1:Nat):Int)).toNat) (ab (raw.g i0).time 0 40)).1))) (aY (q.ae.g (ab (raw.g i0).aD 0 ((q.ae.length - 1:Nat):Int)).toNat) (ab (raw.g i0).time 0 40)).1)))⟩:az)]) (x:=(AV.slice XJ.nx 0 1 1 false)) afk NX PA o! afl rfl (jh (x:=(⟨(ab (raw.g i0).aD 0 ((q.ae.length - 1:Nat):Int)),(ab (raw.g i0).time 0 40),(IntKind.i64.wrap ((cA x_ (ab (raw.g i0).time 0 40))+(ab (raw.g i0).value (IntKind.i64.wrap (0 -((aY (q.ae.g (ab (raw.g i0).aD 0 ((q.ae.length - 1:Nat):Int)).toNat) (ab (raw.g i0).time 0 40)).1))) (aY (q.ae.g (ab (raw.g i0).aD 0 ((q.ae.length - 1:Nat):Int)).toNat) (ab (raw.g i0).time 0 40)).1)))⟩:az)) (tv _ _ Un)) (by simp [aA.c,az.c,AV.scalar]) cX rfl rfl k! k! (bytes:=24) k! (z0:=(AV.agg [(Zi 0),(Zi 0),(Zi 0)])) k! rfl (by decide)
           have ajg:Has h Ze:=Uk.trans NY
           have afq:Has hh Ze:=CV.trans NY
           have qm:Has J4 Ze:=zk.trans NY
           have PB:Has NW Ze:=NY
           have Uq:∀y∈((([]:List az)++(aQ.take (bM raw i0 aQ ((aQ.length:Nat):Int).toNat ((aQ.length:Nat):Int)).toNat))++([(⟨(ab (raw.g i0).aD 0 ((q.ae.length - 1:Nat):Int)),(ab (raw.g i0).time 0 40),(IntKind.i64.wrap ((cA x_ (ab (raw.g i0).time 0 40))+(ab (raw.g i0).value (IntKind.i64.wrap (0 -((aY (q.ae.g (ab (raw.g i0).aD 0 ((q.ae.length - 1:Nat):Int)).toNat) (ab (raw.g i0).time 0 40)).1))) (aY (q.ae.g (ab (raw.g i0).aD 0 ((q.ae.length - 1:Nat):Int)).toNat) (ab (raw.g i0).time 0 40)).1)))⟩:az)])),aA.ok Ze y:=dE (D:=az) (kZ Up (ok_one trivial))
           have abU:aP Ze z54 ((([]:List az)++(aQ.take (bM raw i0 aQ ((aQ.length:Nat):Int).toNat ((aQ.length:Nat):Int)).toNat))++([(⟨(ab (raw.g i0).aD 0 ((q.ae.length - 1:Nat):Int)),(ab (raw.g i0).time 0 40),(IntKind.i64.wrap ((cA x_ (ab (raw.g i0).time 0 40))+(ab (raw.g i0).value (IntKind.i64.wrap (0 -((aY (q.ae.g (ab (raw.g i0).aD 0 ((q.ae.length - 1:Nat):Int)).toNat) (ab (raw.g i0).time 0 40)).1))) (aY (q.ae.g (ab (raw.g i0).aD 0 ((q.ae.length - 1:Nat):Int)).toNat) (ab (raw.g i0).time 0 40)).1)))⟩:az)])):=bk.rows afp cX Uq
           have afr:=abU.small
           obtain ⟨z57,XL,abV,Ur,ajh,ET,PC,ahZ⟩:=bk.app (tys:= #[27,27]) (l:=((([]:List az)++(aQ.take (bM raw i0 aQ ((aQ.length:Nat):Int).toNat ((aQ.length:Nat):Int)).toNat))++([(⟨(ab (raw.g i0).aD 0 ((q.ae.length - 1:Nat):Int)),(ab (raw.g i0).time 0 40),(IntKind.i64.wrap ((cA x_ (ab (raw.g i0).time 0 40))+(ab (raw.g i0).value (IntKind.i64.wrap (0 -((aY (q.ae.g (ab (raw.g i0).aD 0 ((q.ae.length - 1:Nat):Int)).toNat) (ab (raw.g i0).time 0 40)).1))) (aY (q.ae.g (ab (raw.g i0).aD 0 ((q.ae.length - 1:Nat):Int)).toNat) (ab (raw.g i0).time 0 40)).1)))⟩:az)]))) (m:=(aQ.drop (bM raw i0 aQ ((aQ.length:Nat):Int).toNat ((aQ.length:Nat):Int)).toNat)) (x:=r47) afo NX PB o! afp (Uo.has qm).kM (Uo.has qm).first (kF (Uo.has qm) fun y hy=>az.sc ((Uo.has qm).Gk y hy)) cX rfl rfl k! k! (bytes:=24) k! (z0:=(AV.agg [(Zi 0),(Zi 0),(Zi 0)])) k! rfl (by decide)
           have afs:Has h XL:=Uk.trans ET
           have afu:Has hh XL:=CV.trans ET
           have acm:Has J4 XL:=zk.trans ET
           have acn:Has NW XL:=ET
           have Us:∀y∈(((([]:List az)++(aQ.take (bM raw i0 aQ ((aQ.length:Nat):Int).toNat ((aQ.length:Nat):Int)).toNat))++([(⟨(ab (raw.g i0).aD 0 ((q.ae.length - 1:Nat):Int)),(ab (raw.g i0).time 0 40),(IntKind.i64.wrap ((cA x_ (ab (raw.g i0).time 0 40))+(ab (raw.g i0).value (IntKind.i64.wrap (0 -((aY (q.ae.g (ab (raw.g i0).aD 0 ((q.ae.length - 1:Nat):Int)).toNat) (ab (raw.g i0).time 0 40)).1))) (aY (q.ae.g (ab (raw.g i0).aD 0 ((q.ae.length - 1:Nat):Int)).toNat) (ab (raw.g i0).time 0 40)).1)))⟩:az)]))++(aQ.drop (bM raw i0 aQ ((aQ.length:Nat):Int).toNat ((aQ.length:Nat):Int)).toNat)),aA.ok XL y:=dE (D:=az) (kZ Uq (Uo.has qm).Gk)
           have abW:aP XL z57 (((([]:List az)++(aQ.take (bM raw i0 aQ ((aQ.length:Nat):Int).toNat ((aQ.length:Nat):Int)).toNat))++([(⟨(ab (raw.g i0).aD 0 ((q.ae.length - 1:Nat):Int)),(ab (raw.g i0).time 0 40),(IntKind.i64.wrap ((cA x_ (ab (raw.g i0).time 0 40))+(ab (raw.g i0).value (IntKind.i64.wrap (0 -((aY (q.ae.g (ab (raw.g i0).aD 0 ((q.ae.length - 1:Nat):Int)).toNat) (ab (raw.g i0).time 0 40)).1))) (aY (q.ae.g (ab (raw.g i0).aD 0 ((q.ae.length - 1:Nat):Int)).toNat) (ab (raw.g i0).time 0 40)).1)))⟩:az)]))++(aQ.drop (bM raw i0 aQ ((aQ.length:Nat):Int).toNat ((aQ.length:Nat):Int)).toNat)):=bk.rows PC cX Us
           have afv:=abW.small
           have c59:AV.same 20 (AV.agg [(Zi (ab (raw.g i0).aD 0 ((q.ae.length - 1:Nat):Int))),(Zi (ab (raw.g i0).time 0 40)),(Zi (IntKind.i64.wrap ((cA x_ (ab (raw.g i0).time 0 40))+(ab (raw.g i0).value (IntKind.i64.wrap (0 -((aY (q.ae.g (ab (raw.g i0).aD 0 ((q.ae.length - 1:Nat):Int)).toNat) (ab (raw.g i0).time 0 40)).1))) (aY (q.ae.g (ab (raw.g i0).aD 0 ((q.ae.length - 1:Nat):Int)).toNat) (ab (raw.g i0).time 0 40)).1))))]) (AV.agg [(Zi (ab (raw.g i0).aD 0 ((q.ae.length - 1:Nat):Int))),(Zi (ab (raw.g i0).time 0 40)),(Zi (IntKind.i64.wrap ((cA x_ (ab (raw.g i0).time 0 40))+(ab (raw.g i0).value (IntKind.i64.wrap (0 -((aY (q.ae.g (ab (raw.g i0).aD 0 ((q.ae.length - 1:Nat):Int)).toNat) (ab (raw.g i0).time 0 40)).1))) (aY (q.ae.g (ab (raw.g i0).aD 0 ((q.ae.length - 1:Nat):Int)).toNat) (ab (raw.g i0).time 0 40)).1))))])=true:=hI 18 (pL (fun n=>aO n _ _) (pL (fun n=>aO n _ _) (pL (fun n=>aO n _ _) OX)))
           have u60:=fU 3 false true i0 1 o!
           exact dz.round (by simp only[cg,f1,f2,f3,f4,ak,ah]) (pk (d+3) _ _ hh _ XL (I1<|BC f4<|VV ahV<|CC<|LL XI<|NN afe (fun i=>(AV.slice i 0 0 0 false))<|CN 2<|QQ ahW<|MM (aK 43 0 (AV.agg [(Zi (ab (raw.g i0).aD 0 ((q.ae.length - 1:Nat):Int))),(Zi (ab (raw.g i0).time 0 40)),(Zi (IntKind.i64.wrap ((cA x_ (ab (raw.g i0).time 0 40))+(ab (raw.g i0).value (IntKind.i64.wrap (0 -((aY (q.ae.g (ab (raw.g i0).aD 0 ((q.ae.length - 1:Nat):Int)).toNat) (ab (raw.g i0).time 0 40)).1))) (aY (q.ae.g (ab (raw.g i0).aD 0 ((q.ae.length - 1:Nat):Int)).toNat) (ab (raw.g i0).time 0 40)).1))))]) (CW _ _ (uN.a _ _ EP)) k!)<|NN afi (fun i=>(AV.slice i 0 1 1 false))<|CN 2<|QQ ahX<|PP (show bR env JI #[27,27] (AV.slice NW.nx 0 0 0 false) r43=some (z51,XK) from abR)<|PP (show bR env XK #[27,27] z51 (AV.slice XJ.nx 0 1 1 false)=some (z54,Ze) from abT)<|PP (show bR env Ze #[27,27] z54 r47=some (z57,XL) from abV)<|CC<|HH (show ∃o,JI.get NW.nx=some o∧aR.same o (aR.cells [] 43 false)=true from ⟨_,(Af _ _ Zd),by simp [aR.same,cM,AV.same]⟩)<|HH (aK 43 0 (AV.agg [(Zi (ab (raw.g i0).aD 0 ((q.ae.length - 1:Nat):Int))),(Zi (ab (raw.g i0).time 0 40)),(Zi (IntKind.i64.wrap ((cA x_ (ab (raw.g i0).time 0 40))+(ab (raw.g i0).value (IntKind.i64.wrap (0 -((aY (q.ae.g (ab (raw.g i0).aD 0 ((q.ae.length - 1:Nat):Int)).toNat) (ab (raw.g i0).time 0 40)).1))) (aY (q.ae.g (ab (raw.g i0).aD 0 ((q.ae.length - 1:Nat):Int)).toNat) (ab (raw.g i0).time 0 40)).1))))]) (Af _ _ (CW _ _ (uN.a _ _ EP))) k!)<|HH c59<|HH (aK 43 0 (AV.agg [(Zi (ab (raw.g i0).aD 0 ((q.ae.length - 1:Nat):Int))),(Zi (ab (raw.g i0).time 0 40)),(Zi (IntKind.i64.wrap ((cA x_ (ab (raw.g i0).time 0 40))+(ab (raw.g i0).value (IntKind.i64.wrap (0 -((aY (q.ae.g (ab (raw.g i0).aD 0 ((q.ae.length - 1:Nat):Int)).toNat) (ab (raw.g i0).time 0 40)).1))) (aY (q.ae.g (ab (raw.g i0).aD 0 ((q.ae.length - 1:Nat):Int)).toNat) (ab (raw.g i0).time 0 40)).1))))]) (tv _ _ (Af _ _ (CW _ _ (uN.a _ _ EP)))) k!)<|HH c59<|HH (show ∃o,JI.get XJ.nx=some o∧aR.same o (aR.cells [(Zi (ab (raw.g i0).aD 0 ((q.ae.length - 1:Nat):Int))),(Zi (ab (raw.g i0).time 0 40)),(Zi (IntKind.i64.wrap ((cA x_ (ab (raw.g i0).time 0 40))+(ab (raw.g i0).value (IntKind.i64.wrap (0 -((aY (q.ae.g (ab (raw.g i0).aD 0 ((q.ae.length - 1:Nat):Int)).toNat) (ab (raw.g i0).time 0 40)).1))) (aY (q.ae.g (ab (raw.g i0).aD 0 ((q.ae.length - 1:Nat):Int)).toNat) (ab (raw.g i0).time 0 40)).1))))] 43 false)=true from ⟨_,Un,by simp [aR.same,cM,AV.same]⟩)<|HH (show ∃o,XK.get XJ.nx=some o∧aR.same o (aR.cells [(Zi (ab (raw.g i0).aD 0 ((q.ae.length - 1:Nat):Int))),(Zi (ab (raw.g i0).time 0 40)),(Zi (IntKind.i64.wrap ((cA x_ (ab (raw.g i0).time 0 40))+(ab (raw.g i0).value (IntKind.i64.wrap (0 -((aY (q.ae.g (ab (raw.g i0).aD 0 ((q.ae.length - 1:Nat):Int)).toNat) (ab (raw.g i0).time 0 40)).1))) (aY (q.ae.g (ab (raw.g i0).aD 0 ((q.ae.length - 1:Nat):Int)).toNat) (ab (raw.g i0).time 0 40)).1))))] 43 false)=true from ⟨_,(tv _ _ Un),by simp [aR.same,cM,AV.same]⟩)<|HH (show nodup [NW.nx,XJ.nx]=true from (by simp [nodup];omega))<|CC<|VV u60<|CC<|ZZ) k!) o! _ k! (fun x=>iD tW gS lV fH raw bad q x_ cF cG cH dH vQ pH nt vR Jz JA JB JC JD ch qi uv kB eH (i0+1) (((([]:List az)++(aQ.take (bM raw i0 aQ ((aQ.length:Nat):Int).toNat ((aQ.length:Nat):Int)).toNat))++([(⟨(ab (raw.g i0).aD 0 ((q.ae.length - 1:Nat):Int)),(ab (raw.g i0).time 0 40),(IntKind.i64.wrap ((cA x_ (ab (raw.g i0).time 0 40))+(ab (raw.g i0).value (IntKind.i64.wrap (0 -((aY (q.ae.g (ab (raw.g i0).aD 0 ((q.ae.length - 1:Nat):Int)).toNat) (ab (raw.g i0).time 0 40)).1))) (aY (q.ae.g (ab (raw.g i0).aD 0 ((q.ae.length - 1:Nat):Int)).toNat) (ab (raw.g i0).time 0 40)).1)))⟩:az)]))++(aQ.drop (bM raw i0 aQ ((aQ.length:Nat):Int).toNat ((aQ.length:Nat):Int)).toNat)) z57 o! x XL Ur afs o! (ET _ _ (uN.a _ _ (oS _ _ o! (gC _ _ o! (jK _ _ da))))) (ET _ _ (uN.a _ _ (oS _ _ o! (gC _ _ o! (jK _ _ fb))))) (bk.le (h0:=h) PC o!) Us cX (by first | exact bk.O5 PC o! | exact bk.sK Ur PC o!) (by first | exact bk.O5 PC o! | exact bk.sK Ur PC o!))
   · have jk:=of_decide_eq_false f1
     exact dz.out aQ gY (by simp only[cg,f1,ak,ah]) (pk (d+3) _ _ hh _ hh (IU<|BB f1<|ZZ) k!) aL o! ⟨bB,da,fb,Aa,pI,cX,gM,gN⟩ k!
def b_ (q:ay) (x_:List Int) (bad:List Bool) (raw:List az):List az:=(cg raw q x_ bad raw.length 0 ([]:List az))
theorem PD {d:Nat} {h:aw} {tW fH:AV} (q:ay) (x_:List Int) (bad:List Bool) (Ut:Nat) (gS:Nat) (lV:Bool) (raw:List az) (gA:aA.ok h q) (KZ:gW h .i64 3 tW x_) (afw:h.get Ut=some (aR.cells (bs bad) 4 false)) (aji:bad.length=gS) (ajj:Ut<h.nx) (EU:aP h fH raw) (qV:raw.length≤12) (IN:q.ae.length≤8) (Gn:0<x_.length) (ah0:bad.length=q.ae.length) (ah1:aE q=0) (ch:Tidy h):∃z hk,dh (d+4) (.fn 18) [(AV.agg [(AV.str q.name),(Zi q.ao),(Zi q.ai),(Zi q.aI),(Zi q.aJ),(Zi q.bad),q.aB]),tW,(AV.slice Ut 0 gS gS lV),fH] h= .ret z hk∧Grow h hk∧aP hk z (b_ q x_ bad raw)∧bk h hk z (b_ q x_ bad raw):=by
 have aaA:=KZ.small
 have XM:=EU.small
 have jF:=gA.2.small
 obtain ⟨h1,ct,ck,jj,aW,cr⟩:=iX ch (aR.cells [(AV.str q.name),(Zi q.ao),(Zi q.ai),(Zi q.aI),(Zi q.aJ),(Zi q.bad),q.aB] 26 false)
 have bG:Has h h1:=cr
 obtain ⟨zo4,YE,h3,jn,ia,vD,xE,yZ,ah2,Uu,NZ,ah3,Qf,Qg⟩:=iD (d:=d) (h:=h) tW gS lV fH raw bad q x_ Ut h.nx KZ EU gA.1 gA.2 gA o! o! o! o! (by assumption) o! ch o! o! o! raw.length 0 ([]:List az) AV.aN o! (fun k_=>(((AV.agg [(AV.str q.name),(Zi q.ao),(Zi q.ai),(Zi q.aI),(Zi q.aJ),(Zi q.bad),q.aB])::tW::(AV.slice Ut 0 gS gS lV)::fH::(Pt h.nx)::AV.undef::AV.undef::AV.undef::AV.aN::AV.aN::(Zi 0)::iW 110):List AV).getD k_ AV.undef) h1 ck bG o! (cr _ _ afw) aW (.inl ⟨.inl rfl,rfl⟩) (fun y hy=>by cases hy) (Nat.zero_le _) (bD.nil _) (bD.nil _)
 have abX:aP h3 zo4 (cg raw q x_ bad raw.length 0 ([]:List az)):=bk.rows Uu o! NZ
 have af0:=abX.small
 have jo:Has h h3:=xE
 have e:b_ q x_ bad raw=(cg raw q x_ bad raw.length 0 ([]:List az)):=by simp only[b_,ak,ah]
 rw[e]
 have oz:=bk.le (h0:=h) Uu o!
 exact ⟨zo4,oq rfl (bh Try.func18 Pp rfl (.inr rfl) (pk (d+3) _ _ h _ h3 (NN ct (fun i=>(Pt i))<|CN 3<|LL jn<|CN 2<|ZZ) k!) k!) ch ⟨ia,jo,by omega⟩ (P:=fun hh=>aP hh zo4 (cg raw q x_ bad raw.length 0 ([]:List az))∧bk h hh zo4 (cg raw q x_ bad raw.length 0 ([]:List az))) ⟨bk.rows oz (by first | omega | decide) NZ,oz⟩ fun v=>⟨bk.Sk oz v,bk.IP oz v⟩⟩
end
end Go.Proofs.aG
