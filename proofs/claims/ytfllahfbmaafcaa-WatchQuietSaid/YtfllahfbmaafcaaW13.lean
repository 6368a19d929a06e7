import Derived.Test.YtfllahfbmaafcaaW0
import Derived.Test.YtfllahfbmaafcaaW1
import Derived.Test.YtfllahfbmaafcaaW12
import Derived.Test.YtfllahfbmaafcaaW10
import Derived.Test.YtfllahfbmaafcaaW11
import Derived.Test.YtfllahfbmaafcaaW2
namespace Go.Proofs.aG
open Go.Proofs Ab
noncomputable section
set_option maxRecDepth 100000
set_option maxHeartbeats 4000000
set_option linter.unusedVariables false
set_option linter.unusedSimpArgs false
theorem bI {p:Prop} (h:p:=by first | omega | assumption | exact XA (by assumption) | (have:=iK (by assumption);omega) | (rw[me];omega)):p:=h
theorem gT {p:Prop} (h:p:=by first | omega | (simp<;>omega)):p:=h
def rk:Code:=(Try.f6.body).getD .skip
theorem fk:Try.f6.body=some rk:=by kernel_rfl
def JO:Code:=(cu rk).getD 0 .skip
def JP:Code:=(cu rk).getD 1 .skip
def eA (q:ay) (begin:Int) (steps:List Int) (bits:Int) (raw:List az) (t:Int):Nat→Nat→List az→List az
 | 0,_,lJ=>lJ
 | eH+1,i0,lJ=>(bif (decide (((b_ q (bw q begin steps) (aX q bits) raw).g i0).time≤(ab t 0 40))) then eA q begin steps bits raw t eH (i0+1) (lJ++[((b_ q (bw q begin steps) (aX q bits) raw).g i0)]) else eA q begin steps bits raw t eH (i0+1) lJ)
theorem rl {d:Nat} {h:aw} (begin:Int) (period:Int) (t:Int) (q:ay) (DG:AV) (bits:Int) (pJ:Bool) (z22:AV) (steps:List Int) (raw:List az) (cF:Nat) (cG:Nat) (cH:gW h .i64 3 DG (bw q begin steps)) (dH:aP h z22 (b_ q (bw q begin steps) (aX q bits) raw)) (vQ:q.name.length<2^60) (pH:aP h q.aB q.ae) (nt:aA.ok h q) (vR:(b_ q (bw q begin steps) (aX q bits) raw).length≤12) (ch:Tidy h) (qi:cF<h.nx) (uv:cG<h.nx) (kB:cG≠cF):∀(k_ i_:Nat) (lJ:List az) (tx:AV) (_:i_+k_=((b_ q (bw q begin steps) (aX q bits) raw).length)) (x:Nat→AV) (hh:aw) (aL:Tidy hh) (bB:Has h hh) (iT:h.nx≤hh.nx) (da:hh.get cF=some (aR.cells [(AV.str q.name),(Zi q.ao),(Zi q.ai),(Zi q.aI),(Zi q.aJ),(Zi q.bad),q.aB] 26 false)) (fb:hh.get cG=some (aR.cells (bs (aX q bits)) 4 false)) (vS:bk h hh tx lJ) (rm:∀y∈lJ,aA.ok hh y) (UG:lJ.length≤i_) (iM:bD tx cF) (iN:bD tx cG),dz (σ:=List az) (ζ:=AV) (dh (d+15)) JO ⟨((x 0)::(Zi begin)::rx x 2 3 ((Zi (ab period 1 10))::(Zi (ab t 0 40))::(Pt cF)::rx x 8 7 ((Zi (bN q (ab period 1 10) (ab t 0 40)).1)::(x 16)::DG::(AV.slice cG 0 (aX q bits).length (aX q bits).length pJ)::tx::z22::(Zn i_)::rx x 22 165 []))),hh,[],.no⟩ (.exit 0) hh (fun r z y=>((y 0)::(Zi begin)::rx y 2 3 ((Zi (ab period 1 10))::(Zi (ab t 0 40))::(Pt cF)::rx y 8 7 ((Zi (bN q (ab period 1 10) (ab t 0 40)).1)::(y 16)::DG::(AV.slice cG 0 (aX q bits).length (aX q bits).length pJ)::z::z22::rx y 21 166 [])))) (fun r z hk=>Has h hk∧hk.get cF=some (aR.cells [(AV.str q.name),(Zi q.ao),(Zi q.ai),(Zi q.aI),(Zi q.aJ),(Zi q.bad),q.aB] 26 false)∧hk.get cG=some (aR.cells (bs (aX q bits)) 4 false)∧bk h hk z r∧(∀y∈r,aA.ok hk y)∧r.length≤((b_ q (bw q begin steps) (aX q bits) raw).length)∧bD z cF∧bD z cG) (eA q begin steps bits raw t k_ i_ lJ)
 | 0,i0,lJ,tx,mR,x,hh,aL,bB,iT,da,fb,vS,rm,UG,iM,iN=>by
   have kz:=cH.small
   have ow:=dH.small
   have Mc:=pH.small
   have vx:=aL _ _ da
   have Ly:=aL _ _ fb
   have XP:aP hh tx lJ:=bk.rows vS o! rm
   have rA:dN (some (.slice 43)) (some z22)=some (Zn (b_ q (bw q begin steps) (aX q bits) raw).length):=dH.len
   have q2:(decide (((i0:Nat):Int)<(((b_ q (bw q begin steps) (aX q bits) raw).length:Nat):Int)))=false:=d!
   exact dz.out lJ tx rfl (pk (d+15) _ _ hh _ hh (CN 2<|VV rA<|VV (bU 3 false false .i64 ((i0:Nat):Int) (((b_ q (bw q begin steps) (aX q bits) raw).length:Nat):Int))<|BB q2<|ZZ) k!) aL o! ⟨bB,da,fb,vS,rm,gT,iM,iN⟩ k!
 | eH+1,i0,lJ,tx,mR,x,hh,aL,bB,iT,da,fb,vS,rm,UG,iM,iN=>by
   have kz:=cH.small
   have ow:=dH.small
   have Mc:=pH.small
   have vx:=aL _ _ da
   have Ly:=aL _ _ fb
   have XP:aP hh tx lJ:=bk.rows vS o! rm
   have rA:dN (some (.slice 43)) (some z22)=some (Zn (b_ q (bw q begin steps) (aX q bits) raw).length):=dH.len
   have q2:(decide (((i0:Nat):Int)<(((b_ q (bw q begin steps) (aX q bits) raw).length:Nat):Int)))=true:=d!
   obtain ⟨p4,q5,rK⟩:=dH.elem (i:=i0) o!
   have w_:dy env (some (.slice 43)) (some z22) (some (Zn i0))=some (AV.ptr p4 q5):=rK
   have Gm:bE env hh 3 (AV.ptr p4 (q5+1))=some (Zi ((b_ q (bw q begin steps) (aX q bits) raw).g i0).time):=(dH.has bB).part (t:=3) (j:=1) o! rK k! rfl
   have Ep:=fun {al ps} (k:Pk al _ ps)=>(CN 2<|VV rA<|VV (bU 3 false false .i64 ((i0:Nat):Int) (((b_ q (bw q begin steps) (aX q bits) raw).length:Nat):Int))<|BB q2<|CN 2<|VV w_<|CC<|MM Gm<|CC<|VV (qT 3 false false .i64 ((b_ q (bw q begin steps) (aX q bits) raw).g i0).time (ab t 0 40))<|k:Pk _ [] ps)
   rcases Bool.eq_false_or_eq_true (decide (((b_ q (bw q begin steps) (aX q bits) raw).g i0).time≤(ab t 0 40))) with f1 | f1
   · have jk:=of_decide_eq_true f1
     obtain ⟨p9,tj,afF⟩:=dH.elem (i:=i0) o!
     have ix8:dy env (some (.slice 43)) (some z22) (some (Zn i0))=some (AV.ptr p9 tj):=afF
     have aia:bE env hh 43 (AV.ptr p9 tj)=some (AV.agg [(Zi ((b_ q (bw q begin steps) (aX q bits) raw).g i0).aD),(Zi ((b_ q (bw q begin steps) (aX q bits) raw).g i0).time),(Zi ((b_ q (bw q begin steps) (aX q bits) raw).g i0).value)]):=(dH.has bB).load o! afF
     obtain ⟨J3,Uw,CO,afA,N0,uO⟩:=iX aL (aR.cells [(Zi ((b_ q (bw q begin steps) (aX q bits) raw).g i0).aD),(Zi ((b_ q (bw q begin steps) (aX q bits) raw).g i0).time),(Zi ((b_ q (bw q begin steps) (aX q bits) raw).g i0).value)] 43 false)
     have Jq:Has h J3:=bB.trans uO
     have xY:Has hh J3:=uO
     obtain ⟨z14,Jl,Mf,Jm,Zg,N1,abZ,UH,UI⟩:=bk.Ds (tys:= #[27,27]) (l:=lJ) (m:=[((b_ q (bw q begin steps) (aX q bits) raw).g i0)]) (x:=(AV.slice hh.nx 0 1 1 false)) CO ch Jq o! (bk.has vS xY) rfl (jh (x:=((b_ q (bw q begin steps) (aX q bits) raw).g i0)) N0) (by simp [aA.c,az.c,AV.scalar]) gT rfl rfl k! k! (bytes:=24) k! (z0:=(AV.agg [(Zi 0),(Zi 0),(Zi 0)])) k! rfl (by decide)
     have Cz:Has h Jl:=N1
     have ab5:∀y∈(lJ++[((b_ q (bw q begin steps) (aX q bits) raw).g i0)]),aA.ok Jl y:=dE (D:=az) (kZ (dE (D:=az) (h':=J3) rm) (ok_one trivial))
     have u16:=fU 3 false true i0 1 o!
     exact dz.round (by simp only[eA,f1,ak,ah]) (pk (d+15) _ _ hh _ Jl (Ep<|BB f1<|CN 3<|VV ix8<|MM aia<|NN Uw (fun i=>(AV.slice i 0 1 1 false))<|PP (show bR env J3 #[27,27] tx (AV.slice hh.nx 0 1 1 false)=some (z14,Jl) from Mf)<|CN 2<|VV u16<|CC<|ZZ) k!) o! _ k! (fun x=>rl begin period t q DG bits pJ z22 steps raw cF cG cH dH vQ pH nt vR ch qi uv kB eH (i0+1) (lJ++[((b_ q (bw q begin steps) (aX q bits) raw).g i0)]) z14 o! x Jl Jm Cz o! (UH _ _ iM (uO _ _ da)) (UH _ _ iN (uO _ _ fb)) abZ ab5 gT (UI _ (CO _ _ (uO _ _ da)) iM) (UI _ (CO _ _ (uO _ _ fb)) iN))
   · have jk:=of_decide_eq_false f1
     have u8:=fU 3 false true i0 1 o!
     exact dz.round (by simp only[eA,f1,ak,ah]) (pk (d+15) _ _ hh _ hh (Ep<|BC f1<|VV u8<|CC<|ZZ) k!) o! _ k! (fun x=>rl begin period t q DG bits pJ z22 steps raw cF cG cH dH vQ pH nt vR ch qi uv kB eH (i0+1) lJ tx o! x hh aL bB o! da fb vS rm gT iM iN)
def eP (t:Int) (begin:Int) (period:Int) (q:ay) (steps:List Int) (bits:Int):Nat→Nat→List az→Option (List az)
 | 0,_,lK=>some lK
 | bC+1,i1,lK=>(bif ((aX q bits).g i1) then eP t begin period q steps bits bC (i1+1) lK else (bif (decide ((cA (bw q begin steps) (imax (IntKind.i64.wrap ((ab t 0 40) -(ab (IntKind.i64.wrap (begin+((i1:Nat):Int))) 0 (ab period 1 10)))) 0))<(-1000000000))) then none else (bif (decide (1000000000<(cA (bw q begin steps) (imax (IntKind.i64.wrap ((ab t 0 40) -(ab (IntKind.i64.wrap (begin+((i1:Nat):Int))) 0 (ab period 1 10)))) 0)))) then none else eP t begin period q steps bits bC (i1+1) (lK++[(⟨((i1:Nat):Int),(imax (IntKind.i64.wrap ((ab t 0 40) -(ab (IntKind.i64.wrap (begin+((i1:Nat):Int))) 0 (ab period 1 10)))) 0),(cA (bw q begin steps) (imax (IntKind.i64.wrap ((ab t 0 40) -(ab (IntKind.i64.wrap (begin+((i1:Nat):Int))) 0 (ab period 1 10)))) 0))⟩:az)]))))
theorem nB {d:Nat} {h:aw} (begin:Int) (period:Int) (t:Int) (q:ay) (DG:AV) (bits:Int) (pJ:Bool) (steps:List Int) (dc:Nat) (dL:Nat) (ov:gW h .i64 3 DG (bw q begin steps)) (mY:q.name.length<2^60) (xN:aP h q.aB q.ae) (yS:aA.ok h q) (DD:q.ae.length≤8) (Jn:1≤ab period 1 10∧ab period 1 10≤10) (Pq:0<(bw q begin steps).length) (Pr:(aX q bits).length=q.ae.length) (ch:Tidy h) (Dx:dc<h.nx) (LA:dL<h.nx) (zc:dL≠dc):∀(k_ i_:Nat) (lK:List az) (tz:AV) (_:i_+k_=q.ae.length) (x:Nat→AV) (hh:aw) (aL:Tidy hh) (bB:Has h hh) (iT:h.nx≤hh.nx) (dC:hh.get dc=some (aR.cells [(AV.str q.name),(Zi q.ao),(Zi q.ai),(Zi q.aI),(Zi q.aJ),(Zi q.bad),q.aB] 26 false)) (f_:hh.get dL=some (aR.cells (bs (aX q bits)) 4 false)) (vT:bk h hh tz lK) (rn:∀y∈lK,aA.ok hh y) (UJ:lK.length≤1*i_+12) (iO:bD tz dc) (iP:bD tz dL),mG (σ:=List az) (ζ:=AV) (dh (d+15)) JP ⟨((x 0)::(Zi begin)::rx x 2 3 ((Zi (ab period 1 10))::(Zi (ab t 0 40))::(Pt dc)::rx x 8 7 ((Zi (bN q (ab period 1 10) (ab t 0 40)).1)::(x 16)::DG::(AV.slice dL 0 (aX q bits).length (aX q bits).length pJ)::tz::(x 20)::(x 21)::(Zn i_)::rx x 23 164 []))),hh,[],.no⟩ (.exit 2) hh (fun r z y=>((y 0)::(Zi begin)::rx y 2 3 ((Zi (ab period 1 10))::(Zi (ab t 0 40))::(Pt dc)::rx y 8 7 ((Zi (bN q (ab period 1 10) (ab t 0 40)).1)::(y 16)::DG::(AV.slice dL 0 (aX q bits).length (aX q bits).length pJ)::z::rx y 20 167 [])))) (fun r z hk=>Has h hk∧hk.get dc=some (aR.cells [(AV.str q.name),(Zi q.ao),(Zi q.ai),(Zi q.aI),(Zi q.aJ),(Zi q.bad),q.aB] 26 false)∧hk.get dL=some (aR.cells (bs (aX q bits)) 4 false)∧bk h hk z r∧(∀y∈r,aA.ok hk y)∧r.length≤1*q.ae.length+12∧bD z dc∧bD z dL) (fun y=>((y 0)::(Zi begin)::rx y 2 3 ((Zi (ab period 1 10))::(Zi (ab t 0 40))::(Pt dc)::rx y 8 6 ((AV.bool true)::(Zi (bN q (ab period 1 10) (ab t 0 40)).1)::(y 16)::DG::(AV.slice dL 0 (aX q bits).length (aX q bits).length pJ)::rx y 19 168 [])))) (fun hk=>Has h hk) (eP t begin period q steps bits k_ i_ lK)
 | 0,i1,lK,tz,mR,x,hh,aL,bB,iT,dC,f_,vT,rn,UJ,iO,iP=>by
   have vP:=ov.small
   have LK:=xN.small
   have yT:=aL _ _ dC
   have GK:=aL _ _ f_
   have XQ:aP hh tz lK:=bk.rows vT o! rn
   have rA:dN (some (.slice 45)) (some q.aB)=some (Zn q.ae.length):=xN.len
   have q2:(decide (((i1:Nat):Int)<((q.ae.length:Nat):Int)))=false:=d!
   exact mG.out lK tz rfl (pk (d+15) _ _ hh _ hh (CN 2<|MM (aK 24 6 q.aB dC k!)<|VV rA<|VV (bU 3 false false .i64 ((i1:Nat):Int) ((q.ae.length:Nat):Int))<|BB q2<|ZZ) k!) aL o! ⟨bB,dC,f_,vT,rn,gT,iO,iP⟩ k!
 | bC+1,i1,lK,tz,mR,x,hh,aL,bB,iT,dC,f_,vT,rn,UJ,iO,iP=>by
   have vP:=ov.small
   have LK:=xN.small
   have yT:=aL _ _ dC
   have GK:=aL _ _ f_
   have XQ:aP hh tz lK:=bk.rows vT o! rn
   have rA:dN (some (.slice 45)) (some q.aB)=some (Zn q.ae.length):=xN.len
   have q2:(decide (((i1:Nat):Int)<((q.ae.length:Nat):Int)))=true:=d!
   have w_:dy env (some (.slice 4)) (some (AV.slice dL 0 (aX q bits).length (aX q bits).length pJ)) (some (Zn i1))=some (AV.ptr dL i1):=BW k! (show i1<((aX q bits).length) by omega) o!
   have ld4:bE env hh 4 (AV.ptr dL i1)=some (AV.bool ((aX q bits).g i1)):=Nl k! f_ l!
   have Hk:=fun {al ps} (k:Pk al _ ps)=>(CN 2<|MM (aK 24 6 q.aB dC k!)<|VV rA<|VV (bU 3 false false .i64 ((i1:Nat):Int) ((q.ae.length:Nat):Int))<|BB q2<|CN 2<|VV w_<|MM ld4<|k:Pk _ [] ps)
   rcases Bool.eq_false_or_eq_true ((aX q bits).g i1) with f1 | f1
   · have u6:=fU 3 false true i1 1 o!
     exact mG.round (by simp only[eP,f1,ak,ah]) (pk (d+15) _ _ hh _ hh (Hk<|BC f1<|VV u6<|CC<|ZZ) k!) o! _ k! (fun x=>nB begin period t q DG bits pJ steps dc dL ov mY xN yS DD Jn Pq Pr ch Dx LA zc bC (i1+1) lK tz o! x hh aL bB o! dC f_ vT rn gT iO iP)
   · have ajo:=cW (IntKind.i64.wrap (begin+((i1:Nat):Int))) 0 (ab period 1 10) bI bI bI
     have k6:=iz (d:=d+14) (IntKind.i64.wrap (begin+((i1:Nat):Int))) 0 (ab period 1 10) bI bI bI aL
     have k7:=Gl (d:=d+14) (bw q begin steps) (imax (IntKind.i64.wrap ((ab t 0 40) -(ab (IntKind.i64.wrap (begin+((i1:Nat):Int))) 0 (ab period 1 10)))) 0) (ov.has bB) bI bI aL
     have IS:=fun {al ps} (k:Pk al _ ps)=>(Hk<|BB f1<|CN 5<|EE k6<|CN 5<|EE k7<|CN 2<|VV (bU 3 false true .i64 (cA (bw q begin steps) (imax (IntKind.i64.wrap ((ab t 0 40) -(ab (IntKind.i64.wrap (begin+((i1:Nat):Int))) 0 (ab period 1 10)))) 0)) (-1000000000))<|CC<|k:Pk _ [] ps)
     rcases Bool.eq_false_or_eq_true (decide ((cA (bw q begin steps) (imax (IntKind.i64.wrap ((ab t 0 40) -(ab (IntKind.i64.wrap (begin+((i1:Nat):Int))) 0 (ab period 1 10)))) 0))<(-1000000000))) with f2 | f2
     · have ou:=of_decide_eq_true f2
       have k9:=ny (d:=d+14) (h:=hh)
       exact mG.ret (by simp only[eP,f1,f2,ak,ah]) (pk (d+15) _ _ hh _ hh (IS<|BB f2<|BV f2 (ot true f2)<|TT<|EE k9<|CC<|ZZ) k!) aL o! bB k!
     · have ou:=of_decide_eq_false f2
       have IT:=fun {al ps} (k:Pk al _ ps)=>(IS<|BC f2<|BV f2 (b9 3 false true .i64 (cA (bw q begin steps) (imax (IntKind.i64.wrap ((ab t 0 40) -(ab (IntKind.i64.wrap (begin+((i1:Nat):Int))) 0 (ab period 1 10)))) 0)) 1000000000)<|VV (a_ (a:=some (AV.bool true)) (b:=some (AV.bool (decide (1000000000<(cA (bw q begin steps) (imax (IntKind.i64.wrap ((ab t 0 40) -(ab (IntKind.i64.wrap (begin+((i1:Nat):Int))) 0 (ab period 1 10)))) 0)))))) f2)<|k:Pk _ [] ps)
       rcases Bool.eq_false_or_eq_true (decide (1000000000<(cA (bw q begin steps) (imax (IntKind.i64.wrap ((ab t 0 40) -(ab (IntKind.i64.wrap (begin+((i1:Nat):Int))) 0 (ab period 1 10)))) 0)))) with f3 | f3
       · have jl:=of_decide_eq_true f3
         have Qa:=ny (d:=d+14) (h:=hh)
         exact mG.ret (by simp only[eP,f1,f2,f3,ak,ah]) (pk (d+15) _ _ hh _ hh (IT<|BB f3<|EE Qa<|CC<|ZZ) k!) aL o! bB k!
       · have jl:=of_decide_eq_false f3
         obtain ⟨pM,Jf,j9,YM,Cq,eS⟩:=iX aL (aR.cells [(Zn i1),(Zi (imax (IntKind.i64.wrap ((ab t 0 40) -(ab (IntKind.i64.wrap (begin+((i1:Nat):Int))) 0 (ab period 1 10)))) 0)),(Zi (cA (bw q begin steps) (imax (IntKind.i64.wrap ((ab t 0 40) -(ab (IntKind.i64.wrap (begin+((i1:Nat):Int))) 0 (ab period 1 10)))) 0)))] 43 false)
         have kG:Has h pM:=bB.trans eS
         have te:Has hh pM:=eS
         obtain ⟨z12,zb,ab6,xK,ajp,afG,aib,UK,UL⟩:=bk.Ds (tys:= #[27,27]) (l:=lK) (m:=[(⟨((i1:Nat):Int),(imax (IntKind.i64.wrap ((ab t 0 40) -(ab (IntKind.i64.wrap (begin+((i1:Nat):Int))) 0 (ab period 1 10)))) 0),(cA (bw q begin steps) (imax (IntKind.i64.wrap ((ab t 0 40) -(ab (IntKind.i64.wrap (begin+((i1:Nat):Int))) 0 (ab period 1 10)))) 0))⟩:az)]) (x:=(AV.slice hh.nx 0 1 1 false)) j9 ch kG o! (bk.has vT te) rfl (jh (x:=(⟨((i1:Nat):Int),(imax (IntKind.i64.wrap ((ab t 0 40) -(ab (IntKind.i64.wrap (begin+((i1:Nat):Int))) 0 (ab period 1 10)))) 0),(cA (bw q begin steps) (imax (IntKind.i64.wrap ((ab t 0 40) -(ab (IntKind.i64.wrap (begin+((i1:Nat):Int))) 0 (ab period 1 10)))) 0))⟩:az)) Cq) (by simp [aA.c,az.c,AV.scalar]) gT rfl rfl k! k! (bytes:=24) k! (z0:=(AV.agg [(Zi 0),(Zi 0),(Zi 0)])) k! rfl (by decide)
         have Cr:Has h zb:=afG
         have ab7:∀y∈(lK++[(⟨((i1:Nat):Int),(imax (IntKind.i64.wrap ((ab t 0 40) -(ab (IntKind.i64.wrap (begin+((i1:Nat):Int))) 0 (ab period 1 10)))) 0),(cA (bw q begin steps) (imax (IntKind.i64.wrap ((ab t 0 40) -(ab (IntKind.i64.wrap (begin+((i1:Nat):Int))) 0 (ab period 1 10)))) 0))⟩:az)]),aA.ok zb y:=dE (D:=az) (kZ (dE (D:=az) (h':=pM) rn) (ok_one trivial))
         have u14:=fU 3 false true i1 1 o!
         exact mG.round (by simp only[eP,f1,f2,f3,ak,ah]) (pk (d+15) _ _ hh _ zb (IT<|BB f3<|CN 5<|NN Jf (fun i=>(AV.slice i 0 1 1 false))<|PP (show bR env pM #[27,27] tz (AV.slice hh.nx 0 1 1 false)=some (z12,zb) from ab6)<|CN 2<|VV u14<|CC<|ZZ) k!) o! _ k! (fun x=>nB begin period t q DG bits pJ steps dc dL ov mY xN yS DD Jn Pq Pr ch Dx LA zc bC (i1+1) (lK++[(⟨((i1:Nat):Int),(imax (IntKind.i64.wrap ((ab t 0 40) -(ab (IntKind.i64.wrap (begin+((i1:Nat):Int))) 0 (ab period 1 10)))) 0),(cA (bw q begin steps) (imax (IntKind.i64.wrap ((ab t 0 40) -(ab (IntKind.i64.wrap (begin+((i1:Nat):Int))) 0 (ab period 1 10)))) 0))⟩:az)]) z12 o! x zb xK Cr o! (UK _ _ iO (eS _ _ dC)) (UK _ _ iP (eS _ _ f_)) aib ab7 gT (UL _ (j9 _ _ (eS _ _ dC)) iO) (UL _ (j9 _ _ (eS _ _ f_)) iP))
def dk (q:ay) (begin:Int) (steps:List Int) (raw:List az) (bits:Int) (period:Int) (t:Int):Bool:=(bif (eV q ([]:List az)) then true else (bif (decide (6<((q.ae.length:Nat):Int))) then true else (bif (decide (40<((steps.length:Nat):Int))) then true else (bif (decide (12<((raw.length:Nat):Int))) then true else (bif (!decide ((aE q)=0)) then true else (bif (!decide ((bN q (ab period 1 10) (ab t 0 40)).2=0)) then (bif (decide ((bN q (ab period 1 10) (ab t 0 40)).2=9)) then (bif (decide (((q.ae.length:Nat):Int)≤(IntKind.i64.wrap (2*q.bad)))) then true else false) else false) else (match (eP t begin period q steps bits q.ae.length 0 (eA q begin steps bits raw t (b_ q (bw q begin steps) (aX q bits) raw).length 0 ([]:List az))) with | none=>true | some w1=>(bif (!decide ((aM q w1 (ab t 0 40)).2=0)) then false else (bif (decide ((((aM q w1 (ab t 0 40)).1.length:Nat):Int)=0)) then false else (bif (decide (((aM q w1 (ab t 0 40)).1.g ((aM q w1 (ab t 0 40)).1.length - 1)).aF≤(IntKind.i64.wrap ((cA (bw q begin steps) (ab t 0 40))+((bN q (ab period 1 10) (ab t 0 40)).1))))) then (bif (decide ((IntKind.i64.wrap ((cA (bw q begin steps) (ab t 0 40)) -((bN q (ab period 1 10) (ab t 0 40)).1)))≤(((aM q w1 (ab t 0 40)).1.g 0).aU))) then true else false) else false))))))))))
theorem PI {d:Nat} {h:aw} {hX fH:AV} (q:ay) (begin:Int) (steps:List Int) (raw:List az) (bits:Int) (period:Int) (t:Int) (gA:aA.ok h q) (ua:gW h .i64 3 hX steps) (EU:aP h fH raw) (ch:Tidy h):dh (d+16) (.fn 6) [(AV.agg [(AV.str q.name),(Zi q.ao),(Zi q.ai),(Zi q.aI),(Zi q.aJ),(Zi q.bad),q.aB]),(Zi begin),hX,fH,(Zi bits),(Zi period),(Zi t)] h= .ret (AV.bool (dk q begin steps raw bits period t)) h:=by
 have PE:=ua.small
 have XM:=EU.small
 have jF:=gA.2.small
 obtain ⟨h1,ct,ck,jj,aW,cr⟩:=iX ch (aR.cells [(AV.str q.name),(Zi q.ao),(Zi q.ai),(Zi q.aI),(Zi q.aJ),(Zi q.bad),q.aB] 26 false)
 have bG:Has h h1:=cr
 have k2:=TV (d:=d+14) q ([]:List az) (aA.mono bG gA) aP.nil ck
 have IU:=fun {al ps} (k:Pk al _ ps)=>(NN ct (fun i=>(Pt i))<|CC<|MM (aK 26 0 (AV.agg [(AV.str q.name),(Zi q.ao),(Zi q.ai),(Zi q.aI),(Zi q.aJ),(Zi q.bad),q.aB]) aW k!)<|EE k2<|CC<|k:Pk _ [] ps)
 rcases Bool.eq_false_or_eq_true (eV q ([]:List az)) with f0 | f0
 · have k4:=ny (d:=d+14) (h:=h1)
   have e:dk q begin steps raw bits period t=true:=by simp only[dk,f0,ak,ah]
   rw[e]
   exact aC rfl (bh Try.func6 fk rfl (.inr rfl) (pk (d+15) _ _ h _ h1 (IU<|BB f0<|BB f0<|BB f0<|BV f0 (ot true f0)<|CC<|TT<|TT<|TT<|CN 2<|TT<|TT<|TT<|CN 2<|TT<|TT<|TT<|CC<|TT<|EE k4<|CC<|ZZ) k!) k!) bG rfl
 · have ln4:dN (some (.slice 45)) (some q.aB)=some (Zn q.ae.length):=gA.2.len
   have yh:=fun {al ps} (k:Pk al _ ps)=>(IU<|BC f0<|BM f0 (aK 24 6 q.aB aW k!)<|BV f0 ln4<|BV f0 (b9 3 false true .i64 ((q.ae.length:Nat):Int) 6)<|k:Pk _ [] ps)
   rcases Bool.eq_false_or_eq_true (decide (6<((q.ae.length:Nat):Int))) with f1 | f1
   · have jk:=of_decide_eq_true f1
     have k6:=ny (d:=d+14) (h:=h1)
     have e:dk q begin steps raw bits period t=true:=by simp only[dk,f0,f1,ak,ah]
     rw[e]
     exact aC rfl (bh Try.func6 fk rfl (.inr rfl) (pk (d+15) _ _ h _ h1 (yh<|VV (a_ (a:=some (AV.bool true)) (b:=some (AV.bool (decide (6<((q.ae.length:Nat):Int))))) f0)<|CC<|BB f1<|BB f1<|BV f1 (ot true f1)<|CC<|TT<|TT<|TT<|CN 2<|TT<|TT<|TT<|CC<|TT<|EE k6<|CC<|ZZ) k!) k!) bG rfl
   · have jk:=of_decide_eq_false f1
     have NF:dN (some (.slice 3)) (some hX)=some (Zn steps.length):=ua.len
     rcases Bool.eq_false_or_eq_true (decide (40<((steps.length:Nat):Int))) with f2 | f2
     · have ou:=of_decide_eq_true f2
       have k8:=ny (d:=d+14) (h:=h1)
       have e:dk q begin steps raw bits period t=true:=by simp only[dk,f0,f1,f2,ak,ah]
       rw[e]
       exact aC rfl (bh Try.func6 fk rfl (.inr rfl) (pk (d+15) _ _ h _ h1 (yh<|VV (a_ (a:=some (AV.bool true)) (b:=some (AV.bool (decide (6<((q.ae.length:Nat):Int))))) f0)<|CC<|BC f1<|BV f1 NF<|BV f1 (b9 3 false true .i64 ((steps.length:Nat):Int) 40)<|VV (a_ (a:=some (AV.bool true)) (b:=some (AV.bool (decide (40<((steps.length:Nat):Int))))) f1)<|CC<|BB f2<|BB f2<|BV f2 (ot true f2)<|CC<|TT<|TT<|TT<|CC<|TT<|EE k8<|CC<|ZZ) k!) k!) bG rfl
     · have ou:=of_decide_eq_false f2
       have LY:dN (some (.slice 43)) (some fH)=some (Zn raw.length):=EU.len
       rcases Bool.eq_false_or_eq_true (decide (12<((raw.length:Nat):Int))) with f3 | f3
       · have jl:=of_decide_eq_true f3
         have Qa:=ny (d:=d+14) (h:=h1)
         have e:dk q begin steps raw bits period t=true:=by simp only[dk,f0,f1,f2,f3,ak,ah]
         rw[e]
         exact aC rfl (bh Try.func6 fk rfl (.inr rfl) (pk (d+15) _ _ h _ h1 (yh<|VV (a_ (a:=some (AV.bool true)) (b:=some (AV.bool (decide (6<((q.ae.length:Nat):Int))))) f0)<|CC<|BC f1<|BV f1 NF<|BV f1 (b9 3 false true .i64 ((steps.length:Nat):Int) 40)<|VV (a_ (a:=some (AV.bool true)) (b:=some (AV.bool (decide (40<((steps.length:Nat):Int))))) f1)<|CC<|BC f2<|BV f2 LY<|BV f2 (b9 3 false true .i64 ((raw.length:Nat):Int) 12)<|VV (a_ (a:=some (AV.bool true)) (b:=some (AV.bool (decide (12<((raw.length:Nat):Int))))) f2)<|CC<|BB f3<|BB f3<|BV f3 (ot true f3)<|TT<|EE Qa<|CC<|ZZ) k!) k!) bG rfl
       · have jl:=of_decide_eq_false f3
         have Qa:=xf (d:=d+12) q (aA.mono bG gA) ck
         rcases Bool.eq_false_or_eq_true (!decide ((aE q)=0)) with f4 | f4
         · have jE:=Dp f4
           have k12:=ny (d:=d+14) (h:=h1)
           have e:dk q begin steps raw bits period t=true:=by simp only[dk,f0,f1,f2,f3,f4,ak,ah]
           rw[e]
           exact aC rfl (bh Try.func6 fk rfl (.inr rfl) (pk (d+15) _ _ h _ h1 (yh<|VV (a_ (a:=some (AV.bool true)) (b:=some (AV.bool (decide (6<((q.ae.length:Nat):Int))))) f0)<|CC<|BC f1<|BV f1 NF<|BV f1 (b9 3 false true .i64 ((steps.length:Nat):Int) 40)<|VV (a_ (a:=some (AV.bool true)) (b:=some (AV.bool (decide (40<((steps.length:Nat):Int))))) f1)<|CC<|BC f2<|BV f2 LY<|BV f2 (b9 3 false true .i64 ((raw.length:Nat):Int) 12)<|VV (a_ (a:=some (AV.bool true)) (b:=some (AV.bool (decide (12<((raw.length:Nat):Int))))) f2)<|CC<|BM f3 (aK 26 0 (AV.agg [(AV.str q.name),(Zi q.ao),(Zi q.ai),(Zi q.aI),(Zi q.aJ),(Zi q.bad),q.aB]) aW k!)<|BB f3<|EE Qa<|BV f3 (j6 31 false true .i64 (aE q) 0)<|VV (a_ (a:=some (AV.bool true)) (b:=some (AV.bool (!decide ((aE q)=0)))) f3)<|BB f4<|EE k12<|CC<|ZZ) k!) k!) bG rfl
         · have jE:=Dq f4
           have af2:=iK jE
           have aic:=cW period 1 10 bI bI bI
           have k12:=iz (d:=d+14) period 1 10 bI bI bI ck
           have aid:=cW t 0 40 bI bI bI
           have Vc:=iz (d:=d+14) t 0 40 bI bI bI ck
           have k14:=Mm (d:=d+5) q (ab period 1 10) (ab t 0 40) (aA.mono bG gA) ck
           rcases Bool.eq_false_or_eq_true (!decide ((bN q (ab period 1 10) (ab t 0 40)).2=0)) with f5 | f5
           · have vu:=Dp f5
             have SL:=fun {al ps} (k:Pk al _ ps)=>(yh<|VV (a_ (a:=some (AV.bool true)) (b:=some (AV.bool (decide (6<((q.ae.length:Nat):Int))))) f0)<|CC<|BC f1<|BV f1 NF<|BV f1 (b9 3 false true .i64 ((steps.length:Nat):Int) 40)<|VV (a_ (a:=some (AV.bool true)) (b:=some (AV.bool (decide (40<((steps.length:Nat):Int))))) f1)<|CC<|BC f2<|BV f2 LY<|BV f2 (b9 3 false true .i64 ((raw.length:Nat):Int) 12)<|VV (a_ (a:=some (AV.bool true)) (b:=some (AV.bool (decide (12<((raw.length:Nat):Int))))) f2)<|CC<|BM f3 (aK 26 0 (AV.agg [(AV.str q.name),(Zi q.ao),(Zi q.ai),(Zi q.aI),(Zi q.aJ),(Zi q.bad),q.aB]) aW k!)<|BB f3<|EE Qa<|BV f3 (j6 31 false true .i64 (aE q) 0)<|VV (a_ (a:=some (AV.bool true)) (b:=some (AV.bool (!decide ((aE q)=0)))) f3)<|BC f4<|EE k12<|CN 2<|EE Vc<|CC<|MM (aK 26 0 (AV.agg [(AV.str q.name),(Zi q.ao),(Zi q.ai),(Zi q.aI),(Zi q.aJ),(Zi q.bad),q.aB]) aW k!)<|CN 2<|EE k14<|CN 6<|VV (j6 31 false true .i64 (bN q (ab period 1 10) (ab t 0 40)).2 0)<|BC f5<|VV (lH 31 false true .i64 (bN q (ab period 1 10) (ab t 0 40)).2 9)<|CC<|k:Pk _ [] ps)
             rcases Bool.eq_false_or_eq_true (decide ((bN q (ab period 1 10) (ab t 0 40)).2=9)) with f6 | f6
             · have Su:=of_decide_eq_true f6
               have WY:dN (some (.slice 45)) (some q.aB)=some (Zn q.ae.length):=gA.2.len
               have SM:=fun {al ps} (k:Pk al _ ps)=>(SL<|BC f6<|BM f6 (aK 24 6 q.aB aW k!)<|BV f6 WY<|BC f6<|BM f6 (aK 3 5 (Zi q.bad) aW k!)<|BC f6<|BV f6 (qT 3 false false .i64 ((q.ae.length:Nat):Int) (IntKind.i64.wrap (2*q.bad)))<|VV (oV (decide (((q.ae.length:Nat):Int)≤(IntKind.i64.wrap (2*q.bad)))) false f6)<|CC<|k:Pk _ [] ps)
               rcases Bool.eq_false_or_eq_true (decide (((q.ae.length:Nat):Int)≤(IntKind.i64.wrap (2*q.bad)))) with f7 | f7
               · have La:=of_decide_eq_true f7
                 have k19:=ny (d:=d+14) (h:=h1)
                 have e:dk q begin steps raw bits period t=true:=by simp only[dk,f0,f1,f2,f3,f4,f5,f6,f7,ak,ah]
                 rw[e]
                 exact aC rfl (bh Try.func6 fk rfl (.inr rfl) (pk (d+15) _ _ h _ h1 (SM<|BB f7<|EE k19<|VV (oV true false f7)<|CC<|ZZ) k!) k!) bG rfl
               · have La:=of_decide_eq_false f7
                 have e:dk q begin steps raw bits period t=false:=by simp only[dk,f0,f1,f2,f3,f4,f5,f6,f7,ak,ah]
                 rw[e]
                 exact aC rfl (bh Try.func6 fk rfl (.inr rfl) (pk (d+15) _ _ h _ h1 (SM<|BV f7 (uj false f7)<|CC<|ZZ) k!) k!) bG rfl
             · have Su:=of_decide_eq_false f6
               have e:dk q begin steps raw bits period t=false:=by simp only[dk,f0,f1,f2,f3,f4,f5,f6,ak,ah]
               rw[e]
               exact aC rfl (bh Try.func6 fk rfl (.inr rfl) (pk (d+15) _ _ h _ h1 (SL<|BB f6<|BB f6<|BB f6<|BB f6<|BB f6<|BB f6<|BV f6 (uj false f6)<|CC<|FF<|CN 2<|ZZ) k!) k!) bG rfl
           · have vu:=Dq f5
             obtain ⟨DG,Pd,Zo,uS,Mn,ajq⟩:=Ux (d:=d+13) q begin steps (aA.mono bG gA) (ua.has bG) bI bI bI bI bI bI bI bI ck
             have S7:=uS.y
             have ajr:h1.nx≤Pd.nx:=uS.n
             have Nx:Has h Pd:=bG.trans uS.a
             have aie:=Mn.small
             have aif:=oT q begin steps
             obtain ⟨Ha,_,pJ,XR,Zp,xZ,ya,rfl,af3⟩:=Mi (d:=d+14) q bits (aA.mono Nx gA) bI S7
             have Zq:=xZ.y
             have ajs:Pd.nx≤XR.nx:=xZ.n
             have UM:Has h XR:=Nx.trans xZ.a
             have EZ:Has Pd XR:=xZ.a
             have aih:=Zq _ _ ya
             have af4:=CX q bits
             obtain ⟨z22,MA,Zr,tA,afH,ajt⟩:=PD (d:=d+11) q (bw q begin steps) (aX q bits) Ha (aX q bits).length pJ raw (aA.mono UM gA) (Mn.has EZ) ya l! o! (EU.has UM) bI bI bI bI bI Zq
             have Al:=tA.y
             have aju:XR.nx≤MA.nx:=tA.n
             have yb:Has h MA:=UM.trans tA.a
             have nK:Has Pd MA:=EZ.trans tA.a
             have zm:Has XR MA:=tA.a
             have aii:=afH.small
             have aij:=EX q (bw q begin steps) (aX q bits) raw
             have Zs:=Al _ _ (tA.a _ _ (xZ.a _ _ (uS.a _ _ aW)))
             have Zt:=Al _ _ (tA.a _ _ ya)
             obtain ⟨UN,AJ,h26,N5,Zu,ajv,Hb,N6,N7,C2,zn,afI,pr,pt⟩:=rl (d:=d) (h:=MA) begin period t q DG bits pJ z22 steps raw h.nx Ha (Mn.has nK) afH gA.1 (gA.2.has yb) (aA.mono yb gA) o! Al o! o! o! (b_ q (bw q begin steps) (aX q bits) raw).length 0 ([]:List az) AV.aN o! (fun k_=>(((AV.agg [(AV.str q.name),(Zi q.ao),(Zi q.ai),(Zi q.aI),(Zi q.aJ),(Zi q.bad),q.aB])::(Zi begin)::hX::fH::(Zi bits)::(Zi (ab period 1 10))::(Zi (ab t 0 40))::(Pt h.nx)::AV.undef::AV.undef::AV.undef::AV.undef::AV.undef::AV.undef::(AV.bool false)::(Zi (bN q (ab period 1 10) (ab t 0 40)).1)::(Zi (bN q (ab period 1 10) (ab t 0 40)).2)::DG::(AV.slice Ha 0 (aX q bits).length (aX q bits).length pJ)::AV.aN::z22::(Zi 0)::AV.undef::AV.undef::AV.undef::AV.undef::(AV.agg [(AV.str q.name),(Zi q.ao),(Zi q.ai),(Zi q.aI),(Zi q.aJ),(Zi q.bad),q.aB])::(AV.bool (eV q ([]:List az)))::(AV.bool (eV q ([]:List az)))::(AV.ptr h.nx 6)::q.aB::(Zn q.ae.length)::(AV.bool (decide (6<((q.ae.length:Nat):Int))))::(AV.bool (decide (6<((q.ae.length:Nat):Int))))::(AV.bool (decide (6<((q.ae.length:Nat):Int))))::hX::(Zn steps.length)::(AV.bool (decide (40<((steps.length:Nat):Int))))::(AV.bool (decide (40<((steps.length:Nat):Int))))::(AV.bool (decide (40<((steps.length:Nat):Int))))::fH::(Zn raw.length)::(AV.bool (decide (12<((raw.length:Nat):Int))))::(AV.bool (decide (12<((raw.length:Nat):Int))))::(AV.bool (decide (12<((raw.length:Nat):Int))))::(AV.agg [(AV.str q.name),(Zi q.ao),(Zi q.ai),(Zi q.aI),(Zi q.aJ),(Zi q.bad),q.aB])::(Zi (aE q))::(AV.bool (!decide ((aE q)=0)))::(AV.bool (!decide ((aE q)=0)))::AV.undef::(Zi period)::(Zi (ab period 1 10))::(Zi t)::(Zi (ab t 0 40))::(AV.tuple [(Zi (bN q (ab period 1 10) (ab t 0 40)).1),(Zi (bN q (ab period 1 10) (ab t 0 40)).2)])::(AV.agg [(AV.str q.name),(Zi q.ao),(Zi q.ai),(Zi q.aI),(Zi q.aJ),(Zi q.bad),q.aB])::(Zi (ab period 1 10))::(Zi (ab t 0 40))::(AV.tuple [(Zi (bN q (ab period 1 10) (ab t 0 40)).1),(Zi (bN q (ab period 1 10) (ab t 0 40)).2)])::(Zi (bN q (ab period 1 10) (ab t 0 40)).1)::(Zi (bN q (ab period 1 10) (ab t 0 40)).2)::(Zi (bN q (ab period 1 10) (ab t 0 40)).2)::(AV.bool (!decide ((bN q (ab period 1 10) (ab t 0 40)).2=0)))::AV.undef::AV.undef::AV.undef::AV.undef::AV.undef::AV.undef::AV.undef::AV.undef::AV.undef::AV.undef::AV.undef::AV.undef::AV.undef::AV.undef::(AV.agg [(AV.str q.name),(Zi q.ao),(Zi q.ai),(Zi q.aI),(Zi q.aJ),(Zi q.bad),q.aB])::(Zi begin)::hX::DG::(AV.agg [(AV.str q.name),(Zi q.ao),(Zi q.ai),(Zi q.aI),(Zi q.aJ),(Zi q.bad),q.aB])::(Zi bits)::(AV.slice Ha 0 (aX q bits).length (aX q bits).length pJ)::(AV.agg [(AV.str q.name),(Zi q.ao),(Zi q.ai),(Zi q.aI),(Zi q.aJ),(Zi q.bad),q.aB])::DG::(AV.slice Ha 0 (aX q bits).length (aX q bits).length pJ)::fH::z22::iW 98):List AV).getD k_ AV.undef) MA Al (Has.refl _) o! (tA.a _ _ (xZ.a _ _ (uS.a _ _ aW))) (tA.a _ _ ya) (.inl ⟨.inl rfl,rfl⟩) (fun y hy=>by cases hy) (Nat.zero_le _) (bD.nil _) (bD.nil _)
             have UO:aP h26 UN (eA q begin steps bits raw t (b_ q (bw q begin steps) (aX q bits) raw).length 0 ([]:List az)):=bk.rows C2 o! zn
             have aco:=UO.small
             have ajw:Has h h26:=yb.trans Hb
             have acp:Has Pd h26:=nK.trans Hb
             have acq:Has XR h26:=zm.trans Hb
             have E0:Has MA h26:=Hb
             cases Qh:eP t begin period q steps bits q.ae.length 0 (eA q begin steps bits raw t (b_ q (bw q begin steps) (aX q bits) raw).length 0 ([]:List az)) with
             | none=>
               have FW1:=nB (d:=d) (h:=MA) begin period t q DG bits pJ steps h.nx Ha (Mn.has nK) gA.1 (gA.2.has yb) (aA.mono yb gA) o! o! o! o! Al o! o! o! q.ae.length 0 (eA q begin steps bits raw t (b_ q (bw q begin steps) (aX q bits) raw).length 0 ([]:List az)) UN o! (fun k_=>(((AJ 0)::(Zi begin)::rx AJ 2 3 ((Zi (ab period 1 10))::(Zi (ab t 0 40))::(Pt h.nx)::rx AJ 8 7 ((Zi (bN q (ab period 1 10) (ab t 0 40)).1)::(AJ 16)::DG::(AV.slice Ha 0 (aX q bits).length (aX q bits).length pJ)::UN::z22::(AJ 21)::(Zi 0)::rx AJ 23 164 []))):List AV).getD k_ AV.undef) h26 Zu E0 o! N6 N7 C2 zn gT pr pt
               rw[Qh] at FW1
               obtain ⟨aj8,h28,XS,ajx,ajy,Hc⟩:=FW1
               have afJ:Has h h28:=yb.trans Hc
               have acr:Has Pd h28:=nK.trans Hc
               have acs:Has XR h28:=zm.trans Hc
               have acu:Has MA h28:=Hc
               have e:dk q begin steps raw bits period t=true:=by simp only[dk,f0,f1,f2,f3,f4,f5,Qh,ak,ah]
               rw[e]
               exact aC rfl (bh Try.func6 fk rfl (.inr rfl) (pk (d+15) _ _ h _ h28 (yh<|VV (a_ (a:=some (AV.bool true)) (b:=some (AV.bool (decide (6<((q.ae.length:Nat):Int))))) f0)<|CC<|BC f1<|BV f1 NF<|BV f1 (b9 3 false true .i64 ((steps.length:Nat):Int) 40)<|VV (a_ (a:=some (AV.bool true)) (b:=some (AV.bool (decide (40<((steps.length:Nat):Int))))) f1)<|CC<|BC f2<|BV f2 LY<|BV f2 (b9 3 false true .i64 ((raw.length:Nat):Int) 12)<|VV (a_ (a:=some (AV.bool true)) (b:=some (AV.bool (decide (12<((raw.length:Nat):Int))))) f2)<|CC<|BM f3 (aK 26 0 (AV.agg [(AV.str q.name),(Zi q.ao),(Zi q.ai),(Zi q.aI),(Zi q.aJ),(Zi q.bad),q.aB]) aW k!)<|BB f3<|EE Qa<|BV f3 (j6 31 false true .i64 (aE q) 0)<|VV (a_ (a:=some (AV.bool true)) (b:=some (AV.bool (!decide ((aE q)=0)))) f3)<|BC f4<|EE k12<|CN 2<|EE Vc<|CC<|MM (aK 26 0 (AV.agg [(AV.str q.name),(Zi q.ao),(Zi q.ai),(Zi q.aI),(Zi q.aJ),(Zi q.bad),q.aB]) aW k!)<|CN 2<|EE k14<|CN 6<|VV (j6 31 false true .i64 (bN q (ab period 1 10) (ab t 0 40)).2 0)<|BM f5 (aK 26 0 (AV.agg [(AV.str q.name),(Zi q.ao),(Zi q.ai),(Zi q.aI),(Zi q.aJ),(Zi q.bad),q.aB]) aW k!)<|CN 2<|EE Zo<|CC<|MM (aK 26 0 (AV.agg [(AV.str q.name),(Zi q.ao),(Zi q.ai),(Zi q.aI),(Zi q.aJ),(Zi q.bad),q.aB]) (uS.a _ _ aW) k!)<|CC<|EE Zp<|CN 2<|MM (aK 26 0 (AV.agg [(AV.str q.name),(Zi q.ao),(Zi q.ai),(Zi q.aI),(Zi q.aJ),(Zi q.bad),q.aB]) (xZ.a _ _ (uS.a _ _ aW)) k!)<|CN 3<|EE Zr<|CN 2<|LL N5<|CC<|LL XS<|ZZ) k!) k!) afJ rfl
             | some w1=>
               have Zv:=Al _ _ (tA.a _ _ (xZ.a _ _ (uS.a _ _ aW)))
               have Zw:=Al _ _ (tA.a _ _ ya)
               have FW1:=nB (d:=d) (h:=MA) begin period t q DG bits pJ steps h.nx Ha (Mn.has nK) gA.1 (gA.2.has yb) (aA.mono yb gA) o! o! o! o! Al o! o! o! q.ae.length 0 (eA q begin steps bits raw t (b_ q (bw q begin steps) (aX q bits) raw).length 0 ([]:List az)) UN o! (fun k_=>(((AJ 0)::(Zi begin)::rx AJ 2 3 ((Zi (ab period 1 10))::(Zi (ab t 0 40))::(Pt h.nx)::rx AJ 8 7 ((Zi (bN q (ab period 1 10) (ab t 0 40)).1)::(AJ 16)::DG::(AV.slice Ha 0 (aX q bits).length (aX q bits).length pJ)::UN::z22::(AJ 21)::(Zi 0)::rx AJ 23 164 []))):List AV).getD k_ AV.undef) h26 Zu E0 o! N6 N7 C2 zn gT pr pt
               rw[Qh] at FW1
               obtain ⟨aik,aj9,A0,XT,JH,ajz,Hd,XU,af5,UP,PJ,afK,N8,N9⟩:=FW1
               have JQ:aP A0 aik w1:=bk.rows UP o! PJ
               have acv:=JQ.small
               have tq:Has h A0:=yb.trans Hd
               have PK:Has Pd A0:=nK.trans Hd
               have PL:Has XR A0:=zm.trans Hd
               have PM:Has MA A0:=Hd
               obtain ⟨z32,N_,afL,C3,⟨vU,af6⟩⟩:=GY (d:=d+1) q w1 (ab t 0 40) (aA.mono tq gA) JQ bI JH
               have Zx:=C3.y
               have ajA:A0.nx≤N_.nx:=C3.n
               have JR:Has h N_:=tq.trans C3.a
               have E1:Has Pd N_:=PK.trans C3.a
               have acw:Has XR N_:=PL.trans C3.a
               have acx:Has MA N_:=PM.trans C3.a
               have acy:Has A0 N_:=C3.a
               have ail:=vU.small
               have SN:=fun {al ps} (k:Pk al _ ps)=>(yh<|VV (a_ (a:=some (AV.bool true)) (b:=some (AV.bool (decide (6<((q.ae.length:Nat):Int))))) f0)<|CC<|BC f1<|BV f1 NF<|BV f1 (b9 3 false true .i64 ((steps.length:Nat):Int) 40)<|VV (a_ (a:=some (AV.bool true)) (b:=some (AV.bool (decide (40<((steps.length:Nat):Int))))) f1)<|CC<|BC f2<|BV f2 LY<|BV f2 (b9 3 false true .i64 ((raw.length:Nat):Int) 12)<|VV (a_ (a:=some (AV.bool true)) (b:=some (AV.bool (decide (12<((raw.length:Nat):Int))))) f2)<|CC<|BM f3 (aK 26 0 (AV.agg [(AV.str q.name),(Zi q.ao),(Zi q.ai),(Zi q.aI),(Zi q.aJ),(Zi q.bad),q.aB]) aW k!)<|BB f3<|EE Qa<|BV f3 (j6 31 false true .i64 (aE q) 0)<|VV (a_ (a:=some (AV.bool true)) (b:=some (AV.bool (!decide ((aE q)=0)))) f3)<|BC f4<|EE k12<|CN 2<|EE Vc<|CC<|MM (aK 26 0 (AV.agg [(AV.str q.name),(Zi q.ao),(Zi q.ai),(Zi q.aI),(Zi q.aJ),(Zi q.bad),q.aB]) aW k!)<|CN 2<|EE k14<|CN 6<|VV (j6 31 false true .i64 (bN q (ab period 1 10) (ab t 0 40)).2 0)<|BM f5 (aK 26 0 (AV.agg [(AV.str q.name),(Zi q.ao),(Zi q.ai),(Zi q.aI),(Zi q.aJ),(Zi q.bad),q.aB]) aW k!)<|CN 2<|EE Zo<|CC<|MM (aK 26 0 (AV.agg [(AV.str q.name),(Zi q.ao),(Zi q.ai),(Zi q.aI),(Zi q.aJ),(Zi q.bad),q.aB]) (uS.a _ _ aW) k!)<|CC<|EE Zp<|CN 2<|MM (aK 26 0 (AV.agg [(AV.str q.name),(Zi q.ao),(Zi q.ai),(Zi q.aI),(Zi q.aJ),(Zi q.bad),q.aB]) (xZ.a _ _ (uS.a _ _ aW)) k!)<|CN 3<|EE Zr<|CN 2<|LL N5<|CC<|LL XT<|MM (aK 26 0 (AV.agg [(AV.str q.name),(Zi q.ao),(Zi q.ai),(Zi q.aI),(Zi q.aJ),(Zi q.bad),q.aB]) XU k!)<|CN 2<|EE afL<|CN 6<|VV (j6 31 false true .i64 (aM q w1 (ab t 0 40)).2 0)<|CC<|k:Pk _ [] ps)
               rcases Bool.eq_false_or_eq_true (!decide ((aM q w1 (ab t 0 40)).2=0)) with f7 | f7
               · have La:=Dp f7
                 have e:dk q begin steps raw bits period t=false:=by simp only[dk,f0,f1,f2,f3,f4,f5,Qh,f7,ak,ah]
                 rw[e]
                 exact aC rfl (bh Try.func6 fk rfl (.inr rfl) (pk (d+15) _ _ h _ N_ (SN<|BB f7<|BB f7<|BV f7 (ot true f7)<|TT<|CC<|ZZ) k!) k!) JR rfl
               · have La:=Dq f7
                 have aim:dN (some (.slice 23)) (some z32)=some (Zn (aM q w1 (ab t 0 40)).1.length):=vU.len
                 have I1:=fun {al ps} (k:Pk al _ ps)=>(SN<|BC f7<|BV f7 aim<|BV f7 (lH 3 false true .i64 (((aM q w1 (ab t 0 40)).1.length:Nat):Int) 0)<|VV (a_ (a:=some (AV.bool true)) (b:=some (AV.bool (decide ((((aM q w1 (ab t 0 40)).1.length:Nat):Int)=0)))) f7)<|k:Pk _ [] ps)
                 rcases Bool.eq_false_or_eq_true (decide ((((aM q w1 (ab t 0 40)).1.length:Nat):Int)=0)) with f8 | f8
                 · have aaC:=of_decide_eq_true f8
                   have e:dk q begin steps raw bits period t=false:=by simp only[dk,f0,f1,f2,f3,f4,f5,Qh,f7,f8,ak,ah]
                   rw[e]
                   exact aC rfl (bh Try.func6 fk rfl (.inr rfl) (pk (d+15) _ _ h _ N_ (I1<|BC f8<|ZZ) k!) k!) JR rfl
                 · have aaC:=of_decide_eq_false f8
                   have ain:dN (some (.slice 23)) (some z32)=some (Zn (aM q w1 (ab t 0 40)).1.length):=vU.len
                   have u37:=Gj 3 false true (aM q w1 (ab t 0 40)).1.length 1 o! o!
                   obtain ⟨p39,q40,Zy⟩:=vU.elem (i:=((aM q w1 (ab t 0 40)).1.length - 1)) o!
                   have aio:dy env (some (.slice 23)) (some z32) (some (Zn ((aM q w1 (ab t 0 40)).1.length - 1)))=some (AV.ptr p39 q40):=Zy
                   have Mo:bE env N_ 3 (AV.ptr p39 (q40+1))=some (Zi ((aM q w1 (ab t 0 40)).1.g ((aM q w1 (ab t 0 40)).1.length - 1)).aF):=vU.part (t:=3) (j:=1) o! Zy k! rfl
                   have k42:=Gl (d:=d+14) (bw q begin steps) (ab t 0 40) (Mn.has E1) bI bI Zx
                   have SO:=fun {al ps} (k:Pk al _ ps)=>(I1<|BB f8<|CN 2<|VV ain<|VV u37<|VV aio<|CC<|MM Mo<|CN 3<|EE k42<|CC<|VV (qT 3 false false .i64 ((aM q w1 (ab t 0 40)).1.g ((aM q w1 (ab t 0 40)).1.length - 1)).aF (IntKind.i64.wrap ((cA (bw q begin steps) (ab t 0 40))+((bN q (ab period 1 10) (ab t 0 40)).1))))<|CC<|k:Pk _ [] ps)
                   rcases Bool.eq_false_or_eq_true (decide (((aM q w1 (ab t 0 40)).1.g ((aM q w1 (ab t 0 40)).1.length - 1)).aF≤(IntKind.i64.wrap ((cA (bw q begin steps) (ab t 0 40))+((bN q (ab period 1 10) (ab t 0 40)).1))))) with f9 | f9
                   · have aaD:=of_decide_eq_true f9
                     obtain ⟨p45,q46,Zz⟩:=vU.elem (i:=0) o!
                     have aip:dy env (some (.slice 23)) (some z32) (some (Zi 0))=some (AV.ptr p45 q46):=Zz
                     have UQ:bE env N_ 3 (AV.ptr p45 (q46+0))=some (Zi ((aM q w1 (ab t 0 40)).1.g 0).aU):=vU.part (t:=3) (j:=0) o! Zz k! rfl
                     have k48:=Gl (d:=d+14) (bw q begin steps) (ab t 0 40) (Mn.has E1) bI bI Zx
                     have SP:=fun {al ps} (k:Pk al _ ps)=>(SO<|BC f9<|BV f9 aip<|BC f9<|BM f9 UQ<|BC f9<|BC f9<|BC f9<|BB f9<|EE k48<|BC f9<|BV f9 (qd 3 false false .i64 ((aM q w1 (ab t 0 40)).1.g 0).aU (IntKind.i64.wrap ((cA (bw q begin steps) (ab t 0 40)) -((bN q (ab period 1 10) (ab t 0 40)).1))))<|VV (oV (decide ((IntKind.i64.wrap ((cA (bw q begin steps) (ab t 0 40)) -((bN q (ab period 1 10) (ab t 0 40)).1)))≤(((aM q w1 (ab t 0 40)).1.g 0).aU))) false f9)<|CC<|k:Pk _ [] ps)
                     rcases Bool.eq_false_or_eq_true (decide ((IntKind.i64.wrap ((cA (bw q begin steps) (ab t 0 40)) -((bN q (ab period 1 10) (ab t 0 40)).1)))≤(((aM q w1 (ab t 0 40)).1.g 0).aU))) with f10 | f10
                     · have Sw:=of_decide_eq_true f10
                       have k50:=ny (d:=d+14) (h:=N_)
                       have e:dk q begin steps raw bits period t=true:=by simp only[dk,f0,f1,f2,f3,f4,f5,Qh,f7,f8,f9,f10,ak,ah]
                       rw[e]
                       exact aC rfl (bh Try.func6 fk rfl (.inr rfl) (pk (d+15) _ _ h _ N_ (SP<|BB f10<|EE k50<|VV (oV true false f10)<|CC<|HH Mo<|HH (show AV.same 20 (Zi ((aM q w1 (ab t 0 40)).1.g ((aM q w1 (ab t 0 40)).1.length - 1)).aF) (Zi ((aM q w1 (ab t 0 40)).1.g ((aM q w1 (ab t 0 40)).1.length - 1)).aF)=true from aO 19 _ _)<|HH Mo<|HH (show AV.same 20 (Zi ((aM q w1 (ab t 0 40)).1.g ((aM q w1 (ab t 0 40)).1.length - 1)).aF) (Zi ((aM q w1 (ab t 0 40)).1.g ((aM q w1 (ab t 0 40)).1.length - 1)).aF)=true from aO 19 _ _)<|HH UQ<|HH (show AV.same 20 (Zi ((aM q w1 (ab t 0 40)).1.g 0).aU) (Zi ((aM q w1 (ab t 0 40)).1.g 0).aU)=true from aO 19 _ _)<|HH UQ<|HH (show AV.same 20 (Zi ((aM q w1 (ab t 0 40)).1.g 0).aU) (Zi ((aM q w1 (ab t 0 40)).1.g 0).aU)=true from aO 19 _ _)<|ZZ) k!) k!) JR rfl
                     · have Sw:=of_decide_eq_false f10
                       have e:dk q begin steps raw bits period t=false:=by simp only[dk,f0,f1,f2,f3,f4,f5,Qh,f7,f8,f9,f10,ak,ah]
                       rw[e]
                       exact aC rfl (bh Try.func6 fk rfl (.inr rfl) (pk (d+15) _ _ h _ N_ (SP<|BV f10 (uj false f10)<|CC<|HH Mo<|HH (show AV.same 20 (Zi ((aM q w1 (ab t 0 40)).1.g ((aM q w1 (ab t 0 40)).1.length - 1)).aF) (Zi ((aM q w1 (ab t 0 40)).1.g ((aM q w1 (ab t 0 40)).1.length - 1)).aF)=true from aO 19 _ _)<|HH Mo<|HH (show AV.same 20 (Zi ((aM q w1 (ab t 0 40)).1.g ((aM q w1 (ab t 0 40)).1.length - 1)).aF) (Zi ((aM q w1 (ab t 0 40)).1.g ((aM q w1 (ab t 0 40)).1.length - 1)).aF)=true from aO 19 _ _)<|HH UQ<|HH (show AV.same 20 (Zi ((aM q w1 (ab t 0 40)).1.g 0).aU) (Zi ((aM q w1 (ab t 0 40)).1.g 0).aU)=true from aO 19 _ _)<|HH UQ<|HH (show AV.same 20 (Zi ((aM q w1 (ab t 0 40)).1.g 0).aU) (Zi ((aM q w1 (ab t 0 40)).1.g 0).aU)=true from aO 19 _ _)<|ZZ) k!) k!) JR rfl
                   · have aaD:=of_decide_eq_false f9
                     have e:dk q begin steps raw bits period t=false:=by simp only[dk,f0,f1,f2,f3,f4,f5,Qh,f7,f8,f9,ak,ah]
                     rw[e]
                     exact aC rfl (bh Try.func6 fk rfl (.inr rfl) (pk (d+15) _ _ h _ N_ (SO<|BB f9<|BB f9<|BB f9<|BB f9<|BB f9<|BB f9<|BB f9<|BB f9<|BB f9<|BV f9 (uj false f9)<|CC<|FF<|CN 2<|HH Mo<|HH (show AV.same 20 (Zi ((aM q w1 (ab t 0 40)).1.g ((aM q w1 (ab t 0 40)).1.length - 1)).aF) (Zi ((aM q w1 (ab t 0 40)).1.g ((aM q w1 (ab t 0 40)).1.length - 1)).aF)=true from aO 19 _ _)<|HH Mo<|HH (show AV.same 20 (Zi ((aM q w1 (ab t 0 40)).1.g ((aM q w1 (ab t 0 40)).1.length - 1)).aF) (Zi ((aM q w1 (ab t 0 40)).1.g ((aM q w1 (ab t 0 40)).1.length - 1)).aF)=true from aO 19 _ _)<|ZZ) k!) k!) JR rfl
abbrev jL (t begin period:Int) (j:Nat):Int:=imax (IntKind.i64.wrap ((ab t 0 40) -(ab (IntKind.i64.wrap (begin+((j:Nat):Int))) 0 (ab period 1 10)))) 0
abbrev E2 (x:List Int) (t begin period:Int) (j:Nat):az:=⟨((j:Nat):Int),jL t begin period j,cA x (jL t begin period j)⟩
theorem N' (t begin period:Int) (j:Nat):(1≤ab period 1 10∧ab period 1 10≤10)∧(0≤ab t 0 40∧ab t 0 40≤40)∧0≤jL t begin period j∧jL t begin period j≤ab t 0 40∧ab t 0 40 - jL t begin period j≤ab period 1 10:=by
 have p:=cW period 1 10 o! o! o!
 have a:=cW t 0 40 o! o! o!
 have b:=cW (IntKind.i64.wrap (begin+((j:Nat):Int))) 0 (ab period 1 10) o! o! o!
 refine ⟨p,a,?_⟩
 rw[jL,me,wrap_i64 o! o!]
 omega
theorem C4 {q:ay} {begin:Int} {steps:List Int} {bits:Int} {raw:List az} {t:Int} {P:az→Prop} (h:∀r∈b_ q (bw q begin steps) (aX q bits) raw,P r):∀(k i:Nat) (v:List az),i+k=(b_ q (bw q begin steps) (aX q bits) raw).length→(∀r∈v,P r)→(∀r∈eA q begin steps bits raw t k i v,P r)∧(eA q begin steps bits raw t k i v).length≤v.length+k
 | 0,i,v,_,hv=>⟨hv,Nat.le_refl _⟩
 | k+1,i,v,e,hv=>by
   rw[eA]
   cases decide (((b_ q (bw q begin steps) (aX q bits) raw).g i).time≤(ab t 0 40)) with
   | true=>
     rw[ak]
     have ih:=C4 (t:=t) h k (i+1) (v++[((b_ q (bw q begin steps) (aX q bits) raw).g i)]) o! (fun r hr=>(List.mem_append.1 hr).elim (hv r) fun hr=>by rw[List.mem_singleton.1 hr];exact h _ (j7 o!))
     rw[List.length_append,List.length_singleton] at ih
     exact ⟨ih.1,by omega⟩
   | false=>
     rw[ah]
     have ih:=C4 (t:=t) h k (i+1) v o! hv
     exact ⟨ih.1,by omega⟩
theorem C5 {t begin period:Int} {q:ay} {steps:List Int} {bits:Int}:∀(k i:Nat) (v w:List az),eP t begin period q steps bits k i v=some w→
 (∀r∈v,r∈w)∧w.length≤v.length+k∧(∀r∈w,r∈v∨∃j,i≤j∧j<i+k∧(aX q bits).g j=false∧r=E2 (bw q begin steps) t begin period j∧-1000000000≤r.value∧r.value≤1000000000)∧∀j,i≤j→j<i+k→(aX q bits).g j=false→E2 (bw q begin steps) t begin period j∈w
 | 0,i,v,w,h=>by
   rw[eP] at h
   cases h
   exact ⟨fun _ h=>h,Nat.le_refl _,fun _ h=> .inl h,fun j a b=>by omega⟩
 | k+1,i,v,w,h=>by
   rw[eP] at h
   cases hb:(aX q bits).g i with
   | true=>
     rw[hb,ak] at h
     obtain ⟨a,b,c,d⟩:=C5 k (i+1) v w h
     refine ⟨a,by omega,fun r hr=>(c r hr).imp id fun ⟨j,x1,x2,x3⟩=>⟨j,by omega,by omega,x3⟩,fun j h1 h2 h3=>?_⟩
     by_cases e:j=i
     · subst e;rw[hb] at h3;cases h3
     · exact d j o! o! h3
   | false=>
     rw[hb,ah] at h
     by_cases e1:cA (bw q begin steps) (jL t begin period i)< -1000000000
     · rw[decide_eq_true e1] at h;cases h
     rw[decide_eq_false e1,ah] at h
     by_cases e2:1000000000<cA (bw q begin steps) (jL t begin period i)
     · rw[decide_eq_true e2] at h;cases h
     rw[decide_eq_false e2,ah] at h
     obtain ⟨a,b,c,d⟩:=C5 k (i+1) (v++[E2 (bw q begin steps) t begin period i]) w h
     rw[List.length_append,List.length_singleton] at b
     refine ⟨fun r hr=>a r (List.mem_append_left _ hr),by omega,fun r hr=>?_,fun j h1 h2 h3=>?_⟩
     · rcases c r hr with hr | ⟨j,x1,x2,x3⟩
       · rcases List.mem_append.1 hr with hr | hr
         · exact .inl hr
         · have er:=List.mem_singleton.1 hr
           refine .inr ⟨i,Nat.le_refl _,by omega,hb,er,?_⟩
           rw[er]
           show -1000000000≤cA (bw q begin steps) (jL t begin period i)∧cA (bw q begin steps) (jL t begin period i)≤1000000000
           omega
       · exact .inr ⟨j,by omega,by omega,x3⟩
     · by_cases e:j=i
       · subst e;exact a _ (List.mem_append_right _ (List.mem_singleton.2 rfl))
       · exact d j o! o! h3
theorem Mp {n:Nat} (hn:n≤8) {a:List Bool} {s:Nat} {b:Nat} (ha:CZ a≤b) (hs:sz s≤b) (h:2*b<n):∃j,j<n∧a.g j=false∧s.testBit j=false:=by
 refine Classical.byContradiction fun hc=>?_
 have all:∀j,j<n→a.g j=true∨s.testBit j=true:=fun j hj=>by
  cases e1:a.g j with
  | true=>exact .inl rfl
  | false=>
    cases e2:s.testBit j with
    | true=>exact .inr rfl
    | false=>exact absurd ⟨j,hj,e1,e2⟩ hc
 have key:∀R:List Nat,(R.filter fun j=>decide (j<n)).length≤(R.filter fun j=>a.g j).length+(R.filter fun j=>s.testBit j).length:=by
  intro R
  induction R with
  | nil=>simp
  | cons r R ih=>
    rw[List.filter_cons,List.filter_cons,List.filter_cons]
    by_cases hr:r<n
    · rcases all r hr with h | h<;>rw[h,decide_eq_true hr]<;>simp<;>(first | (cases a.g r<;>simp<;>omega) | (cases s.testBit r<;>simp<;>omega))
    · rw[decide_eq_false hr]
      cases a.g r<;>cases s.testBit r<;>simp<;>omega
 have k8:=key (List.range 8)
 have e8:∀m,m≤8→((List.range 8).filter fun j=>decide (j<m)).length=m:=by decide
 rw[e8 n hn] at k8
 have:n≤CZ a+sz s:=k8
 omega
theorem zo {q:ay} (hq:aE q=0) {t:Int} (t0:0≤t) (t1:t≤100000):∀(k i:Nat) (v:Int),i+k=q.ae.length→0≤v∧v≤102000000000→(0≤dB q t k i v∧dB q t k i v≤102000000000)∧v≤dB q t k i v∧∀j,i≤j→j<i+k→cx (q.ae.g j) t≤dB q t k i v
 | 0,i,v,_,h=>⟨h,Int.le_refl _,fun j a b=>by omega⟩
 | k+1,i,v,e,h=>by
   rw[dB]
   have g:=xS hq (j:=i) o!
   have w:=mL g t0 t1
   rw[I' g.2.2.2.2 t0 t1,me]
   obtain ⟨a,b,c⟩:=zo hq t0 t1 k (i+1) (max v (cx (q.ae.g i) t)) o! o!
   refine ⟨a,by omega,fun j h1 h2=>?_⟩
   by_cases ej:j=i
   · subst ej;omega
   · exact c j o! o!
theorem Mq {g:bT} (h:0≤g.acc∧g.acc≤1000000000∧0≤g.bH∧g.bH≤1000000000∧0≤g.since∧g.since≤100000) {s t:Int} (s0:0≤s) (ir:s≤t) (t1:t≤100000):cx g s≤cx g t:=by
 rw[Jw h s0 o!,Jw h o! t1]
 have:(max (s - g.since) 0+999) /1000≤(max (t - g.since) 0+999) /1000:=Int.ediv_le_ediv (by decide) o!
 have:=Int.mul_le_mul_of_nonneg_left this h.2.2.1
 omega
section
variable {q:ay} {begin:Int} {steps:List Int} {raw:List az} {bits period t:Int} {w1:List az} (hq:aE q=0) (hs:steps.length≤40) (hr:raw.length≤12)
 (hw:eP t begin period q steps bits q.ae.length 0 (eA q begin steps bits raw t (b_ q (bw q begin steps) (aX q bits) raw).length 0 ([]:List az))=some w1)
include hq hs hr hw
theorem JS:(∀r∈w1,SR q (bw q begin steps) (aX q bits) r)∧w1.length≤20∧∀j,j<q.ae.length→(aX q bits).g j=false→E2 (bw q begin steps) t begin period j∈w1:=by
 have hx:0<(bw q begin steps).length:=by rw[oT];omega
 have hl:(bw q begin steps).length≤41:=by rw[oT];omega
 have wk:=A1 hq begin hs
 have sl:=EX q (bw q begin steps) (aX q bits) raw
 obtain ⟨a0,b0⟩:=C4 (t:=t) (UD hq hx hl wk (aX q bits) (raw:=raw)) (b_ q (bw q begin steps) (aX q bits) raw).length 0 [] o! (fun r hr=>by cases hr)
 obtain ⟨a,b,c,d⟩:=C5 _ _ _ _ hw
 have g8:=(iK hq).2.2.2.2
 rw[List.length_nil] at b0
 refine ⟨fun r hr=>?_,by omega,fun j hj hb=>d j (Nat.zero_le _) o! hb⟩
 rcases c r hr with hr | ⟨j,_,h2,h3,rfl,v0,v1⟩
 · exact a0 r hr
 · obtain ⟨_,t1,s0,s1,_⟩:=N' t begin period j
   refine ⟨⟨by show (0:Int)≤((j:Nat):Int);omega,by show ((j:Nat):Int)<_;omega⟩,⟨s0,by show jL t begin period j≤40;omega⟩,⟨v0,v1⟩,fun _=>?_⟩
   have w:=mL (xS hq (j:=j) o!) s0 o!
   show cA (bw q begin steps) (jL t begin period j) - cx (q.ae.g ((j:Nat):Int).toNat) (jL t begin period j)≤cA (bw q begin steps) (jL t begin period j)∧cA (bw q begin steps) (jL t begin period j)≤cA (bw q begin steps) (jL t begin period j)+cx (q.ae.g ((j:Nat):Int).toNat) (jL t begin period j)
   rw[Int.toNat_natCast]
   omega
theorem C6:(aM q w1 (ab t 0 40)).2=0∧xj (aM q w1 (ab t 0 40)).1 (cA (bw q begin steps) (ab t 0 40)):=by
 obtain ⟨sr,len,_⟩:=JS hq hs hr hw
 have tt:=cW t 0 40 o! o! o!
 have hx:0<(bw q begin steps).length:=by rw[oT];omega
 have wk:=A1 hq begin hs
 have e:(aM q w1 (ab t 0 40)).2=0:=TY (UE hq o! sr) (by rw[rb,d_,decide_eq_true tt.1,decide_eq_true (show ab t 0 40≤100000 by omega)];rfl)
 refine ⟨e,?_⟩
 obtain ⟨f,ZA,ep⟩:=G7 e
 rw[ep]
 obtain ⟨s,h1,h2,h3⟩:=Mk hq bits
 obtain ⟨v1,v2⟩:=UB (CY hq hx wk) (UF hq hx wk sr h3)
 exact ((pG f ZA.1 ZA.2).2 _).2 ⟨s,h1,h2,v1,v2 _ tt.1⟩
theorem Mr {m:Int} (hb:2*q.bad<(q.ae.length:Int)) (hm:m=2*dB q (ab t 0 40) q.ae.length 0 0+(q.aI+q.aJ)*ab period 1 10) {y:Int} (hy:xj (aM q w1 (ab t 0 40)).1 y):y≤cA (bw q begin steps) (ab t 0 40)+m∧cA (bw q begin steps) (ab t 0 40) - m≤y:=by
 obtain ⟨sr,len,late⟩:=JS hq hs hr hw
 obtain ⟨e,_⟩:=C6 hq hs hr hw
 obtain ⟨f,ZA,ep⟩:=G7 e
 rw[ep] at hy
 obtain ⟨s,h1,h2,_,hv⟩:=((pG f ZA.1 ZA.2).2 _).1 hy
 obtain ⟨_,⟨r0,r1,f0,f1⟩,b0,b1,b8⟩:=iK hq
 have pT:=C1 (q:=q) ⟨b0,by omega⟩ bits
 obtain ⟨j,j1,j2,j3⟩:=Mp b8 (a:=aX q bits) (s:=s) (b:=q.bad.toNat) o! o! o!
 obtain ⟨i,hi,ei⟩:=List.mem_iff_getElem.1 (late j j1 j2)
 have ei':w1.g i=E2 (bw q begin steps) t begin period j:=by
  rw[←ei]
  show w1.getD i default=_
  rw[List.getD_eq_getElem?_getD,List.getElem?_eq_getElem hi];rfl
 obtain ⟨p1,tt,s0,s1,s2⟩:=N' t begin period j
 have k:=hv _ (.inr ⟨i,hi,by rw[ei'];show s.testBit ((j:Nat):Int).toNat=false;rw[Int.toNat_natCast];exact j3,rfl⟩)
 rw[ei'] at k
 have ek:Et q (E2 (bw q begin steps) t begin period j)=⟨jL t begin period j,cA (bw q begin steps) (jL t begin period j) - cx (q.ae.g j) (jL t begin period j),cA (bw q begin steps) (jL t begin period j)+cx (q.ae.g j) (jL t begin period j)⟩:=by
  rw[Et]
  simp only[Int.toNat_natCast]
 rw[ek,gB,if_pos s1] at k
 simp only at k
 have hx:0<(bw q begin steps).length:=by rw[oT];omega
 have mv:=CY hq hx (A1 hq begin hs) _ _ s0 s1
 have gj:=xS hq j1
 have wt:=Mq gj s0 s1 o!
 obtain ⟨ma,mb,mc⟩:=zo hq tt.1 (show ab t 0 40≤100000 by omega) q.ae.length 0 0 o! o!
 have mj:=mc j (Nat.zero_le _) o!
 have d1:=Int.mul_le_mul_of_nonneg_left s2 f0
 have d2:=Int.mul_le_mul_of_nonneg_left s2 r0
 rw[Int.add_mul] at hm
 omega
end
theorem UR (q:ay) (begin:Int) (steps:List Int) (raw:List az) (bits period t:Int):dk q begin steps raw bits period t=true:=by
 rw[dk]
 cases eV q ([]:List az) with
 | true=>rfl
 | false=>
   rw[ah]
   by_cases e1:(6:Int)<((q.ae.length:Nat):Int)
   · rw[decide_eq_true e1];rfl
   rw[decide_eq_false e1,ah]
   by_cases e2:(40:Int)<((steps.length:Nat):Int)
   · rw[decide_eq_true e2];rfl
   rw[decide_eq_false e2,ah]
   by_cases e3:(12:Int)<((raw.length:Nat):Int)
   · rw[decide_eq_true e3];rfl
   rw[decide_eq_false e3,ah]
   by_cases e4:aE q=0
   · rw[decide_eq_true e4]
     simp only[Bool.not_true,ah]
     have hs:steps.length≤40:=by omega
     have hr:raw.length≤12:=by omega
     obtain ⟨_,⟨r0,r1,f0,f1⟩,b0,b1,b8⟩:=iK e4
     have p:=cW period 1 10 o! o! o!
     have tt:=cW t 0 40 o! o! o!
     have w2:IntKind.i64.wrap (2*q.bad)=2*q.bad:=wrap_i64 o! o!
     by_cases eb:((q.ae.length:Nat):Int)≤2*q.bad
     · have em:bN q (ab period 1 10) (ab t 0 40)=(0,9):=by
        rw[bN,S3,e4,decide_eq_false (show ¬ab period 1 10<1 by omega),rb,rb,d_,d_,decide_eq_true (show 0≤ab period 1 10 by omega),decide_eq_true (show ab period 1 10≤100000 by omega),decide_eq_true tt.1,decide_eq_true (show ab t 0 40≤100000 by omega),w2,decide_eq_true eb]
        rfl
       rw[em,w2,decide_eq_true eb];rfl
     · obtain ⟨ma,_,_⟩:=zo e4 tt.1 (show ab t 0 40≤100000 by omega) q.ae.length 0 0 o! o!
       have em:bN q (ab period 1 10) (ab t 0 40)=(2*dB q (ab t 0 40) q.ae.length 0 0+(q.aI+q.aJ)*ab period 1 10,0):=by
        rw[bN,S3,e4,decide_eq_false (show ¬ab period 1 10<1 by omega),rb,rb,d_,d_,decide_eq_true (show 0≤ab period 1 10 by omega),decide_eq_true (show ab period 1 10≤100000 by omega),decide_eq_true tt.1,decide_eq_true (show ab t 0 40≤100000 by omega),w2,decide_eq_false eb]
        have p1:0≤(q.aI+q.aJ)*ab period 1 10:=Int.mul_nonneg o! o!
        have p2:(q.aI+q.aJ)*ab period 1 10≤(q.aI+q.aJ)*10:=Int.mul_le_mul_of_nonneg_left p.2 o!
        rw[wrap_i64 (n:=2*dB q (ab t 0 40) q.ae.length 0 0) o! o!,wrap_i64 (n:=q.aI+q.aJ) o! o!,wrap_i64 (n:=(q.aI+q.aJ)*ab period 1 10) o! o!,wrap_i64 (n:=2*dB q (ab t 0 40) q.ae.length 0 0+(q.aI+q.aJ)*ab period 1 10) o! o!]
        rfl
       rw[em]
       simp only[decide_true,Bool.not_true,ah]
       cases hw:(eP t begin period q steps bits q.ae.length 0 (eA q begin steps bits raw t (b_ q (bw q begin steps) (aX q bits) raw).length 0 ([]:List az))) with
       | none=>rfl
       | some w1=>
         simp only
         obtain ⟨pe,pin⟩:=C6 e4 hs hr hw
         obtain ⟨f,ZA,ep⟩:=G7 pe
         have c:=(pG f ZA.1 ZA.2).1
         rw[←ep] at c
         have hx:0<(bw q begin steps).length:=by rw[oT];omega
         have xb:=N4 hx (by rw[oT];omega) (A1 e4 begin hs) tt.1
         have Ml:=fun y hy=>Mr (m:=2*dB q (ab t 0 40) q.ae.length 0 0+(q.aI+q.aJ)*ab period 1 10) e4 hs hr hw o! rfl (y:=y) hy
         have eu:0<(aM q w1 (ab t 0 40)).1.length:=by
          obtain ⟨r,hr,_⟩:=pin
          exact List.length_pos_of_mem hr
         rw[pe]
         generalize (aM q w1 (ab t 0 40)).1=A at c Ml eu ⊢
         have p1:0≤(q.aI+q.aJ)*ab period 1 10:=Int.mul_nonneg o! o!
         have p2:(q.aI+q.aJ)*ab period 1 10≤(q.aI+q.aJ)*10:=Int.mul_le_mul_of_nonneg_left p.2 o!
         generalize (q.aI+q.aJ)*ab period 1 10=M at Ml p1 p2 ⊢
         have m1:A.g (A.length - 1)∈A:=j7 o!
         have m0:A.g 0∈A:=j7 eu
         have n1:=(Ml (A.g (A.length - 1)).aF ⟨_,m1,c.some _ m1,Int.le_refl _⟩).1
         have n0:=(Ml (A.g 0).aU ⟨_,m0,Int.le_refl _,c.some _ m0⟩).2
         rw[wrap_i64 (n:=cA (bw q begin steps) (ab t 0 40)+_) o! o!,wrap_i64 (n:=cA (bw q begin steps) (ab t 0 40) - _) o! o!,decide_eq_true n1,decide_eq_true n0,decide_eq_false (show ¬((A.length:Nat):Int)=0 by omega)]
         rfl
   · rw[decide_eq_false e4];rfl
end
end Go.Proofs.aG
