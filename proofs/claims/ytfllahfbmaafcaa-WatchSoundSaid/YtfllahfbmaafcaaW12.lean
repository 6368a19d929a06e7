import Derived.Test.YtfllahfbmaafcaaW0
import Derived.Test.YtfllahfbmaafcaaW1
import Derived.Test.YtfllahfbmaafcaaW10
import Derived.Test.YtfllahfbmaafcaaW2
import Derived.Test.YtfllahfbmaafcaaW11
import Derived.Test.YtfllahfbmaafcaaW8
import Derived.Test.YtfllahfbmaafcaaW9
import Derived.Test.YtfllahfbmaafcaaW4
namespace Go.Proofs.aH
open Go.Proofs Ab
noncomputable section
set_option maxRecDepth 100000
set_option maxHeartbeats 4000000
set_option linter.unusedVariables false
set_option linter.unusedSimpArgs false
def AE:Code:=(Try.f16.body).getD .skip
theorem Vd:Try.f16.body=some AE:=by kernel_rfl
def MH:Code:=(cC AE).getD 0 .skip
def ir (steps:List Int) (q:ay):Nat→Nat→List Int→List Int
 | 0,_,iY=>iY
 | d_+1,i0,iY=>ir steps q d_ (i0+1) (iY++[(IntKind.i64.wrap ((iY.g i0)+(ab (steps.g i0) (IntKind.i64.wrap (0 - q.aK)) q.aI)))])
theorem AF {d:Nat} {h:au} {gg0:au} (iu:AV) (steps:List Int) (q:ay) (cY:Nat) (cD:eS h .i64 3 iu steps) (eX:q.name.length<2^60) (v8:aZ h q.aB q.af) (oI:aA.ok h q) (yd: -1000000000≤q.aj) (D4:q.aj≤q.ah) (Ka:q.ah≤1000000000) (Kb:0≤q.aI) (Kc:q.aI≤10000) (Ke:0≤q.aK) (aiC:q.aK≤10000) (aiD:steps.length≤40) (bY:Tidy h) (tA:h.nx≤cY) (NG0:h.nx≤gg0.nx) (af4:cY<gg0.nx):∀(k_ i_:Nat) (iY:List Int) (z0:AV) (_:i_+k_=steps.length) (_:(List.length iY=i_+1)) (x:Nat→AV) (hh:au) (aN:Tidy hh) (bj:Has h hh) (jo:h.nx≤hh.nx) (du:hh.get cY=some (a_.cells [(AV.str q.name),(Zi q.aj),(Zi q.ah),(Zi q.aI),(Zi q.aK),(Zi q.bad),q.aB] 26 false)) (Oi:dx 3 gg0 hh z0 (zs .i64 iY)) (lz0:iY.length≤1000000000) (aaa:gg0.nx≤hh.nx),lD (σ:=List Int) (ρ:=Unit) (cW (d+1)) MH ⟨((x 0)::(x 1)::iu::(Pt cY)::rx x 4 3 (z0::(Zn i_)::rx x 9 34 [])),hh,[],.no⟩ (.exit 0) hh (fun r z y=>((y 0)::(y 1)::iu::(Pt cY)::rx y 4 3 (z::rx y 8 35 []))) (fun r z y=>((y 0)::(y 1)::iu::(Pt cY)::rx y 4 39 [])) (fun r z hk=>Has h hk∧hk.get cY=some (a_.cells [(AV.str q.name),(Zi q.aj),(Zi q.ah),(Zi q.aI),(Zi q.aK),(Zi q.bad),q.aB] 26 false)∧(List.length r=steps.length+1)∧dx 3 gg0 hk z (zs .i64 r)∧r.length≤1000000000) (fun r z hk=>Has h hk) (Sum.inl (ir steps q k_ i_ iY))
 | 0,i0,iY,z0,kY,zj,x,hh,aN,bj,jo,du,Oi,lz0,aaa=>by
   have jA:=cD.small
   have acA:=v8.small
   have ze:=aN _ _ du
   have nY:dJ (some (.slice 3)) (some iu)=some (Zn steps.length):=cD.len
   have q2:(decide (((i0:Nat):Int)<((steps.length:Nat):Int)))=false:=d!
   exact lD.out iY z0 rfl (pk (d+1) _ _ hh _ hh (CN 2<|VV nY<|VV (bZ 3 false false .i64 ((i0:Nat):Int) ((steps.length:Nat):Int))<|BB q2<|ZZ) k!) aN o! ⟨bj,du,(show (List.length iY=steps.length+1) from (by first | omega | (simp only[List.length_append,List.length_cons,List.length_nil];omega) | simp)),Oi,(by first | omega | (simp<;>omega))⟩ k!
 | d_+1,i0,iY,z0,kY,zj,x,hh,aN,bj,jo,du,Oi,lz0,aaa=>by
   have jA:=cD.small
   have acA:=v8.small
   have ze:=aN _ _ du
   have nY:dJ (some (.slice 3)) (some iu)=some (Zn steps.length):=cD.len
   have q2:(decide (((i0:Nat):Int)<((steps.length:Nat):Int)))=true:=d!
   obtain ⟨p4,q5,pH,_⟩:=(dx.zs Oi o! k! k!).elem (i:=i0) o!
   have DP:dr env (some (.slice 3)) (some z0) (some (Zn i0))=some (AV.ptr p4 q5):=pH
   have Af:bG env hh 3 (AV.ptr p4 q5)=some (Zi (iY.g i0)):=(dx.zs Oi o! k! k!).load o! pH
   obtain ⟨p8,q9,Ve,_⟩:=cD.elem (i:=i0) o!
   have ix7:dr env (some (.slice 3)) (some iu) (some (Zn i0))=some (AV.ptr p8 q9):=Ve
   have MI:bG env hh 3 (AV.ptr p8 q9)=some (Zi (steps.g i0)):=(cD.has bj).load o! Ve
   have aiE:=fp (steps.g i0) (IntKind.i64.wrap (0 - q.aK)) q.aI (by first | omega | (rw[wrap_i64 o! o!];omega)) (by first | omega | (rw[wrap_i64 o! o!];omega)) (by first | omega | (rw[wrap_i64 o! o!];omega))
   have LG:=mc (d:=d) (steps.g i0) (IntKind.i64.wrap (0 - q.aK)) q.aI (by first | omega | (rw[wrap_i64 o! o!];omega)) (by first | omega | (rw[wrap_i64 o! o!];omega)) (by first | omega | (rw[wrap_i64 o! o!];omega)) aN
   obtain ⟨Ur,af5,Us,ajS,aab,Vf⟩:=iQ aN (a_.cells [(Zi (IntKind.i64.wrap ((iY.g i0)+(ab (steps.g i0) (IntKind.i64.wrap (0 - q.aK)) q.aI))))] 3 false)
   have Ut:Has h Ur:=bj.trans Vf
   have Kk:Has hh Ur:=Vf
   obtain ⟨z14,H8,acB,E6,aac,aad,aiF⟩:=dx.Jt (k:= .i64) (g:=gg0) (tys:= #[30,30]) (v:=(IntKind.i64.wrap ((iY.g i0)+(ab (steps.g i0) (IntKind.i64.wrap (0 - q.aK)) q.aI)))) (L:=iY) Us o! (Oi.has Kk) aab (by first | omega | (simp<;>omega)) rfl rfl k! k! k! (bytes:=8) k! (z0:=Zi 0) k! rfl (by decide)
   have C8:Has h H8:=Has.aa5 Ut bY o! aad
   have u16:=fj 3 false true i0 1 o!
   exact lD.round (congrArg Sum.inl (by simp only[ir,ao,ai])) (pk (d+1) _ _ hh _ H8 (CN 2<|VV nY<|VV (bZ 3 false false .i64 ((i0:Nat):Int) ((steps.length:Nat):Int))<|BB q2<|CN 3<|VV DP<|MM Af<|CN 2<|VV ix7<|MM MI<|CC<|MM (aM 3 4 (Zi q.aK) du k!)<|CN 2<|MM (aM 3 3 (Zi q.aI) du k!)<|EE LG<|CC<|NN af5 (fun i=>(AV.slice i 0 1 1 false))<|PP (show bU env Ur #[30,30] z0 (AV.slice hh.nx 0 1 1 false)=some (z14,H8) from acB)<|CC<|HH Af<|HH (show AV.same 20 (Zi (iY.g i0)) (Zi (iY.g i0))=true from aU 19 _ _)<|HH (show bG env Ur 3 (AV.ptr p4 q5)=some (Zi (iY.g i0)) from (((dx.zs Oi o! k! k!).has Kk).load o! pH))<|HH (show AV.same 20 (Zi (iY.g i0)) (Zi (iY.g i0))=true from aU 19 _ _)<|HH MI<|HH (show AV.same 20 (Zi (steps.g i0)) (Zi (steps.g i0))=true from aU 19 _ _)<|HH (aM 3 4 (Zi q.aK) du k!)<|HH (show AV.same 20 (Zi q.aK) (Zi q.aK)=true from aU 19 _ _)<|HH (aM 3 3 (Zi q.aI) du k!)<|HH (show AV.same 20 (Zi q.aI) (Zi q.aI)=true from aU 19 _ _)<|HH (show ∃o,Ur.get hh.nx=some o∧a_.same o (a_.cells [(Zi (IntKind.i64.wrap ((iY.g i0)+(ab (steps.g i0) (IntKind.i64.wrap (0 - q.aK)) q.aI))))] 3 false)=true from ⟨_,aab,by simp [a_.same,cL,AV.same]⟩)<|CC<|VV u16<|CC<|ZZ) k!) o! _ k! (fun x=>AF iu steps q cY cD eX v8 oI yd D4 Ka Kb Kc Ke aiC aiD bY tA NG0 af4 d_ (i0+1) (iY++[(IntKind.i64.wrap ((iY.g i0)+(ab (steps.g i0) (IntKind.i64.wrap (0 - q.aK)) q.aI)))]) z14 o! (show (List.length (iY++[(IntKind.i64.wrap ((iY.g i0)+(ab (steps.g i0) (IntKind.i64.wrap (0 - q.aK)) q.aI)))])=(i0+1)+1) from (by first | omega | (simp only[List.length_append,List.length_cons,List.length_nil];omega) | simp)) x H8 E6 C8 o! (aad _ _ o! (Vf _ _ du)) aiF (by first | omega | (simp<;>omega)) o!)
def aO (q:ay) (begin:Int) (steps:List Int):List Int:=(ir steps q steps.length 0 ([(ab begin q.aj q.ah)]))
theorem Vg {d:Nat} {h:au} {iu:AV} (q:ay) (begin:Int) (steps:List Int) (jh:aA.ok h q) (ur:eS h .i64 3 iu steps) (mM: -1000000000≤q.aj) (Ju:q.aj≤q.ah) (GW:q.ah≤1000000000) (aiy:0≤q.aI) (aiz:q.aI≤10000) (ako:0≤q.aK) (pre6:q.aK≤10000) (akp:steps.length≤40) (bY:Tidy h):∃z hk,cW (d+2) (.fn 16) [(AV.agg [(AV.str q.name),(Zi q.aj),(Zi q.ah),(Zi q.aI),(Zi q.aK),(Zi q.bad),q.aB]),(Zi begin),iu] h= .ret z hk∧Grow h hk∧eS hk .i64 3 z (aO q begin steps)∧dx 3 h hk z (zs .i64 (aO q begin steps)):=by
 have Qe:=ur.small
 have ky:=jh.2.small
 obtain ⟨h1,cA,cq,jf,aY,ct⟩:=iQ bY (a_.cells [(AV.str q.name),(Zi q.aj),(Zi q.ah),(Zi q.aI),(Zi q.aK),(Zi q.bad),q.aB] 26 false)
 have bI:Has h h1:=ct
 have ajT:=fp begin q.aj q.ah (by first | omega | (rw[wrap_i64 o! o!];omega)) (by first | omega | (rw[wrap_i64 o! o!];omega)) (by first | omega | (rw[wrap_i64 o! o!];omega))
 have k2:=mc (d:=d) begin q.aj q.ah (by first | omega | (rw[wrap_i64 o! o!];omega)) (by first | omega | (rw[wrap_i64 o! o!];omega)) (by first | omega | (rw[wrap_i64 o! o!];omega)) cq
 obtain ⟨h3,xQ,gF,Me,qo,fG⟩:=iQ cq (a_.cells [(Zi (ab begin q.aj q.ah))] 3 false)
 have ik:Has h h3:=bI.trans fG
 have oz4:dx 3 h1 h3 (AV.slice h1.nx 0 1 1 false) (zs .i64 ([(ab begin q.aj q.ah)])):= .inr ⟨by simp [zs],h1.nx,false,rfl,by omega,qo⟩
 obtain ⟨zo7,yl5,h6,MJ,mh,aca,Vh,acC,agH,acD,aiG⟩:=lD.n rfl (AF (d:=d) (h:=h) (gg0:=h1) iu steps q h.nx ur jh.1 jh.2 jh o! o! o! o! o! o! o! o! bY o! o! o! steps.length 0 ([(ab begin q.aj q.ah)]) (AV.slice h1.nx 0 1 1 false) o! (show (List.length ([(ab begin q.aj q.ah)])=0+1) from (by first | omega | (simp only[List.length_append,List.length_cons,List.length_nil];omega) | simp)) (fun k_=>(((AV.agg [(AV.str q.name),(Zi q.aj),(Zi q.ah),(Zi q.aI),(Zi q.aK),(Zi q.bad),q.aB])::(Zi begin)::iu::(Pt h.nx)::AV.undef::AV.undef::AV.aQ::(AV.slice h1.nx 0 1 1 false)::(Zi 0)::(Zi begin)::(AV.ptr h.nx 1)::(AV.ptr h.nx 1)::(Zi q.aj)::(AV.ptr h.nx 1)::(AV.ptr h.nx 2)::(Zi q.ah)::(Zi (ab begin q.aj q.ah))::(AV.slice h1.nx 0 1 1 false)::kX 25):List AV).getD k_ AV.undef) h3 gF ik o! (fG _ _ aY) oz4 (by first | omega | (simp<;>omega)) o!)
 have nu:Has h h6:=Vh
 have e:aO q begin steps=(ir steps q steps.length 0 ([(ab begin q.aj q.ah)])):=by simp only[aO,ao,ai]
 rw[e]
 have oz:=dx.le (h0:=h) acD o!
 exact ⟨zo7,ma rfl (bx Try.func16 Vd rfl (.inr rfl) (pk (d+1) _ _ h _ h6 (NN cA (fun i=>(Pt i))<|CN 4<|MM (aM 3 1 (Zi q.aj) aY k!)<|CN 2<|MM (aM 3 2 (Zi q.ah) aY k!)<|EE k2<|NN xQ (fun i=>(AV.slice i 0 1 1 false))<|CN 2<|LL MJ<|CN 2<|ZZ) k!) k!) bY ⟨mh,nu,by omega⟩ (P:=fun hh=>eS hh .i64 3 zo7 (ir steps q steps.length 0 ([(ab begin q.aj q.ah)]))∧dx 3 h hh zo7 (zs .i64 (ir steps q steps.length 0 ([(ab begin q.aj q.ah)])))) ⟨oz.zs o! k! k!,oz⟩ fun v=>⟨oz.Js v k! k!,oz.Zw v⟩⟩
def vc:Code:=(Try.f17.body).getD .skip
theorem MK:Try.f17.body=some vc:=by kernel_rfl
def Hz:Code:=(cC vc).getD 0 .skip
def dq (q:ay) (bits:Int):Nat→Nat→Int→List Bool→List Bool
 | 0,_,nt,tK=>tK
 | d_+1,i0,nt,tK=>(bif (decide ((ae .i64 (aq .i64 bits ((i0:Nat):Int)) 1)=1)) then (bif (decide (nt<q.bad)) then dq q bits d_ (i0+1) (IntKind.i64.wrap (nt+1)) (tK.set i0 true) else dq q bits d_ (i0+1) nt tK) else dq q bits d_ (i0+1) nt tK)
theorem mw {d:Nat} {h:au} (bits:Int) (q:ay) (cY:Nat) (dj:Nat) (cD:q.name.length<2^60) (eX:aZ h q.aB q.af) (oI:aA.ok h q) (yd:q.af.length≤60) (bY:Tidy h) (tA:h.nx≤cY) (zn:h.nx≤dj) (ny:dj≠cY):∀(k_ i_:Nat) (nt:Int) (tK:List Bool) (_:i_+k_=q.af.length) (x:Nat→AV) (hh:au) (aN:Tidy hh) (bj:Has h hh) (jo:h.nx≤hh.nx) (aae:tK.length=q.af.length) (du:hh.get cY=some (a_.cells [(AV.str q.name),(Zi q.aj),(Zi q.ah),(Zi q.aI),(Zi q.aK),(Zi q.bad),q.aB] 26 false)) (gH:hh.get dj=some (a_.cells (bs tK) 4 false)),lD (σ:=List Bool) (ρ:=Unit) (cW (d)) Hz ⟨((x 0)::(Zi bits)::(Pt cY)::(x 3)::(x 4)::(AV.slice dj 0 q.af.length q.af.length false)::(Zi nt)::(Zn i_)::rx x 8 27 []),hh,[],.no⟩ (.exit 0) hh (fun r z y=>((y 0)::(Zi bits)::(Pt cY)::(y 3)::(y 4)::(AV.slice dj 0 q.af.length q.af.length false)::rx y 6 29 [])) (fun r z y=>((y 0)::(Zi bits)::(Pt cY)::(y 3)::(y 4)::(AV.slice dj 0 q.af.length q.af.length false)::rx y 6 29 [])) (fun r z hk=>Has h hk∧hk.get cY=some (a_.cells [(AV.str q.name),(Zi q.aj),(Zi q.ah),(Zi q.aI),(Zi q.aK),(Zi q.bad),q.aB] 26 false)∧hk.get dj=some (a_.cells (bs r) 4 false)∧r.length=q.af.length) (fun r z hk=>Has h hk) (Sum.inl (dq q bits k_ i_ nt tK))
 | 0,i0,nt,tK,kY,x,hh,aN,bj,jo,aae,du,gH=>by
   have rk:=eX.small
   have ze:=aN _ _ du
   have TH:=aN _ _ gH
   have q1:(decide (((i0:Nat):Int)<((q.af.length:Nat):Int)))=false:=d!
   exact lD.out tK AV.undef rfl (pk (d) _ _ hh _ hh (CN 3<|VV (bZ 3 false false .i64 ((i0:Nat):Int) ((q.af.length:Nat):Int))<|BB q1<|ZZ) k!) aN o! ⟨bj,du,gH,l!⟩ k!
 | d_+1,i0,nt,tK,kY,x,hh,aN,bj,jo,aae,du,gH=>by
   have rk:=eX.small
   have ze:=aN _ _ du
   have TH:=aN _ _ gH
   have q1:(decide (((i0:Nat):Int)<((q.af.length:Nat):Int)))=true:=d!
   have u2:cF env .shr 3 false false (some (Zi bits)) (some (Zn i0))=some (Zi (aq .i64 bits ((i0:Nat):Int))):=mQ 3 false false .i64 .i64 o!
   have u3:cF env .and 3 false true (some (Zi (aq .i64 bits ((i0:Nat):Int)))) (some (Zi 1))=some (Zi (ae .i64 (aq .i64 bits ((i0:Nat):Int)) 1)):=lG 3 false true .i64 (aq .i64 bits ((i0:Nat):Int)) 1
   rcases Bool.eq_false_or_eq_true (decide ((ae .i64 (aq .i64 bits ((i0:Nat):Int)) 1)=1)) with f1 | f1
   · have jg:=of_decide_eq_true f1
     rcases Bool.eq_false_or_eq_true (decide (nt<q.bad)) with f2 | f2
     · have nr:=of_decide_eq_true f2
       have LK:dr env (some (.slice 4)) (some (AV.slice dj 0 q.af.length q.af.length false)) (some (Zn i0))=some (AV.ptr dj i0):=Jq k! (show i0<q.af.length by omega) o!
       obtain ⟨h7,acE⟩:∃hq_:au,hq_=hh.put dj (some (a_.cells (bs (tK.set i0 true)) 4 false)):=⟨_,rfl⟩
       have pJ:eF env hh 4 (AV.ptr dj i0) (AV.bool true)=some h7:=by rw[acE];exact S2 k! gH l!
       have YJ:Chg hh h7 dj (a_.cells (bs (tK.set i0 true)) 4 false):=by rw[acE];exact jR aN gH
       have lM:=YJ.1
       have Ha:h7.nx=hh.nx:=by rw[acE];rfl
       have kJ:Has h h7:=YJ.has bj bY o!
       have u8:=fj 3 false true i0 1 o!
       exact lD.round (congrArg Sum.inl (by simp only[dq,f1,f2,ao,ai])) (pk (d) _ _ hh _ h7 (CN 3<|VV (bZ 3 false false .i64 ((i0:Nat):Int) ((q.af.length:Nat):Int))<|BB q1<|CN 2<|VV u2<|VV u3<|VV (o_ 3 false true .i64 (ae .i64 (aq .i64 bits ((i0:Nat):Int)) 1) 1)<|CC<|BC f1<|BC f1<|BM f1 (aM 3 5 (Zi q.bad) du k!)<|BV f1 (bZ 3 false false .i64 nt q.bad)<|VV (pG (decide (nt<q.bad)) false f1)<|BB f2<|CN 2<|VV LK<|SS pJ<|CN 4<|VV u8<|CC<|ZZ) k!) o! _ k! (fun x=>mw bits q cY dj cD eX oI yd bY tA zn ny d_ (i0+1) (IntKind.i64.wrap (nt+1)) (tK.set i0 true) o! x h7 lM kJ o! l! (YJ.2.2 _ _ o! du) YJ.2.1)
     · have nr:=of_decide_eq_false f2
       have u6:=fj 3 false true i0 1 o!
       exact lD.round (congrArg Sum.inl (by simp only[dq,f1,f2,ao,ai])) (pk (d) _ _ hh _ hh (CN 3<|VV (bZ 3 false false .i64 ((i0:Nat):Int) ((q.af.length:Nat):Int))<|BB q1<|CN 2<|VV u2<|VV u3<|VV (o_ 3 false true .i64 (ae .i64 (aq .i64 bits ((i0:Nat):Int)) 1) 1)<|CC<|BC f1<|BC f1<|BM f1 (aM 3 5 (Zi q.bad) du k!)<|BV f1 (bZ 3 false false .i64 nt q.bad)<|VV (pG (decide (nt<q.bad)) false f1)<|BC f2<|VV u6<|CC<|ZZ) k!) o! _ k! (fun x=>mw bits q cY dj cD eX oI yd bY tA zn ny d_ (i0+1) nt tK o! x hh aN bj o! l! du gH)
   · have jg:=of_decide_eq_false f1
     have u5:=fj 3 false true i0 1 o!
     exact lD.round (congrArg Sum.inl (by simp only[dq,f1,ao,ai])) (pk (d) _ _ hh _ hh (CN 3<|VV (bZ 3 false false .i64 ((i0:Nat):Int) ((q.af.length:Nat):Int))<|BB q1<|CN 2<|VV u2<|VV u3<|VV (o_ 3 false true .i64 (ae .i64 (aq .i64 bits ((i0:Nat):Int)) 1) 1)<|CC<|BB f1<|BB f1<|BB f1<|BV f1 (vG false f1)<|FF<|CC<|VV u5<|CC<|ZZ) k!) o! _ k! (fun x=>mw bits q cY dj cD eX oI yd bY tA zn ny d_ (i0+1) nt tK o! x hh aN bj o! l! du gH)
def aF (q:ay) (bits:Int):List Bool:=(dq q bits q.af.length 0 0 (List.replicate q.af.length false))
theorem ML {d:Nat} {h:au} (q:ay) (bits:Int) (jh:aA.ok h q) (mM:q.af.length≤60) (bY:Tidy h):∃z n op hk,cW (d+1) (.fn 17) [(AV.agg [(AV.str q.name),(Zi q.aj),(Zi q.ah),(Zi q.aI),(Zi q.aK),(Zi q.bad),q.aB]),(Zi bits)] h= .ret (.slice z 0 n n op) hk∧Grow h hk∧hk.get z=some (a_.cells (bs (aF q bits)) 4 false)∧(aF q bits).length=n∧h.nx≤z:=by
 have ky:=jh.2.small
 obtain ⟨h1,cA,cq,jf,aY,ct⟩:=iQ bY (a_.cells [(AV.str q.name),(Zi q.aj),(Zi q.ah),(Zi q.aI),(Zi q.aK),(Zi q.bad),q.aB] 26 false)
 have bI:Has h h1:=ct
 have ln2:dJ (some (.slice 45)) (some q.aB)=some (Zn q.af.length):=jh.2.len
 have mk3:NM env (some (.slice 4)) (some (Zn q.af.length)) (some (Zn q.af.length))=some (a_.cells (et [(AV.bool false)] q.af.length) 4 false,fun i=>AV.slice i 0 q.af.length q.af.length false):=Pn (bytes:=1) (z:=(AV.bool false)) k! k! k! rfl (by decide) o!
 obtain ⟨h4,Hw,qp,PK,zm,pc⟩:=iQ cq (a_.cells (et [(AV.bool false)] q.af.length) 4 false)
 have qq:Has h h4:=bI.trans pc
 have af6:h4.get h1.nx=some (a_.cells (bs (List.replicate q.af.length false)) 4 false):=by have q:=zm;rw[S1] at q;exact q
 obtain ⟨zo7,yl5,h6,MJ,mh,aca,Vh,acC,acF,aiH⟩:=lD.n rfl (mw (d:=d) (h:=h) bits q h.nx h1.nx jh.1 jh.2 jh o! bY o! o! o! q.af.length 0 0 (List.replicate q.af.length false) o! (fun k_=>(((AV.agg [(AV.str q.name),(Zi q.aj),(Zi q.ah),(Zi q.aI),(Zi q.aK),(Zi q.bad),q.aB])::(Zi bits)::(Pt h.nx)::AV.undef::AV.aQ::(AV.slice h1.nx 0 q.af.length q.af.length false)::(Zi 0)::(Zi 0)::(AV.ptr h.nx 6)::q.aB::(Zn q.af.length)::(AV.slice h1.nx 0 q.af.length q.af.length false)::kX 23):List AV).getD k_ AV.undef) h4 qp qq o! l! (pc _ _ aY) af6)
 have nu:Has h h6:=Vh
 have e:aF q bits=(dq q bits q.af.length 0 0 (List.replicate q.af.length false)):=by simp only[aF,ao,ai]
 rw[e]
 exact ⟨h1.nx,q.af.length,false,ma rfl (bx Try.func17 MK rfl (.inr rfl) (pk (d) _ _ h _ h6 (NN cA (fun i=>(Pt i))<|CN 2<|MM (aM 24 6 q.aB aY k!)<|VV ln2<|KK mk3 Hw<|CN 3<|LL MJ<|CN 2<|ZZ) k!) k!) bY ⟨mh,nu,by omega⟩ (P:=fun hh=>hh.get h1.nx=some (a_.cells (bs (dq q bits q.af.length 0 0 (List.replicate q.af.length false))) 4 false)∧((dq q bits q.af.length 0 0 (List.replicate q.af.length false))).length=q.af.length∧h.nx≤h1.nx) ⟨acF,l!,by omega⟩ fun v=>(Ps v o!).elim⟩
theorem AG (s:List Int) (q:ay):∀(k i:Nat) (v:List Int),(ir s q k i v).length=v.length+k
 | 0,i,v=>rfl
 | k+1,i,v=>by
   rw[ir,AG s q k (i+1),List.length_append,List.length_singleton];omega
theorem yh (q:ay) (b:Int) (s:List Int):(aO q b s).length=s.length+1:=by
 rw[aO,AG];simp;omega
theorem my (q:ay) (b:Int):∀(k i:Nat) (v:Int) (a:List Bool),(dq q b k i v a).length=a.length
 | 0,i,v,a=>rfl
 | k+1,i,v,a=>by
   rw[dq]
   cases decide ((ae .i64 (aq .i64 b ((i:Nat):Int)) 1)=1) with
   | false=>rw[ai];exact my q b k _ _ _
   | true=>
     rw[ao]
     cases decide (v<q.bad) with
     | false=>rw[ai];exact my q b k _ _ _
     | true=>rw[ao,my q b k,List.length_set]
theorem Dq (q:ay) (b:Int):(aF q b).length=q.af.length:=by
 rw[aF,my,List.length_replicate]
theorem AH (raw:List az) (i0:Nat) (v:List az):∀(k:Nat) (n:Int),(n≤(k:Int))→0≤n∧n≤(v.length:Int)→0≤bK raw i0 v k n∧bK raw i0 v k n≤(v.length:Int)
 | 0,n,_,h=>h
 | k+1,n,hk,h=>by
   rw[bK]
   by_cases a:0<n
   · rw[decide_eq_true a,ao]
     cases decide ((ab (raw.g i0).time 0 40)<((v.g (n - 1).toNat).time)) with
     | false=>exact h
     | true=>exact AH raw i0 v k (n - 1) o! o!
   · rw[decide_eq_false a];exact h
theorem Fu (raw:List az) (i0:Nat) (v:List az):∀(k:Nat) (n:Int),bN raw i0 v k n=bK raw i0 v k n
 | 0,n=>rfl
 | k+1,n=>by rw[bN,bK,Fu raw i0 v k]
def Fv (raw:List az) (i0:Nat) (v:List az) (r:az):List az:=((([]:List az)++(v.take (bK raw i0 v ((v.length:Nat):Int).toNat ((v.length:Nat):Int)).toNat))++[r])++(v.drop (bK raw i0 v ((v.length:Nat):Int).toNat ((v.length:Nat):Int)).toNat)
theorem Qg {raw:List az} {i0:Nat} {v:List az} {r x:az} (h:x∈Fv raw i0 v r):x=r∨x∈v:=by
 rw[Fv,List.nil_append] at h
 rcases List.mem_append.1 h with h | h
 · rcases List.mem_append.1 h with h | h
   · exact .inr (List.mem_of_mem_take h)
   · exact .inl (List.mem_singleton.1 h)
 · exact .inr (List.mem_of_mem_drop h)
theorem Qh (raw:List az) (i0:Nat) (v:List az) (r:az):(Fv raw i0 v r).length=v.length+1:=by
 obtain ⟨a,b⟩:=AH raw i0 v ((v.length:Nat):Int).toNat ((v.length:Nat):Int) o! o!
 rw[Fv,List.nil_append,List.length_append,List.length_append,List.length_singleton,List.length_take,List.length_drop]
 omega
theorem nO (raw:List az) (q:ay) (x:List Int) (bad:List Bool) (P:az→Prop)
 (hb:∀i,i<raw.length→0<q.af.length→bad.g (ab (raw.g i).aD 0 ((q.af.length - 1:Nat):Int)).toNat=true→P ⟨(ab (raw.g i).aD 0 ((q.af.length - 1:Nat):Int)),(ab (raw.g i).time 0 40),(ab (raw.g i).value (-1000000000) 1000000000)⟩)
 (hg:∀i,i<raw.length→0<q.af.length→bad.g (ab (raw.g i).aD 0 ((q.af.length - 1:Nat):Int)).toNat=false→∀y,y=(IntKind.i64.wrap ((dE x (ab (raw.g i).time 0 40))+(ab (raw.g i).value (IntKind.i64.wrap (0 -((bh (q.af.g (ab (raw.g i).aD 0 ((q.af.length - 1:Nat):Int)).toNat) (ab (raw.g i).time 0 40)).1))) (bh (q.af.g (ab (raw.g i).aD 0 ((q.af.length - 1:Nat):Int)).toNat) (ab (raw.g i).time 0 40)).1)))→-1000000000≤y→y≤1000000000→P ⟨(ab (raw.g i).aD 0 ((q.af.length - 1:Nat):Int)),(ab (raw.g i).time 0 40),y⟩):
 ∀(k i:Nat) (v:List az),i+k=raw.length→(∀r∈v,P r)→v.length≤i→(∀r∈ck raw q x bad k i v,P r)∧(ck raw q x bad k i v).length≤raw.length
 | 0,i,v,e,h,hl=>by rw[ck];exact ⟨h,by omega⟩
 | k+1,i,v,e,h,hl=>by
   rw[ck]
   by_cases g0:(0:Int)<((q.af.length:Nat):Int)
   · rw[decide_eq_true g0,ao]
     have go:∀r:az,P r→(∀r_1∈ck raw q x bad k (i+1) (Fv raw i v r),P r_1)∧(ck raw q x bad k (i+1) (Fv raw i v r)).length≤raw.length:=fun r hr=>
      nO raw q x bad P hb hg k (i+1) _ o! (fun y hy=>(Qg hy).elim (fun e=>by rw[e];exact hr) (h y)) (by rw[Qh];omega)
     have no:(∀r_1∈ck raw q x bad k (i+1) v,P r_1)∧(ck raw q x bad k (i+1) v).length≤raw.length:=nO raw q x bad P hb hg k (i+1) v o! h o!
     cases hbd:bad.g (ab (raw.g i).aD 0 ((q.af.length - 1:Nat):Int)).toNat with
     | true=>
       rw[ao]
       cases decide ((ab (raw.g i).value (-1000000000) 1000000000)<(-1000000000)) with
       | true=>exact no
       | false=>
         rw[ai]
         cases decide (1000000000<(ab (raw.g i).value (-1000000000) 1000000000)) with
         | true=>exact no
         | false=>exact go _ (hb i o! o! hbd)
     | false=>
       rw[ai]
       generalize ey:(IntKind.i64.wrap ((dE x (ab (raw.g i).time 0 40))+(ab (raw.g i).value (IntKind.i64.wrap (0 -((bh (q.af.g (ab (raw.g i).aD 0 ((q.af.length - 1:Nat):Int)).toNat) (ab (raw.g i).time 0 40)).1))) (bh (q.af.g (ab (raw.g i).aD 0 ((q.af.length - 1:Nat):Int)).toNat) (ab (raw.g i).time 0 40)).1)))=y
       by_cases a1:y< -1000000000
       · rw[decide_eq_true a1];exact no
       · rw[decide_eq_false a1,ai]
         by_cases a2:1000000000<y
         · rw[decide_eq_true a2];exact no
         · rw[decide_eq_false a2,ai]
           rw[Fu]
           exact go _ (hg i o! o! hbd y ey.symm o! o!)
   · rw[decide_eq_false g0];exact ⟨h,by show v.length≤_;omega⟩
theorem Fx (q:ay) (x:List Int) (bad:List Bool) (raw:List az):(aL q x bad raw).length≤raw.length:=
 (nO raw q x bad (fun _=>True) (fun _ _ _ _=>trivial) (fun _ _ _ _ _ _ _ _=>trivial) raw.length 0 [] o! (fun _ _=>trivial) (by decide)).2
theorem lS {q:ay} (h:aE q=0):(-1000000000≤q.aj∧q.aj≤q.ah∧q.ah≤1000000000)∧(0≤q.aI∧q.aI≤10000∧0≤q.aK∧q.aK≤10000)∧0≤q.bad∧q.bad≤(q.af.length:Int)∧q.af.length≤8:=by
 have f:RF q []:=EW (MD h (by decide) fun i hi=>by cases hi)
 exact ⟨f.start,f.xz,f.bad⟩
def vd:Code:=(Try.f11.body).getD .skip
theorem Dr:Try.f11.body=some vd:=by kernel_rfl
def HA:Code:=(cC vd).getD 0 .skip
def fT (l_:List Span) (x_:Int):Nat→Nat→Option (Bool)
 | 0,_=>none
 | d_+1,i0=>(bif (decide ((l_.g i0).aX≤x_)) then (bif (decide (x_≤((l_.g i0).aG))) then some true else fT l_ x_ d_ (i0+1)) else fT l_ x_ d_ (i0+1))
theorem mz {d:Nat} {h:au} (qA:AV) (x_:Int) (l_:List Span) (cD:aZ h qA l_):∀(k_ i_:Nat) (_:i_+k_=l_.length) (x:Nat→AV) (hh:au) (aN:Tidy hh) (bj:Has h hh),aW (cW (d)) HA ⟨(qA::(Zi x_)::rx x 2 3 ((Zn i_)::rx x 6 22 [])),hh,[],.no⟩ (.exit 0) hh (fun y=>(qA::(Zi x_)::rx y 2 26 [])) (fun r y=>(qA::(Zi x_)::(y 2)::(y 3)::(AV.bool r)::rx y 5 23 [])) (fT l_ x_ k_ i_)
 | 0,i0,kY,x,hh,aN,bj=>by
   have jA:=cD.small
   have nY:dJ (some (.slice 23)) (some qA)=some (Zn l_.length):=(cD.has bj).len
   have q2:(decide (((i0:Nat):Int)<((l_.length:Nat):Int)))=false:=d!
   exact aW.out rfl (pk (d) _ _ hh _ hh (CN 2<|VV nY<|VV (bZ 3 false false .i64 ((i0:Nat):Int) ((l_.length:Nat):Int))<|BB q2<|ZZ) k!) (Grow.refl aN) k!
 | d_+1,i0,kY,x,hh,aN,bj=>by
   have jA:=cD.small
   have nY:dJ (some (.slice 23)) (some qA)=some (Zn l_.length):=(cD.has bj).len
   have q2:(decide (((i0:Nat):Int)<((l_.length:Nat):Int)))=true:=d!
   obtain ⟨p4,q5,pH⟩:=(cD.has bj).elem (i:=i0) o!
   have DP:dr env (some (.slice 23)) (some qA) (some (Zn i0))=some (AV.ptr p4 q5):=pH
   have Af:bG env hh 3 (AV.ptr p4 (q5+0))=some (Zi (l_.g i0).aX):=(cD.has bj).part (t:=3) (j:=0) o! pH k! rfl
   rcases Bool.eq_false_or_eq_true (decide ((l_.g i0).aX≤x_)) with f1 | f1
   · have jg:=of_decide_eq_true f1
     obtain ⟨p9,rO,Vi⟩:=(cD.has bj).elem (i:=i0) o!
     have Wd:dr env (some (.slice 23)) (some qA) (some (Zn i0))=some (AV.ptr p9 rO):=Vi
     have Vj:bG env hh 3 (AV.ptr p9 (rO+1))=some (Zi (l_.g i0).aG):=(cD.has bj).part (t:=3) (j:=1) o! Vi k! rfl
     rcases Bool.eq_false_or_eq_true (decide (x_≤((l_.g i0).aG))) with f2 | f2
     · have nr:=of_decide_eq_true f2
       exact aW.ret true (by simp only[fT,f1,f2,ao,ai]) (pk (d) _ _ hh _ hh (CN 2<|VV nY<|VV (bZ 3 false false .i64 ((i0:Nat):Int) ((l_.length:Nat):Int))<|BB q2<|CN 2<|VV DP<|CC<|MM Af<|CC<|VV (qg 3 false false .i64 (l_.g i0).aX x_)<|CC<|BC f1<|BC f1<|BC f1<|BV f1 Wd<|BC f1<|BM f1 Vj<|BV f1 (qg 3 false false .i64 x_ (l_.g i0).aG)<|VV (pG (decide (x_≤((l_.g i0).aG))) false f1)<|BC f2<|ZZ) k!) (Grow.refl aN) k!
     · have nr:=of_decide_eq_false f2
       have Tt:=fj 3 false true i0 1 o!
       exact aW.round (by simp only[fT,f1,f2,ao,ai]) (pk (d) _ _ hh _ hh (CN 2<|VV nY<|VV (bZ 3 false false .i64 ((i0:Nat):Int) ((l_.length:Nat):Int))<|BB q2<|CN 2<|VV DP<|CC<|MM Af<|CC<|VV (qg 3 false false .i64 (l_.g i0).aX x_)<|CC<|BC f1<|BC f1<|BC f1<|BV f1 Wd<|BC f1<|BM f1 Vj<|BV f1 (qg 3 false false .i64 x_ (l_.g i0).aG)<|VV (pG (decide (x_≤((l_.g i0).aG))) false f1)<|BC f2<|VV Tt<|CC<|ZZ) k!) (Grow.refl aN) _ k! (fun x=>mz qA x_ l_ cD d_ (i0+1) o! x hh aN bj)
   · have jg:=of_decide_eq_false f1
     have u8:=fj 3 false true i0 1 o!
     exact aW.round (by simp only[fT,f1,ao,ai]) (pk (d) _ _ hh _ hh (CN 2<|VV nY<|VV (bZ 3 false false .i64 ((i0:Nat):Int) ((l_.length:Nat):Int))<|BB q2<|CN 2<|VV DP<|CC<|MM Af<|CC<|VV (qg 3 false false .i64 (l_.g i0).aX x_)<|CC<|BB f1<|BB f1<|BB f1<|BB f1<|BB f1<|BB f1<|BV f1 (vG false f1)<|FF<|CC<|VV u8<|CC<|ZZ) k!) (Grow.refl aN) _ k! (fun x=>mz qA x_ l_ cD d_ (i0+1) o! x hh aN bj)
def gA (l_:List Span) (x_:Int):Bool:=(match (fT l_ x_ l_.length 0) with | none=>false | some rr1=>rr1)
theorem MO {d:Nat} {h:au} {qA:AV} (l_:List Span) (x_:Int) (mS:aZ h qA l_) (bY:Tidy h):cW (d+1) (.fn 11) [qA,(Zi x_)] h= .ret (AV.bool (gA l_ x_)) h:=by
 have Hd:=mS.small
 cases HB:fT l_ x_ l_.length 0 with
 | none=>
   obtain ⟨yl1,h2,Ds,tL⟩:=aW.n HB (mz (d:=d) (h:=h) qA x_ l_ mS l_.length 0 o! (fun k_=>((qA::(Zi x_)::AV.undef::AV.undef::(AV.bool false)::(Zi 0)::kX 22):List AV).getD k_ AV.undef) h bY (Has.refl _))
   have gG:=tL.y
   have Hl:h.nx≤h2.nx:=tL.n
   have fF:Has h h2:=tL.a
   have e:gA l_ x_=false:=by simp only[gA,HB,ao,ai]
   rw[e]
   exact aC rfl (bx Try.func11 Dr rfl (.inr rfl) (pk (d) _ _ h _ h2 (CN 2<|LL Ds<|CC<|ZZ) k!) k!) fF rfl
 | some rr1=>
   obtain ⟨yl1,h2,Ds,tL⟩:=aW.r HB (mz (d:=d) (h:=h) qA x_ l_ mS l_.length 0 o! (fun k_=>((qA::(Zi x_)::AV.undef::AV.undef::(AV.bool false)::(Zi 0)::kX 22):List AV).getD k_ AV.undef) h bY (Has.refl _))
   have gG:=tL.y
   have Hl:h.nx≤h2.nx:=tL.n
   have fF:Has h h2:=tL.a
   have e:gA l_ x_=rr1:=by simp only[gA,HB,ao,ai]
   rw[e]
   exact aC rfl (bx Try.func11 Dr rfl (.inr rfl) (pk (d) _ _ h _ h2 (CN 2<|LL Ds<|ZZ) k!) k!) fF rfl
def tM:Code:=(Try.f27.body).getD .skip
theorem Km:Try.f27.body=some tM:=by kernel_rfl
def D5:Code:=(cC tM).getD 0 .skip
def fR (s:Int):Nat→Nat→List Int→List Int
 | 0,_,r5=>r5
 | d_+1,i0,r5=>(bif (xU s ((i0:Nat):Int)) then fR s d_ (i0+1) (r5++[((i0:Nat):Int)]) else fR s d_ (i0+1) r5)
theorem o6 {d:Nat} {h:au} (s:Int) (bY:Tidy h):∀(k_ i_:Nat) (r5:List Int) (z0:AV) (_:i_+k_=(Int.toNat 8)) (x:Nat→AV) (hh:au) (aN:Tidy hh) (bj:Has h hh) (jo:h.nx≤hh.nx) (Oi:dx 3 h hh z0 (zs .i64 r5)) (lz0:r5.length≤i_),nJ (cW (d+1)) D5 ⟨((AV.int .u64 s)::(x 1)::(x 2)::z0::(x 4)::(Zn i_)::rx x 6 11 []),hh,[],.no⟩ (.exit 0) h 3 (fun r z y=>((AV.int .u64 s)::(y 1)::(y 2)::z::rx y 4 13 [])) (fun r=>zs .i64 r) (Int.toNat 8) (fR s k_ i_ r5)
 | 0,i0,r5,z0,kY,x,hh,aN,bj,jo,Oi,lz0=>by
   have q1:(decide (((i0:Nat):Int)<8))=false:=d!
   exact nJ.out r5 z0 rfl (pk (d+1) _ _ hh _ hh (VV (bZ 3 false true .i64 ((i0:Nat):Int) 8)<|BB q1<|ZZ) k!) ⟨aN,bj,by omega⟩ Oi (by show (zs _ _).length≤_;rw[rf];omega) k!
 | d_+1,i0,r5,z0,kY,x,hh,aN,bj,jo,Oi,lz0=>by
   have q1:(decide (((i0:Nat):Int)<8))=true:=d!
   have k2:=N' (d:=d) s ((i0:Nat):Int) (by first | omega | assumption | (simp only[List.length_set,List.length_replicate,List.length_append,List.length_cons,List.length_nil,List.nil_append]<;>omega) | (rw[List.length_take];omega)) aN
   rcases Bool.eq_false_or_eq_true (xU s ((i0:Nat):Int)) with f1 | f1
   · obtain ⟨h4,Hw,qp,PK,zm,pc⟩:=iQ aN (a_.cells [(Zn i0)] 3 false)
     have qq:Has hh h4:=pc
     obtain ⟨z6,h5,af7,nK,JF,aiI,oz7⟩:=dx.ahm (k:= .i64) (h0:=h) (tys:= #[30,30]) (v:=((i0:Nat):Int)) (L:=r5) qp bY (bj.trans qq) o! (Oi.has qq) zm (by first | omega | (simp<;>omega)) rfl rfl k! k! k! (bytes:=8) k! (z0:=Zi 0) k! rfl (by decide)
     have u8:=fj 3 false true i0 1 o!
     exact nJ.round (by simp only[fR,f1,ao,ai]) (pk (d+1) _ _ hh _ h5 (VV (bZ 3 false true .i64 ((i0:Nat):Int) 8)<|BB q1<|CN 4<|EE k2<|BB f1<|CN 2<|NN Hw (fun i=>(AV.slice i 0 1 1 false))<|PP (show bU env h4 #[30,30] z0 (AV.slice hh.nx 0 1 1 false)=some (z6,h5) from af7)<|CC<|VV u8<|CC<|ZZ) k!) _ k! (fun x=>o6 s bY d_ (i0+1) (r5++[((i0:Nat):Int)]) z6 o! x h5 nK aiI o! oz7 (by first | omega | (simp<;>omega)))
   · have u4:=fj 3 false true i0 1 o!
     exact nJ.round (by simp only[fR,f1,ao,ai]) (pk (d+1) _ _ hh _ hh (VV (bZ 3 false true .i64 ((i0:Nat):Int) 8)<|BB q1<|CN 4<|EE k2<|BV f1 u4<|CC<|ZZ) k!) _ k! (fun x=>o6 s bY d_ (i0+1) r5 z0 o! x hh aN bj o! Oi (by first | omega | (simp<;>omega)))
def iv (s:Int):List Int:=(fR s (Int.toNat 8) 0 ([]))
theorem AI {d:Nat} {h:au} (s:Int) (bY:Tidy h):∃z hk,cW (d+2) (.fn 27) [(AV.int .u64 s)] h= .ret z hk∧Grow h hk∧eS hk .i64 3 z (iv s)∧dx 3 h hk z (zs .i64 (iv s)):=by
 obtain ⟨zo3,yl1,h2,Ds,tL,oz4,ln5⟩:=o6 (d:=d) (h:=h) s bY (Int.toNat 8) 0 ([]) AV.aQ o! (fun k_=>(((AV.int .u64 s)::AV.undef::AV.aQ::AV.aQ::AV.undef::(Zi 0)::kX 11):List AV).getD k_ AV.undef) h bY (Has.refl _) (Nat.le_refl _) (.inl ⟨rfl,rfl⟩) (Nat.zero_le _)
 rw[rf] at ln5
 have gG:=tL.y
 have Hl:h.nx≤h2.nx:=tL.n
 have fF:Has h h2:=tL.a
 have e:iv s=(fR s (Int.toNat 8) 0 ([])):=by simp only[iv,ao,ai]
 rw[e]
 have oz:=dx.le (h0:=h) oz4 o!
 exact ⟨zo3,ma rfl (bx Try.func27 Km rfl (.inr rfl) (pk (d+1) _ _ h _ h2 (CN 3<|LL Ds<|CN 2<|ZZ) k!) k!) bY ⟨gG,fF,by omega⟩ (P:=fun hh=>eS hh .i64 3 zo3 (fR s (Int.toNat 8) 0 ([]))∧dx 3 h hh zo3 (zs .i64 (fR s (Int.toNat 8) 0 ([])))) ⟨oz.zs o! k! k!,oz⟩ fun v=>⟨oz.Js v k! k!,oz.Zw v⟩⟩
def rB:Code:=(Try.f20.body).getD .skip
theorem acG:Try.f20.body=some rB:=by kernel_rfl
def HD:Code:=(cC rB).getD 0 .skip
def pO:Code:=(cC rB).getD 1 .skip
theorem Vk {d:Nat} {h hh:au} {a0 c0 s0:Int} {fnd:Bool} {b9 b10 b11 lp:Nat} {cv:AV} (x:Nat→AV) (bY:Tidy h) (bj:Has h hh) (jo:h.nx≤hh.nx) (aN:Tidy hh) (g9:hh.get b9=some (.cells [.int .u64 a0] 68 false)) (g10:hh.get b10=some (.cells [.int .u64 c0] 68 false)) (g11:hh.get b11=some (.cells [.bool fnd] 4 false)) (l9:h.nx≤b9) (l10:b9<b10) (l11:b10<b11):
 ∃jH h',Ev env (cW (d+8)) pO ⟨rx x 0 9 ((Pt b9)::(Pt b10)::(Pt b11)::(AV.int .u64 s0)::rx x 13 16 ((AV.int .u64 s0)::cv::rx x 31 12 [])),hh,[],.pP lp⟩ .normal ⟨jH,h',[],.pP lp⟩∧Tidy h'∧hh.nx≤h'.nx∧h'.get b9=some (.cells [.int .u64 (ae .u64 a0 s0)] 68 false)∧h'.get b10=some (.cells [.int .u64 (Wb .u64 c0 s0)] 68 false)∧h'.get b11=some (.cells [.bool true] 4 false)∧(∀k w,k≠b9→k≠b10→k≠b11→hh.get k=some w→h'.get k=some w):=by
 have T9:=aN _ _ g9
 have T10:=aN _ _ g10
 have T11:=aN _ _ g11
 have u1:cF env .and 68 false false (some (AV.int .u64 a0)) (some (AV.int .u64 s0))=some (AV.int .u64 (ae .u64 a0 s0)):=lG 68 false false .u64 a0 s0
 have u2:cF env .or 68 false false (some (AV.int .u64 c0)) (some (AV.int .u64 s0))=some (AV.int .u64 (Wb .u64 c0 s0)):=XS 68 false false .u64 c0 s0
 obtain ⟨h3,aiJ,gF,Me,qo,Ao⟩:=yX (t:=68) (n:=1) (i:=b9) (o:=0) (v:=(AV.int .u64 (ae .u64 a0 s0))) (N:=[(AV.int .u64 (ae .u64 a0 s0))]) aN g9 k! rfl k! k! (by simp only[AV.cells,List.all_cons,List.all_nil,Bool.and_true,Bool.and_self,fB,dZ,fC,fD,dh,iT,iU,iV,iW,iX,fE])
 have ik:Has h h3:=Has.cj bj Ao bY o!
 obtain ⟨h4,abu,qp,PK,zm,E2⟩:=yX (t:=68) (n:=1) (i:=b10) (o:=0) (v:=(AV.int .u64 (Wb .u64 c0 s0))) (N:=[(AV.int .u64 (Wb .u64 c0 s0))]) gF (Ao _ _ o! g10) k! rfl k! k! (by simp only[AV.cells,List.all_cons,List.all_nil,Bool.and_true,Bool.and_self,fB,dZ,fC,fD,dh,iT,iU,iV,iW,iX,fE])
 have qq:Has h h4:=Has.cj ik E2 bY o!
 obtain ⟨h5,Vl,nK,ab8,J5,mZ⟩:=yX (t:=4) (n:=1) (i:=b11) (o:=0) (v:=(AV.bool true)) (N:=[(AV.bool true)]) qp (E2 _ _ o! (Ao _ _ o! g11)) k! rfl k! k! (by simp only[AV.cells,List.all_cons,List.all_nil,Bool.and_true,Bool.and_self,fB,dZ,fC,fD,dh,iT,iU,iV,iW,iX,fE])
 have nL:Has h h5:=Has.cj qq mZ bY o!
 have ev:=XQ (.pP lp) (d+8) pO (rx x 0 9 ((Pt b9)::(Pt b10)::(Pt b11)::(AV.int .u64 s0)::rx x 13 16 ((AV.int .u64 s0)::cv::rx x 31 12 []))) hh .normal h5 (MM (aM 68 0 (AV.int .u64 a0) g9 k!)<|CC<|VV u1<|MM (aM 68 0 (AV.int .u64 c0) g10 k!)<|CC<|VV u2<|SS aiJ<|SS abu<|SS Vl<|HH (aM 68 0 (AV.int .u64 a0) g9 k!)<|HH (show AV.same 20 (AV.int .u64 a0) (AV.int .u64 a0)=true from aU 19 _ _)<|HH (aM 68 0 (AV.int .u64 c0) g10 k!)<|HH (show AV.same 20 (AV.int .u64 c0) (AV.int .u64 c0)=true from aU 19 _ _)<|HH (aM 68 0 (AV.int .u64 c0) (Ao _ _ o! g10) k!)<|HH (show AV.same 20 (AV.int .u64 c0) (AV.int .u64 c0)=true from aU 19 _ _)<|ZZ) k!
 exact ⟨_,_,ev,nK,by omega,(mZ _ _ o! (E2 _ _ o! qo)),(mZ _ _ o! zm),J5,fun k w k1 k2 k3 e=>mZ _ _ k3 (E2 _ _ k2 (Ao _ _ k1 e))⟩
def Kn:Code→Code
 | .seq a b=>match Kn a with
   | .skip=>Kn b
   | c=>c
 | .block _ b=>Kn b
 | .loop b=>Kn b
 | .rangeFunc f p a b=> .rangeFunc f p a b
 | _=> .skip
def ve:Code:=PN (Kn rB)
def vf (x:Nat→AV) (b9 b10 b11:Nat):List AV:=rx x 0 9 ((AV.ptr b9 0)::(AV.ptr b10 0)::(AV.ptr b11 0)::rx x 12 31 [])
theorem acH {d:Nat} (x:Nat→AV) (b9 b10 b11 lp:Nat) (s0:Int) (cv:AV) (h:au):
 Ev env (cW (d+8)) ve ⟨rx x 0 9 ((AV.ptr b9 0)::(AV.ptr b10 0)::(AV.ptr b11 0)::rx x 12 17 ((AV.int .u64 s0)::cv::rx x 31 12 [])),h,[],.pP lp⟩ .normal ⟨rx x 0 9 ((AV.ptr b9 0)::(AV.ptr b10 0)::(AV.ptr b11 0)::(AV.int .u64 s0)::rx x 13 16 ((AV.int .u64 s0)::cv::rx x 31 12 [])),h,[],.pP lp⟩:=by
 have ev:=XQ (.pP lp) (d+8) ve (rx x 0 9 ((AV.ptr b9 0)::(AV.ptr b10 0)::(AV.ptr b11 0)::rx x 12 17 ((AV.int .u64 s0)::cv::rx x 31 12 []))) h .normal h (CC<|ZZ) (by kernel_rfl)
 exact Ap (by kernel_rfl) ev
theorem acI (x:Nat→AV) (b9 b10 b11:Nat) (a c:AV):([29,30].zip [a,c]).foldl (fun ts y=>ts.set y.1 y.2) (vf x b9 b10 b11)=rx x 0 9 ((AV.ptr b9 0)::(AV.ptr b10 0)::(AV.ptr b11 0)::rx x 12 17 (a::c::rx x 31 12 [])):=by kernel_rfl
def v_ (L:List (Int×List Gate)):Int:=L.foldl (fun a y=>ae .u64 a y.1) 255
def tN (L:List (Int×List Gate)):Int:=L.foldl (fun a y=>Wb .u64 a y.1) 0
def af8 (hk:au) (a:List AV) (y:Int×List Gate):Prop:=∃cv,a=[.int .u64 y.1,cv]
def SuI (e:au) (b9 b10 b11 lp:Nat) (x:Nat→AV) (dn:Nat) (L:List (Int×List Gate)) (P:Nat→Prop) (hh:au):Prop:=
 e.nx≤hh.nx∧lp<hh.nx∧b9<hh.nx∧b10<hh.nx∧b11<hh.nx∧hh.get b9=some (.cells [.int .u64 (v_ L)] 68 false)∧hh.get b10=some (.cells [.int .u64 (tN L)] 68 false)∧hh.get b11=some (.cells [.bool (!L.isEmpty)] 4 false)∧hh.get lp=some (.loop .ready none (vf x b9 b10 b11) [29,30] ve pO dn)∧∀k,P k↔(k=b9∨k=b10∨k=b11∨k=lp)
theorem af9 {d:Nat} {e:au} {b9 b10 b11 lp:Nat} (x:Nat→AV) (dn:Nat) (he:∀k,e.get k=none) (l9:e.nx≤b9) (l10:b9<b10) (l11:b10<b11) (ll:b11<lp):YlH (cW (d+9)) lp af8 (SuI e b9 b10 b11 lp x dn) where
 aX:=by
  rintro L P hh ⟨en,lx,x9,x10,x11,g9,g10,g11,gp,pp⟩ k hk
  rcases (pp k).1 hk with p | p | p | p<;>omega
 stay:=by
  rintro L P hh hk ⟨en,lx,x9,x10,x11,g9,g10,g11,gp,pp⟩ yk nk kp
  have K:∀k w,k=b9∨k=b10∨k=b11∨k=lp→hh.get k=some w→hk.get k=some w:=fun k w c q=>kp k w ((pp k).2 c) q
  exact ⟨by omega,by omega,by omega,by omega,by omega,K _ _ (by simp) g9,K _ _ (by simp) g10,K _ _ (by simp) g11,K _ _ (by simp) gp,pp⟩
 next:=by
  rintro L a y P hh hLL ⟨cv,rfl⟩ ⟨en,lx,x9,x10,x11,g9,g10,g11,gp,pp⟩ aN
  have c1:=jR (o:= .loop .busy none (vf x b9 b10 b11) [29,30] ve pO dn) aN gp
  obtain ⟨jH,h2,ev,y2,n2,r9,r10,r11,k2⟩:=Vk (d:=d) (h:=e) (hh:=hh.put lp (some (.loop .busy none (vf x b9 b10 b11) [29,30] ve pO dn))) (s0:=y.1) (lp:=lp) (cv:=cv) x (fun i w g=>by rw[he] at g;cases g) (fun i w g=>by rw[he] at g;cases g) en c1.1 (c1.2.2 _ _ o! g9) (c1.2.2 _ _ o! g10) (c1.2.2 _ _ o! g11) l9 l10 l11
  have Ys:hh.nx≤h2.nx:=n2
  have gl2:=k2 _ _ o! o! o! c1.2.1
  have q:=GQ (d:=d+8) (args:=[.int .u64 y.1,cv]) (jump:=none) gp rfl ((acI x b9 b10 b11 (.int .u64 y.1) cv)▸acH x b9 b10 b11 lp y.1 cv hh) gp ev (.inl ⟨rfl,rfl⟩) gl2
  have c3:=jR (o:= .loop .ready none (vf x b9 b10 b11) [29,30] ve pO dn) y2 gl2
  have ne:(!(L++[y]).isEmpty)=true:=by cases L<;>rfl
  have eA:v_ (L++[y])=ae .u64 (v_ L) y.1:=by rw[v_,v_,List.foldl_append];rfl
  have eC:tN (L++[y])=Wb .u64 (tN L) y.1:=by rw[tN,tN,List.foldl_append];rfl
  refine ⟨_,P,q,c3.1,n2,⟨Nat.le_trans en Ys,Nat.lt_of_lt_of_le lx Ys,Nat.lt_of_lt_of_le x9 Ys,Nat.lt_of_lt_of_le x10 Ys,Nat.lt_of_lt_of_le x11 Ys,by rw[eA];exact c3.2.2 _ _ o! r9,by rw[eC];exact c3.2.2 _ _ o! r10,by rw[ne];exact c3.2.2 _ _ o! r11,c3.2.1,pp⟩,fun k p=> .inl p,fun k w n g=>?_⟩
  have nn:¬(k=b9∨k=b10∨k=b11∨k=lp):=fun c=>n ((pp k).2 c)
  exact c3.2.2 _ _ (fun c=>nn (.inr (.inr (.inr c)))) (k2 _ _ (fun c=>nn (.inl c)) (fun c=>nn (.inr (.inl c))) (fun c=>nn (.inr (.inr (.inl c)))) (c1.2.2 _ _ (fun c=>nn (.inr (.inr (.inr c)))) g))
theorem YK {e:au} {b9 b10 b11 lp:Nat} {x:Nat→AV} {dn:Nat} {L L':List (Int×List Gate)} {P P':Nat→Prop} {hh hk:au} (a:SuI e b9 b10 b11 lp x dn L P hh) (a':SuI e b9 b10 b11 lp x dn L' P' hk) (A:Has hh hk):SuI e b9 b10 b11 lp x dn L' P hh:=by
 obtain ⟨en,lx,x9,x10,x11,g9,g10,g11,gp,pp⟩:=a
 obtain ⟨_,_,_,_,_,g9',aiK,aiL,_,_⟩:=a'
 have e9:=A _ _ g9;rw[g9'] at e9
 have e10:=A _ _ g10;rw[aiK] at e10
 have e11:=A _ _ g11;rw[aiL] at e11
 exact ⟨en,lx,x9,x10,x11,by rw[g9,←e9],by rw[g10,←e10],by rw[g11,←e11],gp,pp⟩
theorem Ko {d:Nat} {g hh:au} {q:ay} {l:List az} {lv:AV} {m:Int} {bq bl bm br b9 b10 b11:Nat} (x:Nat→AV) (D:List od) (QX:Tidy g) (hqg:aA.ok g q) (hlg:aZ g lv l) (F2:l.length≤12) (hq8:q.af.length≤8) (XJ:∀k,k<l.length→0≤(l.g k).aD∧(l.g k).aD<(q.af.length:Int)) (l9:g.nx≤b9) (l10:b9<b10) (l11:b10<b11) (lb:b11<bq) (dd:bq<bl∧bl<bm∧bm<br)
 (aN:Tidy hh) (ag:Has g hh) (g9:hh.get b9=some (.cells [.int .u64 255] 68 false)) (g10:hh.get b10=some (.cells [.int .u64 0] 68 false)) (g11:hh.get b11=some (.cells [.bool false] 4 false)) (gq:hh.get bq=some (.cells (aA.c q) 26 false)) (gm:hh.get bm=some (.cells [Zi m] 3 false)) (gr:hh.get br=some (.cells [.aQ] 69 false)) (gl:hh.get bl=some (.cells [lv] 27 false)) (aiM:x 28= .func 44 [] [(AV.ptr bq 0),(AV.ptr bm 0),(AV.ptr br 0),(AV.ptr bl 0)]):
 ∃hk,Ev env (cW (d+12)) (.rangeFunc (.tmp 28) #[29,30] ve pO) ⟨vf x b9 b10 b11,hh,D,.no⟩ .normal ⟨vf x b9 b10 b11,hk,.rQ hh.nx::D,.no⟩∧Tidy hk∧hh.nx<hk.nx∧hk.get hh.nx=some .pz∧hk.get b9=some (.cells [.int .u64 (v_ (cn q l [] m))] 68 false)∧hk.get b10=some (.cells [.int .u64 (tN (cn q l [] m))] 68 false)∧hk.get b11=some (.cells [.bool (!(cn q l [] m).isEmpty)] 4 false)∧∀k w,k≠b9→k≠b10→k≠b11→hh.get k=some w→hk.get k=some w:=by
 have Tr:=aN _ _ gr
 obtain ⟨e,en,he⟩:=zv g.nx
 obtain ⟨h7,n7⟩:=kF (h:=hh) .pz
 have y7:=fi aN n7
 have x7:=kE n7
 obtain ⟨h8,n8⟩:=kF (h:=h7) (.loop .ready none (vf x b9 b10 b11) (#[29,30]:Array Tmp).toList ve pO hh.nx)
 have y8:=fi y7 n8
 have x8:=kE n8
 have K8:∀k w,hh.get k=some w→h8.get k=some w:=fun k w c=>eW y7 n8 (eW aN n7 c)
 have hi:SuI e b9 b10 b11 h7.nx x hh.nx [] (fun k=>k=b9∨k=b10∨k=b11∨k=h7.nx) h8:=
  ⟨by omega,by omega,by omega,by omega,by omega,K8 _ _ g9,K8 _ _ g10,K8 _ _ g11,iJ n8,fun _=>Iff.rfl⟩
 have yl:=af9 (d:=d) (e:=e) (b9:=b9) (b10:=b10) (b11:=b11) (lp:=h7.nx) x hh.nx he o! l10 l11 o!
 have lg:∀k w,g.get k=some w→k<g.nx:=fun k w c=>QX _ _ c
 have gn:∀k,g.nx≤k→g.get k=none:=fun k c=>xL QX c
 let g0:au:={g with nx:=bq}
 have g0g:∀k,g0.get k=g.get k:=fun k=>rfl
 have y0:Tidy g0:=fun k w c=>by have:=QX k w c;show k<bq;omega
 have a0:Has g g0:=fun k w c=>c
 obtain ⟨h9,P9,e9,y9,x9',i9,p9,l9'⟩:=ZQ (d:=d+1) (g:=g0) (h:=h8) (q:=q) (l:=l) (r:=[]) (m:=m) (lv:=lv) (rv:= .aQ) (b:=h7.nx) (bq:=bq) (bm:=bm) (br:=br) (bl:=bl) y0 (aA.mono a0 hqg) (hlg.has a0) aZ.nil F2 (by simp) hq8 XJ o! (Nat.le_refl _) y8 (fun k w c=>K8 _ _ (ag _ _ c)) (show bq≤h8.nx by omega) (K8 _ _ gq) (K8 _ _ gm) (K8 _ _ gr) (K8 _ _ gl) yl (fun a b c=>YK a b c) (fun {s0 w hk p op} ht hg=>⟨_,rfl⟩) hi (fun k c=>by
  rcases c with c | c | c | c
  · exact ⟨gn k o!,by omega⟩
  · exact ⟨gn k o!,by omega⟩
  · exact ⟨gn k o!,by omega⟩
  · exact ⟨gn k o!,by omega⟩)
 obtain ⟨_,lx,z9,z10,z11,r9,r10,r11,gp9,pp⟩:=i9
 have er:=Cm (E:=env) (call:=cW (d+12)) (ts:=vf x b9 b10 b11) (ds:=D) (f:= .tmp 28) (ps:= #[29,30]) (aS:=ve) (bd:=pO) (e:= .normal) (by show some (x 28)=_;rw[aiM]) n7 n8 e9 gp9 (by intro c;cases c) rfl
 have LN:=jR (o:= .loop .exhausted none (vf x b9 b10 b11) [29,30] ve pO hh.nx) y9 gp9
 have gd:h9.get hh.nx=some .pz:=l9' _ _ (by rintro (c | c | c | c)<;>omega) (eW y7 n8 (iJ n7))
 refine ⟨_,er,LN.1,(show hh.nx<h9.nx by omega),LN.2.2 _ _ o! gd,LN.2.2 _ _ o! r9,LN.2.2 _ _ o! r10,LN.2.2 _ _ o! r11,fun k w k1 k2 k3 c=>?_⟩
 have T:=aN _ _ c
 exact LN.2.2 _ _ o! (l9' _ _ (by rintro (c | c | c | c)<;>omega) (K8 _ _ c))
def Vm (call:bw) (b:Code) (s:St) (ex:hZ) (h hh:au) (tn:(Nat→AV)→List AV) (tr:AV→AV→(Nat→AV)→List AV):Option (List Int×List Int)→Prop
 | none=>∃y hk,Ev env call (.loop b) s ex ⟨tn y,hk,[],.no⟩∧Tidy hk∧hh.nx≤hk.nx∧Has h hk
 | some r=>∃z1 z2 y hk,Ev env call (.loop b) s .ret ⟨tr z1 z2 y,hk,[],.no⟩∧Tidy hk∧hh.nx≤hk.nx∧Has h hk∧eS hk .i64 3 z1 r.1∧dx 3 h hk z1 (zs .i64 r.1)∧eS hk .i64 3 z2 r.2∧dx 3 h hk z2 (zs .i64 r.2)
section
variable {call:bw} {b:Code} {s:St} {ex:hZ} {h hh hk:au} {tn:(Nat→AV)→List AV} {tr:AV→AV→(Nat→AV)→List AV}
theorem Vm.out {i:Nat} {L:List AV} (ev:Ev env call b s (.exit i) ⟨L,hk,[],.no⟩) (y1:Tidy hk) (n1:hh.nx≤hk.nx) (a1:Has h hk) (hl:L=tn fun k=>L.getD k AV.undef):Vm call b s (.exit i) h hh tn tr none:=by
 obtain ⟨y,x⟩:=AW (tmpl:=tn) (Ev.out ev) hl
 exact ⟨y,hk,x,y1,n1,a1⟩
theorem Vm.round {L:List AV} {o:Option (List Int×List Int)} (ev:Ev env call b s .normal ⟨L,hk,[],.no⟩) (n1:hh.nx≤hk.nx) (uT:(Nat→AV)→List AV) (hl:L=uT fun k=>L.getD k AV.undef) (ih:∀x,Vm call b ⟨uT x,hk,[],.no⟩ ex h hk tn tr o):Vm call b s ex h hh tn tr o:=by
 have q:=ih fun k=>L.getD k AV.undef
 rw[←hl] at q
 cases o with
 | none=>
   obtain ⟨y,h2,x,y1,n2,g⟩:=q
   exact ⟨y,h2,Ev.loop ev x,y1,Nat.le_trans n1 n2,g⟩
 | some v=>
   obtain ⟨z1,z2,y,h2,x,y1,n2,g⟩:=q
   exact ⟨z1,z2,y,h2,Ev.loop ev x,y1,Nat.le_trans n1 n2,g⟩
end
theorem zy {d:Nat} {f:FuncId} {args:List AV} {h h':au} {z1 z2 w:AV} {A B:List Int} (y:Tidy h) (hm:M0 f args h=none) (hd:sP env (eO env M0 d) f args h (.tuple [z1,z2,w]) h') (y1:Tidy h') (n1:h.nx≤h'.nx) (a1:Has h h') (q1:eS h' .i64 3 z1 A) (o1:dx 3 h h' z1 (zs .i64 A)) (q2:eS h' .i64 3 z2 B) (o2:dx 3 h h' z2 (zs .i64 B)):
 ∃hk,cW (d+1) (.fn f) args h= .ret (.tuple [z1,z2,w]) hk∧Grow h hk∧eS hk .i64 3 z1 A∧eS hk .i64 3 z2 B:=by
 by_cases hv:Has h h'∧AV.within h.nx 20 (.tuple [z1,z2,w])=true
 · have v1:AV.within h.nx (18+1) z1=true:=uh hv.2 (by simp)
   have v2:AV.within h.nx (18+1) z2=true:=uh hv.2 (by simp)
   exact ⟨h,aC hm hd hv.1 hv.2,Grow.refl y,o1.Js v1 (by kernel_rfl) (by kernel_rfl),o2.Js v2 (by kernel_rfl) (by kernel_rfl)⟩
 · exact ⟨h',nX hm hd hv,⟨y1,a1,n1⟩,q1,q2⟩
theorem HE (h:au):eS h .i64 3 .aQ []:=dx.Js (h:=h) (n:=0) (.inl ⟨rfl,rfl⟩) rfl (by kernel_rfl) (by kernel_rfl)
theorem pkd (D D':List od) (d:Nat) (c:Code) (ts:List AV) (h:au) (e:hZ) (h':au) {al:List mI} {ps:List Prop} (k:Pk al [] ps) (hr:run env (cW d) 300 c ⟨ts,h,D,.no⟩ al []= .at e ⟨uS (run env (cW d) 300 c ⟨ts,h,D,.no⟩ al []),h',D',.no⟩ [] ps):Ev env (cW d) c ⟨ts,h,D,.no⟩ e ⟨uS (run env (cW d) 300 c ⟨ts,h,D,.no⟩ al []),h',D',.no⟩:=aaZ k hr
theorem Has.HF {g h h':au} {b9 b10 b11:Nat} (a:Has g h) (k:∀i w,i≠b9→i≠b10→i≠b11→h.get i=some w→h'.get i=some w) (y:Tidy g) (h9:g.nx≤b9) (l10:b9<b10) (l11:b10<b11):Has g h':=fun i w e=>by
 have:=y _ _ e
 exact k _ _ o! o! o! (a _ _ e)
structure D6 (n:Nat) (h:au) (D:List Nat):Prop where
 nd:D.Nodup
 at_:∀r∈D,n≤r∧h.get r=some .pz
theorem D6.more {n:Nat} {h0 h h':au} {D:List Nat} (c:D6 n h0 D) (y:Tidy h0) (hn:n≤h0.nx) (hle:h0.nx≤h.nx) (a:Has h0 h') (g:h'.get h.nx=some .pz):D6 n h' (h.nx::D):=
 ⟨List.nodup_cons.2 ⟨fun m=>by have:=y _ _ (c.at_ _ m).2;omega,c.nd⟩,fun r hr=>by
  rcases List.mem_cons.1 hr with rfl | hr
  · exact ⟨by omega,g⟩
  · exact ⟨(c.at_ r hr).1,a _ _ (c.at_ r hr).2⟩⟩
def Vn (call:bw) (b:Code) (ts:List AV) (ex:hZ) (h hh:au) (D:List Nat) (tn:(Nat→AV)→List AV) (tr:AV→AV→(Nat→AV)→List AV):Option (List Int×List Int)→Prop
 | none=>∃y hk D',Ev env call (.loop b) ⟨ts,hh,D.map .rQ,.no⟩ ex ⟨tn y,hk,D'.map .rQ,.no⟩∧Tidy hk∧hh.nx≤hk.nx∧Has h hk∧D6 h.nx hk D'
 | some r=>∃z1 z2 y hk D',Ev env call (.loop b) ⟨ts,hh,D.map .rQ,.no⟩ .ret ⟨tr z1 z2 y,hk,D'.map .rQ,.no⟩∧Tidy hk∧hh.nx≤hk.nx∧Has h hk∧D6 h.nx hk D'∧eS hk .i64 3 z1 r.1∧dx 3 h hk z1 (zs .i64 r.1)∧eS hk .i64 3 z2 r.2∧dx 3 h hk z2 (zs .i64 r.2)
section
variable {call:bw} {b:Code} {ts:List AV} {ex:hZ} {h hh hk:au} {D:List Nat} {tn:(Nat→AV)→List AV} {tr:AV→AV→(Nat→AV)→List AV}
theorem Vn.out {i:Nat} {L:List AV} (ev:Ev env call b ⟨ts,hh,D.map .rQ,.no⟩ (.exit i) ⟨L,hk,D.map .rQ,.no⟩) (y1:Tidy hk) (n1:hh.nx≤hk.nx) (a1:Has h hk) (c1:D6 h.nx hk D) (hl:L=tn fun k=>L.getD k AV.undef):Vn call b ts (.exit i) h hh D tn tr none:=by
 obtain ⟨y,x⟩:=AW (tmpl:=tn) (Ev.out ev) hl
 exact ⟨y,hk,D,x,y1,n1,a1,c1⟩
theorem Vn.ret {c:Nat} {L:List AV} {z1 z2:AV} {r:List Int×List Int} (ev:Ev env call b ⟨ts,hh,D.map .rQ,.no⟩ .ret ⟨L,hk,.rQ c::D.map .rQ,.no⟩) (y1:Tidy hk) (n1:hh.nx≤hk.nx) (a1:Has h hk) (c1:D6 h.nx hk (c::D)) (q1:eS hk .i64 3 z1 r.1) (o1:dx 3 h hk z1 (zs .i64 r.1)) (q2:eS hk .i64 3 z2 r.2) (o2:dx 3 h hk z2 (zs .i64 r.2)) (hl:L=tr z1 z2 fun k=>L.getD k AV.undef):Vn call b ts ex h hh D tn tr (some r):=by
 obtain ⟨y,x⟩:=AW (tmpl:=tr z1 z2) (Ev.ret ev) hl
 exact ⟨z1,z2,y,hk,c::D,x,y1,n1,a1,c1,q1,o1,q2,o2⟩
theorem Vn.round {c:Nat} {L:List AV} {o:Option (List Int×List Int)} (ev:Ev env call b ⟨ts,hh,D.map .rQ,.no⟩ .normal ⟨L,hk,.rQ c::D.map .rQ,.no⟩) (n1:hh.nx≤hk.nx) (uT:(Nat→AV)→List AV) (hl:L=uT fun k=>L.getD k AV.undef) (ih:∀x,Vn call b (uT x) ex h hk (c::D) tn tr o):Vn call b ts ex h hh D tn tr o:=by
 have q:=ih fun k=>L.getD k AV.undef
 rw[←hl] at q
 cases o with
 | none=>
   obtain ⟨y,h2,D',x,y1,n2,g⟩:=q
   exact ⟨y,h2,D',Ev.loop ev x,y1,Nat.le_trans n1 n2,g⟩
 | some v=>
   obtain ⟨z1,z2,y,h2,D',x,y1,n2,g⟩:=q
   exact ⟨z1,z2,y,h2,D',Ev.loop ev x,y1,Nat.le_trans n1 n2,g⟩
end
theorem AJ {n:Nat} {D:List Nat} {h:au} (y:Tidy h) (c:D6 n h D):Tidy (shut D h)∧(∀k w,w≠ .pz→h.get k=some w→(shut D h).get k=some w)∧∀k w,k<n→h.get k=some w→(shut D h).get k=some w:=by
 have YL:∀(D:List Nat) (h:au) (k:Nat),k∈D→(shut D h).get k=none:=by
  intro D
  induction D with
  | nil=>intro h k m;cases m
  | cons r D ih=>
    intro h k m
    rw[shut]
    by_cases e:k∈D
    · exact ih _ _ e
    · rcases List.mem_cons.1 m with rfl | m
      · rw[kl e,au.bS]
      · exact absurd m e
 have wo:∀k w,w≠ .pz→h.get k=some w→(shut D h).get k=some w:=fun k w nd e=>by
  rw[kl]
  · exact e
  · intro m
    have:=(c.at_ k m).2
    rw[e] at this
    exact nd (Option.some.inj this)
 refine ⟨fun k w g=>?_,wo,fun k w hk e=>?_⟩
 · rw[nI]
   by_cases m:k∈D
   · rw[YL D h k m] at g;cases g
   · rw[kl m] at g;exact y _ _ g
 · rw[kl]
   · exact e
   · intro m
     have:=(c.at_ k m).1
     omega
theorem dx.AJ {n:Nat} {D:List Nat} {g h:au} {z:AV} {L:List AV} (y:Tidy h) (c:D6 n h D) (o:dx 3 g h z L):dx 3 g (shut D h) z L:=by
 rcases o with ⟨rfl,e0⟩ | ⟨hn,p,op,rfl,hp,hg⟩
 · exact .inl ⟨rfl,e0⟩
 · exact .inr ⟨hn,p,op,rfl,hp,(aH.AJ y c).2.1 _ _ (by intro e;cases e) hg⟩
end
end Go.Proofs.aH
