import Derived.Test.YtfllahfbmaafcaaW0
import Derived.Test.YtfllahfbmaafcaaW1
import Derived.Test.YtfllahfbmaafcaaW10
import Derived.Test.YtfllahfbmaafcaaW2
import Derived.Test.YtfllahfbmaafcaaW11
import Derived.Test.YtfllahfbmaafcaaW8
import Derived.Test.YtfllahfbmaafcaaW9
import Derived.Test.YtfllahfbmaafcaaW4
import Derived.Test.YtfllahfbmaafcaaW3
namespace Go.Proofs.aG
open Go.Proofs Ab
noncomputable section
set_option maxRecDepth 100000
set_option maxHeartbeats 4000000
set_option linter.unusedVariables false
set_option linter.unusedSimpArgs false
def Ag:Code:=(Try.f16.body).getD .skip
theorem Uv:Try.f16.body=some Ag:=by kernel_rfl
def Me:Code:=(cu Ag).getD 0 .skip
def hU (steps:List Int) (q:ay):Nat→Nat→List Int→List Int
 | 0,_,iH=>iH
 | eH+1,i0,iH=>hU steps q eH (i0+1) (iH++[(IntKind.i64.wrap ((iH.g i0)+(ab (steps.g i0) (IntKind.i64.wrap (0 - q.aJ)) q.aI)))])
theorem Ah {d:Nat} {h:aw} {gg0:aw} (hX:AV) (steps:List Int) (q:ay) (cF:Nat) (cH:gW h .i64 3 hX steps) (dH:q.name.length<2^60) (vQ:aP h q.aB q.ae) (nt:aA.ok h q) (vR: -1000000000≤q.ao) (Jz:q.ao≤q.ai) (JA:q.ai≤1000000000) (JB:0≤q.aI) (JC:q.aI≤10000) (JD:0≤q.aJ) (ah4:q.aJ≤10000) (ah5:steps.length≤40) (ch:Tidy h) (qi:h.nx≤cF) (NG0:h.nx≤gg0.nx) (afx:cF<gg0.nx):∀(k_ i_:Nat) (iH:List Int) (z0:AV) (_:i_+k_=steps.length) (_:(List.length iH=i_+1)) (x:Nat→AV) (hh:aw) (aL:Tidy hh) (bB:Has h hh) (iT:h.nx≤hh.nx) (da:hh.get cF=some (aR.cells [(AV.str q.name),(Zi q.ao),(Zi q.ai),(Zi q.aI),(Zi q.aJ),(Zi q.bad),q.aB] 26 false)) (YZ:eY 3 gg0 hh z0 (zs .i64 iH)) (lz0:iH.length≤1000000000) (Zf:gg0.nx≤hh.nx),lg (σ:=List Int) (ρ:=Unit) (dh (d+1)) Me ⟨((x 0)::(x 1)::hX::(Pt cF)::rx x 4 3 (z0::(Zn i_)::rx x 9 34 [])),hh,[],.no⟩ (.exit 0) hh (fun r z y=>((y 0)::(y 1)::hX::(Pt cF)::rx y 4 3 (z::rx y 8 35 []))) (fun r z y=>((y 0)::(y 1)::hX::(Pt cF)::rx y 4 39 [])) (fun r z hk=>Has h hk∧hk.get cF=some (aR.cells [(AV.str q.name),(Zi q.ao),(Zi q.ai),(Zi q.aI),(Zi q.aJ),(Zi q.bad),q.aB] 26 false)∧(List.length r=steps.length+1)∧eY 3 gg0 hk z (zs .i64 r)∧r.length≤1000000000) (fun r z hk=>Has h hk) (Sum.inl (hU steps q k_ i_ iH))
 | 0,i0,iH,z0,mR,yY,x,hh,aL,bB,iT,da,YZ,lz0,Zf=>by
   have kz:=cH.small
   have abY:=vQ.small
   have vx:=aL _ _ da
   have rA:dN (some (.slice 3)) (some hX)=some (Zn steps.length):=cH.len
   have q2:(decide (((i0:Nat):Int)<((steps.length:Nat):Int)))=false:=d!
   exact lg.out iH z0 rfl (pk (d+1) _ _ hh _ hh (CN 2<|VV rA<|VV (bU 3 false false .i64 ((i0:Nat):Int) ((steps.length:Nat):Int))<|BB q2<|ZZ) k!) aL o! ⟨bB,da,(show (List.length iH=steps.length+1) from (by first | omega | (simp only[List.length_append,List.length_cons,List.length_nil];omega) | simp)),YZ,(by first | omega | (simp<;>omega))⟩ k!
 | eH+1,i0,iH,z0,mR,yY,x,hh,aL,bB,iT,da,YZ,lz0,Zf=>by
   have kz:=cH.small
   have abY:=vQ.small
   have vx:=aL _ _ da
   have rA:dN (some (.slice 3)) (some hX)=some (Zn steps.length):=cH.len
   have q2:(decide (((i0:Nat):Int)<((steps.length:Nat):Int)))=true:=d!
   obtain ⟨p4,q5,rK,_⟩:=(eY.zs YZ o! k! k!).elem (i:=i0) o!
   have w_:dy env (some (.slice 3)) (some z0) (some (Zn i0))=some (AV.ptr p4 q5):=rK
   have Gm:bE env hh 3 (AV.ptr p4 q5)=some (Zi (iH.g i0)):=(eY.zs YZ o! k! k!).load o! rK
   obtain ⟨p8,q9,afy,_⟩:=cH.elem (i:=i0) o!
   have ix7:dy env (some (.slice 3)) (some hX) (some (Zn i0))=some (AV.ptr p8 q9):=afy
   have afz:bE env hh 3 (AV.ptr p8 q9)=some (Zi (steps.g i0)):=(cH.has bB).load o! afy
   have ah6:=cW (steps.g i0) (IntKind.i64.wrap (0 - q.aJ)) q.aI (by first | omega | (rw[wrap_i64 o! o!];omega)) (by first | omega | (rw[wrap_i64 o! o!];omega)) (by first | omega | (rw[wrap_i64 o! o!];omega))
   have KY:=iz (d:=d) (steps.g i0) (IntKind.i64.wrap (0 - q.aJ)) q.aI (by first | omega | (rw[wrap_i64 o! o!];omega)) (by first | omega | (rw[wrap_i64 o! o!];omega)) (by first | omega | (rw[wrap_i64 o! o!];omega)) aL
   obtain ⟨J3,Uw,CO,afA,N0,uO⟩:=iX aL (aR.cells [(Zi (IntKind.i64.wrap ((iH.g i0)+(ab (steps.g i0) (IntKind.i64.wrap (0 - q.aJ)) q.aI))))] 3 false)
   have Jq:Has h J3:=bB.trans uO
   have xY:Has hh J3:=uO
   obtain ⟨z14,Jl,Mf,Jm,Zg,N1,abZ⟩:=eY.Ds (k:= .i64) (g:=gg0) (tys:= #[30,30]) (v:=(IntKind.i64.wrap ((iH.g i0)+(ab (steps.g i0) (IntKind.i64.wrap (0 - q.aJ)) q.aI)))) (L:=iH) CO o! (YZ.has xY) N0 (by first | omega | (simp<;>omega)) rfl rfl k! k! k! (bytes:=8) k! (z0:=Zi 0) k! rfl (by decide)
   have Cz:Has h Jl:=Has.aax Jq ch o! N1
   have u16:=fU 3 false true i0 1 o!
   exact lg.round (congrArg Sum.inl (by simp only[hU,ak,ah])) (pk (d+1) _ _ hh _ Jl (CN 2<|VV rA<|VV (bU 3 false false .i64 ((i0:Nat):Int) ((steps.length:Nat):Int))<|BB q2<|CN 3<|VV w_<|MM Gm<|CN 2<|VV ix7<|MM afz<|CC<|MM (aK 3 4 (Zi q.aJ) da k!)<|CN 2<|MM (aK 3 3 (Zi q.aI) da k!)<|EE KY<|CC<|NN Uw (fun i=>(AV.slice i 0 1 1 false))<|PP (show bR env J3 #[30,30] z0 (AV.slice hh.nx 0 1 1 false)=some (z14,Jl) from Mf)<|CC<|HH Gm<|HH (show AV.same 20 (Zi (iH.g i0)) (Zi (iH.g i0))=true from aO 19 _ _)<|HH (show bE env J3 3 (AV.ptr p4 q5)=some (Zi (iH.g i0)) from (((eY.zs YZ o! k! k!).has xY).load o! rK))<|HH (show AV.same 20 (Zi (iH.g i0)) (Zi (iH.g i0))=true from aO 19 _ _)<|HH afz<|HH (show AV.same 20 (Zi (steps.g i0)) (Zi (steps.g i0))=true from aO 19 _ _)<|HH (aK 3 4 (Zi q.aJ) da k!)<|HH (show AV.same 20 (Zi q.aJ) (Zi q.aJ)=true from aO 19 _ _)<|HH (aK 3 3 (Zi q.aI) da k!)<|HH (show AV.same 20 (Zi q.aI) (Zi q.aI)=true from aO 19 _ _)<|HH (show ∃o,J3.get hh.nx=some o∧aR.same o (aR.cells [(Zi (IntKind.i64.wrap ((iH.g i0)+(ab (steps.g i0) (IntKind.i64.wrap (0 - q.aJ)) q.aI))))] 3 false)=true from ⟨_,N0,by simp [aR.same,cM,AV.same]⟩)<|CC<|VV u16<|CC<|ZZ) k!) o! _ k! (fun x=>Ah hX steps q cF cH dH vQ nt vR Jz JA JB JC JD ah4 ah5 ch qi NG0 afx eH (i0+1) (iH++[(IntKind.i64.wrap ((iH.g i0)+(ab (steps.g i0) (IntKind.i64.wrap (0 - q.aJ)) q.aI)))]) z14 o! (show (List.length (iH++[(IntKind.i64.wrap ((iH.g i0)+(ab (steps.g i0) (IntKind.i64.wrap (0 - q.aJ)) q.aI)))])=(i0+1)+1) from (by first | omega | (simp only[List.length_append,List.length_cons,List.length_nil];omega) | simp)) x Jl Jm Cz o! (N1 _ _ o! (uO _ _ da)) abZ (by first | omega | (simp<;>omega)) o!)
def bw (q:ay) (begin:Int) (steps:List Int):List Int:=(hU steps q steps.length 0 ([(ab begin q.ao q.ai)]))
theorem Ux {d:Nat} {h:aw} {hX:AV} (q:ay) (begin:Int) (steps:List Int) (gA:aA.ok h q) (ua:gW h .i64 3 hX steps) (qV: -1000000000≤q.ao) (IN:q.ao≤q.ai) (Gn:q.ai≤1000000000) (ah0:0≤q.aI) (ah1:q.aI≤10000) (aj2:0≤q.aJ) (pre6:q.aJ≤10000) (aj3:steps.length≤40) (ch:Tidy h):∃z hk,dh (d+2) (.fn 16) [(AV.agg [(AV.str q.name),(Zi q.ao),(Zi q.ai),(Zi q.aI),(Zi q.aJ),(Zi q.bad),q.aB]),(Zi begin),hX] h= .ret z hk∧Grow h hk∧gW hk .i64 3 z (bw q begin steps)∧eY 3 h hk z (zs .i64 (bw q begin steps)):=by
 have PE:=ua.small
 have jF:=gA.2.small
 obtain ⟨h1,ct,ck,jj,aW,cr⟩:=iX ch (aR.cells [(AV.str q.name),(Zi q.ao),(Zi q.ai),(Zi q.aI),(Zi q.aJ),(Zi q.bad),q.aB] 26 false)
 have bG:Has h h1:=cr
 have ajk:=cW begin q.ao q.ai (by first | omega | (rw[wrap_i64 o! o!];omega)) (by first | omega | (rw[wrap_i64 o! o!];omega)) (by first | omega | (rw[wrap_i64 o! o!];omega))
 have k2:=iz (d:=d) begin q.ao q.ai (by first | omega | (rw[wrap_i64 o! o!];omega)) (by first | omega | (rw[wrap_i64 o! o!];omega)) (by first | omega | (rw[wrap_i64 o! o!];omega)) ck
 obtain ⟨h3,Dz,ia,W5,xG,ib⟩:=iX ck (aR.cells [(Zi (ab begin q.ao q.ai))] 3 false)
 have jo:Has h h3:=bG.trans ib
 have oz4:eY 3 h1 h3 (AV.slice h1.nx 0 1 1 false) (zs .i64 ([(ab begin q.ao q.ai)])):= .inr ⟨by simp [zs],h1.nx,false,rfl,by omega,xG⟩
 obtain ⟨zo7,yl5,h6,Mg,m_,abD,Uy,ab0,af1,ab1,ah7⟩:=lg.n rfl (Ah (d:=d) (h:=h) (gg0:=h1) hX steps q h.nx ua gA.1 gA.2 gA o! o! o! o! o! o! o! o! ch o! o! o! steps.length 0 ([(ab begin q.ao q.ai)]) (AV.slice h1.nx 0 1 1 false) o! (show (List.length ([(ab begin q.ao q.ai)])=0+1) from (by first | omega | (simp only[List.length_append,List.length_cons,List.length_nil];omega) | simp)) (fun k_=>(((AV.agg [(AV.str q.name),(Zi q.ao),(Zi q.ai),(Zi q.aI),(Zi q.aJ),(Zi q.bad),q.aB])::(Zi begin)::hX::(Pt h.nx)::AV.undef::AV.undef::AV.aN::(AV.slice h1.nx 0 1 1 false)::(Zi 0)::(Zi begin)::(AV.ptr h.nx 1)::(AV.ptr h.nx 1)::(Zi q.ao)::(AV.ptr h.nx 1)::(AV.ptr h.nx 2)::(Zi q.ai)::(Zi (ab begin q.ao q.ai))::(AV.slice h1.nx 0 1 1 false)::iW 25):List AV).getD k_ AV.undef) h3 ia jo o! (ib _ _ aW) oz4 (by first | omega | (simp<;>omega)) o!)
 have oG:Has h h6:=Uy
 have e:bw q begin steps=(hU steps q steps.length 0 ([(ab begin q.ao q.ai)])):=by simp only[bw,ak,ah]
 rw[e]
 have oz:=eY.le (h0:=h) ab1 o!
 exact ⟨zo7,oq rfl (bh Try.func16 Uv rfl (.inr rfl) (pk (d+1) _ _ h _ h6 (NN ct (fun i=>(Pt i))<|CN 4<|MM (aK 3 1 (Zi q.ao) aW k!)<|CN 2<|MM (aK 3 2 (Zi q.ai) aW k!)<|EE k2<|NN Dz (fun i=>(AV.slice i 0 1 1 false))<|CN 2<|LL Mg<|CN 2<|ZZ) k!) k!) ch ⟨m_,oG,by omega⟩ (P:=fun hh=>gW hh .i64 3 zo7 (hU steps q steps.length 0 ([(ab begin q.ao q.ai)]))∧eY 3 h hh zo7 (zs .i64 (hU steps q steps.length 0 ([(ab begin q.ao q.ai)])))) ⟨oz.zs o! k! k!,oz⟩ fun v=>⟨oz.adp v k! k!,oz.adr v⟩⟩
def uP:Code:=(Try.f17.body).getD .skip
theorem Mh:Try.f17.body=some uP:=by kernel_rfl
def G8:Code:=(cu uP).getD 0 .skip
def dv (q:ay) (bits:Int):Nat→Nat→Int→List Bool→List Bool
 | 0,_,mZ,tw=>tw
 | eH+1,i0,mZ,tw=>(bif (decide ((af .i64 (aq .i64 bits ((i0:Nat):Int)) 1)=1)) then (bif (decide (mZ<q.bad)) then dv q bits eH (i0+1) (IntKind.i64.wrap (mZ+1)) (tw.set i0 true) else dv q bits eH (i0+1) mZ tw) else dv q bits eH (i0+1) mZ tw)
theorem mg {d:Nat} {h:aw} (bits:Int) (q:ay) (cF:Nat) (cG:Nat) (cH:q.name.length<2^60) (dH:aP h q.aB q.ae) (nt:aA.ok h q) (vR:q.ae.length≤60) (ch:Tidy h) (qi:h.nx≤cF) (uv:h.nx≤cG) (kB:cG≠cF):∀(k_ i_:Nat) (mZ:Int) (tw:List Bool) (_:i_+k_=q.ae.length) (x:Nat→AV) (hh:aw) (aL:Tidy hh) (bB:Has h hh) (iT:h.nx≤hh.nx) (Zh:tw.length=q.ae.length) (da:hh.get cF=some (aR.cells [(AV.str q.name),(Zi q.ao),(Zi q.ai),(Zi q.aI),(Zi q.aJ),(Zi q.bad),q.aB] 26 false)) (fb:hh.get cG=some (aR.cells (bs tw) 4 false)),lg (σ:=List Bool) (ρ:=Unit) (dh (d)) G8 ⟨((x 0)::(Zi bits)::(Pt cF)::(x 3)::(x 4)::(AV.slice cG 0 q.ae.length q.ae.length false)::(Zi mZ)::(Zn i_)::rx x 8 27 []),hh,[],.no⟩ (.exit 0) hh (fun r z y=>((y 0)::(Zi bits)::(Pt cF)::(y 3)::(y 4)::(AV.slice cG 0 q.ae.length q.ae.length false)::rx y 6 29 [])) (fun r z y=>((y 0)::(Zi bits)::(Pt cF)::(y 3)::(y 4)::(AV.slice cG 0 q.ae.length q.ae.length false)::rx y 6 29 [])) (fun r z hk=>Has h hk∧hk.get cF=some (aR.cells [(AV.str q.name),(Zi q.ao),(Zi q.ai),(Zi q.aI),(Zi q.aJ),(Zi q.bad),q.aB] 26 false)∧hk.get cG=some (aR.cells (bs r) 4 false)∧r.length=q.ae.length) (fun r z hk=>Has h hk) (Sum.inl (dv q bits k_ i_ mZ tw))
 | 0,i0,mZ,tw,mR,x,hh,aL,bB,iT,Zh,da,fb=>by
   have ow:=dH.small
   have vx:=aL _ _ da
   have Ly:=aL _ _ fb
   have q1:(decide (((i0:Nat):Int)<((q.ae.length:Nat):Int)))=false:=d!
   exact lg.out tw AV.undef rfl (pk (d) _ _ hh _ hh (CN 3<|VV (bU 3 false false .i64 ((i0:Nat):Int) ((q.ae.length:Nat):Int))<|BB q1<|ZZ) k!) aL o! ⟨bB,da,fb,l!⟩ k!
 | eH+1,i0,mZ,tw,mR,x,hh,aL,bB,iT,Zh,da,fb=>by
   have ow:=dH.small
   have vx:=aL _ _ da
   have Ly:=aL _ _ fb
   have q1:(decide (((i0:Nat):Int)<((q.ae.length:Nat):Int)))=true:=d!
   have u2:cE env .shr 3 false false (some (Zi bits)) (some (Zn i0))=some (Zi (aq .i64 bits ((i0:Nat):Int))):=mK 3 false false .i64 .i64 o!
   have u3:cE env .and 3 false true (some (Zi (aq .i64 bits ((i0:Nat):Int)))) (some (Zi 1))=some (Zi (af .i64 (aq .i64 bits ((i0:Nat):Int)) 1)):=mJ 3 false true .i64 (aq .i64 bits ((i0:Nat):Int)) 1
   rcases Bool.eq_false_or_eq_true (decide ((af .i64 (aq .i64 bits ((i0:Nat):Int)) 1)=1)) with f1 | f1
   · have jk:=of_decide_eq_true f1
     rcases Bool.eq_false_or_eq_true (decide (mZ<q.bad)) with f2 | f2
     · have ou:=of_decide_eq_true f2
       have K3:dy env (some (.slice 4)) (some (AV.slice cG 0 q.ae.length q.ae.length false)) (some (Zn i0))=some (AV.ptr cG i0):=BW k! (show i0<q.ae.length by omega) o!
       obtain ⟨h7,ab2⟩:∃hq_:aw,hq_=hh.put cG (some (aR.cells (bs (tw.set i0 true)) 4 false)):=⟨_,rfl⟩
       have qZ:eG env hh 4 (AV.ptr cG i0) (AV.bool true)=some h7:=by rw[ab2];exact Si k! fb l!
       have XN:Chg hh h7 cG (aR.cells (bs (tw.set i0 true)) 4 false):=by rw[ab2];exact l7 aL fb
       have lr:=XN.1
       have I4:h7.nx=hh.nx:=by rw[ab2];rfl
       have lu:Has h h7:=XN.has bB ch o!
       have u8:=fU 3 false true i0 1 o!
       exact lg.round (congrArg Sum.inl (by simp only[dv,f1,f2,ak,ah])) (pk (d) _ _ hh _ h7 (CN 3<|VV (bU 3 false false .i64 ((i0:Nat):Int) ((q.ae.length:Nat):Int))<|BB q1<|CN 2<|VV u2<|VV u3<|VV (lH 3 false true .i64 (af .i64 (aq .i64 bits ((i0:Nat):Int)) 1) 1)<|CC<|BC f1<|BC f1<|BM f1 (aK 3 5 (Zi q.bad) da k!)<|BV f1 (bU 3 false false .i64 mZ q.bad)<|VV (oV (decide (mZ<q.bad)) false f1)<|BB f2<|CN 2<|VV K3<|SS qZ<|CN 4<|VV u8<|CC<|ZZ) k!) o! _ k! (fun x=>mg bits q cF cG cH dH nt vR ch qi uv kB eH (i0+1) (IntKind.i64.wrap (mZ+1)) (tw.set i0 true) o! x h7 lr lu o! l! (XN.2.2 _ _ o! da) XN.2.1)
     · have ou:=of_decide_eq_false f2
       have u6:=fU 3 false true i0 1 o!
       exact lg.round (congrArg Sum.inl (by simp only[dv,f1,f2,ak,ah])) (pk (d) _ _ hh _ hh (CN 3<|VV (bU 3 false false .i64 ((i0:Nat):Int) ((q.ae.length:Nat):Int))<|BB q1<|CN 2<|VV u2<|VV u3<|VV (lH 3 false true .i64 (af .i64 (aq .i64 bits ((i0:Nat):Int)) 1) 1)<|CC<|BC f1<|BC f1<|BM f1 (aK 3 5 (Zi q.bad) da k!)<|BV f1 (bU 3 false false .i64 mZ q.bad)<|VV (oV (decide (mZ<q.bad)) false f1)<|BC f2<|VV u6<|CC<|ZZ) k!) o! _ k! (fun x=>mg bits q cF cG cH dH nt vR ch qi uv kB eH (i0+1) mZ tw o! x hh aL bB o! l! da fb)
   · have jk:=of_decide_eq_false f1
     have u5:=fU 3 false true i0 1 o!
     exact lg.round (congrArg Sum.inl (by simp only[dv,f1,ak,ah])) (pk (d) _ _ hh _ hh (CN 3<|VV (bU 3 false false .i64 ((i0:Nat):Int) ((q.ae.length:Nat):Int))<|BB q1<|CN 2<|VV u2<|VV u3<|VV (lH 3 false true .i64 (af .i64 (aq .i64 bits ((i0:Nat):Int)) 1) 1)<|CC<|BB f1<|BB f1<|BB f1<|BV f1 (uj false f1)<|FF<|CC<|VV u5<|CC<|ZZ) k!) o! _ k! (fun x=>mg bits q cF cG cH dH nt vR ch qi uv kB eH (i0+1) mZ tw o! x hh aL bB o! l! da fb)
def aX (q:ay) (bits:Int):List Bool:=(dv q bits q.ae.length 0 0 (List.replicate q.ae.length false))
theorem Mi {d:Nat} {h:aw} (q:ay) (bits:Int) (gA:aA.ok h q) (qV:q.ae.length≤60) (ch:Tidy h):∃z n op hk,dh (d+1) (.fn 17) [(AV.agg [(AV.str q.name),(Zi q.ao),(Zi q.ai),(Zi q.aI),(Zi q.aJ),(Zi q.bad),q.aB]),(Zi bits)] h= .ret (.slice z 0 n n op) hk∧Grow h hk∧hk.get z=some (aR.cells (bs (aX q bits)) 4 false)∧(aX q bits).length=n∧h.nx≤z:=by
 have jF:=gA.2.small
 obtain ⟨h1,ct,ck,jj,aW,cr⟩:=iX ch (aR.cells [(AV.str q.name),(Zi q.ao),(Zi q.ai),(Zi q.aI),(Zi q.aJ),(Zi q.bad),q.aB] 26 false)
 have bG:Has h h1:=cr
 have ln2:dN (some (.slice 45)) (some q.aB)=some (Zn q.ae.length):=gA.2.len
 have mk3:Nc env (some (.slice 4)) (some (Zn q.ae.length)) (some (Zn q.ae.length))=some (aR.cells (eB [(AV.bool false)] q.ae.length) 4 false,fun i=>AV.slice i 0 q.ae.length q.ae.length false):=OU (bytes:=1) (z:=(AV.bool false)) k! k! k! rfl (by decide) o!
 obtain ⟨h4,abx,Je,adX,S_,LZ⟩:=iX ck (aR.cells (eB [(AV.bool false)] q.ae.length) 4 false)
 have Lx:Has h h4:=bG.trans LZ
 have afB:h4.get h1.nx=some (aR.cells (bs (List.replicate q.ae.length false)) 4 false):=by have q:=S_;rw[Sh] at q;exact q
 obtain ⟨zo7,yl5,h6,Mg,m_,abD,Uy,ab0,ab3,ah8⟩:=lg.n rfl (mg (d:=d) (h:=h) bits q h.nx h1.nx gA.1 gA.2 gA o! ch o! o! o! q.ae.length 0 0 (List.replicate q.ae.length false) o! (fun k_=>(((AV.agg [(AV.str q.name),(Zi q.ao),(Zi q.ai),(Zi q.aI),(Zi q.aJ),(Zi q.bad),q.aB])::(Zi bits)::(Pt h.nx)::AV.undef::AV.aN::(AV.slice h1.nx 0 q.ae.length q.ae.length false)::(Zi 0)::(Zi 0)::(AV.ptr h.nx 6)::q.aB::(Zn q.ae.length)::(AV.slice h1.nx 0 q.ae.length q.ae.length false)::iW 23):List AV).getD k_ AV.undef) h4 Je Lx o! l! (LZ _ _ aW) afB)
 have oG:Has h h6:=Uy
 have e:aX q bits=(dv q bits q.ae.length 0 0 (List.replicate q.ae.length false)):=by simp only[aX,ak,ah]
 rw[e]
 exact ⟨h1.nx,q.ae.length,false,oq rfl (bh Try.func17 Mh rfl (.inr rfl) (pk (d) _ _ h _ h6 (NN ct (fun i=>(Pt i))<|CN 2<|MM (aK 24 6 q.aB aW k!)<|VV ln2<|KK mk3 abx<|CN 3<|LL Mg<|CN 2<|ZZ) k!) k!) ch ⟨m_,oG,by omega⟩ (P:=fun hh=>hh.get h1.nx=some (aR.cells (bs (dv q bits q.ae.length 0 0 (List.replicate q.ae.length false))) 4 false)∧((dv q bits q.ae.length 0 0 (List.replicate q.ae.length false))).length=q.ae.length∧h.nx≤h1.nx) ⟨ab3,l!,by omega⟩ fun v=>(OZ v o!).elim⟩
theorem Ai (s:List Int) (q:ay):∀(k i:Nat) (v:List Int),(hU s q k i v).length=v.length+k
 | 0,i,v=>rfl
 | k+1,i,v=>by
   rw[hU,Ai s q k (i+1),List.length_append,List.length_singleton];omega
theorem oT (q:ay) (b:Int) (s:List Int):(bw q b s).length=s.length+1:=by
 rw[bw,Ai];simp;omega
theorem mh (q:ay) (b:Int):∀(k i:Nat) (v:Int) (a:List Bool),(dv q b k i v a).length=a.length
 | 0,i,v,a=>rfl
 | k+1,i,v,a=>by
   rw[dv]
   cases decide ((af .i64 (aq .i64 b ((i:Nat):Int)) 1)=1) with
   | false=>rw[ah];exact mh q b k _ _ _
   | true=>
     rw[ak]
     cases decide (v<q.bad) with
     | false=>rw[ah];exact mh q b k _ _ _
     | true=>rw[ak,mh q b k,List.length_set]
theorem CX (q:ay) (b:Int):(aX q b).length=q.ae.length:=by
 rw[aX,mh,List.length_replicate]
theorem Aj (raw:List az) (i0:Nat) (v:List az):∀(k:Nat) (n:Int),(n≤(k:Int))→0≤n∧n≤(v.length:Int)→0≤bJ raw i0 v k n∧bJ raw i0 v k n≤(v.length:Int)
 | 0,n,_,h=>h
 | k+1,n,hk,h=>by
   rw[bJ]
   by_cases a:0<n
   · rw[decide_eq_true a,ak]
     cases decide ((ab (raw.g i0).time 0 40)<((v.g (n - 1).toNat).time)) with
     | false=>exact h
     | true=>exact Aj raw i0 v k (n - 1) o! o!
   · rw[decide_eq_false a];exact h
theorem EV (raw:List az) (i0:Nat) (v:List az):∀(k:Nat) (n:Int),bM raw i0 v k n=bJ raw i0 v k n
 | 0,n=>rfl
 | k+1,n=>by rw[bM,bJ,EV raw i0 v k]
def EW (raw:List az) (i0:Nat) (v:List az) (r:az):List az:=((([]:List az)++(v.take (bJ raw i0 v ((v.length:Nat):Int).toNat ((v.length:Nat):Int)).toNat))++[r])++(v.drop (bJ raw i0 v ((v.length:Nat):Int).toNat ((v.length:Nat):Int)).toNat)
theorem PG {raw:List az} {i0:Nat} {v:List az} {r x:az} (h:x∈EW raw i0 v r):x=r∨x∈v:=by
 rw[EW,List.nil_append] at h
 rcases List.mem_append.1 h with h | h
 · rcases List.mem_append.1 h with h | h
   · exact .inr (List.mem_of_mem_take h)
   · exact .inl (List.mem_singleton.1 h)
 · exact .inr (List.mem_of_mem_drop h)
theorem PH (raw:List az) (i0:Nat) (v:List az) (r:az):(EW raw i0 v r).length=v.length+1:=by
 obtain ⟨a,b⟩:=Aj raw i0 v ((v.length:Nat):Int).toNat ((v.length:Nat):Int) o! o!
 rw[EW,List.nil_append,List.length_append,List.length_append,List.length_singleton,List.length_take,List.length_drop]
 omega
theorem nA (raw:List az) (q:ay) (x:List Int) (bad:List Bool) (P:az→Prop)
 (hb:∀i,i<raw.length→0<q.ae.length→bad.g (ab (raw.g i).aD 0 ((q.ae.length - 1:Nat):Int)).toNat=true→P ⟨(ab (raw.g i).aD 0 ((q.ae.length - 1:Nat):Int)),(ab (raw.g i).time 0 40),(ab (raw.g i).value (-1000000000) 1000000000)⟩)
 (hg:∀i,i<raw.length→0<q.ae.length→bad.g (ab (raw.g i).aD 0 ((q.ae.length - 1:Nat):Int)).toNat=false→∀y,y=(IntKind.i64.wrap ((cA x (ab (raw.g i).time 0 40))+(ab (raw.g i).value (IntKind.i64.wrap (0 -((aY (q.ae.g (ab (raw.g i).aD 0 ((q.ae.length - 1:Nat):Int)).toNat) (ab (raw.g i).time 0 40)).1))) (aY (q.ae.g (ab (raw.g i).aD 0 ((q.ae.length - 1:Nat):Int)).toNat) (ab (raw.g i).time 0 40)).1)))→-1000000000≤y→y≤1000000000→P ⟨(ab (raw.g i).aD 0 ((q.ae.length - 1:Nat):Int)),(ab (raw.g i).time 0 40),y⟩):
 ∀(k i:Nat) (v:List az),i+k=raw.length→(∀r∈v,P r)→v.length≤i→(∀r∈cg raw q x bad k i v,P r)∧(cg raw q x bad k i v).length≤raw.length
 | 0,i,v,e,h,hl=>by rw[cg];exact ⟨h,by omega⟩
 | k+1,i,v,e,h,hl=>by
   rw[cg]
   by_cases g0:(0:Int)<((q.ae.length:Nat):Int)
   · rw[decide_eq_true g0,ak]
     have go:∀r:az,P r→(∀r_1∈cg raw q x bad k (i+1) (EW raw i v r),P r_1)∧(cg raw q x bad k (i+1) (EW raw i v r)).length≤raw.length:=fun r hr=>
      nA raw q x bad P hb hg k (i+1) _ o! (fun y hy=>(PG hy).elim (fun e=>by rw[e];exact hr) (h y)) (by rw[PH];omega)
     have no:(∀r_1∈cg raw q x bad k (i+1) v,P r_1)∧(cg raw q x bad k (i+1) v).length≤raw.length:=nA raw q x bad P hb hg k (i+1) v o! h o!
     cases hbd:bad.g (ab (raw.g i).aD 0 ((q.ae.length - 1:Nat):Int)).toNat with
     | true=>
       rw[ak]
       cases decide ((ab (raw.g i).value (-1000000000) 1000000000)<(-1000000000)) with
       | true=>exact no
       | false=>
         rw[ah]
         cases decide (1000000000<(ab (raw.g i).value (-1000000000) 1000000000)) with
         | true=>exact no
         | false=>exact go _ (hb i o! o! hbd)
     | false=>
       rw[ah]
       generalize ey:(IntKind.i64.wrap ((cA x (ab (raw.g i).time 0 40))+(ab (raw.g i).value (IntKind.i64.wrap (0 -((aY (q.ae.g (ab (raw.g i).aD 0 ((q.ae.length - 1:Nat):Int)).toNat) (ab (raw.g i).time 0 40)).1))) (aY (q.ae.g (ab (raw.g i).aD 0 ((q.ae.length - 1:Nat):Int)).toNat) (ab (raw.g i).time 0 40)).1)))=y
       by_cases a1:y< -1000000000
       · rw[decide_eq_true a1];exact no
       · rw[decide_eq_false a1,ah]
         by_cases a2:1000000000<y
         · rw[decide_eq_true a2];exact no
         · rw[decide_eq_false a2,ah]
           rw[EV]
           exact go _ (hg i o! o! hbd y ey.symm o! o!)
   · rw[decide_eq_false g0];exact ⟨h,by show v.length≤_;omega⟩
theorem EX (q:ay) (x:List Int) (bad:List Bool) (raw:List az):(b_ q x bad raw).length≤raw.length:=
 (nA raw q x bad (fun _=>True) (fun _ _ _ _=>trivial) (fun _ _ _ _ _ _ _ _=>trivial) raw.length 0 [] o! (fun _ _=>trivial) (by decide)).2
theorem iK {q:ay} (h:aE q=0):(-1000000000≤q.ao∧q.ao≤q.ai∧q.ai≤1000000000)∧(0≤q.aI∧q.aI≤10000∧0≤q.aJ∧q.aJ≤10000)∧0≤q.bad∧q.bad≤(q.ae.length:Int)∧q.ae.length≤8:=by
 have f:RF q []:=SF (L_ h (by decide) fun i hi=>by cases hi)
 exact ⟨f.start,f.IY,f.bad⟩




def Uz (call:bj) (b:Code) (s:St) (ex:h_) (h hh:aw) (tn:(Nat→AV)→List AV) (tr:AV→AV→(Nat→AV)→List AV):Option (List Int×List Int)→Prop
 | none=>∃y hk,Ev env call (.loop b) s ex ⟨tn y,hk,[],.no⟩∧Tidy hk∧hh.nx≤hk.nx∧Has h hk
 | some r=>∃z1 z2 y hk,Ev env call (.loop b) s .ret ⟨tr z1 z2 y,hk,[],.no⟩∧Tidy hk∧hh.nx≤hk.nx∧Has h hk∧gW hk .i64 3 z1 r.1∧eY 3 h hk z1 (zs .i64 r.1)∧gW hk .i64 3 z2 r.2∧eY 3 h hk z2 (zs .i64 r.2)
section
variable {call:bj} {b:Code} {s:St} {ex:h_} {h hh hk:aw} {tn:(Nat→AV)→List AV} {tr:AV→AV→(Nat→AV)→List AV}
theorem Uz.out {i:Nat} {L:List AV} (ev:Ev env call b s (.exit i) ⟨L,hk,[],.no⟩) (y1:Tidy hk) (n1:hh.nx≤hk.nx) (a1:Has h hk) (hl:L=tn fun k=>L.getD k AV.undef):Uz call b s (.exit i) h hh tn tr none:=by
 obtain ⟨y,x⟩:=BQ (tmpl:=tn) (Ev.out ev) hl
 exact ⟨y,hk,x,y1,n1,a1⟩
theorem Uz.round {L:List AV} {o:Option (List Int×List Int)} (ev:Ev env call b s .normal ⟨L,hk,[],.no⟩) (n1:hh.nx≤hk.nx) (uE:(Nat→AV)→List AV) (hl:L=uE fun k=>L.getD k AV.undef) (ih:∀x,Uz call b ⟨uE x,hk,[],.no⟩ ex h hk tn tr o):Uz call b s ex h hh tn tr o:=by
 have q:=ih fun k=>L.getD k AV.undef
 rw[←hl] at q
 cases o with
 | none=>
   obtain ⟨y,h2,x,y1,n2,g⟩:=q
   exact ⟨y,h2,Ev.loop ev x,y1,Nat.le_trans n1 n2,g⟩
 | some v=>
   obtain ⟨z1,z2,y,h2,x,y1,n2,g⟩:=q
   exact ⟨z1,z2,y,h2,Ev.loop ev x,y1,Nat.le_trans n1 n2,g⟩
end
structure ab4 (n:Nat) (h:aw) (D:List Nat):Prop where
 nd:D.Nodup
 at_:∀r∈D,n≤r∧h.get r=some .uT
def WsL (call:bj) (b:Code) (ts:List AV) (ex:h_) (h hh:aw) (D:List Nat) (tn:(Nat→AV)→List AV) (tr:AV→AV→(Nat→AV)→List AV):Option (List Int×List Int)→Prop
 | none=>∃y hk D',Ev env call (.loop b) ⟨ts,hh,D.map .Db,.no⟩ ex ⟨tn y,hk,D'.map .Db,.no⟩∧Tidy hk∧hh.nx≤hk.nx∧Has h hk∧ab4 h.nx hk D'
 | some r=>∃z1 z2 y hk D',Ev env call (.loop b) ⟨ts,hh,D.map .Db,.no⟩ .ret ⟨tr z1 z2 y,hk,D'.map .Db,.no⟩∧Tidy hk∧hh.nx≤hk.nx∧Has h hk∧ab4 h.nx hk D'∧gW hk .i64 3 z1 r.1∧eY 3 h hk z1 (zs .i64 r.1)∧gW hk .i64 3 z2 r.2∧eY 3 h hk z2 (zs .i64 r.2)
section
variable {call:bj} {b:Code} {ts:List AV} {ex:h_} {h hh hk:aw} {D:List Nat} {tn:(Nat→AV)→List AV} {tr:AV→AV→(Nat→AV)→List AV}
theorem WsL.out {i:Nat} {L:List AV} (ev:Ev env call b ⟨ts,hh,D.map .Db,.no⟩ (.exit i) ⟨L,hk,D.map .Db,.no⟩) (y1:Tidy hk) (n1:hh.nx≤hk.nx) (a1:Has h hk) (c1:ab4 h.nx hk D) (hl:L=tn fun k=>L.getD k AV.undef):WsL call b ts (.exit i) h hh D tn tr none:=by
 obtain ⟨y,x⟩:=BQ (tmpl:=tn) (Ev.out ev) hl
 exact ⟨y,hk,D,x,y1,n1,a1,c1⟩
theorem WsL.round {c:Nat} {L:List AV} {o:Option (List Int×List Int)} (ev:Ev env call b ⟨ts,hh,D.map .Db,.no⟩ .normal ⟨L,hk,.Db c::D.map .Db,.no⟩) (n1:hh.nx≤hk.nx) (uE:(Nat→AV)→List AV) (hl:L=uE fun k=>L.getD k AV.undef) (ih:∀x,WsL call b (uE x) ex h hk (c::D) tn tr o):WsL call b ts ex h hh D tn tr o:=by
 have q:=ih fun k=>L.getD k AV.undef
 rw[←hl] at q
 cases o with
 | none=>
   obtain ⟨y,h2,D',x,y1,n2,g⟩:=q
   exact ⟨y,h2,D',Ev.loop ev x,y1,Nat.le_trans n1 n2,g⟩
 | some v=>
   obtain ⟨z1,z2,y,h2,D',x,y1,n2,g⟩:=q
   exact ⟨z1,z2,y,h2,D',Ev.loop ev x,y1,Nat.le_trans n1 n2,g⟩
end

def UA (q:ay) (H:Int→Int):Prop:=∀a b,0≤a→a≤b→-(q.aJ*(b - a))≤H b - H a∧H b - H a≤q.aI*(b - a)
def Zk (q:ay) (l:List az) (s:Nat) (H:Int→Int):Prop:=∀c,KS q l s c→0≤c.time∧c.ax≤H c.time∧H c.time≤c.ar
theorem JL {q:ay} {H:Int→Int} (hH:UA q H) {c:dq} (hc:0≤c.time∧c.ax≤H c.time∧H c.time≤c.ar) {t:Int} (t0:0≤t):(gB q.aJ q.aI c t).aU≤H t∧H t≤(gB q.aJ q.aI c t).aF:=by
 rw[gB]
 by_cases h:c.time≤t
 · rw[if_pos h]
   have:=hH c.time t hc.1 h
   simp only
   omega
 · rw[if_neg h]
   have:=hH t c.time t0 o!
   simp only
   omega
theorem UB {q:ay} {l:List az} {s:Nat} {H:Int→Int} (hH:UA q H) (hK:Zk q l s H):Ay q l s∧∀t,0≤t→Vf q l s t (H t):=by
 refine ⟨fun i hi k hk=>?_,fun t t0 c hc=>JL hH (hK c hc) t0⟩
 have a:=JL hH (hK i hi) (hK k hk).1
 have b:=hK k hk
 omega
theorem JM {l m:List Int} {j:Nat} (h:j<l.length):(l++m).g j=l.g j:=by
 show (l++m).getD j default=l.getD j default
 rw[List.getD_eq_getElem?_getD,List.getD_eq_getElem?_getD,List.getElem?_append_left h]
theorem N2 {l:List Int} {y:Int}:(l++[y]).g l.length=y:=by
 show (l++[y]).getD l.length default=y
 rw[List.getD_eq_getElem?_getD,List.getElem?_append_right (Nat.le_refl _),Nat.sub_self];rfl
def Wk (q:ay) (v:List Int):Prop:=(q.ao≤v.g 0∧v.g 0≤q.ai)∧(∀j,j<v.length→-1000000000 - 10000*(j:Int)≤v.g j∧v.g j≤1000000000+10000*(j:Int))∧∀j,j+1<v.length→-q.aJ≤v.g (j+1) - v.g j∧v.g (j+1) - v.g j≤q.aI
theorem N3 {q:ay} (hq:aE q=0) (s:List Int):∀(k i:Nat) (v:List Int),i+k≤40→v.length=i+1→Wk q v→Wk q (hU s q k i v)
 | 0,i,v,_,_,h=>h
 | k+1,i,v,hk,hv,h=>by
   rw[hU]
   obtain ⟨_,⟨r0,r1,f0,f1⟩,_⟩:=iK hq
   rw[wrap_i64 (n:=0 - q.aJ) o! o!]
   have w:=cW (s.g i) (0 - q.aJ) q.aI o! o! o!
   obtain ⟨h1,h2,h3⟩:=h
   have b:=h2 i o!
   generalize ab (s.g i) (0 - q.aJ) q.aI=d at w ⊢
   rw[wrap_i64 (n:=v.g i+d) o! o!]
   refine N3 hq s k (i+1) _ o! (by rw[List.length_append,List.length_singleton];omega) ⟨?_,fun j hj=>?_,fun j hj=>?_⟩
   · rw[JM o!];exact h1
   · rw[List.length_append,List.length_singleton] at hj
     by_cases e:j=v.length
     · subst e;rw[N2];omega
     · rw[JM o!];exact h2 j o!
   · rw[List.length_append,List.length_singleton] at hj
     by_cases e:j+1=v.length
     · rw[e,N2,JM o!,show j=i by omega];omega
     · rw[JM o!,JM o!];exact h3 j o!
theorem A1 {q:ay} (hq:aE q=0) (b:Int) {s:List Int} (hs:s.length≤40):Wk q (bw q b s):=by
 obtain ⟨⟨s0,s1,s2⟩,_,_⟩:=iK hq
 have w:=cW b q.ao q.ai o! s1 o!
 rw[bw]
 refine N3 hq s _ 0 _ o! rfl ⟨w,fun j hj=>?_,fun j hj=>?_⟩
 · have:j=0:=by simpa using hj
   subst this
   show -1000000000 - 10000*((0:Nat):Int)≤ab b q.ao q.ai∧_≤_
   exact ⟨by omega,by show ab b q.ao q.ai≤_;omega⟩
 · simp at hj
theorem G_ {x:List Int} (hx:0<x.length) {t:Int} (t0:0≤t):cA x t=x.g (min t.toNat (x.length - 1)):=by
 rw[cA,tZ]
 congr 1
 omega
theorem EY {q:ay} (hq:aE q=0) {x:List Int} (hx:0<x.length) (w:Wk q x) (n:Nat):∀k:Nat,-(q.aJ*(k:Int))≤x.g (min (n+k) (x.length - 1)) - x.g (min n (x.length - 1))∧x.g (min (n+k) (x.length - 1)) - x.g (min n (x.length - 1))≤q.aI*(k:Int)
 | 0=>by simp
 | k+1=>by
   have ih:=EY hq hx w n k
   obtain ⟨_,⟨r0,r1,f0,f1⟩,_⟩:=iK hq
   have e1:q.aJ*((k+1:Nat):Int)=q.aJ*(k:Int)+q.aJ:=by rw[Int.natCast_add,Int.mul_add];simp
   have e2:q.aI*((k+1:Nat):Int)=q.aI*(k:Int)+q.aI:=by rw[Int.natCast_add,Int.mul_add];simp
   by_cases h:n+k+1≤x.length - 1
   · rw[show min (n+(k+1)) (x.length - 1)=min (n+k) (x.length - 1)+1 by omega]
     have:=w.2.2 (min (n+k) (x.length - 1)) o!
     omega
   · rw[show min (n+(k+1)) (x.length - 1)=min (n+k) (x.length - 1) by omega]
     omega
theorem CY {q:ay} (hq:aE q=0) {x:List Int} (hx:0<x.length) (w:Wk q x):UA q (cA x):=by
 intro a b a0 hab
 rw[G_ hx a0,G_ hx o!]
 have:=EY hq hx w a.toNat (b - a).toNat
 rw[show a.toNat+(b - a).toNat=b.toNat by omega,show (((b - a).toNat:Nat):Int)=b - a by omega] at this
 exact this
theorem N4 {q:ay} {x:List Int} (hx:0<x.length) (hl:x.length≤41) (w:Wk q x) {t:Int} (t0:0≤t): -2000000000≤cA x t∧cA x t≤2000000000:=by
 rw[G_ hx t0]
 have:=w.2.1 (min t.toNat (x.length - 1)) o!
 omega
theorem UC:∀(a:List Bool),∃s:Nat,s<2^a.length∧∀j,s.testBit j=a.g j
 | []=>⟨0,by decide,fun j=>by rw[Nat.zero_testBit];rfl⟩
 | b::a=>by
   obtain ⟨s,h1,h2⟩:=UC a
   refine ⟨2*s+b.toNat,?_,fun j=>?_⟩
   · rw[List.length_cons,Nat.pow_succ]
     cases b<;>simp<;>omega
   · cases j with
     | zero=>
       rw[Nat.testBit_zero]
       show decide ((2*s+b.toNat)%2=1)=b
       cases b<;>simp<;>omega
     | succ j=>
       rw[Nat.testBit_succ]
       have:(2*s+b.toNat) /2=s:=by cases b<;>simp<;>omega
       rw[this,h2];rfl
def CZ (a:List Bool):Nat:=((List.range 8).filter fun j=>a.g j).length
theorem Ak {p p':Nat→Bool} {i:Nat} (h:∀j,p' j=true→p j=true∨j=i):∀R:List Nat,R.Nodup→(R.filter p').length≤(R.filter p).length+1
 | [],_=>by simp
 | r::R,hn=>by
   obtain ⟨hr,hn⟩:=List.nodup_cons.1 hn
   by_cases e:r=i
   · subst e
     have:(R.filter p').length≤(R.filter p).length:=by
      have:∀S:List Nat,(∀x∈S,x≠r)→(S.filter p').length≤(S.filter p).length:=by
       intro S
       induction S with
       | nil=>intro _;simp
       | cons x S ih=>
         intro hx
         have:=ih fun y hy=>hx y (List.mem_cons_of_mem _ hy)
         rw[List.filter_cons,List.filter_cons]
         cases hp:p' x with
         | true=>
           rcases h x hp with h | h
           · rw[h];simp;exact this
           · exact absurd h (hx x (List.mem_cons_self ..))
         | false=>
           cases p x<;>simp<;>omega
      exact this R fun x hx e=>hr (e▸hx)
     rw[List.filter_cons,List.filter_cons]
     cases p' r<;>cases p r<;>simp<;>omega
   · have ih:=Ak h R hn
     rw[List.filter_cons,List.filter_cons]
     cases hp:p' r with
     | true=>
       rcases h r hp with h | h
       · rw[h];simp;exact ih
       · exact absurd h e
     | false=>cases p r<;>simp<;>omega
theorem afD {l:List Bool} {k:Nat} {x:Bool} (j:Nat) (hk:k<l.length):(l.set k x).g j=if j=k then x else l.g j:=by
 show (l.set k x).getD j default=_
 rw[List.getD_eq_getElem?_getD,List.getElem?_set]
 by_cases e:k=j
 · subst e;rw[if_pos rfl,if_pos hk,if_pos rfl];rfl
 · rw[if_neg e,if_neg (Ne.symm e)];rfl
theorem mi {q:ay} (hb:0≤q.bad∧q.bad≤8) (b:Int):∀(k i:Nat) (v:Int) (a:List Bool),i+k=a.length→0≤v∧v≤q.bad→(CZ a:Int)≤v→(CZ (dv q b k i v a):Int)≤q.bad
 | 0,i,v,a,_,h,c=>by rw[dv];omega
 | k+1,i,v,a,hk,h,c=>by
   rw[dv]
   cases decide ((af .i64 (aq .i64 b ((i:Nat):Int)) 1)=1) with
   | false=>rw[ah];exact mi hb b k _ _ _ o! h c
   | true=>
     rw[ak]
     by_cases e:v<q.bad
     · rw[decide_eq_true e,ak,wrap_i64 o! o!]
       refine mi hb b k _ _ _ (by rw[List.length_set];omega) o! ?_
       have:CZ (a.set i true)≤CZ a+1:=Ak (i:=i) (fun j hj=>by
        rw[afD j o!] at hj
        by_cases e:j=i
        · exact .inr e
        · rw[if_neg e] at hj;exact .inl hj) _ List.nodup_range
       omega
     · rw[decide_eq_false e,ah];exact mi hb b k _ _ _ o! h c
theorem C1 {q:ay} (hb:0≤q.bad∧q.bad≤8) (b:Int):(CZ (aX q b):Int)≤q.bad:=by
 rw[aX]
 refine mi hb b _ 0 0 _ (by rw[List.length_replicate];omega) o! ?_
 have:CZ (List.replicate q.ae.length false)=0:=by
  rw[CZ,List.length_eq_zero_iff,List.filter_eq_nil_iff]
  intro j _
  have:(List.replicate q.ae.length false).g j=false:=by
   show (List.replicate q.ae.length false).getD j default=false
   rw[List.getD_eq_getElem?_getD,List.getElem?_replicate]
   split<;>rfl
  rw[this];decide
 omega
theorem Mk {q:ay} (hq:aE q=0) (b:Int):∃s,s<2^q.ae.length∧(sz s:Int)=q.bad∧∀j,j<8→(aX q b).g j=true→s.testBit j=true:=by
 obtain ⟨_,_,b0,b1,b8⟩:=iK hq
 obtain ⟨s0,h1,h2⟩:=UC (aX q b)
 rw[CX] at h1
 have c:=C1 (q:=q) ⟨b0,by omega⟩ b
 have e:sz s0=CZ (aX q b):=by
  rw[sz,CZ];congr 1;congr 1;funext j;exact h2 j
 obtain ⟨s,a1,a2,a3⟩:=SI b8 (b:=q.bad.toNat) o! (q.bad.toNat - sz s0) s0 h1 o!
 exact ⟨s,a1,by omega,fun j hj hb=>a3 j hj (by rw[h2];exact hb)⟩


structure SR (q:ay) (x:List Int) (bad:List Bool) (r:az):Prop where
 aD:0≤r.aD∧r.aD<(q.ae.length:Int)
 time:0≤r.time∧r.time≤40
 value: -1000000000≤r.value∧r.value≤1000000000
 Ml:bad.g r.aD.toNat=false→cA x r.time - cx (q.ae.g r.aD.toNat) r.time≤r.value∧r.value≤cA x r.time+cx (q.ae.g r.aD.toNat) r.time
theorem UD {q:ay} (hq:aE q=0) {x:List Int} (hx:0<x.length) (hl:x.length≤41) (w:Wk q x) (bad:List Bool) {raw:List az}:∀r∈b_ q x bad raw,SR q x bad r:=by
 have go:=nA raw q x bad (SR q x bad) ?_ ?_ raw.length 0 [] o! (fun r hr=>by cases hr) (by simp)
 · rw[b_];exact go.1
 · intro i hi hg hb
   have g:=cW (raw.g i).aD 0 ((q.ae.length - 1:Nat):Int) o! o! (by have:=(iK hq).2.2.2.2;omega)
   have t:=cW (raw.g i).time 0 40 o! o! o!
   have v:=cW (raw.g i).value (-1000000000) 1000000000 o! o! o!
   exact ⟨⟨g.1,by show ab _ _ _<_;omega⟩,t,v,fun e=>by rw[show bad.g _=true from hb] at e;cases e⟩
 · intro i hi hg hb y ey y0 y1
   have g:=cW (raw.g i).aD 0 ((q.ae.length - 1:Nat):Int) o! o! (by have:=(iK hq).2.2.2.2;omega)
   have t:=cW (raw.g i).time 0 40 o! o! o!
   generalize ab (raw.g i).aD 0 ((q.ae.length - 1:Nat):Int)=G at g hb ey ⊢
   generalize ab (raw.g i).time 0 40=T at t ey ⊢
   have hG:G.toNat<q.ae.length:=by omega
   rw[Jx hq hG t.1 o!] at ey
   have wb:=mL (xS hq hG) t.1 o!
   simp only at ey
   rw[wrap_i64 (n:=0 - cx (q.ae.g G.toNat) T) o! o!] at ey
   have v:=cW (raw.g i).value (0 - cx (q.ae.g G.toNat) T) (cx (q.ae.g G.toNat) T) o! o! o!
   generalize ab (raw.g i).value (0 - cx (q.ae.g G.toNat) T) (cx (q.ae.g G.toNat) T)=V at v ey
   have xb:=N4 hx hl w t.1
   rw[wrap_i64 (n:=cA x T+V) o! o!] at ey
   refine ⟨⟨g.1,by show G<_;omega⟩,t,⟨y0,y1⟩,fun _=>?_⟩
   show cA x T - cx (q.ae.g G.toNat) T≤y∧y≤cA x T+cx (q.ae.g G.toNat) T
   omega
theorem UE {q:ay} (hq:aE q=0) {x:List Int} {bad:List Bool} {l:List az} (hl:l.length≤64) (h:∀r∈l,SR q x bad r):cD q l=0:=by
 refine L_ hq hl fun i hi=>?_
 obtain ⟨⟨g0,g1⟩,⟨t0,t1⟩,⟨v0,v1⟩,_⟩:=h _ (j7 hi)
 rw[dW,decide_eq_false (show ¬(l.g i).aD<0 by omega),decide_eq_false (show ¬((q.ae.length:Nat):Int)≤(l.g i).aD by omega),d_,decide_eq_true t0,decide_eq_true (show (l.g i).time≤100000 by omega),cL,decide_eq_true v0,decide_eq_true v1]
 rfl
theorem UF {q:ay} (hq:aE q=0) {x:List Int} (hx:0<x.length) (w:Wk q x) {bad:List Bool} {l:List az} (h:∀r∈l,SR q x bad r) {s:Nat} (hs:∀j,j<8→bad.g j=true→s.testBit j=true):Zk q l s (cA x):=by
 obtain ⟨_,_,b0,b1,b8⟩:=iK hq
 rintro c (rfl | ⟨j,hj,hb,rfl⟩)
 · refine ⟨Int.le_refl _,?_⟩
   show q.ao≤cA x 0∧cA x 0≤q.ai
   rw[G_ hx (Int.le_refl _)]
   have:=w.1
   rw[show min (0:Int).toNat (x.length - 1)=0 by simp]
   exact this
 · obtain ⟨g,t,v,Ml⟩:=h _ (j7 hj)
   have nb:bad.g (l.g j).aD.toNat=false:=by
    cases e:bad.g (l.g j).aD.toNat with
    | false=>rfl
    | true=>rw[hs _ o! e] at hb;cases hb
   have n:=Ml nb
   refine ⟨t.1,?_⟩
   show (l.g j).value - cx (q.ae.g (l.g j).aD.toNat) (l.g j).time≤cA x (l.g j).time∧cA x (l.g j).time≤(l.g j).value+cx (q.ae.g (l.g j).aD.toNat) (l.g j).time
   omega
theorem Canon.step:∀{l:List Span},Canon l→∀i,i<l.length→(l.g i).aU≤(l.g i).aF∧(0<i→(l.g (i - 1)).aF+1<(l.g i).aU)
 | [],_,i,h=>by cases h
 | s::l,c,0,_=>⟨c.head,fun h=>by omega⟩
 | s::l,c,i+1,h=>by
   have:=Canon.step c.tail i (by simpa using h)
   refine ⟨this.1,fun _=>?_⟩
   cases i with
   | zero=>
     have hm:l.g 0∈l:=j7 (by simpa using h)
     exact c.beyond _ hm
   | succ i=>exact this.2 o!
def uQ:Code:=(Try.f22.body).getD .skip
theorem lW:Try.f22.body=some uQ:=by kernel_rfl
def G':Code:=(cu uQ).getD 0 .skip
def dB (q:ay) (dY:Int):Nat→Nat→Int→Int
 | 0,_,aQ=>aQ
 | eH+1,i0,aQ=>dB q dY eH (i0+1) (imax aQ (fL (q.ae.g i0) dY))
theorem uR {d:Nat} {h:aw} (period:Int) (dY:Int) (q:ay) (cF:Nat) (cH:q.name.length<2^60) (dH:aP h q.aB q.ae) (nt:aA.ok h q):∀(k_ i_:Nat) (aQ:Int) (_:i_+k_=q.ae.length) (x:Nat→AV) (hh:aw) (aL:Tidy hh) (bB:Has h hh) (da:hh.get cF=some (aR.cells [(AV.str q.name),(Zi q.ao),(Zi q.ai),(Zi q.aI),(Zi q.aJ),(Zi q.bad),q.aB] 26 false)),fZ (dh (d+9)) G' ⟨((x 0)::(Zi period)::(Zi dY)::(Pt cF)::rx x 4 5 ((Zi aQ)::rx x 10 27 (q.aB::(Zn q.ae.length)::(Zn i_)::rx x 40 19 []))),hh,[],.no⟩ (.exit 0) hh (fun r y=>((y 0)::(Zi period)::(Zi dY)::(Pt cF)::rx y 4 5 ((Zi r)::rx y 10 27 (q.aB::(Zn q.ae.length)::rx y 39 20 [])))) (fun r=>True) (dB q dY k_ i_ aQ)
 | 0,i0,aQ,mR,x,hh,aL,bB,da=>by
   have ow:=dH.small
   have vx:=aL _ _ da
   have q1:(decide (((i0:Nat):Int)<((q.ae.length:Nat):Int)))=false:=d!
   exact fZ.out aQ rfl (pk (d+9) _ _ hh _ hh (VV (bU 3 false false .i64 ((i0:Nat):Int) ((q.ae.length:Nat):Int))<|BB q1<|ZZ) k!) (Grow.refl aL) trivial k!
 | eH+1,i0,aQ,mR,x,hh,aL,bB,da=>by
   have ow:=dH.small
   have vx:=aL _ _ da
   have q1:(decide (((i0:Nat):Int)<((q.ae.length:Nat):Int)))=true:=d!
   obtain ⟨p3,q4,j8⟩:=(dH.has bB).elem (i:=i0) o!
   have vw:dy env (some (.slice 45)) (some q.aB) (some (Zn i0))=some (AV.ptr p3 q4):=j8
   have yU:bE env hh 45 (AV.ptr p3 q4)=some (AV.agg [(AV.str (q.ae.g i0).name),(Zi (q.ae.g i0).acc),(Zi (q.ae.g i0).bH),(Zi (q.ae.g i0).since)]):=(dH.has bB).load o! j8
   obtain ⟨h6,vF,m_,Ln,vG,ka⟩:=iX aL (aR.cells [(AV.str []),(Zi 0),(Zi 0),(Zi 0)] 45 false)
   have oG:Has hh h6:=ka
   obtain ⟨h7,qZ,lr,I4,mM,fB⟩:=vq (t:=45) (n:=4) (i:=hh.nx) (L:=[(AV.str (q.ae.g i0).name),(Zi (q.ae.g i0).acc),(Zi (q.ae.g i0).bH),(Zi (q.ae.g i0).since)]) m_ vG k! rfl rfl (by simp only[AV.cells,List.all_cons,List.all_nil,Bool.and_true,Bool.and_self,jd,gK,je,jf,fi,mz,mA,mB,mC,mD,jg])
   have lu:Has hh h7:=Has.dr oG fB aL o!
   have k8:=zW (d:=d+8) (q.ae.g i0) dY (aA.mono lu ((dH.has bB).ok (i:=i0) o!)) lr
   have u9:=fU 3 false true i0 1 o!
   exact fZ.round (by simp only[dB,ak,ah]) (pk (d+9) _ _ hh _ h7 (VV (bU 3 false false .i64 ((i0:Nat):Int) ((q.ae.length:Nat):Int))<|BV q1 vw<|MM yU<|NN vF (fun i=>(Pt i))<|SS qZ<|CC<|MM (aK 45 0 (AV.agg [(AV.str (q.ae.g i0).name),(Zi (q.ae.g i0).acc),(Zi (q.ae.g i0).bH),(Zi (q.ae.g i0).since)]) mM k!)<|CC<|EE k8<|CN 2<|VV u9<|CC<|ZZ) k!) (⟨lr,lu,by omega⟩) _ k! (fun x=>uR period dY q cF cH dH nt eH (i0+1) (imax aQ (fL (q.ae.g i0) dY)) o! x h7 lr (bB.trans lu) (fB _ _ o! (ka _ _ da)))
def bN (q:ay) (period:Int) (dY:Int):Int×Int:=(bif (!decide ((aZ ([]:List ay) q)=0)) then (0,(aZ ([]:List ay) q)) else (bif (decide (period<1)) then (0,1) else (bif (!(cN period)) then (0,1) else (bif (!(cN dY)) then (0,1) else (bif (decide (((q.ae.length:Nat):Int)≤(IntKind.i64.wrap (2*q.bad)))) then (0,9) else ((IntKind.i64.wrap ((IntKind.i64.wrap (2*(dB q dY q.ae.length 0 0)))+(IntKind.i64.wrap ((IntKind.i64.wrap (q.aI+q.aJ))*period)))),0))))))
theorem Mm {d:Nat} {h:aw} (q:ay) (period:Int) (dY:Int) (gA:aA.ok h q) (ch:Tidy h):dh (d+10) (.fn 22) [(AV.agg [(AV.str q.name),(Zi q.ao),(Zi q.ai),(Zi q.aI),(Zi q.aJ),(Zi q.bad),q.aB]),(Zi period),(Zi dY)] h= .ret (AV.tuple [(Zi (bN q period dY).1),(Zi (bN q period dY).2)]) h:=by
 have jF:=gA.2.small
 obtain ⟨h1,ct,ck,jj,aW,cr⟩:=iX ch (aR.cells [(AV.str q.name),(Zi q.ao),(Zi q.ai),(Zi q.aI),(Zi q.aJ),(Zi q.bad),q.aB] 26 false)
 have bG:Has h h1:=cr
 have k2:=pj (d:=d) ([]:List ay) q aP.nil (aA.mono bG gA) ck
 have Ep:=fun {al ps} (k:Pk al _ ps)=>(NN ct (fun i=>(Pt i))<|CN 2<|MM (aK 26 0 (AV.agg [(AV.str q.name),(Zi q.ao),(Zi q.ai),(Zi q.aI),(Zi q.aJ),(Zi q.bad),q.aB]) aW k!)<|EE k2<|CN 2<|VV (j6 31 false true .i64 (aZ ([]:List ay) q) 0)<|k:Pk _ [] ps)
 rcases Bool.eq_false_or_eq_true (!decide ((aZ ([]:List ay) q)=0)) with f0 | f0
 · have ji:=Dp f0
   have e:bN q period dY=(0,(aZ ([]:List ay) q)):=by simp only[bN,f0,ak,ah]
   rw[e]
   exact aC rfl (bh Try.func22 lW rfl (.inr rfl) (pk (d+9) _ _ h _ h1 (Ep<|BB f0<|CN 3<|ZZ) k!) k!) bG rfl
 · have ji:=Dq f0
   have Hk:=fun {al ps} (k:Pk al _ ps)=>(Ep<|BC f0<|VV (bU 3 false true .i64 period 1)<|CC<|k:Pk _ [] ps)
   rcases Bool.eq_false_or_eq_true (decide (period<1)) with f1 | f1
   · have jk:=of_decide_eq_true f1
     have e:bN q period dY=(0,1):=by simp only[bN,f0,f1,ak,ah]
     rw[e]
     exact aC rfl (bh Try.func22 lW rfl (.inr rfl) (pk (d+9) _ _ h _ h1 (Hk<|BB f1<|BB f1<|BV f1 (ot true f1)<|CC<|TT<|TT<|TT<|CC<|TT<|CN 2<|ZZ) k!) k!) bG rfl
   · have jk:=of_decide_eq_false f1
     have k5:=oE (d:=d+7) period ck
     have IS:=fun {al ps} (k:Pk al _ ps)=>(Hk<|BC f1<|BB f1<|EE k5<|BC f1<|VV (a_ (a:=some (AV.bool true)) (b:=some (AV.bool (!(cN period)))) f1)<|CC<|k:Pk _ [] ps)
     rcases Bool.eq_false_or_eq_true (!(cN period)) with f2 | f2
     · have e:bN q period dY=(0,1):=by simp only[bN,f0,f1,f2,ak,ah]
       rw[e]
       exact aC rfl (bh Try.func22 lW rfl (.inr rfl) (pk (d+9) _ _ h _ h1 (IS<|BB f2<|BB f2<|BV f2 (ot true f2)<|TT<|CN 2<|ZZ) k!) k!) bG rfl
     · have k7:=oE (d:=d+7) dY ck
       have IT:=fun {al ps} (k:Pk al _ ps)=>(IS<|BC f2<|BB f2<|EE k7<|BC f2<|VV (a_ (a:=some (AV.bool true)) (b:=some (AV.bool (!(cN dY)))) f2)<|k:Pk _ [] ps)
       rcases Bool.eq_false_or_eq_true (!(cN dY)) with f3 | f3
       · have e:bN q period dY=(0,1):=by simp only[bN,f0,f1,f2,f3,ak,ah]
         rw[e]
         exact aC rfl (bh Try.func22 lW rfl (.inr rfl) (pk (d+9) _ _ h _ h1 (IT<|BB f3<|CN 2<|ZZ) k!) k!) bG rfl
       · have ln9:dN (some (.slice 45)) (some q.aB)=some (Zn q.ae.length):=gA.2.len
         have IU:=fun {al ps} (k:Pk al _ ps)=>(IT<|BC f3<|MM (aK 24 6 q.aB aW k!)<|VV ln9<|CC<|MM (aK 3 5 (Zi q.bad) aW k!)<|CC<|VV (qT 3 false false .i64 ((q.ae.length:Nat):Int) (IntKind.i64.wrap (2*q.bad)))<|k:Pk _ [] ps)
         rcases Bool.eq_false_or_eq_true (decide (((q.ae.length:Nat):Int)≤(IntKind.i64.wrap (2*q.bad)))) with f4 | f4
         · have jE:=of_decide_eq_true f4
           have e:bN q period dY=(0,9):=by simp only[bN,f0,f1,f2,f3,f4,ak,ah]
           rw[e]
           exact aC rfl (bh Try.func22 lW rfl (.inr rfl) (pk (d+9) _ _ h _ h1 (IU<|BB f4<|CN 2<|ZZ) k!) k!) bG rfl
         · have jE:=of_decide_eq_false f4
           have ah9:dN (some (.slice 45)) (some q.aB)=some (Zn q.ae.length):=gA.2.len
           obtain ⟨aj7,Jl,XO,JN,afE⟩:=uR (d:=d) (h:=h) period dY q h.nx gA.1 gA.2 gA q.ae.length 0 0 o! (fun k_=>(((AV.agg [(AV.str q.name),(Zi q.ao),(Zi q.ai),(Zi q.aI),(Zi q.aJ),(Zi q.bad),q.aB])::(Zi period)::(Zi dY)::(Pt h.nx)::AV.undef::AV.undef::(Zi 0)::(Zi 0)::(Zi (aZ ([]:List ay) q))::(Zi 0)::AV.undef::AV.undef::(AV.agg [(AV.str q.name),(Zi q.ao),(Zi q.ai),(Zi q.aI),(Zi q.aJ),(Zi q.bad),q.aB])::(Zi (aZ ([]:List ay) q))::(Zi (aZ ([]:List ay) q))::(AV.bool (!decide ((aZ ([]:List ay) q)=0)))::AV.undef::(Zi period)::(AV.bool (decide (period<1)))::(AV.bool (decide (period<1)))::(Zi period)::(AV.bool (cN period))::(AV.bool (!(cN period)))::(AV.bool (!(cN period)))::(AV.bool (!(cN period)))::(Zi dY)::(AV.bool (cN dY))::(AV.bool (!(cN dY)))::(AV.bool (!(cN dY)))::(AV.ptr h.nx 6)::q.aB::(Zn q.ae.length)::(AV.ptr h.nx 5)::(Zi q.bad)::(Zi (IntKind.i64.wrap (2*q.bad)))::(AV.bool (decide (((q.ae.length:Nat):Int)≤(IntKind.i64.wrap (2*q.bad)))))::(AV.ptr h.nx 6)::q.aB::(Zn q.ae.length)::(Zi 0)::iW 19):List AV).getD k_ AV.undef) h1 ck bG aW
           have Jm:=JN.y
           have Zg:h1.nx≤Jl.nx:=JN.n
           have Cz:Has h Jl:=bG.trans JN.a
           have e:bN q period dY=((IntKind.i64.wrap ((IntKind.i64.wrap (2*(dB q dY q.ae.length 0 0)))+(IntKind.i64.wrap ((IntKind.i64.wrap (q.aI+q.aJ))*period)))),0):=by simp only[bN,f0,f1,f2,f3,f4,ak,ah]
           rw[e]
           exact aC rfl (bh Try.func22 lW rfl (.inr rfl) (pk (d+9) _ _ h _ Jl (IU<|BB f4<|CN 2<|MM (aK 24 6 q.aB aW k!)<|VV ah9<|CC<|LL XO<|CN 3<|MM (aK 3 3 (Zi q.aI) (JN.a _ _ aW) k!)<|CC<|MM (aK 3 4 (Zi q.aJ) (JN.a _ _ aW) k!)<|CN 6<|ZZ) k!) k!) Cz rfl
end
end Go.Proofs.aG
