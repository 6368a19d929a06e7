import Derived.Test.YtfllahfbmaafcaaW0
import Derived.Test.YtfllahfbmaafcaaW9
import Derived.Test.YtfllahfbmaafcaaW4
import Derived.Test.YtfllahfbmaafcaaW12
import Derived.Test.YtfllahfbmaafcaaW3
import Derived.Test.YtfllahfbmaafcaaW10
namespace Go.Proofs.aH
open Go.Proofs Ab
noncomputable section
set_option maxRecDepth 100000
set_option maxHeartbeats 4000000
set_option linter.unusedVariables false
set_option linter.unusedSimpArgs false
def AK (q:ay) (l_:List az):Nat→Nat→Option (List Int×List Int)
 | 0,_=>none
 | k+1,i0=>bif (!List.isEmpty (cn q l_ [] ((i0:Nat):Int))) then some (iv (v_ (cn q l_ [] ((i0:Nat):Int))),iv (tN (cn q l_ [] ((i0:Nat):Int)))) else AK q l_ k (i0+1)
theorem HG {d:Nat} {h:au} {lv:AV} {q:ay} {l_:List az} {bQ:Nat} (bY:Tidy h) (hq:aA.ok h q) (hl:aZ h lv l_) (mM:∀i,i<l_.length→0≤(l_.g i).aD∧(l_.g i).aD<(q.af.length:Int)) (p1:l_.length≤12) (p2:q.af.length≤8) (QG:0≤q.bad) (hb8:q.bad≤8) (hb:h.nx≤bQ):∀(k i0:Nat) (x:Nat→AV) (hh:au) (D:List Nat),i0+k=(q.bad+1).toNat→Tidy hh→Has h hh→h.nx≤hh.nx→hh.get bQ=some (.cells (aA.c q) 26 false)→D6 h.nx hh D→
 Vn (cW (d+12)) HD ((x 0)::lv::(Pt bQ)::rx x 3 18 ((Zi (q.bad+1))::(Zn i0)::rx x 23 20 [])) (.exit 0) h hh D (fun y=>rx y 0 43 []) (fun z1 z2 y=>rx y 0 4 (z1::z2::Zi 0::rx y 7 36 [])) (AK q l_ k i0)
 | 0,i0,x,hh,D,kY,aN,bj,jo,gQ,cd=>by
   have T_q:=aN _ _ gQ
   have q1:(decide (((i0:Nat):Int)<(q.bad+1)))=false:=d!
   have ev:=pkd (D.map .rQ) (D.map .rQ) (d+12) HD ((x 0)::lv::(Pt bQ)::rx x 3 18 ((Zi (q.bad+1))::(Zn i0)::rx x 23 20 [])) hh (.exit 0) hh (VV (bZ 3 false false .i64 ((i0:Nat):Int) (q.bad+1))<|BB q1<|ZZ) k!
   exact Vn.out ev aN (Nat.le_refl _) bj cd k!
 | k+1,i0,x,hh,D,kY,aN,bj,jo,gQ,cd=>by
   have T_q:=aN _ _ gQ
   rw[AK]
   rcases Bool.eq_false_or_eq_true (!List.isEmpty (cn q l_ [] ((i0:Nat):Int))) with f1 | f1
   · rw[f1,ao]
     have q1:(decide (((i0:Nat):Int)<(q.bad+1)))=true:=d!
     obtain ⟨h2,nv,gG,CP,fW,fJ⟩:=iQ aN (a_.cells [(AV.int .u64 0)] 68 false)
     have fF:Has h h2:=bj.trans fJ
     have xZ:Has hh h2:=fJ
     obtain ⟨h3,xQ,gF,Me,qo,fG⟩:=iQ gG (a_.cells [(AV.int .u64 0)] 68 false)
     have ik:Has h h3:=fF.trans fG
     have HI:Has hh h3:=xZ.trans fG
     obtain ⟨h4,Hw,qp,PK,zm,pc⟩:=iQ gF (a_.cells [(AV.bool false)] 4 false)
     have qq:Has h h4:=ik.trans pc
     have HJ:Has hh h4:=HI.trans pc
     obtain ⟨h5,Vl,nK,ab8,J5,mZ⟩:=yX (t:=68) (n:=1) (i:=hh.nx) (o:=0) (v:=(AV.int .u64 255)) (N:=[(AV.int .u64 255)]) qp (pc _ _ (fG _ _ fW)) k! rfl k! k! (by simp only[AV.cells,List.all_cons,List.all_nil,Bool.and_true,Bool.and_self,fB,dZ,fC,fD,dh,iT,iU,iV,iW,iX,fE])
     have nL:Has h h5:=Has.cj qq mZ bY o!
     have HK:Has hh h5:=Has.cj HJ mZ aN o!
     obtain ⟨h6,UB,mh,JH,ti,mX⟩:=yX (t:=68) (n:=1) (i:=h2.nx) (o:=0) (v:=(AV.int .u64 0)) (N:=[(AV.int .u64 0)]) nK (mZ _ _ o! (pc _ _ qo)) k! rfl k! k! (by simp only[AV.cells,List.all_cons,List.all_nil,Bool.and_true,Bool.and_self,fB,dZ,fC,fD,dh,iT,iU,iV,iW,iX,fE])
     have nu:Has h h6:=Has.cj nL mX bY o!
     have iN:Has hh h6:=Has.cj HK mX aN o!
     obtain ⟨h7,pJ,lM,Ha,lV,dX⟩:=yX (t:=4) (n:=1) (i:=h3.nx) (o:=0) (v:=(AV.bool false)) (N:=[(AV.bool false)]) mh (mX _ _ o! (mZ _ _ o! zm)) k! rfl k! k! (by simp only[AV.cells,List.all_cons,List.all_nil,Bool.and_true,Bool.and_self,fB,dZ,fC,fD,dh,iT,iU,iV,iW,iX,fE])
     have kJ:Has h h7:=Has.cj nu dX bY o!
     have jU:Has hh h7:=Has.cj iN dX aN o!
     obtain ⟨bq9,Vo,Vp,Vq,h8,acJ,J1,abQ,A',Vr,MP,MQ,MR,aiN⟩:=ab3 (d:=d+10) lM q ((i0:Nat):Int) (lv:=lv) (rv:=AV.aQ) (aA.mono kJ hq) hl.scalar (by rfl)
     have Dd:Has h h8:=kJ.trans A'
     have yi:Has hh h8:=jU.trans A'
     obtain ⟨H8,MS,E6,aac,MT,MU,Bo,HL,zz⟩:=Ko (d:=d) (g:=hh) (hh:=h8) (q:=q) (l:=l_) (m:=((i0:Nat):Int)) (b9:=hh.nx) (b10:=h2.nx) (b11:=h3.nx) (bq:=bq9) (bl:=Vo) (bm:=Vp) (br:=Vq) (fun k_=>(((x 0)::lv::(Pt bQ)::rx x 3 5 ((Zn i0)::(Pt hh.nx)::(Pt h2.nx)::(Pt h3.nx)::rx x 12 9 ((Zi (q.bad+1))::(Zn i0)::(AV.bool (decide (((i0:Nat):Int)<(q.bad+1))))::(Zn i0)::(AV.agg [(AV.str q.name),(Zi q.aj),(Zi q.ah),(Zi q.aI),(Zi q.aK),(Zi q.bad),q.aB])::lv::(Zn i0)::(AV.func 44 [] [(Pt bq9),(Pt Vp),(Pt Vq),(Pt Vo)])::rx x 29 14 []))):List AV).getD k_ AV.undef) (D.map .rQ) aN (aA.mono bj hq) (hl.has bj) p1 p2 mM o! o! o! o! o! J1 yi (A' _ _ (dX _ _ o! (mX _ _ o! J5))) (A' _ _ (dX _ _ o! ti)) (A' _ _ lV) Vr MQ MR MP rfl
     have C8:Has h H8:=Has.HF Dd zz bY o! o! o!
     have Dt:Has hh H8:=Has.HF yi zz aN o! o! o!
     have q14:(!List.isEmpty (cn q l_ [] ((i0:Nat):Int)))=true:=f1
     obtain ⟨z15,rL,Du,jn,aga,agb⟩:=AI (d:=d+10) (v_ (cn q l_ [] ((i0:Nat):Int))) E6
     have tD:=jn.y
     have ZU:H8.nx≤rL.nx:=jn.n
     have rM:Has h rL:=C8.trans jn.a
     have Vs:Has hh rL:=Dt.trans jn.a
     have Qi:Has H8 rL:=jn.a
     have aiO:=aga.small
     obtain ⟨Bm,A3,Dv,kT,Qj,aaf⟩:=AI (d:=d+10) (tN (cn q l_ [] ((i0:Nat):Int))) tD
     have JQ:=kT.y
     have agc:rL.nx≤A3.nx:=kT.n
     have An:Has h A3:=rM.trans kT.a
     have Vt:Has hh A3:=Vs.trans kT.a
     have Qk:Has H8 A3:=Qi.trans kT.a
     have qx:Has rL A3:=kT.a
     have acK:=Qj.small
     have ev:=pkd (D.map .rQ) (.rQ h8.nx::D.map .rQ) (d+12) HD ((x 0)::lv::(Pt bQ)::rx x 3 18 ((Zi (q.bad+1))::(Zn i0)::rx x 23 20 [])) hh .ret A3 (VV (bZ 3 false false .i64 ((i0:Nat):Int) (q.bad+1))<|BB q1<|CN 2<|NN nv (fun i=>(Pt i))<|NN xQ (fun i=>(Pt i))<|NN Hw (fun i=>(Pt i))<|SS Vl<|SS UB<|SS pJ<|MM (aM 26 0 (AV.agg [(AV.str q.name),(Zi q.aj),(Zi q.ah),(Zi q.aI),(Zi q.aK),(Zi q.bad),q.aB]) (dX _ _ o! (mX _ _ o! (mZ _ _ o! (pc _ _ (fG _ _ (fJ _ _ gQ)))))) k!)<|CN 2<|EE acJ<|LL MS<|MM (aM 4 0 (AV.bool (!List.isEmpty (cn q l_ [] ((i0:Nat):Int)))) HL k!)<|BM q14 (aM 68 0 (AV.int .u64 (v_ (cn q l_ [] ((i0:Nat):Int)))) MU k!)<|MM (aM 68 0 (AV.int .u64 (tN (cn q l_ [] ((i0:Nat):Int)))) Bo k!)<|EE Du<|EE Dv<|CN 3<|HH (aM 68 0 (AV.int .u64 (v_ (cn q l_ [] ((i0:Nat):Int)))) MU k!)<|HH (show AV.same 20 (AV.int .u64 (v_ (cn q l_ [] ((i0:Nat):Int)))) (AV.int .u64 (v_ (cn q l_ [] ((i0:Nat):Int))))=true from aU 19 _ _)<|HH (aM 68 0 (AV.int .u64 (tN (cn q l_ [] ((i0:Nat):Int)))) Bo k!)<|HH (show AV.same 20 (AV.int .u64 (tN (cn q l_ [] ((i0:Nat):Int)))) (AV.int .u64 (tN (cn q l_ [] ((i0:Nat):Int))))=true from aU 19 _ _)<|HH (aM 68 0 (AV.int .u64 (tN (cn q l_ [] ((i0:Nat):Int)))) (jn.a _ _ Bo) k!)<|HH (show AV.same 20 (AV.int .u64 (tN (cn q l_ [] ((i0:Nat):Int)))) (AV.int .u64 (tN (cn q l_ [] ((i0:Nat):Int))))=true from aU 19 _ _)<|ZZ) k!
     exact Vn.ret (r:=(_,_)) ev JQ o! An (cd.more aN o! o! (h:=h8) Vt (Qk _ _ MT)) (aga.has qx) ((agb.has qx).le o!) Qj (aaf.le o!) k!
   · rw[f1,ai]
     have q1:(decide (((i0:Nat):Int)<(q.bad+1)))=true:=d!
     obtain ⟨h2,nv,gG,CP,fW,fJ⟩:=iQ aN (a_.cells [(AV.int .u64 0)] 68 false)
     have fF:Has h h2:=bj.trans fJ
     have xZ:Has hh h2:=fJ
     obtain ⟨h3,xQ,gF,Me,qo,fG⟩:=iQ gG (a_.cells [(AV.int .u64 0)] 68 false)
     have ik:Has h h3:=fF.trans fG
     have HI:Has hh h3:=xZ.trans fG
     obtain ⟨h4,Hw,qp,PK,zm,pc⟩:=iQ gF (a_.cells [(AV.bool false)] 4 false)
     have qq:Has h h4:=ik.trans pc
     have HJ:Has hh h4:=HI.trans pc
     obtain ⟨h5,Vl,nK,ab8,J5,mZ⟩:=yX (t:=68) (n:=1) (i:=hh.nx) (o:=0) (v:=(AV.int .u64 255)) (N:=[(AV.int .u64 255)]) qp (pc _ _ (fG _ _ fW)) k! rfl k! k! (by simp only[AV.cells,List.all_cons,List.all_nil,Bool.and_true,Bool.and_self,fB,dZ,fC,fD,dh,iT,iU,iV,iW,iX,fE])
     have nL:Has h h5:=Has.cj qq mZ bY o!
     have HK:Has hh h5:=Has.cj HJ mZ aN o!
     obtain ⟨h6,UB,mh,JH,ti,mX⟩:=yX (t:=68) (n:=1) (i:=h2.nx) (o:=0) (v:=(AV.int .u64 0)) (N:=[(AV.int .u64 0)]) nK (mZ _ _ o! (pc _ _ qo)) k! rfl k! k! (by simp only[AV.cells,List.all_cons,List.all_nil,Bool.and_true,Bool.and_self,fB,dZ,fC,fD,dh,iT,iU,iV,iW,iX,fE])
     have nu:Has h h6:=Has.cj nL mX bY o!
     have iN:Has hh h6:=Has.cj HK mX aN o!
     obtain ⟨h7,pJ,lM,Ha,lV,dX⟩:=yX (t:=4) (n:=1) (i:=h3.nx) (o:=0) (v:=(AV.bool false)) (N:=[(AV.bool false)]) mh (mX _ _ o! (mZ _ _ o! zm)) k! rfl k! k! (by simp only[AV.cells,List.all_cons,List.all_nil,Bool.and_true,Bool.and_self,fB,dZ,fC,fD,dh,iT,iU,iV,iW,iX,fE])
     have kJ:Has h h7:=Has.cj nu dX bY o!
     have jU:Has hh h7:=Has.cj iN dX aN o!
     obtain ⟨bq9,Vo,Vp,Vq,h8,acJ,J1,abQ,A',Vr,MP,MQ,MR,aiN⟩:=ab3 (d:=d+10) lM q ((i0:Nat):Int) (lv:=lv) (rv:=AV.aQ) (aA.mono kJ hq) hl.scalar (by rfl)
     have Dd:Has h h8:=kJ.trans A'
     have yi:Has hh h8:=jU.trans A'
     obtain ⟨H8,MS,E6,aac,MT,MU,Bo,HL,zz⟩:=Ko (d:=d) (g:=hh) (hh:=h8) (q:=q) (l:=l_) (m:=((i0:Nat):Int)) (b9:=hh.nx) (b10:=h2.nx) (b11:=h3.nx) (bq:=bq9) (bl:=Vo) (bm:=Vp) (br:=Vq) (fun k_=>(((x 0)::lv::(Pt bQ)::rx x 3 5 ((Zn i0)::(Pt hh.nx)::(Pt h2.nx)::(Pt h3.nx)::rx x 12 9 ((Zi (q.bad+1))::(Zn i0)::(AV.bool (decide (((i0:Nat):Int)<(q.bad+1))))::(Zn i0)::(AV.agg [(AV.str q.name),(Zi q.aj),(Zi q.ah),(Zi q.aI),(Zi q.aK),(Zi q.bad),q.aB])::lv::(Zn i0)::(AV.func 44 [] [(Pt bq9),(Pt Vp),(Pt Vq),(Pt Vo)])::rx x 29 14 []))):List AV).getD k_ AV.undef) (D.map .rQ) aN (aA.mono bj hq) (hl.has bj) p1 p2 mM o! o! o! o! o! J1 yi (A' _ _ (dX _ _ o! (mX _ _ o! J5))) (A' _ _ (dX _ _ o! ti)) (A' _ _ lV) Vr MQ MR MP rfl
     have C8:Has h H8:=Has.HF Dd zz bY o! o! o!
     have Dt:Has hh H8:=Has.HF yi zz aN o! o! o!
     have q14:(!List.isEmpty (cn q l_ [] ((i0:Nat):Int)))=false:=f1
     have u15:=fj 3 false true i0 1 o!
     have ev:=pkd (D.map .rQ) (.rQ h8.nx::D.map .rQ) (d+12) HD ((x 0)::lv::(Pt bQ)::rx x 3 18 ((Zi (q.bad+1))::(Zn i0)::rx x 23 20 [])) hh .normal H8 (VV (bZ 3 false false .i64 ((i0:Nat):Int) (q.bad+1))<|BB q1<|CN 2<|NN nv (fun i=>(Pt i))<|NN xQ (fun i=>(Pt i))<|NN Hw (fun i=>(Pt i))<|SS Vl<|SS UB<|SS pJ<|MM (aM 26 0 (AV.agg [(AV.str q.name),(Zi q.aj),(Zi q.ah),(Zi q.aI),(Zi q.aK),(Zi q.bad),q.aB]) (dX _ _ o! (mX _ _ o! (mZ _ _ o! (pc _ _ (fG _ _ (fJ _ _ gQ)))))) k!)<|CN 2<|EE acJ<|LL MS<|MM (aM 4 0 (AV.bool (!List.isEmpty (cn q l_ [] ((i0:Nat):Int)))) HL k!)<|BV q14 u15<|CC<|ZZ) k!
     exact Vn.round ev o! _ k! (fun x=>HG bY hq hl mM p1 p2 QG hb8 hb k (i0+1) x H8 _ o! E6 C8 o! (zz _ _ o! o! o! (A' _ _ (dX _ _ o! (mX _ _ o! (mZ _ _ o! (pc _ _ (fG _ _ (fJ _ _ gQ)))))))) (cd.more aN o! o! (h:=h8) Dt ((Has.refl _) _ _ MT)))
def aR (q:ay) (l_:List az):List Int×List Int×Int:=bif !decide (bk q l_=0) then ([],[],bk q l_) else (match AK q l_ (q.bad+1).toNat 0 with | none=>([],[],0) | some r=>(r.1,r.2,0))
theorem HM {d:Nat} {h:au} {lv:AV} {q:ay} {l_:List az} (bY:Tidy h) (hq:aA.ok h q) (hl:aZ h lv l_) (p1:bk q l_=0→l_.length≤12):
 ∃z1 z2 hk,cW (d+13) (.fn 20) [.agg (aA.c q),lv] h= .ret (.tuple [z1,z2,Zi (aR q l_).2.2]) hk∧Grow h hk∧eS hk .i64 3 z1 (aR q l_).1∧eS hk .i64 3 z2 (aR q l_).2.1:=by
 rcases Bool.eq_false_or_eq_true (!decide (bk q l_=0)) with f0 | f0
 · rw[aR,f0,ao]
   obtain ⟨h1,cA,cq,jf,aY,ct⟩:=iQ bY (a_.cells [(AV.str q.name),(Zi q.aj),(Zi q.ah),(Zi q.aI),(Zi q.aK),(Zi q.bad),q.aB] 26 false)
   have bI:Has h h1:=ct
   have k2:=jm (d:=d+1) q l_ (aA.mono bI hq) (hl.has bI) cq
   have q3:(!decide ((bk q l_)=0))=true:=d!
   have ev:=pk (d+12) rB ((AV.agg [(AV.str q.name),(Zi q.aj),(Zi q.ah),(Zi q.aI),(Zi q.aK),(Zi q.bad),q.aB])::lv::kX 41) h .ret h1 (NN cA (fun i=>(Pt i))<|CN 3<|MM (aM 26 0 (AV.agg [(AV.str q.name),(Zi q.aj),(Zi q.ah),(Zi q.aI),(Zi q.aK),(Zi q.bad),q.aB]) aY k!)<|CC<|EE k2<|CN 2<|VV (jw 31 false true .i64 (bk q l_) 0)<|BB q3<|CN 4<|ZZ) k!
   obtain ⟨hk,e,q⟩:=zy bY rfl (bx (v:= .tuple [.aQ,.aQ,Zi (bk q l_)]) Try.func20 acG k! (.inr rfl) ev k!) cq o! bI (HE _) (.inl ⟨rfl,rfl⟩) (HE _) (.inl ⟨rfl,rfl⟩)
   exact ⟨_,_,hk,e,q⟩
 · have f0':bk q l_=0:=by cases hd:decide (bk q l_=0) with | true=>exact of_decide_eq_true hd | false=>rw[hd] at f0;cases f0
   have p1:=p1 f0'
   have mM:=(Cv ((jE q l_).symm.trans f0')).1
   have p2:=(Cv ((jE q l_).symm.trans f0')).2.2
   have QG:0≤q.bad:=by have:=(EW ((jE q l_).symm.trans f0')).bad;omega
   have hb8:q.bad≤8:=by have:=(EW ((jE q l_).symm.trans f0')).bad;omega
   rw[aR,f0,ai]
   rcases QI:AK q l_ (q.bad+1).toNat 0 with _ | ⟨A,B⟩
   · skip
     obtain ⟨h1,cA,cq,jf,aY,ct⟩:=iQ bY (a_.cells [(AV.str q.name),(Zi q.aj),(Zi q.ah),(Zi q.aI),(Zi q.aK),(Zi q.bad),q.aB] 26 false)
     have bI:Has h h1:=ct
     have k2:=jm (d:=d+1) q l_ (aA.mono bI hq) (hl.has bI) cq
     have q3:(!decide ((bk q l_)=0))=false:=d!
     have w4:IntKind.i64.wrap (q.bad+1)=q.bad+1:=wrap_i64 o! o!
     have SL:=HG (d:=d) (bQ:=h.nx) bY hq hl mM p1 p2 QG hb8 o! (q.bad+1).toNat 0 (fun k_=>(((AV.agg [(AV.str q.name),(Zi q.aj),(Zi q.ah),(Zi q.aI),(Zi q.aK),(Zi q.bad),q.aB])::lv::(Pt h.nx)::AV.undef::AV.aQ::AV.aQ::(Zi 0)::(Zi (bk q l_))::AV.undef::AV.undef::AV.undef::AV.undef::AV.undef::(AV.agg [(AV.str q.name),(Zi q.aj),(Zi q.ah),(Zi q.aI),(Zi q.aK),(Zi q.bad),q.aB])::lv::(Zi (bk q l_))::(Zi (bk q l_))::(AV.bool (!decide ((bk q l_)=0)))::AV.undef::(AV.ptr h.nx 5)::(Zi q.bad)::(Zi (q.bad+1))::(Zi 0)::kX 20):List AV).getD k_ AV.undef) h1 [] o! cq bI o! aY ⟨List.nodup_nil,fun r hr=>by cases hr⟩
     rw[QI] at SL
     obtain ⟨yl6,h5,D_,C3,nK,JF,Vu,Vv⟩:=SL
     have nL:Has h h5:=Vu
     have ev:=pkd [] (D_.map .rQ) (d+12) rB ((AV.agg [(AV.str q.name),(Zi q.aj),(Zi q.ah),(Zi q.aI),(Zi q.aK),(Zi q.bad),q.aB])::lv::kX 41) h .ret h5 (NN cA (fun i=>(Pt i))<|CN 3<|MM (aM 26 0 (AV.agg [(AV.str q.name),(Zi q.aj),(Zi q.ah),(Zi q.aI),(Zi q.aK),(Zi q.bad),q.aB]) aY k!)<|CC<|EE k2<|CN 2<|VV (jw 31 false true .i64 (bk q l_) 0)<|BC q3<|MM (aM 3 5 (Zi q.bad) aY k!)<|VV (Lk 3 false true w4)<|CC<|LL C3<|CN 3<|ZZ) k!
     obtain ⟨s1,s2,s3⟩:=AJ nK Vv
     obtain ⟨hk,e,q⟩:=zy bY rfl (GR (L:=D_) (v:= .tuple [.aQ,.aQ,Zi 0]) Try.func20 acG k! (.inr rfl) ev Vv.nd (fun r hr=>(Vv.at_ r hr).2) k!) s1 (by rw[nI];omega) (fun k w e=>s3 k w (bY _ _ e) (nL _ _ e)) (HE _) (.inl ⟨rfl,rfl⟩) (HE _) (.inl ⟨rfl,rfl⟩)
     exact ⟨_,_,hk,e,q⟩
   · skip
     obtain ⟨h1,cA,cq,jf,aY,ct⟩:=iQ bY (a_.cells [(AV.str q.name),(Zi q.aj),(Zi q.ah),(Zi q.aI),(Zi q.aK),(Zi q.bad),q.aB] 26 false)
     have bI:Has h h1:=ct
     have k2:=jm (d:=d+1) q l_ (aA.mono bI hq) (hl.has bI) cq
     have q3:(!decide ((bk q l_)=0))=false:=d!
     have w4:IntKind.i64.wrap (q.bad+1)=q.bad+1:=wrap_i64 o! o!
     have SL:=HG (d:=d) (bQ:=h.nx) bY hq hl mM p1 p2 QG hb8 o! (q.bad+1).toNat 0 (fun k_=>(((AV.agg [(AV.str q.name),(Zi q.aj),(Zi q.ah),(Zi q.aI),(Zi q.aK),(Zi q.bad),q.aB])::lv::(Pt h.nx)::AV.undef::AV.aQ::AV.aQ::(Zi 0)::(Zi (bk q l_))::AV.undef::AV.undef::AV.undef::AV.undef::AV.undef::(AV.agg [(AV.str q.name),(Zi q.aj),(Zi q.ah),(Zi q.aI),(Zi q.aK),(Zi q.bad),q.aB])::lv::(Zi (bk q l_))::(Zi (bk q l_))::(AV.bool (!decide ((bk q l_)=0)))::AV.undef::(AV.ptr h.nx 5)::(Zi q.bad)::(Zi (q.bad+1))::(Zi 0)::kX 20):List AV).getD k_ AV.undef) h1 [] o! cq bI o! aY ⟨List.nodup_nil,fun r hr=>by cases hr⟩
     rw[QI] at SL
     obtain ⟨z7,z8,yl6,h5,D_,C3,nK,JF,Vu,Vv,q1,o1,q2,o2⟩:=SL
     have nL:Has h h5:=Vu
     have ev:=pkd [] (D_.map .rQ) (d+12) rB ((AV.agg [(AV.str q.name),(Zi q.aj),(Zi q.ah),(Zi q.aI),(Zi q.aK),(Zi q.bad),q.aB])::lv::kX 41) h .ret h5 (NN cA (fun i=>(Pt i))<|CN 3<|MM (aM 26 0 (AV.agg [(AV.str q.name),(Zi q.aj),(Zi q.ah),(Zi q.aI),(Zi q.aK),(Zi q.bad),q.aB]) aY k!)<|CC<|EE k2<|CN 2<|VV (jw 31 false true .i64 (bk q l_) 0)<|BC q3<|MM (aM 3 5 (Zi q.bad) aY k!)<|VV (Lk 3 false true w4)<|CC<|LL C3<|ZZ) k!
     obtain ⟨s1,s2,s3⟩:=AJ nK Vv
     obtain ⟨hk,e,q⟩:=zy bY rfl (GR (L:=D_) (v:= .tuple [z7,z8,Zi 0]) Try.func20 acG k! (.inr rfl) ev Vv.nd (fun r hr=>(Vv.at_ r hr).2) k!) s1 (by rw[nI];omega) (fun k w e=>s3 k w (bY _ _ e) (nL _ _ e)) ((o1.AJ nK Vv).zs q1.small k! k!) (o1.AJ nK Vv) ((o2.AJ nK Vv).zs q2.small k! k!) (o2.AJ nK Vv)
     exact ⟨_,_,hk,e,q⟩
def Vw (q:ay) (H:Int→Int):Prop:=∀a b,0≤a→a≤b→-(q.aK*(b - a))≤H b - H a∧H b - H a≤q.aI*(b - a)
def aag (q:ay) (l:List az) (s:Nat) (H:Int→Int):Prop:=∀c,KS q l s c→0≤c.time∧c.ax≤H c.time∧H c.time≤c.ar
theorem Kq {q:ay} {H:Int→Int} (hH:Vw q H) {c:di} (hc:0≤c.time∧c.ax≤H c.time∧H c.time≤c.ar) {t:Int} (t0:0≤t):(gM q.aK q.aI c t).aX≤H t∧H t≤(gM q.aK q.aI c t).aG:=by
 rw[gM]
 by_cases h:c.time≤t
 · rw[if_pos h]
   have:=hH c.time t hc.1 h
   simp only
   omega
 · rw[if_neg h]
   have:=hH t c.time t0 o!
   simp only
   omega
theorem Vx {q:ay} {l:List az} {s:Nat} {H:Int→Int} (hH:Vw q H) (hK:aag q l s H):A0 q l s∧∀t,0≤t→Wc q l s t (H t):=by
 refine ⟨fun i hi k hk=>?_,fun t t0 c hc=>Kq hH (hK c hc) t0⟩
 have a:=Kq hH (hK i hi) (hK k hk).1
 have b:=hK k hk
 omega
theorem Kr {l m:List Int} {j:Nat} (h:j<l.length):(l++m).g j=l.g j:=by
 show (l++m).getD j default=l.getD j default
 rw[List.getD_eq_getElem?_getD,List.getD_eq_getElem?_getD,List.getElem?_append_left h]
theorem Oz {l:List Int} {y:Int}:(l++[y]).g l.length=y:=by
 show (l++[y]).getD l.length default=y
 rw[List.getD_eq_getElem?_getD,List.getElem?_append_right (Nat.le_refl _),Nat.sub_self];rfl
def Wk (q:ay) (v:List Int):Prop:=(q.aj≤v.g 0∧v.g 0≤q.ah)∧(∀j,j<v.length→-1000000000 - 10000*(j:Int)≤v.g j∧v.g j≤1000000000+10000*(j:Int))∧∀j,j+1<v.length→-q.aK≤v.g (j+1) - v.g j∧v.g (j+1) - v.g j≤q.aI
theorem OA {q:ay} (hq:aE q=0) (s:List Int):∀(k i:Nat) (v:List Int),i+k≤40→v.length=i+1→Wk q v→Wk q (ir s q k i v)
 | 0,i,v,_,_,h=>h
 | k+1,i,v,hk,hv,h=>by
   rw[ir]
   obtain ⟨_,⟨r0,r1,f0,f1⟩,_⟩:=lS hq
   rw[wrap_i64 (n:=0 - q.aK) o! o!]
   have w:=fp (s.g i) (0 - q.aK) q.aI o! o! o!
   obtain ⟨h1,h2,h3⟩:=h
   have b:=h2 i o!
   generalize ab (s.g i) (0 - q.aK) q.aI=d at w ⊢
   rw[wrap_i64 (n:=v.g i+d) o! o!]
   refine OA hq s k (i+1) _ o! (by rw[List.length_append,List.length_singleton];omega) ⟨?_,fun j hj=>?_,fun j hj=>?_⟩
   · rw[Kr o!];exact h1
   · rw[List.length_append,List.length_singleton] at hj
     by_cases e:j=v.length
     · subst e;rw[Oz];omega
     · rw[Kr o!];exact h2 j o!
   · rw[List.length_append,List.length_singleton] at hj
     by_cases e:j+1=v.length
     · rw[e,Oz,Kr o!,show j=i by omega];omega
     · rw[Kr o!,Kr o!];exact h3 j o!
theorem OB {q:ay} (hq:aE q=0) (b:Int) {s:List Int} (hs:s.length≤40):Wk q (aO q b s):=by
 obtain ⟨⟨s0,s1,s2⟩,_,_⟩:=lS hq
 have w:=fp b q.aj q.ah o! s1 o!
 rw[aO]
 refine OA hq s _ 0 _ o! rfl ⟨w,fun j hj=>?_,fun j hj=>?_⟩
 · have:j=0:=by simpa using hj
   subst this
   show -1000000000 - 10000*((0:Nat):Int)≤ab b q.aj q.ah∧_≤_
   exact ⟨by omega,by show ab b q.aj q.ah≤_;omega⟩
 · simp at hj
theorem HN {x:List Int} (hx:0<x.length) {t:Int} (t0:0≤t):dE x t=x.g (min t.toNat (x.length - 1)):=by
 rw[dE,uk]
 congr 1
 omega
theorem Fy {q:ay} (hq:aE q=0) {x:List Int} (hx:0<x.length) (w:Wk q x) (n:Nat):∀k:Nat,-(q.aK*(k:Int))≤x.g (min (n+k) (x.length - 1)) - x.g (min n (x.length - 1))∧x.g (min (n+k) (x.length - 1)) - x.g (min n (x.length - 1))≤q.aI*(k:Int)
 | 0=>by simp
 | k+1=>by
   have ih:=Fy hq hx w n k
   obtain ⟨_,⟨r0,r1,f0,f1⟩,_⟩:=lS hq
   have e1:q.aK*((k+1:Nat):Int)=q.aK*(k:Int)+q.aK:=by rw[Int.natCast_add,Int.mul_add];simp
   have e2:q.aI*((k+1:Nat):Int)=q.aI*(k:Int)+q.aI:=by rw[Int.natCast_add,Int.mul_add];simp
   by_cases h:n+k+1≤x.length - 1
   · rw[show min (n+(k+1)) (x.length - 1)=min (n+k) (x.length - 1)+1 by omega]
     have:=w.2.2 (min (n+k) (x.length - 1)) o!
     omega
   · rw[show min (n+(k+1)) (x.length - 1)=min (n+k) (x.length - 1) by omega]
     omega
theorem MV {q:ay} (hq:aE q=0) {x:List Int} (hx:0<x.length) (w:Wk q x):Vw q (dE x):=by
 intro a b a0 hab
 rw[HN hx a0,HN hx o!]
 have:=Fy hq hx w a.toNat (b - a).toNat
 rw[show a.toNat+(b - a).toNat=b.toNat by omega,show (((b - a).toNat:Nat):Int)=b - a by omega] at this
 exact this
theorem YM {q:ay} {x:List Int} (hx:0<x.length) (hl:x.length≤41) (w:Wk q x) {t:Int} (t0:0≤t): -2000000000≤dE x t∧dE x t≤2000000000:=by
 rw[HN hx t0]
 have:=w.2.1 (min t.toNat (x.length - 1)) o!
 omega
theorem Vy:∀(a:List Bool),∃s:Nat,s<2^a.length∧∀j,s.testBit j=a.g j
 | []=>⟨0,by decide,fun j=>by rw[Nat.zero_testBit];rfl⟩
 | b::a=>by
   obtain ⟨s,h1,h2⟩:=Vy a
   refine ⟨2*s+b.toNat,?_,fun j=>?_⟩
   · rw[List.length_cons,Nat.pow_succ]
     cases b<;>simp<;>omega
   · cases j with
     | zero=>
       rw[Nat.testBit_zero]
       show decide ((2*s+b.toNat)%2=1)=b
       cases b<;>simp<;>omega
     | succ j=>
       rw[Nat.testBit_succ]
       have:(2*s+b.toNat) /2=s:=by cases b<;>simp<;>omega
       rw[this,h2];rfl
def HO (a:List Bool):Nat:=((List.range 8).filter fun j=>a.g j).length
theorem AL {p p':Nat→Bool} {i:Nat} (h:∀j,p' j=true→p j=true∨j=i):∀R:List Nat,R.Nodup→(R.filter p').length≤(R.filter p).length+1
 | [],_=>by simp
 | r::R,hn=>by
   obtain ⟨hr,hn⟩:=List.nodup_cons.1 hn
   by_cases e:r=i
   · subst e
     have:(R.filter p').length≤(R.filter p).length:=by
      have:∀S:List Nat,(∀x∈S,x≠r)→(S.filter p').length≤(S.filter p).length:=by
       intro S
       induction S with
       | nil=>intro _;simp
       | cons x S ih=>
         intro hx
         have:=ih fun y hy=>hx y (List.mem_cons_of_mem _ hy)
         rw[List.filter_cons,List.filter_cons]
         cases hp:p' x with
         | true=>
           rcases h x hp with h | h
           · rw[h];simp;exact this
           · exact absurd h (hx x (List.mem_cons_self ..))
         | false=>
           cases p x<;>simp<;>omega
      exact this R fun x hx e=>hr (e▸hx)
     rw[List.filter_cons,List.filter_cons]
     cases p' r<;>cases p r<;>simp<;>omega
   · have ih:=AL h R hn
     rw[List.filter_cons,List.filter_cons]
     cases hp:p' r with
     | true=>
       rcases h r hp with h | h
       · rw[h];simp;exact ih
       · exact absurd h e
     | false=>cases p r<;>simp<;>omega
theorem agf {l:List Bool} {k:Nat} {x:Bool} (j:Nat) (hk:k<l.length):(l.set k x).g j=if j=k then x else l.g j:=by
 show (l.set k x).getD j default=_
 rw[List.getD_eq_getElem?_getD,List.getElem?_set]
 by_cases e:k=j
 · subst e;rw[if_pos rfl,if_pos hk,if_pos rfl];rfl
 · rw[if_neg e,if_neg (Ne.symm e)];rfl
theorem mA {q:ay} (hb:0≤q.bad∧q.bad≤8) (b:Int):∀(k i:Nat) (v:Int) (a:List Bool),i+k=a.length→0≤v∧v≤q.bad→(HO a:Int)≤v→(HO (dq q b k i v a):Int)≤q.bad
 | 0,i,v,a,_,h,c=>by rw[dq];omega
 | k+1,i,v,a,hk,h,c=>by
   rw[dq]
   cases decide ((ae .i64 (aq .i64 b ((i:Nat):Int)) 1)=1) with
   | false=>rw[ai];exact mA hb b k _ _ _ o! h c
   | true=>
     rw[ao]
     by_cases e:v<q.bad
     · rw[decide_eq_true e,ao,wrap_i64 o! o!]
       refine mA hb b k _ _ _ (by rw[List.length_set];omega) o! ?_
       have:HO (a.set i true)≤HO a+1:=AL (i:=i) (fun j hj=>by
        rw[agf j o!] at hj
        by_cases e:j=i
        · exact .inr e
        · rw[if_neg e] at hj;exact .inl hj) _ List.nodup_range
       omega
     · rw[decide_eq_false e,ai];exact mA hb b k _ _ _ o! h c
theorem MW {q:ay} (hb:0≤q.bad∧q.bad≤8) (b:Int):(HO (aF q b):Int)≤q.bad:=by
 rw[aF]
 refine mA hb b _ 0 0 _ (by rw[List.length_replicate];omega) o! ?_
 have:HO (List.replicate q.af.length false)=0:=by
  rw[HO,List.length_eq_zero_iff,List.filter_eq_nil_iff]
  intro j _
  have:(List.replicate q.af.length false).g j=false:=by
   show (List.replicate q.af.length false).getD j default=false
   rw[List.getD_eq_getElem?_getD,List.getElem?_replicate]
   split<;>rfl
  rw[this];decide
 omega
theorem MX {q:ay} (hq:aE q=0) (b:Int):∃s,s<2^q.af.length∧(sz s:Int)=q.bad∧∀j,j<8→(aF q b).g j=true→s.testBit j=true:=by
 obtain ⟨_,_,b0,b1,b8⟩:=lS hq
 obtain ⟨s0,h1,h2⟩:=Vy (aF q b)
 rw[Dq] at h1
 have c:=MW (q:=q) ⟨b0,by omega⟩ b
 have e:sz s0=HO (aF q b):=by
  rw[sz,HO];congr 1;congr 1;funext j;exact h2 j
 obtain ⟨s,a1,a2,a3⟩:=Tn b8 (b:=q.bad.toNat) o! (q.bad.toNat - sz s0) s0 h1 o!
 exact ⟨s,a1,by omega,fun j hj hb=>a3 j hj (by rw[h2];exact hb)⟩

theorem acL {l:List Span} {r:Span} (h:r∈l):∃j,j<l.length∧l.g j=r:=by
 obtain ⟨j,hj,e⟩:=List.mem_iff_getElem.1 h
 refine ⟨j,hj,?_⟩
 rw[←e]
 show l.getD j default=_
 rw[List.getD_eq_getElem?_getD,List.getElem?_eq_getElem hj];rfl
structure SR (q:ay) (x:List Int) (bad:List Bool) (r:az):Prop where
 aD:0≤r.aD∧r.aD<(q.af.length:Int)
 time:0≤r.time∧r.time≤40
 value: -1000000000≤r.value∧r.value≤1000000000
 agi:bad.g r.aD.toNat=false→dE x r.time - dy (q.af.g r.aD.toNat) r.time≤r.value∧r.value≤dE x r.time+dy (q.af.g r.aD.toNat) r.time
theorem Vz {q:ay} (hq:aE q=0) {x:List Int} (hx:0<x.length) (hl:x.length≤41) (w:Wk q x) (bad:List Bool) {raw:List az}:∀r∈aL q x bad raw,SR q x bad r:=by
 have go:=nO raw q x bad (SR q x bad) ?_ ?_ raw.length 0 [] o! (fun r hr=>by cases hr) (by simp)
 · rw[aL];exact go.1
 · intro i hi hg hb
   have g:=fp (raw.g i).aD 0 ((q.af.length - 1:Nat):Int) o! o! (by have:=(lS hq).2.2.2.2;omega)
   have t:=fp (raw.g i).time 0 40 o! o! o!
   have v:=fp (raw.g i).value (-1000000000) 1000000000 o! o! o!
   exact ⟨⟨g.1,by show ab _ _ _<_;omega⟩,t,v,fun e=>by rw[show bad.g _=true from hb] at e;cases e⟩
 · intro i hi hg hb y ey y0 y1
   have g:=fp (raw.g i).aD 0 ((q.af.length - 1:Nat):Int) o! o! (by have:=(lS hq).2.2.2.2;omega)
   have t:=fp (raw.g i).time 0 40 o! o! o!
   generalize ab (raw.g i).aD 0 ((q.af.length - 1:Nat):Int)=G at g hb ey ⊢
   generalize ab (raw.g i).time 0 40=T at t ey ⊢
   have hG:G.toNat<q.af.length:=by omega
   rw[J_ hq hG t.1 o!] at ey
   have wb:=qm (Om hq hG) t.1 o!
   simp only at ey
   rw[wrap_i64 (n:=0 - dy (q.af.g G.toNat) T) o! o!] at ey
   have v:=fp (raw.g i).value (0 - dy (q.af.g G.toNat) T) (dy (q.af.g G.toNat) T) o! o! o!
   generalize ab (raw.g i).value (0 - dy (q.af.g G.toNat) T) (dy (q.af.g G.toNat) T)=V at v ey
   have xb:=YM hx hl w t.1
   rw[wrap_i64 (n:=dE x T+V) o! o!] at ey
   refine ⟨⟨g.1,by show G<_;omega⟩,t,⟨y0,y1⟩,fun _=>?_⟩
   show dE x T - dy (q.af.g G.toNat) T≤y∧y≤dE x T+dy (q.af.g G.toNat) T
   omega
theorem VA {q:ay} (hq:aE q=0) {x:List Int} {bad:List Bool} {l:List az} (hl:l.length≤64) (h:∀r∈l,SR q x bad r):cz q l=0:=by
 refine MD hq hl fun i hi=>?_
 obtain ⟨⟨g0,g1⟩,⟨t0,t1⟩,⟨v0,v1⟩,_⟩:=h _ (lB hi)
 rw[dV,decide_eq_false (show ¬(l.g i).aD<0 by omega),decide_eq_false (show ¬((q.af.length:Nat):Int)≤(l.g i).aD by omega),ff,decide_eq_true t0,decide_eq_true (show (l.g i).time≤100000 by omega),cK,decide_eq_true v0,decide_eq_true v1]
 rfl
theorem VB {q:ay} (hq:aE q=0) {x:List Int} (hx:0<x.length) (w:Wk q x) {bad:List Bool} {l:List az} (h:∀r∈l,SR q x bad r) {s:Nat} (hs:∀j,j<8→bad.g j=true→s.testBit j=true):aag q l s (dE x):=by
 obtain ⟨_,_,b0,b1,b8⟩:=lS hq
 rintro c (rfl | ⟨j,hj,hb,rfl⟩)
 · refine ⟨Int.le_refl _,?_⟩
   show q.aj≤dE x 0∧dE x 0≤q.ah
   rw[HN hx (Int.le_refl _)]
   have:=w.1
   rw[show min (0:Int).toNat (x.length - 1)=0 by simp]
   exact this
 · obtain ⟨g,t,v,agi⟩:=h _ (lB hj)
   have nb:bad.g (l.g j).aD.toNat=false:=by
    cases e:bad.g (l.g j).aD.toNat with
    | false=>rfl
    | true=>rw[hs _ o! e] at hb;cases hb
   have n:=agi nb
   refine ⟨t.1,?_⟩
   show (l.g j).value - dy (q.af.g (l.g j).aD.toNat) (l.g j).time≤dE x (l.g j).time∧dE x (l.g j).time≤(l.g j).value+dy (q.af.g (l.g j).aD.toNat) (l.g j).time
   omega
theorem zA {l:List Span} {x:Int}:∀(k i:Nat),i+k=l.length→(∃j,i≤j∧j<l.length∧(l.g j).aX≤x∧x≤(l.g j).aG)→fT l x k i=some true
 | 0,i,e,⟨j,a,b,_⟩=>by omega
 | k+1,i,e,⟨j,a,b,c,d⟩=>by
   rw[fT]
   by_cases e1:(l.g i).aX≤x
   · rw[decide_eq_true e1,ao]
     by_cases e2:x≤(l.g i).aG
     · rw[decide_eq_true e2];rfl
     · rw[decide_eq_false e2,ai]
       have nj:j≠i:=by intro h;rw[h] at d;exact e2 d
       exact zA k (i+1) o! ⟨j,by omega,b,c,d⟩
   · rw[decide_eq_false e1,ai]
     have nj:j≠i:=by intro h;rw[h] at c;exact e1 c
     exact zA k (i+1) o! ⟨j,by omega,b,c,d⟩
theorem Ql {l:List Span} {x:Int} (h:we l x):gA l x=true:=by
 obtain ⟨r,hr,a,b⟩:=h
 obtain ⟨j,hj,rfl⟩:=acL hr
 rw[gA,zA l.length 0 o! ⟨j,Nat.zero_le _,hj,a,b⟩]
theorem Canon.step:∀{l:List Span},Canon l→∀i,i<l.length→(l.g i).aX≤(l.g i).aG∧(0<i→(l.g (i - 1)).aG+1<(l.g i).aX)
 | [],_,i,h=>by cases h
 | s::l,c,0,_=>⟨c.head,fun h=>by omega⟩
 | s::l,c,i+1,h=>by
   have:=Canon.step c.tail i (by simpa using h)
   refine ⟨this.1,fun _=>?_⟩
   cases i with
   | zero=>
     have hm:l.g 0∈l:=lB (by simpa using h)
     exact c.beyond _ hm
   | succ i=>exact this.2 o!
theorem YN {q:ay} {l:List az} {t:Int} (f:RF q l) (t0:0≤t) (t1:t≤100000) {x:Int} (h:we (dA q l t) x): -2000000000≤x∧x≤2000000000:=by
 obtain ⟨s,_,_,_,v⟩:=((pL f t0 t1).2 x).1 h
 have:=v _ (.inl rfl)
 rw[gM,if_pos (show (QT q).time≤t from t0)] at this
 have e:t -(QT q).time=t:=by show t - 0=t;omega
 rw[e] at this
 have a:(QT q).ax=q.aj:=rfl
 have b:(QT q).ar=q.ah:=rfl
 simp only[a,b] at this
 have m1:=ji f.xz.2.2.1 f.xz.2.2.2 t0 t1
 have m2:=ji f.xz.1 f.xz.2.1 t0 t1
 have:=f.start
 omega
def agj:Bool:=(List.range 256).all fun x=>iv ((x:Nat):Int)==((List.range 8).filter fun j=>x.testBit j).map fun j=>((j:Nat):Int)
theorem VC:agj=true:=by decide+kernel
theorem OC {x:Nat} (h:x<256):iv ((x:Nat):Int)=((List.range 8).filter fun j=>x.testBit j).map fun j=>((j:Nat):Int):=eq_of_beq (List.all_eq_true.1 VC x (List.mem_range.2 h))
theorem uu {a:Nat} (h:a<256):(BitVec.ofInt 64 ((a:Nat):Int)).toNat=a:=by
 rw[BitVec.ofInt_natCast,BitVec.toNat_ofNat,Nat.mod_eq_of_lt o!]
theorem agk {a b:Nat} (ha:a<256) (hb:b<256):ae .u64 ((a:Nat):Int) ((b:Nat):Int)=((a&&& b:Nat):Int):=by
 show IntKind.u64.wrap ((BitVec.ofInt 64 ((a:Nat):Int)&&& BitVec.ofInt 64 ((b:Nat):Int)).toNat:Nat)=_
 rw[BitVec.toNat_and,uu ha,uu hb]
 have:a&&& b≤a:=Nat.and_le_left
 exact Int.emod_eq_of_lt o! (show _<(18446744073709551616:Int) by omega)
theorem aai {a b:Nat} (ha:a<256) (hb:b<256):a||| b<256:=Nat.or_lt_two_pow (n:=8) ha hb
theorem aiP {a b:Nat} (ha:a<256) (hb:b<256):Wb .u64 ((a:Nat):Int) ((b:Nat):Int)=((a||| b:Nat):Int):=by
 show IntKind.u64.wrap ((BitVec.ofInt 64 ((a:Nat):Int)||| BitVec.ofInt 64 ((b:Nat):Int)).toNat:Nat)=_
 rw[BitVec.toNat_or,uu ha,uu hb]
 have:=aai ha hb
 exact Int.emod_eq_of_lt o! (show _<(18446744073709551616:Int) by omega)
theorem VD:∀(E:List (Int×List Gate)) (a:Nat),a<256→(∀y∈E,∃s:Nat,s<256∧y.1=((s:Nat):Int))→∃a':Nat,a'<256∧E.foldl (fun a y=>ae .u64 a y.1) ((a:Nat):Int)=((a':Nat):Int)∧∀i,a'.testBit i=true→a.testBit i=true∧∀y∈E,∀s:Nat,y.1=((s:Nat):Int)→s.testBit i=true
 | [],a,ha,_=>⟨a,ha,rfl,fun i h=>⟨h,fun y hy=>by cases hy⟩⟩
 | y::E,a,ha,hE=>by
   obtain ⟨s,hs,e⟩:=hE y (List.mem_cons_self ..)
   rw[List.foldl_cons,e,agk ha hs]
   obtain ⟨a',h1,h2,h3⟩:=VD E (a&&& s) (Nat.lt_of_le_of_lt Nat.and_le_left ha) fun z hz=>hE z (List.mem_cons_of_mem _ hz)
   refine ⟨a',h1,h2,fun i hi=>?_⟩
   obtain ⟨k1,k2⟩:=h3 i hi
   rw[Nat.testBit_and,Bool.and_eq_true] at k1
   refine ⟨k1.1,fun z hz t ht=>?_⟩
   rcases List.mem_cons.1 hz with rfl | hz
   · have:t=s:=by rw[e] at ht;omega
     rw[this];exact k1.2
   · exact k2 z hz t ht
theorem VE:∀(E:List (Int×List Gate)) (a:Nat),a<256→(∀y∈E,∃s:Nat,s<256∧y.1=((s:Nat):Int))→∃a':Nat,a'<256∧E.foldl (fun a y=>Wb .u64 a y.1) ((a:Nat):Int)=((a':Nat):Int)∧∀i,(a.testBit i=true∨∃y∈E,∃s:Nat,y.1=((s:Nat):Int)∧s.testBit i=true)→a'.testBit i=true
 | [],a,ha,_=>⟨a,ha,rfl,fun i h=>h.elim id fun ⟨y,hy,_⟩=>by cases hy⟩
 | y::E,a,ha,hE=>by
   obtain ⟨s,hs,e⟩:=hE y (List.mem_cons_self ..)
   rw[List.foldl_cons,e,aiP ha hs]
   obtain ⟨a',h1,h2,h3⟩:=VE E (a||| s) (aai ha hs) fun z hz=>hE z (List.mem_cons_of_mem _ hz)
   refine ⟨a',h1,h2,fun i hi=>h3 i ?_⟩
   rw[Nat.testBit_or,Bool.or_eq_true]
   rcases hi with hi | ⟨z,hz,t,ht,hi⟩
   · exact .inl (.inl hi)
   · rcases List.mem_cons.1 hz with rfl | hz
     · have:t=s:=by rw[e] at ht;omega
       rw[this] at hi;exact .inl (.inr hi)
     · exact .inr ⟨z,hz,t,ht,hi⟩
theorem YO {a s:Nat} (h:∀i,a.testBit i=true→s.testBit i=true):sz a≤sz s:=by
 rw[sz,sz,←List.countP_eq_length_filter,←List.countP_eq_length_filter]
 exact List.countP_mono_left fun i _ hi=>h i hi
theorem YP {q:ay} {l:List az} (f:RF q l) (m:Int) (dR:(!List.isEmpty (cn q l [] m))=true):((iv (v_ (cn q l [] m))).length:Int)≤m∧∀e∈iv (v_ (cn q l [] m)),e∈iv (tN (cn q l [] m)):=by
 have hp:=xB f.bad.2.2
 have hE:∀y∈cn q l [] m,∃s:Nat,s<256∧(sz s:Int)=m∧y.1=((s:Nat):Int):=fun y hy=>by
  obtain ⟨s,h1,h2,h3,_⟩:=(Bn f).1 hy
  exact ⟨s,by omega,h2,h3⟩
 generalize cn q l [] m=E at dR hE
 obtain ⟨a,a1,a2,a3⟩:=VD E 255 (by decide) fun y hy=>by obtain ⟨s,h1,_,h3⟩:=hE y hy;exact ⟨s,h1,h3⟩
 obtain ⟨c,c1,c2,c3⟩:=VE E 0 (by decide) fun y hy=>by obtain ⟨s,h1,_,h3⟩:=hE y hy;exact ⟨s,h1,h3⟩
 have ea:v_ E=((a:Nat):Int):=a2
 have ec:tN E=((c:Nat):Int):=c2
 rw[ea,ec,OC a1,OC c1]
 cases E with
 | nil=>cases dR
 | cons y E=>
   obtain ⟨s,h1,h2,h3⟩:=hE y (List.mem_cons_self ..)
   have sub:∀i,a.testBit i=true→s.testBit i=true:=fun i hi=>(a3 i hi).2 y (List.mem_cons_self ..) s h3
   refine ⟨?_,fun e he=>?_⟩
   · rw[List.length_map]
     have:=YO sub
     show (sz a:Int)≤m
     omega
   · obtain ⟨j,hj,rfl⟩:=List.mem_map.1 he
     obtain ⟨j1,j2⟩:=List.mem_filter.1 hj
     exact List.mem_map.2 ⟨j,List.mem_filter.2 ⟨j1,c3 j (.inr ⟨y,List.mem_cons_self ..,s,h3,sub j j2⟩)⟩,rfl⟩
theorem Kt {q:ay} {l:List az} (f:RF q l):∀(k i:Nat) (r:List Int×List Int),AK q l k i=some r→(r.1.length:Int)≤(i:Int)+(k:Int) - 1∧∀e∈r.1,e∈r.2
 | 0,i,r,h=>by cases h
 | k+1,i,r,h=>by
   rw[AK] at h
   cases dR:(!List.isEmpty (cn q l [] ((i:Nat):Int))) with
   | true=>
     rw[dR,ao] at h
     have:=YP f _ dR
     cases h
     exact ⟨by have:=this.1;simp only;omega,this.2⟩
   | false=>
     rw[dR,ai] at h
     have:=Kt f k (i+1) r h
     exact ⟨by omega,this.2⟩
theorem VF {q:ay} {l:List az} (h:cz q l=0):(aR q l).2.2=0∧((aR q l).1.length:Int)≤q.bad∧∀e∈(aR q l).1,e∈(aR q l).2.1:=by
 have f:=EW h
 have b:=f.bad
 rw[aR,jE,h]
 simp only[decide_true,Bool.not_true,ai]
 cases e:AK q l (q.bad+1).toNat 0 with
 | none=>exact ⟨rfl,by show ((0:Nat):Int)≤_;omega,fun e h=>by cases h⟩
 | some r=>
   have:=Kt f _ _ r e
   exact ⟨rfl,by show (r.1.length:Int)≤_;omega,this.2⟩
end
end Go.Proofs.aH
