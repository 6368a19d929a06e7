import Derived.Test.YtijehnelcbdlgaaGreatW1
import Derived.Test.YtijehnelcbdlgaaGreatW0
namespace Go.Proofs.aM
open Go.Proofs Ab
noncomputable section
set_option maxRecDepth 100000
set_option maxHeartbeats 4000000
set_option linter.unusedVariables false
set_option linter.unusedSimpArgs false
theorem Gu {pieces:Int} {t:List Int} {s:Span} (h1:(bN (bN t s.a8).2 (s.aQ+1)).1≤161):∀(kq:Nat) (v:Int) (a:List Int),0≤v→a.length=324→(f_ pieces t s kq v a).length=324∧(f_ pieces t s kq v a).g 322=a.g 322∧(f_ pieces t s kq v a).g 323=a.g 323∧(f_ pieces t s kq v a).g 0=a.g 0
 | 0,v,a,hv,ha=>by rw[f_];exact ⟨ha,rfl,rfl,rfl⟩
 | kq+1,v,a,hv,ha=>by
  rw[f_]
  by_cases f:v<(bN (bN t s.a8).2 (s.aQ+1)).1
  · rw[eV f,ao]
    obtain ⟨b1,b2,b3,b4⟩:=Gu h1 kq (v+1) (a.set (v.toNat*2+1) (IntKind.i64.wrap ((a.g (v.toNat*2+1))+pieces))) o! (by rw[List.length_set];exact ha)
    exact ⟨b1,by rw[b2,bk o!],by rw[b3,bk o!],by rw[b4,bk o!]⟩
  · rw[fL f,ai];exact ⟨ha,rfl,rfl,rfl⟩
theorem C3 (t:List Int) (s:Span) (p:Int) (ln:t.length=324) (p0:1≤t.g 322) (p1:t.g 322≤159) (p2:t.g 0=0) (p3:0≤s.a8) (p4:s.aQ≤100000000):1≤(fC t s p).g 322∧(fC t s p).g 322≤t.g 322+2∧(fC t s p).g 0=0∧(fC t s p).g 323=t.g 323∧(fC t s p).length=324:=by
 rw[fC]
 by_cases f:s.aQ<s.a8
 · rw[eV f,ao];exact ⟨p0,by omega,p2,rfl,ln⟩
 · rw[fL f,ai]
   obtain ⟨a1,a2,a3,a4,a5,a6,a7⟩:=CX t s.a8 ln p0 o! p2 p3
   obtain ⟨c1,c2,c3,c4,c5,c6,c7⟩:=CX (bN t s.a8).2 (s.aQ+1) a7 o! o! a5 o!
   obtain ⟨b1,b2,b3,b4⟩:=Gu (pieces:=p) (t:=t) (s:=s) o! (Int.toNat ((bN (bN t s.a8).2 (s.aQ+1)).1 -((bN t s.a8).1))) (bN t s.a8).1 (bN (bN t s.a8).2 (s.aQ+1)).2 a1 c7
   exact ⟨by omega,by omega,by omega,by omega,b1⟩
theorem AE (aI:Int):(dc aI).g 322=1∧(dc aI).g 0=0∧(dc aI).length=324∧(dc aI).g 323=aI:=⟨rfl,rfl,rfl,rfl⟩
theorem dy {p:Prop} (h:p:=by first | omega | (simp only[List.length_set,List.length_replicate,dQ]<;>omega) | exact hJ _ | exact ku a!):p:=h
theorem nJ {p:Prop} (h:p:=by first | omega | exact ro_.2.1 | (dsimp only;omega)):p:=h
theorem uy {p:Prop} (h:p:=by first | assumption | exact iZ bM o!):p:=h
def ry:Code:=(Tryz.f44.body).getD .skip
theorem On:Tryz.f44.body=some ry:=by kernel_rfl
def I':Code:=(bl ry).getD 0 .skip
def Ja:Code:=(bl ry).getD 1 .skip
def dN (j:bP) (i0:Nat):Nat→Int→List Int→List Int
 | 0,iS,bC=>bC
 | nK+1,iS,bC=>(bif (decide (iS<(((j.af.g i0).off.length:Nat):Int))) then dN j i0 nK (iS+1) (fC bC ((j.af.g i0).off.g iS.toNat) (j.af.g i0).aI) else bC)
theorem xp {d:Nat} {h:az} (j:bP) (i0:Nat) (YY:List AV) (abX:List AV) (b6:Nat) (dv:Nat) (ie:Nat) (iL:Nat) (lF:Nat) (arE:Nat) (eP:aO h j.ar j.af) (dW:aO h (j.af.g i0).cJ (j.af.g i0).off) (mr:((j.af.g i0).name).length<2^60) (mQ:aK.ok h j) (C4:aK.ok h (j.af.g i0)) (yH:i0<j.af.length) (o9:∀r,r<j.af.length→(j.af.g r).off.length≤16∧∀q,q<(j.af.g r).off.length→0≤((j.af.g r).off.g q).a8∧((j.af.g r).off.g q).aQ≤100000) (rz:j.af.length≤16) (rA:j.ab.length≤100000) (vg:YY.length=0) (bM:Tidy h) (Jb:h.get ie=none) (Uc:h.get iL=none) (Bt:iL≠ie):∀(k_:Nat) (iS:Int) (bC:List Int) (_:(((j.af.g i0).off.length:Nat):Int) - iS≤(k_:Int)) (_:(((0:Int)≤1)∧(0≤iS∧1≤(bC).g 322∧(bC).g 322≤1+2*iS∧(bC).g 0=0))) (x:Nat→AV) (hh:az) (aF:Tidy hh) (aA:Has h hh) (fN:h.nx≤hh.nx) (qH:bC.length=324) (cz:hh.get ie=some (aN.cells [(AV.str (j.af.g i0).name),(Zi (j.af.g i0).aI),(j.af.g i0).cJ] 45 false)) (d_:hh.get iL=some (aN.cells (YY++zs .i64 bC++abX) 156 false)),bY (σ:=List Int) (ρ:=Unit) (cA (d+2)) Ja ⟨((x 0)::(x 1)::(Pt b6)::(Pt dv)::(x 4)::(Pt ie)::(Pt iL)::rx x 7 13 (j.ar::(Zn j.af.length)::(Zn i0)::rx x 23 7 (((j.af.g i0).cJ)::(Zn (j.af.g i0).off.length)::(Zi iS)::rx x 33 16 []))),hh,[],.no⟩ (.exit 2) hh (fun r z y=>((y 0)::(y 1)::(Pt b6)::(Pt dv)::(y 4)::(Pt ie)::(Pt iL)::rx y 7 13 (j.ar::(Zn j.af.length)::(Zn i0)::rx y 23 7 (((j.af.g i0).cJ)::(Zn (j.af.g i0).off.length)::rx y 32 17 [])))) (fun r z y=>((y 0)::(y 1)::(Pt b6)::(Pt dv)::(y 4)::(Pt ie)::(Pt iL)::rx y 7 13 (j.ar::(Zn j.af.length)::(Zn i0)::rx y 23 7 (((j.af.g i0).cJ)::(Zn (j.af.g i0).off.length)::rx y 32 17 [])))) (fun r z hk=>Has h hk∧hk.get ie=some (aN.cells [(AV.str (j.af.g i0).name),(Zi (j.af.g i0).aI),(j.af.g i0).cJ] 45 false)∧hk.get iL=some (aN.cells (YY++zs .i64 r++abX) 156 false)∧r.length=324∧((0:Int)≤1)) (fun r z hk=>Has h hk) (Sum.inl (dN j i0 k_ iS bC))
 | 0,iS,bC,eZ,du,x,hh,aF,aA,fN,qH,cz,d_=>by
  have q1:(decide (iS<(((j.af.g i0).off.length:Nat):Int)))=false:=d!
  exact bY.out bC aL rfl (pk (d+2) _ _ hh _ hh (VV (bE 3 false false .i64 iS (((j.af.g i0).off.length:Nat):Int))<|BB q1<|ZZ) k!) aF o! ⟨aA,cz,d_,dy,(show ((0:Int)≤1) from o!)⟩ k!
 | nK+1,iS,bC,eZ,du,x,hh,aF,aA,fN,qH,cz,d_=>by
  have pV:=eP.small
  have rC:=dW.small
  have E2:=aF _ _ cz
  have Oo:=aF _ _ d_
  have rl_:=(o9 i0 o!).1
  have ro_:=(o9 i0 o!).2 iS.toNat
  have ei:=fun {al ps} (k:Pk al _ ps)=>(VV (bE 3 false false .i64 iS (((j.af.g i0).off.length:Nat):Int))<|k:Pk _ [] ps)
  rcases bu (decide (iS<(((j.af.g i0).off.length:Nat):Int))) with f0 | f0
  · have ja:=jv f0
    obtain ⟨p3,q4,mu⟩:=dW.elem (i:=iS.toNat) o!
    have gh:=xn mu o!
    have kN:=(dW.has aA).load o! mu
    obtain ⟨h6,kV,ig,uz,jc,bB⟩:=gQ aF (aN.cells [(Zi 0),(Zi 0)] 52 false)
    have gL:=aA.trans bB
    obtain ⟨h7,jw,dM,r5,dS,aX⟩:=j_ (t:=52) (n:=2) (i:=hh.nx) (L:=[(Zi ((j.af.g i0).off.g iS.toNat).a8),(Zi ((j.af.g i0).off.g iS.toNat).aQ)]) ig jc k! rfl rfl rfl
    have cV:=Has.bK gL aX bM o!
    obtain ⟨hw8,Rp,abY,Jc,Jd,pW⟩:=dI dM (aX _ _ o! (bB _ _ d_))
    have WJ:=bL cV uy pW
    obtain ⟨h9,Ud,uw,T9,yG,Oq,Ua⟩:=WG (d:=d) (h:=hw8) (tO:=0) bC ((j.af.g i0).off.g iS.toNat) (j.af.g i0).aI trivial (aX _ _ o! (bB _ _ d_)) o! dy Jc nJ nJ nJ nJ nJ Rp dM Jd o!
    have auc:=C3 bC ((j.af.g i0).off.g iS.toNat) (j.af.g i0).aI (by first | omega | exact wq _) (by first | omega | exact (ut_ o! o!).1) (by first | omega | exact (ut_ o! o!).2.1) (by first | omega | exact (ut_ o! o!).2.2) (by first | omega | (dsimp only;omega)) (by first | omega | (dsimp only;omega))
    have nz:=(WJ.trans yG)
    have w10:IntKind.i64.wrap (iS+1)=iS+1:=wrap_i64 o! o!
    exact bY.round (congrArg Sum.inl (by simp only[dN,f0,ao,ai])) (pk (d+2) _ _ hh _ h9 (ei<|BV f0 gh<|MM kN<|NN kV (fun i=>(Pt i))<|SS jw<|MM (aP 52 0 (AV.agg [(Zi ((j.af.g i0).off.g iS.toNat).a8),(Zi ((j.af.g i0).off.g iS.toNat).aQ)]) dS k!)<|CC<|MM (aP 3 1 (Zi (j.af.g i0).aI) (aX _ _ o! (bB _ _ cz)) k!)<|EE Ud<|VV (qE 3 false true w10)<|CC<|ZZ) k!) o! _ k! (fun x=>xp j i0 YY abX b6 dv ie iL lF arE eP dW mr mQ C4 yH o9 rz rA vg bM Jb Uc Bt nK (iS+1) (fC bC ((j.af.g i0).off.g iS.toNat) (j.af.g i0).aI) o! (show (((0:Int)≤1)∧(0≤(iS+1)∧1≤((fC bC ((j.af.g i0).off.g iS.toNat) (j.af.g i0).aI)).g 322∧((fC bC ((j.af.g i0).off.g iS.toNat) (j.af.g i0).aI)).g 322≤1+2*(iS+1)∧((fC bC ((j.af.g i0).off.g iS.toNat) (j.af.g i0).aI)).g 0=0)) from o!) x h9 uw nz o! dy (yG _ _ ((pW _ o!).trans (aX _ _ o! (bB _ _ cz)))) Oq)
  · exact bY.out bC aL (congrArg Sum.inl (by simp only[dN,f0,ao,ai])) (pk (d+2) _ _ hh _ hh (ei<|BB f0<|ZZ) k!) aF o! ⟨aA,cz,d_,dy,(show ((0:Int)≤1) from o!)⟩ k!
def dz (j:bP):Nat→Nat→List Tl→List Bool→List Int→List Tl×List Bool×List Int
 | 0,_,Hb,ba,cG=>(Hb,ba,cG)
 | dx+1,i0,Hb,ba,cG=>dz j dx (i0+1) (Hb++[⟨(dN j i0 ((((j.af.g i0).off.length:Nat):Int) - 0).toNat 0 (dc (j.af.g i0).aI))⟩]) ba cG
theorem xq {d:Nat} {h:az} {gg0:az} (j:bP) (bj:Nat) (cg:Nat) (gF:Nat) (gM:Nat) (bp:aO h j.ar j.af) (cC:aO h j.au j.ab) (fI:aK.ok h j) (fU:∀r,r<j.af.length→(j.af.g r).off.length≤16∧∀q,q<(j.af.g r).off.length→0≤((j.af.g r).off.g q).a8∧((j.af.g r).off.g q).aQ≤100000) (iB:j.af.length≤16) (mO:j.ab.length≤100000) (bM:Tidy h) (tC:h.nx≤bj) (C5:h.nx≤cg) (Lp:h.nx≤gF) (Lq:h.nx≤gM) (o_:cg≠bj) (uA:gF≠bj) (uC:gF≠cg) (uD:gM≠bj) (uE:gM≠cg) (uF:gM≠gF) (NG0:h.nx≤gg0.nx) (AF:bj<gg0.nx) (Gv:cg<gg0.nx) (MJ:gF<gg0.nx) (MK:gM<gg0.nx):∀(k_ i_:Nat) (Hb:List Tl) (ba:List Bool) (cG:List Int) (z0:AV) (_:i_+k_=j.af.length) (x:Nat→AV) (hh:az) (aF:Tidy hh) (aA:Has h hh) (fN:h.nx≤hh.nx) (kc:ba.length=j.ab.length) (yI:cG.length=j.ab.length) (br:hh.get bj=some (aN.cells [AV.aw,AV.aw,AV.aw,AV.aw,AV.aw] 103 false)) (dA:hh.get cg=some (aN.cells [j.au,j.ar,(AV.slice gF 0 j.ab.length j.ab.length false),(AV.slice gM 0 j.ab.length j.ab.length false),z0] 103 false)) (mg:hh.get gF=some (aN.cells (bs ba) 4 false)) (lk:hh.get gM=some (aN.cells (zs .i64 cG) 3 false)) (Je:pL gg0 hh z0 Hb) (lz0:Hb.length≤i_) (yJ:gg0.nx≤hh.nx),bY (σ:=List Tl×List Bool×List Int) (ρ:=Unit) (cA (d+2)) I' ⟨((x 0)::(x 1)::(Pt bj)::(Pt cg)::rx x 4 16 (j.ar::(Zn j.af.length)::(Zn i_)::rx x 23 26 [])),hh,[],.no⟩ (.exit 0) hh (fun r z y=>((y 0)::(y 1)::(Pt bj)::(Pt cg)::rx y 4 16 (j.ar::(Zn j.af.length)::rx y 22 27 []))) (fun r z y=>((y 0)::(y 1)::(Pt bj)::(Pt cg)::rx y 4 16 (j.ar::(Zn j.af.length)::rx y 22 27 []))) (fun r z hk=>Has h hk∧hk.get bj=some (aN.cells [AV.aw,AV.aw,AV.aw,AV.aw,AV.aw] 103 false)∧hk.get cg=some (aN.cells [j.au,j.ar,(AV.slice gF 0 j.ab.length j.ab.length false),(AV.slice gM 0 j.ab.length j.ab.length false),z] 103 false)∧hk.get gF=some (aN.cells (bs r.2.1) 4 false)∧hk.get gM=some (aN.cells (zs .i64 r.2.2) 3 false)∧r.2.1.length=j.ab.length∧r.2.2.length=j.ab.length∧pL gg0 hk z r.1∧r.1.length≤j.af.length) (fun r z hk=>Has h hk) (Sum.inl (dz j k_ i_ Hb ba cG))
 | 0,i0,Hb,ba,cG,z0,eZ,x,hh,aF,aA,fN,kc,yI,br,dA,mg,lk,Je,lz0,yJ=>by
  have q1:(decide (((i0:Nat):Int)<((j.af.length:Nat):Int)))=false:=d!
  exact bY.out (Hb,ba,cG) z0 rfl (pk (d+2) _ _ hh _ hh (VV (bE 3 false false .i64 ((i0:Nat):Int) ((j.af.length:Nat):Int))<|BB q1<|ZZ) k!) aF o! ⟨aA,br,dA,mg,lk,dy,dy,Je,(by first | omega | (simp<;>omega))⟩ k!
 | dx+1,i0,Hb,ba,cG,z0,eZ,x,hh,aF,aA,fN,kc,yI,br,dA,mg,lk,Je,lz0,yJ=>by
  have gN:=bp.small
  have mw:=cC.small
  have tD:=aF _ _ br
  have Lr:=aF _ _ dA
  have agi:=aF _ _ mg
  have agj:=aF _ _ lk
  have ro_:=fU i0
  have q1:(decide (((i0:Nat):Int)<((j.af.length:Nat):Int)))=true:=d!
  obtain ⟨p3,q4,gh⟩:=bp.elem (i:=i0) o!
  have kN:=(bp.has aA).load o! gh
  obtain ⟨h6,kV,ig,uz,jc,bB⟩:=gQ aF (aN.cells [(AV.str []),(Zi 0),AV.aw] 45 false)
  have gL:=aA.trans bB
  have mR:=bB
  have C6:=((bp.ok (i:=i0) o!).2).scalar
  obtain ⟨h7,jw,dM,r5,dS,aX⟩:=j_ (t:=45) (n:=3) (i:=hh.nx) (L:=[(AV.str (j.af.g i0).name),(Zi (j.af.g i0).aI),(j.af.g i0).cJ]) ig jc k! rfl rfl (kJ rfl (kJ rfl (kJ C6 rfl)))
  have cV:=Has.bK gL aX bM o!
  have gA:=Has.bK mR aX aF o!
  have aud:=AE (j.af.g i0).aI
  have k9:=Oh (d:=d+1) (j.af.g i0).aI dM
  obtain ⟨vQ,Rq,ji,abZ,Gw,pc⟩:=gQ dM (aN.cells (zs .i64 (List.replicate 324 0)) 156 false)
  have gZ:=cV.trans pc
  have C7:=gA.trans pc
  obtain ⟨YY,abX,lY,C8,iT,Gy,arF⟩:=Ub (t:=156) (b:=h7.nx) (L:=(dc (j.af.g i0).aI)) ji k! Gw (by first | rfl | (rw[fS];first | omega | (simp only[List.length_set,List.length_replicate,dQ]<;>omega) | exact hJ _ | exact ku a!)) dy
  have iU:=iT.1
  have my:=iT.has gZ bM o!
  have vh:=iT.has C7 aF o!
  have Ue:=((bp.ok (i:=i0) o!).2).len
  obtain ⟨anS,ajW,ap4,agk,agl,tS⟩:=dI iU (iT.2.2 _ _ o! (pc _ _ dS))
  have YZ:Has h anS:=bL my uy tS
  have Uf:Has hh anS:=bL vh (by first | assumption | exact iZ aF o!) tS
  obtain ⟨Y0,Jf,WK,HQ,C9,je⟩:=dI ajW ((tS _ o!).trans iT.2.1)
  have amB:Y0.get hh.nx=none:=(je _ o!).trans agk
  have vi:Has h Y0:=bL YZ uy je
  have Ug:Has hh Y0:=bL Uf (by first | assumption | exact iZ aF o!) je
  obtain ⟨Uh,arG,HR,Ot,qI,anT,Bu,ap5,agm,ap6,anU⟩:=bY.n rfl (xp (d:=d) (h:=Y0) j i0 YY abX bj cg hh.nx h7.nx gF gM (bp.has vi) ((bp.ok (i:=i0) o!).2.has vi) (bp.ok (i:=i0) o!).1 (aK.mono vi fI) (aK.mono vi (bp.ok (i:=i0) o!)) o! a! o! o! o! Jf a! a! o! ((((j.af.g i0).off.length:Nat):Int) - 0).toNat 0 (dc (j.af.g i0).aI) o! (show (((0:Int)≤1)∧(0≤0∧1≤((dc (j.af.g i0).aI)).g 322∧((dc (j.af.g i0).aI)).g 322≤1+2*0∧((dc (j.af.g i0).aI)).g 0=0)) from o!) (dr ((x 0)::(x 1)::(Pt bj)::(Pt cg)::(x 4)::(Pt hh.nx)::(Pt h7.nx)::rx x 7 13 (j.ar::(Zn j.af.length)::(Zn i0)::(AV.bool (decide (((i0:Nat):Int)<((j.af.length:Nat):Int))))::(AV.ptr p3 q4)::(AV.agg [(AV.str (j.af.g i0).name),(Zi (j.af.g i0).aI),(j.af.g i0).cJ])::(AV.ptr hh.nx 1)::(Zi (j.af.g i0).aI)::(AV.agg (zs .i64 (dc (j.af.g i0).aI)))::(AV.ptr hh.nx 2)::((j.af.g i0).cJ)::(Zn (j.af.g i0).off.length)::(Zi 0)::rx x 33 16 []))) lY iU (C9.trans agl) o! dy (iT.2.2 _ _ o! (pc _ _ dS)) iT.2.1)
  have qJ:=(vi.trans Bu)
  have ab0:=(Ug.trans Bu)
  have E3:cX env HR 156 (Pt h7.nx)=some (AV.agg (zs .i64 (dN j i0 ((((j.af.g i0).off.length:Nat):Int) - 0).toNat 0 (dc (j.af.g i0).aI)))):=YX k! k! agm o! dy
  obtain ⟨Y1,ab1,AG,anV,ab2,xr⟩:=gQ qI (aN.cells (zs .i64 (dN j i0 ((((j.af.g i0).off.length:Nat):Int) - 0).toNat 0 (dc (j.af.g i0).aI))) 156 false)
  have Jg:=qJ.trans xr
  have C_:=ab0.trans xr
  obtain ⟨z22,h21,Ui,ab3,aio,Jh,anW⟩:=pL.I0 (g:=gg0) (tys:= #[101,101]) (t:=(dN j i0 ((((j.af.g i0).off.length:Nat):Int) - 0).toNat 0 (dc (j.af.g i0).aI))) (L:=Hb) (z:=z0) (op:=false) AG o! (pL.has Je C_) ab2 dy o! rfl rfl k! k! (bytes:=2592) k! (z0:=AV.agg (zs .i64 (List.replicate 324 0))) k! rfl (by decide)
  have Ji:=Has.I1 Jg bM o! Jh
  obtain ⟨h24,ab4,Rr,anX,anY,Jj⟩:=T4 (t:=101) (i:=cg) (o:=4) (v:=z22) (N:=[j.au,j.ar,(AV.slice gF 0 j.ab.length j.ab.length false),(AV.slice gM 0 j.ab.length j.ab.length false),z22]) ab3 (Jh _ _ o! (xr _ _ (Bu _ _ ((je _ o!).trans ((tS _ o!).trans (iT.2.2 _ _ o! (pc _ _ (aX _ _ o! (bB _ _ dA))))))))) k! (pL.scalar anW) k! k!
  have ab5:=Has.bK Ji Jj bM o!
  have u26:=eA 3 false true i0 1 o!
  exact bY.round (congrArg Sum.inl (by simp only[dz,ao,ai])) (pk (d+2) _ _ hh _ h24 (VV (bE 3 false false .i64 ((i0:Nat):Int) ((j.af.length:Nat):Int))<|BV q1 gh<|MM kN<|NN kV (fun i=>(Pt i))<|SS jw<|CC<|MM (aP 3 1 (Zi (j.af.g i0).aI) dS k!)<|EE k9<|NN Rq (fun i=>(Pt i))<|SS C8<|CC<|MM (aP 43 2 (j.af.g i0).cJ (iT.2.2 _ _ o! (pc _ _ dS)) k!)<|VV Ue<|CC<|LL Ot<|CC<|MM (aP 101 4 z0 (Bu _ _ ((je _ o!).trans ((tS _ o!).trans (iT.2.2 _ _ o! (pc _ _ (aX _ _ o! (bB _ _ dA))))))) k!)<|MM E3<|AA (.a (aN.cells (zs .i64 (dN j i0 ((((j.af.g i0).off.length:Nat):Int) - 0).toNat 0 (dc (j.af.g i0).aI))) 156 false) (AV.slice HR.nx 0 1 1 false) Y1)<|HH ab1<|HH (show ∃mk:Nat→AV,bsl 156 (dN j i0 ((((j.af.g i0).off.length:Nat):Int) - 0).toNat 0 (dc (j.af.g i0).aI))=some (aN.cells (zs .i64 (dN j i0 ((((j.af.g i0).off.length:Nat):Int) - 0).toNat 0 (dc (j.af.g i0).aI))) 156 false,mk)∧mk HR.nx=(AV.slice HR.nx 0 1 1 false) from ⟨_,ajU dy,rfl⟩)<|PP (show cb env Y1 #[101,101] z0 (AV.slice HR.nx 0 1 1 false)=some (z22,h21) from Ui)<|CC<|SS ab4<|VV u26<|CC<|ZZ) k!) o! _ k! (fun x=>xq j bj cg gF gM bp cC fI fU iB mO bM tC C5 Lp Lq o_ uA uC uD uE uF NG0 AF Gv MJ MK dx (i0+1) (Hb++[⟨(dN j i0 ((((j.af.g i0).off.length:Nat):Int) - 0).toNat 0 (dc (j.af.g i0).aI))⟩]) ba cG z22 o! x h24 Rr ab5 o! dy dy (Jj _ _ o! (Jh _ _ o! (xr _ _ (Bu _ _ ((je _ o!).trans ((tS _ o!).trans (iT.2.2 _ _ o! (pc _ _ (aX _ _ o! (bB _ _ br)))))))))) anY (Jj _ _ o! (Jh _ _ o! (xr _ _ (Bu _ _ ((je _ o!).trans ((tS _ o!).trans (iT.2.2 _ _ o! (pc _ _ (aX _ _ o! (bB _ _ mg)))))))))) (Jj _ _ o! (Jh _ _ o! (xr _ _ (Bu _ _ ((je _ o!).trans ((tS _ o!).trans (iT.2.2 _ _ o! (pc _ _ (aX _ _ o! (bB _ _ lk)))))))))) (pL.kept anW Jj o!) (by first | omega | (simp<;>omega)) o!)
def ay (j:bP):List Tl×List Bool×List Int:=((dz j j.af.length 0 ([]) (List.replicate j.ab.length false) (List.replicate j.ab.length 0)).1,(dz j j.af.length 0 ([]) (List.replicate j.ab.length false) (List.replicate j.ab.length 0)).2.1,(dz j j.af.length 0 ([]) (List.replicate j.ab.length false) (List.replicate j.ab.length 0)).2.2)
theorem wu {d:Nat} {h:az} (j:bP) (b7:aK.ok h j) (mf:∀r,r<j.af.length→(j.af.g r).off.length≤16∧∀q,q<(j.af.g r).off.length→0≤((j.af.g r).off.g q).a8∧((j.af.g r).off.g q).aQ≤100000) (oQ:j.af.length≤16) (xU:j.ab.length≤100000) (bM:Tidy h):∃p s z g hk,cA (d+3) (.fn 44) [(AV.agg [j.au,j.ar])] h= .ret (.agg [j.au,j.ar,.slice p 0 j.ab.length j.ab.length false,.slice s 0 j.ab.length j.ab.length false,z]) hk∧Grow h hk∧hk.get p=some (aN.cells (bs (ay j).2.1) 4 false)∧hk.get s=some (aN.cells (zs .i64 (ay j).2.2) 3 false)∧pL g hk z (ay j).1∧(ay j).2.1.length=j.ab.length∧(ay j).2.2.length=j.ab.length∧h.nx≤p∧h.nx≤s∧p≠s∧p<g.nx∧s<g.nx∧h.nx≤g.nx:=by
 obtain ⟨h1,dw,de,jW,bx,ca⟩:=gQ bM (aN.cells [j.au,j.ar] 25 false)
 have bD:=ca
 obtain ⟨h2,r7,mN,I4,ka,iM⟩:=gQ de (aN.cells [AV.aw,AV.aw,AV.aw,AV.aw,AV.aw] 103 false)
 have gm:=bD.trans iM
 have ML:=b7.1.len
 have mk4:CH env (some (.slice 4)) (some (Zn j.ab.length)) (some (Zn j.ab.length))=some (aN.cells (cB [(AV.bool false)] j.ab.length) 4 false,fun i=>AV.slice i 0 j.ab.length j.ab.length false):=sw (bytes:=1) (z:=(AV.bool false)) k! k! k! rfl (by decide) o!
 obtain ⟨h5,agn,mP,abN,Hc,Bv⟩:=gQ mN (aN.cells (cB [(AV.bool false)] j.ab.length) 4 false)
 have fO:=gm.trans Bv
 have aip:h5.get h2.nx=some (aN.cells (bs (List.replicate j.ab.length false)) 4 false):=by have q:=Hc;rw[EY] at q;exact q
 have ln6:=b7.1.len
 have mk7:CH env (some (.slice 3)) (some (Zn j.ab.length)) (some (Zn j.ab.length))=some (aN.cells (cB [(Zi 0)] j.ab.length) 3 false,fun i=>AV.slice i 0 j.ab.length j.ab.length false):=sw (bytes:=8) (z:=(Zi 0)) k! k! k! rfl (by decide) o!
 obtain ⟨h8,ajX,xV,ajY,mz,E4⟩:=gQ mP (aN.cells (cB [(Zi 0)] j.ab.length) 3 false)
 have sW:=fO.trans E4
 have aiq:h8.get h5.nx=some (aN.cells (zs .i64 (List.replicate j.ab.length 0)) 3 false):=by have q:=mz;rw[Od] at q;exact q
 obtain ⟨h9,ajZ,uw,anZ,ago,Da⟩:=gQ xV (aN.cells [AV.aw,AV.aw,AV.aw,AV.aw,AV.aw] 103 false)
 have nz:=sW.trans Da
 have an0:=b7.1.scalar
 have aj0:=b7.2.scalar
 obtain ⟨vQ,an1,ji,abZ,Gw,Jk⟩:=j_ (t:=103) (n:=5) (i:=h8.nx) (L:=[j.au,j.ar,(AV.slice h2.nx 0 j.ab.length j.ab.length false),(AV.slice h5.nx 0 j.ab.length j.ab.length false),AV.aw]) uw ago k! rfl rfl (kJ an0 (kJ aj0 rfl))
 have gZ:=Has.bK nz Jk bM o!
 have Y2:=dK 18 (kK b7.1.same (kK b7.2.same CK))
 have WL:=b7.1.same 19
 have aj1:=b7.2.len
 obtain ⟨Uh,aj2,Qf,wv,xu,Rs,Uj,WM,Ou,WN,wx,agp,agq,jM,agr⟩:=bY.n rfl (xq (d:=d) (h:=h) (gg0:=vQ) j h1.nx h8.nx h2.nx h5.nx b7.2 b7.1 b7 a! o! o! bM o! o! o! o! o! o! o! o! o! o! o! o! o! o! o! j.af.length 0 ([]) (List.replicate j.ab.length false) (List.replicate j.ab.length 0) AV.aw o! (dr ((AV.agg [j.au,j.ar])::(Pt h.nx)::(Pt h1.nx)::(Pt h8.nx)::aL::aL::aL::aL::aL::(AV.agg [j.au,j.ar])::(Pt h.nx)::j.au::(Zn j.ab.length)::(AV.slice h2.nx 0 j.ab.length j.ab.length false)::(Pt h.nx)::j.au::(Zn j.ab.length)::(AV.slice h5.nx 0 j.ab.length j.ab.length false)::(AV.agg [j.au,j.ar,(AV.slice h2.nx 0 j.ab.length j.ab.length false),(AV.slice h5.nx 0 j.ab.length j.ab.length false),AV.aw])::(AV.ptr h.nx 1)::j.ar::(Zn j.af.length)::(Zi 0)::iW 26)) vQ ji gZ o! dy dy (Jk _ _ o! (Da _ _ (E4 _ _ (Bv _ _ ka)))) Gw (Jk _ _ o! (Da _ _ (E4 _ _ aip))) (Jk _ _ o! (Da _ _ aiq)) (.inl ⟨rfl,rfl⟩) (Nat.zero_le _) o!)
 have vj:=Uj
 have an2:AV.scalar Uh=true:=(pL.scalar jM)
 obtain ⟨CU,I8,ly,Rj,AH,pe⟩:=j_ (t:=103) (n:=5) (i:=h1.nx) (L:=[j.au,j.ar,(AV.slice h2.nx 0 j.ab.length j.ab.length false),(AV.slice h5.nx 0 j.ab.length j.ab.length false),Uh]) xu WM k! rfl rfl (kJ an0 (kJ aj0 (kJ rfl (kJ rfl (kJ an2 rfl)))))
 have kH:=Has.bK vj pe bM o!
 have e:ay j=((dz j j.af.length 0 ([]) (List.replicate j.ab.length false) (List.replicate j.ab.length 0)).1,(dz j j.af.length 0 ([]) (List.replicate j.ab.length false) (List.replicate j.ab.length 0)).2.1,(dz j j.af.length 0 ([]) (List.replicate j.ab.length false) (List.replicate j.ab.length 0)).2.2):=by simp only[ay,ao,ai]
 rw[e]
 exact ⟨h2.nx,h5.nx,Uh,vQ,pS rfl (Gs (a:=2) (t:=103) (i:=h1.nx) Tryz.func44 On rfl (.inr rfl) (pk (d+2) _ _ h _ CU (NN dw (fun i=>(Pt i))<|NN r7 (fun i=>(Pt i))<|MM (aP 25 0 (AV.agg [j.au,j.ar]) (iM _ _ bx) k!)<|CC<|MM (aP 22 0 j.au (iM _ _ bx) k!)<|VV ML<|KK mk4 agn<|CC<|MM (aP 22 0 j.au (Bv _ _ (iM _ _ bx)) k!)<|VV ln6<|KK mk7 ajX<|CC<|NN ajZ (fun i=>(Pt i))<|SS an1<|HH (aP 25 0 (AV.agg [j.au,j.ar]) (Da _ _ (E4 _ _ (Bv _ _ (iM _ _ bx)))) k!)<|HH Y2<|HH (aP 22 0 j.au (Da _ _ (E4 _ _ (Bv _ _ (iM _ _ bx)))) k!)<|HH WL<|HH (show ∃o,h9.get h2.nx=some o∧aN.same o (aN.cells (cB [(AV.bool false)] j.ab.length) 4 false)=true from ⟨_,(Da _ _ (E4 _ _ aip)),(by rw[←EY];exact ME _ rfl _ _ _)⟩)<|HH (aP 22 0 j.au (Da _ _ (E4 _ _ (Bv _ _ (iM _ _ bx)))) k!)<|HH WL<|HH (show ∃o,h9.get h5.nx=some o∧aN.same o (aN.cells (cB [(Zi 0)] j.ab.length) 3 false)=true from ⟨_,(Da _ _ aiq),(by rw[←Od];exact ME _ (aS 19 _ _) _ _ _)⟩)<|HH (show ∃o,h9.get h8.nx=some o∧aN.same o (aN.cells [AV.aw,AV.aw,AV.aw,AV.aw,AV.aw] 103 false)=true from ⟨_,ago,by simp [aN.same,dR,AV.same]⟩)<|HH (show nodup [h2.nx,h5.nx,h8.nx]=true from (by simp [nodup];omega))<|CC<|MM (aP 23 1 j.ar (Jk _ _ o! (Da _ _ (E4 _ _ (Bv _ _ (iM _ _ bx))))) k!)<|VV aj1<|CC<|LL wv<|MM (aP 103 0 (AV.agg [j.au,j.ar,(AV.slice h2.nx 0 j.ab.length j.ab.length false),(AV.slice h5.nx 0 j.ab.length j.ab.length false),Uh]) Ou k!)<|SS I8<|ZZ) k!) k! (IQ AH k!)) bM ⟨ly,kH,by omega⟩ (P:=fun hh=>hh.get h2.nx=some (aN.cells (bs (dz j j.af.length 0 ([]) (List.replicate j.ab.length false) (List.replicate j.ab.length 0)).2.1) 4 false)∧hh.get h5.nx=some (aN.cells (zs .i64 (dz j j.af.length 0 ([]) (List.replicate j.ab.length false) (List.replicate j.ab.length 0)).2.2) 3 false)∧pL vQ hh Uh ((dz j j.af.length 0 ([]) (List.replicate j.ab.length false) (List.replicate j.ab.length 0)).1)∧((dz j j.af.length 0 ([]) (List.replicate j.ab.length false) (List.replicate j.ab.length 0)).2.1).length=j.ab.length∧((dz j j.af.length 0 ([]) (List.replicate j.ab.length false) (List.replicate j.ab.length 0)).2.2).length=j.ab.length∧h.nx≤h2.nx∧h.nx≤h5.nx∧h2.nx≠h5.nx∧h2.nx<vQ.nx∧h5.nx<vQ.nx∧h.nx≤vQ.nx) ⟨(pe _ _ o! WN),(pe _ _ o! wx),(pL.kept jM pe o!),dy,dy,by omega,by omega,by omega,by omega,by omega,by omega⟩ fun v=>(zQ (Ro v) o!).elim⟩
theorem ga {p:Prop} (h:p:=by first | omega | (simp only[List.length_set,List.length_replicate,dQ]<;>omega) | exact hJ _ | exact ku a!):p:=h
theorem yK {p:Prop} (h:p:=by first | omega | exact (ut_ o! o!).1 | exact (ut_ o! o!).2.1 | exact (ut_ o! o!).2.2 | (dsimp only;omega)):p:=h
theorem Db {p:Prop} (h:p:=by first | omega | exact ⟨by omega,by omega,abW o8 qF du.2.1 o! du.2.2⟩):p:=h
theorem vk {p:Prop} (h:p:=by first | assumption | exact iZ bM o!):p:=h
def Jl:Code:=(Tryz.f84.body).getD .skip
theorem ags:Tryz.f84.body=some Jl:=by kernel_rfl
def Y3:Code:=(bl Jl).getD 0 .skip
def kW (j:bP) (tqk:Int) (iD:Int):Nat→Int→List Bool→List Int→List Tl→List Bool×List Int×List Tl
 | 0,eC,ba,cG,cW=>(ba,cG,cW)
 | dx+1,eC,ba,cG,cW=>(bif (decide (eC<(((j.ab.g tqk.toNat).aB.length:Nat):Int))) then kW j tqk iD dx (eC+1) ba cG (cW.set ((j.ab.g tqk.toNat).aB.g eC.toNat).ah.toNat ⟨(fC (fit (cW.g ((j.ab.g tqk.toNat).aB.g eC.toNat).ah.toNat).l) (⟨iD,((iD+((j.ab.g tqk.toNat).takes)) - 1)⟩:Span) ((j.ab.g tqk.toNat).aB.g eC.toNat).aI)⟩) else (ba,cG,cW))
theorem Jm {d:Nat} {h:az} (iD:Int) (j:bP) (tqk:Int) (pqN:Nat) (sqN:Nat) (tqN:Nat) (tqF:Bool) (aE:List Bool) (aj:List Int) (aW:List Tl) (bj:Nat) (cg:Nat) (gF:Nat) (gM:Nat) (iV:Nat) (bp:aO h (j.ab.g tqk.toNat).bo (j.ab.g tqk.toNat).aB) (cC:aO h j.au j.ab) (dq:aO h j.ar j.af) (lG:((j.ab.g tqk.toNat).name).length<2^60) (wy:bT h .i64 3 (j.ab.g tqk.toNat).bh (j.ab.g tqk.toNat).aD) (fI:aK.ok h j) (xW:aK.ok h (j.ab.g tqk.toNat)) (fU:0≤tqk) (iB:tqk<(j.ab.length:Int)) (mO:aE.length=j.ab.length) (nI:aj.length=j.ab.length) (o8:∀q,q<(j.ab.g tqk.toNat).aB.length→0≤((j.ab.g tqk.toNat).aB.g q).ah∧((j.ab.g tqk.toNat).aB.g q).ah<(aW.length:Int)) (qF:∀a,a<(j.ab.g tqk.toNat).aB.length→∀b,a<b→b<(j.ab.g tqk.toNat).aB.length→((j.ab.g tqk.toNat).aB.g a).ah≠((j.ab.g tqk.toNat).aB.g b).ah) (yL:0≤iD) (Rt:iD+(j.ab.g tqk.toNat).takes≤100000) (Ru:0≤(j.ab.g tqk.toNat).takes) (ab6:∀q,q<(j.ab.g tqk.toNat).aB.length→tq 159 (aW.g (Int.toNat ((j.ab.g tqk.toNat).aB.g q).ah))) (Rv:tqN=aW.length) (bM:Tidy h) (tC:h.nx≤bj) (C5:h.nx≤cg) (Lp:h.get gF=none) (Lq:h.get gM=none) (Y4:h.get iV=none) (o_:cg≠bj) (uA:gF≠bj) (uC:gF≠cg) (uD:gM≠bj) (uE:gM≠cg) (uF:gM≠gF) (E5:iV≠bj) (E6:iV≠cg) (E7:iV≠gF) (E8:iV≠gM):∀(k_:Nat) (eC:Int) (ba:List Bool) (cG:List Int) (cW:List Tl) (_:(((j.ab.g tqk.toNat).aB.length:Nat):Int) - eC≤(k_:Int)) (_:(((0:Int)≤1)∧(0≤eC∧∀q:Nat,eC≤(q:Int)→q<(j.ab.g tqk.toNat).aB.length→tq 159 ((cW).g (Int.toNat ((j.ab.g tqk.toNat).aB.g q).ah))))) (x:Nat→AV) (hh:az) (aF:Tidy hh) (aA:Has h hh) (fN:h.nx≤hh.nx) (kc:ba.length=pqN) (yI:cG.length=sqN) (GA:cW.length=tqN) (br:hh.get bj=some (aN.cells [j.au,j.ar,(AV.slice gF 0 pqN pqN false),(AV.slice gM 0 sqN sqN false),(AV.slice iV 0 tqN tqN tqF)] 103 false)) (dA:hh.get cg=some (aN.cells [(AV.str (j.ab.g tqk.toNat).name),(Zi (j.ab.g tqk.toNat).takes),(j.ab.g tqk.toNat).bh,(j.ab.g tqk.toNat).bo] 48 false)) (mg:hh.get gF=some (aN.cells (bs ba) 4 false)) (lk:hh.get gM=some (aN.cells (zs .i64 cG) 3 false)) (r_:hh.get iV=some (aN.cells (kL cW) 156 false)),bY (σ:=List Bool×List Int×List Tl) (ρ:=Unit) (cA (d+2)) Y3 ⟨((x 0)::(x 1)::(Zi iD)::(Pt bj)::(x 4)::(x 5)::(Pt cg)::rx x 7 18 (((j.ab.g tqk.toNat).bo)::(Zn (j.ab.g tqk.toNat).aB.length)::(Zi eC)::rx x 28 19 [])),hh,[],.no⟩ (.exit 0) hh (fun r z y=>((y 0)::(y 1)::(Zi iD)::(Pt bj)::(y 4)::(y 5)::(Pt cg)::rx y 7 18 (((j.ab.g tqk.toNat).bo)::(Zn (j.ab.g tqk.toNat).aB.length)::rx y 27 20 []))) (fun r z y=>((y 0)::(y 1)::(Zi iD)::(Pt bj)::(y 4)::(y 5)::(Pt cg)::rx y 7 18 (((j.ab.g tqk.toNat).bo)::(Zn (j.ab.g tqk.toNat).aB.length)::rx y 27 20 []))) (fun r z hk=>Has h hk∧hk.get bj=some (aN.cells [j.au,j.ar,(AV.slice gF 0 pqN pqN false),(AV.slice gM 0 sqN sqN false),(AV.slice iV 0 tqN tqN tqF)] 103 false)∧hk.get cg=some (aN.cells [(AV.str (j.ab.g tqk.toNat).name),(Zi (j.ab.g tqk.toNat).takes),(j.ab.g tqk.toNat).bh,(j.ab.g tqk.toNat).bo] 48 false)∧hk.get gF=some (aN.cells (bs r.1) 4 false)∧hk.get gM=some (aN.cells (zs .i64 r.2.1) 3 false)∧hk.get iV=some (aN.cells (kL r.2.2) 156 false)∧r.1.length=pqN∧r.2.1.length=sqN∧r.2.2.length=tqN∧((0:Int)≤1)) (fun r z hk=>Has h hk) (Sum.inl (kW j tqk iD k_ eC ba cG cW))
 | 0,eC,ba,cG,cW,eZ,du,x,hh,aF,aA,fN,kc,yI,GA,br,dA,mg,lk,r_=>by
  have q1:(decide (eC<(((j.ab.g tqk.toNat).aB.length:Nat):Int)))=false:=d!
  exact bY.out (ba,cG,cW) aL rfl (pk (d+2) _ _ hh _ hh (VV (bE 3 false false .i64 eC (((j.ab.g tqk.toNat).aB.length:Nat):Int))<|BB q1<|ZZ) k!) aF o! ⟨aA,br,dA,mg,lk,r_,ga,ga,ga,(show ((0:Int)≤1) from Db)⟩ k!
 | dx+1,eC,ba,cG,cW,eZ,du,x,hh,aF,aA,fN,kc,yI,GA,br,dA,mg,lk,r_=>by
  have gN:=bp.small
  have mw:=cC.small
  have sX:=dq.small
  have Uk:=wy.small
  have tD:=aF _ _ br
  have Lr:=aF _ _ dA
  have agi:=aF _ _ mg
  have agj:=aF _ _ lk
  have an3:=aF _ _ r_
  have ur_:=o8 eC.toNat
  have ut_:=du.2.2 eC.toNat
  have ei:=fun {al ps} (k:Pk al _ ps)=>(VV (bE 3 false false .i64 eC (((j.ab.g tqk.toNat).aB.length:Nat):Int))<|k:Pk _ [] ps)
  rcases bu (decide (eC<(((j.ab.g tqk.toNat).aB.length:Nat):Int))) with f0 | f0
  · have ja:=jv f0
    obtain ⟨p3,q4,mu⟩:=bp.elem (i:=eC.toNat) o!
    have gh:=xn mu o!
    have kN:=(bp.has aA).load o! mu
    obtain ⟨h6,kV,ig,uz,jc,bB⟩:=gQ aF (aN.cells [(Zi 0),(Zi 0)] 50 false)
    have gL:=aA.trans bB
    obtain ⟨h7,jw,dM,r5,dS,aX⟩:=j_ (t:=50) (n:=2) (i:=hh.nx) (L:=[(Zi ((j.ab.g tqk.toNat).aB.g eC.toNat).ah),(Zi ((j.ab.g tqk.toNat).aB.g eC.toNat).aI)]) ig jc k! rfl rfl rfl
    have cV:=Has.bK gL aX bM o!
    have GB:hG env (some (.slice 156)) (some (AV.slice iV 0 tqN tqN tqF)) (some (Zi ((j.ab.g tqk.toNat).aB.g eC.toNat).ah))=some (AV.ptr iV (0+(((j.ab.g tqk.toNat).aB.g eC.toNat).ah).toNat*324)):=CP (z:=324) (k:=(((j.ab.g tqk.toNat).aB.g eC.toNat).ah).toNat) k! o! o!
    have w9:IntKind.i64.wrap (iD+((j.ab.g tqk.toNat).takes))=iD+((j.ab.g tqk.toNat).takes):=wrap_i64 o! o!
    have w10:IntKind.i64.wrap ((iD+((j.ab.g tqk.toNat).takes)) - 1)=(iD+((j.ab.g tqk.toNat).takes)) - 1:=wrap_i64 o! o!
    obtain ⟨Ul,Um,agt,WO,Ov,pf⟩:=dI dM (aX _ _ o! (bB _ _ r_))
    have aj3:=bL cV vk pf
    obtain ⟨pH,Rw,hD,Dc,Jn,agu,agv⟩:=WG (d:=d) (h:=Ul) (tO:=0+(((j.ab.g tqk.toNat).aB.g eC.toNat).ah).toNat*324) (fit (cW.g ((j.ab.g tqk.toNat).aB.g eC.toNat).ah.toNat).l) (⟨iD,((iD+((j.ab.g tqk.toNat).takes)) - 1)⟩:Span) ((j.ab.g tqk.toNat).aB.g eC.toNat).aI trivial (Om (aX _ _ o! (bB _ _ r_)) o!) (by rw[(C1 o!).2];omega) (wq _) WO yK yK yK yK yK Um dM Ov o!
    have aj4:pH.get iV=some (aN.cells (kL (cW.set ((j.ab.g tqk.toNat).aB.g eC.toNat).ah.toNat ⟨(fC (fit (cW.g ((j.ab.g tqk.toNat).aB.g eC.toNat).ah.toNat).l) (⟨iD,((iD+((j.ab.g tqk.toNat).takes)) - 1)⟩:Span) ((j.ab.g tqk.toNat).aB.g eC.toNat).aI)⟩)) 156 false):=abV o! agv agu
    have arH:=C3 (fit (cW.g ((j.ab.g tqk.toNat).aB.g eC.toNat).ah.toNat).l) (⟨iD,((iD+((j.ab.g tqk.toNat).takes)) - 1)⟩:Span) ((j.ab.g tqk.toNat).aB.g eC.toNat).aI (by first | omega | exact wq _) (by first | omega | exact (ut_ o! o!).1) (by first | omega | exact (ut_ o! o!).2.1) (by first | omega | exact (ut_ o! o!).2.2) (by first | omega | (dsimp only;omega)) (by first | omega | (dsimp only;omega))
    have eT:=(aj3.trans Jn)
    have w13:IntKind.i64.wrap (eC+1)=eC+1:=wrap_i64 o! o!
    exact bY.round (congrArg Sum.inl (by simp only[kW,f0,ao,ai])) (pk (d+2) _ _ hh _ pH (ei<|BV f0 gh<|MM kN<|NN kV (fun i=>(Pt i))<|SS jw<|CC<|MM (aP 101 4 (AV.slice iV 0 tqN tqN tqF) (aX _ _ o! (bB _ _ br)) k!)<|CC<|MM (aP 3 0 (Zi ((j.ab.g tqk.toNat).aB.g eC.toNat).ah) dS k!)<|VV GB<|CN 3<|MM (aP 3 1 (Zi (j.ab.g tqk.toNat).takes) (aX _ _ o! (bB _ _ dA)) k!)<|VV (qE 3 false false w9)<|VV (Aj 3 false true w10)<|CN 2<|MM (aP 3 1 (Zi ((j.ab.g tqk.toNat).aB.g eC.toNat).aI) dS k!)<|EE Rw<|HH (aP 101 4 (AV.slice iV 0 tqN tqN tqF) (aX _ _ o! (bB _ _ br)) k!)<|HH (show AV.same 20 (AV.slice iV 0 tqN tqN tqF) (AV.slice iV 0 tqN tqN tqF)=true from gy 19 _ _ _ _ _)<|HH (aP 3 0 (Zi ((j.ab.g tqk.toNat).aB.g eC.toNat).ah) dS k!)<|HH (show AV.same 20 (Zi ((j.ab.g tqk.toNat).aB.g eC.toNat).ah) (Zi ((j.ab.g tqk.toNat).aB.g eC.toNat).ah)=true from aS 19 _ _)<|HH (aP 3 1 (Zi (j.ab.g tqk.toNat).takes) (aX _ _ o! (bB _ _ dA)) k!)<|HH (show AV.same 20 (Zi (j.ab.g tqk.toNat).takes) (Zi (j.ab.g tqk.toNat).takes)=true from aS 19 _ _)<|HH (aP 3 1 (Zi ((j.ab.g tqk.toNat).aB.g eC.toNat).aI) dS k!)<|HH (show AV.same 20 (Zi ((j.ab.g tqk.toNat).aB.g eC.toNat).aI) (Zi ((j.ab.g tqk.toNat).aB.g eC.toNat).aI)=true from aS 19 _ _)<|VV (qE 3 false true w13)<|CC<|ZZ) k!) o! _ k! (fun x=>Jm iD j tqk pqN sqN tqN tqF aE aj aW bj cg gF gM iV bp cC dq lG wy fI xW fU iB mO nI o8 qF yL Rt Ru ab6 Rv bM tC C5 Lp Lq Y4 o_ uA uC uD uE uF E5 E6 E7 E8 dx (eC+1) ba cG (cW.set ((j.ab.g tqk.toNat).aB.g eC.toNat).ah.toNat ⟨(fC (fit (cW.g ((j.ab.g tqk.toNat).aB.g eC.toNat).ah.toNat).l) (⟨iD,((iD+((j.ab.g tqk.toNat).takes)) - 1)⟩:Span) ((j.ab.g tqk.toNat).aB.g eC.toNat).aI)⟩) Db (show (((0:Int)≤1)∧(0≤(eC+1)∧∀q:Nat,(eC+1)≤(q:Int)→q<(j.ab.g tqk.toNat).aB.length→tq 159 ((cW.set ((j.ab.g tqk.toNat).aB.g eC.toNat).ah.toNat ⟨(fC (fit (cW.g ((j.ab.g tqk.toNat).aB.g eC.toNat).ah.toNat).l) (⟨iD,((iD+((j.ab.g tqk.toNat).takes)) - 1)⟩:Span) ((j.ab.g tqk.toNat).aB.g eC.toNat).aI)⟩).g (Int.toNat ((j.ab.g tqk.toNat).aB.g q).ah)))) from Db) x pH hD eT o! ga ga ga (Jn _ _ ((pf _ o!).trans (aX _ _ o! (bB _ _ br)))) (Jn _ _ ((pf _ o!).trans (aX _ _ o! (bB _ _ dA)))) (Jn _ _ ((pf _ o!).trans (aX _ _ o! (bB _ _ mg)))) (Jn _ _ ((pf _ o!).trans (aX _ _ o! (bB _ _ lk)))) aj4)
  · exact bY.out (ba,cG,cW) aL (congrArg Sum.inl (by simp only[kW,f0,ao,ai])) (pk (d+2) _ _ hh _ hh (ei<|BB f0<|ZZ) k!) aF o! ⟨aA,br,dA,mg,lk,r_,ga,ga,ga,(show ((0:Int)≤1) from Db)⟩ k!
def di (j:bP) (aE:List Bool) (aj:List Int) (aW:List Tl) (tqk:Int) (iD:Int):List Bool×List Int×List Tl:=((kW j tqk iD ((((j.ab.g tqk.toNat).aB.length:Nat):Int) - 0).toNat 0 (aE.set tqk.toNat true) (aj.set tqk.toNat iD) aW).1,(kW j tqk iD ((((j.ab.g tqk.toNat).aB.length:Nat):Int) - 0).toNat 0 (aE.set tqk.toNat true) (aj.set tqk.toNat iD) aW).2.1,(kW j tqk iD ((((j.ab.g tqk.toNat).aB.length:Nat):Int) - 0).toNat 0 (aE.set tqk.toNat true) (aj.set tqk.toNat iD) aW).2.2)
theorem HU {d:Nat} {h hh:az} {bq pqN bt sqN tqB tqN:Nat} {tqF:Bool} (j:bP) (aE:List Bool) (aj:List Int) (aW:List Tl) (tqk:Int) (iD:Int) (b7:aK.ok h j) (dU:hh.get bq=some (aN.cells (bs aE) 4 false)) (Dd:aE.length=pqN) (Jo:h.get bq=none) (dH:hh.get bt=some (aN.cells (zs .i64 aj) 3 false)) (Jp:aj.length=sqN) (Jq:h.get bt=none) (eW:hh.get tqB=some (aN.cells (kL aW) 156 false)) (MN:aW.length=tqN) (MO:h.get tqB=none) (mf:0≤tqk) (oQ:tqk<(j.ab.length:Int)) (xU:aE.length=j.ab.length) (Ak:aj.length=j.ab.length) (Ha:∀q,q<(j.ab.g tqk.toNat).aB.length→0≤((j.ab.g tqk.toNat).aB.g q).ah∧((j.ab.g tqk.toNat).aB.g q).ah<(aW.length:Int)) (Y5:∀a,a<(j.ab.g tqk.toNat).aB.length→∀b,a<b→b<(j.ab.g tqk.toNat).aB.length→((j.ab.g tqk.toNat).aB.g a).ah≠((j.ab.g tqk.toNat).aB.g b).ah) (pre6:0≤iD) (ab7:iD+(j.ab.g tqk.toNat).takes≤100000) (aj5:0≤(j.ab.g tqk.toNat).takes) (Un:∀q,q<(j.ab.g tqk.toNat).aB.length→tq 159 (aW.g (Int.toNat ((j.ab.g tqk.toNat).aB.g q).ah))) (aj6:bt≠bq) (an4:tqB≠bq) (an5:tqB≠bt) (bM:Tidy h) (aF:Tidy hh) (aA:Has h hh) (fN:h.nx≤hh.nx):∃hk,cA (d+3) (.fn 84) [(AV.agg [j.au,j.ar,(AV.slice bq 0 pqN pqN false),(AV.slice bt 0 sqN sqN false),(AV.slice tqB 0 tqN tqN tqF)]),(Zi tqk),(Zi iD)] hh= .ret (AV.tuple []) hk∧Tidy hk∧hh.nx≤hk.nx∧Has h hk∧hk.get bq=some (aN.cells (bs (di j aE aj aW tqk iD).1) 4 false)∧((di j aE aj aW tqk iD).1).length=pqN∧hk.get bt=some (aN.cells (zs .i64 (di j aE aj aW tqk iD).2.1) 3 false)∧((di j aE aj aW tqk iD).2.1).length=sqN∧hk.get tqB=some (aN.cells (kL (di j aE aj aW tqk iD).2.2) 156 false)∧((di j aE aj aW tqk iD).2.2).length=tqN:=by
 have l7:=b7.1.small
 have l8:=b7.2.small
 have Jr:=aF _ _ dU
 have Js:=aF _ _ dH
 have MP:=aF _ _ eW
 obtain ⟨h1,dw,de,jW,bx,ca⟩:=gQ aF (aN.cells [j.au,j.ar,(AV.slice bq 0 pqN pqN false),(AV.slice bt 0 sqN sqN false),(AV.slice tqB 0 tqN tqN tqF)] 103 false)
 have bD:=aA.trans ca
 obtain ⟨p3,q4,mu⟩:=b7.1.elem (i:=tqk.toNat) o!
 have gh:=xn mu o!
 have kN:=(b7.1.has bD).load o! mu
 obtain ⟨h6,kV,ig,uz,jc,bB⟩:=gQ de (aN.cells [(AV.str []),(Zi 0),AV.aw,AV.aw] 48 false)
 have gL:=bD.trans bB
 have C6:=((b7.1.ok (i:=tqk.toNat) o!).2.1).scalar
 have MQ:=((b7.1.ok (i:=tqk.toNat) o!).2.2).scalar
 obtain ⟨h7,jw,dM,r5,dS,aX⟩:=j_ (t:=48) (n:=4) (i:=h1.nx) (L:=[(AV.str (j.ab.g tqk.toNat).name),(Zi (j.ab.g tqk.toNat).takes),(j.ab.g tqk.toNat).bh,(j.ab.g tqk.toNat).bo]) ig jc k! rfl rfl (kJ rfl (kJ rfl (kJ C6 (kJ MQ rfl))))
 have cV:=Has.bK gL aX bM o!
 have Rx:hG env (some (.slice 4)) (some (AV.slice bq 0 pqN pqN false)) (some (Zi tqk))=some (AV.ptr bq tqk.toNat):=ic k! (show tqk.toNat<pqN by omega) o!
 obtain ⟨lY,Jt⟩:∃De:az,De=h7.put bq (some (aN.cells (bs (aE.set tqk.toNat true)) 4 false)):=⟨_,rfl⟩
 have C8:eS env h7 4 (AV.ptr bq tqk.toNat) (AV.bool true)=some lY:=by rw[Jt];exact sS k! (aX _ _ o! (bB _ _ (ca _ _ dU))) ga
 have iT:Ll h7 lY bq (aN.cells (bs (aE.set tqk.toNat true)) 4 false):=by rw[Jt];exact jL dM (aX _ _ o! (bB _ _ (ca _ _ dU)))
 have iU:=iT.1
 have Gy:lY.nx=h7.nx:=by rw[Jt];rfl
 have my:=kU iT cV vk
 have Ls:hG env (some (.slice 3)) (some (AV.slice bt 0 sqN sqN false)) (some (Zi tqk))=some (AV.ptr bt tqk.toNat):=ic k! (show tqk.toNat<sqN by omega) o!
 obtain ⟨rk,yM⟩:∃De:az,De=lY.put bt (some (aN.cells (zs .i64 (aj.set tqk.toNat iD)) 3 false)):=⟨_,rfl⟩
 have rL:eS env lY 3 (AV.ptr bt tqk.toNat) (Zi iD)=some rk:=by rw[yM];exact yD k! (iT.2.2 _ _ o! (aX _ _ o! (bB _ _ (ca _ _ dH)))) ga
 have nL:Ll lY rk bt (aN.cells (zs .i64 (aj.set tqk.toNat iD)) 3 false):=by rw[yM];exact jL iU (iT.2.2 _ _ o! (aX _ _ o! (bB _ _ (ca _ _ dH))))
 have jy:=nL.1
 have Df:rk.nx=lY.nx:=by rw[yM];rfl
 have gG:=kU nL my vk
 have Uo:=((b7.1.ok (i:=tqk.toNat) o!).2.2).len
 obtain ⟨auS,an6,yN,Dg,oI,an7,aj7,ap7,ap8,WQ,WR,WS,ap9,aqa,aqb,an8⟩:=bY.n rfl (Jm (d:=d) (h:=h) iD j tqk pqN sqN tqN tqF aE aj aW hh.nx h1.nx bq bt tqB (b7.1.ok (i:=tqk.toNat) o!).2.2 b7.1 b7.2 (b7.1.ok (i:=tqk.toNat) o!).1 (b7.1.ok (i:=tqk.toNat) o!).2.1 b7 (b7.1.ok (i:=tqk.toNat) o!) o! o! o! o! a! a! o! o! o! a! o! bM o! o! vk vk vk o! o! o! o! o! o! o! o! o! o! ((((j.ab.g tqk.toNat).aB.length:Nat):Int) - 0).toNat 0 (aE.set tqk.toNat true) (aj.set tqk.toNat iD) aW o! (show (((0:Int)≤1)∧(0≤0∧∀q:Nat,0≤(q:Int)→q<(j.ab.g tqk.toNat).aB.length→tq 159 ((aW).g (Int.toNat ((j.ab.g tqk.toNat).aB.g q).ah)))) from ⟨by omega,by omega,fun q _ hq=>Un q hq⟩) (dr ((AV.agg [j.au,j.ar,(AV.slice bq 0 pqN pqN false),(AV.slice bt 0 sqN sqN false),(AV.slice tqB 0 tqN tqN tqF)])::(Zi tqk)::(Zi iD)::(Pt hh.nx)::aL::aL::(Pt h1.nx)::aL::aL::(Pt hh.nx)::(Pt hh.nx)::j.au::(Zi tqk)::(AV.ptr p3 q4)::(AV.agg [(AV.str (j.ab.g tqk.toNat).name),(Zi (j.ab.g tqk.toNat).takes),(j.ab.g tqk.toNat).bh,(j.ab.g tqk.toNat).bo])::(AV.ptr hh.nx 2)::(AV.slice bq 0 pqN pqN false)::(Zi tqk)::(AV.ptr hh.nx 3)::(AV.slice bt 0 sqN sqN false)::(Zi tqk)::(Zi iD)::(AV.ptr bq tqk.toNat)::(AV.ptr bt tqk.toNat)::(AV.ptr h1.nx 3)::((j.ab.g tqk.toNat).bo)::(Zn (j.ab.g tqk.toNat).aB.length)::(Zi 0)::iW 19)) rk jy gG o! ga ga ga (nL.2.2 _ _ o! (iT.2.2 _ _ o! (aX _ _ o! (bB _ _ bx)))) (nL.2.2 _ _ o! (iT.2.2 _ _ o! dS)) (nL.2.2 _ _ o! iT.2.1) nL.2.1 (nL.2.2 _ _ o! (iT.2.2 _ _ o! (aX _ _ o! (bB _ _ (ca _ _ eW))))))
 have kX:=aj7
 have e:di j aE aj aW tqk iD=((kW j tqk iD ((((j.ab.g tqk.toNat).aB.length:Nat):Int) - 0).toNat 0 (aE.set tqk.toNat true) (aj.set tqk.toNat iD) aW).1,(kW j tqk iD ((((j.ab.g tqk.toNat).aB.length:Nat):Int) - 0).toNat 0 (aE.set tqk.toNat true) (aj.set tqk.toNat iD) aW).2.1,(kW j tqk iD ((((j.ab.g tqk.toNat).aB.length:Nat):Int) - 0).toNat 0 (aE.set tqk.toNat true) (aj.set tqk.toNat iD) aW).2.2):=by simp only[di,ao,ai]
 rw[e]
 exact iE rfl (aY Tryz.func84 ags rfl (.inl rfl) (pk (d+2) _ _ hh _ yN (NN dw (fun i=>(Pt i))<|CN 2<|MM (aP 22 0 j.au bx k!)<|CC<|VV gh<|MM kN<|NN kV (fun i=>(Pt i))<|SS jw<|CC<|MM (aP 96 2 (AV.slice bq 0 pqN pqN false) (aX _ _ o! (bB _ _ bx)) k!)<|CN 2<|MM (aP 26 3 (AV.slice bt 0 sqN sqN false) (aX _ _ o! (bB _ _ bx)) k!)<|CN 2<|VV Rx<|SS C8<|VV Ls<|SS rL<|HH (aP 96 2 (AV.slice bq 0 pqN pqN false) (aX _ _ o! (bB _ _ bx)) k!)<|HH (show AV.same 20 (AV.slice bq 0 pqN pqN false) (AV.slice bq 0 pqN pqN false)=true from gy 19 _ _ _ _ _)<|HH (aP 26 3 (AV.slice bt 0 sqN sqN false) (aX _ _ o! (bB _ _ bx)) k!)<|HH (show AV.same 20 (AV.slice bt 0 sqN sqN false) (AV.slice bt 0 sqN sqN false)=true from gy 19 _ _ _ _ _)<|HH (aP 26 3 (AV.slice bt 0 sqN sqN false) (iT.2.2 _ _ o! (aX _ _ o! (bB _ _ bx))) k!)<|HH (show AV.same 20 (AV.slice bt 0 sqN sqN false) (AV.slice bt 0 sqN sqN false)=true from gy 19 _ _ _ _ _)<|CC<|MM (aP 46 3 (j.ab.g tqk.toNat).bo (nL.2.2 _ _ o! (iT.2.2 _ _ o! dS)) k!)<|VV Uo<|CC<|LL Dg<|ZZ) k!) k!) aF oI o! ⟨kX,WQ,ga,WR,ga,WS,ga⟩ (fun q=>⟨aA,eL q dU WQ,ga,eL q dH WR,ga,eL q eW WS,ga⟩)
theorem Ry {p:Prop} (h:p:=by first | omega | (simp only[List.length_set,List.length_replicate,dQ]<;>omega) | exact hJ _ | exact ku a!):p:=h
def Up:Code:=(Tryz.f147.body).getD .skip
theorem WT:Tryz.f147.body=some Up:=by kernel_rfl
def yO (t:List Int) (x8:Int):Int:=(bif (decide ((x8+1)<(t.g 322))) then (t.g ((x8+1).toNat*2)) else 100001)
theorem agw {d:Nat} {h:az} {tP tQ:List AV} {tE:TypeId} (t:List Int) (tB:Nat) (tO:Nat) (x8:Int) (AD:h.get tB=some (aN.cells (tP++zs .i64 t++tQ) tE false)) (agb:tP.length=tO) (agc:t.length=324) (mf:0≤t.g 322) (oQ:t.g 322≤161) (xU:0≤x8) (Ak:x8≤1000) (bM:Tidy h):cA (d+1) (.fn 147) [(AV.ptr tB tO),(Zi x8)] h= .ret (Zi (yO t x8)) h:=by
 have w1:IntKind.i64.wrap (x8+1)=x8+1:=wrap_i64 o! o!
 have ld2:cX env h 3 (AV.ptr tB (tO+322))=some (Zi (t.g 322)):=(gD (j:=322) (o:=tO) k! AD o! Ry o!)
 have ei:=fun {al ps} (k:Pk al _ ps)=>(CN 2<|VV (qE 3 false true w1)<|CN 3<|MM ld2<|VV (bE 3 false false .i64 (x8+1) (t.g 322))<|k:Pk _ [] ps)
 rcases bu (decide ((x8+1)<(t.g 322))) with f0 | f0
 · have ja:=jv f0
   have w4:IntKind.i64.wrap (x8+1)=x8+1:=wrap_i64 o! o!
   have Rz:hG env (some (.array 161 153)) (some (AV.ptr tB (tO+0))) (some (Zi (x8+1)))=some (AV.ptr tB ((tO+0)+(x8+1).toNat*2)):=o7 (z:=2) (k:=(x8+1).toNat) k! o! o!
   have qm:cX env h 3 (AV.ptr tB (((tO+0)+(x8+1).toNat*2)+0))=some (Zi (t.g ((x8+1).toNat*2))):=(gD (j:=(x8+1).toNat*2) (o:=tO) k! AD o! Ry o!)
   have e:yO t x8=(t.g ((x8+1).toNat*2)):=by simp only[yO,f0,ao,ai]
   rw[e]
   exact aG rfl (aY Tryz.func147 WT rfl (.inr rfl) (pk (d) _ _ h _ h (ei<|BB f0<|CN 2<|VV (qE 3 false true w4)<|CN 2<|VV Rz<|CC<|MM qm<|CC<|ZZ) k!) k!) (Has.refl _) rfl
 · have e:yO t x8=100001:=by simp only[yO,f0,ao,ai]
   rw[e]
   exact aG rfl (aY Tryz.func147 WT rfl (.inr rfl) (pk (d) _ _ h _ h (ei<|BC f0<|ZZ) k!) k!) (Has.refl _) rfl
theorem wz {p:Prop} (h:p:=by first | omega | assumption | (simp only[List.length_set,List.length_replicate,List.length_append,List.length_cons,List.length_nil,List.nil_append]<;>omega) | (rw[List.length_take];omega)):p:=h
theorem wA {p:Prop} (h:p:=by first | omega | (simp only[List.length_set,List.length_replicate,dQ]<;>omega) | exact hJ _ | exact ku a!):p:=h
def Dh:Code:=(Tryz.f141.body).getD .skip
theorem Y6:Tryz.f141.body=some Dh:=by kernel_rfl
def RA:Code:=(bl Dh).getD 0 .skip
def e7 (t:List Int) (takes:Int) (pieces:Int):Nat→Nat→Int→Int
 | 0,_,yP=>yP
 | dx+1,i0,yP=>(bif (decide ((IntKind.i64.wrap (yP+takes))≤(t.g (i0*2)))) then yP else (bif (decide ((t.g 323)<(IntKind.i64.wrap ((t.g (i0*2+1))+pieces)))) then e7 t takes pieces dx (i0+1) (imax yP (yO t ((i0:Nat):Int))) else e7 t takes pieces dx (i0+1) yP))
theorem wB {d:Nat} {h:az} (tO:Nat) (takes:Int) (pieces:Int) (t:List Int) (tP:List AV) (tQ:List AV) (tE:TypeId) (bj:Nat) (fU:0≤t.g 322) (iB:t.g 322≤161) (mO:tP.length=tO) (nI:t.length=324):∀(k_ i_:Nat) (yP:Int) (_:i_+k_=(t.g 322).toNat) (x:Nat→AV) (hh:az) (aF:Tidy hh) (aA:Has h hh) (br:hh.get bj=some (aN.cells (tP++zs .i64 t++tQ) tE false)),cr (cA (d+1)) RA ⟨((AV.ptr bj tO)::(Zi yP)::(Zi takes)::(Zi pieces)::rx x 4 14 ((AV.slice bj (tO+0) (t.g 322).toNat 161 false)::(Zn (t.g 322).toNat)::(Zn i_)::rx x 21 26 [])),hh,[],.no⟩ (.exit 0) hh (fun r y=>((AV.ptr bj tO)::(Zi r)::(Zi takes)::(Zi pieces)::rx y 4 14 ((AV.slice bj (tO+0) (t.g 322).toNat 161 false)::(Zn (t.g 322).toNat)::rx y 20 27 []))) (fun r=>True) (e7 t takes pieces k_ i_ yP)
 | 0,i0,yP,eZ,x,hh,aF,aA,br=>by
  have q1:(decide (((i0:Nat):Int)<(((t.g 322).toNat:Nat):Int)))=false:=d!
  exact cr.out yP rfl (pk (d+1) _ _ hh _ hh (VV (bE 3 false false .i64 ((i0:Nat):Int) (((t.g 322).toNat:Nat):Int))<|BB q1<|ZZ) k!) (Grow.refl aF) trivial k!
 | dx+1,i0,yP,eZ,x,hh,aF,aA,br=>by
  have tD:=aF _ _ br
  have q1:(decide (((i0:Nat):Int)<(((t.g 322).toNat:Nat):Int)))=true:=d!
  have gh:hG env (some (.slice 153)) (some (AV.slice bj (tO+0) (t.g 322).toNat 161 false)) (some (Zn i0))=some (AV.ptr bj ((tO+0)+i0*2)):=CP (z:=2) (k:=i0) k! o! o!
  have ld3:cX env hh 153 (AV.ptr bj ((tO+0)+i0*2))=some (AV.agg [(Zi (t.g (i0*2))),(Zi (t.g (i0*2+1)))]):=(MF (j:=i0*2) (o:=tO) k! k! br o! wA o!)
  obtain ⟨h4,Ow,ij,Y7,Lt,sY⟩:=gQ aF (aN.cells [(Zi 0),(Zi 0)] 153 false)
  have fq:=sY
  obtain ⟨h5,T6,mP,abN,Hc,yQ⟩:=j_ (t:=153) (n:=2) (i:=hh.nx) (L:=[(Zi (t.g (i0*2))),(Zi (t.g (i0*2+1)))]) ij Lt k! rfl rfl rfl
  have fO:=Has.bK fq yQ aF o!
  have ei:=fun {al ps} (k:Pk al _ ps)=>(VV (bE 3 false false .i64 ((i0:Nat):Int) (((t.g 322).toNat:Nat):Int))<|BC q1<|VV gh<|MM ld3<|NN Ow (fun i=>(Pt i))<|CC<|SS T6<|CC<|MM (aP 3 0 (Zi (t.g (i0*2))) Hc k!)<|CN 3<|VV (tA 3 false false .i64 (t.g (i0*2)) (IntKind.i64.wrap (yP+takes)))<|k:Pk _ [] ps)
  rcases bu (decide ((IntKind.i64.wrap (yP+takes))≤(t.g (i0*2)))) with f1 | f1
  · have eB:=jv f1
    exact cr.out yP (by simp only[e7,f1,ao,ai]) (pk (d+1) _ _ hh _ h5 (ei<|BB f1<|ZZ) k!) (⟨mP,fO,by omega⟩) trivial k!
  · have eB:=pK f1
    have Tf:cX env h5 3 (AV.ptr bj (tO+323))=some (Zi (t.g 323)):=(gD (j:=323) (o:=tO) k! (yQ _ _ o! (sY _ _ br)) o! wA o!)
    have gK:=fun {al ps} (k:Pk al _ ps)=>(ei<|BC f1<|MM (aP 3 1 (Zi (t.g (i0*2+1))) Hc k!)<|CN 5<|MM Tf<|VV (gz 3 false false .i64 (IntKind.i64.wrap ((t.g (i0*2+1))+pieces)) (t.g 323))<|HH (aP 3 1 (Zi (t.g (i0*2+1))) Hc k!)<|HH (show AV.same 20 (Zi (t.g (i0*2+1))) (Zi (t.g (i0*2+1)))=true from aS 19 _ _)<|HH Tf<|HH (show AV.same 20 (Zi (t.g 323)) (Zi (t.g 323))=true from aS 19 _ _)<|k:Pk _ [] ps)
    rcases bu (decide ((t.g 323)<(IntKind.i64.wrap ((t.g (i0*2+1))+pieces)))) with f2 | f2
    · have pX:=jv f2
      have k9:=agw (d:=d) t bj tO ((i0:Nat):Int) (yQ _ _ o! (sY _ _ br)) o! wA wz wz wz wz mP
      have u10:=eA 3 false true i0 1 o!
      exact cr.round (by simp only[e7,f1,f2,ao,ai]) (pk (d+1) _ _ hh _ h5 (gK<|BB f2<|CN 3<|EE k9<|CN 2<|VV u10<|CC<|ZZ) k!) (⟨mP,fO,by omega⟩) _ k! (fun x=>wB tO takes pieces t tP tQ tE bj fU iB mO nI dx (i0+1) (imax yP (yO t ((i0:Nat):Int))) o! x h5 mP (aA.trans fO) (yQ _ _ o! (sY _ _ br)))
    · have pX:=pK f2
      have u9:=eA 3 false true i0 1 o!
      exact cr.round (by simp only[e7,f1,f2,ao,ai]) (pk (d+1) _ _ hh _ h5 (gK<|BV f2 u9<|CC<|ZZ) k!) (⟨mP,fO,by omega⟩) _ k! (fun x=>wB tO takes pieces t tP tQ tE bj fU iB mO nI dx (i0+1) yP o! x h5 mP (aA.trans fO) (yQ _ _ o! (sY _ _ br)))
def pg (t:List Int) (fm:Int) (takes:Int) (pieces:Int):Int:=(e7 t takes pieces (t.g 322).toNat 0 fm)
theorem Y8 {d:Nat} {h:az} {tP tQ:List AV} {tE:TypeId} (t:List Int) (tB:Nat) (tO:Nat) (fm:Int) (takes:Int) (pieces:Int) (AD:h.get tB=some (aN.cells (tP++zs .i64 t++tQ) tE false)) (agb:tP.length=tO) (agc:t.length=324) (mf:0≤t.g 322) (oQ:t.g 322≤161) (bM:Tidy h):cA (d+2) (.fn 141) [(AV.ptr tB tO),(Zi fm),(Zi takes),(Zi pieces)] h= .ret (Zi (pg t fm takes pieces)) h:=by
 have ld1:cX env h 3 (AV.ptr tB (tO+322))=some (Zi (t.g 322)):=(gD (j:=322) (o:=tO) k! AD o! wA o!)
 have sl2:iY env 154 (AV.ptr tB (tO+0)) (none) (some (Zi (t.g 322))) (none)=some (AV.slice tB (tO+0) (t.g 322).toNat 161 false):=Gt (e:=153) (size:=2) k! k! (hi:=(t.g 322).toNat) o! o!
 obtain ⟨MR,h4,jX,fV,wC⟩:=wB (d:=d) (h:=h) tO takes pieces t tP tQ tE tB o! o! o! o! (t.g 322).toNat 0 fm o! (dr ((AV.ptr tB tO)::(Zi fm)::(Zi takes)::(Zi pieces)::aL::aL::aL::aL::(Zi 0)::aL::aL::(AV.ptr tB tO)::(AV.ptr tB tO)::(AV.ptr tB (tO+0))::(AV.ptr tB tO)::(AV.ptr tB tO)::(AV.ptr tB (tO+322))::(Zi (t.g 322))::(AV.slice tB (tO+0) (t.g 322).toNat 161 false)::(Zn (t.g 322).toNat)::(Zi 0)::iW 26)) h bM (Has.refl _) AD
 have fq:=fV.a
 have e:pg t fm takes pieces=(e7 t takes pieces (t.g 322).toNat 0 fm):=by simp only[pg,ao,ai]
 rw[e]
 exact aG rfl (aY Tryz.func141 Y6 rfl (.inr rfl) (pk (d+1) _ _ h _ h4 (CN 7<|MM ld1<|QQ sl2<|CN 2<|HH ld1<|HH (show AV.same 20 (Zi (t.g 322)) (Zi (t.g 322))=true from aS 19 _ _)<|LL jX<|CN 2<|ZZ) k!) k!) fq rfl
theorem ab9 {L:List Int} {d s n k:Nat} (hd:d+n≤L.length) (hs:s+n≤L.length) (h0:d≤k) (h1:k<d+n):(bG L d s n).g k=L.g (k - d+s):=by
 unfold bG
 rw[if_pos ⟨hd,hs⟩,List.g,List.g,List.getD_eq_getElem?_getD,List.getD_eq_getElem?_getD]
 rw[List.getElem?_append_left (by simp only[List.length_append,List.length_take,List.length_drop];omega),List.getElem?_append_right (by rw[List.length_take];omega),List.length_take,show min d L.length=d by omega,List.getElem?_take_of_lt o!,List.getElem?_drop,show s+(k - d)=k - d+s by omega]
def fr (t:List Int) (k:Nat):Int:=t.g (k*2)
def us (t:List Int) (k:Nat):Int:=t.g (k*2+1)
structure ng (t:List Int) (n:Nat):Prop where
 len:t.length=324
 cn:t.g 322=(n:Int)
 lo:1≤n
 hi:n≤161
 zero:fr t 0=0
 up:∀i j,i<j→j<n→fr t i<fr t j
def Al (t:List Int) (m:Int):Nat→Int
 | 0=>0
 | k+1=>if fr t k≤m then us t k else Al t m k
theorem wD {t:List Int} {m:Int} {i:Nat}:∀{n:Nat},i<n→(∀k,i<k→k<n→m<fr t k)→fr t i≤m→Al t m n=us t i
 | 0,h,_,_=>by omega
 | n+1,h,a,b=>by
  rw[Al]
  by_cases e:i=n
  · subst e;rw[if_pos b]
  · rw[if_neg (by have:=a n o! o!;omega)];exact wD o! (fun k q r=>a k q o!) b
theorem zO {t:List Int} {m:Int} (h0:fr t 0≤m):∀{n:Nat},1≤n→(∀i j,i<j→j<n→fr t i<fr t j)→∃i,i<n∧fr t i≤m∧∀k,i<k→k<n→m<fr t k
 | 0,h,_=>by omega
 | 1,_,_=>⟨0,by omega,h0,fun k a b=>by omega⟩
 | n+2,_,up=>by
  by_cases e:fr t (n+1)≤m
  · exact ⟨n+1,by omega,e,fun k a b=>by omega⟩
  · obtain ⟨i,a,b,c⟩:=zO h0 (n:=n+1) o! (fun i j p q=>up i j p o!)
    exact ⟨i,by omega,b,fun k p q=>by
     by_cases e2:k=n+1
     · subst e2;omega
     · exact c k p o!⟩
structure Ins (t t':List Int) (n i:Nat) (mqn:Int):Prop where
 len:t'.length=324
 cn:t'.g 322=(n:Int)+1
 mark:t'.g 323=t.g 323
 lof:∀k,k<i→fr t' k=fr t k
 lou:∀k,k<i→us t' k=us t k
 atf:fr t' i=mqn
 atu:us t' i=us t (i - 1)
 hif:∀k,i<k→k≤n→fr t' k=fr t (k - 1)
 hiu:∀k,i<k→k≤n→us t' k=us t (k - 1)
theorem aca {t L:List Int} {n i:Nat} {mqn:Int} (ln:t.length=324) (hi:n≤160) (cn:t.g 322=(n:Int)) (h1:1≤i) (h2:i≤n) (hl:L.length=324) (lo:∀k,k<i*2→L.g k=t.g k) (up:∀k,(i+1)*2≤k→k<(n+1)*2→L.g k=t.g (k - 2)) (e:∀k,322≤k→L.g k=t.g k) (x:Int) (hx:x=us t (i - 1)):
 Ins t (((L.set (i*2) mqn).set (i*2+1) x).set 322 (((L.set (i*2) mqn).set (i*2+1) x).g 322+1)) n i mqn:=by
 have e2:((L.set (i*2) mqn).set (i*2+1) x).g 322=t.g 322:=by
  rw[bk o!,bk o!,e 322 o!]
 rw[e2]
 refine ⟨by simp only[List.length_set,hl],?_,?_,fun k hk=>?_,fun k hk=>?_,?_,?_,fun k a b=>?_,fun k a b=>?_⟩
 · rw[fk (by rw[List.length_set,List.length_set,hl];omega),cn]
 · rw[bk o!,bk o!,bk o!,e 323 o!]
 · rw[fr,fr,bk o!,bk o!,bk o!,lo _ o!]
 · rw[us,us,bk o!,bk o!,bk o!,lo _ o!]
 · rw[fr,bk o!,bk o!,fk (by rw[hl];omega)]
 · rw[us,bk o!,fk (by rw[List.length_set,hl];omega),hx]
 · rw[fr,fr,bk o!,bk o!,bk o!,up _ o! o!,show k*2 - 2=(k - 1)*2 by omega]
 · rw[us,us,bk o!,bk o!,bk o!,up _ o! o!,show k*2+1 - 2=(k - 1)*2+1 by omega]
theorem acb {mqn:Int} {t:List Int} {n:Nat} (h0:fr t 0=0) (hm:0≤mqn):∀(k:Nat) (v:Nat),v≤n→v≤k→(∀i j,i<j→j<n→fr t i<fr t j)→(∀j,v≤j→j<n→mqn≤fr t j)→∃i:Nat,aZ mqn t k (v:Int)=(i:Int)∧i≤n∧(∀j,i≤j→j<n→mqn≤fr t j)∧∀j,j<i→fr t j<mqn
 | 0,v,a,b,up,c=>⟨v,by rw[aZ],a,c,fun j h=>by omega⟩
 | k+1,v,a,b,up,c=>by
  rw[aZ]
  by_cases f0:0<v
  · rw[eV (by omega:(0:Int)<(v:Int)),ao,show ((v:Int) - 1)=((v - 1:Nat):Int) by omega,Int.toNat_natCast]
    by_cases f1:mqn≤fr t (v - 1)
    · rw[eV (show mqn≤t.g ((v - 1)*2) from f1),ao]
      exact acb h0 hm k (v - 1) o! o! up (fun j p q=>by
       by_cases e:j=v - 1
       · subst e;exact f1
       · exact c j o! q)
    · rw[fL (show ¬mqn≤t.g ((v - 1)*2) from f1),ai]
      exact ⟨v,rfl,a,c,fun j h=>by
       by_cases e:j=v - 1
       · subst e;omega
       · have:=up j (v - 1) o! o!;omega⟩
  · rw[fL (by omega:¬(0:Int)<(v:Int)),ai];exact ⟨v,rfl,a,c,fun j h=>by omega⟩
theorem aj8 {t:List Int} {n:Nat} (T:ng t n) (hn:n≤160) {mqn:Int} (hm:0≤mqn):∃i:Nat,(bN t mqn).1=(i:Int)∧(∀j,j<i→fr t j<mqn)∧(∀j,i≤j→j<n→mqn≤fr t j)∧((i<n∧fr t i=mqn∧(bN t mqn).2=t)∨(1≤i∧i≤n∧(i<n→mqn<fr t i)∧Ins t (bN t mqn).2 n i mqn)):=by
 obtain ⟨i,e,a,b,c⟩:=acb (mqn:=mqn) (t:=t) (n:=n) T.zero hm n n (jR _) (jR _) T.up (fun j p q=>by omega)
 refine ⟨i,?_⟩
 rw[bN,T.cn,Int.toNat_natCast,e,Int.toNat_natCast,show ((i:Int)+1)=((i+1:Nat):Int) by omega,show ((n:Int)+1)=((n+1:Nat):Int) by omega,Int.toNat_natCast,Int.toNat_natCast]
 have h1:fr t i≠mqn∨n≤i→1≤i:=fun h=>by
  rcases Nat.eq_zero_or_pos i with z | z
  · subst z
    rcases h with h | h
    · have:=b 0 o! T.lo;have:=T.zero;omega
    · have:=T.lo;omega
  · exact z
 have h3:1≤i→Int.toNat ((i:Int) - 1)=i - 1:=fun h=>by omega
 have h4:min (n - i) (n+1 -(i+1))=n - i:=by omega
 have hc:∀jd js q,(bG t jd js q).length=324:=fun jd js q=>by rw[dQ];exact T.len
 have hL:1≤i→i+1<161→Ins t ((((bG t ((i+1)*2) (i*2) ((n - i)*2)).set (i*2) mqn).set (i*2+1) ((bG t ((i+1)*2) (i*2) ((n - i)*2)).g ((i - 1)*2+1))).set 322 (((((bG t ((i+1)*2) (i*2) ((n - i)*2)).set (i*2) mqn).set (i*2+1) ((bG t ((i+1)*2) (i*2) ((n - i)*2)).g ((i - 1)*2+1))).g 322)+1)) n i mqn:=fun q r=>
  aca T.len hn T.cn q a (hc _ _ _) (fun k hk=>hI o!) (fun k p s=>by rw[ab9 (by rw[T.len];omega) (by rw[T.len];omega) p o!,show k -(i+1)*2+i*2=k - 2 by omega]) (fun k hk=>hI o!) _ (by rw[us,hI o!])
 by_cases f0:i<n
 · rw[eV (by omega:(i:Int)<(n:Int)),ao]
   by_cases f1:fr t i=mqn
   · rw[eV (show t.g (i*2)=mqn from f1),ao]
     exact ⟨rfl,c,b,.inl ⟨f0,f1,rfl⟩⟩
   · rw[fL (show ¬t.g (i*2)=mqn from f1),ai,eV (show i+1<161 by omega),ao,h4,h3 (h1 (.inl f1))]
     exact ⟨rfl,c,b,.inr ⟨h1 (.inl f1),a,fun q=>by have:=b i o! q;omega,hL (h1 (.inl f1)) o!⟩⟩
 · rw[fL (by omega:¬(i:Int)<(n:Int)),ai,ai]
   by_cases f1:i+1<161
   · rw[eV f1,ao,h4,h3 (h1 (.inr o!))]
     exact ⟨rfl,c,b,.inr ⟨h1 (.inr o!),a,fun q=>by omega,hL (h1 (.inr o!)) f1⟩⟩
   · rw[fL f1,ai,h3 (h1 (.inr o!))]
     have z:n - i=0:=by omega
     exact ⟨rfl,c,b,.inr ⟨h1 (.inr o!),a,fun q=>by omega,aca T.len hn T.cn (h1 (.inr o!)) a (hc _ _ _) (fun k hk=>hI o!) (fun k p s=>by omega) (fun k hk=>hI o!) _ (by rw[us,hI o!])⟩⟩
end
end Go.Proofs.aM
