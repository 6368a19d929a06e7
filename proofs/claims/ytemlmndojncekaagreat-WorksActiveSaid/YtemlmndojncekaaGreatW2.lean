import Derived.Test.YtemlmndojncekaaGreatW0
import Derived.Test.YtemlmndojncekaaGreatW1
namespace Go.Proofs.aQ
open Go.Proofs Ab
noncomputable section
set_option maxRecDepth 100000
set_option maxHeartbeats 4000000
set_option linter.unusedVariables false
set_option linter.unusedSimpArgs false
theorem mg {p:Prop} (h:p:=by first | omega | exact ro_.2.1 | (dsimp only;omega)):p:=h
theorem r5 {p:Prop} (h:p:=by first | assumption | exact ij ch o!):p:=h
def pG:Code:=(Tryz.f18.body).getD .skip
theorem Lt:Tryz.f18.body=some pG:=by kernel_rfl
def GG:Code:=(bw pG).getD 0 .skip
def GH:Code:=(bw pG).getD 1 .skip
def dr (j:cx) (i0:Nat):Nat→Int→List Int→List Int
 | 0,fY,cF=>cF
 | o8+1,fY,cF=>(bif (decide (fY<(((j.af.g i0).off.length:Nat):Int))) then dr j i0 o8 (fY+1) (eU cF ((j.af.g i0).off.g fY.toNat) (j.af.g i0).aJ) else cF)
theorem vh {d:Nat} {h:aC} (j:cx) (i0:Nat) (VJ:List AV) (Ze:List AV) (cU:Nat) (dt:Nat) (iJ:Nat) (iT:Nat) (ka:Nat) (ami:Nat) (eM:aW h j.ao j.af) (eR:aW h (j.af.g i0).dW (j.af.g i0).off) (ny:((j.af.g i0).name).length<2^60) (mZ:aR.ok h j) (Iy:aR.ok h (j.af.g i0)) (GI:i0<j.af.length) (pH:∀r,r<j.af.length→(j.af.g r).off.length≤16∧∀q,q<(j.af.g r).off.length→0≤((j.af.g r).off.g q).bq∧((j.af.g r).off.g q).ba≤100000) (qP:j.af.length≤16) (qQ:j.ab.length≤100000) (vG:VJ.length=0) (ch:Tidy h) (Lu:h.get iJ=none) (Q9:h.get iT=none) (zT:iT≠iJ):∀(k_:Nat) (fY:Int) (cF:List Int) (_:(((j.af.g i0).off.length:Nat):Int) - fY≤(k_:Int)) (_:(((0:Int)≤1)∧(0≤fY∧1≤(cF).g 322∧(cF).g 322≤1+2*fY∧(cF).g 0=0))) (x:Nat→AV) (hh:aC) (aI:Tidy hh) (aE:Has h hh) (gC:h.nx≤hh.nx) (rI:cF.length=324) (cO:hh.get iJ=some (aM.cells [(AV.str (j.af.g i0).name),(Zi (j.af.g i0).aJ),(j.af.g i0).dW] 37 false)) (dA:hh.get iT=some (aM.cells (VJ++zs .i64 cF++Ze) 128 false)),bS (σ:=List Int) (ρ:=Unit) (cN (d+2)) GH ⟨((x 0)::(x 1)::(Pt cU)::(Pt dt)::(x 4)::(Pt iJ)::(Pt iT)::rx x 7 13 (j.ao::(Zn j.af.length)::(Zn i0)::rx x 23 7 (((j.af.g i0).dW)::(Zn (j.af.g i0).off.length)::(Zi fY)::rx x 33 16 []))),hh,[],.no⟩ (.exit 2) hh (fun r z y=>((y 0)::(y 1)::(Pt cU)::(Pt dt)::(y 4)::(Pt iJ)::(Pt iT)::rx y 7 13 (j.ao::(Zn j.af.length)::(Zn i0)::rx y 23 7 (((j.af.g i0).dW)::(Zn (j.af.g i0).off.length)::rx y 32 17 [])))) (fun r z y=>((y 0)::(y 1)::(Pt cU)::(Pt dt)::(y 4)::(Pt iJ)::(Pt iT)::rx y 7 13 (j.ao::(Zn j.af.length)::(Zn i0)::rx y 23 7 (((j.af.g i0).dW)::(Zn (j.af.g i0).off.length)::rx y 32 17 [])))) (fun r z hk=>Has h hk∧hk.get iJ=some (aM.cells [(AV.str (j.af.g i0).name),(Zi (j.af.g i0).aJ),(j.af.g i0).dW] 37 false)∧hk.get iT=some (aM.cells (VJ++zs .i64 r++Ze) 128 false)∧r.length=324∧((0:Int)≤1)) (fun r z hk=>Has h hk) (Sum.inl (dr j i0 k_ fY cF))
 | 0,fY,cF,fX,fG,x,hh,aI,aE,gC,rI,cO,dA=>by
   have q1:(decide (fY<(((j.af.g i0).off.length:Nat):Int)))=false:=d!
   exact bS.out cF AV.undef rfl (pk (d+2) _ _ hh _ hh (VV (bL 3 false false .i64 fY (((j.af.g i0).off.length:Nat):Int))<|BB q1<|ZZ) k!) aI o! ⟨aE,cO,dA,l!,(show ((0:Int)≤1) from o!)⟩ k!
 | o8+1,fY,cF,fX,fG,x,hh,aI,aE,gC,rI,cO,dA=>by
   have qR:=eM.small
   have r7:=eR.small
   have Iz:=aI _ _ cO
   have Q_:=aI _ _ dA
   have rl_:=(pH i0 o!).1
   have ro_:=(pH i0 o!).2 fY.toNat
   have dJ:=fun {al ps} (k:Pk al _ ps)=>(VV (bL 3 false false .i64 fY (((j.af.g i0).off.length:Nat):Int))<|k:Pk _ [] ps)
   rcases Bool.eq_false_or_eq_true (decide (fY<(((j.af.g i0).off.length:Nat):Int))) with f0 | f0
   · have jf:=of_decide_eq_true f0
     obtain ⟨p3,q4,cC⟩:=eR.elem (i:=fY.toNat) o!
     have iW:bO env (some (.slice 72)) (some (j.af.g i0).dW) (some (Zi fY))=some (AV.ptr p3 q4):=by rw[show (fY:Int)=((fY.toNat:Nat):Int) by omega];exact cC
     have jY:bh env hh 72 (AV.ptr p3 q4)=some (AV.agg [(Zi ((j.af.g i0).off.g fY.toNat).bq),(Zi ((j.af.g i0).off.g fY.toNat).ba)]):=(eR.has aE).load o! cC
     obtain ⟨h6,mK,ji,zU,mL,bU⟩:=jE aI (aM.cells [(Zi 0),(Zi 0)] 72 false)
     have hZ:Has h h6:=aE.trans bU
     obtain ⟨h7,l7,eP,vH,fH,bp⟩:=n5 (t:=72) (n:=2) (i:=hh.nx) (L:=[(Zi ((j.af.g i0).off.g fY.toNat).bq),(Zi ((j.af.g i0).off.g fY.toNat).ba)]) ji mL k! rfl rfl (by simp only[AV.cells,List.all_cons,List.all_nil,Bool.and_true,Bool.and_self,gr,eO,gu,gv,dG,jK,jL,jM,jN,jO,gz])
     have dm:Has h h7:=Has.dg hZ bp ch o!
     obtain ⟨Zf,GJ,Q',zV,zW,kJ⟩:=dz eP (bp _ _ o! (bU _ _ dA))
     have TM:Has h Zf:=bG dm r5 kJ
     obtain ⟨h9,Zg,uq,VG,wK,Lv,Q7⟩:=TI (d:=d) (h:=Zf) (tO:=0) cF ((j.af.g i0).off.g fY.toNat) (j.af.g i0).aJ trivial (bp _ _ o! (bU _ _ dA)) o! l! zV mg mg mg mg mg GJ eP zW o!
     have an0:=Bq cF ((j.af.g i0).off.g fY.toNat) (j.af.g i0).aJ (by first | omega | exact uv _) (by first | omega | exact (ut_ o! o!).1) (by first | omega | exact (ut_ o! o!).2.1) (by first | omega | exact (ut_ o! o!).2.2) (by first | omega | (dsimp only;omega)) (by first | omega | (dsimp only;omega))
     have mJ:Has h h9:=(TM.trans wK)
     have w10:IntKind.i64.wrap (fY+1)=fY+1:=wrap_i64 o! o!
     exact bS.round (congrArg Sum.inl (by simp only[dr,f0,aj,ai])) (pk (d+2) _ _ hh _ h9 (dJ<|BV f0 iW<|MM jY<|NN mK (fun i=>(Pt i))<|SS l7<|MM (aO 72 0 (AV.agg [(Zi ((j.af.g i0).off.g fY.toNat).bq),(Zi ((j.af.g i0).off.g fY.toNat).ba)]) fH k!)<|CC<|MM (aO 3 1 (Zi (j.af.g i0).aJ) (bp _ _ o! (bU _ _ cO)) k!)<|EE Zg<|VV (qG 3 false true w10)<|CC<|ZZ) k!) o! _ k! (fun x=>vh j i0 VJ Ze cU dt iJ iT ka ami eM eR ny mZ Iy GI pH qP qQ vG ch Lu Q9 zT o8 (fY+1) (eU cF ((j.af.g i0).off.g fY.toNat) (j.af.g i0).aJ) o! (show (((0:Int)≤1)∧(0≤(fY+1)∧1≤((eU cF ((j.af.g i0).off.g fY.toNat) (j.af.g i0).aJ)).g 322∧((eU cF ((j.af.g i0).off.g fY.toNat) (j.af.g i0).aJ)).g 322≤1+2*(fY+1)∧((eU cF ((j.af.g i0).off.g fY.toNat) (j.af.g i0).aJ)).g 0=0)) from o!) x h9 uq mJ o! l! (wK _ _ ((kJ _ o!).trans (bp _ _ o! (bU _ _ cO)))) Lv)
   · exact bS.out cF AV.undef (congrArg Sum.inl (by simp only[dr,f0,aj,ai])) (pk (d+2) _ _ hh _ hh (dJ<|BB f0<|ZZ) k!) aI o! ⟨aE,cO,dA,l!,(show ((0:Int)≤1) from o!)⟩ k!
def cP (j:cx):Nat→Nat→List Tl→List Bool→List Int→List Tl×List Bool×List Int
 | 0,_,Ey,bj,dh=>(Ey,bj,dh)
 | dq+1,i0,Ey,bj,dh=>cP j dq (i0+1) (Ey++[⟨(dr j i0 ((((j.af.g i0).off.length:Nat):Int) - 0).toNat 0 (cI (j.af.g i0).aJ))⟩]) bj dh
theorem vi {d:Nat} {h:aC} {gg0:aC} (j:cx) (bk:Nat) (cG:Nat) (gS:Nat) (jj:Nat) (bx:aW h j.ao j.af) (cZ:aW h j.aw j.ab) (g5:aR.ok h j) (hF:∀r,r<j.af.length→(j.af.g r).off.length≤16∧∀q,q<(j.af.g r).off.length→0≤((j.af.g r).off.g q).bq∧((j.af.g r).off.g q).ba≤100000) (je:j.af.length≤16) (mI:j.ab.length≤100000) (ch:Tidy h) (uo:h.nx≤bk) (GK:h.nx≤cG) (Ra:h.nx≤gS) (Zh:h.nx≤jj) (qS:cG≠bk) (zX:gS≠bk) (zY:gS≠cG) (GM:jj≠bk) (GN:jj≠cG) (GO:jj≠gS) (NG0:h.nx≤gg0.nx) (Oz:bk<gg0.nx) (Zj:cG<gg0.nx) (ajC:gS<gg0.nx) (ajD:jj<gg0.nx):∀(k_ i_:Nat) (Ey:List Tl) (bj:List Bool) (dh:List Int) (z0:AV) (_:i_+k_=j.af.length) (x:Nat→AV) (hh:aC) (aI:Tidy hh) (aE:Has h hh) (gC:h.nx≤hh.nx) (jh:bj.length=j.ab.length) (wM:dh.length=j.ab.length) (br:hh.get bk=some (aM.cells [AV.aG,AV.aG,AV.aG,AV.aG,AV.aG] 78 false)) (dK:hh.get cG=some (aM.cells [j.aw,j.ao,(AV.slice gS 0 j.ab.length j.ab.length false),(AV.slice jj 0 j.ab.length j.ab.length false),z0] 78 false)) (kA:hh.get gS=some (aM.cells (bs bj) 4 false)) (mh:hh.get jj=some (aM.cells (zs .i64 dh) 3 false)) (TN:nv gg0 hh z0 Ey) (lz0:Ey.length≤i_) (D4:gg0.nx≤hh.nx),bS (σ:=List Tl×List Bool×List Int) (ρ:=Unit) (cN (d+2)) GG ⟨((x 0)::(x 1)::(Pt bk)::(Pt cG)::rx x 4 16 (j.ao::(Zn j.af.length)::(Zn i_)::rx x 23 26 [])),hh,[],.no⟩ (.exit 0) hh (fun r z y=>((y 0)::(y 1)::(Pt bk)::(Pt cG)::rx y 4 16 (j.ao::(Zn j.af.length)::rx y 22 27 []))) (fun r z y=>((y 0)::(y 1)::(Pt bk)::(Pt cG)::rx y 4 16 (j.ao::(Zn j.af.length)::rx y 22 27 []))) (fun r z hk=>Has h hk∧hk.get bk=some (aM.cells [AV.aG,AV.aG,AV.aG,AV.aG,AV.aG] 78 false)∧hk.get cG=some (aM.cells [j.aw,j.ao,(AV.slice gS 0 j.ab.length j.ab.length false),(AV.slice jj 0 j.ab.length j.ab.length false),z] 78 false)∧hk.get gS=some (aM.cells (bs r.2.1) 4 false)∧hk.get jj=some (aM.cells (zs .i64 r.2.2) 3 false)∧r.2.1.length=j.ab.length∧r.2.2.length=j.ab.length∧nv gg0 hk z r.1∧r.1.length≤j.af.length) (fun r z hk=>Has h hk) (Sum.inl (cP j k_ i_ Ey bj dh))
 | 0,i0,Ey,bj,dh,z0,fX,x,hh,aI,aE,gC,jh,wM,br,dK,kA,mh,TN,lz0,D4=>by
   have q1:(decide (((i0:Nat):Int)<((j.af.length:Nat):Int)))=false:=d!
   exact bS.out (Ey,bj,dh) z0 rfl (pk (d+2) _ _ hh _ hh (VV (bL 3 false false .i64 ((i0:Nat):Int) ((j.af.length:Nat):Int))<|BB q1<|ZZ) k!) aI o! ⟨aE,br,dK,kA,mh,l!,l!,TN,(by first | omega | (simp<;>omega))⟩ k!
 | dq+1,i0,Ey,bj,dh,z0,fX,x,hh,aI,aE,gC,jh,wM,br,dK,kA,mh,TN,lz0,D4=>by
   have gT:=bx.small
   have nz:=cZ.small
   have sU:=aI _ _ br
   have Lw:=aI _ _ dK
   have Zk:=aI _ _ kA
   have ac9:=aI _ _ mh
   have ro_:=hF i0
   have q1:(decide (((i0:Nat):Int)<((j.af.length:Nat):Int)))=true:=d!
   obtain ⟨p3,q4,cC⟩:=bx.elem (i:=i0) o!
   have iW:bO env (some (.slice 37)) (some j.ao) (some (Zn i0))=some (AV.ptr p3 q4):=cC
   have jY:bh env hh 37 (AV.ptr p3 q4)=some (AV.agg [(AV.str (j.af.g i0).name),(Zi (j.af.g i0).aJ),(j.af.g i0).dW]):=(bx.has aE).load o! cC
   obtain ⟨h6,mK,ji,zU,mL,bU⟩:=jE aI (aM.cells [(AV.str []),(Zi 0),AV.aG] 37 false)
   have hZ:Has h h6:=aE.trans bU
   have ada:Has hh h6:=bU
   have Lx:AV.scalar (j.af.g i0).dW=true:=((bx.ok (i:=i0) o!).2).scalar
   obtain ⟨h7,l7,eP,vH,fH,bp⟩:=n5 (t:=37) (n:=3) (i:=hh.nx) (L:=[(AV.str (j.af.g i0).name),(Zi (j.af.g i0).aJ),(j.af.g i0).dW]) ji mL k! rfl rfl (by simp only[AV.cells,List.all_cons,List.all_nil,Bool.and_true,Bool.and_self,gr,eO,gu,gv,dG,jK,jL,jM,jN,jO,gz,Lx])
   have dm:Has h h7:=Has.dg hZ bp ch o!
   have adb:Has hh h7:=Has.dg ada bp aI o!
   have an1:=yY (j.af.g i0).aJ
   have k9:=Ln (d:=d+1) (j.af.g i0).aJ eP
   obtain ⟨sX,OA,mi,Zl,D5,nA⟩:=jE eP (aM.cells (zs .i64 (List.replicate 324 0)) 128 false)
   have jZ:Has h sX:=dm.trans nA
   have Zm:Has hh sX:=adb.trans nA
   obtain ⟨VJ,Ze,m4,OC,h_,aeO,amj⟩:=Q8 (t:=128) (b:=h7.nx) (L:=(cI (j.af.g i0).aJ)) mi k! D5 (by first | rfl | (rw[fO];first | omega | (simp only[List.length_set,List.length_replicate,yk]<;>omega))) l!
   have mj:=h_.1
   have wN:Has h m4:=h_.has jZ ch o!
   have Zo:Has hh m4:=h_.has Zm aI o!
   have GP:cb (some (.slice 72)) (some (j.af.g i0).dW)=some (Zn (j.af.g i0).off.length):=((bx.ok (i:=i0) o!).2).len
   obtain ⟨ajE,agv,ak3,ade,adf,rJ⟩:=dz mj (h_.2.2 _ _ o! (nA _ _ fH))
   have VK:Has h ajE:=bG wN r5 rJ
   have Rb:Has hh ajE:=bG Zo (by first | assumption | exact ij aI o!) rJ
   obtain ⟨OD,GQ,TO,E6,Br,ik⟩:=dz agv ((rJ _ o!).trans h_.2.1)
   have aiu:OD.get hh.nx=none:=(ik _ o!).trans ade
   have sY:Has h OD:=bG VK r5 ik
   have Rc:Has hh OD:=bG Rb (by first | assumption | exact ij aI o!) ik
   obtain ⟨VL,amk,Ly,Lz,vj,ajF,zZ,ak4,adg,ak5,ajG⟩:=bS.n rfl (vh (d:=d) (h:=OD) j i0 VJ Ze bk cG hh.nx h7.nx gS jj (bx.has sY) ((bx.ok (i:=i0) o!).2.has sY) (bx.ok (i:=i0) o!).1 (aR.mono sY g5) (aR.mono sY (bx.ok (i:=i0) o!)) o! (by assumption) o! o! o! GQ (by assumption) (by assumption) o! ((((j.af.g i0).off.length:Nat):Int) - 0).toNat 0 (cI (j.af.g i0).aJ) o! (show (((0:Int)≤1)∧(0≤0∧1≤((cI (j.af.g i0).aJ)).g 322∧((cI (j.af.g i0).aJ)).g 322≤1+2*0∧((cI (j.af.g i0).aJ)).g 0=0)) from o!) (fun k_=>(((x 0)::(x 1)::(Pt bk)::(Pt cG)::(x 4)::(Pt hh.nx)::(Pt h7.nx)::rx x 7 13 (j.ao::(Zn j.af.length)::(Zn i0)::(AV.bool (decide (((i0:Nat):Int)<((j.af.length:Nat):Int))))::(AV.ptr p3 q4)::(AV.agg [(AV.str (j.af.g i0).name),(Zi (j.af.g i0).aJ),(j.af.g i0).dW])::(AV.ptr hh.nx 1)::(Zi (j.af.g i0).aJ)::(AV.agg (zs .i64 (cI (j.af.g i0).aJ)))::(AV.ptr hh.nx 2)::((j.af.g i0).dW)::(Zn (j.af.g i0).off.length)::(Zi 0)::rx x 33 16 [])):List AV).getD k_ AV.undef) m4 mj (Br.trans adf) o! l! (h_.2.2 _ _ o! (nA _ _ fH)) h_.2.1)
   have D6:Has h Ly:=(sY.trans zZ)
   have Zp:Has hh Ly:=(Rc.trans zZ)
   have Bs:bh env Ly 128 (Pt h7.nx)=some (AV.agg (zs .i64 (dr j i0 ((((j.af.g i0).off.length:Nat):Int) - 0).toNat 0 (cI (j.af.g i0).aJ)))):=VI k! k! adg o! l!
   obtain ⟨W0,ajH,JM,an2,ajI,JN⟩:=jE vj (aM.cells (zs .i64 (dr j i0 ((((j.af.g i0).off.length:Nat):Int) - 0).toNat 0 (cI (j.af.g i0).aJ))) 128 false)
   have JO:Has h W0:=D6.trans JN
   have Zq:Has hh W0:=Zp.trans JN
   obtain ⟨z22,JP,agw,D7,aeP,OE,ajJ⟩:=nv.ac1 (g:=gg0) (tys:= #[76,76]) (t:=(dr j i0 ((((j.af.g i0).off.length:Nat):Int) - 0).toNat 0 (cI (j.af.g i0).aJ))) (L:=Ey) (z:=z0) (op:=false) JM o! (nv.has TN Zq) ajI l! o! rfl rfl k! k! (bytes:=2592) k! (z0:=AV.agg (zs .i64 (List.replicate 324 0))) k! rfl (by decide)
   have vk:Has h JP:=Has.Q4 JO ch o! OE
   obtain ⟨h24,ajK,ajL,an3,ajM,GR⟩:=al8 (t:=76) (i:=cG) (o:=4) (v:=z22) (N:=[j.aw,j.ao,(AV.slice gS 0 j.ab.length j.ab.length false),(AV.slice jj 0 j.ab.length j.ab.length false),z22]) D7 (OE _ _ o! (JN _ _ (zZ _ _ ((ik _ o!).trans ((rJ _ o!).trans (h_.2.2 _ _ o! (nA _ _ (bp _ _ o! (bU _ _ dK))))))))) k! (nv.scalar ajJ) k! k!
   have ajN:Has h h24:=Has.dg vk GR ch o!
   have u26:=fi 3 false true i0 1 o!
   exact bS.round (congrArg Sum.inl (by simp only[cP,aj,ai])) (pk (d+2) _ _ hh _ h24 (VV (bL 3 false false .i64 ((i0:Nat):Int) ((j.af.length:Nat):Int))<|BV q1 iW<|MM jY<|NN mK (fun i=>(Pt i))<|SS l7<|CC<|MM (aO 3 1 (Zi (j.af.g i0).aJ) fH k!)<|EE k9<|NN OA (fun i=>(Pt i))<|SS OC<|CC<|MM (aO 35 2 (j.af.g i0).dW (h_.2.2 _ _ o! (nA _ _ fH)) k!)<|VV GP<|CC<|LL Lz<|CC<|MM (aO 76 4 z0 (zZ _ _ ((ik _ o!).trans ((rJ _ o!).trans (h_.2.2 _ _ o! (nA _ _ (bp _ _ o! (bU _ _ dK))))))) k!)<|MM Bs<|AA (.a (aM.cells (zs .i64 (dr j i0 ((((j.af.g i0).off.length:Nat):Int) - 0).toNat 0 (cI (j.af.g i0).aJ))) 128 false) (AV.slice Ly.nx 0 1 1 false) W0)<|HH ajH<|HH (show ∃mk:Nat→AV,bsl 128 (dr j i0 ((((j.af.g i0).off.length:Nat):Int) - 0).toNat 0 (cI (j.af.g i0).aJ))=some (aM.cells (zs .i64 (dr j i0 ((((j.af.g i0).off.length:Nat):Int) - 0).toNat 0 (cI (j.af.g i0).aJ))) 128 false,mk)∧mk Ly.nx=(AV.slice Ly.nx 0 1 1 false) from ⟨_,agt l!,rfl⟩)<|PP (show du env W0 #[76,76] z0 (AV.slice Ly.nx 0 1 1 false)=some (z22,JP) from agw)<|CC<|SS ajK<|VV u26<|CC<|ZZ) k!) o! _ k! (fun x=>vi j bk cG gS jj bx cZ g5 hF je mI ch uo GK Ra Zh qS zX zY GM GN GO NG0 Oz Zj ajC ajD dq (i0+1) (Ey++[⟨(dr j i0 ((((j.af.g i0).off.length:Nat):Int) - 0).toNat 0 (cI (j.af.g i0).aJ))⟩]) bj dh z22 o! x h24 ajL ajN o! l! l! (GR _ _ o! (OE _ _ o! (JN _ _ (zZ _ _ ((ik _ o!).trans ((rJ _ o!).trans (h_.2.2 _ _ o! (nA _ _ (bp _ _ o! (bU _ _ br)))))))))) ajM (GR _ _ o! (OE _ _ o! (JN _ _ (zZ _ _ ((ik _ o!).trans ((rJ _ o!).trans (h_.2.2 _ _ o! (nA _ _ (bp _ _ o! (bU _ _ kA)))))))))) (GR _ _ o! (OE _ _ o! (JN _ _ (zZ _ _ ((ik _ o!).trans ((rJ _ o!).trans (h_.2.2 _ _ o! (nA _ _ (bp _ _ o! (bU _ _ mh)))))))))) (nv.kept ajJ GR o!) (by first | omega | (simp<;>omega)) o!)
def aK (j:cx):List Tl×List Bool×List Int:=((cP j j.af.length 0 ([]) (List.replicate j.ab.length false) (List.replicate j.ab.length 0)).1,(cP j j.af.length 0 ([]) (List.replicate j.ab.length false) (List.replicate j.ab.length 0)).2.1,(cP j j.af.length 0 ([]) (List.replicate j.ab.length false) (List.replicate j.ab.length 0)).2.2)
theorem p_ {d:Nat} {h:aC} (j:cx) (bV:aR.ok h j) (l6:∀r,r<j.af.length→(j.af.g r).off.length≤16∧∀q,q<(j.af.g r).off.length→0≤((j.af.g r).off.g q).bq∧((j.af.g r).off.g q).ba≤100000) (om:j.af.length≤16) (yD:j.ab.length≤100000) (ch:Tidy h):∃p s z g hk,cN (d+3) (.fn 18) [(AV.agg [j.aw,j.ao])] h= .ret (.agg [j.aw,j.ao,.slice p 0 j.ab.length j.ab.length false,.slice s 0 j.ab.length j.ab.length false,z]) hk∧bE h hk∧hk.get p=some (aM.cells (bs (aK j).2.1) 4 false)∧hk.get s=some (aM.cells (zs .i64 (aK j).2.2) 3 false)∧nv g hk z (aK j).1∧(aK j).2.1.length=j.ab.length∧(aK j).2.2.length=j.ab.length∧h.nx≤p∧h.nx≤s∧p≠s∧p<g.nx∧s<g.nx∧h.nx≤g.nx:=by
 obtain ⟨h1,di,cS,jU,bm,bP⟩:=jE ch (aM.cells [j.aw,j.ao] 25 false)
 have bA:Has h h1:=bP
 obtain ⟨h2,Rd,yC,ac3,pX,r_⟩:=jE cS (aM.cells [AV.aG,AV.aG,AV.aG,AV.aG,AV.aG] 78 false)
 have kT:Has h h2:=bA.trans r_
 have MU:cb (some (.slice 40)) (some j.aw)=some (Zn j.ab.length):=bV.1.len
 have mk4:yV env (some (.slice 4)) (some (Zn j.ab.length)) (some (Zn j.ab.length))=some (aM.cells (bT [(AV.bool false)] j.ab.length) 4 false,fun i=>AV.slice i 0 j.ab.length j.ab.length false):=od (bytes:=1) (z:=(AV.bool false)) k! k! k! rfl (by decide) o!
 obtain ⟨h5,aml,pZ,ago,OF,Re⟩:=jE yC (aM.cells (bT [(AV.bool false)] j.ab.length) 4 false)
 have hG:Has h h5:=kT.trans Re
 have aeQ:h5.get h2.nx=some (aM.cells (bs (List.replicate j.ab.length false)) 4 false):=by have q:=OF;rw[zO] at q;exact q
 have TP:cb (some (.slice 40)) (some j.aw)=some (Zn j.ab.length):=bV.1.len
 have mk7:yV env (some (.slice 3)) (some (Zn j.ab.length)) (some (Zn j.ab.length))=some (aM.cells (bT [(Zi 0)] j.ab.length) 3 false,fun i=>AV.slice i 0 j.ab.length j.ab.length false):=od (bytes:=8) (z:=(Zi 0)) k! k! k! rfl (by decide) o!
 obtain ⟨h8,agx,sa,agy,lg,C5⟩:=jE pZ (aM.cells (bT [(Zi 0)] j.ab.length) 3 false)
 have o9:Has h h8:=hG.trans C5
 have aeR:h8.get h5.nx=some (aM.cells (zs .i64 (List.replicate j.ab.length 0)) 3 false):=by have q:=lg;rw[Lj] at q;exact q
 obtain ⟨h9,agz,uq,ajO,adh,Bt⟩:=jE sa (aM.cells [AV.aG,AV.aG,AV.aG,AV.aG,AV.aG] 78 false)
 have mJ:Has h h9:=o9.trans Bt
 have ajP:AV.scalar j.aw=true:=bV.1.scalar
 have ajQ:AV.scalar j.ao=true:=bV.2.scalar
 obtain ⟨sX,ajR,mi,Zl,D5,GS⟩:=n5 (t:=78) (n:=5) (i:=h8.nx) (L:=[j.aw,j.ao,(AV.slice h2.nx 0 j.ab.length j.ab.length false),(AV.slice h5.nx 0 j.ab.length j.ab.length false),AV.aG]) uq adh k! rfl rfl (by simp only[AV.cells,List.all_cons,List.all_nil,Bool.and_true,Bool.and_self,gr,eO,gu,gv,dG,jK,jL,jM,jN,jO,gz,ajP,ajQ])
 have jZ:Has h sX:=Has.dg mJ GS ch o!
 have VM:AV.same 20 (AV.agg [j.aw,j.ao]) (AV.agg [j.aw,j.ao])=true:=hT 18 (rH bV.1.same (rH bV.2.same P6))
 have W1:AV.same 20 j.aw j.aw=true:=bV.1.same 19
 have Zr:cb (some (.slice 37)) (some j.ao)=some (Zn j.af.length):=bV.2.len
 obtain ⟨VL,ajS,h17,Bu,JQ,aeS,agA,adi,adj,adk,adl,ak6,ak7,TQ,ak8⟩:=bS.n rfl (vi (d:=d) (h:=h) (gg0:=sX) j h1.nx h8.nx h2.nx h5.nx bV.2 bV.1 bV (by assumption) o! o! ch o! o! o! o! o! o! o! o! o! o! o! o! o! o! o! j.af.length 0 ([]) (List.replicate j.ab.length false) (List.replicate j.ab.length 0) AV.aG o! (fun k_=>(((AV.agg [j.aw,j.ao])::(Pt h.nx)::(Pt h1.nx)::(Pt h8.nx)::AV.undef::AV.undef::AV.undef::AV.undef::AV.undef::(AV.agg [j.aw,j.ao])::(Pt h.nx)::j.aw::(Zn j.ab.length)::(AV.slice h2.nx 0 j.ab.length j.ab.length false)::(Pt h.nx)::j.aw::(Zn j.ab.length)::(AV.slice h5.nx 0 j.ab.length j.ab.length false)::(AV.agg [j.aw,j.ao,(AV.slice h2.nx 0 j.ab.length j.ab.length false),(AV.slice h5.nx 0 j.ab.length j.ab.length false),AV.aG])::(AV.ptr h.nx 1)::j.ao::(Zn j.af.length)::(Zi 0)::jX 26):List AV).getD k_ AV.undef) sX mi jZ o! l! l! (GS _ _ o! (Bt _ _ (C5 _ _ (Re _ _ pX)))) D5 (GS _ _ o! (Bt _ _ (C5 _ _ aeQ))) (GS _ _ o! (Bt _ _ aeR)) (.inl ⟨rfl,rfl⟩) (Nat.zero_le _) o!)
 have JR:Has h h17:=agA
 have amm:AV.scalar VL=true:=(nv.scalar TQ)
 obtain ⟨C3,Oq,sS,aeN,ajT,LA⟩:=n5 (t:=78) (n:=5) (i:=h1.nx) (L:=[j.aw,j.ao,(AV.slice h2.nx 0 j.ab.length j.ab.length false),(AV.slice h5.nx 0 j.ab.length j.ab.length false),VL]) JQ adi k! rfl rfl (by simp only[AV.cells,List.all_cons,List.all_nil,Bool.and_true,Bool.and_self,gr,eO,gu,gv,dG,jK,jL,jM,jN,jO,gz,ajP,ajQ,amm])
 have nu:Has h C3:=Has.dg JR LA ch o!
 have e:aK j=((cP j j.af.length 0 ([]) (List.replicate j.ab.length false) (List.replicate j.ab.length 0)).1,(cP j j.af.length 0 ([]) (List.replicate j.ab.length false) (List.replicate j.ab.length 0)).2.1,(cP j j.af.length 0 ([]) (List.replicate j.ab.length false) (List.replicate j.ab.length 0)).2.2):=by simp only[aK,aj,ai]
 rw[e]
 exact ⟨h2.nx,h5.nx,VL,sX,gA rfl (D0 (a:=2) (t:=78) (i:=h1.nx) Tryz.func18 Lt rfl (.inr rfl) (pk (d+2) _ _ h _ C3 (NN di (fun i=>(Pt i))<|NN Rd (fun i=>(Pt i))<|MM (aO 25 0 (AV.agg [j.aw,j.ao]) (r_ _ _ bm) k!)<|CC<|MM (aO 22 0 j.aw (r_ _ _ bm) k!)<|VV MU<|KK mk4 aml<|CC<|MM (aO 22 0 j.aw (Re _ _ (r_ _ _ bm)) k!)<|VV TP<|KK mk7 agx<|CC<|NN agz (fun i=>(Pt i))<|SS ajR<|HH (aO 25 0 (AV.agg [j.aw,j.ao]) (Bt _ _ (C5 _ _ (Re _ _ (r_ _ _ bm)))) k!)<|HH VM<|HH (aO 22 0 j.aw (Bt _ _ (C5 _ _ (Re _ _ (r_ _ _ bm)))) k!)<|HH W1<|HH (show ∃o,h9.get h2.nx=some o∧aM.same o (aM.cells (bT [(AV.bool false)] j.ab.length) 4 false)=true from ⟨_,(Bt _ _ (C5 _ _ aeQ)),(by rw[←zO];exact JJ _ rfl _ _ _)⟩)<|HH (aO 22 0 j.aw (Bt _ _ (C5 _ _ (Re _ _ (r_ _ _ bm)))) k!)<|HH W1<|HH (show ∃o,h9.get h5.nx=some o∧aM.same o (aM.cells (bT [(Zi 0)] j.ab.length) 3 false)=true from ⟨_,(Bt _ _ aeR),(by rw[←Lj];exact JJ _ (aS 19 _ _) _ _ _)⟩)<|HH (show ∃o,h9.get h8.nx=some o∧aM.same o (aM.cells [AV.aG,AV.aG,AV.aG,AV.aG,AV.aG] 78 false)=true from ⟨_,adh,by simp [aM.same,eD,AV.same]⟩)<|HH (show nodup [h2.nx,h5.nx,h8.nx]=true from (by simp [nodup];omega))<|CC<|MM (aO 23 1 j.ao (GS _ _ o! (Bt _ _ (C5 _ _ (Re _ _ (r_ _ _ bm))))) k!)<|VV Zr<|CC<|LL Bu<|MM (aO 78 0 (AV.agg [j.aw,j.ao,(AV.slice h2.nx 0 j.ab.length j.ab.length false),(AV.slice h5.nx 0 j.ab.length j.ab.length false),VL]) adj k!)<|SS Oq<|ZZ) k!) k! (Gs ajT k!)) ch ⟨sS,nu,by omega⟩ (P:=fun hh=>hh.get h2.nx=some (aM.cells (bs (cP j j.af.length 0 ([]) (List.replicate j.ab.length false) (List.replicate j.ab.length 0)).2.1) 4 false)∧hh.get h5.nx=some (aM.cells (zs .i64 (cP j j.af.length 0 ([]) (List.replicate j.ab.length false) (List.replicate j.ab.length 0)).2.2) 3 false)∧nv sX hh VL ((cP j j.af.length 0 ([]) (List.replicate j.ab.length false) (List.replicate j.ab.length 0)).1)∧((cP j j.af.length 0 ([]) (List.replicate j.ab.length false) (List.replicate j.ab.length 0)).2.1).length=j.ab.length∧((cP j j.af.length 0 ([]) (List.replicate j.ab.length false) (List.replicate j.ab.length 0)).2.2).length=j.ab.length∧h.nx≤h2.nx∧h.nx≤h5.nx∧h2.nx≠h5.nx∧h2.nx<sX.nx∧h5.nx<sX.nx∧h.nx≤sX.nx) ⟨(LA _ _ o! adk),(LA _ _ o! adl),(nv.kept TQ LA o!),l!,l!,by omega,by omega,by omega,by omega,by omega,by omega⟩ fun v=>(yj (Oy v) o!).elim⟩
theorem wQ {p:Prop} (h:p:=by first | omega | exact (ut_ o! o!).1 | exact (ut_ o! o!).2.1 | exact (ut_ o! o!).2.2 | (dsimp only;omega)):p:=h
theorem Bv {p:Prop} (h:p:=by first | omega | exact ⟨by omega,by omega,Zd pF pY fG.2.1 o! fG.2.2⟩):p:=h
theorem sZ {p:Prop} (h:p:=by first | assumption | exact ij ch o!):p:=h
def GU:Code:=(Tryz.f60.body).getD .skip
theorem adm:Tryz.f60.body=some GU:=by kernel_rfl
def VN:Code:=(bw GU).getD 0 .skip
def jP (j:cx) (tqk:Int) (g6:Int):Nat→Int→List Bool→List Int→List Tl→List Bool×List Int×List Tl
 | 0,dp,bj,dh,gD=>(bj,dh,gD)
 | dq+1,dp,bj,dh,gD=>(bif (decide (dp<(((j.ab.g tqk.toNat).aA.length:Nat):Int))) then jP j tqk g6 dq (dp+1) bj dh (gD.set ((j.ab.g tqk.toNat).aA.g dp.toNat).ah.toNat ⟨(eU (fit (gD.g ((j.ab.g tqk.toNat).aA.g dp.toNat).ah.toNat).l) (⟨g6,((g6+((j.ab.g tqk.toNat).takes)) - 1)⟩:Span) ((j.ab.g tqk.toNat).aA.g dp.toNat).aJ)⟩) else (bj,dh,gD))
theorem GV {d:Nat} {h:aC} (g6:Int) (j:cx) (tqk:Int) (pqN:Nat) (sqN:Nat) (tqN:Nat) (tqF:Bool) (az:List Bool) (au:List Int) (aX:List Tl) (bk:Nat) (cG:Nat) (gS:Nat) (jj:Nat) (sc:Nat) (bx:aW h (j.ab.g tqk.toNat).a_ (j.ab.g tqk.toNat).aA) (cZ:aW h j.aw j.ab) (fj:aW h j.ao j.af) (m5:((j.ab.g tqk.toNat).name).length<2^60) (z5:b8 h .i64 3 (j.ab.g tqk.toNat).aU (j.ab.g tqk.toNat).aB) (g5:aR.ok h j) (GW:aR.ok h (j.ab.g tqk.toNat)) (hF:0≤tqk) (je:tqk<(j.ab.length:Int)) (mI:az.length=j.ab.length) (nq:au.length=j.ab.length) (pF:∀q,q<(j.ab.g tqk.toNat).aA.length→0≤((j.ab.g tqk.toNat).aA.g q).ah∧((j.ab.g tqk.toNat).aA.g q).ah<(aX.length:Int)) (pY:∀a,a<(j.ab.g tqk.toNat).aA.length→∀b,a<b→b<(j.ab.g tqk.toNat).aA.length→((j.ab.g tqk.toNat).aA.g a).ah≠((j.ab.g tqk.toNat).aA.g b).ah) (z6:0≤g6) (C6:g6+(j.ab.g tqk.toNat).takes≤100000) (Ez:0≤(j.ab.g tqk.toNat).takes) (IA:∀q,q<(j.ab.g tqk.toNat).aA.length→rp 159 (aX.g (Int.toNat ((j.ab.g tqk.toNat).aA.g q).ah))) (yZ:tqN=aX.length) (ch:Tidy h) (uo:h.nx≤bk) (GK:h.nx≤cG) (Ra:h.get gS=none) (Zh:h.get jj=none) (amn:h.get sc=none) (qS:cG≠bk) (zX:gS≠bk) (zY:gS≠cG) (GM:jj≠bk) (GN:jj≠cG) (GO:jj≠gS) (agB:sc≠bk) (agC:sc≠cG) (agD:sc≠gS) (agE:sc≠jj):∀(k_:Nat) (dp:Int) (bj:List Bool) (dh:List Int) (gD:List Tl) (_:(((j.ab.g tqk.toNat).aA.length:Nat):Int) - dp≤(k_:Int)) (_:(((0:Int)≤1)∧(0≤dp∧∀q:Nat,dp≤(q:Int)→q<(j.ab.g tqk.toNat).aA.length→rp 159 ((gD).g (Int.toNat ((j.ab.g tqk.toNat).aA.g q).ah))))) (x:Nat→AV) (hh:aC) (aI:Tidy hh) (aE:Has h hh) (gC:h.nx≤hh.nx) (jh:bj.length=pqN) (wM:dh.length=sqN) (OG:gD.length=tqN) (br:hh.get bk=some (aM.cells [j.aw,j.ao,(AV.slice gS 0 pqN pqN false),(AV.slice jj 0 sqN sqN false),(AV.slice sc 0 tqN tqN tqF)] 78 false)) (dK:hh.get cG=some (aM.cells [(AV.str (j.ab.g tqk.toNat).name),(Zi (j.ab.g tqk.toNat).takes),(j.ab.g tqk.toNat).aU,(j.ab.g tqk.toNat).a_] 40 false)) (kA:hh.get gS=some (aM.cells (bs bj) 4 false)) (mh:hh.get jj=some (aM.cells (zs .i64 dh) 3 false)) (EA:hh.get sc=some (aM.cells (jV gD) 128 false)),bS (σ:=List Bool×List Int×List Tl) (ρ:=Unit) (cN (d+2)) VN ⟨((x 0)::(x 1)::(Zi g6)::(Pt bk)::(x 4)::(x 5)::(Pt cG)::rx x 7 18 (((j.ab.g tqk.toNat).a_)::(Zn (j.ab.g tqk.toNat).aA.length)::(Zi dp)::rx x 28 19 [])),hh,[],.no⟩ (.exit 0) hh (fun r z y=>((y 0)::(y 1)::(Zi g6)::(Pt bk)::(y 4)::(y 5)::(Pt cG)::rx y 7 18 (((j.ab.g tqk.toNat).a_)::(Zn (j.ab.g tqk.toNat).aA.length)::rx y 27 20 []))) (fun r z y=>((y 0)::(y 1)::(Zi g6)::(Pt bk)::(y 4)::(y 5)::(Pt cG)::rx y 7 18 (((j.ab.g tqk.toNat).a_)::(Zn (j.ab.g tqk.toNat).aA.length)::rx y 27 20 []))) (fun r z hk=>Has h hk∧hk.get bk=some (aM.cells [j.aw,j.ao,(AV.slice gS 0 pqN pqN false),(AV.slice jj 0 sqN sqN false),(AV.slice sc 0 tqN tqN tqF)] 78 false)∧hk.get cG=some (aM.cells [(AV.str (j.ab.g tqk.toNat).name),(Zi (j.ab.g tqk.toNat).takes),(j.ab.g tqk.toNat).aU,(j.ab.g tqk.toNat).a_] 40 false)∧hk.get gS=some (aM.cells (bs r.1) 4 false)∧hk.get jj=some (aM.cells (zs .i64 r.2.1) 3 false)∧hk.get sc=some (aM.cells (jV r.2.2) 128 false)∧r.1.length=pqN∧r.2.1.length=sqN∧r.2.2.length=tqN∧((0:Int)≤1)) (fun r z hk=>Has h hk) (Sum.inl (jP j tqk g6 k_ dp bj dh gD))
 | 0,dp,bj,dh,gD,fX,fG,x,hh,aI,aE,gC,jh,wM,OG,br,dK,kA,mh,EA=>by
   have q1:(decide (dp<(((j.ab.g tqk.toNat).aA.length:Nat):Int)))=false:=d!
   exact bS.out (bj,dh,gD) AV.undef rfl (pk (d+2) _ _ hh _ hh (VV (bL 3 false false .i64 dp (((j.ab.g tqk.toNat).aA.length:Nat):Int))<|BB q1<|ZZ) k!) aI o! ⟨aE,br,dK,kA,mh,EA,l!,l!,l!,(show ((0:Int)≤1) from Bv)⟩ k!
 | dq+1,dp,bj,dh,gD,fX,fG,x,hh,aI,aE,gC,jh,wM,OG,br,dK,kA,mh,EA=>by
   have gT:=bx.small
   have nz:=cZ.small
   have uw:=fj.small
   have Rf:=z5.small
   have sU:=aI _ _ br
   have Lw:=aI _ _ dK
   have Zk:=aI _ _ kA
   have ac9:=aI _ _ mh
   have amo:=aI _ _ EA
   have ur_:=pF dp.toNat
   have ut_:=fG.2.2 dp.toNat
   have dJ:=fun {al ps} (k:Pk al _ ps)=>(VV (bL 3 false false .i64 dp (((j.ab.g tqk.toNat).aA.length:Nat):Int))<|k:Pk _ [] ps)
   rcases Bool.eq_false_or_eq_true (decide (dp<(((j.ab.g tqk.toNat).aA.length:Nat):Int))) with f0 | f0
   · have jf:=of_decide_eq_true f0
     obtain ⟨p3,q4,cC⟩:=bx.elem (i:=dp.toNat) o!
     have iW:bO env (some (.slice 83)) (some (j.ab.g tqk.toNat).a_) (some (Zi dp))=some (AV.ptr p3 q4):=by rw[show (dp:Int)=((dp.toNat:Nat):Int) by omega];exact cC
     have jY:bh env hh 83 (AV.ptr p3 q4)=some (AV.agg [(Zi ((j.ab.g tqk.toNat).aA.g dp.toNat).ah),(Zi ((j.ab.g tqk.toNat).aA.g dp.toNat).aJ)]):=(bx.has aE).load o! cC
     obtain ⟨h6,mK,ji,zU,mL,bU⟩:=jE aI (aM.cells [(Zi 0),(Zi 0)] 83 false)
     have hZ:Has h h6:=aE.trans bU
     obtain ⟨h7,l7,eP,vH,fH,bp⟩:=n5 (t:=83) (n:=2) (i:=hh.nx) (L:=[(Zi ((j.ab.g tqk.toNat).aA.g dp.toNat).ah),(Zi ((j.ab.g tqk.toNat).aA.g dp.toNat).aJ)]) ji mL k! rfl rfl (by simp only[AV.cells,List.all_cons,List.all_nil,Bool.and_true,Bool.and_self,gr,eO,gu,gv,dG,jK,jL,jM,jN,jO,gz])
     have dm:Has h h7:=Has.dg hZ bp ch o!
     have LB:bO env (some (.slice 128)) (some (AV.slice sc 0 tqN tqN tqF)) (some (Zi ((j.ab.g tqk.toNat).aA.g dp.toNat).ah))=some (AV.ptr sc (0+(((j.ab.g tqk.toNat).aA.g dp.toNat).ah).toNat*324)):=Bh (z:=324) (k:=(((j.ab.g tqk.toNat).aA.g dp.toNat).ah).toNat) k! o! o!
     have w9:IntKind.i64.wrap (g6+((j.ab.g tqk.toNat).takes))=g6+((j.ab.g tqk.toNat).takes):=wrap_i64 o! o!
     have w10:IntKind.i64.wrap ((g6+((j.ab.g tqk.toNat).takes)) - 1)=(g6+((j.ab.g tqk.toNat).takes)) - 1:=wrap_i64 o! o!
     obtain ⟨OH,Rg,adn,TS,LC,nB⟩:=dz eP (bp _ _ o! (bU _ _ EA))
     have agG:Has h OH:=bG dm sZ nB
     obtain ⟨kV,Zs,jk,GX,GY,ado,adp⟩:=TI (d:=d) (h:=OH) (tO:=0+(((j.ab.g tqk.toNat).aA.g dp.toNat).ah).toNat*324) (fit (gD.g ((j.ab.g tqk.toNat).aA.g dp.toNat).ah.toNat).l) (⟨g6,((g6+((j.ab.g tqk.toNat).takes)) - 1)⟩:Span) ((j.ab.g tqk.toNat).aA.g dp.toNat).aJ trivial (Ls (bp _ _ o! (bU _ _ EA)) o!) (by rw[(Bo o!).2];omega) (uv _) TS wQ wQ wQ wQ wQ Rg eP LC o!
     have agH:kV.get sc=some (aM.cells (jV (gD.set ((j.ab.g tqk.toNat).aA.g dp.toNat).ah.toNat ⟨(eU (fit (gD.g ((j.ab.g tqk.toNat).aA.g dp.toNat).ah.toNat).l) (⟨g6,((g6+((j.ab.g tqk.toNat).takes)) - 1)⟩:Span) ((j.ab.g tqk.toNat).aA.g dp.toNat).aJ)⟩)) 128 false):=Zc o! adp ado
     have amp:=Bq (fit (gD.g ((j.ab.g tqk.toNat).aA.g dp.toNat).ah.toNat).l) (⟨g6,((g6+((j.ab.g tqk.toNat).takes)) - 1)⟩:Span) ((j.ab.g tqk.toNat).aA.g dp.toNat).aJ (by first | omega | exact uv _) (by first | omega | exact (ut_ o! o!).1) (by first | omega | exact (ut_ o! o!).2.1) (by first | omega | exact (ut_ o! o!).2.2) (by first | omega | (dsimp only;omega)) (by first | omega | (dsimp only;omega))
     have fJ:Has h kV:=(agG.trans GY)
     have w13:IntKind.i64.wrap (dp+1)=dp+1:=wrap_i64 o! o!
     exact bS.round (congrArg Sum.inl (by simp only[jP,f0,aj,ai])) (pk (d+2) _ _ hh _ kV (dJ<|BV f0 iW<|MM jY<|NN mK (fun i=>(Pt i))<|SS l7<|CC<|MM (aO 76 4 (AV.slice sc 0 tqN tqN tqF) (bp _ _ o! (bU _ _ br)) k!)<|CC<|MM (aO 3 0 (Zi ((j.ab.g tqk.toNat).aA.g dp.toNat).ah) fH k!)<|VV LB<|CN 3<|MM (aO 3 1 (Zi (j.ab.g tqk.toNat).takes) (bp _ _ o! (bU _ _ dK)) k!)<|VV (qG 3 false false w9)<|VV (CO 3 false true w10)<|CN 2<|MM (aO 3 1 (Zi ((j.ab.g tqk.toNat).aA.g dp.toNat).aJ) fH k!)<|EE Zs<|HH (aO 76 4 (AV.slice sc 0 tqN tqN tqF) (bp _ _ o! (bU _ _ br)) k!)<|HH (show AV.same 20 (AV.slice sc 0 tqN tqN tqF) (AV.slice sc 0 tqN tqN tqF)=true from jv 19 _ _ _ _ _)<|HH (aO 3 0 (Zi ((j.ab.g tqk.toNat).aA.g dp.toNat).ah) fH k!)<|HH (show AV.same 20 (Zi ((j.ab.g tqk.toNat).aA.g dp.toNat).ah) (Zi ((j.ab.g tqk.toNat).aA.g dp.toNat).ah)=true from aS 19 _ _)<|HH (aO 3 1 (Zi (j.ab.g tqk.toNat).takes) (bp _ _ o! (bU _ _ dK)) k!)<|HH (show AV.same 20 (Zi (j.ab.g tqk.toNat).takes) (Zi (j.ab.g tqk.toNat).takes)=true from aS 19 _ _)<|HH (aO 3 1 (Zi ((j.ab.g tqk.toNat).aA.g dp.toNat).aJ) fH k!)<|HH (show AV.same 20 (Zi ((j.ab.g tqk.toNat).aA.g dp.toNat).aJ) (Zi ((j.ab.g tqk.toNat).aA.g dp.toNat).aJ)=true from aS 19 _ _)<|VV (qG 3 false true w13)<|CC<|ZZ) k!) o! _ k! (fun x=>GV g6 j tqk pqN sqN tqN tqF az au aX bk cG gS jj sc bx cZ fj m5 z5 g5 GW hF je mI nq pF pY z6 C6 Ez IA yZ ch uo GK Ra Zh amn qS zX zY GM GN GO agB agC agD agE dq (dp+1) bj dh (gD.set ((j.ab.g tqk.toNat).aA.g dp.toNat).ah.toNat ⟨(eU (fit (gD.g ((j.ab.g tqk.toNat).aA.g dp.toNat).ah.toNat).l) (⟨g6,((g6+((j.ab.g tqk.toNat).takes)) - 1)⟩:Span) ((j.ab.g tqk.toNat).aA.g dp.toNat).aJ)⟩) Bv (show (((0:Int)≤1)∧(0≤(dp+1)∧∀q:Nat,(dp+1)≤(q:Int)→q<(j.ab.g tqk.toNat).aA.length→rp 159 ((gD.set ((j.ab.g tqk.toNat).aA.g dp.toNat).ah.toNat ⟨(eU (fit (gD.g ((j.ab.g tqk.toNat).aA.g dp.toNat).ah.toNat).l) (⟨g6,((g6+((j.ab.g tqk.toNat).takes)) - 1)⟩:Span) ((j.ab.g tqk.toNat).aA.g dp.toNat).aJ)⟩).g (Int.toNat ((j.ab.g tqk.toNat).aA.g q).ah)))) from Bv) x kV jk fJ o! l! l! l! (GY _ _ ((nB _ o!).trans (bp _ _ o! (bU _ _ br)))) (GY _ _ ((nB _ o!).trans (bp _ _ o! (bU _ _ dK)))) (GY _ _ ((nB _ o!).trans (bp _ _ o! (bU _ _ kA)))) (GY _ _ ((nB _ o!).trans (bp _ _ o! (bU _ _ mh)))) agH)
   · exact bS.out (bj,dh,gD) AV.undef (congrArg Sum.inl (by simp only[jP,f0,aj,ai])) (pk (d+2) _ _ hh _ hh (dJ<|BB f0<|ZZ) k!) aI o! ⟨aE,br,dK,kA,mh,EA,l!,l!,l!,(show ((0:Int)≤1) from Bv)⟩ k!
def fR (j:cx) (az:List Bool) (au:List Int) (aX:List Tl) (tqk:Int) (g6:Int):List Bool×List Int×List Tl:=((jP j tqk g6 ((((j.ab.g tqk.toNat).aA.length:Nat):Int) - 0).toNat 0 (az.set tqk.toNat true) (au.set tqk.toNat g6) aX).1,(jP j tqk g6 ((((j.ab.g tqk.toNat).aA.length:Nat):Int) - 0).toNat 0 (az.set tqk.toNat true) (au.set tqk.toNat g6) aX).2.1,(jP j tqk g6 ((((j.ab.g tqk.toNat).aA.length:Nat):Int) - 0).toNat 0 (az.set tqk.toNat true) (au.set tqk.toNat g6) aX).2.2)
theorem TU {d:Nat} {h hh:aC} {aZ pqN bf sqN tqB tqN:Nat} {tqF:Bool} (j:cx) (az:List Bool) (au:List Int) (aX:List Tl) (tqk:Int) (g6:Int) (bV:aR.ok h j) (b6:hh.get aZ=some (aM.cells (bs az) 4 false)) (s4:az.length=pqN) (wR:h.get aZ=none) (cj:hh.get bf=some (aM.cells (zs .i64 au) 3 false)) (wV:au.length=sqN) (wX:h.get bf=none) (eA:hh.get tqB=some (aM.cells (jV aX) 128 false)) (JS:aX.length=tqN) (JT:h.get tqB=none) (l6:0≤tqk) (om:tqk<(j.ab.length:Int)) (yD:az.length=j.ab.length) (zR:au.length=j.ab.length) (Ex:∀q,q<(j.ab.g tqk.toNat).aA.length→0≤((j.ab.g tqk.toNat).aA.g q).ah∧((j.ab.g tqk.toNat).aA.g q).ah<(aX.length:Int)) (Ri:∀a,a<(j.ab.g tqk.toNat).aA.length→∀b,a<b→b<(j.ab.g tqk.toNat).aA.length→((j.ab.g tqk.toNat).aA.g a).ah≠((j.ab.g tqk.toNat).aA.g b).ah) (pre6:0≤g6) (Rj:g6+(j.ab.g tqk.toNat).takes≤100000) (Zt:0≤(j.ab.g tqk.toNat).takes) (OI:∀q,q<(j.ab.g tqk.toNat).aA.length→rp 159 (aX.g (Int.toNat ((j.ab.g tqk.toNat).aA.g q).ah))) (Zu:bf≠aZ) (ajU:tqB≠aZ) (ajV:tqB≠bf) (ch:Tidy h) (aI:Tidy hh) (aE:Has h hh) (gC:h.nx≤hh.nx):∃hk,cN (d+3) (.fn 60) [(AV.agg [j.aw,j.ao,(AV.slice aZ 0 pqN pqN false),(AV.slice bf 0 sqN sqN false),(AV.slice tqB 0 tqN tqN tqF)]),(Zi tqk),(Zi g6)] hh= .ret (AV.tuple []) hk∧Tidy hk∧hh.nx≤hk.nx∧Has h hk∧hk.get aZ=some (aM.cells (bs (fR j az au aX tqk g6).1) 4 false)∧((fR j az au aX tqk g6).1).length=pqN∧hk.get bf=some (aM.cells (zs .i64 (fR j az au aX tqk g6).2.1) 3 false)∧((fR j az au aX tqk g6).2.1).length=sqN∧hk.get tqB=some (aM.cells (jV (fR j az au aX tqk g6).2.2) 128 false)∧((fR j az au aX tqk g6).2.2).length=tqN:=by
 have kb:=bV.1.small
 have kf:=bV.2.small
 have wY:=aI _ _ b6
 have wZ:=aI _ _ cj
 have JU:=aI _ _ eA
 obtain ⟨h1,di,cS,jU,bm,bP⟩:=jE aI (aM.cells [j.aw,j.ao,(AV.slice aZ 0 pqN pqN false),(AV.slice bf 0 sqN sqN false),(AV.slice tqB 0 tqN tqN tqF)] 78 false)
 have bA:Has h h1:=aE.trans bP
 obtain ⟨p3,q4,cC⟩:=bV.1.elem (i:=tqk.toNat) o!
 have iW:bO env (some (.slice 40)) (some j.aw) (some (Zi tqk))=some (AV.ptr p3 q4):=by rw[show (tqk:Int)=((tqk.toNat:Nat):Int) by omega];exact cC
 have jY:bh env h1 40 (AV.ptr p3 q4)=some (AV.agg [(AV.str (j.ab.g tqk.toNat).name),(Zi (j.ab.g tqk.toNat).takes),(j.ab.g tqk.toNat).aU,(j.ab.g tqk.toNat).a_]):=(bV.1.has bA).load o! cC
 obtain ⟨h6,mK,ji,zU,mL,bU⟩:=jE cS (aM.cells [(AV.str []),(Zi 0),AV.aG,AV.aG] 40 false)
 have hZ:Has h h6:=bA.trans bU
 have Lx:AV.scalar (j.ab.g tqk.toNat).aU=true:=((bV.1.ok (i:=tqk.toNat) o!).2.1).scalar
 have Rl:AV.scalar (j.ab.g tqk.toNat).a_=true:=((bV.1.ok (i:=tqk.toNat) o!).2.2).scalar
 obtain ⟨h7,l7,eP,vH,fH,bp⟩:=n5 (t:=40) (n:=4) (i:=h1.nx) (L:=[(AV.str (j.ab.g tqk.toNat).name),(Zi (j.ab.g tqk.toNat).takes),(j.ab.g tqk.toNat).aU,(j.ab.g tqk.toNat).a_]) ji mL k! rfl rfl (by simp only[AV.cells,List.all_cons,List.all_nil,Bool.and_true,Bool.and_self,gr,eO,gu,gv,dG,jK,jL,jM,jN,jO,gz,Lx,Rl])
 have dm:Has h h7:=Has.dg hZ bp ch o!
 have Zv:bO env (some (.slice 4)) (some (AV.slice aZ 0 pqN pqN false)) (some (Zi tqk))=some (AV.ptr aZ tqk.toNat):=jc k! (show tqk.toNat<pqN by omega) o!
 obtain ⟨m4,GZ⟩:∃G4:aC,G4=h7.put aZ (some (aM.cells (bs (az.set tqk.toNat true)) 4 false)):=⟨_,rfl⟩
 have OC:dV env h7 4 (AV.ptr aZ tqk.toNat) (AV.bool true)=some m4:=by rw[GZ];exact o6 k! (bp _ _ o! (bU _ _ (bP _ _ b6))) l!
 have h_:Iv h7 m4 aZ (aM.cells (bs (az.set tqk.toNat true)) 4 false):=by rw[GZ];exact jD eP (bp _ _ o! (bU _ _ (bP _ _ b6)))
 have mj:=h_.1
 have aeO:m4.nx=h7.nx:=by rw[GZ];rfl
 have wN:Has h m4:=lf h_ dm sZ
 have Rm:bO env (some (.slice 3)) (some (AV.slice bf 0 sqN sqN false)) (some (Zi tqk))=some (AV.ptr bf tqk.toNat):=jc k! (show tqk.toNat<sqN by omega) o!
 obtain ⟨lR,w7⟩:∃G4:aC,G4=m4.put bf (some (aM.cells (zs .i64 (au.set tqk.toNat g6)) 3 false)):=⟨_,rfl⟩
 have vl:dV env m4 3 (AV.ptr bf tqk.toNat) (Zi g6)=some lR:=by rw[w7];exact Bg k! (h_.2.2 _ _ o! (bp _ _ o! (bU _ _ (bP _ _ cj)))) l!
 have ml:Iv m4 lR bf (aM.cells (zs .i64 (au.set tqk.toNat g6)) 3 false):=by rw[w7];exact jD mj (h_.2.2 _ _ o! (bp _ _ o! (bU _ _ (bP _ _ cj))))
 have iQ:=ml.1
 have OJ:lR.nx=m4.nx:=by rw[w7];rfl
 have jl:Has h lR:=lf ml wN sZ
 have LD:cb (some (.slice 83)) (some (j.ab.g tqk.toNat).a_)=some (Zn (j.ab.g tqk.toNat).aA.length):=((bV.1.ok (i:=tqk.toNat) o!).2.2).len
 obtain ⟨aow,ajW,h16,Bw,ajX,an4,agI,ak9,ala,TV,TW,TX,alb,ald,ale,ajY⟩:=bS.n rfl (GV (d:=d) (h:=h) g6 j tqk pqN sqN tqN tqF az au aX hh.nx h1.nx aZ bf tqB (bV.1.ok (i:=tqk.toNat) o!).2.2 bV.1 bV.2 (bV.1.ok (i:=tqk.toNat) o!).1 (bV.1.ok (i:=tqk.toNat) o!).2.1 bV (bV.1.ok (i:=tqk.toNat) o!) o! o! o! o! (by assumption) (by assumption) o! o! o! (by assumption) o! ch o! o! sZ sZ sZ o! o! o! o! o! o! o! o! o! o! ((((j.ab.g tqk.toNat).aA.length:Nat):Int) - 0).toNat 0 (az.set tqk.toNat true) (au.set tqk.toNat g6) aX o! (show (((0:Int)≤1)∧(0≤0∧∀q:Nat,0≤(q:Int)→q<(j.ab.g tqk.toNat).aA.length→rp 159 ((aX).g (Int.toNat ((j.ab.g tqk.toNat).aA.g q).ah)))) from ⟨by omega,by omega,fun q _ hq=>OI q hq⟩) (fun k_=>(((AV.agg [j.aw,j.ao,(AV.slice aZ 0 pqN pqN false),(AV.slice bf 0 sqN sqN false),(AV.slice tqB 0 tqN tqN tqF)])::(Zi tqk)::(Zi g6)::(Pt hh.nx)::AV.undef::AV.undef::(Pt h1.nx)::AV.undef::AV.undef::(Pt hh.nx)::(Pt hh.nx)::j.aw::(Zi tqk)::(AV.ptr p3 q4)::(AV.agg [(AV.str (j.ab.g tqk.toNat).name),(Zi (j.ab.g tqk.toNat).takes),(j.ab.g tqk.toNat).aU,(j.ab.g tqk.toNat).a_])::(AV.ptr hh.nx 2)::(AV.slice aZ 0 pqN pqN false)::(Zi tqk)::(AV.ptr hh.nx 3)::(AV.slice bf 0 sqN sqN false)::(Zi tqk)::(Zi g6)::(AV.ptr aZ tqk.toNat)::(AV.ptr bf tqk.toNat)::(AV.ptr h1.nx 3)::((j.ab.g tqk.toNat).a_)::(Zn (j.ab.g tqk.toNat).aA.length)::(Zi 0)::jX 19):List AV).getD k_ AV.undef) lR iQ jl o! l! l! l! (ml.2.2 _ _ o! (h_.2.2 _ _ o! (bp _ _ o! (bU _ _ bm)))) (ml.2.2 _ _ o! (h_.2.2 _ _ o! fH)) (ml.2.2 _ _ o! h_.2.1) ml.2.1 (ml.2.2 _ _ o! (h_.2.2 _ _ o! (bp _ _ o! (bU _ _ (bP _ _ eA))))))
 have OL:Has h h16:=agI
 have e:fR j az au aX tqk g6=((jP j tqk g6 ((((j.ab.g tqk.toNat).aA.length:Nat):Int) - 0).toNat 0 (az.set tqk.toNat true) (au.set tqk.toNat g6) aX).1,(jP j tqk g6 ((((j.ab.g tqk.toNat).aA.length:Nat):Int) - 0).toNat 0 (az.set tqk.toNat true) (au.set tqk.toNat g6) aX).2.1,(jP j tqk g6 ((((j.ab.g tqk.toNat).aA.length:Nat):Int) - 0).toNat 0 (az.set tqk.toNat true) (au.set tqk.toNat g6) aX).2.2):=by simp only[fR,aj,ai]
 rw[e]
 exact gB rfl (bb Tryz.func60 adm rfl (.inl rfl) (pk (d+2) _ _ hh _ h16 (NN di (fun i=>(Pt i))<|CN 2<|MM (aO 22 0 j.aw bm k!)<|CC<|VV iW<|MM jY<|NN mK (fun i=>(Pt i))<|SS l7<|CC<|MM (aO 75 2 (AV.slice aZ 0 pqN pqN false) (bp _ _ o! (bU _ _ bm)) k!)<|CN 2<|MM (aO 26 3 (AV.slice bf 0 sqN sqN false) (bp _ _ o! (bU _ _ bm)) k!)<|CN 2<|VV Zv<|SS OC<|VV Rm<|SS vl<|HH (aO 75 2 (AV.slice aZ 0 pqN pqN false) (bp _ _ o! (bU _ _ bm)) k!)<|HH (show AV.same 20 (AV.slice aZ 0 pqN pqN false) (AV.slice aZ 0 pqN pqN false)=true from jv 19 _ _ _ _ _)<|HH (aO 26 3 (AV.slice bf 0 sqN sqN false) (bp _ _ o! (bU _ _ bm)) k!)<|HH (show AV.same 20 (AV.slice bf 0 sqN sqN false) (AV.slice bf 0 sqN sqN false)=true from jv 19 _ _ _ _ _)<|HH (aO 26 3 (AV.slice bf 0 sqN sqN false) (h_.2.2 _ _ o! (bp _ _ o! (bU _ _ bm))) k!)<|HH (show AV.same 20 (AV.slice bf 0 sqN sqN false) (AV.slice bf 0 sqN sqN false)=true from jv 19 _ _ _ _ _)<|CC<|MM (aO 38 3 (j.ab.g tqk.toNat).a_ (ml.2.2 _ _ o! (h_.2.2 _ _ o! fH)) k!)<|VV LD<|CC<|LL Bw<|ZZ) k!) k!) aI ajX o! ⟨OL,TV,l!,TW,l!,TX,l!⟩ (fun q=>⟨aE,dc q b6 TV,l!,dc q cj TW,l!,dc q eA TX,l!⟩)
def Rn:Code:=(Tryz.f127.body).getD .skip
theorem TY:Tryz.f127.body=some Rn:=by kernel_rfl
def w_ (t:List Int) (vP:Int):Int:=(bif (decide ((vP+1)<(t.g 322))) then (t.g ((vP+1).toNat*2)) else 100001)
theorem adq {d:Nat} {h:aC} {tP tQ:List AV} {tE:TypeId} (t:List Int) (tB:Nat) (tO:Nat) (vP:Int) (yW:h.get tB=some (aM.cells (tP++zs .i64 t++tQ) tE false)) (ac4:tP.length=tO) (ac5:t.length=324) (l6:0≤t.g 322) (om:t.g 322≤161) (yD:0≤vP) (zR:vP≤1000) (ch:Tidy h):cN (d+1) (.fn 127) [(AV.ptr tB tO),(Zi vP)] h= .ret (Zi (w_ t vP)) h:=by
 have w1:IntKind.i64.wrap (vP+1)=vP+1:=wrap_i64 o! o!
 have ld2:bh env h 3 (AV.ptr tB (tO+322))=some (Zi (t.g 322)):=(fW (j:=322) (o:=tO) k! yW o! l! o!)
 have dJ:=fun {al ps} (k:Pk al _ ps)=>(CN 2<|VV (qG 3 false true w1)<|CN 3<|MM ld2<|VV (bL 3 false false .i64 (vP+1) (t.g 322))<|k:Pk _ [] ps)
 rcases Bool.eq_false_or_eq_true (decide ((vP+1)<(t.g 322))) with f0 | f0
 · have jf:=of_decide_eq_true f0
   have w4:IntKind.i64.wrap (vP+1)=vP+1:=wrap_i64 o! o!
   have ix5:bO env (some (.array 161 125)) (some (AV.ptr tB (tO+0))) (some (Zi (vP+1)))=some (AV.ptr tB ((tO+0)+(vP+1).toNat*2)):=np (z:=2) (k:=(vP+1).toNat) k! o! o!
   have tD:bh env h 3 (AV.ptr tB (((tO+0)+(vP+1).toNat*2)+0))=some (Zi (t.g ((vP+1).toNat*2))):=(fW (j:=(vP+1).toNat*2) (o:=tO) k! yW o! l! o!)
   have e:w_ t vP=(t.g ((vP+1).toNat*2)):=by simp only[w_,f0,aj,ai]
   rw[e]
   exact aH rfl (bb Tryz.func127 TY rfl (.inr rfl) (pk (d) _ _ h _ h (dJ<|BB f0<|CN 2<|VV (qG 3 false true w4)<|CN 2<|VV ix5<|CC<|MM tD<|CC<|ZZ) k!) k!) (Has.refl _) rfl
 · have e:w_ t vP=100001:=by simp only[w_,f0,aj,ai]
   rw[e]
   exact aH rfl (bb Tryz.func127 TY rfl (.inr rfl) (pk (d) _ _ h _ h (dJ<|BC f0<|ZZ) k!) k!) (Has.refl _) rfl
theorem ux {p:Prop} (h:p:=by first | omega | assumption | (simp only[List.length_set,List.length_replicate,List.length_append,List.length_cons,List.length_nil,List.nil_append]<;>omega) | (rw[List.length_take];omega)):p:=h
def Bx:Code:=(Tryz.f110.body).getD .skip
theorem VO:Tryz.f110.body=some Bx:=by kernel_rfl
def OM:Code:=(bw Bx).getD 0 .skip
def eE (t:List Int) (takes:Int) (pieces:Int):Nat→Nat→Int→Int
 | 0,_,xa=>xa
 | dq+1,i0,xa=>(bif (decide ((IntKind.i64.wrap (xa+takes))≤(t.g (i0*2)))) then xa else (bif (decide ((t.g 323)<(IntKind.i64.wrap ((t.g (i0*2+1))+pieces)))) then eE t takes pieces dq (i0+1) (imax xa (w_ t ((i0:Nat):Int))) else eE t takes pieces dq (i0+1) xa))
theorem uy {d:Nat} {h:aC} (tO:Nat) (takes:Int) (pieces:Int) (t:List Int) (tP:List AV) (tQ:List AV) (tE:TypeId) (bk:Nat) (hF:0≤t.g 322) (je:t.g 322≤161) (mI:tP.length=tO) (nq:t.length=324):∀(k_ i_:Nat) (xa:Int) (_:i_+k_=(t.g 322).toNat) (x:Nat→AV) (hh:aC) (aI:Tidy hh) (aE:Has h hh) (br:hh.get bk=some (aM.cells (tP++zs .i64 t++tQ) tE false)),cE (cN (d+1)) OM ⟨((AV.ptr bk tO)::(Zi xa)::(Zi takes)::(Zi pieces)::rx x 4 14 ((AV.slice bk (tO+0) (t.g 322).toNat 161 false)::(Zn (t.g 322).toNat)::(Zn i_)::rx x 21 26 [])),hh,[],.no⟩ (.exit 0) hh (fun r y=>((AV.ptr bk tO)::(Zi r)::(Zi takes)::(Zi pieces)::rx y 4 14 ((AV.slice bk (tO+0) (t.g 322).toNat 161 false)::(Zn (t.g 322).toNat)::rx y 20 27 []))) (fun r=>True) (eE t takes pieces k_ i_ xa)
 | 0,i0,xa,fX,x,hh,aI,aE,br=>by
   have q1:(decide (((i0:Nat):Int)<(((t.g 322).toNat:Nat):Int)))=false:=d!
   exact cE.out xa rfl (pk (d+1) _ _ hh _ hh (VV (bL 3 false false .i64 ((i0:Nat):Int) (((t.g 322).toNat:Nat):Int))<|BB q1<|ZZ) k!) (bE.refl aI) trivial k!
 | dq+1,i0,xa,fX,x,hh,aI,aE,br=>by
   have sU:=aI _ _ br
   have q1:(decide (((i0:Nat):Int)<(((t.g 322).toNat:Nat):Int)))=true:=d!
   have iW:bO env (some (.slice 125)) (some (AV.slice bk (tO+0) (t.g 322).toNat 161 false)) (some (Zn i0))=some (AV.ptr bk ((tO+0)+i0*2)):=Bh (z:=2) (k:=i0) k! o! o!
   have ld3:bh env hh 125 (AV.ptr bk ((tO+0)+i0*2))=some (AV.agg [(Zi (t.g (i0*2))),(Zi (t.g (i0*2+1)))]):=(JK (j:=i0*2) (o:=tO) k! k! br o! l! o!)
   obtain ⟨h4,IB,lI,VP,LF,xb⟩:=jE aI (aM.cells [(Zi 0),(Zi 0)] 125 false)
   have jC:Has hh h4:=xb
   obtain ⟨h5,Y8,pZ,ago,OF,By⟩:=n5 (t:=125) (n:=2) (i:=hh.nx) (L:=[(Zi (t.g (i0*2))),(Zi (t.g (i0*2+1)))]) lI LF k! rfl rfl (by simp only[AV.cells,List.all_cons,List.all_nil,Bool.and_true,Bool.and_self,gr,eO,gu,gv,dG,jK,jL,jM,jN,jO,gz])
   have hG:Has hh h5:=Has.dg jC By aI o!
   have dJ:=fun {al ps} (k:Pk al _ ps)=>(VV (bL 3 false false .i64 ((i0:Nat):Int) (((t.g 322).toNat:Nat):Int))<|BC q1<|VV iW<|MM ld3<|NN IB (fun i=>(Pt i))<|CC<|SS Y8<|CC<|MM (aO 3 0 (Zi (t.g (i0*2))) OF k!)<|CN 3<|VV (rv 3 false false .i64 (t.g (i0*2)) (IntKind.i64.wrap (xa+takes)))<|k:Pk _ [] ps)
   rcases Bool.eq_false_or_eq_true (decide ((IntKind.i64.wrap (xa+takes))≤(t.g (i0*2)))) with f1 | f1
   · have fP:=of_decide_eq_true f1
     exact cE.out xa (by simp only[eE,f1,aj,ai]) (pk (d+1) _ _ hh _ h5 (dJ<|BB f1<|ZZ) k!) (⟨pZ,hG,by omega⟩) trivial k!
   · have fP:=of_decide_eq_false f1
     have TG:bh env h5 3 (AV.ptr bk (tO+323))=some (Zi (t.g 323)):=(fW (j:=323) (o:=tO) k! (By _ _ o! (xb _ _ br)) o! l! o!)
     have hX:=fun {al ps} (k:Pk al _ ps)=>(dJ<|BC f1<|MM (aO 3 1 (Zi (t.g (i0*2+1))) OF k!)<|CN 5<|MM TG<|VV (dw 3 false false .i64 (IntKind.i64.wrap ((t.g (i0*2+1))+pieces)) (t.g 323))<|HH (aO 3 1 (Zi (t.g (i0*2+1))) OF k!)<|HH (show AV.same 20 (Zi (t.g (i0*2+1))) (Zi (t.g (i0*2+1)))=true from aS 19 _ _)<|HH TG<|HH (show AV.same 20 (Zi (t.g 323)) (Zi (t.g 323))=true from aS 19 _ _)<|k:Pk _ [] ps)
     rcases Bool.eq_false_or_eq_true (decide ((t.g 323)<(IntKind.i64.wrap ((t.g (i0*2+1))+pieces)))) with f2 | f2
     · have se:=of_decide_eq_true f2
       have k9:=adq (d:=d) t bk tO ((i0:Nat):Int) (By _ _ o! (xb _ _ br)) o! l! ux ux ux ux pZ
       have u10:=fi 3 false true i0 1 o!
       exact cE.round (by simp only[eE,f1,f2,aj,ai]) (pk (d+1) _ _ hh _ h5 (hX<|BB f2<|CN 3<|EE k9<|CN 2<|VV u10<|CC<|ZZ) k!) (⟨pZ,hG,by omega⟩) _ k! (fun x=>uy tO takes pieces t tP tQ tE bk hF je mI nq dq (i0+1) (imax xa (w_ t ((i0:Nat):Int))) o! x h5 pZ (aE.trans hG) (By _ _ o! (xb _ _ br)))
     · have se:=of_decide_eq_false f2
       have u9:=fi 3 false true i0 1 o!
       exact cE.round (by simp only[eE,f1,f2,aj,ai]) (pk (d+1) _ _ hh _ h5 (hX<|BV f2 u9<|CC<|ZZ) k!) (⟨pZ,hG,by omega⟩) _ k! (fun x=>uy tO takes pieces t tP tQ tE bk hF je mI nq dq (i0+1) xa o! x h5 pZ (aE.trans hG) (By _ _ o! (xb _ _ br)))
def nC (t:List Int) (cA:Int) (takes:Int) (pieces:Int):Int:=(eE t takes pieces (t.g 322).toNat 0 cA)
theorem VQ {d:Nat} {h:aC} {tP tQ:List AV} {tE:TypeId} (t:List Int) (tB:Nat) (tO:Nat) (cA:Int) (takes:Int) (pieces:Int) (yW:h.get tB=some (aM.cells (tP++zs .i64 t++tQ) tE false)) (ac4:tP.length=tO) (ac5:t.length=324) (l6:0≤t.g 322) (om:t.g 322≤161) (ch:Tidy h):cN (d+2) (.fn 110) [(AV.ptr tB tO),(Zi cA),(Zi takes),(Zi pieces)] h= .ret (Zi (nC t cA takes pieces)) h:=by
 have ld1:bh env h 3 (AV.ptr tB (tO+322))=some (Zi (t.g 322)):=(fW (j:=322) (o:=tO) k! yW o! l! o!)
 have sl2:fe env 126 (AV.ptr tB (tO+0)) (none) (some (Zi (t.g 322))) (none)=some (AV.slice tB (tO+0) (t.g 322).toNat 161 false):=D1 (e:=125) (size:=2) k! k! (hi:=(t.g 322).toNat) o! o!
 obtain ⟨MV,h4,kK,f_,E7⟩:=uy (d:=d) (h:=h) tO takes pieces t tP tQ tE tB o! o! o! o! (t.g 322).toNat 0 cA o! (fun k_=>(((AV.ptr tB tO)::(Zi cA)::(Zi takes)::(Zi pieces)::AV.undef::AV.undef::AV.undef::AV.undef::(Zi 0)::AV.undef::AV.undef::(AV.ptr tB tO)::(AV.ptr tB tO)::(AV.ptr tB (tO+0))::(AV.ptr tB tO)::(AV.ptr tB tO)::(AV.ptr tB (tO+322))::(Zi (t.g 322))::(AV.slice tB (tO+0) (t.g 322).toNat 161 false)::(Zn (t.g 322).toNat)::(Zi 0)::jX 26):List AV).getD k_ AV.undef) h ch (Has.refl _) yW
 have jC:Has h h4:=f_.a
 have e:nC t cA takes pieces=(eE t takes pieces (t.g 322).toNat 0 cA):=by simp only[nC,aj,ai]
 rw[e]
 exact aH rfl (bb Tryz.func110 VO rfl (.inr rfl) (pk (d+1) _ _ h _ h4 (CN 7<|MM ld1<|QQ sl2<|CN 2<|HH ld1<|HH (show AV.same 20 (Zi (t.g 322)) (Zi (t.g 322))=true from aS 19 _ _)<|LL kK<|CN 2<|ZZ) k!) k!) jC rfl
theorem Zx {L:List Int} {d s n k:Nat} (hd:d+n≤L.length) (hs:s+n≤L.length) (h0:d≤k) (h1:k<d+n):(bz L d s n).g k=L.g (k - d+s):=by
 unfold bz
 rw[if_pos ⟨hd,hs⟩,List.g,List.g,List.getD_eq_getElem?_getD,List.getD_eq_getElem?_getD]
 rw[List.getElem?_append_left (by simp only[List.length_append,List.length_take,List.length_drop];omega),List.getElem?_append_right (by rw[List.length_take];omega),List.length_take,show min d L.length=d by omega,List.getElem?_take_of_lt o!,List.getElem?_drop,show s+(k - d)=k - d+s by omega]
def fr (t:List Int) (k:Nat):Int:=t.g (k*2)
def us (t:List Int) (k:Nat):Int:=t.g (k*2+1)
structure lS (t:List Int) (n:Nat):Prop where
 len:t.length=324
 cn:t.g 322=(n:Int)
 lo:1≤n
 hi:n≤161
 zero:fr t 0=0
 up:∀i j,i<j→j<n→fr t i<fr t j
def yE (t:List Int) (m:Int):Nat→Int
 | 0=>0
 | k+1=>if fr t k≤m then us t k else yE t m k
theorem uz {t:List Int} {m:Int} {i:Nat}:∀{n:Nat},i<n→(∀k,i<k→k<n→m<fr t k)→fr t i≤m→yE t m n=us t i
 | 0,h,_,_=>by omega
 | n+1,h,a,b=>by
   rw[yE]
   by_cases e:i=n
   · subst e;rw[if_pos b]
   · rw[if_neg (by have:=a n o! o!;omega)];exact uz o! (fun k q r=>a k q o!) b
theorem yh {t:List Int} {m:Int} (h0:fr t 0≤m):∀{n:Nat},1≤n→(∀i j,i<j→j<n→fr t i<fr t j)→∃i,i<n∧fr t i≤m∧∀k,i<k→k<n→m<fr t k
 | 0,h,_=>by omega
 | 1,_,_=>⟨0,by omega,h0,fun k a b=>by omega⟩
 | n+2,_,up=>by
   by_cases e:fr t (n+1)≤m
   · exact ⟨n+1,by omega,e,fun k a b=>by omega⟩
   · obtain ⟨i,a,b,c⟩:=yh h0 (n:=n+1) o! (fun i j p q=>up i j p o!)
     exact ⟨i,by omega,b,fun k p q=>by
      by_cases e2:k=n+1
      · subst e2;omega
      · exact c k p o!⟩
structure Ins (t t':List Int) (n i:Nat) (mqn:Int):Prop where
 len:t'.length=324
 cn:t'.g 322=(n:Int)+1
 mark:t'.g 323=t.g 323
 lof:∀k,k<i→fr t' k=fr t k
 lou:∀k,k<i→us t' k=us t k
 atf:fr t' i=mqn
 atu:us t' i=us t (i - 1)
 hif:∀k,i<k→k≤n→fr t' k=fr t (k - 1)
 hiu:∀k,i<k→k≤n→us t' k=us t (k - 1)
theorem Zy {t L:List Int} {n i:Nat} {mqn:Int} (ln:t.length=324) (hi:n≤160) (cn:t.g 322=(n:Int)) (h1:1≤i) (h2:i≤n) (hl:L.length=324) (lo:∀k,k<i*2→L.g k=t.g k) (up:∀k,(i+1)*2≤k→k<(n+1)*2→L.g k=t.g (k - 2)) (e:∀k,322≤k→L.g k=t.g k) (x:Int) (hx:x=us t (i - 1)):
 Ins t (((L.set (i*2) mqn).set (i*2+1) x).set 322 (((L.set (i*2) mqn).set (i*2+1) x).g 322+1)) n i mqn:=by
 have e2:((L.set (i*2) mqn).set (i*2+1) x).g 322=t.g 322:=by
  rw[bn o!,bn o!,e 322 o!]
 rw[e2]
 refine ⟨by simp only[List.length_set,hl],?_,?_,fun k hk=>?_,fun k hk=>?_,?_,?_,fun k a b=>?_,fun k a b=>?_⟩
 · rw[g7 (by rw[List.length_set,List.length_set,hl];omega),cn]
 · rw[bn o!,bn o!,bn o!,e 323 o!]
 · rw[fr,fr,bn o!,bn o!,bn o!,lo _ o!]
 · rw[us,us,bn o!,bn o!,bn o!,lo _ o!]
 · rw[fr,bn o!,bn o!,g7 (by rw[hl];omega)]
 · rw[us,bn o!,g7 (by rw[List.length_set,hl];omega),hx]
 · rw[fr,fr,bn o!,bn o!,bn o!,up _ o! o!,show k*2 - 2=(k - 1)*2 by omega]
 · rw[us,us,bn o!,bn o!,bn o!,up _ o! o!,show k*2+1 - 2=(k - 1)*2+1 by omega]
theorem Zz {mqn:Int} {t:List Int} {n:Nat} (h0:fr t 0=0) (hm:0≤mqn):∀(k:Nat) (v:Nat),v≤n→v≤k→(∀i j,i<j→j<n→fr t i<fr t j)→(∀j,v≤j→j<n→mqn≤fr t j)→∃i:Nat,aY mqn t k (v:Int)=(i:Int)∧i≤n∧(∀j,i≤j→j<n→mqn≤fr t j)∧∀j,j<i→fr t j<mqn
 | 0,v,a,b,up,c=>⟨v,by rw[aY],a,c,fun j h=>by omega⟩
 | k+1,v,a,b,up,c=>by
   rw[aY]
   by_cases f0:0<v
   · rw[decide_eq_true (by omega:(0:Int)<(v:Int)),aj,show ((v:Int) - 1)=((v - 1:Nat):Int) by omega,Int.toNat_natCast]
     by_cases f1:mqn≤fr t (v - 1)
     · rw[decide_eq_true (show mqn≤t.g ((v - 1)*2) from f1),aj]
       exact Zz h0 hm k (v - 1) o! o! up (fun j p q=>by
        by_cases e:j=v - 1
        · subst e;exact f1
        · exact c j o! q)
     · rw[decide_eq_false (show ¬mqn≤t.g ((v - 1)*2) from f1),ai]
       exact ⟨v,rfl,a,c,fun j h=>by
        by_cases e:j=v - 1
        · subst e;omega
        · have:=up j (v - 1) o! o!;omega⟩
   · rw[decide_eq_false (by omega:¬(0:Int)<(v:Int)),ai];exact ⟨v,rfl,a,c,fun j h=>by omega⟩
theorem agJ {t:List Int} {n:Nat} (T:lS t n) (hn:n≤160) {mqn:Int} (hm:0≤mqn):∃i:Nat,(bD t mqn).1=(i:Int)∧(∀j,j<i→fr t j<mqn)∧(∀j,i≤j→j<n→mqn≤fr t j)∧((i<n∧fr t i=mqn∧(bD t mqn).2=t)∨(1≤i∧i≤n∧(i<n→mqn<fr t i)∧Ins t (bD t mqn).2 n i mqn)):=by
 obtain ⟨i,e,a,b,c⟩:=Zz (mqn:=mqn) (t:=t) (n:=n) T.zero hm n n (Nat.le_refl _) (Nat.le_refl _) T.up (fun j p q=>by omega)
 refine ⟨i,?_⟩
 rw[bD,T.cn,Int.toNat_natCast,e,Int.toNat_natCast,show ((i:Int)+1)=((i+1:Nat):Int) by omega,show ((n:Int)+1)=((n+1:Nat):Int) by omega,Int.toNat_natCast,Int.toNat_natCast]
 have h1:fr t i≠mqn∨n≤i→1≤i:=fun h=>by
  rcases Nat.eq_zero_or_pos i with z | z
  · subst z
    rcases h with h | h
    · have:=b 0 o! T.lo;have:=T.zero;omega
    · have:=T.lo;omega
  · exact z
 have h3:1≤i→Int.toNat ((i:Int) - 1)=i - 1:=fun h=>by omega
 have h4:min (n - i) (n+1 -(i+1))=n - i:=by omega
 have hc:∀jd js q,(bz t jd js q).length=324:=fun jd js q=>by rw[yk];exact T.len
 have hL:1≤i→i+1<161→Ins t ((((bz t ((i+1)*2) (i*2) ((n - i)*2)).set (i*2) mqn).set (i*2+1) ((bz t ((i+1)*2) (i*2) ((n - i)*2)).g ((i - 1)*2+1))).set 322 (((((bz t ((i+1)*2) (i*2) ((n - i)*2)).set (i*2) mqn).set (i*2+1) ((bz t ((i+1)*2) (i*2) ((n - i)*2)).g ((i - 1)*2+1))).g 322)+1)) n i mqn:=fun q r=>
  Zy T.len hn T.cn q a (hc _ _ _) (fun k hk=>gK o!) (fun k p s=>by rw[Zx (by rw[T.len];omega) (by rw[T.len];omega) p o!,show k -(i+1)*2+i*2=k - 2 by omega]) (fun k hk=>gK o!) _ (by rw[us,gK o!])
 by_cases f0:i<n
 · rw[decide_eq_true (by omega:(i:Int)<(n:Int)),aj]
   by_cases f1:fr t i=mqn
   · rw[decide_eq_true (show t.g (i*2)=mqn from f1),aj]
     exact ⟨rfl,c,b,.inl ⟨f0,f1,rfl⟩⟩
   · rw[decide_eq_false (show ¬t.g (i*2)=mqn from f1),ai,decide_eq_true (show i+1<161 by omega),aj,h4,h3 (h1 (.inl f1))]
     exact ⟨rfl,c,b,.inr ⟨h1 (.inl f1),a,fun q=>by have:=b i o! q;omega,hL (h1 (.inl f1)) o!⟩⟩
 · rw[decide_eq_false (by omega:¬(i:Int)<(n:Int)),ai,ai]
   by_cases f1:i+1<161
   · rw[decide_eq_true f1,aj,h4,h3 (h1 (.inr o!))]
     exact ⟨rfl,c,b,.inr ⟨h1 (.inr o!),a,fun q=>by omega,hL (h1 (.inr o!)) f1⟩⟩
   · rw[decide_eq_false f1,ai,h3 (h1 (.inr o!))]
     have z:n - i=0:=by omega
     exact ⟨rfl,c,b,.inr ⟨h1 (.inr o!),a,fun q=>by omega,Zy T.len hn T.cn (h1 (.inr o!)) a (hc _ _ _) (fun k hk=>gK o!) (fun k p s=>by omega) (fun k hk=>gK o!) _ (by rw[us,gK o!])⟩⟩
end
end Go.Proofs.aQ
