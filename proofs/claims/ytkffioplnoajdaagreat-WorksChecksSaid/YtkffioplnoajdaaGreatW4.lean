import Derived.Test.YtkffioplnoajdaaGreatW0
import Derived.Test.YtkffioplnoajdaaGreatW1
import Derived.Test.YtkffioplnoajdaaGreatW3
import Derived.Test.YtkffioplnoajdaaGreatW2
namespace Go.Proofs.aP
open Go.Proofs Ab
set_option maxRecDepth 100000
set_option maxHeartbeats 4000000
set_option linter.unusedVariables false
set_option linter.unusedSimpArgs false
noncomputable def Eh:Code:=(Tryz.f75.body).getD .skip
theorem YO:Tryz.f75.body=some Eh:=by kernel_rfl
noncomputable def Rj:Code:=(bE Eh).getD 0 .skip
def iT (j:cz) (task:Int) (start:Int):Nat→Int→List Bool→List Int→List Tl→List Bool×List Int×List Tl
 | 0,cM,bD,oN,qg=>(bD,oN,qg)
 | dz+1,cM,bD,oN,qg=>(bif (decide (cM<((((j.ab.g task.toNat).ar).length:Nat):Int))) then iT j task start dz (cM+1) bD oN (qg.set ((((j.ab.g task.toNat).ar).g cM.toNat).ah).toNat ⟨(eC (fit (qg.g ((((j.ab.g task.toNat).ar).g cM.toNat).ah).toNat).l) (⟨start,((start+((j.ab.g task.toNat).aI)) - 1)⟩:Span) ((((j.ab.g task.toNat).ar).g cM.toNat).ay))⟩) else (bD,oN,qg))
theorem Ei {d:Nat} {h:au} (start:Int) (j:cz) (task:Int) (placedN:Nat) (startsN:Nat) (talliesN:Nat) (talliesF:Bool) (aG:List Bool) (ai:List Int) (cI:List Tl) (br:Nat) (dw:Nat) (pW:Nat) (pX:Nat) (uT:Nat) (bn:aS h ((j.ab.g task.toNat).aU) ((j.ab.g task.toNat).ar)) (b8:aS h j.aj j.ab) (ew:aS h j.ag j.af) (ma:((j.ab.g task.toNat).name).length<2^60) (Ch:b_ h .i64 3 ((j.ab.g task.toNat).aO) ((j.ab.g task.toNat).az)) (gU:aL.ok h j) (Lf:aL.ok h (j.ab.g task.toNat)) (iy:0≤task) (kr:task<(j.ab.length:Int)) (rF:aG.length=j.ab.length) (tD:ai.length=j.ab.length) (qM:∀q,q<(j.ab.g task.toNat).ar.length→0≤((j.ab.g task.toNat).ar.g q).ah∧((j.ab.g task.toNat).ar.g q).ah<(cI.length:Int)) (tF:∀a,a<(j.ab.g task.toNat).ar.length→∀b,a<b→b<(j.ab.g task.toNat).ar.length→((j.ab.g task.toNat).ar.g a).ah≠((j.ab.g task.toNat).ar.g b).ah) (UU:0≤start) (ace:start+(j.ab.g task.toNat).aI≤100000) (acf:0≤(j.ab.g task.toNat).aI) (ahw:∀q,q<(j.ab.g task.toNat).ar.length→lu 159 (cI.g (Int.toNat ((j.ab.g task.toNat).ar.g q).ah))) (afs:talliesN=cI.length) (bW:Tidy h) (AQ:h.nx≤br) (Nj:h.nx≤dw) (ab1:h.get pW=none) (ab2:h.get pX=none) (ahx:h.get uT=none) (xu:dw≠br) (Nk:pW≠br) (Nl:pW≠dw) (Nm:pX≠br) (Nn:pX≠dw) (No:pX≠pW) (acg:uT≠br) (ach:uT≠dw) (aci:uT≠pW) (acj:uT≠pX):∀(k_:Nat) (cM:Int) (bD:List Bool) (oN:List Int) (qg:List Tl) (_:((((j.ab.g task.toNat).ar).length:Nat):Int) - cM≤(k_:Int)) (_:(((0:Int)≤1)∧(0≤cM∧∀q:Nat,cM≤(q:Int)→q<(j.ab.g task.toNat).ar.length→lu 159 ((qg).g (Int.toNat ((j.ab.g task.toNat).ar.g q).ah))))) (x:Nat→AV) (hh:au) (aE:Tidy hh) (aB:Has h hh) (jv:h.nx≤hh.nx) (mo:bD.length=placedN) (K_:oN.length=startsN) (aap:qg.length=talliesN) (bj:hh.get br=some (aM.cells [j.aj,j.ag,(AV.slice pW 0 placedN placedN false),(AV.slice pX 0 startsN startsN false),(AV.slice uT 0 talliesN talliesN talliesF)] 93 false)) (dR:hh.get dw=some (aM.cells [(AV.str ((j.ab.g task.toNat).name)),(Zi ((j.ab.g task.toNat).aI)),((j.ab.g task.toNat).aO),((j.ab.g task.toNat).aU)] 44 false)) (zm:hh.get pW=some (aM.cells (bs bD) 4 false)) (zn:hh.get pX=some (aM.cells (zs .i64 oN) 3 false)) (Lg:hh.get uT=some (aM.cells (l7 qg) 148 false)),cg (σ:=List Bool×List Int×List Tl) (ρ:=Unit) (cR (d+2)) Rj ⟨((x 0)::(x 1)::(Zi start)::(Pt br)::(x 4)::(x 5)::(Pt dw)::rx x 7 18 (((j.ab.g task.toNat).aU)::(Zn (((j.ab.g task.toNat).ar).length))::(Zi cM)::rx x 28 19 [])),hh,[],.no⟩ (.exit 0) hh (fun r z y=>((y 0)::(y 1)::(Zi start)::(Pt br)::(y 4)::(y 5)::(Pt dw)::rx y 7 18 (((j.ab.g task.toNat).aU)::(Zn (((j.ab.g task.toNat).ar).length))::rx y 27 20 []))) (fun r z y=>((y 0)::(y 1)::(Zi start)::(Pt br)::(y 4)::(y 5)::(Pt dw)::rx y 7 18 (((j.ab.g task.toNat).aU)::(Zn (((j.ab.g task.toNat).ar).length))::rx y 27 20 []))) (fun r z hk=>Has h hk∧hk.get br=some (aM.cells [j.aj,j.ag,(AV.slice pW 0 placedN placedN false),(AV.slice pX 0 startsN startsN false),(AV.slice uT 0 talliesN talliesN talliesF)] 93 false)∧hk.get dw=some (aM.cells [(AV.str ((j.ab.g task.toNat).name)),(Zi ((j.ab.g task.toNat).aI)),((j.ab.g task.toNat).aO),((j.ab.g task.toNat).aU)] 44 false)∧hk.get pW=some (aM.cells (bs r.1) 4 false)∧hk.get pX=some (aM.cells (zs .i64 r.2.1) 3 false)∧hk.get uT=some (aM.cells (l7 r.2.2) 148 false)∧r.1.length=placedN∧r.2.1.length=startsN∧r.2.2.length=talliesN∧((0:Int)≤1)) (fun r z hk=>Has h hk) (Sum.inl (iT j task start k_ cM bD oN qg))
 | 0,cM,bD,oN,qg,fX,cL,x,hh,aE,aB,jv,mo,K_,aap,bj,dR,zm,zn,Lg=>by
   have cm:=bn.small
   have eJ:=b8.small
   have jA:=ew.small
   have Nt:=Ch.small
   have je:=aE _ _ bj
   have FR:=aE _ _ dR
   have ab3:=aE _ _ zm
   have ab4:=aE _ _ zn
   have ahy:=aE _ _ Lg
   have ur_:=qM cM.toNat
   have Fl:=cL.2.2 cM.toNat
   have q1:(decide (cM<((((j.ab.g task.toNat).ar).length:Nat):Int)))=false:=d!
   exact cg.out (bD,oN,qg) AV.undef rfl (pk (d+2) _ _ hh _ hh (VV (ba 3 false false .i64 cM ((((j.ab.g task.toNat).ar).length:Nat):Int))<|BB q1<|ZZ) k!) aE o! ⟨aB,bj,dR,zm,zn,Lg,l!,l!,l!,(show ((0:Int)≤1) from (by first | omega | exact ⟨by omega,by omega,zi qM tF cL.2.1 o! cL.2.2⟩))⟩ k!
 | dz+1,cM,bD,oN,qg,fX,cL,x,hh,aE,aB,jv,mo,K_,aap,bj,dR,zm,zn,Lg=>by
   have cm:=bn.small
   have eJ:=b8.small
   have jA:=ew.small
   have Nt:=Ch.small
   have je:=aE _ _ bj
   have FR:=aE _ _ dR
   have ab3:=aE _ _ zm
   have ab4:=aE _ _ zn
   have ahy:=aE _ _ Lg
   have ur_:=qM cM.toNat
   have Fl:=cL.2.2 cM.toNat
   rcases Bool.eq_false_or_eq_true (decide (cM<((((j.ab.g task.toNat).ar).length:Nat):Int))) with f0 | f0
   · have dO:=of_decide_eq_true f0
     obtain ⟨p3,q4,cX⟩:=bn.elem (i:=cM.toNat) o!
     have gv:bS env (some (.slice 88)) (some ((j.ab.g task.toNat).aU)) (some (Zi cM))=some (AV.ptr p3 q4):=by rw[show (cM:Int)=((cM.toNat:Nat):Int) by omega];exact cX
     have g5:bh env hh 88 (AV.ptr p3 q4)=some (AV.agg [(Zi ((((j.ab.g task.toNat).ar).g cM.toNat).ah)),(Zi ((((j.ab.g task.toNat).ar).g cM.toNat).ay))]):=(bn.has aB).load o! cX
     obtain ⟨h6,lx,jf,Eb,pV,cu⟩:=j_ aE (aM.cells [(Zi 0),(Zi 0)] 88 false)
     have ia:Has h h6:=aB.trans cu
     obtain ⟨h7,ks,fQ,zl,fD,bI⟩:=qL (t:=88) (n:=2) (i:=hh.nx) (L:=[(Zi ((((j.ab.g task.toNat).ar).g cM.toNat).ah)),(Zi ((((j.ab.g task.toNat).ar).g cM.toNat).ay))]) jf pV k! rfl rfl (by simp only[AV.cells,List.all_cons,List.all_nil,Bool.and_true,Bool.and_self,iO,fY,iP,iQ,eS,mg,mh,mi,mj,ml,iR])
     have eL:Has h h7:=Has.ea ia bI bW o!
     have Ad:bS env (some (.slice 148)) (some (AV.slice uT 0 talliesN talliesN talliesF)) (some (Zi ((((j.ab.g task.toNat).ar).g cM.toNat).ah)))=some (AV.ptr uT (0+((((j.ab.g task.toNat).ar).g cM.toNat).ah).toNat*324)):=IC (z:=324) (k:=((((j.ab.g task.toNat).ar).g cM.toNat).ah).toNat) k! o! o!
     have w9:IntKind.i64.wrap (start+((j.ab.g task.toNat).aI))=start+((j.ab.g task.toNat).aI):=wrap_i64 o! o!
     have w10:IntKind.i64.wrap ((start+((j.ab.g task.toNat).aI)) - 1)=(start+((j.ab.g task.toNat).aI)) - 1:=wrap_i64 o! o!
     obtain ⟨afu,ack,agl,YP,YQ,zt⟩:=mM fQ (bI _ _ o! (cu _ _ Lg))
     have acm:Has h afu:=eU eL (by first | assumption | exact cU bW o!) zt
     obtain ⟨pY,UW,mR,Lh,Ej,YR,YS⟩:=Px (d:=d) (h:=afu) (tO:=0+((((j.ab.g task.toNat).ar).g cM.toNat).ah).toNat*324) (fit (qg.g ((((j.ab.g task.toNat).ar).g cM.toNat).ah).toNat).l) (⟨start,((start+((j.ab.g task.toNat).aI)) - 1)⟩:Span) ((((j.ab.g task.toNat).ar).g cM.toNat).ay) trivial (PA (bI _ _ o! (cu _ _ Lg)) o!) (by rw[(D9 o!).2];omega) (vN _) YP (by first | omega | exact (Fl o! o!).1 | exact (Fl o! o!).2.1 | exact (Fl o! o!).2.2 | (dsimp only;omega)) (by first | omega | exact (Fl o! o!).1 | exact (Fl o! o!).2.1 | exact (Fl o! o!).2.2 | (dsimp only;omega)) (by first | omega | exact (Fl o! o!).1 | exact (Fl o! o!).2.1 | exact (Fl o! o!).2.2 | (dsimp only;omega)) (by first | omega | exact (Fl o! o!).1 | exact (Fl o! o!).2.1 | exact (Fl o! o!).2.2 | (dsimp only;omega)) (by first | omega | exact (Fl o! o!).1 | exact (Fl o! o!).2.1 | exact (Fl o! o!).2.2 | (dsimp only;omega)) ack fQ YQ o!
     have acn:pY.get uT=some (aM.cells (l7 (qg.set ((((j.ab.g task.toNat).ar).g cM.toNat).ah).toNat ⟨(eC (fit (qg.g ((((j.ab.g task.toNat).ar).g cM.toNat).ah).toNat).l) (⟨start,((start+((j.ab.g task.toNat).aI)) - 1)⟩:Span) ((((j.ab.g task.toNat).ar).g cM.toNat).ay))⟩)) 148 false):=UI o! YS YR
     have ahz:=zk (fit (qg.g ((((j.ab.g task.toNat).ar).g cM.toNat).ah).toNat).l) (⟨start,((start+((j.ab.g task.toNat).aI)) - 1)⟩:Span) ((((j.ab.g task.toNat).ar).g cM.toNat).ay) (by first | omega | exact vN _) (by first | omega | exact (Fl o! o!).1) (by first | omega | exact (Fl o! o!).2.1) (by first | omega | exact (Fl o! o!).2.2) (by first | omega | (dsimp only;omega)) (by first | omega | (dsimp only;omega))
     have iU:Has h pY:=(acm.trans Ej)
     have w13:IntKind.i64.wrap (cM+1)=cM+1:=wrap_i64 o! o!
     exact cg.round (congrArg Sum.inl (by simp only[iT,f0,cond_true,cond_false])) (pk (d+2) _ _ hh _ pY (VV (ba 3 false false .i64 cM ((((j.ab.g task.toNat).ar).length:Nat):Int))<|BV f0 gv<|MM g5<|NN lx (fun i=>(Pt i))<|SS ks<|CC<|MM (aw 91 4 (AV.slice uT 0 talliesN talliesN talliesF) (bI _ _ o! (cu _ _ bj)) k!)<|CC<|MM (aw 3 0 (Zi ((((j.ab.g task.toNat).ar).g cM.toNat).ah)) fD k!)<|VV Ad<|CN 3<|MM (aw 3 1 (Zi ((j.ab.g task.toNat).aI)) (bI _ _ o! (cu _ _ dR)) k!)<|VV (pK 3 false false w9)<|VV (uz 3 false true w10)<|CN 2<|MM (aw 3 1 (Zi ((((j.ab.g task.toNat).ar).g cM.toNat).ay)) fD k!)<|EE UW<|HH (aw 91 4 (AV.slice uT 0 talliesN talliesN talliesF) (bI _ _ o! (cu _ _ bj)) k!)<|HH (show AV.same 20 (AV.slice uT 0 talliesN talliesN talliesF) (AV.slice uT 0 talliesN talliesN talliesF)=true from jt 19 _ _ _ _ _)<|HH (aw 3 0 (Zi ((((j.ab.g task.toNat).ar).g cM.toNat).ah)) fD k!)<|HH (show AV.same 20 (Zi ((((j.ab.g task.toNat).ar).g cM.toNat).ah)) (Zi ((((j.ab.g task.toNat).ar).g cM.toNat).ah))=true from aJ 19 _ _)<|HH (aw 3 1 (Zi ((j.ab.g task.toNat).aI)) (bI _ _ o! (cu _ _ dR)) k!)<|HH (show AV.same 20 (Zi ((j.ab.g task.toNat).aI)) (Zi ((j.ab.g task.toNat).aI))=true from aJ 19 _ _)<|HH (aw 3 1 (Zi ((((j.ab.g task.toNat).ar).g cM.toNat).ay)) fD k!)<|HH (show AV.same 20 (Zi ((((j.ab.g task.toNat).ar).g cM.toNat).ay)) (Zi ((((j.ab.g task.toNat).ar).g cM.toNat).ay))=true from aJ 19 _ _)<|VV (pK 3 false true w13)<|CC<|ZZ) k!) o! _ k! (fun x=>Ei start j task placedN startsN talliesN talliesF aG ai cI br dw pW pX uT bn b8 ew ma Ch gU Lf iy kr rF tD qM tF UU ace acf ahw afs bW AQ Nj ab1 ab2 ahx xu Nk Nl Nm Nn No acg ach aci acj dz (cM+1) bD oN (qg.set ((((j.ab.g task.toNat).ar).g cM.toNat).ah).toNat ⟨(eC (fit (qg.g ((((j.ab.g task.toNat).ar).g cM.toNat).ah).toNat).l) (⟨start,((start+((j.ab.g task.toNat).aI)) - 1)⟩:Span) ((((j.ab.g task.toNat).ar).g cM.toNat).ay))⟩) (by first | omega | exact ⟨by omega,by omega,zi qM tF cL.2.1 o! cL.2.2⟩) (show (((0:Int)≤1)∧(0≤(cM+1)∧∀q:Nat,(cM+1)≤(q:Int)→q<(j.ab.g task.toNat).ar.length→lu 159 (((qg.set ((((j.ab.g task.toNat).ar).g cM.toNat).ah).toNat ⟨(eC (fit (qg.g ((((j.ab.g task.toNat).ar).g cM.toNat).ah).toNat).l) (⟨start,((start+((j.ab.g task.toNat).aI)) - 1)⟩:Span) ((((j.ab.g task.toNat).ar).g cM.toNat).ay))⟩)).g (Int.toNat ((j.ab.g task.toNat).ar.g q).ah)))) from (by first | omega | exact ⟨by omega,by omega,zi qM tF cL.2.1 o! cL.2.2⟩)) x pY mR iU o! l! l! l! (Ej _ _ ((zt _ o!).trans (bI _ _ o! (cu _ _ bj)))) (Ej _ _ ((zt _ o!).trans (bI _ _ o! (cu _ _ dR)))) (Ej _ _ ((zt _ o!).trans (bI _ _ o! (cu _ _ zm)))) (Ej _ _ ((zt _ o!).trans (bI _ _ o! (cu _ _ zn)))) acn)
   · have dO:=of_decide_eq_false f0
     exact cg.out (bD,oN,qg) AV.undef (congrArg Sum.inl (by simp only[iT,f0,cond_true,cond_false])) (pk (d+2) _ _ hh _ hh (VV (ba 3 false false .i64 cM ((((j.ab.g task.toNat).ar).length:Nat):Int))<|BB f0<|ZZ) k!) aE o! ⟨aB,bj,dR,zm,zn,Lg,l!,l!,l!,(show ((0:Int)≤1) from (by first | omega | exact ⟨by omega,by omega,zi qM tF cL.2.1 o! cL.2.2⟩))⟩ k!
def ji (j:cz) (aG:List Bool) (ai:List Int) (cI:List Tl) (task:Int) (start:Int):List Bool×List Int×List Tl:=((iT j task start (((((j.ab.g task.toNat).ar).length:Nat):Int) - 0).toNat 0 (aG.set task.toNat true) (ai.set task.toNat start) cI).1,(iT j task start (((((j.ab.g task.toNat).ar).length:Nat):Int) - 0).toNat 0 (aG.set task.toNat true) (ai.set task.toNat start) cI).2.1,(iT j task start (((((j.ab.g task.toNat).ar).length:Nat):Int) - 0).toNat 0 (aG.set task.toNat true) (ai.set task.toNat start) cI).2.2)
theorem YT {d:Nat} {h hh:au} {bL placedN bN startsN mS talliesN:Nat} {talliesF:Bool} (j:cz) (aG:List Bool) (ai:List Int) (cI:List Tl) (task:Int) (start:Int) (bH:aL.ok h j) (kt:hh.get bL=some (aM.cells (bs aG) 4 false)) (Li:aG.length=placedN) (UX:h.get bL=none) (mT:hh.get bN=some (aM.cells (zs .i64 ai) 3 false)) (UY:ai.length=startsN) (UZ:h.get bN=none) (AU:hh.get mS=some (aM.cells (l7 cI) 148 false)) (adP:cI.length=talliesN) (adQ:h.get mS=none) (lI:0≤task) (oL:task<(j.ab.length:Int)) (D2:aG.length=j.ab.length) (FK:ai.length=j.ab.length) (Rb:∀q,q<(j.ab.g task.toNat).ar.length→0≤((j.ab.g task.toNat).ar.g q).ah∧((j.ab.g task.toNat).ar.g q).ah<(cI.length:Int)) (aco:∀a,a<(j.ab.g task.toNat).ar.length→∀b,a<b→b<(j.ab.g task.toNat).ar.length→((j.ab.g task.toNat).ar.g a).ah≠((j.ab.g task.toNat).ar.g b).ah) (pre6:0≤start) (ahA:start+(j.ab.g task.toNat).aI≤100000) (ahB:0≤(j.ab.g task.toNat).aI) (ahC:∀q,q<(j.ab.g task.toNat).ar.length→lu 159 (cI.g (Int.toNat ((j.ab.g task.toNat).ar.g q).ah))) (ahD:bN≠bL) (ai2:mS≠bL) (ai3:mS≠bN) (bW:Tidy h) (aE:Tidy hh) (aB:Has h hh) (jv:h.nx≤hh.nx):∃hk,cR (d+3) (.fn 75) [(AV.agg [j.aj,j.ag,(AV.slice bL 0 placedN placedN false),(AV.slice bN 0 startsN startsN false),(AV.slice mS 0 talliesN talliesN talliesF)]),(Zi task),(Zi start)] hh= .ret (AV.tuple []) hk∧Tidy hk∧hh.nx≤hk.nx∧Has h hk∧hk.get bL=some (aM.cells (bs ((ji j aG ai cI task start).1)) 4 false)∧((ji j aG ai cI task start).1).length=placedN∧hk.get bN=some (aM.cells (zs .i64 ((ji j aG ai cI task start).2.1)) 3 false)∧((ji j aG ai cI task start).2.1).length=startsN∧hk.get mS=some (aM.cells (l7 ((ji j aG ai cI task start).2.2)) 148 false)∧((ji j aG ai cI task start).2.2).length=talliesN:=by
 have dP:=bH.1.small
 have dQ:=bH.2.small
 have U0:=aE _ _ kt
 have U1:=aE _ _ mT
 have adR:=aE _ _ AU
 obtain ⟨h1,bM,cx,jc,aQ,cA⟩:=j_ aE (aM.cells [j.aj,j.ag,(AV.slice bL 0 placedN placedN false),(AV.slice bN 0 startsN startsN false),(AV.slice mS 0 talliesN talliesN talliesF)] 93 false)
 have bt:Has h h1:=aB.trans cA
 obtain ⟨p3,q4,cX⟩:=bH.1.elem (i:=task.toNat) o!
 have gv:bS env (some (.slice 44)) (some j.aj) (some (Zi task))=some (AV.ptr p3 q4):=by rw[show (task:Int)=((task.toNat:Nat):Int) by omega];exact cX
 have g5:bh env h1 44 (AV.ptr p3 q4)=some (AV.agg [(AV.str ((j.ab.g task.toNat).name)),(Zi ((j.ab.g task.toNat).aI)),((j.ab.g task.toNat).aO),((j.ab.g task.toNat).aU)]):=(bH.1.has bt).load o! cX
 obtain ⟨h6,lx,jf,Eb,pV,cu⟩:=j_ cx (aM.cells [(AV.str []),(Zi 0),AV.aH,AV.aH] 44 false)
 have ia:Has h h6:=bt.trans cu
 have Np:AV.scalar ((j.ab.g task.toNat).aO)=true:=((bH.1.ok (i:=task.toNat) o!).2.1).scalar
 have U2:AV.scalar ((j.ab.g task.toNat).aU)=true:=((bH.1.ok (i:=task.toNat) o!).2.2).scalar
 obtain ⟨h7,ks,fQ,zl,fD,bI⟩:=qL (t:=44) (n:=4) (i:=h1.nx) (L:=[(AV.str ((j.ab.g task.toNat).name)),(Zi ((j.ab.g task.toNat).aI)),((j.ab.g task.toNat).aO),((j.ab.g task.toNat).aU)]) jf pV k! rfl rfl (by simp only[AV.cells,List.all_cons,List.all_nil,Bool.and_true,Bool.and_self,iO,fY,iP,iQ,eS,mg,mh,mi,mj,ml,iR,Np,U2])
 have eL:Has h h7:=Has.ea ia bI bW o!
 have Rl:bS env (some (.slice 4)) (some (AV.slice bL 0 placedN placedN false)) (some (Zi task))=some (AV.ptr bL task.toNat):=km k! (show task.toNat<placedN by omega) o!
 obtain ⟨l_,Ek⟩:∃IK:au,IK=h7.put bL (some (aM.cells (bs (aG.set task.toNat true)) 4 false)):=⟨_,rfl⟩
 have Lb:dL env h7 4 (AV.ptr bL task.toNat) (AV.bool true)=some l_:=by rw[Ek];exact pT k! (bI _ _ o! (cu _ _ (cA _ _ kt))) l!
 have gB:Iw h7 l_ bL (aM.cells (bs (aG.set task.toNat true)) 4 false):=by rw[Ek];exact j9 fQ (bI _ _ o! (cu _ _ (cA _ _ kt)))
 have mQ:=gB.1
 have aak:l_.nx=h7.nx:=by rw[Ek];rfl
 have uS:Has h l_:=fP gB eL (by first | assumption | exact cU bW o!)
 have Lj:bS env (some (.slice 3)) (some (AV.slice bN 0 startsN startsN false)) (some (Zi task))=some (AV.ptr bN task.toNat):=km k! (show task.toNat<startsN by omega) o!
 obtain ⟨mq,uU⟩:∃IK:au,IK=l_.put bN (some (aM.cells (zs .i64 (ai.set task.toNat start)) 3 false)):=⟨_,rfl⟩
 have oi:dL env l_ 3 (AV.ptr bN task.toNat) (Zi start)=some mq:=by rw[uU];exact D0 k! (gB.2.2 _ _ o! (bI _ _ o! (cu _ _ (cA _ _ mT)))) l!
 have lK:Iw l_ mq bN (aM.cells (zs .i64 (ai.set task.toNat start)) 3 false):=by rw[uU];exact j9 mQ (gB.2.2 _ _ o! (bI _ _ o! (cu _ _ (cA _ _ mT))))
 have ku:=lK.1
 have Lk:mq.nx=l_.nx:=by rw[uU];rfl
 have iF:Has h mq:=fP lK uS (by first | assumption | exact cU bW o!)
 have Rm:b6 (some (.slice 88)) (some ((j.ab.g task.toNat).aU))=some (Zn (((j.ab.g task.toNat).ar).length)):=((bH.1.ok (i:=task.toNat) o!).2.2).len
 obtain ⟨ai4,afv,Ss,zu,U3,aaq,acp,agm,agn,PE,PF,PG,ago,agp,agq,afw⟩:=cg.n rfl (Ei (d:=d) (h:=h) start j task placedN startsN talliesN talliesF aG ai cI hh.nx h1.nx bL bN mS ((bH.1.ok (i:=task.toNat) o!).2.2) bH.1 bH.2 ((bH.1.ok (i:=task.toNat) o!).1) ((bH.1.ok (i:=task.toNat) o!).2.1) bH (bH.1.ok (i:=task.toNat) o!) o! o! o! o! (by assumption) (by assumption) o! o! o! (by assumption) o! bW o! o! (by first | assumption | exact cU bW o!) (by first | assumption | exact cU bW o!) (by first | assumption | exact cU bW o!) o! o! o! o! o! o! o! o! o! o! (((((j.ab.g task.toNat).ar).length:Nat):Int) - 0).toNat 0 (aG.set task.toNat true) (ai.set task.toNat start) cI o! (show (((0:Int)≤1)∧(0≤0∧∀q:Nat,0≤(q:Int)→q<(j.ab.g task.toNat).ar.length→lu 159 ((cI).g (Int.toNat ((j.ab.g task.toNat).ar.g q).ah)))) from ⟨by omega,by omega,fun q _ hq=>ahC q hq⟩) (fun k_=>(((AV.agg [j.aj,j.ag,(AV.slice bL 0 placedN placedN false),(AV.slice bN 0 startsN startsN false),(AV.slice mS 0 talliesN talliesN talliesF)])::(Zi task)::(Zi start)::(Pt hh.nx)::AV.undef::AV.undef::(Pt h1.nx)::AV.undef::AV.undef::(Pt hh.nx)::(Pt hh.nx)::j.aj::(Zi task)::(AV.ptr p3 q4)::(AV.agg [(AV.str ((j.ab.g task.toNat).name)),(Zi ((j.ab.g task.toNat).aI)),((j.ab.g task.toNat).aO),((j.ab.g task.toNat).aU)])::(AV.ptr hh.nx 2)::(AV.slice bL 0 placedN placedN false)::(Zi task)::(AV.ptr hh.nx 3)::(AV.slice bN 0 startsN startsN false)::(Zi task)::(Zi start)::(AV.ptr bL task.toNat)::(AV.ptr bN task.toNat)::(AV.ptr h1.nx 3)::((j.ab.g task.toNat).aU)::(Zn (((j.ab.g task.toNat).ar).length))::(Zi 0)::g4 19):List AV).getD k_ AV.undef) mq ku iF o! l! l! l! (lK.2.2 _ _ o! (gB.2.2 _ _ o! (bI _ _ o! (cu _ _ aQ)))) (lK.2.2 _ _ o! (gB.2.2 _ _ o! fD)) (lK.2.2 _ _ o! gB.2.1) lK.2.1 (lK.2.2 _ _ o! (gB.2.2 _ _ o! (bI _ _ o! (cu _ _ (cA _ _ AU))))))
 have Ll:Has h Ss:=acp
 have e:ji j aG ai cI task start=((iT j task start (((((j.ab.g task.toNat).ar).length:Nat):Int) - 0).toNat 0 (aG.set task.toNat true) (ai.set task.toNat start) cI).1,(iT j task start (((((j.ab.g task.toNat).ar).length:Nat):Int) - 0).toNat 0 (aG.set task.toNat true) (ai.set task.toNat start) cI).2.1,(iT j task start (((((j.ab.g task.toNat).ar).length:Nat):Int) - 0).toNat 0 (aG.set task.toNat true) (ai.set task.toNat start) cI).2.2):=by simp only[ji,cond_true,cond_false]
 rw[e]
 exact kP rfl (bb Tryz.func75 YO rfl (.inl rfl) (pk (d+2) _ _ hh _ Ss (NN bM (fun i=>(Pt i))<|CN 2<|MM (aw 22 0 j.aj aQ k!)<|CC<|VV gv<|MM g5<|NN lx (fun i=>(Pt i))<|SS ks<|CC<|MM (aw 90 2 (AV.slice bL 0 placedN placedN false) (bI _ _ o! (cu _ _ aQ)) k!)<|CN 2<|MM (aw 26 3 (AV.slice bN 0 startsN startsN false) (bI _ _ o! (cu _ _ aQ)) k!)<|CN 2<|VV Rl<|SS Lb<|VV Lj<|SS oi<|HH (aw 90 2 (AV.slice bL 0 placedN placedN false) (bI _ _ o! (cu _ _ aQ)) k!)<|HH (show AV.same 20 (AV.slice bL 0 placedN placedN false) (AV.slice bL 0 placedN placedN false)=true from jt 19 _ _ _ _ _)<|HH (aw 26 3 (AV.slice bN 0 startsN startsN false) (bI _ _ o! (cu _ _ aQ)) k!)<|HH (show AV.same 20 (AV.slice bN 0 startsN startsN false) (AV.slice bN 0 startsN startsN false)=true from jt 19 _ _ _ _ _)<|HH (aw 26 3 (AV.slice bN 0 startsN startsN false) (gB.2.2 _ _ o! (bI _ _ o! (cu _ _ aQ))) k!)<|HH (show AV.same 20 (AV.slice bN 0 startsN startsN false) (AV.slice bN 0 startsN startsN false)=true from jt 19 _ _ _ _ _)<|CC<|MM (aw 42 3 ((j.ab.g task.toNat).aU) (lK.2.2 _ _ o! (gB.2.2 _ _ o! fD)) k!)<|VV Rm<|CC<|LL zu<|ZZ) k!) k!) aE U3 o! ⟨Ll,PE,l!,PF,l!,PG,l!⟩ (fun q=>⟨aB,jQ q kt PE,l!,jQ q mT PF,l!,jQ q AU PG,l!⟩)
noncomputable def wu:Code:=(Tryz.f76.body).getD .skip
theorem El:Tryz.f76.body=some wu:=by kernel_rfl
noncomputable def IL:Code:=(bE wu).getD 0 .skip
def gJ (t:List Int):Nat→Nat→Option (Bool)
 | 0,_=>none
 | dz+1,i0=>(bif (decide ((t.g 323)<(t.g (i0*2+1)))) then some false else gJ t dz (i0+1))
theorem qP {d:Nat} {h:au} (tO:Nat) (t:List Int) (tP:List AV) (tQ:List AV) (tE:TypeId) (br:Nat) (iy:0≤t.g 322) (kr:t.g 322≤161) (rF:tP.length=tO) (tD:t.length=324):∀(k_ i_:Nat) (_:i_+k_=(t.g 322).toNat) (x:Nat→AV) (hh:au) (aE:Tidy hh) (aB:Has h hh) (bj:hh.get br=some (aM.cells (tP++zs .i64 t++tQ) tE false)),aA (cR (d)) IL ⟨((AV.ptr br tO)::rx x 1 11 ((AV.slice br (tO+0) (t.g 322).toNat 161 false)::(Zn ((t.g 322).toNat))::(Zn i_)::rx x 15 11 [])),hh,[],.no⟩ (.exit 0) hh (fun y=>((AV.ptr br tO)::rx y 1 11 ((AV.slice br (tO+0) (t.g 322).toNat 161 false)::(Zn ((t.g 322).toNat))::rx y 14 12 []))) (fun r y=>((AV.ptr br tO)::(y 1)::(AV.bool r)::rx y 3 9 ((AV.slice br (tO+0) (t.g 322).toNat 161 false)::(Zn ((t.g 322).toNat))::rx y 14 12 []))) (gJ t k_ i_)
 | 0,i0,fX,x,hh,aE,aB,bj=>by
   have je:=aE _ _ bj
   have q1:(decide (((i0:Nat):Int)<(((t.g 322).toNat:Nat):Int)))=false:=d!
   exact aA.out rfl (pk (d) _ _ hh _ hh (VV (ba 3 false false .i64 ((i0:Nat):Int) (((t.g 322).toNat:Nat):Int))<|BB q1<|ZZ) k!) (bF.refl aE) k!
 | dz+1,i0,fX,x,hh,aE,aB,bj=>by
   have je:=aE _ _ bj
   have q1:(decide (((i0:Nat):Int)<(((t.g 322).toNat:Nat):Int)))=true:=d!
   have gv:bS env (some (.slice 145)) (some (AV.slice br (tO+0) (t.g 322).toNat 161 false)) (some (Zn i0))=some (AV.ptr br ((tO+0)+i0*2)):=IC (z:=2) (k:=i0) k! o! o!
   have YA:bh env hh 145 (AV.ptr br ((tO+0)+i0*2))=some (AV.agg [(Zi (t.g (i0*2))),(Zi (t.g (i0*2+1)))]):=(Q0 (j:=i0*2) (o:=tO) k! k! bj o! l! o!)
   obtain ⟨h4,Nu,nA,YU,U4,IM⟩:=j_ aE (aM.cells [(Zi 0),(Zi 0)] 145 false)
   have kQ:Has hh h4:=IM
   obtain ⟨h5,YB,lJ,aeY,Ri,U5⟩:=qL (t:=145) (n:=2) (i:=hh.nx) (L:=[(Zi (t.g (i0*2))),(Zi (t.g (i0*2+1)))]) nA U4 k! rfl rfl (by simp only[AV.cells,List.all_cons,List.all_nil,Bool.and_true,Bool.and_self,iO,fY,iP,iQ,eS,mg,mh,mi,mj,ml,iR])
   have gA:Has hh h5:=Has.ea kQ U5 aE o!
   have iV:bh env h5 3 (AV.ptr br (tO+323))=some (Zi (t.g 323)):=(eT (j:=323) (o:=tO) k! (U5 _ _ o! (IM _ _ bj)) o! l! o!)
   rcases Bool.eq_false_or_eq_true (decide ((t.g 323)<(t.g (i0*2+1)))) with f1 | f1
   · have dC:=of_decide_eq_true f1
     exact aA.ret false (by simp only[gJ,f1,cond_true,cond_false]) (pk (d) _ _ hh _ h5 (VV (ba 3 false false .i64 ((i0:Nat):Int) (((t.g 322).toNat:Nat):Int))<|BV q1 gv<|MM YA<|NN Nu (fun i=>(Pt i))<|SS YB<|CC<|MM (aw 3 1 (Zi (t.g (i0*2+1))) Ri k!)<|CN 3<|MM iV<|VV (bR 3 false false .i64 (t.g (i0*2+1)) (t.g 323))<|HH (aw 3 1 (Zi (t.g (i0*2+1))) Ri k!)<|HH (show AV.same 20 (Zi (t.g (i0*2+1))) (Zi (t.g (i0*2+1)))=true from aJ 19 _ _)<|HH iV<|HH (show AV.same 20 (Zi (t.g 323)) (Zi (t.g 323))=true from aJ 19 _ _)<|BC f1<|ZZ) k!) (⟨lJ,gA,by omega⟩) k!
   · have dC:=of_decide_eq_false f1
     have u8:=fe 3 false true i0 1 o!
     exact aA.round (by simp only[gJ,f1,cond_true,cond_false]) (pk (d) _ _ hh _ h5 (VV (ba 3 false false .i64 ((i0:Nat):Int) (((t.g 322).toNat:Nat):Int))<|BV q1 gv<|MM YA<|NN Nu (fun i=>(Pt i))<|SS YB<|CC<|MM (aw 3 1 (Zi (t.g (i0*2+1))) Ri k!)<|CN 3<|MM iV<|VV (bR 3 false false .i64 (t.g (i0*2+1)) (t.g 323))<|HH (aw 3 1 (Zi (t.g (i0*2+1))) Ri k!)<|HH (show AV.same 20 (Zi (t.g (i0*2+1))) (Zi (t.g (i0*2+1)))=true from aJ 19 _ _)<|HH iV<|HH (show AV.same 20 (Zi (t.g 323)) (Zi (t.g 323))=true from aJ 19 _ _)<|BV f1 u8<|CC<|ZZ) k!) (⟨lJ,gA,by omega⟩) _ k! (fun x=>qP tO t tP tQ tE br iy kr rF tD dz (i0+1) o! x h5 lJ (aB.trans gA) (U5 _ _ o! (IM _ _ bj)))
def ib (t:List Int):Bool:=(match (gJ t (t.g 322).toNat 0) with | none=>true | some U6=>U6)
theorem Nv {d:Nat} {h:au} {tP tQ:List AV} {tE:TypeId} (t:List Int) (tB:Nat) (tO:Nat) (wj:h.get tB=some (aM.cells (tP++zs .i64 t++tQ) tE false)) (aeS:tP.length=tO) (aeT:t.length=324) (lI:0≤t.g 322) (oL:t.g 322≤161) (bW:Tidy h):cR (d+1) (.fn 76) [(AV.ptr tB tO)] h= .ret (AV.bool (ib t)) h:=by
 have WR:bh env h 3 (AV.ptr tB (tO+322))=some (Zi (t.g 322)):=(eT (j:=322) (o:=tO) k! wj o! l! o!)
 have sl2:db env 146 (AV.ptr tB (tO+0)) (none) (some (Zi (t.g 322))) (none)=some (AV.slice tB (tO+0) (t.g 322).toNat 161 false):=K5 (e:=145) (size:=2) k! k! (hi:=(t.g 322).toNat) o! o!
 cases ky:gJ t (t.g 322).toNat 0 with
 | none=>
   obtain ⟨Ae,h4,iA,gH⟩:=aA.n ky (qP (d:=d) (h:=h) tO t tP tQ tE tB o! o! o! o! (t.g 322).toNat 0 o! (fun k_=>(((AV.ptr tB tO)::AV.undef::(AV.bool false)::AV.undef::AV.undef::(AV.ptr tB tO)::(AV.ptr tB tO)::(AV.ptr tB (tO+0))::(AV.ptr tB tO)::(AV.ptr tB tO)::(AV.ptr tB (tO+322))::(Zi (t.g 322))::(AV.slice tB (tO+0) (t.g 322).toNat 161 false)::(Zn ((t.g 322).toNat))::(Zi 0)::g4 11):List AV).getD k_ AV.undef) h bW (Has.refl _) wj)
   have nA:=gH.y
   have Lm:h.nx≤h4.nx:=gH.n
   have kQ:Has h h4:=gH.a
   have e:ib t=true:=by simp only[ib,ky,cond_true,cond_false]
   rw[e]
   exact aD rfl (bb Tryz.func76 El rfl (.inr rfl) (pk (d) _ _ h _ h4 (CN 7<|MM WR<|QQ sl2<|CN 2<|HH WR<|HH (show AV.same 20 (Zi (t.g 322)) (Zi (t.g 322))=true from aJ 19 _ _)<|LL iA<|CC<|ZZ) k!) k!) kQ rfl
 | some U6=>
   obtain ⟨Ae,h4,iA,gH⟩:=aA.r ky (qP (d:=d) (h:=h) tO t tP tQ tE tB o! o! o! o! (t.g 322).toNat 0 o! (fun k_=>(((AV.ptr tB tO)::AV.undef::(AV.bool false)::AV.undef::AV.undef::(AV.ptr tB tO)::(AV.ptr tB tO)::(AV.ptr tB (tO+0))::(AV.ptr tB tO)::(AV.ptr tB tO)::(AV.ptr tB (tO+322))::(Zi (t.g 322))::(AV.slice tB (tO+0) (t.g 322).toNat 161 false)::(Zn ((t.g 322).toNat))::(Zi 0)::g4 11):List AV).getD k_ AV.undef) h bW (Has.refl _) wj)
   have nA:=gH.y
   have Lm:h.nx≤h4.nx:=gH.n
   have kQ:Has h h4:=gH.a
   have e:ib t=U6:=by simp only[ib,ky,cond_true,cond_false]
   rw[e]
   exact aD rfl (bb Tryz.func76 El rfl (.inr rfl) (pk (d) _ _ h _ h4 (CN 7<|MM WR<|QQ sl2<|CN 2<|HH WR<|HH (show AV.same 20 (Zi (t.g 322)) (Zi (t.g 322))=true from aJ 19 _ _)<|LL iA<|ZZ) k!) k!) kQ rfl


theorem U8 {L:List Int} {d s n k:Nat} (hd:d+n≤L.length) (hs:s+n≤L.length) (h0:d≤k) (h1:k<d+n):(aR L d s n).g k=L.g (k - d+s):=by
 unfold aR
 rw[if_pos ⟨hd,hs⟩,List.g,List.g,List.getD_eq_getElem?_getD,List.getD_eq_getElem?_getD]
 rw[List.getElem?_append_left (by simp only[List.length_append,List.length_take,List.length_drop];omega),List.getElem?_append_right (by rw[List.length_take];omega),List.length_take,show min d L.length=d by omega,List.getElem?_take_of_lt o!,List.getElem?_drop,show s+(k - d)=k - d+s by omega]
def fr (t:List Int) (k:Nat):Int:=t.g (k*2)
def us (t:List Int) (k:Nat):Int:=t.g (k*2+1)
structure mU (t:List Int) (n:Nat):Prop where
 len:t.length=324
 cn:t.g 322=(n:Int)
 lo:1≤n
 hi:n≤161
 zero:fr t 0=0
 up:∀i j,i<j→j<n→fr t i<fr t j
def Ci (t:List Int) (m:Int):Nat→Int
 | 0=>0
 | k+1=>if fr t k≤m then us t k else Ci t m k
theorem sv {t:List Int} {m:Int} {i:Nat}:∀{n:Nat},i<n→(∀k,i<k→k<n→m<fr t k)→fr t i≤m→Ci t m n=us t i
 | 0,h,_,_=>by omega
 | n+1,h,a,b=>by
   rw[Ci]
   by_cases e:i=n
   · subst e;rw[if_pos b]
   · rw[if_neg (by have:=a n o! o!;omega)];exact sv o! (fun k q r=>a k q o!) b
theorem vI {t:List Int} {m:Int} (h0:fr t 0≤m):∀{n:Nat},1≤n→(∀i j,i<j→j<n→fr t i<fr t j)→∃i,i<n∧fr t i≤m∧∀k,i<k→k<n→m<fr t k
 | 0,h,_=>by omega
 | 1,_,_=>⟨0,by omega,h0,fun k a b=>by omega⟩
 | n+2,_,up=>by
   by_cases e:fr t (n+1)≤m
   · exact ⟨n+1,by omega,e,fun k a b=>by omega⟩
   · obtain ⟨i,a,b,c⟩:=vI h0 (n:=n+1) o! (fun i j p q=>up i j p o!)
     exact ⟨i,by omega,b,fun k p q=>by
      by_cases e2:k=n+1
      · subst e2;omega
      · exact c k p o!⟩
structure Ins (t t':List Int) (n i:Nat) (minute:Int):Prop where
 len:t'.length=324
 cn:t'.g 322=(n:Int)+1
 mark:t'.g 323=t.g 323
 YV:∀k,k<i→fr t' k=fr t k
 lou:∀k,k<i→us t' k=us t k
 atf:fr t' i=minute
 atu:us t' i=us t (i - 1)
 hif:∀k,i<k→k≤n→fr t' k=fr t (k - 1)
 hiu:∀k,i<k→k≤n→us t' k=us t (k - 1)
theorem U9 {t L:List Int} {n i:Nat} {minute:Int} (ln:t.length=324) (hi:n≤160) (cn:t.g 322=(n:Int)) (h1:1≤i) (h2:i≤n) (hl:L.length=324) (lo:∀k,k<i*2→L.g k=t.g k) (up:∀k,(i+1)*2≤k→k<(n+1)*2→L.g k=t.g (k - 2)) (e:∀k,322≤k→L.g k=t.g k) (x:Int) (hx:x=us t (i - 1)):
 Ins t (((L.set (i*2) minute).set (i*2+1) x).set 322 (((L.set (i*2) minute).set (i*2+1) x).g 322+1)) n i minute:=by
 have e2:((L.set (i*2) minute).set (i*2+1) x).g 322=t.g 322:=by
  rw[bf o!,bf o!,e 322 o!]
 rw[e2]
 refine ⟨by simp only[List.length_set,hl],?_,?_,fun k hk=>?_,fun k hk=>?_,?_,?_,fun k a b=>?_,fun k a b=>?_⟩
 · rw[iS (by rw[List.length_set,List.length_set,hl];omega),cn]
 · rw[bf o!,bf o!,bf o!,e 323 o!]
 · rw[fr,fr,bf o!,bf o!,bf o!,lo _ o!]
 · rw[us,us,bf o!,bf o!,bf o!,lo _ o!]
 · rw[fr,bf o!,bf o!,iS (by rw[hl];omega)]
 · rw[us,bf o!,iS (by rw[List.length_set,hl];omega),hx]
 · rw[fr,fr,bf o!,bf o!,bf o!,up _ o! o!,show k*2 - 2=(k - 1)*2 by omega]
 · rw[us,us,bf o!,bf o!,bf o!,up _ o! o!,show k*2+1 - 2=(k - 1)*2+1 by omega]
theorem U_ {minute:Int} {t:List Int} {n:Nat} (h0:fr t 0=0) (hm:0≤minute):∀(k:Nat) (v:Nat),v≤n→v≤k→(∀i j,i<j→j<n→fr t i<fr t j)→(∀j,v≤j→j<n→minute≤fr t j)→∃i:Nat,aF minute t k (v:Int)=(i:Int)∧i≤n∧(∀j,i≤j→j<n→minute≤fr t j)∧∀j,j<i→fr t j<minute
 | 0,v,a,b,up,c=>⟨v,by rw[aF],a,c,fun j h=>by omega⟩
 | k+1,v,a,b,up,c=>by
   rw[aF]
   by_cases f0:0<v
   · rw[decide_eq_true (by omega:(0:Int)<(v:Int)),cond_true,show ((v:Int) - 1)=((v - 1:Nat):Int) by omega,Int.toNat_natCast]
     by_cases f1:minute≤fr t (v - 1)
     · rw[decide_eq_true (show minute≤t.g ((v - 1)*2) from f1),cond_true]
       exact U_ h0 hm k (v - 1) o! o! up (fun j p q=>by
        by_cases e:j=v - 1
        · subst e;exact f1
        · exact c j o! q)
     · rw[decide_eq_false (show ¬minute≤t.g ((v - 1)*2) from f1),cond_false]
       exact ⟨v,rfl,a,c,fun j h=>by
        by_cases e:j=v - 1
        · subst e;omega
        · have:=up j (v - 1) o! o!;omega⟩
   · rw[decide_eq_false (by omega:¬(0:Int)<(v:Int)),cond_false];exact ⟨v,rfl,a,c,fun j h=>by omega⟩
theorem acr {t:List Int} {n:Nat} (T:mU t n) (hn:n≤160) {minute:Int} (hm:0≤minute):∃i:Nat,(bB t minute).1=(i:Int)∧(∀j,j<i→fr t j<minute)∧(∀j,i≤j→j<n→minute≤fr t j)∧((i<n∧fr t i=minute∧(bB t minute).2=t)∨(1≤i∧i≤n∧(i<n→minute<fr t i)∧Ins t (bB t minute).2 n i minute)):=by
 obtain ⟨i,e,a,b,c⟩:=U_ (minute:=minute) (t:=t) (n:=n) T.zero hm n n (Nat.le_refl _) (Nat.le_refl _) T.up (fun j p q=>by omega)
 refine ⟨i,?_⟩
 rw[bB,T.cn,Int.toNat_natCast,e,Int.toNat_natCast,show ((i:Int)+1)=((i+1:Nat):Int) by omega,show ((n:Int)+1)=((n+1:Nat):Int) by omega,Int.toNat_natCast,Int.toNat_natCast]
 have h1:fr t i≠minute∨n≤i→1≤i:=fun h=>by
  rcases Nat.eq_zero_or_pos i with z | z
  · subst z
    rcases h with h | h
    · have:=b 0 o! T.lo;have:=T.zero;omega
    · have:=T.lo;omega
  · exact z
 have h3:1≤i→Int.toNat ((i:Int) - 1)=i - 1:=fun h=>by omega
 have h4:min (n - i) (n+1 -(i+1))=n - i:=by omega
 have hc:∀jd js q,(aR t jd js q).length=324:=fun jd js q=>by rw[vK];exact T.len
 have hL:1≤i→i+1<161→Ins t ((((aR t ((i+1)*2) (i*2) ((n - i)*2)).set (i*2) minute).set (i*2+1) ((aR t ((i+1)*2) (i*2) ((n - i)*2)).g ((i - 1)*2+1))).set 322 (((((aR t ((i+1)*2) (i*2) ((n - i)*2)).set (i*2) minute).set (i*2+1) ((aR t ((i+1)*2) (i*2) ((n - i)*2)).g ((i - 1)*2+1))).g 322)+1)) n i minute:=fun q r=>
  U9 T.len hn T.cn q a (hc _ _ _) (fun k hk=>eb o!) (fun k p s=>by rw[U8 (by rw[T.len];omega) (by rw[T.len];omega) p o!,show k -(i+1)*2+i*2=k - 2 by omega]) (fun k hk=>eb o!) _ (by rw[us,eb o!])
 by_cases f0:i<n
 · rw[decide_eq_true (by omega:(i:Int)<(n:Int)),cond_true]
   by_cases f1:fr t i=minute
   · rw[decide_eq_true (show t.g (i*2)=minute from f1),cond_true]
     exact ⟨rfl,c,b,.inl ⟨f0,f1,rfl⟩⟩
   · rw[decide_eq_false (show ¬t.g (i*2)=minute from f1),cond_false,decide_eq_true (show i+1<161 by omega),cond_true,h4,h3 (h1 (.inl f1))]
     exact ⟨rfl,c,b,.inr ⟨h1 (.inl f1),a,fun q=>by have:=b i o! q;omega,hL (h1 (.inl f1)) o!⟩⟩
 · rw[decide_eq_false (by omega:¬(i:Int)<(n:Int)),cond_false]
   by_cases f1:i+1<161
   · rw[decide_eq_true f1,cond_true,h4,h3 (h1 (.inr o!))]
     exact ⟨rfl,c,b,.inr ⟨h1 (.inr o!),a,fun q=>by omega,hL (h1 (.inr o!)) f1⟩⟩
   · rw[decide_eq_false f1,cond_false,h3 (h1 (.inr o!))]
     have z:n - i=0:=by omega
     exact ⟨rfl,c,b,.inr ⟨h1 (.inr o!),a,fun q=>by omega,U9 T.len hn T.cn (h1 (.inr o!)) a (hc _ _ _) (fun k hk=>eb o!) (fun k p s=>by omega) (fun k hk=>eb o!) _ (by rw[us,eb o!])⟩⟩
theorem mU.le {t:List Int} {n:Nat} (T:mU t n) {i j:Nat} (h:i≤j) (hj:j<n):fr t i≤fr t j:=by
 rcases Nat.eq_or_lt_of_le h with e | e
 · subst e;exact Int.le_refl _
 · exact Int.le_of_lt (T.up i j e hj)
theorem Rn {t t':List Int} {n i:Nat} {minute:Int} (T:mU t n) (hn:n≤160) (I:Ins t t' n i minute) (c:∀j,j<i→fr t j<minute) (b:i<n→minute<fr t i) (h1:1≤i) (h2:i≤n):mU t' (n+1):=by
 refine ⟨I.len,by rw[I.cn];omega,by omega,by omega,by rw[I.YV 0 o!];exact T.zero,fun a e hae he=>?_⟩
 rcases Nat.lt_trichotomy e i with q | q | q
 · rw[I.YV _ q,I.YV _ o!];exact T.up a e hae o!
 · subst q;rw[I.atf,I.YV _ hae];exact c a hae
 · rw[I.hif e q o!]
   rcases Nat.lt_trichotomy a i with r | r | r
   · rw[I.YV _ r];exact T.up a (e - 1) o! o!
   · subst r;rw[I.atf]
     have:=b o!;have:=T.le (i:=a) (j:=e - 1) o! o!;omega
   · rw[I.hif a r o!];exact T.up (a - 1) (e - 1) o! o!
theorem YW {t t':List Int} {n i:Nat} {minute:Int} (T:mU t n) (I:Ins t t' n i minute) (c:∀j,j<i→fr t j<minute) (b:i<n→minute<fr t i) (h1:1≤i) (h2:i≤n) {m:Int} (hm:0≤m):Ci t' m (n+1)=Ci t m n:=by
 obtain ⟨k,k1,k2,k3⟩:=vI (t:=t) (m:=m) (by rw[T.zero];exact hm) T.lo T.up
 rw[sv k1 k3 k2]
 by_cases e:i≤k
 · have hb:=b o!
   have hl:=T.le e k1
   rw[sv (i:=k+1) o! (fun q p r=>by rw[I.hif q o! o!];exact k3 (q - 1) o! o!) (by rw[I.hif _ o! o!];exact k2),I.hiu _ o! o!]
   rfl
 · by_cases f:minute≤m
   · have hk:k=i - 1:=by
      rcases Nat.lt_or_ge k (i - 1) with q | q
      · have:=k3 (i - 1) q o!;have:=c (i - 1) o!;omega
      · omega
     rw[sv (i:=i) o! (fun q p r=>by rw[I.hif q p o!];exact k3 (q - 1) o! o!) (by rw[I.atf];exact f),I.atu,hk]
   · rw[sv (i:=k) o! (fun q p r=>by
      rcases Nat.lt_trichotomy q i with s | s | s
      · rw[I.YV _ s];exact k3 q p o!
      · subst s;rw[I.atf];omega
      · rw[I.hif q s o!]
        have:=b o!;have:=T.le (i:=i) (j:=q - 1) o! o!;omega) (by rw[I.YV _ o!];exact k2),I.lou _ o!]
theorem Ln {t:List Int} {n:Nat} (T:mU t n) (hn:n≤160) {minute:Int} (hm:0≤minute):∃i n':Nat,(bB t minute).1=(i:Int)∧mU (bB t minute).2 n'∧n≤n'∧n'≤n+1∧i<n'∧fr (bB t minute).2 i=minute∧(∀m,0≤m→Ci (bB t minute).2 m n'=Ci t m n)∧(bB t minute).2.g 323=t.g 323∧(∀k,k<n→fr t k<minute→fr (bB t minute).2 k=fr t k)∧(∀k,k<n'→∃q,q<n∧us (bB t minute).2 k=us t q)∧∀k,k<n'→fr (bB t minute).2 k=minute∨∃q,q<n∧fr (bB t minute).2 k=fr t q:=by
 obtain ⟨i,e,c,b,h⟩:=acr T hn hm
 rcases h with ⟨h1,h2,h3⟩ | ⟨h1,h2,h3,I⟩
 · rw[h3]
   exact ⟨i,n,e,T,Nat.le_refl _,by omega,h1,h2,fun m _=>rfl,rfl,fun k _ _=>rfl,fun k hk=>⟨k,hk,rfl⟩,fun k hk=> .inr ⟨k,hk,rfl⟩⟩
 · refine ⟨i,n+1,e,Rn T hn I c h3 h1 h2,by omega,by omega,by omega,I.atf,fun m hm=>YW T I c h3 h1 h2 hm,I.mark,fun k hk hf=>?_,fun k hk=>?_,fun k hk=>?_⟩
   · rcases Nat.lt_or_ge k i with q | q
     · exact I.YV k q
     · have:=b k q hk;omega
   · rcases Nat.lt_trichotomy k i with q | q | q
     · exact ⟨k,by omega,I.lou k q⟩
     · subst q;exact ⟨k - 1,by omega,I.atu⟩
     · exact ⟨k - 1,by omega,I.hiu k q o!⟩
   · rcases Nat.lt_trichotomy k i with q | q | q
     · exact .inr ⟨k,by omega,I.YV k q⟩
     · subst q;exact .inl I.atf
     · exact .inr ⟨k - 1,by omega,I.hif k q o!⟩
theorem G9 {pieces:Int} {t:List Int} {s:Span} {e:Nat} (he:(bB ((bB t s.a_).2) (s.aN+1)).1=(e:Int)) (h1:e≤161):∀(kq v:Nat) (a:List Int),a.length=324→e≤v+kq→(∀k,v≤k→k<e→-9223372036854775808≤us a k+pieces∧us a k+pieces<9223372036854775808)→
 (eV pieces t s kq (v:Int) a).length=324∧(∀k,fr (eV pieces t s kq (v:Int) a) k=fr a k)∧(∀k,v≤k→k<e→us (eV pieces t s kq (v:Int) a) k=us a k+pieces)∧∀k,k<v∨e≤k→us (eV pieces t s kq (v:Int) a) k=us a k
 | 0,v,a,ha,hv,hw=>by rw[eV];exact ⟨ha,fun k=>rfl,fun k p q=>by omega,fun k _=>rfl⟩
 | kq+1,v,a,ha,hv,hw=>by
   rw[eV,he]
   by_cases f:v<e
   · rw[decide_eq_true (by omega:(v:Int)<(e:Int)),cond_true,Int.toNat_natCast,show ((v:Int)+1)=((v+1:Nat):Int) by omega]
     have hq:=hw v (Nat.le_refl _) f
     rw[wrap_i64 (n:=a.g (v*2+1)+pieces) hq.1 hq.2]
     have hs:∀k,k≠v→us (a.set (v*2+1) (a.g (v*2+1)+pieces)) k=us a k:=fun k hk=>by rw[us,us,bf o!]
     obtain ⟨r1,r2,r3,r4⟩:=G9 he h1 kq (v+1) (a.set (v*2+1) (a.g (v*2+1)+pieces)) (by rw[List.length_set];exact ha) o! (fun k p q=>by rw[hs k o!];exact hw k o! q)
     refine ⟨r1,fun k=>by rw[r2,fr,fr,bf o!],fun k p q=>?_,fun k p=>?_⟩
     · by_cases z:k=v
       · subst z;rw[r4 k (.inl o!),us,iS (by rw[ha];omega)];rfl
       · rw[r3 k o! q,hs k z]
     · rw[r4 k o!,hs k o!]
   · rw[decide_eq_false (by omega:¬(v:Int)<(e:Int)),cond_false]
     exact ⟨ha,fun k=>rfl,fun k p q=>by omega,fun k _=>rfl⟩
theorem U' {t:List Int} {n:Nat} (T:mU t n) (hn:n≤159) {s:Span} {pieces B C:Int} (hC:∀k,k<n→fr t k≤C) (hs:s.aN<C) (h0:0≤s.a_) (h1:s.a_≤s.aN) (hp:0≤pieces) (hb:∀k,k<n→0≤us t k∧us t k≤B) (hB:B+pieces<9223372036854775808):
 ∃n':Nat,mU (eC t s pieces) n'∧n'≤n+2∧(∀m,0≤m→Ci (eC t s pieces) m n'=Ci t m n+if s.a_≤m∧m≤s.aN then pieces else 0)∧(eC t s pieces).g 323=t.g 323∧(∀k,k<n'→0≤us (eC t s pieces) k∧us (eC t s pieces) k≤B+pieces)∧∀k,k<n'→fr (eC t s pieces) k≤C:=by
 obtain ⟨i1,n1,e1,T1,a1,b1,c1,d1,l1,m1,k1,u1,v1⟩:=Ln T o! h0
 obtain ⟨i2,n2,e2,T2,a2,b2,c2,d2,l2,m2,k2,u2,v2⟩:=Ln T1 o! (show 0≤s.aN+1 by omega)
 have f1:fr (bB ((bB t s.a_).2) (s.aN+1)).2 i1=s.a_:=by rw[k2 i1 c1 o!,d1]
 have hb2:∀k,k<n2→0≤us (bB ((bB t s.a_).2) (s.aN+1)).2 k∧us (bB ((bB t s.a_).2) (s.aN+1)).2 k≤B:=fun k hk=>by
  obtain ⟨q,hq,eq⟩:=u2 k hk
  obtain ⟨r,hr,er⟩:=u1 q hq
  rw[eq,er];exact hb r hr
 have hf2:∀k,k<n2→fr (bB ((bB t s.a_).2) (s.aN+1)).2 k≤C:=fun k hk=>by
  rcases v2 k hk with e | ⟨q,hq,e⟩
  · omega
  · rw[e]
    rcases v1 q hq with e | ⟨r,hr,e⟩
    · omega
    · rw[e];exact hC r hr
 have i12:i1<i2:=by
  rcases Nat.lt_or_ge i1 i2 with q | q
  · exact q
  · have:=T2.le q (by omega:i1<n2);omega
 have hu:eC t s pieces=eV pieces t s (i2 - i1) (i1:Int) (bB ((bB t s.a_).2) (s.aN+1)).2:=by
  rw[eC,decide_eq_false (show ¬s.aN<s.a_ by omega),cond_false,e1,e2,show Int.toNat ((i2:Int) -(i1:Int))=i2 - i1 by omega]
 rw[hu]
 generalize ht:(bB ((bB t s.a_).2) (s.aN+1)).2=t2 at *
 have hi:=T2.hi
 obtain ⟨r1,r2,r3,r4⟩:=G9 (pieces:=pieces) (t:=t) (s:=s) e2 o! (i2 - i1) i1 t2 T2.len o! (fun k p q=>by have:=hb2 k o!;omega)
 generalize eV pieces t s (i2 - i1) (i1:Int) t2=r at *
 have TR:mU r n2:=⟨r1,by rw[show r.g 322=t2.g 322 from r2 161];exact T2.cn,T2.lo,T2.hi,by rw[r2];exact T2.zero,fun a b p q=>by rw[r2,r2];exact T2.up a b p q⟩
 refine ⟨n2,TR,by omega,fun m hm=>?_,?_,fun k hk=>?_,fun k hk=>by rw[r2];exact hf2 k hk⟩
 · rw[←l1 m hm,←l2 m hm]
   obtain ⟨k,q1,q2,q3⟩:=vI (t:=t2) (m:=m) (by rw[T2.zero];exact hm) T2.lo T2.up
   rw[sv q1 q3 q2,sv q1 (fun j p q=>by rw[r2];exact q3 j p q) (by rw[r2];exact q2)]
   by_cases z:i1≤k
   · have y1:=T2.le z q1
     by_cases w:k<i2
     · have y2:=q3 i2 w c2
       rw[r3 k z w,if_pos ⟨by omega,by omega⟩]
     · have y2:=T2.le (show i2≤k by omega) q1
       rw[r4 k o!,if_neg o!];omega
   · have y1:=q3 i1 o! o!
     rw[r4 k o!,if_neg o!];omega
 · have:=r4 161 (.inr o!);unfold us at this;rw[show r.g 323=t2.g 323 from this,m2,m1]
 · have hbk:=hb2 k hk
   by_cases z:i1≤k∧k<i2
   · rw[r3 k z.1 z.2];omega
   · rw[r4 k o!];omega
theorem mU.nn {t:List Int} {n:Nat} (T:mU t n) {k:Nat} (h:k<n):0≤fr t k:=by
 have:=T.le (Nat.zero_le k) h;rw[T.zero] at this;exact this
theorem mU.Ci {t:List Int} {n:Nat} (T:mU t n) {k:Nat} (h:k<n) {m:Int} (h0:fr t k≤m) (h1:k+1<n→m<fr t (k+1)):Ci t m n=us t k:=
 sv h (fun j p q=>by have:=h1 o!;have:=T.le (i:=k+1) (j:=j) o! q;omega) h0
theorem PH {t:List Int}:∀(k i:Nat),(gJ t k i=none∧∀j,i≤j→j<i+k→us t j≤t.g 323)∨(gJ t k i=some false∧∃j,i≤j∧j<i+k∧t.g 323<us t j)
 | 0,i=> .inl ⟨by rw[gJ],fun j p q=>by omega⟩
 | k+1,i=>by
   rw[gJ]
   by_cases f:t.g 323<us t i
   · rw[decide_eq_true (show t.g 323<t.g (i*2+1) from f),cond_true]
     exact .inr ⟨rfl,i,Nat.le_refl _,by omega,f⟩
   · rw[decide_eq_false (show ¬t.g 323<t.g (i*2+1) from f),cond_false]
     rcases PH (t:=t) k (i+1) with ⟨e,g⟩ | ⟨e,j,a,b,c⟩
     · exact .inl ⟨e,fun j p q=>by
        by_cases z:j=i
        · subst z;omega
        · exact g j o! o!⟩
     · exact .inr ⟨e,j,by omega,by omega,c⟩
theorem Ro {t:List Int} {n:Nat} (T:mU t n):ib t=true↔∀k,k<n→us t k≤t.g 323:=by
 rw[ib,T.cn,Int.toNat_natCast]
 rcases PH (t:=t) n 0 with ⟨e,g⟩ | ⟨e,j,a,b,c⟩
 · rw[e];exact ⟨fun _ k hk=>g k (Nat.zero_le _) o!,fun _=>rfl⟩
 · rw[e];exact ⟨fun q=>(by cases q),fun q=>by have:=q j o!;omega⟩
theorem Va {t:List Int} {n:Nat} (T:mU t n):ib t=true↔∀m,0≤m→Ci t m n≤t.g 323:=by
 rw[Ro T]
 constructor
 · intro h m hm
   obtain ⟨k,a,b,c⟩:=vI (t:=t) (m:=m) (by rw[T.zero];exact hm) T.lo T.up
   rw[sv a c b];exact h k a
 · intro h k hk
   have:=h (fr t k) (T.nn hk)
   rw[T.Ci hk (Int.le_refl _) (fun q=>T.up k (k+1) o! q)] at this
   exact this
def IN (ay:Int):List Int:=List.replicate 322 0++[1,ay]
theorem CK {ay:Int} {k:Nat} (h:k<322):(IN ay).g k=0:=by
 rw[IN,List.g,List.getD_eq_getElem?_getD,List.getElem?_append_left (by rw[List.length_replicate];exact h),List.getElem?_replicate,if_pos h];rfl
theorem Em (ay:Int):mU (IN ay) 1:=
 ⟨rfl,rfl,Nat.le_refl _,by decide,CK (by decide),fun i j p q=>by omega⟩
theorem Vb (ay:Int) {m:Int} (hm:0≤m):Ci (IN ay) m 1=0:=by
 rw[Ci,if_pos (by rw[(Em ay).zero];exact hm),us,CK (by decide)]
theorem YX (ay:Int) {k:Nat} (h:k<1):us (IN ay) k=0:=CK o!
theorem YY (ay:Int) {k:Nat} (h:k<1):fr (IN ay) k=0:=CK o!
def Vc (s:Span) (m p:Int):Int:=if s.a_≤m∧m≤s.aN then p else 0
structure qQ (t:List Int) (n:Nat) (B C:Int):Prop where
 is:mU t n
 u:∀k,k<n→0≤us t k∧us t k≤B
 f:∀k,k<n→fr t k≤C
theorem acs (ay:Int) {C:Int} (hC:0≤C):qQ (IN ay) 1 0 C:=
 ⟨Em ay,fun k h=>by rw[YX ay h];omega,fun k h=>by rw[YY ay h];exact hC⟩
theorem PI {t:List Int} {n:Nat} {B C:Int} (T:qQ t n B C) (hn:n≤159) {s:Span} {p:Int} (h0:0≤s.a_) (hs:s.aN<C) (hp:0≤p) (hB:B+p<9223372036854775808):
 ∃n':Nat,qQ (eC t s p) n' (B+p) C∧n'≤n+2∧(∀m,0≤m→Ci (eC t s p) m n'=Ci t m n+Vc s m p)∧(eC t s p).g 323=t.g 323:=by
 by_cases h:s.a_≤s.aN
 · obtain ⟨n',a,b,c,d,e,f⟩:=U' T.is hn T.f hs h0 h hp T.u hB
   exact ⟨n',⟨a,e,f⟩,b,c,d⟩
 · have hw:eC t s p=t:=by rw[eC,decide_eq_true (show s.aN<s.a_ by omega),cond_true]
   rw[hw]
   exact ⟨n,⟨T.is,fun k hk=>by have:=T.u k hk;omega,T.f⟩,by omega,fun m _=>by rw[Vc,if_neg o!];omega,rfl⟩
def sw (t:List Int) (l:List (Span×Int)):List Int:=l.foldl (fun t x=>eC t x.1 x.2) t
def FT (l:List (Span×Int)) (m:Int):Int:=(l.map fun x=>Vc x.1 m x.2).sum
def zv (l:List (Span×Int)):Int:=(l.map fun x=>x.2).sum
theorem PJ:∀{l:List (Span×Int)},(∀x∈l,0≤x.2)→0≤zv l
 | [],_=>Int.le_refl _
 | x::l,h=>by
   have a:=h x (.head _)
   have b:=PJ (l:=l) fun y hy=>h y (.tail _ hy)
   show 0≤((x::l).map fun x=>x.2).sum
   rw[List.map_cons,List.sum_cons];unfold zv at b;omega
theorem Lp {C:Int}:∀(l:List (Span×Int)) (t:List Int) (n:Nat) (B:Int),qQ t n B C→n+2*l.length≤161→(∀x∈l,0≤x.1.a_∧x.1.aN<C∧0≤x.2)→B+zv l<9223372036854775808→
 ∃n':Nat,qQ (sw t l) n' (B+zv l) C∧n'≤n+2*l.length∧(∀m,0≤m→Ci (sw t l) m n'=Ci t m n+FT l m)∧(sw t l).g 323=t.g 323
 | [],t,n,B,T,hn,hx,hB=>⟨n,by rw[show B+zv []=B from Int.add_zero B];exact T,by simp,fun m _=>(Int.add_zero _).symm,rfl⟩
 | x::l,t,n,B,T,hn,hx,hB=>by
   have hp:zv (x::l)=x.2+zv l:=by unfold zv;rw[List.map_cons,List.sum_cons]
   have hq:0≤zv l:=PJ fun y hy=>(hx y (.tail _ hy)).2.2
   have h1:=hx x (.head _)
   rw[List.length_cons] at hn
   obtain ⟨n1,a,b,c,d⟩:=PI T o! (s:=x.1) (p:=x.2) h1.1 h1.2.1 h1.2.2 o!
   obtain ⟨n2,a2,b2,c2,d2⟩:=Lp l (eC t x.1 x.2) n1 (B+x.2) a o! (fun y hy=>hx y (.tail _ hy)) o!
   refine ⟨n2,?_,by rw[List.length_cons];omega,fun m hm=>?_,d2.trans d⟩
   · rw[show B+zv (x::l)=B+x.2+zv l by omega];exact a2
   · show Ci (sw (eC t x.1 x.2) l) m n2=_
     rw[c2 m hm,c m hm]
     show _=Ci t m n+((x::l).map fun x=>Vc x.1 m x.2).sum
     rw[List.map_cons,List.sum_cons];unfold FT;omega
theorem Nw {α:Type} [Inhabited α] {l:List α} {v:Nat} (h:v<l.length):l.drop v=l.g v::l.drop (v+1):=by
 rw[List.drop_eq_getElem_cons h,List.g,List.getD_eq_getElem?_getD,List.getElem?_eq_getElem h];rfl
def dt (L:List Tl) (us:List jh) (sp:Span):List Tl:=us.foldl (fun L u=>L.set (Int.toNat u.ah) ⟨eC (fit (L.g (Int.toNat u.ah)).l) sp u.ay⟩) L
theorem G_ {j:cz} {task start:Int}:∀(kq v:Nat) (a:List Bool) (b:List Int) (c:List Tl),(j.ab.g (Int.toNat task)).ar.length≤v+kq→iT j task start kq (v:Int) a b c=(a,b,dt c ((j.ab.g (Int.toNat task)).ar.drop v) ⟨start,start+(j.ab.g (Int.toNat task)).aI - 1⟩)
 | 0,v,a,b,c,h=>by rw[iT,List.drop_eq_nil_of_le o!];rfl
 | kq+1,v,a,b,c,h=>by
   rw[iT]
   by_cases f:v<(j.ab.g (Int.toNat task)).ar.length
   · rw[decide_eq_true (by omega:(v:Int)<((j.ab.g (Int.toNat task)).ar.length:Int)),cond_true,show ((v:Int)+1)=((v+1:Nat):Int) by omega,G_ kq (v+1) _ _ _ o!,Int.toNat_natCast,Nw f]
     rfl
   · rw[decide_eq_false (by omega:¬(v:Int)<((j.ab.g (Int.toNat task)).ar.length:Int)),cond_false,List.drop_eq_nil_of_le o!];rfl
theorem Ve (j:cz) (aG:List Bool) (ai:List Int) (cI:List Tl) (task start:Int):ji j aG ai cI task start=(aG.set (Int.toNat task) true,ai.set (Int.toNat task) start,dt cI (j.ab.g (Int.toNat task)).ar ⟨start,start+(j.ab.g (Int.toNat task)).aI - 1⟩):=by
 rw[ji,show (0:Int)=((0:Nat):Int) from rfl,G_ _ _ _ _ _ o!,List.drop_zero]
theorem Lq (us:List jh) (sp:Span):∀L:List Tl,(dt L us sp).length=L.length:=by
 induction us with
 | nil=>intro L;rfl
 | cons u us ih=>intro L;show (dt (L.set _ _) us sp).length=_;rw[ih,List.length_set]
def Dis (us:List jh):Prop:=us.Pairwise fun a b=>Int.toNat a.ah≠Int.toNat b.ah
theorem Nx {sp:Span} {r:Nat}:∀(us:List jh) (L:List Tl),Dis us→(∀u∈us,Int.toNat u.ah<L.length)→
 (∃u∈us,Int.toNat u.ah=r∧(dt L us sp).g r=⟨eC (fit (L.g r).l) sp u.ay⟩)∨((∀u∈us,Int.toNat u.ah≠r)∧(dt L us sp).g r=L.g r)
 | [],L,_,_=> .inr ⟨(fun _ h=>by cases h),rfl⟩
 | u::us,L,hd,hr=>by
   obtain ⟨h1,h2⟩:=List.pairwise_cons.1 hd
   have hu:=hr u (.head _)
   have ih:=Nx (sp:=sp) (r:=r) us (L.set (Int.toNat u.ah) ⟨eC (fit (L.g (Int.toNat u.ah)).l) sp u.ay⟩) h2 fun x hx=>by rw[List.length_set];exact hr x (.tail _ hx)
   have e:dt L (u::us) sp=dt (L.set (Int.toNat u.ah) ⟨eC (fit (L.g (Int.toNat u.ah)).l) sp u.ay⟩) us sp:=rfl
   rw[e]
   by_cases hur:Int.toNat u.ah=r
   · rcases ih with ⟨x,hx,ex,_⟩ | ⟨hn,g⟩
     · exact absurd (hur.trans ex.symm) (h1 x hx)
     · refine .inl ⟨u,.head _,hur,?_⟩
       rw[g,hur,Rc o!]
   · rcases ih with ⟨x,hx,ex,g⟩ | ⟨hn,g⟩
     · exact .inl ⟨x,.tail _ hx,ex,by rw[g,AR hur]⟩
     · refine .inr ⟨fun x hx=>?_,by rw[g,AR hur]⟩
       cases hx with
       | head=>exact hur
       | tail _ hx=>exact hn x hx
theorem Vf {us:List jh} (h0:∀q,q<us.length→0≤(us.g q).ah) (hd:∀a,a<us.length→∀b,a<b→b<us.length→(us.g a).ah≠(us.g b).ah):Dis us:=by
 have hg:∀q (h:q<us.length),us.g q=us[q]:=fun q h=>by rw[List.g,List.getD_eq_getElem?_getD,List.getElem?_eq_getElem h];rfl
 refine List.pairwise_iff_getElem.2 fun a b ha hb ZS e=>?_
 have:=hd a ha b ZS hb
 have x:=h0 a ha
 have y:=h0 b hb
 rw[hg a ha,hg b hb] at this
 rw[hg a ha] at x
 rw[hg b hb] at y
 omega
theorem G' {α:Type} [Inhabited α] {l:List α} {x:α} (h:x∈l):∃i,i<l.length∧l.g i=x:=by
 obtain ⟨i,hi,e⟩:=List.mem_iff_getElem.1 h
 exact ⟨i,hi,by rw[List.g,List.getD_eq_getElem?_getD,List.getElem?_eq_getElem hi];exact e⟩
theorem lu.use {c:Int} {t:Tl} (h:lu c t) (hc:c≤159) {sp:Span} {p:Int} (h0:0≤sp.a_) (h1:sp.aN≤100000000):lu (c+2) ⟨eC (fit t.l) sp p⟩:=by
 obtain ⟨a,b,c',d,e⟩:=zk (fit t.l) sp p (vN _) h.1 (Int.le_trans h.2.1 hc) h.2.2 h0 h1
 have:=h.2.1
 unfold lu
 rw[xq e]
 exact ⟨a,by omega,c'⟩
theorem Vg (j:cz) (aG:List Bool) (ai:List Int) (cI:List Tl) (task start:Int) (ur:∀q,q<(j.ab.g (Int.toNat task)).ar.length→0≤((j.ab.g (Int.toNat task)).ar.g q).ah∧((j.ab.g (Int.toNat task)).ar.g q).ah<(cI.length:Int)) (ud:∀a,a<(j.ab.g (Int.toNat task)).ar.length→∀b,a<b→b<(j.ab.g (Int.toNat task)).ar.length→((j.ab.g (Int.toNat task)).ar.g a).ah≠((j.ab.g (Int.toNat task)).ar.g b).ah) (h0:0≤start) (h1:start+(j.ab.g (Int.toNat task)).aI≤100000):
 (ji j aG ai cI task start).2.2.length=cI.length∧∀c:Int,c≤159→(∀r,r<cI.length→lu c (cI.g r))→∀r,r<cI.length→lu (c+2) ((ji j aG ai cI task start).2.2.g r):=by
 rw[Ve]
 refine ⟨Lq _ _ _,fun c hc ht r hr=>?_⟩
 have hd:=Vf (fun q hq=>(ur q hq).1) ud
 rcases Nx (sp:=⟨start,start+(j.ab.g (Int.toNat task)).aI - 1⟩) (r:=r) _ cI hd (fun u hu=>by
  obtain ⟨i,hi,e⟩:=G' hu
  have:=ur i hi
  rw[e] at this;omega) with ⟨u,_,_,g⟩ | ⟨_,g⟩
 · show lu (c+2) ((dt _ _ _).g r)
   rw[g];exact (ht r hr).use hc h0 (by dsimp only;omega)
 · show lu (c+2) ((dt _ _ _).g r)
   rw[g];exact (ht r hr).le o!
theorem Lr {j:cz} {i:Nat}:∀(kq v:Nat) (a:List Int),(j.af.g i).off.length≤v+kq→cS j i kq (v:Int) a=sw a (((j.af.g i).off.drop v).map fun s=>(s,(j.af.g i).ay))
 | 0,v,a,h=>by rw[cS,List.drop_eq_nil_of_le o!];rfl
 | kq+1,v,a,h=>by
   rw[cS]
   by_cases f:v<(j.af.g i).off.length
   · rw[decide_eq_true (by omega:(v:Int)<((j.af.g i).off.length:Int)),cond_true,show ((v:Int)+1)=((v+1:Nat):Int) by omega,Lr kq (v+1) _ o!,Int.toNat_natCast,Nw f]
     rfl
   · rw[decide_eq_false (by omega:¬(v:Int)<((j.af.g i).off.length:Int)),cond_false,List.drop_eq_nil_of_le o!];rfl
def WS (r:bJ):List Int:=sw (ct r.ay) (r.off.map fun s=>(s,r.ay))
theorem Ls {j:cz}:∀(kq i:Nat) (c:List Tl) (a:List Bool) (b:List Int),i+kq=j.af.length→cF j kq i c a b=(c++(j.af.drop i).map fun r=>⟨WS r⟩,a,b)
 | 0,i,c,a,b,h=>by rw[cF,List.drop_eq_nil_of_le o!,List.map_nil,List.append_nil]
 | kq+1,i,c,a,b,h=>by
   rw[cF,Ls kq (i+1) _ _ _ o!,Nw (show i<j.af.length by omega),List.map_cons,List.append_assoc,show (0:Int)=((0:Nat):Int) from rfl,Lr _ _ _ o!,List.drop_zero]
   rfl
theorem aar (j:cz):aK j=(j.af.map fun r=>⟨WS r⟩,List.replicate j.ab.length false,List.replicate j.ab.length 0):=by
 rw[aK,Ls _ _ _ _ _ o!];rfl
theorem Ha:∀(l:List (Span×Int)) (t:List Int) (c:Int),t.length=324→lu c ⟨t⟩→c+2*l.length≤161→(∀x∈l,0≤x.1.a_∧x.1.aN≤100000000)→(sw t l).length=324∧lu (c+2*l.length) ⟨sw t l⟩
 | [],t,c,hl,h,_,_=>⟨hl,h.le (by simp)⟩
 | x::l,t,c,hl,h,hc,hx=>by
   rw[List.length_cons] at hc ⊢
   have hx1:=hx x (.head _)
   have hf:=xq hl
   have u:=h.use (sp:=x.1) (p:=x.2) o! hx1.1 hx1.2
   rw[show (⟨t⟩:Tl).l=t from rfl,hf] at u
   obtain ⟨a,b,c',d,e⟩:=zk t x.1 x.2 hl (by have:=h.1;rw[show (⟨t⟩:Tl).l=t from rfl,hf] at this;exact this) (by have:=h.2.1;rw[show (⟨t⟩:Tl).l=t from rfl,hf] at this;omega) (by have:=h.2.2;rw[show (⟨t⟩:Tl).l=t from rfl,hf] at this;exact this) hx1.1 hx1.2
   obtain ⟨r1,r2⟩:=Ha l (eC t x.1 x.2) (c+2) e u o! fun y hy=>hx y (.tail _ hy)
   exact ⟨r1,r2.le o!⟩
theorem wx (j:cz) (ro:∀r,r<j.af.length→(j.af.g r).off.length≤16∧∀q,q<(j.af.g r).off.length→0≤((j.af.g r).off.g q).a_∧((j.af.g r).off.g q).aN≤100000):(aK j).1.length=j.af.length∧∀r,r<j.af.length→lu 33 ((aK j).1.g r):=by
 rw[aar]
 refine ⟨List.length_map _,fun r hr=>?_⟩
 have hg:((j.af.map fun r=>(⟨WS r⟩:Tl)).g r)=⟨WS (j.af.g r)⟩:=by
  rw[List.g,List.g,List.getD_eq_getElem?_getD,List.getD_eq_getElem?_getD,List.getElem?_map,List.getElem?_eq_getElem hr];rfl
 show lu 33 ((j.af.map fun r=>(⟨WS r⟩:Tl)).g r)
 rw[hg]
 obtain ⟨n1,n2,n3,n4⟩:=wq (j.af.g r).ay
 obtain ⟨ol,oo⟩:=ro r hr
 have t0:lu 1 ⟨ct (j.af.g r).ay⟩:=by
  unfold lu
  rw[show (⟨ct (j.af.g r).ay⟩:Tl).l=ct (j.af.g r).ay from rfl,xq n3]
  exact ⟨by omega,by omega,n2⟩
 have:=(Ha ((j.af.g r).off.map fun s=>(s,(j.af.g r).ay)) _ 1 n3 t0 (by rw[List.length_map];omega) (fun x hx=>by
  obtain ⟨s,hs,rfl⟩:=List.mem_map.1 hx
  obtain ⟨i,hi,e⟩:=G' hs
  have:=oo i hi
  rw[e] at this
  exact ⟨this.1,by dsimp only;omega⟩)).2
 exact this.le (by rw[List.length_map];omega)
theorem kz {X A:List Tl} {v:Int} (p:X.length=A.length∧∀c:Int,c≤159→(∀r,r<A.length→lu c (A.g r))→∀r,r<A.length→lu (c+2) (X.g r)) (i:∀r,r<A.length→lu (33+2*v) (A.g r)) (hv:v≤63):∀r,r<X.length→lu (33+2*(v+1)) (X.g r):=fun r hr=>(p.2 (33+2*v) o! i r o!).le o!
theorem sx {L:List Tl} {n:Nat} (p:L.length=n∧∀r,r<n→lu 33 (L.g r)):∀r,r<L.length→lu (33+2*0) (L.g r):=fun r hr=>(p.2 r o!).le o!
def nF:List Bool→Nat
 | []=>0
 | b::l=>(bif b then 0 else 1)+nF l
theorem xx:∀n,nF (List.replicate n false)=n
 | 0=>rfl
 | n+1=>by rw[List.replicate_succ,nF,xx n];simp;omega
theorem IP:∀{l:List Bool} {n:Nat},n<l.length→l.g n=false→nF (l.set n true)+1=nF l
 | b::l,0,_,e=>by
   have e:b=false:=e
   subst e
   simp only[List.set_cons_zero,nF,cond_true,cond_false];omega
 | b::l,n+1,h,e=>by
   have q:=IP (l:=l) (n:=n) (by simpa using h) e
   simp only[List.set_cons_succ,nF];omega
theorem Vh {l:List Bool} {n:Int} (h0:0≤n) (h1:n<l.length) (h2:l.g (Int.toNat n)=false):nF (l.set (Int.toNat n) true)+1=nF l:=IP o! h2
noncomputable def Lt:Code:=(Tryz.f78.body).getD .skip
theorem Lu:Tryz.f78.body=some Lt:=by kernel_rfl
def ly (number:Int) (ay:Int):Bool:=(bif (decide (0≤number)) then (decide (number<ay)) else false)
theorem Lv {d:Nat} {h:au} (number:Int) (ay:Int) (bW:Tidy h):cR (d+1) (.fn 78) [(Zi number),(Zi ay)] h= .ret (AV.bool (ly number ay)) h:=by
 rcases Bool.eq_false_or_eq_true (decide (0≤number)) with f0 | f0
 · have dO:=of_decide_eq_true f0
   have e:ly number ay=(decide (number<ay)):=by simp only[ly,f0,cond_true,cond_false]
   rw[e]
   exact aD rfl (bb Tryz.func78 Lu rfl (.inr rfl) (pk (d) _ _ h _ h (CN 2<|VV (lH 3 false true .i64 number 0)<|CC<|BC f0<|BC f0<|BV f0 (ba 3 false false .i64 number ay)<|VV (kI (decide (number<ay)) false f0)<|CC<|ZZ) k!) k!) (Has.refl _) rfl
 · have dO:=of_decide_eq_false f0
   have e:ly number ay=false:=by simp only[ly,f0,cond_true,cond_false]
   rw[e]
   exact aD rfl (bb Tryz.func78 Lu rfl (.inr rfl) (pk (d) _ _ h _ h (CN 2<|VV (lH 3 false true .i64 number 0)<|CC<|BB f0<|BB f0<|BV f0 (tS false f0)<|CC<|ZZ) k!) k!) (Has.refl _) rfl
theorem AW {n m:Int} (h:ly n m=true):0≤n∧n<m:=by
 unfold ly at h
 by_cases a:0≤n
 · rw[decide_eq_true a] at h;exact ⟨a,of_decide_eq_true h⟩
 · rw[decide_eq_false a] at h;cases h
theorem IQ {h:au} {e s xt:TypeId} {tys:Array TypeId} {bytes b p n:Nat} {f ro:Bool} {z0:AV} {M:List AV} (y:Tidy h) (hp:h.get p=some (.cells [] e false)) (hg:h.get b=some (.cells M e ro)) (ln:M.length=n) (Fy:M.all AV.scalar=true) (hl:n≤1000000000)
 (t0:tys[0]? =some s) (t1:tys[1]? =some xt) (hs:env.P.underlying s=some (.slice e)) (hx:env.P.underlying xt=some (.slice e)) (Uk:bU env e=some 1) (hb:ke env e=some bytes) (GY:gR env e=some z0) (hz:z0.cells.length=1) (h8:bytes≤63):
 ∃q o h',dJ env h tys (.slice p 0 0 0 false) (.slice b 0 n n f)=some (.slice q 0 n n o,h')∧Tidy h'∧h.nx≤h'.nx∧Has h h'∧h'.get q=some (.cells M e false)∧p≤q:=by
 have hi:px (.slice e)=false:=rfl
 have hlen:rf (.slice b 0 n n f)=some n:=rfl
 have pn:=y _ _ hp
 by_cases hn:n=0
 · subst hn
   have hM:M=[]:=List.length_eq_zero_iff.1 ln
   subst hM
   have hf:fA h 1 0 (.slice b 0 0 0 f)=some []:=by simp [fA,hg]
   have hgp:∀i,(h.put p (some (.cells [] e false))).get i=h.get i:=fun i=>by
    by_cases q:i=p
    · subst q;rw[au.du,hp]
    · rw[au.b5 (Ne.symm q)]
   refine ⟨p,false,h.put p (some (.cells [] e false)),?_,fun i w q=>y i w (by rw[←hgp];exact q),Nat.le_refl _,fun i w q=>by rw[hgp];exact q,by rw[hgp];exact hp,Nat.le_refl _⟩
   simp only[dJ,t0,t1,hs,hx,hi,Uk,hb,hlen,hf,GY,hz,Fy,hp,if_true,if_false,and_self,List.length_nil,Bool.false_eq_true,Nat.zero_mul,Nat.add_zero,Nat.le_refl,setFrom]
 · have hf:fA h 1 n (.slice b 0 n n f)=some M:=by
    simp only[fA,hg,Nat.le_refl,if_true,if_neg hn,Nat.mul_one,Nat.zero_add,List.drop_zero]
    rw[if_pos o!,List.take_of_length_le o!]
   obtain ⟨h',nw⟩:=xp (h:=h) (.cells M e false)
   refine ⟨h.nx,true,h',?_,oc y nw,by rw[AM nw];omega,yX y nw,vJ nw,by omega⟩
   have WJ:¬n≤0:=by omega
   have big:(4*n+4096)*(bytes+1)≤1099511627776:=Nat.le_trans (Nat.mul_le_mul (show 4*n+4096≤17179869184 by omega) (show bytes+1≤64 by omega)) (by decide)
   simp only[dJ,t0,t1,hs,hx,hi,Uk,hb,hlen,hf,GY,hz,Fy,hp,WJ,if_true,if_false,and_self,Bool.false_eq_true,Nat.zero_mul,Nat.add_zero,Nat.zero_add,List.length_nil,Nat.le_refl,ln,Nat.mul_one]
   rw[if_pos ⟨big,trivial,fun e=>e.elim⟩]
   simp only[List.drop_nil,List.take_nil,List.nil_append,nw]
theorem Rp (l:List Bool):(bs l).all AV.scalar=true:=List.all_eq_true.2 fun x hx=>by
 obtain ⟨y,_,rfl⟩:=List.mem_map.1 hx
 rfl
theorem b_.pre {k:IntKind} {h:au} {e:TypeId} {v:AV} {l:List Int} (x:b_ h k e v l) {t:TypeId} (ht:env.P.underlying t=some (.slice e)) {i:Nat} (hi:i<l.length):∃r,db env t v none (some (.int .i64 ((i:Nat):Int))) none=some r∧b_ h k e r (l.take i):=by
 rcases x.at_.block with h0 | ⟨p,o,m,c,b,C,f,ro,h1,hc,h2,h3⟩
 · omega
 · subst h1
   have hm:m=l.length:=by
    have:=x.at_.lens
    rw[iw] at this
    simp only[Option.some.injEq,AV.int.injEq,true_and] at this
    omega
   subst hm
   refine ⟨.slice p o i c b,?_,⟨⟨x.at_.size,by rw[fB,Nat.mul_one],by have:=x.small;simp;omega,?_,.inr ⟨p,o,i,c,b,C,f,ro,rfl,by omega,h2,fun j hj=>?_⟩⟩,x.agg,.inr (.inr ⟨_,_,_,_,_,rfl⟩)⟩⟩
   · simp only[db,ht,x.at_.size,hc,if_true,mm (len:=l.length) (cap:=c) none (some (.int .i64 ((i:Nat):Int))) (.inr ⟨rfl,rfl⟩) (.inl rfl) (Nat.zero_le i) o!]
     rw[if_neg o!]
     simp
   · rw[iw,List.length_take,Nat.min_eq_left (Nat.le_of_lt hi)]
   · rw[fB,List.length_take] at hj
     rw[h3 j (by rw[fB];omega),Iy k l o!,Iy k (l.take i) (by rw[List.length_take];omega)]
     rw[List.g,List.g,List.getD_eq_getElem?_getD,List.getD_eq_getElem?_getD,List.getElem?_take_of_lt o!]
theorem PK {L:List Int} {n v:Int} {i:Nat} (h:∀q,q<L.length→0≤L.g q∧L.g q<n) (h0:0≤v) (h1:v<n):∀q,q<(L.set i v).length→0≤(L.set i v).g q∧(L.set i v).g q<n:=fun q hq=>by
 rw[List.length_set] at hq
 by_cases e:i=q
 · subst e;rw[iS hq];exact ⟨h0,h1⟩
 · rw[bf e];exact h q hq
theorem YZ {m:Nat}:∀q,q<(List.replicate m (0:Int)).length→0≤(List.replicate m (0:Int)).g q∧(List.replicate m (0:Int)).g q<(m:Int):=fun q hq=>by
 rw[List.length_replicate] at hq
 rw[List.g,List.getD_eq_getElem?_getD,List.getElem?_replicate,if_pos hq]
 exact ⟨Int.le_refl _,by show (0:Int)<_;omega⟩
end Go.Proofs.aP
