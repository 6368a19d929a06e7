import Derived.Test.YtkffioplnoajdaaGreatW0
import Derived.Test.YtkffioplnoajdaaGreatW1
import Derived.Test.YtkffioplnoajdaaGreatW8
namespace Go.Proofs.aP
open Go.Proofs Ab
set_option maxRecDepth 100000
set_option maxHeartbeats 4000000
set_option linter.unusedVariables false
set_option linter.unusedSimpArgs false
noncomputable def ja:Code:=(Tryz.f30.body).getD .skip
theorem nX:Tryz.f30.body=some ja:=by kernel_rfl
noncomputable def Ct:Code:=(bE ja).getD 0 .skip
noncomputable def Cu:Code:=(bE ja).getD 1 .skip
noncomputable def Cv:Code:=(bE ja).getD 2 .skip
noncomputable def Cw:Code:=(bE ja).getD 3 .skip
def dY (i0:Nat) (x_:Task):Nat→Nat→Option (Int)
 | 0,_=>none
 | qN+1,i1=>(bif (decide ((x_.az.g i1)=(x_.az.g i0))) then some 6 else dY i0 x_ qN (i1+1))
theorem nH {d:Nat} {h:au} (i0:Nat) (j:cz) (x_:Task) (cE:Nat) (cK:Nat) (dM:aS h j.aj j.ab) (dm:aS h j.ag j.af) (l8:x_.name.length<2^60) (jV:b_ h .i64 3 x_.aO x_.az) (I7:aS h x_.aU x_.ar) (l9:aL.ok h j) (IH:aL.ok h x_) (Ea:i0<x_.az.length):∀(k_ i_:Nat) (_:i_+k_=i0) (x:Nat→AV) (hh:au) (aE:Tidy hh) (aB:Has h hh) (bZ:hh.get cE=some (aM.cells [j.aj,j.ag] 25 false)) (cf:hh.get cK=some (aM.cells [(AV.str x_.name),(Zi x_.aI),x_.aO,x_.aU] 44 false)),aA (cR (d+1)) Cu ⟨((x 0)::(x 1)::(Pt cE)::(Pt cK)::(x 4)::(Zn i0)::(Zn i_)::rx x 7 102 []),hh,[],.no⟩ (.exit 2) hh (fun y=>((y 0)::(y 1)::(Pt cE)::(Pt cK)::(y 4)::(Zn i0)::rx y 6 103 [])) (fun r y=>((y 0)::(y 1)::(Pt cE)::(Pt cK)::(Zi r)::(Zn i0)::rx y 6 103 [])) (dY i0 x_ k_ i_)
 | 0,i1,fX,x,hh,aE,aB,bZ,cf=>by
   have jy:=dM.small
   have jz:=dm.small
   have N6:=jV.small
   have adz:=I7.small
   have ss:=aE _ _ bZ
   have AS:=aE _ _ cf
   have q1:(decide (((i1:Nat):Int)<((i0:Nat):Int)))=false:=d!
   exact aA.out rfl (pk (d+1) _ _ hh _ hh (CN 2<|VV (ba 3 false false .i64 ((i1:Nat):Int) ((i0:Nat):Int))<|BB q1<|ZZ) k!) (bF.refl aE) k!
 | qN+1,i1,fX,x,hh,aE,aB,bZ,cf=>by
   have jy:=dM.small
   have jz:=dm.small
   have N6:=jV.small
   have adz:=I7.small
   have ss:=aE _ _ bZ
   have AS:=aE _ _ cf
   have q1:(decide (((i1:Nat):Int)<((i0:Nat):Int)))=true:=d!
   obtain ⟨p3,q4,cX,_⟩:=(jV.has aB).elem (i:=i1) o!
   have gv:bS env (some (.slice 3)) (some x_.aO) (some (Zn i1))=some (AV.ptr p3 q4):=cX
   have g5:bh env hh 3 (AV.ptr p3 q4)=some (Zi (x_.az.g i1)):=(jV.has aB).load o! cX
   obtain ⟨p7,q8,vm,_⟩:=(jV.has aB).elem (i:=i0) o!
   have BN:bS env (some (.slice 3)) (some x_.aO) (some (Zn i0))=some (AV.ptr p7 q8):=vm
   have xX:bh env hh 3 (AV.ptr p7 q8)=some (Zi (x_.az.g i0)):=(jV.has aB).load o! vm
   have I':AV.same 20 x_.aO x_.aO=true:=(jV.has aB).same 19
   rcases Bool.eq_false_or_eq_true (decide ((x_.az.g i1)=(x_.az.g i0))) with f1 | f1
   · have dC:=of_decide_eq_true f1
     exact aA.ret 6 (by simp only[dY,f1,cond_true,cond_false]) (pk (d+1) _ _ hh _ hh (CN 2<|VV (ba 3 false false .i64 ((i1:Nat):Int) ((i0:Nat):Int))<|BC q1<|MM (aw 26 2 x_.aO cf k!)<|CC<|VV gv<|MM g5<|CC<|MM (aw 26 2 x_.aO cf k!)<|CC<|VV BN<|MM xX<|VV (lr 3 false false .i64 (x_.az.g i1) (x_.az.g i0))<|HH (aw 26 2 x_.aO cf k!)<|HH I'<|HH g5<|HH (show AV.same 20 (Zi (x_.az.g i1)) (Zi (x_.az.g i1))=true from aJ 19 _ _)<|HH (aw 26 2 x_.aO cf k!)<|HH I'<|HH xX<|HH (show AV.same 20 (Zi (x_.az.g i0)) (Zi (x_.az.g i0))=true from aJ 19 _ _)<|BC f1<|ZZ) k!) (bF.refl aE) k!
   · have dC:=of_decide_eq_false f1
     have Rt:=fe 3 false true i1 1 o!
     exact aA.round (by simp only[dY,f1,cond_true,cond_false]) (pk (d+1) _ _ hh _ hh (CN 2<|VV (ba 3 false false .i64 ((i1:Nat):Int) ((i0:Nat):Int))<|BC q1<|MM (aw 26 2 x_.aO cf k!)<|CC<|VV gv<|MM g5<|CC<|MM (aw 26 2 x_.aO cf k!)<|CC<|VV BN<|MM xX<|VV (lr 3 false false .i64 (x_.az.g i1) (x_.az.g i0))<|HH (aw 26 2 x_.aO cf k!)<|HH I'<|HH g5<|HH (show AV.same 20 (Zi (x_.az.g i1)) (Zi (x_.az.g i1))=true from aJ 19 _ _)<|HH (aw 26 2 x_.aO cf k!)<|HH I'<|HH xX<|HH (show AV.same 20 (Zi (x_.az.g i0)) (Zi (x_.az.g i0))=true from aJ 19 _ _)<|BC f1<|VV Rt<|CC<|ZZ) k!) (bF.refl aE) _ k! (fun x=>nH i0 j x_ cE cK dM dm l8 jV I7 l9 IH Ea qN (i1+1) o! x hh aE aB bZ cf)
def cQ (x_:Task) (j:cz):Nat→Nat→Option (Int)
 | 0,_=>none
 | dz+1,i0=>(bif (decide ((x_.az.g i0)<0)) then some 7 else (bif (decide (((j.ab.length:Nat):Int)≤(x_.az.g i0))) then some 7 else (match (dY i0 x_ i0 0) with | none=>cQ x_ j dz (i0+1) | some adA=>some adA)))
theorem nI {d:Nat} {h:au} (x_:Task) (j:cz) (br:Nat) (dw:Nat) (bn:aS h j.aj j.ab) (b8:aS h j.ag j.af) (ew:x_.name.length<2^60) (ma:b_ h .i64 3 x_.aO x_.az) (Ch:aS h x_.aU x_.ar) (gU:aL.ok h j) (Lf:aL.ok h x_):∀(k_ i_:Nat) (_:i_+k_=x_.az.length) (x:Nat→AV) (hh:au) (aE:Tidy hh) (aB:Has h hh) (bj:hh.get br=some (aM.cells [j.aj,j.ag] 25 false)) (dR:hh.get dw=some (aM.cells [(AV.str x_.name),(Zi x_.aI),x_.aO,x_.aU] 44 false)),aA (cR (d+1)) Ct ⟨((x 0)::(x 1)::(Pt br)::(Pt dw)::(x 4)::(Zn i_)::rx x 6 103 []),hh,[],.no⟩ (.exit 0) hh (fun y=>((y 0)::(y 1)::(Pt br)::(Pt dw)::rx y 4 105 [])) (fun r y=>((y 0)::(y 1)::(Pt br)::(Pt dw)::(Zi r)::rx y 5 104 [])) (cQ x_ j k_ i_)
 | 0,i0,fX,x,hh,aE,aB,bj,dR=>by
   have cm:=bn.small
   have eJ:=b8.small
   have xN:=ma.small
   have Nt:=Ch.small
   have je:=aE _ _ bj
   have FR:=aE _ _ dR
   have dG:b6 (some (.slice 3)) (some x_.aO)=some (Zn x_.az.length):=(ma.has aB).len
   have q2:(decide (((i0:Nat):Int)<((x_.az.length:Nat):Int)))=false:=d!
   exact aA.out rfl (pk (d+1) _ _ hh _ hh (CN 2<|MM (aw 26 2 x_.aO dR k!)<|VV dG<|VV (ba 3 false false .i64 ((i0:Nat):Int) ((x_.az.length:Nat):Int))<|BB q2<|ZZ) k!) (bF.refl aE) k!
 | dz+1,i0,fX,x,hh,aE,aB,bj,dR=>by
   have cm:=bn.small
   have eJ:=b8.small
   have xN:=ma.small
   have Nt:=Ch.small
   have je:=aE _ _ bj
   have FR:=aE _ _ dR
   have dG:b6 (some (.slice 3)) (some x_.aO)=some (Zn x_.az.length):=(ma.has aB).len
   have q2:(decide (((i0:Nat):Int)<((x_.az.length:Nat):Int)))=true:=d!
   obtain ⟨p4,q5,iW,_⟩:=(ma.has aB).elem (i:=i0) o!
   have iG:bS env (some (.slice 3)) (some x_.aO) (some (Zn i0))=some (AV.ptr p4 q5):=iW
   have iV:bh env hh 3 (AV.ptr p4 q5)=some (Zi (x_.az.g i0)):=(ma.has aB).load o! iW
   rcases Bool.eq_false_or_eq_true (decide ((x_.az.g i0)<0)) with f1 | f1
   · have dC:=of_decide_eq_true f1
     have c8:AV.same 20 x_.aO x_.aO=true:=(ma.has aB).same 19
     exact aA.ret 7 (by simp only[cQ,f1,cond_true,cond_false]) (pk (d+1) _ _ hh _ hh (CN 2<|MM (aw 26 2 x_.aO dR k!)<|VV dG<|VV (ba 3 false false .i64 ((i0:Nat):Int) ((x_.az.length:Nat):Int))<|BC q2<|MM (aw 26 2 x_.aO dR k!)<|CC<|VV iG<|MM iV<|VV (ba 3 false true .i64 (x_.az.g i0) 0)<|CC<|BB f1<|BB f1<|BB f1<|BB f1<|BB f1<|BB f1<|BB f1<|BB f1<|BV f1 (uN true f1)<|HH (aw 26 2 x_.aO dR k!)<|HH c8<|HH iV<|HH (show AV.same 20 (Zi (x_.az.g i0)) (Zi (x_.az.g i0))=true from aJ 19 _ _)<|TT<|CC<|ZZ) k!) (bF.refl aE) k!
   · have dC:=of_decide_eq_false f1
     obtain ⟨p9,Ag,pg,_⟩:=(ma.has aB).elem (i:=i0) o!
     have Ad:bS env (some (.slice 3)) (some x_.aO) (some (Zn i0))=some (AV.ptr p9 Ag):=pg
     have kF:bh env hh 3 (AV.ptr p9 Ag)=some (Zi (x_.az.g i0)):=(ma.has aB).load o! pg
     have NF:b6 (some (.slice 44)) (some j.aj)=some (Zn j.ab.length):=(bn.has aB).len
     have JH:AV.same 20 x_.aO x_.aO=true:=(ma.has aB).same 19
     have JI:AV.same 20 j.aj j.aj=true:=(bn.has aB).same 19
     rcases Bool.eq_false_or_eq_true (decide (((j.ab.length:Nat):Int)≤(x_.az.g i0))) with f2 | f2
     · have jw:=of_decide_eq_true f2
       exact aA.ret 7 (by simp only[cQ,f1,f2,cond_true,cond_false]) (pk (d+1) _ _ hh _ hh (CN 2<|MM (aw 26 2 x_.aO dR k!)<|VV dG<|VV (ba 3 false false .i64 ((i0:Nat):Int) ((x_.az.length:Nat):Int))<|BC q2<|MM (aw 26 2 x_.aO dR k!)<|CC<|VV iG<|MM iV<|VV (ba 3 false true .i64 (x_.az.g i0) 0)<|CC<|BC f1<|BM f1 (aw 26 2 x_.aO dR k!)<|BC f1<|BV f1 Ad<|BM f1 kF<|BC f1<|BM f1 (aw 22 0 j.aj bj k!)<|BV f1 NF<|BV f1 (lH 3 false false .i64 (x_.az.g i0) ((j.ab.length:Nat):Int))<|VV (bA (a:=some (AV.bool true)) (b:=some (AV.bool (decide (((j.ab.length:Nat):Int)≤(x_.az.g i0))))) f1)<|HH (aw 26 2 x_.aO dR k!)<|HH JH<|HH iV<|HH (show AV.same 20 (Zi (x_.az.g i0)) (Zi (x_.az.g i0))=true from aJ 19 _ _)<|HH (aw 26 2 x_.aO dR k!)<|HH JH<|HH kF<|HH (show AV.same 20 (Zi (x_.az.g i0)) (Zi (x_.az.g i0))=true from aJ 19 _ _)<|HH (aw 22 0 j.aj bj k!)<|HH JI<|BC f2<|ZZ) k!) (bF.refl aE) k!
     · have jw:=of_decide_eq_false f2
       cases CX:dY i0 x_ i0 0 with
       | none=>
         obtain ⟨afq,Mo,zr,z5⟩:=aA.n CX (nH (d:=d) (h:=hh) i0 j x_ br dw (bn.has aB) (b8.has aB) ew (ma.has aB) (Ch.has aB) (aL.mono aB gU) (aL.mono aB Lf) o! i0 0 o! (fun k_=>(((x 0)::(x 1)::(Pt br)::(Pt dw)::(x 4)::(Zn i0)::(Zi 0)::rx x 7 7 ((Zn i0)::(AV.ptr dw 2)::x_.aO::(Zn x_.az.length)::(AV.bool (decide (((i0:Nat):Int)<((x_.az.length:Nat):Int))))::(x 19)::(x 20)::(AV.ptr dw 2)::x_.aO::(Zn i0)::(AV.ptr p4 q5)::(Zi (x_.az.g i0))::(AV.bool (decide ((x_.az.g i0)<0)))::(AV.bool (decide ((x_.az.g i0)<0)))::(AV.ptr dw 2)::x_.aO::(Zn i0)::(AV.ptr p9 Ag)::(Zi (x_.az.g i0))::(Pt br)::j.aj::(Zn j.ab.length)::(AV.bool (decide (((j.ab.length:Nat):Int)≤(x_.az.g i0))))::(AV.bool (decide (((j.ab.length:Nat):Int)≤(x_.az.g i0))))::rx x 38 71 [])):List AV).getD k_ AV.undef) hh aE (Has.refl _) bj dR)
         have wk:=z5.y
         have aao:hh.nx≤Mo.nx:=z5.n
         have wm:Has hh Mo:=z5.a
         have u18:=fe 3 false true i0 1 o!
         exact aA.round (by simp only[cQ,f1,f2,CX,cond_true,cond_false]) (pk (d+1) _ _ hh _ Mo (CN 2<|MM (aw 26 2 x_.aO dR k!)<|VV dG<|VV (ba 3 false false .i64 ((i0:Nat):Int) ((x_.az.length:Nat):Int))<|BC q2<|MM (aw 26 2 x_.aO dR k!)<|CC<|VV iG<|MM iV<|VV (ba 3 false true .i64 (x_.az.g i0) 0)<|CC<|BC f1<|BM f1 (aw 26 2 x_.aO dR k!)<|BC f1<|BV f1 Ad<|BM f1 kF<|BC f1<|BM f1 (aw 22 0 j.aj bj k!)<|BV f1 NF<|BV f1 (lH 3 false false .i64 (x_.az.g i0) ((j.ab.length:Nat):Int))<|VV (bA (a:=some (AV.bool true)) (b:=some (AV.bool (decide (((j.ab.length:Nat):Int)≤(x_.az.g i0))))) f1)<|HH (aw 26 2 x_.aO dR k!)<|HH JH<|HH iV<|HH (show AV.same 20 (Zi (x_.az.g i0)) (Zi (x_.az.g i0))=true from aJ 19 _ _)<|HH (aw 26 2 x_.aO dR k!)<|HH JH<|HH kF<|HH (show AV.same 20 (Zi (x_.az.g i0)) (Zi (x_.az.g i0))=true from aJ 19 _ _)<|HH (aw 22 0 j.aj bj k!)<|HH JI<|BC f2<|LL zr<|CC<|VV u18<|CC<|ZZ) k!) (⟨wk,wm,by omega⟩) _ k! (fun x=>nI x_ j br dw bn b8 ew ma Ch gU Lf dz (i0+1) o! x Mo wk (aB.trans wm) (z5.a _ _ bj) (z5.a _ _ dR))
       | some adA=>
         obtain ⟨afq,Mo,zr,z5⟩:=aA.r CX (nH (d:=d) (h:=hh) i0 j x_ br dw (bn.has aB) (b8.has aB) ew (ma.has aB) (Ch.has aB) (aL.mono aB gU) (aL.mono aB Lf) o! i0 0 o! (fun k_=>(((x 0)::(x 1)::(Pt br)::(Pt dw)::(x 4)::(Zn i0)::(Zi 0)::rx x 7 7 ((Zn i0)::(AV.ptr dw 2)::x_.aO::(Zn x_.az.length)::(AV.bool (decide (((i0:Nat):Int)<((x_.az.length:Nat):Int))))::(x 19)::(x 20)::(AV.ptr dw 2)::x_.aO::(Zn i0)::(AV.ptr p4 q5)::(Zi (x_.az.g i0))::(AV.bool (decide ((x_.az.g i0)<0)))::(AV.bool (decide ((x_.az.g i0)<0)))::(AV.ptr dw 2)::x_.aO::(Zn i0)::(AV.ptr p9 Ag)::(Zi (x_.az.g i0))::(Pt br)::j.aj::(Zn j.ab.length)::(AV.bool (decide (((j.ab.length:Nat):Int)≤(x_.az.g i0))))::(AV.bool (decide (((j.ab.length:Nat):Int)≤(x_.az.g i0))))::rx x 38 71 [])):List AV).getD k_ AV.undef) hh aE (Has.refl _) bj dR)
         have wk:=z5.y
         have aao:hh.nx≤Mo.nx:=z5.n
         have wm:Has hh Mo:=z5.a
         exact aA.ret adA (by simp only[cQ,f1,f2,CX,cond_true,cond_false]) (pk (d+1) _ _ hh _ Mo (CN 2<|MM (aw 26 2 x_.aO dR k!)<|VV dG<|VV (ba 3 false false .i64 ((i0:Nat):Int) ((x_.az.length:Nat):Int))<|BC q2<|MM (aw 26 2 x_.aO dR k!)<|CC<|VV iG<|MM iV<|VV (ba 3 false true .i64 (x_.az.g i0) 0)<|CC<|BC f1<|BM f1 (aw 26 2 x_.aO dR k!)<|BC f1<|BV f1 Ad<|BM f1 kF<|BC f1<|BM f1 (aw 22 0 j.aj bj k!)<|BV f1 NF<|BV f1 (lH 3 false false .i64 (x_.az.g i0) ((j.ab.length:Nat):Int))<|VV (bA (a:=some (AV.bool true)) (b:=some (AV.bool (decide (((j.ab.length:Nat):Int)≤(x_.az.g i0))))) f1)<|HH (aw 26 2 x_.aO dR k!)<|HH JH<|HH iV<|HH (show AV.same 20 (Zi (x_.az.g i0)) (Zi (x_.az.g i0))=true from aJ 19 _ _)<|HH (aw 26 2 x_.aO dR k!)<|HH JH<|HH kF<|HH (show AV.same 20 (Zi (x_.az.g i0)) (Zi (x_.az.g i0))=true from aJ 19 _ _)<|HH (aw 22 0 j.aj bj k!)<|HH JI<|BC f2<|LL zr<|ZZ) k!) (⟨wk,wm,by omega⟩) k!
def dZ (i2:Nat) (x_:Task):Nat→Nat→Option (Int)
 | 0,_=>none
 | Gb+1,i3=>(bif (decide (((x_.ar.g i3).ah)=((x_.ar.g i2).ah))) then some 6 else dZ i2 x_ Gb (i3+1))
theorem nJ {d:Nat} {h:au} (i2:Nat) (j:cz) (x_:Task) (oA:Nat) (tM:Nat) (tN:Nat) (mz:aS h j.aj j.ab) (qV:aS h j.ag j.af) (EM:x_.name.length<2^60) (EN:b_ h .i64 3 x_.aO x_.az) (EO:aS h x_.aU x_.ar) (ES:aL.ok h j) (RI:aL.ok h x_) (RJ:aL.ok h (x_.ar.g i2)) (Wg:i2<x_.ar.length):∀(k_ i_:Nat) (_:i_+k_=i2) (x:Nat→AV) (hh:au) (aE:Tidy hh) (aB:Has h hh) (g9:hh.get oA=some (aM.cells [j.aj,j.ag] 25 false)) (kV:hh.get tM=some (aM.cells [(AV.str x_.name),(Zi x_.aI),x_.aO,x_.aU] 44 false)) (mA:hh.get tN=some (aM.cells [(Zi ((x_.ar.g i2).ah)),(Zi ((x_.ar.g i2).ay))] 88 false)),aA (cR (d+1)) Cw ⟨((x 0)::(x 1)::(Pt oA)::(Pt tM)::rx x 4 3 ((Zn i2)::(Pt tN)::(Zn i_)::rx x 10 99 [])),hh,[],.no⟩ (.exit 6) hh (fun y=>((y 0)::(y 1)::(Pt oA)::(Pt tM)::rx y 4 3 ((Zn i2)::(Pt tN)::rx y 9 100 []))) (fun r y=>((y 0)::(y 1)::(Pt oA)::(Pt tM)::(Zi r)::(y 5)::(y 6)::(Zn i2)::(Pt tN)::rx y 9 100 [])) (dZ i2 x_ k_ i_)
 | 0,i3,fX,x,hh,aE,aB,g9,kV,mA=>by
   have xS:=mz.small
   have xU:=qV.small
   have N3:=EN.small
   have adB:=EO.small
   have N4:=aE _ _ g9
   have VN:=aE _ _ kV
   have VO:=aE _ _ mA
   have q1:(decide (((i3:Nat):Int)<((i2:Nat):Int)))=false:=d!
   exact aA.out rfl (pk (d+1) _ _ hh _ hh (CN 2<|VV (ba 3 false false .i64 ((i3:Nat):Int) ((i2:Nat):Int))<|BB q1<|ZZ) k!) (bF.refl aE) k!
 | Gb+1,i3,fX,x,hh,aE,aB,g9,kV,mA=>by
   have xS:=mz.small
   have xU:=qV.small
   have N3:=EN.small
   have adB:=EO.small
   have N4:=aE _ _ g9
   have VN:=aE _ _ kV
   have VO:=aE _ _ mA
   have q1:(decide (((i3:Nat):Int)<((i2:Nat):Int)))=true:=d!
   obtain ⟨p3,q4,cX⟩:=(EO.has aB).elem (i:=i3) o!
   have gv:bS env (some (.slice 88)) (some x_.aU) (some (Zn i3))=some (AV.ptr p3 q4):=cX
   have g5:bh env hh 3 (AV.ptr p3 (q4+0))=some (Zi ((x_.ar.g i3).ah)):=(EO.has aB).part (t:=3) (j:=0) o! cX k! rfl
   have c6:AV.same 20 x_.aU x_.aU=true:=(EO.has aB).same 19
   rcases Bool.eq_false_or_eq_true (decide (((x_.ar.g i3).ah)=((x_.ar.g i2).ah))) with f1 | f1
   · have dC:=of_decide_eq_true f1
     exact aA.ret 6 (by simp only[dZ,f1,cond_true,cond_false]) (pk (d+1) _ _ hh _ hh (CN 2<|VV (ba 3 false false .i64 ((i3:Nat):Int) ((i2:Nat):Int))<|BC q1<|MM (aw 42 3 x_.aU kV k!)<|CC<|VV gv<|CC<|MM g5<|CC<|MM (aw 3 0 (Zi ((x_.ar.g i2).ah)) mA k!)<|VV (lr 3 false false .i64 ((x_.ar.g i3).ah) ((x_.ar.g i2).ah))<|HH (aw 42 3 x_.aU kV k!)<|HH c6<|HH g5<|HH (show AV.same 20 (Zi ((x_.ar.g i3).ah)) (Zi ((x_.ar.g i3).ah))=true from aJ 19 _ _)<|HH (aw 3 0 (Zi ((x_.ar.g i2).ah)) mA k!)<|HH (show AV.same 20 (Zi ((x_.ar.g i2).ah)) (Zi ((x_.ar.g i2).ah))=true from aJ 19 _ _)<|BC f1<|ZZ) k!) (bF.refl aE) k!
   · have dC:=of_decide_eq_false f1
     have u8:=fe 3 false true i3 1 o!
     exact aA.round (by simp only[dZ,f1,cond_true,cond_false]) (pk (d+1) _ _ hh _ hh (CN 2<|VV (ba 3 false false .i64 ((i3:Nat):Int) ((i2:Nat):Int))<|BC q1<|MM (aw 42 3 x_.aU kV k!)<|CC<|VV gv<|CC<|MM g5<|CC<|MM (aw 3 0 (Zi ((x_.ar.g i2).ah)) mA k!)<|VV (lr 3 false false .i64 ((x_.ar.g i3).ah) ((x_.ar.g i2).ah))<|HH (aw 42 3 x_.aU kV k!)<|HH c6<|HH g5<|HH (show AV.same 20 (Zi ((x_.ar.g i3).ah)) (Zi ((x_.ar.g i3).ah))=true from aJ 19 _ _)<|HH (aw 3 0 (Zi ((x_.ar.g i2).ah)) mA k!)<|HH (show AV.same 20 (Zi ((x_.ar.g i2).ah)) (Zi ((x_.ar.g i2).ah))=true from aJ 19 _ _)<|BC f1<|VV u8<|CC<|ZZ) k!) (bF.refl aE) _ k! (fun x=>nJ i2 j x_ oA tM tN mz qV EM EN EO ES RI RJ Wg Gb (i3+1) o! x hh aE aB g9 kV mA)
def cj (x_:Task) (j:cz):Nat→Nat→Option (Int)
 | 0,_=>none
 | F_+1,i2=>(bif (decide (((x_.ar.g i2).ah)<0)) then some 7 else (bif (decide (((j.af.length:Nat):Int)≤((x_.ar.g i2).ah))) then some 7 else (match (dZ i2 x_ i2 0) with | none=>(bif (decide (((x_.ar.g i2).ay)<1)) then some 1 else (bif (decide (1000<((x_.ar.g i2).ay))) then some 1 else (bif (decide (((j.af.g ((x_.ar.g i2).ah).toNat).ay)<((x_.ar.g i2).ay))) then some 9 else cj x_ j F_ (i2+1)))) | some adC=>some adC)))
theorem nK {d:Nat} {h:au} (x_:Task) (j:cz) (ik:Nat) (lO:Nat) (iI:aS h j.aj j.ab) (mb:aS h j.ag j.af) (tL:x_.name.length<2^60) (qh:b_ h .i64 3 x_.aO x_.az) (zO:aS h x_.aU x_.ar) (vg:aL.ok h j) (Ga:aL.ok h x_):∀(k_ i_:Nat) (_:i_+k_=x_.ar.length) (x:Nat→AV) (hh:au) (aE:Tidy hh) (aB:Has h hh) (eg:hh.get ik=some (aM.cells [j.aj,j.ag] 25 false)) (iY:hh.get lO=some (aM.cells [(AV.str x_.name),(Zi x_.aI),x_.aO,x_.aU] 44 false)),aA (cR (d+1)) Cv ⟨((x 0)::(x 1)::(Pt ik)::(Pt lO)::rx x 4 3 ((Zn i_)::rx x 8 101 [])),hh,[],.no⟩ (.exit 4) hh (fun y=>((y 0)::(y 1)::(Pt ik)::(Pt lO)::rx y 4 105 [])) (fun r y=>((y 0)::(y 1)::(Pt ik)::(Pt lO)::(Zi r)::rx y 5 104 [])) (cj x_ j k_ i_)
 | 0,i2,fX,x,hh,aE,aB,eg,iY=>by
   have sH:=iI.small
   have sI:=mb.small
   have xR:=qh.small
   have adD:=zO.small
   have I6:=aE _ _ eg
   have N2:=aE _ _ iY
   have dG:b6 (some (.slice 88)) (some x_.aU)=some (Zn x_.ar.length):=(zO.has aB).len
   have q2:(decide (((i2:Nat):Int)<((x_.ar.length:Nat):Int)))=false:=d!
   exact aA.out rfl (pk (d+1) _ _ hh _ hh (CN 2<|MM (aw 42 3 x_.aU iY k!)<|VV dG<|VV (ba 3 false false .i64 ((i2:Nat):Int) ((x_.ar.length:Nat):Int))<|BB q2<|ZZ) k!) (bF.refl aE) k!
 | F_+1,i2,fX,x,hh,aE,aB,eg,iY=>by
   have sH:=iI.small
   have sI:=mb.small
   have xR:=qh.small
   have adD:=zO.small
   have I6:=aE _ _ eg
   have N2:=aE _ _ iY
   have dG:b6 (some (.slice 88)) (some x_.aU)=some (Zn x_.ar.length):=(zO.has aB).len
   have q2:(decide (((i2:Nat):Int)<((x_.ar.length:Nat):Int)))=true:=d!
   obtain ⟨p4,q5,iW⟩:=(zO.has aB).elem (i:=i2) o!
   have iG:bS env (some (.slice 88)) (some x_.aU) (some (Zn i2))=some (AV.ptr p4 q5):=iW
   have iV:bh env hh 88 (AV.ptr p4 q5)=some (AV.agg [(Zi ((x_.ar.g i2).ah)),(Zi ((x_.ar.g i2).ay))]):=(zO.has aB).load o! iW
   obtain ⟨h7,zX,fQ,zl,fD,oU⟩:=j_ aE (aM.cells [(Zi 0),(Zi 0)] 88 false)
   have eL:Has hh h7:=oU
   obtain ⟨h8,zY,qO,aca,dE,jY⟩:=qL (t:=88) (n:=2) (i:=hh.nx) (L:=[(Zi ((x_.ar.g i2).ah)),(Zi ((x_.ar.g i2).ay))]) fQ fD k! rfl rfl (by simp only[AV.cells,List.all_cons,List.all_nil,Bool.and_true,Bool.and_self,iO,fY,iP,iQ,eS,mg,mh,mi,mj,ml,iR])
   have pc:Has hh h8:=Has.ea eL jY aE o!
   rcases Bool.eq_false_or_eq_true (decide (((x_.ar.g i2).ah)<0)) with f1 | f1
   · have dC:=of_decide_eq_true f1
     exact aA.ret 7 (by simp only[cj,f1,cond_true,cond_false]) (pk (d+1) _ _ hh _ h8 (CN 2<|MM (aw 42 3 x_.aU iY k!)<|VV dG<|VV (ba 3 false false .i64 ((i2:Nat):Int) ((x_.ar.length:Nat):Int))<|BC q2<|MM (aw 42 3 x_.aU iY k!)<|CC<|VV iG<|MM iV<|NN zX (fun i=>(Pt i))<|SS zY<|CC<|MM (aw 3 0 (Zi ((x_.ar.g i2).ah)) dE k!)<|VV (ba 3 false true .i64 ((x_.ar.g i2).ah) 0)<|CC<|BB f1<|BB f1<|BB f1<|BB f1<|BB f1<|BV f1 (uN true f1)<|TT<|CC<|ZZ) k!) (⟨qO,pc,by omega⟩) k!
   · have dC:=of_decide_eq_false f1
     have oS:b6 (some (.slice 41)) (some j.ag)=some (Zn j.af.length):=(mb.has aB).len
     rcases Bool.eq_false_or_eq_true (decide (((j.af.length:Nat):Int)≤((x_.ar.g i2).ah))) with f2 | f2
     · have jw:=of_decide_eq_true f2
       exact aA.ret 7 (by simp only[cj,f1,f2,cond_true,cond_false]) (pk (d+1) _ _ hh _ h8 (CN 2<|MM (aw 42 3 x_.aU iY k!)<|VV dG<|VV (ba 3 false false .i64 ((i2:Nat):Int) ((x_.ar.length:Nat):Int))<|BC q2<|MM (aw 42 3 x_.aU iY k!)<|CC<|VV iG<|MM iV<|NN zX (fun i=>(Pt i))<|SS zY<|CC<|MM (aw 3 0 (Zi ((x_.ar.g i2).ah)) dE k!)<|VV (ba 3 false true .i64 ((x_.ar.g i2).ah) 0)<|CC<|BC f1<|BM f1 (aw 3 0 (Zi ((x_.ar.g i2).ah)) dE k!)<|BC f1<|BM f1 (aw 23 1 j.ag (jY _ _ o! (oU _ _ eg)) k!)<|BV f1 oS<|BV f1 (lH 3 false false .i64 ((x_.ar.g i2).ah) ((j.af.length:Nat):Int))<|VV (bA (a:=some (AV.bool true)) (b:=some (AV.bool (decide (((j.af.length:Nat):Int)≤((x_.ar.g i2).ah))))) f1)<|BC f2<|ZZ) k!) (⟨qO,pc,by omega⟩) k!
     · have jw:=of_decide_eq_false f2
       cases sW:dZ i2 x_ i2 0 with
       | none=>
         obtain ⟨ail,mq,vU,fJ⟩:=aA.n sW (nJ (d:=d) (h:=hh) i2 j x_ ik lO hh.nx (iI.has aB) (mb.has aB) tL (qh.has aB) (zO.has aB) (aL.mono aB vg) (aL.mono aB Ga) ((zO.has aB).ok (i:=i2) o!) o! i2 0 o! (fun k_=>(((x 0)::(x 1)::(Pt ik)::(Pt lO)::rx x 4 3 ((Zn i2)::(Pt hh.nx)::(Zi 0)::rx x 10 44 ((Zn i2)::(AV.ptr lO 3)::x_.aU::(Zn x_.ar.length)::(AV.bool (decide (((i2:Nat):Int)<((x_.ar.length:Nat):Int))))::(x 59)::(x 60)::(AV.ptr lO 3)::x_.aU::(Zn i2)::(AV.ptr p4 q5)::(AV.agg [(Zi ((x_.ar.g i2).ah)),(Zi ((x_.ar.g i2).ay))])::(Pt hh.nx)::(Zi ((x_.ar.g i2).ah))::(AV.bool (decide (((x_.ar.g i2).ah)<0)))::(AV.bool (decide (((x_.ar.g i2).ah)<0)))::(Pt hh.nx)::(Zi ((x_.ar.g i2).ah))::(AV.ptr ik 1)::j.ag::(Zn j.af.length)::(AV.bool (decide (((j.af.length:Nat):Int)≤((x_.ar.g i2).ah))))::(AV.bool (decide (((j.af.length:Nat):Int)≤((x_.ar.g i2).ah))))::rx x 77 32 []))):List AV).getD k_ AV.undef) h8 qO pc (jY _ _ o! (oU _ _ eg)) (jY _ _ o! (oU _ _ iY)) dE)
         have ku:=fJ.y
         have aaS:h8.nx≤mq.nx:=fJ.n
         have iF:Has hh mq:=pc.trans fJ.a
         rcases Bool.eq_false_or_eq_true (decide (((x_.ar.g i2).ay)<1)) with f4 | f4
         · have sy:=of_decide_eq_true f4
           exact aA.ret 1 (by simp only[cj,f1,f2,sW,f4,cond_true,cond_false]) (pk (d+1) _ _ hh _ mq (CN 2<|MM (aw 42 3 x_.aU iY k!)<|VV dG<|VV (ba 3 false false .i64 ((i2:Nat):Int) ((x_.ar.length:Nat):Int))<|BC q2<|MM (aw 42 3 x_.aU iY k!)<|CC<|VV iG<|MM iV<|NN zX (fun i=>(Pt i))<|SS zY<|CC<|MM (aw 3 0 (Zi ((x_.ar.g i2).ah)) dE k!)<|VV (ba 3 false true .i64 ((x_.ar.g i2).ah) 0)<|CC<|BC f1<|BM f1 (aw 3 0 (Zi ((x_.ar.g i2).ah)) dE k!)<|BC f1<|BM f1 (aw 23 1 j.ag (jY _ _ o! (oU _ _ eg)) k!)<|BV f1 oS<|BV f1 (lH 3 false false .i64 ((x_.ar.g i2).ah) ((j.af.length:Nat):Int))<|VV (bA (a:=some (AV.bool true)) (b:=some (AV.bool (decide (((j.af.length:Nat):Int)≤((x_.ar.g i2).ah))))) f1)<|BC f2<|LL vU<|CC<|MM (aw 3 1 (Zi ((x_.ar.g i2).ay)) (fJ.a _ _ dE) k!)<|VV (ba 3 false true .i64 ((x_.ar.g i2).ay) 1)<|CC<|BB f4<|BB f4<|BV f4 (uN true f4)<|TT<|CC<|ZZ) k!) (⟨ku,iF,by omega⟩) k!
         · have sy:=of_decide_eq_false f4
           rcases Bool.eq_false_or_eq_true (decide (1000<((x_.ar.g i2).ay))) with f5 | f5
           · have Wd:=of_decide_eq_true f5
             exact aA.ret 1 (by simp only[cj,f1,f2,sW,f4,f5,cond_true,cond_false]) (pk (d+1) _ _ hh _ mq (CN 2<|MM (aw 42 3 x_.aU iY k!)<|VV dG<|VV (ba 3 false false .i64 ((i2:Nat):Int) ((x_.ar.length:Nat):Int))<|BC q2<|MM (aw 42 3 x_.aU iY k!)<|CC<|VV iG<|MM iV<|NN zX (fun i=>(Pt i))<|SS zY<|CC<|MM (aw 3 0 (Zi ((x_.ar.g i2).ah)) dE k!)<|VV (ba 3 false true .i64 ((x_.ar.g i2).ah) 0)<|CC<|BC f1<|BM f1 (aw 3 0 (Zi ((x_.ar.g i2).ah)) dE k!)<|BC f1<|BM f1 (aw 23 1 j.ag (jY _ _ o! (oU _ _ eg)) k!)<|BV f1 oS<|BV f1 (lH 3 false false .i64 ((x_.ar.g i2).ah) ((j.af.length:Nat):Int))<|VV (bA (a:=some (AV.bool true)) (b:=some (AV.bool (decide (((j.af.length:Nat):Int)≤((x_.ar.g i2).ah))))) f1)<|BC f2<|LL vU<|CC<|MM (aw 3 1 (Zi ((x_.ar.g i2).ay)) (fJ.a _ _ dE) k!)<|VV (ba 3 false true .i64 ((x_.ar.g i2).ay) 1)<|CC<|BC f4<|BM f4 (aw 3 1 (Zi ((x_.ar.g i2).ay)) (fJ.a _ _ dE) k!)<|BV f4 (bR 3 false true .i64 ((x_.ar.g i2).ay) 1000)<|VV (bA (a:=some (AV.bool true)) (b:=some (AV.bool (decide (1000<((x_.ar.g i2).ay))))) f4)<|BC f5<|ZZ) k!) (⟨ku,iF,by omega⟩) k!
           · have Wd:=of_decide_eq_false f5
             obtain ⟨p17,q18,B2⟩:=(mb.has aB).elem (i:=((x_.ar.g i2).ah).toNat) o!
             have Cf:bS env (some (.slice 41)) (some j.ag) (some (Zi ((x_.ar.g i2).ah)))=some (AV.ptr p17 q18):=by rw[show (((x_.ar.g i2).ah):Int)=((((x_.ar.g i2).ah).toNat:Nat):Int) by omega];exact B2
             have vX:bh env mq 3 (AV.ptr p17 (q18+1))=some (Zi ((j.af.g ((x_.ar.g i2).ah).toNat).ay)):=((mb.has aB).has iF).part (t:=3) (j:=1) o! B2 k! rfl
             have Sx:AV.same 20 j.ag j.ag=true:=(mb.has aB).same 19
             rcases Bool.eq_false_or_eq_true (decide (((j.af.g ((x_.ar.g i2).ah).toNat).ay)<((x_.ar.g i2).ay))) with f6 | f6
             · have aim:=of_decide_eq_true f6
               exact aA.ret 9 (by simp only[cj,f1,f2,sW,f4,f5,f6,cond_true,cond_false]) (pk (d+1) _ _ hh _ mq (CN 2<|MM (aw 42 3 x_.aU iY k!)<|VV dG<|VV (ba 3 false false .i64 ((i2:Nat):Int) ((x_.ar.length:Nat):Int))<|BC q2<|MM (aw 42 3 x_.aU iY k!)<|CC<|VV iG<|MM iV<|NN zX (fun i=>(Pt i))<|SS zY<|CC<|MM (aw 3 0 (Zi ((x_.ar.g i2).ah)) dE k!)<|VV (ba 3 false true .i64 ((x_.ar.g i2).ah) 0)<|CC<|BC f1<|BM f1 (aw 3 0 (Zi ((x_.ar.g i2).ah)) dE k!)<|BC f1<|BM f1 (aw 23 1 j.ag (jY _ _ o! (oU _ _ eg)) k!)<|BV f1 oS<|BV f1 (lH 3 false false .i64 ((x_.ar.g i2).ah) ((j.af.length:Nat):Int))<|VV (bA (a:=some (AV.bool true)) (b:=some (AV.bool (decide (((j.af.length:Nat):Int)≤((x_.ar.g i2).ah))))) f1)<|BC f2<|LL vU<|CC<|MM (aw 3 1 (Zi ((x_.ar.g i2).ay)) (fJ.a _ _ dE) k!)<|VV (ba 3 false true .i64 ((x_.ar.g i2).ay) 1)<|CC<|BC f4<|BM f4 (aw 3 1 (Zi ((x_.ar.g i2).ay)) (fJ.a _ _ dE) k!)<|BV f4 (bR 3 false true .i64 ((x_.ar.g i2).ay) 1000)<|VV (bA (a:=some (AV.bool true)) (b:=some (AV.bool (decide (1000<((x_.ar.g i2).ay))))) f4)<|BC f5<|MM (aw 3 1 (Zi ((x_.ar.g i2).ay)) (fJ.a _ _ dE) k!)<|CC<|MM (aw 23 1 j.ag (fJ.a _ _ (jY _ _ o! (oU _ _ eg))) k!)<|CC<|MM (aw 3 0 (Zi ((x_.ar.g i2).ah)) (fJ.a _ _ dE) k!)<|VV Cf<|CC<|MM vX<|VV (bR 3 false false .i64 ((x_.ar.g i2).ay) ((j.af.g ((x_.ar.g i2).ah).toNat).ay))<|HH (aw 3 1 (Zi ((x_.ar.g i2).ay)) (fJ.a _ _ dE) k!)<|HH (show AV.same 20 (Zi ((x_.ar.g i2).ay)) (Zi ((x_.ar.g i2).ay))=true from aJ 19 _ _)<|HH (aw 23 1 j.ag (fJ.a _ _ (jY _ _ o! (oU _ _ eg))) k!)<|HH Sx<|HH (aw 3 0 (Zi ((x_.ar.g i2).ah)) (fJ.a _ _ dE) k!)<|HH (show AV.same 20 (Zi ((x_.ar.g i2).ah)) (Zi ((x_.ar.g i2).ah))=true from aJ 19 _ _)<|HH vX<|HH (show AV.same 20 (Zi ((j.af.g ((x_.ar.g i2).ah).toNat).ay)) (Zi ((j.af.g ((x_.ar.g i2).ah).toNat).ay))=true from aJ 19 _ _)<|BC f6<|ZZ) k!) (⟨ku,iF,by omega⟩) k!
             · have aim:=of_decide_eq_false f6
               have u22:=fe 3 false true i2 1 o!
               exact aA.round (by simp only[cj,f1,f2,sW,f4,f5,f6,cond_true,cond_false]) (pk (d+1) _ _ hh _ mq (CN 2<|MM (aw 42 3 x_.aU iY k!)<|VV dG<|VV (ba 3 false false .i64 ((i2:Nat):Int) ((x_.ar.length:Nat):Int))<|BC q2<|MM (aw 42 3 x_.aU iY k!)<|CC<|VV iG<|MM iV<|NN zX (fun i=>(Pt i))<|SS zY<|CC<|MM (aw 3 0 (Zi ((x_.ar.g i2).ah)) dE k!)<|VV (ba 3 false true .i64 ((x_.ar.g i2).ah) 0)<|CC<|BC f1<|BM f1 (aw 3 0 (Zi ((x_.ar.g i2).ah)) dE k!)<|BC f1<|BM f1 (aw 23 1 j.ag (jY _ _ o! (oU _ _ eg)) k!)<|BV f1 oS<|BV f1 (lH 3 false false .i64 ((x_.ar.g i2).ah) ((j.af.length:Nat):Int))<|VV (bA (a:=some (AV.bool true)) (b:=some (AV.bool (decide (((j.af.length:Nat):Int)≤((x_.ar.g i2).ah))))) f1)<|BC f2<|LL vU<|CC<|MM (aw 3 1 (Zi ((x_.ar.g i2).ay)) (fJ.a _ _ dE) k!)<|VV (ba 3 false true .i64 ((x_.ar.g i2).ay) 1)<|CC<|BC f4<|BM f4 (aw 3 1 (Zi ((x_.ar.g i2).ay)) (fJ.a _ _ dE) k!)<|BV f4 (bR 3 false true .i64 ((x_.ar.g i2).ay) 1000)<|VV (bA (a:=some (AV.bool true)) (b:=some (AV.bool (decide (1000<((x_.ar.g i2).ay))))) f4)<|BC f5<|MM (aw 3 1 (Zi ((x_.ar.g i2).ay)) (fJ.a _ _ dE) k!)<|CC<|MM (aw 23 1 j.ag (fJ.a _ _ (jY _ _ o! (oU _ _ eg))) k!)<|CC<|MM (aw 3 0 (Zi ((x_.ar.g i2).ah)) (fJ.a _ _ dE) k!)<|VV Cf<|CC<|MM vX<|VV (bR 3 false false .i64 ((x_.ar.g i2).ay) ((j.af.g ((x_.ar.g i2).ah).toNat).ay))<|HH (aw 3 1 (Zi ((x_.ar.g i2).ay)) (fJ.a _ _ dE) k!)<|HH (show AV.same 20 (Zi ((x_.ar.g i2).ay)) (Zi ((x_.ar.g i2).ay))=true from aJ 19 _ _)<|HH (aw 23 1 j.ag (fJ.a _ _ (jY _ _ o! (oU _ _ eg))) k!)<|HH Sx<|HH (aw 3 0 (Zi ((x_.ar.g i2).ah)) (fJ.a _ _ dE) k!)<|HH (show AV.same 20 (Zi ((x_.ar.g i2).ah)) (Zi ((x_.ar.g i2).ah))=true from aJ 19 _ _)<|HH vX<|HH (show AV.same 20 (Zi ((j.af.g ((x_.ar.g i2).ah).toNat).ay)) (Zi ((j.af.g ((x_.ar.g i2).ah).toNat).ay))=true from aJ 19 _ _)<|BC f6<|VV u22<|CC<|ZZ) k!) (⟨ku,iF,by omega⟩) _ k! (fun x=>nK x_ j ik lO iI mb tL qh zO vg Ga F_ (i2+1) o! x mq ku (aB.trans iF) (fJ.a _ _ (jY _ _ o! (oU _ _ eg))) (fJ.a _ _ (jY _ _ o! (oU _ _ iY))))
       | some adC=>
         obtain ⟨ail,mq,vU,fJ⟩:=aA.r sW (nJ (d:=d) (h:=hh) i2 j x_ ik lO hh.nx (iI.has aB) (mb.has aB) tL (qh.has aB) (zO.has aB) (aL.mono aB vg) (aL.mono aB Ga) ((zO.has aB).ok (i:=i2) o!) o! i2 0 o! (fun k_=>(((x 0)::(x 1)::(Pt ik)::(Pt lO)::rx x 4 3 ((Zn i2)::(Pt hh.nx)::(Zi 0)::rx x 10 44 ((Zn i2)::(AV.ptr lO 3)::x_.aU::(Zn x_.ar.length)::(AV.bool (decide (((i2:Nat):Int)<((x_.ar.length:Nat):Int))))::(x 59)::(x 60)::(AV.ptr lO 3)::x_.aU::(Zn i2)::(AV.ptr p4 q5)::(AV.agg [(Zi ((x_.ar.g i2).ah)),(Zi ((x_.ar.g i2).ay))])::(Pt hh.nx)::(Zi ((x_.ar.g i2).ah))::(AV.bool (decide (((x_.ar.g i2).ah)<0)))::(AV.bool (decide (((x_.ar.g i2).ah)<0)))::(Pt hh.nx)::(Zi ((x_.ar.g i2).ah))::(AV.ptr ik 1)::j.ag::(Zn j.af.length)::(AV.bool (decide (((j.af.length:Nat):Int)≤((x_.ar.g i2).ah))))::(AV.bool (decide (((j.af.length:Nat):Int)≤((x_.ar.g i2).ah))))::rx x 77 32 []))):List AV).getD k_ AV.undef) h8 qO pc (jY _ _ o! (oU _ _ eg)) (jY _ _ o! (oU _ _ iY)) dE)
         have ku:=fJ.y
         have aaS:h8.nx≤mq.nx:=fJ.n
         have iF:Has hh mq:=pc.trans fJ.a
         exact aA.ret adC (by simp only[cj,f1,f2,sW,cond_true,cond_false]) (pk (d+1) _ _ hh _ mq (CN 2<|MM (aw 42 3 x_.aU iY k!)<|VV dG<|VV (ba 3 false false .i64 ((i2:Nat):Int) ((x_.ar.length:Nat):Int))<|BC q2<|MM (aw 42 3 x_.aU iY k!)<|CC<|VV iG<|MM iV<|NN zX (fun i=>(Pt i))<|SS zY<|CC<|MM (aw 3 0 (Zi ((x_.ar.g i2).ah)) dE k!)<|VV (ba 3 false true .i64 ((x_.ar.g i2).ah) 0)<|CC<|BC f1<|BM f1 (aw 3 0 (Zi ((x_.ar.g i2).ah)) dE k!)<|BC f1<|BM f1 (aw 23 1 j.ag (jY _ _ o! (oU _ _ eg)) k!)<|BV f1 oS<|BV f1 (lH 3 false false .i64 ((x_.ar.g i2).ah) ((j.af.length:Nat):Int))<|VV (bA (a:=some (AV.bool true)) (b:=some (AV.bool (decide (((j.af.length:Nat):Int)≤((x_.ar.g i2).ah))))) f1)<|BC f2<|LL vU<|ZZ) k!) (⟨ku,iF,by omega⟩) k!
def cG (j:cz) (x_:Task):Int:=(bif (!(cD x_.aI)) then 1 else (match (cQ x_ j x_.az.length 0) with | none=>(match (cj x_ j x_.ar.length 0) with | none=>0 | some rr7=>rr7) | some rr5=>rr5))
theorem Gh {d:Nat} {h:au} (j:cz) (x_:Task) (bH:aL.ok h j) (g8:aL.ok h x_) (bW:Tidy h):cR (d+2) (.fn 30) [(AV.agg [j.aj,j.ag]),(AV.agg [(AV.str x_.name),(Zi x_.aI),x_.aO,x_.aU])] h= .ret (Zi (cG j x_)) h:=by
 have dP:=bH.1.small
 have dQ:=bH.2.small
 have EI:=g8.2.2.small
 obtain ⟨h1,bM,cx,jc,aQ,cA⟩:=j_ bW (aM.cells [j.aj,j.ag] 25 false)
 have bt:Has h h1:=cA
 obtain ⟨h2,su,uQ,Yv,gq,my⟩:=j_ cx (aM.cells [(AV.str x_.name),(Zi x_.aI),x_.aO,x_.aU] 44 false)
 have kp:Has h h2:=bt.trans my
 have k3:=vO (d:=d) x_.aI uQ
 rcases Bool.eq_false_or_eq_true (!(cD x_.aI)) with f0 | f0
 · have e:cG j x_=1:=by simp only[cG,f0,cond_true,cond_false]
   rw[e]
   exact aD rfl (bb Tryz.func30 nX rfl (.inr rfl) (pk (d+1) _ _ h _ h2 (NN bM (fun i=>(Pt i))<|NN su (fun i=>(Pt i))<|CN 2<|MM (aw 3 1 (Zi x_.aI) gq k!)<|EE k3<|CC<|BC f0<|ZZ) k!) k!) kp rfl
 · cases E1:cQ x_ j x_.az.length 0 with
   | none=>
     obtain ⟨Fm,h6,p_,fq⟩:=aA.n E1 (nI (d:=d) (h:=h) x_ j h.nx h1.nx bH.1 bH.2 g8.1 g8.2.1 g8.2.2 bH g8 x_.az.length 0 o! (fun k_=>(((AV.agg [j.aj,j.ag])::(AV.agg [(AV.str x_.name),(Zi x_.aI),x_.aO,x_.aU])::(Pt h.nx)::(Pt h1.nx)::(Zi 0)::(Zi 0)::AV.undef::AV.undef::AV.undef::AV.undef::(AV.ptr h1.nx 1)::(Zi x_.aI)::(AV.bool (cD x_.aI))::(AV.bool (!(cD x_.aI)))::g4 95):List AV).getD k_ AV.undef) h2 uQ kp (my _ _ aQ) gq)
     have jf:=fq.y
     have NM:h2.nx≤h6.nx:=fq.n
     have ia:Has h h6:=kp.trans fq.a
     cases Jp:cj x_ j x_.ar.length 0 with
     | none=>
       obtain ⟨yl7,h8,Ot,Jq⟩:=aA.n Jp (nK (d:=d) (h:=h) x_ j h.nx h1.nx bH.1 bH.2 g8.1 g8.2.1 g8.2.2 bH g8 x_.ar.length 0 o! (fun k_=>(((Fm 0)::(Fm 1)::(Pt h.nx)::(Pt h1.nx)::rx Fm 4 3 ((Zi 0)::rx Fm 8 101 [])):List AV).getD k_ AV.undef) h6 jf ia (fq.a _ _ (my _ _ aQ)) (fq.a _ _ gq))
       have qO:=Jq.y
       have ain:h6.nx≤h8.nx:=Jq.n
       have pc:Has h h8:=ia.trans Jq.a
       have Zy:Has h6 h8:=Jq.a
       have e:cG j x_=0:=by simp only[cG,f0,E1,Jp,cond_true,cond_false]
       rw[e]
       exact aD rfl (bb Tryz.func30 nX rfl (.inr rfl) (pk (d+1) _ _ h _ h8 (NN bM (fun i=>(Pt i))<|NN su (fun i=>(Pt i))<|CN 2<|MM (aw 3 1 (Zi x_.aI) gq k!)<|EE k3<|CC<|BC f0<|LL p_<|CC<|LL Ot<|CC<|ZZ) k!) k!) pc rfl
     | some rr7=>
       obtain ⟨yl7,h8,Ot,Jq⟩:=aA.r Jp (nK (d:=d) (h:=h) x_ j h.nx h1.nx bH.1 bH.2 g8.1 g8.2.1 g8.2.2 bH g8 x_.ar.length 0 o! (fun k_=>(((Fm 0)::(Fm 1)::(Pt h.nx)::(Pt h1.nx)::rx Fm 4 3 ((Zi 0)::rx Fm 8 101 [])):List AV).getD k_ AV.undef) h6 jf ia (fq.a _ _ (my _ _ aQ)) (fq.a _ _ gq))
       have qO:=Jq.y
       have ain:h6.nx≤h8.nx:=Jq.n
       have pc:Has h h8:=ia.trans Jq.a
       have Zy:Has h6 h8:=Jq.a
       have e:cG j x_=rr7:=by simp only[cG,f0,E1,Jp,cond_true,cond_false]
       rw[e]
       exact aD rfl (bb Tryz.func30 nX rfl (.inr rfl) (pk (d+1) _ _ h _ h8 (NN bM (fun i=>(Pt i))<|NN su (fun i=>(Pt i))<|CN 2<|MM (aw 3 1 (Zi x_.aI) gq k!)<|EE k3<|CC<|BC f0<|LL p_<|CC<|LL Ot<|ZZ) k!) k!) pc rfl
   | some rr5=>
     obtain ⟨Fm,h6,p_,fq⟩:=aA.r E1 (nI (d:=d) (h:=h) x_ j h.nx h1.nx bH.1 bH.2 g8.1 g8.2.1 g8.2.2 bH g8 x_.az.length 0 o! (fun k_=>(((AV.agg [j.aj,j.ag])::(AV.agg [(AV.str x_.name),(Zi x_.aI),x_.aO,x_.aU])::(Pt h.nx)::(Pt h1.nx)::(Zi 0)::(Zi 0)::AV.undef::AV.undef::AV.undef::AV.undef::(AV.ptr h1.nx 1)::(Zi x_.aI)::(AV.bool (cD x_.aI))::(AV.bool (!(cD x_.aI)))::g4 95):List AV).getD k_ AV.undef) h2 uQ kp (my _ _ aQ) gq)
     have jf:=fq.y
     have NM:h2.nx≤h6.nx:=fq.n
     have ia:Has h h6:=kp.trans fq.a
     have e:cG j x_=rr5:=by simp only[cG,f0,E1,cond_true,cond_false]
     rw[e]
     exact aD rfl (bb Tryz.func30 nX rfl (.inr rfl) (pk (d+1) _ _ h _ h6 (NN bM (fun i=>(Pt i))<|NN su (fun i=>(Pt i))<|CN 2<|MM (aw 3 1 (Zi x_.aI) gq k!)<|EE k3<|CC<|BC f0<|LL p_<|ZZ) k!) k!) ia rfl
theorem Ou {x:Int} (h:cD x=true):0≤x∧x≤100000:=by
 unfold cD at h
 by_cases q:0≤x
 · rw[decide_eq_true q] at h;exact ⟨q,of_decide_eq_true h⟩
 · rw[decide_eq_false q] at h;cases h
theorem qC {i0:Nat} {x:Task}:∀{k i:Nat} {r:Int},dY i0 x k i=some r→r≠0
 | 0,i,r,h=>by cases h
 | k+1,i,r,h=>by
   rw[dY] at h
   cases q:decide (x.az.g i=x.az.g i0) with
   | true=>rw[q] at h;cases h;decide
   | false=>rw[q] at h;exact qC (k:=k) h
theorem qD {i0:Nat} {x:Task}:∀{k i:Nat} {r:Int},dZ i0 x k i=some r→r≠0
 | 0,i,r,h=>by cases h
 | k+1,i,r,h=>by
   rw[dZ] at h
   cases q:decide ((x.ar.g i).ah=(x.ar.g i0).ah) with
   | true=>rw[q] at h;cases h;decide
   | false=>rw[q] at h;exact qD (k:=k) h
theorem m7 {j:cz} {x:Task}:∀{k i:Nat},(cQ x j k i=none→∀q,i≤q→q<i+k→0≤x.az.g q∧x.az.g q<(j.ab.length:Int))∧(∀r,cQ x j k i=some r→r≠0)
 | 0,i=>⟨fun _ q h1 h2=>by omega,fun r h=>by cases h⟩
 | k+1,i=>by
   have ih:=m7 (j:=j) (x:=x) (k:=k) (i:=i+1)
   rw[cQ]
   by_cases a:x.az.g i<0
   · rw[decide_eq_true a];exact ⟨(fun h=>by cases h),(fun r h=>by cases h;decide)⟩
   · by_cases b:(j.ab.length:Int)≤x.az.g i
     · rw[decide_eq_false a,decide_eq_true b];exact ⟨(fun h=>by cases h),(fun r h=>by cases h;decide)⟩
     · rw[decide_eq_false a,decide_eq_false b]
       cases c:dY i x i 0 with
       | some r0=>exact ⟨(fun h=>by cases h),(fun r h=>by cases h;exact qC c)⟩
       | none=>
         refine ⟨fun h q h1 h2=>?_,ih.2⟩
         by_cases e:q=i
         · rw[e];omega
         · exact ih.1 h q o! o!
theorem m8 {j:cz} {x:Task}:∀{k i:Nat},(cj x j k i=none→∀q,i≤q→q<i+k→0≤(x.ar.g q).ah∧(x.ar.g q).ah<(j.af.length:Int))∧(∀r,cj x j k i=some r→r≠0)
 | 0,i=>⟨fun _ q h1 h2=>by omega,fun r h=>by cases h⟩
 | k+1,i=>by
   have ih:=m8 (j:=j) (x:=x) (k:=k) (i:=i+1)
   rw[cj]
   by_cases a:(x.ar.g i).ah<0
   · rw[decide_eq_true a];exact ⟨(fun h=>by cases h),(fun r h=>by cases h;decide)⟩
   · by_cases b:(j.af.length:Int)≤(x.ar.g i).ah
     · rw[decide_eq_false a,decide_eq_true b];exact ⟨(fun h=>by cases h),(fun r h=>by cases h;decide)⟩
     · rw[decide_eq_false a,decide_eq_false b]
       cases c:dZ i x i 0 with
       | some r0=>exact ⟨(fun h=>by cases h),(fun r h=>by cases h;exact qD c)⟩
       | none=>
         cases d1:decide ((x.ar.g i).ay<1) with
         | true=>exact ⟨(fun h=>by cases h),(fun r h=>by cases h;decide)⟩
         | false=>
           cases d2:decide (1000<(x.ar.g i).ay) with
           | true=>exact ⟨(fun h=>by cases h),(fun r h=>by cases h;decide)⟩
           | false=>
             cases d3:decide ((j.af.g (Int.toNat (x.ar.g i).ah)).ay<(x.ar.g i).ay) with
             | true=>exact ⟨(fun h=>by cases h),(fun r h=>by cases h;decide)⟩
             | false=>
               refine ⟨fun h q h1 h2=>?_,ih.2⟩
               by_cases e:q=i
               · rw[e];omega
               · exact ih.1 h q o! o!
theorem vp {j:cz} {x:Task} (h:cG j x=0):(0≤x.aI∧x.aI≤100000)∧(∀q,q<x.az.length→0≤x.az.g q∧x.az.g q<(j.ab.length:Int))∧(∀q,q<x.ar.length→0≤(x.ar.g q).ah∧(x.ar.g q).ah<(j.af.length:Int)):=by
 unfold cG at h
 cases t:cD x.aI with
 | false=>rw[t] at h;cases h
 | true=>
   rw[t] at h
   cases a:cQ x j x.az.length 0 with
   | some r=>rw[a] at h;exact absurd h (m7.2 r a)
   | none=>
     rw[a] at h
     cases b:cj x j x.ar.length 0 with
     | some r=>rw[b] at h;exact absurd h (m8.2 r b)
     | none=>exact ⟨Ou t,fun q hq=>m7.1 a q o! o!,fun q hq=>m8.1 b q o! o!⟩
end Go.Proofs.aP
