import Derived.Test.YtkffioplnoajdaaGreatW0
import Derived.Test.YtkffioplnoajdaaGreatW1
import Derived.Test.YtkffioplnoajdaaGreatW13
import Derived.Test.YtkffioplnoajdaaGreatW14
import Derived.Test.YtkffioplnoajdaaGreatW7
import Derived.Test.YtkffioplnoajdaaGreatW10
import Derived.Test.YtkffioplnoajdaaGreatW12
namespace Go.Proofs.aP
open Go.Proofs Ab
set_option maxRecDepth 100000
set_option maxHeartbeats 4000000
set_option linter.unusedVariables false
set_option linter.unusedSimpArgs false
noncomputable def m9:Code:=(Tryz.f9.body).getD .skip
theorem pt:Tryz.f9.body=some m9:=by kernel_rfl
noncomputable def L9:Code:=(bE m9).getD 0 .skip
noncomputable def L_:Code:=(bE m9).getD 1 .skip
noncomputable def Ma:Code:=(bE m9).getD 2 .skip
noncomputable def Mb:Code:=(bE m9).getD 3 .skip
def gX (i0:Nat) (j:cz):Nat→Nat→Option (Int)
 | 0,_=>none
 | qN+1,i1=>(bif (decide (((j.af.g i1).name)=((j.af.g i0).name))) then some 6 else gX i0 j qN (i1+1))
theorem sX {d:Nat} {h:au} (i0:Nat) (j:cz) (cE:Nat) (dM:aS h j.aj j.ab) (dm:aS h j.ag j.af) (l9:aL.ok h j) (Ea:i0<j.af.length):∀(k_ i_:Nat) (_:i_+k_=i0) (x:Nat→AV) (hh:au) (aE:Tidy hh) (aB:Has h hh) (bZ:hh.get cE=some (aM.cells [j.aj,j.ag] 25 false)),aA (cR (d+2)) L_ ⟨((x 0)::(Pt cE)::(x 2)::(Zn i0)::(Zn i_)::rx x 5 104 []),hh,[],.no⟩ (.exit 2) hh (fun y=>((y 0)::(Pt cE)::(y 2)::(Zn i0)::rx y 4 105 [])) (fun r y=>((y 0)::(Pt cE)::(Zi r)::(Zn i0)::rx y 4 105 [])) (gX i0 j k_ i_)
 | 0,i1,fX,x,hh,aE,aB,bZ=>by
   have jy:=dM.small
   have jz:=dm.small
   have ss:=aE _ _ bZ
   have q1:(decide (((i1:Nat):Int)<((i0:Nat):Int)))=false:=d!
   exact aA.out rfl (pk (d+2) _ _ hh _ hh (CN 2<|VV (ba 3 false false .i64 ((i1:Nat):Int) ((i0:Nat):Int))<|BB q1<|ZZ) k!) (bF.refl aE) k!
 | qN+1,i1,fX,x,hh,aE,aB,bZ=>by
   have jy:=dM.small
   have jz:=dm.small
   have ss:=aE _ _ bZ
   have q1:(decide (((i1:Nat):Int)<((i0:Nat):Int)))=true:=d!
   obtain ⟨p3,q4,cX⟩:=(dm.has aB).elem (i:=i1) o!
   have gv:bS env (some (.slice 41)) (some j.ag) (some (Zn i1))=some (AV.ptr p3 q4):=cX
   have g5:bh env hh 9 (AV.ptr p3 (q4+0))=some (AV.str ((j.af.g i1).name)):=(dm.has aB).part (t:=9) (j:=0) o! cX k! rfl
   obtain ⟨p7,q8,vm⟩:=(dm.has aB).elem (i:=i0) o!
   have BN:bS env (some (.slice 41)) (some j.ag) (some (Zn i0))=some (AV.ptr p7 q8):=vm
   have xX:bh env hh 9 (AV.ptr p7 (q8+0))=some (AV.str ((j.af.g i0).name)):=(dm.has aB).part (t:=9) (j:=0) o! vm k! rfl
   have I':AV.same 20 j.ag j.ag=true:=(dm.has aB).same 19
   rcases Bool.eq_false_or_eq_true (decide (((j.af.g i1).name)=((j.af.g i0).name))) with f1 | f1
   · have dC:=of_decide_eq_true f1
     exact aA.ret 6 (by simp only[gX,f1,cond_true,cond_false]) (pk (d+2) _ _ hh _ hh (CN 2<|VV (ba 3 false false .i64 ((i1:Nat):Int) ((i0:Nat):Int))<|BC q1<|MM (aw 23 1 j.ag bZ k!)<|CC<|VV gv<|CC<|MM g5<|CC<|MM (aw 23 1 j.ag bZ k!)<|CC<|VV BN<|CC<|MM xX<|VV (KY 9 false false ((j.af.g i1).name) ((j.af.g i0).name))<|HH (aw 23 1 j.ag bZ k!)<|HH I'<|HH g5<|HH (show AV.same 20 (AV.str ((j.af.g i1).name)) (AV.str ((j.af.g i1).name))=true from hX 19 _)<|HH (aw 23 1 j.ag bZ k!)<|HH I'<|HH xX<|HH (show AV.same 20 (AV.str ((j.af.g i0).name)) (AV.str ((j.af.g i0).name))=true from hX 19 _)<|BC f1<|ZZ) k!) (bF.refl aE) k!
   · have dC:=of_decide_eq_false f1
     have Rt:=fe 3 false true i1 1 o!
     exact aA.round (by simp only[gX,f1,cond_true,cond_false]) (pk (d+2) _ _ hh _ hh (CN 2<|VV (ba 3 false false .i64 ((i1:Nat):Int) ((i0:Nat):Int))<|BC q1<|MM (aw 23 1 j.ag bZ k!)<|CC<|VV gv<|CC<|MM g5<|CC<|MM (aw 23 1 j.ag bZ k!)<|CC<|VV BN<|CC<|MM xX<|VV (KY 9 false false ((j.af.g i1).name) ((j.af.g i0).name))<|HH (aw 23 1 j.ag bZ k!)<|HH I'<|HH g5<|HH (show AV.same 20 (AV.str ((j.af.g i1).name)) (AV.str ((j.af.g i1).name))=true from hX 19 _)<|HH (aw 23 1 j.ag bZ k!)<|HH I'<|HH xX<|HH (show AV.same 20 (AV.str ((j.af.g i0).name)) (AV.str ((j.af.g i0).name))=true from hX 19 _)<|BC f1<|VV Rt<|CC<|ZZ) k!) (bF.refl aE) _ k! (fun x=>sX i0 j cE dM dm l9 Ea qN (i1+1) o! x hh aE aB bZ)
def fH (j:cz):Nat→Nat→Option (Int)
 | 0,_=>none
 | dz+1,i0=>(bif (!(ek ((j.af.g i0).name))) then some 5 else (match (gX i0 j i0 0) with | none=>(bif (!decide ((bO (j.af.g i0))=0)) then some (bO (j.af.g i0)) else fH j dz (i0+1)) | some rr9=>some rr9))
theorem sY {d:Nat} {h:au} (j:cz) (br:Nat) (bn:aS h j.aj j.ab) (b8:aS h j.ag j.af) (gU:aL.ok h j):∀(k_ i_:Nat) (_:i_+k_=j.af.length) (x:Nat→AV) (hh:au) (aE:Tidy hh) (aB:Has h hh) (bj:hh.get br=some (aM.cells [j.aj,j.ag] 25 false)),aA (cR (d+2)) L9 ⟨((x 0)::(Pt br)::(x 2)::(Zn i_)::rx x 4 105 []),hh,[],.no⟩ (.exit 0) hh (fun y=>((y 0)::(Pt br)::rx y 2 107 [])) (fun r y=>((y 0)::(Pt br)::(Zi r)::rx y 3 106 [])) (fH j k_ i_)
 | 0,i0,fX,x,hh,aE,aB,bj=>by
   have cm:=bn.small
   have eJ:=b8.small
   have je:=aE _ _ bj
   have dG:b6 (some (.slice 41)) (some j.ag)=some (Zn j.af.length):=(b8.has aB).len
   have q2:(decide (((i0:Nat):Int)<((j.af.length:Nat):Int)))=false:=d!
   exact aA.out rfl (pk (d+2) _ _ hh _ hh (CN 2<|MM (aw 23 1 j.ag bj k!)<|VV dG<|VV (ba 3 false false .i64 ((i0:Nat):Int) ((j.af.length:Nat):Int))<|BB q2<|ZZ) k!) (bF.refl aE) k!
 | dz+1,i0,fX,x,hh,aE,aB,bj=>by
   have cm:=bn.small
   have eJ:=b8.small
   have je:=aE _ _ bj
   have dG:b6 (some (.slice 41)) (some j.ag)=some (Zn j.af.length):=(b8.has aB).len
   have q2:(decide (((i0:Nat):Int)<((j.af.length:Nat):Int)))=true:=d!
   obtain ⟨p4,q5,iW⟩:=(b8.has aB).elem (i:=i0) o!
   have iG:bS env (some (.slice 41)) (some j.ag) (some (Zn i0))=some (AV.ptr p4 q5):=iW
   have iV:bh env hh 9 (AV.ptr p4 (q5+0))=some (AV.str ((j.af.g i0).name)):=(b8.has aB).part (t:=9) (j:=0) o! iW k! rfl
   have k7:=L8 (d:=d+1) ((j.af.g i0).name) ((b8.has aB).ok (i:=i0) o!).1 aE
   rcases Bool.eq_false_or_eq_true (!(ek ((j.af.g i0).name))) with f1 | f1
   · exact aA.ret 5 (by simp only[fH,f1,cond_true,cond_false]) (pk (d+2) _ _ hh _ hh (CN 2<|MM (aw 23 1 j.ag bj k!)<|VV dG<|VV (ba 3 false false .i64 ((i0:Nat):Int) ((j.af.length:Nat):Int))<|BC q2<|MM (aw 23 1 j.ag bj k!)<|CC<|VV iG<|CC<|MM iV<|EE k7<|CC<|BC f1<|ZZ) k!) (bF.refl aE) k!
   · cases qc:gX i0 j i0 0 with
     | none=>
       obtain ⟨yl9,tI,sZ,jb⟩:=aA.n qc (sX (d:=d) (h:=hh) i0 j br (bn.has aB) (b8.has aB) (aL.mono aB gU) o! i0 0 o! (fun k_=>(((x 0)::(Pt br)::(x 2)::(Zn i0)::(Zi 0)::rx x 5 8 ((Zn i0)::(AV.ptr br 1)::j.ag::(Zn j.af.length)::(AV.bool (decide (((i0:Nat):Int)<((j.af.length:Nat):Int))))::(x 18)::(x 19)::(AV.ptr br 1)::j.ag::(Zn i0)::(AV.ptr p4 q5)::(AV.ptr p4 (q5+0))::(AV.str ((j.af.g i0).name))::(AV.bool (ek ((j.af.g i0).name)))::(AV.bool (!(ek ((j.af.g i0).name))))::rx x 28 81 [])):List AV).getD k_ AV.undef) hh aE (Has.refl _) bj)
       have mP:=jb.y
       have Wh:hh.nx≤tI.nx:=jb.n
       have kY:Has hh tI:=jb.a
       obtain ⟨p12,q13,BW⟩:=(b8.has aB).elem (i:=i0) o!
       have LD:bS env (some (.slice 41)) (some j.ag) (some (Zn i0))=some (AV.ptr p12 q13):=BW
       have Cq:bh env tI 41 (AV.ptr p12 q13)=some (AV.agg [(AV.str ((j.af.g i0).name)),(Zi ((j.af.g i0).ay)),((j.af.g i0).cB)]):=((b8.has aB).has kY).load o! BW
       have k15:=zZ (d:=d) (j.af.g i0) (aL.mono kY ((b8.has aB).ok (i:=i0) o!)) mP
       rcases Bool.eq_false_or_eq_true (!decide ((bO (j.af.g i0))=0)) with f3 | f3
       · have mX:=BI f3
         exact aA.ret (bO (j.af.g i0)) (by simp only[fH,f1,qc,f3,cond_true,cond_false]) (pk (d+2) _ _ hh _ tI (CN 2<|MM (aw 23 1 j.ag bj k!)<|VV dG<|VV (ba 3 false false .i64 ((i0:Nat):Int) ((j.af.length:Nat):Int))<|BC q2<|MM (aw 23 1 j.ag bj k!)<|CC<|VV iG<|CC<|MM iV<|EE k7<|CC<|BC f1<|LL sZ<|CC<|MM (aw 23 1 j.ag (jb.a _ _ bj) k!)<|CC<|VV LD<|MM Cq<|EE k15<|CN 2<|VV (eu 29 false true .i64 (bO (j.af.g i0)) 0)<|BB f3<|CN 2<|ZZ) k!) (⟨mP,kY,by omega⟩) k!
       · have mX:=BJ f3
         have u17:=fe 3 false true i0 1 o!
         exact aA.round (by simp only[fH,f1,qc,f3,cond_true,cond_false]) (pk (d+2) _ _ hh _ tI (CN 2<|MM (aw 23 1 j.ag bj k!)<|VV dG<|VV (ba 3 false false .i64 ((i0:Nat):Int) ((j.af.length:Nat):Int))<|BC q2<|MM (aw 23 1 j.ag bj k!)<|CC<|VV iG<|CC<|MM iV<|EE k7<|CC<|BC f1<|LL sZ<|CC<|MM (aw 23 1 j.ag (jb.a _ _ bj) k!)<|CC<|VV LD<|MM Cq<|EE k15<|CN 2<|VV (eu 29 false true .i64 (bO (j.af.g i0)) 0)<|BC f3<|VV u17<|CC<|ZZ) k!) (⟨mP,kY,by omega⟩) _ k! (fun x=>sY j br bn b8 gU dz (i0+1) o! x tI mP (aB.trans kY) (jb.a _ _ bj))
     | some rr9=>
       obtain ⟨yl9,tI,sZ,jb⟩:=aA.r qc (sX (d:=d) (h:=hh) i0 j br (bn.has aB) (b8.has aB) (aL.mono aB gU) o! i0 0 o! (fun k_=>(((x 0)::(Pt br)::(x 2)::(Zn i0)::(Zi 0)::rx x 5 8 ((Zn i0)::(AV.ptr br 1)::j.ag::(Zn j.af.length)::(AV.bool (decide (((i0:Nat):Int)<((j.af.length:Nat):Int))))::(x 18)::(x 19)::(AV.ptr br 1)::j.ag::(Zn i0)::(AV.ptr p4 q5)::(AV.ptr p4 (q5+0))::(AV.str ((j.af.g i0).name))::(AV.bool (ek ((j.af.g i0).name)))::(AV.bool (!(ek ((j.af.g i0).name))))::rx x 28 81 [])):List AV).getD k_ AV.undef) hh aE (Has.refl _) bj)
       have mP:=jb.y
       have Wh:hh.nx≤tI.nx:=jb.n
       have kY:Has hh tI:=jb.a
       exact aA.ret rr9 (by simp only[fH,f1,qc,cond_true,cond_false]) (pk (d+2) _ _ hh _ tI (CN 2<|MM (aw 23 1 j.ag bj k!)<|VV dG<|VV (ba 3 false false .i64 ((i0:Nat):Int) ((j.af.length:Nat):Int))<|BC q2<|MM (aw 23 1 j.ag bj k!)<|CC<|VV iG<|CC<|MM iV<|EE k7<|CC<|BC f1<|LL sZ<|ZZ) k!) (⟨mP,kY,by omega⟩) k!
def gY (i2:Nat) (j:cz):Nat→Nat→Option (Int)
 | 0,_=>none
 | Gb+1,i3=>(bif (decide (((j.ab.g i3).name)=((j.ab.g i2).name))) then some 6 else gY i2 j Gb (i3+1))
theorem s4 {d:Nat} {h:au} (i2:Nat) (j:cz) (oA:Nat) (mz:aS h j.aj j.ab) (qV:aS h j.ag j.af) (ES:aL.ok h j) (Wg:i2<j.ab.length):∀(k_ i_:Nat) (_:i_+k_=i2) (x:Nat→AV) (hh:au) (aE:Tidy hh) (aB:Has h hh) (g9:hh.get oA=some (aM.cells [j.aj,j.ag] 25 false)),aA (cR (d+2)) Mb ⟨((x 0)::(Pt oA)::rx x 2 4 ((Zn i2)::(Zn i_)::rx x 8 101 [])),hh,[],.no⟩ (.exit 6) hh (fun y=>((y 0)::(Pt oA)::rx y 2 4 ((Zn i2)::rx y 7 102 []))) (fun r y=>((y 0)::(Pt oA)::(Zi r)::rx y 3 3 ((Zn i2)::rx y 7 102 []))) (gY i2 j k_ i_)
 | 0,i3,fX,x,hh,aE,aB,g9=>by
   have xS:=mz.small
   have xU:=qV.small
   have N4:=aE _ _ g9
   have q1:(decide (((i3:Nat):Int)<((i2:Nat):Int)))=false:=d!
   exact aA.out rfl (pk (d+2) _ _ hh _ hh (CN 2<|VV (ba 3 false false .i64 ((i3:Nat):Int) ((i2:Nat):Int))<|BB q1<|ZZ) k!) (bF.refl aE) k!
 | Gb+1,i3,fX,x,hh,aE,aB,g9=>by
   have xS:=mz.small
   have xU:=qV.small
   have N4:=aE _ _ g9
   have q1:(decide (((i3:Nat):Int)<((i2:Nat):Int)))=true:=d!
   obtain ⟨p3,q4,cX⟩:=(mz.has aB).elem (i:=i3) o!
   have gv:bS env (some (.slice 44)) (some j.aj) (some (Zn i3))=some (AV.ptr p3 q4):=cX
   have g5:bh env hh 9 (AV.ptr p3 (q4+0))=some (AV.str ((j.ab.g i3).name)):=(mz.has aB).part (t:=9) (j:=0) o! cX k! rfl
   obtain ⟨p7,q8,vm⟩:=(mz.has aB).elem (i:=i2) o!
   have BN:bS env (some (.slice 44)) (some j.aj) (some (Zn i2))=some (AV.ptr p7 q8):=vm
   have xX:bh env hh 9 (AV.ptr p7 (q8+0))=some (AV.str ((j.ab.g i2).name)):=(mz.has aB).part (t:=9) (j:=0) o! vm k! rfl
   have I':AV.same 20 j.aj j.aj=true:=(mz.has aB).same 19
   rcases Bool.eq_false_or_eq_true (decide (((j.ab.g i3).name)=((j.ab.g i2).name))) with f1 | f1
   · have dC:=of_decide_eq_true f1
     exact aA.ret 6 (by simp only[gY,f1,cond_true,cond_false]) (pk (d+2) _ _ hh _ hh (CN 2<|VV (ba 3 false false .i64 ((i3:Nat):Int) ((i2:Nat):Int))<|BC q1<|MM (aw 22 0 j.aj g9 k!)<|CC<|VV gv<|CC<|MM g5<|CC<|MM (aw 22 0 j.aj g9 k!)<|CC<|VV BN<|CC<|MM xX<|VV (KY 9 false false ((j.ab.g i3).name) ((j.ab.g i2).name))<|HH (aw 22 0 j.aj g9 k!)<|HH I'<|HH g5<|HH (show AV.same 20 (AV.str ((j.ab.g i3).name)) (AV.str ((j.ab.g i3).name))=true from hX 19 _)<|HH (aw 22 0 j.aj g9 k!)<|HH I'<|HH xX<|HH (show AV.same 20 (AV.str ((j.ab.g i2).name)) (AV.str ((j.ab.g i2).name))=true from hX 19 _)<|BC f1<|ZZ) k!) (bF.refl aE) k!
   · have dC:=of_decide_eq_false f1
     have Rt:=fe 3 false true i3 1 o!
     exact aA.round (by simp only[gY,f1,cond_true,cond_false]) (pk (d+2) _ _ hh _ hh (CN 2<|VV (ba 3 false false .i64 ((i3:Nat):Int) ((i2:Nat):Int))<|BC q1<|MM (aw 22 0 j.aj g9 k!)<|CC<|VV gv<|CC<|MM g5<|CC<|MM (aw 22 0 j.aj g9 k!)<|CC<|VV BN<|CC<|MM xX<|VV (KY 9 false false ((j.ab.g i3).name) ((j.ab.g i2).name))<|HH (aw 22 0 j.aj g9 k!)<|HH I'<|HH g5<|HH (show AV.same 20 (AV.str ((j.ab.g i3).name)) (AV.str ((j.ab.g i3).name))=true from hX 19 _)<|HH (aw 22 0 j.aj g9 k!)<|HH I'<|HH xX<|HH (show AV.same 20 (AV.str ((j.ab.g i2).name)) (AV.str ((j.ab.g i2).name))=true from hX 19 _)<|BC f1<|VV Rt<|CC<|ZZ) k!) (bF.refl aE) _ k! (fun x=>s4 i2 j oA mz qV ES Wg Gb (i3+1) o! x hh aE aB g9)
def eQ (j:cz):Nat→Nat→Option (Int)
 | 0,_=>none
 | F_+1,i2=>(bif (!(ek ((j.ab.g i2).name))) then some 5 else (match (gY i2 j i2 0) with | none=>(bif (!decide ((cG j (j.ab.g i2))=0)) then some (cG j (j.ab.g i2)) else eQ j F_ (i2+1)) | some rr9=>some rr9))
theorem s5 {d:Nat} {h:au} (j:cz) (ik:Nat) (iI:aS h j.aj j.ab) (mb:aS h j.ag j.af) (vg:aL.ok h j):∀(k_ i_:Nat) (_:i_+k_=j.ab.length) (x:Nat→AV) (hh:au) (aE:Tidy hh) (aB:Has h hh) (eg:hh.get ik=some (aM.cells [j.aj,j.ag] 25 false)),aA (cR (d+2)) Ma ⟨((x 0)::(Pt ik)::rx x 2 4 ((Zn i_)::rx x 7 102 [])),hh,[],.no⟩ (.exit 4) hh (fun y=>((y 0)::(Pt ik)::rx y 2 107 [])) (fun r y=>((y 0)::(Pt ik)::(Zi r)::rx y 3 106 [])) (eQ j k_ i_)
 | 0,i2,fX,x,hh,aE,aB,eg=>by
   have sH:=iI.small
   have sI:=mb.small
   have I6:=aE _ _ eg
   have dG:b6 (some (.slice 44)) (some j.aj)=some (Zn j.ab.length):=(iI.has aB).len
   have q2:(decide (((i2:Nat):Int)<((j.ab.length:Nat):Int)))=false:=d!
   exact aA.out rfl (pk (d+2) _ _ hh _ hh (CN 2<|MM (aw 22 0 j.aj eg k!)<|VV dG<|VV (ba 3 false false .i64 ((i2:Nat):Int) ((j.ab.length:Nat):Int))<|BB q2<|ZZ) k!) (bF.refl aE) k!
 | F_+1,i2,fX,x,hh,aE,aB,eg=>by
   have sH:=iI.small
   have sI:=mb.small
   have I6:=aE _ _ eg
   have dG:b6 (some (.slice 44)) (some j.aj)=some (Zn j.ab.length):=(iI.has aB).len
   have q2:(decide (((i2:Nat):Int)<((j.ab.length:Nat):Int)))=true:=d!
   obtain ⟨p4,q5,iW⟩:=(iI.has aB).elem (i:=i2) o!
   have iG:bS env (some (.slice 44)) (some j.aj) (some (Zn i2))=some (AV.ptr p4 q5):=iW
   have iV:bh env hh 9 (AV.ptr p4 (q5+0))=some (AV.str ((j.ab.g i2).name)):=(iI.has aB).part (t:=9) (j:=0) o! iW k! rfl
   have k7:=L8 (d:=d+1) ((j.ab.g i2).name) ((iI.has aB).ok (i:=i2) o!).1 aE
   rcases Bool.eq_false_or_eq_true (!(ek ((j.ab.g i2).name))) with f1 | f1
   · exact aA.ret 5 (by simp only[eQ,f1,cond_true,cond_false]) (pk (d+2) _ _ hh _ hh (CN 2<|MM (aw 22 0 j.aj eg k!)<|VV dG<|VV (ba 3 false false .i64 ((i2:Nat):Int) ((j.ab.length:Nat):Int))<|BC q2<|MM (aw 22 0 j.aj eg k!)<|CC<|VV iG<|CC<|MM iV<|EE k7<|CC<|BC f1<|ZZ) k!) (bF.refl aE) k!
   · cases qc:gY i2 j i2 0 with
     | none=>
       obtain ⟨yl9,tI,sZ,jb⟩:=aA.n qc (s4 (d:=d) (h:=hh) i2 j ik (iI.has aB) (mb.has aB) (aL.mono aB vg) o! i2 0 o! (fun k_=>(((x 0)::(Pt ik)::rx x 2 4 ((Zn i2)::(Zi 0)::rx x 8 51 ((Zn i2)::(Pt ik)::j.aj::(Zn j.ab.length)::(AV.bool (decide (((i2:Nat):Int)<((j.ab.length:Nat):Int))))::(x 64)::(x 65)::(Pt ik)::j.aj::(Zn i2)::(AV.ptr p4 q5)::(AV.ptr p4 (q5+0))::(AV.str ((j.ab.g i2).name))::(AV.bool (ek ((j.ab.g i2).name)))::(AV.bool (!(ek ((j.ab.g i2).name))))::rx x 74 35 []))):List AV).getD k_ AV.undef) hh aE (Has.refl _) eg)
       have mP:=jb.y
       have Wh:hh.nx≤tI.nx:=jb.n
       have kY:Has hh tI:=jb.a
       obtain ⟨p12,q13,BW⟩:=(iI.has aB).elem (i:=i2) o!
       have LD:bS env (some (.slice 44)) (some j.aj) (some (Zn i2))=some (AV.ptr p12 q13):=BW
       have Cq:bh env tI 44 (AV.ptr p12 q13)=some (AV.agg [(AV.str ((j.ab.g i2).name)),(Zi ((j.ab.g i2).aI)),((j.ab.g i2).aO),((j.ab.g i2).aU)]):=((iI.has aB).has kY).load o! BW
       have k15:=Gh (d:=d) j (j.ab.g i2) (aL.mono kY (aL.mono aB vg)) (aL.mono kY ((iI.has aB).ok (i:=i2) o!)) mP
       have Gc:AV.same 20 (AV.agg [j.aj,j.ag]) (AV.agg [j.aj,j.ag])=true:=fj 18 (oX (iI.has aB).same (oX (mb.has aB).same Ix))
       have c17:AV.same 20 j.aj j.aj=true:=(iI.has aB).same 19
       have c18:AV.same 20 (AV.agg [(AV.str ((j.ab.g i2).name)),(Zi ((j.ab.g i2).aI)),((j.ab.g i2).aO),((j.ab.g i2).aU)]) (AV.agg [(AV.str ((j.ab.g i2).name)),(Zi ((j.ab.g i2).aI)),((j.ab.g i2).aO),((j.ab.g i2).aU)])=true:=fj 18 (oX (fun n=>hX n _) (oX (fun n=>aJ n _ _) (oX (((iI.has aB).ok (i:=i2) o!).2.1).same (oX (((iI.has aB).ok (i:=i2) o!).2.2).same Ix))))
       rcases Bool.eq_false_or_eq_true (!decide ((cG j (j.ab.g i2))=0)) with f3 | f3
       · have mX:=BI f3
         exact aA.ret (cG j (j.ab.g i2)) (by simp only[eQ,f1,qc,f3,cond_true,cond_false]) (pk (d+2) _ _ hh _ tI (CN 2<|MM (aw 22 0 j.aj eg k!)<|VV dG<|VV (ba 3 false false .i64 ((i2:Nat):Int) ((j.ab.length:Nat):Int))<|BC q2<|MM (aw 22 0 j.aj eg k!)<|CC<|VV iG<|CC<|MM iV<|EE k7<|CC<|BC f1<|LL sZ<|MM (aw 25 0 (AV.agg [j.aj,j.ag]) (jb.a _ _ eg) k!)<|CC<|MM (aw 22 0 j.aj (jb.a _ _ eg) k!)<|CC<|VV LD<|MM Cq<|EE k15<|CC<|HH (aw 25 0 (AV.agg [j.aj,j.ag]) (jb.a _ _ eg) k!)<|HH Gc<|HH (aw 22 0 j.aj (jb.a _ _ eg) k!)<|HH c17<|HH Cq<|HH c18<|CC<|VV (eu 29 false true .i64 (cG j (j.ab.g i2)) 0)<|BB f3<|CN 2<|ZZ) k!) (⟨mP,kY,by omega⟩) k!
       · have mX:=BJ f3
         have u20:=fe 3 false true i2 1 o!
         exact aA.round (by simp only[eQ,f1,qc,f3,cond_true,cond_false]) (pk (d+2) _ _ hh _ tI (CN 2<|MM (aw 22 0 j.aj eg k!)<|VV dG<|VV (ba 3 false false .i64 ((i2:Nat):Int) ((j.ab.length:Nat):Int))<|BC q2<|MM (aw 22 0 j.aj eg k!)<|CC<|VV iG<|CC<|MM iV<|EE k7<|CC<|BC f1<|LL sZ<|MM (aw 25 0 (AV.agg [j.aj,j.ag]) (jb.a _ _ eg) k!)<|CC<|MM (aw 22 0 j.aj (jb.a _ _ eg) k!)<|CC<|VV LD<|MM Cq<|EE k15<|CC<|HH (aw 25 0 (AV.agg [j.aj,j.ag]) (jb.a _ _ eg) k!)<|HH Gc<|HH (aw 22 0 j.aj (jb.a _ _ eg) k!)<|HH c17<|HH Cq<|HH c18<|CC<|VV (eu 29 false true .i64 (cG j (j.ab.g i2)) 0)<|BC f3<|VV u20<|CC<|ZZ) k!) (⟨mP,kY,by omega⟩) _ k! (fun x=>s5 j ik iI mb vg F_ (i2+1) o! x tI mP (aB.trans kY) (jb.a _ _ eg))
     | some rr9=>
       obtain ⟨yl9,tI,sZ,jb⟩:=aA.r qc (s4 (d:=d) (h:=hh) i2 j ik (iI.has aB) (mb.has aB) (aL.mono aB vg) o! i2 0 o! (fun k_=>(((x 0)::(Pt ik)::rx x 2 4 ((Zn i2)::(Zi 0)::rx x 8 51 ((Zn i2)::(Pt ik)::j.aj::(Zn j.ab.length)::(AV.bool (decide (((i2:Nat):Int)<((j.ab.length:Nat):Int))))::(x 64)::(x 65)::(Pt ik)::j.aj::(Zn i2)::(AV.ptr p4 q5)::(AV.ptr p4 (q5+0))::(AV.str ((j.ab.g i2).name))::(AV.bool (ek ((j.ab.g i2).name)))::(AV.bool (!(ek ((j.ab.g i2).name))))::rx x 74 35 []))):List AV).getD k_ AV.undef) hh aE (Has.refl _) eg)
       have mP:=jb.y
       have Wh:hh.nx≤tI.nx:=jb.n
       have kY:Has hh tI:=jb.a
       exact aA.ret rr9 (by simp only[eQ,f1,qc,cond_true,cond_false]) (pk (d+2) _ _ hh _ tI (CN 2<|MM (aw 22 0 j.aj eg k!)<|VV dG<|VV (ba 3 false false .i64 ((i2:Nat):Int) ((j.ab.length:Nat):Int))<|BC q2<|MM (aw 22 0 j.aj eg k!)<|CC<|VV iG<|CC<|MM iV<|EE k7<|CC<|BC f1<|LL sZ<|ZZ) k!) (⟨mP,kY,by omega⟩) k!
theorem wF {i2:Nat} {j:cz}:∀{k i:Nat} {r:Int},gY i2 j k i=some r→r≠0
 | 0,i,r,h=>by cases h
 | k+1,i,r,h=>by
   rw[gY] at h
   cases q:decide ((j.ab.g i).name=(j.ab.g i2).name) with
   | true=>rw[q] at h;cases h;decide
   | false=>rw[q] at h;exact wF (k:=k) h
theorem nY {j:cz}:∀{k i:Nat},(eQ j k i=none→∀t,i≤t→t<i+k→cG j (j.ab.g t)=0)∧(∀r,eQ j k i=some r→r≠0)
 | 0,i=>⟨fun _ q h1 h2=>by omega,fun r h=>by cases h⟩
 | k+1,i=>by
   have ih:=nY (j:=j) (k:=k) (i:=i+1)
   rw[eQ]
   cases a:ek (j.ab.g i).name with
   | false=>exact ⟨(fun h=>by cases h),(fun r h=>by cases h;decide)⟩
   | true=>
     cases b:gY i j i 0 with
     | some r0=>exact ⟨(fun h=>by cases h),(fun r h=>by cases h;exact wF b)⟩
     | none=>
       by_cases c:cG j (j.ab.g i)=0
       · rw[decide_eq_true c]
         refine ⟨fun h q h1 h2=>?_,ih.2⟩
         by_cases e:q=i
         · rw[e];exact c
         · exact ih.1 h q o! o!
       · rw[decide_eq_false c]
         exact ⟨(fun h=>by cases h),(fun r h=>by cases h;exact c)⟩
theorem E3 {j:cz} (h:eQ j j.ab.length 0=none):∀i,i<j.ab.length→∀q,q<(j.ab.g i).az.length→0≤(j.ab.g i).az.g q∧(j.ab.g i).az.g q<(j.ab.length:Int):=fun i hi=>(vp (nY.1 h i o! o!)).2.1
def bu (j:cz):Int:=(bif (decide (16<((j.af.length:Nat):Int))) then 3 else (match (fH j j.af.length 0) with | none=>(bif (decide (64<((j.ab.length:Nat):Int))) then 3 else (match (eQ j j.ab.length 0) with | none=>(bif (!decide ((((dX j).length:Nat):Int)=((j.ab.length:Nat):Int))) then 11 else 0) | some VS=>VS)) | some xz=>xz))
theorem Bd {d:Nat} {h:au} (j:cz) (bH:aL.ok h j) (bW:Tidy h):cR (d+3) (.fn 9) [(AV.agg [j.aj,j.ag])] h= .ret (Zi (bu j)) h:=by
 have dP:=bH.1.small
 have dQ:=bH.2.small
 obtain ⟨h1,bM,cx,jc,aQ,cA⟩:=j_ bW (aM.cells [j.aj,j.ag] 25 false)
 have bt:Has h h1:=cA
 have re:b6 (some (.slice 41)) (some j.ag)=some (Zn j.af.length):=bH.2.len
 rcases Bool.eq_false_or_eq_true (decide (16<((j.af.length:Nat):Int))) with f0 | f0
 · have dO:=of_decide_eq_true f0
   have e:bu j=3:=by simp only[bu,f0,cond_true,cond_false]
   rw[e]
   exact aD rfl (bb Tryz.func9 pt rfl (.inr rfl) (pk (d+2) _ _ h _ h1 (NN bM (fun i=>(Pt i))<|CN 2<|MM (aw 23 1 j.ag aQ k!)<|VV re<|VV (bR 3 false true .i64 ((j.af.length:Nat):Int) 16)<|BC f0<|ZZ) k!) k!) bt rfl
 · have dO:=of_decide_eq_false f0
   cases cY:fH j j.af.length 0 with
   | none=>
     obtain ⟨xA,h5,dH,c9⟩:=aA.n cY (sY (d:=d) (h:=h) j h.nx bH.1 bH.2 bH j.af.length 0 o! (fun k_=>(((AV.agg [j.aj,j.ag])::(Pt h.nx)::(Zi 0)::(Zi 0)::AV.undef::AV.undef::AV.undef::AV.undef::AV.undef::(AV.ptr h.nx 1)::j.ag::(Zn j.af.length)::(AV.bool (decide (16<((j.af.length:Nat):Int))))::g4 96):List AV).getD k_ AV.undef) h1 cx bt aQ)
     have lJ:=c9.y
     have tG:h1.nx≤h5.nx:=c9.n
     have gA:Has h h5:=bt.trans c9.a
     have JG:b6 (some (.slice 44)) (some j.aj)=some (Zn j.ab.length):=bH.1.len
     rcases Bool.eq_false_or_eq_true (decide (64<((j.ab.length:Nat):Int))) with f2 | f2
     · have jw:=of_decide_eq_true f2
       have e:bu j=3:=by simp only[bu,f0,cY,f2,cond_true,cond_false]
       rw[e]
       exact aD rfl (bb Tryz.func9 pt rfl (.inr rfl) (pk (d+2) _ _ h _ h5 (NN bM (fun i=>(Pt i))<|CN 2<|MM (aw 23 1 j.ag aQ k!)<|VV re<|VV (bR 3 false true .i64 ((j.af.length:Nat):Int) 16)<|BC f0<|LL dH<|CC<|MM (aw 22 0 j.aj (c9.a _ _ aQ) k!)<|VV JG<|VV (bR 3 false true .i64 ((j.ab.length:Nat):Int) 64)<|BC f2<|ZZ) k!) k!) gA rfl
     · have jw:=of_decide_eq_false f2
       cases mc:eQ j j.ab.length 0 with
       | none=>
         obtain ⟨yl8,h9,mO,eh⟩:=aA.n mc (s5 (d:=d) (h:=h) j h.nx bH.1 bH.2 bH j.ab.length 0 o! (fun k_=>(((xA 0)::(Pt h.nx)::rx xA 2 4 ((Zi 0)::rx xA 7 48 ((Pt h.nx)::j.aj::(Zn j.ab.length)::(AV.bool (decide (64<((j.ab.length:Nat):Int))))::rx xA 59 50 []))):List AV).getD k_ AV.undef) h5 lJ gA (c9.a _ _ aQ))
         have nz:=eh.y
         have FN:h5.nx≤h9.nx:=eh.n
         have hZ:Has h h9:=gA.trans eh.a
         have CQ:Has h5 h9:=eh.a
         have oS:b6 (some (.slice 44)) (some j.aj)=some (Zn j.ab.length):=bH.1.len
         obtain ⟨z11,mq,aaT,fJ,af3,aiN⟩:=EJ (d:=d) j (aL.mono hZ bH) (by first | omega | assumption | exact E3 (by assumption)) (by first | omega | assumption | exact E3 (by assumption)) nz
         have ku:=fJ.y
         have aaS:h9.nx≤mq.nx:=fJ.n
         have iF:Has h mq:=hZ.trans fJ.a
         have af4:Has h5 mq:=CQ.trans fJ.a
         have af5:Has h9 mq:=fJ.a
         have aio:=af3.small
         have Rm:b6 (some (.slice 3)) (some z11)=some (Zn ((dX j).length)):=af3.len
         have LP:AV.same 20 (AV.agg [j.aj,j.ag]) (AV.agg [j.aj,j.ag])=true:=fj 18 (oX bH.1.same (oX bH.2.same Ix))
         have Gc:AV.same 20 j.aj j.aj=true:=bH.1.same 19
         rcases Bool.eq_false_or_eq_true (!decide ((((dX j).length:Nat):Int)=((j.ab.length:Nat):Int))) with f4 | f4
         · have sy:=BI f4
           have e:bu j=11:=by simp only[bu,f0,cY,f2,mc,f4,cond_true,cond_false]
           rw[e]
           exact aD rfl (bb Tryz.func9 pt rfl (.inr rfl) (pk (d+2) _ _ h _ mq (NN bM (fun i=>(Pt i))<|CN 2<|MM (aw 23 1 j.ag aQ k!)<|VV re<|VV (bR 3 false true .i64 ((j.af.length:Nat):Int) 16)<|BC f0<|LL dH<|CC<|MM (aw 22 0 j.aj (c9.a _ _ aQ) k!)<|VV JG<|VV (bR 3 false true .i64 ((j.ab.length:Nat):Int) 64)<|BC f2<|LL mO<|MM (aw 25 0 (AV.agg [j.aj,j.ag]) (eh.a _ _ (c9.a _ _ aQ)) k!)<|CC<|MM (aw 22 0 j.aj (eh.a _ _ (c9.a _ _ aQ)) k!)<|VV oS<|EE aaT<|VV Rm<|VV (eu 3 false false .i64 (((dX j).length:Nat):Int) ((j.ab.length:Nat):Int))<|HH (aw 25 0 (AV.agg [j.aj,j.ag]) (eh.a _ _ (c9.a _ _ aQ)) k!)<|HH LP<|HH (aw 22 0 j.aj (eh.a _ _ (c9.a _ _ aQ)) k!)<|HH Gc<|HH (aw 22 0 j.aj (fJ.a _ _ (eh.a _ _ (c9.a _ _ aQ))) k!)<|HH Gc<|BC f4<|ZZ) k!) k!) iF rfl
         · have sy:=BJ f4
           have e:bu j=0:=by simp only[bu,f0,cY,f2,mc,f4,cond_true,cond_false]
           rw[e]
           exact aD rfl (bb Tryz.func9 pt rfl (.inr rfl) (pk (d+2) _ _ h _ mq (NN bM (fun i=>(Pt i))<|CN 2<|MM (aw 23 1 j.ag aQ k!)<|VV re<|VV (bR 3 false true .i64 ((j.af.length:Nat):Int) 16)<|BC f0<|LL dH<|CC<|MM (aw 22 0 j.aj (c9.a _ _ aQ) k!)<|VV JG<|VV (bR 3 false true .i64 ((j.ab.length:Nat):Int) 64)<|BC f2<|LL mO<|MM (aw 25 0 (AV.agg [j.aj,j.ag]) (eh.a _ _ (c9.a _ _ aQ)) k!)<|CC<|MM (aw 22 0 j.aj (eh.a _ _ (c9.a _ _ aQ)) k!)<|VV oS<|EE aaT<|VV Rm<|VV (eu 3 false false .i64 (((dX j).length:Nat):Int) ((j.ab.length:Nat):Int))<|HH (aw 25 0 (AV.agg [j.aj,j.ag]) (eh.a _ _ (c9.a _ _ aQ)) k!)<|HH LP<|HH (aw 22 0 j.aj (eh.a _ _ (c9.a _ _ aQ)) k!)<|HH Gc<|HH (aw 22 0 j.aj (fJ.a _ _ (eh.a _ _ (c9.a _ _ aQ))) k!)<|HH Gc<|BC f4<|ZZ) k!) k!) iF rfl
       | some VS=>
         obtain ⟨yl8,h9,mO,eh⟩:=aA.r mc (s5 (d:=d) (h:=h) j h.nx bH.1 bH.2 bH j.ab.length 0 o! (fun k_=>(((xA 0)::(Pt h.nx)::rx xA 2 4 ((Zi 0)::rx xA 7 48 ((Pt h.nx)::j.aj::(Zn j.ab.length)::(AV.bool (decide (64<((j.ab.length:Nat):Int))))::rx xA 59 50 []))):List AV).getD k_ AV.undef) h5 lJ gA (c9.a _ _ aQ))
         have nz:=eh.y
         have FN:h5.nx≤h9.nx:=eh.n
         have hZ:Has h h9:=gA.trans eh.a
         have CQ:Has h5 h9:=eh.a
         have e:bu j=VS:=by simp only[bu,f0,cY,f2,mc,cond_true,cond_false]
         rw[e]
         exact aD rfl (bb Tryz.func9 pt rfl (.inr rfl) (pk (d+2) _ _ h _ h9 (NN bM (fun i=>(Pt i))<|CN 2<|MM (aw 23 1 j.ag aQ k!)<|VV re<|VV (bR 3 false true .i64 ((j.af.length:Nat):Int) 16)<|BC f0<|LL dH<|CC<|MM (aw 22 0 j.aj (c9.a _ _ aQ) k!)<|VV JG<|VV (bR 3 false true .i64 ((j.ab.length:Nat):Int) 64)<|BC f2<|LL mO<|ZZ) k!) k!) hZ rfl
   | some xz=>
     obtain ⟨xA,h5,dH,c9⟩:=aA.r cY (sY (d:=d) (h:=h) j h.nx bH.1 bH.2 bH j.af.length 0 o! (fun k_=>(((AV.agg [j.aj,j.ag])::(Pt h.nx)::(Zi 0)::(Zi 0)::AV.undef::AV.undef::AV.undef::AV.undef::AV.undef::(AV.ptr h.nx 1)::j.ag::(Zn j.af.length)::(AV.bool (decide (16<((j.af.length:Nat):Int))))::g4 96):List AV).getD k_ AV.undef) h1 cx bt aQ)
     have lJ:=c9.y
     have tG:h1.nx≤h5.nx:=c9.n
     have gA:Has h h5:=bt.trans c9.a
     have e:bu j=xz:=by simp only[bu,f0,cY,cond_true,cond_false]
     rw[e]
     exact aD rfl (bb Tryz.func9 pt rfl (.inr rfl) (pk (d+2) _ _ h _ h5 (NN bM (fun i=>(Pt i))<|CN 2<|MM (aw 23 1 j.ag aQ k!)<|VV re<|VV (bR 3 false true .i64 ((j.af.length:Nat):Int) 16)<|BC f0<|LL dH<|ZZ) k!) k!) gA rfl
theorem E4 (x:Int):dg x=cD x:=rfl
theorem Wi {j:cz} {a:Nat}:∀k i,gX a j k i=bif anyI (fun n=>decide ((j.af.g n).name=(j.af.g a).name)) k i then some 6 else none
 | 0,i=>rfl
 | k+1,i=>by
   rw[gX,anyI,Wi k (i+1)]
   cases decide ((j.af.g i).name=(j.af.g a).name)<;>rfl
theorem Wj {j:cz} {a:Nat}:∀k i,gY a j k i=bif anyI (fun n=>decide ((j.ab.g n).name=(j.ab.g a).name)) k i then some 6 else none
 | 0,i=>rfl
 | k+1,i=>by
   rw[gY,anyI,Wj k (i+1)]
   cases decide ((j.ab.g i).name=(j.ab.g a).name)<;>rfl
theorem Qc {x:Task} {a:Nat}:∀k i,dY a x k i=bif anyI (fun n=>decide (x.az.g n=x.az.g a)) k i then some 6 else none
 | 0,i=>rfl
 | k+1,i=>by
   rw[dY,anyI,Qc k (i+1)]
   cases decide (x.az.g i=x.az.g a)<;>rfl
theorem Qd {x:Task} {a:Nat}:∀k i,dZ a x k i=bif anyI (fun n=>decide ((x.ar.g n).ah=(x.ar.g a).ah)) k i then some 6 else none
 | 0,i=>rfl
 | k+1,i=>by
   rw[dZ,anyI,Qd k (i+1)]
   cases decide ((x.ar.g i).ah=(x.ar.g a).ah)<;>rfl
theorem Wk {x:bJ}:∀(k i:Nat),i+k=x.off.length→cb x k i=yk (fun q=>cC (x.off.take q) (x.off.g q)) k i
 | 0,i,h=>rfl
 | k+1,i,h=>by
   have hi:i<x.off.length:=by omega
   rw[cb,yk,Wk k (i+1) o!]
   have e:cC (x.off.take i) (x.off.g i)=bif !(cD (x.off.g i).a_) then 1 else bif !(cD (x.off.g i).aN) then 1 else bif decide ((x.off.g i).aN<(x.off.g i).a_) then 1 else bif decide (0<((i:Nat):Int)) then (bif decide ((x.off.g i).a_≤(x.off.g (i - 1)).aN) then 1 else 0) else 0:=by
    rw[cC,E4,E4,qb (Nat.le_of_lt hi)]
    by_cases z:0<i
    · rw[xL (show i - 1<i by omega)]
    · rw[decide_eq_false (show ¬0<((i:Nat):Int) by omega)];rfl
   rw[e]
   cases cD (x.off.g i).a_<;>cases cD (x.off.g i).aN<;>cases decide ((x.off.g i).aN<(x.off.g i).a_)<;>cases decide (0<((i:Nat):Int))<;>cases decide ((x.off.g i).a_≤(x.off.g (i - 1)).aN)<;>rfl
theorem adE {j:cz} {i:Nat} (hi:i<j.af.length):bw (List.take i j.af) (List.g j.af i)=bif !(ek (j.af.g i).name) then 5 else bif anyI (fun n=>decide ((j.af.g n).name=(j.af.g i).name)) i 0 then 6 else bO (j.af.g i):=by
 rw[bw,Qb,acF,PT,qb (Nat.le_of_lt hi)]
 rw[qa (Q:=fun n=>decide ((j.af.g n).name=(j.af.g i).name)) fun n _ hn=>by rw[xL o!];rfl]
 have e:(bif !(fS (j.af.g i).ay 1000) then 1 else JK (j.af.g i).off.length 16 (fun jx=>cC (List.take jx (j.af.g i).off) (List.g (j.af.g i).off jx)))=bO (j.af.g i):=by
  rw[bO,fS,JK,Wk _ _ o!]
  by_cases a:0≤(j.af.g i).ay
  · rw[decide_eq_true a,decide_eq_false (show ¬(j.af.g i).ay<0 by omega)]
    by_cases b:(j.af.g i).ay≤1000
    · rw[decide_eq_true b,decide_eq_false (show ¬1000<(j.af.g i).ay by omega)];rfl
    · rw[decide_eq_false b,decide_eq_true (show 1000<(j.af.g i).ay by omega)];rfl
  · rw[decide_eq_false a,decide_eq_true (show (j.af.g i).ay<0 by omega)];rfl
 rw[←e]
theorem Wl {j:cz}:∀(k i:Nat),i+k=j.af.length→fH j k i=yk (fun q=>bw (List.take q j.af) (List.g j.af q)) k i
 | 0,i,h=>rfl
 | k+1,i,h=>by
   rw[fH,yk,Wl k (i+1) o!,Wi,adE o!]
   cases ek (j.af.g i).name with
   | false=>rfl
   | true=>cases anyI (fun n=>decide ((j.af.g n).name=(j.af.g i).name)) i 0<;>rfl
theorem Qe (x:Int) (n:Nat):(!(ly x (n:Int)))=(bif decide (x<0) then true else decide ((n:Int)≤x)):=by
 rw[ly]
 by_cases a:0≤x
 · rw[decide_eq_true a,decide_eq_false (show ¬x<0 by omega),cond_true,cond_false]
   by_cases b:x<(n:Int)
   · rw[decide_eq_true b,decide_eq_false (show ¬(n:Int)≤x by omega)];rfl
   · rw[decide_eq_false b,decide_eq_true (show (n:Int)≤x by omega)];rfl
 · rw[decide_eq_false a,decide_eq_true (show x<0 by omega)];rfl
theorem Qf {j:cz} {t:Task}:∀(k i:Nat),i+k=t.az.length→cQ t j k i=yk (fun q=>cO (List.take q t.az) (List.g t.az q) j) k i
 | 0,i,h=>rfl
 | k+1,i,h=>by
   have e:cO (List.take i t.az) (List.g t.az i) j=bif decide (t.az.g i<0) then 7 else bif decide (((j.ab.length:Nat):Int)≤t.az.g i) then 7 else bif anyI (fun n=>decide (t.az.g n=t.az.g i)) i 0 then 6 else 0:=by
    rw[cO,fR,Qe,acG,qb (show i≤t.az.length by omega)]
    rw[qa (Q:=fun n=>decide (t.az.g n=t.az.g i)) fun n _ hn=>by rw[xL o!];exact decide_eq_decide.2 eq_comm]
    cases decide (t.az.g i<0)<;>cases decide (((j.ab.length:Nat):Int)≤t.az.g i)<;>rfl
   rw[cQ,yk,Qf k (i+1) o!,Qc,e]
   cases decide (t.az.g i<0)<;>cases decide (((j.ab.length:Nat):Int)≤t.az.g i)<;>cases anyI (fun n=>decide (t.az.g n=t.az.g i)) i 0<;>rfl
theorem Wm {j:cz} {t:Task}:∀(k i:Nat),i+k=t.ar.length→cj t j k i=yk (fun q=>fL (List.take q t.ar) (List.g t.ar q) j) k i
 | 0,i,h=>rfl
 | k+1,i,h=>by
   have e:fL (List.take i t.ar) (List.g t.ar i) j=bif decide ((t.ar.g i).ah<0) then 7 else bif decide (((j.af.length:Nat):Int)≤(t.ar.g i).ah) then 7 else bif anyI (fun n=>decide ((t.ar.g n).ah=(t.ar.g i).ah)) i 0 then 6 else bif decide ((t.ar.g i).ay<1) then 1 else bif decide (1000<(t.ar.g i).ay) then 1 else bif decide ((j.af.g (Int.toNat (t.ar.g i).ah)).ay<(t.ar.g i).ay) then 9 else 0:=by
    rw[fL,dx,Qe,VA,qb (show i≤t.ar.length by omega)]
    rw[qa (Q:=fun n=>decide ((t.ar.g n).ah=(t.ar.g i).ah)) fun n _ hn=>by rw[xL o!];rfl]
    cases decide ((t.ar.g i).ah<0)<;>cases decide (((j.af.length:Nat):Int)≤(t.ar.g i).ah)<;>rfl
   rw[cj,yk,Wm k (i+1) o!,Qd,e]
   cases decide ((t.ar.g i).ah<0)<;>cases decide (((j.af.length:Nat):Int)≤(t.ar.g i).ah)<;>cases anyI (fun n=>decide ((t.ar.g n).ah=(t.ar.g i).ah)) i 0<;>cases decide ((t.ar.g i).ay<1)<;>cases decide (1000<(t.ar.g i).ay)<;>cases decide ((j.af.g (Int.toNat (t.ar.g i).ah)).ay<(t.ar.g i).ay)<;>rfl
theorem Zz {j:cz} {i:Nat} (hi:i<j.ab.length):eK (List.take i j.ab) (List.g j.ab i) j=bif !(ek (j.ab.g i).name) then 5 else bif anyI (fun n=>decide ((j.ab.g n).name=(j.ab.g i).name)) i 0 then 6 else cG j (j.ab.g i):=by
 rw[eK,cZ,Qb,Y5,qb (Nat.le_of_lt hi),E4]
 rw[qa (Q:=fun n=>decide ((j.ab.g n).name=(j.ab.g i).name)) fun n _ hn=>by rw[xL o!];rfl]
 rw[cG,Qf _ _ o!,Wm _ _ o!,Vv,Vw,JK,JK]
 rw[decide_eq_false (show ¬(((j.ab.g i).az.length:Nat):Int)<(((j.ab.g i).az.length:Nat):Int) by omega),decide_eq_false (show ¬(((j.ab.g i).ar.length:Nat):Int)<(((j.ab.g i).ar.length:Nat):Int) by omega),cond_false,cond_false]
 have e1:List.g j.ab i=j.ab.g i:=rfl
 cases ek (j.ab.g i).name with
 | false=>rfl
 | true=>
 cases anyI (fun n=>decide ((j.ab.g n).name=(j.ab.g i).name)) i 0 with
 | true=>rfl
 | false=>
 cases cD (j.ab.g i).aI with
 | false=>rfl
 | true=>
 cases h:yk (fun q=>cO (List.take q (j.ab.g i).az) (List.g (j.ab.g i).az q) j) (j.ab.g i).az.length 0 with
 | none=>rfl
 | some r=>
   have:=vb h
   show (bif !decide (r=0) then r else _)=r
   rw[decide_eq_false this];rfl
theorem Wn {j:cz}:∀(k i:Nat),i+k=j.ab.length→eQ j k i=yk (fun q=>eK (List.take q j.ab) (List.g j.ab q) j) k i
 | 0,i,h=>rfl
 | k+1,i,h=>by
   rw[eQ,yk,Wn k (i+1) o!,Wj,Zz o!]
   cases ek (j.ab.g i).name with
   | false=>rfl
   | true=>cases anyI (fun n=>decide ((j.ab.g n).name=(j.ab.g i).name)) i 0<;>rfl
theorem Wo (j:cz) (h:(∀i,i<j.ab.length→∀q,q<(j.ab.g i).az.length→0≤(j.ab.g i).az.g q∧(j.ab.g i).az.g q<(j.ab.length:Int))→j.ab.length≤64→(dh j.ab).length=(dX j).length∧(dX j).length≤j.ab.length):bG j=bu j:=by
 have nbf:bK j.ab 64 (fun jx=>eK (List.take jx j.ab) (List.g j.ab jx) j)=0→(dh j.ab).length=(dX j).length∧(dX j).length≤j.ab.length:=fun e=>h (sE e) (by rw[zJ] at e;have:=(ov e).1;omega)
 rw[bG,bu,Wl _ _ o!,Wn _ _ o!,Vx]
 rw[zJ] at nbf ⊢
 rw[JK]
 rw[JK] at nbf ⊢
 generalize hA:yk (fun q=>bw (List.take q j.af) (List.g j.af q)) j.af.length 0=A
 generalize hB:yk (fun q=>eK (List.take q j.ab) (List.g j.ab q) j) j.ab.length 0=B at nbf ⊢
 cases decide (16<((j.af.length:Nat):Int)) with
 | true=>rfl
 | false=>
 rw[cond_false,cond_false]
 cases A with
 | some r=>
   have:=vb hA
   show (bif !decide (r=0) then r else _)=r
   rw[decide_eq_false this];rfl
 | none=>
 show (bif !decide ((0:Int)=0) then 0 else _)=_
 rw[decide_eq_true (show (0:Int)=0 from rfl),Bool.not_true,cond_false]
 cases hc:decide (64<((j.ab.length:Nat):Int)) with
 | true=>rfl
 | false=>
 rw[hc,cond_false] at nbf
 rw[cond_false,cond_false]
 cases B with
 | some r=>
   have:=vb hB
   show (bif !decide (r=0) then r else _)=r
   rw[decide_eq_false this];rfl
 | none=>
 obtain ⟨e1,e2⟩:=nbf rfl
 show (bif !decide ((0:Int)=0) then 0 else _)=_
 rw[decide_eq_true (show (0:Int)=0 from rfl),Bool.not_true,cond_false]
 by_cases z:(dX j).length=j.ab.length
 · rw[decide_eq_false (by omega:¬((((dh j.ab).length:Nat):Int)<((j.ab.length:Nat):Int))),decide_eq_true (by omega:(((dX j).length:Nat):Int)=((j.ab.length:Nat):Int))];rfl
 · rw[decide_eq_true (by omega:((((dh j.ab).length:Nat):Int)<((j.ab.length:Nat):Int))),decide_eq_false (by omega:¬(((dX j).length:Nat):Int)=((j.ab.length:Nat):Int))];rfl
noncomputable def yb:Code:=(Tryz.f31.body).getD .skip
theorem oV:Tryz.f31.body=some yb:=by kernel_rfl
def cH (j:cz) (ai:List Int):Int:=(bif (!decide ((bG j)=0)) then (bG j) else (bif (!decide (((ai.length:Nat):Int)=((j.ab.length:Nat):Int))) then 1 else 0))
theorem Cx {d:Nat} {h:au} {ax:AV} (j:cz) (ai:List Int) (bH:aL.ok h j) (bm:b_ h .i64 3 ax ai) (bW:Tidy h):cR (d+12) (.fn 31) [(AV.agg [j.aj,j.ag]),ax] h= .ret (Zi (cH j ai)) h:=by
 have fG:=bm.small
 have dP:=bH.1.small
 have dQ:=bH.2.small
 obtain ⟨h1,bM,cx,jc,aQ,cA⟩:=j_ bW (aM.cells [j.aj,j.ag] 25 false)
 have bt:Has h h1:=cA
 have k2:=Ba (d:=d) j (aL.mono bt bH) cx
 rcases Bool.eq_false_or_eq_true (!decide ((bG j)=0)) with f0 | f0
 · have dO:=BI f0
   have e:cH j ai=(bG j):=by simp only[cH,f0,cond_true,cond_false]
   rw[e]
   exact aD rfl (bb Tryz.func31 oV rfl (.inr rfl) (pk (d+11) _ _ h _ h1 (NN bM (fun i=>(Pt i))<|CC<|MM (aw 25 0 (AV.agg [j.aj,j.ag]) aQ k!)<|EE k2<|CN 2<|VV (eu 29 false true .i64 (bG j) 0)<|BB f0<|CN 2<|ZZ) k!) k!) bt rfl
 · have dO:=BJ f0
   have CP:b6 (some (.slice 3)) (some ax)=some (Zn ai.length):=bm.len
   have ln5:b6 (some (.slice 44)) (some j.aj)=some (Zn j.ab.length):=bH.1.len
   rcases Bool.eq_false_or_eq_true (!decide (((ai.length:Nat):Int)=((j.ab.length:Nat):Int))) with f1 | f1
   · have dC:=BI f1
     have e:cH j ai=1:=by simp only[cH,f0,f1,cond_true,cond_false]
     rw[e]
     exact aD rfl (bb Tryz.func31 oV rfl (.inr rfl) (pk (d+11) _ _ h _ h1 (NN bM (fun i=>(Pt i))<|CC<|MM (aw 25 0 (AV.agg [j.aj,j.ag]) aQ k!)<|EE k2<|CN 2<|VV (eu 29 false true .i64 (bG j) 0)<|BC f0<|VV CP<|CC<|MM (aw 22 0 j.aj aQ k!)<|VV ln5<|VV (eu 3 false false .i64 ((ai.length:Nat):Int) ((j.ab.length:Nat):Int))<|BC f1<|ZZ) k!) k!) bt rfl
   · have dC:=BJ f1
     have e:cH j ai=0:=by simp only[cH,f0,f1,cond_true,cond_false]
     rw[e]
     exact aD rfl (bb Tryz.func31 oV rfl (.inr rfl) (pk (d+11) _ _ h _ h1 (NN bM (fun i=>(Pt i))<|CC<|MM (aw 25 0 (AV.agg [j.aj,j.ag]) aQ k!)<|EE k2<|CN 2<|VV (eu 29 false true .i64 (bG j) 0)<|BC f0<|VV CP<|CC<|MM (aw 22 0 j.aj aQ k!)<|VV ln5<|VV (eu 3 false false .i64 ((ai.length:Nat):Int) ((j.ab.length:Nat):Int))<|BC f1<|ZZ) k!) k!) bt rfl
theorem oC {j:cz} {ai:List Int} (h:cH j ai=0):eA j∧ai.length=j.ab.length:=by
 unfold cH at h
 by_cases a:bG j=0
 · rw[decide_eq_true a] at h
   by_cases b:((ai.length:Nat):Int)=((j.ab.length:Nat):Int)
   · exact ⟨kW a,by omega⟩
   · rw[decide_eq_false b] at h;cases h
 · rw[decide_eq_false a] at h;exact absurd h a
noncomputable def Jr:Code:=(Tryz.f11.body).getD .skip
theorem Hq:Tryz.f11.body=some Jr:=by kernel_rfl
def aZ (j:cz) (ai:List Int):Bool×Int:=(bif (!decide ((cH j ai)=0)) then (false,(cH j ai)) else ((rM j ai),0))
theorem Hr {d:Nat} {h:au} {ax:AV} (j:cz) (ai:List Int) (bH:aL.ok h j) (bm:b_ h .i64 3 ax ai) (bW:Tidy h):cR (d+13) (.fn 11) [(AV.agg [j.aj,j.ag]),ax] h= .ret (AV.tuple [(AV.bool ((aZ j ai).1)),(Zi ((aZ j ai).2))]) h:=by
 have fG:=bm.small
 have dP:=bH.1.small
 have dQ:=bH.2.small
 obtain ⟨h1,bM,cx,jc,aQ,cA⟩:=j_ bW (aM.cells [j.aj,j.ag] 25 false)
 have bt:Has h h1:=cA
 have k2:=Cx (d:=d) j ai (aL.mono bt bH) (bm.has bt) cx
 rcases Bool.eq_false_or_eq_true (!decide ((cH j ai)=0)) with f0 | f0
 · have dO:=BI f0
   have e:aZ j ai=(false,(cH j ai)):=by simp only[aZ,f0,cond_true,cond_false]
   rw[e]
   exact aD rfl (bb Tryz.func11 Hq rfl (.inr rfl) (pk (d+12) _ _ h _ h1 (NN bM (fun i=>(Pt i))<|CN 2<|MM (aw 25 0 (AV.agg [j.aj,j.ag]) aQ k!)<|CC<|EE k2<|CN 2<|VV (eu 29 false true .i64 (cH j ai) 0)<|BB f0<|CN 3<|ZZ) k!) k!) bt rfl
 · have dO:=BJ f0
   have k4:=Oo (d:=d+8) j ai (aL.mono bt bH) (bm.has bt) (by first | omega | assumption | exact (oC (by assumption)).1 | exact (oC (by assumption)).2) (by first | omega | assumption | exact (oC (by assumption)).1 | exact (oC (by assumption)).2) cx
   have e:aZ j ai=((rM j ai),0):=by simp only[aZ,f0,cond_true,cond_false]
   rw[e]
   exact aD rfl (bb Tryz.func11 Hq rfl (.inr rfl) (pk (d+12) _ _ h _ h1 (NN bM (fun i=>(Pt i))<|CN 2<|MM (aw 25 0 (AV.agg [j.aj,j.ag]) aQ k!)<|CC<|EE k2<|CN 2<|VV (eu 29 false true .i64 (cH j ai) 0)<|BM f0 (aw 25 0 (AV.agg [j.aj,j.ag]) aQ k!)<|CC<|EE k4<|CN 2<|ZZ) k!) k!) bt rfl
theorem Ow {j:cz} {ai:List Int} (h:(aZ j ai).2=0):eA j∧ai.length=j.ab.length:=by
 unfold aZ at h
 by_cases a:cH j ai=0
 · exact oC a
 · rw[decide_eq_false a] at h;exact absurd h a
end Go.Proofs.aP
