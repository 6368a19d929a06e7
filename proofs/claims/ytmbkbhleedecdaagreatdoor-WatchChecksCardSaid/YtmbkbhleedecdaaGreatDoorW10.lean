import Derived.Test.YtmbkbhleedecdaaGreatDoorW0
import Derived.Test.YtmbkbhleedecdaaGreatDoorW9
import Derived.Test.YtmbkbhleedecdaaGreatDoorW2
import Derived.Test.YtmbkbhleedecdaaGreatDoorW1
import Derived.Test.YtmbkbhleedecdaaGreatDoorW3
import Derived.Test.YtmbkbhleedecdaaGreatDoorW5
import Derived.Test.YtmbkbhleedecdaaGreatDoorW8
namespace Go.Proofs.aM
open Go.Proofs Ab
noncomputable section
set_option maxRecDepth 100000
set_option maxHeartbeats 4000000
set_option linter.unusedVariables false
set_option linter.unusedSimpArgs false
def pG:Code:=(Tryz.f11.body).getD .skip
theorem oK:Tryz.f11.body=some pG:=by kernel_rfl
def KP:Code:=(b5 pG).getD 0 .skip
def KQ:Code:=(b5 pG).getD 1 .skip
def KR:Code:=(b5 pG).getD 2 .skip
def kV (a:bO) (b:bO):Nat→Nat→Option (Bool)
 | 0,_=>none
 | eC+1,i0=>(bif (!(bz (a.ab.g i0) (b.ab.g i0))) then some false else kV a b eC (i0+1))
theorem tH {d:Nat} {h:ax} (a:bO) (b:bO) (da:Nat) (jj:Nat) (bh:aJ h a.ae a.ab) (di:aJ h a.ag a.af) (jR:aJ h a.au a.ai) (vY:aJ h b.ae b.ab) (XZ:aJ h b.ag b.af) (X0:aJ h b.au b.ai) (oa:aH.ok h a) (QD:aH.ok h b) (ma:a.ab.length=b.ab.length):∀(k_ i_:Nat) (_:i_+k_=a.ab.length) (x:Nat→AV) (hh:ax) (aF:Tidy hh) (aG:Has h hh) (b6:hh.get da=some (aK.cells [a.ae,a.ag,a.au] 26 false)) (jk:hh.get jj=some (aK.cells [b.ae,b.ag,b.au] 26 false)),aB (cT (d+1)) KP ⟨((x 0)::(x 1)::(Pt da)::(Pt jj)::(x 4)::(Zn i_)::rx x 6 82 []),hh,[],.no⟩ (.exit 0) hh (fun y=>((y 0)::(y 1)::(Pt da)::(Pt jj)::rx y 4 84 [])) (fun r y=>((y 0)::(y 1)::(Pt da)::(Pt jj)::(AV.bool r)::rx y 5 83 [])) (kV a b k_ i_)
 | 0,i0,jh,x,hh,aF,aG,b6,jk=>by
   have dp:=bh.small
   have gd:=di.small
   have og:=jR.small
   have KO:=vY.small
   have X1:=XZ.small
   have X2:=X0.small
   have te:=aF _ _ b6
   have Kr:=aF _ _ jk
   have eb:cg (some (.slice 43)) (some a.ae)=some (Zn a.ab.length):=(bh.has aG).len
   have q2:(decide (((i0:Nat):Int)<((a.ab.length:Nat):Int)))=false:=d!
   exact aB.out rfl (pk (d+1) _ _ hh _ hh (CN 2<|MM (ao 22 0 a.ae b6 k!)<|VV eb<|VV (aY 3 false false .i64 ((i0:Nat):Int) ((a.ab.length:Nat):Int))<|BB q2<|ZZ) k!) (bW.refl aF) k!
 | eC+1,i0,jh,x,hh,aF,aG,b6,jk=>by
   have dp:=bh.small
   have gd:=di.small
   have og:=jR.small
   have KO:=vY.small
   have X1:=XZ.small
   have X2:=X0.small
   have te:=aF _ _ b6
   have Kr:=aF _ _ jk
   have eb:cg (some (.slice 43)) (some a.ae)=some (Zn a.ab.length):=(bh.has aG).len
   have q2:(decide (((i0:Nat):Int)<((a.ab.length:Nat):Int)))=true:=d!
   obtain ⟨p4,q5,iM⟩:=(bh.has aG).elem (i:=i0) o!
   have mU:b8 env (some (.slice 43)) (some a.ae) (some (Zn i0))=some (AV.ptr p4 q5):=iM
   have mn:bS env hh 43 (AV.ptr p4 q5)=some (AV.agg [(AV.str (a.ab.g i0).name),(Zi (a.ab.g i0).aq),(Zi (a.ab.g i0).aj),(Zi (a.ab.g i0).aO),(Zi (a.ab.g i0).aR),(Zi (a.ab.g i0).bad),(a.ab.g i0).aD]):=(bh.has aG).load o! iM
   obtain ⟨p8,q9,CX⟩:=(vY.has aG).elem (i:=i0) o!
   have zI:b8 env (some (.slice 43)) (some b.ae) (some (Zn i0))=some (AV.ptr p8 q9):=CX
   have rG:bS env hh 43 (AV.ptr p8 q9)=some (AV.agg [(AV.str (b.ab.g i0).name),(Zi (b.ab.g i0).aq),(Zi (b.ab.g i0).aj),(Zi (b.ab.g i0).aO),(Zi (b.ab.g i0).aR),(Zi (b.ab.g i0).bad),(b.ab.g i0).aD]):=(vY.has aG).load o! CX
   have uv:=yY (d:=d) (a.ab.g i0) (b.ab.g i0) ((bh.has aG).ok (i:=i0) o!) ((vY.has aG).ok (i:=i0) o!) aF
   have ve:AV.same 20 a.ae a.ae=true:=(bh.has aG).same 19
   have Gv:AV.same 20 (AV.agg [(AV.str (a.ab.g i0).name),(Zi (a.ab.g i0).aq),(Zi (a.ab.g i0).aj),(Zi (a.ab.g i0).aO),(Zi (a.ab.g i0).aR),(Zi (a.ab.g i0).bad),(a.ab.g i0).aD]) (AV.agg [(AV.str (a.ab.g i0).name),(Zi (a.ab.g i0).aq),(Zi (a.ab.g i0).aj),(Zi (a.ab.g i0).aO),(Zi (a.ab.g i0).aR),(Zi (a.ab.g i0).bad),(a.ab.g i0).aD])=true:=cW 18 (eX (fun n=>aP n _) (eX (fun n=>aC n _ _) (eX (fun n=>aC n _ _) (eX (fun n=>aC n _ _) (eX (fun n=>aC n _ _) (eX (fun n=>aC n _ _) (eX ((bh.has aG).ok (i:=i0) o!).2.same zG)))))))
   have GD:AV.same 20 b.ae b.ae=true:=(vY.has aG).same 19
   have El:AV.same 20 (AV.agg [(AV.str (b.ab.g i0).name),(Zi (b.ab.g i0).aq),(Zi (b.ab.g i0).aj),(Zi (b.ab.g i0).aO),(Zi (b.ab.g i0).aR),(Zi (b.ab.g i0).bad),(b.ab.g i0).aD]) (AV.agg [(AV.str (b.ab.g i0).name),(Zi (b.ab.g i0).aq),(Zi (b.ab.g i0).aj),(Zi (b.ab.g i0).aO),(Zi (b.ab.g i0).aR),(Zi (b.ab.g i0).bad),(b.ab.g i0).aD])=true:=cW 18 (eX (fun n=>aP n _) (eX (fun n=>aC n _ _) (eX (fun n=>aC n _ _) (eX (fun n=>aC n _ _) (eX (fun n=>aC n _ _) (eX (fun n=>aC n _ _) (eX ((vY.has aG).ok (i:=i0) o!).2.same zG)))))))
   rcases Bool.eq_false_or_eq_true (!(bz (a.ab.g i0) (b.ab.g i0))) with f1 | f1
   · exact aB.ret false (by simp only[kV,f1,ak,ah]) (pk (d+1) _ _ hh _ hh (CN 2<|MM (ao 22 0 a.ae b6 k!)<|VV eb<|VV (aY 3 false false .i64 ((i0:Nat):Int) ((a.ab.length:Nat):Int))<|BC q2<|MM (ao 22 0 a.ae b6 k!)<|CC<|VV mU<|MM mn<|CC<|MM (ao 22 0 b.ae jk k!)<|CC<|VV zI<|MM rG<|EE uv<|CC<|HH (ao 22 0 a.ae b6 k!)<|HH ve<|HH mn<|HH Gv<|HH (ao 22 0 b.ae jk k!)<|HH GD<|HH rG<|HH El<|BC f1<|ZZ) k!) (bW.refl aF) k!
   · have Kp:=eZ 3 false true i0 1 o!
     exact aB.round (by simp only[kV,f1,ak,ah]) (pk (d+1) _ _ hh _ hh (CN 2<|MM (ao 22 0 a.ae b6 k!)<|VV eb<|VV (aY 3 false false .i64 ((i0:Nat):Int) ((a.ab.length:Nat):Int))<|BC q2<|MM (ao 22 0 a.ae b6 k!)<|CC<|VV mU<|MM mn<|CC<|MM (ao 22 0 b.ae jk k!)<|CC<|VV zI<|MM rG<|EE uv<|CC<|HH (ao 22 0 a.ae b6 k!)<|HH ve<|HH mn<|HH Gv<|HH (ao 22 0 b.ae jk k!)<|HH GD<|HH rG<|HH El<|BC f1<|VV Kp<|CC<|ZZ) k!) (bW.refl aF) _ k! (fun x=>tH a b da jj bh di jR vY XZ X0 oa QD ma eC (i0+1) o! x hh aF aG b6 jk)
def kW (a:bO) (b:bO):Nat→Nat→Option (Bool)
 | 0,_=>none
 | xC+1,i1=>(bif (!aL.eq (a.af.g i1) (b.af.g i1)) then some false else kW a b xC (i1+1))
theorem tI {d:Nat} {h:ax} (a:bO) (b:bO) (f_:Nat) (lT:Nat) (iW:aJ h a.ae a.ab) (f':aJ h a.ag a.af) (oW:aJ h a.au a.ai) (Ga:aJ h b.ae b.ab) (xW:aJ h b.ag b.af) (X3:aJ h b.au b.ai) (xD:aH.ok h a) (R2:aH.ok h b) (tJ:a.af.length=b.af.length):∀(k_ i_:Nat) (_:i_+k_=a.af.length) (x:Nat→AV) (hh:ax) (aF:Tidy hh) (aG:Has h hh) (cI:hh.get f_=some (aK.cells [a.ae,a.ag,a.au] 26 false)) (mJ:hh.get lT=some (aK.cells [b.ae,b.ag,b.au] 26 false)),aB (cT (d+1)) KQ ⟨((x 0)::(x 1)::(Pt f_)::(Pt lT)::(x 4)::(x 5)::(Zn i_)::rx x 7 81 []),hh,[],.no⟩ (.exit 2) hh (fun y=>((y 0)::(y 1)::(Pt f_)::(Pt lT)::rx y 4 84 [])) (fun r y=>((y 0)::(y 1)::(Pt f_)::(Pt lT)::(AV.bool r)::rx y 5 83 [])) (kW a b k_ i_)
 | 0,i1,jh,x,hh,aF,aG,cI,mJ=>by
   have oh:=iW.small
   have n_:=f'.small
   have ry:=oW.small
   have KS:=Ga.small
   have KT:=xW.small
   have X4:=X3.small
   have yR:=aF _ _ cI
   have R3:=aF _ _ mJ
   have eb:cg (some (.slice 45)) (some a.ag)=some (Zn a.af.length):=(f'.has aG).len
   have q2:(decide (((i1:Nat):Int)<((a.af.length:Nat):Int)))=false:=d!
   exact aB.out rfl (pk (d+1) _ _ hh _ hh (CN 2<|MM (ao 23 1 a.ag cI k!)<|VV eb<|VV (aY 3 false false .i64 ((i1:Nat):Int) ((a.af.length:Nat):Int))<|BB q2<|ZZ) k!) (bW.refl aF) k!
 | xC+1,i1,jh,x,hh,aF,aG,cI,mJ=>by
   have oh:=iW.small
   have n_:=f'.small
   have ry:=oW.small
   have KS:=Ga.small
   have KT:=xW.small
   have X4:=X3.small
   have yR:=aF _ _ cI
   have R3:=aF _ _ mJ
   have eb:cg (some (.slice 45)) (some a.ag)=some (Zn a.af.length):=(f'.has aG).len
   have q2:(decide (((i1:Nat):Int)<((a.af.length:Nat):Int)))=true:=d!
   obtain ⟨p4,q5,iM⟩:=(f'.has aG).elem (i:=i1) o!
   have mU:b8 env (some (.slice 45)) (some a.ag) (some (Zn i1))=some (AV.ptr p4 q5):=iM
   have mn:bS env hh 45 (AV.ptr p4 q5)=some (AV.agg [(AV.str (a.af.g i1).name),(AV.str (a.af.g i1).ba),(Zi (a.af.g i1).bx),(Zi (a.af.g i1).eK),(Zi (a.af.g i1).bm)]):=(f'.has aG).load o! iM
   obtain ⟨p8,q9,CX⟩:=(xW.has aG).elem (i:=i1) o!
   have zI:b8 env (some (.slice 45)) (some b.ag) (some (Zn i1))=some (AV.ptr p8 q9):=CX
   have rG:bS env hh 45 (AV.ptr p8 q9)=some (AV.agg [(AV.str (b.af.g i1).name),(AV.str (b.af.g i1).ba),(Zi (b.af.g i1).bx),(Zi (b.af.g i1).eK),(Zi (b.af.g i1).bm)]):=(xW.has aG).load o! CX
   have At:bu env .neq 45 false false (some (AV.agg [(AV.str (a.af.g i1).name),(AV.str (a.af.g i1).ba),(Zi (a.af.g i1).bx),(Zi (a.af.g i1).eK),(Zi (a.af.g i1).bm)])) (some (AV.agg [(AV.str (b.af.g i1).name),(AV.str (b.af.g i1).ba),(Zi (b.af.g i1).bx),(Zi (b.af.g i1).eK),(Zi (b.af.g i1).bm)]))=some (AV.bool (!aL.eq (a.af.g i1) (b.af.g i1))):=aL.neq (a.af.g i1) (b.af.g i1)
   have ve:AV.same 20 a.ag a.ag=true:=(f'.has aG).same 19
   have Gv:AV.same 20 (AV.agg [(AV.str (a.af.g i1).name),(AV.str (a.af.g i1).ba),(Zi (a.af.g i1).bx),(Zi (a.af.g i1).eK),(Zi (a.af.g i1).bm)]) (AV.agg [(AV.str (a.af.g i1).name),(AV.str (a.af.g i1).ba),(Zi (a.af.g i1).bx),(Zi (a.af.g i1).eK),(Zi (a.af.g i1).bm)])=true:=cW 18 (eX (fun n=>aP n _) (eX (fun n=>aP n _) (eX (fun n=>aC n _ _) (eX (fun n=>aC n _ _) (eX (fun n=>aC n _ _) zG)))))
   have GD:AV.same 20 b.ag b.ag=true:=(xW.has aG).same 19
   have El:AV.same 20 (AV.agg [(AV.str (b.af.g i1).name),(AV.str (b.af.g i1).ba),(Zi (b.af.g i1).bx),(Zi (b.af.g i1).eK),(Zi (b.af.g i1).bm)]) (AV.agg [(AV.str (b.af.g i1).name),(AV.str (b.af.g i1).ba),(Zi (b.af.g i1).bx),(Zi (b.af.g i1).eK),(Zi (b.af.g i1).bm)])=true:=cW 18 (eX (fun n=>aP n _) (eX (fun n=>aP n _) (eX (fun n=>aC n _ _) (eX (fun n=>aC n _ _) (eX (fun n=>aC n _ _) zG)))))
   rcases Bool.eq_false_or_eq_true (!aL.eq (a.af.g i1) (b.af.g i1)) with f1 | f1
   · exact aB.ret false (by simp only[kW,f1,ak,ah]) (pk (d+1) _ _ hh _ hh (CN 2<|MM (ao 23 1 a.ag cI k!)<|VV eb<|VV (aY 3 false false .i64 ((i1:Nat):Int) ((a.af.length:Nat):Int))<|BC q2<|MM (ao 23 1 a.ag cI k!)<|CC<|VV mU<|MM mn<|CC<|MM (ao 23 1 b.ag mJ k!)<|CC<|VV zI<|MM rG<|VV At<|HH (ao 23 1 a.ag cI k!)<|HH ve<|HH mn<|HH Gv<|HH (ao 23 1 b.ag mJ k!)<|HH GD<|HH rG<|HH El<|BC f1<|ZZ) k!) (bW.refl aF) k!
   · have Kp:=eZ 3 false true i1 1 o!
     exact aB.round (by simp only[kW,f1,ak,ah]) (pk (d+1) _ _ hh _ hh (CN 2<|MM (ao 23 1 a.ag cI k!)<|VV eb<|VV (aY 3 false false .i64 ((i1:Nat):Int) ((a.af.length:Nat):Int))<|BC q2<|MM (ao 23 1 a.ag cI k!)<|CC<|VV mU<|MM mn<|CC<|MM (ao 23 1 b.ag mJ k!)<|CC<|VV zI<|MM rG<|VV At<|HH (ao 23 1 a.ag cI k!)<|HH ve<|HH mn<|HH Gv<|HH (ao 23 1 b.ag mJ k!)<|HH GD<|HH rG<|HH El<|BC f1<|VV Kp<|CC<|ZZ) k!) (bW.refl aF) _ k! (fun x=>tI a b f_ lT iW f' oW Ga xW X3 xD R2 tJ xC (i1+1) o! x hh aF aG cI mJ)
def kX (a:bO) (b:bO):Nat→Nat→Option (Bool)
 | 0,_=>none
 | Kv+1,i2=>(bif (!bF.eq (a.ai.g i2) (b.ai.g i2)) then some false else kX a b Kv (i2+1))
theorem tK {d:Nat} {h:ax} (a:bO) (b:bO) (lR:Nat) (qz:Nat) (th:aJ h a.ae a.ab) (mI:aJ h a.ag a.af) (qv:aJ h a.au a.ai) (X5:aJ h b.ae b.ab) (X6:aJ h b.ag b.af) (NJ:aJ h b.au b.ai) (Kw:aH.ok h a) (acU:aH.ok h b) (yZ:a.ai.length=b.ai.length):∀(k_ i_:Nat) (_:i_+k_=a.ai.length) (x:Nat→AV) (hh:ax) (aF:Tidy hh) (aG:Has h hh) (gn:hh.get lR=some (aK.cells [a.ae,a.ag,a.au] 26 false)) (uU:hh.get qz=some (aK.cells [b.ae,b.ag,b.au] 26 false)),aB (cT (d+1)) KR ⟨((x 0)::(x 1)::(Pt lR)::(Pt qz)::rx x 4 3 ((Zn i_)::rx x 8 80 [])),hh,[],.no⟩ (.exit 4) hh (fun y=>((y 0)::(y 1)::(Pt lR)::(Pt qz)::rx y 4 84 [])) (fun r y=>((y 0)::(y 1)::(Pt lR)::(Pt qz)::(AV.bool r)::rx y 5 83 [])) (kX a b k_ i_)
 | 0,i2,jh,x,hh,aF,aG,gn,uU=>by
   have vQ:=th.small
   have vR:=mI.small
   have vS:=qv.small
   have X7:=X5.small
   have X8:=X6.small
   have X9:=NJ.small
   have Kx:=aF _ _ gn
   have X_:=aF _ _ uU
   have eb:cg (some (.slice 71)) (some a.au)=some (Zn a.ai.length):=(qv.has aG).len
   have q2:(decide (((i2:Nat):Int)<((a.ai.length:Nat):Int)))=false:=d!
   exact aB.out rfl (pk (d+1) _ _ hh _ hh (CN 2<|MM (ao 24 2 a.au gn k!)<|VV eb<|VV (aY 3 false false .i64 ((i2:Nat):Int) ((a.ai.length:Nat):Int))<|BB q2<|ZZ) k!) (bW.refl aF) k!
 | Kv+1,i2,jh,x,hh,aF,aG,gn,uU=>by
   have vQ:=th.small
   have vR:=mI.small
   have vS:=qv.small
   have X7:=X5.small
   have X8:=X6.small
   have X9:=NJ.small
   have Kx:=aF _ _ gn
   have X_:=aF _ _ uU
   have eb:cg (some (.slice 71)) (some a.au)=some (Zn a.ai.length):=(qv.has aG).len
   have q2:(decide (((i2:Nat):Int)<((a.ai.length:Nat):Int)))=true:=d!
   obtain ⟨p4,q5,iM⟩:=(qv.has aG).elem (i:=i2) o!
   have mU:b8 env (some (.slice 71)) (some a.au) (some (Zn i2))=some (AV.ptr p4 q5):=iM
   have mn:bS env hh 71 (AV.ptr p4 q5)=some (AV.agg [(Zi (a.ai.g i2).az),(Zi (a.ai.g i2).level),(Zi (a.ai.g i2).bq),(Zi (a.ai.g i2).measure)]):=(qv.has aG).load o! iM
   obtain ⟨p8,q9,CX⟩:=(NJ.has aG).elem (i:=i2) o!
   have zI:b8 env (some (.slice 71)) (some b.au) (some (Zn i2))=some (AV.ptr p8 q9):=CX
   have rG:bS env hh 71 (AV.ptr p8 q9)=some (AV.agg [(Zi (b.ai.g i2).az),(Zi (b.ai.g i2).level),(Zi (b.ai.g i2).bq),(Zi (b.ai.g i2).measure)]):=(NJ.has aG).load o! CX
   have At:bu env .neq 71 false false (some (AV.agg [(Zi (a.ai.g i2).az),(Zi (a.ai.g i2).level),(Zi (a.ai.g i2).bq),(Zi (a.ai.g i2).measure)])) (some (AV.agg [(Zi (b.ai.g i2).az),(Zi (b.ai.g i2).level),(Zi (b.ai.g i2).bq),(Zi (b.ai.g i2).measure)]))=some (AV.bool (!bF.eq (a.ai.g i2) (b.ai.g i2))):=bF.neq (a.ai.g i2) (b.ai.g i2)
   have ve:AV.same 20 a.au a.au=true:=(qv.has aG).same 19
   have Gv:AV.same 20 (AV.agg [(Zi (a.ai.g i2).az),(Zi (a.ai.g i2).level),(Zi (a.ai.g i2).bq),(Zi (a.ai.g i2).measure)]) (AV.agg [(Zi (a.ai.g i2).az),(Zi (a.ai.g i2).level),(Zi (a.ai.g i2).bq),(Zi (a.ai.g i2).measure)])=true:=cW 18 (eX (fun n=>aC n _ _) (eX (fun n=>aC n _ _) (eX (fun n=>aC n _ _) (eX (fun n=>aC n _ _) zG))))
   have GD:AV.same 20 b.au b.au=true:=(NJ.has aG).same 19
   have El:AV.same 20 (AV.agg [(Zi (b.ai.g i2).az),(Zi (b.ai.g i2).level),(Zi (b.ai.g i2).bq),(Zi (b.ai.g i2).measure)]) (AV.agg [(Zi (b.ai.g i2).az),(Zi (b.ai.g i2).level),(Zi (b.ai.g i2).bq),(Zi (b.ai.g i2).measure)])=true:=cW 18 (eX (fun n=>aC n _ _) (eX (fun n=>aC n _ _) (eX (fun n=>aC n _ _) (eX (fun n=>aC n _ _) zG))))
   rcases Bool.eq_false_or_eq_true (!bF.eq (a.ai.g i2) (b.ai.g i2)) with f1 | f1
   · exact aB.ret false (by simp only[kX,f1,ak,ah]) (pk (d+1) _ _ hh _ hh (CN 2<|MM (ao 24 2 a.au gn k!)<|VV eb<|VV (aY 3 false false .i64 ((i2:Nat):Int) ((a.ai.length:Nat):Int))<|BC q2<|MM (ao 24 2 a.au gn k!)<|CC<|VV mU<|MM mn<|CC<|MM (ao 24 2 b.au uU k!)<|CC<|VV zI<|MM rG<|VV At<|HH (ao 24 2 a.au gn k!)<|HH ve<|HH mn<|HH Gv<|HH (ao 24 2 b.au uU k!)<|HH GD<|HH rG<|HH El<|BC f1<|ZZ) k!) (bW.refl aF) k!
   · have Kp:=eZ 3 false true i2 1 o!
     exact aB.round (by simp only[kX,f1,ak,ah]) (pk (d+1) _ _ hh _ hh (CN 2<|MM (ao 24 2 a.au gn k!)<|VV eb<|VV (aY 3 false false .i64 ((i2:Nat):Int) ((a.ai.length:Nat):Int))<|BC q2<|MM (ao 24 2 a.au gn k!)<|CC<|VV mU<|MM mn<|CC<|MM (ao 24 2 b.au uU k!)<|CC<|VV zI<|MM rG<|VV At<|HH (ao 24 2 a.au gn k!)<|HH ve<|HH mn<|HH Gv<|HH (ao 24 2 b.au uU k!)<|HH GD<|HH rG<|HH El<|BC f1<|VV Kp<|CC<|ZZ) k!) (bW.refl aF) _ k! (fun x=>tK a b lR qz th mI qv X5 X6 NJ Kw acU yZ Kv (i2+1) o! x hh aF aG gn uU)
def fN (a:bO) (b:bO):Bool:=(bif (!decide (((a.ab.length:Nat):Int)=((b.ab.length:Nat):Int))) then false else (bif (!decide (((a.af.length:Nat):Int)=((b.af.length:Nat):Int))) then false else (bif (!decide (((a.ai.length:Nat):Int)=((b.ai.length:Nat):Int))) then false else (match (kV a b a.ab.length 0) with | none=>(match (kW a b a.af.length 0) with | none=>(match (kX a b a.ai.length 0) with | none=>true | some X'=>X') | some Kt=>Kt) | some B3=>B3))))
theorem R4 {d:Nat} {h:ax} (a:bO) (b:bO) (iS:aH.ok h a) (jF:aH.ok h b) (ca:Tidy h):cT (d+2) (.fn 11) [(AV.agg [a.ae,a.ag,a.au]),(AV.agg [b.ae,b.ag,b.au])] h= .ret (AV.bool (fN a b)) h:=by
 have UF:=iS.1.small
 have NF:=iS.2.1.small
 have NG:=iS.2.2.small
 have UG:=jF.1.small
 have NH:=jF.2.1.small
 have NI:=jF.2.2.small
 obtain ⟨h1,br,cD,lh,aA,dC⟩:=lk ca (aK.cells [a.ae,a.ag,a.au] 26 false)
 have bB:Has h h1:=dC
 obtain ⟨h2,fH,mS,Kc,bC,aZ⟩:=lk cD (aK.cells [b.ae,b.ag,b.au] 26 false)
 have eW:Has h h2:=bB.trans aZ
 have ye:cg (some (.slice 43)) (some a.ae)=some (Zn a.ab.length):=iS.1.len
 have F':cg (some (.slice 43)) (some b.ae)=some (Zn b.ab.length):=jF.1.len
 rcases Bool.eq_false_or_eq_true (!decide (((a.ab.length:Nat):Int)=((b.ab.length:Nat):Int))) with f0 | f0
 · have e_:=rO f0
   have e:fN a b=false:=by simp only[fN,f0,ak,ah]
   rw[e]
   exact aw rfl (aI Tryz.func11 oK rfl (.inr rfl) (pk (d+1) _ _ h _ h2 (NN br (fun i=>(Pt i))<|NN fH (fun i=>(Pt i))<|CN 2<|MM (ao 22 0 a.ae (aZ _ _ aA) k!)<|VV ye<|CC<|MM (ao 22 0 b.ae bC k!)<|VV F'<|VV (cf 3 false false .i64 ((a.ab.length:Nat):Int) ((b.ab.length:Nat):Int))<|CC<|BB f0<|BB f0<|BB f0<|BB f0<|BB f0<|BB f0<|BV f0 (ml true f0)<|CC<|TT<|TT<|TT<|TT<|TT<|TT<|TT<|CC<|TT<|CC<|ZZ) k!) k!) eW rfl
 · have e_:=rP f0
   have Gu:cg (some (.slice 45)) (some a.ag)=some (Zn a.af.length):=iS.2.1.len
   have Y9:cg (some (.slice 45)) (some b.ag)=some (Zn b.af.length):=jF.2.1.len
   rcases Bool.eq_false_or_eq_true (!decide (((a.af.length:Nat):Int)=((b.af.length:Nat):Int))) with f1 | f1
   · have fK:=rO f1
     have e:fN a b=false:=by simp only[fN,f0,f1,ak,ah]
     rw[e]
     exact aw rfl (aI Tryz.func11 oK rfl (.inr rfl) (pk (d+1) _ _ h _ h2 (NN br (fun i=>(Pt i))<|NN fH (fun i=>(Pt i))<|CN 2<|MM (ao 22 0 a.ae (aZ _ _ aA) k!)<|VV ye<|CC<|MM (ao 22 0 b.ae bC k!)<|VV F'<|VV (cf 3 false false .i64 ((a.ab.length:Nat):Int) ((b.ab.length:Nat):Int))<|CC<|BC f0<|BM f0 (ao 23 1 a.ag (aZ _ _ aA) k!)<|BV f0 Gu<|BC f0<|BM f0 (ao 23 1 b.ag bC k!)<|BV f0 Y9<|BV f0 (cf 3 false false .i64 ((a.af.length:Nat):Int) ((b.af.length:Nat):Int))<|VV (aE (a:=some (AV.bool true)) (b:=some (AV.bool (!decide (((a.af.length:Nat):Int)=((b.af.length:Nat):Int))))) f0)<|CC<|BB f1<|BB f1<|BB f1<|BB f1<|BB f1<|BB f1<|BV f1 (ml true f1)<|TT<|CC<|ZZ) k!) k!) eW rfl
   · have fK:=rP f1
     have Ip:cg (some (.slice 71)) (some a.au)=some (Zn a.ai.length):=iS.2.2.len
     have uQ:cg (some (.slice 71)) (some b.au)=some (Zn b.ai.length):=jF.2.2.len
     rcases Bool.eq_false_or_eq_true (!decide (((a.ai.length:Nat):Int)=((b.ai.length:Nat):Int))) with f2 | f2
     · have mT:=rO f2
       have e:fN a b=false:=by simp only[fN,f0,f1,f2,ak,ah]
       rw[e]
       exact aw rfl (aI Tryz.func11 oK rfl (.inr rfl) (pk (d+1) _ _ h _ h2 (NN br (fun i=>(Pt i))<|NN fH (fun i=>(Pt i))<|CN 2<|MM (ao 22 0 a.ae (aZ _ _ aA) k!)<|VV ye<|CC<|MM (ao 22 0 b.ae bC k!)<|VV F'<|VV (cf 3 false false .i64 ((a.ab.length:Nat):Int) ((b.ab.length:Nat):Int))<|CC<|BC f0<|BM f0 (ao 23 1 a.ag (aZ _ _ aA) k!)<|BV f0 Gu<|BC f0<|BM f0 (ao 23 1 b.ag bC k!)<|BV f0 Y9<|BV f0 (cf 3 false false .i64 ((a.af.length:Nat):Int) ((b.af.length:Nat):Int))<|VV (aE (a:=some (AV.bool true)) (b:=some (AV.bool (!decide (((a.af.length:Nat):Int)=((b.af.length:Nat):Int))))) f0)<|CC<|BC f1<|BM f1 (ao 24 2 a.au (aZ _ _ aA) k!)<|BV f1 Ip<|BC f1<|BM f1 (ao 24 2 b.au bC k!)<|BV f1 uQ<|BV f1 (cf 3 false false .i64 ((a.ai.length:Nat):Int) ((b.ai.length:Nat):Int))<|VV (aE (a:=some (AV.bool true)) (b:=some (AV.bool (!decide (((a.ai.length:Nat):Int)=((b.ai.length:Nat):Int))))) f1)<|BC f2<|ZZ) k!) k!) eW rfl
     · have mT:=rP f2
       cases gY:kV a b a.ab.length 0 with
       | none=>
         obtain ⟨vT,r_,jS,ft⟩:=aB.n gY (tH (d:=d) (h:=h) a b h.nx h1.nx iS.1 iS.2.1 iS.2.2 jF.1 jF.2.1 jF.2.2 iS jF o! a.ab.length 0 o! (fun k_=>(((AV.agg [a.ae,a.ag,a.au])::(AV.agg [b.ae,b.ag,b.au])::(Pt h.nx)::(Pt h1.nx)::(AV.bool false)::(Zi 0)::AV.undef::AV.undef::(Pt h.nx)::a.ae::(Zn a.ab.length)::(Pt h1.nx)::b.ae::(Zn b.ab.length)::(AV.bool (!decide (((a.ab.length:Nat):Int)=((b.ab.length:Nat):Int))))::(AV.bool (!decide (((a.ab.length:Nat):Int)=((b.ab.length:Nat):Int))))::(AV.ptr h.nx 1)::a.ag::(Zn a.af.length)::(AV.ptr h1.nx 1)::b.ag::(Zn b.af.length)::(AV.bool (!decide (((a.af.length:Nat):Int)=((b.af.length:Nat):Int))))::(AV.bool (!decide (((a.af.length:Nat):Int)=((b.af.length:Nat):Int))))::(AV.bool (!decide (((a.af.length:Nat):Int)=((b.af.length:Nat):Int))))::(AV.ptr h.nx 2)::a.au::(Zn a.ai.length)::(AV.ptr h1.nx 2)::b.au::(Zn b.ai.length)::(AV.bool (!decide (((a.ai.length:Nat):Int)=((b.ai.length:Nat):Int))))::(AV.bool (!decide (((a.ai.length:Nat):Int)=((b.ai.length:Nat):Int))))::jg 55):List AV).getD k_ AV.undef) h2 mS eW (aZ _ _ aA) bC)
         have xH:=ft.y
         have Iv:h2.nx≤r_.nx:=ft.n
         have m5:Has h r_:=eW.trans ft.a
         cases mo:kW a b a.af.length 0 with
         | none=>
           obtain ⟨BY,qa,py,jz⟩:=aB.n mo (tI (d:=d) (h:=h) a b h.nx h1.nx iS.1 iS.2.1 iS.2.2 jF.1 jF.2.1 jF.2.2 iS jF o! a.af.length 0 o! (fun k_=>(((vT 0)::(vT 1)::(Pt h.nx)::(Pt h1.nx)::(vT 4)::(vT 5)::(Zi 0)::rx vT 7 81 []):List AV).getD k_ AV.undef) r_ xH m5 (ft.a _ _ (aZ _ _ aA)) (ft.a _ _ bC))
           have tg:=jz.y
           have Mb:r_.nx≤qa.nx:=jz.n
           have m4:Has h qa:=m5.trans jz.a
           have y7:Has r_ qa:=jz.a
           cases Ax:kX a b a.ai.length 0 with
           | none=>
             obtain ⟨aa1,mq,uz,tL⟩:=aB.n Ax (tK (d:=d) (h:=h) a b h.nx h1.nx iS.1 iS.2.1 iS.2.2 jF.1 jF.2.1 jF.2.2 iS jF o! a.ai.length 0 o! (fun k_=>(((BY 0)::(BY 1)::(Pt h.nx)::(Pt h1.nx)::rx BY 4 3 ((Zi 0)::rx BY 8 80 [])):List AV).getD k_ AV.undef) qa tg m4 (jz.a _ _ (ft.a _ _ (aZ _ _ aA))) (jz.a _ _ (ft.a _ _ bC)))
             have qx:=tL.y
             have V_:qa.nx≤mq.nx:=tL.n
             have pD:Has h mq:=m4.trans tL.a
             have NK:Has r_ mq:=y7.trans tL.a
             have NL:Has qa mq:=tL.a
             have e:fN a b=true:=by simp only[fN,f0,f1,f2,gY,mo,Ax,ak,ah]
             rw[e]
             exact aw rfl (aI Tryz.func11 oK rfl (.inr rfl) (pk (d+1) _ _ h _ mq (NN br (fun i=>(Pt i))<|NN fH (fun i=>(Pt i))<|CN 2<|MM (ao 22 0 a.ae (aZ _ _ aA) k!)<|VV ye<|CC<|MM (ao 22 0 b.ae bC k!)<|VV F'<|VV (cf 3 false false .i64 ((a.ab.length:Nat):Int) ((b.ab.length:Nat):Int))<|CC<|BC f0<|BM f0 (ao 23 1 a.ag (aZ _ _ aA) k!)<|BV f0 Gu<|BC f0<|BM f0 (ao 23 1 b.ag bC k!)<|BV f0 Y9<|BV f0 (cf 3 false false .i64 ((a.af.length:Nat):Int) ((b.af.length:Nat):Int))<|VV (aE (a:=some (AV.bool true)) (b:=some (AV.bool (!decide (((a.af.length:Nat):Int)=((b.af.length:Nat):Int))))) f0)<|CC<|BC f1<|BM f1 (ao 24 2 a.au (aZ _ _ aA) k!)<|BV f1 Ip<|BC f1<|BM f1 (ao 24 2 b.au bC k!)<|BV f1 uQ<|BV f1 (cf 3 false false .i64 ((a.ai.length:Nat):Int) ((b.ai.length:Nat):Int))<|VV (aE (a:=some (AV.bool true)) (b:=some (AV.bool (!decide (((a.ai.length:Nat):Int)=((b.ai.length:Nat):Int))))) f1)<|BC f2<|LL jS<|CC<|LL py<|CC<|LL uz<|CC<|ZZ) k!) k!) pD rfl
           | some X'=>
             obtain ⟨aa1,mq,uz,tL⟩:=aB.r Ax (tK (d:=d) (h:=h) a b h.nx h1.nx iS.1 iS.2.1 iS.2.2 jF.1 jF.2.1 jF.2.2 iS jF o! a.ai.length 0 o! (fun k_=>(((BY 0)::(BY 1)::(Pt h.nx)::(Pt h1.nx)::rx BY 4 3 ((Zi 0)::rx BY 8 80 [])):List AV).getD k_ AV.undef) qa tg m4 (jz.a _ _ (ft.a _ _ (aZ _ _ aA))) (jz.a _ _ (ft.a _ _ bC)))
             have qx:=tL.y
             have V_:qa.nx≤mq.nx:=tL.n
             have pD:Has h mq:=m4.trans tL.a
             have NK:Has r_ mq:=y7.trans tL.a
             have NL:Has qa mq:=tL.a
             have e:fN a b=X':=by simp only[fN,f0,f1,f2,gY,mo,Ax,ak,ah]
             rw[e]
             exact aw rfl (aI Tryz.func11 oK rfl (.inr rfl) (pk (d+1) _ _ h _ mq (NN br (fun i=>(Pt i))<|NN fH (fun i=>(Pt i))<|CN 2<|MM (ao 22 0 a.ae (aZ _ _ aA) k!)<|VV ye<|CC<|MM (ao 22 0 b.ae bC k!)<|VV F'<|VV (cf 3 false false .i64 ((a.ab.length:Nat):Int) ((b.ab.length:Nat):Int))<|CC<|BC f0<|BM f0 (ao 23 1 a.ag (aZ _ _ aA) k!)<|BV f0 Gu<|BC f0<|BM f0 (ao 23 1 b.ag bC k!)<|BV f0 Y9<|BV f0 (cf 3 false false .i64 ((a.af.length:Nat):Int) ((b.af.length:Nat):Int))<|VV (aE (a:=some (AV.bool true)) (b:=some (AV.bool (!decide (((a.af.length:Nat):Int)=((b.af.length:Nat):Int))))) f0)<|CC<|BC f1<|BM f1 (ao 24 2 a.au (aZ _ _ aA) k!)<|BV f1 Ip<|BC f1<|BM f1 (ao 24 2 b.au bC k!)<|BV f1 uQ<|BV f1 (cf 3 false false .i64 ((a.ai.length:Nat):Int) ((b.ai.length:Nat):Int))<|VV (aE (a:=some (AV.bool true)) (b:=some (AV.bool (!decide (((a.ai.length:Nat):Int)=((b.ai.length:Nat):Int))))) f1)<|BC f2<|LL jS<|CC<|LL py<|CC<|LL uz<|ZZ) k!) k!) pD rfl
         | some Kt=>
           obtain ⟨BY,qa,py,jz⟩:=aB.r mo (tI (d:=d) (h:=h) a b h.nx h1.nx iS.1 iS.2.1 iS.2.2 jF.1 jF.2.1 jF.2.2 iS jF o! a.af.length 0 o! (fun k_=>(((vT 0)::(vT 1)::(Pt h.nx)::(Pt h1.nx)::(vT 4)::(vT 5)::(Zi 0)::rx vT 7 81 []):List AV).getD k_ AV.undef) r_ xH m5 (ft.a _ _ (aZ _ _ aA)) (ft.a _ _ bC))
           have tg:=jz.y
           have Mb:r_.nx≤qa.nx:=jz.n
           have m4:Has h qa:=m5.trans jz.a
           have y7:Has r_ qa:=jz.a
           have e:fN a b=Kt:=by simp only[fN,f0,f1,f2,gY,mo,ak,ah]
           rw[e]
           exact aw rfl (aI Tryz.func11 oK rfl (.inr rfl) (pk (d+1) _ _ h _ qa (NN br (fun i=>(Pt i))<|NN fH (fun i=>(Pt i))<|CN 2<|MM (ao 22 0 a.ae (aZ _ _ aA) k!)<|VV ye<|CC<|MM (ao 22 0 b.ae bC k!)<|VV F'<|VV (cf 3 false false .i64 ((a.ab.length:Nat):Int) ((b.ab.length:Nat):Int))<|CC<|BC f0<|BM f0 (ao 23 1 a.ag (aZ _ _ aA) k!)<|BV f0 Gu<|BC f0<|BM f0 (ao 23 1 b.ag bC k!)<|BV f0 Y9<|BV f0 (cf 3 false false .i64 ((a.af.length:Nat):Int) ((b.af.length:Nat):Int))<|VV (aE (a:=some (AV.bool true)) (b:=some (AV.bool (!decide (((a.af.length:Nat):Int)=((b.af.length:Nat):Int))))) f0)<|CC<|BC f1<|BM f1 (ao 24 2 a.au (aZ _ _ aA) k!)<|BV f1 Ip<|BC f1<|BM f1 (ao 24 2 b.au bC k!)<|BV f1 uQ<|BV f1 (cf 3 false false .i64 ((a.ai.length:Nat):Int) ((b.ai.length:Nat):Int))<|VV (aE (a:=some (AV.bool true)) (b:=some (AV.bool (!decide (((a.ai.length:Nat):Int)=((b.ai.length:Nat):Int))))) f1)<|BC f2<|LL jS<|CC<|LL py<|ZZ) k!) k!) m4 rfl
       | some B3=>
         obtain ⟨vT,r_,jS,ft⟩:=aB.r gY (tH (d:=d) (h:=h) a b h.nx h1.nx iS.1 iS.2.1 iS.2.2 jF.1 jF.2.1 jF.2.2 iS jF o! a.ab.length 0 o! (fun k_=>(((AV.agg [a.ae,a.ag,a.au])::(AV.agg [b.ae,b.ag,b.au])::(Pt h.nx)::(Pt h1.nx)::(AV.bool false)::(Zi 0)::AV.undef::AV.undef::(Pt h.nx)::a.ae::(Zn a.ab.length)::(Pt h1.nx)::b.ae::(Zn b.ab.length)::(AV.bool (!decide (((a.ab.length:Nat):Int)=((b.ab.length:Nat):Int))))::(AV.bool (!decide (((a.ab.length:Nat):Int)=((b.ab.length:Nat):Int))))::(AV.ptr h.nx 1)::a.ag::(Zn a.af.length)::(AV.ptr h1.nx 1)::b.ag::(Zn b.af.length)::(AV.bool (!decide (((a.af.length:Nat):Int)=((b.af.length:Nat):Int))))::(AV.bool (!decide (((a.af.length:Nat):Int)=((b.af.length:Nat):Int))))::(AV.bool (!decide (((a.af.length:Nat):Int)=((b.af.length:Nat):Int))))::(AV.ptr h.nx 2)::a.au::(Zn a.ai.length)::(AV.ptr h1.nx 2)::b.au::(Zn b.ai.length)::(AV.bool (!decide (((a.ai.length:Nat):Int)=((b.ai.length:Nat):Int))))::(AV.bool (!decide (((a.ai.length:Nat):Int)=((b.ai.length:Nat):Int))))::jg 55):List AV).getD k_ AV.undef) h2 mS eW (aZ _ _ aA) bC)
         have xH:=ft.y
         have Iv:h2.nx≤r_.nx:=ft.n
         have m5:Has h r_:=eW.trans ft.a
         have e:fN a b=B3:=by simp only[fN,f0,f1,f2,gY,ak,ah]
         rw[e]
         exact aw rfl (aI Tryz.func11 oK rfl (.inr rfl) (pk (d+1) _ _ h _ r_ (NN br (fun i=>(Pt i))<|NN fH (fun i=>(Pt i))<|CN 2<|MM (ao 22 0 a.ae (aZ _ _ aA) k!)<|VV ye<|CC<|MM (ao 22 0 b.ae bC k!)<|VV F'<|VV (cf 3 false false .i64 ((a.ab.length:Nat):Int) ((b.ab.length:Nat):Int))<|CC<|BC f0<|BM f0 (ao 23 1 a.ag (aZ _ _ aA) k!)<|BV f0 Gu<|BC f0<|BM f0 (ao 23 1 b.ag bC k!)<|BV f0 Y9<|BV f0 (cf 3 false false .i64 ((a.af.length:Nat):Int) ((b.af.length:Nat):Int))<|VV (aE (a:=some (AV.bool true)) (b:=some (AV.bool (!decide (((a.af.length:Nat):Int)=((b.af.length:Nat):Int))))) f0)<|CC<|BC f1<|BM f1 (ao 24 2 a.au (aZ _ _ aA) k!)<|BV f1 Ip<|BC f1<|BM f1 (ao 24 2 b.au bC k!)<|BV f1 uQ<|BV f1 (cf 3 false false .i64 ((a.ai.length:Nat):Int) ((b.ai.length:Nat):Int))<|VV (aE (a:=some (AV.bool true)) (b:=some (AV.bool (!decide (((a.ai.length:Nat):Int)=((b.ai.length:Nat):Int))))) f1)<|BC f2<|LL jS<|ZZ) k!) k!) m5 rfl
def CY:Code:=(Tryz.f44.body).getD .skip
theorem IW:Tryz.f44.body=some CY:=by kernel_rfl
def kY (g:bn) (t:Int):Int:=(IntKind.i64.wrap (g.acc+(IntKind.i64.wrap (g.aW*(IntKind.i64.wrap (Int.tdiv (IntKind.i64.wrap ((IntKind.i64.wrap ((imax (IntKind.i64.wrap (t - g.since)) 0)+1000)) - 1)) 1000))))))
theorem IX {d:Nat} {h:ax} (g:bn) (t:Int) (Jh:aH.ok h g) (ca:Tidy h):cT (d+1) (.fn 44) [(AV.agg [(AV.str g.name),(Zi g.acc),(Zi g.aW),(Zi g.since)]),(Zi t)] h= .ret (Zi (kY g t)) h:=by
 obtain ⟨h1,br,cD,lh,aA,dC⟩:=lk ca (aK.cells [(AV.str g.name),(Zi g.acc),(Zi g.aW),(Zi g.since)] 28 false)
 have bB:Has h h1:=dC
 have e:kY g t=(IntKind.i64.wrap (g.acc+(IntKind.i64.wrap (g.aW*(IntKind.i64.wrap (Int.tdiv (IntKind.i64.wrap ((IntKind.i64.wrap ((imax (IntKind.i64.wrap (t - g.since)) 0)+1000)) - 1)) 1000)))))):=by simp only[kY,ak,ah]
 rw[e]
 exact aw rfl (aI Tryz.func44 IW rfl (.inr rfl) (pk (d) _ _ h _ h1 (NN br (fun i=>(Pt i))<|CN 3<|MM (ao 3 3 (Zi g.since) aA k!)<|CN 7<|MM (ao 3 1 (Zi g.acc) aA k!)<|CC<|MM (ao 3 2 (Zi g.aW) aA k!)<|CN 4<|ZZ) k!) k!) bB rfl
def Gb:Code:=(Tryz.f12.body).getD .skip
theorem y9:Tryz.f12.body=some Gb:=by kernel_rfl
def fj (g:bn) (t:Int):Int×Int:=(bif (!(dy g)) then (0,1) else (bif (!(eh t)) then (0,1) else ((kY g t),0)))
theorem NM {d:Nat} {h:ax} (g:bn) (t:Int) (Jh:aH.ok h g) (ca:Tidy h):cT (d+4) (.fn 12) [(AV.agg [(AV.str g.name),(Zi g.acc),(Zi g.aW),(Zi g.since)]),(Zi t)] h= .ret (AV.tuple [(Zi (fj g t).1),(Zi (fj g t).2)]) h:=by
 obtain ⟨h1,br,cD,lh,aA,dC⟩:=lk ca (aK.cells [(AV.str g.name),(Zi g.acc),(Zi g.aW),(Zi g.since)] 28 false)
 have bB:Has h h1:=dC
 have k2:=zN (d:=d) g (aH.mono bB Jh) cD
 rcases Bool.eq_false_or_eq_true (!(dy g)) with f0 | f0
 · have e:fj g t=(0,1):=by simp only[fj,f0,ak,ah]
   rw[e]
   exact aw rfl (aI Tryz.func12 y9 rfl (.inr rfl) (pk (d+3) _ _ h _ h1 (NN br (fun i=>(Pt i))<|CN 2<|MM (ao 28 0 (AV.agg [(AV.str g.name),(Zi g.acc),(Zi g.aW),(Zi g.since)]) aA k!)<|EE k2<|CN 2<|BB f0<|BB f0<|BV f0 (ml true f0)<|TT<|CN 2<|ZZ) k!) k!) bB rfl
 · have k4:=n8 (d:=d+1) t cD
   rcases Bool.eq_false_or_eq_true (!(eh t)) with f1 | f1
   · have e:fj g t=(0,1):=by simp only[fj,f0,f1,ak,ah]
     rw[e]
     exact aw rfl (aI Tryz.func12 y9 rfl (.inr rfl) (pk (d+3) _ _ h _ h1 (NN br (fun i=>(Pt i))<|CN 2<|MM (ao 28 0 (AV.agg [(AV.str g.name),(Zi g.acc),(Zi g.aW),(Zi g.since)]) aA k!)<|EE k2<|CN 2<|BC f0<|BB f0<|EE k4<|BC f0<|VV (aE (a:=some (AV.bool true)) (b:=some (AV.bool (!(eh t)))) f0)<|BB f1<|CN 2<|ZZ) k!) k!) bB rfl
   · have k6:=IX (d:=d+2) g t (aH.mono bB Jh) cD
     have e:fj g t=((kY g t),0):=by simp only[fj,f0,f1,ak,ah]
     rw[e]
     exact aw rfl (aI Tryz.func12 y9 rfl (.inr rfl) (pk (d+3) _ _ h _ h1 (NN br (fun i=>(Pt i))<|CN 2<|MM (ao 28 0 (AV.agg [(AV.str g.name),(Zi g.acc),(Zi g.aW),(Zi g.since)]) aA k!)<|EE k2<|CN 2<|BC f0<|BB f0<|EE k4<|BC f0<|VV (aE (a:=some (AV.bool true)) (b:=some (AV.bool (!(eh t)))) f0)<|BM f1 (ao 28 0 (AV.agg [(AV.str g.name),(Zi g.acc),(Zi g.aW),(Zi g.since)]) aA k!)<|CC<|EE k6<|CN 2<|ZZ) k!) k!) bB rfl
def Gc:Code:=(Tryz.f47.body).getD .skip
theorem NO:Tryz.f47.body=some Gc:=by kernel_rfl
def pH (g:bn) (t:Int):Int:=(IntKind.i64.wrap (g.acc+(IntKind.i64.wrap (g.aW*(IntKind.i64.wrap (Int.tdiv (IntKind.i64.wrap ((imax (IntKind.i64.wrap (t - g.since)) 0)+999)) 1000))))))
theorem NP {d:Nat} {h:ax} (g:bn) (t:Int) (Jh:aH.ok h g) (ca:Tidy h):cT (d+1) (.fn 47) [(AV.agg [(AV.str g.name),(Zi g.acc),(Zi g.aW),(Zi g.since)]),(Zi t)] h= .ret (Zi (pH g t)) h:=by
 obtain ⟨h1,br,cD,lh,aA,dC⟩:=lk ca (aK.cells [(AV.str g.name),(Zi g.acc),(Zi g.aW),(Zi g.since)] 28 false)
 have bB:Has h h1:=dC
 have e:pH g t=(IntKind.i64.wrap (g.acc+(IntKind.i64.wrap (g.aW*(IntKind.i64.wrap (Int.tdiv (IntKind.i64.wrap ((imax (IntKind.i64.wrap (t - g.since)) 0)+999)) 1000)))))):=by simp only[pH,ak,ah]
 rw[e]
 exact aw rfl (aI Tryz.func47 NO rfl (.inr rfl) (pk (d) _ _ h _ h1 (NN br (fun i=>(Pt i))<|CN 3<|MM (ao 3 3 (Zi g.since) aA k!)<|CN 4<|MM (ao 3 1 (Zi g.acc) aA k!)<|CC<|MM (ao 3 2 (Zi g.aW) aA k!)<|CN 6<|ZZ) k!) k!) bB rfl
def Ge:Code:=(Tryz.f13.body).getD .skip
theorem y_:Tryz.f13.body=some Ge:=by kernel_rfl
def fk (g:bn) (t:Int):Int×Int:=(bif (decide ((bj g)=0)) then (bif (!(bT t)) then (0,1) else ((pH g t),0)) else (0,(bj g)))
theorem NQ {d:Nat} {h:ax} (g:bn) (t:Int) (Jh:aH.ok h g) (ca:Tidy h):cT (d+3) (.fn 13) [(AV.agg [(AV.str g.name),(Zi g.acc),(Zi g.aW),(Zi g.since)]),(Zi t)] h= .ret (AV.tuple [(Zi (fk g t).1),(Zi (fk g t).2)]) h:=by
 obtain ⟨h1,br,cD,lh,aA,dC⟩:=lk ca (aK.cells [(AV.str g.name),(Zi g.acc),(Zi g.aW),(Zi g.since)] 28 false)
 have bB:Has h h1:=dC
 have k2:=tc (d:=d) g (aH.mono bB Jh) cD
 rcases Bool.eq_false_or_eq_true (decide ((bj g)=0)) with f0 | f0
 · have e_:=of_decide_eq_true f0
   have k4:=qu (d:=d+1) t cD
   rcases Bool.eq_false_or_eq_true (!(bT t)) with f1 | f1
   · have e:fk g t=(0,1):=by simp only[fk,f0,f1,ak,ah]
     rw[e]
     exact aw rfl (aI Tryz.func13 y_ rfl (.inr rfl) (pk (d+2) _ _ h _ h1 (NN br (fun i=>(Pt i))<|CN 2<|MM (ao 28 0 (AV.agg [(AV.str g.name),(Zi g.acc),(Zi g.aW),(Zi g.since)]) aA k!)<|EE k2<|CN 2<|VV (eA 31 false true .i64 (bj g) 0)<|CC<|BC f0<|BB f0<|EE k4<|BC f0<|VV (iI (!(bT t)) false f0)<|BB f1<|CN 3<|TT<|CN 3<|ZZ) k!) k!) bB rfl
   · have q6:(!decide ((bj g)=0))=false:=d!
     have k7:=NP (d:=d+1) g t (aH.mono bB Jh) cD
     have e:fk g t=((pH g t),0):=by simp only[fk,f0,f1,ak,ah]
     rw[e]
     exact aw rfl (aI Tryz.func13 y_ rfl (.inr rfl) (pk (d+2) _ _ h _ h1 (NN br (fun i=>(Pt i))<|CN 2<|MM (ao 28 0 (AV.agg [(AV.str g.name),(Zi g.acc),(Zi g.aW),(Zi g.since)]) aA k!)<|EE k2<|CN 2<|VV (eA 31 false true .i64 (bj g) 0)<|CC<|BC f0<|BB f0<|EE k4<|BC f0<|VV (iI (!(bT t)) false f0)<|BC f1<|VV (cf 31 false true .i64 (bj g) 0)<|BM q6 (ao 28 0 (AV.agg [(AV.str g.name),(Zi g.acc),(Zi g.aW),(Zi g.since)]) aA k!)<|CC<|EE k7<|CN 2<|ZZ) k!) k!) bB rfl
 · have e_:=of_decide_eq_false f0
   have q4:(!decide ((bj g)=0))=true:=d!
   have e:fk g t=(0,(bj g)):=by simp only[fk,f0,ak,ah]
   rw[e]
   exact aw rfl (aI Tryz.func13 y_ rfl (.inr rfl) (pk (d+2) _ _ h _ h1 (NN br (fun i=>(Pt i))<|CN 2<|MM (ao 28 0 (AV.agg [(AV.str g.name),(Zi g.acc),(Zi g.aW),(Zi g.since)]) aA k!)<|EE k2<|CN 2<|VV (eA 31 false true .i64 (bj g) 0)<|CC<|BB f0<|BB f0<|BV f0 (p_ false f0)<|FF<|CC<|VV (cf 31 false true .i64 (bj g) 0)<|BB q4<|CN 3<|ZZ) k!) k!) bB rfl
theorem Gg (a b:List bn):∀(k i:Nat),eQ a b k i=bif jl (fun j=>bn.eq (a.g j) (b.g j)) k i then none else some false
 | 0,_=>rfl
 | k+1,i=>by rw[eQ,jl,Gg a b k (i+1)];cases bn.eq (a.g i) (b.g i)<;>rfl
theorem za (a b:List aL):∀(k i:Nat),dI a b k i=bif jl (fun j=>aL.eq (a.g j) (b.g j)) k i then none else some false
 | 0,_=>rfl
 | k+1,i=>by rw[dI,jl,za a b k (i+1)];cases aL.eq (a.g i) (b.g i)<;>rfl
theorem Gh (a b:List bF):∀(k i:Nat),eP a b k i=bif jl (fun j=>bF.eq (a.g j) (b.g j)) k i then none else some false
 | 0,_=>rfl
 | k+1,i=>by rw[eP,jl,Gh a b k (i+1)];cases bF.eq (a.g i) (b.g i)<;>rfl
theorem KW (a b:List aQ) (P:aQ→aQ→Bool):∀(k i:Nat),fu a P b k i=bif jl (fun j=>P (a.g j) (b.g j)) k i then none else some false
 | 0,_=>rfl
 | k+1,i=>by rw[fu,jl,KW a b P k (i+1)];cases P (a.g i) (b.g i)<;>rfl
theorem R5 (a b:aQ):∀(k i:Nat),dJ a b k i=bif jl (fun j=>bn.eq (a.ar.g j) (b.ar.g j)) k i then none else some false
 | 0,_=>rfl
 | k+1,i=>by rw[dJ,jl,R5 a b k (i+1)];cases bn.eq (a.ar.g i) (b.ar.g i)<;>rfl
theorem V' (a b:bO):∀(k i:Nat),kV a b k i=bif jl (fun j=>bz (a.ab.g j) (b.ab.g j)) k i then none else some false
 | 0,_=>rfl
 | k+1,i=>by rw[kV,jl,V' a b k (i+1)];cases bz (a.ab.g i) (b.ab.g i)<;>rfl
theorem Wa (a b:bO):∀(k i:Nat),kW a b k i=bif jl (fun j=>aL.eq (a.af.g j) (b.af.g j)) k i then none else some false
 | 0,_=>rfl
 | k+1,i=>by rw[kW,jl,Wa a b k (i+1)];cases aL.eq (a.af.g i) (b.af.g i)<;>rfl
theorem Wb (a b:bO):∀(k i:Nat),kX a b k i=bif jl (fun j=>bF.eq (a.ai.g j) (b.ai.g j)) k i then none else some false
 | 0,_=>rfl
 | k+1,i=>by rw[kX,jl,Wb a b k (i+1)];cases bF.eq (a.ai.g i) (b.ai.g i)<;>rfl
theorem aa2 (a b:aQ):bR a b=bz a b:=by
 rw[bR,bz,dX,Gg,R5]
 generalize jl (fun j=>bn.eq (a.ar.g j) (b.ar.g j)) a.ar.length 0=A
 generalize decide (((a.ar.length:Nat):Int)=((b.ar.length:Nat):Int))=L
 generalize Span.eq (⟨a.aq,a.aj⟩:Span) (⟨b.aq,b.aj⟩:Span)=S
 generalize decide (a.name=b.name)=n;generalize decide (a.aO=b.aO)=r;generalize decide (a.aR=b.aR)=f;generalize decide (a.bad=b.bad)=d
 cases n<;>cases S<;>cases r<;>cases f<;>cases d<;>cases L<;>cases A<;>rfl
theorem UI (a b:bO):fM a b=fN a b:=by
 rw[fM,fN,fv,cR,dV,KW,za,Gh,V',Wa,Wb,all_congr (f:=fun j=>bR (a.ab.g j) (b.ab.g j)) (g:=fun j=>bz (a.ab.g j) (b.ab.g j)) _ _ fun j _ _=>aa2 _ _]
 generalize jl (fun j=>bz (a.ab.g j) (b.ab.g j)) a.ab.length 0=A
 generalize jl (fun j=>aL.eq (a.af.g j) (b.af.g j)) a.af.length 0=B
 generalize jl (fun j=>bF.eq (a.ai.g j) (b.ai.g j)) a.ai.length 0=C
 generalize decide (((a.ab.length:Nat):Int)=((b.ab.length:Nat):Int))=x
 generalize decide (((a.af.length:Nat):Int)=((b.af.length:Nat):Int))=y
 generalize decide (((a.ai.length:Nat):Int)=((b.ai.length:Nat):Int))=z
 cases x<;>cases y<;>cases z<;>cases A<;>cases B<;>cases C<;>rfl
theorem all_true {f:Nat→Bool} (h:∀j,f j=true):∀(k i:Nat),jl f k i=true
 | 0,_=>rfl
 | k+1,i=>by rw[jl,h i,all_true h k (i+1)];rfl
theorem KX (a:aQ):bR a a=true:=by
 rw[bR,dX,Gg,all_true (fun j=>by simp [bn.eq])]
 simp [Span.eq]
theorem NT (a:bO):fM a a=true:=by
 rw[fM,fv,cR,dV,KW,za,Gh,all_true (fun j=>KX _),all_true (fun j=>by simp [aL.eq]),all_true (fun j=>by simp [bF.eq])]
 simp
theorem UJ {x y m:Int} (h1:x≤m) (h2:y≤m):imax x y≤m:=by unfold imax;split<;>omega
theorem UK {x y:Int}:y≤imax x y:=by unfold imax;split<;>omega
theorem R6 {x m:Int} (h:cu x m=true):0≤x∧x≤m:=by
 unfold cu at h
 by_cases q:0≤x
 · rw[decide_eq_true q] at h;exact ⟨q,of_decide_eq_true h⟩
 · rw[decide_eq_false q] at h;cases h
theorem UL {g:bn} (h:dy g=true):0≤g.since∧g.since≤100000:=by
 unfold dy at h
 cases h1:cu g.acc 1000000000 with
 | false=>rw[h1] at h;cases h
 | true=>
   cases h2:cu g.aW 1000000000 with
   | false=>rw[h1,h2] at h;cases h
   | true=>
     rw[h1,h2] at h
     exact R6 h
theorem R7 (g:bn) (t:Int):fj g t=fk g t:=by
 rw[fj,fk,Ix,←xK]
 cases h:dy g with
 | false=>rfl
 | true=>
   cases q:eh t with
   | false=>rfl
   | true=>
     have a:=UL h
     have b:=R6 (x:=t) (m:=100000) q
     have e:kY g t=pH g t:=by
      rw[kY,pH,wrap_i64 (n:=t - g.since) o! o!]
      have m1:imax (t - g.since) 0≤100000:=UJ o! o!
      have m2:0≤imax (t - g.since) 0:=UK
      generalize imax (t - g.since) 0=m at m1 m2 ⊢
      rw[wrap_i64 (n:=m+1000) o! o!,wrap_i64 (n:=m+1000 - 1) o! o!,wrap_i64 (n:=m+999) o! o!,show m+1000 - 1=m+999 by omega]
     show ((kY g t,(0:Int)):Int×Int)=(pH g t,0)
     rw[e]
def CZ (z w:AV):Prop:=∀k,cz z k∨cz w k
theorem cz.nil (k:Nat):cz .aX k:=fun _ _ _ _ e=>by cases e
theorem CZ.nil (w:AV):CZ .aX w:=fun k=> .inl (cz.nil k)
theorem CZ.symm {z w:AV} (a:CZ z w):CZ w z:=fun k=>(a k).symm
theorem cz.sl {p o n c k:Nat} {b:Bool} (h:p≠k):cz (.slice p o n c b) k:=fun o' n' c' b' e=>h (AV.slice.inj e).1
section
variable {e:TypeId} {g h h':ax} {z z' w:AV} {L M:List AV}
theorem eg.Wc (y:Tidy h) (o:eg e g h z L) {k:Nat} (hk:h.nx≤k):cz z k:=by
 rcases o with ⟨rfl,_⟩ | ⟨_,p,op,rfl,_,hg⟩
 · exact cz.nil k
 · have:=y _ _ hg
   exact cz.sl o!
theorem eg.vG (o:eg e g h z L) {k:Nat} (hk:k<g.nx):cz z k:=by
 rcases o with ⟨rfl,_⟩ | ⟨_,p,op,rfl,hp,hg⟩
 · exact cz.nil k
 · exact cz.sl o!
theorem eg.zX (o:eg e g h w L) (ap:CZ z w) (kp:∀i x,cz z i→h.get i=some x→h'.get i=some x):eg e g h' w L:=by
 rcases o with ⟨rfl,e0⟩ | ⟨hn,p,op,rfl,hp,hg⟩
 · exact .inl ⟨rfl,e0⟩
 · exact .inr ⟨hn,p,op,rfl,hp,kp _ _ ((ap p).resolve_right fun q=>q _ _ _ _ rfl) hg⟩
theorem eg.aa3 {b:Nat} {C:aK} (o:eg e g h z L) (c:n5 h h' b C) (n:cz z b):eg e g h' z L:=by
 rcases o with ⟨rfl,e0⟩ | ⟨hn,p,op,rfl,hp,hg⟩
 · exact .inl ⟨rfl,e0⟩
 · exact .inr ⟨hn,p,op,rfl,hp,c.2.2 _ _ (fun q=>n 0 _ _ op (by subst q;rfl)) hg⟩
theorem eg.scalar (o:eg e g h z L):AV.scalar z=true:=by
 rcases o with ⟨rfl,_⟩ | ⟨_,p,op,rfl,_,_⟩<;>rfl
theorem eg.kept {b:Nat} (o:eg e g h z L) (c:Kept b h h') (n:cz z b):eg e g h' z L:=by
 rcases o with ⟨rfl,e0⟩ | ⟨hn,p,op,rfl,hp,hg⟩
 · exact .inl ⟨rfl,e0⟩
 · exact .inr ⟨hn,p,op,rfl,hp,c _ _ (fun q=>n 0 _ _ op (by subst q;rfl)) hg⟩
theorem eg.same {L':List AV} (o:eg e g h z L) (o':eg e g h' z L') (a:Has h h'):L'=L:=by
 rcases o with ⟨rfl,e0⟩ | ⟨hn,p,op,rfl,hp,hg⟩<;>rcases o' with ⟨e1,e2⟩ | ⟨Zf,p',op',e1,YY,hg'⟩
 · rw[e0,e2]
 · cases e1
 · cases e1
 · have q:=(AV.slice.inj e1).1
   subst q
   have:=a _ _ hg
   rw[hg'] at this
   simpa using this
theorem eg.JT {s xt:TypeId} {xd:TypeDesc} {tys:Array TypeId} {bytes:Nat} {z0 x:AV} (y:Tidy h) (hle:g.nx≤h.nx) (o:eg e g h z L) (t0:tys[0]? =some s) (t1:tys[1]? =some xt) (hs:env.P.underlying s=some (.slice e)) (hx:env.P.underlying xt=some xd) (hi:pM xd=false) (SJ:b_ env e=some 1) (hb:iu env e=some bytes) (SK:gz env e=some z0) (hz:z0.cells.length=1) (h8:bytes≤63) (hlen:rQ x=some M.length) (hf:g_ h 1 M.length x=some M) (MJ:M.all AV.scalar=true) (hl:L.length+M.length≤1073741824):
 ∃z' h',gq env h tys z x=some (z',h')∧Tidy h'∧h.nx≤h'.nx∧eg e g h' z' (L++M)∧(∀i w,cz z i→h.get i=some w→h'.get i=some w)∧(∀k,k<h.nx→cz z k→cz z' k):=by
 by_cases hm:M=[]
 · subst hm
   rcases o with ⟨rfl,rfl⟩ | ⟨hn,p,op,rfl,hp,hg⟩
   · refine ⟨.aX,h,?_,y,Nat.le_refl _,.inl ⟨rfl,rfl⟩,fun _ _ _ q=>q,fun _ _ q=>q⟩
     simp only[List.length_nil] at hlen hf
     simp only[gq,t0,t1,hs,hx,hi,SJ,hb,hlen,hf,SK,hz,MJ,if_true,if_false,and_self,List.length_nil,Bool.false_eq_true,Nat.zero_mul]
   · have VD:∀i,(h.put p (some (.cells L e false))).get i=h.get i:=fun i=>by
      by_cases q:i=p
      · subst q;rw[ax.cn,hg]
      · rw[ax.bP (Ne.symm q)]
     refine ⟨_,h.put p (some (.cells L e false)),?_,fun i x q=>y i x (by rw[←VD];exact q),Nat.le_refl _,.inr ⟨by simpa using hn,p,op,by rw[List.append_nil],hp,by rw[VD,List.append_nil];exact hg⟩,fun i w _ q=>by rw[VD];exact q,fun _ _ q=>q⟩
     simp only[List.length_nil] at hlen hf
     simp only[gq,t0,t1,hs,hx,hi,SJ,hb,hlen,hf,SK,hz,MJ,hg,if_true,if_false,and_self,List.length_nil,Bool.false_eq_true,Nat.zero_mul,Nat.add_zero,Nat.zero_add,Nat.le_refl,Nat.mul_one,setFrom]
 · rcases o with ⟨rfl,rfl⟩ | ⟨hn,p,op,rfl,hp,hg⟩
   · obtain ⟨h',e1,n⟩:=Ie (h:=h) t0 t1 hs hx hi SJ hb SK hz h8 hlen hf MJ hm (by simpa using hl)
     have:=J7 n
     exact ⟨_,h',e1,wZ y n,by omega,.inr ⟨by simpa using hm,h.nx,true,by simp,hle,FA n⟩,fun i w _ q=>Bw y n q,fun k hk _=>cz.sl o!⟩
   · obtain ⟨h',e1,y1,z1,k1,g1⟩:=Ig (op:=op) y t0 t1 hs hx hi SJ hb SK hz h8 hlen hf MJ rfl hm hl hg
     exact ⟨_,h',e1,y1,by omega,.inr ⟨by simp [hn],h.nx,true,by rw[List.length_append],hle,g1⟩,fun i w q=>k1 i w (fun e=>q 0 L.length L.length op (by subst e;rfl)),fun k hk _=>cz.sl o!⟩
end
section
variable {α:Type} [aH α] {h0 h h':ax} {z z' w:AV} {l m:List α}
theorem uJ.aa3 {b:Nat} {C:aK} (o:uJ h0 h z l) (c:n5 h h' b C) (n:cz z b):uJ h0 h' z l:=by
 rcases o with ⟨rfl | ⟨p,rfl,h1,h2⟩,rfl⟩ | ⟨hn,p,op,rfl,hp,hg⟩
 · exact .inl ⟨.inl rfl,rfl⟩
 · exact .inl ⟨.inr ⟨p,rfl,h1,c.2.2 _ _ (fun q=>n 0 _ _ false (by subst q;rfl)) h2⟩,rfl⟩
 · exact .inr ⟨hn,p,op,rfl,hp,c.2.2 _ _ (fun q=>n 0 _ _ op (by subst q;rfl)) hg⟩
theorem uJ.Wc (y:Tidy h) (o:uJ h0 h z l) {k:Nat} (hk:h.nx≤k):cz z k:=by
 rcases o with ⟨rfl | ⟨p,rfl,h1,h2⟩,rfl⟩ | ⟨_,p,op,rfl,_,hg⟩
 · exact cz.nil k
 · have:=y _ _ h2;exact cz.sl o!
 · have:=y _ _ hg;exact cz.sl o!
theorem uJ.zX (o:uJ h0 h w l) (ap:CZ z w) (kp:∀i x,cz z i→h.get i=some x→h'.get i=some x):uJ h0 h' w l:=by
 rcases o with ⟨rfl | ⟨p,rfl,h1,h2⟩,rfl⟩ | ⟨hn,p,op,rfl,hp,hg⟩
 · exact .inl ⟨.inl rfl,rfl⟩
 · exact .inl ⟨.inr ⟨p,rfl,h1,kp _ _ ((ap p).resolve_right fun q=>q _ _ _ _ rfl) h2⟩,rfl⟩
 · exact .inr ⟨hn,p,op,rfl,hp,kp _ _ ((ap p).resolve_right fun q=>q _ _ _ _ rfl) hg⟩
end
section
variable {α:Type} [aH α] {h0 h h':ax} {z z' w:AV} {l m:List α}
end
def gM {σ ζ:Type} (call:a_) (b:Code) (s:St) (ex:jY) (hh:ax) (tn:σ→ζ→(Nat→AV)→List AV) (Qn:σ→ζ→ax→Prop) (v:σ):Prop:=
 ∃z y hk,Ev env call (.loop b) s ex ⟨tn v z y,hk,[],.no⟩∧Tidy hk∧hh.nx≤hk.nx∧Qn v z hk
section
variable {σ ζ:Type} {call:a_} {b:Code} {s:St} {ex:jY} {hh hk:ax} {tn:σ→ζ→(Nat→AV)→List AV} {Qn:σ→ζ→ax→Prop}
theorem gM.out {i:Nat} {L:List AV} {o:σ} (v:σ) (z:ζ) (e:o=v) (ev:Ev env call b s (.exit i) ⟨L,hk,[],.no⟩) (y1:Tidy hk) (n1:hh.nx≤hk.nx) (q:Qn v z hk) (hl:L=tn v z fun k=>L.getD k AV.undef):gM call b s (.exit i) hh tn Qn o:=by
 subst e
 obtain ⟨y,x⟩:=Dk (tmpl:=tn o z) (Ev.out ev) hl
 exact ⟨z,y,hk,x,y1,n1,q⟩
theorem gM.round {L:List AV} {o o':σ} (e:o=o') (ev:Ev env call b s .normal ⟨L,hk,[],.no⟩) (n1:hh.nx≤hk.nx) (tin:(Nat→AV)→List AV) (hl:L=tin fun k=>L.getD k AV.undef) (ih:∀x,gM call b ⟨tin x,hk,[],.no⟩ ex hk tn Qn o'):gM call b s ex hh tn Qn o:=by
 subst e
 have q:=ih fun k=>L.getD k AV.undef
 rw[←hl] at q
 obtain ⟨z,y,h2,x,y1,n2,g⟩:=q
 exact ⟨z,y,h2,Ev.loop ev x,y1,Nat.le_trans n1 n2,g⟩
end
def vA (t:List UInt8):List AV:=t.map fun b=>AV.int .u8 b.toNat
theorem pI (t:List UInt8):(vA t).length=t.length:=List.length_map ..
theorem UM (a b:List UInt8):vA (a++b)=vA a++vA b:=List.map_append
theorem KY (t:List UInt8):(vA t).all AV.scalar=true:=List.all_eq_true.2 fun x hx=>by
 obtain ⟨b,_,rfl⟩:=List.mem_map.1 hx;rfl
theorem NU (h:ax) (t:List UInt8):g_ h 1 (vA t).length (.str t)=some (vA t):=by
 rw[pI];simp only[g_,if_true,List.take_length];rfl
theorem R8 (t:List UInt8):rQ (.str t)=some (vA t).length:=by rw[pI];rfl
theorem acV {d:Nat} {h:ax} {i:Nat} {a z:AV} (y:Tidy h) (hg:h.get i=some (.cells [a,z] 61 false)) (ha:a= .dc∨a= .ptr i 0):
 ∃hk,cT (d+1) (.fn 53) [.ptr i 0] h= .ret (.tuple []) hk∧n5 h hk i (.cells [.ptr i 0,z] 61 false)∧hk.nx=h.nx:=by
 rcases ha with rfl | rfl
 · refine ⟨h.put i (some (.cells [.ptr i 0,z] 61 false)),?_,⟨fun k x q=>?_,ax.cn _,fun k x hk q=>by rw[ax.bP (Ne.symm hk)];exact q⟩,rfl⟩
   · have e:M0 53 [.ptr i 0] h=some (.tuple [],h.put i (some (.cells [.ptr i 0,z] 61 false))):=by
      show vD 61 [.ptr i 0] h=_
      simp [vD,hg]
     show fB env M0 (d+1) (.fn 53) _ h=_
     simp only[fB,e]
   · show k<h.nx
     by_cases hk:i=k
     · subst hk;exact y _ _ hg
     · rw[ax.bP hk] at q;exact y _ _ q
 · refine ⟨h,?_,⟨y,hg,fun _ _ _ q=>q⟩,rfl⟩
   have e:M0 53 [.ptr i 0] h=some (.tuple [],h):=by
    show vD 61 [.ptr i 0] h=_
    simp [vD,hg]
   show fB env M0 (d+1) (.fn 53) _ h=_
   simp only[fB,e]
theorem acW {d:Nat} {g h:ax} {i:Nat} {a z:AV} {t:List UInt8} (y:Tidy h) (hg:h.get i=some (.cells [a,z] 61 false)) (oz:eg 5 g h z (vA t)) (hl:t.length≤1000000000):
 ∃hk,cT (d+1) (.fn 24) [.ptr i 0] h= .ret (.str t) hk∧Tidy hk∧hk.nx=h.nx∧(∀k w,cz z k→h.get k=some w→hk.get k=some w):=by
 rcases oz with ⟨rfl,e0⟩ | ⟨hn,p,op,rfl,hp,hgp⟩
 · have ht:t=[]:=List.map_eq_nil_iff.1 e0
   subst ht
   refine ⟨h,?_,y,rfl,fun _ _ _ q=>q⟩
   have e:M0 24 [.ptr i 0] h=some (.str [],h):=by
    show rk 61 5 [.ptr i 0] h=_
    simp [rk,hg]
   show fB env M0 (d+1) (.fn 24) _ h=_
   simp only[fB,e]
 · refine ⟨h.put p none,?_,fun k x q=>?_,rfl,fun k w hk q=>?_⟩
   · have hp0:0<t.length:=by rw[←pI];exact List.length_pos_iff.2 hn
     have e:M0 24 [.ptr i 0] h=some (.str t,h.put p none):=by
      show rk 61 5 [.ptr i 0] h=_
      have q:J8 (List.take t.length (vA t))=some t:=by rw[List.take_of_length_le (by rw[pI];exact Nat.le_refl _)];exact L6 t
      simp only[rk,hg,hgp,pI,if_true,q]
      rw[if_pos ⟨trivial,hp0,Nat.le_refl _,Nat.le_refl _,by omega⟩]
     show fB env M0 (d+1) (.fn 24) _ h=_
     simp only[fB,e]
   · by_cases hk:p=k
     · subst hk;rw[ax.cn] at q;cases q
     · rw[ax.bP hk] at q;exact y _ _ q
   · rw[ax.bP (fun e=>hk 0 (vA t).length (vA t).length op (by subst e;rfl))];exact q
theorem eg.cg {e:TypeId} {g h:ax} {z:AV} {L:List AV} (o:eg e g h z L):Ab.cg (some (.slice e)) (some z)=some (.int .i64 ((L.length:Nat):Int)):=by
 rcases o with ⟨rfl,rfl⟩ | ⟨_,p,op,rfl,_,_⟩
 · rw[sI];rfl
 · rw[iz]
theorem Has.IY {e:TypeId} {h0 g h h':ax} {z:AV} {L:List AV} {i:Nat} (a:Has h0 h) (y0:Tidy h0) (hn:h0.nx≤g.nx) (oz:eg e g h z L) (hi:h0.nx≤i) (kp:∀k w,k≠i→cz z k→h.get k=some w→h'.get k=some w):Has h0 h':=fun k w q=>by
 have:=y0 _ _ q
 exact kp k w o! (oz.vG o!) (a _ _ q)
def Mt:Code:=(Tryz.f20.body).getD .skip
theorem acX:Tryz.f20.body=some Mt:=by kernel_rfl
theorem acY {d:Nat} {g h:ax} {i:Nat} {a z:AV} {t s:List UInt8} (ca:Tidy h) (hg:h.get i=some (.cells [a,z] 61 false)) (ha:a= .dc∨a= .ptr i 0) (oz:eg 5 g h z (vA t)) (hz:cz z i) (hgn:g.nx≤h.nx) (hl:t.length+s.length≤1000000000):
 ∃z' hk,cT (d+2) (.fn 20) [.ptr i 0,.str s] h= .ret (.tuple [.int .i64 (s.length:Nat),.nilIface]) hk∧Tidy hk∧h.nx≤hk.nx∧hk.get i=some (.cells [.ptr i 0,z'] 61 false)∧eg 5 g hk z' (vA (t++s))∧cz z' i∧(∀k w,k≠i→cz z k→h.get k=some w→hk.get k=some w)∧(∀k,k<h.nx→cz z k→cz z' k):=by
 have sl:s.length<2^60:=by omega
 have ti:=ca _ _ hg
 obtain ⟨h1,acZ,R9,lh⟩:=acV (d:=d) ca hg ha
 have cD:=R9.1
 obtain ⟨z3,h2,aa4,mS,ael,oz4,Wd,Wf⟩:=eg.JT (xd:= .string) (tys:= #[59,9]) (M:=vA s) cD o! (eg.aa3 oz R9 hz) rfl rfl k! k! rfl k! (bytes:=1) k! (z0:=AV.int .u8 0) k! rfl (by decide) (R8 _) (NU _ _) (KY _) (by rw[pI,pI];omega)
 rw[←UM] at oz4
 have aem:=oz4.scalar
 have Mu:=Wf _ o! hz
 have sc6:AV.scalar z3=true:=d!
 obtain ⟨h5,ac0,sS,aen,aa5,Wg⟩:=acs (t:=59) (i:=i) (o:=1) (v:=z3) (N:=[(Pt i),z3]) mS (Wd _ _ hz R9.2.1) k! (d!) k! k!
 have sn7:s.length<2^60:=sl
 have ev:=pk (d+1) Mt ((Pt i)::(AV.str s)::jg 17) h .ret h5 (CN 3<|EE acZ<|CN 4<|MM (ao 59 1 z R9.2.1 k!)<|CC<|PP (show gq env h1 #[59,9] z (AV.str s)=some (z3,h2) from aa4)<|CN 2<|SS ac0<|CN 4<|ZZ) k!
 have kk:∀k w,k≠i→cz z k→h.get k=some w→h5.get k=some w:=fun k w h1 h2 q=>Wg _ _ h1 (Wd _ _ h2 (R9.2.2 _ _ h1 q))
 have oz':eg 5 g h5 z3 (vA (t++s)):=oz4.kept Wg Mu
 obtain ⟨hk,e,q⟩:=BD rfl (aI Tryz.func20 acX k! (.inr rfl) ev k!)
 refine ⟨z3,hk,e,?_⟩
 have np:∀k,k<h.nx→cz z k→cz z3 k:=fun k h1 h2=>Wf k o! h2
 rcases q with rfl | ⟨rfl,A⟩
 · exact ⟨sS,by omega,aa5,oz',Mu,kk,np⟩
 · have e1:=A _ _ hg
   rw[aa5] at e1
   have e2:=(aK.cells.inj (Option.some.inj e1)).1
   have e3:z3=z:=(List.cons.inj (List.cons.inj e2).2).1
   have e4:AV.ptr i 0=a:=(List.cons.inj e2).1
   subst e3
   refine ⟨ca,Nat.le_refl _,by rw[e4];exact hg,?_,hz,fun _ _ _ _ q=>q,fun _ _ q=>q⟩
   rw[oz.same oz' A];exact oz
def Mv:Code:=(Tryz.f19.body).getD .skip
theorem ac1:Tryz.f19.body=some Mv:=by kernel_rfl
theorem Gi {d:Nat} {g h:ax} {i q n c:Nat} {op:Bool} {a z:AV} {t:List UInt8} {W:List (List UInt8)} {el:TypeId} {ro:Bool} (ca:Tidy h) (hg:h.get i=some (.cells [a,z] 61 false)) (ha:a= .dc∨a= .ptr i 0) (oz:eg 5 g h z (vA t)) (hz:cz z i) (hgn:g.nx≤h.nx) (hq:h.get q=some (.cells (W.map .str) el ro)) (hn:W.length=n) (hc:n≤c) (YZ:n≤100) (hW:(Lib.join W [32]).length≤1000) (hl:t.length≤100000000):
 ∃z' hk,cT (d+3) (.fn 19) [.slice q 0 n c op,.ptr i 0] h= .ret (.tuple []) hk∧Tidy hk∧h.nx≤hk.nx∧hk.get i=some (.cells [.ptr i 0,z'] 61 false)∧eg 5 g hk z' (vA (t++gV W))∧cz z' i∧(∀k w,k≠i→cz z k→h.get k=some w→hk.get k=some w)∧(∀k,k<h.nx→cz z k→cz z' k):=by
 have ti:=ca _ _ hg
 have k1:=XV (d:=d+1) (op:=op) (sep:=[32]) hq hn hc o! o!
 have u2:=gF 9 false true (Lib.join W [32]) [10] (by first | omega | (simp only[List.length_append,List.length_cons,List.length_nil];omega) | (simp;omega))
 obtain ⟨z4,h3,ac2,mR,Dn,CO,oz5,aa6,aa7,aa8⟩:=acY (d:=d) (g:=g) (t:=t) (s:=((Lib.join W [32])++[10])) ca hg ha oz hz o! (by first | omega | assumption | (simp only[List.length_set,List.length_replicate,List.length_append,List.length_cons,List.length_nil,List.nil_append]<;>omega) | (rw[List.length_take];omega))
 have ev:=pk (d+2) Mv ((AV.slice q 0 n c op)::(Pt i)::jg 5) h .normal h3 (CC<|EE k1<|VV u2<|EE ac2<|ZZ) k!
 rw[show Lib.join W [32]++[10]=gV W from rfl] at oz5
 obtain ⟨hk,e,q⟩:=BD rfl (aI Tryz.func19 ac1 k! (.inl rfl) ev k!)
 refine ⟨z4,hk,e,?_⟩
 rcases q with rfl | ⟨rfl,A⟩
 · exact ⟨mR,Dn,CO,oz5,aa6,aa7,aa8⟩
 · have e1:=A _ _ hg
   rw[CO] at e1
   have e2:=(aK.cells.inj (Option.some.inj e1)).1
   have e3:z4=z:=(List.cons.inj (List.cons.inj e2).2).1
   have e4:AV.ptr i 0=a:=(List.cons.inj e2).1
   subst e3
   refine ⟨ca,Nat.le_refl _,by rw[e4];exact hg,?_,hz,fun _ _ _ _ q=>q,fun _ _ q=>q⟩
   rw[oz.same oz5 A];exact oz
def UN:Code:=(Tryz.f23.body).getD .skip
theorem ac3:Tryz.f23.body=some UN:=by kernel_rfl
theorem aa9 {d:Nat} {g h:ax} {i:Nat} {a z:AV} {t:List UInt8} (ca:Tidy h) (hg:h.get i=some (.cells [a,z] 61 false)) (oz:eg 5 g h z (vA t)):
 cT (d+1) (.fn 23) [.ptr i 0] h= .ret (.int .i64 (t.length:Nat)) h:=by
 have eb:cg (some (.slice 5)) (some z)=some (Zn (vA t).length):=eg.cg oz
 rw[show t.length=(vA t).length from (pI t).symm]
 exact aw rfl (aI Tryz.func23 ac3 rfl (.inr rfl) (pk (d) _ _ h _ h (CN 4<|MM (ao 59 1 z hg k!)<|VV eb<|CC<|ZZ) k!) k!) (Has.refl _) rfl
end
end Go.Proofs.aM
