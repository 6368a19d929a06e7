import Derived.Test.YtijehnelcbdlgaaGreatW0
import Derived.Test.YtijehnelcbdlgaaGreatW1
import Derived.Test.YtijehnelcbdlgaaGreatW16
import Derived.Test.YtijehnelcbdlgaaGreatW9
import Derived.Test.YtijehnelcbdlgaaGreatW12
import Derived.Test.YtijehnelcbdlgaaGreatW15
import Derived.Test.YtijehnelcbdlgaaGreatEnv
import Derived.Test.YtijehnelcbdlgaaGreatA4
import Derived.Test.YtijehnelcbdlgaaGreatW14
namespace Go.Proofs.aM
open Go.Proofs Ab
noncomputable section
set_option maxRecDepth 100000
set_option maxHeartbeats 4000000
set_option linter.unusedVariables false
set_option linter.unusedSimpArgs false
def rh:Code:=(Tryz.f15.body).getD .skip
theorem zy:Tryz.f15.body=some rh:=by kernel_rfl
def VP:Code:=(bl rh).getD 0 .skip
def VQ:Code:=(bl rh).getD 1 .skip
def VS:Code:=(bl rh).getD 2 .skip
def VT:Code:=(bl rh).getD 3 .skip
def jZ (a:bP) (i0:Nat) (b:bP):Nat→Nat→Option (Bool)
 | 0,_=>none
 | nK+1,i1=>(bif (!ko.eq ((a.ab.g i0).aB.g i1) ((b.ab.g i0).aB.g i1)) then some false else jZ a i0 b nK (i1+1))
theorem GX {d:Nat} {h:az} (i0:Nat) (a:bP) (b:bP) (b6:Nat) (dv:Nat) (ie:Nat) (iL:Nat) (eP:aO h a.au a.ab) (dW:aO h a.ar a.af) (mr:aO h b.au b.ab) (mW:aO h b.ar b.af) (BS:((a.ab.g i0).name).length<2^60) (LO:bT h .i64 3 (a.ab.g i0).bh (a.ab.g i0).aD) (sg:aO h (a.ab.g i0).bo (a.ab.g i0).aB) (atz:((b.ab.g i0).name).length<2^60) (apI:bT h .i64 3 (b.ab.g i0).bh (b.ab.g i0).aD) (aeZ:aO h (b.ab.g i0).bo (b.ab.g i0).aB) (mQ:aK.ok h a) (C4:aK.ok h b) (atA:aK.ok h (a.ab.g i0)) (atB:aK.ok h (b.ab.g i0)) (yH:i0<a.ab.length) (o9:((a.ab.g i0).aB).length=((b.ab.g i0).aB).length):∀(k_ i_:Nat) (_:i_+k_=((a.ab.g i0).aB.length)) (x:Nat→AV) (hh:az) (aF:Tidy hh) (aA:Has h hh) (cz:hh.get b6=some (aN.cells [a.au,a.ar] 25 false)) (d_:hh.get dv=some (aN.cells [b.au,b.ar] 25 false)) (oU:hh.get ie=some (aN.cells [(AV.str (a.ab.g i0).name),(Zi (a.ab.g i0).takes),(a.ab.g i0).bh,(a.ab.g i0).bo] 48 false)) (pN:hh.get iL=some (aN.cells [(AV.str (b.ab.g i0).name),(Zi (b.ab.g i0).takes),(b.ab.g i0).bh,(b.ab.g i0).bo] 48 false)),aC (cA (d+1)) VQ ⟨((x 0)::(x 1)::(Pt b6)::(Pt dv)::(x 4)::(Zn i0)::(Pt ie)::(Pt iL)::(Zn i_)::rx x 9 140 []),hh,[],.no⟩ (.exit 2) hh (fun y=>((y 0)::(y 1)::(Pt b6)::(Pt dv)::(y 4)::(Zn i0)::(Pt ie)::(Pt iL)::rx y 8 141 [])) (fun r y=>((y 0)::(y 1)::(Pt b6)::(Pt dv)::(AV.bool r)::(Zn i0)::(Pt ie)::(Pt iL)::rx y 8 141 [])) (jZ a i0 b k_ i_)
 | 0,i1,eZ,x,hh,aF,aA,cz,d_,oU,pN=>by
  have gd:=(sg.has aA).len
  have q2:(decide (((i1:Nat):Int)<(((a.ab.g i0).aB.length:Nat):Int)))=false:=d!
  exact aC.out rfl (pk (d+1) _ _ hh _ hh (CN 2<|MM (aP 46 3 (a.ab.g i0).bo oU k!)<|VV gd<|VV (bE 3 false false .i64 ((i1:Nat):Int) (((a.ab.g i0).aB.length:Nat):Int))<|BB q2<|ZZ) k!) (Grow.refl aF) k!
 | nK+1,i1,eZ,x,hh,aF,aA,cz,d_,oU,pN=>by
  have pV:=eP.small
  have rC:=dW.small
  have Fx:=mr.small
  have UU:=mW.small
  have acR:=LO.small
  have akF:=sg.small
  have atC:=apI.small
  have atD:=aeZ.small
  have E2:=aF _ _ cz
  have Oo:=aF _ _ d_
  have akL:=aF _ _ oU
  have akM:=aF _ _ pN
  have gd:=(sg.has aA).len
  have q2:(decide (((i1:Nat):Int)<(((a.ab.g i0).aB.length:Nat):Int)))=true:=d!
  obtain ⟨p4,q5,oH⟩:=(sg.has aA).elem (i:=i1) o!
  have qm:=(sg.has aA).load o! oH
  obtain ⟨p8,q9,GC⟩:=(aeZ.has aA).elem (i:=i1) o!
  have vn:=(aeZ.has aA).load o! GC
  have u11:iK env .neq 50 false false (some (AV.agg [(Zi ((a.ab.g i0).aB.g i1).ah),(Zi ((a.ab.g i0).aB.g i1).aI)])) (some (AV.agg [(Zi ((b.ab.g i0).aB.g i1).ah),(Zi ((b.ab.g i0).aB.g i1).aI)]))=some (AV.bool (!ko.eq ((a.ab.g i0).aB.g i1) ((b.ab.g i0).aB.g i1))):=ko.neq ((a.ab.g i0).aB.g i1) ((b.ab.g i0).aB.g i1)
  have c12:=(sg.has aA).same 19
  have Y2:AV.same 20 (AV.agg [(Zi ((a.ab.g i0).aB.g i1).ah),(Zi ((a.ab.g i0).aB.g i1).aI)]) (AV.agg [(Zi ((a.ab.g i0).aB.g i1).ah),(Zi ((a.ab.g i0).aB.g i1).aI)])=true:=dK 18 (kK (fun n=>aS n _ _) (kK (fun n=>aS n _ _) CK))
  have WL:=(aeZ.has aA).same 19
  have c15:AV.same 20 (AV.agg [(Zi ((b.ab.g i0).aB.g i1).ah),(Zi ((b.ab.g i0).aB.g i1).aI)]) (AV.agg [(Zi ((b.ab.g i0).aB.g i1).ah),(Zi ((b.ab.g i0).aB.g i1).aI)])=true:=dK 18 (kK (fun n=>aS n _ _) (kK (fun n=>aS n _ _) CK))
  have ei:=fun {al ps} (k:Pk al _ ps)=>(CN 2<|MM (aP 46 3 (a.ab.g i0).bo oU k!)<|VV gd<|VV (bE 3 false false .i64 ((i1:Nat):Int) (((a.ab.g i0).aB.length:Nat):Int))<|BC q2<|MM (aP 46 3 (a.ab.g i0).bo oU k!)<|CC<|VV oH<|MM qm<|CC<|MM (aP 46 3 (b.ab.g i0).bo pN k!)<|CC<|VV GC<|MM vn<|VV u11<|HH (aP 46 3 (a.ab.g i0).bo oU k!)<|HH c12<|HH qm<|HH Y2<|HH (aP 46 3 (b.ab.g i0).bo pN k!)<|HH WL<|HH vn<|HH c15<|k:Pk _ [] ps)
  rcases bu (!ko.eq ((a.ab.g i0).aB.g i1) ((b.ab.g i0).aB.g i1)) with f1 | f1
  · exact aC.ret false (by simp only[jZ,f1,ao,ai]) (pk (d+1) _ _ hh _ hh (ei<|BC f1<|ZZ) k!) (Grow.refl aF) k!
  · have u17:=eA 3 false true i1 1 o!
    exact aC.round (by simp only[jZ,f1,ao,ai]) (pk (d+1) _ _ hh _ hh (ei<|BC f1<|VV u17<|CC<|ZZ) k!) (Grow.refl aF) _ k! (fun x=>GX i0 a b b6 dv ie iL eP dW mr mW BS LO sg atz apI aeZ mQ C4 atA atB yH o9 nK (i1+1) o! x hh aF aA cz d_ oU pN)
def gE (a:bP) (b:bP):Nat→Nat→Option (Bool)
 | 0,_=>none
 | dx+1,i0=>(bif (!decide ((a.ab.g i0).name=((b.ab.g i0).name))) then some false else (bif (!decide ((a.ab.g i0).takes=((b.ab.g i0).takes))) then some false else (bif (!(nD (a.ab.g i0).aD (b.ab.g i0).aD)) then some false else (bif (!decide ((((a.ab.g i0).aB.length:Nat):Int)=(((b.ab.g i0).aB.length:Nat):Int))) then some false else (match (jZ a i0 b (a.ab.g i0).aB.length 0) with | none=>gE a b dx (i0+1) | some ame=>some ame)))))
theorem GY {d:Nat} {h:az} (a:bP) (b:bP) (bj:Nat) (cg:Nat) (bp:aO h a.au a.ab) (cC:aO h a.ar a.af) (dq:aO h b.au b.ab) (lG:aO h b.ar b.af) (fI:aK.ok h a) (xW:aK.ok h b) (fU:a.ab.length=b.ab.length):∀(k_ i_:Nat) (_:i_+k_=a.ab.length) (x:Nat→AV) (hh:az) (aF:Tidy hh) (aA:Has h hh) (br:hh.get bj=some (aN.cells [a.au,a.ar] 25 false)) (dA:hh.get cg=some (aN.cells [b.au,b.ar] 25 false)),aC (cA (d+1)) VP ⟨((x 0)::(x 1)::(Pt bj)::(Pt cg)::(x 4)::(Zn i_)::rx x 6 143 []),hh,[],.no⟩ (.exit 0) hh (fun y=>((y 0)::(y 1)::(Pt bj)::(Pt cg)::rx y 4 145 [])) (fun r y=>((y 0)::(y 1)::(Pt bj)::(Pt cg)::(AV.bool r)::rx y 5 144 [])) (gE a b k_ i_)
 | 0,i0,eZ,x,hh,aF,aA,br,dA=>by
  have gd:=(bp.has aA).len
  have q2:(decide (((i0:Nat):Int)<((a.ab.length:Nat):Int)))=false:=d!
  exact aC.out rfl (pk (d+1) _ _ hh _ hh (CN 2<|MM (aP 22 0 a.au br k!)<|VV gd<|VV (bE 3 false false .i64 ((i0:Nat):Int) ((a.ab.length:Nat):Int))<|BB q2<|ZZ) k!) (Grow.refl aF) k!
 | dx+1,i0,eZ,x,hh,aF,aA,br,dA=>by
  have gN:=bp.small
  have mw:=cC.small
  have sX:=dq.small
  have JW:=lG.small
  have tD:=aF _ _ br
  have Lr:=aF _ _ dA
  have gd:=(bp.has aA).len
  have q2:(decide (((i0:Nat):Int)<((a.ab.length:Nat):Int)))=true:=d!
  obtain ⟨p4,q5,oH⟩:=(bp.has aA).elem (i:=i0) o!
  have qm:=(bp.has aA).load o! oH
  obtain ⟨p8,q9,GC⟩:=(dq.has aA).elem (i:=i0) o!
  have vn:=(dq.has aA).load o! GC
  obtain ⟨lY,KH,iU,Gy,vI,jS⟩:=gQ aF (aN.cells [(AV.str []),(Zi 0),AV.aw,AV.aw] 48 false)
  have my:=jS
  obtain ⟨pH,AO,hD,R_,tX,dZ⟩:=gQ iU (aN.cells [(AV.str []),(Zi 0),AV.aw,AV.aw] 48 false)
  have eT:=my.trans dZ
  have J3:=(((bp.has aA).ok (i:=i0) o!).2.1).scalar
  have ZO:=(((bp.has aA).ok (i:=i0) o!).2.2).scalar
  obtain ⟨rk,rL,jy,Df,l_,dC⟩:=j_ (t:=48) (n:=4) (i:=hh.nx) (L:=[(AV.str (a.ab.g i0).name),(Zi (a.ab.g i0).takes),(a.ab.g i0).bh,(a.ab.g i0).bo]) hD (dZ _ _ vI) k! rfl rfl (kJ rfl (kJ rfl (kJ J3 (kJ ZO rfl))))
  have gG:=Has.bK eT dC aF o!
  have al2:=(((dq.has aA).ok (i:=i0) o!).2.1).scalar
  have atE:=(((dq.has aA).ok (i:=i0) o!).2.2).scalar
  obtain ⟨yN,KC,oI,SG,vG,lg⟩:=j_ (t:=48) (n:=4) (i:=lY.nx) (L:=[(AV.str (b.ab.g i0).name),(Zi (b.ab.g i0).takes),(b.ab.g i0).bh,(b.ab.g i0).bo]) jy (dC _ _ o! tX) k! rfl rfl (kJ rfl (kJ rfl (kJ al2 (kJ atE rfl))))
  have kX:=Has.bK gG lg aF o!
  have c19:=(bp.has aA).same 19
  have Xd:AV.same 20 (AV.agg [(AV.str (a.ab.g i0).name),(Zi (a.ab.g i0).takes),(a.ab.g i0).bh,(a.ab.g i0).bo]) (AV.agg [(AV.str (a.ab.g i0).name),(Zi (a.ab.g i0).takes),(a.ab.g i0).bh,(a.ab.g i0).bo])=true:=dK 18 (kK (fun n=>j8 n _) (kK (fun n=>aS n _ _) (kK ((bp.has aA).ok (i:=i0) o!).2.1.same (kK ((bp.has aA).ok (i:=i0) o!).2.2.same CK))))
  have c21:=(dq.has aA).same 19
  have c22:AV.same 20 (AV.agg [(AV.str (b.ab.g i0).name),(Zi (b.ab.g i0).takes),(b.ab.g i0).bh,(b.ab.g i0).bo]) (AV.agg [(AV.str (b.ab.g i0).name),(Zi (b.ab.g i0).takes),(b.ab.g i0).bh,(b.ab.g i0).bo])=true:=dK 18 (kK (fun n=>j8 n _) (kK (fun n=>aS n _ _) (kK ((dq.has aA).ok (i:=i0) o!).2.1.same (kK ((dq.has aA).ok (i:=i0) o!).2.2.same CK))))
  have gK:=fun {al ps} (k:Pk al _ ps)=>(CN 2<|MM (aP 22 0 a.au br k!)<|VV gd<|VV (bE 3 false false .i64 ((i0:Nat):Int) ((a.ab.length:Nat):Int))<|BC q2<|MM (aP 22 0 a.au br k!)<|CC<|VV oH<|MM qm<|CC<|MM (aP 22 0 b.au dA k!)<|CC<|VV GC<|MM vn<|NN KH (fun i=>(Pt i))<|NN AO (fun i=>(Pt i))<|SS rL<|SS KC<|HH (aP 22 0 a.au (dZ _ _ (jS _ _ br)) k!)<|HH c19<|HH (show cX env pH 48 (AV.ptr p4 q5)=some (AV.agg [(AV.str (a.ab.g i0).name),(Zi (a.ab.g i0).takes),(a.ab.g i0).bh,(a.ab.g i0).bo]) from (((bp.has aA).has eT).load o! oH))<|HH Xd<|HH (aP 22 0 b.au (dZ _ _ (jS _ _ dA)) k!)<|HH c21<|HH (aP 22 0 b.au (dC _ _ o! (dZ _ _ (jS _ _ dA))) k!)<|HH c21<|HH (show cX env pH 48 (AV.ptr p8 q9)=some (AV.agg [(AV.str (b.ab.g i0).name),(Zi (b.ab.g i0).takes),(b.ab.g i0).bh,(b.ab.g i0).bo]) from (((dq.has aA).has eT).load o! GC))<|HH c22<|HH (show cX env rk 48 (AV.ptr p8 q9)=some (AV.agg [(AV.str (b.ab.g i0).name),(Zi (b.ab.g i0).takes),(b.ab.g i0).bh,(b.ab.g i0).bo]) from (((dq.has aA).has gG).load o! GC))<|HH c22<|HH (show ∃o,pH.get hh.nx=some o∧aN.same o (aN.cells [(AV.str []),(Zi 0),AV.aw,AV.aw] 48 false)=true from ⟨_,(dZ _ _ vI),by simp [aN.same,dR,AV.same]⟩)<|HH (show ∃o,pH.get lY.nx=some o∧aN.same o (aN.cells [(AV.str []),(Zi 0),AV.aw,AV.aw] 48 false)=true from ⟨_,tX,by simp [aN.same,dR,AV.same]⟩)<|HH (show nodup [hh.nx,lY.nx]=true from (by simp [nodup];omega))<|CC<|MM (aP 9 0 (AV.str (a.ab.g i0).name) (lg _ _ o! l_) k!)<|CC<|MM (aP 9 0 (AV.str (b.ab.g i0).name) vG k!)<|VV (anB 9 false false (a.ab.g i0).name (b.ab.g i0).name)<|CC<|k:Pk _ [] ps)
  rcases bu (!decide ((a.ab.g i0).name=((b.ab.g i0).name))) with f1 | f1
  · have eB:=Eu f1
    exact aC.ret false (by simp only[gE,f1,ao,ai]) (pk (d+1) _ _ hh _ yN (gK<|BB f1<|BB f1<|BB f1<|BB f1<|BV f1 (tR true f1)<|CC<|TT<|TT<|TT<|TT<|TT<|TT<|CN 2<|TT<|TT<|TT<|TT<|TT<|TT<|TT<|CC<|TT<|CC<|ZZ) k!) (⟨oI,kX,by omega⟩) k!
  · have eB:=Ew f1
    have n9:=fun {al ps} (k:Pk al _ ps)=>(gK<|BC f1<|BM f1 (aP 3 1 (Zi (a.ab.g i0).takes) (lg _ _ o! l_) k!)<|BC f1<|BM f1 (aP 3 1 (Zi (b.ab.g i0).takes) vG k!)<|BV f1 (kt 3 false false .i64 (a.ab.g i0).takes (b.ab.g i0).takes)<|VV (dD (a:=some (AV.bool true)) (b:=some (AV.bool (!decide ((a.ab.g i0).takes=((b.ab.g i0).takes))))) f1)<|CC<|k:Pk _ [] ps)
    rcases bu (!decide ((a.ab.g i0).takes=((b.ab.g i0).takes))) with f2 | f2
    · have pX:=Eu f2
      exact aC.ret false (by simp only[gE,f1,f2,ao,ai]) (pk (d+1) _ _ hh _ yN (n9<|BB f2<|BB f2<|BB f2<|BB f2<|BB f2<|BV f2 (tR true f2)<|CC<|TT<|TT<|TT<|TT<|TT<|TT<|TT<|CC<|TT<|CC<|ZZ) k!) (⟨oI,kX,by omega⟩) k!
    · have pX:=Ew f2
      have k25:=aeY (d:=d) (a.ab.g i0).aD (b.ab.g i0).aD (((bp.has aA).ok (i:=i0) o!).2.1.has kX) (((dq.has aA).ok (i:=i0) o!).2.1.has kX) oI
      have s5:=fun {al ps} (k:Pk al _ ps)=>(n9<|BC f2<|BM f2 (aP 26 2 (a.ab.g i0).bh (lg _ _ o! l_) k!)<|BC f2<|BM f2 (aP 26 2 (b.ab.g i0).bh vG k!)<|BB f2<|EE k25<|BC f2<|VV (dD (a:=some (AV.bool true)) (b:=some (AV.bool (!(nD (a.ab.g i0).aD (b.ab.g i0).aD)))) f2)<|CC<|k:Pk _ [] ps)
      rcases bu (!(nD (a.ab.g i0).aD (b.ab.g i0).aD)) with f3 | f3
      · exact aC.ret false (by simp only[gE,f1,f2,f3,ao,ai]) (pk (d+1) _ _ hh _ yN (s5<|BB f3<|BB f3<|BB f3<|BB f3<|BB f3<|BB f3<|BV f3 (tR true f3)<|TT<|CC<|ZZ) k!) (⟨oI,kX,by omega⟩) k!
      · have atF:=(((bp.has aA).ok (i:=i0) o!).2.2).len
        have ama:=(((dq.has aA).ok (i:=i0) o!).2.2).len
        have vR:=fun {al ps} (k:Pk al _ ps)=>(s5<|BC f3<|BM f3 (aP 46 3 (a.ab.g i0).bo (lg _ _ o! l_) k!)<|BV f3 atF<|BC f3<|BM f3 (aP 46 3 (b.ab.g i0).bo vG k!)<|BV f3 ama<|BV f3 (kt 3 false false .i64 (((a.ab.g i0).aB.length:Nat):Int) (((b.ab.g i0).aB.length:Nat):Int))<|VV (dD (a:=some (AV.bool true)) (b:=some (AV.bool (!decide ((((a.ab.g i0).aB.length:Nat):Int)=(((b.ab.g i0).aB.length:Nat):Int))))) f3)<|k:Pk _ [] ps)
        rcases bu (!decide ((((a.ab.g i0).aB.length:Nat):Int)=(((b.ab.g i0).aB.length:Nat):Int))) with f4 | f4
        · have J2:=Eu f4
          exact aC.ret false (by simp only[gE,f1,f2,f3,f4,ao,ai]) (pk (d+1) _ _ hh _ yN (vR<|BC f4<|ZZ) k!) (⟨oI,kX,by omega⟩) k!
        · have J2:=Ew f4
          have Kc:=GX (d:=d) (h:=hh) i0 a b bj cg hh.nx lY.nx (bp.has aA) (cC.has aA) (dq.has aA) (lG.has aA) ((bp.has aA).ok (i:=i0) o!).1 ((bp.has aA).ok (i:=i0) o!).2.1 ((bp.has aA).ok (i:=i0) o!).2.2 ((dq.has aA).ok (i:=i0) o!).1 ((dq.has aA).ok (i:=i0) o!).2.1 ((dq.has aA).ok (i:=i0) o!).2.2 (aK.mono aA fI) (aK.mono aA xW) ((bp.has aA).ok (i:=i0) o!) ((dq.has aA).ok (i:=i0) o!) o! o! (a.ab.g i0).aB.length 0 o! (dr ((x 0)::(x 1)::(Pt bj)::(Pt cg)::(x 4)::(Zn i0)::(Pt hh.nx)::(Pt lY.nx)::(Zi 0)::rx x 9 20 ((Zn i0)::(Pt bj)::a.au::(Zn a.ab.length)::(AV.bool (decide (((i0:Nat):Int)<((a.ab.length:Nat):Int))))::(x 34)::(x 35)::(Pt bj)::a.au::(Zn i0)::(AV.ptr p4 q5)::(AV.agg [(AV.str (a.ab.g i0).name),(Zi (a.ab.g i0).takes),(a.ab.g i0).bh,(a.ab.g i0).bo])::(Pt cg)::b.au::(Zn i0)::(AV.ptr p8 q9)::(AV.agg [(AV.str (b.ab.g i0).name),(Zi (b.ab.g i0).takes),(b.ab.g i0).bh,(b.ab.g i0).bo])::(Pt hh.nx)::(AV.str (a.ab.g i0).name)::(Pt lY.nx)::(AV.str (b.ab.g i0).name)::(AV.bool (!decide ((a.ab.g i0).name=((b.ab.g i0).name))))::(AV.bool (!decide ((a.ab.g i0).name=((b.ab.g i0).name))))::(AV.ptr hh.nx 1)::(Zi (a.ab.g i0).takes)::(AV.ptr lY.nx 1)::(Zi (b.ab.g i0).takes)::(AV.bool (!decide ((a.ab.g i0).takes=((b.ab.g i0).takes))))::(AV.bool (!decide ((a.ab.g i0).takes=((b.ab.g i0).takes))))::(AV.bool (!decide ((a.ab.g i0).takes=((b.ab.g i0).takes))))::(AV.ptr hh.nx 2)::((a.ab.g i0).bh)::(AV.ptr lY.nx 2)::((b.ab.g i0).bh)::(AV.bool (nD (a.ab.g i0).aD (b.ab.g i0).aD))::(AV.bool (!(nD (a.ab.g i0).aD (b.ab.g i0).aD)))::(AV.bool (!(nD (a.ab.g i0).aD (b.ab.g i0).aD)))::(AV.bool (!(nD (a.ab.g i0).aD (b.ab.g i0).aD)))::(AV.ptr hh.nx 3)::((a.ab.g i0).bo)::(Zn (a.ab.g i0).aB.length)::(AV.ptr lY.nx 3)::((b.ab.g i0).bo)::(Zn (b.ab.g i0).aB.length)::(AV.bool (!decide ((((a.ab.g i0).aB.length:Nat):Int)=(((b.ab.g i0).aB.length:Nat):Int))))::(AV.bool (!decide ((((a.ab.g i0).aB.length:Nat):Int)=(((b.ab.g i0).aB.length:Nat):Int))))::rx x 75 74 []))) yN oI kX (lg _ _ o! (dC _ _ o! (dZ _ _ (jS _ _ br)))) (lg _ _ o! (dC _ _ o! (dZ _ _ (jS _ _ dA)))) (lg _ _ o! l_) vG
          cases H':jZ a i0 b (a.ab.g i0).aB.length 0 with
          | none=>
           obtain ⟨atG,h31,P3,Ek⟩:=aC.n H' Kc
           have X4:=Ek.y
           have apJ:yN.nx≤h31.nx:=Ek.n
           have X5:=kX.trans Ek.a
           have u32:=eA 3 false true i0 1 o!
           exact aC.round (by simp only[gE,f1,f2,f3,f4,H',ao,ai]) (pk (d+1) _ _ hh _ h31 (vR<|BC f4<|LL P3<|CC<|VV u32<|CC<|ZZ) k!) (⟨X4,X5,by omega⟩) _ k! (fun x=>GY a b bj cg bp cC dq lG fI xW fU dx (i0+1) o! x h31 X4 (aA.trans X5) (Ek.a _ _ (lg _ _ o! (dC _ _ o! (dZ _ _ (jS _ _ br))))) (Ek.a _ _ (lg _ _ o! (dC _ _ o! (dZ _ _ (jS _ _ dA))))))
          | some ame=>
           obtain ⟨atG,h31,P3,Ek⟩:=aC.r H' Kc
           have X4:=Ek.y
           have apJ:yN.nx≤h31.nx:=Ek.n
           have X5:=kX.trans Ek.a
           exact aC.ret ame (by simp only[gE,f1,f2,f3,f4,H',ao,ai]) (pk (d+1) _ _ hh _ h31 (vR<|BC f4<|LL P3<|ZZ) k!) (⟨X4,X5,by omega⟩) k!
def j0 (a:bP) (i2:Nat) (b:bP):Nat→Nat→Option (Bool)
 | 0,_=>none
 | DF+1,i3=>(bif (!Span.eq ((a.af.g i2).off.g i3) ((b.af.g i2).off.g i3)) then some false else j0 a i2 b DF (i3+1))
theorem GZ {d:Nat} {h:az} (i2:Nat) (a:bP) (b:bP) (nU:Nat) (sd:Nat) (se:Nat) (FI:Nat) (lP:aO h a.au a.ab) (vu:aO h a.ar a.af) (Fu:aO h b.au b.ab) (Hm:aO h b.ar b.af) (Hn:((a.af.g i2).name).length<2^60) (Fv:aO h (a.af.g i2).cJ (a.af.g i2).off) (Ho:((b.af.g i2).name).length<2^60) (LM:aO h (b.af.g i2).cJ (b.af.g i2).off) (BR:aK.ok h a) (LN:aK.ok h b) (R7:aK.ok h (a.af.g i2)) (Zm:aK.ok h (b.af.g i2)) (Sp:i2<a.af.length) (R8:((a.af.g i2).off).length=((b.af.g i2).off).length):∀(k_ i_:Nat) (_:i_+k_=((a.af.g i2).off.length)) (x:Nat→AV) (hh:az) (aF:Tidy hh) (aA:Has h hh) (mh:hh.get nU=some (aN.cells [a.au,a.ar] 25 false)) (py:hh.get sd=some (aN.cells [b.au,b.ar] 25 false)) (ov:hh.get se=some (aN.cells [(AV.str (a.af.g i2).name),(Zi (a.af.g i2).aI),(a.af.g i2).cJ] 45 false)) (Hv:hh.get FI=some (aN.cells [(AV.str (b.af.g i2).name),(Zi (b.af.g i2).aI),(b.af.g i2).cJ] 45 false)),aC (cA (d+1)) VT ⟨((x 0)::(x 1)::(Pt nU)::(Pt sd)::rx x 4 5 ((Zn i2)::(Pt se)::(Pt FI)::(Zn i_)::rx x 13 136 [])),hh,[],.no⟩ (.exit 6) hh (fun y=>((y 0)::(y 1)::(Pt nU)::(Pt sd)::rx y 4 5 ((Zn i2)::(Pt se)::(Pt FI)::rx y 12 137 []))) (fun r y=>((y 0)::(y 1)::(Pt nU)::(Pt sd)::(AV.bool r)::rx y 5 4 ((Zn i2)::(Pt se)::(Pt FI)::rx y 12 137 []))) (j0 a i2 b k_ i_)
 | 0,i3,eZ,x,hh,aF,aA,mh,py,ov,Hv=>by
  have gd:=(Fv.has aA).len
  have q2:(decide (((i3:Nat):Int)<(((a.af.g i2).off.length:Nat):Int)))=false:=d!
  exact aC.out rfl (pk (d+1) _ _ hh _ hh (CN 2<|MM (aP 43 2 (a.af.g i2).cJ ov k!)<|VV gd<|VV (bE 3 false false .i64 ((i3:Nat):Int) (((a.af.g i2).off.length:Nat):Int))<|BB q2<|ZZ) k!) (Grow.refl aF) k!
 | DF+1,i3,eZ,x,hh,aF,aA,mh,py,ov,Hv=>by
  have J1:=lP.small
  have OZ:=vu.small
  have aky:=Fu.small
  have acQ:=Hm.small
  have akz:=Fv.small
  have atH:=LM.small
  have agI:=aF _ _ mh
  have akA:=aF _ _ py
  have akB:=aF _ _ ov
  have asF:=aF _ _ Hv
  have gd:=(Fv.has aA).len
  have q2:(decide (((i3:Nat):Int)<(((a.af.g i2).off.length:Nat):Int)))=true:=d!
  obtain ⟨p4,q5,oH⟩:=(Fv.has aA).elem (i:=i3) o!
  have qm:=(Fv.has aA).load o! oH
  obtain ⟨p8,q9,GC⟩:=(LM.has aA).elem (i:=i3) o!
  have vn:=(LM.has aA).load o! GC
  have u11:iK env .neq 52 false false (some (AV.agg [(Zi ((a.af.g i2).off.g i3).a8),(Zi ((a.af.g i2).off.g i3).aQ)])) (some (AV.agg [(Zi ((b.af.g i2).off.g i3).a8),(Zi ((b.af.g i2).off.g i3).aQ)]))=some (AV.bool (!Span.eq ((a.af.g i2).off.g i3) ((b.af.g i2).off.g i3))):=Span.neq ((a.af.g i2).off.g i3) ((b.af.g i2).off.g i3)
  have c12:=(Fv.has aA).same 19
  have Y2:AV.same 20 (AV.agg [(Zi ((a.af.g i2).off.g i3).a8),(Zi ((a.af.g i2).off.g i3).aQ)]) (AV.agg [(Zi ((a.af.g i2).off.g i3).a8),(Zi ((a.af.g i2).off.g i3).aQ)])=true:=dK 18 (kK (fun n=>aS n _ _) (kK (fun n=>aS n _ _) CK))
  have WL:=(LM.has aA).same 19
  have c15:AV.same 20 (AV.agg [(Zi ((b.af.g i2).off.g i3).a8),(Zi ((b.af.g i2).off.g i3).aQ)]) (AV.agg [(Zi ((b.af.g i2).off.g i3).a8),(Zi ((b.af.g i2).off.g i3).aQ)])=true:=dK 18 (kK (fun n=>aS n _ _) (kK (fun n=>aS n _ _) CK))
  have Fw:=fun {al ps} (k:Pk al _ ps)=>(CN 2<|MM (aP 43 2 (a.af.g i2).cJ ov k!)<|VV gd<|VV (bE 3 false false .i64 ((i3:Nat):Int) (((a.af.g i2).off.length:Nat):Int))<|BC q2<|MM (aP 43 2 (a.af.g i2).cJ ov k!)<|CC<|VV oH<|MM qm<|CC<|MM (aP 43 2 (b.af.g i2).cJ Hv k!)<|CC<|VV GC<|MM vn<|VV u11<|HH (aP 43 2 (a.af.g i2).cJ ov k!)<|HH c12<|HH qm<|HH Y2<|HH (aP 43 2 (b.af.g i2).cJ Hv k!)<|HH WL<|HH vn<|HH c15<|k:Pk _ [] ps)
  rcases bu (!Span.eq ((a.af.g i2).off.g i3) ((b.af.g i2).off.g i3)) with f1 | f1
  · exact aC.ret false (by simp only[j0,f1,ao,ai]) (pk (d+1) _ _ hh _ hh (Fw<|BC f1<|ZZ) k!) (Grow.refl aF) k!
  · have u17:=eA 3 false true i3 1 o!
    exact aC.round (by simp only[j0,f1,ao,ai]) (pk (d+1) _ _ hh _ hh (Fw<|BC f1<|VV u17<|CC<|ZZ) k!) (Grow.refl aF) _ k! (fun x=>GZ i2 a b nU sd se FI lP vu Fu Hm Hn Fv Ho LM BR LN R7 Zm Sp R8 DF (i3+1) o! x hh aF aA mh py ov Hv)
def gW (a:bP) (b:bP):Nat→Nat→Option (Bool)
 | 0,_=>none
 | DD+1,i2=>(bif (!decide ((a.af.g i2).name=((b.af.g i2).name))) then some false else (bif (!decide ((a.af.g i2).aI=((b.af.g i2).aI))) then some false else (bif (!decide ((((a.af.g i2).off.length:Nat):Int)=(((b.af.g i2).off.length:Nat):Int))) then some false else (match (j0 a i2 b (a.af.g i2).off.length 0) with | none=>gW a b DD (i2+1) | some amf=>some amf))))
theorem G5 {d:Nat} {h:az} (a:bP) (b:bP) (jD:Nat) (l5:Nat) (ky:aO h a.au a.ab) (lp:aO h a.ar a.af) (xZ:aO h b.au b.ab) (nS:aO h b.ar b.af) (uM:aK.ok h a) (BQ:aK.ok h b) (Hl:a.af.length=b.af.length):∀(k_ i_:Nat) (_:i_+k_=a.af.length) (x:Nat→AV) (hh:az) (aF:Tidy hh) (aA:Has h hh) (iO:hh.get jD=some (aN.cells [a.au,a.ar] 25 false)) (nA:hh.get l5=some (aN.cells [b.au,b.ar] 25 false)),aC (cA (d+1)) VS ⟨((x 0)::(x 1)::(Pt jD)::(Pt l5)::rx x 4 5 ((Zn i_)::rx x 10 139 [])),hh,[],.no⟩ (.exit 4) hh (fun y=>((y 0)::(y 1)::(Pt jD)::(Pt l5)::rx y 4 145 [])) (fun r y=>((y 0)::(y 1)::(Pt jD)::(Pt l5)::(AV.bool r)::rx y 5 144 [])) (gW a b k_ i_)
 | 0,i2,eZ,x,hh,aF,aA,iO,nA=>by
  have gd:=(lp.has aA).len
  have q2:(decide (((i2:Nat):Int)<((a.af.length:Nat):Int)))=false:=d!
  exact aC.out rfl (pk (d+1) _ _ hh _ hh (CN 2<|MM (aP 23 1 a.ar iO k!)<|VV gd<|VV (bE 3 false false .i64 ((i2:Nat):Int) ((a.af.length:Nat):Int))<|BB q2<|ZZ) k!) (Grow.refl aF) k!
 | DD+1,i2,eZ,x,hh,aF,aA,iO,nA=>by
  have Ft:=ky.small
  have J0:=lp.small
  have US:=xZ.small
  have OY:=nS.small
  have acO:=aF _ _ iO
  have agH:=aF _ _ nA
  have gd:=(lp.has aA).len
  have q2:(decide (((i2:Nat):Int)<((a.af.length:Nat):Int)))=true:=d!
  obtain ⟨p4,q5,oH⟩:=(lp.has aA).elem (i:=i2) o!
  have qm:=(lp.has aA).load o! oH
  obtain ⟨p8,q9,GC⟩:=(nS.has aA).elem (i:=i2) o!
  have vn:=(nS.has aA).load o! GC
  obtain ⟨lY,KH,iU,Gy,vI,jS⟩:=gQ aF (aN.cells [(AV.str []),(Zi 0),AV.aw] 45 false)
  have my:=jS
  obtain ⟨pH,AO,hD,R_,tX,dZ⟩:=gQ iU (aN.cells [(AV.str []),(Zi 0),AV.aw] 45 false)
  have eT:=my.trans dZ
  have J3:=(((lp.has aA).ok (i:=i2) o!).2).scalar
  obtain ⟨rk,rL,jy,Df,l_,dC⟩:=j_ (t:=45) (n:=3) (i:=hh.nx) (L:=[(AV.str (a.af.g i2).name),(Zi (a.af.g i2).aI),(a.af.g i2).cJ]) hD (dZ _ _ vI) k! rfl rfl (kJ rfl (kJ rfl (kJ J3 rfl)))
  have gG:=Has.bK eT dC aF o!
  have atI:=(((nS.has aA).ok (i:=i2) o!).2).scalar
  obtain ⟨HR,S2,qI,aeX,zx,pE⟩:=j_ (t:=45) (n:=3) (i:=lY.nx) (L:=[(AV.str (b.af.g i2).name),(Zi (b.af.g i2).aI),(b.af.g i2).cJ]) jy (dC _ _ o! tX) k! rfl rfl (kJ rfl (kJ rfl (kJ atI rfl)))
  have qJ:=Has.bK gG pE aF o!
  have c17:=(lp.has aA).same 19
  have c18:AV.same 20 (AV.agg [(AV.str (a.af.g i2).name),(Zi (a.af.g i2).aI),(a.af.g i2).cJ]) (AV.agg [(AV.str (a.af.g i2).name),(Zi (a.af.g i2).aI),(a.af.g i2).cJ])=true:=dK 18 (kK (fun n=>j8 n _) (kK (fun n=>aS n _ _) (kK ((lp.has aA).ok (i:=i2) o!).2.same CK)))
  have c19:=(nS.has aA).same 19
  have Xd:AV.same 20 (AV.agg [(AV.str (b.af.g i2).name),(Zi (b.af.g i2).aI),(b.af.g i2).cJ]) (AV.agg [(AV.str (b.af.g i2).name),(Zi (b.af.g i2).aI),(b.af.g i2).cJ])=true:=dK 18 (kK (fun n=>j8 n _) (kK (fun n=>aS n _ _) (kK ((nS.has aA).ok (i:=i2) o!).2.same CK)))
  have Ex:=fun {al ps} (k:Pk al _ ps)=>(CN 2<|MM (aP 23 1 a.ar iO k!)<|VV gd<|VV (bE 3 false false .i64 ((i2:Nat):Int) ((a.af.length:Nat):Int))<|BC q2<|MM (aP 23 1 a.ar iO k!)<|CC<|VV oH<|MM qm<|CC<|MM (aP 23 1 b.ar nA k!)<|CC<|VV GC<|MM vn<|NN KH (fun i=>(Pt i))<|NN AO (fun i=>(Pt i))<|SS rL<|SS S2<|HH (aP 23 1 a.ar (dZ _ _ (jS _ _ iO)) k!)<|HH c17<|HH (show cX env pH 45 (AV.ptr p4 q5)=some (AV.agg [(AV.str (a.af.g i2).name),(Zi (a.af.g i2).aI),(a.af.g i2).cJ]) from (((lp.has aA).has eT).load o! oH))<|HH c18<|HH (aP 23 1 b.ar (dZ _ _ (jS _ _ nA)) k!)<|HH c19<|HH (aP 23 1 b.ar (dC _ _ o! (dZ _ _ (jS _ _ nA))) k!)<|HH c19<|HH (show cX env pH 45 (AV.ptr p8 q9)=some (AV.agg [(AV.str (b.af.g i2).name),(Zi (b.af.g i2).aI),(b.af.g i2).cJ]) from (((nS.has aA).has eT).load o! GC))<|HH Xd<|HH (show cX env rk 45 (AV.ptr p8 q9)=some (AV.agg [(AV.str (b.af.g i2).name),(Zi (b.af.g i2).aI),(b.af.g i2).cJ]) from (((nS.has aA).has gG).load o! GC))<|HH Xd<|HH (show ∃o,pH.get hh.nx=some o∧aN.same o (aN.cells [(AV.str []),(Zi 0),AV.aw] 45 false)=true from ⟨_,(dZ _ _ vI),by simp [aN.same,dR,AV.same]⟩)<|HH (show ∃o,pH.get lY.nx=some o∧aN.same o (aN.cells [(AV.str []),(Zi 0),AV.aw] 45 false)=true from ⟨_,tX,by simp [aN.same,dR,AV.same]⟩)<|HH (show nodup [hh.nx,lY.nx]=true from (by simp [nodup];omega))<|CC<|MM (aP 9 0 (AV.str (a.af.g i2).name) (pE _ _ o! l_) k!)<|CC<|MM (aP 9 0 (AV.str (b.af.g i2).name) zx k!)<|VV (anB 9 false false (a.af.g i2).name (b.af.g i2).name)<|CC<|k:Pk _ [] ps)
  rcases bu (!decide ((a.af.g i2).name=((b.af.g i2).name))) with f1 | f1
  · have eB:=Eu f1
    exact aC.ret false (by simp only[gW,f1,ao,ai]) (pk (d+1) _ _ hh _ HR (Ex<|BB f1<|BB f1<|BB f1<|BB f1<|BV f1 (tR true f1)<|CC<|TT<|TT<|TT<|TT<|TT<|TT<|TT<|CC<|TT<|CC<|ZZ) k!) (⟨qI,qJ,by omega⟩) k!
  · have eB:=Ew f1
    have Hp:=fun {al ps} (k:Pk al _ ps)=>(Ex<|BC f1<|BM f1 (aP 3 1 (Zi (a.af.g i2).aI) (pE _ _ o! l_) k!)<|BC f1<|BM f1 (aP 3 1 (Zi (b.af.g i2).aI) zx k!)<|BV f1 (kt 3 false false .i64 (a.af.g i2).aI (b.af.g i2).aI)<|VV (dD (a:=some (AV.bool true)) (b:=some (AV.bool (!decide ((a.af.g i2).aI=((b.af.g i2).aI))))) f1)<|CC<|k:Pk _ [] ps)
    rcases bu (!decide ((a.af.g i2).aI=((b.af.g i2).aI))) with f2 | f2
    · have pX:=Eu f2
      exact aC.ret false (by simp only[gW,f1,f2,ao,ai]) (pk (d+1) _ _ hh _ HR (Hp<|BB f2<|BB f2<|BB f2<|BB f2<|BB f2<|BB f2<|BV f2 (tR true f2)<|TT<|CC<|ZZ) k!) (⟨qI,qJ,by omega⟩) k!
    · have pX:=Ew f2
      have atJ:=(((lp.has aA).ok (i:=i2) o!).2).len
      have atK:=(((nS.has aA).ok (i:=i2) o!).2).len
      have LP:=fun {al ps} (k:Pk al _ ps)=>(Hp<|BC f2<|BM f2 (aP 43 2 (a.af.g i2).cJ (pE _ _ o! l_) k!)<|BV f2 atJ<|BC f2<|BM f2 (aP 43 2 (b.af.g i2).cJ zx k!)<|BV f2 atK<|BV f2 (kt 3 false false .i64 (((a.af.g i2).off.length:Nat):Int) (((b.af.g i2).off.length:Nat):Int))<|VV (dD (a:=some (AV.bool true)) (b:=some (AV.bool (!decide ((((a.af.g i2).off.length:Nat):Int)=(((b.af.g i2).off.length:Nat):Int))))) f2)<|k:Pk _ [] ps)
      rcases bu (!decide ((((a.af.g i2).off.length:Nat):Int)=(((b.af.g i2).off.length:Nat):Int))) with f3 | f3
      · have tF:=Eu f3
        exact aC.ret false (by simp only[gW,f1,f2,f3,ao,ai]) (pk (d+1) _ _ hh _ HR (LP<|BC f3<|ZZ) k!) (⟨qI,qJ,by omega⟩) k!
      · have tF:=Ew f3
        have Kd:=GZ (d:=d) (h:=hh) i2 a b jD l5 hh.nx lY.nx (ky.has aA) (lp.has aA) (xZ.has aA) (nS.has aA) ((lp.has aA).ok (i:=i2) o!).1 ((lp.has aA).ok (i:=i2) o!).2 ((nS.has aA).ok (i:=i2) o!).1 ((nS.has aA).ok (i:=i2) o!).2 (aK.mono aA uM) (aK.mono aA BQ) ((lp.has aA).ok (i:=i2) o!) ((nS.has aA).ok (i:=i2) o!) o! o! (a.af.g i2).off.length 0 o! (dr ((x 0)::(x 1)::(Pt jD)::(Pt l5)::rx x 4 5 ((Zn i2)::(Pt hh.nx)::(Pt lY.nx)::(Zi 0)::rx x 13 80 ((Zn i2)::(AV.ptr jD 1)::a.ar::(Zn a.af.length)::(AV.bool (decide (((i2:Nat):Int)<((a.af.length:Nat):Int))))::(x 98)::(x 99)::(AV.ptr jD 1)::a.ar::(Zn i2)::(AV.ptr p4 q5)::(AV.agg [(AV.str (a.af.g i2).name),(Zi (a.af.g i2).aI),(a.af.g i2).cJ])::(AV.ptr l5 1)::b.ar::(Zn i2)::(AV.ptr p8 q9)::(AV.agg [(AV.str (b.af.g i2).name),(Zi (b.af.g i2).aI),(b.af.g i2).cJ])::(Pt hh.nx)::(AV.str (a.af.g i2).name)::(Pt lY.nx)::(AV.str (b.af.g i2).name)::(AV.bool (!decide ((a.af.g i2).name=((b.af.g i2).name))))::(AV.bool (!decide ((a.af.g i2).name=((b.af.g i2).name))))::(AV.ptr hh.nx 1)::(Zi (a.af.g i2).aI)::(AV.ptr lY.nx 1)::(Zi (b.af.g i2).aI)::(AV.bool (!decide ((a.af.g i2).aI=((b.af.g i2).aI))))::(AV.bool (!decide ((a.af.g i2).aI=((b.af.g i2).aI))))::(AV.bool (!decide ((a.af.g i2).aI=((b.af.g i2).aI))))::(AV.ptr hh.nx 2)::((a.af.g i2).cJ)::(Zn (a.af.g i2).off.length)::(AV.ptr lY.nx 2)::((b.af.g i2).cJ)::(Zn (b.af.g i2).off.length)::(AV.bool (!decide ((((a.af.g i2).off.length:Nat):Int)=(((b.af.g i2).off.length:Nat):Int))))::(AV.bool (!decide ((((a.af.g i2).off.length:Nat):Int)=(((b.af.g i2).off.length:Nat):Int))))::rx x 131 18 [])))) HR qI qJ (pE _ _ o! (dC _ _ o! (dZ _ _ (jS _ _ iO)))) (pE _ _ o! (dC _ _ o! (dZ _ _ (jS _ _ nA)))) (pE _ _ o! l_) zx
        cases Ia:j0 a i2 b (a.af.g i2).off.length 0 with
        | none=>
         obtain ⟨atL,h27,P4,El⟩:=aC.n Ia Kd
         have X6:=El.y
         have apK:HR.nx≤h27.nx:=El.n
         have X7:=qJ.trans El.a
         have u28:=eA 3 false true i2 1 o!
         exact aC.round (by simp only[gW,f1,f2,f3,Ia,ao,ai]) (pk (d+1) _ _ hh _ h27 (LP<|BC f3<|LL P4<|CC<|VV u28<|CC<|ZZ) k!) (⟨X6,X7,by omega⟩) _ k! (fun x=>G5 a b jD l5 ky lp xZ nS uM BQ Hl DD (i2+1) o! x h27 X6 (aA.trans X7) (El.a _ _ (pE _ _ o! (dC _ _ o! (dZ _ _ (jS _ _ iO))))) (El.a _ _ (pE _ _ o! (dC _ _ o! (dZ _ _ (jS _ _ nA))))))
        | some amf=>
         obtain ⟨atL,h27,P4,El⟩:=aC.r Ia Kd
         have X6:=El.y
         have apK:HR.nx≤h27.nx:=El.n
         have X7:=qJ.trans El.a
         exact aC.ret amf (by simp only[gW,f1,f2,f3,Ia,ao,ai]) (pk (d+1) _ _ hh _ h27 (LP<|BC f3<|LL P4<|ZZ) k!) (⟨X6,X7,by omega⟩) k!
def iQ (a:bP) (b:bP):Bool:=(bif (!decide (((a.ab.length:Nat):Int)=((b.ab.length:Nat):Int))) then false else (bif (!decide (((a.af.length:Nat):Int)=((b.af.length:Nat):Int))) then false else (match (gE a b a.ab.length 0) with | none=>(match (gW a b a.af.length 0) with | none=>true | some Kn=>Kn) | some rr9=>rr9)))
theorem ae0 {d:Nat} {h:az} (a:bP) (b:bP) (X2:aK.ok h a) (X3:aK.ok h b) (bM:Tidy h):cA (d+2) (.fn 15) [(AV.agg [a.au,a.ar]),(AV.agg [b.au,b.ar])] h= .ret (AV.bool (iQ a b)) h:=by
 have aqK:=X2.1.small
 have aqL:=X2.2.small
 have aqM:=X3.1.small
 have aqN:=X3.2.small
 obtain ⟨h1,dw,de,jW,bx,ca⟩:=gQ bM (aN.cells [a.au,a.ar] 25 false)
 have bD:=ca
 obtain ⟨h2,r7,mN,I4,ka,iM⟩:=gQ de (aN.cells [b.au,b.ar] 25 false)
 have gm:=bD.trans iM
 have ML:=X2.1.len
 have RQ:=X3.1.len
 have DG:=fun {al ps} (k:Pk al _ ps)=>(NN dw (fun i=>(Pt i))<|NN r7 (fun i=>(Pt i))<|CN 2<|MM (aP 22 0 a.au (iM _ _ bx) k!)<|VV ML<|CC<|MM (aP 22 0 b.au ka k!)<|VV RQ<|VV (kt 3 false false .i64 ((a.ab.length:Nat):Int) ((b.ab.length:Nat):Int))<|CC<|k:Pk _ [] ps)
 rcases bu (!decide (((a.ab.length:Nat):Int)=((b.ab.length:Nat):Int))) with f0 | f0
 · have ja:=Eu f0
   have e:iQ a b=false:=by simp only[iQ,f0,ao,ai]
   rw[e]
   exact aG rfl (aY Tryz.func15 zy rfl (.inr rfl) (pk (d+1) _ _ h _ h2 (DG<|BB f0<|BB f0<|BB f0<|BB f0<|BB f0<|BB f0<|BV f0 (tR true f0)<|TT<|CC<|ZZ) k!) k!) gm rfl
 · have ja:=Ew f0
   have ln6:=X2.2.len
   have ln7:=X3.2.len
   have J4:=fun {al ps} (k:Pk al _ ps)=>(DG<|BC f0<|BM f0 (aP 23 1 a.ar (iM _ _ bx) k!)<|BV f0 ln6<|BC f0<|BM f0 (aP 23 1 b.ar ka k!)<|BV f0 ln7<|BV f0 (kt 3 false false .i64 ((a.af.length:Nat):Int) ((b.af.length:Nat):Int))<|VV (dD (a:=some (AV.bool true)) (b:=some (AV.bool (!decide (((a.af.length:Nat):Int)=((b.af.length:Nat):Int))))) f0)<|k:Pk _ [] ps)
   rcases bu (!decide (((a.af.length:Nat):Int)=((b.af.length:Nat):Int))) with f1 | f1
   · have eB:=Eu f1
     have e:iQ a b=false:=by simp only[iQ,f0,f1,ao,ai]
     rw[e]
     exact aG rfl (aY Tryz.func15 zy rfl (.inr rfl) (pk (d+1) _ _ h _ h2 (J4<|BC f1<|ZZ) k!) k!) gm rfl
   · have eB:=Ew f1
     have R':=GY (d:=d) (h:=h) a b h.nx h1.nx X2.1 X2.2 X3.1 X3.2 X2 X3 o! a.ab.length 0 o! (dr ((AV.agg [a.au,a.ar])::(AV.agg [b.au,b.ar])::(Pt h.nx)::(Pt h1.nx)::(AV.bool false)::(Zi 0)::aL::aL::aL::aL::aL::aL::aL::(Pt h.nx)::a.au::(Zn a.ab.length)::(Pt h1.nx)::b.au::(Zn b.ab.length)::(AV.bool (!decide (((a.ab.length:Nat):Int)=((b.ab.length:Nat):Int))))::(AV.bool (!decide (((a.ab.length:Nat):Int)=((b.ab.length:Nat):Int))))::(AV.ptr h.nx 1)::a.ar::(Zn a.af.length)::(AV.ptr h1.nx 1)::b.ar::(Zn b.af.length)::(AV.bool (!decide (((a.af.length:Nat):Int)=((b.af.length:Nat):Int))))::(AV.bool (!decide (((a.af.length:Nat):Int)=((b.af.length:Nat):Int))))::iW 120)) h2 mN gm (iM _ _ bx) ka
     cases mD:gE a b a.ab.length 0 with
     | none=>
      obtain ⟨yl9,vQ,rG,gB⟩:=aC.n mD R'
      have ji:=gB.y
      have M9:h2.nx≤vQ.nx:=gB.n
      have gZ:=gm.trans gB.a
      have acT:=G5 (d:=d) (h:=h) a b h.nx h1.nx X2.1 X2.2 X3.1 X3.2 X2 X3 o! a.af.length 0 o! (dr ((yl9 0)::(yl9 1)::(Pt h.nx)::(Pt h1.nx)::rx yl9 4 5 ((Zi 0)::rx yl9 10 139 []))) vQ ji gZ (gB.a _ _ (iM _ _ bx)) (gB.a _ _ ka)
      cases ma:gW a b a.af.length 0 with
      | none=>
       obtain ⟨FA,pH,mX,dj⟩:=aC.n ma acT
       have eT:=gZ.trans dj.a
       have e:iQ a b=true:=by simp only[iQ,f0,f1,mD,ma,ao,ai]
       rw[e]
       exact aG rfl (aY Tryz.func15 zy rfl (.inr rfl) (pk (d+1) _ _ h _ pH (J4<|BC f1<|LL rG<|CC<|LL mX<|CC<|ZZ) k!) k!) eT rfl
      | some Kn=>
       obtain ⟨FA,pH,mX,dj⟩:=aC.r ma acT
       have eT:=gZ.trans dj.a
       have e:iQ a b=Kn:=by simp only[iQ,f0,f1,mD,ma,ao,ai]
       rw[e]
       exact aG rfl (aY Tryz.func15 zy rfl (.inr rfl) (pk (d+1) _ _ h _ pH (J4<|BC f1<|LL rG<|CC<|LL mX<|ZZ) k!) k!) eT rfl
     | some rr9=>
      obtain ⟨yl9,vQ,rG,gB⟩:=aC.r mD R'
      have ji:=gB.y
      have gZ:=gm.trans gB.a
      have e:iQ a b=rr9:=by simp only[iQ,f0,f1,mD,ao,ai]
      rw[e]
      exact aG rfl (aY Tryz.func15 zy rfl (.inr rfl) (pk (d+1) _ _ h _ vQ (J4<|BC f1<|LL rG<|ZZ) k!) k!) gZ rfl
structure amg (j:bP):Prop where
 nt:j.ab.length≤64
 nr:j.af.length≤16
 tk:∀i,i<j.ab.length→0≤(j.ab.g i).takes∧(j.ab.g i).takes≤100000
 nb:∀i,i<j.ab.length→∀q,q<(j.ab.g i).aD.length→0≤(j.ab.g i).aD.g q∧(j.ab.g i).aD.g q<(j.ab.length:Int)
 ub:∀i,i<j.ab.length→∀q,q<(j.ab.g i).aB.length→0≤((j.ab.g i).aB.g q).ah∧((j.ab.g i).aB.g q).ah<(j.af.length:Int)
theorem A3 {i0:Nat} {j:bP}:∀{k i:Nat} {r:Int},jE i0 j k i=some r→r≠0
 | 0,i,r,h=>by cases h
 | k+1,i,r,h=>by
  rw[jE] at h
  cases q:decide ((j.af.g i).name=(j.af.g i0).name) with
  | true=>rw[q] at h;cases h;decide
  | false=>rw[q] at h;exact A3 (k:=k) h
theorem A4 {j:bP}:∀{k i:Nat} {r:Int},gU j k i=some r→r≠0
 | 0,i,r,h=>by cases h
 | k+1,i,r,h=>by
  rw[gU] at h
  cases a:gk (j.af.g i).name with
  | false=>rw[a] at h;cases h;decide
  | true=>
   cases b:jE i j i 0 with
   | some r0=>rw[a,b] at h;cases h;exact A3 b
   | none=>
    by_cases c:b9 (j.af.g i)=0
    · rw[a,b,eV c] at h;exact A4 (k:=k) h
    · rw[a,b,fL c] at h;cases h;exact c
theorem Cc {j:bP} (h:eX j=0):amg j:=by
 unfold eX at h
 by_cases a:16<((j.af.length:Nat):Int)
 · rw[eV a] at h;cases h
 · rw[fL a] at h
   cases b:gU j j.af.length 0 with
   | some r=>rw[b] at h;exact absurd h (A4 b)
   | none=>
    rw[b] at h
    by_cases c:64<((j.ab.length:Nat):Int)
    · rw[eV c] at h;cases h
    · rw[fL c] at h
      cases e:fW j j.ab.length 0 with
      | some r=>rw[e] at h;exact absurd h (qq.2 r e)
      | none=>
       have t:=fun i (hi:i<j.ab.length)=>zi (qq.1 e i o! o!)
       exact ⟨by omega,by omega,fun i hi=>(t i hi).1,fun i hi=>(t i hi).2.1,fun i hi=>(t i hi).2.2⟩
theorem w_ {p:Prop} (h:p:=by first | omega | assumption | exact (Cc a!).nb | exact (Cc a!).ub | exact Nat.le_trans (Cc a!).nt (by decide)):p:=h
def P5:Code:=(Tryz.f16.body).getD .skip
theorem F3:Tryz.f16.body=some P5:=by kernel_rfl
def cm (j:bP) (aj:List Int):Bool×Int:=(bif (decide ((eX j)=0)) then (bif (!decide (((aj.length:Nat):Int)=((j.ab.length:Nat):Int))) then (false,1) else ((qw j aj),0)) else (false,(eX j)))
theorem aaj {d:Nat} {h:az} {aJ:AV} (j:bP) (aj:List Int) (b7:aK.ok h j) (bA:bT h .i64 3 aJ aj) (bM:Tidy h):cA (d+5) (.fn 16) [(AV.agg [j.au,j.ar]),aJ] h= .ret (AV.tuple [(AV.bool (cm j aj).1),(Zi (cm j aj).2)]) h:=by
 have oA:=bA.small
 have l7:=b7.1.small
 have l8:=b7.2.small
 obtain ⟨h1,dw,de,jW,bx,ca⟩:=gQ bM (aN.cells [j.au,j.ar] 25 false)
 have bD:=ca
 have k2:=ZE (d:=d+1) j (aK.mono bD b7) de
 have ei:=fun {al ps} (k:Pk al _ ps)=>(NN dw (fun i=>(Pt i))<|CN 2<|MM (aP 25 0 (AV.agg [j.au,j.ar]) bx k!)<|EE k2<|CN 2<|VV (Bo 31 false true .i64 (eX j) 0)<|CC<|k:Pk _ [] ps)
 rcases bu (decide ((eX j)=0)) with f0 | f0
 · have ja:=jv f0
   have RQ:=bA.len
   have ln5:=b7.1.len
   have gK:=fun {al ps} (k:Pk al _ ps)=>(ei<|BC f0<|BV f0 RQ<|BC f0<|BM f0 (aP 22 0 j.au bx k!)<|BV f0 ln5<|BV f0 (kt 3 false false .i64 ((aj.length:Nat):Int) ((j.ab.length:Nat):Int))<|VV (tp (!decide (((aj.length:Nat):Int)=((j.ab.length:Nat):Int))) false f0)<|k:Pk _ [] ps)
   rcases bu (!decide (((aj.length:Nat):Int)=((j.ab.length:Nat):Int))) with f1 | f1
   · have eB:=Eu f1
     have e:cm j aj=(false,1):=by simp only[cm,f0,f1,ao,ai]
     rw[e]
     exact aG rfl (aY Tryz.func16 F3 rfl (.inr rfl) (pk (d+4) _ _ h _ h1 (gK<|BB f1<|CN 3<|TT<|CN 3<|ZZ) k!) k!) bD rfl
   · have eB:=Ew f1
     have q7:(!decide ((eX j)=0))=false:=d!
     have k8:=ZQ (d:=d) j aj (aK.mono bD b7) (bA.has bD) w_ w_ w_ w_ de
     have e:cm j aj=((qw j aj),0):=by simp only[cm,f0,f1,ao,ai]
     rw[e]
     exact aG rfl (aY Tryz.func16 F3 rfl (.inr rfl) (pk (d+4) _ _ h _ h1 (gK<|BC f1<|VV (kt 31 false true .i64 (eX j) 0)<|BM q7 (aP 25 0 (AV.agg [j.au,j.ar]) bx k!)<|CC<|EE k8<|CN 2<|ZZ) k!) k!) bD rfl
 · have q4:(!decide ((eX j)=0))=true:=d!
   have e:cm j aj=(false,(eX j)):=by simp only[cm,f0,ao,ai]
   rw[e]
   exact aG rfl (aY Tryz.func16 F3 rfl (.inr rfl) (pk (d+4) _ _ h _ h1 (ei<|BB f0<|BB f0<|BB f0<|BB f0<|BB f0<|BV f0 (vd false f0)<|FF<|CC<|VV (kt 31 false true .i64 (eX j) 0)<|BB q4<|CN 3<|ZZ) k!) k!) bD rfl
theorem ae1 {j:bP} {b:Bool} (h:(bif (iI j 8) then true else b)=false):j.ab.length≤19∨64<j.ab.length:=by
 cases a:iI j 8 with
 | true=>rw[a] at h;cases h
 | false=>
  by_cases c:j.ab.length≤19
  · exact .inl c
  · refine .inr (Nat.lt_of_not_le fun d=>?_)
    rw[iI,eV (by omega:(8:Int)<((j.ab.length:Nat):Int)),eV (by omega:((j.ab.length:Nat):Int)≤64)] at a
    cases a
theorem aak {j:bP} {s:List Int} {c:Bool} (h:(bif (!decide ((cm j s).2=0)) then true else (bif (!((cm j s).1)) then true else c))=false):s.length=j.ab.length:=by
 by_cases a:(cm j s).2=0
 · rw[cm] at a
   by_cases x:eX j=0
   · by_cases y:((s.length:Nat):Int)=((j.ab.length:Nat):Int)
     · omega
     · rw[eV x,fL y] at a;cases a
   · rw[fL x] at a;exact absurd a x
 · rw[fL a] at h;cases h
theorem VX {α:Type} [aK α] {h:az} {v:AV} {l:List α} (x:aO h v l):v.cells=[v]:=by
 rcases x.known with rfl | rfl | ⟨p,o,m,c,b,rfl,_⟩<;>rfl
theorem aal (n:Nat):∃e:az,e.nx=n∧∀k,e.get k=none:=⟨⟨HT.nil,n,fun _=>none⟩,rfl,fun k=>Go.Ab.zL k n⟩
section
variable {a a' b:bP} (ht:a.ab=a'.ab) (hr:a.af=a'.af)
include ht in
theorem S6 {i0:Nat}:∀k i,jZ a i0 b k i=jZ a' i0 b k i
 | 0,i=>rfl
 | k+1,i=>by rw[jZ,jZ,ht,S6 k]
include ht in
theorem S7:∀k i,gE a b k i=gE a' b k i
 | 0,i=>rfl
 | k+1,i=>by rw[gE,gE,S6 ht,S7 k,ht]
include hr in
theorem S8 {i0:Nat}:∀k i,j0 a i0 b k i=j0 a' i0 b k i
 | 0,i=>rfl
 | k+1,i=>by rw[j0,j0,hr,S8 k]
include hr in
theorem S9:∀k i,gW a b k i=gW a' b k i
 | 0,i=>rfl
 | k+1,i=>by rw[gW,gW,S8 hr,S9 k,hr]
include ht hr in
theorem amh:iQ a b=iQ a' b:=by
 rw[iQ,iQ,S7 ht,S9 hr,ht,hr]
end
theorem Has.ae2 {g h h':az} {p:Nat} (a:Has g h) (kp:∀b w,b≠p→h.get b=some w→h'.get b=some w) (y:Tidy g) (hp:g.nx≤p):Has g h':=fun i w e=>by
 have:=y _ _ e
 exact kp _ _ o! (a _ _ e)
theorem ae3 (a b:bP):iQ a b=iQ ⟨.aw,a.ab,.aw,a.af⟩ b:=amh rfl rfl
end
end Go.Proofs.aM
