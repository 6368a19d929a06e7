import Derived.Test.YtijehnelcbdlgaaGreatW0
import Derived.Test.YtijehnelcbdlgaaGreatW1
import Derived.Test.YtijehnelcbdlgaaGreatW16
import Derived.Test.YtijehnelcbdlgaaGreatW17
import Derived.Test.YtijehnelcbdlgaaGreatW13
namespace Go.Proofs.aM
open Go.Proofs Ab
noncomputable section
set_option maxRecDepth 100000
set_option maxHeartbeats 4000000
set_option linter.unusedVariables false
set_option linter.unusedSimpArgs false
theorem th {p:Prop} (h:p:=by first | omega | (simp only[List.length_set,List.length_append,List.length_nil,List.nil_append];omega)):p:=h
theorem pF {p:Prop} (h:p:=by first | omega | (simp<;>omega)):p:=h
def eR:Code:=(Tryz.f5.body).getD .skip
theorem kD:Tryz.f5.body=some eR:=by kernel_rfl
def Hy:Code:=(bl eR).getD 0 .skip
def Hz:Code:=(bl eR).getD 1 .skip
def HA:Code:=(bl eR).getD 2 .skip
def HB:Code:=(bl eR).getD 3 .skip
def HC:Code:=(kT eR).getD 1 .skip
def HD:Code:=(kT eR).getD 5 .skip
def HE:Code:=(kT eR).getD 7 .skip
def F4:Code:=(kT eR).getD 19 .skip
def F5:Code:=(kT eR).getD 31 .skip
def iA (j:bP) (i0:Nat) (ah:Int):Nat→Nat→Bool→Bool
 | 0,_,vJ=>vJ
 | nK+1,i1,vJ=>iA j i0 ah nK (i1+1) (bif vJ then true else (decide (((j.ab.g i0).aB.g i1).ah=ah)))
theorem vK {d:Nat} {h:az} (aJ:AV) (now:Int) (ah:Int) (bn:Int) (uS:AV) (i0:Nat) (j:bP) (j2:bP) (aj:List Int) (s2:List Int) (b6:Nat) (dv:Nat) (eP:bT h .i64 3 aJ aj) (dW:aO h j.au j.ab) (mr:aO h j.ar j.af) (mW:aO h j2.au j2.ab) (BS:aO h j2.ar j2.af) (LO:bT h .i64 3 uS s2) (mQ:aK.ok h j) (C4:aK.ok h j2) (yH:i0<j.ab.length):∀(k_ i_:Nat) (vJ:Bool) (_:i_+k_=((j.ab.g i0).aB.length)) (x:Nat→AV) (hh:az) (aF:Tidy hh) (aA:Has h hh) (cz:hh.get b6=some (aN.cells [j.au,j.ar] 25 false)) (d_:hh.get dv=some (aN.cells [j2.au,j2.ar] 25 false)),cr (cA (d+16)) Hz ⟨((x 0)::aJ::(Zi now)::(Zi ah)::(Zi bn)::(Pt b6)::rx x 6 5 ((Pt dv)::uS::rx x 13 4 ((Zn i0)::(AV.bool vJ)::(Zn i_)::rx x 20 207 []))),hh,[],.no⟩ (.exit 2) hh (fun r y=>((y 0)::aJ::(Zi now)::(Zi ah)::(Zi bn)::(Pt b6)::rx y 6 5 ((Pt dv)::uS::rx y 13 4 ((Zn i0)::(AV.bool r)::rx y 19 208 [])))) (fun r=>True) (iA j i0 ah k_ i_ vJ)
 | 0,i1,vJ,eZ,x,hh,aF,aA,cz,d_=>by
  obtain ⟨p2,q3,ix1⟩:=(dW.has aA).elem (i:=i0) o!
  have ld4:=(dW.has aA).part (t:=46) (j:=3) o! ix1 k! rfl
  have ln5:=(((dW.has aA).ok (i:=i0) o!).2.2).len
  have q6:(decide (((i1:Nat):Int)<(((j.ab.g i0).aB.length:Nat):Int)))=false:=d!
  exact cr.out vJ rfl (pk (d+16) _ _ hh _ hh (CN 2<|MM (aP 22 0 j.au cz k!)<|CC<|VV ix1<|CC<|MM ld4<|VV ln5<|VV (bE 3 false false .i64 ((i1:Nat):Int) (((j.ab.g i0).aB.length:Nat):Int))<|BB q6<|ZZ) k!) (Grow.refl aF) trivial k!
 | nK+1,i1,vJ,eZ,x,hh,aF,aA,cz,d_=>by
  have pV:=eP.small
  have rC:=dW.small
  have Fx:=mr.small
  have UU:=mW.small
  have adm:=BS.small
  have acR:=LO.small
  have E2:=aF _ _ cz
  have Oo:=aF _ _ d_
  have sm_:=(dW.ok (i:=i0) o!).2.2.small
  obtain ⟨p2,q3,ix1⟩:=(dW.has aA).elem (i:=i0) o!
  have ld4:=(dW.has aA).part (t:=46) (j:=3) o! ix1 k! rfl
  have ln5:=(((dW.has aA).ok (i:=i0) o!).2.2).len
  have q6:(decide (((i1:Nat):Int)<(((j.ab.g i0).aB.length:Nat):Int)))=true:=d!
  obtain ⟨yj7,ami⟩:∃yj7:Nat→AV,Ev env (cA (d+16)) F4 ⟨((x 0)::aJ::(Zi now)::(Zi ah)::(Zi bn)::(Pt b6)::rx x 6 5 ((Pt dv)::uS::rx x 13 4 ((Zn i0)::(AV.bool vJ)::(Zn i1)::rx x 20 86 ((Zn i1)::(Pt b6)::j.au::(Zn i0)::(AV.ptr p2 q3)::(AV.ptr p2 (q3+3))::((j.ab.g i0).bo)::(Zn (j.ab.g i0).aB.length)::(AV.bool (decide (((i1:Nat):Int)<(((j.ab.g i0).aB.length:Nat):Int))))::rx x 115 112 [])))),hh,[],.no⟩ .normal ⟨((x 0)::aJ::(Zi now)::(Zi ah)::(Zi bn)::(Pt b6)::rx x 6 5 ((Pt dv)::uS::rx x 13 4 ((Zn i0)::(AV.bool (bif vJ then true else (decide (((j.ab.g i0).aB.g i1).ah=ah))))::(Zn i1)::rx x 20 86 ((Zn i1)::(Pt b6)::j.au::(Zn i0)::(AV.ptr p2 q3)::(AV.ptr p2 (q3+3))::((j.ab.g i0).bo)::(Zn (j.ab.g i0).aB.length)::(AV.bool (decide (((i1:Nat):Int)<(((j.ab.g i0).aB.length:Nat):Int))))::(x 115)::(x 116)::rx yj7 117 15 (rx x 132 95 []))))),hh,[],.no⟩:=by
   rcases bu vJ with f0 | f0
   · rw[EX f0]
     exact j9 (pk (d+16) _ _ hh _ hh (CN 2<|BB f0<|BB f0<|BB f0<|BB f0<|BB f0<|BB f0<|BB f0<|BB f0<|BB f0<|BB f0<|BB f0<|BV f0 (tR true f0)<|CC<|ZZ) k!) k!
   · obtain ⟨p9,uL,GB⟩:=(dW.has aA).elem (i:=i0) o!
     have tG:=(dW.has aA).part (t:=46) (j:=3) o! GB k! rfl
     obtain ⟨p13,q14,Ls⟩:=(((dW.has aA).ok (i:=i0) o!).2.2).elem (i:=i1) o!
     have agG:=(((dW.has aA).ok (i:=i0) o!).2.2).part (t:=3) (j:=0) o! Ls k! rfl
     rw[Et f0]
     exact j9 (pk (d+16) _ _ hh _ hh (CN 2<|BC f0<|BM f0 (aP 22 0 j.au cz k!)<|BC f0<|BV f0 GB<|BC f0<|BM f0 tG<|BC f0<|BV f0 Ls<|BC f0<|BM f0 agG<|BC f0<|BV f0 (Bo 3 false false .i64 ((j.ab.g i0).aB.g i1).ah ah)<|VV (dD (a:=some (AV.bool true)) (b:=some (AV.bool (decide (((j.ab.g i0).aB.g i1).ah=ah)))) f0)<|CC<|ZZ) k!) k!
  have u8:=eA 3 false true i1 1 o!
  exact cr.round (by simp only[iA,ao,ai]) (pk (d+16) _ _ hh _ hh (CN 2<|MM (aP 22 0 j.au cz k!)<|CC<|VV ix1<|CC<|MM ld4<|VV ln5<|VV (bE 3 false false .i64 ((i1:Nat):Int) (((j.ab.g i0).aB.length:Nat):Int))<|BB q6<|LL ami<|CC<|VV u8<|CC<|ZZ) k!) (Grow.refl aF) _ k! (fun x=>vK aJ now ah bn uS i0 j j2 aj s2 b6 dv eP dW mr mW BS LO mQ C4 yH nK (i1+1) (bif vJ then true else (decide (((j.ab.g i0).aB.g i1).ah=ah))) o! x hh aF aA cz d_)
def cT (j:bP) (aj:List Int) (now:Int) (ah:Int) (s2:List Int):Nat→Nat→Option (Bool)
 | 0,_=>none
 | dx+1,i0=>(bif (decide ((aj.g i0)<now)) then (bif (!(iA j i0 ah (j.ab.g i0).aB.length 0 false)) then (bif (!decide ((s2.g i0)=(aj.g i0))) then some false else cT j aj now ah s2 dx (i0+1)) else (bif (decide ((IntKind.i64.wrap ((aj.g i0)+((j.ab.g i0).takes)))≤now)) then (bif (!decide ((s2.g i0)=(aj.g i0))) then some false else cT j aj now ah s2 dx (i0+1)) else (bif (decide ((s2.g i0)<now)) then some false else cT j aj now ah s2 dx (i0+1)))) else (bif (decide ((s2.g i0)<now)) then some false else cT j aj now ah s2 dx (i0+1)))
theorem lh {d:Nat} {h:az} (aJ:AV) (now:Int) (ah:Int) (bn:Int) (uS:AV) (j:bP) (j2:bP) (aj:List Int) (s2:List Int) (bj:Nat) (cg:Nat) (bp:bT h .i64 3 aJ aj) (cC:aO h j.au j.ab) (dq:aO h j.ar j.af) (lG:aO h j2.au j2.ab) (wy:aO h j2.ar j2.af) (tH:bT h .i64 3 uS s2) (fI:aK.ok h j) (xW:aK.ok h j2) (fU:aj.length=j.ab.length) (iB:s2.length=j.ab.length):∀(k_ i_:Nat) (_:i_+k_=j.ab.length) (x:Nat→AV) (hh:az) (aF:Tidy hh) (aA:Has h hh) (br:hh.get bj=some (aN.cells [j.au,j.ar] 25 false)) (dA:hh.get cg=some (aN.cells [j2.au,j2.ar] 25 false)),aC (cA (d+16)) Hy ⟨((x 0)::aJ::(Zi now)::(Zi ah)::(Zi bn)::(Pt bj)::rx x 6 5 ((Pt cg)::uS::rx x 13 4 ((Zn i_)::rx x 18 209 []))),hh,[],.no⟩ (.exit 0) hh (fun y=>((y 0)::aJ::(Zi now)::(Zi ah)::(Zi bn)::(Pt bj)::rx y 6 5 ((Pt cg)::uS::rx y 13 214 []))) (fun r y=>((y 0)::aJ::(Zi now)::(Zi ah)::(Zi bn)::(Pt bj)::rx y 6 4 ((AV.bool r)::(Pt cg)::uS::rx y 13 214 []))) (cT j aj now ah s2 k_ i_)
 | 0,i0,eZ,x,hh,aF,aA,br,dA=>by
  have gd:=(cC.has aA).len
  have q2:(decide (((i0:Nat):Int)<((j.ab.length:Nat):Int)))=false:=d!
  exact aC.out rfl (pk (d+16) _ _ hh _ hh (CN 2<|MM (aP 22 0 j.au br k!)<|VV gd<|VV (bE 3 false false .i64 ((i0:Nat):Int) ((j.ab.length:Nat):Int))<|BB q2<|ZZ) k!) (Grow.refl aF) k!
 | dx+1,i0,eZ,x,hh,aF,aA,br,dA=>by
  have gN:=bp.small
  have mw:=cC.small
  have sX:=dq.small
  have JW:=lG.small
  have Uk:=wy.small
  have akv:=tH.small
  have tD:=aF _ _ br
  have Lr:=aF _ _ dA
  have gd:=(cC.has aA).len
  have q2:(decide (((i0:Nat):Int)<((j.ab.length:Nat):Int)))=true:=d!
  obtain ⟨MR,h4,jX,fV,wC⟩:=vK (d:=d) (h:=hh) aJ now ah bn uS i0 j j2 aj s2 bj cg (bp.has aA) (cC.has aA) (dq.has aA) (lG.has aA) (wy.has aA) (tH.has aA) (aK.mono aA fI) (aK.mono aA xW) o! (j.ab.g i0).aB.length 0 false o! (dr ((x 0)::aJ::(Zi now)::(Zi ah)::(Zi bn)::(Pt bj)::rx x 6 5 ((Pt cg)::uS::rx x 13 4 ((Zn i0)::(AV.bool false)::(Zi 0)::rx x 20 79 ((Zn i0)::(Pt bj)::j.au::(Zn j.ab.length)::(AV.bool (decide (((i0:Nat):Int)<((j.ab.length:Nat):Int))))::rx x 104 123 []))))) hh aF (Has.refl _) br dA
  have ij:=fV.y
  have UD:hh.nx≤h4.nx:=fV.n
  have fq:=fV.a
  obtain ⟨p6,q7,Rz,_⟩:=(bp.has aA).elem (i:=i0) o!
  have ld8:=((bp.has aA).has fq).load o! Rz
  have ei:=fun {al ps} (k:Pk al _ ps)=>(CN 2<|MM (aP 22 0 j.au br k!)<|VV gd<|VV (bE 3 false false .i64 ((i0:Nat):Int) ((j.ab.length:Nat):Int))<|BB q2<|CN 2<|LL jX<|CN 2<|VV Rz<|MM ld8<|CC<|VV (bE 3 false false .i64 (aj.g i0) now)<|CC<|k:Pk _ [] ps)
  rcases bu (decide ((aj.g i0)<now)) with f1 | f1
  · have eB:=jv f1
    have gK:=fun {al ps} (k:Pk al _ ps)=>(ei<|BC f1<|BC f1<|BC f1<|k:Pk _ [] ps)
    rcases bu (!(iA j i0 ah (j.ab.g i0).aB.length 0 false)) with f2 | f2
    · obtain ⟨p12,q13,sa,_⟩:=(tH.has aA).elem (i:=i0) o!
      have rE:=((tH.has aA).has fq).load o! sa
      obtain ⟨p16,q17,PA,_⟩:=(bp.has aA).elem (i:=i0) o!
      have SX:=((bp.has aA).has fq).load o! PA
      have n9:=fun {al ps} (k:Pk al _ ps)=>(gK<|BB f2<|BB f2<|BB f2<|BB f2<|BB f2<|BB f2<|BB f2<|BB f2<|BB f2<|BB f2<|BB f2<|BB f2<|BB f2<|BV f1 (tR true f2)<|VV (tp true false f1)<|CC<|HH ld8<|HH (show AV.same 20 (Zi (aj.g i0)) (Zi (aj.g i0))=true from aS 19 _ _)<|CN 2<|TT<|CC<|TT<|CC<|TT<|VV sa<|TT<|MM rE<|TT<|CC<|TT<|CC<|TT<|VV PA<|TT<|MM SX<|TT<|VV (kt 3 false false .i64 (s2.g i0) (aj.g i0))<|CN 2<|k:Pk _ [] ps)
      rcases bu (!decide ((s2.g i0)=(aj.g i0))) with f3 | f3
      · have tF:=Eu f3
        exact aC.ret false (by simp only[cT,f1,f2,f3,ao,ai]) (pk (d+16) _ _ hh _ h4 (n9<|BB f3<|BB f3<|BB f3<|BV f3 (tR true f3)<|HH rE<|HH (show AV.same 20 (Zi (s2.g i0)) (Zi (s2.g i0))=true from aS 19 _ _)<|HH SX<|HH (show AV.same 20 (Zi (aj.g i0)) (Zi (aj.g i0))=true from aS 19 _ _)<|TT<|CC<|ZZ) k!) (⟨ij,fq,by omega⟩) k!
      · have tF:=Ew f3
        have u20:=eA 3 false true i0 1 o!
        exact aC.round (by simp only[cT,f1,f2,f3,ao,ai]) (pk (d+16) _ _ hh _ h4 (n9<|BC f3<|BC f3<|BC f3<|FF<|FF<|FF<|FF<|FF<|FF<|BC f3<|VV (pcf true false f3)<|HH rE<|HH (show AV.same 20 (Zi (s2.g i0)) (Zi (s2.g i0))=true from aS 19 _ _)<|HH SX<|HH (show AV.same 20 (Zi (aj.g i0)) (Zi (aj.g i0))=true from aS 19 _ _)<|FF<|CC<|VV u20<|CC<|ZZ) k!) (⟨ij,fq,by omega⟩) _ k! (fun x=>lh aJ now ah bn uS j j2 aj s2 bj cg bp cC dq lG wy tH fI xW fU iB dx (i0+1) o! x h4 ij (aA.trans fq) (fV.a _ _ br) (fV.a _ _ dA))
    · obtain ⟨p12,q13,sa,_⟩:=(bp.has aA).elem (i:=i0) o!
      have rE:=((bp.has aA).has fq).load o! sa
      obtain ⟨p16,q17,PA⟩:=(cC.has aA).elem (i:=i0) o!
      have SX:=((cC.has aA).has fq).part (t:=3) (j:=1) o! PA k! rfl
      have c19:=(cC.has aA).same 19
      have s5:=fun {al ps} (k:Pk al _ ps)=>(gK<|BC f2<|BC f2<|BV f2 sa<|BM f2 rE<|BC f2<|BM f2 (aP 22 0 j.au (fV.a _ _ br) k!)<|BC f2<|BV f2 PA<|BC f2<|BM f2 SX<|BC f2<|BC f2<|BV f2 (tx 3 false false .i64 (IntKind.i64.wrap ((aj.g i0)+((j.ab.g i0).takes))) now)<|BV f1 (dD (a:=some (AV.bool true)) (b:=some (AV.bool (decide ((IntKind.i64.wrap ((aj.g i0)+((j.ab.g i0).takes)))≤now)))) f2)<|VV (tp (decide ((IntKind.i64.wrap ((aj.g i0)+((j.ab.g i0).takes)))≤now)) false f1)<|CC<|HH ld8<|HH (show AV.same 20 (Zi (aj.g i0)) (Zi (aj.g i0))=true from aS 19 _ _)<|HH rE<|HH (show AV.same 20 (Zi (aj.g i0)) (Zi (aj.g i0))=true from aS 19 _ _)<|HH (aP 22 0 j.au (fV.a _ _ br) k!)<|HH c19<|HH SX<|HH (show AV.same 20 (Zi (j.ab.g i0).takes) (Zi (j.ab.g i0).takes)=true from aS 19 _ _)<|CN 2<|k:Pk _ [] ps)
      rcases bu (decide ((IntKind.i64.wrap ((aj.g i0)+((j.ab.g i0).takes)))≤now)) with f3 | f3
      · have tF:=jv f3
        obtain ⟨p22,q23,apL,_⟩:=(tH.has aA).elem (i:=i0) o!
        have amj:=((tH.has aA).has fq).load o! apL
        obtain ⟨p26,q27,apM,_⟩:=(bp.has aA).elem (i:=i0) o!
        have amk:=((bp.has aA).has fq).load o! apM
        have vR:=fun {al ps} (k:Pk al _ ps)=>(s5<|BC f3<|BC f3<|BV f3 apL<|BM f3 amj<|BC f3<|BC f3<|BV f3 apM<|BM f3 amk<|BV f3 (kt 3 false false .i64 (s2.g i0) (aj.g i0))<|VV (tp (!decide ((s2.g i0)=(aj.g i0))) false f3)<|CC<|k:Pk _ [] ps)
        rcases bu (!decide ((s2.g i0)=(aj.g i0))) with f4 | f4
        · have J2:=Eu f4
          exact aC.ret false (by simp only[cT,f1,f2,f3,f4,ao,ai]) (pk (d+16) _ _ hh _ h4 (vR<|BB f4<|BB f4<|BB f4<|BV f4 (tR true f4)<|HH amj<|HH (show AV.same 20 (Zi (s2.g i0)) (Zi (s2.g i0))=true from aS 19 _ _)<|HH amk<|HH (show AV.same 20 (Zi (aj.g i0)) (Zi (aj.g i0))=true from aS 19 _ _)<|TT<|CC<|ZZ) k!) (⟨ij,fq,by omega⟩) k!
        · have J2:=Ew f4
          have q30:(!(decide ((IntKind.i64.wrap ((aj.g i0)+((j.ab.g i0).takes)))≤now)))=false:=d!
          have u31:=eA 3 false true i0 1 o!
          exact aC.round (by simp only[cT,f1,f2,f3,f4,ao,ai]) (pk (d+16) _ _ hh _ h4 (vR<|BC f4<|BC f4<|BC f4<|BB q30<|BB q30<|BB q30<|BB q30<|BB q30<|BB q30<|BV f4 (vd false q30)<|VV (pcf true false f4)<|HH amj<|HH (show AV.same 20 (Zi (s2.g i0)) (Zi (s2.g i0))=true from aS 19 _ _)<|HH amk<|HH (show AV.same 20 (Zi (aj.g i0)) (Zi (aj.g i0))=true from aS 19 _ _)<|FF<|CC<|VV u31<|CC<|ZZ) k!) (⟨ij,fq,by omega⟩) _ k! (fun x=>lh aJ now ah bn uS j j2 aj s2 bj cg bp cC dq lG wy tH fI xW fU iB dx (i0+1) o! x h4 ij (aA.trans fq) (fV.a _ _ br) (fV.a _ _ dA))
      · have tF:=pK f3
        have q21:(!(decide ((IntKind.i64.wrap ((aj.g i0)+((j.ab.g i0).takes)))≤now)))=true:=d!
        obtain ⟨p23,q24,UT,_⟩:=(tH.has aA).elem (i:=i0) o!
        have R9:=((tH.has aA).has fq).load o! UT
        have Fw:=fun {al ps} (k:Pk al _ ps)=>(s5<|BB f3<|BB f3<|BB f3<|BB f3<|BB f3<|BB f3<|BB f3<|BB f3<|BV f3 (vd false f3)<|CC<|FF<|CC<|FF<|CC<|FF<|CC<|BC q21<|BC q21<|BV q21 UT<|BM q21 R9<|BC q21<|BV q21 (bE 3 false false .i64 (s2.g i0) now)<|FF<|VV (tp (decide ((s2.g i0)<now)) false q21)<|CC<|HH R9<|HH (show AV.same 20 (Zi (s2.g i0)) (Zi (s2.g i0))=true from aS 19 _ _)<|k:Pk _ [] ps)
        rcases bu (decide ((s2.g i0)<now)) with f4 | f4
        · have J2:=jv f4
          exact aC.ret false (by simp only[cT,f1,f2,f3,f4,ao,ai]) (pk (d+16) _ _ hh _ h4 (Fw<|BC f4<|ZZ) k!) (⟨ij,fq,by omega⟩) k!
        · have J2:=pK f4
          have u27:=eA 3 false true i0 1 o!
          exact aC.round (by simp only[cT,f1,f2,f3,f4,ao,ai]) (pk (d+16) _ _ hh _ h4 (Fw<|BC f4<|VV u27<|CC<|ZZ) k!) (⟨ij,fq,by omega⟩) _ k! (fun x=>lh aJ now ah bn uS j j2 aj s2 bj cg bp cC dq lG wy tH fI xW fU iB dx (i0+1) o! x h4 ij (aA.trans fq) (fV.a _ _ br) (fV.a _ _ dA))
  · have eB:=pK f1
    obtain ⟨p11,q12,Rx,_⟩:=(tH.has aA).elem (i:=i0) o!
    have ack:=((tH.has aA).has fq).load o! Rx
    have Ex:=fun {al ps} (k:Pk al _ ps)=>(ei<|BB f1<|BB f1<|BB f1<|BV f1 (vd false f1)<|CC<|HH ld8<|HH (show AV.same 20 (Zi (aj.g i0)) (Zi (aj.g i0))=true from aS 19 _ _)<|CN 2<|FF<|FF<|FF<|FF<|FF<|FF<|FF<|FF<|FF<|CN 2<|FF<|CC<|FF<|CC<|FF<|CC<|TT<|CC<|TT<|CC<|TT<|VV Rx<|TT<|MM ack<|TT<|CC<|TT<|VV (bE 3 false false .i64 (s2.g i0) now)<|FF<|CN 2<|HH ack<|HH (show AV.same 20 (Zi (s2.g i0)) (Zi (s2.g i0))=true from aS 19 _ _)<|k:Pk _ [] ps)
    rcases bu (decide ((s2.g i0)<now)) with f2 | f2
    · have pX:=jv f2
      exact aC.ret false (by simp only[cT,f1,f2,ao,ai]) (pk (d+16) _ _ hh _ h4 (Ex<|BC f2<|ZZ) k!) (⟨ij,fq,by omega⟩) k!
    · have pX:=pK f2
      have u15:=eA 3 false true i0 1 o!
      exact aC.round (by simp only[cT,f1,f2,ao,ai]) (pk (d+16) _ _ hh _ h4 (Ex<|BC f2<|VV u15<|CC<|ZZ) k!) (⟨ij,fq,by omega⟩) _ k! (fun x=>lh aJ now ah bn uS j j2 aj s2 bj cg bp cC dq lG wy tH fI xW fU iB dx (i0+1) o! x h4 ij (aA.trans fq) (fV.a _ _ br) (fV.a _ _ dA))
def gC (j2:bP) (ah:Int) (eJ:Int):Nat→Nat→Bool→Bool
 | 0,_,vL=>vL
 | DF+1,i3,vL=>gC j2 ah eJ DF (i3+1) (bif vL then true else (bif (decide (((j2.af.g ah.toNat).off.g i3).a8≤eJ)) then (decide (eJ≤(((j2.af.g ah.toNat).off.g i3).aQ))) else false))
theorem vM {d:Nat} {h:az} (now:Int) (bn:Int) (j2:bP) (ah:Int) (eJ:Int) (lP:aO h (j2.af.g ah.toNat).cJ (j2.af.g ah.toNat).off) (BR:aK.ok h j2) (LN:aK.ok h (j2.af.g ah.toNat)):∀(k_ i_:Nat) (vL:Bool) (_:i_+k_=((j2.af.g ah.toNat).off.length)) (x:Nat→AV) (hh:az) (aF:Tidy hh) (aA:Has h hh),cr (cA (d+16)) HB ⟨((x 0)::(x 1)::(Zi now)::(x 3)::(Zi bn)::rx x 5 16 (((j2.af.g ah.toNat).cJ)::(Zi eJ)::(AV.bool vL)::(Zn i_)::rx x 25 202 [])),hh,[],.no⟩ (.exit 6) hh (fun r y=>((y 0)::(y 1)::(Zi now)::(y 3)::(Zi bn)::rx y 5 16 (((j2.af.g ah.toNat).cJ)::(Zi eJ)::(AV.bool r)::rx y 24 203 []))) (fun r=>True) (gC j2 ah eJ k_ i_ vL)
 | 0,i3,vL,eZ,x,hh,aF,aA=>by
  have gd:=(lP.has aA).len
  have q2:(decide (((i3:Nat):Int)<(((j2.af.g ah.toNat).off.length:Nat):Int)))=false:=d!
  exact cr.out vL rfl (pk (d+16) _ _ hh _ hh (CN 2<|VV gd<|VV (bE 3 false false .i64 ((i3:Nat):Int) (((j2.af.g ah.toNat).off.length:Nat):Int))<|BB q2<|ZZ) k!) (Grow.refl aF) trivial k!
 | DF+1,i3,vL,eZ,x,hh,aF,aA=>by
  have J1:=lP.small
  have gd:=(lP.has aA).len
  have q2:(decide (((i3:Nat):Int)<(((j2.af.g ah.toNat).off.length:Nat):Int)))=true:=d!
  obtain ⟨yj3,Us⟩:∃yj3:Nat→AV,Ev env (cA (d+16)) F5 ⟨((x 0)::(x 1)::(Zi now)::(x 3)::(Zi bn)::rx x 5 16 (((j2.af.g ah.toNat).cJ)::(Zi eJ)::(AV.bool vL)::(Zn i3)::rx x 25 174 ((Zn i3)::((j2.af.g ah.toNat).cJ)::(Zn (j2.af.g ah.toNat).off.length)::(AV.bool (decide (((i3:Nat):Int)<(((j2.af.g ah.toNat).off.length:Nat):Int))))::rx x 203 24 []))),hh,[],.no⟩ .normal ⟨((x 0)::(x 1)::(Zi now)::(x 3)::(Zi bn)::rx x 5 16 (((j2.af.g ah.toNat).cJ)::(Zi eJ)::(AV.bool (bif vL then true else (bif (decide (((j2.af.g ah.toNat).off.g i3).a8≤eJ)) then (decide (eJ≤(((j2.af.g ah.toNat).off.g i3).aQ))) else false)))::(Zn i3)::rx x 25 174 ((Zn i3)::((j2.af.g ah.toNat).cJ)::(Zn (j2.af.g ah.toNat).off.length)::(AV.bool (decide (((i3:Nat):Int)<(((j2.af.g ah.toNat).off.length:Nat):Int))))::(x 203)::(x 204)::rx yj3 205 19 (rx x 224 3 [])))),hh,[],.no⟩:=by
   rcases bu vL with f0 | f0
   · rw[EX f0]
     exact j9 (pk (d+16) _ _ hh _ hh (CN 2<|BB f0<|BB f0<|BB f0<|BB f0<|BB f0<|BB f0<|BB f0<|BB f0<|BV f0 (tR true f0)<|CC<|ZZ) k!) k!
   · obtain ⟨p5,q6,T5⟩:=(lP.has aA).elem (i:=i3) o!
     have Tf:=(lP.has aA).part (t:=3) (j:=0) o! T5 k! rfl
     have Hp:=fun {al ps} (k:Pk al _ ps)=>(CN 2<|BC f0<|BC f0<|BV f0 T5<|BC f0<|BM f0 Tf<|BC f0<|BV f0 (tx 3 false false .i64 ((j2.af.g ah.toNat).off.g i3).a8 eJ)<|BC f0<|k:Pk _ [] ps)
     rcases bu (decide (((j2.af.g ah.toNat).off.g i3).a8≤eJ)) with f1 | f1
     · have eB:=jv f1
       obtain ⟨p10,q11,ix9⟩:=(lP.has aA).elem (i:=i3) o!
       have Bs:=(lP.has aA).part (t:=3) (j:=1) o! ix9 k! rfl
       rw[Et f0,EX f1]
       exact j9 (pk (d+16) _ _ hh _ hh (Hp<|BC f1<|BC f1<|BC f1<|BV f1 ix9<|BC f1<|BM f1 Bs<|BV f1 (tx 3 false false .i64 eJ ((j2.af.g ah.toNat).off.g i3).aQ)<|BV f0 (tp (decide (eJ≤(((j2.af.g ah.toNat).off.g i3).aQ))) false f1)<|VV (dD (a:=some (AV.bool true)) (b:=some (AV.bool (decide (eJ≤(((j2.af.g ah.toNat).off.g i3).aQ))))) f0)<|CC<|ZZ) k!) k!
     · have eB:=pK f1
       rw[Et f0,Et f1]
       exact j9 (pk (d+16) _ _ hh _ hh (Hp<|BB f1<|BB f1<|BB f1<|BB f1<|BB f1<|BB f1<|BB f1<|BV f0 (vd false f1)<|VV (pcf true false f0)<|CC<|ZZ) k!) k!
  have u4:=eA 3 false true i3 1 o!
  exact cr.round (by simp only[gC,ao,ai]) (pk (d+16) _ _ hh _ hh (CN 2<|VV gd<|VV (bE 3 false false .i64 ((i3:Nat):Int) (((j2.af.g ah.toNat).off.length:Nat):Int))<|BB q2<|LL Us<|CC<|VV u4<|CC<|ZZ) k!) (Grow.refl aF) _ k! (fun x=>vM now bn j2 ah eJ lP BR LN DF (i3+1) (bif vL then true else (bif (decide (((j2.af.g ah.toNat).off.g i3).a8≤eJ)) then (decide (eJ≤(((j2.af.g ah.toNat).off.g i3).aQ))) else false)) o! x hh aF aA)
def fR (bn:Int) (now:Int) (j2:bP) (ah:Int):Nat→Int→Option (Bool)
 | 0,eJ=>none
 | DD+1,eJ=>(bif (decide (eJ≤bn)) then (bif (decide (eJ<(now+200))) then (bif (!(gC j2 ah eJ (j2.af.g ah.toNat).off.length 0 false)) then some false else fR bn now j2 ah DD (eJ+1)) else none) else none)
theorem vN {d:Nat} {h:az} (now:Int) (bn:Int) (j2:bP) (ah:Int) (ky:aO h (j2.af.g ah.toNat).cJ (j2.af.g ah.toNat).off) (uM:aK.ok h j2) (BQ:aK.ok h (j2.af.g ah.toNat)) (Hl:bn≤100000) (R5:0≤now) (R6:now≤100000):∀(k_:Nat) (eJ:Int) (_:(100001 - eJ≤(k_:Int))) (_:(0≤eJ)) (x:Nat→AV) (hh:az) (aF:Tidy hh) (aA:Has h hh),aC (cA (d+16)) HA ⟨((x 0)::(x 1)::(Zi now)::(x 3)::(Zi bn)::rx x 5 16 (((j2.af.g ah.toNat).cJ)::(Zi eJ)::rx x 23 204 [])),hh,[],.no⟩ (.exit 4) hh (fun y=>((y 0)::(y 1)::(Zi now)::(y 3)::(Zi bn)::rx y 5 16 (((j2.af.g ah.toNat).cJ)::rx y 22 205 []))) (fun r y=>((y 0)::(y 1)::(Zi now)::(y 3)::(Zi bn)::rx y 5 5 ((AV.bool r)::rx y 11 10 (((j2.af.g ah.toNat).cJ)::rx y 22 205 [])))) (fR bn now j2 ah k_ eJ)
 | 0,eJ,eZ,du,x,hh,aF,aA=>by
  have q1:(decide (eJ≤bn))=false:=d!
  exact aC.out rfl (pk (d+16) _ _ hh _ hh (CN 2<|VV (tx 3 false false .i64 eJ bn)<|CC<|BB q1<|BB q1<|BB q1<|BV q1 (vd false q1)<|FF<|ZZ) k!) (Grow.refl aF) k!
 | DD+1,eJ,eZ,du,x,hh,aF,aA=>by
  have Ft:=ky.small
  have LP:=fun {al ps} (k:Pk al _ ps)=>(CN 2<|VV (tx 3 false false .i64 eJ bn)<|CC<|k:Pk _ [] ps)
  rcases bu (decide (eJ≤bn)) with f0 | f0
  · have ja:=jv f0
    have w2:IntKind.i64.wrap (now+200)=now+200:=wrap_i64 o! o!
    have DG:=fun {al ps} (k:Pk al _ ps)=>(LP<|BC f0<|BC f0<|BV f0 (qE 3 false true w2)<|BV f0 (bE 3 false false .i64 eJ (now+200))<|VV (tp (decide (eJ<(now+200))) false f0)<|k:Pk _ [] ps)
    rcases bu (decide (eJ<(now+200))) with f1 | f1
    · have eB:=jv f1
      obtain ⟨Dl,h5,ep,jf,W1⟩:=vM (d:=d) (h:=hh) now bn j2 ah eJ (ky.has aA) (aK.mono aA uM) (aK.mono aA BQ) (j2.af.g ah.toNat).off.length 0 false o! (dr ((x 0)::(x 1)::(Zi now)::(x 3)::(Zi bn)::rx x 5 16 (((j2.af.g ah.toNat).cJ)::(Zi eJ)::(AV.bool false)::(Zi 0)::rx x 25 163 ((Zi eJ)::(Zi bn)::(AV.bool (decide (eJ≤bn)))::(AV.bool (decide (eJ≤bn)))::(Zi eJ)::(Zi now)::(Zi (now+200))::(AV.bool (decide (eJ<(now+200))))::(AV.bool (decide (eJ<(now+200))))::rx x 197 30 [])))) hh aF (Has.refl _)
      have mP:=jf.y
      have agh:hh.nx≤h5.nx:=jf.n
      have fO:=jf.a
      rcases bu (!(gC j2 ah eJ (j2.af.g ah.toNat).off.length 0 false)) with f2 | f2
      · exact aC.ret false (by simp only[fR,f0,f1,f2,ao,ai]) (pk (d+16) _ _ hh _ h5 (DG<|BB f1<|CN 2<|LL ep<|CN 2<|BC f2<|ZZ) k!) (⟨mP,fO,by omega⟩) k!
      · have w7:IntKind.i64.wrap (eJ+1)=eJ+1:=wrap_i64 o! o!
        exact aC.round (by simp only[fR,f0,f1,f2,ao,ai]) (pk (d+16) _ _ hh _ h5 (DG<|BB f1<|CN 2<|LL ep<|CN 2<|BC f2<|VV (qE 3 false true w7)<|CC<|ZZ) k!) (⟨mP,fO,by omega⟩) _ k! (fun x=>vN now bn j2 ah ky uM BQ Hl R5 R6 DD (eJ+1) o! (show (0≤(eJ+1)) from by omega) x h5 mP (aA.trans fO))
    · exact aC.out (by simp only[fR,f0,f1,ao,ai]) (pk (d+16) _ _ hh _ hh (DG<|BB f1<|ZZ) k!) (Grow.refl aF) k!
  · exact aC.out (by simp only[fR,f0,ao,ai]) (pk (d+16) _ _ hh _ hh (LP<|BB f0<|BB f0<|BB f0<|BV f0 (vd false f0)<|FF<|ZZ) k!) (Grow.refl aF) k!
def eF (j:bP) (aj:List Int) (now:Int) (ah:Int) (bn:Int) (j2:bP) (s2:List Int) (e2:Int):Bool:=(bif (bif (iI j 8) then true else (decide (100<((aj.length:Nat):Int)))) then true else (bif (!decide (e2=0)) then (bif (decide (((s2.length:Nat):Int)=0)) then (bif (decide (((j2.ab.length:Nat):Int)=0)) then true else false) else false) else (bif (bif (!decide ((cm j2 s2).2=0)) then true else (bif (!((cm j2 s2).1)) then true else (!decide (((j2.af.length:Nat):Int)=((j.af.length:Nat):Int))))) then false else (bif (!(iQ (⟨.aw,j2.ab,.aw,((([]:List aR)++j2.af).set ah.toNat (⟨((([]:List aR)++j2.af).g ah.toNat).name,((([]:List aR)++j2.af).g ah.toNat).aI,(j.af.g ah.toNat).cJ,(j.af.g ah.toNat).off⟩:aR))⟩:bP) j)) then false else (match (cT j aj now ah s2 j.ab.length 0) with | none=>(match (fR bn now j2 ah (100001 - now).toNat now) with | none=>true | some aml=>aml) | some amm=>amm)))))
theorem LZ {d:Nat} {h:az} {aJ:AV} (j:bP) (aj:List Int) (now:Int) (ah:Int) (bn:Int) (b7:aK.ok h j) (bA:bT h .i64 3 aJ aj) (bM:Tidy h):∃(j2:bP) (s2:List Int) (e2:Int),((bif (iI j 8) then true else (decide (100<((aj.length:Nat):Int))))=true∨Ef j aj now ah bn j2 s2 e2)∧cA (d+17) (.fn 5) [(AV.agg [j.au,j.ar]),aJ,(Zi now),(Zi ah),(Zi bn)] h= .ret (AV.bool (eF j aj now ah bn j2 s2 e2)) h:=by
 have oA:=bA.small
 have l7:=b7.1.small
 have l8:=b7.2.small
 obtain ⟨h1,dw,de,jW,bx,ca⟩:=gQ bM (aN.cells [j.au,j.ar] 25 false)
 have bD:=ca
 obtain ⟨Qg,yS⟩:∃Qg:Nat→AV,Ev env (cA (d+16)) HC ⟨((AV.agg [j.au,j.ar])::aJ::(Zi now)::(Zi ah)::(Zi bn)::(Pt h.nx)::aL::aL::aL::aL::(AV.bool false)::iW 216),h1,[],.no⟩ .normal ⟨((AV.agg [j.au,j.ar])::aJ::(Zi now)::(Zi ah)::(Zi bn)::(Pt h.nx)::aL::aL::aL::aL::(AV.bool false)::aL::aL::aL::aL::aL::aL::aL::aL::aL::aL::aL::aL::aL::aL::rx Qg 25 6 ((AV.bool (bif (iI j 8) then true else (decide (100<((aj.length:Nat):Int)))))::iW 195)),h1,[],.no⟩:=by
  have k2:=aai (d:=d+15) j 8 (aK.mono bD b7) de
  have J4:=fun {al ps} (k:Pk al _ ps)=>(MM (aP 25 0 (AV.agg [j.au,j.ar]) bx k!)<|EE k2<|CC<|k:Pk _ [] ps)
  rcases bu (iI j 8) with f0 | f0
  · rw[EX f0]
    exact j9 (pk (d+16) _ _ h1 _ h1 (J4<|BB f0<|BB f0<|BV f0 (tR true f0)<|ZZ) k!) k!
  · have RQ:=bA.len
    rw[Et f0]
    exact j9 (pk (d+16) _ _ h1 _ h1 (J4<|BC f0<|BV f0 RQ<|BV f0 (gz 3 false true .i64 ((aj.length:Nat):Int) 100)<|VV (dD (a:=some (AV.bool true)) (b:=some (AV.bool (decide (100<((aj.length:Nat):Int))))) f0)<|ZZ) k!) k!
 rcases bu (bif (iI j 8) then true else (decide (100<((aj.length:Nat):Int)))) with f0 | f0
 · have k4:(cA (d+16)) (.fn 7) [] h1= .ret (.bool true) h1:=rfl
   obtain ⟨j2,s2,e2,-⟩:∃(a_:bP) (b_:List Int) (c_:Int),True:=⟨GU,[],0,trivial⟩
   refine ⟨j2,s2,e2,.inl f0,?_⟩
   have e:eF j aj now ah bn j2 s2 e2=true:=by simp only[eF,f0,ao,ai]
   rw[e]
   exact aG rfl (aY Tryz.func5 kD rfl (.inr rfl) (pk (d+16) _ _ h _ h1 (NN dw (fun i=>(Pt i))<|CC<|LL yS<|BB f0<|EE k4<|CC<|ZZ) k!) k!) bD rfl
 · have NT:=ae1 f0
   obtain ⟨j2,uS,s2,e2,h4,ZG,ij,UD,Nt,Ib,Z2,FS⟩:=amd (d:=d) j aj now ah bn (aK.mono bD b7) (bA.has bD) NT de
   have avb:=Z2.small
   have atM:=Ib.1.small
   have atN:=Ib.2.small
   have fq:=(bD.trans Nt)
   obtain ⟨h5,agn,mP,abN,Hc,Bv⟩:=gQ ij (aN.cells [AV.aw,AV.aw] 25 false)
   have fO:=fq.trans Bv
   have ahR:=Bv
   have sc7:=Ib.1.scalar
   have C6:=Ib.2.scalar
   obtain ⟨h6,apN,ig,uz,jc,K4⟩:=j_ (t:=25) (n:=2) (i:=h4.nx) (L:=[j2.au,j2.ar]) mP Hc k! rfl rfl (kJ sc7 (kJ C6 rfl))
   have gL:=Has.bK fO K4 bM o!
   have P6:=Has.bK ahR K4 ij o!
   rcases bu (!decide (e2=0)) with f1 | f1
   · have eB:=Eu f1
     obtain ⟨apO,ahS⟩:∃apO:Nat→AV,Ev env (cA (d+16)) HD ⟨((AV.agg [j.au,j.ar])::aJ::(Zi now)::(Zi ah)::(Zi bn)::(Pt h.nx)::aL::aL::aL::aL::(AV.bool false)::(Pt h4.nx)::uS::(Zi e2)::aL::aL::aL::aL::aL::aL::aL::aL::aL::aL::aL::rx Qg 25 6 ((AV.bool (bif (iI j 8) then true else (decide (100<((aj.length:Nat):Int)))))::aL::(AV.tuple [(AV.agg [j2.au,j2.ar]),uS,(Zi e2)])::(AV.agg [j.au,j.ar])::aJ::(Zi now)::(Zi ah)::(Zi bn)::(AV.tuple [(AV.agg [j2.au,j2.ar]),uS,(Zi e2)])::(AV.agg [j2.au,j2.ar])::uS::(Zi e2)::(Zi e2)::(AV.bool (!decide (e2=0)))::iW 182)),h6,[],.no⟩ .normal ⟨((AV.agg [j.au,j.ar])::aJ::(Zi now)::(Zi ah)::(Zi bn)::(Pt h.nx)::aL::aL::aL::aL::(AV.bool (bif (decide (((s2.length:Nat):Int)=0)) then (bif (decide (((j2.ab.length:Nat):Int)=0)) then true else false) else false))::(Pt h4.nx)::uS::(Zi e2)::aL::aL::aL::aL::aL::aL::aL::aL::aL::aL::aL::rx Qg 25 6 ((AV.bool (bif (iI j 8) then true else (decide (100<((aj.length:Nat):Int)))))::aL::(AV.tuple [(AV.agg [j2.au,j2.ar]),uS,(Zi e2)])::(AV.agg [j.au,j.ar])::aJ::(Zi now)::(Zi ah)::(Zi bn)::(AV.tuple [(AV.agg [j2.au,j2.ar]),uS,(Zi e2)])::(AV.agg [j2.au,j2.ar])::uS::(Zi e2)::(Zi e2)::(AV.bool (!decide (e2=0)))::rx apO 45 12 (iW 170))),h6,[],.no⟩:=by
      have uN:=Z2.len
      have acV:=fun {al ps} (k:Pk al _ ps)=>(CC<|VV uN<|VV (Bo 3 false true .i64 ((s2.length:Nat):Int) 0)<|CC<|k:Pk _ [] ps)
      rcases bu (decide (((s2.length:Nat):Int)=0)) with f0 | f0
      · have ja:=jv f0
        have Uv:=Ib.1.len
        have UW:=fun {al ps} (k:Pk al _ ps)=>(acV<|BC f0<|BM f0 (aP 22 0 j2.au jc k!)<|BV f0 Uv<|BV f0 (Bo 3 false true .i64 ((j2.ab.length:Nat):Int) 0)<|VV (tp (decide (((j2.ab.length:Nat):Int)=0)) false f0)<|CC<|k:Pk _ [] ps)
        rcases bu (decide (((j2.ab.length:Nat):Int)=0)) with f1 | f1
        · have eB:=jv f1
          have k14:(cA (d+16)) (.fn 7) [] h6= .ret (.bool true) h6:=rfl
          rw[EX f0,EX f1]
          exact j9 (pk (d+16) _ _ h6 _ h6 (UW<|BB f1<|EE k14<|VV (tp true false f1)<|CC<|ZZ) k!) k!
        · have eB:=pK f1
          rw[EX f0,Et f1]
          exact j9 (pk (d+16) _ _ h6 _ h6 (UW<|BV f1 (vd false f1)<|CC<|ZZ) k!) k!
      · have ja:=pK f0
        rw[Et f0]
        exact j9 (pk (d+16) _ _ h6 _ h6 (acV<|BB f0<|BB f0<|BB f0<|BV f0 (vd false f0)<|CC<|FF<|CN 2<|ZZ) k!) k!
     refine ⟨j2,s2,e2,.inr FS,?_⟩
     have e:eF j aj now ah bn j2 s2 e2=(bif (decide (((s2.length:Nat):Int)=0)) then (bif (decide (((j2.ab.length:Nat):Int)=0)) then true else false) else false):=by simp only[eF,f0,f1,ao,ai]
     rw[e]
     exact aG rfl (aY Tryz.func5 kD rfl (.inr rfl) (pk (d+16) _ _ h _ h6 (NN dw (fun i=>(Pt i))<|CC<|LL yS<|BM f0 (aP 25 0 (AV.agg [j.au,j.ar]) bx k!)<|CN 4<|EE ZG<|CN 4<|NN agn (fun i=>(Pt i))<|SS apN<|CN 3<|VV (kt 31 false true .i64 e2 0)<|BB f1<|LL ahS<|ZZ) k!) k!) gL rfl
   · have eB:=Ew f1
     have FG:=ai3 FS eB
     have M:=aeV FG.cf
     have mn0:=M.n0
     have mn1:=M.n1
     have mn2:=M.n2
     have mr0:=M.r0
     have mr1:=M.r1
     have rl_:=FG.rl
     have tl_:=FG.tl
     have sl_:=M.sl
     have nr_:=M.zw.nr
     have YJ:=aaj (d:=d+11) j2 s2 (aK.mono P6 Ib) (Z2.has P6) ig
     obtain ⟨amn,ahT⟩:∃amn:Nat→AV,Ev env (cA (d+16)) HE ⟨((AV.agg [j.au,j.ar])::aJ::(Zi now)::(Zi ah)::(Zi bn)::(Pt h.nx)::aL::aL::aL::aL::(AV.bool false)::(Pt h4.nx)::uS::(Zi e2)::(AV.bool (cm j2 s2).1)::(Zi (cm j2 s2).2)::aL::aL::aL::aL::aL::aL::aL::aL::aL::rx Qg 25 6 ((AV.bool (bif (iI j 8) then true else (decide (100<((aj.length:Nat):Int)))))::aL::(AV.tuple [(AV.agg [j2.au,j2.ar]),uS,(Zi e2)])::(AV.agg [j.au,j.ar])::aJ::(Zi now)::(Zi ah)::(Zi bn)::(AV.tuple [(AV.agg [j2.au,j2.ar]),uS,(Zi e2)])::(AV.agg [j2.au,j2.ar])::uS::(Zi e2)::(Zi e2)::(AV.bool (!decide (e2=0)))::aL::aL::aL::aL::aL::aL::aL::aL::aL::aL::aL::aL::(AV.tuple [(AV.bool (cm j2 s2).1),(Zi (cm j2 s2).2)])::(AV.agg [j2.au,j2.ar])::uS::(AV.tuple [(AV.bool (cm j2 s2).1),(Zi (cm j2 s2).2)])::(AV.bool (cm j2 s2).1)::(Zi (cm j2 s2).2)::iW 164)),h6,[],.no⟩ .normal ⟨((AV.agg [j.au,j.ar])::aJ::(Zi now)::(Zi ah)::(Zi bn)::(Pt h.nx)::aL::aL::aL::aL::(AV.bool false)::(Pt h4.nx)::uS::(Zi e2)::(AV.bool (cm j2 s2).1)::(Zi (cm j2 s2).2)::aL::aL::aL::aL::aL::aL::aL::aL::aL::rx Qg 25 6 ((AV.bool (bif (iI j 8) then true else (decide (100<((aj.length:Nat):Int)))))::aL::(AV.tuple [(AV.agg [j2.au,j2.ar]),uS,(Zi e2)])::(AV.agg [j.au,j.ar])::aJ::(Zi now)::(Zi ah)::(Zi bn)::(AV.tuple [(AV.agg [j2.au,j2.ar]),uS,(Zi e2)])::(AV.agg [j2.au,j2.ar])::uS::(Zi e2)::(Zi e2)::(AV.bool (!decide (e2=0)))::aL::aL::aL::aL::aL::aL::aL::aL::aL::aL::aL::aL::(AV.tuple [(AV.bool (cm j2 s2).1),(Zi (cm j2 s2).2)])::(AV.agg [j2.au,j2.ar])::uS::(AV.tuple [(AV.bool (cm j2 s2).1),(Zi (cm j2 s2).2)])::(AV.bool (cm j2 s2).1)::(Zi (cm j2 s2).2)::rx amn 63 14 ((AV.bool (bif (!decide ((cm j2 s2).2=0)) then true else (bif (!((cm j2 s2).1)) then true else (!decide (((j2.af.length:Nat):Int)=((j.af.length:Nat):Int))))))::iW 149))),h6,[],.no⟩:=by
      have apP:=fun {al ps} (k:Pk al _ ps)=>(CC<|VV (kt 31 false true .i64 (cm j2 s2).2 0)<|CC<|k:Pk _ [] ps)
      rcases bu (!decide ((cm j2 s2).2=0)) with f0 | f0
      · have ja:=Eu f0
        rw[EX f0]
        exact j9 (pk (d+16) _ _ h6 _ h6 (apP<|BB f0<|BV f0 (tR true f0)<|CC<|TT<|TT<|TT<|TT<|TT<|TT<|TT<|CC<|ZZ) k!) k!
      · have ja:=Ew f0
        have apQ:=fun {al ps} (k:Pk al _ ps)=>(apP<|BC f0<|BC f0<|VV (dD (a:=some (AV.bool true)) (b:=some (AV.bool (!((cm j2 s2).1)))) f0)<|CC<|k:Pk _ [] ps)
        rcases bu (!((cm j2 s2).1)) with f1 | f1
        · rw[Et f0,EX f1]
          exact j9 (pk (d+16) _ _ h6 _ h6 (apQ<|BB f1<|BB f1<|BB f1<|BB f1<|BB f1<|BB f1<|BV f1 (tR true f1)<|ZZ) k!) k!
        · have Ue:=Ib.2.len
          have Uo:=b7.2.len
          rw[Et f0,Et f1]
          exact j9 (pk (d+16) _ _ h6 _ h6 (apQ<|BC f1<|BM f1 (aP 23 1 j2.ar jc k!)<|BV f1 Ue<|BC f1<|BM f1 (aP 23 1 j.ar (K4 _ _ o! (Bv _ _ (Nt _ _ bx))) k!)<|BV f1 Uo<|BV f1 (kt 3 false false .i64 ((j2.af.length:Nat):Int) ((j.af.length:Nat):Int))<|VV (dD (a:=some (AV.bool true)) (b:=some (AV.bool (!decide (((j2.af.length:Nat):Int)=((j.af.length:Nat):Int))))) f1)<|ZZ) k!) k!
     have apR:=fun {al ps} (k:Pk al _ ps)=>(NN dw (fun i=>(Pt i))<|CC<|LL yS<|BM f0 (aP 25 0 (AV.agg [j.au,j.ar]) bx k!)<|CN 4<|EE ZG<|CN 4<|NN agn (fun i=>(Pt i))<|SS apN<|CN 3<|VV (kt 31 false true .i64 e2 0)<|BM f1 (aP 25 0 (AV.agg [j2.au,j2.ar]) jc k!)<|CC<|EE YJ<|CN 5<|LL ahT<|k:Pk _ [] ps)
     rcases bu (bif (!decide ((cm j2 s2).2=0)) then true else (bif (!((cm j2 s2).1)) then true else (!decide (((j2.af.length:Nat):Int)=((j.af.length:Nat):Int))))) with f2 | f2
     · refine ⟨j2,s2,e2,.inr FS,?_⟩
       have e:eF j aj now ah bn j2 s2 e2=false:=by simp only[eF,f0,f1,f2,ao,ai]
       rw[e]
       exact aG rfl (aY Tryz.func5 kD rfl (.inr rfl) (pk (d+16) _ _ h _ h6 (apR<|BC f2<|ZZ) k!) k!) gL rfl
     · have KL_:=aak f2
       obtain ⟨rk,aeJ,jy,Df,l_,tf⟩:=gQ ig (aN.cells [AV.aw,AV.aw] 25 false)
       have gG:=gL.trans tf
       have Ku:=P6.trans tf
       obtain ⟨Tg,I7,vf,abJ,aeD,nC⟩:=j_ (t:=25) (n:=2) (i:=h6.nx) (L:=[j2.au,j2.ar]) jy l_ k! rfl rfl (kJ sc7 (kJ C6 rfl))
       have sU:=Has.bK gG nC bM o!
       have ae4:=Has.bK Ku nC ij o!
       obtain ⟨HR,apS,qI,aeX,zx,zz⟩:=gQ vf (aN.cells [] 45 false)
       have qJ:=sU.trans zz
       have vO:=ae4.trans zz
       have Nu:=zz
       obtain ⟨z17,yN,amo,oI,an7,auH,amp,ti⟩:=bI.arw (tys:= #[23,23]) (l:=([]:List aR)) (m:=j2.af) (x:=j2.ar) qI vf Nu o! (.inl ⟨.inr ⟨_,rfl,(jR _),zx⟩,rfl⟩:bI Tg HR (AV.slice Tg.nx 0 0 0 false) ([]:List aR)) (Ib.2.has vO).sE (Ib.2.has vO).first (Rc (Ib.2.has vO) fun y hy=>aR.sc ((Ib.2.has vO).Te y hy)) pF rfl rfl k! k! (bytes:=48) k! (z0:=(AV.agg [(AV.str []),(Zi 0),AV.aw])) k! rfl (by decide)
       have kX:=qJ.trans ti
       have ae5:=vO.trans ti
       have amO:=Nu.trans ti
       have amq:∀y∈(([]:List aR)++j2.af),aK.ok yN y:=wk ti (Bp (fun y hy=>by cases hy) (Ib.2.has vO).Te)
       have VY:aO yN z17 (([]:List aR)++j2.af):=bI.rows amp pF amq
       have apT:=VY.small
       have an2:=VY.scalar
       obtain ⟨CU,I8,ly,Rj,AH,pe⟩:=T4 (t:=23) (i:=h6.nx) (o:=1) (v:=z17) (N:=[j2.au,z17]) oI (ti _ _ (zz _ _ aeD)) k! VY.scalar k! k!
       have kH:=Has.bK kX pe bM o!
       have S_:=Has.bK ae5 pe ij o!
       obtain ⟨e21,atO,ae6⟩:=aal Tg.nx
       have apU:Tidy e21:=fun k w g=>by rw[ae6] at g;cases g
       have ahU:∀h_:az,Has e21 h_:=fun h_ k w g=>by rw[ae6] at g;cases g
       have VZ:bI e21 CU z17 (([]:List aR)++j2.af):=bI.kept (bI.le amp o!) pe (bI.atd amp o!)
       have amr:∀y∈(([]:List aR)++j2.af),aK.ok CU y:=wk S_ (Bp (fun y hy=>by cases hy) Ib.2.Te)
       have atP:aO CU z17 (([]:List aR)++j2.af):=bI.rows VZ pF amr
       obtain ⟨p23,q24,ai4⟩:=b7.2.elem (i:=ah.toNat) o!
       have UT:=xn ai4 o!
       have R9:=(b7.2.has kH).part (t:=43) (j:=2) o! ai4 k! rfl
       obtain ⟨p27,ai5,aqP,aqQ⟩:=bI.ix ly VZ (i:=ah.toNat) pF
       have agJ:=xn ai5 o!
       have ae7:aO CU (j.af.g ah.toNat).cJ (j.af.g ah.toNat).off:=((b7.2.ok (i:=ah.toNat) o!).2.has kH)
       obtain ⟨SY,aeS,XZ,apC,atQ,auI,Cd⟩:=bI.alS (x:=(⟨((([]:List aR)++j2.af).g ah.toNat).name,((([]:List aR)++j2.af).g ah.toNat).aI,(j.af.g ah.toNat).cJ,(j.af.g ah.toNat).off⟩:aR)) (v:=((j.af.g ah.toNat).cJ)) (t:=43) (j:=2) ly apU (ahU _) VZ th ai5 k! (VX ae7) ae7.scalar (by decide) rfl
       have Em:=Has.ae2 kH Cd bM o!
       have pG:=Has.ae2 S_ Cd ij o!
       have ahV:∀y∈((([]:List aR)++j2.af).set ah.toNat (⟨((([]:List aR)++j2.af).g ah.toNat).name,((([]:List aR)++j2.af).g ah.toNat).aI,(j.af.g ah.toNat).cJ,(j.af.g ah.toNat).off⟩:aR)),aK.ok SY y:=abG (wk pG (Bp (fun y hy=>by cases hy) Ib.2.Te)) ⟨(wk pG (Bp (fun y hy=>by cases hy) Ib.2.Te) _ (oF th)).1,b7.2.Te _ (oF o!)|>.2.has Em⟩
       have P7:aO SY z17 ((([]:List aR)++j2.af).set ah.toNat (⟨((([]:List aR)++j2.af).g ah.toNat).name,((([]:List aR)++j2.af).g ah.toNat).aI,(j.af.g ah.toNat).cJ,(j.af.g ah.toNat).off⟩:aR)):=bI.rows atQ th ahV
       have atS:=P7.small
       have aqR:((([]:List aR)++j2.af).set ah.toNat (⟨((([]:List aR)++j2.af).g ah.toNat).name,((([]:List aR)++j2.af).g ah.toNat).aI,(j.af.g ah.toNat).cJ,(j.af.g ah.toNat).off⟩:aR)).length=(([]:List aR)++j2.af).length:=List.length_set
       have c31:=P7.same 19
       have c32:=b7.2.same 19
       have c33:=((b7.2.ok (i:=ah.toNat) o!).2).same 19
       have k34:(cA (d+16)) (.fn 15) [(AV.agg [j2.au,z17]),(AV.agg [j.au,j.ar])] SY= .ret (AV.bool (iQ (⟨.aw,j2.ab,.aw,((([]:List aR)++j2.af).set ah.toNat (⟨((([]:List aR)++j2.af).g ah.toNat).name,((([]:List aR)++j2.af).g ah.toNat).aI,(j.af.g ah.toNat).cJ,(j.af.g ah.toNat).off⟩:aR))⟩:bP) j)) SY:=by have q_:=ae0 (d:=d+14) (⟨j2.au,j2.ab,z17,((([]:List aR)++j2.af).set ah.toNat (⟨((([]:List aR)++j2.af).g ah.toNat).name,((([]:List aR)++j2.af).g ah.toNat).aI,(j.af.g ah.toNat).cJ,(j.af.g ah.toNat).off⟩:aR))⟩:bP) j ⟨(Ib.1.has pG),P7⟩ (aK.mono Em b7) XZ;rw[ae3] at q_;exact q_
       have ams:=fun {al ps} (k:Pk al _ ps)=>(apR<|BM f2 (aP 25 0 (AV.agg [j2.au,j2.ar]) jc k!)<|NN aeJ (fun i=>(Pt i))<|SS I7<|NN apS (fun i=>(AV.slice i 0 0 0 false))<|CC<|MM (aP 23 1 j2.ar (zz _ _ (nC _ _ o! (tf _ _ jc))) k!)<|PP (show cb env HR #[23,23] (AV.slice Tg.nx 0 0 0 false) j2.ar=some (z17,yN) from amo)<|CC<|SS I8<|CC<|MM (aP 23 1 z17 AH k!)<|CN 2<|MM (aP 23 1 j.ar (pe _ _ o! (ti _ _ (zz _ _ (nC _ _ o! (tf _ _ (K4 _ _ o! (Bv _ _ (Nt _ _ bx)))))))) k!)<|CC<|VV UT<|CC<|MM R9<|VV agJ<|CC<|SS aeS<|HH (aP 23 1 z17 AH k!)<|HH c31<|HH (aP 23 1 j.ar (pe _ _ o! (ti _ _ (zz _ _ (nC _ _ o! (tf _ _ (K4 _ _ o! (Bv _ _ (Nt _ _ bx)))))))) k!)<|HH c32<|HH R9<|HH c33<|MM (aP 25 0 (AV.agg [j2.au,z17]) (Cd _ _ o! AH) k!)<|MM (aP 25 0 (AV.agg [j.au,j.ar]) (Cd _ _ o! (pe _ _ o! (ti _ _ (zz _ _ (nC _ _ o! (tf _ _ (K4 _ _ o! (Bv _ _ (Nt _ _ bx))))))))) k!)<|EE k34<|CC<|k:Pk _ [] ps)
       rcases bu (!(iQ (⟨.aw,j2.ab,.aw,((([]:List aR)++j2.af).set ah.toNat (⟨((([]:List aR)++j2.af).g ah.toNat).name,((([]:List aR)++j2.af).g ah.toNat).aI,(j.af.g ah.toNat).cJ,(j.af.g ah.toNat).off⟩:aR))⟩:bP) j)) with f3 | f3
       · refine ⟨j2,s2,e2,.inr FS,?_⟩
         have e:eF j aj now ah bn j2 s2 e2=false:=by simp only[eF,f0,f1,f2,f3,ao,ai]
         rw[e]
         exact aG rfl (aY Tryz.func5 kD rfl (.inr rfl) (pk (d+16) _ _ h _ SY (ams<|BC f3<|ZZ) k!) k!) Em rfl
       · have apV:=lh (d:=d) (h:=SY) aJ now ah bn uS j j2 aj s2 h.nx h4.nx (bA.has Em) (b7.1.has Em) (b7.2.has Em) (Ib.1.has pG) (Ib.2.has pG) (Z2.has pG) (aK.mono Em b7) (aK.mono pG Ib) o! o! j.ab.length 0 o! (dr ((AV.agg [j.au,j.ar])::aJ::(Zi now)::(Zi ah)::(Zi bn)::(Pt h.nx)::aL::aL::aL::aL::(AV.bool false)::(Pt h4.nx)::uS::(Zi e2)::(AV.bool (cm j2 s2).1)::(Zi (cm j2 s2).2)::(Pt h6.nx)::(Zi 0)::aL::aL::aL::aL::aL::aL::aL::rx Qg 25 6 ((AV.bool (bif (iI j 8) then true else (decide (100<((aj.length:Nat):Int)))))::aL::(AV.tuple [(AV.agg [j2.au,j2.ar]),uS,(Zi e2)])::(AV.agg [j.au,j.ar])::aJ::(Zi now)::(Zi ah)::(Zi bn)::(AV.tuple [(AV.agg [j2.au,j2.ar]),uS,(Zi e2)])::(AV.agg [j2.au,j2.ar])::uS::(Zi e2)::(Zi e2)::(AV.bool (!decide (e2=0)))::aL::aL::aL::aL::aL::aL::aL::aL::aL::aL::aL::aL::(AV.tuple [(AV.bool (cm j2 s2).1),(Zi (cm j2 s2).2)])::(AV.agg [j2.au,j2.ar])::uS::(AV.tuple [(AV.bool (cm j2 s2).1),(Zi (cm j2 s2).2)])::(AV.bool (cm j2 s2).1)::(Zi (cm j2 s2).2)::rx amn 63 14 ((AV.bool (bif (!decide ((cm j2 s2).2=0)) then true else (bif (!((cm j2 s2).1)) then true else (!decide (((j2.af.length:Nat):Int)=((j.af.length:Nat):Int))))))::(AV.agg [j2.au,j2.ar])::(AV.slice Tg.nx 0 0 0 false)::(AV.ptr h4.nx 1)::j2.ar::z17::(AV.ptr h6.nx 1)::(AV.ptr h6.nx 1)::z17::(Zi ah)::(AV.ptr h.nx 1)::j.ar::(Zi ah)::(AV.ptr p23 q24)::(AV.ptr p23 (q24+2))::((j.af.g ah.toNat).cJ)::(AV.ptr p27 (ah.toNat*3))::(AV.ptr p27 ((ah.toNat*3)+2))::(AV.agg [j2.au,z17])::(AV.agg [j.au,j.ar])::(AV.bool (iQ (⟨.aw,j2.ab,.aw,((([]:List aR)++j2.af).set ah.toNat (⟨((([]:List aR)++j2.af).g ah.toNat).name,((([]:List aR)++j2.af).g ah.toNat).aI,(j.af.g ah.toNat).cJ,(j.af.g ah.toNat).off⟩:aR))⟩:bP) j))::(AV.bool (!(iQ (⟨.aw,j2.ab,.aw,((([]:List aR)++j2.af).set ah.toNat (⟨((([]:List aR)++j2.af).g ah.toNat).name,((([]:List aR)++j2.af).g ah.toNat).aI,(j.af.g ah.toNat).cJ,(j.af.g ah.toNat).off⟩:aR))⟩:bP) j)))::iW 128)))) SY XZ (Has.refl _) (Cd _ _ o! (pe _ _ o! (ti _ _ (zz _ _ (nC _ _ o! (tf _ _ (K4 _ _ o! (Bv _ _ (Nt _ _ bx))))))))) (Cd _ _ o! (pe _ _ o! (ti _ _ (zz _ _ (nC _ _ o! (tf _ _ jc))))))
         cases En:cT j aj now ah s2 j.ab.length 0 with
         | none=>
          obtain ⟨aan,h37,P9,zA⟩:=aC.n En apV
          have ai6:=zA.y
          have auJ:SY.nx≤h37.nx:=zA.n
          have X8:=Em.trans zA.a
          have zB:=pG.trans zA.a
          have aao:=zA.a
          obtain ⟨p39,q40,ai7⟩:=Ib.2.elem (i:=ah.toNat) o!
          have atT:=xn ai7 o!
          have atU:=(Ib.2.has zB).part (t:=43) (j:=2) o! ai7 k! rfl
          have apW:=fun {al ps} (k:Pk al _ ps)=>(ams<|BC f3<|LL P9<|CC<|MM (aP 23 1 j2.ar (zA.a _ _ (Cd _ _ o! (pe _ _ o! (ti _ _ (zz _ _ (nC _ _ o! (tf _ _ jc))))))) k!)<|CC<|VV atT<|CC<|MM atU<|CN 3<|k:Pk _ [] ps)
          have apX:=vN (d:=d) (h:=h37) now bn j2 ah ((Ib.2.ok (i:=ah.toNat) o!).2.has zB) (aK.mono zB Ib) (aK.mono zB (Ib.2.ok (i:=ah.toNat) o!)) o! o! o! (100001 - now).toNat now o! (show (0≤now) from by omega) (dr ((aan 0)::aJ::(Zi now)::(Zi ah)::(Zi bn)::(Pt h.nx)::rx aan 6 5 ((Pt h4.nx)::uS::rx aan 13 8 (((j2.af.g ah.toNat).cJ)::(Zi now)::rx aan 23 158 ((AV.ptr h4.nx 1)::j2.ar::(Zi ah)::(AV.ptr p39 q40)::(AV.ptr p39 (q40+2))::((j2.af.g ah.toNat).cJ)::(Zi now)::rx aan 188 39 []))))) h37 ai6 (Has.refl _)
          cases Ic:fR bn now j2 ah (100001 - now).toNat now with
          | none=>
           obtain ⟨atV,h43,P_,ae8⟩:=aC.n Ic apX
           have ae9:=X8.trans ae8.a
           have k44:(cA (d+16)) (.fn 7) [] h43= .ret (.bool true) h43:=rfl
           refine ⟨j2,s2,e2,.inr FS,?_⟩
           have e:eF j aj now ah bn j2 s2 e2=true:=by simp only[eF,f0,f1,f2,f3,En,Ic,ao,ai]
           rw[e]
           exact aG rfl (aY Tryz.func5 kD rfl (.inr rfl) (pk (d+16) _ _ h _ h43 (apW<|LL P_<|EE k44<|CC<|ZZ) k!) k!) ae9 rfl
          | some aml=>
           obtain ⟨atV,h43,P_,ae8⟩:=aC.r Ic apX
           have ae9:=X8.trans ae8.a
           refine ⟨j2,s2,e2,.inr FS,?_⟩
           have e:eF j aj now ah bn j2 s2 e2=aml:=by simp only[eF,f0,f1,f2,f3,En,Ic,ao,ai]
           rw[e]
           exact aG rfl (aY Tryz.func5 kD rfl (.inr rfl) (pk (d+16) _ _ h _ h43 (apW<|LL P_<|ZZ) k!) k!) ae9 rfl
         | some amm=>
          obtain ⟨aan,h37,P9,zA⟩:=aC.r En apV
          have ai6:=zA.y
          have X8:=Em.trans zA.a
          have zB:=pG.trans zA.a
          have aao:=zA.a
          refine ⟨j2,s2,e2,.inr FS,?_⟩
          have e:eF j aj now ah bn j2 s2 e2=amm:=by simp only[eF,f0,f1,f2,f3,En,ao,ai]
          rw[e]
          exact aG rfl (aY Tryz.func5 kD rfl (.inr rfl) (pk (d+16) _ _ h _ h37 (ams<|BC f3<|LL P9<|ZZ) k!) k!) X8 rfl
theorem S' {a b:Task} {r:Int} (h:a.aB=b.aB):∀k i,iF a r k i=iF b r k i
 | 0,i=>rfl
 | k+1,i=>by rw[iF,iF,h,S' h k]
theorem amt {a b:Task} {r:Int} (h:a.aB=b.aB):gP a r=gP b r:=by
 rw[gP,gP,S' h,h]
theorem afb {j j2:bP} (S:SmT j2.ab j.ab) {p:List Bool} {s:List Int} {r:Nat} {m:Int}:vv j2 p s r m=vv j p s r m:=by
 unfold vv
 rw[S.len]
 refine ow fun q _ _=>?_
 have e:z6 j2 s r m q=z6 j s r m q:=by
  by_cases c:J6 j s q m
  · rw[z6,z6,if_pos c,if_pos (show J6 j2 s q m by unfold J6 at c ⊢;rw[S.takes];exact c),amt (S.aB q)]
  · rw[z6,z6,if_neg c,if_neg (show ¬J6 j2 s q m by unfold J6 at c ⊢;rw[S.takes];exact c)]
 rw[e]
theorem amu {l:List Span} (A:Asc l):l.Pairwise (fun a b=>a.aQ<b.a8):=A.2.imp fun h=>by omega
theorem afc {h:az} {j j2:bP} {aj:List Int} {now r u:Int} (M:og j aj now r u) (T:wY h j r now u j2) (F2:cE j2) {p:List Bool} (pk:∀q,p.g q=true↔q<j2.ab.length∧re j2 aj now r q) {s:List Int} (ps:∀q,p.g q=true→s.g q=aj.g q):SE j2 p s:=by
 have S:=T.ab.sm
 have F:=M.zw
 obtain ⟨tm,no,pa,al,rm⟩:=FM F M.sl M.kp
 have mr0:=M.r0
 have mr1:=M.r1
 have rl:=T.len
 have tl:=S.len
 refine ⟨fun q hq m hm=>?_,fun i hi pi q hq=>?_⟩
 · have R:=rm q o! m hm
   have e1:vv j2 p s q m=vv j2 p aj q m:=FL fun x _=>⟨rfl,ps x⟩
   have le:vv j2 p aj q m≤vv j pa aj q m:=by
    rw[afb S]
    unfold vv
    refine O3 fun x _ hx=>?_
    rw[if_pos (al x o!)]
    split
    · exact Int.le_refl _
    · exact (UY F o!).1
   rw[e1]
   by_cases eq:q=r.toNat
   · have mn:(j2.af.g q).aI=(j.af.g q).aI:=by rw[eq];exact T.aI
     have nn:=(F.rs q o!).2.2.1
     have J:=F0 (Ad F (r:=r.toNat) o! M.n0 M.n1 M.n2)
     rw[←T.off,←eq] at J
     have ub:x7 (j2.af.g q) m≤(j.af.g q).aI:=by
      unfold x7;rw[mn];exact acX nn (amu J.1)
     by_cases inn:now≤m∧m≤u
     · have z:vv j2 p aj q m=0:=by
        unfold vv
        rw[ow (g:=fun _=>0) fun x _ hx=>?_,Fy]
        by_cases c:p.g x=true
        · rw[if_pos c]
          have k:=((pk x).1 c).2
          rw[z6]
          by_cases cv:J6 j2 aj x m
          · rw[if_pos cv]
            rcases H0 F2 (i:=x) o! (q:Int) with ⟨w,hw,ew⟩ | ⟨_,z⟩
            · rcases k.2 with nu | en
              · exact absurd (by rw[ew,eq];omega) (nu w hw)
              · have:=cv.2;omega
            · exact z
          · rw[if_neg cv]
        · rw[if_neg c]
       rw[z,mn];omega
     · have lo:x7 (j2.af.g q) m≤x7 (j.af.g q) m:=by
        by_cases cc:cv (j2.af.g q).off m
        · obtain ⟨s',uT,c1,c2⟩:=(J.2 m).1 cc
          rcases List.mem_append.1 uT with a | a
          · have:=UX (c:=(j.af.g q).aI) (m:=m) nn a c1 c2
            unfold x7 at ub ⊢;omega
          · rw[List.mem_singleton.1 a] at c1 c2
            exact absurd ⟨c1,c2⟩ inn
        · have z:x7 (j2.af.g q) m=0:=DJ fun s' uT w=>cc ⟨s',uT,w⟩
          have:=O4 (c:=(j.af.g q).aI) (m:=m) nn (l:=(j.af.g q).off)
          rw[z];unfold x7;omega
       rw[mn];omega
   · have E:=T.res q o! eq
     have e2:x7 (j2.af.g q) m=x7 (j.af.g q) m:=by unfold x7;rw[E.2.1,E.2.2]
     rw[e2,E.2.1];omega
 · have k:=((pk i).1 pi).2
   have nb:=F2.nb i hi q hq
   have hn:Int.toNat ((j2.ab.g i).aD.g q)<j2.ab.length:=by omega
   have o:=no i o! q (by rw[←S.aD];exact hq)
   rw[←S.aD,←S.takes] at o
   have tk:=F2.tk _ hn
   have kn:re j2 aj now r (Int.toNat ((j2.ab.g i).aD.g q)):=⟨by have:=k.1;omega,.inr (by have:=k.1;omega)⟩
   have pq:=(pk _).2 ⟨hn,kn⟩
   exact ⟨pq,by rw[ps _ pq,ps _ pi];exact o⟩
theorem V0 {j:bP} (F:cE j) {p:List Bool} {s:List Int} (T:Tm j s) (al:All j p) (pl:p.length=j.ab.length) (sl:s.length=j.ab.length) (A:SE j p s):qw j s=true:=by
 refine ZS fun i hi q hq qi=>(H4 F T hi _).2 ⟨T i hi,fun n hn _=>(A.nd i hi (al i hi) n hn).2,fun ht u hu m m0 m1=>?_⟩
 have t:=T i hi
 have ur:=F.ur i hi u hu
 have r:=A.room (Int.toNat ((j.ab.g i).aB.g u).ah) o! m o!
 have e:=H2 (s:=s) (p:=p.set i false) hi (by rw[kz,if_pos ⟨rfl,by omega⟩]) (by rw[List.length_set];exact pl) sl (s.g i) (Int.toNat ((j.ab.g i).aB.g u).ah) m
 rw[Kw,if_pos ⟨m0,m1⟩] at e
 have c1:vv j ((p.set i false).set i true) s (Int.toNat ((j.ab.g i).aB.g u).ah) m=vv j p s (Int.toNat ((j.ab.g i).aB.g u).ah) m:=FL fun x hx=>by
  refine ⟨?_,fun _=>rfl⟩
  rw[al x hx,kz]
  split
  · rfl
  · rename_i z
    rw[kz,if_neg fun y=>z ⟨y.1,by rw[List.length_set];exact y.2⟩];exact al x hx
 have c2:vv j (p.set i false) s (Int.toNat ((j.ab.g i).aB.g u).ah) m=vv j q s (Int.toNat ((j.ab.g i).aB.g u).ah) m:=FL fun x hx=>by
  refine ⟨?_,fun _=>rfl⟩
  by_cases z:x=i
  · subst z;rw[kz,if_pos ⟨rfl,by omega⟩,qi]
  · rw[kz,if_neg fun y=>z y.1.symm,hq x hx z];exact al x hx
 have us:=HZ F hi hu
 rw[show ((Int.toNat ((j.ab.g i).aB.g u).ah:Nat):Int)=((j.ab.g i).aB.g u).ah by omega,us] at e
 unfold OK1
 omega
theorem Ta (a:List Int):∀k i,oO a a k i=none
 | 0,i=>rfl
 | k+1,i=>by rw[oO,eV rfl,Bool.not_true,ai,Ta a k]
theorem amv (a:List Int):nD a a=true:=by
 rw[nD,eV rfl,Bool.not_true,ai,Ta]
theorem ko.amw (x:ko):ko.eq x x=true:=by rw[ko.eq,beq_self_eq_true,beq_self_eq_true];rfl
theorem Span.amw (x:Span):Span.eq x x=true:=by rw[Span.eq,beq_self_eq_true,beq_self_eq_true];rfl
section
variable {a b:bP}
theorem ai8 {i0:Nat} (h:(a.ab.g i0).aB=(b.ab.g i0).aB):∀k i,jZ a i0 b k i=none
 | 0,i=>rfl
 | k+1,i=>by rw[jZ,h,ko.amw,Bool.not_true,ai,ai8 h k]
theorem ai9 (S:SmT a.ab b.ab):∀k i,gE a b k i=none
 | 0,i=>rfl
 | k+1,i=>by rw[gE,S.name,S.takes,S.aD,ai8 (S.aB i),S.aB,amv,eV rfl,eV rfl,eV rfl,Bool.not_true,ai,ai,ai,ai,ai9 S k]
theorem aja {i0:Nat} (h:(a.af.g i0).off=(b.af.g i0).off):∀k i,j0 a i0 b k i=none
 | 0,i=>rfl
 | k+1,i=>by rw[j0,h,Span.amw,Bool.not_true,ai,aja h k]
theorem ajb (h:∀q,KN (a.af.g q) (b.af.g q)):∀k i,gW a b k i=none
 | 0,i=>rfl
 | k+1,i=>by rw[gW,(h i).1,(h i).2.1,aja (h i).2.2,(h i).2.2,eV rfl,eV rfl,eV rfl,Bool.not_true,ai,ai,ai,ajb h k]
theorem ahW (S:SmT a.ab b.ab) (l:a.af.length=b.af.length) (h:∀q,KN (a.af.g q) (b.af.g q)):iQ a b=true:=by
 rw[iQ,ai9 S,ajb h,S.len,l,eV rfl,eV rfl];rfl
end
section
variable {j j2:bP} {aj s2:List Int} {now r u:Int}
theorem X9 {i0:Nat}:∀k i v,iA j i0 r k i v=(v||anyI (fun q=>decide (((j.ab.g i0).aB.g q).ah=r)) k i)
 | 0,i,v=>by rw[iA,anyI,Bool.or_false]
 | k+1,i,v=>by
  rw[iA,X9 k,anyI]
  cases v with
  | true=>rfl
  | false=>rfl
theorem X_ (tm:Tm j aj) (tk:∀i,i<j.ab.length→0≤(j.ab.g i).takes) (K1:∀q,q<j.ab.length→re j aj now r q→s2.g q=aj.g q) (K2:∀q,q<j.ab.length→¬re j aj now r q→now≤s2.g q):∀k i,i+k=j.ab.length→cT j aj now r s2 k i=none
 | 0,i,h=>rfl
 | k+1,i,h=>by
  have hi:i<j.ab.length:=by omega
  have t:=tm i hi
  have t2:=tk i hi
  have ih:=X_ tm tk K1 K2 k (i+1) o!
  have k1:=K1 i hi
  have k2:=K2 i hi
  rw[cT,wrap_i64 o! o!,X9,Bool.false_or,ih]
  by_cases a:aj.g i<now
  · rw[eV a,ao]
    cases b:anyI (fun q=>decide (((j.ab.g i).aB.g q).ah=r)) (j.ab.g i).aB.length 0 with
    | false=>
     rw[k1 ⟨a,.inl fun x hx e=>by have:=mA b x (Nat.zero_le _) o!;rw[eV e] at this;cases this⟩,eV rfl];rfl
    | true=>
     by_cases c:aj.g i+(j.ab.g i).takes≤now
     · rw[eV c,k1 ⟨a,.inr c⟩,eV rfl];rfl
     · have nk:¬re j aj now r i:=fun K=>K.2.elim (fun f=>by
        rw[KI fun n _ hn=>fL (f n o!)] at b;cases b) c
       rw[fL c,fL (by have:=k2 nk;omega:¬s2.g i<now)];rfl
  · rw[fL a,fL (by have:=k2 fun K=>a K.1;omega:¬s2.g i<now)];rfl
theorem X' {m:Int}:∀k i v,gC j2 r m k i v=(v||anyI (fun q=>decide (((j2.af.g r.toNat).off.g q).a8≤m)&&decide (m≤((j2.af.g r.toNat).off.g q).aQ)) k i)
 | 0,i,v=>by rw[gC,anyI,Bool.or_false]
 | k+1,i,v=>by
  rw[gC,X' k,anyI]
  cases v with
  | true=>rfl
  | false=>
   rw[ai,Bool.false_or]
   cases decide (((j2.af.g r.toNat).off.g i).a8≤m)<;>rfl
theorem Ya (n0:0≤now) (un:u≤100000) (C:∀m,now≤m→m≤u→cv (j2.af.g r.toNat).off m):∀(k:Nat) (m:Int),now≤m→fR u now j2 r k m=none
 | 0,m,h=>rfl
 | k+1,m,h=>by
  rw[fR]
  by_cases a:m≤u
  · rw[eV a,ao]
    have e:gC j2 r m (j2.af.g r.toNat).off.length 0 false=true:=by
     rw[X',Bool.false_or]
     cases b:anyI (fun q=>decide (((j2.af.g r.toNat).off.g q).a8≤m)&&decide (m≤((j2.af.g r.toNat).off.g q).aQ)) (j2.af.g r.toNat).off.length 0 with
     | true=>rfl
     | false=>
      obtain ⟨s,hs,c1,c2⟩:=C m h a
      obtain ⟨q,hq,rfl⟩:=VN hs
      have:=mA b q (Nat.zero_le _) o!
      rw[eV c1,eV c2] at this;cases this
    rw[e,Bool.not_true,ai]
    have ih:=Ya n0 un C k (m+1) o!
    first
     | rw[ih];cases decide (m<IntKind.i64.wrap (now+200))<;>rfl
     | rw[ih];cases decide (m<now+200)<;>rfl
     | (rw[wrap_i64 (n:=m+1) o! o!,ih];cases decide (m<IntKind.i64.wrap (now+200))<;>rfl)
  · rw[fL a];rfl
theorem aap {e2:Int} (h:(bif (iI j 8) then true else (decide (100<((aj.length:Nat):Int))))=true∨Ef j aj now r u j2 s2 e2):eF j aj now r u j2 s2 e2=true:=by
 rw[eF]
 cases hv:(bif (iI j 8) then true else (decide (100<((aj.length:Nat):Int)))) with
 | true=>rfl
 | false=>
  rw[hv] at h
  rcases h with h | h
  · cases h
  rw[ai]
  by_cases e0:e2=0
  · rw[eV e0,Bool.not_true,ai]
    have FG:=ai3 h e0
    have M:=aeV FG.cf
    obtain ⟨hf,T⟩:=FG.to
    have S:=T.ab.sm
    have MG:=M.go T FG.few
    have mr0:=M.r0
    have mr1:=M.r1
    have tm2:Tm j2 aj:=fun i hi=>MG.tm i (by have:=MG.sl;omega)
    have tm1:Tm j aj:=(FM M.zw M.sl M.kp).1
    obtain ⟨p,A,al,pl,sl,tm,k1,k2⟩:=ahy MG.zw tm2 M.n0 (by have:=M.n1;have:=M.n2;omega) (fun p _ pk s ps=>afc M T MG.zw pk ps) FG.atx
    rw[←FG.eq] at A sl tm k1 k2
    have K:cm j2 s2=(true,0):=by
     rw[cm,←adR,KZ M.ck M.r0 M.r1 M.n0 M.n1 M.n2 T FG.few,eV rfl,ao,eV (by omega:((s2.length:Nat):Int)=((j2.ab.length:Nat):Int)),V0 MG.zw tm al pl sl A];rfl
    have kq:∀q,re j2 aj now r q↔re j aj now r q:=fun q=>by unfold re;rw[S.aB,S.takes]
    have off:=(F0 (Ad M.zw (r:=r.toNat) o! M.n0 M.n1 M.n2)).2
    rw[←T.off] at off
    have tl:=S.len
    rw[K,T.len,eV rfl,eV rfl]
    have sm:iQ (⟨.aw,j2.ab,.aw,((([]:List aR)++j2.af).set r.toNat (⟨((([]:List aR)++j2.af).g r.toNat).name,((([]:List aR)++j2.af).g r.toNat).aI,(j.af.g r.toNat).cJ,(j.af.g r.toNat).off⟩:aR))⟩:bP) j=true:=by
     refine ahW S (by show (List.set _ _ _).length=_;rw[List.length_set,List.nil_append];exact T.len) fun q=>?_
     show KN ((List.set _ _ _).g q) _
     rw[List.nil_append]
     by_cases c:q=r.toNat
     · subst c
       rw[KP (by rw[T.len];omega)]
       exact ⟨T.name,T.aI,rfl⟩
     · rw[I2 (Ne.symm c)]
       by_cases d:q<j.af.length
       · exact T.res q d c
       · rw[F1 (by rw[T.len];omega),F1 o!];exact ⟨rfl,rfl,rfl⟩
    rw[sm,X_ tm1 (fun i hi=>(M.zw.tk i hi).1) (fun q hq k=>k1 q o! ((kq q).2 k)) (fun q hq k=>k2 q o! fun z=>k ((kq q).1 z)) _ _ (Nat.zero_add _),Ya M.n0 M.n2 (fun m h1 h2=>(off m).2 ⟨_,List.mem_append.2 (.inr (List.mem_singleton.2 rfl)),h1,h2⟩) _ _ (Int.le_refl _)]
    rfl
  · rw[fL e0]
    rcases h with h | h
    · rw[h.2.1,h.2.2.1];rfl
    · exact absurd h.1 e0
end
theorem amx {d:Nat} {h:az} {aJ:AV} (j:bP) (aj:List Int) (now r u:Int) (b7:aK.ok h j) (bA:bT h .i64 3 aJ aj) (bM:Tidy h):cA (d+17) (.fn 5) [(AV.agg [j.au,j.ar]),aJ,(.int .i64 now),(.int .i64 r),(.int .i64 u)] h= .ret (AV.bool true) h:=by
 obtain ⟨j2,s2,e2,F,k⟩:=LZ (d:=d) j aj now r u b7 bA bM
 rw[aap F] at k
 exact k
end
end Go.Proofs.aM
