import Derived.Test.YtijehnelcbdlgaaGreatW0
import Derived.Test.YtijehnelcbdlgaaGreatW1
import Derived.Test.YtijehnelcbdlgaaGreatW7
import Derived.Test.YtijehnelcbdlgaaGreatW10
import Derived.Test.YtijehnelcbdlgaaGreatW4
import Derived.Test.YtijehnelcbdlgaaGreatW2
import Derived.Test.YtijehnelcbdlgaaGreatW3
import Derived.Test.YtijehnelcbdlgaaGreatW8
namespace Go.Proofs.aM
open Go.Proofs Ab
noncomputable section
set_option maxRecDepth 100000
set_option maxHeartbeats 4000000
set_option linter.unusedVariables false
set_option linter.unusedSimpArgs false
theorem dh {p:Prop} (h:p:=by first | omega | assumption | exact fun q hq=>by have u_:=rA aU.toNat o! q hq;omega | exact vg aU.toNat o! | exact fun q hq=>by have u_:=rA aU.toNat o! q hq;exact (du.2.2.2.2 _ o!).le o! | (have t_:=tk_ o!;unfold tq at t_;omega)):p:=h
theorem wP {p:Prop} (h:p:=by first | omega | exact fun r hr=>(du.2.2.2.2 r hr).le o! | exact ⟨fun r hr=>(Jz a! du.2.2.2.2 o! r hr).le o!,by omega,by omega,by omega,Jz a! du.2.2.2.2 o!⟩):p:=h
theorem fX {p:Prop} (h:p:=by first | omega | (simp only[List.length_set,List.length_replicate,dQ]<;>omega) | exact hJ _ | exact ku a!):p:=h
theorem BY {p:Prop} (h:p:=by first | assumption | exact iZ bM o!):p:=h
def pC:Code:=(Tryz.f96.body).getD .skip
theorem Aa:Tryz.f96.body=some pC:=by kernel_rfl
def Sw:Code:=(bl pC).getD 0 .skip
def Sx:Code:=(bl pC).getD 1 .skip
def Sy:Code:=(bl pC).getD 2 .skip
def Sz:Code:=(bl pC).getD 3 .skip
def fw (aj:List Int) (j:bP):Nat→Nat→Option (Bool)
 | 0,_=>none
 | dx+1,i0=>(bif (!(da (aj.g i0))) then some false else (bif (decide (100000<(dk j aj ((i0:Nat):Int)))) then some false else fw aj j dx (i0+1)))
theorem D3 {d:Nat} {h:az} (aJ:AV) (aj:List Int) (j:bP) (bj:Nat) (bp:bT h .i64 3 aJ aj) (cC:aO h j.au j.ab) (dq:aO h j.ar j.af) (fI:aK.ok h j) (fU:∀i,i<j.ab.length→∀q,q<(j.ab.g i).aD.length→0≤(j.ab.g i).aD.g q∧(j.ab.g i).aD.g q<(j.ab.length:Int)) (iB:∀r,r<j.af.length→(j.af.g r).off.length≤16∧∀q,q<(j.af.g r).off.length→0≤((j.af.g r).off.g q).a8∧((j.af.g r).off.g q).aQ≤100000) (mO:∀i,i<j.ab.length→∀q,q<(j.ab.g i).aB.length→0≤((j.ab.g i).aB.g q).ah∧((j.ab.g i).aB.g q).ah<(j.af.length:Int)) (nI:∀i,i<j.ab.length→∀a,a<(j.ab.g i).aB.length→∀b,a<b→b<(j.ab.g i).aB.length→((j.ab.g i).aB.g a).ah≠((j.ab.g i).aB.g b).ah) (o8:∀i,i<j.ab.length→0≤(j.ab.g i).takes∧(j.ab.g i).takes≤100000) (qF:aj.length=j.ab.length) (yL:j.ab.length≤64) (Rt:j.af.length≤16) (Ru:0<j.af.length):∀(k_ i_:Nat) (_:i_+k_=aj.length) (x:Nat→AV) (hh:az) (aF:Tidy hh) (aA:Has h hh) (br:hh.get bj=some (aN.cells [j.au,j.ar] 25 false)),aC (cA (d+3)) Sw ⟨((x 0)::aJ::(Pt bj)::rx x 3 10 (aJ::(Zn aj.length)::(Zn i_)::rx x 16 63 [])),hh,[],.no⟩ (.exit 0) hh (fun y=>((y 0)::aJ::(Pt bj)::rx y 3 10 (aJ::(Zn aj.length)::rx y 15 64 []))) (fun r y=>((y 0)::aJ::(Pt bj)::(y 3)::(AV.bool r)::rx y 5 8 (aJ::(Zn aj.length)::rx y 15 64 []))) (fw aj j k_ i_)
 | 0,i0,eZ,x,hh,aF,aA,br=>by
  have q1:(decide (((i0:Nat):Int)<((aj.length:Nat):Int)))=false:=d!
  exact aC.out rfl (pk (d+3) _ _ hh _ hh (VV (bE 3 false false .i64 ((i0:Nat):Int) ((aj.length:Nat):Int))<|BB q1<|ZZ) k!) (Grow.refl aF) k!
 | dx+1,i0,eZ,x,hh,aF,aA,br=>by
  have q1:(decide (((i0:Nat):Int)<((aj.length:Nat):Int)))=true:=d!
  obtain ⟨p3,q4,gh,_⟩:=(bp.has aA).elem (i:=i0) o!
  have kN:=(bp.has aA).load o! gh
  have k6:=ou (d:=d+1) (aj.g i0) aF
  have ei:=fun {al ps} (k:Pk al _ ps)=>(VV (bE 3 false false .i64 ((i0:Nat):Int) ((aj.length:Nat):Int))<|BC q1<|VV gh<|MM kN<|CN 3<|EE k6<|CN 2<|k:Pk _ [] ps)
  rcases bu (!(da (aj.g i0))) with f1 | f1
  · exact aC.ret false (by simp only[fw,f1,ao,ai]) (pk (d+3) _ _ hh _ hh (ei<|BB f1<|BB f1<|BB f1<|BB f1<|BV f1 (tR true f1)<|TT<|CC<|ZZ) k!) (Grow.refl aF) k!
  · have k8:=qe (d:=d+2) j aj ((i0:Nat):Int) (aK.mono aA fI) (bp.has aA) dh dh dh aF
    have gK:=fun {al ps} (k:Pk al _ ps)=>(ei<|BM f1 (aP 25 0 (AV.agg [j.au,j.ar]) br k!)<|BC f1<|BC f1<|BB f1<|EE k8<|BV f1 (gz 3 false true .i64 (dk j aj ((i0:Nat):Int)) 100000)<|VV (dD (a:=some (AV.bool true)) (b:=some (AV.bool (decide (100000<(dk j aj ((i0:Nat):Int)))))) f1)<|k:Pk _ [] ps)
    rcases bu (decide (100000<(dk j aj ((i0:Nat):Int)))) with f2 | f2
    · exact aC.ret false (by simp only[fw,f1,f2,ao,ai]) (pk (d+3) _ _ hh _ hh (gK<|BC f2<|ZZ) k!) (Grow.refl aF) k!
    · have u10:=eA 3 false true i0 1 o!
      exact aC.round (by simp only[fw,f1,f2,ao,ai]) (pk (d+3) _ _ hh _ hh (gK<|BV f2 u10<|CC<|ZZ) k!) (Grow.refl aF) _ k! (fun x=>D3 aJ aj j bj bp cC dq fI fU iB mO nI o8 qF yL Rt Ru dx (i0+1) o! x hh aF aA br)
theorem AT {j:bP} {aj:List Int} (tk:∀i,i<j.ab.length→0≤(j.ab.g i).takes∧(j.ab.g i).takes≤100000) (hl:aj.length=j.ab.length):∀(k i:Nat),i+k=aj.length→fw aj j k i=none→∀q,i≤q→q<aj.length→0≤aj.g q∧aj.g q+(j.ab.g q).takes≤100000
 | 0,i,e,_,q,h1,h2=>by omega
 | k+1,i,e,h,q,h1,h2=>by
  rw[fw] at h
  cases a:da (aj.g i) with
  | false=>rw[a] at h;cases h
  | true=>
   rw[a] at h
   have ta:0≤aj.g i∧aj.g i≤100000:=by
    unfold da im at a
    by_cases z:0≤aj.g i
    · rw[eV z,ao] at a;exact ⟨z,jv a⟩
    · rw[fL z] at a;cases a
   have tt:=tk i o!
   by_cases b:100000<dk j aj ((i:Nat):Int)
   · rw[eV b] at h;cases h
   · rw[fL b] at h
     by_cases z:q=i
     · subst z
       unfold dk at b
       rw[Int.toNat_natCast,wrap_i64 o! o!] at b
       exact ⟨ta.1,by omega⟩
     · exact AT tk hl k (i+1) o! h q o! h2
theorem uO {j:bP} {aj:List Int} (tk:∀i,i<j.ab.length→0≤(j.ab.g i).takes∧(j.ab.g i).takes≤100000) (hl:aj.length=j.ab.length) (h:fw aj j aj.length 0=none):∀i,i<aj.length→0≤aj.g i∧aj.g i+(j.ab.g i).takes≤100000:=fun q hq=>AT tk hl _ 0 o! h q (Nat.zero_le _) hq
def gV (j:bP) (aU:Int) (aj:List Int):Nat→Nat→Option (Bool)
 | 0,_=>none
 | DD+1,i2=>(bif (decide ((aj.g aU.toNat)<(dk j aj ((j.ab.g aU.toNat).aD.g i2)))) then some false else gV j aU aj DD (i2+1))
theorem D4 {d:Nat} {h:az} (aJ:AV) (aU:Int) (j:bP) (si:Bool) (bC:List Bool) (jh:List Int) (lR:List Tl) (aj:List Int) (jD:Nat) (l5:Nat) (DE:Nat) (U_:Nat) (ak4:Nat) (ky:bT h .i64 3 aJ aj) (lp:aO h j.au j.ab) (xZ:aO h j.ar j.af) (nS:bT h .i64 3 (j.ab.g aU.toNat).bh (j.ab.g aU.toNat).aD) (uM:aK.ok h j) (BQ:aK.ok h (j.ab.g aU.toNat)) (Hl:∀i,i<j.ab.length→∀q,q<(j.ab.g i).aD.length→0≤(j.ab.g i).aD.g q∧(j.ab.g i).aD.g q<(j.ab.length:Int)) (R5:∀r,r<j.af.length→(j.af.g r).off.length≤16∧∀q,q<(j.af.g r).off.length→0≤((j.af.g r).off.g q).a8∧((j.af.g r).off.g q).aQ≤100000) (R6:∀i,i<j.ab.length→∀q,q<(j.ab.g i).aB.length→0≤((j.ab.g i).aB.g q).ah∧((j.ab.g i).aB.g q).ah<(j.af.length:Int)) (Zj:∀i,i<j.ab.length→∀a,a<(j.ab.g i).aB.length→∀b,a<b→b<(j.ab.g i).aB.length→((j.ab.g i).aB.g a).ah≠((j.ab.g i).aB.g b).ah) (Zk:∀i,i<j.ab.length→0≤(j.ab.g i).takes∧(j.ab.g i).takes≤100000) (Zl:aj.length=j.ab.length) (ak5:j.ab.length≤64) (ak6:j.af.length≤16) (ak7:0<j.af.length) (asx:0≤aU) (aoO:aU<(j.ab.length:Int)) (aoP:lR.length=((ay j).1.length)):∀(k_ i_:Nat) (_:i_+k_=((j.ab.g aU.toNat).aD.length)) (x:Nat→AV) (hh:az) (aF:Tidy hh) (aA:Has h hh) (iO:hh.get jD=some (aN.cells [j.au,j.ar] 25 false)) (nA:hh.get l5=some (aN.cells [j.au,j.ar,(AV.slice DE 0 j.ab.length j.ab.length false),(AV.slice U_ 0 j.ab.length j.ab.length false),(AV.slice ak4 0 (ay j).1.length (ay j).1.length si)] 103 false)) (wH:hh.get DE=some (aN.cells (bs bC) 4 false)) (Pn:hh.get U_=some (aN.cells (zs .i64 jh) 3 false)) (agY:hh.get ak4=some (aN.cells (kL lR) 156 false)),aC (cA (d+3)) Sy ⟨((x 0)::aJ::(Pt jD)::rx x 3 4 ((Pt l5)::(Zi aU)::rx x 9 25 (j.au::(Zn j.ab.length)::(Zi aU)::rx x 37 5 (((j.ab.g aU.toNat).bh)::(Zn (j.ab.g aU.toNat).aD.length)::(Zn i_)::rx x 45 34 [])))),hh,[],.no⟩ (.exit 4) hh (fun y=>((y 0)::aJ::(Pt jD)::rx y 3 4 ((Pt l5)::(Zi aU)::rx y 9 25 (j.au::(Zn j.ab.length)::(Zi aU)::rx y 37 5 (((j.ab.g aU.toNat).bh)::(Zn (j.ab.g aU.toNat).aD.length)::rx y 44 35 []))))) (fun r y=>((y 0)::aJ::(Pt jD)::(y 3)::(AV.bool r)::(y 5)::(y 6)::(Pt l5)::(Zi aU)::rx y 9 25 (j.au::(Zn j.ab.length)::(Zi aU)::rx y 37 5 (((j.ab.g aU.toNat).bh)::(Zn (j.ab.g aU.toNat).aD.length)::rx y 44 35 [])))) (gV j aU aj k_ i_)
 | 0,i2,eZ,x,hh,aF,aA,iO,nA,wH,Pn,agY=>by
  have q1:(decide (((i2:Nat):Int)<(((j.ab.g aU.toNat).aD.length:Nat):Int)))=false:=d!
  exact aC.out rfl (pk (d+3) _ _ hh _ hh (VV (bE 3 false false .i64 ((i2:Nat):Int) (((j.ab.g aU.toNat).aD.length:Nat):Int))<|BB q1<|ZZ) k!) (Grow.refl aF) k!
 | DD+1,i2,eZ,x,hh,aF,aA,iO,nA,wH,Pn,agY=>by
  have Ft:=ky.small
  have J0:=lp.small
  have US:=xZ.small
  have OY:=nS.small
  have acO:=aF _ _ iO
  have agH:=aF _ _ nA
  have aor:=aF _ _ wH
  have asy:=aF _ _ Pn
  have auZ:=aF _ _ agY
  have kn_:=Hl aU.toNat o! i2
  have q1:(decide (((i2:Nat):Int)<(((j.ab.g aU.toNat).aD.length:Nat):Int)))=true:=d!
  obtain ⟨p3,q4,gh,_⟩:=(nS.has aA).elem (i:=i2) o!
  have kN:=(nS.has aA).load o! gh
  obtain ⟨p7,q8,Se,_⟩:=(ky.has aA).elem (i:=aU.toNat) o!
  have MH:=xn Se o!
  have O9:=(ky.has aA).load o! Se
  have YJ:=qe (d:=d+2) j aj ((j.ab.g aU.toNat).aD.g i2) (aK.mono aA uM) (ky.has aA) dh dh dh aF
  have c11:=dK 18 (kK (lp.has aA).same (kK (xZ.has aA).same CK))
  have n9:=fun {al ps} (k:Pk al _ ps)=>(VV (bE 3 false false .i64 ((i2:Nat):Int) (((j.ab.g aU.toNat).aD.length:Nat):Int))<|BV q1 gh<|MM kN<|CN 3<|VV MH<|MM O9<|MM (aP 25 0 (AV.agg [j.au,j.ar]) iO k!)<|CN 2<|EE YJ<|VV (bE 3 false false .i64 (aj.g aU.toNat) (dk j aj ((j.ab.g aU.toNat).aD.g i2)))<|HH O9<|HH (show AV.same 20 (Zi (aj.g aU.toNat)) (Zi (aj.g aU.toNat))=true from aS 19 _ _)<|HH O9<|HH (show AV.same 20 (Zi (aj.g aU.toNat)) (Zi (aj.g aU.toNat))=true from aS 19 _ _)<|HH (aP 25 0 (AV.agg [j.au,j.ar]) iO k!)<|HH c11<|k:Pk _ [] ps)
  rcases bu (decide ((aj.g aU.toNat)<(dk j aj ((j.ab.g aU.toNat).aD.g i2)))) with f1 | f1
  · have eB:=jv f1
    exact aC.ret false (by simp only[gV,f1,ao,ai]) (pk (d+3) _ _ hh _ hh (n9<|BC f1<|ZZ) k!) (Grow.refl aF) k!
  · have eB:=pK f1
    have u13:=eA 3 false true i2 1 o!
    exact aC.round (by simp only[gV,f1,ao,ai]) (pk (d+3) _ _ hh _ hh (n9<|BV f1 u13<|CC<|ZZ) k!) (Grow.refl aF) _ k! (fun x=>D4 aJ aU j si bC jh lR aj jD l5 DE U_ ak4 ky lp xZ nS uM BQ Hl R5 R6 Zj Zk Zl ak5 ak6 ak7 asx aoO aoP DD (i2+1) o! x hh aF aA iO nA wH Pn agY)
def jG (j:bP) (aj:List Int):Nat→Int→List Bool→List Int→List Tl→(List Bool×List Int×List Tl)⊕(Bool)
 | 0,aU,bC,jh,lR=>Sum.inl (bC,jh,lR)
 | nK+1,aU,bC,jh,lR=>(bif (decide (aU<((j.ab.length:Nat):Int))) then (match (gV j aU aj (j.ab.g aU.toNat).aD.length 0) with | none=>jG j aj nK (aU+1) (di j bC jh lR aU (aj.g aU.toNat)).1 (di j bC jh lR aU (aj.g aU.toNat)).2.1 (di j bC jh lR aU (aj.g aU.toNat)).2.2 | some Kn=>Sum.inr Kn) else Sum.inl (bC,jh,lR))
theorem D5 {d:Nat} {h:az} (aJ:AV) (j:bP) (si:Bool) (aj:List Int) (b6:Nat) (dv:Nat) (ie:Nat) (iL:Nat) (lF:Nat) (eP:bT h .i64 3 aJ aj) (dW:aO h j.au j.ab) (mr:aO h j.ar j.af) (mQ:aK.ok h j) (o9:∀i,i<j.ab.length→∀q,q<(j.ab.g i).aD.length→0≤(j.ab.g i).aD.g q∧(j.ab.g i).aD.g q<(j.ab.length:Int)) (rz:∀r,r<j.af.length→(j.af.g r).off.length≤16∧∀q,q<(j.af.g r).off.length→0≤((j.af.g r).off.g q).a8∧((j.af.g r).off.g q).aQ≤100000) (rA:∀i,i<j.ab.length→∀q,q<(j.ab.g i).aB.length→0≤((j.ab.g i).aB.g q).ah∧((j.ab.g i).aB.g q).ah<(j.af.length:Int)) (vg:∀i,i<j.ab.length→∀a,a<(j.ab.g i).aB.length→∀b,a<b→b<(j.ab.g i).aB.length→((j.ab.g i).aB.g a).ah≠((j.ab.g i).aB.g b).ah) (Ds:∀i,i<j.ab.length→0≤(j.ab.g i).takes∧(j.ab.g i).takes≤100000) (Fo:aj.length=j.ab.length) (Pa:j.ab.length≤64) (U1:j.af.length≤16) (agM:0<j.af.length) (adk:∀i,i<aj.length→0≤aj.g i∧aj.g i+(j.ab.g i).takes≤100000) (bM:Tidy h) (Jb:h.nx≤b6) (Uc:h.nx≤dv) (ak8:h.nx≤ie) (ak9:h.nx≤iL) (asz:h.nx≤lF) (Bt:dv≠b6) (U':ie≠b6) (Va:ie≠dv) (Vb:iL≠b6) (Vc:iL≠dv) (Vd:iL≠ie) (ala:lF≠b6) (alb:lF≠dv) (ald:lF≠ie) (ale:lF≠iL):∀(k_:Nat) (aU:Int) (bC:List Bool) (jh:List Int) (lR:List Tl) (_:((j.ab.length:Nat):Int) - aU≤(k_:Int)) (_:((∀ri,ri<(lR).length→tq 161 ((lR).g ri))∧(0≤aU∧aU≤(j.ab.length:Int)∧(lR).length=j.af.length∧∀ri,ri<(lR).length→tq (33+2*aU) ((lR).g ri)))) (x:Nat→AV) (hh:az) (aF:Tidy hh) (aA:Has h hh) (fN:h.nx≤hh.nx) (qH:bC.length=j.ab.length) (SA:jh.length=j.ab.length) (aiH:lR.length=((ay j).1.length)) (cz:hh.get b6=some (aN.cells [j.au,j.ar] 25 false)) (d_:hh.get dv=some (aN.cells [j.au,j.ar,(AV.slice ie 0 j.ab.length j.ab.length false),(AV.slice iL 0 j.ab.length j.ab.length false),(AV.slice lF 0 (ay j).1.length (ay j).1.length si)] 103 false)) (oU:hh.get ie=some (aN.cells (bs bC) 4 false)) (pN:hh.get iL=some (aN.cells (zs .i64 jh) 3 false)) (Hq:hh.get lF=some (aN.cells (kL lR) 156 false)),bY (σ:=List Bool×List Int×List Tl) (ρ:=Bool) (cA (d+3)) Sx ⟨((x 0)::aJ::(Pt b6)::rx x 3 4 ((Pt dv)::rx x 8 26 (j.au::(Zn j.ab.length)::(Zi aU)::rx x 37 42 []))),hh,[],.no⟩ (.exit 2) hh (fun r z y=>((y 0)::aJ::(Pt b6)::rx y 3 4 ((Pt dv)::rx y 8 26 (j.au::(Zn j.ab.length)::rx y 36 43 [])))) (fun r z y=>((y 0)::aJ::(Pt b6)::(y 3)::(AV.bool r)::(y 5)::(y 6)::(Pt dv)::rx y 8 26 (j.au::(Zn j.ab.length)::rx y 36 43 []))) (fun r z hk=>Has h hk∧hk.get b6=some (aN.cells [j.au,j.ar] 25 false)∧hk.get dv=some (aN.cells [j.au,j.ar,(AV.slice ie 0 j.ab.length j.ab.length false),(AV.slice iL 0 j.ab.length j.ab.length false),(AV.slice lF 0 (ay j).1.length (ay j).1.length si)] 103 false)∧hk.get ie=some (aN.cells (bs r.1) 4 false)∧hk.get iL=some (aN.cells (zs .i64 r.2.1) 3 false)∧hk.get lF=some (aN.cells (kL r.2.2) 156 false)∧r.1.length=j.ab.length∧r.2.1.length=j.ab.length∧r.2.2.length=((ay j).1.length)∧(∀ri,ri<(r.2.2).length→tq 161 ((r.2.2).g ri))) (fun r z hk=>Has h hk) (jG j aj k_ aU bC jh lR)
 | 0,aU,bC,jh,lR,eZ,du,x,hh,aF,aA,fN,qH,SA,aiH,cz,d_,oU,pN,Hq=>by
  have q1:(decide (aU<((j.ab.length:Nat):Int)))=false:=d!
  exact bY.out (bC,jh,lR) aL rfl (pk (d+3) _ _ hh _ hh (VV (bE 3 false false .i64 aU ((j.ab.length:Nat):Int))<|BB q1<|ZZ) k!) aF o! ⟨aA,cz,d_,oU,pN,Hq,fX,fX,fX,(show (∀ri,ri<(lR).length→tq 161 ((lR).g ri)) from wP)⟩ k!
 | nK+1,aU,bC,jh,lR,eZ,du,x,hh,aF,aA,fN,qH,SA,aiH,cz,d_,oU,pN,Hq=>by
  have pV:=eP.small
  have rC:=dW.small
  have Fx:=mr.small
  have E2:=aF _ _ cz
  have Oo:=aF _ _ d_
  have akL:=aF _ _ oU
  have akM:=aF _ _ pN
  have ar8:=aF _ _ Hq
  have ks_:=adk aU.toNat
  have kt_:=Ds aU.toNat
  have s5:=fun {al ps} (k:Pk al _ ps)=>(VV (bE 3 false false .i64 aU ((j.ab.length:Nat):Int))<|k:Pk _ [] ps)
  rcases bu (decide (aU<((j.ab.length:Nat):Int))) with f0 | f0
  · have ja:=jv f0
    obtain ⟨p3,q4,mu⟩:=dW.elem (i:=aU.toNat) o!
    have gh:=xn mu o!
    have kN:=(dW.has aA).load o! mu
    obtain ⟨h6,kV,ig,uz,jc,bB⟩:=gQ aF (aN.cells [(AV.str []),(Zi 0),AV.aw,AV.aw] 48 false)
    have gL:=aA.trans bB
    have C6:=((dW.ok (i:=aU.toNat) o!).2.1).scalar
    have MQ:=((dW.ok (i:=aU.toNat) o!).2.2).scalar
    obtain ⟨h7,jw,dM,r5,dS,aX⟩:=j_ (t:=48) (n:=4) (i:=hh.nx) (L:=[(AV.str (j.ab.g aU.toNat).name),(Zi (j.ab.g aU.toNat).takes),(j.ab.g aU.toNat).bh,(j.ab.g aU.toNat).bo]) ig jc k! rfl rfl (kJ rfl (kJ rfl (kJ C6 (kJ MQ rfl))))
    have cV:=Has.bK gL aX bM o!
    have uN:=((dW.ok (i:=aU.toNat) o!).2.1).len
    have vR:=fun {al ps} (k:Pk al _ ps)=>(s5<|BC f0<|VV gh<|MM kN<|NN kV (fun i=>(Pt i))<|CC<|SS jw<|CC<|MM (aP 26 2 (j.ab.g aU.toNat).bh dS k!)<|VV uN<|CC<|k:Pk _ [] ps)
    have adu:=D4 (d:=d) (h:=h) aJ aU j si bC jh lR aj b6 dv ie iL lF eP dW mr (dW.ok (i:=aU.toNat) o!).2.1 mQ (dW.ok (i:=aU.toNat) o!) a! a! a! a! a! o! o! o! o! o! o! o! (j.ab.g aU.toNat).aD.length 0 o! (dr ((x 0)::aJ::(Pt b6)::rx x 3 4 ((Pt dv)::(Zi aU)::(Pt hh.nx)::rx x 10 24 (j.au::(Zn j.ab.length)::(Zi aU)::(AV.bool (decide (aU<((j.ab.length:Nat):Int))))::(Zi aU)::(AV.ptr p3 q4)::(AV.agg [(AV.str (j.ab.g aU.toNat).name),(Zi (j.ab.g aU.toNat).takes),(j.ab.g aU.toNat).bh,(j.ab.g aU.toNat).bo])::(AV.ptr hh.nx 2)::((j.ab.g aU.toNat).bh)::(Zn (j.ab.g aU.toNat).aD.length)::(Zi 0)::rx x 45 34 [])))) h7 dM cV (aX _ _ o! (bB _ _ cz)) (aX _ _ o! (bB _ _ d_)) (aX _ _ o! (bB _ _ oU)) (aX _ _ o! (bB _ _ pN)) (aX _ _ o! (bB _ _ Hq))
    cases ma:gV j aU aj (j.ab.g aU.toNat).aD.length 0 with
    | none=>
     obtain ⟨FA,pH,mX,dj⟩:=aC.n ma adu
     have hD:=dj.y
     have Dc:h7.nx≤pH.nx:=dj.n
     have eT:=cV.trans dj.a
     obtain ⟨p14,q15,SB,_⟩:=eP.elem (i:=aU.toNat) o!
     have JX:=xn SB o!
     have Hk:=(eP.has eT).load o! SB
     obtain ⟨Y0,Jf,WK,HQ,C9,je⟩:=dI hD (dj.a _ _ (aX _ _ o! (bB _ _ oU)))
     have Ve:=bL eT BY je
     obtain ⟨agZ,Vf,ag0,Po,Pp,qu⟩:=dI Jf ((je _ o!).trans (dj.a _ _ (aX _ _ o! (bB _ _ pN))))
     have FH:agZ.get ie=none:=(qu _ o!).trans HQ
     have Pq:=bL Ve BY qu
     obtain ⟨alf,alg,aql,ag1,ag2,D6⟩:=dI Vf ((qu _ o!).trans ((je _ o!).trans (dj.a _ _ (aX _ _ o! (bB _ _ Hq)))))
     have ZL:alf.get ie=none:=(D6 _ o!).trans FH
     have ZM:alf.get iL=none:=(D6 _ o!).trans Po
     have adT:=bL Pq BY D6
     obtain ⟨Y1,aoQ,AG,aiI,Vg,ag3,aqm,ag4,aqn,ag5,aqo⟩:=HU (d:=d) (h:=alf) (pqN:=j.ab.length) (sqN:=j.ab.length) (tqN:=((ay j).1.length)) (tqF:=si) j bC jh lR aU (aj.g aU.toNat) (aK.mono adT mQ) (dj.a _ _ (aX _ _ o! (bB _ _ oU))) fX ZL (dj.a _ _ (aX _ _ o! (bB _ _ pN))) fX ZM (dj.a _ _ (aX _ _ o! (bB _ _ Hq))) fX ag1 dh dh dh dh dh dh dh dh dh dh o! o! o! alg hD (ag2.trans (Pp.trans C9)) o!
     have asA:=Dk j bC jh lR aU (aj.g aU.toNat) dh dh dh dh
     have Jg:=(adT.trans Vg)
     have c21:AV.same 20 (AV.agg [j.au,j.ar,(AV.slice ie 0 j.ab.length j.ab.length false),(AV.slice iL 0 j.ab.length j.ab.length false),(AV.slice lF 0 (ay j).1.length (ay j).1.length si)]) (AV.agg [j.au,j.ar,(AV.slice ie 0 j.ab.length j.ab.length false),(AV.slice iL 0 j.ab.length j.ab.length false),(AV.slice lF 0 (ay j).1.length (ay j).1.length si)])=true:=dK 18 (kK dW.same (kK mr.same (kK (fun n=>by simp [AV.same]) (kK (fun n=>by simp [AV.same]) (kK (fun n=>by simp [AV.same]) CK)))))
     have w22:IntKind.i64.wrap (aU+1)=aU+1:=wrap_i64 o! o!
     exact bY.round (by simp only[jG,f0,ma,ao,ai]) (pk (d+3) _ _ hh _ Y1 (vR<|LL mX<|MM (aP 103 0 (AV.agg [j.au,j.ar,(AV.slice ie 0 j.ab.length j.ab.length false),(AV.slice iL 0 j.ab.length j.ab.length false),(AV.slice lF 0 (ay j).1.length (ay j).1.length si)]) (dj.a _ _ (aX _ _ o! (bB _ _ d_))) k!)<|CN 3<|VV JX<|MM Hk<|EE aoQ<|HH (aP 103 0 (AV.agg [j.au,j.ar,(AV.slice ie 0 j.ab.length j.ab.length false),(AV.slice iL 0 j.ab.length j.ab.length false),(AV.slice lF 0 (ay j).1.length (ay j).1.length si)]) (dj.a _ _ (aX _ _ o! (bB _ _ d_))) k!)<|HH c21<|HH Hk<|HH (show AV.same 20 (Zi (aj.g aU.toNat)) (Zi (aj.g aU.toNat))=true from aS 19 _ _)<|VV (qE 3 false true w22)<|CC<|ZZ) k!) o! _ k! (fun x=>D5 aJ j si aj b6 dv ie iL lF eP dW mr mQ o9 rz rA vg Ds Fo Pa U1 agM adk bM Jb Uc ak8 ak9 asz Bt U' Va Vb Vc Vd ala alb ald ale nK (aU+1) (di j bC jh lR aU (aj.g aU.toNat)).1 (di j bC jh lR aU (aj.g aU.toNat)).2.1 (di j bC jh lR aU (aj.g aU.toNat)).2.2 wP (show ((∀ri,ri<((di j bC jh lR aU (aj.g aU.toNat)).2.2).length→tq 161 ((di j bC jh lR aU (aj.g aU.toNat)).2.2.g ri))∧(0≤(aU+1)∧(aU+1)≤(j.ab.length:Int)∧((di j bC jh lR aU (aj.g aU.toNat)).2.2).length=j.af.length∧∀ri,ri<((di j bC jh lR aU (aj.g aU.toNat)).2.2).length→tq (33+2*(aU+1)) ((di j bC jh lR aU (aj.g aU.toNat)).2.2.g ri))) from wP) x Y1 AG Jg o! fX fX fX (Vg _ _ ((D6 _ o!).trans ((qu _ o!).trans ((je _ o!).trans (dj.a _ _ (aX _ _ o! (bB _ _ cz))))))) (Vg _ _ ((D6 _ o!).trans ((qu _ o!).trans ((je _ o!).trans (dj.a _ _ (aX _ _ o! (bB _ _ d_))))))) ag3 ag4 ag5)
    | some Kn=>
     obtain ⟨FA,pH,mX,dj⟩:=aC.r ma adu
     have hD:=dj.y
     have Dc:h7.nx≤pH.nx:=dj.n
     have eT:=cV.trans dj.a
     exact bY.ret Kn aL (by simp only[jG,f0,ma,ao,ai]) (pk (d+3) _ _ hh _ pH (vR<|LL mX<|ZZ) k!) hD o! eT k!
  · exact bY.out (bC,jh,lR) aL (by simp only[jG,f0,ao,ai]) (pk (d+3) _ _ hh _ hh (s5<|BB f0<|ZZ) k!) aF o! ⟨aA,cz,d_,oU,pN,Hq,fX,fX,fX,(show (∀ri,ri<(lR).length→tq 161 ((lR).g ri)) from wP)⟩ k!
def kB (j:bP) (uP:List Bool×List Int×List Tl):Nat→Nat→Option (Bool)
 | 0,_=>none
 | DF+1,i3=>(bif (!(lQ (fit (uP.2.2.g i3).l))) then some false else kB j uP DF (i3+1))
theorem D7 {d:Nat} {h:az} (j:bP) (si:Bool) (uP:List Bool×List Int×List Tl) (aj:List Int) (nU:Nat) (sd:Nat) (se:Nat) (FI:Nat) (lP:aO h j.au j.ab) (vu:aO h j.ar j.af) (BR:aK.ok h j) (R8:∀i,i<j.ab.length→∀q,q<(j.ab.g i).aD.length→0≤(j.ab.g i).aD.g q∧(j.ab.g i).aD.g q<(j.ab.length:Int)) (Zo:∀r,r<j.af.length→(j.af.g r).off.length≤16∧∀q,q<(j.af.g r).off.length→0≤((j.af.g r).off.g q).a8∧((j.af.g r).off.g q).aQ≤100000) (Zp:∀i,i<j.ab.length→∀q,q<(j.ab.g i).aB.length→0≤((j.ab.g i).aB.g q).ah∧((j.ab.g i).aB.g q).ah<(j.af.length:Int)) (Zq:∀i,i<j.ab.length→∀a,a<(j.ab.g i).aB.length→∀b,a<b→b<(j.ab.g i).aB.length→((j.ab.g i).aB.g a).ah≠((j.ab.g i).aB.g b).ah) (Zr:∀i,i<j.ab.length→0≤(j.ab.g i).takes∧(j.ab.g i).takes≤100000) (Zs:aj.length=j.ab.length) (asB:j.ab.length≤64) (asC:j.af.length≤16) (asD:0<j.af.length) (asE:uP.2.2.length=((ay j).1.length)) (aiJ:∀r,r<uP.2.2.length→tq 161 (uP.2.2.g r)) (aoR:uP.2.2.length≤1000):∀(k_ i_:Nat) (_:i_+k_=((ay j).1.length)) (x:Nat→AV) (hh:az) (aF:Tidy hh) (aA:Has h hh) (mh:hh.get nU=some (aN.cells [j.au,j.ar,(AV.slice sd 0 j.ab.length j.ab.length false),(AV.slice se 0 j.ab.length j.ab.length false),(AV.slice FI 0 (ay j).1.length (ay j).1.length si)] 103 false)) (py:hh.get sd=some (aN.cells (bs uP.1) 4 false)) (ov:hh.get se=some (aN.cells (zs .i64 uP.2.1) 3 false)) (Hv:hh.get FI=some (aN.cells (kL uP.2.2) 156 false)),aC (cA (d+3)) Sz ⟨(rx x 0 7 ((Pt nU)::rx x 8 60 ((Zn (ay j).1.length)::(Zn i_)::rx x 70 9 []))),hh,[],.no⟩ (.exit 6) hh (fun y=>(rx y 0 7 ((Pt nU)::rx y 8 60 ((Zn (ay j).1.length)::rx y 69 10 [])))) (fun r y=>(rx y 0 4 ((AV.bool r)::(y 5)::(y 6)::(Pt nU)::rx y 8 60 ((Zn (ay j).1.length)::rx y 69 10 [])))) (kB j uP k_ i_)
 | 0,i3,eZ,x,hh,aF,aA,mh,py,ov,Hv=>by
  have q1:(decide (((i3:Nat):Int)<((((ay j).1.length):Nat):Int)))=false:=d!
  exact aC.out rfl (pk (d+3) _ _ hh _ hh (VV (bE 3 false false .i64 ((i3:Nat):Int) ((((ay j).1.length):Nat):Int))<|BB q1<|ZZ) k!) (Grow.refl aF) k!
 | DF+1,i3,eZ,x,hh,aF,aA,mh,py,ov,Hv=>by
  have J1:=lP.small
  have OZ:=vu.small
  have agI:=aF _ _ mh
  have akA:=aF _ _ py
  have akB:=aF _ _ ov
  have asF:=aF _ _ Hv
  have tk_:=aiJ i3
  have q1:(decide (((i3:Nat):Int)<((((ay j).1.length):Nat):Int)))=true:=d!
  have gh:hG env (some (.slice 156)) (some (AV.slice FI 0 (ay j).1.length (ay j).1.length si)) (some (Zn i3))=some (AV.ptr FI (0+i3*324)):=CP (z:=324) (k:=i3) k! o! o!
  have k3:=U9 (d:=d+2) (fit (uP.2.2.g i3).l) FI (0+i3*324) (Om Hv o!) (by rw[(C1 o!).2];omega) (wq _) dh dh aF
  have Fw:=fun {al ps} (k:Pk al _ ps)=>(VV (bE 3 false false .i64 ((i3:Nat):Int) ((((ay j).1.length):Nat):Int))<|BB q1<|CN 3<|MM (aP 101 4 (AV.slice FI 0 (ay j).1.length (ay j).1.length si) mh k!)<|CC<|VV gh<|EE k3<|CC<|k:Pk _ [] ps)
  rcases bu (!(lQ (fit (uP.2.2.g i3).l))) with f1 | f1
  · exact aC.ret false (by simp only[kB,f1,ao,ai]) (pk (d+3) _ _ hh _ hh (Fw<|BC f1<|ZZ) k!) (Grow.refl aF) k!
  · have u5:=eA 3 false true i3 1 o!
    exact aC.round (by simp only[kB,f1,ao,ai]) (pk (d+3) _ _ hh _ hh (Fw<|BV f1 u5<|CC<|ZZ) k!) (Grow.refl aF) _ k! (fun x=>D7 j si uP aj nU sd se FI lP vu BR R8 Zo Zp Zq Zr Zs asB asC asD asE aiJ aoR DF (i3+1) o! x hh aF aA mh py ov Hv)
def od (j:bP) (aj:List Int):Bool:=(match (fw aj j aj.length 0) with | none=>(match (jG j aj (((j.ab.length:Nat):Int) - 0).toNat 0 (ay j).2.1 (ay j).2.2 (ay j).1) with | Sum.inl uP=>(match (kB j uP (ay j).1.length 0) with | none=>true | some alh=>alh) | Sum.inr Vh=>Vh) | some rr3=>rr3)
theorem ZN {d:Nat} {h:az} {aJ:AV} (j:bP) (aj:List Int) (b7:aK.ok h j) (bA:bT h .i64 3 aJ aj) (mf:∀i,i<j.ab.length→∀q,q<(j.ab.g i).aD.length→0≤(j.ab.g i).aD.g q∧(j.ab.g i).aD.g q<(j.ab.length:Int)) (oQ:∀r,r<j.af.length→(j.af.g r).off.length≤16∧∀q,q<(j.af.g r).off.length→0≤((j.af.g r).off.g q).a8∧((j.af.g r).off.g q).aQ≤100000) (xU:∀i,i<j.ab.length→∀q,q<(j.ab.g i).aB.length→0≤((j.ab.g i).aB.g q).ah∧((j.ab.g i).aB.g q).ah<(j.af.length:Int)) (Ak:∀i,i<j.ab.length→∀a,a<(j.ab.g i).aB.length→∀b,a<b→b<(j.ab.g i).aB.length→((j.ab.g i).aB.g a).ah≠((j.ab.g i).aB.g b).ah) (Ha:∀i,i<j.ab.length→0≤(j.ab.g i).takes∧(j.ab.g i).takes≤100000) (Y5:aj.length=j.ab.length) (pre6:j.ab.length≤64) (ab7:j.af.length≤16) (aj5:0<j.af.length) (bM:Tidy h):cA (d+4) (.fn 96) [(AV.agg [j.au,j.ar]),aJ] h= .ret (AV.bool (od j aj)) h:=by
 have oA:=bA.small
 have l7:=b7.1.small
 have l8:=b7.2.small
 obtain ⟨h1,dw,de,jW,bx,ca⟩:=gQ bM (aN.cells [j.au,j.ar] 25 false)
 have bD:=ca
 have JH:=bA.len
 have Ex:=fun {al ps} (k:Pk al _ ps)=>(NN dw (fun i=>(Pt i))<|CN 2<|VV JH<|CC<|k:Pk _ [] ps)
 have Sn:=D3 (d:=d) (h:=h) aJ aj j h.nx bA b7.1 b7.2 b7 a! a! a! a! a! o! o! o! o! aj.length 0 o! (dr ((AV.agg [j.au,j.ar])::aJ::(Pt h.nx)::aL::(AV.bool false)::aL::aL::aL::aL::aL::aL::aL::aL::aJ::(Zn aj.length)::(Zi 0)::iW 63)) h1 de bD bx
 cases mE:fw aj j aj.length 0 with
 | none=>
  obtain ⟨MR,h4,jX,fV⟩:=aC.n mE Sn
  have ij:=fV.y
  have UD:h1.nx≤h4.nx:=fV.n
  have fq:=bD.trans fV.a
  obtain ⟨pb5,sb6,zb7,gb8,lY,XD,uc,Ko,Kq,Vi,ali,alj,alk,alm,aln,alo,alp,alq⟩:=wu (d:=d) j (aK.mono fq b7) dh dh dh ij
  have iU:=uc.y
  have acr:h4.nx≤lY.nx:=uc.n
  have alr:=uH j a!
  obtain ⟨qb9,si,rfl,asG,adU⟩:=pL.block Vi o!
  have my:=fq.trans uc.a
  have Kr:=uc.a
  have aoS:=iU _ _ Ko
  have aoT:=iU _ _ Kq
  have aup:=iU _ _ adU
  obtain ⟨pH,AO,hD,R_,tX,dZ⟩:=gQ iU (aN.cells [AV.aw,AV.aw,AV.aw,AV.aw,AV.aw] 103 false)
  have eT:=my.trans dZ
  have Kt:=Kr.trans dZ
  have FJ:=dZ
  have J3:=b7.1.scalar
  have ZO:=b7.2.scalar
  obtain ⟨rk,rL,jy,Df,l_,dC⟩:=j_ (t:=103) (n:=5) (i:=lY.nx) (L:=[j.au,j.ar,(AV.slice pb5 0 j.ab.length j.ab.length false),(AV.slice sb6 0 j.ab.length j.ab.length false),(AV.slice qb9 0 (ay j).1.length (ay j).1.length si)]) hD tX k! rfl rfl (kJ J3 (kJ ZO rfl))
  have gG:=Has.bK eT dC bM o!
  have Ku:=Has.bK Kt dC ij o!
  have ZP:=Has.bK FJ dC iU o!
  have ag6:=b7.1.len
  have Hp:=fun {al ps} (k:Pk al _ ps)=>(Ex<|LL jX<|MM (aP 25 0 (AV.agg [j.au,j.ar]) (fV.a _ _ bx) k!)<|EE XD<|NN AO (fun i=>(Pt i))<|SS rL<|CC<|MM (aP 22 0 j.au (dC _ _ o! (dZ _ _ (uc.a _ _ (fV.a _ _ bx)))) k!)<|VV ag6<|CC<|k:Pk _ [] ps)
  have Kc:=D5 (d:=d) (h:=h) aJ j si aj h.nx lY.nx pb5 sb6 qb9 bA b7.1 b7.2 b7 a! a! a! a! a! o! o! o! o! (uO a! a! a!) bM o! o! o! o! o! o! o! o! o! o! o! o! o! o! o! (((j.ab.length:Nat):Int) - 0).toNat 0 (ay j).2.1 (ay j).2.2 (ay j).1 o! (show ((∀ri,ri<((ay j).1).length→tq 161 ((ay j).1.g ri))∧(0≤0∧0≤(j.ab.length:Int)∧((ay j).1).length=j.af.length∧∀ri,ri<((ay j).1).length→tq (33+2*0) ((ay j).1.g ri))) from ⟨fun r hr=>(JA a! r hr).le o!,by omega,by omega,by omega,JA a!⟩) (dr ((MR 0)::aJ::(Pt h.nx)::rx MR 3 4 ((Pt lY.nx)::rx MR 8 5 (aJ::(Zn aj.length)::rx MR 15 16 ((AV.agg [j.au,j.ar])::(AV.agg [j.au,j.ar,(AV.slice pb5 0 j.ab.length j.ab.length false),(AV.slice sb6 0 j.ab.length j.ab.length false),(AV.slice qb9 0 (ay j).1.length (ay j).1.length si)])::(Pt h.nx)::j.au::(Zn j.ab.length)::(Zi 0)::rx MR 37 42 []))))) rk jy gG o! fX fX fX (dC _ _ o! (dZ _ _ (uc.a _ _ (fV.a _ _ bx)))) l_ (dC _ _ o! (dZ _ _ Ko)) (dC _ _ o! (dZ _ _ Kq)) (dC _ _ o! (dZ _ _ adU))
  cases qv:jG j aj (((j.ab.length:Nat):Int) - 0).toNat 0 (ay j).2.1 (ay j).2.2 (ay j).1 with
  | inl uP=>
   obtain ⟨als,nB,Pr,wQ,M',adV,BZ,ag7,H6,XE,XF,ag8,ag9,aha,aqp,adW⟩:=bY.n qv Kc
   have zk:=BZ
   have LP:=fun {al ps} (k:Pk al _ ps)=>(Hp<|LL wQ<|CC<|MM (aP 101 4 (AV.slice qb9 0 (ay j).1.length (ay j).1.length si) H6 k!)<|CN 2<|k:Pk _ [] ps)
   have Kd:=D7 (d:=d) (h:=h) j si uP aj lY.nx pb5 sb6 qb9 b7.1 b7.2 b7 a! a! a! a! a! o! o! o! o! o! a! o! (ay j).1.length 0 o! (dr ((nB 0)::aJ::(Pt h.nx)::rx nB 3 4 ((Pt lY.nx)::rx nB 8 26 (j.au::(Zn j.ab.length)::rx nB 36 30 ((AV.ptr lY.nx 4)::(AV.slice qb9 0 (ay j).1.length (ay j).1.length si)::(Zn (ay j).1.length)::(Zi 0)::rx nB 70 9 []))))) Pr M' zk H6 XE XF ag8
   cases H7:kB j uP (ay j).1.length 0 with
   | none=>
    obtain ⟨asH,h21,Ps,adX⟩:=aC.n H7 Kd
    have Ji:=zk.trans adX.a
    have e:od j aj=true:=by simp only[od,mE,qv,H7,ao,ai]
    rw[e]
    exact aG rfl (aY Tryz.func96 Aa rfl (.inr rfl) (pk (d+3) _ _ h _ h21 (LP<|LL Ps<|CC<|ZZ) k!) k!) Ji rfl
   | some alh=>
    obtain ⟨asH,h21,Ps,adX⟩:=aC.r H7 Kd
    have Ji:=zk.trans adX.a
    have e:od j aj=alh:=by simp only[od,mE,qv,H7,ao,ai]
    rw[e]
    exact aG rfl (aY Tryz.func96 Aa rfl (.inr rfl) (pk (d+3) _ _ h _ h21 (LP<|LL Ps<|ZZ) k!) k!) Ji rfl
  | inr Vh=>
   obtain ⟨als,nB,Pr,wQ,M',adV,BZ⟩:=bY.r qv Kc
   have zk:=BZ
   have e:od j aj=Vh:=by simp only[od,mE,qv,ao,ai]
   rw[e]
   exact aG rfl (aY Tryz.func96 Aa rfl (.inr rfl) (pk (d+3) _ _ h _ Pr (Hp<|LL wQ<|ZZ) k!) k!) zk rfl
 | some rr3=>
  obtain ⟨MR,h4,jX,fV⟩:=aC.r mE Sn
  have ij:=fV.y
  have fq:=bD.trans fV.a
  have e:od j aj=rr3:=by simp only[od,mE,ao,ai]
  rw[e]
  exact aG rfl (aY Tryz.func96 Aa rfl (.inr rfl) (pk (d+3) _ _ h _ h4 (Ex<|LL jX<|ZZ) k!) k!) fq rfl
theorem jl {p:Prop} (h:p:=by first | omega | (simp only[List.length_set,List.length_replicate,dQ]<;>omega) | exact hJ _ | exact ku a!):p:=h
theorem fH {p:Prop} (h:p:=by first | omega | assumption | exact rA aU.toNat o!):p:=h
def nV:Code:=(Tryz.f96.body).getD .skip
theorem B0:Tryz.f96.body=some nV:=by kernel_rfl
def Pu:Code:=(bl nV).getD 0 .skip
def Pv:Code:=(bl nV).getD 1 .skip
def Pw:Code:=(bl nV).getD 2 .skip
def wR:Code:=(bl nV).getD 3 .skip
def gH (aj:List Int) (j:bP):Nat→Nat→Option (Bool)
 | 0,_=>none
 | dx+1,i0=>(bif (!(da (aj.g i0))) then some false else (bif (decide (100000<(dk j aj ((i0:Nat):Int)))) then some false else gH aj j dx (i0+1)))
theorem AU {d:Nat} {h:az} (aJ:AV) (aj:List Int) (j:bP) (bj:Nat) (bp:bT h .i64 3 aJ aj) (cC:aO h j.au j.ab) (dq:aO h j.ar j.af) (fI:aK.ok h j) (fU:∀i,i<j.ab.length→∀q,q<(j.ab.g i).aD.length→0≤(j.ab.g i).aD.g q∧(j.ab.g i).aD.g q<(j.ab.length:Int)) (iB:∀r,r<j.af.length→(j.af.g r).off.length≤16∧∀q,q<(j.af.g r).off.length→0≤((j.af.g r).off.g q).a8∧((j.af.g r).off.g q).aQ≤100000) (mO:∀i,i<j.ab.length→(j.ab.g i).aB.length=0) (nI:∀i,i<j.ab.length→0≤(j.ab.g i).takes∧(j.ab.g i).takes≤100000) (o8:aj.length=j.ab.length) (qF:j.ab.length≤64) (yL:j.af.length=0):∀(k_ i_:Nat) (_:i_+k_=aj.length) (x:Nat→AV) (hh:az) (aF:Tidy hh) (aA:Has h hh) (br:hh.get bj=some (aN.cells [j.au,j.ar] 25 false)),aC (cA (d+3)) Pu ⟨((x 0)::aJ::(Pt bj)::rx x 3 10 (aJ::(Zn aj.length)::(Zn i_)::rx x 16 63 [])),hh,[],.no⟩ (.exit 0) hh (fun y=>((y 0)::aJ::(Pt bj)::rx y 3 10 (aJ::(Zn aj.length)::rx y 15 64 []))) (fun r y=>((y 0)::aJ::(Pt bj)::(y 3)::(AV.bool r)::rx y 5 8 (aJ::(Zn aj.length)::rx y 15 64 []))) (gH aj j k_ i_)
 | 0,i0,eZ,x,hh,aF,aA,br=>by
  have q1:(decide (((i0:Nat):Int)<((aj.length:Nat):Int)))=false:=d!
  exact aC.out rfl (pk (d+3) _ _ hh _ hh (VV (bE 3 false false .i64 ((i0:Nat):Int) ((aj.length:Nat):Int))<|BB q1<|ZZ) k!) (Grow.refl aF) k!
 | dx+1,i0,eZ,x,hh,aF,aA,br=>by
  have q1:(decide (((i0:Nat):Int)<((aj.length:Nat):Int)))=true:=d!
  obtain ⟨p3,q4,gh,_⟩:=(bp.has aA).elem (i:=i0) o!
  have kN:=(bp.has aA).load o! gh
  have k6:=ou (d:=d+1) (aj.g i0) aF
  have ei:=fun {al ps} (k:Pk al _ ps)=>(VV (bE 3 false false .i64 ((i0:Nat):Int) ((aj.length:Nat):Int))<|BC q1<|VV gh<|MM kN<|CN 3<|EE k6<|CN 2<|k:Pk _ [] ps)
  rcases bu (!(da (aj.g i0))) with f1 | f1
  · exact aC.ret false (by simp only[gH,f1,ao,ai]) (pk (d+3) _ _ hh _ hh (ei<|BB f1<|BB f1<|BB f1<|BB f1<|BV f1 (tR true f1)<|TT<|CC<|ZZ) k!) (Grow.refl aF) k!
  · have k8:=qe (d:=d+2) j aj ((i0:Nat):Int) (aK.mono aA fI) (bp.has aA) fH fH fH aF
    have gK:=fun {al ps} (k:Pk al _ ps)=>(ei<|BM f1 (aP 25 0 (AV.agg [j.au,j.ar]) br k!)<|BC f1<|BC f1<|BB f1<|EE k8<|BV f1 (gz 3 false true .i64 (dk j aj ((i0:Nat):Int)) 100000)<|VV (dD (a:=some (AV.bool true)) (b:=some (AV.bool (decide (100000<(dk j aj ((i0:Nat):Int)))))) f1)<|k:Pk _ [] ps)
    rcases bu (decide (100000<(dk j aj ((i0:Nat):Int)))) with f2 | f2
    · exact aC.ret false (by simp only[gH,f1,f2,ao,ai]) (pk (d+3) _ _ hh _ hh (gK<|BC f2<|ZZ) k!) (Grow.refl aF) k!
    · have u10:=eA 3 false true i0 1 o!
      exact aC.round (by simp only[gH,f1,f2,ao,ai]) (pk (d+3) _ _ hh _ hh (gK<|BV f2 u10<|CC<|ZZ) k!) (Grow.refl aF) _ k! (fun x=>AU aJ aj j bj bp cC dq fI fU iB mO nI o8 qF yL dx (i0+1) o! x hh aF aA br)
theorem zl {j:bP} {aj:List Int} (tk:∀i,i<j.ab.length→0≤(j.ab.g i).takes∧(j.ab.g i).takes≤100000) (hl:aj.length=j.ab.length):∀(k i:Nat),i+k=aj.length→gH aj j k i=none→∀q,i≤q→q<aj.length→0≤aj.g q∧aj.g q+(j.ab.g q).takes≤100000
 | 0,i,e,_,q,h1,h2=>by omega
 | k+1,i,e,h,q,h1,h2=>by
  rw[gH] at h
  cases a:da (aj.g i) with
  | false=>rw[a] at h;cases h
  | true=>
   rw[a] at h
   have ta:0≤aj.g i∧aj.g i≤100000:=by
    unfold da im at a
    by_cases z:0≤aj.g i
    · rw[eV z,ao] at a;exact ⟨z,jv a⟩
    · rw[fL z] at a;cases a
   have tt:=tk i o!
   by_cases b:100000<dk j aj ((i:Nat):Int)
   · rw[eV b] at h;cases h
   · rw[fL b] at h
     by_cases z:q=i
     · subst z
       unfold dk at b
       rw[Int.toNat_natCast,wrap_i64 o! o!] at b
       exact ⟨ta.1,by omega⟩
     · exact zl tk hl k (i+1) o! h q o! h2
theorem Kv {j:bP} {aj:List Int} (tk:∀i,i<j.ab.length→0≤(j.ab.g i).takes∧(j.ab.g i).takes≤100000) (hl:aj.length=j.ab.length) (h:gH aj j aj.length 0=none):∀i,i<aj.length→0≤aj.g i∧aj.g i+(j.ab.g i).takes≤100000:=fun q hq=>zl tk hl _ 0 o! h q (Nat.zero_le _) hq
def lD (j:bP) (aU:Int) (aj:List Int):Nat→Nat→Option (Bool)
 | 0,_=>none
 | DD+1,i2=>(bif (decide ((aj.g aU.toNat)<(dk j aj ((j.ab.g aU.toNat).aD.g i2)))) then some false else lD j aU aj DD (i2+1))
theorem AW {d:Nat} {h:az} (aJ:AV) (aU:Int) (j:bP) (bC:List Bool) (jh:List Int) (aj:List Int) (jD:Nat) (l5:Nat) (DE:Nat) (U_:Nat) (ky:bT h .i64 3 aJ aj) (lp:aO h j.au j.ab) (xZ:aO h j.ar j.af) (nS:bT h .i64 3 (j.ab.g aU.toNat).bh (j.ab.g aU.toNat).aD) (uM:aK.ok h j) (BQ:aK.ok h (j.ab.g aU.toNat)) (Hl:∀i,i<j.ab.length→∀q,q<(j.ab.g i).aD.length→0≤(j.ab.g i).aD.g q∧(j.ab.g i).aD.g q<(j.ab.length:Int)) (R5:∀r,r<j.af.length→(j.af.g r).off.length≤16∧∀q,q<(j.af.g r).off.length→0≤((j.af.g r).off.g q).a8∧((j.af.g r).off.g q).aQ≤100000) (R6:∀i,i<j.ab.length→(j.ab.g i).aB.length=0) (Zj:∀i,i<j.ab.length→0≤(j.ab.g i).takes∧(j.ab.g i).takes≤100000) (Zk:aj.length=j.ab.length) (Zl:j.ab.length≤64) (ak5:j.af.length=0) (ak6:0≤aU) (ak7:aU<(j.ab.length:Int)):∀(k_ i_:Nat) (_:i_+k_=((j.ab.g aU.toNat).aD.length)) (x:Nat→AV) (hh:az) (aF:Tidy hh) (aA:Has h hh) (iO:hh.get jD=some (aN.cells [j.au,j.ar] 25 false)) (nA:hh.get l5=some (aN.cells [j.au,j.ar,(AV.slice DE 0 j.ab.length j.ab.length false),(AV.slice U_ 0 j.ab.length j.ab.length false),AV.aw] 103 false)) (wH:hh.get DE=some (aN.cells (bs bC) 4 false)) (Pn:hh.get U_=some (aN.cells (zs .i64 jh) 3 false)),aC (cA (d+3)) Pw ⟨((x 0)::aJ::(Pt jD)::rx x 3 4 ((Pt l5)::(Zi aU)::rx x 9 25 (j.au::(Zn j.ab.length)::(Zi aU)::rx x 37 5 (((j.ab.g aU.toNat).bh)::(Zn (j.ab.g aU.toNat).aD.length)::(Zn i_)::rx x 45 34 [])))),hh,[],.no⟩ (.exit 4) hh (fun y=>((y 0)::aJ::(Pt jD)::rx y 3 4 ((Pt l5)::(Zi aU)::rx y 9 25 (j.au::(Zn j.ab.length)::(Zi aU)::rx y 37 5 (((j.ab.g aU.toNat).bh)::(Zn (j.ab.g aU.toNat).aD.length)::rx y 44 35 []))))) (fun r y=>((y 0)::aJ::(Pt jD)::(y 3)::(AV.bool r)::(y 5)::(y 6)::(Pt l5)::(Zi aU)::rx y 9 25 (j.au::(Zn j.ab.length)::(Zi aU)::rx y 37 5 (((j.ab.g aU.toNat).bh)::(Zn (j.ab.g aU.toNat).aD.length)::rx y 44 35 [])))) (lD j aU aj k_ i_)
 | 0,i2,eZ,x,hh,aF,aA,iO,nA,wH,Pn=>by
  have q1:(decide (((i2:Nat):Int)<(((j.ab.g aU.toNat).aD.length:Nat):Int)))=false:=d!
  exact aC.out rfl (pk (d+3) _ _ hh _ hh (VV (bE 3 false false .i64 ((i2:Nat):Int) (((j.ab.g aU.toNat).aD.length:Nat):Int))<|BB q1<|ZZ) k!) (Grow.refl aF) k!
 | DD+1,i2,eZ,x,hh,aF,aA,iO,nA,wH,Pn=>by
  have Ft:=ky.small
  have J0:=lp.small
  have US:=xZ.small
  have OY:=nS.small
  have acO:=aF _ _ iO
  have agH:=aF _ _ nA
  have aor:=aF _ _ wH
  have asy:=aF _ _ Pn
  have kn_:=Hl aU.toNat o! i2
  have q1:(decide (((i2:Nat):Int)<(((j.ab.g aU.toNat).aD.length:Nat):Int)))=true:=d!
  obtain ⟨p3,q4,gh,_⟩:=(nS.has aA).elem (i:=i2) o!
  have kN:=(nS.has aA).load o! gh
  obtain ⟨p7,q8,Se,_⟩:=(ky.has aA).elem (i:=aU.toNat) o!
  have MH:=xn Se o!
  have O9:=(ky.has aA).load o! Se
  have YJ:=qe (d:=d+2) j aj ((j.ab.g aU.toNat).aD.g i2) (aK.mono aA uM) (ky.has aA) fH fH fH aF
  have c11:=dK 18 (kK (lp.has aA).same (kK (xZ.has aA).same CK))
  have n9:=fun {al ps} (k:Pk al _ ps)=>(VV (bE 3 false false .i64 ((i2:Nat):Int) (((j.ab.g aU.toNat).aD.length:Nat):Int))<|BV q1 gh<|MM kN<|CN 3<|VV MH<|MM O9<|MM (aP 25 0 (AV.agg [j.au,j.ar]) iO k!)<|CN 2<|EE YJ<|VV (bE 3 false false .i64 (aj.g aU.toNat) (dk j aj ((j.ab.g aU.toNat).aD.g i2)))<|HH O9<|HH (show AV.same 20 (Zi (aj.g aU.toNat)) (Zi (aj.g aU.toNat))=true from aS 19 _ _)<|HH O9<|HH (show AV.same 20 (Zi (aj.g aU.toNat)) (Zi (aj.g aU.toNat))=true from aS 19 _ _)<|HH (aP 25 0 (AV.agg [j.au,j.ar]) iO k!)<|HH c11<|k:Pk _ [] ps)
  rcases bu (decide ((aj.g aU.toNat)<(dk j aj ((j.ab.g aU.toNat).aD.g i2)))) with f1 | f1
  · have eB:=jv f1
    exact aC.ret false (by simp only[lD,f1,ao,ai]) (pk (d+3) _ _ hh _ hh (n9<|BC f1<|ZZ) k!) (Grow.refl aF) k!
  · have eB:=pK f1
    have u13:=eA 3 false true i2 1 o!
    exact aC.round (by simp only[lD,f1,ao,ai]) (pk (d+3) _ _ hh _ hh (n9<|BV f1 u13<|CC<|ZZ) k!) (Grow.refl aF) _ k! (fun x=>AW aJ aU j bC jh aj jD l5 DE U_ ky lp xZ nS uM BQ Hl R5 R6 Zj Zk Zl ak5 ak6 ak7 DD (i2+1) o! x hh aF aA iO nA wH Pn)
def iy (j:bP) (aj:List Int):Nat→Int→List Bool→List Int→(List Bool×List Int)⊕(Bool)
 | 0,aU,bC,jh=>Sum.inl (bC,jh)
 | nK+1,aU,bC,jh=>(bif (decide (aU<((j.ab.length:Nat):Int))) then (match (lD j aU aj (j.ab.g aU.toNat).aD.length 0) with | none=>iy j aj nK (aU+1) (rF j bC jh aU (aj.g aU.toNat)).1 (rF j bC jh aU (aj.g aU.toNat)).2 | some Kn=>Sum.inr Kn) else Sum.inl (bC,jh))
theorem AX {d:Nat} {h:az} (aJ:AV) (j:bP) (aj:List Int) (b6:Nat) (dv:Nat) (ie:Nat) (iL:Nat) (eP:bT h .i64 3 aJ aj) (dW:aO h j.au j.ab) (mr:aO h j.ar j.af) (mQ:aK.ok h j) (o9:∀i,i<j.ab.length→∀q,q<(j.ab.g i).aD.length→0≤(j.ab.g i).aD.g q∧(j.ab.g i).aD.g q<(j.ab.length:Int)) (rz:∀r,r<j.af.length→(j.af.g r).off.length≤16∧∀q,q<(j.af.g r).off.length→0≤((j.af.g r).off.g q).a8∧((j.af.g r).off.g q).aQ≤100000) (rA:∀i,i<j.ab.length→(j.ab.g i).aB.length=0) (vg:∀i,i<j.ab.length→0≤(j.ab.g i).takes∧(j.ab.g i).takes≤100000) (Ds:aj.length=j.ab.length) (Fo:j.ab.length≤64) (Pa:j.af.length=0) (U1:∀i,i<aj.length→0≤aj.g i∧aj.g i+(j.ab.g i).takes≤100000) (bM:Tidy h) (Jb:h.nx≤b6) (Uc:h.nx≤dv) (ak8:h.nx≤ie) (ak9:h.nx≤iL) (Bt:dv≠b6) (U':ie≠b6) (Va:ie≠dv) (Vb:iL≠b6) (Vc:iL≠dv) (Vd:iL≠ie):∀(k_:Nat) (aU:Int) (bC:List Bool) (jh:List Int) (_:((j.ab.length:Nat):Int) - aU≤(k_:Int)) (_:(((0:Int)≤1)∧(0≤aU))) (x:Nat→AV) (hh:az) (aF:Tidy hh) (aA:Has h hh) (fN:h.nx≤hh.nx) (qH:bC.length=j.ab.length) (SA:jh.length=j.ab.length) (cz:hh.get b6=some (aN.cells [j.au,j.ar] 25 false)) (d_:hh.get dv=some (aN.cells [j.au,j.ar,(AV.slice ie 0 j.ab.length j.ab.length false),(AV.slice iL 0 j.ab.length j.ab.length false),AV.aw] 103 false)) (oU:hh.get ie=some (aN.cells (bs bC) 4 false)) (pN:hh.get iL=some (aN.cells (zs .i64 jh) 3 false)),bY (σ:=List Bool×List Int) (ρ:=Bool) (cA (d+3)) Pv ⟨((x 0)::aJ::(Pt b6)::rx x 3 4 ((Pt dv)::rx x 8 26 (j.au::(Zn j.ab.length)::(Zi aU)::rx x 37 42 []))),hh,[],.no⟩ (.exit 2) hh (fun r z y=>((y 0)::aJ::(Pt b6)::rx y 3 4 ((Pt dv)::rx y 8 26 (j.au::(Zn j.ab.length)::rx y 36 43 [])))) (fun r z y=>((y 0)::aJ::(Pt b6)::(y 3)::(AV.bool r)::(y 5)::(y 6)::(Pt dv)::rx y 8 26 (j.au::(Zn j.ab.length)::rx y 36 43 []))) (fun r z hk=>Has h hk∧hk.get b6=some (aN.cells [j.au,j.ar] 25 false)∧hk.get dv=some (aN.cells [j.au,j.ar,(AV.slice ie 0 j.ab.length j.ab.length false),(AV.slice iL 0 j.ab.length j.ab.length false),AV.aw] 103 false)∧hk.get ie=some (aN.cells (bs r.1) 4 false)∧hk.get iL=some (aN.cells (zs .i64 r.2) 3 false)∧r.1.length=j.ab.length∧r.2.length=j.ab.length∧((0:Int)≤1)) (fun r z hk=>Has h hk) (iy j aj k_ aU bC jh)
 | 0,aU,bC,jh,eZ,du,x,hh,aF,aA,fN,qH,SA,cz,d_,oU,pN=>by
  have q1:(decide (aU<((j.ab.length:Nat):Int)))=false:=d!
  exact bY.out (bC,jh) aL rfl (pk (d+3) _ _ hh _ hh (VV (bE 3 false false .i64 aU ((j.ab.length:Nat):Int))<|BB q1<|ZZ) k!) aF o! ⟨aA,cz,d_,oU,pN,jl,jl,(show ((0:Int)≤1) from o!)⟩ k!
 | nK+1,aU,bC,jh,eZ,du,x,hh,aF,aA,fN,qH,SA,cz,d_,oU,pN=>by
  have pV:=eP.small
  have rC:=dW.small
  have Fx:=mr.small
  have E2:=aF _ _ cz
  have Oo:=aF _ _ d_
  have akL:=aF _ _ oU
  have akM:=aF _ _ pN
  have ks_:=U1 aU.toNat
  have kt_:=vg aU.toNat
  have s5:=fun {al ps} (k:Pk al _ ps)=>(VV (bE 3 false false .i64 aU ((j.ab.length:Nat):Int))<|k:Pk _ [] ps)
  rcases bu (decide (aU<((j.ab.length:Nat):Int))) with f0 | f0
  · have ja:=jv f0
    obtain ⟨p3,q4,mu⟩:=dW.elem (i:=aU.toNat) o!
    have gh:=xn mu o!
    have kN:=(dW.has aA).load o! mu
    obtain ⟨h6,kV,ig,uz,jc,bB⟩:=gQ aF (aN.cells [(AV.str []),(Zi 0),AV.aw,AV.aw] 48 false)
    have gL:=aA.trans bB
    have C6:=((dW.ok (i:=aU.toNat) o!).2.1).scalar
    have MQ:=((dW.ok (i:=aU.toNat) o!).2.2).scalar
    obtain ⟨h7,jw,dM,r5,dS,aX⟩:=j_ (t:=48) (n:=4) (i:=hh.nx) (L:=[(AV.str (j.ab.g aU.toNat).name),(Zi (j.ab.g aU.toNat).takes),(j.ab.g aU.toNat).bh,(j.ab.g aU.toNat).bo]) ig jc k! rfl rfl (kJ rfl (kJ rfl (kJ C6 (kJ MQ rfl))))
    have cV:=Has.bK gL aX bM o!
    have uN:=((dW.ok (i:=aU.toNat) o!).2.1).len
    have vR:=fun {al ps} (k:Pk al _ ps)=>(s5<|BC f0<|VV gh<|MM kN<|NN kV (fun i=>(Pt i))<|CC<|SS jw<|CC<|MM (aP 26 2 (j.ab.g aU.toNat).bh dS k!)<|VV uN<|CC<|k:Pk _ [] ps)
    have lp6:=AW (d:=d) (h:=h) aJ aU j bC jh aj b6 dv ie iL eP dW mr (dW.ok (i:=aU.toNat) o!).2.1 mQ (dW.ok (i:=aU.toNat) o!) a! a! a! a! o! o! o! o! o! (j.ab.g aU.toNat).aD.length 0 o! (dr ((x 0)::aJ::(Pt b6)::rx x 3 4 ((Pt dv)::(Zi aU)::(Pt hh.nx)::rx x 10 24 (j.au::(Zn j.ab.length)::(Zi aU)::(AV.bool (decide (aU<((j.ab.length:Nat):Int))))::(Zi aU)::(AV.ptr p3 q4)::(AV.agg [(AV.str (j.ab.g aU.toNat).name),(Zi (j.ab.g aU.toNat).takes),(j.ab.g aU.toNat).bh,(j.ab.g aU.toNat).bo])::(AV.ptr hh.nx 2)::((j.ab.g aU.toNat).bh)::(Zn (j.ab.g aU.toNat).aD.length)::(Zi 0)::rx x 45 34 [])))) h7 dM cV (aX _ _ o! (bB _ _ cz)) (aX _ _ o! (bB _ _ d_)) (aX _ _ o! (bB _ _ oU)) (aX _ _ o! (bB _ _ pN))
    cases ma:lD j aU aj (j.ab.g aU.toNat).aD.length 0 with
    | none=>
     obtain ⟨FA,pH,mX,dj⟩:=aC.n ma lp6
     have hD:=dj.y
     have Dc:h7.nx≤pH.nx:=dj.n
     have eT:=cV.trans dj.a
     obtain ⟨p14,q15,SB,_⟩:=eP.elem (i:=aU.toNat) o!
     have JX:=xn SB o!
     have Hk:=(eP.has eT).load o! SB
     obtain ⟨Y0,Jf,WK,HQ,C9,je⟩:=dI hD (dj.a _ _ (aX _ _ o! (bB _ _ oU)))
     have Ve:=bL eT (by first | assumption | exact iZ bM o!) je
     obtain ⟨agZ,Vf,ag0,Po,Pp,qu⟩:=dI Jf ((je _ o!).trans (dj.a _ _ (aX _ _ o! (bB _ _ pN))))
     have FH:agZ.get ie=none:=(qu _ o!).trans HQ
     have Pq:=bL Ve (by first | assumption | exact iZ bM o!) qu
     obtain ⟨CU,adY,ly,acS,Vj,ahb,aqq,ahc,aqr⟩:=adr (d:=d) (h:=agZ) (pqN:=j.ab.length) (sqN:=j.ab.length) j bC jh aU (aj.g aU.toNat) (aK.mono Pq mQ) (dj.a _ _ (aX _ _ o! (bB _ _ oU))) jl FH (dj.a _ _ (aX _ _ o! (bB _ _ pN))) jl Po fH fH fH fH fH o! Vf hD (Pp.trans C9) o!
     have kH:=(Pq.trans Vj)
     have Xd:AV.same 20 (AV.agg [j.au,j.ar,(AV.slice ie 0 j.ab.length j.ab.length false),(AV.slice iL 0 j.ab.length j.ab.length false),AV.aw]) (AV.agg [j.au,j.ar,(AV.slice ie 0 j.ab.length j.ab.length false),(AV.slice iL 0 j.ab.length j.ab.length false),AV.aw])=true:=dK 18 (kK dW.same (kK mr.same (kK (fun n=>by simp [AV.same]) (kK (fun n=>by simp [AV.same]) (kK (fun n=>by simp [AV.same]) CK)))))
     have w21:IntKind.i64.wrap (aU+1)=aU+1:=wrap_i64 o! o!
     exact bY.round (by simp only[iy,f0,ma,ao,ai]) (pk (d+3) _ _ hh _ CU (vR<|LL mX<|MM (aP 103 0 (AV.agg [j.au,j.ar,(AV.slice ie 0 j.ab.length j.ab.length false),(AV.slice iL 0 j.ab.length j.ab.length false),AV.aw]) (dj.a _ _ (aX _ _ o! (bB _ _ d_))) k!)<|CN 3<|VV JX<|MM Hk<|EE adY<|HH (aP 103 0 (AV.agg [j.au,j.ar,(AV.slice ie 0 j.ab.length j.ab.length false),(AV.slice iL 0 j.ab.length j.ab.length false),AV.aw]) (dj.a _ _ (aX _ _ o! (bB _ _ d_))) k!)<|HH Xd<|HH Hk<|HH (show AV.same 20 (Zi (aj.g aU.toNat)) (Zi (aj.g aU.toNat))=true from aS 19 _ _)<|VV (qE 3 false true w21)<|CC<|ZZ) k!) o! _ k! (fun x=>AX aJ j aj b6 dv ie iL eP dW mr mQ o9 rz rA vg Ds Fo Pa U1 bM Jb Uc ak8 ak9 Bt U' Va Vb Vc Vd nK (aU+1) (rF j bC jh aU (aj.g aU.toNat)).1 (rF j bC jh aU (aj.g aU.toNat)).2 o! (show (((0:Int)≤1)∧(0≤(aU+1))) from o!) x CU ly kH o! jl jl (Vj _ _ ((qu _ o!).trans ((je _ o!).trans (dj.a _ _ (aX _ _ o! (bB _ _ cz)))))) (Vj _ _ ((qu _ o!).trans ((je _ o!).trans (dj.a _ _ (aX _ _ o! (bB _ _ d_)))))) ahb ahc)
    | some Kn=>
     obtain ⟨FA,pH,mX,dj⟩:=aC.r ma lp6
     have hD:=dj.y
     have Dc:h7.nx≤pH.nx:=dj.n
     have eT:=cV.trans dj.a
     exact bY.ret Kn aL (by simp only[iy,f0,ma,ao,ai]) (pk (d+3) _ _ hh _ pH (vR<|LL mX<|ZZ) k!) hD o! eT k!
  · exact bY.out (bC,jh) aL (by simp only[iy,f0,ao,ai]) (pk (d+3) _ _ hh _ hh (s5<|BB f0<|ZZ) k!) aF o! ⟨aA,cz,d_,oU,pN,jl,jl,(show ((0:Int)≤1) from o!)⟩ k!
def nW (j:bP) (aj:List Int):Bool:=(match (gH aj j aj.length 0) with | none=>(match (iy j aj (((j.ab.length:Nat):Int) - 0).toNat 0 (ay j).2.1 (ay j).2.2) with | Sum.inl uP=>true | Sum.inr Vh=>Vh) | some rr3=>rr3)
theorem Vk {d:Nat} {h:az} {aJ:AV} (j:bP) (aj:List Int) (b7:aK.ok h j) (bA:bT h .i64 3 aJ aj) (mf:∀i,i<j.ab.length→∀q,q<(j.ab.g i).aD.length→0≤(j.ab.g i).aD.g q∧(j.ab.g i).aD.g q<(j.ab.length:Int)) (oQ:∀r,r<j.af.length→(j.af.g r).off.length≤16∧∀q,q<(j.af.g r).off.length→0≤((j.af.g r).off.g q).a8∧((j.af.g r).off.g q).aQ≤100000) (xU:∀i,i<j.ab.length→(j.ab.g i).aB.length=0) (Ak:∀i,i<j.ab.length→0≤(j.ab.g i).takes∧(j.ab.g i).takes≤100000) (Ha:aj.length=j.ab.length) (Y5:j.ab.length≤64) (pre6:j.af.length=0) (bM:Tidy h):cA (d+4) (.fn 96) [(AV.agg [j.au,j.ar]),aJ] h= .ret (AV.bool (nW j aj)) h:=by
 have oA:=bA.small
 have l7:=b7.1.small
 have l8:=b7.2.small
 obtain ⟨h1,dw,de,jW,bx,ca⟩:=gQ bM (aN.cells [j.au,j.ar] 25 false)
 have bD:=ca
 have JH:=bA.len
 have lp7:=AU (d:=d) (h:=h) aJ aj j h.nx bA b7.1 b7.2 b7 a! a! a! a! o! o! o! aj.length 0 o! (dr ((AV.agg [j.au,j.ar])::aJ::(Pt h.nx)::aL::(AV.bool false)::aL::aL::aL::aL::aL::aL::aL::aL::aJ::(Zn aj.length)::(Zi 0)::iW 63)) h1 de bD bx
 cases mE:gH aj j aj.length 0 with
 | none=>
  obtain ⟨MR,h4,jX,fV⟩:=aC.n mE lp7
  have ij:=fV.y
  have UD:h1.nx≤h4.nx:=fV.n
  have fq:=bD.trans fV.a
  obtain ⟨pb5,sb6,zb7,gb8,lY,XD,uc,Ko,Kq,Vi,ali,alj,alk,alm,aln,alo,alp,alq⟩:=wu (d:=d) j (aK.mono fq b7) fH fH fH ij
  have iU:=uc.y
  have acr:h4.nx≤lY.nx:=uc.n
  have alr:=uH j a!
  obtain rfl:=pL.arC Vi o!
  have my:=fq.trans uc.a
  have Kr:=uc.a
  have aoS:=iU _ _ Ko
  have aoT:=iU _ _ Kq
  obtain ⟨pH,AO,hD,R_,tX,dZ⟩:=gQ iU (aN.cells [AV.aw,AV.aw,AV.aw,AV.aw,AV.aw] 103 false)
  have eT:=my.trans dZ
  have Kt:=Kr.trans dZ
  have FJ:=dZ
  have J3:=b7.1.scalar
  have ZO:=b7.2.scalar
  obtain ⟨rk,rL,jy,Df,l_,dC⟩:=j_ (t:=103) (n:=5) (i:=lY.nx) (L:=[j.au,j.ar,(AV.slice pb5 0 j.ab.length j.ab.length false),(AV.slice sb6 0 j.ab.length j.ab.length false),AV.aw]) hD tX k! rfl rfl (kJ J3 (kJ ZO rfl))
  have gG:=Has.bK eT dC bM o!
  have Ku:=Has.bK Kt dC ij o!
  have ZP:=Has.bK FJ dC iU o!
  have ag6:=b7.1.len
  have lp8:=AX (d:=d) (h:=h) aJ j aj h.nx lY.nx pb5 sb6 bA b7.1 b7.2 b7 a! a! a! a! o! o! o! (Kv a! a! a!) bM o! o! o! o! o! o! o! o! o! o! (((j.ab.length:Nat):Int) - 0).toNat 0 (ay j).2.1 (ay j).2.2 o! (show (((0:Int)≤1)∧(0≤0)) from o!) (dr ((MR 0)::aJ::(Pt h.nx)::rx MR 3 4 ((Pt lY.nx)::rx MR 8 5 (aJ::(Zn aj.length)::rx MR 15 16 ((AV.agg [j.au,j.ar])::(AV.agg [j.au,j.ar,(AV.slice pb5 0 j.ab.length j.ab.length false),(AV.slice sb6 0 j.ab.length j.ab.length false),AV.aw])::(Pt h.nx)::j.au::(Zn j.ab.length)::(Zi 0)::rx MR 37 42 []))))) rk jy gG o! jl jl (dC _ _ o! (dZ _ _ (uc.a _ _ (fV.a _ _ bx)))) l_ (dC _ _ o! (dZ _ _ Ko)) (dC _ _ o! (dZ _ _ Kq))
  cases qv:iy j aj (((j.ab.length:Nat):Int) - 0).toNat 0 (ay j).2.1 (ay j).2.2 with
  | inl uP=>
   obtain ⟨als,nB,Pr,wQ,M',adV,BZ,ag7,H6,XE,XF,ag9,aha,adW⟩:=bY.n qv lp8
   have zk:=BZ
   have asI:Ev env (cA (d+3)) wR ⟨((nB 0)::aJ::(Pt h.nx)::rx nB 3 4 ((Pt lY.nx)::rx nB 8 26 (j.au::(Zn j.ab.length)::rx nB 36 30 ((AV.ptr lY.nx 4)::AV.aw::(Zi 0)::(Zi 0)::rx nB 70 9 [])))),Pr,[],.no⟩ (.exit 6) ⟨((nB 0)::aJ::(Pt h.nx)::rx nB 3 4 ((Pt lY.nx)::rx nB 8 26 (j.au::(Zn j.ab.length)::rx nB 36 30 ((AV.ptr lY.nx 4)::AV.aw::(Zi 0)::(Zi 0)::(AV.bool false)::rx nB 71 8 [])))),Pr,[],.no⟩:=Ev.to (pk (d+3) wR ((nB 0)::aJ::(Pt h.nx)::rx nB 3 4 ((Pt lY.nx)::rx nB 8 26 (j.au::(Zn j.ab.length)::rx nB 36 30 ((AV.ptr lY.nx 4)::AV.aw::(Zi 0)::(Zi 0)::rx nB 70 9 [])))) Pr (.exit 6) Pr (CC<|FF<|ZZ) k!) k!
   have e:nW j aj=true:=by simp only[nW,mE,qv,ao,ai]
   rw[e]
   exact aG rfl (aY Tryz.func96 B0 rfl (.inr rfl) (pk (d+3) _ _ h _ Pr (NN dw (fun i=>(Pt i))<|CN 2<|VV JH<|CC<|LL jX<|MM (aP 25 0 (AV.agg [j.au,j.ar]) (fV.a _ _ bx) k!)<|EE XD<|NN AO (fun i=>(Pt i))<|SS rL<|CC<|MM (aP 22 0 j.au (dC _ _ o! (dZ _ _ (uc.a _ _ (fV.a _ _ bx)))) k!)<|VV ag6<|CC<|LL wQ<|CC<|MM (aP 101 4 AV.aw H6 k!)<|CN 2<|LL (show Ev env (cA (d+3)) (.loop wR) ⟨((nB 0)::aJ::(Pt h.nx)::rx nB 3 4 ((Pt lY.nx)::rx nB 8 26 (j.au::(Zn j.ab.length)::rx nB 36 30 ((AV.ptr lY.nx 4)::AV.aw::(Zi 0)::(Zi 0)::rx nB 70 9 [])))),Pr,[],.no⟩ (.exit 6) ⟨((nB 0)::aJ::(Pt h.nx)::rx nB 3 4 ((Pt lY.nx)::rx nB 8 26 (j.au::(Zn j.ab.length)::rx nB 36 30 ((AV.ptr lY.nx 4)::AV.aw::(Zi 0)::(Zi 0)::(AV.bool false)::rx nB 71 8 [])))),Pr,[],.no⟩ from (Ev.out asI))<|CC<|ZZ) k!) k!) zk rfl
  | inr Vh=>
   obtain ⟨als,nB,Pr,wQ,M',adV,BZ⟩:=bY.r qv lp8
   have zk:=BZ
   have e:nW j aj=Vh:=by simp only[nW,mE,qv,ao,ai]
   rw[e]
   exact aG rfl (aY Tryz.func96 B0 rfl (.inr rfl) (pk (d+3) _ _ h _ Pr (NN dw (fun i=>(Pt i))<|CN 2<|VV JH<|CC<|LL jX<|MM (aP 25 0 (AV.agg [j.au,j.ar]) (fV.a _ _ bx) k!)<|EE XD<|NN AO (fun i=>(Pt i))<|SS rL<|CC<|MM (aP 22 0 j.au (dC _ _ o! (dZ _ _ (uc.a _ _ (fV.a _ _ bx)))) k!)<|VV ag6<|CC<|LL wQ<|ZZ) k!) k!) zk rfl
 | some rr3=>
  obtain ⟨MR,h4,jX,fV⟩:=aC.r mE lp7
  have ij:=fV.y
  have fq:=bD.trans fV.a
  have e:nW j aj=rr3:=by simp only[nW,mE,ao,ai]
  rw[e]
  exact aG rfl (aY Tryz.func96 B0 rfl (.inr rfl) (pk (d+3) _ _ h _ h4 (NN dw (fun i=>(Pt i))<|CN 2<|VV JH<|CC<|LL jX<|ZZ) k!) k!) fq rfl
def qY (j:bP) (aj:List Int):Bool:=bif decide (0<j.af.length) then od j aj else nW j aj
theorem Vl {d:Nat} {h:az} {aJ:AV} (j:bP) (aj:List Int) (b7:aK.ok h j) (bA:bT h .i64 3 aJ aj) (F:cE j) (hl:aj.length=j.ab.length) (bM:Tidy h):cA (d+4) (.fn 96) [(AV.agg [j.au,j.ar]),aJ] h= .ret (AV.bool (qY j aj)) h:=by
 rw[qY]
 by_cases r:0<j.af.length
 · rw[eV r,ao];exact ZN j aj b7 bA F.nb F.ro F.ur F.ud F.tk hl F.nt F.nr r bM
 · rw[fL r,ai]
   have r0:j.af.length=0:=by omega
   refine Vk j aj b7 bA F.nb F.ro (fun i hi=>?_) F.tk hl F.nt r0 bM
   rcases Nat.eq_zero_or_pos (j.ab.g i).aB.length with e | e
   · exact e
   · have:=F.ur i hi 0 e;omega
end
end Go.Proofs.aM
