import Derived.Test.YtemlmndojncekaaGreatW0
import Derived.Test.YtemlmndojncekaaGreatW6
import Derived.Test.YtemlmndojncekaaGreatW10
import Derived.Test.YtemlmndojncekaaGreatW4
import Derived.Test.YtemlmndojncekaaGreatW5
namespace Go.Proofs.aQ
open Go.Proofs Ab
noncomputable section
set_option maxRecDepth 100000
set_option maxHeartbeats 4000000
set_option linter.unusedVariables false
set_option linter.unusedSimpArgs false
def jS:Code:=(Tryz.f56.body).getD .skip
theorem oM:Tryz.f56.body=some jS:=by kernel_rfl
def EP:Code:=(bw jS).getD 0 .skip
def ES:Code:=(bw jS).getD 1 .skip
def ET:Code:=(bw jS).getD 2 .skip
def EU:Code:=(bw jS).getD 3 .skip
def eJ (i0:Nat) (x_:Task):Nat→Nat→Option (Int)
 | 0,_=>none
 | o8+1,i1=>(bif (decide ((x_.aB.g i1)=(x_.aB.g i0))) then some 6 else eJ i0 x_ o8 (i1+1))
theorem tj {d:Nat} {h:aC} (i0:Nat) (j:cx) (x_:Task) (cU:Nat) (dt:Nat) (eM:aW h j.aw j.ab) (eR:aW h j.ao j.af) (ny:x_.name.length<2^60) (mN:b8 h .i64 3 x_.aU x_.aB) (IZ:aW h x_.a_ x_.aA) (mZ:aR.ok h j) (Iy:aR.ok h x_) (GI:i0<x_.aB.length):∀(k_ i_:Nat) (_:i_+k_=i0) (x:Nat→AV) (hh:aC) (aI:Tidy hh) (aE:Has h hh) (cO:hh.get cU=some (aM.cells [j.aw,j.ao] 25 false)) (dA:hh.get dt=some (aM.cells [(AV.str x_.name),(Zi x_.takes),x_.aU,x_.a_] 40 false)),aF (cN (d+1)) ES ⟨((x 0)::(x 1)::(Pt cU)::(Pt dt)::(x 4)::(Zn i0)::(Zn i_)::rx x 7 102 []),hh,[],.no⟩ (.exit 2) hh (fun y=>((y 0)::(y 1)::(Pt cU)::(Pt dt)::(y 4)::(Zn i0)::rx y 6 103 [])) (fun r y=>((y 0)::(y 1)::(Pt cU)::(Pt dt)::(Zi r)::(Zn i0)::rx y 6 103 [])) (eJ i0 x_ k_ i_)
 | 0,i1,fX,x,hh,aI,aE,cO,dA=>by
   have q1:(decide (((i1:Nat):Int)<((i0:Nat):Int)))=false:=d!
   exact aF.out rfl (pk (d+1) _ _ hh _ hh (CN 2<|VV (bL 3 false false .i64 ((i1:Nat):Int) ((i0:Nat):Int))<|BB q1<|ZZ) k!) (bE.refl aI) k!
 | o8+1,i1,fX,x,hh,aI,aE,cO,dA=>by
   have qR:=eM.small
   have r7:=eR.small
   have ahe:=mN.small
   have ahl:=IZ.small
   have Iz:=aI _ _ cO
   have Q_:=aI _ _ dA
   have q1:(decide (((i1:Nat):Int)<((i0:Nat):Int)))=true:=d!
   obtain ⟨p3,q4,cC,_⟩:=(mN.has aE).elem (i:=i1) o!
   have iW:bO env (some (.slice 3)) (some x_.aU) (some (Zn i1))=some (AV.ptr p3 q4):=cC
   have jY:bh env hh 3 (AV.ptr p3 q4)=some (Zi (x_.aB.g i1)):=(mN.has aE).load o! cC
   obtain ⟨p7,q8,xE,_⟩:=(mN.has aE).elem (i:=i0) o!
   have Lr:bO env (some (.slice 3)) (some x_.aU) (some (Zn i0))=some (AV.ptr p7 q8):=xE
   have I3:bh env hh 3 (AV.ptr p7 q8)=some (Zi (x_.aB.g i0)):=(mN.has aE).load o! xE
   have W8:AV.same 20 x_.aU x_.aU=true:=(mN.has aE).same 19
   have dJ:=fun {al ps} (k:Pk al _ ps)=>(CN 2<|VV (bL 3 false false .i64 ((i1:Nat):Int) ((i0:Nat):Int))<|BC q1<|MM (aO 26 2 x_.aU dA k!)<|CC<|VV iW<|MM jY<|CC<|MM (aO 26 2 x_.aU dA k!)<|CC<|VV Lr<|MM I3<|VV (vE 3 false false .i64 (x_.aB.g i1) (x_.aB.g i0))<|HH (aO 26 2 x_.aU dA k!)<|HH W8<|HH jY<|HH (show AV.same 20 (Zi (x_.aB.g i1)) (Zi (x_.aB.g i1))=true from aS 19 _ _)<|HH (aO 26 2 x_.aU dA k!)<|HH W8<|HH I3<|HH (show AV.same 20 (Zi (x_.aB.g i0)) (Zi (x_.aB.g i0))=true from aS 19 _ _)<|k:Pk _ [] ps)
   rcases Bool.eq_false_or_eq_true (decide ((x_.aB.g i1)=(x_.aB.g i0))) with f1 | f1
   · have fP:=of_decide_eq_true f1
     exact aF.ret 6 (by simp only[eJ,f1,aj,ai]) (pk (d+1) _ _ hh _ hh (dJ<|BC f1<|ZZ) k!) (bE.refl aI) k!
   · have fP:=of_decide_eq_false f1
     have u12:=fi 3 false true i1 1 o!
     exact aF.round (by simp only[eJ,f1,aj,ai]) (pk (d+1) _ _ hh _ hh (dJ<|BC f1<|VV u12<|CC<|ZZ) k!) (bE.refl aI) _ k! (fun x=>tj i0 j x_ cU dt eM eR ny mN IZ mZ Iy GI o8 (i1+1) o! x hh aI aE cO dA)
def dk (x_:Task) (j:cx):Nat→Nat→Option (Int)
 | 0,_=>none
 | dq+1,i0=>(bif (decide ((x_.aB.g i0)<0)) then some 7 else (bif (decide (((j.ab.length:Nat):Int)≤(x_.aB.g i0))) then some 7 else (match (eJ i0 x_ i0 0) with | none=>dk x_ j dq (i0+1) | some ahy=>some ahy)))
theorem tp {d:Nat} {h:aC} (x_:Task) (j:cx) (bk:Nat) (cG:Nat) (bx:aW h j.aw j.ab) (cZ:aW h j.ao j.af) (fj:x_.name.length<2^60) (m5:b8 h .i64 3 x_.aU x_.aB) (z5:aW h x_.a_ x_.aA) (g5:aR.ok h j) (GW:aR.ok h x_):∀(k_ i_:Nat) (_:i_+k_=x_.aB.length) (x:Nat→AV) (hh:aC) (aI:Tidy hh) (aE:Has h hh) (br:hh.get bk=some (aM.cells [j.aw,j.ao] 25 false)) (dK:hh.get cG=some (aM.cells [(AV.str x_.name),(Zi x_.takes),x_.aU,x_.a_] 40 false)),aF (cN (d+1)) EP ⟨((x 0)::(x 1)::(Pt bk)::(Pt cG)::(x 4)::(Zn i_)::rx x 6 103 []),hh,[],.no⟩ (.exit 0) hh (fun y=>((y 0)::(y 1)::(Pt bk)::(Pt cG)::rx y 4 105 [])) (fun r y=>((y 0)::(y 1)::(Pt bk)::(Pt cG)::(Zi r)::rx y 5 104 [])) (dk x_ j k_ i_)
 | 0,i0,fX,x,hh,aI,aE,br,dK=>by
   have iC:cb (some (.slice 3)) (some x_.aU)=some (Zn x_.aB.length):=(m5.has aE).len
   have q2:(decide (((i0:Nat):Int)<((x_.aB.length:Nat):Int)))=false:=d!
   exact aF.out rfl (pk (d+1) _ _ hh _ hh (CN 2<|MM (aO 26 2 x_.aU dK k!)<|VV iC<|VV (bL 3 false false .i64 ((i0:Nat):Int) ((x_.aB.length:Nat):Int))<|BB q2<|ZZ) k!) (bE.refl aI) k!
 | dq+1,i0,fX,x,hh,aI,aE,br,dK=>by
   have gT:=bx.small
   have nz:=cZ.small
   have RH:=m5.small
   have Rf:=z5.small
   have sU:=aI _ _ br
   have Lw:=aI _ _ dK
   have iC:cb (some (.slice 3)) (some x_.aU)=some (Zn x_.aB.length):=(m5.has aE).len
   have q2:(decide (((i0:Nat):Int)<((x_.aB.length:Nat):Int)))=true:=d!
   obtain ⟨p4,q5,lp,_⟩:=(m5.has aE).elem (i:=i0) o!
   have wJ:bO env (some (.slice 3)) (some x_.aU) (some (Zn i0))=some (AV.ptr p4 q5):=lp
   have tD:bh env hh 3 (AV.ptr p4 q5)=some (Zi (x_.aB.g i0)):=(m5.has aE).load o! lp
   have hX:=fun {al ps} (k:Pk al _ ps)=>(CN 2<|MM (aO 26 2 x_.aU dK k!)<|VV iC<|VV (bL 3 false false .i64 ((i0:Nat):Int) ((x_.aB.length:Nat):Int))<|BC q2<|MM (aO 26 2 x_.aU dK k!)<|CC<|VV wJ<|MM tD<|VV (bL 3 false true .i64 (x_.aB.g i0) 0)<|CC<|k:Pk _ [] ps)
   rcases Bool.eq_false_or_eq_true (decide ((x_.aB.g i0)<0)) with f1 | f1
   · have fP:=of_decide_eq_true f1
     have c8:AV.same 20 x_.aU x_.aU=true:=(m5.has aE).same 19
     exact aF.ret 7 (by simp only[dk,f1,aj,ai]) (pk (d+1) _ _ hh _ hh (hX<|BB f1<|BB f1<|BB f1<|BB f1<|BB f1<|BB f1<|BB f1<|BB f1<|BV f1 (yA true f1)<|HH (aO 26 2 x_.aU dK k!)<|HH c8<|HH tD<|HH (show AV.same 20 (Zi (x_.aB.g i0)) (Zi (x_.aB.g i0))=true from aS 19 _ _)<|TT<|CC<|ZZ) k!) (bE.refl aI) k!
   · have fP:=of_decide_eq_false f1
     obtain ⟨p9,Ed,qd,_⟩:=(m5.has aE).elem (i:=i0) o!
     have LB:bO env (some (.slice 3)) (some x_.aU) (some (Zn i0))=some (AV.ptr p9 Ed):=qd
     have ry:bh env hh 3 (AV.ptr p9 Ed)=some (Zi (x_.aB.g i0)):=(m5.has aE).load o! qd
     have ZJ:cb (some (.slice 40)) (some j.aw)=some (Zn j.ab.length):=(bx.has aE).len
     have VM:AV.same 20 x_.aU x_.aU=true:=(m5.has aE).same 19
     have W1:AV.same 20 j.aw j.aw=true:=(bx.has aE).same 19
     have ow:=fun {al ps} (k:Pk al _ ps)=>(hX<|BC f1<|BM f1 (aO 26 2 x_.aU dK k!)<|BC f1<|BV f1 LB<|BM f1 ry<|BC f1<|BM f1 (aO 22 0 j.aw br k!)<|BV f1 ZJ<|BV f1 (rv 3 false false .i64 (x_.aB.g i0) ((j.ab.length:Nat):Int))<|k:Pk _ [] ps)
     rcases Bool.eq_false_or_eq_true (decide (((j.ab.length:Nat):Int)≤(x_.aB.g i0))) with f2 | f2
     · have se:=of_decide_eq_true f2
       exact aF.ret 7 (by simp only[dk,f1,f2,aj,ai]) (pk (d+1) _ _ hh _ hh (ow<|VV (cf (a:=some (AV.bool true)) (b:=some (AV.bool (decide (((j.ab.length:Nat):Int)≤(x_.aB.g i0))))) f1)<|HH (aO 26 2 x_.aU dK k!)<|HH VM<|HH tD<|HH (show AV.same 20 (Zi (x_.aB.g i0)) (Zi (x_.aB.g i0))=true from aS 19 _ _)<|HH (aO 26 2 x_.aU dK k!)<|HH VM<|HH ry<|HH (show AV.same 20 (Zi (x_.aB.g i0)) (Zi (x_.aB.g i0))=true from aS 19 _ _)<|HH (aO 22 0 j.aw br k!)<|HH W1<|BC f2<|ZZ) k!) (bE.refl aI) k!
     · have se:=of_decide_eq_false f2
       have Pz:=tj (d:=d) (h:=hh) i0 j x_ bk cG (bx.has aE) (cZ.has aE) fj (m5.has aE) (z5.has aE) (aR.mono aE g5) (aR.mono aE GW) o! i0 0 o! (fun k_=>(((x 0)::(x 1)::(Pt bk)::(Pt cG)::(x 4)::(Zn i0)::(Zi 0)::rx x 7 7 ((Zn i0)::(AV.ptr cG 2)::x_.aU::(Zn x_.aB.length)::(AV.bool (decide (((i0:Nat):Int)<((x_.aB.length:Nat):Int))))::(x 19)::(x 20)::(AV.ptr cG 2)::x_.aU::(Zn i0)::(AV.ptr p4 q5)::(Zi (x_.aB.g i0))::(AV.bool (decide ((x_.aB.g i0)<0)))::(AV.bool (decide ((x_.aB.g i0)<0)))::(AV.ptr cG 2)::x_.aU::(Zn i0)::(AV.ptr p9 Ed)::(Zi (x_.aB.g i0))::(Pt bk)::j.aw::(Zn j.ab.length)::(AV.bool (decide (((j.ab.length:Nat):Int)≤(x_.aB.g i0))))::(AV.bool (decide (((j.ab.length:Nat):Int)≤(x_.aB.g i0))))::rx x 38 71 [])):List AV).getD k_ AV.undef) hh aI (Has.refl _) br dK
       cases Fq:eJ i0 x_ i0 0 with
       | none=>
         obtain ⟨ajS,h17,Bu,B9⟩:=aF.n Fq Pz
         have JQ:=B9.y
         have aeS:hh.nx≤h17.nx:=B9.n
         have JR:Has hh h17:=B9.a
         have u18:=fi 3 false true i0 1 o!
         exact aF.round (by simp only[dk,f1,f2,Fq,aj,ai]) (pk (d+1) _ _ hh _ h17 (ow<|VV (cf (a:=some (AV.bool true)) (b:=some (AV.bool (decide (((j.ab.length:Nat):Int)≤(x_.aB.g i0))))) f1)<|HH (aO 26 2 x_.aU dK k!)<|HH VM<|HH tD<|HH (show AV.same 20 (Zi (x_.aB.g i0)) (Zi (x_.aB.g i0))=true from aS 19 _ _)<|HH (aO 26 2 x_.aU dK k!)<|HH VM<|HH ry<|HH (show AV.same 20 (Zi (x_.aB.g i0)) (Zi (x_.aB.g i0))=true from aS 19 _ _)<|HH (aO 22 0 j.aw br k!)<|HH W1<|BC f2<|LL Bu<|CC<|VV u18<|CC<|ZZ) k!) (⟨JQ,JR,by omega⟩) _ k! (fun x=>tp x_ j bk cG bx cZ fj m5 z5 g5 GW dq (i0+1) o! x h17 JQ (aE.trans JR) (B9.a _ _ br) (B9.a _ _ dK))
       | some ahy=>
         obtain ⟨ajS,h17,Bu,B9⟩:=aF.r Fq Pz
         have JQ:=B9.y
         have aeS:hh.nx≤h17.nx:=B9.n
         have JR:Has hh h17:=B9.a
         exact aF.ret ahy (by simp only[dk,f1,f2,Fq,aj,ai]) (pk (d+1) _ _ hh _ h17 (ow<|VV (cf (a:=some (AV.bool true)) (b:=some (AV.bool (decide (((j.ab.length:Nat):Int)≤(x_.aB.g i0))))) f1)<|HH (aO 26 2 x_.aU dK k!)<|HH VM<|HH tD<|HH (show AV.same 20 (Zi (x_.aB.g i0)) (Zi (x_.aB.g i0))=true from aS 19 _ _)<|HH (aO 26 2 x_.aU dK k!)<|HH VM<|HH ry<|HH (show AV.same 20 (Zi (x_.aB.g i0)) (Zi (x_.aB.g i0))=true from aS 19 _ _)<|HH (aO 22 0 j.aw br k!)<|HH W1<|BC f2<|LL Bu<|ZZ) k!) (⟨JQ,JR,by omega⟩) k!
def eK (i2:Nat) (x_:Task):Nat→Nat→Option (Int)
 | 0,_=>none
 | IV+1,i3=>(bif (decide ((x_.aA.g i3).ah=((x_.aA.g i2).ah))) then some 6 else eK i2 x_ IV (i3+1))
theorem tq {d:Nat} {h:aC} (i2:Nat) (j:cx) (x_:Task) (pr:Nat) (vL:Nat) (vM:Nat) (pt:aW h j.aw j.ab) (xA:aW h j.ao j.af) (IW:x_.name.length<2^60) (L9:b8 h .i64 3 x_.aU x_.aB) (IX:aW h x_.a_ x_.aA) (Hu:aR.ok h j) (V8:aR.ok h x_) (V9:aR.ok h (x_.aA.g i2)) (aaM:i2<x_.aA.length):∀(k_ i_:Nat) (_:i_+k_=i2) (x:Nat→AV) (hh:aC) (aI:Tidy hh) (aE:Has h hh) (mM:hh.get pr=some (aM.cells [j.aw,j.ao] 25 false)) (qg:hh.get vL=some (aM.cells [(AV.str x_.name),(Zi x_.takes),x_.aU,x_.a_] 40 false)) (rz:hh.get vM=some (aM.cells [(Zi (x_.aA.g i2).ah),(Zi (x_.aA.g i2).aJ)] 83 false)),aF (cN (d+1)) EU ⟨((x 0)::(x 1)::(Pt pr)::(Pt vL)::rx x 4 3 ((Zn i2)::(Pt vM)::(Zn i_)::rx x 10 99 [])),hh,[],.no⟩ (.exit 6) hh (fun y=>((y 0)::(y 1)::(Pt pr)::(Pt vL)::rx y 4 3 ((Zn i2)::(Pt vM)::rx y 9 100 []))) (fun r y=>((y 0)::(y 1)::(Pt pr)::(Pt vL)::(Zi r)::(y 5)::(y 6)::(Zn i2)::(Pt vM)::rx y 9 100 [])) (eK i2 x_ k_ i_)
 | 0,i3,fX,x,hh,aI,aE,mM,qg,rz=>by
   have q1:(decide (((i3:Nat):Int)<((i2:Nat):Int)))=false:=d!
   exact aF.out rfl (pk (d+1) _ _ hh _ hh (CN 2<|VV (bL 3 false false .i64 ((i3:Nat):Int) ((i2:Nat):Int))<|BB q1<|ZZ) k!) (bE.refl aI) k!
 | IV+1,i3,fX,x,hh,aI,aE,mM,qg,rz=>by
   have RY:=pt.small
   have RZ:=xA.small
   have ag9:=L9.small
   have anc:=IX.small
   have aha:=aI _ _ mM
   have akl:=aI _ _ qg
   have akm:=aI _ _ rz
   have q1:(decide (((i3:Nat):Int)<((i2:Nat):Int)))=true:=d!
   obtain ⟨p3,q4,cC⟩:=(IX.has aE).elem (i:=i3) o!
   have iW:bO env (some (.slice 83)) (some x_.a_) (some (Zn i3))=some (AV.ptr p3 q4):=cC
   have jY:bh env hh 3 (AV.ptr p3 (q4+0))=some (Zi (x_.aA.g i3).ah):=(IX.has aE).part (t:=3) (j:=0) o! cC k! rfl
   have c6:AV.same 20 x_.a_ x_.a_=true:=(IX.has aE).same 19
   have y9:=fun {al ps} (k:Pk al _ ps)=>(CN 2<|VV (bL 3 false false .i64 ((i3:Nat):Int) ((i2:Nat):Int))<|BC q1<|MM (aO 38 3 x_.a_ qg k!)<|CC<|VV iW<|CC<|MM jY<|CC<|MM (aO 3 0 (Zi (x_.aA.g i2).ah) rz k!)<|VV (vE 3 false false .i64 (x_.aA.g i3).ah (x_.aA.g i2).ah)<|HH (aO 38 3 x_.a_ qg k!)<|HH c6<|HH jY<|HH (show AV.same 20 (Zi (x_.aA.g i3).ah) (Zi (x_.aA.g i3).ah)=true from aS 19 _ _)<|HH (aO 3 0 (Zi (x_.aA.g i2).ah) rz k!)<|HH (show AV.same 20 (Zi (x_.aA.g i2).ah) (Zi (x_.aA.g i2).ah)=true from aS 19 _ _)<|k:Pk _ [] ps)
   rcases Bool.eq_false_or_eq_true (decide ((x_.aA.g i3).ah=((x_.aA.g i2).ah))) with f1 | f1
   · have fP:=of_decide_eq_true f1
     exact aF.ret 6 (by simp only[eK,f1,aj,ai]) (pk (d+1) _ _ hh _ hh (y9<|BC f1<|ZZ) k!) (bE.refl aI) k!
   · have fP:=of_decide_eq_false f1
     have u8:=fi 3 false true i3 1 o!
     exact aF.round (by simp only[eK,f1,aj,ai]) (pk (d+1) _ _ hh _ hh (y9<|BC f1<|VV u8<|CC<|ZZ) k!) (bE.refl aI) _ k! (fun x=>tq i2 j x_ pr vL vM pt xA IW L9 IX Hu V8 V9 aaM IV (i3+1) o! x hh aI aE mM qg rz)
def cH (x_:Task) (j:cx):Nat→Nat→Option (Int)
 | 0,_=>none
 | IU+1,i2=>(bif (decide ((x_.aA.g i2).ah<0)) then some 7 else (bif (decide (((j.af.length:Nat):Int)≤((x_.aA.g i2).ah))) then some 7 else (match (eK i2 x_ i2 0) with | none=>(bif (decide ((x_.aA.g i2).aJ<1)) then some 1 else (bif (decide (1000<((x_.aA.g i2).aJ))) then some 1 else (bif (decide ((j.af.g (x_.aA.g i2).ah.toNat).aJ<((x_.aA.g i2).aJ))) then some 9 else cH x_ j IU (i2+1)))) | some ahz=>some ahz)))
theorem tu {d:Nat} {h:aC} (x_:Task) (j:cx) (kM:Nat) (n6:Nat) (lq:aW h j.aw j.ab) (qe:aW h j.ao j.af) (BU:x_.name.length<2^60) (xz:b8 h .i64 3 x_.aU x_.aB) (Ht:aW h x_.a_ x_.aA) (An:aR.ok h j) (L6:aR.ok h x_):∀(k_ i_:Nat) (_:i_+k_=x_.aA.length) (x:Nat→AV) (hh:aC) (aI:Tidy hh) (aE:Has h hh) (jR:hh.get kM=some (aM.cells [j.aw,j.ao] 25 false)) (qf:hh.get n6=some (aM.cells [(AV.str x_.name),(Zi x_.takes),x_.aU,x_.a_] 40 false)),aF (cN (d+1)) ET ⟨((x 0)::(x 1)::(Pt kM)::(Pt n6)::rx x 4 3 ((Zn i_)::rx x 8 101 [])),hh,[],.no⟩ (.exit 4) hh (fun y=>((y 0)::(y 1)::(Pt kM)::(Pt n6)::rx y 4 105 [])) (fun r y=>((y 0)::(y 1)::(Pt kM)::(Pt n6)::(Zi r)::rx y 5 104 [])) (cH x_ j k_ i_)
 | 0,i2,fX,x,hh,aI,aE,jR,qf=>by
   have iC:cb (some (.slice 83)) (some x_.a_)=some (Zn x_.aA.length):=(Ht.has aE).len
   have q2:(decide (((i2:Nat):Int)<((x_.aA.length:Nat):Int)))=false:=d!
   exact aF.out rfl (pk (d+1) _ _ hh _ hh (CN 2<|MM (aO 38 3 x_.a_ qf k!)<|VV iC<|VV (bL 3 false false .i64 ((i2:Nat):Int) ((x_.aA.length:Nat):Int))<|BB q2<|ZZ) k!) (bE.refl aI) k!
 | IU+1,i2,fX,x,hh,aI,aE,jR,qf=>by
   have L7:=lq.small
   have L8:=qe.small
   have RX:=xz.small
   have ane:=Ht.small
   have adC:=aI _ _ jR
   have ag8:=aI _ _ qf
   have iC:cb (some (.slice 83)) (some x_.a_)=some (Zn x_.aA.length):=(Ht.has aE).len
   have q2:(decide (((i2:Nat):Int)<((x_.aA.length:Nat):Int)))=true:=d!
   obtain ⟨p4,q5,lp⟩:=(Ht.has aE).elem (i:=i2) o!
   have wJ:bO env (some (.slice 83)) (some x_.a_) (some (Zn i2))=some (AV.ptr p4 q5):=lp
   have tD:bh env hh 83 (AV.ptr p4 q5)=some (AV.agg [(Zi (x_.aA.g i2).ah),(Zi (x_.aA.g i2).aJ)]):=(Ht.has aE).load o! lp
   obtain ⟨h7,ahv,eP,vH,fH,B7⟩:=jE aI (aM.cells [(Zi 0),(Zi 0)] 83 false)
   have dm:Has hh h7:=B7
   obtain ⟨h8,ahw,sa,agy,lg,rL⟩:=n5 (t:=83) (n:=2) (i:=hh.nx) (L:=[(Zi (x_.aA.g i2).ah),(Zi (x_.aA.g i2).aJ)]) eP fH k! rfl rfl (by simp only[AV.cells,List.all_cons,List.all_nil,Bool.and_true,Bool.and_self,gr,eO,gu,gv,dG,jK,jL,jM,jN,jO,gz])
   have o9:Has hh h8:=Has.dg dm rL aI o!
   have AL:=fun {al ps} (k:Pk al _ ps)=>(CN 2<|MM (aO 38 3 x_.a_ qf k!)<|VV iC<|VV (bL 3 false false .i64 ((i2:Nat):Int) ((x_.aA.length:Nat):Int))<|BC q2<|MM (aO 38 3 x_.a_ qf k!)<|CC<|VV wJ<|MM tD<|NN ahv (fun i=>(Pt i))<|SS ahw<|CC<|MM (aO 3 0 (Zi (x_.aA.g i2).ah) lg k!)<|VV (bL 3 false true .i64 (x_.aA.g i2).ah 0)<|CC<|k:Pk _ [] ps)
   rcases Bool.eq_false_or_eq_true (decide ((x_.aA.g i2).ah<0)) with f1 | f1
   · have fP:=of_decide_eq_true f1
     exact aF.ret 7 (by simp only[cH,f1,aj,ai]) (pk (d+1) _ _ hh _ h8 (AL<|BB f1<|BB f1<|BB f1<|BB f1<|BB f1<|BV f1 (yA true f1)<|TT<|CC<|ZZ) k!) (⟨sa,o9,by omega⟩) k!
   · have fP:=of_decide_eq_false f1
     have tg:cb (some (.slice 37)) (some j.ao)=some (Zn j.af.length):=(qe.has aE).len
     have R0:=fun {al ps} (k:Pk al _ ps)=>(AL<|BC f1<|BM f1 (aO 3 0 (Zi (x_.aA.g i2).ah) lg k!)<|BC f1<|BM f1 (aO 23 1 j.ao (rL _ _ o! (B7 _ _ jR)) k!)<|BV f1 tg<|BV f1 (rv 3 false false .i64 (x_.aA.g i2).ah ((j.af.length:Nat):Int))<|k:Pk _ [] ps)
     rcases Bool.eq_false_or_eq_true (decide (((j.af.length:Nat):Int)≤((x_.aA.g i2).ah))) with f2 | f2
     · have se:=of_decide_eq_true f2
       exact aF.ret 7 (by simp only[cH,f1,f2,aj,ai]) (pk (d+1) _ _ hh _ h8 (R0<|VV (cf (a:=some (AV.bool true)) (b:=some (AV.bool (decide (((j.af.length:Nat):Int)≤((x_.aA.g i2).ah))))) f1)<|BC f2<|ZZ) k!) (⟨sa,o9,by omega⟩) k!
     · have se:=of_decide_eq_false f2
       have PA:=tq (d:=d) (h:=hh) i2 j x_ kM n6 hh.nx (lq.has aE) (qe.has aE) BU (xz.has aE) (Ht.has aE) (aR.mono aE An) (aR.mono aE L6) ((Ht.has aE).ok (i:=i2) o!) o! i2 0 o! (fun k_=>(((x 0)::(x 1)::(Pt kM)::(Pt n6)::rx x 4 3 ((Zn i2)::(Pt hh.nx)::(Zi 0)::rx x 10 44 ((Zn i2)::(AV.ptr n6 3)::x_.a_::(Zn x_.aA.length)::(AV.bool (decide (((i2:Nat):Int)<((x_.aA.length:Nat):Int))))::(x 59)::(x 60)::(AV.ptr n6 3)::x_.a_::(Zn i2)::(AV.ptr p4 q5)::(AV.agg [(Zi (x_.aA.g i2).ah),(Zi (x_.aA.g i2).aJ)])::(Pt hh.nx)::(Zi (x_.aA.g i2).ah)::(AV.bool (decide ((x_.aA.g i2).ah<0)))::(AV.bool (decide ((x_.aA.g i2).ah<0)))::(Pt hh.nx)::(Zi (x_.aA.g i2).ah)::(AV.ptr kM 1)::j.ao::(Zn j.af.length)::(AV.bool (decide (((j.af.length:Nat):Int)≤((x_.aA.g i2).ah))))::(AV.bool (decide (((j.af.length:Nat):Int)≤((x_.aA.g i2).ah))))::rx x 77 32 []))):List AV).getD k_ AV.undef) h8 sa o9 (rL _ _ o! (B7 _ _ jR)) (rL _ _ o! (B7 _ _ qf)) lg
       cases uT:eK i2 x_ i2 0 with
       | none=>
         obtain ⟨anf,lR,Mu,jA⟩:=aF.n uT PA
         have iQ:=jA.y
         have aaN:h8.nx≤lR.nx:=jA.n
         have jl:Has hh lR:=o9.trans jA.a
         have Pd:=fun {al ps} (k:Pk al _ ps)=>(R0<|VV (cf (a:=some (AV.bool true)) (b:=some (AV.bool (decide (((j.af.length:Nat):Int)≤((x_.aA.g i2).ah))))) f1)<|BC f2<|LL Mu<|CC<|MM (aO 3 1 (Zi (x_.aA.g i2).aJ) (jA.a _ _ lg) k!)<|VV (bL 3 false true .i64 (x_.aA.g i2).aJ 1)<|CC<|k:Pk _ [] ps)
         rcases Bool.eq_false_or_eq_true (decide ((x_.aA.g i2).aJ<1)) with f4 | f4
         · have R1:=of_decide_eq_true f4
           exact aF.ret 1 (by simp only[cH,f1,f2,uT,f4,aj,ai]) (pk (d+1) _ _ hh _ lR (Pd<|BB f4<|BB f4<|BV f4 (yA true f4)<|TT<|CC<|ZZ) k!) (⟨iQ,jl,by omega⟩) k!
         · have R1:=of_decide_eq_false f4
           have W6:=fun {al ps} (k:Pk al _ ps)=>(Pd<|BC f4<|BM f4 (aO 3 1 (Zi (x_.aA.g i2).aJ) (jA.a _ _ lg) k!)<|BV f4 (dw 3 false true .i64 (x_.aA.g i2).aJ 1000)<|VV (cf (a:=some (AV.bool true)) (b:=some (AV.bool (decide (1000<((x_.aA.g i2).aJ))))) f4)<|k:Pk _ [] ps)
           rcases Bool.eq_false_or_eq_true (decide (1000<((x_.aA.g i2).aJ))) with f5 | f5
           · have ahx:=of_decide_eq_true f5
             exact aF.ret 1 (by simp only[cH,f1,f2,uT,f4,f5,aj,ai]) (pk (d+1) _ _ hh _ lR (W6<|BC f5<|ZZ) k!) (⟨iQ,jl,by omega⟩) k!
           · have ahx:=of_decide_eq_false f5
             obtain ⟨RV,RW,xx⟩:=(qe.has aE).elem (i:=((x_.aA.g i2).ah).toNat) o!
             have C2:bO env (some (.slice 37)) (some j.ao) (some (Zi (x_.aA.g i2).ah))=some (AV.ptr RV RW):=by rw[show (((x_.aA.g i2).ah):Int)=(((x_.aA.g i2).ah.toNat:Nat):Int) by omega];exact xx
             have Bs:bh env lR 3 (AV.ptr RV (RW+1))=some (Zi (j.af.g (x_.aA.g i2).ah.toNat).aJ):=((qe.has aE).has jl).part (t:=3) (j:=1) o! xx k! rfl
             have c20:AV.same 20 j.ao j.ao=true:=(qe.has aE).same 19
             have pf9:=fun {al ps} (k:Pk al _ ps)=>(W6<|BC f5<|MM (aO 3 1 (Zi (x_.aA.g i2).aJ) (jA.a _ _ lg) k!)<|CC<|MM (aO 23 1 j.ao (jA.a _ _ (rL _ _ o! (B7 _ _ jR))) k!)<|CC<|MM (aO 3 0 (Zi (x_.aA.g i2).ah) (jA.a _ _ lg) k!)<|VV C2<|CC<|MM Bs<|VV (dw 3 false false .i64 (x_.aA.g i2).aJ (j.af.g (x_.aA.g i2).ah.toNat).aJ)<|HH (aO 3 1 (Zi (x_.aA.g i2).aJ) (jA.a _ _ lg) k!)<|HH (show AV.same 20 (Zi (x_.aA.g i2).aJ) (Zi (x_.aA.g i2).aJ)=true from aS 19 _ _)<|HH (aO 23 1 j.ao (jA.a _ _ (rL _ _ o! (B7 _ _ jR))) k!)<|HH c20<|HH (aO 3 0 (Zi (x_.aA.g i2).ah) (jA.a _ _ lg) k!)<|HH (show AV.same 20 (Zi (x_.aA.g i2).ah) (Zi (x_.aA.g i2).ah)=true from aS 19 _ _)<|HH Bs<|HH (show AV.same 20 (Zi (j.af.g (x_.aA.g i2).ah.toNat).aJ) (Zi (j.af.g (x_.aA.g i2).ah.toNat).aJ)=true from aS 19 _ _)<|k:Pk _ [] ps)
             rcases Bool.eq_false_or_eq_true (decide ((j.af.g (x_.aA.g i2).ah.toNat).aJ<((x_.aA.g i2).aJ))) with f6 | f6
             · have ang:=of_decide_eq_true f6
               exact aF.ret 9 (by simp only[cH,f1,f2,uT,f4,f5,f6,aj,ai]) (pk (d+1) _ _ hh _ lR (pf9<|BC f6<|ZZ) k!) (⟨iQ,jl,by omega⟩) k!
             · have ang:=of_decide_eq_false f6
               have u22:=fi 3 false true i2 1 o!
               exact aF.round (by simp only[cH,f1,f2,uT,f4,f5,f6,aj,ai]) (pk (d+1) _ _ hh _ lR (pf9<|BC f6<|VV u22<|CC<|ZZ) k!) (⟨iQ,jl,by omega⟩) _ k! (fun x=>tu x_ j kM n6 lq qe BU xz Ht An L6 IU (i2+1) o! x lR iQ (aE.trans jl) (jA.a _ _ (rL _ _ o! (B7 _ _ jR))) (jA.a _ _ (rL _ _ o! (B7 _ _ qf))))
       | some ahz=>
         obtain ⟨anf,lR,Mu,jA⟩:=aF.r uT PA
         have iQ:=jA.y
         have aaN:h8.nx≤lR.nx:=jA.n
         have jl:Has hh lR:=o9.trans jA.a
         exact aF.ret ahz (by simp only[cH,f1,f2,uT,aj,ai]) (pk (d+1) _ _ hh _ lR (R0<|VV (cf (a:=some (AV.bool true)) (b:=some (AV.bool (decide (((j.af.length:Nat):Int)≤((x_.aA.g i2).ah))))) f1)<|BC f2<|LL Mu<|ZZ) k!) (⟨iQ,jl,by omega⟩) k!
def cY (j:cx) (x_:Task):Int:=(bif (!(d_ x_.takes)) then 1 else (match (dk x_ j x_.aB.length 0) with | none=>(match (cH x_ j x_.aA.length 0) with | none=>0 | some rr7=>rr7) | some rr5=>rr5))
theorem I4 {d:Nat} {h:aC} (j:cx) (x_:Task) (bV:aR.ok h j) (qZ:aR.ok h x_) (ch:Tidy h):cN (d+2) (.fn 56) [(AV.agg [j.aw,j.ao]),(AV.agg [(AV.str x_.name),(Zi x_.takes),x_.aU,x_.a_])] h= .ret (Zi (cY j x_)) h:=by
 obtain ⟨h1,di,cS,jU,bm,bP⟩:=jE ch (aM.cells [j.aw,j.ao] 25 false)
 have bA:Has h h1:=bP
 obtain ⟨h2,Rd,yC,ac3,pX,r_⟩:=jE cS (aM.cells [(AV.str x_.name),(Zi x_.takes),x_.aU,x_.a_] 40 false)
 have kT:Has h h2:=bA.trans r_
 have k3:=ym (d:=d) x_.takes yC
 have Mb:=fun {al ps} (k:Pk al _ ps)=>(NN di (fun i=>(Pt i))<|NN Rd (fun i=>(Pt i))<|CN 2<|MM (aO 3 1 (Zi x_.takes) pX k!)<|EE k3<|CC<|k:Pk _ [] ps)
 rcases Bool.eq_false_or_eq_true (!(d_ x_.takes)) with f0 | f0
 · have e:cY j x_=1:=by simp only[cY,f0,aj,ai]
   rw[e]
   exact aH rfl (bb Tryz.func56 oM rfl (.inr rfl) (pk (d+1) _ _ h _ h2 (Mb<|BC f0<|ZZ) k!) k!) kT rfl
 · have Hv:=tp (d:=d) (h:=h) x_ j h.nx h1.nx bV.1 bV.2 qZ.1 qZ.2.1 qZ.2.2 bV qZ x_.aB.length 0 o! (fun k_=>(((AV.agg [j.aw,j.ao])::(AV.agg [(AV.str x_.name),(Zi x_.takes),x_.aU,x_.a_])::(Pt h.nx)::(Pt h1.nx)::(Zi 0)::(Zi 0)::AV.undef::AV.undef::AV.undef::AV.undef::(AV.ptr h1.nx 1)::(Zi x_.takes)::(AV.bool (d_ x_.takes))::(AV.bool (!(d_ x_.takes)))::jX 95):List AV).getD k_ AV.undef) h2 yC kT (r_ _ _ bm) pX
   cases HE:dk x_ j x_.aB.length 0 with
   | none=>
     obtain ⟨VY,h6,sh,vN⟩:=aF.n HE Hv
     have ji:=vN.y
     have hZ:Has h h6:=kT.trans vN.a
     have aaf:=tu (d:=d) (h:=h) x_ j h.nx h1.nx bV.1 bV.2 qZ.1 qZ.2.1 qZ.2.2 bV qZ x_.aA.length 0 o! (fun k_=>(((VY 0)::(VY 1)::(Pt h.nx)::(Pt h1.nx)::rx VY 4 3 ((Zi 0)::rx VY 8 101 [])):List AV).getD k_ AV.undef) h6 ji hZ (vN.a _ _ (r_ _ _ bm)) (vN.a _ _ pX)
     cases Mv:cH x_ j x_.aA.length 0 with
     | none=>
       obtain ⟨yl7,h8,Sd,ahA⟩:=aF.n Mv aaf
       have o9:Has h h8:=hZ.trans ahA.a
       have e:cY j x_=0:=by simp only[cY,f0,HE,Mv,aj,ai]
       rw[e]
       exact aH rfl (bb Tryz.func56 oM rfl (.inr rfl) (pk (d+1) _ _ h _ h8 (Mb<|BC f0<|LL sh<|CC<|LL Sd<|CC<|ZZ) k!) k!) o9 rfl
     | some rr7=>
       obtain ⟨yl7,h8,Sd,ahA⟩:=aF.r Mv aaf
       have o9:Has h h8:=hZ.trans ahA.a
       have e:cY j x_=rr7:=by simp only[cY,f0,HE,Mv,aj,ai]
       rw[e]
       exact aH rfl (bb Tryz.func56 oM rfl (.inr rfl) (pk (d+1) _ _ h _ h8 (Mb<|BC f0<|LL sh<|CC<|LL Sd<|ZZ) k!) k!) o9 rfl
   | some rr5=>
     obtain ⟨VY,h6,sh,vN⟩:=aF.r HE Hv
     have ji:=vN.y
     have hZ:Has h h6:=kT.trans vN.a
     have e:cY j x_=rr5:=by simp only[cY,f0,HE,aj,ai]
     rw[e]
     exact aH rfl (bb Tryz.func56 oM rfl (.inr rfl) (pk (d+1) _ _ h _ h6 (Mb<|BC f0<|LL sh<|ZZ) k!) k!) hZ rfl
theorem Se {x:Int} (h:d_ x=true):0≤x∧x≤100000:=by
 unfold d_ at h
 by_cases q:0≤x
 · rw[decide_eq_true q] at h;exact ⟨q,of_decide_eq_true h⟩
 · rw[decide_eq_false q] at h;cases h
theorem rM {i0:Nat} {x:Task}:∀{k i:Nat} {r:Int},eJ i0 x k i=some r→r≠0
 | 0,i,r,h=>by cases h
 | k+1,i,r,h=>by
   rw[eJ] at h
   cases q:decide (x.aB.g i=x.aB.g i0) with
   | true=>rw[q] at h;cases h;decide
   | false=>rw[q] at h;exact rM (k:=k) h
theorem rN {i0:Nat} {x:Task}:∀{k i:Nat} {r:Int},eK i0 x k i=some r→r≠0
 | 0,i,r,h=>by cases h
 | k+1,i,r,h=>by
   rw[eK] at h
   cases q:decide ((x.aA.g i).ah=(x.aA.g i0).ah) with
   | true=>rw[q] at h;cases h;decide
   | false=>rw[q] at h;exact rN (k:=k) h
theorem nN {j:cx} {x:Task}:∀{k i:Nat},(dk x j k i=none→∀q,i≤q→q<i+k→0≤x.aB.g q∧x.aB.g q<(j.ab.length:Int))∧(∀r,dk x j k i=some r→r≠0)
 | 0,i=>⟨fun _ q h1 h2=>by omega,fun r h=>by cases h⟩
 | k+1,i=>by
   have ih:=nN (j:=j) (x:=x) (k:=k) (i:=i+1)
   rw[dk]
   by_cases a:x.aB.g i<0
   · rw[decide_eq_true a];exact ⟨(fun h=>by cases h),(fun r h=>by cases h;decide)⟩
   · by_cases b:(j.ab.length:Int)≤x.aB.g i
     · rw[decide_eq_false a,decide_eq_true b];exact ⟨(fun h=>by cases h),(fun r h=>by cases h;decide)⟩
     · rw[decide_eq_false a,decide_eq_false b]
       cases c:eJ i x i 0 with
       | some r0=>exact ⟨(fun h=>by cases h),(fun r h=>by cases h;exact rM c)⟩
       | none=>
         refine ⟨fun h q h1 h2=>?_,ih.2⟩
         by_cases e:q=i
         · rw[e];omega
         · exact ih.1 h q o! o!
theorem nO {j:cx} {x:Task}:∀{k i:Nat},(cH x j k i=none→∀q,i≤q→q<i+k→0≤(x.aA.g q).ah∧(x.aA.g q).ah<(j.af.length:Int))∧(∀r,cH x j k i=some r→r≠0)
 | 0,i=>⟨fun _ q h1 h2=>by omega,fun r h=>by cases h⟩
 | k+1,i=>by
   have ih:=nO (j:=j) (x:=x) (k:=k) (i:=i+1)
   rw[cH]
   by_cases a:(x.aA.g i).ah<0
   · rw[decide_eq_true a];exact ⟨(fun h=>by cases h),(fun r h=>by cases h;decide)⟩
   · by_cases b:(j.af.length:Int)≤(x.aA.g i).ah
     · rw[decide_eq_false a,decide_eq_true b];exact ⟨(fun h=>by cases h),(fun r h=>by cases h;decide)⟩
     · rw[decide_eq_false a,decide_eq_false b]
       cases c:eK i x i 0 with
       | some r0=>exact ⟨(fun h=>by cases h),(fun r h=>by cases h;exact rN c)⟩
       | none=>
         cases d1:decide ((x.aA.g i).aJ<1) with
         | true=>exact ⟨(fun h=>by cases h),(fun r h=>by cases h;decide)⟩
         | false=>
           cases d2:decide (1000<(x.aA.g i).aJ) with
           | true=>exact ⟨(fun h=>by cases h),(fun r h=>by cases h;decide)⟩
           | false=>
             cases d3:decide ((j.af.g (Int.toNat (x.aA.g i).ah)).aJ<(x.aA.g i).aJ) with
             | true=>exact ⟨(fun h=>by cases h),(fun r h=>by cases h;decide)⟩
             | false=>
               refine ⟨fun h q h1 h2=>?_,ih.2⟩
               by_cases e:q=i
               · rw[e];omega
               · exact ih.1 h q o! o!
theorem xJ {j:cx} {x:Task} (h:cY j x=0):(0≤x.takes∧x.takes≤100000)∧(∀q,q<x.aB.length→0≤x.aB.g q∧x.aB.g q<(j.ab.length:Int))∧(∀q,q<x.aA.length→0≤(x.aA.g q).ah∧(x.aA.g q).ah<(j.af.length:Int)):=by
 unfold cY at h
 cases t:d_ x.takes with
 | false=>rw[t] at h;cases h
 | true=>
   rw[t] at h
   cases a:dk x j x.aB.length 0 with
   | some r=>rw[a] at h;exact absurd h (nN.2 r a)
   | none=>
     rw[a] at h
     cases b:cH x j x.aA.length 0 with
     | some r=>rw[b] at h;exact absurd h (nO.2 r b)
     | none=>exact ⟨Se t,fun q hq=>nN.1 a q o! o!,fun q hq=>nO.1 b q o! o!⟩
def nP:Code:=(Tryz.f20.body).getD .skip
theorem qo:Tryz.f20.body=some nP:=by kernel_rfl
def PB:Code:=(bw nP).getD 0 .skip
def PC:Code:=(bw nP).getD 1 .skip
def PD:Code:=(bw nP).getD 2 .skip
def PE:Code:=(bw nP).getD 3 .skip
def iL (i0:Nat) (j:cx):Nat→Nat→Option (Int)
 | 0,_=>none
 | o8+1,i1=>(bif (decide ((j.af.g i1).name=((j.af.g i0).name))) then some 6 else iL i0 j o8 (i1+1))
theorem B_ {d:Nat} {h:aC} (i0:Nat) (j:cx) (cU:Nat) (eM:aW h j.aw j.ab) (eR:aW h j.ao j.af) (mZ:aR.ok h j) (GI:i0<j.af.length):∀(k_ i_:Nat) (_:i_+k_=i0) (x:Nat→AV) (hh:aC) (aI:Tidy hh) (aE:Has h hh) (cO:hh.get cU=some (aM.cells [j.aw,j.ao] 25 false)),aF (cN (d+2)) PC ⟨((x 0)::(Pt cU)::(x 2)::(Zn i0)::(Zn i_)::rx x 5 104 []),hh,[],.no⟩ (.exit 2) hh (fun y=>((y 0)::(Pt cU)::(y 2)::(Zn i0)::rx y 4 105 [])) (fun r y=>((y 0)::(Pt cU)::(Zi r)::(Zn i0)::rx y 4 105 [])) (iL i0 j k_ i_)
 | 0,i1,fX,x,hh,aI,aE,cO=>by
   have q1:(decide (((i1:Nat):Int)<((i0:Nat):Int)))=false:=d!
   exact aF.out rfl (pk (d+2) _ _ hh _ hh (CN 2<|VV (bL 3 false false .i64 ((i1:Nat):Int) ((i0:Nat):Int))<|BB q1<|ZZ) k!) (bE.refl aI) k!
 | o8+1,i1,fX,x,hh,aI,aE,cO=>by
   have qR:=eM.small
   have r7:=eR.small
   have Iz:=aI _ _ cO
   have q1:(decide (((i1:Nat):Int)<((i0:Nat):Int)))=true:=d!
   obtain ⟨p3,q4,cC⟩:=(eR.has aE).elem (i:=i1) o!
   have iW:bO env (some (.slice 37)) (some j.ao) (some (Zn i1))=some (AV.ptr p3 q4):=cC
   have jY:bh env hh 9 (AV.ptr p3 (q4+0))=some (AV.str (j.af.g i1).name):=(eR.has aE).part (t:=9) (j:=0) o! cC k! rfl
   obtain ⟨p7,q8,xE⟩:=(eR.has aE).elem (i:=i0) o!
   have Lr:bO env (some (.slice 37)) (some j.ao) (some (Zn i0))=some (AV.ptr p7 q8):=xE
   have I3:bh env hh 9 (AV.ptr p7 (q8+0))=some (AV.str (j.af.g i0).name):=(eR.has aE).part (t:=9) (j:=0) o! xE k! rfl
   have W8:AV.same 20 j.ao j.ao=true:=(eR.has aE).same 19
   have dJ:=fun {al ps} (k:Pk al _ ps)=>(CN 2<|VV (bL 3 false false .i64 ((i1:Nat):Int) ((i0:Nat):Int))<|BC q1<|MM (aO 23 1 j.ao cO k!)<|CC<|VV iW<|CC<|MM jY<|CC<|MM (aO 23 1 j.ao cO k!)<|CC<|VV Lr<|CC<|MM I3<|VV (Vv 9 false false (j.af.g i1).name (j.af.g i0).name)<|HH (aO 23 1 j.ao cO k!)<|HH W8<|HH jY<|HH (show AV.same 20 (AV.str (j.af.g i1).name) (AV.str (j.af.g i1).name)=true from mf 19 _)<|HH (aO 23 1 j.ao cO k!)<|HH W8<|HH I3<|HH (show AV.same 20 (AV.str (j.af.g i0).name) (AV.str (j.af.g i0).name)=true from mf 19 _)<|k:Pk _ [] ps)
   rcases Bool.eq_false_or_eq_true (decide ((j.af.g i1).name=((j.af.g i0).name))) with f1 | f1
   · have fP:=of_decide_eq_true f1
     exact aF.ret 6 (by simp only[iL,f1,aj,ai]) (pk (d+2) _ _ hh _ hh (dJ<|BC f1<|ZZ) k!) (bE.refl aI) k!
   · have fP:=of_decide_eq_false f1
     have u12:=fi 3 false true i1 1 o!
     exact aF.round (by simp only[iL,f1,aj,ai]) (pk (d+2) _ _ hh _ hh (dJ<|BC f1<|VV u12<|CC<|ZZ) k!) (bE.refl aI) _ k! (fun x=>B_ i0 j cU eM eR mZ GI o8 (i1+1) o! x hh aI aE cO)
def gH (j:cx):Nat→Nat→Option (Int)
 | 0,_=>none
 | dq+1,i0=>(bif (!(fI (j.af.g i0).name)) then some 5 else (match (iL i0 j i0 0) with | none=>(bif (!decide ((bY (j.af.g i0))=0)) then some (bY (j.af.g i0)) else gH j dq (i0+1)) | some rr9=>some rr9))
theorem Ca {d:Nat} {h:aC} (j:cx) (bk:Nat) (bx:aW h j.aw j.ab) (cZ:aW h j.ao j.af) (g5:aR.ok h j):∀(k_ i_:Nat) (_:i_+k_=j.af.length) (x:Nat→AV) (hh:aC) (aI:Tidy hh) (aE:Has h hh) (br:hh.get bk=some (aM.cells [j.aw,j.ao] 25 false)),aF (cN (d+2)) PB ⟨((x 0)::(Pt bk)::(x 2)::(Zn i_)::rx x 4 105 []),hh,[],.no⟩ (.exit 0) hh (fun y=>((y 0)::(Pt bk)::rx y 2 107 [])) (fun r y=>((y 0)::(Pt bk)::(Zi r)::rx y 3 106 [])) (gH j k_ i_)
 | 0,i0,fX,x,hh,aI,aE,br=>by
   have iC:cb (some (.slice 37)) (some j.ao)=some (Zn j.af.length):=(cZ.has aE).len
   have q2:(decide (((i0:Nat):Int)<((j.af.length:Nat):Int)))=false:=d!
   exact aF.out rfl (pk (d+2) _ _ hh _ hh (CN 2<|MM (aO 23 1 j.ao br k!)<|VV iC<|VV (bL 3 false false .i64 ((i0:Nat):Int) ((j.af.length:Nat):Int))<|BB q2<|ZZ) k!) (bE.refl aI) k!
 | dq+1,i0,fX,x,hh,aI,aE,br=>by
   have gT:=bx.small
   have nz:=cZ.small
   have sU:=aI _ _ br
   have iC:cb (some (.slice 37)) (some j.ao)=some (Zn j.af.length):=(cZ.has aE).len
   have q2:(decide (((i0:Nat):Int)<((j.af.length:Nat):Int)))=true:=d!
   obtain ⟨p4,q5,lp⟩:=(cZ.has aE).elem (i:=i0) o!
   have wJ:bO env (some (.slice 37)) (some j.ao) (some (Zn i0))=some (AV.ptr p4 q5):=lp
   have tD:bh env hh 9 (AV.ptr p4 (q5+0))=some (AV.str (j.af.g i0).name):=(cZ.has aE).part (t:=9) (j:=0) o! lp k! rfl
   have k7:=Py (d:=d+1) (j.af.g i0).name ((cZ.has aE).ok (i:=i0) o!).1 aI
   have hX:=fun {al ps} (k:Pk al _ ps)=>(CN 2<|MM (aO 23 1 j.ao br k!)<|VV iC<|VV (bL 3 false false .i64 ((i0:Nat):Int) ((j.af.length:Nat):Int))<|BC q2<|MM (aO 23 1 j.ao br k!)<|CC<|VV wJ<|CC<|MM tD<|EE k7<|CC<|k:Pk _ [] ps)
   rcases Bool.eq_false_or_eq_true (!(fI (j.af.g i0).name)) with f1 | f1
   · exact aF.ret 5 (by simp only[gH,f1,aj,ai]) (pk (d+2) _ _ hh _ hh (hX<|BC f1<|ZZ) k!) (bE.refl aI) k!
   · have aaO:=B_ (d:=d) (h:=hh) i0 j bk (bx.has aE) (cZ.has aE) (aR.mono aE g5) o! i0 0 o! (fun k_=>(((x 0)::(Pt bk)::(x 2)::(Zn i0)::(Zi 0)::rx x 5 8 ((Zn i0)::(AV.ptr bk 1)::j.ao::(Zn j.af.length)::(AV.bool (decide (((i0:Nat):Int)<((j.af.length:Nat):Int))))::(x 18)::(x 19)::(AV.ptr bk 1)::j.ao::(Zn i0)::(AV.ptr p4 q5)::(AV.ptr p4 (q5+0))::(AV.str (j.af.g i0).name)::(AV.bool (fI (j.af.g i0).name))::(AV.bool (!(fI (j.af.g i0).name)))::rx x 28 81 [])):List AV).getD k_ AV.undef) hh aI (Has.refl _) br
     cases rh:iL i0 j i0 0 with
     | none=>
       obtain ⟨yl9,sX,At,lT⟩:=aF.n rh aaO
       have mi:=lT.y
       have aaP:hh.nx≤sX.nx:=lT.n
       have jZ:Has hh sX:=lT.a
       obtain ⟨p12,q13,D'⟩:=(cZ.has aE).elem (i:=i0) o!
       have RA:bO env (some (.slice 37)) (some j.ao) (some (Zn i0))=some (AV.ptr p12 q13):=D'
       have RB:bh env sX 37 (AV.ptr p12 q13)=some (AV.agg [(AV.str (j.af.g i0).name),(Zi (j.af.g i0).aJ),(j.af.g i0).dW]):=((cZ.has aE).has jZ).load o! D'
       have k15:=B8 (d:=d) (j.af.g i0) (aR.mono jZ ((cZ.has aE).ok (i:=i0) o!)) mi
       have ow:=fun {al ps} (k:Pk al _ ps)=>(hX<|BC f1<|LL At<|CC<|MM (aO 23 1 j.ao (lT.a _ _ br) k!)<|CC<|VV RA<|MM RB<|EE k15<|CN 2<|VV (kS 29 false true .i64 (bY (j.af.g i0)) 0)<|k:Pk _ [] ps)
       rcases Bool.eq_false_or_eq_true (!decide ((bY (j.af.g i0))=0)) with f3 | f3
       · have yG:=P7 f3
         exact aF.ret (bY (j.af.g i0)) (by simp only[gH,f1,rh,f3,aj,ai]) (pk (d+2) _ _ hh _ sX (ow<|BB f3<|CN 2<|ZZ) k!) (⟨mi,jZ,by omega⟩) k!
       · have yG:=P9 f3
         have u17:=fi 3 false true i0 1 o!
         exact aF.round (by simp only[gH,f1,rh,f3,aj,ai]) (pk (d+2) _ _ hh _ sX (ow<|BC f3<|VV u17<|CC<|ZZ) k!) (⟨mi,jZ,by omega⟩) _ k! (fun x=>Ca j bk bx cZ g5 dq (i0+1) o! x sX mi (aE.trans jZ) (lT.a _ _ br))
     | some rr9=>
       obtain ⟨yl9,sX,At,lT⟩:=aF.r rh aaO
       have mi:=lT.y
       have aaP:hh.nx≤sX.nx:=lT.n
       have jZ:Has hh sX:=lT.a
       exact aF.ret rr9 (by simp only[gH,f1,rh,aj,ai]) (pk (d+2) _ _ hh _ sX (hX<|BC f1<|LL At<|ZZ) k!) (⟨mi,jZ,by omega⟩) k!
def iM (i2:Nat) (j:cx):Nat→Nat→Option (Int)
 | 0,_=>none
 | IV+1,i3=>(bif (decide ((j.ab.g i3).name=((j.ab.g i2).name))) then some 6 else iM i2 j IV (i3+1))
theorem Cb {d:Nat} {h:aC} (i2:Nat) (j:cx) (pr:Nat) (pt:aW h j.aw j.ab) (xA:aW h j.ao j.af) (Hu:aR.ok h j) (aaM:i2<j.ab.length):∀(k_ i_:Nat) (_:i_+k_=i2) (x:Nat→AV) (hh:aC) (aI:Tidy hh) (aE:Has h hh) (mM:hh.get pr=some (aM.cells [j.aw,j.ao] 25 false)),aF (cN (d+2)) PE ⟨((x 0)::(Pt pr)::rx x 2 4 ((Zn i2)::(Zn i_)::rx x 8 101 [])),hh,[],.no⟩ (.exit 6) hh (fun y=>((y 0)::(Pt pr)::rx y 2 4 ((Zn i2)::rx y 7 102 []))) (fun r y=>((y 0)::(Pt pr)::(Zi r)::rx y 3 3 ((Zn i2)::rx y 7 102 []))) (iM i2 j k_ i_)
 | 0,i3,fX,x,hh,aI,aE,mM=>by
   have q1:(decide (((i3:Nat):Int)<((i2:Nat):Int)))=false:=d!
   exact aF.out rfl (pk (d+2) _ _ hh _ hh (CN 2<|VV (bL 3 false false .i64 ((i3:Nat):Int) ((i2:Nat):Int))<|BB q1<|ZZ) k!) (bE.refl aI) k!
 | IV+1,i3,fX,x,hh,aI,aE,mM=>by
   have RY:=pt.small
   have RZ:=xA.small
   have aha:=aI _ _ mM
   have q1:(decide (((i3:Nat):Int)<((i2:Nat):Int)))=true:=d!
   obtain ⟨p3,q4,cC⟩:=(pt.has aE).elem (i:=i3) o!
   have iW:bO env (some (.slice 40)) (some j.aw) (some (Zn i3))=some (AV.ptr p3 q4):=cC
   have jY:bh env hh 9 (AV.ptr p3 (q4+0))=some (AV.str (j.ab.g i3).name):=(pt.has aE).part (t:=9) (j:=0) o! cC k! rfl
   obtain ⟨p7,q8,xE⟩:=(pt.has aE).elem (i:=i2) o!
   have Lr:bO env (some (.slice 40)) (some j.aw) (some (Zn i2))=some (AV.ptr p7 q8):=xE
   have I3:bh env hh 9 (AV.ptr p7 (q8+0))=some (AV.str (j.ab.g i2).name):=(pt.has aE).part (t:=9) (j:=0) o! xE k! rfl
   have W8:AV.same 20 j.aw j.aw=true:=(pt.has aE).same 19
   have y9:=fun {al ps} (k:Pk al _ ps)=>(CN 2<|VV (bL 3 false false .i64 ((i3:Nat):Int) ((i2:Nat):Int))<|BC q1<|MM (aO 22 0 j.aw mM k!)<|CC<|VV iW<|CC<|MM jY<|CC<|MM (aO 22 0 j.aw mM k!)<|CC<|VV Lr<|CC<|MM I3<|VV (Vv 9 false false (j.ab.g i3).name (j.ab.g i2).name)<|HH (aO 22 0 j.aw mM k!)<|HH W8<|HH jY<|HH (show AV.same 20 (AV.str (j.ab.g i3).name) (AV.str (j.ab.g i3).name)=true from mf 19 _)<|HH (aO 22 0 j.aw mM k!)<|HH W8<|HH I3<|HH (show AV.same 20 (AV.str (j.ab.g i2).name) (AV.str (j.ab.g i2).name)=true from mf 19 _)<|k:Pk _ [] ps)
   rcases Bool.eq_false_or_eq_true (decide ((j.ab.g i3).name=((j.ab.g i2).name))) with f1 | f1
   · have fP:=of_decide_eq_true f1
     exact aF.ret 6 (by simp only[iM,f1,aj,ai]) (pk (d+2) _ _ hh _ hh (y9<|BC f1<|ZZ) k!) (bE.refl aI) k!
   · have fP:=of_decide_eq_false f1
     have u12:=fi 3 false true i3 1 o!
     exact aF.round (by simp only[iM,f1,aj,ai]) (pk (d+2) _ _ hh _ hh (y9<|BC f1<|VV u12<|CC<|ZZ) k!) (bE.refl aI) _ k! (fun x=>Cb i2 j pr pt xA Hu aaM IV (i3+1) o! x hh aI aE mM)
def fu (j:cx):Nat→Nat→Option (Int)
 | 0,_=>none
 | IU+1,i2=>(bif (!(fI (j.ab.g i2).name)) then some 5 else (match (iM i2 j i2 0) with | none=>(bif (!decide ((cY j (j.ab.g i2))=0)) then some (cY j (j.ab.g i2)) else fu j IU (i2+1)) | some rr9=>some rr9))
theorem Cc {d:Nat} {h:aC} (j:cx) (kM:Nat) (lq:aW h j.aw j.ab) (qe:aW h j.ao j.af) (An:aR.ok h j):∀(k_ i_:Nat) (_:i_+k_=j.ab.length) (x:Nat→AV) (hh:aC) (aI:Tidy hh) (aE:Has h hh) (jR:hh.get kM=some (aM.cells [j.aw,j.ao] 25 false)),aF (cN (d+2)) PD ⟨((x 0)::(Pt kM)::rx x 2 4 ((Zn i_)::rx x 7 102 [])),hh,[],.no⟩ (.exit 4) hh (fun y=>((y 0)::(Pt kM)::rx y 2 107 [])) (fun r y=>((y 0)::(Pt kM)::(Zi r)::rx y 3 106 [])) (fu j k_ i_)
 | 0,i2,fX,x,hh,aI,aE,jR=>by
   have iC:cb (some (.slice 40)) (some j.aw)=some (Zn j.ab.length):=(lq.has aE).len
   have q2:(decide (((i2:Nat):Int)<((j.ab.length:Nat):Int)))=false:=d!
   exact aF.out rfl (pk (d+2) _ _ hh _ hh (CN 2<|MM (aO 22 0 j.aw jR k!)<|VV iC<|VV (bL 3 false false .i64 ((i2:Nat):Int) ((j.ab.length:Nat):Int))<|BB q2<|ZZ) k!) (bE.refl aI) k!
 | IU+1,i2,fX,x,hh,aI,aE,jR=>by
   have L7:=lq.small
   have L8:=qe.small
   have adC:=aI _ _ jR
   have iC:cb (some (.slice 40)) (some j.aw)=some (Zn j.ab.length):=(lq.has aE).len
   have q2:(decide (((i2:Nat):Int)<((j.ab.length:Nat):Int)))=true:=d!
   obtain ⟨p4,q5,lp⟩:=(lq.has aE).elem (i:=i2) o!
   have wJ:bO env (some (.slice 40)) (some j.aw) (some (Zn i2))=some (AV.ptr p4 q5):=lp
   have tD:bh env hh 9 (AV.ptr p4 (q5+0))=some (AV.str (j.ab.g i2).name):=(lq.has aE).part (t:=9) (j:=0) o! lp k! rfl
   have k7:=Py (d:=d+1) (j.ab.g i2).name ((lq.has aE).ok (i:=i2) o!).1 aI
   have AL:=fun {al ps} (k:Pk al _ ps)=>(CN 2<|MM (aO 22 0 j.aw jR k!)<|VV iC<|VV (bL 3 false false .i64 ((i2:Nat):Int) ((j.ab.length:Nat):Int))<|BC q2<|MM (aO 22 0 j.aw jR k!)<|CC<|VV wJ<|CC<|MM tD<|EE k7<|CC<|k:Pk _ [] ps)
   rcases Bool.eq_false_or_eq_true (!(fI (j.ab.g i2).name)) with f1 | f1
   · exact aF.ret 5 (by simp only[fu,f1,aj,ai]) (pk (d+2) _ _ hh _ hh (AL<|BC f1<|ZZ) k!) (bE.refl aI) k!
   · have Pz:=Cb (d:=d) (h:=hh) i2 j kM (lq.has aE) (qe.has aE) (aR.mono aE An) o! i2 0 o! (fun k_=>(((x 0)::(Pt kM)::rx x 2 4 ((Zn i2)::(Zi 0)::rx x 8 51 ((Zn i2)::(Pt kM)::j.aw::(Zn j.ab.length)::(AV.bool (decide (((i2:Nat):Int)<((j.ab.length:Nat):Int))))::(x 64)::(x 65)::(Pt kM)::j.aw::(Zn i2)::(AV.ptr p4 q5)::(AV.ptr p4 (q5+0))::(AV.str (j.ab.g i2).name)::(AV.bool (fI (j.ab.g i2).name))::(AV.bool (!(fI (j.ab.g i2).name)))::rx x 74 35 []))):List AV).getD k_ AV.undef) hh aI (Has.refl _) jR
     cases rh:iM i2 j i2 0 with
     | none=>
       obtain ⟨yl9,sX,At,lT⟩:=aF.n rh Pz
       have mi:=lT.y
       have aaP:hh.nx≤sX.nx:=lT.n
       have jZ:Has hh sX:=lT.a
       obtain ⟨p12,q13,D'⟩:=(lq.has aE).elem (i:=i2) o!
       have RA:bO env (some (.slice 40)) (some j.aw) (some (Zn i2))=some (AV.ptr p12 q13):=D'
       have RB:bh env sX 40 (AV.ptr p12 q13)=some (AV.agg [(AV.str (j.ab.g i2).name),(Zi (j.ab.g i2).takes),(j.ab.g i2).aU,(j.ab.g i2).a_]):=((lq.has aE).has jZ).load o! D'
       have k15:=I4 (d:=d) j (j.ab.g i2) (aR.mono jZ (aR.mono aE An)) (aR.mono jZ ((lq.has aE).ok (i:=i2) o!)) mi
       have R2:AV.same 20 (AV.agg [j.aw,j.ao]) (AV.agg [j.aw,j.ao])=true:=hT 18 (rH (lq.has aE).same (rH (qe.has aE).same P6))
       have c17:AV.same 20 j.aw j.aw=true:=(lq.has aE).same 19
       have c18:AV.same 20 (AV.agg [(AV.str (j.ab.g i2).name),(Zi (j.ab.g i2).takes),(j.ab.g i2).aU,(j.ab.g i2).a_]) (AV.agg [(AV.str (j.ab.g i2).name),(Zi (j.ab.g i2).takes),(j.ab.g i2).aU,(j.ab.g i2).a_])=true:=hT 18 (rH (fun n=>mf n _) (rH (fun n=>aS n _ _) (rH ((lq.has aE).ok (i:=i2) o!).2.1.same (rH ((lq.has aE).ok (i:=i2) o!).2.2.same P6))))
       have R0:=fun {al ps} (k:Pk al _ ps)=>(AL<|BC f1<|LL At<|MM (aO 25 0 (AV.agg [j.aw,j.ao]) (lT.a _ _ jR) k!)<|CC<|MM (aO 22 0 j.aw (lT.a _ _ jR) k!)<|CC<|VV RA<|MM RB<|EE k15<|CC<|HH (aO 25 0 (AV.agg [j.aw,j.ao]) (lT.a _ _ jR) k!)<|HH R2<|HH (aO 22 0 j.aw (lT.a _ _ jR) k!)<|HH c17<|HH RB<|HH c18<|CC<|VV (kS 29 false true .i64 (cY j (j.ab.g i2)) 0)<|k:Pk _ [] ps)
       rcases Bool.eq_false_or_eq_true (!decide ((cY j (j.ab.g i2))=0)) with f3 | f3
       · have yG:=P7 f3
         exact aF.ret (cY j (j.ab.g i2)) (by simp only[fu,f1,rh,f3,aj,ai]) (pk (d+2) _ _ hh _ sX (R0<|BB f3<|CN 2<|ZZ) k!) (⟨mi,jZ,by omega⟩) k!
       · have yG:=P9 f3
         have u20:=fi 3 false true i2 1 o!
         exact aF.round (by simp only[fu,f1,rh,f3,aj,ai]) (pk (d+2) _ _ hh _ sX (R0<|BC f3<|VV u20<|CC<|ZZ) k!) (⟨mi,jZ,by omega⟩) _ k! (fun x=>Cc j kM lq qe An IU (i2+1) o! x sX mi (aE.trans jZ) (lT.a _ _ jR))
     | some rr9=>
       obtain ⟨yl9,sX,At,lT⟩:=aF.r rh Pz
       have mi:=lT.y
       have aaP:hh.nx≤sX.nx:=lT.n
       have jZ:Has hh sX:=lT.a
       exact aF.ret rr9 (by simp only[fu,f1,rh,aj,ai]) (pk (d+2) _ _ hh _ sX (AL<|BC f1<|LL At<|ZZ) k!) (⟨mi,jZ,by omega⟩) k!
theorem zg {i2:Nat} {j:cx}:∀{k i:Nat} {r:Int},iM i2 j k i=some r→r≠0
 | 0,i,r,h=>by cases h
 | k+1,i,r,h=>by
   rw[iM] at h
   cases q:decide ((j.ab.g i).name=(j.ab.g i2).name) with
   | true=>rw[q] at h;cases h;decide
   | false=>rw[q] at h;exact zg (k:=k) h
theorem oN {j:cx}:∀{k i:Nat},(fu j k i=none→∀t,i≤t→t<i+k→cY j (j.ab.g t)=0)∧(∀r,fu j k i=some r→r≠0)
 | 0,i=>⟨fun _ q h1 h2=>by omega,fun r h=>by cases h⟩
 | k+1,i=>by
   have ih:=oN (j:=j) (k:=k) (i:=i+1)
   rw[fu]
   cases a:fI (j.ab.g i).name with
   | false=>exact ⟨(fun h=>by cases h),(fun r h=>by cases h;decide)⟩
   | true=>
     cases b:iM i j i 0 with
     | some r0=>exact ⟨(fun h=>by cases h),(fun r h=>by cases h;exact zg b)⟩
     | none=>
       by_cases c:cY j (j.ab.g i)=0
       · rw[decide_eq_true c]
         refine ⟨fun h q h1 h2=>?_,ih.2⟩
         by_cases e:q=i
         · rw[e];exact c
         · exact ih.1 h q o! o!
       · rw[decide_eq_false c]
         exact ⟨(fun h=>by cases h),(fun r h=>by cases h;exact c)⟩
theorem HG {j:cx} (h:fu j j.ab.length 0=none):∀i,i<j.ab.length→∀q,q<(j.ab.g i).aB.length→0≤(j.ab.g i).aB.g q∧(j.ab.g i).aB.g q<(j.ab.length:Int):=fun i hi=>(xJ (oN.1 h i o! o!)).2.1
def eQ (j:cx):Int:=(bif (decide (16<((j.af.length:Nat):Int))) then 3 else (match (gH j j.af.length 0) with | none=>(bif (decide (64<((j.ab.length:Nat):Int))) then 3 else (match (fu j j.ab.length 0) with | none=>(bif (!decide ((((gn j).length:Nat):Int)=((j.ab.length:Nat):Int))) then 11 else 0) | some rr8=>rr8)) | some C_=>C_))
theorem Ws {d:Nat} {h:aC} (j:cx) (bV:aR.ok h j) (ch:Tidy h):cN (d+3) (.fn 20) [(AV.agg [j.aw,j.ao])] h= .ret (Zi (eQ j)) h:=by
 have kb:=bV.1.small
 have kf:=bV.2.small
 obtain ⟨h1,di,cS,jU,bm,bP⟩:=jE ch (aM.cells [j.aw,j.ao] 25 false)
 have bA:Has h h1:=bP
 have EC:cb (some (.slice 37)) (some j.ao)=some (Zn j.af.length):=bV.2.len
 have Pd:=fun {al ps} (k:Pk al _ ps)=>(NN di (fun i=>(Pt i))<|CN 2<|MM (aO 23 1 j.ao bm k!)<|VV EC<|VV (dw 3 false true .i64 ((j.af.length:Nat):Int) 16)<|k:Pk _ [] ps)
 rcases Bool.eq_false_or_eq_true (decide (16<((j.af.length:Nat):Int))) with f0 | f0
 · have jf:=of_decide_eq_true f0
   have e:eQ j=3:=by simp only[eQ,f0,aj,ai]
   rw[e]
   exact aH rfl (bb Tryz.func20 qo rfl (.inr rfl) (pk (d+2) _ _ h _ h1 (Pd<|BC f0<|ZZ) k!) k!) bA rfl
 · have jf:=of_decide_eq_false f0
   have PA:=Ca (d:=d) (h:=h) j h.nx bV.1 bV.2 bV j.af.length 0 o! (fun k_=>(((AV.agg [j.aw,j.ao])::(Pt h.nx)::(Zi 0)::(Zi 0)::AV.undef::AV.undef::AV.undef::AV.undef::AV.undef::(AV.ptr h.nx 1)::j.ao::(Zn j.af.length)::(AV.bool (decide (16<((j.af.length:Nat):Int))))::jX 96):List AV).getD k_ AV.undef) h1 cS bA bm
   cases ek:gH j j.af.length 0 with
   | none=>
     obtain ⟨EB,h5,ft,jQ⟩:=aF.n ek PA
     have pZ:=jQ.y
     have ajy:h1.nx≤h5.nx:=jQ.n
     have hG:Has h h5:=bA.trans jQ.a
     have TP:cb (some (.slice 40)) (some j.aw)=some (Zn j.ab.length):=bV.1.len
     have W6:=fun {al ps} (k:Pk al _ ps)=>(Pd<|BC f0<|LL ft<|CC<|MM (aO 22 0 j.aw (jQ.a _ _ bm) k!)<|VV TP<|VV (dw 3 false true .i64 ((j.ab.length:Nat):Int) 64)<|k:Pk _ [] ps)
     rcases Bool.eq_false_or_eq_true (decide (64<((j.ab.length:Nat):Int))) with f2 | f2
     · have se:=of_decide_eq_true f2
       have e:eQ j=3:=by simp only[eQ,f0,ek,f2,aj,ai]
       rw[e]
       exact aH rfl (bb Tryz.func20 qo rfl (.inr rfl) (pk (d+2) _ _ h _ h5 (W6<|BC f2<|ZZ) k!) k!) hG rfl
     · have se:=of_decide_eq_false f2
       have Hv:=Cc (d:=d) (h:=h) j h.nx bV.1 bV.2 bV j.ab.length 0 o! (fun k_=>(((EB 0)::(Pt h.nx)::rx EB 2 4 ((Zi 0)::rx EB 7 48 ((Pt h.nx)::j.aw::(Zn j.ab.length)::(AV.bool (decide (64<((j.ab.length:Nat):Int))))::rx EB 59 50 []))):List AV).getD k_ AV.undef) h5 pZ hG (jQ.a _ _ bm)
       cases mO:fu j j.ab.length 0 with
       | none=>
         obtain ⟨yl8,h9,ot,ti⟩:=aF.n mO Hv
         have uq:=ti.y
         have VG:h5.nx≤h9.nx:=ti.n
         have mJ:Has h h9:=hG.trans ti.a
         have LV:Has h5 h9:=ti.a
         have tg:cb (some (.slice 40)) (some j.aw)=some (Zn j.ab.length):=bV.1.len
         obtain ⟨z11,lR,PF,jA,anh,aod⟩:=RJ (d:=d) j (aR.mono mJ bV) (by first | omega | assumption | exact HG (by assumption)) (by first | omega | assumption | exact HG (by assumption)) uq
         have jl:Has h lR:=mJ.trans jA.a
         have LD:cb (some (.slice 3)) (some z11)=some (Zn (gn j).length):=anh.len
         have c15:AV.same 20 (AV.agg [j.aw,j.ao]) (AV.agg [j.aw,j.ao])=true:=hT 18 (rH bV.1.same (rH bV.2.same P6))
         have R2:AV.same 20 j.aw j.aw=true:=bV.1.same 19
         have pf9:=fun {al ps} (k:Pk al _ ps)=>(W6<|BC f2<|LL ot<|MM (aO 25 0 (AV.agg [j.aw,j.ao]) (ti.a _ _ (jQ.a _ _ bm)) k!)<|CC<|MM (aO 22 0 j.aw (ti.a _ _ (jQ.a _ _ bm)) k!)<|VV tg<|EE PF<|VV LD<|VV (kS 3 false false .i64 (((gn j).length:Nat):Int) ((j.ab.length:Nat):Int))<|HH (aO 25 0 (AV.agg [j.aw,j.ao]) (ti.a _ _ (jQ.a _ _ bm)) k!)<|HH c15<|HH (aO 22 0 j.aw (ti.a _ _ (jQ.a _ _ bm)) k!)<|HH R2<|HH (aO 22 0 j.aw (jA.a _ _ (ti.a _ _ (jQ.a _ _ bm))) k!)<|HH R2<|k:Pk _ [] ps)
         rcases Bool.eq_false_or_eq_true (!decide ((((gn j).length:Nat):Int)=((j.ab.length:Nat):Int))) with f4 | f4
         · have e:eQ j=11:=by simp only[eQ,f0,ek,f2,mO,f4,aj,ai]
           rw[e]
           exact aH rfl (bb Tryz.func20 qo rfl (.inr rfl) (pk (d+2) _ _ h _ lR (pf9<|BC f4<|ZZ) k!) k!) jl rfl
         · have e:eQ j=0:=by simp only[eQ,f0,ek,f2,mO,f4,aj,ai]
           rw[e]
           exact aH rfl (bb Tryz.func20 qo rfl (.inr rfl) (pk (d+2) _ _ h _ lR (pf9<|BC f4<|ZZ) k!) k!) jl rfl
       | some rr8=>
         obtain ⟨yl8,h9,ot,ti⟩:=aF.r mO Hv
         have uq:=ti.y
         have mJ:Has h h9:=hG.trans ti.a
         have LV:Has h5 h9:=ti.a
         have e:eQ j=rr8:=by simp only[eQ,f0,ek,f2,mO,aj,ai]
         rw[e]
         exact aH rfl (bb Tryz.func20 qo rfl (.inr rfl) (pk (d+2) _ _ h _ h9 (W6<|BC f2<|LL ot<|ZZ) k!) k!) mJ rfl
   | some C_=>
     obtain ⟨EB,h5,ft,jQ⟩:=aF.r ek PA
     have pZ:=jQ.y
     have hG:Has h h5:=bA.trans jQ.a
     have e:eQ j=C_:=by simp only[eQ,f0,ek,aj,ai]
     rw[e]
     exact aH rfl (bb Tryz.func20 qo rfl (.inr rfl) (pk (d+2) _ _ h _ h5 (Pd<|BC f0<|LL ft<|ZZ) k!) k!) hG rfl
theorem HI {p:Prop} (h:p:=by first | omega | assumption | exact Ak (by assumption) | exact O6 (by assumption)):p:=h
def Mw:Code:=(Tryz.f16.body).getD .skip
theorem yr:Tryz.f16.body=some Mw:=by kernel_rfl
def dC (j:cx):Int:=(bif (!decide ((bK j.af 16 (fun jx=>bF (List.take jx j.af) (List.g j.af jx)))=0)) then (bK j.af 16 (fun jx=>bF (List.take jx j.af) (List.g j.af jx))) else (bif (!decide ((bX j.ab 64 (fun jx=>fU (List.take jx j.ab) (List.g j.ab jx) j))=0)) then (bX j.ab 64 (fun jx=>fU (List.take jx j.ab) (List.g j.ab jx) j)) else (bif (decide ((((eY j.ab).length:Nat):Int)<((j.ab.length:Nat):Int))) then 11 else 0)))
theorem Dq {d:Nat} {h:aC} (j:cx) (bV:aR.ok h j) (ch:Tidy h):cN (d+11) (.fn 16) [(AV.agg [j.aw,j.ao])] h= .ret (Zi (dC j)) h:=by
 have kb:=bV.1.small
 have kf:=bV.2.small
 obtain ⟨h1,di,cS,jU,bm,bP⟩:=jE ch (aM.cells [j.aw,j.ao] 25 false)
 have bA:Has h h1:=bP
 have k2:=vI (d:=d+9) j.af 16 (fun jx=>bF (List.take jx j.af) (List.g j.af jx)) (bV.2.has bA) (fun jx hj aV hh yy aa fa=>BL (d:=d+3) (List.take jx j.af) (List.g j.af jx) fa (aR.mono aa ((bV.2.has bA).ok hj)) yy) cS
 have dJ:=fun {al ps} (k:Pk al _ ps)=>(NN di (fun i=>(Pt i))<|CN 2<|MM (aO 23 1 j.ao bm k!)<|EE k2<|CN 2<|VV (kS 29 false true .i64 (bK j.af 16 (fun jx=>bF (List.take jx j.af) (List.g j.af jx))) 0)<|k:Pk _ [] ps)
 rcases Bool.eq_false_or_eq_true (!decide ((bK j.af 16 (fun jx=>bF (List.take jx j.af) (List.g j.af jx)))=0)) with f0 | f0
 · have jf:=P7 f0
   have e:dC j=(bK j.af 16 (fun jx=>bF (List.take jx j.af) (List.g j.af jx))):=by simp only[dC,f0,aj,ai]
   rw[e]
   exact aH rfl (bb Tryz.func16 yr rfl (.inr rfl) (pk (d+10) _ _ h _ h1 (dJ<|BB f0<|CN 2<|ZZ) k!) k!) bA rfl
 · have jf:=P9 f0
   have k4:=BI (d:=d+9) j.ab 64 (fun jx=>fU (List.take jx j.ab) (List.g j.ab jx) j) (bV.1.has bA) (fun jx hj aV hh yy aa fa=>Rt (d:=d) (List.take jx j.ab) (List.g j.ab jx) j h.nx fa (aR.mono aa ((bV.1.has bA).ok hj)) (aR.mono aa (aR.mono bA bV)) (aa _ _ bm) yy) cS
   have hX:=fun {al ps} (k:Pk al _ ps)=>(dJ<|BC f0<|MM (aO 22 0 j.aw bm k!)<|CC<|EE k4<|CN 2<|VV (kS 29 false true .i64 (bX j.ab 64 (fun jx=>fU (List.take jx j.ab) (List.g j.ab jx) j)) 0)<|k:Pk _ [] ps)
   rcases Bool.eq_false_or_eq_true (!decide ((bX j.ab 64 (fun jx=>fU (List.take jx j.ab) (List.g j.ab jx) j))=0)) with f1 | f1
   · have fP:=P7 f1
     have e:dC j=(bX j.ab 64 (fun jx=>fU (List.take jx j.ab) (List.g j.ab jx) j)):=by simp only[dC,f0,f1,aj,ai]
     rw[e]
     exact aH rfl (bb Tryz.func16 yr rfl (.inr rfl) (pk (d+10) _ _ h _ h1 (hX<|BB f1<|CN 2<|ZZ) k!) k!) bA rfl
   · have fP:=P9 f1
     have TP:cb (some (.slice 40)) (some j.aw)=some (Zn j.ab.length):=bV.1.len
     obtain ⟨z7,h9,Zg,ti,fz8,aoC⟩:=O3 (d:=d+4) j.ab (bV.1.has bA) HI HI cS
     have mJ:Has h h9:=bA.trans ti.a
     have tg:cb (some (.slice 3)) (some z7)=some (Zn (eY j.ab).length):=fz8.len
     have c11:AV.same 20 j.aw j.aw=true:=bV.1.same 19
     have ow:=fun {al ps} (k:Pk al _ ps)=>(hX<|BC f1<|MM (aO 22 0 j.aw bm k!)<|CC<|MM (aO 22 0 j.aw bm k!)<|VV TP<|EE Zg<|VV tg<|VV (bL 3 false false .i64 (((eY j.ab).length:Nat):Int) ((j.ab.length:Nat):Int))<|HH (aO 22 0 j.aw bm k!)<|HH c11<|HH (aO 22 0 j.aw bm k!)<|HH c11<|HH (aO 22 0 j.aw (ti.a _ _ bm) k!)<|HH c11<|k:Pk _ [] ps)
     rcases Bool.eq_false_or_eq_true (decide ((((eY j.ab).length:Nat):Int)<((j.ab.length:Nat):Int))) with f2 | f2
     · have e:dC j=11:=by simp only[dC,f0,f1,f2,aj,ai]
       rw[e]
       exact aH rfl (bb Tryz.func16 yr rfl (.inr rfl) (pk (d+10) _ _ h _ h9 (ow<|BC f2<|ZZ) k!) k!) mJ rfl
     · have e:dC j=0:=by simp only[dC,f0,f1,f2,aj,ai]
       rw[e]
       exact aH rfl (bb Tryz.func16 yr rfl (.inr rfl) (pk (d+10) _ _ h _ h9 (ow<|BC f2<|ZZ) k!) k!) mJ rfl
end
end Go.Proofs.aQ
