import Derived.Test.YtemlmndojncekaaGreatW0
import Derived.Test.YtemlmndojncekaaGreatW6
namespace Go.Proofs.aQ
open Go.Proofs Ab
noncomputable section
set_option maxRecDepth 100000
set_option maxHeartbeats 4000000
set_option linter.unusedVariables false
set_option linter.unusedSimpArgs false
theorem yn {p:Prop} (h:p:=by first | omega | assumption | (simp only[List.length_set,List.length_replicate,List.length_append,List.length_cons,List.length_nil,List.nil_append]<;>omega) | (rw[List.length_take];omega)):p:=h
def po:Code:=(Tryz.f58.body).getD .skip
theorem xu:Tryz.f58.body=some po:=by kernel_rfl
def RO:Code:=(bw po).getD 0 .skip
def RP:Code:=(bw po).getD 1 .skip
def RQ:Code:=(bw po).getD 2 .skip
def RR:Code:=(bw po).getD 3 .skip
def iD (j:cx) (tqk:Int) (az:List Bool) (s:Int) (au:List Int):Nat→Nat→Option (Bool)
 | 0,_=>none
 | dq+1,i0=>(bif (az.g ((j.ab.g tqk.toNat).aB.g i0).toNat) then (bif (decide (s<(IntKind.i64.wrap ((au.g ((j.ab.g tqk.toNat).aB.g i0).toNat)+((j.ab.g ((j.ab.g tqk.toNat).aB.g i0).toNat).takes))))) then some false else iD j tqk az s au dq (i0+1)) else iD j tqk az s au dq (i0+1))
theorem xw {d:Nat} {h:aC} (aN:AV) (bB:AV) (s:Int) (j:cx) (tqk:Int) (au:List Int) (az:List Bool) (bk:Nat) (cG:Nat) (bx:b8 h .i64 3 aN au) (cZ:oh h 4 bB az) (fj:aW h j.aw j.ab) (m5:aW h j.ao j.af) (z5:((j.ab.g tqk.toNat).name).length<2^60) (RS:b8 h .i64 3 (j.ab.g tqk.toNat).aU (j.ab.g tqk.toNat).aB) (ag5:aW h (j.ab.g tqk.toNat).a_ (j.ab.g tqk.toNat).aA) (g5:aR.ok h j) (GW:aR.ok h (j.ab.g tqk.toNat)) (hF:az.length=j.ab.length) (je:au.length=j.ab.length) (mI:0≤tqk) (nq:tqk<(j.ab.length:Int)) (pF:∀q,q<(j.ab.g tqk.toNat).aB.length→0≤(j.ab.g tqk.toNat).aB.g q∧(j.ab.g tqk.toNat).aB.g q<(j.ab.length:Int)) (pY:∀q,q<(j.ab.g tqk.toNat).aA.length→0≤((j.ab.g tqk.toNat).aA.g q).ah∧((j.ab.g tqk.toNat).aA.g q).ah<(j.af.length:Int)):∀(k_ i_:Nat) (_:i_+k_=((j.ab.g tqk.toNat).aB.length)) (x:Nat→AV) (hh:aC) (aI:Tidy hh) (aE:Has h hh) (br:hh.get bk=some (aM.cells [j.aw,j.ao] 25 false)) (dK:hh.get cG=some (aM.cells [(AV.str (j.ab.g tqk.toNat).name),(Zi (j.ab.g tqk.toNat).takes),(j.ab.g tqk.toNat).aU,(j.ab.g tqk.toNat).a_] 40 false)),aF (cN (d+2)) RO ⟨((x 0)::aN::bB::(x 3)::(Zi s)::(Pt bk)::rx x 6 5 ((Pt cG)::(Zi (IntKind.i64.wrap (s+((j.ab.g tqk.toNat).takes))))::(Zn i_)::rx x 14 173 [])),hh,[],.no⟩ (.exit 0) hh (fun y=>((y 0)::aN::bB::(y 3)::(Zi s)::(Pt bk)::rx y 6 5 ((Pt cG)::(Zi (IntKind.i64.wrap (s+((j.ab.g tqk.toNat).takes))))::rx y 13 174 []))) (fun r y=>((y 0)::aN::bB::(y 3)::(Zi s)::(Pt bk)::rx y 6 4 ((AV.bool r)::(Pt cG)::(Zi (IntKind.i64.wrap (s+((j.ab.g tqk.toNat).takes))))::rx y 13 174 []))) (iD j tqk az s au k_ i_)
 | 0,i0,fX,x,hh,aI,aE,br,dK=>by
   have iC:cb (some (.slice 3)) (some (j.ab.g tqk.toNat).aU)=some (Zn (j.ab.g tqk.toNat).aB.length):=(RS.has aE).len
   have q2:(decide (((i0:Nat):Int)<(((j.ab.g tqk.toNat).aB.length:Nat):Int)))=false:=d!
   exact aF.out rfl (pk (d+2) _ _ hh _ hh (CN 2<|MM (aO 26 2 (j.ab.g tqk.toNat).aU dK k!)<|VV iC<|VV (bL 3 false false .i64 ((i0:Nat):Int) (((j.ab.g tqk.toNat).aB.length:Nat):Int))<|BB q2<|ZZ) k!) (bE.refl aI) k!
 | dq+1,i0,fX,x,hh,aI,aE,br,dK=>by
   have gT:=bx.small
   have nz:=cZ.small
   have uw:=fj.small
   have RH:=m5.small
   have amN:=RS.small
   have amO:=ag5.small
   have sU:=aI _ _ br
   have Lw:=aI _ _ dK
   obtain ⟨nd1,nd2⟩:=pF i0 o!
   have iC:cb (some (.slice 3)) (some (j.ab.g tqk.toNat).aU)=some (Zn (j.ab.g tqk.toNat).aB.length):=(RS.has aE).len
   have q2:(decide (((i0:Nat):Int)<(((j.ab.g tqk.toNat).aB.length:Nat):Int)))=true:=d!
   obtain ⟨p4,q5,lp,_⟩:=(RS.has aE).elem (i:=i0) o!
   have wJ:bO env (some (.slice 3)) (some (j.ab.g tqk.toNat).aU) (some (Zn i0))=some (AV.ptr p4 q5):=lp
   have tD:bh env hh 3 (AV.ptr p4 q5)=some (Zi ((j.ab.g tqk.toNat).aB.g i0)):=(RS.has aE).load o! lp
   obtain ⟨p8,q9,OZ,_⟩:=(cZ.has aE).elem (i:=((j.ab.g tqk.toNat).aB.g i0).toNat) o!
   have ix7:bO env (some (.slice 4)) (some bB) (some (Zi ((j.ab.g tqk.toNat).aB.g i0)))=some (AV.ptr p8 q9):=by rw[show (((j.ab.g tqk.toNat).aB.g i0):Int)=((((j.ab.g tqk.toNat).aB.g i0).toNat:Nat):Int) by omega];exact OZ
   have Rx:bh env hh 4 (AV.ptr p8 q9)=some (AV.bool (az.g ((j.ab.g tqk.toNat).aB.g i0).toNat)):=(cZ.has aE).load o! OZ
   have dJ:=fun {al ps} (k:Pk al _ ps)=>(CN 2<|MM (aO 26 2 (j.ab.g tqk.toNat).aU dK k!)<|VV iC<|VV (bL 3 false false .i64 ((i0:Nat):Int) (((j.ab.g tqk.toNat).aB.length:Nat):Int))<|BC q2<|MM (aO 26 2 (j.ab.g tqk.toNat).aU dK k!)<|CC<|VV wJ<|MM tD<|CN 3<|VV ix7<|MM Rx<|CC<|k:Pk _ [] ps)
   rcases Bool.eq_false_or_eq_true (az.g ((j.ab.g tqk.toNat).aB.g i0).toNat) with f1 | f1
   · obtain ⟨p13,q14,ae0,_⟩:=(bx.has aE).elem (i:=((j.ab.g tqk.toNat).aB.g i0).toNat) o!
     have Rm:bO env (some (.slice 3)) (some aN) (some (Zi ((j.ab.g tqk.toNat).aB.g i0)))=some (AV.ptr p13 q14):=by rw[show (((j.ab.g tqk.toNat).aB.g i0):Int)=((((j.ab.g tqk.toNat).aB.g i0).toNat:Nat):Int) by omega];exact ae0
     have akg:bh env hh 3 (AV.ptr p13 q14)=some (Zi (au.g ((j.ab.g tqk.toNat).aB.g i0).toNat)):=(bx.has aE).load o! ae0
     obtain ⟨RV,RW,xx⟩:=(fj.has aE).elem (i:=((j.ab.g tqk.toNat).aB.g i0).toNat) o!
     have C2:bO env (some (.slice 40)) (some j.aw) (some (Zi ((j.ab.g tqk.toNat).aB.g i0)))=some (AV.ptr RV RW):=by rw[show (((j.ab.g tqk.toNat).aB.g i0):Int)=((((j.ab.g tqk.toNat).aB.g i0).toNat:Nat):Int) by omega];exact xx
     have Bs:bh env hh 3 (AV.ptr RV (RW+1))=some (Zi (j.ab.g ((j.ab.g tqk.toNat).aB.g i0).toNat).takes):=(fj.has aE).part (t:=3) (j:=1) o! xx k! rfl
     have c20:AV.same 20 j.aw j.aw=true:=(fj.has aE).same 19
     have hX:=fun {al ps} (k:Pk al _ ps)=>(dJ<|BC f1<|BC f1<|BV f1 Rm<|BM f1 akg<|BC f1<|BM f1 (aO 22 0 j.aw br k!)<|BC f1<|BV f1 C2<|BC f1<|BM f1 Bs<|BC f1<|BC f1<|BV f1 (dw 3 false false .i64 (IntKind.i64.wrap ((au.g ((j.ab.g tqk.toNat).aB.g i0).toNat)+((j.ab.g ((j.ab.g tqk.toNat).aB.g i0).toNat).takes))) s)<|VV (sP (decide (s<(IntKind.i64.wrap ((au.g ((j.ab.g tqk.toNat).aB.g i0).toNat)+((j.ab.g ((j.ab.g tqk.toNat).aB.g i0).toNat).takes))))) false f1)<|HH Rx<|HH (show AV.same 20 (AV.bool (az.g ((j.ab.g tqk.toNat).aB.g i0).toNat)) (AV.bool (az.g ((j.ab.g tqk.toNat).aB.g i0).toNat))=true from lH 19 _)<|HH akg<|HH (show AV.same 20 (Zi (au.g ((j.ab.g tqk.toNat).aB.g i0).toNat)) (Zi (au.g ((j.ab.g tqk.toNat).aB.g i0).toNat))=true from aS 19 _ _)<|HH (aO 22 0 j.aw br k!)<|HH c20<|HH Bs<|HH (show AV.same 20 (Zi (j.ab.g ((j.ab.g tqk.toNat).aB.g i0).toNat).takes) (Zi (j.ab.g ((j.ab.g tqk.toNat).aB.g i0).toNat).takes)=true from aS 19 _ _)<|k:Pk _ [] ps)
     rcases Bool.eq_false_or_eq_true (decide (s<(IntKind.i64.wrap ((au.g ((j.ab.g tqk.toNat).aB.g i0).toNat)+((j.ab.g ((j.ab.g tqk.toNat).aB.g i0).toNat).takes))))) with f2 | f2
     · have se:=of_decide_eq_true f2
       exact aF.ret false (by simp only[iD,f1,f2,aj,ai]) (pk (d+2) _ _ hh _ hh (hX<|BC f2<|ZZ) k!) (bE.refl aI) k!
     · have se:=of_decide_eq_false f2
       have u22:=fi 3 false true i0 1 o!
       exact aF.round (by simp only[iD,f1,f2,aj,ai]) (pk (d+2) _ _ hh _ hh (hX<|BC f2<|VV u22<|CC<|ZZ) k!) (bE.refl aI) _ k! (fun x=>xw aN bB s j tqk au az bk cG bx cZ fj m5 z5 RS ag5 g5 GW hF je mI nq pF pY dq (i0+1) o! x hh aI aE br dK)
   · have u12:=fi 3 false true i0 1 o!
     exact aF.round (by simp only[iD,f1,aj,ai]) (pk (d+2) _ _ hh _ hh (dJ<|BB f1<|BB f1<|BB f1<|BB f1<|BB f1<|BB f1<|BB f1<|BB f1<|BB f1<|BB f1<|BB f1<|BB f1<|BV f1 (yB false f1)<|HH Rx<|HH (show AV.same 20 (AV.bool (az.g ((j.ab.g tqk.toNat).aB.g i0).toNat)) (AV.bool (az.g ((j.ab.g tqk.toNat).aB.g i0).toNat))=true from lH 19 _)<|FF<|CC<|VV u12<|CC<|ZZ) k!) (bE.refl aI) _ k! (fun x=>xw aN bB s j tqk au az bk cG bx cZ fj m5 z5 RS ag5 g5 GW hF je mI nq pF pY dq (i0+1) o! x hh aI aE br dK)
def iE (j:cx) (tqk:Int) (i1:Nat) (s:Int):Nat→Nat→Option (Bool)
 | 0,_=>none
 | IU+1,i2=>(bif (decide (((j.af.g ((j.ab.g tqk.toNat).aA.g i1).ah.toNat).off.g i2).bq<(IntKind.i64.wrap (s+((j.ab.g tqk.toNat).takes))))) then (bif (decide (s≤(((j.af.g ((j.ab.g tqk.toNat).aA.g i1).ah.toNat).off.g i2).ba))) then some false else iE j tqk i1 s IU (i2+1)) else iE j tqk i1 s IU (i2+1))
theorem xy {d:Nat} {h:aC} (aN:AV) (bB:AV) (s:Int) (j:cx) (tqk:Int) (i1:Nat) (au:List Int) (az:List Bool) (kM:Nat) (n6:Nat) (BT:Nat) (lq:b8 h .i64 3 aN au) (qe:oh h 4 bB az) (BU:aW h j.aw j.ab) (xz:aW h j.ao j.af) (Ht:((j.ab.g tqk.toNat).name).length<2^60) (ag6:b8 h .i64 3 (j.ab.g tqk.toNat).aU (j.ab.g tqk.toNat).aB) (ag7:aW h (j.ab.g tqk.toNat).a_ (j.ab.g tqk.toNat).aA) (akh:((j.af.g ((j.ab.g tqk.toNat).aA.g i1).ah.toNat).name).length<2^60) (L5:aW h (j.af.g ((j.ab.g tqk.toNat).aA.g i1).ah.toNat).dW (j.af.g ((j.ab.g tqk.toNat).aA.g i1).ah.toNat).off) (An:aR.ok h j) (L6:aR.ok h (j.ab.g tqk.toNat)) (aki:aR.ok h ((j.ab.g tqk.toNat).aA.g i1)) (akj:aR.ok h (j.af.g ((j.ab.g tqk.toNat).aA.g i1).ah.toNat)) (ae1:i1<((j.ab.g tqk.toNat).aA.length)) (Pc:az.length=j.ab.length) (V3:au.length=j.ab.length) (V4:0≤tqk) (V5:tqk<(j.ab.length:Int)) (V6:∀q,q<(j.ab.g tqk.toNat).aB.length→0≤(j.ab.g tqk.toNat).aB.g q∧(j.ab.g tqk.toNat).aB.g q<(j.ab.length:Int)) (V7:∀q,q<(j.ab.g tqk.toNat).aA.length→0≤((j.ab.g tqk.toNat).aA.g q).ah∧((j.ab.g tqk.toNat).aA.g q).ah<(j.af.length:Int)):∀(k_ i_:Nat) (_:i_+k_=((j.af.g ((j.ab.g tqk.toNat).aA.g i1).ah.toNat).off.length)) (x:Nat→AV) (hh:aC) (aI:Tidy hh) (aE:Has h hh) (jR:hh.get kM=some (aM.cells [j.aw,j.ao] 25 false)) (qf:hh.get n6=some (aM.cells [(AV.str (j.ab.g tqk.toNat).name),(Zi (j.ab.g tqk.toNat).takes),(j.ab.g tqk.toNat).aU,(j.ab.g tqk.toNat).a_] 40 false)) (uJ:hh.get BT=some (aM.cells [(AV.str (j.af.g ((j.ab.g tqk.toNat).aA.g i1).ah.toNat).name),(Zi (j.af.g ((j.ab.g tqk.toNat).aA.g i1).ah.toNat).aJ),(j.af.g ((j.ab.g tqk.toNat).aA.g i1).ah.toNat).dW] 37 false)),aF (cN (d+2)) RQ ⟨((x 0)::aN::bB::(x 3)::(Zi s)::(Pt kM)::rx x 6 5 ((Pt n6)::(Zi (IntKind.i64.wrap (s+((j.ab.g tqk.toNat).takes))))::(x 13)::(x 14)::(Zn i1)::(Pt BT)::(Zn i_)::rx x 18 169 [])),hh,[],.no⟩ (.exit 4) hh (fun y=>((y 0)::aN::bB::(y 3)::(Zi s)::(Pt kM)::rx y 6 5 ((Pt n6)::(Zi (IntKind.i64.wrap (s+((j.ab.g tqk.toNat).takes))))::(y 13)::(y 14)::(Zn i1)::(Pt BT)::rx y 17 170 []))) (fun r y=>((y 0)::aN::bB::(y 3)::(Zi s)::(Pt kM)::rx y 6 4 ((AV.bool r)::(Pt n6)::(Zi (IntKind.i64.wrap (s+((j.ab.g tqk.toNat).takes))))::(y 13)::(y 14)::(Zn i1)::(Pt BT)::rx y 17 170 []))) (iE j tqk i1 s k_ i_)
 | 0,i2,fX,x,hh,aI,aE,jR,qf,uJ=>by
   have iC:cb (some (.slice 72)) (some (j.af.g ((j.ab.g tqk.toNat).aA.g i1).ah.toNat).dW)=some (Zn (j.af.g ((j.ab.g tqk.toNat).aA.g i1).ah.toNat).off.length):=(L5.has aE).len
   have q2:(decide (((i2:Nat):Int)<(((j.af.g ((j.ab.g tqk.toNat).aA.g i1).ah.toNat).off.length:Nat):Int)))=false:=d!
   exact aF.out rfl (pk (d+2) _ _ hh _ hh (CN 2<|MM (aO 35 2 (j.af.g ((j.ab.g tqk.toNat).aA.g i1).ah.toNat).dW uJ k!)<|VV iC<|VV (bL 3 false false .i64 ((i2:Nat):Int) (((j.af.g ((j.ab.g tqk.toNat).aA.g i1).ah.toNat).off.length:Nat):Int))<|BB q2<|ZZ) k!) (bE.refl aI) k!
 | IU+1,i2,fX,x,hh,aI,aE,jR,qf,uJ=>by
   have L7:=lq.small
   have L8:=qe.small
   have aaa:=BU.small
   have RX:=xz.small
   have amP:=ag6.small
   have amQ:=ag7.small
   have amR:=L5.small
   have adC:=aI _ _ jR
   have ag8:=aI _ _ qf
   have akk:=aI _ _ uJ
   have iC:cb (some (.slice 72)) (some (j.af.g ((j.ab.g tqk.toNat).aA.g i1).ah.toNat).dW)=some (Zn (j.af.g ((j.ab.g tqk.toNat).aA.g i1).ah.toNat).off.length):=(L5.has aE).len
   have q2:(decide (((i2:Nat):Int)<(((j.af.g ((j.ab.g tqk.toNat).aA.g i1).ah.toNat).off.length:Nat):Int)))=true:=d!
   obtain ⟨p4,q5,lp⟩:=(L5.has aE).elem (i:=i2) o!
   have wJ:bO env (some (.slice 72)) (some (j.af.g ((j.ab.g tqk.toNat).aA.g i1).ah.toNat).dW) (some (Zn i2))=some (AV.ptr p4 q5):=lp
   have tD:bh env hh 3 (AV.ptr p4 (q5+0))=some (Zi ((j.af.g ((j.ab.g tqk.toNat).aA.g i1).ah.toNat).off.g i2).bq):=(L5.has aE).part (t:=3) (j:=0) o! lp k! rfl
   have ow:=fun {al ps} (k:Pk al _ ps)=>(CN 2<|MM (aO 35 2 (j.af.g ((j.ab.g tqk.toNat).aA.g i1).ah.toNat).dW uJ k!)<|VV iC<|VV (bL 3 false false .i64 ((i2:Nat):Int) (((j.af.g ((j.ab.g tqk.toNat).aA.g i1).ah.toNat).off.length:Nat):Int))<|BC q2<|MM (aO 35 2 (j.af.g ((j.ab.g tqk.toNat).aA.g i1).ah.toNat).dW uJ k!)<|CC<|VV wJ<|CC<|MM tD<|CC<|VV (bL 3 false false .i64 ((j.af.g ((j.ab.g tqk.toNat).aA.g i1).ah.toNat).off.g i2).bq (IntKind.i64.wrap (s+((j.ab.g tqk.toNat).takes))))<|CC<|k:Pk _ [] ps)
   rcases Bool.eq_false_or_eq_true (decide (((j.af.g ((j.ab.g tqk.toNat).aA.g i1).ah.toNat).off.g i2).bq<(IntKind.i64.wrap (s+((j.ab.g tqk.toNat).takes))))) with f1 | f1
   · have fP:=of_decide_eq_true f1
     obtain ⟨p9,Ed,qd⟩:=(L5.has aE).elem (i:=i2) o!
     have LB:bO env (some (.slice 72)) (some (j.af.g ((j.ab.g tqk.toNat).aA.g i1).ah.toNat).dW) (some (Zn i2))=some (AV.ptr p9 Ed):=qd
     have ry:bh env hh 3 (AV.ptr p9 (Ed+1))=some (Zi ((j.af.g ((j.ab.g tqk.toNat).aA.g i1).ah.toNat).off.g i2).ba):=(L5.has aE).part (t:=3) (j:=1) o! qd k! rfl
     have y9:=fun {al ps} (k:Pk al _ ps)=>(ow<|BC f1<|BC f1<|BM f1 (aO 35 2 (j.af.g ((j.ab.g tqk.toNat).aA.g i1).ah.toNat).dW uJ k!)<|BC f1<|BV f1 LB<|BC f1<|BM f1 ry<|BV f1 (vF 3 false false .i64 s ((j.af.g ((j.ab.g tqk.toNat).aA.g i1).ah.toNat).off.g i2).ba)<|VV (sP (decide (s≤(((j.af.g ((j.ab.g tqk.toNat).aA.g i1).ah.toNat).off.g i2).ba))) false f1)<|k:Pk _ [] ps)
     rcases Bool.eq_false_or_eq_true (decide (s≤(((j.af.g ((j.ab.g tqk.toNat).aA.g i1).ah.toNat).off.g i2).ba))) with f2 | f2
     · have se:=of_decide_eq_true f2
       exact aF.ret false (by simp only[iE,f1,f2,aj,ai]) (pk (d+2) _ _ hh _ hh (y9<|BC f2<|ZZ) k!) (bE.refl aI) k!
     · have se:=of_decide_eq_false f2
       have Z':=fi 3 false true i2 1 o!
       exact aF.round (by simp only[iE,f1,f2,aj,ai]) (pk (d+2) _ _ hh _ hh (y9<|BC f2<|VV Z'<|CC<|ZZ) k!) (bE.refl aI) _ k! (fun x=>xy aN bB s j tqk i1 au az kM n6 BT lq qe BU xz Ht ag6 ag7 akh L5 An L6 aki akj ae1 Pc V3 V4 V5 V6 V7 IU (i2+1) o! x hh aI aE jR qf uJ)
   · have fP:=of_decide_eq_false f1
     have u8:=fi 3 false true i2 1 o!
     exact aF.round (by simp only[iE,f1,aj,ai]) (pk (d+2) _ _ hh _ hh (ow<|BB f1<|BB f1<|BB f1<|BB f1<|BB f1<|BB f1<|BB f1<|BV f1 (yB false f1)<|FF<|CC<|VV u8<|CC<|ZZ) k!) (bE.refl aI) _ k! (fun x=>xy aN bB s j tqk i1 au az kM n6 BT lq qe BU xz Ht ag6 ag7 akh L5 An L6 aki akj ae1 Pc V3 V4 V5 V6 V7 IU (i2+1) o! x hh aI aE jR qf uJ)
def fA (j:cx) (az:List Bool) (s:Int) (au:List Int) (tqk:Int) (i1:Nat):Nat→Nat→Option (Bool)
 | 0,_=>none
 | IV+1,i3=>(bif (az.g i3) then (bif (decide (s<(au.g i3))) then (bif (decide ((au.g i3)<(IntKind.i64.wrap (s+((j.ab.g tqk.toNat).takes))))) then (bif (decide ((j.af.g ((j.ab.g tqk.toNat).aA.g i1).ah.toNat).aJ<(IntKind.i64.wrap ((jJ j au az ((j.ab.g tqk.toNat).aA.g i1).ah (au.g i3))+(((j.ab.g tqk.toNat).aA.g i1).aJ))))) then some false else fA j az s au tqk i1 IV (i3+1)) else fA j az s au tqk i1 IV (i3+1)) else fA j az s au tqk i1 IV (i3+1)) else fA j az s au tqk i1 IV (i3+1))
theorem pq {d:Nat} {h:aC} (aN:AV) (bB:AV) (s:Int) (j:cx) (tqk:Int) (i1:Nat) (au:List Int) (az:List Bool) (pr:Nat) (vL:Nat) (vM:Nat) (pt:b8 h .i64 3 aN au) (xA:oh h 4 bB az) (IW:aW h j.aw j.ab) (L9:aW h j.ao j.af) (IX:((j.ab.g tqk.toNat).name).length<2^60) (aab:b8 h .i64 3 (j.ab.g tqk.toNat).aU (j.ab.g tqk.toNat).aB) (IY:aW h (j.ab.g tqk.toNat).a_ (j.ab.g tqk.toNat).aA) (adD:((j.af.g ((j.ab.g tqk.toNat).aA.g i1).ah.toNat).name).length<2^60) (aac:aW h (j.af.g ((j.ab.g tqk.toNat).aA.g i1).ah.toNat).dW (j.af.g ((j.ab.g tqk.toNat).aA.g i1).ah.toNat).off) (Hu:aR.ok h j) (V8:aR.ok h (j.ab.g tqk.toNat)) (V9:aR.ok h ((j.ab.g tqk.toNat).aA.g i1)) (adE:aR.ok h (j.af.g ((j.ab.g tqk.toNat).aA.g i1).ah.toNat)) (Ug:i1<((j.ab.g tqk.toNat).aA.length)) (V_:az.length=j.ab.length) (V':au.length=j.ab.length) (Wa:0≤tqk) (Wb:tqk<(j.ab.length:Int)) (Wc:∀q,q<(j.ab.g tqk.toNat).aB.length→0≤(j.ab.g tqk.toNat).aB.g q∧(j.ab.g tqk.toNat).aB.g q<(j.ab.length:Int)) (Wd:∀q,q<(j.ab.g tqk.toNat).aA.length→0≤((j.ab.g tqk.toNat).aA.g q).ah∧((j.ab.g tqk.toNat).aA.g q).ah<(j.af.length:Int)):∀(k_ i_:Nat) (_:i_+k_=j.ab.length) (x:Nat→AV) (hh:aC) (aI:Tidy hh) (aE:Has h hh) (mM:hh.get pr=some (aM.cells [j.aw,j.ao] 25 false)) (qg:hh.get vL=some (aM.cells [(AV.str (j.ab.g tqk.toNat).name),(Zi (j.ab.g tqk.toNat).takes),(j.ab.g tqk.toNat).aU,(j.ab.g tqk.toNat).a_] 40 false)) (rz:hh.get vM=some (aM.cells [(AV.str (j.af.g ((j.ab.g tqk.toNat).aA.g i1).ah.toNat).name),(Zi (j.af.g ((j.ab.g tqk.toNat).aA.g i1).ah.toNat).aJ),(j.af.g ((j.ab.g tqk.toNat).aA.g i1).ah.toNat).dW] 37 false)),aF (cN (d+2)) RR ⟨((x 0)::aN::bB::(x 3)::(Zi s)::(Pt pr)::rx x 6 5 ((Pt vL)::(Zi (IntKind.i64.wrap (s+((j.ab.g tqk.toNat).takes))))::(x 13)::(x 14)::(Zn i1)::(Pt vM)::(x 17)::(Zn i_)::rx x 19 168 [])),hh,[],.no⟩ (.exit 6) hh (fun y=>((y 0)::aN::bB::(y 3)::(Zi s)::(Pt pr)::rx y 6 5 ((Pt vL)::(Zi (IntKind.i64.wrap (s+((j.ab.g tqk.toNat).takes))))::(y 13)::(y 14)::(Zn i1)::(Pt vM)::rx y 17 170 []))) (fun r y=>((y 0)::aN::bB::(y 3)::(Zi s)::(Pt pr)::rx y 6 4 ((AV.bool r)::(Pt vL)::(Zi (IntKind.i64.wrap (s+((j.ab.g tqk.toNat).takes))))::(y 13)::(y 14)::(Zn i1)::(Pt vM)::rx y 17 170 []))) (fA j az s au tqk i1 k_ i_)
 | 0,i3,fX,x,hh,aI,aE,mM,qg,rz=>by
   have iC:cb (some (.slice 40)) (some j.aw)=some (Zn j.ab.length):=(IW.has aE).len
   have q2:(decide (((i3:Nat):Int)<((j.ab.length:Nat):Int)))=false:=d!
   exact aF.out rfl (pk (d+2) _ _ hh _ hh (CN 2<|MM (aO 22 0 j.aw mM k!)<|VV iC<|VV (bL 3 false false .i64 ((i3:Nat):Int) ((j.ab.length:Nat):Int))<|BB q2<|ZZ) k!) (bE.refl aI) k!
 | IV+1,i3,fX,x,hh,aI,aE,mM,qg,rz=>by
   have RY:=pt.small
   have RZ:=xA.small
   have amS:=IW.small
   have ag9:=L9.small
   have amT:=aab.small
   have amU:=IY.small
   have amV:=aac.small
   have aha:=aI _ _ mM
   have akl:=aI _ _ qg
   have akm:=aI _ _ rz
   have iC:cb (some (.slice 40)) (some j.aw)=some (Zn j.ab.length):=(IW.has aE).len
   have q2:(decide (((i3:Nat):Int)<((j.ab.length:Nat):Int)))=true:=d!
   obtain ⟨p4,q5,lp,_⟩:=(xA.has aE).elem (i:=i3) o!
   have wJ:bO env (some (.slice 4)) (some bB) (some (Zn i3))=some (AV.ptr p4 q5):=lp
   have tD:bh env hh 4 (AV.ptr p4 q5)=some (AV.bool (az.g i3)):=(xA.has aE).load o! lp
   have AL:=fun {al ps} (k:Pk al _ ps)=>(CN 2<|MM (aO 22 0 j.aw mM k!)<|VV iC<|VV (bL 3 false false .i64 ((i3:Nat):Int) ((j.ab.length:Nat):Int))<|BB q2<|CN 2<|VV wJ<|MM tD<|CC<|k:Pk _ [] ps)
   rcases Bool.eq_false_or_eq_true (az.g i3) with f1 | f1
   · obtain ⟨p9,Ed,qd,_⟩:=(pt.has aE).elem (i:=i3) o!
     have LB:bO env (some (.slice 3)) (some aN) (some (Zn i3))=some (AV.ptr p9 Ed):=qd
     have ry:bh env hh 3 (AV.ptr p9 Ed)=some (Zi (au.g i3)):=(pt.has aE).load o! qd
     have R0:=fun {al ps} (k:Pk al _ ps)=>(AL<|BC f1<|BC f1<|BV f1 LB<|BM f1 ry<|BC f1<|BV f1 (dw 3 false false .i64 (au.g i3) s)<|VV (sP (decide (s<(au.g i3))) false f1)<|CC<|k:Pk _ [] ps)
     rcases Bool.eq_false_or_eq_true (decide (s<(au.g i3))) with f2 | f2
     · have se:=of_decide_eq_true f2
       obtain ⟨Z_,V2,xr,_⟩:=(pt.has aE).elem (i:=i3) o!
       have RN:bO env (some (.slice 3)) (some aN) (some (Zn i3))=some (AV.ptr Z_ V2):=xr
       have EM:bh env hh 3 (AV.ptr Z_ V2)=some (Zi (au.g i3)):=(pt.has aE).load o! xr
       have Pd:=fun {al ps} (k:Pk al _ ps)=>(R0<|BC f2<|BC f2<|BV f2 RN<|BM f2 EM<|BC f2<|BV f2 (bL 3 false false .i64 (au.g i3) (IntKind.i64.wrap (s+((j.ab.g tqk.toNat).takes))))<|VV (sP (decide ((au.g i3)<(IntKind.i64.wrap (s+((j.ab.g tqk.toNat).takes))))) false f2)<|CC<|k:Pk _ [] ps)
       rcases Bool.eq_false_or_eq_true (decide ((au.g i3)<(IntKind.i64.wrap (s+((j.ab.g tqk.toNat).takes))))) with f3 | f3
       · have yG:=of_decide_eq_true f3
         obtain ⟨p19,q20,ae2⟩:=(IY.has aE).elem (i:=i1) o!
         have Y5:bO env (some (.slice 83)) (some (j.ab.g tqk.toNat).a_) (some (Zn i1))=some (AV.ptr p19 q20):=ae2
         have akn:bh env hh 3 (AV.ptr p19 (q20+0))=some (Zi ((j.ab.g tqk.toNat).aA.g i1).ah):=(IY.has aE).part (t:=3) (j:=0) o! ae2 k! rfl
         obtain ⟨p23,q24,ae3,_⟩:=(pt.has aE).elem (i:=i3) o!
         have amW:bO env (some (.slice 3)) (some aN) (some (Zn i3))=some (AV.ptr p23 q24):=ae3
         have ako:bh env hh 3 (AV.ptr p23 q24)=some (Zi (au.g i3)):=(pt.has aE).load o! ae3
         obtain ⟨p27,q28,ae4⟩:=(IY.has aE).elem (i:=i1) o!
         have amX:bO env (some (.slice 83)) (some (j.ab.g tqk.toNat).a_) (some (Zn i1))=some (AV.ptr p27 q28):=ae4
         have ahb:bh env hh 3 (AV.ptr p27 (q28+1))=some (Zi ((j.ab.g tqk.toNat).aA.g i1).aJ):=(IY.has aE).part (t:=3) (j:=1) o! ae4 k! rfl
         have k30:=Pb (d:=d) j au az ((j.ab.g tqk.toNat).aA.g i1).ah (au.g i3) (aR.mono aE Hu) (pt.has aE) (xA.has aE) yn yn aI
         have c31:AV.same 20 (AV.agg [j.aw,j.ao]) (AV.agg [j.aw,j.ao])=true:=hT 18 (rH (IW.has aE).same (rH (L9.has aE).same P6))
         have c32:AV.same 20 (j.ab.g tqk.toNat).a_ (j.ab.g tqk.toNat).a_=true:=(IY.has aE).same 19
         have W6:=fun {al ps} (k:Pk al _ ps)=>(Pd<|BM f3 (aO 25 0 (AV.agg [j.aw,j.ao]) mM k!)<|BC f3<|BC f3<|BC f3<|BM f3 (aO 38 3 (j.ab.g tqk.toNat).a_ qg k!)<|BC f3<|BV f3 Y5<|BC f3<|BM f3 akn<|BC f3<|BC f3<|BV f3 amW<|BM f3 ako<|BC f3<|BM f3 (aO 38 3 (j.ab.g tqk.toNat).a_ qg k!)<|BC f3<|BV f3 amX<|BC f3<|BM f3 ahb<|BC f3<|BM f3 (aO 3 1 (Zi (j.af.g ((j.ab.g tqk.toNat).aA.g i1).ah.toNat).aJ) rz k!)<|BB f3<|EE k30<|BC f3<|BV f3 (dw 3 false false .i64 (IntKind.i64.wrap ((jJ j au az ((j.ab.g tqk.toNat).aA.g i1).ah (au.g i3))+(((j.ab.g tqk.toNat).aA.g i1).aJ))) (j.af.g ((j.ab.g tqk.toNat).aA.g i1).ah.toNat).aJ)<|VV (sP (decide ((j.af.g ((j.ab.g tqk.toNat).aA.g i1).ah.toNat).aJ<(IntKind.i64.wrap ((jJ j au az ((j.ab.g tqk.toNat).aA.g i1).ah (au.g i3))+(((j.ab.g tqk.toNat).aA.g i1).aJ))))) false f3)<|HH tD<|HH (show AV.same 20 (AV.bool (az.g i3)) (AV.bool (az.g i3))=true from lH 19 _)<|HH ry<|HH (show AV.same 20 (Zi (au.g i3)) (Zi (au.g i3))=true from aS 19 _ _)<|HH EM<|HH (show AV.same 20 (Zi (au.g i3)) (Zi (au.g i3))=true from aS 19 _ _)<|HH (aO 25 0 (AV.agg [j.aw,j.ao]) mM k!)<|HH c31<|HH (aO 38 3 (j.ab.g tqk.toNat).a_ qg k!)<|HH c32<|HH akn<|HH (show AV.same 20 (Zi ((j.ab.g tqk.toNat).aA.g i1).ah) (Zi ((j.ab.g tqk.toNat).aA.g i1).ah)=true from aS 19 _ _)<|HH ako<|HH (show AV.same 20 (Zi (au.g i3)) (Zi (au.g i3))=true from aS 19 _ _)<|HH (aO 38 3 (j.ab.g tqk.toNat).a_ qg k!)<|HH c32<|HH (aO 38 3 (j.ab.g tqk.toNat).a_ qg k!)<|HH c32<|HH ahb<|HH (show AV.same 20 (Zi ((j.ab.g tqk.toNat).aA.g i1).aJ) (Zi ((j.ab.g tqk.toNat).aA.g i1).aJ)=true from aS 19 _ _)<|HH ahb<|HH (show AV.same 20 (Zi ((j.ab.g tqk.toNat).aA.g i1).aJ) (Zi ((j.ab.g tqk.toNat).aA.g i1).aJ)=true from aS 19 _ _)<|HH (aO 3 1 (Zi (j.af.g ((j.ab.g tqk.toNat).aA.g i1).ah.toNat).aJ) rz k!)<|HH (show AV.same 20 (Zi (j.af.g ((j.ab.g tqk.toNat).aA.g i1).ah.toNat).aJ) (Zi (j.af.g ((j.ab.g tqk.toNat).aA.g i1).ah.toNat).aJ)=true from aS 19 _ _)<|HH (aO 3 1 (Zi (j.af.g ((j.ab.g tqk.toNat).aA.g i1).ah.toNat).aJ) rz k!)<|HH (show AV.same 20 (Zi (j.af.g ((j.ab.g tqk.toNat).aA.g i1).ah.toNat).aJ) (Zi (j.af.g ((j.ab.g tqk.toNat).aA.g i1).ah.toNat).aJ)=true from aS 19 _ _)<|k:Pk _ [] ps)
         rcases Bool.eq_false_or_eq_true (decide ((j.af.g ((j.ab.g tqk.toNat).aA.g i1).ah.toNat).aJ<(IntKind.i64.wrap ((jJ j au az ((j.ab.g tqk.toNat).aA.g i1).ah (au.g i3))+(((j.ab.g tqk.toNat).aA.g i1).aJ))))) with f4 | f4
         · have R1:=of_decide_eq_true f4
           exact aF.ret false (by simp only[fA,f1,f2,f3,f4,aj,ai]) (pk (d+2) _ _ hh _ hh (W6<|BC f4<|ZZ) k!) (bE.refl aI) k!
         · have R1:=of_decide_eq_false f4
           have u34:=fi 3 false true i3 1 o!
           exact aF.round (by simp only[fA,f1,f2,f3,f4,aj,ai]) (pk (d+2) _ _ hh _ hh (W6<|BC f4<|VV u34<|CC<|ZZ) k!) (bE.refl aI) _ k! (fun x=>pq aN bB s j tqk i1 au az pr vL vM pt xA IW L9 IX aab IY adD aac Hu V8 V9 adE Ug V_ V' Wa Wb Wc Wd IV (i3+1) o! x hh aI aE mM qg rz)
       · have yG:=of_decide_eq_false f3
         have u18:=fi 3 false true i3 1 o!
         exact aF.round (by simp only[fA,f1,f2,f3,aj,ai]) (pk (d+2) _ _ hh _ hh (Pd<|BB f3<|BB f3<|BB f3<|BB f3<|BB f3<|BB f3<|BB f3<|BB f3<|BB f3<|BB f3<|BB f3<|BB f3<|BB f3<|BB f3<|BB f3<|BB f3<|BB f3<|BB f3<|BB f3<|BB f3<|BB f3<|BB f3<|BB f3<|BV f3 (yB false f3)<|HH tD<|HH (show AV.same 20 (AV.bool (az.g i3)) (AV.bool (az.g i3))=true from lH 19 _)<|HH ry<|HH (show AV.same 20 (Zi (au.g i3)) (Zi (au.g i3))=true from aS 19 _ _)<|HH EM<|HH (show AV.same 20 (Zi (au.g i3)) (Zi (au.g i3))=true from aS 19 _ _)<|FF<|CC<|VV u18<|CC<|ZZ) k!) (bE.refl aI) _ k! (fun x=>pq aN bB s j tqk i1 au az pr vL vM pt xA IW L9 IX aab IY adD aac Hu V8 V9 adE Ug V_ V' Wa Wb Wc Wd IV (i3+1) o! x hh aI aE mM qg rz)
     · have se:=of_decide_eq_false f2
       have Z':=fi 3 false true i3 1 o!
       exact aF.round (by simp only[fA,f1,f2,aj,ai]) (pk (d+2) _ _ hh _ hh (R0<|BB f2<|BB f2<|BB f2<|BB f2<|BB f2<|BV f2 (yB false f2)<|CC<|FF<|FF<|FF<|FF<|FF<|FF<|FF<|FF<|FF<|FF<|FF<|FF<|FF<|FF<|FF<|FF<|FF<|FF<|FF<|FF<|FF<|FF<|FF<|FF<|CC<|HH tD<|HH (show AV.same 20 (AV.bool (az.g i3)) (AV.bool (az.g i3))=true from lH 19 _)<|HH ry<|HH (show AV.same 20 (Zi (au.g i3)) (Zi (au.g i3))=true from aS 19 _ _)<|FF<|CC<|VV Z'<|CC<|ZZ) k!) (bE.refl aI) _ k! (fun x=>pq aN bB s j tqk i1 au az pr vL vM pt xA IW L9 IX aab IY adD aac Hu V8 V9 adE Ug V_ V' Wa Wb Wc Wd IV (i3+1) o! x hh aI aE mM qg rz)
   · have u8:=fi 3 false true i3 1 o!
     exact aF.round (by simp only[fA,f1,aj,ai]) (pk (d+2) _ _ hh _ hh (AL<|BB f1<|BB f1<|BB f1<|BB f1<|BB f1<|BV f1 (yB false f1)<|CC<|FF<|FF<|FF<|FF<|FF<|FF<|CN 2<|FF<|FF<|FF<|FF<|FF<|FF<|FF<|FF<|FF<|FF<|FF<|FF<|FF<|FF<|FF<|FF<|FF<|FF<|FF<|FF<|FF<|FF<|FF<|FF<|CC<|HH tD<|HH (show AV.same 20 (AV.bool (az.g i3)) (AV.bool (az.g i3))=true from lH 19 _)<|FF<|CC<|VV u8<|CC<|ZZ) k!) (bE.refl aI) _ k! (fun x=>pq aN bB s j tqk i1 au az pr vL vM pt xA IW L9 IX aab IY adD aac Hu V8 V9 adE Ug V_ V' Wa Wb Wc Wd IV (i3+1) o! x hh aI aE mM qg rz)
def g9 (j:cx) (tqk:Int) (s:Int) (au:List Int) (az:List Bool):Nat→Nat→Option (Bool)
 | 0,_=>none
 | o8+1,i1=>(bif (decide (0<((j.ab.g tqk.toNat).takes))) then (match (iE j tqk i1 s (j.af.g ((j.ab.g tqk.toNat).aA.g i1).ah.toNat).off.length 0) with | none=>(bif (decide ((j.af.g ((j.ab.g tqk.toNat).aA.g i1).ah.toNat).aJ<(IntKind.i64.wrap ((jJ j au az ((j.ab.g tqk.toNat).aA.g i1).ah s)+(((j.ab.g tqk.toNat).aA.g i1).aJ))))) then some false else (match (fA j az s au tqk i1 j.ab.length 0) with | none=>g9 j tqk s au az o8 (i1+1) | some ahc=>some ahc)) | some ahd=>some ahd) else none)
theorem Ef {d:Nat} {h:aC} (aN:AV) (bB:AV) (s:Int) (j:cx) (tqk:Int) (au:List Int) (az:List Bool) (cU:Nat) (dt:Nat) (eM:b8 h .i64 3 aN au) (eR:oh h 4 bB az) (ny:aW h j.aw j.ab) (mN:aW h j.ao j.af) (IZ:((j.ab.g tqk.toNat).name).length<2^60) (adF:b8 h .i64 3 (j.ab.g tqk.toNat).aU (j.ab.g tqk.toNat).aB) (uK:aW h (j.ab.g tqk.toNat).a_ (j.ab.g tqk.toNat).aA) (mZ:aR.ok h j) (Iy:aR.ok h (j.ab.g tqk.toNat)) (pH:az.length=j.ab.length) (qP:au.length=j.ab.length) (qQ:0≤tqk) (vG:tqk<(j.ab.length:Int)) (EK:∀q,q<(j.ab.g tqk.toNat).aB.length→0≤(j.ab.g tqk.toNat).aB.g q∧(j.ab.g tqk.toNat).aB.g q<(j.ab.length:Int)) (Hq:∀q,q<(j.ab.g tqk.toNat).aA.length→0≤((j.ab.g tqk.toNat).aA.g q).ah∧((j.ab.g tqk.toNat).aA.g q).ah<(j.af.length:Int)):∀(k_ i_:Nat) (_:i_+k_=((j.ab.g tqk.toNat).aA.length)) (x:Nat→AV) (hh:aC) (aI:Tidy hh) (aE:Has h hh) (cO:hh.get cU=some (aM.cells [j.aw,j.ao] 25 false)) (dA:hh.get dt=some (aM.cells [(AV.str (j.ab.g tqk.toNat).name),(Zi (j.ab.g tqk.toNat).takes),(j.ab.g tqk.toNat).aU,(j.ab.g tqk.toNat).a_] 40 false)),aF (cN (d+2)) RP ⟨((x 0)::aN::bB::(x 3)::(Zi s)::(Pt cU)::rx x 6 5 ((Pt dt)::(Zi (IntKind.i64.wrap (s+((j.ab.g tqk.toNat).takes))))::(x 13)::(x 14)::(Zn i_)::rx x 16 171 [])),hh,[],.no⟩ (.exit 2) hh (fun y=>((y 0)::aN::bB::(y 3)::(Zi s)::(Pt cU)::rx y 6 5 ((Pt dt)::(Zi (IntKind.i64.wrap (s+((j.ab.g tqk.toNat).takes))))::rx y 13 174 []))) (fun r y=>((y 0)::aN::bB::(y 3)::(Zi s)::(Pt cU)::rx y 6 4 ((AV.bool r)::(Pt dt)::(Zi (IntKind.i64.wrap (s+((j.ab.g tqk.toNat).takes))))::rx y 13 174 []))) (g9 j tqk s au az k_ i_)
 | 0,i1,fX,x,hh,aI,aE,cO,dA=>by
   have iC:cb (some (.slice 83)) (some (j.ab.g tqk.toNat).a_)=some (Zn (j.ab.g tqk.toNat).aA.length):=(uK.has aE).len
   have q2:(decide (((i1:Nat):Int)<(((j.ab.g tqk.toNat).aA.length:Nat):Int)))=false:=d!
   exact aF.out rfl (pk (d+2) _ _ hh _ hh (CN 2<|MM (aO 38 3 (j.ab.g tqk.toNat).a_ dA k!)<|VV iC<|VV (bL 3 false false .i64 ((i1:Nat):Int) (((j.ab.g tqk.toNat).aA.length:Nat):Int))<|CC<|BB q2<|BB q2<|BV q2 (yB false q2)<|FF<|ZZ) k!) (bE.refl aI) k!
 | o8+1,i1,fX,x,hh,aI,aE,cO,dA=>by
   have qR:=eM.small
   have r7:=eR.small
   have L_:=ny.small
   have ahe:=mN.small
   have amY:=adF.small
   have amZ:=uK.small
   have Iz:=aI _ _ cO
   have Q_:=aI _ _ dA
   obtain ⟨us1,us2⟩:=Hq i1 o!
   have iC:cb (some (.slice 83)) (some (j.ab.g tqk.toNat).a_)=some (Zn (j.ab.g tqk.toNat).aA.length):=(uK.has aE).len
   have q2:(decide (((i1:Nat):Int)<(((j.ab.g tqk.toNat).aA.length:Nat):Int)))=true:=d!
   have pf9:=fun {al ps} (k:Pk al _ ps)=>(CN 2<|MM (aO 38 3 (j.ab.g tqk.toNat).a_ dA k!)<|VV iC<|VV (bL 3 false false .i64 ((i1:Nat):Int) (((j.ab.g tqk.toNat).aA.length:Nat):Int))<|CC<|BC q2<|BM q2 (aO 3 1 (Zi (j.ab.g tqk.toNat).takes) dA k!)<|BV q2 (dw 3 false true .i64 (j.ab.g tqk.toNat).takes 0)<|VV (sP (decide (0<((j.ab.g tqk.toNat).takes))) false q2)<|k:Pk _ [] ps)
   rcases Bool.eq_false_or_eq_true (decide (0<((j.ab.g tqk.toNat).takes))) with f1 | f1
   · have fP:=of_decide_eq_true f1
     obtain ⟨p5,q6,Ma⟩:=(uK.has aE).elem (i:=i1) o!
     have WZ:bO env (some (.slice 83)) (some (j.ab.g tqk.toNat).a_) (some (Zn i1))=some (AV.ptr p5 q6):=Ma
     have TG:bh env hh 3 (AV.ptr p5 (q6+0))=some (Zi ((j.ab.g tqk.toNat).aA.g i1).ah):=(uK.has aE).part (t:=3) (j:=0) o! Ma k! rfl
     obtain ⟨p9,Ed,qd⟩:=(mN.has aE).elem (i:=(((j.ab.g tqk.toNat).aA.g i1).ah).toNat) o!
     have LB:bO env (some (.slice 37)) (some j.ao) (some (Zi ((j.ab.g tqk.toNat).aA.g i1).ah))=some (AV.ptr p9 Ed):=by rw[show ((((j.ab.g tqk.toNat).aA.g i1).ah):Int)=((((j.ab.g tqk.toNat).aA.g i1).ah.toNat:Nat):Int) by omega];exact qd
     have ry:bh env hh 37 (AV.ptr p9 Ed)=some (AV.agg [(AV.str (j.af.g ((j.ab.g tqk.toNat).aA.g i1).ah.toNat).name),(Zi (j.af.g ((j.ab.g tqk.toNat).aA.g i1).ah.toNat).aJ),(j.af.g ((j.ab.g tqk.toNat).aA.g i1).ah.toNat).dW]):=(mN.has aE).load o! qd
     obtain ⟨kV,J7,jk,aad,BW,eB⟩:=jE aI (aM.cells [(AV.str []),(Zi 0),AV.aG] 37 false)
     have fJ:Has hh kV:=eB
     have aae:AV.scalar (j.af.g ((j.ab.g tqk.toNat).aA.g i1).ah.toNat).dW=true:=(((mN.has aE).ok (i:=(((j.ab.g tqk.toNat).aA.g i1).ah).toNat) o!).2).scalar
     obtain ⟨lR,vl,iQ,OJ,ra,c9⟩:=n5 (t:=37) (n:=3) (i:=hh.nx) (L:=[(AV.str (j.af.g ((j.ab.g tqk.toNat).aA.g i1).ah.toNat).name),(Zi (j.af.g ((j.ab.g tqk.toNat).aA.g i1).ah.toNat).aJ),(j.af.g ((j.ab.g tqk.toNat).aA.g i1).ah.toNat).dW]) jk BW k! rfl rfl (by simp only[AV.cells,List.all_cons,List.all_nil,Bool.and_true,Bool.and_self,gr,eO,gu,gv,dG,jK,jL,jM,jN,jO,gz,aae])
     have jl:Has hh lR:=Has.dg fJ c9 aI o!
     have c15:AV.same 20 j.ao j.ao=true:=(mN.has aE).same 19
     have R2:AV.same 20 (j.ab.g tqk.toNat).a_ (j.ab.g tqk.toNat).a_=true:=(uK.has aE).same 19
     have c17:AV.same 20 (AV.agg [(AV.str (j.af.g ((j.ab.g tqk.toNat).aA.g i1).ah.toNat).name),(Zi (j.af.g ((j.ab.g tqk.toNat).aA.g i1).ah.toNat).aJ),(j.af.g ((j.ab.g tqk.toNat).aA.g i1).ah.toNat).dW]) (AV.agg [(AV.str (j.af.g ((j.ab.g tqk.toNat).aA.g i1).ah.toNat).name),(Zi (j.af.g ((j.ab.g tqk.toNat).aA.g i1).ah.toNat).aJ),(j.af.g ((j.ab.g tqk.toNat).aA.g i1).ah.toNat).dW])=true:=hT 18 (rH (fun n=>mf n _) (rH (fun n=>aS n _ _) (rH ((mN.has aE).ok (i:=(((j.ab.g tqk.toNat).aA.g i1).ah).toNat) o!).2.same P6)))
     have Mb:=fun {al ps} (k:Pk al _ ps)=>(pf9<|BC f1<|MM (aO 23 1 j.ao cO k!)<|CC<|MM (aO 38 3 (j.ab.g tqk.toNat).a_ dA k!)<|CC<|VV WZ<|CC<|MM TG<|VV LB<|MM ry<|NN J7 (fun i=>(Pt i))<|SS vl<|HH (aO 23 1 j.ao (eB _ _ cO) k!)<|HH c15<|HH (aO 38 3 (j.ab.g tqk.toNat).a_ (eB _ _ dA) k!)<|HH R2<|k:Pk _ [] ps)
     have Hv:=xy (d:=d) (h:=hh) aN bB s j tqk i1 au az cU dt hh.nx (eM.has aE) (eR.has aE) (ny.has aE) (mN.has aE) IZ (adF.has aE) (uK.has aE) ((mN.has aE).ok (i:=(((j.ab.g tqk.toNat).aA.g i1).ah).toNat) o!).1 ((mN.has aE).ok (i:=(((j.ab.g tqk.toNat).aA.g i1).ah).toNat) o!).2 (aR.mono aE mZ) (aR.mono aE Iy) ((uK.has aE).ok (i:=i1) o!) ((mN.has aE).ok (i:=(((j.ab.g tqk.toNat).aA.g i1).ah).toNat) o!) o! o! o! o! o! o! o! (j.af.g ((j.ab.g tqk.toNat).aA.g i1).ah.toNat).off.length 0 o! (fun k_=>(((x 0)::aN::bB::(x 3)::(Zi s)::(Pt cU)::rx x 6 5 ((Pt dt)::(Zi (IntKind.i64.wrap (s+((j.ab.g tqk.toNat).takes))))::(x 13)::(x 14)::(Zn i1)::(Pt hh.nx)::(Zi 0)::rx x 18 48 ((Zn i1)::(AV.ptr dt 3)::((j.ab.g tqk.toNat).a_)::(Zn (j.ab.g tqk.toNat).aA.length)::(AV.bool (decide (((i1:Nat):Int)<(((j.ab.g tqk.toNat).aA.length:Nat):Int))))::(AV.bool (decide (((i1:Nat):Int)<(((j.ab.g tqk.toNat).aA.length:Nat):Int))))::(AV.ptr dt 1)::(Zi (j.ab.g tqk.toNat).takes)::(AV.bool (decide (0<((j.ab.g tqk.toNat).takes))))::(AV.bool (decide (0<((j.ab.g tqk.toNat).takes))))::(x 76)::(x 77)::(AV.ptr cU 1)::j.ao::(AV.ptr dt 3)::((j.ab.g tqk.toNat).a_)::(Zn i1)::(AV.ptr p5 q6)::(AV.ptr p5 (q6+0))::(Zi ((j.ab.g tqk.toNat).aA.g i1).ah)::(AV.ptr p9 Ed)::(AV.agg [(AV.str (j.af.g ((j.ab.g tqk.toNat).aA.g i1).ah.toNat).name),(Zi (j.af.g ((j.ab.g tqk.toNat).aA.g i1).ah.toNat).aJ),(j.af.g ((j.ab.g tqk.toNat).aA.g i1).ah.toNat).dW])::rx x 88 99 []))):List AV).getD k_ AV.undef) lR iQ jl (c9 _ _ o! (eB _ _ cO)) (c9 _ _ o! (eB _ _ dA)) ra
     cases yp:iE j tqk i1 s (j.af.g ((j.ab.g tqk.toNat).aA.g i1).ah.toNat).off.length 0 with
     | none=>
       obtain ⟨Mc,C3,BX,fq⟩:=aF.n yp Hv
       have sS:=fq.y
       have ae5:lR.nx≤C3.nx:=fq.n
       have nu:Has hh C3:=jl.trans fq.a
       obtain ⟨p21,q22,ae6⟩:=(uK.has aE).elem (i:=i1) o!
       have ahf:bO env (some (.slice 83)) (some (j.ab.g tqk.toNat).a_) (some (Zn i1))=some (AV.ptr p21 q22):=ae6
       have Wf:bh env C3 3 (AV.ptr p21 (q22+0))=some (Zi ((j.ab.g tqk.toNat).aA.g i1).ah):=((uK.has aE).has nu).part (t:=3) (j:=0) o! ae6 k! rfl
       obtain ⟨p25,q26,ae7⟩:=(uK.has aE).elem (i:=i1) o!
       have ahg:bO env (some (.slice 83)) (some (j.ab.g tqk.toNat).a_) (some (Zn i1))=some (AV.ptr p25 q26):=ae7
       have Md:bh env C3 3 (AV.ptr p25 (q26+1))=some (Zi ((j.ab.g tqk.toNat).aA.g i1).aJ):=((uK.has aE).has nu).part (t:=3) (j:=1) o! ae7 k! rfl
       have k28:=Pb (d:=d) j au az ((j.ab.g tqk.toNat).aA.g i1).ah s (aR.mono nu (aR.mono aE mZ)) ((eM.has aE).has nu) ((eR.has aE).has nu) yn yn sS
       have c29:AV.same 20 (AV.agg [j.aw,j.ao]) (AV.agg [j.aw,j.ao])=true:=hT 18 (rH (ny.has aE).same (rH (mN.has aE).same P6))
       rcases Bool.eq_false_or_eq_true (decide ((j.af.g ((j.ab.g tqk.toNat).aA.g i1).ah.toNat).aJ<(IntKind.i64.wrap ((jJ j au az ((j.ab.g tqk.toNat).aA.g i1).ah s)+(((j.ab.g tqk.toNat).aA.g i1).aJ))))) with f3 | f3
       · have yG:=of_decide_eq_true f3
         exact aF.ret false (by simp only[g9,f1,yp,f3,aj,ai]) (pk (d+2) _ _ hh _ C3 (Mb<|HH (show bh env kV 3 (AV.ptr p5 (q6+0))=some (Zi ((j.ab.g tqk.toNat).aA.g i1).ah) from (((uK.has aE).has fJ).part (t:=3) (j:=0) o! Ma k! rfl))<|HH (show AV.same 20 (Zi ((j.ab.g tqk.toNat).aA.g i1).ah) (Zi ((j.ab.g tqk.toNat).aA.g i1).ah)=true from aS 19 _ _)<|HH (show bh env kV 37 (AV.ptr p9 Ed)=some (AV.agg [(AV.str (j.af.g ((j.ab.g tqk.toNat).aA.g i1).ah.toNat).name),(Zi (j.af.g ((j.ab.g tqk.toNat).aA.g i1).ah.toNat).aJ),(j.af.g ((j.ab.g tqk.toNat).aA.g i1).ah.toNat).dW]) from (((mN.has aE).has fJ).load o! qd))<|HH c17<|HH (show ∃o,kV.get hh.nx=some o∧aM.same o (aM.cells [(AV.str []),(Zi 0),AV.aG] 37 false)=true from ⟨_,BW,by simp [aM.same,eD,AV.same]⟩)<|CC<|LL BX<|MM (aO 25 0 (AV.agg [j.aw,j.ao]) (fq.a _ _ (c9 _ _ o! (eB _ _ cO))) k!)<|CN 3<|MM (aO 38 3 (j.ab.g tqk.toNat).a_ (fq.a _ _ (c9 _ _ o! (eB _ _ dA))) k!)<|CC<|VV ahf<|CC<|MM Wf<|CN 2<|MM (aO 38 3 (j.ab.g tqk.toNat).a_ (fq.a _ _ (c9 _ _ o! (eB _ _ dA))) k!)<|CC<|VV ahg<|CC<|MM Md<|CC<|MM (aO 3 1 (Zi (j.af.g ((j.ab.g tqk.toNat).aA.g i1).ah.toNat).aJ) (fq.a _ _ ra) k!)<|EE k28<|CC<|VV (dw 3 false false .i64 (IntKind.i64.wrap ((jJ j au az ((j.ab.g tqk.toNat).aA.g i1).ah s)+(((j.ab.g tqk.toNat).aA.g i1).aJ))) (j.af.g ((j.ab.g tqk.toNat).aA.g i1).ah.toNat).aJ)<|HH (aO 25 0 (AV.agg [j.aw,j.ao]) (fq.a _ _ (c9 _ _ o! (eB _ _ cO))) k!)<|HH c29<|HH (aO 38 3 (j.ab.g tqk.toNat).a_ (fq.a _ _ (c9 _ _ o! (eB _ _ dA))) k!)<|HH R2<|HH Wf<|HH (show AV.same 20 (Zi ((j.ab.g tqk.toNat).aA.g i1).ah) (Zi ((j.ab.g tqk.toNat).aA.g i1).ah)=true from aS 19 _ _)<|HH (aO 38 3 (j.ab.g tqk.toNat).a_ (fq.a _ _ (c9 _ _ o! (eB _ _ dA))) k!)<|HH R2<|HH (aO 38 3 (j.ab.g tqk.toNat).a_ (fq.a _ _ (c9 _ _ o! (eB _ _ dA))) k!)<|HH R2<|HH Md<|HH (show AV.same 20 (Zi ((j.ab.g tqk.toNat).aA.g i1).aJ) (Zi ((j.ab.g tqk.toNat).aA.g i1).aJ)=true from aS 19 _ _)<|HH Md<|HH (show AV.same 20 (Zi ((j.ab.g tqk.toNat).aA.g i1).aJ) (Zi ((j.ab.g tqk.toNat).aA.g i1).aJ)=true from aS 19 _ _)<|HH (aO 3 1 (Zi (j.af.g ((j.ab.g tqk.toNat).aA.g i1).ah.toNat).aJ) (fq.a _ _ ra) k!)<|HH (show AV.same 20 (Zi (j.af.g ((j.ab.g tqk.toNat).aA.g i1).ah.toNat).aJ) (Zi (j.af.g ((j.ab.g tqk.toNat).aA.g i1).ah.toNat).aJ)=true from aS 19 _ _)<|HH (aO 3 1 (Zi (j.af.g ((j.ab.g tqk.toNat).aA.g i1).ah.toNat).aJ) (fq.a _ _ ra) k!)<|HH (show AV.same 20 (Zi (j.af.g ((j.ab.g tqk.toNat).aA.g i1).ah.toNat).aJ) (Zi (j.af.g ((j.ab.g tqk.toNat).aA.g i1).ah.toNat).aJ)=true from aS 19 _ _)<|BC f3<|ZZ) k!) (⟨sS,nu,by omega⟩) k!
       · have yG:=of_decide_eq_false f3
         have aaf:=pq (d:=d) (h:=hh) aN bB s j tqk i1 au az cU dt hh.nx (eM.has aE) (eR.has aE) (ny.has aE) (mN.has aE) IZ (adF.has aE) (uK.has aE) ((mN.has aE).ok (i:=(((j.ab.g tqk.toNat).aA.g i1).ah).toNat) o!).1 ((mN.has aE).ok (i:=(((j.ab.g tqk.toNat).aA.g i1).ah).toNat) o!).2 (aR.mono aE mZ) (aR.mono aE Iy) ((uK.has aE).ok (i:=i1) o!) ((mN.has aE).ok (i:=(((j.ab.g tqk.toNat).aA.g i1).ah).toNat) o!) o! o! o! o! o! o! o! j.ab.length 0 o! (fun k_=>(((Mc 0)::aN::bB::(Mc 3)::(Zi s)::(Pt cU)::rx Mc 6 5 ((Pt dt)::(Zi (IntKind.i64.wrap (s+((j.ab.g tqk.toNat).takes))))::(Mc 13)::(Mc 14)::(Zn i1)::(Pt hh.nx)::(Mc 17)::(Zi 0)::rx Mc 19 94 ((AV.agg [j.aw,j.ao])::aN::bB::(AV.ptr dt 3)::((j.ab.g tqk.toNat).a_)::(Zn i1)::(AV.ptr p21 q22)::(AV.ptr p21 (q22+0))::(Zi ((j.ab.g tqk.toNat).aA.g i1).ah)::(Zi s)::(Zi (jJ j au az ((j.ab.g tqk.toNat).aA.g i1).ah s))::(AV.ptr dt 3)::((j.ab.g tqk.toNat).a_)::(Zn i1)::(AV.ptr p25 q26)::(AV.ptr p25 (q26+1))::(Zi ((j.ab.g tqk.toNat).aA.g i1).aJ)::(Zi (IntKind.i64.wrap ((jJ j au az ((j.ab.g tqk.toNat).aA.g i1).ah s)+(((j.ab.g tqk.toNat).aA.g i1).aJ))))::(AV.ptr hh.nx 1)::(Zi (j.af.g ((j.ab.g tqk.toNat).aA.g i1).ah.toNat).aJ)::(AV.bool (decide ((j.af.g ((j.ab.g tqk.toNat).aA.g i1).ah.toNat).aJ<(IntKind.i64.wrap ((jJ j au az ((j.ab.g tqk.toNat).aA.g i1).ah s)+(((j.ab.g tqk.toNat).aA.g i1).aJ))))))::rx Mc 134 53 []))):List AV).getD k_ AV.undef) C3 sS nu (fq.a _ _ (c9 _ _ o! (eB _ _ cO))) (fq.a _ _ (c9 _ _ o! (eB _ _ dA))) (fq.a _ _ ra)
         cases E':fA j az s au tqk i1 j.ab.length 0 with
         | none=>
           obtain ⟨am0,h32,Me,xB⟩:=aF.n E' aaf
           have Uh:=xB.y
           have akp:C3.nx≤h32.nx:=xB.n
           have Ui:Has hh h32:=nu.trans xB.a
           have Wg:Has C3 h32:=xB.a
           have u33:=fi 3 false true i1 1 o!
           exact aF.round (by simp only[g9,f1,yp,f3,E',aj,ai]) (pk (d+2) _ _ hh _ h32 (Mb<|HH (show bh env kV 3 (AV.ptr p5 (q6+0))=some (Zi ((j.ab.g tqk.toNat).aA.g i1).ah) from (((uK.has aE).has fJ).part (t:=3) (j:=0) o! Ma k! rfl))<|HH (show AV.same 20 (Zi ((j.ab.g tqk.toNat).aA.g i1).ah) (Zi ((j.ab.g tqk.toNat).aA.g i1).ah)=true from aS 19 _ _)<|HH (show bh env kV 37 (AV.ptr p9 Ed)=some (AV.agg [(AV.str (j.af.g ((j.ab.g tqk.toNat).aA.g i1).ah.toNat).name),(Zi (j.af.g ((j.ab.g tqk.toNat).aA.g i1).ah.toNat).aJ),(j.af.g ((j.ab.g tqk.toNat).aA.g i1).ah.toNat).dW]) from (((mN.has aE).has fJ).load o! qd))<|HH c17<|HH (show ∃o,kV.get hh.nx=some o∧aM.same o (aM.cells [(AV.str []),(Zi 0),AV.aG] 37 false)=true from ⟨_,BW,by simp [aM.same,eD,AV.same]⟩)<|CC<|LL BX<|MM (aO 25 0 (AV.agg [j.aw,j.ao]) (fq.a _ _ (c9 _ _ o! (eB _ _ cO))) k!)<|CN 3<|MM (aO 38 3 (j.ab.g tqk.toNat).a_ (fq.a _ _ (c9 _ _ o! (eB _ _ dA))) k!)<|CC<|VV ahf<|CC<|MM Wf<|CN 2<|MM (aO 38 3 (j.ab.g tqk.toNat).a_ (fq.a _ _ (c9 _ _ o! (eB _ _ dA))) k!)<|CC<|VV ahg<|CC<|MM Md<|CC<|MM (aO 3 1 (Zi (j.af.g ((j.ab.g tqk.toNat).aA.g i1).ah.toNat).aJ) (fq.a _ _ ra) k!)<|EE k28<|CC<|VV (dw 3 false false .i64 (IntKind.i64.wrap ((jJ j au az ((j.ab.g tqk.toNat).aA.g i1).ah s)+(((j.ab.g tqk.toNat).aA.g i1).aJ))) (j.af.g ((j.ab.g tqk.toNat).aA.g i1).ah.toNat).aJ)<|HH (aO 25 0 (AV.agg [j.aw,j.ao]) (fq.a _ _ (c9 _ _ o! (eB _ _ cO))) k!)<|HH c29<|HH (aO 38 3 (j.ab.g tqk.toNat).a_ (fq.a _ _ (c9 _ _ o! (eB _ _ dA))) k!)<|HH R2<|HH Wf<|HH (show AV.same 20 (Zi ((j.ab.g tqk.toNat).aA.g i1).ah) (Zi ((j.ab.g tqk.toNat).aA.g i1).ah)=true from aS 19 _ _)<|HH (aO 38 3 (j.ab.g tqk.toNat).a_ (fq.a _ _ (c9 _ _ o! (eB _ _ dA))) k!)<|HH R2<|HH (aO 38 3 (j.ab.g tqk.toNat).a_ (fq.a _ _ (c9 _ _ o! (eB _ _ dA))) k!)<|HH R2<|HH Md<|HH (show AV.same 20 (Zi ((j.ab.g tqk.toNat).aA.g i1).aJ) (Zi ((j.ab.g tqk.toNat).aA.g i1).aJ)=true from aS 19 _ _)<|HH Md<|HH (show AV.same 20 (Zi ((j.ab.g tqk.toNat).aA.g i1).aJ) (Zi ((j.ab.g tqk.toNat).aA.g i1).aJ)=true from aS 19 _ _)<|HH (aO 3 1 (Zi (j.af.g ((j.ab.g tqk.toNat).aA.g i1).ah.toNat).aJ) (fq.a _ _ ra) k!)<|HH (show AV.same 20 (Zi (j.af.g ((j.ab.g tqk.toNat).aA.g i1).ah.toNat).aJ) (Zi (j.af.g ((j.ab.g tqk.toNat).aA.g i1).ah.toNat).aJ)=true from aS 19 _ _)<|HH (aO 3 1 (Zi (j.af.g ((j.ab.g tqk.toNat).aA.g i1).ah.toNat).aJ) (fq.a _ _ ra) k!)<|HH (show AV.same 20 (Zi (j.af.g ((j.ab.g tqk.toNat).aA.g i1).ah.toNat).aJ) (Zi (j.af.g ((j.ab.g tqk.toNat).aA.g i1).ah.toNat).aJ)=true from aS 19 _ _)<|BC f3<|LL Me<|CC<|VV u33<|CC<|ZZ) k!) (⟨Uh,Ui,by omega⟩) _ k! (fun x=>Ef aN bB s j tqk au az cU dt eM eR ny mN IZ adF uK mZ Iy pH qP qQ vG EK Hq o8 (i1+1) o! x h32 Uh (aE.trans Ui) (xB.a _ _ (fq.a _ _ (c9 _ _ o! (eB _ _ cO)))) (xB.a _ _ (fq.a _ _ (c9 _ _ o! (eB _ _ dA)))))
         | some ahc=>
           obtain ⟨am0,h32,Me,xB⟩:=aF.r E' aaf
           have Uh:=xB.y
           have akp:C3.nx≤h32.nx:=xB.n
           have Ui:Has hh h32:=nu.trans xB.a
           have Wg:Has C3 h32:=xB.a
           exact aF.ret ahc (by simp only[g9,f1,yp,f3,E',aj,ai]) (pk (d+2) _ _ hh _ h32 (Mb<|HH (show bh env kV 3 (AV.ptr p5 (q6+0))=some (Zi ((j.ab.g tqk.toNat).aA.g i1).ah) from (((uK.has aE).has fJ).part (t:=3) (j:=0) o! Ma k! rfl))<|HH (show AV.same 20 (Zi ((j.ab.g tqk.toNat).aA.g i1).ah) (Zi ((j.ab.g tqk.toNat).aA.g i1).ah)=true from aS 19 _ _)<|HH (show bh env kV 37 (AV.ptr p9 Ed)=some (AV.agg [(AV.str (j.af.g ((j.ab.g tqk.toNat).aA.g i1).ah.toNat).name),(Zi (j.af.g ((j.ab.g tqk.toNat).aA.g i1).ah.toNat).aJ),(j.af.g ((j.ab.g tqk.toNat).aA.g i1).ah.toNat).dW]) from (((mN.has aE).has fJ).load o! qd))<|HH c17<|HH (show ∃o,kV.get hh.nx=some o∧aM.same o (aM.cells [(AV.str []),(Zi 0),AV.aG] 37 false)=true from ⟨_,BW,by simp [aM.same,eD,AV.same]⟩)<|CC<|LL BX<|MM (aO 25 0 (AV.agg [j.aw,j.ao]) (fq.a _ _ (c9 _ _ o! (eB _ _ cO))) k!)<|CN 3<|MM (aO 38 3 (j.ab.g tqk.toNat).a_ (fq.a _ _ (c9 _ _ o! (eB _ _ dA))) k!)<|CC<|VV ahf<|CC<|MM Wf<|CN 2<|MM (aO 38 3 (j.ab.g tqk.toNat).a_ (fq.a _ _ (c9 _ _ o! (eB _ _ dA))) k!)<|CC<|VV ahg<|CC<|MM Md<|CC<|MM (aO 3 1 (Zi (j.af.g ((j.ab.g tqk.toNat).aA.g i1).ah.toNat).aJ) (fq.a _ _ ra) k!)<|EE k28<|CC<|VV (dw 3 false false .i64 (IntKind.i64.wrap ((jJ j au az ((j.ab.g tqk.toNat).aA.g i1).ah s)+(((j.ab.g tqk.toNat).aA.g i1).aJ))) (j.af.g ((j.ab.g tqk.toNat).aA.g i1).ah.toNat).aJ)<|HH (aO 25 0 (AV.agg [j.aw,j.ao]) (fq.a _ _ (c9 _ _ o! (eB _ _ cO))) k!)<|HH c29<|HH (aO 38 3 (j.ab.g tqk.toNat).a_ (fq.a _ _ (c9 _ _ o! (eB _ _ dA))) k!)<|HH R2<|HH Wf<|HH (show AV.same 20 (Zi ((j.ab.g tqk.toNat).aA.g i1).ah) (Zi ((j.ab.g tqk.toNat).aA.g i1).ah)=true from aS 19 _ _)<|HH (aO 38 3 (j.ab.g tqk.toNat).a_ (fq.a _ _ (c9 _ _ o! (eB _ _ dA))) k!)<|HH R2<|HH (aO 38 3 (j.ab.g tqk.toNat).a_ (fq.a _ _ (c9 _ _ o! (eB _ _ dA))) k!)<|HH R2<|HH Md<|HH (show AV.same 20 (Zi ((j.ab.g tqk.toNat).aA.g i1).aJ) (Zi ((j.ab.g tqk.toNat).aA.g i1).aJ)=true from aS 19 _ _)<|HH Md<|HH (show AV.same 20 (Zi ((j.ab.g tqk.toNat).aA.g i1).aJ) (Zi ((j.ab.g tqk.toNat).aA.g i1).aJ)=true from aS 19 _ _)<|HH (aO 3 1 (Zi (j.af.g ((j.ab.g tqk.toNat).aA.g i1).ah.toNat).aJ) (fq.a _ _ ra) k!)<|HH (show AV.same 20 (Zi (j.af.g ((j.ab.g tqk.toNat).aA.g i1).ah.toNat).aJ) (Zi (j.af.g ((j.ab.g tqk.toNat).aA.g i1).ah.toNat).aJ)=true from aS 19 _ _)<|HH (aO 3 1 (Zi (j.af.g ((j.ab.g tqk.toNat).aA.g i1).ah.toNat).aJ) (fq.a _ _ ra) k!)<|HH (show AV.same 20 (Zi (j.af.g ((j.ab.g tqk.toNat).aA.g i1).ah.toNat).aJ) (Zi (j.af.g ((j.ab.g tqk.toNat).aA.g i1).ah.toNat).aJ)=true from aS 19 _ _)<|BC f3<|LL Me<|ZZ) k!) (⟨Uh,Ui,by omega⟩) k!
     | some ahd=>
       obtain ⟨Mc,C3,BX,fq⟩:=aF.r yp Hv
       have sS:=fq.y
       have ae5:lR.nx≤C3.nx:=fq.n
       have nu:Has hh C3:=jl.trans fq.a
       exact aF.ret ahd (by simp only[g9,f1,yp,aj,ai]) (pk (d+2) _ _ hh _ C3 (Mb<|HH (show bh env kV 3 (AV.ptr p5 (q6+0))=some (Zi ((j.ab.g tqk.toNat).aA.g i1).ah) from (((uK.has aE).has fJ).part (t:=3) (j:=0) o! Ma k! rfl))<|HH (show AV.same 20 (Zi ((j.ab.g tqk.toNat).aA.g i1).ah) (Zi ((j.ab.g tqk.toNat).aA.g i1).ah)=true from aS 19 _ _)<|HH (show bh env kV 37 (AV.ptr p9 Ed)=some (AV.agg [(AV.str (j.af.g ((j.ab.g tqk.toNat).aA.g i1).ah.toNat).name),(Zi (j.af.g ((j.ab.g tqk.toNat).aA.g i1).ah.toNat).aJ),(j.af.g ((j.ab.g tqk.toNat).aA.g i1).ah.toNat).dW]) from (((mN.has aE).has fJ).load o! qd))<|HH c17<|HH (show ∃o,kV.get hh.nx=some o∧aM.same o (aM.cells [(AV.str []),(Zi 0),AV.aG] 37 false)=true from ⟨_,BW,by simp [aM.same,eD,AV.same]⟩)<|CC<|LL BX<|ZZ) k!) (⟨sS,nu,by omega⟩) k!
   · exact aF.out (by simp only[g9,f1,aj,ai]) (pk (d+2) _ _ hh _ hh (pf9<|BB f1<|ZZ) k!) (bE.refl aI) k!
def gF (j:cx) (au:List Int) (az:List Bool) (tqk:Int) (s:Int):Bool:=(bif (!(d_ s)) then false else (bif (decide (100000<(IntKind.i64.wrap (s+((j.ab.g tqk.toNat).takes))))) then false else (match (iD j tqk az s au (j.ab.g tqk.toNat).aB.length 0) with | none=>(match (g9 j tqk s au az (j.ab.g tqk.toNat).aA.length 0) with | none=>true | some ahh=>ahh) | some ahi=>ahi)))
theorem aag {d:Nat} {h:aC} {aN bB:AV} (j:cx) (au:List Int) (az:List Bool) (tqk:Int) (s:Int) (bV:aR.ok h j) (cL:b8 h .i64 3 aN au) (tc:oh h 4 bB az) (l6:az.length=j.ab.length) (om:au.length=j.ab.length) (yD:0≤tqk) (zR:tqk<(j.ab.length:Int)) (Ex:∀q,q<(j.ab.g tqk.toNat).aB.length→0≤(j.ab.g tqk.toNat).aB.g q∧(j.ab.g tqk.toNat).aB.g q<(j.ab.length:Int)) (Ri:∀q,q<(j.ab.g tqk.toNat).aA.length→0≤((j.ab.g tqk.toNat).aA.g q).ah∧((j.ab.g tqk.toNat).aA.g q).ah<(j.af.length:Int)) (ch:Tidy h):cN (d+3) (.fn 58) [(AV.agg [j.aw,j.ao]),aN,bB,(Zi tqk),(Zi s)] h= .ret (AV.bool (gF j au az tqk s)) h:=by
 obtain ⟨h1,di,cS,jU,bm,bP⟩:=jE ch (aM.cells [j.aw,j.ao] 25 false)
 have bA:Has h h1:=bP
 obtain ⟨p3,q4,cC⟩:=bV.1.elem (i:=tqk.toNat) o!
 have iW:bO env (some (.slice 40)) (some j.aw) (some (Zi tqk))=some (AV.ptr p3 q4):=by rw[show (tqk:Int)=((tqk.toNat:Nat):Int) by omega];exact cC
 have jY:bh env h1 40 (AV.ptr p3 q4)=some (AV.agg [(AV.str (j.ab.g tqk.toNat).name),(Zi (j.ab.g tqk.toNat).takes),(j.ab.g tqk.toNat).aU,(j.ab.g tqk.toNat).a_]):=(bV.1.has bA).load o! cC
 obtain ⟨h6,mK,ji,zU,mL,bU⟩:=jE cS (aM.cells [(AV.str []),(Zi 0),AV.aG,AV.aG] 40 false)
 have hZ:Has h h6:=bA.trans bU
 have Lx:AV.scalar (j.ab.g tqk.toNat).aU=true:=((bV.1.ok (i:=tqk.toNat) o!).2.1).scalar
 have Rl:AV.scalar (j.ab.g tqk.toNat).a_=true:=((bV.1.ok (i:=tqk.toNat) o!).2.2).scalar
 obtain ⟨h7,l7,eP,vH,fH,bp⟩:=n5 (t:=40) (n:=4) (i:=h1.nx) (L:=[(AV.str (j.ab.g tqk.toNat).name),(Zi (j.ab.g tqk.toNat).takes),(j.ab.g tqk.toNat).aU,(j.ab.g tqk.toNat).a_]) ji mL k! rfl rfl (by simp only[AV.cells,List.all_cons,List.all_nil,Bool.and_true,Bool.and_self,gr,eO,gu,gv,dG,jK,jL,jM,jN,jO,gz,Lx,Rl])
 have dm:Has h h7:=Has.dg hZ bp ch o!
 have YU:=ym (d:=d+1) s eP
 have akq:=fun {al ps} (k:Pk al _ ps)=>(NN di (fun i=>(Pt i))<|CN 2<|MM (aO 22 0 j.aw bm k!)<|CC<|VV iW<|MM jY<|NN mK (fun i=>(Pt i))<|SS l7<|CN 2<|MM (aO 3 1 (Zi (j.ab.g tqk.toNat).takes) fH k!)<|CN 3<|EE YU<|CN 2<|k:Pk _ [] ps)
 rcases Bool.eq_false_or_eq_true (!(d_ s)) with f0 | f0
 · have e:gF j au az tqk s=false:=by simp only[gF,f0,aj,ai]
   rw[e]
   exact aH rfl (bb Tryz.func58 xu rfl (.inr rfl) (pk (d+2) _ _ h _ h7 (akq<|BB f0<|BV f0 (yA true f0)<|TT<|CC<|ZZ) k!) k!) dm rfl
 · have adG:=fun {al ps} (k:Pk al _ ps)=>(akq<|BC f0<|BV f0 (dw 3 false true .i64 (IntKind.i64.wrap (s+((j.ab.g tqk.toNat).takes))) 100000)<|k:Pk _ [] ps)
   rcases Bool.eq_false_or_eq_true (decide (100000<(IntKind.i64.wrap (s+((j.ab.g tqk.toNat).takes))))) with f1 | f1
   · have e:gF j au az tqk s=false:=by simp only[gF,f0,f1,aj,ai]
     rw[e]
     exact aH rfl (bb Tryz.func58 xu rfl (.inr rfl) (pk (d+2) _ _ h _ h7 (adG<|VV (cf (a:=some (AV.bool true)) (b:=some (AV.bool (decide (100000<(IntKind.i64.wrap (s+((j.ab.g tqk.toNat).takes))))))) f0)<|BC f1<|ZZ) k!) k!) dm rfl
   · have akr:=xw (d:=d) (h:=h) aN bB s j tqk au az h.nx h1.nx cL tc bV.1 bV.2 (bV.1.ok (i:=tqk.toNat) o!).1 (bV.1.ok (i:=tqk.toNat) o!).2.1 (bV.1.ok (i:=tqk.toNat) o!).2.2 bV (bV.1.ok (i:=tqk.toNat) o!) o! o! o! o! o! o! (j.ab.g tqk.toNat).aB.length 0 o! (fun k_=>(((AV.agg [j.aw,j.ao])::aN::bB::(Zi tqk)::(Zi s)::(Pt h.nx)::AV.undef::AV.undef::AV.undef::AV.undef::(AV.bool false)::(Pt h1.nx)::(Zi (IntKind.i64.wrap (s+((j.ab.g tqk.toNat).takes))))::(Zi 0)::AV.undef::AV.undef::AV.undef::AV.undef::AV.undef::(Pt h.nx)::j.aw::(Zi tqk)::(AV.ptr p3 q4)::(AV.agg [(AV.str (j.ab.g tqk.toNat).name),(Zi (j.ab.g tqk.toNat).takes),(j.ab.g tqk.toNat).aU,(j.ab.g tqk.toNat).a_])::(Zi s)::(AV.ptr h1.nx 1)::(Zi (j.ab.g tqk.toNat).takes)::(Zi (IntKind.i64.wrap (s+((j.ab.g tqk.toNat).takes))))::(Zi s)::(AV.bool (d_ s))::(AV.bool (!(d_ s)))::(AV.bool (!(d_ s)))::(Zi (IntKind.i64.wrap (s+((j.ab.g tqk.toNat).takes))))::(AV.bool (decide (100000<(IntKind.i64.wrap (s+((j.ab.g tqk.toNat).takes))))))::(AV.bool (decide (100000<(IntKind.i64.wrap (s+((j.ab.g tqk.toNat).takes))))))::jX 152):List AV).getD k_ AV.undef) h7 eP dm (bp _ _ o! (bU _ _ bm)) fH
     cases BY:iD j tqk az s au (j.ab.g tqk.toNat).aB.length 0 with
     | none=>
       obtain ⟨R3,On,Ff,Hw⟩:=aF.n BY akr
       have yX:=Hw.y
       have sR:Has h On:=dm.trans Hw.a
       have aks:=Ef (d:=d) (h:=h) aN bB s j tqk au az h.nx h1.nx cL tc bV.1 bV.2 (bV.1.ok (i:=tqk.toNat) o!).1 (bV.1.ok (i:=tqk.toNat) o!).2.1 (bV.1.ok (i:=tqk.toNat) o!).2.2 bV (bV.1.ok (i:=tqk.toNat) o!) o! o! o! o! o! o! (j.ab.g tqk.toNat).aA.length 0 o! (fun k_=>(((R3 0)::aN::bB::(R3 3)::(Zi s)::(Pt h.nx)::rx R3 6 5 ((Pt h1.nx)::(Zi (IntKind.i64.wrap (s+((j.ab.g tqk.toNat).takes))))::(R3 13)::(R3 14)::(Zi 0)::rx R3 16 171 [])):List AV).getD k_ AV.undef) On yX sR (Hw.a _ _ (bp _ _ o! (bU _ _ bm))) (Hw.a _ _ fH)
       cases Fl:g9 j tqk s au az (j.ab.g tqk.toNat).aA.length 0 with
       | none=>
         obtain ⟨ajW,h16,Bw,aah⟩:=aF.n Fl aks
         have OL:Has h h16:=sR.trans aah.a
         have e:gF j au az tqk s=true:=by simp only[gF,f0,f1,BY,Fl,aj,ai]
         rw[e]
         exact aH rfl (bb Tryz.func58 xu rfl (.inr rfl) (pk (d+2) _ _ h _ h16 (adG<|VV (cf (a:=some (AV.bool true)) (b:=some (AV.bool (decide (100000<(IntKind.i64.wrap (s+((j.ab.g tqk.toNat).takes))))))) f0)<|BC f1<|LL Ff<|CC<|LL Bw<|CC<|ZZ) k!) k!) OL rfl
       | some ahh=>
         obtain ⟨ajW,h16,Bw,aah⟩:=aF.r Fl aks
         have OL:Has h h16:=sR.trans aah.a
         have e:gF j au az tqk s=ahh:=by simp only[gF,f0,f1,BY,Fl,aj,ai]
         rw[e]
         exact aH rfl (bb Tryz.func58 xu rfl (.inr rfl) (pk (d+2) _ _ h _ h16 (adG<|VV (cf (a:=some (AV.bool true)) (b:=some (AV.bool (decide (100000<(IntKind.i64.wrap (s+((j.ab.g tqk.toNat).takes))))))) f0)<|BC f1<|LL Ff<|CC<|LL Bw<|ZZ) k!) k!) OL rfl
     | some ahi=>
       obtain ⟨R3,On,Ff,Hw⟩:=aF.r BY akr
       have yX:=Hw.y
       have sR:Has h On:=dm.trans Hw.a
       have e:gF j au az tqk s=ahi:=by simp only[gF,f0,f1,BY,aj,ai]
       rw[e]
       exact aH rfl (bb Tryz.func58 xu rfl (.inr rfl) (pk (d+2) _ _ h _ On (adG<|VV (cf (a:=some (AV.bool true)) (b:=some (AV.bool (decide (100000<(IntKind.i64.wrap (s+((j.ab.g tqk.toNat).takes))))))) f0)<|BC f1<|LL Ff<|ZZ) k!) k!) sR rfl
end
end Go.Proofs.aQ
