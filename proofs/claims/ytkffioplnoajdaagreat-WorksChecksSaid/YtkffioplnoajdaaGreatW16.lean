import Derived.Test.YtkffioplnoajdaaGreatW0
import Derived.Test.YtkffioplnoajdaaGreatW1
import Derived.Test.YtkffioplnoajdaaGreatW15
import Derived.Test.YtkffioplnoajdaaGreatW10
import Derived.Test.YtkffioplnoajdaaGreatW7
import Derived.Test.YtkffioplnoajdaaGreatW6
import Derived.Test.YtkffioplnoajdaaGreatW12
namespace Go.Proofs.aP
open Go.Proofs Ab
set_option maxRecDepth 100000
set_option maxHeartbeats 4000000
set_option linter.unusedVariables false
set_option linter.unusedSimpArgs false
noncomputable def po:Code:=(Tryz.f4.body).getD .skip
theorem Hs:Tryz.f4.body=some po:=by kernel_rfl
noncomputable def Mc:Code:=(bE po).getD 0 .skip
noncomputable def Md:Code:=(bE po).getD 1 .skip
noncomputable def gN:Code:=(ko po).getD 1 .skip
def kG (j:cz):Nat→Nat→Int→Int
 | 0,_,cW=>cW
 | dz+1,i0,cW=>kG j dz (i0+1) (IntKind.i64.wrap ((IntKind.i64.wrap (cW+((((j.af.g i0).off).length:Nat):Int)))+(IntKind.i64.wrap (Int.tdiv ((List.length ((j.af.g i0).name):Nat):Int) 20))))
theorem z6 {d:Nat} {h:au} (j:cz) (br:Nat) (bn:aS h j.aj j.ab) (b8:aS h j.ag j.af) (gU:aL.ok h j):∀(k_ i_:Nat) (cW:Int) (_:i_+k_=j.af.length) (x:Nat→AV) (hh:au) (aE:Tidy hh) (aB:Has h hh) (bj:hh.get br=some (aM.cells [j.aj,j.ag] 25 false)),cN (cR (d)) Mc ⟨((x 0)::(x 1)::(Pt br)::(x 3)::(x 4)::(Zi cW)::(Zn i_)::rx x 7 100 []),hh,[],.no⟩ (.exit 0) hh (fun r y=>((y 0)::(y 1)::(Pt br)::(y 3)::(y 4)::(Zi r)::rx y 6 101 [])) (fun r=>True) (kG j k_ i_ cW)
 | 0,i0,cW,fX,x,hh,aE,aB,bj=>by
   have cm:=bn.small
   have eJ:=b8.small
   have je:=aE _ _ bj
   have dG:b6 (some (.slice 41)) (some j.ag)=some (Zn j.af.length):=(b8.has aB).len
   have q2:(decide (((i0:Nat):Int)<((j.af.length:Nat):Int)))=false:=d!
   exact cN.out cW rfl (pk (d) _ _ hh _ hh (CN 2<|MM (aw 23 1 j.ag bj k!)<|VV dG<|VV (ba 3 false false .i64 ((i0:Nat):Int) ((j.af.length:Nat):Int))<|BB q2<|ZZ) k!) (bF.refl aE) trivial k!
 | dz+1,i0,cW,fX,x,hh,aE,aB,bj=>by
   have cm:=bn.small
   have eJ:=b8.small
   have je:=aE _ _ bj
   have dG:b6 (some (.slice 41)) (some j.ag)=some (Zn j.af.length):=(b8.has aB).len
   have q2:(decide (((i0:Nat):Int)<((j.af.length:Nat):Int)))=true:=d!
   obtain ⟨p4,q5,iW⟩:=(b8.has aB).elem (i:=i0) o!
   have iG:bS env (some (.slice 41)) (some j.ag) (some (Zn i0))=some (AV.ptr p4 q5):=iW
   have iV:bh env hh 39 (AV.ptr p4 (q5+2))=some ((j.af.g i0).cB):=(b8.has aB).part (t:=39) (j:=2) o! iW k! rfl
   have ln7:b6 (some (.slice 74)) (some ((j.af.g i0).cB))=some (Zn (((j.af.g i0).off).length)):=(((b8.has aB).ok (i:=i0) o!).2).len
   obtain ⟨p9,Ag,pg⟩:=(b8.has aB).elem (i:=i0) o!
   have Ad:bS env (some (.slice 41)) (some j.ag) (some (Zn i0))=some (AV.ptr p9 Ag):=pg
   have kF:bh env hh 9 (AV.ptr p9 (Ag+0))=some (AV.str ((j.af.g i0).name)):=(b8.has aB).part (t:=9) (j:=0) o! pg k! rfl
   have ai9:((j.af.g i0).name).length<2^60:=((b8.has aB).ok (i:=i0) o!).1
   have JH:AV.same 20 j.ag j.ag=true:=(b8.has aB).same 19
   have JI:AV.same 20 ((j.af.g i0).cB) ((j.af.g i0).cB)=true:=(((b8.has aB).ok (i:=i0) o!).2).same 19
   have u15:=fe 3 false true i0 1 o!
   exact cN.round (by simp only[kG,cond_true,cond_false]) (pk (d) _ _ hh _ hh (CN 2<|MM (aw 23 1 j.ag bj k!)<|VV dG<|VV (ba 3 false false .i64 ((i0:Nat):Int) ((j.af.length:Nat):Int))<|BB q2<|CN 2<|MM (aw 23 1 j.ag bj k!)<|CC<|VV iG<|CC<|MM iV<|VV ln7<|CN 2<|MM (aw 23 1 j.ag bj k!)<|CC<|VV Ad<|CC<|MM kF<|CN 4<|HH (aw 23 1 j.ag bj k!)<|HH JH<|HH iV<|HH JI<|HH (aw 23 1 j.ag bj k!)<|HH JH<|HH kF<|HH (show AV.same 20 (AV.str ((j.af.g i0).name)) (AV.str ((j.af.g i0).name))=true from hX 19 _)<|CC<|VV u15<|CC<|ZZ) k!) (bF.refl aE) _ k! (fun x=>z6 j br bn b8 gU dz (i0+1) (IntKind.i64.wrap ((IntKind.i64.wrap (cW+((((j.af.g i0).off).length:Nat):Int)))+(IntKind.i64.wrap (Int.tdiv ((List.length ((j.af.g i0).name):Nat):Int) 20)))) o! x hh aE aB bj)
def me (j:cz):Nat→Nat→Int→Int
 | 0,_,fU=>fU
 | qN+1,i1,fU=>(bif (decide (fU<1000)) then me j qN (i1+1) (IntKind.i64.wrap ((IntKind.i64.wrap ((IntKind.i64.wrap (fU+((((j.ab.g i1).az).length:Nat):Int)))+((((j.ab.g i1).ar).length:Nat):Int)))+(IntKind.i64.wrap (Int.tdiv ((List.length ((j.ab.g i1).name):Nat):Int) 20)))) else fU)
theorem z8 {d:Nat} {h:au} (j:cz) (cE:Nat) (dM:aS h j.aj j.ab) (dm:aS h j.ag j.af) (l9:aL.ok h j):∀(k_ i_:Nat) (fU:Int) (_:i_+k_=j.ab.length) (x:Nat→AV) (hh:au) (aE:Tidy hh) (aB:Has h hh) (bZ:hh.get cE=some (aM.cells [j.aj,j.ag] 25 false)),cN (cR (d)) Md ⟨((x 0)::(x 1)::(Pt cE)::(x 3)::(x 4)::(Zi fU)::(x 6)::(Zn i_)::rx x 8 99 []),hh,[],.no⟩ (.exit 2) hh (fun r y=>((y 0)::(y 1)::(Pt cE)::(y 3)::(y 4)::(Zi r)::rx y 6 101 [])) (fun r=>True) (me j k_ i_ fU)
 | 0,i1,fU,fX,x,hh,aE,aB,bZ=>by
   have jy:=dM.small
   have jz:=dm.small
   have ss:=aE _ _ bZ
   have dG:b6 (some (.slice 44)) (some j.aj)=some (Zn j.ab.length):=(dM.has aB).len
   have q2:(decide (((i1:Nat):Int)<((j.ab.length:Nat):Int)))=false:=d!
   exact cN.out fU rfl (pk (d) _ _ hh _ hh (CN 2<|MM (aw 22 0 j.aj bZ k!)<|VV dG<|VV (ba 3 false false .i64 ((i1:Nat):Int) ((j.ab.length:Nat):Int))<|CC<|BB q2<|BV q2 (tS false q2)<|FF<|ZZ) k!) (bF.refl aE) trivial k!
 | qN+1,i1,fU,fX,x,hh,aE,aB,bZ=>by
   have jy:=dM.small
   have jz:=dm.small
   have ss:=aE _ _ bZ
   have dG:b6 (some (.slice 44)) (some j.aj)=some (Zn j.ab.length):=(dM.has aB).len
   have q2:(decide (((i1:Nat):Int)<((j.ab.length:Nat):Int)))=true:=d!
   rcases Bool.eq_false_or_eq_true (decide (fU<1000)) with f1 | f1
   · have dC:=of_decide_eq_true f1
     obtain ⟨p5,q6,I8⟩:=(dM.has aB).elem (i:=i1) o!
     have Nf:bS env (some (.slice 44)) (some j.aj) (some (Zn i1))=some (AV.ptr p5 q6):=I8
     have Mn:bh env hh 26 (AV.ptr p5 (q6+2))=some ((j.ab.g i1).aO):=(dM.has aB).part (t:=26) (j:=2) o! I8 k! rfl
     have W1:b6 (some (.slice 3)) (some ((j.ab.g i1).aO))=some (Zn (((j.ab.g i1).az).length)):=(((dM.has aB).ok (i:=i1) o!).2.1).len
     obtain ⟨p10,q11,af6⟩:=(dM.has aB).elem (i:=i1) o!
     have ix9:bS env (some (.slice 44)) (some j.aj) (some (Zn i1))=some (AV.ptr p10 q11):=af6
     have FM:bh env hh 42 (AV.ptr p10 (q11+3))=some ((j.ab.g i1).aU):=(dM.has aB).part (t:=42) (j:=3) o! af6 k! rfl
     have ab5:b6 (some (.slice 88)) (some ((j.ab.g i1).aU))=some (Zn (((j.ab.g i1).ar).length)):=(((dM.has aB).ok (i:=i1) o!).2.2).len
     obtain ⟨p15,q16,aaU⟩:=(dM.has aB).elem (i:=i1) o!
     have aip:bS env (some (.slice 44)) (some j.aj) (some (Zn i1))=some (AV.ptr p15 q16):=aaU
     have K6:bh env hh 9 (AV.ptr p15 (q16+0))=some (AV.str ((j.ab.g i1).name)):=(dM.has aB).part (t:=9) (j:=0) o! aaU k! rfl
     have aja:((j.ab.g i1).name).length<2^60:=((dM.has aB).ok (i:=i1) o!).1
     have c19:AV.same 20 j.aj j.aj=true:=(dM.has aB).same 19
     have Sx:AV.same 20 ((j.ab.g i1).aO) ((j.ab.g i1).aO)=true:=(((dM.has aB).ok (i:=i1) o!).2.1).same 19
     have c21:AV.same 20 ((j.ab.g i1).aU) ((j.ab.g i1).aU)=true:=(((dM.has aB).ok (i:=i1) o!).2.2).same 19
     have u22:=fe 3 false true i1 1 o!
     exact cN.round (by simp only[me,f1,cond_true,cond_false]) (pk (d) _ _ hh _ hh (CN 2<|MM (aw 22 0 j.aj bZ k!)<|VV dG<|VV (ba 3 false false .i64 ((i1:Nat):Int) ((j.ab.length:Nat):Int))<|CC<|BC q2<|BV q2 (ba 3 false true .i64 fU 1000)<|VV (kI (decide (fU<1000)) false q2)<|BB f1<|CN 2<|MM (aw 22 0 j.aj bZ k!)<|CC<|VV Nf<|CC<|MM Mn<|VV W1<|CN 2<|MM (aw 22 0 j.aj bZ k!)<|CC<|VV ix9<|CC<|MM FM<|VV ab5<|CN 2<|MM (aw 22 0 j.aj bZ k!)<|CC<|VV aip<|CC<|MM K6<|CN 4<|HH (aw 22 0 j.aj bZ k!)<|HH c19<|HH Mn<|HH Sx<|HH (aw 22 0 j.aj bZ k!)<|HH c19<|HH FM<|HH c21<|HH (aw 22 0 j.aj bZ k!)<|HH c19<|HH K6<|HH (show AV.same 20 (AV.str ((j.ab.g i1).name)) (AV.str ((j.ab.g i1).name))=true from hX 19 _)<|CC<|VV u22<|CC<|ZZ) k!) (bF.refl aE) _ k! (fun x=>z8 j cE dM dm l9 qN (i1+1) (IntKind.i64.wrap ((IntKind.i64.wrap ((IntKind.i64.wrap (fU+((((j.ab.g i1).az).length:Nat):Int)))+((((j.ab.g i1).ar).length:Nat):Int)))+(IntKind.i64.wrap (Int.tdiv ((List.length ((j.ab.g i1).name):Nat):Int) 20)))) o! x hh aE aB bZ)
   · have dC:=of_decide_eq_false f1
     exact cN.out fU (by simp only[me,f1,cond_true,cond_false]) (pk (d) _ _ hh _ hh (CN 2<|MM (aw 22 0 j.aj bZ k!)<|VV dG<|VV (ba 3 false false .i64 ((i1:Nat):Int) ((j.ab.length:Nat):Int))<|CC<|BC q2<|BV q2 (ba 3 false true .i64 fU 1000)<|VV (kI (decide (fU<1000)) false q2)<|BB f1<|ZZ) k!) (bF.refl aE) trivial k!
def fO (j:cz) (ab:Int):Bool:=(bif (bif (decide (ab<((j.ab.length:Nat):Int))) then (bif (decide (((j.ab.length:Nat):Int)≤64)) then true else (bif (decide (80<((j.ab.length:Nat):Int))) then true else (bif (decide (4<((j.af.length:Nat):Int))) then (bif (decide (((j.af.length:Nat):Int)≤16)) then true else (decide (20<((j.af.length:Nat):Int)))) else (decide (20<((j.af.length:Nat):Int)))))) else (bif (decide (80<((j.ab.length:Nat):Int))) then true else (bif (decide (4<((j.af.length:Nat):Int))) then (bif (decide (((j.af.length:Nat):Int)≤16)) then true else (decide (20<((j.af.length:Nat):Int)))) else (decide (20<((j.af.length:Nat):Int)))))) then true else (decide (120<(me j j.ab.length 0 (kG j j.af.length 0 0)))))
theorem R_ {d:Nat} {h:au} (j:cz) (ab:Int) (bH:aL.ok h j) (bW:Tidy h):cR (d+1) (.fn 4) [(AV.agg [j.aj,j.ag]),(Zi ab)] h= .ret (AV.bool (fO j ab)) h:=by
 have dP:=bH.1.small
 have dQ:=bH.2.small
 obtain ⟨h1,bM,cx,jc,aQ,cA⟩:=j_ bW (aM.cells [j.aj,j.ag] 25 false)
 have bt:Has h h1:=cA
 obtain ⟨Af,oP⟩:∃Af:Nat→AV,Ev env (cR (d)) gN ⟨((AV.agg [j.aj,j.ag])::(Zi ab)::(Pt h.nx)::AV.undef::(AV.bool false)::g4 102),h1,[],.no⟩ .normal ⟨((AV.agg [j.aj,j.ag])::(Zi ab)::(Pt h.nx)::AV.undef::(AV.bool false)::AV.undef::AV.undef::AV.undef::rx Af 8 34 ((AV.bool (bif (decide (ab<((j.ab.length:Nat):Int))) then (bif (decide (((j.ab.length:Nat):Int)≤64)) then true else (bif (decide (80<((j.ab.length:Nat):Int))) then true else (bif (decide (4<((j.af.length:Nat):Int))) then (bif (decide (((j.af.length:Nat):Int)≤16)) then true else (decide (20<((j.af.length:Nat):Int)))) else (decide (20<((j.af.length:Nat):Int)))))) else (bif (decide (80<((j.ab.length:Nat):Int))) then true else (bif (decide (4<((j.af.length:Nat):Int))) then (bif (decide (((j.af.length:Nat):Int)≤16)) then true else (decide (20<((j.af.length:Nat):Int)))) else (decide (20<((j.af.length:Nat):Int)))))))::g4 64)),h1,[],.no⟩:=by
  have re:b6 (some (.slice 44)) (some j.aj)=some (Zn j.ab.length):=bH.1.len
  rcases Bool.eq_false_or_eq_true (decide (ab<((j.ab.length:Nat):Int))) with f0 | f0
  · have dO:=of_decide_eq_true f0
    have CP:b6 (some (.slice 44)) (some j.aj)=some (Zn j.ab.length):=bH.1.len
    rcases Bool.eq_false_or_eq_true (decide (((j.ab.length:Nat):Int)≤64)) with f1 | f1
    · have dC:=of_decide_eq_true f1
      have ev:=pk (d) gN ((AV.agg [j.aj,j.ag])::(Zi ab)::(Pt h.nx)::AV.undef::(AV.bool false)::g4 102) h1 .normal h1 (CC<|MM (aw 22 0 j.aj aQ k!)<|VV re<|CC<|VV (bR 3 false false .i64 ((j.ab.length:Nat):Int) ab)<|CC<|BC f0<|BM f0 (aw 22 0 j.aj aQ k!)<|BV f0 CP<|BV f0 (pS 3 false true .i64 ((j.ab.length:Nat):Int) 64)<|VV (kI (decide (((j.ab.length:Nat):Int)≤64)) false f0)<|CC<|BB f1<|BB f1<|BB f1<|BV f1 (uN true f1)<|CC<|TT<|TT<|TT<|TT<|TT<|TT<|CN 2<|TT<|TT<|TT<|TT<|CC<|ZZ) k!
      rw[show (bif (decide (ab<((j.ab.length:Nat):Int))) then (bif (decide (((j.ab.length:Nat):Int)≤64)) then true else (bif (decide (80<((j.ab.length:Nat):Int))) then true else (bif (decide (4<((j.af.length:Nat):Int))) then (bif (decide (((j.af.length:Nat):Int)≤16)) then true else (decide (20<((j.af.length:Nat):Int)))) else (decide (20<((j.af.length:Nat):Int)))))) else (bif (decide (80<((j.ab.length:Nat):Int))) then true else (bif (decide (4<((j.af.length:Nat):Int))) then (bif (decide (((j.af.length:Nat):Int)≤16)) then true else (decide (20<((j.af.length:Nat):Int)))) else (decide (20<((j.af.length:Nat):Int))))))=true by simp only[f0,f1,cond_true,cond_false]]
      exact kO ev k!
    · have dC:=of_decide_eq_false f1
      have JG:b6 (some (.slice 44)) (some j.aj)=some (Zn j.ab.length):=bH.1.len
      rcases Bool.eq_false_or_eq_true (decide (80<((j.ab.length:Nat):Int))) with f2 | f2
      · have jw:=of_decide_eq_true f2
        have ev:=pk (d) gN ((AV.agg [j.aj,j.ag])::(Zi ab)::(Pt h.nx)::AV.undef::(AV.bool false)::g4 102) h1 .normal h1 (CC<|MM (aw 22 0 j.aj aQ k!)<|VV re<|CC<|VV (bR 3 false false .i64 ((j.ab.length:Nat):Int) ab)<|CC<|BC f0<|BM f0 (aw 22 0 j.aj aQ k!)<|BV f0 CP<|BV f0 (pS 3 false true .i64 ((j.ab.length:Nat):Int) 64)<|VV (kI (decide (((j.ab.length:Nat):Int)≤64)) false f0)<|CC<|BC f1<|BM f1 (aw 22 0 j.aj aQ k!)<|BV f1 JG<|BV f1 (bR 3 false true .i64 ((j.ab.length:Nat):Int) 80)<|VV (bA (a:=some (AV.bool true)) (b:=some (AV.bool (decide (80<((j.ab.length:Nat):Int))))) f1)<|CC<|BB f2<|BB f2<|BB f2<|BB f2<|BB f2<|BV f2 (uN true f2)<|CC<|TT<|TT<|TT<|TT<|CC<|ZZ) k!
        rw[show (bif (decide (ab<((j.ab.length:Nat):Int))) then (bif (decide (((j.ab.length:Nat):Int)≤64)) then true else (bif (decide (80<((j.ab.length:Nat):Int))) then true else (bif (decide (4<((j.af.length:Nat):Int))) then (bif (decide (((j.af.length:Nat):Int)≤16)) then true else (decide (20<((j.af.length:Nat):Int)))) else (decide (20<((j.af.length:Nat):Int)))))) else (bif (decide (80<((j.ab.length:Nat):Int))) then true else (bif (decide (4<((j.af.length:Nat):Int))) then (bif (decide (((j.af.length:Nat):Int)≤16)) then true else (decide (20<((j.af.length:Nat):Int)))) else (decide (20<((j.af.length:Nat):Int))))))=true by simp only[f0,f1,f2,cond_true,cond_false]]
        exact kO ev k!
      · have jw:=of_decide_eq_false f2
        have W1:b6 (some (.slice 41)) (some j.ag)=some (Zn j.af.length):=bH.2.len
        rcases Bool.eq_false_or_eq_true (decide (4<((j.af.length:Nat):Int))) with f3 | f3
        · have mX:=of_decide_eq_true f3
          have oS:b6 (some (.slice 41)) (some j.ag)=some (Zn j.af.length):=bH.2.len
          rcases Bool.eq_false_or_eq_true (decide (((j.af.length:Nat):Int)≤16)) with f4 | f4
          · have sy:=of_decide_eq_true f4
            have ev:=pk (d) gN ((AV.agg [j.aj,j.ag])::(Zi ab)::(Pt h.nx)::AV.undef::(AV.bool false)::g4 102) h1 .normal h1 (CC<|MM (aw 22 0 j.aj aQ k!)<|VV re<|CC<|VV (bR 3 false false .i64 ((j.ab.length:Nat):Int) ab)<|CC<|BC f0<|BM f0 (aw 22 0 j.aj aQ k!)<|BV f0 CP<|BV f0 (pS 3 false true .i64 ((j.ab.length:Nat):Int) 64)<|VV (kI (decide (((j.ab.length:Nat):Int)≤64)) false f0)<|CC<|BC f1<|BM f1 (aw 22 0 j.aj aQ k!)<|BV f1 JG<|BV f1 (bR 3 false true .i64 ((j.ab.length:Nat):Int) 80)<|VV (bA (a:=some (AV.bool true)) (b:=some (AV.bool (decide (80<((j.ab.length:Nat):Int))))) f1)<|CC<|BC f2<|BM f2 (aw 23 1 j.ag aQ k!)<|BV f2 W1<|BV f2 (bR 3 false true .i64 ((j.af.length:Nat):Int) 4)<|BC f2<|BC f3<|BM f3 (aw 23 1 j.ag aQ k!)<|BV f3 oS<|BV f3 (pS 3 false true .i64 ((j.af.length:Nat):Int) 16)<|BV f2 (kI (decide (((j.af.length:Nat):Int)≤16)) false f3)<|VV (bA (a:=some (AV.bool true)) (b:=some (AV.bool (decide (((j.af.length:Nat):Int)≤16)))) f2)<|CC<|BB f4<|BB f4<|BB f4<|BV f4 (uN true f4)<|ZZ) k!
            rw[show (bif (decide (ab<((j.ab.length:Nat):Int))) then (bif (decide (((j.ab.length:Nat):Int)≤64)) then true else (bif (decide (80<((j.ab.length:Nat):Int))) then true else (bif (decide (4<((j.af.length:Nat):Int))) then (bif (decide (((j.af.length:Nat):Int)≤16)) then true else (decide (20<((j.af.length:Nat):Int)))) else (decide (20<((j.af.length:Nat):Int)))))) else (bif (decide (80<((j.ab.length:Nat):Int))) then true else (bif (decide (4<((j.af.length:Nat):Int))) then (bif (decide (((j.af.length:Nat):Int)≤16)) then true else (decide (20<((j.af.length:Nat):Int)))) else (decide (20<((j.af.length:Nat):Int))))))=true by simp only[f0,f1,f2,f3,f4,cond_true,cond_false]]
            exact kO ev k!
          · have sy:=of_decide_eq_false f4
            have NF:b6 (some (.slice 41)) (some j.ag)=some (Zn j.af.length):=bH.2.len
            have ev:=pk (d) gN ((AV.agg [j.aj,j.ag])::(Zi ab)::(Pt h.nx)::AV.undef::(AV.bool false)::g4 102) h1 .normal h1 (CC<|MM (aw 22 0 j.aj aQ k!)<|VV re<|CC<|VV (bR 3 false false .i64 ((j.ab.length:Nat):Int) ab)<|CC<|BC f0<|BM f0 (aw 22 0 j.aj aQ k!)<|BV f0 CP<|BV f0 (pS 3 false true .i64 ((j.ab.length:Nat):Int) 64)<|VV (kI (decide (((j.ab.length:Nat):Int)≤64)) false f0)<|CC<|BC f1<|BM f1 (aw 22 0 j.aj aQ k!)<|BV f1 JG<|BV f1 (bR 3 false true .i64 ((j.ab.length:Nat):Int) 80)<|VV (bA (a:=some (AV.bool true)) (b:=some (AV.bool (decide (80<((j.ab.length:Nat):Int))))) f1)<|CC<|BC f2<|BM f2 (aw 23 1 j.ag aQ k!)<|BV f2 W1<|BV f2 (bR 3 false true .i64 ((j.af.length:Nat):Int) 4)<|BC f2<|BC f3<|BM f3 (aw 23 1 j.ag aQ k!)<|BV f3 oS<|BV f3 (pS 3 false true .i64 ((j.af.length:Nat):Int) 16)<|BV f2 (kI (decide (((j.af.length:Nat):Int)≤16)) false f3)<|VV (bA (a:=some (AV.bool true)) (b:=some (AV.bool (decide (((j.af.length:Nat):Int)≤16)))) f2)<|CC<|BC f4<|BM f4 (aw 23 1 j.ag aQ k!)<|BV f4 NF<|BV f4 (bR 3 false true .i64 ((j.af.length:Nat):Int) 20)<|VV (bA (a:=some (AV.bool true)) (b:=some (AV.bool (decide (20<((j.af.length:Nat):Int))))) f4)<|ZZ) k!
            rw[show (bif (decide (ab<((j.ab.length:Nat):Int))) then (bif (decide (((j.ab.length:Nat):Int)≤64)) then true else (bif (decide (80<((j.ab.length:Nat):Int))) then true else (bif (decide (4<((j.af.length:Nat):Int))) then (bif (decide (((j.af.length:Nat):Int)≤16)) then true else (decide (20<((j.af.length:Nat):Int)))) else (decide (20<((j.af.length:Nat):Int)))))) else (bif (decide (80<((j.ab.length:Nat):Int))) then true else (bif (decide (4<((j.af.length:Nat):Int))) then (bif (decide (((j.af.length:Nat):Int)≤16)) then true else (decide (20<((j.af.length:Nat):Int)))) else (decide (20<((j.af.length:Nat):Int))))))=(decide (20<((j.af.length:Nat):Int))) by simp only[f0,f1,f2,f3,f4,cond_true,cond_false]]
            exact kO ev k!
        · have mX:=of_decide_eq_false f3
          have oS:b6 (some (.slice 41)) (some j.ag)=some (Zn j.af.length):=bH.2.len
          have ev:=pk (d) gN ((AV.agg [j.aj,j.ag])::(Zi ab)::(Pt h.nx)::AV.undef::(AV.bool false)::g4 102) h1 .normal h1 (CC<|MM (aw 22 0 j.aj aQ k!)<|VV re<|CC<|VV (bR 3 false false .i64 ((j.ab.length:Nat):Int) ab)<|CC<|BC f0<|BM f0 (aw 22 0 j.aj aQ k!)<|BV f0 CP<|BV f0 (pS 3 false true .i64 ((j.ab.length:Nat):Int) 64)<|VV (kI (decide (((j.ab.length:Nat):Int)≤64)) false f0)<|CC<|BC f1<|BM f1 (aw 22 0 j.aj aQ k!)<|BV f1 JG<|BV f1 (bR 3 false true .i64 ((j.ab.length:Nat):Int) 80)<|VV (bA (a:=some (AV.bool true)) (b:=some (AV.bool (decide (80<((j.ab.length:Nat):Int))))) f1)<|CC<|BC f2<|BM f2 (aw 23 1 j.ag aQ k!)<|BV f2 W1<|BV f2 (bR 3 false true .i64 ((j.af.length:Nat):Int) 4)<|BC f2<|BB f3<|BB f3<|BB f3<|BB f3<|BV f2 (tS false f3)<|VV (pcf true false f2)<|CC<|FF<|CC<|FF<|MM (aw 23 1 j.ag aQ k!)<|FF<|VV oS<|FF<|VV (bR 3 false true .i64 ((j.af.length:Nat):Int) 20)<|CC<|ZZ) k!
          rw[show (bif (decide (ab<((j.ab.length:Nat):Int))) then (bif (decide (((j.ab.length:Nat):Int)≤64)) then true else (bif (decide (80<((j.ab.length:Nat):Int))) then true else (bif (decide (4<((j.af.length:Nat):Int))) then (bif (decide (((j.af.length:Nat):Int)≤16)) then true else (decide (20<((j.af.length:Nat):Int)))) else (decide (20<((j.af.length:Nat):Int)))))) else (bif (decide (80<((j.ab.length:Nat):Int))) then true else (bif (decide (4<((j.af.length:Nat):Int))) then (bif (decide (((j.af.length:Nat):Int)≤16)) then true else (decide (20<((j.af.length:Nat):Int)))) else (decide (20<((j.af.length:Nat):Int))))))=(decide (20<((j.af.length:Nat):Int))) by simp only[f0,f1,f2,f3,cond_true,cond_false]]
          exact kO ev k!
  · have dO:=of_decide_eq_false f0
    have CP:b6 (some (.slice 44)) (some j.aj)=some (Zn j.ab.length):=bH.1.len
    rcases Bool.eq_false_or_eq_true (decide (80<((j.ab.length:Nat):Int))) with f1 | f1
    · have dC:=of_decide_eq_true f1
      have ev:=pk (d) gN ((AV.agg [j.aj,j.ag])::(Zi ab)::(Pt h.nx)::AV.undef::(AV.bool false)::g4 102) h1 .normal h1 (CC<|MM (aw 22 0 j.aj aQ k!)<|VV re<|CC<|VV (bR 3 false false .i64 ((j.ab.length:Nat):Int) ab)<|CC<|BB f0<|BB f0<|BB f0<|BV f0 (tS false f0)<|CC<|FF<|CC<|FF<|MM (aw 22 0 j.aj aQ k!)<|FF<|VV CP<|FF<|VV (bR 3 false true .i64 ((j.ab.length:Nat):Int) 80)<|CN 2<|BB f1<|BB f1<|BB f1<|BB f1<|BB f1<|BV f1 (uN true f1)<|CC<|TT<|TT<|TT<|TT<|CC<|ZZ) k!
      rw[show (bif (decide (ab<((j.ab.length:Nat):Int))) then (bif (decide (((j.ab.length:Nat):Int)≤64)) then true else (bif (decide (80<((j.ab.length:Nat):Int))) then true else (bif (decide (4<((j.af.length:Nat):Int))) then (bif (decide (((j.af.length:Nat):Int)≤16)) then true else (decide (20<((j.af.length:Nat):Int)))) else (decide (20<((j.af.length:Nat):Int)))))) else (bif (decide (80<((j.ab.length:Nat):Int))) then true else (bif (decide (4<((j.af.length:Nat):Int))) then (bif (decide (((j.af.length:Nat):Int)≤16)) then true else (decide (20<((j.af.length:Nat):Int)))) else (decide (20<((j.af.length:Nat):Int))))))=true by simp only[f0,f1,cond_true,cond_false]]
      exact kO ev k!
    · have dC:=of_decide_eq_false f1
      have JG:b6 (some (.slice 41)) (some j.ag)=some (Zn j.af.length):=bH.2.len
      rcases Bool.eq_false_or_eq_true (decide (4<((j.af.length:Nat):Int))) with f2 | f2
      · have jw:=of_decide_eq_true f2
        have W1:b6 (some (.slice 41)) (some j.ag)=some (Zn j.af.length):=bH.2.len
        rcases Bool.eq_false_or_eq_true (decide (((j.af.length:Nat):Int)≤16)) with f3 | f3
        · have mX:=of_decide_eq_true f3
          have ev:=pk (d) gN ((AV.agg [j.aj,j.ag])::(Zi ab)::(Pt h.nx)::AV.undef::(AV.bool false)::g4 102) h1 .normal h1 (CC<|MM (aw 22 0 j.aj aQ k!)<|VV re<|CC<|VV (bR 3 false false .i64 ((j.ab.length:Nat):Int) ab)<|CC<|BB f0<|BB f0<|BB f0<|BV f0 (tS false f0)<|CC<|FF<|CC<|FF<|MM (aw 22 0 j.aj aQ k!)<|FF<|VV CP<|FF<|VV (bR 3 false true .i64 ((j.ab.length:Nat):Int) 80)<|CN 2<|BC f1<|BM f1 (aw 23 1 j.ag aQ k!)<|BV f1 JG<|BV f1 (bR 3 false true .i64 ((j.af.length:Nat):Int) 4)<|BC f1<|BC f2<|BM f2 (aw 23 1 j.ag aQ k!)<|BV f2 W1<|BV f2 (pS 3 false true .i64 ((j.af.length:Nat):Int) 16)<|BV f1 (kI (decide (((j.af.length:Nat):Int)≤16)) false f2)<|VV (bA (a:=some (AV.bool true)) (b:=some (AV.bool (decide (((j.af.length:Nat):Int)≤16)))) f1)<|CC<|BB f3<|BB f3<|BB f3<|BV f3 (uN true f3)<|ZZ) k!
          rw[show (bif (decide (ab<((j.ab.length:Nat):Int))) then (bif (decide (((j.ab.length:Nat):Int)≤64)) then true else (bif (decide (80<((j.ab.length:Nat):Int))) then true else (bif (decide (4<((j.af.length:Nat):Int))) then (bif (decide (((j.af.length:Nat):Int)≤16)) then true else (decide (20<((j.af.length:Nat):Int)))) else (decide (20<((j.af.length:Nat):Int)))))) else (bif (decide (80<((j.ab.length:Nat):Int))) then true else (bif (decide (4<((j.af.length:Nat):Int))) then (bif (decide (((j.af.length:Nat):Int)≤16)) then true else (decide (20<((j.af.length:Nat):Int)))) else (decide (20<((j.af.length:Nat):Int))))))=true by simp only[f0,f1,f2,f3,cond_true,cond_false]]
          exact kO ev k!
        · have mX:=of_decide_eq_false f3
          have oS:b6 (some (.slice 41)) (some j.ag)=some (Zn j.af.length):=bH.2.len
          have ev:=pk (d) gN ((AV.agg [j.aj,j.ag])::(Zi ab)::(Pt h.nx)::AV.undef::(AV.bool false)::g4 102) h1 .normal h1 (CC<|MM (aw 22 0 j.aj aQ k!)<|VV re<|CC<|VV (bR 3 false false .i64 ((j.ab.length:Nat):Int) ab)<|CC<|BB f0<|BB f0<|BB f0<|BV f0 (tS false f0)<|CC<|FF<|CC<|FF<|MM (aw 22 0 j.aj aQ k!)<|FF<|VV CP<|FF<|VV (bR 3 false true .i64 ((j.ab.length:Nat):Int) 80)<|CN 2<|BC f1<|BM f1 (aw 23 1 j.ag aQ k!)<|BV f1 JG<|BV f1 (bR 3 false true .i64 ((j.af.length:Nat):Int) 4)<|BC f1<|BC f2<|BM f2 (aw 23 1 j.ag aQ k!)<|BV f2 W1<|BV f2 (pS 3 false true .i64 ((j.af.length:Nat):Int) 16)<|BV f1 (kI (decide (((j.af.length:Nat):Int)≤16)) false f2)<|VV (bA (a:=some (AV.bool true)) (b:=some (AV.bool (decide (((j.af.length:Nat):Int)≤16)))) f1)<|CC<|BC f3<|BM f3 (aw 23 1 j.ag aQ k!)<|BV f3 oS<|BV f3 (bR 3 false true .i64 ((j.af.length:Nat):Int) 20)<|VV (bA (a:=some (AV.bool true)) (b:=some (AV.bool (decide (20<((j.af.length:Nat):Int))))) f3)<|ZZ) k!
          rw[show (bif (decide (ab<((j.ab.length:Nat):Int))) then (bif (decide (((j.ab.length:Nat):Int)≤64)) then true else (bif (decide (80<((j.ab.length:Nat):Int))) then true else (bif (decide (4<((j.af.length:Nat):Int))) then (bif (decide (((j.af.length:Nat):Int)≤16)) then true else (decide (20<((j.af.length:Nat):Int)))) else (decide (20<((j.af.length:Nat):Int)))))) else (bif (decide (80<((j.ab.length:Nat):Int))) then true else (bif (decide (4<((j.af.length:Nat):Int))) then (bif (decide (((j.af.length:Nat):Int)≤16)) then true else (decide (20<((j.af.length:Nat):Int)))) else (decide (20<((j.af.length:Nat):Int))))))=(decide (20<((j.af.length:Nat):Int))) by simp only[f0,f1,f2,f3,cond_true,cond_false]]
          exact kO ev k!
      · have jw:=of_decide_eq_false f2
        have W1:b6 (some (.slice 41)) (some j.ag)=some (Zn j.af.length):=bH.2.len
        have ev:=pk (d) gN ((AV.agg [j.aj,j.ag])::(Zi ab)::(Pt h.nx)::AV.undef::(AV.bool false)::g4 102) h1 .normal h1 (CC<|MM (aw 22 0 j.aj aQ k!)<|VV re<|CC<|VV (bR 3 false false .i64 ((j.ab.length:Nat):Int) ab)<|CC<|BB f0<|BB f0<|BB f0<|BV f0 (tS false f0)<|CC<|FF<|CC<|FF<|MM (aw 22 0 j.aj aQ k!)<|FF<|VV CP<|FF<|VV (bR 3 false true .i64 ((j.ab.length:Nat):Int) 80)<|CN 2<|BC f1<|BM f1 (aw 23 1 j.ag aQ k!)<|BV f1 JG<|BV f1 (bR 3 false true .i64 ((j.af.length:Nat):Int) 4)<|BC f1<|BB f2<|BB f2<|BB f2<|BB f2<|BV f1 (tS false f2)<|VV (pcf true false f1)<|CC<|FF<|CC<|FF<|MM (aw 23 1 j.ag aQ k!)<|FF<|VV W1<|FF<|VV (bR 3 false true .i64 ((j.af.length:Nat):Int) 20)<|CC<|ZZ) k!
        rw[show (bif (decide (ab<((j.ab.length:Nat):Int))) then (bif (decide (((j.ab.length:Nat):Int)≤64)) then true else (bif (decide (80<((j.ab.length:Nat):Int))) then true else (bif (decide (4<((j.af.length:Nat):Int))) then (bif (decide (((j.af.length:Nat):Int)≤16)) then true else (decide (20<((j.af.length:Nat):Int)))) else (decide (20<((j.af.length:Nat):Int)))))) else (bif (decide (80<((j.ab.length:Nat):Int))) then true else (bif (decide (4<((j.af.length:Nat):Int))) then (bif (decide (((j.af.length:Nat):Int)≤16)) then true else (decide (20<((j.af.length:Nat):Int)))) else (decide (20<((j.af.length:Nat):Int))))))=(decide (20<((j.af.length:Nat):Int))) by simp only[f0,f1,f2,cond_true,cond_false]]
        exact kO ev k!
 rcases Bool.eq_false_or_eq_true (bif (decide (ab<((j.ab.length:Nat):Int))) then (bif (decide (((j.ab.length:Nat):Int)≤64)) then true else (bif (decide (80<((j.ab.length:Nat):Int))) then true else (bif (decide (4<((j.af.length:Nat):Int))) then (bif (decide (((j.af.length:Nat):Int)≤16)) then true else (decide (20<((j.af.length:Nat):Int)))) else (decide (20<((j.af.length:Nat):Int)))))) else (bif (decide (80<((j.ab.length:Nat):Int))) then true else (bif (decide (4<((j.af.length:Nat):Int))) then (bif (decide (((j.af.length:Nat):Int)≤16)) then true else (decide (20<((j.af.length:Nat):Int)))) else (decide (20<((j.af.length:Nat):Int)))))) with f0 | f0
 · have e:fO j ab=true:=by simp only[fO,f0,cond_true,cond_false]
   rw[e]
   exact aD rfl (bb Tryz.func4 Hs rfl (.inr rfl) (pk (d) _ _ h _ h1 (NN bM (fun i=>(Pt i))<|CC<|LL oP<|BC f0<|ZZ) k!) k!) bt rfl
 · obtain ⟨xA,h5,dH,c9,Y3⟩:=z6 (d:=d) (h:=h) j h.nx bH.1 bH.2 bH j.af.length 0 0 o! (fun k_=>(((AV.agg [j.aj,j.ag])::(Zi ab)::(Pt h.nx)::AV.undef::(AV.bool false)::(Zi 0)::(Zi 0)::AV.undef::rx Af 8 34 ((AV.bool (bif (decide (ab<((j.ab.length:Nat):Int))) then (bif (decide (((j.ab.length:Nat):Int)≤64)) then true else (bif (decide (80<((j.ab.length:Nat):Int))) then true else (bif (decide (4<((j.af.length:Nat):Int))) then (bif (decide (((j.af.length:Nat):Int)≤16)) then true else (decide (20<((j.af.length:Nat):Int)))) else (decide (20<((j.af.length:Nat):Int)))))) else (bif (decide (80<((j.ab.length:Nat):Int))) then true else (bif (decide (4<((j.af.length:Nat):Int))) then (bif (decide (((j.af.length:Nat):Int)≤16)) then true else (decide (20<((j.af.length:Nat):Int)))) else (decide (20<((j.af.length:Nat):Int)))))))::g4 64)):List AV).getD k_ AV.undef) h1 cx bt aQ
   have lJ:=c9.y
   have tG:h1.nx≤h5.nx:=c9.n
   have gA:Has h h5:=bt.trans c9.a
   obtain ⟨yl6,h7,E0,Cs,agz⟩:=z8 (d:=d) (h:=h) j h.nx bH.1 bH.2 bH j.ab.length 0 (kG j j.af.length 0 0) o! (fun k_=>(((xA 0)::(xA 1)::(Pt h.nx)::(xA 3)::(xA 4)::(Zi (kG j j.af.length 0 0))::(xA 6)::(Zi 0)::rx xA 8 99 []):List AV).getD k_ AV.undef) h5 lJ gA (c9.a _ _ aQ)
   have fQ:=Cs.y
   have abV:h5.nx≤h7.nx:=Cs.n
   have eL:Has h h7:=gA.trans Cs.a
   have agA:Has h5 h7:=Cs.a
   have e:fO j ab=(decide (120<(me j j.ab.length 0 (kG j j.af.length 0 0)))):=by simp only[fO,f0,cond_true,cond_false]
   rw[e]
   exact aD rfl (bb Tryz.func4 Hs rfl (.inr rfl) (pk (d) _ _ h _ h7 (NN bM (fun i=>(Pt i))<|CC<|LL oP<|BB f0<|CN 2<|LL dH<|CC<|LL E0<|CC<|VV (bR 3 false true .i64 (me j j.ab.length 0 (kG j j.af.length 0 0)) 120)<|CC<|ZZ) k!) k!) eL rfl
noncomputable def B5:Code:=(Tryz.f10.body).getD .skip
theorem E6:Tryz.f10.body=some B5:=by kernel_rfl
noncomputable def Ox:Code:=(bE B5).getD 0 .skip
def mu (a:List Int) (b:List Int):Nat→Nat→Option (Bool)
 | 0,_=>none
 | dz+1,i0=>(bif (!decide ((a.g i0)=(b.g i0))) then some false else mu a b dz (i0+1))
theorem vq {d:Nat} {h:au} (aV:AV) (bV:AV) (a:List Int) (b:List Int) (bn:b_ h .i64 3 aV a) (b8:b_ h .i64 3 bV b) (iy:a.length=b.length):∀(k_ i_:Nat) (_:i_+k_=a.length) (x:Nat→AV) (hh:au) (aE:Tidy hh) (aB:Has h hh),aA (cR (d)) Ox ⟨(aV::bV::rx x 2 3 ((Zn i_)::rx x 6 20 [])),hh,[],.no⟩ (.exit 0) hh (fun y=>(aV::bV::rx y 2 24 [])) (fun r y=>(aV::bV::(y 2)::(y 3)::(AV.bool r)::rx y 5 21 [])) (mu a b k_ i_)
 | 0,i0,fX,x,hh,aE,aB=>by
   have cm:=bn.small
   have eJ:=b8.small
   have dG:b6 (some (.slice 3)) (some aV)=some (Zn a.length):=(bn.has aB).len
   have q2:(decide (((i0:Nat):Int)<((a.length:Nat):Int)))=false:=d!
   exact aA.out rfl (pk (d) _ _ hh _ hh (CN 2<|VV dG<|VV (ba 3 false false .i64 ((i0:Nat):Int) ((a.length:Nat):Int))<|BB q2<|ZZ) k!) (bF.refl aE) k!
 | dz+1,i0,fX,x,hh,aE,aB=>by
   have cm:=bn.small
   have eJ:=b8.small
   have dG:b6 (some (.slice 3)) (some aV)=some (Zn a.length):=(bn.has aB).len
   have q2:(decide (((i0:Nat):Int)<((a.length:Nat):Int)))=true:=d!
   obtain ⟨p4,q5,iW,_⟩:=(bn.has aB).elem (i:=i0) o!
   have iG:bS env (some (.slice 3)) (some aV) (some (Zn i0))=some (AV.ptr p4 q5):=iW
   have iV:bh env hh 3 (AV.ptr p4 q5)=some (Zi (a.g i0)):=(bn.has aB).load o! iW
   obtain ⟨p8,q9,zD,_⟩:=(b8.has aB).elem (i:=i0) o!
   have NA:bS env (some (.slice 3)) (some bV) (some (Zn i0))=some (AV.ptr p8 q9):=zD
   have o_:bh env hh 3 (AV.ptr p8 q9)=some (Zi (b.g i0)):=(b8.has aB).load o! zD
   rcases Bool.eq_false_or_eq_true (!decide ((a.g i0)=(b.g i0))) with f1 | f1
   · have dC:=BI f1
     exact aA.ret false (by simp only[mu,f1,cond_true,cond_false]) (pk (d) _ _ hh _ hh (CN 2<|VV dG<|VV (ba 3 false false .i64 ((i0:Nat):Int) ((a.length:Nat):Int))<|BB q2<|CN 2<|VV iG<|MM iV<|CN 2<|VV NA<|MM o_<|VV (eu 3 false false .i64 (a.g i0) (b.g i0))<|HH iV<|HH (show AV.same 20 (Zi (a.g i0)) (Zi (a.g i0))=true from aJ 19 _ _)<|HH o_<|HH (show AV.same 20 (Zi (b.g i0)) (Zi (b.g i0))=true from aJ 19 _ _)<|BC f1<|ZZ) k!) (bF.refl aE) k!
   · have dC:=BJ f1
     have Rt:=fe 3 false true i0 1 o!
     exact aA.round (by simp only[mu,f1,cond_true,cond_false]) (pk (d) _ _ hh _ hh (CN 2<|VV dG<|VV (ba 3 false false .i64 ((i0:Nat):Int) ((a.length:Nat):Int))<|BB q2<|CN 2<|VV iG<|MM iV<|CN 2<|VV NA<|MM o_<|VV (eu 3 false false .i64 (a.g i0) (b.g i0))<|HH iV<|HH (show AV.same 20 (Zi (a.g i0)) (Zi (a.g i0))=true from aJ 19 _ _)<|HH o_<|HH (show AV.same 20 (Zi (b.g i0)) (Zi (b.g i0))=true from aJ 19 _ _)<|BC f1<|VV Rt<|CC<|ZZ) k!) (bF.refl aE) _ k! (fun x=>vq aV bV a b bn b8 iy dz (i0+1) o! x hh aE aB)
def dj (a:List Int) (b:List Int):Bool:=(bif (!decide (((a.length:Nat):Int)=((b.length:Nat):Int))) then false else (match (mu a b a.length 0) with | none=>true | some xz=>xz))
theorem Wq {d:Nat} {h:au} {aV bV:AV} (a:List Int) (b:List Int) (h_a:b_ h .i64 3 aV a) (h_b:b_ h .i64 3 bV b) (bW:Tidy h):cR (d+1) (.fn 10) [aV,bV] h= .ret (AV.bool (dj a b)) h:=by
 have aiP:=h_a.small
 have aiQ:=h_b.small
 have dG:b6 (some (.slice 3)) (some aV)=some (Zn a.length):=h_a.len
 have re:b6 (some (.slice 3)) (some bV)=some (Zn b.length):=h_b.len
 rcases Bool.eq_false_or_eq_true (!decide (((a.length:Nat):Int)=((b.length:Nat):Int))) with f0 | f0
 · have dO:=BI f0
   have e:dj a b=false:=by simp only[dj,f0,cond_true,cond_false]
   rw[e]
   exact aD rfl (bb Tryz.func10 E6 rfl (.inr rfl) (pk (d) _ _ h _ h (CN 2<|VV dG<|CC<|VV re<|VV (eu 3 false false .i64 ((a.length:Nat):Int) ((b.length:Nat):Int))<|BC f0<|ZZ) k!) k!) (Has.refl _) rfl
 · have dO:=BJ f0
   cases cY:mu a b a.length 0 with
   | none=>
     obtain ⟨xA,h5,dH,c9⟩:=aA.n cY (vq (d:=d) (h:=h) aV bV a b h_a h_b o! a.length 0 o! (fun k_=>((aV::bV::AV.undef::AV.undef::(AV.bool false)::(Zi 0)::aV::(Zn a.length)::bV::(Zn b.length)::(AV.bool (!decide (((a.length:Nat):Int)=((b.length:Nat):Int))))::g4 15):List AV).getD k_ AV.undef) h bW (Has.refl _))
     have lJ:=c9.y
     have tG:h.nx≤h5.nx:=c9.n
     have gA:Has h h5:=c9.a
     have e:dj a b=true:=by simp only[dj,f0,cY,cond_true,cond_false]
     rw[e]
     exact aD rfl (bb Tryz.func10 E6 rfl (.inr rfl) (pk (d) _ _ h _ h5 (CN 2<|VV dG<|CC<|VV re<|VV (eu 3 false false .i64 ((a.length:Nat):Int) ((b.length:Nat):Int))<|BC f0<|LL dH<|CC<|ZZ) k!) k!) gA rfl
   | some xz=>
     obtain ⟨xA,h5,dH,c9⟩:=aA.r cY (vq (d:=d) (h:=h) aV bV a b h_a h_b o! a.length 0 o! (fun k_=>((aV::bV::AV.undef::AV.undef::(AV.bool false)::(Zi 0)::aV::(Zn a.length)::bV::(Zn b.length)::(AV.bool (!decide (((a.length:Nat):Int)=((b.length:Nat):Int))))::g4 15):List AV).getD k_ AV.undef) h bW (Has.refl _))
     have lJ:=c9.y
     have tG:h.nx≤h5.nx:=c9.n
     have gA:Has h h5:=c9.a
     have e:dj a b=xz:=by simp only[dj,f0,cY,cond_true,cond_false]
     rw[e]
     exact aD rfl (bb Tryz.func10 E6 rfl (.inr rfl) (pk (d) _ _ h _ h5 (CN 2<|VV dG<|CC<|VV re<|VV (eu 3 false false .i64 ((a.length:Nat):Int) ((b.length:Nat):Int))<|BC f0<|LL dH<|ZZ) k!) k!) gA rfl
structure adF (j:cz):Prop where
 nt:j.ab.length≤64
 nr:j.af.length≤16
 tk:∀i,i<j.ab.length→0≤(j.ab.g i).aI∧(j.ab.g i).aI≤100000
 nb:∀i,i<j.ab.length→∀q,q<(j.ab.g i).az.length→0≤(j.ab.g i).az.g q∧(j.ab.g i).az.g q<(j.ab.length:Int)
 ub:∀i,i<j.ab.length→∀q,q<(j.ab.g i).ar.length→0≤((j.ab.g i).ar.g q).ah∧((j.ab.g i).ar.g q).ah<(j.af.length:Int)
theorem wG {i0:Nat} {j:cz}:∀{k i:Nat} {r:Int},gX i0 j k i=some r→r≠0
 | 0,i,r,h=>by cases h
 | k+1,i,r,h=>by
   rw[gX] at h
   cases q:decide ((j.af.g i).name=(j.af.g i0).name) with
   | true=>rw[q] at h;cases h;decide
   | false=>rw[q] at h;exact wG (k:=k) h
theorem wH {j:cz}:∀{k i:Nat} {r:Int},fH j k i=some r→r≠0
 | 0,i,r,h=>by cases h
 | k+1,i,r,h=>by
   rw[fH] at h
   cases a:ek (j.af.g i).name with
   | false=>rw[a] at h;cases h;decide
   | true=>
     cases b:gX i j i 0 with
     | some r0=>rw[a,b] at h;cases h;exact wG b
     | none=>
       by_cases c:bO (j.af.g i)=0
       · rw[a,b,decide_eq_true c] at h;exact wH (k:=k) h
       · rw[a,b,decide_eq_false c] at h;cases h;exact c
theorem dk {j:cz} (h:bu j=0):adF j:=by
 unfold bu at h
 by_cases a:16<((j.af.length:Nat):Int)
 · rw[decide_eq_true a] at h;cases h
 · rw[decide_eq_false a] at h
   cases b:fH j j.af.length 0 with
   | some r=>rw[b] at h;exact absurd h (wH b)
   | none=>
     rw[b] at h
     by_cases c:64<((j.ab.length:Nat):Int)
     · rw[decide_eq_true c] at h;cases h
     · rw[decide_eq_false c] at h
       cases e:eQ j j.ab.length 0 with
       | some r=>rw[e] at h;exact absurd h (nY.2 r e)
       | none=>
         have t:=fun i (hi:i<j.ab.length)=>vp (nY.1 e i o! o!)
         exact ⟨by omega,by omega,fun i hi=>(t i hi).1,fun i hi=>(t i hi).2.1,fun i hi=>(t i hi).2.2⟩
noncomputable def Js:Code:=(Tryz.f12.body).getD .skip
theorem Bf:Tryz.f12.body=some Js:=by kernel_rfl
def aW (j:cz) (ai:List Int):Bool×Int:=(bif (decide ((bu j)=0)) then (bif (!decide (((ai.length:Nat):Int)=((j.ab.length:Nat):Int))) then (false,1) else ((nU j ai),0)) else (false,(bu j)))
theorem Ht {d:Nat} {h:au} {ax:AV} (j:cz) (ai:List Int) (bH:aL.ok h j) (bm:b_ h .i64 3 ax ai) (bW:Tidy h):cR (d+5) (.fn 12) [(AV.agg [j.aj,j.ag]),ax] h= .ret (AV.tuple [(AV.bool ((aW j ai).1)),(Zi ((aW j ai).2))]) h:=by
 have fG:=bm.small
 have dP:=bH.1.small
 have dQ:=bH.2.small
 obtain ⟨h1,bM,cx,jc,aQ,cA⟩:=j_ bW (aM.cells [j.aj,j.ag] 25 false)
 have bt:Has h h1:=cA
 have k2:=Bd (d:=d+1) j (aL.mono bt bH) cx
 rcases Bool.eq_false_or_eq_true (decide ((bu j)=0)) with f0 | f0
 · have dO:=of_decide_eq_true f0
   have CP:b6 (some (.slice 3)) (some ax)=some (Zn ai.length):=bm.len
   have ln5:b6 (some (.slice 44)) (some j.aj)=some (Zn j.ab.length):=bH.1.len
   rcases Bool.eq_false_or_eq_true (!decide (((ai.length:Nat):Int)=((j.ab.length:Nat):Int))) with f1 | f1
   · have dC:=BI f1
     have e:aW j ai=(false,1):=by simp only[aW,f0,f1,cond_true,cond_false]
     rw[e]
     exact aD rfl (bb Tryz.func12 Bf rfl (.inr rfl) (pk (d+4) _ _ h _ h1 (NN bM (fun i=>(Pt i))<|CN 2<|MM (aw 25 0 (AV.agg [j.aj,j.ag]) aQ k!)<|EE k2<|CN 2<|VV (lr 29 false true .i64 (bu j) 0)<|CC<|BC f0<|BV f0 CP<|BC f0<|BM f0 (aw 22 0 j.aj aQ k!)<|BV f0 ln5<|BV f0 (eu 3 false false .i64 ((ai.length:Nat):Int) ((j.ab.length:Nat):Int))<|VV (kI (!decide (((ai.length:Nat):Int)=((j.ab.length:Nat):Int))) false f0)<|BB f1<|CN 3<|TT<|CN 3<|ZZ) k!) k!) bt rfl
   · have dC:=BJ f1
     have q7:(!decide ((bu j)=0))=false:=d!
     have k8:=RV (d:=d) j ai (aL.mono bt bH) (bm.has bt) (by first | omega | assumption | exact (dk (by assumption)).nb | exact (dk (by assumption)).ub | exact Nat.le_trans (dk (by assumption)).nt (by decide)) (by first | omega | assumption | exact (dk (by assumption)).nb | exact (dk (by assumption)).ub | exact Nat.le_trans (dk (by assumption)).nt (by decide)) (by first | omega | assumption | exact (dk (by assumption)).nb | exact (dk (by assumption)).ub | exact Nat.le_trans (dk (by assumption)).nt (by decide)) (by first | omega | assumption | exact (dk (by assumption)).nb | exact (dk (by assumption)).ub | exact Nat.le_trans (dk (by assumption)).nt (by decide)) cx
     have e:aW j ai=((nU j ai),0):=by simp only[aW,f0,f1,cond_true,cond_false]
     rw[e]
     exact aD rfl (bb Tryz.func12 Bf rfl (.inr rfl) (pk (d+4) _ _ h _ h1 (NN bM (fun i=>(Pt i))<|CN 2<|MM (aw 25 0 (AV.agg [j.aj,j.ag]) aQ k!)<|EE k2<|CN 2<|VV (lr 29 false true .i64 (bu j) 0)<|CC<|BC f0<|BV f0 CP<|BC f0<|BM f0 (aw 22 0 j.aj aQ k!)<|BV f0 ln5<|BV f0 (eu 3 false false .i64 ((ai.length:Nat):Int) ((j.ab.length:Nat):Int))<|VV (kI (!decide (((ai.length:Nat):Int)=((j.ab.length:Nat):Int))) false f0)<|BC f1<|VV (eu 29 false true .i64 (bu j) 0)<|BM q7 (aw 25 0 (AV.agg [j.aj,j.ag]) aQ k!)<|CC<|EE k8<|CN 2<|ZZ) k!) k!) bt rfl
 · have dO:=of_decide_eq_false f0
   have q4:(!decide ((bu j)=0))=true:=d!
   have e:aW j ai=(false,(bu j)):=by simp only[aW,f0,cond_true,cond_false]
   rw[e]
   exact aD rfl (bb Tryz.func12 Bf rfl (.inr rfl) (pk (d+4) _ _ h _ h1 (NN bM (fun i=>(Pt i))<|CN 2<|MM (aw 25 0 (AV.agg [j.aj,j.ag]) aQ k!)<|EE k2<|CN 2<|VV (lr 29 false true .i64 (bu j) 0)<|CC<|BB f0<|BB f0<|BB f0<|BB f0<|BB f0<|BV f0 (tS false f0)<|FF<|CC<|VV (eu 29 false true .i64 (bu j) 0)<|BB q4<|CN 3<|ZZ) k!) k!) bt rfl
noncomputable def wI:Code:=(Tryz.f35.body).getD .skip
theorem Oy:Tryz.f35.body=some wI:=by kernel_rfl
noncomputable def Jt:Code:=(bE wI).getD 0 .skip
def kH (ai:List Int) (j:cz):Nat→Nat→Int→Int
 | 0,_,cW=>cW
 | dz+1,i0,cW=>kH ai j dz (i0+1) (imax cW (IntKind.i64.wrap ((ai.g i0)+((j.ab.g i0).aI))))
theorem wJ {d:Nat} {h:au} (ax:AV) (ai:List Int) (j:cz) (br:Nat) (bn:b_ h .i64 3 ax ai) (b8:aS h j.aj j.ab) (ew:aS h j.ag j.af) (gU:aL.ok h j) (iy:ai.length≤j.ab.length) (kr:ai.length≤j.ab.length):∀(k_ i_:Nat) (cW:Int) (_:i_+k_=ai.length) (x:Nat→AV) (hh:au) (aE:Tidy hh) (aB:Has h hh) (bj:hh.get br=some (aM.cells [j.aj,j.ag] 25 false)),cN (cR (d)) Jt ⟨((x 0)::ax::(Pt br)::(x 3)::(x 4)::(Zi cW)::(Zn i_)::rx x 7 20 []),hh,[],.no⟩ (.exit 0) hh (fun r y=>((y 0)::ax::(Pt br)::(y 3)::(y 4)::(Zi r)::rx y 6 21 [])) (fun r=>True) (kH ai j k_ i_ cW)
 | 0,i0,cW,fX,x,hh,aE,aB,bj=>by
   have cm:=bn.small
   have eJ:=b8.small
   have jA:=ew.small
   have je:=aE _ _ bj
   have dG:b6 (some (.slice 3)) (some ax)=some (Zn ai.length):=(bn.has aB).len
   have q2:(decide (((i0:Nat):Int)<((ai.length:Nat):Int)))=false:=d!
   exact cN.out cW rfl (pk (d) _ _ hh _ hh (CN 2<|VV dG<|VV (ba 3 false false .i64 ((i0:Nat):Int) ((ai.length:Nat):Int))<|BB q2<|ZZ) k!) (bF.refl aE) trivial k!
 | dz+1,i0,cW,fX,x,hh,aE,aB,bj=>by
   have cm:=bn.small
   have eJ:=b8.small
   have jA:=ew.small
   have je:=aE _ _ bj
   have dG:b6 (some (.slice 3)) (some ax)=some (Zn ai.length):=(bn.has aB).len
   have q2:(decide (((i0:Nat):Int)<((ai.length:Nat):Int)))=true:=d!
   obtain ⟨p4,q5,iW,_⟩:=(bn.has aB).elem (i:=i0) o!
   have iG:bS env (some (.slice 3)) (some ax) (some (Zn i0))=some (AV.ptr p4 q5):=iW
   have iV:bh env hh 3 (AV.ptr p4 q5)=some (Zi (ai.g i0)):=(bn.has aB).load o! iW
   obtain ⟨p8,q9,zD⟩:=(b8.has aB).elem (i:=i0) o!
   have NA:bS env (some (.slice 44)) (some j.aj) (some (Zn i0))=some (AV.ptr p8 q9):=zD
   have o_:bh env hh 3 (AV.ptr p8 (q9+1))=some (Zi ((j.ab.g i0).aI)):=(b8.has aB).part (t:=3) (j:=1) o! zD k! rfl
   have P_:AV.same 20 j.aj j.aj=true:=(b8.has aB).same 19
   have Rt:=fe 3 false true i0 1 o!
   exact cN.round (by simp only[kH,cond_true,cond_false]) (pk (d) _ _ hh _ hh (CN 2<|VV dG<|VV (ba 3 false false .i64 ((i0:Nat):Int) ((ai.length:Nat):Int))<|BB q2<|CN 3<|VV iG<|MM iV<|CC<|MM (aw 22 0 j.aj bj k!)<|CC<|VV NA<|CC<|MM o_<|CN 3<|HH iV<|HH (show AV.same 20 (Zi (ai.g i0)) (Zi (ai.g i0))=true from aJ 19 _ _)<|HH (aw 22 0 j.aj bj k!)<|HH P_<|HH o_<|HH (show AV.same 20 (Zi ((j.ab.g i0).aI)) (Zi ((j.ab.g i0).aI))=true from aJ 19 _ _)<|CC<|VV Rt<|CC<|ZZ) k!) (bF.refl aE) _ k! (fun x=>wJ ax ai j br bn b8 ew gU iy kr dz (i0+1) (imax cW (IntKind.i64.wrap ((ai.g i0)+((j.ab.g i0).aI)))) o! x hh aE aB bj)
def rO (j:cz) (ai:List Int):Int:=(kH ai j ai.length 0 0)
theorem Oz {d:Nat} {h:au} {ax:AV} (j:cz) (ai:List Int) (bH:aL.ok h j) (bm:b_ h .i64 3 ax ai) (lI:ai.length≤j.ab.length) (bW:Tidy h):cR (d+1) (.fn 35) [(AV.agg [j.aj,j.ag]),ax] h= .ret (Zi (rO j ai)) h:=by
 have fG:=bm.small
 have dP:=bH.1.small
 have dQ:=bH.2.small
 obtain ⟨h1,bM,cx,jc,aQ,cA⟩:=j_ bW (aM.cells [j.aj,j.ag] 25 false)
 have bt:Has h h1:=cA
 obtain ⟨Mm,h3,dD,dq,CI⟩:=wJ (d:=d) (h:=h) ax ai j h.nx bm bH.1 bH.2 bH o! o! ai.length 0 0 o! (fun k_=>(((AV.agg [j.aj,j.ag])::ax::(Pt h.nx)::AV.undef::(Zi 0)::(Zi 0)::(Zi 0)::g4 20):List AV).getD k_ AV.undef) h1 cx bt aQ
 have nh:=dq.y
 have uR:h1.nx≤h3.nx:=dq.n
 have iz:Has h h3:=bt.trans dq.a
 have e:rO j ai=(kH ai j ai.length 0 0):=by simp only[rO,cond_true,cond_false]
 rw[e]
 exact aD rfl (bb Tryz.func35 Oy rfl (.inr rfl) (pk (d) _ _ h _ h3 (NN bM (fun i=>(Pt i))<|CN 3<|LL dD<|CN 2<|ZZ) k!) k!) iz rfl
theorem yd {j:cz} {s:List Int} (h:(aW j s).2=0):bu j=0∧s.length=j.ab.length:=by
 unfold aW at h
 by_cases a:bu j=0
 · rw[decide_eq_true a] at h
   by_cases b:((s.length:Nat):Int)=((j.ab.length:Nat):Int)
   · exact ⟨a,by omega⟩
   · rw[decide_eq_false b] at h;cases h
 · rw[decide_eq_false a] at h
   exact absurd h a
noncomputable def Gi:Code:=(Tryz.f14.body).getD .skip
theorem yf:Tryz.f14.body=some Gi:=by kernel_rfl
def bk (j:cz) (ai:List Int):Int×Int:=(bif (decide (((aW j ai).2)=0)) then (bif (!((aW j ai).1)) then (0,8) else ((rO j ai),0)) else (0,((aW j ai).2)))
theorem OA {d:Nat} {h:au} {ax:AV} (j:cz) (ai:List Int) (bH:aL.ok h j) (bm:b_ h .i64 3 ax ai) (bW:Tidy h):cR (d+6) (.fn 14) [(AV.agg [j.aj,j.ag]),ax] h= .ret (AV.tuple [(Zi ((bk j ai).1)),(Zi ((bk j ai).2))]) h:=by
 have fG:=bm.small
 have dP:=bH.1.small
 have dQ:=bH.2.small
 obtain ⟨h1,bM,cx,jc,aQ,cA⟩:=j_ bW (aM.cells [j.aj,j.ag] 25 false)
 have bt:Has h h1:=cA
 have k2:=Ht (d:=d) j ai (aL.mono bt bH) (bm.has bt) cx
 rcases Bool.eq_false_or_eq_true (decide (((aW j ai).2)=0)) with f0 | f0
 · have dO:=of_decide_eq_true f0
   rcases Bool.eq_false_or_eq_true (!((aW j ai).1)) with f1 | f1
   · have e:bk j ai=(0,8):=by simp only[bk,f0,f1,cond_true,cond_false]
     rw[e]
     exact aD rfl (bb Tryz.func14 yf rfl (.inr rfl) (pk (d+5) _ _ h _ h1 (NN bM (fun i=>(Pt i))<|CN 2<|MM (aw 25 0 (AV.agg [j.aj,j.ag]) aQ k!)<|CC<|EE k2<|CN 6<|VV (lr 29 false true .i64 ((aW j ai).2) 0)<|CC<|BC f0<|BC f0<|VV (kI (!((aW j ai).1)) false f0)<|BB f1<|CN 3<|TT<|CN 3<|ZZ) k!) k!) bt rfl
   · have q5:(!decide (((aW j ai).2)=0))=false:=d!
     have k6:=Oz (d:=d+4) j ai (aL.mono bt bH) (bm.has bt) (by first | omega | assumption | exact (dk (yd (by assumption)).1).nb | exact (dk (yd (by assumption)).1).ub | exact Nat.le_of_eq (yd (by assumption)).2) cx
     have e:bk j ai=((rO j ai),0):=by simp only[bk,f0,f1,cond_true,cond_false]
     rw[e]
     exact aD rfl (bb Tryz.func14 yf rfl (.inr rfl) (pk (d+5) _ _ h _ h1 (NN bM (fun i=>(Pt i))<|CN 2<|MM (aw 25 0 (AV.agg [j.aj,j.ag]) aQ k!)<|CC<|EE k2<|CN 6<|VV (lr 29 false true .i64 ((aW j ai).2) 0)<|CC<|BC f0<|BC f0<|VV (kI (!((aW j ai).1)) false f0)<|BC f1<|VV (eu 29 false true .i64 ((aW j ai).2) 0)<|BM q5 (aw 25 0 (AV.agg [j.aj,j.ag]) aQ k!)<|CC<|EE k6<|CN 2<|ZZ) k!) k!) bt rfl
 · have dO:=of_decide_eq_false f0
   have q4:(!decide (((aW j ai).2)=0))=true:=d!
   have e:bk j ai=(0,((aW j ai).2)):=by simp only[bk,f0,cond_true,cond_false]
   rw[e]
   exact aD rfl (bb Tryz.func14 yf rfl (.inr rfl) (pk (d+5) _ _ h _ h1 (NN bM (fun i=>(Pt i))<|CN 2<|MM (aw 25 0 (AV.agg [j.aj,j.ag]) aQ k!)<|CC<|EE k2<|CN 6<|VV (lr 29 false true .i64 ((aW j ai).2) 0)<|CC<|BB f0<|BV f0 (tS false f0)<|FF<|CC<|VV (eu 29 false true .i64 ((aW j ai).2) 0)<|BB q4<|CN 3<|ZZ) k!) k!) bt rfl
noncomputable def Ju:Code:=(Tryz.f7.body).getD .skip
theorem Hu:Tryz.f7.body=some Ju:=by kernel_rfl
def aX (j:cz):List Int×Int:=(bif (!decide ((bu j)=0)) then ([],(bu j)) else ((dX j),0))
theorem R' {d:Nat} {h:au} (j:cz) (bH:aL.ok h j) (bW:Tidy h):∃z hk,cR (d+4) (.fn 7) [(AV.agg [j.aj,j.ag])] h= .ret (AV.tuple [z,(Zi ((aX j).2))]) hk∧bF h hk∧b_ hk .i64 3 z (aX j).1∧g7 3 h hk z (zs .i64 (aX j).1):=by
 have dP:=bH.1.small
 have dQ:=bH.2.small
 obtain ⟨h1,bM,cx,jc,aQ,cA⟩:=j_ bW (aM.cells [j.aj,j.ag] 25 false)
 have bt:Has h h1:=cA
 have k2:=Bd (d:=d) j (aL.mono bt bH) cx
 rcases Bool.eq_false_or_eq_true (!decide ((bu j)=0)) with f0 | f0
 · have dO:=BI f0
   have e:aX j=([],(bu j)):=by simp only[aX,f0,cond_true,cond_false]
   rw[e]
   exact ⟨.aH,ju rfl (bb Tryz.func7 Hu rfl (.inr rfl) (pk (d+3) _ _ h _ h1 (NN bM (fun i=>(Pt i))<|CN 2<|MM (aw 25 0 (AV.agg [j.aj,j.ag]) aQ k!)<|EE k2<|CN 2<|VV (eu 29 false true .i64 (bu j) 0)<|BB f0<|CN 3<|ZZ) k!) k!) bW ⟨cx,bt,by omega⟩ (P:=fun hh=>b_ hh .i64 3 .aH []∧g7 3 h hh .aH (zs .i64 [])) ⟨b_.nil k! k!,.inl ⟨rfl,rfl⟩⟩ fun _=>⟨b_.nil k! k!,.inl ⟨rfl,rfl⟩⟩⟩
 · have dO:=BJ f0
   obtain ⟨z4,h6,Jv,fq,fz5,ZA⟩:=EJ (d:=d+1) j (aL.mono bt bH) (by first | omega | assumption | exact (dk (by assumption)).nb | exact (dk (by assumption)).ub | exact Nat.le_trans (dk (by assumption)).nt (by decide)) (by first | omega | assumption | exact (dk (by assumption)).nb | exact (dk (by assumption)).ub | exact Nat.le_trans (dk (by assumption)).nt (by decide)) cx
   have jf:=fq.y
   have NM:h1.nx≤h6.nx:=fq.n
   have ia:Has h h6:=bt.trans fq.a
   have aaW:=fz5.small
   have e:aX j=((dX j),0):=by simp only[aX,f0,cond_true,cond_false]
   rw[e]
   have oz:=g7.le (h0:=h) ZA o!
   exact ⟨z4,ju rfl (bb Tryz.func7 Hu rfl (.inr rfl) (pk (d+3) _ _ h _ h6 (NN bM (fun i=>(Pt i))<|CN 2<|MM (aw 25 0 (AV.agg [j.aj,j.ag]) aQ k!)<|EE k2<|CN 2<|VV (eu 29 false true .i64 (bu j) 0)<|BM f0 (aw 25 0 (AV.agg [j.aj,j.ag]) aQ k!)<|EE Jv<|CN 2<|ZZ) k!) k!) bW ⟨jf,ia,by omega⟩ (P:=fun hh=>b_ hh .i64 3 z4 (dX j)∧g7 3 h hh z4 (zs .i64 (dX j))) ⟨oz.zs o! k! k!,oz⟩ fun v=>⟨oz.K2 (CG v) k! k!,oz.K4 (CG v)⟩⟩
noncomputable def tq:Code:=(Tryz.f34.body).getD .skip
theorem Jw:Tryz.f34.body=some tq:=by kernel_rfl
noncomputable def E8:Code:=(bE tq).getD 0 .skip
def iE (j:cz) (ai:List Int):Nat→Nat→Int→Int
 | 0,_,cW=>cW
 | dz+1,i0,cW=>iE j ai dz (i0+1) (imax cW (cV j ai ((i0:Nat):Int)))
theorem tu {d:Nat} {h:au} (ax:AV) (ai:List Int) (j:cz) (br:Nat) (bn:b_ h .i64 3 ax ai) (b8:aS h j.aj j.ab) (ew:aS h j.ag j.af) (gU:aL.ok h j) (iy:ai.length=j.ab.length) (kr:ai.length=j.ab.length):∀(k_ i_:Nat) (cW:Int) (_:i_+k_=ai.length) (x:Nat→AV) (hh:au) (aE:Tidy hh) (aB:Has h hh) (bj:hh.get br=some (aM.cells [j.aj,j.ag] 25 false)),cN (cR (d+1)) E8 ⟨((x 0)::ax::(Pt br)::(x 3)::(x 4)::(Zi cW)::(x 6)::(x 7)::(Zn ai.length)::(Zn i_)::rx x 10 10 []),hh,[],.no⟩ (.exit 0) hh (fun r y=>((y 0)::ax::(Pt br)::(y 3)::(y 4)::(Zi r)::(y 6)::(y 7)::(Zn ai.length)::rx y 9 11 [])) (fun r=>True) (iE j ai k_ i_ cW)
 | 0,i0,cW,fX,x,hh,aE,aB,bj=>by
   have cm:=bn.small
   have eJ:=b8.small
   have jA:=ew.small
   have je:=aE _ _ bj
   have q1:(decide (((i0:Nat):Int)<((ai.length:Nat):Int)))=false:=d!
   exact cN.out cW rfl (pk (d+1) _ _ hh _ hh (VV (ba 3 false false .i64 ((i0:Nat):Int) ((ai.length:Nat):Int))<|BB q1<|ZZ) k!) (bF.refl aE) trivial k!
 | dz+1,i0,cW,fX,x,hh,aE,aB,bj=>by
   have cm:=bn.small
   have eJ:=b8.small
   have jA:=ew.small
   have je:=aE _ _ bj
   have q1:(decide (((i0:Nat):Int)<((ai.length:Nat):Int)))=true:=d!
   have k2:=rL (d:=d) j ai ((i0:Nat):Int) (aL.mono aB gU) (bn.has aB) (by first | omega | assumption | (simp only[List.length_set,List.length_replicate,List.length_append,List.length_cons,List.length_nil,List.nil_append]<;>omega) | (rw[List.length_take];omega)) (by first | omega | assumption | (simp only[List.length_set,List.length_replicate,List.length_append,List.length_cons,List.length_nil,List.nil_append]<;>omega) | (rw[List.length_take];omega)) (by first | omega | assumption | (simp only[List.length_set,List.length_replicate,List.length_append,List.length_cons,List.length_nil,List.nil_append]<;>omega) | (rw[List.length_take];omega)) aE
   have u3:=fe 3 false true i0 1 o!
   exact cN.round (by simp only[iE,cond_true,cond_false]) (pk (d+1) _ _ hh _ hh (VV (ba 3 false false .i64 ((i0:Nat):Int) ((ai.length:Nat):Int))<|BB q1<|CN 3<|MM (aw 25 0 (AV.agg [j.aj,j.ag]) bj k!)<|CN 2<|EE k2<|CN 2<|VV u3<|CC<|ZZ) k!) (bF.refl aE) _ k! (fun x=>tu ax ai j br bn b8 ew gU iy kr dz (i0+1) (imax cW (cV j ai ((i0:Nat):Int))) o! x hh aE aB bj)
def nL (j:cz) (ai:List Int):Int:=(iE j ai ai.length 0 0)
theorem Jx {d:Nat} {h:au} {ax:AV} (j:cz) (ai:List Int) (bH:aL.ok h j) (bm:b_ h .i64 3 ax ai) (lI:ai.length=j.ab.length) (bW:Tidy h):cR (d+2) (.fn 34) [(AV.agg [j.aj,j.ag]),ax] h= .ret (Zi (nL j ai)) h:=by
 have fG:=bm.small
 have dP:=bH.1.small
 have dQ:=bH.2.small
 obtain ⟨h1,bM,cx,jc,aQ,cA⟩:=j_ bW (aM.cells [j.aj,j.ag] 25 false)
 have bt:Has h h1:=cA
 have re:b6 (some (.slice 3)) (some ax)=some (Zn ai.length):=bm.len
 obtain ⟨Ae,h4,iA,gH,CM⟩:=tu (d:=d) (h:=h) ax ai j h.nx bm bH.1 bH.2 bH o! o! ai.length 0 0 o! (fun k_=>(((AV.agg [j.aj,j.ag])::ax::(Pt h.nx)::AV.undef::(Zi 0)::(Zi 0)::AV.undef::ax::(Zn ai.length)::(Zi 0)::g4 10):List AV).getD k_ AV.undef) h1 cx bt aQ
 have nA:=gH.y
 have Lm:h1.nx≤h4.nx:=gH.n
 have kQ:Has h h4:=bt.trans gH.a
 have e:nL j ai=(iE j ai ai.length 0 0):=by simp only[nL,cond_true,cond_false]
 rw[e]
 exact aD rfl (bb Tryz.func34 Jw rfl (.inr rfl) (pk (d+1) _ _ h _ h4 (NN bM (fun i=>(Pt i))<|CN 3<|VV re<|CC<|LL iA<|CN 2<|ZZ) k!) k!) kQ rfl
noncomputable def Gj:Code:=(Tryz.f13.body).getD .skip
theorem yg:Tryz.f13.body=some Gj:=by kernel_rfl
def bl (j:cz) (ai:List Int):Int×Int:=(bif (!decide (((aZ j ai).2)=0)) then (0,((aZ j ai).2)) else (bif (!((aZ j ai).1)) then (0,8) else ((nL j ai),0)))
theorem OC {d:Nat} {h:au} {ax:AV} (j:cz) (ai:List Int) (bH:aL.ok h j) (bm:b_ h .i64 3 ax ai) (bW:Tidy h):cR (d+14) (.fn 13) [(AV.agg [j.aj,j.ag]),ax] h= .ret (AV.tuple [(Zi ((bl j ai).1)),(Zi ((bl j ai).2))]) h:=by
 have fG:=bm.small
 have dP:=bH.1.small
 have dQ:=bH.2.small
 obtain ⟨h1,bM,cx,jc,aQ,cA⟩:=j_ bW (aM.cells [j.aj,j.ag] 25 false)
 have bt:Has h h1:=cA
 have k2:=Hr (d:=d) j ai (aL.mono bt bH) (bm.has bt) cx
 rcases Bool.eq_false_or_eq_true (!decide (((aZ j ai).2)=0)) with f0 | f0
 · have dO:=BI f0
   have e:bl j ai=(0,((aZ j ai).2)):=by simp only[bl,f0,cond_true,cond_false]
   rw[e]
   exact aD rfl (bb Tryz.func13 yg rfl (.inr rfl) (pk (d+13) _ _ h _ h1 (NN bM (fun i=>(Pt i))<|CN 2<|MM (aw 25 0 (AV.agg [j.aj,j.ag]) aQ k!)<|CC<|EE k2<|CN 6<|VV (eu 29 false true .i64 ((aZ j ai).2) 0)<|CC<|BB f0<|CN 3<|ZZ) k!) k!) bt rfl
 · have dO:=BJ f0
   rcases Bool.eq_false_or_eq_true (!((aZ j ai).1)) with f1 | f1
   · have e:bl j ai=(0,8):=by simp only[bl,f0,f1,cond_true,cond_false]
     rw[e]
     exact aD rfl (bb Tryz.func13 yg rfl (.inr rfl) (pk (d+13) _ _ h _ h1 (NN bM (fun i=>(Pt i))<|CN 2<|MM (aw 25 0 (AV.agg [j.aj,j.ag]) aQ k!)<|CC<|EE k2<|CN 6<|VV (eu 29 false true .i64 ((aZ j ai).2) 0)<|CC<|BB f0<|CN 3<|BB f1<|CN 2<|ZZ) k!) k!) bt rfl
   · have k5:=Jx (d:=d+11) j ai (aL.mono bt bH) (bm.has bt) (by first | omega | assumption | exact (Ow (by assumption)).2) cx
     have e:bl j ai=((nL j ai),0):=by simp only[bl,f0,f1,cond_true,cond_false]
     rw[e]
     exact aD rfl (bb Tryz.func13 yg rfl (.inr rfl) (pk (d+13) _ _ h _ h1 (NN bM (fun i=>(Pt i))<|CN 2<|MM (aw 25 0 (AV.agg [j.aj,j.ag]) aQ k!)<|CC<|EE k2<|CN 6<|VV (eu 29 false true .i64 ((aZ j ai).2) 0)<|CC<|BB f0<|CN 3<|BM f1 (aw 25 0 (AV.agg [j.aj,j.ag]) aQ k!)<|CC<|EE k5<|CN 2<|ZZ) k!) k!) bt rfl
noncomputable def Jy:Code:=(Tryz.f6.body).getD .skip
theorem Hv:Tryz.f6.body=some Jy:=by kernel_rfl
def aY (j:cz):List Int×Int:=(bif (!decide ((bG j)=0)) then ([],(bG j)) else ((dh j.ab),0))
theorem Sa {d:Nat} {h:au} (j:cz) (bH:aL.ok h j) (bW:Tidy h):∃z hk,cR (d+12) (.fn 6) [(AV.agg [j.aj,j.ag])] h= .ret (AV.tuple [z,(Zi ((aY j).2))]) hk∧bF h hk∧b_ hk .i64 3 z (aY j).1∧g7 3 h hk z (zs .i64 (aY j).1):=by
 have dP:=bH.1.small
 have dQ:=bH.2.small
 obtain ⟨h1,bM,cx,jc,aQ,cA⟩:=j_ bW (aM.cells [j.aj,j.ag] 25 false)
 have bt:Has h h1:=cA
 have k2:=Ba (d:=d) j (aL.mono bt bH) cx
 rcases Bool.eq_false_or_eq_true (!decide ((bG j)=0)) with f0 | f0
 · have dO:=BI f0
   have e:aY j=([],(bG j)):=by simp only[aY,f0,cond_true,cond_false]
   rw[e]
   exact ⟨.aH,ju rfl (bb Tryz.func6 Hv rfl (.inr rfl) (pk (d+11) _ _ h _ h1 (NN bM (fun i=>(Pt i))<|CN 2<|MM (aw 25 0 (AV.agg [j.aj,j.ag]) aQ k!)<|EE k2<|CN 2<|VV (eu 29 false true .i64 (bG j) 0)<|BB f0<|CN 3<|ZZ) k!) k!) bW ⟨cx,bt,by omega⟩ (P:=fun hh=>b_ hh .i64 3 .aH []∧g7 3 h hh .aH (zs .i64 [])) ⟨b_.nil k! k!,.inl ⟨rfl,rfl⟩⟩ fun _=>⟨b_.nil k! k!,.inl ⟨rfl,rfl⟩⟩⟩
 · have dO:=BJ f0
   obtain ⟨z4,h6,Jv,fq,fz5,ZA⟩:=BU (d:=d+5) j.ab (bH.1.has bt) (by first | omega | assumption | exact (kW (by assumption)).nb | exact Nat.le_trans (kW (by assumption)).nt (by decide)) (by first | omega | assumption | exact (kW (by assumption)).nb | exact Nat.le_trans (kW (by assumption)).nt (by decide)) cx
   have jf:=fq.y
   have NM:h1.nx≤h6.nx:=fq.n
   have ia:Has h h6:=bt.trans fq.a
   have aaW:=fz5.small
   have e:aY j=((dh j.ab),0):=by simp only[aY,f0,cond_true,cond_false]
   rw[e]
   have oz:=g7.le (h0:=h) ZA o!
   exact ⟨z4,ju rfl (bb Tryz.func6 Hv rfl (.inr rfl) (pk (d+11) _ _ h _ h6 (NN bM (fun i=>(Pt i))<|CN 2<|MM (aw 25 0 (AV.agg [j.aj,j.ag]) aQ k!)<|EE k2<|CN 2<|VV (eu 29 false true .i64 (bG j) 0)<|BC f0<|MM (aw 22 0 j.aj aQ k!)<|EE Jv<|CN 2<|ZZ) k!) k!) bW ⟨jf,ia,by omega⟩ (P:=fun hh=>b_ hh .i64 3 z4 (dh j.ab)∧g7 3 h hh z4 (zs .i64 (dh j.ab))) ⟨oz.zs o! k! k!,oz⟩ fun v=>⟨oz.K2 (CG v) k! k!,oz.K4 (CG v)⟩⟩
end Go.Proofs.aP
