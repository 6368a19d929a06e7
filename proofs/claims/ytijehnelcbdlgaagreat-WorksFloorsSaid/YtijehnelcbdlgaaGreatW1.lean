import Derived.Test.YtijehnelcbdlgaaGreatW0
namespace Go.Proofs.aE
open Go.Proofs Ab
noncomputable section
set_option maxRecDepth 100000
set_option maxHeartbeats 4000000
set_option linter.unusedVariables false
set_option linter.unusedSimpArgs false
def n5:Code:=(Tryz.f6.body).getD .skip
theorem Ej:Tryz.f6.body=some n5:=by kernel_rfl
def IC:Code:=(bz n5).getD 0 .skip
def ID:Code:=(bz n5).getD 1 .skip
def gd:Code:=(jU n5).getD 1 .skip
def jV (j:cF):Nat→Nat→Int→Int
 | 0,_,aN=>aN
 | c7+1,i0,aN=>jV j c7 (i0+1) (IntKind.i64.wrap ((IntKind.i64.wrap (aN+(((j.ae.g i0).off.length:Nat):Int)))+(IntKind.i64.wrap (Int.tdiv ((List.length ((j.ae.g i0).name):Nat):Int) 20))))
theorem xm {d:Nat} {h:ak} (j:cF) (bh:Nat) (aO:aH h j.ah j.ab) (bL:aH h j.ag j.ae) (gS:aB.ok h j):∀(k_ i_:Nat) (aN:Int) (_:i_+k_=j.ae.length) (x:Nat→AV) (hh:ak) (az:Tidy hh) (aw:Has h hh) (aM:hh.get bh=some (aK.cells [j.ah,j.ag] 25 false)),bu (cA (d)) IC ⟨((x 0)::(x 1)::(Pt bh)::(x 3)::(x 4)::(Zi aN)::(Zn i_)::rx x 7 100 []),hh,[],.no⟩ (.exit 0) hh (fun r y=>((y 0)::(y 1)::(Pt bh)::(y 3)::(y 4)::(Zi r)::rx y 6 101 [])) (fun r=>True) (jV j k_ i_ aN)
 | 0,i0,aN,fK,x,hh,az,aw,aM=>by
   have bY:=aO.small
   have eD:=bL.small
   have jh:=az _ _ aM
   have dx:bJ (some (.slice 45)) (some j.ag)=some (Zn j.ae.length):=(bL.has aw).len
   have q2:(decide (((i0:Nat):Int)<((j.ae.length:Nat):Int)))=false:=d!
   exact bu.out aN rfl (pk (d) _ _ hh _ hh (CN 2<|MM (ao 23 1 j.ag aM k!)<|VV dx<|VV (aQ 3 false false .i64 ((i0:Nat):Int) ((j.ae.length:Nat):Int))<|BB q2<|ZZ) k!) (bC.refl az) trivial k!
 | c7+1,i0,aN,fK,x,hh,az,aw,aM=>by
   have bY:=aO.small
   have eD:=bL.small
   have jh:=az _ _ aM
   have dx:bJ (some (.slice 45)) (some j.ag)=some (Zn j.ae.length):=(bL.has aw).len
   have q2:(decide (((i0:Nat):Int)<((j.ae.length:Nat):Int)))=true:=d!
   obtain ⟨p4,q5,jW⟩:=(bL.has aw).elem (i:=i0) o!
   have kV:b_ env (some (.slice 45)) (some j.ag) (some (Zn i0))=some (AV.ptr p4 q5):=jW
   have lX:bm env hh 43 (AV.ptr p4 (q5+2))=some ((j.ae.g i0).cE):=(bL.has aw).part (t:=43) (j:=2) o! jW k! rfl
   have T_:bJ (some (.slice 52)) (some (j.ae.g i0).cE)=some (Zn (j.ae.g i0).off.length):=(((bL.has aw).ok (i:=i0) o!).2).len
   obtain ⟨p9,JM,xn⟩:=(bL.has aw).elem (i:=i0) o!
   have OF:b_ env (some (.slice 45)) (some j.ag) (some (Zn i0))=some (AV.ptr p9 JM):=xn
   have uH:bm env hh 9 (AV.ptr p9 (JM+0))=some (AV.str (j.ae.g i0).name):=(bL.has aw).part (t:=9) (j:=0) o! xn k! rfl
   have afS:((j.ae.g i0).name).length<2^60:=((bL.has aw).ok (i:=i0) o!).1
   have IE:AV.same 20 j.ag j.ag=true:=(bL.has aw).same 19
   have RL:AV.same 20 (j.ae.g i0).cE (j.ae.g i0).cE=true:=(((bL.has aw).ok (i:=i0) o!).2).same 19
   have T':=ew 3 false true i0 1 o!
   exact bu.round (by simp only[jV,aj,af]) (pk (d) _ _ hh _ hh (CN 2<|MM (ao 23 1 j.ag aM k!)<|VV dx<|VV (aQ 3 false false .i64 ((i0:Nat):Int) ((j.ae.length:Nat):Int))<|BB q2<|CN 2<|MM (ao 23 1 j.ag aM k!)<|CC<|VV kV<|CC<|MM lX<|VV T_<|CN 2<|MM (ao 23 1 j.ag aM k!)<|CC<|VV OF<|CC<|MM uH<|CN 4<|HH (ao 23 1 j.ag aM k!)<|HH IE<|HH lX<|HH RL<|HH (ao 23 1 j.ag aM k!)<|HH IE<|HH uH<|HH (show AV.same 20 (AV.str (j.ae.g i0).name) (AV.str (j.ae.g i0).name)=true from fT 19 _)<|CC<|VV T'<|CC<|ZZ) k!) (bC.refl az) _ k! (fun x=>xm j bh aO bL gS c7 (i0+1) (IntKind.i64.wrap ((IntKind.i64.wrap (aN+(((j.ae.g i0).off.length:Nat):Int)))+(IntKind.i64.wrap (Int.tdiv ((List.length ((j.ae.g i0).name):Nat):Int) 20)))) o! x hh az aw aM)
def lx (j:cF):Nat→Nat→Int→Int
 | 0,_,dj=>dj
 | n8+1,i1,dj=>(bif (decide (dj<1000)) then lx j n8 (i1+1) (IntKind.i64.wrap ((IntKind.i64.wrap ((IntKind.i64.wrap (dj+(((j.ab.g i1).aq.length:Nat):Int)))+(((j.ab.g i1).aF.length:Nat):Int)))+(IntKind.i64.wrap (Int.tdiv ((List.length ((j.ab.g i1).name):Nat):Int) 20)))) else dj)
theorem xp {d:Nat} {h:ak} (j:cF) (dL:Nat) (ct:aH h j.ah j.ab) (fO:aH h j.ag j.ae) (qv:aB.ok h j):∀(k_ i_:Nat) (dj:Int) (_:i_+k_=j.ab.length) (x:Nat→AV) (hh:ak) (az:Tidy hh) (aw:Has h hh) (ca:hh.get dL=some (aK.cells [j.ah,j.ag] 25 false)),bu (cA (d)) ID ⟨((x 0)::(x 1)::(Pt dL)::(x 3)::(x 4)::(Zi dj)::(x 6)::(Zn i_)::rx x 8 99 []),hh,[],.no⟩ (.exit 2) hh (fun r y=>((y 0)::(y 1)::(Pt dL)::(y 3)::(y 4)::(Zi r)::rx y 6 101 [])) (fun r=>True) (lx j k_ i_ dj)
 | 0,i1,dj,fK,x,hh,az,aw,ca=>by
   have kK:=ct.small
   have jr:=fO.small
   have so:=az _ _ ca
   have dx:bJ (some (.slice 48)) (some j.ah)=some (Zn j.ab.length):=(ct.has aw).len
   have q2:(decide (((i1:Nat):Int)<((j.ab.length:Nat):Int)))=false:=d!
   exact bu.out dj rfl (pk (d) _ _ hh _ hh (CN 2<|MM (ao 22 0 j.ah ca k!)<|VV dx<|VV (aQ 3 false false .i64 ((i1:Nat):Int) ((j.ab.length:Nat):Int))<|CC<|BB q2<|BV q2 (vK false q2)<|FF<|ZZ) k!) (bC.refl az) trivial k!
 | n8+1,i1,dj,fK,x,hh,az,aw,ca=>by
   have kK:=ct.small
   have jr:=fO.small
   have so:=az _ _ ca
   have dx:bJ (some (.slice 48)) (some j.ah)=some (Zn j.ab.length):=(ct.has aw).len
   have q2:(decide (((i1:Nat):Int)<((j.ab.length:Nat):Int)))=true:=d!
   rcases Bool.eq_false_or_eq_true (decide (dj<1000)) with f1 | f1
   · have ea:=of_decide_eq_true f1
     obtain ⟨p5,q6,IF⟩:=(ct.has aw).elem (i:=i1) o!
     have OG:b_ env (some (.slice 48)) (some j.ah) (some (Zn i1))=some (AV.ptr p5 q6):=IF
     have VO:bm env hh 26 (AV.ptr p5 (q6+2))=some ((j.ab.g i1).aG):=(ct.has aw).part (t:=26) (j:=2) o! IF k! rfl
     have IG:bJ (some (.slice 3)) (some (j.ab.g i1).aG)=some (Zn (j.ab.g i1).aq.length):=(((ct.has aw).ok (i:=i1) o!).2.1).len
     obtain ⟨Xy,Xz,IH⟩:=(ct.has aw).elem (i:=i1) o!
     have ix9:b_ env (some (.slice 48)) (some j.ah) (some (Zn i1))=some (AV.ptr Xy Xz):=IH
     have F1:bm env hh 46 (AV.ptr Xy (Xz+3))=some ((j.ab.g i1).bq):=(ct.has aw).part (t:=46) (j:=3) o! IH k! rfl
     have ad2:bJ (some (.slice 50)) (some (j.ab.g i1).bq)=some (Zn (j.ab.g i1).aF.length):=(((ct.has aw).ok (i:=i1) o!).2.2).len
     obtain ⟨p15,q16,II⟩:=(ct.has aw).elem (i:=i1) o!
     have Zf:b_ env (some (.slice 48)) (some j.ah) (some (Zn i1))=some (AV.ptr p15 q16):=II
     have RM:bm env hh 9 (AV.ptr p15 (q16+0))=some (AV.str (j.ab.g i1).name):=(ct.has aw).part (t:=9) (j:=0) o! II k! rfl
     have afT:((j.ab.g i1).name).length<2^60:=((ct.has aw).ok (i:=i1) o!).1
     have c19:AV.same 20 j.ah j.ah=true:=(ct.has aw).same 19
     have PH:AV.same 20 (j.ab.g i1).aG (j.ab.g i1).aG=true:=(((ct.has aw).ok (i:=i1) o!).2.1).same 19
     have c21:AV.same 20 (j.ab.g i1).bq (j.ab.g i1).bq=true:=(((ct.has aw).ok (i:=i1) o!).2.2).same 19
     have u22:=ew 3 false true i1 1 o!
     exact bu.round (by simp only[lx,f1,aj,af]) (pk (d) _ _ hh _ hh (CN 2<|MM (ao 22 0 j.ah ca k!)<|VV dx<|VV (aQ 3 false false .i64 ((i1:Nat):Int) ((j.ab.length:Nat):Int))<|CC<|BC q2<|BV q2 (aQ 3 false true .i64 dj 1000)<|VV (nK (decide (dj<1000)) false q2)<|BB f1<|CN 2<|MM (ao 22 0 j.ah ca k!)<|CC<|VV OG<|CC<|MM VO<|VV IG<|CN 2<|MM (ao 22 0 j.ah ca k!)<|CC<|VV ix9<|CC<|MM F1<|VV ad2<|CN 2<|MM (ao 22 0 j.ah ca k!)<|CC<|VV Zf<|CC<|MM RM<|CN 4<|HH (ao 22 0 j.ah ca k!)<|HH c19<|HH VO<|HH PH<|HH (ao 22 0 j.ah ca k!)<|HH c19<|HH F1<|HH c21<|HH (ao 22 0 j.ah ca k!)<|HH c19<|HH RM<|HH (show AV.same 20 (AV.str (j.ab.g i1).name) (AV.str (j.ab.g i1).name)=true from fT 19 _)<|CC<|VV u22<|CC<|ZZ) k!) (bC.refl az) _ k! (fun x=>xp j dL ct fO qv n8 (i1+1) (IntKind.i64.wrap ((IntKind.i64.wrap ((IntKind.i64.wrap (dj+(((j.ab.g i1).aq.length:Nat):Int)))+(((j.ab.g i1).aF.length:Nat):Int)))+(IntKind.i64.wrap (Int.tdiv ((List.length ((j.ab.g i1).name):Nat):Int) 20)))) o! x hh az aw ca)
   · have ea:=of_decide_eq_false f1
     exact bu.out dj (by simp only[lx,f1,aj,af]) (pk (d) _ _ hh _ hh (CN 2<|MM (ao 22 0 j.ah ca k!)<|VV dx<|VV (aQ 3 false false .i64 ((i1:Nat):Int) ((j.ab.length:Nat):Int))<|CC<|BC q2<|BV q2 (aQ 3 false true .i64 dj 1000)<|VV (nK (decide (dj<1000)) false q2)<|BB f1<|ZZ) k!) (bC.refl az) trivial k!
def eR (j:cF) (ab:Int):Bool:=(bif (bif (decide (ab<((j.ab.length:Nat):Int))) then (bif (decide (((j.ab.length:Nat):Int)≤64)) then true else (bif (decide (80<((j.ab.length:Nat):Int))) then true else (bif (decide (4<((j.ae.length:Nat):Int))) then (bif (decide (((j.ae.length:Nat):Int)≤16)) then true else (decide (20<((j.ae.length:Nat):Int)))) else (decide (20<((j.ae.length:Nat):Int)))))) else (bif (decide (80<((j.ab.length:Nat):Int))) then true else (bif (decide (4<((j.ae.length:Nat):Int))) then (bif (decide (((j.ae.length:Nat):Int)≤16)) then true else (decide (20<((j.ae.length:Nat):Int)))) else (decide (20<((j.ae.length:Nat):Int)))))) then true else (decide (120<(lx j j.ab.length 0 (jV j j.ae.length 0 0)))))
theorem OH {d:Nat} {h:ak} (j:cF) (ab:Int) (bF:aB.ok h j) (bM:Tidy h):cA (d+1) (.fn 6) [(AV.agg [j.ah,j.ag]),(Zi ab)] h= .ret (AV.bool (eR j ab)) h:=by
 have eS:=bF.1.small
 have eT:=bF.2.small
 obtain ⟨h1,bD,cb,ib,aI,cf⟩:=ik bM (aK.cells [j.ah,j.ag] 25 false)
 have bx:Has h h1:=cf
 obtain ⟨JN,B3⟩:∃JN:Nat→AV,Ev env (cA (d)) gd ⟨((AV.agg [j.ah,j.ag])::(Zi ab)::(Pt h.nx)::AV.undef::(AV.bool false)::gB 102),h1,[],.no⟩ .normal ⟨((AV.agg [j.ah,j.ag])::(Zi ab)::(Pt h.nx)::AV.undef::(AV.bool false)::AV.undef::AV.undef::AV.undef::rx JN 8 34 ((AV.bool (bif (decide (ab<((j.ab.length:Nat):Int))) then (bif (decide (((j.ab.length:Nat):Int)≤64)) then true else (bif (decide (80<((j.ab.length:Nat):Int))) then true else (bif (decide (4<((j.ae.length:Nat):Int))) then (bif (decide (((j.ae.length:Nat):Int)≤16)) then true else (decide (20<((j.ae.length:Nat):Int)))) else (decide (20<((j.ae.length:Nat):Int)))))) else (bif (decide (80<((j.ab.length:Nat):Int))) then true else (bif (decide (4<((j.ae.length:Nat):Int))) then (bif (decide (((j.ae.length:Nat):Int)≤16)) then true else (decide (20<((j.ae.length:Nat):Int)))) else (decide (20<((j.ae.length:Nat):Int)))))))::gB 64)),h1,[],.no⟩:=by
  have pB:bJ (some (.slice 48)) (some j.ah)=some (Zn j.ab.length):=bF.1.len
  rcases Bool.eq_false_or_eq_true (decide (ab<((j.ab.length:Nat):Int))) with f0 | f0
  · have fw:=of_decide_eq_true f0
    have JO:bJ (some (.slice 48)) (some j.ah)=some (Zn j.ab.length):=bF.1.len
    rcases Bool.eq_false_or_eq_true (decide (((j.ab.length:Nat):Int)≤64)) with f1 | f1
    · have ea:=of_decide_eq_true f1
      have ev:=pk (d) gd ((AV.agg [j.ah,j.ag])::(Zi ab)::(Pt h.nx)::AV.undef::(AV.bool false)::gB 102) h1 .normal h1 (CC<|MM (ao 22 0 j.ah aI k!)<|VV pB<|CC<|VV (bK 3 false false .i64 ((j.ab.length:Nat):Int) ab)<|CC<|BC f0<|BM f0 (ao 22 0 j.ah aI k!)<|BV f0 JO<|BV f0 (kI 3 false true .i64 ((j.ab.length:Nat):Int) 64)<|VV (nK (decide (((j.ab.length:Nat):Int)≤64)) false f0)<|CC<|BB f1<|BB f1<|BB f1<|BV f1 (qI true f1)<|CC<|TT<|TT<|TT<|TT<|TT<|TT<|CN 2<|TT<|TT<|TT<|TT<|CC<|ZZ) k!
      rw[show (bif (decide (ab<((j.ab.length:Nat):Int))) then (bif (decide (((j.ab.length:Nat):Int)≤64)) then true else (bif (decide (80<((j.ab.length:Nat):Int))) then true else (bif (decide (4<((j.ae.length:Nat):Int))) then (bif (decide (((j.ae.length:Nat):Int)≤16)) then true else (decide (20<((j.ae.length:Nat):Int)))) else (decide (20<((j.ae.length:Nat):Int)))))) else (bif (decide (80<((j.ab.length:Nat):Int))) then true else (bif (decide (4<((j.ae.length:Nat):Int))) then (bif (decide (((j.ae.length:Nat):Int)≤16)) then true else (decide (20<((j.ae.length:Nat):Int)))) else (decide (20<((j.ae.length:Nat):Int))))))=true by simp only[f0,f1,aj,af]]
      exact jJ ev k!
    · have ea:=of_decide_eq_false f1
      have AW:bJ (some (.slice 48)) (some j.ah)=some (Zn j.ab.length):=bF.1.len
      rcases Bool.eq_false_or_eq_true (decide (80<((j.ab.length:Nat):Int))) with f2 | f2
      · have jX:=of_decide_eq_true f2
        have ev:=pk (d) gd ((AV.agg [j.ah,j.ag])::(Zi ab)::(Pt h.nx)::AV.undef::(AV.bool false)::gB 102) h1 .normal h1 (CC<|MM (ao 22 0 j.ah aI k!)<|VV pB<|CC<|VV (bK 3 false false .i64 ((j.ab.length:Nat):Int) ab)<|CC<|BC f0<|BM f0 (ao 22 0 j.ah aI k!)<|BV f0 JO<|BV f0 (kI 3 false true .i64 ((j.ab.length:Nat):Int) 64)<|VV (nK (decide (((j.ab.length:Nat):Int)≤64)) false f0)<|CC<|BC f1<|BM f1 (ao 22 0 j.ah aI k!)<|BV f1 AW<|BV f1 (bK 3 false true .i64 ((j.ab.length:Nat):Int) 80)<|VV (bf (a:=some (AV.bool true)) (b:=some (AV.bool (decide (80<((j.ab.length:Nat):Int))))) f1)<|CC<|BB f2<|BB f2<|BB f2<|BB f2<|BB f2<|BV f2 (qI true f2)<|CC<|TT<|TT<|TT<|TT<|CC<|ZZ) k!
        rw[show (bif (decide (ab<((j.ab.length:Nat):Int))) then (bif (decide (((j.ab.length:Nat):Int)≤64)) then true else (bif (decide (80<((j.ab.length:Nat):Int))) then true else (bif (decide (4<((j.ae.length:Nat):Int))) then (bif (decide (((j.ae.length:Nat):Int)≤16)) then true else (decide (20<((j.ae.length:Nat):Int)))) else (decide (20<((j.ae.length:Nat):Int)))))) else (bif (decide (80<((j.ab.length:Nat):Int))) then true else (bif (decide (4<((j.ae.length:Nat):Int))) then (bif (decide (((j.ae.length:Nat):Int)≤16)) then true else (decide (20<((j.ae.length:Nat):Int)))) else (decide (20<((j.ae.length:Nat):Int))))))=true by simp only[f0,f1,f2,aj,af]]
        exact jJ ev k!
      · have jX:=of_decide_eq_false f2
        have IG:bJ (some (.slice 45)) (some j.ag)=some (Zn j.ae.length):=bF.2.len
        rcases Bool.eq_false_or_eq_true (decide (4<((j.ae.length:Nat):Int))) with f3 | f3
        · have mu:=of_decide_eq_true f3
          have pO:bJ (some (.slice 45)) (some j.ag)=some (Zn j.ae.length):=bF.2.len
          rcases Bool.eq_false_or_eq_true (decide (((j.ae.length:Nat):Int)≤16)) with f4 | f4
          · have tj:=of_decide_eq_true f4
            have ev:=pk (d) gd ((AV.agg [j.ah,j.ag])::(Zi ab)::(Pt h.nx)::AV.undef::(AV.bool false)::gB 102) h1 .normal h1 (CC<|MM (ao 22 0 j.ah aI k!)<|VV pB<|CC<|VV (bK 3 false false .i64 ((j.ab.length:Nat):Int) ab)<|CC<|BC f0<|BM f0 (ao 22 0 j.ah aI k!)<|BV f0 JO<|BV f0 (kI 3 false true .i64 ((j.ab.length:Nat):Int) 64)<|VV (nK (decide (((j.ab.length:Nat):Int)≤64)) false f0)<|CC<|BC f1<|BM f1 (ao 22 0 j.ah aI k!)<|BV f1 AW<|BV f1 (bK 3 false true .i64 ((j.ab.length:Nat):Int) 80)<|VV (bf (a:=some (AV.bool true)) (b:=some (AV.bool (decide (80<((j.ab.length:Nat):Int))))) f1)<|CC<|BC f2<|BM f2 (ao 23 1 j.ag aI k!)<|BV f2 IG<|BV f2 (bK 3 false true .i64 ((j.ae.length:Nat):Int) 4)<|BC f2<|BC f3<|BM f3 (ao 23 1 j.ag aI k!)<|BV f3 pO<|BV f3 (kI 3 false true .i64 ((j.ae.length:Nat):Int) 16)<|BV f2 (nK (decide (((j.ae.length:Nat):Int)≤16)) false f3)<|VV (bf (a:=some (AV.bool true)) (b:=some (AV.bool (decide (((j.ae.length:Nat):Int)≤16)))) f2)<|CC<|BB f4<|BB f4<|BB f4<|BV f4 (qI true f4)<|ZZ) k!
            rw[show (bif (decide (ab<((j.ab.length:Nat):Int))) then (bif (decide (((j.ab.length:Nat):Int)≤64)) then true else (bif (decide (80<((j.ab.length:Nat):Int))) then true else (bif (decide (4<((j.ae.length:Nat):Int))) then (bif (decide (((j.ae.length:Nat):Int)≤16)) then true else (decide (20<((j.ae.length:Nat):Int)))) else (decide (20<((j.ae.length:Nat):Int)))))) else (bif (decide (80<((j.ab.length:Nat):Int))) then true else (bif (decide (4<((j.ae.length:Nat):Int))) then (bif (decide (((j.ae.length:Nat):Int)≤16)) then true else (decide (20<((j.ae.length:Nat):Int)))) else (decide (20<((j.ae.length:Nat):Int))))))=true by simp only[f0,f1,f2,f3,f4,aj,af]]
            exact jJ ev k!
          · have tj:=of_decide_eq_false f4
            have KL:bJ (some (.slice 45)) (some j.ag)=some (Zn j.ae.length):=bF.2.len
            have ev:=pk (d) gd ((AV.agg [j.ah,j.ag])::(Zi ab)::(Pt h.nx)::AV.undef::(AV.bool false)::gB 102) h1 .normal h1 (CC<|MM (ao 22 0 j.ah aI k!)<|VV pB<|CC<|VV (bK 3 false false .i64 ((j.ab.length:Nat):Int) ab)<|CC<|BC f0<|BM f0 (ao 22 0 j.ah aI k!)<|BV f0 JO<|BV f0 (kI 3 false true .i64 ((j.ab.length:Nat):Int) 64)<|VV (nK (decide (((j.ab.length:Nat):Int)≤64)) false f0)<|CC<|BC f1<|BM f1 (ao 22 0 j.ah aI k!)<|BV f1 AW<|BV f1 (bK 3 false true .i64 ((j.ab.length:Nat):Int) 80)<|VV (bf (a:=some (AV.bool true)) (b:=some (AV.bool (decide (80<((j.ab.length:Nat):Int))))) f1)<|CC<|BC f2<|BM f2 (ao 23 1 j.ag aI k!)<|BV f2 IG<|BV f2 (bK 3 false true .i64 ((j.ae.length:Nat):Int) 4)<|BC f2<|BC f3<|BM f3 (ao 23 1 j.ag aI k!)<|BV f3 pO<|BV f3 (kI 3 false true .i64 ((j.ae.length:Nat):Int) 16)<|BV f2 (nK (decide (((j.ae.length:Nat):Int)≤16)) false f3)<|VV (bf (a:=some (AV.bool true)) (b:=some (AV.bool (decide (((j.ae.length:Nat):Int)≤16)))) f2)<|CC<|BC f4<|BM f4 (ao 23 1 j.ag aI k!)<|BV f4 KL<|BV f4 (bK 3 false true .i64 ((j.ae.length:Nat):Int) 20)<|VV (bf (a:=some (AV.bool true)) (b:=some (AV.bool (decide (20<((j.ae.length:Nat):Int))))) f4)<|ZZ) k!
            rw[show (bif (decide (ab<((j.ab.length:Nat):Int))) then (bif (decide (((j.ab.length:Nat):Int)≤64)) then true else (bif (decide (80<((j.ab.length:Nat):Int))) then true else (bif (decide (4<((j.ae.length:Nat):Int))) then (bif (decide (((j.ae.length:Nat):Int)≤16)) then true else (decide (20<((j.ae.length:Nat):Int)))) else (decide (20<((j.ae.length:Nat):Int)))))) else (bif (decide (80<((j.ab.length:Nat):Int))) then true else (bif (decide (4<((j.ae.length:Nat):Int))) then (bif (decide (((j.ae.length:Nat):Int)≤16)) then true else (decide (20<((j.ae.length:Nat):Int)))) else (decide (20<((j.ae.length:Nat):Int))))))=(decide (20<((j.ae.length:Nat):Int))) by simp only[f0,f1,f2,f3,f4,aj,af]]
            exact jJ ev k!
        · have mu:=of_decide_eq_false f3
          have pO:bJ (some (.slice 45)) (some j.ag)=some (Zn j.ae.length):=bF.2.len
          have ev:=pk (d) gd ((AV.agg [j.ah,j.ag])::(Zi ab)::(Pt h.nx)::AV.undef::(AV.bool false)::gB 102) h1 .normal h1 (CC<|MM (ao 22 0 j.ah aI k!)<|VV pB<|CC<|VV (bK 3 false false .i64 ((j.ab.length:Nat):Int) ab)<|CC<|BC f0<|BM f0 (ao 22 0 j.ah aI k!)<|BV f0 JO<|BV f0 (kI 3 false true .i64 ((j.ab.length:Nat):Int) 64)<|VV (nK (decide (((j.ab.length:Nat):Int)≤64)) false f0)<|CC<|BC f1<|BM f1 (ao 22 0 j.ah aI k!)<|BV f1 AW<|BV f1 (bK 3 false true .i64 ((j.ab.length:Nat):Int) 80)<|VV (bf (a:=some (AV.bool true)) (b:=some (AV.bool (decide (80<((j.ab.length:Nat):Int))))) f1)<|CC<|BC f2<|BM f2 (ao 23 1 j.ag aI k!)<|BV f2 IG<|BV f2 (bK 3 false true .i64 ((j.ae.length:Nat):Int) 4)<|BC f2<|BB f3<|BB f3<|BB f3<|BB f3<|BV f2 (vK false f3)<|VV (pcf true false f2)<|CC<|FF<|CC<|FF<|MM (ao 23 1 j.ag aI k!)<|FF<|VV pO<|FF<|VV (bK 3 false true .i64 ((j.ae.length:Nat):Int) 20)<|CC<|ZZ) k!
          rw[show (bif (decide (ab<((j.ab.length:Nat):Int))) then (bif (decide (((j.ab.length:Nat):Int)≤64)) then true else (bif (decide (80<((j.ab.length:Nat):Int))) then true else (bif (decide (4<((j.ae.length:Nat):Int))) then (bif (decide (((j.ae.length:Nat):Int)≤16)) then true else (decide (20<((j.ae.length:Nat):Int)))) else (decide (20<((j.ae.length:Nat):Int)))))) else (bif (decide (80<((j.ab.length:Nat):Int))) then true else (bif (decide (4<((j.ae.length:Nat):Int))) then (bif (decide (((j.ae.length:Nat):Int)≤16)) then true else (decide (20<((j.ae.length:Nat):Int)))) else (decide (20<((j.ae.length:Nat):Int))))))=(decide (20<((j.ae.length:Nat):Int))) by simp only[f0,f1,f2,f3,aj,af]]
          exact jJ ev k!
  · have fw:=of_decide_eq_false f0
    have JO:bJ (some (.slice 48)) (some j.ah)=some (Zn j.ab.length):=bF.1.len
    rcases Bool.eq_false_or_eq_true (decide (80<((j.ab.length:Nat):Int))) with f1 | f1
    · have ea:=of_decide_eq_true f1
      have ev:=pk (d) gd ((AV.agg [j.ah,j.ag])::(Zi ab)::(Pt h.nx)::AV.undef::(AV.bool false)::gB 102) h1 .normal h1 (CC<|MM (ao 22 0 j.ah aI k!)<|VV pB<|CC<|VV (bK 3 false false .i64 ((j.ab.length:Nat):Int) ab)<|CC<|BB f0<|BB f0<|BB f0<|BV f0 (vK false f0)<|CC<|FF<|CC<|FF<|MM (ao 22 0 j.ah aI k!)<|FF<|VV JO<|FF<|VV (bK 3 false true .i64 ((j.ab.length:Nat):Int) 80)<|CN 2<|BB f1<|BB f1<|BB f1<|BB f1<|BB f1<|BV f1 (qI true f1)<|CC<|TT<|TT<|TT<|TT<|CC<|ZZ) k!
      rw[show (bif (decide (ab<((j.ab.length:Nat):Int))) then (bif (decide (((j.ab.length:Nat):Int)≤64)) then true else (bif (decide (80<((j.ab.length:Nat):Int))) then true else (bif (decide (4<((j.ae.length:Nat):Int))) then (bif (decide (((j.ae.length:Nat):Int)≤16)) then true else (decide (20<((j.ae.length:Nat):Int)))) else (decide (20<((j.ae.length:Nat):Int)))))) else (bif (decide (80<((j.ab.length:Nat):Int))) then true else (bif (decide (4<((j.ae.length:Nat):Int))) then (bif (decide (((j.ae.length:Nat):Int)≤16)) then true else (decide (20<((j.ae.length:Nat):Int)))) else (decide (20<((j.ae.length:Nat):Int))))))=true by simp only[f0,f1,aj,af]]
      exact jJ ev k!
    · have ea:=of_decide_eq_false f1
      have AW:bJ (some (.slice 45)) (some j.ag)=some (Zn j.ae.length):=bF.2.len
      rcases Bool.eq_false_or_eq_true (decide (4<((j.ae.length:Nat):Int))) with f2 | f2
      · have jX:=of_decide_eq_true f2
        have IG:bJ (some (.slice 45)) (some j.ag)=some (Zn j.ae.length):=bF.2.len
        rcases Bool.eq_false_or_eq_true (decide (((j.ae.length:Nat):Int)≤16)) with f3 | f3
        · have mu:=of_decide_eq_true f3
          have ev:=pk (d) gd ((AV.agg [j.ah,j.ag])::(Zi ab)::(Pt h.nx)::AV.undef::(AV.bool false)::gB 102) h1 .normal h1 (CC<|MM (ao 22 0 j.ah aI k!)<|VV pB<|CC<|VV (bK 3 false false .i64 ((j.ab.length:Nat):Int) ab)<|CC<|BB f0<|BB f0<|BB f0<|BV f0 (vK false f0)<|CC<|FF<|CC<|FF<|MM (ao 22 0 j.ah aI k!)<|FF<|VV JO<|FF<|VV (bK 3 false true .i64 ((j.ab.length:Nat):Int) 80)<|CN 2<|BC f1<|BM f1 (ao 23 1 j.ag aI k!)<|BV f1 AW<|BV f1 (bK 3 false true .i64 ((j.ae.length:Nat):Int) 4)<|BC f1<|BC f2<|BM f2 (ao 23 1 j.ag aI k!)<|BV f2 IG<|BV f2 (kI 3 false true .i64 ((j.ae.length:Nat):Int) 16)<|BV f1 (nK (decide (((j.ae.length:Nat):Int)≤16)) false f2)<|VV (bf (a:=some (AV.bool true)) (b:=some (AV.bool (decide (((j.ae.length:Nat):Int)≤16)))) f1)<|CC<|BB f3<|BB f3<|BB f3<|BV f3 (qI true f3)<|ZZ) k!
          rw[show (bif (decide (ab<((j.ab.length:Nat):Int))) then (bif (decide (((j.ab.length:Nat):Int)≤64)) then true else (bif (decide (80<((j.ab.length:Nat):Int))) then true else (bif (decide (4<((j.ae.length:Nat):Int))) then (bif (decide (((j.ae.length:Nat):Int)≤16)) then true else (decide (20<((j.ae.length:Nat):Int)))) else (decide (20<((j.ae.length:Nat):Int)))))) else (bif (decide (80<((j.ab.length:Nat):Int))) then true else (bif (decide (4<((j.ae.length:Nat):Int))) then (bif (decide (((j.ae.length:Nat):Int)≤16)) then true else (decide (20<((j.ae.length:Nat):Int)))) else (decide (20<((j.ae.length:Nat):Int))))))=true by simp only[f0,f1,f2,f3,aj,af]]
          exact jJ ev k!
        · have mu:=of_decide_eq_false f3
          have pO:bJ (some (.slice 45)) (some j.ag)=some (Zn j.ae.length):=bF.2.len
          have ev:=pk (d) gd ((AV.agg [j.ah,j.ag])::(Zi ab)::(Pt h.nx)::AV.undef::(AV.bool false)::gB 102) h1 .normal h1 (CC<|MM (ao 22 0 j.ah aI k!)<|VV pB<|CC<|VV (bK 3 false false .i64 ((j.ab.length:Nat):Int) ab)<|CC<|BB f0<|BB f0<|BB f0<|BV f0 (vK false f0)<|CC<|FF<|CC<|FF<|MM (ao 22 0 j.ah aI k!)<|FF<|VV JO<|FF<|VV (bK 3 false true .i64 ((j.ab.length:Nat):Int) 80)<|CN 2<|BC f1<|BM f1 (ao 23 1 j.ag aI k!)<|BV f1 AW<|BV f1 (bK 3 false true .i64 ((j.ae.length:Nat):Int) 4)<|BC f1<|BC f2<|BM f2 (ao 23 1 j.ag aI k!)<|BV f2 IG<|BV f2 (kI 3 false true .i64 ((j.ae.length:Nat):Int) 16)<|BV f1 (nK (decide (((j.ae.length:Nat):Int)≤16)) false f2)<|VV (bf (a:=some (AV.bool true)) (b:=some (AV.bool (decide (((j.ae.length:Nat):Int)≤16)))) f1)<|CC<|BC f3<|BM f3 (ao 23 1 j.ag aI k!)<|BV f3 pO<|BV f3 (bK 3 false true .i64 ((j.ae.length:Nat):Int) 20)<|VV (bf (a:=some (AV.bool true)) (b:=some (AV.bool (decide (20<((j.ae.length:Nat):Int))))) f3)<|ZZ) k!
          rw[show (bif (decide (ab<((j.ab.length:Nat):Int))) then (bif (decide (((j.ab.length:Nat):Int)≤64)) then true else (bif (decide (80<((j.ab.length:Nat):Int))) then true else (bif (decide (4<((j.ae.length:Nat):Int))) then (bif (decide (((j.ae.length:Nat):Int)≤16)) then true else (decide (20<((j.ae.length:Nat):Int)))) else (decide (20<((j.ae.length:Nat):Int)))))) else (bif (decide (80<((j.ab.length:Nat):Int))) then true else (bif (decide (4<((j.ae.length:Nat):Int))) then (bif (decide (((j.ae.length:Nat):Int)≤16)) then true else (decide (20<((j.ae.length:Nat):Int)))) else (decide (20<((j.ae.length:Nat):Int))))))=(decide (20<((j.ae.length:Nat):Int))) by simp only[f0,f1,f2,f3,aj,af]]
          exact jJ ev k!
      · have jX:=of_decide_eq_false f2
        have IG:bJ (some (.slice 45)) (some j.ag)=some (Zn j.ae.length):=bF.2.len
        have ev:=pk (d) gd ((AV.agg [j.ah,j.ag])::(Zi ab)::(Pt h.nx)::AV.undef::(AV.bool false)::gB 102) h1 .normal h1 (CC<|MM (ao 22 0 j.ah aI k!)<|VV pB<|CC<|VV (bK 3 false false .i64 ((j.ab.length:Nat):Int) ab)<|CC<|BB f0<|BB f0<|BB f0<|BV f0 (vK false f0)<|CC<|FF<|CC<|FF<|MM (ao 22 0 j.ah aI k!)<|FF<|VV JO<|FF<|VV (bK 3 false true .i64 ((j.ab.length:Nat):Int) 80)<|CN 2<|BC f1<|BM f1 (ao 23 1 j.ag aI k!)<|BV f1 AW<|BV f1 (bK 3 false true .i64 ((j.ae.length:Nat):Int) 4)<|BC f1<|BB f2<|BB f2<|BB f2<|BB f2<|BV f1 (vK false f2)<|VV (pcf true false f1)<|CC<|FF<|CC<|FF<|MM (ao 23 1 j.ag aI k!)<|FF<|VV IG<|FF<|VV (bK 3 false true .i64 ((j.ae.length:Nat):Int) 20)<|CC<|ZZ) k!
        rw[show (bif (decide (ab<((j.ab.length:Nat):Int))) then (bif (decide (((j.ab.length:Nat):Int)≤64)) then true else (bif (decide (80<((j.ab.length:Nat):Int))) then true else (bif (decide (4<((j.ae.length:Nat):Int))) then (bif (decide (((j.ae.length:Nat):Int)≤16)) then true else (decide (20<((j.ae.length:Nat):Int)))) else (decide (20<((j.ae.length:Nat):Int)))))) else (bif (decide (80<((j.ab.length:Nat):Int))) then true else (bif (decide (4<((j.ae.length:Nat):Int))) then (bif (decide (((j.ae.length:Nat):Int)≤16)) then true else (decide (20<((j.ae.length:Nat):Int)))) else (decide (20<((j.ae.length:Nat):Int))))))=(decide (20<((j.ae.length:Nat):Int))) by simp only[f0,f1,f2,aj,af]]
        exact jJ ev k!
 rcases Bool.eq_false_or_eq_true (bif (decide (ab<((j.ab.length:Nat):Int))) then (bif (decide (((j.ab.length:Nat):Int)≤64)) then true else (bif (decide (80<((j.ab.length:Nat):Int))) then true else (bif (decide (4<((j.ae.length:Nat):Int))) then (bif (decide (((j.ae.length:Nat):Int)≤16)) then true else (decide (20<((j.ae.length:Nat):Int)))) else (decide (20<((j.ae.length:Nat):Int)))))) else (bif (decide (80<((j.ab.length:Nat):Int))) then true else (bif (decide (4<((j.ae.length:Nat):Int))) then (bif (decide (((j.ae.length:Nat):Int)≤16)) then true else (decide (20<((j.ae.length:Nat):Int)))) else (decide (20<((j.ae.length:Nat):Int)))))) with f0 | f0
 · have e:eR j ab=true:=by simp only[eR,f0,aj,af]
   rw[e]
   exact ax rfl (aR Tryz.func6 Ej rfl (.inr rfl) (pk (d) _ _ h _ h1 (NN bD (fun i=>(Pt i))<|CC<|LL B3<|BC f0<|ZZ) k!) k!) bx rfl
 · obtain ⟨tp,h5,cC,b4,pC⟩:=xm (d:=d) (h:=h) j h.nx bF.1 bF.2 bF j.ae.length 0 0 o! (fun k_=>(((AV.agg [j.ah,j.ag])::(Zi ab)::(Pt h.nx)::AV.undef::(AV.bool false)::(Zi 0)::(Zi 0)::AV.undef::rx JN 8 34 ((AV.bool (bif (decide (ab<((j.ab.length:Nat):Int))) then (bif (decide (((j.ab.length:Nat):Int)≤64)) then true else (bif (decide (80<((j.ab.length:Nat):Int))) then true else (bif (decide (4<((j.ae.length:Nat):Int))) then (bif (decide (((j.ae.length:Nat):Int)≤16)) then true else (decide (20<((j.ae.length:Nat):Int)))) else (decide (20<((j.ae.length:Nat):Int)))))) else (bif (decide (80<((j.ab.length:Nat):Int))) then true else (bif (decide (4<((j.ae.length:Nat):Int))) then (bif (decide (((j.ae.length:Nat):Int)≤16)) then true else (decide (20<((j.ae.length:Nat):Int)))) else (decide (20<((j.ae.length:Nat):Int)))))))::gB 64)):List AV).getD k_ AV.undef) h1 cb bx aI
   have js:=b4.y
   have ph:h1.nx≤h5.nx:=b4.n
   have eV:Has h h5:=bx.trans b4.a
   obtain ⟨yl6,h7,B4,pj,ac6⟩:=xp (d:=d) (h:=h) j h.nx bF.1 bF.2 bF j.ab.length 0 (jV j j.ae.length 0 0) o! (fun k_=>(((tp 0)::(tp 1)::(Pt h.nx)::(tp 3)::(tp 4)::(Zi (jV j j.ae.length 0 0))::(tp 6)::(Zi 0)::rx tp 8 99 []):List AV).getD k_ AV.undef) h5 js eV (b4.a _ _ aI)
   have eP:=pj.y
   have VP:h5.nx≤h7.nx:=pj.n
   have er:Has h h7:=eV.trans pj.a
   have VQ:Has h5 h7:=pj.a
   have e:eR j ab=(decide (120<(lx j j.ab.length 0 (jV j j.ae.length 0 0)))):=by simp only[eR,f0,aj,af]
   rw[e]
   exact ax rfl (aR Tryz.func6 Ej rfl (.inr rfl) (pk (d) _ _ h _ h7 (NN bD (fun i=>(Pt i))<|CC<|LL B3<|BB f0<|CN 2<|LL cC<|CC<|LL B4<|CC<|VV (bK 3 false true .i64 (lx j j.ab.length 0 (jV j j.ae.length 0 0)) 120)<|CC<|ZZ) k!) k!) er rfl
def zV:Code:=(Tryz.f10.body).getD .skip
theorem B5:Tryz.f10.body=some zV:=by kernel_rfl
def KM:Code:=(bz zV).getD 0 .skip
def lC (a:List Int) (b:List Int):Nat→Nat→Option (Bool)
 | 0,_=>none
 | c7+1,i0=>(bif (!decide ((a.g i0)=(b.g i0))) then some false else lC a b c7 (i0+1))
theorem tq {d:Nat} {h:ak} (aV:AV) (bV:AV) (a:List Int) (b:List Int) (aO:bW h .i64 3 aV a) (bL:bW h .i64 3 bV b) (gM:a.length=b.length):∀(k_ i_:Nat) (_:i_+k_=a.length) (x:Nat→AV) (hh:ak) (az:Tidy hh) (aw:Has h hh),aA (cA (d)) KM ⟨(aV::bV::rx x 2 3 ((Zn i_)::rx x 6 20 [])),hh,[],.no⟩ (.exit 0) hh (fun y=>(aV::bV::rx y 2 24 [])) (fun r y=>(aV::bV::(y 2)::(y 3)::(AV.bool r)::rx y 5 21 [])) (lC a b k_ i_)
 | 0,i0,fK,x,hh,az,aw=>by
   have bY:=aO.small
   have eD:=bL.small
   have dx:bJ (some (.slice 3)) (some aV)=some (Zn a.length):=(aO.has aw).len
   have q2:(decide (((i0:Nat):Int)<((a.length:Nat):Int)))=false:=d!
   exact aA.out rfl (pk (d) _ _ hh _ hh (CN 2<|VV dx<|VV (aQ 3 false false .i64 ((i0:Nat):Int) ((a.length:Nat):Int))<|BB q2<|ZZ) k!) (bC.refl az) k!
 | c7+1,i0,fK,x,hh,az,aw=>by
   have bY:=aO.small
   have eD:=bL.small
   have dx:bJ (some (.slice 3)) (some aV)=some (Zn a.length):=(aO.has aw).len
   have q2:(decide (((i0:Nat):Int)<((a.length:Nat):Int)))=true:=d!
   obtain ⟨p4,q5,jW,_⟩:=(aO.has aw).elem (i:=i0) o!
   have kV:b_ env (some (.slice 3)) (some aV) (some (Zn i0))=some (AV.ptr p4 q5):=jW
   have lX:bm env hh 3 (AV.ptr p4 q5)=some (Zi (a.g i0)):=(aO.has aw).load o! jW
   obtain ⟨p8,q9,tu,_⟩:=(bL.has aw).elem (i:=i0) o!
   have JP:b_ env (some (.slice 3)) (some bV) (some (Zn i0))=some (AV.ptr p8 q9):=tu
   have sq:bm env hh 3 (AV.ptr p8 q9)=some (Zi (b.g i0)):=(bL.has aw).load o! tu
   rcases Bool.eq_false_or_eq_true (!decide ((a.g i0)=(b.g i0))) with f1 | f1
   · have ea:=C2 f1
     exact aA.ret false (by simp only[lC,f1,aj,af]) (pk (d) _ _ hh _ hh (CN 2<|VV dx<|VV (aQ 3 false false .i64 ((i0:Nat):Int) ((a.length:Nat):Int))<|BB q2<|CN 2<|VV kV<|MM lX<|CN 2<|VV JP<|MM sq<|VV (eC 3 false false .i64 (a.g i0) (b.g i0))<|HH lX<|HH (show AV.same 20 (Zi (a.g i0)) (Zi (a.g i0))=true from aJ 19 _ _)<|HH sq<|HH (show AV.same 20 (Zi (b.g i0)) (Zi (b.g i0))=true from aJ 19 _ _)<|BC f1<|ZZ) k!) (bC.refl az) k!
   · have ea:=C3 f1
     have OI:=ew 3 false true i0 1 o!
     exact aA.round (by simp only[lC,f1,aj,af]) (pk (d) _ _ hh _ hh (CN 2<|VV dx<|VV (aQ 3 false false .i64 ((i0:Nat):Int) ((a.length:Nat):Int))<|BB q2<|CN 2<|VV kV<|MM lX<|CN 2<|VV JP<|MM sq<|VV (eC 3 false false .i64 (a.g i0) (b.g i0))<|HH lX<|HH (show AV.same 20 (Zi (a.g i0)) (Zi (a.g i0))=true from aJ 19 _ _)<|HH sq<|HH (show AV.same 20 (Zi (b.g i0)) (Zi (b.g i0))=true from aJ 19 _ _)<|BC f1<|VV OI<|CC<|ZZ) k!) (bC.refl az) _ k! (fun x=>tq aV bV a b aO bL gM c7 (i0+1) o! x hh az aw)
def gH (a:List Int) (b:List Int):Bool:=(bif (!decide (((a.length:Nat):Int)=((b.length:Nat):Int))) then false else (match (lC a b a.length 0) with | none=>true | some vL=>vL))
theorem RO {d:Nat} {h:ak} {aV bV:AV} (a:List Int) (b:List Int) (h_a:bW h .i64 3 aV a) (h_b:bW h .i64 3 bV b) (bM:Tidy h):cA (d+1) (.fn 10) [aV,bV] h= .ret (AV.bool (gH a b)) h:=by
 have afj:=h_a.small
 have afk:=h_b.small
 have dx:bJ (some (.slice 3)) (some aV)=some (Zn a.length):=h_a.len
 have pB:bJ (some (.slice 3)) (some bV)=some (Zn b.length):=h_b.len
 rcases Bool.eq_false_or_eq_true (!decide (((a.length:Nat):Int)=((b.length:Nat):Int))) with f0 | f0
 · have fw:=C2 f0
   have e:gH a b=false:=by simp only[gH,f0,aj,af]
   rw[e]
   exact ax rfl (aR Tryz.func10 B5 rfl (.inr rfl) (pk (d) _ _ h _ h (CN 2<|VV dx<|CC<|VV pB<|VV (eC 3 false false .i64 ((a.length:Nat):Int) ((b.length:Nat):Int))<|BC f0<|ZZ) k!) k!) (Has.refl _) rfl
 · have fw:=C3 f0
   cases cQ:lC a b a.length 0 with
   | none=>
     obtain ⟨tp,h5,cC,b4⟩:=aA.n cQ (tq (d:=d) (h:=h) aV bV a b h_a h_b o! a.length 0 o! (fun k_=>((aV::bV::AV.undef::AV.undef::(AV.bool false)::(Zi 0)::aV::(Zn a.length)::bV::(Zn b.length)::(AV.bool (!decide (((a.length:Nat):Int)=((b.length:Nat):Int))))::gB 15):List AV).getD k_ AV.undef) h bM (Has.refl _))
     have js:=b4.y
     have ph:h.nx≤h5.nx:=b4.n
     have eV:Has h h5:=b4.a
     have e:gH a b=true:=by simp only[gH,f0,cQ,aj,af]
     rw[e]
     exact ax rfl (aR Tryz.func10 B5 rfl (.inr rfl) (pk (d) _ _ h _ h5 (CN 2<|VV dx<|CC<|VV pB<|VV (eC 3 false false .i64 ((a.length:Nat):Int) ((b.length:Nat):Int))<|BC f0<|LL cC<|CC<|ZZ) k!) k!) eV rfl
   | some vL=>
     obtain ⟨tp,h5,cC,b4⟩:=aA.r cQ (tq (d:=d) (h:=h) aV bV a b h_a h_b o! a.length 0 o! (fun k_=>((aV::bV::AV.undef::AV.undef::(AV.bool false)::(Zi 0)::aV::(Zn a.length)::bV::(Zn b.length)::(AV.bool (!decide (((a.length:Nat):Int)=((b.length:Nat):Int))))::gB 15):List AV).getD k_ AV.undef) h bM (Has.refl _))
     have js:=b4.y
     have ph:h.nx≤h5.nx:=b4.n
     have eV:Has h h5:=b4.a
     have e:gH a b=vL:=by simp only[gH,f0,cQ,aj,af]
     rw[e]
     exact ax rfl (aR Tryz.func10 B5 rfl (.inr rfl) (pk (d) _ _ h _ h5 (CN 2<|VV dx<|CC<|VV pB<|VV (eC 3 false false .i64 ((a.length:Nat):Int) ((b.length:Nat):Int))<|BC f0<|LL cC<|ZZ) k!) k!) eV rfl
def zW:Code:=(Tryz.f69.body).getD .skip
theorem qw:Tryz.f69.body=some zW:=by kernel_rfl
def KN:Code:=(bz zW).getD 0 .skip
def cV (s:List UInt8):Nat→Nat→Option (Bool)
 | 0,_=>none
 | c7+1,i0=>(bif (decide ((((s.g i0).toNat:Nat):Int)<97)) then (bif (decide ((((s.g i0).toNat:Nat):Int)<48)) then (bif (!decide ((((s.g i0).toNat:Nat):Int)=45)) then some false else cV s c7 (i0+1)) else (bif (decide (57<(((s.g i0).toNat:Nat):Int))) then (bif (!decide ((((s.g i0).toNat:Nat):Int)=45)) then some false else cV s c7 (i0+1)) else cV s c7 (i0+1))) else (bif (decide (122<(((s.g i0).toNat:Nat):Int))) then (bif (decide ((((s.g i0).toNat:Nat):Int)<48)) then (bif (!decide ((((s.g i0).toNat:Nat):Int)=45)) then some false else cV s c7 (i0+1)) else (bif (decide (57<(((s.g i0).toNat:Nat):Int))) then (bif (!decide ((((s.g i0).toNat:Nat):Int)=45)) then some false else cV s c7 (i0+1)) else cV s c7 (i0+1))) else cV s c7 (i0+1)))
theorem g8 {d:Nat} {h:ak} (s:List UInt8) (aO:s.length<2^60):∀(k_ i_:Nat) (_:i_+k_=(List.length s)) (x:Nat→AV) (hh:ak) (az:Tidy hh) (aw:Has h hh),aA (cA (d)) KN ⟨((AV.str s)::(x 1)::(x 2)::(Zn i_)::rx x 4 46 []),hh,[],.no⟩ (.exit 0) hh (fun y=>((AV.str s)::rx y 1 49 [])) (fun r y=>((AV.str s)::(y 1)::(AV.bool r)::rx y 3 47 [])) (cV s k_ i_)
 | 0,i0,fK,x,hh,az,aw=>by
   have sn1:s.length<2^60:=aO
   have q2:(decide (((i0:Nat):Int)<((List.length s:Nat):Int)))=false:=d!
   exact aA.out rfl (pk (d) _ _ hh _ hh (CN 3<|VV (aQ 3 false false .i64 ((i0:Nat):Int) ((List.length s:Nat):Int))<|BB q2<|ZZ) k!) (bC.refl az) k!
 | c7+1,i0,fK,x,hh,az,aw=>by
   have sn1:s.length<2^60:=aO
   have q2:(decide (((i0:Nat):Int)<((List.length s:Nat):Int)))=true:=d!
   have kV:vH env (some .string) (some (AV.str s)) (some (Zn i0))=some (AV.int .u8 (((s.g i0).toNat:Nat):Int)):=nZ (j:=i0) o!
   rcases Bool.eq_false_or_eq_true (decide ((((s.g i0).toNat:Nat):Int)<97)) with f1 | f1
   · have ea:=of_decide_eq_true f1
     rcases Bool.eq_false_or_eq_true (decide ((((s.g i0).toNat:Nat):Int)<48)) with f2 | f2
     · have jX:=of_decide_eq_true f2
       rcases Bool.eq_false_or_eq_true (!decide ((((s.g i0).toNat:Nat):Int)=45)) with f3 | f3
       · have mu:=C2 f3
         exact aA.ret false (by simp only[cV,f1,f2,f3,aj,af]) (pk (d) _ _ hh _ hh (CN 3<|VV (aQ 3 false false .i64 ((i0:Nat):Int) ((List.length s:Nat):Int))<|BB q2<|CN 2<|VV kV<|CN 2<|VV (aQ 5 false true .u8 (((s.g i0).toNat:Nat):Int) 97)<|CC<|BB f1<|BV f1 (qI true f1)<|CC<|TT<|CC<|TT<|VV (aQ 5 false true .u8 (((s.g i0).toNat:Nat):Int) 48)<|TT<|CC<|BB f2<|BB f2<|TT<|VV (qI true f2)<|CN 2<|TT<|CC<|TT<|VV (eC 5 false true .u8 (((s.g i0).toNat:Nat):Int) 45)<|CC<|BC f3<|ZZ) k!) (bC.refl az) k!
       · have mu:=C3 f3
         have u7:=ew 3 false true i0 1 o!
         exact aA.round (by simp only[cV,f1,f2,f3,aj,af]) (pk (d) _ _ hh _ hh (CN 3<|VV (aQ 3 false false .i64 ((i0:Nat):Int) ((List.length s:Nat):Int))<|BB q2<|CN 2<|VV kV<|CN 2<|VV (aQ 5 false true .u8 (((s.g i0).toNat:Nat):Int) 97)<|CC<|BB f1<|BV f1 (qI true f1)<|CC<|TT<|CC<|TT<|VV (aQ 5 false true .u8 (((s.g i0).toNat:Nat):Int) 48)<|TT<|CC<|BB f2<|BB f2<|TT<|VV (qI true f2)<|CN 2<|TT<|CC<|TT<|VV (eC 5 false true .u8 (((s.g i0).toNat:Nat):Int) 45)<|CC<|BC f3<|VV u7<|CC<|ZZ) k!) (bC.refl az) _ k! (fun x=>g8 s aO c7 (i0+1) o! x hh az aw)
     · have jX:=of_decide_eq_false f2
       rcases Bool.eq_false_or_eq_true (decide (57<(((s.g i0).toNat:Nat):Int))) with f3 | f3
       · have mu:=of_decide_eq_true f3
         rcases Bool.eq_false_or_eq_true (!decide ((((s.g i0).toNat:Nat):Int)=45)) with f4 | f4
         · have tj:=C2 f4
           exact aA.ret false (by simp only[cV,f1,f2,f3,f4,aj,af]) (pk (d) _ _ hh _ hh (CN 3<|VV (aQ 3 false false .i64 ((i0:Nat):Int) ((List.length s:Nat):Int))<|BB q2<|CN 2<|VV kV<|CN 2<|VV (aQ 5 false true .u8 (((s.g i0).toNat:Nat):Int) 97)<|CC<|BB f1<|BV f1 (qI true f1)<|CC<|TT<|CC<|TT<|VV (aQ 5 false true .u8 (((s.g i0).toNat:Nat):Int) 48)<|TT<|CC<|BC f2<|BV f2 (bK 5 false true .u8 (((s.g i0).toNat:Nat):Int) 57)<|TT<|VV (bf (a:=some (AV.bool true)) (b:=some (AV.bool (decide (57<(((s.g i0).toNat:Nat):Int))))) f2)<|CN 2<|BC f3<|BV f3 (eC 5 false true .u8 (((s.g i0).toNat:Nat):Int) 45)<|VV (nK (!decide ((((s.g i0).toNat:Nat):Int)=45)) false f3)<|BC f4<|ZZ) k!) (bC.refl az) k!
         · have tj:=C3 f4
           have u8:=ew 3 false true i0 1 o!
           exact aA.round (by simp only[cV,f1,f2,f3,f4,aj,af]) (pk (d) _ _ hh _ hh (CN 3<|VV (aQ 3 false false .i64 ((i0:Nat):Int) ((List.length s:Nat):Int))<|BB q2<|CN 2<|VV kV<|CN 2<|VV (aQ 5 false true .u8 (((s.g i0).toNat:Nat):Int) 97)<|CC<|BB f1<|BV f1 (qI true f1)<|CC<|TT<|CC<|TT<|VV (aQ 5 false true .u8 (((s.g i0).toNat:Nat):Int) 48)<|TT<|CC<|BC f2<|BV f2 (bK 5 false true .u8 (((s.g i0).toNat:Nat):Int) 57)<|TT<|VV (bf (a:=some (AV.bool true)) (b:=some (AV.bool (decide (57<(((s.g i0).toNat:Nat):Int))))) f2)<|CN 2<|BC f3<|BV f3 (eC 5 false true .u8 (((s.g i0).toNat:Nat):Int) 45)<|VV (nK (!decide ((((s.g i0).toNat:Nat):Int)=45)) false f3)<|BC f4<|VV u8<|CC<|ZZ) k!) (bC.refl az) _ k! (fun x=>g8 s aO c7 (i0+1) o! x hh az aw)
       · have mu:=of_decide_eq_false f3
         have u7:=ew 3 false true i0 1 o!
         exact aA.round (by simp only[cV,f1,f2,f3,aj,af]) (pk (d) _ _ hh _ hh (CN 3<|VV (aQ 3 false false .i64 ((i0:Nat):Int) ((List.length s:Nat):Int))<|BB q2<|CN 2<|VV kV<|CN 2<|VV (aQ 5 false true .u8 (((s.g i0).toNat:Nat):Int) 97)<|CC<|BB f1<|BV f1 (qI true f1)<|CC<|TT<|CC<|TT<|VV (aQ 5 false true .u8 (((s.g i0).toNat:Nat):Int) 48)<|TT<|CC<|BC f2<|BV f2 (bK 5 false true .u8 (((s.g i0).toNat:Nat):Int) 57)<|TT<|VV (bf (a:=some (AV.bool true)) (b:=some (AV.bool (decide (57<(((s.g i0).toNat:Nat):Int))))) f2)<|CN 2<|BB f3<|BV f3 (vK false f3)<|FF<|CC<|VV u7<|CC<|ZZ) k!) (bC.refl az) _ k! (fun x=>g8 s aO c7 (i0+1) o! x hh az aw)
   · have ea:=of_decide_eq_false f1
     rcases Bool.eq_false_or_eq_true (decide (122<(((s.g i0).toNat:Nat):Int))) with f2 | f2
     · have jX:=of_decide_eq_true f2
       rcases Bool.eq_false_or_eq_true (decide ((((s.g i0).toNat:Nat):Int)<48)) with f3 | f3
       · have mu:=of_decide_eq_true f3
         rcases Bool.eq_false_or_eq_true (!decide ((((s.g i0).toNat:Nat):Int)=45)) with f4 | f4
         · have tj:=C2 f4
           exact aA.ret false (by simp only[cV,f1,f2,f3,f4,aj,af]) (pk (d) _ _ hh _ hh (CN 3<|VV (aQ 3 false false .i64 ((i0:Nat):Int) ((List.length s:Nat):Int))<|BB q2<|CN 2<|VV kV<|CN 2<|VV (aQ 5 false true .u8 (((s.g i0).toNat:Nat):Int) 97)<|CC<|BC f1<|BV f1 (bK 5 false true .u8 (((s.g i0).toNat:Nat):Int) 122)<|VV (bf (a:=some (AV.bool true)) (b:=some (AV.bool (decide (122<(((s.g i0).toNat:Nat):Int))))) f1)<|CC<|BC f2<|BV f2 (aQ 5 false true .u8 (((s.g i0).toNat:Nat):Int) 48)<|BC f2<|BB f3<|BB f3<|BV f2 (qI true f3)<|VV (nK true false f2)<|CC<|TT<|CC<|TT<|VV (eC 5 false true .u8 (((s.g i0).toNat:Nat):Int) 45)<|CC<|BC f4<|ZZ) k!) (bC.refl az) k!
         · have tj:=C3 f4
           have u8:=ew 3 false true i0 1 o!
           exact aA.round (by simp only[cV,f1,f2,f3,f4,aj,af]) (pk (d) _ _ hh _ hh (CN 3<|VV (aQ 3 false false .i64 ((i0:Nat):Int) ((List.length s:Nat):Int))<|BB q2<|CN 2<|VV kV<|CN 2<|VV (aQ 5 false true .u8 (((s.g i0).toNat:Nat):Int) 97)<|CC<|BC f1<|BV f1 (bK 5 false true .u8 (((s.g i0).toNat:Nat):Int) 122)<|VV (bf (a:=some (AV.bool true)) (b:=some (AV.bool (decide (122<(((s.g i0).toNat:Nat):Int))))) f1)<|CC<|BC f2<|BV f2 (aQ 5 false true .u8 (((s.g i0).toNat:Nat):Int) 48)<|BC f2<|BB f3<|BB f3<|BV f2 (qI true f3)<|VV (nK true false f2)<|CC<|TT<|CC<|TT<|VV (eC 5 false true .u8 (((s.g i0).toNat:Nat):Int) 45)<|CC<|BC f4<|VV u8<|CC<|ZZ) k!) (bC.refl az) _ k! (fun x=>g8 s aO c7 (i0+1) o! x hh az aw)
       · have mu:=of_decide_eq_false f3
         rcases Bool.eq_false_or_eq_true (decide (57<(((s.g i0).toNat:Nat):Int))) with f4 | f4
         · have tj:=of_decide_eq_true f4
           rcases Bool.eq_false_or_eq_true (!decide ((((s.g i0).toNat:Nat):Int)=45)) with f5 | f5
           · have RP:=C2 f5
             exact aA.ret false (by simp only[cV,f1,f2,f3,f4,f5,aj,af]) (pk (d) _ _ hh _ hh (CN 3<|VV (aQ 3 false false .i64 ((i0:Nat):Int) ((List.length s:Nat):Int))<|BB q2<|CN 2<|VV kV<|CN 2<|VV (aQ 5 false true .u8 (((s.g i0).toNat:Nat):Int) 97)<|CC<|BC f1<|BV f1 (bK 5 false true .u8 (((s.g i0).toNat:Nat):Int) 122)<|VV (bf (a:=some (AV.bool true)) (b:=some (AV.bool (decide (122<(((s.g i0).toNat:Nat):Int))))) f1)<|CC<|BC f2<|BV f2 (aQ 5 false true .u8 (((s.g i0).toNat:Nat):Int) 48)<|BC f2<|BC f3<|BV f3 (bK 5 false true .u8 (((s.g i0).toNat:Nat):Int) 57)<|BV f2 (bf (a:=some (AV.bool true)) (b:=some (AV.bool (decide (57<(((s.g i0).toNat:Nat):Int))))) f3)<|VV (nK (decide (57<(((s.g i0).toNat:Nat):Int))) false f2)<|CC<|BC f4<|BV f4 (eC 5 false true .u8 (((s.g i0).toNat:Nat):Int) 45)<|VV (nK (!decide ((((s.g i0).toNat:Nat):Int)=45)) false f4)<|BC f5<|ZZ) k!) (bC.refl az) k!
           · have RP:=C3 f5
             have u9:=ew 3 false true i0 1 o!
             exact aA.round (by simp only[cV,f1,f2,f3,f4,f5,aj,af]) (pk (d) _ _ hh _ hh (CN 3<|VV (aQ 3 false false .i64 ((i0:Nat):Int) ((List.length s:Nat):Int))<|BB q2<|CN 2<|VV kV<|CN 2<|VV (aQ 5 false true .u8 (((s.g i0).toNat:Nat):Int) 97)<|CC<|BC f1<|BV f1 (bK 5 false true .u8 (((s.g i0).toNat:Nat):Int) 122)<|VV (bf (a:=some (AV.bool true)) (b:=some (AV.bool (decide (122<(((s.g i0).toNat:Nat):Int))))) f1)<|CC<|BC f2<|BV f2 (aQ 5 false true .u8 (((s.g i0).toNat:Nat):Int) 48)<|BC f2<|BC f3<|BV f3 (bK 5 false true .u8 (((s.g i0).toNat:Nat):Int) 57)<|BV f2 (bf (a:=some (AV.bool true)) (b:=some (AV.bool (decide (57<(((s.g i0).toNat:Nat):Int))))) f3)<|VV (nK (decide (57<(((s.g i0).toNat:Nat):Int))) false f2)<|CC<|BC f4<|BV f4 (eC 5 false true .u8 (((s.g i0).toNat:Nat):Int) 45)<|VV (nK (!decide ((((s.g i0).toNat:Nat):Int)=45)) false f4)<|BC f5<|VV u9<|CC<|ZZ) k!) (bC.refl az) _ k! (fun x=>g8 s aO c7 (i0+1) o! x hh az aw)
         · have tj:=of_decide_eq_false f4
           have u8:=ew 3 false true i0 1 o!
           exact aA.round (by simp only[cV,f1,f2,f3,f4,aj,af]) (pk (d) _ _ hh _ hh (CN 3<|VV (aQ 3 false false .i64 ((i0:Nat):Int) ((List.length s:Nat):Int))<|BB q2<|CN 2<|VV kV<|CN 2<|VV (aQ 5 false true .u8 (((s.g i0).toNat:Nat):Int) 97)<|CC<|BC f1<|BV f1 (bK 5 false true .u8 (((s.g i0).toNat:Nat):Int) 122)<|VV (bf (a:=some (AV.bool true)) (b:=some (AV.bool (decide (122<(((s.g i0).toNat:Nat):Int))))) f1)<|CC<|BC f2<|BV f2 (aQ 5 false true .u8 (((s.g i0).toNat:Nat):Int) 48)<|BC f2<|BC f3<|BV f3 (bK 5 false true .u8 (((s.g i0).toNat:Nat):Int) 57)<|BV f2 (bf (a:=some (AV.bool true)) (b:=some (AV.bool (decide (57<(((s.g i0).toNat:Nat):Int))))) f3)<|VV (nK (decide (57<(((s.g i0).toNat:Nat):Int))) false f2)<|CC<|BB f4<|BV f4 (vK false f4)<|FF<|CC<|VV u8<|CC<|ZZ) k!) (bC.refl az) _ k! (fun x=>g8 s aO c7 (i0+1) o! x hh az aw)
     · have jX:=of_decide_eq_false f2
       have u6:=ew 3 false true i0 1 o!
       exact aA.round (by simp only[cV,f1,f2,aj,af]) (pk (d) _ _ hh _ hh (CN 3<|VV (aQ 3 false false .i64 ((i0:Nat):Int) ((List.length s:Nat):Int))<|BB q2<|CN 2<|VV kV<|CN 2<|VV (aQ 5 false true .u8 (((s.g i0).toNat:Nat):Int) 97)<|CC<|BC f1<|BV f1 (bK 5 false true .u8 (((s.g i0).toNat:Nat):Int) 122)<|VV (bf (a:=some (AV.bool true)) (b:=some (AV.bool (decide (122<(((s.g i0).toNat:Nat):Int))))) f1)<|CC<|BB f2<|BB f2<|BB f2<|BV f2 (vK false f2)<|CC<|FF<|FF<|CC<|FF<|CC<|VV u6<|CC<|ZZ) k!) (bC.refl az) _ k! (fun x=>g8 s aO c7 (i0+1) o! x hh az aw)
def dU (s:List UInt8):Bool:=(bif (decide (((List.length s:Nat):Int)=0)) then false else (bif (decide (16<((List.length s:Nat):Int))) then false else (bif (decide ((((s.g 0).toNat:Nat):Int)<97)) then false else (bif (decide (122<(((s.g 0).toNat:Nat):Int))) then false else (match (cV s (List.length s) 0) with | none=>true | some Zg=>Zg)))))
theorem IJ {d:Nat} {h:ak} (s:List UInt8) (pD:s.length<2^60) (bM:Tidy h):cA (d+1) (.fn 69) [(AV.str s)] h= .ret (AV.bool (dU s)) h:=by
 have sn1:s.length<2^60:=pD
 rcases Bool.eq_false_or_eq_true (decide (((List.length s:Nat):Int)=0)) with f0 | f0
 · have fw:=of_decide_eq_true f0
   have e:dU s=false:=by simp only[dU,f0,aj,af]
   rw[e]
   exact ax rfl (aR Tryz.func69 qw rfl (.inr rfl) (pk (d) _ _ h _ h (CN 3<|VV (f_ 3 false true .i64 ((List.length s:Nat):Int) 0)<|CC<|BB f0<|BB f0<|BV f0 (qI true f0)<|CC<|TT<|TT<|TT<|CN 2<|TT<|TT<|TT<|CC<|TT<|CC<|ZZ) k!) k!) (Has.refl _) rfl
 · have fw:=of_decide_eq_false f0
   rcases Bool.eq_false_or_eq_true (decide (16<((List.length s:Nat):Int))) with f1 | f1
   · have ea:=of_decide_eq_true f1
     have e:dU s=false:=by simp only[dU,f0,f1,aj,af]
     rw[e]
     exact ax rfl (aR Tryz.func69 qw rfl (.inr rfl) (pk (d) _ _ h _ h (CN 3<|VV (f_ 3 false true .i64 ((List.length s:Nat):Int) 0)<|CC<|BC f0<|BC f0<|BV f0 (bK 3 false true .i64 ((List.length s:Nat):Int) 16)<|VV (bf (a:=some (AV.bool true)) (b:=some (AV.bool (decide (16<((List.length s:Nat):Int))))) f0)<|CC<|BB f1<|BB f1<|BV f1 (qI true f1)<|CC<|TT<|TT<|TT<|CC<|TT<|CC<|ZZ) k!) k!) (Has.refl _) rfl
   · have ea:=of_decide_eq_false f1
     have OG:vH env (some .string) (some (AV.str s)) (some (Zi 0))=some (AV.int .u8 (((s.g 0).toNat:Nat):Int)):=nZ (j:=0) o!
     rcases Bool.eq_false_or_eq_true (decide ((((s.g 0).toNat:Nat):Int)<97)) with f2 | f2
     · have jX:=of_decide_eq_true f2
       have e:dU s=false:=by simp only[dU,f0,f1,f2,aj,af]
       rw[e]
       exact ax rfl (aR Tryz.func69 qw rfl (.inr rfl) (pk (d) _ _ h _ h (CN 3<|VV (f_ 3 false true .i64 ((List.length s:Nat):Int) 0)<|CC<|BC f0<|BC f0<|BV f0 (bK 3 false true .i64 ((List.length s:Nat):Int) 16)<|VV (bf (a:=some (AV.bool true)) (b:=some (AV.bool (decide (16<((List.length s:Nat):Int))))) f0)<|CC<|BC f1<|BV f1 OG<|BV f1 (aQ 5 false true .u8 (((s.g 0).toNat:Nat):Int) 97)<|VV (bf (a:=some (AV.bool true)) (b:=some (AV.bool (decide ((((s.g 0).toNat:Nat):Int)<97)))) f1)<|CC<|BB f2<|BB f2<|BV f2 (qI true f2)<|TT<|CC<|ZZ) k!) k!) (Has.refl _) rfl
     · have jX:=of_decide_eq_false f2
       have MW:vH env (some .string) (some (AV.str s)) (some (Zi 0))=some (AV.int .u8 (((s.g 0).toNat:Nat):Int)):=nZ (j:=0) o!
       rcases Bool.eq_false_or_eq_true (decide (122<(((s.g 0).toNat:Nat):Int))) with f3 | f3
       · have mu:=of_decide_eq_true f3
         have e:dU s=false:=by simp only[dU,f0,f1,f2,f3,aj,af]
         rw[e]
         exact ax rfl (aR Tryz.func69 qw rfl (.inr rfl) (pk (d) _ _ h _ h (CN 3<|VV (f_ 3 false true .i64 ((List.length s:Nat):Int) 0)<|CC<|BC f0<|BC f0<|BV f0 (bK 3 false true .i64 ((List.length s:Nat):Int) 16)<|VV (bf (a:=some (AV.bool true)) (b:=some (AV.bool (decide (16<((List.length s:Nat):Int))))) f0)<|CC<|BC f1<|BV f1 OG<|BV f1 (aQ 5 false true .u8 (((s.g 0).toNat:Nat):Int) 97)<|VV (bf (a:=some (AV.bool true)) (b:=some (AV.bool (decide ((((s.g 0).toNat:Nat):Int)<97)))) f1)<|CC<|BC f2<|BV f2 MW<|BV f2 (bK 5 false true .u8 (((s.g 0).toNat:Nat):Int) 122)<|VV (bf (a:=some (AV.bool true)) (b:=some (AV.bool (decide (122<(((s.g 0).toNat:Nat):Int))))) f2)<|BC f3<|ZZ) k!) k!) (Has.refl _) rfl
       · have mu:=of_decide_eq_false f3
         cases pP:cV s (List.length s) 0 with
         | none=>
           obtain ⟨yl8,h9,tv,kL⟩:=aA.n pP (g8 (d:=d) (h:=h) s pD (List.length s) 0 o! (fun k_=>(((AV.str s)::AV.undef::(AV.bool false)::(Zi 0)::AV.undef::(AV.str s)::(Zn (List.length s))::(AV.bool (decide (((List.length s:Nat):Int)=0)))::(AV.bool (decide (((List.length s:Nat):Int)=0)))::(AV.str s)::(Zn (List.length s))::(AV.bool (decide (16<((List.length s:Nat):Int))))::(AV.bool (decide (16<((List.length s:Nat):Int))))::(AV.bool (decide (16<((List.length s:Nat):Int))))::(AV.str s)::(AV.int .u8 (((s.g 0).toNat:Nat):Int))::(AV.bool (decide ((((s.g 0).toNat:Nat):Int)<97)))::(AV.bool (decide ((((s.g 0).toNat:Nat):Int)<97)))::(AV.bool (decide ((((s.g 0).toNat:Nat):Int)<97)))::(AV.str s)::(AV.int .u8 (((s.g 0).toNat:Nat):Int))::(AV.bool (decide (122<(((s.g 0).toNat:Nat):Int))))::(AV.bool (decide (122<(((s.g 0).toNat:Nat):Int))))::gB 27):List AV).getD k_ AV.undef) h bM (Has.refl _))
           have rp:=kL.y
           have RQ:h.nx≤h9.nx:=kL.n
           have mw:Has h h9:=kL.a
           have e:dU s=true:=by simp only[dU,f0,f1,f2,f3,pP,aj,af]
           rw[e]
           exact ax rfl (aR Tryz.func69 qw rfl (.inr rfl) (pk (d) _ _ h _ h9 (CN 3<|VV (f_ 3 false true .i64 ((List.length s:Nat):Int) 0)<|CC<|BC f0<|BC f0<|BV f0 (bK 3 false true .i64 ((List.length s:Nat):Int) 16)<|VV (bf (a:=some (AV.bool true)) (b:=some (AV.bool (decide (16<((List.length s:Nat):Int))))) f0)<|CC<|BC f1<|BV f1 OG<|BV f1 (aQ 5 false true .u8 (((s.g 0).toNat:Nat):Int) 97)<|VV (bf (a:=some (AV.bool true)) (b:=some (AV.bool (decide ((((s.g 0).toNat:Nat):Int)<97)))) f1)<|CC<|BC f2<|BV f2 MW<|BV f2 (bK 5 false true .u8 (((s.g 0).toNat:Nat):Int) 122)<|VV (bf (a:=some (AV.bool true)) (b:=some (AV.bool (decide (122<(((s.g 0).toNat:Nat):Int))))) f2)<|BC f3<|LL tv<|CC<|ZZ) k!) k!) mw rfl
         | some Zg=>
           obtain ⟨yl8,h9,tv,kL⟩:=aA.r pP (g8 (d:=d) (h:=h) s pD (List.length s) 0 o! (fun k_=>(((AV.str s)::AV.undef::(AV.bool false)::(Zi 0)::AV.undef::(AV.str s)::(Zn (List.length s))::(AV.bool (decide (((List.length s:Nat):Int)=0)))::(AV.bool (decide (((List.length s:Nat):Int)=0)))::(AV.str s)::(Zn (List.length s))::(AV.bool (decide (16<((List.length s:Nat):Int))))::(AV.bool (decide (16<((List.length s:Nat):Int))))::(AV.bool (decide (16<((List.length s:Nat):Int))))::(AV.str s)::(AV.int .u8 (((s.g 0).toNat:Nat):Int))::(AV.bool (decide ((((s.g 0).toNat:Nat):Int)<97)))::(AV.bool (decide ((((s.g 0).toNat:Nat):Int)<97)))::(AV.bool (decide ((((s.g 0).toNat:Nat):Int)<97)))::(AV.str s)::(AV.int .u8 (((s.g 0).toNat:Nat):Int))::(AV.bool (decide (122<(((s.g 0).toNat:Nat):Int))))::(AV.bool (decide (122<(((s.g 0).toNat:Nat):Int))))::gB 27):List AV).getD k_ AV.undef) h bM (Has.refl _))
           have rp:=kL.y
           have RQ:h.nx≤h9.nx:=kL.n
           have mw:Has h h9:=kL.a
           have e:dU s=Zg:=by simp only[dU,f0,f1,f2,f3,pP,aj,af]
           rw[e]
           exact ax rfl (aR Tryz.func69 qw rfl (.inr rfl) (pk (d) _ _ h _ h9 (CN 3<|VV (f_ 3 false true .i64 ((List.length s:Nat):Int) 0)<|CC<|BC f0<|BC f0<|BV f0 (bK 3 false true .i64 ((List.length s:Nat):Int) 16)<|VV (bf (a:=some (AV.bool true)) (b:=some (AV.bool (decide (16<((List.length s:Nat):Int))))) f0)<|CC<|BC f1<|BV f1 OG<|BV f1 (aQ 5 false true .u8 (((s.g 0).toNat:Nat):Int) 97)<|VV (bf (a:=some (AV.bool true)) (b:=some (AV.bool (decide ((((s.g 0).toNat:Nat):Int)<97)))) f1)<|CC<|BC f2<|BV f2 MW<|BV f2 (bK 5 false true .u8 (((s.g 0).toNat:Nat):Int) 122)<|VV (bf (a:=some (AV.bool true)) (b:=some (AV.bool (decide (122<(((s.g 0).toNat:Nat):Int))))) f2)<|BC f3<|LL tv<|ZZ) k!) k!) mw rfl
def F2:Code:=(Tryz.f38.body).getD .skip
theorem Ek:Tryz.f38.body=some F2:=by kernel_rfl
def dD (n:Int):Bool:=(bif (decide (0≤n)) then (decide (n≤100000)) else false)
theorem yV {d:Nat} {h:ak} (n:Int) (bM:Tidy h):cA (d+1) (.fn 38) [(Zi n)] h= .ret (AV.bool (dD n)) h:=by
 rcases Bool.eq_false_or_eq_true (decide (0≤n)) with f0 | f0
 · have fw:=of_decide_eq_true f0
   have e:dD n=(decide (n≤100000)):=by simp only[dD,f0,aj,af]
   rw[e]
   exact ax rfl (aR Tryz.func38 Ek rfl (.inr rfl) (pk (d) _ _ h _ h (CN 2<|VV (jf 3 false true .i64 n 0)<|CC<|BC f0<|BV f0 (kI 3 false true .i64 n 100000)<|VV (nK (decide (n≤100000)) false f0)<|CC<|ZZ) k!) k!) (Has.refl _) rfl
 · have fw:=of_decide_eq_false f0
   have e:dD n=false:=by simp only[dD,f0,aj,af]
   rw[e]
   exact ax rfl (aR Tryz.func38 Ek rfl (.inr rfl) (pk (d) _ _ h _ h (CN 2<|VV (jf 3 false true .i64 n 0)<|CC<|BB f0<|BV f0 (vK false f0)<|CC<|ZZ) k!) k!) (Has.refl _) rfl
end
end Go.Proofs.aE
