import Derived.Test.YtkffioplnoajdaaGreatW0
import Derived.Test.YtkffioplnoajdaaGreatW1
import Derived.Test.YtkffioplnoajdaaGreatW10
import Derived.Test.YtkffioplnoajdaaGreatW4
import Derived.Test.YtkffioplnoajdaaGreatW5
import Derived.Test.YtkffioplnoajdaaGreatW3
namespace Go.Proofs.aP
open Go.Proofs Ab
set_option maxRecDepth 100000
set_option maxHeartbeats 4000000
set_option linter.unusedVariables false
set_option linter.unusedSimpArgs false
noncomputable def m6:Code:=(Tryz.f32.body).getD .skip
theorem vS:Tryz.f32.body=some m6:=by kernel_rfl
noncomputable def LW:Code:=(bE m6).getD 0 .skip
noncomputable def LX:Code:=(bE m6).getD 1 .skip
noncomputable def LY:Code:=(bE m6).getD 2 .skip
noncomputable def LZ:Code:=(bE m6).getD 3 .skip
def eP (ai:List Int) (j:cz):Nat→Nat→Option (Bool)
 | 0,_=>none
 | dz+1,i0=>(bif (!(dg (ai.g i0))) then some false else (bif (decide (100000<(cV j ai ((i0:Nat):Int)))) then some false else eP ai j dz (i0+1)))
theorem sM {d:Nat} {h:au} (ax:AV) (ai:List Int) (j:cz) (br:Nat) (bn:b_ h .i64 3 ax ai) (b8:aS h j.aj j.ab) (ew:aS h j.ag j.af) (gU:aL.ok h j) (iy:∀i,i<j.ab.length→∀q,q<(j.ab.g i).az.length→0≤(j.ab.g i).az.g q∧(j.ab.g i).az.g q<(j.ab.length:Int)) (kr:∀r,r<j.af.length→(j.af.g r).off.length≤16∧∀q,q<(j.af.g r).off.length→0≤((j.af.g r).off.g q).a_∧((j.af.g r).off.g q).aN≤100000) (rF:∀i,i<j.ab.length→∀q,q<(j.ab.g i).ar.length→0≤((j.ab.g i).ar.g q).ah∧((j.ab.g i).ar.g q).ah<(j.af.length:Int)) (tD:∀i,i<j.ab.length→∀a,a<(j.ab.g i).ar.length→∀b,a<b→b<(j.ab.g i).ar.length→((j.ab.g i).ar.g a).ah≠((j.ab.g i).ar.g b).ah) (qM:∀i,i<j.ab.length→0≤(j.ab.g i).aI∧(j.ab.g i).aI≤100000) (tF:ai.length=j.ab.length) (UU:j.ab.length≤64) (ace:j.af.length≤16) (acf:0<j.af.length):∀(k_ i_:Nat) (_:i_+k_=ai.length) (x:Nat→AV) (hh:au) (aE:Tidy hh) (aB:Has h hh) (bj:hh.get br=some (aM.cells [j.aj,j.ag] 25 false)),aA (cR (d+3)) LW ⟨((x 0)::ax::(Pt br)::rx x 3 10 (ax::(Zn ai.length)::(Zn i_)::rx x 16 63 [])),hh,[],.no⟩ (.exit 0) hh (fun y=>((y 0)::ax::(Pt br)::rx y 3 10 (ax::(Zn ai.length)::rx y 15 64 []))) (fun r y=>((y 0)::ax::(Pt br)::(y 3)::(AV.bool r)::rx y 5 8 (ax::(Zn ai.length)::rx y 15 64 []))) (eP ai j k_ i_)
 | 0,i0,fX,x,hh,aE,aB,bj=>by
   have cm:=bn.small
   have eJ:=b8.small
   have jA:=ew.small
   have je:=aE _ _ bj
   have q1:(decide (((i0:Nat):Int)<((ai.length:Nat):Int)))=false:=d!
   exact aA.out rfl (pk (d+3) _ _ hh _ hh (VV (ba 3 false false .i64 ((i0:Nat):Int) ((ai.length:Nat):Int))<|BB q1<|ZZ) k!) (bF.refl aE) k!
 | dz+1,i0,fX,x,hh,aE,aB,bj=>by
   have cm:=bn.small
   have eJ:=b8.small
   have jA:=ew.small
   have je:=aE _ _ bj
   have q1:(decide (((i0:Nat):Int)<((ai.length:Nat):Int)))=true:=d!
   obtain ⟨p3,q4,cX,_⟩:=(bn.has aB).elem (i:=i0) o!
   have gv:bS env (some (.slice 3)) (some ax) (some (Zn i0))=some (AV.ptr p3 q4):=cX
   have g5:bh env hh 3 (AV.ptr p3 q4)=some (Zi (ai.g i0)):=(bn.has aB).load o! cX
   have k6:=pZ (d:=d+1) (ai.g i0) aE
   rcases Bool.eq_false_or_eq_true (!(dg (ai.g i0))) with f1 | f1
   · exact aA.ret false (by simp only[eP,f1,cond_true,cond_false]) (pk (d+3) _ _ hh _ hh (VV (ba 3 false false .i64 ((i0:Nat):Int) ((ai.length:Nat):Int))<|BC q1<|VV gv<|MM g5<|CN 3<|EE k6<|CN 2<|BB f1<|BB f1<|BB f1<|BB f1<|BV f1 (uN true f1)<|TT<|CC<|ZZ) k!) (bF.refl aE) k!
   · have k8:=rL (d:=d+2) j ai ((i0:Nat):Int) (aL.mono aB gU) (bn.has aB) (by first | omega | assumption | exact fun q hq=>by have u_:=dv aC.toNat o! q hq;omega | exact jS aC.toNat o! | exact fun q hq=>by have u_:=dv aC.toNat o! q hq;exact (cL.2.2.2.2 _ o!).le o! | (have t_:=Cr o!;unfold lu at t_;omega)) (by first | omega | assumption | exact fun q hq=>by have u_:=dv aC.toNat o! q hq;omega | exact jS aC.toNat o! | exact fun q hq=>by have u_:=dv aC.toNat o! q hq;exact (cL.2.2.2.2 _ o!).le o! | (have t_:=Cr o!;unfold lu at t_;omega)) (by first | omega | assumption | exact fun q hq=>by have u_:=dv aC.toNat o! q hq;omega | exact jS aC.toNat o! | exact fun q hq=>by have u_:=dv aC.toNat o! q hq;exact (cL.2.2.2.2 _ o!).le o! | (have t_:=Cr o!;unfold lu at t_;omega)) aE
     rcases Bool.eq_false_or_eq_true (decide (100000<(cV j ai ((i0:Nat):Int)))) with f2 | f2
     · have jw:=of_decide_eq_true f2
       exact aA.ret false (by simp only[eP,f1,f2,cond_true,cond_false]) (pk (d+3) _ _ hh _ hh (VV (ba 3 false false .i64 ((i0:Nat):Int) ((ai.length:Nat):Int))<|BC q1<|VV gv<|MM g5<|CN 3<|EE k6<|CN 2<|BM f1 (aw 25 0 (AV.agg [j.aj,j.ag]) bj k!)<|BC f1<|BC f1<|BB f1<|EE k8<|BV f1 (bR 3 false true .i64 (cV j ai ((i0:Nat):Int)) 100000)<|VV (bA (a:=some (AV.bool true)) (b:=some (AV.bool (decide (100000<(cV j ai ((i0:Nat):Int)))))) f1)<|BC f2<|ZZ) k!) (bF.refl aE) k!
     · have jw:=of_decide_eq_false f2
       have u10:=fe 3 false true i0 1 o!
       exact aA.round (by simp only[eP,f1,f2,cond_true,cond_false]) (pk (d+3) _ _ hh _ hh (VV (ba 3 false false .i64 ((i0:Nat):Int) ((ai.length:Nat):Int))<|BC q1<|VV gv<|MM g5<|CN 3<|EE k6<|CN 2<|BM f1 (aw 25 0 (AV.agg [j.aj,j.ag]) bj k!)<|BC f1<|BC f1<|BB f1<|EE k8<|BV f1 (bR 3 false true .i64 (cV j ai ((i0:Nat):Int)) 100000)<|VV (bA (a:=some (AV.bool true)) (b:=some (AV.bool (decide (100000<(cV j ai ((i0:Nat):Int)))))) f1)<|BV f2 u10<|CC<|ZZ) k!) (bF.refl aE) _ k! (fun x=>sM ax ai j br bn b8 ew gU iy kr rF tD qM tF UU ace acf dz (i0+1) o! x hh aE aB bj)
theorem wC {j:cz} {ai:List Int} (tk:∀i,i<j.ab.length→0≤(j.ab.g i).aI∧(j.ab.g i).aI≤100000) (hl:ai.length=j.ab.length):∀(k i:Nat),i+k=ai.length→eP ai j k i=none→∀q,i≤q→q<ai.length→0≤ai.g q∧ai.g q+(j.ab.g q).aI≤100000
 | 0,i,e,_,q,h1,h2=>by omega
 | k+1,i,e,h,q,h1,h2=>by
   rw[eP] at h
   cases a:dg (ai.g i) with
   | false=>rw[a] at h;cases h
   | true=>
     rw[a] at h
     have ta:0≤ai.g i∧ai.g i≤100000:=by
      unfold dg fS at a
      by_cases z:0≤ai.g i
      · rw[decide_eq_true z,cond_true] at a;exact ⟨z,of_decide_eq_true a⟩
      · rw[decide_eq_false z] at a;cases a
     have tt:=tk i o!
     by_cases b:100000<cV j ai ((i:Nat):Int)
     · rw[decide_eq_true b] at h;cases h
     · rw[decide_eq_false b] at h
       by_cases z:q=i
       · subst z
         unfold cV at b
         rw[Int.toNat_natCast,wrap_i64 o! o!] at b
         exact ⟨ta.1,by omega⟩
       · exact wC tk hl k (i+1) o! h q o! h2
theorem wD {j:cz} {ai:List Int} (tk:∀i,i<j.ab.length→0≤(j.ab.g i).aI∧(j.ab.g i).aI≤100000) (hl:ai.length=j.ab.length) (h:eP ai j ai.length 0=none):∀i,i<ai.length→0≤ai.g i∧ai.g i+(j.ab.g i).aI≤100000:=fun q hq=>wC tk hl _ 0 o! h q (Nat.zero_le _) hq
def gV (j:cz) (aC:Int) (ai:List Int):Nat→Nat→Option (Bool)
 | 0,_=>none
 | F_+1,i2=>(bif (decide ((ai.g aC.toNat)<(cV j ai (((j.ab.g aC.toNat).az).g i2)))) then some false else gV j aC ai F_ (i2+1))
theorem sO {d:Nat} {h:au} (ax:AV) (aC:Int) (j:cz) (md:Bool) (ca:List Bool) (gu:List Int) (jI:List Tl) (ai:List Int) (ik:Nat) (lO:Nat) (zN:Nat) (N':Nat) (ac2:Nat) (iI:b_ h .i64 3 ax ai) (mb:aS h j.aj j.ab) (tL:aS h j.ag j.af) (qh:b_ h .i64 3 ((j.ab.g aC.toNat).aO) ((j.ab.g aC.toNat).az)) (vg:aL.ok h j) (Ga:aL.ok h (j.ab.g aC.toNat)) (LO:∀i,i<j.ab.length→∀q,q<(j.ab.g i).az.length→0≤(j.ab.g i).az.g q∧(j.ab.g i).az.g q<(j.ab.length:Int)) (Rz:∀r,r<j.af.length→(j.af.g r).off.length≤16∧∀q,q<(j.af.g r).off.length→0≤((j.af.g r).off.g q).a_∧((j.af.g r).off.g q).aN≤100000) (RA:∀i,i<j.ab.length→∀q,q<(j.ab.g i).ar.length→0≤((j.ab.g i).ar.g q).ah∧((j.ab.g i).ar.g q).ah<(j.af.length:Int)) (RB:∀i,i<j.ab.length→∀a,a<(j.ab.g i).ar.length→∀b,a<b→b<(j.ab.g i).ar.length→((j.ab.g i).ar.g a).ah≠((j.ab.g i).ar.g b).ah) (RD:∀i,i<j.ab.length→0≤(j.ab.g i).aI∧(j.ab.g i).aI≤100000) (RE:ai.length=j.ab.length) (ac3:j.ab.length≤64) (ac4:j.af.length≤16) (ac5:0<j.af.length) (ah5:0≤aC) (afV:aC<(j.ab.length:Int)) (afW:jI.length=((aK j).1.length)):∀(k_ i_:Nat) (_:i_+k_=(((j.ab.g aC.toNat).az).length)) (x:Nat→AV) (hh:au) (aE:Tidy hh) (aB:Has h hh) (eg:hh.get ik=some (aM.cells [j.aj,j.ag] 25 false)) (iY:hh.get lO=some (aM.cells [j.aj,j.ag,(AV.slice zN 0 j.ab.length j.ab.length false),(AV.slice N' 0 j.ab.length j.ab.length false),(AV.slice ac2 0 ((aK j).1.length) ((aK j).1.length) md)] 93 false)) (nG:hh.get zN=some (aM.cells (bs ca) 4 false)) (EX:hh.get N'=some (aM.cells (zs .i64 gu) 3 false)) (V1:hh.get ac2=some (aM.cells (l7 jI) 148 false)),aA (cR (d+3)) LY ⟨((x 0)::ax::(Pt ik)::rx x 3 4 ((Pt lO)::(Zi aC)::rx x 9 25 (j.aj::(Zn j.ab.length)::(Zi aC)::rx x 37 5 (((j.ab.g aC.toNat).aO)::(Zn (((j.ab.g aC.toNat).az).length))::(Zn i_)::rx x 45 34 [])))),hh,[],.no⟩ (.exit 4) hh (fun y=>((y 0)::ax::(Pt ik)::rx y 3 4 ((Pt lO)::(Zi aC)::rx y 9 25 (j.aj::(Zn j.ab.length)::(Zi aC)::rx y 37 5 (((j.ab.g aC.toNat).aO)::(Zn (((j.ab.g aC.toNat).az).length))::rx y 44 35 []))))) (fun r y=>((y 0)::ax::(Pt ik)::(y 3)::(AV.bool r)::(y 5)::(y 6)::(Pt lO)::(Zi aC)::rx y 9 25 (j.aj::(Zn j.ab.length)::(Zi aC)::rx y 37 5 (((j.ab.g aC.toNat).aO)::(Zn (((j.ab.g aC.toNat).az).length))::rx y 44 35 [])))) (gV j aC ai k_ i_)
 | 0,i2,fX,x,hh,aE,aB,eg,iY,nG,EX,V1=>by
   have sH:=iI.small
   have sI:=mb.small
   have EL:=tL.small
   have xR:=qh.small
   have I6:=aE _ _ eg
   have N2:=aE _ _ iY
   have VM:=aE _ _ nG
   have ac6:=aE _ _ EX
   have ah6:=aE _ _ V1
   have q1:(decide (((i2:Nat):Int)<((((j.ab.g aC.toNat).az).length:Nat):Int)))=false:=d!
   exact aA.out rfl (pk (d+3) _ _ hh _ hh (VV (ba 3 false false .i64 ((i2:Nat):Int) ((((j.ab.g aC.toNat).az).length:Nat):Int))<|BB q1<|ZZ) k!) (bF.refl aE) k!
 | F_+1,i2,fX,x,hh,aE,aB,eg,iY,nG,EX,V1=>by
   have sH:=iI.small
   have sI:=mb.small
   have EL:=tL.small
   have xR:=qh.small
   have I6:=aE _ _ eg
   have N2:=aE _ _ iY
   have VM:=aE _ _ nG
   have ac6:=aE _ _ EX
   have ah6:=aE _ _ V1
   have kn_:=LO aC.toNat o! i2
   have q1:(decide (((i2:Nat):Int)<((((j.ab.g aC.toNat).az).length:Nat):Int)))=true:=d!
   obtain ⟨p3,q4,cX,_⟩:=(qh.has aB).elem (i:=i2) o!
   have gv:bS env (some (.slice 3)) (some ((j.ab.g aC.toNat).aO)) (some (Zn i2))=some (AV.ptr p3 q4):=cX
   have g5:bh env hh 3 (AV.ptr p3 q4)=some (Zi (((j.ab.g aC.toNat).az).g i2)):=(qh.has aB).load o! cX
   obtain ⟨p7,q8,vm,_⟩:=(iI.has aB).elem (i:=aC.toNat) o!
   have BN:bS env (some (.slice 3)) (some ax) (some (Zi aC))=some (AV.ptr p7 q8):=by rw[show (aC:Int)=((aC.toNat:Nat):Int) by omega];exact vm
   have xX:bh env hh 3 (AV.ptr p7 q8)=some (Zi (ai.g aC.toNat)):=(iI.has aB).load o! vm
   have Ff:=rL (d:=d+2) j ai (((j.ab.g aC.toNat).az).g i2) (aL.mono aB vg) (iI.has aB) (by first | omega | assumption | exact fun q hq=>by have u_:=dv aC.toNat o! q hq;omega | exact jS aC.toNat o! | exact fun q hq=>by have u_:=dv aC.toNat o! q hq;exact (cL.2.2.2.2 _ o!).le o! | (have t_:=Cr o!;unfold lu at t_;omega)) (by first | omega | assumption | exact fun q hq=>by have u_:=dv aC.toNat o! q hq;omega | exact jS aC.toNat o! | exact fun q hq=>by have u_:=dv aC.toNat o! q hq;exact (cL.2.2.2.2 _ o!).le o! | (have t_:=Cr o!;unfold lu at t_;omega)) (by first | omega | assumption | exact fun q hq=>by have u_:=dv aC.toNat o! q hq;omega | exact jS aC.toNat o! | exact fun q hq=>by have u_:=dv aC.toNat o! q hq;exact (cL.2.2.2.2 _ o!).le o! | (have t_:=Cr o!;unfold lu at t_;omega)) aE
   have P_:AV.same 20 (AV.agg [j.aj,j.ag]) (AV.agg [j.aj,j.ag])=true:=fj 18 (oX (mb.has aB).same (oX (tL.has aB).same Ix))
   rcases Bool.eq_false_or_eq_true (decide ((ai.g aC.toNat)<(cV j ai (((j.ab.g aC.toNat).az).g i2)))) with f1 | f1
   · have dC:=of_decide_eq_true f1
     exact aA.ret false (by simp only[gV,f1,cond_true,cond_false]) (pk (d+3) _ _ hh _ hh (VV (ba 3 false false .i64 ((i2:Nat):Int) ((((j.ab.g aC.toNat).az).length:Nat):Int))<|BV q1 gv<|MM g5<|CN 3<|VV BN<|MM xX<|MM (aw 25 0 (AV.agg [j.aj,j.ag]) eg k!)<|CN 2<|EE Ff<|VV (ba 3 false false .i64 (ai.g aC.toNat) (cV j ai (((j.ab.g aC.toNat).az).g i2)))<|HH xX<|HH (show AV.same 20 (Zi (ai.g aC.toNat)) (Zi (ai.g aC.toNat))=true from aJ 19 _ _)<|HH xX<|HH (show AV.same 20 (Zi (ai.g aC.toNat)) (Zi (ai.g aC.toNat))=true from aJ 19 _ _)<|HH (aw 25 0 (AV.agg [j.aj,j.ag]) eg k!)<|HH P_<|BC f1<|ZZ) k!) (bF.refl aE) k!
   · have dC:=of_decide_eq_false f1
     have Y_:=fe 3 false true i2 1 o!
     exact aA.round (by simp only[gV,f1,cond_true,cond_false]) (pk (d+3) _ _ hh _ hh (VV (ba 3 false false .i64 ((i2:Nat):Int) ((((j.ab.g aC.toNat).az).length:Nat):Int))<|BV q1 gv<|MM g5<|CN 3<|VV BN<|MM xX<|MM (aw 25 0 (AV.agg [j.aj,j.ag]) eg k!)<|CN 2<|EE Ff<|VV (ba 3 false false .i64 (ai.g aC.toNat) (cV j ai (((j.ab.g aC.toNat).az).g i2)))<|HH xX<|HH (show AV.same 20 (Zi (ai.g aC.toNat)) (Zi (ai.g aC.toNat))=true from aJ 19 _ _)<|HH xX<|HH (show AV.same 20 (Zi (ai.g aC.toNat)) (Zi (ai.g aC.toNat))=true from aJ 19 _ _)<|HH (aw 25 0 (AV.agg [j.aj,j.ag]) eg k!)<|HH P_<|BV f1 Y_<|CC<|ZZ) k!) (bF.refl aE) _ k! (fun x=>sO ax aC j md ca gu jI ai ik lO zN N' ac2 iI mb tL qh vg Ga LO Rz RA RB RD RE ac3 ac4 ac5 ah5 afV afW F_ (i2+1) o! x hh aE aB eg iY nG EX V1)
def iD (j:cz) (ai:List Int):Nat→Int→List Bool→List Int→List Tl→(List Bool×List Int×List Tl)⊕(Bool)
 | 0,aC,ca,gu,jI=>Sum.inl (ca,gu,jI)
 | qN+1,aC,ca,gu,jI=>(bif (decide (aC<((j.ab.length:Nat):Int))) then (match (gV j aC ai (((j.ab.g aC.toNat).az).length) 0) with | none=>iD j ai qN (aC+1) ((ji j ca gu jI aC (ai.g aC.toNat)).1) ((ji j ca gu jI aC (ai.g aC.toNat)).2.1) ((ji j ca gu jI aC (ai.g aC.toNat)).2.2) | some Oa=>Sum.inr Oa) else Sum.inl (ca,gu,jI))
theorem sP {d:Nat} {h:au} (ax:AV) (j:cz) (md:Bool) (ai:List Int) (cE:Nat) (cK:Nat) (h_:Nat) (iH:Nat) (tH:Nat) (dM:b_ h .i64 3 ax ai) (dm:aS h j.aj j.ab) (l8:aS h j.ag j.af) (l9:aL.ok h j) (pa:∀i,i<j.ab.length→∀q,q<(j.ab.g i).az.length→0≤(j.ab.g i).az.g q∧(j.ab.g i).az.g q<(j.ab.length:Int)) (sr:∀r,r<j.af.length→(j.af.g r).off.length≤16∧∀q,q<(j.af.g r).off.length→0≤((j.af.g r).off.g q).a_∧((j.af.g r).off.g q).aN≤100000) (dv:∀i,i<j.ab.length→∀q,q<(j.ab.g i).ar.length→0≤((j.ab.g i).ar.g q).ah∧((j.ab.g i).ar.g q).ah<(j.af.length:Int)) (jS:∀i,i<j.ab.length→∀a,a<(j.ab.g i).ar.length→∀b,a<b→b<(j.ab.g i).ar.length→((j.ab.g i).ar.g a).ah≠((j.ab.g i).ar.g b).ah) (IZ:∀i,i<j.ab.length→0≤(j.ab.g i).aI∧(j.ab.g i).aI≤100000) (LA:ai.length=j.ab.length) (ac7:j.ab.length≤64) (V2:j.af.length≤16) (ah7:0<j.af.length) (ac8:∀i,i<ai.length→0≤ai.g i∧ai.g i+(j.ab.g i).aI≤100000) (bW:Tidy h) (II:h.nx≤cE) (Ni:h.nx≤cK) (ac9:h.nx≤h_) (ada:h.nx≤iH) (ah8:h.nx≤tH) (xr:cK≠cE) (Ob:h_≠cE) (Oc:h_≠cK) (Od:iH≠cE) (Oe:iH≠cK) (Of:iH≠h_) (adb:tH≠cE) (ade:tH≠cK) (adf:tH≠h_) (adg:tH≠iH):∀(k_:Nat) (aC:Int) (ca:List Bool) (gu:List Int) (jI:List Tl) (_:((j.ab.length:Nat):Int) - aC≤(k_:Int)) (_:((∀ri,ri<(jI).length→lu 161 ((jI).g ri))∧(0≤aC∧aC≤(j.ab.length:Int)∧(jI).length=j.af.length∧∀ri,ri<(jI).length→lu (33+2*aC) ((jI).g ri)))) (x:Nat→AV) (hh:au) (aE:Tidy hh) (aB:Has h hh) (jv:h.nx≤hh.nx) (qt:ca.length=j.ab.length) (L4:gu.length=j.ab.length) (aaN:jI.length=((aK j).1.length)) (bZ:hh.get cE=some (aM.cells [j.aj,j.ag] 25 false)) (cf:hh.get cK=some (aM.cells [j.aj,j.ag,(AV.slice h_ 0 j.ab.length j.ab.length false),(AV.slice iH 0 j.ab.length j.ab.length false),(AV.slice tH 0 ((aK j).1.length) ((aK j).1.length) md)] 93 false)) (qW:hh.get h_=some (aM.cells (bs ca) 4 false)) (qX:hh.get iH=some (aM.cells (zs .i64 gu) 3 false)) (Gg:hh.get tH=some (aM.cells (l7 jI) 148 false)),cg (σ:=List Bool×List Int×List Tl) (ρ:=Bool) (cR (d+3)) LX ⟨((x 0)::ax::(Pt cE)::rx x 3 4 ((Pt cK)::rx x 8 26 (j.aj::(Zn j.ab.length)::(Zi aC)::rx x 37 42 []))),hh,[],.no⟩ (.exit 2) hh (fun r z y=>((y 0)::ax::(Pt cE)::rx y 3 4 ((Pt cK)::rx y 8 26 (j.aj::(Zn j.ab.length)::rx y 36 43 [])))) (fun r z y=>((y 0)::ax::(Pt cE)::(y 3)::(AV.bool r)::(y 5)::(y 6)::(Pt cK)::rx y 8 26 (j.aj::(Zn j.ab.length)::rx y 36 43 []))) (fun r z hk=>Has h hk∧hk.get cE=some (aM.cells [j.aj,j.ag] 25 false)∧hk.get cK=some (aM.cells [j.aj,j.ag,(AV.slice h_ 0 j.ab.length j.ab.length false),(AV.slice iH 0 j.ab.length j.ab.length false),(AV.slice tH 0 ((aK j).1.length) ((aK j).1.length) md)] 93 false)∧hk.get h_=some (aM.cells (bs r.1) 4 false)∧hk.get iH=some (aM.cells (zs .i64 r.2.1) 3 false)∧hk.get tH=some (aM.cells (l7 r.2.2) 148 false)∧r.1.length=j.ab.length∧r.2.1.length=j.ab.length∧r.2.2.length=((aK j).1.length)∧(∀ri,ri<(r.2.2).length→lu 161 ((r.2.2).g ri))) (fun r z hk=>Has h hk) (iD j ai k_ aC ca gu jI)
 | 0,aC,ca,gu,jI,fX,cL,x,hh,aE,aB,jv,qt,L4,aaN,bZ,cf,qW,qX,Gg=>by
   have jy:=dM.small
   have jz:=dm.small
   have xV:=l8.small
   have ss:=aE _ _ bZ
   have AS:=aE _ _ cf
   have adh:=aE _ _ qW
   have adi:=aE _ _ qX
   have ah9:=aE _ _ Gg
   have ks_:=ac8 aC.toNat
   have kt_:=IZ aC.toNat
   have q1:(decide (aC<((j.ab.length:Nat):Int)))=false:=d!
   exact cg.out (ca,gu,jI) AV.undef rfl (pk (d+3) _ _ hh _ hh (VV (ba 3 false false .i64 aC ((j.ab.length:Nat):Int))<|BB q1<|ZZ) k!) aE o! ⟨aB,bZ,cf,qW,qX,Gg,l!,l!,l!,(show (∀ri,ri<(jI).length→lu 161 ((jI).g ri)) from (by first | omega | exact fun r hr=>(cL.2.2.2.2 r hr).le o! | exact ⟨fun r hr=>(kz (by assumption) cL.2.2.2.2 o! r hr).le o!,by omega,by omega,by omega,kz (by assumption) cL.2.2.2.2 o!⟩))⟩ k!
 | qN+1,aC,ca,gu,jI,fX,cL,x,hh,aE,aB,jv,qt,L4,aaN,bZ,cf,qW,qX,Gg=>by
   have jy:=dM.small
   have jz:=dm.small
   have xV:=l8.small
   have ss:=aE _ _ bZ
   have AS:=aE _ _ cf
   have adh:=aE _ _ qW
   have adi:=aE _ _ qX
   have ah9:=aE _ _ Gg
   have ks_:=ac8 aC.toNat
   have kt_:=IZ aC.toNat
   rcases Bool.eq_false_or_eq_true (decide (aC<((j.ab.length:Nat):Int))) with f0 | f0
   · have dO:=of_decide_eq_true f0
     obtain ⟨p3,q4,cX⟩:=dm.elem (i:=aC.toNat) o!
     have gv:bS env (some (.slice 44)) (some j.aj) (some (Zi aC))=some (AV.ptr p3 q4):=by rw[show (aC:Int)=((aC.toNat:Nat):Int) by omega];exact cX
     have g5:bh env hh 44 (AV.ptr p3 q4)=some (AV.agg [(AV.str ((j.ab.g aC.toNat).name)),(Zi ((j.ab.g aC.toNat).aI)),((j.ab.g aC.toNat).aO),((j.ab.g aC.toNat).aU)]):=(dm.has aB).load o! cX
     obtain ⟨h6,lx,jf,Eb,pV,cu⟩:=j_ aE (aM.cells [(AV.str []),(Zi 0),AV.aH,AV.aH] 44 false)
     have ia:Has h h6:=aB.trans cu
     have Np:AV.scalar ((j.ab.g aC.toNat).aO)=true:=((dm.ok (i:=aC.toNat) o!).2.1).scalar
     have U2:AV.scalar ((j.ab.g aC.toNat).aU)=true:=((dm.ok (i:=aC.toNat) o!).2.2).scalar
     obtain ⟨h7,ks,fQ,zl,fD,bI⟩:=qL (t:=44) (n:=4) (i:=hh.nx) (L:=[(AV.str ((j.ab.g aC.toNat).name)),(Zi ((j.ab.g aC.toNat).aI)),((j.ab.g aC.toNat).aO),((j.ab.g aC.toNat).aU)]) jf pV k! rfl rfl (by simp only[AV.cells,List.all_cons,List.all_nil,Bool.and_true,Bool.and_self,iO,fY,iP,iQ,eS,mg,mh,mi,mj,ml,iR,Np,U2])
     have eL:Has h h7:=Has.ea ia bI bW o!
     have oS:b6 (some (.slice 3)) (some ((j.ab.g aC.toNat).aO))=some (Zn (((j.ab.g aC.toNat).az).length)):=((dm.ok (i:=aC.toNat) o!).2.1).len
     cases pj:gV j aC ai (((j.ab.g aC.toNat).az).length) 0 with
     | none=>
       obtain ⟨adj,pY,sQ,fu⟩:=aA.n pj (sO (d:=d) (h:=h) ax aC j md ca gu jI ai cE cK h_ iH tH dM dm l8 ((dm.ok (i:=aC.toNat) o!).2.1) l9 (dm.ok (i:=aC.toNat) o!) (by assumption) (by assumption) (by assumption) (by assumption) (by assumption) o! o! o! o! o! o! o! (((j.ab.g aC.toNat).az).length) 0 o! (fun k_=>(((x 0)::ax::(Pt cE)::rx x 3 4 ((Pt cK)::(Zi aC)::(Pt hh.nx)::rx x 10 24 (j.aj::(Zn j.ab.length)::(Zi aC)::(AV.bool (decide (aC<((j.ab.length:Nat):Int))))::(Zi aC)::(AV.ptr p3 q4)::(AV.agg [(AV.str ((j.ab.g aC.toNat).name)),(Zi ((j.ab.g aC.toNat).aI)),((j.ab.g aC.toNat).aO),((j.ab.g aC.toNat).aU)])::(AV.ptr hh.nx 2)::((j.ab.g aC.toNat).aO)::(Zn (((j.ab.g aC.toNat).az).length))::(Zi 0)::rx x 45 34 []))):List AV).getD k_ AV.undef) h7 fQ eL (bI _ _ o! (cu _ _ bZ)) (bI _ _ o! (cu _ _ cf)) (bI _ _ o! (cu _ _ qW)) (bI _ _ o! (cu _ _ qX)) (bI _ _ o! (cu _ _ Gg)))
       have mR:=fu.y
       have Lh:h7.nx≤pY.nx:=fu.n
       have iU:Has h pY:=eL.trans fu.a
       obtain ⟨VL,Ry,vd,_⟩:=dM.elem (i:=aC.toNat) o!
       have F9:bS env (some (.slice 3)) (some ax) (some (Zi aC))=some (AV.ptr VL Ry):=by rw[show (aC:Int)=((aC.toNat:Nat):Int) by omega];exact vd
       have ve:bh env pY 3 (AV.ptr VL Ry)=some (Zi (ai.g aC.toNat)):=(dM.has iU).load o! vd
       obtain ⟨Lc,Ec,PC,CJ,zo,gG⟩:=mM mR (fu.a _ _ (bI _ _ o! (cu _ _ qW)))
       have Og:Has h Lc:=eU iU (by first | assumption | exact cU bW o!) gG
       obtain ⟨RY,Oh,Zk,Jf,Jg,nV⟩:=mM Ec ((gG _ o!).trans (fu.a _ _ (bI _ _ o! (cu _ _ qX))))
       have Bb:RY.get h_=none:=(nV _ o!).trans CJ
       have Jh:Has h RY:=eU Og (by first | assumption | exact cU bW o!) nV
       obtain ⟨Zl,adk,ags,Zm,Zo,zU⟩:=mM Oh ((nV _ o!).trans ((gG _ o!).trans (fu.a _ _ (bI _ _ o! (cu _ _ Gg)))))
       have RZ:Zl.get h_=none:=(zU _ o!).trans Bb
       have R0:Zl.get iH=none:=(zU _ o!).trans Jf
       have V3:Has h Zl:=eU Jh (by first | assumption | exact cU bW o!) zU
       obtain ⟨YI,afX,UQ,aiL,Oi,Zp,agt,Zq,agu,Zr,agv⟩:=YT (d:=d) (h:=Zl) (placedN:=j.ab.length) (startsN:=j.ab.length) (talliesN:=((aK j).1.length)) (talliesF:=md) j ca gu jI aC (ai.g aC.toNat) (aL.mono V3 l9) (fu.a _ _ (bI _ _ o! (cu _ _ qW))) l! RZ (fu.a _ _ (bI _ _ o! (cu _ _ qX))) l! R0 (fu.a _ _ (bI _ _ o! (cu _ _ Gg))) l! Zm (by first | omega | assumption | exact fun q hq=>by have u_:=dv aC.toNat o! q hq;omega | exact jS aC.toNat o! | exact fun q hq=>by have u_:=dv aC.toNat o! q hq;exact (cL.2.2.2.2 _ o!).le o! | (have t_:=Cr o!;unfold lu at t_;omega)) (by first | omega | assumption | exact fun q hq=>by have u_:=dv aC.toNat o! q hq;omega | exact jS aC.toNat o! | exact fun q hq=>by have u_:=dv aC.toNat o! q hq;exact (cL.2.2.2.2 _ o!).le o! | (have t_:=Cr o!;unfold lu at t_;omega)) (by first | omega | assumption | exact fun q hq=>by have u_:=dv aC.toNat o! q hq;omega | exact jS aC.toNat o! | exact fun q hq=>by have u_:=dv aC.toNat o! q hq;exact (cL.2.2.2.2 _ o!).le o! | (have t_:=Cr o!;unfold lu at t_;omega)) (by first | omega | assumption | exact fun q hq=>by have u_:=dv aC.toNat o! q hq;omega | exact jS aC.toNat o! | exact fun q hq=>by have u_:=dv aC.toNat o! q hq;exact (cL.2.2.2.2 _ o!).le o! | (have t_:=Cr o!;unfold lu at t_;omega)) (by first | omega | assumption | exact fun q hq=>by have u_:=dv aC.toNat o! q hq;omega | exact jS aC.toNat o! | exact fun q hq=>by have u_:=dv aC.toNat o! q hq;exact (cL.2.2.2.2 _ o!).le o! | (have t_:=Cr o!;unfold lu at t_;omega)) (by first | omega | assumption | exact fun q hq=>by have u_:=dv aC.toNat o! q hq;omega | exact jS aC.toNat o! | exact fun q hq=>by have u_:=dv aC.toNat o! q hq;exact (cL.2.2.2.2 _ o!).le o! | (have t_:=Cr o!;unfold lu at t_;omega)) (by first | omega | assumption | exact fun q hq=>by have u_:=dv aC.toNat o! q hq;omega | exact jS aC.toNat o! | exact fun q hq=>by have u_:=dv aC.toNat o! q hq;exact (cL.2.2.2.2 _ o!).le o! | (have t_:=Cr o!;unfold lu at t_;omega)) (by first | omega | assumption | exact fun q hq=>by have u_:=dv aC.toNat o! q hq;omega | exact jS aC.toNat o! | exact fun q hq=>by have u_:=dv aC.toNat o! q hq;exact (cL.2.2.2.2 _ o!).le o! | (have t_:=Cr o!;unfold lu at t_;omega)) (by first | omega | assumption | exact fun q hq=>by have u_:=dv aC.toNat o! q hq;omega | exact jS aC.toNat o! | exact fun q hq=>by have u_:=dv aC.toNat o! q hq;exact (cL.2.2.2.2 _ o!).le o! | (have t_:=Cr o!;unfold lu at t_;omega)) (by first | omega | assumption | exact fun q hq=>by have u_:=dv aC.toNat o! q hq;omega | exact jS aC.toNat o! | exact fun q hq=>by have u_:=dv aC.toNat o! q hq;exact (cL.2.2.2.2 _ o!).le o! | (have t_:=Cr o!;unfold lu at t_;omega)) o! o! o! adk mR (Zo.trans (Jg.trans zo)) o!
       have aia:=Vg j ca gu jI aC (ai.g aC.toNat) (by first | omega | assumption | exact fun q hq=>by have u_:=dv aC.toNat o! q hq;omega | exact jS aC.toNat o! | exact fun q hq=>by have u_:=dv aC.toNat o! q hq;exact (cL.2.2.2.2 _ o!).le o! | (have t_:=Cr o!;unfold lu at t_;omega)) (by first | omega | assumption | exact fun q hq=>by have u_:=dv aC.toNat o! q hq;omega | exact jS aC.toNat o! | exact fun q hq=>by have u_:=dv aC.toNat o! q hq;exact (cL.2.2.2.2 _ o!).le o! | (have t_:=Cr o!;unfold lu at t_;omega)) (by first | omega | assumption | exact fun q hq=>by have u_:=dv aC.toNat o! q hq;omega | exact jS aC.toNat o! | exact fun q hq=>by have u_:=dv aC.toNat o! q hq;exact (cL.2.2.2.2 _ o!).le o! | (have t_:=Cr o!;unfold lu at t_;omega)) (by first | omega | assumption | exact fun q hq=>by have u_:=dv aC.toNat o! q hq;omega | exact jS aC.toNat o! | exact fun q hq=>by have u_:=dv aC.toNat o! q hq;exact (cL.2.2.2.2 _ o!).le o! | (have t_:=Cr o!;unfold lu at t_;omega))
       have UR:Has h YI:=(V3.trans Oi)
       have c21:AV.same 20 (AV.agg [j.aj,j.ag,(AV.slice h_ 0 j.ab.length j.ab.length false),(AV.slice iH 0 j.ab.length j.ab.length false),(AV.slice tH 0 ((aK j).1.length) ((aK j).1.length) md)]) (AV.agg [j.aj,j.ag,(AV.slice h_ 0 j.ab.length j.ab.length false),(AV.slice iH 0 j.ab.length j.ab.length false),(AV.slice tH 0 ((aK j).1.length) ((aK j).1.length) md)])=true:=fj 18 (oX dm.same (oX l8.same (oX (fun n=>by simp [AV.same]) (oX (fun n=>by simp [AV.same]) (oX (fun n=>by simp [AV.same]) Ix)))))
       have w22:IntKind.i64.wrap (aC+1)=aC+1:=wrap_i64 o! o!
       exact cg.round (by simp only[iD,f0,pj,cond_true,cond_false]) (pk (d+3) _ _ hh _ YI (VV (ba 3 false false .i64 aC ((j.ab.length:Nat):Int))<|BC f0<|VV gv<|MM g5<|NN lx (fun i=>(Pt i))<|CC<|SS ks<|CC<|MM (aw 26 2 ((j.ab.g aC.toNat).aO) fD k!)<|VV oS<|CC<|LL sQ<|MM (aw 93 0 (AV.agg [j.aj,j.ag,(AV.slice h_ 0 j.ab.length j.ab.length false),(AV.slice iH 0 j.ab.length j.ab.length false),(AV.slice tH 0 ((aK j).1.length) ((aK j).1.length) md)]) (fu.a _ _ (bI _ _ o! (cu _ _ cf))) k!)<|CN 3<|VV F9<|MM ve<|EE afX<|HH (aw 93 0 (AV.agg [j.aj,j.ag,(AV.slice h_ 0 j.ab.length j.ab.length false),(AV.slice iH 0 j.ab.length j.ab.length false),(AV.slice tH 0 ((aK j).1.length) ((aK j).1.length) md)]) (fu.a _ _ (bI _ _ o! (cu _ _ cf))) k!)<|HH c21<|HH ve<|HH (show AV.same 20 (Zi (ai.g aC.toNat)) (Zi (ai.g aC.toNat))=true from aJ 19 _ _)<|VV (pK 3 false true w22)<|CC<|ZZ) k!) o! _ k! (fun x=>sP ax j md ai cE cK h_ iH tH dM dm l8 l9 pa sr dv jS IZ LA ac7 V2 ah7 ac8 bW II Ni ac9 ada ah8 xr Ob Oc Od Oe Of adb ade adf adg qN (aC+1) ((ji j ca gu jI aC (ai.g aC.toNat)).1) ((ji j ca gu jI aC (ai.g aC.toNat)).2.1) ((ji j ca gu jI aC (ai.g aC.toNat)).2.2) (by first | omega | exact fun r hr=>(cL.2.2.2.2 r hr).le o! | exact ⟨fun r hr=>(kz (by assumption) cL.2.2.2.2 o! r hr).le o!,by omega,by omega,by omega,kz (by assumption) cL.2.2.2.2 o!⟩) (show ((∀ri,ri<(((ji j ca gu jI aC (ai.g aC.toNat)).2.2)).length→lu 161 ((((ji j ca gu jI aC (ai.g aC.toNat)).2.2)).g ri))∧(0≤(aC+1)∧(aC+1)≤(j.ab.length:Int)∧(((ji j ca gu jI aC (ai.g aC.toNat)).2.2)).length=j.af.length∧∀ri,ri<(((ji j ca gu jI aC (ai.g aC.toNat)).2.2)).length→lu (33+2*(aC+1)) ((((ji j ca gu jI aC (ai.g aC.toNat)).2.2)).g ri))) from (by first | omega | exact fun r hr=>(cL.2.2.2.2 r hr).le o! | exact ⟨fun r hr=>(kz (by assumption) cL.2.2.2.2 o! r hr).le o!,by omega,by omega,by omega,kz (by assumption) cL.2.2.2.2 o!⟩)) x YI UQ UR o! l! l! l! (Oi _ _ ((zU _ o!).trans ((nV _ o!).trans ((gG _ o!).trans (fu.a _ _ (bI _ _ o! (cu _ _ bZ))))))) (Oi _ _ ((zU _ o!).trans ((nV _ o!).trans ((gG _ o!).trans (fu.a _ _ (bI _ _ o! (cu _ _ cf))))))) Zp Zq Zr)
     | some Oa=>
       obtain ⟨adj,pY,sQ,fu⟩:=aA.r pj (sO (d:=d) (h:=h) ax aC j md ca gu jI ai cE cK h_ iH tH dM dm l8 ((dm.ok (i:=aC.toNat) o!).2.1) l9 (dm.ok (i:=aC.toNat) o!) (by assumption) (by assumption) (by assumption) (by assumption) (by assumption) o! o! o! o! o! o! o! (((j.ab.g aC.toNat).az).length) 0 o! (fun k_=>(((x 0)::ax::(Pt cE)::rx x 3 4 ((Pt cK)::(Zi aC)::(Pt hh.nx)::rx x 10 24 (j.aj::(Zn j.ab.length)::(Zi aC)::(AV.bool (decide (aC<((j.ab.length:Nat):Int))))::(Zi aC)::(AV.ptr p3 q4)::(AV.agg [(AV.str ((j.ab.g aC.toNat).name)),(Zi ((j.ab.g aC.toNat).aI)),((j.ab.g aC.toNat).aO),((j.ab.g aC.toNat).aU)])::(AV.ptr hh.nx 2)::((j.ab.g aC.toNat).aO)::(Zn (((j.ab.g aC.toNat).az).length))::(Zi 0)::rx x 45 34 []))):List AV).getD k_ AV.undef) h7 fQ eL (bI _ _ o! (cu _ _ bZ)) (bI _ _ o! (cu _ _ cf)) (bI _ _ o! (cu _ _ qW)) (bI _ _ o! (cu _ _ qX)) (bI _ _ o! (cu _ _ Gg)))
       have mR:=fu.y
       have Lh:h7.nx≤pY.nx:=fu.n
       have iU:Has h pY:=eL.trans fu.a
       exact cg.ret Oa AV.undef (by simp only[iD,f0,pj,cond_true,cond_false]) (pk (d+3) _ _ hh _ pY (VV (ba 3 false false .i64 aC ((j.ab.length:Nat):Int))<|BC f0<|VV gv<|MM g5<|NN lx (fun i=>(Pt i))<|CC<|SS ks<|CC<|MM (aw 26 2 ((j.ab.g aC.toNat).aO) fD k!)<|VV oS<|CC<|LL sQ<|ZZ) k!) mR o! iU k!
   · have dO:=of_decide_eq_false f0
     exact cg.out (ca,gu,jI) AV.undef (by simp only[iD,f0,cond_true,cond_false]) (pk (d+3) _ _ hh _ hh (VV (ba 3 false false .i64 aC ((j.ab.length:Nat):Int))<|BB f0<|ZZ) k!) aE o! ⟨aB,bZ,cf,qW,qX,Gg,l!,l!,l!,(show (∀ri,ri<(jI).length→lu 161 ((jI).g ri)) from (by first | omega | exact fun r hr=>(cL.2.2.2.2 r hr).le o! | exact ⟨fun r hr=>(kz (by assumption) cL.2.2.2.2 o! r hr).le o!,by omega,by omega,by omega,kz (by assumption) cL.2.2.2.2 o!⟩))⟩ k!
def gW (j:cz) (qi:List Bool×List Int×List Tl):Nat→Nat→Option (Bool)
 | 0,_=>none
 | Gb+1,i3=>(bif (!(ib (fit (qi.2.2.g i3).l))) then some false else gW j qi Gb (i3+1))
theorem sR {d:Nat} {h:au} (j:cz) (md:Bool) (qi:List Bool×List Int×List Tl) (ai:List Int) (oA:Nat) (tM:Nat) (tN:Nat) (L5:Nat) (mz:aS h j.aj j.ab) (qV:aS h j.ag j.af) (ES:aL.ok h j) (RK:∀i,i<j.ab.length→∀q,q<(j.ab.g i).az.length→0≤(j.ab.g i).az.g q∧(j.ab.g i).az.g q<(j.ab.length:Int)) (RL:∀r,r<j.af.length→(j.af.g r).off.length≤16∧∀q,q<(j.af.g r).off.length→0≤((j.af.g r).off.g q).a_∧((j.af.g r).off.g q).aN≤100000) (RM:∀i,i<j.ab.length→∀q,q<(j.ab.g i).ar.length→0≤((j.ab.g i).ar.g q).ah∧((j.ab.g i).ar.g q).ah<(j.af.length:Int)) (RN:∀i,i<j.ab.length→∀a,a<(j.ab.g i).ar.length→∀b,a<b→b<(j.ab.g i).ar.length→((j.ab.g i).ar.g a).ah≠((j.ab.g i).ar.g b).ah) (RO:∀i,i<j.ab.length→0≤(j.ab.g i).aI∧(j.ab.g i).aI≤100000) (RP:ai.length=j.ab.length) (aib:j.ab.length≤64) (aic:j.af.length≤16) (aid:0<j.af.length) (aie:qi.2.2.length=((aK j).1.length)) (aaO:∀r,r<qi.2.2.length→lu 161 (qi.2.2.g r)) (afY:qi.2.2.length≤1000):∀(k_ i_:Nat) (_:i_+k_=((aK j).1.length)) (x:Nat→AV) (hh:au) (aE:Tidy hh) (aB:Has h hh) (g9:hh.get oA=some (aM.cells [j.aj,j.ag,(AV.slice tM 0 j.ab.length j.ab.length false),(AV.slice tN 0 j.ab.length j.ab.length false),(AV.slice L5 0 ((aK j).1.length) ((aK j).1.length) md)] 93 false)) (kV:hh.get tM=some (aM.cells (bs qi.1) 4 false)) (mA:hh.get tN=some (aM.cells (zs .i64 qi.2.1) 3 false)) (R1:hh.get L5=some (aM.cells (l7 qi.2.2) 148 false)),aA (cR (d+3)) LZ ⟨(rx x 0 7 ((Pt oA)::rx x 8 60 ((Zn ((aK j).1.length))::(Zn i_)::rx x 70 9 []))),hh,[],.no⟩ (.exit 6) hh (fun y=>(rx y 0 7 ((Pt oA)::rx y 8 60 ((Zn ((aK j).1.length))::rx y 69 10 [])))) (fun r y=>(rx y 0 4 ((AV.bool r)::(y 5)::(y 6)::(Pt oA)::rx y 8 60 ((Zn ((aK j).1.length))::rx y 69 10 [])))) (gW j qi k_ i_)
 | 0,i3,fX,x,hh,aE,aB,g9,kV,mA,R1=>by
   have xS:=mz.small
   have xU:=qV.small
   have N4:=aE _ _ g9
   have VN:=aE _ _ kV
   have VO:=aE _ _ mA
   have aif:=aE _ _ R1
   have q1:(decide (((i3:Nat):Int)<((((aK j).1.length):Nat):Int)))=false:=d!
   exact aA.out rfl (pk (d+3) _ _ hh _ hh (VV (ba 3 false false .i64 ((i3:Nat):Int) ((((aK j).1.length):Nat):Int))<|BB q1<|ZZ) k!) (bF.refl aE) k!
 | Gb+1,i3,fX,x,hh,aE,aB,g9,kV,mA,R1=>by
   have xS:=mz.small
   have xU:=qV.small
   have N4:=aE _ _ g9
   have VN:=aE _ _ kV
   have VO:=aE _ _ mA
   have aif:=aE _ _ R1
   have Cr:=aaO i3
   have q1:(decide (((i3:Nat):Int)<((((aK j).1.length):Nat):Int)))=true:=d!
   have gv:bS env (some (.slice 148)) (some (AV.slice L5 0 ((aK j).1.length) ((aK j).1.length) md)) (some (Zn i3))=some (AV.ptr L5 (0+i3*324)):=IC (z:=324) (k:=i3) k! o! o!
   have k3:=Nv (d:=d+2) (fit (qi.2.2.g i3).l) L5 (0+i3*324) (PA R1 o!) (by rw[(D9 o!).2];omega) (vN _) (by first | omega | assumption | exact fun q hq=>by have u_:=dv aC.toNat o! q hq;omega | exact jS aC.toNat o! | exact fun q hq=>by have u_:=dv aC.toNat o! q hq;exact (cL.2.2.2.2 _ o!).le o! | (have t_:=Cr o!;unfold lu at t_;omega)) (by first | omega | assumption | exact fun q hq=>by have u_:=dv aC.toNat o! q hq;omega | exact jS aC.toNat o! | exact fun q hq=>by have u_:=dv aC.toNat o! q hq;exact (cL.2.2.2.2 _ o!).le o! | (have t_:=Cr o!;unfold lu at t_;omega)) aE
   rcases Bool.eq_false_or_eq_true (!(ib (fit (qi.2.2.g i3).l))) with f1 | f1
   · exact aA.ret false (by simp only[gW,f1,cond_true,cond_false]) (pk (d+3) _ _ hh _ hh (VV (ba 3 false false .i64 ((i3:Nat):Int) ((((aK j).1.length):Nat):Int))<|BB q1<|CN 3<|MM (aw 91 4 (AV.slice L5 0 ((aK j).1.length) ((aK j).1.length) md) g9 k!)<|CC<|VV gv<|EE k3<|CC<|BC f1<|ZZ) k!) (bF.refl aE) k!
   · have u5:=fe 3 false true i3 1 o!
     exact aA.round (by simp only[gW,f1,cond_true,cond_false]) (pk (d+3) _ _ hh _ hh (VV (ba 3 false false .i64 ((i3:Nat):Int) ((((aK j).1.length):Nat):Int))<|BB q1<|CN 3<|MM (aw 91 4 (AV.slice L5 0 ((aK j).1.length) ((aK j).1.length) md) g9 k!)<|CC<|VV gv<|EE k3<|CC<|BV f1 u5<|CC<|ZZ) k!) (bF.refl aE) _ k! (fun x=>sR j md qi ai oA tM tN L5 mz qV ES RK RL RM RN RO RP aib aic aid aie aaO afY Gb (i3+1) o! x hh aE aB g9 kV mA R1)
def lV (j:cz) (ai:List Int):Bool:=(match (eP ai j ai.length 0) with | none=>(match (iD j ai (((j.ab.length:Nat):Int) - 0).toNat 0 ((aK j).2.1) ((aK j).2.2) ((aK j).1)) with | Sum.inl qi=>(match (gW j qi ((aK j).1.length) 0) with | none=>true | some adl=>adl) | Sum.inr Oj=>Oj) | some U6=>U6)
theorem R2 {d:Nat} {h:au} {ax:AV} (j:cz) (ai:List Int) (bH:aL.ok h j) (bm:b_ h .i64 3 ax ai) (lI:∀i,i<j.ab.length→∀q,q<(j.ab.g i).az.length→0≤(j.ab.g i).az.g q∧(j.ab.g i).az.g q<(j.ab.length:Int)) (oL:∀r,r<j.af.length→(j.af.g r).off.length≤16∧∀q,q<(j.af.g r).off.length→0≤((j.af.g r).off.g q).a_∧((j.af.g r).off.g q).aN≤100000) (D2:∀i,i<j.ab.length→∀q,q<(j.ab.g i).ar.length→0≤((j.ab.g i).ar.g q).ah∧((j.ab.g i).ar.g q).ah<(j.af.length:Int)) (FK:∀i,i<j.ab.length→∀a,a<(j.ab.g i).ar.length→∀b,a<b→b<(j.ab.g i).ar.length→((j.ab.g i).ar.g a).ah≠((j.ab.g i).ar.g b).ah) (Rb:∀i,i<j.ab.length→0≤(j.ab.g i).aI∧(j.ab.g i).aI≤100000) (aco:ai.length=j.ab.length) (pre6:j.ab.length≤64) (ahA:j.af.length≤16) (ahB:0<j.af.length) (bW:Tidy h):cR (d+4) (.fn 32) [(AV.agg [j.aj,j.ag]),ax] h= .ret (AV.bool (lV j ai)) h:=by
 have fG:=bm.small
 have dP:=bH.1.small
 have dQ:=bH.2.small
 obtain ⟨h1,bM,cx,jc,aQ,cA⟩:=j_ bW (aM.cells [j.aj,j.ag] 25 false)
 have bt:Has h h1:=cA
 have re:b6 (some (.slice 3)) (some ax)=some (Zn ai.length):=bm.len
 cases ky:eP ai j ai.length 0 with
 | none=>
   obtain ⟨Ae,h4,iA,gH⟩:=aA.n ky (sM (d:=d) (h:=h) ax ai j h.nx bm bH.1 bH.2 bH (by assumption) (by assumption) (by assumption) (by assumption) (by assumption) o! o! o! o! ai.length 0 o! (fun k_=>(((AV.agg [j.aj,j.ag])::ax::(Pt h.nx)::AV.undef::(AV.bool false)::AV.undef::AV.undef::AV.undef::AV.undef::AV.undef::AV.undef::AV.undef::AV.undef::ax::(Zn ai.length)::(Zi 0)::g4 63):List AV).getD k_ AV.undef) h1 cx bt aQ)
   have nA:=gH.y
   have Lm:h1.nx≤h4.nx:=gH.n
   have kQ:Has h h4:=bt.trans gH.a
   obtain ⟨R3,R4,zb7,gb8,l_,Hn,nj,xY,xZ,Ok,adm,adn,ado,adp,adq,adr,ads,adt⟩:=zp (d:=d) j (aL.mono kQ bH) (by first | omega | assumption | exact fun q hq=>by have u_:=dv aC.toNat o! q hq;omega | exact jS aC.toNat o! | exact fun q hq=>by have u_:=dv aC.toNat o! q hq;exact (cL.2.2.2.2 _ o!).le o! | (have t_:=Cr o!;unfold lu at t_;omega)) (by first | omega | assumption | exact fun q hq=>by have u_:=dv aC.toNat o! q hq;omega | exact jS aC.toNat o! | exact fun q hq=>by have u_:=dv aC.toNat o! q hq;exact (cL.2.2.2.2 _ o!).le o! | (have t_:=Cr o!;unfold lu at t_;omega)) (by first | omega | assumption | exact fun q hq=>by have u_:=dv aC.toNat o! q hq;omega | exact jS aC.toNat o! | exact fun q hq=>by have u_:=dv aC.toNat o! q hq;exact (cL.2.2.2.2 _ o!).le o! | (have t_:=Cr o!;unfold lu at t_;omega)) nA
   have mQ:=nj.y
   have aax:h4.nx≤l_.nx:=nj.n
   have adu:=wx j (by assumption)
   obtain ⟨V4,md,rfl,aih,Ol⟩:=ni.block Ok o!
   have uS:Has h l_:=kQ.trans nj.a
   have EY:Has h4 l_:=nj.a
   have afZ:=mQ _ _ xY
   have af0:=mQ _ _ xZ
   have aiM:=mQ _ _ Ol
   obtain ⟨pY,vi,mR,aaH,zP,cy⟩:=j_ mQ (aM.cells [AV.aH,AV.aH,AV.aH,AV.aH,AV.aH] 93 false)
   have iU:Has h pY:=uS.trans cy
   have EZ:Has h4 pY:=EY.trans cy
   have Bc:Has l_ pY:=cy
   have VP:AV.scalar j.aj=true:=bH.1.scalar
   have adv:AV.scalar j.ag=true:=bH.2.scalar
   obtain ⟨mq,oi,ku,Lk,m5,b7⟩:=qL (t:=93) (n:=5) (i:=l_.nx) (L:=[j.aj,j.ag,(AV.slice R3 0 j.ab.length j.ab.length false),(AV.slice R4 0 j.ab.length j.ab.length false),(AV.slice V4 0 ((aK j).1.length) ((aK j).1.length) md)]) mR zP k! rfl rfl (by simp only[AV.cells,List.all_cons,List.all_nil,Bool.and_true,Bool.and_self,iO,fY,iP,iQ,eS,mg,mh,mi,mj,ml,iR,VP,adv])
   have iF:Has h mq:=Has.ea iU b7 bW o!
   have V5:Has h4 mq:=Has.ea EZ b7 nA o!
   have R5:Has l_ mq:=Has.ea Bc b7 mQ o!
   have R6:b6 (some (.slice 44)) (some j.aj)=some (Zn j.ab.length):=bH.1.len
   cases nW:iD j ai (((j.ab.length:Nat):Int) - 0).toNat 0 ((aK j).2.1) ((aK j).2.2) ((aK j).1) with
   | inl qi=>
     obtain ⟨adw,jX,Fo,qB,L6,V6,x7,Zs,vT,Ji,Jj,P',Zt,Zu,agw,V7⟩:=cg.n nW (sP (d:=d) (h:=h) ax j md ai h.nx l_.nx R3 R4 V4 bm bH.1 bH.2 bH (by assumption) (by assumption) (by assumption) (by assumption) (by assumption) o! o! o! o! (wD (by assumption) (by assumption) (by assumption)) bW o! o! o! o! o! o! o! o! o! o! o! o! o! o! o! (((j.ab.length:Nat):Int) - 0).toNat 0 ((aK j).2.1) ((aK j).2.2) ((aK j).1) o! (show ((∀ri,ri<(((aK j).1)).length→lu 161 ((((aK j).1)).g ri))∧(0≤0∧0≤(j.ab.length:Int)∧(((aK j).1)).length=j.af.length∧∀ri,ri<(((aK j).1)).length→lu (33+2*0) ((((aK j).1)).g ri))) from ⟨fun r hr=>(sx (by assumption) r hr).le o!,by omega,by omega,by omega,sx (by assumption)⟩) (fun k_=>(((Ae 0)::ax::(Pt h.nx)::rx Ae 3 4 ((Pt l_.nx)::rx Ae 8 5 (ax::(Zn ai.length)::rx Ae 15 16 ((AV.agg [j.aj,j.ag])::(AV.agg [j.aj,j.ag,(AV.slice R3 0 j.ab.length j.ab.length false),(AV.slice R4 0 j.ab.length j.ab.length false),(AV.slice V4 0 ((aK j).1.length) ((aK j).1.length) md)])::(Pt h.nx)::j.aj::(Zn j.ab.length)::(Zi 0)::rx Ae 37 42 [])))):List AV).getD k_ AV.undef) mq ku iF o! l! l! l! (b7 _ _ o! (cy _ _ (nj.a _ _ (gH.a _ _ aQ)))) m5 (b7 _ _ o! (cy _ _ xY)) (b7 _ _ o! (cy _ _ xZ)) (b7 _ _ o! (cy _ _ Ol)))
     have wE:Has h Fo:=x7
     cases CW:gW j qi ((aK j).1.length) 0 with
     | none=>
       obtain ⟨aii,Sr,Jk,zV⟩:=aA.n CW (sR (d:=d) (h:=h) j md qi ai l_.nx R3 R4 V4 bH.1 bH.2 bH (by assumption) (by assumption) (by assumption) (by assumption) (by assumption) o! o! o! o! o! (by assumption) o! ((aK j).1.length) 0 o! (fun k_=>(((jX 0)::ax::(Pt h.nx)::rx jX 3 4 ((Pt l_.nx)::rx jX 8 26 (j.aj::(Zn j.ab.length)::rx jX 36 30 ((AV.ptr l_.nx 4)::(AV.slice V4 0 ((aK j).1.length) ((aK j).1.length) md)::(Zn ((aK j).1.length))::(Zi 0)::rx jX 70 9 [])))):List AV).getD k_ AV.undef) Fo L6 wE vT Ji Jj P')
       have UT:=zV.y
       have aal:Fo.nx≤Sr.nx:=zV.n
       have Le:Has h Sr:=wE.trans zV.a
       have R7:Has Fo Sr:=zV.a
       have e:lV j ai=true:=by simp only[lV,ky,nW,CW,cond_true,cond_false]
       rw[e]
       exact aD rfl (bb Tryz.func32 vS rfl (.inr rfl) (pk (d+3) _ _ h _ Sr (NN bM (fun i=>(Pt i))<|CN 2<|VV re<|CC<|LL iA<|MM (aw 25 0 (AV.agg [j.aj,j.ag]) (gH.a _ _ aQ) k!)<|EE Hn<|NN vi (fun i=>(Pt i))<|SS oi<|CC<|MM (aw 22 0 j.aj (b7 _ _ o! (cy _ _ (nj.a _ _ (gH.a _ _ aQ)))) k!)<|VV R6<|CC<|LL qB<|CC<|MM (aw 91 4 (AV.slice V4 0 ((aK j).1.length) ((aK j).1.length) md) vT k!)<|CN 2<|LL Jk<|CC<|ZZ) k!) k!) Le rfl
     | some adl=>
       obtain ⟨aii,Sr,Jk,zV⟩:=aA.r CW (sR (d:=d) (h:=h) j md qi ai l_.nx R3 R4 V4 bH.1 bH.2 bH (by assumption) (by assumption) (by assumption) (by assumption) (by assumption) o! o! o! o! o! (by assumption) o! ((aK j).1.length) 0 o! (fun k_=>(((jX 0)::ax::(Pt h.nx)::rx jX 3 4 ((Pt l_.nx)::rx jX 8 26 (j.aj::(Zn j.ab.length)::rx jX 36 30 ((AV.ptr l_.nx 4)::(AV.slice V4 0 ((aK j).1.length) ((aK j).1.length) md)::(Zn ((aK j).1.length))::(Zi 0)::rx jX 70 9 [])))):List AV).getD k_ AV.undef) Fo L6 wE vT Ji Jj P')
       have UT:=zV.y
       have aal:Fo.nx≤Sr.nx:=zV.n
       have Le:Has h Sr:=wE.trans zV.a
       have R7:Has Fo Sr:=zV.a
       have e:lV j ai=adl:=by simp only[lV,ky,nW,CW,cond_true,cond_false]
       rw[e]
       exact aD rfl (bb Tryz.func32 vS rfl (.inr rfl) (pk (d+3) _ _ h _ Sr (NN bM (fun i=>(Pt i))<|CN 2<|VV re<|CC<|LL iA<|MM (aw 25 0 (AV.agg [j.aj,j.ag]) (gH.a _ _ aQ) k!)<|EE Hn<|NN vi (fun i=>(Pt i))<|SS oi<|CC<|MM (aw 22 0 j.aj (b7 _ _ o! (cy _ _ (nj.a _ _ (gH.a _ _ aQ)))) k!)<|VV R6<|CC<|LL qB<|CC<|MM (aw 91 4 (AV.slice V4 0 ((aK j).1.length) ((aK j).1.length) md) vT k!)<|CN 2<|LL Jk<|ZZ) k!) k!) Le rfl
   | inr Oj=>
     obtain ⟨adw,jX,Fo,qB,L6,V6,x7⟩:=cg.r nW (sP (d:=d) (h:=h) ax j md ai h.nx l_.nx R3 R4 V4 bm bH.1 bH.2 bH (by assumption) (by assumption) (by assumption) (by assumption) (by assumption) o! o! o! o! (wD (by assumption) (by assumption) (by assumption)) bW o! o! o! o! o! o! o! o! o! o! o! o! o! o! o! (((j.ab.length:Nat):Int) - 0).toNat 0 ((aK j).2.1) ((aK j).2.2) ((aK j).1) o! (show ((∀ri,ri<(((aK j).1)).length→lu 161 ((((aK j).1)).g ri))∧(0≤0∧0≤(j.ab.length:Int)∧(((aK j).1)).length=j.af.length∧∀ri,ri<(((aK j).1)).length→lu (33+2*0) ((((aK j).1)).g ri))) from ⟨fun r hr=>(sx (by assumption) r hr).le o!,by omega,by omega,by omega,sx (by assumption)⟩) (fun k_=>(((Ae 0)::ax::(Pt h.nx)::rx Ae 3 4 ((Pt l_.nx)::rx Ae 8 5 (ax::(Zn ai.length)::rx Ae 15 16 ((AV.agg [j.aj,j.ag])::(AV.agg [j.aj,j.ag,(AV.slice R3 0 j.ab.length j.ab.length false),(AV.slice R4 0 j.ab.length j.ab.length false),(AV.slice V4 0 ((aK j).1.length) ((aK j).1.length) md)])::(Pt h.nx)::j.aj::(Zn j.ab.length)::(Zi 0)::rx Ae 37 42 [])))):List AV).getD k_ AV.undef) mq ku iF o! l! l! l! (b7 _ _ o! (cy _ _ (nj.a _ _ (gH.a _ _ aQ)))) m5 (b7 _ _ o! (cy _ _ xY)) (b7 _ _ o! (cy _ _ xZ)) (b7 _ _ o! (cy _ _ Ol)))
     have wE:Has h Fo:=x7
     have e:lV j ai=Oj:=by simp only[lV,ky,nW,cond_true,cond_false]
     rw[e]
     exact aD rfl (bb Tryz.func32 vS rfl (.inr rfl) (pk (d+3) _ _ h _ Fo (NN bM (fun i=>(Pt i))<|CN 2<|VV re<|CC<|LL iA<|MM (aw 25 0 (AV.agg [j.aj,j.ag]) (gH.a _ _ aQ) k!)<|EE Hn<|NN vi (fun i=>(Pt i))<|SS oi<|CC<|MM (aw 22 0 j.aj (b7 _ _ o! (cy _ _ (nj.a _ _ (gH.a _ _ aQ)))) k!)<|VV R6<|CC<|LL qB<|ZZ) k!) k!) wE rfl
 | some U6=>
   obtain ⟨Ae,h4,iA,gH⟩:=aA.r ky (sM (d:=d) (h:=h) ax ai j h.nx bm bH.1 bH.2 bH (by assumption) (by assumption) (by assumption) (by assumption) (by assumption) o! o! o! o! ai.length 0 o! (fun k_=>(((AV.agg [j.aj,j.ag])::ax::(Pt h.nx)::AV.undef::(AV.bool false)::AV.undef::AV.undef::AV.undef::AV.undef::AV.undef::AV.undef::AV.undef::AV.undef::ax::(Zn ai.length)::(Zi 0)::g4 63):List AV).getD k_ AV.undef) h1 cx bt aQ)
   have nA:=gH.y
   have Lm:h1.nx≤h4.nx:=gH.n
   have kQ:Has h h4:=bt.trans gH.a
   have e:lV j ai=U6:=by simp only[lV,ky,cond_true,cond_false]
   rw[e]
   exact aD rfl (bb Tryz.func32 vS rfl (.inr rfl) (pk (d+3) _ _ h _ h4 (NN bM (fun i=>(Pt i))<|CN 2<|VV re<|CC<|LL iA<|ZZ) k!) k!) kQ rfl
noncomputable def B3:Code:=(Tryz.f75.body).getD .skip
theorem V8:Tryz.f75.body=some B3:=by kernel_rfl
noncomputable def x8:Code:=(bE B3).getD 0 .skip
def oT (j:cz) (aG:List Bool) (ai:List Int) (task:Int) (start:Int):List Bool×List Int:=((aG.set task.toNat true),(ai.set task.toNat start))
theorem V9 {d:Nat} {h hh:au} {bL placedN bN startsN:Nat} (j:cz) (aG:List Bool) (ai:List Int) (task:Int) (start:Int) (bH:aL.ok h j) (kt:hh.get bL=some (aM.cells (bs aG) 4 false)) (Li:aG.length=placedN) (UX:h.get bL=none) (mT:hh.get bN=some (aM.cells (zs .i64 ai) 3 false)) (UY:ai.length=startsN) (UZ:h.get bN=none) (lI:0≤task) (oL:task<(j.ab.length:Int)) (D2:aG.length=j.ab.length) (FK:ai.length=j.ab.length) (Rb:((j.ab.g task.toNat).ar).length=0) (ahD:bN≠bL) (bW:Tidy h) (aE:Tidy hh) (aB:Has h hh) (jv:h.nx≤hh.nx):∃hk,cR (d+3) (.fn 75) [(AV.agg [j.aj,j.ag,(AV.slice bL 0 placedN placedN false),(AV.slice bN 0 startsN startsN false),AV.aH]),(Zi task),(Zi start)] hh= .ret (AV.tuple []) hk∧Tidy hk∧hh.nx≤hk.nx∧Has h hk∧hk.get bL=some (aM.cells (bs ((oT j aG ai task start).1)) 4 false)∧((oT j aG ai task start).1).length=placedN∧hk.get bN=some (aM.cells (zs .i64 ((oT j aG ai task start).2)) 3 false)∧((oT j aG ai task start).2).length=startsN:=by
 have dP:=bH.1.small
 have dQ:=bH.2.small
 have U0:=aE _ _ kt
 have U1:=aE _ _ mT
 obtain ⟨h1,bM,cx,jc,aQ,cA⟩:=j_ aE (aM.cells [j.aj,j.ag,(AV.slice bL 0 placedN placedN false),(AV.slice bN 0 startsN startsN false),AV.aH] 93 false)
 have bt:Has h h1:=aB.trans cA
 obtain ⟨p3,q4,cX⟩:=bH.1.elem (i:=task.toNat) o!
 have gv:bS env (some (.slice 44)) (some j.aj) (some (Zi task))=some (AV.ptr p3 q4):=by rw[show (task:Int)=((task.toNat:Nat):Int) by omega];exact cX
 have g5:bh env h1 44 (AV.ptr p3 q4)=some (AV.agg [(AV.str ((j.ab.g task.toNat).name)),(Zi ((j.ab.g task.toNat).aI)),((j.ab.g task.toNat).aO),((j.ab.g task.toNat).aU)]):=(bH.1.has bt).load o! cX
 obtain ⟨h6,lx,jf,Eb,pV,cu⟩:=j_ cx (aM.cells [(AV.str []),(Zi 0),AV.aH,AV.aH] 44 false)
 have ia:Has h h6:=bt.trans cu
 have Np:AV.scalar ((j.ab.g task.toNat).aO)=true:=((bH.1.ok (i:=task.toNat) o!).2.1).scalar
 have U2:AV.scalar ((j.ab.g task.toNat).aU)=true:=((bH.1.ok (i:=task.toNat) o!).2.2).scalar
 obtain ⟨h7,ks,fQ,zl,fD,bI⟩:=qL (t:=44) (n:=4) (i:=h1.nx) (L:=[(AV.str ((j.ab.g task.toNat).name)),(Zi ((j.ab.g task.toNat).aI)),((j.ab.g task.toNat).aO),((j.ab.g task.toNat).aU)]) jf pV k! rfl rfl (by simp only[AV.cells,List.all_cons,List.all_nil,Bool.and_true,Bool.and_self,iO,fY,iP,iQ,eS,mg,mh,mi,mj,ml,iR,Np,U2])
 have eL:Has h h7:=Has.ea ia bI bW o!
 have Rl:bS env (some (.slice 4)) (some (AV.slice bL 0 placedN placedN false)) (some (Zi task))=some (AV.ptr bL task.toNat):=km k! (show task.toNat<placedN by omega) o!
 obtain ⟨l_,Ek⟩:∃IK:au,IK=h7.put bL (some (aM.cells (bs (aG.set task.toNat true)) 4 false)):=⟨_,rfl⟩
 have Lb:dL env h7 4 (AV.ptr bL task.toNat) (AV.bool true)=some l_:=by rw[Ek];exact pT k! (bI _ _ o! (cu _ _ (cA _ _ kt))) l!
 have gB:Iw h7 l_ bL (aM.cells (bs (aG.set task.toNat true)) 4 false):=by rw[Ek];exact j9 fQ (bI _ _ o! (cu _ _ (cA _ _ kt)))
 have mQ:=gB.1
 have aak:l_.nx=h7.nx:=by rw[Ek];rfl
 have uS:Has h l_:=fP gB eL (by first | assumption | exact cU bW o!)
 have Lj:bS env (some (.slice 3)) (some (AV.slice bN 0 startsN startsN false)) (some (Zi task))=some (AV.ptr bN task.toNat):=km k! (show task.toNat<startsN by omega) o!
 obtain ⟨mq,uU⟩:∃IK:au,IK=l_.put bN (some (aM.cells (zs .i64 (ai.set task.toNat start)) 3 false)):=⟨_,rfl⟩
 have oi:dL env l_ 3 (AV.ptr bN task.toNat) (Zi start)=some mq:=by rw[uU];exact D0 k! (gB.2.2 _ _ o! (bI _ _ o! (cu _ _ (cA _ _ mT)))) l!
 have lK:Iw l_ mq bN (aM.cells (zs .i64 (ai.set task.toNat start)) 3 false):=by rw[uU];exact j9 mQ (gB.2.2 _ _ o! (bI _ _ o! (cu _ _ (cA _ _ mT))))
 have ku:=lK.1
 have Lk:mq.nx=l_.nx:=by rw[uU];rfl
 have iF:Has h mq:=fP lK uS (by first | assumption | exact cU bW o!)
 have Rm:b6 (some (.slice 88)) (some ((j.ab.g task.toNat).aU))=some (Zn (((j.ab.g task.toNat).ar).length)):=((bH.1.ok (i:=task.toNat) o!).2.2).len
 have Ry:(decide (0<((((j.ab.g task.toNat).ar).length:Nat):Int)))=false:=d!
 have aij:Ev env (cR (d+2)) x8 ⟨((AV.agg [j.aj,j.ag,(AV.slice bL 0 placedN placedN false),(AV.slice bN 0 startsN startsN false),AV.aH])::(Zi task)::(Zi start)::(Pt hh.nx)::AV.undef::AV.undef::(Pt h1.nx)::AV.undef::AV.undef::(Pt hh.nx)::(Pt hh.nx)::j.aj::(Zi task)::(AV.ptr p3 q4)::(AV.agg [(AV.str ((j.ab.g task.toNat).name)),(Zi ((j.ab.g task.toNat).aI)),((j.ab.g task.toNat).aO),((j.ab.g task.toNat).aU)])::(AV.ptr hh.nx 2)::(AV.slice bL 0 placedN placedN false)::(Zi task)::(AV.ptr hh.nx 3)::(AV.slice bN 0 startsN startsN false)::(Zi task)::(Zi start)::(AV.ptr bL task.toNat)::(AV.ptr bN task.toNat)::(AV.ptr h1.nx 3)::((j.ab.g task.toNat).aU)::(Zn (((j.ab.g task.toNat).ar).length))::(Zi 0)::g4 19),mq,[],.no⟩ (.exit 0) ⟨((AV.agg [j.aj,j.ag,(AV.slice bL 0 placedN placedN false),(AV.slice bN 0 startsN startsN false),AV.aH])::(Zi task)::(Zi start)::(Pt hh.nx)::AV.undef::AV.undef::(Pt h1.nx)::AV.undef::AV.undef::(Pt hh.nx)::(Pt hh.nx)::j.aj::(Zi task)::(AV.ptr p3 q4)::(AV.agg [(AV.str ((j.ab.g task.toNat).name)),(Zi ((j.ab.g task.toNat).aI)),((j.ab.g task.toNat).aO),((j.ab.g task.toNat).aU)])::(AV.ptr hh.nx 2)::(AV.slice bL 0 placedN placedN false)::(Zi task)::(AV.ptr hh.nx 3)::(AV.slice bN 0 startsN startsN false)::(Zi task)::(Zi start)::(AV.ptr bL task.toNat)::(AV.ptr bN task.toNat)::(AV.ptr h1.nx 3)::((j.ab.g task.toNat).aU)::(Zn (((j.ab.g task.toNat).ar).length))::(Zi 0)::(AV.bool (decide (0<((((j.ab.g task.toNat).ar).length:Nat):Int))))::g4 18),mq,[],.no⟩:=Ev.to (pk (d+2) x8 ((AV.agg [j.aj,j.ag,(AV.slice bL 0 placedN placedN false),(AV.slice bN 0 startsN startsN false),AV.aH])::(Zi task)::(Zi start)::(Pt hh.nx)::AV.undef::AV.undef::(Pt h1.nx)::AV.undef::AV.undef::(Pt hh.nx)::(Pt hh.nx)::j.aj::(Zi task)::(AV.ptr p3 q4)::(AV.agg [(AV.str ((j.ab.g task.toNat).name)),(Zi ((j.ab.g task.toNat).aI)),((j.ab.g task.toNat).aO),((j.ab.g task.toNat).aU)])::(AV.ptr hh.nx 2)::(AV.slice bL 0 placedN placedN false)::(Zi task)::(AV.ptr hh.nx 3)::(AV.slice bN 0 startsN startsN false)::(Zi task)::(Zi start)::(AV.ptr bL task.toNat)::(AV.ptr bN task.toNat)::(AV.ptr h1.nx 3)::((j.ab.g task.toNat).aU)::(Zn (((j.ab.g task.toNat).ar).length))::(Zi 0)::g4 19) mq (.exit 0) mq (VV (ba 3 false false .i64 0 ((((j.ab.g task.toNat).ar).length:Nat):Int))<|BB Ry<|ZZ) k!) k!
 have e:oT j aG ai task start=((aG.set task.toNat true),(ai.set task.toNat start)):=by simp only[oT,cond_true,cond_false]
 rw[e]
 exact kP rfl (bb Tryz.func75 V8 rfl (.inl rfl) (pk (d+2) _ _ hh _ mq (NN bM (fun i=>(Pt i))<|CN 2<|MM (aw 22 0 j.aj aQ k!)<|CC<|VV gv<|MM g5<|NN lx (fun i=>(Pt i))<|SS ks<|CC<|MM (aw 90 2 (AV.slice bL 0 placedN placedN false) (bI _ _ o! (cu _ _ aQ)) k!)<|CN 2<|MM (aw 26 3 (AV.slice bN 0 startsN startsN false) (bI _ _ o! (cu _ _ aQ)) k!)<|CN 2<|VV Rl<|SS Lb<|VV Lj<|SS oi<|HH (aw 90 2 (AV.slice bL 0 placedN placedN false) (bI _ _ o! (cu _ _ aQ)) k!)<|HH (show AV.same 20 (AV.slice bL 0 placedN placedN false) (AV.slice bL 0 placedN placedN false)=true from jt 19 _ _ _ _ _)<|HH (aw 26 3 (AV.slice bN 0 startsN startsN false) (bI _ _ o! (cu _ _ aQ)) k!)<|HH (show AV.same 20 (AV.slice bN 0 startsN startsN false) (AV.slice bN 0 startsN startsN false)=true from jt 19 _ _ _ _ _)<|HH (aw 26 3 (AV.slice bN 0 startsN startsN false) (gB.2.2 _ _ o! (bI _ _ o! (cu _ _ aQ))) k!)<|HH (show AV.same 20 (AV.slice bN 0 startsN startsN false) (AV.slice bN 0 startsN startsN false)=true from jt 19 _ _ _ _ _)<|CC<|MM (aw 42 3 ((j.ab.g task.toNat).aU) (lK.2.2 _ _ o! (gB.2.2 _ _ o! fD)) k!)<|VV Rm<|CC<|LL (show Ev env (cR (d+2)) (.loop x8) ⟨((AV.agg [j.aj,j.ag,(AV.slice bL 0 placedN placedN false),(AV.slice bN 0 startsN startsN false),AV.aH])::(Zi task)::(Zi start)::(Pt hh.nx)::AV.undef::AV.undef::(Pt h1.nx)::AV.undef::AV.undef::(Pt hh.nx)::(Pt hh.nx)::j.aj::(Zi task)::(AV.ptr p3 q4)::(AV.agg [(AV.str ((j.ab.g task.toNat).name)),(Zi ((j.ab.g task.toNat).aI)),((j.ab.g task.toNat).aO),((j.ab.g task.toNat).aU)])::(AV.ptr hh.nx 2)::(AV.slice bL 0 placedN placedN false)::(Zi task)::(AV.ptr hh.nx 3)::(AV.slice bN 0 startsN startsN false)::(Zi task)::(Zi start)::(AV.ptr bL task.toNat)::(AV.ptr bN task.toNat)::(AV.ptr h1.nx 3)::((j.ab.g task.toNat).aU)::(Zn (((j.ab.g task.toNat).ar).length))::(Zi 0)::g4 19),mq,[],.no⟩ (.exit 0) ⟨((AV.agg [j.aj,j.ag,(AV.slice bL 0 placedN placedN false),(AV.slice bN 0 startsN startsN false),AV.aH])::(Zi task)::(Zi start)::(Pt hh.nx)::AV.undef::AV.undef::(Pt h1.nx)::AV.undef::AV.undef::(Pt hh.nx)::(Pt hh.nx)::j.aj::(Zi task)::(AV.ptr p3 q4)::(AV.agg [(AV.str ((j.ab.g task.toNat).name)),(Zi ((j.ab.g task.toNat).aI)),((j.ab.g task.toNat).aO),((j.ab.g task.toNat).aU)])::(AV.ptr hh.nx 2)::(AV.slice bL 0 placedN placedN false)::(Zi task)::(AV.ptr hh.nx 3)::(AV.slice bN 0 startsN startsN false)::(Zi task)::(Zi start)::(AV.ptr bL task.toNat)::(AV.ptr bN task.toNat)::(AV.ptr h1.nx 3)::((j.ab.g task.toNat).aU)::(Zn (((j.ab.g task.toNat).ar).length))::(Zi 0)::(AV.bool (decide (0<((((j.ab.g task.toNat).ar).length:Nat):Int))))::g4 18),mq,[],.no⟩ from (Ev.out aij))<|ZZ) k!) k!) aE ku o! ⟨iF,(lK.2.2 _ _ o! gB.2.1),l!,lK.2.1,l!⟩ (fun q=>⟨aB,jQ q kt (lK.2.2 _ _ o! gB.2.1),l!,jQ q mT lK.2.1,l!⟩)
end Go.Proofs.aP
