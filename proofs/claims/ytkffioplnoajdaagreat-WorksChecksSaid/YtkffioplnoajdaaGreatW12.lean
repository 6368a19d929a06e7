import Derived.Test.YtkffioplnoajdaaGreatW0
import Derived.Test.YtkffioplnoajdaaGreatW1
import Derived.Test.YtkffioplnoajdaaGreatW10
import Derived.Test.YtkffioplnoajdaaGreatW4
import Derived.Test.YtkffioplnoajdaaGreatW5
import Derived.Test.YtkffioplnoajdaaGreatW3
import Derived.Test.YtkffioplnoajdaaGreatW11
import Derived.Test.YtkffioplnoajdaaGreatW7
namespace Go.Proofs.aP
open Go.Proofs Ab
set_option maxRecDepth 100000
set_option maxHeartbeats 4000000
set_option linter.unusedVariables false
set_option linter.unusedSimpArgs false
noncomputable def lP:Code:=(Tryz.f32.body).getD .skip
theorem x9:Tryz.f32.body=some lP:=by kernel_rfl
noncomputable def Jl:Code:=(bE lP).getD 0 .skip
noncomputable def Jm:Code:=(bE lP).getD 1 .skip
noncomputable def Jn:Code:=(bE lP).getD 2 .skip
noncomputable def sS:Code:=(bE lP).getD 3 .skip
def fv (ai:List Int) (j:cz):Nat→Nat→Option (Bool)
 | 0,_=>none
 | dz+1,i0=>(bif (!(dg (ai.g i0))) then some false else (bif (decide (100000<(cV j ai ((i0:Nat):Int)))) then some false else fv ai j dz (i0+1)))
theorem qY {d:Nat} {h:au} (ax:AV) (ai:List Int) (j:cz) (br:Nat) (bn:b_ h .i64 3 ax ai) (b8:aS h j.aj j.ab) (ew:aS h j.ag j.af) (gU:aL.ok h j) (iy:∀i,i<j.ab.length→∀q,q<(j.ab.g i).az.length→0≤(j.ab.g i).az.g q∧(j.ab.g i).az.g q<(j.ab.length:Int)) (kr:∀r,r<j.af.length→(j.af.g r).off.length≤16∧∀q,q<(j.af.g r).off.length→0≤((j.af.g r).off.g q).a_∧((j.af.g r).off.g q).aN≤100000) (rF:∀i,i<j.ab.length→(j.ab.g i).ar.length=0) (tD:∀i,i<j.ab.length→0≤(j.ab.g i).aI∧(j.ab.g i).aI≤100000) (qM:ai.length=j.ab.length) (tF:j.ab.length≤64) (UU:j.af.length=0):∀(k_ i_:Nat) (_:i_+k_=ai.length) (x:Nat→AV) (hh:au) (aE:Tidy hh) (aB:Has h hh) (bj:hh.get br=some (aM.cells [j.aj,j.ag] 25 false)),aA (cR (d+3)) Jl ⟨((x 0)::ax::(Pt br)::rx x 3 10 (ax::(Zn ai.length)::(Zn i_)::rx x 16 63 [])),hh,[],.no⟩ (.exit 0) hh (fun y=>((y 0)::ax::(Pt br)::rx y 3 10 (ax::(Zn ai.length)::rx y 15 64 []))) (fun r y=>((y 0)::ax::(Pt br)::(y 3)::(AV.bool r)::rx y 5 8 (ax::(Zn ai.length)::rx y 15 64 []))) (fv ai j k_ i_)
 | 0,i0,fX,x,hh,aE,aB,bj=>by
   have cm:=bn.small
   have eJ:=b8.small
   have jA:=ew.small
   have je:=aE _ _ bj
   have q1:(decide (((i0:Nat):Int)<((ai.length:Nat):Int)))=false:=d!
   exact aA.out rfl (pk (d+3) _ _ hh _ hh (VV (ba 3 false false .i64 ((i0:Nat):Int) ((ai.length:Nat):Int))<|BB q1<|ZZ) k!) (bF.refl aE) k!
 | dz+1,i0,fX,x,hh,aE,aB,bj=>by
   have cm:=bn.small
   have eJ:=b8.small
   have jA:=ew.small
   have je:=aE _ _ bj
   have q1:(decide (((i0:Nat):Int)<((ai.length:Nat):Int)))=true:=d!
   obtain ⟨p3,q4,cX,_⟩:=(bn.has aB).elem (i:=i0) o!
   have gv:bS env (some (.slice 3)) (some ax) (some (Zn i0))=some (AV.ptr p3 q4):=cX
   have g5:bh env hh 3 (AV.ptr p3 q4)=some (Zi (ai.g i0)):=(bn.has aB).load o! cX
   have k6:=pZ (d:=d+1) (ai.g i0) aE
   rcases Bool.eq_false_or_eq_true (!(dg (ai.g i0))) with f1 | f1
   · exact aA.ret false (by simp only[fv,f1,cond_true,cond_false]) (pk (d+3) _ _ hh _ hh (VV (ba 3 false false .i64 ((i0:Nat):Int) ((ai.length:Nat):Int))<|BC q1<|VV gv<|MM g5<|CN 3<|EE k6<|CN 2<|BB f1<|BB f1<|BB f1<|BB f1<|BV f1 (uN true f1)<|TT<|CC<|ZZ) k!) (bF.refl aE) k!
   · have k8:=rL (d:=d+2) j ai ((i0:Nat):Int) (aL.mono aB gU) (bn.has aB) (by first | omega | assumption | exact dv aC.toNat o!) (by first | omega | assumption | exact dv aC.toNat o!) (by first | omega | assumption | exact dv aC.toNat o!) aE
     rcases Bool.eq_false_or_eq_true (decide (100000<(cV j ai ((i0:Nat):Int)))) with f2 | f2
     · have jw:=of_decide_eq_true f2
       exact aA.ret false (by simp only[fv,f1,f2,cond_true,cond_false]) (pk (d+3) _ _ hh _ hh (VV (ba 3 false false .i64 ((i0:Nat):Int) ((ai.length:Nat):Int))<|BC q1<|VV gv<|MM g5<|CN 3<|EE k6<|CN 2<|BM f1 (aw 25 0 (AV.agg [j.aj,j.ag]) bj k!)<|BC f1<|BC f1<|BB f1<|EE k8<|BV f1 (bR 3 false true .i64 (cV j ai ((i0:Nat):Int)) 100000)<|VV (bA (a:=some (AV.bool true)) (b:=some (AV.bool (decide (100000<(cV j ai ((i0:Nat):Int)))))) f1)<|BC f2<|ZZ) k!) (bF.refl aE) k!
     · have jw:=of_decide_eq_false f2
       have u10:=fe 3 false true i0 1 o!
       exact aA.round (by simp only[fv,f1,f2,cond_true,cond_false]) (pk (d+3) _ _ hh _ hh (VV (ba 3 false false .i64 ((i0:Nat):Int) ((ai.length:Nat):Int))<|BC q1<|VV gv<|MM g5<|CN 3<|EE k6<|CN 2<|BM f1 (aw 25 0 (AV.agg [j.aj,j.ag]) bj k!)<|BC f1<|BC f1<|BB f1<|EE k8<|BV f1 (bR 3 false true .i64 (cV j ai ((i0:Nat):Int)) 100000)<|VV (bA (a:=some (AV.bool true)) (b:=some (AV.bool (decide (100000<(cV j ai ((i0:Nat):Int)))))) f1)<|BV f2 u10<|CC<|ZZ) k!) (bF.refl aE) _ k! (fun x=>qY ax ai j br bn b8 ew gU iy kr rF tD qM tF UU dz (i0+1) o! x hh aE aB bj)
theorem vn {j:cz} {ai:List Int} (tk:∀i,i<j.ab.length→0≤(j.ab.g i).aI∧(j.ab.g i).aI≤100000) (hl:ai.length=j.ab.length):∀(k i:Nat),i+k=ai.length→fv ai j k i=none→∀q,i≤q→q<ai.length→0≤ai.g q∧ai.g q+(j.ab.g q).aI≤100000
 | 0,i,e,_,q,h1,h2=>by omega
 | k+1,i,e,h,q,h1,h2=>by
   rw[fv] at h
   cases a:dg (ai.g i) with
   | false=>rw[a] at h;cases h
   | true=>
     rw[a] at h
     have ta:0≤ai.g i∧ai.g i≤100000:=by
      unfold dg fS at a
      by_cases z:0≤ai.g i
      · rw[decide_eq_true z,cond_true] at a;exact ⟨z,of_decide_eq_true a⟩
      · rw[decide_eq_false z] at a;cases a
     have tt:=tk i o!
     by_cases b:100000<cV j ai ((i:Nat):Int)
     · rw[decide_eq_true b] at h;cases h
     · rw[decide_eq_false b] at h
       by_cases z:q=i
       · subst z
         unfold cV at b
         rw[Int.toNat_natCast,wrap_i64 o! o!] at b
         exact ⟨ta.1,by omega⟩
       · exact vn tk hl k (i+1) o! h q o! h2
theorem vo {j:cz} {ai:List Int} (tk:∀i,i<j.ab.length→0≤(j.ab.g i).aI∧(j.ab.g i).aI≤100000) (hl:ai.length=j.ab.length) (h:fv ai j ai.length 0=none):∀i,i<ai.length→0≤ai.g i∧ai.g i+(j.ab.g i).aI≤100000:=fun q hq=>vn tk hl _ 0 o! h q (Nat.zero_le _) hq
def jl (j:cz) (aC:Int) (ai:List Int):Nat→Nat→Option (Bool)
 | 0,_=>none
 | F_+1,i2=>(bif (decide ((ai.g aC.toNat)<(cV j ai (((j.ab.g aC.toNat).az).g i2)))) then some false else jl j aC ai F_ (i2+1))
theorem qZ {d:Nat} {h:au} (ax:AV) (aC:Int) (j:cz) (ca:List Bool) (gu:List Int) (ai:List Int) (ik:Nat) (lO:Nat) (zN:Nat) (N':Nat) (iI:b_ h .i64 3 ax ai) (mb:aS h j.aj j.ab) (tL:aS h j.ag j.af) (qh:b_ h .i64 3 ((j.ab.g aC.toNat).aO) ((j.ab.g aC.toNat).az)) (vg:aL.ok h j) (Ga:aL.ok h (j.ab.g aC.toNat)) (LO:∀i,i<j.ab.length→∀q,q<(j.ab.g i).az.length→0≤(j.ab.g i).az.g q∧(j.ab.g i).az.g q<(j.ab.length:Int)) (Rz:∀r,r<j.af.length→(j.af.g r).off.length≤16∧∀q,q<(j.af.g r).off.length→0≤((j.af.g r).off.g q).a_∧((j.af.g r).off.g q).aN≤100000) (RA:∀i,i<j.ab.length→(j.ab.g i).ar.length=0) (RB:∀i,i<j.ab.length→0≤(j.ab.g i).aI∧(j.ab.g i).aI≤100000) (RD:ai.length=j.ab.length) (RE:j.ab.length≤64) (ac3:j.af.length=0) (ac4:0≤aC) (ac5:aC<(j.ab.length:Int)):∀(k_ i_:Nat) (_:i_+k_=(((j.ab.g aC.toNat).az).length)) (x:Nat→AV) (hh:au) (aE:Tidy hh) (aB:Has h hh) (eg:hh.get ik=some (aM.cells [j.aj,j.ag] 25 false)) (iY:hh.get lO=some (aM.cells [j.aj,j.ag,(AV.slice zN 0 j.ab.length j.ab.length false),(AV.slice N' 0 j.ab.length j.ab.length false),AV.aH] 93 false)) (nG:hh.get zN=some (aM.cells (bs ca) 4 false)) (EX:hh.get N'=some (aM.cells (zs .i64 gu) 3 false)),aA (cR (d+3)) Jn ⟨((x 0)::ax::(Pt ik)::rx x 3 4 ((Pt lO)::(Zi aC)::rx x 9 25 (j.aj::(Zn j.ab.length)::(Zi aC)::rx x 37 5 (((j.ab.g aC.toNat).aO)::(Zn (((j.ab.g aC.toNat).az).length))::(Zn i_)::rx x 45 34 [])))),hh,[],.no⟩ (.exit 4) hh (fun y=>((y 0)::ax::(Pt ik)::rx y 3 4 ((Pt lO)::(Zi aC)::rx y 9 25 (j.aj::(Zn j.ab.length)::(Zi aC)::rx y 37 5 (((j.ab.g aC.toNat).aO)::(Zn (((j.ab.g aC.toNat).az).length))::rx y 44 35 []))))) (fun r y=>((y 0)::ax::(Pt ik)::(y 3)::(AV.bool r)::(y 5)::(y 6)::(Pt lO)::(Zi aC)::rx y 9 25 (j.aj::(Zn j.ab.length)::(Zi aC)::rx y 37 5 (((j.ab.g aC.toNat).aO)::(Zn (((j.ab.g aC.toNat).az).length))::rx y 44 35 [])))) (jl j aC ai k_ i_)
 | 0,i2,fX,x,hh,aE,aB,eg,iY,nG,EX=>by
   have sH:=iI.small
   have sI:=mb.small
   have EL:=tL.small
   have xR:=qh.small
   have I6:=aE _ _ eg
   have N2:=aE _ _ iY
   have VM:=aE _ _ nG
   have ac6:=aE _ _ EX
   have q1:(decide (((i2:Nat):Int)<((((j.ab.g aC.toNat).az).length:Nat):Int)))=false:=d!
   exact aA.out rfl (pk (d+3) _ _ hh _ hh (VV (ba 3 false false .i64 ((i2:Nat):Int) ((((j.ab.g aC.toNat).az).length:Nat):Int))<|BB q1<|ZZ) k!) (bF.refl aE) k!
 | F_+1,i2,fX,x,hh,aE,aB,eg,iY,nG,EX=>by
   have sH:=iI.small
   have sI:=mb.small
   have EL:=tL.small
   have xR:=qh.small
   have I6:=aE _ _ eg
   have N2:=aE _ _ iY
   have VM:=aE _ _ nG
   have ac6:=aE _ _ EX
   have kn_:=LO aC.toNat o! i2
   have q1:(decide (((i2:Nat):Int)<((((j.ab.g aC.toNat).az).length:Nat):Int)))=true:=d!
   obtain ⟨p3,q4,cX,_⟩:=(qh.has aB).elem (i:=i2) o!
   have gv:bS env (some (.slice 3)) (some ((j.ab.g aC.toNat).aO)) (some (Zn i2))=some (AV.ptr p3 q4):=cX
   have g5:bh env hh 3 (AV.ptr p3 q4)=some (Zi (((j.ab.g aC.toNat).az).g i2)):=(qh.has aB).load o! cX
   obtain ⟨p7,q8,vm,_⟩:=(iI.has aB).elem (i:=aC.toNat) o!
   have BN:bS env (some (.slice 3)) (some ax) (some (Zi aC))=some (AV.ptr p7 q8):=by rw[show (aC:Int)=((aC.toNat:Nat):Int) by omega];exact vm
   have xX:bh env hh 3 (AV.ptr p7 q8)=some (Zi (ai.g aC.toNat)):=(iI.has aB).load o! vm
   have Ff:=rL (d:=d+2) j ai (((j.ab.g aC.toNat).az).g i2) (aL.mono aB vg) (iI.has aB) (by first | omega | assumption | exact dv aC.toNat o!) (by first | omega | assumption | exact dv aC.toNat o!) (by first | omega | assumption | exact dv aC.toNat o!) aE
   have P_:AV.same 20 (AV.agg [j.aj,j.ag]) (AV.agg [j.aj,j.ag])=true:=fj 18 (oX (mb.has aB).same (oX (tL.has aB).same Ix))
   rcases Bool.eq_false_or_eq_true (decide ((ai.g aC.toNat)<(cV j ai (((j.ab.g aC.toNat).az).g i2)))) with f1 | f1
   · have dC:=of_decide_eq_true f1
     exact aA.ret false (by simp only[jl,f1,cond_true,cond_false]) (pk (d+3) _ _ hh _ hh (VV (ba 3 false false .i64 ((i2:Nat):Int) ((((j.ab.g aC.toNat).az).length:Nat):Int))<|BV q1 gv<|MM g5<|CN 3<|VV BN<|MM xX<|MM (aw 25 0 (AV.agg [j.aj,j.ag]) eg k!)<|CN 2<|EE Ff<|VV (ba 3 false false .i64 (ai.g aC.toNat) (cV j ai (((j.ab.g aC.toNat).az).g i2)))<|HH xX<|HH (show AV.same 20 (Zi (ai.g aC.toNat)) (Zi (ai.g aC.toNat))=true from aJ 19 _ _)<|HH xX<|HH (show AV.same 20 (Zi (ai.g aC.toNat)) (Zi (ai.g aC.toNat))=true from aJ 19 _ _)<|HH (aw 25 0 (AV.agg [j.aj,j.ag]) eg k!)<|HH P_<|BC f1<|ZZ) k!) (bF.refl aE) k!
   · have dC:=of_decide_eq_false f1
     have Y_:=fe 3 false true i2 1 o!
     exact aA.round (by simp only[jl,f1,cond_true,cond_false]) (pk (d+3) _ _ hh _ hh (VV (ba 3 false false .i64 ((i2:Nat):Int) ((((j.ab.g aC.toNat).az).length:Nat):Int))<|BV q1 gv<|MM g5<|CN 3<|VV BN<|MM xX<|MM (aw 25 0 (AV.agg [j.aj,j.ag]) eg k!)<|CN 2<|EE Ff<|VV (ba 3 false false .i64 (ai.g aC.toNat) (cV j ai (((j.ab.g aC.toNat).az).g i2)))<|HH xX<|HH (show AV.same 20 (Zi (ai.g aC.toNat)) (Zi (ai.g aC.toNat))=true from aJ 19 _ _)<|HH xX<|HH (show AV.same 20 (Zi (ai.g aC.toNat)) (Zi (ai.g aC.toNat))=true from aJ 19 _ _)<|HH (aw 25 0 (AV.agg [j.aj,j.ag]) eg k!)<|HH P_<|BV f1 Y_<|CC<|ZZ) k!) (bF.refl aE) _ k! (fun x=>qZ ax aC j ca gu ai ik lO zN N' iI mb tL qh vg Ga LO Rz RA RB RD RE ac3 ac4 ac5 F_ (i2+1) o! x hh aE aB eg iY nG EX)
def gM (j:cz) (ai:List Int):Nat→Int→List Bool→List Int→(List Bool×List Int)⊕(Bool)
 | 0,aC,ca,gu=>Sum.inl (ca,gu)
 | qN+1,aC,ca,gu=>(bif (decide (aC<((j.ab.length:Nat):Int))) then (match (jl j aC ai (((j.ab.g aC.toNat).az).length) 0) with | none=>gM j ai qN (aC+1) ((oT j ca gu aC (ai.g aC.toNat)).1) ((oT j ca gu aC (ai.g aC.toNat)).2) | some Oa=>Sum.inr Oa) else Sum.inl (ca,gu))
theorem ra {d:Nat} {h:au} (ax:AV) (j:cz) (ai:List Int) (cE:Nat) (cK:Nat) (h_:Nat) (iH:Nat) (dM:b_ h .i64 3 ax ai) (dm:aS h j.aj j.ab) (l8:aS h j.ag j.af) (l9:aL.ok h j) (pa:∀i,i<j.ab.length→∀q,q<(j.ab.g i).az.length→0≤(j.ab.g i).az.g q∧(j.ab.g i).az.g q<(j.ab.length:Int)) (sr:∀r,r<j.af.length→(j.af.g r).off.length≤16∧∀q,q<(j.af.g r).off.length→0≤((j.af.g r).off.g q).a_∧((j.af.g r).off.g q).aN≤100000) (dv:∀i,i<j.ab.length→(j.ab.g i).ar.length=0) (jS:∀i,i<j.ab.length→0≤(j.ab.g i).aI∧(j.ab.g i).aI≤100000) (IZ:ai.length=j.ab.length) (LA:j.ab.length≤64) (ac7:j.af.length=0) (V2:∀i,i<ai.length→0≤ai.g i∧ai.g i+(j.ab.g i).aI≤100000) (bW:Tidy h) (II:h.nx≤cE) (Ni:h.nx≤cK) (ac9:h.nx≤h_) (ada:h.nx≤iH) (xr:cK≠cE) (Ob:h_≠cE) (Oc:h_≠cK) (Od:iH≠cE) (Oe:iH≠cK) (Of:iH≠h_):∀(k_:Nat) (aC:Int) (ca:List Bool) (gu:List Int) (_:((j.ab.length:Nat):Int) - aC≤(k_:Int)) (_:(((0:Int)≤1)∧(0≤aC))) (x:Nat→AV) (hh:au) (aE:Tidy hh) (aB:Has h hh) (jv:h.nx≤hh.nx) (qt:ca.length=j.ab.length) (L4:gu.length=j.ab.length) (bZ:hh.get cE=some (aM.cells [j.aj,j.ag] 25 false)) (cf:hh.get cK=some (aM.cells [j.aj,j.ag,(AV.slice h_ 0 j.ab.length j.ab.length false),(AV.slice iH 0 j.ab.length j.ab.length false),AV.aH] 93 false)) (qW:hh.get h_=some (aM.cells (bs ca) 4 false)) (qX:hh.get iH=some (aM.cells (zs .i64 gu) 3 false)),cg (σ:=List Bool×List Int) (ρ:=Bool) (cR (d+3)) Jm ⟨((x 0)::ax::(Pt cE)::rx x 3 4 ((Pt cK)::rx x 8 26 (j.aj::(Zn j.ab.length)::(Zi aC)::rx x 37 42 []))),hh,[],.no⟩ (.exit 2) hh (fun r z y=>((y 0)::ax::(Pt cE)::rx y 3 4 ((Pt cK)::rx y 8 26 (j.aj::(Zn j.ab.length)::rx y 36 43 [])))) (fun r z y=>((y 0)::ax::(Pt cE)::(y 3)::(AV.bool r)::(y 5)::(y 6)::(Pt cK)::rx y 8 26 (j.aj::(Zn j.ab.length)::rx y 36 43 []))) (fun r z hk=>Has h hk∧hk.get cE=some (aM.cells [j.aj,j.ag] 25 false)∧hk.get cK=some (aM.cells [j.aj,j.ag,(AV.slice h_ 0 j.ab.length j.ab.length false),(AV.slice iH 0 j.ab.length j.ab.length false),AV.aH] 93 false)∧hk.get h_=some (aM.cells (bs r.1) 4 false)∧hk.get iH=some (aM.cells (zs .i64 r.2) 3 false)∧r.1.length=j.ab.length∧r.2.length=j.ab.length∧((0:Int)≤1)) (fun r z hk=>Has h hk) (gM j ai k_ aC ca gu)
 | 0,aC,ca,gu,fX,cL,x,hh,aE,aB,jv,qt,L4,bZ,cf,qW,qX=>by
   have jy:=dM.small
   have jz:=dm.small
   have xV:=l8.small
   have ss:=aE _ _ bZ
   have AS:=aE _ _ cf
   have adh:=aE _ _ qW
   have adi:=aE _ _ qX
   have ks_:=V2 aC.toNat
   have kt_:=jS aC.toNat
   have q1:(decide (aC<((j.ab.length:Nat):Int)))=false:=d!
   exact cg.out (ca,gu) AV.undef rfl (pk (d+3) _ _ hh _ hh (VV (ba 3 false false .i64 aC ((j.ab.length:Nat):Int))<|BB q1<|ZZ) k!) aE o! ⟨aB,bZ,cf,qW,qX,l!,l!,(show ((0:Int)≤1) from o!)⟩ k!
 | qN+1,aC,ca,gu,fX,cL,x,hh,aE,aB,jv,qt,L4,bZ,cf,qW,qX=>by
   have jy:=dM.small
   have jz:=dm.small
   have xV:=l8.small
   have ss:=aE _ _ bZ
   have AS:=aE _ _ cf
   have adh:=aE _ _ qW
   have adi:=aE _ _ qX
   have ks_:=V2 aC.toNat
   have kt_:=jS aC.toNat
   rcases Bool.eq_false_or_eq_true (decide (aC<((j.ab.length:Nat):Int))) with f0 | f0
   · have dO:=of_decide_eq_true f0
     obtain ⟨p3,q4,cX⟩:=dm.elem (i:=aC.toNat) o!
     have gv:bS env (some (.slice 44)) (some j.aj) (some (Zi aC))=some (AV.ptr p3 q4):=by rw[show (aC:Int)=((aC.toNat:Nat):Int) by omega];exact cX
     have g5:bh env hh 44 (AV.ptr p3 q4)=some (AV.agg [(AV.str ((j.ab.g aC.toNat).name)),(Zi ((j.ab.g aC.toNat).aI)),((j.ab.g aC.toNat).aO),((j.ab.g aC.toNat).aU)]):=(dm.has aB).load o! cX
     obtain ⟨h6,lx,jf,Eb,pV,cu⟩:=j_ aE (aM.cells [(AV.str []),(Zi 0),AV.aH,AV.aH] 44 false)
     have ia:Has h h6:=aB.trans cu
     have Np:AV.scalar ((j.ab.g aC.toNat).aO)=true:=((dm.ok (i:=aC.toNat) o!).2.1).scalar
     have U2:AV.scalar ((j.ab.g aC.toNat).aU)=true:=((dm.ok (i:=aC.toNat) o!).2.2).scalar
     obtain ⟨h7,ks,fQ,zl,fD,bI⟩:=qL (t:=44) (n:=4) (i:=hh.nx) (L:=[(AV.str ((j.ab.g aC.toNat).name)),(Zi ((j.ab.g aC.toNat).aI)),((j.ab.g aC.toNat).aO),((j.ab.g aC.toNat).aU)]) jf pV k! rfl rfl (by simp only[AV.cells,List.all_cons,List.all_nil,Bool.and_true,Bool.and_self,iO,fY,iP,iQ,eS,mg,mh,mi,mj,ml,iR,Np,U2])
     have eL:Has h h7:=Has.ea ia bI bW o!
     have oS:b6 (some (.slice 3)) (some ((j.ab.g aC.toNat).aO))=some (Zn (((j.ab.g aC.toNat).az).length)):=((dm.ok (i:=aC.toNat) o!).2.1).len
     cases pj:jl j aC ai (((j.ab.g aC.toNat).az).length) 0 with
     | none=>
       obtain ⟨adj,pY,sQ,fu⟩:=aA.n pj (qZ (d:=d) (h:=h) ax aC j ca gu ai cE cK h_ iH dM dm l8 ((dm.ok (i:=aC.toNat) o!).2.1) l9 (dm.ok (i:=aC.toNat) o!) (by assumption) (by assumption) (by assumption) (by assumption) o! o! o! o! o! (((j.ab.g aC.toNat).az).length) 0 o! (fun k_=>(((x 0)::ax::(Pt cE)::rx x 3 4 ((Pt cK)::(Zi aC)::(Pt hh.nx)::rx x 10 24 (j.aj::(Zn j.ab.length)::(Zi aC)::(AV.bool (decide (aC<((j.ab.length:Nat):Int))))::(Zi aC)::(AV.ptr p3 q4)::(AV.agg [(AV.str ((j.ab.g aC.toNat).name)),(Zi ((j.ab.g aC.toNat).aI)),((j.ab.g aC.toNat).aO),((j.ab.g aC.toNat).aU)])::(AV.ptr hh.nx 2)::((j.ab.g aC.toNat).aO)::(Zn (((j.ab.g aC.toNat).az).length))::(Zi 0)::rx x 45 34 []))):List AV).getD k_ AV.undef) h7 fQ eL (bI _ _ o! (cu _ _ bZ)) (bI _ _ o! (cu _ _ cf)) (bI _ _ o! (cu _ _ qW)) (bI _ _ o! (cu _ _ qX)))
       have mR:=fu.y
       have Lh:h7.nx≤pY.nx:=fu.n
       have iU:Has h pY:=eL.trans fu.a
       obtain ⟨VL,Ry,vd,_⟩:=dM.elem (i:=aC.toNat) o!
       have F9:bS env (some (.slice 3)) (some ax) (some (Zi aC))=some (AV.ptr VL Ry):=by rw[show (aC:Int)=((aC.toNat:Nat):Int) by omega];exact vd
       have ve:bh env pY 3 (AV.ptr VL Ry)=some (Zi (ai.g aC.toNat)):=(dM.has iU).load o! vd
       obtain ⟨Lc,Ec,PC,CJ,zo,gG⟩:=mM mR (fu.a _ _ (bI _ _ o! (cu _ _ qW)))
       have Og:Has h Lc:=eU iU (by first | assumption | exact cU bW o!) gG
       obtain ⟨RY,Oh,Zk,Jf,Jg,nV⟩:=mM Ec ((gG _ o!).trans (fu.a _ _ (bI _ _ o! (cu _ _ qX))))
       have Bb:RY.get h_=none:=(nV _ o!).trans CJ
       have Jh:Has h RY:=eU Og (by first | assumption | exact cU bW o!) nV
       obtain ⟨Ac,af1,qq,aaI,Om,Zv,agx,Zw,agy⟩:=V9 (d:=d) (h:=RY) (placedN:=j.ab.length) (startsN:=j.ab.length) j ca gu aC (ai.g aC.toNat) (aL.mono Jh l9) (fu.a _ _ (bI _ _ o! (cu _ _ qW))) l! Bb (fu.a _ _ (bI _ _ o! (cu _ _ qX))) l! Jf (by first | omega | assumption | exact dv aC.toNat o!) (by first | omega | assumption | exact dv aC.toNat o!) (by first | omega | assumption | exact dv aC.toNat o!) (by first | omega | assumption | exact dv aC.toNat o!) (by first | omega | assumption | exact dv aC.toNat o!) o! Oh mR (Jg.trans zo) o!
       have mn:Has h Ac:=(Jh.trans Om)
       have Sx:AV.same 20 (AV.agg [j.aj,j.ag,(AV.slice h_ 0 j.ab.length j.ab.length false),(AV.slice iH 0 j.ab.length j.ab.length false),AV.aH]) (AV.agg [j.aj,j.ag,(AV.slice h_ 0 j.ab.length j.ab.length false),(AV.slice iH 0 j.ab.length j.ab.length false),AV.aH])=true:=fj 18 (oX dm.same (oX l8.same (oX (fun n=>by simp [AV.same]) (oX (fun n=>by simp [AV.same]) (oX (fun n=>by simp [AV.same]) Ix)))))
       have w21:IntKind.i64.wrap (aC+1)=aC+1:=wrap_i64 o! o!
       exact cg.round (by simp only[gM,f0,pj,cond_true,cond_false]) (pk (d+3) _ _ hh _ Ac (VV (ba 3 false false .i64 aC ((j.ab.length:Nat):Int))<|BC f0<|VV gv<|MM g5<|NN lx (fun i=>(Pt i))<|CC<|SS ks<|CC<|MM (aw 26 2 ((j.ab.g aC.toNat).aO) fD k!)<|VV oS<|CC<|LL sQ<|MM (aw 93 0 (AV.agg [j.aj,j.ag,(AV.slice h_ 0 j.ab.length j.ab.length false),(AV.slice iH 0 j.ab.length j.ab.length false),AV.aH]) (fu.a _ _ (bI _ _ o! (cu _ _ cf))) k!)<|CN 3<|VV F9<|MM ve<|EE af1<|HH (aw 93 0 (AV.agg [j.aj,j.ag,(AV.slice h_ 0 j.ab.length j.ab.length false),(AV.slice iH 0 j.ab.length j.ab.length false),AV.aH]) (fu.a _ _ (bI _ _ o! (cu _ _ cf))) k!)<|HH Sx<|HH ve<|HH (show AV.same 20 (Zi (ai.g aC.toNat)) (Zi (ai.g aC.toNat))=true from aJ 19 _ _)<|VV (pK 3 false true w21)<|CC<|ZZ) k!) o! _ k! (fun x=>ra ax j ai cE cK h_ iH dM dm l8 l9 pa sr dv jS IZ LA ac7 V2 bW II Ni ac9 ada xr Ob Oc Od Oe Of qN (aC+1) ((oT j ca gu aC (ai.g aC.toNat)).1) ((oT j ca gu aC (ai.g aC.toNat)).2) o! (show (((0:Int)≤1)∧(0≤(aC+1))) from o!) x Ac qq mn o! l! l! (Om _ _ ((nV _ o!).trans ((gG _ o!).trans (fu.a _ _ (bI _ _ o! (cu _ _ bZ)))))) (Om _ _ ((nV _ o!).trans ((gG _ o!).trans (fu.a _ _ (bI _ _ o! (cu _ _ cf)))))) Zv Zw)
     | some Oa=>
       obtain ⟨adj,pY,sQ,fu⟩:=aA.r pj (qZ (d:=d) (h:=h) ax aC j ca gu ai cE cK h_ iH dM dm l8 ((dm.ok (i:=aC.toNat) o!).2.1) l9 (dm.ok (i:=aC.toNat) o!) (by assumption) (by assumption) (by assumption) (by assumption) o! o! o! o! o! (((j.ab.g aC.toNat).az).length) 0 o! (fun k_=>(((x 0)::ax::(Pt cE)::rx x 3 4 ((Pt cK)::(Zi aC)::(Pt hh.nx)::rx x 10 24 (j.aj::(Zn j.ab.length)::(Zi aC)::(AV.bool (decide (aC<((j.ab.length:Nat):Int))))::(Zi aC)::(AV.ptr p3 q4)::(AV.agg [(AV.str ((j.ab.g aC.toNat).name)),(Zi ((j.ab.g aC.toNat).aI)),((j.ab.g aC.toNat).aO),((j.ab.g aC.toNat).aU)])::(AV.ptr hh.nx 2)::((j.ab.g aC.toNat).aO)::(Zn (((j.ab.g aC.toNat).az).length))::(Zi 0)::rx x 45 34 []))):List AV).getD k_ AV.undef) h7 fQ eL (bI _ _ o! (cu _ _ bZ)) (bI _ _ o! (cu _ _ cf)) (bI _ _ o! (cu _ _ qW)) (bI _ _ o! (cu _ _ qX)))
       have mR:=fu.y
       have Lh:h7.nx≤pY.nx:=fu.n
       have iU:Has h pY:=eL.trans fu.a
       exact cg.ret Oa AV.undef (by simp only[gM,f0,pj,cond_true,cond_false]) (pk (d+3) _ _ hh _ pY (VV (ba 3 false false .i64 aC ((j.ab.length:Nat):Int))<|BC f0<|VV gv<|MM g5<|NN lx (fun i=>(Pt i))<|CC<|SS ks<|CC<|MM (aw 26 2 ((j.ab.g aC.toNat).aO) fD k!)<|VV oS<|CC<|LL sQ<|ZZ) k!) mR o! iU k!
   · have dO:=of_decide_eq_false f0
     exact cg.out (ca,gu) AV.undef (by simp only[gM,f0,cond_true,cond_false]) (pk (d+3) _ _ hh _ hh (VV (ba 3 false false .i64 aC ((j.ab.length:Nat):Int))<|BB f0<|ZZ) k!) aE o! ⟨aB,bZ,cf,qW,qX,l!,l!,(show ((0:Int)≤1) from o!)⟩ k!
def lQ (j:cz) (ai:List Int):Bool:=(match (fv ai j ai.length 0) with | none=>(match (gM j ai (((j.ab.length:Nat):Int) - 0).toNat 0 ((aK j).2.1) ((aK j).2.2)) with | Sum.inl qi=>true | Sum.inr Oj=>Oj) | some U6=>U6)
theorem On {d:Nat} {h:au} {ax:AV} (j:cz) (ai:List Int) (bH:aL.ok h j) (bm:b_ h .i64 3 ax ai) (lI:∀i,i<j.ab.length→∀q,q<(j.ab.g i).az.length→0≤(j.ab.g i).az.g q∧(j.ab.g i).az.g q<(j.ab.length:Int)) (oL:∀r,r<j.af.length→(j.af.g r).off.length≤16∧∀q,q<(j.af.g r).off.length→0≤((j.af.g r).off.g q).a_∧((j.af.g r).off.g q).aN≤100000) (D2:∀i,i<j.ab.length→(j.ab.g i).ar.length=0) (FK:∀i,i<j.ab.length→0≤(j.ab.g i).aI∧(j.ab.g i).aI≤100000) (Rb:ai.length=j.ab.length) (aco:j.ab.length≤64) (pre6:j.af.length=0) (bW:Tidy h):cR (d+4) (.fn 32) [(AV.agg [j.aj,j.ag]),ax] h= .ret (AV.bool (lQ j ai)) h:=by
 have fG:=bm.small
 have dP:=bH.1.small
 have dQ:=bH.2.small
 obtain ⟨h1,bM,cx,jc,aQ,cA⟩:=j_ bW (aM.cells [j.aj,j.ag] 25 false)
 have bt:Has h h1:=cA
 have re:b6 (some (.slice 3)) (some ax)=some (Zn ai.length):=bm.len
 cases ky:fv ai j ai.length 0 with
 | none=>
   obtain ⟨Ae,h4,iA,gH⟩:=aA.n ky (qY (d:=d) (h:=h) ax ai j h.nx bm bH.1 bH.2 bH (by assumption) (by assumption) (by assumption) (by assumption) o! o! o! ai.length 0 o! (fun k_=>(((AV.agg [j.aj,j.ag])::ax::(Pt h.nx)::AV.undef::(AV.bool false)::AV.undef::AV.undef::AV.undef::AV.undef::AV.undef::AV.undef::AV.undef::AV.undef::ax::(Zn ai.length)::(Zi 0)::g4 63):List AV).getD k_ AV.undef) h1 cx bt aQ)
   have nA:=gH.y
   have Lm:h1.nx≤h4.nx:=gH.n
   have kQ:Has h h4:=bt.trans gH.a
   obtain ⟨R3,R4,zb7,gb8,l_,Hn,nj,xY,xZ,Ok,adm,adn,ado,adp,adq,adr,ads,adt⟩:=zp (d:=d) j (aL.mono kQ bH) (by first | omega | assumption | exact dv aC.toNat o!) (by first | omega | assumption | exact dv aC.toNat o!) (by first | omega | assumption | exact dv aC.toNat o!) nA
   have mQ:=nj.y
   have aax:h4.nx≤l_.nx:=nj.n
   have adu:=wx j (by assumption)
   obtain rfl:=ni.aho Ok o!
   have uS:Has h l_:=kQ.trans nj.a
   have EY:Has h4 l_:=nj.a
   have afZ:=mQ _ _ xY
   have af0:=mQ _ _ xZ
   obtain ⟨pY,vi,mR,aaH,zP,cy⟩:=j_ mQ (aM.cells [AV.aH,AV.aH,AV.aH,AV.aH,AV.aH] 93 false)
   have iU:Has h pY:=uS.trans cy
   have EZ:Has h4 pY:=EY.trans cy
   have Bc:Has l_ pY:=cy
   have VP:AV.scalar j.aj=true:=bH.1.scalar
   have adv:AV.scalar j.ag=true:=bH.2.scalar
   obtain ⟨mq,oi,ku,Lk,m5,b7⟩:=qL (t:=93) (n:=5) (i:=l_.nx) (L:=[j.aj,j.ag,(AV.slice R3 0 j.ab.length j.ab.length false),(AV.slice R4 0 j.ab.length j.ab.length false),AV.aH]) mR zP k! rfl rfl (by simp only[AV.cells,List.all_cons,List.all_nil,Bool.and_true,Bool.and_self,iO,fY,iP,iQ,eS,mg,mh,mi,mj,ml,iR,VP,adv])
   have iF:Has h mq:=Has.ea iU b7 bW o!
   have V5:Has h4 mq:=Has.ea EZ b7 nA o!
   have R5:Has l_ mq:=Has.ea Bc b7 mQ o!
   have R6:b6 (some (.slice 44)) (some j.aj)=some (Zn j.ab.length):=bH.1.len
   cases nW:gM j ai (((j.ab.length:Nat):Int) - 0).toNat 0 ((aK j).2.1) ((aK j).2.2) with
   | inl qi=>
     obtain ⟨adw,jX,Fo,qB,L6,V6,x7,Zs,vT,Ji,Jj,Zt,Zu,V7⟩:=cg.n nW (ra (d:=d) (h:=h) ax j ai h.nx l_.nx R3 R4 bm bH.1 bH.2 bH (by assumption) (by assumption) (by assumption) (by assumption) o! o! o! (vo (by assumption) (by assumption) (by assumption)) bW o! o! o! o! o! o! o! o! o! o! (((j.ab.length:Nat):Int) - 0).toNat 0 ((aK j).2.1) ((aK j).2.2) o! (show (((0:Int)≤1)∧(0≤0)) from o!) (fun k_=>(((Ae 0)::ax::(Pt h.nx)::rx Ae 3 4 ((Pt l_.nx)::rx Ae 8 5 (ax::(Zn ai.length)::rx Ae 15 16 ((AV.agg [j.aj,j.ag])::(AV.agg [j.aj,j.ag,(AV.slice R3 0 j.ab.length j.ab.length false),(AV.slice R4 0 j.ab.length j.ab.length false),AV.aH])::(Pt h.nx)::j.aj::(Zn j.ab.length)::(Zi 0)::rx Ae 37 42 [])))):List AV).getD k_ AV.undef) mq ku iF o! l! l! (b7 _ _ o! (cy _ _ (nj.a _ _ (gH.a _ _ aQ)))) m5 (b7 _ _ o! (cy _ _ xY)) (b7 _ _ o! (cy _ _ xZ)))
     have wE:Has h Fo:=x7
     have aik:Ev env (cR (d+3)) sS ⟨((jX 0)::ax::(Pt h.nx)::rx jX 3 4 ((Pt l_.nx)::rx jX 8 26 (j.aj::(Zn j.ab.length)::rx jX 36 30 ((AV.ptr l_.nx 4)::AV.aH::(Zi 0)::(Zi 0)::rx jX 70 9 [])))),Fo,[],.no⟩ (.exit 6) ⟨((jX 0)::ax::(Pt h.nx)::rx jX 3 4 ((Pt l_.nx)::rx jX 8 26 (j.aj::(Zn j.ab.length)::rx jX 36 30 ((AV.ptr l_.nx 4)::AV.aH::(Zi 0)::(Zi 0)::(AV.bool false)::rx jX 71 8 [])))),Fo,[],.no⟩:=Ev.to (pk (d+3) sS ((jX 0)::ax::(Pt h.nx)::rx jX 3 4 ((Pt l_.nx)::rx jX 8 26 (j.aj::(Zn j.ab.length)::rx jX 36 30 ((AV.ptr l_.nx 4)::AV.aH::(Zi 0)::(Zi 0)::rx jX 70 9 [])))) Fo (.exit 6) Fo (CC<|FF<|ZZ) k!) k!
     have e:lQ j ai=true:=by simp only[lQ,ky,nW,cond_true,cond_false]
     rw[e]
     exact aD rfl (bb Tryz.func32 x9 rfl (.inr rfl) (pk (d+3) _ _ h _ Fo (NN bM (fun i=>(Pt i))<|CN 2<|VV re<|CC<|LL iA<|MM (aw 25 0 (AV.agg [j.aj,j.ag]) (gH.a _ _ aQ) k!)<|EE Hn<|NN vi (fun i=>(Pt i))<|SS oi<|CC<|MM (aw 22 0 j.aj (b7 _ _ o! (cy _ _ (nj.a _ _ (gH.a _ _ aQ)))) k!)<|VV R6<|CC<|LL qB<|CC<|MM (aw 91 4 AV.aH vT k!)<|CN 2<|LL (show Ev env (cR (d+3)) (.loop sS) ⟨((jX 0)::ax::(Pt h.nx)::rx jX 3 4 ((Pt l_.nx)::rx jX 8 26 (j.aj::(Zn j.ab.length)::rx jX 36 30 ((AV.ptr l_.nx 4)::AV.aH::(Zi 0)::(Zi 0)::rx jX 70 9 [])))),Fo,[],.no⟩ (.exit 6) ⟨((jX 0)::ax::(Pt h.nx)::rx jX 3 4 ((Pt l_.nx)::rx jX 8 26 (j.aj::(Zn j.ab.length)::rx jX 36 30 ((AV.ptr l_.nx 4)::AV.aH::(Zi 0)::(Zi 0)::(AV.bool false)::rx jX 71 8 [])))),Fo,[],.no⟩ from (Ev.out aik))<|CC<|ZZ) k!) k!) wE rfl
   | inr Oj=>
     obtain ⟨adw,jX,Fo,qB,L6,V6,x7⟩:=cg.r nW (ra (d:=d) (h:=h) ax j ai h.nx l_.nx R3 R4 bm bH.1 bH.2 bH (by assumption) (by assumption) (by assumption) (by assumption) o! o! o! (vo (by assumption) (by assumption) (by assumption)) bW o! o! o! o! o! o! o! o! o! o! (((j.ab.length:Nat):Int) - 0).toNat 0 ((aK j).2.1) ((aK j).2.2) o! (show (((0:Int)≤1)∧(0≤0)) from o!) (fun k_=>(((Ae 0)::ax::(Pt h.nx)::rx Ae 3 4 ((Pt l_.nx)::rx Ae 8 5 (ax::(Zn ai.length)::rx Ae 15 16 ((AV.agg [j.aj,j.ag])::(AV.agg [j.aj,j.ag,(AV.slice R3 0 j.ab.length j.ab.length false),(AV.slice R4 0 j.ab.length j.ab.length false),AV.aH])::(Pt h.nx)::j.aj::(Zn j.ab.length)::(Zi 0)::rx Ae 37 42 [])))):List AV).getD k_ AV.undef) mq ku iF o! l! l! (b7 _ _ o! (cy _ _ (nj.a _ _ (gH.a _ _ aQ)))) m5 (b7 _ _ o! (cy _ _ xY)) (b7 _ _ o! (cy _ _ xZ)))
     have wE:Has h Fo:=x7
     have e:lQ j ai=Oj:=by simp only[lQ,ky,nW,cond_true,cond_false]
     rw[e]
     exact aD rfl (bb Tryz.func32 x9 rfl (.inr rfl) (pk (d+3) _ _ h _ Fo (NN bM (fun i=>(Pt i))<|CN 2<|VV re<|CC<|LL iA<|MM (aw 25 0 (AV.agg [j.aj,j.ag]) (gH.a _ _ aQ) k!)<|EE Hn<|NN vi (fun i=>(Pt i))<|SS oi<|CC<|MM (aw 22 0 j.aj (b7 _ _ o! (cy _ _ (nj.a _ _ (gH.a _ _ aQ)))) k!)<|VV R6<|CC<|LL qB<|ZZ) k!) k!) wE rfl
 | some U6=>
   obtain ⟨Ae,h4,iA,gH⟩:=aA.r ky (qY (d:=d) (h:=h) ax ai j h.nx bm bH.1 bH.2 bH (by assumption) (by assumption) (by assumption) (by assumption) o! o! o! ai.length 0 o! (fun k_=>(((AV.agg [j.aj,j.ag])::ax::(Pt h.nx)::AV.undef::(AV.bool false)::AV.undef::AV.undef::AV.undef::AV.undef::AV.undef::AV.undef::AV.undef::AV.undef::ax::(Zn ai.length)::(Zi 0)::g4 63):List AV).getD k_ AV.undef) h1 cx bt aQ)
   have nA:=gH.y
   have Lm:h1.nx≤h4.nx:=gH.n
   have kQ:Has h h4:=bt.trans gH.a
   have e:lQ j ai=U6:=by simp only[lQ,ky,cond_true,cond_false]
   rw[e]
   exact aD rfl (bb Tryz.func32 x9 rfl (.inr rfl) (pk (d+3) _ _ h _ h4 (NN bM (fun i=>(Pt i))<|CN 2<|VV re<|CC<|LL iA<|ZZ) k!) k!) kQ rfl
theorem kW {j:cz} (h:bG j=0):eA j:=NT (by rw[bG] at h;exact h)
def rM (j:cz) (ai:List Int):Bool:=bif decide (0<j.af.length) then lV j ai else lQ j ai
theorem Oo {d:Nat} {h:au} {ax:AV} (j:cz) (ai:List Int) (bH:aL.ok h j) (bm:b_ h .i64 3 ax ai) (F:eA j) (hl:ai.length=j.ab.length) (bW:Tidy h):cR (d+4) (.fn 32) [(AV.agg [j.aj,j.ag]),ax] h= .ret (AV.bool (rM j ai)) h:=by
 rw[rM]
 by_cases r:0<j.af.length
 · rw[decide_eq_true r,cond_true];exact R2 j ai bH bm F.nb F.ro F.ur F.ud F.tk hl F.nt F.nr r bW
 · rw[decide_eq_false r,cond_false]
   have r0:j.af.length=0:=by omega
   refine On j ai bH bm F.nb F.ro (fun i hi=>?_) F.tk hl F.nt r0 bW
   rcases Nat.eq_zero_or_pos (j.ab.g i).ar.length with e | e
   · exact e
   · have:=F.ur i hi 0 e;omega
theorem V' (A:Nat→Prop) (f:Nat→Int):∀n,(∃i,i<n∧A i)→∃i,i<n∧A i∧∀k,k<n→A k→f k≤f i
 | 0,⟨i,h,_⟩=>by omega
 | n+1,⟨i,h,a⟩=>by
   by_cases e:∃i,i<n∧A i
   · obtain ⟨q,hq,aq,m⟩:=V' A f n e
     by_cases z:A n∧f q<f n
     · refine ⟨n,by omega,z.1,fun k hk ak=>?_⟩
       by_cases y:k=n
       · rw[y];exact Int.le_refl _
       · have:=m k o! ak;omega
     · refine ⟨q,by omega,aq,fun k hk ak=>?_⟩
       by_cases y:k=n
       · subst y;by_cases w:f q<f k
         · exact absurd ⟨ak,w⟩ z
         · omega
       · exact m k o! ak
   · have ZT:i=n:=by
      by_cases y:i=n
      · exact y
      · exact absurd ⟨i,by omega,a⟩ e
     subst ZT
     refine ⟨i,by omega,a,fun k hk ak=>?_⟩
     by_cases y:k=i
     · rw[y];exact Int.le_refl _
     · exact absurd ⟨k,by omega,ak⟩ e
theorem L7 {α:Type} [Inhabited α] {l:List α} {i:Nat} (h:i<l.length):l.g i∈l:=by
 rw[List.g,List.getD_eq_getElem?_getD,List.getElem?_eq_getElem h];exact List.getElem_mem h
section
variable {j:cz} {s:List Int}
def Room (j:cz) (s:List Int):Prop:=∀r,r<j.af.length→∀m,0≤m→ET (j.af.g r) m+jW (yl j s r m) j.ab.length 0≤(j.af.g r).ay
theorem core (F:eA j) (T:Tm j s):Room j s↔∀i,i<j.ab.length→RF j s i:=by
 constructor
 · intro K i hi ht q hq
   have ur:=F.ur i hi q hq
   have um:=F.um i hi q hq
   have t:=T i hi
   obtain ⟨r,hr⟩:∃r:Nat,r=Int.toNat ((j.ab.g i).ar.g q).ah:=⟨_,rfl⟩
   rw[←hr]
   rw[←hr] at um
   have hrn:r<j.af.length:=by omega
   have rs:=F.rs r hrn
   have us:hF (j.ab.g i) (r:Int)=((j.ab.g i).ar.g q).ay:=by
    rw[←CV F hi hq];congr 1;omega
   have key:∀m,0≤m→Zh j s i m→ET (j.af.g r) m+Ge j s i r m+((j.ab.g i).ar.g q).ay≤(j.af.g r).ay:=fun m hm hc=>by
    have k:=K r hrn m hm
    rw[A' (q:=i) (Nat.zero_le _) o!] at k
    have e:yl j s r m i=((j.ab.g i).ar.g q).ay:=by rw[yl,if_pos hc,us]
    rw[e] at k
    unfold Ge;omega
   refine ⟨fun o ho z=>?_,?_,fun k hk eY h1 h2=>?_⟩
   · obtain ⟨m,hm1,hm2,hm3,hm4⟩:∃m:Int,((j.af.g r).off.g o).a_≤m∧m≤((j.af.g r).off.g o).aN∧s.g i≤m∧m<s.g i+(j.ab.g i).aI:=by
      have:=rs.1 o ho
      by_cases y:s.g i≤((j.af.g r).off.g o).a_
      · exact ⟨((j.af.g r).off.g o).a_,Int.le_refl _,by omega,y,z.1⟩
      · exact ⟨s.g i,by omega,z.2,Int.le_refl _,by omega⟩
     have k:=key m o! ⟨hm3,hm4⟩
     have g:=VU (c:=(j.af.g r).ay) (m:=m) rs.2.2.1 (L7 ho) hm1 hm2
     have l:=(N_ F (s:=s) (i:=i) (r:=r) (m:=m)).1
     unfold ET at k
     omega
   · have k:=key (s.g i) t.1 ⟨Int.le_refl _,by omega⟩
     have g:=Jb (c:=(j.af.g r).ay) (m:=s.g i) rs.2.2.1 (l:=(j.af.g r).off)
     unfold ET at k
     omega
   · have kk:=key (s.g k) (T k hk).1 ⟨by omega,h2⟩
     have g:=Jb (c:=(j.af.g r).ay) (m:=s.g k) rs.2.2.1 (l:=(j.af.g r).off)
     unfold ET at kk
     omega
 · intro K r hr m hm
   have rs:=F.rs r hr
   by_cases e:∃i,i<j.ab.length∧(Zh j s i m∧hF (j.ab.g i) (r:Int)≠0)
   · obtain ⟨i,hi,⟨hc,hu⟩,mx⟩:=V' (fun i=>Zh j s i m∧hF (j.ab.g i) (r:Int)≠0) (fun i=>s.g i) _ e
     have hc1:=hc.1
     have hc2:=hc.2
     rcases Ja F hi (r:Int) with ⟨q,hq,eq⟩ | ⟨_,z⟩
     · have ru:=K i hi o! q hq
       rw[eq,Int.toNat_natCast] at ru
       have us:hF (j.ab.g i) (r:Int)=((j.ab.g i).ar.g q).ay:=by rw[←CV F hi hq,eq]
       have o0:ET (j.af.g r) m=0:=EU fun x hx w=>by
        obtain ⟨o,ho,eo⟩:=G' hx
        have:=ru.1 o ho
        rw[eo] at this
        exact this ⟨by omega,by omega⟩
       have le:jW (yl j s r m) j.ab.length 0≤jW (yl j s r (s.g i)) j.ab.length 0:=P2 fun k _ hk=>by
        have kn:k<j.ab.length:=by omega
        by_cases ck:Zh j s k m
        · by_cases uk:hF (j.ab.g k) (r:Int)=0
          · have:=(N9 F (s:=s) (r:=r) (m:=s.g i) kn).1
            rw[yl,if_pos ck,uk];exact this
          · have:=mx k kn ⟨ck,uk⟩
            have c1:=ck.2
            rw[yl,if_pos ck,yl,if_pos ⟨this,by omega⟩];exact Int.le_refl _
        · have:=(N9 F (s:=s) (r:=r) (m:=s.g i) kn).1
          rw[yl,if_neg ck];exact this
       rw[A' (f:=yl j s r (s.g i)) (q:=i) (Nat.zero_le _) o!] at le
       have e2:yl j s r (s.g i) i=((j.ab.g i).ar.g q).ay:=by rw[yl,if_pos ⟨Int.le_refl _,by omega⟩,us]
       rw[e2] at le
       have:=ru.2.1
       unfold Ge at this
       omega
     · exact absurd z hu
   · have z:jW (yl j s r m) j.ab.length 0=0:=by
      rw[sL (g:=fun _=>0) fun k _ hk=>?_,Hl]
      by_cases ck:Zh j s k m
      · rw[yl,if_pos ck]
        by_cases y:hF (j.ab.g k) (r:Int)=0
        · exact y
        · exact absurd ⟨k,by omega,ck,y⟩ e
      · rw[yl,if_neg ck]
     rw[z]
     have:=VW (c:=(j.af.g r).ay) (m:=m) rs.2.2.1 (ac1 F hr)
     unfold ET;omega
theorem qQ.up {t:List Int} {n:Nat} {B B' C:Int} (T:qQ t n B C) (h:B≤B'):qQ t n B' C:=⟨T.is,fun k hk=>⟨(T.u k hk).1,Int.le_trans (T.u k hk).2 h⟩,T.f⟩
def INV (j:cz) (s:List Int) (i:Nat) (T:List Tl):Prop:=T.length=j.af.length∧∀r,r<j.af.length→∃n:Nat,qQ (T.g r).l n (1000*(16+i)) 100001∧n≤33+2*i∧(∀m,0≤m→Ci (T.g r).l m n=ET (j.af.g r) m+jW (yl j s r m) i 0)∧(T.g r).l.g 323=(j.af.g r).ay
theorem Qa {c:Int}:∀{l:List (Span×Int)},(∀x∈l,x.2≤c)→zv l≤c*l.length
 | [],_=>by simp [zv]
 | x::l,h=>by
   have a:=h x (.head _)
   have b:=Qa (l:=l) fun y hy=>h y (.tail _ hy)
   unfold zv at b ⊢
   rw[List.map_cons,List.sum_cons,List.length_cons,show c*((l.length+1:Nat):Int)=c*l.length+c by rw[Int.natCast_add,Int.mul_add];simp]
   omega
theorem Wa (F:eA j):INV j s 0 (aK j).1:=by
 rw[aar]
 refine ⟨List.length_map _,fun r hr=>?_⟩
 have hg:((j.af.map fun r=>(⟨WS r⟩:Tl)).g r)=⟨WS (j.af.g r)⟩:=by
  rw[List.g,List.g,List.getD_eq_getElem?_getD,List.getD_eq_getElem?_getD,List.getElem?_map,List.getElem?_eq_getElem hr];rfl
 have ro:=F.ro r hr
 have rs:=F.rs r hr
 show ∃n:Nat,qQ ((j.af.map fun r=>(⟨WS r⟩:Tl)).g r).l n (1000*(16+((0:Nat):Int))) 100001∧n≤33+2*0∧(∀m,0≤m→Ci ((j.af.map fun r=>(⟨WS r⟩:Tl)).g r).l m n=ET (j.af.g r) m+jW (yl j s r m) 0 0)∧((j.af.map fun r=>(⟨WS r⟩:Tl)).g r).l.g 323=(j.af.g r).ay
 rw[hg]
 have hl:((j.af.g r).off.map fun s=>(s,(j.af.g r).ay)).length≤16:=by rw[List.length_map];exact ro.1
 have sp:=Qa (c:=1000) (l:=(j.af.g r).off.map fun s=>(s,(j.af.g r).ay)) fun x hx=>by
  obtain ⟨y,_,rfl⟩:=List.mem_map.1 hx
  exact rs.2.2.2
 obtain ⟨n,a,b,c,d⟩:=Lp (C:=100001) ((j.af.g r).off.map fun s=>(s,(j.af.g r).ay)) (IN (j.af.g r).ay) 1 0 (acs _ (by decide)) o! (fun x hx=>by
  obtain ⟨y,hy,rfl⟩:=List.mem_map.1 hx
  obtain ⟨o,ho,eo⟩:=G' hy
  have:=ro.2 o ho
  rw[eo] at this
  exact ⟨this.1,by dsimp only;omega,rs.2.2.1⟩) o!
 refine ⟨n,a.up o!,by omega,fun m hm=>?_,d⟩
 show Ci (sw (IN (j.af.g r).ay) _) m n=_
 rw[c m hm,Vb _ hm,jW,ET];omega
theorem Zx (F:eA j) (T:Tm j s) {i:Nat} (hi:i<j.ab.length) {A:List Tl} (I:INV j s i A) (a:List Bool) (b:List Int):INV j s (i+1) (ji j a b A (i:Int) (s.g i)).2.2:=by
 have t:=T i hi
 have tk:=F.tk i hi
 have nt:=F.nt
 rw[Ve]
 show INV j s (i+1) (dt A (j.ab.g (Int.toNat (i:Int))).ar ⟨s.g i,s.g i+(j.ab.g (Int.toNat (i:Int))).aI - 1⟩)
 rw[Int.toNat_natCast]
 refine ⟨by rw[Lq];exact I.1,fun r hr=>?_⟩
 obtain ⟨n,B,hn,lv,mk⟩:=I.2 r hr
 have hd:=Vf (fun q hq=>(F.ur i hi q hq).1) (F.ud i hi)
 have hf:fit (A.g r).l=(A.g r).l:=xq B.is.len
 rcases Nx (sp:=⟨s.g i,s.g i+(j.ab.g i).aI - 1⟩) (r:=r) _ A hd (fun u hu=>by
  obtain ⟨q,hq,e⟩:=G' hu
  have:=F.ur i hi q hq
  rw[e] at this
  have:=I.1;omega) with ⟨u,hu,er,g⟩ | ⟨Ft,g⟩
 · rw[g,hf]
   obtain ⟨q,hq,e⟩:=G' hu
   have um:=F.um i hi q hq
   have ur:=F.ur i hi q hq
   have us:=CV F hi hq
   rw[e] at um ur us
   rw[er] at um
   have rs:=(F.rs r hr).2.2
   rw[show u.ah=(r:Int) by omega] at us
   obtain ⟨n',x1,x2,x3,x4⟩:=PI B o! (s:=⟨s.g i,s.g i+(j.ab.g i).aI - 1⟩) (p:=u.ay) t.1 (by dsimp only;omega) o! o!
   refine ⟨n',x1.up o!,by omega,fun m hm=>?_,x4.trans mk⟩
   show Ci (eC (A.g r).l ⟨s.g i,s.g i+(j.ab.g i).aI - 1⟩ u.ay) m n'=_
   rw[x3 m hm,lv m hm,A_,Nat.zero_add]
   have:Vc ⟨s.g i,s.g i+(j.ab.g i).aI - 1⟩ m u.ay=yl j s r m i:=by
    unfold Vc yl Zh
    rw[us]
    by_cases c:s.g i≤m∧m<s.g i+(j.ab.g i).aI
    · have c':s.g i≤m∧m≤s.g i+(j.ab.g i).aI - 1:=⟨c.1,by omega⟩
      exact (if_pos c').trans (if_pos c).symm
    · have c':¬(s.g i≤m∧m≤s.g i+(j.ab.g i).aI - 1):=fun w=>c ⟨w.1,by omega⟩
      exact (if_neg c').trans (if_neg c).symm
   rw[this];omega
 · rw[g]
   refine ⟨n,B.up o!,by omega,fun m hm=>?_,mk⟩
   have z:yl j s r m i=0:=by
    rcases Ja F hi (r:Int) with ⟨q,hq,e⟩ | ⟨_,e⟩
    · exact absurd (by rw[e];exact Int.toNat_natCast r) (Ft _ (L7 hq))
    · rw[yl,e];split<;>rfl
   rw[lv m hm,A_,Nat.zero_add,z];omega
theorem Wb (F:eA j) (hl:s.length=j.ab.length):∀k i,i+k=j.ab.length→(eP s j k i=none∧∀q,i≤q→q<i+k→0≤s.g q∧s.g q+(j.ab.g q).aI≤100000)∨(eP s j k i=some false∧¬Tm j s)
 | 0,i,h=> .inl ⟨rfl,fun q a b=>by omega⟩
 | k+1,i,h=>by
   have hi:i<j.ab.length:=by omega
   have tk:=F.tk i hi
   rw[eP]
   cases a:dg (s.g i) with
   | false=>
     refine .inr ⟨rfl,fun T=>?_⟩
     have t:=T i hi
     have:dg (s.g i)=true:=by
      unfold dg fS
      rw[decide_eq_true t.1,cond_true];exact decide_eq_true o!
     rw[this] at a;cases a
   | true=>
     have ta:=qx a
     rw[Bool.not_true,cond_false]
     have we:cV j s ((i:Nat):Int)=s.g i+(j.ab.g i).aI:=by
      rw[cV,Int.toNat_natCast,wrap_i64 o! o!]
     rw[we]
     by_cases b:100000<s.g i+(j.ab.g i).aI
     · rw[decide_eq_true b];exact .inr ⟨rfl,fun T=>by have:=T i hi;omega⟩
     · rw[decide_eq_false b,cond_false]
       rcases Wb F hl k (i+1) o! with ⟨e,f⟩ | g
       · refine .inl ⟨e,fun q x y=>?_⟩
         by_cases z:q=i
         · rw[z];exact ⟨ta.1,by omega⟩
         · exact f q o! o!
       · exact .inr g
theorem ady (F:eA j) (T:Tm j s) {n:Int} (h0:0≤n) (h1:n<(j.ab.length:Int)):cV j s n=s.g (Int.toNat n)+(j.ab.g (Int.toNat n)).aI:=by
 have t:=T (Int.toNat n) o!
 have tk:=F.tk (Int.toNat n) o!
 rw[cV,wrap_i64 o! o!]
theorem Wc (F:eA j) (T:Tm j s) {i:Nat} (hi:i<j.ab.length):∀k a,a+k=(j.ab.g i).az.length→(gV j (i:Int) s k a=none∧∀q,a≤q→q<a+k→¬s.g i<s.g (Int.toNat ((j.ab.g i).az.g q))+(j.ab.g (Int.toNat ((j.ab.g i).az.g q))).aI)∨(gV j (i:Int) s k a=some false∧¬NO j s i)
 | 0,a,h=> .inl ⟨rfl,fun q x y=>by omega⟩
 | k+1,a,h=>by
   have nb:=F.nb i hi a o!
   rw[gV,Int.toNat_natCast,ady F T nb.1 nb.2]
   by_cases c:s.g i<s.g (Int.toNat ((j.ab.g i).az.g a))+(j.ab.g (Int.toNat ((j.ab.g i).az.g a))).aI
   · rw[decide_eq_true c];exact .inr ⟨rfl,fun z=>z a o! c⟩
   · rw[decide_eq_false c,cond_false]
     rcases Wc F T hi k (a+1) o! with ⟨e,f⟩ | g
     · refine .inl ⟨e,fun q x y=>?_⟩
       by_cases z:q=a
       · rw[z];exact c
       · exact f q o! o!
     · exact .inr g
theorem aaQ (F:eA j) (T:Tm j s):∀(k i:Nat) (a:List Bool) (b:List Int) (A:List Tl),i+k=j.ab.length→INV j s i A→
 (∃x,iD j s k (i:Int) a b A=Sum.inl x∧INV j s j.ab.length x.2.2∧∀q,i≤q→q<j.ab.length→NO j s q)∨(iD j s k (i:Int) a b A=Sum.inr false∧∃q,q<j.ab.length∧¬NO j s q)
 | 0,i,a,b,A,h,I=> .inl ⟨(a,b,A),rfl,by rw[show j.ab.length=i by omega];exact I,fun q x y=>by omega⟩
 | k+1,i,a,b,A,h,I=>by
   have hi:i<j.ab.length:=by omega
   rw[iD,decide_eq_true (by omega:(i:Int)<((j.ab.length:Nat):Int)),cond_true,Int.toNat_natCast]
   rcases Wc F T hi _ 0 (Nat.zero_add _) with ⟨e,f⟩ | ⟨e,f⟩
   · rw[e,show ((i:Int)+1)=((i+1:Nat):Int) by omega]
     rcases aaQ F T k (i+1) (ji j a b A (i:Int) (s.g i)).1 (ji j a b A (i:Int) (s.g i)).2.1 _ o! (Zx F T hi I a b) with ⟨x,e1,e2,e3⟩ | g
     · refine .inl ⟨x,e1,e2,fun q x y=>?_⟩
       by_cases z:q=i
       · rw[z];exact fun u hu=>f u (Nat.zero_le _) o!
       · exact e3 q o! y
     · exact .inr g
   · rw[e];exact .inr ⟨rfl,i,hi,f⟩
theorem aaR {x:List Bool×List Int×List Tl}:∀k i,(gW j x k i=none∧∀q,i≤q→q<i+k→ib (fit (x.2.2.g q).l)=true)∨(gW j x k i=some false∧∃q,q<i+k∧ib (fit (x.2.2.g q).l)=false)
 | 0,i=> .inl ⟨rfl,fun q a b=>by omega⟩
 | k+1,i=>by
   rw[gW]
   cases e:ib (fit (x.2.2.g i).l) with
   | false=>exact .inr ⟨rfl,i,by omega,e⟩
   | true=>
     rw[Bool.not_true,cond_false]
     rcases aaR (x:=x) k (i+1) with ⟨e1,f⟩ | ⟨e1,q,y,z⟩
     · refine .inl ⟨e1,fun q a b=>?_⟩
       by_cases w:q=i
       · rw[w];exact e
       · exact f q o! o!
     · exact .inr ⟨e1,q,by omega,z⟩
theorem R8 (F:eA j) (hl:s.length=j.ab.length):lV j s=true↔Tm j s∧(∀i,i<j.ab.length→NO j s i)∧Room j s:=by
 rw[lV,hl]
 rcases Wb F hl _ 0 (Nat.zero_add _) with ⟨e0,f0⟩ | ⟨e0,f0⟩
 · have T:Tm j s:=fun i hi=>f0 i (Nat.zero_le _) o!
   rw[e0,show Int.toNat (((j.ab.length:Nat):Int) - 0)=j.ab.length by omega,show (0:Int)=((0:Nat):Int) from rfl]
   have nl:(aK j).1.length=j.af.length:=(Wa (s:=s) F).1
   rcases aaQ F T j.ab.length 0 (aK j).2.1 (aK j).2.2 (aK j).1 (Nat.zero_add _) (Wa F) with ⟨x,e1,e2,e3⟩ | ⟨e1,q,hq,f1⟩
   · rw[e1]
     have kept:∀r,r<j.af.length→(ib (fit (x.2.2.g r).l)=true↔∀m,0≤m→ET (j.af.g r) m+jW (yl j s r m) j.ab.length 0≤(j.af.g r).ay):=fun r hr=>by
      obtain ⟨n,B,hn,lv,mk⟩:=e2.2 r hr
      rw[xq B.is.len,Va B.is,mk]
      exact ⟨fun h m hm=>by rw[←lv m hm];exact h m hm,fun h m hm=>by rw[lv m hm];exact h m hm⟩
     rcases aaR (j:=j) (x:=x) (aK j).1.length 0 with ⟨e4,f4⟩ | ⟨e4,q,hq,f4⟩
     · show (match gW j x (aK j).1.length 0 with | none=>true | some r=>r)=true↔_
       rw[e4]
       exact ⟨fun _=>⟨T,fun i hi=>e3 i (Nat.zero_le _) hi,fun r hr=>(kept r hr).1 (f4 r (Nat.zero_le _) o!)⟩,fun _=>rfl⟩
     · show (match gW j x (aK j).1.length 0 with | none=>true | some r=>r)=true↔_
       rw[e4]
       exact ⟨(fun z=>by cases z),fun z=>by rw[(kept q o!).2 (z.2.2 q o!)] at f4;cases f4⟩
   · rw[e1];exact ⟨(fun z=>by cases z),fun z=>absurd (z.2.1 q hq) f1⟩
 · rw[e0];exact ⟨(fun z=>by cases z),fun z=>absurd z.1 f0⟩
end
end Go.Proofs.aP
