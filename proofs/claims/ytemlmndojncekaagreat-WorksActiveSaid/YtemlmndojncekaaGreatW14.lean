import Derived.Test.YtemlmndojncekaaGreatW0
import Derived.Test.YtemlmndojncekaaGreatW8
import Derived.Test.YtemlmndojncekaaGreatW13
import Derived.Test.YtemlmndojncekaaGreatW4
import Derived.Test.YtemlmndojncekaaGreatW2
import Derived.Test.YtemlmndojncekaaGreatW9
import Derived.Test.YtemlmndojncekaaGreatW3
import Derived.Test.YtemlmndojncekaaGreatW12
import Derived.Test.YtemlmndojncekaaGreatW7
namespace Go.Proofs.aQ
open Go.Proofs Ab
noncomputable section
set_option maxRecDepth 100000
set_option maxHeartbeats 4000000
set_option linter.unusedVariables false
set_option linter.unusedSimpArgs false
theorem eX {p:Prop} (h:p:=by first | omega | assumption | exact qQ aP.toNat o!):p:=h
def mr:Code:=(Tryz.f23.body).getD .skip
theorem AB:Tryz.f23.body=some mr:=by kernel_rfl
def MF:Code:=(bw mr).getD 0 .skip
def MG:Code:=(bw mr).getD 1 .skip
def MH:Code:=(bw mr).getD 2 .skip
def va:Code:=(bw mr).getD 3 .skip
def fZ (au:List Int) (j:cx):Nat→Nat→Option (Bool)
 | 0,_=>none
 | dq+1,i0=>(bif (!(dZ (au.g i0))) then some false else (bif (decide (100000<(cW j au ((i0:Nat):Int)))) then some false else fZ au j dq (i0+1)))
theorem zm {d:Nat} {h:aC} (aN:AV) (au:List Int) (j:cx) (bk:Nat) (bx:b8 h .i64 3 aN au) (cZ:aW h j.aw j.ab) (fj:aW h j.ao j.af) (g5:aR.ok h j) (hF:∀i,i<j.ab.length→∀q,q<(j.ab.g i).aB.length→0≤(j.ab.g i).aB.g q∧(j.ab.g i).aB.g q<(j.ab.length:Int)) (je:∀r,r<j.af.length→(j.af.g r).off.length≤16∧∀q,q<(j.af.g r).off.length→0≤((j.af.g r).off.g q).bq∧((j.af.g r).off.g q).ba≤100000) (mI:∀i,i<j.ab.length→(j.ab.g i).aA.length=0) (nq:∀i,i<j.ab.length→0≤(j.ab.g i).takes∧(j.ab.g i).takes≤100000) (pF:au.length=j.ab.length) (pY:j.ab.length≤64) (z6:j.af.length=0):∀(k_ i_:Nat) (_:i_+k_=au.length) (x:Nat→AV) (hh:aC) (aI:Tidy hh) (aE:Has h hh) (br:hh.get bk=some (aM.cells [j.aw,j.ao] 25 false)),aF (cN (d+3)) MF ⟨((x 0)::aN::(Pt bk)::rx x 3 10 (aN::(Zn au.length)::(Zn i_)::rx x 16 63 [])),hh,[],.no⟩ (.exit 0) hh (fun y=>((y 0)::aN::(Pt bk)::rx y 3 10 (aN::(Zn au.length)::rx y 15 64 []))) (fun r y=>((y 0)::aN::(Pt bk)::(y 3)::(AV.bool r)::rx y 5 8 (aN::(Zn au.length)::rx y 15 64 []))) (fZ au j k_ i_)
 | 0,i0,fX,x,hh,aI,aE,br=>by
   have q1:(decide (((i0:Nat):Int)<((au.length:Nat):Int)))=false:=d!
   exact aF.out rfl (pk (d+3) _ _ hh _ hh (VV (bL 3 false false .i64 ((i0:Nat):Int) ((au.length:Nat):Int))<|BB q1<|ZZ) k!) (bE.refl aI) k!
 | dq+1,i0,fX,x,hh,aI,aE,br=>by
   have q1:(decide (((i0:Nat):Int)<((au.length:Nat):Int)))=true:=d!
   obtain ⟨p3,q4,cC,_⟩:=(bx.has aE).elem (i:=i0) o!
   have iW:bO env (some (.slice 3)) (some aN) (some (Zn i0))=some (AV.ptr p3 q4):=cC
   have jY:bh env hh 3 (AV.ptr p3 q4)=some (Zi (au.g i0)):=(bx.has aE).load o! cC
   have k6:=qV (d:=d+1) (au.g i0) aI
   have dJ:=fun {al ps} (k:Pk al _ ps)=>(VV (bL 3 false false .i64 ((i0:Nat):Int) ((au.length:Nat):Int))<|BC q1<|VV iW<|MM jY<|CN 3<|EE k6<|CN 2<|k:Pk _ [] ps)
   rcases Bool.eq_false_or_eq_true (!(dZ (au.g i0))) with f1 | f1
   · exact aF.ret false (by simp only[fZ,f1,aj,ai]) (pk (d+3) _ _ hh _ hh (dJ<|BB f1<|BB f1<|BB f1<|BB f1<|BV f1 (yA true f1)<|TT<|CC<|ZZ) k!) (bE.refl aI) k!
   · have k8:=qn (d:=d+2) j au ((i0:Nat):Int) (aR.mono aE g5) (bx.has aE) eX eX eX aI
     have hX:=fun {al ps} (k:Pk al _ ps)=>(dJ<|BM f1 (aO 25 0 (AV.agg [j.aw,j.ao]) br k!)<|BC f1<|BC f1<|BB f1<|EE k8<|BV f1 (dw 3 false true .i64 (cW j au ((i0:Nat):Int)) 100000)<|VV (cf (a:=some (AV.bool true)) (b:=some (AV.bool (decide (100000<(cW j au ((i0:Nat):Int)))))) f1)<|k:Pk _ [] ps)
     rcases Bool.eq_false_or_eq_true (decide (100000<(cW j au ((i0:Nat):Int)))) with f2 | f2
     · exact aF.ret false (by simp only[fZ,f1,f2,aj,ai]) (pk (d+3) _ _ hh _ hh (hX<|BC f2<|ZZ) k!) (bE.refl aI) k!
     · have u10:=fi 3 false true i0 1 o!
       exact aF.round (by simp only[fZ,f1,f2,aj,ai]) (pk (d+3) _ _ hh _ hh (hX<|BV f2 u10<|CC<|ZZ) k!) (bE.refl aI) _ k! (fun x=>zm aN au j bk bx cZ fj g5 hF je mI nq pF pY z6 dq (i0+1) o! x hh aI aE br)
theorem xQ {j:cx} {au:List Int} (tk:∀i,i<j.ab.length→0≤(j.ab.g i).takes∧(j.ab.g i).takes≤100000) (hl:au.length=j.ab.length):∀(k i:Nat),i+k=au.length→fZ au j k i=none→∀q,i≤q→q<au.length→0≤au.g q∧au.g q+(j.ab.g q).takes≤100000
 | 0,i,e,_,q,h1,h2=>by omega
 | k+1,i,e,h,q,h1,h2=>by
   rw[fZ] at h
   cases a:dZ (au.g i) with
   | false=>rw[a] at h;cases h
   | true=>
     rw[a] at h
     have ta:0≤au.g i∧au.g i≤100000:=by
      unfold dZ ib at a
      by_cases z:0≤au.g i
      · rw[decide_eq_true z,aj] at a;exact ⟨z,of_decide_eq_true a⟩
      · rw[decide_eq_false z] at a;cases a
     have tt:=tk i o!
     by_cases b:100000<cW j au ((i:Nat):Int)
     · rw[decide_eq_true b] at h;cases h
     · rw[decide_eq_false b] at h
       by_cases z:q=i
       · subst z
         unfold cW at b
         rw[Int.toNat_natCast,wrap_i64 o! o!] at b
         exact ⟨ta.1,by omega⟩
       · exact xQ tk hl k (i+1) o! h q o! h2
theorem H4 {j:cx} {au:List Int} (tk:∀i,i<j.ab.length→0≤(j.ab.g i).takes∧(j.ab.g i).takes≤100000) (hl:au.length=j.ab.length) (h:fZ au j au.length 0=none):∀i,i<au.length→0≤au.g i∧au.g i+(j.ab.g i).takes≤100000:=fun q hq=>xQ tk hl _ 0 o! h q (Nat.zero_le _) hq
def j4 (j:cx) (aP:Int) (au:List Int):Nat→Nat→Option (Bool)
 | 0,_=>none
 | IU+1,i2=>(bif (decide ((au.g aP.toNat)<(cW j au ((j.ab.g aP.toNat).aB.g i2)))) then some false else j4 j aP au IU (i2+1))
theorem zn {d:Nat} {h:aC} (aN:AV) (aP:Int) (j:cx) (cF:List Bool) (ir:List Int) (au:List Int) (kM:Nat) (n6:Nat) (BT:Nat) (Sq:Nat) (lq:b8 h .i64 3 aN au) (qe:aW h j.aw j.ab) (BU:aW h j.ao j.af) (xz:b8 h .i64 3 (j.ab.g aP.toNat).aU (j.ab.g aP.toNat).aB) (An:aR.ok h j) (L6:aR.ok h (j.ab.g aP.toNat)) (Pc:∀i,i<j.ab.length→∀q,q<(j.ab.g i).aB.length→0≤(j.ab.g i).aB.g q∧(j.ab.g i).aB.g q<(j.ab.length:Int)) (V3:∀r,r<j.af.length→(j.af.g r).off.length≤16∧∀q,q<(j.af.g r).off.length→0≤((j.af.g r).off.g q).bq∧((j.af.g r).off.g q).ba≤100000) (V4:∀i,i<j.ab.length→(j.ab.g i).aA.length=0) (V5:∀i,i<j.ab.length→0≤(j.ab.g i).takes∧(j.ab.g i).takes≤100000) (V6:au.length=j.ab.length) (V7:j.ab.length≤64) (ahX:j.af.length=0) (ahY:0≤aP) (ahZ:aP<(j.ab.length:Int)):∀(k_ i_:Nat) (_:i_+k_=((j.ab.g aP.toNat).aB.length)) (x:Nat→AV) (hh:aC) (aI:Tidy hh) (aE:Has h hh) (jR:hh.get kM=some (aM.cells [j.aw,j.ao] 25 false)) (qf:hh.get n6=some (aM.cells [j.aw,j.ao,(AV.slice BT 0 j.ab.length j.ab.length false),(AV.slice Sq 0 j.ab.length j.ab.length false),AV.aG] 78 false)) (uJ:hh.get BT=some (aM.cells (bs cF) 4 false)) (MD:hh.get Sq=some (aM.cells (zs .i64 ir) 3 false)),aF (cN (d+3)) MH ⟨((x 0)::aN::(Pt kM)::rx x 3 4 ((Pt n6)::(Zi aP)::rx x 9 25 (j.aw::(Zn j.ab.length)::(Zi aP)::rx x 37 5 (((j.ab.g aP.toNat).aU)::(Zn (j.ab.g aP.toNat).aB.length)::(Zn i_)::rx x 45 34 [])))),hh,[],.no⟩ (.exit 4) hh (fun y=>((y 0)::aN::(Pt kM)::rx y 3 4 ((Pt n6)::(Zi aP)::rx y 9 25 (j.aw::(Zn j.ab.length)::(Zi aP)::rx y 37 5 (((j.ab.g aP.toNat).aU)::(Zn (j.ab.g aP.toNat).aB.length)::rx y 44 35 []))))) (fun r y=>((y 0)::aN::(Pt kM)::(y 3)::(AV.bool r)::(y 5)::(y 6)::(Pt n6)::(Zi aP)::rx y 9 25 (j.aw::(Zn j.ab.length)::(Zi aP)::rx y 37 5 (((j.ab.g aP.toNat).aU)::(Zn (j.ab.g aP.toNat).aB.length)::rx y 44 35 [])))) (j4 j aP au k_ i_)
 | 0,i2,fX,x,hh,aI,aE,jR,qf,uJ,MD=>by
   have q1:(decide (((i2:Nat):Int)<(((j.ab.g aP.toNat).aB.length:Nat):Int)))=false:=d!
   exact aF.out rfl (pk (d+3) _ _ hh _ hh (VV (bL 3 false false .i64 ((i2:Nat):Int) (((j.ab.g aP.toNat).aB.length:Nat):Int))<|BB q1<|ZZ) k!) (bE.refl aI) k!
 | IU+1,i2,fX,x,hh,aI,aE,jR,qf,uJ,MD=>by
   have L7:=lq.small
   have L8:=qe.small
   have aaa:=BU.small
   have RX:=xz.small
   have adC:=aI _ _ jR
   have ag8:=aI _ _ qf
   have akk:=aI _ _ uJ
   have anx:=aI _ _ MD
   have kn_:=Pc aP.toNat o! i2
   have q1:(decide (((i2:Nat):Int)<(((j.ab.g aP.toNat).aB.length:Nat):Int)))=true:=d!
   obtain ⟨p3,q4,cC,_⟩:=(xz.has aE).elem (i:=i2) o!
   have iW:bO env (some (.slice 3)) (some (j.ab.g aP.toNat).aU) (some (Zn i2))=some (AV.ptr p3 q4):=cC
   have jY:bh env hh 3 (AV.ptr p3 q4)=some (Zi ((j.ab.g aP.toNat).aB.g i2)):=(xz.has aE).load o! cC
   obtain ⟨p7,q8,xE,_⟩:=(lq.has aE).elem (i:=aP.toNat) o!
   have Lr:bO env (some (.slice 3)) (some aN) (some (Zi aP))=some (AV.ptr p7 q8):=by rw[show (aP:Int)=((aP.toNat:Nat):Int) by omega];exact xE
   have I3:bh env hh 3 (AV.ptr p7 q8)=some (Zi (au.g aP.toNat)):=(lq.has aE).load o! xE
   have YU:=qn (d:=d+2) j au ((j.ab.g aP.toNat).aB.g i2) (aR.mono aE An) (lq.has aE) eX eX eX aI
   have c11:AV.same 20 (AV.agg [j.aw,j.ao]) (AV.agg [j.aw,j.ao])=true:=hT 18 (rH (qe.has aE).same (rH (BU.has aE).same P6))
   have ow:=fun {al ps} (k:Pk al _ ps)=>(VV (bL 3 false false .i64 ((i2:Nat):Int) (((j.ab.g aP.toNat).aB.length:Nat):Int))<|BV q1 iW<|MM jY<|CN 3<|VV Lr<|MM I3<|MM (aO 25 0 (AV.agg [j.aw,j.ao]) jR k!)<|CN 2<|EE YU<|VV (bL 3 false false .i64 (au.g aP.toNat) (cW j au ((j.ab.g aP.toNat).aB.g i2)))<|HH I3<|HH (show AV.same 20 (Zi (au.g aP.toNat)) (Zi (au.g aP.toNat))=true from aS 19 _ _)<|HH I3<|HH (show AV.same 20 (Zi (au.g aP.toNat)) (Zi (au.g aP.toNat))=true from aS 19 _ _)<|HH (aO 25 0 (AV.agg [j.aw,j.ao]) jR k!)<|HH c11<|k:Pk _ [] ps)
   rcases Bool.eq_false_or_eq_true (decide ((au.g aP.toNat)<(cW j au ((j.ab.g aP.toNat).aB.g i2)))) with f1 | f1
   · have fP:=of_decide_eq_true f1
     exact aF.ret false (by simp only[j4,f1,aj,ai]) (pk (d+3) _ _ hh _ hh (ow<|BC f1<|ZZ) k!) (bE.refl aI) k!
   · have fP:=of_decide_eq_false f1
     have Z':=fi 3 false true i2 1 o!
     exact aF.round (by simp only[j4,f1,aj,ai]) (pk (d+3) _ _ hh _ hh (ow<|BV f1 Z'<|CC<|ZZ) k!) (bE.refl aI) _ k! (fun x=>zn aN aP j cF ir au kM n6 BT Sq lq qe BU xz An L6 Pc V3 V4 V5 V6 V7 ahX ahY ahZ IU (i2+1) o! x hh aI aE jR qf uJ MD)
def gX (j:cx) (au:List Int):Nat→Int→List Bool→List Int→(List Bool×List Int)⊕(Bool)
 | 0,aP,cF,ir=>Sum.inl (cF,ir)
 | o8+1,aP,cF,ir=>(bif (decide (aP<((j.ab.length:Nat):Int))) then (match (j4 j aP au (j.ab.g aP.toNat).aB.length 0) with | none=>gX j au o8 (aP+1) (l9 j cF ir aP (au.g aP.toNat)).1 (l9 j cF ir aP (au.g aP.toNat)).2 | some Sr=>Sum.inr Sr) else Sum.inl (cF,ir))
theorem zo {d:Nat} {h:aC} (aN:AV) (j:cx) (au:List Int) (cU:Nat) (dt:Nat) (iJ:Nat) (iT:Nat) (eM:b8 h .i64 3 aN au) (eR:aW h j.aw j.ab) (ny:aW h j.ao j.af) (mZ:aR.ok h j) (pH:∀i,i<j.ab.length→∀q,q<(j.ab.g i).aB.length→0≤(j.ab.g i).aB.g q∧(j.ab.g i).aB.g q<(j.ab.length:Int)) (qP:∀r,r<j.af.length→(j.af.g r).off.length≤16∧∀q,q<(j.af.g r).off.length→0≤((j.af.g r).off.g q).bq∧((j.af.g r).off.g q).ba≤100000) (qQ:∀i,i<j.ab.length→(j.ab.g i).aA.length=0) (vG:∀i,i<j.ab.length→0≤(j.ab.g i).takes∧(j.ab.g i).takes≤100000) (EK:au.length=j.ab.length) (Hq:j.ab.length≤64) (Wj:j.af.length=0) (R':∀i,i<au.length→0≤au.g i∧au.g i+(j.ab.g i).takes≤100000) (ch:Tidy h) (Lu:h.nx≤cU) (Q9:h.nx≤dt) (ah0:h.nx≤iJ) (ah1:h.nx≤iT) (zT:dt≠cU) (Ss:iJ≠cU) (Su:iJ≠dt) (Sv:iT≠cU) (Sw:iT≠dt) (Sx:iT≠iJ):∀(k_:Nat) (aP:Int) (cF:List Bool) (ir:List Int) (_:((j.ab.length:Nat):Int) - aP≤(k_:Int)) (_:(((0:Int)≤1)∧(0≤aP))) (x:Nat→AV) (hh:aC) (aI:Tidy hh) (aE:Has h hh) (gC:h.nx≤hh.nx) (rI:cF.length=j.ab.length) (PQ:ir.length=j.ab.length) (cO:hh.get cU=some (aM.cells [j.aw,j.ao] 25 false)) (dA:hh.get dt=some (aM.cells [j.aw,j.ao,(AV.slice iJ 0 j.ab.length j.ab.length false),(AV.slice iT 0 j.ab.length j.ab.length false),AV.aG] 78 false)) (sj:hh.get iJ=some (aM.cells (bs cF) 4 false)) (sm:hh.get iT=some (aM.cells (zs .i64 ir) 3 false)),bS (σ:=List Bool×List Int) (ρ:=Bool) (cN (d+3)) MG ⟨((x 0)::aN::(Pt cU)::rx x 3 4 ((Pt dt)::rx x 8 26 (j.aw::(Zn j.ab.length)::(Zi aP)::rx x 37 42 []))),hh,[],.no⟩ (.exit 2) hh (fun r z y=>((y 0)::aN::(Pt cU)::rx y 3 4 ((Pt dt)::rx y 8 26 (j.aw::(Zn j.ab.length)::rx y 36 43 [])))) (fun r z y=>((y 0)::aN::(Pt cU)::(y 3)::(AV.bool r)::(y 5)::(y 6)::(Pt dt)::rx y 8 26 (j.aw::(Zn j.ab.length)::rx y 36 43 []))) (fun r z hk=>Has h hk∧hk.get cU=some (aM.cells [j.aw,j.ao] 25 false)∧hk.get dt=some (aM.cells [j.aw,j.ao,(AV.slice iJ 0 j.ab.length j.ab.length false),(AV.slice iT 0 j.ab.length j.ab.length false),AV.aG] 78 false)∧hk.get iJ=some (aM.cells (bs r.1) 4 false)∧hk.get iT=some (aM.cells (zs .i64 r.2) 3 false)∧r.1.length=j.ab.length∧r.2.length=j.ab.length∧((0:Int)≤1)) (fun r z hk=>Has h hk) (gX j au k_ aP cF ir)
 | 0,aP,cF,ir,fX,fG,x,hh,aI,aE,gC,rI,PQ,cO,dA,sj,sm=>by
   have q1:(decide (aP<((j.ab.length:Nat):Int)))=false:=d!
   exact bS.out (cF,ir) AV.undef rfl (pk (d+3) _ _ hh _ hh (VV (bL 3 false false .i64 aP ((j.ab.length:Nat):Int))<|BB q1<|ZZ) k!) aI o! ⟨aE,cO,dA,sj,sm,l!,l!,(show ((0:Int)≤1) from o!)⟩ k!
 | o8+1,aP,cF,ir,fX,fG,x,hh,aI,aE,gC,rI,PQ,cO,dA,sj,sm=>by
   have qR:=eM.small
   have r7:=eR.small
   have L_:=ny.small
   have Iz:=aI _ _ cO
   have Q_:=aI _ _ dA
   have akv:=aI _ _ sj
   have akw:=aI _ _ sm
   have ks_:=R' aP.toNat
   have kt_:=vG aP.toNat
   have y9:=fun {al ps} (k:Pk al _ ps)=>(VV (bL 3 false false .i64 aP ((j.ab.length:Nat):Int))<|k:Pk _ [] ps)
   rcases Bool.eq_false_or_eq_true (decide (aP<((j.ab.length:Nat):Int))) with f0 | f0
   · have jf:=of_decide_eq_true f0
     obtain ⟨p3,q4,cC⟩:=eR.elem (i:=aP.toNat) o!
     have iW:bO env (some (.slice 40)) (some j.aw) (some (Zi aP))=some (AV.ptr p3 q4):=by rw[show (aP:Int)=((aP.toNat:Nat):Int) by omega];exact cC
     have jY:bh env hh 40 (AV.ptr p3 q4)=some (AV.agg [(AV.str (j.ab.g aP.toNat).name),(Zi (j.ab.g aP.toNat).takes),(j.ab.g aP.toNat).aU,(j.ab.g aP.toNat).a_]):=(eR.has aE).load o! cC
     obtain ⟨h6,mK,ji,zU,mL,bU⟩:=jE aI (aM.cells [(AV.str []),(Zi 0),AV.aG,AV.aG] 40 false)
     have hZ:Has h h6:=aE.trans bU
     have Lx:AV.scalar (j.ab.g aP.toNat).aU=true:=((eR.ok (i:=aP.toNat) o!).2.1).scalar
     have Rl:AV.scalar (j.ab.g aP.toNat).a_=true:=((eR.ok (i:=aP.toNat) o!).2.2).scalar
     obtain ⟨h7,l7,eP,vH,fH,bp⟩:=n5 (t:=40) (n:=4) (i:=hh.nx) (L:=[(AV.str (j.ab.g aP.toNat).name),(Zi (j.ab.g aP.toNat).takes),(j.ab.g aP.toNat).aU,(j.ab.g aP.toNat).a_]) ji mL k! rfl rfl (by simp only[AV.cells,List.all_cons,List.all_nil,Bool.and_true,Bool.and_self,gr,eO,gu,gv,dG,jK,jL,jM,jN,jO,gz,Lx,Rl])
     have dm:Has h h7:=Has.dg hZ bp ch o!
     have tg:cb (some (.slice 3)) (some (j.ab.g aP.toNat).aU)=some (Zn (j.ab.g aP.toNat).aB.length):=((eR.ok (i:=aP.toNat) o!).2.1).len
     have AL:=fun {al ps} (k:Pk al _ ps)=>(y9<|BC f0<|VV iW<|MM jY<|NN mK (fun i=>(Pt i))<|CC<|SS l7<|CC<|MM (aO 26 2 (j.ab.g aP.toNat).aU fH k!)<|VV tg<|CC<|k:Pk _ [] ps)
     have lp6:=zn (d:=d) (h:=h) aN aP j cF ir au cU dt iJ iT eM eR ny (eR.ok (i:=aP.toNat) o!).2.1 mZ (eR.ok (i:=aP.toNat) o!) (by assumption) (by assumption) (by assumption) (by assumption) o! o! o! o! o! (j.ab.g aP.toNat).aB.length 0 o! (fun k_=>(((x 0)::aN::(Pt cU)::rx x 3 4 ((Pt dt)::(Zi aP)::(Pt hh.nx)::rx x 10 24 (j.aw::(Zn j.ab.length)::(Zi aP)::(AV.bool (decide (aP<((j.ab.length:Nat):Int))))::(Zi aP)::(AV.ptr p3 q4)::(AV.agg [(AV.str (j.ab.g aP.toNat).name),(Zi (j.ab.g aP.toNat).takes),(j.ab.g aP.toNat).aU,(j.ab.g aP.toNat).a_])::(AV.ptr hh.nx 2)::((j.ab.g aP.toNat).aU)::(Zn (j.ab.g aP.toNat).aB.length)::(Zi 0)::rx x 45 34 []))):List AV).getD k_ AV.undef) h7 eP dm (bp _ _ o! (bU _ _ cO)) (bp _ _ o! (bU _ _ dA)) (bp _ _ o! (bU _ _ sj)) (bp _ _ o! (bU _ _ sm))
     cases qj:j4 j aP au (j.ab.g aP.toNat).aB.length 0 with
     | none=>
       obtain ⟨iK,kV,nM,ct⟩:=aF.n qj lp6
       have jk:=ct.y
       have GX:h7.nx≤kV.nx:=ct.n
       have fJ:Has h kV:=dm.trans ct.a
       obtain ⟨Z_,V2,xr,_⟩:=eM.elem (i:=aP.toNat) o!
       have RN:bO env (some (.slice 3)) (some aN) (some (Zi aP))=some (AV.ptr Z_ V2):=by rw[show (aP:Int)=((aP.toNat:Nat):Int) by omega];exact xr
       have EM:bh env kV 3 (AV.ptr Z_ V2)=some (Zi (au.g aP.toNat)):=(eM.has fJ).load o! xr
       obtain ⟨OD,GQ,TO,E6,Br,ik⟩:=dz jk (ct.a _ _ (bp _ _ o! (bU _ _ sj)))
       have Sy:Has h OD:=bG fJ (by first | assumption | exact ij ch o!) ik
       obtain ⟨I_,Aw,MA,uW,uX,im⟩:=dz GQ ((ik _ o!).trans (ct.a _ _ (bp _ _ o! (bU _ _ sm))))
       have Du:I_.get iJ=none:=(im _ o!).trans E6
       have xP:Has h I_:=bG Sy (by first | assumption | exact ij ch o!) im
       obtain ⟨C3,akO,sS,ae5,SC,aea,alw,aeb,alx⟩:=Pu (d:=d) (h:=I_) (pqN:=j.ab.length) (sqN:=j.ab.length) j cF ir aP (au.g aP.toNat) (aR.mono xP mZ) (ct.a _ _ (bp _ _ o! (bU _ _ sj))) l! Du (ct.a _ _ (bp _ _ o! (bU _ _ sm))) l! uW eX eX eX eX eX o! Aw jk (uX.trans Br) o!
       have nu:Has h C3:=(xP.trans SC)
       have c20:AV.same 20 (AV.agg [j.aw,j.ao,(AV.slice iJ 0 j.ab.length j.ab.length false),(AV.slice iT 0 j.ab.length j.ab.length false),AV.aG]) (AV.agg [j.aw,j.ao,(AV.slice iJ 0 j.ab.length j.ab.length false),(AV.slice iT 0 j.ab.length j.ab.length false),AV.aG])=true:=hT 18 (rH eR.same (rH ny.same (rH (fun n=>by simp [AV.same]) (rH (fun n=>by simp [AV.same]) (rH (fun n=>by simp [AV.same]) P6)))))
       have w21:IntKind.i64.wrap (aP+1)=aP+1:=wrap_i64 o! o!
       exact bS.round (by simp only[gX,f0,qj,aj,ai]) (pk (d+3) _ _ hh _ C3 (AL<|LL nM<|MM (aO 78 0 (AV.agg [j.aw,j.ao,(AV.slice iJ 0 j.ab.length j.ab.length false),(AV.slice iT 0 j.ab.length j.ab.length false),AV.aG]) (ct.a _ _ (bp _ _ o! (bU _ _ dA))) k!)<|CN 3<|VV RN<|MM EM<|EE akO<|HH (aO 78 0 (AV.agg [j.aw,j.ao,(AV.slice iJ 0 j.ab.length j.ab.length false),(AV.slice iT 0 j.ab.length j.ab.length false),AV.aG]) (ct.a _ _ (bp _ _ o! (bU _ _ dA))) k!)<|HH c20<|HH EM<|HH (show AV.same 20 (Zi (au.g aP.toNat)) (Zi (au.g aP.toNat))=true from aS 19 _ _)<|VV (qG 3 false true w21)<|CC<|ZZ) k!) o! _ k! (fun x=>zo aN j au cU dt iJ iT eM eR ny mZ pH qP qQ vG EK Hq Wj R' ch Lu Q9 ah0 ah1 zT Ss Su Sv Sw Sx o8 (aP+1) (l9 j cF ir aP (au.g aP.toNat)).1 (l9 j cF ir aP (au.g aP.toNat)).2 o! (show (((0:Int)≤1)∧(0≤(aP+1))) from o!) x C3 sS nu o! l! l! (SC _ _ ((im _ o!).trans ((ik _ o!).trans (ct.a _ _ (bp _ _ o! (bU _ _ cO)))))) (SC _ _ ((im _ o!).trans ((ik _ o!).trans (ct.a _ _ (bp _ _ o! (bU _ _ dA)))))) aea aeb)
     | some Sr=>
       obtain ⟨iK,kV,nM,ct⟩:=aF.r qj lp6
       have jk:=ct.y
       have GX:h7.nx≤kV.nx:=ct.n
       have fJ:Has h kV:=dm.trans ct.a
       exact bS.ret Sr AV.undef (by simp only[gX,f0,qj,aj,ai]) (pk (d+3) _ _ hh _ kV (AL<|LL nM<|ZZ) k!) jk o! fJ k!
   · exact bS.out (cF,ir) AV.undef (by simp only[gX,f0,aj,ai]) (pk (d+3) _ _ hh _ hh (y9<|BB f0<|ZZ) k!) aI o! ⟨aE,cO,dA,sj,sm,l!,l!,(show ((0:Int)≤1) from o!)⟩ k!
def mu (j:cx) (au:List Int):Bool:=(match (fZ au j au.length 0) with | none=>(match (gX j au (((j.ab.length:Nat):Int) - 0).toNat 0 (aK j).2.1 (aK j).2.2) with | Sum.inl su=>true | Sum.inr SA=>SA) | some rr3=>rr3)
theorem SD {d:Nat} {h:aC} {aN:AV} (j:cx) (au:List Int) (bV:aR.ok h j) (cL:b8 h .i64 3 aN au) (l6:∀i,i<j.ab.length→∀q,q<(j.ab.g i).aB.length→0≤(j.ab.g i).aB.g q∧(j.ab.g i).aB.g q<(j.ab.length:Int)) (om:∀r,r<j.af.length→(j.af.g r).off.length≤16∧∀q,q<(j.af.g r).off.length→0≤((j.af.g r).off.g q).bq∧((j.af.g r).off.g q).ba≤100000) (yD:∀i,i<j.ab.length→(j.ab.g i).aA.length=0) (zR:∀i,i<j.ab.length→0≤(j.ab.g i).takes∧(j.ab.g i).takes≤100000) (Ex:au.length=j.ab.length) (Ri:j.ab.length≤64) (pre6:j.af.length=0) (ch:Tidy h):cN (d+4) (.fn 23) [(AV.agg [j.aw,j.ao]),aN] h= .ret (AV.bool (mu j au)) h:=by
 have Ay:=cL.small
 have kb:=bV.1.small
 have kf:=bV.2.small
 obtain ⟨h1,di,cS,jU,bm,bP⟩:=jE ch (aM.cells [j.aw,j.ao] 25 false)
 have bA:Has h h1:=bP
 have EC:cb (some (.slice 3)) (some aN)=some (Zn au.length):=cL.len
 have lp7:=zm (d:=d) (h:=h) aN au j h.nx cL bV.1 bV.2 bV (by assumption) (by assumption) (by assumption) (by assumption) o! o! o! au.length 0 o! (fun k_=>(((AV.agg [j.aw,j.ao])::aN::(Pt h.nx)::AV.undef::(AV.bool false)::AV.undef::AV.undef::AV.undef::AV.undef::AV.undef::AV.undef::AV.undef::AV.undef::aN::(Zn au.length)::(Zi 0)::jX 63):List AV).getD k_ AV.undef) h1 cS bA bm
 cases ly:fZ au j au.length 0 with
 | none=>
   obtain ⟨MV,h4,kK,f_⟩:=aF.n ly lp7
   have lI:=f_.y
   have ZP:h1.nx≤h4.nx:=f_.n
   have jC:Has h h4:=bA.trans f_.a
   obtain ⟨pb5,sb6,zb7,gb8,m4,UH,rP,HY,HZ,SB,ah7,ah8,ah9,aia,aib,aic,aid,aie⟩:=p_ (d:=d) j (aR.mono jC bV) eX eX eX lI
   have mj:=rP.y
   have ZO:h4.nx≤m4.nx:=rP.n
   have aif:=oK j (by assumption)
   obtain rfl:=nv.ajA SB o!
   have wN:Has h m4:=jC.trans rP.a
   have H0:Has h4 m4:=rP.a
   have akM:=mj _ _ HY
   have akN:=mj _ _ HZ
   obtain ⟨kV,J7,jk,aad,BW,eB⟩:=jE mj (aM.cells [AV.aG,AV.aG,AV.aG,AV.aG,AV.aG] 78 false)
   have fJ:Has h kV:=wN.trans eB
   have H2:Has h4 kV:=H0.trans eB
   have Dv:Has m4 kV:=eB
   have aae:AV.scalar j.aw=true:=bV.1.scalar
   have aih:AV.scalar j.ao=true:=bV.2.scalar
   obtain ⟨lR,vl,iQ,OJ,ra,c9⟩:=n5 (t:=78) (n:=5) (i:=m4.nx) (L:=[j.aw,j.ao,(AV.slice pb5 0 j.ab.length j.ab.length false),(AV.slice sb6 0 j.ab.length j.ab.length false),AV.aG]) jk BW k! rfl rfl (by simp only[AV.cells,List.all_cons,List.all_nil,Bool.and_true,Bool.and_self,gr,eO,gu,gv,dG,jK,jL,jM,jN,jO,gz,aae,aih])
   have jl:Has h lR:=Has.dg fJ c9 ch o!
   have abj:Has h4 lR:=Has.dg H2 c9 lI o!
   have Wy:Has m4 lR:=Has.dg Dv c9 mj o!
   have ad5:cb (some (.slice 40)) (some j.aw)=some (Zn j.ab.length):=bV.1.len
   have lp8:=zo (d:=d) (h:=h) aN j au h.nx m4.nx pb5 sb6 cL bV.1 bV.2 bV (by assumption) (by assumption) (by assumption) (by assumption) o! o! o! (H4 (by assumption) (by assumption) (by assumption)) ch o! o! o! o! o! o! o! o! o! o! (((j.ab.length:Nat):Int) - 0).toNat 0 (aK j).2.1 (aK j).2.2 o! (show (((0:Int)≤1)∧(0≤0)) from o!) (fun k_=>(((MV 0)::aN::(Pt h.nx)::rx MV 3 4 ((Pt m4.nx)::rx MV 8 5 (aN::(Zn au.length)::rx MV 15 16 ((AV.agg [j.aw,j.ao])::(AV.agg [j.aw,j.ao,(AV.slice pb5 0 j.ab.length j.ab.length false),(AV.slice sb6 0 j.ab.length j.ab.length false),AV.aG])::(Pt h.nx)::j.aw::(Zn j.ab.length)::(Zi 0)::rx MV 37 42 [])))):List AV).getD k_ AV.undef) lR iQ jl o! l! l! (c9 _ _ o! (eB _ _ (rP.a _ _ (f_.a _ _ bm)))) ra (c9 _ _ o! (eB _ _ HY)) (c9 _ _ o! (eB _ _ HZ))
   cases oQ:gX j au (((j.ab.length:Nat):Int) - 0).toNat 0 (aK j).2.1 (aK j).2.2 with
   | inl su=>
     obtain ⟨aii,l_,PS,uZ,UI,abk,Az,ad6,Fs,UJ,UK,ad8,ad9,abl⟩:=bS.n oQ lp8
     have Cj:Has h PS:=Az
     have anH:Ev env (cN (d+3)) va ⟨((l_ 0)::aN::(Pt h.nx)::rx l_ 3 4 ((Pt m4.nx)::rx l_ 8 26 (j.aw::(Zn j.ab.length)::rx l_ 36 30 ((AV.ptr m4.nx 4)::AV.aG::(Zi 0)::(Zi 0)::rx l_ 70 9 [])))),PS,[],.no⟩ (.exit 6) ⟨((l_ 0)::aN::(Pt h.nx)::rx l_ 3 4 ((Pt m4.nx)::rx l_ 8 26 (j.aw::(Zn j.ab.length)::rx l_ 36 30 ((AV.ptr m4.nx 4)::AV.aG::(Zi 0)::(Zi 0)::(AV.bool false)::rx l_ 71 8 [])))),PS,[],.no⟩:=Ev.to (pk (d+3) va ((l_ 0)::aN::(Pt h.nx)::rx l_ 3 4 ((Pt m4.nx)::rx l_ 8 26 (j.aw::(Zn j.ab.length)::rx l_ 36 30 ((AV.ptr m4.nx 4)::AV.aG::(Zi 0)::(Zi 0)::rx l_ 70 9 [])))) PS (.exit 6) PS (CC<|FF<|ZZ) k!) k!
     have e:mu j au=true:=by simp only[mu,ly,oQ,aj,ai]
     rw[e]
     exact aH rfl (bb Tryz.func23 AB rfl (.inr rfl) (pk (d+3) _ _ h _ PS (NN di (fun i=>(Pt i))<|CN 2<|VV EC<|CC<|LL kK<|MM (aO 25 0 (AV.agg [j.aw,j.ao]) (f_.a _ _ bm) k!)<|EE UH<|NN J7 (fun i=>(Pt i))<|SS vl<|CC<|MM (aO 22 0 j.aw (c9 _ _ o! (eB _ _ (rP.a _ _ (f_.a _ _ bm)))) k!)<|VV ad5<|CC<|LL uZ<|CC<|MM (aO 76 4 AV.aG Fs k!)<|CN 2<|LL (show Ev env (cN (d+3)) (.loop va) ⟨((l_ 0)::aN::(Pt h.nx)::rx l_ 3 4 ((Pt m4.nx)::rx l_ 8 26 (j.aw::(Zn j.ab.length)::rx l_ 36 30 ((AV.ptr m4.nx 4)::AV.aG::(Zi 0)::(Zi 0)::rx l_ 70 9 [])))),PS,[],.no⟩ (.exit 6) ⟨((l_ 0)::aN::(Pt h.nx)::rx l_ 3 4 ((Pt m4.nx)::rx l_ 8 26 (j.aw::(Zn j.ab.length)::rx l_ 36 30 ((AV.ptr m4.nx 4)::AV.aG::(Zi 0)::(Zi 0)::(AV.bool false)::rx l_ 71 8 [])))),PS,[],.no⟩ from (Ev.out anH))<|CC<|ZZ) k!) k!) Cj rfl
   | inr SA=>
     obtain ⟨aii,l_,PS,uZ,UI,abk,Az⟩:=bS.r oQ lp8
     have Cj:Has h PS:=Az
     have e:mu j au=SA:=by simp only[mu,ly,oQ,aj,ai]
     rw[e]
     exact aH rfl (bb Tryz.func23 AB rfl (.inr rfl) (pk (d+3) _ _ h _ PS (NN di (fun i=>(Pt i))<|CN 2<|VV EC<|CC<|LL kK<|MM (aO 25 0 (AV.agg [j.aw,j.ao]) (f_.a _ _ bm) k!)<|EE UH<|NN J7 (fun i=>(Pt i))<|SS vl<|CC<|MM (aO 22 0 j.aw (c9 _ _ o! (eB _ _ (rP.a _ _ (f_.a _ _ bm)))) k!)<|VV ad5<|CC<|LL uZ<|ZZ) k!) k!) Cj rfl
 | some rr3=>
   obtain ⟨MV,h4,kK,f_⟩:=aF.r ly lp7
   have lI:=f_.y
   have jC:Has h h4:=bA.trans f_.a
   have e:mu j au=rr3:=by simp only[mu,ly,aj,ai]
   rw[e]
   exact aH rfl (bb Tryz.func23 AB rfl (.inr rfl) (pk (d+3) _ _ h _ h4 (NN di (fun i=>(Pt i))<|CN 2<|VV EC<|CC<|LL kK<|ZZ) k!) k!) jC rfl
def pw (j:cx) (au:List Int):Bool:=bif decide (0<j.af.length) then mD j au else mu j au
theorem SE {d:Nat} {h:aC} {aN:AV} (j:cx) (au:List Int) (bV:aR.ok h j) (cL:b8 h .i64 3 aN au) (F:b5 j) (hl:au.length=j.ab.length) (ch:Tidy h):cN (d+4) (.fn 23) [(AV.agg [j.aw,j.ao]),aN] h= .ret (AV.bool (pw j au)) h:=by
 rw[pw]
 by_cases r:0<j.af.length
 · rw[decide_eq_true r,aj];exact Wx j au bV cL F.nb F.ro F.ur F.ud F.tk hl F.nt F.nr r ch
 · rw[decide_eq_false r,ai]
   have r0:j.af.length=0:=by omega
   refine SD j au bV cL F.nb F.ro (fun i hi=>?_) F.tk hl F.nt r0 ch
   rcases Nat.eq_zero_or_pos (j.ab.g i).aA.length with e | e
   · exact e
   · have:=F.ur i hi 0 e;omega
theorem oD {p:Prop} (h:p:=by first | omega | assumption | exact NB _ o! | exact UB _ o! | exact l6 _ o! | exact om _ o! | (simp only[List.length_set,List.length_replicate]<;>omega)):p:=h
def vb:Code:=(Tryz.f21.body).getD .skip
theorem Ki:Tryz.f21.body=some vb:=by kernel_rfl
def PT:Code:=(bw vb).getD 0 .skip
def PU:Code:=(bw vb).getD 1 .skip
def kp (j:cx):Nat→Nat→List Bool→List Bool
 | 0,_,bj=>bj
 | dq+1,i0,bj=>kp j dq (i0+1) (bj.set i0 true)
theorem Ck {d:Nat} {h:aC} (aN:AV) (j:cx) (au:List Int) (bk:Nat) (cG:Nat) (bx:b8 h .i64 3 aN au) (cZ:aW h j.aw j.ab) (fj:aW h j.ao j.af) (g5:aR.ok h j) (hF:∀i,i<j.ab.length→∀q,q<(j.ab.g i).aB.length→0≤(j.ab.g i).aB.g q∧(j.ab.g i).aB.g q<(j.ab.length:Int)) (je:∀i,i<j.ab.length→∀q,q<(j.ab.g i).aA.length→0≤((j.ab.g i).aA.g q).ah∧((j.ab.g i).aA.g q).ah<(j.af.length:Int)) (mI:au.length=j.ab.length) (nq:j.ab.length≤100000) (ch:Tidy h) (uo:h.nx≤bk) (GK:h.nx≤cG) (qS:cG≠bk):∀(k_ i_:Nat) (bj:List Bool) (_:i_+k_=j.ab.length) (x:Nat→AV) (hh:aC) (aI:Tidy hh) (aE:Has h hh) (gC:h.nx≤hh.nx) (jh:bj.length=j.ab.length) (br:hh.get bk=some (aM.cells [j.aw,j.ao] 25 false)) (dK:hh.get cG=some (aM.cells (bs bj) 4 false)),bS (σ:=List Bool) (ρ:=Unit) (cN (d+3)) PT ⟨((x 0)::aN::(Pt bk)::(x 3)::(x 4)::(AV.slice cG 0 j.ab.length j.ab.length false)::(Zn i_)::rx x 7 38 []),hh,[],.no⟩ (.exit 0) hh (fun r z y=>((y 0)::aN::(Pt bk)::(y 3)::(y 4)::(AV.slice cG 0 j.ab.length j.ab.length false)::rx y 6 39 [])) (fun r z y=>((y 0)::aN::(Pt bk)::(y 3)::(y 4)::(AV.slice cG 0 j.ab.length j.ab.length false)::rx y 6 39 [])) (fun r z hk=>Has h hk∧hk.get bk=some (aM.cells [j.aw,j.ao] 25 false)∧hk.get cG=some (aM.cells (bs r) 4 false)∧r.length=j.ab.length) (fun r z hk=>Has h hk) (Sum.inl (kp j k_ i_ bj))
 | 0,i0,bj,fX,x,hh,aI,aE,gC,jh,br,dK=>by
   have iC:cb (some (.slice 40)) (some j.aw)=some (Zn j.ab.length):=cZ.len
   have q2:(decide (((i0:Nat):Int)<((j.ab.length:Nat):Int)))=false:=d!
   exact bS.out bj AV.undef rfl (pk (d+3) _ _ hh _ hh (CN 2<|MM (aO 22 0 j.aw br k!)<|VV iC<|VV (bL 3 false false .i64 ((i0:Nat):Int) ((j.ab.length:Nat):Int))<|BB q2<|ZZ) k!) aI o! ⟨aE,br,dK,l!⟩ k!
 | dq+1,i0,bj,fX,x,hh,aI,aE,gC,jh,br,dK=>by
   have gT:=bx.small
   have nz:=cZ.small
   have uw:=fj.small
   have sU:=aI _ _ br
   have Lw:=aI _ _ dK
   have iC:cb (some (.slice 40)) (some j.aw)=some (Zn j.ab.length):=cZ.len
   have q2:(decide (((i0:Nat):Int)<((j.ab.length:Nat):Int)))=true:=d!
   have wJ:bO env (some (.slice 4)) (some (AV.slice cG 0 j.ab.length j.ab.length false)) (some (Zn i0))=some (AV.ptr cG i0):=jc k! (show i0<j.ab.length by omega) o!
   obtain ⟨h4,SF⟩:∃G4:aC,G4=hh.put cG (some (aM.cells (bs (bj.set i0 true)) 4 false)):=⟨_,rfl⟩
   have aik:dV env hh 4 (AV.ptr cG i0) (AV.bool true)=some h4:=by rw[SF];exact o6 k! dK l!
   have Dw:Iv hh h4 cG (aM.cells (bs (bj.set i0 true)) 4 false):=by rw[SF];exact jD aI dK
   have lI:=Dw.1
   have VP:h4.nx=hh.nx:=by rw[SF];rfl
   have jC:Has h h4:=Dw.has aE ch o!
   have u5:=fi 3 false true i0 1 o!
   exact bS.round (congrArg Sum.inl (by simp only[kp,aj,ai])) (pk (d+3) _ _ hh _ h4 (CN 2<|MM (aO 22 0 j.aw br k!)<|VV iC<|VV (bL 3 false false .i64 ((i0:Nat):Int) ((j.ab.length:Nat):Int))<|BB q2<|CN 2<|VV wJ<|SS aik<|CC<|VV u5<|CC<|ZZ) k!) o! _ k! (fun x=>Ck aN j au bk cG bx cZ fj g5 hF je mI nq ch uo GK qS dq (i0+1) (bj.set i0 true) o! x h4 lI jC o! l! (Dw.2.2 _ _ o! br) Dw.2.1)
def lA (j:cx) (au:List Int):Nat→Nat→List Bool→(List Bool)⊕(Bool)
 | 0,_,cF=>Sum.inl cF
 | o8+1,i1,cF=>(bif (!(gF j au (cF.set i1 false) ((i1:Nat):Int) (au.g i1))) then Sum.inr false else lA j au o8 (i1+1) ((cF.set i1 false).set i1 true))
theorem Cm {d:Nat} {h:aC} (aN:AV) (j:cx) (au:List Int) (cU:Nat) (dt:Nat) (eM:b8 h .i64 3 aN au) (eR:aW h j.aw j.ab) (ny:aW h j.ao j.af) (mZ:aR.ok h j) (pH:∀i,i<j.ab.length→∀q,q<(j.ab.g i).aB.length→0≤(j.ab.g i).aB.g q∧(j.ab.g i).aB.g q<(j.ab.length:Int)) (qP:∀i,i<j.ab.length→∀q,q<(j.ab.g i).aA.length→0≤((j.ab.g i).aA.g q).ah∧((j.ab.g i).aA.g q).ah<(j.af.length:Int)) (qQ:au.length=j.ab.length) (vG:j.ab.length≤100000) (ch:Tidy h) (Lu:h.nx≤cU) (Q9:h.nx≤dt) (zT:dt≠cU):∀(k_ i_:Nat) (cF:List Bool) (_:i_+k_=j.ab.length) (x:Nat→AV) (hh:aC) (aI:Tidy hh) (aE:Has h hh) (gC:h.nx≤hh.nx) (rI:cF.length=j.ab.length) (cO:hh.get cU=some (aM.cells [j.aw,j.ao] 25 false)) (dA:hh.get dt=some (aM.cells (bs cF) 4 false)),bS (σ:=List Bool) (ρ:=Bool) (cN (d+3)) PU ⟨((x 0)::aN::(Pt cU)::(x 3)::(x 4)::(AV.slice dt 0 j.ab.length j.ab.length false)::(x 6)::(Zn i_)::rx x 8 37 []),hh,[],.no⟩ (.exit 2) hh (fun r z y=>((y 0)::aN::(Pt cU)::(y 3)::(y 4)::(AV.slice dt 0 j.ab.length j.ab.length false)::rx y 6 39 [])) (fun r z y=>((y 0)::aN::(Pt cU)::(y 3)::(AV.bool r)::(AV.slice dt 0 j.ab.length j.ab.length false)::rx y 6 39 [])) (fun r z hk=>Has h hk∧hk.get cU=some (aM.cells [j.aw,j.ao] 25 false)∧hk.get dt=some (aM.cells (bs r) 4 false)∧r.length=j.ab.length) (fun r z hk=>Has h hk) (lA j au k_ i_ cF)
 | 0,i1,cF,fX,x,hh,aI,aE,gC,rI,cO,dA=>by
   have iC:cb (some (.slice 40)) (some j.aw)=some (Zn j.ab.length):=eR.len
   have q2:(decide (((i1:Nat):Int)<((j.ab.length:Nat):Int)))=false:=d!
   exact bS.out cF AV.undef rfl (pk (d+3) _ _ hh _ hh (CN 2<|MM (aO 22 0 j.aw cO k!)<|VV iC<|VV (bL 3 false false .i64 ((i1:Nat):Int) ((j.ab.length:Nat):Int))<|BB q2<|ZZ) k!) aI o! ⟨aE,cO,dA,l!⟩ k!
 | o8+1,i1,cF,fX,x,hh,aI,aE,gC,rI,cO,dA=>by
   have qR:=eM.small
   have r7:=eR.small
   have L_:=ny.small
   have Iz:=aI _ _ cO
   have Q_:=aI _ _ dA
   have NB:=pH
   have UB:=qP
   have iC:cb (some (.slice 40)) (some j.aw)=some (Zn j.ab.length):=eR.len
   have q2:(decide (((i1:Nat):Int)<((j.ab.length:Nat):Int)))=true:=d!
   have wJ:bO env (some (.slice 4)) (some (AV.slice dt 0 j.ab.length j.ab.length false)) (some (Zn i1))=some (AV.ptr dt i1):=jc k! (show i1<j.ab.length by omega) o!
   obtain ⟨h4,SF⟩:∃G4:aC,G4=hh.put dt (some (aM.cells (bs (cF.set i1 false)) 4 false)):=⟨_,rfl⟩
   have aik:dV env hh 4 (AV.ptr dt i1) (AV.bool false)=some h4:=by rw[SF];exact o6 k! dA l!
   have Dw:Iv hh h4 dt (aM.cells (bs (cF.set i1 false)) 4 false):=by rw[SF];exact jD aI dA
   have lI:=Dw.1
   have VP:h4.nx=hh.nx:=by rw[SF];rfl
   have jC:Has h h4:=Dw.has aE ch o!
   obtain ⟨p6,q7,Z3,_⟩:=eM.elem (i:=i1) o!
   have ix5:bO env (some (.slice 3)) (some aN) (some (Zn i1))=some (AV.ptr p6 q7):=Z3
   have ld8:bh env h4 3 (AV.ptr p6 q7)=some (Zi (au.g i1)):=(eM.has jC).load o! Z3
   have k9:=aag (d:=d) j au (cF.set i1 false) ((i1:Nat):Int) (au.g i1) (aR.mono jC mZ) (eM.has jC) (oh.own (op:=false) (n:=j.ab.length) k! k! Dw.2.1 l! o!) oD oD oD oD oD oD lI
   have W8:AV.same 20 (AV.agg [j.aw,j.ao]) (AV.agg [j.aw,j.ao])=true:=hT 18 (rH eR.same (rH ny.same P6))
   have dJ:=fun {al ps} (k:Pk al _ ps)=>(CN 2<|MM (aO 22 0 j.aw cO k!)<|VV iC<|VV (bL 3 false false .i64 ((i1:Nat):Int) ((j.ab.length:Nat):Int))<|BB q2<|CN 2<|VV wJ<|SS aik<|MM (aO 25 0 (AV.agg [j.aw,j.ao]) (Dw.2.2 _ _ o! cO) k!)<|CN 5<|VV ix5<|MM ld8<|EE k9<|CC<|HH (aO 25 0 (AV.agg [j.aw,j.ao]) (Dw.2.2 _ _ o! cO) k!)<|HH W8<|HH ld8<|HH (show AV.same 20 (Zi (au.g i1)) (Zi (au.g i1))=true from aS 19 _ _)<|k:Pk _ [] ps)
   rcases Bool.eq_false_or_eq_true (!(gF j au (cF.set i1 false) ((i1:Nat):Int) (au.g i1))) with f1 | f1
   · exact bS.ret false AV.undef (by simp only[lA,f1,aj,ai]) (pk (d+3) _ _ hh _ h4 (dJ<|BC f1<|ZZ) k!) lI o! jC k!
   · have Rm:bO env (some (.slice 4)) (some (AV.slice dt 0 j.ab.length j.ab.length false)) (some (Zn i1))=some (AV.ptr dt i1):=jc k! (show i1<j.ab.length by omega) o!
     obtain ⟨lR,w7⟩:∃G4:aC,G4=h4.put dt (some (aM.cells (bs ((cF.set i1 false).set i1 true)) 4 false)):=⟨_,rfl⟩
     have vl:dV env h4 4 (AV.ptr dt i1) (AV.bool true)=some lR:=by rw[w7];exact o6 k! Dw.2.1 l!
     have ml:Iv h4 lR dt (aM.cells (bs ((cF.set i1 false).set i1 true)) 4 false):=by rw[w7];exact jD lI Dw.2.1
     have iQ:=ml.1
     have OJ:lR.nx=h4.nx:=by rw[w7];rfl
     have jl:Has h lR:=ml.has jC ch o!
     have u14:=fi 3 false true i1 1 o!
     exact bS.round (by simp only[lA,f1,aj,ai]) (pk (d+3) _ _ hh _ lR (dJ<|BB f1<|CN 2<|VV Rm<|SS vl<|CC<|VV u14<|CC<|ZZ) k!) o! _ k! (fun x=>Cm aN j au cU dt eM eR ny mZ pH qP qQ vG ch Lu Q9 zT o8 (i1+1) ((cF.set i1 false).set i1 true) o! x lR iQ jl o! l! (ml.2.2 _ _ o! (Dw.2.2 _ _ o! cO)) ml.2.1)
def oR (j:cx) (au:List Int):Bool:=(match (lA j au j.ab.length 0 (kp j j.ab.length 0 (List.replicate j.ab.length false))) with | Sum.inl rv8=>true | Sum.inr rr8=>rr8)
theorem Wz {d:Nat} {h:aC} {aN:AV} (j:cx) (au:List Int) (bV:aR.ok h j) (cL:b8 h .i64 3 aN au) (l6:∀i,i<j.ab.length→∀q,q<(j.ab.g i).aB.length→0≤(j.ab.g i).aB.g q∧(j.ab.g i).aB.g q<(j.ab.length:Int)) (om:∀i,i<j.ab.length→∀q,q<(j.ab.g i).aA.length→0≤((j.ab.g i).aA.g q).ah∧((j.ab.g i).aA.g q).ah<(j.af.length:Int)) (yD:au.length=j.ab.length) (zR:j.ab.length≤100000) (ch:Tidy h):cN (d+4) (.fn 21) [(AV.agg [j.aw,j.ao]),aN] h= .ret (AV.bool (oR j au)) h:=by
 obtain ⟨h1,di,cS,jU,bm,bP⟩:=jE ch (aM.cells [j.aw,j.ao] 25 false)
 have bA:Has h h1:=bP
 have EC:cb (some (.slice 40)) (some j.aw)=some (Zn j.ab.length):=bV.1.len
 have mk3:yV env (some (.slice 4)) (some (Zn j.ab.length)) (some (Zn j.ab.length))=some (aM.cells (bT [(AV.bool false)] j.ab.length) 4 false,fun i=>AV.slice i 0 j.ab.length j.ab.length false):=od (bytes:=1) (z:=(AV.bool false)) k! k! k! rfl (by decide) o!
 obtain ⟨h4,IB,lI,VP,LF,xb⟩:=jE cS (aM.cells (bT [(AV.bool false)] j.ab.length) 4 false)
 have jC:Has h h4:=bA.trans xb
 have O8:h4.get h1.nx=some (aM.cells (bs (List.replicate j.ab.length false)) 4 false):=by have q:=LF;rw[zO] at q;exact q
 obtain ⟨zo7,VY,h6,sh,ji,agU,O1,ZR,ail,agV⟩:=bS.n rfl (Ck (d:=d) (h:=h) aN j au h.nx h1.nx cL bV.1 bV.2 bV l6 om o! o! ch o! o! o! j.ab.length 0 (List.replicate j.ab.length false) o! (fun k_=>(((AV.agg [j.aw,j.ao])::aN::(Pt h.nx)::AV.undef::(AV.bool false)::(AV.slice h1.nx 0 j.ab.length j.ab.length false)::(Zi 0)::AV.undef::(Pt h.nx)::j.aw::(Zn j.ab.length)::(AV.slice h1.nx 0 j.ab.length j.ab.length false)::jX 33):List AV).getD k_ AV.undef) h4 lI jC o! l! (xb _ _ bm) O8)
 have hZ:Has h h6:=O1
 have hX:=fun {al ps} (k:Pk al _ ps)=>(NN di (fun i=>(Pt i))<|CN 2<|MM (aO 22 0 j.aw bm k!)<|VV EC<|KK mk3 IB<|CN 2<|LL sh<|CC<|k:Pk _ [] ps)
 have JZ:=Cm (d:=d) (h:=h) aN j au h.nx h1.nx cL bV.1 bV.2 bV l6 om o! o! ch o! o! o! j.ab.length 0 (kp j j.ab.length 0 (List.replicate j.ab.length false)) o! (fun k_=>(((VY 0)::aN::(Pt h.nx)::(VY 3)::(VY 4)::(AV.slice h1.nx 0 j.ab.length j.ab.length false)::(VY 6)::(Zi 0)::rx VY 8 37 []):List AV).getD k_ AV.undef) h6 ji hZ o! l! ZR ail
 cases mO:lA j au j.ab.length 0 (kp j j.ab.length 0 (List.replicate j.ab.length false)) with
 | inl rv8=>
   obtain ⟨ajz,yl8,h9,ot,uq,VG,wK,Q6,anI,Q7⟩:=bS.n mO JZ
   have mJ:Has h h9:=wK
   have e:oR j au=true:=by simp only[oR,mO,aj,ai]
   rw[e]
   exact aH rfl (bb Tryz.func21 Ki rfl (.inr rfl) (pk (d+3) _ _ h _ h9 (hX<|LL ot<|CC<|ZZ) k!) k!) mJ rfl
 | inr rr8=>
   obtain ⟨ajz,yl8,h9,ot,uq,VG,wK⟩:=bS.r mO JZ
   have mJ:Has h h9:=wK
   have e:oR j au=rr8:=by simp only[oR,mO,aj,ai]
   rw[e]
   exact aH rfl (bb Tryz.func21 Ki rfl (.inr rfl) (pk (d+3) _ _ h _ h9 (hX<|LL ot<|ZZ) k!) k!) mJ rfl
theorem aec {j:cx} {s:List Int} (F:b5 j) (T:Tm j s) {n:Int} (h0:0≤n) (h1:n<(j.ab.length:Int)):cW j s n=s.g (Int.toNat n)+(j.ab.g (Int.toNat n)).takes:=by
 have t:=T (Int.toNat n) o!
 have tk:=F.tk (Int.toNat n) o!
 rw[cW,wrap_i64 o! o!]
section
variable {j:cx} {s:List Int}
def Room (j:cx) (p:List Bool) (s:List Int):Prop:=∀r,r<j.af.length→∀m,0≤m→I0 (j.af.g r) m+te j p s r m≤(j.af.g r).aJ
def NOa (j:cx) (s:List Int) (i:Nat):Prop:=∀q,q<(j.ab.g i).aB.length→s.g (Int.toNat ((j.ab.g i).aB.g q))+(j.ab.g (Int.toNat ((j.ab.g i).aB.g q))).takes≤s.g i
def All (j:cx) (p:List Bool):Prop:=∀q,q<j.ab.length→p.g q=true
theorem yv {p p':List Bool} {s':List Int} {r:Nat} {m:Int} (h:∀q,q<j.ab.length→p.g q=p'.g q∧(p.g q=true→s.g q=s'.g q)):te j p s r m=te j p' s' r m:=by
 unfold te
 refine oB fun q _ hq=>?_
 have e:=h q o!
 by_cases c:p.g q=true
 · rw[if_pos c,if_pos (e.1.symm.trans c),R6 (e.2 c).symm]
 · rw[if_neg c,if_neg fun z=>c (e.1.trans z)]
theorem H5:∀{l:List Int} {i:Nat},l.set i (l.g i)=l
 | [],i=>rfl
 | a::l,0=>rfl
 | a::l,i+1=>by
   show a::l.set i (l.g i)=a::l
   rw[H5]
theorem abn (F:b5 j) (T:Tm j s) {i:Nat} (hi:i<j.ab.length):∀k a,a+k=(j.ab.g i).aB.length→(gI j (i:Int) s k a=none→∀q,a≤q→q<a+k→s.g (Int.toNat ((j.ab.g i).aB.g q))+(j.ab.g (Int.toNat ((j.ab.g i).aB.g q))).takes≤s.g i)∧∀b,gI j (i:Int) s k a=some b→b=false
 | 0,a,h=>⟨fun _ q x y=>by omega,fun b h=>by cases h⟩
 | k+1,a,h=>by
   have nb:=F.nb i hi a o!
   have ih:=abn F T hi k (a+1) o!
   rw[gI,Int.toNat_natCast,aec F T nb.1 nb.2]
   by_cases c:s.g i<s.g (Int.toNat ((j.ab.g i).aB.g a))+(j.ab.g (Int.toNat ((j.ab.g i).aB.g a))).takes
   · rw[decide_eq_true c];exact ⟨(fun z=>by cases z),fun b z=>by cases z;rfl⟩
   · rw[decide_eq_false c,ai]
     refine ⟨fun e q x y=>?_,ih.2⟩
     by_cases z:q=a
     · rw[z];omega
     · exact ih.1 e q o! o!
theorem afp (F:b5 j) (T:Tm j s) (sl:s.length=j.ab.length):∀(k i:Nat) (p a:List Bool) (b:List Int) (A:List Tl),i+k=j.ab.length→p.length=j.ab.length→(∀q,q<i→p.g q=true)→(∀q,i≤q→p.g q=false)→INV j p s i A→
 (∀x,iN j s k (i:Int) a b A=Sum.inl x→(∃p',All j p'∧INV j p' s j.ab.length x.2.2)∧∀q,i≤q→q<j.ab.length→NOa j s q)∧∀r,iN j s k (i:Int) a b A=Sum.inr r→r=false
 | 0,i,p,a,b,A,h,pl,h1,h2,I=>by
   have e:i=j.ab.length:=by omega
   refine ⟨fun x z=>?_,fun r z=>by cases z⟩
   cases z
   exact ⟨⟨p,fun q hq=>h1 q o!,by rw[←e];exact I⟩,fun q x y=>by omega⟩
 | k+1,i,p,a,b,A,h,pl,h1,h2,I=>by
   have hi:i<j.ab.length:=by omega
   have nt:=F.nt
   have l2:=abn F T hi _ 0 (Nat.zero_add _)
   have Ip:=Ul F hi o! (h2 i (Nat.le_refl _)) pl sl (T i hi).1 (T i hi).2 I a b
   rw[H5] at Ip
   have ih:=afp F T sl k (i+1) (p.set i true) (fR j a b A (i:Int) (s.g i)).1 (fR j a b A (i:Int) (s.g i)).2.1 _ o! (by rw[List.length_set];exact pl) (fun q hq=>by
    rw[gG]
    split
    · rfl
    · rename_i z
      exact h1 q (by have:i≠q:=fun w=>z ⟨w,by omega⟩
                     omega)) (fun q hq=>by rw[gG,if_neg fun w=>by have:=w.1;omega];exact h2 q o!) Ip
   rw[iN,decide_eq_true (by omega:(i:Int)<((j.ab.length:Nat):Int)),aj,Int.toNat_natCast]
   cases e:gI j (i:Int) s (j.ab.g i).aB.length 0 with
   | none=>
     rw[show ((i:Int)+1)=((i+1:Nat):Int) by omega]
     refine ⟨fun x z=>?_,ih.2⟩
     have y:=ih.1 x z
     refine ⟨y.1,fun q u v=>?_⟩
     by_cases w:q=i
     · rw[w];exact fun u' hu'=>l2.1 e u' (Nat.zero_le _) o!
     · exact y.2 q o! v
   | some r=>
     have:=l2.2 r e
     refine ⟨fun x z=>(by cases z),fun r' z=>?_⟩
     cases z;exact this
theorem afq {x:List Bool×List Int×List Tl}:∀k i,(jz j x k i=none→∀q,i≤q→q<i+k→kB (fit (x.2.2.g q).l)=true)∧∀b,jz j x k i=some b→b=false
 | 0,i=>⟨fun _ q a b=>by omega,fun b h=>by cases h⟩
 | k+1,i=>by
   have ih:=afq (x:=x) k (i+1)
   rw[jz]
   cases e:kB (fit (x.2.2.g i).l) with
   | false=>exact ⟨(fun z=>by cases z),fun b z=>by cases z;rfl⟩
   | true=>
     rw[Bool.not_true,ai]
     refine ⟨fun z q a b=>?_,ih.2⟩
     by_cases w:q=i
     · rw[w];exact e
     · exact ih.1 z q o! o!
theorem abo:∀{k i:Nat} {b:Bool},eT s j k i=some b→b=false
 | 0,i,b,h=>by cases h
 | k+1,i,b,h=>by
   rw[eT] at h
   cases a:dZ (s.g i) with
   | false=>rw[a] at h;cases h;rfl
   | true=>
     rw[a] at h
     cases c:decide (100000<cW j s ((i:Nat):Int)) with
     | true=>rw[c] at h;cases h;rfl
     | false=>rw[c] at h;exact abo (k:=k) h
theorem WA (F:b5 j) (hl:s.length=j.ab.length) (h:mD j s=true):Tm j s∧(∀i,i<j.ab.length→NOa j s i)∧∃p,All j p∧Room j p s:=by
 rw[mD] at h
 cases e0:eT s j s.length 0 with
 | some r=>rw[e0] at h;have:=abo e0;subst this;cases h
 | none=>
   rw[e0] at h
   have T0:=ss F.tk hl e0
   have T:Tm j s:=fun i hi=>T0 i o!
   have nl:(aK j).1.length=j.af.length:=(Mi (s:=s) F).1
   have l1:=afp F T hl j.ab.length 0 (List.replicate j.ab.length false) (aK j).2.1 (aK j).2.2 (aK j).1 (Nat.zero_add _) List.length_replicate (fun q hq=>by omega) (fun q _=>Pg) (Mi F)
   dsimp only at h
   rw[show Int.toNat (((j.ab.length:Nat):Int) - 0)=j.ab.length by omega] at h
   cases e1:iN j s j.ab.length 0 (aK j).2.1 (aK j).2.2 (aK j).1 with
   | inr r=>rw[e1] at h;have:=l1.2 r e1;subst this;cases h
   | inl x=>
     rw[e1] at h
     obtain ⟨⟨p,al,I⟩,no⟩:=l1.1 x e1
     have l3:=afq (j:=j) (x:=x) (aK j).1.length 0
     dsimp only at h
     cases e3:jz j x (aK j).1.length 0 with
     | some r=>rw[e3] at h;have:=l3.2 r e3;subst this;cases h
     | none=>
       refine ⟨T,fun i hi=>no i (Nat.zero_le _) hi,p,al,fun r hr m hm=>?_⟩
       obtain ⟨n,B,hn,lv,mk⟩:=I.2 r hr
       have k:=l3.1 e3 r (Nat.zero_le _) o!
       rw[rZ B.is.len,abg B.is,mk] at k
       rw[←lv m hm];exact k m hm
theorem afr:∀k i,fZ s j k i=eT s j k i
 | 0,i=>rfl
 | k+1,i=>by rw[fZ,eT,afr k (i+1)]
theorem afs {v:Int}:∀k i,j4 j v s k i=gI j v s k i
 | 0,i=>rfl
 | k+1,i=>by rw[j4,gI,afs k (i+1)]
theorem afu (F:b5 j) (T:Tm j s):∀(k i:Nat) (a:List Bool) (b:List Int),i+k=j.ab.length→
 (∀x,gX j s k (i:Int) a b=Sum.inl x→∀q,i≤q→q<j.ab.length→NOa j s q)∧∀r,gX j s k (i:Int) a b=Sum.inr r→r=false
 | 0,i,a,b,h=>⟨fun x _ q x y=>by omega,fun r z=>by cases z⟩
 | k+1,i,a,b,h=>by
   have hi:i<j.ab.length:=by omega
   have l2:=abn F T hi _ 0 (Nat.zero_add _)
   have ih:=afu F T k (i+1) (l9 j a b (i:Int) (s.g i)).1 (l9 j a b (i:Int) (s.g i)).2 o!
   rw[gX,decide_eq_true (by omega:(i:Int)<((j.ab.length:Nat):Int)),aj,Int.toNat_natCast,afs]
   cases e:gI j (i:Int) s (j.ab.g i).aB.length 0 with
   | none=>
     rw[show ((i:Int)+1)=((i+1:Nat):Int) by omega]
     refine ⟨fun x z q u v=>?_,ih.2⟩
     have y:=ih.1 x z
     by_cases w:q=i
     · rw[w];exact fun u' hu'=>l2.1 e u' (Nat.zero_le _) o!
     · exact y q o! v
   | some r=>
     have:=l2.2 r e
     refine ⟨fun x z=>(by cases z),fun r' z=>?_⟩
     cases z;exact this
theorem SH (F:b5 j) (hl:s.length=j.ab.length) (hr:j.af.length=0) (h:mu j s=true):Tm j s∧(∀i,i<j.ab.length→NOa j s i)∧∃p,All j p∧Room j p s:=by
 rw[mu,afr] at h
 cases e0:eT s j s.length 0 with
 | some r=>rw[e0] at h;have:=abo e0;subst this;cases h
 | none=>
   rw[e0] at h
   have T0:=ss F.tk hl e0
   have T:Tm j s:=fun i hi=>T0 i o!
   have l1:=afu F T j.ab.length 0 (aK j).2.1 (aK j).2.2 (Nat.zero_add _)
   dsimp only at h
   rw[show Int.toNat (((j.ab.length:Nat):Int) - 0)=j.ab.length by omega] at h
   cases e1:gX j s j.ab.length 0 (aK j).2.1 (aK j).2.2 with
   | inr r=>rw[e1] at h;have:=l1.2 r e1;subst this;cases h
   | inl x=>exact ⟨T,fun i hi=>l1.1 x e1 i (Nat.zero_le _) hi,List.replicate j.ab.length true,fun q hq=>by rw[List.g,List.getD_eq_getElem?_getD,List.getElem?_replicate,if_pos hq];rfl,fun r h=>by omega⟩
theorem WB (F:b5 j) (hl:s.length=j.ab.length) (h:pw j s=true):Tm j s∧(∀i,i<j.ab.length→NOa j s i)∧∃p,All j p∧Room j p s:=by
 rw[pw] at h
 by_cases r:0<j.af.length
 · rw[decide_eq_true r] at h;exact WA F hl h
 · rw[decide_eq_false r] at h;exact SH F hl o! h
theorem afv:∀(k i:Nat) (a:List Bool),a.length=j.ab.length→i+k=j.ab.length→(∀q,q<i→a.g q=true)→(kp j k i a).length=j.ab.length∧All j (kp j k i a)
 | 0,i,a,hl,h,hq=>⟨hl,fun q x=>hq q o!⟩
 | k+1,i,a,hl,h,hq=>by
   rw[kp]
   refine afv k (i+1) _ (by rw[List.length_set];exact hl) o! fun q x=>?_
   rw[gG]
   by_cases z:i=q∧q<a.length
   · rw[if_pos z]
   · rw[if_neg z]
     exact hq q (by have:i≠q:=fun w=>z ⟨w,by omega⟩
                    omega)
theorem afw (K:∀i,i<j.ab.length→∀p,(∀x,x<j.ab.length→x≠i→p.g x=true)→p.g i=false→gF j s p (i:Int) (s.g i)=true):∀(k i:Nat) (a:List Bool),a.length=j.ab.length→i+k=j.ab.length→All j a→∃b,lA j s k i a=Sum.inl b
 | 0,i,a,hl,h,hq=>⟨a,rfl⟩
 | k+1,i,a,hl,h,hq=>by
   rw[lA,K i o! (a.set i false) (fun x hx hn=>by rw[gG,if_neg fun z=>hn z.1.symm];exact hq x hx) (by rw[gG,if_pos ⟨rfl,by omega⟩]),Bool.not_true,ai]
   refine afw K k (i+1) _ (by rw[List.length_set,List.length_set];exact hl) o! fun q x=>?_
   rw[gG]
   by_cases z:i=q∧q<(a.set i false).length
   · rw[if_pos z]
   · rw[if_neg z,gG,if_neg fun w=>z ⟨w.1,by rw[List.length_set];exact w.2⟩];exact hq q x
theorem WC (K:∀i,i<j.ab.length→∀p,(∀x,x<j.ab.length→x≠i→p.g x=true)→p.g i=false→gF j s p (i:Int) (s.g i)=true):oR j s=true:=by
 obtain ⟨l,al⟩:=afv (j:=j) j.ab.length 0 (List.replicate j.ab.length false) List.length_replicate (Nat.zero_add _) (fun q h=>by omega)
 obtain ⟨b,e⟩:=afw K j.ab.length 0 _ l (Nat.zero_add _) al
 rw[oR,e]
end
end
end Go.Proofs.aQ
