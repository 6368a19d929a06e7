import Derived.Test.YtogcojohajankaaGreatW0
import Derived.Test.YtogcojohajankaaGreatW1
import Derived.Test.YtogcojohajankaaGreatW12
import Derived.Test.YtogcojohajankaaGreatW14
import Derived.Test.YtogcojohajankaaGreatW2
import Derived.Test.YtogcojohajankaaGreatW10
import Derived.Test.YtogcojohajankaaGreatW4
import Derived.Test.YtogcojohajankaaGreatW13
import Derived.Test.YtogcojohajankaaGreatW6
import Derived.Test.YtogcojohajankaaGreatA7
namespace Go.Proofs.aJ
open Go.Proofs Ab
set_option maxRecDepth 100000
set_option maxHeartbeats 4000000
set_option linter.unusedVariables false
set_option linter.unusedSimpArgs false
theorem dS {p:Prop} (h:p:=by first | omega | assumption | exact (cZ (by assumption)) | exact (cZ (by assumption)).ro | exact (cZ (by assumption)).nr | exact Nat.le_trans (cZ (by assumption)).nt (by decide) | exact (qC (by assumption)).2 | exact adO (cZ (by assumption)) | exact adK (cZ (by assumption)) | (have u_:=(qC (by assumption)).1;have v_:=(cZ (by assumption)).nt;omega)):p:=h
theorem wI {p:Prop} (h:p:=by first | assumption | exact hG ct o!):p:=h
noncomputable def Il:Code:=(Tryz.f6.body).getD .skip
theorem uo:Tryz.f6.body=some Il:=by kernel_rfl
def kb (j:cG) (order:List Int):List Int×Int:=(bif (!decide ((fD j)=0)) then ([],(fD j)) else (bif (!(gB order ((j.ab.length:Nat):Int))) then ([],1) else (bif (!((eJ j ((ba j).2.1) ((ba j).2.2) ((ba j).1) order 0).1)) then ([],9) else ((eJ j ((ba j).2.1) ((ba j).2.2) ((ba j).1) order 0).2.2.1,0))))
theorem Q_ {d:Nat} {h:aw} {bf:AV} (j:cG) (order:List Int) (bZ:aG.ok h j) (cQ:bS h .i64 3 bf order) (nE:0<j.af.length) (ct:Tidy h):∃z hk,cU (d+12) (.fn 6) [(AV.agg [j.ao,j.ai]),bf] h= .ret (AV.tuple [z,(Zi ((kb j order).2))]) hk∧bp h hk∧bS hk .i64 3 z (kb j order).1:=by
 have mI:=cQ.small
 have eT:=bZ.1.small
 have eU:=bZ.2.small
 obtain ⟨h1,dH,cP,kr,bk,bW⟩:=kh ct (aH.cells [j.ao,j.ai] 25 false)
 have bB:Has h h1:=bW
 have k2:=Jz (d:=d) j (aG.mono bB bZ) cP
 have dR:=fun {al ps} (k:Pk al _ ps)=>(NN dH (fun i=>(Pt i))<|CN 2<|MM (aI 25 0 (AV.agg [j.ao,j.ai]) bk k!)<|EE k2<|CN 2<|VV (pa 29 false true .i64 (fD j) 0)<|k:Pk _ [] ps)
 rcases Bool.eq_false_or_eq_true (!decide ((fD j)=0)) with f0 | f0
 · have dx:=HJ f0
   have e:kb j order=([],(fD j)):=by simp only[kb,f0,cond_true,cond_false]
   rw[e]
   exact ⟨.aD,eu rfl (aZ Tryz.func6 uo rfl (.inr rfl) (pk (d+11) _ _ h _ h1 (dR<|BB f0<|CN 3<|ZZ) k!) k!) ct ⟨cP,bB,by omega⟩ (P:=fun hh=>bS hh .i64 3 AV.aD ([])) (bS.nil k! k!) fun _=>bS.nil k! k!⟩
 · have dx:=HK f0
   have nt:=(cZ dx).nt
   have Eg:cc (some (.slice 39)) (some j.ao)=some (Zn j.ab.length):=bZ.1.len
   have k5:=Dy (d:=d+9) order ((j.ab.length:Nat):Int) (cQ.has bB) dS dS cP
   have hI:=fun {al ps} (k:Pk al _ ps)=>(dR<|BB f0<|CN 2<|MM (aI 22 0 j.ao bk k!)<|VV Eg<|EE k5<|CC<|k:Pk _ [] ps)
   rcases Bool.eq_false_or_eq_true (!(gB order ((j.ab.length:Nat):Int))) with f1 | f1
   · have e:kb j order=([],1):=by simp only[kb,f0,f1,cond_true,cond_false]
     rw[e]
     exact ⟨.aD,eu rfl (aZ Tryz.func6 uo rfl (.inr rfl) (pk (d+11) _ _ h _ h1 (hI<|BB f1<|CN 2<|ZZ) k!) k!) ct ⟨cP,bB,by omega⟩ (P:=fun hh=>bS hh .i64 3 AV.aD ([])) (bS.nil k! k!) fun _=>bS.nil k! k!⟩
   · obtain ⟨pb7,Vi,zb9,alB,lU,OH,fI,zD,zE,Q',agh,agi,agj,agk,agl,agm,agn,ago⟩:=AG (d:=d+8) j (aG.mono bB bZ) dS dS dS cP
     have g7:=fI.y
     have Jy:h1.nx≤lU.nx:=fI.n
     have agp:=x8 j dS
     obtain ⟨aiW,agq,rfl,ajx,LU⟩:=nG.block Q' o!
     have iB:Has h lU:=bB.trans fI.a
     have aiX:=g7 _ _ zD
     have aiY:=g7 _ _ zE
     have alC:=g7 _ _ LU
     obtain ⟨FJ,Zs,xW,Xh,Zt,qD⟩:=kh g7 (aH.cells [AV.aD,AV.aD,AV.aD,AV.aD,AV.aD] 76 false)
     have sc:Has h FJ:=iB.trans qD
     have CG:Has lU FJ:=qD
     have agr:AV.scalar j.ao=true:=bZ.1.scalar
     have ags:AV.scalar j.ai=true:=bZ.2.scalar
     obtain ⟨I3,Zu,uE,aiZ,ON,mB⟩:=qi (t:=76) (n:=5) (i:=lU.nx) (L:=[j.ao,j.ai,(AV.slice pb7 0 j.ab.length j.ab.length false),(AV.slice Vi 0 j.ab.length j.ab.length false),(AV.slice aiW 0 ((ba j).1.length) ((ba j).1.length) agq)]) xW Zt k! rfl rfl (by simp only[AV.cells,List.all_cons,List.all_nil,Bool.and_true,Bool.and_self,iE,gd,iF,iG,eP,lF,lG,lH,lI,lJ,iH,agr,ags])
     have Dg:Has h I3:=Has.ei sc mB ct o!
     have UR:Has lU I3:=Has.ei CG mB g7 o!
     obtain ⟨agt,Ra,acG,LV,LW,re⟩:=dO uE (mB _ _ o! (qD _ _ zD))
     have Rb:Has h agt:=bM Dg wI re
     obtain ⟨Ox,G8,S0,Bh,Bi,nu⟩:=dO Ra ((re _ o!).trans (mB _ _ o! (qD _ _ zE)))
     have CH:Ox.get pb7=none:=(nu _ o!).trans LV
     have zz:Has h Ox:=bM Rb wI nu
     obtain ⟨Oy,QS,acv,LF,LG,ug⟩:=dO G8 ((nu _ o!).trans ((re _ o!).trans (mB _ _ o! (qD _ _ LU))))
     have Cz:Oy.get pb7=none:=(ug _ o!).trans CH
     have US:Oy.get Vi=none:=(ug _ o!).trans Bh
     have CA:Has h Oy:=bM zz wI ug
     obtain ⟨h21,YY,I4,adj,LH,LI,acw,Em,acx,ajy,ajz⟩:=LQ (d:=d+5) (h:=Oy) (placedN:=j.ab.length) (startsN:=j.ab.length) (talliesN:=((ba j).1.length)) (talliesF:=agq) j ((ba j).2.1) ((ba j).2.2) ((ba j).1) order 0 (aG.mono CA bZ) (cQ.has CA) (mB _ _ o! (qD _ _ zD)) l! Cz (mB _ _ o! (qD _ _ zE)) l! US (mB _ _ o! (qD _ _ LU)) l! LF dS dS dS dS dS dS dS dS dS dS o! o! o! QS uE (LG.trans (Bi.trans LW)) o!
     have I5:Has h h21:=(CA.trans LH)
     have mH:=fun {al ps} (k:Pk al _ ps)=>(hI<|BM f1 (aI 25 0 (AV.agg [j.ao,j.ai]) bk k!)<|EE OH<|NN Zs (fun i=>(Pt i))<|SS Zu<|MM (aI 76 0 (AV.agg [j.ao,j.ai,(AV.slice pb7 0 j.ab.length j.ab.length false),(AV.slice Vi 0 j.ab.length j.ab.length false),(AV.slice aiW 0 ((ba j).1.length) ((ba j).1.length) agq)]) ON k!)<|CC<|EE YY<|CC<|k:Pk _ [] ps)
     rcases Bool.eq_false_or_eq_true (!((eJ j ((ba j).2.1) ((ba j).2.2) ((ba j).1) order 0).1)) with f2 | f2
     · have e:kb j order=([],9):=by simp only[kb,f0,f1,f2,cond_true,cond_false]
       rw[e]
       exact ⟨.aD,eu rfl (aZ Tryz.func6 uo rfl (.inr rfl) (pk (d+11) _ _ h _ h21 (mH<|BB f2<|CN 2<|ZZ) k!) k!) ct ⟨I4,I5,by omega⟩ (P:=fun hh=>bS hh .i64 3 AV.aD ([])) (bS.nil k! k!) fun _=>bS.nil k! k!⟩
     · have e:kb j order=((eJ j ((ba j).2.1) ((ba j).2.2) ((ba j).1) order 0).2.2.1,0):=by simp only[kb,f0,f1,f2,cond_true,cond_false]
       rw[e]
       exact ⟨(AV.slice Vi 0 j.ab.length j.ab.length false),eu rfl (aZ Tryz.func6 uo rfl (.inr rfl) (pk (d+11) _ _ h _ h21 (mH<|BC f2<|MM (aI 26 3 (AV.slice Vi 0 j.ab.length j.ab.length false) (LH _ _ ((ug _ o!).trans ((nu _ o!).trans ((re _ o!).trans ON)))) k!)<|CN 2<|ZZ) k!) k!) ct ⟨I4,I5,by omega⟩ (P:=fun hh=>bS hh .i64 3 (AV.slice Vi 0 j.ab.length j.ab.length false) ((eJ j ((ba j).2.1) ((ba j).2.2) ((ba j).1) order 0).2.2.1)) (bS.own (op:=false) k! k! Em l! o!) fun v=>(r_ (KC v) o!).elim⟩
theorem bL {p:Prop} (h:p:=by first | omega | assumption | exact (show cu j from by assumption).nb | exact (show cu j from by assumption).tk | exact Nat.le_trans (show cu j from by assumption).nt (by decide) | exact (show cu j from by assumption).u0 o! o! | exact fV.2.2.2):p:=h
theorem nA {p:Prop} (h:p:=by first | omega | exact ⟨by omega,by omega,by omega,YZ (by assumption) o!⟩):p:=h
theorem lj {p:Prop} (h:p:=by first | assumption | exact hG ct o!):p:=h
noncomputable def sP:Code:=(Tryz.f18.body).getD .skip
theorem yn:Tryz.f18.body=some sP:=by kernel_rfl
noncomputable def D5:Code:=(bw sP).getD 0 .skip
def fi (j:cG) (order:List Int) (aj:List Bool) (from_:Int):Nat→Int→List Bool→List Int→(List Bool×List Int)⊕(Bool×List Bool×List Int)
 | 0,bU,aW,bq=>Sum.inl (aW,bq)
 | cS+1,bU,aW,bq=>(bif (decide (bU<(((aF j.ab order aj).length:Nat):Int))) then (bif (!((dD j aW bq ((aF j.ab order aj).g bU.toNat) from_).1)) then Sum.inr (false,(dD j aW bq ((aF j.ab order aj).g bU.toNat) from_).2.1,(dD j aW bq ((aF j.ab order aj).g bU.toNat) from_).2.2) else fi j order aj from_ cS (bU+1) ((dD j aW bq ((aF j.ab order aj).g bU.toNat) from_).2.1) ((dD j aW bq ((aF j.ab order aj).g bU.toNat) from_).2.2)) else Sum.inl (aW,bq))
theorem sQ {d:Nat} {h:aw} (from_:Int) (z2:AV) (j:cG) (order:List Int) (aj:List Bool) (placedN:Nat) (startsN:Nat) (ar:List Int) (a_:Nat) (cx:Nat) (fj:Nat) (bb:bS h .i64 3 z2 (aF j.ab order aj)) (cf:aM h j.ao j.ab) (dc:aM h j.ai j.af) (fW:aG.ok h j) (fq:cu j) (hH:j.af.length=0) (ly:aj.length=j.ab.length) (mw:ar.length=j.ab.length) (l8:∀q,q<order.length→0≤order.g q∧order.g q<(j.ab.length:Int)) (mO:∀i,i<ar.length→0≤ar.g i∧ar.g i+(j.ab.g i).takes≤100000) (Cg:0≤from_) (F9:from_≤100000) (HQ:order.length≤64) (F_:∀q,q<(aF j.ab order aj).length→0≤(aF j.ab order aj).g q∧(aF j.ab order aj).g q<(j.ab.length:Int)) (vT:(aF j.ab order aj).length≤64) (Om:placedN=j.ab.length) (On:startsN=j.ab.length) (ct:Tidy h) (tA:h.get a_=none) (FX:h.get cx=none) (KT:h.get fj=none) (qk:cx≠a_) (tH:fj≠a_) (tI:fj≠cx):∀(k_:Nat) (bU:Int) (aW:List Bool) (bq:List Int) (_:(((aF j.ab order aj).length:Nat):Int) - bU≤(k_:Int)) (_:(((0:Int)≤1)∧(0≤bU∧bU≤((aF j.ab order aj).length:Int)∧(∀ii,ii<(bq).length→0≤(bq).g ii∧(bq).g ii+(j.ab.g ii).takes≤100000)))) (x:Nat→AV) (hh:aw) (aA:Tidy hh) (ay:Has h hh) (ij:h.nx≤hh.nx) (iS:aW.length=placedN) (qS:bq.length=startsN) (bh:hh.get a_=some (aH.cells (bs aW) 4 false)) (cV:hh.get cx=some (aH.cells (zs .i64 bq) 3 false)) (gW:hh.get fj=some (aH.cells [j.ao,j.ai,(AV.slice a_ 0 placedN placedN false),(AV.slice cx 0 startsN startsN false),AV.aD] 76 false)),cA (σ:=List Bool×List Int) (ρ:=Bool×List Bool×List Int) (cU (d+5)) D5 ⟨((x 0)::(x 1)::(Zi from_)::(Pt fj)::rx x 4 11 (z2::(Zn ((aF j.ab order aj).length))::(Zi bU)::rx x 18 9 [])),hh,[],.no⟩ (.exit 0) hh (fun r z y=>((y 0)::(y 1)::(Zi from_)::(Pt fj)::rx y 4 11 (z2::(Zn ((aF j.ab order aj).length))::rx y 17 10 []))) (fun r z y=>((y 0)::(y 1)::(Zi from_)::(Pt fj)::(y 4)::(y 5)::(AV.bool r.1)::rx y 7 8 (z2::(Zn ((aF j.ab order aj).length))::rx y 17 10 []))) (fun r z hk=>Has h hk∧hk.get a_=some (aH.cells (bs r.1) 4 false)∧hk.get cx=some (aH.cells (zs .i64 r.2) 3 false)∧hk.get fj=some (aH.cells [j.ao,j.ai,(AV.slice a_ 0 placedN placedN false),(AV.slice cx 0 startsN startsN false),AV.aD] 76 false)∧r.1.length=placedN∧r.2.length=startsN∧((0:Int)≤1)) (fun r z hk=>Has h hk∧hk.get a_=some (aH.cells (bs r.2.1) 4 false)∧r.2.1.length=placedN∧hk.get cx=some (aH.cells (zs .i64 r.2.2) 3 false)∧r.2.2.length=startsN) (fi j order aj from_ k_ bU aW bq)
 | 0,bU,aW,bq,gq,fV,x,hh,aA,ay,ij,iS,qS,bh,cV,gW=>by
   have cr:=bb.small
   have eQ:=cf.small
   have jD:=dc.small
   have ji:=aA _ _ bh
   have vR:=aA _ _ cV
   have DL:=aA _ _ gW
   have nt_:=fq.nt
   have tb_:=F_ bU.toNat
   have q1:(decide (bU<(((aF j.ab order aj).length:Nat):Int)))=false:=d!
   exact cA.out (aW,bq) AV.undef rfl (pk (d+5) _ _ hh _ hh (VV (bO 3 false false .i64 bU (((aF j.ab order aj).length:Nat):Int))<|BB q1<|ZZ) k!) aA o! ⟨ay,bh,cV,gW,l!,l!,(show ((0:Int)≤1) from nA)⟩ k!
 | cS+1,bU,aW,bq,gq,fV,x,hh,aA,ay,ij,iS,qS,bh,cV,gW=>by
   have cr:=bb.small
   have eQ:=cf.small
   have jD:=dc.small
   have ji:=aA _ _ bh
   have vR:=aA _ _ cV
   have DL:=aA _ _ gW
   have nt_:=fq.nt
   have tb_:=F_ bU.toNat
   have dR:=fun {al ps} (k:Pk al _ ps)=>(VV (bO 3 false false .i64 bU (((aF j.ab order aj).length:Nat):Int))<|k:Pk _ [] ps)
   rcases Bool.eq_false_or_eq_true (decide (bU<(((aF j.ab order aj).length:Nat):Int))) with f0 | f0
   · have dx:=of_decide_eq_true f0
     obtain ⟨p3,q4,cF,_⟩:=bb.elem (i:=bU.toNat) o!
     have jL:bR env (some (.slice 3)) (some z2) (some (Zi bU))=some (AV.ptr p3 q4):=by rw[show (bU:Int)=((bU.toNat:Nat):Int) by omega];exact cF
     have j9:aY env hh 3 (AV.ptr p3 q4)=some (Zi ((aF j.ab order aj).g bU.toNat)):=(bb.has ay).load o! cF
     obtain ⟨hw6,Nu,Xp,FN,FP,ru⟩:=dO aA bh
     have Nv:Has h hw6:=bM ay lj ru
     obtain ⟨hw7,Zk,af9,Q4,Q5,wH⟩:=dO Nu ((ru _ o!).trans cV)
     have Hf:hw7.get a_=none:=(wH _ o!).trans FN
     have S8:Has h hw7:=bM Nv lj wH
     obtain ⟨h8,alD,ql,aiK,adP,Zv,alE,Zw,alF⟩:=QR (d:=d+1) (h:=hw7) (placedN:=placedN) (startsN:=startsN) j aW bq ((aF j.ab order aj).g bU.toNat) from_ (aG.mono S8 fW) bh l! Hf cV l! Q4 bL bL bL bL bL bL bL bL bL bL o! Zk aA (Q5.trans FP) o!
     have amd:=OA j aW bq ((aF j.ab order aj).g bU.toNat) from_ bL bL bL bL bL bL bL bL
     have oK:Has h h8:=(S8.trans adP)
     have hI:=fun {al ps} (k:Pk al _ ps)=>(dR<|BV f0 jL<|MM j9<|CC<|MM (aI 76 0 (AV.agg [j.ao,j.ai,(AV.slice a_ 0 placedN placedN false),(AV.slice cx 0 startsN startsN false),AV.aD]) gW k!)<|CN 2<|EE alD<|CC<|k:Pk _ [] ps)
     rcases Bool.eq_false_or_eq_true (!((dD j aW bq ((aF j.ab order aj).g bU.toNat) from_).1)) with f1 | f1
     · exact cA.ret (false,(dD j aW bq ((aF j.ab order aj).g bU.toNat) from_).2.1,(dD j aW bq ((aF j.ab order aj).g bU.toNat) from_).2.2) AV.undef (by simp only[fi,f0,f1,cond_true,cond_false]) (pk (d+5) _ _ hh _ h8 (hI<|BC f1<|ZZ) k!) ql o! ⟨oK,Zv,l!,Zw,l!⟩ k!
     · have w10:IntKind.i64.wrap (bU+1)=bU+1:=wrap_i64 o! o!
       exact cA.round (by simp only[fi,f0,f1,cond_true,cond_false]) (pk (d+5) _ _ hh _ h8 (hI<|BV f1 (rn 3 false true w10)<|CC<|ZZ) k!) o! _ k! (fun x=>sQ from_ z2 j order aj placedN startsN ar a_ cx fj bb cf dc fW fq hH ly mw l8 mO Cg F9 HQ F_ vT Om On ct tA FX KT qk tH tI cS (bU+1) ((dD j aW bq ((aF j.ab order aj).g bU.toNat) from_).2.1) ((dD j aW bq ((aF j.ab order aj).g bU.toNat) from_).2.2) nA (show (((0:Int)≤1)∧(0≤(bU+1)∧(bU+1)≤((aF j.ab order aj).length:Int)∧(∀ii,ii<(((dD j aW bq ((aF j.ab order aj).g bU.toNat) from_).2.2)).length→0≤(((dD j aW bq ((aF j.ab order aj).g bU.toNat) from_).2.2)).g ii∧(((dD j aW bq ((aF j.ab order aj).g bU.toNat) from_).2.2)).g ii+(j.ab.g ii).takes≤100000))) from nA) x h8 ql oK o! l! l! Zv Zw (adP _ _ ((wH _ o!).trans ((ru _ o!).trans gW))))
   · have dx:=of_decide_eq_false f0
     exact cA.out (aW,bq) AV.undef (by simp only[fi,f0,cond_true,cond_false]) (pk (d+5) _ _ hh _ hh (dR<|BB f0<|ZZ) k!) aA o! ⟨ay,bh,cV,gW,l!,l!,(show ((0:Int)≤1) from nA)⟩ k!
def eK (j:cG) (aj:List Bool) (ar:List Int) (order:List Int) (from_:Int):Bool×List Bool×List Int:=(match (fi j order aj from_ ((((aF j.ab order aj).length:Nat):Int) - 0).toNat 0 aj ar) with | Sum.inl Q3=>(true,Q3.1,Q3.2) | Sum.inr DZ=>(DZ.1,DZ.2.1,DZ.2.2))
theorem Im {d:Nat} {h hh:aw} {bf:AV} {aP placedN aR startsN:Nat} (j:cG) (aj:List Bool) (ar:List Int) (order:List Int) (from_:Int) (bZ:aG.ok h j) (cQ:bS h .i64 3 bf order) (bQ:hh.get aP=some (aH.cells (bs aj) 4 false)) (qn:aj.length=placedN) (sj:h.get aP=none) (b5:hh.get aR=some (aH.cells (zs .i64 ar) 3 false)) (sm:ar.length=startsN) (sq:h.get aR=none) (nE:cu j) (qI:j.af.length=0) (yS:aj.length=j.ab.length) (Ar:ar.length=j.ab.length) (DJ:∀q,q<order.length→0≤order.g q∧order.g q<(j.ab.length:Int)) (Uh:∀i,i<ar.length→0≤ar.g i∧ar.g i+(j.ab.g i).takes≤100000) (pre6:0≤from_) (Ui:from_≤100000) (abJ:order.length≤64) (Uj:aR≠aP) (ct:Tidy h) (aA:Tidy hh) (ay:Has h hh) (ij:h.nx≤hh.nx):∃hk,cU (d+6) (.fn 18) [(AV.agg [j.ao,j.ai,(AV.slice aP 0 placedN placedN false),(AV.slice aR 0 startsN startsN false),AV.aD]),bf,(Zi from_)] hh= .ret (AV.bool ((eK j aj ar order from_).1)) hk∧Tidy hk∧hh.nx≤hk.nx∧Has h hk∧hk.get aP=some (aH.cells (bs ((eK j aj ar order from_).2.1)) 4 false)∧((eK j aj ar order from_).2.1).length=placedN∧hk.get aR=some (aH.cells (zs .i64 ((eK j aj ar order from_).2.2)) 3 false)∧((eK j aj ar order from_).2.2).length=startsN:=by
 have mI:=cQ.small
 have eT:=bZ.1.small
 have eU:=bZ.2.small
 have sr:=aA _ _ bQ
 have ss:=aA _ _ b5
 obtain ⟨h1,dH,cP,kr,bk,bW⟩:=kh aA (aH.cells [j.ao,j.ai,(AV.slice aP 0 placedN placedN false),(AV.slice aR 0 startsN startsN false),AV.aD] 76 false)
 have bB:Has h h1:=ay.trans bW
 obtain ⟨z2,h4,aga,fA,fz3,agb⟩:=tU (d:=d) j.ab order aj aP placedN false (bZ.1.has bB) (cQ.has bB) (bW _ _ bQ) l! o! bL bL bL bL bL cP
 have nW:=fA.y
 have NI:h1.nx≤h4.nx:=fA.n
 have nJ:Has h h4:=bB.trans fA.a
 have aiU:=fz3.small
 have aiV:=qw j.ab order aj bL
 have Z_:cc (some (.slice 3)) (some z2)=some (Zn ((aF j.ab order aj).length)):=fz3.len
 obtain ⟨Xx,FW,PV,yT,yU,ks⟩:=dO nW (fA.a _ _ (bW _ _ bQ))
 have Hg:Has h Xx:=bM nJ lj ks
 obtain ⟨hw9,Zq,agc,Q6,Q7,rL⟩:=dO FW ((ks _ o!).trans (fA.a _ _ (bW _ _ b5)))
 have Hh:hw9.get aP=none:=(rL _ o!).trans yT
 have Hj:Has h hw9:=bM Hg lj rL
 obtain ⟨OM,Q8,acF,S9,LS,ou⟩:=dO Zq ((rL _ o!).trans ((ks _ o!).trans (fA.a _ _ bk)))
 have JB:OM.get aP=none:=(ou _ o!).trans Hh
 have JC:OM.get aR=none:=(ou _ o!).trans Q6
 have n7:Has h OM:=bM Hj lj ou
 have mH:=fun {al ps} (k:Pk al _ ps)=>(NN dH (fun i=>(Pt i))<|CN 3<|MM (aI 22 0 j.ao bk k!)<|CN 2<|MM (aI 73 2 (AV.slice aP 0 placedN placedN false) bk k!)<|EE aga<|VV Z_<|CC<|k:Pk _ [] ps)
 have lp4:=sQ (d:=d) (h:=OM) from_ z2 j order aj placedN startsN ar aP aR hh.nx (gK.zs (gK.wo (gK.wo (gK.wo agb ks o!) rL o!) ou o!) o! k! k!) (bZ.1.has n7) (bZ.2.has n7) (aG.mono n7 bZ) (by assumption) (by assumption) (by assumption) (by assumption) (by assumption) (by assumption) (by assumption) (by assumption) (by assumption) (qw j.ab order aj (by assumption)).2 (Nat.le_trans (qw j.ab order aj (by assumption)).1 o!) o! o! Q8 (by assumption) (by assumption) (by assumption) o! o! o! ((((aF j.ab order aj).length:Nat):Int) - 0).toNat 0 aj ar o! (show (((0:Int)≤1)∧(0≤0∧0≤((aF j.ab order aj).length:Int)∧(∀ii,ii<(ar).length→0≤(ar).g ii∧(ar).g ii+(j.ab.g ii).takes≤100000))) from ⟨by omega,by omega,by omega,(by assumption)⟩) (fun k_=>(((AV.agg [j.ao,j.ai,(AV.slice aP 0 placedN placedN false),(AV.slice aR 0 startsN startsN false),AV.aD])::bf::(Zi from_)::(Pt hh.nx)::AV.undef::AV.undef::(AV.bool false)::AV.undef::AV.undef::(Pt hh.nx)::(Pt hh.nx)::j.ao::bf::(AV.ptr hh.nx 2)::(AV.slice aP 0 placedN placedN false)::z2::(Zn ((aF j.ab order aj).length))::(Zi 0)::lk 9):List AV).getD k_ AV.undef) h4 nW (LS.trans (Q7.trans yU)) o! l! l! (fA.a _ _ (bW _ _ bQ)) (fA.a _ _ (bW _ _ b5)) (fA.a _ _ bk)
 cases j3:fi j order aj from_ ((((aF j.ab order aj).length:Nat):Int) - 0).toNat 0 aj ar with
 | inl Q3=>
   obtain ⟨alG,yl6,h7,j2,eO,HL,se,CE,Hk,Q9,PT,agd,LC⟩:=cA.n j3 lp4
   have du:Has h h7:=(n7.trans se)
   have e:eK j aj ar order from_=(true,Q3.1,Q3.2):=by simp only[eK,j3,cond_true,cond_false]
   rw[e]
   exact fU rfl (aZ Tryz.func18 yn rfl (.inr rfl) (pk (d+5) _ _ hh _ h7 (mH<|LL j2<|CC<|ZZ) k!) k!) aA eO o! ⟨du,CE,l!,Hk,l!⟩ (fun q=>⟨ay,cK q bQ CE,l!,cK q b5 Hk,l!⟩)
 | inr DZ=>
   obtain ⟨alG,yl6,h7,j2,eO,HL,se,Hl,age,Hm,agf⟩:=cA.r j3 lp4
   have du:Has h h7:=(n7.trans se)
   have e:eK j aj ar order from_=(DZ.1,DZ.2.1,DZ.2.2):=by simp only[eK,j3,cond_true,cond_false]
   rw[e]
   exact fU rfl (aZ Tryz.func18 yn rfl (.inr rfl) (pk (d+5) _ _ hh _ h7 (mH<|LL j2<|ZZ) k!) k!) aA eO o! ⟨du,Hl,l!,Hm,l!⟩ (fun q=>⟨ay,cK q bQ Hl,l!,cK q b5 Hm,l!⟩)
theorem dK {p:Prop} (h:p:=by first | omega | assumption | exact (cZ (by assumption)) | exact (cZ (by assumption)).ro | exact (cZ (by assumption)).nr | exact Nat.le_trans (cZ (by assumption)).nt (by decide) | exact (qC (by assumption)).2 | exact adO (cZ (by assumption)) | exact adK (cZ (by assumption)) | (have u_:=(qC (by assumption)).1;have v_:=(cZ (by assumption)).nt;omega)):p:=h
noncomputable def Hn:Code:=(Tryz.f6.body).getD .skip
theorem rf:Tryz.f6.body=some Hn:=by kernel_rfl
def iM (j:cG) (order:List Int):List Int×Int:=(bif (!decide ((fD j)=0)) then ([],(fD j)) else (bif (!(gB order ((j.ab.length:Nat):Int))) then ([],1) else (bif (!((eK j ((ba j).2.1) ((ba j).2.2) order 0).1)) then ([],9) else ((eK j ((ba j).2.1) ((ba j).2.2) order 0).2.2,0))))
theorem OO {d:Nat} {h:aw} {bf:AV} (j:cG) (order:List Int) (bZ:aG.ok h j) (cQ:bS h .i64 3 bf order) (nE:j.af.length=0) (ct:Tidy h):∃z hk,cU (d+12) (.fn 6) [(AV.agg [j.ao,j.ai]),bf] h= .ret (AV.tuple [z,(Zi ((iM j order).2))]) hk∧bp h hk∧bS hk .i64 3 z (iM j order).1:=by
 have mI:=cQ.small
 have eT:=bZ.1.small
 have eU:=bZ.2.small
 obtain ⟨h1,dH,cP,kr,bk,bW⟩:=kh ct (aH.cells [j.ao,j.ai] 25 false)
 have bB:Has h h1:=bW
 have k2:=Jz (d:=d) j (aG.mono bB bZ) cP
 have dR:=fun {al ps} (k:Pk al _ ps)=>(NN dH (fun i=>(Pt i))<|CN 2<|MM (aI 25 0 (AV.agg [j.ao,j.ai]) bk k!)<|EE k2<|CN 2<|VV (pa 29 false true .i64 (fD j) 0)<|k:Pk _ [] ps)
 rcases Bool.eq_false_or_eq_true (!decide ((fD j)=0)) with f0 | f0
 · have dx:=HJ f0
   have e:iM j order=([],(fD j)):=by simp only[iM,f0,cond_true,cond_false]
   rw[e]
   exact ⟨.aD,eu rfl (aZ Tryz.func6 rf rfl (.inr rfl) (pk (d+11) _ _ h _ h1 (dR<|BB f0<|CN 3<|ZZ) k!) k!) ct ⟨cP,bB,by omega⟩ (P:=fun hh=>bS hh .i64 3 AV.aD ([])) (bS.nil k! k!) fun _=>bS.nil k! k!⟩
 · have dx:=HK f0
   have nt:=(cZ dx).nt
   have Eg:cc (some (.slice 39)) (some j.ao)=some (Zn j.ab.length):=bZ.1.len
   have k5:=Dy (d:=d+9) order ((j.ab.length:Nat):Int) (cQ.has bB) dK dK cP
   have hI:=fun {al ps} (k:Pk al _ ps)=>(dR<|BB f0<|CN 2<|MM (aI 22 0 j.ao bk k!)<|VV Eg<|EE k5<|CC<|k:Pk _ [] ps)
   rcases Bool.eq_false_or_eq_true (!(gB order ((j.ab.length:Nat):Int))) with f1 | f1
   · have e:iM j order=([],1):=by simp only[iM,f0,f1,cond_true,cond_false]
     rw[e]
     exact ⟨.aD,eu rfl (aZ Tryz.func6 rf rfl (.inr rfl) (pk (d+11) _ _ h _ h1 (hI<|BB f1<|CN 2<|ZZ) k!) k!) ct ⟨cP,bB,by omega⟩ (P:=fun hh=>bS hh .i64 3 AV.aD ([])) (bS.nil k! k!) fun _=>bS.nil k! k!⟩
   · obtain ⟨pb7,Vi,zb9,alB,lU,OH,fI,zD,zE,Q',agh,agi,agj,agk,agl,agm,agn,ago⟩:=AG (d:=d+8) j (aG.mono bB bZ) dK dK dK cP
     have g7:=fI.y
     have Jy:h1.nx≤lU.nx:=fI.n
     have agp:=x8 j dK
     obtain rfl:=nG.akm Q' o!
     have iB:Has h lU:=bB.trans fI.a
     have aiX:=g7 _ _ zD
     have aiY:=g7 _ _ zE
     obtain ⟨FJ,Zs,xW,Xh,Zt,qD⟩:=kh g7 (aH.cells [AV.aD,AV.aD,AV.aD,AV.aD,AV.aD] 76 false)
     have sc:Has h FJ:=iB.trans qD
     have CG:Has lU FJ:=qD
     have agr:AV.scalar j.ao=true:=bZ.1.scalar
     have ags:AV.scalar j.ai=true:=bZ.2.scalar
     obtain ⟨I3,Zu,uE,aiZ,ON,mB⟩:=qi (t:=76) (n:=5) (i:=lU.nx) (L:=[j.ao,j.ai,(AV.slice pb7 0 j.ab.length j.ab.length false),(AV.slice Vi 0 j.ab.length j.ab.length false),AV.aD]) xW Zt k! rfl rfl (by simp only[AV.cells,List.all_cons,List.all_nil,Bool.and_true,Bool.and_self,iE,gd,iF,iG,eP,lF,lG,lH,lI,lJ,iH,agr,ags])
     have Dg:Has h I3:=Has.ei sc mB ct o!
     have UR:Has lU I3:=Has.ei CG mB g7 o!
     obtain ⟨agt,Ra,acG,LV,LW,re⟩:=dO uE (mB _ _ o! (qD _ _ zD))
     have Rb:Has h agt:=bM Dg (by first | assumption | exact hG ct o!) re
     obtain ⟨Ox,G8,S0,Bh,Bi,nu⟩:=dO Ra ((re _ o!).trans (mB _ _ o! (qD _ _ zE)))
     have CH:Ox.get pb7=none:=(nu _ o!).trans LV
     have zz:Has h Ox:=bM Rb (by first | assumption | exact hG ct o!) nu
     obtain ⟨h20,ai0,Sg,ame,Zy,ajA,ajB,acH,ajC⟩:=Im (d:=d+5) (h:=Ox) (placedN:=j.ab.length) (startsN:=j.ab.length) j ((ba j).2.1) ((ba j).2.2) order 0 (aG.mono zz bZ) (cQ.has zz) (mB _ _ o! (qD _ _ zD)) l! CH (mB _ _ o! (qD _ _ zE)) l! Bh dK dK dK dK dK dK dK dK dK o! G8 uE (Bi.trans LW) o!
     have Sh:Has h h20:=(zz.trans Zy)
     have mH:=fun {al ps} (k:Pk al _ ps)=>(hI<|BM f1 (aI 25 0 (AV.agg [j.ao,j.ai]) bk k!)<|EE OH<|NN Zs (fun i=>(Pt i))<|SS Zu<|MM (aI 76 0 (AV.agg [j.ao,j.ai,(AV.slice pb7 0 j.ab.length j.ab.length false),(AV.slice Vi 0 j.ab.length j.ab.length false),AV.aD]) ON k!)<|CC<|EE ai0<|CC<|k:Pk _ [] ps)
     rcases Bool.eq_false_or_eq_true (!((eK j ((ba j).2.1) ((ba j).2.2) order 0).1)) with f2 | f2
     · have e:iM j order=([],9):=by simp only[iM,f0,f1,f2,cond_true,cond_false]
       rw[e]
       exact ⟨.aD,eu rfl (aZ Tryz.func6 rf rfl (.inr rfl) (pk (d+11) _ _ h _ h20 (mH<|BB f2<|CN 2<|ZZ) k!) k!) ct ⟨Sg,Sh,by omega⟩ (P:=fun hh=>bS hh .i64 3 AV.aD ([])) (bS.nil k! k!) fun _=>bS.nil k! k!⟩
     · have e:iM j order=((eK j ((ba j).2.1) ((ba j).2.2) order 0).2.2,0):=by simp only[iM,f0,f1,f2,cond_true,cond_false]
       rw[e]
       exact ⟨(AV.slice Vi 0 j.ab.length j.ab.length false),eu rfl (aZ Tryz.func6 rf rfl (.inr rfl) (pk (d+11) _ _ h _ h20 (mH<|BC f2<|MM (aI 26 3 (AV.slice Vi 0 j.ab.length j.ab.length false) (Zy _ _ ((nu _ o!).trans ((re _ o!).trans ON))) k!)<|CN 2<|ZZ) k!) k!) ct ⟨Sg,Sh,by omega⟩ (P:=fun hh=>bS hh .i64 3 (AV.slice Vi 0 j.ab.length j.ab.length false) ((eK j ((ba j).2.1) ((ba j).2.2) order 0).2.2)) (bS.own (op:=false) k! k! acH l! o!) fun v=>(r_ (KC v) o!).elim⟩
def bC (j:cG) (order:List Int):List Int×Int:=bif decide (0<j.af.length) then kb j order else iM j order
theorem OP {d:Nat} {h:aw} {bf:AV} (j:cG) (order:List Int) (bZ:aG.ok h j) (cQ:bS h .i64 3 bf order) (ct:Tidy h):∃z hk,cU (d+12) (.fn 6) [(AV.agg [j.ao,j.ai]),bf] h= .ret (AV.tuple [z,(Zi ((bC j order).2))]) hk∧bp h hk∧bS hk .i64 3 z (bC j order).1:=by
 rw[bC]
 by_cases r:0<j.af.length
 · rw[decide_eq_true r,cond_true];exact Q_ j order bZ cQ r ct
 · rw[decide_eq_false r,cond_false];exact OO j order bZ cQ o! ct
noncomputable def mC:Code:=(Tryz.f3.body).getD .skip
theorem uP:Tryz.f3.body=some mC:=by kernel_rfl
noncomputable def nB:Code:=(kT mC).getD 1 .skip
noncomputable def kH:Code:=(kT mC).getD 5 .skip
def jl (j:cG) (order:List Int):Bool:=(bif (bif (jc j 8) then true else (decide (100<((order.length:Nat):Int)))) then true else (bif (decide (((bC j order).2)=((bG j order).2))) then (bif (kz ((bC j order).1) ((bG j order).1)) then true else false) else false))
theorem D6 {d:Nat} {h:aw} {bf:AV} (j:cG) (order:List Int) (bZ:aG.ok h j) (cQ:bS h .i64 3 bf order) (ct:Tidy h):cU (d+13) (.fn 3) [(AV.agg [j.ao,j.ai]),bf] h= .ret (AV.bool (jl j order)) h:=by
 have mI:=cQ.small
 have eT:=bZ.1.small
 have eU:=bZ.2.small
 obtain ⟨h1,dH,cP,kr,bk,bW⟩:=kh ct (aH.cells [j.ao,j.ai] 25 false)
 have bB:Has h h1:=bW
 obtain ⟨Ee,ze⟩:∃Ee:Nat→AV,Ev env (cU (d+12)) nB ⟨((AV.agg [j.ao,j.ai])::bf::(Pt h.nx)::AV.undef::(AV.bool false)::lk 35),h1,[],.no⟩ .normal ⟨((AV.agg [j.ao,j.ai])::bf::(Pt h.nx)::AV.undef::(AV.bool false)::AV.undef::AV.undef::AV.undef::AV.undef::rx Ee 9 6 ((AV.bool (bif (jc j 8) then true else (decide (100<((order.length:Nat):Int)))))::lk 24)),h1,[],.no⟩:=by
  have k2:=UP (d:=d+11) j 8 (aG.mono bB bZ) cP
  rcases Bool.eq_false_or_eq_true (jc j 8) with f0 | f0
  · have ev:=pk (d+12) nB ((AV.agg [j.ao,j.ai])::bf::(Pt h.nx)::AV.undef::(AV.bool false)::lk 35) h1 .normal h1 (MM (aI 25 0 (AV.agg [j.ao,j.ai]) bk k!)<|EE k2<|CC<|BB f0<|BB f0<|BV f0 (xV true f0)<|ZZ) k!
    rw[show (bif (jc j 8) then true else (decide (100<((order.length:Nat):Int))))=true by simp only[f0,cond_true,cond_false]]
    exact kI ev k!
  · have Eg:cc (some (.slice 3)) (some bf)=some (Zn order.length):=cQ.len
    have ev:=pk (d+12) nB ((AV.agg [j.ao,j.ai])::bf::(Pt h.nx)::AV.undef::(AV.bool false)::lk 35) h1 .normal h1 (MM (aI 25 0 (AV.agg [j.ao,j.ai]) bk k!)<|EE k2<|CC<|BC f0<|BV f0 Eg<|BV f0 (dw 3 false true .i64 ((order.length:Nat):Int) 100)<|VV (b8 (a:=some (AV.bool true)) (b:=some (AV.bool (decide (100<((order.length:Nat):Int))))) f0)<|ZZ) k!
    rw[show (bif (jc j 8) then true else (decide (100<((order.length:Nat):Int))))=(decide (100<((order.length:Nat):Int))) by simp only[f0,cond_true,cond_false]]
    exact kI ev k!
 rcases Bool.eq_false_or_eq_true (bif (jc j 8) then true else (decide (100<((order.length:Nat):Int)))) with f0 | f0
 · have k4:(cU (d+12)) (.fn 5) [] h1= .ret (.bool true) h1:=rfl
   have e:jl j order=true:=by simp only[jl,f0,cond_true,cond_false]
   rw[e]
   exact aE rfl (aZ Tryz.func3 uP rfl (.inr rfl) (pk (d+12) _ _ h _ h1 (NN dH (fun i=>(Pt i))<|CC<|LL ze<|BB f0<|EE k4<|CC<|ZZ) k!) k!) bB rfl
 · obtain ⟨z4,h6,alH,Bn,fz5⟩:=OP (d:=d) j order (aG.mono bB bZ) (cQ.has bB) cP
   have kM:=Bn.y
   have abS:h1.nx≤h6.nx:=Bn.n
   have jA:Has h h6:=bB.trans Bn.a
   have amf:=fz5.small
   obtain ⟨z7,h9,PW,mf,fz8⟩:=Q1 (d:=d+6) j order (aG.mono jA bZ) (cQ.has jA) kM
   have pF:=mf.y
   have KQ:h6.nx≤h9.nx:=mf.n
   have my:Has h h9:=jA.trans mf.a
   have acJ:Has h6 h9:=mf.a
   have aiP:=fz8.small
   obtain ⟨ai1,acK⟩:∃ai1:Nat→AV,Ev env (cU (d+12)) kH ⟨((AV.agg [j.ao,j.ai])::bf::(Pt h.nx)::AV.undef::(AV.bool false)::z4::(Zi ((bC j order).2))::z7::(Zi ((bG j order).2))::rx Ee 9 6 ((AV.bool (bif (jc j 8) then true else (decide (100<((order.length:Nat):Int)))))::AV.undef::(AV.tuple [z4,(Zi ((bC j order).2))])::(AV.agg [j.ao,j.ai])::bf::(AV.tuple [z4,(Zi ((bC j order).2))])::z4::(Zi ((bC j order).2))::(AV.tuple [z7,(Zi ((bG j order).2))])::(AV.agg [j.ao,j.ai])::bf::(AV.tuple [z7,(Zi ((bG j order).2))])::z7::(Zi ((bG j order).2))::lk 11)),h9,[],.no⟩ .normal ⟨((AV.agg [j.ao,j.ai])::bf::(Pt h.nx)::AV.undef::(AV.bool (bif (decide (((bC j order).2)=((bG j order).2))) then (bif (kz ((bC j order).1) ((bG j order).1)) then true else false) else false))::z4::(Zi ((bC j order).2))::z7::(Zi ((bG j order).2))::rx Ee 9 6 ((AV.bool (bif (jc j 8) then true else (decide (100<((order.length:Nat):Int)))))::AV.undef::(AV.tuple [z4,(Zi ((bC j order).2))])::(AV.agg [j.ao,j.ai])::bf::(AV.tuple [z4,(Zi ((bC j order).2))])::z4::(Zi ((bC j order).2))::(AV.tuple [z7,(Zi ((bG j order).2))])::(AV.agg [j.ao,j.ai])::bf::(AV.tuple [z7,(Zi ((bG j order).2))])::z7::(Zi ((bG j order).2))::rx ai1 29 11 [])),h9,[],.no⟩:=by
    rcases Bool.eq_false_or_eq_true (decide (((bC j order).2)=((bG j order).2))) with f0 | f0
    · have dx:=of_decide_eq_true f0
      have U9:=Zc (d:=d+11) ((bC j order).1) ((bG j order).1) (fz5.has acJ) fz8 pF
      rcases Bool.eq_false_or_eq_true (kz ((bC j order).1) ((bG j order).1)) with f1 | f1
      · have k13:(cU (d+12)) (.fn 5) [] h9= .ret (.bool true) h9:=rfl
        have ev:=pk (d+12) kH ((AV.agg [j.ao,j.ai])::bf::(Pt h.nx)::AV.undef::(AV.bool false)::z4::(Zi ((bC j order).2))::z7::(Zi ((bG j order).2))::rx Ee 9 6 ((AV.bool (bif (jc j 8) then true else (decide (100<((order.length:Nat):Int)))))::AV.undef::(AV.tuple [z4,(Zi ((bC j order).2))])::(AV.agg [j.ao,j.ai])::bf::(AV.tuple [z4,(Zi ((bC j order).2))])::z4::(Zi ((bC j order).2))::(AV.tuple [z7,(Zi ((bG j order).2))])::(AV.agg [j.ao,j.ai])::bf::(AV.tuple [z7,(Zi ((bG j order).2))])::z7::(Zi ((bG j order).2))::lk 11)) h9 .normal h9 (CN 2<|VV (xy 29 false false .i64 ((bC j order).2) ((bG j order).2))<|CC<|BC f0<|BC f0<|BB f0<|EE U9<|VV (pe (kz ((bC j order).1) ((bG j order).1)) false f0)<|CC<|BB f1<|EE k13<|VV (pe true false f1)<|CC<|ZZ) k!
        rw[show (bif (decide (((bC j order).2)=((bG j order).2))) then (bif (kz ((bC j order).1) ((bG j order).1)) then true else false) else false)=true by simp only[f0,f1,cond_true,cond_false]]
        exact kI ev k!
      · have ev:=pk (d+12) kH ((AV.agg [j.ao,j.ai])::bf::(Pt h.nx)::AV.undef::(AV.bool false)::z4::(Zi ((bC j order).2))::z7::(Zi ((bG j order).2))::rx Ee 9 6 ((AV.bool (bif (jc j 8) then true else (decide (100<((order.length:Nat):Int)))))::AV.undef::(AV.tuple [z4,(Zi ((bC j order).2))])::(AV.agg [j.ao,j.ai])::bf::(AV.tuple [z4,(Zi ((bC j order).2))])::z4::(Zi ((bC j order).2))::(AV.tuple [z7,(Zi ((bG j order).2))])::(AV.agg [j.ao,j.ai])::bf::(AV.tuple [z7,(Zi ((bG j order).2))])::z7::(Zi ((bG j order).2))::lk 11)) h9 .normal h9 (CN 2<|VV (xy 29 false false .i64 ((bC j order).2) ((bG j order).2))<|CC<|BC f0<|BC f0<|BB f0<|EE U9<|VV (pe (kz ((bC j order).1) ((bG j order).1)) false f0)<|CC<|BV f1 (sS false f1)<|CC<|ZZ) k!
        rw[show (bif (decide (((bC j order).2)=((bG j order).2))) then (bif (kz ((bC j order).1) ((bG j order).1)) then true else false) else false)=false by simp only[f0,f1,cond_true,cond_false]]
        exact kI ev k!
    · have dx:=of_decide_eq_false f0
      have ev:=pk (d+12) kH ((AV.agg [j.ao,j.ai])::bf::(Pt h.nx)::AV.undef::(AV.bool false)::z4::(Zi ((bC j order).2))::z7::(Zi ((bG j order).2))::rx Ee 9 6 ((AV.bool (bif (jc j 8) then true else (decide (100<((order.length:Nat):Int)))))::AV.undef::(AV.tuple [z4,(Zi ((bC j order).2))])::(AV.agg [j.ao,j.ai])::bf::(AV.tuple [z4,(Zi ((bC j order).2))])::z4::(Zi ((bC j order).2))::(AV.tuple [z7,(Zi ((bG j order).2))])::(AV.agg [j.ao,j.ai])::bf::(AV.tuple [z7,(Zi ((bG j order).2))])::z7::(Zi ((bG j order).2))::lk 11)) h9 .normal h9 (CN 2<|VV (xy 29 false false .i64 ((bC j order).2) ((bG j order).2))<|CC<|BB f0<|BB f0<|BV f0 (sS false f0)<|CC<|FF<|CN 2<|ZZ) k!
      rw[show (bif (decide (((bC j order).2)=((bG j order).2))) then (bif (kz ((bC j order).1) ((bG j order).1)) then true else false) else false)=false by simp only[f0,cond_true,cond_false]]
      exact kI ev k!
   have e:jl j order=(bif (decide (((bC j order).2)=((bG j order).2))) then (bif (kz ((bC j order).1) ((bG j order).1)) then true else false) else false):=by simp only[jl,f0,cond_true,cond_false]
   rw[e]
   exact aE rfl (aZ Tryz.func3 uP rfl (.inr rfl) (pk (d+12) _ _ h _ h9 (NN dH (fun i=>(Pt i))<|CC<|LL ze<|BM f0 (aI 25 0 (AV.agg [j.ao,j.ai]) bk k!)<|CC<|EE alH<|CN 5<|MM (aI 25 0 (AV.agg [j.ao,j.ai]) (Bn.a _ _ bk) k!)<|CC<|EE PW<|CN 5<|LL acK<|ZZ) k!) k!) my rfl
theorem OQ (j:cG):fD j=ek j:=Za j fun _ _=>⟨congrArg List.length (Jm j),Ut j⟩
theorem S_ {l:List Int} {i0:Nat}:∀k i,dr i0 l k i=bif anyI (fun q=>decide (l.g q=l.g i0)) k i then some false else none
 | 0,i=>rfl
 | k+1,i=>by
   rw[dr,anyI,S_ k]
   cases decide (l.g i=l.g i0)<;>rfl
theorem JD {P:Nat→Bool}:∀k i,anyI P (k+1) i=(anyI P k i||P (i+k))
 | 0,i=>by show (P i||false)=(false||P i);rw[Bool.or_false,Bool.false_or]
 | k+1,i=>by rw[anyI,JD k (i+1),anyI,Bool.or_assoc,show i+1+k=i+(k+1) by omega]
def ai2 (x:List Bool ⊕ Bool):Bool:=match x with | Sum.inl _=>true | Sum.inr r=>r
def ai3 (x:Option Bool):Bool:=match x with | none=>true | some r=>r
theorem S' {order:List Int} {n:Nat}:∀(k i:Nat) (a:List Bool),i+k=n→a.length=n→(∀x:Int,0≤x→x<(n:Int)→a.g (Int.toNat x)=anyI (fun q=>decide (order.g q=x)) i 0)→ai2 (ef order (n:Int) k i a)=ai3 (cz (n:Int) order k i)
 | 0,i,a,h,hl,inv=>rfl
 | k+1,i,a,h,hl,inv=>by
   rw[ef,cz,S_]
   unfold iI
   by_cases c0:order.g i<0
   · rw[decide_eq_true c0,decide_eq_false (by omega:¬0≤order.g i)];rfl
   · rw[decide_eq_false c0,decide_eq_true (by omega:0≤order.g i),cond_true,cond_false]
     by_cases c1:(n:Int)≤order.g i
     · rw[decide_eq_true c1,decide_eq_false (by omega:¬order.g i<(n:Int))];rfl
     · rw[decide_eq_false c1,decide_eq_true (by omega:order.g i<(n:Int)),Bool.not_true,cond_false,cond_false,inv _ o! o!]
       cases e:anyI (fun q=>decide (order.g q=order.g i)) i 0 with
       | true=>rfl
       | false=>
         rw[cond_false,cond_false]
         refine S' k (i+1) _ o! (by rw[List.length_set];exact hl) fun x x0 x1=>?_
         rw[JD,Nat.zero_add,QL]
         by_cases z:order.g i=x
         · rw[if_pos ⟨by rw[z],by omega⟩,decide_eq_true z,Bool.or_true]
         · rw[if_neg fun w=>z o!,inv x x0 x1,decide_eq_false z,Bool.or_false]
theorem OS (order:List Int) (n:Nat):gB order (n:Int)=da order (n:Int):=by
 rw[gB,da]
 by_cases a:((order.length:Nat):Int)=(n:Int)
 · rw[decide_eq_true a,Bool.not_true,cond_false,cond_false]
   have e:order.length=n:=by omega
   have:=S' (order:=order) (n:=n) n 0 (List.replicate n false) (Nat.zero_add _) List.length_replicate fun x _ _=>adA
   rw[Int.toNat_natCast,e]
   exact this
 · rw[decide_eq_false a];rfl
variable {j:cG} {order:List Int}
def pick (ts:List Task) (order:List Int) (a:List Bool):Option Nat:=il (fun k=>Jj ts a (Int.toNat (order.g k))) order.length 0
theorem OT {ts:List Task}:∀(k i:Nat) (v:List Int) (a:List Bool),cm order ts k i v a=match il (fun k=>Jj ts a (Int.toNat (order.g k))) k i with | some q=>(v++[order.g q],a.set (Int.toNat (order.g q)) true) | none=>(v,a)
 | 0,i,v,a=>rfl
 | k+1,i,v,a=>by
   rw[cm,il,Jk,OT k (i+1)]
   cases Jj ts a (Int.toNat (order.g i))<;>rfl
theorem Rc {a:List Bool}:∀(m kq:Nat) (v:Int),m≤kq→bn order a j kq v ((m:Int) - 1)=match il (fun k=>Jj j.ab a (Int.toNat (order.g k))) m 0 with | some q=>order.g q | none=>v
 | 0,kq,v,h=>by
   cases kq with
   | zero=>rw[bn];rfl
   | succ kq=>rw[bn,decide_eq_false (by omega:¬(0:Int)≤((0:Nat):Int) - 1)];rfl
 | m+1,0,v,h=>by omega
 | m+1,kq+1,v,h=>by
   rw[bn,decide_eq_true (by omega:(0:Int)≤((m+1:Nat):Int) - 1),cond_true,show ((m+1:Nat):Int) - 1=((m:Nat):Int) by omega,Int.toNat_natCast,Rc m kq _ o!,Rc m kq _ o!,wg,Nat.zero_add]
   have e:Jj j.ab a (Int.toNat (order.g m))=(!(a.g (Int.toNat (order.g m)))&&hQ (j.ab.g (Int.toNat (order.g m))) a):=rfl
   rw[e]
   cases a.g (Int.toNat (order.g m))<;>cases hQ (j.ab.g (Int.toNat (order.g m))) a<;>cases il (fun k=>Jj j.ab a (Int.toNat (order.g k))) m 0<;>rfl
def Io (ts:List Task) (order:List Int):Nat→List Bool→List Int
 | 0,_=> []
 | k+1,a=>match pick ts order a with | some q=>order.g q::Io ts order k (a.set (Int.toNat (order.g q)) true) | none=> []
theorem JE {ts:List Task} {a:List Bool} (h:pick ts order a=none):∀k,Io ts order k a=[]
 | 0=>rfl
 | k+1=>by rw[Io,h]
theorem Ta {ts:List Task}:∀(k i:Nat) (v:List Int) (a:List Bool),(cT order ts k i v a).1=v++Io ts order k a
 | 0,i,v,a=>by rw[cT,Io,List.append_nil]
 | k+1,i,v,a=>by
   have e:cm order ts order.length 0 v a=match pick ts order a with | some q=>(v++[order.g q],a.set (Int.toNat (order.g q)) true) | none=>(v,a):=OT _ 0 v a
   rw[cT,Ta k,e,Io]
   cases h:pick ts order a with
   | none=>rw[JE h]
   | some q=>
     show v++[order.g q]++_=v++order.g q::_
     rw[List.append_assoc];rfl
theorem agv (ts:List Task) (order:List Int) (p:List Bool):aF ts order p=Io ts order order.length p:=by
 rw[aF,Ta,List.nil_append];rfl
def yp (j:cG):List Int→List Bool→List Int→List Tl→(List Bool×List Int×List Tl)⊕(Bool×List Bool×List Int×List Tl)
 | [],a,b,c=>Sum.inl (a,b,c)
 | t::l,a,b,c=>bif (b_ j a b c t 0).1 then yp j l (b_ j a b c t 0).2.1 (b_ j a b c t 0).2.2.1 (b_ j a b c t 0).2.2.2 else Sum.inr (false,(b_ j a b c t 0).2.1,(b_ j a b c t 0).2.2.1,(b_ j a b c t 0).2.2.2)
theorem adS {p:List Bool}:∀(kq v:Nat) (a:List Bool) (b:List Int) (c:List Tl),(aF j.ab order p).length≤v+kq→fL j order p 0 kq (v:Int) a b c=yp j ((aF j.ab order p).drop v) a b c
 | 0,v,a,b,c,h=>by rw[fL,List.drop_eq_nil_of_le o!];rfl
 | kq+1,v,a,b,c,h=>by
   rw[fL]
   by_cases f:v<(aF j.ab order p).length
   · rw[decide_eq_true (by omega:(v:Int)<((aF j.ab order p).length:Int)),cond_true,show ((v:Int)+1)=((v+1:Nat):Int) by omega,adS kq (v+1) _ _ _ o!,Int.toNat_natCast,Ch f,yp]
     cases (b_ j a b c ((aF j.ab order p).g v) 0).1<;>rfl
   · rw[decide_eq_false (by omega:¬(v:Int)<((aF j.ab order p).length:Int)),cond_false,List.drop_eq_nil_of_le o!];rfl
theorem Zz {a:List Bool} {b:List Int} {t f:Int} (u0:(j.ab.g (Int.toNat t)).au.length=0):(b_ j a b [] t f).2.2.2=[]:=by
 rw[b_]
 cases decide (100000<fo (nq j t) (asks j [] t) (bE j b t (j.ab.g (Int.toNat t)).ax.length 0 f)+(j.ab.g (Int.toNat t)).takes) with
 | true=>rfl
 | false=>
   rw[cond_false,yZ,List.eq_nil_of_length_eq_zero u0];rfl
theorem ZA {p:List Bool} (F:cu j) (hr:j.af.length=0) (ho:∀q,q<order.length→0≤order.g q∧order.g q<(j.ab.length:Int)):∀(kq v:Nat) (a:List Bool) (b:List Int),(aF j.ab order p).length≤v+kq→fi j order p 0 kq (v:Int) a b=match yp j ((aF j.ab order p).drop v) a b [] with | Sum.inl x=>Sum.inl (x.1,x.2.1) | Sum.inr y=>Sum.inr (y.1,y.2.1,y.2.2.1)
 | 0,v,a,b,h=>by rw[fi,List.drop_eq_nil_of_le o!];rfl
 | kq+1,v,a,b,h=>by
   rw[fi]
   by_cases f:v<(aF j.ab order p).length
   · have t:=(qw j.ab order p ho).2 v f
     have u0:=F.u0 hr (i:=Int.toNat ((aF j.ab order p).g v)) o!
     rw[decide_eq_true (by omega:(v:Int)<((aF j.ab order p).length:Int)),cond_true,show ((v:Int)+1)=((v+1:Nat):Int) by omega,ZA F hr ho kq (v+1) _ _ o!,Int.toNat_natCast,Ch f,yp,Jv _ _ _ _ _ u0,Zz u0]
     cases (b_ j a b [] ((aF j.ab order p).g v) 0).1<;>rfl
   · rw[decide_eq_false (by omega:¬(v:Int)<((aF j.ab order p).length:Int)),cond_false,List.drop_eq_nil_of_le o!];rfl
theorem ZB {p:List Bool} {s:List Int} {T:List Tl} {i:Nat}:b_ j p s T (i:Int) 0=bif decide (100000<UL j s T i+(j.ab.g i).takes) then (false,p,s,T) else (true,p.set i true,s.set i (UL j s T i),(jN j p s T (i:Int) (UL j s T i)).2.2):=by
 rw[b_,Int.toNat_natCast]
 show (bif decide (100000<UL j s T i+(j.ab.g i).takes) then (false,p,s,T) else (true,(jN j p s T (i:Int) (UL j s T i)).1,(jN j p s T (i:Int) (UL j s T i)).2.1,(jN j p s T (i:Int) (UL j s T i)).2.2))=_
 rw[yZ,Int.toNat_natCast]
def zV (u:(List Bool×List Int×List Tl)⊕(Bool×List Bool×List Int×List Tl)) (r:Bool×List Int×List Bool):Prop:=match u with | Sum.inl x=>r.1=true∧r.2.1=x.2.1 | Sum.inr y=>r.1=false∧y.1=false
theorem Bz (F:cu j) (ho:∀q,q<order.length→0≤order.g q∧order.g q<(j.ab.length:Int)):∀(k kq:Nat) (p:List Bool) (s:List Int) (T:List Tl) (c:Nat),p.length=j.ab.length→s.length=j.ab.length→Tm j s→INV j p s c T→c+nF p≤64→nF p≤k→nF p+1≤kq→zV (yp j (Io j.ab order k p) p s T) (fC order j 0 kq s p)
 | k,0,p,s,T,c,pl,sl,tm,I,h1,h2,h3=>by omega
 | k,kq+1,p,s,T,c,pl,sl,tm,I,h1,h2,h3=>by
   have sp:bn order p j (Int.toNat ((((order.length:Nat):Int) - 1)+1)) (-1) (((order.length:Nat):Int) - 1)=match pick j.ab order p with | some q=>order.g q | none=> -1:=by
    rw[show Int.toNat ((((order.length:Nat):Int) - 1)+1)=order.length by omega,Rc _ _ _ (Nat.le_refl _)];rfl
   rw[fC]
   cases e:pick j.ab order p with
   | none=>
     rw[e] at sp
     rw[sp,JE e]
     exact ⟨rfl,rfl⟩
   | some q=>
     rw[e] at sp
     have sp:bn order p j (Int.toNat ((((order.length:Nat):Int) - 1)+1)) (-1) (((order.length:Nat):Int) - 1)=order.g q:=sp
     have f:=qW e
     have g:=Yn f.1
     have oq:=ho q o!
     obtain ⟨i,hi⟩:∃i:Nat,order.g q=(i:Int):=⟨Int.toNat (order.g q),by omega⟩
     rw[hi,Int.toNat_natCast] at g
     rw[hi] at oq
     have Hy:i<j.ab.length:=by omega
     have n:=Gh (l:=p) (n:=i) o! g.1
     have rd:Rdy j p i:=fun x hx=>by
      have r:=g.2
      rw[N5] at r
      have:=zm (P:=fun n=> !(p.g (Int.toNat ((j.ab.g i).ax.g n)))) (k:=(j.ab.g i).ax.length) (i:=0) (by
       cases z:anyI (fun n=> !(p.g (Int.toNat ((j.ab.g i).ax.g n)))) (j.ab.g i).ax.length 0
       · rfl
       · rw[z] at r;cases r) x (Nat.zero_le _) o!
      cases y:p.g (Int.toNat ((j.ab.g i).ax.g x))
      · rw[y] at this;cases this
      · rfl
     have L:=UM F tm I o! Hy rd
     have tk:=F.tk i Hy
     match k,h2 with
     | 0,h2=>omega
     | k+1,h2=>
       rw[sp,Io,e]
       show zV (yp j (order.g q::Io j.ab order k (p.set (Int.toNat (order.g q)) true)) p s T) _
       rw[hi,yp,ZB,Int.toNat_natCast,decide_eq_false (by omega:¬((i:Int)<0)),cond_false]
       by_cases z:100000<UL j s T i+(j.ab.g i).takes
       · rw[decide_eq_true z]
         have none_:∀x,cC j s p (i:Int) x=false:=fun x=>by
          cases w:cC j s p (i:Int) x with
          | false=>rfl
          | true=>
            have a:=L.2.2 x w
            have b:=((Ba F tm Hy x).1 w).1.2
            omega
         rw[Ih F tm Hy none_]
         exact ⟨rfl,rfl⟩
       · rw[decide_eq_false z]
         have ea:=Ow F tm Hy L.1 (L.2.1 o!) L.2.2
         rw[ea,decide_eq_false (by omega:¬(UL j s T i<0)),cond_false]
         refine Bz F ho k kq _ _ _ (c+1) (by rw[List.length_set];exact pl) (by rw[List.length_set];exact sl) (fun x hx=>?_) (acb F Hy o! g.1 pl sl L.1 o! I p s) o! o! o!
         by_cases y:i=x
         · subst y;rw[iL o!];omega
         · rw[bj y];exact tm x hx
theorem UU (j:cG) (order:List Int):bC j order=bG j order:=by
 rw[bC,bG,kb,iM,OQ,OS]
 by_cases a:ek j=0
 · rw[decide_eq_true a,Bool.not_true,cond_false,cond_false,cond_true]
   have F:=cZ ((OQ j).trans a)
   cases b:da order ((j.ab.length:Nat):Int) with
   | false=>rw[Bool.not_false,cond_true,cond_true,cond_true];cases decide (0<j.af.length)<;>rfl
   | true=>
     have ok:=qC (order:=order) (n:=((j.ab.length:Nat):Int)) (by rw[OS,b];rfl)
     rw[Bool.not_true,cond_false,cond_false,cond_false]
     have nt:=F.nt
     have p2:(ba j).2.1=List.replicate j.ab.length false:=by rw[Jc]
     have s2:(ba j).2.2=List.replicate j.ab.length 0:=by rw[Jc]
     have tm:Tm j (List.replicate j.ab.length 0):=fun i hi=>by
      have tk:=F.tk i hi
      have e:(List.replicate j.ab.length (0:Int)).g i=0:=by rw[List.g,List.getD_eq_getElem?_getD,List.getElem?_replicate,if_pos hi];rfl
      rw[e];omega
     have ag:=Bz F ok.2 order.length (Int.toNat (((nF (List.replicate j.ab.length false):Nat):Int)+1)) (List.replicate j.ab.length false) (List.replicate j.ab.length 0) (ba j).1 0 List.length_replicate List.length_replicate tm (YE F) (by rw[tR];omega) (by rw[tR];omega) (by rw[tR];omega)
     rw[jG,p2,s2]
     rw[←agv] at ag
     by_cases r:0<j.af.length
     · have z:=adS (j:=j) (order:=order) (p:=List.replicate j.ab.length false) (Int.toNat ((((aF j.ab order (List.replicate j.ab.length false)).length:Nat):Int) - 0)) 0 (List.replicate j.ab.length false) (List.replicate j.ab.length 0) (ba j).1 o!
       rw[List.drop_zero,show ((0:Nat):Int)=0 from rfl] at z
       rw[decide_eq_true r,cond_true,eJ,z]
       generalize yp j (aF j.ab order (List.replicate j.ab.length false)) (List.replicate j.ab.length false) (List.replicate j.ab.length 0) (ba j).1=u at ag
       cases u with
       | inl x=>obtain ⟨a1,a2⟩:=ag;rw[a1,a2]
       | inr y=>obtain ⟨a1,a2⟩:=ag;rw[a1];dsimp only;rw[a2];rfl
     · have t0:(ba j).1=[]:=List.eq_nil_of_length_eq_zero (by rw[Jc];show (j.af.map _).length=0;rw[List.length_map];omega)
       rw[t0] at ag
       have z:=ZA F o! ok.2 (p:=List.replicate j.ab.length false) (Int.toNat ((((aF j.ab order (List.replicate j.ab.length false)).length:Nat):Int) - 0)) 0 (List.replicate j.ab.length false) (List.replicate j.ab.length 0) o!
       rw[List.drop_zero,show ((0:Nat):Int)=0 from rfl] at z
       rw[decide_eq_false r,cond_false,eK,z]
       generalize yp j (aF j.ab order (List.replicate j.ab.length false)) (List.replicate j.ab.length false) (List.replicate j.ab.length 0) []=u at ag
       cases u with
       | inl x=>obtain ⟨a1,a2⟩:=ag;rw[a1,a2]
       | inr y=>obtain ⟨a1,a2⟩:=ag;rw[a1];dsimp only;rw[a2];rfl
 · rw[decide_eq_false a,Bool.not_false,cond_true,cond_true,cond_false]
   cases decide (0<j.af.length)<;>rfl
theorem Tb (a:List Int):∀k i,mL a a k i=none
 | 0,i=>rfl
 | k+1,i=>by rw[mL,decide_eq_true rfl,Bool.not_true,cond_false,Tb a k]
theorem UW (a:List Int):kz a a=true:=by
 rw[kz,decide_eq_true rfl,Bool.not_true,cond_false,Tb]
theorem LX (j:cG) (order:List Int):jl j order=true:=by
 rw[jl]
 cases bif jc j 8 then true else decide (100<((order.length:Nat):Int)) with
 | true=>rfl
 | false=>rw[UU,UW,decide_eq_true rfl];rfl
open Go.ChangeShapes Go.WideShapes Go.RowKit
structure Gx (φ φ':Ph) (h h':aw) (w:World):Prop where
 ok:OK env φ' h' w
 le:φ.le φ'
 ro:Ak h'
 has:Has h h'
 nx:h.nx≤h'.nx
 tidy:Tidy h'
theorem Gx.refl {φ:Ph} {h:aw} {w:World} (ok:OK env φ h w) (ro:Ak h) (y:Tidy h):Gx φ φ h h w:=⟨ok,Ph.le_refl _,ro,Has.refl _,Nat.le_refl _,y⟩
theorem Gx.trans {a b c:Ph} {h1 h2 h3:aw} {w:World} (x:Gx a b h1 h2 w) (y:Gx b c h2 h3 w):Gx a c h1 h3 w:=⟨y.ok,Ph.le_trans x.le y.le,y.ro,x.has.trans y.has,Nat.le_trans x.nx y.nx,y.tidy⟩
section
variable {H:Type} (enc:TypeId×Value→H) (w:World) (base:Nat) (spare:Nat→Bool) (held:Bool)
def Small (t:TypeId) (d:DataW H):Prop:=(DataW.weights env.P t d).all (· ≤reachBytes)=true
theorem Small.all {e:TypeId}:∀{l:List (DataW H)},(DataW.weightsAll env.P e l).all (· ≤reachBytes)=true→∀d∈l,Small e d
 | [],_,d,hd=>by cases hd
 | x::l,h,d,hd=>by
   rw[DataW.weightsAll,List.all_append,Bool.and_eq_true] at h
   rcases List.mem_cons.1 hd with rfl | hd
   · exact h.1
   · exact Small.all h.2 d hd
theorem Small.struct {t:TypeId} {fs:Array Field} {parts:List (DataW H)} (ht:env.P.underlying t=some (.struct fs)) (h:Small t (.agg parts)):(DataW.weightsEach env.P (fs.toList.map (·.type)) parts).all (· ≤reachBytes)=true:=by
 unfold Small at h
 rw[DataW.weights,ht] at h
 exact h
theorem Small.dM {t:TypeId} {ts:List TypeId} {d:DataW H} {ds:List (DataW H)} (h:(DataW.weightsEach env.P (t::ts) (d::ds)).all (· ≤reachBytes)=true):Small t d∧(DataW.weightsEach env.P ts ds).all (· ≤reachBytes)=true:=by
 rw[DataW.weightsEach,List.all_append,Bool.and_eq_true] at h
 exact h
theorem LY {n:Nat} (h:n≤reachBytes):n<2^60:=Nat.lt_of_le_of_lt h (by unfold reachBytes;decide)
theorem aM.R6 {α:Type} [aG α] {h:aw} {v:AV} {l:List α} {m:Nat} (x:aM h v l) (e:AV.map m=v):False:=by
 rcases x.known with rfl | rfl | ⟨p,o,n,c,b,rfl,_⟩<;>cases e
def oY {D:Type} (t:TypeId) (sz:Nat) (c:D→List AV) (ok:aw→D→Prop):Prop:=
 ∀(φ:Ph) (h:aw),OK env φ h w→Ak h→Tidy h→∀(cs:List Value) (y:DataW H×List MemPlace) (n:Nat),cs.length=sz→Small t y.1→DataW.trod enc env.P w base spare held n t cs=some y→
  ∃φ' h' x,Gx φ φ' h h' w∧LR φ' (c x) cs∧ok h' x
variable {enc w base spare held}
theorem n8 {k:IntKind} {t:TypeId} (ht:env.P.underlying t=some (.int k)):oY enc w base spare held t 1 (fun x:Int=> [.int k x]) (fun _ _=>True):=fun φ h ok ro y cs z n _ hw hv=>by
 obtain ⟨m,rfl,_,_⟩:=DataW.trod_int ht hv
 exact ⟨φ,h,m,Gx.refl ok ro y,LR.cons (VR.int k m) (LR.nil _),trivial⟩
theorem JF {t:TypeId} (ht:env.P.underlying t=some .string):oY enc w base spare held t 1 (fun x:List UInt8=> [.str x]) (fun _ x=>x.length<2^60):=fun φ h ok ro y cs z n _ hw hv=>by
 obtain ⟨s,rfl,rfl,hs⟩:=DataW.trod_string ht hv
 refine ⟨φ,h,s.data.toList,Gx.refl ok ro y,LR.cons (VR.str s) (LR.nil _),?_⟩
 unfold Small at hw
 rw[DataW.weights,List.all_cons,Bool.and_eq_true] at hw
 exact LY (of_decide_eq_true hw.1)
theorem rh {α:Type} [aG α] {t:TypeId} (ht:env.P.underlying t=some (.slice (aG.e α))) (hs:env.P.cellsOf (aG.e α)=aG.n α) (hby:0<env.P.bytesOf (aG.e α)) (hm:∀(h:aw) (x:α) m,aG.ok h x→AV.map m ∉ aG.c x)
 (he:oY enc w base spare held (aG.e α) (aG.n α) (aG.c (α:=α)) aG.ok):oY enc w base spare held t 1 (fun x:AV×List α=> [x.1]) (fun h x=>aM h x.1 x.2):=fun φ h ok ro y cs z fuel _ hw hv=>by
 have Pm:=aG.pos (α:=α)
 rcases DataW.trod_slice ht hv with ⟨rfl,_⟩ | ⟨a,len,cap,elems,rest,n,_,rfl,rfl,hb,hlc,hcm,agw,ie,_,_⟩
 · exact ⟨φ,h,(.aD,[]),Gx.refl ok ro y,LR.cons VR.aD (LR.nil _),⟨aG.size,(Nat.zero_mul _).symm,Nat.pow_pos (by decide),rfl,.inl rfl⟩,.inl rfl,fun x hx=>by cases hx⟩
 rcases Nat.eq_zero_or_pos len with h0 | h0
 · subst h0
   exact ⟨φ,h,(.fm,[]),Gx.refl ok ro y,LR.cons (VR.fm a cap) (LR.nil _),⟨aG.size,(Nat.zero_mul _).symm,Nat.pow_pos (by decide),rfl,.inl rfl⟩,.inr (.inl rfl),fun x hx=>by cases hx⟩
 have DD:len<2^60∧(DataW.weightsAll env.P (aG.e α) (elems.map (·.1))).all (· ≤reachBytes)=true:=by
  unfold Small at hw
  rw[DataW.weights,ht] at hw
  simp only[List.all_cons,List.all_append,Bool.and_eq_true,List.length_map] at hw
  refine ⟨LY (Nat.le_trans ?_ (of_decide_eq_true hw.1)),hw.2.1⟩
  rw[agw]
  exact Nat.le_trans (Nat.le_add_right _ _) (Nat.le_mul_of_pos_right _ hby)
 have all:∀m,m≤len→∃(φ':Ph) (h':aw) (xs:List α),Gx φ φ' h h' w∧xs.length=m∧(∀x∈xs,aG.ok h' x)∧∀(i:Nat) (x:α),xs[i]? =some x→∀j v,(aG.c x)[j]? =some v→∃y,w.cell? ((a.add (i*aG.n α)).add j)=some y∧VR φ' v y:=by
  intro m
  induction m with
  | zero=>exact fun _=>⟨φ,h,[],Gx.refl ok ro y,rfl,fun _ hx=>(by cases hx),fun i xi hx=>(by simp at hx)⟩
  | succ m ih=>
    intro ZU
    obtain ⟨φ1,h1,xs,g1,hl,hq,hx⟩:=ih o!
    have h2:=ie m o!
    rw[List.getElem?_eq_getElem o!,hs] at h2
    simp only[Option.bind_eq_some_iff] at h2
    obtain ⟨ci,hc1,hc2⟩:=h2
    obtain ⟨_,U5,IQ⟩:=World.cells?_some hc1
    obtain ⟨φ2,h2,x,g2,CM,rl⟩:=he φ1 h1 g1.ok g1.ro g1.tidy ci _ n U5 (Small.all DD.2 _ (List.mem_map.2 ⟨_,List.getElem_mem _,rfl⟩)) hc2
    refine ⟨φ2,h2,xs++[x],g1.trans g2,by simp [hl],fun z hz=>?_,fun i z hz=>?_⟩
    · rcases List.mem_append.1 hz with h | h
      · exact aG.mono g2.has (hq z h)
      · simp at h;subst h;exact rl
    · by_cases hi:i<xs.length
      · rw[List.getElem?_append_left hi] at hz
        intro j v hj
        obtain ⟨q,e1,e2⟩:=hx i z hz j v hj
        exact ⟨q,e1,e2.mono g2.le⟩
      · rw[List.getElem?_append_right o!] at hz
        have:i - xs.length=0:=by
         have:=(List.getElem?_eq_some_iff.1 hz).1
         simp at this;omega
        rw[this] at hz
        simp at hz;subst hz
        have:i=m:=by omega
        subst this
        intro j v hj
        have rO:j<(aG.c x).length:=(List.getElem?_eq_some_iff.1 hj).1
        have hj2:j<ci.length:=by rw[←CM.1];exact rO
        exact ⟨ci[j],by rw[IQ j (by rw[U5] at hj2;exact hj2),List.getElem?_eq_getElem hj2],CM.2 j v _ hj (List.getElem?_eq_getElem hj2)⟩
 obtain ⟨φ1,h1,xs,g1,hl,hq,hx⟩:=all len (Nat.le_refl _)
 have No:=ew aG.len xs
 have BA:a.spot=none:=by
  have hx0:xs[0]? =some (xs[0]'o!):=List.getElem?_eq_getElem o!
  obtain ⟨y,hy,_⟩:=hx 0 _ hx0 0 ((aG.c (xs[0]'o!))[0]'(by rw[aG.len];exact Pm)) (List.getElem?_eq_getElem _)
  simp only[Nat.zero_mul,Addr.add,if_true] at hy
  unfold World.cell? at hy
  split at hy
  · cases hsp:a.spot with
    | none=>rfl
    | some _=>rw[hsp] at hy;simp at hy
  · cases hy
 have ZC:∀i j,(a.add (i*aG.n α)).add j=⟨a.block,a.off+(i*aG.n α+j),none⟩:=by
  intro i j
  obtain ⟨b,o,sp⟩:=a
  simp only at BA
  subst BA
  unfold Addr.add
  by_cases h1:i*aG.n α=0<;>by_cases h2:j=0<;>simp [h1,h2,Nat.add_assoc]
 have fH:xs.flatMap aG.c≠ []:=by
  intro e
  have:=congrArg List.length e
  rw[No,hl] at this
  have:=Nat.mul_pos h0 Pm
  simp at *
  omega
 obtain ⟨h',hn,uy,hle,agx,alI,hg,hold,iP⟩:=g1.ok.show g1.ro (b:=a.block) (off:=a.off) (e:=aG.e α) fH (fun m ZU=>by
  have:AV.map m∈xs.flatMap aG.c:=by rw[ZU];simp
  obtain ⟨z,hz,hmz⟩:=List.mem_flatMap.1 this
  exact hm h1 z m (hq z hz) hmz) (fun k v hk=>by
  have Ht:k<(xs.flatMap aG.c).length:=(List.getElem?_eq_some_iff.1 hk).1
  have hdm:k/aG.n α*aG.n α+k%aG.n α=k:=by rw[Nat.mul_comm];exact Nat.div_add_mod k _
  have hi:k/aG.n α<xs.length:=by
   rw[No] at Ht
   exact (Nat.div_lt_iff_lt_mul Pm).2 Ht
  have hk2:=hk
  rw[←hdm,oG aG.len _ _ _ hi (Nat.mod_lt _ Pm)] at hk2
  have hgi:xs[k/aG.n α]? =some (xs.g (k/aG.n α)):=by
   rw[List.g,List.getD_eq_getElem?_getD,List.getElem?_eq_getElem hi];rfl
  obtain ⟨y,hy,hvr⟩:=hx _ _ hgi _ v hk2
  rw[ZC,hdm] at hy
  exact ⟨y,hy,hvr⟩)
 have hVR:=VR.slice (φ:=φ1.add h1.nx ⟨a.block,a.off,0⟩) 0 len cap false iP
 have has:Has h1 h':=xg g1.tidy hn
 refine ⟨_,h',(.slice h1.nx 0 len cap false,xs),g1.trans ⟨uy,hle,agx,has,by omega,m4 g1.tidy hn⟩,LR.cons ?_ (LR.nil _),?_⟩
 · obtain ⟨b,o,sp⟩:=a
   simp only at BA
   subst BA
   exact hVR
 · subst hl
   exact ⟨⟨aG.size,No,DD.1,rfl,.inr ⟨h1.nx,0,_,cap,false,_,_,true,rfl,hlc,hg,fun j _=>by rw[Nat.zero_add]⟩⟩,.inr (.inr ⟨_,_,_,_,_,rfl,fun e=>by cases e⟩),fun x hx=>aG.mono has (hq x hx)⟩
end
end Go.Proofs.aJ
