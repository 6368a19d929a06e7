import Derived.Test.YtmbkbhleedecdaaGreatDoorW0
import Derived.Test.YtmbkbhleedecdaaGreatDoorW8
namespace Go.Proofs.aM
open Go.Proofs Ab
noncomputable section
set_option maxRecDepth 100000
set_option maxHeartbeats 4000000
set_option linter.unusedVariables false
set_option linter.unusedSimpArgs false
def uT:Code:=(Tryz.f38.body).getD .skip
theorem fR:Tryz.f38.body=some uT:=by kernel_rfl
def bR (a:aQ) (b:aQ):Bool:=(bif (decide (a.name=b.name)) then (bif (Span.eq (⟨a.aq,a.aj⟩:Span) (⟨b.aq,b.aj⟩:Span)) then (bif (decide (a.aO=b.aO)) then (bif (decide (a.aR=b.aR)) then (bif (decide (a.bad=b.bad)) then (dX a.ar b.ar) else false) else false) else false) else false) else false)
theorem yX {d:Nat} {h:ax} (a:aQ) (b:aQ) (iS:aH.ok h a) (jF:aH.ok h b) (ca:Tidy h):cT (d+2) (.fn 38) [(AV.agg [(AV.str a.name),(Zi a.aq),(Zi a.aj),(Zi a.aO),(Zi a.aR),(Zi a.bad),a.aD]),(AV.agg [(AV.str b.name),(Zi b.aq),(Zi b.aj),(Zi b.aO),(Zi b.aR),(Zi b.bad),b.aD])] h= .ret (AV.bool (bR a b)) h:=by
 have UD:=iS.2.small
 have UE:=jF.2.small
 obtain ⟨h1,br,cD,lh,aA,dC⟩:=lk ca (aK.cells [(AV.str a.name),(Zi a.aq),(Zi a.aj),(Zi a.aO),(Zi a.aR),(Zi a.bad),a.aD] 43 false)
 have bB:Has h h1:=dC
 obtain ⟨h2,fH,mS,Kc,bC,aZ⟩:=lk cD (aK.cells [(AV.str b.name),(Zi b.aq),(Zi b.aj),(Zi b.aO),(Zi b.aR),(Zi b.bad),b.aD] 43 false)
 have eW:Has h h2:=bB.trans aZ
 rcases Bool.eq_false_or_eq_true (decide (a.name=b.name)) with f0 | f0
 · have e_:=of_decide_eq_true f0
   have u4:bu env .eql 40 false false (some (AV.agg [(Zi a.aq),(Zi a.aj)])) (some (AV.agg [(Zi b.aq),(Zi b.aj)]))=some (AV.bool (Span.eq (⟨a.aq,a.aj⟩:Span) (⟨b.aq,b.aj⟩:Span))):=Span.eql (⟨a.aq,a.aj⟩:Span) (⟨b.aq,b.aj⟩:Span)
   rcases Bool.eq_false_or_eq_true (Span.eq (⟨a.aq,a.aj⟩:Span) (⟨b.aq,b.aj⟩:Span)) with f1 | f1
   · rcases Bool.eq_false_or_eq_true (decide (a.aO=b.aO)) with f2 | f2
     · have mT:=of_decide_eq_true f2
       rcases Bool.eq_false_or_eq_true (decide (a.aR=b.aR)) with f3 | f3
       · have kM:=of_decide_eq_true f3
         rcases Bool.eq_false_or_eq_true (decide (a.bad=b.bad)) with f4 | f4
         · have lE:=of_decide_eq_true f4
           have k9:=CV (d:=d) a.ar b.ar (iS.2.has eW) (jF.2.has eW) mS
           have e:bR a b=(dX a.ar b.ar):=by simp only[bR,f0,f1,f2,f3,f4,ak,ah]
           rw[e]
           exact aw rfl (aI Tryz.func38 fR rfl (.inr rfl) (pk (d+1) _ _ h _ h2 (NN br (fun i=>(Pt i))<|NN fH (fun i=>(Pt i))<|CN 2<|MM (ao 9 0 (AV.str a.name) (aZ _ _ aA) k!)<|CC<|MM (ao 9 0 (AV.str b.name) bC k!)<|VV (ni 9 false false a.name b.name)<|CC<|BC f0<|BM f0 (ao 40 1 (AV.agg [(Zi a.aq),(Zi a.aj)]) (aZ _ _ aA) k!)<|BC f0<|BM f0 (ao 40 1 (AV.agg [(Zi b.aq),(Zi b.aj)]) bC k!)<|BV f0 u4<|VV (iI (Span.eq (⟨a.aq,a.aj⟩:Span) (⟨b.aq,b.aj⟩:Span)) false f0)<|CC<|BC f1<|BM f1 (ao 3 3 (Zi a.aO) (aZ _ _ aA) k!)<|BC f1<|BM f1 (ao 3 3 (Zi b.aO) bC k!)<|BV f1 (eA 3 false false .i64 a.aO b.aO)<|VV (iI (decide (a.aO=b.aO)) false f1)<|CC<|BC f2<|BM f2 (ao 3 4 (Zi a.aR) (aZ _ _ aA) k!)<|BC f2<|BM f2 (ao 3 4 (Zi b.aR) bC k!)<|BV f2 (eA 3 false false .i64 a.aR b.aR)<|VV (iI (decide (a.aR=b.aR)) false f2)<|CC<|BC f3<|BM f3 (ao 3 5 (Zi a.bad) (aZ _ _ aA) k!)<|BC f3<|BM f3 (ao 3 5 (Zi b.bad) bC k!)<|BV f3 (eA 3 false false .i64 a.bad b.bad)<|VV (iI (decide (a.bad=b.bad)) false f3)<|CC<|BC f4<|BM f4 (ao 41 6 a.aD (aZ _ _ aA) k!)<|BC f4<|BM f4 (ao 41 6 b.aD bC k!)<|BB f4<|EE k9<|VV (iI (dX a.ar b.ar) false f4)<|CC<|ZZ) k!) k!) eW rfl
         · have lE:=of_decide_eq_false f4
           have e:bR a b=false:=by simp only[bR,f0,f1,f2,f3,f4,ak,ah]
           rw[e]
           exact aw rfl (aI Tryz.func38 fR rfl (.inr rfl) (pk (d+1) _ _ h _ h2 (NN br (fun i=>(Pt i))<|NN fH (fun i=>(Pt i))<|CN 2<|MM (ao 9 0 (AV.str a.name) (aZ _ _ aA) k!)<|CC<|MM (ao 9 0 (AV.str b.name) bC k!)<|VV (ni 9 false false a.name b.name)<|CC<|BC f0<|BM f0 (ao 40 1 (AV.agg [(Zi a.aq),(Zi a.aj)]) (aZ _ _ aA) k!)<|BC f0<|BM f0 (ao 40 1 (AV.agg [(Zi b.aq),(Zi b.aj)]) bC k!)<|BV f0 u4<|VV (iI (Span.eq (⟨a.aq,a.aj⟩:Span) (⟨b.aq,b.aj⟩:Span)) false f0)<|CC<|BC f1<|BM f1 (ao 3 3 (Zi a.aO) (aZ _ _ aA) k!)<|BC f1<|BM f1 (ao 3 3 (Zi b.aO) bC k!)<|BV f1 (eA 3 false false .i64 a.aO b.aO)<|VV (iI (decide (a.aO=b.aO)) false f1)<|CC<|BC f2<|BM f2 (ao 3 4 (Zi a.aR) (aZ _ _ aA) k!)<|BC f2<|BM f2 (ao 3 4 (Zi b.aR) bC k!)<|BV f2 (eA 3 false false .i64 a.aR b.aR)<|VV (iI (decide (a.aR=b.aR)) false f2)<|CC<|BC f3<|BM f3 (ao 3 5 (Zi a.bad) (aZ _ _ aA) k!)<|BC f3<|BM f3 (ao 3 5 (Zi b.bad) bC k!)<|BV f3 (eA 3 false false .i64 a.bad b.bad)<|VV (iI (decide (a.bad=b.bad)) false f3)<|CC<|BB f4<|BB f4<|BB f4<|BB f4<|BV f4 (p_ false f4)<|CC<|ZZ) k!) k!) eW rfl
       · have kM:=of_decide_eq_false f3
         have e:bR a b=false:=by simp only[bR,f0,f1,f2,f3,ak,ah]
         rw[e]
         exact aw rfl (aI Tryz.func38 fR rfl (.inr rfl) (pk (d+1) _ _ h _ h2 (NN br (fun i=>(Pt i))<|NN fH (fun i=>(Pt i))<|CN 2<|MM (ao 9 0 (AV.str a.name) (aZ _ _ aA) k!)<|CC<|MM (ao 9 0 (AV.str b.name) bC k!)<|VV (ni 9 false false a.name b.name)<|CC<|BC f0<|BM f0 (ao 40 1 (AV.agg [(Zi a.aq),(Zi a.aj)]) (aZ _ _ aA) k!)<|BC f0<|BM f0 (ao 40 1 (AV.agg [(Zi b.aq),(Zi b.aj)]) bC k!)<|BV f0 u4<|VV (iI (Span.eq (⟨a.aq,a.aj⟩:Span) (⟨b.aq,b.aj⟩:Span)) false f0)<|CC<|BC f1<|BM f1 (ao 3 3 (Zi a.aO) (aZ _ _ aA) k!)<|BC f1<|BM f1 (ao 3 3 (Zi b.aO) bC k!)<|BV f1 (eA 3 false false .i64 a.aO b.aO)<|VV (iI (decide (a.aO=b.aO)) false f1)<|CC<|BC f2<|BM f2 (ao 3 4 (Zi a.aR) (aZ _ _ aA) k!)<|BC f2<|BM f2 (ao 3 4 (Zi b.aR) bC k!)<|BV f2 (eA 3 false false .i64 a.aR b.aR)<|VV (iI (decide (a.aR=b.aR)) false f2)<|CC<|BB f3<|BB f3<|BB f3<|BB f3<|BV f3 (p_ false f3)<|CC<|FF<|FF<|FF<|FF<|FF<|CN 2<|ZZ) k!) k!) eW rfl
     · have mT:=of_decide_eq_false f2
       have e:bR a b=false:=by simp only[bR,f0,f1,f2,ak,ah]
       rw[e]
       exact aw rfl (aI Tryz.func38 fR rfl (.inr rfl) (pk (d+1) _ _ h _ h2 (NN br (fun i=>(Pt i))<|NN fH (fun i=>(Pt i))<|CN 2<|MM (ao 9 0 (AV.str a.name) (aZ _ _ aA) k!)<|CC<|MM (ao 9 0 (AV.str b.name) bC k!)<|VV (ni 9 false false a.name b.name)<|CC<|BC f0<|BM f0 (ao 40 1 (AV.agg [(Zi a.aq),(Zi a.aj)]) (aZ _ _ aA) k!)<|BC f0<|BM f0 (ao 40 1 (AV.agg [(Zi b.aq),(Zi b.aj)]) bC k!)<|BV f0 u4<|VV (iI (Span.eq (⟨a.aq,a.aj⟩:Span) (⟨b.aq,b.aj⟩:Span)) false f0)<|CC<|BC f1<|BM f1 (ao 3 3 (Zi a.aO) (aZ _ _ aA) k!)<|BC f1<|BM f1 (ao 3 3 (Zi b.aO) bC k!)<|BV f1 (eA 3 false false .i64 a.aO b.aO)<|VV (iI (decide (a.aO=b.aO)) false f1)<|CC<|BB f2<|BB f2<|BB f2<|BB f2<|BV f2 (p_ false f2)<|CC<|FF<|FF<|FF<|FF<|FF<|CN 2<|FF<|FF<|FF<|FF<|FF<|CN 2<|ZZ) k!) k!) eW rfl
   · have e:bR a b=false:=by simp only[bR,f0,f1,ak,ah]
     rw[e]
     exact aw rfl (aI Tryz.func38 fR rfl (.inr rfl) (pk (d+1) _ _ h _ h2 (NN br (fun i=>(Pt i))<|NN fH (fun i=>(Pt i))<|CN 2<|MM (ao 9 0 (AV.str a.name) (aZ _ _ aA) k!)<|CC<|MM (ao 9 0 (AV.str b.name) bC k!)<|VV (ni 9 false false a.name b.name)<|CC<|BC f0<|BM f0 (ao 40 1 (AV.agg [(Zi a.aq),(Zi a.aj)]) (aZ _ _ aA) k!)<|BC f0<|BM f0 (ao 40 1 (AV.agg [(Zi b.aq),(Zi b.aj)]) bC k!)<|BV f0 u4<|VV (iI (Span.eq (⟨a.aq,a.aj⟩:Span) (⟨b.aq,b.aj⟩:Span)) false f0)<|CC<|BB f1<|BB f1<|BB f1<|BB f1<|BV f1 (p_ false f1)<|CC<|FF<|FF<|FF<|FF<|FF<|CN 2<|FF<|FF<|FF<|FF<|FF<|CN 2<|FF<|FF<|FF<|FF<|FF<|CN 2<|ZZ) k!) k!) eW rfl
 · have e_:=of_decide_eq_false f0
   have e:bR a b=false:=by simp only[bR,f0,ak,ah]
   rw[e]
   exact aw rfl (aI Tryz.func38 fR rfl (.inr rfl) (pk (d+1) _ _ h _ h2 (NN br (fun i=>(Pt i))<|NN fH (fun i=>(Pt i))<|CN 2<|MM (ao 9 0 (AV.str a.name) (aZ _ _ aA) k!)<|CC<|MM (ao 9 0 (AV.str b.name) bC k!)<|VV (ni 9 false false a.name b.name)<|CC<|BB f0<|BB f0<|BB f0<|BB f0<|BV f0 (p_ false f0)<|CC<|FF<|FF<|FF<|FF<|FF<|CN 2<|FF<|FF<|FF<|FF<|FF<|CN 2<|FF<|FF<|FF<|FF<|FF<|CN 2<|FF<|FF<|FF<|FF<|FF<|CN 2<|ZZ) k!) k!) eW rfl
def IU:Code:=(Tryz.f10.body).getD .skip
theorem CW:Tryz.f10.body=some IU:=by kernel_rfl
def fM (a:bO) (b:bO):Bool:=(bif (fv a.ab b.ab bR) then (bif (cR a.af b.af) then (dV a.ai b.ai) else false) else false)
theorem IV {d:Nat} {h:ax} (a:bO) (b:bO) (iS:aH.ok h a) (jF:aH.ok h b) (ca:Tidy h):cT (d+4) (.fn 10) [(AV.agg [a.ae,a.ag,a.au]),(AV.agg [b.ae,b.ag,b.au])] h= .ret (AV.bool (fM a b)) h:=by
 have UF:=iS.1.small
 have NF:=iS.2.1.small
 have NG:=iS.2.2.small
 have UG:=jF.1.small
 have NH:=jF.2.1.small
 have NI:=jF.2.2.small
 obtain ⟨h1,br,cD,lh,aA,dC⟩:=lk ca (aK.cells [a.ae,a.ag,a.au] 26 false)
 have bB:Has h h1:=dC
 obtain ⟨h2,fH,mS,Kc,bC,aZ⟩:=lk cD (aK.cells [b.ae,b.ag,b.au] 26 false)
 have eW:Has h h2:=bB.trans aZ
 have k3:=Du (d:=d+2) a.ab b.ab bR (iS.1.has eW) (jF.1.has eW) (fun x hx y hy hh yy aa=>yX (d:=d) x y (aH.mono aa ((iS.1.has eW).SL x hx)) (aH.mono aa ((jF.1.has eW).SL y hy)) yy) mS
 rcases Bool.eq_false_or_eq_true (fv a.ab b.ab bR) with f0 | f0
 · have k5:=yV (d:=d+2) a.af b.af (iS.2.1.has eW) (jF.2.1.has eW) mS
   rcases Bool.eq_false_or_eq_true (cR a.af b.af) with f1 | f1
   · have k7:=CU (d:=d+2) a.ai b.ai (iS.2.2.has eW) (jF.2.2.has eW) mS
     have e:fM a b=(dV a.ai b.ai):=by simp only[fM,f0,f1,ak,ah]
     rw[e]
     exact aw rfl (aI Tryz.func10 CW rfl (.inr rfl) (pk (d+3) _ _ h _ h2 (NN br (fun i=>(Pt i))<|NN fH (fun i=>(Pt i))<|CN 2<|MM (ao 22 0 a.ae (aZ _ _ aA) k!)<|CC<|MM (ao 22 0 b.ae bC k!)<|EE k3<|CC<|BC f0<|BM f0 (ao 23 1 a.ag (aZ _ _ aA) k!)<|BC f0<|BM f0 (ao 23 1 b.ag bC k!)<|BB f0<|EE k5<|VV (iI (cR a.af b.af) false f0)<|CC<|BC f1<|BM f1 (ao 24 2 a.au (aZ _ _ aA) k!)<|BC f1<|BM f1 (ao 24 2 b.au bC k!)<|BB f1<|EE k7<|VV (iI (dV a.ai b.ai) false f1)<|CC<|ZZ) k!) k!) eW rfl
   · have e:fM a b=false:=by simp only[fM,f0,f1,ak,ah]
     rw[e]
     exact aw rfl (aI Tryz.func10 CW rfl (.inr rfl) (pk (d+3) _ _ h _ h2 (NN br (fun i=>(Pt i))<|NN fH (fun i=>(Pt i))<|CN 2<|MM (ao 22 0 a.ae (aZ _ _ aA) k!)<|CC<|MM (ao 22 0 b.ae bC k!)<|EE k3<|CC<|BC f0<|BM f0 (ao 23 1 a.ag (aZ _ _ aA) k!)<|BC f0<|BM f0 (ao 23 1 b.ag bC k!)<|BB f0<|EE k5<|VV (iI (cR a.af b.af) false f0)<|CC<|BB f1<|BB f1<|BB f1<|BB f1<|BV f1 (p_ false f1)<|CC<|ZZ) k!) k!) eW rfl
 · have e:fM a b=false:=by simp only[fM,f0,ak,ah]
   rw[e]
   exact aw rfl (aI Tryz.func10 CW rfl (.inr rfl) (pk (d+3) _ _ h _ h2 (NN br (fun i=>(Pt i))<|NN fH (fun i=>(Pt i))<|CN 2<|MM (ao 22 0 a.ae (aZ _ _ aA) k!)<|CC<|MM (ao 22 0 b.ae bC k!)<|EE k3<|CC<|BB f0<|BB f0<|BB f0<|BB f0<|BV f0 (p_ false f0)<|CC<|FF<|FF<|FF<|FF<|FF<|CN 2<|ZZ) k!) k!) eW rfl
def na:Code:=(Tryz.f41.body).getD .skip
theorem et:Tryz.f41.body=some na:=by kernel_rfl
def vX:Code:=(b5 na).getD 0 .skip
def dJ (a:aQ) (b:aQ):Nat→Nat→Option (Bool)
 | 0,_=>none
 | eC+1,i0=>(bif (!bn.eq (a.ar.g i0) (b.ar.g i0)) then some false else dJ a b eC (i0+1))
theorem kh {d:Nat} {h:ax} (a:aQ) (b:aQ) (da:Nat) (jj:Nat) (bh:a.name.length<2^60) (di:aJ h a.aD a.ar) (jR:b.name.length<2^60) (vY:aJ h b.aD b.ar) (oa:aH.ok h a) (QD:aH.ok h b) (ma:a.ar.length=b.ar.length):∀(k_ i_:Nat) (_:i_+k_=a.ar.length) (x:Nat→AV) (hh:ax) (aF:Tidy hh) (aG:Has h hh) (b6:hh.get da=some (aK.cells [(AV.str a.name),(Zi a.aq),(Zi a.aj),(Zi a.aO),(Zi a.aR),(Zi a.bad),a.aD] 43 false)) (jk:hh.get jj=some (aK.cells [(AV.str b.name),(Zi b.aq),(Zi b.aj),(Zi b.aO),(Zi b.aR),(Zi b.bad),b.aD] 43 false)),aB (cT (d)) vX ⟨((x 0)::(x 1)::(Pt da)::(Pt jj)::(x 4)::(Zn i_)::rx x 6 60 []),hh,[],.no⟩ (.exit 0) hh (fun y=>((y 0)::(y 1)::(Pt da)::(Pt jj)::rx y 4 62 [])) (fun r y=>((y 0)::(y 1)::(Pt da)::(Pt jj)::(AV.bool r)::rx y 5 61 [])) (dJ a b k_ i_)
 | 0,i0,jh,x,hh,aF,aG,b6,jk=>by
   have gd:=di.small
   have KO:=vY.small
   have te:=aF _ _ b6
   have Kr:=aF _ _ jk
   have eb:cg (some (.slice 28)) (some a.aD)=some (Zn a.ar.length):=(di.has aG).len
   have q2:(decide (((i0:Nat):Int)<((a.ar.length:Nat):Int)))=false:=d!
   exact aB.out rfl (pk (d) _ _ hh _ hh (CN 2<|MM (ao 41 6 a.aD b6 k!)<|VV eb<|VV (aY 3 false false .i64 ((i0:Nat):Int) ((a.ar.length:Nat):Int))<|BB q2<|ZZ) k!) (bW.refl aF) k!
 | eC+1,i0,jh,x,hh,aF,aG,b6,jk=>by
   have gd:=di.small
   have KO:=vY.small
   have te:=aF _ _ b6
   have Kr:=aF _ _ jk
   have eb:cg (some (.slice 28)) (some a.aD)=some (Zn a.ar.length):=(di.has aG).len
   have q2:(decide (((i0:Nat):Int)<((a.ar.length:Nat):Int)))=true:=d!
   obtain ⟨p4,q5,iM⟩:=(di.has aG).elem (i:=i0) o!
   have mU:b8 env (some (.slice 28)) (some a.aD) (some (Zn i0))=some (AV.ptr p4 q5):=iM
   have mn:bS env hh 28 (AV.ptr p4 q5)=some (AV.agg [(AV.str (a.ar.g i0).name),(Zi (a.ar.g i0).acc),(Zi (a.ar.g i0).aW),(Zi (a.ar.g i0).since)]):=(di.has aG).load o! iM
   obtain ⟨p8,q9,CX⟩:=(vY.has aG).elem (i:=i0) o!
   have zI:b8 env (some (.slice 28)) (some b.aD) (some (Zn i0))=some (AV.ptr p8 q9):=CX
   have rG:bS env hh 28 (AV.ptr p8 q9)=some (AV.agg [(AV.str (b.ar.g i0).name),(Zi (b.ar.g i0).acc),(Zi (b.ar.g i0).aW),(Zi (b.ar.g i0).since)]):=(vY.has aG).load o! CX
   have At:bu env .neq 28 false false (some (AV.agg [(AV.str (a.ar.g i0).name),(Zi (a.ar.g i0).acc),(Zi (a.ar.g i0).aW),(Zi (a.ar.g i0).since)])) (some (AV.agg [(AV.str (b.ar.g i0).name),(Zi (b.ar.g i0).acc),(Zi (b.ar.g i0).aW),(Zi (b.ar.g i0).since)]))=some (AV.bool (!bn.eq (a.ar.g i0) (b.ar.g i0))):=bn.neq (a.ar.g i0) (b.ar.g i0)
   have ve:AV.same 20 a.aD a.aD=true:=(di.has aG).same 19
   have Gv:AV.same 20 (AV.agg [(AV.str (a.ar.g i0).name),(Zi (a.ar.g i0).acc),(Zi (a.ar.g i0).aW),(Zi (a.ar.g i0).since)]) (AV.agg [(AV.str (a.ar.g i0).name),(Zi (a.ar.g i0).acc),(Zi (a.ar.g i0).aW),(Zi (a.ar.g i0).since)])=true:=cW 18 (eX (fun n=>aP n _) (eX (fun n=>aC n _ _) (eX (fun n=>aC n _ _) (eX (fun n=>aC n _ _) zG))))
   have GD:AV.same 20 b.aD b.aD=true:=(vY.has aG).same 19
   have El:AV.same 20 (AV.agg [(AV.str (b.ar.g i0).name),(Zi (b.ar.g i0).acc),(Zi (b.ar.g i0).aW),(Zi (b.ar.g i0).since)]) (AV.agg [(AV.str (b.ar.g i0).name),(Zi (b.ar.g i0).acc),(Zi (b.ar.g i0).aW),(Zi (b.ar.g i0).since)])=true:=cW 18 (eX (fun n=>aP n _) (eX (fun n=>aC n _ _) (eX (fun n=>aC n _ _) (eX (fun n=>aC n _ _) zG))))
   rcases Bool.eq_false_or_eq_true (!bn.eq (a.ar.g i0) (b.ar.g i0)) with f1 | f1
   · exact aB.ret false (by simp only[dJ,f1,ak,ah]) (pk (d) _ _ hh _ hh (CN 2<|MM (ao 41 6 a.aD b6 k!)<|VV eb<|VV (aY 3 false false .i64 ((i0:Nat):Int) ((a.ar.length:Nat):Int))<|BC q2<|MM (ao 41 6 a.aD b6 k!)<|CC<|VV mU<|MM mn<|CC<|MM (ao 41 6 b.aD jk k!)<|CC<|VV zI<|MM rG<|VV At<|HH (ao 41 6 a.aD b6 k!)<|HH ve<|HH mn<|HH Gv<|HH (ao 41 6 b.aD jk k!)<|HH GD<|HH rG<|HH El<|BC f1<|ZZ) k!) (bW.refl aF) k!
   · have Kp:=eZ 3 false true i0 1 o!
     exact aB.round (by simp only[dJ,f1,ak,ah]) (pk (d) _ _ hh _ hh (CN 2<|MM (ao 41 6 a.aD b6 k!)<|VV eb<|VV (aY 3 false false .i64 ((i0:Nat):Int) ((a.ar.length:Nat):Int))<|BC q2<|MM (ao 41 6 a.aD b6 k!)<|CC<|VV mU<|MM mn<|CC<|MM (ao 41 6 b.aD jk k!)<|CC<|VV zI<|MM rG<|VV At<|HH (ao 41 6 a.aD b6 k!)<|HH ve<|HH mn<|HH Gv<|HH (ao 41 6 b.aD jk k!)<|HH GD<|HH rG<|HH El<|BC f1<|VV Kp<|CC<|ZZ) k!) (bW.refl aF) _ k! (fun x=>kh a b da jj bh di jR vY oa QD ma eC (i0+1) o! x hh aF aG b6 jk)
def bz (a:aQ) (b:aQ):Bool:=(bif (!decide (a.name=b.name)) then false else (bif (!Span.eq (⟨a.aq,a.aj⟩:Span) (⟨b.aq,b.aj⟩:Span)) then false else (bif (!decide (a.aO=b.aO)) then false else (bif (!decide (a.aR=b.aR)) then false else (bif (!decide (a.bad=b.bad)) then false else (bif (!decide (((a.ar.length:Nat):Int)=((b.ar.length:Nat):Int))) then false else (match (dJ a b a.ar.length 0) with | none=>true | some B3=>B3)))))))
theorem yY {d:Nat} {h:ax} (a:aQ) (b:aQ) (iS:aH.ok h a) (jF:aH.ok h b) (ca:Tidy h):cT (d+1) (.fn 41) [(AV.agg [(AV.str a.name),(Zi a.aq),(Zi a.aj),(Zi a.aO),(Zi a.aR),(Zi a.bad),a.aD]),(AV.agg [(AV.str b.name),(Zi b.aq),(Zi b.aj),(Zi b.aO),(Zi b.aR),(Zi b.bad),b.aD])] h= .ret (AV.bool (bz a b)) h:=by
 have UD:=iS.2.small
 have UE:=jF.2.small
 obtain ⟨h1,br,cD,lh,aA,dC⟩:=lk ca (aK.cells [(AV.str a.name),(Zi a.aq),(Zi a.aj),(Zi a.aO),(Zi a.aR),(Zi a.bad),a.aD] 43 false)
 have bB:Has h h1:=dC
 obtain ⟨h2,fH,mS,Kc,bC,aZ⟩:=lk cD (aK.cells [(AV.str b.name),(Zi b.aq),(Zi b.aj),(Zi b.aO),(Zi b.aR),(Zi b.bad),b.aD] 43 false)
 have eW:Has h h2:=bB.trans aZ
 rcases Bool.eq_false_or_eq_true (!decide (a.name=b.name)) with f0 | f0
 · have e_:=rO f0
   have e:bz a b=false:=by simp only[bz,f0,ak,ah]
   rw[e]
   exact aw rfl (aI Tryz.func41 et rfl (.inr rfl) (pk (d) _ _ h _ h2 (NN br (fun i=>(Pt i))<|NN fH (fun i=>(Pt i))<|CN 2<|MM (ao 9 0 (AV.str a.name) (aZ _ _ aA) k!)<|CC<|MM (ao 9 0 (AV.str b.name) bC k!)<|VV (vE 9 false false a.name b.name)<|CC<|BB f0<|BB f0<|BB f0<|BB f0<|BV f0 (ml true f0)<|CC<|TT<|TT<|TT<|TT<|TT<|CN 2<|TT<|TT<|TT<|TT<|TT<|CN 2<|TT<|TT<|TT<|TT<|TT<|CN 2<|TT<|TT<|TT<|TT<|TT<|TT<|TT<|CC<|TT<|CC<|ZZ) k!) k!) eW rfl
 · have e_:=rP f0
   have u4:bu env .neq 40 false false (some (AV.agg [(Zi a.aq),(Zi a.aj)])) (some (AV.agg [(Zi b.aq),(Zi b.aj)]))=some (AV.bool (!Span.eq (⟨a.aq,a.aj⟩:Span) (⟨b.aq,b.aj⟩:Span))):=Span.neq (⟨a.aq,a.aj⟩:Span) (⟨b.aq,b.aj⟩:Span)
   rcases Bool.eq_false_or_eq_true (!Span.eq (⟨a.aq,a.aj⟩:Span) (⟨b.aq,b.aj⟩:Span)) with f1 | f1
   · have e:bz a b=false:=by simp only[bz,f0,f1,ak,ah]
     rw[e]
     exact aw rfl (aI Tryz.func41 et rfl (.inr rfl) (pk (d) _ _ h _ h2 (NN br (fun i=>(Pt i))<|NN fH (fun i=>(Pt i))<|CN 2<|MM (ao 9 0 (AV.str a.name) (aZ _ _ aA) k!)<|CC<|MM (ao 9 0 (AV.str b.name) bC k!)<|VV (vE 9 false false a.name b.name)<|CC<|BC f0<|BM f0 (ao 40 1 (AV.agg [(Zi a.aq),(Zi a.aj)]) (aZ _ _ aA) k!)<|BC f0<|BM f0 (ao 40 1 (AV.agg [(Zi b.aq),(Zi b.aj)]) bC k!)<|BV f0 u4<|VV (aE (a:=some (AV.bool true)) (b:=some (AV.bool (!Span.eq (⟨a.aq,a.aj⟩:Span) (⟨b.aq,b.aj⟩:Span)))) f0)<|CC<|BB f1<|BB f1<|BB f1<|BB f1<|BV f1 (ml true f1)<|CC<|TT<|TT<|TT<|TT<|TT<|CN 2<|TT<|TT<|TT<|TT<|TT<|CN 2<|TT<|TT<|TT<|TT<|TT<|TT<|TT<|CC<|TT<|CC<|ZZ) k!) k!) eW rfl
   · rcases Bool.eq_false_or_eq_true (!decide (a.aO=b.aO)) with f2 | f2
     · have mT:=rO f2
       have e:bz a b=false:=by simp only[bz,f0,f1,f2,ak,ah]
       rw[e]
       exact aw rfl (aI Tryz.func41 et rfl (.inr rfl) (pk (d) _ _ h _ h2 (NN br (fun i=>(Pt i))<|NN fH (fun i=>(Pt i))<|CN 2<|MM (ao 9 0 (AV.str a.name) (aZ _ _ aA) k!)<|CC<|MM (ao 9 0 (AV.str b.name) bC k!)<|VV (vE 9 false false a.name b.name)<|CC<|BC f0<|BM f0 (ao 40 1 (AV.agg [(Zi a.aq),(Zi a.aj)]) (aZ _ _ aA) k!)<|BC f0<|BM f0 (ao 40 1 (AV.agg [(Zi b.aq),(Zi b.aj)]) bC k!)<|BV f0 u4<|VV (aE (a:=some (AV.bool true)) (b:=some (AV.bool (!Span.eq (⟨a.aq,a.aj⟩:Span) (⟨b.aq,b.aj⟩:Span)))) f0)<|CC<|BC f1<|BM f1 (ao 3 3 (Zi a.aO) (aZ _ _ aA) k!)<|BC f1<|BM f1 (ao 3 3 (Zi b.aO) bC k!)<|BV f1 (cf 3 false false .i64 a.aO b.aO)<|VV (aE (a:=some (AV.bool true)) (b:=some (AV.bool (!decide (a.aO=b.aO)))) f1)<|CC<|BB f2<|BB f2<|BB f2<|BB f2<|BV f2 (ml true f2)<|CC<|TT<|TT<|TT<|TT<|TT<|CN 2<|TT<|TT<|TT<|TT<|TT<|TT<|TT<|CC<|TT<|CC<|ZZ) k!) k!) eW rfl
     · have mT:=rP f2
       rcases Bool.eq_false_or_eq_true (!decide (a.aR=b.aR)) with f3 | f3
       · have kM:=rO f3
         have e:bz a b=false:=by simp only[bz,f0,f1,f2,f3,ak,ah]
         rw[e]
         exact aw rfl (aI Tryz.func41 et rfl (.inr rfl) (pk (d) _ _ h _ h2 (NN br (fun i=>(Pt i))<|NN fH (fun i=>(Pt i))<|CN 2<|MM (ao 9 0 (AV.str a.name) (aZ _ _ aA) k!)<|CC<|MM (ao 9 0 (AV.str b.name) bC k!)<|VV (vE 9 false false a.name b.name)<|CC<|BC f0<|BM f0 (ao 40 1 (AV.agg [(Zi a.aq),(Zi a.aj)]) (aZ _ _ aA) k!)<|BC f0<|BM f0 (ao 40 1 (AV.agg [(Zi b.aq),(Zi b.aj)]) bC k!)<|BV f0 u4<|VV (aE (a:=some (AV.bool true)) (b:=some (AV.bool (!Span.eq (⟨a.aq,a.aj⟩:Span) (⟨b.aq,b.aj⟩:Span)))) f0)<|CC<|BC f1<|BM f1 (ao 3 3 (Zi a.aO) (aZ _ _ aA) k!)<|BC f1<|BM f1 (ao 3 3 (Zi b.aO) bC k!)<|BV f1 (cf 3 false false .i64 a.aO b.aO)<|VV (aE (a:=some (AV.bool true)) (b:=some (AV.bool (!decide (a.aO=b.aO)))) f1)<|CC<|BC f2<|BM f2 (ao 3 4 (Zi a.aR) (aZ _ _ aA) k!)<|BC f2<|BM f2 (ao 3 4 (Zi b.aR) bC k!)<|BV f2 (cf 3 false false .i64 a.aR b.aR)<|VV (aE (a:=some (AV.bool true)) (b:=some (AV.bool (!decide (a.aR=b.aR)))) f2)<|CC<|BB f3<|BB f3<|BB f3<|BB f3<|BV f3 (ml true f3)<|CC<|TT<|TT<|TT<|TT<|TT<|TT<|TT<|CC<|TT<|CC<|ZZ) k!) k!) eW rfl
       · have kM:=rP f3
         rcases Bool.eq_false_or_eq_true (!decide (a.bad=b.bad)) with f4 | f4
         · have lE:=rO f4
           have e:bz a b=false:=by simp only[bz,f0,f1,f2,f3,f4,ak,ah]
           rw[e]
           exact aw rfl (aI Tryz.func41 et rfl (.inr rfl) (pk (d) _ _ h _ h2 (NN br (fun i=>(Pt i))<|NN fH (fun i=>(Pt i))<|CN 2<|MM (ao 9 0 (AV.str a.name) (aZ _ _ aA) k!)<|CC<|MM (ao 9 0 (AV.str b.name) bC k!)<|VV (vE 9 false false a.name b.name)<|CC<|BC f0<|BM f0 (ao 40 1 (AV.agg [(Zi a.aq),(Zi a.aj)]) (aZ _ _ aA) k!)<|BC f0<|BM f0 (ao 40 1 (AV.agg [(Zi b.aq),(Zi b.aj)]) bC k!)<|BV f0 u4<|VV (aE (a:=some (AV.bool true)) (b:=some (AV.bool (!Span.eq (⟨a.aq,a.aj⟩:Span) (⟨b.aq,b.aj⟩:Span)))) f0)<|CC<|BC f1<|BM f1 (ao 3 3 (Zi a.aO) (aZ _ _ aA) k!)<|BC f1<|BM f1 (ao 3 3 (Zi b.aO) bC k!)<|BV f1 (cf 3 false false .i64 a.aO b.aO)<|VV (aE (a:=some (AV.bool true)) (b:=some (AV.bool (!decide (a.aO=b.aO)))) f1)<|CC<|BC f2<|BM f2 (ao 3 4 (Zi a.aR) (aZ _ _ aA) k!)<|BC f2<|BM f2 (ao 3 4 (Zi b.aR) bC k!)<|BV f2 (cf 3 false false .i64 a.aR b.aR)<|VV (aE (a:=some (AV.bool true)) (b:=some (AV.bool (!decide (a.aR=b.aR)))) f2)<|CC<|BC f3<|BM f3 (ao 3 5 (Zi a.bad) (aZ _ _ aA) k!)<|BC f3<|BM f3 (ao 3 5 (Zi b.bad) bC k!)<|BV f3 (cf 3 false false .i64 a.bad b.bad)<|VV (aE (a:=some (AV.bool true)) (b:=some (AV.bool (!decide (a.bad=b.bad)))) f3)<|CC<|BB f4<|BB f4<|BB f4<|BB f4<|BB f4<|BB f4<|BV f4 (ml true f4)<|TT<|CC<|ZZ) k!) k!) eW rfl
         · have lE:=rP f4
           have Ip:cg (some (.slice 28)) (some a.aD)=some (Zn a.ar.length):=iS.2.len
           have uQ:cg (some (.slice 28)) (some b.aD)=some (Zn b.ar.length):=jF.2.len
           rcases Bool.eq_false_or_eq_true (!decide (((a.ar.length:Nat):Int)=((b.ar.length:Nat):Int))) with f5 | f5
           · have yN:=rO f5
             have e:bz a b=false:=by simp only[bz,f0,f1,f2,f3,f4,f5,ak,ah]
             rw[e]
             exact aw rfl (aI Tryz.func41 et rfl (.inr rfl) (pk (d) _ _ h _ h2 (NN br (fun i=>(Pt i))<|NN fH (fun i=>(Pt i))<|CN 2<|MM (ao 9 0 (AV.str a.name) (aZ _ _ aA) k!)<|CC<|MM (ao 9 0 (AV.str b.name) bC k!)<|VV (vE 9 false false a.name b.name)<|CC<|BC f0<|BM f0 (ao 40 1 (AV.agg [(Zi a.aq),(Zi a.aj)]) (aZ _ _ aA) k!)<|BC f0<|BM f0 (ao 40 1 (AV.agg [(Zi b.aq),(Zi b.aj)]) bC k!)<|BV f0 u4<|VV (aE (a:=some (AV.bool true)) (b:=some (AV.bool (!Span.eq (⟨a.aq,a.aj⟩:Span) (⟨b.aq,b.aj⟩:Span)))) f0)<|CC<|BC f1<|BM f1 (ao 3 3 (Zi a.aO) (aZ _ _ aA) k!)<|BC f1<|BM f1 (ao 3 3 (Zi b.aO) bC k!)<|BV f1 (cf 3 false false .i64 a.aO b.aO)<|VV (aE (a:=some (AV.bool true)) (b:=some (AV.bool (!decide (a.aO=b.aO)))) f1)<|CC<|BC f2<|BM f2 (ao 3 4 (Zi a.aR) (aZ _ _ aA) k!)<|BC f2<|BM f2 (ao 3 4 (Zi b.aR) bC k!)<|BV f2 (cf 3 false false .i64 a.aR b.aR)<|VV (aE (a:=some (AV.bool true)) (b:=some (AV.bool (!decide (a.aR=b.aR)))) f2)<|CC<|BC f3<|BM f3 (ao 3 5 (Zi a.bad) (aZ _ _ aA) k!)<|BC f3<|BM f3 (ao 3 5 (Zi b.bad) bC k!)<|BV f3 (cf 3 false false .i64 a.bad b.bad)<|VV (aE (a:=some (AV.bool true)) (b:=some (AV.bool (!decide (a.bad=b.bad)))) f3)<|CC<|BC f4<|BM f4 (ao 41 6 a.aD (aZ _ _ aA) k!)<|BV f4 Ip<|BC f4<|BM f4 (ao 41 6 b.aD bC k!)<|BV f4 uQ<|BV f4 (cf 3 false false .i64 ((a.ar.length:Nat):Int) ((b.ar.length:Nat):Int))<|VV (aE (a:=some (AV.bool true)) (b:=some (AV.bool (!decide (((a.ar.length:Nat):Int)=((b.ar.length:Nat):Int))))) f4)<|BC f5<|ZZ) k!) k!) eW rfl
           · have yN:=rP f5
             cases gY:dJ a b a.ar.length 0 with
             | none=>
               obtain ⟨vT,r_,jS,ft⟩:=aB.n gY (kh (d:=d) (h:=h) a b h.nx h1.nx iS.1 iS.2 jF.1 jF.2 iS jF o! a.ar.length 0 o! (fun k_=>(((AV.agg [(AV.str a.name),(Zi a.aq),(Zi a.aj),(Zi a.aO),(Zi a.aR),(Zi a.bad),a.aD])::(AV.agg [(AV.str b.name),(Zi b.aq),(Zi b.aj),(Zi b.aO),(Zi b.aR),(Zi b.bad),b.aD])::(Pt h.nx)::(Pt h1.nx)::(AV.bool false)::(Zi 0)::(Pt h.nx)::(AV.str a.name)::(Pt h1.nx)::(AV.str b.name)::(AV.bool (!decide (a.name=b.name)))::(AV.bool (!decide (a.name=b.name)))::(AV.ptr h.nx 1)::(AV.agg [(Zi a.aq),(Zi a.aj)])::(AV.ptr h1.nx 1)::(AV.agg [(Zi b.aq),(Zi b.aj)])::(AV.bool (!Span.eq (⟨a.aq,a.aj⟩:Span) (⟨b.aq,b.aj⟩:Span)))::(AV.bool (!Span.eq (⟨a.aq,a.aj⟩:Span) (⟨b.aq,b.aj⟩:Span)))::(AV.bool (!Span.eq (⟨a.aq,a.aj⟩:Span) (⟨b.aq,b.aj⟩:Span)))::(AV.ptr h.nx 3)::(Zi a.aO)::(AV.ptr h1.nx 3)::(Zi b.aO)::(AV.bool (!decide (a.aO=b.aO)))::(AV.bool (!decide (a.aO=b.aO)))::(AV.bool (!decide (a.aO=b.aO)))::(AV.ptr h.nx 4)::(Zi a.aR)::(AV.ptr h1.nx 4)::(Zi b.aR)::(AV.bool (!decide (a.aR=b.aR)))::(AV.bool (!decide (a.aR=b.aR)))::(AV.bool (!decide (a.aR=b.aR)))::(AV.ptr h.nx 5)::(Zi a.bad)::(AV.ptr h1.nx 5)::(Zi b.bad)::(AV.bool (!decide (a.bad=b.bad)))::(AV.bool (!decide (a.bad=b.bad)))::(AV.bool (!decide (a.bad=b.bad)))::(AV.ptr h.nx 6)::a.aD::(Zn a.ar.length)::(AV.ptr h1.nx 6)::b.aD::(Zn b.ar.length)::(AV.bool (!decide (((a.ar.length:Nat):Int)=((b.ar.length:Nat):Int))))::(AV.bool (!decide (((a.ar.length:Nat):Int)=((b.ar.length:Nat):Int))))::jg 18):List AV).getD k_ AV.undef) h2 mS eW (aZ _ _ aA) bC)
               have xH:=ft.y
               have Iv:h2.nx≤r_.nx:=ft.n
               have m5:Has h r_:=eW.trans ft.a
               have e:bz a b=true:=by simp only[bz,f0,f1,f2,f3,f4,f5,gY,ak,ah]
               rw[e]
               exact aw rfl (aI Tryz.func41 et rfl (.inr rfl) (pk (d) _ _ h _ r_ (NN br (fun i=>(Pt i))<|NN fH (fun i=>(Pt i))<|CN 2<|MM (ao 9 0 (AV.str a.name) (aZ _ _ aA) k!)<|CC<|MM (ao 9 0 (AV.str b.name) bC k!)<|VV (vE 9 false false a.name b.name)<|CC<|BC f0<|BM f0 (ao 40 1 (AV.agg [(Zi a.aq),(Zi a.aj)]) (aZ _ _ aA) k!)<|BC f0<|BM f0 (ao 40 1 (AV.agg [(Zi b.aq),(Zi b.aj)]) bC k!)<|BV f0 u4<|VV (aE (a:=some (AV.bool true)) (b:=some (AV.bool (!Span.eq (⟨a.aq,a.aj⟩:Span) (⟨b.aq,b.aj⟩:Span)))) f0)<|CC<|BC f1<|BM f1 (ao 3 3 (Zi a.aO) (aZ _ _ aA) k!)<|BC f1<|BM f1 (ao 3 3 (Zi b.aO) bC k!)<|BV f1 (cf 3 false false .i64 a.aO b.aO)<|VV (aE (a:=some (AV.bool true)) (b:=some (AV.bool (!decide (a.aO=b.aO)))) f1)<|CC<|BC f2<|BM f2 (ao 3 4 (Zi a.aR) (aZ _ _ aA) k!)<|BC f2<|BM f2 (ao 3 4 (Zi b.aR) bC k!)<|BV f2 (cf 3 false false .i64 a.aR b.aR)<|VV (aE (a:=some (AV.bool true)) (b:=some (AV.bool (!decide (a.aR=b.aR)))) f2)<|CC<|BC f3<|BM f3 (ao 3 5 (Zi a.bad) (aZ _ _ aA) k!)<|BC f3<|BM f3 (ao 3 5 (Zi b.bad) bC k!)<|BV f3 (cf 3 false false .i64 a.bad b.bad)<|VV (aE (a:=some (AV.bool true)) (b:=some (AV.bool (!decide (a.bad=b.bad)))) f3)<|CC<|BC f4<|BM f4 (ao 41 6 a.aD (aZ _ _ aA) k!)<|BV f4 Ip<|BC f4<|BM f4 (ao 41 6 b.aD bC k!)<|BV f4 uQ<|BV f4 (cf 3 false false .i64 ((a.ar.length:Nat):Int) ((b.ar.length:Nat):Int))<|VV (aE (a:=some (AV.bool true)) (b:=some (AV.bool (!decide (((a.ar.length:Nat):Int)=((b.ar.length:Nat):Int))))) f4)<|BC f5<|LL jS<|CC<|ZZ) k!) k!) m5 rfl
             | some B3=>
               obtain ⟨vT,r_,jS,ft⟩:=aB.r gY (kh (d:=d) (h:=h) a b h.nx h1.nx iS.1 iS.2 jF.1 jF.2 iS jF o! a.ar.length 0 o! (fun k_=>(((AV.agg [(AV.str a.name),(Zi a.aq),(Zi a.aj),(Zi a.aO),(Zi a.aR),(Zi a.bad),a.aD])::(AV.agg [(AV.str b.name),(Zi b.aq),(Zi b.aj),(Zi b.aO),(Zi b.aR),(Zi b.bad),b.aD])::(Pt h.nx)::(Pt h1.nx)::(AV.bool false)::(Zi 0)::(Pt h.nx)::(AV.str a.name)::(Pt h1.nx)::(AV.str b.name)::(AV.bool (!decide (a.name=b.name)))::(AV.bool (!decide (a.name=b.name)))::(AV.ptr h.nx 1)::(AV.agg [(Zi a.aq),(Zi a.aj)])::(AV.ptr h1.nx 1)::(AV.agg [(Zi b.aq),(Zi b.aj)])::(AV.bool (!Span.eq (⟨a.aq,a.aj⟩:Span) (⟨b.aq,b.aj⟩:Span)))::(AV.bool (!Span.eq (⟨a.aq,a.aj⟩:Span) (⟨b.aq,b.aj⟩:Span)))::(AV.bool (!Span.eq (⟨a.aq,a.aj⟩:Span) (⟨b.aq,b.aj⟩:Span)))::(AV.ptr h.nx 3)::(Zi a.aO)::(AV.ptr h1.nx 3)::(Zi b.aO)::(AV.bool (!decide (a.aO=b.aO)))::(AV.bool (!decide (a.aO=b.aO)))::(AV.bool (!decide (a.aO=b.aO)))::(AV.ptr h.nx 4)::(Zi a.aR)::(AV.ptr h1.nx 4)::(Zi b.aR)::(AV.bool (!decide (a.aR=b.aR)))::(AV.bool (!decide (a.aR=b.aR)))::(AV.bool (!decide (a.aR=b.aR)))::(AV.ptr h.nx 5)::(Zi a.bad)::(AV.ptr h1.nx 5)::(Zi b.bad)::(AV.bool (!decide (a.bad=b.bad)))::(AV.bool (!decide (a.bad=b.bad)))::(AV.bool (!decide (a.bad=b.bad)))::(AV.ptr h.nx 6)::a.aD::(Zn a.ar.length)::(AV.ptr h1.nx 6)::b.aD::(Zn b.ar.length)::(AV.bool (!decide (((a.ar.length:Nat):Int)=((b.ar.length:Nat):Int))))::(AV.bool (!decide (((a.ar.length:Nat):Int)=((b.ar.length:Nat):Int))))::jg 18):List AV).getD k_ AV.undef) h2 mS eW (aZ _ _ aA) bC)
               have xH:=ft.y
               have Iv:h2.nx≤r_.nx:=ft.n
               have m5:Has h r_:=eW.trans ft.a
               have e:bz a b=B3:=by simp only[bz,f0,f1,f2,f3,f4,f5,gY,ak,ah]
               rw[e]
               exact aw rfl (aI Tryz.func41 et rfl (.inr rfl) (pk (d) _ _ h _ r_ (NN br (fun i=>(Pt i))<|NN fH (fun i=>(Pt i))<|CN 2<|MM (ao 9 0 (AV.str a.name) (aZ _ _ aA) k!)<|CC<|MM (ao 9 0 (AV.str b.name) bC k!)<|VV (vE 9 false false a.name b.name)<|CC<|BC f0<|BM f0 (ao 40 1 (AV.agg [(Zi a.aq),(Zi a.aj)]) (aZ _ _ aA) k!)<|BC f0<|BM f0 (ao 40 1 (AV.agg [(Zi b.aq),(Zi b.aj)]) bC k!)<|BV f0 u4<|VV (aE (a:=some (AV.bool true)) (b:=some (AV.bool (!Span.eq (⟨a.aq,a.aj⟩:Span) (⟨b.aq,b.aj⟩:Span)))) f0)<|CC<|BC f1<|BM f1 (ao 3 3 (Zi a.aO) (aZ _ _ aA) k!)<|BC f1<|BM f1 (ao 3 3 (Zi b.aO) bC k!)<|BV f1 (cf 3 false false .i64 a.aO b.aO)<|VV (aE (a:=some (AV.bool true)) (b:=some (AV.bool (!decide (a.aO=b.aO)))) f1)<|CC<|BC f2<|BM f2 (ao 3 4 (Zi a.aR) (aZ _ _ aA) k!)<|BC f2<|BM f2 (ao 3 4 (Zi b.aR) bC k!)<|BV f2 (cf 3 false false .i64 a.aR b.aR)<|VV (aE (a:=some (AV.bool true)) (b:=some (AV.bool (!decide (a.aR=b.aR)))) f2)<|CC<|BC f3<|BM f3 (ao 3 5 (Zi a.bad) (aZ _ _ aA) k!)<|BC f3<|BM f3 (ao 3 5 (Zi b.bad) bC k!)<|BV f3 (cf 3 false false .i64 a.bad b.bad)<|VV (aE (a:=some (AV.bool true)) (b:=some (AV.bool (!decide (a.bad=b.bad)))) f3)<|CC<|BC f4<|BM f4 (ao 41 6 a.aD (aZ _ _ aA) k!)<|BV f4 Ip<|BC f4<|BM f4 (ao 41 6 b.aD bC k!)<|BV f4 uQ<|BV f4 (cf 3 false false .i64 ((a.ar.length:Nat):Int) ((b.ar.length:Nat):Int))<|VV (aE (a:=some (AV.bool true)) (b:=some (AV.bool (!decide (((a.ar.length:Nat):Int)=((b.ar.length:Nat):Int))))) f4)<|BC f5<|LL jS<|ZZ) k!) k!) m5 rfl
end
end Go.Proofs.aM
