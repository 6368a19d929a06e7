import Derived.Test.YtijehnelcbdlgaaGreatW0
import Derived.Test.YtijehnelcbdlgaaGreatW1
import Derived.Test.YtijehnelcbdlgaaGreatW5
import Derived.Test.YtijehnelcbdlgaaGreatW3
namespace Go.Proofs.aM
open Go.Proofs Ab
noncomputable section
set_option maxRecDepth 100000
set_option maxHeartbeats 4000000
set_option linter.unusedVariables false
set_option linter.unusedSimpArgs false
def GI:Code:=(Tryz.f137.body).getD .skip
theorem acN:Tryz.f137.body=some GI:=by kernel_rfl
def UN:Code:=(bl GI).getD 0 .skip
def iG (j:bP) (ah:Int) (aE:List Bool) (aj:List Int) (mqn:Int):Nat→Nat→Int→Int
 | 0,_,cR=>cR
 | dx+1,i0,cR=>(bif (aE.g i0) then (bif (decide ((aj.g i0)≤mqn)) then (bif (decide (mqn<(IntKind.i64.wrap ((aj.g i0)+((j.ab.g i0).takes))))) then iG j ah aE aj mqn dx (i0+1) (IntKind.i64.wrap (cR+(gP (j.ab.g i0) ah))) else iG j ah aE aj mqn dx (i0+1) cR) else iG j ah aE aj mqn dx (i0+1) cR) else iG j ah aE aj mqn dx (i0+1) cR)
theorem qT {d:Nat} {h:az} (aJ:AV) (bO:AV) (ah:Int) (mqn:Int) (j:bP) (aj:List Int) (aE:List Bool) (bj:Nat) (bp:bT h .i64 3 aJ aj) (cC:pT h 4 bO aE) (dq:aO h j.au j.ab) (lG:aO h j.ar j.af) (fI:aK.ok h j) (fU:aE.length=j.ab.length) (iB:aj.length=j.ab.length):∀(k_ i_:Nat) (cR:Int) (_:i_+k_=j.ab.length) (x:Nat→AV) (hh:az) (aF:Tidy hh) (aA:Has h hh) (br:hh.get bj=some (aN.cells [j.au,j.ar] 25 false)),cr (cA (d+1)) UN ⟨((x 0)::aJ::bO::(Zi ah)::(Zi mqn)::(Pt bj)::rx x 6 5 ((Zi cR)::(Zn i_)::rx x 13 44 [])),hh,[],.no⟩ (.exit 0) hh (fun r y=>((y 0)::aJ::bO::(Zi ah)::(Zi mqn)::(Pt bj)::rx y 6 5 ((Zi r)::rx y 12 45 []))) (fun r=>True) (iG j ah aE aj mqn k_ i_ cR)
 | 0,i0,cR,eZ,x,hh,aF,aA,br=>by
  have gd:=(dq.has aA).len
  have q2:(decide (((i0:Nat):Int)<((j.ab.length:Nat):Int)))=false:=d!
  exact cr.out cR rfl (pk (d+1) _ _ hh _ hh (CN 2<|MM (aP 22 0 j.au br k!)<|VV gd<|VV (bE 3 false false .i64 ((i0:Nat):Int) ((j.ab.length:Nat):Int))<|BB q2<|ZZ) k!) (Grow.refl aF) trivial k!
 | dx+1,i0,cR,eZ,x,hh,aF,aA,br=>by
  have gN:=bp.small
  have mw:=cC.small
  have sX:=dq.small
  have JW:=lG.small
  have tD:=aF _ _ br
  have gd:=(dq.has aA).len
  have q2:(decide (((i0:Nat):Int)<((j.ab.length:Nat):Int)))=true:=d!
  obtain ⟨p4,q5,oH,_⟩:=(cC.has aA).elem (i:=i0) o!
  have qm:=(cC.has aA).load o! oH
  have ei:=fun {al ps} (k:Pk al _ ps)=>(CN 2<|MM (aP 22 0 j.au br k!)<|VV gd<|VV (bE 3 false false .i64 ((i0:Nat):Int) ((j.ab.length:Nat):Int))<|BB q2<|CN 2<|VV oH<|MM qm<|CC<|k:Pk _ [] ps)
  rcases bu (aE.g i0) with f1 | f1
  · obtain ⟨p9,uL,GB,_⟩:=(bp.has aA).elem (i:=i0) o!
    have tG:=(bp.has aA).load o! GB
    have gK:=fun {al ps} (k:Pk al _ ps)=>(ei<|BC f1<|BC f1<|BV f1 GB<|BM f1 tG<|BC f1<|BV f1 (tx 3 false false .i64 (aj.g i0) mqn)<|VV (tp (decide ((aj.g i0)≤mqn)) false f1)<|CC<|k:Pk _ [] ps)
    rcases bu (decide ((aj.g i0)≤mqn)) with f2 | f2
    · have pX:=jv f2
      obtain ⟨p14,q15,JX,_⟩:=(bp.has aA).elem (i:=i0) o!
      have Hk:=(bp.has aA).load o! JX
      obtain ⟨p18,q19,Zh⟩:=(dq.has aA).elem (i:=i0) o!
      have Ol:=(dq.has aA).part (t:=3) (j:=1) o! Zh k! rfl
      have c21:=(dq.has aA).same 19
      have n9:=fun {al ps} (k:Pk al _ ps)=>(gK<|BC f2<|BC f2<|BC f2<|BV f2 JX<|BM f2 Hk<|BC f2<|BM f2 (aP 22 0 j.au br k!)<|BC f2<|BV f2 Zh<|BC f2<|BM f2 Ol<|BC f2<|BV f2 (bE 3 false false .i64 mqn (IntKind.i64.wrap ((aj.g i0)+((j.ab.g i0).takes))))<|VV (tp (decide (mqn<(IntKind.i64.wrap ((aj.g i0)+((j.ab.g i0).takes))))) false f2)<|HH qm<|HH (show AV.same 20 (AV.bool (aE.g i0)) (AV.bool (aE.g i0))=true from mM 19 _)<|HH tG<|HH (show AV.same 20 (Zi (aj.g i0)) (Zi (aj.g i0))=true from aS 19 _ _)<|HH Hk<|HH (show AV.same 20 (Zi (aj.g i0)) (Zi (aj.g i0))=true from aS 19 _ _)<|HH (aP 22 0 j.au br k!)<|HH c21<|HH Ol<|HH (show AV.same 20 (Zi (j.ab.g i0).takes) (Zi (j.ab.g i0).takes)=true from aS 19 _ _)<|k:Pk _ [] ps)
      rcases bu (decide (mqn<(IntKind.i64.wrap ((aj.g i0)+((j.ab.g i0).takes))))) with f3 | f3
      · have tF:=jv f3
        obtain ⟨p24,q25,aon⟩:=(dq.has aA).elem (i:=i0) o!
        have arY:=(dq.has aA).load o! aon
        have k27:=acM (d:=d) (j.ab.g i0) ah ((dq.has aA).ok (i:=i0) o!) aF
        have u28:=eA 3 false true i0 1 o!
        exact cr.round (by simp only[iG,f1,f2,f3,ao,ai]) (pk (d+1) _ _ hh _ hh (n9<|BB f3<|CN 2<|MM (aP 22 0 j.au br k!)<|CC<|VV aon<|MM arY<|CC<|EE k27<|CN 3<|VV u28<|CC<|ZZ) k!) (Grow.refl aF) _ k! (fun x=>qT aJ bO ah mqn j aj aE bj bp cC dq lG fI fU iB dx (i0+1) (IntKind.i64.wrap (cR+(gP (j.ab.g i0) ah))) o! x hh aF aA br)
      · have tF:=pK f3
        have u23:=eA 3 false true i0 1 o!
        exact cr.round (by simp only[iG,f1,f2,f3,ao,ai]) (pk (d+1) _ _ hh _ hh (n9<|BC f3<|VV u23<|CC<|ZZ) k!) (Grow.refl aF) _ k! (fun x=>qT aJ bO ah mqn j aj aE bj bp cC dq lG fI fU iB dx (i0+1) cR o! x hh aF aA br)
    · have pX:=pK f2
      have u13:=eA 3 false true i0 1 o!
      exact cr.round (by simp only[iG,f1,f2,ao,ai]) (pk (d+1) _ _ hh _ hh (gK<|BB f2<|BB f2<|BB f2<|BB f2<|BB f2<|BB f2<|BB f2<|BB f2<|BB f2<|BB f2<|BB f2<|BB f2<|BV f2 (vd false f2)<|HH qm<|HH (show AV.same 20 (AV.bool (aE.g i0)) (AV.bool (aE.g i0))=true from mM 19 _)<|HH tG<|HH (show AV.same 20 (Zi (aj.g i0)) (Zi (aj.g i0))=true from aS 19 _ _)<|FF<|CC<|VV u13<|CC<|ZZ) k!) (Grow.refl aF) _ k! (fun x=>qT aJ bO ah mqn j aj aE bj bp cC dq lG fI fU iB dx (i0+1) cR o! x hh aF aA br)
  · have u8:=eA 3 false true i0 1 o!
    exact cr.round (by simp only[iG,f1,ao,ai]) (pk (d+1) _ _ hh _ hh (ei<|BB f1<|BB f1<|BB f1<|BB f1<|BB f1<|BV f1 (vd false f1)<|CC<|FF<|FF<|FF<|FF<|FF<|FF<|FF<|FF<|FF<|FF<|FF<|FF<|FF<|CC<|HH qm<|HH (show AV.same 20 (AV.bool (aE.g i0)) (AV.bool (aE.g i0))=true from mM 19 _)<|FF<|CC<|VV u8<|CC<|ZZ) k!) (Grow.refl aF) _ k! (fun x=>qT aJ bO ah mqn j aj aE bj bp cC dq lG fI fU iB dx (i0+1) cR o! x hh aF aA br)
def lX (j:bP) (aj:List Int) (aE:List Bool) (ah:Int) (mqn:Int):Int:=(iG j ah aE aj mqn j.ab.length 0 0)
theorem R3 {d:Nat} {h:az} {aJ bO:AV} (j:bP) (aj:List Int) (aE:List Bool) (ah:Int) (mqn:Int) (b7:aK.ok h j) (bA:bT h .i64 3 aJ aj) (vt:pT h 4 bO aE) (mf:aE.length=j.ab.length) (oQ:aj.length=j.ab.length) (bM:Tidy h):cA (d+2) (.fn 137) [(AV.agg [j.au,j.ar]),aJ,bO,(Zi ah),(Zi mqn)] h= .ret (Zi (lX j aj aE ah mqn)) h:=by
 obtain ⟨h1,dw,de,jW,bx,ca⟩:=gQ bM (aN.cells [j.au,j.ar] 25 false)
 have bD:=ca
 obtain ⟨HN,h3,dV,iC,CQ⟩:=qT (d:=d) (h:=h) aJ bO ah mqn j aj aE h.nx bA vt b7.1 b7.2 b7 o! o! j.ab.length 0 0 o! (dr ((AV.agg [j.au,j.ar])::aJ::bO::(Zi ah)::(Zi mqn)::(Pt h.nx)::aL::aL::aL::aL::(Zi 0)::(Zi 0)::(Zi 0)::iW 44)) h1 de bD bx
 have fl:=bD.trans iC.a
 have e:lX j aj aE ah mqn=(iG j ah aE aj mqn j.ab.length 0 0):=by simp only[lX,ao,ai]
 rw[e]
 exact aG rfl (aY Tryz.func137 acN rfl (.inr rfl) (pk (d+1) _ _ h _ h3 (NN dw (fun i=>(Pt i))<|CN 3<|LL dV<|CN 2<|ZZ) k!) k!) fl rfl
def OW:Code:=(Tryz.f38.body).getD .skip
theorem M1:Tryz.f38.body=some OW:=by kernel_rfl
def eO (n:Int):Bool:=(bif (decide (0≤n)) then (decide (n≤100000)) else false)
theorem zW {d:Nat} {h:az} (n:Int) (bM:Tidy h):cA (d+1) (.fn 38) [(Zi n)] h= .ret (AV.bool (eO n)) h:=by
 rcases bu (decide (0≤n)) with f0 | f0
 · have e:eO n=(decide (n≤100000)):=by simp only[eO,f0,ao,ai]
   rw[e]
   exact aG rfl (aY Tryz.func38 M1 rfl (.inr rfl) (pk (d) _ _ h _ h (CN 2<|VV (tA 3 false true .i64 n 0)<|CC<|BC f0<|BV f0 (tx 3 false true .i64 n 100000)<|VV (tp (decide (n≤100000)) false f0)<|CC<|ZZ) k!) k!) (Has.refl _) rfl
 · have e:eO n=false:=by simp only[eO,f0,ao,ai]
   rw[e]
   exact aG rfl (aY Tryz.func38 M1 rfl (.inr rfl) (pk (d) _ _ h _ h (CN 2<|VV (tA 3 false true .i64 n 0)<|CC<|BB f0<|BV f0 (vd false f0)<|CC<|ZZ) k!) k!) (Has.refl _) rfl
theorem zX {p:Prop} (h:p:=by first | omega | assumption | (simp only[List.length_set,List.length_replicate,List.length_append,List.length_cons,List.length_nil,List.nil_append]<;>omega) | (rw[List.length_take];omega)):p:=h
def qU:Code:=(Tryz.f90.body).getD .skip
theorem yZ:Tryz.f90.body=some qU:=by kernel_rfl
def UO:Code:=(bl qU).getD 0 .skip
def UP:Code:=(bl qU).getD 1 .skip
def UQ:Code:=(bl qU).getD 2 .skip
def UR:Code:=(bl qU).getD 3 .skip
def jm (j:bP) (tqk:Int) (aE:List Bool) (s:Int) (aj:List Int):Nat→Nat→Option (Bool)
 | 0,_=>none
 | dx+1,i0=>(bif (aE.g ((j.ab.g tqk.toNat).aD.g i0).toNat) then (bif (decide (s<(IntKind.i64.wrap ((aj.g ((j.ab.g tqk.toNat).aD.g i0).toNat)+((j.ab.g ((j.ab.g tqk.toNat).aD.g i0).toNat).takes))))) then some false else jm j tqk aE s aj dx (i0+1)) else jm j tqk aE s aj dx (i0+1))
theorem y7 {d:Nat} {h:az} (aJ:AV) (bO:AV) (s:Int) (j:bP) (tqk:Int) (aj:List Int) (aE:List Bool) (bj:Nat) (cg:Nat) (bp:bT h .i64 3 aJ aj) (cC:pT h 4 bO aE) (dq:aO h j.au j.ab) (lG:aO h j.ar j.af) (wy:((j.ab.g tqk.toNat).name).length<2^60) (tH:bT h .i64 3 (j.ab.g tqk.toNat).bh (j.ab.g tqk.toNat).aD) (aku:aO h (j.ab.g tqk.toNat).bo (j.ab.g tqk.toNat).aB) (fI:aK.ok h j) (xW:aK.ok h (j.ab.g tqk.toNat)) (fU:aE.length=j.ab.length) (iB:aj.length=j.ab.length) (mO:0≤tqk) (nI:tqk<(j.ab.length:Int)) (o8:∀q,q<(j.ab.g tqk.toNat).aD.length→0≤(j.ab.g tqk.toNat).aD.g q∧(j.ab.g tqk.toNat).aD.g q<(j.ab.length:Int)) (qF:∀q,q<(j.ab.g tqk.toNat).aB.length→0≤((j.ab.g tqk.toNat).aB.g q).ah∧((j.ab.g tqk.toNat).aB.g q).ah<(j.af.length:Int)):∀(k_ i_:Nat) (_:i_+k_=((j.ab.g tqk.toNat).aD.length)) (x:Nat→AV) (hh:az) (aF:Tidy hh) (aA:Has h hh) (br:hh.get bj=some (aN.cells [j.au,j.ar] 25 false)) (dA:hh.get cg=some (aN.cells [(AV.str (j.ab.g tqk.toNat).name),(Zi (j.ab.g tqk.toNat).takes),(j.ab.g tqk.toNat).bh,(j.ab.g tqk.toNat).bo] 48 false)),aC (cA (d+2)) UO ⟨((x 0)::aJ::bO::(x 3)::(Zi s)::(Pt bj)::rx x 6 5 ((Pt cg)::(Zi (IntKind.i64.wrap (s+((j.ab.g tqk.toNat).takes))))::(Zn i_)::rx x 14 173 [])),hh,[],.no⟩ (.exit 0) hh (fun y=>((y 0)::aJ::bO::(y 3)::(Zi s)::(Pt bj)::rx y 6 5 ((Pt cg)::(Zi (IntKind.i64.wrap (s+((j.ab.g tqk.toNat).takes))))::rx y 13 174 []))) (fun r y=>((y 0)::aJ::bO::(y 3)::(Zi s)::(Pt bj)::rx y 6 4 ((AV.bool r)::(Pt cg)::(Zi (IntKind.i64.wrap (s+((j.ab.g tqk.toNat).takes))))::rx y 13 174 []))) (jm j tqk aE s aj k_ i_)
 | 0,i0,eZ,x,hh,aF,aA,br,dA=>by
  have gd:=(tH.has aA).len
  have q2:(decide (((i0:Nat):Int)<(((j.ab.g tqk.toNat).aD.length:Nat):Int)))=false:=d!
  exact aC.out rfl (pk (d+2) _ _ hh _ hh (CN 2<|MM (aP 26 2 (j.ab.g tqk.toNat).bh dA k!)<|VV gd<|VV (bE 3 false false .i64 ((i0:Nat):Int) (((j.ab.g tqk.toNat).aD.length:Nat):Int))<|BB q2<|ZZ) k!) (Grow.refl aF) k!
 | dx+1,i0,eZ,x,hh,aF,aA,br,dA=>by
  have gN:=bp.small
  have mw:=cC.small
  have sX:=dq.small
  have JW:=lG.small
  have akv:=tH.small
  have arZ:=aku.small
  have tD:=aF _ _ br
  have Lr:=aF _ _ dA
  obtain ⟨nd1,nd2⟩:=o8 i0 o!
  have gd:=(tH.has aA).len
  have q2:(decide (((i0:Nat):Int)<(((j.ab.g tqk.toNat).aD.length:Nat):Int)))=true:=d!
  obtain ⟨p4,q5,oH,_⟩:=(tH.has aA).elem (i:=i0) o!
  have qm:=(tH.has aA).load o! oH
  obtain ⟨p8,q9,RN,_⟩:=(cC.has aA).elem (i:=((j.ab.g tqk.toNat).aD.g i0).toNat) o!
  have GC:=xn RN o!
  have vn:=(cC.has aA).load o! RN
  have ei:=fun {al ps} (k:Pk al _ ps)=>(CN 2<|MM (aP 26 2 (j.ab.g tqk.toNat).bh dA k!)<|VV gd<|VV (bE 3 false false .i64 ((i0:Nat):Int) (((j.ab.g tqk.toNat).aD.length:Nat):Int))<|BC q2<|MM (aP 26 2 (j.ab.g tqk.toNat).bh dA k!)<|CC<|VV oH<|MM qm<|CN 3<|VV GC<|MM vn<|CC<|k:Pk _ [] ps)
  rcases bu (aE.g ((j.ab.g tqk.toNat).aD.g i0).toNat) with f1 | f1
  · obtain ⟨p13,q14,aiw,_⟩:=(bp.has aA).elem (i:=((j.ab.g tqk.toNat).aD.g i0).toNat) o!
    have Ls:=xn aiw o!
    have agG:=(bp.has aA).load o! aiw
    obtain ⟨p17,q18,R4⟩:=(dq.has aA).elem (i:=((j.ab.g tqk.toNat).aD.g i0).toNat) o!
    have Lm:=xn R4 o!
    have E3:=(dq.has aA).part (t:=3) (j:=1) o! R4 k! rfl
    have Xd:=(dq.has aA).same 19
    have gK:=fun {al ps} (k:Pk al _ ps)=>(ei<|BC f1<|BC f1<|BV f1 Ls<|BM f1 agG<|BC f1<|BM f1 (aP 22 0 j.au br k!)<|BC f1<|BV f1 Lm<|BC f1<|BM f1 E3<|BC f1<|BC f1<|BV f1 (gz 3 false false .i64 (IntKind.i64.wrap ((aj.g ((j.ab.g tqk.toNat).aD.g i0).toNat)+((j.ab.g ((j.ab.g tqk.toNat).aD.g i0).toNat).takes))) s)<|VV (tp (decide (s<(IntKind.i64.wrap ((aj.g ((j.ab.g tqk.toNat).aD.g i0).toNat)+((j.ab.g ((j.ab.g tqk.toNat).aD.g i0).toNat).takes))))) false f1)<|HH vn<|HH (show AV.same 20 (AV.bool (aE.g ((j.ab.g tqk.toNat).aD.g i0).toNat)) (AV.bool (aE.g ((j.ab.g tqk.toNat).aD.g i0).toNat))=true from mM 19 _)<|HH agG<|HH (show AV.same 20 (Zi (aj.g ((j.ab.g tqk.toNat).aD.g i0).toNat)) (Zi (aj.g ((j.ab.g tqk.toNat).aD.g i0).toNat))=true from aS 19 _ _)<|HH (aP 22 0 j.au br k!)<|HH Xd<|HH E3<|HH (show AV.same 20 (Zi (j.ab.g ((j.ab.g tqk.toNat).aD.g i0).toNat).takes) (Zi (j.ab.g ((j.ab.g tqk.toNat).aD.g i0).toNat).takes)=true from aS 19 _ _)<|k:Pk _ [] ps)
    rcases bu (decide (s<(IntKind.i64.wrap ((aj.g ((j.ab.g tqk.toNat).aD.g i0).toNat)+((j.ab.g ((j.ab.g tqk.toNat).aD.g i0).toNat).takes))))) with f2 | f2
    · have pX:=jv f2
      exact aC.ret false (by simp only[jm,f1,f2,ao,ai]) (pk (d+2) _ _ hh _ hh (gK<|BC f2<|ZZ) k!) (Grow.refl aF) k!
    · have pX:=pK f2
      have u22:=eA 3 false true i0 1 o!
      exact aC.round (by simp only[jm,f1,f2,ao,ai]) (pk (d+2) _ _ hh _ hh (gK<|BC f2<|VV u22<|CC<|ZZ) k!) (Grow.refl aF) _ k! (fun x=>y7 aJ bO s j tqk aj aE bj cg bp cC dq lG wy tH aku fI xW fU iB mO nI o8 qF dx (i0+1) o! x hh aF aA br dA)
  · have u12:=eA 3 false true i0 1 o!
    exact aC.round (by simp only[jm,f1,ao,ai]) (pk (d+2) _ _ hh _ hh (ei<|BB f1<|BB f1<|BB f1<|BB f1<|BB f1<|BB f1<|BB f1<|BB f1<|BB f1<|BB f1<|BB f1<|BB f1<|BV f1 (vd false f1)<|HH vn<|HH (show AV.same 20 (AV.bool (aE.g ((j.ab.g tqk.toNat).aD.g i0).toNat)) (AV.bool (aE.g ((j.ab.g tqk.toNat).aD.g i0).toNat))=true from mM 19 _)<|FF<|CC<|VV u12<|CC<|ZZ) k!) (Grow.refl aF) _ k! (fun x=>y7 aJ bO s j tqk aj aE bj cg bp cC dq lG wy tH aku fI xW fU iB mO nI o8 qF dx (i0+1) o! x hh aF aA br dA)
def jn (j:bP) (tqk:Int) (i1:Nat) (s:Int):Nat→Nat→Option (Bool)
 | 0,_=>none
 | DD+1,i2=>(bif (decide (((j.af.g ((j.ab.g tqk.toNat).aB.g i1).ah.toNat).off.g i2).a8<(IntKind.i64.wrap (s+((j.ab.g tqk.toNat).takes))))) then (bif (decide (s≤(((j.af.g ((j.ab.g tqk.toNat).aB.g i1).ah.toNat).off.g i2).aQ))) then some false else jn j tqk i1 s DD (i2+1)) else jn j tqk i1 s DD (i2+1))
theorem y8 {d:Nat} {h:az} (aJ:AV) (bO:AV) (s:Int) (j:bP) (tqk:Int) (i1:Nat) (aj:List Int) (aE:List Bool) (jD:Nat) (l5:Nat) (DE:Nat) (ky:bT h .i64 3 aJ aj) (lp:pT h 4 bO aE) (xZ:aO h j.au j.ab) (nS:aO h j.ar j.af) (JZ:((j.ab.g tqk.toNat).name).length<2^60) (akw:bT h .i64 3 (j.ab.g tqk.toNat).bh (j.ab.g tqk.toNat).aD) (akx:aO h (j.ab.g tqk.toNat).bo (j.ab.g tqk.toNat).aB) (aoo:((j.af.g ((j.ab.g tqk.toNat).aB.g i1).ah.toNat).name).length<2^60) (OX:aO h (j.af.g ((j.ab.g tqk.toNat).aB.g i1).ah.toNat).cJ (j.af.g ((j.ab.g tqk.toNat).aB.g i1).ah.toNat).off) (uM:aK.ok h j) (BQ:aK.ok h (j.ab.g tqk.toNat)) (aop:aK.ok h ((j.ab.g tqk.toNat).aB.g i1)) (aoq:aK.ok h (j.af.g ((j.ab.g tqk.toNat).aB.g i1).ah.toNat)) (aix:i1<((j.ab.g tqk.toNat).aB.length)) (Hl:aE.length=j.ab.length) (R5:aj.length=j.ab.length) (R6:0≤tqk) (Zj:tqk<(j.ab.length:Int)) (Zk:∀q,q<(j.ab.g tqk.toNat).aD.length→0≤(j.ab.g tqk.toNat).aD.g q∧(j.ab.g tqk.toNat).aD.g q<(j.ab.length:Int)) (Zl:∀q,q<(j.ab.g tqk.toNat).aB.length→0≤((j.ab.g tqk.toNat).aB.g q).ah∧((j.ab.g tqk.toNat).aB.g q).ah<(j.af.length:Int)):∀(k_ i_:Nat) (_:i_+k_=((j.af.g ((j.ab.g tqk.toNat).aB.g i1).ah.toNat).off.length)) (x:Nat→AV) (hh:az) (aF:Tidy hh) (aA:Has h hh) (iO:hh.get jD=some (aN.cells [j.au,j.ar] 25 false)) (nA:hh.get l5=some (aN.cells [(AV.str (j.ab.g tqk.toNat).name),(Zi (j.ab.g tqk.toNat).takes),(j.ab.g tqk.toNat).bh,(j.ab.g tqk.toNat).bo] 48 false)) (wH:hh.get DE=some (aN.cells [(AV.str (j.af.g ((j.ab.g tqk.toNat).aB.g i1).ah.toNat).name),(Zi (j.af.g ((j.ab.g tqk.toNat).aB.g i1).ah.toNat).aI),(j.af.g ((j.ab.g tqk.toNat).aB.g i1).ah.toNat).cJ] 45 false)),aC (cA (d+2)) UQ ⟨((x 0)::aJ::bO::(x 3)::(Zi s)::(Pt jD)::rx x 6 5 ((Pt l5)::(Zi (IntKind.i64.wrap (s+((j.ab.g tqk.toNat).takes))))::(x 13)::(x 14)::(Zn i1)::(Pt DE)::(Zn i_)::rx x 18 169 [])),hh,[],.no⟩ (.exit 4) hh (fun y=>((y 0)::aJ::bO::(y 3)::(Zi s)::(Pt jD)::rx y 6 5 ((Pt l5)::(Zi (IntKind.i64.wrap (s+((j.ab.g tqk.toNat).takes))))::(y 13)::(y 14)::(Zn i1)::(Pt DE)::rx y 17 170 []))) (fun r y=>((y 0)::aJ::bO::(y 3)::(Zi s)::(Pt jD)::rx y 6 4 ((AV.bool r)::(Pt l5)::(Zi (IntKind.i64.wrap (s+((j.ab.g tqk.toNat).takes))))::(y 13)::(y 14)::(Zn i1)::(Pt DE)::rx y 17 170 []))) (jn j tqk i1 s k_ i_)
 | 0,i2,eZ,x,hh,aF,aA,iO,nA,wH=>by
  have gd:=(OX.has aA).len
  have q2:(decide (((i2:Nat):Int)<(((j.af.g ((j.ab.g tqk.toNat).aB.g i1).ah.toNat).off.length:Nat):Int)))=false:=d!
  exact aC.out rfl (pk (d+2) _ _ hh _ hh (CN 2<|MM (aP 43 2 (j.af.g ((j.ab.g tqk.toNat).aB.g i1).ah.toNat).cJ wH k!)<|VV gd<|VV (bE 3 false false .i64 ((i2:Nat):Int) (((j.af.g ((j.ab.g tqk.toNat).aB.g i1).ah.toNat).off.length:Nat):Int))<|BB q2<|ZZ) k!) (Grow.refl aF) k!
 | DD+1,i2,eZ,x,hh,aF,aA,iO,nA,wH=>by
  have Ft:=ky.small
  have J0:=lp.small
  have US:=xZ.small
  have OY:=nS.small
  have ar0:=akw.small
  have ar1:=akx.small
  have ar2:=OX.small
  have acO:=aF _ _ iO
  have agH:=aF _ _ nA
  have aor:=aF _ _ wH
  have gd:=(OX.has aA).len
  have q2:(decide (((i2:Nat):Int)<(((j.af.g ((j.ab.g tqk.toNat).aB.g i1).ah.toNat).off.length:Nat):Int)))=true:=d!
  obtain ⟨p4,q5,oH⟩:=(OX.has aA).elem (i:=i2) o!
  have qm:=(OX.has aA).part (t:=3) (j:=0) o! oH k! rfl
  have n9:=fun {al ps} (k:Pk al _ ps)=>(CN 2<|MM (aP 43 2 (j.af.g ((j.ab.g tqk.toNat).aB.g i1).ah.toNat).cJ wH k!)<|VV gd<|VV (bE 3 false false .i64 ((i2:Nat):Int) (((j.af.g ((j.ab.g tqk.toNat).aB.g i1).ah.toNat).off.length:Nat):Int))<|BC q2<|MM (aP 43 2 (j.af.g ((j.ab.g tqk.toNat).aB.g i1).ah.toNat).cJ wH k!)<|CC<|VV oH<|CC<|MM qm<|CC<|VV (bE 3 false false .i64 ((j.af.g ((j.ab.g tqk.toNat).aB.g i1).ah.toNat).off.g i2).a8 (IntKind.i64.wrap (s+((j.ab.g tqk.toNat).takes))))<|CC<|k:Pk _ [] ps)
  rcases bu (decide (((j.af.g ((j.ab.g tqk.toNat).aB.g i1).ah.toNat).off.g i2).a8<(IntKind.i64.wrap (s+((j.ab.g tqk.toNat).takes))))) with f1 | f1
  · have eB:=jv f1
    obtain ⟨p9,uL,GB⟩:=(OX.has aA).elem (i:=i2) o!
    have tG:=(OX.has aA).part (t:=3) (j:=1) o! GB k! rfl
    have s5:=fun {al ps} (k:Pk al _ ps)=>(n9<|BC f1<|BC f1<|BM f1 (aP 43 2 (j.af.g ((j.ab.g tqk.toNat).aB.g i1).ah.toNat).cJ wH k!)<|BC f1<|BV f1 GB<|BC f1<|BM f1 tG<|BV f1 (tx 3 false false .i64 s ((j.af.g ((j.ab.g tqk.toNat).aB.g i1).ah.toNat).off.g i2).aQ)<|VV (tp (decide (s≤(((j.af.g ((j.ab.g tqk.toNat).aB.g i1).ah.toNat).off.g i2).aQ))) false f1)<|k:Pk _ [] ps)
    rcases bu (decide (s≤(((j.af.g ((j.ab.g tqk.toNat).aB.g i1).ah.toNat).off.g i2).aQ))) with f2 | f2
    · have pX:=jv f2
      exact aC.ret false (by simp only[jn,f1,f2,ao,ai]) (pk (d+2) _ _ hh _ hh (s5<|BC f2<|ZZ) k!) (Grow.refl aF) k!
    · have pX:=pK f2
      have u13:=eA 3 false true i2 1 o!
      exact aC.round (by simp only[jn,f1,f2,ao,ai]) (pk (d+2) _ _ hh _ hh (s5<|BC f2<|VV u13<|CC<|ZZ) k!) (Grow.refl aF) _ k! (fun x=>y8 aJ bO s j tqk i1 aj aE jD l5 DE ky lp xZ nS JZ akw akx aoo OX uM BQ aop aoq aix Hl R5 R6 Zj Zk Zl DD (i2+1) o! x hh aF aA iO nA wH)
  · have eB:=pK f1
    have u8:=eA 3 false true i2 1 o!
    exact aC.round (by simp only[jn,f1,ao,ai]) (pk (d+2) _ _ hh _ hh (n9<|BB f1<|BB f1<|BB f1<|BB f1<|BB f1<|BB f1<|BB f1<|BV f1 (vd false f1)<|FF<|CC<|VV u8<|CC<|ZZ) k!) (Grow.refl aF) _ k! (fun x=>y8 aJ bO s j tqk i1 aj aE jD l5 DE ky lp xZ nS JZ akw akx aoo OX uM BQ aop aoq aix Hl R5 R6 Zj Zk Zl DD (i2+1) o! x hh aF aA iO nA wH)
def gf (j:bP) (aE:List Bool) (s:Int) (aj:List Int) (tqk:Int) (i1:Nat):Nat→Nat→Option (Bool)
 | 0,_=>none
 | DF+1,i3=>(bif (aE.g i3) then (bif (decide (s<(aj.g i3))) then (bif (decide ((aj.g i3)<(IntKind.i64.wrap (s+((j.ab.g tqk.toNat).takes))))) then (bif (decide ((j.af.g ((j.ab.g tqk.toNat).aB.g i1).ah.toNat).aI<(IntKind.i64.wrap ((lX j aj aE ((j.ab.g tqk.toNat).aB.g i1).ah (aj.g i3))+(((j.ab.g tqk.toNat).aB.g i1).aI))))) then some false else gf j aE s aj tqk i1 DF (i3+1)) else gf j aE s aj tqk i1 DF (i3+1)) else gf j aE s aj tqk i1 DF (i3+1)) else gf j aE s aj tqk i1 DF (i3+1))
theorem qV {d:Nat} {h:az} (aJ:AV) (bO:AV) (s:Int) (j:bP) (tqk:Int) (i1:Nat) (aj:List Int) (aE:List Bool) (nU:Nat) (sd:Nat) (se:Nat) (lP:bT h .i64 3 aJ aj) (vu:pT h 4 bO aE) (Fu:aO h j.au j.ab) (Hm:aO h j.ar j.af) (Hn:((j.ab.g tqk.toNat).name).length<2^60) (Fv:bT h .i64 3 (j.ab.g tqk.toNat).bh (j.ab.g tqk.toNat).aD) (Ho:aO h (j.ab.g tqk.toNat).bo (j.ab.g tqk.toNat).aB) (LM:((j.af.g ((j.ab.g tqk.toNat).aB.g i1).ah.toNat).name).length<2^60) (acP:aO h (j.af.g ((j.ab.g tqk.toNat).aB.g i1).ah.toNat).cJ (j.af.g ((j.ab.g tqk.toNat).aB.g i1).ah.toNat).off) (BR:aK.ok h j) (LN:aK.ok h (j.ab.g tqk.toNat)) (R7:aK.ok h ((j.ab.g tqk.toNat).aB.g i1)) (Zm:aK.ok h (j.af.g ((j.ab.g tqk.toNat).aB.g i1).ah.toNat)) (Xe:i1<((j.ab.g tqk.toNat).aB.length)) (R8:aE.length=j.ab.length) (Zo:aj.length=j.ab.length) (Zp:0≤tqk) (Zq:tqk<(j.ab.length:Int)) (Zr:∀q,q<(j.ab.g tqk.toNat).aD.length→0≤(j.ab.g tqk.toNat).aD.g q∧(j.ab.g tqk.toNat).aD.g q<(j.ab.length:Int)) (Zs:∀q,q<(j.ab.g tqk.toNat).aB.length→0≤((j.ab.g tqk.toNat).aB.g q).ah∧((j.ab.g tqk.toNat).aB.g q).ah<(j.af.length:Int)):∀(k_ i_:Nat) (_:i_+k_=j.ab.length) (x:Nat→AV) (hh:az) (aF:Tidy hh) (aA:Has h hh) (mh:hh.get nU=some (aN.cells [j.au,j.ar] 25 false)) (py:hh.get sd=some (aN.cells [(AV.str (j.ab.g tqk.toNat).name),(Zi (j.ab.g tqk.toNat).takes),(j.ab.g tqk.toNat).bh,(j.ab.g tqk.toNat).bo] 48 false)) (ov:hh.get se=some (aN.cells [(AV.str (j.af.g ((j.ab.g tqk.toNat).aB.g i1).ah.toNat).name),(Zi (j.af.g ((j.ab.g tqk.toNat).aB.g i1).ah.toNat).aI),(j.af.g ((j.ab.g tqk.toNat).aB.g i1).ah.toNat).cJ] 45 false)),aC (cA (d+2)) UR ⟨((x 0)::aJ::bO::(x 3)::(Zi s)::(Pt nU)::rx x 6 5 ((Pt sd)::(Zi (IntKind.i64.wrap (s+((j.ab.g tqk.toNat).takes))))::(x 13)::(x 14)::(Zn i1)::(Pt se)::(x 17)::(Zn i_)::rx x 19 168 [])),hh,[],.no⟩ (.exit 6) hh (fun y=>((y 0)::aJ::bO::(y 3)::(Zi s)::(Pt nU)::rx y 6 5 ((Pt sd)::(Zi (IntKind.i64.wrap (s+((j.ab.g tqk.toNat).takes))))::(y 13)::(y 14)::(Zn i1)::(Pt se)::rx y 17 170 []))) (fun r y=>((y 0)::aJ::bO::(y 3)::(Zi s)::(Pt nU)::rx y 6 4 ((AV.bool r)::(Pt sd)::(Zi (IntKind.i64.wrap (s+((j.ab.g tqk.toNat).takes))))::(y 13)::(y 14)::(Zn i1)::(Pt se)::rx y 17 170 []))) (gf j aE s aj tqk i1 k_ i_)
 | 0,i3,eZ,x,hh,aF,aA,mh,py,ov=>by
  have gd:=(Fu.has aA).len
  have q2:(decide (((i3:Nat):Int)<((j.ab.length:Nat):Int)))=false:=d!
  exact aC.out rfl (pk (d+2) _ _ hh _ hh (CN 2<|MM (aP 22 0 j.au mh k!)<|VV gd<|VV (bE 3 false false .i64 ((i3:Nat):Int) ((j.ab.length:Nat):Int))<|BB q2<|ZZ) k!) (Grow.refl aF) k!
 | DF+1,i3,eZ,x,hh,aF,aA,mh,py,ov=>by
  have J1:=lP.small
  have OZ:=vu.small
  have aky:=Fu.small
  have acQ:=Hm.small
  have akz:=Fv.small
  have ar3:=Ho.small
  have ar4:=acP.small
  have agI:=aF _ _ mh
  have akA:=aF _ _ py
  have akB:=aF _ _ ov
  have gd:=(Fu.has aA).len
  have q2:(decide (((i3:Nat):Int)<((j.ab.length:Nat):Int)))=true:=d!
  obtain ⟨p4,q5,oH,_⟩:=(vu.has aA).elem (i:=i3) o!
  have qm:=(vu.has aA).load o! oH
  have vR:=fun {al ps} (k:Pk al _ ps)=>(CN 2<|MM (aP 22 0 j.au mh k!)<|VV gd<|VV (bE 3 false false .i64 ((i3:Nat):Int) ((j.ab.length:Nat):Int))<|BB q2<|CN 2<|VV oH<|MM qm<|CC<|k:Pk _ [] ps)
  rcases bu (aE.g i3) with f1 | f1
  · obtain ⟨p9,uL,GB,_⟩:=(lP.has aA).elem (i:=i3) o!
    have tG:=(lP.has aA).load o! GB
    have Fw:=fun {al ps} (k:Pk al _ ps)=>(vR<|BC f1<|BC f1<|BV f1 GB<|BM f1 tG<|BC f1<|BV f1 (gz 3 false false .i64 (aj.g i3) s)<|VV (tp (decide (s<(aj.g i3))) false f1)<|CC<|k:Pk _ [] ps)
    rcases bu (decide (s<(aj.g i3))) with f2 | f2
    · have pX:=jv f2
      obtain ⟨p14,q15,JX,_⟩:=(lP.has aA).elem (i:=i3) o!
      have Hk:=(lP.has aA).load o! JX
      have Ex:=fun {al ps} (k:Pk al _ ps)=>(Fw<|BC f2<|BC f2<|BV f2 JX<|BM f2 Hk<|BC f2<|BV f2 (bE 3 false false .i64 (aj.g i3) (IntKind.i64.wrap (s+((j.ab.g tqk.toNat).takes))))<|VV (tp (decide ((aj.g i3)<(IntKind.i64.wrap (s+((j.ab.g tqk.toNat).takes))))) false f2)<|CC<|k:Pk _ [] ps)
      rcases bu (decide ((aj.g i3)<(IntKind.i64.wrap (s+((j.ab.g tqk.toNat).takes))))) with f3 | f3
      · have tF:=jv f3
        obtain ⟨p19,q20,YQ⟩:=(Ho.has aA).elem (i:=i1) o!
        have aos:=(Ho.has aA).part (t:=3) (j:=0) o! YQ k! rfl
        obtain ⟨p23,q24,UT,_⟩:=(lP.has aA).elem (i:=i3) o!
        have R9:=(lP.has aA).load o! UT
        obtain ⟨p27,q28,agJ⟩:=(Ho.has aA).elem (i:=i1) o!
        have akC:=(Ho.has aA).part (t:=3) (j:=1) o! agJ k! rfl
        have k30:=R3 (d:=d) j aj aE ((j.ab.g tqk.toNat).aB.g i1).ah (aj.g i3) (aK.mono aA BR) (lP.has aA) (vu.has aA) zX zX aF
        have c31:=dK 18 (kK (Fu.has aA).same (kK (Hm.has aA).same CK))
        have c32:=(Ho.has aA).same 19
        have Hp:=fun {al ps} (k:Pk al _ ps)=>(Ex<|BM f3 (aP 25 0 (AV.agg [j.au,j.ar]) mh k!)<|BC f3<|BC f3<|BC f3<|BM f3 (aP 46 3 (j.ab.g tqk.toNat).bo py k!)<|BC f3<|BV f3 YQ<|BC f3<|BM f3 aos<|BC f3<|BC f3<|BV f3 UT<|BM f3 R9<|BC f3<|BM f3 (aP 46 3 (j.ab.g tqk.toNat).bo py k!)<|BC f3<|BV f3 agJ<|BC f3<|BM f3 akC<|BC f3<|BM f3 (aP 3 1 (Zi (j.af.g ((j.ab.g tqk.toNat).aB.g i1).ah.toNat).aI) ov k!)<|BB f3<|EE k30<|BC f3<|BV f3 (gz 3 false false .i64 (IntKind.i64.wrap ((lX j aj aE ((j.ab.g tqk.toNat).aB.g i1).ah (aj.g i3))+(((j.ab.g tqk.toNat).aB.g i1).aI))) (j.af.g ((j.ab.g tqk.toNat).aB.g i1).ah.toNat).aI)<|VV (tp (decide ((j.af.g ((j.ab.g tqk.toNat).aB.g i1).ah.toNat).aI<(IntKind.i64.wrap ((lX j aj aE ((j.ab.g tqk.toNat).aB.g i1).ah (aj.g i3))+(((j.ab.g tqk.toNat).aB.g i1).aI))))) false f3)<|HH qm<|HH (show AV.same 20 (AV.bool (aE.g i3)) (AV.bool (aE.g i3))=true from mM 19 _)<|HH tG<|HH (show AV.same 20 (Zi (aj.g i3)) (Zi (aj.g i3))=true from aS 19 _ _)<|HH Hk<|HH (show AV.same 20 (Zi (aj.g i3)) (Zi (aj.g i3))=true from aS 19 _ _)<|HH (aP 25 0 (AV.agg [j.au,j.ar]) mh k!)<|HH c31<|HH (aP 46 3 (j.ab.g tqk.toNat).bo py k!)<|HH c32<|HH aos<|HH (show AV.same 20 (Zi ((j.ab.g tqk.toNat).aB.g i1).ah) (Zi ((j.ab.g tqk.toNat).aB.g i1).ah)=true from aS 19 _ _)<|HH R9<|HH (show AV.same 20 (Zi (aj.g i3)) (Zi (aj.g i3))=true from aS 19 _ _)<|HH (aP 46 3 (j.ab.g tqk.toNat).bo py k!)<|HH c32<|HH (aP 46 3 (j.ab.g tqk.toNat).bo py k!)<|HH c32<|HH akC<|HH (show AV.same 20 (Zi ((j.ab.g tqk.toNat).aB.g i1).aI) (Zi ((j.ab.g tqk.toNat).aB.g i1).aI)=true from aS 19 _ _)<|HH akC<|HH (show AV.same 20 (Zi ((j.ab.g tqk.toNat).aB.g i1).aI) (Zi ((j.ab.g tqk.toNat).aB.g i1).aI)=true from aS 19 _ _)<|HH (aP 3 1 (Zi (j.af.g ((j.ab.g tqk.toNat).aB.g i1).ah.toNat).aI) ov k!)<|HH (show AV.same 20 (Zi (j.af.g ((j.ab.g tqk.toNat).aB.g i1).ah.toNat).aI) (Zi (j.af.g ((j.ab.g tqk.toNat).aB.g i1).ah.toNat).aI)=true from aS 19 _ _)<|HH (aP 3 1 (Zi (j.af.g ((j.ab.g tqk.toNat).aB.g i1).ah.toNat).aI) ov k!)<|HH (show AV.same 20 (Zi (j.af.g ((j.ab.g tqk.toNat).aB.g i1).ah.toNat).aI) (Zi (j.af.g ((j.ab.g tqk.toNat).aB.g i1).ah.toNat).aI)=true from aS 19 _ _)<|k:Pk _ [] ps)
        rcases bu (decide ((j.af.g ((j.ab.g tqk.toNat).aB.g i1).ah.toNat).aI<(IntKind.i64.wrap ((lX j aj aE ((j.ab.g tqk.toNat).aB.g i1).ah (aj.g i3))+(((j.ab.g tqk.toNat).aB.g i1).aI))))) with f4 | f4
        · have J2:=jv f4
          exact aC.ret false (by simp only[gf,f1,f2,f3,f4,ao,ai]) (pk (d+2) _ _ hh _ hh (Hp<|BC f4<|ZZ) k!) (Grow.refl aF) k!
        · have J2:=pK f4
          have u34:=eA 3 false true i3 1 o!
          exact aC.round (by simp only[gf,f1,f2,f3,f4,ao,ai]) (pk (d+2) _ _ hh _ hh (Hp<|BC f4<|VV u34<|CC<|ZZ) k!) (Grow.refl aF) _ k! (fun x=>qV aJ bO s j tqk i1 aj aE nU sd se lP vu Fu Hm Hn Fv Ho LM acP BR LN R7 Zm Xe R8 Zo Zp Zq Zr Zs DF (i3+1) o! x hh aF aA mh py ov)
      · have tF:=pK f3
        have u18:=eA 3 false true i3 1 o!
        exact aC.round (by simp only[gf,f1,f2,f3,ao,ai]) (pk (d+2) _ _ hh _ hh (Ex<|BB f3<|BB f3<|BB f3<|BB f3<|BB f3<|BB f3<|BB f3<|BB f3<|BB f3<|BB f3<|BB f3<|BB f3<|BB f3<|BB f3<|BB f3<|BB f3<|BB f3<|BB f3<|BB f3<|BB f3<|BB f3<|BB f3<|BB f3<|BV f3 (vd false f3)<|HH qm<|HH (show AV.same 20 (AV.bool (aE.g i3)) (AV.bool (aE.g i3))=true from mM 19 _)<|HH tG<|HH (show AV.same 20 (Zi (aj.g i3)) (Zi (aj.g i3))=true from aS 19 _ _)<|HH Hk<|HH (show AV.same 20 (Zi (aj.g i3)) (Zi (aj.g i3))=true from aS 19 _ _)<|FF<|CC<|VV u18<|CC<|ZZ) k!) (Grow.refl aF) _ k! (fun x=>qV aJ bO s j tqk i1 aj aE nU sd se lP vu Fu Hm Hn Fv Ho LM acP BR LN R7 Zm Xe R8 Zo Zp Zq Zr Zs DF (i3+1) o! x hh aF aA mh py ov)
    · have pX:=pK f2
      have u13:=eA 3 false true i3 1 o!
      exact aC.round (by simp only[gf,f1,f2,ao,ai]) (pk (d+2) _ _ hh _ hh (Fw<|BB f2<|BB f2<|BB f2<|BB f2<|BB f2<|BV f2 (vd false f2)<|CC<|FF<|FF<|FF<|FF<|FF<|FF<|FF<|FF<|FF<|FF<|FF<|FF<|FF<|FF<|FF<|FF<|FF<|FF<|FF<|FF<|FF<|FF<|FF<|FF<|CC<|HH qm<|HH (show AV.same 20 (AV.bool (aE.g i3)) (AV.bool (aE.g i3))=true from mM 19 _)<|HH tG<|HH (show AV.same 20 (Zi (aj.g i3)) (Zi (aj.g i3))=true from aS 19 _ _)<|FF<|CC<|VV u13<|CC<|ZZ) k!) (Grow.refl aF) _ k! (fun x=>qV aJ bO s j tqk i1 aj aE nU sd se lP vu Fu Hm Hn Fv Ho LM acP BR LN R7 Zm Xe R8 Zo Zp Zq Zr Zs DF (i3+1) o! x hh aF aA mh py ov)
  · have u8:=eA 3 false true i3 1 o!
    exact aC.round (by simp only[gf,f1,ao,ai]) (pk (d+2) _ _ hh _ hh (vR<|BB f1<|BB f1<|BB f1<|BB f1<|BB f1<|BV f1 (vd false f1)<|CC<|FF<|FF<|FF<|FF<|FF<|FF<|CN 2<|FF<|FF<|FF<|FF<|FF<|FF<|FF<|FF<|FF<|FF<|FF<|FF<|FF<|FF<|FF<|FF<|FF<|FF<|FF<|FF<|FF<|FF<|FF<|FF<|CC<|HH qm<|HH (show AV.same 20 (AV.bool (aE.g i3)) (AV.bool (aE.g i3))=true from mM 19 _)<|FF<|CC<|VV u8<|CC<|ZZ) k!) (Grow.refl aF) _ k! (fun x=>qV aJ bO s j tqk i1 aj aE nU sd se lP vu Fu Hm Hn Fv Ho LM acP BR LN R7 Zm Xe R8 Zo Zp Zq Zr Zs DF (i3+1) o! x hh aF aA mh py ov)
def iH (j:bP) (tqk:Int) (s:Int) (aj:List Int) (aE:List Bool):Nat→Nat→Option (Bool)
 | 0,_=>none
 | nK+1,i1=>(bif (decide (0<((j.ab.g tqk.toNat).takes))) then (match (jn j tqk i1 s (j.af.g ((j.ab.g tqk.toNat).aB.g i1).ah.toNat).off.length 0) with | none=>(bif (decide ((j.af.g ((j.ab.g tqk.toNat).aB.g i1).ah.toNat).aI<(IntKind.i64.wrap ((lX j aj aE ((j.ab.g tqk.toNat).aB.g i1).ah s)+(((j.ab.g tqk.toNat).aB.g i1).aI))))) then some false else (match (gf j aE s aj tqk i1 j.ab.length 0) with | none=>iH j tqk s aj aE nK (i1+1) | some akD=>some akD)) | some akE=>some akE) else none)
theorem GJ {d:Nat} {h:az} (aJ:AV) (bO:AV) (s:Int) (j:bP) (tqk:Int) (aj:List Int) (aE:List Bool) (b6:Nat) (dv:Nat) (eP:bT h .i64 3 aJ aj) (dW:pT h 4 bO aE) (mr:aO h j.au j.ab) (mW:aO h j.ar j.af) (BS:((j.ab.g tqk.toNat).name).length<2^60) (LO:bT h .i64 3 (j.ab.g tqk.toNat).bh (j.ab.g tqk.toNat).aD) (sg:aO h (j.ab.g tqk.toNat).bo (j.ab.g tqk.toNat).aB) (mQ:aK.ok h j) (C4:aK.ok h (j.ab.g tqk.toNat)) (o9:aE.length=j.ab.length) (rz:aj.length=j.ab.length) (rA:0≤tqk) (vg:tqk<(j.ab.length:Int)) (Ds:∀q,q<(j.ab.g tqk.toNat).aD.length→0≤(j.ab.g tqk.toNat).aD.g q∧(j.ab.g tqk.toNat).aD.g q<(j.ab.length:Int)) (Fo:∀q,q<(j.ab.g tqk.toNat).aB.length→0≤((j.ab.g tqk.toNat).aB.g q).ah∧((j.ab.g tqk.toNat).aB.g q).ah<(j.af.length:Int)):∀(k_ i_:Nat) (_:i_+k_=((j.ab.g tqk.toNat).aB.length)) (x:Nat→AV) (hh:az) (aF:Tidy hh) (aA:Has h hh) (cz:hh.get b6=some (aN.cells [j.au,j.ar] 25 false)) (d_:hh.get dv=some (aN.cells [(AV.str (j.ab.g tqk.toNat).name),(Zi (j.ab.g tqk.toNat).takes),(j.ab.g tqk.toNat).bh,(j.ab.g tqk.toNat).bo] 48 false)),aC (cA (d+2)) UP ⟨((x 0)::aJ::bO::(x 3)::(Zi s)::(Pt b6)::rx x 6 5 ((Pt dv)::(Zi (IntKind.i64.wrap (s+((j.ab.g tqk.toNat).takes))))::(x 13)::(x 14)::(Zn i_)::rx x 16 171 [])),hh,[],.no⟩ (.exit 2) hh (fun y=>((y 0)::aJ::bO::(y 3)::(Zi s)::(Pt b6)::rx y 6 5 ((Pt dv)::(Zi (IntKind.i64.wrap (s+((j.ab.g tqk.toNat).takes))))::rx y 13 174 []))) (fun r y=>((y 0)::aJ::bO::(y 3)::(Zi s)::(Pt b6)::rx y 6 4 ((AV.bool r)::(Pt dv)::(Zi (IntKind.i64.wrap (s+((j.ab.g tqk.toNat).takes))))::rx y 13 174 []))) (iH j tqk s aj aE k_ i_)
 | 0,i1,eZ,x,hh,aF,aA,cz,d_=>by
  have gd:=(sg.has aA).len
  have q2:(decide (((i1:Nat):Int)<(((j.ab.g tqk.toNat).aB.length:Nat):Int)))=false:=d!
  exact aC.out rfl (pk (d+2) _ _ hh _ hh (CN 2<|MM (aP 46 3 (j.ab.g tqk.toNat).bo d_ k!)<|VV gd<|VV (bE 3 false false .i64 ((i1:Nat):Int) (((j.ab.g tqk.toNat).aB.length:Nat):Int))<|CC<|BB q2<|BB q2<|BV q2 (vd false q2)<|FF<|ZZ) k!) (Grow.refl aF) k!
 | nK+1,i1,eZ,x,hh,aF,aA,cz,d_=>by
  have pV:=eP.small
  have rC:=dW.small
  have Fx:=mr.small
  have UU:=mW.small
  have acR:=LO.small
  have akF:=sg.small
  have E2:=aF _ _ cz
  have Oo:=aF _ _ d_
  obtain ⟨us1,us2⟩:=Fo i1 o!
  have gd:=(sg.has aA).len
  have q2:(decide (((i1:Nat):Int)<(((j.ab.g tqk.toNat).aB.length:Nat):Int)))=true:=d!
  have LP:=fun {al ps} (k:Pk al _ ps)=>(CN 2<|MM (aP 46 3 (j.ab.g tqk.toNat).bo d_ k!)<|VV gd<|VV (bE 3 false false .i64 ((i1:Nat):Int) (((j.ab.g tqk.toNat).aB.length:Nat):Int))<|CC<|BC q2<|BM q2 (aP 3 1 (Zi (j.ab.g tqk.toNat).takes) d_ k!)<|BV q2 (gz 3 false true .i64 (j.ab.g tqk.toNat).takes 0)<|VV (tp (decide (0<((j.ab.g tqk.toNat).takes))) false q2)<|k:Pk _ [] ps)
  rcases bu (decide (0<((j.ab.g tqk.toNat).takes))) with f1 | f1
  · have eB:=jv f1
    obtain ⟨p5,q6,T5⟩:=(sg.has aA).elem (i:=i1) o!
    have Tf:=(sg.has aA).part (t:=3) (j:=0) o! T5 k! rfl
    obtain ⟨p9,uL,akG⟩:=(mW.has aA).elem (i:=(((j.ab.g tqk.toNat).aB.g i1).ah).toNat) o!
    have GB:=xn akG o!
    have tG:=(mW.has aA).load o! akG
    obtain ⟨pH,AO,hD,R_,tX,dZ⟩:=gQ aF (aN.cells [(AV.str []),(Zi 0),AV.aw] 45 false)
    have eT:=dZ
    have J3:=(((mW.has aA).ok (i:=(((j.ab.g tqk.toNat).aB.g i1).ah).toNat) o!).2).scalar
    obtain ⟨rk,rL,jy,Df,l_,dC⟩:=j_ (t:=45) (n:=3) (i:=hh.nx) (L:=[(AV.str (j.af.g ((j.ab.g tqk.toNat).aB.g i1).ah.toNat).name),(Zi (j.af.g ((j.ab.g tqk.toNat).aB.g i1).ah.toNat).aI),(j.af.g ((j.ab.g tqk.toNat).aB.g i1).ah.toNat).cJ]) hD tX k! rfl rfl (kJ rfl (kJ rfl (kJ J3 rfl)))
    have gG:=Has.bK eT dC aF o!
    have c15:=(mW.has aA).same 19
    have c16:=(sg.has aA).same 19
    have c17:AV.same 20 (AV.agg [(AV.str (j.af.g ((j.ab.g tqk.toNat).aB.g i1).ah.toNat).name),(Zi (j.af.g ((j.ab.g tqk.toNat).aB.g i1).ah.toNat).aI),(j.af.g ((j.ab.g tqk.toNat).aB.g i1).ah.toNat).cJ]) (AV.agg [(AV.str (j.af.g ((j.ab.g tqk.toNat).aB.g i1).ah.toNat).name),(Zi (j.af.g ((j.ab.g tqk.toNat).aB.g i1).ah.toNat).aI),(j.af.g ((j.ab.g tqk.toNat).aB.g i1).ah.toNat).cJ])=true:=dK 18 (kK (fun n=>j8 n _) (kK (fun n=>aS n _ _) (kK ((mW.has aA).ok (i:=(((j.ab.g tqk.toNat).aB.g i1).ah).toNat) o!).2.same CK)))
    have DG:=fun {al ps} (k:Pk al _ ps)=>(LP<|BC f1<|MM (aP 23 1 j.ar cz k!)<|CC<|MM (aP 46 3 (j.ab.g tqk.toNat).bo d_ k!)<|CC<|VV T5<|CC<|MM Tf<|VV GB<|MM tG<|NN AO (fun i=>(Pt i))<|SS rL<|HH (aP 23 1 j.ar (dZ _ _ cz) k!)<|HH c15<|HH (aP 46 3 (j.ab.g tqk.toNat).bo (dZ _ _ d_) k!)<|HH c16<|HH (show cX env pH 3 (AV.ptr p5 (q6+0))=some (Zi ((j.ab.g tqk.toNat).aB.g i1).ah) from (((sg.has aA).has eT).part (t:=3) (j:=0) o! T5 k! rfl))<|HH (show AV.same 20 (Zi ((j.ab.g tqk.toNat).aB.g i1).ah) (Zi ((j.ab.g tqk.toNat).aB.g i1).ah)=true from aS 19 _ _)<|HH (show cX env pH 45 (AV.ptr p9 uL)=some (AV.agg [(AV.str (j.af.g ((j.ab.g tqk.toNat).aB.g i1).ah.toNat).name),(Zi (j.af.g ((j.ab.g tqk.toNat).aB.g i1).ah.toNat).aI),(j.af.g ((j.ab.g tqk.toNat).aB.g i1).ah.toNat).cJ]) from (((mW.has aA).has eT).load o! akG))<|HH c17<|HH (show ∃o,pH.get hh.nx=some o∧aN.same o (aN.cells [(AV.str []),(Zi 0),AV.aw] 45 false)=true from ⟨_,tX,by simp [aN.same,dR,AV.same]⟩)<|CC<|k:Pk _ [] ps)
    have R':=y8 (d:=d) (h:=hh) aJ bO s j tqk i1 aj aE b6 dv hh.nx (eP.has aA) (dW.has aA) (mr.has aA) (mW.has aA) BS (LO.has aA) (sg.has aA) ((mW.has aA).ok (i:=(((j.ab.g tqk.toNat).aB.g i1).ah).toNat) o!).1 ((mW.has aA).ok (i:=(((j.ab.g tqk.toNat).aB.g i1).ah).toNat) o!).2 (aK.mono aA mQ) (aK.mono aA C4) ((sg.has aA).ok (i:=i1) o!) ((mW.has aA).ok (i:=(((j.ab.g tqk.toNat).aB.g i1).ah).toNat) o!) o! o! o! o! o! o! o! (j.af.g ((j.ab.g tqk.toNat).aB.g i1).ah.toNat).off.length 0 o! (dr ((x 0)::aJ::bO::(x 3)::(Zi s)::(Pt b6)::rx x 6 5 ((Pt dv)::(Zi (IntKind.i64.wrap (s+((j.ab.g tqk.toNat).takes))))::(x 13)::(x 14)::(Zn i1)::(Pt hh.nx)::(Zi 0)::rx x 18 48 ((Zn i1)::(AV.ptr dv 3)::((j.ab.g tqk.toNat).bo)::(Zn (j.ab.g tqk.toNat).aB.length)::(AV.bool (decide (((i1:Nat):Int)<(((j.ab.g tqk.toNat).aB.length:Nat):Int))))::(AV.bool (decide (((i1:Nat):Int)<(((j.ab.g tqk.toNat).aB.length:Nat):Int))))::(AV.ptr dv 1)::(Zi (j.ab.g tqk.toNat).takes)::(AV.bool (decide (0<((j.ab.g tqk.toNat).takes))))::(AV.bool (decide (0<((j.ab.g tqk.toNat).takes))))::(x 76)::(x 77)::(AV.ptr b6 1)::j.ar::(AV.ptr dv 3)::((j.ab.g tqk.toNat).bo)::(Zn i1)::(AV.ptr p5 q6)::(AV.ptr p5 (q6+0))::(Zi ((j.ab.g tqk.toNat).aB.g i1).ah)::(AV.ptr p9 uL)::(AV.agg [(AV.str (j.af.g ((j.ab.g tqk.toNat).aB.g i1).ah.toNat).name),(Zi (j.af.g ((j.ab.g tqk.toNat).aB.g i1).ah.toNat).aI),(j.af.g ((j.ab.g tqk.toNat).aB.g i1).ah.toNat).cJ])::rx x 88 99 [])))) rk jy gG (dC _ _ o! (dZ _ _ cz)) (dC _ _ o! (dZ _ _ d_)) l_
    cases zY:jn j tqk i1 s (j.af.g ((j.ab.g tqk.toNat).aB.g i1).ah.toNat).off.length 0 with
    | none=>
     obtain ⟨O0,CU,O1,nh⟩:=aC.n zY R'
     have ly:=nh.y
     have acS:rk.nx≤CU.nx:=nh.n
     have kH:=gG.trans nh.a
     obtain ⟨p21,q22,aot⟩:=(sg.has aA).elem (i:=i1) o!
     have aou:=((sg.has aA).has kH).part (t:=3) (j:=0) o! aot k! rfl
     obtain ⟨p25,q26,aov⟩:=(sg.has aA).elem (i:=i1) o!
     have Zt:=((sg.has aA).has kH).part (t:=3) (j:=1) o! aov k! rfl
     have k28:=R3 (d:=d) j aj aE ((j.ab.g tqk.toNat).aB.g i1).ah s (aK.mono kH (aK.mono aA mQ)) ((eP.has aA).has kH) ((dW.has aA).has kH) zX zX ly
     have c29:=dK 18 (kK (mr.has aA).same (kK (mW.has aA).same CK))
     have J4:=fun {al ps} (k:Pk al _ ps)=>(DG<|LL O1<|MM (aP 25 0 (AV.agg [j.au,j.ar]) (nh.a _ _ (dC _ _ o! (dZ _ _ cz))) k!)<|CN 3<|MM (aP 46 3 (j.ab.g tqk.toNat).bo (nh.a _ _ (dC _ _ o! (dZ _ _ d_))) k!)<|CC<|VV aot<|CC<|MM aou<|CN 2<|MM (aP 46 3 (j.ab.g tqk.toNat).bo (nh.a _ _ (dC _ _ o! (dZ _ _ d_))) k!)<|CC<|VV aov<|CC<|MM Zt<|CC<|MM (aP 3 1 (Zi (j.af.g ((j.ab.g tqk.toNat).aB.g i1).ah.toNat).aI) (nh.a _ _ l_) k!)<|EE k28<|CC<|VV (gz 3 false false .i64 (IntKind.i64.wrap ((lX j aj aE ((j.ab.g tqk.toNat).aB.g i1).ah s)+(((j.ab.g tqk.toNat).aB.g i1).aI))) (j.af.g ((j.ab.g tqk.toNat).aB.g i1).ah.toNat).aI)<|HH (aP 25 0 (AV.agg [j.au,j.ar]) (nh.a _ _ (dC _ _ o! (dZ _ _ cz))) k!)<|HH c29<|HH (aP 46 3 (j.ab.g tqk.toNat).bo (nh.a _ _ (dC _ _ o! (dZ _ _ d_))) k!)<|HH c16<|HH aou<|HH (show AV.same 20 (Zi ((j.ab.g tqk.toNat).aB.g i1).ah) (Zi ((j.ab.g tqk.toNat).aB.g i1).ah)=true from aS 19 _ _)<|HH (aP 46 3 (j.ab.g tqk.toNat).bo (nh.a _ _ (dC _ _ o! (dZ _ _ d_))) k!)<|HH c16<|HH (aP 46 3 (j.ab.g tqk.toNat).bo (nh.a _ _ (dC _ _ o! (dZ _ _ d_))) k!)<|HH c16<|HH Zt<|HH (show AV.same 20 (Zi ((j.ab.g tqk.toNat).aB.g i1).aI) (Zi ((j.ab.g tqk.toNat).aB.g i1).aI)=true from aS 19 _ _)<|HH Zt<|HH (show AV.same 20 (Zi ((j.ab.g tqk.toNat).aB.g i1).aI) (Zi ((j.ab.g tqk.toNat).aB.g i1).aI)=true from aS 19 _ _)<|HH (aP 3 1 (Zi (j.af.g ((j.ab.g tqk.toNat).aB.g i1).ah.toNat).aI) (nh.a _ _ l_) k!)<|HH (show AV.same 20 (Zi (j.af.g ((j.ab.g tqk.toNat).aB.g i1).ah.toNat).aI) (Zi (j.af.g ((j.ab.g tqk.toNat).aB.g i1).ah.toNat).aI)=true from aS 19 _ _)<|HH (aP 3 1 (Zi (j.af.g ((j.ab.g tqk.toNat).aB.g i1).ah.toNat).aI) (nh.a _ _ l_) k!)<|HH (show AV.same 20 (Zi (j.af.g ((j.ab.g tqk.toNat).aB.g i1).ah.toNat).aI) (Zi (j.af.g ((j.ab.g tqk.toNat).aB.g i1).ah.toNat).aI)=true from aS 19 _ _)<|k:Pk _ [] ps)
     rcases bu (decide ((j.af.g ((j.ab.g tqk.toNat).aB.g i1).ah.toNat).aI<(IntKind.i64.wrap ((lX j aj aE ((j.ab.g tqk.toNat).aB.g i1).ah s)+(((j.ab.g tqk.toNat).aB.g i1).aI))))) with f3 | f3
     · have tF:=jv f3
       exact aC.ret false (by simp only[iH,f1,zY,f3,ao,ai]) (pk (d+2) _ _ hh _ CU (J4<|BC f3<|ZZ) k!) (⟨ly,kH,by omega⟩) k!
     · have tF:=pK f3
       have acT:=qV (d:=d) (h:=hh) aJ bO s j tqk i1 aj aE b6 dv hh.nx (eP.has aA) (dW.has aA) (mr.has aA) (mW.has aA) BS (LO.has aA) (sg.has aA) ((mW.has aA).ok (i:=(((j.ab.g tqk.toNat).aB.g i1).ah).toNat) o!).1 ((mW.has aA).ok (i:=(((j.ab.g tqk.toNat).aB.g i1).ah).toNat) o!).2 (aK.mono aA mQ) (aK.mono aA C4) ((sg.has aA).ok (i:=i1) o!) ((mW.has aA).ok (i:=(((j.ab.g tqk.toNat).aB.g i1).ah).toNat) o!) o! o! o! o! o! o! o! j.ab.length 0 o! (dr ((O0 0)::aJ::bO::(O0 3)::(Zi s)::(Pt b6)::rx O0 6 5 ((Pt dv)::(Zi (IntKind.i64.wrap (s+((j.ab.g tqk.toNat).takes))))::(O0 13)::(O0 14)::(Zn i1)::(Pt hh.nx)::(O0 17)::(Zi 0)::rx O0 19 94 ((AV.agg [j.au,j.ar])::aJ::bO::(AV.ptr dv 3)::((j.ab.g tqk.toNat).bo)::(Zn i1)::(AV.ptr p21 q22)::(AV.ptr p21 (q22+0))::(Zi ((j.ab.g tqk.toNat).aB.g i1).ah)::(Zi s)::(Zi (lX j aj aE ((j.ab.g tqk.toNat).aB.g i1).ah s))::(AV.ptr dv 3)::((j.ab.g tqk.toNat).bo)::(Zn i1)::(AV.ptr p25 q26)::(AV.ptr p25 (q26+1))::(Zi ((j.ab.g tqk.toNat).aB.g i1).aI)::(Zi (IntKind.i64.wrap ((lX j aj aE ((j.ab.g tqk.toNat).aB.g i1).ah s)+(((j.ab.g tqk.toNat).aB.g i1).aI))))::(AV.ptr hh.nx 1)::(Zi (j.af.g ((j.ab.g tqk.toNat).aB.g i1).ah.toNat).aI)::(AV.bool (decide ((j.af.g ((j.ab.g tqk.toNat).aB.g i1).ah.toNat).aI<(IntKind.i64.wrap ((lX j aj aE ((j.ab.g tqk.toNat).aB.g i1).ah s)+(((j.ab.g tqk.toNat).aB.g i1).aI))))))::rx O0 134 53 [])))) CU ly kH (nh.a _ _ (dC _ _ o! (dZ _ _ cz))) (nh.a _ _ (dC _ _ o! (dZ _ _ d_))) (nh.a _ _ l_)
       cases HX:gf j aE s aj tqk i1 j.ab.length 0 with
       | none=>
        obtain ⟨ar5,h32,O2,y9⟩:=aC.n HX acT
        have Xf:=y9.y
        have aow:CU.nx≤h32.nx:=y9.n
        have Xg:=kH.trans y9.a
        have Zu:=y9.a
        have u33:=eA 3 false true i1 1 o!
        exact aC.round (by simp only[iH,f1,zY,f3,HX,ao,ai]) (pk (d+2) _ _ hh _ h32 (J4<|BC f3<|LL O2<|CC<|VV u33<|CC<|ZZ) k!) (⟨Xf,Xg,by omega⟩) _ k! (fun x=>GJ aJ bO s j tqk aj aE b6 dv eP dW mr mW BS LO sg mQ C4 o9 rz rA vg Ds Fo nK (i1+1) o! x h32 Xf (aA.trans Xg) (y9.a _ _ (nh.a _ _ (dC _ _ o! (dZ _ _ cz)))) (y9.a _ _ (nh.a _ _ (dC _ _ o! (dZ _ _ d_)))))
       | some akD=>
        obtain ⟨ar5,h32,O2,y9⟩:=aC.r HX acT
        have Xf:=y9.y
        have aow:CU.nx≤h32.nx:=y9.n
        have Xg:=kH.trans y9.a
        have Zu:=y9.a
        exact aC.ret akD (by simp only[iH,f1,zY,f3,HX,ao,ai]) (pk (d+2) _ _ hh _ h32 (J4<|BC f3<|LL O2<|ZZ) k!) (⟨Xf,Xg,by omega⟩) k!
    | some akE=>
     obtain ⟨O0,CU,O1,nh⟩:=aC.r zY R'
     have ly:=nh.y
     have acS:rk.nx≤CU.nx:=nh.n
     have kH:=gG.trans nh.a
     exact aC.ret akE (by simp only[iH,f1,zY,ao,ai]) (pk (d+2) _ _ hh _ CU (DG<|LL O1<|ZZ) k!) (⟨ly,kH,by omega⟩) k!
  · exact aC.out (by simp only[iH,f1,ao,ai]) (pk (d+2) _ _ hh _ hh (LP<|BB f1<|ZZ) k!) (Grow.refl aF) k!
def iP (j:bP) (aj:List Int) (aE:List Bool) (tqk:Int) (s:Int):Bool:=(bif (!(eO s)) then false else (bif (decide (100000<(IntKind.i64.wrap (s+((j.ab.g tqk.toNat).takes))))) then false else (match (jm j tqk aE s aj (j.ab.g tqk.toNat).aD.length 0) with | none=>(match (iH j tqk s aj aE (j.ab.g tqk.toNat).aB.length 0) with | none=>true | some akH=>akH) | some akI=>akI)))
theorem acU {d:Nat} {h:az} {aJ bO:AV} (j:bP) (aj:List Int) (aE:List Bool) (tqk:Int) (s:Int) (b7:aK.ok h j) (bA:bT h .i64 3 aJ aj) (vt:pT h 4 bO aE) (mf:aE.length=j.ab.length) (oQ:aj.length=j.ab.length) (xU:0≤tqk) (Ak:tqk<(j.ab.length:Int)) (Ha:∀q,q<(j.ab.g tqk.toNat).aD.length→0≤(j.ab.g tqk.toNat).aD.g q∧(j.ab.g tqk.toNat).aD.g q<(j.ab.length:Int)) (Y5:∀q,q<(j.ab.g tqk.toNat).aB.length→0≤((j.ab.g tqk.toNat).aB.g q).ah∧((j.ab.g tqk.toNat).aB.g q).ah<(j.af.length:Int)) (bM:Tidy h):cA (d+3) (.fn 90) [(AV.agg [j.au,j.ar]),aJ,bO,(Zi tqk),(Zi s)] h= .ret (AV.bool (iP j aj aE tqk s)) h:=by
 obtain ⟨h1,dw,de,jW,bx,ca⟩:=gQ bM (aN.cells [j.au,j.ar] 25 false)
 have bD:=ca
 obtain ⟨p3,q4,mu⟩:=b7.1.elem (i:=tqk.toNat) o!
 have gh:=xn mu o!
 have kN:=(b7.1.has bD).load o! mu
 obtain ⟨h6,kV,ig,uz,jc,bB⟩:=gQ de (aN.cells [(AV.str []),(Zi 0),AV.aw,AV.aw] 48 false)
 have gL:=bD.trans bB
 have C6:=((b7.1.ok (i:=tqk.toNat) o!).2.1).scalar
 have MQ:=((b7.1.ok (i:=tqk.toNat) o!).2.2).scalar
 obtain ⟨h7,jw,dM,r5,dS,aX⟩:=j_ (t:=48) (n:=4) (i:=h1.nx) (L:=[(AV.str (j.ab.g tqk.toNat).name),(Zi (j.ab.g tqk.toNat).takes),(j.ab.g tqk.toNat).bh,(j.ab.g tqk.toNat).bo]) ig jc k! rfl rfl (kJ rfl (kJ rfl (kJ C6 (kJ MQ rfl))))
 have cV:=Has.bK gL aX bM o!
 have YJ:=zW (d:=d+1) s dM
 have acV:=fun {al ps} (k:Pk al _ ps)=>(NN dw (fun i=>(Pt i))<|CN 2<|MM (aP 22 0 j.au bx k!)<|CC<|VV gh<|MM kN<|NN kV (fun i=>(Pt i))<|SS jw<|CN 2<|MM (aP 3 1 (Zi (j.ab.g tqk.toNat).takes) dS k!)<|CN 3<|EE YJ<|CN 2<|k:Pk _ [] ps)
 rcases bu (!(eO s)) with f0 | f0
 · have e:iP j aj aE tqk s=false:=by simp only[iP,f0,ao,ai]
   rw[e]
   exact aG rfl (aY Tryz.func90 yZ rfl (.inr rfl) (pk (d+2) _ _ h _ h7 (acV<|BB f0<|BV f0 (tR true f0)<|TT<|CC<|ZZ) k!) k!) cV rfl
 · have UW:=fun {al ps} (k:Pk al _ ps)=>(acV<|BC f0<|BV f0 (gz 3 false true .i64 (IntKind.i64.wrap (s+((j.ab.g tqk.toNat).takes))) 100000)<|VV (dD (a:=some (AV.bool true)) (b:=some (AV.bool (decide (100000<(IntKind.i64.wrap (s+((j.ab.g tqk.toNat).takes))))))) f0)<|k:Pk _ [] ps)
   rcases bu (decide (100000<(IntKind.i64.wrap (s+((j.ab.g tqk.toNat).takes))))) with f1 | f1
   · have e:iP j aj aE tqk s=false:=by simp only[iP,f0,f1,ao,ai]
     rw[e]
     exact aG rfl (aY Tryz.func90 yZ rfl (.inr rfl) (pk (d+2) _ _ h _ h7 (UW<|BC f1<|ZZ) k!) k!) cV rfl
   · have aox:=y7 (d:=d) (h:=h) aJ bO s j tqk aj aE h.nx h1.nx bA vt b7.1 b7.2 (b7.1.ok (i:=tqk.toNat) o!).1 (b7.1.ok (i:=tqk.toNat) o!).2.1 (b7.1.ok (i:=tqk.toNat) o!).2.2 b7 (b7.1.ok (i:=tqk.toNat) o!) o! o! o! o! o! o! (j.ab.g tqk.toNat).aD.length 0 o! (dr ((AV.agg [j.au,j.ar])::aJ::bO::(Zi tqk)::(Zi s)::(Pt h.nx)::aL::aL::aL::aL::(AV.bool false)::(Pt h1.nx)::(Zi (IntKind.i64.wrap (s+((j.ab.g tqk.toNat).takes))))::(Zi 0)::aL::aL::aL::aL::aL::(Pt h.nx)::j.au::(Zi tqk)::(AV.ptr p3 q4)::(AV.agg [(AV.str (j.ab.g tqk.toNat).name),(Zi (j.ab.g tqk.toNat).takes),(j.ab.g tqk.toNat).bh,(j.ab.g tqk.toNat).bo])::(Zi s)::(AV.ptr h1.nx 1)::(Zi (j.ab.g tqk.toNat).takes)::(Zi (IntKind.i64.wrap (s+((j.ab.g tqk.toNat).takes))))::(Zi s)::(AV.bool (eO s))::(AV.bool (!(eO s)))::(AV.bool (!(eO s)))::(Zi (IntKind.i64.wrap (s+((j.ab.g tqk.toNat).takes))))::(AV.bool (decide (100000<(IntKind.i64.wrap (s+((j.ab.g tqk.toNat).takes))))))::(AV.bool (decide (100000<(IntKind.i64.wrap (s+((j.ab.g tqk.toNat).takes))))))::iW 152)) h7 dM cV (aX _ _ o! (bB _ _ bx)) dS
     cases DH:jm j tqk aE s aj (j.ab.g tqk.toNat).aD.length 0 with
     | none=>
      obtain ⟨DI,Tg,zZ,J5⟩:=aC.n DH aox
      have vf:=J5.y
      have sU:=cV.trans J5.a
      have aoy:=GJ (d:=d) (h:=h) aJ bO s j tqk aj aE h.nx h1.nx bA vt b7.1 b7.2 (b7.1.ok (i:=tqk.toNat) o!).1 (b7.1.ok (i:=tqk.toNat) o!).2.1 (b7.1.ok (i:=tqk.toNat) o!).2.2 b7 (b7.1.ok (i:=tqk.toNat) o!) o! o! o! o! o! o! (j.ab.g tqk.toNat).aB.length 0 o! (dr ((DI 0)::aJ::bO::(DI 3)::(Zi s)::(Pt h.nx)::rx DI 6 5 ((Pt h1.nx)::(Zi (IntKind.i64.wrap (s+((j.ab.g tqk.toNat).takes))))::(DI 13)::(DI 14)::(Zi 0)::rx DI 16 171 []))) Tg vf sU (J5.a _ _ (aX _ _ o! (bB _ _ bx))) (J5.a _ _ dS)
      cases HY:iH j tqk s aj aE (j.ab.g tqk.toNat).aB.length 0 with
      | none=>
       obtain ⟨an6,yN,Dg,acW⟩:=aC.n HY aoy
       have kX:=sU.trans acW.a
       have e:iP j aj aE tqk s=true:=by simp only[iP,f0,f1,DH,HY,ao,ai]
       rw[e]
       exact aG rfl (aY Tryz.func90 yZ rfl (.inr rfl) (pk (d+2) _ _ h _ yN (UW<|BC f1<|LL zZ<|CC<|LL Dg<|CC<|ZZ) k!) k!) kX rfl
      | some akH=>
       obtain ⟨an6,yN,Dg,acW⟩:=aC.r HY aoy
       have kX:=sU.trans acW.a
       have e:iP j aj aE tqk s=akH:=by simp only[iP,f0,f1,DH,HY,ao,ai]
       rw[e]
       exact aG rfl (aY Tryz.func90 yZ rfl (.inr rfl) (pk (d+2) _ _ h _ yN (UW<|BC f1<|LL zZ<|CC<|LL Dg<|ZZ) k!) k!) kX rfl
     | some akI=>
      obtain ⟨DI,Tg,zZ,J5⟩:=aC.r DH aox
      have vf:=J5.y
      have sU:=cV.trans J5.a
      have e:iP j aj aE tqk s=akI:=by simp only[iP,f0,f1,DH,ao,ai]
      rw[e]
      exact aG rfl (aY Tryz.func90 yZ rfl (.inr rfl) (pk (d+2) _ _ h _ Tg (UW<|BC f1<|LL zZ<|ZZ) k!) k!) sU rfl
def tc (f:Nat→Int):Nat→Nat→Int
 | 0,_=>0
 | k+1,i=>f i+tc f k (i+1)
theorem ow {f g:Nat→Int}:∀{k i:Nat},(∀q,i≤q→q<i+k→f q=g q)→tc f k i=tc g k i
 | 0,i,h=>rfl
 | k+1,i,h=>by rw[tc,tc,h i (jR _) o!,ow (k:=k) (i:=i+1) fun q a b=>h q o! o!]
theorem O3 {f g:Nat→Int}:∀{k i:Nat},(∀q,i≤q→q<i+k→f q≤g q)→tc f k i≤tc g k i
 | 0,i,h=>Int.le_refl _
 | k+1,i,h=>by
  have a:=h i (jR _) o!
  have b:=O3 (k:=k) (i:=i+1) (f:=f) (g:=g) fun q a b=>h q o! o!
  rw[tc,tc];omega
theorem Fy:∀(k i:Nat),tc (fun _=>0) k i=0
 | 0,i=>rfl
 | k+1,i=>by rw[tc,Fy k (i+1)];rfl
theorem Fz {f:Nat→Int} {q:Nat}:∀{k i:Nat},i≤q→q<i+k→tc f k i=f q+tc (fun x=>if x=q then 0 else f x) k i
 | 0,i,a,b=>by omega
 | k+1,i,a,b=>by
  rw[tc,tc]
  by_cases e:i=q
  · subst e
    rw[if_pos rfl,ow (f:=f) (g:=fun x=>if x=i then 0 else f x) (k:=k) (i:=i+1) fun x p _=>by rw[if_neg o!]]
    omega
  · rw[if_neg e,Fz (q:=q) (k:=k) (i:=i+1) o! o!];omega
def J6 (j:bP) (s:List Int) (i:Nat) (m:Int):Prop:=s.g i≤m∧m<s.g i+(j.ab.g i).takes
instance (j:bP) (s:List Int) (i:Nat) (m:Int):Decidable (J6 j s i m):=by unfold J6;infer_instance
def z6 (j:bP) (s:List Int) (r:Nat) (m:Int) (i:Nat):Int:=if J6 j s i m then gP (j.ab.g i) (r:Int) else 0
def x7 (x:aR) (m:Int):Int:=Lu (x.off.map fun s=>(s,x.aI)) m
theorem M3 {x:Task} {r:Int}:∀{k i:Nat},(∀q,i≤q→q<i+k→(x.aB.g q).ah≠r)→iF x r k i=none
 | 0,i,h=>rfl
 | k+1,i,h=>by
  rw[iF,fL (h i (jR _) o!),ai]
  exact M3 fun q a b=>h q o! o!
theorem Sa {x:Task} {r:Int} {q0:Nat}:∀{k i:Nat},i≤q0→q0<i+k→(x.aB.g q0).ah=r→(∀q,i≤q→q<q0→(x.aB.g q).ah≠r)→iF x r k i=some (x.aB.g q0).aI
 | 0,i,a,b,e,h=>by omega
 | k+1,i,a,b,e,h=>by
  rw[iF]
  by_cases z:i=q0
  · subst z;rw[eV e];rfl
  · rw[fL (h i (jR _) o!),ai]
    exact Sa o! o! e fun q a b=>h q o! o!
theorem HZ {j:bP} (F:cE j) {i:Nat} (hi:i<j.ab.length) {q:Nat} (hq:q<(j.ab.g i).aB.length):gP (j.ab.g i) ((j.ab.g i).aB.g q).ah=((j.ab.g i).aB.g q).aI:=by
 rw[gP,Sa (q0:=q) (Nat.zero_le _) o! rfl fun q' _ h=>F.ud i hi q' o! q h hq]
theorem H0 {j:bP} (F:cE j) {i:Nat} (hi:i<j.ab.length) (r:Int):(∃q,q<(j.ab.g i).aB.length∧((j.ab.g i).aB.g q).ah=r)∨((∀q,q<(j.ab.g i).aB.length→((j.ab.g i).aB.g q).ah≠r)∧gP (j.ab.g i) r=0):=by
 by_cases h:∃q,q<(j.ab.g i).aB.length∧((j.ab.g i).aB.g q).ah=r
 · exact .inl h
 · have hn:∀q,q<(j.ab.g i).aB.length→((j.ab.g i).aB.g q).ah≠r:=fun q hq e=>h ⟨q,hq,e⟩
   exact .inr ⟨hn,by rw[gP,M3 fun q _ b=>hn q o!]⟩
theorem Xh {j:bP} (F:cE j) {i:Nat} (hi:i<j.ab.length) (r:Int):0≤gP (j.ab.g i) r∧gP (j.ab.g i) r≤1000:=by
 rcases H0 F hi r with ⟨q,hq,e⟩ | ⟨_,e⟩
 · rw[←e,HZ F hi hq]
   have a:=F.um i hi q hq
   have b:=F.ur i hi q hq
   have c:=(F.rs (Int.toNat ((j.ab.g i).aB.g q).ah) o!).2.2
   omega
 · rw[e];decide
theorem z8 (s:Span) (c:Int) (l:List (Span×Int)) (m:Int):Lu ((s,c)::l) m=inS s m c+Lu l m:=by
 unfold Lu;rw[List.map_cons,List.sum_cons]
theorem DJ {c m:Int}:∀{l:List Span},(∀s∈l,¬(s.a8≤m∧m≤s.aQ))→Lu (l.map fun s=>(s,c)) m=0
 | [],_=>rfl
 | s::l,h=>by
  rw[List.map_cons,z8,DJ fun x hx=>h x (.tail _ hx),inS,if_neg (h s (.head _))];rfl
theorem O4 {c m:Int} (hc:0≤c):∀{l:List Span},0≤Lu (l.map fun s=>(s,c)) m
 | []=>Int.le_refl _
 | s::l=>by
  have:=O4 hc (m:=m) (l:=l)
  rw[List.map_cons,z8,inS]
  split<;>omega
theorem UX {c m:Int} (hc:0≤c) {s:Span}:∀{l:List Span},s∈l→s.a8≤m→m≤s.aQ→c≤Lu (l.map fun s=>(s,c)) m
 | x::l,h,a,b=>by
  rw[List.map_cons,z8,inS]
  cases h with
  | head=>rw[if_pos ⟨a,b⟩];have:=O4 hc (m:=m) (l:=l);omega
  | tail _ h=>have:=UX hc h a b;split<;>omega
theorem acX {c m:Int} (hc:0≤c):∀{l:List Span},l.Pairwise (fun a b=>a.aQ<b.a8)→Lu (l.map fun s=>(s,c)) m≤c
 | [],_=>hc
 | s::l,h=>by
  obtain ⟨h1,h2⟩:=List.pairwise_cons.1 h
  rw[List.map_cons,z8,inS]
  by_cases z:s.a8≤m∧m≤s.aQ
  · rw[if_pos z,DJ fun x hx e=>by have:=h1 x hx;omega];omega
  · rw[if_neg z];have:=acX hc (m:=m) h2;omega
def Tm (j:bP) (s:List Int):Prop:=∀i,i<j.ab.length→0≤s.g i∧s.g i+(j.ab.g i).takes≤100000
theorem O5 {j:bP} (F:cE j) {s:List Int} (T:Tm j s) {p:List Bool} {r:Nat} {m:Int}:∀(k i:Nat) (v:Int),i+k=j.ab.length→0≤v→v≤1000*i→iG j (r:Int) p s m k i v=v+tc (fun q=>if p.g q=true then z6 j s r m q else 0) k i
 | 0,i,v,h,a,b=>by rw[iG,tc];omega
 | k+1,i,v,h,a,b=>by
  have hi:i<j.ab.length:=by omega
  have t:=T i hi
  have tk:=F.tk i hi
  have u:=Xh F hi (r:Int)
  have nt:=F.nt
  rw[iG,tc,wrap_i64 (n:=s.g i+(j.ab.g i).takes) o! o!,wrap_i64 (n:=v+gP (j.ab.g i) (r:Int)) o! o!]
  have z:=O5 F T (p:=p) (r:=r) (m:=m) k (i+1) v o! a o!
  have y:=O5 F T (p:=p) (r:=r) (m:=m) k (i+1) (v+gP (j.ab.g i) (r:Int)) o! o! o!
  rw[y,z]
  cases hp:p.g i with
  | false=>rw[ai,if_neg (by simp)];omega
  | true=>
   rw[ao,if_pos rfl,z6]
   by_cases c1:s.g i≤m
   · rw[eV c1,ao]
     by_cases c2:m<s.g i+(j.ab.g i).takes
     · rw[eV c2,ao,if_pos ⟨c1,c2⟩];omega
     · rw[fL c2,ai,if_neg fun e=>c2 e.2];omega
   · rw[fL c1,ai,if_neg fun e=>c1 e.1];omega
theorem agK {j:bP} (F:cE j) {s:List Int} (T:Tm j s) (p:List Bool) (r:Nat) (m:Int):lX j s p (r:Int) m=tc (fun q=>if p.g q=true then z6 j s r m q else 0) j.ab.length 0:=by
 rw[lX,O5 F T _ _ _ o! o! o!];omega
theorem UY {j:bP} (F:cE j) {s:List Int} {r:Nat} {m:Int} {i:Nat} (hi:i<j.ab.length):0≤z6 j s r m i∧z6 j s r m i≤1000:=by
 have:=Xh F hi (r:Int)
 unfold z6;split<;>omega
theorem acY {f:Nat→Int}:∀{k i:Nat},(∀q,i≤q→q<i+k→0≤f q∧f q≤1000)→0≤tc f k i∧tc f k i≤1000*k
 | 0,i,h=>⟨Int.le_refl _,Int.le_refl _⟩
 | k+1,i,h=>by
  have a:=h i (jR _) o!
  have b:=acY (f:=f) (k:=k) (i:=i+1) fun q x y=>h q o! o!
  rw[tc];omega
end
end Go.Proofs.aM
