import Derived.Test.YtijehnelcbdlgaaGreatW0
import Derived.Test.YtijehnelcbdlgaaGreatW1
import Derived.Test.YtijehnelcbdlgaaGreatW4
import Derived.Test.YtijehnelcbdlgaaGreatW3
namespace Go.Proofs.aM
open Go.Proofs Ab
noncomputable section
set_option maxRecDepth 100000
set_option maxHeartbeats 4000000
set_option linter.unusedVariables false
set_option linter.unusedSimpArgs false
def qM:Code:=(Tryz.f120.body).getD .skip
theorem px:Tryz.f120.body=some qM:=by kernel_rfl
def Ap:Code:=(bl qM).getD 0 .skip
def dP (P:Nat→Int) (ct:List Span):Nat→Nat→Option (Int)
 | 0,_=>none
 | dx+1,i0=>(bif (!decide ((P i0)=0)) then some (P i0) else dP P ct dx (i0+1))
theorem qN {d:Nat} {h:az} (cj:AV) (g:FuncId) (cap:List AV) (ct:List Span) (P:Nat→Int) (bp:aO h cj ct) (hP:∀j,j<ct.length→∀aV hh,Tidy hh→Has h hh→aO hh aV (ct.take j)→cA d (.fn g) (aV:: .agg (aK.c (ct.g j))::cap) hh= .ret (.int .i64 (P j)) hh):∀(k_ i_:Nat) (_:i_+k_=ct.length) (x:Nat→AV) (hh:az) (aF:Tidy hh) (aA:Has h hh),aC (cA (d)) Ap ⟨(cj::(x 1)::(AV.func g [] cap)::rx x 3 11 (cj::(Zn ct.length)::(Zn i_)::rx x 17 14 [])),hh,[],.no⟩ (.exit 0) hh (fun y=>(cj::(y 1)::(AV.func g [] cap)::rx y 3 11 (cj::(Zn ct.length)::rx y 16 15 []))) (fun r y=>(cj::(y 1)::(AV.func g [] cap)::rx y 3 3 ((Zi r)::rx y 7 7 (cj::(Zn ct.length)::rx y 16 15 [])))) (dP P ct k_ i_)
 | 0,i0,eZ,x,hh,aF,aA=>by
  have q1:(decide (((i0:Nat):Int)<((ct.length:Nat):Int)))=false:=d!
  exact aC.out rfl (pk (d) _ _ hh _ hh (VV (bE 3 false false .i64 ((i0:Nat):Int) ((ct.length:Nat):Int))<|BB q1<|ZZ) k!) (Grow.refl aF) k!
 | dx+1,i0,eZ,x,hh,aF,aA=>by
  have gN:=bp.small
  have q1:(decide (((i0:Nat):Int)<((ct.length:Nat):Int)))=true:=d!
  obtain ⟨p3,q4,gh⟩:=(bp.has aA).elem (i:=i0) o!
  have kN:=(bp.has aA).load o! gh
  obtain ⟨h6,kV,ig,uz,jc,bB⟩:=gQ aF (aN.cells [(Zi 0),(Zi 0)] 52 false)
  have gL:=bB
  obtain ⟨h7,jw,dM,r5,dS,aX⟩:=j_ (t:=52) (n:=2) (i:=hh.nx) (L:=[(Zi (ct.g i0).a8),(Zi (ct.g i0).aQ)]) ig jc k! rfl rfl rfl
  have cV:=Has.bK gL aX aF o!
  obtain ⟨r8,aka,akb⟩:=(bp.has aA).pre (t:=43) k! (i:=i0) o!
  have sl9:iY env 43 cj (none) (some (Zn i0)) (none)=some r8:=aka
  have k11:=hP i0 o! r8 h7 dM (aA.trans cV) (akb.has cV)
  have c12:AV.same 20 (AV.agg [(Zi (ct.g i0).a8),(Zi (ct.g i0).aQ)]) (AV.agg [(Zi (ct.g i0).a8),(Zi (ct.g i0).aQ)])=true:=dK 18 (kK (fun n=>aS n _ _) (kK (fun n=>aS n _ _) CK))
  have ei:=fun {al ps} (k:Pk al _ ps)=>(VV (bE 3 false false .i64 ((i0:Nat):Int) ((ct.length:Nat):Int))<|BC q1<|VV gh<|MM kN<|NN kV (fun i=>(Pt i))<|CC<|SS jw<|CN 3<|QQ sl9<|MM (aP 52 0 (AV.agg [(Zi (ct.g i0).a8),(Zi (ct.g i0).aQ)]) dS k!)<|EE k11<|CC<|HH (aP 52 0 (AV.agg [(Zi (ct.g i0).a8),(Zi (ct.g i0).aQ)]) dS k!)<|HH c12<|CC<|VV (kt 31 false true .i64 (P i0) 0)<|k:Pk _ [] ps)
  rcases bu (!decide ((P i0)=0)) with f1 | f1
  · have eB:=Eu f1
    exact aC.ret (P i0) (by simp only[dP,f1,ao,ai]) (pk (d) _ _ hh _ h7 (ei<|BB f1<|CN 2<|ZZ) k!) (⟨dM,cV,by omega⟩) k!
  · have eB:=Ew f1
    have u14:=eA 3 false true i0 1 o!
    exact aC.round (by simp only[dP,f1,ao,ai]) (pk (d) _ _ hh _ h7 (ei<|BV f1 u14<|CC<|ZZ) k!) (⟨dM,cV,by omega⟩) _ k! (fun x=>qN cj g cap ct P bp hP dx (i0+1) o! x h7 dM (aA.trans cV))
def cO (ct:List Span) (eD:Int) (P:Nat→Int):Int:=(bif (decide (eD<((ct.length:Nat):Int))) then 3 else (match (dP P ct ct.length 0) with | none=>0 | some Bz=>Bz))
theorem Dv {d:Nat} {h:az} {cj:AV} {g:FuncId} {cap:List AV} (ct:List Span) (eD:Int) (P:Nat→Int) (lH:aO h cj ct) (hP:∀j,j<ct.length→∀aV hh,Tidy hh→Has h hh→aO hh aV (ct.take j)→cA d (.fn g) (aV:: .agg (aK.c (ct.g j))::cap) hh= .ret (.int .i64 (P j)) hh) (bM:Tidy h):cA (d+1) (.fn 120) [cj,(Zi eD),(AV.func g [] cap)] h= .ret (Zi (cO ct eD P)) h:=by
 have gd:=lH.len
 have gK:=fun {al ps} (k:Pk al _ ps)=>(CN 2<|VV gd<|CC<|VV (gz 3 false false .i64 ((ct.length:Nat):Int) eD)<|k:Pk _ [] ps)
 rcases bu (decide (eD<((ct.length:Nat):Int))) with f0 | f0
 · have e:cO ct eD P=3:=by simp only[cO,f0,ao,ai]
   rw[e]
   exact aG rfl (aY Tryz.func120 px rfl (.inr rfl) (pk (d) _ _ h _ h (gK<|BC f0<|ZZ) k!) k!) (Has.refl _) rfl
 · have ML:=lH.len
   have JC:=qN (d:=d) (h:=h) cj g cap ct P lH hP ct.length 0 o! (dr (cj::(Zi eD)::(AV.func g [] cap)::aL::aL::aL::(Zi 0)::aL::aL::aL::cj::(Zn ct.length)::(Zi eD)::(AV.bool (decide (eD<((ct.length:Nat):Int))))::cj::(Zn ct.length)::(Zi 0)::iW 14)) h bM (Has.refl _)
   cases dX:dP P ct ct.length 0 with
   | none=>
    obtain ⟨Dl,h5,ep,jf⟩:=aC.n dX JC
    have fO:=jf.a
    have e:cO ct eD P=0:=by simp only[cO,f0,dX,ao,ai]
    rw[e]
    exact aG rfl (aY Tryz.func120 px rfl (.inr rfl) (pk (d) _ _ h _ h5 (gK<|BC f0<|VV ML<|CC<|LL ep<|CC<|ZZ) k!) k!) fO rfl
   | some Bz=>
    obtain ⟨Dl,h5,ep,jf⟩:=aC.r dX JC
    have fO:=jf.a
    have e:cO ct eD P=Bz:=by simp only[cO,f0,dX,ao,ai]
    rw[e]
    exact aG rfl (aY Tryz.func120 px rfl (.inr rfl) (pk (d) _ _ h _ h5 (gK<|BC f0<|VV ML<|CC<|LL ep<|ZZ) k!) k!) fO rfl
def Hj:Code:=(Tryz.f121.body).getD .skip
theorem mV:Tryz.f121.body=some Hj:=by kernel_rfl
def cx (pM:List Span) (s:Span):Int:=(bif (!(da s.a8)) then 1 else (bif (!(da s.aQ)) then 1 else (bif (decide (s.aQ<s.a8)) then 1 else (bif (decide (0<((pM.length:Nat):Int))) then (bif (decide (s.a8≤((pM.g (pM.length - 1)).aQ))) then 1 else 0) else 0))))
theorem OQ {d:Nat} {h:az} {s6:AV} (pM:List Span) (s:Span) (mT:aO h s6 pM) (Cg:aK.ok h s) (bM:Tidy h):cA (d+3) (.fn 121) [s6,(AV.agg [(Zi s.a8),(Zi s.aQ)])] h= .ret (Zi (cx pM s)) h:=by
 have amC:=mT.small
 obtain ⟨h1,dw,de,jW,bx,ca⟩:=gQ bM (aN.cells [(Zi s.a8),(Zi s.aQ)] 52 false)
 have bD:=ca
 have k2:=ou (d:=d) s.a8 de
 have ei:=fun {al ps} (k:Pk al _ ps)=>(NN dw (fun i=>(Pt i))<|CN 2<|MM (aP 3 0 (Zi s.a8) bx k!)<|EE k2<|CN 2<|k:Pk _ [] ps)
 rcases bu (!(da s.a8)) with f0 | f0
 · have e:cx pM s=1:=by simp only[cx,f0,ao,ai]
   rw[e]
   exact aG rfl (aY Tryz.func121 mV rfl (.inr rfl) (pk (d+2) _ _ h _ h1 (ei<|BB f0<|BC f0<|ZZ) k!) k!) bD rfl
 · have k4:=ou (d:=d) s.aQ de
   have gK:=fun {al ps} (k:Pk al _ ps)=>(ei<|BC f0<|MM (aP 3 1 (Zi s.aQ) bx k!)<|EE k4<|CN 2<|k:Pk _ [] ps)
   rcases bu (!(da s.aQ)) with f1 | f1
   · have e:cx pM s=1:=by simp only[cx,f0,f1,ao,ai]
     rw[e]
     exact aG rfl (aY Tryz.func121 mV rfl (.inr rfl) (pk (d+2) _ _ h _ h1 (gK<|BB f1<|BC f1<|ZZ) k!) k!) bD rfl
   · have n9:=fun {al ps} (k:Pk al _ ps)=>(gK<|BC f1<|MM (aP 3 0 (Zi s.a8) bx k!)<|CC<|MM (aP 3 1 (Zi s.aQ) bx k!)<|VV (gz 3 false false .i64 s.a8 s.aQ)<|CC<|k:Pk _ [] ps)
     rcases bu (decide (s.aQ<s.a8)) with f2 | f2
     · have pX:=jv f2
       have e:cx pM s=1:=by simp only[cx,f0,f1,f2,ao,ai]
       rw[e]
       exact aG rfl (aY Tryz.func121 mV rfl (.inr rfl) (pk (d+2) _ _ h _ h1 (n9<|BC f2<|ZZ) k!) k!) bD rfl
     · have pX:=pK f2
       have ln7:=mT.len
       have s5:=fun {al ps} (k:Pk al _ ps)=>(n9<|BC f2<|VV ln7<|VV (gz 3 false true .i64 ((pM.length:Nat):Int) 0)<|CC<|k:Pk _ [] ps)
       rcases bu (decide (0<((pM.length:Nat):Int))) with f3 | f3
       · have tF:=jv f3
         have ln9:=mT.len
         have u10:=anC 3 false true pM.length 1 o! o!
         obtain ⟨p12,q13,sa⟩:=mT.elem (i:=(pM.length - 1)) o!
         have rE:=(mT.has bD).part (t:=3) (j:=1) o! sa k! rfl
         have vR:=fun {al ps} (k:Pk al _ ps)=>(s5<|BC f3<|BM f3 (aP 3 0 (Zi s.a8) bx k!)<|BC f3<|BC f3<|BV f3 ln9<|BV f3 u10<|BV f3 sa<|BC f3<|BM f3 rE<|BV f3 (tx 3 false false .i64 s.a8 (pM.g (pM.length - 1)).aQ)<|VV (tp (decide (s.a8≤((pM.g (pM.length - 1)).aQ))) false f3)<|CC<|HH (aP 3 0 (Zi s.a8) bx k!)<|HH (show AV.same 20 (Zi s.a8) (Zi s.a8)=true from aS 19 _ _)<|HH rE<|HH (show AV.same 20 (Zi (pM.g (pM.length - 1)).aQ) (Zi (pM.g (pM.length - 1)).aQ)=true from aS 19 _ _)<|k:Pk _ [] ps)
         rcases bu (decide (s.a8≤((pM.g (pM.length - 1)).aQ))) with f4 | f4
         · have e:cx pM s=1:=by simp only[cx,f0,f1,f2,f3,f4,ao,ai]
           rw[e]
           exact aG rfl (aY Tryz.func121 mV rfl (.inr rfl) (pk (d+2) _ _ h _ h1 (vR<|BC f4<|ZZ) k!) k!) bD rfl
         · have e:cx pM s=0:=by simp only[cx,f0,f1,f2,f3,f4,ao,ai]
           rw[e]
           exact aG rfl (aY Tryz.func121 mV rfl (.inr rfl) (pk (d+2) _ _ h _ h1 (vR<|BC f4<|ZZ) k!) k!) bD rfl
       · have e:cx pM s=0:=by simp only[cx,f0,f1,f2,f3,ao,ai]
         rw[e]
         exact aG rfl (aY Tryz.func121 mV rfl (.inr rfl) (pk (d+2) _ _ h _ h1 (s5<|BB f3<|BB f3<|BB f3<|BB f3<|BB f3<|BB f3<|BB f3<|BB f3<|BB f3<|BV f3 (vd false f3)<|CC<|FF<|CC<|ZZ) k!) k!) bD rfl
def xY:Code:=(Tryz.f119.body).getD .skip
theorem BG:Tryz.f119.body=some xY:=by kernel_rfl
def eg (other:aR) (r:aR):Bool:=(decide (other.name=r.name))
theorem BH {d:Nat} {h:az} (other:aR) (r:aR) (rB:Nat) (WV:aK.ok h other) (h_r:aK.ok h r) (g_r:h.get rB=some (.cells (aK.c r) 45 false)) (bM:Tidy h):cA (d+1) (.fn 119) [(AV.agg [(AV.str other.name),(Zi other.aI),other.cJ]),(Pt rB)] h= .ret (AV.bool (eg other r)) h:=by
 obtain ⟨h1,dw,de,jW,bx,ca⟩:=gQ bM (aN.cells [(AV.str other.name),(Zi other.aI),other.cJ] 45 false)
 have bD:=ca
 have e:eg other r=(decide (other.name=r.name)):=by simp only[eg,ao,ai]
 rw[e]
 exact aG rfl (aY Tryz.func119 BG rfl (.inr rfl) (pk (d) _ _ h _ h1 (NN dw (fun i=>(Pt i))<|CN 2<|MM (aP 9 0 (AV.str other.name) bx k!)<|CC<|MM (aP 9 0 (AV.str r.name) (ca _ _ g_r) k!)<|VV (YK 9 false false other.name r.name)<|CC<|ZZ) k!) k!) bD rfl
def qO:Code:=(Tryz.f157.body).getD .skip
theorem tW:Tryz.f157.body=some qO:=by kernel_rfl
def Aq:Code:=(bl qO).getD 0 .skip
def cL (s:List aR) (P:aR→Bool):Nat→Nat→Option (Int)
 | 0,_=>none
 | dx+1,i0=>(bif (P (s.g i0)) then some ((i0:Nat):Int) else cL s P dx (i0+1))
theorem qP {d:Nat} {h:az} (sV:AV) (g:FuncId) (cap:List AV) (s:List aR) (P:aR→Bool) (bp:aO h sV s) (hP:∀y∈s,∀hh,Tidy hh→Has h hh→cA d (.fn g) (.agg (aK.c y)::cap) hh= .ret (.bool (P y)) hh):∀(k_ i_:Nat) (_:i_+k_=s.length) (x:Nat→AV) (hh:az) (aF:Tidy hh) (aA:Has h hh),aC (cA (d)) Aq ⟨(sV::(AV.func g [] cap)::rx x 2 5 ((Zn s.length)::(Zn i_)::rx x 9 10 [])),hh,[],.no⟩ (.exit 0) hh (fun y=>(sV::(AV.func g [] cap)::rx y 2 5 ((Zn s.length)::rx y 8 11 []))) (fun r y=>(sV::(AV.func g [] cap)::(y 2)::(y 3)::(Zi r)::(y 5)::(y 6)::(Zn s.length)::rx y 8 11 [])) (cL s P k_ i_)
 | 0,i0,eZ,x,hh,aF,aA=>by
  have q1:(decide (((i0:Nat):Int)<((s.length:Nat):Int)))=false:=d!
  exact aC.out rfl (pk (d) _ _ hh _ hh (VV (bE 3 false false .i64 ((i0:Nat):Int) ((s.length:Nat):Int))<|BB q1<|ZZ) k!) (Grow.refl aF) k!
 | dx+1,i0,eZ,x,hh,aF,aA=>by
  have gN:=bp.small
  have q1:(decide (((i0:Nat):Int)<((s.length:Nat):Int)))=true:=d!
  obtain ⟨p3,q4,gh⟩:=(bp.has aA).elem (i:=i0) o!
  have kN:=(bp.has aA).load o! gh
  have k6:=hP (s.g i0) (oF o!) hh aF aA
  have ei:=fun {al ps} (k:Pk al _ ps)=>(VV (bE 3 false false .i64 ((i0:Nat):Int) ((s.length:Nat):Int))<|BB q1<|CN 5<|VV gh<|MM kN<|EE k6<|k:Pk _ [] ps)
  rcases bu (P (s.g i0)) with f1 | f1
  · exact aC.ret ((i0:Nat):Int) (by simp only[cL,f1,ao,ai]) (pk (d) _ _ hh _ hh (ei<|BB f1<|CN 2<|ZZ) k!) (Grow.refl aF) k!
  · have u8:=eA 3 false true i0 1 o!
    exact aC.round (by simp only[cL,f1,ao,ai]) (pk (d) _ _ hh _ hh (ei<|BV f1 u8<|CC<|ZZ) k!) (Grow.refl aF) _ k! (fun x=>qP sV g cap s P bp hP dx (i0+1) o! x hh aF aA)
def eN (s:List aR) (P:aR→Bool):Int:=(match (cL s P s.length 0) with | none=>(-1) | some Am=>Am)
theorem Dw {d:Nat} {h:az} {sV:AV} {g:FuncId} {cap:List AV} (s:List aR) (P:aR→Bool) (Cg:aO h sV s) (hP:∀y∈s,∀hh,Tidy hh→Has h hh→cA d (.fn g) (.agg (aK.c y)::cap) hh= .ret (.bool (P y)) hh) (bM:Tidy h):cA (d+1) (.fn 157) [sV,(AV.func g [] cap)] h= .ret (Zi (eN s P)) h:=by
 have gd:=Cg.len
 have JG:=qP (d:=d) (h:=h) sV g cap s P Cg hP s.length 0 o! (dr (sV::(AV.func g [] cap)::aL::aL::(Zi 0)::aL::sV::(Zn s.length)::(Zi 0)::iW 10)) h bM (Has.refl _)
 cases eu:cL s P s.length 0 with
 | none=>
  obtain ⟨HN,h3,dV,iC⟩:=aC.n eu JG
  have fl:=iC.a
  have e:eN s P=(-1):=by simp only[eN,eu,ao,ai]
  rw[e]
  exact aG rfl (aY Tryz.func157 tW rfl (.inr rfl) (pk (d) _ _ h _ h3 (CN 2<|VV gd<|CC<|LL dV<|CC<|ZZ) k!) k!) fl rfl
 | some Am=>
  obtain ⟨HN,h3,dV,iC⟩:=aC.r eu JG
  have fl:=iC.a
  have e:eN s P=Am:=by simp only[eN,eu,ao,ai]
  rw[e]
  exact aG rfl (aY Tryz.func157 tW rfl (.inr rfl) (pk (d) _ _ h _ h3 (CN 2<|VV gd<|CC<|LL dV<|ZZ) k!) k!) fl rfl
def vq:Code:=(Tryz.f118.body).getD .skip
theorem yV:Tryz.f118.body=some vq:=by kernel_rfl
def cD (s:List aR) (P:aR→Bool):Bool:=(decide (0≤(eN s P)))
theorem yW {d:Nat} {h:az} {sV:AV} {g:FuncId} {cap:List AV} (s:List aR) (P:aR→Bool) (Cg:aO h sV s) (hP:∀y∈s,∀hh,Tidy hh→Has h hh→cA d (.fn g) (.agg (aK.c y)::cap) hh= .ret (.bool (P y)) hh) (bM:Tidy h):cA (d+2) (.fn 118) [sV,(AV.func g [] cap)] h= .ret (AV.bool (cD s P)) h:=by
 have k1:=Dw (d:=d) s P Cg hP bM
 have e:cD s P=(decide (0≤(eN s P))):=by simp only[cD,ao,ai]
 rw[e]
 exact aG rfl (aY Tryz.func118 yV rfl (.inr rfl) (pk (d+1) _ _ h _ h (CN 3<|EE k1<|VV (tA 3 false true .i64 (eN s P) 0)<|CC<|ZZ) k!) k!) (Has.refl _) rfl
def yX:Code:=(Tryz.f61.body).getD .skip
theorem l9:Tryz.f61.body=some yX:=by kernel_rfl
def bw (pM:List aR) (r:aR):Int:=(bif (!(il r.name)) then 5 else (bif (cD pM (fun y=>eg y r)) then 6 else (bif (!(im r.aI 1000)) then 1 else (cO r.off 16 (fun jx=>cx (List.take jx r.off) (List.g r.off jx))))))
theorem Dx {d:Nat} {h:az} {s6:AV} (pM:List aR) (r:aR) (mT:aO h s6 pM) (h_r:aK.ok h r) (bM:Tidy h):cA (d+6) (.fn 61) [s6,(AV.agg [(AV.str r.name),(Zi r.aI),r.cJ])] h= .ret (Zi (bw pM r)) h:=by
 obtain ⟨h1,dw,de,jW,bx,ca⟩:=gQ bM (aN.cells [(AV.str r.name),(Zi r.aI),r.cJ] 45 false)
 have bD:=ca
 have k2:=JN (d:=d+4) r.name h_r.1 de
 have ei:=fun {al ps} (k:Pk al _ ps)=>(NN dw (fun i=>(Pt i))<|CN 2<|MM (aP 9 0 (AV.str r.name) bx k!)<|EE k2<|CN 2<|k:Pk _ [] ps)
 rcases bu (!(il r.name)) with f0 | f0
 · have e:bw pM r=5:=by simp only[bw,f0,ao,ai]
   rw[e]
   exact aG rfl (aY Tryz.func61 l9 rfl (.inr rfl) (pk (d+5) _ _ h _ h1 (ei<|BC f0<|ZZ) k!) k!) bD rfl
 · have k4:=yW (d:=d+3) pM (fun y=>eg y r) (mT.has bD) (fun y hy hh yy aa=>BH (d:=d+2) y r h.nx (aK.mono aa ((mT.has bD).Te y hy)) (aK.mono aa (aK.mono bD h_r)) (aa _ _ bx) yy) de
   rcases bu (cD pM (fun y=>eg y r)) with f1 | f1
   · have e:bw pM r=6:=by simp only[bw,f0,f1,ao,ai]
     rw[e]
     exact aG rfl (aY Tryz.func61 l9 rfl (.inr rfl) (pk (d+5) _ _ h _ h1 (ei<|BB f0<|CN 2<|EE k4<|CC<|BC f1<|ZZ) k!) k!) bD rfl
   · have k6:=JP (d:=d+4) r.aI 1000 de
     have gK:=fun {al ps} (k:Pk al _ ps)=>(ei<|BB f0<|CN 2<|EE k4<|CC<|BC f1<|MM (aP 3 1 (Zi r.aI) bx k!)<|EE k6<|CN 2<|k:Pk _ [] ps)
     rcases bu (!(im r.aI 1000)) with f2 | f2
     · have e:bw pM r=1:=by simp only[bw,f0,f1,f2,ao,ai]
       rw[e]
       exact aG rfl (aY Tryz.func61 l9 rfl (.inr rfl) (pk (d+5) _ _ h _ h1 (gK<|BC f2<|ZZ) k!) k!) bD rfl
     · have k8:=Dv (d:=d+4) r.off 16 (fun jx=>cx (List.take jx r.off) (List.g r.off jx)) (h_r.2.has bD) (fun jx hj aV hh yy aa fa=>OQ (d:=d+1) (List.take jx r.off) (List.g r.off jx) fa (aK.mono aa ((h_r.2.has bD).ok hj)) yy) de
       have e:bw pM r=(cO r.off 16 (fun jx=>cx (List.take jx r.off) (List.g r.off jx))):=by simp only[bw,f0,f1,f2,ao,ai]
       rw[e]
       exact aG rfl (aY Tryz.func61 l9 rfl (.inr rfl) (pk (d+5) _ _ h _ h1 (gK<|BC f2<|MM (aP 43 2 r.cJ bx k!)<|EE k8<|CC<|ZZ) k!) k!) bD rfl
def Ch (P:Nat→Int):Nat→Nat→Option Int
 | 0,_=>none
 | k+1,i=>bif !decide (P i=0) then some (P i) else Ch P k (i+1)
def Qi (n:Nat) (eD:Int) (P:Nat→Int):Int:=bif decide (eD<((n:Nat):Int)) then 3 else match Ch P n 0 with | none=>0 | some r=>r
theorem RX {P:Nat→Int}:∀{k i:Nat},Ch P k i=none→∀j,i≤j→j<i+k→P j=0
 | 0,i,_,j,p,q=>by omega
 | k+1,i,h,j,p,q=>by
  rw[Ch] at h
  by_cases e:P i=0
  · rw[eV e] at h
    by_cases z:j=i
    · rw[z];exact e
    · exact RX (k:=k) (i:=i+1) h j o! o!
  · rw[fL e] at h;cases h
theorem yY {P:Nat→Int}:∀{k i:Nat} {r:Int},Ch P k i=some r→r≠0
 | 0,i,r,h=>by cases h
 | k+1,i,r,h=>by
  rw[Ch] at h
  by_cases e:P i=0
  · rw[eV e] at h;exact yY (k:=k) h
  · rw[fL e] at h;cases h;exact e
theorem nQ {n:Nat} {eD:Int} {P:Nat→Int} (h:Qi n eD P=0):(n:Int)≤eD∧∀j,j<n→P j=0:=by
 unfold Qi at h
 by_cases a:eD<((n:Nat):Int)
 · rw[eV a] at h;cases h
 · rw[fL a,ai] at h
   cases e:Ch P n 0 with
   | none=>exact ⟨by omega,fun j hj=>RX e j o! o!⟩
   | some r=>rw[e] at h;exact absurd h (yY e)
theorem acx {P:Nat→Int} {l:List Int}:∀{k i:Nat},fD P l k i=Ch P k i
 | 0,i=>rfl
 | k+1,i=>by rw[fD,Ch,acx]
theorem acy {P:Nat→Int} {l:List ko}:∀{k i:Nat},fE P l k i=Ch P k i
 | 0,i=>rfl
 | k+1,i=>by rw[fE,Ch,acy]
theorem W3 {P:Nat→Int} {l:List Task}:∀{k i:Nat},dg P l k i=Ch P k i
 | 0,i=>rfl
 | k+1,i=>by rw[dg,Ch,W3]
theorem acz {P:Nat→Int} {l:List aR}:∀{k i:Nat},ch P l k i=Ch P k i
 | 0,i=>rfl
 | k+1,i=>by rw[ch,Ch,acz]
theorem W5 {P:Nat→Int} {l:List Span}:∀{k i:Nat},dP P l k i=Ch P k i
 | 0,i=>rfl
 | k+1,i=>by rw[dP,Ch,W5]
theorem UH (l:List Int) (m:Int) (P:Nat→Int):cP l m P=Qi l.length m P:=by rw[cP,Qi,acx]<;>rfl
theorem acA (l:List ko) (m:Int) (P:Nat→Int):eM l m P=Qi l.length m P:=by rw[eM,Qi,acy]<;>rfl
theorem zV (l:List Task) (m:Int) (P:Nat→Int):bH l m P=Qi l.length m P:=by rw[bH,Qi,W3]<;>rfl
theorem acB (l:List aR) (m:Int) (P:Nat→Int):bz l m P=Qi l.length m P:=by rw[bz,Qi,acz]<;>rfl
theorem W6 (l:List Span) (m:Int) (P:Nat→Int):cO l m P=Qi l.length m P:=by rw[cO,Qi,W5]<;>rfl
theorem Dy {j:bP} {a:List Task} {t:Task} (h:dB j a t=0):∀q,q<t.aD.length→0≤t.aD.g q∧t.aD.g q<(j.ab.length:Int):=by
 intro q hq
 unfold dB at h
 cases n1:il t.name with
 | false=>rw[n1] at h;cases h
 | true=>
 cases n2:dt a (fun y=>fp y t) with
 | true=>rw[n1,n2] at h;cases h
 | false=>
 cases n3:da t.takes with
 | false=>rw[n1,n2,n3] at h;cases h
 | true=>
 rw[n1,n2,n3] at h
 by_cases e:cP t.aD ((t.aD.length:Nat):Int) (fun jx=>cI (List.take jx t.aD) (List.g t.aD jx) j)=0
 · rw[UH] at e
   have:=(nQ e).2 q hq
   unfold cI fF at this
   cases n4:kY (t.aD.g q) ((j.ab.length:Nat):Int) with
   | false=>rw[show List.g t.aD q=t.aD.g q from rfl,n4] at this;cases this
   | true=>exact zT n4
 · rw[fL e] at h;exact absurd h e
theorem RY {j:bP} (h:bH j.ab 64 (fun jx=>eE (List.take jx j.ab) (List.g j.ab jx) j)=0):j.ab.length≤100000:=by
 rw[zV] at h;have:=(nQ h).1;omega
theorem BK {j:bP} (h:bH j.ab 64 (fun jx=>eE (List.take jx j.ab) (List.g j.ab jx) j)=0):∀i,i<j.ab.length→∀q,q<(j.ab.g i).aD.length→0≤(j.ab.g i).aD.g q∧(j.ab.g i).aD.g q<(j.ab.length:Int):=by
 rw[zV] at h
 exact fun i hi=>Dy ((nQ h).2 i hi)
def anyI (P:Nat→Bool):Nat→Nat→Bool
 | 0,_=>false
 | k+1,i=>P i||anyI P k (i+1)
theorem qb {P Q:Nat→Bool}:∀{k i:Nat},(∀n,i≤n→n<i+k→P n=Q n)→anyI P k i=anyI Q k i
 | 0,i,h=>rfl
 | k+1,i,h=>by rw[anyI,anyI,h i (jR _) o!,qb (k:=k) (i:=i+1) fun n p q=>h n o! o!]
theorem mA {P:Nat→Bool}:∀{k i:Nat},anyI P k i=false→∀n,i≤n→n<i+k→P n=false
 | 0,i,_,n,p,q=>by omega
 | k+1,i,h,n,p,q=>by
  rw[anyI,Bool.or_eq_false_iff] at h
  by_cases e:n=i
  · rw[e];exact h.1
  · exact mA h.2 n o! o!
theorem acC {s:List aR} {P:aR→Bool}:∀k i,(cL s P k i=none∧anyI (fun n=>P (s.g n)) k i=false)∨∃n:Nat,cL s P k i=some (n:Int)∧anyI (fun n=>P (s.g n)) k i=true
 | 0,i=> .inl ⟨rfl,rfl⟩
 | k+1,i=>by
  rw[cL,anyI]
  cases h:P (s.g i) with
  | true=>exact .inr ⟨i,rfl,rfl⟩
  | false=>exact acC k (i+1)
theorem akp (s:List aR) (P:aR→Bool):cD s P=anyI (fun n=>P (s.g n)) s.length 0:=by
 rw[cD,eN]
 rcases acC (s:=s) (P:=P) s.length 0 with ⟨e,f⟩ | ⟨n,e,f⟩
 · rw[e,f];rfl
 · rw[e,f];exact eV (Int.natCast_nonneg n)
theorem W7 {s:List Task} {P:Task→Bool}:∀k i,(ef s P k i=none∧anyI (fun n=>P (s.g n)) k i=false)∨∃n:Nat,ef s P k i=some (n:Int)∧anyI (fun n=>P (s.g n)) k i=true
 | 0,i=> .inl ⟨rfl,rfl⟩
 | k+1,i=>by
  rw[ef,anyI]
  cases h:P (s.g i) with
  | true=>exact .inr ⟨i,rfl,rfl⟩
  | false=>exact W7 k (i+1)
theorem agD (s:List Task) (P:Task→Bool):dt s P=anyI (fun n=>P (s.g n)) s.length 0:=by
 rw[dt,ik]
 rcases W7 (s:=s) (P:=P) s.length 0 with ⟨e,f⟩ | ⟨n,e,f⟩
 · rw[e,f];rfl
 · rw[e,f];exact eV (Int.natCast_nonneg n)
theorem acD {s:List ko} {P:ko→Bool}:∀k i,(hQ s P k i=none∧anyI (fun n=>P (s.g n)) k i=false)∨∃n:Nat,hQ s P k i=some (n:Int)∧anyI (fun n=>P (s.g n)) k i=true
 | 0,i=> .inl ⟨rfl,rfl⟩
 | k+1,i=>by
  rw[hQ,anyI]
  cases h:P (s.g i) with
  | true=>exact .inr ⟨i,rfl,rfl⟩
  | false=>exact acD k (i+1)
theorem UI (s:List ko) (P:ko→Bool):fi s P=anyI (fun n=>P (s.g n)) s.length 0:=by
 rw[fi,lI]
 rcases acD (s:=s) (P:=P) s.length 0 with ⟨e,f⟩ | ⟨n,e,f⟩
 · rw[e,f];rfl
 · rw[e,f];exact eV (Int.natCast_nonneg n)
theorem acE {s:List Int} {v:Int}:∀k i,(kf s v k i=none∧anyI (fun n=>decide (v=s.g n)) k i=false)∨∃n:Nat,kf s v k i=some (n:Int)∧anyI (fun n=>decide (v=s.g n)) k i=true
 | 0,i=> .inl ⟨rfl,rfl⟩
 | k+1,i=>by
  rw[kf,anyI]
  cases h:decide (v=s.g i) with
  | true=>exact .inr ⟨i,rfl,rfl⟩
  | false=>exact acE k (i+1)
theorem acF (s:List Int) (v:Int):kg s v=anyI (fun n=>decide (v=s.g n)) s.length 0:=by
 rw[kg,ph]
 rcases acE (s:=s) (v:=v) s.length 0 with ⟨e,f⟩ | ⟨n,e,f⟩
 · rw[e,f];rfl
 · rw[e,f];exact eV (Int.natCast_nonneg n)
theorem s9 {α:Type} {l:List α} {n:Nat} (h:n≤l.length):(l.take n).length=n:=by rw[List.length_take];omega
theorem qd {α:Type} [Inhabited α] {l:List α} {n i:Nat} (h:i<n):(l.take n).g i=l.g i:=by
 rw[List.g,List.g,List.getD_eq_getElem?_getD,List.getD_eq_getElem?_getD,List.getElem?_take_of_lt h]
theorem qQ {x:Int} (h:da x=true):0≤x∧x≤100000:=by
 unfold da im at h
 by_cases z:0≤x
 · rw[eV z,ao] at h;exact ⟨z,jv h⟩
 · rw[fL z] at h;cases h
structure cE (j:bP):Prop where
 nt:j.ab.length≤64
 nr:j.af.length≤16
 nb:∀i,i<j.ab.length→∀q,q<(j.ab.g i).aD.length→0≤(j.ab.g i).aD.g q∧(j.ab.g i).aD.g q<(j.ab.length:Int)
 ro:∀r,r<j.af.length→(j.af.g r).off.length≤16∧∀q,q<(j.af.g r).off.length→0≤((j.af.g r).off.g q).a8∧((j.af.g r).off.g q).aQ≤100000
 rs:∀r,r<j.af.length→(∀q,q<(j.af.g r).off.length→((j.af.g r).off.g q).a8≤((j.af.g r).off.g q).aQ)∧(∀q,0<q→q<(j.af.g r).off.length→((j.af.g r).off.g (q - 1)).aQ<((j.af.g r).off.g q).a8)∧0≤(j.af.g r).aI∧(j.af.g r).aI≤1000
 ur:∀i,i<j.ab.length→∀q,q<(j.ab.g i).aB.length→0≤((j.ab.g i).aB.g q).ah∧((j.ab.g i).aB.g q).ah<(j.af.length:Int)
 um:∀i,i<j.ab.length→∀q,q<(j.ab.g i).aB.length→1≤((j.ab.g i).aB.g q).aI∧((j.ab.g i).aB.g q).aI≤(j.af.g (Int.toNat ((j.ab.g i).aB.g q).ah)).aI
 ud:∀i,i<j.ab.length→∀a,a<(j.ab.g i).aB.length→∀b,a<b→b<(j.ab.g i).aB.length→((j.ab.g i).aB.g a).ah≠((j.ab.g i).aB.g b).ah
 tk:∀i,i<j.ab.length→0≤(j.ab.g i).takes∧(j.ab.g i).takes≤100000
 io:¬(eQ j.ab).length<j.ab.length
theorem OT (j:bP) (h:cE j:=by assumption):cE j:=h
theorem LJ {j:bP} {b:List ko} {u:ko} (h:dO j b u=0):(0≤u.ah∧u.ah<(j.af.length:Int))∧(∀n,n<b.length→(b.g n).ah≠u.ah)∧1≤u.aI∧u.aI≤(j.af.g (Int.toNat u.ah)).aI:=by
 unfold dO at h
 cases a:kY u.ah ((j.af.length:Nat):Int) with
 | false=>rw[a] at h;cases h
 | true=>
 cases c:fi b (fun y=>lA y u) with
 | true=>rw[a,c] at h;cases h
 | false=>
 rw[a,c] at h
 by_cases d1:u.aI<1
 · rw[eV d1] at h;cases h
 · rw[fL d1] at h
   by_cases d2:1000<u.aI
   · rw[eV d2] at h;cases h
   · rw[fL d2] at h
     by_cases d3:(j.af.g (Int.toNat u.ah)).aI<u.aI
     · rw[eV d3] at h;cases h
     · rw[UI] at c
       refine ⟨zT a,fun n hn e=>?_,by omega,by omega⟩
       have t:=mA c n (Nat.zero_le _) o!
       unfold lA at t
       rw[eV e] at t;cases t
theorem LK {b:List Span} {s:Span} (h:cx b s=0):0≤s.a8∧s.aQ≤100000∧s.a8≤s.aQ∧(0<b.length→(b.g (b.length - 1)).aQ<s.a8):=by
 unfold cx at h
 cases a:da s.a8 with
 | false=>rw[a] at h;cases h
 | true=>
 cases c:da s.aQ with
 | false=>rw[a,c] at h;cases h
 | true=>
 rw[a,c] at h
 have x:=qQ a
 have y:=qQ c
 by_cases d1:s.aQ<s.a8
 · rw[eV d1] at h;cases h
 · rw[fL d1] at h
   refine ⟨x.1,y.2,by omega,fun hb=>?_⟩
   rw[eV (show 0<((b.length:Nat):Int) by omega)] at h
   by_cases d2:s.a8≤(b.g (b.length - 1)).aQ
   · rw[eV d2] at h;cases h
   · omega
theorem BL {b:List aR} {r:aR} (h:bw b r=0):(0≤r.aI∧r.aI≤1000)∧r.off.length≤16∧∀q,q<r.off.length→cx (r.off.take q) (r.off.g q)=0:=by
 unfold bw at h
 cases a:il r.name with
 | false=>rw[a] at h;cases h
 | true=>
 cases c:cD b (fun y=>eg y r) with
 | true=>rw[a,c] at h;cases h
 | false=>
 cases e:im r.aI 1000 with
 | false=>rw[a,c,e] at h;cases h
 | true=>
 rw[a,c,e] at h
 have h:cO r.off 16 (fun jx=>cx (List.take jx r.off) (List.g r.off jx))=0:=h
 rw[W6] at h
 have z:=nQ h
 refine ⟨?_,by omega,fun q hq=>z.2 q hq⟩
 unfold im at e
 by_cases z:0≤r.aI
 · rw[eV z,ao] at e;exact ⟨z,jv e⟩
 · rw[fL z] at e;cases e
theorem JV {j:bP} {b:List Task} {t:Task} (h:dB j b t=0):(0≤t.takes∧t.takes≤100000)∧∀q,q<t.aB.length→dO j (t.aB.take q) (t.aB.g q)=0:=by
 unfold dB at h
 cases n1:il t.name with
 | false=>rw[n1] at h;cases h
 | true=>
 cases n2:dt b (fun y=>fp y t) with
 | true=>rw[n1,n2] at h;cases h
 | false=>
 cases n3:da t.takes with
 | false=>rw[n1,n2,n3] at h;cases h
 | true=>
 rw[n1,n2,n3] at h
 by_cases e:cP t.aD ((t.aD.length:Nat):Int) (fun jx=>cI (List.take jx t.aD) (List.g t.aD jx) j)=0
 · rw[eV e] at h
   have h:eM t.aB ((t.aB.length:Nat):Int) (fun jx=>eU (List.take jx t.aB) (List.g t.aB jx) j)=0:=h
   rw[acA] at h
   exact ⟨qQ n3,fun q hq=>(nQ h).2 q hq⟩
 · rw[fL e] at h;exact absurd h e
theorem UJ {j:bP} (h:(bif (!decide ((bz j.af 16 (fun jx=>bw (List.take jx j.af) (List.g j.af jx)))=0)) then (bz j.af 16 (fun jx=>bw (List.take jx j.af) (List.g j.af jx))) else (bif (!decide ((bH j.ab 64 (fun jx=>eE (List.take jx j.ab) (List.g j.ab jx) j))=0)) then (bH j.ab 64 (fun jx=>eE (List.take jx j.ab) (List.g j.ab jx) j)) else (bif (decide ((((eQ j.ab).length:Nat):Int)<((j.ab.length:Nat):Int))) then 11 else 0)))=0):cE j:=by
 by_cases a:bz j.af 16 (fun jx=>bw (List.take jx j.af) (List.g j.af jx))=0
 · by_cases b:bH j.ab 64 (fun jx=>eE (List.take jx j.ab) (List.g j.ab jx) j)=0
   · by_cases c:(((eQ j.ab).length:Nat):Int)<((j.ab.length:Nat):Int)
     · rw[eV a,eV b,eV c] at h;cases h
     · have nb:=BK b
       rw[acB] at a
       rw[zV] at b
       have za:=nQ a
       have zb:=nQ b
       have rr:=fun r (hr:r<j.af.length)=>BL (za.2 r hr)
       have tt:=fun i (hi:i<j.ab.length)=>JV (zb.2 i hi)
       have oo:=fun r (hr:r<j.af.length) q (hq:q<(j.af.g r).off.length)=>LK ((rr r hr).2.2 q hq)
       have uu:=fun i (hi:i<j.ab.length) q (hq:q<(j.ab.g i).aB.length)=>LJ ((tt i hi).2 q hq)
       exact {
        nt:=by omega
        nr:=by omega
        nb:=nb
        ro:=fun r hr=>⟨(rr r hr).2.1,fun q hq=>⟨(oo r hr q hq).1,(oo r hr q hq).2.1⟩⟩
        rs:=fun r hr=>⟨fun q hq=>(oo r hr q hq).2.2.1,fun q h0 hq=>by
         have:=(oo r hr q hq).2.2.2
         rw[s9 (Nat.le_of_lt hq),qd o!] at this
         exact this h0,(rr r hr).1⟩
        ur:=fun i hi q hq=>(uu i hi q hq).1
        um:=fun i hi q hq=>(uu i hi q hq).2.2
        ud:=fun i hi a ha b Wc hb=>by
         have:=(uu i hi b hb).2.1 a (by rw[s9 (Nat.le_of_lt hb)];exact Wc)
         rw[qd Wc] at this;exact this
        tk:=fun i hi=>(tt i hi).1
        io:=by omega}
   · rw[eV a,fL b] at h;exact absurd h b
 · rw[fL a] at h;exact absurd h a
def Dz:Code:=(Tryz.f88.body).getD .skip
theorem MV:Tryz.f88.body=some Dz:=by kernel_rfl
def RZ:Code:=(bl Dz).getD 0 .skip
def mB (x_:Task) (aE:List Bool):Nat→Nat→Option (Bool)
 | 0,_=>none
 | dx+1,i0=>(bif (!(aE.g (x_.aD.g i0).toNat)) then some false else mB x_ aE dx (i0+1))
theorem DA {d:Nat} {h:az} (bO:AV) (x_:Task) (aE:List Bool) (bj:Nat) (bp:pT h 4 bO aE) (cC:x_.name.length<2^60) (dq:bT h .i64 3 x_.bh x_.aD) (lG:aO h x_.bo x_.aB) (fI:aK.ok h x_) (fU:∀q,q<x_.aD.length→0≤x_.aD.g q∧x_.aD.g q<(aE.length:Int)):∀(k_ i_:Nat) (_:i_+k_=x_.aD.length) (x:Nat→AV) (hh:az) (aF:Tidy hh) (aA:Has h hh) (br:hh.get bj=some (aN.cells [(AV.str x_.name),(Zi x_.takes),x_.bh,x_.bo] 48 false)),aC (cA (d)) RZ ⟨((x 0)::bO::(Pt bj)::(x 3)::(x 4)::(Zn i_)::rx x 6 16 []),hh,[],.no⟩ (.exit 0) hh (fun y=>((y 0)::bO::(Pt bj)::rx y 3 19 [])) (fun r y=>((y 0)::bO::(Pt bj)::(y 3)::(AV.bool r)::rx y 5 17 [])) (mB x_ aE k_ i_)
 | 0,i0,eZ,x,hh,aF,aA,br=>by
  have gd:=(dq.has aA).len
  have q2:(decide (((i0:Nat):Int)<((x_.aD.length:Nat):Int)))=false:=d!
  exact aC.out rfl (pk (d) _ _ hh _ hh (CN 2<|MM (aP 26 2 x_.bh br k!)<|VV gd<|VV (bE 3 false false .i64 ((i0:Nat):Int) ((x_.aD.length:Nat):Int))<|BB q2<|ZZ) k!) (Grow.refl aF) k!
 | dx+1,i0,eZ,x,hh,aF,aA,br=>by
  have gN:=bp.small
  have sX:=dq.small
  have JW:=lG.small
  have tD:=aF _ _ br
  obtain ⟨nd1,nd2⟩:=fU i0 o!
  have gd:=(dq.has aA).len
  have q2:(decide (((i0:Nat):Int)<((x_.aD.length:Nat):Int)))=true:=d!
  obtain ⟨p4,q5,oH,_⟩:=(dq.has aA).elem (i:=i0) o!
  have qm:=(dq.has aA).load o! oH
  obtain ⟨p8,q9,RN,_⟩:=(bp.has aA).elem (i:=(x_.aD.g i0).toNat) o!
  have GC:=xn RN o!
  have vn:=(bp.has aA).load o! RN
  have ei:=fun {al ps} (k:Pk al _ ps)=>(CN 2<|MM (aP 26 2 x_.bh br k!)<|VV gd<|VV (bE 3 false false .i64 ((i0:Nat):Int) ((x_.aD.length:Nat):Int))<|BB q2<|CN 2<|MM (aP 26 2 x_.bh br k!)<|CC<|VV oH<|MM qm<|VV GC<|MM vn<|CC<|k:Pk _ [] ps)
  rcases bu (!(aE.g (x_.aD.g i0).toNat)) with f1 | f1
  · exact aC.ret false (by simp only[mB,f1,ao,ai]) (pk (d) _ _ hh _ hh (ei<|BC f1<|ZZ) k!) (Grow.refl aF) k!
  · have u12:=eA 3 false true i0 1 o!
    exact aC.round (by simp only[mB,f1,ao,ai]) (pk (d) _ _ hh _ hh (ei<|BC f1<|VV u12<|CC<|ZZ) k!) (Grow.refl aF) _ k! (fun x=>DA bO x_ aE bj bp cC dq lG fI fU dx (i0+1) o! x hh aF aA br)
def lK (x_:Task) (aE:List Bool):Bool:=(match (mB x_ aE x_.aD.length 0) with | none=>true | some Am=>Am)
theorem Ze {d:Nat} {h:az} {bO:AV} (x_:Task) (aE:List Bool) (tb:aK.ok h x_) (vt:pT h 4 bO aE) (mf:∀q,q<x_.aD.length→0≤x_.aD.g q∧x_.aD.g q<(aE.length:Int)) (bM:Tidy h):cA (d+1) (.fn 88) [(AV.agg [(AV.str x_.name),(Zi x_.takes),x_.bh,x_.bo]),bO] h= .ret (AV.bool (lK x_ aE)) h:=by
 obtain ⟨h1,dw,de,jW,bx,ca⟩:=gQ bM (aN.cells [(AV.str x_.name),(Zi x_.takes),x_.bh,x_.bo] 48 false)
 have bD:=ca
 have JG:=DA (d:=d) (h:=h) bO x_ aE h.nx vt tb.1 tb.2.1 tb.2.2 tb mf x_.aD.length 0 o! (dr ((AV.agg [(AV.str x_.name),(Zi x_.takes),x_.bh,x_.bo])::bO::(Pt h.nx)::aL::(AV.bool false)::(Zi 0)::iW 16)) h1 de bD bx
 cases eu:mB x_ aE x_.aD.length 0 with
 | none=>
  obtain ⟨HN,h3,dV,iC⟩:=aC.n eu JG
  have fl:=bD.trans iC.a
  have e:lK x_ aE=true:=by simp only[lK,eu,ao,ai]
  rw[e]
  exact aG rfl (aY Tryz.func88 MV rfl (.inr rfl) (pk (d) _ _ h _ h3 (NN dw (fun i=>(Pt i))<|CN 2<|LL dV<|CC<|ZZ) k!) k!) fl rfl
 | some Am=>
  obtain ⟨HN,h3,dV,iC⟩:=aC.r eu JG
  have fl:=bD.trans iC.a
  have e:lK x_ aE=Am:=by simp only[lK,eu,ao,ai]
  rw[e]
  exact aG rfl (aY Tryz.func88 MV rfl (.inr rfl) (pk (d) _ _ h _ h3 (NN dw (fun i=>(Pt i))<|CN 2<|LL dV<|ZZ) k!) k!) fl rfl
theorem oJ {p:Prop} (h:p:=by first | omega | exact du.1 | (refine ⟨⟨by omega,by omega,fun _=>?_⟩,by omega⟩;first | exact du.1.2.2 o! | simp_all)):p:=h
theorem qR {p:Prop} (h:p:=by first | omega | (simp only[List.length_set,List.length_replicate,dQ]<;>omega) | exact hJ _ | exact ku a!):p:=h
def uK:Code:=(Tryz.f72.body).getD .skip
theorem UK:Tryz.f72.body=some uK:=by kernel_rfl
def OU:Code:=(bl uK).getD 0 .skip
def OV:Code:=(bl uK).getD 1 .skip
def bS (ba:List Bool) (j:bP):Nat→Int→Int→Int
 | 0,iN,jC=>iN
 | nK+1,iN,jC=>(bif (decide (0≤jC)) then (bif (!(ba.g jC.toNat)) then (bif (lK (j.ab.g jC.toNat) ba) then bS ba j nK jC (jC - 1) else bS ba j nK iN (jC - 1)) else bS ba j nK iN (jC - 1)) else iN)
theorem qn {d:Nat} {h:az} (j:bP) (z0:AV) (ba:List Bool) (b6:Nat) (dv:Nat) (eP:aO h j.au j.ab) (dW:aO h j.ar j.af) (mQ:aK.ok h j) (o9:∀i,i<j.ab.length→∀q,q<(j.ab.g i).aD.length→0≤(j.ab.g i).aD.g q∧(j.ab.g i).aD.g q<(j.ab.length:Int)) (rz:j.ab.length≤100000) (rA:ba.length=j.ab.length):∀(k_:Nat) (iN:Int) (jC:Int) (_:(jC+1≤(k_:Int))) (_:((-1≤iN∧iN<(j.ab.length:Int)∧(0≤iN→ba.g iN.toNat=false))∧jC<(j.ab.length:Int))) (x:Nat→AV) (hh:az) (aF:Tidy hh) (aA:Has h hh) (cz:hh.get b6=some (aN.cells [j.au,j.ar] 25 false)) (d_:hh.get dv=some (aN.cells (bs ba) 4 false)),cr (cA (d+1)) OV ⟨((x 0)::(Pt b6)::(x 2)::(AV.slice dv 0 j.ab.length j.ab.length false)::z0::(Zi iN)::(Zi jC)::rx x 7 37 []),hh,[],.no⟩ (.exit 2) hh (fun r y=>((y 0)::(Pt b6)::(y 2)::(AV.slice dv 0 j.ab.length j.ab.length false)::z0::(Zi r)::rx y 6 38 [])) (fun r=>(-1≤r∧r<(j.ab.length:Int)∧(0≤r→ba.g r.toNat=false))) (bS ba j k_ iN jC)
 | 0,iN,jC,eZ,du,x,hh,aF,aA,cz,d_=>by
  have q1:(decide (0≤jC))=false:=d!
  exact cr.out iN rfl (pk (d+1) _ _ hh _ hh (CC<|VV (tA 3 false true .i64 jC 0)<|BB q1<|ZZ) k!) (Grow.refl aF) (show (-1≤iN∧iN<(j.ab.length:Int)∧(0≤iN→ba.g iN.toNat=false)) from oJ) k!
 | nK+1,iN,jC,eZ,du,x,hh,aF,aA,cz,d_=>by
  have pV:=eP.small
  have rC:=dW.small
  have E2:=aF _ _ cz
  have Oo:=aF _ _ d_
  have NB:=o9
  have ei:=fun {al ps} (k:Pk al _ ps)=>(CC<|VV (tA 3 false true .i64 jC 0)<|k:Pk _ [] ps)
  rcases bu (decide (0≤jC)) with f0 | f0
  · have ja:=jv f0
    have gh:hG env (some (.slice 4)) (some (AV.slice dv 0 j.ab.length j.ab.length false)) (some (Zi jC))=some (AV.ptr dv jC.toNat):=ic k! (show jC.toNat<j.ab.length by omega) o!
    have ld3:cX env hh 4 (AV.ptr dv jC.toNat)=some (AV.bool (ba.g jC.toNat)):=af9 k! d_ qR
    have gK:=fun {al ps} (k:Pk al _ ps)=>(ei<|BB f0<|CN 2<|VV gh<|MM ld3<|CN 2<|k:Pk _ [] ps)
    rcases bu (!(ba.g jC.toNat)) with f1 | f1
    · obtain ⟨p6,q7,acG⟩:=(eP.has aA).elem (i:=jC.toNat) o!
      have Rz:=xn acG o!
      have ld8:=(eP.has aA).load o! acG
      have k9:=Ze (d:=d) (j.ab.g jC.toNat) ba ((eP.has aA).ok (i:=jC.toNat) o!) (pT.own (op:=false) (n:=j.ab.length) k! k! d_ qR o!) (by first | omega | assumption | (intro q hq;have q_:=NB _ o! q hq;omega)) aF
      have n9:=fun {al ps} (k:Pk al _ ps)=>(gK<|BC f1<|BM f1 (aP 22 0 j.au cz k!)<|BC f1<|BV f1 Rz<|BM f1 ld8<|BC f1<|BB f1<|EE k9<|VV (tp (lK (j.ab.g jC.toNat) ba) false f1)<|k:Pk _ [] ps)
      rcases bu (lK (j.ab.g jC.toNat) ba) with f2 | f2
      · have w11:IntKind.i64.wrap (jC - 1)=jC - 1:=wrap_i64 o! o!
        exact cr.round (by simp only[bS,f0,f1,f2,ao,ai]) (pk (d+1) _ _ hh _ hh (n9<|BB f2<|CN 3<|VV (Aj 3 false true w11)<|CC<|ZZ) k!) (Grow.refl aF) _ k! (fun x=>qn j z0 ba b6 dv eP dW mQ o9 rz rA nK jC (jC - 1) o! (show ((-1≤jC∧jC<(j.ab.length:Int)∧(0≤jC→ba.g jC.toNat=false))∧(jC - 1)<(j.ab.length:Int)) from oJ) x hh aF aA cz d_)
      · have w11:IntKind.i64.wrap (jC - 1)=jC - 1:=wrap_i64 o! o!
        exact cr.round (by simp only[bS,f0,f1,f2,ao,ai]) (pk (d+1) _ _ hh _ hh (n9<|BC f2<|VV (Aj 3 false true w11)<|CC<|ZZ) k!) (Grow.refl aF) _ k! (fun x=>qn j z0 ba b6 dv eP dW mQ o9 rz rA nK iN (jC - 1) o! (show ((-1≤iN∧iN<(j.ab.length:Int)∧(0≤iN→ba.g iN.toNat=false))∧(jC - 1)<(j.ab.length:Int)) from oJ) x hh aF aA cz d_)
    · have w5:IntKind.i64.wrap (jC - 1)=jC - 1:=wrap_i64 o! o!
      exact cr.round (by simp only[bS,f0,f1,ao,ai]) (pk (d+1) _ _ hh _ hh (gK<|BB f1<|BB f1<|BB f1<|BB f1<|BB f1<|BB f1<|BV f1 (vd false f1)<|FF<|CC<|VV (Aj 3 false true w5)<|CC<|ZZ) k!) (Grow.refl aF) _ k! (fun x=>qn j z0 ba b6 dv eP dW mQ o9 rz rA nK iN (jC - 1) o! (show ((-1≤iN∧iN<(j.ab.length:Int)∧(0≤iN→ba.g iN.toNat=false))∧(jC - 1)<(j.ab.length:Int)) from oJ) x hh aF aA cz d_)
  · exact cr.out iN (by simp only[bS,f0,ao,ai]) (pk (d+1) _ _ hh _ hh (ei<|BB f0<|ZZ) k!) (Grow.refl aF) (show (-1≤iN∧iN<(j.ab.length:Int)∧(0≤iN→ba.g iN.toNat=false)) from oJ) k!
def ir (j:bP):Nat→List Int→List Bool→List Int
 | 0,DB,ba=>default
 | dx+1,DB,ba=>(bif (decide ((bS ba j ((((j.ab.length:Nat):Int) - 1)+1).toNat (-1) (((j.ab.length:Nat):Int) - 1))<0)) then DB else ir j dx (DB++[(bS ba j ((((j.ab.length:Nat):Int) - 1)+1).toNat (-1) (((j.ab.length:Nat):Int) - 1))]) (ba.set (bS ba j ((((j.ab.length:Nat):Int) - 1)+1).toNat (-1) (((j.ab.length:Nat):Int) - 1)).toNat true))
theorem AN {d:Nat} {h:az} {gg0:az} (j:bP) (bj:Nat) (cg:Nat) (bp:aO h j.au j.ab) (cC:aO h j.ar j.af) (fI:aK.ok h j) (fU:∀i,i<j.ab.length→∀q,q<(j.ab.g i).aD.length→0≤(j.ab.g i).aD.g q∧(j.ab.g i).aD.g q<(j.ab.length:Int)) (iB:j.ab.length≤100000) (bM:Tidy h) (tC:h.nx≤bj) (C5:h.nx≤cg) (o_:cg≠bj) (NG0:h.nx≤gg0.nx) (AF:bj<gg0.nx) (Gv:cg<gg0.nx):∀(k_:Nat) (DB:List Int) (ba:List Bool) (z0:AV) (_:((nF ba:Nat):Int)+1≤(k_:Int)) (_:(DB.length+nF ba=j.ab.length)) (x:Nat→AV) (hh:az) (aF:Tidy hh) (aA:Has h hh) (fN:h.nx≤hh.nx) (kc:ba.length=j.ab.length) (br:hh.get bj=some (aN.cells [j.au,j.ar] 25 false)) (dA:hh.get cg=some (aN.cells (bs ba) 4 false)) (Je:eG 3 gg0 hh z0 (zs .i64 DB)) (lz0:DB.length≤1000000000) (yJ:gg0.nx≤hh.nx),bY (σ:=List Bool) (ρ:=List Int) (cA (d+1)) OU ⟨((x 0)::(Pt bj)::(x 2)::(AV.slice cg 0 j.ab.length j.ab.length false)::z0::rx x 5 39 []),hh,[],.no⟩ (.exit 0) hh (fun r z y=>((y 0)::(Pt bj)::(y 2)::(AV.slice cg 0 j.ab.length j.ab.length false)::rx y 4 40 [])) (fun r z y=>((y 0)::(Pt bj)::z::(AV.slice cg 0 j.ab.length j.ab.length false)::rx y 4 40 [])) (fun r z hk=>True) (fun r z hk=>Has h hk∧eG 3 gg0 hk z (zs .i64 r)∧r.length≤1000000000) (Sum.inr (ir j k_ DB ba))
 | 0,DB,ba,z0,eZ,du,x,hh,aF,aA,fN,kc,br,dA,Je,lz0,yJ=>by
  exfalso;omega
 | dx+1,DB,ba,z0,eZ,du,x,hh,aF,aA,fN,kc,br,dA,Je,lz0,yJ=>by
  have gN:=bp.small
  have mw:=cC.small
  have tD:=aF _ _ br
  have Lr:=aF _ _ dA
  have NB:=fU
  have gd:=bp.len
  have w2:IntKind.i64.wrap (((j.ab.length:Nat):Int) - 1)=((j.ab.length:Nat):Int) - 1:=wrap_i64 o! o!
  obtain ⟨MR,h4,jX,fV,wC⟩:=qn (d:=d) (h:=h) j z0 ba bj cg bp cC fI NB o! o! ((((j.ab.length:Nat):Int) - 1)+1).toNat (-1) (((j.ab.length:Nat):Int) - 1) o! (show ((-1≤(-1)∧(-1)<(j.ab.length:Int)∧(0≤(-1)→ba.g (-1).toNat=false))∧(((j.ab.length:Nat):Int) - 1)<(j.ab.length:Int)) from oJ) (dr ((x 0)::(Pt bj)::(x 2)::(AV.slice cg 0 j.ab.length j.ab.length false)::z0::(Zi (-1))::(Zi (((j.ab.length:Nat):Int) - 1))::rx x 7 4 ((Pt bj)::j.au::(Zn j.ab.length)::(Zi (((j.ab.length:Nat):Int) - 1))::rx x 15 29 []))) hh aF aA br dA
  have aqe:=(show (-1≤(bS ba j ((((j.ab.length:Nat):Int) - 1)+1).toNat (-1) (((j.ab.length:Nat):Int) - 1))∧(bS ba j ((((j.ab.length:Nat):Int) - 1)+1).toNat (-1) (((j.ab.length:Nat):Int) - 1))<(j.ab.length:Int)∧(0≤(bS ba j ((((j.ab.length:Nat):Int) - 1)+1).toNat (-1) (((j.ab.length:Nat):Int) - 1))→ba.g (bS ba j ((((j.ab.length:Nat):Int) - 1)+1).toNat (-1) (((j.ab.length:Nat):Int) - 1)).toNat=false)) from wC)
  have ij:=fV.y
  have UD:hh.nx≤h4.nx:=fV.n
  have fq:=aA.trans fV.a
  have W8:=fV.a
  have s5:=fun {al ps} (k:Pk al _ ps)=>(CN 2<|MM (aP 22 0 j.au br k!)<|VV gd<|VV (Aj 3 false true w2)<|CC<|LL jX<|CC<|VV (bE 3 false true .i64 (bS ba j ((((j.ab.length:Nat):Int) - 1)+1).toNat (-1) (((j.ab.length:Nat):Int) - 1)) 0)<|k:Pk _ [] ps)
  rcases bu (decide ((bS ba j ((((j.ab.length:Nat):Int) - 1)+1).toNat (-1) (((j.ab.length:Nat):Int) - 1))<0)) with f0 | f0
  · have ja:=jv f0
    exact bY.ret DB z0 (congrArg Sum.inr (by simp only[ir,f0,ao,ai])) (pk (d+1) _ _ hh _ h4 (s5<|BB f0<|CN 2<|ZZ) k!) ij o! ⟨fq,(Je.has W8),(by first | omega | (simp<;>omega))⟩ k!
  · have ja:=pK f0
    have MH:hG env (some (.slice 4)) (some (AV.slice cg 0 j.ab.length j.ab.length false)) (some (Zi (bS ba j ((((j.ab.length:Nat):Int) - 1)+1).toNat (-1) (((j.ab.length:Nat):Int) - 1))))=some (AV.ptr cg (bS ba j ((((j.ab.length:Nat):Int) - 1)+1).toNat (-1) (((j.ab.length:Nat):Int) - 1)).toNat):=ic k! (show (bS ba j ((((j.ab.length:Nat):Int) - 1)+1).toNat (-1) (((j.ab.length:Nat):Int) - 1)).toNat<j.ab.length by omega) o!
    obtain ⟨h7,akr⟩:∃De:az,De=h4.put cg (some (aN.cells (bs (ba.set (bS ba j ((((j.ab.length:Nat):Int) - 1)+1).toNat (-1) (((j.ab.length:Nat):Int) - 1)).toNat true)) 4 false)):=⟨_,rfl⟩
    have jw:eS env h4 4 (AV.ptr cg (bS ba j ((((j.ab.length:Nat):Int) - 1)+1).toNat (-1) (((j.ab.length:Nat):Int) - 1)).toNat) (AV.bool true)=some h7:=by rw[akr];exact sS k! (fV.a _ _ dA) qR
    have acH:Ll h4 h7 cg (aN.cells (bs (ba.set (bS ba j ((((j.ab.length:Nat):Int) - 1)+1).toNat (-1) (((j.ab.length:Nat):Int) - 1)).toNat true)) 4 false):=by rw[akr];exact jL ij (fV.a _ _ dA)
    have dM:=acH.1
    have r5:h7.nx=h4.nx:=by rw[akr];rfl
    have cV:=acH.has fq bM o!
    obtain ⟨h8,ajX,xV,ajY,mz,E4⟩:=gQ dM (aN.cells [(Zi (bS ba j ((((j.ab.length:Nat):Int) - 1)+1).toNat (-1) (((j.ab.length:Nat):Int) - 1)))] 3 false)
    have sW:=cV.trans E4
    have agE:=E4
    obtain ⟨W2,h9,aom,uw,T9,aks,arX⟩:=eG.I0 (k:= .i64) (g:=gg0) (tys:= #[26,26]) (v:=(bS ba j ((((j.ab.length:Nat):Int) - 1)+1).toNat (-1) (((j.ab.length:Nat):Int) - 1))) (L:=DB) xV o! (((Je.has W8).chg acH o!).has agE) mz (by first | omega | (simp<;>omega)) rfl rfl k! k! k! (bytes:=8) k! (z0:=Zi 0) k! rfl (by decide)
    have nz:=Has.I1 sW bM o! aks
    exact bY.round (congrArg Sum.inr (by simp only[ir,f0,ao,ai])) (pk (d+1) _ _ hh _ h9 (s5<|BB f0<|CN 2<|VV MH<|SS jw<|CN 2<|NN ajX (fun i=>(AV.slice i 0 1 1 false))<|PP (show cb env h8 #[26,26] z0 (AV.slice h7.nx 0 1 1 false)=some (W2,h9) from aom)<|CC<|ZZ) k!) o! _ k! (fun x=>AN j bj cg bp cC fI fU iB bM tC C5 o_ NG0 AF Gv dx (DB++[(bS ba j ((((j.ab.length:Nat):Int) - 1)+1).toNat (-1) (((j.ab.length:Nat):Int) - 1))]) (ba.set (bS ba j ((((j.ab.length:Nat):Int) - 1)+1).toNat (-1) (((j.ab.length:Nat):Int) - 1)).toNat true) W2 (by have e_:=acg o! o! (wC.2.2 o!);first | omega | (simp only[List.length_append,List.length_cons,List.length_nil];omega)) (show ((DB++[(bS ba j ((((j.ab.length:Nat):Int) - 1)+1).toNat (-1) (((j.ab.length:Nat):Int) - 1))]).length+nF (ba.set (bS ba j ((((j.ab.length:Nat):Int) - 1)+1).toNat (-1) (((j.ab.length:Nat):Int) - 1)).toNat true)=j.ab.length) from (by have e_:=acg o! o! (wC.2.2 o!);first | omega | (simp only[List.length_append,List.length_cons,List.length_nil];omega))) x h9 uw nz o! qR (aks _ _ o! (E4 _ _ (acH.2.2 _ _ o! (fV.a _ _ br)))) (aks _ _ o! (E4 _ _ acH.2.1)) arX (by first | omega | (simp<;>omega)) o!)
def iu (j:bP):List Int:=(ir j (((nF (List.replicate j.ab.length false):Nat):Int)+1).toNat ([]) (List.replicate j.ab.length false))
theorem UL {d:Nat} {h:az} (j:bP) (b7:aK.ok h j) (mf:∀i,i<j.ab.length→∀q,q<(j.ab.g i).aD.length→0≤(j.ab.g i).aD.g q∧(j.ab.g i).aD.g q<(j.ab.length:Int)) (oQ:j.ab.length≤100000) (bM:Tidy h):∃z hk,cA (d+2) (.fn 72) [(AV.agg [j.au,j.ar])] h= .ret z hk∧Grow h hk∧bT hk .i64 3 z (iu j)∧eG 3 h hk z (zs .i64 (iu j)):=by
 obtain ⟨h1,dw,de,jW,bx,ca⟩:=gQ bM (aN.cells [j.au,j.ar] 25 false)
 have bD:=ca
 have JH:=b7.1.len
 have mk3:CH env (some (.slice 4)) (some (Zn j.ab.length)) (some (Zn j.ab.length))=some (aN.cells (cB [(AV.bool false)] j.ab.length) 4 false,fun i=>AV.slice i 0 j.ab.length j.ab.length false):=sw (bytes:=1) (z:=(AV.bool false)) k! k! k! rfl (by decide) o!
 obtain ⟨h4,Ow,ij,Y7,Lt,sY⟩:=gQ de (aN.cells (cB [(AV.bool false)] j.ab.length) 4 false)
 have fq:=bD.trans sY
 have acI:h4.get h1.nx=some (aN.cells (bs (List.replicate j.ab.length false)) 4 false):=by have q:=Lt;rw[EY] at q;exact q
 obtain ⟨zo7,Zc,h6,uJ,ig,aof,RR,UE,akk⟩:=bY.r rfl (AN (d:=d) (h:=h) (gg0:=h4) j h.nx h1.nx b7.1 b7.2 b7 mf o! bM o! o! o! o! o! o! (((nF (List.replicate j.ab.length false):Nat):Int)+1).toNat ([]) (List.replicate j.ab.length false) AV.aw o! (show (([]).length+nF (List.replicate j.ab.length false)=j.ab.length) from (by rw[yR];simp)) (dr ((AV.agg [j.au,j.ar])::(Pt h.nx)::AV.aw::(AV.slice h1.nx 0 j.ab.length j.ab.length false)::AV.aw::aL::aL::(Pt h.nx)::j.au::(Zn j.ab.length)::(AV.slice h1.nx 0 j.ab.length j.ab.length false)::iW 33)) h4 ij fq o! qR (sY _ _ bx) acI (.inl ⟨rfl,rfl⟩) (Nat.zero_le _) o!)
 have gL:=RR
 have e:iu j=(ir j (((nF (List.replicate j.ab.length false):Nat):Int)+1).toNat ([]) (List.replicate j.ab.length false)):=by simp only[iu,ao,ai]
 rw[e]
 have oz:=eG.le (h0:=h) UE o!
 exact ⟨zo7,pS rfl (aY Tryz.func72 UK rfl (.inr rfl) (pk (d+1) _ _ h _ h6 (NN dw (fun i=>(Pt i))<|CN 2<|MM (aP 22 0 j.au bx k!)<|VV JH<|KK mk3 Ow<|CN 2<|LL uJ<|ZZ) k!) k!) bM ⟨ig,gL,by omega⟩ (P:=fun hh=>bT hh .i64 3 zo7 (ir j (((nF (List.replicate j.ab.length false):Nat):Int)+1).toNat ([]) (List.replicate j.ab.length false))∧eG 3 h hh zo7 (zs .i64 (ir j (((nF (List.replicate j.ab.length false):Nat):Int)+1).toNat ([]) (List.replicate j.ab.length false)))) ⟨oz.zs o! k! k!,oz⟩ fun v=>⟨oz.aby v k! k!,oz.abD v⟩⟩
theorem MW {x:Task} {p:List Bool}:∀k i,mB x p k i=bif anyI (fun n=> !(p.g (Int.toNat (x.aD.g n)))) k i then some false else none
 | 0,i=>rfl
 | k+1,i=>by
  rw[mB,anyI,MW k (i+1)]
  cases p.g (Int.toNat (x.aD.g i))<;>rfl
theorem DC (x:Task) (p:List Bool):lK x p= !(anyI (fun n=> !(p.g (Int.toNat (x.aD.g n)))) x.aD.length 0):=by
 rw[lK,MW]
 cases anyI (fun n=> !(p.g (Int.toNat (x.aD.g n)))) x.aD.length 0<;>rfl
theorem W9 {s:List Int} {P:Nat→Bool}:∀k i,(hU s P k i=none∧anyI P k i=false)∨∃n:Nat,hU s P k i=some (n:Int)∧anyI P k i=true
 | 0,i=> .inl ⟨rfl,rfl⟩
 | k+1,i=>by
  rw[hU,anyI]
  cases h:P i with
  | true=>exact .inr ⟨i,rfl,rfl⟩
  | false=>exact W9 k (i+1)
theorem agF (s:List Int) (P:Nat→Bool):jj s P=anyI P s.length 0:=by
 rw[jj,lJ]
 rcases W9 (s:=s) (P:=P) s.length 0 with ⟨e,f⟩ | ⟨n,e,f⟩
 · rw[e,f];rfl
 · rw[e,f];exact eV (Int.natCast_nonneg n)
def K8 (ts:List Task) (p:List Bool) (i:Nat):Bool:= !(p.g i)&&lK (ts.g i) p
theorem MX (ts:List Task) (p:List Bool) (t:Int):jA ts p t=K8 ts p t.toNat:=by
 rw[jA,K8,agF,DC]
 cases p.g t.toNat<;>rfl
def jg (P:Nat→Bool):Nat→Nat→Option Nat
 | 0,_=>none
 | k+1,i=>bif P i then some i else jg P k (i+1)
theorem qS {P:Nat→Bool}:∀{k i m:Nat},jg P k i=some m→P m=true∧i≤m∧m<i+k
 | 0,i,m,h=>by cases h
 | k+1,i,m,h=>by
  rw[jg] at h
  cases e:P i with
  | true=>rw[e] at h;cases h;exact ⟨e,jR _,by omega⟩
  | false=>
   rw[e] at h
   have:=qS (k:=k) h
   exact ⟨this.1,by omega,by omega⟩
theorem GF {P:Nat→Bool}:∀(k i:Nat),jg P (k+1) i=match jg P k i with | some q=>some q | none=>bif P (i+k) then some (i+k) else none
 | 0,i=>by rw[jg,jg];rfl
 | k+1,i=>by
  rw[jg,GF k (i+1),jg]
  cases P i with
  | true=>rfl
  | false=>
   rw[ai,ai,show i+1+k=i+(k+1) by omega]
theorem Fs {a:List Bool} {j:bP}:∀(m kq:Nat) (v:Int),m≤kq→bS a j kq v ((m:Int) - 1)=match jg (K8 j.ab a) m 0 with | some q=>(q:Int) | none=>v
 | 0,kq,v,h=>by
  cases kq with
  | zero=>rw[bS];rfl
  | succ kq=>rw[bS,fL (by omega:¬(0:Int)≤((0:Nat):Int) - 1)];rfl
 | m+1,0,v,h=>by omega
 | m+1,kq+1,v,h=>by
  rw[bS,eV (by omega:(0:Int)≤((m+1:Nat):Int) - 1),ao,show ((m+1:Nat):Int) - 1=((m:Nat):Int) by omega,Int.toNat_natCast,Fs m kq _ o!,Fs m kq _ o!,GF,Nat.zero_add]
  have e:K8 j.ab a m=(!(a.g m)&&lK (j.ab.g m) a):=rfl
  rw[e]
  cases a.g m<;>cases lK (j.ab.g m) a<;>cases jg (K8 j.ab a) m 0<;>rfl
def W_ (ts:List Task) (x:List Int×List Bool):List Int×List Bool:=match jg (K8 ts x.2) ts.length 0 with | some q=>(x.1++[(q:Int)],x.2.set q true) | none=>x
def BN (ts:List Task):Nat→List Int×List Bool→List Int×List Bool
 | 0,x=>x
 | k+1,x=>BN ts k (W_ ts x)
theorem acJ {oqd:List Int} {ts:List Task} (ho:∀i,i<ts.length→oqd.g i=(i:Int)):∀(k i:Nat) (v:List Int) (a:List Bool),i+k=ts.length→b5 oqd ts k i v a=match jg (K8 ts a) k i with | some q=>(v++[(q:Int)],a.set q true) | none=>(v,a)
 | 0,i,v,a,h=>rfl
 | k+1,i,v,a,h=>by
  rw[b5,jg,MX,ho i o!,Int.toNat_natCast,acJ ho k (i+1) v a o!]
  cases K8 ts a i<;>rfl
theorem acK {oqd:List Int} {ts:List Task} (ho:∀i,i<ts.length→oqd.g i=(i:Int)) (hl:oqd.length=ts.length):∀(k i:Nat) (v:List Int) (a:List Bool),cH oqd ts k i v a=BN ts k (v,a)
 | 0,i,v,a=>rfl
 | k+1,i,v,a=>by
  rw[cH,acK ho hl k (i+1),BN,hl,acJ ho _ _ _ _ o!,W_]
theorem acL {ts:List Task}:∀(k i:Nat) (a:List Int),a.length=ts.length→i+k=ts.length→(∀q,q<i→a.g q=(q:Int))→(eH ts k i a).length=ts.length∧∀q,q<ts.length→(eH ts k i a).g q=(q:Int)
 | 0,i,a,hl,h,hq=>⟨hl,fun q hq'=>hq q o!⟩
 | k+1,i,a,hl,h,hq=>by
  rw[eH]
  refine acL k (i+1) _ (by rw[List.length_set];exact hl) o! fun q hq'=>?_
  by_cases e:q=i
  · subst e;exact fk o!
  · rw[bk (Ne.symm e)];exact hq q o!
theorem BO (ts:List Task):eQ ts=(BN ts ts.length ([],List.replicate ts.length false)).1:=by
 obtain ⟨h1,h2⟩:=acL (ts:=ts) ts.length 0 (List.replicate ts.length 0) (by rw[List.length_replicate]) o! fun q h=>by omega
 rw[eQ,bf,acK h2 h1,h1];rfl
theorem Xa:∀{l:List Bool},nF l=0→∀i,i<l.length→l.g i=true
 | [],_,i,h=>by simp at h
 | b::l,h,0,_=>by
  cases b with
  | true=>rfl
  | false=>simp [nF] at h
 | b::l,h,i+1,hi=>by
  have:nF l=0:=by
   rw[nF] at h;omega
  exact Xa this i (by simpa using hi)
theorem Xb (ts:List Task) (x:List Int×List Bool):(W_ ts x).2.length=x.2.length:=by
 rw[W_];cases jg (K8 ts x.2) ts.length 0 with
 | none=>rfl
 | some q=>exact List.length_set ..
theorem Xc {ts:List Task} {a:List Bool} {m:Nat} (h:K8 ts a m=true):a.g m=false∧lK (ts.g m) a=true:=by
 rw[K8] at h
 cases e:a.g m with
 | true=>rw[e] at h;cases h
 | false=>rw[e] at h;exact ⟨rfl,h⟩
theorem Zf (ts:List Task) (x:List Int×List Bool) (hl:x.2.length=ts.length):(W_ ts x).1.length+nF (W_ ts x).2=x.1.length+nF x.2:=by
 rw[W_]
 cases e:jg (K8 ts x.2) ts.length 0 with
 | none=>rfl
 | some q=>
  have f:=qS e
  have:=E9 (l:=x.2) (n:=q) o! (Xc f.1).1
  show (x.1++[(q:Int)]).length+nF (x.2.set q true)=_
  rw[List.length_append,List.length_singleton];omega
theorem BP (ts:List Task):∀(k:Nat) (x:List Int×List Bool),x.2.length=ts.length→(BN ts k x).1.length+nF (BN ts k x).2=x.1.length+nF x.2∧(BN ts k x).2.length=ts.length
 | 0,x,hl=>⟨rfl,hl⟩
 | k+1,x,hl=>by
  rw[BN]
  have h:=BP ts k (W_ ts x) (by rw[Xb];exact hl)
  rw[Zf ts x hl] at h
  exact h
theorem R1 {ts:List Task} {x:List Int×List Bool} (h:jg (K8 ts x.2) ts.length 0=none):∀k,BN ts k x=x
 | 0=>rfl
 | k+1=>by
  have:W_ ts x=x:=by rw[W_,h]
  rw[BN,this,R1 h k]
theorem MY {j:bP}:∀(k kq:Nat) (v:List Int) (a:List Bool),a.length=j.ab.length→nF a≤k→nF a+1≤kq→ir j kq v a=(BN j.ab k (v,a)).1
 | k,0,v,a,hl,h1,h2=>by omega
 | k,kq+1,v,a,hl,h1,h2=>by
  rw[ir,show Int.toNat ((((j.ab.length:Nat):Int) - 1)+1)=j.ab.length by omega,Fs _ _ _ (jR _)]
  cases e:jg (K8 j.ab a) j.ab.length 0 with
  | none=>
   rw[R1 (x:=(v,a)) e]
   rfl
  | some q=>
   have f:=qS e
   have g:=Xc f.1
   have c:=E9 (l:=a) (n:=q) o! g.1
   match k,h1 with
   | 0,h1=>omega
   | k+1,h1=>
    have s:W_ j.ab (v,a)=(v++[(q:Int)],a.set q true):=by rw[W_,e]
    rw[BN,s]
    show (bif decide ((q:Int)<0) then v else ir j kq (v++[(q:Int)]) (a.set (Int.toNat (q:Int)) true))=_
    rw[fL (by omega:¬(q:Int)<0),ai,Int.toNat_natCast]
    exact MY k kq _ _ (by rw[List.length_set];exact hl) o! o!
theorem MZ (j:bP):eQ j.ab=iu j:=by
 rw[BO,iu,yR]
 exact (MY _ _ _ _ (by rw[List.length_replicate]) (by rw[yR];exact jR _) (by rw[yR];omega)).symm
theorem Zg (j:bP):(iu j).length≤j.ab.length:=by
 rw[←MZ,BO]
 have:=(BP j.ab j.ab.length ([],List.replicate j.ab.length false) (by rw[List.length_replicate])).1
 rw[yR] at this
 have e:(([],List.replicate j.ab.length false):List Int×List Bool).1.length=0:=rfl
 omega
def GG:Code:=(Tryz.f40.body).getD .skip
theorem R2:Tryz.f40.body=some GG:=by kernel_rfl
def UM:Code:=(bl GG).getD 0 .skip
def iF (x_:Task) (ah:Int):Nat→Nat→Option (Int)
 | 0,_=>none
 | dx+1,i0=>(bif (decide ((x_.aB.g i0).ah=ah)) then some (x_.aB.g i0).aI else iF x_ ah dx (i0+1))
theorem GH {d:Nat} {h:az} (ah:Int) (x_:Task) (bj:Nat) (bp:x_.name.length<2^60) (cC:bT h .i64 3 x_.bh x_.aD) (dq:aO h x_.bo x_.aB) (fI:aK.ok h x_):∀(k_ i_:Nat) (_:i_+k_=x_.aB.length) (x:Nat→AV) (hh:az) (aF:Tidy hh) (aA:Has h hh) (br:hh.get bj=some (aN.cells [(AV.str x_.name),(Zi x_.takes),x_.bh,x_.bo] 48 false)),aC (cA (d)) UM ⟨((x 0)::(Zi ah)::(Pt bj)::(x 3)::(x 4)::(Zn i_)::rx x 6 21 []),hh,[],.no⟩ (.exit 0) hh (fun y=>((y 0)::(Zi ah)::(Pt bj)::rx y 3 24 [])) (fun r y=>((y 0)::(Zi ah)::(Pt bj)::(y 3)::(Zi r)::rx y 5 22 [])) (iF x_ ah k_ i_)
 | 0,i0,eZ,x,hh,aF,aA,br=>by
  have gd:=(dq.has aA).len
  have q2:(decide (((i0:Nat):Int)<((x_.aB.length:Nat):Int)))=false:=d!
  exact aC.out rfl (pk (d) _ _ hh _ hh (CN 2<|MM (aP 46 3 x_.bo br k!)<|VV gd<|VV (bE 3 false false .i64 ((i0:Nat):Int) ((x_.aB.length:Nat):Int))<|BB q2<|ZZ) k!) (Grow.refl aF) k!
 | dx+1,i0,eZ,x,hh,aF,aA,br=>by
  have mw:=cC.small
  have sX:=dq.small
  have tD:=aF _ _ br
  have gd:=(dq.has aA).len
  have q2:(decide (((i0:Nat):Int)<((x_.aB.length:Nat):Int)))=true:=d!
  obtain ⟨p4,q5,oH⟩:=(dq.has aA).elem (i:=i0) o!
  have qm:=(dq.has aA).part (t:=3) (j:=0) o! oH k! rfl
  have ei:=fun {al ps} (k:Pk al _ ps)=>(CN 2<|MM (aP 46 3 x_.bo br k!)<|VV gd<|VV (bE 3 false false .i64 ((i0:Nat):Int) ((x_.aB.length:Nat):Int))<|BC q2<|MM (aP 46 3 x_.bo br k!)<|CC<|VV oH<|CC<|MM qm<|CC<|VV (Bo 3 false false .i64 (x_.aB.g i0).ah ah)<|k:Pk _ [] ps)
  rcases bu (decide ((x_.aB.g i0).ah=ah)) with f1 | f1
  · have eB:=jv f1
    obtain ⟨p9,uL,GB⟩:=(dq.has aA).elem (i:=i0) o!
    have tG:=(dq.has aA).part (t:=3) (j:=1) o! GB k! rfl
    exact aC.ret (x_.aB.g i0).aI (by simp only[iF,f1,ao,ai]) (pk (d) _ _ hh _ hh (ei<|BC f1<|MM (aP 46 3 x_.bo br k!)<|CC<|VV GB<|CC<|MM tG<|CC<|ZZ) k!) (Grow.refl aF) k!
  · have eB:=pK f1
    have u8:=eA 3 false true i0 1 o!
    exact aC.round (by simp only[iF,f1,ao,ai]) (pk (d) _ _ hh _ hh (ei<|BC f1<|VV u8<|CC<|ZZ) k!) (Grow.refl aF) _ k! (fun x=>GH ah x_ bj bp cC dq fI dx (i0+1) o! x hh aF aA br)
def gP (x_:Task) (ah:Int):Int:=(match (iF x_ ah x_.aB.length 0) with | none=>0 | some Am=>Am)
theorem acM {d:Nat} {h:az} (x_:Task) (ah:Int) (tb:aK.ok h x_) (bM:Tidy h):cA (d+1) (.fn 40) [(AV.agg [(AV.str x_.name),(Zi x_.takes),x_.bh,x_.bo]),(Zi ah)] h= .ret (Zi (gP x_ ah)) h:=by
 obtain ⟨h1,dw,de,jW,bx,ca⟩:=gQ bM (aN.cells [(AV.str x_.name),(Zi x_.takes),x_.bh,x_.bo] 48 false)
 have bD:=ca
 have JG:=GH (d:=d) (h:=h) ah x_ h.nx tb.1 tb.2.1 tb.2.2 tb x_.aB.length 0 o! (dr ((AV.agg [(AV.str x_.name),(Zi x_.takes),x_.bh,x_.bo])::(Zi ah)::(Pt h.nx)::aL::(Zi 0)::(Zi 0)::iW 21)) h1 de bD bx
 cases eu:iF x_ ah x_.aB.length 0 with
 | none=>
  obtain ⟨HN,h3,dV,iC⟩:=aC.n eu JG
  have fl:=bD.trans iC.a
  have e:gP x_ ah=0:=by simp only[gP,eu,ao,ai]
  rw[e]
  exact aG rfl (aY Tryz.func40 R2 rfl (.inr rfl) (pk (d) _ _ h _ h3 (NN dw (fun i=>(Pt i))<|CN 2<|LL dV<|CC<|ZZ) k!) k!) fl rfl
 | some Am=>
  obtain ⟨HN,h3,dV,iC⟩:=aC.r eu JG
  have fl:=bD.trans iC.a
  have e:gP x_ ah=Am:=by simp only[gP,eu,ao,ai]
  rw[e]
  exact aG rfl (aY Tryz.func40 R2 rfl (.inr rfl) (pk (d) _ _ h _ h3 (NN dw (fun i=>(Pt i))<|CN 2<|LL dV<|ZZ) k!) k!) fl rfl
end
end Go.Proofs.aM
