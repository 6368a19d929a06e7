import Derived.Test.YtaglmdbkfcpbbaaGreatW2
import Derived.Test.YtaglmdbkfcpbbaaGreatW0
namespace Go.Proofs.bt
open Go.Proofs Ab
set_option maxRecDepth 100000
set_option maxHeartbeats 4000000
set_option linter.unusedVariables false
set_option linter.unusedSimpArgs false
abbrev bare (s:fj):fj:=⟨.aI,s.gz,s.aj,s.ao,.aI,s.ahead,s.ah,s.af,s.au,s.ag,s.aq⟩
theorem GW (s:fj):∀(k i:Nat) (v:Int),c8 s k i v=c8 (bare s) k i v
 | 0,_,_=>rfl
 | k+1,i,v=>GW s k (i+1) _
theorem uk (s:fj):bG s=bG (bare s):=by
 unfold bG
 rw[GW]
 rfl
theorem zJ (s:fj):bq s=bq (bare s):=rfl
theorem BP (s:fj):cd s=cd (bare s):=rfl
theorem zK (s:fj):bF s=bF (bare s):=rfl
theorem vv (s:fj):bu s=bu (bare s):=rfl
theorem Ax (s:fj):c9 s=c9 (bare s):=by
 unfold c9
 rw[uk,zJ,BP,zK,vv]
noncomputable def og:Code:=(Tryz.f53.body).getD .skip
theorem yF:Tryz.f53.body=some og:=by kernel_rfl
def nm (x_:Int) (fu:Int):Bool:=(bif (decide (0≤x_)) then (decide (x_≤fu)) else false)
theorem Ft {d:Nat} {h:ar} (x_:Int) (fu:Int) (b4:Tidy h):eD (d+1) (.fn 53) [(AV.int .i64 x_),(AV.int .i64 fu)] h= .ret (AV.bool (nm x_ fu)) h:=by
 rcases Bool.eq_false_or_eq_true (decide (0≤x_)) with f0 | f0
 · have fH:=of_decide_eq_true f0
   have ev:=pk (d) og ((AV.int .i64 x_)::(AV.int .i64 fu)::cz 10) h .ret h (CN 2<|VV (eP 3 false true .i64 x_ 0)<|CC<|BB f0<|CC<|BB f0<|CC<|BB f0<|VV (gZ 3 false false .i64 x_ fu)<|VV (aX (a:=some (AV.bool (decide (x_≤fu)))) (b:=some (AV.bool false)) f0)<|CC<|ZZ) k!
   have e:nm x_ fu=(decide (x_≤fu)):=by simp only[nm,f0,cond_true,cond_false]
   rw[e]
   exact az rfl (bz Tryz.func53 yF k! (.inr rfl) ev k!) (Has.refl _) rfl
 · have fH:=of_decide_eq_false f0
   have ev:=pk (d) og ((AV.int .i64 x_)::(AV.int .i64 fu)::cz 10) h .ret h (CN 2<|VV (eP 3 false true .i64 x_ 0)<|CC<|BB f0<|BB f0<|BB f0<|VV (aJ (a:=some AV.undef) (b:=some (AV.bool false)) f0)<|CC<|ZZ) k!
   have e:nm x_ fu=false:=by simp only[nm,f0,cond_true,cond_false]
   rw[e]
   exact az rfl (bz Tryz.func53 yF k! (.inr rfl) ev k!) (Has.refl _) rfl
noncomputable def sq:Code:=(Tryz.f22.body).getD .skip
theorem Fu:Tryz.f22.body=some sq:=by kernel_rfl
def bW (t:Int):Bool:=(nm t 100000)
theorem aZ {d:Nat} {h:ar} (t:Int) (b4:Tidy h):eD (d+2) (.fn 22) [(AV.int .i64 t)] h= .ret (AV.bool (bW t)) h:=by
 have k1:=Ft (d:=d) t 100000 b4
 have ev:=pk (d+1) sq ((AV.int .i64 t)::cz 4) h .ret h (CN 2<|EE k1<|CC<|ZZ) k!
 have e:bW t=(nm t 100000):=by simp only[bW,cond_true,cond_false]
 rw[e]
 exact az rfl (bz Tryz.func22 Fu k! (.inr rfl) ev k!) (Has.refl _) rfl
noncomputable def gA:Code:=(Tryz.f27.body).getD .skip
theorem ke:Tryz.f27.body=some gA:=by kernel_rfl
def bY (a0:List bK) (r:bK):Int:=(bif (!(bW r.ab)) then 1 else (bif (!(bW r.ae)) then 1 else (bif (!(bW r.out)) then 1 else 0)))
theorem kf {d:Nat} {h:ar} {RG:AV} (a0:List bK) (r:bK) (V8:bD h RG a0) (YY:aD.ok h r) (b4:Tidy h):eD (d+3) (.fn 27) [RG,(AV.agg [(AV.int .i64 r.ab),(AV.int .i64 r.ae),(AV.int .i64 r.out)])] h= .ret (AV.int .i64 (bY a0 r)) h:=by
 have V9:=V8.small
 rcases Bool.eq_false_or_eq_true (!(bW r.ab)) with f0 | f0
 · obtain ⟨h1,bm,aL,cu,aE,bh⟩:=cj b4 (aH.cells [(AV.int .i64 r.ab),(AV.int .i64 r.ae),(AV.int .i64 r.out)] 67 false)
   have aG:Has h h1:=bh
   have k2:=aZ (d:=d) r.ab aL
   have ev:=pk (d+2) gA (RG::(AV.agg [(AV.int .i64 r.ab),(AV.int .i64 r.ae),(AV.int .i64 r.out)])::cz 19) h .ret h1 (NN bm (fun i=>(AV.ptr i 0))<|CN 2<|MM (aw 3 0 (AV.int .i64 r.ab) aE k!)<|EE k2<|CN 2<|BB f0<|BB f0<|BB f0<|BB f0<|VV (aX (a:=some (AV.bool true)) (b:=some AV.undef) f0)<|CC<|TT<|TT<|TT<|TT<|CC<|TT<|CC<|ZZ) k!
   have e:bY a0 r=1:=by simp only[bY,f0,cond_true,cond_false]
   rw[e]
   exact az rfl (bz Tryz.func27 ke k! (.inr rfl) ev k!) aG rfl
 · rcases Bool.eq_false_or_eq_true (!(bW r.ae)) with f1 | f1
   · obtain ⟨h1,bm,aL,cu,aE,bh⟩:=cj b4 (aH.cells [(AV.int .i64 r.ab),(AV.int .i64 r.ae),(AV.int .i64 r.out)] 67 false)
     have aG:Has h h1:=bh
     have k2:=aZ (d:=d) r.ab aL
     have k4:=aZ (d:=d) r.ae aL
     have ev:=pk (d+2) gA (RG::(AV.agg [(AV.int .i64 r.ab),(AV.int .i64 r.ae),(AV.int .i64 r.out)])::cz 19) h .ret h1 (NN bm (fun i=>(AV.ptr i 0))<|CN 2<|MM (aw 3 0 (AV.int .i64 r.ab) aE k!)<|EE k2<|CN 2<|BB f0<|CC<|BB f0<|MM (aw 3 1 (AV.int .i64 r.ae) aE k!)<|BB f0<|EE k4<|BB f0<|CC<|VV (aJ (a:=some (AV.bool true)) (b:=some (AV.bool (!(bW r.ae)))) f0)<|CC<|BB f1<|BB f1<|BB f1<|BB f1<|VV (aX (a:=some (AV.bool true)) (b:=some AV.undef) f1)<|TT<|CC<|ZZ) k!
     have e:bY a0 r=1:=by simp only[bY,f0,f1,cond_true,cond_false]
     rw[e]
     exact az rfl (bz Tryz.func27 ke k! (.inr rfl) ev k!) aG rfl
   · rcases Bool.eq_false_or_eq_true (!(bW r.out)) with f2 | f2
     · obtain ⟨h1,bm,aL,cu,aE,bh⟩:=cj b4 (aH.cells [(AV.int .i64 r.ab),(AV.int .i64 r.ae),(AV.int .i64 r.out)] 67 false)
       have aG:Has h h1:=bh
       have k2:=aZ (d:=d) r.ab aL
       have k4:=aZ (d:=d) r.ae aL
       have k6:=aZ (d:=d) r.out aL
       have ev:=pk (d+2) gA (RG::(AV.agg [(AV.int .i64 r.ab),(AV.int .i64 r.ae),(AV.int .i64 r.out)])::cz 19) h .ret h1 (NN bm (fun i=>(AV.ptr i 0))<|CN 2<|MM (aw 3 0 (AV.int .i64 r.ab) aE k!)<|EE k2<|CN 2<|BB f0<|CC<|BB f0<|MM (aw 3 1 (AV.int .i64 r.ae) aE k!)<|BB f0<|EE k4<|BB f0<|CC<|VV (aJ (a:=some (AV.bool true)) (b:=some (AV.bool (!(bW r.ae)))) f0)<|CC<|BB f1<|CC<|BB f1<|MM (aw 3 2 (AV.int .i64 r.out) aE k!)<|BB f1<|EE k6<|BB f1<|CC<|VV (aJ (a:=some (AV.bool true)) (b:=some (AV.bool (!(bW r.out)))) f1)<|BB f2<|CC<|ZZ) k!
       have e:bY a0 r=1:=by simp only[bY,f0,f1,f2,cond_true,cond_false]
       rw[e]
       exact az rfl (bz Tryz.func27 ke k! (.inr rfl) ev k!) aG rfl
     · obtain ⟨h1,bm,aL,cu,aE,bh⟩:=cj b4 (aH.cells [(AV.int .i64 r.ab),(AV.int .i64 r.ae),(AV.int .i64 r.out)] 67 false)
       have aG:Has h h1:=bh
       have k2:=aZ (d:=d) r.ab aL
       have k4:=aZ (d:=d) r.ae aL
       have k6:=aZ (d:=d) r.out aL
       have ev:=pk (d+2) gA (RG::(AV.agg [(AV.int .i64 r.ab),(AV.int .i64 r.ae),(AV.int .i64 r.out)])::cz 19) h .ret h1 (NN bm (fun i=>(AV.ptr i 0))<|CN 2<|MM (aw 3 0 (AV.int .i64 r.ab) aE k!)<|EE k2<|CN 2<|BB f0<|CC<|BB f0<|MM (aw 3 1 (AV.int .i64 r.ae) aE k!)<|BB f0<|EE k4<|BB f0<|CC<|VV (aJ (a:=some (AV.bool true)) (b:=some (AV.bool (!(bW r.ae)))) f0)<|CC<|BB f1<|CC<|BB f1<|MM (aw 3 2 (AV.int .i64 r.out) aE k!)<|BB f1<|EE k6<|BB f1<|CC<|VV (aJ (a:=some (AV.bool true)) (b:=some (AV.bool (!(bW r.out)))) f1)<|BB f2<|CC<|ZZ) k!
       have e:bY a0 r=0:=by simp only[bY,f0,f1,f2,cond_true,cond_false]
       rw[e]
       exact az rfl (bz Tryz.func27 ke k! (.inr rfl) ev k!) aG rfl
noncomputable def fN:Code:=(Tryz.f26.body).getD .skip
theorem lE:Tryz.f26.body=some fN:=by kernel_rfl
noncomputable def iB:Code:=(dD fN).getD 0 .skip
def dY (P:Nat→Int) (list:List bK):Nat→Nat→Option (Int)
 | 0,_=>none
 | eG+1,i0=>(bif (!decide ((P i0)=0)) then some (P i0) else dY P list eG (i0+1))
theorem jT {d:Nat} {h:ar} (cf:AV) (g:FuncId) (cap:List AV) (list:List bK) (P:Nat→Int) (bk:bD h cf list) (hP:∀j,j<list.length→∀aV hh,Tidy hh→Has h hh→bD hh aV (list.take j)→eD d (.fn g) (aV:: .agg (aD.c (list.g j))::cap) hh= .ret (.int .i64 (P j)) hh):∀(k_ i_:Nat) (_:i_+k_=list.length) (x:Nat→AV) (hh:ar) (bb:Tidy hh) (aR:Has h hh),aY (eD (d)) iB ⟨(cf::(x 1)::(AV.func g [] cap)::rx x 3 11 (cf::(AV.int .i64 ((list.length:Nat):Int))::(AV.int .i64 ((i_:Nat):Int))::rx x 17 14 [])),hh,[],.no⟩ (.exit 0) hh (fun y=>(cf::(y 1)::(AV.func g [] cap)::rx y 3 11 (cf::(AV.int .i64 ((list.length:Nat):Int))::rx y 16 15 []))) (fun r y=>(cf::(y 1)::(AV.func g [] cap)::rx y 3 3 ((AV.int .i64 r)::rx y 7 7 (cf::(AV.int .i64 ((list.length:Nat):Int))::rx y 16 15 [])))) (dY P list k_ i_)
 | 0,i0,qo,x,hh,bb,aR=>by
   have fK:=bk.small
   have q1:(decide (((i0:Nat):Int)<((list.length:Nat):Int)))=false:=d!
   have ev:=pk (d) iB (cf::(x 1)::(AV.func g [] cap)::rx x 3 11 (cf::(AV.int .i64 ((list.length:Nat):Int))::(AV.int .i64 ((i0:Nat):Int))::rx x 17 14 [])) hh (.exit 0) hh (VV (bT 3 false false .i64 ((i0:Nat):Int) ((list.length:Nat):Int))<|BB q1<|ZZ) k!
   exact aY.out rfl ev (cG.refl bb) k!
 | eG+1,i0,qo,x,hh,bb,aR=>by
   have fK:=bk.small
   rcases Bool.eq_false_or_eq_true (!decide ((P i0)=0)) with f1 | f1
   · have jn:=sS f1
     have q1:(decide (((i0:Nat):Int)<((list.length:Nat):Int)))=true:=d!
     obtain ⟨p3,q4,dG⟩:=(bk.has aR).elem (i:=i0) o!
     have hL:c_ env (some (.slice 67)) (some cf) (some (AV.int .i64 ((i0:Nat):Int)))=some (AV.ptr p3 q4):=dG
     have mB:bN env hh 67 (AV.ptr p3 q4)=some (AV.agg [(AV.int .i64 ((list.g i0).ab)),(AV.int .i64 ((list.g i0).ae)),(AV.int .i64 ((list.g i0).out))]):=(bk.has aR).load o! dG
     obtain ⟨h6,gO,eQ,nL,gP,bI⟩:=cj bb (aH.cells [(AV.int .i64 0),(AV.int .i64 0),(AV.int .i64 0)] 67 false)
     have ek:Has hh h6:=bI
     obtain ⟨h7,iW,eA,oO,cc,cL⟩:=dW (t:=67) (n:=3) (i:=hh.nx) (L:=[(AV.int .i64 ((list.g i0).ab)),(AV.int .i64 ((list.g i0).ae)),(AV.int .i64 ((list.g i0).out))]) eQ gP k! rfl rfl (by simp only[AV.cells,List.all_cons,List.all_nil,Bool.and_true,Bool.and_self,bP,bB,bQ,bR,bl,cm,cn,cq,cr,ct,bS])
     have di:Has hh h7:=Has.aU ek cL bb o!
     obtain ⟨r8,BQ,BR⟩:=(bk.has aR).pre (t:=22) k! (i:=i0) o!
     have NR:fR env 22 cf (none) (some (AV.int .i64 ((i0:Nat):Int))) (none)=some r8:=BQ
     have NB:=hP i0 o! r8 h7 eA (aR.trans di) (BR.has di)
     have rh:AV.same 20 (AV.agg [(AV.int .i64 ((list.g i0).ab)),(AV.int .i64 ((list.g i0).ae)),(AV.int .i64 ((list.g i0).out))]) (AV.agg [(AV.int .i64 ((list.g i0).ab)),(AV.int .i64 ((list.g i0).ae)),(AV.int .i64 ((list.g i0).out))])=true:=fq 18 (kz (fun n=>aQ n _ _) (kz (fun n=>aQ n _ _) (kz (fun n=>aQ n _ _) Dz)))
     have ev:=pk (d) iB (cf::(x 1)::(AV.func g [] cap)::rx x 3 11 (cf::(AV.int .i64 ((list.length:Nat):Int))::(AV.int .i64 ((i0:Nat):Int))::rx x 17 14 [])) hh .ret h7 (VV (bT 3 false false .i64 ((i0:Nat):Int) ((list.length:Nat):Int))<|BB q1<|CC<|VV hL<|MM mB<|NN gO (fun i=>(AV.ptr i 0))<|CC<|SS iW<|CN 3<|QQ NR<|MM (aw 67 0 (AV.agg [(AV.int .i64 ((list.g i0).ab)),(AV.int .i64 ((list.g i0).ae)),(AV.int .i64 ((list.g i0).out))]) cc k!)<|EE NB<|CC<|HH (aw 67 0 (AV.agg [(AV.int .i64 ((list.g i0).ab)),(AV.int .i64 ((list.g i0).ae)),(AV.int .i64 ((list.g i0).out))]) cc k!)<|HH rh<|CC<|VV (cS 28 false true .i64 (P i0) 0)<|BB f1<|CN 2<|ZZ) k!
     exact aY.ret (P i0) (by simp only[dY,f1,cond_true,cond_false]) ev (⟨eA,di,by omega⟩) k!
   · have jn:=sU f1
     have q1:(decide (((i0:Nat):Int)<((list.length:Nat):Int)))=true:=d!
     obtain ⟨p3,q4,dG⟩:=(bk.has aR).elem (i:=i0) o!
     have hL:c_ env (some (.slice 67)) (some cf) (some (AV.int .i64 ((i0:Nat):Int)))=some (AV.ptr p3 q4):=dG
     have mB:bN env hh 67 (AV.ptr p3 q4)=some (AV.agg [(AV.int .i64 ((list.g i0).ab)),(AV.int .i64 ((list.g i0).ae)),(AV.int .i64 ((list.g i0).out))]):=(bk.has aR).load o! dG
     obtain ⟨h6,gO,eQ,nL,gP,bI⟩:=cj bb (aH.cells [(AV.int .i64 0),(AV.int .i64 0),(AV.int .i64 0)] 67 false)
     have ek:Has hh h6:=bI
     obtain ⟨h7,iW,eA,oO,cc,cL⟩:=dW (t:=67) (n:=3) (i:=hh.nx) (L:=[(AV.int .i64 ((list.g i0).ab)),(AV.int .i64 ((list.g i0).ae)),(AV.int .i64 ((list.g i0).out))]) eQ gP k! rfl rfl (by simp only[AV.cells,List.all_cons,List.all_nil,Bool.and_true,Bool.and_self,bP,bB,bQ,bR,bl,cm,cn,cq,cr,ct,bS])
     have di:Has hh h7:=Has.aU ek cL bb o!
     obtain ⟨r8,BQ,BR⟩:=(bk.has aR).pre (t:=22) k! (i:=i0) o!
     have NR:fR env 22 cf (none) (some (AV.int .i64 ((i0:Nat):Int))) (none)=some r8:=BQ
     have NB:=hP i0 o! r8 h7 eA (aR.trans di) (BR.has di)
     have rh:AV.same 20 (AV.agg [(AV.int .i64 ((list.g i0).ab)),(AV.int .i64 ((list.g i0).ae)),(AV.int .i64 ((list.g i0).out))]) (AV.agg [(AV.int .i64 ((list.g i0).ab)),(AV.int .i64 ((list.g i0).ae)),(AV.int .i64 ((list.g i0).out))])=true:=fq 18 (kz (fun n=>aQ n _ _) (kz (fun n=>aQ n _ _) (kz (fun n=>aQ n _ _) Dz)))
     have S7:=hJ 3 false true i0 1 o!
     have ev:=pk (d) iB (cf::(x 1)::(AV.func g [] cap)::rx x 3 11 (cf::(AV.int .i64 ((list.length:Nat):Int))::(AV.int .i64 ((i0:Nat):Int))::rx x 17 14 [])) hh .normal h7 (VV (bT 3 false false .i64 ((i0:Nat):Int) ((list.length:Nat):Int))<|BB q1<|CC<|VV hL<|MM mB<|NN gO (fun i=>(AV.ptr i 0))<|CC<|SS iW<|CN 3<|QQ NR<|MM (aw 67 0 (AV.agg [(AV.int .i64 ((list.g i0).ab)),(AV.int .i64 ((list.g i0).ae)),(AV.int .i64 ((list.g i0).out))]) cc k!)<|EE NB<|CC<|HH (aw 67 0 (AV.agg [(AV.int .i64 ((list.g i0).ab)),(AV.int .i64 ((list.g i0).ae)),(AV.int .i64 ((list.g i0).out))]) cc k!)<|HH rh<|CC<|VV (cS 28 false true .i64 (P i0) 0)<|BB f1<|VV S7<|CC<|ZZ) k!
     exact aY.round (by simp only[dY,f1,cond_true,cond_false]) ev (⟨eA,di,by omega⟩) (fun x=>(cf::(x 1)::(AV.func g [] cap)::rx x 3 11 (cf::(AV.int .i64 ((list.length:Nat):Int))::(AV.int .i64 (((i0+1):Nat):Int))::rx x 17 14 []))) k! (fun x=>jT cf g cap list P bk hP eG (i0+1) o! x h7 eA (aR.trans di))
def cF (list:List bK) (fu:Int) (P:Nat→Int):Int:=(bif (decide (fu<((list.length:Nat):Int))) then 3 else (match (dY P list list.length 0) with | none=>0 | some BS=>BS))
theorem jE {d:Nat} {h:ar} {cf:AV} {g:FuncId} {cap:List AV} (list:List bK) (fu:Int) (P:Nat→Int) (jo:bD h cf list) (hP:∀j,j<list.length→∀aV hh,Tidy hh→Has h hh→bD hh aV (list.take j)→eD d (.fn g) (aV:: .agg (aD.c (list.g j))::cap) hh= .ret (.int .i64 (P j)) hh) (b4:Tidy h):eD (d+1) (.fn 26) [cf,(AV.int .i64 fu),(AV.func g [] cap)] h= .ret (AV.int .i64 (cF list fu P)) h:=by
 have KQ:=jo.small
 rcases Bool.eq_false_or_eq_true (decide (fu<((list.length:Nat):Int))) with f0 | f0
 · have fH:=of_decide_eq_true f0
   have hS:cJ (some (.slice 67)) (some cf)=some (AV.int .i64 ((list.length:Nat):Int)):=jo.len
   have ev:=pk (d) fN (cf::(AV.int .i64 fu)::(AV.func g [] cap)::cz 28) h .ret h (CN 2<|VV hS<|CC<|VV (dA 3 false false .i64 ((list.length:Nat):Int) fu)<|BB f0<|CC<|ZZ) k!
   have e:cF list fu P=3:=by simp only[cF,f0,cond_true,cond_false]
   rw[e]
   exact az rfl (bz Tryz.func26 lE k! (.inr rfl) ev k!) (Has.refl _) rfl
 · have fH:=of_decide_eq_false f0
   cases eT:dY P list list.length 0 with
   | none=>
     have hS:cJ (some (.slice 67)) (some cf)=some (AV.int .i64 ((list.length:Nat):Int)):=jo.len
     have NP:cJ (some (.slice 67)) (some cf)=some (AV.int .i64 ((list.length:Nat):Int)):=jo.len
     obtain ⟨Av,h5,eI,bJ⟩:=aY.n eT (jT (d:=d) (h:=h) cf g cap list P jo hP list.length 0 o! (fun k_=>((cf::(AV.int .i64 fu)::(AV.func g [] cap)::AV.undef::AV.undef::AV.undef::(AV.int .i64 0)::AV.undef::AV.undef::AV.undef::cf::(AV.int .i64 ((list.length:Nat):Int))::(AV.int .i64 fu)::(AV.bool (decide (fu<((list.length:Nat):Int))))::cf::(AV.int .i64 ((list.length:Nat):Int))::(AV.int .i64 0)::cz 14):List AV).getD k_ AV.undef) h b4 (Has.refl _))
     have eB:=bJ.y
     have lD:h.nx≤h5.nx:=bJ.n
     have ck:Has h h5:=bJ.a
     have ev:=pk (d) fN (cf::(AV.int .i64 fu)::(AV.func g [] cap)::cz 28) h .ret h5 (CN 2<|VV hS<|CC<|VV (dA 3 false false .i64 ((list.length:Nat):Int) fu)<|BB f0<|CC<|VV NP<|CC<|LL eI<|CC<|ZZ) k!
     have e:cF list fu P=0:=by simp only[cF,f0,eT,cond_true,cond_false]
     rw[e]
     exact az rfl (bz Tryz.func26 lE k! (.inr rfl) ev k!) ck rfl
   | some BS=>
     have hS:cJ (some (.slice 67)) (some cf)=some (AV.int .i64 ((list.length:Nat):Int)):=jo.len
     have NP:cJ (some (.slice 67)) (some cf)=some (AV.int .i64 ((list.length:Nat):Int)):=jo.len
     obtain ⟨Av,h5,eI,bJ⟩:=aY.r eT (jT (d:=d) (h:=h) cf g cap list P jo hP list.length 0 o! (fun k_=>((cf::(AV.int .i64 fu)::(AV.func g [] cap)::AV.undef::AV.undef::AV.undef::(AV.int .i64 0)::AV.undef::AV.undef::AV.undef::cf::(AV.int .i64 ((list.length:Nat):Int))::(AV.int .i64 fu)::(AV.bool (decide (fu<((list.length:Nat):Int))))::cf::(AV.int .i64 ((list.length:Nat):Int))::(AV.int .i64 0)::cz 14):List AV).getD k_ AV.undef) h b4 (Has.refl _))
     have eB:=bJ.y
     have lD:h.nx≤h5.nx:=bJ.n
     have ck:Has h h5:=bJ.a
     have ev:=pk (d) fN (cf::(AV.int .i64 fu)::(AV.func g [] cap)::cz 28) h .ret h5 (CN 2<|VV hS<|CC<|VV (dA 3 false false .i64 ((list.length:Nat):Int) fu)<|BB f0<|CC<|VV NP<|CC<|LL eI<|ZZ) k!
     have e:cF list fu P=BS:=by simp only[cF,f0,eT,cond_true,cond_false]
     rw[e]
     exact az rfl (bz Tryz.func26 lE k! (.inr rfl) ev k!) ck rfl
noncomputable def g7:Code:=(Tryz.f8.body).getD .skip
theorem kR:Tryz.f8.body=some g7:=by kernel_rfl
def bw (t:aK):Int:=(bif (!decide ((cF t.rows 64 (fun j=>bY (List.take j t.rows) (List.g t.rows j)))=0)) then (cF t.rows 64 (fun j=>bY (List.take j t.rows) (List.g t.rows j))) else (bif (!(bW t.rest)) then 1 else (bif (!(bW t.day)) then 1 else 0)))
theorem cN {d:Nat} {h:ar} (t:aK) (b8:aD.ok h t) (b4:Tidy h):eD (d+5) (.fn 8) [(AV.agg [t.ak,(AV.int .i64 t.rest),(AV.int .i64 t.day)])] h= .ret (AV.int .i64 (bw t)) h:=by
 rcases Bool.eq_false_or_eq_true (!decide ((cF t.rows 64 (fun j=>bY (List.take j t.rows) (List.g t.rows j)))=0)) with f0 | f0
 · have fH:=sS f0
   obtain ⟨h1,bm,aL,cu,aE,bh⟩:=cj b4 (aH.cells [t.ak,(AV.int .i64 t.rest),(AV.int .i64 t.day)] 24 false)
   have aG:Has h h1:=bh
   have k2:=jE (d:=d+3) t.rows 64 (fun j=>bY (List.take j t.rows) (List.g t.rows j)) (b8.has aG) (fun j hj aV hh yy aa fa=>kf (d:=d) (List.take j t.rows) (List.g t.rows j) fa (aD.mono aa ((b8.has aG).ok hj)) yy) aL
   have ev:=pk (d+4) g7 ((AV.agg [t.ak,(AV.int .i64 t.rest),(AV.int .i64 t.day)])::cz 19) h .ret h1 (NN bm (fun i=>(AV.ptr i 0))<|CN 2<|MM (aw 22 0 t.ak aE k!)<|EE k2<|CN 2<|VV (cS 28 false true .i64 (cF t.rows 64 (fun j=>bY (List.take j t.rows) (List.g t.rows j))) 0)<|BB f0<|CN 2<|ZZ) k!
   have e:bw t=(cF t.rows 64 (fun j=>bY (List.take j t.rows) (List.g t.rows j))):=by simp only[bw,f0,cond_true,cond_false]
   rw[e]
   exact az rfl (bz Tryz.func8 kR k! (.inr rfl) ev k!) aG rfl
 · have fH:=sU f0
   rcases Bool.eq_false_or_eq_true (!(bW t.rest)) with f1 | f1
   · obtain ⟨h1,bm,aL,cu,aE,bh⟩:=cj b4 (aH.cells [t.ak,(AV.int .i64 t.rest),(AV.int .i64 t.day)] 24 false)
     have aG:Has h h1:=bh
     have k2:=jE (d:=d+3) t.rows 64 (fun j=>bY (List.take j t.rows) (List.g t.rows j)) (b8.has aG) (fun j hj aV hh yy aa fa=>kf (d:=d) (List.take j t.rows) (List.g t.rows j) fa (aD.mono aa ((b8.has aG).ok hj)) yy) aL
     have k4:=aZ (d:=d+2) t.rest aL
     have ev:=pk (d+4) g7 ((AV.agg [t.ak,(AV.int .i64 t.rest),(AV.int .i64 t.day)])::cz 19) h .ret h1 (NN bm (fun i=>(AV.ptr i 0))<|CN 2<|MM (aw 22 0 t.ak aE k!)<|EE k2<|CN 2<|VV (cS 28 false true .i64 (cF t.rows 64 (fun j=>bY (List.take j t.rows) (List.g t.rows j))) 0)<|BB f0<|CC<|MM (aw 3 1 (AV.int .i64 t.rest) aE k!)<|EE k4<|CN 2<|BB f1<|BB f1<|BB f1<|BB f1<|VV (aX (a:=some (AV.bool true)) (b:=some AV.undef) f1)<|TT<|CC<|ZZ) k!
     have e:bw t=1:=by simp only[bw,f0,f1,cond_true,cond_false]
     rw[e]
     exact az rfl (bz Tryz.func8 kR k! (.inr rfl) ev k!) aG rfl
   · rcases Bool.eq_false_or_eq_true (!(bW t.day)) with f2 | f2
     · obtain ⟨h1,bm,aL,cu,aE,bh⟩:=cj b4 (aH.cells [t.ak,(AV.int .i64 t.rest),(AV.int .i64 t.day)] 24 false)
       have aG:Has h h1:=bh
       have k2:=jE (d:=d+3) t.rows 64 (fun j=>bY (List.take j t.rows) (List.g t.rows j)) (b8.has aG) (fun j hj aV hh yy aa fa=>kf (d:=d) (List.take j t.rows) (List.g t.rows j) fa (aD.mono aa ((b8.has aG).ok hj)) yy) aL
       have k4:=aZ (d:=d+2) t.rest aL
       have k6:=aZ (d:=d+2) t.day aL
       have ev:=pk (d+4) g7 ((AV.agg [t.ak,(AV.int .i64 t.rest),(AV.int .i64 t.day)])::cz 19) h .ret h1 (NN bm (fun i=>(AV.ptr i 0))<|CN 2<|MM (aw 22 0 t.ak aE k!)<|EE k2<|CN 2<|VV (cS 28 false true .i64 (cF t.rows 64 (fun j=>bY (List.take j t.rows) (List.g t.rows j))) 0)<|BB f0<|CC<|MM (aw 3 1 (AV.int .i64 t.rest) aE k!)<|EE k4<|CN 2<|BB f1<|CC<|BB f1<|MM (aw 3 2 (AV.int .i64 t.day) aE k!)<|BB f1<|EE k6<|BB f1<|CC<|VV (aJ (a:=some (AV.bool true)) (b:=some (AV.bool (!(bW t.day)))) f1)<|BB f2<|CC<|ZZ) k!
       have e:bw t=1:=by simp only[bw,f0,f1,f2,cond_true,cond_false]
       rw[e]
       exact az rfl (bz Tryz.func8 kR k! (.inr rfl) ev k!) aG rfl
     · obtain ⟨h1,bm,aL,cu,aE,bh⟩:=cj b4 (aH.cells [t.ak,(AV.int .i64 t.rest),(AV.int .i64 t.day)] 24 false)
       have aG:Has h h1:=bh
       have k2:=jE (d:=d+3) t.rows 64 (fun j=>bY (List.take j t.rows) (List.g t.rows j)) (b8.has aG) (fun j hj aV hh yy aa fa=>kf (d:=d) (List.take j t.rows) (List.g t.rows j) fa (aD.mono aa ((b8.has aG).ok hj)) yy) aL
       have k4:=aZ (d:=d+2) t.rest aL
       have k6:=aZ (d:=d+2) t.day aL
       have ev:=pk (d+4) g7 ((AV.agg [t.ak,(AV.int .i64 t.rest),(AV.int .i64 t.day)])::cz 19) h .ret h1 (NN bm (fun i=>(AV.ptr i 0))<|CN 2<|MM (aw 22 0 t.ak aE k!)<|EE k2<|CN 2<|VV (cS 28 false true .i64 (cF t.rows 64 (fun j=>bY (List.take j t.rows) (List.g t.rows j))) 0)<|BB f0<|CC<|MM (aw 3 1 (AV.int .i64 t.rest) aE k!)<|EE k4<|CN 2<|BB f1<|CC<|BB f1<|MM (aw 3 2 (AV.int .i64 t.day) aE k!)<|BB f1<|EE k6<|BB f1<|CC<|VV (aJ (a:=some (AV.bool true)) (b:=some (AV.bool (!(bW t.day)))) f1)<|BB f2<|CC<|ZZ) k!
       have e:bw t=0:=by simp only[bw,f0,f1,f2,cond_true,cond_false]
       rw[e]
       exact az rfl (bz Tryz.func8 kR k! (.inr rfl) ev k!) aG rfl
noncomputable def fv:Code:=(Tryz.f56.body).getD .skip
theorem kS:Tryz.f56.body=some fv:=by kernel_rfl
noncomputable def hX:Code:=(dD fv).getD 0 .skip
def dI (P:Nat→Int) (list:List aO):Nat→Nat→Option (Int)
 | 0,_=>none
 | eG+1,i0=>(bif (!decide ((P i0)=0)) then some (P i0) else dI P list eG (i0+1))
theorem jq {d:Nat} {h:ar} (cf:AV) (g:FuncId) (cap:List AV) (list:List aO) (P:Nat→Int) (bk:bD h cf list) (hP:∀j,j<list.length→∀aV hh,Tidy hh→Has h hh→bD hh aV (list.take j)→eD d (.fn g) (aV:: .agg (aD.c (list.g j))::cap) hh= .ret (.int .i64 (P j)) hh):∀(k_ i_:Nat) (_:i_+k_=list.length) (x:Nat→AV) (hh:ar) (bb:Tidy hh) (aR:Has h hh),aY (eD (d)) hX ⟨(cf::(x 1)::(AV.func g [] cap)::rx x 3 11 (cf::(AV.int .i64 ((list.length:Nat):Int))::(AV.int .i64 ((i_:Nat):Int))::rx x 17 14 [])),hh,[],.no⟩ (.exit 0) hh (fun y=>(cf::(y 1)::(AV.func g [] cap)::rx y 3 11 (cf::(AV.int .i64 ((list.length:Nat):Int))::rx y 16 15 []))) (fun r y=>(cf::(y 1)::(AV.func g [] cap)::rx y 3 3 ((AV.int .i64 r)::rx y 7 7 (cf::(AV.int .i64 ((list.length:Nat):Int))::rx y 16 15 [])))) (dI P list k_ i_)
 | 0,i0,qo,x,hh,bb,aR=>by
   have fK:=bk.small
   have q1:(decide (((i0:Nat):Int)<((list.length:Nat):Int)))=false:=d!
   have ev:=pk (d) hX (cf::(x 1)::(AV.func g [] cap)::rx x 3 11 (cf::(AV.int .i64 ((list.length:Nat):Int))::(AV.int .i64 ((i0:Nat):Int))::rx x 17 14 [])) hh (.exit 0) hh (VV (bT 3 false false .i64 ((i0:Nat):Int) ((list.length:Nat):Int))<|BB q1<|ZZ) k!
   exact aY.out rfl ev (cG.refl bb) k!
 | eG+1,i0,qo,x,hh,bb,aR=>by
   have fK:=bk.small
   rcases Bool.eq_false_or_eq_true (!decide ((P i0)=0)) with f1 | f1
   · have jn:=sS f1
     have q1:(decide (((i0:Nat):Int)<((list.length:Nat):Int)))=true:=d!
     obtain ⟨p3,q4,dG⟩:=(bk.has aR).elem (i:=i0) o!
     have hL:c_ env (some (.slice 37)) (some cf) (some (AV.int .i64 ((i0:Nat):Int)))=some (AV.ptr p3 q4):=dG
     have mB:bN env hh 37 (AV.ptr p3 q4)=some (AV.agg [(AV.str ((list.g i0).worker)),(AV.int .i64 ((list.g i0).ab)),(AV.int .i64 ((list.g i0).aP)),(AV.int .i64 ((list.g i0).leave)),(AV.int .i64 ((list.g i0).out))]):=(bk.has aR).load o! dG
     obtain ⟨h6,gO,eQ,nL,gP,bI⟩:=cj bb (aH.cells [(AV.str []),(AV.int .i64 0),(AV.int .i64 0),(AV.int .i64 0),(AV.int .i64 0)] 37 false)
     have ek:Has hh h6:=bI
     obtain ⟨h7,iW,eA,oO,cc,cL⟩:=dW (t:=37) (n:=5) (i:=hh.nx) (L:=[(AV.str ((list.g i0).worker)),(AV.int .i64 ((list.g i0).ab)),(AV.int .i64 ((list.g i0).aP)),(AV.int .i64 ((list.g i0).leave)),(AV.int .i64 ((list.g i0).out))]) eQ gP k! rfl rfl (by simp only[AV.cells,List.all_cons,List.all_nil,Bool.and_true,Bool.and_self,bP,bB,bQ,bR,bl,cm,cn,cq,cr,ct,bS])
     have di:Has hh h7:=Has.aU ek cL bb o!
     obtain ⟨r8,BQ,BR⟩:=(bk.has aR).pre (t:=25) k! (i:=i0) o!
     have NR:fR env 25 cf (none) (some (AV.int .i64 ((i0:Nat):Int))) (none)=some r8:=BQ
     have NB:=hP i0 o! r8 h7 eA (aR.trans di) (BR.has di)
     have rh:AV.same 20 (AV.agg [(AV.str ((list.g i0).worker)),(AV.int .i64 ((list.g i0).ab)),(AV.int .i64 ((list.g i0).aP)),(AV.int .i64 ((list.g i0).leave)),(AV.int .i64 ((list.g i0).out))]) (AV.agg [(AV.str ((list.g i0).worker)),(AV.int .i64 ((list.g i0).ab)),(AV.int .i64 ((list.g i0).aP)),(AV.int .i64 ((list.g i0).leave)),(AV.int .i64 ((list.g i0).out))])=true:=fq 18 (kz (fun n=>iI n _) (kz (fun n=>aQ n _ _) (kz (fun n=>aQ n _ _) (kz (fun n=>aQ n _ _) (kz (fun n=>aQ n _ _) Dz)))))
     have ev:=pk (d) hX (cf::(x 1)::(AV.func g [] cap)::rx x 3 11 (cf::(AV.int .i64 ((list.length:Nat):Int))::(AV.int .i64 ((i0:Nat):Int))::rx x 17 14 [])) hh .ret h7 (VV (bT 3 false false .i64 ((i0:Nat):Int) ((list.length:Nat):Int))<|BB q1<|CC<|VV hL<|MM mB<|NN gO (fun i=>(AV.ptr i 0))<|CC<|SS iW<|CN 3<|QQ NR<|MM (aw 37 0 (AV.agg [(AV.str ((list.g i0).worker)),(AV.int .i64 ((list.g i0).ab)),(AV.int .i64 ((list.g i0).aP)),(AV.int .i64 ((list.g i0).leave)),(AV.int .i64 ((list.g i0).out))]) cc k!)<|EE NB<|CC<|HH (aw 37 0 (AV.agg [(AV.str ((list.g i0).worker)),(AV.int .i64 ((list.g i0).ab)),(AV.int .i64 ((list.g i0).aP)),(AV.int .i64 ((list.g i0).leave)),(AV.int .i64 ((list.g i0).out))]) cc k!)<|HH rh<|CC<|VV (cS 28 false true .i64 (P i0) 0)<|BB f1<|CN 2<|ZZ) k!
     exact aY.ret (P i0) (by simp only[dI,f1,cond_true,cond_false]) ev (⟨eA,di,by omega⟩) k!
   · have jn:=sU f1
     have q1:(decide (((i0:Nat):Int)<((list.length:Nat):Int)))=true:=d!
     obtain ⟨p3,q4,dG⟩:=(bk.has aR).elem (i:=i0) o!
     have hL:c_ env (some (.slice 37)) (some cf) (some (AV.int .i64 ((i0:Nat):Int)))=some (AV.ptr p3 q4):=dG
     have mB:bN env hh 37 (AV.ptr p3 q4)=some (AV.agg [(AV.str ((list.g i0).worker)),(AV.int .i64 ((list.g i0).ab)),(AV.int .i64 ((list.g i0).aP)),(AV.int .i64 ((list.g i0).leave)),(AV.int .i64 ((list.g i0).out))]):=(bk.has aR).load o! dG
     obtain ⟨h6,gO,eQ,nL,gP,bI⟩:=cj bb (aH.cells [(AV.str []),(AV.int .i64 0),(AV.int .i64 0),(AV.int .i64 0),(AV.int .i64 0)] 37 false)
     have ek:Has hh h6:=bI
     obtain ⟨h7,iW,eA,oO,cc,cL⟩:=dW (t:=37) (n:=5) (i:=hh.nx) (L:=[(AV.str ((list.g i0).worker)),(AV.int .i64 ((list.g i0).ab)),(AV.int .i64 ((list.g i0).aP)),(AV.int .i64 ((list.g i0).leave)),(AV.int .i64 ((list.g i0).out))]) eQ gP k! rfl rfl (by simp only[AV.cells,List.all_cons,List.all_nil,Bool.and_true,Bool.and_self,bP,bB,bQ,bR,bl,cm,cn,cq,cr,ct,bS])
     have di:Has hh h7:=Has.aU ek cL bb o!
     obtain ⟨r8,BQ,BR⟩:=(bk.has aR).pre (t:=25) k! (i:=i0) o!
     have NR:fR env 25 cf (none) (some (AV.int .i64 ((i0:Nat):Int))) (none)=some r8:=BQ
     have NB:=hP i0 o! r8 h7 eA (aR.trans di) (BR.has di)
     have rh:AV.same 20 (AV.agg [(AV.str ((list.g i0).worker)),(AV.int .i64 ((list.g i0).ab)),(AV.int .i64 ((list.g i0).aP)),(AV.int .i64 ((list.g i0).leave)),(AV.int .i64 ((list.g i0).out))]) (AV.agg [(AV.str ((list.g i0).worker)),(AV.int .i64 ((list.g i0).ab)),(AV.int .i64 ((list.g i0).aP)),(AV.int .i64 ((list.g i0).leave)),(AV.int .i64 ((list.g i0).out))])=true:=fq 18 (kz (fun n=>iI n _) (kz (fun n=>aQ n _ _) (kz (fun n=>aQ n _ _) (kz (fun n=>aQ n _ _) (kz (fun n=>aQ n _ _) Dz)))))
     have S7:=hJ 3 false true i0 1 o!
     have ev:=pk (d) hX (cf::(x 1)::(AV.func g [] cap)::rx x 3 11 (cf::(AV.int .i64 ((list.length:Nat):Int))::(AV.int .i64 ((i0:Nat):Int))::rx x 17 14 [])) hh .normal h7 (VV (bT 3 false false .i64 ((i0:Nat):Int) ((list.length:Nat):Int))<|BB q1<|CC<|VV hL<|MM mB<|NN gO (fun i=>(AV.ptr i 0))<|CC<|SS iW<|CN 3<|QQ NR<|MM (aw 37 0 (AV.agg [(AV.str ((list.g i0).worker)),(AV.int .i64 ((list.g i0).ab)),(AV.int .i64 ((list.g i0).aP)),(AV.int .i64 ((list.g i0).leave)),(AV.int .i64 ((list.g i0).out))]) cc k!)<|EE NB<|CC<|HH (aw 37 0 (AV.agg [(AV.str ((list.g i0).worker)),(AV.int .i64 ((list.g i0).ab)),(AV.int .i64 ((list.g i0).aP)),(AV.int .i64 ((list.g i0).leave)),(AV.int .i64 ((list.g i0).out))]) cc k!)<|HH rh<|CC<|VV (cS 28 false true .i64 (P i0) 0)<|BB f1<|VV S7<|CC<|ZZ) k!
     exact aY.round (by simp only[dI,f1,cond_true,cond_false]) ev (⟨eA,di,by omega⟩) (fun x=>(cf::(x 1)::(AV.func g [] cap)::rx x 3 11 (cf::(AV.int .i64 ((list.length:Nat):Int))::(AV.int .i64 (((i0+1):Nat):Int))::rx x 17 14 []))) k! (fun x=>jq cf g cap list P bk hP eG (i0+1) o! x h7 eA (aR.trans di))
def cV (list:List aO) (fu:Int) (P:Nat→Int):Int:=(bif (decide (fu<((list.length:Nat):Int))) then 3 else (match (dI P list list.length 0) with | none=>0 | some BS=>BS))
theorem um {d:Nat} {h:ar} {cf:AV} {g:FuncId} {cap:List AV} (list:List aO) (fu:Int) (P:Nat→Int) (jo:bD h cf list) (hP:∀j,j<list.length→∀aV hh,Tidy hh→Has h hh→bD hh aV (list.take j)→eD d (.fn g) (aV:: .agg (aD.c (list.g j))::cap) hh= .ret (.int .i64 (P j)) hh) (b4:Tidy h):eD (d+1) (.fn 56) [cf,(AV.int .i64 fu),(AV.func g [] cap)] h= .ret (AV.int .i64 (cV list fu P)) h:=by
 have KQ:=jo.small
 rcases Bool.eq_false_or_eq_true (decide (fu<((list.length:Nat):Int))) with f0 | f0
 · have fH:=of_decide_eq_true f0
   have hS:cJ (some (.slice 37)) (some cf)=some (AV.int .i64 ((list.length:Nat):Int)):=jo.len
   have ev:=pk (d) fv (cf::(AV.int .i64 fu)::(AV.func g [] cap)::cz 28) h .ret h (CN 2<|VV hS<|CC<|VV (dA 3 false false .i64 ((list.length:Nat):Int) fu)<|BB f0<|CC<|ZZ) k!
   have e:cV list fu P=3:=by simp only[cV,f0,cond_true,cond_false]
   rw[e]
   exact az rfl (bz Tryz.func56 kS k! (.inr rfl) ev k!) (Has.refl _) rfl
 · have fH:=of_decide_eq_false f0
   cases eT:dI P list list.length 0 with
   | none=>
     have hS:cJ (some (.slice 37)) (some cf)=some (AV.int .i64 ((list.length:Nat):Int)):=jo.len
     have NP:cJ (some (.slice 37)) (some cf)=some (AV.int .i64 ((list.length:Nat):Int)):=jo.len
     obtain ⟨Av,h5,eI,bJ⟩:=aY.n eT (jq (d:=d) (h:=h) cf g cap list P jo hP list.length 0 o! (fun k_=>((cf::(AV.int .i64 fu)::(AV.func g [] cap)::AV.undef::AV.undef::AV.undef::(AV.int .i64 0)::AV.undef::AV.undef::AV.undef::cf::(AV.int .i64 ((list.length:Nat):Int))::(AV.int .i64 fu)::(AV.bool (decide (fu<((list.length:Nat):Int))))::cf::(AV.int .i64 ((list.length:Nat):Int))::(AV.int .i64 0)::cz 14):List AV).getD k_ AV.undef) h b4 (Has.refl _))
     have eB:=bJ.y
     have lD:h.nx≤h5.nx:=bJ.n
     have ck:Has h h5:=bJ.a
     have ev:=pk (d) fv (cf::(AV.int .i64 fu)::(AV.func g [] cap)::cz 28) h .ret h5 (CN 2<|VV hS<|CC<|VV (dA 3 false false .i64 ((list.length:Nat):Int) fu)<|BB f0<|CC<|VV NP<|CC<|LL eI<|CC<|ZZ) k!
     have e:cV list fu P=0:=by simp only[cV,f0,eT,cond_true,cond_false]
     rw[e]
     exact az rfl (bz Tryz.func56 kS k! (.inr rfl) ev k!) ck rfl
   | some BS=>
     have hS:cJ (some (.slice 37)) (some cf)=some (AV.int .i64 ((list.length:Nat):Int)):=jo.len
     have NP:cJ (some (.slice 37)) (some cf)=some (AV.int .i64 ((list.length:Nat):Int)):=jo.len
     obtain ⟨Av,h5,eI,bJ⟩:=aY.r eT (jq (d:=d) (h:=h) cf g cap list P jo hP list.length 0 o! (fun k_=>((cf::(AV.int .i64 fu)::(AV.func g [] cap)::AV.undef::AV.undef::AV.undef::(AV.int .i64 0)::AV.undef::AV.undef::AV.undef::cf::(AV.int .i64 ((list.length:Nat):Int))::(AV.int .i64 fu)::(AV.bool (decide (fu<((list.length:Nat):Int))))::cf::(AV.int .i64 ((list.length:Nat):Int))::(AV.int .i64 0)::cz 14):List AV).getD k_ AV.undef) h b4 (Has.refl _))
     have eB:=bJ.y
     have lD:h.nx≤h5.nx:=bJ.n
     have ck:Has h h5:=bJ.a
     have ev:=pk (d) fv (cf::(AV.int .i64 fu)::(AV.func g [] cap)::cz 28) h .ret h5 (CN 2<|VV hS<|CC<|VV (dA 3 false false .i64 ((list.length:Nat):Int) fu)<|BB f0<|CC<|VV NP<|CC<|LL eI<|ZZ) k!
     have e:cV list fu P=BS:=by simp only[cV,f0,eT,cond_true,cond_false]
     rw[e]
     exact az rfl (bz Tryz.func56 kS k! (.inr rfl) ev k!) ck rfl
end Go.Proofs.bt
