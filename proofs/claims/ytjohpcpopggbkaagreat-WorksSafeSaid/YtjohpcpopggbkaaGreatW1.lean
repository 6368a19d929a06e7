import Derived.Test.YtjohpcpopggbkaaGreatW0
namespace Go.Proofs.aW
open Go.Proofs Ab
set_option maxRecDepth 100000
set_option maxHeartbeats 4000000
set_option linter.unusedVariables false
set_option linter.unusedSimpArgs false
noncomputable def me:Code:=(Tryz.f51.body).getD .skip
theorem uw:Tryz.f51.body=some me:=by kernel_rfl
def bM (r:bn) (ab:Int) (ae:Int):Bool:=(bif (decide (ab≤r.ab)) then (decide (ae≤r.ae)) else false)
theorem B6 {d:Nat} {h:aq} (r:bn) (ab:Int) (dB:Nat) (ae:Int) (ew:Nat) (Y4:aG.ok h r) (j7:h.get dB=some (aP.cells [(AV.int .i64 ab)] 3 false)) (lL:h.get ew=some (aP.cells [(AV.int .i64 ae)] 3 false)) (di:Tidy h):dH (d+1) (.fn 51) [(AV.agg [(AV.int .i64 r.ab),(AV.int .i64 r.ae),(AV.int .i64 r.out)]),(AV.ptr dB 0),(AV.ptr ew 0)] h= .ret (AV.bool (bM r ab ae)) h:=by
 obtain ⟨h1,bJ,cK,lD,aO,dI⟩:=jA di (aP.cells [(AV.int .i64 r.ab),(AV.int .i64 r.ae),(AV.int .i64 r.out)] 29 false)
 have bR:Has h h1:=dI
 rcases Bool.eq_false_or_eq_true (decide (ab≤r.ab)) with f0 | f0
 · have dY:=of_decide_eq_true f0
   have ev:=pk (d) me ((AV.agg [(AV.int .i64 r.ab),(AV.int .i64 r.ae),(AV.int .i64 r.out)])::(AV.ptr dB 0)::(AV.ptr ew 0)::cx 12) h .ret h1 (NN bJ (fun i=>(AV.ptr i 0))<|CN 2<|MM (au 3 0 (AV.int .i64 r.ab) aO k!)<|MM (au 3 0 (AV.int .i64 ab) (dI _ _ j7) k!)<|VV (dx 3 false false .i64 r.ab ab)<|CC<|BB f0<|CC<|BB f0<|MM (au 3 1 (AV.int .i64 r.ae) aO k!)<|BB f0<|MM (au 3 0 (AV.int .i64 ae) (dI _ _ lL) k!)<|BB f0<|VV (dx 3 false false .i64 r.ae ae)<|VV (aM (a:=some (AV.bool (decide (ae≤r.ae)))) (b:=some (AV.bool false)) f0)<|CC<|ZZ) k!
   have e:bM r ab ae=(decide (ae≤r.ae)):=by simp only[bM,f0,cond_true,cond_false]
   rw[e]
   exact ay rfl (bb Tryz.func51 uw k! (.inr rfl) ev k!) bR rfl
 · have dY:=of_decide_eq_false f0
   have ev:=pk (d) me ((AV.agg [(AV.int .i64 r.ab),(AV.int .i64 r.ae),(AV.int .i64 r.out)])::(AV.ptr dB 0)::(AV.ptr ew 0)::cx 12) h .ret h1 (NN bJ (fun i=>(AV.ptr i 0))<|CN 2<|MM (au 3 0 (AV.int .i64 r.ab) aO k!)<|MM (au 3 0 (AV.int .i64 ab) (dI _ _ j7) k!)<|VV (dx 3 false false .i64 r.ab ab)<|CC<|BB f0<|BB f0<|BB f0<|BB f0<|VV (aL (a:=some AV.undef) (b:=some (AV.bool false)) f0)<|CC<|ZZ) k!
   have e:bM r ab ae=false:=by simp only[bM,f0,cond_true,cond_false]
   rw[e]
   exact ay rfl (bb Tryz.func51 uw k! (.inr rfl) ev k!) bR rfl
noncomputable def mQ:Code:=(Tryz.f19.body).getD .skip
theorem wB:Tryz.f19.body=some mQ:=by kernel_rfl
def aA (t:aH) (ab:Int) (ae:Int):bn×Bool:=(bif (decide ((bW t.rows (fun y=>bM y ab ae))<0)) then ((⟨0,0,0⟩:bn),false) else ((t.rows.g (Int.toNat (bW t.rows (fun y=>bM y ab ae)))),true))
theorem re {d:Nat} {h:aq} (t:aH) (ab:Int) (ae:Int) (g6:aG.ok h t) (di:Tidy h):dH (d+3) (.fn 19) [(AV.agg [t.ar,(AV.int .i64 t.rest),(AV.int .i64 t.day)]),(AV.int .i64 ab),(AV.int .i64 ae)] h= .ret (AV.tuple [(AV.agg [(AV.int .i64 (((aA t ab ae).1).ab)),(AV.int .i64 (((aA t ab ae).1).ae)),(AV.int .i64 (((aA t ab ae).1).out))]),(AV.bool ((aA t ab ae).2))]) h:=by
 obtain ⟨h1,bJ,cK,lD,aO,dI⟩:=jA di (aP.cells [t.ar,(AV.int .i64 t.rest),(AV.int .i64 t.day)] 24 false)
 have bR:Has h h1:=dI
 obtain ⟨h2,nt,rf,I6,ic,fW⟩:=jA cK (aP.cells [(AV.int .i64 ab)] 3 false)
 have lE:Has h h2:=bR.trans fW
 obtain ⟨h3,tH,ql,Pa,mR,gn⟩:=jA rf (aP.cells [(AV.int .i64 ae)] 3 false)
 have kY:Has h h3:=lE.trans gn
 obtain ⟨h4,wC,qm,I7,kZ,eh⟩:=jA ql (aP.cells [(AV.int .i64 0),(AV.int .i64 0),(AV.int .i64 0)] 29 false)
 have lf:Has h h4:=kY.trans eh
 have k5:=Al (d:=d+1) t.rows (fun y=>bM y ab ae) (g6.has lf) (fun y hy hh yy aa=>B6 (d:=d) y ab h1.nx ae h2.nx (aG.mono aa ((g6.has lf).Qj y hy)) (aa _ _ (eh _ _ (gn _ _ ic))) (aa _ _ (eh _ _ mR)) yy) qm
 rcases Bool.eq_false_or_eq_true (decide ((bW t.rows (fun y=>bM y ab ae))<0)) with f0 | f0
 · have dY:=of_decide_eq_true f0
   obtain ⟨h7,lF,jm,F1,b6,dR⟩:=lC (t:=29) (n:=3) (i:=h3.nx) (L:=[(AV.int .i64 0),(AV.int .i64 0),(AV.int .i64 0)]) qm kZ k! rfl rfl (by simp only[AV.cells,List.all_cons,List.all_nil,Bool.and_true,Bool.and_self,dL,cO,dM,dN,cu,fQ,fR,fS,fT,fU,dO])
   have fh:Has h h7:=Has.ca lf dR di o!
   have ev:=pk (d+2) mQ ((AV.agg [t.ar,(AV.int .i64 t.rest),(AV.int .i64 t.day)])::(AV.int .i64 ab)::(AV.int .i64 ae)::cx 18) h .ret h7 (NN bJ (fun i=>(AV.ptr i 0))<|NN nt (fun i=>(AV.ptr i 0))<|NN tH (fun i=>(AV.ptr i 0))<|NN wC (fun i=>(AV.ptr i 0))<|CN 2<|MM (au 22 0 t.ar (eh _ _ (gn _ _ (fW _ _ aO))) k!)<|CC<|EE k5<|CN 2<|VV (bz 3 false true .i64 (bW t.rows (fun y=>bM y ab ae)) 0)<|BB f0<|CC<|SS lF<|CC<|ZZ) k!
   have e:aA t ab ae=((⟨0,0,0⟩:bn),false):=by simp only[aA,f0,cond_true,cond_false]
   rw[e]
   exact ay rfl (fv (a:=6) (r:=7) (t:=29) (i:=h3.nx) Tryz.func19 wB k! (.inr rfl) ev k! (hG b6 k!)) fh rfl
 · have dY:=of_decide_eq_false f0
   have T3:=xQ t.rows (fun y=>bM y ab ae)
   obtain ⟨p8,q9,RZ⟩:=g6.elem (i:=(Int.toNat (bW t.rows (fun y=>bM y ab ae)))) o!
   have EG:ep env (some (.slice 29)) (some t.ar) (some (AV.int .i64 (bW t.rows (fun y=>bM y ab ae))))=some (AV.ptr p8 q9):=by rw[show ((bW t.rows (fun y=>bM y ab ae)):Int)=(((Int.toNat (bW t.rows (fun y=>bM y ab ae))):Nat):Int) by omega];exact RZ
   have Vw:b9 env h4 29 (AV.ptr p8 q9)=some (AV.agg [(AV.int .i64 ((t.rows.g (Int.toNat (bW t.rows (fun y=>bM y ab ae)))).ab)),(AV.int .i64 ((t.rows.g (Int.toNat (bW t.rows (fun y=>bM y ab ae)))).ae)),(AV.int .i64 ((t.rows.g (Int.toNat (bW t.rows (fun y=>bM y ab ae)))).out))]):=(g6.has lf).load o! RZ
   obtain ⟨Qm,wD,EH,R0,yO,cE⟩:=lC (t:=29) (n:=3) (i:=h3.nx) (L:=[(AV.int .i64 ((t.rows.g (Int.toNat (bW t.rows (fun y=>bM y ab ae)))).ab)),(AV.int .i64 ((t.rows.g (Int.toNat (bW t.rows (fun y=>bM y ab ae)))).ae)),(AV.int .i64 ((t.rows.g (Int.toNat (bW t.rows (fun y=>bM y ab ae)))).out))]) qm kZ k! rfl rfl (by simp only[AV.cells,List.all_cons,List.all_nil,Bool.and_true,Bool.and_self,dL,cO,dM,dN,cu,fQ,fR,fS,fT,fU,dO])
   have wE:Has h Qm:=Has.ca lf cE di o!
   have ev:=pk (d+2) mQ ((AV.agg [t.ar,(AV.int .i64 t.rest),(AV.int .i64 t.day)])::(AV.int .i64 ab)::(AV.int .i64 ae)::cx 18) h .ret Qm (NN bJ (fun i=>(AV.ptr i 0))<|NN nt (fun i=>(AV.ptr i 0))<|NN tH (fun i=>(AV.ptr i 0))<|NN wC (fun i=>(AV.ptr i 0))<|CN 2<|MM (au 22 0 t.ar (eh _ _ (gn _ _ (fW _ _ aO))) k!)<|CC<|EE k5<|CN 2<|VV (bz 3 false true .i64 (bW t.rows (fun y=>bM y ab ae)) 0)<|BB f0<|CC<|MM (au 22 0 t.ar (eh _ _ (gn _ _ (fW _ _ aO))) k!)<|CC<|VV EG<|MM Vw<|SS wD<|CC<|ZZ) k!
   have e:aA t ab ae=((t.rows.g (Int.toNat (bW t.rows (fun y=>bM y ab ae)))),true):=by simp only[aA,f0,cond_true,cond_false]
   rw[e]
   exact ay rfl (fv (a:=6) (r:=7) (t:=29) (i:=h3.nx) Tryz.func19 wB k! (.inr rfl) ev k! (hG yO k!)) wE rfl
noncomputable def wF:Code:=(Tryz.f100.body).getD .skip
theorem LX:Tryz.f100.body=some wF:=by kernel_rfl
def jX (s:dV):bn×Bool:=(((aA (⟨s.ak,s.eP,s.ao,s.ax⟩:aH) s.ah (IntKind.i64.wrap (s.ai - s.aB))).1),((aA (⟨s.ak,s.eP,s.ao,s.ax⟩:aH) s.ah (IntKind.i64.wrap (s.ai - s.aB))).2))
theorem EI {d:Nat} {h:aq} (s:dV) (jl:aG.ok h s) (di:Tidy h):dH (d+4) (.fn 100) [(AV.agg [s.ak,(AV.int .i64 s.ao),(AV.int .i64 s.ax),s.aE,(AV.str s.aj),(AV.int .i64 s.ah),(AV.int .i64 s.aB),(AV.int .i64 s.ai),(AV.int .i64 s.az)])] h= .ret (AV.tuple [(AV.agg [(AV.int .i64 (((jX s).1).ab)),(AV.int .i64 (((jX s).1).ae)),(AV.int .i64 (((jX s).1).out))]),(AV.bool ((jX s).2))]) h:=by
 have oa:=jl.1.small
 have j8:=jl.2.1.small
 obtain ⟨h1,bJ,cK,lD,aO,dI⟩:=jA di (aP.cells [s.ak,(AV.int .i64 s.ao),(AV.int .i64 s.ax),s.aE,(AV.str s.aj),(AV.int .i64 s.ah),(AV.int .i64 s.aB),(AV.int .i64 s.ai),(AV.int .i64 s.az)] 82 false)
 have bR:Has h h1:=dI
 obtain ⟨h2,nt,rf,I6,ic,fW⟩:=jA cK (aP.cells [(AV.int .i64 0),(AV.int .i64 0),(AV.int .i64 0)] 29 false)
 have lE:Has h h2:=bR.trans fW
 have k3:=re (d:=d) (⟨s.ak,s.eP,s.ao,s.ax⟩:aH) s.ah (IntKind.i64.wrap (s.ai - s.aB)) (jl.1.has lE) rf
 obtain ⟨h4,I8,qm,I7,kZ,wG⟩:=lC (t:=29) (n:=3) (i:=h1.nx) (L:=[(AV.int .i64 (((aA (⟨s.ak,s.eP,s.ao,s.ax⟩:aH) s.ah (IntKind.i64.wrap (s.ai - s.aB))).1).ab)),(AV.int .i64 (((aA (⟨s.ak,s.eP,s.ao,s.ax⟩:aH) s.ah (IntKind.i64.wrap (s.ai - s.aB))).1).ae)),(AV.int .i64 (((aA (⟨s.ak,s.eP,s.ao,s.ax⟩:aH) s.ah (IntKind.i64.wrap (s.ai - s.aB))).1).out))]) rf ic k! rfl rfl (by simp only[AV.cells,List.all_cons,List.all_nil,Bool.and_true,Bool.and_self,dL,cO,dM,dN,cu,fQ,fR,fS,fT,fU,dO])
 have lf:Has h h4:=Has.ca lE wG di o!
 have ev:=pk (d+3) wF ((AV.agg [s.ak,(AV.int .i64 s.ao),(AV.int .i64 s.ax),s.aE,(AV.str s.aj),(AV.int .i64 s.ah),(AV.int .i64 s.aB),(AV.int .i64 s.ai),(AV.int .i64 s.az)])::cx 18) h .ret h4 (NN bJ (fun i=>(AV.ptr i 0))<|NN nt (fun i=>(AV.ptr i 0))<|CN 2<|MM (au 24 0 (AV.agg [s.ak,(AV.int .i64 s.ao),(AV.int .i64 s.ax)]) (fW _ _ aO) k!)<|CN 2<|MM (au 3 5 (AV.int .i64 s.ah) (fW _ _ aO) k!)<|CN 2<|MM (au 3 7 (AV.int .i64 s.ai) (fW _ _ aO) k!)<|CN 2<|MM (au 3 6 (AV.int .i64 s.aB) (fW _ _ aO) k!)<|CC<|EE k3<|CN 2<|SS I8<|CC<|ZZ) k!
 have e:jX s=(((aA (⟨s.ak,s.eP,s.ao,s.ax⟩:aH) s.ah (IntKind.i64.wrap (s.ai - s.aB))).1),((aA (⟨s.ak,s.eP,s.ao,s.ax⟩:aH) s.ah (IntKind.i64.wrap (s.ai - s.aB))).2)):=by simp only[jX,cond_true,cond_false]
 rw[e]
 exact ay rfl (fv (a:=2) (r:=3) (t:=29) (i:=h1.nx) Tryz.func100 LX k! (.inr rfl) ev k! (hG kZ k!)) lf rfl
noncomputable def nu:Code:=(Tryz.f56.body).getD .skip
theorem xR:Tryz.f56.body=some nu:=by kernel_rfl
def bO (s:dV):Bool:=((jX s).2)
theorem xS {d:Nat} {h:aq} (s:dV) (jl:aG.ok h s) (di:Tidy h):dH (d+5) (.fn 56) [(AV.agg [s.ak,(AV.int .i64 s.ao),(AV.int .i64 s.ax),s.aE,(AV.str s.aj),(AV.int .i64 s.ah),(AV.int .i64 s.aB),(AV.int .i64 s.ai),(AV.int .i64 s.az)])] h= .ret (AV.bool (bO s)) h:=by
 have oa:=jl.1.small
 have j8:=jl.2.1.small
 obtain ⟨h1,bJ,cK,lD,aO,dI⟩:=jA di (aP.cells [s.ak,(AV.int .i64 s.ao),(AV.int .i64 s.ax),s.aE,(AV.str s.aj),(AV.int .i64 s.ah),(AV.int .i64 s.aB),(AV.int .i64 s.ai),(AV.int .i64 s.az)] 82 false)
 have bR:Has h h1:=dI
 have k2:=EI (d:=d) s (aG.mono bR jl) cK
 obtain ⟨h3,tH,ql,Pa,mR,gn⟩:=jA cK (aP.cells [(AV.int .i64 0),(AV.int .i64 0),(AV.int .i64 0)] 29 false)
 have kY:Has h h3:=bR.trans gn
 obtain ⟨h4,I8,qm,I7,kZ,wG⟩:=lC (t:=29) (n:=3) (i:=h1.nx) (L:=[(AV.int .i64 (((jX s).1).ab)),(AV.int .i64 (((jX s).1).ae)),(AV.int .i64 (((jX s).1).out))]) ql mR k! rfl rfl (by simp only[AV.cells,List.all_cons,List.all_nil,Bool.and_true,Bool.and_self,dL,cO,dM,dN,cu,fQ,fR,fS,fT,fU,dO])
 have lf:Has h h4:=Has.ca kY wG di o!
 have ev:=pk (d+4) nu ((AV.agg [s.ak,(AV.int .i64 s.ao),(AV.int .i64 s.ax),s.aE,(AV.str s.aj),(AV.int .i64 s.ah),(AV.int .i64 s.aB),(AV.int .i64 s.ai),(AV.int .i64 s.az)])::cx 10) h .ret h4 (NN bJ (fun i=>(AV.ptr i 0))<|CC<|MM (au 82 0 (AV.agg [s.ak,(AV.int .i64 s.ao),(AV.int .i64 s.ax),s.aE,(AV.str s.aj),(AV.int .i64 s.ah),(AV.int .i64 s.aB),(AV.int .i64 s.ai),(AV.int .i64 s.az)]) aO k!)<|EE k2<|CN 3<|NN tH (fun i=>(AV.ptr i 0))<|SS I8<|CN 3<|ZZ) k!
 have e:bO s=((jX s).2):=by simp only[bO,cond_true,cond_false]
 rw[e]
 exact ay rfl (bb Tryz.func56 xR k! (.inr rfl) ev k!) lf rfl
noncomputable def j9:Code:=(Tryz.f55.body).getD .skip
theorem qA:Tryz.f55.body=some j9:=by kernel_rfl
def bI (s:dV):Bool:=(bif (decide (s.aB<s.ai)) then (decide (s.ai≤s.az)) else false)
theorem xU {d:Nat} {h:aq} (s:dV) (jl:aG.ok h s) (di:Tidy h):dH (d+1) (.fn 55) [(AV.agg [s.ak,(AV.int .i64 s.ao),(AV.int .i64 s.ax),s.aE,(AV.str s.aj),(AV.int .i64 s.ah),(AV.int .i64 s.aB),(AV.int .i64 s.ai),(AV.int .i64 s.az)])] h= .ret (AV.bool (bI s)) h:=by
 have oa:=jl.1.small
 have j8:=jl.2.1.small
 obtain ⟨h1,bJ,cK,lD,aO,dI⟩:=jA di (aP.cells [s.ak,(AV.int .i64 s.ao),(AV.int .i64 s.ax),s.aE,(AV.str s.aj),(AV.int .i64 s.ah),(AV.int .i64 s.aB),(AV.int .i64 s.ai),(AV.int .i64 s.az)] 82 false)
 have bR:Has h h1:=dI
 rcases Bool.eq_false_or_eq_true (decide (s.aB<s.ai)) with f0 | f0
 · have dY:=of_decide_eq_true f0
   have ev:=pk (d) j9 ((AV.agg [s.ak,(AV.int .i64 s.ao),(AV.int .i64 s.ax),s.aE,(AV.str s.aj),(AV.int .i64 s.ah),(AV.int .i64 s.aB),(AV.int .i64 s.ai),(AV.int .i64 s.az)])::cx 18) h .ret h1 (NN bJ (fun i=>(AV.ptr i 0))<|CN 3<|MM (au 3 6 (AV.int .i64 s.aB) aO k!)<|CN 2<|MM (au 3 7 (AV.int .i64 s.ai) aO k!)<|VV (bz 3 false false .i64 s.aB s.ai)<|CC<|BB f0<|CC<|BB f0<|CC<|BB f0<|MM (au 3 7 (AV.int .i64 s.ai) aO k!)<|BB f0<|CC<|BB f0<|CC<|BB f0<|MM (au 3 8 (AV.int .i64 s.az) aO k!)<|BB f0<|VV (fu 3 false false .i64 s.ai s.az)<|VV (aM (a:=some (AV.bool (decide (s.ai≤s.az)))) (b:=some (AV.bool false)) f0)<|CC<|ZZ) k!
   have e:bI s=(decide (s.ai≤s.az)):=by simp only[bI,f0,cond_true,cond_false]
   rw[e]
   exact ay rfl (bb Tryz.func55 qA k! (.inr rfl) ev k!) bR rfl
 · have dY:=of_decide_eq_false f0
   have ev:=pk (d) j9 ((AV.agg [s.ak,(AV.int .i64 s.ao),(AV.int .i64 s.ax),s.aE,(AV.str s.aj),(AV.int .i64 s.ah),(AV.int .i64 s.aB),(AV.int .i64 s.ai),(AV.int .i64 s.az)])::cx 18) h .ret h1 (NN bJ (fun i=>(AV.ptr i 0))<|CN 3<|MM (au 3 6 (AV.int .i64 s.aB) aO k!)<|CN 2<|MM (au 3 7 (AV.int .i64 s.ai) aO k!)<|VV (bz 3 false false .i64 s.aB s.ai)<|CC<|BB f0<|BB f0<|BB f0<|BB f0<|BB f0<|BB f0<|BB f0<|VV (aL (a:=some AV.undef) (b:=some (AV.bool false)) f0)<|CC<|ZZ) k!
   have e:bI s=false:=by simp only[bI,f0,cond_true,cond_false]
   rw[e]
   exact ay rfl (bb Tryz.func55 qA k! (.inr rfl) ev k!) bR rfl
noncomputable def lg:Code:=(Tryz.f58.body).getD .skip
theorem so:Tryz.f58.body=some lg:=by kernel_rfl
def bP (s:dV):Bool:=(bif (decide (((s.ahead.length:Nat):Int)=0)) then true else (decide (s.ao≤(IntKind.i64.wrap (s.aB -((s.ahead.g (s.ahead.length - 1)).out))))))
theorem Am {d:Nat} {h:aq} (s:dV) (jl:aG.ok h s) (di:Tidy h):dH (d+1) (.fn 58) [(AV.agg [s.ak,(AV.int .i64 s.ao),(AV.int .i64 s.ax),s.aE,(AV.str s.aj),(AV.int .i64 s.ah),(AV.int .i64 s.aB),(AV.int .i64 s.ai),(AV.int .i64 s.az)])] h= .ret (AV.bool (bP s)) h:=by
 have oa:=jl.1.small
 have j8:=jl.2.1.small
 obtain ⟨h1,bJ,cK,lD,aO,dI⟩:=jA di (aP.cells [s.ak,(AV.int .i64 s.ao),(AV.int .i64 s.ax),s.aE,(AV.str s.aj),(AV.int .i64 s.ah),(AV.int .i64 s.aB),(AV.int .i64 s.ai),(AV.int .i64 s.az)] 82 false)
 have bR:Has h h1:=dI
 have M_:dU (some (.slice 34)) (some s.aE)=some (AV.int .i64 ((s.ahead.length:Nat):Int)):=jl.2.1.len
 rcases Bool.eq_false_or_eq_true (decide (((s.ahead.length:Nat):Int)=0)) with f0 | f0
 · have dY:=of_decide_eq_true f0
   have c4:AV.same 20 s.aE s.aE=true:=jl.2.1.same 19
   have ev:=pk (d) lg ((AV.agg [s.ak,(AV.int .i64 s.ao),(AV.int .i64 s.ax),s.aE,(AV.str s.aj),(AV.int .i64 s.ah),(AV.int .i64 s.aB),(AV.int .i64 s.ai),(AV.int .i64 s.az)])::cx 25) h .ret h1 (NN bJ (fun i=>(AV.ptr i 0))<|CN 2<|MM (au 25 3 s.aE aO k!)<|VV M_<|VV (cM 3 false true .i64 ((s.ahead.length:Nat):Int) 0)<|CC<|BB f0<|BB f0<|BB f0<|BB f0<|BB f0<|BB f0<|BB f0<|BB f0<|BB f0<|BB f0<|BB f0<|BB f0<|BB f0<|BB f0<|BB f0<|BB f0<|BB f0<|VV (aM (a:=some (AV.bool true)) (b:=some AV.undef) f0)<|CC<|HH (au 25 3 s.aE aO k!)<|HH c4<|ZZ) k!
   have e:bP s=true:=by simp only[bP,f0,cond_true,cond_false]
   rw[e]
   exact ay rfl (bb Tryz.func58 so k! (.inr rfl) ev k!) bR rfl
 · have dY:=of_decide_eq_false f0
   have GU:dU (some (.slice 34)) (some s.aE)=some (AV.int .i64 ((s.ahead.length:Nat):Int)):=jl.2.1.len
   have u5:=IZ 3 false true s.ahead.length 1 o! o!
   obtain ⟨p7,q8,R1⟩:=jl.2.1.elem (i:=(s.ahead.length - 1)) o!
   have Dp:ep env (some (.slice 34)) (some s.aE) (some (AV.int .i64 ((s.ahead.length - 1:Nat):Int)))=some (AV.ptr p7 q8):=R1
   have W5:b9 env h1 3 (AV.ptr p7 (q8+4))=some (AV.int .i64 ((s.ahead.g (s.ahead.length - 1)).out)):=(jl.2.1.has bR).part (t:=3) (j:=4) o! R1 k! rfl
   have Vx:AV.same 20 s.aE s.aE=true:=jl.2.1.same 19
   have ev:=pk (d) lg ((AV.agg [s.ak,(AV.int .i64 s.ao),(AV.int .i64 s.ax),s.aE,(AV.str s.aj),(AV.int .i64 s.ah),(AV.int .i64 s.aB),(AV.int .i64 s.ai),(AV.int .i64 s.az)])::cx 25) h .ret h1 (NN bJ (fun i=>(AV.ptr i 0))<|CN 2<|MM (au 25 3 s.aE aO k!)<|VV M_<|VV (cM 3 false true .i64 ((s.ahead.length:Nat):Int) 0)<|CC<|BB f0<|CC<|BB f0<|CC<|BB f0<|MM (au 3 6 (AV.int .i64 s.aB) aO k!)<|BB f0<|CC<|BB f0<|MM (au 25 3 s.aE aO k!)<|BB f0<|CC<|BB f0<|MM (au 25 3 s.aE aO k!)<|BB f0<|VV GU<|BB f0<|VV u5<|BB f0<|VV Dp<|BB f0<|CC<|BB f0<|MM W5<|BB f0<|CC<|BB f0<|CC<|BB f0<|CC<|BB f0<|MM (au 3 1 (AV.int .i64 s.ao) aO k!)<|BB f0<|VV (dx 3 false false .i64 (IntKind.i64.wrap (s.aB -((s.ahead.g (s.ahead.length - 1)).out))) s.ao)<|VV (aL (a:=some (AV.bool true)) (b:=some (AV.bool (decide (s.ao≤(IntKind.i64.wrap (s.aB -((s.ahead.g (s.ahead.length - 1)).out))))))) f0)<|CC<|HH (au 25 3 s.aE aO k!)<|HH Vx<|HH (au 3 6 (AV.int .i64 s.aB) aO k!)<|HH (show AV.same 20 (AV.int .i64 s.aB) (AV.int .i64 s.aB)=true from aU 19 _ _)<|HH (au 25 3 s.aE aO k!)<|HH Vx<|HH (au 25 3 s.aE aO k!)<|HH Vx<|HH W5<|HH (show AV.same 20 (AV.int .i64 ((s.ahead.g (s.ahead.length - 1)).out)) (AV.int .i64 ((s.ahead.g (s.ahead.length - 1)).out))=true from aU 19 _ _)<|HH (au 3 1 (AV.int .i64 s.ao) aO k!)<|HH (show AV.same 20 (AV.int .i64 s.ao) (AV.int .i64 s.ao)=true from aU 19 _ _)<|ZZ) k!
   have e:bP s=(decide (s.ao≤(IntKind.i64.wrap (s.aB -((s.ahead.g (s.ahead.length - 1)).out))))):=by simp only[bP,f0,cond_true,cond_false]
   rw[e]
   exact ay rfl (bb Tryz.func58 so k! (.inr rfl) ev k!) bR rfl
noncomputable def sq:Code:=(Tryz.f101.body).getD .skip
theorem F2:Tryz.f101.body=some sq:=by kernel_rfl
def gX (s:dV) (d_:aw):Int:=(imax 0 (IntKind.i64.wrap ((uQ d_.leave s.ai) -(imax d_.aD (IntKind.i64.wrap (s.ai - 1440))))))
theorem yP {d:Nat} {h:aq} (s:dV) (d_:aw) (jl:aG.ok h s) (R2:aG.ok h d_) (di:Tidy h):dH (d+1) (.fn 101) [(AV.agg [s.ak,(AV.int .i64 s.ao),(AV.int .i64 s.ax),s.aE,(AV.str s.aj),(AV.int .i64 s.ah),(AV.int .i64 s.aB),(AV.int .i64 s.ai),(AV.int .i64 s.az)]),(AV.agg [(AV.str d_.worker),(AV.int .i64 d_.ab),(AV.int .i64 d_.aD),(AV.int .i64 d_.leave),(AV.int .i64 d_.out)])] h= .ret (AV.int .i64 (gX s d_)) h:=by
 have oa:=jl.1.small
 have j8:=jl.2.1.small
 obtain ⟨h1,bJ,cK,lD,aO,dI⟩:=jA di (aP.cells [s.ak,(AV.int .i64 s.ao),(AV.int .i64 s.ax),s.aE,(AV.str s.aj),(AV.int .i64 s.ah),(AV.int .i64 s.aB),(AV.int .i64 s.ai),(AV.int .i64 s.az)] 82 false)
 have bR:Has h h1:=dI
 obtain ⟨h2,nt,rf,I6,ic,fW⟩:=jA cK (aP.cells [(AV.str d_.worker),(AV.int .i64 d_.ab),(AV.int .i64 d_.aD),(AV.int .i64 d_.leave),(AV.int .i64 d_.out)] 34 false)
 have lE:Has h h2:=bR.trans fW
 have ev:=pk (d) sq ((AV.agg [s.ak,(AV.int .i64 s.ao),(AV.int .i64 s.ax),s.aE,(AV.str s.aj),(AV.int .i64 s.ah),(AV.int .i64 s.aB),(AV.int .i64 s.ai),(AV.int .i64 s.az)])::(AV.agg [(AV.str d_.worker),(AV.int .i64 d_.ab),(AV.int .i64 d_.aD),(AV.int .i64 d_.leave),(AV.int .i64 d_.out)])::cx 18) h .ret h2 (NN bJ (fun i=>(AV.ptr i 0))<|NN nt (fun i=>(AV.ptr i 0))<|CN 2<|MM (au 3 3 (AV.int .i64 d_.leave) ic k!)<|CN 2<|MM (au 3 7 (AV.int .i64 s.ai) (fW _ _ aO) k!)<|CN 2<|MM (au 3 2 (AV.int .i64 d_.aD) ic k!)<|CN 2<|MM (au 3 7 (AV.int .i64 s.ai) (fW _ _ aO) k!)<|CN 5<|ZZ) k!
 have e:gX s d_=(imax 0 (IntKind.i64.wrap ((uQ d_.leave s.ai) -(imax d_.aD (IntKind.i64.wrap (s.ai - 1440)))))):=by simp only[gX,cond_true,cond_false]
 rw[e]
 exact ay rfl (bb Tryz.func101 F2 k! (.inr rfl) ev k!) lE rfl
noncomputable def hI:Code:=(Tryz.f59.body).getD .skip
theorem sr:Tryz.f59.body=some hI:=by kernel_rfl
noncomputable def iD:Code:=(cP hI).getD 0 .skip
def cm (s:dV):Nat→Nat→Int→Int
 | 0,_,tI=>tI
 | dC+1,i0,tI=>cm s dC (i0+1) (IntKind.i64.wrap (tI+(gX s (s.ahead.g i0))))
theorem kI {d:Nat} {h:aq} (s:dV) (bU:Nat) (bC:bf h s.ak s.eP) (fw:bf h s.aE s.ahead) (pD:s.aj.length<2^60) (j_:aG.ok h s):∀(k_ i_:Nat) (tI:Int) (_:i_+k_=s.ahead.length) (x:Nat→AV) (hh:aq) (aX:Tidy hh) (a_:Has h hh) (cg:hh.get bU=some (aP.cells [s.ak,(AV.int .i64 s.ao),(AV.int .i64 s.ax),s.aE,(AV.str s.aj),(AV.int .i64 s.ah),(AV.int .i64 s.aB),(AV.int .i64 s.ai),(AV.int .i64 s.az)] 82 false)),cb (dH (d+1)) iD ⟨((x 0)::(AV.ptr bU 0)::(x 2)::(AV.int .i64 tI)::rx x 4 7 (s.aE::(AV.int .i64 ((s.ahead.length:Nat):Int))::(AV.int .i64 ((i_:Nat):Int))::rx x 14 14 [])),hh,[],.no⟩ (.exit 0) hh (fun r y=>((y 0)::(AV.ptr bU 0)::(y 2)::(AV.int .i64 r)::rx y 4 7 (s.aE::(AV.int .i64 ((s.ahead.length:Nat):Int))::rx y 13 15 []))) (fun r=>True) (cm s k_ i_ tI)
 | 0,i0,tI,pB,x,hh,aX,a_,cg=>by
   have eQ:=bC.small
   have mf:=fw.small
   have rh:=aX _ _ cg
   have q1:(decide (((i0:Nat):Int)<((s.ahead.length:Nat):Int)))=false:=d!
   have ev:=pk (d+1) iD ((x 0)::(AV.ptr bU 0)::(x 2)::(AV.int .i64 tI)::rx x 4 7 (s.aE::(AV.int .i64 ((s.ahead.length:Nat):Int))::(AV.int .i64 ((i0:Nat):Int))::rx x 14 14 [])) hh (.exit 0) hh (VV (bz 3 false false .i64 ((i0:Nat):Int) ((s.ahead.length:Nat):Int))<|BB q1<|ZZ) k!
   exact cb.out tI rfl ev (b4.refl aX) trivial k!
 | dC+1,i0,tI,pB,x,hh,aX,a_,cg=>by
   have eQ:=bC.small
   have mf:=fw.small
   have rh:=aX _ _ cg
   have q1:(decide (((i0:Nat):Int)<((s.ahead.length:Nat):Int)))=true:=d!
   obtain ⟨p3,q4,kH⟩:=(fw.has a_).elem (i:=i0) o!
   have kO:ep env (some (.slice 34)) (some s.aE) (some (AV.int .i64 ((i0:Nat):Int)))=some (AV.ptr p3 q4):=kH
   have pC:b9 env hh 34 (AV.ptr p3 q4)=some (AV.agg [(AV.str ((s.ahead.g i0).worker)),(AV.int .i64 ((s.ahead.g i0).ab)),(AV.int .i64 ((s.ahead.g i0).aD)),(AV.int .i64 ((s.ahead.g i0).leave)),(AV.int .i64 ((s.ahead.g i0).out))]):=(fw.has a_).load o! kH
   obtain ⟨h6,jI,oK,F3,oL,bQ⟩:=jA aX (aP.cells [(AV.str []),(AV.int .i64 0),(AV.int .i64 0),(AV.int .i64 0),(AV.int .i64 0)] 34 false)
   have oc:Has hh h6:=bQ
   obtain ⟨h7,lF,jm,F1,b6,dR⟩:=lC (t:=34) (n:=5) (i:=hh.nx) (L:=[(AV.str ((s.ahead.g i0).worker)),(AV.int .i64 ((s.ahead.g i0).ab)),(AV.int .i64 ((s.ahead.g i0).aD)),(AV.int .i64 ((s.ahead.g i0).leave)),(AV.int .i64 ((s.ahead.g i0).out))]) oK oL k! rfl rfl (by simp only[AV.cells,List.all_cons,List.all_nil,Bool.and_true,Bool.and_self,dL,cO,dM,dN,cu,fQ,fR,fS,fT,fU,dO])
   have fh:Has hh h7:=Has.ca oc dR aX o!
   have k8:=yP (d:=d) s (s.ahead.g i0) (aG.mono fh (aG.mono a_ j_)) (aG.mono fh ((fw.has a_).ok (i:=i0) o!)) jm
   have u9:=fV 3 false true i0 1 o!
   have ev:=pk (d+1) iD ((x 0)::(AV.ptr bU 0)::(x 2)::(AV.int .i64 tI)::rx x 4 7 (s.aE::(AV.int .i64 ((s.ahead.length:Nat):Int))::(AV.int .i64 ((i0:Nat):Int))::rx x 14 14 [])) hh .normal h7 (VV (bz 3 false false .i64 ((i0:Nat):Int) ((s.ahead.length:Nat):Int))<|BB q1<|VV kO<|MM pC<|NN jI (fun i=>(AV.ptr i 0))<|SS lF<|CC<|MM (au 82 0 (AV.agg [s.ak,(AV.int .i64 s.ao),(AV.int .i64 s.ax),s.aE,(AV.str s.aj),(AV.int .i64 s.ah),(AV.int .i64 s.aB),(AV.int .i64 s.ai),(AV.int .i64 s.az)]) (dR _ _ o! (bQ _ _ cg)) k!)<|MM (au 34 0 (AV.agg [(AV.str ((s.ahead.g i0).worker)),(AV.int .i64 ((s.ahead.g i0).ab)),(AV.int .i64 ((s.ahead.g i0).aD)),(AV.int .i64 ((s.ahead.g i0).leave)),(AV.int .i64 ((s.ahead.g i0).out))]) b6 k!)<|EE k8<|CN 2<|VV u9<|CC<|ZZ) k!
   exact cb.round (by simp only[cm,cond_true,cond_false]) ev (⟨jm,fh,by omega⟩) (fun x=>((x 0)::(AV.ptr bU 0)::(x 2)::(AV.int .i64 (IntKind.i64.wrap (tI+(gX s (s.ahead.g i0)))))::rx x 4 7 (s.aE::(AV.int .i64 ((s.ahead.length:Nat):Int))::(AV.int .i64 (((i0+1):Nat):Int))::rx x 14 14 []))) k! (fun x=>kI s bU bC fw pD j_ dC (i0+1) (IntKind.i64.wrap (tI+(gX s (s.ahead.g i0)))) o! x h7 jm (a_.trans fh) (dR _ _ o! (bQ _ _ cg)))
def bh (s:dV):Bool:=(decide ((cm s s.ahead.length 0 (gX s (⟨s.aj,s.ah,s.aB,s.ai,s.az⟩:aw)))≤s.ax))
theorem ss {d:Nat} {h:aq} (s:dV) (jl:aG.ok h s) (di:Tidy h):dH (d+2) (.fn 59) [(AV.agg [s.ak,(AV.int .i64 s.ao),(AV.int .i64 s.ax),s.aE,(AV.str s.aj),(AV.int .i64 s.ah),(AV.int .i64 s.aB),(AV.int .i64 s.ai),(AV.int .i64 s.az)])] h= .ret (AV.bool (bh s)) h:=by
 have oa:=jl.1.small
 have j8:=jl.2.1.small
 obtain ⟨h1,bJ,cK,lD,aO,dI⟩:=jA di (aP.cells [s.ak,(AV.int .i64 s.ao),(AV.int .i64 s.ax),s.aE,(AV.str s.aj),(AV.int .i64 s.ah),(AV.int .i64 s.aB),(AV.int .i64 s.ai),(AV.int .i64 s.az)] 82 false)
 have bR:Has h h1:=dI
 have k2:=yP (d:=d) s (⟨s.aj,s.ah,s.aB,s.ai,s.az⟩:aw) (aG.mono bR jl) jl.2.2 cK
 have Pc:dU (some (.slice 34)) (some s.aE)=some (AV.int .i64 ((s.ahead.length:Nat):Int)):=jl.2.1.len
 obtain ⟨du,h5,cV,cf,EJ⟩:=kI (d:=d) (h:=h) s h.nx jl.1 jl.2.1 jl.2.2 jl s.ahead.length 0 (gX s (⟨s.aj,s.ah,s.aB,s.ai,s.az⟩:aw)) o! (fun k_=>(((AV.agg [s.ak,(AV.int .i64 s.ao),(AV.int .i64 s.ax),s.aE,(AV.str s.aj),(AV.int .i64 s.ah),(AV.int .i64 s.aB),(AV.int .i64 s.ai),(AV.int .i64 s.az)])::(AV.ptr h.nx 0)::(AV.bool false)::(AV.int .i64 (gX s (⟨s.aj,s.ah,s.aB,s.ai,s.az⟩:aw)))::AV.undef::AV.undef::(AV.agg [s.ak,(AV.int .i64 s.ao),(AV.int .i64 s.ax),s.aE,(AV.str s.aj),(AV.int .i64 s.ah),(AV.int .i64 s.aB),(AV.int .i64 s.ai),(AV.int .i64 s.az)])::(AV.ptr h.nx 4)::(AV.agg [(AV.str s.aj),(AV.int .i64 s.ah),(AV.int .i64 s.aB),(AV.int .i64 s.ai),(AV.int .i64 s.az)])::(AV.int .i64 (gX s (⟨s.aj,s.ah,s.aB,s.ai,s.az⟩:aw)))::(AV.ptr h.nx 3)::s.aE::(AV.int .i64 ((s.ahead.length:Nat):Int))::(AV.int .i64 0)::cx 14):List AV).getD k_ AV.undef) h1 cK bR aO
 have lG:=cf.y
 have wH:h1.nx≤h5.nx:=cf.n
 have ie:Has h h5:=bR.trans cf.a
 have ev:=pk (d+1) hI ((AV.agg [s.ak,(AV.int .i64 s.ao),(AV.int .i64 s.ax),s.aE,(AV.str s.aj),(AV.int .i64 s.ah),(AV.int .i64 s.aB),(AV.int .i64 s.ai),(AV.int .i64 s.az)])::cx 27) h .ret h5 (NN bJ (fun i=>(AV.ptr i 0))<|CC<|MM (au 82 0 (AV.agg [s.ak,(AV.int .i64 s.ao),(AV.int .i64 s.ax),s.aE,(AV.str s.aj),(AV.int .i64 s.ah),(AV.int .i64 s.aB),(AV.int .i64 s.ai),(AV.int .i64 s.az)]) aO k!)<|CC<|MM (au 34 4 (AV.agg [(AV.str s.aj),(AV.int .i64 s.ah),(AV.int .i64 s.aB),(AV.int .i64 s.ai),(AV.int .i64 s.az)]) aO k!)<|EE k2<|CN 2<|MM (au 25 3 s.aE aO k!)<|VV Pc<|CC<|LL cV<|CN 3<|MM (au 3 2 (AV.int .i64 s.ax) (cf.a _ _ aO) k!)<|VV (fu 3 false false .i64 (cm s s.ahead.length 0 (gX s (⟨s.aj,s.ah,s.aB,s.ai,s.az⟩:aw))) s.ax)<|CC<|ZZ) k!
 have e:bh s=(decide ((cm s s.ahead.length 0 (gX s (⟨s.aj,s.ah,s.aB,s.ai,s.az⟩:aw)))≤s.ax)):=by simp only[bh,cond_true,cond_false]
 rw[e]
 exact ay rfl (bb Tryz.func59 sr k! (.inr rfl) ev k!) ie rfl
noncomputable def lp:Code:=(Tryz.f57.body).getD .skip
theorem tJ:Tryz.f57.body=some lp:=by kernel_rfl
def bu (s:dV):Bool:=(decide ((((jX s).1).out)≤(IntKind.i64.wrap (s.az - s.ai))))
theorem tK {d:Nat} {h:aq} (s:dV) (jl:aG.ok h s) (di:Tidy h):dH (d+5) (.fn 57) [(AV.agg [s.ak,(AV.int .i64 s.ao),(AV.int .i64 s.ax),s.aE,(AV.str s.aj),(AV.int .i64 s.ah),(AV.int .i64 s.aB),(AV.int .i64 s.ai),(AV.int .i64 s.az)])] h= .ret (AV.bool (bu s)) h:=by
 have oa:=jl.1.small
 have j8:=jl.2.1.small
 obtain ⟨h1,bJ,cK,lD,aO,dI⟩:=jA di (aP.cells [s.ak,(AV.int .i64 s.ao),(AV.int .i64 s.ax),s.aE,(AV.str s.aj),(AV.int .i64 s.ah),(AV.int .i64 s.aB),(AV.int .i64 s.ai),(AV.int .i64 s.az)] 82 false)
 have bR:Has h h1:=dI
 have k2:=EI (d:=d) s (aG.mono bR jl) cK
 obtain ⟨h3,tH,ql,Pa,mR,gn⟩:=jA cK (aP.cells [(AV.int .i64 0),(AV.int .i64 0),(AV.int .i64 0)] 29 false)
 have kY:Has h h3:=bR.trans gn
 obtain ⟨h4,I8,qm,I7,kZ,wG⟩:=lC (t:=29) (n:=3) (i:=h1.nx) (L:=[(AV.int .i64 (((jX s).1).ab)),(AV.int .i64 (((jX s).1).ae)),(AV.int .i64 (((jX s).1).out))]) ql mR k! rfl rfl (by simp only[AV.cells,List.all_cons,List.all_nil,Bool.and_true,Bool.and_self,dL,cO,dM,dN,cu,fQ,fR,fS,fT,fU,dO])
 have lf:Has h h4:=Has.ca kY wG di o!
 have ev:=pk (d+4) lp ((AV.agg [s.ak,(AV.int .i64 s.ao),(AV.int .i64 s.ax),s.aE,(AV.str s.aj),(AV.int .i64 s.ah),(AV.int .i64 s.aB),(AV.int .i64 s.ai),(AV.int .i64 s.az)])::cx 19) h .ret h4 (NN bJ (fun i=>(AV.ptr i 0))<|CC<|MM (au 82 0 (AV.agg [s.ak,(AV.int .i64 s.ao),(AV.int .i64 s.ax),s.aE,(AV.str s.aj),(AV.int .i64 s.ah),(AV.int .i64 s.aB),(AV.int .i64 s.ai),(AV.int .i64 s.az)]) aO k!)<|EE k2<|CN 3<|NN tH (fun i=>(AV.ptr i 0))<|SS I8<|CN 3<|MM (au 3 8 (AV.int .i64 s.az) (wG _ _ o! (gn _ _ aO)) k!)<|CN 2<|MM (au 3 7 (AV.int .i64 s.ai) (wG _ _ o! (gn _ _ aO)) k!)<|CN 2<|MM (au 3 2 (AV.int .i64 (((jX s).1).out)) kZ k!)<|VV (dx 3 false false .i64 (IntKind.i64.wrap (s.az - s.ai)) (((jX s).1).out))<|CC<|ZZ) k!
 have e:bu s=(decide ((((jX s).1).out)≤(IntKind.i64.wrap (s.az - s.ai)))):=by simp only[bu,cond_true,cond_false]
 rw[e]
 exact ay rfl (bb Tryz.func57 tJ k! (.inr rfl) ev k!) lf rfl
end Go.Proofs.aW
