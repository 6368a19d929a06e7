import Derived.Test.YtaglmdbkfcpbbaaGreatW0
namespace Go.Proofs.bt
open Go.Proofs Ab
set_option maxRecDepth 100000
set_option maxHeartbeats 4000000
set_option linter.unusedVariables false
set_option linter.unusedSimpArgs false
noncomputable def oe:Code:=(Tryz.f23.body).getD .skip
theorem yx:Tryz.f23.body=some oe:=by kernel_rfl
def ax (t:aK) (ab:Int) (ae:Int):bK×Bool:=(bif (decide ((cI t.rows (fun y=>cA y ab ae))<0)) then ((⟨0,0,0⟩:bK),false) else ((t.rows.g (Int.toNat (cI t.rows (fun y=>cA y ab ae)))),true))
theorem jk {d:Nat} {h:ar} (t:aK) (ab:Int) (ae:Int) (b8:aD.ok h t) (b4:Tidy h):eD (d+3) (.fn 23) [(AV.agg [t.ak,(AV.int .i64 t.rest),(AV.int .i64 t.day)]),(AV.int .i64 ab),(AV.int .i64 ae)] h= .ret (AV.tuple [(AV.agg [(AV.int .i64 (((ax t ab ae).1).ab)),(AV.int .i64 (((ax t ab ae).1).ae)),(AV.int .i64 (((ax t ab ae).1).out))]),(AV.bool ((ax t ab ae).2))]) h:=by
 rcases Bool.eq_false_or_eq_true (decide ((cI t.rows (fun y=>cA y ab ae))<0)) with f0 | f0
 · have fH:=of_decide_eq_true f0
   obtain ⟨h1,bm,aL,cu,aE,bh⟩:=cj b4 (aH.cells [t.ak,(AV.int .i64 t.rest),(AV.int .i64 t.day)] 24 false)
   have aG:Has h h1:=bh
   obtain ⟨h2,eX,dH,lj,cM,b5⟩:=cj aL (aH.cells [(AV.int .i64 ab)] 3 false)
   have cB:Has h h2:=aG.trans b5
   obtain ⟨h3,pL,kA,BK,jY,eH⟩:=cj dH (aH.cells [(AV.int .i64 ae)] 3 false)
   have iA:Has h h3:=cB.trans eH
   obtain ⟨h4,re,eY,yA,jl,dx⟩:=cj kA (aH.cells [(AV.int .i64 0),(AV.int .i64 0),(AV.int .i64 0)] 67 false)
   have gN:Has h h4:=iA.trans dx
   have k5:=ug (d:=d+1) t.rows (fun y=>cA y ab ae) (b8.has gN) (fun y hy hh yy aa=>wo (d:=d) y ab h1.nx ae h2.nx (aD.mono aa ((b8.has gN).NG y hy)) (aa _ _ (dx _ _ (eH _ _ cM))) (aa _ _ (dx _ _ jY)) yy) eY
   obtain ⟨h7,iW,eA,oO,cc,cL⟩:=dW (t:=67) (n:=3) (i:=h3.nx) (L:=[(AV.int .i64 0),(AV.int .i64 0),(AV.int .i64 0)]) eY jl k! rfl rfl (by simp only[AV.cells,List.all_cons,List.all_nil,Bool.and_true,Bool.and_self,bP,bB,bQ,bR,bl,cm,cn,cq,cr,ct,bS])
   have di:Has h h7:=Has.aU gN cL b4 o!
   have ev:=pk (d+2) oe ((AV.agg [t.ak,(AV.int .i64 t.rest),(AV.int .i64 t.day)])::(AV.int .i64 ab)::(AV.int .i64 ae)::cz 18) h .ret h7 (NN bm (fun i=>(AV.ptr i 0))<|NN eX (fun i=>(AV.ptr i 0))<|NN pL (fun i=>(AV.ptr i 0))<|NN re (fun i=>(AV.ptr i 0))<|CN 2<|MM (aw 22 0 t.ak (dx _ _ (eH _ _ (b5 _ _ aE))) k!)<|CC<|EE k5<|CN 2<|VV (bT 3 false true .i64 (cI t.rows (fun y=>cA y ab ae)) 0)<|BB f0<|CC<|SS iW<|CC<|ZZ) k!
   have e:ax t ab ae=((⟨0,0,0⟩:bK),false):=by simp only[ax,f0,cond_true,cond_false]
   rw[e]
   exact az rfl (cK (a:=6) (r:=7) (t:=67) (i:=h3.nx) Tryz.func23 yx k! (.inr rfl) ev k! (dE cc k!)) di rfl
 · have fH:=of_decide_eq_false f0
   have UE:=zH t.rows (fun y=>cA y ab ae)
   obtain ⟨h1,bm,aL,cu,aE,bh⟩:=cj b4 (aH.cells [t.ak,(AV.int .i64 t.rest),(AV.int .i64 t.day)] 24 false)
   have aG:Has h h1:=bh
   obtain ⟨h2,eX,dH,lj,cM,b5⟩:=cj aL (aH.cells [(AV.int .i64 ab)] 3 false)
   have cB:Has h h2:=aG.trans b5
   obtain ⟨h3,pL,kA,BK,jY,eH⟩:=cj dH (aH.cells [(AV.int .i64 ae)] 3 false)
   have iA:Has h h3:=cB.trans eH
   obtain ⟨h4,re,eY,yA,jl,dx⟩:=cj kA (aH.cells [(AV.int .i64 0),(AV.int .i64 0),(AV.int .i64 0)] 67 false)
   have gN:Has h h4:=iA.trans dx
   have k5:=ug (d:=d+1) t.rows (fun y=>cA y ab ae) (b8.has gN) (fun y hy hh yy aa=>wo (d:=d) y ab h1.nx ae h2.nx (aD.mono aa ((b8.has gN).NG y hy)) (aa _ _ (dx _ _ (eH _ _ cM))) (aa _ _ (dx _ _ jY)) yy) eY
   obtain ⟨p8,q9,DE⟩:=b8.elem (i:=(Int.toNat (cI t.rows (fun y=>cA y ab ae)))) o!
   have vr:c_ env (some (.slice 67)) (some t.ak) (some (AV.int .i64 (cI t.rows (fun y=>cA y ab ae))))=some (AV.ptr p8 q9):=by rw[show ((cI t.rows (fun y=>cA y ab ae)):Int)=(((Int.toNat (cI t.rows (fun y=>cA y ab ae))):Nat):Int) by omega];exact DE
   have Fo:bN env h4 67 (AV.ptr p8 q9)=some (AV.agg [(AV.int .i64 ((t.rows.g (Int.toNat (cI t.rows (fun y=>cA y ab ae)))).ab)),(AV.int .i64 ((t.rows.g (Int.toNat (cI t.rows (fun y=>cA y ab ae)))).ae)),(AV.int .i64 ((t.rows.g (Int.toNat (cI t.rows (fun y=>cA y ab ae)))).out))]):=(b8.has gN).load o! DE
   obtain ⟨rW,rf,nX,DF,nY,b9⟩:=dW (t:=67) (n:=3) (i:=h3.nx) (L:=[(AV.int .i64 ((t.rows.g (Int.toNat (cI t.rows (fun y=>cA y ab ae)))).ab)),(AV.int .i64 ((t.rows.g (Int.toNat (cI t.rows (fun y=>cA y ab ae)))).ae)),(AV.int .i64 ((t.rows.g (Int.toNat (cI t.rows (fun y=>cA y ab ae)))).out))]) eY jl k! rfl rfl (by simp only[AV.cells,List.all_cons,List.all_nil,Bool.and_true,Bool.and_self,bP,bB,bQ,bR,bl,cm,cn,cq,cr,ct,bS])
   have l6:Has h rW:=Has.aU gN b9 b4 o!
   have ev:=pk (d+2) oe ((AV.agg [t.ak,(AV.int .i64 t.rest),(AV.int .i64 t.day)])::(AV.int .i64 ab)::(AV.int .i64 ae)::cz 18) h .ret rW (NN bm (fun i=>(AV.ptr i 0))<|NN eX (fun i=>(AV.ptr i 0))<|NN pL (fun i=>(AV.ptr i 0))<|NN re (fun i=>(AV.ptr i 0))<|CN 2<|MM (aw 22 0 t.ak (dx _ _ (eH _ _ (b5 _ _ aE))) k!)<|CC<|EE k5<|CN 2<|VV (bT 3 false true .i64 (cI t.rows (fun y=>cA y ab ae)) 0)<|BB f0<|CC<|MM (aw 22 0 t.ak (dx _ _ (eH _ _ (b5 _ _ aE))) k!)<|CC<|VV vr<|MM Fo<|SS rf<|CC<|ZZ) k!
   have e:ax t ab ae=((t.rows.g (Int.toNat (cI t.rows (fun y=>cA y ab ae)))),true):=by simp only[ax,f0,cond_true,cond_false]
   rw[e]
   exact az rfl (cK (a:=6) (r:=7) (t:=67) (i:=h3.nx) Tryz.func23 yx k! (.inr rfl) ev k! (dE nY k!)) l6 rfl
noncomputable def yB:Code:=(Tryz.f102.body).getD .skip
theorem NO:Tryz.f102.body=some yB:=by kernel_rfl
def lp (s:fj):bK×Bool:=(((ax (⟨s.ai,s.gz,s.aj,s.ao⟩:aK) s.af (IntKind.i64.wrap (s.ag - s.au))).1),((ax (⟨s.ai,s.gz,s.aj,s.ao⟩:aK) s.af (IntKind.i64.wrap (s.ag - s.au))).2))
theorem GS {d:Nat} {h:ar} (s:fj) (hU:aD.ok h s) (b4:Tidy h):eD (d+4) (.fn 102) [(AV.agg [s.ai,(AV.int .i64 s.aj),(AV.int .i64 s.ao),s.aB,(AV.str s.ah),(AV.int .i64 s.af),(AV.int .i64 s.au),(AV.int .i64 s.ag),(AV.int .i64 s.aq)])] h= .ret (AV.tuple [(AV.agg [(AV.int .i64 (((lp s).1).ab)),(AV.int .i64 (((lp s).1).ae)),(AV.int .i64 (((lp s).1).out))]),(AV.bool ((lp s).2))]) h:=by
 have pM:=hU.1.small
 have lA:=hU.2.1.small
 obtain ⟨h1,bm,aL,cu,aE,bh⟩:=cj b4 (aH.cells [s.ai,(AV.int .i64 s.aj),(AV.int .i64 s.ao),s.aB,(AV.str s.ah),(AV.int .i64 s.af),(AV.int .i64 s.au),(AV.int .i64 s.ag),(AV.int .i64 s.aq)] 84 false)
 have aG:Has h h1:=bh
 obtain ⟨h2,eX,dH,lj,cM,b5⟩:=cj aL (aH.cells [(AV.int .i64 0),(AV.int .i64 0),(AV.int .i64 0)] 67 false)
 have cB:Has h h2:=aG.trans b5
 have k3:=jk (d:=d) (⟨s.ai,s.gz,s.aj,s.ao⟩:aK) s.af (IntKind.i64.wrap (s.ag - s.au)) (hU.1.has cB) dH
 obtain ⟨h4,KK,eY,yA,jl,yC⟩:=dW (t:=67) (n:=3) (i:=h1.nx) (L:=[(AV.int .i64 (((ax (⟨s.ai,s.gz,s.aj,s.ao⟩:aK) s.af (IntKind.i64.wrap (s.ag - s.au))).1).ab)),(AV.int .i64 (((ax (⟨s.ai,s.gz,s.aj,s.ao⟩:aK) s.af (IntKind.i64.wrap (s.ag - s.au))).1).ae)),(AV.int .i64 (((ax (⟨s.ai,s.gz,s.aj,s.ao⟩:aK) s.af (IntKind.i64.wrap (s.ag - s.au))).1).out))]) dH cM k! rfl rfl (by simp only[AV.cells,List.all_cons,List.all_nil,Bool.and_true,Bool.and_self,bP,bB,bQ,bR,bl,cm,cn,cq,cr,ct,bS])
 have gN:Has h h4:=Has.aU cB yC b4 o!
 have ev:=pk (d+3) yB ((AV.agg [s.ai,(AV.int .i64 s.aj),(AV.int .i64 s.ao),s.aB,(AV.str s.ah),(AV.int .i64 s.af),(AV.int .i64 s.au),(AV.int .i64 s.ag),(AV.int .i64 s.aq)])::cz 18) h .ret h4 (NN bm (fun i=>(AV.ptr i 0))<|NN eX (fun i=>(AV.ptr i 0))<|CN 2<|MM (aw 24 0 (AV.agg [s.ai,(AV.int .i64 s.aj),(AV.int .i64 s.ao)]) (b5 _ _ aE) k!)<|CN 2<|MM (aw 3 5 (AV.int .i64 s.af) (b5 _ _ aE) k!)<|CN 2<|MM (aw 3 7 (AV.int .i64 s.ag) (b5 _ _ aE) k!)<|CN 2<|MM (aw 3 6 (AV.int .i64 s.au) (b5 _ _ aE) k!)<|CC<|EE k3<|CN 2<|SS KK<|CC<|ZZ) k!
 have e:lp s=(((ax (⟨s.ai,s.gz,s.aj,s.ao⟩:aK) s.af (IntKind.i64.wrap (s.ag - s.au))).1),((ax (⟨s.ai,s.gz,s.aj,s.ao⟩:aK) s.af (IntKind.i64.wrap (s.ag - s.au))).2)):=by simp only[lp,cond_true,cond_false]
 rw[e]
 exact az rfl (cK (a:=2) (r:=3) (t:=67) (i:=h1.nx) Tryz.func102 NO k! (.inr rfl) ev k! (dE jl k!)) gN rfl
noncomputable def oP:Code:=(Tryz.f59.body).getD .skip
theorem zI:Tryz.f59.body=some oP:=by kernel_rfl
def bF (s:fj):Bool:=((lp s).2)
theorem jZ {d:Nat} {h:ar} (s:fj) (hU:aD.ok h s) (b4:Tidy h):eD (d+5) (.fn 59) [(AV.agg [s.ai,(AV.int .i64 s.aj),(AV.int .i64 s.ao),s.aB,(AV.str s.ah),(AV.int .i64 s.af),(AV.int .i64 s.au),(AV.int .i64 s.ag),(AV.int .i64 s.aq)])] h= .ret (AV.bool (bF s)) h:=by
 have pM:=hU.1.small
 have lA:=hU.2.1.small
 obtain ⟨h1,bm,aL,cu,aE,bh⟩:=cj b4 (aH.cells [s.ai,(AV.int .i64 s.aj),(AV.int .i64 s.ao),s.aB,(AV.str s.ah),(AV.int .i64 s.af),(AV.int .i64 s.au),(AV.int .i64 s.ag),(AV.int .i64 s.aq)] 84 false)
 have aG:Has h h1:=bh
 have k2:=GS (d:=d) s (aD.mono aG hU) aL
 obtain ⟨h3,pL,kA,BK,jY,eH⟩:=cj aL (aH.cells [(AV.int .i64 0),(AV.int .i64 0),(AV.int .i64 0)] 67 false)
 have iA:Has h h3:=aG.trans eH
 obtain ⟨h4,KK,eY,yA,jl,yC⟩:=dW (t:=67) (n:=3) (i:=h1.nx) (L:=[(AV.int .i64 (((lp s).1).ab)),(AV.int .i64 (((lp s).1).ae)),(AV.int .i64 (((lp s).1).out))]) kA jY k! rfl rfl (by simp only[AV.cells,List.all_cons,List.all_nil,Bool.and_true,Bool.and_self,bP,bB,bQ,bR,bl,cm,cn,cq,cr,ct,bS])
 have gN:Has h h4:=Has.aU iA yC b4 o!
 have ev:=pk (d+4) oP ((AV.agg [s.ai,(AV.int .i64 s.aj),(AV.int .i64 s.ao),s.aB,(AV.str s.ah),(AV.int .i64 s.af),(AV.int .i64 s.au),(AV.int .i64 s.ag),(AV.int .i64 s.aq)])::cz 10) h .ret h4 (NN bm (fun i=>(AV.ptr i 0))<|CC<|MM (aw 84 0 (AV.agg [s.ai,(AV.int .i64 s.aj),(AV.int .i64 s.ao),s.aB,(AV.str s.ah),(AV.int .i64 s.af),(AV.int .i64 s.au),(AV.int .i64 s.ag),(AV.int .i64 s.aq)]) aE k!)<|EE k2<|CN 3<|NN pL (fun i=>(AV.ptr i 0))<|SS KK<|CN 3<|ZZ) k!
 have e:bF s=((lp s).2):=by simp only[bF,cond_true,cond_false]
 rw[e]
 exact az rfl (bz Tryz.func59 zI k! (.inr rfl) ev k!) gN rfl
noncomputable def lB:Code:=(Tryz.f58.body).getD .skip
theorem so:Tryz.f58.body=some lB:=by kernel_rfl
def bq (s:fj):Bool:=(bif (decide (s.au<s.ag)) then (decide (s.ag≤s.aq)) else false)
theorem iO {d:Nat} {h:ar} (s:fj) (hU:aD.ok h s) (b4:Tidy h):eD (d+1) (.fn 58) [(AV.agg [s.ai,(AV.int .i64 s.aj),(AV.int .i64 s.ao),s.aB,(AV.str s.ah),(AV.int .i64 s.af),(AV.int .i64 s.au),(AV.int .i64 s.ag),(AV.int .i64 s.aq)])] h= .ret (AV.bool (bq s)) h:=by
 have pM:=hU.1.small
 have lA:=hU.2.1.small
 rcases Bool.eq_false_or_eq_true (decide (s.au<s.ag)) with f0 | f0
 · have fH:=of_decide_eq_true f0
   obtain ⟨h1,bm,aL,cu,aE,bh⟩:=cj b4 (aH.cells [s.ai,(AV.int .i64 s.aj),(AV.int .i64 s.ao),s.aB,(AV.str s.ah),(AV.int .i64 s.af),(AV.int .i64 s.au),(AV.int .i64 s.ag),(AV.int .i64 s.aq)] 84 false)
   have aG:Has h h1:=bh
   have ev:=pk (d) lB ((AV.agg [s.ai,(AV.int .i64 s.aj),(AV.int .i64 s.ao),s.aB,(AV.str s.ah),(AV.int .i64 s.af),(AV.int .i64 s.au),(AV.int .i64 s.ag),(AV.int .i64 s.aq)])::cz 18) h .ret h1 (NN bm (fun i=>(AV.ptr i 0))<|CN 3<|MM (aw 3 6 (AV.int .i64 s.au) aE k!)<|CN 2<|MM (aw 3 7 (AV.int .i64 s.ag) aE k!)<|VV (bT 3 false false .i64 s.au s.ag)<|CC<|BB f0<|CC<|BB f0<|CC<|BB f0<|MM (aw 3 7 (AV.int .i64 s.ag) aE k!)<|BB f0<|CC<|BB f0<|CC<|BB f0<|MM (aw 3 8 (AV.int .i64 s.aq) aE k!)<|BB f0<|VV (gZ 3 false false .i64 s.ag s.aq)<|VV (aX (a:=some (AV.bool (decide (s.ag≤s.aq)))) (b:=some (AV.bool false)) f0)<|CC<|ZZ) k!
   have e:bq s=(decide (s.ag≤s.aq)):=by simp only[bq,f0,cond_true,cond_false]
   rw[e]
   exact az rfl (bz Tryz.func58 so k! (.inr rfl) ev k!) aG rfl
 · have fH:=of_decide_eq_false f0
   obtain ⟨h1,bm,aL,cu,aE,bh⟩:=cj b4 (aH.cells [s.ai,(AV.int .i64 s.aj),(AV.int .i64 s.ao),s.aB,(AV.str s.ah),(AV.int .i64 s.af),(AV.int .i64 s.au),(AV.int .i64 s.ag),(AV.int .i64 s.aq)] 84 false)
   have aG:Has h h1:=bh
   have ev:=pk (d) lB ((AV.agg [s.ai,(AV.int .i64 s.aj),(AV.int .i64 s.ao),s.aB,(AV.str s.ah),(AV.int .i64 s.af),(AV.int .i64 s.au),(AV.int .i64 s.ag),(AV.int .i64 s.aq)])::cz 18) h .ret h1 (NN bm (fun i=>(AV.ptr i 0))<|CN 3<|MM (aw 3 6 (AV.int .i64 s.au) aE k!)<|CN 2<|MM (aw 3 7 (AV.int .i64 s.ag) aE k!)<|VV (bT 3 false false .i64 s.au s.ag)<|CC<|BB f0<|BB f0<|BB f0<|BB f0<|BB f0<|BB f0<|BB f0<|VV (aJ (a:=some AV.undef) (b:=some (AV.bool false)) f0)<|CC<|ZZ) k!
   have e:bq s=false:=by simp only[bq,f0,cond_true,cond_false]
   rw[e]
   exact az rfl (bz Tryz.func58 so k! (.inr rfl) ev k!) aG rfl
noncomputable def mw:Code:=(Tryz.f61.body).getD .skip
theorem uh:Tryz.f61.body=some mw:=by kernel_rfl
def cd (s:fj):Bool:=(bif (decide (((s.ahead.length:Nat):Int)=0)) then true else (decide (s.aj≤(IntKind.i64.wrap (s.au -((s.ahead.g (s.ahead.length - 1)).out))))))
theorem pN {d:Nat} {h:ar} (s:fj) (hU:aD.ok h s) (b4:Tidy h):eD (d+1) (.fn 61) [(AV.agg [s.ai,(AV.int .i64 s.aj),(AV.int .i64 s.ao),s.aB,(AV.str s.ah),(AV.int .i64 s.af),(AV.int .i64 s.au),(AV.int .i64 s.ag),(AV.int .i64 s.aq)])] h= .ret (AV.bool (cd s)) h:=by
 have pM:=hU.1.small
 have lA:=hU.2.1.small
 rcases Bool.eq_false_or_eq_true (decide (((s.ahead.length:Nat):Int)=0)) with f0 | f0
 · have fH:=of_decide_eq_true f0
   obtain ⟨h1,bm,aL,cu,aE,bh⟩:=cj b4 (aH.cells [s.ai,(AV.int .i64 s.aj),(AV.int .i64 s.ao),s.aB,(AV.str s.ah),(AV.int .i64 s.af),(AV.int .i64 s.au),(AV.int .i64 s.ag),(AV.int .i64 s.aq)] 84 false)
   have aG:Has h h1:=bh
   have BL:cJ (some (.slice 37)) (some s.aB)=some (AV.int .i64 ((s.ahead.length:Nat):Int)):=hU.2.1.len
   have c4:AV.same 20 s.aB s.aB=true:=hU.2.1.same 19
   have ev:=pk (d) mw ((AV.agg [s.ai,(AV.int .i64 s.aj),(AV.int .i64 s.ao),s.aB,(AV.str s.ah),(AV.int .i64 s.af),(AV.int .i64 s.au),(AV.int .i64 s.ag),(AV.int .i64 s.aq)])::cz 25) h .ret h1 (NN bm (fun i=>(AV.ptr i 0))<|CN 2<|MM (aw 25 3 s.aB aE k!)<|VV BL<|VV (dC 3 false true .i64 ((s.ahead.length:Nat):Int) 0)<|CC<|BB f0<|BB f0<|BB f0<|BB f0<|BB f0<|BB f0<|BB f0<|BB f0<|BB f0<|BB f0<|BB f0<|BB f0<|BB f0<|BB f0<|BB f0<|BB f0<|BB f0<|VV (aX (a:=some (AV.bool true)) (b:=some AV.undef) f0)<|CC<|HH (aw 25 3 s.aB aE k!)<|HH c4<|ZZ) k!
   have e:cd s=true:=by simp only[cd,f0,cond_true,cond_false]
   rw[e]
   exact az rfl (bz Tryz.func61 uh k! (.inr rfl) ev k!) aG rfl
 · have fH:=of_decide_eq_false f0
   obtain ⟨h1,bm,aL,cu,aE,bh⟩:=cj b4 (aH.cells [s.ai,(AV.int .i64 s.aj),(AV.int .i64 s.ao),s.aB,(AV.str s.ah),(AV.int .i64 s.af),(AV.int .i64 s.au),(AV.int .i64 s.ag),(AV.int .i64 s.aq)] 84 false)
   have aG:Has h h1:=bh
   have BL:cJ (some (.slice 37)) (some s.aB)=some (AV.int .i64 ((s.ahead.length:Nat):Int)):=hU.2.1.len
   have DG:cJ (some (.slice 37)) (some s.aB)=some (AV.int .i64 ((s.ahead.length:Nat):Int)):=hU.2.1.len
   have u5:=BH 3 false true s.ahead.length 1 o! o!
   obtain ⟨p7,q8,S6⟩:=hU.2.1.elem (i:=(s.ahead.length - 1)) o!
   have yD:c_ env (some (.slice 37)) (some s.aB) (some (AV.int .i64 ((s.ahead.length - 1:Nat):Int)))=some (AV.ptr p7 q8):=S6
   have XD:bN env h1 3 (AV.ptr p7 (q8+4))=some (AV.int .i64 ((s.ahead.g (s.ahead.length - 1)).out)):=(hU.2.1.has aG).part (t:=3) (j:=4) o! S6 k! rfl
   have V6:AV.same 20 s.aB s.aB=true:=hU.2.1.same 19
   have ev:=pk (d) mw ((AV.agg [s.ai,(AV.int .i64 s.aj),(AV.int .i64 s.ao),s.aB,(AV.str s.ah),(AV.int .i64 s.af),(AV.int .i64 s.au),(AV.int .i64 s.ag),(AV.int .i64 s.aq)])::cz 25) h .ret h1 (NN bm (fun i=>(AV.ptr i 0))<|CN 2<|MM (aw 25 3 s.aB aE k!)<|VV BL<|VV (dC 3 false true .i64 ((s.ahead.length:Nat):Int) 0)<|CC<|BB f0<|CC<|BB f0<|CC<|BB f0<|MM (aw 3 6 (AV.int .i64 s.au) aE k!)<|BB f0<|CC<|BB f0<|MM (aw 25 3 s.aB aE k!)<|BB f0<|CC<|BB f0<|MM (aw 25 3 s.aB aE k!)<|BB f0<|VV DG<|BB f0<|VV u5<|BB f0<|VV yD<|BB f0<|CC<|BB f0<|MM XD<|BB f0<|CC<|BB f0<|CC<|BB f0<|CC<|BB f0<|MM (aw 3 1 (AV.int .i64 s.aj) aE k!)<|BB f0<|VV (eP 3 false false .i64 (IntKind.i64.wrap (s.au -((s.ahead.g (s.ahead.length - 1)).out))) s.aj)<|VV (aJ (a:=some (AV.bool true)) (b:=some (AV.bool (decide (s.aj≤(IntKind.i64.wrap (s.au -((s.ahead.g (s.ahead.length - 1)).out))))))) f0)<|CC<|HH (aw 25 3 s.aB aE k!)<|HH V6<|HH (aw 3 6 (AV.int .i64 s.au) aE k!)<|HH (show AV.same 20 (AV.int .i64 s.au) (AV.int .i64 s.au)=true from aQ 19 _ _)<|HH (aw 25 3 s.aB aE k!)<|HH V6<|HH (aw 25 3 s.aB aE k!)<|HH V6<|HH XD<|HH (show AV.same 20 (AV.int .i64 ((s.ahead.g (s.ahead.length - 1)).out)) (AV.int .i64 ((s.ahead.g (s.ahead.length - 1)).out))=true from aQ 19 _ _)<|HH (aw 3 1 (AV.int .i64 s.aj) aE k!)<|HH (show AV.same 20 (AV.int .i64 s.aj) (AV.int .i64 s.aj)=true from aQ 19 _ _)<|ZZ) k!
   have e:cd s=(decide (s.aj≤(IntKind.i64.wrap (s.au -((s.ahead.g (s.ahead.length - 1)).out))))):=by simp only[cd,f0,cond_true,cond_false]
   rw[e]
   exact az rfl (bz Tryz.func61 uh k! (.inr rfl) ev k!) aG rfl
noncomputable def ui:Code:=(Tryz.f103.body).getD .skip
theorem Ii:Tryz.f103.body=some ui:=by kernel_rfl
def ja (s:fj) (d_:aO):Int:=(imax 0 (IntKind.i64.wrap ((wJ d_.leave s.ag) -(imax d_.aP (IntKind.i64.wrap (s.ag - 1440))))))
theorem Au {d:Nat} {h:ar} (s:fj) (d_:aO) (hU:aD.ok h s) (BM:aD.ok h d_) (b4:Tidy h):eD (d+1) (.fn 103) [(AV.agg [s.ai,(AV.int .i64 s.aj),(AV.int .i64 s.ao),s.aB,(AV.str s.ah),(AV.int .i64 s.af),(AV.int .i64 s.au),(AV.int .i64 s.ag),(AV.int .i64 s.aq)]),(AV.agg [(AV.str d_.worker),(AV.int .i64 d_.ab),(AV.int .i64 d_.aP),(AV.int .i64 d_.leave),(AV.int .i64 d_.out)])] h= .ret (AV.int .i64 (ja s d_)) h:=by
 have pM:=hU.1.small
 have lA:=hU.2.1.small
 obtain ⟨h1,bm,aL,cu,aE,bh⟩:=cj b4 (aH.cells [s.ai,(AV.int .i64 s.aj),(AV.int .i64 s.ao),s.aB,(AV.str s.ah),(AV.int .i64 s.af),(AV.int .i64 s.au),(AV.int .i64 s.ag),(AV.int .i64 s.aq)] 84 false)
 have aG:Has h h1:=bh
 obtain ⟨h2,eX,dH,lj,cM,b5⟩:=cj aL (aH.cells [(AV.str d_.worker),(AV.int .i64 d_.ab),(AV.int .i64 d_.aP),(AV.int .i64 d_.leave),(AV.int .i64 d_.out)] 37 false)
 have cB:Has h h2:=aG.trans b5
 have ev:=pk (d) ui ((AV.agg [s.ai,(AV.int .i64 s.aj),(AV.int .i64 s.ao),s.aB,(AV.str s.ah),(AV.int .i64 s.af),(AV.int .i64 s.au),(AV.int .i64 s.ag),(AV.int .i64 s.aq)])::(AV.agg [(AV.str d_.worker),(AV.int .i64 d_.ab),(AV.int .i64 d_.aP),(AV.int .i64 d_.leave),(AV.int .i64 d_.out)])::cz 18) h .ret h2 (NN bm (fun i=>(AV.ptr i 0))<|NN eX (fun i=>(AV.ptr i 0))<|CN 2<|MM (aw 3 3 (AV.int .i64 d_.leave) cM k!)<|CN 2<|MM (aw 3 7 (AV.int .i64 s.ag) (b5 _ _ aE) k!)<|CN 2<|MM (aw 3 2 (AV.int .i64 d_.aP) cM k!)<|CN 2<|MM (aw 3 7 (AV.int .i64 s.ag) (b5 _ _ aE) k!)<|CN 5<|ZZ) k!
 have e:ja s d_=(imax 0 (IntKind.i64.wrap ((wJ d_.leave s.ag) -(imax d_.aP (IntKind.i64.wrap (s.ag - 1440)))))):=by simp only[ja,cond_true,cond_false]
 rw[e]
 exact az rfl (bz Tryz.func103 Ii k! (.inr rfl) ev k!) cB rfl
noncomputable def jm:Code:=(Tryz.f62.body).getD .skip
theorem uj:Tryz.f62.body=some jm:=by kernel_rfl
noncomputable def jS:Code:=(dD jm).getD 0 .skip
def c8 (s:fj):Nat→Nat→Int→Int
 | 0,_,vt=>vt
 | eG+1,i0,vt=>c8 s eG (i0+1) (IntKind.i64.wrap (vt+(ja s (s.ahead.g i0))))
theorem l7 {d:Nat} {h:ar} (s:fj) (cC:Nat) (bk:bD h s.ai s.gz) (ft:bD h s.aB s.ahead) (BN:s.ah.length<2^60) (l8:aD.ok h s):∀(k_ i_:Nat) (vt:Int) (_:i_+k_=s.ahead.length) (x:Nat→AV) (hh:ar) (bb:Tidy hh) (aR:Has h hh) (dg:hh.get cC=some (aH.cells [s.ai,(AV.int .i64 s.aj),(AV.int .i64 s.ao),s.aB,(AV.str s.ah),(AV.int .i64 s.af),(AV.int .i64 s.au),(AV.int .i64 s.ag),(AV.int .i64 s.aq)] 84 false)),dm (eD (d+1)) jS ⟨((x 0)::(AV.ptr cC 0)::(x 2)::(AV.int .i64 vt)::rx x 4 7 (s.aB::(AV.int .i64 ((s.ahead.length:Nat):Int))::(AV.int .i64 ((i_:Nat):Int))::rx x 14 14 [])),hh,[],.no⟩ (.exit 0) hh (fun r y=>((y 0)::(AV.ptr cC 0)::(y 2)::(AV.int .i64 r)::rx y 4 7 (s.aB::(AV.int .i64 ((s.ahead.length:Nat):Int))::rx y 13 15 []))) (fun r=>True) (c8 s k_ i_ vt)
 | 0,i0,vt,qo,x,hh,bb,aR,dg=>by
   have fK:=bk.small
   have lC:=ft.small
   have sW:=bb _ _ dg
   have q1:(decide (((i0:Nat):Int)<((s.ahead.length:Nat):Int)))=false:=d!
   have ev:=pk (d+1) jS ((x 0)::(AV.ptr cC 0)::(x 2)::(AV.int .i64 vt)::rx x 4 7 (s.aB::(AV.int .i64 ((s.ahead.length:Nat):Int))::(AV.int .i64 ((i0:Nat):Int))::rx x 14 14 [])) hh (.exit 0) hh (VV (bT 3 false false .i64 ((i0:Nat):Int) ((s.ahead.length:Nat):Int))<|BB q1<|ZZ) k!
   exact dm.out vt rfl ev (cG.refl bb) trivial k!
 | eG+1,i0,vt,qo,x,hh,bb,aR,dg=>by
   have fK:=bk.small
   have lC:=ft.small
   have sW:=bb _ _ dg
   have q1:(decide (((i0:Nat):Int)<((s.ahead.length:Nat):Int)))=true:=d!
   obtain ⟨p3,q4,dG⟩:=(ft.has aR).elem (i:=i0) o!
   have hL:c_ env (some (.slice 37)) (some s.aB) (some (AV.int .i64 ((i0:Nat):Int)))=some (AV.ptr p3 q4):=dG
   have mB:bN env hh 37 (AV.ptr p3 q4)=some (AV.agg [(AV.str ((s.ahead.g i0).worker)),(AV.int .i64 ((s.ahead.g i0).ab)),(AV.int .i64 ((s.ahead.g i0).aP)),(AV.int .i64 ((s.ahead.g i0).leave)),(AV.int .i64 ((s.ahead.g i0).out))]):=(ft.has aR).load o! dG
   obtain ⟨h6,gO,eQ,nL,gP,bI⟩:=cj bb (aH.cells [(AV.str []),(AV.int .i64 0),(AV.int .i64 0),(AV.int .i64 0),(AV.int .i64 0)] 37 false)
   have ek:Has hh h6:=bI
   obtain ⟨h7,iW,eA,oO,cc,cL⟩:=dW (t:=37) (n:=5) (i:=hh.nx) (L:=[(AV.str ((s.ahead.g i0).worker)),(AV.int .i64 ((s.ahead.g i0).ab)),(AV.int .i64 ((s.ahead.g i0).aP)),(AV.int .i64 ((s.ahead.g i0).leave)),(AV.int .i64 ((s.ahead.g i0).out))]) eQ gP k! rfl rfl (by simp only[AV.cells,List.all_cons,List.all_nil,Bool.and_true,Bool.and_self,bP,bB,bQ,bR,bl,cm,cn,cq,cr,ct,bS])
   have di:Has hh h7:=Has.aU ek cL bb o!
   have k8:=Au (d:=d) s (s.ahead.g i0) (aD.mono di (aD.mono aR l8)) (aD.mono di ((ft.has aR).ok (i:=i0) o!)) eA
   have u9:=hJ 3 false true i0 1 o!
   have ev:=pk (d+1) jS ((x 0)::(AV.ptr cC 0)::(x 2)::(AV.int .i64 vt)::rx x 4 7 (s.aB::(AV.int .i64 ((s.ahead.length:Nat):Int))::(AV.int .i64 ((i0:Nat):Int))::rx x 14 14 [])) hh .normal h7 (VV (bT 3 false false .i64 ((i0:Nat):Int) ((s.ahead.length:Nat):Int))<|BB q1<|VV hL<|MM mB<|NN gO (fun i=>(AV.ptr i 0))<|SS iW<|CC<|MM (aw 84 0 (AV.agg [s.ai,(AV.int .i64 s.aj),(AV.int .i64 s.ao),s.aB,(AV.str s.ah),(AV.int .i64 s.af),(AV.int .i64 s.au),(AV.int .i64 s.ag),(AV.int .i64 s.aq)]) (cL _ _ o! (bI _ _ dg)) k!)<|MM (aw 37 0 (AV.agg [(AV.str ((s.ahead.g i0).worker)),(AV.int .i64 ((s.ahead.g i0).ab)),(AV.int .i64 ((s.ahead.g i0).aP)),(AV.int .i64 ((s.ahead.g i0).leave)),(AV.int .i64 ((s.ahead.g i0).out))]) cc k!)<|EE k8<|CN 2<|VV u9<|CC<|ZZ) k!
   exact dm.round (by simp only[c8,cond_true,cond_false]) ev (⟨eA,di,by omega⟩) (fun x=>((x 0)::(AV.ptr cC 0)::(x 2)::(AV.int .i64 (IntKind.i64.wrap (vt+(ja s (s.ahead.g i0)))))::rx x 4 7 (s.aB::(AV.int .i64 ((s.ahead.length:Nat):Int))::(AV.int .i64 (((i0+1):Nat):Int))::rx x 14 14 []))) k! (fun x=>l7 s cC bk ft BN l8 eG (i0+1) (IntKind.i64.wrap (vt+(ja s (s.ahead.g i0)))) o! x h7 eA (aR.trans di) (cL _ _ o! (bI _ _ dg)))
def bG (s:fj):Bool:=(decide ((c8 s s.ahead.length 0 (ja s (⟨s.ah,s.af,s.au,s.ag,s.aq⟩:aO)))≤s.ao))
theorem nZ {d:Nat} {h:ar} (s:fj) (hU:aD.ok h s) (b4:Tidy h):eD (d+2) (.fn 62) [(AV.agg [s.ai,(AV.int .i64 s.aj),(AV.int .i64 s.ao),s.aB,(AV.str s.ah),(AV.int .i64 s.af),(AV.int .i64 s.au),(AV.int .i64 s.ag),(AV.int .i64 s.aq)])] h= .ret (AV.bool (bG s)) h:=by
 have pM:=hU.1.small
 have lA:=hU.2.1.small
 obtain ⟨h1,bm,aL,cu,aE,bh⟩:=cj b4 (aH.cells [s.ai,(AV.int .i64 s.aj),(AV.int .i64 s.ao),s.aB,(AV.str s.ah),(AV.int .i64 s.af),(AV.int .i64 s.au),(AV.int .i64 s.ag),(AV.int .i64 s.aq)] 84 false)
 have aG:Has h h1:=bh
 have k2:=Au (d:=d) s (⟨s.ah,s.af,s.au,s.ag,s.aq⟩:aO) (aD.mono aG hU) hU.2.2 aL
 have NP:cJ (some (.slice 37)) (some s.aB)=some (AV.int .i64 ((s.ahead.length:Nat):Int)):=hU.2.1.len
 obtain ⟨Av,h5,eI,bJ,GU⟩:=l7 (d:=d) (h:=h) s h.nx hU.1 hU.2.1 hU.2.2 hU s.ahead.length 0 (ja s (⟨s.ah,s.af,s.au,s.ag,s.aq⟩:aO)) o! (fun k_=>(((AV.agg [s.ai,(AV.int .i64 s.aj),(AV.int .i64 s.ao),s.aB,(AV.str s.ah),(AV.int .i64 s.af),(AV.int .i64 s.au),(AV.int .i64 s.ag),(AV.int .i64 s.aq)])::(AV.ptr h.nx 0)::(AV.bool false)::(AV.int .i64 (ja s (⟨s.ah,s.af,s.au,s.ag,s.aq⟩:aO)))::AV.undef::AV.undef::(AV.agg [s.ai,(AV.int .i64 s.aj),(AV.int .i64 s.ao),s.aB,(AV.str s.ah),(AV.int .i64 s.af),(AV.int .i64 s.au),(AV.int .i64 s.ag),(AV.int .i64 s.aq)])::(AV.ptr h.nx 4)::(AV.agg [(AV.str s.ah),(AV.int .i64 s.af),(AV.int .i64 s.au),(AV.int .i64 s.ag),(AV.int .i64 s.aq)])::(AV.int .i64 (ja s (⟨s.ah,s.af,s.au,s.ag,s.aq⟩:aO)))::(AV.ptr h.nx 3)::s.aB::(AV.int .i64 ((s.ahead.length:Nat):Int))::(AV.int .i64 0)::cz 14):List AV).getD k_ AV.undef) h1 aL aG aE
 have eB:=bJ.y
 have lD:h1.nx≤h5.nx:=bJ.n
 have ck:Has h h5:=aG.trans bJ.a
 have ev:=pk (d+1) jm ((AV.agg [s.ai,(AV.int .i64 s.aj),(AV.int .i64 s.ao),s.aB,(AV.str s.ah),(AV.int .i64 s.af),(AV.int .i64 s.au),(AV.int .i64 s.ag),(AV.int .i64 s.aq)])::cz 27) h .ret h5 (NN bm (fun i=>(AV.ptr i 0))<|CC<|MM (aw 84 0 (AV.agg [s.ai,(AV.int .i64 s.aj),(AV.int .i64 s.ao),s.aB,(AV.str s.ah),(AV.int .i64 s.af),(AV.int .i64 s.au),(AV.int .i64 s.ag),(AV.int .i64 s.aq)]) aE k!)<|CC<|MM (aw 37 4 (AV.agg [(AV.str s.ah),(AV.int .i64 s.af),(AV.int .i64 s.au),(AV.int .i64 s.ag),(AV.int .i64 s.aq)]) aE k!)<|EE k2<|CN 2<|MM (aw 25 3 s.aB aE k!)<|VV NP<|CC<|LL eI<|CN 3<|MM (aw 3 2 (AV.int .i64 s.ao) (bJ.a _ _ aE) k!)<|VV (gZ 3 false false .i64 (c8 s s.ahead.length 0 (ja s (⟨s.ah,s.af,s.au,s.ag,s.aq⟩:aO))) s.ao)<|CC<|ZZ) k!
 have e:bG s=(decide ((c8 s s.ahead.length 0 (ja s (⟨s.ah,s.af,s.au,s.ag,s.aq⟩:aO)))≤s.ao)):=by simp only[bG,cond_true,cond_false]
 rw[e]
 exact az rfl (bz Tryz.func62 uj k! (.inr rfl) ev k!) ck rfl
noncomputable def mC:Code:=(Tryz.f60.body).getD .skip
theorem vu:Tryz.f60.body=some mC:=by kernel_rfl
def bu (s:fj):Bool:=(decide ((((lp s).1).out)≤(IntKind.i64.wrap (s.aq - s.ag))))
theorem jD {d:Nat} {h:ar} (s:fj) (hU:aD.ok h s) (b4:Tidy h):eD (d+5) (.fn 60) [(AV.agg [s.ai,(AV.int .i64 s.aj),(AV.int .i64 s.ao),s.aB,(AV.str s.ah),(AV.int .i64 s.af),(AV.int .i64 s.au),(AV.int .i64 s.ag),(AV.int .i64 s.aq)])] h= .ret (AV.bool (bu s)) h:=by
 have pM:=hU.1.small
 have lA:=hU.2.1.small
 obtain ⟨h1,bm,aL,cu,aE,bh⟩:=cj b4 (aH.cells [s.ai,(AV.int .i64 s.aj),(AV.int .i64 s.ao),s.aB,(AV.str s.ah),(AV.int .i64 s.af),(AV.int .i64 s.au),(AV.int .i64 s.ag),(AV.int .i64 s.aq)] 84 false)
 have aG:Has h h1:=bh
 have k2:=GS (d:=d) s (aD.mono aG hU) aL
 obtain ⟨h3,pL,kA,BK,jY,eH⟩:=cj aL (aH.cells [(AV.int .i64 0),(AV.int .i64 0),(AV.int .i64 0)] 67 false)
 have iA:Has h h3:=aG.trans eH
 obtain ⟨h4,KK,eY,yA,jl,yC⟩:=dW (t:=67) (n:=3) (i:=h1.nx) (L:=[(AV.int .i64 (((lp s).1).ab)),(AV.int .i64 (((lp s).1).ae)),(AV.int .i64 (((lp s).1).out))]) kA jY k! rfl rfl (by simp only[AV.cells,List.all_cons,List.all_nil,Bool.and_true,Bool.and_self,bP,bB,bQ,bR,bl,cm,cn,cq,cr,ct,bS])
 have gN:Has h h4:=Has.aU iA yC b4 o!
 have ev:=pk (d+4) mC ((AV.agg [s.ai,(AV.int .i64 s.aj),(AV.int .i64 s.ao),s.aB,(AV.str s.ah),(AV.int .i64 s.af),(AV.int .i64 s.au),(AV.int .i64 s.ag),(AV.int .i64 s.aq)])::cz 19) h .ret h4 (NN bm (fun i=>(AV.ptr i 0))<|CC<|MM (aw 84 0 (AV.agg [s.ai,(AV.int .i64 s.aj),(AV.int .i64 s.ao),s.aB,(AV.str s.ah),(AV.int .i64 s.af),(AV.int .i64 s.au),(AV.int .i64 s.ag),(AV.int .i64 s.aq)]) aE k!)<|EE k2<|CN 3<|NN pL (fun i=>(AV.ptr i 0))<|SS KK<|CN 3<|MM (aw 3 8 (AV.int .i64 s.aq) (yC _ _ o! (eH _ _ aE)) k!)<|CN 2<|MM (aw 3 7 (AV.int .i64 s.ag) (yC _ _ o! (eH _ _ aE)) k!)<|CN 2<|MM (aw 3 2 (AV.int .i64 (((lp s).1).out)) jl k!)<|VV (eP 3 false false .i64 (IntKind.i64.wrap (s.aq - s.ag)) (((lp s).1).out))<|CC<|ZZ) k!
 have e:bu s=(decide ((((lp s).1).out)≤(IntKind.i64.wrap (s.aq - s.ag)))):=by simp only[bu,cond_true,cond_false]
 rw[e]
 exact az rfl (bz Tryz.func60 vu k! (.inr rfl) ev k!) gN rfl
end Go.Proofs.bt
