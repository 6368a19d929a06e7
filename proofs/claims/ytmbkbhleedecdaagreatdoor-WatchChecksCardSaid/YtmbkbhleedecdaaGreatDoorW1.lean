import Derived.Test.YtmbkbhleedecdaaGreatDoorW0
namespace Go.Proofs.aM
open Go.Proofs Ab
noncomputable section
set_option maxRecDepth 100000
set_option maxHeartbeats 4000000
set_option linter.unusedVariables false
set_option linter.unusedSimpArgs false
def lU:Code:=(Tryz.f30.body).getD .skip
theorem kH:Tryz.f30.body=some lU:=by kernel_rfl
def sR:Code:=(b5 lU).getD 0 .skip
def dk (P:Nat→Int) (bl:List bF):Nat→Nat→Option (Int)
 | 0,_=>none
 | eC+1,i0=>(bif (!decide ((P i0)=0)) then some (P i0) else dk P bl eC (i0+1))
theorem iT {d:Nat} {h:ax} (bJ:AV) (g:FuncId) (cap:List AV) (bl:List bF) (P:Nat→Int) (bh:aJ h bJ bl) (hP:∀j,j<bl.length→∀aV hh,Tidy hh→Has h hh→aJ hh aV (bl.take j)→cT d (.fn g) (aV:: .agg (aH.c (bl.g j))::cap) hh= .ret (.int .i64 (P j)) hh):∀(k_ i_:Nat) (_:i_+k_=bl.length) (x:Nat→AV) (hh:ax) (aF:Tidy hh) (aG:Has h hh),aB (cT (d)) sR ⟨(bJ::(x 1)::(AV.func g [] cap)::rx x 3 11 (bJ::(Zn bl.length)::(Zn i_)::rx x 17 14 [])),hh,[],.no⟩ (.exit 0) hh (fun y=>(bJ::(y 1)::(AV.func g [] cap)::rx y 3 11 (bJ::(Zn bl.length)::rx y 16 15 []))) (fun r y=>(bJ::(y 1)::(AV.func g [] cap)::rx y 3 3 ((Zi r)::rx y 7 7 (bJ::(Zn bl.length)::rx y 16 15 [])))) (dk P bl k_ i_)
 | 0,i0,jh,x,hh,aF,aG=>by
   have dp:=bh.small
   have q1:(decide (((i0:Nat):Int)<((bl.length:Nat):Int)))=false:=d!
   exact aB.out rfl (pk (d) _ _ hh _ hh (VV (aY 3 false false .i64 ((i0:Nat):Int) ((bl.length:Nat):Int))<|BB q1<|ZZ) k!) (bW.refl aF) k!
 | eC+1,i0,jh,x,hh,aF,aG=>by
   have dp:=bh.small
   have q1:(decide (((i0:Nat):Int)<((bl.length:Nat):Int)))=true:=d!
   obtain ⟨p3,q4,eD⟩:=(bh.has aG).elem (i:=i0) o!
   have ik:b8 env (some (.slice 71)) (some bJ) (some (Zn i0))=some (AV.ptr p3 q4):=eD
   have ji:bS env hh 71 (AV.ptr p3 q4)=some (AV.agg [(Zi (bl.g i0).az),(Zi (bl.g i0).level),(Zi (bl.g i0).bq),(Zi (bl.g i0).measure)]):=(bh.has aG).load o! eD
   obtain ⟨h6,kI,kJ,BK,n7,eS⟩:=lk aF (aK.cells [(Zi 0),(Zi 0),(Zi 0),(Zi 0)] 71 false)
   have iC:Has hh h6:=eS
   obtain ⟨h7,kK,dK,xm,bG,cH⟩:=vF (t:=71) (n:=4) (i:=hh.nx) (L:=[(Zi (bl.g i0).az),(Zi (bl.g i0).level),(Zi (bl.g i0).bq),(Zi (bl.g i0).measure)]) kJ n7 k! rfl rfl (by simp only[AV.cells,List.all_cons,List.all_nil,Bool.and_true,Bool.and_self,kC,iA,kD,kE,fY,nW,nX,nY,nZ,n4,kF])
   have cK:Has hh h7:=Has.eB iC cH aF o!
   obtain ⟨r8,Qu,Qv⟩:=(bh.has aG).pre (t:=24) k! (i:=i0) o!
   have SM:dx env 24 bJ (none) (some (Zn i0)) (none)=some r8:=Qu
   have uv:=hP i0 o! r8 h7 dK (aG.trans cK) (Qv.has cK)
   have ve:AV.same 20 (AV.agg [(Zi (bl.g i0).az),(Zi (bl.g i0).level),(Zi (bl.g i0).bq),(Zi (bl.g i0).measure)]) (AV.agg [(Zi (bl.g i0).az),(Zi (bl.g i0).level),(Zi (bl.g i0).bq),(Zi (bl.g i0).measure)])=true:=cW 18 (eX (fun n=>aC n _ _) (eX (fun n=>aC n _ _) (eX (fun n=>aC n _ _) (eX (fun n=>aC n _ _) zG))))
   rcases Bool.eq_false_or_eq_true (!decide ((P i0)=0)) with f1 | f1
   · have fK:=rO f1
     exact aB.ret (P i0) (by simp only[dk,f1,ak,ah]) (pk (d) _ _ hh _ h7 (VV (aY 3 false false .i64 ((i0:Nat):Int) ((bl.length:Nat):Int))<|BC q1<|VV ik<|MM ji<|NN kI (fun i=>(Pt i))<|CC<|SS kK<|CN 3<|QQ SM<|MM (ao 71 0 (AV.agg [(Zi (bl.g i0).az),(Zi (bl.g i0).level),(Zi (bl.g i0).bq),(Zi (bl.g i0).measure)]) bG k!)<|EE uv<|CC<|HH (ao 71 0 (AV.agg [(Zi (bl.g i0).az),(Zi (bl.g i0).level),(Zi (bl.g i0).bq),(Zi (bl.g i0).measure)]) bG k!)<|HH ve<|CC<|VV (cf 31 false true .i64 (P i0) 0)<|BB f1<|CN 2<|ZZ) k!) (⟨dK,cK,by omega⟩) k!
   · have fK:=rP f1
     have Dq:=eZ 3 false true i0 1 o!
     exact aB.round (by simp only[dk,f1,ak,ah]) (pk (d) _ _ hh _ h7 (VV (aY 3 false false .i64 ((i0:Nat):Int) ((bl.length:Nat):Int))<|BC q1<|VV ik<|MM ji<|NN kI (fun i=>(Pt i))<|CC<|SS kK<|CN 3<|QQ SM<|MM (ao 71 0 (AV.agg [(Zi (bl.g i0).az),(Zi (bl.g i0).level),(Zi (bl.g i0).bq),(Zi (bl.g i0).measure)]) bG k!)<|EE uv<|CC<|HH (ao 71 0 (AV.agg [(Zi (bl.g i0).az),(Zi (bl.g i0).level),(Zi (bl.g i0).bq),(Zi (bl.g i0).measure)]) bG k!)<|HH ve<|CC<|VV (cf 31 false true .i64 (P i0) 0)<|BV f1 Dq<|CC<|ZZ) k!) (⟨dK,cK,by omega⟩) _ k! (fun x=>iT bJ g cap bl P bh hP eC (i0+1) o! x h7 dK (aG.trans cK))
def cO (bl:List bF) (cj:Int) (P:Nat→Int):Int:=(bif (decide (cj<((bl.length:Nat):Int))) then 3 else (match (dk P bl bl.length 0) with | none=>0 | some BL=>BL))
theorem vI {d:Nat} {h:ax} {bJ:AV} {g:FuncId} {cap:List AV} (bl:List bF) (cj:Int) (P:Nat→Int) (fZ:aJ h bJ bl) (hP:∀j,j<bl.length→∀aV hh,Tidy hh→Has h hh→aJ hh aV (bl.take j)→cT d (.fn g) (aV:: .agg (aH.c (bl.g j))::cap) hh= .ret (.int .i64 (P j)) hh) (ca:Tidy h):cT (d+1) (.fn 30) [bJ,(Zi cj),(AV.func g [] cap)] h= .ret (Zi (cO bl cj P)) h:=by
 have BN:=fZ.small
 have eb:cg (some (.slice 71)) (some bJ)=some (Zn bl.length):=fZ.len
 rcases Bool.eq_false_or_eq_true (decide (cj<((bl.length:Nat):Int))) with f0 | f0
 · have e_:=of_decide_eq_true f0
   have e:cO bl cj P=3:=by simp only[cO,f0,ak,ah]
   rw[e]
   exact aw rfl (aI Tryz.func30 kH rfl (.inr rfl) (pk (d) _ _ h _ h (CN 2<|VV eb<|CC<|VV (b7 3 false false .i64 ((bl.length:Nat):Int) cj)<|BC f0<|ZZ) k!) k!) (Has.refl _) rfl
 · have e_:=of_decide_eq_false f0
   have ye:cg (some (.slice 71)) (some bJ)=some (Zn bl.length):=fZ.len
   cases dD:dk P bl bl.length 0 with
   | none=>
     obtain ⟨As,h5,eE,eF⟩:=aB.n dD (iT (d:=d) (h:=h) bJ g cap bl P fZ hP bl.length 0 o! (fun k_=>((bJ::(Zi cj)::(AV.func g [] cap)::AV.undef::AV.undef::AV.undef::(Zi 0)::AV.undef::AV.undef::AV.undef::bJ::(Zn bl.length)::(Zi cj)::(AV.bool (decide (cj<((bl.length:Nat):Int))))::bJ::(Zn bl.length)::(Zi 0)::jg 14):List AV).getD k_ AV.undef) h ca (Has.refl _))
     have sS:=eF.y
     have Ad:h.nx≤h5.nx:=eF.n
     have lD:Has h h5:=eF.a
     have e:cO bl cj P=0:=by simp only[cO,f0,dD,ak,ah]
     rw[e]
     exact aw rfl (aI Tryz.func30 kH rfl (.inr rfl) (pk (d) _ _ h _ h5 (CN 2<|VV eb<|CC<|VV (b7 3 false false .i64 ((bl.length:Nat):Int) cj)<|BC f0<|VV ye<|CC<|LL eE<|CC<|ZZ) k!) k!) lD rfl
   | some BL=>
     obtain ⟨As,h5,eE,eF⟩:=aB.r dD (iT (d:=d) (h:=h) bJ g cap bl P fZ hP bl.length 0 o! (fun k_=>((bJ::(Zi cj)::(AV.func g [] cap)::AV.undef::AV.undef::AV.undef::(Zi 0)::AV.undef::AV.undef::AV.undef::bJ::(Zn bl.length)::(Zi cj)::(AV.bool (decide (cj<((bl.length:Nat):Int))))::bJ::(Zn bl.length)::(Zi 0)::jg 14):List AV).getD k_ AV.undef) h ca (Has.refl _))
     have sS:=eF.y
     have Ad:h.nx≤h5.nx:=eF.n
     have lD:Has h h5:=eF.a
     have e:cO bl cj P=BL:=by simp only[cO,f0,dD,ak,ah]
     rw[e]
     exact aw rfl (aI Tryz.func30 kH rfl (.inr rfl) (pk (d) _ _ h _ h5 (CN 2<|VV eb<|CC<|VV (b7 3 false false .i64 ((bl.length:Nat):Int) cj)<|BC f0<|VV ye<|CC<|LL eE<|ZZ) k!) k!) lD rfl
def kU:Code:=(Tryz.f28.body).getD .skip
theorem jt:Tryz.f28.body=some kU:=by kernel_rfl
def rl:Code:=(b5 kU).getD 0 .skip
def cJ (P:Nat→Int) (bl:List aL):Nat→Nat→Option (Int)
 | 0,_=>none
 | eC+1,i0=>(bif (!decide ((P i0)=0)) then some (P i0) else cJ P bl eC (i0+1))
theorem hX {d:Nat} {h:ax} (bJ:AV) (g:FuncId) (cap:List AV) (bl:List aL) (P:Nat→Int) (bh:aJ h bJ bl) (hP:∀j,j<bl.length→∀aV hh,Tidy hh→Has h hh→aJ hh aV (bl.take j)→cT d (.fn g) (aV:: .agg (aH.c (bl.g j))::cap) hh= .ret (.int .i64 (P j)) hh):∀(k_ i_:Nat) (_:i_+k_=bl.length) (x:Nat→AV) (hh:ax) (aF:Tidy hh) (aG:Has h hh),aB (cT (d)) rl ⟨(bJ::(x 1)::(AV.func g [] cap)::rx x 3 11 (bJ::(Zn bl.length)::(Zn i_)::rx x 17 14 [])),hh,[],.no⟩ (.exit 0) hh (fun y=>(bJ::(y 1)::(AV.func g [] cap)::rx y 3 11 (bJ::(Zn bl.length)::rx y 16 15 []))) (fun r y=>(bJ::(y 1)::(AV.func g [] cap)::rx y 3 3 ((Zi r)::rx y 7 7 (bJ::(Zn bl.length)::rx y 16 15 [])))) (cJ P bl k_ i_)
 | 0,i0,jh,x,hh,aF,aG=>by
   have dp:=bh.small
   have q1:(decide (((i0:Nat):Int)<((bl.length:Nat):Int)))=false:=d!
   exact aB.out rfl (pk (d) _ _ hh _ hh (VV (aY 3 false false .i64 ((i0:Nat):Int) ((bl.length:Nat):Int))<|BB q1<|ZZ) k!) (bW.refl aF) k!
 | eC+1,i0,jh,x,hh,aF,aG=>by
   have dp:=bh.small
   have q1:(decide (((i0:Nat):Int)<((bl.length:Nat):Int)))=true:=d!
   obtain ⟨p3,q4,eD⟩:=(bh.has aG).elem (i:=i0) o!
   have ik:b8 env (some (.slice 45)) (some bJ) (some (Zn i0))=some (AV.ptr p3 q4):=eD
   have ji:bS env hh 45 (AV.ptr p3 q4)=some (AV.agg [(AV.str (bl.g i0).name),(AV.str (bl.g i0).ba),(Zi (bl.g i0).bx),(Zi (bl.g i0).eK),(Zi (bl.g i0).bm)]):=(bh.has aG).load o! eD
   obtain ⟨h6,kI,kJ,BK,n7,eS⟩:=lk aF (aK.cells [(AV.str []),(AV.str []),(Zi 0),(Zi 0),(Zi 0)] 45 false)
   have iC:Has hh h6:=eS
   obtain ⟨h7,kK,dK,xm,bG,cH⟩:=vF (t:=45) (n:=5) (i:=hh.nx) (L:=[(AV.str (bl.g i0).name),(AV.str (bl.g i0).ba),(Zi (bl.g i0).bx),(Zi (bl.g i0).eK),(Zi (bl.g i0).bm)]) kJ n7 k! rfl rfl (by simp only[AV.cells,List.all_cons,List.all_nil,Bool.and_true,Bool.and_self,kC,iA,kD,kE,fY,nW,nX,nY,nZ,n4,kF])
   have cK:Has hh h7:=Has.eB iC cH aF o!
   obtain ⟨r8,Qu,Qv⟩:=(bh.has aG).pre (t:=23) k! (i:=i0) o!
   have SM:dx env 23 bJ (none) (some (Zn i0)) (none)=some r8:=Qu
   have uv:=hP i0 o! r8 h7 dK (aG.trans cK) (Qv.has cK)
   have ve:AV.same 20 (AV.agg [(AV.str (bl.g i0).name),(AV.str (bl.g i0).ba),(Zi (bl.g i0).bx),(Zi (bl.g i0).eK),(Zi (bl.g i0).bm)]) (AV.agg [(AV.str (bl.g i0).name),(AV.str (bl.g i0).ba),(Zi (bl.g i0).bx),(Zi (bl.g i0).eK),(Zi (bl.g i0).bm)])=true:=cW 18 (eX (fun n=>aP n _) (eX (fun n=>aP n _) (eX (fun n=>aC n _ _) (eX (fun n=>aC n _ _) (eX (fun n=>aC n _ _) zG)))))
   rcases Bool.eq_false_or_eq_true (!decide ((P i0)=0)) with f1 | f1
   · have fK:=rO f1
     exact aB.ret (P i0) (by simp only[cJ,f1,ak,ah]) (pk (d) _ _ hh _ h7 (VV (aY 3 false false .i64 ((i0:Nat):Int) ((bl.length:Nat):Int))<|BC q1<|VV ik<|MM ji<|NN kI (fun i=>(Pt i))<|CC<|SS kK<|CN 3<|QQ SM<|MM (ao 45 0 (AV.agg [(AV.str (bl.g i0).name),(AV.str (bl.g i0).ba),(Zi (bl.g i0).bx),(Zi (bl.g i0).eK),(Zi (bl.g i0).bm)]) bG k!)<|EE uv<|CC<|HH (ao 45 0 (AV.agg [(AV.str (bl.g i0).name),(AV.str (bl.g i0).ba),(Zi (bl.g i0).bx),(Zi (bl.g i0).eK),(Zi (bl.g i0).bm)]) bG k!)<|HH ve<|CC<|VV (cf 31 false true .i64 (P i0) 0)<|BB f1<|CN 2<|ZZ) k!) (⟨dK,cK,by omega⟩) k!
   · have fK:=rP f1
     have Dq:=eZ 3 false true i0 1 o!
     exact aB.round (by simp only[cJ,f1,ak,ah]) (pk (d) _ _ hh _ h7 (VV (aY 3 false false .i64 ((i0:Nat):Int) ((bl.length:Nat):Int))<|BC q1<|VV ik<|MM ji<|NN kI (fun i=>(Pt i))<|CC<|SS kK<|CN 3<|QQ SM<|MM (ao 45 0 (AV.agg [(AV.str (bl.g i0).name),(AV.str (bl.g i0).ba),(Zi (bl.g i0).bx),(Zi (bl.g i0).eK),(Zi (bl.g i0).bm)]) bG k!)<|EE uv<|CC<|HH (ao 45 0 (AV.agg [(AV.str (bl.g i0).name),(AV.str (bl.g i0).ba),(Zi (bl.g i0).bx),(Zi (bl.g i0).eK),(Zi (bl.g i0).bm)]) bG k!)<|HH ve<|CC<|VV (cf 31 false true .i64 (P i0) 0)<|BV f1 Dq<|CC<|ZZ) k!) (⟨dK,cK,by omega⟩) _ k! (fun x=>hX bJ g cap bl P bh hP eC (i0+1) o! x h7 dK (aG.trans cK))
def bX (bl:List aL) (cj:Int) (P:Nat→Int):Int:=(bif (decide (cj<((bl.length:Nat):Int))) then 3 else (match (cJ P bl bl.length 0) with | none=>0 | some BL=>BL))
theorem sU {d:Nat} {h:ax} {bJ:AV} {g:FuncId} {cap:List AV} (bl:List aL) (cj:Int) (P:Nat→Int) (fZ:aJ h bJ bl) (hP:∀j,j<bl.length→∀aV hh,Tidy hh→Has h hh→aJ hh aV (bl.take j)→cT d (.fn g) (aV:: .agg (aH.c (bl.g j))::cap) hh= .ret (.int .i64 (P j)) hh) (ca:Tidy h):cT (d+1) (.fn 28) [bJ,(Zi cj),(AV.func g [] cap)] h= .ret (Zi (bX bl cj P)) h:=by
 have BN:=fZ.small
 have eb:cg (some (.slice 45)) (some bJ)=some (Zn bl.length):=fZ.len
 rcases Bool.eq_false_or_eq_true (decide (cj<((bl.length:Nat):Int))) with f0 | f0
 · have e_:=of_decide_eq_true f0
   have e:bX bl cj P=3:=by simp only[bX,f0,ak,ah]
   rw[e]
   exact aw rfl (aI Tryz.func28 jt rfl (.inr rfl) (pk (d) _ _ h _ h (CN 2<|VV eb<|CC<|VV (b7 3 false false .i64 ((bl.length:Nat):Int) cj)<|BC f0<|ZZ) k!) k!) (Has.refl _) rfl
 · have e_:=of_decide_eq_false f0
   have ye:cg (some (.slice 45)) (some bJ)=some (Zn bl.length):=fZ.len
   cases dD:cJ P bl bl.length 0 with
   | none=>
     obtain ⟨As,h5,eE,eF⟩:=aB.n dD (hX (d:=d) (h:=h) bJ g cap bl P fZ hP bl.length 0 o! (fun k_=>((bJ::(Zi cj)::(AV.func g [] cap)::AV.undef::AV.undef::AV.undef::(Zi 0)::AV.undef::AV.undef::AV.undef::bJ::(Zn bl.length)::(Zi cj)::(AV.bool (decide (cj<((bl.length:Nat):Int))))::bJ::(Zn bl.length)::(Zi 0)::jg 14):List AV).getD k_ AV.undef) h ca (Has.refl _))
     have sS:=eF.y
     have Ad:h.nx≤h5.nx:=eF.n
     have lD:Has h h5:=eF.a
     have e:bX bl cj P=0:=by simp only[bX,f0,dD,ak,ah]
     rw[e]
     exact aw rfl (aI Tryz.func28 jt rfl (.inr rfl) (pk (d) _ _ h _ h5 (CN 2<|VV eb<|CC<|VV (b7 3 false false .i64 ((bl.length:Nat):Int) cj)<|BC f0<|VV ye<|CC<|LL eE<|CC<|ZZ) k!) k!) lD rfl
   | some BL=>
     obtain ⟨As,h5,eE,eF⟩:=aB.r dD (hX (d:=d) (h:=h) bJ g cap bl P fZ hP bl.length 0 o! (fun k_=>((bJ::(Zi cj)::(AV.func g [] cap)::AV.undef::AV.undef::AV.undef::(Zi 0)::AV.undef::AV.undef::AV.undef::bJ::(Zn bl.length)::(Zi cj)::(AV.bool (decide (cj<((bl.length:Nat):Int))))::bJ::(Zn bl.length)::(Zi 0)::jg 14):List AV).getD k_ AV.undef) h ca (Has.refl _))
     have sS:=eF.y
     have Ad:h.nx≤h5.nx:=eF.n
     have lD:Has h h5:=eF.a
     have e:bX bl cj P=BL:=by simp only[bX,f0,dD,ak,ah]
     rw[e]
     exact aw rfl (aI Tryz.func28 jt rfl (.inr rfl) (pk (d) _ _ h _ h5 (CN 2<|VV eb<|CC<|VV (b7 3 false false .i64 ((bl.length:Nat):Int) cj)<|BC f0<|VV ye<|CC<|LL eE<|ZZ) k!) k!) lD rfl
def ko:Code:=(Tryz.f26.body).getD .skip
theorem iU:Tryz.f26.body=some ko:=by kernel_rfl
def qo:Code:=(b5 ko).getD 0 .skip
def cC (P:Nat→Int) (bl:List aQ):Nat→Nat→Option (Int)
 | 0,_=>none
 | eC+1,i0=>(bif (!decide ((P i0)=0)) then some (P i0) else cC P bl eC (i0+1))
theorem gR {d:Nat} {h:ax} (bJ:AV) (g:FuncId) (cap:List AV) (bl:List aQ) (P:Nat→Int) (bh:aJ h bJ bl) (hP:∀j,j<bl.length→∀aV hh,Tidy hh→Has h hh→aJ hh aV (bl.take j)→cT d (.fn g) (aV:: .agg (aH.c (bl.g j))::cap) hh= .ret (.int .i64 (P j)) hh):∀(k_ i_:Nat) (_:i_+k_=bl.length) (x:Nat→AV) (hh:ax) (aF:Tidy hh) (aG:Has h hh),aB (cT (d)) qo ⟨(bJ::(x 1)::(AV.func g [] cap)::rx x 3 11 (bJ::(Zn bl.length)::(Zn i_)::rx x 17 14 [])),hh,[],.no⟩ (.exit 0) hh (fun y=>(bJ::(y 1)::(AV.func g [] cap)::rx y 3 11 (bJ::(Zn bl.length)::rx y 16 15 []))) (fun r y=>(bJ::(y 1)::(AV.func g [] cap)::rx y 3 3 ((Zi r)::rx y 7 7 (bJ::(Zn bl.length)::rx y 16 15 [])))) (cC P bl k_ i_)
 | 0,i0,jh,x,hh,aF,aG=>by
   have dp:=bh.small
   have q1:(decide (((i0:Nat):Int)<((bl.length:Nat):Int)))=false:=d!
   exact aB.out rfl (pk (d) _ _ hh _ hh (VV (aY 3 false false .i64 ((i0:Nat):Int) ((bl.length:Nat):Int))<|BB q1<|ZZ) k!) (bW.refl aF) k!
 | eC+1,i0,jh,x,hh,aF,aG=>by
   have dp:=bh.small
   have q1:(decide (((i0:Nat):Int)<((bl.length:Nat):Int)))=true:=d!
   obtain ⟨p3,q4,eD⟩:=(bh.has aG).elem (i:=i0) o!
   have ik:b8 env (some (.slice 43)) (some bJ) (some (Zn i0))=some (AV.ptr p3 q4):=eD
   have ji:bS env hh 43 (AV.ptr p3 q4)=some (AV.agg [(AV.str (bl.g i0).name),(Zi (bl.g i0).aq),(Zi (bl.g i0).aj),(Zi (bl.g i0).aO),(Zi (bl.g i0).aR),(Zi (bl.g i0).bad),(bl.g i0).aD]):=(bh.has aG).load o! eD
   obtain ⟨h6,kI,kJ,BK,n7,eS⟩:=lk aF (aK.cells [(AV.str []),(Zi 0),(Zi 0),(Zi 0),(Zi 0),(Zi 0),AV.aX] 43 false)
   have iC:Has hh h6:=eS
   have sc8:AV.scalar (bl.g i0).aD=true:=(((bh.has aG).ok (i:=i0) o!).2).scalar
   obtain ⟨h7,kK,dK,xm,bG,cH⟩:=vF (t:=43) (n:=7) (i:=hh.nx) (L:=[(AV.str (bl.g i0).name),(Zi (bl.g i0).aq),(Zi (bl.g i0).aj),(Zi (bl.g i0).aO),(Zi (bl.g i0).aR),(Zi (bl.g i0).bad),(bl.g i0).aD]) kJ n7 k! rfl rfl (by simp only[AV.cells,List.all_cons,List.all_nil,Bool.and_true,Bool.and_self,kC,iA,kD,kE,fY,nW,nX,nY,nZ,n4,kF,sc8])
   have cK:Has hh h7:=Has.eB iC cH aF o!
   obtain ⟨r9,aai,acu⟩:=(bh.has aG).pre (t:=22) k! (i:=i0) o!
   have aaj:dx env 22 bJ (none) (some (Zn i0)) (none)=some r9:=aai
   have Jg:=hP i0 o! r9 h7 dK (aG.trans cK) (acu.has cK)
   have Gv:AV.same 20 (AV.agg [(AV.str (bl.g i0).name),(Zi (bl.g i0).aq),(Zi (bl.g i0).aj),(Zi (bl.g i0).aO),(Zi (bl.g i0).aR),(Zi (bl.g i0).bad),(bl.g i0).aD]) (AV.agg [(AV.str (bl.g i0).name),(Zi (bl.g i0).aq),(Zi (bl.g i0).aj),(Zi (bl.g i0).aO),(Zi (bl.g i0).aR),(Zi (bl.g i0).bad),(bl.g i0).aD])=true:=cW 18 (eX (fun n=>aP n _) (eX (fun n=>aC n _ _) (eX (fun n=>aC n _ _) (eX (fun n=>aC n _ _) (eX (fun n=>aC n _ _) (eX (fun n=>aC n _ _) (eX ((bh.has aG).ok (i:=i0) o!).2.same zG)))))))
   rcases Bool.eq_false_or_eq_true (!decide ((P i0)=0)) with f1 | f1
   · have fK:=rO f1
     exact aB.ret (P i0) (by simp only[cC,f1,ak,ah]) (pk (d) _ _ hh _ h7 (VV (aY 3 false false .i64 ((i0:Nat):Int) ((bl.length:Nat):Int))<|BC q1<|VV ik<|MM ji<|NN kI (fun i=>(Pt i))<|CC<|SS kK<|CN 3<|QQ aaj<|MM (ao 43 0 (AV.agg [(AV.str (bl.g i0).name),(Zi (bl.g i0).aq),(Zi (bl.g i0).aj),(Zi (bl.g i0).aO),(Zi (bl.g i0).aR),(Zi (bl.g i0).bad),(bl.g i0).aD]) bG k!)<|EE Jg<|CC<|HH (ao 43 0 (AV.agg [(AV.str (bl.g i0).name),(Zi (bl.g i0).aq),(Zi (bl.g i0).aj),(Zi (bl.g i0).aO),(Zi (bl.g i0).aR),(Zi (bl.g i0).bad),(bl.g i0).aD]) bG k!)<|HH Gv<|CC<|VV (cf 31 false true .i64 (P i0) 0)<|BB f1<|CN 2<|ZZ) k!) (⟨dK,cK,by omega⟩) k!
   · have fK:=rP f1
     have Qw:=eZ 3 false true i0 1 o!
     exact aB.round (by simp only[cC,f1,ak,ah]) (pk (d) _ _ hh _ h7 (VV (aY 3 false false .i64 ((i0:Nat):Int) ((bl.length:Nat):Int))<|BC q1<|VV ik<|MM ji<|NN kI (fun i=>(Pt i))<|CC<|SS kK<|CN 3<|QQ aaj<|MM (ao 43 0 (AV.agg [(AV.str (bl.g i0).name),(Zi (bl.g i0).aq),(Zi (bl.g i0).aj),(Zi (bl.g i0).aO),(Zi (bl.g i0).aR),(Zi (bl.g i0).bad),(bl.g i0).aD]) bG k!)<|EE Jg<|CC<|HH (ao 43 0 (AV.agg [(AV.str (bl.g i0).name),(Zi (bl.g i0).aq),(Zi (bl.g i0).aj),(Zi (bl.g i0).aO),(Zi (bl.g i0).aR),(Zi (bl.g i0).bad),(bl.g i0).aD]) bG k!)<|HH Gv<|CC<|VV (cf 31 false true .i64 (P i0) 0)<|BV f1 Qw<|CC<|ZZ) k!) (⟨dK,cK,by omega⟩) _ k! (fun x=>gR bJ g cap bl P bh hP eC (i0+1) o! x h7 dK (aG.trans cK))
def bI (bl:List aQ) (cj:Int) (P:Nat→Int):Int:=(bif (decide (cj<((bl.length:Nat):Int))) then 3 else (match (cC P bl bl.length 0) with | none=>0 | some BL=>BL))
theorem rX {d:Nat} {h:ax} {bJ:AV} {g:FuncId} {cap:List AV} (bl:List aQ) (cj:Int) (P:Nat→Int) (fZ:aJ h bJ bl) (hP:∀j,j<bl.length→∀aV hh,Tidy hh→Has h hh→aJ hh aV (bl.take j)→cT d (.fn g) (aV:: .agg (aH.c (bl.g j))::cap) hh= .ret (.int .i64 (P j)) hh) (ca:Tidy h):cT (d+1) (.fn 26) [bJ,(Zi cj),(AV.func g [] cap)] h= .ret (Zi (bI bl cj P)) h:=by
 have BN:=fZ.small
 have eb:cg (some (.slice 43)) (some bJ)=some (Zn bl.length):=fZ.len
 rcases Bool.eq_false_or_eq_true (decide (cj<((bl.length:Nat):Int))) with f0 | f0
 · have e_:=of_decide_eq_true f0
   have e:bI bl cj P=3:=by simp only[bI,f0,ak,ah]
   rw[e]
   exact aw rfl (aI Tryz.func26 iU rfl (.inr rfl) (pk (d) _ _ h _ h (CN 2<|VV eb<|CC<|VV (b7 3 false false .i64 ((bl.length:Nat):Int) cj)<|BC f0<|ZZ) k!) k!) (Has.refl _) rfl
 · have e_:=of_decide_eq_false f0
   have ye:cg (some (.slice 43)) (some bJ)=some (Zn bl.length):=fZ.len
   cases dD:cC P bl bl.length 0 with
   | none=>
     obtain ⟨As,h5,eE,eF⟩:=aB.n dD (gR (d:=d) (h:=h) bJ g cap bl P fZ hP bl.length 0 o! (fun k_=>((bJ::(Zi cj)::(AV.func g [] cap)::AV.undef::AV.undef::AV.undef::(Zi 0)::AV.undef::AV.undef::AV.undef::bJ::(Zn bl.length)::(Zi cj)::(AV.bool (decide (cj<((bl.length:Nat):Int))))::bJ::(Zn bl.length)::(Zi 0)::jg 14):List AV).getD k_ AV.undef) h ca (Has.refl _))
     have sS:=eF.y
     have Ad:h.nx≤h5.nx:=eF.n
     have lD:Has h h5:=eF.a
     have e:bI bl cj P=0:=by simp only[bI,f0,dD,ak,ah]
     rw[e]
     exact aw rfl (aI Tryz.func26 iU rfl (.inr rfl) (pk (d) _ _ h _ h5 (CN 2<|VV eb<|CC<|VV (b7 3 false false .i64 ((bl.length:Nat):Int) cj)<|BC f0<|VV ye<|CC<|LL eE<|CC<|ZZ) k!) k!) lD rfl
   | some BL=>
     obtain ⟨As,h5,eE,eF⟩:=aB.r dD (gR (d:=d) (h:=h) bJ g cap bl P fZ hP bl.length 0 o! (fun k_=>((bJ::(Zi cj)::(AV.func g [] cap)::AV.undef::AV.undef::AV.undef::(Zi 0)::AV.undef::AV.undef::AV.undef::bJ::(Zn bl.length)::(Zi cj)::(AV.bool (decide (cj<((bl.length:Nat):Int))))::bJ::(Zn bl.length)::(Zi 0)::jg 14):List AV).getD k_ AV.undef) h ca (Has.refl _))
     have sS:=eF.y
     have Ad:h.nx≤h5.nx:=eF.n
     have lD:Has h h5:=eF.a
     have e:bI bl cj P=BL:=by simp only[bI,f0,dD,ak,ah]
     rw[e]
     exact aw rfl (aI Tryz.func26 iU rfl (.inr rfl) (pk (d) _ _ h _ h5 (CN 2<|VV eb<|CC<|VV (b7 3 false false .i64 ((bl.length:Nat):Int) cj)<|BC f0<|VV ye<|CC<|LL eE<|ZZ) k!) k!) lD rfl
def sW:Code:=(Tryz.f65.body).getD .skip
theorem xn:Tryz.f65.body=some sW:=by kernel_rfl
def fF (o:aL) (c:aL):Bool:=(decide (o.name=c.name))
theorem xp {d:Nat} {h:ax} (o:aL) (c:aL) (cB:Nat) (Gt:aH.ok h o) (h_c:aH.ok h c) (Qt:h.get cB=some (.cells (aH.c c) 45 false)) (ca:Tidy h):cT (d+1) (.fn 65) [(AV.agg [(AV.str o.name),(AV.str o.ba),(Zi o.bx),(Zi o.eK),(Zi o.bm)]),(Pt cB)] h= .ret (AV.bool (fF o c)) h:=by
 obtain ⟨h1,br,cD,lh,aA,dC⟩:=lk ca (aK.cells [(AV.str o.name),(AV.str o.ba),(Zi o.bx),(Zi o.eK),(Zi o.bm)] 45 false)
 have bB:Has h h1:=dC
 have e:fF o c=(decide (o.name=c.name)):=by simp only[fF,ak,ah]
 rw[e]
 exact aw rfl (aI Tryz.func65 xn rfl (.inr rfl) (pk (d) _ _ h _ h1 (NN br (fun i=>(Pt i))<|CN 2<|MM (ao 9 0 (AV.str o.name) aA k!)<|CC<|MM (ao 9 0 (AV.str c.name) (dC _ _ Qt) k!)<|VV (ni 9 false false o.name c.name)<|CC<|ZZ) k!) k!) bB rfl
def sX:Code:=(Tryz.f66.body).getD .skip
theorem pr:Tryz.f66.body=some sX:=by kernel_rfl
def dh (o:aL) (c:aL):Bool:=(bif (decide (o.ba=c.ba)) then (decide (o.bx=c.bx)) else false)
theorem xq {d:Nat} {h:ax} (o:aL) (c:aL) (cB:Nat) (Gt:aH.ok h o) (h_c:aH.ok h c) (Qt:h.get cB=some (.cells (aH.c c) 45 false)) (ca:Tidy h):cT (d+1) (.fn 66) [(AV.agg [(AV.str o.name),(AV.str o.ba),(Zi o.bx),(Zi o.eK),(Zi o.bm)]),(Pt cB)] h= .ret (AV.bool (dh o c)) h:=by
 obtain ⟨h1,br,cD,lh,aA,dC⟩:=lk ca (aK.cells [(AV.str o.name),(AV.str o.ba),(Zi o.bx),(Zi o.eK),(Zi o.bm)] 45 false)
 have bB:Has h h1:=dC
 rcases Bool.eq_false_or_eq_true (decide (o.ba=c.ba)) with f0 | f0
 · have e_:=of_decide_eq_true f0
   have e:dh o c=(decide (o.bx=c.bx)):=by simp only[dh,f0,ak,ah]
   rw[e]
   exact aw rfl (aI Tryz.func66 pr rfl (.inr rfl) (pk (d) _ _ h _ h1 (NN br (fun i=>(Pt i))<|CN 2<|MM (ao 9 1 (AV.str o.ba) aA k!)<|CC<|MM (ao 9 1 (AV.str c.ba) (dC _ _ Qt) k!)<|VV (ni 9 false false o.ba c.ba)<|CC<|BC f0<|BM f0 (ao 3 2 (Zi o.bx) aA k!)<|BC f0<|BM f0 (ao 3 2 (Zi c.bx) (dC _ _ Qt) k!)<|BV f0 (eA 3 false false .i64 o.bx c.bx)<|VV (iI (decide (o.bx=c.bx)) false f0)<|CC<|ZZ) k!) k!) bB rfl
 · have e_:=of_decide_eq_false f0
   have e:dh o c=false:=by simp only[dh,f0,ak,ah]
   rw[e]
   exact aw rfl (aI Tryz.func66 pr rfl (.inr rfl) (pk (d) _ _ h _ h1 (NN br (fun i=>(Pt i))<|CN 2<|MM (ao 9 1 (AV.str o.ba) aA k!)<|CC<|MM (ao 9 1 (AV.str c.ba) (dC _ _ Qt) k!)<|VV (ni 9 false false o.ba c.ba)<|CC<|BB f0<|BB f0<|BB f0<|BB f0<|BV f0 (p_ false f0)<|CC<|ZZ) k!) k!) bB rfl
def mY:Code:=(Tryz.f89.body).getD .skip
theorem qp:Tryz.f89.body=some mY:=by kernel_rfl
def vJ:Code:=(b5 mY).getD 0 .skip
def dq (s:List aL) (P:aL→Bool):Nat→Nat→Option (Int)
 | 0,_=>none
 | eC+1,i0=>(bif (P (s.g i0)) then some ((i0:Nat):Int) else dq s P eC (i0+1))
theorem j_ {d:Nat} {h:ax} (sV:AV) (g:FuncId) (cap:List AV) (s:List aL) (P:aL→Bool) (bh:aJ h sV s) (hP:∀y∈s,∀hh,Tidy hh→Has h hh→cT d (.fn g) (.agg (aH.c y)::cap) hh= .ret (.bool (P y)) hh):∀(k_ i_:Nat) (_:i_+k_=s.length) (x:Nat→AV) (hh:ax) (aF:Tidy hh) (aG:Has h hh),aB (cT (d)) vJ ⟨(sV::(AV.func g [] cap)::rx x 2 5 ((Zn s.length)::(Zn i_)::rx x 9 10 [])),hh,[],.no⟩ (.exit 0) hh (fun y=>(sV::(AV.func g [] cap)::rx y 2 5 ((Zn s.length)::rx y 8 11 []))) (fun r y=>(sV::(AV.func g [] cap)::(y 2)::(y 3)::(Zi r)::(y 5)::(y 6)::(Zn s.length)::rx y 8 11 [])) (dq s P k_ i_)
 | 0,i0,jh,x,hh,aF,aG=>by
   have dp:=bh.small
   have q1:(decide (((i0:Nat):Int)<((s.length:Nat):Int)))=false:=d!
   exact aB.out rfl (pk (d) _ _ hh _ hh (VV (aY 3 false false .i64 ((i0:Nat):Int) ((s.length:Nat):Int))<|BB q1<|ZZ) k!) (bW.refl aF) k!
 | eC+1,i0,jh,x,hh,aF,aG=>by
   have dp:=bh.small
   have q1:(decide (((i0:Nat):Int)<((s.length:Nat):Int)))=true:=d!
   obtain ⟨p3,q4,eD⟩:=(bh.has aG).elem (i:=i0) o!
   have ik:b8 env (some (.slice 45)) (some sV) (some (Zn i0))=some (AV.ptr p3 q4):=eD
   have ji:bS env hh 45 (AV.ptr p3 q4)=some (AV.agg [(AV.str (s.g i0).name),(AV.str (s.g i0).ba),(Zi (s.g i0).bx),(Zi (s.g i0).eK),(Zi (s.g i0).bm)]):=(bh.has aG).load o! eD
   have k6:=hP (s.g i0) (BF o!) hh aF aG
   rcases Bool.eq_false_or_eq_true (P (s.g i0)) with f1 | f1
   · exact aB.ret ((i0:Nat):Int) (by simp only[dq,f1,ak,ah]) (pk (d) _ _ hh _ hh (VV (aY 3 false false .i64 ((i0:Nat):Int) ((s.length:Nat):Int))<|BB q1<|CN 5<|VV ik<|MM ji<|EE k6<|BB f1<|CN 2<|ZZ) k!) (bW.refl aF) k!
   · have u8:=eZ 3 false true i0 1 o!
     exact aB.round (by simp only[dq,f1,ak,ah]) (pk (d) _ _ hh _ hh (VV (aY 3 false false .i64 ((i0:Nat):Int) ((s.length:Nat):Int))<|BB q1<|CN 5<|VV ik<|MM ji<|EE k6<|BV f1 u8<|CC<|ZZ) k!) (bW.refl aF) _ k! (fun x=>j_ sV g cap s P bh hP eC (i0+1) o! x hh aF aG)
def eG (s:List aL) (P:aL→Bool):Int:=(match (dq s P s.length 0) with | none=>(-1) | some Ka=>Ka)
theorem yM {d:Nat} {h:ax} {sV:AV} {g:FuncId} {cap:List AV} (s:List aL) (P:aL→Bool) (sP:aJ h sV s) (hP:∀y∈s,∀hh,Tidy hh→Has h hh→cT d (.fn g) (.agg (aH.c y)::cap) hh= .ret (.bool (P y)) hh) (ca:Tidy h):cT (d+1) (.fn 89) [sV,(AV.func g [] cap)] h= .ret (Zi (eG s P)) h:=by
 have BH:=sP.small
 have eb:cg (some (.slice 45)) (some sV)=some (Zn s.length):=sP.len
 cases iB:dq s P s.length 0 with
 | none=>
   obtain ⟨N',h3,js,kG⟩:=aB.n iB (j_ (d:=d) (h:=h) sV g cap s P sP hP s.length 0 o! (fun k_=>((sV::(AV.func g [] cap)::AV.undef::AV.undef::(Zi 0)::AV.undef::sV::(Zn s.length)::(Zi 0)::jg 10):List AV).getD k_ AV.undef) h ca (Has.refl _))
   have mR:=kG.y
   have Dn:h.nx≤h3.nx:=kG.n
   have gv:Has h h3:=kG.a
   have e:eG s P=(-1):=by simp only[eG,iB,ak,ah]
   rw[e]
   exact aw rfl (aI Tryz.func89 qp rfl (.inr rfl) (pk (d) _ _ h _ h3 (CN 2<|VV eb<|CC<|LL js<|CC<|ZZ) k!) k!) gv rfl
 | some Ka=>
   obtain ⟨N',h3,js,kG⟩:=aB.r iB (j_ (d:=d) (h:=h) sV g cap s P sP hP s.length 0 o! (fun k_=>((sV::(AV.func g [] cap)::AV.undef::AV.undef::(Zi 0)::AV.undef::sV::(Zn s.length)::(Zi 0)::jg 10):List AV).getD k_ AV.undef) h ca (Has.refl _))
   have mR:=kG.y
   have Dn:h.nx≤h3.nx:=kG.n
   have gv:Has h h3:=kG.a
   have e:eG s P=Ka:=by simp only[eG,iB,ak,ah]
   rw[e]
   exact aw rfl (aI Tryz.func89 qp rfl (.inr rfl) (pk (d) _ _ h _ h3 (CN 2<|VV eb<|CC<|LL js<|ZZ) k!) k!) gv rfl
def rm:Code:=(Tryz.f64.body).getD .skip
theorem uK:Tryz.f64.body=some rm:=by kernel_rfl
def dr (s:List aL) (P:aL→Bool):Bool:=(decide (0≤(eG s P)))
theorem mZ {d:Nat} {h:ax} {sV:AV} {g:FuncId} {cap:List AV} (s:List aL) (P:aL→Bool) (sP:aJ h sV s) (hP:∀y∈s,∀hh,Tidy hh→Has h hh→cT d (.fn g) (.agg (aH.c y)::cap) hh= .ret (.bool (P y)) hh) (ca:Tidy h):cT (d+2) (.fn 64) [sV,(AV.func g [] cap)] h= .ret (AV.bool (dr s P)) h:=by
 have BH:=sP.small
 have k1:=yM (d:=d) s P sP hP ca
 have e:dr s P=(decide (0≤(eG s P))):=by simp only[dr,ak,ah]
 rw[e]
 exact aw rfl (aI Tryz.func64 uK rfl (.inr rfl) (pk (d+1) _ _ h _ h (CN 3<|EE k1<|VV (b9 3 false true .i64 (eG s P) 0)<|CC<|ZZ) k!) k!) (Has.refl _) rfl
def vf:Code:=(Tryz.f57.body).getD .skip
theorem rn:Tryz.f57.body=some vf:=by kernel_rfl
def FJ:Code:=(b5 vf).getD 0 .skip
def bA (bQ:List UInt8):Nat→Nat→Option (Bool)
 | 0,_=>none
 | eC+1,i0=>(bif (decide (97≤(((bQ.g i0).toNat:Nat):Int))) then (bif (decide (48≤(((bQ.g i0).toNat:Nat):Int))) then (bif (decide ((((bQ.g i0).toNat:Nat):Int)≤57)) then (bif (!(decide ((((bQ.g i0).toNat:Nat):Int)≤122))) then (bif (decide (((i0:Nat):Int)=0)) then some false else bA bQ eC (i0+1)) else bA bQ eC (i0+1)) else (bif (!(decide ((((bQ.g i0).toNat:Nat):Int)≤122))) then (bif (decide (((i0:Nat):Int)=0)) then some false else (bif (!(decide ((((bQ.g i0).toNat:Nat):Int)=45))) then some false else bA bQ eC (i0+1))) else bA bQ eC (i0+1))) else (bif (!(decide ((((bQ.g i0).toNat:Nat):Int)≤122))) then (bif (decide (((i0:Nat):Int)=0)) then some false else (bif (!(decide ((((bQ.g i0).toNat:Nat):Int)=45))) then some false else bA bQ eC (i0+1))) else bA bQ eC (i0+1))) else (bif (decide (48≤(((bQ.g i0).toNat:Nat):Int))) then (bif (decide ((((bQ.g i0).toNat:Nat):Int)≤57)) then (bif (decide (((i0:Nat):Int)=0)) then some false else bA bQ eC (i0+1)) else (bif (decide (((i0:Nat):Int)=0)) then some false else (bif (!(decide ((((bQ.g i0).toNat:Nat):Int)=45))) then some false else bA bQ eC (i0+1)))) else (bif (decide (((i0:Nat):Int)=0)) then some false else (bif (!(decide ((((bQ.g i0).toNat:Nat):Int)=45))) then some false else bA bQ eC (i0+1)))))
theorem dP {d:Nat} {h:ax} (bQ:List UInt8) (bh:bQ.length<2^60):∀(k_ i_:Nat) (_:i_+k_=(List.length bQ)) (x:Nat→AV) (hh:ax) (aF:Tidy hh) (aG:Has h hh),aB (cT (d)) FJ ⟨((AV.str bQ)::rx x 1 13 ((Zn (List.length bQ))::(Zn i_)::rx x 16 39 [])),hh,[],.no⟩ (.exit 0) hh (fun y=>((AV.str bQ)::rx y 1 13 ((Zn (List.length bQ))::rx y 15 40 []))) (fun r y=>((AV.str bQ)::(y 1)::(AV.bool r)::rx y 3 11 ((Zn (List.length bQ))::rx y 15 40 []))) (bA bQ k_ i_)
 | 0,i0,jh,x,hh,aF,aG=>by
   have q1:(decide (((i0:Nat):Int)<((List.length bQ:Nat):Int)))=false:=d!
   exact aB.out rfl (pk (d) _ _ hh _ hh (VV (aY 3 false false .i64 ((i0:Nat):Int) ((List.length bQ:Nat):Int))<|BB q1<|ZZ) k!) (bW.refl aF) k!
 | eC+1,i0,jh,x,hh,aF,aG=>by
   have q1:(decide (((i0:Nat):Int)<((List.length bQ:Nat):Int)))=true:=d!
   have ik:j9 env (some .string) (some (AV.str bQ)) (some (Zn i0))=some (AV.int .u8 (((bQ.g i0).toNat:Nat):Int)):=jO (j:=i0) o!
   rcases Bool.eq_false_or_eq_true (decide (97≤(((bQ.g i0).toNat:Nat):Int))) with f1 | f1
   · have fK:=of_decide_eq_true f1
     have xr:j9 env (some .string) (some (AV.str bQ)) (some (Zn i0))=some (AV.int .u8 (((bQ.g i0).toNat:Nat):Int)):=jO (j:=i0) o!
     have Ns:j9 env (some .string) (some (AV.str bQ)) (some (Zn i0))=some (AV.int .u8 (((bQ.g i0).toNat:Nat):Int)):=jO (j:=i0) o!
     rcases Bool.eq_false_or_eq_true (decide (48≤(((bQ.g i0).toNat:Nat):Int))) with f2 | f2
     · have mT:=of_decide_eq_true f2
       have zI:j9 env (some .string) (some (AV.str bQ)) (some (Zn i0))=some (AV.int .u8 (((bQ.g i0).toNat:Nat):Int)):=jO (j:=i0) o!
       rcases Bool.eq_false_or_eq_true (decide ((((bQ.g i0).toNat:Nat):Int)≤57)) with f3 | f3
       · have kM:=of_decide_eq_true f3
         rcases Bool.eq_false_or_eq_true (!(decide ((((bQ.g i0).toNat:Nat):Int)≤122))) with f4 | f4
         · have lE:=rO f4
           rcases Bool.eq_false_or_eq_true (decide (((i0:Nat):Int)=0)) with f5 | f5
           · have yN:=of_decide_eq_true f5
             exact aB.ret false (by simp only[bA,f1,f2,f3,f4,f5,ak,ah]) (pk (d) _ _ hh _ hh (VV (aY 3 false false .i64 ((i0:Nat):Int) ((List.length bQ:Nat):Int))<|BB q1<|CN 4<|VV ik<|VV (b9 5 false true .u8 (((bQ.g i0).toNat:Nat):Int) 97)<|CC<|BC f1<|BC f1<|BV f1 xr<|BV f1 (lg 5 false true .u8 (((bQ.g i0).toNat:Nat):Int) 122)<|VV (iI (decide ((((bQ.g i0).toNat:Nat):Int)≤122)) false f1)<|CN 3<|VV Ns<|VV (b9 5 false true .u8 (((bQ.g i0).toNat:Nat):Int) 48)<|CC<|BC f2<|BC f2<|BV f2 zI<|BV f2 (lg 5 false true .u8 (((bQ.g i0).toNat:Nat):Int) 57)<|VV (iI (decide ((((bQ.g i0).toNat:Nat):Int)≤57)) false f2)<|CC<|BB f3<|BB f3<|BB f3<|BV f3 (ml true f3)<|CN 4<|BC f4<|BV f4 (eA 3 false true .i64 ((i0:Nat):Int) 0)<|BC f4<|BB f5<|BB f5<|BV f4 (ml true f5)<|VV (iI true false f4)<|TT<|CC<|ZZ) k!) (bW.refl aF) k!
           · have yN:=of_decide_eq_false f5
             have At:=eZ 3 false true i0 1 o!
             exact aB.round (by simp only[bA,f1,f2,f3,f4,f5,ak,ah]) (pk (d) _ _ hh _ hh (VV (aY 3 false false .i64 ((i0:Nat):Int) ((List.length bQ:Nat):Int))<|BB q1<|CN 4<|VV ik<|VV (b9 5 false true .u8 (((bQ.g i0).toNat:Nat):Int) 97)<|CC<|BC f1<|BC f1<|BV f1 xr<|BV f1 (lg 5 false true .u8 (((bQ.g i0).toNat:Nat):Int) 122)<|VV (iI (decide ((((bQ.g i0).toNat:Nat):Int)≤122)) false f1)<|CN 3<|VV Ns<|VV (b9 5 false true .u8 (((bQ.g i0).toNat:Nat):Int) 48)<|CC<|BC f2<|BC f2<|BV f2 zI<|BV f2 (lg 5 false true .u8 (((bQ.g i0).toNat:Nat):Int) 57)<|VV (iI (decide ((((bQ.g i0).toNat:Nat):Int)≤57)) false f2)<|CC<|BB f3<|BB f3<|BB f3<|BV f3 (ml true f3)<|CN 4<|BC f4<|BV f4 (eA 3 false true .i64 ((i0:Nat):Int) 0)<|BC f4<|BC f5<|BC f5<|BV f4 (pcf true false f5)<|VV (iI false false f4)<|FF<|VV At<|CC<|ZZ) k!) (bW.refl aF) _ k! (fun x=>dP bQ bh eC (i0+1) o! x hh aF aG)
         · have lE:=rP f4
           have zJ:=eZ 3 false true i0 1 o!
           exact aB.round (by simp only[bA,f1,f2,f3,f4,ak,ah]) (pk (d) _ _ hh _ hh (VV (aY 3 false false .i64 ((i0:Nat):Int) ((List.length bQ:Nat):Int))<|BB q1<|CN 4<|VV ik<|VV (b9 5 false true .u8 (((bQ.g i0).toNat:Nat):Int) 97)<|CC<|BC f1<|BC f1<|BV f1 xr<|BV f1 (lg 5 false true .u8 (((bQ.g i0).toNat:Nat):Int) 122)<|VV (iI (decide ((((bQ.g i0).toNat:Nat):Int)≤122)) false f1)<|CN 3<|VV Ns<|VV (b9 5 false true .u8 (((bQ.g i0).toNat:Nat):Int) 48)<|CC<|BC f2<|BC f2<|BV f2 zI<|BV f2 (lg 5 false true .u8 (((bQ.g i0).toNat:Nat):Int) 57)<|VV (iI (decide ((((bQ.g i0).toNat:Nat):Int)≤57)) false f2)<|CC<|BB f3<|BB f3<|BB f3<|BV f3 (ml true f3)<|CN 4<|BB f4<|BB f4<|BB f4<|BV f4 (p_ false f4)<|FF<|VV zJ<|CC<|ZZ) k!) (bW.refl aF) _ k! (fun x=>dP bQ bh eC (i0+1) o! x hh aF aG)
       · have kM:=of_decide_eq_false f3
         have Qx:j9 env (some .string) (some (AV.str bQ)) (some (Zn i0))=some (AV.int .u8 (((bQ.g i0).toNat:Nat):Int)):=jO (j:=i0) o!
         rcases Bool.eq_false_or_eq_true (!(decide ((((bQ.g i0).toNat:Nat):Int)≤122))) with f4 | f4
         · have lE:=rO f4
           rcases Bool.eq_false_or_eq_true (decide (((i0:Nat):Int)=0)) with f5 | f5
           · have yN:=of_decide_eq_true f5
             exact aB.ret false (by simp only[bA,f1,f2,f3,f4,f5,ak,ah]) (pk (d) _ _ hh _ hh (VV (aY 3 false false .i64 ((i0:Nat):Int) ((List.length bQ:Nat):Int))<|BB q1<|CN 4<|VV ik<|VV (b9 5 false true .u8 (((bQ.g i0).toNat:Nat):Int) 97)<|CC<|BC f1<|BC f1<|BV f1 xr<|BV f1 (lg 5 false true .u8 (((bQ.g i0).toNat:Nat):Int) 122)<|VV (iI (decide ((((bQ.g i0).toNat:Nat):Int)≤122)) false f1)<|CN 3<|VV Ns<|VV (b9 5 false true .u8 (((bQ.g i0).toNat:Nat):Int) 48)<|CC<|BC f2<|BC f2<|BV f2 zI<|BV f2 (lg 5 false true .u8 (((bQ.g i0).toNat:Nat):Int) 57)<|VV (iI (decide ((((bQ.g i0).toNat:Nat):Int)≤57)) false f2)<|CC<|BC f3<|BC f3<|BV f3 Qx<|BV f3 (eA 5 false true .u8 (((bQ.g i0).toNat:Nat):Int) 45)<|VV (aE (a:=some (AV.bool true)) (b:=some (AV.bool (decide ((((bQ.g i0).toNat:Nat):Int)=45)))) f3)<|CN 4<|BC f4<|BV f4 (eA 3 false true .i64 ((i0:Nat):Int) 0)<|BC f4<|BB f5<|BB f5<|BV f4 (ml true f5)<|VV (iI true false f4)<|TT<|CC<|ZZ) k!) (bW.refl aF) k!
           · have yN:=of_decide_eq_false f5
             rcases Bool.eq_false_or_eq_true (!(decide ((((bQ.g i0).toNat:Nat):Int)=45))) with f6 | f6
             · have Xu:=rO f6
               exact aB.ret false (by simp only[bA,f1,f2,f3,f4,f5,f6,ak,ah]) (pk (d) _ _ hh _ hh (VV (aY 3 false false .i64 ((i0:Nat):Int) ((List.length bQ:Nat):Int))<|BB q1<|CN 4<|VV ik<|VV (b9 5 false true .u8 (((bQ.g i0).toNat:Nat):Int) 97)<|CC<|BC f1<|BC f1<|BV f1 xr<|BV f1 (lg 5 false true .u8 (((bQ.g i0).toNat:Nat):Int) 122)<|VV (iI (decide ((((bQ.g i0).toNat:Nat):Int)≤122)) false f1)<|CN 3<|VV Ns<|VV (b9 5 false true .u8 (((bQ.g i0).toNat:Nat):Int) 48)<|CC<|BC f2<|BC f2<|BV f2 zI<|BV f2 (lg 5 false true .u8 (((bQ.g i0).toNat:Nat):Int) 57)<|VV (iI (decide ((((bQ.g i0).toNat:Nat):Int)≤57)) false f2)<|CC<|BC f3<|BC f3<|BV f3 Qx<|BV f3 (eA 5 false true .u8 (((bQ.g i0).toNat:Nat):Int) 45)<|VV (aE (a:=some (AV.bool true)) (b:=some (AV.bool (decide ((((bQ.g i0).toNat:Nat):Int)=45)))) f3)<|CN 4<|BC f4<|BV f4 (eA 3 false true .i64 ((i0:Nat):Int) 0)<|BC f4<|BC f5<|BC f5<|BV f4 (aE (a:=some (AV.bool true)) (b:=some (AV.bool (!(decide ((((bQ.g i0).toNat:Nat):Int)=45))))) f5)<|VV (iI (!(decide ((((bQ.g i0).toNat:Nat):Int)=45))) false f4)<|BC f6<|ZZ) k!) (bW.refl aF) k!
             · have Xu:=rP f6
               have Ul:=eZ 3 false true i0 1 o!
               exact aB.round (by simp only[bA,f1,f2,f3,f4,f5,f6,ak,ah]) (pk (d) _ _ hh _ hh (VV (aY 3 false false .i64 ((i0:Nat):Int) ((List.length bQ:Nat):Int))<|BB q1<|CN 4<|VV ik<|VV (b9 5 false true .u8 (((bQ.g i0).toNat:Nat):Int) 97)<|CC<|BC f1<|BC f1<|BV f1 xr<|BV f1 (lg 5 false true .u8 (((bQ.g i0).toNat:Nat):Int) 122)<|VV (iI (decide ((((bQ.g i0).toNat:Nat):Int)≤122)) false f1)<|CN 3<|VV Ns<|VV (b9 5 false true .u8 (((bQ.g i0).toNat:Nat):Int) 48)<|CC<|BC f2<|BC f2<|BV f2 zI<|BV f2 (lg 5 false true .u8 (((bQ.g i0).toNat:Nat):Int) 57)<|VV (iI (decide ((((bQ.g i0).toNat:Nat):Int)≤57)) false f2)<|CC<|BC f3<|BC f3<|BV f3 Qx<|BV f3 (eA 5 false true .u8 (((bQ.g i0).toNat:Nat):Int) 45)<|VV (aE (a:=some (AV.bool true)) (b:=some (AV.bool (decide ((((bQ.g i0).toNat:Nat):Int)=45)))) f3)<|CN 4<|BC f4<|BV f4 (eA 3 false true .i64 ((i0:Nat):Int) 0)<|BC f4<|BC f5<|BC f5<|BV f4 (aE (a:=some (AV.bool true)) (b:=some (AV.bool (!(decide ((((bQ.g i0).toNat:Nat):Int)=45))))) f5)<|VV (iI (!(decide ((((bQ.g i0).toNat:Nat):Int)=45))) false f4)<|BV f6 Ul<|CC<|ZZ) k!) (bW.refl aF) _ k! (fun x=>dP bQ bh eC (i0+1) o! x hh aF aG)
         · have lE:=rP f4
           have At:=eZ 3 false true i0 1 o!
           exact aB.round (by simp only[bA,f1,f2,f3,f4,ak,ah]) (pk (d) _ _ hh _ hh (VV (aY 3 false false .i64 ((i0:Nat):Int) ((List.length bQ:Nat):Int))<|BB q1<|CN 4<|VV ik<|VV (b9 5 false true .u8 (((bQ.g i0).toNat:Nat):Int) 97)<|CC<|BC f1<|BC f1<|BV f1 xr<|BV f1 (lg 5 false true .u8 (((bQ.g i0).toNat:Nat):Int) 122)<|VV (iI (decide ((((bQ.g i0).toNat:Nat):Int)≤122)) false f1)<|CN 3<|VV Ns<|VV (b9 5 false true .u8 (((bQ.g i0).toNat:Nat):Int) 48)<|CC<|BC f2<|BC f2<|BV f2 zI<|BV f2 (lg 5 false true .u8 (((bQ.g i0).toNat:Nat):Int) 57)<|VV (iI (decide ((((bQ.g i0).toNat:Nat):Int)≤57)) false f2)<|CC<|BC f3<|BC f3<|BV f3 Qx<|BV f3 (eA 5 false true .u8 (((bQ.g i0).toNat:Nat):Int) 45)<|VV (aE (a:=some (AV.bool true)) (b:=some (AV.bool (decide ((((bQ.g i0).toNat:Nat):Int)=45)))) f3)<|CN 4<|BB f4<|BB f4<|BB f4<|BV f4 (p_ false f4)<|FF<|VV At<|CC<|ZZ) k!) (bW.refl aF) _ k! (fun x=>dP bQ bh eC (i0+1) o! x hh aF aG)
     · have mT:=of_decide_eq_false f2
       have zI:j9 env (some .string) (some (AV.str bQ)) (some (Zn i0))=some (AV.int .u8 (((bQ.g i0).toNat:Nat):Int)):=jO (j:=i0) o!
       rcases Bool.eq_false_or_eq_true (!(decide ((((bQ.g i0).toNat:Nat):Int)≤122))) with f3 | f3
       · have kM:=rO f3
         rcases Bool.eq_false_or_eq_true (decide (((i0:Nat):Int)=0)) with f4 | f4
         · have lE:=of_decide_eq_true f4
           exact aB.ret false (by simp only[bA,f1,f2,f3,f4,ak,ah]) (pk (d) _ _ hh _ hh (VV (aY 3 false false .i64 ((i0:Nat):Int) ((List.length bQ:Nat):Int))<|BB q1<|CN 4<|VV ik<|VV (b9 5 false true .u8 (((bQ.g i0).toNat:Nat):Int) 97)<|CC<|BC f1<|BC f1<|BV f1 xr<|BV f1 (lg 5 false true .u8 (((bQ.g i0).toNat:Nat):Int) 122)<|VV (iI (decide ((((bQ.g i0).toNat:Nat):Int)≤122)) false f1)<|CN 3<|VV Ns<|VV (b9 5 false true .u8 (((bQ.g i0).toNat:Nat):Int) 48)<|CC<|BB f2<|BB f2<|BB f2<|BV f2 (p_ false f2)<|CC<|FF<|CC<|FF<|CC<|FF<|VV zI<|FF<|VV (eA 5 false true .u8 (((bQ.g i0).toNat:Nat):Int) 45)<|CN 5<|BC f3<|BV f3 (eA 3 false true .i64 ((i0:Nat):Int) 0)<|BC f3<|BB f4<|BB f4<|BV f3 (ml true f4)<|VV (iI true false f3)<|TT<|CC<|ZZ) k!) (bW.refl aF) k!
         · have lE:=of_decide_eq_false f4
           rcases Bool.eq_false_or_eq_true (!(decide ((((bQ.g i0).toNat:Nat):Int)=45))) with f5 | f5
           · have yN:=rO f5
             exact aB.ret false (by simp only[bA,f1,f2,f3,f4,f5,ak,ah]) (pk (d) _ _ hh _ hh (VV (aY 3 false false .i64 ((i0:Nat):Int) ((List.length bQ:Nat):Int))<|BB q1<|CN 4<|VV ik<|VV (b9 5 false true .u8 (((bQ.g i0).toNat:Nat):Int) 97)<|CC<|BC f1<|BC f1<|BV f1 xr<|BV f1 (lg 5 false true .u8 (((bQ.g i0).toNat:Nat):Int) 122)<|VV (iI (decide ((((bQ.g i0).toNat:Nat):Int)≤122)) false f1)<|CN 3<|VV Ns<|VV (b9 5 false true .u8 (((bQ.g i0).toNat:Nat):Int) 48)<|CC<|BB f2<|BB f2<|BB f2<|BV f2 (p_ false f2)<|CC<|FF<|CC<|FF<|CC<|FF<|VV zI<|FF<|VV (eA 5 false true .u8 (((bQ.g i0).toNat:Nat):Int) 45)<|CN 5<|BC f3<|BV f3 (eA 3 false true .i64 ((i0:Nat):Int) 0)<|BC f3<|BC f4<|BC f4<|BV f3 (aE (a:=some (AV.bool true)) (b:=some (AV.bool (!(decide ((((bQ.g i0).toNat:Nat):Int)=45))))) f4)<|VV (iI (!(decide ((((bQ.g i0).toNat:Nat):Int)=45))) false f3)<|BC f5<|ZZ) k!) (bW.refl aF) k!
           · have yN:=rP f5
             have At:=eZ 3 false true i0 1 o!
             exact aB.round (by simp only[bA,f1,f2,f3,f4,f5,ak,ah]) (pk (d) _ _ hh _ hh (VV (aY 3 false false .i64 ((i0:Nat):Int) ((List.length bQ:Nat):Int))<|BB q1<|CN 4<|VV ik<|VV (b9 5 false true .u8 (((bQ.g i0).toNat:Nat):Int) 97)<|CC<|BC f1<|BC f1<|BV f1 xr<|BV f1 (lg 5 false true .u8 (((bQ.g i0).toNat:Nat):Int) 122)<|VV (iI (decide ((((bQ.g i0).toNat:Nat):Int)≤122)) false f1)<|CN 3<|VV Ns<|VV (b9 5 false true .u8 (((bQ.g i0).toNat:Nat):Int) 48)<|CC<|BB f2<|BB f2<|BB f2<|BV f2 (p_ false f2)<|CC<|FF<|CC<|FF<|CC<|FF<|VV zI<|FF<|VV (eA 5 false true .u8 (((bQ.g i0).toNat:Nat):Int) 45)<|CN 5<|BC f3<|BV f3 (eA 3 false true .i64 ((i0:Nat):Int) 0)<|BC f3<|BC f4<|BC f4<|BV f3 (aE (a:=some (AV.bool true)) (b:=some (AV.bool (!(decide ((((bQ.g i0).toNat:Nat):Int)=45))))) f4)<|VV (iI (!(decide ((((bQ.g i0).toNat:Nat):Int)=45))) false f3)<|BV f5 At<|CC<|ZZ) k!) (bW.refl aF) _ k! (fun x=>dP bQ bh eC (i0+1) o! x hh aF aG)
       · have kM:=rP f3
         have u9:=eZ 3 false true i0 1 o!
         exact aB.round (by simp only[bA,f1,f2,f3,ak,ah]) (pk (d) _ _ hh _ hh (VV (aY 3 false false .i64 ((i0:Nat):Int) ((List.length bQ:Nat):Int))<|BB q1<|CN 4<|VV ik<|VV (b9 5 false true .u8 (((bQ.g i0).toNat:Nat):Int) 97)<|CC<|BC f1<|BC f1<|BV f1 xr<|BV f1 (lg 5 false true .u8 (((bQ.g i0).toNat:Nat):Int) 122)<|VV (iI (decide ((((bQ.g i0).toNat:Nat):Int)≤122)) false f1)<|CN 3<|VV Ns<|VV (b9 5 false true .u8 (((bQ.g i0).toNat:Nat):Int) 48)<|CC<|BB f2<|BB f2<|BB f2<|BV f2 (p_ false f2)<|CC<|FF<|CC<|FF<|CC<|FF<|VV zI<|FF<|VV (eA 5 false true .u8 (((bQ.g i0).toNat:Nat):Int) 45)<|CN 5<|BB f3<|BB f3<|BB f3<|BV f3 (p_ false f3)<|FF<|VV u9<|CC<|ZZ) k!) (bW.refl aF) _ k! (fun x=>dP bQ bh eC (i0+1) o! x hh aF aG)
   · have fK:=of_decide_eq_false f1
     have xr:j9 env (some .string) (some (AV.str bQ)) (some (Zn i0))=some (AV.int .u8 (((bQ.g i0).toNat:Nat):Int)):=jO (j:=i0) o!
     rcases Bool.eq_false_or_eq_true (decide (48≤(((bQ.g i0).toNat:Nat):Int))) with f2 | f2
     · have mT:=of_decide_eq_true f2
       have yf:j9 env (some .string) (some (AV.str bQ)) (some (Zn i0))=some (AV.int .u8 (((bQ.g i0).toNat:Nat):Int)):=jO (j:=i0) o!
       rcases Bool.eq_false_or_eq_true (decide ((((bQ.g i0).toNat:Nat):Int)≤57)) with f3 | f3
       · have kM:=of_decide_eq_true f3
         rcases Bool.eq_false_or_eq_true (decide (((i0:Nat):Int)=0)) with f4 | f4
         · have lE:=of_decide_eq_true f4
           exact aB.ret false (by simp only[bA,f1,f2,f3,f4,ak,ah]) (pk (d) _ _ hh _ hh (VV (aY 3 false false .i64 ((i0:Nat):Int) ((List.length bQ:Nat):Int))<|BB q1<|CN 4<|VV ik<|VV (b9 5 false true .u8 (((bQ.g i0).toNat:Nat):Int) 97)<|CC<|BB f1<|BB f1<|BB f1<|BV f1 (p_ false f1)<|CN 3<|VV xr<|VV (b9 5 false true .u8 (((bQ.g i0).toNat:Nat):Int) 48)<|CC<|BC f2<|BC f2<|BV f2 yf<|BV f2 (lg 5 false true .u8 (((bQ.g i0).toNat:Nat):Int) 57)<|VV (iI (decide ((((bQ.g i0).toNat:Nat):Int)≤57)) false f2)<|CC<|BB f3<|BB f3<|BB f3<|BV f3 (ml true f3)<|CN 4<|TT<|CC<|TT<|VV (eA 3 false true .i64 ((i0:Nat):Int) 0)<|TT<|CC<|BB f4<|BB f4<|TT<|VV (ml true f4)<|CC<|TT<|CC<|ZZ) k!) (bW.refl aF) k!
         · have lE:=of_decide_eq_false f4
           have u9:=eZ 3 false true i0 1 o!
           exact aB.round (by simp only[bA,f1,f2,f3,f4,ak,ah]) (pk (d) _ _ hh _ hh (VV (aY 3 false false .i64 ((i0:Nat):Int) ((List.length bQ:Nat):Int))<|BB q1<|CN 4<|VV ik<|VV (b9 5 false true .u8 (((bQ.g i0).toNat:Nat):Int) 97)<|CC<|BB f1<|BB f1<|BB f1<|BV f1 (p_ false f1)<|CN 3<|VV xr<|VV (b9 5 false true .u8 (((bQ.g i0).toNat:Nat):Int) 48)<|CC<|BC f2<|BC f2<|BV f2 yf<|BV f2 (lg 5 false true .u8 (((bQ.g i0).toNat:Nat):Int) 57)<|VV (iI (decide ((((bQ.g i0).toNat:Nat):Int)≤57)) false f2)<|CC<|BB f3<|BB f3<|BB f3<|BV f3 (ml true f3)<|CN 4<|TT<|CC<|TT<|VV (eA 3 false true .i64 ((i0:Nat):Int) 0)<|TT<|CC<|BC f4<|BC f4<|TT<|VV (pcf true false f4)<|CC<|FF<|VV u9<|CC<|ZZ) k!) (bW.refl aF) _ k! (fun x=>dP bQ bh eC (i0+1) o! x hh aF aG)
       · have kM:=of_decide_eq_false f3
         have VN:j9 env (some .string) (some (AV.str bQ)) (some (Zn i0))=some (AV.int .u8 (((bQ.g i0).toNat:Nat):Int)):=jO (j:=i0) o!
         rcases Bool.eq_false_or_eq_true (decide (((i0:Nat):Int)=0)) with f4 | f4
         · have lE:=of_decide_eq_true f4
           exact aB.ret false (by simp only[bA,f1,f2,f3,f4,ak,ah]) (pk (d) _ _ hh _ hh (VV (aY 3 false false .i64 ((i0:Nat):Int) ((List.length bQ:Nat):Int))<|BB q1<|CN 4<|VV ik<|VV (b9 5 false true .u8 (((bQ.g i0).toNat:Nat):Int) 97)<|CC<|BB f1<|BB f1<|BB f1<|BV f1 (p_ false f1)<|CN 3<|VV xr<|VV (b9 5 false true .u8 (((bQ.g i0).toNat:Nat):Int) 48)<|CC<|BC f2<|BC f2<|BV f2 yf<|BV f2 (lg 5 false true .u8 (((bQ.g i0).toNat:Nat):Int) 57)<|VV (iI (decide ((((bQ.g i0).toNat:Nat):Int)≤57)) false f2)<|CC<|BC f3<|BC f3<|BV f3 VN<|BV f3 (eA 5 false true .u8 (((bQ.g i0).toNat:Nat):Int) 45)<|VV (aE (a:=some (AV.bool true)) (b:=some (AV.bool (decide ((((bQ.g i0).toNat:Nat):Int)=45)))) f3)<|CN 4<|TT<|CC<|TT<|VV (eA 3 false true .i64 ((i0:Nat):Int) 0)<|TT<|CC<|BB f4<|BB f4<|TT<|VV (ml true f4)<|CC<|TT<|CC<|ZZ) k!) (bW.refl aF) k!
         · have lE:=of_decide_eq_false f4
           rcases Bool.eq_false_or_eq_true (!(decide ((((bQ.g i0).toNat:Nat):Int)=45))) with f5 | f5
           · have yN:=rO f5
             exact aB.ret false (by simp only[bA,f1,f2,f3,f4,f5,ak,ah]) (pk (d) _ _ hh _ hh (VV (aY 3 false false .i64 ((i0:Nat):Int) ((List.length bQ:Nat):Int))<|BB q1<|CN 4<|VV ik<|VV (b9 5 false true .u8 (((bQ.g i0).toNat:Nat):Int) 97)<|CC<|BB f1<|BB f1<|BB f1<|BV f1 (p_ false f1)<|CN 3<|VV xr<|VV (b9 5 false true .u8 (((bQ.g i0).toNat:Nat):Int) 48)<|CC<|BC f2<|BC f2<|BV f2 yf<|BV f2 (lg 5 false true .u8 (((bQ.g i0).toNat:Nat):Int) 57)<|VV (iI (decide ((((bQ.g i0).toNat:Nat):Int)≤57)) false f2)<|CC<|BC f3<|BC f3<|BV f3 VN<|BV f3 (eA 5 false true .u8 (((bQ.g i0).toNat:Nat):Int) 45)<|VV (aE (a:=some (AV.bool true)) (b:=some (AV.bool (decide ((((bQ.g i0).toNat:Nat):Int)=45)))) f3)<|CN 4<|TT<|CC<|TT<|VV (eA 3 false true .i64 ((i0:Nat):Int) 0)<|TT<|CC<|BC f4<|BC f4<|TT<|VV (aE (a:=some (AV.bool true)) (b:=some (AV.bool (!(decide ((((bQ.g i0).toNat:Nat):Int)=45))))) f4)<|CC<|BC f5<|ZZ) k!) (bW.refl aF) k!
           · have yN:=rP f5
             have At:=eZ 3 false true i0 1 o!
             exact aB.round (by simp only[bA,f1,f2,f3,f4,f5,ak,ah]) (pk (d) _ _ hh _ hh (VV (aY 3 false false .i64 ((i0:Nat):Int) ((List.length bQ:Nat):Int))<|BB q1<|CN 4<|VV ik<|VV (b9 5 false true .u8 (((bQ.g i0).toNat:Nat):Int) 97)<|CC<|BB f1<|BB f1<|BB f1<|BV f1 (p_ false f1)<|CN 3<|VV xr<|VV (b9 5 false true .u8 (((bQ.g i0).toNat:Nat):Int) 48)<|CC<|BC f2<|BC f2<|BV f2 yf<|BV f2 (lg 5 false true .u8 (((bQ.g i0).toNat:Nat):Int) 57)<|VV (iI (decide ((((bQ.g i0).toNat:Nat):Int)≤57)) false f2)<|CC<|BC f3<|BC f3<|BV f3 VN<|BV f3 (eA 5 false true .u8 (((bQ.g i0).toNat:Nat):Int) 45)<|VV (aE (a:=some (AV.bool true)) (b:=some (AV.bool (decide ((((bQ.g i0).toNat:Nat):Int)=45)))) f3)<|CN 4<|TT<|CC<|TT<|VV (eA 3 false true .i64 ((i0:Nat):Int) 0)<|TT<|CC<|BC f4<|BC f4<|TT<|VV (aE (a:=some (AV.bool true)) (b:=some (AV.bool (!(decide ((((bQ.g i0).toNat:Nat):Int)=45))))) f4)<|CC<|BV f5 At<|CC<|ZZ) k!) (bW.refl aF) _ k! (fun x=>dP bQ bh eC (i0+1) o! x hh aF aG)
     · have mT:=of_decide_eq_false f2
       have yf:j9 env (some .string) (some (AV.str bQ)) (some (Zn i0))=some (AV.int .u8 (((bQ.g i0).toNat:Nat):Int)):=jO (j:=i0) o!
       rcases Bool.eq_false_or_eq_true (decide (((i0:Nat):Int)=0)) with f3 | f3
       · have kM:=of_decide_eq_true f3
         exact aB.ret false (by simp only[bA,f1,f2,f3,ak,ah]) (pk (d) _ _ hh _ hh (VV (aY 3 false false .i64 ((i0:Nat):Int) ((List.length bQ:Nat):Int))<|BB q1<|CN 4<|VV ik<|VV (b9 5 false true .u8 (((bQ.g i0).toNat:Nat):Int) 97)<|CC<|BB f1<|BB f1<|BB f1<|BV f1 (p_ false f1)<|CN 3<|VV xr<|VV (b9 5 false true .u8 (((bQ.g i0).toNat:Nat):Int) 48)<|CC<|BB f2<|BB f2<|BB f2<|BV f2 (p_ false f2)<|CC<|FF<|CC<|FF<|CC<|FF<|VV yf<|FF<|VV (eA 5 false true .u8 (((bQ.g i0).toNat:Nat):Int) 45)<|CN 5<|TT<|CC<|TT<|VV (eA 3 false true .i64 ((i0:Nat):Int) 0)<|TT<|CC<|BB f3<|BB f3<|TT<|VV (ml true f3)<|CC<|TT<|CC<|ZZ) k!) (bW.refl aF) k!
       · have kM:=of_decide_eq_false f3
         rcases Bool.eq_false_or_eq_true (!(decide ((((bQ.g i0).toNat:Nat):Int)=45))) with f4 | f4
         · have lE:=rO f4
           exact aB.ret false (by simp only[bA,f1,f2,f3,f4,ak,ah]) (pk (d) _ _ hh _ hh (VV (aY 3 false false .i64 ((i0:Nat):Int) ((List.length bQ:Nat):Int))<|BB q1<|CN 4<|VV ik<|VV (b9 5 false true .u8 (((bQ.g i0).toNat:Nat):Int) 97)<|CC<|BB f1<|BB f1<|BB f1<|BV f1 (p_ false f1)<|CN 3<|VV xr<|VV (b9 5 false true .u8 (((bQ.g i0).toNat:Nat):Int) 48)<|CC<|BB f2<|BB f2<|BB f2<|BV f2 (p_ false f2)<|CC<|FF<|CC<|FF<|CC<|FF<|VV yf<|FF<|VV (eA 5 false true .u8 (((bQ.g i0).toNat:Nat):Int) 45)<|CN 5<|TT<|CC<|TT<|VV (eA 3 false true .i64 ((i0:Nat):Int) 0)<|TT<|CC<|BC f3<|BC f3<|TT<|VV (aE (a:=some (AV.bool true)) (b:=some (AV.bool (!(decide ((((bQ.g i0).toNat:Nat):Int)=45))))) f3)<|CC<|BC f4<|ZZ) k!) (bW.refl aF) k!
         · have lE:=rP f4
           have u9:=eZ 3 false true i0 1 o!
           exact aB.round (by simp only[bA,f1,f2,f3,f4,ak,ah]) (pk (d) _ _ hh _ hh (VV (aY 3 false false .i64 ((i0:Nat):Int) ((List.length bQ:Nat):Int))<|BB q1<|CN 4<|VV ik<|VV (b9 5 false true .u8 (((bQ.g i0).toNat:Nat):Int) 97)<|CC<|BB f1<|BB f1<|BB f1<|BV f1 (p_ false f1)<|CN 3<|VV xr<|VV (b9 5 false true .u8 (((bQ.g i0).toNat:Nat):Int) 48)<|CC<|BB f2<|BB f2<|BB f2<|BV f2 (p_ false f2)<|CC<|FF<|CC<|FF<|CC<|FF<|VV yf<|FF<|VV (eA 5 false true .u8 (((bQ.g i0).toNat:Nat):Int) 45)<|CN 5<|TT<|CC<|TT<|VV (eA 3 false true .i64 ((i0:Nat):Int) 0)<|TT<|CC<|BC f3<|BC f3<|TT<|VV (aE (a:=some (AV.bool true)) (b:=some (AV.bool (!(decide ((((bQ.g i0).toNat:Nat):Int)=45))))) f3)<|CC<|BV f4 u9<|CC<|ZZ) k!) (bW.refl aF) _ k! (fun x=>dP bQ bh eC (i0+1) o! x hh aF aG)
def dQ (bQ:List UInt8):Bool:=(bif (decide (bQ=[])) then false else (bif (decide (16<((List.length bQ:Nat):Int))) then false else (match (bA bQ (List.length bQ) 0) with | none=>true | some BL=>BL)))
theorem rp {d:Nat} {h:ax} (bQ:List UInt8) (Kg:bQ.length<2^60) (ca:Tidy h):cT (d+1) (.fn 57) [(AV.str bQ)] h= .ret (AV.bool (dQ bQ)) h:=by
 rcases Bool.eq_false_or_eq_true (decide (bQ=[])) with f0 | f0
 · have e_:=of_decide_eq_true f0
   have e:dQ bQ=false:=by simp only[dQ,f0,ak,ah]
   rw[e]
   exact aw rfl (aI Tryz.func57 rn rfl (.inr rfl) (pk (d) _ _ h _ h (CN 2<|VV (ni 9 false true bQ [])<|CC<|BB f0<|BB f0<|BV f0 (ml true f0)<|TT<|CC<|ZZ) k!) k!) (Has.refl _) rfl
 · have e_:=of_decide_eq_false f0
   have sn2:bQ.length<2^60:=Kg
   rcases Bool.eq_false_or_eq_true (decide (16<((List.length bQ:Nat):Int))) with f1 | f1
   · have fK:=of_decide_eq_true f1
     have e:dQ bQ=false:=by simp only[dQ,f0,f1,ak,ah]
     rw[e]
     exact aw rfl (aI Tryz.func57 rn rfl (.inr rfl) (pk (d) _ _ h _ h (CN 2<|VV (ni 9 false true bQ [])<|CC<|BC f0<|BC f0<|BV f0 (b7 3 false true .i64 ((List.length bQ:Nat):Int) 16)<|VV (aE (a:=some (AV.bool true)) (b:=some (AV.bool (decide (16<((List.length bQ:Nat):Int))))) f0)<|BC f1<|ZZ) k!) k!) (Has.refl _) rfl
   · have fK:=of_decide_eq_false f1
     cases dD:bA bQ (List.length bQ) 0 with
     | none=>
       obtain ⟨As,h5,eE,eF⟩:=aB.n dD (dP (d:=d) (h:=h) bQ Kg (List.length bQ) 0 o! (fun k_=>(((AV.str bQ)::AV.undef::(AV.bool false)::AV.undef::AV.undef::AV.undef::(AV.str bQ)::(AV.bool (decide (bQ=[])))::(AV.bool (decide (bQ=[])))::(AV.str bQ)::(Zn (List.length bQ))::(AV.bool (decide (16<((List.length bQ:Nat):Int))))::(AV.bool (decide (16<((List.length bQ:Nat):Int))))::(AV.str bQ)::(Zn (List.length bQ))::(Zi 0)::jg 39):List AV).getD k_ AV.undef) h ca (Has.refl _))
       have sS:=eF.y
       have Ad:h.nx≤h5.nx:=eF.n
       have lD:Has h h5:=eF.a
       have e:dQ bQ=true:=by simp only[dQ,f0,f1,dD,ak,ah]
       rw[e]
       exact aw rfl (aI Tryz.func57 rn rfl (.inr rfl) (pk (d) _ _ h _ h5 (CN 2<|VV (ni 9 false true bQ [])<|CC<|BC f0<|BC f0<|BV f0 (b7 3 false true .i64 ((List.length bQ:Nat):Int) 16)<|VV (aE (a:=some (AV.bool true)) (b:=some (AV.bool (decide (16<((List.length bQ:Nat):Int))))) f0)<|BB f1<|CN 3<|LL eE<|CC<|ZZ) k!) k!) lD rfl
     | some BL=>
       obtain ⟨As,h5,eE,eF⟩:=aB.r dD (dP (d:=d) (h:=h) bQ Kg (List.length bQ) 0 o! (fun k_=>(((AV.str bQ)::AV.undef::(AV.bool false)::AV.undef::AV.undef::AV.undef::(AV.str bQ)::(AV.bool (decide (bQ=[])))::(AV.bool (decide (bQ=[])))::(AV.str bQ)::(Zn (List.length bQ))::(AV.bool (decide (16<((List.length bQ:Nat):Int))))::(AV.bool (decide (16<((List.length bQ:Nat):Int))))::(AV.str bQ)::(Zn (List.length bQ))::(Zi 0)::jg 39):List AV).getD k_ AV.undef) h ca (Has.refl _))
       have sS:=eF.y
       have Ad:h.nx≤h5.nx:=eF.n
       have lD:Has h h5:=eF.a
       have e:dQ bQ=BL:=by simp only[dQ,f0,f1,dD,ak,ah]
       rw[e]
       exact aw rfl (aI Tryz.func57 rn rfl (.inr rfl) (pk (d) _ _ h _ h5 (CN 2<|VV (ni 9 false true bQ [])<|CC<|BC f0<|BC f0<|BV f0 (b7 3 false true .i64 ((List.length bQ:Nat):Int) 16)<|VV (aE (a:=some (AV.bool true)) (b:=some (AV.bool (decide (16<((List.length bQ:Nat):Int))))) f0)<|BB f1<|CN 3<|LL eE<|ZZ) k!) k!) lD rfl
def Dr:Code:=(Tryz.f61.body).getD .skip
theorem BP:Tryz.f61.body=some Dr:=by kernel_rfl
def cu (x_:Int) (cj:Int):Bool:=(bif (decide (0≤x_)) then (decide (x_≤cj)) else false)
theorem l_ {d:Nat} {h:ax} (x_:Int) (cj:Int) (ca:Tidy h):cT (d+1) (.fn 61) [(Zi x_),(Zi cj)] h= .ret (AV.bool (cu x_ cj)) h:=by
 rcases Bool.eq_false_or_eq_true (decide (0≤x_)) with f0 | f0
 · have e_:=of_decide_eq_true f0
   have e:cu x_ cj=(decide (x_≤cj)):=by simp only[cu,f0,ak,ah]
   rw[e]
   exact aw rfl (aI Tryz.func61 BP rfl (.inr rfl) (pk (d) _ _ h _ h (CN 2<|VV (b9 3 false true .i64 x_ 0)<|CC<|BC f0<|BC f0<|BV f0 (lg 3 false false .i64 x_ cj)<|VV (iI (decide (x_≤cj)) false f0)<|CC<|ZZ) k!) k!) (Has.refl _) rfl
 · have e_:=of_decide_eq_false f0
   have e:cu x_ cj=false:=by simp only[cu,f0,ak,ah]
   rw[e]
   exact aw rfl (aI Tryz.func61 BP rfl (.inr rfl) (pk (d) _ _ h _ h (CN 2<|VV (b9 3 false true .i64 x_ 0)<|CC<|BB f0<|BB f0<|BV f0 (p_ false f0)<|CC<|ZZ) k!) k!) (Has.refl _) rfl
def Ds:Code:=(Tryz.f43.body).getD .skip
theorem Kh:Tryz.f43.body=some Ds:=by kernel_rfl
def eh (t:Int):Bool:=(cu t 100000)
theorem n8 {d:Nat} {h:ax} (t:Int) (ca:Tidy h):cT (d+2) (.fn 43) [(Zi t)] h= .ret (AV.bool (eh t)) h:=by
 have k1:=l_ (d:=d) t 100000 ca
 have e:eh t=(cu t 100000):=by simp only[eh,ak,ah]
 rw[e]
 exact aw rfl (aI Tryz.func43 Kh rfl (.inr rfl) (pk (d+1) _ _ h _ h (CN 2<|EE k1<|CC<|ZZ) k!) k!) (Has.refl _) rfl
end
end Go.Proofs.aM
