import Derived.Test.YtemlmndojncekaaGreatW0
import Derived.Test.YtemlmndojncekaaGreatW4
import Derived.Test.YtemlmndojncekaaGreatW3
namespace Go.Proofs.aQ
open Go.Proofs Ab
noncomputable section
set_option maxRecDepth 100000
set_option maxHeartbeats 4000000
set_option linter.unusedVariables false
set_option linter.unusedSimpArgs false
def o_:Code:=(Tryz.f45.body).getD .skip
theorem nJ:Tryz.f45.body=some o_:=by kernel_rfl
def yI:Code:=(bw o_).getD 0 .skip
def eF (P:Nat→Int) (bW:List Task):Nat→Nat→Option (Int)
 | 0,_=>none
 | dq+1,i0=>(bif (!decide ((P i0)=0)) then some (P i0) else eF P bW dq (i0+1))
theorem pa {d:Nat} {h:aC} (bM:AV) (g:FuncId) (cap:List AV) (bW:List Task) (P:Nat→Int) (bx:aW h bM bW) (hP:∀j,j<bW.length→∀aV hh,Tidy hh→Has h hh→aW hh aV (bW.take j)→cN d (.fn g) (aV:: .agg (aR.c (bW.g j))::cap) hh= .ret (.int .i64 (P j)) hh):∀(k_ i_:Nat) (_:i_+k_=bW.length) (x:Nat→AV) (hh:aC) (aI:Tidy hh) (aE:Has h hh),aF (cN (d)) yI ⟨(bM::(x 1)::(AV.func g [] cap)::rx x 3 11 (bM::(Zn bW.length)::(Zn i_)::rx x 17 14 [])),hh,[],.no⟩ (.exit 0) hh (fun y=>(bM::(y 1)::(AV.func g [] cap)::rx y 3 11 (bM::(Zn bW.length)::rx y 16 15 []))) (fun r y=>(bM::(y 1)::(AV.func g [] cap)::rx y 3 3 ((Zi r)::rx y 7 7 (bM::(Zn bW.length)::rx y 16 15 [])))) (eF P bW k_ i_)
 | 0,i0,fX,x,hh,aI,aE=>by
   have q1:(decide (((i0:Nat):Int)<((bW.length:Nat):Int)))=false:=d!
   exact aF.out rfl (pk (d) _ _ hh _ hh (VV (bL 3 false false .i64 ((i0:Nat):Int) ((bW.length:Nat):Int))<|BB q1<|ZZ) k!) (bE.refl aI) k!
 | dq+1,i0,fX,x,hh,aI,aE=>by
   have gT:=bx.small
   have q1:(decide (((i0:Nat):Int)<((bW.length:Nat):Int)))=true:=d!
   obtain ⟨p3,q4,cC⟩:=(bx.has aE).elem (i:=i0) o!
   have iW:bO env (some (.slice 40)) (some bM) (some (Zn i0))=some (AV.ptr p3 q4):=cC
   have jY:bh env hh 40 (AV.ptr p3 q4)=some (AV.agg [(AV.str (bW.g i0).name),(Zi (bW.g i0).takes),(bW.g i0).aU,(bW.g i0).a_]):=(bx.has aE).load o! cC
   obtain ⟨h6,mK,ji,zU,mL,bU⟩:=jE aI (aM.cells [(AV.str []),(Zi 0),AV.aG,AV.aG] 40 false)
   have hZ:Has hh h6:=bU
   have Lx:AV.scalar (bW.g i0).aU=true:=(((bx.has aE).ok (i:=i0) o!).2.1).scalar
   have Rl:AV.scalar (bW.g i0).a_=true:=(((bx.has aE).ok (i:=i0) o!).2.2).scalar
   obtain ⟨h7,l7,eP,vH,fH,bp⟩:=n5 (t:=40) (n:=4) (i:=hh.nx) (L:=[(AV.str (bW.g i0).name),(Zi (bW.g i0).takes),(bW.g i0).aU,(bW.g i0).a_]) ji mL k! rfl rfl (by simp only[AV.cells,List.all_cons,List.all_nil,Bool.and_true,Bool.and_self,gr,eO,gu,gv,dG,jK,jL,jM,jN,jO,gz,Lx,Rl])
   have dm:Has hh h7:=Has.dg hZ bp aI o!
   obtain ⟨r10,akc,amG⟩:=(bx.has aE).pre (t:=22) k! (i:=i0) o!
   have Y2:fe env 22 bM (none) (some (Zn i0)) (none)=some r10:=akc
   have k13:=hP i0 o! r10 h7 eP (aE.trans dm) (amG.has dm)
   have W1:AV.same 20 (AV.agg [(AV.str (bW.g i0).name),(Zi (bW.g i0).takes),(bW.g i0).aU,(bW.g i0).a_]) (AV.agg [(AV.str (bW.g i0).name),(Zi (bW.g i0).takes),(bW.g i0).aU,(bW.g i0).a_])=true:=hT 18 (rH (fun n=>mf n _) (rH (fun n=>aS n _ _) (rH ((bx.has aE).ok (i:=i0) o!).2.1.same (rH ((bx.has aE).ok (i:=i0) o!).2.2.same P6))))
   have dJ:=fun {al ps} (k:Pk al _ ps)=>(VV (bL 3 false false .i64 ((i0:Nat):Int) ((bW.length:Nat):Int))<|BC q1<|VV iW<|MM jY<|NN mK (fun i=>(Pt i))<|CC<|SS l7<|CN 3<|QQ Y2<|MM (aO 40 0 (AV.agg [(AV.str (bW.g i0).name),(Zi (bW.g i0).takes),(bW.g i0).aU,(bW.g i0).a_]) fH k!)<|EE k13<|CC<|HH (aO 40 0 (AV.agg [(AV.str (bW.g i0).name),(Zi (bW.g i0).takes),(bW.g i0).aU,(bW.g i0).a_]) fH k!)<|HH W1<|CC<|VV (kS 29 false true .i64 (P i0) 0)<|k:Pk _ [] ps)
   rcases Bool.eq_false_or_eq_true (!decide ((P i0)=0)) with f1 | f1
   · have fP:=P7 f1
     exact aF.ret (P i0) (by simp only[eF,f1,aj,ai]) (pk (d) _ _ hh _ h7 (dJ<|BB f1<|CN 2<|ZZ) k!) (⟨eP,dm,by omega⟩) k!
   · have fP:=P9 f1
     have u16:=fi 3 false true i0 1 o!
     exact aF.round (by simp only[eF,f1,aj,ai]) (pk (d) _ _ hh _ h7 (dJ<|BV f1 u16<|CC<|ZZ) k!) (⟨eP,dm,by omega⟩) _ k! (fun x=>pa bM g cap bW P bx hP dq (i0+1) o! x h7 eP (aE.trans dm))
def bX (bW:List Task) (dM:Int) (P:Nat→Int):Int:=(bif (decide (dM<((bW.length:Nat):Int))) then 3 else (match (eF P bW bW.length 0) with | none=>0 | some C_=>C_))
theorem BI {d:Nat} {h:aC} {bM:AV} {g:FuncId} {cap:List AV} (bW:List Task) (dM:Int) (P:Nat→Int) (kg:aW h bM bW) (hP:∀j,j<bW.length→∀aV hh,Tidy hh→Has h hh→aW hh aV (bW.take j)→cN d (.fn g) (aV:: .agg (aR.c (bW.g j))::cap) hh= .ret (.int .i64 (P j)) hh) (ch:Tidy h):cN (d+1) (.fn 45) [bM,(Zi dM),(AV.func g [] cap)] h= .ret (Zi (bX bW dM P)) h:=by
 have iC:cb (some (.slice 40)) (some bM)=some (Zn bW.length):=kg.len
 have hX:=fun {al ps} (k:Pk al _ ps)=>(CN 2<|VV iC<|CC<|VV (dw 3 false false .i64 ((bW.length:Nat):Int) dM)<|k:Pk _ [] ps)
 rcases Bool.eq_false_or_eq_true (decide (dM<((bW.length:Nat):Int))) with f0 | f0
 · have e:bX bW dM P=3:=by simp only[bX,f0,aj,ai]
   rw[e]
   exact aH rfl (bb Tryz.func45 nJ rfl (.inr rfl) (pk (d) _ _ h _ h (hX<|BC f0<|ZZ) k!) k!) (Has.refl _) rfl
 · have MU:cb (some (.slice 40)) (some bM)=some (Zn bW.length):=kg.len
   have JZ:=pa (d:=d) (h:=h) bM g cap bW P kg hP bW.length 0 o! (fun k_=>((bM::(Zi dM)::(AV.func g [] cap)::AV.undef::AV.undef::AV.undef::(Zi 0)::AV.undef::AV.undef::AV.undef::bM::(Zn bW.length)::(Zi dM)::(AV.bool (decide (dM<((bW.length:Nat):Int))))::bM::(Zn bW.length)::(Zi 0)::jX 14):List AV).getD k_ AV.undef) h ch (Has.refl _)
   cases ek:eF P bW bW.length 0 with
   | none=>
     obtain ⟨EB,h5,ft,jQ⟩:=aF.n ek JZ
     have hG:Has h h5:=jQ.a
     have e:bX bW dM P=0:=by simp only[bX,f0,ek,aj,ai]
     rw[e]
     exact aH rfl (bb Tryz.func45 nJ rfl (.inr rfl) (pk (d) _ _ h _ h5 (hX<|BC f0<|VV MU<|CC<|LL ft<|CC<|ZZ) k!) k!) hG rfl
   | some C_=>
     obtain ⟨EB,h5,ft,jQ⟩:=aF.r ek JZ
     have hG:Has h h5:=jQ.a
     have e:bX bW dM P=C_:=by simp only[bX,f0,ek,aj,ai]
     rw[e]
     exact aH rfl (bb Tryz.func45 nJ rfl (.inr rfl) (pk (d) _ _ h _ h5 (hX<|BC f0<|VV MU<|CC<|LL ft<|ZZ) k!) k!) hG rfl
def mo:Code:=(Tryz.f43.body).getD .skip
theorem kL:Tryz.f43.body=some mo:=by kernel_rfl
def s_:Code:=(bw mo).getD 0 .skip
def dj (P:Nat→Int) (bW:List bJ):Nat→Nat→Option (Int)
 | 0,_=>none
 | dq+1,i0=>(bif (!decide ((P i0)=0)) then some (P i0) else dj P bW dq (i0+1))
theorem mq {d:Nat} {h:aC} (bM:AV) (g:FuncId) (cap:List AV) (bW:List bJ) (P:Nat→Int) (bx:aW h bM bW) (hP:∀j,j<bW.length→∀aV hh,Tidy hh→Has h hh→aW hh aV (bW.take j)→cN d (.fn g) (aV:: .agg (aR.c (bW.g j))::cap) hh= .ret (.int .i64 (P j)) hh):∀(k_ i_:Nat) (_:i_+k_=bW.length) (x:Nat→AV) (hh:aC) (aI:Tidy hh) (aE:Has h hh),aF (cN (d)) s_ ⟨(bM::(x 1)::(AV.func g [] cap)::rx x 3 11 (bM::(Zn bW.length)::(Zn i_)::rx x 17 14 [])),hh,[],.no⟩ (.exit 0) hh (fun y=>(bM::(y 1)::(AV.func g [] cap)::rx y 3 11 (bM::(Zn bW.length)::rx y 16 15 []))) (fun r y=>(bM::(y 1)::(AV.func g [] cap)::rx y 3 3 ((Zi r)::rx y 7 7 (bM::(Zn bW.length)::rx y 16 15 [])))) (dj P bW k_ i_)
 | 0,i0,fX,x,hh,aI,aE=>by
   have q1:(decide (((i0:Nat):Int)<((bW.length:Nat):Int)))=false:=d!
   exact aF.out rfl (pk (d) _ _ hh _ hh (VV (bL 3 false false .i64 ((i0:Nat):Int) ((bW.length:Nat):Int))<|BB q1<|ZZ) k!) (bE.refl aI) k!
 | dq+1,i0,fX,x,hh,aI,aE=>by
   have gT:=bx.small
   have q1:(decide (((i0:Nat):Int)<((bW.length:Nat):Int)))=true:=d!
   obtain ⟨p3,q4,cC⟩:=(bx.has aE).elem (i:=i0) o!
   have iW:bO env (some (.slice 37)) (some bM) (some (Zn i0))=some (AV.ptr p3 q4):=cC
   have jY:bh env hh 37 (AV.ptr p3 q4)=some (AV.agg [(AV.str (bW.g i0).name),(Zi (bW.g i0).aJ),(bW.g i0).dW]):=(bx.has aE).load o! cC
   obtain ⟨h6,mK,ji,zU,mL,bU⟩:=jE aI (aM.cells [(AV.str []),(Zi 0),AV.aG] 37 false)
   have hZ:Has hh h6:=bU
   have Lx:AV.scalar (bW.g i0).dW=true:=(((bx.has aE).ok (i:=i0) o!).2).scalar
   obtain ⟨h7,l7,eP,vH,fH,bp⟩:=n5 (t:=37) (n:=3) (i:=hh.nx) (L:=[(AV.str (bW.g i0).name),(Zi (bW.g i0).aJ),(bW.g i0).dW]) ji mL k! rfl rfl (by simp only[AV.cells,List.all_cons,List.all_nil,Bool.and_true,Bool.and_self,gr,eO,gu,gv,dG,jK,jL,jM,jN,jO,gz,Lx])
   have dm:Has hh h7:=Has.dg hZ bp aI o!
   obtain ⟨r9,akd,amH⟩:=(bx.has aE).pre (t:=23) k! (i:=i0) o!
   have amI:fe env 23 bM (none) (some (Zn i0)) (none)=some r9:=akd
   have k12:=hP i0 o! r9 h7 eP (aE.trans dm) (amH.has dm)
   have VM:AV.same 20 (AV.agg [(AV.str (bW.g i0).name),(Zi (bW.g i0).aJ),(bW.g i0).dW]) (AV.agg [(AV.str (bW.g i0).name),(Zi (bW.g i0).aJ),(bW.g i0).dW])=true:=hT 18 (rH (fun n=>mf n _) (rH (fun n=>aS n _ _) (rH ((bx.has aE).ok (i:=i0) o!).2.same P6)))
   have dJ:=fun {al ps} (k:Pk al _ ps)=>(VV (bL 3 false false .i64 ((i0:Nat):Int) ((bW.length:Nat):Int))<|BC q1<|VV iW<|MM jY<|NN mK (fun i=>(Pt i))<|CC<|SS l7<|CN 3<|QQ amI<|MM (aO 37 0 (AV.agg [(AV.str (bW.g i0).name),(Zi (bW.g i0).aJ),(bW.g i0).dW]) fH k!)<|EE k12<|CC<|HH (aO 37 0 (AV.agg [(AV.str (bW.g i0).name),(Zi (bW.g i0).aJ),(bW.g i0).dW]) fH k!)<|HH VM<|CC<|VV (kS 29 false true .i64 (P i0) 0)<|k:Pk _ [] ps)
   rcases Bool.eq_false_or_eq_true (!decide ((P i0)=0)) with f1 | f1
   · have fP:=P7 f1
     exact aF.ret (P i0) (by simp only[dj,f1,aj,ai]) (pk (d) _ _ hh _ h7 (dJ<|BB f1<|CN 2<|ZZ) k!) (⟨eP,dm,by omega⟩) k!
   · have fP:=P9 f1
     have u15:=fi 3 false true i0 1 o!
     exact aF.round (by simp only[dj,f1,aj,ai]) (pk (d) _ _ hh _ h7 (dJ<|BV f1 u15<|CC<|ZZ) k!) (⟨eP,dm,by omega⟩) _ k! (fun x=>mq bM g cap bW P bx hP dq (i0+1) o! x h7 eP (aE.trans dm))
def bK (bW:List bJ) (dM:Int) (P:Nat→Int):Int:=(bif (decide (dM<((bW.length:Nat):Int))) then 3 else (match (dj P bW bW.length 0) with | none=>0 | some C_=>C_))
theorem vI {d:Nat} {h:aC} {bM:AV} {g:FuncId} {cap:List AV} (bW:List bJ) (dM:Int) (P:Nat→Int) (kg:aW h bM bW) (hP:∀j,j<bW.length→∀aV hh,Tidy hh→Has h hh→aW hh aV (bW.take j)→cN d (.fn g) (aV:: .agg (aR.c (bW.g j))::cap) hh= .ret (.int .i64 (P j)) hh) (ch:Tidy h):cN (d+1) (.fn 43) [bM,(Zi dM),(AV.func g [] cap)] h= .ret (Zi (bK bW dM P)) h:=by
 have iC:cb (some (.slice 37)) (some bM)=some (Zn bW.length):=kg.len
 have hX:=fun {al ps} (k:Pk al _ ps)=>(CN 2<|VV iC<|CC<|VV (dw 3 false false .i64 ((bW.length:Nat):Int) dM)<|k:Pk _ [] ps)
 rcases Bool.eq_false_or_eq_true (decide (dM<((bW.length:Nat):Int))) with f0 | f0
 · have e:bK bW dM P=3:=by simp only[bK,f0,aj,ai]
   rw[e]
   exact aH rfl (bb Tryz.func43 kL rfl (.inr rfl) (pk (d) _ _ h _ h (hX<|BC f0<|ZZ) k!) k!) (Has.refl _) rfl
 · have MU:cb (some (.slice 37)) (some bM)=some (Zn bW.length):=kg.len
   have JZ:=mq (d:=d) (h:=h) bM g cap bW P kg hP bW.length 0 o! (fun k_=>((bM::(Zi dM)::(AV.func g [] cap)::AV.undef::AV.undef::AV.undef::(Zi 0)::AV.undef::AV.undef::AV.undef::bM::(Zn bW.length)::(Zi dM)::(AV.bool (decide (dM<((bW.length:Nat):Int))))::bM::(Zn bW.length)::(Zi 0)::jX 14):List AV).getD k_ AV.undef) h ch (Has.refl _)
   cases ek:dj P bW bW.length 0 with
   | none=>
     obtain ⟨EB,h5,ft,jQ⟩:=aF.n ek JZ
     have hG:Has h h5:=jQ.a
     have e:bK bW dM P=0:=by simp only[bK,f0,ek,aj,ai]
     rw[e]
     exact aH rfl (bb Tryz.func43 kL rfl (.inr rfl) (pk (d) _ _ h _ h5 (hX<|BC f0<|VV MU<|CC<|LL ft<|CC<|ZZ) k!) k!) hG rfl
   | some C_=>
     obtain ⟨EB,h5,ft,jQ⟩:=aF.r ek JZ
     have hG:Has h h5:=jQ.a
     have e:bK bW dM P=C_:=by simp only[bK,f0,ek,aj,ai]
     rw[e]
     exact aH rfl (bb Tryz.func43 kL rfl (.inr rfl) (pk (d) _ _ h _ h5 (hX<|BC f0<|VV MU<|CC<|LL ft<|ZZ) k!) k!) hG rfl
def pc:Code:=(Tryz.f97.body).getD .skip
theorem nK:Tryz.f97.body=some pc:=by kernel_rfl
def yJ:Code:=(bw pc).getD 0 .skip
def eG (P:Nat→Int) (bW:List Span):Nat→Nat→Option (Int)
 | 0,_=>none
 | dq+1,i0=>(bif (!decide ((P i0)=0)) then some (P i0) else eG P bW dq (i0+1))
theorem pe {d:Nat} {h:aC} (bM:AV) (g:FuncId) (cap:List AV) (bW:List Span) (P:Nat→Int) (bx:aW h bM bW) (hP:∀j,j<bW.length→∀aV hh,Tidy hh→Has h hh→aW hh aV (bW.take j)→cN d (.fn g) (aV:: .agg (aR.c (bW.g j))::cap) hh= .ret (.int .i64 (P j)) hh):∀(k_ i_:Nat) (_:i_+k_=bW.length) (x:Nat→AV) (hh:aC) (aI:Tidy hh) (aE:Has h hh),aF (cN (d)) yJ ⟨(bM::(x 1)::(AV.func g [] cap)::rx x 3 11 (bM::(Zn bW.length)::(Zn i_)::rx x 17 14 [])),hh,[],.no⟩ (.exit 0) hh (fun y=>(bM::(y 1)::(AV.func g [] cap)::rx y 3 11 (bM::(Zn bW.length)::rx y 16 15 []))) (fun r y=>(bM::(y 1)::(AV.func g [] cap)::rx y 3 3 ((Zi r)::rx y 7 7 (bM::(Zn bW.length)::rx y 16 15 [])))) (eG P bW k_ i_)
 | 0,i0,fX,x,hh,aI,aE=>by
   have q1:(decide (((i0:Nat):Int)<((bW.length:Nat):Int)))=false:=d!
   exact aF.out rfl (pk (d) _ _ hh _ hh (VV (bL 3 false false .i64 ((i0:Nat):Int) ((bW.length:Nat):Int))<|BB q1<|ZZ) k!) (bE.refl aI) k!
 | dq+1,i0,fX,x,hh,aI,aE=>by
   have gT:=bx.small
   have q1:(decide (((i0:Nat):Int)<((bW.length:Nat):Int)))=true:=d!
   obtain ⟨p3,q4,cC⟩:=(bx.has aE).elem (i:=i0) o!
   have iW:bO env (some (.slice 72)) (some bM) (some (Zn i0))=some (AV.ptr p3 q4):=cC
   have jY:bh env hh 72 (AV.ptr p3 q4)=some (AV.agg [(Zi (bW.g i0).bq),(Zi (bW.g i0).ba)]):=(bx.has aE).load o! cC
   obtain ⟨h6,mK,ji,zU,mL,bU⟩:=jE aI (aM.cells [(Zi 0),(Zi 0)] 72 false)
   have hZ:Has hh h6:=bU
   obtain ⟨h7,l7,eP,vH,fH,bp⟩:=n5 (t:=72) (n:=2) (i:=hh.nx) (L:=[(Zi (bW.g i0).bq),(Zi (bW.g i0).ba)]) ji mL k! rfl rfl (by simp only[AV.cells,List.all_cons,List.all_nil,Bool.and_true,Bool.and_self,gr,eO,gu,gv,dG,jK,jL,jM,jN,jO,gz])
   have dm:Has hh h7:=Has.dg hZ bp aI o!
   obtain ⟨r8,agL,agM⟩:=(bx.has aE).pre (t:=35) k! (i:=i0) o!
   have sl9:fe env 35 bM (none) (some (Zn i0)) (none)=some r8:=agL
   have k11:=hP i0 o! r8 h7 eP (aE.trans dm) (agM.has dm)
   have c12:AV.same 20 (AV.agg [(Zi (bW.g i0).bq),(Zi (bW.g i0).ba)]) (AV.agg [(Zi (bW.g i0).bq),(Zi (bW.g i0).ba)])=true:=hT 18 (rH (fun n=>aS n _ _) (rH (fun n=>aS n _ _) P6))
   have dJ:=fun {al ps} (k:Pk al _ ps)=>(VV (bL 3 false false .i64 ((i0:Nat):Int) ((bW.length:Nat):Int))<|BC q1<|VV iW<|MM jY<|NN mK (fun i=>(Pt i))<|CC<|SS l7<|CN 3<|QQ sl9<|MM (aO 72 0 (AV.agg [(Zi (bW.g i0).bq),(Zi (bW.g i0).ba)]) fH k!)<|EE k11<|CC<|HH (aO 72 0 (AV.agg [(Zi (bW.g i0).bq),(Zi (bW.g i0).ba)]) fH k!)<|HH c12<|CC<|VV (kS 29 false true .i64 (P i0) 0)<|k:Pk _ [] ps)
   rcases Bool.eq_false_or_eq_true (!decide ((P i0)=0)) with f1 | f1
   · have fP:=P7 f1
     exact aF.ret (P i0) (by simp only[eG,f1,aj,ai]) (pk (d) _ _ hh _ h7 (dJ<|BB f1<|CN 2<|ZZ) k!) (⟨eP,dm,by omega⟩) k!
   · have fP:=P9 f1
     have u14:=fi 3 false true i0 1 o!
     exact aF.round (by simp only[eG,f1,aj,ai]) (pk (d) _ _ hh _ h7 (dJ<|BV f1 u14<|CC<|ZZ) k!) (⟨eP,dm,by omega⟩) _ k! (fun x=>pe bM g cap bW P bx hP dq (i0+1) o! x h7 eP (aE.trans dm))
def dD (bW:List Span) (dM:Int) (P:Nat→Int):Int:=(bif (decide (dM<((bW.length:Nat):Int))) then 3 else (match (eG P bW bW.length 0) with | none=>0 | some C_=>C_))
theorem BJ {d:Nat} {h:aC} {bM:AV} {g:FuncId} {cap:List AV} (bW:List Span) (dM:Int) (P:Nat→Int) (kg:aW h bM bW) (hP:∀j,j<bW.length→∀aV hh,Tidy hh→Has h hh→aW hh aV (bW.take j)→cN d (.fn g) (aV:: .agg (aR.c (bW.g j))::cap) hh= .ret (.int .i64 (P j)) hh) (ch:Tidy h):cN (d+1) (.fn 97) [bM,(Zi dM),(AV.func g [] cap)] h= .ret (Zi (dD bW dM P)) h:=by
 have iC:cb (some (.slice 72)) (some bM)=some (Zn bW.length):=kg.len
 have hX:=fun {al ps} (k:Pk al _ ps)=>(CN 2<|VV iC<|CC<|VV (dw 3 false false .i64 ((bW.length:Nat):Int) dM)<|k:Pk _ [] ps)
 rcases Bool.eq_false_or_eq_true (decide (dM<((bW.length:Nat):Int))) with f0 | f0
 · have e:dD bW dM P=3:=by simp only[dD,f0,aj,ai]
   rw[e]
   exact aH rfl (bb Tryz.func97 nK rfl (.inr rfl) (pk (d) _ _ h _ h (hX<|BC f0<|ZZ) k!) k!) (Has.refl _) rfl
 · have MU:cb (some (.slice 72)) (some bM)=some (Zn bW.length):=kg.len
   have JZ:=pe (d:=d) (h:=h) bM g cap bW P kg hP bW.length 0 o! (fun k_=>((bM::(Zi dM)::(AV.func g [] cap)::AV.undef::AV.undef::AV.undef::(Zi 0)::AV.undef::AV.undef::AV.undef::bM::(Zn bW.length)::(Zi dM)::(AV.bool (decide (dM<((bW.length:Nat):Int))))::bM::(Zn bW.length)::(Zi 0)::jX 14):List AV).getD k_ AV.undef) h ch (Has.refl _)
   cases ek:eG P bW bW.length 0 with
   | none=>
     obtain ⟨EB,h5,ft,jQ⟩:=aF.n ek JZ
     have hG:Has h h5:=jQ.a
     have e:dD bW dM P=0:=by simp only[dD,f0,ek,aj,ai]
     rw[e]
     exact aH rfl (bb Tryz.func97 nK rfl (.inr rfl) (pk (d) _ _ h _ h5 (hX<|BC f0<|VV MU<|CC<|LL ft<|CC<|ZZ) k!) k!) hG rfl
   | some C_=>
     obtain ⟨EB,h5,ft,jQ⟩:=aF.r ek JZ
     have hG:Has h h5:=jQ.a
     have e:dD bW dM P=C_:=by simp only[dD,f0,ek,aj,ai]
     rw[e]
     exact aH rfl (bb Tryz.func97 nK rfl (.inr rfl) (pk (d) _ _ h _ h5 (hX<|BC f0<|VV MU<|CC<|LL ft<|ZZ) k!) k!) hG rfl
def EL:Code:=(Tryz.f98.body).getD .skip
theorem lN:Tryz.f98.body=some EL:=by kernel_rfl
def cM (mU:List Span) (s:Span):Int:=(bif (!(dZ s.bq)) then 1 else (bif (!(dZ s.ba)) then 1 else (bif (decide (s.ba<s.bq)) then 1 else (bif (decide (0<((mU.length:Nat):Int))) then (bif (decide (s.bq≤((mU.g (mU.length - 1)).ba))) then 1 else 0) else 0))))
theorem LW {d:Nat} {h:aC} {nH:AV} (mU:List Span) (s:Span) (lL:aW h nH mU) (AK:aR.ok h s) (ch:Tidy h):cN (d+3) (.fn 98) [nH,(AV.agg [(Zi s.bq),(Zi s.ba)])] h= .ret (Zi (cM mU s)) h:=by
 have aiv:=lL.small
 obtain ⟨h1,di,cS,jU,bm,bP⟩:=jE ch (aM.cells [(Zi s.bq),(Zi s.ba)] 72 false)
 have bA:Has h h1:=bP
 have k2:=qV (d:=d) s.bq cS
 have dJ:=fun {al ps} (k:Pk al _ ps)=>(NN di (fun i=>(Pt i))<|CN 2<|MM (aO 3 0 (Zi s.bq) bm k!)<|EE k2<|CN 2<|k:Pk _ [] ps)
 rcases Bool.eq_false_or_eq_true (!(dZ s.bq)) with f0 | f0
 · have e:cM mU s=1:=by simp only[cM,f0,aj,ai]
   rw[e]
   exact aH rfl (bb Tryz.func98 lN rfl (.inr rfl) (pk (d+2) _ _ h _ h1 (dJ<|BB f0<|BC f0<|ZZ) k!) k!) bA rfl
 · have k4:=qV (d:=d) s.ba cS
   have hX:=fun {al ps} (k:Pk al _ ps)=>(dJ<|BC f0<|MM (aO 3 1 (Zi s.ba) bm k!)<|EE k4<|CN 2<|k:Pk _ [] ps)
   rcases Bool.eq_false_or_eq_true (!(dZ s.ba)) with f1 | f1
   · have e:cM mU s=1:=by simp only[cM,f0,f1,aj,ai]
     rw[e]
     exact aH rfl (bb Tryz.func98 lN rfl (.inr rfl) (pk (d+2) _ _ h _ h1 (hX<|BB f1<|BC f1<|ZZ) k!) k!) bA rfl
   · have ow:=fun {al ps} (k:Pk al _ ps)=>(hX<|BC f1<|MM (aO 3 0 (Zi s.bq) bm k!)<|CC<|MM (aO 3 1 (Zi s.ba) bm k!)<|VV (dw 3 false false .i64 s.bq s.ba)<|CC<|k:Pk _ [] ps)
     rcases Bool.eq_false_or_eq_true (decide (s.ba<s.bq)) with f2 | f2
     · have se:=of_decide_eq_true f2
       have e:cM mU s=1:=by simp only[cM,f0,f1,f2,aj,ai]
       rw[e]
       exact aH rfl (bb Tryz.func98 lN rfl (.inr rfl) (pk (d+2) _ _ h _ h1 (ow<|BC f2<|ZZ) k!) k!) bA rfl
     · have se:=of_decide_eq_false f2
       have ln7:cb (some (.slice 72)) (some nH)=some (Zn mU.length):=lL.len
       have y9:=fun {al ps} (k:Pk al _ ps)=>(ow<|BC f2<|VV ln7<|VV (dw 3 false true .i64 ((mU.length:Nat):Int) 0)<|CC<|k:Pk _ [] ps)
       rcases Bool.eq_false_or_eq_true (decide (0<((mU.length:Nat):Int))) with f3 | f3
       · have yG:=of_decide_eq_true f3
         have ln9:cb (some (.slice 72)) (some nH)=some (Zn mU.length):=lL.len
         have u10:=ajl 3 false true mU.length 1 o! o!
         obtain ⟨p12,q13,D'⟩:=lL.elem (i:=(mU.length - 1)) o!
         have RA:bO env (some (.slice 72)) (some nH) (some (Zn (mU.length - 1)))=some (AV.ptr p12 q13):=D'
         have RB:bh env h1 3 (AV.ptr p12 (q13+1))=some (Zi (mU.g (mU.length - 1)).ba):=(lL.has bA).part (t:=3) (j:=1) o! D' k! rfl
         have AL:=fun {al ps} (k:Pk al _ ps)=>(y9<|BC f3<|BM f3 (aO 3 0 (Zi s.bq) bm k!)<|BC f3<|BC f3<|BV f3 ln9<|BV f3 u10<|BV f3 RA<|BC f3<|BM f3 RB<|BV f3 (vF 3 false false .i64 s.bq (mU.g (mU.length - 1)).ba)<|VV (sP (decide (s.bq≤((mU.g (mU.length - 1)).ba))) false f3)<|CC<|HH (aO 3 0 (Zi s.bq) bm k!)<|HH (show AV.same 20 (Zi s.bq) (Zi s.bq)=true from aS 19 _ _)<|HH RB<|HH (show AV.same 20 (Zi (mU.g (mU.length - 1)).ba) (Zi (mU.g (mU.length - 1)).ba)=true from aS 19 _ _)<|k:Pk _ [] ps)
         rcases Bool.eq_false_or_eq_true (decide (s.bq≤((mU.g (mU.length - 1)).ba))) with f4 | f4
         · have e:cM mU s=1:=by simp only[cM,f0,f1,f2,f3,f4,aj,ai]
           rw[e]
           exact aH rfl (bb Tryz.func98 lN rfl (.inr rfl) (pk (d+2) _ _ h _ h1 (AL<|BC f4<|ZZ) k!) k!) bA rfl
         · have e:cM mU s=0:=by simp only[cM,f0,f1,f2,f3,f4,aj,ai]
           rw[e]
           exact aH rfl (bb Tryz.func98 lN rfl (.inr rfl) (pk (d+2) _ _ h _ h1 (AL<|BC f4<|ZZ) k!) k!) bA rfl
       · have e:cM mU s=0:=by simp only[cM,f0,f1,f2,f3,aj,ai]
         rw[e]
         exact aH rfl (bb Tryz.func98 lN rfl (.inr rfl) (pk (d+2) _ _ h _ h1 (y9<|BB f3<|BB f3<|BB f3<|BB f3<|BB f3<|BB f3<|BB f3<|BB f3<|BB f3<|BV f3 (yB false f3)<|CC<|FF<|CC<|ZZ) k!) k!) bA rfl
def vJ:Code:=(Tryz.f96.body).getD .skip
theorem Ag:Tryz.f96.body=some vJ:=by kernel_rfl
def gE (other:bJ) (r:bJ):Bool:=(decide (other.name=r.name))
theorem Ah {d:Nat} {h:aC} (other:bJ) (r:bJ) (rB:Nat) (T4:aR.ok h other) (h_r:aR.ok h r) (g_r:h.get rB=some (.cells (aR.c r) 37 false)) (ch:Tidy h):cN (d+1) (.fn 96) [(AV.agg [(AV.str other.name),(Zi other.aJ),other.dW]),(Pt rB)] h= .ret (AV.bool (gE other r)) h:=by
 obtain ⟨h1,di,cS,jU,bm,bP⟩:=jE ch (aM.cells [(AV.str other.name),(Zi other.aJ),other.dW] 37 false)
 have bA:Has h h1:=bP
 have e:gE other r=(decide (other.name=r.name)):=by simp only[gE,aj,ai]
 rw[e]
 exact aH rfl (bb Tryz.func96 Ag rfl (.inr rfl) (pk (d) _ _ h _ h1 (NN di (fun i=>(Pt i))<|CN 2<|MM (aO 9 0 (AV.str other.name) bm k!)<|CC<|MM (aO 9 0 (AV.str r.name) (bP _ _ g_r) k!)<|VV (Vv 9 false false other.name r.name)<|CC<|ZZ) k!) k!) bA rfl
def pf:Code:=(Tryz.f137.body).getD .skip
theorem rK:Tryz.f137.body=some pf:=by kernel_rfl
def yK:Code:=(bw pf).getD 0 .skip
def dR (s:List bJ) (P:bJ→Bool):Nat→Nat→Option (Int)
 | 0,_=>none
 | dq+1,i0=>(bif (P (s.g i0)) then some ((i0:Nat):Int) else dR s P dq (i0+1))
theorem pg {d:Nat} {h:aC} (sV:AV) (g:FuncId) (cap:List AV) (s:List bJ) (P:bJ→Bool) (bx:aW h sV s) (hP:∀y∈s,∀hh,Tidy hh→Has h hh→cN d (.fn g) (.agg (aR.c y)::cap) hh= .ret (.bool (P y)) hh):∀(k_ i_:Nat) (_:i_+k_=s.length) (x:Nat→AV) (hh:aC) (aI:Tidy hh) (aE:Has h hh),aF (cN (d)) yK ⟨(sV::(AV.func g [] cap)::rx x 2 5 ((Zn s.length)::(Zn i_)::rx x 9 10 [])),hh,[],.no⟩ (.exit 0) hh (fun y=>(sV::(AV.func g [] cap)::rx y 2 5 ((Zn s.length)::rx y 8 11 []))) (fun r y=>(sV::(AV.func g [] cap)::(y 2)::(y 3)::(Zi r)::(y 5)::(y 6)::(Zn s.length)::rx y 8 11 [])) (dR s P k_ i_)
 | 0,i0,fX,x,hh,aI,aE=>by
   have q1:(decide (((i0:Nat):Int)<((s.length:Nat):Int)))=false:=d!
   exact aF.out rfl (pk (d) _ _ hh _ hh (VV (bL 3 false false .i64 ((i0:Nat):Int) ((s.length:Nat):Int))<|BB q1<|ZZ) k!) (bE.refl aI) k!
 | dq+1,i0,fX,x,hh,aI,aE=>by
   have gT:=bx.small
   have q1:(decide (((i0:Nat):Int)<((s.length:Nat):Int)))=true:=d!
   obtain ⟨p3,q4,cC⟩:=(bx.has aE).elem (i:=i0) o!
   have iW:bO env (some (.slice 37)) (some sV) (some (Zn i0))=some (AV.ptr p3 q4):=cC
   have jY:bh env hh 37 (AV.ptr p3 q4)=some (AV.agg [(AV.str (s.g i0).name),(Zi (s.g i0).aJ),(s.g i0).dW]):=(bx.has aE).load o! cC
   have k6:=hP (s.g i0) (Tw o!) hh aI aE
   have dJ:=fun {al ps} (k:Pk al _ ps)=>(VV (bL 3 false false .i64 ((i0:Nat):Int) ((s.length:Nat):Int))<|BB q1<|CN 5<|VV iW<|MM jY<|EE k6<|k:Pk _ [] ps)
   rcases Bool.eq_false_or_eq_true (P (s.g i0)) with f1 | f1
   · exact aF.ret ((i0:Nat):Int) (by simp only[dR,f1,aj,ai]) (pk (d) _ _ hh _ hh (dJ<|BB f1<|CN 2<|ZZ) k!) (bE.refl aI) k!
   · have u8:=fi 3 false true i0 1 o!
     exact aF.round (by simp only[dR,f1,aj,ai]) (pk (d) _ _ hh _ hh (dJ<|BV f1 u8<|CC<|ZZ) k!) (bE.refl aI) _ k! (fun x=>pg sV g cap s P bx hP dq (i0+1) o! x hh aI aE)
def fm (s:List bJ) (P:bJ→Bool):Int:=(match (dR s P s.length 0) with | none=>(-1) | some yF=>yF)
theorem BK {d:Nat} {h:aC} {sV:AV} {g:FuncId} {cap:List AV} (s:List bJ) (P:bJ→Bool) (AK:aW h sV s) (hP:∀y∈s,∀hh,Tidy hh→Has h hh→cN d (.fn g) (.agg (aR.c y)::cap) hh= .ret (.bool (P y)) hh) (ch:Tidy h):cN (d+1) (.fn 137) [sV,(AV.func g [] cap)] h= .ret (Zi (fm s P)) h:=by
 have iC:cb (some (.slice 37)) (some sV)=some (Zn s.length):=AK.len
 have D8:=pg (d:=d) (h:=h) sV g cap s P AK hP s.length 0 o! (fun k_=>((sV::(AV.func g [] cap)::AV.undef::AV.undef::(Zi 0)::AV.undef::sV::(Zn s.length)::(Zi 0)::jX 10):List AV).getD k_ AV.undef) h ch (Has.refl _)
 cases dL:dR s P s.length 0 with
 | none=>
   obtain ⟨D2,h3,dX,gZ⟩:=aF.n dL D8
   have jg:Has h h3:=gZ.a
   have e:fm s P=(-1):=by simp only[fm,dL,aj,ai]
   rw[e]
   exact aH rfl (bb Tryz.func137 rK rfl (.inr rfl) (pk (d) _ _ h _ h3 (CN 2<|VV iC<|CC<|LL dX<|CC<|ZZ) k!) k!) jg rfl
 | some yF=>
   obtain ⟨D2,h3,dX,gZ⟩:=aF.r dL D8
   have jg:Has h h3:=gZ.a
   have e:fm s P=yF:=by simp only[fm,dL,aj,ai]
   rw[e]
   exact aH rfl (bb Tryz.func137 rK rfl (.inr rfl) (pk (d) _ _ h _ h3 (CN 2<|VV iC<|CC<|LL dX<|ZZ) k!) k!) jg rfl
def tb:Code:=(Tryz.f95.body).getD .skip
theorem xh:Tryz.f95.body=some tb:=by kernel_rfl
def eH (s:List bJ) (P:bJ→Bool):Bool:=(decide (0≤(fm s P)))
theorem xj {d:Nat} {h:aC} {sV:AV} {g:FuncId} {cap:List AV} (s:List bJ) (P:bJ→Bool) (AK:aW h sV s) (hP:∀y∈s,∀hh,Tidy hh→Has h hh→cN d (.fn g) (.agg (aR.c y)::cap) hh= .ret (.bool (P y)) hh) (ch:Tidy h):cN (d+2) (.fn 95) [sV,(AV.func g [] cap)] h= .ret (AV.bool (eH s P)) h:=by
 have k1:=BK (d:=d) s P AK hP ch
 have e:eH s P=(decide (0≤(fm s P))):=by simp only[eH,aj,ai]
 rw[e]
 exact aH rfl (bb Tryz.func95 xh rfl (.inr rfl) (pk (d+1) _ _ h _ h (CN 3<|EE k1<|VV (rv 3 false true .i64 (fm s P) 0)<|CC<|ZZ) k!) k!) (Has.refl _) rfl
def xm:Code:=(Tryz.f44.body).getD .skip
theorem kR:Tryz.f44.body=some xm:=by kernel_rfl
def bF (mU:List bJ) (r:bJ):Int:=(bif (!(ia r.name)) then 5 else (bif (eH mU (fun y=>gE y r)) then 6 else (bif (!(ib r.aJ 1000)) then 1 else (dD r.off 16 (fun jx=>cM (List.take jx r.off) (List.g r.off jx))))))
theorem BL {d:Nat} {h:aC} {nH:AV} (mU:List bJ) (r:bJ) (lL:aW h nH mU) (h_r:aR.ok h r) (ch:Tidy h):cN (d+6) (.fn 44) [nH,(AV.agg [(AV.str r.name),(Zi r.aJ),r.dW])] h= .ret (Zi (bF mU r)) h:=by
 obtain ⟨h1,di,cS,jU,bm,bP⟩:=jE ch (aM.cells [(AV.str r.name),(Zi r.aJ),r.dW] 37 false)
 have bA:Has h h1:=bP
 have k2:=Hh (d:=d+4) r.name h_r.1 cS
 have dJ:=fun {al ps} (k:Pk al _ ps)=>(NN di (fun i=>(Pt i))<|CN 2<|MM (aO 9 0 (AV.str r.name) bm k!)<|EE k2<|CN 2<|k:Pk _ [] ps)
 rcases Bool.eq_false_or_eq_true (!(ia r.name)) with f0 | f0
 · have e:bF mU r=5:=by simp only[bF,f0,aj,ai]
   rw[e]
   exact aH rfl (bb Tryz.func44 kR rfl (.inr rfl) (pk (d+5) _ _ h _ h1 (dJ<|BC f0<|ZZ) k!) k!) bA rfl
 · have k4:=xj (d:=d+3) mU (fun y=>gE y r) (lL.has bA) (fun y hy hh yy aa=>Ah (d:=d+2) y r h.nx (aR.mono aa ((lL.has bA).oks y hy)) (aR.mono aa (aR.mono bA h_r)) (aa _ _ bm) yy) cS
   rcases Bool.eq_false_or_eq_true (eH mU (fun y=>gE y r)) with f1 | f1
   · have e:bF mU r=6:=by simp only[bF,f0,f1,aj,ai]
     rw[e]
     exact aH rfl (bb Tryz.func44 kR rfl (.inr rfl) (pk (d+5) _ _ h _ h1 (dJ<|BB f0<|CN 2<|EE k4<|CC<|BC f1<|ZZ) k!) k!) bA rfl
   · have k6:=Hk (d:=d+4) r.aJ 1000 cS
     have hX:=fun {al ps} (k:Pk al _ ps)=>(dJ<|BB f0<|CN 2<|EE k4<|CC<|BC f1<|MM (aO 3 1 (Zi r.aJ) bm k!)<|EE k6<|CN 2<|k:Pk _ [] ps)
     rcases Bool.eq_false_or_eq_true (!(ib r.aJ 1000)) with f2 | f2
     · have e:bF mU r=1:=by simp only[bF,f0,f1,f2,aj,ai]
       rw[e]
       exact aH rfl (bb Tryz.func44 kR rfl (.inr rfl) (pk (d+5) _ _ h _ h1 (hX<|BC f2<|ZZ) k!) k!) bA rfl
     · have k8:=BJ (d:=d+4) r.off 16 (fun jx=>cM (List.take jx r.off) (List.g r.off jx)) (h_r.2.has bA) (fun jx hj aV hh yy aa fa=>LW (d:=d+1) (List.take jx r.off) (List.g r.off jx) fa (aR.mono aa ((h_r.2.has bA).ok hj)) yy) cS
       have e:bF mU r=(dD r.off 16 (fun jx=>cM (List.take jx r.off) (List.g r.off jx))):=by simp only[bF,f0,f1,f2,aj,ai]
       rw[e]
       exact aH rfl (bb Tryz.func44 kR rfl (.inr rfl) (pk (d+5) _ _ h _ h1 (hX<|BC f2<|MM (aO 35 2 r.dW bm k!)<|EE k8<|CC<|ZZ) k!) k!) bA rfl
def AM (P:Nat→Int):Nat→Nat→Option Int
 | 0,_=>none
 | k+1,i=>bif !decide (P i=0) then some (P i) else AM P k (i+1)
def MX (n:Nat) (dM:Int) (P:Nat→Int):Int:=bif decide (dM<((n:Nat):Int)) then 3 else match AM P n 0 with | none=>0 | some r=>r
theorem O5 {P:Nat→Int}:∀{k i:Nat},AM P k i=none→∀j,i≤j→j<i+k→P j=0
 | 0,i,_,j,p,q=>by omega
 | k+1,i,h,j,p,q=>by
   rw[AM] at h
   by_cases e:P i=0
   · rw[decide_eq_true e] at h
     by_cases z:j=i
     · rw[z];exact e
     · exact O5 (k:=k) (i:=i+1) h j o! o!
   · rw[decide_eq_false e] at h;cases h
theorem xn {P:Nat→Int}:∀{k i:Nat} {r:Int},AM P k i=some r→r≠0
 | 0,i,r,h=>by cases h
 | k+1,i,r,h=>by
   rw[AM] at h
   by_cases e:P i=0
   · rw[decide_eq_true e] at h;exact xn (k:=k) h
   · rw[decide_eq_false e] at h;cases h;exact e
theorem ph {n:Nat} {dM:Int} {P:Nat→Int} (h:MX n dM P=0):(n:Int)≤dM∧∀j,j<n→P j=0:=by
 unfold MX at h
 by_cases a:dM<((n:Nat):Int)
 · rw[decide_eq_true a] at h;cases h
 · rw[decide_eq_false a,ai] at h
   cases e:AM P n 0 with
   | none=>exact ⟨by omega,fun j hj=>O5 e j o! o!⟩
   | some r=>rw[e] at h;exact absurd h (xn e)
theorem ZS {P:Nat→Int} {l:List Int}:∀{k i:Nat},eV P l k i=AM P k i
 | 0,i=>rfl
 | k+1,i=>by rw[eV,AM,ZS]
theorem ZT {P:Nat→Int} {l:List og}:∀{k i:Nat},eW P l k i=AM P k i
 | 0,i=>rfl
 | k+1,i=>by rw[eW,AM,ZT]
theorem T_ {P:Nat→Int} {l:List Task}:∀{k i:Nat},eF P l k i=AM P k i
 | 0,i=>rfl
 | k+1,i=>by rw[eF,AM,T_]
theorem ZU {P:Nat→Int} {l:List bJ}:∀{k i:Nat},dj P l k i=AM P k i
 | 0,i=>rfl
 | k+1,i=>by rw[dj,AM,ZU]
theorem Ua {P:Nat→Int} {l:List Span}:∀{k i:Nat},eG P l k i=AM P k i
 | 0,i=>rfl
 | k+1,i=>by rw[eG,AM,Ua]
theorem ZV (l:List Int) (m:Int) (P:Nat→Int):cK l m P=MX l.length m P:=by rw[cK,MX,ZS]<;>rfl
theorem ZW (l:List og) (m:Int) (P:Nat→Int):dY l m P=MX l.length m P:=by rw[dY,MX,ZT]<;>rfl
theorem BN (l:List Task) (m:Int) (P:Nat→Int):bX l m P=MX l.length m P:=by rw[bX,MX,T_]<;>rfl
theorem ZX (l:List bJ) (m:Int) (P:Nat→Int):bK l m P=MX l.length m P:=by rw[bK,MX,ZU]<;>rfl
theorem Ub (l:List Span) (m:Int) (P:Nat→Int):dD l m P=MX l.length m P:=by rw[dD,MX,Ua]<;>rfl
theorem BP {j:cx} {a:List Task} {t:Task} (h:dy j a t=0):∀q,q<t.aB.length→0≤t.aB.g q∧t.aB.g q<(j.ab.length:Int):=by
 intro q hq
 unfold dy at h
 cases n1:ia t.name with
 | false=>rw[n1] at h;cases h
 | true=>
 cases n2:fT a (fun y=>jm y t) with
 | true=>rw[n1,n2] at h;cases h
 | false=>
 cases n3:dZ t.takes with
 | false=>rw[n1,n2,n3] at h;cases h
 | true=>
 rw[n1,n2,n3] at h
 by_cases e:cK t.aB ((t.aB.length:Nat):Int) (fun jx=>dB (List.take jx t.aB) (List.g t.aB jx) j)=0
 · rw[ZV] at e
   have:=(ph e).2 q hq
   unfold dB gU at this
   cases n4:iU (t.aB.g q) ((j.ab.length:Nat):Int) with
   | false=>rw[show List.g t.aB q=t.aB.g q from rfl,n4] at this;cases this
   | true=>exact qm n4
 · rw[decide_eq_false e] at h;exact absurd h e
theorem O6 {j:cx} (h:bX j.ab 64 (fun jx=>fU (List.take jx j.ab) (List.g j.ab jx) j)=0):j.ab.length≤100000:=by
 rw[BN] at h;have:=(ph h).1;omega
theorem Ak {j:cx} (h:bX j.ab 64 (fun jx=>fU (List.take jx j.ab) (List.g j.ab jx) j)=0):∀i,i<j.ab.length→∀q,q<(j.ab.g i).aB.length→0≤(j.ab.g i).aB.g q∧(j.ab.g i).aB.g q<(j.ab.length:Int):=by
 rw[BN] at h
 exact fun i hi=>BP ((ph h).2 i hi)
def anyI (P:Nat→Bool):Nat→Nat→Bool
 | 0,_=>false
 | k+1,i=>P i||anyI P k (i+1)
theorem oA {P Q:Nat→Bool}:∀{k i:Nat},(∀n,i≤n→n<i+k→P n=Q n)→anyI P k i=anyI Q k i
 | 0,i,h=>rfl
 | k+1,i,h=>by rw[anyI,anyI,h i (Nat.le_refl _) o!,oA (k:=k) (i:=i+1) fun n p q=>h n o! o!]
theorem qX {P:Nat→Bool}:∀{k i:Nat},anyI P k i=false→∀n,i≤n→n<i+k→P n=false
 | 0,i,_,n,p,q=>by omega
 | k+1,i,h,n,p,q=>by
   rw[anyI,Bool.or_eq_false_iff] at h
   by_cases e:n=i
   · rw[e];exact h.1
   · exact qX h.2 n o! o!
theorem ZY {s:List bJ} {P:bJ→Bool}:∀k i,(dR s P k i=none∧anyI (fun n=>P (s.g n)) k i=false)∨∃n:Nat,dR s P k i=some (n:Int)∧anyI (fun n=>P (s.g n)) k i=true
 | 0,i=> .inl ⟨rfl,rfl⟩
 | k+1,i=>by
   rw[dR,anyI]
   cases h:P (s.g i) with
   | true=>exact .inr ⟨i,rfl,rfl⟩
   | false=>exact ZY k (i+1)
theorem ag0 (s:List bJ) (P:bJ→Bool):eH s P=anyI (fun n=>P (s.g n)) s.length 0:=by
 rw[eH,fm]
 rcases ZY (s:=s) (P:=P) s.length 0 with ⟨e,f⟩ | ⟨n,e,f⟩
 · rw[e,f];rfl
 · rw[e,f];exact decide_eq_true (Int.natCast_nonneg n)
theorem Uc {s:List Task} {P:Task→Bool}:∀k i,(fS s P k i=none∧anyI (fun n=>P (s.g n)) k i=false)∨∃n:Nat,fS s P k i=some (n:Int)∧anyI (fun n=>P (s.g n)) k i=true
 | 0,i=> .inl ⟨rfl,rfl⟩
 | k+1,i=>by
   rw[fS,anyI]
   cases h:P (s.g i) with
   | true=>exact .inr ⟨i,rfl,rfl⟩
   | false=>exact Uc k (i+1)
theorem ady (s:List Task) (P:Task→Bool):fT s P=anyI (fun n=>P (s.g n)) s.length 0:=by
 rw[fT,jo]
 rcases Uc (s:=s) (P:=P) s.length 0 with ⟨e,f⟩ | ⟨n,e,f⟩
 · rw[e,f];rfl
 · rw[e,f];exact decide_eq_true (Int.natCast_nonneg n)
theorem Z0 {s:List og} {P:og→Bool}:∀k i,(gL s P k i=none∧anyI (fun n=>P (s.g n)) k i=false)∨∃n:Nat,gL s P k i=some (n:Int)∧anyI (fun n=>P (s.g n)) k i=true
 | 0,i=> .inl ⟨rfl,rfl⟩
 | k+1,i=>by
   rw[gL,anyI]
   cases h:P (s.g i) with
   | true=>exact .inr ⟨i,rfl,rfl⟩
   | false=>exact Z0 k (i+1)
theorem Z1 (s:List og) (P:og→Bool):iw s P=anyI (fun n=>P (s.g n)) s.length 0:=by
 rw[iw,kh]
 rcases Z0 (s:=s) (P:=P) s.length 0 with ⟨e,f⟩ | ⟨n,e,f⟩
 · rw[e,f];rfl
 · rw[e,f];exact decide_eq_true (Int.natCast_nonneg n)
theorem Z2 {s:List Int} {v:Int}:∀k i,(jn s v k i=none∧anyI (fun n=>decide (v=s.g n)) k i=false)∨∃n:Nat,jn s v k i=some (n:Int)∧anyI (fun n=>decide (v=s.g n)) k i=true
 | 0,i=> .inl ⟨rfl,rfl⟩
 | k+1,i=>by
   rw[jn,anyI]
   cases h:decide (v=s.g i) with
   | true=>exact .inr ⟨i,rfl,rfl⟩
   | false=>exact Z2 k (i+1)
theorem ag1 (s:List Int) (v:Int):lh s v=anyI (fun n=>decide (v=s.g n)) s.length 0:=by
 rw[lh,nD]
 rcases Z2 (s:=s) (v:=v) s.length 0 with ⟨e,f⟩ | ⟨n,e,f⟩
 · rw[e,f];rfl
 · rw[e,f];exact decide_eq_true (Int.natCast_nonneg n)
theorem qY {α:Type} {l:List α} {n:Nat} (h:n≤l.length):(l.take n).length=n:=by rw[List.length_take];omega
theorem Al {α:Type} [Inhabited α] {l:List α} {n i:Nat} (h:i<n):(l.take n).g i=l.g i:=by
 rw[List.g,List.g,List.getD_eq_getElem?_getD,List.getD_eq_getElem?_getD,List.getElem?_take_of_lt h]
theorem xp {x:Int} (h:dZ x=true):0≤x∧x≤100000:=by
 unfold dZ ib at h
 by_cases z:0≤x
 · rw[decide_eq_true z,aj] at h;exact ⟨z,of_decide_eq_true h⟩
 · rw[decide_eq_false z] at h;cases h
structure b5 (j:cx):Prop where
 nt:j.ab.length≤64
 nr:j.af.length≤16
 nb:∀i,i<j.ab.length→∀q,q<(j.ab.g i).aB.length→0≤(j.ab.g i).aB.g q∧(j.ab.g i).aB.g q<(j.ab.length:Int)
 ro:∀r,r<j.af.length→(j.af.g r).off.length≤16∧∀q,q<(j.af.g r).off.length→0≤((j.af.g r).off.g q).bq∧((j.af.g r).off.g q).ba≤100000
 rs:∀r,r<j.af.length→(∀q,q<(j.af.g r).off.length→((j.af.g r).off.g q).bq≤((j.af.g r).off.g q).ba)∧(∀q,0<q→q<(j.af.g r).off.length→((j.af.g r).off.g (q - 1)).ba<((j.af.g r).off.g q).bq)∧0≤(j.af.g r).aJ∧(j.af.g r).aJ≤1000
 ur:∀i,i<j.ab.length→∀q,q<(j.ab.g i).aA.length→0≤((j.ab.g i).aA.g q).ah∧((j.ab.g i).aA.g q).ah<(j.af.length:Int)
 um:∀i,i<j.ab.length→∀q,q<(j.ab.g i).aA.length→1≤((j.ab.g i).aA.g q).aJ∧((j.ab.g i).aA.g q).aJ≤(j.af.g (Int.toNat ((j.ab.g i).aA.g q).ah)).aJ
 ud:∀i,i<j.ab.length→∀a,a<(j.ab.g i).aA.length→∀b,a<b→b<(j.ab.g i).aA.length→((j.ab.g i).aA.g a).ah≠((j.ab.g i).aA.g b).ah
 tk:∀i,i<j.ab.length→0≤(j.ab.g i).takes∧(j.ab.g i).takes≤100000
 io:¬(eY j.ab).length<j.ab.length
theorem IS {j:cx} {b:List og} {u:og} (h:dQ j b u=0):(0≤u.ah∧u.ah<(j.af.length:Int))∧(∀n,n<b.length→(b.g n).ah≠u.ah)∧1≤u.aJ∧u.aJ≤(j.af.g (Int.toNat u.ah)).aJ:=by
 unfold dQ at h
 cases a:iU u.ah ((j.af.length:Nat):Int) with
 | false=>rw[a] at h;cases h
 | true=>
 cases c:iw b (fun y=>j0 y u) with
 | true=>rw[a,c] at h;cases h
 | false=>
 rw[a,c] at h
 by_cases d1:u.aJ<1
 · rw[decide_eq_true d1] at h;cases h
 · rw[decide_eq_false d1] at h
   by_cases d2:1000<u.aJ
   · rw[decide_eq_true d2] at h;cases h
   · rw[decide_eq_false d2] at h
     by_cases d3:(j.af.g (Int.toNat u.ah)).aJ<u.aJ
     · rw[decide_eq_true d3] at h;cases h
     · rw[Z1] at c
       refine ⟨qm a,fun n hn e=>?_,by omega,by omega⟩
       have t:=qX c n (Nat.zero_le _) o!
       unfold j0 at t
       rw[decide_eq_true e] at t;cases t
theorem IT {b:List Span} {s:Span} (h:cM b s=0):0≤s.bq∧s.ba≤100000∧s.bq≤s.ba∧(0<b.length→(b.g (b.length - 1)).ba<s.bq):=by
 unfold cM at h
 cases a:dZ s.bq with
 | false=>rw[a] at h;cases h
 | true=>
 cases c:dZ s.ba with
 | false=>rw[a,c] at h;cases h
 | true=>
 rw[a,c] at h
 have x:=xp a
 have y:=xp c
 by_cases d1:s.ba<s.bq
 · rw[decide_eq_true d1] at h;cases h
 · rw[decide_eq_false d1] at h
   refine ⟨x.1,y.2,by omega,fun hb=>?_⟩
   rw[decide_eq_true (show 0<((b.length:Nat):Int) by omega)] at h
   by_cases d2:s.bq≤(b.g (b.length - 1)).ba
   · rw[decide_eq_true d2] at h;cases h
   · omega
theorem Am {b:List bJ} {r:bJ} (h:bF b r=0):(0≤r.aJ∧r.aJ≤1000)∧r.off.length≤16∧∀q,q<r.off.length→cM (r.off.take q) (r.off.g q)=0:=by
 unfold bF at h
 cases a:ia r.name with
 | false=>rw[a] at h;cases h
 | true=>
 cases c:eH b (fun y=>gE y r) with
 | true=>rw[a,c] at h;cases h
 | false=>
 cases e:ib r.aJ 1000 with
 | false=>rw[a,c,e] at h;cases h
 | true=>
 rw[a,c,e] at h
 have h:dD r.off 16 (fun jx=>cM (List.take jx r.off) (List.g r.off jx))=0:=h
 rw[Ub] at h
 have z:=ph h
 refine ⟨?_,by omega,fun q hq=>z.2 q hq⟩
 unfold ib at e
 by_cases z:0≤r.aJ
 · rw[decide_eq_true z,aj] at e;exact ⟨z,of_decide_eq_true e⟩
 · rw[decide_eq_false z] at e;cases e
theorem Hr {j:cx} {b:List Task} {t:Task} (h:dy j b t=0):(0≤t.takes∧t.takes≤100000)∧∀q,q<t.aA.length→dQ j (t.aA.take q) (t.aA.g q)=0:=by
 unfold dy at h
 cases n1:ia t.name with
 | false=>rw[n1] at h;cases h
 | true=>
 cases n2:fT b (fun y=>jm y t) with
 | true=>rw[n1,n2] at h;cases h
 | false=>
 cases n3:dZ t.takes with
 | false=>rw[n1,n2,n3] at h;cases h
 | true=>
 rw[n1,n2,n3] at h
 by_cases e:cK t.aB ((t.aB.length:Nat):Int) (fun jx=>dB (List.take jx t.aB) (List.g t.aB jx) j)=0
 · rw[decide_eq_true e] at h
   have h:dY t.aA ((t.aA.length:Nat):Int) (fun jx=>gM (List.take jx t.aA) (List.g t.aA jx) j)=0:=h
   rw[ZW] at h
   exact ⟨xp n3,fun q hq=>(ph h).2 q hq⟩
 · rw[decide_eq_false e] at h;exact absurd h e
theorem RG {j:cx} (h:(bif (!decide ((bK j.af 16 (fun jx=>bF (List.take jx j.af) (List.g j.af jx)))=0)) then (bK j.af 16 (fun jx=>bF (List.take jx j.af) (List.g j.af jx))) else (bif (!decide ((bX j.ab 64 (fun jx=>fU (List.take jx j.ab) (List.g j.ab jx) j))=0)) then (bX j.ab 64 (fun jx=>fU (List.take jx j.ab) (List.g j.ab jx) j)) else (bif (decide ((((eY j.ab).length:Nat):Int)<((j.ab.length:Nat):Int))) then 11 else 0)))=0):b5 j:=by
 by_cases a:bK j.af 16 (fun jx=>bF (List.take jx j.af) (List.g j.af jx))=0
 · by_cases b:bX j.ab 64 (fun jx=>fU (List.take jx j.ab) (List.g j.ab jx) j)=0
   · by_cases c:(((eY j.ab).length:Nat):Int)<((j.ab.length:Nat):Int)
     · rw[decide_eq_true a,decide_eq_true b,decide_eq_true c] at h;cases h
     · have nb:=Ak b
       rw[ZX] at a
       rw[BN] at b
       have za:=ph a
       have zb:=ph b
       have rr:=fun r (hr:r<j.af.length)=>Am (za.2 r hr)
       have tt:=fun i (hi:i<j.ab.length)=>Hr (zb.2 i hi)
       have oo:=fun r (hr:r<j.af.length) q (hq:q<(j.af.g r).off.length)=>IT ((rr r hr).2.2 q hq)
       have uu:=fun i (hi:i<j.ab.length) q (hq:q<(j.ab.g i).aA.length)=>IS ((tt i hi).2 q hq)
       exact {
        nt:=by omega
        nr:=by omega
        nb:=nb
        ro:=fun r hr=>⟨(rr r hr).2.1,fun q hq=>⟨(oo r hr q hq).1,(oo r hr q hq).2.1⟩⟩
        rs:=fun r hr=>⟨fun q hq=>(oo r hr q hq).2.2.1,fun q h0 hq=>by
         have:=(oo r hr q hq).2.2.2
         rw[qY (Nat.le_of_lt hq),Al o!] at this
         exact this h0,(rr r hr).1⟩
        ur:=fun i hi q hq=>(uu i hi q hq).1
        um:=fun i hi q hq=>(uu i hi q hq).2.2
        ud:=fun i hi a ha b hab hb=>by
         have:=(uu i hi b hb).2.1 a (by rw[qY (Nat.le_of_lt hb)];exact hab)
         rw[Al hab] at this;exact this
        tk:=fun i hi=>(tt i hi).1
        io:=by omega}
   · rw[decide_eq_true a,decide_eq_false b] at h;exact absurd h b
 · rw[decide_eq_false a] at h;exact absurd h a
def BQ:Code:=(Tryz.f113.body).getD .skip
theorem J0:Tryz.f113.body=some BQ:=by kernel_rfl
def O7:Code:=(bw BQ).getD 0 .skip
def lk (x_:Task) (az:List Bool):Nat→Nat→Option (Bool)
 | 0,_=>none
 | dq+1,i0=>(bif (!(az.g (x_.aB.g i0).toNat)) then some false else lk x_ az dq (i0+1))
theorem BR {d:Nat} {h:aC} (bB:AV) (x_:Task) (az:List Bool) (bk:Nat) (bx:oh h 4 bB az) (cZ:x_.name.length<2^60) (fj:b8 h .i64 3 x_.aU x_.aB) (m5:aW h x_.a_ x_.aA) (g5:aR.ok h x_) (hF:∀q,q<x_.aB.length→0≤x_.aB.g q∧x_.aB.g q<(az.length:Int)):∀(k_ i_:Nat) (_:i_+k_=x_.aB.length) (x:Nat→AV) (hh:aC) (aI:Tidy hh) (aE:Has h hh) (br:hh.get bk=some (aM.cells [(AV.str x_.name),(Zi x_.takes),x_.aU,x_.a_] 40 false)),aF (cN (d)) O7 ⟨((x 0)::bB::(Pt bk)::(x 3)::(x 4)::(Zn i_)::rx x 6 16 []),hh,[],.no⟩ (.exit 0) hh (fun y=>((y 0)::bB::(Pt bk)::rx y 3 19 [])) (fun r y=>((y 0)::bB::(Pt bk)::(y 3)::(AV.bool r)::rx y 5 17 [])) (lk x_ az k_ i_)
 | 0,i0,fX,x,hh,aI,aE,br=>by
   have iC:cb (some (.slice 3)) (some x_.aU)=some (Zn x_.aB.length):=(fj.has aE).len
   have q2:(decide (((i0:Nat):Int)<((x_.aB.length:Nat):Int)))=false:=d!
   exact aF.out rfl (pk (d) _ _ hh _ hh (CN 2<|MM (aO 26 2 x_.aU br k!)<|VV iC<|VV (bL 3 false false .i64 ((i0:Nat):Int) ((x_.aB.length:Nat):Int))<|BB q2<|ZZ) k!) (bE.refl aI) k!
 | dq+1,i0,fX,x,hh,aI,aE,br=>by
   have gT:=bx.small
   have uw:=fj.small
   have RH:=m5.small
   have sU:=aI _ _ br
   obtain ⟨nd1,nd2⟩:=hF i0 o!
   have iC:cb (some (.slice 3)) (some x_.aU)=some (Zn x_.aB.length):=(fj.has aE).len
   have q2:(decide (((i0:Nat):Int)<((x_.aB.length:Nat):Int)))=true:=d!
   obtain ⟨p4,q5,lp,_⟩:=(fj.has aE).elem (i:=i0) o!
   have wJ:bO env (some (.slice 3)) (some x_.aU) (some (Zn i0))=some (AV.ptr p4 q5):=lp
   have tD:bh env hh 3 (AV.ptr p4 q5)=some (Zi (x_.aB.g i0)):=(fj.has aE).load o! lp
   obtain ⟨p8,q9,OZ,_⟩:=(bx.has aE).elem (i:=(x_.aB.g i0).toNat) o!
   have ix7:bO env (some (.slice 4)) (some bB) (some (Zi (x_.aB.g i0)))=some (AV.ptr p8 q9):=by rw[show ((x_.aB.g i0):Int)=(((x_.aB.g i0).toNat:Nat):Int) by omega];exact OZ
   have Rx:bh env hh 4 (AV.ptr p8 q9)=some (AV.bool (az.g (x_.aB.g i0).toNat)):=(bx.has aE).load o! OZ
   have dJ:=fun {al ps} (k:Pk al _ ps)=>(CN 2<|MM (aO 26 2 x_.aU br k!)<|VV iC<|VV (bL 3 false false .i64 ((i0:Nat):Int) ((x_.aB.length:Nat):Int))<|BB q2<|CN 2<|MM (aO 26 2 x_.aU br k!)<|CC<|VV wJ<|MM tD<|VV ix7<|MM Rx<|CC<|k:Pk _ [] ps)
   rcases Bool.eq_false_or_eq_true (!(az.g (x_.aB.g i0).toNat)) with f1 | f1
   · exact aF.ret false (by simp only[lk,f1,aj,ai]) (pk (d) _ _ hh _ hh (dJ<|BC f1<|ZZ) k!) (bE.refl aI) k!
   · have u12:=fi 3 false true i0 1 o!
     exact aF.round (by simp only[lk,f1,aj,ai]) (pk (d) _ _ hh _ hh (dJ<|BC f1<|VV u12<|CC<|ZZ) k!) (bE.refl aI) _ k! (fun x=>BR bB x_ az bk bx cZ fj m5 g5 hF dq (i0+1) o! x hh aI aE br)
def km (x_:Task) (az:List Bool):Bool:=(match (lk x_ az x_.aB.length 0) with | none=>true | some yF=>yF)
theorem VZ {d:Nat} {h:aC} {bB:AV} (x_:Task) (az:List Bool) (qZ:aR.ok h x_) (tc:oh h 4 bB az) (l6:∀q,q<x_.aB.length→0≤x_.aB.g q∧x_.aB.g q<(az.length:Int)) (ch:Tidy h):cN (d+1) (.fn 113) [(AV.agg [(AV.str x_.name),(Zi x_.takes),x_.aU,x_.a_]),bB] h= .ret (AV.bool (km x_ az)) h:=by
 obtain ⟨h1,di,cS,jU,bm,bP⟩:=jE ch (aM.cells [(AV.str x_.name),(Zi x_.takes),x_.aU,x_.a_] 40 false)
 have bA:Has h h1:=bP
 have D8:=BR (d:=d) (h:=h) bB x_ az h.nx tc qZ.1 qZ.2.1 qZ.2.2 qZ l6 x_.aB.length 0 o! (fun k_=>(((AV.agg [(AV.str x_.name),(Zi x_.takes),x_.aU,x_.a_])::bB::(Pt h.nx)::AV.undef::(AV.bool false)::(Zi 0)::jX 16):List AV).getD k_ AV.undef) h1 cS bA bm
 cases dL:lk x_ az x_.aB.length 0 with
 | none=>
   obtain ⟨D2,h3,dX,gZ⟩:=aF.n dL D8
   have jg:Has h h3:=bA.trans gZ.a
   have e:km x_ az=true:=by simp only[km,dL,aj,ai]
   rw[e]
   exact aH rfl (bb Tryz.func113 J0 rfl (.inr rfl) (pk (d) _ _ h _ h3 (NN di (fun i=>(Pt i))<|CN 2<|LL dX<|CC<|ZZ) k!) k!) jg rfl
 | some yF=>
   obtain ⟨D2,h3,dX,gZ⟩:=aF.r dL D8
   have jg:Has h h3:=bA.trans gZ.a
   have e:km x_ az=yF:=by simp only[km,dL,aj,ai]
   rw[e]
   exact aH rfl (bb Tryz.func113 J0 rfl (.inr rfl) (pk (d) _ _ h _ h3 (NN di (fun i=>(Pt i))<|CN 2<|LL dX<|ZZ) k!) k!) jg rfl
end
end Go.Proofs.aQ
