import Derived.Test.YtkffioplnoajdaaGreatW0
import Derived.Test.YtkffioplnoajdaaGreatW1
import Derived.Test.YtkffioplnoajdaaGreatW4
namespace Go.Proofs.aP
open Go.Proofs Ab
set_option maxRecDepth 100000
set_option maxHeartbeats 4000000
set_option linter.unusedVariables false
set_option linter.unusedSimpArgs false
noncomputable def oY:Code:=(Tryz.f67.body).getD .skip
theorem nB:Tryz.f67.body=some oY:=by kernel_rfl
noncomputable def xy:Code:=(bE oY).getD 0 .skip
def eD (P:Nat→Int) (list:List Int):Nat→Nat→Option (Int)
 | 0,_=>none
 | dz+1,i0=>(bif (!decide ((P i0)=0)) then some (P i0) else eD P list dz (i0+1))
theorem lA {d:Nat} {h:au} (bx:AV) (g:FuncId) (cap:List AV) (list:List Int) (P:Nat→Int) (bn:b_ h .i64 3 bx list) (hP:∀j,j<list.length→∀aV hh,Tidy hh→Has h hh→b_ hh .i64 3 aV (list.take j)→cR d (.fn g) (aV:: .int .i64 (list.g j)::cap) hh= .ret (.int .i64 (P j)) hh):∀(k_ i_:Nat) (_:i_+k_=list.length) (x:Nat→AV) (hh:au) (aE:Tidy hh) (aB:Has h hh),aA (cR (d)) xy ⟨(bx::(x 1)::(AV.func g [] cap)::rx x 3 11 (bx::(Zn list.length)::(Zn i_)::rx x 17 14 [])),hh,[],.no⟩ (.exit 0) hh (fun y=>(bx::(y 1)::(AV.func g [] cap)::rx y 3 11 (bx::(Zn list.length)::rx y 16 15 []))) (fun r y=>(bx::(y 1)::(AV.func g [] cap)::rx y 3 3 ((Zi r)::rx y 7 7 (bx::(Zn list.length)::rx y 16 15 [])))) (eD P list k_ i_)
 | 0,i0,fX,x,hh,aE,aB=>by
   have cm:=bn.small
   have q1:(decide (((i0:Nat):Int)<((list.length:Nat):Int)))=false:=d!
   exact aA.out rfl (pk (d) _ _ hh _ hh (VV (ba 3 false false .i64 ((i0:Nat):Int) ((list.length:Nat):Int))<|BB q1<|ZZ) k!) (bF.refl aE) k!
 | dz+1,i0,fX,x,hh,aE,aB=>by
   have cm:=bn.small
   have q1:(decide (((i0:Nat):Int)<((list.length:Nat):Int)))=true:=d!
   obtain ⟨p3,q4,cX,_⟩:=(bn.has aB).elem (i:=i0) o!
   have gv:bS env (some (.slice 3)) (some bx) (some (Zn i0))=some (AV.ptr p3 q4):=cX
   have g5:bh env hh 3 (AV.ptr p3 q4)=some (Zi (list.g i0)):=(bn.has aB).load o! cX
   obtain ⟨r6,ahE,fr8⟩:=(bn.has aB).pre (t:=26) k! (i:=i0) o!
   have sl7:db env 26 bx (none) (some (Zn i0)) (none)=some r6:=ahE
   have k9:=hP i0 o! r6 hh aE aB fr8
   rcases Bool.eq_false_or_eq_true (!decide ((P i0)=0)) with f1 | f1
   · have dC:=BI f1
     exact aA.ret (P i0) (by simp only[eD,f1,cond_true,cond_false]) (pk (d) _ _ hh _ hh (VV (ba 3 false false .i64 ((i0:Nat):Int) ((list.length:Nat):Int))<|BC q1<|VV gv<|MM g5<|CN 5<|QQ sl7<|CC<|EE k9<|CN 2<|VV (eu 29 false true .i64 (P i0) 0)<|BB f1<|CN 2<|ZZ) k!) (bF.refl aE) k!
   · have dC:=BJ f1
     have u11:=fe 3 false true i0 1 o!
     exact aA.round (by simp only[eD,f1,cond_true,cond_false]) (pk (d) _ _ hh _ hh (VV (ba 3 false false .i64 ((i0:Nat):Int) ((list.length:Nat):Int))<|BC q1<|VV gv<|MM g5<|CN 5<|QQ sl7<|CC<|EE k9<|CN 2<|VV (eu 29 false true .i64 (P i0) 0)<|BV f1 u11<|CC<|ZZ) k!) (bF.refl aE) _ k! (fun x=>lA bx g cap list P bn hP dz (i0+1) o! x hh aE aB)
def ch (list:List Int) (cr:Int) (P:Nat→Int):Int:=(bif (decide (cr<((list.length:Nat):Int))) then 3 else (match (eD P list list.length 0) with | none=>0 | some xz=>xz))
theorem AX {d:Nat} {h:au} {bx:AV} {g:FuncId} {cap:List AV} (list:List Int) (cr:Int) (P:Nat→Int) (fk:b_ h .i64 3 bx list) (hP:∀j,j<list.length→∀aV hh,Tidy hh→Has h hh→b_ hh .i64 3 aV (list.take j)→cR d (.fn g) (aV:: .int .i64 (list.g j)::cap) hh= .ret (.int .i64 (P j)) hh) (bW:Tidy h):cR (d+1) (.fn 67) [bx,(Zi cr),(AV.func g [] cap)] h= .ret (Zi (ch list cr P)) h:=by
 have zw:=fk.small
 have dG:b6 (some (.slice 3)) (some bx)=some (Zn list.length):=fk.len
 rcases Bool.eq_false_or_eq_true (decide (cr<((list.length:Nat):Int))) with f0 | f0
 · have dO:=of_decide_eq_true f0
   have e:ch list cr P=3:=by simp only[ch,f0,cond_true,cond_false]
   rw[e]
   exact aD rfl (bb Tryz.func67 nB rfl (.inr rfl) (pk (d) _ _ h _ h (CN 2<|VV dG<|CC<|VV (bR 3 false false .i64 ((list.length:Nat):Int) cr)<|BC f0<|ZZ) k!) k!) (Has.refl _) rfl
 · have dO:=of_decide_eq_false f0
   have Ef:b6 (some (.slice 3)) (some bx)=some (Zn list.length):=fk.len
   cases cY:eD P list list.length 0 with
   | none=>
     obtain ⟨xA,h5,dH,c9⟩:=aA.n cY (lA (d:=d) (h:=h) bx g cap list P fk hP list.length 0 o! (fun k_=>((bx::(Zi cr)::(AV.func g [] cap)::AV.undef::AV.undef::AV.undef::(Zi 0)::AV.undef::AV.undef::AV.undef::bx::(Zn list.length)::(Zi cr)::(AV.bool (decide (cr<((list.length:Nat):Int))))::bx::(Zn list.length)::(Zi 0)::g4 14):List AV).getD k_ AV.undef) h bW (Has.refl _))
     have lJ:=c9.y
     have tG:h.nx≤h5.nx:=c9.n
     have gA:Has h h5:=c9.a
     have e:ch list cr P=0:=by simp only[ch,f0,cY,cond_true,cond_false]
     rw[e]
     exact aD rfl (bb Tryz.func67 nB rfl (.inr rfl) (pk (d) _ _ h _ h5 (CN 2<|VV dG<|CC<|VV (bR 3 false false .i64 ((list.length:Nat):Int) cr)<|BC f0<|VV Ef<|CC<|LL dH<|CC<|ZZ) k!) k!) gA rfl
   | some xz=>
     obtain ⟨xA,h5,dH,c9⟩:=aA.r cY (lA (d:=d) (h:=h) bx g cap list P fk hP list.length 0 o! (fun k_=>((bx::(Zi cr)::(AV.func g [] cap)::AV.undef::AV.undef::AV.undef::(Zi 0)::AV.undef::AV.undef::AV.undef::bx::(Zn list.length)::(Zi cr)::(AV.bool (decide (cr<((list.length:Nat):Int))))::bx::(Zn list.length)::(Zi 0)::g4 14):List AV).getD k_ AV.undef) h bW (Has.refl _))
     have lJ:=c9.y
     have tG:h.nx≤h5.nx:=c9.n
     have gA:Has h h5:=c9.a
     have e:ch list cr P=xz:=by simp only[ch,f0,cY,cond_true,cond_false]
     rw[e]
     exact aD rfl (bb Tryz.func67 nB rfl (.inr rfl) (pk (d) _ _ h _ h5 (CN 2<|VV dG<|CC<|VV (bR 3 false false .i64 ((list.length:Nat):Int) cr)<|BC f0<|VV Ef<|CC<|LL dH<|ZZ) k!) k!) gA rfl
noncomputable def oZ:Code:=(Tryz.f70.body).getD .skip
theorem nC:Tryz.f70.body=some oZ:=by kernel_rfl
noncomputable def xB:Code:=(bE oZ).getD 0 .skip
def eE (P:Nat→Int) (list:List jh):Nat→Nat→Option (Int)
 | 0,_=>none
 | dz+1,i0=>(bif (!decide ((P i0)=0)) then some (P i0) else eE P list dz (i0+1))
theorem lB {d:Nat} {h:au} (bx:AV) (g:FuncId) (cap:List AV) (list:List jh) (P:Nat→Int) (bn:aS h bx list) (hP:∀j,j<list.length→∀aV hh,Tidy hh→Has h hh→aS hh aV (list.take j)→cR d (.fn g) (aV:: .agg (aL.c (list.g j))::cap) hh= .ret (.int .i64 (P j)) hh):∀(k_ i_:Nat) (_:i_+k_=list.length) (x:Nat→AV) (hh:au) (aE:Tidy hh) (aB:Has h hh),aA (cR (d)) xB ⟨(bx::(x 1)::(AV.func g [] cap)::rx x 3 11 (bx::(Zn list.length)::(Zn i_)::rx x 17 14 [])),hh,[],.no⟩ (.exit 0) hh (fun y=>(bx::(y 1)::(AV.func g [] cap)::rx y 3 11 (bx::(Zn list.length)::rx y 16 15 []))) (fun r y=>(bx::(y 1)::(AV.func g [] cap)::rx y 3 3 ((Zi r)::rx y 7 7 (bx::(Zn list.length)::rx y 16 15 [])))) (eE P list k_ i_)
 | 0,i0,fX,x,hh,aE,aB=>by
   have cm:=bn.small
   have q1:(decide (((i0:Nat):Int)<((list.length:Nat):Int)))=false:=d!
   exact aA.out rfl (pk (d) _ _ hh _ hh (VV (ba 3 false false .i64 ((i0:Nat):Int) ((list.length:Nat):Int))<|BB q1<|ZZ) k!) (bF.refl aE) k!
 | dz+1,i0,fX,x,hh,aE,aB=>by
   have cm:=bn.small
   have q1:(decide (((i0:Nat):Int)<((list.length:Nat):Int)))=true:=d!
   obtain ⟨p3,q4,cX⟩:=(bn.has aB).elem (i:=i0) o!
   have gv:bS env (some (.slice 88)) (some bx) (some (Zn i0))=some (AV.ptr p3 q4):=cX
   have g5:bh env hh 88 (AV.ptr p3 q4)=some (AV.agg [(Zi ((list.g i0).ah)),(Zi ((list.g i0).ay))]):=(bn.has aB).load o! cX
   obtain ⟨h6,lx,jf,Eb,pV,cu⟩:=j_ aE (aM.cells [(Zi 0),(Zi 0)] 88 false)
   have ia:Has hh h6:=cu
   obtain ⟨h7,ks,fQ,zl,fD,bI⟩:=qL (t:=88) (n:=2) (i:=hh.nx) (L:=[(Zi ((list.g i0).ah)),(Zi ((list.g i0).ay))]) jf pV k! rfl rfl (by simp only[AV.cells,List.all_cons,List.all_nil,Bool.and_true,Bool.and_self,iO,fY,iP,iQ,eS,mg,mh,mi,mj,ml,iR])
   have eL:Has hh h7:=Has.ea ia bI aE o!
   obtain ⟨r8,acu,acv⟩:=(bn.has aB).pre (t:=42) k! (i:=i0) o!
   have sl9:db env 42 bx (none) (some (Zn i0)) (none)=some r8:=acu
   have FJ:=hP i0 o! r8 h7 fQ (aB.trans eL) (acv.has eL)
   have c12:AV.same 20 (AV.agg [(Zi ((list.g i0).ah)),(Zi ((list.g i0).ay))]) (AV.agg [(Zi ((list.g i0).ah)),(Zi ((list.g i0).ay))])=true:=fj 18 (oX (fun n=>aJ n _ _) (oX (fun n=>aJ n _ _) Ix))
   rcases Bool.eq_false_or_eq_true (!decide ((P i0)=0)) with f1 | f1
   · have dC:=BI f1
     exact aA.ret (P i0) (by simp only[eE,f1,cond_true,cond_false]) (pk (d) _ _ hh _ h7 (VV (ba 3 false false .i64 ((i0:Nat):Int) ((list.length:Nat):Int))<|BC q1<|VV gv<|MM g5<|NN lx (fun i=>(Pt i))<|CC<|SS ks<|CN 3<|QQ sl9<|MM (aw 88 0 (AV.agg [(Zi ((list.g i0).ah)),(Zi ((list.g i0).ay))]) fD k!)<|EE FJ<|CC<|HH (aw 88 0 (AV.agg [(Zi ((list.g i0).ah)),(Zi ((list.g i0).ay))]) fD k!)<|HH c12<|CC<|VV (eu 29 false true .i64 (P i0) 0)<|BB f1<|CN 2<|ZZ) k!) (⟨fQ,eL,by omega⟩) k!
   · have dC:=BJ f1
     have u14:=fe 3 false true i0 1 o!
     exact aA.round (by simp only[eE,f1,cond_true,cond_false]) (pk (d) _ _ hh _ h7 (VV (ba 3 false false .i64 ((i0:Nat):Int) ((list.length:Nat):Int))<|BC q1<|VV gv<|MM g5<|NN lx (fun i=>(Pt i))<|CC<|SS ks<|CN 3<|QQ sl9<|MM (aw 88 0 (AV.agg [(Zi ((list.g i0).ah)),(Zi ((list.g i0).ay))]) fD k!)<|EE FJ<|CC<|HH (aw 88 0 (AV.agg [(Zi ((list.g i0).ah)),(Zi ((list.g i0).ay))]) fD k!)<|HH c12<|CC<|VV (eu 29 false true .i64 (P i0) 0)<|BV f1 u14<|CC<|ZZ) k!) (⟨fQ,eL,by omega⟩) _ k! (fun x=>lB bx g cap list P bn hP dz (i0+1) o! x h7 fQ (aB.trans eL))
def dI (list:List jh) (cr:Int) (P:Nat→Int):Int:=(bif (decide (cr<((list.length:Nat):Int))) then 3 else (match (eE P list list.length 0) with | none=>0 | some xz=>xz))
theorem AY {d:Nat} {h:au} {bx:AV} {g:FuncId} {cap:List AV} (list:List jh) (cr:Int) (P:Nat→Int) (fk:aS h bx list) (hP:∀j,j<list.length→∀aV hh,Tidy hh→Has h hh→aS hh aV (list.take j)→cR d (.fn g) (aV:: .agg (aL.c (list.g j))::cap) hh= .ret (.int .i64 (P j)) hh) (bW:Tidy h):cR (d+1) (.fn 70) [bx,(Zi cr),(AV.func g [] cap)] h= .ret (Zi (dI list cr P)) h:=by
 have zw:=fk.small
 have dG:b6 (some (.slice 88)) (some bx)=some (Zn list.length):=fk.len
 rcases Bool.eq_false_or_eq_true (decide (cr<((list.length:Nat):Int))) with f0 | f0
 · have dO:=of_decide_eq_true f0
   have e:dI list cr P=3:=by simp only[dI,f0,cond_true,cond_false]
   rw[e]
   exact aD rfl (bb Tryz.func70 nC rfl (.inr rfl) (pk (d) _ _ h _ h (CN 2<|VV dG<|CC<|VV (bR 3 false false .i64 ((list.length:Nat):Int) cr)<|BC f0<|ZZ) k!) k!) (Has.refl _) rfl
 · have dO:=of_decide_eq_false f0
   have Ef:b6 (some (.slice 88)) (some bx)=some (Zn list.length):=fk.len
   cases cY:eE P list list.length 0 with
   | none=>
     obtain ⟨xA,h5,dH,c9⟩:=aA.n cY (lB (d:=d) (h:=h) bx g cap list P fk hP list.length 0 o! (fun k_=>((bx::(Zi cr)::(AV.func g [] cap)::AV.undef::AV.undef::AV.undef::(Zi 0)::AV.undef::AV.undef::AV.undef::bx::(Zn list.length)::(Zi cr)::(AV.bool (decide (cr<((list.length:Nat):Int))))::bx::(Zn list.length)::(Zi 0)::g4 14):List AV).getD k_ AV.undef) h bW (Has.refl _))
     have lJ:=c9.y
     have tG:h.nx≤h5.nx:=c9.n
     have gA:Has h h5:=c9.a
     have e:dI list cr P=0:=by simp only[dI,f0,cY,cond_true,cond_false]
     rw[e]
     exact aD rfl (bb Tryz.func70 nC rfl (.inr rfl) (pk (d) _ _ h _ h5 (CN 2<|VV dG<|CC<|VV (bR 3 false false .i64 ((list.length:Nat):Int) cr)<|BC f0<|VV Ef<|CC<|LL dH<|CC<|ZZ) k!) k!) gA rfl
   | some xz=>
     obtain ⟨xA,h5,dH,c9⟩:=aA.r cY (lB (d:=d) (h:=h) bx g cap list P fk hP list.length 0 o! (fun k_=>((bx::(Zi cr)::(AV.func g [] cap)::AV.undef::AV.undef::AV.undef::(Zi 0)::AV.undef::AV.undef::AV.undef::bx::(Zn list.length)::(Zi cr)::(AV.bool (decide (cr<((list.length:Nat):Int))))::bx::(Zn list.length)::(Zi 0)::g4 14):List AV).getD k_ AV.undef) h bW (Has.refl _))
     have lJ:=c9.y
     have tG:h.nx≤h5.nx:=c9.n
     have gA:Has h h5:=c9.a
     have e:dI list cr P=xz:=by simp only[dI,f0,cY,cond_true,cond_false]
     rw[e]
     exact aD rfl (bb Tryz.func70 nC rfl (.inr rfl) (pk (d) _ _ h _ h5 (CN 2<|VV dG<|CC<|VV (bR 3 false false .i64 ((list.length:Nat):Int) cr)<|BC f0<|VV Ef<|CC<|LL dH<|ZZ) k!) k!) gA rfl
noncomputable def zx:Code:=(Tryz.f66.body).getD .skip
theorem En:Tryz.f66.body=some zx:=by kernel_rfl
def ic (other:Task) (t:Task):Bool:=(decide (other.name=t.name))
theorem Eo {d:Nat} {h:au} (other:Task) (t:Task) (tB:Nat) (CL:aL.ok h other) (Rq:aL.ok h t) (wj:h.get tB=some (.cells (aL.c t) 44 false)) (bW:Tidy h):cR (d+1) (.fn 66) [(AV.agg [(AV.str other.name),(Zi other.aI),other.aO,other.aU]),(Pt tB)] h= .ret (AV.bool (ic other t)) h:=by
 have WT:=CL.2.2.small
 have Hc:=Rq.2.2.small
 obtain ⟨h1,bM,cx,jc,aQ,cA⟩:=j_ bW (aM.cells [(AV.str other.name),(Zi other.aI),other.aO,other.aU] 44 false)
 have bt:Has h h1:=cA
 have e:ic other t=(decide (other.name=t.name)):=by simp only[ic,cond_true,cond_false]
 rw[e]
 exact aD rfl (bb Tryz.func66 En rfl (.inr rfl) (pk (d) _ _ h _ h1 (NN bM (fun i=>(Pt i))<|CN 2<|MM (aw 9 0 (AV.str other.name) aQ k!)<|CC<|MM (aw 9 0 (AV.str t.name) (cA _ _ wj) k!)<|VV (KY 9 false false other.name t.name)<|CC<|ZZ) k!) k!) bt rfl
noncomputable def wy:Code:=(Tryz.f146.body).getD .skip
theorem Ep:Tryz.f146.body=some wy:=by kernel_rfl
noncomputable def IS:Code:=(bE wy).getD 0 .skip
def ie (s:List Int) (v:Int):Nat→Nat→Option (Int)
 | 0,_=>none
 | dz+1,i0=>(bif (decide (v=(s.g i0))) then some ((i0:Nat):Int) else ie s v dz (i0+1))
theorem qR {d:Nat} {h:au} (sV:AV) (v:Int) (s:List Int) (bn:b_ h .i64 3 sV s):∀(k_ i_:Nat) (_:i_+k_=s.length) (x:Nat→AV) (hh:au) (aE:Tidy hh) (aB:Has h hh),aA (cR (d)) IS ⟨(sV::(Zi v)::rx x 2 5 ((Zn s.length)::(Zn i_)::rx x 9 10 [])),hh,[],.no⟩ (.exit 0) hh (fun y=>(sV::(Zi v)::rx y 2 5 ((Zn s.length)::rx y 8 11 []))) (fun r y=>(sV::(Zi v)::(y 2)::(y 3)::(Zi r)::(y 5)::(y 6)::(Zn s.length)::rx y 8 11 [])) (ie s v k_ i_)
 | 0,i0,fX,x,hh,aE,aB=>by
   have cm:=bn.small
   have q1:(decide (((i0:Nat):Int)<((s.length:Nat):Int)))=false:=d!
   exact aA.out rfl (pk (d) _ _ hh _ hh (VV (ba 3 false false .i64 ((i0:Nat):Int) ((s.length:Nat):Int))<|BB q1<|ZZ) k!) (bF.refl aE) k!
 | dz+1,i0,fX,x,hh,aE,aB=>by
   have cm:=bn.small
   have q1:(decide (((i0:Nat):Int)<((s.length:Nat):Int)))=true:=d!
   obtain ⟨p3,q4,cX,_⟩:=(bn.has aB).elem (i:=i0) o!
   have gv:bS env (some (.slice 3)) (some sV) (some (Zn i0))=some (AV.ptr p3 q4):=cX
   have g5:bh env hh 3 (AV.ptr p3 q4)=some (Zi (s.g i0)):=(bn.has aB).load o! cX
   rcases Bool.eq_false_or_eq_true (decide (v=(s.g i0))) with f1 | f1
   · have dC:=of_decide_eq_true f1
     exact aA.ret ((i0:Nat):Int) (by simp only[ie,f1,cond_true,cond_false]) (pk (d) _ _ hh _ hh (VV (ba 3 false false .i64 ((i0:Nat):Int) ((s.length:Nat):Int))<|BB q1<|CN 5<|VV gv<|MM g5<|VV (lr 3 false false .i64 v (s.g i0))<|BB f1<|CN 2<|ZZ) k!) (bF.refl aE) k!
   · have dC:=of_decide_eq_false f1
     have u7:=fe 3 false true i0 1 o!
     exact aA.round (by simp only[ie,f1,cond_true,cond_false]) (pk (d) _ _ hh _ hh (VV (ba 3 false false .i64 ((i0:Nat):Int) ((s.length:Nat):Int))<|BB q1<|CN 5<|VV gv<|MM g5<|VV (lr 3 false false .i64 v (s.g i0))<|BV f1 u7<|CC<|ZZ) k!) (bF.refl aE) _ k! (fun x=>qR sV v s bn dz (i0+1) o! x hh aE aB)
def mV (s:List Int) (v:Int):Int:=(match (ie s v s.length 0) with | none=>(-1) | some AZ=>AZ)
theorem Nz {d:Nat} {h:au} {sV:AV} (s:List Int) (v:Int) (qd:b_ h .i64 3 sV s) (bW:Tidy h):cR (d+1) (.fn 146) [sV,(Zi v)] h= .ret (Zi (mV s v)) h:=by
 have zy:=qd.small
 have dG:b6 (some (.slice 3)) (some sV)=some (Zn s.length):=qd.len
 cases ef:ie s v s.length 0 with
 | none=>
   obtain ⟨Mm,h3,dD,dq⟩:=aA.n ef (qR (d:=d) (h:=h) sV v s qd s.length 0 o! (fun k_=>((sV::(Zi v)::AV.undef::AV.undef::(Zi 0)::AV.undef::sV::(Zn s.length)::(Zi 0)::g4 10):List AV).getD k_ AV.undef) h bW (Has.refl _))
   have nh:=dq.y
   have uR:h.nx≤h3.nx:=dq.n
   have iz:Has h h3:=dq.a
   have e:mV s v=(-1):=by simp only[mV,ef,cond_true,cond_false]
   rw[e]
   exact aD rfl (bb Tryz.func146 Ep rfl (.inr rfl) (pk (d) _ _ h _ h3 (CN 2<|VV dG<|CC<|LL dD<|CC<|ZZ) k!) k!) iz rfl
 | some AZ=>
   obtain ⟨Mm,h3,dD,dq⟩:=aA.r ef (qR (d:=d) (h:=h) sV v s qd s.length 0 o! (fun k_=>((sV::(Zi v)::AV.undef::AV.undef::(Zi 0)::AV.undef::sV::(Zn s.length)::(Zi 0)::g4 10):List AV).getD k_ AV.undef) h bW (Has.refl _))
   have nh:=dq.y
   have uR:h.nx≤h3.nx:=dq.n
   have iz:Has h h3:=dq.a
   have e:mV s v=AZ:=by simp only[mV,ef,cond_true,cond_false]
   rw[e]
   exact aD rfl (bb Tryz.func146 Ep rfl (.inr rfl) (pk (d) _ _ h _ h3 (CN 2<|VV dG<|CC<|LL dD<|ZZ) k!) k!) iz rfl
noncomputable def A0:Code:=(Tryz.f117.body).getD .skip
theorem FU:Tryz.f117.body=some A0:=by kernel_rfl
def kA (s:List Int) (v:Int):Bool:=(decide (0≤(mV s v)))
theorem FV {d:Nat} {h:au} {sV:AV} (s:List Int) (v:Int) (qd:b_ h .i64 3 sV s) (bW:Tidy h):cR (d+2) (.fn 117) [sV,(Zi v)] h= .ret (AV.bool (kA s v)) h:=by
 have zy:=qd.small
 have k1:=Nz (d:=d) s v qd bW
 have e:kA s v=(decide (0≤(mV s v))):=by simp only[kA,cond_true,cond_false]
 rw[e]
 exact aD rfl (bb Tryz.func117 FU rfl (.inr rfl) (pk (d+1) _ _ h _ h (CN 3<|EE k1<|VV (lH 3 false true .i64 (mV s v) 0)<|CC<|ZZ) k!) k!) (Has.refl _) rfl
noncomputable def A1:Code:=(Tryz.f69.body).getD .skip
theorem qS:Tryz.f69.body=some A1:=by kernel_rfl
def fR (j:cz) (before:List Int) (kR:Int):Int:=(bif (!(ly kR ((j.ab.length:Nat):Int))) then 7 else (bif (kA before kR) then 6 else 0))
theorem FW {d:Nat} {h:au} {mW:AV} (j:cz) (before:List Int) (kR:Int) (bH:aL.ok h j) (jT:b_ h .i64 3 mW before) (bW:Tidy h):cR (d+3) (.fn 69) [(AV.agg [j.aj,j.ag]),mW,(Zi kR)] h= .ret (Zi (fR j before kR)) h:=by
 have xC:=jT.small
 have dP:=bH.1.small
 have dQ:=bH.2.small
 obtain ⟨h1,bM,cx,jc,aQ,cA⟩:=j_ bW (aM.cells [j.aj,j.ag] 25 false)
 have bt:Has h h1:=cA
 have re:b6 (some (.slice 44)) (some j.aj)=some (Zn j.ab.length):=bH.1.len
 have k3:=Lv (d:=d+1) kR ((j.ab.length:Nat):Int) cx
 rcases Bool.eq_false_or_eq_true (!(ly kR ((j.ab.length:Nat):Int))) with f0 | f0
 · have e:fR j before kR=7:=by simp only[fR,f0,cond_true,cond_false]
   rw[e]
   exact aD rfl (bb Tryz.func69 qS rfl (.inr rfl) (pk (d+2) _ _ h _ h1 (NN bM (fun i=>(Pt i))<|CN 3<|MM (aw 22 0 j.aj aQ k!)<|VV re<|EE k3<|CN 2<|BC f0<|ZZ) k!) k!) bt rfl
 · have k5:=FV (d:=d) before kR (jT.has bt) cx
   rcases Bool.eq_false_or_eq_true (kA before kR) with f1 | f1
   · have e:fR j before kR=6:=by simp only[fR,f0,f1,cond_true,cond_false]
     rw[e]
     exact aD rfl (bb Tryz.func69 qS rfl (.inr rfl) (pk (d+2) _ _ h _ h1 (NN bM (fun i=>(Pt i))<|CN 3<|MM (aw 22 0 j.aj aQ k!)<|VV re<|EE k3<|CN 2<|BB f0<|CN 2<|EE k5<|CC<|BC f1<|ZZ) k!) k!) bt rfl
   · have e:fR j before kR=0:=by simp only[fR,f0,f1,cond_true,cond_false]
     rw[e]
     exact aD rfl (bb Tryz.func69 qS rfl (.inr rfl) (pk (d+2) _ _ h _ h1 (NN bM (fun i=>(Pt i))<|CN 3<|MM (aw 22 0 j.aj aQ k!)<|VV re<|EE k3<|CN 2<|BB f0<|CN 2<|EE k5<|CC<|BC f1<|ZZ) k!) k!) bt rfl
noncomputable def zz:Code:=(Tryz.f68.body).getD .skip
theorem Er:Tryz.f68.body=some zz:=by kernel_rfl
def cO (before:List Int) (kR:Int) (j:cz):Int:=(fR j before kR)
theorem Es {d:Nat} {h:au} {mW:AV} (before:List Int) (kR:Int) (j:cz) (jB:Nat) (jT:b_ h .i64 3 mW before) (bH:aL.ok h j) (g_j:h.get jB=some (.cells (aL.c j) 25 false)) (bW:Tidy h):cR (d+4) (.fn 68) [mW,(Zi kR),(Pt jB)] h= .ret (Zi (cO before kR j)) h:=by
 have xC:=jT.small
 have dP:=bH.1.small
 have dQ:=bH.2.small
 have k1:=FW (d:=d) j before kR bH jT bW
 have e:cO before kR j=(fR j before kR):=by simp only[cO,cond_true,cond_false]
 rw[e]
 exact aD rfl (bb Tryz.func68 Er rfl (.inr rfl) (pk (d+3) _ _ h _ h (CC<|MM (aw 25 0 (AV.agg [j.aj,j.ag]) g_j k!)<|CN 2<|EE k1<|CC<|ZZ) k!) k!) (Has.refl _) rfl
noncomputable def A2:Code:=(Tryz.f118.body).getD .skip
theorem FX:Tryz.f118.body=some A2:=by kernel_rfl
def jj (other:jh) (u:jh):Bool:=(decide (other.ah=u.ah))
theorem FY {d:Nat} {h:au} (other:jh) (u:jh) (uB:Nat) (CL:aL.ok h other) (h_u:aL.ok h u) (g_u:h.get uB=some (.cells (aL.c u) 88 false)) (bW:Tidy h):cR (d+1) (.fn 118) [(AV.agg [(Zi other.ah),(Zi other.ay)]),(Pt uB)] h= .ret (AV.bool (jj other u)) h:=by
 obtain ⟨h1,bM,cx,jc,aQ,cA⟩:=j_ bW (aM.cells [(Zi other.ah),(Zi other.ay)] 88 false)
 have bt:Has h h1:=cA
 have e:jj other u=(decide (other.ah=u.ah)):=by simp only[jj,cond_true,cond_false]
 rw[e]
 exact aD rfl (bb Tryz.func118 FX rfl (.inr rfl) (pk (d) _ _ h _ h1 (NN bM (fun i=>(Pt i))<|CN 2<|MM (aw 3 0 (Zi other.ah) aQ k!)<|CC<|MM (aw 3 0 (Zi u.ah) (cA _ _ g_u) k!)<|VV (lr 3 false false .i64 other.ah u.ah)<|CC<|ZZ) k!) k!) bt rfl
noncomputable def th:Code:=(Tryz.f129.body).getD .skip
theorem zA:Tryz.f129.body=some th:=by kernel_rfl
noncomputable def Et:Code:=(bE th).getD 0 .skip
def fK (s:List jh) (P:jh→Bool):Nat→Nat→Option (Int)
 | 0,_=>none
 | dz+1,i0=>(bif (P (s.g i0)) then some ((i0:Nat):Int) else fK s P dz (i0+1))
theorem oO {d:Nat} {h:au} (sV:AV) (g:FuncId) (cap:List AV) (s:List jh) (P:jh→Bool) (bn:aS h sV s) (hP:∀y∈s,∀hh,Tidy hh→Has h hh→cR d (.fn g) (.agg (aL.c y)::cap) hh= .ret (.bool (P y)) hh):∀(k_ i_:Nat) (_:i_+k_=s.length) (x:Nat→AV) (hh:au) (aE:Tidy hh) (aB:Has h hh),aA (cR (d)) Et ⟨(sV::(AV.func g [] cap)::rx x 2 5 ((Zn s.length)::(Zn i_)::rx x 9 10 [])),hh,[],.no⟩ (.exit 0) hh (fun y=>(sV::(AV.func g [] cap)::rx y 2 5 ((Zn s.length)::rx y 8 11 []))) (fun r y=>(sV::(AV.func g [] cap)::(y 2)::(y 3)::(Zi r)::(y 5)::(y 6)::(Zn s.length)::rx y 8 11 [])) (fK s P k_ i_)
 | 0,i0,fX,x,hh,aE,aB=>by
   have cm:=bn.small
   have q1:(decide (((i0:Nat):Int)<((s.length:Nat):Int)))=false:=d!
   exact aA.out rfl (pk (d) _ _ hh _ hh (VV (ba 3 false false .i64 ((i0:Nat):Int) ((s.length:Nat):Int))<|BB q1<|ZZ) k!) (bF.refl aE) k!
 | dz+1,i0,fX,x,hh,aE,aB=>by
   have cm:=bn.small
   have q1:(decide (((i0:Nat):Int)<((s.length:Nat):Int)))=true:=d!
   obtain ⟨p3,q4,cX⟩:=(bn.has aB).elem (i:=i0) o!
   have gv:bS env (some (.slice 88)) (some sV) (some (Zn i0))=some (AV.ptr p3 q4):=cX
   have g5:bh env hh 88 (AV.ptr p3 q4)=some (AV.agg [(Zi ((s.g i0).ah)),(Zi ((s.g i0).ay))]):=(bn.has aB).load o! cX
   have k6:=hP (s.g i0) (Pq o!) hh aE aB
   rcases Bool.eq_false_or_eq_true (P (s.g i0)) with f1 | f1
   · exact aA.ret ((i0:Nat):Int) (by simp only[fK,f1,cond_true,cond_false]) (pk (d) _ _ hh _ hh (VV (ba 3 false false .i64 ((i0:Nat):Int) ((s.length:Nat):Int))<|BB q1<|CN 5<|VV gv<|MM g5<|EE k6<|BB f1<|CN 2<|ZZ) k!) (bF.refl aE) k!
   · have u8:=fe 3 false true i0 1 o!
     exact aA.round (by simp only[fK,f1,cond_true,cond_false]) (pk (d) _ _ hh _ hh (VV (ba 3 false false .i64 ((i0:Nat):Int) ((s.length:Nat):Int))<|BB q1<|CN 5<|VV gv<|MM g5<|EE k6<|BV f1 u8<|CC<|ZZ) k!) (bF.refl aE) _ k! (fun x=>oO sV g cap s P bn hP dz (i0+1) o! x hh aE aB)
def jC (s:List jh) (P:jh→Bool):Int:=(match (fK s P s.length 0) with | none=>(-1) | some AZ=>AZ)
theorem IT {d:Nat} {h:au} {sV:AV} {g:FuncId} {cap:List AV} (s:List jh) (P:jh→Bool) (qd:aS h sV s) (hP:∀y∈s,∀hh,Tidy hh→Has h hh→cR d (.fn g) (.agg (aL.c y)::cap) hh= .ret (.bool (P y)) hh) (bW:Tidy h):cR (d+1) (.fn 129) [sV,(AV.func g [] cap)] h= .ret (Zi (jC s P)) h:=by
 have zy:=qd.small
 have dG:b6 (some (.slice 88)) (some sV)=some (Zn s.length):=qd.len
 cases ef:fK s P s.length 0 with
 | none=>
   obtain ⟨Mm,h3,dD,dq⟩:=aA.n ef (oO (d:=d) (h:=h) sV g cap s P qd hP s.length 0 o! (fun k_=>((sV::(AV.func g [] cap)::AV.undef::AV.undef::(Zi 0)::AV.undef::sV::(Zn s.length)::(Zi 0)::g4 10):List AV).getD k_ AV.undef) h bW (Has.refl _))
   have nh:=dq.y
   have uR:h.nx≤h3.nx:=dq.n
   have iz:Has h h3:=dq.a
   have e:jC s P=(-1):=by simp only[jC,ef,cond_true,cond_false]
   rw[e]
   exact aD rfl (bb Tryz.func129 zA rfl (.inr rfl) (pk (d) _ _ h _ h3 (CN 2<|VV dG<|CC<|LL dD<|CC<|ZZ) k!) k!) iz rfl
 | some AZ=>
   obtain ⟨Mm,h3,dD,dq⟩:=aA.r ef (oO (d:=d) (h:=h) sV g cap s P qd hP s.length 0 o! (fun k_=>((sV::(AV.func g [] cap)::AV.undef::AV.undef::(Zi 0)::AV.undef::sV::(Zn s.length)::(Zi 0)::g4 10):List AV).getD k_ AV.undef) h bW (Has.refl _))
   have nh:=dq.y
   have uR:h.nx≤h3.nx:=dq.n
   have iz:Has h h3:=dq.a
   have e:jC s P=AZ:=by simp only[jC,ef,cond_true,cond_false]
   rw[e]
   exact aD rfl (bb Tryz.func129 zA rfl (.inr rfl) (pk (d) _ _ h _ h3 (CN 2<|VV dG<|CC<|LL dD<|ZZ) k!) k!) iz rfl
noncomputable def xD:Code:=(Tryz.f90.body).getD .skip
theorem Cj:Tryz.f90.body=some xD:=by kernel_rfl
def gK (s:List jh) (P:jh→Bool):Bool:=(decide (0≤(jC s P)))
theorem Ck {d:Nat} {h:au} {sV:AV} {g:FuncId} {cap:List AV} (s:List jh) (P:jh→Bool) (qd:aS h sV s) (hP:∀y∈s,∀hh,Tidy hh→Has h hh→cR d (.fn g) (.agg (aL.c y)::cap) hh= .ret (.bool (P y)) hh) (bW:Tidy h):cR (d+2) (.fn 90) [sV,(AV.func g [] cap)] h= .ret (AV.bool (gK s P)) h:=by
 have zy:=qd.small
 have k1:=IT (d:=d) s P qd hP bW
 have e:gK s P=(decide (0≤(jC s P))):=by simp only[gK,cond_true,cond_false]
 rw[e]
 exact aD rfl (bb Tryz.func90 Cj rfl (.inr rfl) (pk (d+1) _ _ h _ h (CN 3<|EE k1<|VV (lH 3 false true .i64 (jC s P) 0)<|CC<|ZZ) k!) k!) (Has.refl _) rfl
noncomputable def Cl:Code:=(Tryz.f72.body).getD .skip
theorem kS:Tryz.f72.body=some Cl:=by kernel_rfl
def dx (j:cz) (before:List jh) (u:jh):Int:=(bif (!(ly u.ah ((j.af.length:Nat):Int))) then 7 else (bif (gK before (fun y=>jj y u)) then 6 else (bif (decide (u.ay<1)) then 1 else (bif (decide (1000<u.ay)) then 1 else (bif (decide (((j.af.g u.ah.toNat).ay)<u.ay)) then 9 else 0)))))
theorem IU {d:Nat} {h:au} {mW:AV} (j:cz) (before:List jh) (u:jh) (bH:aL.ok h j) (jT:aS h mW before) (h_u:aL.ok h u) (bW:Tidy h):cR (d+4) (.fn 72) [(AV.agg [j.aj,j.ag]),mW,(AV.agg [(Zi u.ah),(Zi u.ay)])] h= .ret (Zi (dx j before u)) h:=by
 have xC:=jT.small
 have dP:=bH.1.small
 have dQ:=bH.2.small
 obtain ⟨h1,bM,cx,jc,aQ,cA⟩:=j_ bW (aM.cells [j.aj,j.ag] 25 false)
 have bt:Has h h1:=cA
 obtain ⟨h2,su,uQ,Yv,gq,my⟩:=j_ cx (aM.cells [(Zi u.ah),(Zi u.ay)] 88 false)
 have kp:Has h h2:=bt.trans my
 have Ef:b6 (some (.slice 41)) (some j.ag)=some (Zn j.af.length):=bH.2.len
 have k4:=Lv (d:=d+2) u.ah ((j.af.length:Nat):Int) uQ
 rcases Bool.eq_false_or_eq_true (!(ly u.ah ((j.af.length:Nat):Int))) with f0 | f0
 · have e:dx j before u=7:=by simp only[dx,f0,cond_true,cond_false]
   rw[e]
   exact aD rfl (bb Tryz.func72 kS rfl (.inr rfl) (pk (d+3) _ _ h _ h2 (NN bM (fun i=>(Pt i))<|NN su (fun i=>(Pt i))<|CN 2<|MM (aw 3 0 (Zi u.ah) gq k!)<|CC<|MM (aw 23 1 j.ag (my _ _ aQ) k!)<|VV Ef<|EE k4<|CN 2<|BC f0<|ZZ) k!) k!) kp rfl
 · have ahG:(ly u.ah ((j.af.length:Nat):Int))=true:=d!
   have agr:=AW ahG
   have k6:=Ck (d:=d+1) before (fun y=>jj y u) (jT.has kp) (fun y hy hh yy aa=>FY (d:=d) y u h1.nx (aL.mono aa ((jT.has kp).oks y hy)) (aL.mono aa trivial) (aa _ _ gq) yy) uQ
   rcases Bool.eq_false_or_eq_true (gK before (fun y=>jj y u)) with f1 | f1
   · have e:dx j before u=6:=by simp only[dx,f0,f1,cond_true,cond_false]
     rw[e]
     exact aD rfl (bb Tryz.func72 kS rfl (.inr rfl) (pk (d+3) _ _ h _ h2 (NN bM (fun i=>(Pt i))<|NN su (fun i=>(Pt i))<|CN 2<|MM (aw 3 0 (Zi u.ah) gq k!)<|CC<|MM (aw 23 1 j.ag (my _ _ aQ) k!)<|VV Ef<|EE k4<|CN 2<|BB f0<|CN 2<|EE k6<|CC<|BC f1<|ZZ) k!) k!) kp rfl
   · rcases Bool.eq_false_or_eq_true (decide (u.ay<1)) with f2 | f2
     · have jw:=of_decide_eq_true f2
       have e:dx j before u=1:=by simp only[dx,f0,f1,f2,cond_true,cond_false]
       rw[e]
       exact aD rfl (bb Tryz.func72 kS rfl (.inr rfl) (pk (d+3) _ _ h _ h2 (NN bM (fun i=>(Pt i))<|NN su (fun i=>(Pt i))<|CN 2<|MM (aw 3 0 (Zi u.ah) gq k!)<|CC<|MM (aw 23 1 j.ag (my _ _ aQ) k!)<|VV Ef<|EE k4<|CN 2<|BB f0<|CN 2<|EE k6<|CC<|BC f1<|MM (aw 3 1 (Zi u.ay) gq k!)<|VV (ba 3 false true .i64 u.ay 1)<|CC<|BB f2<|BB f2<|BV f2 (uN true f2)<|CC<|TT<|CC<|ZZ) k!) k!) kp rfl
     · have jw:=of_decide_eq_false f2
       rcases Bool.eq_false_or_eq_true (decide (1000<u.ay)) with f3 | f3
       · have mX:=of_decide_eq_true f3
         have e:dx j before u=1:=by simp only[dx,f0,f1,f2,f3,cond_true,cond_false]
         rw[e]
         exact aD rfl (bb Tryz.func72 kS rfl (.inr rfl) (pk (d+3) _ _ h _ h2 (NN bM (fun i=>(Pt i))<|NN su (fun i=>(Pt i))<|CN 2<|MM (aw 3 0 (Zi u.ah) gq k!)<|CC<|MM (aw 23 1 j.ag (my _ _ aQ) k!)<|VV Ef<|EE k4<|CN 2<|BB f0<|CN 2<|EE k6<|CC<|BC f1<|MM (aw 3 1 (Zi u.ay) gq k!)<|VV (ba 3 false true .i64 u.ay 1)<|CC<|BC f2<|BM f2 (aw 3 1 (Zi u.ay) gq k!)<|BV f2 (bR 3 false true .i64 u.ay 1000)<|VV (bA (a:=some (AV.bool true)) (b:=some (AV.bool (decide (1000<u.ay)))) f2)<|CC<|BC f3<|ZZ) k!) k!) kp rfl
       · have mX:=of_decide_eq_false f3
         obtain ⟨p11,q12,aat⟩:=bH.2.elem (i:=u.ah.toNat) o!
         have Rl:bS env (some (.slice 41)) (some j.ag) (some (Zi u.ah))=some (AV.ptr p11 q12):=by rw[show (u.ah:Int)=((u.ah.toNat:Nat):Int) by omega];exact aat
         have Y0:bh env h2 3 (AV.ptr p11 (q12+1))=some (Zi ((j.af.g u.ah.toNat).ay)):=(bH.2.has kp).part (t:=3) (j:=1) o! aat k! rfl
         have JI:AV.same 20 j.ag j.ag=true:=bH.2.same 19
         rcases Bool.eq_false_or_eq_true (decide (((j.af.g u.ah.toNat).ay)<u.ay)) with f4 | f4
         · have sy:=of_decide_eq_true f4
           have e:dx j before u=9:=by simp only[dx,f0,f1,f2,f3,f4,cond_true,cond_false]
           rw[e]
           exact aD rfl (bb Tryz.func72 kS rfl (.inr rfl) (pk (d+3) _ _ h _ h2 (NN bM (fun i=>(Pt i))<|NN su (fun i=>(Pt i))<|CN 2<|MM (aw 3 0 (Zi u.ah) gq k!)<|CC<|MM (aw 23 1 j.ag (my _ _ aQ) k!)<|VV Ef<|EE k4<|CN 2<|BB f0<|CN 2<|EE k6<|CC<|BC f1<|MM (aw 3 1 (Zi u.ay) gq k!)<|VV (ba 3 false true .i64 u.ay 1)<|CC<|BC f2<|BM f2 (aw 3 1 (Zi u.ay) gq k!)<|BV f2 (bR 3 false true .i64 u.ay 1000)<|VV (bA (a:=some (AV.bool true)) (b:=some (AV.bool (decide (1000<u.ay)))) f2)<|CC<|BC f3<|MM (aw 3 1 (Zi u.ay) gq k!)<|CC<|MM (aw 23 1 j.ag (my _ _ aQ) k!)<|CC<|MM (aw 3 0 (Zi u.ah) gq k!)<|VV Rl<|CC<|MM Y0<|VV (bR 3 false false .i64 u.ay ((j.af.g u.ah.toNat).ay))<|CC<|HH (aw 3 1 (Zi u.ay) gq k!)<|HH (show AV.same 20 (Zi u.ay) (Zi u.ay)=true from aJ 19 _ _)<|HH (aw 23 1 j.ag (my _ _ aQ) k!)<|HH JI<|HH (aw 3 0 (Zi u.ah) gq k!)<|HH (show AV.same 20 (Zi u.ah) (Zi u.ah)=true from aJ 19 _ _)<|HH Y0<|HH (show AV.same 20 (Zi ((j.af.g u.ah.toNat).ay)) (Zi ((j.af.g u.ah.toNat).ay))=true from aJ 19 _ _)<|BC f4<|ZZ) k!) k!) kp rfl
         · have sy:=of_decide_eq_false f4
           have e:dx j before u=0:=by simp only[dx,f0,f1,f2,f3,f4,cond_true,cond_false]
           rw[e]
           exact aD rfl (bb Tryz.func72 kS rfl (.inr rfl) (pk (d+3) _ _ h _ h2 (NN bM (fun i=>(Pt i))<|NN su (fun i=>(Pt i))<|CN 2<|MM (aw 3 0 (Zi u.ah) gq k!)<|CC<|MM (aw 23 1 j.ag (my _ _ aQ) k!)<|VV Ef<|EE k4<|CN 2<|BB f0<|CN 2<|EE k6<|CC<|BC f1<|MM (aw 3 1 (Zi u.ay) gq k!)<|VV (ba 3 false true .i64 u.ay 1)<|CC<|BC f2<|BM f2 (aw 3 1 (Zi u.ay) gq k!)<|BV f2 (bR 3 false true .i64 u.ay 1000)<|VV (bA (a:=some (AV.bool true)) (b:=some (AV.bool (decide (1000<u.ay)))) f2)<|CC<|BC f3<|MM (aw 3 1 (Zi u.ay) gq k!)<|CC<|MM (aw 23 1 j.ag (my _ _ aQ) k!)<|CC<|MM (aw 3 0 (Zi u.ah) gq k!)<|VV Rl<|CC<|MM Y0<|VV (bR 3 false false .i64 u.ay ((j.af.g u.ah.toNat).ay))<|CC<|HH (aw 3 1 (Zi u.ay) gq k!)<|HH (show AV.same 20 (Zi u.ay) (Zi u.ay)=true from aJ 19 _ _)<|HH (aw 23 1 j.ag (my _ _ aQ) k!)<|HH JI<|HH (aw 3 0 (Zi u.ah) gq k!)<|HH (show AV.same 20 (Zi u.ah) (Zi u.ah)=true from aJ 19 _ _)<|HH Y0<|HH (show AV.same 20 (Zi ((j.af.g u.ah.toNat).ay)) (Zi ((j.af.g u.ah.toNat).ay))=true from aJ 19 _ _)<|BC f4<|ZZ) k!) k!) kp rfl
noncomputable def zB:Code:=(Tryz.f71.body).getD .skip
theorem Eu:Tryz.f71.body=some zB:=by kernel_rfl
def fL (before:List jh) (u:jh) (j:cz):Int:=(dx j before u)
theorem Ew {d:Nat} {h:au} {mW:AV} (before:List jh) (u:jh) (j:cz) (jB:Nat) (jT:aS h mW before) (h_u:aL.ok h u) (bH:aL.ok h j) (g_j:h.get jB=some (.cells (aL.c j) 25 false)) (bW:Tidy h):cR (d+5) (.fn 71) [mW,(AV.agg [(Zi u.ah),(Zi u.ay)]),(Pt jB)] h= .ret (Zi (fL before u j)) h:=by
 have xC:=jT.small
 have dP:=bH.1.small
 have dQ:=bH.2.small
 obtain ⟨h1,bM,cx,jc,aQ,cA⟩:=j_ bW (aM.cells [(Zi u.ah),(Zi u.ay)] 88 false)
 have bt:Has h h1:=cA
 have k2:=IU (d:=d) j before u (aL.mono bt bH) (jT.has bt) trivial cx
 have e:fL before u j=(dx j before u):=by simp only[fL,cond_true,cond_false]
 rw[e]
 exact aD rfl (bb Tryz.func71 Eu rfl (.inr rfl) (pk (d+4) _ _ h _ h1 (NN bM (fun i=>(Pt i))<|CC<|MM (aw 25 0 (AV.agg [j.aj,j.ag]) (cA _ _ g_j) k!)<|CC<|MM (aw 88 0 (AV.agg [(Zi u.ah),(Zi u.ay)]) aQ k!)<|EE k2<|CC<|ZZ) k!) k!) bt rfl
noncomputable def rH:Code:=(Tryz.f116.body).getD .skip
theorem wz:Tryz.f116.body=some rH:=by kernel_rfl
noncomputable def Cm:Code:=(bE rH).getD 0 .skip
def fl (s:List Task) (P:Task→Bool):Nat→Nat→Option (Int)
 | 0,_=>none
 | dz+1,i0=>(bif (P (s.g i0)) then some ((i0:Nat):Int) else fl s P dz (i0+1))
theorem nD {d:Nat} {h:au} (sV:AV) (g:FuncId) (cap:List AV) (s:List Task) (P:Task→Bool) (bn:aS h sV s) (hP:∀y∈s,∀hh,Tidy hh→Has h hh→cR d (.fn g) (.agg (aL.c y)::cap) hh= .ret (.bool (P y)) hh):∀(k_ i_:Nat) (_:i_+k_=s.length) (x:Nat→AV) (hh:au) (aE:Tidy hh) (aB:Has h hh),aA (cR (d)) Cm ⟨(sV::(AV.func g [] cap)::rx x 2 5 ((Zn s.length)::(Zn i_)::rx x 9 10 [])),hh,[],.no⟩ (.exit 0) hh (fun y=>(sV::(AV.func g [] cap)::rx y 2 5 ((Zn s.length)::rx y 8 11 []))) (fun r y=>(sV::(AV.func g [] cap)::(y 2)::(y 3)::(Zi r)::(y 5)::(y 6)::(Zn s.length)::rx y 8 11 [])) (fl s P k_ i_)
 | 0,i0,fX,x,hh,aE,aB=>by
   have cm:=bn.small
   have q1:(decide (((i0:Nat):Int)<((s.length:Nat):Int)))=false:=d!
   exact aA.out rfl (pk (d) _ _ hh _ hh (VV (ba 3 false false .i64 ((i0:Nat):Int) ((s.length:Nat):Int))<|BB q1<|ZZ) k!) (bF.refl aE) k!
 | dz+1,i0,fX,x,hh,aE,aB=>by
   have cm:=bn.small
   have q1:(decide (((i0:Nat):Int)<((s.length:Nat):Int)))=true:=d!
   obtain ⟨p3,q4,cX⟩:=(bn.has aB).elem (i:=i0) o!
   have gv:bS env (some (.slice 44)) (some sV) (some (Zn i0))=some (AV.ptr p3 q4):=cX
   have g5:bh env hh 44 (AV.ptr p3 q4)=some (AV.agg [(AV.str ((s.g i0).name)),(Zi ((s.g i0).aI)),((s.g i0).aO),((s.g i0).aU)]):=(bn.has aB).load o! cX
   have k6:=hP (s.g i0) (Pq o!) hh aE aB
   rcases Bool.eq_false_or_eq_true (P (s.g i0)) with f1 | f1
   · exact aA.ret ((i0:Nat):Int) (by simp only[fl,f1,cond_true,cond_false]) (pk (d) _ _ hh _ hh (VV (ba 3 false false .i64 ((i0:Nat):Int) ((s.length:Nat):Int))<|BB q1<|CN 5<|VV gv<|MM g5<|EE k6<|BB f1<|CN 2<|ZZ) k!) (bF.refl aE) k!
   · have u8:=fe 3 false true i0 1 o!
     exact aA.round (by simp only[fl,f1,cond_true,cond_false]) (pk (d) _ _ hh _ hh (VV (ba 3 false false .i64 ((i0:Nat):Int) ((s.length:Nat):Int))<|BB q1<|CN 5<|VV gv<|MM g5<|EE k6<|BV f1 u8<|CC<|ZZ) k!) (bF.refl aE) _ k! (fun x=>nD sV g cap s P bn hP dz (i0+1) o! x hh aE aB)
def ig (s:List Task) (P:Task→Bool):Int:=(match (fl s P s.length 0) with | none=>(-1) | some AZ=>AZ)
theorem FZ {d:Nat} {h:au} {sV:AV} {g:FuncId} {cap:List AV} (s:List Task) (P:Task→Bool) (qd:aS h sV s) (hP:∀y∈s,∀hh,Tidy hh→Has h hh→cR d (.fn g) (.agg (aL.c y)::cap) hh= .ret (.bool (P y)) hh) (bW:Tidy h):cR (d+1) (.fn 116) [sV,(AV.func g [] cap)] h= .ret (Zi (ig s P)) h:=by
 have zy:=qd.small
 have dG:b6 (some (.slice 44)) (some sV)=some (Zn s.length):=qd.len
 cases ef:fl s P s.length 0 with
 | none=>
   obtain ⟨Mm,h3,dD,dq⟩:=aA.n ef (nD (d:=d) (h:=h) sV g cap s P qd hP s.length 0 o! (fun k_=>((sV::(AV.func g [] cap)::AV.undef::AV.undef::(Zi 0)::AV.undef::sV::(Zn s.length)::(Zi 0)::g4 10):List AV).getD k_ AV.undef) h bW (Has.refl _))
   have nh:=dq.y
   have uR:h.nx≤h3.nx:=dq.n
   have iz:Has h h3:=dq.a
   have e:ig s P=(-1):=by simp only[ig,ef,cond_true,cond_false]
   rw[e]
   exact aD rfl (bb Tryz.func116 wz rfl (.inr rfl) (pk (d) _ _ h _ h3 (CN 2<|VV dG<|CC<|LL dD<|CC<|ZZ) k!) k!) iz rfl
 | some AZ=>
   obtain ⟨Mm,h3,dD,dq⟩:=aA.r ef (nD (d:=d) (h:=h) sV g cap s P qd hP s.length 0 o! (fun k_=>((sV::(AV.func g [] cap)::AV.undef::AV.undef::(Zi 0)::AV.undef::sV::(Zn s.length)::(Zi 0)::g4 10):List AV).getD k_ AV.undef) h bW (Has.refl _))
   have nh:=dq.y
   have uR:h.nx≤h3.nx:=dq.n
   have iz:Has h h3:=dq.a
   have e:ig s P=AZ:=by simp only[ig,ef,cond_true,cond_false]
   rw[e]
   exact aD rfl (bb Tryz.func116 wz rfl (.inr rfl) (pk (d) _ _ h _ h3 (CN 2<|VV dG<|CC<|LL dD<|ZZ) k!) k!) iz rfl
noncomputable def vY:Code:=(Tryz.f65.body).getD .skip
theorem A3:Tryz.f65.body=some vY:=by kernel_rfl
def fm (s:List Task) (P:Task→Bool):Bool:=(decide (0≤(ig s P)))
theorem A4 {d:Nat} {h:au} {sV:AV} {g:FuncId} {cap:List AV} (s:List Task) (P:Task→Bool) (qd:aS h sV s) (hP:∀y∈s,∀hh,Tidy hh→Has h hh→cR d (.fn g) (.agg (aL.c y)::cap) hh= .ret (.bool (P y)) hh) (bW:Tidy h):cR (d+2) (.fn 65) [sV,(AV.func g [] cap)] h= .ret (AV.bool (fm s P)) h:=by
 have zy:=qd.small
 have k1:=FZ (d:=d) s P qd hP bW
 have e:fm s P=(decide (0≤(ig s P))):=by simp only[fm,cond_true,cond_false]
 rw[e]
 exact aD rfl (bb Tryz.func65 A3 rfl (.inr rfl) (pk (d+1) _ _ h _ h (CN 3<|EE k1<|VV (lH 3 false true .i64 (ig s P) 0)<|CC<|ZZ) k!) k!) (Has.refl _) rfl
noncomputable def j1:Code:=(Tryz.f59.body).getD .skip
theorem xE:Tryz.f59.body=some j1:=by kernel_rfl
noncomputable def IV:Code:=(bE j1).getD 0 .skip
noncomputable def sA:Code:=(ko j1).getD 1 .skip
noncomputable def sC:Code:=(ko j1).getD 6 .skip
noncomputable def pe:Code:=(ko j1).getD 7 .skip
noncomputable def pf:Code:=(ko j1).getD 8 .skip
def jk (text:List UInt8):Nat→Nat→Option (Bool)
 | 0,_=>none
 | dz+1,i0=>(bif (bif (!(bif (decide (97≤(((text.g i0).toNat:Nat):Int))) then (decide ((((text.g i0).toNat:Nat):Int)≤122)) else false)) then (bif (decide (((i0:Nat):Int)=0)) then true else (!(bif (decide (48≤(((text.g i0).toNat:Nat):Int))) then (bif (decide ((((text.g i0).toNat:Nat):Int)≤57)) then true else (decide ((((text.g i0).toNat:Nat):Int)=45))) else (decide ((((text.g i0).toNat:Nat):Int)=45))))) else false) then some false else jk text dz (i0+1))
theorem qT {d:Nat} {h:au} (text:List UInt8) (bn:text.length<2^60):∀(k_ i_:Nat) (_:i_+k_=(List.length text)) (x:Nat→AV) (hh:au) (aE:Tidy hh) (aB:Has h hh),aA (cR (d)) IV ⟨((AV.str text)::rx x 1 13 ((Zn (List.length text))::(Zn i_)::rx x 16 39 [])),hh,[],.no⟩ (.exit 0) hh (fun y=>((AV.str text)::rx y 1 13 ((Zn (List.length text))::rx y 15 40 []))) (fun r y=>((AV.str text)::(y 1)::(AV.bool r)::rx y 3 11 ((Zn (List.length text))::rx y 15 40 []))) (jk text k_ i_)
 | 0,i0,fX,x,hh,aE,aB=>by
   have q1:(decide (((i0:Nat):Int)<((List.length text:Nat):Int)))=false:=d!
   exact aA.out rfl (pk (d) _ _ hh _ hh (VV (ba 3 false false .i64 ((i0:Nat):Int) ((List.length text:Nat):Int))<|BB q1<|ZZ) k!) (bF.refl aE) k!
 | dz+1,i0,fX,x,hh,aE,aB=>by
   have q1:(decide (((i0:Nat):Int)<((List.length text:Nat):Int)))=true:=d!
   obtain ⟨Af,oP⟩:∃Af:Nat→AV,Ev env (cR (d)) sC ⟨((AV.str text)::(x 1)::(x 2)::(Zn i0)::rx x 4 10 ((Zn (List.length text))::(Zn i0)::(AV.bool (decide (((i0:Nat):Int)<((List.length text:Nat):Int))))::(Zn i0)::rx x 18 37 [])),hh,[],.no⟩ .normal ⟨((AV.str text)::(x 1)::(x 2)::(Zn i0)::(AV.bool (bif (decide (97≤(((text.g i0).toNat:Nat):Int))) then (decide ((((text.g i0).toNat:Nat):Int)≤122)) else false))::rx x 5 9 ((Zn (List.length text))::(Zn i0)::(AV.bool (decide (((i0:Nat):Int)<((List.length text:Nat):Int))))::(Zn i0)::rx Af 18 10 (rx x 28 27 []))),hh,[],.no⟩:=by
    have gv:xm env (some .string) (some (AV.str text)) (some (Zn i0))=some (AV.int .u8 (((text.g i0).toNat:Nat):Int)):=o9 (j:=i0) o!
    rcases Bool.eq_false_or_eq_true (decide (97≤(((text.g i0).toNat:Nat):Int))) with f0 | f0
    · have dO:=of_decide_eq_true f0
      have Nf:xm env (some .string) (some (AV.str text)) (some (Zn i0))=some (AV.int .u8 (((text.g i0).toNat:Nat):Int)):=o9 (j:=i0) o!
      have ev:=pk (d) sC ((AV.str text)::(x 1)::(x 2)::(Zn i0)::rx x 4 10 ((Zn (List.length text))::(Zn i0)::(AV.bool (decide (((i0:Nat):Int)<((List.length text:Nat):Int))))::(Zn i0)::rx x 18 37 [])) hh .normal hh (CN 2<|VV gv<|VV (lH 5 false true .u8 (((text.g i0).toNat:Nat):Int) 97)<|CC<|BC f0<|BC f0<|BV f0 Nf<|BV f0 (pS 5 false true .u8 (((text.g i0).toNat:Nat):Int) 122)<|VV (kI (decide ((((text.g i0).toNat:Nat):Int)≤122)) false f0)<|CC<|ZZ) k!
      rw[show (bif (decide (97≤(((text.g i0).toNat:Nat):Int))) then (decide ((((text.g i0).toNat:Nat):Int)≤122)) else false)=(decide ((((text.g i0).toNat:Nat):Int)≤122)) by simp only[f0,cond_true,cond_false]]
      exact kO ev k!
    · have dO:=of_decide_eq_false f0
      have ev:=pk (d) sC ((AV.str text)::(x 1)::(x 2)::(Zn i0)::rx x 4 10 ((Zn (List.length text))::(Zn i0)::(AV.bool (decide (((i0:Nat):Int)<((List.length text:Nat):Int))))::(Zn i0)::rx x 18 37 [])) hh .normal hh (CN 2<|VV gv<|VV (lH 5 false true .u8 (((text.g i0).toNat:Nat):Int) 97)<|CC<|BB f0<|BB f0<|BB f0<|BV f0 (tS false f0)<|CC<|ZZ) k!
      rw[show (bif (decide (97≤(((text.g i0).toNat:Nat):Int))) then (decide ((((text.g i0).toNat:Nat):Int)≤122)) else false)=false by simp only[f0,cond_true,cond_false]]
      exact kO ev k!
   obtain ⟨yj3,Vm⟩:∃yj3:Nat→AV,Ev env (cR (d)) pe ⟨((AV.str text)::(x 1)::(x 2)::(Zn i0)::(AV.bool (bif (decide (97≤(((text.g i0).toNat:Nat):Int))) then (decide ((((text.g i0).toNat:Nat):Int)≤122)) else false))::rx x 5 9 ((Zn (List.length text))::(Zn i0)::(AV.bool (decide (((i0:Nat):Int)<((List.length text:Nat):Int))))::(Zn i0)::rx Af 18 10 (rx x 28 27 []))),hh,[],.no⟩ .normal ⟨((AV.str text)::(x 1)::(x 2)::(Zn i0)::(AV.bool (bif (decide (97≤(((text.g i0).toNat:Nat):Int))) then (decide ((((text.g i0).toNat:Nat):Int)≤122)) else false))::(AV.bool (bif (decide (48≤(((text.g i0).toNat:Nat):Int))) then (bif (decide ((((text.g i0).toNat:Nat):Int)≤57)) then true else (decide ((((text.g i0).toNat:Nat):Int)=45))) else (decide ((((text.g i0).toNat:Nat):Int)=45))))::rx x 6 8 ((Zn (List.length text))::(Zn i0)::(AV.bool (decide (((i0:Nat):Int)<((List.length text:Nat):Int))))::(Zn i0)::rx Af 18 10 (rx yj3 28 16 (rx x 44 11 [])))),hh,[],.no⟩:=by
    have iG:xm env (some .string) (some (AV.str text)) (some (Zn i0))=some (AV.int .u8 (((text.g i0).toNat:Nat):Int)):=o9 (j:=i0) o!
    rcases Bool.eq_false_or_eq_true (decide (48≤(((text.g i0).toNat:Nat):Int))) with f0 | f0
    · have dO:=of_decide_eq_true f0
      have WW:xm env (some .string) (some (AV.str text)) (some (Zn i0))=some (AV.int .u8 (((text.g i0).toNat:Nat):Int)):=o9 (j:=i0) o!
      rcases Bool.eq_false_or_eq_true (decide ((((text.g i0).toNat:Nat):Int)≤57)) with f1 | f1
      · have dC:=of_decide_eq_true f1
        have ev:=pk (d) pe ((AV.str text)::(x 1)::(x 2)::(Zn i0)::(AV.bool (bif (decide (97≤(((text.g i0).toNat:Nat):Int))) then (decide ((((text.g i0).toNat:Nat):Int)≤122)) else false))::rx x 5 9 ((Zn (List.length text))::(Zn i0)::(AV.bool (decide (((i0:Nat):Int)<((List.length text:Nat):Int))))::(Zn i0)::rx Af 18 10 (rx x 28 27 []))) hh .normal hh (CN 2<|VV iG<|VV (lH 5 false true .u8 (((text.g i0).toNat:Nat):Int) 48)<|CC<|BC f0<|BC f0<|BV f0 WW<|BV f0 (pS 5 false true .u8 (((text.g i0).toNat:Nat):Int) 57)<|VV (kI (decide ((((text.g i0).toNat:Nat):Int)≤57)) false f0)<|CC<|BB f1<|BB f1<|BB f1<|BV f1 (uN true f1)<|CC<|ZZ) k!
        rw[show (bif (decide (48≤(((text.g i0).toNat:Nat):Int))) then (bif (decide ((((text.g i0).toNat:Nat):Int)≤57)) then true else (decide ((((text.g i0).toNat:Nat):Int)=45))) else (decide ((((text.g i0).toNat:Nat):Int)=45)))=true by simp only[f0,f1,cond_true,cond_false]]
        exact kO ev k!
      · have dC:=of_decide_eq_false f1
        have NA:xm env (some .string) (some (AV.str text)) (some (Zn i0))=some (AV.int .u8 (((text.g i0).toNat:Nat):Int)):=o9 (j:=i0) o!
        have ev:=pk (d) pe ((AV.str text)::(x 1)::(x 2)::(Zn i0)::(AV.bool (bif (decide (97≤(((text.g i0).toNat:Nat):Int))) then (decide ((((text.g i0).toNat:Nat):Int)≤122)) else false))::rx x 5 9 ((Zn (List.length text))::(Zn i0)::(AV.bool (decide (((i0:Nat):Int)<((List.length text:Nat):Int))))::(Zn i0)::rx Af 18 10 (rx x 28 27 []))) hh .normal hh (CN 2<|VV iG<|VV (lH 5 false true .u8 (((text.g i0).toNat:Nat):Int) 48)<|CC<|BC f0<|BC f0<|BV f0 WW<|BV f0 (pS 5 false true .u8 (((text.g i0).toNat:Nat):Int) 57)<|VV (kI (decide ((((text.g i0).toNat:Nat):Int)≤57)) false f0)<|CC<|BC f1<|BC f1<|BV f1 NA<|BV f1 (lr 5 false true .u8 (((text.g i0).toNat:Nat):Int) 45)<|VV (bA (a:=some (AV.bool true)) (b:=some (AV.bool (decide ((((text.g i0).toNat:Nat):Int)=45)))) f1)<|CC<|ZZ) k!
        rw[show (bif (decide (48≤(((text.g i0).toNat:Nat):Int))) then (bif (decide ((((text.g i0).toNat:Nat):Int)≤57)) then true else (decide ((((text.g i0).toNat:Nat):Int)=45))) else (decide ((((text.g i0).toNat:Nat):Int)=45)))=(decide ((((text.g i0).toNat:Nat):Int)=45)) by simp only[f0,f1,cond_true,cond_false]]
        exact kO ev k!
    · have dO:=of_decide_eq_false f0
      have WW:xm env (some .string) (some (AV.str text)) (some (Zn i0))=some (AV.int .u8 (((text.g i0).toNat:Nat):Int)):=o9 (j:=i0) o!
      have ev:=pk (d) pe ((AV.str text)::(x 1)::(x 2)::(Zn i0)::(AV.bool (bif (decide (97≤(((text.g i0).toNat:Nat):Int))) then (decide ((((text.g i0).toNat:Nat):Int)≤122)) else false))::rx x 5 9 ((Zn (List.length text))::(Zn i0)::(AV.bool (decide (((i0:Nat):Int)<((List.length text:Nat):Int))))::(Zn i0)::rx Af 18 10 (rx x 28 27 []))) hh .normal hh (CN 2<|VV iG<|VV (lH 5 false true .u8 (((text.g i0).toNat:Nat):Int) 48)<|CC<|BB f0<|BB f0<|BB f0<|BV f0 (tS false f0)<|CC<|FF<|CC<|FF<|CC<|FF<|VV WW<|FF<|VV (lr 5 false true .u8 (((text.g i0).toNat:Nat):Int) 45)<|CN 2<|ZZ) k!
      rw[show (bif (decide (48≤(((text.g i0).toNat:Nat):Int))) then (bif (decide ((((text.g i0).toNat:Nat):Int)≤57)) then true else (decide ((((text.g i0).toNat:Nat):Int)=45))) else (decide ((((text.g i0).toNat:Nat):Int)=45)))=(decide ((((text.g i0).toNat:Nat):Int)=45)) by simp only[f0,cond_true,cond_false]]
      exact kO ev k!
   obtain ⟨yj4,Vn⟩:∃yj4:Nat→AV,Ev env (cR (d)) pf ⟨((AV.str text)::(x 1)::(x 2)::(Zn i0)::(AV.bool (bif (decide (97≤(((text.g i0).toNat:Nat):Int))) then (decide ((((text.g i0).toNat:Nat):Int)≤122)) else false))::(AV.bool (bif (decide (48≤(((text.g i0).toNat:Nat):Int))) then (bif (decide ((((text.g i0).toNat:Nat):Int)≤57)) then true else (decide ((((text.g i0).toNat:Nat):Int)=45))) else (decide ((((text.g i0).toNat:Nat):Int)=45))))::rx x 6 8 ((Zn (List.length text))::(Zn i0)::(AV.bool (decide (((i0:Nat):Int)<((List.length text:Nat):Int))))::(Zn i0)::rx Af 18 10 (rx yj3 28 16 (rx x 44 11 [])))),hh,[],.no⟩ .normal ⟨((AV.str text)::(x 1)::(x 2)::(Zn i0)::(AV.bool (bif (decide (97≤(((text.g i0).toNat:Nat):Int))) then (decide ((((text.g i0).toNat:Nat):Int)≤122)) else false))::(AV.bool (bif (decide (48≤(((text.g i0).toNat:Nat):Int))) then (bif (decide ((((text.g i0).toNat:Nat):Int)≤57)) then true else (decide ((((text.g i0).toNat:Nat):Int)=45))) else (decide ((((text.g i0).toNat:Nat):Int)=45))))::rx x 6 8 ((Zn (List.length text))::(Zn i0)::(AV.bool (decide (((i0:Nat):Int)<((List.length text:Nat):Int))))::(Zn i0)::rx Af 18 10 (rx yj3 28 16 (rx yj4 44 9 ((AV.bool (bif (!(bif (decide (97≤(((text.g i0).toNat:Nat):Int))) then (decide ((((text.g i0).toNat:Nat):Int)≤122)) else false)) then (bif (decide (((i0:Nat):Int)=0)) then true else (!(bif (decide (48≤(((text.g i0).toNat:Nat):Int))) then (bif (decide ((((text.g i0).toNat:Nat):Int)≤57)) then true else (decide ((((text.g i0).toNat:Nat):Int)=45))) else (decide ((((text.g i0).toNat:Nat):Int)=45))))) else false))::(x 54)::[]))))),hh,[],.no⟩:=by
    rcases Bool.eq_false_or_eq_true (!(bif (decide (97≤(((text.g i0).toNat:Nat):Int))) then (decide ((((text.g i0).toNat:Nat):Int)≤122)) else false)) with f0 | f0
    · rcases Bool.eq_false_or_eq_true (decide (((i0:Nat):Int)=0)) with f1 | f1
      · have dC:=of_decide_eq_true f1
        have ev:=pk (d) pf ((AV.str text)::(x 1)::(x 2)::(Zn i0)::(AV.bool (bif (decide (97≤(((text.g i0).toNat:Nat):Int))) then (decide ((((text.g i0).toNat:Nat):Int)≤122)) else false))::(AV.bool (bif (decide (48≤(((text.g i0).toNat:Nat):Int))) then (bif (decide ((((text.g i0).toNat:Nat):Int)≤57)) then true else (decide ((((text.g i0).toNat:Nat):Int)=45))) else (decide ((((text.g i0).toNat:Nat):Int)=45))))::rx x 6 8 ((Zn (List.length text))::(Zn i0)::(AV.bool (decide (((i0:Nat):Int)<((List.length text:Nat):Int))))::(Zn i0)::rx Af 18 10 (rx yj3 28 16 (rx x 44 11 [])))) hh .normal hh (CN 3<|BC f0<|BV f0 (lr 3 false true .i64 ((i0:Nat):Int) 0)<|BC f0<|BB f1<|BB f1<|BV f0 (uN true f1)<|VV (kI true false f0)<|ZZ) k!
        rw[show (bif (!(bif (decide (97≤(((text.g i0).toNat:Nat):Int))) then (decide ((((text.g i0).toNat:Nat):Int)≤122)) else false)) then (bif (decide (((i0:Nat):Int)=0)) then true else (!(bif (decide (48≤(((text.g i0).toNat:Nat):Int))) then (bif (decide ((((text.g i0).toNat:Nat):Int)≤57)) then true else (decide ((((text.g i0).toNat:Nat):Int)=45))) else (decide ((((text.g i0).toNat:Nat):Int)=45))))) else false)=true by simp only[f0,f1,cond_true,cond_false]]
        exact kO ev k!
      · have dC:=of_decide_eq_false f1
        have ev:=pk (d) pf ((AV.str text)::(x 1)::(x 2)::(Zn i0)::(AV.bool (bif (decide (97≤(((text.g i0).toNat:Nat):Int))) then (decide ((((text.g i0).toNat:Nat):Int)≤122)) else false))::(AV.bool (bif (decide (48≤(((text.g i0).toNat:Nat):Int))) then (bif (decide ((((text.g i0).toNat:Nat):Int)≤57)) then true else (decide ((((text.g i0).toNat:Nat):Int)=45))) else (decide ((((text.g i0).toNat:Nat):Int)=45))))::rx x 6 8 ((Zn (List.length text))::(Zn i0)::(AV.bool (decide (((i0:Nat):Int)<((List.length text:Nat):Int))))::(Zn i0)::rx Af 18 10 (rx yj3 28 16 (rx x 44 11 [])))) hh .normal hh (CN 3<|BC f0<|BV f0 (lr 3 false true .i64 ((i0:Nat):Int) 0)<|BC f0<|BC f1<|BC f1<|BV f0 (bA (a:=some (AV.bool true)) (b:=some (AV.bool (!(bif (decide (48≤(((text.g i0).toNat:Nat):Int))) then (bif (decide ((((text.g i0).toNat:Nat):Int)≤57)) then true else (decide ((((text.g i0).toNat:Nat):Int)=45))) else (decide ((((text.g i0).toNat:Nat):Int)=45)))))) f1)<|VV (kI (!(bif (decide (48≤(((text.g i0).toNat:Nat):Int))) then (bif (decide ((((text.g i0).toNat:Nat):Int)≤57)) then true else (decide ((((text.g i0).toNat:Nat):Int)=45))) else (decide ((((text.g i0).toNat:Nat):Int)=45)))) false f0)<|ZZ) k!
        rw[show (bif (!(bif (decide (97≤(((text.g i0).toNat:Nat):Int))) then (decide ((((text.g i0).toNat:Nat):Int)≤122)) else false)) then (bif (decide (((i0:Nat):Int)=0)) then true else (!(bif (decide (48≤(((text.g i0).toNat:Nat):Int))) then (bif (decide ((((text.g i0).toNat:Nat):Int)≤57)) then true else (decide ((((text.g i0).toNat:Nat):Int)=45))) else (decide ((((text.g i0).toNat:Nat):Int)=45))))) else false)=(!(bif (decide (48≤(((text.g i0).toNat:Nat):Int))) then (bif (decide ((((text.g i0).toNat:Nat):Int)≤57)) then true else (decide ((((text.g i0).toNat:Nat):Int)=45))) else (decide ((((text.g i0).toNat:Nat):Int)=45)))) by simp only[f0,f1,cond_true,cond_false]]
        exact kO ev k!
    · have ev:=pk (d) pf ((AV.str text)::(x 1)::(x 2)::(Zn i0)::(AV.bool (bif (decide (97≤(((text.g i0).toNat:Nat):Int))) then (decide ((((text.g i0).toNat:Nat):Int)≤122)) else false))::(AV.bool (bif (decide (48≤(((text.g i0).toNat:Nat):Int))) then (bif (decide ((((text.g i0).toNat:Nat):Int)≤57)) then true else (decide ((((text.g i0).toNat:Nat):Int)=45))) else (decide ((((text.g i0).toNat:Nat):Int)=45))))::rx x 6 8 ((Zn (List.length text))::(Zn i0)::(AV.bool (decide (((i0:Nat):Int)<((List.length text:Nat):Int))))::(Zn i0)::rx Af 18 10 (rx yj3 28 16 (rx x 44 11 [])))) hh .normal hh (CN 3<|BB f0<|BB f0<|BB f0<|BV f0 (tS false f0)<|ZZ) k!
      rw[show (bif (!(bif (decide (97≤(((text.g i0).toNat:Nat):Int))) then (decide ((((text.g i0).toNat:Nat):Int)≤122)) else false)) then (bif (decide (((i0:Nat):Int)=0)) then true else (!(bif (decide (48≤(((text.g i0).toNat:Nat):Int))) then (bif (decide ((((text.g i0).toNat:Nat):Int)≤57)) then true else (decide ((((text.g i0).toNat:Nat):Int)=45))) else (decide ((((text.g i0).toNat:Nat):Int)=45))))) else false)=false by simp only[f0,cond_true,cond_false]]
      exact kO ev k!
   rcases Bool.eq_false_or_eq_true (bif (!(bif (decide (97≤(((text.g i0).toNat:Nat):Int))) then (decide ((((text.g i0).toNat:Nat):Int)≤122)) else false)) then (bif (decide (((i0:Nat):Int)=0)) then true else (!(bif (decide (48≤(((text.g i0).toNat:Nat):Int))) then (bif (decide ((((text.g i0).toNat:Nat):Int)≤57)) then true else (decide ((((text.g i0).toNat:Nat):Int)=45))) else (decide ((((text.g i0).toNat:Nat):Int)=45))))) else false) with f1 | f1
   · exact aA.ret false (by simp only[jk,f1,cond_true,cond_false]) (pk (d) _ _ hh _ hh (VV (ba 3 false false .i64 ((i0:Nat):Int) ((List.length text:Nat):Int))<|BB q1<|CN 2<|LL oP<|LL Vm<|LL Vn<|BC f1<|ZZ) k!) (bF.refl aE) k!
   · have u6:=fe 3 false true i0 1 o!
     exact aA.round (by simp only[jk,f1,cond_true,cond_false]) (pk (d) _ _ hh _ hh (VV (ba 3 false false .i64 ((i0:Nat):Int) ((List.length text:Nat):Int))<|BB q1<|CN 2<|LL oP<|LL Vm<|LL Vn<|BV f1 u6<|CC<|ZZ) k!) (bF.refl aE) _ k! (fun x=>qT text bn dz (i0+1) o! x hh aE aB)
def gC (text:List UInt8):Bool:=(bif (bif (decide (text=[])) then true else (decide (16<((List.length text:Nat):Int)))) then false else (match (jk text (List.length text) 0) with | none=>true | some xz=>xz))
theorem Ex {d:Nat} {h:au} (text:List UInt8) (IW:text.length<2^60) (bW:Tidy h):cR (d+1) (.fn 59) [(AV.str text)] h= .ret (AV.bool (gC text)) h:=by
 obtain ⟨yj1,NC⟩:∃yj1:Nat→AV,Ev env (cR (d)) sA ⟨((AV.str text)::AV.undef::(AV.bool false)::g4 52),h,[],.no⟩ .normal ⟨((AV.str text)::AV.undef::(AV.bool false)::AV.undef::AV.undef::AV.undef::rx yj1 6 6 ((AV.bool (bif (decide (text=[])) then true else (decide (16<((List.length text:Nat):Int)))))::g4 42)),h,[],.no⟩:=by
  rcases Bool.eq_false_or_eq_true (decide (text=[])) with f0 | f0
  · have dO:=of_decide_eq_true f0
    have ev:=pk (d) sA ((AV.str text)::AV.undef::(AV.bool false)::g4 52) h .normal h (CC<|VV (KY 9 false true text [])<|CC<|BB f0<|BB f0<|BV f0 (uN true f0)<|ZZ) k!
    rw[show (bif (decide (text=[])) then true else (decide (16<((List.length text:Nat):Int))))=true by simp only[f0,cond_true,cond_false]]
    exact kO ev k!
  · have dO:=of_decide_eq_false f0
    have sn2:text.length<2^60:=IW
    have ev:=pk (d) sA ((AV.str text)::AV.undef::(AV.bool false)::g4 52) h .normal h (CC<|VV (KY 9 false true text [])<|CC<|BC f0<|BC f0<|BV f0 (bR 3 false true .i64 ((List.length text:Nat):Int) 16)<|VV (bA (a:=some (AV.bool true)) (b:=some (AV.bool (decide (16<((List.length text:Nat):Int))))) f0)<|ZZ) k!
    rw[show (bif (decide (text=[])) then true else (decide (16<((List.length text:Nat):Int))))=(decide (16<((List.length text:Nat):Int))) by simp only[f0,cond_true,cond_false]]
    exact kO ev k!
 rcases Bool.eq_false_or_eq_true (bif (decide (text=[])) then true else (decide (16<((List.length text:Nat):Int)))) with f0 | f0
 · have e:gC text=false:=by simp only[gC,f0,cond_true,cond_false]
   rw[e]
   exact aD rfl (bb Tryz.func59 xE rfl (.inr rfl) (pk (d) _ _ h _ h (CC<|LL NC<|BC f0<|ZZ) k!) k!) (Has.refl _) rfl
 · have sn3:text.length<2^60:=IW
   cases cY:jk text (List.length text) 0 with
   | none=>
     obtain ⟨xA,h5,dH,c9⟩:=aA.n cY (qT (d:=d) (h:=h) text IW (List.length text) 0 o! (fun k_=>(((AV.str text)::AV.undef::(AV.bool false)::AV.undef::AV.undef::AV.undef::rx yj1 6 6 ((AV.bool (bif (decide (text=[])) then true else (decide (16<((List.length text:Nat):Int)))))::(AV.str text)::(Zn (List.length text))::(Zi 0)::g4 39)):List AV).getD k_ AV.undef) h bW (Has.refl _))
     have lJ:=c9.y
     have tG:h.nx≤h5.nx:=c9.n
     have gA:Has h h5:=c9.a
     have e:gC text=true:=by simp only[gC,f0,cY,cond_true,cond_false]
     rw[e]
     exact aD rfl (bb Tryz.func59 xE rfl (.inr rfl) (pk (d) _ _ h _ h5 (CC<|LL NC<|BB f0<|CN 3<|LL dH<|CC<|ZZ) k!) k!) gA rfl
   | some xz=>
     obtain ⟨xA,h5,dH,c9⟩:=aA.r cY (qT (d:=d) (h:=h) text IW (List.length text) 0 o! (fun k_=>(((AV.str text)::AV.undef::(AV.bool false)::AV.undef::AV.undef::AV.undef::rx yj1 6 6 ((AV.bool (bif (decide (text=[])) then true else (decide (16<((List.length text:Nat):Int)))))::(AV.str text)::(Zn (List.length text))::(Zi 0)::g4 39)):List AV).getD k_ AV.undef) h bW (Has.refl _))
     have lJ:=c9.y
     have tG:h.nx≤h5.nx:=c9.n
     have gA:Has h h5:=c9.a
     have e:gC text=xz:=by simp only[gC,f0,cY,cond_true,cond_false]
     rw[e]
     exact aD rfl (bb Tryz.func59 xE rfl (.inr rfl) (pk (d) _ _ h _ h5 (CC<|LL NC<|BB f0<|CN 3<|LL dH<|ZZ) k!) k!) gA rfl
noncomputable def F0:Code:=(Tryz.f62.body).getD .skip
theorem Ey:Tryz.f62.body=some F0:=by kernel_rfl
def fS (x_:Int) (cr:Int):Bool:=(bif (decide (0≤x_)) then (decide (x_≤cr)) else false)
theorem Ez {d:Nat} {h:au} (x_:Int) (cr:Int) (bW:Tidy h):cR (d+1) (.fn 62) [(Zi x_),(Zi cr)] h= .ret (AV.bool (fS x_ cr)) h:=by
 rcases Bool.eq_false_or_eq_true (decide (0≤x_)) with f0 | f0
 · have dO:=of_decide_eq_true f0
   have e:fS x_ cr=(decide (x_≤cr)):=by simp only[fS,f0,cond_true,cond_false]
   rw[e]
   exact aD rfl (bb Tryz.func62 Ey rfl (.inr rfl) (pk (d) _ _ h _ h (CN 2<|VV (lH 3 false true .i64 x_ 0)<|CC<|BC f0<|BC f0<|BV f0 (pS 3 false false .i64 x_ cr)<|VV (kI (decide (x_≤cr)) false f0)<|CC<|ZZ) k!) k!) (Has.refl _) rfl
 · have dO:=of_decide_eq_false f0
   have e:fS x_ cr=false:=by simp only[fS,f0,cond_true,cond_false]
   rw[e]
   exact aD rfl (bb Tryz.func62 Ey rfl (.inr rfl) (pk (d) _ _ h _ h (CN 2<|VV (lH 3 false true .i64 x_ 0)<|CC<|BB f0<|BB f0<|BV f0 (tS false f0)<|CC<|ZZ) k!) k!) (Has.refl _) rfl
noncomputable def F1:Code:=(Tryz.f56.body).getD .skip
theorem ND:Tryz.f56.body=some F1:=by kernel_rfl
def dg (t:Int):Bool:=(fS t 100000)
theorem pZ {d:Nat} {h:au} (t:Int) (bW:Tidy h):cR (d+2) (.fn 56) [(Zi t)] h= .ret (AV.bool (dg t)) h:=by
 have k1:=Ez (d:=d) t 100000 bW
 have e:dg t=(fS t 100000):=by simp only[dg,cond_true,cond_false]
 rw[e]
 exact aD rfl (bb Tryz.func56 ND rfl (.inr rfl) (pk (d+1) _ _ h _ h (CN 2<|EE k1<|CC<|ZZ) k!) k!) (Has.refl _) rfl
end Go.Proofs.aP
