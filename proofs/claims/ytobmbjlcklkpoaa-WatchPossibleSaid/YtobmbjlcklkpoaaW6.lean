import Derived.Test.YtobmbjlcklkpoaaW0
import Derived.Test.YtobmbjlcklkpoaaW5
import Derived.Test.YtobmbjlcklkpoaaW4
import Derived.Test.YtobmbjlcklkpoaaW3
import Derived.Test.YtobmbjlcklkpoaaW2
namespace Go.Proofs.aJ
open Go.Proofs Ab
noncomputable section
set_option maxRecDepth 100000
set_option maxHeartbeats 4000000
set_option linter.unusedVariables false
set_option linter.unusedSimpArgs false
def uW:Code:=(Try.f12.body).getD .skip
theorem mL:Try.f12.body=some uW:=by kernel_rfl
def Gt:Code:=(ck uW).getD 0 .skip
def jU (q:ay) (bO:Int):Nat→Nat→Int→Int
 | 0,_,pQ=>pQ
 | dS+1,i0,pQ=>jU q bO dS (i0+1) (imax pQ (gB (q.ar.g i0) bO))
theorem uX {d:Nat} {h:aw} (period:Int) (bO:Int) (q:ay) (cC:Nat) (bI:q.name.length<2^60) (eO:aQ h q.ao q.ar) (ma:aA.ok h q):∀(k_ i_:Nat) (pQ:Int) (_:i_+k_=q.ar.length) (x:Nat→AV) (hh:aw) (aL:Tidy hh) (aX:Has h hh) (bJ:hh.get cC=some (aY.cells [(AV.str q.name),(Zi q.af),(Zi q.ab),(Zi q.aC),(Zi q.aD),(Zi q.bad),q.ao] 26 false)),gN (cJ (d+9)) Gt ⟨((x 0)::(Zi period)::(Zi bO)::(Pt cC)::rx x 4 5 ((Zi pQ)::rx x 10 27 (q.ao::(Zn q.ar.length)::(Zn i_)::rx x 40 19 []))),hh,[],.no⟩ (.exit 0) hh (fun r y=>((y 0)::(Zi period)::(Zi bO)::(Pt cC)::rx y 4 5 ((Zi r)::rx y 10 27 (q.ao::(Zn q.ar.length)::rx y 39 20 [])))) (fun r=>True) (jU q bO k_ i_ pQ)
 | 0,i0,pQ,jZ,x,hh,aL,aX,bJ=>by
   have oO:=eO.small
   have pP:=aL _ _ bJ
   have q1:(decide (((i0:Nat):Int)<((q.ar.length:Nat):Int)))=false:=d!
   exact gN.out pQ rfl (pk (d+9) _ _ hh _ hh (VV (bz 3 false false .i64 ((i0:Nat):Int) ((q.ar.length:Nat):Int))<|BB q1<|ZZ) k!) (Grow.refl aL) trivial k!
 | dS+1,i0,pQ,jZ,x,hh,aL,aX,bJ=>by
   have oO:=eO.small
   have pP:=aL _ _ bJ
   have q1:(decide (((i0:Nat):Int)<((q.ar.length:Nat):Int)))=true:=d!
   obtain ⟨p3,q4,kO⟩:=(eO.has aX).elem (i:=i0) o!
   have nI:di env (some (.slice 63)) (some q.ao) (some (Zn i0))=some (AV.ptr p3 q4):=kO
   have xh:bA env hh 63 (AV.ptr p3 q4)=some (AV.agg [(AV.str (q.ar.g i0).name),(Zi (q.ar.g i0).acc),(Zi (q.ar.g i0).bR),(Zi (q.ar.g i0).since)]):=(eO.has aX).load o! kO
   obtain ⟨h6,te,mf,Df,pR,jQ⟩:=gu aL (aY.cells [(AV.str []),(Zi 0),(Zi 0),(Zi 0)] 63 false)
   have mg:Has hh h6:=jQ
   obtain ⟨h7,pS,iR,Dd,kf,dN⟩:=pM (t:=63) (n:=4) (i:=hh.nx) (L:=[(AV.str (q.ar.g i0).name),(Zi (q.ar.g i0).acc),(Zi (q.ar.g i0).bR),(Zi (q.ar.g i0).since)]) mf pR k! rfl rfl (by simp only[AV.cells,List.all_cons,List.all_nil,Bool.and_true,Bool.and_self,eI,dt,eJ,eK,cI,gU,gV,gW,gX,gY,eL])
   have hI:Has hh h7:=Has.cm mg dN aL o!
   have k8:=zO (d:=d+8) (q.ar.g i0) bO (aA.mono hI ((eO.has aX).ok (i:=i0) o!)) iR
   have u9:=eR 3 false true i0 1 o!
   exact gN.round (by simp only[jU,aj,ai]) (pk (d+9) _ _ hh _ h7 (VV (bz 3 false false .i64 ((i0:Nat):Int) ((q.ar.length:Nat):Int))<|BV q1 nI<|MM xh<|NN te (fun i=>(Pt i))<|SS pS<|CC<|MM (aB 63 0 (AV.agg [(AV.str (q.ar.g i0).name),(Zi (q.ar.g i0).acc),(Zi (q.ar.g i0).bR),(Zi (q.ar.g i0).since)]) kf k!)<|CC<|EE k8<|CN 2<|VV u9<|CC<|ZZ) k!) (⟨iR,hI,by omega⟩) _ k! (fun x=>uX period bO q cC bI eO ma dS (i0+1) (imax pQ (gB (q.ar.g i0) bO)) o! x h7 iR (aX.trans hI) (dN _ _ o! (jQ _ _ bJ)))
def c_ (q:ay) (period:Int) (bO:Int):Int×Int:=(bif (!decide ((aW ([]:List ay) q)=0)) then (0,(aW ([]:List ay) q)) else (bif (decide (period<1)) then (0,1) else (bif (!(cE period)) then (0,1) else (bif (!(cE bO)) then (0,1) else (bif (decide (((q.ar.length:Nat):Int)≤(IntKind.i64.wrap (2*q.bad)))) then (0,9) else ((IntKind.i64.wrap ((IntKind.i64.wrap (2*(jU q bO q.ar.length 0 0)))+(IntKind.i64.wrap ((IntKind.i64.wrap (q.aC+q.aD))*period)))),0))))))
theorem Lh {d:Nat} {h:aw} (q:ay) (period:Int) (bO:Int) (eP:aA.ok h q) (bH:Tidy h):cJ (d+10) (.fn 12) [(AV.agg [(AV.str q.name),(Zi q.af),(Zi q.ab),(Zi q.aC),(Zi q.aD),(Zi q.bad),q.ao]),(Zi period),(Zi bO)] h= .ret (AV.tuple [(Zi (c_ q period bO).1),(Zi (c_ q period bO).2)]) h:=by
 have fW:=eP.2.small
 obtain ⟨h1,bD,bN,fX,aH,bZ⟩:=gu bH (aY.cells [(AV.str q.name),(Zi q.af),(Zi q.ab),(Zi q.aC),(Zi q.aD),(Zi q.bad),q.ao] 26 false)
 have bk:Has h h1:=bZ
 have k2:=pD (d:=d) ([]:List ay) q aQ.nil (aA.mono bk eP) bN
 rcases Bool.eq_false_or_eq_true (!decide ((aW ([]:List ay) q)=0)) with f0 | f0
 · have ir:=AG f0
   have e:c_ q period bO=(0,(aW ([]:List ay) q)):=by simp only[c_,f0,aj,ai]
   rw[e]
   exact az rfl (a_ Try.func12 mL rfl (.inr rfl) (pk (d+9) _ _ h _ h1 (NN bD (fun i=>(Pt i))<|CN 2<|MM (aB 26 0 (AV.agg [(AV.str q.name),(Zi q.af),(Zi q.ab),(Zi q.aC),(Zi q.aD),(Zi q.bad),q.ao]) aH k!)<|EE k2<|CN 2<|VV (eh 31 false true .i64 (aW ([]:List ay) q) 0)<|BB f0<|CN 3<|ZZ) k!) k!) bk rfl
 · have ir:=AH f0
   rcases Bool.eq_false_or_eq_true (decide (period<1)) with f1 | f1
   · have iK:=of_decide_eq_true f1
     have e:c_ q period bO=(0,1):=by simp only[c_,f0,f1,aj,ai]
     rw[e]
     exact az rfl (a_ Try.func12 mL rfl (.inr rfl) (pk (d+9) _ _ h _ h1 (NN bD (fun i=>(Pt i))<|CN 2<|MM (aB 26 0 (AV.agg [(AV.str q.name),(Zi q.af),(Zi q.ab),(Zi q.aC),(Zi q.aD),(Zi q.bad),q.ao]) aH k!)<|EE k2<|CN 2<|VV (eh 31 false true .i64 (aW ([]:List ay) q) 0)<|BC f0<|VV (bz 3 false true .i64 period 1)<|CC<|BB f1<|BB f1<|BV f1 (nR true f1)<|CC<|TT<|TT<|TT<|CC<|TT<|CN 2<|ZZ) k!) k!) bk rfl
   · have iK:=of_decide_eq_false f1
     have k5:=oY (d:=d+7) period bN
     rcases Bool.eq_false_or_eq_true (!(cE period)) with f2 | f2
     · have e:c_ q period bO=(0,1):=by simp only[c_,f0,f1,f2,aj,ai]
       rw[e]
       exact az rfl (a_ Try.func12 mL rfl (.inr rfl) (pk (d+9) _ _ h _ h1 (NN bD (fun i=>(Pt i))<|CN 2<|MM (aB 26 0 (AV.agg [(AV.str q.name),(Zi q.af),(Zi q.ab),(Zi q.aC),(Zi q.aD),(Zi q.bad),q.ao]) aH k!)<|EE k2<|CN 2<|VV (eh 31 false true .i64 (aW ([]:List ay) q) 0)<|BC f0<|VV (bz 3 false true .i64 period 1)<|CC<|BC f1<|BB f1<|EE k5<|BC f1<|VV (aR (a:=some (AV.bool true)) (b:=some (AV.bool (!(cE period)))) f1)<|CC<|BB f2<|BB f2<|BV f2 (nR true f2)<|TT<|CN 2<|ZZ) k!) k!) bk rfl
     · have k7:=oY (d:=d+7) bO bN
       rcases Bool.eq_false_or_eq_true (!(cE bO)) with f3 | f3
       · have e:c_ q period bO=(0,1):=by simp only[c_,f0,f1,f2,f3,aj,ai]
         rw[e]
         exact az rfl (a_ Try.func12 mL rfl (.inr rfl) (pk (d+9) _ _ h _ h1 (NN bD (fun i=>(Pt i))<|CN 2<|MM (aB 26 0 (AV.agg [(AV.str q.name),(Zi q.af),(Zi q.ab),(Zi q.aC),(Zi q.aD),(Zi q.bad),q.ao]) aH k!)<|EE k2<|CN 2<|VV (eh 31 false true .i64 (aW ([]:List ay) q) 0)<|BC f0<|VV (bz 3 false true .i64 period 1)<|CC<|BC f1<|BB f1<|EE k5<|BC f1<|VV (aR (a:=some (AV.bool true)) (b:=some (AV.bool (!(cE period)))) f1)<|CC<|BC f2<|BB f2<|EE k7<|BC f2<|VV (aR (a:=some (AV.bool true)) (b:=some (AV.bool (!(cE bO)))) f2)<|BB f3<|CN 2<|ZZ) k!) k!) bk rfl
       · have ln9:dw (some (.slice 63)) (some q.ao)=some (Zn q.ar.length):=eP.2.len
         rcases Bool.eq_false_or_eq_true (decide (((q.ar.length:Nat):Int)≤(IntKind.i64.wrap (2*q.bad)))) with f4 | f4
         · have l8:=of_decide_eq_true f4
           have e:c_ q period bO=(0,9):=by simp only[c_,f0,f1,f2,f3,f4,aj,ai]
           rw[e]
           exact az rfl (a_ Try.func12 mL rfl (.inr rfl) (pk (d+9) _ _ h _ h1 (NN bD (fun i=>(Pt i))<|CN 2<|MM (aB 26 0 (AV.agg [(AV.str q.name),(Zi q.af),(Zi q.ab),(Zi q.aC),(Zi q.aD),(Zi q.bad),q.ao]) aH k!)<|EE k2<|CN 2<|VV (eh 31 false true .i64 (aW ([]:List ay) q) 0)<|BC f0<|VV (bz 3 false true .i64 period 1)<|CC<|BC f1<|BB f1<|EE k5<|BC f1<|VV (aR (a:=some (AV.bool true)) (b:=some (AV.bool (!(cE period)))) f1)<|CC<|BC f2<|BB f2<|EE k7<|BC f2<|VV (aR (a:=some (AV.bool true)) (b:=some (AV.bool (!(cE bO)))) f2)<|BC f3<|MM (aB 24 6 q.ao aH k!)<|VV ln9<|CC<|MM (aB 3 5 (Zi q.bad) aH k!)<|CC<|VV (gR 3 false false .i64 ((q.ar.length:Nat):Int) (IntKind.i64.wrap (2*q.bad)))<|BB f4<|CN 2<|ZZ) k!) k!) bk rfl
         · have l8:=of_decide_eq_false f4
           have afi:dw (some (.slice 63)) (some q.ao)=some (Zn q.ar.length):=eP.2.len
           obtain ⟨aeU,uT,Gg,jV,acy⟩:=uX (d:=d) (h:=h) period bO q h.nx eP.1 eP.2 eP q.ar.length 0 0 o! (fun k_=>(((AV.agg [(AV.str q.name),(Zi q.af),(Zi q.ab),(Zi q.aC),(Zi q.aD),(Zi q.bad),q.ao])::(Zi period)::(Zi bO)::(Pt h.nx)::AV.undef::AV.undef::(Zi 0)::(Zi 0)::(Zi (aW ([]:List ay) q))::(Zi 0)::AV.undef::AV.undef::(AV.agg [(AV.str q.name),(Zi q.af),(Zi q.ab),(Zi q.aC),(Zi q.aD),(Zi q.bad),q.ao])::(Zi (aW ([]:List ay) q))::(Zi (aW ([]:List ay) q))::(AV.bool (!decide ((aW ([]:List ay) q)=0)))::AV.undef::(Zi period)::(AV.bool (decide (period<1)))::(AV.bool (decide (period<1)))::(Zi period)::(AV.bool (cE period))::(AV.bool (!(cE period)))::(AV.bool (!(cE period)))::(AV.bool (!(cE period)))::(Zi bO)::(AV.bool (cE bO))::(AV.bool (!(cE bO)))::(AV.bool (!(cE bO)))::(AV.ptr h.nx 6)::q.ao::(Zn q.ar.length)::(AV.ptr h.nx 5)::(Zi q.bad)::(Zi (IntKind.i64.wrap (2*q.bad)))::(AV.bool (decide (((q.ar.length:Nat):Int)≤(IntKind.i64.wrap (2*q.bad)))))::(AV.ptr h.nx 6)::q.ao::(Zn q.ar.length)::(Zi 0)::jl 19):List AV).getD k_ AV.undef) h1 bN bk aH
           have tc:=jV.y
           have I_:h1.nx≤uT.nx:=jV.n
           have oT:Has h uT:=bk.trans jV.a
           have e:c_ q period bO=((IntKind.i64.wrap ((IntKind.i64.wrap (2*(jU q bO q.ar.length 0 0)))+(IntKind.i64.wrap ((IntKind.i64.wrap (q.aC+q.aD))*period)))),0):=by simp only[c_,f0,f1,f2,f3,f4,aj,ai]
           rw[e]
           exact az rfl (a_ Try.func12 mL rfl (.inr rfl) (pk (d+9) _ _ h _ uT (NN bD (fun i=>(Pt i))<|CN 2<|MM (aB 26 0 (AV.agg [(AV.str q.name),(Zi q.af),(Zi q.ab),(Zi q.aC),(Zi q.aD),(Zi q.bad),q.ao]) aH k!)<|EE k2<|CN 2<|VV (eh 31 false true .i64 (aW ([]:List ay) q) 0)<|BC f0<|VV (bz 3 false true .i64 period 1)<|CC<|BC f1<|BB f1<|EE k5<|BC f1<|VV (aR (a:=some (AV.bool true)) (b:=some (AV.bool (!(cE period)))) f1)<|CC<|BC f2<|BB f2<|EE k7<|BC f2<|VV (aR (a:=some (AV.bool true)) (b:=some (AV.bool (!(cE bO)))) f2)<|BC f3<|MM (aB 24 6 q.ao aH k!)<|VV ln9<|CC<|MM (aB 3 5 (Zi q.bad) aH k!)<|CC<|VV (gR 3 false false .i64 ((q.ar.length:Nat):Int) (IntKind.i64.wrap (2*q.bad)))<|BB f4<|CN 2<|MM (aB 24 6 q.ao aH k!)<|VV afi<|CC<|LL Gg<|CN 3<|MM (aB 3 3 (Zi q.aC) (jV.a _ _ aH) k!)<|CC<|MM (aB 3 4 (Zi q.aD) (jV.a _ _ aH) k!)<|CN 6<|ZZ) k!) k!) oT rfl
def lI:Code:=(Try.f39.body).getD .skip
theorem jW:Try.f39.body=some lI:=by kernel_rfl
def rz:Code:=(ck lI).getD 0 .skip
def cS (P:Nat→Int) (du:List aM):Nat→Nat→Option (Int)
 | 0,_=>none
 | dS+1,i0=>(bif (!decide ((P i0)=0)) then some (P i0) else cS P du dS (i0+1))
theorem iN {d:Nat} {h:aw} (dJ:AV) (g:FuncId) (cap:List AV) (du:List aM) (P:Nat→Int) (bI:aQ h dJ du) (hP:∀j,j<du.length→∀aV hh,Tidy hh→Has h hh→aQ hh aV (du.take j)→cJ d (.fn g) (aV:: .agg (aA.c (du.g j))::cap) hh= .ret (.int .i64 (P j)) hh):∀(k_ i_:Nat) (_:i_+k_=du.length) (x:Nat→AV) (hh:aw) (aL:Tidy hh) (aX:Has h hh),aU (cJ (d)) rz ⟨(dJ::(x 1)::(AV.func g [] cap)::rx x 3 11 (dJ::(Zn du.length)::(Zn i_)::rx x 17 14 [])),hh,[],.no⟩ (.exit 0) hh (fun y=>(dJ::(y 1)::(AV.func g [] cap)::rx y 3 11 (dJ::(Zn du.length)::rx y 16 15 []))) (fun r y=>(dJ::(y 1)::(AV.func g [] cap)::rx y 3 3 ((Zi r)::rx y 7 7 (dJ::(Zn du.length)::rx y 16 15 [])))) (cS P du k_ i_)
 | 0,i0,jZ,x,hh,aL,aX=>by
   have fN:=bI.small
   have q1:(decide (((i0:Nat):Int)<((du.length:Nat):Int)))=false:=d!
   exact aU.out rfl (pk (d) _ _ hh _ hh (VV (bz 3 false false .i64 ((i0:Nat):Int) ((du.length:Nat):Int))<|BB q1<|ZZ) k!) (Grow.refl aL) k!
 | dS+1,i0,jZ,x,hh,aL,aX=>by
   have fN:=bI.small
   have q1:(decide (((i0:Nat):Int)<((du.length:Nat):Int)))=true:=d!
   obtain ⟨p3,q4,kO⟩:=(bI.has aX).elem (i:=i0) o!
   have nI:di env (some (.slice 44)) (some dJ) (some (Zn i0))=some (AV.ptr p3 q4):=kO
   have xh:bA env hh 44 (AV.ptr p3 q4)=some (AV.agg [(Zi (du.g i0).aN),(Zi (du.g i0).time),(Zi (du.g i0).value)]):=(bI.has aX).load o! kO
   obtain ⟨h6,te,mf,Df,pR,jQ⟩:=gu aL (aY.cells [(Zi 0),(Zi 0),(Zi 0)] 44 false)
   have mg:Has hh h6:=jQ
   obtain ⟨h7,pS,iR,Dd,kf,dN⟩:=pM (t:=44) (n:=3) (i:=hh.nx) (L:=[(Zi (du.g i0).aN),(Zi (du.g i0).time),(Zi (du.g i0).value)]) mf pR k! rfl rfl (by simp only[AV.cells,List.all_cons,List.all_nil,Bool.and_true,Bool.and_self,eI,dt,eJ,eK,cI,gU,gV,gW,gX,gY,eL])
   have hI:Has hh h7:=Has.cm mg dN aL o!
   obtain ⟨r8,ZT,ZU⟩:=(bI.has aX).pre (t:=27) k! (i:=i0) o!
   have sl9:ij env 27 dJ (none) (some (Zn i0)) (none)=some r8:=ZT
   have BL:=hP i0 o! r8 h7 iR (aX.trans hI) (ZU.has hI)
   have IW:AV.same 20 (AV.agg [(Zi (du.g i0).aN),(Zi (du.g i0).time),(Zi (du.g i0).value)]) (AV.agg [(Zi (du.g i0).aN),(Zi (du.g i0).time),(Zi (du.g i0).value)])=true:=dx 18 (hD (fun n=>aG n _ _) (hD (fun n=>aG n _ _) (hD (fun n=>aG n _ _) AF)))
   rcases Bool.eq_false_or_eq_true (!decide ((P i0)=0)) with f1 | f1
   · have iK:=AG f1
     exact aU.ret (P i0) (by simp only[cS,f1,aj,ai]) (pk (d) _ _ hh _ h7 (VV (bz 3 false false .i64 ((i0:Nat):Int) ((du.length:Nat):Int))<|BC q1<|VV nI<|MM xh<|NN te (fun i=>(Pt i))<|CC<|SS pS<|CN 3<|QQ sl9<|MM (aB 44 0 (AV.agg [(Zi (du.g i0).aN),(Zi (du.g i0).time),(Zi (du.g i0).value)]) kf k!)<|EE BL<|CC<|HH (aB 44 0 (AV.agg [(Zi (du.g i0).aN),(Zi (du.g i0).time),(Zi (du.g i0).value)]) kf k!)<|HH IW<|CC<|VV (eh 31 false true .i64 (P i0) 0)<|BB f1<|CN 2<|ZZ) k!) (⟨iR,hI,by omega⟩) k!
   · have iK:=AH f1
     have ZV:=eR 3 false true i0 1 o!
     exact aU.round (by simp only[cS,f1,aj,ai]) (pk (d) _ _ hh _ h7 (VV (bz 3 false false .i64 ((i0:Nat):Int) ((du.length:Nat):Int))<|BC q1<|VV nI<|MM xh<|NN te (fun i=>(Pt i))<|CC<|SS pS<|CN 3<|QQ sl9<|MM (aB 44 0 (AV.agg [(Zi (du.g i0).aN),(Zi (du.g i0).time),(Zi (du.g i0).value)]) kf k!)<|EE BL<|CC<|HH (aB 44 0 (AV.agg [(Zi (du.g i0).aN),(Zi (du.g i0).time),(Zi (du.g i0).value)]) kf k!)<|HH IW<|CC<|VV (eh 31 false true .i64 (P i0) 0)<|BV f1 ZV<|CC<|ZZ) k!) (⟨iR,hI,by omega⟩) _ k! (fun x=>iN dJ g cap du P bI hP dS (i0+1) o! x h7 iR (aX.trans hI))
def cN (du:List aM) (fZ:Int) (P:Nat→Int):Int:=(bif (decide (fZ<((du.length:Nat):Int))) then 3 else (match (cS P du du.length 0) with | none=>0 | some F3=>F3))
theorem tz {d:Nat} {h:aw} {dJ:AV} {g:FuncId} {cap:List AV} (du:List aM) (fZ:Int) (P:Nat→Int) (oZ:aQ h dJ du) (hP:∀j,j<du.length→∀aV hh,Tidy hh→Has h hh→aQ hh aV (du.take j)→cJ d (.fn g) (aV:: .agg (aA.c (du.g j))::cap) hh= .ret (.int .i64 (P j)) hh) (bH:Tidy h):cJ (d+1) (.fn 39) [dJ,(Zi fZ),(AV.func g [] cap)] h= .ret (Zi (cN du fZ P)) h:=by
 have Sx:=oZ.small
 have ie:dw (some (.slice 44)) (some dJ)=some (Zn du.length):=oZ.len
 rcases Bool.eq_false_or_eq_true (decide (fZ<((du.length:Nat):Int))) with f0 | f0
 · have ir:=of_decide_eq_true f0
   have e:cN du fZ P=3:=by simp only[cN,f0,aj,ai]
   rw[e]
   exact az rfl (a_ Try.func39 jW rfl (.inr rfl) (pk (d) _ _ h _ h (CN 2<|VV ie<|CC<|VV (bW 3 false false .i64 ((du.length:Nat):Int) fZ)<|BC f0<|ZZ) k!) k!) (Has.refl _) rfl
 · have ir:=of_decide_eq_false f0
   have Uq:dw (some (.slice 44)) (some dJ)=some (Zn du.length):=oZ.len
   cases fV:cS P du du.length 0 with
   | none=>
     obtain ⟨Pr,h5,fO,iu⟩:=aU.n fV (iN (d:=d) (h:=h) dJ g cap du P oZ hP du.length 0 o! (fun k_=>((dJ::(Zi fZ)::(AV.func g [] cap)::AV.undef::AV.undef::AV.undef::(Zi 0)::AV.undef::AV.undef::AV.undef::dJ::(Zn du.length)::(Zi fZ)::(AV.bool (decide (fZ<((du.length:Nat):Int))))::dJ::(Zn du.length)::(Zi 0)::jl 14):List AV).getD k_ AV.undef) h bH (Has.refl _))
     have jJ:=iu.y
     have vD:h.nx≤h5.nx:=iu.n
     have iP:Has h h5:=iu.a
     have e:cN du fZ P=0:=by simp only[cN,f0,fV,aj,ai]
     rw[e]
     exact az rfl (a_ Try.func39 jW rfl (.inr rfl) (pk (d) _ _ h _ h5 (CN 2<|VV ie<|CC<|VV (bW 3 false false .i64 ((du.length:Nat):Int) fZ)<|BC f0<|VV Uq<|CC<|LL fO<|CC<|ZZ) k!) k!) iP rfl
   | some F3=>
     obtain ⟨Pr,h5,fO,iu⟩:=aU.r fV (iN (d:=d) (h:=h) dJ g cap du P oZ hP du.length 0 o! (fun k_=>((dJ::(Zi fZ)::(AV.func g [] cap)::AV.undef::AV.undef::AV.undef::(Zi 0)::AV.undef::AV.undef::AV.undef::dJ::(Zn du.length)::(Zi fZ)::(AV.bool (decide (fZ<((du.length:Nat):Int))))::dJ::(Zn du.length)::(Zi 0)::jl 14):List AV).getD k_ AV.undef) h bH (Has.refl _))
     have jJ:=iu.y
     have vD:h.nx≤h5.nx:=iu.n
     have iP:Has h h5:=iu.a
     have e:cN du fZ P=F3:=by simp only[cN,f0,fV,aj,ai]
     rw[e]
     exact az rfl (a_ Try.func39 jW rfl (.inr rfl) (pk (d) _ _ h _ h5 (CN 2<|VV ie<|CC<|VV (bW 3 false false .i64 ((du.length:Nat):Int) fZ)<|BC f0<|VV Uq<|CC<|LL fO<|ZZ) k!) k!) iP rfl
def Jr:Code:=(Try.f66.body).getD .skip
theorem Js:Try.f66.body=some Jr:=by kernel_rfl
def tA (OO:Int) (tC:Int):Bool:=(bif (decide (0≤OO)) then (decide (OO<tC)) else false)
theorem Sy {d:Nat} {h:aw} (OO:Int) (tC:Int) (bH:Tidy h):cJ (d+1) (.fn 66) [(Zi OO),(Zi tC)] h= .ret (AV.bool (tA OO tC)) h:=by
 rcases Bool.eq_false_or_eq_true (decide (0≤OO)) with f0 | f0
 · have ir:=of_decide_eq_true f0
   have e:tA OO tC=(decide (OO<tC)):=by simp only[tA,f0,aj,ai]
   rw[e]
   exact az rfl (a_ Try.func66 Js rfl (.inr rfl) (pk (d) _ _ h _ h (CN 2<|VV (eN 3 false true .i64 OO 0)<|CC<|BC f0<|BC f0<|BV f0 (bz 3 false false .i64 OO tC)<|VV (jA (decide (OO<tC)) false f0)<|CC<|ZZ) k!) k!) (Has.refl _) rfl
 · have ir:=of_decide_eq_false f0
   have e:tA OO tC=false:=by simp only[tA,f0,aj,ai]
   rw[e]
   exact az rfl (a_ Try.func66 Js rfl (.inr rfl) (pk (d) _ _ h _ h (CN 2<|VV (eN 3 false true .i64 OO 0)<|CC<|BB f0<|BB f0<|BV f0 (pN false f0)<|CC<|ZZ) k!) k!) (Has.refl _) rfl
def uE:Code:=(Try.f41.body).getD .skip
theorem kh:Try.f41.body=some uE:=by kernel_rfl
def da (q:ay) (r:aM):Int:=(bif (!(tA r.aN ((q.ar.length:Nat):Int))) then 7 else (bif (!(cE r.time)) then 1 else (bif (!(hT r.value)) then 1 else 0)))
theorem yR {d:Nat} {h:aw} (q:ay) (r:aM) (eP:aA.ok h q) (h_r:aA.ok h r) (bH:Tidy h):cJ (d+3) (.fn 41) [(AV.agg [(AV.str q.name),(Zi q.af),(Zi q.ab),(Zi q.aC),(Zi q.aD),(Zi q.bad),q.ao]),(AV.agg [(Zi r.aN),(Zi r.time),(Zi r.value)])] h= .ret (Zi (da q r)) h:=by
 have fW:=eP.2.small
 obtain ⟨h1,bD,bN,fX,aH,bZ⟩:=gu bH (aY.cells [(AV.str q.name),(Zi q.af),(Zi q.ab),(Zi q.aC),(Zi q.aD),(Zi q.bad),q.ao] 26 false)
 have bk:Has h h1:=bZ
 obtain ⟨h2,iQ,fJ,uA,dh,dz⟩:=gu bN (aY.cells [(Zi r.aN),(Zi r.time),(Zi r.value)] 44 false)
 have fl:Has h h2:=bk.trans dz
 have Uq:dw (some (.slice 63)) (some q.ao)=some (Zn q.ar.length):=eP.2.len
 have k4:=Sy (d:=d+1) r.aN ((q.ar.length:Nat):Int) fJ
 rcases Bool.eq_false_or_eq_true (!(tA r.aN ((q.ar.length:Nat):Int))) with f0 | f0
 · have e:da q r=7:=by simp only[da,f0,aj,ai]
   rw[e]
   exact az rfl (a_ Try.func41 kh rfl (.inr rfl) (pk (d+2) _ _ h _ h2 (NN bD (fun i=>(Pt i))<|NN iQ (fun i=>(Pt i))<|CN 2<|MM (aB 3 0 (Zi r.aN) dh k!)<|CC<|MM (aB 24 6 q.ao (dz _ _ aH) k!)<|VV Uq<|EE k4<|CN 2<|BC f0<|ZZ) k!) k!) fl rfl
 · have k6:=oY (d:=d) r.time fJ
   rcases Bool.eq_false_or_eq_true (!(cE r.time)) with f1 | f1
   · have e:da q r=1:=by simp only[da,f0,f1,aj,ai]
     rw[e]
     exact az rfl (a_ Try.func41 kh rfl (.inr rfl) (pk (d+2) _ _ h _ h2 (NN bD (fun i=>(Pt i))<|NN iQ (fun i=>(Pt i))<|CN 2<|MM (aB 3 0 (Zi r.aN) dh k!)<|CC<|MM (aB 24 6 q.ao (dz _ _ aH) k!)<|VV Uq<|EE k4<|CN 2<|BC f0<|MM (aB 3 1 (Zi r.time) dh k!)<|EE k6<|CN 2<|BB f1<|BC f1<|ZZ) k!) k!) fl rfl
   · have k8:=tw (d:=d+1) r.value fJ
     rcases Bool.eq_false_or_eq_true (!(hT r.value)) with f2 | f2
     · have e:da q r=1:=by simp only[da,f0,f1,f2,aj,ai]
       rw[e]
       exact az rfl (a_ Try.func41 kh rfl (.inr rfl) (pk (d+2) _ _ h _ h2 (NN bD (fun i=>(Pt i))<|NN iQ (fun i=>(Pt i))<|CN 2<|MM (aB 3 0 (Zi r.aN) dh k!)<|CC<|MM (aB 24 6 q.ao (dz _ _ aH) k!)<|VV Uq<|EE k4<|CN 2<|BC f0<|MM (aB 3 1 (Zi r.time) dh k!)<|EE k6<|CN 2<|BC f1<|MM (aB 3 2 (Zi r.value) dh k!)<|EE k8<|CN 2<|BC f2<|ZZ) k!) k!) fl rfl
     · have e:da q r=0:=by simp only[da,f0,f1,f2,aj,ai]
       rw[e]
       exact az rfl (a_ Try.func41 kh rfl (.inr rfl) (pk (d+2) _ _ h _ h2 (NN bD (fun i=>(Pt i))<|NN iQ (fun i=>(Pt i))<|CN 2<|MM (aB 3 0 (Zi r.aN) dh k!)<|CC<|MM (aB 24 6 q.ao (dz _ _ aH) k!)<|VV Uq<|EE k4<|CN 2<|BC f0<|MM (aB 3 1 (Zi r.time) dh k!)<|EE k6<|CN 2<|BC f1<|MM (aB 3 2 (Zi r.value) dh k!)<|EE k8<|CN 2<|BC f2<|ZZ) k!) k!) fl rfl
def r5:Code:=(Try.f40.body).getD .skip
theorem vR:Try.f40.body=some r5:=by kernel_rfl
def eF (se:List aM) (r:aM) (q:ay):Int:=(da q r)
theorem vS {d:Nat} {h:aw} {tp:AV} (se:List aM) (r:aM) (q:ay) (qB:Nat) (nW:aQ h tp se) (h_r:aA.ok h r) (eP:aA.ok h q) (g_q:h.get qB=some (.cells (aA.c q) 26 false)) (bH:Tidy h):cJ (d+4) (.fn 40) [tp,(AV.agg [(Zi r.aN),(Zi r.time),(Zi r.value)]),(Pt qB)] h= .ret (Zi (eF se r q)) h:=by
 have Ei:=nW.small
 have fW:=eP.2.small
 obtain ⟨h1,bD,bN,fX,aH,bZ⟩:=gu bH (aY.cells [(Zi r.aN),(Zi r.time),(Zi r.value)] 44 false)
 have bk:Has h h1:=bZ
 have k2:=yR (d:=d) q r (aA.mono bk eP) trivial bN
 have e:eF se r q=(da q r):=by simp only[eF,aj,ai]
 rw[e]
 exact az rfl (a_ Try.func40 vR rfl (.inr rfl) (pk (d+3) _ _ h _ h1 (NN bD (fun i=>(Pt i))<|CC<|MM (aB 26 0 (AV.agg [(AV.str q.name),(Zi q.af),(Zi q.ab),(Zi q.aC),(Zi q.aD),(Zi q.bad),q.ao]) (bZ _ _ g_q) k!)<|MM (aB 44 0 (AV.agg [(Zi r.aN),(Zi r.time),(Zi r.value)]) aH k!)<|EE k2<|CC<|ZZ) k!) k!) bk rfl
def tD:Code:=(Try.f21.body).getD .skip
theorem pE:Try.f21.body=some tD:=by kernel_rfl
def bf (q:ay) (l_:List aM):Int:=(bif (!decide ((aW ([]:List ay) q)=0)) then (aW ([]:List ay) q) else (cN l_ 64 (fun jx=>eF (List.take jx l_) (List.g l_ jx) q)))
theorem jC {d:Nat} {h:aw} {dB:AV} (q:ay) (l_:List aM) (eP:aA.ok h q) (eY:aQ h dB l_) (bH:Tidy h):cJ (d+11) (.fn 21) [(AV.agg [(AV.str q.name),(Zi q.af),(Zi q.ab),(Zi q.aC),(Zi q.aD),(Zi q.bad),q.ao]),dB] h= .ret (Zi (bf q l_)) h:=by
 have oP:=eY.small
 have fW:=eP.2.small
 obtain ⟨h1,bD,bN,fX,aH,bZ⟩:=gu bH (aY.cells [(AV.str q.name),(Zi q.af),(Zi q.ab),(Zi q.aC),(Zi q.aD),(Zi q.bad),q.ao] 26 false)
 have bk:Has h h1:=bZ
 have k2:=pD (d:=d+1) ([]:List ay) q aQ.nil (aA.mono bk eP) bN
 rcases Bool.eq_false_or_eq_true (!decide ((aW ([]:List ay) q)=0)) with f0 | f0
 · have ir:=AG f0
   have e:bf q l_=(aW ([]:List ay) q):=by simp only[bf,f0,aj,ai]
   rw[e]
   exact az rfl (a_ Try.func21 pE rfl (.inr rfl) (pk (d+10) _ _ h _ h1 (NN bD (fun i=>(Pt i))<|CC<|MM (aB 26 0 (AV.agg [(AV.str q.name),(Zi q.af),(Zi q.ab),(Zi q.aC),(Zi q.aD),(Zi q.bad),q.ao]) aH k!)<|EE k2<|CN 2<|VV (eh 31 false true .i64 (aW ([]:List ay) q) 0)<|BB f0<|CN 2<|ZZ) k!) k!) bk rfl
 · have ir:=AH f0
   have k4:=tz (d:=d+9) l_ 64 (fun jx=>eF (List.take jx l_) (List.g l_ jx) q) (eY.has bk) (fun jx hj aV hh yy aa fa=>vS (d:=d+5) (List.take jx l_) (List.g l_ jx) q h.nx fa (aA.mono aa ((eY.has bk).ok hj)) (aA.mono aa (aA.mono bk eP)) (aa _ _ aH) yy) bN
   have e:bf q l_=(cN l_ 64 (fun jx=>eF (List.take jx l_) (List.g l_ jx) q)):=by simp only[bf,f0,aj,ai]
   rw[e]
   exact az rfl (a_ Try.func21 pE rfl (.inr rfl) (pk (d+10) _ _ h _ h1 (NN bD (fun i=>(Pt i))<|CC<|MM (aB 26 0 (AV.agg [(AV.str q.name),(Zi q.af),(Zi q.ab),(Zi q.aC),(Zi q.aD),(Zi q.bad),q.ao]) aH k!)<|EE k2<|CN 2<|VV (eh 31 false true .i64 (aW ([]:List ay) q) 0)<|BB f0<|CN 2<|EE k4<|CC<|ZZ) k!) k!) bk rfl
def xr:Code:=(Try.f16.body).getD .skip
theorem o8:Try.f16.body=some xr:=by kernel_rfl
def cL (q:ay) (l_:List aM) (t:Int):Int:=(bif (!decide ((bf q l_)=0)) then (bf q l_) else (bif (!(cE t)) then 1 else 0))
theorem Ci {d:Nat} {h:aw} {dB:AV} (q:ay) (l_:List aM) (t:Int) (eP:aA.ok h q) (eY:aQ h dB l_) (bH:Tidy h):cJ (d+12) (.fn 16) [(AV.agg [(AV.str q.name),(Zi q.af),(Zi q.ab),(Zi q.aC),(Zi q.aD),(Zi q.bad),q.ao]),dB,(Zi t)] h= .ret (Zi (cL q l_ t)) h:=by
 have oP:=eY.small
 have fW:=eP.2.small
 obtain ⟨h1,bD,bN,fX,aH,bZ⟩:=gu bH (aY.cells [(AV.str q.name),(Zi q.af),(Zi q.ab),(Zi q.aC),(Zi q.aD),(Zi q.bad),q.ao] 26 false)
 have bk:Has h h1:=bZ
 have k2:=jC (d:=d) q l_ (aA.mono bk eP) (eY.has bk) bN
 rcases Bool.eq_false_or_eq_true (!decide ((bf q l_)=0)) with f0 | f0
 · have ir:=AG f0
   have e:cL q l_ t=(bf q l_):=by simp only[cL,f0,aj,ai]
   rw[e]
   exact az rfl (a_ Try.func16 o8 rfl (.inr rfl) (pk (d+11) _ _ h _ h1 (NN bD (fun i=>(Pt i))<|CC<|MM (aB 26 0 (AV.agg [(AV.str q.name),(Zi q.af),(Zi q.ab),(Zi q.aC),(Zi q.aD),(Zi q.bad),q.ao]) aH k!)<|CC<|EE k2<|CN 2<|VV (eh 31 false true .i64 (bf q l_) 0)<|BB f0<|CN 2<|ZZ) k!) k!) bk rfl
 · have ir:=AH f0
   have k4:=oY (d:=d+9) t bN
   rcases Bool.eq_false_or_eq_true (!(cE t)) with f1 | f1
   · have e:cL q l_ t=1:=by simp only[cL,f0,f1,aj,ai]
     rw[e]
     exact az rfl (a_ Try.func16 o8 rfl (.inr rfl) (pk (d+11) _ _ h _ h1 (NN bD (fun i=>(Pt i))<|CC<|MM (aB 26 0 (AV.agg [(AV.str q.name),(Zi q.af),(Zi q.ab),(Zi q.aC),(Zi q.aD),(Zi q.bad),q.ao]) aH k!)<|CC<|EE k2<|CN 2<|VV (eh 31 false true .i64 (bf q l_) 0)<|BC f0<|EE k4<|CC<|BC f1<|ZZ) k!) k!) bk rfl
   · have e:cL q l_ t=0:=by simp only[cL,f0,f1,aj,ai]
     rw[e]
     exact az rfl (a_ Try.func16 o8 rfl (.inr rfl) (pk (d+11) _ _ h _ h1 (NN bD (fun i=>(Pt i))<|CC<|MM (aB 26 0 (AV.agg [(AV.str q.name),(Zi q.af),(Zi q.ab),(Zi q.aC),(Zi q.aD),(Zi q.bad),q.ao]) aH k!)<|CC<|EE k2<|CN 2<|VV (eh 31 false true .i64 (bf q l_) 0)<|BC f0<|EE k4<|CC<|BC f1<|ZZ) k!) k!) bk rfl
def Cj (l:List Span) (x:Int):Prop:=∃s∈l,s.aP≤x∧x≤s.aF
inductive Canon:List Span→Prop
 | nil:Canon []
 | one (s:Span):s.aP≤s.aF→Canon [s]
 | cons (s r:Span) (l:List Span):s.aP≤s.aF→s.aF+1<r.aP→Canon (r::l)→Canon (s::r::l)
theorem Canon.tail {s:Span} {l:List Span} (c:Canon (s::l)):Canon l:=by
 cases c with
 | one=>exact .nil
 | cons _ _ _ _ _ c=>exact c
theorem Canon.head {s:Span} {l:List Span} (c:Canon (s::l)):s.aP≤s.aF:=by cases c<;>assumption
theorem Canon.beyond {l:List Span}:∀{s:Span},Canon (s::l)→∀r∈l,s.aF+1<r.aP:=by
 induction l with
 | nil=>intro s _ r hr;cases hr
 | cons a l ih=>
   intro s c r hr
   cases c with
   | cons _ _ _ h1 h2 c=>
     rcases List.mem_cons.1 hr with rfl | hr
     · exact h2
     · have:=ih c r hr;have:=c.head;omega
theorem Canon.mk {s:Span} {l:List Span} (h:s.aP≤s.aF) (b:∀r∈l,s.aF+1<r.aP) (c:Canon l):Canon (s::l):=by
 cases l with
 | nil=>exact .one s h
 | cons a l=>exact .cons s a l h (b a (List.mem_cons_self ..)) c
theorem fm {s:Span} {l:List Span} {x:Int}:Cj (s::l) x↔(s.aP≤x∧x≤s.aF)∨Cj l x:=by
 constructor
 · rintro ⟨r,hr,h⟩
   rcases List.mem_cons.1 hr with rfl | hr
   · exact .inl h
   · exact .inr ⟨r,hr,h⟩
 · rintro (h | ⟨r,hr,h⟩)
   · exact ⟨s,List.mem_cons_self ..,h⟩
   · exact ⟨r,List.mem_cons_of_mem _ hr,h⟩
theorem AK {x:Int}:¬Cj [] x:=by rintro ⟨_,h,_⟩;cases h
theorem Canon.ends {s:Span} {l:List Span} (c:Canon (s::l)):Cj (s::l) s.aP∧Cj (s::l) s.aF∧¬Cj (s::l) (s.aF+1)∧∀x,x<s.aP→¬Cj (s::l) x:=by
 have hh:=c.head
 have hb:=c.beyond
 refine ⟨fm.2 (.inl ⟨Int.le_refl _,hh⟩),fm.2 (.inl ⟨hh,Int.le_refl _⟩),fun h=>?_,fun x hx h=>?_⟩
 · rcases fm.1 h with h | ⟨r,hr,h⟩
   · omega
   · have:=hb r hr;omega
 · rcases fm.1 h with h | ⟨r,hr,h⟩
   · omega
   · have:=hb r hr;omega
theorem Sz {a b:Span} (h1:a.aP=b.aP) (h2:a.aF=b.aF):a=b:=by
 cases a;cases b;simp only at h1 h2;rw[h1,h2]
theorem Ck:∀{l m:List Span},Canon l→Canon m→(∀x,Cj l x↔Cj m x)→l=m
 | [],[],_,_,_=>rfl
 | [],r::m,_,c,h=>absurd ((h r.aP).2 c.ends.1) AK
 | s::l,[],c,_,h=>absurd ((h s.aP).1 c.ends.1) AK
 | s::l,r::m,c,d,h=>by
   obtain ⟨c1,c2,c3,c4⟩:=c.ends
   obtain ⟨d1,d2,d3,d4⟩:=d.ends
   have lo:s.aP=r.aP:=by
    have a:¬s.aP<r.aP:=fun q=>d4 _ q ((h _).1 c1)
    have b:¬r.aP<s.aP:=fun q=>c4 _ q ((h _).2 d1)
    omega
   have hi:s.aF=r.aF:=by
    have hs:=c.head;have hr:=d.head
    have a:¬s.aF<r.aF:=fun q=>c3 ((h _).2 (fm.2 (.inl ⟨by omega,by omega⟩)))
    have b:¬r.aF<s.aF:=fun q=>d3 ((h _).1 (fm.2 (.inl ⟨by omega,by omega⟩)))
    omega
   have e:=Sz lo hi
   subst e
   rw[Ck c.tail d.tail fun x=>?_]
   have hx:=h x
   rw[fm,fm] at hx
   have cb:=c.beyond;have db:=d.beyond
   constructor
   · intro q
     rcases hx.1 (.inr q) with w | w
     · obtain ⟨r,hr,w2⟩:=q;have:=cb r hr;omega
     · exact w
   · intro q
     rcases hx.2 (.inr q) with w | w
     · obtain ⟨r,hr,w2⟩:=q;have:=db r hr;omega
     · exact w
def Nf:List Span→Int→Int→List Span
 | [],a,b=> [⟨a,b⟩]
 | s::R,a,b=>if s.aF+1<a then s::Nf R a b else if b+1<s.aP then ⟨a,b⟩::s::R else Nf R (min a s.aP) (max b s.aF)
theorem Cl:∀{l:List Span} {a b:Int},Canon l→a≤b→Canon (Nf l a b)∧(∀x,Cj (Nf l a b) x↔Cj l x∨(a≤x∧x≤b))∧∀s∈Nf l a b,a≤s.aP∨∃r∈l,r.aP≤s.aP
 | [],a,b,_,h=>by
   refine ⟨.one _ h,fun x=>?_,fun s hs=>?_⟩
   · rw[Nf,fm];simp [AK]
   · rw[Nf,List.mem_singleton] at hs;subst hs;exact .inl (Int.le_refl _)
 | s::R,a,b,c,h=>by
   have hs:=c.head;have hb:=c.beyond
   rw[Nf]
   split
   · rename_i q
     obtain ⟨i1,i2,i3⟩:=Cl (a:=a) (b:=b) c.tail h
     refine ⟨Canon.mk hs (fun r hr=>?_) i1,fun x=>?_,fun r hr=>?_⟩
     · rcases i3 r hr with w | ⟨r',Hv,w⟩
       · omega
       · have:=hb r' Hv;omega
     · rw[fm,i2,fm,or_assoc]
     · rcases List.mem_cons.1 hr with rfl | hr
       · exact .inr ⟨r,List.mem_cons_self ..,Int.le_refl _⟩
       · rcases i3 r hr with w | ⟨r',Hv,w⟩
         · exact .inl w
         · exact .inr ⟨r',List.mem_cons_of_mem _ Hv,w⟩
   · split
     · rename_i q1 q2
       refine ⟨.cons _ _ _ h q2 c,fun x=>?_,fun r hr=>?_⟩
       · rw[fm];exact Or.comm
       · rcases List.mem_cons.1 hr with rfl | hr
         · exact .inl (Int.le_refl _)
         · exact .inr ⟨r,hr,Int.le_refl _⟩
     · rename_i q1 q2
       obtain ⟨i1,i2,i3⟩:=Cl (l:=R) (a:=min a s.aP) (b:=max b s.aF) c.tail o!
       refine ⟨i1,fun x=>?_,fun r hr=>?_⟩
       · rw[i2,fm]
         constructor
         · rintro (w | w)
           · exact .inl (.inr w)
           · by_cases e:a≤x∧x≤b
             · exact .inr e
             · exact .inl (.inl ⟨by omega,by omega⟩)
         · rintro ((w | w) | w)
           · exact .inr ⟨by omega,by omega⟩
           · exact .inl w
           · exact .inr ⟨by omega,by omega⟩
       · rcases i3 r hr with w | ⟨r',Hv,w⟩
         · by_cases e:a≤s.aP
           · exact .inl o!
           · exact .inr ⟨s,List.mem_cons_self ..,by omega⟩
         · exact .inr ⟨r',List.mem_cons_of_mem _ Hv,w⟩
def PC:Span→List Span→List Span
 | c,[]=> [c]
 | c,s::R=>if s.aP≤c.aF+1 then PC ⟨c.aP,max c.aF s.aF⟩ R else c::PC s R
theorem Cm:∀{l:List Span} {c:Span},c.aP≤c.aF→(∀s∈l,s.aP≤s.aF)→(∀s∈l,c.aP≤s.aP)→List.Pairwise (fun s r:Span=>s.aP≤r.aP) l→
 Canon (PC c l)∧(∀x,Cj (PC c l) x↔(c.aP≤x∧x≤c.aF)∨Cj l x)∧∀s∈PC c l,c.aP≤s.aP
 | [],c,h,_,_,_=>by
   refine ⟨.one _ h,fun x=>?_,fun s hs=>?_⟩
   · rw[PC,fm]
   · rw[PC,List.mem_singleton] at hs;subst hs;exact Int.le_refl _
 | s::R,c,h,hn,hc,hp=>by
   have h1:=hn s (List.mem_cons_self ..);have h2:=hc s (List.mem_cons_self ..)
   obtain ⟨p1,p2⟩:=List.pairwise_cons.1 hp
   rw[PC]
   split
   · rename_i q
     obtain ⟨i1,i2,i3⟩:=Cm (l:=R) (c:=⟨c.aP,max c.aF s.aF⟩) (by show c.aP≤max c.aF s.aF;omega) (fun r hr=>hn r (List.mem_cons_of_mem _ hr)) (fun r hr=>hc r (List.mem_cons_of_mem _ hr)) p2
     refine ⟨i1,fun x=>?_,i3⟩
     rw[i2,fm]
     show (c.aP≤x∧x≤max c.aF s.aF)∨Cj R x↔_
     constructor
     · rintro (w | w)
       · by_cases e:x≤c.aF
         · exact .inl ⟨w.1,e⟩
         · exact .inr (.inl ⟨by omega,by omega⟩)
       · exact .inr (.inr w)
     · rintro (w | w | w)
       · exact .inl ⟨w.1,by omega⟩
       · exact .inl ⟨by omega,by omega⟩
       · exact .inr w
   · rename_i q
     obtain ⟨i1,i2,i3⟩:=Cm (l:=R) (c:=s) h1 (fun r hr=>hn r (List.mem_cons_of_mem _ hr)) p1 p2
     refine ⟨Canon.mk h (fun r hr=>?_) i1,fun x=>?_,fun r hr=>?_⟩
     · have:=i3 r hr;omega
     · rw[fm,i2,fm]
     · rcases List.mem_cons.1 hr with rfl | hr
       · exact Int.le_refl _
       · have:=i3 r hr;omega
theorem xu (x y:Int):yK x y=min x y:=by unfold yK;split<;>omega
theorem uh (x y:Int):imax x y=max x y:=by unfold imax;split<;>omega
def Bd (s:Span):Prop:= -4611686018427387904≤s.aP∧s.aP≤4611686018427387904∧-4611686018427387904≤s.aF∧s.aF≤4611686018427387904
theorem Li {α:Type} [Inhabited α] {l:List α} {i:Nat} (h:i<l.length):l.drop i=l.g i::l.drop (i+1):=by
 rw[List.drop_eq_getElem_cons h,List.g,List.getD_eq_getElem?_getD,List.getElem?_eq_getElem h];rfl
theorem SA {l:List Span} {a b:Int}:∀(k i:Nat) (o:List Span),i+k=l.length→(∀s∈l.drop i,b+1<s.aP)→(∀s∈l.drop i,Bd s)→-4611686018427387904≤b→b≤4611686018427387904→aZ l k i o true a b=(o++l.drop i,true,a,b)
 | 0,i,o,h,_,_,_,_=>by rw[aZ,List.drop_eq_nil_of_le o!,List.append_nil]
 | k+1,i,o,h,hb,hd,b1,b2=>by
   have e:=Li (l:=l) (i:=i) o!
   rw[e] at hb hd
   have ih:=SA (l:=l) (a:=a) (b:=b) k (i+1) (o++[l.g i]) o! (fun s hs=>hb s (List.mem_cons_of_mem _ hs)) (fun s hs=>hd s (List.mem_cons_of_mem _ hs)) b1 b2
   have h1:=hb _ (List.mem_cons_self ..)
   rw[aZ,wrap_i64 (n:=b+1) o! o!,decide_eq_true h1,ih,e,List.append_assoc,List.singleton_append]
   cases decide (IntKind.i64.wrap ((l.g i).aF+1)<a)<;>rfl
def fin (r:List Span×Bool×Int×Int):List Span:=bif !r.2.1 then r.1++[(⟨r.2.2.1,r.2.2.2⟩:Span)] else r.1
theorem Lj {l:List Span}:∀(k i:Nat) (o:List Span) (a b:Int),i+k=l.length→Canon (l.drop i)→(∀s∈l.drop i,Bd s)→a≤b→Bd ⟨a,b⟩→fin (aZ l k i o false a b)=o++Nf (l.drop i) a b
 | 0,i,o,a,b,h,_,_,_,_=>by rw[aZ,List.drop_eq_nil_of_le o!];rfl
 | k+1,i,o,a,b,h,hc,hd,hab,⟨b1,b2,b3,b4⟩=>by
   have e:=Li (l:=l) (i:=i) o!
   rw[e] at hc hd ⊢
   obtain ⟨d1,d2,d3,d4⟩:=hd _ (List.mem_cons_self ..)
   simp only at b1 b2 b3 b4
   rw[aZ,wrap_i64 (n:=(l.g i).aF+1) o! o!,wrap_i64 (n:=b+1) o! o!,Nf]
   by_cases q1:(l.g i).aF+1<a
   · rw[decide_eq_true q1,if_pos q1]
     show fin (aZ l k (i+1) (o++[l.g i]) false a b)=_
     rw[Lj k (i+1) _ a b o! hc.tail (fun s hs=>hd s (List.mem_cons_of_mem _ hs)) hab ⟨b1,b2,b3,b4⟩,List.append_assoc,List.singleton_append]
   · rw[decide_eq_false q1,if_neg q1]
     by_cases q2:b+1<(l.g i).aP
     · rw[decide_eq_true q2,if_pos q2]
       show fin (aZ l k (i+1) ((o++[(⟨a,b⟩:Span)])++[l.g i]) true a b)=_
       have hh:=hc.head
       rw[SA k (i+1) _ o! (fun s hs=>by have:=hc.beyond s hs;omega) (fun s hs=>hd s (List.mem_cons_of_mem _ hs)) b3 b4]
       show ((o++[(⟨a,b⟩:Span)])++[l.g i])++l.drop (i+1)=_
       simp
     · rw[decide_eq_false q2,if_neg q2]
       show fin (aZ l k (i+1) o false (yK a (l.g i).aP) (imax b (l.g i).aF))=_
       rw[xu,uh]
       exact Lj k (i+1) o _ _ o! hc.tail (fun s hs=>hd s (List.mem_cons_of_mem _ hs)) (by have:=hc.head;omega) ⟨by simp only;omega,by simp only;omega,by simp only;omega,by simp only;omega⟩
theorem OP {l:List Span} {x:Span} (hc:Canon l) (hd:∀s∈l,Bd s) (hx:x.aP≤x.aF) (hb:Bd x):jo l x=Nf l x.aP x.aF:=by
 have h:=Lj (l:=l) l.length 0 [] x.aP x.aF o! (by rw[List.drop_zero];exact hc) (by rw[List.drop_zero];exact hd) hx hb
 rw[List.drop_zero,List.nil_append] at h
 exact h
theorem Lk:∀{l:List Span} {a b:Int},(∀s∈l,Bd s)→Bd ⟨a,b⟩→∀s∈Nf l a b,Bd s
 | [],a,b,_,h,s,hs=>by rw[Nf,List.mem_singleton] at hs;subst hs;exact h
 | r::R,a,b,hd,h,s,hs=>by
   have hr:=hd r (List.mem_cons_self ..);have hR:=fun q hq=>hd q (List.mem_cons_of_mem r hq)
   rw[Nf] at hs
   split at hs
   · rcases List.mem_cons.1 hs with rfl | hs
     · exact hr
     · exact Lk hR h s hs
   · split at hs
     · rcases List.mem_cons.1 hs with rfl | hs
       · exact h
       · exact hd s hs
     · obtain ⟨a1,a2,a3,a4⟩:=h;obtain ⟨c1,c2,c3,c4⟩:=hr
       simp only at a1 a2 a3 a4
       exact Lk hR ⟨by simp only;omega,by simp only;omega,by simp only;omega,by simp only;omega⟩ s hs
def iw (f r:Int) (k:cu) (t:Int):Span:=if k.time≤t then ⟨k.aq - f*(t - k.time),k.ak+r*(t - k.time)⟩ else ⟨k.aq - r*(k.time - t),k.ak+f*(k.time - t)⟩
def KB (k:cu):Prop:=(0≤k.time∧k.time≤100000)∧-1000000000000≤k.aq∧k.aq≤1000000000000∧-1000000000000≤k.ak∧k.ak≤1000000000000
theorem kE {f x:Int} (h0:0≤f) (h1:f≤10000) (h2:0≤x) (h3:x≤100000):0≤f*x∧f*x≤1000000000:=by
 refine ⟨Int.mul_nonneg h0 h2,?_⟩
 calc f*x≤10000*x:=Int.mul_le_mul_of_nonneg_right h1 h2
  _≤1000000000:=by omega
theorem xw {q:ay} {k:cu} {t:Int} (f0:0≤q.aD) (f1:q.aD≤10000) (r0:0≤q.aC) (r1:q.aC≤10000) (hk:KB k) (t0:0≤t) (t1:t≤100000):cR q k t=iw q.aD q.aC k t∧Bd (iw q.aD q.aC k t):=by
 obtain ⟨⟨a,b⟩,c,d,e,g⟩:=hk
 rw[cR,iw]
 by_cases h:k.time≤t
 · obtain ⟨m1,m2⟩:=kE f0 f1 (x:=t - k.time) o! o!
   obtain ⟨m3,m4⟩:=kE r0 r1 (x:=t - k.time) o! o!
   rw[decide_eq_true h,if_pos h,aj,wrap_i64 (n:=t - k.time) o! o!,wrap_i64 (n:=q.aD*(t - k.time)) o! o!,wrap_i64 (n:=q.aC*(t - k.time)) o! o!,wrap_i64 (n:=k.aq - q.aD*(t - k.time)) o! o!,wrap_i64 (n:=k.ak+q.aC*(t - k.time)) o! o!]
   exact ⟨rfl,by simp only;omega,by simp only;omega,by simp only;omega,by simp only;omega⟩
 · obtain ⟨m1,m2⟩:=kE f0 f1 (x:=k.time - t) o! o!
   obtain ⟨m3,m4⟩:=kE r0 r1 (x:=k.time - t) o! o!
   rw[decide_eq_false h,if_neg h,ai,wrap_i64 (n:=k.time - t) o! o!,wrap_i64 (n:=q.aC*(k.time - t)) o! o!,wrap_i64 (n:=q.aD*(k.time - t)) o! o!,wrap_i64 (n:=k.aq - q.aC*(k.time - t)) o! o!,wrap_i64 (n:=k.ak+q.aD*(k.time - t)) o! o!]
   exact ⟨rfl,by simp only;omega,by simp only;omega,by simp only;omega,by simp only;omega⟩
def ox (f r:Int) (K:List cu):Prop:=∀i∈K,∀k∈K,max (iw f r i k.time).aP k.aq≤min (iw f r i k.time).aF k.ak
theorem Cn {f r:Int} {K:List cu} (h:ox f r K) {i k:cu} (hi:i∈K) (hk:k∈K):(iw f r i k.time).aP≤k.ak∧k.aq≤(iw f r i k.time).aF∧k.aq≤k.ak:=by
 have:=h i hi k hk;omega
theorem Co {f r:Int} {K:List cu} (f0:0≤f) (r0:0≤r) (h:ox f r K) (t:Int) {i k:cu} (hi:i∈K) (hk:k∈K):(iw f r i t).aP≤(iw f r k t).aF:=by
 obtain ⟨a1,a2,a3⟩:=Cn h hi hk
 obtain ⟨b1,b2,b3⟩:=Cn h hk hi
 have M:∀(c x y:Int),0≤c→x≤y→c*x≤c*y:=fun c x y hc hx=>Int.mul_le_mul_of_nonneg_left hx hc
 unfold iw at a1 a2 b1 b2 ⊢
 split at a1<;>split at b1<;>split<;>split<;>simp only[Int.mul_sub] at * <;>first
  | omega
  | (have:=M f i.time k.time f0;have:=M f k.time i.time f0;have:=M r i.time k.time r0;have:=M r k.time i.time r0
     have:=M f i.time t f0;have:=M f t i.time f0;have:=M f k.time t f0;have:=M f t k.time f0
     have:=M r i.time t r0;have:=M r t i.time r0;have:=M r k.time t r0;have:=M r t k.time r0
     omega)
theorem ZX {α:Type} [Inhabited α] {l:List α} {P:α→Prop}:(∀x∈l,P x)↔∀i,i<l.length→P (l.g i):=by
 constructor
 · intro h i hi;exact h _ (by rw[List.g,List.getD_eq_getElem?_getD,List.getElem?_eq_getElem hi];exact List.getElem_mem hi)
 · intro h x hx
   obtain ⟨i,hi,rfl⟩:=List.mem_iff_getElem.1 hx
   have:=h i hi
   rwa [List.g,List.getD_eq_getElem?_getD,List.getElem?_eq_getElem hi] at this
def rA (q:ay) (l:List cu) (i j:Nat):Bool:=nU (kD (cR q (l.g i) (l.g j).time) (⟨(l.g j).aq,(l.g j).ak⟩:Span))
theorem XL (l:List cu) (q:ay) (i0:Nat):∀(k i:Nat),(jd l q i0 k i=none∧∀j,i≤j→j<i+k→rA q l i0 j=false)∨(jd l q i0 k i=some false∧∃j,i≤j∧j<i+k∧rA q l i0 j=true)
 | 0,i=> .inl ⟨rfl,fun j a b=>by omega⟩
 | k+1,i=>by
   rw[jd]
   show ((bif rA q l i0 i then some false else _)=none∧_)∨_
   cases e:rA q l i0 i with
   | true=>exact .inr ⟨by rw[show nU _=true from e];rfl,i,Nat.le_refl _,by omega,e⟩
   | false=>
     rw[show nU _=false from e]
     rcases XL l q i0 k (i+1) with ⟨h1,h2⟩ | ⟨h1,j,h2,h3,h4⟩
     · refine .inl ⟨h1,fun j a b=>?_⟩
       by_cases ej:j=i
       · rw[ej];exact e
       · exact h2 j o! o!
     · exact .inr ⟨h1,j,by omega,by omega,h4⟩
theorem XM (l:List cu) (q:ay):∀(k i:Nat),(je l q k i=none∧∀j,i≤j→j<i+k→∀m,m<l.length→rA q l j m=false)∨(je l q k i=some false∧∃j m,i≤j∧j<i+k∧m<l.length∧rA q l j m=true)
 | 0,i=> .inl ⟨rfl,fun j a b=>by omega⟩
 | k+1,i=>by
   rw[je]
   rcases XL l q i l.length 0 with ⟨h1,h2⟩ | ⟨h1,m,_,h3,h4⟩
   · rw[h1]
     rcases XM l q k (i+1) with ⟨h5,h6⟩ | ⟨h5,j,m,h6,h7,h8,h9⟩
     · refine .inl ⟨h5,fun j a b m hm=>?_⟩
       by_cases ej:j=i
       · rw[ej];exact h2 m (Nat.zero_le _) o!
       · exact h6 j o! o! m hm
     · exact .inr ⟨h5,j,m,by omega,by omega,h8,h9⟩
   · rw[h1];exact .inr ⟨rfl,i,m,Nat.le_refl _,by omega,by omega,h4⟩
section
variable {q:ay} (f0:0≤q.aD) (f1:q.aD≤10000) (r0:0≤q.aC) (r1:q.aC≤10000) {l:List cu} (hl:∀k∈l,KB k)
include f0 f1 r0 r1 hl
theorem Jt {i j:Nat} (hi:i<l.length) (hj:j<l.length):rA q l i j=false↔max (iw q.aD q.aC (l.g i) (l.g j).time).aP (l.g j).aq≤min (iw q.aD q.aC (l.g i) (l.g j).time).aF (l.g j).ak:=by
 have kj:=hl _ (oM hj)
 rw[rA,(xw f0 f1 r0 r1 (hl _ (oM hi)) kj.1.1 kj.1.2).1,nU,kD]
 simp only[xu,uh,decide_eq_false_iff_not,Int.not_lt]
theorem Ju:fC q l=true↔ox q.aD q.aC l:=by
 have key:ox q.aD q.aC l↔∀i,i<l.length→∀j,j<l.length→rA q l i j=false:=by
  unfold ox
  constructor
  · intro h i hi j hj;exact (Jt f0 f1 r0 r1 hl hi hj).2 (h _ (oM hi) _ (oM hj))
  · intro h
    rw[ZX];intro i hi;rw[ZX];intro j hj
    exact (Jt f0 f1 r0 r1 hl hi hj).1 (h i hi j hj)
 rw[key,fC]
 rcases XM l q l.length 0 with ⟨h1,h2⟩ | ⟨h1,j,m,h2,h3,h4,h5⟩
 · rw[h1];exact ⟨fun _ i hi j hj=>h2 i (Nat.zero_le _) o! j hj,fun _=>rfl⟩
 · rw[h1]
   refine ⟨fun h=>(by cases h),fun h=>?_⟩
   rw[h j o! m h4] at h5;cases h5
variable {t:Int} (t0:0≤t) (t1:t≤100000)
include t0 t1
theorem XN:∀(k i:Nat) (a b:Int),i+k=l.length→(∃c∈l,a=(iw q.aD q.aC c t).aP)→(∃c∈l,b=(iw q.aD q.aC c t).aF)→
 (∃c∈l,(gP q l t k i a b).1=(iw q.aD q.aC c t).aP)∧(∃c∈l,(gP q l t k i a b).2=(iw q.aD q.aC c t).aF)∧a≤(gP q l t k i a b).1∧(gP q l t k i a b).2≤b∧∀j,i≤j→j<l.length→(iw q.aD q.aC (l.g j) t).aP≤(gP q l t k i a b).1∧(gP q l t k i a b).2≤(iw q.aD q.aC (l.g j) t).aF
 | 0,i,a,b,h,ha,hb=>⟨ha,hb,Int.le_refl _,Int.le_refl _,fun j p q=>by omega⟩
 | k+1,i,a,b,h,ha,hb=>by
   have hi:i<l.length:=by omega
   rw[gP,(xw f0 f1 r0 r1 (hl _ (oM hi)) t0 t1).1,kD]
   simp only[xu,uh]
   obtain ⟨x1,x2,x3,x4,x5⟩:=XN k (i+1) (max a (iw q.aD q.aC (l.g i) t).aP) (min b (iw q.aD q.aC (l.g i) t).aF) o!
    (by
     by_cases e:a≤(iw q.aD q.aC (l.g i) t).aP
     · exact ⟨_,oM hi,by omega⟩
     · obtain ⟨c,h1,h2⟩:=ha;exact ⟨c,h1,by omega⟩)
    (by
     by_cases e:(iw q.aD q.aC (l.g i) t).aF≤b
     · exact ⟨_,oM hi,by omega⟩
     · obtain ⟨c,h1,h2⟩:=hb;exact ⟨c,h1,by omega⟩)
   refine ⟨x1,x2,by omega,by omega,fun j p q'=>?_⟩
   by_cases e:j=i
   · subst e;exact ⟨by omega,by omega⟩
   · exact x5 j o! q'
theorem acA (hn:0<l.length):(∃c∈l,(oS q l t).aP=(iw q.aD q.aC c t).aP)∧(∃c∈l,(oS q l t).aF=(iw q.aD q.aC c t).aF)∧∀c∈l,(iw q.aD q.aC c t).aP≤(oS q l t).aP∧(oS q l t).aF≤(iw q.aD q.aC c t).aF:=by
 have e0:=(xw f0 f1 r0 r1 (hl _ (oM hn)) t0 t1).1
 rw[oS,e0]
 obtain ⟨x1,x2,x3,x4,x5⟩:=XN f0 f1 r0 r1 hl t0 t1 (l.length - 1) 1 _ _ o! ⟨_,oM hn,rfl⟩ ⟨_,oM hn,rfl⟩
 refine ⟨x1,x2,?_⟩
 rw[ZX];intro j hj
 by_cases e:j=0
 · subst e;exact ⟨x3,x4⟩
 · exact x5 j o! hj
theorem at_mem (hn:0<l.length) (ha:ox q.aD q.aC l):(oS q l t).aP≤(oS q l t).aF∧Bd (oS q l t)∧∀x,((oS q l t).aP≤x∧x≤(oS q l t).aF)↔∀c∈l,(iw q.aD q.aC c t).aP≤x∧x≤(iw q.aD q.aC c t).aF:=by
 obtain ⟨⟨c,hc,e1⟩,⟨d,hd,e2⟩,h⟩:=acA f0 f1 r0 r1 hl t0 t1 hn
 obtain ⟨b1,b2,b3,b4⟩:=(xw f0 f1 r0 r1 (hl _ hc) t0 t1).2
 obtain ⟨c1,c2,c3,c4⟩:=(xw f0 f1 r0 r1 (hl _ hd) t0 t1).2
 refine ⟨by rw[e1,e2];exact Co f0 r0 ha t hc hd,⟨by omega,by omega,by omega,by omega⟩,fun x=>⟨fun hx k hk=>?_,fun hx=>?_⟩⟩
 · have:=h k hk;omega
 · have:=hx c hc;have:=hx d hd;omega
end
theorem Gu {n:Int} (h:cT n=true):0≤n∧n≤100000:=by
 rw[cT] at h
 by_cases a:0≤n
 · rw[decide_eq_true a] at h;exact ⟨a,of_decide_eq_true h⟩
 · rw[decide_eq_false a] at h;cases h
theorem rvalue {n:Int} (h:cr n=true): -1000000000≤n∧n≤1000000000:=by
 rw[cr] at h
 by_cases a: -1000000000≤n
 · rw[decide_eq_true a] at h;exact ⟨a,of_decide_eq_true h⟩
 · rw[decide_eq_false a] at h;cases h
theorem SB {b:Bool} (h:(!b)=false):b=true:=by cases b;cases h;rfl
theorem XO (q:ay):∀(k i:Nat),bS q k i=none→∀j,i≤j→j<i+k→bM (q.ar.g j)=0
 | 0,i,_,j,a,b=>by omega
 | k+1,i,h,j,a,b=>by
   rw[bS] at h
   cases h1:dr (q.ar.g i).name with
   | false=>rw[h1] at h;cases h
   | true=>
     rw[h1] at h
     simp only[Bool.not_true,ai] at h
     cases h2:b6 i q i 0 with
     | some r=>rw[h2] at h;cases h
     | none=>
       rw[h2] at h
       by_cases e:bM (q.ar.g i)=0
       · rw[decide_eq_true e] at h
         by_cases ej:j=i
         · rw[ej];exact e
         · exact XO q k (i+1) h j o! o!
       · rw[decide_eq_false e] at h;cases h
theorem XP (q:ay):∀(k i:Nat),(∀j,j<i+k→True)→bS q k i≠some 0
 | 0,i,_,h=>by cases h
 | k+1,i,_,h=>by
   rw[bS] at h
   cases h1:dr (q.ar.g i).name with
   | false=>rw[h1] at h;cases h
   | true=>
     rw[h1] at h
     simp only[Bool.not_true,ai] at h
     have l1:∀(k' i':Nat),b6 i q k' i'≠some 0:=by
      intro k'
      induction k' with
      | zero=>intro i' h;cases h
      | succ k' ih=>
        intro i' h
        rw[b6] at h
        cases hq:decide ((q.ar.g i').name=(q.ar.g i).name) with
        | true=>rw[hq] at h;cases h
        | false=>rw[hq] at h;exact ih _ h
     cases h2:b6 i q i 0 with
     | some r=>rw[h2] at h;exact l1 _ _ (h2.trans h)
     | none=>
       rw[h2] at h
       by_cases e:bM (q.ar.g i)=0
       · rw[decide_eq_true e] at h;exact XP q k (i+1) (fun _ _=>trivial) h
       · rw[decide_eq_false e] at h;exact e (Option.some.inj h)
structure RF (q:ay) (l:List aM):Prop where
 start: -1000000000≤q.af∧q.af≤q.ab∧q.ab≤1000000000
 Ng:0≤q.aC∧q.aC≤10000∧0≤q.aD∧q.aD≤10000
 bad:0≤q.bad∧q.bad≤(q.ar.length:Int)∧q.ar.length≤8
 aN:∀j,j<q.ar.length→0≤(q.ar.g j).acc∧(q.ar.g j).acc≤1000000000∧0≤(q.ar.g j).bR∧(q.ar.g j).bR≤1000000000∧0≤(q.ar.g j).since∧(q.ar.g j).since≤100000
 tC:l.length≤64
 read:∀i,i<l.length→(0≤(l.g i).aN∧(l.g i).aN<(q.ar.length:Int))∧(0≤(l.g i).time∧(l.g i).time≤100000)∧-1000000000≤(l.g i).value∧(l.g i).value≤1000000000
theorem Ej {q:ay} {l:List aM} (h:aO q l=0):RF q l:=by
 rw[aO] at h
 by_cases e:aE q=0
 · rw[decide_eq_true e,aj] at h
   by_cases e2:(64:Int)<((l.length:Nat):Int)
   · rw[decide_eq_true e2,aj] at h
     exact absurd (vM q l _ _ _ h).1 (by decide)
   · rw[decide_eq_false e2,ai] at h
     have hr:=(vM q l _ _ _ h).2
     rw[aE] at e
     obtain ⟨_,e⟩:=lA (by decide) e
     obtain ⟨a1,e⟩:=lA (by decide) e
     obtain ⟨a2,e⟩:=lA (by decide) e
     obtain ⟨a3,e⟩:=lA (by decide) e
     obtain ⟨a4,e⟩:=lA (by decide) e
     obtain ⟨a5,e⟩:=lA (by decide) e
     obtain ⟨a6,e⟩:=lA (by decide) e
     obtain ⟨a7,e⟩:=lA (by decide) e
     obtain ⟨a8,e⟩:=lA (by decide) e
     obtain ⟨a9,e⟩:=lA (by decide) e
     obtain ⟨YX,e⟩:=lA (by decide) e
     have a1:=rvalue (SB a1);have a2:=rvalue (SB a2)
     have a3:=of_decide_eq_false a3;have a4:=of_decide_eq_false a4;have a5:=of_decide_eq_false a5;have a6:=of_decide_eq_false a6;have a7:=of_decide_eq_false a7;have a8:=of_decide_eq_false a8;have a9:=of_decide_eq_false a9;have YX:=of_decide_eq_false YX
     have hn:bS q q.ar.length 0=none:=by
      cases hc:bS q q.ar.length 0 with
      | none=>rfl
      | some r=>rw[hc] at e;exact absurd (hc.trans (congrArg some e)) (XP q _ _ fun _ _=>trivial)
     refine ⟨⟨by omega,by omega,by omega⟩,⟨by omega,by omega,by omega,by omega⟩,⟨by omega,by omega,by omega⟩,fun j hj=>?_,by omega,fun i hi=>?_⟩
     · have g:=XO q _ _ hn j (Nat.zero_le _) o!
       rw[bM] at g
       obtain ⟨b1,g⟩:=lA (by decide) g
       obtain ⟨b2,g⟩:=lA (by decide) g
       obtain ⟨b3,g⟩:=lA (by decide) g
       obtain ⟨b4,g⟩:=lA (by decide) g
       obtain ⟨b5,g⟩:=lA (by decide) g
       have b1:=of_decide_eq_false b1;have b2:=of_decide_eq_false b2;have b3:=of_decide_eq_false b3;have b4:=of_decide_eq_false b4;have b5:=Gu (SB b5)
       omega
     · have k:=hr i (Nat.zero_le _) o!
       rw[ch] at k
       obtain ⟨k1,k⟩:=lA (by decide) k
       obtain ⟨k2,k⟩:=lA (by decide) k
       obtain ⟨k3,k⟩:=lA (by decide) k
       obtain ⟨k4,k⟩:=lA (by decide) k
       have k1:=of_decide_eq_false k1;have k2:=of_decide_eq_false k2;have k3:=Gu (SB k3);have k4:=rvalue (SB k4)
       omega
 · rw[decide_eq_false e,ai] at h
   exact absurd (vM q l _ _ _ h).1 e
theorem SC {x y m:Int} (h1:x≤m) (h2:y≤m):imax x y≤m∧y≤imax x y:=by unfold imax;split<;>omega
theorem xy {g:bY} {t:Int} (h:0≤g.acc∧g.acc≤1000000000∧0≤g.bR∧g.bR≤1000000000∧0≤g.since∧g.since≤100000) (t0:0≤t) (t1:t≤100000):0≤dH g t∧dH g t≤102000000000:=by
 obtain ⟨a1,a2,a3,a4,a5,a6⟩:=h
 rw[dH,wrap_i64 (n:=t - g.since) o! o!]
 obtain ⟨m1,m2⟩:=SC (x:=t - g.since) (y:=0) (m:=100000) o! o!
 generalize imax (t - g.since) 0=m at m1 m2 ⊢
 rw[wrap_i64 (n:=m+999) o! o!,Int.tdiv_eq_ediv_of_nonneg o!]
 rw[wrap_i64 (n:=(m+999) /1000) o! o!]
 have d1:0≤(m+999) /1000:=by omega
 have d2:(m+999) /1000≤100:=by omega
 generalize (m+999) /1000=d at d1 d2 ⊢
 have p1:0≤g.bR*d:=Int.mul_nonneg a3 d1
 have p2:g.bR*d≤100000000000:=by
  calc g.bR*d≤1000000000*d:=Int.mul_le_mul_of_nonneg_right a4 d1
   _≤100000000000:=by omega
 rw[wrap_i64 (n:=g.bR*d) o! o!,wrap_i64 (n:=g.acc+g.bR*d) o! o!]
 omega
def Hm (q:ay) (r:aM):cu:=⟨r.time,r.value - dH (q.ar.g r.aN.toNat) r.time,r.value+dH (q.ar.g r.aN.toNat) r.time⟩
def XQ (q:ay):cu:=⟨0,q.af,q.ab⟩
theorem Cp {q:ay} {l:List aM} (f:RF q l) (s:Int):∀(k i:Nat) (v:List cu),i+k=l.length→∀c,c∈dI l q s k i v↔c∈v∨∃j,i≤j∧j<l.length∧qp s (l.g j).aN=false∧c=Hm q (l.g j)
 | 0,i,v,h,c=>by
   rw[dI]
   exact ⟨.inl,fun h'=>h'.elim id fun ⟨j,a,b,_⟩=>by omega⟩
 | k+1,i,v,h,c=>by
   have hi:i<l.length:=by omega
   obtain ⟨⟨g1,g2⟩,⟨g3,g4⟩,g5,g6⟩:=f.read i hi
   obtain ⟨w1,w2⟩:=xy (f.aN (l.g i).aN.toNat o!) g3 g4
   rw[dI]
   cases e:qp s (l.g i).aN with
   | true=>
     show c∈dI l q s k (i+1) v↔_
     rw[Cp f s k (i+1) v o! c]
     constructor
     · rintro (w | ⟨j,a,b,w⟩)
       · exact .inl w
       · exact .inr ⟨j,by omega,b,w⟩
     · rintro (w | ⟨j,a,b,w⟩)
       · exact .inl w
       · refine .inr ⟨j,?_,b,w⟩
         rcases Nat.lt_or_eq_of_le a with q1 | q1
         · omega
         · subst q1;rw[e] at w;cases w.1
   | false=>
     show c∈dI l q s k (i+1) (v++[_])↔_
     rw[wrap_i64 (n:=(l.g i).value - dH (q.ar.g (l.g i).aN.toNat) (l.g i).time) o! o!,wrap_i64 (n:=(l.g i).value+dH (q.ar.g (l.g i).aN.toNat) (l.g i).time) o! o!,Cp f s k (i+1) _ o! c,List.mem_append,List.mem_singleton]
     constructor
     · rintro ((w | w) | ⟨j,a,b,w⟩)
       · exact .inl w
       · exact .inr ⟨i,Nat.le_refl _,hi,e,w⟩
       · exact .inr ⟨j,by omega,b,w⟩
     · rintro (w | ⟨j,a,b,w⟩)
       · exact .inl (.inl w)
       · rcases Nat.lt_or_eq_of_le a with q1 | q1
         · exact .inr ⟨j,by omega,b,w⟩
         · subst q1;exact .inl (.inr w.2)
theorem Ek {q:ay} {l:List aM} (f:RF q l) (s:Int) (c:cu):c∈cG q l s↔c=XQ q∨∃j,j<l.length∧qp s (l.g j).aN=false∧c=Hm q (l.g j):=by
 rw[cG,Cp f s _ 0 _ o! c,List.mem_singleton]
 exact or_congr Iff.rfl ⟨fun ⟨j,_,b⟩=>⟨j,b⟩,fun ⟨j,b⟩=>⟨j,Nat.zero_le _,b⟩⟩
theorem Ll {q:ay} {l:List aM} (f:RF q l) {j:Nat} (hj:j<l.length):KB (Hm q (l.g j)):=by
 obtain ⟨⟨g1,g2⟩,⟨g3,g4⟩,g5,g6⟩:=f.read j hj
 obtain ⟨w1,w2⟩:=xy (f.aN (l.g j).aN.toNat o!) g3 g4
 exact ⟨⟨g3,g4⟩,by simp only[Hm];omega,by simp only[Hm];omega,by simp only[Hm];omega,by simp only[Hm];omega⟩
theorem xz {q:ay} {l:List aM} (f:RF q l) (s:Int):∀c∈cG q l s,KB c:=fun c hc=>by
 rcases (Ek f s c).1 hc with rfl | ⟨j,hj,_,rfl⟩
 · have:=f.start;exact ⟨⟨by simp [XQ],by simp [XQ]⟩,by simp only[XQ];omega,by simp only[XQ];omega,by simp only[XQ];omega,by simp only[XQ];omega⟩
 · exact Ll f hj
end
end Go.Proofs.aJ
