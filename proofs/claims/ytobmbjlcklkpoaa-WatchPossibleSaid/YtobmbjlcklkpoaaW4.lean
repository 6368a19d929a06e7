import Derived.Test.YtobmbjlcklkpoaaW0
import Derived.Test.YtobmbjlcklkpoaaW3
import Derived.Test.YtobmbjlcklkpoaaW2
import Derived.Test.YtobmbjlcklkpoaaW1
namespace Go.Proofs.aJ
open Go.Proofs Ab
noncomputable section
set_option maxRecDepth 100000
set_option maxHeartbeats 4000000
set_option linter.unusedVariables false
set_option linter.unusedSimpArgs false
def xk:Code:=(Try.f26.body).getD .skip
theorem OJ:Try.f26.body=some xk:=by kernel_rfl
def Ji:Code:=(ck xk).getD 0 .skip
def dI (l_:List aM) (q:ay) (set:Int):Nat→Nat→List cu→List cu
 | 0,_,iz=>iz
 | dS+1,i0,iz=>(bif (!(qp set (l_.g i0).aN)) then dI l_ q set dS (i0+1) (iz++[(⟨(l_.g i0).time,(IntKind.i64.wrap ((l_.g i0).value -(dH (q.ar.g (l_.g i0).aN.toNat) (l_.g i0).time))),(IntKind.i64.wrap (((l_.g i0).value)+(dH (q.ar.g (l_.g i0).aN.toNat) (l_.g i0).time)))⟩:cu)]) else dI l_ q set dS (i0+1) iz)
theorem rp {d:Nat} {h:aw} (dB:AV) (set:Int) (l_:List aM) (q:ay) (cC:Nat) (bI:aQ h dB l_) (eO:q.name.length<2^60) (kP:aQ h q.ao q.ar) (ma:aA.ok h q) (rh:∀i,i<l_.length→0≤(l_.g i).aN∧(l_.g i).aN<(q.ar.length:Int)) (OL:l_.length≤64) (bH:Tidy h) (rX:h.nx≤cC):∀(k_ i_:Nat) (iz:List cu) (rq:AV) (_:i_+k_=l_.length) (x:Nat→AV) (hh:aw) (aL:Tidy hh) (aX:Has h hh) (gI:h.nx≤hh.nx) (bJ:hh.get cC=some (aY.cells [(AV.str q.name),(Zi q.af),(Zi q.ab),(Zi q.aC),(Zi q.aD),(Zi q.bad),q.ao] 26 false)) (qq:bu h hh rq iz) (mJ:∀y∈iz,aA.ok hh y) (Jj:iz.length≤1*i_+1) (ei:bG rq cC),cP (σ:=List cu) (ζ:=AV) (cJ (d+1)) Ji ⟨((x 0)::dB::(Zi set)::(Pt cC)::rx x 4 3 (rq::(Zn i_)::rx x 9 59 [])),hh,[],.no⟩ (.exit 0) hh (fun r z y=>((y 0)::dB::(Zi set)::(Pt cC)::rx y 4 3 (z::rx y 8 60 []))) (fun r z hk=>Has h hk∧hk.get cC=some (aY.cells [(AV.str q.name),(Zi q.af),(Zi q.ab),(Zi q.aC),(Zi q.aD),(Zi q.bad),q.ao] 26 false)∧bu h hk z r∧(∀y∈r,aA.ok hk y)∧r.length≤1*l_.length+1∧bG z cC) (dI l_ q set k_ i_ iz)
 | 0,i0,iz,rq,jZ,x,hh,aL,aX,gI,bJ,qq,mJ,Jj,ei=>by
   have fN:=bI.small
   have rj:=kP.small
   have pP:=aL _ _ bJ
   have rd_:=rh i0
   have ie:dw (some (.slice 44)) (some dB)=some (Zn l_.length):=bI.len
   have q2:(decide (((i0:Nat):Int)<((l_.length:Nat):Int)))=false:=d!
   exact cP.out iz rq rfl (pk (d+1) _ _ hh _ hh (CN 2<|VV ie<|VV (bz 3 false false .i64 ((i0:Nat):Int) ((l_.length:Nat):Int))<|BB q2<|ZZ) k!) aL o! ⟨aX,bJ,qq,mJ,(by first | omega | (simp<;>omega)),ei⟩ k!
 | dS+1,i0,iz,rq,jZ,x,hh,aL,aX,gI,bJ,qq,mJ,Jj,ei=>by
   have fN:=bI.small
   have rj:=kP.small
   have pP:=aL _ _ bJ
   have rd_:=rh i0
   have ie:dw (some (.slice 44)) (some dB)=some (Zn l_.length):=bI.len
   have q2:(decide (((i0:Nat):Int)<((l_.length:Nat):Int)))=true:=d!
   obtain ⟨p4,q5,mH⟩:=bI.elem (i:=i0) o!
   have py:di env (some (.slice 44)) (some dB) (some (Zn i0))=some (AV.ptr p4 q5):=mH
   have pz:bA env hh 3 (AV.ptr p4 (q5+0))=some (Zi (l_.g i0).aN):=(bI.has aX).part (t:=3) (j:=0) o! mH k! rfl
   have k7:=M8 (d:=d) set (l_.g i0).aN (by first | omega | assumption | (simp only[List.length_set,List.length_replicate,List.length_append,List.length_cons,List.length_nil,List.nil_append]<;>omega) | (rw[List.length_take];omega)) aL
   rcases Bool.eq_false_or_eq_true (!(qp set (l_.g i0).aN)) with f1 | f1
   · obtain ⟨p10,q11,aci⟩:=bI.elem (i:=i0) o!
     have ix9:di env (some (.slice 44)) (some dB) (some (Zn i0))=some (AV.ptr p10 q11):=aci
     have acj:bA env hh 3 (AV.ptr p10 (q11+0))=some (Zi (l_.g i0).aN):=(bI.has aX).part (t:=3) (j:=0) o! aci k! rfl
     obtain ⟨p14,V9,Jd⟩:=kP.elem (i:=((l_.g i0).aN).toNat) o!
     have De:di env (some (.slice 63)) (some q.ao) (some (Zi (l_.g i0).aN))=some (AV.ptr p14 V9):=by rw[show (((l_.g i0).aN):Int)=(((l_.g i0).aN.toNat:Nat):Int) by omega];exact Jd
     have K7:bA env hh 63 (AV.ptr p14 V9)=some (AV.agg [(AV.str (q.ar.g (l_.g i0).aN.toNat).name),(Zi (q.ar.g (l_.g i0).aN.toNat).acc),(Zi (q.ar.g (l_.g i0).aN.toNat).bR),(Zi (q.ar.g (l_.g i0).aN.toNat).since)]):=(kP.has aX).load o! Jd
     obtain ⟨p18,q19,Je⟩:=bI.elem (i:=i0) o!
     have Sh:di env (some (.slice 44)) (some dB) (some (Zn i0))=some (AV.ptr p18 q19):=Je
     have Jf:bA env hh 3 (AV.ptr p18 (q19+1))=some (Zi (l_.g i0).time):=(bI.has aX).part (t:=3) (j:=1) o! Je k! rfl
     have k21:=D9 (d:=d) (q.ar.g (l_.g i0).aN.toNat) (l_.g i0).time (aA.mono aX (kP.ok (i:=((l_.g i0).aN).toNat) o!)) aL
     have c22:AV.same 20 q.ao q.ao=true:=kP.same 19
     have c23:AV.same 20 (AV.agg [(AV.str (q.ar.g (l_.g i0).aN.toNat).name),(Zi (q.ar.g (l_.g i0).aN.toNat).acc),(Zi (q.ar.g (l_.g i0).aN.toNat).bR),(Zi (q.ar.g (l_.g i0).aN.toNat).since)]) (AV.agg [(AV.str (q.ar.g (l_.g i0).aN.toNat).name),(Zi (q.ar.g (l_.g i0).aN.toNat).acc),(Zi (q.ar.g (l_.g i0).aN.toNat).bR),(Zi (q.ar.g (l_.g i0).aN.toNat).since)])=true:=dx 18 (hD (fun n=>iJ n _) (hD (fun n=>aG n _ _) (hD (fun n=>aG n _ _) (hD (fun n=>aG n _ _) AF))))
     obtain ⟨p25,q26,Sj⟩:=bI.elem (i:=i0) o!
     have ae5:di env (some (.slice 44)) (some dB) (some (Zn i0))=some (AV.ptr p25 q26):=Sj
     have ae6:bA env hh 3 (AV.ptr p25 (q26+1))=some (Zi (l_.g i0).time):=(bI.has aX).part (t:=3) (j:=1) o! Sj k! rfl
     obtain ⟨p29,q30,Sk⟩:=bI.elem (i:=i0) o!
     have ae7:di env (some (.slice 44)) (some dB) (some (Zn i0))=some (AV.ptr p29 q30):=Sk
     have ae8:bA env hh 3 (AV.ptr p29 (q30+2))=some (Zi (l_.g i0).value):=(bI.has aX).part (t:=3) (j:=2) o! Sk k! rfl
     obtain ⟨p33,q34,Sl⟩:=bI.elem (i:=i0) o!
     have ae9:di env (some (.slice 44)) (some dB) (some (Zn i0))=some (AV.ptr p33 q34):=Sl
     have afa:bA env hh 3 (AV.ptr p33 (q34+2))=some (Zi (l_.g i0).value):=(bI.has aX).part (t:=3) (j:=2) o! Sl k! rfl
     obtain ⟨XG,ack,XH,agB,XI,M9⟩:=gu aL (aY.cells [(Zi (l_.g i0).time),(Zi (IntKind.i64.wrap ((l_.g i0).value -(dH (q.ar.g (l_.g i0).aN.toNat) (l_.g i0).time)))),(Zi (IntKind.i64.wrap (((l_.g i0).value)+(dH (q.ar.g (l_.g i0).aN.toNat) (l_.g i0).time))))] 88 false)
     have M_:Has h XG:=aX.trans M9
     have Sm:Has hh XG:=M9
     obtain ⟨z38,h37,ZM,acm,agC,acn,afb,ZN,ZO⟩:=bu.Ag (tys:= #[58,58]) (l:=iz) (m:=[(⟨(l_.g i0).time,(IntKind.i64.wrap ((l_.g i0).value -(dH (q.ar.g (l_.g i0).aN.toNat) (l_.g i0).time))),(IntKind.i64.wrap (((l_.g i0).value)+(dH (q.ar.g (l_.g i0).aN.toNat) (l_.g i0).time)))⟩:cu)]) (x:=(AV.slice hh.nx 0 1 1 false)) XH bH M_ o! (bu.has qq Sm) rfl (im (x:=(⟨(l_.g i0).time,(IntKind.i64.wrap ((l_.g i0).value -(dH (q.ar.g (l_.g i0).aN.toNat) (l_.g i0).time))),(IntKind.i64.wrap (((l_.g i0).value)+(dH (q.ar.g (l_.g i0).aN.toNat) (l_.g i0).time)))⟩:cu)) XI) (by simp [aA.c,cu.c,AV.scalar]) (by first | omega | (simp<;>omega)) rfl rfl k! k! (bytes:=24) k! (z0:=(AV.agg [(Zi 0),(Zi 0),(Zi 0)])) k! rfl (by decide)
     have aco:Has h h37:=acn
     have ZP:∀y∈(iz++[(⟨(l_.g i0).time,(IntKind.i64.wrap ((l_.g i0).value -(dH (q.ar.g (l_.g i0).aN.toNat) (l_.g i0).time))),(IntKind.i64.wrap (((l_.g i0).value)+(dH (q.ar.g (l_.g i0).aN.toNat) (l_.g i0).time)))⟩:cu)]),aA.ok h37 y:=dG (D:=cu) (nC (dG (D:=cu) (h':=XG) mJ) (ok_one trivial))
     have u40:=eR 3 false true i0 1 o!
     exact cP.round (by simp only[dI,f1,aj,ai]) (pk (d+1) _ _ hh _ h37 (CN 2<|VV ie<|VV (bz 3 false false .i64 ((i0:Nat):Int) ((l_.length:Nat):Int))<|BB q2<|CN 3<|VV py<|CC<|MM pz<|EE k7<|CC<|BC f1<|MM (aB 24 6 q.ao bJ k!)<|CN 2<|VV ix9<|CC<|MM acj<|VV De<|MM K7<|CN 2<|VV Sh<|CC<|MM Jf<|EE k21<|CC<|HH (aB 24 6 q.ao bJ k!)<|HH c22<|HH acj<|HH (show AV.same 20 (Zi (l_.g i0).aN) (Zi (l_.g i0).aN)=true from aG 19 _ _)<|HH K7<|HH c23<|HH Jf<|HH (show AV.same 20 (Zi (l_.g i0).time) (Zi (l_.g i0).time)=true from aG 19 _ _)<|CN 3<|VV ae5<|CC<|MM ae6<|CN 2<|VV ae7<|CC<|MM ae8<|CN 4<|VV ae9<|CC<|MM afa<|CN 4<|NN ack (fun i=>(AV.slice i 0 1 1 false))<|PP (show b8 env XG #[58,58] rq (AV.slice hh.nx 0 1 1 false)=some (z38,h37) from ZM)<|CC<|HH (show bA env XG 3 (AV.ptr p25 (q26+1))=some (Zi (l_.g i0).time) from ((bI.has M_).part (t:=3) (j:=1) o! Sj k! rfl))<|HH (show AV.same 20 (Zi (l_.g i0).time) (Zi (l_.g i0).time)=true from aG 19 _ _)<|HH (show bA env XG 3 (AV.ptr p29 (q30+2))=some (Zi (l_.g i0).value) from ((bI.has M_).part (t:=3) (j:=2) o! Sk k! rfl))<|HH (show AV.same 20 (Zi (l_.g i0).value) (Zi (l_.g i0).value)=true from aG 19 _ _)<|HH (show bA env XG 3 (AV.ptr p33 (q34+2))=some (Zi (l_.g i0).value) from ((bI.has M_).part (t:=3) (j:=2) o! Sl k! rfl))<|HH (show AV.same 20 (Zi (l_.g i0).value) (Zi (l_.g i0).value)=true from aG 19 _ _)<|HH (show ∃o,XG.get hh.nx=some o∧aY.same o (aY.cells [(Zi (l_.g i0).time),(Zi (IntKind.i64.wrap ((l_.g i0).value -(dH (q.ar.g (l_.g i0).aN.toNat) (l_.g i0).time)))),(Zi (IntKind.i64.wrap (((l_.g i0).value)+(dH (q.ar.g (l_.g i0).aN.toNat) (l_.g i0).time))))] 88 false)=true from ⟨_,XI,by simp [aY.same,dQ,AV.same]⟩)<|CC<|VV u40<|CC<|ZZ) k!) o! _ k! (fun x=>rp dB set l_ q cC bI eO kP ma rh OL bH rX dS (i0+1) (iz++[(⟨(l_.g i0).time,(IntKind.i64.wrap ((l_.g i0).value -(dH (q.ar.g (l_.g i0).aN.toNat) (l_.g i0).time))),(IntKind.i64.wrap (((l_.g i0).value)+(dH (q.ar.g (l_.g i0).aN.toNat) (l_.g i0).time)))⟩:cu)]) z38 o! x h37 acm aco o! (ZN _ _ ei (M9 _ _ bJ)) afb ZP (by first | omega | (simp<;>omega)) (ZO _ (XH _ _ (M9 _ _ bJ)) ei))
   · have u9:=eR 3 false true i0 1 o!
     exact cP.round (by simp only[dI,f1,aj,ai]) (pk (d+1) _ _ hh _ hh (CN 2<|VV ie<|VV (bz 3 false false .i64 ((i0:Nat):Int) ((l_.length:Nat):Int))<|BB q2<|CN 3<|VV py<|CC<|MM pz<|EE k7<|CC<|BC f1<|VV u9<|CC<|ZZ) k!) o! _ k! (fun x=>rp dB set l_ q cC bI eO kP ma rh OL bH rX dS (i0+1) iz rq o! x hh aL aX o! bJ qq mJ (by first | omega | (simp<;>omega)) ei)
def cG (q:ay) (l_:List aM) (set:Int):List cu:=(dI l_ q set l_.length 0 ([(⟨0,q.af,q.ab⟩:cu)]))
theorem Ef {d:Nat} {h:aw} {dB:AV} (q:ay) (l_:List aM) (set:Int) (eP:aA.ok h q) (eY:aQ h dB l_) (jP:∀i,i<l_.length→0≤(l_.g i).aN∧(l_.g i).aN<(q.ar.length:Int)) (OM:l_.length≤64) (bH:Tidy h):∃z hk,cJ (d+2) (.fn 26) [(AV.agg [(AV.str q.name),(Zi q.af),(Zi q.ab),(Zi q.aC),(Zi q.aD),(Zi q.bad),q.ao]),dB,(Zi set)] h= .ret z hk∧Grow h hk∧aQ hk z (cG q l_ set)∧bu h hk z (cG q l_ set):=by
 have oP:=eY.small
 have fW:=eP.2.small
 obtain ⟨h1,bD,bN,fX,aH,bZ⟩:=gu bH (aY.cells [(AV.str q.name),(Zi q.af),(Zi q.ab),(Zi q.aC),(Zi q.aD),(Zi q.bad),q.ao] 26 false)
 have bk:Has h h1:=bZ
 obtain ⟨h2,iQ,fJ,uA,dh,dz⟩:=gu bN (aY.cells [(Zi 0),(Zi q.af),(Zi q.ab)] 88 false)
 have fl:Has h h2:=bk.trans dz
 have oz3:bu h h2 (AV.slice h1.nx 0 1 1 false) [(⟨0,q.af,q.ab⟩:cu)]:= .inr ⟨by simp,h1.nx,false,rfl,by omega,dh⟩
 obtain ⟨zo6,Pr,h5,fO,jJ,vD,Jk,afc,Sn,M',afd,Py⟩:=rp (d:=d) (h:=h) dB set l_ q h.nx eY eP.1 eP.2 eP jP o! bH o! l_.length 0 ([(⟨0,q.af,q.ab⟩:cu)]) (AV.slice h1.nx 0 1 1 false) o! (fun k_=>(((AV.agg [(AV.str q.name),(Zi q.af),(Zi q.ab),(Zi q.aC),(Zi q.aD),(Zi q.bad),q.ao])::dB::(Zi set)::(Pt h.nx)::AV.undef::AV.undef::AV.aK::(AV.slice h1.nx 0 1 1 false)::(Zi 0)::AV.undef::(AV.ptr h.nx 1)::(AV.agg [(Zi q.af),(Zi q.ab)])::(AV.agg [(Zi 0),(Zi q.af),(Zi q.ab)])::(AV.slice h1.nx 0 1 1 false)::jl 54):List AV).getD k_ AV.undef) h2 fJ fl o! (dz _ _ aH) oz3 (ok_one trivial) (by first | omega | (simp<;>omega)) (bG.slice o!)
 have ZQ:aQ h5 zo6 (dI l_ q set l_.length 0 ([(⟨0,q.af,q.ab⟩:cu)])):=bu.rows Sn o! M'
 have ad0:=ZQ.small
 have iP:Has h h5:=Jk
 have e:cG q l_ set=(dI l_ q set l_.length 0 ([(⟨0,q.af,q.ab⟩:cu)])):=by simp only[cG,aj,ai]
 rw[e]
 have oz:=bu.le (h0:=h) Sn o!
 exact ⟨zo6,gH rfl (a_ Try.func26 OJ rfl (.inr rfl) (pk (d+1) _ _ h _ h5 (NN bD (fun i=>(Pt i))<|CN 2<|MM (aB 23 1 (AV.agg [(Zi q.af),(Zi q.ab)]) aH k!)<|CC<|NN iQ (fun i=>(AV.slice i 0 1 1 false))<|CN 2<|LL fO<|CN 2<|ZZ) k!) k!) bH ⟨jJ,iP,by omega⟩ (P:=fun hh=>aQ hh zo6 (dI l_ q set l_.length 0 ([(⟨0,q.af,q.ab⟩:cu)]))∧bu h hh zo6 (dI l_ q set l_.length 0 ([(⟨0,q.af,q.ab⟩:cu)]))) ⟨bu.rows oz (by first | omega | decide) M',oz⟩ fun v=>⟨bu.xa oz v,bu.s_ oz v⟩⟩
def zJ:Code:=(Try.f24.body).getD .skip
theorem Sp:Try.f24.body=some zJ:=by kernel_rfl
def Lb:Code:=(ck zJ).getD 0 .skip
def qt (set:Int):Nat→Nat→Int→Int
 | 0,_,iS=>iS
 | dS+1,i0,iS=>qt set dS (i0+1) (IntKind.i64.wrap (iS+(ah .i64 (au .i64 set ((i0:Nat):Int)) 1)))
theorem zK {d:Nat} {h:aw} (set:Int):∀(k_ i_:Nat) (iS:Int) (_:i_+k_=(Int.toNat 8)) (x:Nat→AV) (hh:aw) (aL:Tidy hh) (aX:Has h hh),gN (cJ (d)) Lb ⟨((Zi set)::(x 1)::(x 2)::(Zi iS)::(Zn i_)::rx x 5 11 []),hh,[],.no⟩ (.exit 0) hh (fun r y=>((Zi set)::(y 1)::(y 2)::(Zi r)::rx y 4 12 [])) (fun r=>True) (qt set k_ i_ iS)
 | 0,i0,iS,jZ,x,hh,aL,aX=>by
   have q1:(decide (((i0:Nat):Int)<8))=false:=d!
   exact gN.out iS rfl (pk (d) _ _ hh _ hh (CC<|VV (bz 3 false true .i64 ((i0:Nat):Int) 8)<|BB q1<|ZZ) k!) (Grow.refl aL) trivial k!
 | dS+1,i0,iS,jZ,x,hh,aL,aX=>by
   have q1:(decide (((i0:Nat):Int)<8))=true:=d!
   have u2:cD env .shr 3 false false (some (Zi set)) (some (Zn i0))=some (Zi (au .i64 set ((i0:Nat):Int))):=mh 3 false false .i64 .i64 o!
   have u3:cD env .and 3 false true (some (Zi (au .i64 set ((i0:Nat):Int)))) (some (Zi 1))=some (Zi (ah .i64 (au .i64 set ((i0:Nat):Int)) 1)):=jR 3 false true .i64 (au .i64 set ((i0:Nat):Int)) 1
   have u4:=eR 3 false true i0 1 o!
   exact gN.round (by simp only[qt,aj,ai]) (pk (d) _ _ hh _ hh (CC<|VV (bz 3 false true .i64 ((i0:Nat):Int) 8)<|BB q1<|CN 3<|VV u2<|VV u3<|CN 3<|VV u4<|CC<|ZZ) k!) (Grow.refl aL) _ k! (fun x=>zK set dS (i0+1) (IntKind.i64.wrap (iS+(ah .i64 (au .i64 set ((i0:Nat):Int)) 1))) o! x hh aL aX)
def jS (set:Int):Int:=(qt set (Int.toNat 8) 0 0)
theorem Jl {d:Nat} {h:aw} (set:Int) (bH:Tidy h):cJ (d+1) (.fn 24) [(Zi set)] h= .ret (Zi (jS set)) h:=by
 obtain ⟨yl1,h2,B8,B9,ad1⟩:=zK (d:=d) (h:=h) set (Int.toNat 8) 0 0 o! (fun k_=>(((Zi set)::AV.undef::(Zi 0)::(Zi 0)::(Zi 0)::jl 11):List AV).getD k_ AV.undef) h bH (Has.refl _)
 have fJ:=B9.y
 have Jm:h.nx≤h2.nx:=B9.n
 have fl:Has h h2:=B9.a
 have e:jS set=(qt set (Int.toNat 8) 0 0):=by simp only[jS,aj,ai]
 rw[e]
 exact az rfl (a_ Try.func24 Sp rfl (.inr rfl) (pk (d) _ _ h _ h2 (CN 3<|LL B8<|CN 2<|ZZ) k!) k!) fl rfl
theorem jq (l:List Span):∀(k i:Nat) (o:List Span) (p:Bool) (a b:Int),(aZ l k i o p a b).1.length+(bif (aZ l k i o p a b).2.1 then 0 else 1)≤o.length+k+(bif p then 0 else 1)
 | 0,i,o,p,a,b=>by simp [aZ]
 | k+1,i,o,p,a,b=>by
   rw[aZ]
   cases decide (IntKind.i64.wrap ((l.g i).aF+1)<a) with
   | true=>
     have:=jq l k (i+1) (o++[l.g i]) p a b
     rw[List.length_append,List.length_cons,List.length_nil] at this
     simp only[aj];omega
   | false=>
     cases decide (IntKind.i64.wrap (b+1)<(l.g i).aP) with
     | false=>
       have:=jq l k (i+1) o p (yK a (l.g i).aP) (imax b (l.g i).aF)
       simp only[ai];omega
     | true=>
       cases p with
       | false=>
         have:=jq l k (i+1) ((o++[(⟨a,b⟩:Span)])++[l.g i]) true a b
         simp only[List.length_append,List.length_cons,List.length_nil,aj] at this
         simp only[aj,ai,Bool.not_false];omega
       | true=>
         have:=jq l k (i+1) (o++[l.g i]) true a b
         simp only[List.length_append,List.length_cons,List.length_nil,aj] at this
         simp only[aj,ai,Bool.not_true];omega
theorem Gj (l:List Span) (x:Span):(jo l x).length≤l.length+1:=by
 have:=jq l l.length 0 [] false x.aP x.aF
 rw[jo]
 cases h:(aZ l l.length 0 ([]:List Span) false x.aP x.aF).2.1<;>rw[h] at this<;>simp only[Bool.not_false,Bool.not_true,aj,ai,List.length_append,List.length_cons,List.length_nil] at this ⊢ <;>omega
theorem vK {n:Int} (h0:0≤n) (h:n≤8):0≤eB .i64 1 n∧eB .i64 1 n≤256:=by
 obtain ⟨k,rfl⟩:∃k:Nat,n=k:=⟨n.toNat,by omega⟩
 have hk:k≤8:=by omega
 have:∀k:Nat,k<9→0≤eB .i64 1 (k:Nat)∧eB .i64 1 (k:Nat)≤256:=by decide+kernel
 exact this k o!
theorem oW (l:List aM) (q:ay) (s:Int):∀(k i:Nat) (v:List cu),v.length≤(dI l q s k i v).length
 | 0,_,_=>Nat.le_refl _
 | k+1,i,v=>by
   rw[dI]
   cases qp s (l.g i).aN with
   | true=>exact oW l q s k (i+1) v
   | false=>exact Nat.le_trans (by rw[List.length_append];exact Nat.le_add_right _ _) (oW l q s k (i+1) _)
theorem ug (q:ay) (l:List aM) (s:Int):0<(cG q l s).length:=Nat.lt_of_lt_of_le Nat.one_pos (oW l q s l.length 0 [(⟨0,q.af,q.ab⟩:cu)])
def rK:Code:=(Try.f20.body).getD .skip
theorem Gk:Try.f20.body=some rK:=by kernel_rfl
def B':Code:=(ck rK).getD 0 .skip
def cy (q:ay) (l_:List aM) (t:Int):Nat→Nat→List Span→List Span
 | 0,_,iz=>iz
 | dS+1,i0,iz=>(bif (decide (q.bad<(jS ((i0:Nat):Int)))) then cy q l_ t dS (i0+1) iz else (bif (fC q (cG q l_ ((i0:Nat):Int))) then cy q l_ t dS (i0+1) (jo iz (oS q (cG q l_ ((i0:Nat):Int)) t)) else cy q l_ t dS (i0+1) iz))
theorem lh {d:Nat} {h:aw} (dB:AV) (t:Int) (q:ay) (l_:List aM) (cC:Nat) (bI:aQ h dB l_) (eO:q.name.length<2^60) (kP:aQ h q.ao q.ar) (ma:aA.ok h q) (rh:∀i,i<l_.length→0≤(l_.g i).aN∧(l_.g i).aN<(q.ar.length:Int)) (OL:l_.length≤64) (ZR:q.ar.length≤8) (bH:Tidy h) (rX:h.nx≤cC):∀(k_ i_:Nat) (iz:List Span) (rq:AV) (_:i_+k_=(eB .i64 1 ((q.ar.length:Nat):Int)).toNat) (_:(List.length iz≤i_)) (x:Nat→AV) (hh:aw) (aL:Tidy hh) (aX:Has h hh) (gI:h.nx≤hh.nx) (bJ:hh.get cC=some (aY.cells [(AV.str q.name),(Zi q.af),(Zi q.ab),(Zi q.aC),(Zi q.aD),(Zi q.bad),q.ao] 26 false)) (qq:bu h hh rq iz) (mJ:∀y∈iz,aA.ok hh y) (Jj:iz.length≤i_) (ei:bG rq cC),cP (σ:=List Span) (ζ:=AV) (cJ (d+2)) B' ⟨((x 0)::dB::(Zi t)::(Pt cC)::rx x 4 3 (rq::(Zn i_)::rx x 9 28 [])),hh,[],.no⟩ (.exit 0) hh (fun r z y=>((y 0)::dB::(Zi t)::(Pt cC)::rx y 4 3 (z::rx y 8 29 []))) (fun r z hk=>Has h hk∧hk.get cC=some (aY.cells [(AV.str q.name),(Zi q.af),(Zi q.ab),(Zi q.aC),(Zi q.aD),(Zi q.bad),q.ao] 26 false)∧bu h hk z r∧(∀y∈r,aA.ok hk y)∧r.length≤(eB .i64 1 ((q.ar.length:Nat):Int)).toNat∧bG z cC∧(List.length r≤(eB .i64 1 ((q.ar.length:Nat):Int)).toNat)) (cy q l_ t k_ i_ iz)
 | 0,i0,iz,rq,jZ,Gl,x,hh,aL,aX,gI,bJ,qq,mJ,Jj,ei=>by
   have fN:=bI.small
   have rj:=kP.small
   have pP:=aL _ _ bJ
   have sb_:=vK (n:=(q.ar.length:Int)) o! o!
   have Sq:aQ hh rq iz:=bu.rows qq o! mJ
   have ie:dw (some (.slice 63)) (some q.ao)=some (Zn q.ar.length):=kP.len
   have u2:cD env .shl 3 true false (some (Zi 1)) (some (Zn q.ar.length))=some (Zi (eB .i64 1 ((q.ar.length:Nat):Int))):=tf 3 true false .i64 .i64 o!
   have q3:(decide (((i0:Nat):Int)<(eB .i64 1 ((q.ar.length:Nat):Int))))=false:=d!
   exact cP.out iz rq rfl (pk (d+2) _ _ hh _ hh (CN 2<|MM (aB 24 6 q.ao bJ k!)<|VV ie<|VV u2<|VV (bz 3 false false .i64 ((i0:Nat):Int) (eB .i64 1 ((q.ar.length:Nat):Int)))<|BB q3<|ZZ) k!) aL o! ⟨aX,bJ,qq,mJ,(by first | omega | (simp<;>omega)),ei,(show (List.length iz≤(eB .i64 1 ((q.ar.length:Nat):Int)).toNat) from (by first | omega | exact Nat.le_refl _))⟩ k!
 | dS+1,i0,iz,rq,jZ,Gl,x,hh,aL,aX,gI,bJ,qq,mJ,Jj,ei=>by
   have fN:=bI.small
   have rj:=kP.small
   have pP:=aL _ _ bJ
   have sb_:=vK (n:=(q.ar.length:Int)) o! o!
   have Sq:aQ hh rq iz:=bu.rows qq o! mJ
   have ie:dw (some (.slice 63)) (some q.ao)=some (Zn q.ar.length):=kP.len
   have u2:cD env .shl 3 true false (some (Zi 1)) (some (Zn q.ar.length))=some (Zi (eB .i64 1 ((q.ar.length:Nat):Int))):=tf 3 true false .i64 .i64 o!
   have q3:(decide (((i0:Nat):Int)<(eB .i64 1 ((q.ar.length:Nat):Int))))=true:=d!
   have k4:=Jl (d:=d+1) ((i0:Nat):Int) aL
   rcases Bool.eq_false_or_eq_true (decide (q.bad<(jS ((i0:Nat):Int)))) with f1 | f1
   · have iK:=of_decide_eq_true f1
     have u6:=eR 3 false true i0 1 o!
     exact cP.round (by simp only[cy,f1,aj,ai]) (pk (d+2) _ _ hh _ hh (CN 2<|MM (aB 24 6 q.ao bJ k!)<|VV ie<|VV u2<|VV (bz 3 false false .i64 ((i0:Nat):Int) (eB .i64 1 ((q.ar.length:Nat):Int)))<|BB q3<|CN 2<|MM (aB 3 5 (Zi q.bad) bJ k!)<|EE k4<|VV (bW 3 false false .i64 (jS ((i0:Nat):Int)) q.bad)<|HH (aB 3 5 (Zi q.bad) bJ k!)<|HH (show AV.same 20 (Zi q.bad) (Zi q.bad)=true from aG 19 _ _)<|HH (aB 3 5 (Zi q.bad) bJ k!)<|HH (show AV.same 20 (Zi q.bad) (Zi q.bad)=true from aG 19 _ _)<|BC f1<|VV u6<|CC<|ZZ) k!) o! _ k! (fun x=>lh dB t q l_ cC bI eO kP ma rh OL ZR bH rX dS (i0+1) iz rq o! (show (List.length iz≤(i0+1)) from (by first | omega | exact Nat.le_refl _)) x hh aL aX o! bJ qq mJ (by first | omega | (simp<;>omega)) ei)
   · have iK:=of_decide_eq_false f1
     obtain ⟨z6,h8,Gm,rY,fz7,afe⟩:=Ef (d:=d) q l_ ((i0:Nat):Int) (aA.mono aX ma) (bI.has aX) (by first | omega | assumption | (simp only[List.length_set,List.length_replicate,List.length_append,List.length_cons,List.length_nil,List.nil_append]<;>omega) | (rw[List.length_take];omega)) (by first | omega | assumption | (simp only[List.length_set,List.length_replicate,List.length_append,List.length_cons,List.length_nil,List.nil_append]<;>omega) | (rw[List.length_take];omega)) aL
     have tg:=rY.y
     have Sr:hh.nx≤h8.nx:=rY.n
     have qu:Has h h8:=aX.trans rY.a
     have mQ:Has hh h8:=rY.a
     have acp:=fz7.small
     have acq:=ug q l_ ((i0:Nat):Int)
     have k9:=Eb (d:=d) q (cG q l_ ((i0:Nat):Int)) (aA.mono qu ma) fz7 tg
     rcases Bool.eq_false_or_eq_true (fC q (cG q l_ ((i0:Nat):Int))) with f2 | f2
     · have BL:=Zu (d:=d) q (cG q l_ ((i0:Nat):Int)) t (aA.mono qu ma) fz7 (by first | omega | assumption | (simp only[List.length_set,List.length_replicate,List.length_append,List.length_cons,List.length_nil,List.nil_append]<;>omega) | (rw[List.length_take];omega)) tg
       obtain ⟨z12,I',Ss,Eh,acr,Su⟩:=K9 (d:=d+1) iz (oS q (cG q l_ ((i0:Nat):Int)) t) (Sq.has mQ) trivial (by first | omega | assumption | (simp only[List.length_set,List.length_replicate,List.length_append,List.length_cons,List.length_nil,List.nil_append]<;>omega) | (rw[List.length_take];omega)) tg
       have xj:=Eh.y
       have acs:h8.nx≤I'.nx:=Eh.n
       have Ja:Has h I':=qu.trans Eh.a
       have Jc:Has hh I':=mQ.trans Eh.a
       have acu:Has h8 I':=Eh.a
       have aff:=acr.small
       have afg:=Gj iz (oS q (cG q l_ ((i0:Nat):Int)) t)
       have VZ:=eR 3 false true i0 1 o!
       exact cP.round (by simp only[cy,f1,f2,aj,ai]) (pk (d+2) _ _ hh _ I' (CN 2<|MM (aB 24 6 q.ao bJ k!)<|VV ie<|VV u2<|VV (bz 3 false false .i64 ((i0:Nat):Int) (eB .i64 1 ((q.ar.length:Nat):Int)))<|BB q3<|CN 2<|MM (aB 3 5 (Zi q.bad) bJ k!)<|EE k4<|VV (bW 3 false false .i64 (jS ((i0:Nat):Int)) q.bad)<|HH (aB 3 5 (Zi q.bad) bJ k!)<|HH (show AV.same 20 (Zi q.bad) (Zi q.bad)=true from aG 19 _ _)<|HH (aB 3 5 (Zi q.bad) bJ k!)<|HH (show AV.same 20 (Zi q.bad) (Zi q.bad)=true from aG 19 _ _)<|BM f1 (aB 26 0 (AV.agg [(AV.str q.name),(Zi q.af),(Zi q.ab),(Zi q.aC),(Zi q.aD),(Zi q.bad),q.ao]) bJ k!)<|CN 2<|EE Gm<|CC<|MM (aB 26 0 (AV.agg [(AV.str q.name),(Zi q.af),(Zi q.ab),(Zi q.aC),(Zi q.aD),(Zi q.bad),q.ao]) (rY.a _ _ bJ) k!)<|CC<|EE k9<|BC f2<|MM (aB 26 0 (AV.agg [(AV.str q.name),(Zi q.af),(Zi q.ab),(Zi q.aC),(Zi q.aD),(Zi q.bad),q.ao]) (rY.a _ _ bJ) k!)<|CN 2<|EE BL<|EE Ss<|CN 2<|VV VZ<|CC<|ZZ) k!) o! _ k! (fun x=>lh dB t q l_ cC bI eO kP ma rh OL ZR bH rX dS (i0+1) (jo iz (oS q (cG q l_ ((i0:Nat):Int)) t)) z12 o! (show (List.length (jo iz (oS q (cG q l_ ((i0:Nat):Int)) t))≤(i0+1)) from (by first | omega | exact Nat.le_refl _)) x I' xj Ja o! (Eh.a _ _ (rY.a _ _ bJ)) (bu.le (h0:=h) Su o!) (acr.Pp) (by first | omega | (simp<;>omega)) (by first | exact bu.Zo Su o! | exact bu.B3 xj Su o!))
     · have Hj:=eR 3 false true i0 1 o!
       exact cP.round (by simp only[cy,f1,f2,aj,ai]) (pk (d+2) _ _ hh _ h8 (CN 2<|MM (aB 24 6 q.ao bJ k!)<|VV ie<|VV u2<|VV (bz 3 false false .i64 ((i0:Nat):Int) (eB .i64 1 ((q.ar.length:Nat):Int)))<|BB q3<|CN 2<|MM (aB 3 5 (Zi q.bad) bJ k!)<|EE k4<|VV (bW 3 false false .i64 (jS ((i0:Nat):Int)) q.bad)<|HH (aB 3 5 (Zi q.bad) bJ k!)<|HH (show AV.same 20 (Zi q.bad) (Zi q.bad)=true from aG 19 _ _)<|HH (aB 3 5 (Zi q.bad) bJ k!)<|HH (show AV.same 20 (Zi q.bad) (Zi q.bad)=true from aG 19 _ _)<|BM f1 (aB 26 0 (AV.agg [(AV.str q.name),(Zi q.af),(Zi q.ab),(Zi q.aC),(Zi q.aD),(Zi q.bad),q.ao]) bJ k!)<|CN 2<|EE Gm<|CC<|MM (aB 26 0 (AV.agg [(AV.str q.name),(Zi q.af),(Zi q.ab),(Zi q.aC),(Zi q.aD),(Zi q.bad),q.ao]) (rY.a _ _ bJ) k!)<|CC<|EE k9<|BC f2<|VV Hj<|CC<|ZZ) k!) o! _ k! (fun x=>lh dB t q l_ cC bI eO kP ma rh OL ZR bH rX dS (i0+1) iz rq o! (show (List.length iz≤(i0+1)) from (by first | omega | exact Nat.le_refl _)) x h8 tg qu o! (rY.a _ _ bJ) (bu.has qq mQ) (dG (D:=Span) mJ) (by first | omega | (simp<;>omega)) ei)
def eT (q:ay) (l_:List aM) (t:Int):List Span:=(cy q l_ t (eB .i64 1 ((q.ar.length:Nat):Int)).toNat 0 ([]:List Span))
theorem Gn {d:Nat} {h:aw} {dB:AV} (q:ay) (l_:List aM) (t:Int) (eP:aA.ok h q) (eY:aQ h dB l_) (jP:∀i,i<l_.length→0≤(l_.g i).aN∧(l_.g i).aN<(q.ar.length:Int)) (OM:l_.length≤64) (Wa:q.ar.length≤8) (bH:Tidy h):∃z hk,cJ (d+3) (.fn 20) [(AV.agg [(AV.str q.name),(Zi q.af),(Zi q.ab),(Zi q.aC),(Zi q.aD),(Zi q.bad),q.ao]),dB,(Zi t)] h= .ret z hk∧Grow h hk∧aQ hk z (eT q l_ t)∧bu h hk z (eT q l_ t):=by
 have oP:=eY.small
 have fW:=eP.2.small
 obtain ⟨h1,bD,bN,fX,aH,bZ⟩:=gu bH (aY.cells [(AV.str q.name),(Zi q.af),(Zi q.ab),(Zi q.aC),(Zi q.aD),(Zi q.bad),q.ao] 26 false)
 have bk:Has h h1:=bZ
 obtain ⟨Up,OH,h3,fi,eZ,qn,oU,oV,Sv,Na,afh,Pz,Nb⟩:=lh (d:=d) (h:=h) dB t q l_ h.nx eY eP.1 eP.2 eP jP o! o! bH o! (eB .i64 1 ((q.ar.length:Nat):Int)).toNat 0 ([]:List Span) AV.aK o! (show (List.length ([]:List Span)≤0) from (by first | omega | exact Nat.le_refl _)) (fun k_=>(((AV.agg [(AV.str q.name),(Zi q.af),(Zi q.ab),(Zi q.aC),(Zi q.aD),(Zi q.bad),q.ao])::dB::(Zi t)::(Pt h.nx)::AV.undef::AV.undef::AV.aK::AV.aK::(Zi 0)::jl 28):List AV).getD k_ AV.undef) h1 bN bk o! aH (.inl ⟨.inl rfl,rfl⟩) (fun y hy=>by cases hy) (Nat.zero_le _) (bG.nil _)
 have Sw:=vK (n:=(q.ar.length:Int)) o! o!
 have ZS:aQ h3 Up (cy q l_ t (eB .i64 1 ((q.ar.length:Nat):Int)).toNat 0 ([]:List Span)):=bu.rows Sv o! Na
 have ad2:=ZS.small
 have fu:Has h h3:=oU
 have e:eT q l_ t=(cy q l_ t (eB .i64 1 ((q.ar.length:Nat):Int)).toNat 0 ([]:List Span)):=by simp only[eT,aj,ai]
 rw[e]
 have oz:=bu.le (h0:=h) Sv o!
 exact ⟨Up,gH rfl (a_ Try.func20 Gk rfl (.inr rfl) (pk (d+2) _ _ h _ h3 (NN bD (fun i=>(Pt i))<|CN 3<|LL fi<|CN 2<|ZZ) k!) k!) bH ⟨eZ,fu,by omega⟩ (P:=fun hh=>aQ hh Up (cy q l_ t (eB .i64 1 ((q.ar.length:Nat):Int)).toNat 0 ([]:List Span))∧bu h hh Up (cy q l_ t (eB .i64 1 ((q.ar.length:Nat):Int)).toNat 0 ([]:List Span))) ⟨bu.rows oz (by first | omega | decide) Na,oz⟩ fun v=>⟨bu.xa oz v,bu.s_ oz v⟩⟩
theorem lA {c:Bool} {a b:Int} (ha:a≠0) (h:(bif c then a else b)=0):c=false∧b=0:=by
 cases c with
 | true=>exact absurd h ha
 | false=>exact ⟨rfl,h⟩
theorem Ca (q:ay) (l:List aM):∀(k i:Nat) (v:Int),v≠0→bT q l k i v=v
 | 0,_,_,_=>rfl
 | k+1,i,v,h=>by rw[bT,decide_eq_false h];rfl
theorem vM (q:ay) (l:List aM):∀(k i:Nat) (v:Int),bT q l k i v=0→v=0∧∀j,i≤j→j<i+k→ch q (l.g j)=0
 | 0,i,v,h=>⟨h,fun j a b=>by omega⟩
 | k+1,i,v,h=>by
   rw[bT] at h
   by_cases e:v=0
   · rw[decide_eq_true e,aj] at h
     obtain ⟨h1,h2⟩:=vM q l k (i+1) _ h
     refine ⟨e,fun j a b=>?_⟩
     by_cases ej:j=i
     · rw[ej];exact h1
     · exact h2 j o! o!
   · rw[decide_eq_false e] at h;exact absurd h e
theorem Lc {q:ay} (h:aE q=0):q.ar.length≤8:=by
 rw[aE] at h
 obtain ⟨_,h⟩:=lA (by decide) h
 obtain ⟨_,h⟩:=lA (by decide) h
 obtain ⟨_,h⟩:=lA (by decide) h
 obtain ⟨_,h⟩:=lA (by decide) h
 obtain ⟨_,h⟩:=lA (by decide) h
 obtain ⟨_,h⟩:=lA (by decide) h
 obtain ⟨_,h⟩:=lA (by decide) h
 obtain ⟨_,h⟩:=lA (by decide) h
 obtain ⟨h1,_⟩:=lA (by decide) h
 have:=of_decide_eq_false h1
 omega
theorem fR {q:ay} {l:List aM} (h:aO q l=0):(∀i,i<l.length→0≤(l.g i).aN∧(l.g i).aN<(q.ar.length:Int))∧l.length≤64∧q.ar.length≤8:=by
 rw[aO] at h
 by_cases e:aE q=0
 · rw[decide_eq_true e,aj] at h
   by_cases e2:(64:Int)<((l.length:Nat):Int)
   · rw[decide_eq_true e2,aj] at h
     exact absurd (vM q l _ _ _ h).1 (by decide)
   · rw[decide_eq_false e2,ai] at h
     refine ⟨fun i hi=>?_,by omega,Lc e⟩
     have k:=(vM q l _ _ _ h).2 i (Nat.zero_le _) o!
     rw[ch] at k
     obtain ⟨k1,k⟩:=lA (by decide) k
     obtain ⟨k2,_⟩:=lA (by decide) k
     have:=of_decide_eq_false k1;have:=of_decide_eq_false k2
     omega
 · rw[decide_eq_false e,ai] at h
   exact absurd (vM q l _ _ _ h).1 e
def Aj:Code:=(Try.f7.body).getD .skip
theorem ru:Try.f7.body=some Aj:=by kernel_rfl
def b7 (q:ay) (l_:List aM) (t:Int):List Span×Int:=(bif (decide ((aO q l_)=0)) then (bif (!(cT t)) then ([],1) else ((eT q l_ t),0)) else ([],(aO q l_)))
theorem Gp {d:Nat} {h:aw} {dB:AV} (q:ay) (l_:List aM) (t:Int) (eP:aA.ok h q) (eY:aQ h dB l_) (bH:Tidy h):∃z0 hk,cJ (d+5) (.fn 7) [(AV.agg [(AV.str q.name),(Zi q.af),(Zi q.ab),(Zi q.aC),(Zi q.aD),(Zi q.bad),q.ao]),dB,(Zi t)] h= .ret (AV.tuple [z0,(Zi (b7 q l_ t).2)]) hk∧Grow h hk∧(aQ hk z0 ((b7 q l_ t).1)∧bu h hk z0 (b7 q l_ t).1):=by
 have oP:=eY.small
 have fW:=eP.2.small
 obtain ⟨h1,bD,bN,fX,aH,bZ⟩:=gu bH (aY.cells [(AV.str q.name),(Zi q.af),(Zi q.ab),(Zi q.aC),(Zi q.aD),(Zi q.bad),q.ao] 26 false)
 have bk:Has h h1:=bZ
 have k2:=jB (d:=d) q l_ (aA.mono bk eP) (eY.has bk) bN
 rcases Bool.eq_false_or_eq_true (decide ((aO q l_)=0)) with f0 | f0
 · have ir:=of_decide_eq_true f0
   have k4:=uf (d:=d+3) t bN
   rcases Bool.eq_false_or_eq_true (!(cT t)) with f1 | f1
   · have e:b7 q l_ t=([],1):=by simp only[b7,f0,f1,aj,ai]
     rw[e]
     have nV:bu h h1 AV.aK ([]:List Span):= .inl ⟨.inl rfl,rfl⟩
     exact ⟨AV.aK,gH rfl (a_ Try.func7 ru rfl (.inr rfl) (pk (d+4) _ _ h _ h1 (NN bD (fun i=>(Pt i))<|CN 2<|MM (aB 26 0 (AV.agg [(AV.str q.name),(Zi q.af),(Zi q.ab),(Zi q.aC),(Zi q.aD),(Zi q.bad),q.ao]) aH k!)<|CC<|EE k2<|CN 2<|VV (fh 31 false true .i64 (aO q l_) 0)<|CC<|BC f0<|BB f0<|EE k4<|BC f0<|VV (jA (!(cT t)) false f0)<|BB f1<|CN 3<|TT<|CN 3<|ZZ) k!) k!) bH ⟨bN,bk,by omega⟩ (P:=fun hh=>(aQ hh AV.aK ([]:List Span)∧bu h hh AV.aK ([]:List Span))) ⟨bu.rows nV (by first | omega | decide) (fun y hy=>by cases hy),nV⟩ fun v=>⟨bu.xa nV (kZ v (by simp)),bu.s_ nV (kZ v (by simp))⟩⟩
   · have q6:(!decide ((aO q l_)=0))=false:=d!
     obtain ⟨z7,h9,Di,ke,fz8,acv⟩:=Gn (d:=d+1) q l_ t (aA.mono bk eP) (eY.has bk) (by first | omega | exact (fR (by assumption)).1 | exact (fR (by assumption)).2.1 | exact (fR (by assumption)).2.2) (by first | omega | exact (fR (by assumption)).1 | exact (fR (by assumption)).2.1 | exact (fR (by assumption)).2.2) (by first | omega | exact (fR (by assumption)).1 | exact (fR (by assumption)).2.1 | exact (fR (by assumption)).2.2) bN
     have uw:=ke.y
     have Zg:h1.nx≤h9.nx:=ke.n
     have s6:Has h h9:=bk.trans ke.a
     have acw:=fz8.small
     have e:b7 q l_ t=((eT q l_ t),0):=by simp only[b7,f0,f1,aj,ai]
     rw[e]
     have nV:bu h h9 z7 (eT q l_ t):=bu.le (h0:=h) acv o!
     exact ⟨z7,gH rfl (a_ Try.func7 ru rfl (.inr rfl) (pk (d+4) _ _ h _ h9 (NN bD (fun i=>(Pt i))<|CN 2<|MM (aB 26 0 (AV.agg [(AV.str q.name),(Zi q.af),(Zi q.ab),(Zi q.aC),(Zi q.aD),(Zi q.bad),q.ao]) aH k!)<|CC<|EE k2<|CN 2<|VV (fh 31 false true .i64 (aO q l_) 0)<|CC<|BC f0<|BB f0<|EE k4<|BC f0<|VV (jA (!(cT t)) false f0)<|BC f1<|VV (eh 31 false true .i64 (aO q l_) 0)<|BM q6 (aB 26 0 (AV.agg [(AV.str q.name),(Zi q.af),(Zi q.ab),(Zi q.aC),(Zi q.aD),(Zi q.bad),q.ao]) aH k!)<|CN 2<|EE Di<|CN 2<|ZZ) k!) k!) bH ⟨uw,s6,by omega⟩ (P:=fun hh=>(aQ hh z7 (eT q l_ t)∧bu h hh z7 (eT q l_ t))) ⟨bu.rows nV (by first | omega | decide) (fz8.Pp),nV⟩ fun v=>⟨bu.xa nV (kZ v (by simp)),bu.s_ nV (kZ v (by simp))⟩⟩
 · have ir:=of_decide_eq_false f0
   have q4:(!decide ((aO q l_)=0))=true:=d!
   have e:b7 q l_ t=([],(aO q l_)):=by simp only[b7,f0,aj,ai]
   rw[e]
   have nV:bu h h1 AV.aK ([]:List Span):= .inl ⟨.inl rfl,rfl⟩
   exact ⟨AV.aK,gH rfl (a_ Try.func7 ru rfl (.inr rfl) (pk (d+4) _ _ h _ h1 (NN bD (fun i=>(Pt i))<|CN 2<|MM (aB 26 0 (AV.agg [(AV.str q.name),(Zi q.af),(Zi q.ab),(Zi q.aC),(Zi q.aD),(Zi q.bad),q.ao]) aH k!)<|CC<|EE k2<|CN 2<|VV (fh 31 false true .i64 (aO q l_) 0)<|CC<|BB f0<|BB f0<|BV f0 (pN false f0)<|FF<|CC<|VV (eh 31 false true .i64 (aO q l_) 0)<|BB q4<|CN 3<|ZZ) k!) k!) bH ⟨bN,bk,by omega⟩ (P:=fun hh=>(aQ hh AV.aK ([]:List Span)∧bu h hh AV.aK ([]:List Span))) ⟨bu.rows nV (by first | omega | decide) (fun y hy=>by cases hy),nV⟩ fun v=>⟨bu.xa nV (kZ v (by simp)),bu.s_ nV (kZ v (by simp))⟩⟩
def vN:Code:=(Try.f74.body).getD .skip
theorem Ak:Try.f74.body=some vN:=by kernel_rfl
def iv (o:bY) (c:bY):Bool:=(decide (o.name=c.name))
theorem Al {d:Nat} {h:aw} (o:bY) (c:bY) (cB:Nat) (h_o:aA.ok h o) (XK:aA.ok h c) (g_c:h.get cB=some (.cells (aA.c c) 63 false)) (bH:Tidy h):cJ (d+1) (.fn 74) [(AV.agg [(AV.str o.name),(Zi o.acc),(Zi o.bR),(Zi o.since)]),(Pt cB)] h= .ret (AV.bool (iv o c)) h:=by
 obtain ⟨h1,bD,bN,fX,aH,bZ⟩:=gu bH (aY.cells [(AV.str o.name),(Zi o.acc),(Zi o.bR),(Zi o.since)] 63 false)
 have bk:Has h h1:=bZ
 have e:iv o c=(decide (o.name=c.name)):=by simp only[iv,aj,ai]
 rw[e]
 exact az rfl (a_ Try.func74 Ak rfl (.inr rfl) (pk (d) _ _ h _ h1 (NN bD (fun i=>(Pt i))<|CN 2<|MM (aB 9 0 (AV.str o.name) aH k!)<|CC<|MM (aB 9 0 (AV.str c.name) (bZ _ _ g_c) k!)<|VV (IL 9 false false o.name c.name)<|CC<|ZZ) k!) k!) bk rfl
def pB:Code:=(Try.f82.body).getD .skip
theorem th:Try.f82.body=some pB:=by kernel_rfl
def yQ:Code:=(ck pB).getD 0 .skip
def ep (s:List bY) (P:bY→Bool):Nat→Nat→Option (Int)
 | 0,_=>none
 | dS+1,i0=>(bif (P (s.g i0)) then some ((i0:Nat):Int) else ep s P dS (i0+1))
theorem mi {d:Nat} {h:aw} (sV:AV) (g:FuncId) (cap:List AV) (s:List bY) (P:bY→Bool) (bI:aQ h sV s) (hP:∀y∈s,∀hh,Tidy hh→Has h hh→cJ d (.fn g) (.agg (aA.c y)::cap) hh= .ret (.bool (P y)) hh):∀(k_ i_:Nat) (_:i_+k_=s.length) (x:Nat→AV) (hh:aw) (aL:Tidy hh) (aX:Has h hh),aU (cJ (d)) yQ ⟨(sV::(AV.func g [] cap)::rx x 2 5 ((Zn s.length)::(Zn i_)::rx x 9 10 [])),hh,[],.no⟩ (.exit 0) hh (fun y=>(sV::(AV.func g [] cap)::rx y 2 5 ((Zn s.length)::rx y 8 11 []))) (fun r y=>(sV::(AV.func g [] cap)::(y 2)::(y 3)::(Zi r)::(y 5)::(y 6)::(Zn s.length)::rx y 8 11 [])) (ep s P k_ i_)
 | 0,i0,jZ,x,hh,aL,aX=>by
   have fN:=bI.small
   have q1:(decide (((i0:Nat):Int)<((s.length:Nat):Int)))=false:=d!
   exact aU.out rfl (pk (d) _ _ hh _ hh (VV (bz 3 false false .i64 ((i0:Nat):Int) ((s.length:Nat):Int))<|BB q1<|ZZ) k!) (Grow.refl aL) k!
 | dS+1,i0,jZ,x,hh,aL,aX=>by
   have fN:=bI.small
   have q1:(decide (((i0:Nat):Int)<((s.length:Nat):Int)))=true:=d!
   obtain ⟨p3,q4,kO⟩:=(bI.has aX).elem (i:=i0) o!
   have nI:di env (some (.slice 63)) (some sV) (some (Zn i0))=some (AV.ptr p3 q4):=kO
   have xh:bA env hh 63 (AV.ptr p3 q4)=some (AV.agg [(AV.str (s.g i0).name),(Zi (s.g i0).acc),(Zi (s.g i0).bR),(Zi (s.g i0).since)]):=(bI.has aX).load o! kO
   have k6:=hP (s.g i0) (oM o!) hh aL aX
   rcases Bool.eq_false_or_eq_true (P (s.g i0)) with f1 | f1
   · exact aU.ret ((i0:Nat):Int) (by simp only[ep,f1,aj,ai]) (pk (d) _ _ hh _ hh (VV (bz 3 false false .i64 ((i0:Nat):Int) ((s.length:Nat):Int))<|BB q1<|CN 5<|VV nI<|MM xh<|EE k6<|BB f1<|CN 2<|ZZ) k!) (Grow.refl aL) k!
   · have u8:=eR 3 false true i0 1 o!
     exact aU.round (by simp only[ep,f1,aj,ai]) (pk (d) _ _ hh _ hh (VV (bz 3 false false .i64 ((i0:Nat):Int) ((s.length:Nat):Int))<|BB q1<|CN 5<|VV nI<|MM xh<|EE k6<|BV f1 u8<|CC<|ZZ) k!) (Grow.refl aL) _ k! (fun x=>mi sV g cap s P bI hP dS (i0+1) o! x hh aL aX)
def fY (s:List bY) (P:bY→Bool):Int:=(match (ep s P s.length 0) with | none=>(-1) | some K4=>K4)
theorem Cb {d:Nat} {h:aw} {sV:AV} {g:FuncId} {cap:List AV} (s:List bY) (P:bY→Bool) (AI:aQ h sV s) (hP:∀y∈s,∀hh,Tidy hh→Has h hh→cJ d (.fn g) (.agg (aA.c y)::cap) hh= .ret (.bool (P y)) hh) (bH:Tidy h):cJ (d+1) (.fn 82) [sV,(AV.func g [] cap)] h= .ret (Zi (fY s P)) h:=by
 have Nc:=AI.small
 have ie:dw (some (.slice 63)) (some sV)=some (Zn s.length):=AI.len
 cases jf:ep s P s.length 0 with
 | none=>
   obtain ⟨OH,h3,fi,lz⟩:=aU.n jf (mi (d:=d) (h:=h) sV g cap s P AI hP s.length 0 o! (fun k_=>((sV::(AV.func g [] cap)::AV.undef::AV.undef::(Zi 0)::AV.undef::sV::(Zn s.length)::(Zi 0)::jl 10):List AV).getD k_ AV.undef) h bH (Has.refl _))
   have eZ:=lz.y
   have qn:h.nx≤h3.nx:=lz.n
   have fu:Has h h3:=lz.a
   have e:fY s P=(-1):=by simp only[fY,jf,aj,ai]
   rw[e]
   exact az rfl (a_ Try.func82 th rfl (.inr rfl) (pk (d) _ _ h _ h3 (CN 2<|VV ie<|CC<|LL fi<|CC<|ZZ) k!) k!) fu rfl
 | some K4=>
   obtain ⟨OH,h3,fi,lz⟩:=aU.r jf (mi (d:=d) (h:=h) sV g cap s P AI hP s.length 0 o! (fun k_=>((sV::(AV.func g [] cap)::AV.undef::AV.undef::(Zi 0)::AV.undef::sV::(Zn s.length)::(Zi 0)::jl 10):List AV).getD k_ AV.undef) h bH (Has.refl _))
   have eZ:=lz.y
   have qn:h.nx≤h3.nx:=lz.n
   have fu:Has h h3:=lz.a
   have e:fY s P=K4:=by simp only[fY,jf,aj,ai]
   rw[e]
   exact az rfl (a_ Try.func82 th rfl (.inr rfl) (pk (d) _ _ h _ h3 (CN 2<|VV ie<|CC<|LL fi<|ZZ) k!) k!) fu rfl
def ti:Code:=(Try.f73.body).getD .skip
theorem xm:Try.f73.body=some ti:=by kernel_rfl
def fb (s:List bY) (P:bY→Bool):Bool:=(decide (0≤(fY s P)))
theorem xn {d:Nat} {h:aw} {sV:AV} {g:FuncId} {cap:List AV} (s:List bY) (P:bY→Bool) (AI:aQ h sV s) (hP:∀y∈s,∀hh,Tidy hh→Has h hh→cJ d (.fn g) (.agg (aA.c y)::cap) hh= .ret (.bool (P y)) hh) (bH:Tidy h):cJ (d+2) (.fn 73) [sV,(AV.func g [] cap)] h= .ret (AV.bool (fb s P)) h:=by
 have Nc:=AI.small
 have k1:=Cb (d:=d) s P AI hP bH
 have e:fb s P=(decide (0≤(fY s P))):=by simp only[fb,aj,ai]
 rw[e]
 exact az rfl (a_ Try.func73 xm rfl (.inr rfl) (pk (d+1) _ _ h _ h (CN 3<|EE k1<|VV (eN 3 false true .i64 (fY s P) 0)<|CC<|ZZ) k!) k!) (Has.refl _) rfl
def Dj:Code:=(Try.f55.body).getD .skip
theorem Cc:Try.f55.body=some Dj:=by kernel_rfl
def dZ (x_:Int) (fZ:Int):Bool:=(bif (decide (0≤x_)) then (decide (x_≤fZ)) else false)
theorem mK {d:Nat} {h:aw} (x_:Int) (fZ:Int) (bH:Tidy h):cJ (d+1) (.fn 55) [(Zi x_),(Zi fZ)] h= .ret (AV.bool (dZ x_ fZ)) h:=by
 rcases Bool.eq_false_or_eq_true (decide (0≤x_)) with f0 | f0
 · have ir:=of_decide_eq_true f0
   have e:dZ x_ fZ=(decide (x_≤fZ)):=by simp only[dZ,f0,aj,ai]
   rw[e]
   exact az rfl (a_ Try.func55 Cc rfl (.inr rfl) (pk (d) _ _ h _ h (CN 2<|VV (eN 3 false true .i64 x_ 0)<|CC<|BC f0<|BC f0<|BV f0 (gR 3 false false .i64 x_ fZ)<|VV (jA (decide (x_≤fZ)) false f0)<|CC<|ZZ) k!) k!) (Has.refl _) rfl
 · have ir:=of_decide_eq_false f0
   have e:dZ x_ fZ=false:=by simp only[dZ,f0,aj,ai]
   rw[e]
   exact az rfl (a_ Try.func55 Cc rfl (.inr rfl) (pk (d) _ _ h _ h (CN 2<|VV (eN 3 false true .i64 x_ 0)<|CC<|BB f0<|BB f0<|BV f0 (pN false f0)<|CC<|ZZ) k!) k!) (Has.refl _) rfl
def Dk:Code:=(Try.f29.body).getD .skip
theorem Ld:Try.f29.body=some Dk:=by kernel_rfl
def cE (t:Int):Bool:=(dZ t 100000)
theorem oY {d:Nat} {h:aw} (t:Int) (bH:Tidy h):cJ (d+2) (.fn 29) [(Zi t)] h= .ret (AV.bool (cE t)) h:=by
 have k1:=mK (d:=d) t 100000 bH
 have e:cE t=(dZ t 100000):=by simp only[cE,aj,ai]
 rw[e]
 exact az rfl (a_ Try.func29 Ld rfl (.inr rfl) (pk (d+1) _ _ h _ h (CN 2<|EE k1<|CC<|ZZ) k!) k!) (Has.refl _) rfl
def Cd:Code:=(Try.f75.body).getD .skip
theorem tk:Try.f75.body=some Cd:=by kernel_rfl
def hQ (g:bY):Bool:=(bif (dZ g.acc 1000000000) then (bif (dZ g.bR 1000000000) then (cE g.since) else false) else false)
theorem Jn {d:Nat} {h:aw} (g:bY) (Zh:aA.ok h g) (bH:Tidy h):cJ (d+3) (.fn 75) [(AV.agg [(AV.str g.name),(Zi g.acc),(Zi g.bR),(Zi g.since)])] h= .ret (AV.bool (hQ g)) h:=by
 obtain ⟨h1,bD,bN,fX,aH,bZ⟩:=gu bH (aY.cells [(AV.str g.name),(Zi g.acc),(Zi g.bR),(Zi g.since)] 63 false)
 have bk:Has h h1:=bZ
 have k2:=mK (d:=d+1) g.acc 1000000000 bN
 rcases Bool.eq_false_or_eq_true (dZ g.acc 1000000000) with f0 | f0
 · have k4:=mK (d:=d+1) g.bR 1000000000 bN
   rcases Bool.eq_false_or_eq_true (dZ g.bR 1000000000) with f1 | f1
   · have k6:=oY (d:=d) g.since bN
     have e:hQ g=(cE g.since):=by simp only[hQ,f0,f1,aj,ai]
     rw[e]
     exact az rfl (a_ Try.func75 tk rfl (.inr rfl) (pk (d+2) _ _ h _ h1 (NN bD (fun i=>(Pt i))<|CN 2<|MM (aB 3 1 (Zi g.acc) aH k!)<|EE k2<|CC<|BC f0<|BM f0 (aB 3 2 (Zi g.bR) aH k!)<|BB f0<|EE k4<|VV (jA (dZ g.bR 1000000000) false f0)<|CC<|BC f1<|BM f1 (aB 3 3 (Zi g.since) aH k!)<|BB f1<|EE k6<|VV (jA (cE g.since) false f1)<|CC<|ZZ) k!) k!) bk rfl
   · have e:hQ g=false:=by simp only[hQ,f0,f1,aj,ai]
     rw[e]
     exact az rfl (a_ Try.func75 tk rfl (.inr rfl) (pk (d+2) _ _ h _ h1 (NN bD (fun i=>(Pt i))<|CN 2<|MM (aB 3 1 (Zi g.acc) aH k!)<|EE k2<|CC<|BC f0<|BM f0 (aB 3 2 (Zi g.bR) aH k!)<|BB f0<|EE k4<|VV (jA (dZ g.bR 1000000000) false f0)<|CC<|BB f1<|BB f1<|BV f1 (pN false f1)<|CC<|ZZ) k!) k!) bk rfl
 · have e:hQ g=false:=by simp only[hQ,f0,aj,ai]
   rw[e]
   exact az rfl (a_ Try.func75 tk rfl (.inr rfl) (pk (d+2) _ _ h _ h1 (NN bD (fun i=>(Pt i))<|CN 2<|MM (aB 3 1 (Zi g.acc) aH k!)<|EE k2<|CC<|BB f0<|BB f0<|BV f0 (pN false f0)<|CC<|FF<|FF<|FF<|CN 2<|ZZ) k!) k!) bk rfl
end
end Go.Proofs.aJ
