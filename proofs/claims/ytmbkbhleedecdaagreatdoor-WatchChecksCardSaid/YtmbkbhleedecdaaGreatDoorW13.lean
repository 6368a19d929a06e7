import Derived.Test.YtmbkbhleedecdaaGreatDoorW0
import Derived.Test.YtmbkbhleedecdaaGreatDoorW5
import Derived.Test.YtmbkbhleedecdaaGreatDoorW10
import Derived.Test.YtmbkbhleedecdaaGreatDoorW12
import Derived.Test.YtmbkbhleedecdaaGreatDoorW2
import Derived.Test.YtmbkbhleedecdaaGreatDoorW11
import Derived.Test.YtmbkbhleedecdaaGreatDoorW9
import Derived.Test.YtmbkbhleedecdaaGreatDoorW8
import Derived.Test.YtmbkbhleedecdaaGreatDoorA7
namespace Go.Proofs.aM
open Go.Proofs Ab
noncomputable section
set_option maxRecDepth 100000
set_option maxHeartbeats 4000000
set_option linter.unusedVariables false
set_option linter.unusedSimpArgs false
def tU:Code:=(Tryz.f4.body).getD .skip
theorem Sm:Tryz.f4.body=some tU:=by kernel_rfl
def K9:Code:=(b5 tU).getD 0 .skip
def K_:Code:=(b5 tU).getD 1 .skip
def jX (p:bO):Nat→Nat→Int→Int
 | 0,_,eu=>eu
 | eC+1,i0,eu=>(bif (decide (eu<100)) then jX p eC (i0+1) (IntKind.i64.wrap ((IntKind.i64.wrap (eu+(((p.ab.g i0).ar.length:Nat):Int)))+(IntKind.i64.wrap (Int.tdiv ((List.length ((p.ab.g i0).name):Nat):Int) 10)))) else eu)
theorem zV {d:Nat} {h:ax} (p:bO) (da:Nat) (bh:aJ h p.ae p.ab) (di:aJ h p.ag p.af) (jR:aJ h p.au p.ai) (oa:aH.ok h p):∀(k_ i_:Nat) (eu:Int) (_:i_+k_=p.ab.length) (x:Nat→AV) (hh:ax) (aF:Tidy hh) (aG:Has h hh) (b6:hh.get da=some (aK.cells [p.ae,p.ag,p.au] 26 false)),jN (cT (d)) K9 ⟨((x 0)::(Pt da)::(x 2)::(Zi eu)::(Zn i_)::rx x 5 72 []),hh,[],.no⟩ (.exit 0) hh (fun r y=>((y 0)::(Pt da)::(y 2)::(Zi r)::rx y 4 73 [])) (fun r=>True) (jX p k_ i_ eu)
 | 0,i0,eu,jh,x,hh,aF,aG,b6=>by
   have dp:=bh.small
   have gd:=di.small
   have og:=jR.small
   have te:=aF _ _ b6
   have eb:cg (some (.slice 43)) (some p.ae)=some (Zn p.ab.length):=(bh.has aG).len
   have q2:(decide (((i0:Nat):Int)<((p.ab.length:Nat):Int)))=false:=d!
   exact jN.out eu rfl (pk (d) _ _ hh _ hh (CN 2<|MM (ao 22 0 p.ae b6 k!)<|VV eb<|VV (aY 3 false false .i64 ((i0:Nat):Int) ((p.ab.length:Nat):Int))<|CC<|BB q2<|BV q2 (p_ false q2)<|FF<|ZZ) k!) (bW.refl aF) trivial k!
 | eC+1,i0,eu,jh,x,hh,aF,aG,b6=>by
   have dp:=bh.small
   have gd:=di.small
   have og:=jR.small
   have te:=aF _ _ b6
   have eb:cg (some (.slice 43)) (some p.ae)=some (Zn p.ab.length):=(bh.has aG).len
   have q2:(decide (((i0:Nat):Int)<((p.ab.length:Nat):Int)))=true:=d!
   rcases Bool.eq_false_or_eq_true (decide (eu<100)) with f1 | f1
   · have fK:=of_decide_eq_true f1
     obtain ⟨p5,q6,Sn⟩:=(bh.has aG).elem (i:=i0) o!
     have xr:b8 env (some (.slice 43)) (some p.ae) (some (Zn i0))=some (AV.ptr p5 q6):=Sn
     have ld7:bS env hh 41 (AV.ptr p5 (q6+6))=some ((p.ab.g i0).aD):=(bh.has aG).part (t:=41) (j:=6) o! Sn k! rfl
     have ln8:cg (some (.slice 28)) (some (p.ab.g i0).aD)=some (Zn (p.ab.g i0).ar.length):=(((bh.has aG).ok (i:=i0) o!).2).len
     obtain ⟨V7,V8,IS⟩:=(bh.has aG).elem (i:=i0) o!
     have Qx:b8 env (some (.slice 43)) (some p.ae) (some (Zn i0))=some (AV.ptr V7 V8):=IS
     have IT:bS env hh 9 (AV.ptr V7 (V8+0))=some (AV.str (p.ab.g i0).name):=(bh.has aG).part (t:=9) (j:=0) o! IS k! rfl
     have ady:((p.ab.g i0).name).length<2^60:=((bh.has aG).ok (i:=i0) o!).1
     have GD:AV.same 20 p.ae p.ae=true:=(bh.has aG).same 19
     have El:AV.same 20 (p.ab.g i0).aD (p.ab.g i0).aD=true:=(((bh.has aG).ok (i:=i0) o!).2).same 19
     have u16:=eZ 3 false true i0 1 o!
     exact jN.round (by simp only[jX,f1,ak,ah]) (pk (d) _ _ hh _ hh (CN 2<|MM (ao 22 0 p.ae b6 k!)<|VV eb<|VV (aY 3 false false .i64 ((i0:Nat):Int) ((p.ab.length:Nat):Int))<|CC<|BC q2<|BV q2 (aY 3 false true .i64 eu 100)<|VV (iI (decide (eu<100)) false q2)<|BB f1<|CN 2<|MM (ao 22 0 p.ae b6 k!)<|CC<|VV xr<|CC<|MM ld7<|VV ln8<|CN 2<|MM (ao 22 0 p.ae b6 k!)<|CC<|VV Qx<|CC<|MM IT<|CN 4<|HH (ao 22 0 p.ae b6 k!)<|HH GD<|HH ld7<|HH El<|HH (ao 22 0 p.ae b6 k!)<|HH GD<|HH IT<|HH (show AV.same 20 (AV.str (p.ab.g i0).name) (AV.str (p.ab.g i0).name)=true from aP 19 _)<|CC<|VV u16<|CC<|ZZ) k!) (bW.refl aF) _ k! (fun x=>zV p da bh di jR oa eC (i0+1) (IntKind.i64.wrap ((IntKind.i64.wrap (eu+(((p.ab.g i0).ar.length:Nat):Int)))+(IntKind.i64.wrap (Int.tdiv ((List.length ((p.ab.g i0).name):Nat):Int) 10)))) o! x hh aF aG b6)
   · have fK:=of_decide_eq_false f1
     exact jN.out eu (by simp only[jX,f1,ak,ah]) (pk (d) _ _ hh _ hh (CN 2<|MM (ao 22 0 p.ae b6 k!)<|VV eb<|VV (aY 3 false false .i64 ((i0:Nat):Int) ((p.ab.length:Nat):Int))<|CC<|BC q2<|BV q2 (aY 3 false true .i64 eu 100)<|VV (iI (decide (eu<100)) false q2)<|BB f1<|ZZ) k!) (bW.refl aF) trivial k!
def mh (p:bO):Nat→Nat→Int→Int
 | 0,_,ij=>ij
 | xC+1,i1,ij=>(bif (decide (ij<100)) then mh p xC (i1+1) (IntKind.i64.wrap (ij+(IntKind.i64.wrap (Int.tdiv (((List.length (p.af.g i1).name)+(List.length (p.af.g i1).ba):Nat):Int) 10)))) else ij)
theorem zW {d:Nat} {h:ax} (p:bO) (f_:Nat) (iW:aJ h p.ae p.ab) (f':aJ h p.ag p.af) (oW:aJ h p.au p.ai) (xD:aH.ok h p):∀(k_ i_:Nat) (ij:Int) (_:i_+k_=p.af.length) (x:Nat→AV) (hh:ax) (aF:Tidy hh) (aG:Has h hh) (cI:hh.get f_=some (aK.cells [p.ae,p.ag,p.au] 26 false)),jN (cT (d)) K_ ⟨((x 0)::(Pt f_)::(x 2)::(Zi ij)::(x 4)::(Zn i_)::rx x 6 71 []),hh,[],.no⟩ (.exit 2) hh (fun r y=>((y 0)::(Pt f_)::(y 2)::(Zi r)::rx y 4 73 [])) (fun r=>True) (mh p k_ i_ ij)
 | 0,i1,ij,jh,x,hh,aF,aG,cI=>by
   have oh:=iW.small
   have n_:=f'.small
   have ry:=oW.small
   have yR:=aF _ _ cI
   have eb:cg (some (.slice 45)) (some p.ag)=some (Zn p.af.length):=(f'.has aG).len
   have q2:(decide (((i1:Nat):Int)<((p.af.length:Nat):Int)))=false:=d!
   exact jN.out ij rfl (pk (d) _ _ hh _ hh (CN 2<|MM (ao 23 1 p.ag cI k!)<|VV eb<|VV (aY 3 false false .i64 ((i1:Nat):Int) ((p.af.length:Nat):Int))<|CC<|BB q2<|BV q2 (p_ false q2)<|FF<|ZZ) k!) (bW.refl aF) trivial k!
 | xC+1,i1,ij,jh,x,hh,aF,aG,cI=>by
   have oh:=iW.small
   have n_:=f'.small
   have ry:=oW.small
   have yR:=aF _ _ cI
   have eb:cg (some (.slice 45)) (some p.ag)=some (Zn p.af.length):=(f'.has aG).len
   have q2:(decide (((i1:Nat):Int)<((p.af.length:Nat):Int)))=true:=d!
   rcases Bool.eq_false_or_eq_true (decide (ij<100)) with f1 | f1
   · have fK:=of_decide_eq_true f1
     obtain ⟨p5,q6,Sn⟩:=(f'.has aG).elem (i:=i1) o!
     have xr:b8 env (some (.slice 45)) (some p.ag) (some (Zn i1))=some (AV.ptr p5 q6):=Sn
     have ld7:bS env hh 9 (AV.ptr p5 (q6+0))=some (AV.str (p.af.g i1).name):=(f'.has aG).part (t:=9) (j:=0) o! Sn k! rfl
     have sn8:((p.af.g i1).name).length<2^60:=((f'.has aG).ok (i:=i1) o!).1
     obtain ⟨V7,V8,IS⟩:=(f'.has aG).elem (i:=i1) o!
     have Qx:b8 env (some (.slice 45)) (some p.ag) (some (Zn i1))=some (AV.ptr V7 V8):=IS
     have IT:bS env hh 9 (AV.ptr V7 (V8+1))=some (AV.str (p.af.g i1).ba):=(f'.has aG).part (t:=9) (j:=1) o! IS k! rfl
     have ady:((p.af.g i1).ba).length<2^60:=((f'.has aG).ok (i:=i1) o!).2
     have Dq:=eZ 3 false false (List.length (p.af.g i1).name) (List.length (p.af.g i1).ba) o!
     have El:AV.same 20 p.ag p.ag=true:=(f'.has aG).same 19
     have u16:=eZ 3 false true i1 1 o!
     exact jN.round (by simp only[mh,f1,ak,ah]) (pk (d) _ _ hh _ hh (CN 2<|MM (ao 23 1 p.ag cI k!)<|VV eb<|VV (aY 3 false false .i64 ((i1:Nat):Int) ((p.af.length:Nat):Int))<|CC<|BC q2<|BV q2 (aY 3 false true .i64 ij 100)<|VV (iI (decide (ij<100)) false q2)<|BB f1<|CN 2<|MM (ao 23 1 p.ag cI k!)<|CC<|VV xr<|CC<|MM ld7<|CN 2<|MM (ao 23 1 p.ag cI k!)<|CC<|VV Qx<|CC<|MM IT<|CC<|VV Dq<|CN 3<|HH (ao 23 1 p.ag cI k!)<|HH El<|HH ld7<|HH (show AV.same 20 (AV.str (p.af.g i1).name) (AV.str (p.af.g i1).name)=true from aP 19 _)<|HH (ao 23 1 p.ag cI k!)<|HH El<|HH IT<|HH (show AV.same 20 (AV.str (p.af.g i1).ba) (AV.str (p.af.g i1).ba)=true from aP 19 _)<|CC<|VV u16<|CC<|ZZ) k!) (bW.refl aF) _ k! (fun x=>zW p f_ iW f' oW xD xC (i1+1) (IntKind.i64.wrap (ij+(IntKind.i64.wrap (Int.tdiv (((List.length (p.af.g i1).name)+(List.length (p.af.g i1).ba):Nat):Int) 10)))) o! x hh aF aG cI)
   · have fK:=of_decide_eq_false f1
     exact jN.out ij (by simp only[mh,f1,ak,ah]) (pk (d) _ _ hh _ hh (CN 2<|MM (ao 23 1 p.ag cI k!)<|VV eb<|VV (aY 3 false false .i64 ((i1:Nat):Int) ((p.af.length:Nat):Int))<|CC<|BC q2<|BV q2 (aY 3 false true .i64 ij 100)<|VV (iI (decide (ij<100)) false q2)<|BB f1<|ZZ) k!) (bW.refl aF) trivial k!
def iX (p:bO):Bool:=(decide (60<(mh p p.af.length 0 (jX p p.ab.length 0 (((p.ab.length+p.af.length)+p.ai.length:Nat):Int)))))
theorem I9 {d:Nat} {h:ax} (p:bO) (dg:aH.ok h p) (ca:Tidy h):cT (d+1) (.fn 4) [(AV.agg [p.ae,p.ag,p.au])] h= .ret (AV.bool (iX p)) h:=by
 have nj:=dg.1.small
 have jP:=dg.2.1.small
 have jQ:=dg.2.2.small
 obtain ⟨h1,br,cD,lh,aA,dC⟩:=lk ca (aK.cells [p.ae,p.ag,p.au] 26 false)
 have bB:Has h h1:=dC
 have Ah:cg (some (.slice 43)) (some p.ae)=some (Zn p.ab.length):=dg.1.len
 have ye:cg (some (.slice 45)) (some p.ag)=some (Zn p.af.length):=dg.2.1.len
 have u4:=eZ 3 false false p.ab.length p.af.length o!
 have ln5:cg (some (.slice 71)) (some p.au)=some (Zn p.ai.length):=dg.2.2.len
 have u6:=eZ 3 false false (p.ab.length+p.af.length) p.ai.length o!
 obtain ⟨yl7,h8,YH,U2,abK⟩:=zV (d:=d) (h:=h) p h.nx dg.1 dg.2.1 dg.2.2 dg p.ab.length 0 (((p.ab.length+p.af.length)+p.ai.length:Nat):Int) o! (fun k_=>(((AV.agg [p.ae,p.ag,p.au])::(Pt h.nx)::(AV.bool false)::(Zn ((p.ab.length+p.af.length)+p.ai.length))::(Zi 0)::AV.undef::(Pt h.nx)::p.ae::(Zn p.ab.length)::(AV.ptr h.nx 1)::p.ag::(Zn p.af.length)::(Zn (p.ab.length+p.af.length))::(AV.ptr h.nx 2)::p.au::(Zn p.ai.length)::(Zn ((p.ab.length+p.af.length)+p.ai.length))::jg 60):List AV).getD k_ AV.undef) h1 cD bB aA
 have oH:=U2.y
 have aet:h1.nx≤h8.nx:=U2.n
 have xU:Has h h8:=bB.trans U2.a
 obtain ⟨yl9,zP,od,im,abL⟩:=zW (d:=d) (h:=h) p h.nx dg.1 dg.2.1 dg.2.2 dg p.af.length 0 (jX p p.ab.length 0 (((p.ab.length+p.af.length)+p.ai.length:Nat):Int)) o! (fun k_=>(((yl7 0)::(Pt h.nx)::(yl7 2)::(Zi (jX p p.ab.length 0 (((p.ab.length+p.af.length)+p.ai.length:Nat):Int)))::(yl7 4)::(Zi 0)::rx yl7 6 71 []):List AV).getD k_ AV.undef) h8 oH xU (U2.a _ _ aA)
 have pw:=im.y
 have L_:h8.nx≤zP.nx:=im.n
 have mH:Has h zP:=xU.trans im.a
 have abv:Has h8 zP:=im.a
 have e:iX p=(decide (60<(mh p p.af.length 0 (jX p p.ab.length 0 (((p.ab.length+p.af.length)+p.ai.length:Nat):Int))))):=by simp only[iX,ak,ah]
 rw[e]
 exact aw rfl (aI Tryz.func4 Sm rfl (.inr rfl) (pk (d) _ _ h _ zP (NN br (fun i=>(Pt i))<|CN 2<|MM (ao 22 0 p.ae aA k!)<|VV Ah<|CC<|MM (ao 23 1 p.ag aA k!)<|VV ye<|VV u4<|CC<|MM (ao 24 2 p.au aA k!)<|VV ln5<|VV u6<|CN 2<|LL YH<|CC<|LL od<|CC<|VV (b7 3 false true .i64 (mh p p.af.length 0 (jX p p.ab.length 0 (((p.ab.length+p.af.length)+p.ai.length:Nat):Int))) 60)<|CC<|ZZ) k!) k!) mH rfl
def Lc:Code:=(Tryz.f3.body).getD .skip
theorem mr:Tryz.f3.body=some Lc:=by kernel_rfl
def jE (p:bO) (o:bO) (g:bn) (t:Int):Bool:=(bif (iX p) then true else (bif (iX o) then true else (bif (!decide ((cL p)=(cG p))) then false else (bif (!decide ((cc p).1=((cd p).1))) then false else (bif (!decide ((cc p).2=((cd p).2))) then false else (bif (!((fM p o)==(fN p o))) then false else (bif (!(fM p p)) then false else (bif (decide ((fj g t).1=((fk g t).1))) then (bif (decide ((fj g t).2=((fk g t).2))) then true else false) else false))))))))
theorem U3 {d:Nat} {h:ax} (p:bO) (o:bO) (g:bn) (t:Int) (dg:aH.ok h p) (Gt:aH.ok h o) (Jh:aH.ok h g) (hG:h.get 1=some (aK.cells (bE .u64 n6) 162 true)) (ca:Tidy h):cT (d+24) (.fn 3) [(AV.agg [p.ae,p.ag,p.au]),(AV.agg [o.ae,o.ag,o.au]),(AV.agg [(AV.str g.name),(Zi g.acc),(Zi g.aW),(Zi g.since)]),(Zi t)] h= .ret (AV.bool (jE p o g t)) h:=by
 have nj:=dg.1.small
 have jP:=dg.2.1.small
 have jQ:=dg.2.2.small
 have abM:=Gt.1.small
 have Za:=Gt.2.1.small
 have Zb:=Gt.2.2.small
 obtain ⟨h1,br,cD,lh,aA,dC⟩:=lk ca (aK.cells [p.ae,p.ag,p.au] 26 false)
 have bB:Has h h1:=dC
 obtain ⟨h2,fH,mS,Kc,bC,aZ⟩:=lk cD (aK.cells [o.ae,o.ag,o.au] 26 false)
 have eW:Has h h2:=bB.trans aZ
 obtain ⟨h3,Aj,mR,acR,CO,bH⟩:=lk mS (aK.cells [(AV.str g.name),(Zi g.acc),(Zi g.aW),(Zi g.since)] 28 false)
 have gv:Has h h3:=eW.trans bH
 have k4:=I9 (d:=d+22) p (aH.mono gv dg) mR
 rcases Bool.eq_false_or_eq_true (iX p) with f0 | f0
 · have k6:=F6 (d:=d+22) (h:=h3)
   have e:jE p o g t=true:=by simp only[jE,f0,ak,ah]
   rw[e]
   exact aw rfl (aI Tryz.func3 mr rfl (.inr rfl) (pk (d+23) _ _ h _ h3 (NN br (fun i=>(Pt i))<|NN fH (fun i=>(Pt i))<|NN Aj (fun i=>(Pt i))<|CC<|MM (ao 26 0 (AV.agg [p.ae,p.ag,p.au]) (bH _ _ (aZ _ _ aA)) k!)<|EE k4<|CC<|BB f0<|BV f0 (ml true f0)<|TT<|EE k6<|CC<|ZZ) k!) k!) gv rfl
 · have k6:=I9 (d:=d+22) o (aH.mono gv Gt) mR
   rcases Bool.eq_false_or_eq_true (iX o) with f1 | f1
   · have k8:=F6 (d:=d+22) (h:=h3)
     have e:jE p o g t=true:=by simp only[jE,f0,f1,ak,ah]
     rw[e]
     exact aw rfl (aI Tryz.func3 mr rfl (.inr rfl) (pk (d+23) _ _ h _ h3 (NN br (fun i=>(Pt i))<|NN fH (fun i=>(Pt i))<|NN Aj (fun i=>(Pt i))<|CC<|MM (ao 26 0 (AV.agg [p.ae,p.ag,p.au]) (bH _ _ (aZ _ _ aA)) k!)<|EE k4<|CC<|BM f0 (ao 26 0 (AV.agg [o.ae,o.ag,o.au]) (bH _ _ bC) k!)<|BB f0<|EE k6<|VV (aE (a:=some (AV.bool true)) (b:=some (AV.bool (iX o))) f0)<|BB f1<|EE k8<|CC<|ZZ) k!) k!) gv rfl
   · have k8:=NW (d:=d+11) p (aH.mono gv dg) (gv _ _ hG) mR
     have k9:=NX (d:=d) p (aH.mono gv dg) mR
     have xb:=D9 (d:=d+12) p (aH.mono gv dg) mR
     have uv:=Eb (d:=d+19) p (aH.mono gv dg) mR
     rcases Bool.eq_false_or_eq_true (!decide ((cL p)=(cG p))) with f2 | f2
     · have mT:=rO f2
       have Gv:AV.same 20 (AV.agg [p.ae,p.ag,p.au]) (AV.agg [p.ae,p.ag,p.au])=true:=cW 18 (eX dg.1.same (eX dg.2.1.same (eX dg.2.2.same zG)))
       have e:jE p o g t=false:=by simp only[jE,f0,f1,f2,ak,ah]
       rw[e]
       exact aw rfl (aI Tryz.func3 mr rfl (.inr rfl) (pk (d+23) _ _ h _ h3 (NN br (fun i=>(Pt i))<|NN fH (fun i=>(Pt i))<|NN Aj (fun i=>(Pt i))<|CC<|MM (ao 26 0 (AV.agg [p.ae,p.ag,p.au]) (bH _ _ (aZ _ _ aA)) k!)<|EE k4<|CC<|BM f0 (ao 26 0 (AV.agg [o.ae,o.ag,o.au]) (bH _ _ bC) k!)<|BB f0<|EE k6<|VV (aE (a:=some (AV.bool true)) (b:=some (AV.bool (iX o))) f0)<|BM f1 (ao 26 0 (AV.agg [p.ae,p.ag,p.au]) (bH _ _ (aZ _ _ aA)) k!)<|EE k8<|CN 5<|MM (ao 26 0 (AV.agg [p.ae,p.ag,p.au]) (bH _ _ (aZ _ _ aA)) k!)<|EE k9<|CN 5<|MM (ao 26 0 (AV.agg [p.ae,p.ag,p.au]) (bH _ _ (aZ _ _ aA)) k!)<|MM (ao 26 0 (AV.agg [p.ae,p.ag,p.au]) (bH _ _ (aZ _ _ aA)) k!)<|EE xb<|EE uv<|VV (cf 31 false false .i64 (cL p) (cG p))<|CC<|BB f2<|BB f2<|BV f2 (ml true f2)<|CC<|TT<|TT<|TT<|CN 2<|TT<|TT<|TT<|TT<|TT<|TT<|TT<|CN 2<|TT<|TT<|TT<|TT<|CC<|HH (ao 26 0 (AV.agg [p.ae,p.ag,p.au]) (bH _ _ (aZ _ _ aA)) k!)<|HH Gv<|HH (ao 26 0 (AV.agg [p.ae,p.ag,p.au]) (bH _ _ (aZ _ _ aA)) k!)<|HH Gv<|HH (ao 26 0 (AV.agg [p.ae,p.ag,p.au]) (bH _ _ (aZ _ _ aA)) k!)<|HH Gv<|TT<|CC<|ZZ) k!) k!) gv rfl
     · have mT:=rP f2
       rcases Bool.eq_false_or_eq_true (!decide ((cc p).1=((cd p).1))) with f3 | f3
       · have kM:=rO f3
         have GD:AV.same 20 (AV.agg [p.ae,p.ag,p.au]) (AV.agg [p.ae,p.ag,p.au])=true:=cW 18 (eX dg.1.same (eX dg.2.1.same (eX dg.2.2.same zG)))
         have e:jE p o g t=false:=by simp only[jE,f0,f1,f2,f3,ak,ah]
         rw[e]
         exact aw rfl (aI Tryz.func3 mr rfl (.inr rfl) (pk (d+23) _ _ h _ h3 (NN br (fun i=>(Pt i))<|NN fH (fun i=>(Pt i))<|NN Aj (fun i=>(Pt i))<|CC<|MM (ao 26 0 (AV.agg [p.ae,p.ag,p.au]) (bH _ _ (aZ _ _ aA)) k!)<|EE k4<|CC<|BM f0 (ao 26 0 (AV.agg [o.ae,o.ag,o.au]) (bH _ _ bC) k!)<|BB f0<|EE k6<|VV (aE (a:=some (AV.bool true)) (b:=some (AV.bool (iX o))) f0)<|BM f1 (ao 26 0 (AV.agg [p.ae,p.ag,p.au]) (bH _ _ (aZ _ _ aA)) k!)<|EE k8<|CN 5<|MM (ao 26 0 (AV.agg [p.ae,p.ag,p.au]) (bH _ _ (aZ _ _ aA)) k!)<|EE k9<|CN 5<|MM (ao 26 0 (AV.agg [p.ae,p.ag,p.au]) (bH _ _ (aZ _ _ aA)) k!)<|MM (ao 26 0 (AV.agg [p.ae,p.ag,p.au]) (bH _ _ (aZ _ _ aA)) k!)<|EE xb<|EE uv<|VV (cf 31 false false .i64 (cL p) (cG p))<|CC<|BC f2<|BC f2<|BV f2 (vE 9 false false (cc p).1 (cd p).1)<|VV (aE (a:=some (AV.bool true)) (b:=some (AV.bool (!decide ((cc p).1=((cd p).1))))) f2)<|CC<|BB f3<|BB f3<|BV f3 (ml true f3)<|CC<|TT<|TT<|TT<|TT<|TT<|TT<|TT<|CN 2<|TT<|TT<|TT<|TT<|CC<|HH (ao 26 0 (AV.agg [p.ae,p.ag,p.au]) (bH _ _ (aZ _ _ aA)) k!)<|HH GD<|HH (ao 26 0 (AV.agg [p.ae,p.ag,p.au]) (bH _ _ (aZ _ _ aA)) k!)<|HH GD<|HH (ao 26 0 (AV.agg [p.ae,p.ag,p.au]) (bH _ _ (aZ _ _ aA)) k!)<|HH GD<|TT<|CC<|ZZ) k!) k!) gv rfl
       · have kM:=rP f3
         rcases Bool.eq_false_or_eq_true (!decide ((cc p).2=((cd p).2))) with f4 | f4
         · have lE:=rO f4
           have El:AV.same 20 (AV.agg [p.ae,p.ag,p.au]) (AV.agg [p.ae,p.ag,p.au])=true:=cW 18 (eX dg.1.same (eX dg.2.1.same (eX dg.2.2.same zG)))
           have e:jE p o g t=false:=by simp only[jE,f0,f1,f2,f3,f4,ak,ah]
           rw[e]
           exact aw rfl (aI Tryz.func3 mr rfl (.inr rfl) (pk (d+23) _ _ h _ h3 (NN br (fun i=>(Pt i))<|NN fH (fun i=>(Pt i))<|NN Aj (fun i=>(Pt i))<|CC<|MM (ao 26 0 (AV.agg [p.ae,p.ag,p.au]) (bH _ _ (aZ _ _ aA)) k!)<|EE k4<|CC<|BM f0 (ao 26 0 (AV.agg [o.ae,o.ag,o.au]) (bH _ _ bC) k!)<|BB f0<|EE k6<|VV (aE (a:=some (AV.bool true)) (b:=some (AV.bool (iX o))) f0)<|BM f1 (ao 26 0 (AV.agg [p.ae,p.ag,p.au]) (bH _ _ (aZ _ _ aA)) k!)<|EE k8<|CN 5<|MM (ao 26 0 (AV.agg [p.ae,p.ag,p.au]) (bH _ _ (aZ _ _ aA)) k!)<|EE k9<|CN 5<|MM (ao 26 0 (AV.agg [p.ae,p.ag,p.au]) (bH _ _ (aZ _ _ aA)) k!)<|MM (ao 26 0 (AV.agg [p.ae,p.ag,p.au]) (bH _ _ (aZ _ _ aA)) k!)<|EE xb<|EE uv<|VV (cf 31 false false .i64 (cL p) (cG p))<|CC<|BC f2<|BC f2<|BV f2 (vE 9 false false (cc p).1 (cd p).1)<|VV (aE (a:=some (AV.bool true)) (b:=some (AV.bool (!decide ((cc p).1=((cd p).1))))) f2)<|CC<|BC f3<|BC f3<|BV f3 (cf 31 false false .i64 (cc p).2 (cd p).2)<|VV (aE (a:=some (AV.bool true)) (b:=some (AV.bool (!decide ((cc p).2=((cd p).2))))) f3)<|CC<|BB f4<|BB f4<|BB f4<|BB f4<|BB f4<|BB f4<|BV f4 (ml true f4)<|CC<|TT<|TT<|TT<|TT<|CC<|HH (ao 26 0 (AV.agg [p.ae,p.ag,p.au]) (bH _ _ (aZ _ _ aA)) k!)<|HH El<|HH (ao 26 0 (AV.agg [p.ae,p.ag,p.au]) (bH _ _ (aZ _ _ aA)) k!)<|HH El<|HH (ao 26 0 (AV.agg [p.ae,p.ag,p.au]) (bH _ _ (aZ _ _ aA)) k!)<|HH El<|TT<|CC<|ZZ) k!) k!) gv rfl
         · have lE:=rP f4
           have J':=IV (d:=d+19) p o (aH.mono gv dg) (aH.mono gv Gt) mR
           have Gs:=R4 (d:=d+21) p o (aH.mono gv dg) (aH.mono gv Gt) mR
           rcases Bool.eq_false_or_eq_true (!((fM p o)==(fN p o))) with f5 | f5
           · have Zc:AV.same 20 (AV.agg [p.ae,p.ag,p.au]) (AV.agg [p.ae,p.ag,p.au])=true:=cW 18 (eX dg.1.same (eX dg.2.1.same (eX dg.2.2.same zG)))
             have sa:AV.same 20 (AV.agg [o.ae,o.ag,o.au]) (AV.agg [o.ae,o.ag,o.au])=true:=cW 18 (eX Gt.1.same (eX Gt.2.1.same (eX Gt.2.2.same zG)))
             have e:jE p o g t=false:=by simp only[jE,f0,f1,f2,f3,f4,f5,ak,ah]
             rw[e]
             exact aw rfl (aI Tryz.func3 mr rfl (.inr rfl) (pk (d+23) _ _ h _ h3 (NN br (fun i=>(Pt i))<|NN fH (fun i=>(Pt i))<|NN Aj (fun i=>(Pt i))<|CC<|MM (ao 26 0 (AV.agg [p.ae,p.ag,p.au]) (bH _ _ (aZ _ _ aA)) k!)<|EE k4<|CC<|BM f0 (ao 26 0 (AV.agg [o.ae,o.ag,o.au]) (bH _ _ bC) k!)<|BB f0<|EE k6<|VV (aE (a:=some (AV.bool true)) (b:=some (AV.bool (iX o))) f0)<|BM f1 (ao 26 0 (AV.agg [p.ae,p.ag,p.au]) (bH _ _ (aZ _ _ aA)) k!)<|EE k8<|CN 5<|MM (ao 26 0 (AV.agg [p.ae,p.ag,p.au]) (bH _ _ (aZ _ _ aA)) k!)<|EE k9<|CN 5<|MM (ao 26 0 (AV.agg [p.ae,p.ag,p.au]) (bH _ _ (aZ _ _ aA)) k!)<|MM (ao 26 0 (AV.agg [p.ae,p.ag,p.au]) (bH _ _ (aZ _ _ aA)) k!)<|EE xb<|EE uv<|VV (cf 31 false false .i64 (cL p) (cG p))<|CC<|BC f2<|BC f2<|BV f2 (vE 9 false false (cc p).1 (cd p).1)<|VV (aE (a:=some (AV.bool true)) (b:=some (AV.bool (!decide ((cc p).1=((cd p).1))))) f2)<|CC<|BC f3<|BC f3<|BV f3 (cf 31 false false .i64 (cc p).2 (cd p).2)<|VV (aE (a:=some (AV.bool true)) (b:=some (AV.bool (!decide ((cc p).2=((cd p).2))))) f3)<|CC<|BM f4 (ao 26 0 (AV.agg [p.ae,p.ag,p.au]) (bH _ _ (aZ _ _ aA)) k!)<|BM f4 (ao 26 0 (AV.agg [o.ae,o.ag,o.au]) (bH _ _ bC) k!)<|BM f4 (ao 26 0 (AV.agg [p.ae,p.ag,p.au]) (bH _ _ (aZ _ _ aA)) k!)<|BM f4 (ao 26 0 (AV.agg [o.ae,o.ag,o.au]) (bH _ _ bC) k!)<|BB f4<|EE J'<|BB f4<|EE Gs<|BC f4<|VV (aE (a:=some (AV.bool true)) (b:=some (AV.bool (!((fM p o)==(fN p o))))) f4)<|CC<|BB f5<|BB f5<|BB f5<|BV f5 (ml true f5)<|HH (ao 26 0 (AV.agg [p.ae,p.ag,p.au]) (bH _ _ (aZ _ _ aA)) k!)<|HH Zc<|HH (ao 26 0 (AV.agg [p.ae,p.ag,p.au]) (bH _ _ (aZ _ _ aA)) k!)<|HH Zc<|HH (ao 26 0 (AV.agg [p.ae,p.ag,p.au]) (bH _ _ (aZ _ _ aA)) k!)<|HH Zc<|HH (ao 26 0 (AV.agg [p.ae,p.ag,p.au]) (bH _ _ (aZ _ _ aA)) k!)<|HH Zc<|HH (ao 26 0 (AV.agg [o.ae,o.ag,o.au]) (bH _ _ bC) k!)<|HH sa<|HH (ao 26 0 (AV.agg [p.ae,p.ag,p.au]) (bH _ _ (aZ _ _ aA)) k!)<|HH Zc<|HH (ao 26 0 (AV.agg [p.ae,p.ag,p.au]) (bH _ _ (aZ _ _ aA)) k!)<|HH Zc<|HH (ao 26 0 (AV.agg [o.ae,o.ag,o.au]) (bH _ _ bC) k!)<|HH sa<|HH (ao 26 0 (AV.agg [o.ae,o.ag,o.au]) (bH _ _ bC) k!)<|HH sa<|TT<|CC<|ZZ) k!) k!) gv rfl
           · have Ql:=IV (d:=d+19) p p (aH.mono gv dg) (aH.mono gv dg) mR
             have sa:AV.same 20 (AV.agg [p.ae,p.ag,p.au]) (AV.agg [p.ae,p.ag,p.au])=true:=cW 18 (eX dg.1.same (eX dg.2.1.same (eX dg.2.2.same zG)))
             have Oh:AV.same 20 (AV.agg [o.ae,o.ag,o.au]) (AV.agg [o.ae,o.ag,o.au])=true:=cW 18 (eX Gt.1.same (eX Gt.2.1.same (eX Gt.2.2.same zG)))
             rcases Bool.eq_false_or_eq_true (!(fM p p)) with f6 | f6
             · have e:jE p o g t=false:=by simp only[jE,f0,f1,f2,f3,f4,f5,f6,ak,ah]
               rw[e]
               exact aw rfl (aI Tryz.func3 mr rfl (.inr rfl) (pk (d+23) _ _ h _ h3 (NN br (fun i=>(Pt i))<|NN fH (fun i=>(Pt i))<|NN Aj (fun i=>(Pt i))<|CC<|MM (ao 26 0 (AV.agg [p.ae,p.ag,p.au]) (bH _ _ (aZ _ _ aA)) k!)<|EE k4<|CC<|BM f0 (ao 26 0 (AV.agg [o.ae,o.ag,o.au]) (bH _ _ bC) k!)<|BB f0<|EE k6<|VV (aE (a:=some (AV.bool true)) (b:=some (AV.bool (iX o))) f0)<|BM f1 (ao 26 0 (AV.agg [p.ae,p.ag,p.au]) (bH _ _ (aZ _ _ aA)) k!)<|EE k8<|CN 5<|MM (ao 26 0 (AV.agg [p.ae,p.ag,p.au]) (bH _ _ (aZ _ _ aA)) k!)<|EE k9<|CN 5<|MM (ao 26 0 (AV.agg [p.ae,p.ag,p.au]) (bH _ _ (aZ _ _ aA)) k!)<|MM (ao 26 0 (AV.agg [p.ae,p.ag,p.au]) (bH _ _ (aZ _ _ aA)) k!)<|EE xb<|EE uv<|VV (cf 31 false false .i64 (cL p) (cG p))<|CC<|BC f2<|BC f2<|BV f2 (vE 9 false false (cc p).1 (cd p).1)<|VV (aE (a:=some (AV.bool true)) (b:=some (AV.bool (!decide ((cc p).1=((cd p).1))))) f2)<|CC<|BC f3<|BC f3<|BV f3 (cf 31 false false .i64 (cc p).2 (cd p).2)<|VV (aE (a:=some (AV.bool true)) (b:=some (AV.bool (!decide ((cc p).2=((cd p).2))))) f3)<|CC<|BM f4 (ao 26 0 (AV.agg [p.ae,p.ag,p.au]) (bH _ _ (aZ _ _ aA)) k!)<|BM f4 (ao 26 0 (AV.agg [o.ae,o.ag,o.au]) (bH _ _ bC) k!)<|BM f4 (ao 26 0 (AV.agg [p.ae,p.ag,p.au]) (bH _ _ (aZ _ _ aA)) k!)<|BM f4 (ao 26 0 (AV.agg [o.ae,o.ag,o.au]) (bH _ _ bC) k!)<|BB f4<|EE J'<|BB f4<|EE Gs<|BC f4<|VV (aE (a:=some (AV.bool true)) (b:=some (AV.bool (!((fM p o)==(fN p o))))) f4)<|CC<|BM f5 (ao 26 0 (AV.agg [p.ae,p.ag,p.au]) (bH _ _ (aZ _ _ aA)) k!)<|BM f5 (ao 26 0 (AV.agg [p.ae,p.ag,p.au]) (bH _ _ (aZ _ _ aA)) k!)<|BB f5<|EE Ql<|BC f5<|VV (aE (a:=some (AV.bool true)) (b:=some (AV.bool (!(fM p p)))) f5)<|HH (ao 26 0 (AV.agg [p.ae,p.ag,p.au]) (bH _ _ (aZ _ _ aA)) k!)<|HH sa<|HH (ao 26 0 (AV.agg [p.ae,p.ag,p.au]) (bH _ _ (aZ _ _ aA)) k!)<|HH sa<|HH (ao 26 0 (AV.agg [p.ae,p.ag,p.au]) (bH _ _ (aZ _ _ aA)) k!)<|HH sa<|HH (ao 26 0 (AV.agg [p.ae,p.ag,p.au]) (bH _ _ (aZ _ _ aA)) k!)<|HH sa<|HH (ao 26 0 (AV.agg [o.ae,o.ag,o.au]) (bH _ _ bC) k!)<|HH Oh<|HH (ao 26 0 (AV.agg [p.ae,p.ag,p.au]) (bH _ _ (aZ _ _ aA)) k!)<|HH sa<|HH (ao 26 0 (AV.agg [p.ae,p.ag,p.au]) (bH _ _ (aZ _ _ aA)) k!)<|HH sa<|HH (ao 26 0 (AV.agg [o.ae,o.ag,o.au]) (bH _ _ bC) k!)<|HH Oh<|HH (ao 26 0 (AV.agg [o.ae,o.ag,o.au]) (bH _ _ bC) k!)<|HH Oh<|HH (ao 26 0 (AV.agg [p.ae,p.ag,p.au]) (bH _ _ (aZ _ _ aA)) k!)<|HH sa<|HH (ao 26 0 (AV.agg [p.ae,p.ag,p.au]) (bH _ _ (aZ _ _ aA)) k!)<|HH sa<|BC f6<|ZZ) k!) k!) gv rfl
             · have Xo:=NM (d:=d+19) g t (aH.mono gv Jh) mR
               have Xp:=NQ (d:=d+20) g t (aH.mono gv Jh) mR
               rcases Bool.eq_false_or_eq_true (decide ((fj g t).1=((fk g t).1))) with f7 | f7
               · have Qy:=of_decide_eq_true f7
                 rcases Bool.eq_false_or_eq_true (decide ((fj g t).2=((fk g t).2))) with f8 | f8
                 · have Xy:=of_decide_eq_true f8
                   have k26:=F6 (d:=d+22) (h:=h3)
                   have e:jE p o g t=true:=by simp only[jE,f0,f1,f2,f3,f4,f5,f6,f7,f8,ak,ah]
                   rw[e]
                   exact aw rfl (aI Tryz.func3 mr rfl (.inr rfl) (pk (d+23) _ _ h _ h3 (NN br (fun i=>(Pt i))<|NN fH (fun i=>(Pt i))<|NN Aj (fun i=>(Pt i))<|CC<|MM (ao 26 0 (AV.agg [p.ae,p.ag,p.au]) (bH _ _ (aZ _ _ aA)) k!)<|EE k4<|CC<|BM f0 (ao 26 0 (AV.agg [o.ae,o.ag,o.au]) (bH _ _ bC) k!)<|BB f0<|EE k6<|VV (aE (a:=some (AV.bool true)) (b:=some (AV.bool (iX o))) f0)<|BM f1 (ao 26 0 (AV.agg [p.ae,p.ag,p.au]) (bH _ _ (aZ _ _ aA)) k!)<|EE k8<|CN 5<|MM (ao 26 0 (AV.agg [p.ae,p.ag,p.au]) (bH _ _ (aZ _ _ aA)) k!)<|EE k9<|CN 5<|MM (ao 26 0 (AV.agg [p.ae,p.ag,p.au]) (bH _ _ (aZ _ _ aA)) k!)<|MM (ao 26 0 (AV.agg [p.ae,p.ag,p.au]) (bH _ _ (aZ _ _ aA)) k!)<|EE xb<|EE uv<|VV (cf 31 false false .i64 (cL p) (cG p))<|CC<|BC f2<|BC f2<|BV f2 (vE 9 false false (cc p).1 (cd p).1)<|VV (aE (a:=some (AV.bool true)) (b:=some (AV.bool (!decide ((cc p).1=((cd p).1))))) f2)<|CC<|BC f3<|BC f3<|BV f3 (cf 31 false false .i64 (cc p).2 (cd p).2)<|VV (aE (a:=some (AV.bool true)) (b:=some (AV.bool (!decide ((cc p).2=((cd p).2))))) f3)<|CC<|BM f4 (ao 26 0 (AV.agg [p.ae,p.ag,p.au]) (bH _ _ (aZ _ _ aA)) k!)<|BM f4 (ao 26 0 (AV.agg [o.ae,o.ag,o.au]) (bH _ _ bC) k!)<|BM f4 (ao 26 0 (AV.agg [p.ae,p.ag,p.au]) (bH _ _ (aZ _ _ aA)) k!)<|BM f4 (ao 26 0 (AV.agg [o.ae,o.ag,o.au]) (bH _ _ bC) k!)<|BB f4<|EE J'<|BB f4<|EE Gs<|BC f4<|VV (aE (a:=some (AV.bool true)) (b:=some (AV.bool (!((fM p o)==(fN p o))))) f4)<|CC<|BM f5 (ao 26 0 (AV.agg [p.ae,p.ag,p.au]) (bH _ _ (aZ _ _ aA)) k!)<|BM f5 (ao 26 0 (AV.agg [p.ae,p.ag,p.au]) (bH _ _ (aZ _ _ aA)) k!)<|BB f5<|EE Ql<|BC f5<|VV (aE (a:=some (AV.bool true)) (b:=some (AV.bool (!(fM p p)))) f5)<|HH (ao 26 0 (AV.agg [p.ae,p.ag,p.au]) (bH _ _ (aZ _ _ aA)) k!)<|HH sa<|HH (ao 26 0 (AV.agg [p.ae,p.ag,p.au]) (bH _ _ (aZ _ _ aA)) k!)<|HH sa<|HH (ao 26 0 (AV.agg [p.ae,p.ag,p.au]) (bH _ _ (aZ _ _ aA)) k!)<|HH sa<|HH (ao 26 0 (AV.agg [p.ae,p.ag,p.au]) (bH _ _ (aZ _ _ aA)) k!)<|HH sa<|HH (ao 26 0 (AV.agg [o.ae,o.ag,o.au]) (bH _ _ bC) k!)<|HH Oh<|HH (ao 26 0 (AV.agg [p.ae,p.ag,p.au]) (bH _ _ (aZ _ _ aA)) k!)<|HH sa<|HH (ao 26 0 (AV.agg [p.ae,p.ag,p.au]) (bH _ _ (aZ _ _ aA)) k!)<|HH sa<|HH (ao 26 0 (AV.agg [o.ae,o.ag,o.au]) (bH _ _ bC) k!)<|HH Oh<|HH (ao 26 0 (AV.agg [o.ae,o.ag,o.au]) (bH _ _ bC) k!)<|HH Oh<|HH (ao 26 0 (AV.agg [p.ae,p.ag,p.au]) (bH _ _ (aZ _ _ aA)) k!)<|HH sa<|HH (ao 26 0 (AV.agg [p.ae,p.ag,p.au]) (bH _ _ (aZ _ _ aA)) k!)<|HH sa<|BM f6 (ao 28 0 (AV.agg [(AV.str g.name),(Zi g.acc),(Zi g.aW),(Zi g.since)]) CO k!)<|CC<|EE Xo<|CN 5<|MM (ao 28 0 (AV.agg [(AV.str g.name),(Zi g.acc),(Zi g.aW),(Zi g.since)]) CO k!)<|CC<|EE Xp<|CN 7<|VV (eA 3 false false .i64 (fj g t).1 (fk g t).1)<|CC<|BC f7<|BC f7<|BV f7 (eA 31 false false .i64 (fj g t).2 (fk g t).2)<|VV (iI (decide ((fj g t).2=((fk g t).2))) false f7)<|CC<|BB f8<|EE k26<|VV (iI true false f8)<|CC<|ZZ) k!) k!) gv rfl
                 · have Xy:=of_decide_eq_false f8
                   have e:jE p o g t=false:=by simp only[jE,f0,f1,f2,f3,f4,f5,f6,f7,f8,ak,ah]
                   rw[e]
                   exact aw rfl (aI Tryz.func3 mr rfl (.inr rfl) (pk (d+23) _ _ h _ h3 (NN br (fun i=>(Pt i))<|NN fH (fun i=>(Pt i))<|NN Aj (fun i=>(Pt i))<|CC<|MM (ao 26 0 (AV.agg [p.ae,p.ag,p.au]) (bH _ _ (aZ _ _ aA)) k!)<|EE k4<|CC<|BM f0 (ao 26 0 (AV.agg [o.ae,o.ag,o.au]) (bH _ _ bC) k!)<|BB f0<|EE k6<|VV (aE (a:=some (AV.bool true)) (b:=some (AV.bool (iX o))) f0)<|BM f1 (ao 26 0 (AV.agg [p.ae,p.ag,p.au]) (bH _ _ (aZ _ _ aA)) k!)<|EE k8<|CN 5<|MM (ao 26 0 (AV.agg [p.ae,p.ag,p.au]) (bH _ _ (aZ _ _ aA)) k!)<|EE k9<|CN 5<|MM (ao 26 0 (AV.agg [p.ae,p.ag,p.au]) (bH _ _ (aZ _ _ aA)) k!)<|MM (ao 26 0 (AV.agg [p.ae,p.ag,p.au]) (bH _ _ (aZ _ _ aA)) k!)<|EE xb<|EE uv<|VV (cf 31 false false .i64 (cL p) (cG p))<|CC<|BC f2<|BC f2<|BV f2 (vE 9 false false (cc p).1 (cd p).1)<|VV (aE (a:=some (AV.bool true)) (b:=some (AV.bool (!decide ((cc p).1=((cd p).1))))) f2)<|CC<|BC f3<|BC f3<|BV f3 (cf 31 false false .i64 (cc p).2 (cd p).2)<|VV (aE (a:=some (AV.bool true)) (b:=some (AV.bool (!decide ((cc p).2=((cd p).2))))) f3)<|CC<|BM f4 (ao 26 0 (AV.agg [p.ae,p.ag,p.au]) (bH _ _ (aZ _ _ aA)) k!)<|BM f4 (ao 26 0 (AV.agg [o.ae,o.ag,o.au]) (bH _ _ bC) k!)<|BM f4 (ao 26 0 (AV.agg [p.ae,p.ag,p.au]) (bH _ _ (aZ _ _ aA)) k!)<|BM f4 (ao 26 0 (AV.agg [o.ae,o.ag,o.au]) (bH _ _ bC) k!)<|BB f4<|EE J'<|BB f4<|EE Gs<|BC f4<|VV (aE (a:=some (AV.bool true)) (b:=some (AV.bool (!((fM p o)==(fN p o))))) f4)<|CC<|BM f5 (ao 26 0 (AV.agg [p.ae,p.ag,p.au]) (bH _ _ (aZ _ _ aA)) k!)<|BM f5 (ao 26 0 (AV.agg [p.ae,p.ag,p.au]) (bH _ _ (aZ _ _ aA)) k!)<|BB f5<|EE Ql<|BC f5<|VV (aE (a:=some (AV.bool true)) (b:=some (AV.bool (!(fM p p)))) f5)<|HH (ao 26 0 (AV.agg [p.ae,p.ag,p.au]) (bH _ _ (aZ _ _ aA)) k!)<|HH sa<|HH (ao 26 0 (AV.agg [p.ae,p.ag,p.au]) (bH _ _ (aZ _ _ aA)) k!)<|HH sa<|HH (ao 26 0 (AV.agg [p.ae,p.ag,p.au]) (bH _ _ (aZ _ _ aA)) k!)<|HH sa<|HH (ao 26 0 (AV.agg [p.ae,p.ag,p.au]) (bH _ _ (aZ _ _ aA)) k!)<|HH sa<|HH (ao 26 0 (AV.agg [o.ae,o.ag,o.au]) (bH _ _ bC) k!)<|HH Oh<|HH (ao 26 0 (AV.agg [p.ae,p.ag,p.au]) (bH _ _ (aZ _ _ aA)) k!)<|HH sa<|HH (ao 26 0 (AV.agg [p.ae,p.ag,p.au]) (bH _ _ (aZ _ _ aA)) k!)<|HH sa<|HH (ao 26 0 (AV.agg [o.ae,o.ag,o.au]) (bH _ _ bC) k!)<|HH Oh<|HH (ao 26 0 (AV.agg [o.ae,o.ag,o.au]) (bH _ _ bC) k!)<|HH Oh<|HH (ao 26 0 (AV.agg [p.ae,p.ag,p.au]) (bH _ _ (aZ _ _ aA)) k!)<|HH sa<|HH (ao 26 0 (AV.agg [p.ae,p.ag,p.au]) (bH _ _ (aZ _ _ aA)) k!)<|HH sa<|BM f6 (ao 28 0 (AV.agg [(AV.str g.name),(Zi g.acc),(Zi g.aW),(Zi g.since)]) CO k!)<|CC<|EE Xo<|CN 5<|MM (ao 28 0 (AV.agg [(AV.str g.name),(Zi g.acc),(Zi g.aW),(Zi g.since)]) CO k!)<|CC<|EE Xp<|CN 7<|VV (eA 3 false false .i64 (fj g t).1 (fk g t).1)<|CC<|BC f7<|BC f7<|BV f7 (eA 31 false false .i64 (fj g t).2 (fk g t).2)<|VV (iI (decide ((fj g t).2=((fk g t).2))) false f7)<|CC<|BV f8 (p_ false f8)<|CC<|ZZ) k!) k!) gv rfl
               · have Qy:=of_decide_eq_false f7
                 have e:jE p o g t=false:=by simp only[jE,f0,f1,f2,f3,f4,f5,f6,f7,ak,ah]
                 rw[e]
                 exact aw rfl (aI Tryz.func3 mr rfl (.inr rfl) (pk (d+23) _ _ h _ h3 (NN br (fun i=>(Pt i))<|NN fH (fun i=>(Pt i))<|NN Aj (fun i=>(Pt i))<|CC<|MM (ao 26 0 (AV.agg [p.ae,p.ag,p.au]) (bH _ _ (aZ _ _ aA)) k!)<|EE k4<|CC<|BM f0 (ao 26 0 (AV.agg [o.ae,o.ag,o.au]) (bH _ _ bC) k!)<|BB f0<|EE k6<|VV (aE (a:=some (AV.bool true)) (b:=some (AV.bool (iX o))) f0)<|BM f1 (ao 26 0 (AV.agg [p.ae,p.ag,p.au]) (bH _ _ (aZ _ _ aA)) k!)<|EE k8<|CN 5<|MM (ao 26 0 (AV.agg [p.ae,p.ag,p.au]) (bH _ _ (aZ _ _ aA)) k!)<|EE k9<|CN 5<|MM (ao 26 0 (AV.agg [p.ae,p.ag,p.au]) (bH _ _ (aZ _ _ aA)) k!)<|MM (ao 26 0 (AV.agg [p.ae,p.ag,p.au]) (bH _ _ (aZ _ _ aA)) k!)<|EE xb<|EE uv<|VV (cf 31 false false .i64 (cL p) (cG p))<|CC<|BC f2<|BC f2<|BV f2 (vE 9 false false (cc p).1 (cd p).1)<|VV (aE (a:=some (AV.bool true)) (b:=some (AV.bool (!decide ((cc p).1=((cd p).1))))) f2)<|CC<|BC f3<|BC f3<|BV f3 (cf 31 false false .i64 (cc p).2 (cd p).2)<|VV (aE (a:=some (AV.bool true)) (b:=some (AV.bool (!decide ((cc p).2=((cd p).2))))) f3)<|CC<|BM f4 (ao 26 0 (AV.agg [p.ae,p.ag,p.au]) (bH _ _ (aZ _ _ aA)) k!)<|BM f4 (ao 26 0 (AV.agg [o.ae,o.ag,o.au]) (bH _ _ bC) k!)<|BM f4 (ao 26 0 (AV.agg [p.ae,p.ag,p.au]) (bH _ _ (aZ _ _ aA)) k!)<|BM f4 (ao 26 0 (AV.agg [o.ae,o.ag,o.au]) (bH _ _ bC) k!)<|BB f4<|EE J'<|BB f4<|EE Gs<|BC f4<|VV (aE (a:=some (AV.bool true)) (b:=some (AV.bool (!((fM p o)==(fN p o))))) f4)<|CC<|BM f5 (ao 26 0 (AV.agg [p.ae,p.ag,p.au]) (bH _ _ (aZ _ _ aA)) k!)<|BM f5 (ao 26 0 (AV.agg [p.ae,p.ag,p.au]) (bH _ _ (aZ _ _ aA)) k!)<|BB f5<|EE Ql<|BC f5<|VV (aE (a:=some (AV.bool true)) (b:=some (AV.bool (!(fM p p)))) f5)<|HH (ao 26 0 (AV.agg [p.ae,p.ag,p.au]) (bH _ _ (aZ _ _ aA)) k!)<|HH sa<|HH (ao 26 0 (AV.agg [p.ae,p.ag,p.au]) (bH _ _ (aZ _ _ aA)) k!)<|HH sa<|HH (ao 26 0 (AV.agg [p.ae,p.ag,p.au]) (bH _ _ (aZ _ _ aA)) k!)<|HH sa<|HH (ao 26 0 (AV.agg [p.ae,p.ag,p.au]) (bH _ _ (aZ _ _ aA)) k!)<|HH sa<|HH (ao 26 0 (AV.agg [o.ae,o.ag,o.au]) (bH _ _ bC) k!)<|HH Oh<|HH (ao 26 0 (AV.agg [p.ae,p.ag,p.au]) (bH _ _ (aZ _ _ aA)) k!)<|HH sa<|HH (ao 26 0 (AV.agg [p.ae,p.ag,p.au]) (bH _ _ (aZ _ _ aA)) k!)<|HH sa<|HH (ao 26 0 (AV.agg [o.ae,o.ag,o.au]) (bH _ _ bC) k!)<|HH Oh<|HH (ao 26 0 (AV.agg [o.ae,o.ag,o.au]) (bH _ _ bC) k!)<|HH Oh<|HH (ao 26 0 (AV.agg [p.ae,p.ag,p.au]) (bH _ _ (aZ _ _ aA)) k!)<|HH sa<|HH (ao 26 0 (AV.agg [p.ae,p.ag,p.au]) (bH _ _ (aZ _ _ aA)) k!)<|HH sa<|BM f6 (ao 28 0 (AV.agg [(AV.str g.name),(Zi g.acc),(Zi g.aW),(Zi g.since)]) CO k!)<|CC<|EE Xo<|CN 5<|MM (ao 28 0 (AV.agg [(AV.str g.name),(Zi g.acc),(Zi g.aW),(Zi g.since)]) CO k!)<|CC<|EE Xp<|CN 7<|VV (eA 3 false false .i64 (fj g t).1 (fk g t).1)<|CC<|BB f7<|BB f7<|BV f7 (p_ false f7)<|CC<|FF<|CN 2<|ZZ) k!) k!) gv rfl
theorem qF {z:Int} (h1: -1000000000≤z) (h2:z≤1000000000):aN z=ay 20 z:=by rw[XX o! o!];rfl
theorem P1 {p:bO} (f:oY p) {i0:Nat} (h0:i0<p.ab.length):∀(k i:Nat) (v:List UInt8),i+k=(p.ab.g i0).ar.length→jD p i0 k i v=kZ p i0 k i v
 | 0,_,_,_=>rfl
 | k+1,i,v,h=>by
   obtain ⟨_,a1,a2,b1,b2,c1,c2⟩:=f.IA h0 (show i<_ by omega)
   rw[jD,kZ,P1 f h0 k (i+1) _ o!,qF o! a2,qF o! b2,qF o! o!]
   congr 1
   simp [gV,Lib.join]
theorem P0 {p:bO} (f:oY p):∀(k i:Nat) (v:List UInt8),i+k=p.ab.length→db p k i v=fS p k i v
 | 0,_,_,_=>rfl
 | k+1,i,v,h=>by
   obtain ⟨_,a1,a2,b1,b2,c1,c2,d1,d2,e1,e2,_⟩:=(f.az (show i<_ by omega)).1
   rw[db,fS,P0 f k (i+1) _ o!,P1 f o! _ 0 _ o!,qF a1 a2,qF b1 b2,qF o! o!,qF o! o!,qF o! o!]
   congr 2
   simp [gV,Lib.join]
theorem P2 {p:bO} (f:oY p):∀(k i:Nat) (v:List UInt8),i+k=p.af.length→du p k i v=iP p k i v
 | 0,_,_,_=>rfl
 | k+1,i,v,h=>by
   obtain ⟨_,_,a1,a2,b1,b2,c1,c2⟩:=f.measure (show i<_ by omega)
   rw[du,iP,P2 f k (i+1) _ o!,qF o! o!,qF o! o!,qF o! o!]
   congr 1
   simp [gV,Lib.join]
theorem P3 {p:bO} (f:oY p):∀(k i:Nat) (v:List UInt8),i+k=p.ai.length→d_ p k i v=mg p k i v
 | 0,_,_,_=>rfl
 | k+1,i,v,h=>by
   obtain ⟨_,_,_,_,a1,a2,b1,b2,_⟩:=f.IB (show i<_ by omega)
   rw[d_,mg,P3 f k (i+1) _ o!,qF a1 a2,qF b1 b2]
   congr 1
   simp [gV,Lib.join]
theorem So (p:bO):cc p=cd p:=by
 rw[cc,cd,←B_]
 by_cases h:cL p=0
 · have f:=tp h
   have e:d_ p p.ai.length 0 (du p p.af.length 0 (db p p.ab.length 0 []))=pZ p:=by
    rw[P0 f _ 0 _ o!,P2 f _ 0 _ o!,P3 f _ 0 _ o!];rfl
   rw[e]
 · rw[decide_eq_false h];rfl
theorem Sp (p o:bO) (g:bn) (t:Int):jE p o g t=true:=by
 rw[jE,So,B_,UI,R7,NT]
 cases iX p with
 | true=>rfl
 | false=>cases iX o with
   | true=>rfl
   | false=>simp
open Go.ChangeShapes Go.WideShapes Go.RowKit
structure Gx (φ φ':Ph) (h h':ax) (w:World):Prop where
 ok:OK env φ' h' w
 le:φ.le φ'
 ro:wR h'
 has:Has h h'
 nx:h.nx≤h'.nx
 tidy:Tidy h'
theorem Gx.refl {φ:Ph} {h:ax} {w:World} (ok:OK env φ h w) (ro:wR h) (y:Tidy h):Gx φ φ h h w:=⟨ok,Ph.le_refl _,ro,Has.refl _,Nat.le_refl _,y⟩
theorem Gx.trans {a b c:Ph} {h1 h2 h3:ax} {w:World} (x:Gx a b h1 h2 w) (y:Gx b c h2 h3 w):Gx a c h1 h3 w:=⟨y.ok,Ph.le_trans x.le y.le,y.ro,x.has.trans y.has,Nat.le_trans x.nx y.nx,y.tidy⟩
section
variable {H:Type} (enc:TypeId×Value→H) (w:World) (base:Nat) (spare:Nat→Bool) (held:Bool)
def Small (t:TypeId) (d:DataW H):Prop:=(DataW.weights env.P t d).all (· ≤reachBytes)=true
theorem Small.all {e:TypeId}:∀{l:List (DataW H)},(DataW.weightsAll env.P e l).all (· ≤reachBytes)=true→∀d∈l,Small e d
 | [],_,d,hd=>by cases hd
 | x::l,h,d,hd=>by
   rw[DataW.weightsAll,List.all_append,Bool.and_eq_true] at h
   rcases List.mem_cons.1 hd with rfl | hd
   · exact h.1
   · exact Small.all h.2 d hd
theorem Small.struct {t:TypeId} {fs:Array Field} {parts:List (DataW H)} (ht:env.P.underlying t=some (.struct fs)) (h:Small t (.agg parts)):(DataW.weightsEach env.P (fs.toList.map (·.type)) parts).all (· ≤reachBytes)=true:=by
 unfold Small at h
 rw[DataW.weights,ht] at h
 exact h
theorem Small.b4 {t:TypeId} {ts:List TypeId} {d:DataW H} {ds:List (DataW H)} (h:(DataW.weightsEach env.P (t::ts) (d::ds)).all (· ≤reachBytes)=true):Small t d∧(DataW.weightsEach env.P ts ds).all (· ≤reachBytes)=true:=by
 rw[DataW.weightsEach,List.all_append,Bool.and_eq_true] at h
 exact h
theorem Mx {n:Nat} (h:n≤reachBytes):n<2^60:=Nat.lt_of_le_of_lt h (by unfold reachBytes;decide)
theorem aJ.VM {α:Type} [aH α] {h:ax} {v:AV} {l:List α} {m:Nat} (x:aJ h v l) (e:AV.map m=v):False:=by
 rcases x.known with rfl | rfl | ⟨p,o,n,c,b,rfl,_⟩<;>cases e
def pK {D:Type} (t:TypeId) (sz:Nat) (c:D→List AV) (ok:ax→D→Prop):Prop:=
 ∀(φ:Ph) (h:ax),OK env φ h w→wR h→Tidy h→∀(cs:List Value) (y:DataW H×List MemPlace) (n:Nat),cs.length=sz→Small t y.1→DataW.trod enc env.P w base spare held n t cs=some y→
  ∃φ' h' x,Gx φ φ' h h' w∧LR φ' (c x) cs∧ok h' x
variable {enc w base spare held}
theorem eJ {k:IntKind} {t:TypeId} (ht:env.P.underlying t=some (.int k)):pK enc w base spare held t 1 (fun x:Int=> [.int k x]) (fun _ _=>True):=fun φ h ok ro y cs z n _ hw hv=>by
 obtain ⟨m,rfl,_,_⟩:=DataW.trod_int ht hv
 exact ⟨φ,h,m,Gx.refl ok ro y,LR.cons (VR.int k m) (LR.nil _),trivial⟩
theorem uE {t:TypeId} (ht:env.P.underlying t=some .string):pK enc w base spare held t 1 (fun x:List UInt8=> [.str x]) (fun _ x=>x.length<2^60):=fun φ h ok ro y cs z n _ hw hv=>by
 obtain ⟨s,rfl,rfl,hs⟩:=DataW.trod_string ht hv
 refine ⟨φ,h,s.data.toList,Gx.refl ok ro y,LR.cons (VR.str s) (LR.nil _),?_⟩
 unfold Small at hw
 rw[DataW.weights,List.all_cons,Bool.and_eq_true] at hw
 exact Mx (of_decide_eq_true hw.1)
theorem pL {α:Type} [aH α] {t:TypeId} (ht:env.P.underlying t=some (.slice (aH.e α))) (hs:env.P.cellsOf (aH.e α)=aH.n α) (hby:0<env.P.bytesOf (aH.e α)) (hm:∀(h:ax) (x:α) m,aH.ok h x→AV.map m ∉ aH.c x)
 (he:pK enc w base spare held (aH.e α) (aH.n α) (aH.c (α:=α)) aH.ok):pK enc w base spare held t 1 (fun x:AV×List α=> [x.1]) (fun h x=>aJ h x.1 x.2):=fun φ h ok ro y cs z fuel _ hw hv=>by
 have SD:=aH.pos (α:=α)
 rcases DataW.trod_slice ht hv with ⟨rfl,_⟩ | ⟨a,len,cap,elems,rest,n,_,rfl,rfl,hb,Zh,hcm,adz,fG,_,_⟩
 · exact ⟨φ,h,(.aX,[]),Gx.refl ok ro y,LR.cons VR.aX (LR.nil _),⟨aH.size,(Nat.zero_mul _).symm,Nat.pow_pos (by decide),rfl,.inl rfl⟩,.inl rfl,fun x hx=>by cases hx⟩
 rcases Nat.eq_zero_or_pos len with h0 | h0
 · subst h0
   exact ⟨φ,h,(.eR,[]),Gx.refl ok ro y,LR.cons (VR.eR a cap) (LR.nil _),⟨aH.size,(Nat.zero_mul _).symm,Nat.pow_pos (by decide),rfl,.inl rfl⟩,.inr (.inl rfl),fun x hx=>by cases hx⟩
 have C6:len<2^60∧(DataW.weightsAll env.P (aH.e α) (elems.map (·.1))).all (· ≤reachBytes)=true:=by
  unfold Small at hw
  rw[DataW.weights,ht] at hw
  simp only[List.all_cons,List.all_append,Bool.and_eq_true,List.length_map] at hw
  refine ⟨Mx (Nat.le_trans ?_ (of_decide_eq_true hw.1)),hw.2.1⟩
  rw[adz]
  exact Nat.le_trans (Nat.le_add_right _ _) (Nat.le_mul_of_pos_right _ hby)
 have all:∀m,m≤len→∃(φ':Ph) (h':ax) (xs:List α),Gx φ φ' h h' w∧xs.length=m∧(∀x∈xs,aH.ok h' x)∧∀(i:Nat) (x:α),xs[i]? =some x→∀j v,(aH.c x)[j]? =some v→∃y,w.cell? ((a.add (i*aH.n α)).add j)=some y∧VR φ' v y:=by
  intro m
  induction m with
  | zero=>exact fun _=>⟨φ,h,[],Gx.refl ok ro y,rfl,fun _ hx=>(by cases hx),fun i xi hx=>(by simp at hx)⟩
  | succ m ih=>
    intro Xb
    obtain ⟨φ1,h1,xs,g1,hl,hq,hx⟩:=ih o!
    have h2:=fG m o!
    rw[List.getElem?_eq_getElem o!,hs] at h2
    simp only[Option.bind_eq_some_iff] at h2
    obtain ⟨ci,hc1,hc2⟩:=h2
    obtain ⟨_,Vi,pn⟩:=World.cells?_some hc1
    obtain ⟨φ2,h2,x,g2,AM,my⟩:=he φ1 h1 g1.ok g1.ro g1.tidy ci _ n Vi (Small.all C6.2 _ (List.mem_map.2 ⟨_,List.getElem_mem _,rfl⟩)) hc2
    refine ⟨φ2,h2,xs++[x],g1.trans g2,by simp [hl],fun z hz=>?_,fun i z hz=>?_⟩
    · rcases List.mem_append.1 hz with h | h
      · exact aH.mono g2.has (hq z h)
      · simp at h;subst h;exact my
    · by_cases hi:i<xs.length
      · rw[List.getElem?_append_left hi] at hz
        intro j v hj
        obtain ⟨q,e1,e2⟩:=hx i z hz j v hj
        exact ⟨q,e1,e2.mono g2.le⟩
      · rw[List.getElem?_append_right o!] at hz
        have:i - xs.length=0:=by
         have:=(List.getElem?_eq_some_iff.1 hz).1
         simp at this;omega
        rw[this] at hz
        simp at hz;subst hz
        have:i=m:=by omega
        subst this
        intro j v hj
        have oQ:j<(aH.c x).length:=(List.getElem?_eq_some_iff.1 hj).1
        have hj2:j<ci.length:=by rw[←AM.1];exact oQ
        exact ⟨ci[j],by rw[pn j (by rw[Vi] at hj2;exact hj2),List.getElem?_eq_getElem hj2],AM.2 j v _ hj (List.getElem?_eq_getElem hj2)⟩
 obtain ⟨φ1,h1,xs,g1,hl,hq,hx⟩:=all len (Nat.le_refl _)
 have hfl:=fP aH.len xs
 have My:a.spot=none:=by
  have hx0:xs[0]? =some (xs[0]'o!):=List.getElem?_eq_getElem o!
  obtain ⟨y,hy,_⟩:=hx 0 _ hx0 0 ((aH.c (xs[0]'o!))[0]'(by rw[aH.len];exact SD)) (List.getElem?_eq_getElem _)
  simp only[Nat.zero_mul,Addr.add,if_true] at hy
  unfold World.cell? at hy
  split at hy
  · cases hsp:a.spot with
    | none=>rfl
    | some _=>rw[hsp] at hy;simp at hy
  · cases hy
 have abx:∀i j,(a.add (i*aH.n α)).add j=⟨a.block,a.off+(i*aH.n α+j),none⟩:=by
  intro i j
  obtain ⟨b,o,sp⟩:=a
  simp only at My
  subst My
  unfold Addr.add
  by_cases h1:i*aH.n α=0<;>by_cases h2:j=0<;>simp [h1,h2,Nat.add_assoc]
 have ea:xs.flatMap aH.c≠ []:=by
  intro e
  have:=congrArg List.length e
  rw[hfl,hl] at this
  have:=Nat.mul_pos h0 SD
  simp at *
  omega
 obtain ⟨h',hn,r6,hle,adA,aeu,hg,hold,hI⟩:=g1.ok.show g1.ro (b:=a.block) (off:=a.off) (e:=aH.e α) ea (fun m Xb=>by
  have:AV.map m∈xs.flatMap aH.c:=by rw[Xb];simp
  obtain ⟨z,hz,hmz⟩:=List.mem_flatMap.1 this
  exact hm h1 z m (hq z hz) hmz) (fun k v hk=>by
  have GI:k<(xs.flatMap aH.c).length:=(List.getElem?_eq_some_iff.1 hk).1
  have hdm:k/aH.n α*aH.n α+k%aH.n α=k:=by rw[Nat.mul_comm];exact Nat.div_add_mod k _
  have hi:k/aH.n α<xs.length:=by
   rw[hfl] at GI
   exact (Nat.div_lt_iff_lt_mul SD).2 GI
  have hk2:=hk
  rw[←hdm,mF aH.len _ _ _ hi (Nat.mod_lt _ SD)] at hk2
  have hgi:xs[k/aH.n α]? =some (xs.g (k/aH.n α)):=by
   rw[List.g,List.getD_eq_getElem?_getD,List.getElem?_eq_getElem hi];rfl
  obtain ⟨y,hy,hvr⟩:=hx _ _ hgi _ v hk2
  rw[abx,hdm] at hy
  exact ⟨y,hy,hvr⟩)
 have hVR:=VR.slice (φ:=φ1.add h1.nx ⟨a.block,a.off,0⟩) 0 len cap false hI
 have has:Has h1 h':=LX g1.tidy hn
 refine ⟨_,h',(.slice h1.nx 0 len cap false,xs),g1.trans ⟨r6,hle,adA,has,by omega,wZ g1.tidy hn⟩,LR.cons ?_ (LR.nil _),?_⟩
 · obtain ⟨b,o,sp⟩:=a
   simp only at My
   subst My
   exact hVR
 · subst hl
   exact ⟨⟨aH.size,hfl,C6.1,rfl,.inr ⟨h1.nx,0,_,cap,false,_,_,true,rfl,Zh,hg,fun j _=>by rw[Nat.zero_add]⟩⟩,.inr (.inr ⟨_,_,_,_,_,rfl,fun e=>by cases e⟩),fun x hx=>aH.mono has (hq x hx)⟩
end
open Go.ChangeShapes Go.WideShapes Go.RowKit
section
variable {H:Type} {enc:TypeId×Value→H} {w:World} {base:Nat} {spare:Nat→Bool} {held:Bool}
end
open Go.ChangeShapes Go.WideShapes Go.RowKit
section
variable {H:Type} {enc:TypeId×Value→H} {w:World} {base:Nat} {spare:Nat→Bool} {held:Bool}
theorem Az:Tryz.prog.cellsOf 9=1:=by kernel_rfl
theorem iH:Tryz.prog.cellsOf 3=1:=by kernel_rfl
theorem Sq:Tryz.prog.cellsOf 40=2:=by kernel_rfl
theorem U4:pK enc w base spare held 40 2 (aH.c (α:=Span)) aH.ok:=fun φ h0 ok ro ty cs z fuel hl hw hv=>by
 obtain ⟨xs,n,_,rfl,_,wh,hf⟩:=DataW.trod_struct Tryz.underlying40 hv
 obtain ⟨c0,c1,rfl⟩:∃c0 c1,cs=[c0,c1]:=by
  match cs,hl with
  | [c0,c1],_=>exact ⟨_,_,rfl⟩
 obtain ⟨y0,y1,rfl⟩:∃y0 y1,xs=[y0,y1]:=by
  match xs,wh with
  | [y0,y1],_=>exact ⟨_,_,rfl⟩
 have hs:=Small.struct Tryz.underlying40 hw
 obtain ⟨s0,hs⟩:=Small.b4 hs
 have q0:DataW.trod enc Tryz.prog w base spare held n 3 [c0]=some y0:=by simpa [iH] using hf 0 _ rfl
 obtain ⟨φ1,h1,x0,g0,l0,o0⟩:=eJ (t:=3) Tryz.underlying3 _ _ (Gx.refl ok ro ty).ok (Gx.refl ok ro ty).ro (Gx.refl ok ro ty).tidy _ _ _ rfl s0 q0
 have G0:=Gx.trans (Gx.refl ok ro ty) g0
 obtain ⟨s1,hs⟩:=Small.b4 hs
 have q1:DataW.trod enc Tryz.prog w base spare held n 3 [c1]=some y1:=by simpa [iH] using hf 1 _ rfl
 obtain ⟨φ2,h2,x1,g1,l1,o1⟩:=eJ (t:=3) Tryz.underlying3 _ _ G0.ok G0.ro G0.tidy _ _ _ rfl s1 q1
 have G1:=Gx.trans G0 g1
 have L0:=LR.mono (Ph.le_trans (Ph.le_refl _) g1.le) l0
 have L1:=LR.mono (Ph.le_refl _) l1
 exact ⟨_,_,⟨x0,x1⟩,G1,(LR.append L0 (LR.append L1 (LR.nil _))),trivial⟩
theorem I_:Tryz.prog.cellsOf 28=4:=by kernel_rfl
theorem Mz:pK enc w base spare held 28 4 (aH.c (α:=bn)) aH.ok:=fun φ h0 ok ro ty cs z fuel hl hw hv=>by
 obtain ⟨xs,n,_,rfl,_,wh,hf⟩:=DataW.trod_struct Tryz.underlying28 hv
 obtain ⟨c0,c1,c2,c3,rfl⟩:∃c0 c1 c2 c3,cs=[c0,c1,c2,c3]:=by
  match cs,hl with
  | [c0,c1,c2,c3],_=>exact ⟨_,_,_,_,rfl⟩
 obtain ⟨y0,y1,y2,y3,rfl⟩:∃y0 y1 y2 y3,xs=[y0,y1,y2,y3]:=by
  match xs,wh with
  | [y0,y1,y2,y3],_=>exact ⟨_,_,_,_,rfl⟩
 have hs:=Small.struct Tryz.underlying28 hw
 obtain ⟨s0,hs⟩:=Small.b4 hs
 have q0:DataW.trod enc Tryz.prog w base spare held n 9 [c0]=some y0:=by simpa [Az] using hf 0 _ rfl
 obtain ⟨φ1,h1,x0,g0,l0,o0⟩:=uE (t:=9) Tryz.underlying9 _ _ (Gx.refl ok ro ty).ok (Gx.refl ok ro ty).ro (Gx.refl ok ro ty).tidy _ _ _ rfl s0 q0
 have G0:=Gx.trans (Gx.refl ok ro ty) g0
 obtain ⟨s1,hs⟩:=Small.b4 hs
 have q1:DataW.trod enc Tryz.prog w base spare held n 3 [c1]=some y1:=by simpa [iH] using hf 1 _ rfl
 obtain ⟨φ2,h2,x1,g1,l1,o1⟩:=eJ (t:=3) Tryz.underlying3 _ _ G0.ok G0.ro G0.tidy _ _ _ rfl s1 q1
 have G1:=Gx.trans G0 g1
 obtain ⟨s2,hs⟩:=Small.b4 hs
 have q2:DataW.trod enc Tryz.prog w base spare held n 3 [c2]=some y2:=by simpa [iH] using hf 2 _ rfl
 obtain ⟨φ3,h3,x2,g2,l2,o2⟩:=eJ (t:=3) Tryz.underlying3 _ _ G1.ok G1.ro G1.tidy _ _ _ rfl s2 q2
 have G2:=Gx.trans G1 g2
 obtain ⟨s3,hs⟩:=Small.b4 hs
 have q3:DataW.trod enc Tryz.prog w base spare held n 3 [c3]=some y3:=by simpa [iH] using hf 3 _ rfl
 obtain ⟨φ4,h4,x3,g3,l3,o3⟩:=eJ (t:=3) Tryz.underlying3 _ _ G2.ok G2.ro G2.tidy _ _ _ rfl s3 q3
 have G3:=Gx.trans G2 g3
 have L0:=LR.mono (Ph.le_trans (Ph.le_trans (Ph.le_trans (Ph.le_refl _) g1.le) g2.le) g3.le) l0
 have L1:=LR.mono (Ph.le_trans (Ph.le_trans (Ph.le_refl _) g2.le) g3.le) l1
 have L2:=LR.mono (Ph.le_trans (Ph.le_refl _) g3.le) l2
 have L3:=LR.mono (Ph.le_refl _) l3
 exact ⟨_,_,⟨x0,x1,x2,x3⟩,G3,(LR.append L0 (LR.append L1 (LR.append L2 (LR.append L3 (LR.nil _))))),o0⟩
theorem Sr:Tryz.prog.cellsOf 41=1:=by kernel_rfl
theorem U5:pK enc w base spare held 41 1 (fun x:AV×List bn=> [x.1]) (fun h x=>aJ h x.1 x.2):=pL (t:=41) Tryz.underlying41 I_ (of_decide_eq_true (by kernel_rfl)) (fun _ x m _ h=>by cases x;simp [aH.c,bn.c] at h) Mz
theorem Ss:Tryz.prog.cellsOf 43=7:=by kernel_rfl
theorem U6:pK enc w base spare held 43 7 (aH.c (α:=aQ)) aH.ok:=fun φ h0 ok ro ty cs z fuel hl hw hv=>by
 obtain ⟨xs,n,_,rfl,_,wh,hf⟩:=DataW.trod_struct Tryz.underlying43 hv
 obtain ⟨c0,c1,c2,c3,c4,c5,c6,rfl⟩:∃c0 c1 c2 c3 c4 c5 c6,cs=[c0,c1,c2,c3,c4,c5,c6]:=by
  match cs,hl with
  | [c0,c1,c2,c3,c4,c5,c6],_=>exact ⟨_,_,_,_,_,_,_,rfl⟩
 obtain ⟨y0,y1,y2,y3,y4,y5,rfl⟩:∃y0 y1 y2 y3 y4 y5,xs=[y0,y1,y2,y3,y4,y5]:=by
  match xs,wh with
  | [y0,y1,y2,y3,y4,y5],_=>exact ⟨_,_,_,_,_,_,rfl⟩
 have hs:=Small.struct Tryz.underlying43 hw
 obtain ⟨s0,hs⟩:=Small.b4 hs
 have q0:DataW.trod enc Tryz.prog w base spare held n 9 [c0]=some y0:=by simpa [Az] using hf 0 _ rfl
 obtain ⟨φ1,h1,x0,g0,l0,o0⟩:=uE (t:=9) Tryz.underlying9 _ _ (Gx.refl ok ro ty).ok (Gx.refl ok ro ty).ro (Gx.refl ok ro ty).tidy _ _ _ rfl s0 q0
 have G0:=Gx.trans (Gx.refl ok ro ty) g0
 obtain ⟨s1,hs⟩:=Small.b4 hs
 have q1:DataW.trod enc Tryz.prog w base spare held n 40 [c1,c2]=some y1:=by simpa [Sq] using hf 1 _ rfl
 obtain ⟨φ2,h2,x1,g1,l1,o1⟩:=U4 _ _ G0.ok G0.ro G0.tidy _ _ _ rfl s1 q1
 have G1:=Gx.trans G0 g1
 obtain ⟨s2,hs⟩:=Small.b4 hs
 have q2:DataW.trod enc Tryz.prog w base spare held n 3 [c3]=some y2:=by simpa [iH] using hf 2 _ rfl
 obtain ⟨φ3,h3,x2,g2,l2,o2⟩:=eJ (t:=3) Tryz.underlying3 _ _ G1.ok G1.ro G1.tidy _ _ _ rfl s2 q2
 have G2:=Gx.trans G1 g2
 obtain ⟨s3,hs⟩:=Small.b4 hs
 have q3:DataW.trod enc Tryz.prog w base spare held n 3 [c4]=some y3:=by simpa [iH] using hf 3 _ rfl
 obtain ⟨φ4,h4,x3,g3,l3,o3⟩:=eJ (t:=3) Tryz.underlying3 _ _ G2.ok G2.ro G2.tidy _ _ _ rfl s3 q3
 have G3:=Gx.trans G2 g3
 obtain ⟨s4,hs⟩:=Small.b4 hs
 have q4:DataW.trod enc Tryz.prog w base spare held n 3 [c5]=some y4:=by simpa [iH] using hf 4 _ rfl
 obtain ⟨φ5,h5,x4,g4,l4,o4⟩:=eJ (t:=3) Tryz.underlying3 _ _ G3.ok G3.ro G3.tidy _ _ _ rfl s4 q4
 have G4:=Gx.trans G3 g4
 obtain ⟨s5,hs⟩:=Small.b4 hs
 have q5:DataW.trod enc Tryz.prog w base spare held n 41 [c6]=some y5:=by simpa [Sr] using hf 5 _ rfl
 obtain ⟨φ6,h6,x5,g5,l5,o5⟩:=U5 _ _ G4.ok G4.ro G4.tidy _ _ _ rfl s5 q5
 have G5:=Gx.trans G4 g5
 have L0:=LR.mono (Ph.le_trans (Ph.le_trans (Ph.le_trans (Ph.le_trans (Ph.le_trans (Ph.le_refl _) g1.le) g2.le) g3.le) g4.le) g5.le) l0
 have L1:=LR.mono (Ph.le_trans (Ph.le_trans (Ph.le_trans (Ph.le_trans (Ph.le_refl _) g2.le) g3.le) g4.le) g5.le) l1
 have L2:=LR.mono (Ph.le_trans (Ph.le_trans (Ph.le_trans (Ph.le_refl _) g3.le) g4.le) g5.le) l2
 have L3:=LR.mono (Ph.le_trans (Ph.le_trans (Ph.le_refl _) g4.le) g5.le) l3
 have L4:=LR.mono (Ph.le_trans (Ph.le_refl _) g5.le) l4
 have L5:=LR.mono (Ph.le_refl _) l5
 exact ⟨_,_,⟨x0,x1.vG,x1.qm,x2,x3,x4,x5.1,x5.2⟩,G5,(LR.append L0 (LR.append L1 (LR.append L2 (LR.append L3 (LR.append L4 (LR.append L5 (LR.nil _))))))),⟨o0,o5⟩⟩
theorem Su:Tryz.prog.cellsOf 22=1:=by kernel_rfl
theorem U7:pK enc w base spare held 22 1 (fun x:AV×List aQ=> [x.1]) (fun h x=>aJ h x.1 x.2):=pL (t:=22) Tryz.underlying22 Ss (of_decide_eq_true (by kernel_rfl)) (fun _ x m o h=>by
 simp only[aH.c,aQ.c,List.mem_cons,List.not_mem_nil,or_false,reduceCtorEq,false_or] at h
 exact aJ.VM (o.2) h) U6
theorem Sv:Tryz.prog.cellsOf 45=5:=by kernel_rfl
theorem U8:pK enc w base spare held 45 5 (aH.c (α:=aL)) aH.ok:=fun φ h0 ok ro ty cs z fuel hl hw hv=>by
 obtain ⟨xs,n,_,rfl,_,wh,hf⟩:=DataW.trod_struct Tryz.underlying45 hv
 obtain ⟨c0,c1,c2,c3,c4,rfl⟩:∃c0 c1 c2 c3 c4,cs=[c0,c1,c2,c3,c4]:=by
  match cs,hl with
  | [c0,c1,c2,c3,c4],_=>exact ⟨_,_,_,_,_,rfl⟩
 obtain ⟨y0,y1,y2,y3,y4,rfl⟩:∃y0 y1 y2 y3 y4,xs=[y0,y1,y2,y3,y4]:=by
  match xs,wh with
  | [y0,y1,y2,y3,y4],_=>exact ⟨_,_,_,_,_,rfl⟩
 have hs:=Small.struct Tryz.underlying45 hw
 obtain ⟨s0,hs⟩:=Small.b4 hs
 have q0:DataW.trod enc Tryz.prog w base spare held n 9 [c0]=some y0:=by simpa [Az] using hf 0 _ rfl
 obtain ⟨φ1,h1,x0,g0,l0,o0⟩:=uE (t:=9) Tryz.underlying9 _ _ (Gx.refl ok ro ty).ok (Gx.refl ok ro ty).ro (Gx.refl ok ro ty).tidy _ _ _ rfl s0 q0
 have G0:=Gx.trans (Gx.refl ok ro ty) g0
 obtain ⟨s1,hs⟩:=Small.b4 hs
 have q1:DataW.trod enc Tryz.prog w base spare held n 9 [c1]=some y1:=by simpa [Az] using hf 1 _ rfl
 obtain ⟨φ2,h2,x1,g1,l1,o1⟩:=uE (t:=9) Tryz.underlying9 _ _ G0.ok G0.ro G0.tidy _ _ _ rfl s1 q1
 have G1:=Gx.trans G0 g1
 obtain ⟨s2,hs⟩:=Small.b4 hs
 have q2:DataW.trod enc Tryz.prog w base spare held n 3 [c2]=some y2:=by simpa [iH] using hf 2 _ rfl
 obtain ⟨φ3,h3,x2,g2,l2,o2⟩:=eJ (t:=3) Tryz.underlying3 _ _ G1.ok G1.ro G1.tidy _ _ _ rfl s2 q2
 have G2:=Gx.trans G1 g2
 obtain ⟨s3,hs⟩:=Small.b4 hs
 have q3:DataW.trod enc Tryz.prog w base spare held n 3 [c3]=some y3:=by simpa [iH] using hf 3 _ rfl
 obtain ⟨φ4,h4,x3,g3,l3,o3⟩:=eJ (t:=3) Tryz.underlying3 _ _ G2.ok G2.ro G2.tidy _ _ _ rfl s3 q3
 have G3:=Gx.trans G2 g3
 obtain ⟨s4,hs⟩:=Small.b4 hs
 have q4:DataW.trod enc Tryz.prog w base spare held n 3 [c4]=some y4:=by simpa [iH] using hf 4 _ rfl
 obtain ⟨φ5,h5,x4,g4,l4,o4⟩:=eJ (t:=3) Tryz.underlying3 _ _ G3.ok G3.ro G3.tidy _ _ _ rfl s4 q4
 have G4:=Gx.trans G3 g4
 have L0:=LR.mono (Ph.le_trans (Ph.le_trans (Ph.le_trans (Ph.le_trans (Ph.le_refl _) g1.le) g2.le) g3.le) g4.le) l0
 have L1:=LR.mono (Ph.le_trans (Ph.le_trans (Ph.le_trans (Ph.le_refl _) g2.le) g3.le) g4.le) l1
 have L2:=LR.mono (Ph.le_trans (Ph.le_trans (Ph.le_refl _) g3.le) g4.le) l2
 have L3:=LR.mono (Ph.le_trans (Ph.le_refl _) g4.le) l3
 have L4:=LR.mono (Ph.le_refl _) l4
 exact ⟨_,_,⟨x0,x1,x2,x3,x4⟩,G4,(LR.append L0 (LR.append L1 (LR.append L2 (LR.append L3 (LR.append L4 (LR.nil _)))))),⟨o0,o1⟩⟩
theorem Sw:Tryz.prog.cellsOf 23=1:=by kernel_rfl
theorem U9:pK enc w base spare held 23 1 (fun x:AV×List aL=> [x.1]) (fun h x=>aJ h x.1 x.2):=pL (t:=23) Tryz.underlying23 Sv (of_decide_eq_true (by kernel_rfl)) (fun _ x m _ h=>by cases x;simp [aH.c,aL.c] at h) U8
theorem Sx:Tryz.prog.cellsOf 71=4:=by kernel_rfl
theorem U_:pK enc w base spare held 71 4 (aH.c (α:=bF)) aH.ok:=fun φ h0 ok ro ty cs z fuel hl hw hv=>by
 obtain ⟨xs,n,_,rfl,_,wh,hf⟩:=DataW.trod_struct Tryz.underlying71 hv
 obtain ⟨c0,c1,c2,c3,rfl⟩:∃c0 c1 c2 c3,cs=[c0,c1,c2,c3]:=by
  match cs,hl with
  | [c0,c1,c2,c3],_=>exact ⟨_,_,_,_,rfl⟩
 obtain ⟨y0,y1,y2,y3,rfl⟩:∃y0 y1 y2 y3,xs=[y0,y1,y2,y3]:=by
  match xs,wh with
  | [y0,y1,y2,y3],_=>exact ⟨_,_,_,_,rfl⟩
 have hs:=Small.struct Tryz.underlying71 hw
 obtain ⟨s0,hs⟩:=Small.b4 hs
 have q0:DataW.trod enc Tryz.prog w base spare held n 3 [c0]=some y0:=by simpa [iH] using hf 0 _ rfl
 obtain ⟨φ1,h1,x0,g0,l0,o0⟩:=eJ (t:=3) Tryz.underlying3 _ _ (Gx.refl ok ro ty).ok (Gx.refl ok ro ty).ro (Gx.refl ok ro ty).tidy _ _ _ rfl s0 q0
 have G0:=Gx.trans (Gx.refl ok ro ty) g0
 obtain ⟨s1,hs⟩:=Small.b4 hs
 have q1:DataW.trod enc Tryz.prog w base spare held n 3 [c1]=some y1:=by simpa [iH] using hf 1 _ rfl
 obtain ⟨φ2,h2,x1,g1,l1,o1⟩:=eJ (t:=3) Tryz.underlying3 _ _ G0.ok G0.ro G0.tidy _ _ _ rfl s1 q1
 have G1:=Gx.trans G0 g1
 obtain ⟨s2,hs⟩:=Small.b4 hs
 have q2:DataW.trod enc Tryz.prog w base spare held n 3 [c2]=some y2:=by simpa [iH] using hf 2 _ rfl
 obtain ⟨φ3,h3,x2,g2,l2,o2⟩:=eJ (t:=3) Tryz.underlying3 _ _ G1.ok G1.ro G1.tidy _ _ _ rfl s2 q2
 have G2:=Gx.trans G1 g2
 obtain ⟨s3,hs⟩:=Small.b4 hs
 have q3:DataW.trod enc Tryz.prog w base spare held n 3 [c3]=some y3:=by simpa [iH] using hf 3 _ rfl
 obtain ⟨φ4,h4,x3,g3,l3,o3⟩:=eJ (t:=3) Tryz.underlying3 _ _ G2.ok G2.ro G2.tidy _ _ _ rfl s3 q3
 have G3:=Gx.trans G2 g3
 have L0:=LR.mono (Ph.le_trans (Ph.le_trans (Ph.le_trans (Ph.le_refl _) g1.le) g2.le) g3.le) l0
 have L1:=LR.mono (Ph.le_trans (Ph.le_trans (Ph.le_refl _) g2.le) g3.le) l1
 have L2:=LR.mono (Ph.le_trans (Ph.le_refl _) g3.le) l2
 have L3:=LR.mono (Ph.le_refl _) l3
 exact ⟨_,_,⟨x0,x1,x2,x3⟩,G3,(LR.append L0 (LR.append L1 (LR.append L2 (LR.append L3 (LR.nil _))))),trivial⟩
theorem Sy:Tryz.prog.cellsOf 24=1:=by kernel_rfl
theorem U':pK enc w base spare held 24 1 (fun x:AV×List bF=> [x.1]) (fun h x=>aJ h x.1 x.2):=pL (t:=24) Tryz.underlying24 Sx (of_decide_eq_true (by kernel_rfl)) (fun _ x m _ h=>by cases x;simp [aH.c,bF.c] at h) U_
theorem I':Tryz.prog.cellsOf 26=3:=by kernel_rfl
theorem MA:pK enc w base spare held 26 3 (aH.c (α:=bO)) aH.ok:=fun φ h0 ok ro ty cs z fuel hl hw hv=>by
 obtain ⟨xs,n,_,rfl,_,wh,hf⟩:=DataW.trod_struct Tryz.underlying26 hv
 obtain ⟨c0,c1,c2,rfl⟩:∃c0 c1 c2,cs=[c0,c1,c2]:=by
  match cs,hl with
  | [c0,c1,c2],_=>exact ⟨_,_,_,rfl⟩
 obtain ⟨y0,y1,y2,rfl⟩:∃y0 y1 y2,xs=[y0,y1,y2]:=by
  match xs,wh with
  | [y0,y1,y2],_=>exact ⟨_,_,_,rfl⟩
 have hs:=Small.struct Tryz.underlying26 hw
 obtain ⟨s0,hs⟩:=Small.b4 hs
 have q0:DataW.trod enc Tryz.prog w base spare held n 22 [c0]=some y0:=by simpa [Su] using hf 0 _ rfl
 obtain ⟨φ1,h1,x0,g0,l0,o0⟩:=U7 _ _ (Gx.refl ok ro ty).ok (Gx.refl ok ro ty).ro (Gx.refl ok ro ty).tidy _ _ _ rfl s0 q0
 have G0:=Gx.trans (Gx.refl ok ro ty) g0
 obtain ⟨s1,hs⟩:=Small.b4 hs
 have q1:DataW.trod enc Tryz.prog w base spare held n 23 [c1]=some y1:=by simpa [Sw] using hf 1 _ rfl
 obtain ⟨φ2,h2,x1,g1,l1,o1⟩:=U9 _ _ G0.ok G0.ro G0.tidy _ _ _ rfl s1 q1
 have G1:=Gx.trans G0 g1
 obtain ⟨s2,hs⟩:=Small.b4 hs
 have q2:DataW.trod enc Tryz.prog w base spare held n 24 [c2]=some y2:=by simpa [Sy] using hf 2 _ rfl
 obtain ⟨φ3,h3,x2,g2,l2,o2⟩:=U' _ _ G1.ok G1.ro G1.tidy _ _ _ rfl s2 q2
 have G2:=Gx.trans G1 g2
 have L0:=LR.mono (Ph.le_trans (Ph.le_trans (Ph.le_refl _) g1.le) g2.le) l0
 have L1:=LR.mono (Ph.le_trans (Ph.le_refl _) g2.le) l1
 have L2:=LR.mono (Ph.le_refl _) l2
 exact ⟨_,_,⟨x0.1,x0.2,x1.1,x1.2,x2.1,x2.2⟩,G2,(LR.append L0 (LR.append L1 (LR.append L2 (LR.nil _)))),⟨((o0.has g1.has).has g2.has),(o1.has g2.has),o2⟩⟩
end
end
end Go.Proofs.aM
