import Derived.Test.YtmbkbhleedecdaaGreatDoorW0
import Derived.Test.YtmbkbhleedecdaaGreatDoorW3
import Derived.Test.YtmbkbhleedecdaaGreatDoorW4
import Derived.Test.YtmbkbhleedecdaaGreatDoorW2
namespace Go.Proofs.aM
open Go.Proofs Ab
noncomputable section
set_option maxRecDepth 100000
set_option maxHeartbeats 4000000
set_option linter.unusedVariables false
set_option linter.unusedSimpArgs false
def lI:Code:=(Tryz.f9.body).getD .skip
theorem mb:Tryz.f9.body=some lI:=by kernel_rfl
def Ir:Code:=(b5 lI).getD 0 .skip
def Is:Code:=(b5 lI).getD 1 .skip
def It:Code:=(b5 lI).getD 2 .skip
def Iu:Code:=(b5 lI).getD 3 .skip
def jA (i0:Nat) (p:bO):Nat→Nat→Option (Int)
 | 0,_=>none
 | xC+1,i1=>(bif (decide ((p.ab.g i1).name=((p.ab.g i0).name))) then some 6 else jA i0 p xC (i1+1))
theorem rv {d:Nat} {h:ax} (i0:Nat) (p:bO) (f_:Nat) (iW:aJ h p.ae p.ab) (f':aJ h p.ag p.af) (oW:aJ h p.au p.ai) (xD:aH.ok h p) (BW:i0<p.ab.length):∀(k_ i_:Nat) (_:i_+k_=i0) (x:Nat→AV) (hh:ax) (aF:Tidy hh) (aG:Has h hh) (cI:hh.get f_=some (aK.cells [p.ae,p.ag,p.au] 26 false)),aB (cT (d+3)) Is ⟨((x 0)::(Pt f_)::(x 2)::(Zn i0)::(Zn i_)::rx x 5 92 []),hh,[],.no⟩ (.exit 2) hh (fun y=>((y 0)::(Pt f_)::(y 2)::(Zn i0)::rx y 4 93 [])) (fun r y=>((y 0)::(Pt f_)::(Zi r)::(Zn i0)::rx y 4 93 [])) (jA i0 p k_ i_)
 | 0,i1,jh,x,hh,aF,aG,cI=>by
   have oh:=iW.small
   have n_:=f'.small
   have ry:=oW.small
   have yR:=aF _ _ cI
   have q1:(decide (((i1:Nat):Int)<((i0:Nat):Int)))=false:=d!
   exact aB.out rfl (pk (d+3) _ _ hh _ hh (CN 2<|VV (aY 3 false false .i64 ((i1:Nat):Int) ((i0:Nat):Int))<|BB q1<|ZZ) k!) (bW.refl aF) k!
 | xC+1,i1,jh,x,hh,aF,aG,cI=>by
   have oh:=iW.small
   have n_:=f'.small
   have ry:=oW.small
   have yR:=aF _ _ cI
   have q1:(decide (((i1:Nat):Int)<((i0:Nat):Int)))=true:=d!
   obtain ⟨p3,q4,eD⟩:=(iW.has aG).elem (i:=i1) o!
   have ik:b8 env (some (.slice 43)) (some p.ae) (some (Zn i1))=some (AV.ptr p3 q4):=eD
   have ji:bS env hh 9 (AV.ptr p3 (q4+0))=some (AV.str (p.ab.g i1).name):=(iW.has aG).part (t:=9) (j:=0) o! eD k! rfl
   obtain ⟨p7,q8,xE⟩:=(iW.has aG).elem (i:=i0) o!
   have yf:b8 env (some (.slice 43)) (some p.ae) (some (Zn i0))=some (AV.ptr p7 q8):=xE
   have Au:bS env hh 9 (AV.ptr p7 (q8+0))=some (AV.str (p.ab.g i0).name):=(iW.has aG).part (t:=9) (j:=0) o! xE k! rfl
   have Un:AV.same 20 p.ae p.ae=true:=(iW.has aG).same 19
   rcases Bool.eq_false_or_eq_true (decide ((p.ab.g i1).name=((p.ab.g i0).name))) with f1 | f1
   · have fK:=of_decide_eq_true f1
     exact aB.ret 6 (by simp only[jA,f1,ak,ah]) (pk (d+3) _ _ hh _ hh (CN 2<|VV (aY 3 false false .i64 ((i1:Nat):Int) ((i0:Nat):Int))<|BC q1<|MM (ao 22 0 p.ae cI k!)<|CC<|VV ik<|CC<|MM ji<|CC<|MM (ao 22 0 p.ae cI k!)<|CC<|VV yf<|CC<|MM Au<|VV (ni 9 false false (p.ab.g i1).name (p.ab.g i0).name)<|HH (ao 22 0 p.ae cI k!)<|HH Un<|HH ji<|HH (show AV.same 20 (AV.str (p.ab.g i1).name) (AV.str (p.ab.g i1).name)=true from aP 19 _)<|HH (ao 22 0 p.ae cI k!)<|HH Un<|HH Au<|HH (show AV.same 20 (AV.str (p.ab.g i0).name) (AV.str (p.ab.g i0).name)=true from aP 19 _)<|BC f1<|ZZ) k!) (bW.refl aF) k!
   · have fK:=of_decide_eq_false f1
     have Uo:=eZ 3 false true i1 1 o!
     exact aB.round (by simp only[jA,f1,ak,ah]) (pk (d+3) _ _ hh _ hh (CN 2<|VV (aY 3 false false .i64 ((i1:Nat):Int) ((i0:Nat):Int))<|BC q1<|MM (ao 22 0 p.ae cI k!)<|CC<|VV ik<|CC<|MM ji<|CC<|MM (ao 22 0 p.ae cI k!)<|CC<|VV yf<|CC<|MM Au<|VV (ni 9 false false (p.ab.g i1).name (p.ab.g i0).name)<|HH (ao 22 0 p.ae cI k!)<|HH Un<|HH ji<|HH (show AV.same 20 (AV.str (p.ab.g i1).name) (AV.str (p.ab.g i1).name)=true from aP 19 _)<|HH (ao 22 0 p.ae cI k!)<|HH Un<|HH Au<|HH (show AV.same 20 (AV.str (p.ab.g i0).name) (AV.str (p.ab.g i0).name)=true from aP 19 _)<|BC f1<|VV Uo<|CC<|ZZ) k!) (bW.refl aF) _ k! (fun x=>rv i0 p f_ iW f' oW xD BW xC (i1+1) o! x hh aF aG cI)
def gT (p:bO):Nat→Nat→Option (Int)
 | 0,_=>none
 | eC+1,i0=>(bif (!(bM (p.ab.g i0).name)) then some 5 else (match (jA i0 p i0 0) with | none=>(bif (!decide ((aS (p.ab.g i0))=0)) then some (aS (p.ab.g i0)) else gT p eC (i0+1)) | some Xx=>some Xx))
theorem rz {d:Nat} {h:ax} (p:bO) (da:Nat) (bh:aJ h p.ae p.ab) (di:aJ h p.ag p.af) (jR:aJ h p.au p.ai) (oa:aH.ok h p):∀(k_ i_:Nat) (_:i_+k_=p.ab.length) (x:Nat→AV) (hh:ax) (aF:Tidy hh) (aG:Has h hh) (b6:hh.get da=some (aK.cells [p.ae,p.ag,p.au] 26 false)),aB (cT (d+3)) Ir ⟨((x 0)::(Pt da)::(x 2)::(Zn i_)::rx x 4 93 []),hh,[],.no⟩ (.exit 0) hh (fun y=>((y 0)::(Pt da)::rx y 2 95 [])) (fun r y=>((y 0)::(Pt da)::(Zi r)::rx y 3 94 [])) (gT p k_ i_)
 | 0,i0,jh,x,hh,aF,aG,b6=>by
   have dp:=bh.small
   have gd:=di.small
   have og:=jR.small
   have te:=aF _ _ b6
   have eb:cg (some (.slice 43)) (some p.ae)=some (Zn p.ab.length):=(bh.has aG).len
   have q2:(decide (((i0:Nat):Int)<((p.ab.length:Nat):Int)))=false:=d!
   exact aB.out rfl (pk (d+3) _ _ hh _ hh (CN 2<|MM (ao 22 0 p.ae b6 k!)<|VV eb<|VV (aY 3 false false .i64 ((i0:Nat):Int) ((p.ab.length:Nat):Int))<|BB q2<|ZZ) k!) (bW.refl aF) k!
 | eC+1,i0,jh,x,hh,aF,aG,b6=>by
   have dp:=bh.small
   have gd:=di.small
   have og:=jR.small
   have te:=aF _ _ b6
   have eb:cg (some (.slice 43)) (some p.ae)=some (Zn p.ab.length):=(bh.has aG).len
   have q2:(decide (((i0:Nat):Int)<((p.ab.length:Nat):Int)))=true:=d!
   obtain ⟨p4,q5,iM⟩:=(bh.has aG).elem (i:=i0) o!
   have mU:b8 env (some (.slice 43)) (some p.ae) (some (Zn i0))=some (AV.ptr p4 q5):=iM
   have mn:bS env hh 9 (AV.ptr p4 (q5+0))=some (AV.str (p.ab.g i0).name):=(bh.has aG).part (t:=9) (j:=0) o! iM k! rfl
   have k7:=tb (d:=d+2) (p.ab.g i0).name ((bh.has aG).ok (i:=i0) o!).1 aF
   rcases Bool.eq_false_or_eq_true (!(bM (p.ab.g i0).name)) with f1 | f1
   · exact aB.ret 5 (by simp only[gT,f1,ak,ah]) (pk (d+3) _ _ hh _ hh (CN 2<|MM (ao 22 0 p.ae b6 k!)<|VV eb<|VV (aY 3 false false .i64 ((i0:Nat):Int) ((p.ab.length:Nat):Int))<|BC q2<|MM (ao 22 0 p.ae b6 k!)<|CC<|VV mU<|CC<|MM mn<|EE k7<|CC<|BC f1<|ZZ) k!) (bW.refl aF) k!
   · cases oc:jA i0 p i0 0 with
     | none=>
       obtain ⟨yl9,zP,od,im⟩:=aB.n oc (rv (d:=d) (h:=hh) i0 p da (bh.has aG) (di.has aG) (jR.has aG) (aH.mono aG oa) o! i0 0 o! (fun k_=>(((x 0)::(Pt da)::(x 2)::(Zn i0)::(Zi 0)::rx x 5 9 ((Zn i0)::(Pt da)::p.ae::(Zn p.ab.length)::(AV.bool (decide (((i0:Nat):Int)<((p.ab.length:Nat):Int))))::(x 19)::(x 20)::(Pt da)::p.ae::(Zn i0)::(AV.ptr p4 q5)::(AV.ptr p4 (q5+0))::(AV.str (p.ab.g i0).name)::(AV.bool (bM (p.ab.g i0).name))::(AV.bool (!(bM (p.ab.g i0).name)))::rx x 29 68 [])):List AV).getD k_ AV.undef) hh aF (Has.refl _) b6)
       have pw:=im.y
       have L_:hh.nx≤zP.nx:=im.n
       have mH:Has hh zP:=im.a
       obtain ⟨p12,q13,Im⟩:=(bh.has aG).elem (i:=i0) o!
       have FR:b8 env (some (.slice 43)) (some p.ae) (some (Zn i0))=some (AV.ptr p12 q13):=Im
       have QB:bS env zP 43 (AV.ptr p12 q13)=some (AV.agg [(AV.str (p.ab.g i0).name),(Zi (p.ab.g i0).aq),(Zi (p.ab.g i0).aj),(Zi (p.ab.g i0).aO),(Zi (p.ab.g i0).aR),(Zi (p.ab.g i0).bad),(p.ab.g i0).aD]):=((bh.has aG).has mH).load o! Im
       have J':=xF (d:=d) (p.ab.g i0) (aH.mono mH ((bh.has aG).ok (i:=i0) o!)) pw
       rcases Bool.eq_false_or_eq_true (!decide ((aS (p.ab.g i0))=0)) with f3 | f3
       · have kM:=rO f3
         exact aB.ret (aS (p.ab.g i0)) (by simp only[gT,f1,oc,f3,ak,ah]) (pk (d+3) _ _ hh _ zP (CN 2<|MM (ao 22 0 p.ae b6 k!)<|VV eb<|VV (aY 3 false false .i64 ((i0:Nat):Int) ((p.ab.length:Nat):Int))<|BC q2<|MM (ao 22 0 p.ae b6 k!)<|CC<|VV mU<|CC<|MM mn<|EE k7<|CC<|BC f1<|LL od<|CC<|MM (ao 22 0 p.ae (im.a _ _ b6) k!)<|CC<|VV FR<|MM QB<|EE J'<|CN 2<|VV (cf 31 false true .i64 (aS (p.ab.g i0)) 0)<|BB f3<|CN 2<|ZZ) k!) (⟨pw,mH,by omega⟩) k!
       · have kM:=rP f3
         have Kp:=eZ 3 false true i0 1 o!
         exact aB.round (by simp only[gT,f1,oc,f3,ak,ah]) (pk (d+3) _ _ hh _ zP (CN 2<|MM (ao 22 0 p.ae b6 k!)<|VV eb<|VV (aY 3 false false .i64 ((i0:Nat):Int) ((p.ab.length:Nat):Int))<|BC q2<|MM (ao 22 0 p.ae b6 k!)<|CC<|VV mU<|CC<|MM mn<|EE k7<|CC<|BC f1<|LL od<|CC<|MM (ao 22 0 p.ae (im.a _ _ b6) k!)<|CC<|VV FR<|MM QB<|EE J'<|CN 2<|VV (cf 31 false true .i64 (aS (p.ab.g i0)) 0)<|BC f3<|VV Kp<|CC<|ZZ) k!) (⟨pw,mH,by omega⟩) _ k! (fun x=>rz p da bh di jR oa eC (i0+1) o! x zP pw (aG.trans mH) (im.a _ _ b6))
     | some Xx=>
       obtain ⟨yl9,zP,od,im⟩:=aB.r oc (rv (d:=d) (h:=hh) i0 p da (bh.has aG) (di.has aG) (jR.has aG) (aH.mono aG oa) o! i0 0 o! (fun k_=>(((x 0)::(Pt da)::(x 2)::(Zn i0)::(Zi 0)::rx x 5 9 ((Zn i0)::(Pt da)::p.ae::(Zn p.ab.length)::(AV.bool (decide (((i0:Nat):Int)<((p.ab.length:Nat):Int))))::(x 19)::(x 20)::(Pt da)::p.ae::(Zn i0)::(AV.ptr p4 q5)::(AV.ptr p4 (q5+0))::(AV.str (p.ab.g i0).name)::(AV.bool (bM (p.ab.g i0).name))::(AV.bool (!(bM (p.ab.g i0).name)))::rx x 29 68 [])):List AV).getD k_ AV.undef) hh aF (Has.refl _) b6)
       have pw:=im.y
       have L_:hh.nx≤zP.nx:=im.n
       have mH:Has hh zP:=im.a
       exact aB.ret Xx (by simp only[gT,f1,oc,ak,ah]) (pk (d+3) _ _ hh _ zP (CN 2<|MM (ao 22 0 p.ae b6 k!)<|VV eb<|VV (aY 3 false false .i64 ((i0:Nat):Int) ((p.ab.length:Nat):Int))<|BC q2<|MM (ao 22 0 p.ae b6 k!)<|CC<|VV mU<|CC<|MM mn<|EE k7<|CC<|BC f1<|LL od<|ZZ) k!) (⟨pw,mH,by omega⟩) k!
def jB (p:bO):Nat→Nat→Option (Int)
 | 0,_=>none
 | Kv+1,i2=>(bif (!decide ((bw (p.af.g i2) (p.af.take i2))=0)) then some (bw (p.af.g i2) (p.af.take i2)) else jB p Kv (i2+1))
theorem rA {d:Nat} {h:ax} (p:bO) (lR:Nat) (th:aJ h p.ae p.ab) (mI:aJ h p.ag p.af) (qv:aJ h p.au p.ai) (Kw:aH.ok h p):∀(k_ i_:Nat) (_:i_+k_=p.af.length) (x:Nat→AV) (hh:ax) (aF:Tidy hh) (aG:Has h hh) (gn:hh.get lR=some (aK.cells [p.ae,p.ag,p.au] 26 false)),aB (cT (d+3)) It ⟨((x 0)::(Pt lR)::rx x 2 4 ((Zn i_)::rx x 7 90 [])),hh,[],.no⟩ (.exit 4) hh (fun y=>((y 0)::(Pt lR)::rx y 2 95 [])) (fun r y=>((y 0)::(Pt lR)::(Zi r)::rx y 3 94 [])) (jB p k_ i_)
 | 0,i2,jh,x,hh,aF,aG,gn=>by
   have vQ:=th.small
   have vR:=mI.small
   have vS:=qv.small
   have Kx:=aF _ _ gn
   have eb:cg (some (.slice 45)) (some p.ag)=some (Zn p.af.length):=(mI.has aG).len
   have q2:(decide (((i2:Nat):Int)<((p.af.length:Nat):Int)))=false:=d!
   exact aB.out rfl (pk (d+3) _ _ hh _ hh (CN 2<|MM (ao 23 1 p.ag gn k!)<|VV eb<|VV (aY 3 false false .i64 ((i2:Nat):Int) ((p.af.length:Nat):Int))<|BB q2<|ZZ) k!) (bW.refl aF) k!
 | Kv+1,i2,jh,x,hh,aF,aG,gn=>by
   have vQ:=th.small
   have vR:=mI.small
   have vS:=qv.small
   have Kx:=aF _ _ gn
   have eb:cg (some (.slice 45)) (some p.ag)=some (Zn p.af.length):=(mI.has aG).len
   have q2:(decide (((i2:Nat):Int)<((p.af.length:Nat):Int)))=true:=d!
   obtain ⟨p4,q5,iM⟩:=(mI.has aG).elem (i:=i2) o!
   have mU:b8 env (some (.slice 45)) (some p.ag) (some (Zn i2))=some (AV.ptr p4 q5):=iM
   have mn:bS env hh 45 (AV.ptr p4 q5)=some (AV.agg [(AV.str (p.af.g i2).name),(AV.str (p.af.g i2).ba),(Zi (p.af.g i2).bx),(Zi (p.af.g i2).eK),(Zi (p.af.g i2).bm)]):=(mI.has aG).load o! iM
   obtain ⟨r7,acx,fr9⟩:=(mI.has aG).pre (t:=23) k! (i:=i2) o!
   have sl8:dx env 23 p.ag (none) (some (Zn i2)) (none)=some r7:=acx
   have xb:=yT (d:=d+1) (p.af.g i2) (p.af.take i2) ((mI.has aG).ok (i:=i2) o!) fr9 aF
   have Ky:AV.same 20 p.ag p.ag=true:=(mI.has aG).same 19
   have ve:AV.same 20 (AV.agg [(AV.str (p.af.g i2).name),(AV.str (p.af.g i2).ba),(Zi (p.af.g i2).bx),(Zi (p.af.g i2).eK),(Zi (p.af.g i2).bm)]) (AV.agg [(AV.str (p.af.g i2).name),(AV.str (p.af.g i2).ba),(Zi (p.af.g i2).bx),(Zi (p.af.g i2).eK),(Zi (p.af.g i2).bm)])=true:=cW 18 (eX (fun n=>aP n _) (eX (fun n=>aP n _) (eX (fun n=>aC n _ _) (eX (fun n=>aC n _ _) (eX (fun n=>aC n _ _) zG)))))
   rcases Bool.eq_false_or_eq_true (!decide ((bw (p.af.g i2) (p.af.take i2))=0)) with f1 | f1
   · have fK:=rO f1
     exact aB.ret (bw (p.af.g i2) (p.af.take i2)) (by simp only[jB,f1,ak,ah]) (pk (d+3) _ _ hh _ hh (CN 2<|MM (ao 23 1 p.ag gn k!)<|VV eb<|VV (aY 3 false false .i64 ((i2:Nat):Int) ((p.af.length:Nat):Int))<|BC q2<|MM (ao 23 1 p.ag gn k!)<|CC<|VV mU<|MM mn<|CC<|MM (ao 23 1 p.ag gn k!)<|CC<|QQ sl8<|EE xb<|CC<|HH (ao 23 1 p.ag gn k!)<|HH Ky<|HH mn<|HH ve<|HH (ao 23 1 p.ag gn k!)<|HH Ky<|CC<|VV (cf 31 false true .i64 (bw (p.af.g i2) (p.af.take i2)) 0)<|BB f1<|CN 2<|ZZ) k!) (bW.refl aF) k!
   · have fK:=rP f1
     have Dq:=eZ 3 false true i2 1 o!
     exact aB.round (by simp only[jB,f1,ak,ah]) (pk (d+3) _ _ hh _ hh (CN 2<|MM (ao 23 1 p.ag gn k!)<|VV eb<|VV (aY 3 false false .i64 ((i2:Nat):Int) ((p.af.length:Nat):Int))<|BC q2<|MM (ao 23 1 p.ag gn k!)<|CC<|VV mU<|MM mn<|CC<|MM (ao 23 1 p.ag gn k!)<|CC<|QQ sl8<|EE xb<|CC<|HH (ao 23 1 p.ag gn k!)<|HH Ky<|HH mn<|HH ve<|HH (ao 23 1 p.ag gn k!)<|HH Ky<|CC<|VV (cf 31 false true .i64 (bw (p.af.g i2) (p.af.take i2)) 0)<|BC f1<|VV Dq<|CC<|ZZ) k!) (bW.refl aF) _ k! (fun x=>rA p lR th mI qv Kw Kv (i2+1) o! x hh aF aG gn)
def jC (p:bO):Nat→Nat→Option (Int)
 | 0,_=>none
 | QG+1,i3=>(bif (!decide ((bN p ((i3:Nat):Int))=0)) then some (bN p ((i3:Nat):Int)) else jC p QG (i3+1))
theorem rB {d:Nat} {h:ax} (p:bO) (oX:Nat) (uP:aJ h p.ae p.ab) (rZ:aJ h p.ag p.af) (pV:aJ h p.au p.ai) (Nx:aH.ok h p):∀(k_ i_:Nat) (_:i_+k_=p.ai.length) (x:Nat→AV) (hh:ax) (aF:Tidy hh) (aG:Has h hh) (gL:hh.get oX=some (aK.cells [p.ae,p.ag,p.au] 26 false)),aB (cT (d+3)) Iu ⟨((x 0)::(Pt oX)::rx x 2 6 ((Zn i_)::rx x 9 88 [])),hh,[],.no⟩ (.exit 6) hh (fun y=>((y 0)::(Pt oX)::rx y 2 95 [])) (fun r y=>((y 0)::(Pt oX)::(Zi r)::rx y 3 94 [])) (jC p k_ i_)
 | 0,i3,jh,x,hh,aF,aG,gL=>by
   have BZ:=uP.small
   have B0:=rZ.small
   have B1:=pV.small
   have QH:=aF _ _ gL
   have eb:cg (some (.slice 71)) (some p.au)=some (Zn p.ai.length):=(pV.has aG).len
   have q2:(decide (((i3:Nat):Int)<((p.ai.length:Nat):Int)))=false:=d!
   exact aB.out rfl (pk (d+3) _ _ hh _ hh (CN 2<|MM (ao 24 2 p.au gL k!)<|VV eb<|VV (aY 3 false false .i64 ((i3:Nat):Int) ((p.ai.length:Nat):Int))<|BB q2<|ZZ) k!) (bW.refl aF) k!
 | QG+1,i3,jh,x,hh,aF,aG,gL=>by
   have BZ:=uP.small
   have B0:=rZ.small
   have B1:=pV.small
   have QH:=aF _ _ gL
   have eb:cg (some (.slice 71)) (some p.au)=some (Zn p.ai.length):=(pV.has aG).len
   have q2:(decide (((i3:Nat):Int)<((p.ai.length:Nat):Int)))=true:=d!
   have k3:=BX (d:=d+1) p ((i3:Nat):Int) (aH.mono aG Nx) (by first | omega | assumption | (simp only[List.length_set,List.length_replicate,List.length_append,List.length_cons,List.length_nil,List.nil_append]<;>omega) | (rw[List.length_take];omega)) (by first | omega | assumption | (simp only[List.length_set,List.length_replicate,List.length_append,List.length_cons,List.length_nil,List.nil_append]<;>omega) | (rw[List.length_take];omega)) aF
   rcases Bool.eq_false_or_eq_true (!decide ((bN p ((i3:Nat):Int))=0)) with f1 | f1
   · have fK:=rO f1
     exact aB.ret (bN p ((i3:Nat):Int)) (by simp only[jC,f1,ak,ah]) (pk (d+3) _ _ hh _ hh (CN 2<|MM (ao 24 2 p.au gL k!)<|VV eb<|VV (aY 3 false false .i64 ((i3:Nat):Int) ((p.ai.length:Nat):Int))<|BM q2 (ao 26 0 (AV.agg [p.ae,p.ag,p.au]) gL k!)<|CC<|EE k3<|CN 2<|VV (cf 31 false true .i64 (bN p ((i3:Nat):Int)) 0)<|BB f1<|CN 2<|ZZ) k!) (bW.refl aF) k!
   · have fK:=rP f1
     have u5:=eZ 3 false true i3 1 o!
     exact aB.round (by simp only[jC,f1,ak,ah]) (pk (d+3) _ _ hh _ hh (CN 2<|MM (ao 24 2 p.au gL k!)<|VV eb<|VV (aY 3 false false .i64 ((i3:Nat):Int) ((p.ai.length:Nat):Int))<|BM q2 (ao 26 0 (AV.agg [p.ae,p.ag,p.au]) gL k!)<|CC<|EE k3<|CN 2<|VV (cf 31 false true .i64 (bN p ((i3:Nat):Int)) 0)<|BC f1<|VV u5<|CC<|ZZ) k!) (bW.refl aF) _ k! (fun x=>rB p oX uP rZ pV Nx QG (i3+1) o! x hh aF aG gL)
def cG (p:bO):Int:=(bif (decide (16<((p.ab.length:Nat):Int))) then 3 else (match (gT p p.ab.length 0) with | none=>(bif (decide (16<((p.af.length:Nat):Int))) then 3 else (match (jB p p.af.length 0) with | none=>(bif (decide (16<((p.ai.length:Nat):Int))) then 3 else (match (jC p p.ai.length 0) with | none=>0 | some B3=>B3)) | some Xv=>Xv)) | some BL=>BL))
theorem Eb {d:Nat} {h:ax} (p:bO) (dg:aH.ok h p) (ca:Tidy h):cT (d+4) (.fn 9) [(AV.agg [p.ae,p.ag,p.au])] h= .ret (Zi (cG p)) h:=by
 have nj:=dg.1.small
 have jP:=dg.2.1.small
 have jQ:=dg.2.2.small
 obtain ⟨h1,br,cD,lh,aA,dC⟩:=lk ca (aK.cells [p.ae,p.ag,p.au] 26 false)
 have bB:Has h h1:=dC
 have Ah:cg (some (.slice 43)) (some p.ae)=some (Zn p.ab.length):=dg.1.len
 rcases Bool.eq_false_or_eq_true (decide (16<((p.ab.length:Nat):Int))) with f0 | f0
 · have e_:=of_decide_eq_true f0
   have e:cG p=3:=by simp only[cG,f0,ak,ah]
   rw[e]
   exact aw rfl (aI Tryz.func9 mb rfl (.inr rfl) (pk (d+3) _ _ h _ h1 (NN br (fun i=>(Pt i))<|CN 2<|MM (ao 22 0 p.ae aA k!)<|VV Ah<|VV (b7 3 false true .i64 ((p.ab.length:Nat):Int) 16)<|BC f0<|ZZ) k!) k!) bB rfl
 · have e_:=of_decide_eq_false f0
   cases dD:gT p p.ab.length 0 with
   | none=>
     obtain ⟨As,h5,eE,eF⟩:=aB.n dD (rz (d:=d) (h:=h) p h.nx dg.1 dg.2.1 dg.2.2 dg p.ab.length 0 o! (fun k_=>(((AV.agg [p.ae,p.ag,p.au])::(Pt h.nx)::(Zi 0)::(Zi 0)::AV.undef::AV.undef::AV.undef::AV.undef::AV.undef::AV.undef::(Pt h.nx)::p.ae::(Zn p.ab.length)::(AV.bool (decide (16<((p.ab.length:Nat):Int))))::jg 83):List AV).getD k_ AV.undef) h1 cD bB aA)
     have sS:=eF.y
     have Ad:h1.nx≤h5.nx:=eF.n
     have lD:Has h h5:=bB.trans eF.a
     have Gu:cg (some (.slice 45)) (some p.ag)=some (Zn p.af.length):=dg.2.1.len
     rcases Bool.eq_false_or_eq_true (decide (16<((p.af.length:Nat):Int))) with f2 | f2
     · have mT:=of_decide_eq_true f2
       have e:cG p=3:=by simp only[cG,f0,dD,f2,ak,ah]
       rw[e]
       exact aw rfl (aI Tryz.func9 mb rfl (.inr rfl) (pk (d+3) _ _ h _ h5 (NN br (fun i=>(Pt i))<|CN 2<|MM (ao 22 0 p.ae aA k!)<|VV Ah<|VV (b7 3 false true .i64 ((p.ab.length:Nat):Int) 16)<|BC f0<|LL eE<|CC<|MM (ao 23 1 p.ag (eF.a _ _ aA) k!)<|VV Gu<|VV (b7 3 false true .i64 ((p.af.length:Nat):Int) 16)<|BC f2<|ZZ) k!) k!) lD rfl
     · have mT:=of_decide_eq_false f2
       cases n9:jB p p.af.length 0 with
       | none=>
         obtain ⟨Qz,h9,rq,oV⟩:=aB.n n9 (rA (d:=d) (h:=h) p h.nx dg.1 dg.2.1 dg.2.2 dg p.af.length 0 o! (fun k_=>(((As 0)::(Pt h.nx)::rx As 2 4 ((Zi 0)::rx As 7 49 ((AV.ptr h.nx 1)::p.ag::(Zn p.af.length)::(AV.bool (decide (16<((p.af.length:Nat):Int))))::rx As 60 37 []))):List AV).getD k_ AV.undef) h5 sS lD (eF.a _ _ aA))
         have QA:=oV.y
         have Xw:h5.nx≤h9.nx:=oV.n
         have BT:Has h h9:=lD.trans oV.a
         have FU:Has h5 h9:=oV.a
         have uQ:cg (some (.slice 71)) (some p.au)=some (Zn p.ai.length):=dg.2.2.len
         rcases Bool.eq_false_or_eq_true (decide (16<((p.ai.length:Nat):Int))) with f4 | f4
         · have lE:=of_decide_eq_true f4
           have e:cG p=3:=by simp only[cG,f0,dD,f2,n9,f4,ak,ah]
           rw[e]
           exact aw rfl (aI Tryz.func9 mb rfl (.inr rfl) (pk (d+3) _ _ h _ h9 (NN br (fun i=>(Pt i))<|CN 2<|MM (ao 22 0 p.ae aA k!)<|VV Ah<|VV (b7 3 false true .i64 ((p.ab.length:Nat):Int) 16)<|BC f0<|LL eE<|CC<|MM (ao 23 1 p.ag (eF.a _ _ aA) k!)<|VV Gu<|VV (b7 3 false true .i64 ((p.af.length:Nat):Int) 16)<|BC f2<|LL rq<|CC<|MM (ao 24 2 p.au (oV.a _ _ (eF.a _ _ aA)) k!)<|VV uQ<|VV (b7 3 false true .i64 ((p.ai.length:Nat):Int) 16)<|BC f4<|ZZ) k!) k!) BT rfl
         · have lE:=of_decide_eq_false f4
           cases gY:jC p p.ai.length 0 with
           | none=>
             obtain ⟨vT,r_,jS,ft⟩:=aB.n gY (rB (d:=d) (h:=h) p h.nx dg.1 dg.2.1 dg.2.2 dg p.ai.length 0 o! (fun k_=>(((Qz 0)::(Pt h.nx)::rx Qz 2 6 ((Zi 0)::rx Qz 9 71 ((AV.ptr h.nx 2)::p.au::(Zn p.ai.length)::(AV.bool (decide (16<((p.ai.length:Nat):Int))))::rx Qz 84 13 []))):List AV).getD k_ AV.undef) h9 QA BT (oV.a _ _ (eF.a _ _ aA)))
             have xH:=ft.y
             have Iv:h9.nx≤r_.nx:=ft.n
             have m5:Has h r_:=BT.trans ft.a
             have QI:Has h5 r_:=FU.trans ft.a
             have QJ:Has h9 r_:=ft.a
             have e:cG p=0:=by simp only[cG,f0,dD,f2,n9,f4,gY,ak,ah]
             rw[e]
             exact aw rfl (aI Tryz.func9 mb rfl (.inr rfl) (pk (d+3) _ _ h _ r_ (NN br (fun i=>(Pt i))<|CN 2<|MM (ao 22 0 p.ae aA k!)<|VV Ah<|VV (b7 3 false true .i64 ((p.ab.length:Nat):Int) 16)<|BC f0<|LL eE<|CC<|MM (ao 23 1 p.ag (eF.a _ _ aA) k!)<|VV Gu<|VV (b7 3 false true .i64 ((p.af.length:Nat):Int) 16)<|BC f2<|LL rq<|CC<|MM (ao 24 2 p.au (oV.a _ _ (eF.a _ _ aA)) k!)<|VV uQ<|VV (b7 3 false true .i64 ((p.ai.length:Nat):Int) 16)<|BC f4<|LL jS<|CC<|ZZ) k!) k!) m5 rfl
           | some B3=>
             obtain ⟨vT,r_,jS,ft⟩:=aB.r gY (rB (d:=d) (h:=h) p h.nx dg.1 dg.2.1 dg.2.2 dg p.ai.length 0 o! (fun k_=>(((Qz 0)::(Pt h.nx)::rx Qz 2 6 ((Zi 0)::rx Qz 9 71 ((AV.ptr h.nx 2)::p.au::(Zn p.ai.length)::(AV.bool (decide (16<((p.ai.length:Nat):Int))))::rx Qz 84 13 []))):List AV).getD k_ AV.undef) h9 QA BT (oV.a _ _ (eF.a _ _ aA)))
             have xH:=ft.y
             have Iv:h9.nx≤r_.nx:=ft.n
             have m5:Has h r_:=BT.trans ft.a
             have QI:Has h5 r_:=FU.trans ft.a
             have QJ:Has h9 r_:=ft.a
             have e:cG p=B3:=by simp only[cG,f0,dD,f2,n9,f4,gY,ak,ah]
             rw[e]
             exact aw rfl (aI Tryz.func9 mb rfl (.inr rfl) (pk (d+3) _ _ h _ r_ (NN br (fun i=>(Pt i))<|CN 2<|MM (ao 22 0 p.ae aA k!)<|VV Ah<|VV (b7 3 false true .i64 ((p.ab.length:Nat):Int) 16)<|BC f0<|LL eE<|CC<|MM (ao 23 1 p.ag (eF.a _ _ aA) k!)<|VV Gu<|VV (b7 3 false true .i64 ((p.af.length:Nat):Int) 16)<|BC f2<|LL rq<|CC<|MM (ao 24 2 p.au (oV.a _ _ (eF.a _ _ aA)) k!)<|VV uQ<|VV (b7 3 false true .i64 ((p.ai.length:Nat):Int) 16)<|BC f4<|LL jS<|ZZ) k!) k!) m5 rfl
       | some Xv=>
         obtain ⟨Qz,h9,rq,oV⟩:=aB.r n9 (rA (d:=d) (h:=h) p h.nx dg.1 dg.2.1 dg.2.2 dg p.af.length 0 o! (fun k_=>(((As 0)::(Pt h.nx)::rx As 2 4 ((Zi 0)::rx As 7 49 ((AV.ptr h.nx 1)::p.ag::(Zn p.af.length)::(AV.bool (decide (16<((p.af.length:Nat):Int))))::rx As 60 37 []))):List AV).getD k_ AV.undef) h5 sS lD (eF.a _ _ aA))
         have QA:=oV.y
         have Xw:h5.nx≤h9.nx:=oV.n
         have BT:Has h h9:=lD.trans oV.a
         have FU:Has h5 h9:=oV.a
         have e:cG p=Xv:=by simp only[cG,f0,dD,f2,n9,ak,ah]
         rw[e]
         exact aw rfl (aI Tryz.func9 mb rfl (.inr rfl) (pk (d+3) _ _ h _ h9 (NN br (fun i=>(Pt i))<|CN 2<|MM (ao 22 0 p.ae aA k!)<|VV Ah<|VV (b7 3 false true .i64 ((p.ab.length:Nat):Int) 16)<|BC f0<|LL eE<|CC<|MM (ao 23 1 p.ag (eF.a _ _ aA) k!)<|VV Gu<|VV (b7 3 false true .i64 ((p.af.length:Nat):Int) 16)<|BC f2<|LL rq<|ZZ) k!) k!) BT rfl
   | some BL=>
     obtain ⟨As,h5,eE,eF⟩:=aB.r dD (rz (d:=d) (h:=h) p h.nx dg.1 dg.2.1 dg.2.2 dg p.ab.length 0 o! (fun k_=>(((AV.agg [p.ae,p.ag,p.au])::(Pt h.nx)::(Zi 0)::(Zi 0)::AV.undef::AV.undef::AV.undef::AV.undef::AV.undef::AV.undef::(Pt h.nx)::p.ae::(Zn p.ab.length)::(AV.bool (decide (16<((p.ab.length:Nat):Int))))::jg 83):List AV).getD k_ AV.undef) h1 cD bB aA)
     have sS:=eF.y
     have Ad:h1.nx≤h5.nx:=eF.n
     have lD:Has h h5:=bB.trans eF.a
     have e:cG p=BL:=by simp only[cG,f0,dD,ak,ah]
     rw[e]
     exact aw rfl (aI Tryz.func9 mb rfl (.inr rfl) (pk (d+3) _ _ h _ h5 (NN br (fun i=>(Pt i))<|CN 2<|MM (ao 22 0 p.ae aA k!)<|VV Ah<|VV (b7 3 false true .i64 ((p.ab.length:Nat):Int) 16)<|BC f0<|LL eE<|ZZ) k!) k!) lD rfl
def fe (f:Nat→Option Int):Nat→Nat→Option Int
 | 0,_=>none
 | k+1,i=>match f i with
   | some r=>some r
   | none=>fe f k (i+1)
def er (x:Int):Option Int:=bif !decide (x=0) then some x else none
def iD (f:Nat→Bool):Nat→Nat→Bool
 | 0,_=>false
 | k+1,i=>f i||iD f k (i+1)
theorem Iw {f g:Nat→Option Int}:∀(k i:Nat),(∀j,i≤j→j<i+k→f j=g j)→fe f k i=fe g k i
 | 0,_,_=>rfl
 | k+1,i,h=>by
   rw[fe,fe,h i (Nat.le_refl _) o!,Iw k (i+1) fun j h1 h2=>h j o! o!]
theorem any_congr {f g:Nat→Bool}:∀(k i:Nat),(∀j,i≤j→j<i+k→f j=g j)→iD f k i=iD g k i
 | 0,_,_=>rfl
 | k+1,i,h=>by
   rw[iD,iD,h i (Nat.le_refl _) o!,any_congr k (i+1) fun j h1 h2=>h j o! o!]
theorem Ec (o:Option Int):(match o with | none=>0 | some r=>r)=o.getD 0:=by cases o<;>rfl
theorem Kz {α:Type} [Inhabited α] {l:List α} {i j:Nat} (h:j<i):(l.take i).g j=l.g j:=by
 rw[List.g,List.g,List.getD_eq_getElem?_getD,List.getD_eq_getElem?_getD,List.getElem?_take_of_lt h]
theorem B6 {α:Type} {l:List α} {i:Nat} (h:i≤l.length):(l.take i).length=i:=by rw[List.length_take];omega
def letter (c:UInt8):Bool:=decide (97≤((c.toNat:Nat):Int))&&decide (((c.toNat:Nat):Int)≤122)
def digit (c:UInt8):Bool:=decide (48≤((c.toNat:Nat):Int))&&decide (((c.toNat:Nat):Int)≤57)
def dash (c:UInt8):Bool:=decide (((c.toNat:Nat):Int)=45)
theorem B7 (s:List bn) (P:bn→Bool):∀(k i:Nat),(dS s P k i=none∧iD (fun j=>P (s.g j)) k i=false)∨∃n:Nat,dS s P k i=some (n:Int)∧iD (fun j=>P (s.g j)) k i=true
 | 0,_=> .inl ⟨rfl,rfl⟩
 | k+1,i=>by
   rw[dS,iD]
   cases h:P (s.g i) with
   | true=>exact .inr ⟨i,rfl,rfl⟩
   | false=>exact B7 s P k (i+1)
theorem uR (s:List bn) (P:bn→Bool):eN s P=iD (fun j=>P (s.g j)) s.length 0:=by
 unfold eN aM.fL
 rcases B7 s P s.length 0 with ⟨h1,h2⟩ | ⟨n,h1,h2⟩
 · rw[h1,h2];rfl
 · rw[h1,h2];exact decide_eq_true (Int.natCast_nonneg n)
theorem tj {s:List bn} {i:Nat} (h:i≤s.length) (P:bn→Bool):eN (s.take i) P=iD (fun j=>P (s.g j)) i 0:=by
 rw[uR,B6 h]
 exact any_congr i 0 fun j _ hj=>by rw[Kz o!]
theorem m6 (P:Nat→Int) (l:List bn):∀(k i:Nat),dm P l k i=fe (fun j=>er (P j)) k i
 | 0,_=>rfl
 | k+1,i=>by
   rw[dm,fe,er,m6 P l k (i+1)]
   cases (!decide (P i=0))<;>rfl
theorem m7 (l:List bn) (cj:Int) (P:Nat→Int):cP l cj P=bif decide (cj<((l.length:Nat):Int)) then 3 else (fe (fun j=>er (P j)) l.length 0).getD 0:=by
 unfold cP
 rw[m6]
 cases decide (cj<((l.length:Nat):Int)) with
 | true=>rfl
 | false=>exact Ec _
theorem vg (s:List aQ) (P:aQ→Bool):∀(k i:Nat),(c_ s P k i=none∧iD (fun j=>P (s.g j)) k i=false)∨∃n:Nat,c_ s P k i=some (n:Int)∧iD (fun j=>P (s.g j)) k i=true
 | 0,_=> .inl ⟨rfl,rfl⟩
 | k+1,i=>by
   rw[c_,iD]
   cases h:P (s.g i) with
   | true=>exact .inr ⟨i,rfl,rfl⟩
   | false=>exact vg s P k (i+1)
theorem rC (s:List aQ) (P:aQ→Bool):cE s P=iD (fun j=>P (s.g j)) s.length 0:=by
 unfold cE aM.dU
 rcases vg s P s.length 0 with ⟨h1,h2⟩ | ⟨n,h1,h2⟩
 · rw[h1,h2];rfl
 · rw[h1,h2];exact decide_eq_true (Int.natCast_nonneg n)
theorem qw {s:List aQ} {i:Nat} (h:i≤s.length) (P:aQ→Bool):cE (s.take i) P=iD (fun j=>P (s.g j)) i 0:=by
 rw[rC,B6 h]
 exact any_congr i 0 fun j _ hj=>by rw[Kz o!]
theorem lJ (P:Nat→Int) (l:List aQ):∀(k i:Nat),cC P l k i=fe (fun j=>er (P j)) k i
 | 0,_=>rfl
 | k+1,i=>by
   rw[cC,fe,er,lJ P l k (i+1)]
   cases (!decide (P i=0))<;>rfl
theorem lK (l:List aQ) (cj:Int) (P:Nat→Int):bI l cj P=bif decide (cj<((l.length:Nat):Int)) then 3 else (fe (fun j=>er (P j)) l.length 0).getD 0:=by
 unfold bI
 rw[lJ]
 cases decide (cj<((l.length:Nat):Int)) with
 | true=>rfl
 | false=>exact Ec _
theorem xI (s:List aL) (P:aL→Bool):∀(k i:Nat),(dq s P k i=none∧iD (fun j=>P (s.g j)) k i=false)∨∃n:Nat,dq s P k i=some (n:Int)∧iD (fun j=>P (s.g j)) k i=true
 | 0,_=> .inl ⟨rfl,rfl⟩
 | k+1,i=>by
   rw[dq,iD]
   cases h:P (s.g i) with
   | true=>exact .inr ⟨i,rfl,rfl⟩
   | false=>exact xI s P k (i+1)
theorem lW (s:List aL) (P:aL→Bool):dr s P=iD (fun j=>P (s.g j)) s.length 0:=by
 unfold dr aM.eG
 rcases xI s P s.length 0 with ⟨h1,h2⟩ | ⟨n,h1,h2⟩
 · rw[h1,h2];rfl
 · rw[h1,h2];exact decide_eq_true (Int.natCast_nonneg n)
theorem lX (P:Nat→Int) (l:List aL):∀(k i:Nat),cJ P l k i=fe (fun j=>er (P j)) k i
 | 0,_=>rfl
 | k+1,i=>by
   rw[cJ,fe,er,lX P l k (i+1)]
   cases (!decide (P i=0))<;>rfl
theorem lY (l:List aL) (cj:Int) (P:Nat→Int):bX l cj P=bif decide (cj<((l.length:Nat):Int)) then 3 else (fe (fun j=>er (P j)) l.length 0).getD 0:=by
 unfold bX
 rw[lX]
 cases decide (cj<((l.length:Nat):Int)) with
 | true=>rfl
 | false=>exact Ec _
theorem B8 (s:List bF) (P:bF→Bool):∀(k i:Nat),(dR s P k i=none∧iD (fun j=>P (s.g j)) k i=false)∨∃n:Nat,dR s P k i=some (n:Int)∧iD (fun j=>P (s.g j)) k i=true
 | 0,_=> .inl ⟨rfl,rfl⟩
 | k+1,i=>by
   rw[dR,iD]
   cases h:P (s.g i) with
   | true=>exact .inr ⟨i,rfl,rfl⟩
   | false=>exact B8 s P k (i+1)
theorem uS (s:List bF) (P:bF→Bool):eM s P=iD (fun j=>P (s.g j)) s.length 0:=by
 unfold eM aM.fJ
 rcases B8 s P s.length 0 with ⟨h1,h2⟩ | ⟨n,h1,h2⟩
 · rw[h1,h2];rfl
 · rw[h1,h2];exact decide_eq_true (Int.natCast_nonneg n)
theorem tk {s:List bF} {i:Nat} (h:i≤s.length) (P:bF→Bool):eM (s.take i) P=iD (fun j=>P (s.g j)) i 0:=by
 rw[uS,B6 h]
 exact any_congr i 0 fun j _ hj=>by rw[Kz o!]
theorem m8 (P:Nat→Int) (l:List bF):∀(k i:Nat),dk P l k i=fe (fun j=>er (P j)) k i
 | 0,_=>rfl
 | k+1,i=>by
   rw[dk,fe,er,m8 P l k (i+1)]
   cases (!decide (P i=0))<;>rfl
theorem m9 (l:List bF) (cj:Int) (P:Nat→Int):cO l cj P=bif decide (cj<((l.length:Nat):Int)) then 3 else (fe (fun j=>er (P j)) l.length 0).getD 0:=by
 unfold cO
 rw[m8]
 cases decide (cj<((l.length:Nat):Int)) with
 | true=>rfl
 | false=>exact Ec _
def jl (f:Nat→Bool):Nat→Nat→Bool
 | 0,_=>true
 | k+1,i=>f i&&jl f k (i+1)
theorem all_congr {f g:Nat→Bool}:∀(k i:Nat),(∀j,i≤j→j<i+k→f j=g j)→jl f k i=jl g k i
 | 0,_,_=>rfl
 | k+1,i,h=>by
   rw[jl,jl,h i (Nat.le_refl _) o!,all_congr k (i+1) fun j h1 h2=>h j o! o!]
theorem B9 (a b:Int):decide (a<b)= !decide (b≤a):=by
 by_cases h:a<b
 · rw[decide_eq_true h,decide_eq_false o!];rfl
 · rw[decide_eq_false h,decide_eq_true o!];rfl
theorem Ed (s:List UInt8):∀(k i:Nat),bA s k i=bif jl (fun j=>letter (s.g j)||(!decide ((j:Int)=0)&&(digit (s.g j)||dash (s.g j)))) k i then none else some false
 | 0,_=>rfl
 | k+1,i=>by
   rw[bA,jl,Ed s k (i+1),letter,digit,dash]
   generalize jl _ k (i+1)=z
   generalize decide (97≤(((s.g i).toNat:Nat):Int))=a
   generalize decide ((((s.g i).toNat:Nat):Int)≤122)=b
   generalize decide (48≤(((s.g i).toNat:Nat):Int))=c
   generalize decide ((((s.g i).toNat:Nat):Int)≤57)=d
   generalize decide ((((s.g i).toNat:Nat):Int)=45)=e
   generalize decide ((i:Int)=0)=f
   cases a<;>cases b<;>cases c<;>cases d<;>cases e<;>cases f<;>rfl
theorem Ee (s:List UInt8):∀(k i:Nat),cQ s k i=bif jl (fun j=>letter (s.g j)||(digit (s.g j)||dash (s.g j))) k i then none else some false
 | 0,_=>rfl
 | k+1,i=>by
   rw[cQ,jl,Ee s k (i+1),letter,digit,dash]
   simp only[B9]
   generalize jl _ k (i+1)=z
   generalize decide (97≤(((s.g i).toNat:Nat):Int))=a
   generalize decide ((((s.g i).toNat:Nat):Int)≤122)=b
   generalize decide (48≤(((s.g i).toNat:Nat):Int))=c
   generalize decide ((((s.g i).toNat:Nat):Int)≤57)=d
   generalize decide ((((s.g i).toNat:Nat):Int)=45)=e
   cases a<;>cases b<;>cases c<;>cases d<;>cases e<;>rfl
theorem Av (s:List UInt8):dQ s=bM s:=by
 unfold dQ bM
 cases s with
 | nil=>rfl
 | cons x s=>
   rw[decide_eq_false (show ¬x::s=[] by simp),decide_eq_false (show ¬(((x::s).length:Nat):Int)=0 by simp;omega)]
   cases decide (16<(((x::s).length:Nat):Int)) with
   | true=>rfl
   | false=>
     rw[Ed,Ee,List.length_cons,jl,jl,B9,B9]
     rw[all_congr (f:=fun j=>letter ((x::s).g j)||(!decide ((j:Int)=0)&&(digit ((x::s).g j)||dash ((x::s).g j)))) (g:=fun j=>letter ((x::s).g j)||(digit ((x::s).g j)||dash ((x::s).g j))) s.length (0+1) fun j hj _=>by
      simp only[decide_eq_false (show ¬(j:Int)=0 by omega),Bool.not_false,Bool.true_and]]
     simp only[letter]
     rw[show decide (((0:Nat):Int)=0)=true from rfl]
     generalize jl _ s.length (0+1)=z
     generalize decide (97≤((((x::s).g 0).toNat:Nat):Int))=a
     generalize decide (((((x::s).g 0).toNat:Nat):Int)≤122)=b
     generalize digit ((x::s).g 0)=c
     generalize dash ((x::s).g 0)=e
     cases a<;>cases b<;>cases c<;>cases e<;>cases z<;>rfl
theorem xJ (n:Int):eH n=bD n:=rfl
theorem xK (n:Int):eh n=bT n:=rfl
theorem xL (x m:Int):cu x m=(!decide (x<0)&& !decide (m<x)):=by
 unfold cu
 rw[B9,B9]
 cases decide (0≤x)<;>cases decide (x≤m)<;>rfl
theorem Md (a b:Int):l9 a b=(!decide (a<0)&& !decide (b≤a)):=by
 unfold l9
 rw[B9 a 0,B9 a b]
 cases decide (0≤a)<;>cases decide (b≤a)<;>rfl
theorem Ix (g:bn):bj g=bif dy g then 0 else 1:=by
 unfold bj dy
 rw[xL,xL,xK]
 cases decide (g.acc<0)<;>cases decide (1000000000<g.acc)<;>cases decide (g.aW<0)<;>cases decide (1000000000<g.aW)<;>cases bT g.since<;>rfl
theorem Me (q:aQ) (i0:Nat):∀(k i:Nat),ck i0 q k i=bif iD (fun j=>decide ((q.ar.g j).name=(q.ar.g i0).name)) k i then some 6 else none
 | 0,_=>rfl
 | k+1,i=>by
   rw[ck,iD,Me q i0 k (i+1)]
   cases decide ((q.ar.g i).name=(q.ar.g i0).name)<;>rfl
theorem QK (q:aQ) {i:Nat} (hi:i<q.ar.length):er (c8 (q.ar.take i) (q.ar.g i))=bif (!(bM (q.ar.g i).name)) then some 5 else (match ck i q i 0 with | none=>er (bj (q.ar.g i)) | some r=>some r):=by
 unfold c8
 rw[Av,tj o!,Me,Ix]
 simp only[gS]
 cases bM (q.ar.g i).name with
 | false=>rfl
 | true=>
   cases iD (fun j=>decide ((q.ar.g j).name=(q.ar.g i).name)) i 0 with
   | true=>rfl
   | false=>cases dy (q.ar.g i)<;>rfl
theorem Mf (q:aQ):∀(k i:Nat),cF q k i=fe (fun i=>bif (!(bM (q.ar.g i).name)) then some 5 else (match ck i q i 0 with | none=>er (bj (q.ar.g i)) | some r=>some r)) k i
 | 0,_=>rfl
 | k+1,i=>by
   rw[cF,fe,Mf q k (i+1)]
   cases (!(bM (q.ar.g i).name)) with
   | true=>rfl
   | false=>
     cases ck i q i 0 with
     | some r=>rfl
     | none=>
       rw[er]
       cases (!decide (bj (q.ar.g i)=0))<;>rfl
theorem Iy (cA:List aQ) (q:aQ):aU cA q=bif (!(bM q.name)) then 5 else bif cE cA (fun y=>dz y q) then 6 else aS q:=by
 unfold aU aS
 rw[Av]
 cases bM q.name with
 | false=>rfl
 | true=>
   cases cE cA (fun y=>dz y q) with
   | true=>rfl
   | false=>
     rw[xJ,xJ,xL,xL,xL,m7,Mf,Iw q.ar.length 0 fun j _ hj=>QK q o!]
     cases bD q.aq with
     | false=>rfl
     | true=>cases bD q.aj with
       | false=>rfl
       | true=>cases decide (q.aj<q.aq) with
         | true=>rfl
         | false=>
           cases decide (q.aO<0) with
           | true=>rfl
           | false=>cases decide (10000<q.aO) with
             | true=>rfl
             | false=>cases decide (q.aR<0) with
               | true=>rfl
               | false=>cases decide (10000<q.aR) with
                 | true=>rfl
                 | false=>cases decide (8<((q.ar.length:Nat):Int)) with
                   | true=>rfl
                   | false=>cases decide (q.bad<0) with
                     | true=>rfl
                     | false=>cases decide (((q.ar.length:Nat):Int)<q.bad) with
                       | true=>rfl
                       | false=>exact (Ec _).symm
theorem QL (p:bO) (i0:Nat):∀(k i:Nat),jA i0 p k i=bif iD (fun j=>decide ((p.ab.g j).name=(p.ab.g i0).name)) k i then some 6 else none
 | 0,_=>rfl
 | k+1,i=>by
   rw[jA,iD,QL p i0 k (i+1)]
   cases decide ((p.ab.g i).name=(p.ab.g i0).name)<;>rfl
theorem QM (p:bO):∀(k i:Nat),i+k≤p.ab.length→gT p k i=fe (fun j=>er (aU (p.ab.take j) (p.ab.g j))) k i
 | 0,_,_=>rfl
 | k+1,i,h=>by
   rw[gT,fe,QM p k (i+1) o!,Iy,qw o!,QL]
   simp only[dz]
   cases bM (p.ab.g i).name with
   | false=>rfl
   | true=>cases iD (fun j=>decide ((p.ab.g j).name=(p.ab.g i).name)) i 0 with
     | true=>rfl
     | false=>
       show _=match er (aS (p.ab.g i)) with | some r=>some r | none=>_
       rw[er]
       cases (!decide (aS (p.ab.g i)=0))<;>rfl
theorem Mg (cA:List aL) (m:aL):∀(k i:Nat),dH cA m k i=bif iD (fun j=>decide ((cA.g j).name=m.name)) k i then some 6 else none
 | 0,_=>rfl
 | k+1,i=>by
   rw[dH,iD,Mg cA m k (i+1)]
   cases decide ((cA.g i).name=m.name)<;>rfl
theorem Mh (cA:List aL) (m:aL):∀(k i:Nat),cV cA m k i=bif iD (fun j=>dh (cA.g j) m) k i then some 10 else none
 | 0,_=>rfl
 | k+1,i=>by
   rw[cV,iD,Mh cA m k (i+1),dh]
   cases decide ((cA.g i).ba=m.ba)<;>cases decide ((cA.g i).bx=m.bx)<;>rfl
theorem KA (cA:List aL) (m:aL):bf cA m=bw m cA:=by
 unfold bf bw
 rw[Av,Av,lW,lW,Mg,Mh,xK,xK,xK]
 simp only[fF]
 cases bM m.name with
 | false=>rfl
 | true=>cases bM m.ba with
   | false=>rfl
   | true=>cases iD (fun j=>decide ((cA.g j).name=m.name)) cA.length 0 with
     | true=>rfl
     | false=>cases bT m.bx with
       | false=>rfl
       | true=>cases bT m.eK with
         | false=>rfl
         | true=>cases bT m.bm with
           | false=>rfl
           | true=>cases iD (fun j=>dh (cA.g j) m) cA.length 0<;>rfl
theorem QN (p:bO):∀(k i:Nat),jB p k i=fe (fun j=>er (bf (p.af.take j) (p.af.g j))) k i
 | 0,_=>rfl
 | k+1,i=>by
   rw[jB,fe,QN p k (i+1),KA,er]
   cases (!decide (bw (p.af.g i) (p.af.take i)=0))<;>rfl
theorem Mi (p:bO) (z:Int):∀(k i:Nat),eO z p k i=bif iD (fun j=>decide ((p.ai.g j).measure=(p.ai.g (Int.toNat z)).measure)) k i then some 6 else none
 | 0,_=>rfl
 | k+1,i=>by
   rw[eO,iD,Mi p z k (i+1)]
   cases decide ((p.ai.g i).measure=(p.ai.g (Int.toNat z)).measure)<;>rfl
theorem QO (p:bO) {i:Nat} (hi:i<p.ai.length):lC (p.ai.take i) (p.ai.g i) p=bN p ((i:Nat):Int):=by
 unfold lC cr bN
 rw[tk o!,Mi,Md,Md,xJ,xJ,show Int.toNat ((i:Nat):Int)=i from rfl]
 simp only[gQ]
 cases decide ((p.ai.g i).az<0) with
 | true=>rfl
 | false=>cases decide (((p.ab.length:Nat):Int)≤(p.ai.g i).az) with
   | true=>rfl
   | false=>cases decide ((p.ai.g i).measure<0) with
     | true=>rfl
     | false=>cases decide (((p.af.length:Nat):Int)≤(p.ai.g i).measure) with
       | true=>rfl
       | false=>cases bD (p.ai.g i).level with
         | false=>rfl
         | true=>cases bD (p.ai.g i).bq with
           | false=>rfl
           | true=>cases iD (fun j=>decide ((p.ai.g j).measure=(p.ai.g i).measure)) i 0<;>rfl
theorem QP (p:bO):∀(k i:Nat),i+k≤p.ai.length→jC p k i=fe (fun j=>er (lC (p.ai.take j) (p.ai.g j) p)) k i
 | 0,_,_=>rfl
 | k+1,i,h=>by
   rw[jC,fe,QP p k (i+1) o!,QO p (show i<p.ai.length by omega),er]
   cases (!decide (bN p ((i:Nat):Int)=0))<;>rfl
theorem Iz (f:Nat→Int):∀(k i:Nat),fe (fun j=>er (f j)) k i≠some 0
 | 0,_=>by simp [fe]
 | k+1,i=>by
   rw[fe,er]
   by_cases h:f i=0
   · rw[decide_eq_true h];exact Iz f k (i+1)
   · rw[decide_eq_false h];intro e;exact h (Option.some.inj e)
def nxt (o:Option Int) (rest:Int):Int:=match o with
 | none=>rest
 | some r=>r
theorem Mj (n:Int) (o:Option Int) (rest:Int) (ho:o≠some 0):(bif (!decide ((bif decide (16<n) then 3 else o.getD 0)=0)) then (bif decide (16<n) then 3 else o.getD 0) else rest)=bif decide (16<n) then 3 else nxt o rest:=by
 cases decide (16<n) with
 | true=>rfl
 | false=>
   cases o with
   | none=>rfl
   | some r=>
     show (bif (!decide (r=0)) then r else rest)=r
     rw[decide_eq_false (fun e=>ho (by rw[e]))];rfl
theorem B_ (p:bO):cL p=cG p:=by
 unfold cL cG
 rw[lK,lY,m9,Mj _ _ _ (Iz _ _ _),Mj _ _ _ (Iz _ _ _),QM p _ 0 o!,QN,QP p _ 0 o!]
 cases decide (16<((p.ab.length:Nat):Int)) with
 | true=>rfl
 | false=>cases fe (fun j=>er (aU (p.ab.take j) (p.ab.g j))) p.ab.length 0 with
   | some r=>rfl
   | none=>cases decide (16<((p.af.length:Nat):Int)) with
     | true=>rfl
     | false=>cases fe (fun j=>er (bf (p.af.take j) (p.af.g j))) p.af.length 0 with
       | some r=>rfl
       | none=>cases decide (16<((p.ai.length:Nat):Int)) with
         | true=>rfl
         | false=>exact (Ec _).symm
theorem FV {f:Nat→Int}:∀{k i:Nat},fe (fun j=>er (f j)) k i=none→∀j,i≤j→j<i+k→f j=0
 | 0,i,_,j,h1,h2=>by omega
 | k+1,i,h,j,h1,h2=>by
   rw[fe,er] at h
   by_cases q:f i=0
   · by_cases e:j=i
     · rw[e];exact q
     · rw[decide_eq_true q] at h
       exact FV (f:=f) h j o! o!
   · rw[decide_eq_false q] at h;cases h
theorem FW {n:Nat} {f:Nat→Int} (h:(bif decide (16<(n:Int)) then 3 else (fe (fun j=>er (f j)) n 0).getD 0)=0):n≤16∧∀j,j<n→f j=0:=by
 by_cases q:16<(n:Int)
 · rw[decide_eq_true q] at h;cases h
 · rw[decide_eq_false q] at h
   refine ⟨by omega,fun j hj=>?_⟩
   cases e:fe (fun j=>er (f j)) n 0 with
   | none=>exact FV e j o! o!
   | some r=>
     rw[e] at h
     exact absurd (by rw[e];exact congrArg some h) (Iz f n 0)
theorem acy {a b c:Int} (h:(bif (!decide (a=0)) then a else (bif (!decide (b=0)) then b else c))=0):a=0∧b=0∧c=0:=by
 by_cases q:a=0
 · rw[decide_eq_true q] at h
   by_cases r:b=0
   · rw[decide_eq_true r] at h;exact ⟨q,r,h⟩
   · rw[decide_eq_false r] at h;exact absurd h r
 · rw[decide_eq_false q] at h;exact absurd h q
structure oY (p:bO):Prop where
 lens:p.ab.length≤16∧p.af.length≤16∧p.ai.length≤16
 q:∀j,j<p.ab.length→aU (p.ab.take j) (p.ab.g j)=0
 m:∀j,j<p.af.length→bf (p.af.take j) (p.af.g j)=0
 a:∀j,j<p.ai.length→cr p (p.ai.take j) (p.ai.g j)=0
theorem tp {p:bO} (h:cL p=0):oY p:=by
 unfold cL at h
 obtain ⟨h1,h2,h3⟩:=acy h
 rw[lK] at h1
 rw[lY] at h2
 rw[m9] at h3
 obtain ⟨l1,f1⟩:=FW h1
 obtain ⟨l2,f2⟩:=FW h2
 obtain ⟨l3,f3⟩:=FW h3
 exact ⟨⟨l1,l2,l3⟩,f1,f2,f3⟩
theorem oZ {c:Bool} {a b:Int} (ha:a≠0) (h:(bif c then a else b)=0):c=false∧b=0:=by
 cases c with
 | true=>exact absurd h ha
 | false=>exact ⟨rfl,h⟩
theorem tq {b:Bool} (h:(!b)=false):b=true:=by cases b;cases h;rfl
theorem xM {x:Int} (h:eh x=true):0≤x∧x≤100000:=by
 unfold eh cu at h
 by_cases q:0≤x
 · rw[decide_eq_true q] at h;exact ⟨q,of_decide_eq_true h⟩
 · rw[decide_eq_false q] at h;cases h
theorem wr {x:Int} (h1: -9223372036854775808≤x) (h2:x<9223372036854775808):IntKind.i64.wrap x=x:=wrap_i64 h1 h2
theorem xN {x:Int} (h:eH x=true): -1000000000≤x∧x≤1000000000:=by
 unfold eH at h
 by_cases q: -1000000000≤x
 · rw[decide_eq_true q] at h;exact ⟨q,of_decide_eq_true h⟩
 · rw[decide_eq_false q] at h;cases h
theorem xO {x m:Int} (h:cu x m=true):0≤x∧x≤m:=by
 unfold cu at h
 by_cases q:0≤x
 · rw[decide_eq_true q] at h;exact ⟨q,of_decide_eq_true h⟩
 · rw[decide_eq_false q] at h;cases h
theorem Aw {t:List UInt8} (h:dQ t=true):t.length≤16:=by
 unfold dQ at h
 by_cases a:t=[]
 · rw[a];exact Nat.zero_le _
 · rw[decide_eq_false a,ah] at h
   by_cases b:(16:Int)<((List.length t:Nat):Int)
   · rw[decide_eq_true b] at h;cases h
   · omega
theorem QR {n:Nat} {f:Nat→Int} (h:(bif decide (8<(n:Int)) then 3 else (fe (fun j=>er (f j)) n 0).getD 0)=0):n≤8∧∀j,j<n→f j=0:=by
 by_cases q:8<(n:Int)
 · rw[decide_eq_true q] at h;cases h
 · rw[decide_eq_false q] at h
   refine ⟨by omega,fun j hj=>?_⟩
   cases e:fe (fun j=>er (f j)) n 0 with
   | none=>exact FV e j o! o!
   | some r=>
     rw[e] at h
     exact absurd (by rw[e];exact congrArg some h) (Iz f n 0)
def GB (g:bn):Prop:=g.name.length≤16∧0≤g.acc∧g.acc≤1000000000∧0≤g.aW∧g.aW≤1000000000∧0≤g.since∧g.since≤100000
theorem QS {g:bn} (h:dy g=true):0≤g.acc∧g.acc≤1000000000∧0≤g.aW∧g.aW≤1000000000∧0≤g.since∧g.since≤100000:=by
 unfold dy at h
 cases h1:cu g.acc 1000000000 with
 | false=>rw[h1] at h;cases h
 | true=>
   cases h2:cu g.aW 1000000000 with
   | false=>rw[h1,h2] at h;cases h
   | true=>
     rw[h1,h2] at h
     have:=xO h1;have:=xO h2;have:=xM h
     omega
theorem oY.az {p:bO} (f:oY p) {j:Nat} (hj:j<p.ab.length):((p.ab.g j).name.length≤16∧-1000000000≤(p.ab.g j).aq∧(p.ab.g j).aq≤1000000000∧-1000000000≤(p.ab.g j).aj∧(p.ab.g j).aj≤1000000000∧0≤(p.ab.g j).aO∧(p.ab.g j).aO≤10000∧0≤(p.ab.g j).aR∧(p.ab.g j).aR≤10000∧0≤(p.ab.g j).bad∧(p.ab.g j).bad≤8∧(p.ab.g j).ar.length≤8)∧∀i,i<(p.ab.g j).ar.length→GB ((p.ab.g j).ar.g i):=by
 have h:=f.q j hj
 unfold aU at h
 obtain ⟨h1,h⟩:=oZ (by decide) h
 obtain ⟨_,h⟩:=oZ (by decide) h
 obtain ⟨h2,h⟩:=oZ (by decide) h
 obtain ⟨h3,h⟩:=oZ (by decide) h
 obtain ⟨_,h⟩:=oZ (by decide) h
 obtain ⟨h4,h⟩:=oZ (by decide) h
 obtain ⟨h5,h⟩:=oZ (by decide) h
 obtain ⟨h6,h⟩:=oZ (by decide) h
 obtain ⟨h7,h⟩:=oZ (by decide) h
 have:=Aw (tq h1);have:=xN (tq h2);have:=xN (tq h3)
 have:=xO (tq h4);have:=xO (tq h5);have:=xO (tq h7)
 rw[m7] at h
 obtain ⟨l,e⟩:=QR h
 refine ⟨by omega,fun i hi=>?_⟩
 have k:=e i hi
 unfold c8 at k
 obtain ⟨k1,k⟩:=oZ (by decide) k
 obtain ⟨_,k⟩:=oZ (by decide) k
 obtain ⟨k3,_⟩:=oZ (by decide) k
 exact ⟨Aw (tq k1),QS (tq k3)⟩
theorem oY.IA {p:bO} (f:oY p) {j i:Nat} (hj:j<p.ab.length) (hi:i<(p.ab.g j).ar.length):((p.ab.g j).ar.g i).name.length≤16∧0≤((p.ab.g j).ar.g i).acc∧((p.ab.g j).ar.g i).acc≤1000000000∧0≤((p.ab.g j).ar.g i).aW∧((p.ab.g j).ar.g i).aW≤1000000000∧0≤((p.ab.g j).ar.g i).since∧((p.ab.g j).ar.g i).since≤100000:=(f.az hj).2 i hi
theorem oY.measure {p:bO} (f:oY p) {j:Nat} (hj:j<p.af.length):(p.af.g j).name.length≤16∧(p.af.g j).ba.length≤16∧0≤(p.af.g j).bx∧(p.af.g j).bx≤100000∧0≤(p.af.g j).eK∧(p.af.g j).eK≤100000∧0≤(p.af.g j).bm∧(p.af.g j).bm≤100000:=by
 have h:=f.m j hj
 unfold bf at h
 obtain ⟨h1,h⟩:=oZ (by decide) h
 obtain ⟨h2,h⟩:=oZ (by decide) h
 obtain ⟨_,h⟩:=oZ (by decide) h
 obtain ⟨h3,h⟩:=oZ (by decide) h
 obtain ⟨h4,h⟩:=oZ (by decide) h
 obtain ⟨h5,h⟩:=oZ (by decide) h
 have:=Aw (tq h1);have:=Aw (tq h2)
 have:=xM (tq h3)
 have:=xM (tq h4)
 have:=xM (tq h5)
 omega
theorem oY.IB {p:bO} (f:oY p) {j:Nat} (hj:j<p.ai.length):0≤(p.ai.g j).az∧(p.ai.g j).az<(p.ab.length:Int)∧0≤(p.ai.g j).measure∧(p.ai.g j).measure<(p.af.length:Int)∧-1000000000≤(p.ai.g j).level∧(p.ai.g j).level≤1000000000∧-1000000000≤(p.ai.g j).bq∧(p.ai.g j).bq≤1000000000∧(p.ab.g (p.ai.g j).az.toNat).name.length≤16∧(p.af.g (p.ai.g j).measure.toNat).name.length≤16:=by
 have h:=f.a j hj
 unfold cr at h
 obtain ⟨h1,h⟩:=oZ (by decide) h
 obtain ⟨h2,h⟩:=oZ (by decide) h
 obtain ⟨h3,h⟩:=oZ (by decide) h
 obtain ⟨h4,h⟩:=oZ (by decide) h
 have a:=Ik (tq h1);have b:=Ik (tq h2)
 have:=xN (tq h3);have:=xN (tq h4)
 have:=(f.az (j:=(p.ai.g j).az.toNat) o!).1.1
 have:=(f.measure (j:=(p.ai.g j).measure.toNat) o!).1
 omega
end
end Go.Proofs.aM
