import Derived.Test.YtemlmndojncekaaGreatW0
namespace Go.Proofs.aQ
open Go.Proofs Ab
noncomputable section
set_option maxRecDepth 100000
set_option maxHeartbeats 4000000
set_option linter.unusedVariables false
set_option linter.unusedSimpArgs false
theorem sQ {p:Prop} (h:p:=by first | assumption | exact ij ch o!):p:=h
def oi:Code:=(Tryz.f107.body).getD .skip
theorem Lp:Tryz.f107.body=some oi:=by kernel_rfl
def Vw:Code:=(bw oi).getD 0 .skip
def C1:Code:=(j_ oi).getD 4 .skip
def aY (mqn:Int) (t:List Int):Nat→Int→Int
 | 0,fL=>fL
 | dq+1,fL=>(bif (decide (0<fL)) then (bif (decide (mqn≤(t.g ((fL - 1).toNat*2)))) then aY mqn t dq (fL - 1) else fL) else fL)
theorem Gy {d:Nat} {h:aC} (tO:Nat) (mqn:Int) (tP:List AV) (t:List Int) (tQ:List AV) (tE:TypeId) (bk:Nat) (hF:1≤t.g 322) (je:t.g 322≤160) (mI:t.g 0=0) (nq:0≤mqn) (pF:tP.length=tO) (pY:t.length=324):∀(k_:Nat) (fL:Int) (_:(fL≤(k_:Int))) (_:(0≤fL∧fL≤t.g 322∧(fL=0→mqn≤t.g 0))) (x:Nat→AV) (hh:aC) (aI:Tidy hh) (aE:Has h hh) (br:hh.get bk=some (aM.cells (tP++zs .i64 t++tQ) tE false)),cE (cN (d)) Vw ⟨((AV.ptr bk tO)::(Zi mqn)::rx x 2 3 ((Zi fL)::rx x 6 82 [])),hh,[],.no⟩ (.exit 0) hh (fun r y=>((AV.ptr bk tO)::(Zi mqn)::rx y 2 3 ((Zi r)::rx y 6 82 []))) (fun r=>(0≤r∧r≤t.g 322∧(r=0→mqn≤t.g 0))) (aY mqn t k_ fL)
 | 0,fL,fX,fG,x,hh,aI,aE,br=>by
   have q1:(decide (0<fL))=false:=d!
   exact cE.out fL rfl (pk (d) _ _ hh _ hh (CC<|VV (dw 3 false true .i64 fL 0)<|CC<|BB q1<|BB q1<|BB q1<|BB q1<|BB q1<|BB q1<|BB q1<|BB q1<|BB q1<|BV q1 (yB false q1)<|FF<|ZZ) k!) (bE.refl aI) (show (0≤fL∧fL≤t.g 322∧(fL=0→mqn≤t.g 0)) from by first | exact fG | exact wI jf fG.2.1 fP | omega) k!
 | dq+1,fL,fX,fG,x,hh,aI,aE,br=>by
   have dJ:=fun {al ps} (k:Pk al _ ps)=>(CC<|VV (dw 3 false true .i64 fL 0)<|CC<|k:Pk _ [] ps)
   rcases Bool.eq_false_or_eq_true (decide (0<fL)) with f0 | f0
   · have jf:=of_decide_eq_true f0
     have w2:IntKind.i64.wrap (fL - 1)=fL - 1:=wrap_i64 o! o!
     have wJ:bO env (some (.array 161 125)) (some (AV.ptr bk (tO+0))) (some (Zi (fL - 1)))=some (AV.ptr bk ((tO+0)+(fL - 1).toNat*2)):=np (z:=2) (k:=(fL - 1).toNat) k! o! o!
     have ld4:bh env hh 3 (AV.ptr bk (((tO+0)+(fL - 1).toNat*2)+0))=some (Zi (t.g ((fL - 1).toNat*2))):=(fW (j:=(fL - 1).toNat*2) (o:=tO) k! br o! l! o!)
     have hX:=fun {al ps} (k:Pk al _ ps)=>(dJ<|BC f0<|BC f0<|BV f0 (CO 3 false true w2)<|BC f0<|BC f0<|BV f0 wJ<|BC f0<|BM f0 ld4<|BC f0<|BV f0 (rv 3 false false .i64 (t.g ((fL - 1).toNat*2)) mqn)<|VV (sP (decide (mqn≤(t.g ((fL - 1).toNat*2)))) false f0)<|k:Pk _ [] ps)
     rcases Bool.eq_false_or_eq_true (decide (mqn≤(t.g ((fL - 1).toNat*2)))) with f1 | f1
     · have fP:=of_decide_eq_true f1
       have w6:IntKind.i64.wrap (fL - 1)=fL - 1:=wrap_i64 o! o!
       exact cE.round (by simp only[aY,f0,f1,aj,ai]) (pk (d) _ _ hh _ hh (hX<|BC f1<|VV (CO 3 false true w6)<|CC<|ZZ) k!) (bE.refl aI) _ k! (fun x=>Gy tO mqn tP t tQ tE bk hF je mI nq pF pY dq (fL - 1) o! (show (0≤(fL - 1)∧(fL - 1)≤t.g 322∧((fL - 1)=0→mqn≤t.g 0)) from by first | exact fG | exact wI jf fG.2.1 fP | omega) x hh aI aE br)
     · have fP:=of_decide_eq_false f1
       exact cE.out fL (by simp only[aY,f0,f1,aj,ai]) (pk (d) _ _ hh _ hh (hX<|BB f1<|ZZ) k!) (bE.refl aI) (show (0≤fL∧fL≤t.g 322∧(fL=0→mqn≤t.g 0)) from by first | exact fG | exact wI jf fG.2.1 fP | omega) k!
   · have jf:=of_decide_eq_false f0
     exact cE.out fL (by simp only[aY,f0,aj,ai]) (pk (d) _ _ hh _ hh (dJ<|BB f0<|BB f0<|BB f0<|BB f0<|BB f0<|BB f0<|BB f0<|BB f0<|BB f0<|BV f0 (yB false f0)<|FF<|ZZ) k!) (bE.refl aI) (show (0≤fL∧fL≤t.g 322∧(fL=0→mqn≤t.g 0)) from by first | exact fG | exact wI jf fG.2.1 fP | omega) k!
def bD (t:List Int) (mqn:Int):Int×List Int:=(bif (bif (decide ((aY mqn t (t.g 322).toNat (t.g 322))<(t.g 322))) then (decide ((t.g ((aY mqn t (t.g 322).toNat (t.g 322)).toNat*2))=mqn)) else false) then ((aY mqn t (t.g 322).toNat (t.g 322)),t) else (bif (decide (((aY mqn t (t.g 322).toNat (t.g 322))+1).toNat<161)) then ((aY mqn t (t.g 322).toNat (t.g 322)),((((bz t (((aY mqn t (t.g 322).toNat (t.g 322))+1).toNat*2) ((aY mqn t (t.g 322).toNat (t.g 322)).toNat*2) ((min ((t.g 322).toNat -(aY mqn t (t.g 322).toNat (t.g 322)).toNat) (((t.g 322)+1).toNat -((aY mqn t (t.g 322).toNat (t.g 322))+1).toNat))*2)).set ((aY mqn t (t.g 322).toNat (t.g 322)).toNat*2) mqn).set ((aY mqn t (t.g 322).toNat (t.g 322)).toNat*2+1) ((bz t (((aY mqn t (t.g 322).toNat (t.g 322))+1).toNat*2) ((aY mqn t (t.g 322).toNat (t.g 322)).toNat*2) ((min ((t.g 322).toNat -(aY mqn t (t.g 322).toNat (t.g 322)).toNat) (((t.g 322)+1).toNat -((aY mqn t (t.g 322).toNat (t.g 322))+1).toNat))*2)).g (((aY mqn t (t.g 322).toNat (t.g 322)) - 1).toNat*2+1))).set 322 (((((bz t (((aY mqn t (t.g 322).toNat (t.g 322))+1).toNat*2) ((aY mqn t (t.g 322).toNat (t.g 322)).toNat*2) ((min ((t.g 322).toNat -(aY mqn t (t.g 322).toNat (t.g 322)).toNat) (((t.g 322)+1).toNat -((aY mqn t (t.g 322).toNat (t.g 322))+1).toNat))*2)).set ((aY mqn t (t.g 322).toNat (t.g 322)).toNat*2) mqn).set ((aY mqn t (t.g 322).toNat (t.g 322)).toNat*2+1) ((bz t (((aY mqn t (t.g 322).toNat (t.g 322))+1).toNat*2) ((aY mqn t (t.g 322).toNat (t.g 322)).toNat*2) ((min ((t.g 322).toNat -(aY mqn t (t.g 322).toNat (t.g 322)).toNat) (((t.g 322)+1).toNat -((aY mqn t (t.g 322).toNat (t.g 322))+1).toNat))*2)).g (((aY mqn t (t.g 322).toNat (t.g 322)) - 1).toNat*2+1))).g 322)+1))) else ((aY mqn t (t.g 322).toNat (t.g 322)),((((bz t 0 ((aY mqn t (t.g 322).toNat (t.g 322)).toNat*2) ((min ((t.g 322).toNat -(aY mqn t (t.g 322).toNat (t.g 322)).toNat) 0)*2)).set ((aY mqn t (t.g 322).toNat (t.g 322)).toNat*2) mqn).set ((aY mqn t (t.g 322).toNat (t.g 322)).toNat*2+1) ((bz t 0 ((aY mqn t (t.g 322).toNat (t.g 322)).toNat*2) ((min ((t.g 322).toNat -(aY mqn t (t.g 322).toNat (t.g 322)).toNat) 0)*2)).g (((aY mqn t (t.g 322).toNat (t.g 322)) - 1).toNat*2+1))).set 322 (((((bz t 0 ((aY mqn t (t.g 322).toNat (t.g 322)).toNat*2) ((min ((t.g 322).toNat -(aY mqn t (t.g 322).toNat (t.g 322)).toNat) 0)*2)).set ((aY mqn t (t.g 322).toNat (t.g 322)).toNat*2) mqn).set ((aY mqn t (t.g 322).toNat (t.g 322)).toNat*2+1) ((bz t 0 ((aY mqn t (t.g 322).toNat (t.g 322)).toNat*2) ((min ((t.g 322).toNat -(aY mqn t (t.g 322).toNat (t.g 322)).toNat) 0)*2)).g (((aY mqn t (t.g 322).toNat (t.g 322)) - 1).toNat*2+1))).g 322)+1)))))
theorem TF {d:Nat} {h hh:aC} {tB tO:Nat} {tP tQ:List AV} {tE:TypeId} (t:List Int) (mqn:Int) (yW:hh.get tB=some (aM.cells (tP++zs .i64 t++tQ) tE false)) (ac4:tP.length=tO) (ac5:t.length=324) (p_t:h.get tB=none) (l6:1≤t.g 322) (om:t.g 322≤160) (yD:t.g 0=0) (zR:0≤mqn) (ch:Tidy h) (aI:Tidy hh) (aE:Has h hh) (gC:h.nx≤hh.nx):∃hk,cN (d+1) (.fn 107) [(AV.ptr tB tO),(Zi mqn)] hh= .ret (Zi (bD t mqn).1) hk∧Tidy hk∧hh.nx≤hk.nx∧Has h hk∧hk.get tB=some (aM.cells (tP++zs .i64 ((bD t mqn).2)++tQ) tE false)∧((bD t mqn).2).length=324:=by
 have T_t:=aI _ _ yW
 have ld1:bh env hh 3 (AV.ptr tB (tO+322))=some (Zi (t.g 322)):=(fW (j:=322) (o:=tO) k! yW o! l! o!)
 obtain ⟨D2,h3,dX,gZ,Lq⟩:=Gy (d:=d) (h:=h) tO mqn tP t tQ tE tB o! o! o! o! o! o! (t.g 322).toNat (t.g 322) o! (show (0≤(t.g 322)∧(t.g 322)≤t.g 322∧((t.g 322)=0→mqn≤t.g 0)) from by first | exact fG | exact wI jf fG.2.1 fP | omega) (fun k_=>(((AV.ptr tB tO)::(Zi mqn)::AV.undef::AV.undef::(Zi 0)::(Zi (t.g 322))::(AV.ptr tB tO)::(AV.ptr tB tO)::(AV.ptr tB (tO+322))::(Zi (t.g 322))::jX 78):List AV).getD k_ AV.undef) hh aI aE yW
 obtain ⟨aD,E5⟩:∃q_:Int,q_=(aY mqn t (t.g 322).toNat (t.g 322)):=⟨_,rfl⟩
 rw[←E5] at dX Lq
 have zS:=gZ.y
 have agl:hh.nx≤h3.nx:=gZ.n
 have jg:Has h h3:=aE.trans gZ.a
 obtain ⟨yj4,GA⟩:∃yj4:Nat→AV,Ev env (cN (d)) C1 ⟨((AV.ptr tB tO)::(Zi mqn)::rx D2 2 3 ((Zi aD)::rx D2 6 82 [])),h3,[],.no⟩ .normal ⟨((AV.ptr tB tO)::(Zi mqn)::rx D2 2 3 ((Zi aD)::rx D2 6 20 (rx yj4 26 16 ((AV.bool (bif (decide (aD<(t.g 322))) then (decide ((t.g (aD.toNat*2))=mqn)) else false))::rx D2 43 45 [])))),h3,[],.no⟩:=by
  have ld4:bh env h3 3 (AV.ptr tB (tO+322))=some (Zi (t.g 322)):=(fW (j:=322) (o:=tO) k! (gZ.a _ _ yW) o! l! o!)
  rcases Bool.eq_false_or_eq_true (decide (aD<(t.g 322))) with f0 | f0
  · have jf:=of_decide_eq_true f0
    have Lr:bO env (some (.array 161 125)) (some (AV.ptr tB (tO+0))) (some (Zi aD))=some (AV.ptr tB ((tO+0)+aD.toNat*2)):=np (z:=2) (k:=aD.toNat) k! o! o!
    have TG:bh env h3 3 (AV.ptr tB (((tO+0)+aD.toNat*2)+0))=some (Zi (t.g (aD.toNat*2))):=(fW (j:=aD.toNat*2) (o:=tO) k! (gZ.a _ _ yW) o! l! o!)
    have ev:=pk (d) C1 ((AV.ptr tB tO)::(Zi mqn)::rx D2 2 3 ((Zi aD)::rx D2 6 82 [])) h3 .normal h3 (CN 4<|MM ld4<|VV (bL 3 false false .i64 aD (t.g 322))<|CC<|BC f0<|BC f0<|BC f0<|BC f0<|BV f0 Lr<|BC f0<|BM f0 TG<|BC f0<|BV f0 (vE 3 false false .i64 (t.g (aD.toNat*2)) mqn)<|VV (sP (decide ((t.g (aD.toNat*2))=mqn)) false f0)<|ZZ) k!
    rw[show (bif (decide (aD<(t.g 322))) then (decide ((t.g (aD.toNat*2))=mqn)) else false)=(decide ((t.g (aD.toNat*2))=mqn)) by simp only[f0,aj,ai]]
    exact kz ev k!
  · have jf:=of_decide_eq_false f0
    have ev:=pk (d) C1 ((AV.ptr tB tO)::(Zi mqn)::rx D2 2 3 ((Zi aD)::rx D2 6 82 [])) h3 .normal h3 (CN 4<|MM ld4<|VV (bL 3 false false .i64 aD (t.g 322))<|CC<|BB f0<|BB f0<|BB f0<|BB f0<|BB f0<|BB f0<|BB f0<|BB f0<|BV f0 (yB false f0)<|ZZ) k!
    rw[show (bif (decide (aD<(t.g 322))) then (decide ((t.g (aD.toNat*2))=mqn)) else false)=false by simp only[f0,aj,ai]]
    exact kz ev k!
 rcases Bool.eq_false_or_eq_true (bif (decide (aD<(t.g 322))) then (decide ((t.g (aD.toNat*2))=mqn)) else false) with f0 | f0
 · have ev:=pk (d) oi ((AV.ptr tB tO)::(Zi mqn)::jX 86) hh .ret h3 (CN 4<|MM ld1<|CC<|LL dX<|LL GA<|BB f0<|CN 2<|ZZ) k!
   subst E5
   have e:bD t mqn=((aY mqn t (t.g 322).toNat (t.g 322)),t):=by simp only[bD,f0,aj,ai]
   rw[e]
   exact gB rfl (bb Tryz.func107 Lp k! (.inr rfl) ev k!) aI zS o! ⟨jg,(gZ.a _ _ yW),l!⟩ (fun q=>⟨aE,dc q yW (gZ.a _ _ yW),l!⟩)
 · have anX:aD≠0:=fun hz=>agk f0 hz (Lq.2.2 hz) o! o! o!
   have w6:IntKind.i64.wrap (aD+1)=aD+1:=wrap_i64 o! o!
   have TG:bh env h3 3 (AV.ptr tB (tO+322))=some (Zi (t.g 322)):=(fW (j:=322) (o:=tO) k! (gZ.a _ _ yW) o! l! o!)
   have w8:IntKind.i64.wrap ((t.g 322)+1)=(t.g 322)+1:=wrap_i64 o! o!
   rcases Bool.eq_false_or_eq_true (decide ((aD+1).toNat<161)) with f1 | f1
   · have fP:=of_decide_eq_true f1
     have Y2:fe env 126 (AV.ptr tB (tO+0)) (some (Zi (aD+1))) (some (Zi ((t.g 322)+1))) (none)=some (AV.slice tB ((tO+0)+(aD+1).toNat*2) (((t.g 322)+1).toNat -(aD+1).toNat) (161 -(aD+1).toNat) false):=zQ (e:=125) (z:=2) k! k! (lo:=(aD+1).toNat) (hi:=((t.g 322)+1).toNat) o! o! o! o!
     have Iw:bh env h3 3 (AV.ptr tB (tO+322))=some (Zi (t.g 322)):=TG
     have agm:fe env 126 (AV.ptr tB (tO+0)) (some (Zi aD)) (some (Zi (t.g 322))) (none)=some (AV.slice tB ((tO+0)+aD.toNat*2) ((t.g 322).toNat - aD.toNat) (161 - aD.toNat) false):=zQ (e:=125) (z:=2) k! k! (lo:=aD.toNat) (hi:=(t.g 322).toNat) o! o! o! o!
     obtain ⟨On,Y3,Bi,Y4⟩:=Om (cd:=(161 -(aD+1).toNat)) (cq:=(161 - aD.toNat)) (op:=false) (oq:=false) (et:=125) (z:=2) (tys:= #[194,194]) (jd:=(aD+1).toNat*2) (js:=aD.toNat*2) (xd:=(tO+0)+(aD+1).toNat*2) (xs:=(tO+0)+aD.toNat*2) (nd:=(((t.g 322)+1).toNat -(aD+1).toNat)) (ns:=((t.g 322).toNat - aD.toNat)) (o:=tO) zS rfl k! k! (gZ.a _ _ yW) o! o! o! o! o!
     have yX:=Bi.1
     have ac6:(bz t ((aD+1).toNat*2) (aD.toNat*2) ((min ((t.g 322).toNat - aD.toNat) (((t.g 322)+1).toNat -(aD+1).toNat))*2)).g 0=t.g 0:=gK o!
     have Vx:(bz t ((aD+1).toNat*2) (aD.toNat*2) ((min ((t.g 322).toNat - aD.toNat) (((t.g 322)+1).toNat -(aD+1).toNat))*2)).g 322=t.g 322:=gK o!
     have Vy:(bz t ((aD+1).toNat*2) (aD.toNat*2) ((min ((t.g 322).toNat - aD.toNat) (((t.g 322)+1).toNat -(aD+1).toNat))*2)).g 323=t.g 323:=gK o!
     have sR:Has h On:=lf Bi jg sQ
     have w15:IntKind.i64.wrap (aD - 1)=aD - 1:=wrap_i64 o! o!
     have C2:bO env (some (.array 161 125)) (some (AV.ptr tB (tO+0))) (some (Zi (aD - 1)))=some (AV.ptr tB ((tO+0)+(aD - 1).toNat*2)):=np (z:=2) (k:=(aD - 1).toNat) k! o! o!
     have Oo:bh env On 3 (AV.ptr tB (((tO+0)+(aD - 1).toNat*2)+1))=some (Zi ((bz t ((aD+1).toNat*2) (aD.toNat*2) ((min ((t.g 322).toNat - aD.toNat) (((t.g 322)+1).toNat -(aD+1).toNat))*2)).g ((aD - 1).toNat*2+1))):=(fW (j:=((aD - 1).toNat*2+1)) (o:=tO) k! Bi.2.1 o! l! o!)
     have Y5:bO env (some (.array 161 125)) (some (AV.ptr tB (tO+0))) (some (Zi aD))=some (AV.ptr tB ((tO+0)+aD.toNat*2)):=np (z:=2) (k:=aD.toNat) k! o! o!
     obtain ⟨C3,Oq,Bj,aeN⟩:=Gw (t:=125) (j:=aD.toNat*2) (x:=(tO+0)+aD.toNat*2) (o:=tO) (v:=mqn) (w:=((bz t ((aD+1).toNat*2) (aD.toNat*2) ((min ((t.g 322).toNat - aD.toNat) (((t.g 322)+1).toNat -(aD+1).toNat))*2)).g ((aD - 1).toNat*2+1))) yX k! Bi.2.1 o! l! o!
     have sS:=Bj.1
     have ac7:(((bz t ((aD+1).toNat*2) (aD.toNat*2) ((min ((t.g 322).toNat - aD.toNat) (((t.g 322)+1).toNat -(aD+1).toNat))*2)).set (aD.toNat*2) mqn).set (aD.toNat*2+1) ((bz t ((aD+1).toNat*2) (aD.toNat*2) ((min ((t.g 322).toNat - aD.toNat) (((t.g 322)+1).toNat -(aD+1).toNat))*2)).g ((aD - 1).toNat*2+1))).g 0=(bz t ((aD+1).toNat*2) (aD.toNat*2) ((min ((t.g 322).toNat - aD.toNat) (((t.g 322)+1).toNat -(aD+1).toNat))*2)).g 0:=(bn o! _).trans (bn o! _)
     have Vz:(((bz t ((aD+1).toNat*2) (aD.toNat*2) ((min ((t.g 322).toNat - aD.toNat) (((t.g 322)+1).toNat -(aD+1).toNat))*2)).set (aD.toNat*2) mqn).set (aD.toNat*2+1) ((bz t ((aD+1).toNat*2) (aD.toNat*2) ((min ((t.g 322).toNat - aD.toNat) (((t.g 322)+1).toNat -(aD+1).toNat))*2)).g ((aD - 1).toNat*2+1))).g 322=(bz t ((aD+1).toNat*2) (aD.toNat*2) ((min ((t.g 322).toNat - aD.toNat) (((t.g 322)+1).toNat -(aD+1).toNat))*2)).g 322:=(bn o! _).trans (bn o! _)
     have VA:(((bz t ((aD+1).toNat*2) (aD.toNat*2) ((min ((t.g 322).toNat - aD.toNat) (((t.g 322)+1).toNat -(aD+1).toNat))*2)).set (aD.toNat*2) mqn).set (aD.toNat*2+1) ((bz t ((aD+1).toNat*2) (aD.toNat*2) ((min ((t.g 322).toNat - aD.toNat) (((t.g 322)+1).toNat -(aD+1).toNat))*2)).g ((aD - 1).toNat*2+1))).g 323=(bz t ((aD+1).toNat*2) (aD.toNat*2) ((min ((t.g 322).toNat - aD.toNat) (((t.g 322)+1).toNat -(aD+1).toNat))*2)).g 323:=(bn o! _).trans (bn o! _)
     have nu:Has h C3:=lf Bj sR sQ
     have VB:bh env C3 3 (AV.ptr tB (tO+322))=some (Zi ((((bz t ((aD+1).toNat*2) (aD.toNat*2) ((min ((t.g 322).toNat - aD.toNat) (((t.g 322)+1).toNat -(aD+1).toNat))*2)).set (aD.toNat*2) mqn).set (aD.toNat*2+1) ((bz t ((aD+1).toNat*2) (aD.toNat*2) ((min ((t.g 322).toNat - aD.toNat) (((t.g 322)+1).toNat -(aD+1).toNat))*2)).g ((aD - 1).toNat*2+1))).g 322)):=(fW (j:=322) (o:=tO) k! Bj.2.1 o! l! o!)
     have w21:IntKind.i64.wrap (((((bz t ((aD+1).toNat*2) (aD.toNat*2) ((min ((t.g 322).toNat - aD.toNat) (((t.g 322)+1).toNat -(aD+1).toNat))*2)).set (aD.toNat*2) mqn).set (aD.toNat*2+1) ((bz t ((aD+1).toNat*2) (aD.toNat*2) ((min ((t.g 322).toNat - aD.toNat) (((t.g 322)+1).toNat -(aD+1).toNat))*2)).g ((aD - 1).toNat*2+1))).g 322)+1)=((((bz t ((aD+1).toNat*2) (aD.toNat*2) ((min ((t.g 322).toNat - aD.toNat) (((t.g 322)+1).toNat -(aD+1).toNat))*2)).set (aD.toNat*2) mqn).set (aD.toNat*2+1) ((bz t ((aD+1).toNat*2) (aD.toNat*2) ((min ((t.g 322).toNat - aD.toNat) (((t.g 322)+1).toNat -(aD+1).toNat))*2)).g ((aD - 1).toNat*2+1))).g 322)+1:=wrap_i64 o! o!
     obtain ⟨Ot,Y6,Bk,ajs⟩:=zP (t:=3) (j:=322) (x:=tO+322) (o:=tO) (v:=(((((bz t ((aD+1).toNat*2) (aD.toNat*2) ((min ((t.g 322).toNat - aD.toNat) (((t.g 322)+1).toNat -(aD+1).toNat))*2)).set (aD.toNat*2) mqn).set (aD.toNat*2+1) ((bz t ((aD+1).toNat*2) (aD.toNat*2) ((min ((t.g 322).toNat - aD.toNat) (((t.g 322)+1).toNat -(aD+1).toNat))*2)).g ((aD - 1).toNat*2+1))).g 322)+1)) sS k! Bj.2.1 o! l! o!
     have Ou:=Bk.1
     have ac8:((((bz t ((aD+1).toNat*2) (aD.toNat*2) ((min ((t.g 322).toNat - aD.toNat) (((t.g 322)+1).toNat -(aD+1).toNat))*2)).set (aD.toNat*2) mqn).set (aD.toNat*2+1) ((bz t ((aD+1).toNat*2) (aD.toNat*2) ((min ((t.g 322).toNat - aD.toNat) (((t.g 322)+1).toNat -(aD+1).toNat))*2)).g ((aD - 1).toNat*2+1))).set 322 (((((bz t ((aD+1).toNat*2) (aD.toNat*2) ((min ((t.g 322).toNat - aD.toNat) (((t.g 322)+1).toNat -(aD+1).toNat))*2)).set (aD.toNat*2) mqn).set (aD.toNat*2+1) ((bz t ((aD+1).toNat*2) (aD.toNat*2) ((min ((t.g 322).toNat - aD.toNat) (((t.g 322)+1).toNat -(aD+1).toNat))*2)).g ((aD - 1).toNat*2+1))).g 322)+1)).g 0=(((bz t ((aD+1).toNat*2) (aD.toNat*2) ((min ((t.g 322).toNat - aD.toNat) (((t.g 322)+1).toNat -(aD+1).toNat))*2)).set (aD.toNat*2) mqn).set (aD.toNat*2+1) ((bz t ((aD+1).toNat*2) (aD.toNat*2) ((min ((t.g 322).toNat - aD.toNat) (((t.g 322)+1).toNat -(aD+1).toNat))*2)).g ((aD - 1).toNat*2+1))).g 0:=bn o! _
     have VC:((((bz t ((aD+1).toNat*2) (aD.toNat*2) ((min ((t.g 322).toNat - aD.toNat) (((t.g 322)+1).toNat -(aD+1).toNat))*2)).set (aD.toNat*2) mqn).set (aD.toNat*2+1) ((bz t ((aD+1).toNat*2) (aD.toNat*2) ((min ((t.g 322).toNat - aD.toNat) (((t.g 322)+1).toNat -(aD+1).toNat))*2)).g ((aD - 1).toNat*2+1))).set 322 (((((bz t ((aD+1).toNat*2) (aD.toNat*2) ((min ((t.g 322).toNat - aD.toNat) (((t.g 322)+1).toNat -(aD+1).toNat))*2)).set (aD.toNat*2) mqn).set (aD.toNat*2+1) ((bz t ((aD+1).toNat*2) (aD.toNat*2) ((min ((t.g 322).toNat - aD.toNat) (((t.g 322)+1).toNat -(aD+1).toNat))*2)).g ((aD - 1).toNat*2+1))).g 322)+1)).g 322=(((((bz t ((aD+1).toNat*2) (aD.toNat*2) ((min ((t.g 322).toNat - aD.toNat) (((t.g 322)+1).toNat -(aD+1).toNat))*2)).set (aD.toNat*2) mqn).set (aD.toNat*2+1) ((bz t ((aD+1).toNat*2) (aD.toNat*2) ((min ((t.g 322).toNat - aD.toNat) (((t.g 322)+1).toNat -(aD+1).toNat))*2)).g ((aD - 1).toNat*2+1))).g 322)+1):=g7 l!
     have VD:((((bz t ((aD+1).toNat*2) (aD.toNat*2) ((min ((t.g 322).toNat - aD.toNat) (((t.g 322)+1).toNat -(aD+1).toNat))*2)).set (aD.toNat*2) mqn).set (aD.toNat*2+1) ((bz t ((aD+1).toNat*2) (aD.toNat*2) ((min ((t.g 322).toNat - aD.toNat) (((t.g 322)+1).toNat -(aD+1).toNat))*2)).g ((aD - 1).toNat*2+1))).set 322 (((((bz t ((aD+1).toNat*2) (aD.toNat*2) ((min ((t.g 322).toNat - aD.toNat) (((t.g 322)+1).toNat -(aD+1).toNat))*2)).set (aD.toNat*2) mqn).set (aD.toNat*2+1) ((bz t ((aD+1).toNat*2) (aD.toNat*2) ((min ((t.g 322).toNat - aD.toNat) (((t.g 322)+1).toNat -(aD+1).toNat))*2)).g ((aD - 1).toNat*2+1))).g 322)+1)).g 323=(((bz t ((aD+1).toNat*2) (aD.toNat*2) ((min ((t.g 322).toNat - aD.toNat) (((t.g 322)+1).toNat -(aD+1).toNat))*2)).set (aD.toNat*2) mqn).set (aD.toNat*2+1) ((bz t ((aD+1).toNat*2) (aD.toNat*2) ((min ((t.g 322).toNat - aD.toNat) (((t.g 322)+1).toNat -(aD+1).toNat))*2)).g ((aD - 1).toNat*2+1))).g 323:=bn o! _
     have Ov:Has h Ot:=lf Bk nu sQ
     have ev:=pk (d) oi ((AV.ptr tB tO)::(Zi mqn)::jX 86) hh .ret Ot (CN 4<|MM ld1<|CC<|LL dX<|LL GA<|BB f0<|CN 4<|VV (qG 3 false true w6)<|CN 3<|MM TG<|VV (qG 3 false true w8)<|QQ Y2<|CN 7<|MM Iw<|QQ agm<|PP Y3<|HH Iw<|HH (show AV.same 20 (Zi (t.g 322)) (Zi (t.g 322))=true from aS 19 _ _)<|HH Iw<|HH (show AV.same 20 (Zi (t.g 322)) (Zi (t.g 322))=true from aS 19 _ _)<|CN 5<|VV (CO 3 false true w15)<|CN 2<|VV C2<|CC<|MM Oo<|CN 3<|VV Y5<|SS Oq<|HH Oo<|HH (show AV.same 20 (Zi ((bz t ((aD+1).toNat*2) (aD.toNat*2) ((min ((t.g 322).toNat - aD.toNat) (((t.g 322)+1).toNat -(aD+1).toNat))*2)).g ((aD - 1).toNat*2+1))) (Zi ((bz t ((aD+1).toNat*2) (aD.toNat*2) ((min ((t.g 322).toNat - aD.toNat) (((t.g 322)+1).toNat -(aD+1).toNat))*2)).g ((aD - 1).toNat*2+1)))=true from aS 19 _ _)<|CN 3<|MM VB<|VV (qG 3 false true w21)<|CN 2<|SS Y6<|CN 2<|ZZ) k!
     subst E5
     have e:bD t mqn=((aY mqn t (t.g 322).toNat (t.g 322)),((((bz t (((aY mqn t (t.g 322).toNat (t.g 322))+1).toNat*2) ((aY mqn t (t.g 322).toNat (t.g 322)).toNat*2) ((min ((t.g 322).toNat -(aY mqn t (t.g 322).toNat (t.g 322)).toNat) (((t.g 322)+1).toNat -((aY mqn t (t.g 322).toNat (t.g 322))+1).toNat))*2)).set ((aY mqn t (t.g 322).toNat (t.g 322)).toNat*2) mqn).set ((aY mqn t (t.g 322).toNat (t.g 322)).toNat*2+1) ((bz t (((aY mqn t (t.g 322).toNat (t.g 322))+1).toNat*2) ((aY mqn t (t.g 322).toNat (t.g 322)).toNat*2) ((min ((t.g 322).toNat -(aY mqn t (t.g 322).toNat (t.g 322)).toNat) (((t.g 322)+1).toNat -((aY mqn t (t.g 322).toNat (t.g 322))+1).toNat))*2)).g (((aY mqn t (t.g 322).toNat (t.g 322)) - 1).toNat*2+1))).set 322 (((((bz t (((aY mqn t (t.g 322).toNat (t.g 322))+1).toNat*2) ((aY mqn t (t.g 322).toNat (t.g 322)).toNat*2) ((min ((t.g 322).toNat -(aY mqn t (t.g 322).toNat (t.g 322)).toNat) (((t.g 322)+1).toNat -((aY mqn t (t.g 322).toNat (t.g 322))+1).toNat))*2)).set ((aY mqn t (t.g 322).toNat (t.g 322)).toNat*2) mqn).set ((aY mqn t (t.g 322).toNat (t.g 322)).toNat*2+1) ((bz t (((aY mqn t (t.g 322).toNat (t.g 322))+1).toNat*2) ((aY mqn t (t.g 322).toNat (t.g 322)).toNat*2) ((min ((t.g 322).toNat -(aY mqn t (t.g 322).toNat (t.g 322)).toNat) (((t.g 322)+1).toNat -((aY mqn t (t.g 322).toNat (t.g 322))+1).toNat))*2)).g (((aY mqn t (t.g 322).toNat (t.g 322)) - 1).toNat*2+1))).g 322)+1))):=by simp only[bD,f0,f1,aj,ai]
     rw[e]
     exact gB rfl (bb Tryz.func107 Lp k! (.inr rfl) ev k!) aI Ou o! ⟨Ov,Bk.2.1,l!⟩ (fun q=>⟨aE,dc q yW Bk.2.1,l!⟩)
   · have fP:=of_decide_eq_false f1
     have Y2:fe env 126 (AV.ptr tB (tO+0)) (some (Zi (aD+1))) (some (Zi ((t.g 322)+1))) (none)=some (AV.slice tB (tO+0) 0 0 false):=Ol (e:=125) (z:=2) (N:=161) k! k! o! o!
     have Iw:bh env h3 3 (AV.ptr tB (tO+322))=some (Zi (t.g 322)):=TG
     have agm:fe env 126 (AV.ptr tB (tO+0)) (some (Zi aD)) (some (Zi (t.g 322))) (none)=some (AV.slice tB ((tO+0)+aD.toNat*2) ((t.g 322).toNat - aD.toNat) (161 - aD.toNat) false):=zQ (e:=125) (z:=2) k! k! (lo:=aD.toNat) (hi:=(t.g 322).toNat) o! o! o! o!
     obtain ⟨On,Y3,Bi,Y4⟩:=Om (cd:=0) (cq:=(161 - aD.toNat)) (op:=false) (oq:=false) (et:=125) (z:=2) (tys:= #[194,194]) (jd:=0) (js:=aD.toNat*2) (xd:=tO+0) (xs:=(tO+0)+aD.toNat*2) (nd:=0) (ns:=((t.g 322).toNat - aD.toNat)) (o:=tO) zS rfl k! k! (gZ.a _ _ yW) o! o! o! o! o!
     have yX:=Bi.1
     have ac6:(bz t 0 (aD.toNat*2) ((min ((t.g 322).toNat - aD.toNat) 0)*2)).g 0=t.g 0:=gK o!
     have Vx:(bz t 0 (aD.toNat*2) ((min ((t.g 322).toNat - aD.toNat) 0)*2)).g 322=t.g 322:=gK o!
     have Vy:(bz t 0 (aD.toNat*2) ((min ((t.g 322).toNat - aD.toNat) 0)*2)).g 323=t.g 323:=gK o!
     have sR:Has h On:=lf Bi jg sQ
     have w15:IntKind.i64.wrap (aD - 1)=aD - 1:=wrap_i64 o! o!
     have C2:bO env (some (.array 161 125)) (some (AV.ptr tB (tO+0))) (some (Zi (aD - 1)))=some (AV.ptr tB ((tO+0)+(aD - 1).toNat*2)):=np (z:=2) (k:=(aD - 1).toNat) k! o! o!
     have Oo:bh env On 3 (AV.ptr tB (((tO+0)+(aD - 1).toNat*2)+1))=some (Zi ((bz t 0 (aD.toNat*2) ((min ((t.g 322).toNat - aD.toNat) 0)*2)).g ((aD - 1).toNat*2+1))):=(fW (j:=((aD - 1).toNat*2+1)) (o:=tO) k! Bi.2.1 o! l! o!)
     have Y5:bO env (some (.array 161 125)) (some (AV.ptr tB (tO+0))) (some (Zi aD))=some (AV.ptr tB ((tO+0)+aD.toNat*2)):=np (z:=2) (k:=aD.toNat) k! o! o!
     obtain ⟨C3,Oq,Bj,aeN⟩:=Gw (t:=125) (j:=aD.toNat*2) (x:=(tO+0)+aD.toNat*2) (o:=tO) (v:=mqn) (w:=((bz t 0 (aD.toNat*2) ((min ((t.g 322).toNat - aD.toNat) 0)*2)).g ((aD - 1).toNat*2+1))) yX k! Bi.2.1 o! l! o!
     have sS:=Bj.1
     have ac7:(((bz t 0 (aD.toNat*2) ((min ((t.g 322).toNat - aD.toNat) 0)*2)).set (aD.toNat*2) mqn).set (aD.toNat*2+1) ((bz t 0 (aD.toNat*2) ((min ((t.g 322).toNat - aD.toNat) 0)*2)).g ((aD - 1).toNat*2+1))).g 0=(bz t 0 (aD.toNat*2) ((min ((t.g 322).toNat - aD.toNat) 0)*2)).g 0:=(bn o! _).trans (bn o! _)
     have Vz:(((bz t 0 (aD.toNat*2) ((min ((t.g 322).toNat - aD.toNat) 0)*2)).set (aD.toNat*2) mqn).set (aD.toNat*2+1) ((bz t 0 (aD.toNat*2) ((min ((t.g 322).toNat - aD.toNat) 0)*2)).g ((aD - 1).toNat*2+1))).g 322=(bz t 0 (aD.toNat*2) ((min ((t.g 322).toNat - aD.toNat) 0)*2)).g 322:=(bn o! _).trans (bn o! _)
     have VA:(((bz t 0 (aD.toNat*2) ((min ((t.g 322).toNat - aD.toNat) 0)*2)).set (aD.toNat*2) mqn).set (aD.toNat*2+1) ((bz t 0 (aD.toNat*2) ((min ((t.g 322).toNat - aD.toNat) 0)*2)).g ((aD - 1).toNat*2+1))).g 323=(bz t 0 (aD.toNat*2) ((min ((t.g 322).toNat - aD.toNat) 0)*2)).g 323:=(bn o! _).trans (bn o! _)
     have nu:Has h C3:=lf Bj sR sQ
     have VB:bh env C3 3 (AV.ptr tB (tO+322))=some (Zi ((((bz t 0 (aD.toNat*2) ((min ((t.g 322).toNat - aD.toNat) 0)*2)).set (aD.toNat*2) mqn).set (aD.toNat*2+1) ((bz t 0 (aD.toNat*2) ((min ((t.g 322).toNat - aD.toNat) 0)*2)).g ((aD - 1).toNat*2+1))).g 322)):=(fW (j:=322) (o:=tO) k! Bj.2.1 o! l! o!)
     have w21:IntKind.i64.wrap (((((bz t 0 (aD.toNat*2) ((min ((t.g 322).toNat - aD.toNat) 0)*2)).set (aD.toNat*2) mqn).set (aD.toNat*2+1) ((bz t 0 (aD.toNat*2) ((min ((t.g 322).toNat - aD.toNat) 0)*2)).g ((aD - 1).toNat*2+1))).g 322)+1)=((((bz t 0 (aD.toNat*2) ((min ((t.g 322).toNat - aD.toNat) 0)*2)).set (aD.toNat*2) mqn).set (aD.toNat*2+1) ((bz t 0 (aD.toNat*2) ((min ((t.g 322).toNat - aD.toNat) 0)*2)).g ((aD - 1).toNat*2+1))).g 322)+1:=wrap_i64 o! o!
     obtain ⟨Ot,Y6,Bk,ajs⟩:=zP (t:=3) (j:=322) (x:=tO+322) (o:=tO) (v:=(((((bz t 0 (aD.toNat*2) ((min ((t.g 322).toNat - aD.toNat) 0)*2)).set (aD.toNat*2) mqn).set (aD.toNat*2+1) ((bz t 0 (aD.toNat*2) ((min ((t.g 322).toNat - aD.toNat) 0)*2)).g ((aD - 1).toNat*2+1))).g 322)+1)) sS k! Bj.2.1 o! l! o!
     have Ou:=Bk.1
     have ac8:((((bz t 0 (aD.toNat*2) ((min ((t.g 322).toNat - aD.toNat) 0)*2)).set (aD.toNat*2) mqn).set (aD.toNat*2+1) ((bz t 0 (aD.toNat*2) ((min ((t.g 322).toNat - aD.toNat) 0)*2)).g ((aD - 1).toNat*2+1))).set 322 (((((bz t 0 (aD.toNat*2) ((min ((t.g 322).toNat - aD.toNat) 0)*2)).set (aD.toNat*2) mqn).set (aD.toNat*2+1) ((bz t 0 (aD.toNat*2) ((min ((t.g 322).toNat - aD.toNat) 0)*2)).g ((aD - 1).toNat*2+1))).g 322)+1)).g 0=(((bz t 0 (aD.toNat*2) ((min ((t.g 322).toNat - aD.toNat) 0)*2)).set (aD.toNat*2) mqn).set (aD.toNat*2+1) ((bz t 0 (aD.toNat*2) ((min ((t.g 322).toNat - aD.toNat) 0)*2)).g ((aD - 1).toNat*2+1))).g 0:=bn o! _
     have VC:((((bz t 0 (aD.toNat*2) ((min ((t.g 322).toNat - aD.toNat) 0)*2)).set (aD.toNat*2) mqn).set (aD.toNat*2+1) ((bz t 0 (aD.toNat*2) ((min ((t.g 322).toNat - aD.toNat) 0)*2)).g ((aD - 1).toNat*2+1))).set 322 (((((bz t 0 (aD.toNat*2) ((min ((t.g 322).toNat - aD.toNat) 0)*2)).set (aD.toNat*2) mqn).set (aD.toNat*2+1) ((bz t 0 (aD.toNat*2) ((min ((t.g 322).toNat - aD.toNat) 0)*2)).g ((aD - 1).toNat*2+1))).g 322)+1)).g 322=(((((bz t 0 (aD.toNat*2) ((min ((t.g 322).toNat - aD.toNat) 0)*2)).set (aD.toNat*2) mqn).set (aD.toNat*2+1) ((bz t 0 (aD.toNat*2) ((min ((t.g 322).toNat - aD.toNat) 0)*2)).g ((aD - 1).toNat*2+1))).g 322)+1):=g7 l!
     have VD:((((bz t 0 (aD.toNat*2) ((min ((t.g 322).toNat - aD.toNat) 0)*2)).set (aD.toNat*2) mqn).set (aD.toNat*2+1) ((bz t 0 (aD.toNat*2) ((min ((t.g 322).toNat - aD.toNat) 0)*2)).g ((aD - 1).toNat*2+1))).set 322 (((((bz t 0 (aD.toNat*2) ((min ((t.g 322).toNat - aD.toNat) 0)*2)).set (aD.toNat*2) mqn).set (aD.toNat*2+1) ((bz t 0 (aD.toNat*2) ((min ((t.g 322).toNat - aD.toNat) 0)*2)).g ((aD - 1).toNat*2+1))).g 322)+1)).g 323=(((bz t 0 (aD.toNat*2) ((min ((t.g 322).toNat - aD.toNat) 0)*2)).set (aD.toNat*2) mqn).set (aD.toNat*2+1) ((bz t 0 (aD.toNat*2) ((min ((t.g 322).toNat - aD.toNat) 0)*2)).g ((aD - 1).toNat*2+1))).g 323:=bn o! _
     have Ov:Has h Ot:=lf Bk nu sQ
     have ev:=pk (d) oi ((AV.ptr tB tO)::(Zi mqn)::jX 86) hh .ret Ot (CN 4<|MM ld1<|CC<|LL dX<|LL GA<|BB f0<|CN 4<|VV (qG 3 false true w6)<|CN 3<|MM TG<|VV (qG 3 false true w8)<|QQ Y2<|CN 7<|MM Iw<|QQ agm<|PP Y3<|HH Iw<|HH (show AV.same 20 (Zi (t.g 322)) (Zi (t.g 322))=true from aS 19 _ _)<|HH Iw<|HH (show AV.same 20 (Zi (t.g 322)) (Zi (t.g 322))=true from aS 19 _ _)<|CN 5<|VV (CO 3 false true w15)<|CN 2<|VV C2<|CC<|MM Oo<|CN 3<|VV Y5<|SS Oq<|HH Oo<|HH (show AV.same 20 (Zi ((bz t 0 (aD.toNat*2) ((min ((t.g 322).toNat - aD.toNat) 0)*2)).g ((aD - 1).toNat*2+1))) (Zi ((bz t 0 (aD.toNat*2) ((min ((t.g 322).toNat - aD.toNat) 0)*2)).g ((aD - 1).toNat*2+1)))=true from aS 19 _ _)<|CN 3<|MM VB<|VV (qG 3 false true w21)<|CN 2<|SS Y6<|CN 2<|ZZ) k!
     subst E5
     have e:bD t mqn=((aY mqn t (t.g 322).toNat (t.g 322)),((((bz t 0 ((aY mqn t (t.g 322).toNat (t.g 322)).toNat*2) ((min ((t.g 322).toNat -(aY mqn t (t.g 322).toNat (t.g 322)).toNat) 0)*2)).set ((aY mqn t (t.g 322).toNat (t.g 322)).toNat*2) mqn).set ((aY mqn t (t.g 322).toNat (t.g 322)).toNat*2+1) ((bz t 0 ((aY mqn t (t.g 322).toNat (t.g 322)).toNat*2) ((min ((t.g 322).toNat -(aY mqn t (t.g 322).toNat (t.g 322)).toNat) 0)*2)).g (((aY mqn t (t.g 322).toNat (t.g 322)) - 1).toNat*2+1))).set 322 (((((bz t 0 ((aY mqn t (t.g 322).toNat (t.g 322)).toNat*2) ((min ((t.g 322).toNat -(aY mqn t (t.g 322).toNat (t.g 322)).toNat) 0)*2)).set ((aY mqn t (t.g 322).toNat (t.g 322)).toNat*2) mqn).set ((aY mqn t (t.g 322).toNat (t.g 322)).toNat*2+1) ((bz t 0 ((aY mqn t (t.g 322).toNat (t.g 322)).toNat*2) ((min ((t.g 322).toNat -(aY mqn t (t.g 322).toNat (t.g 322)).toNat) 0)*2)).g (((aY mqn t (t.g 322).toNat (t.g 322)) - 1).toNat*2+1))).g 322)+1))):=by simp only[bD,f0,f1,aj,ai]
     rw[e]
     exact gB rfl (bb Tryz.func107 Lp k! (.inr rfl) ev k!) aI Ou o! ⟨Ov,Bk.2.1,l!⟩ (fun q=>⟨aE,dc q yW Bk.2.1,l!⟩)
theorem JL {mqn:Int} {t:List Int}:∀(k:Nat) (v:Int),0≤v→v≤t.g 322→(v=0→mqn≤t.g 0)→v≤k→t.g 0=0→0≤mqn→0≤aY mqn t k v∧aY mqn t k v≤t.g 322∧(aY mqn t k v=0→mqn≤t.g 0)
 | 0,v,a,b,c,_,_,_=>⟨a,b,c⟩
 | k+1,v,a,b,c,d,e,f=>by
   rw[aY]
   by_cases f0:0<v
   · rw[decide_eq_true f0,aj]
     by_cases f1:mqn≤t.g ((Int.toNat (v - 1))*2)
     · rw[decide_eq_true f1,aj]
       refine JL k (v - 1) o! o! (fun hz=>?_) o! e f
       rw[hz] at f1;exact f1
     · rw[decide_eq_false f1,ai];exact ⟨a,b,c⟩
   · rw[decide_eq_false f0,ai];exact ⟨a,b,c⟩
theorem Bl (t:List Int) (mqn:Int) (ln:t.length=324) (p0:1≤t.g 322) (p1:t.g 322≤160) (p2:t.g 0=0) (p3:0≤mqn):0≤(bD t mqn).1∧(bD t mqn).1≤t.g 322∧t.g 322≤(bD t mqn).2.g 322∧(bD t mqn).2.g 322≤t.g 322+1∧(bD t mqn).2.g 0=0∧(bD t mqn).2.g 323=t.g 323∧(bD t mqn).2.length=324:=by
 obtain ⟨a,b,c⟩:=JL (mqn:=mqn) (t:=t) (Int.toNat (t.g 322)) (t.g 322) o! o! o! o! p2 p3
 rw[bD]
 generalize aY mqn t (Int.toNat (t.g 322)) (t.g 322)=i at a b c
 have hc:∀jd js n,(bz t jd js n).length=324:=fun jd js n=>by rw[yk];exact ln
 have tl:∀(L:List Int) (x:Int),L.length=324→L.g 0=0→L.g 323=t.g 323→L.g 322=t.g 322→i≠0→0≤i∧i≤t.g 322∧t.g 322≤(((L.set ((Int.toNat i)*2) mqn).set ((Int.toNat i)*2+1) x).set 322 (((L.set ((Int.toNat i)*2) mqn).set ((Int.toNat i)*2+1) x).g 322+1)).g 322∧(((L.set ((Int.toNat i)*2) mqn).set ((Int.toNat i)*2+1) x).set 322 (((L.set ((Int.toNat i)*2) mqn).set ((Int.toNat i)*2+1) x).g 322+1)).g 322≤t.g 322+1∧(((L.set ((Int.toNat i)*2) mqn).set ((Int.toNat i)*2+1) x).set 322 (((L.set ((Int.toNat i)*2) mqn).set ((Int.toNat i)*2+1) x).g 322+1)).g 0=0∧(((L.set ((Int.toNat i)*2) mqn).set ((Int.toNat i)*2+1) x).set 322 (((L.set ((Int.toNat i)*2) mqn).set ((Int.toNat i)*2+1) x).g 322+1)).g 323=t.g 323∧(((L.set ((Int.toNat i)*2) mqn).set ((Int.toNat i)*2+1) x).set 322 (((L.set ((Int.toNat i)*2) mqn).set ((Int.toNat i)*2+1) x).g 322+1)).length=324:=by
  intro L x hl h0 h3 h2 hi
  have e2:((L.set ((Int.toNat i)*2) mqn).set ((Int.toNat i)*2+1) x).g 322=t.g 322:=by
   rw[bn o!,bn o!,h2]
  rw[e2,g7 (by rw[List.length_set,List.length_set,hl];decide),bn o!,bn o!,bn o!,bn o!,bn o!,bn o!,h0,h3]
  exact ⟨a,b,by omega,by omega,rfl,rfl,by rw[List.length_set,List.length_set,List.length_set,hl]⟩
 by_cases f0:i<t.g 322
 · rw[decide_eq_true f0,aj]
   by_cases f1:t.g ((Int.toNat i)*2)=mqn
   · rw[decide_eq_true f1,aj];exact ⟨a,b,Int.le_refl _,by show t.g 322≤t.g 322+1;omega,p2,rfl,ln⟩
   · rw[decide_eq_false f1,ai]
     have hi:i≠0:=fun hz=>f1 (by subst hz;have:=c rfl;show t.g 0=mqn;omega)
     by_cases f2:(Int.toNat (i+1))<161
     · rw[decide_eq_true f2,aj]
       exact tl _ _ (hc _ _ _) (by rw[gK o!];exact p2) (gK o!) (gK o!) hi
     · exfalso;omega
 · rw[decide_eq_false f0,ai,ai]
   have hi:i≠0:=by omega
   by_cases f1:(Int.toNat (i+1))<161
   · rw[decide_eq_true f1,aj]
     exact tl _ _ (hc _ _ _) (by rw[gK o!];exact p2) (gK o!) (gK o!) hi
   · rw[decide_eq_false f1,ai]
     exact tl _ _ (hc _ _ _) (by rw[gK o!];exact p2) (gK o!) (gK o!) hi
theorem o7 {p:Prop} (h:p:=by first | omega | assumption | (simp only[List.length_set,List.length_replicate,List.length_append,List.length_cons,List.length_nil,List.nil_append]<;>omega) | (rw[List.length_take];omega)):p:=h
theorem Bm {p:Prop} (h:p:=by first | assumption | exact ij ch o!):p:=h
def GB:Code:=(Tryz.f51.body).getD .skip
theorem TH:Tryz.f51.body=some GB:=by kernel_rfl
def VE:Code:=(bw GB).getD 0 .skip
def fw (pieces:Int) (t:List Int) (s:Span):Nat→Int→List Int→List Int
 | 0,fQ,bj=>bj
 | dq+1,fQ,bj=>(bif (decide (fQ<((bD (bD t s.bq).2 (s.ba+1)).1))) then fw pieces t s dq (fQ+1) (bj.set (fQ.toNat*2+1) (IntKind.i64.wrap ((bj.g (fQ.toNat*2+1))+pieces))) else bj)
theorem GC {d:Nat} {h:aC} (tO:Nat) (pieces:Int) (t:List Int) (s:Span) (tP:List AV) (tQ:List AV) (tE:TypeId) (bk:Nat) (g5:aR.ok h s) (hF:1≤t.g 322) (je:t.g 322≤159) (mI:t.g 0=0) (nq:0≤s.bq) (pF:s.ba≤100000000) (pY:tP.length=tO) (ch:Tidy h) (uo:h.get bk=none):∀(k_:Nat) (fQ:Int) (bj:List Int) (_:((bD (bD t s.bq).2 (s.ba+1)).1) - fQ≤(k_:Int)) (_:(((0:Int)≤1)∧(0≤fQ∧((bD (bD t s.bq).2 (s.ba+1)).1)≤161))) (x:Nat→AV) (hh:aC) (aI:Tidy hh) (aE:Has h hh) (gC:h.nx≤hh.nx) (jh:bj.length=324) (br:hh.get bk=some (aM.cells (tP++zs .i64 bj++tQ) tE false)),bS (σ:=List Int) (ρ:=Unit) (cN (d+1)) VE ⟨((AV.ptr bk tO)::(x 1)::(Zi pieces)::rx x 3 4 ((Zi (bD (bD t s.bq).2 (s.ba+1)).1)::(Zi fQ)::rx x 9 33 [])),hh,[],.no⟩ (.exit 0) hh (fun r z y=>((AV.ptr bk tO)::(y 1)::(Zi pieces)::rx y 3 4 ((Zi (bD (bD t s.bq).2 (s.ba+1)).1)::rx y 8 34 []))) (fun r z y=>((AV.ptr bk tO)::(y 1)::(Zi pieces)::rx y 3 4 ((Zi (bD (bD t s.bq).2 (s.ba+1)).1)::rx y 8 34 []))) (fun r z hk=>Has h hk∧hk.get bk=some (aM.cells (tP++zs .i64 r++tQ) tE false)∧r.length=324∧((0:Int)≤1)) (fun r z hk=>Has h hk) (Sum.inl (fw pieces t s k_ fQ bj))
 | 0,fQ,bj,fX,fG,x,hh,aI,aE,gC,jh,br=>by
   have q1:(decide (fQ<((bD (bD t s.bq).2 (s.ba+1)).1)))=false:=d!
   exact bS.out bj AV.undef rfl (pk (d+1) _ _ hh _ hh (CN 2<|VV (bL 3 false false .i64 fQ (bD (bD t s.bq).2 (s.ba+1)).1)<|BB q1<|ZZ) k!) aI o! ⟨aE,br,l!,(show ((0:Int)≤1) from o!)⟩ k!
 | dq+1,fQ,bj,fX,fG,x,hh,aI,aE,gC,jh,br=>by
   have sU:=aI _ _ br
   have dJ:=fun {al ps} (k:Pk al _ ps)=>(CN 2<|VV (bL 3 false false .i64 fQ (bD (bD t s.bq).2 (s.ba+1)).1)<|k:Pk _ [] ps)
   rcases Bool.eq_false_or_eq_true (decide (fQ<((bD (bD t s.bq).2 (s.ba+1)).1))) with f0 | f0
   · have jf:=of_decide_eq_true f0
     have iW:bO env (some (.array 161 125)) (some (AV.ptr bk (tO+0))) (some (Zi fQ))=some (AV.ptr bk ((tO+0)+fQ.toNat*2)):=np (z:=2) (k:=fQ.toNat) k! o! o!
     have ld3:bh env hh 3 (AV.ptr bk (((tO+0)+fQ.toNat*2)+1))=some (Zi (bj.g (fQ.toNat*2+1))):=(fW (j:=(fQ.toNat*2+1)) (o:=tO) k! br o! l! o!)
     have WZ:bO env (some (.array 161 125)) (some (AV.ptr bk (tO+0))) (some (Zi fQ))=some (AV.ptr bk ((tO+0)+fQ.toNat*2)):=np (z:=2) (k:=fQ.toNat) k! o! o!
     obtain ⟨h5,Y8,agn,ago⟩:=zP (t:=3) (j:=(fQ.toNat*2+1)) (x:=((tO+0)+fQ.toNat*2)+1) (o:=tO) (v:=(IntKind.i64.wrap ((bj.g (fQ.toNat*2+1))+pieces))) aI k! br o! l! o!
     have pZ:=agn.1
     have amc:(bj.set (fQ.toNat*2+1) (IntKind.i64.wrap ((bj.g (fQ.toNat*2+1))+pieces))).g 0=bj.g 0:=bn o! _
     have aju:(bj.set (fQ.toNat*2+1) (IntKind.i64.wrap ((bj.g (fQ.toNat*2+1))+pieces))).g 322=bj.g 322:=bn o! _
     have ajv:(bj.set (fQ.toNat*2+1) (IntKind.i64.wrap ((bj.g (fQ.toNat*2+1))+pieces))).g 323=bj.g 323:=bn o! _
     have hG:Has h h5:=lf agn aE Bm
     have w6:IntKind.i64.wrap (fQ+1)=fQ+1:=wrap_i64 o! o!
     exact bS.round (congrArg Sum.inl (by simp only[fw,f0,aj,ai])) (pk (d+1) _ _ hh _ h5 (dJ<|BB f0<|CN 4<|VV iW<|CC<|MM ld3<|CN 4<|VV WZ<|CC<|SS Y8<|HH ld3<|HH (show AV.same 20 (Zi (bj.g (fQ.toNat*2+1))) (Zi (bj.g (fQ.toNat*2+1)))=true from aS 19 _ _)<|CC<|VV (qG 3 false true w6)<|CC<|ZZ) k!) o! _ k! (fun x=>GC tO pieces t s tP tQ tE bk g5 hF je mI nq pF pY ch uo dq (fQ+1) (bj.set (fQ.toNat*2+1) (IntKind.i64.wrap ((bj.g (fQ.toNat*2+1))+pieces))) o! (show (((0:Int)≤1)∧(0≤(fQ+1)∧((bD (bD t s.bq).2 (s.ba+1)).1)≤161)) from o!) x h5 pZ hG o! l! agn.2.1)
   · exact bS.out bj AV.undef (congrArg Sum.inl (by simp only[fw,f0,aj,ai])) (pk (d+1) _ _ hh _ hh (dJ<|BB f0<|ZZ) k!) aI o! ⟨aE,br,l!,(show ((0:Int)≤1) from o!)⟩ k!
def eU (t:List Int) (s:Span) (pieces:Int):List Int:=(bif (decide (s.ba<s.bq)) then t else (fw pieces t s ((bD (bD t s.bq).2 (s.ba+1)).1 -((bD t s.bq).1)).toNat (bD t s.bq).1 (bD (bD t s.bq).2 (s.ba+1)).2))
theorem TI {d:Nat} {h hh:aC} {tB tO:Nat} {tP tQ:List AV} {tE:TypeId} (t:List Int) (s:Span) (pieces:Int) (AK:aR.ok h s) (yW:hh.get tB=some (aM.cells (tP++zs .i64 t++tQ) tE false)) (ac4:tP.length=tO) (ac5:t.length=324) (p_t:h.get tB=none) (l6:1≤t.g 322) (om:t.g 322≤159) (yD:t.g 0=0) (zR:0≤s.bq) (Ex:s.ba≤100000000) (ch:Tidy h) (aI:Tidy hh) (aE:Has h hh) (gC:h.nx≤hh.nx):∃hk,cN (d+2) (.fn 51) [(AV.ptr tB tO),(AV.agg [(Zi s.bq),(Zi s.ba)]),(Zi pieces)] hh= .ret (AV.tuple []) hk∧Tidy hk∧hh.nx≤hk.nx∧Has h hk∧hk.get tB=some (aM.cells (tP++zs .i64 (eU t s pieces)++tQ) tE false)∧(eU t s pieces).length=324:=by
 have T_t:=aI _ _ yW
 obtain ⟨h1,di,cS,jU,bm,bP⟩:=jE aI (aM.cells [(Zi s.bq),(Zi s.ba)] 72 false)
 have bA:Has h h1:=aE.trans bP
 have hX:=fun {al ps} (k:Pk al _ ps)=>(NN di (fun i=>(Pt i))<|CC<|MM (aO 3 0 (Zi s.bq) bm k!)<|CC<|MM (aO 3 1 (Zi s.ba) bm k!)<|VV (dw 3 false false .i64 s.bq s.ba)<|k:Pk _ [] ps)
 rcases Bool.eq_false_or_eq_true (decide (s.ba<s.bq)) with f0 | f0
 · have jf:=of_decide_eq_true f0
   have e:eU t s pieces=t:=by simp only[eU,f0,aj,ai]
   rw[e]
   exact gB rfl (bb Tryz.func51 TH rfl (.inr rfl) (pk (d+1) _ _ hh _ h1 (hX<|BB f0<|ZZ) k!) k!) aI cS o! ⟨bA,(bP _ _ yW),l!⟩ (fun q=>⟨aE,dc q yW (bP _ _ yW),l!⟩)
 · have jf:=of_decide_eq_false f0
   have w3:IntKind.i64.wrap (s.ba+1)=s.ba+1:=wrap_i64 o! o!
   obtain ⟨hw4,ajw,amd,agp,agq,Y9⟩:=dz cS (bP _ _ yW)
   have ajx:Has h hw4:=bG bA Bm Y9
   obtain ⟨h5,ame,pZ,ajy,TJ,Y_,agr⟩:=TF (d:=d) (h:=hw4) (tO:=tO) t s.bq (bP _ _ yW) o! l! agp o7 o7 o7 o7 ajw cS agq o!
   have anY:=Bl t s.bq o! o! o! o! o!
   have hG:Has h h5:=(ajx.trans TJ)
   obtain ⟨hw6,Ow,Y',GD,GF,rY⟩:=dz pZ Y_
   have Ox:Has h hw6:=bG hG Bm rY
   obtain ⟨h7,amf,eP,VF,sW,ags,Q5⟩:=TF (d:=d) (h:=hw6) (tO:=tO) (bD t s.bq).2 (s.ba+1) Y_ o! l! GD o7 o7 o7 o7 Ow pZ GF o!
   have anZ:=Bl (bD t s.bq).2 (s.ba+1) o! o! o! o! o!
   have dm:Has h h7:=(Ox.trans sW)
   obtain ⟨ajz,yl8,h9,ot,uq,VG,wK,Q6,Q7,ak2⟩:=bS.n rfl (GC (d:=d) (h:=h) tO pieces t s tP tQ tE tB AK o! o! o! o! o! o! ch Bm ((bD (bD t s.bq).2 (s.ba+1)).1 -((bD t s.bq).1)).toNat (bD t s.bq).1 (bD (bD t s.bq).2 (s.ba+1)).2 o! (show (((0:Int)≤1)∧(0≤((bD t s.bq).1)∧((bD (bD t s.bq).2 (s.ba+1)).1)≤161)) from o!) (fun k_=>(((AV.ptr tB tO)::(AV.agg [(Zi s.bq),(Zi s.ba)])::(Zi pieces)::AV.undef::(Pt hh.nx)::AV.undef::(Zi (bD t s.bq).1)::(Zi (bD (bD t s.bq).2 (s.ba+1)).1)::(Zi (bD t s.bq).1)::(Pt hh.nx)::(Zi s.bq)::(AV.ptr hh.nx 1)::(Zi s.ba)::(AV.bool (decide (s.ba<s.bq)))::(AV.ptr tB tO)::(Pt hh.nx)::(Zi s.bq)::(Zi (bD t s.bq).1)::(AV.ptr tB tO)::(AV.ptr hh.nx 1)::(Zi s.ba)::(Zi (s.ba+1))::(Zi (bD (bD t s.bq).2 (s.ba+1)).1)::(Zi (bD t s.bq).1)::jX 18):List AV).getD k_ AV.undef) h7 eP dm o! l! ags)
   have mJ:Has h h9:=wK
   have e:eU t s pieces=(fw pieces t s ((bD (bD t s.bq).2 (s.ba+1)).1 -((bD t s.bq).1)).toNat (bD t s.bq).1 (bD (bD t s.bq).2 (s.ba+1)).2):=by simp only[eU,f0,aj,ai]
   rw[e]
   exact gB rfl (bb Tryz.func51 TH rfl (.inl rfl) (pk (d+1) _ _ hh _ h9 (hX<|BB f0<|CN 2<|MM (aO 3 0 (Zi s.bq) bm k!)<|CN 2<|MM (aO 3 1 (Zi s.ba) bm k!)<|VV (qG 3 false true w3)<|EE ame<|EE amf<|CN 2<|HH (aO 3 0 (Zi s.bq) bm k!)<|HH (show AV.same 20 (Zi s.bq) (Zi s.bq)=true from aS 19 _ _)<|HH (aO 3 1 (Zi s.ba) bm k!)<|HH (show AV.same 20 (Zi s.ba) (Zi s.ba)=true from aS 19 _ _)<|HH (aO 3 1 (Zi s.ba) (TJ _ _ ((Y9 _ o!).trans bm)) k!)<|HH (show AV.same 20 (Zi s.ba) (Zi s.ba)=true from aS 19 _ _)<|CN 2<|LL ot<|ZZ) k!) k!) aI uq o! ⟨mJ,Q6,l!⟩ (fun q=>⟨aE,dc q yW Q6,l!⟩)
def fit (l:List Int):List Int:=(l++List.replicate 324 0).take 324
theorem uv (l:List Int):(fit l).length=324:=by
 rw[fit,List.length_take,List.length_append,List.length_replicate];omega
theorem rZ {l:List Int} (h:l.length=324):fit l=l:=by
 rw[fit,←h,List.take_left'];rfl
structure Tl where
 l:List Int
def jV (L:List Tl):List AV:=L.flatMap fun t=>zs .i64 (fit t.l)
instance:Inhabited Tl:=⟨⟨[]⟩⟩
theorem TL (t:Tl):(zs .i64 (fit t.l)).length=324:=by rw[fO,uv]
theorem Za (L:List Tl):(jV L).length=L.length*324:=gR TL L
theorem Bn (a b:List Tl):jV (a++b)=jV a++jV b:=List.flatMap_append ..
theorem Bo {L:List Tl} {i:Nat} (h:i<L.length):jV L=jV (L.take i)++zs .i64 (fit (L.g i).l)++jV (L.drop (i+1))∧(jV (L.take i)).length=i*324:=by
 constructor
 · have e:L=L.take i++[L.g i]++L.drop (i+1):=by
    have hg:L.g i=L[i]:=by rw[List.g,List.getD_eq_getElem?_getD,List.getElem?_eq_getElem h];rfl
    rw[hg,List.append_assoc,List.singleton_append,←List.drop_eq_getElem_cons h,List.take_append_drop]
   rw[congrArg jV e,Bn,Bn]
   rw[show jV [L.g i]=zs .i64 (fit (L.g i).l) from List.append_nil _]
 · rw[Za,List.length_take,Nat.min_eq_left (Nat.le_of_lt h)]
theorem Zb {L:List Tl} {i:Nat} (h:i<L.length) {t:List Int} (ht:t.length=324):jV (L.set i ⟨t⟩)=jV (L.take i)++zs .i64 t++jV (L.drop (i+1)):=by
 have e:L.set i ⟨t⟩=L.take i++[⟨t⟩]++L.drop (i+1):=by rw[List.set_eq_take_append_cons_drop,if_pos h];simp
 rw[e,Bn,Bn]
 rw[show jV [⟨t⟩]=zs .i64 (fit t) from List.append_nil _,rZ ht]
theorem Ls {h:aC} {b i:Nat} {L:List Tl} {e:TypeId} {ro:Bool} (hg:h.get b=some (.cells (jV L) e ro)) (hi:i<L.length):h.get b=some (.cells (jV (L.take i)++zs .i64 (fit (L.g i).l)++jV (L.drop (i+1))) e ro):=by
 rw[hg,(Bo hi).1]
theorem Zc {h:aC} {b i:Nat} {L:List Tl} {e:TypeId} {ro:Bool} {t:List Int} (hi:i<L.length) (ht:t.length=324) (hg:h.get b=some (.cells (jV (L.take i)++zs .i64 t++jV (L.drop (i+1))) e ro)):h.get b=some (.cells (jV (L.set i ⟨t⟩)) e ro):=by
 rw[hg,Zb hi ht]
theorem VH {L:List Tl} {i:Nat} {t:Tl} (h:i<L.length):(L.set i t).g i=t:=by
 rw[List.g,List.getD_eq_getElem?_getD,List.getElem?_set_self h];rfl
theorem C4 {L:List Tl} {i j:Nat} (h:i≠j) (t:Tl):(L.set i t).g j=L.g j:=by
 rw[List.g,List.g,List.getD_eq_getElem?_getD,List.getD_eq_getElem?_getD,List.getElem?_set_ne h]
def bsl (e:TypeId) (L:List Int):Option (aM×(Nat→AV)):=match qt (fun i=>some (i*324,324)) (bT (zs .i64 (List.replicate 324 0)) 1) [(0,AV.agg (zs .i64 L))] with
 | some cs=>some (.cells cs e false,fun i=> .slice i 0 1 1 false)
 | none=>none
theorem agt {e:TypeId} {L:List Int} (h:L.length=324):bsl e L=some (.cells (zs .i64 L) e false,fun i=> .slice i 0 1 1 false):=by
 have hr:bT (zs .i64 (List.replicate 324 0)) 1=[]++zs .i64 (List.replicate 324 0)++[]:=by
  rw[List.nil_append];rfl
 have hc:(AV.agg (zs .i64 L)).cells=zs .i64 L:=rfl
 have hs:=wH [] [] L (List.replicate 324 0) 0 (by rw[List.length_replicate,h];exact Nat.le_refl _)
 have hf:qt (fun i=>some (i*324,324)) (bT (zs .i64 (List.replicate 324 0)) 1) [(0,AV.agg (zs .i64 L))]=some (zs .i64 L):=by
  rw[hr]
  simp only[qt,hc,fO,h]
  rw[if_pos ⟨trivial,by simp [fO]⟩,show 0*324=List.length ([]:List AV)+0 from rfl,hs]
  simp [h]
 rw[bsl,hf]
theorem Q8 {h:aC} {b t:Nat} {e:TypeId} {C:List AV} {L:List Int} (y:Tidy h) (hs:ca env t=some 324) (hg:h.get b=some (.cells C e false)) (hC:C.length=324) (hL:L.length=324):∃(P Q:List AV) (h':aC),dV env h t (.ptr b 0) (.agg (zs .i64 L))=some h'∧Iv h h' b (.cells (P++zs .i64 L++Q) e false)∧h'.nx=h.nx∧P.length=0:=by
 refine ⟨[],[],?_⟩
 obtain ⟨h',s⟩:=wE (E:=env) (t:=t) (o:=0) (n:=324) (v:= .agg (zs .i64 L)) hg hs (by show (zs .i64 L).length=324;rw[fO,hL]) o! (yl L)
 have q:=o5 s hg
 have c:=jD (o:= .cells ([]++zs .i64 L++[]) e false) y hg
 have e2:setFrom C 0 (AV.agg (zs .i64 L)).cells=[]++zs .i64 L++[]:=by
  show setFrom C 0 (zs .i64 L)=_
  rw[List.nil_append,List.append_nil]
  apply List.ext_getElem?
  intro k
  rw[mS,fO]
  by_cases hk:k<324
  · rw[if_pos ⟨by omega,by omega,by omega⟩,Nat.sub_zero]
  · rw[if_neg o!,List.getElem?_eq_none o!,List.getElem?_eq_none (by rw[fO];omega)]
 rw[e2] at q
 subst q
 exact ⟨_,s,c,rfl,rfl⟩
theorem VI {h:aC} {b t:Nat} {e:TypeId} {ro:Bool} {P Q:List AV} {L:List Int} (ha:gq env t=some true) (hs:ca env t=some 324) (hg:h.get b=some (.cells (P++zs .i64 L++Q) e ro)) (hP:P.length=0) (hL:L.length=324):bh env h t (.ptr b 0)=some (.agg (zs .i64 L)):=by
 have:P=[]:=List.length_eq_zero_iff.1 hP
 subst this
 simp only[bh,hg,jW,ha,hs]
 rw[if_pos (by simp [fO];omega)]
 rw[List.nil_append,List.drop_zero,List.take_append_of_le_length (by rw[fO];omega),List.take_of_length_le (by rw[fO];omega)]
instance:aR Tl:={toInhabited:=inferInstance,c:=fun t=>zs .i64 (fit t.l),n:=324,e:=128,len:=TL,ok:=fun _ _=>True,mono:=fun _ o=>o,size:=by kernel_rfl,agg:=by kernel_rfl,pos:=by decide}
def nv (g h:aC) (z:AV) (L:List Tl):Prop:=(z= .aG∧L=[])∨(L≠ []∧∃p op,z= .slice p 0 L.length L.length op∧g.nx≤p∧h.get p=some (.cells (jV L) 128 false))
theorem nv.ac1 {g h:aC} {s xt b:TypeId} {tys:Array TypeId} {bytes:Nat} {z0 z:AV} {L:List Tl} {t:List Int} {e:TypeId} {ro op:Bool} (y:Tidy h) (hle:g.nx≤h.nx) (o:nv g h z L) (hg:h.get b=some (.cells (zs .i64 t) e ro)) (ht:t.length=324) (hl:L.length≤1000)
 (t0:tys[0]? =some s) (t1:tys[1]? =some xt) (hs:env.P.underlying s=some (.slice 128)) (hx:env.P.underlying xt=some (.slice 128)) (hb:kH env 128=some bytes) (Ib:iu env 128=some z0) (hz:z0.cells.length=324) (h8:bytes≤4095):
 ∃z' h',du env h tys z (.slice b 0 1 1 op)=some (z',h')∧Tidy h'∧h.nx≤h'.nx∧(∀i w,i<g.nx→h.get i=some w→h'.get i=some w)∧nv g h' z' (L++[⟨t⟩]):=by
 let he:aC:=⟨HT.nil,g.nx,fun _=>none⟩
 have hen:∀i,he.get i=none:=fun i=>Tq i g.nx
 have ye:Tidy he:=fun i x q=>by rw[hen] at q;cases q
 have ae:Has he h:=fun i x q=>by rw[hen] at q;cases q
 have oe:rX he h z L:=o.imp (fun q=>⟨.inl q.1,q.2⟩) id
 have hc:aR.c (⟨t⟩:Tl)=zs .i64 t:=congrArg (zs .i64) (rZ ht)
 obtain ⟨z',h',a1,a2,a3,a4,a5,a6⟩:=rX.ajo (α:=Tl) (N:=2000) (m:=[⟨t⟩]) (x:= .slice b 0 1 1 op) y ye ae hle oe rfl (Gv (x:=(⟨t⟩:Tl)) (by rw[hc];exact hg)) (by rw[List.flatMap_cons,List.flatMap_nil,List.append_nil,hc];exact yl t) (by simp;omega) t0 t1 hs hx hb Ib hz (fun k hk=>Nat.le_trans (Nat.mul_le_mul (show 4*k+4096≤20000 by omega) (show bytes+1≤4096 by omega)) (by decide))
 refine ⟨z',h',a1,a2,a3,fun i w hi q=>a6 i w (fun p n c b e=>?_) q,?_⟩
 · rcases o with ⟨rfl,_⟩ | ⟨_,p',op',rfl,h1,_⟩
   · cases e
   · have:=(AV.slice.inj e).1;omega
 · rcases a5 with ⟨_,e⟩ | q
   · simp at e
   · exact .inr q
theorem nv.has {g h h':aC} {z:AV} {L:List Tl} (o:nv g h z L) (a:Has h h'):nv g h' z L:=o.imp id fun ⟨hn,p,op,e,h1,q⟩=>⟨hn,p,op,e,h1,a _ _ q⟩
theorem nv.kept {g h h':aC} {z:AV} {L:List Tl} {b:Nat} (o:nv g h z L) (c:Kept b h h') (hb:b<g.nx):nv g h' z L:=o.imp id fun ⟨hn,p,op,e,h1,q⟩=>⟨hn,p,op,e,h1,c _ _ o! q⟩
theorem nv.scalar {g h:aC} {z:AV} {L:List Tl} (o:nv g h z L):AV.scalar z=true:=by
 rcases o with ⟨rfl,_⟩ | ⟨hn,p,op,rfl,h1,q⟩<;>rfl
theorem nv.block {g h:aC} {z:AV} {L:List Tl} (o:nv g h z L) (hL:0<L.length):∃p op,z= .slice p 0 L.length L.length op∧g.nx≤p∧h.get p=some (.cells (jV L) 128 false):=by
 rcases o with ⟨_,rfl⟩ | ⟨_,p,op,e,h1,q⟩
 · simp at hL
 · exact ⟨p,op,e,h1,q⟩
theorem nv.ajA {g h:aC} {z:AV} {L:List Tl} (o:nv g h z L) (hL:L.length=0):z= .aG:=by
 rcases o with ⟨e,_⟩ | ⟨hn,_⟩
 · exact e
 · exact absurd (List.length_eq_zero_iff.1 hL) hn
def rp (c:Int) (t:Tl):Prop:=1≤(fit t.l).g 322∧(fit t.l).g 322≤c∧(fit t.l).g 0=0
theorem rp.le {c c':Int} {t:Tl} (h:rp c t) (hc:c≤c'):rp c' t:=⟨h.1,Int.le_trans h.2.1 hc,h.2.2⟩
theorem Oy {nx:Nat} {a b z:AV} {cs:List AV} (h:AV.within nx 20 (.agg (a::b::z::cs))=true):AV.within nx (18+1) z=true:=by
 simp only[AV.within,List.all_cons,Bool.and_eq_true] at h
 exact h.2.2.1
theorem Zd {A:List Tl} {u:List og} {v:Int} {t:Tl} {n:Int} (ur:∀q,q<u.length→0≤(u.g q).ah∧(u.g q).ah<n) (ud:∀a,a<u.length→∀b,a<b→b<u.length→(u.g a).ah≠(u.g b).ah) (h0:0≤v) (hv:v<(u.length:Int)) (hi:∀q:Nat,v≤(q:Int)→q<u.length→rp 159 (A.g (Int.toNat (u.g q).ah))):∀q:Nat,v+1≤(q:Int)→q<u.length→rp 159 ((A.set (Int.toNat (u.g (Int.toNat v)).ah) t).g (Int.toNat (u.g q).ah)):=fun q hq hl=>by
 have a:=ur (Int.toNat v) o!
 have b:=ur q hl
 have c:=ud (Int.toNat v) o! q o! hl
 rw[C4 o!]
 exact hi q o! hl
theorem D3 {pieces:Int} {t:List Int} {s:Span} (h1:(bD (bD t s.bq).2 (s.ba+1)).1≤161):∀(kq:Nat) (v:Int) (a:List Int),0≤v→a.length=324→(fw pieces t s kq v a).length=324∧(fw pieces t s kq v a).g 322=a.g 322∧(fw pieces t s kq v a).g 323=a.g 323∧(fw pieces t s kq v a).g 0=a.g 0
 | 0,v,a,hv,ha=>by rw[fw];exact ⟨ha,rfl,rfl,rfl⟩
 | kq+1,v,a,hv,ha=>by
   rw[fw]
   by_cases f:v<(bD (bD t s.bq).2 (s.ba+1)).1
   · rw[decide_eq_true f,aj]
     obtain ⟨b1,b2,b3,b4⟩:=D3 h1 kq (v+1) (a.set ((Int.toNat v)*2+1) (IntKind.i64.wrap ((a.g ((Int.toNat v)*2+1))+pieces))) o! (by rw[List.length_set];exact ha)
     exact ⟨b1,by rw[b2,bn o!],by rw[b3,bn o!],by rw[b4,bn o!]⟩
   · rw[decide_eq_false f,ai];exact ⟨ha,rfl,rfl,rfl⟩
theorem Bq (t:List Int) (s:Span) (p:Int) (ln:t.length=324) (p0:1≤t.g 322) (p1:t.g 322≤159) (p2:t.g 0=0) (p3:0≤s.bq) (p4:s.ba≤100000000):1≤(eU t s p).g 322∧(eU t s p).g 322≤t.g 322+2∧(eU t s p).g 0=0∧(eU t s p).g 323=t.g 323∧(eU t s p).length=324:=by
 rw[eU]
 by_cases f:s.ba<s.bq
 · rw[decide_eq_true f,aj];exact ⟨p0,by omega,p2,rfl,ln⟩
 · rw[decide_eq_false f,ai]
   obtain ⟨a1,a2,a3,a4,a5,a6,a7⟩:=Bl t s.bq ln p0 o! p2 p3
   obtain ⟨c1,c2,c3,c4,c5,c6,c7⟩:=Bl (bD t s.bq).2 (s.ba+1) a7 o! o! a5 o!
   obtain ⟨b1,b2,b3,b4⟩:=D3 (pieces:=p) (t:=t) (s:=s) o! (Int.toNat ((bD (bD t s.bq).2 (s.ba+1)).1 -((bD t s.bq).1))) (bD t s.bq).1 (bD (bD t s.bq).2 (s.ba+1)).2 a1 c7
   exact ⟨by omega,by omega,by omega,by omega,b1⟩
theorem yY (aJ:Int):(cI aJ).g 322=1∧(cI aJ).g 0=0∧(cI aJ).length=324∧(cI aJ).g 323=aJ:=⟨rfl,rfl,rfl,rfl⟩
end
end Go.Proofs.aQ
